import PyProof.Rows.All
import Wide.All
import OpenK.AllK
import Wide.FinOn
import Lean
import PyProof.EqAt
import PyProof.EqKinds
import PyProof.TupleCall
import PySem.Challenge.RW_modeyard_k19_lists_that_are_not_fit
set_option Elab.async false
set_option linter.all false
set_option maxRecDepth 100000
namespace L2
open PySem PySem.Spec PyProof.Rows
abbrev Key:=Sum Int Str
def Dk:Key->Value->Bool
 | .inl k,v=>Value.isInt k v
 | .inr x,v=>Value.isStrOf x v
def HQ(w:World):Key->Int
 | .inl k=>hashInt k
 | .inr x=>hashStr w x
theorem dX:∀{k:Key} {v:Value},Dk k v=true->(∃i t,k=Sum.inl i/\v=Value.int i t)\/(∃x t,k=Sum.inr x/\v=Value.str x t)
 | .inl i,v,h=>by
  obtain⟨t,e⟩:=Value.isInt_shape (k:=i) (v:=v) h
  exact .inl ⟨i,t,rfl,e⟩
 | .inr x,v,h=>by
  obtain⟨t,e⟩:=Value.isStrOf_shape (x:=x) (v:=v) h
  exact .inr ⟨x,t,rfl,e⟩
theorem GA(a b:Int):decide ((Sum.inl a:Key)=Sum.inl b)=(a == b):=by
 by_cases e:a=b
 ·subst e;simp
 ·have h:¬(Sum.inl a:Key)=Sum.inl b:=λq=>e (Sum.inl.inj q)
  rw[decide_eq_false h]
  exact(beq_eq_false_iff_ne.mpr e).symm
theorem Fl(a b:Str):decide ((Sum.inr a:Key)=Sum.inr b)=decide (a=b):=by
 by_cases e:a=b
 ·subst e;simp
 ·have h:¬(Sum.inr a:Key)=Sum.inr b:=λq=>e (Sum.inr.inj q)
  rw[decide_eq_false h,decide_eq_false e]
theorem GN(a:Int)(b:Str):decide ((Sum.inl a:Key)=Sum.inr b)=false:=decide_eq_false (λq=>nomatch q)
theorem Fd(a:Str)(b:Int):decide ((Sum.inr a:Key)=Sum.inl b)=false:=decide_eq_false (λq=>nomatch q)
def tL(prog:Program)(w:World):PySem.KeyKind prog w Key where
 is:=Dk
 hash:=HQ w
 inj:=λv a b ha hb=>by
  rcases dX ha with⟨i,t,rfl,rfl⟩ | ⟨x,t,rfl,rfl⟩
  ·rcases dX hb with⟨j,u,rfl,e⟩ | ⟨y,u,rfl,e⟩
   ·injection e with e1 _;rw[e1]
   ·exact nomatch e
  ·rcases dX hb with⟨j,u,rfl,e⟩ | ⟨y,u,rfl,e⟩
   ·exact nomatch e
   ·injection e with e1 _;rw[e1]
 byValue:=λk v h=>by
  rcases dX h with⟨i,t,rfl,rfl⟩ | ⟨x,t,rfl,rfl⟩ <;> rfl
 pyHash:=λhv h=>by
  rcases dX hv with⟨i,t,rfl,rfl⟩ | ⟨x,t,rfl,rfl⟩
  ·exact wpAny_pyHash_int h
  ·exact wpAny_pyHash_str h
 eqBool:=λhu hv h=>by
  rcases dX hu with⟨i,t,rfl,rfl⟩ | ⟨x,t,rfl,rfl⟩
  ·rcases dX hv with⟨j,u,rfl,rfl⟩ | ⟨y,u,rfl,rfl⟩
   ·rw[GA] at h;exact wpAny_eqBool_int h
   ·rw[GN] at h;exact SeqAt.EqAt.int_str i t y u _ _ _ _ h
  ·rcases dX hv with⟨j,u,rfl,rfl⟩ | ⟨y,u,rfl,rfl⟩
   ·rw[Fd] at h;exact SeqAt.EqAt.str_int x t j u _ _ _ _ h
   ·rw[Fl] at h;exact wpAny_eqBool_str h
 «strs»:=λk x t v h=>by
  rcases dX h with⟨i,u,rfl,e⟩ | ⟨y,u,rfl,e⟩
  ·exact nomatch e
  ·injection e with e1 _
   subst e1
   cases v <;> rfl
end L2
namespace L2
open PySem PySem.Spec PyProof.Rows
inductive V where
 | non | bl (b:Bool) | int (i:Int) | str (x:Str) | byt (b:Array UInt8) | flt (b:UInt64) | ref (a:Addr) | ty (n:String)
 deriving DecidableEq
def RelV:V->Value->Prop
 | .non,u=>u=Value.none
 | .bl b,u=>u=Value.bool b
 | .int i,u=>∃t,u=Value.int i t
 | .str x,u=>∃t,u=Value.str x t
 | .byt b,u=>∃t,u=Value.bytes b t
 | .flt b,u=>∃t,u=Value.float b t
 | .ref a,u=>u=Value.ref a
 | .ty n,u=>u=Value.type n
abbrev Vals:List V->List Value->Prop:=Paired RelV
theorem Vals.length{xs:List V}{us:List Value}(r:Vals xs us):xs.length=us.length:=Paired.length r
theorem Vals.get:∀{xs:List V} {us:List Value} {i:Nat} {x:V},Vals xs us->xs[i]? =some x->∃u,us[i]? =some u/\RelV x u
 | _,_,_,_,.nil,e=>by simp at e
 | _,_,0,_,.cons r _,e=>by simp at e;subst e;exact⟨_,rfl,r⟩
 | _,_,i+1,x,.cons _ t,e=>by
  obtain⟨u,h1,h2⟩:=Vals.get (i:=i) (x:=x) t (by simpa using e)
  exact⟨u,by simpa using h1,h2⟩
theorem Vals.set{x:V}{u:Value}(r:RelV x u):∀{xs:List V} {us:List Value} (i:Nat),Vals xs us->Vals (xs.set i x) (us.set i u)
 | _,_,_,.nil=>.nil
 | _,_,0,.cons _ t=>.cons r t
 | _,_,i+1,.cons q t=>.cons q (Vals.set r i t)
theorem Vals.append:∀{xs ys:List V} {us ws:List Value},Vals xs us->Vals ys ws->Vals (xs++ys) (us++ws)
 | _,_,_,_,.nil,s=>s
 | _,_,_,_,.cons r t,s=>.cons r (Vals.append t s)
theorem Vals.take:∀{xs:List V} {us:List Value} (n:Nat),Vals xs us->Vals (xs.take n) (us.take n)
 | _,_,0,_=>.nil
 | _,_,_+1,.nil=>.nil
 | _,_,n+1,.cons r t=>.cons r (Vals.take n t)
theorem Vals.drop:∀{xs:List V} {us:List Value} (n:Nat),Vals xs us->Vals (xs.drop n) (us.drop n)
 | _,_,0,r=>r
 | _,_,_+1,.nil=>.nil
 | _,_,n+1,.cons _ t=>Vals.drop n t
def GO:Option V->Option Value->Prop
 | some v,some u=>RelV v u
 | none,none=>True
 | _,_=>False
def KV{κ:Type}:List (κ×V)->List (κ×Value)->Prop:=Paired λ(p:κ×V) (q:κ×Value)=>p.1=q.1/\RelV p.2 q.2
def kV:Key->V
 | .inl i=>.int i
 | .inr x=>.str x
inductive HO where
 | lst (xs:List V)
 | tup (xs:List V)
 | dK (kvs:List (Key×V)) | dT (kvs:List (List Key×V))
 | set (S:Int->Bool) (n:Nat)
 | ins (C dx:Addr) (fs:List (Str×V))
 | own (x:Addr)
 | xd (fs:List (Str×V))
 | met (f x:Addr)
 | rng (lo hi:Int)
 | frz (o:Obj) (u:HO)
 | tbl (ps:Array Value)
 | ext (φ:Heap->Prop)
abbrev Hp:=Addr->Option HO
def upd(H:Hp)(a:Addr)(o:HO):Hp:=λb=>if b=a then some o else H b
theorem bY{H:Hp}{a:Addr}{o:HO}:upd H a o a=some o:=by unfold upd;rw[if_pos rfl]
theorem aI{H:Hp}{a b:Addr}{o:HO}(h:b≠a):upd H a o b=H b:=by unfold upd;rw[if_neg h]
theorem dU{H:Hp}{a b:Addr}{o:HO}(h:H a=some o)(h':H b=none):a≠b:=by
 intro e;subst e;rw[h] at h';cases h'
section
variable (P : Program) (w : World)
def fD(H:Hp)(h:Heap)(a:Addr):HO->Prop
 | .lst xs=>xs.length<=sizeLine/\∃(its:List Value) (n:Nat),Vals xs its/\h.get? a=some {cls:=.type "list",data:=.seq its.toArray n}
 | .tup xs=>xs.length<=sizeLine/\∃its:List Value,Vals xs its/\IsTup h a its.toArray
 | .dK kvs=>kvs.length<=sizeLine/\(a == sysModules)=false/\∃vs,KV kvs vs/\h.DictOf (tL P w) a vs
 | .dT kvs=>kvs.length<=sizeLine/\(a == sysModules)=false/\∃xs:List (List Key×Addr×Value),
  Paired (λ(p:List Key×V) (q:List Key×Addr×Value)=>p.1=q.1/\H q.2.1=some (.tup (p.1.map kV))/\RelV p.2 q.2.2) kvs xs/\
  ∃o es ep,h.get? a=some o/\o.ExactDict/\o.data=.dict es ep/\es.toList=xs.map (entryOfKey (tupleKind (tL P w)))/\(xs.map (·.1)).Nodup
 | .set S n=>h.SetOf (intKind P w) a S n
 | .ins C dx fs=>H dx=some (.own a)/\fs.length<=1000/\dx≠a/\h.get? a=some (PySem.W.instObj C dx)/\
  ∃mA,h.Ns1 dx mA/\(∀f,GO (fs.lookup f) (mA f))/\PySem.Within mA (fs.map (·.1))
 | .own _=>∃o,h.get? a=some o
 | .xd fs=>∃mA,h.Ns1 a mA/\∀f,GO (fs.lookup f) (mA f)
 | .rng lo hi=>∃t u v,h.get? a=some {cls:=.type "range",data:=.fields #[.int lo t,.int hi u,.int 1 v]}
 | .frz o u=>h.get? a=some o/\fD H h a u
 | .tbl ps=>h.get? a=some {cls:=.none,data:=.fields ps}
 | .met f x=>h.get? a=some (PySem.W.methodObj (.ref f) (.ref x))
 | .ext φ=>φ h/\(∃o,h.get? a=some o)/\∀h1 h2:Heap,φ h1->(∀o,h1.get? a=some o->h2.get? a=some o)->φ h2
def HOk(H:Hp)(h:Heap):Prop:=∀a o,H a=some o->fD P w H h a o
end
section
variable {P : Program} {w : World} {H H' : Hp} {h h' : Heap} {a : Addr} {o : HO}
theorem fD.lt(x:fD P w H h a o):a<h.objs.size:=by
 cases o with
 | lst xs=>obtain⟨_,_,_,_,e⟩:=x;exact Heap.lt_size e
 | tup xs=>obtain⟨_,_,_,p⟩:=x;exact p.lt
 | dK kvs=>obtain⟨_,_,_,_,o,_,_,e,_⟩:=x;exact Heap.lt_size e
 | dT kvs=>obtain⟨_,_,_,_,o,_,_,e,_⟩:=x;exact Heap.lt_size e
 | set S n=>obtain⟨o,_,_,_,e,_⟩:=x;exact Heap.lt_size e
 | ins C dx fs=>obtain⟨_,_,_,e,_⟩:=x;exact Heap.lt_size e
 | own y=>obtain⟨_,e⟩:=x;exact Heap.lt_size e
 | xd fs=>obtain⟨_,⟨_,_,_,e,_⟩,_⟩:=x;exact Heap.lt_size e
 | rng lo hi=>obtain⟨_,_,_,e⟩:=x;exact Heap.lt_size e
 | frz ob u=>obtain⟨e,_⟩:=x;exact Heap.lt_size e
 | tbl ps=>exact Heap.lt_size (show h.get? a=some _ from x)
 | met f y=>exact Heap.lt_size (show h.get? a=some _ from x)
 | ext φ=>obtain⟨_,⟨_,e⟩,_⟩:=x;exact Heap.lt_size e
theorem Paired.mapP{α β:Type}{F G:α->β->Prop}:∀{l₁:List α} {l₂:List β},Paired F l₁ l₂->(∀a b,F a b->G a b)->Paired G l₁ l₂
 | _,_,.nil,_=>.nil
 | _,_,.cons r t,f=>.cons (f _ _ r) (Paired.mapP t f)
theorem fD.stay (x:fD P w H h a o) (k:∀b u,(b=a\/H b=some (.own a))->h.get? b=some u->h'.get? b=some u)
 (ho:∀b,H b=some (.own a)->H' b=some (.own a)) (ht:∀b xs,H b=some (.tup xs)->H' b=some (.tup xs)):fD P w H' h' a o:=by
 induction o with
 | lst xs=>obtain⟨z,its,n,r,e⟩:=x;exact⟨z,its,n,r,k _ _ (.inl rfl) e⟩
 | tup xs=>obtain⟨z,its,r,ob,e,c⟩:=x;exact⟨z,its,r,ob,k _ _ (.inl rfl) e,c⟩
 | dK kvs=>obtain⟨z,y,vs,r,ob,es,ep,e,c⟩:=x;exact⟨z,y,vs,r,ob,es,ep,k _ _ (.inl rfl) e,c⟩
 | dT kvs=>
  obtain⟨z,y,xs,r,ob,es,ep,e,c⟩:=x
  exact⟨z,y,xs,Paired.mapP r λp q z=>⟨z.1,ht _ _ z.2.1,z.2.2⟩,ob,es,ep,k _ _ (.inl rfl) e,c⟩
 | set S n=>obtain⟨ob,es,ep,t,e,c⟩:=x;exact⟨ob,es,ep,t,k _ _ (.inl rfl) e,c⟩
 | ins C dx fs=>
  obtain⟨d,z,ne,e,mA,⟨od,es,ep,e2,c⟩,r⟩:=x
  exact⟨ho _ d,z,ne,k _ _ (.inl rfl) e,mA,⟨od,es,ep,k _ _ (.inr d) e2,c⟩,r⟩
 | own y=>obtain⟨ob,e⟩:=x;exact⟨ob,k _ _ (.inl rfl) e⟩
 | xd fs=>obtain⟨mA,⟨od,es,ep,e,c⟩,r⟩:=x;exact⟨mA,⟨od,es,ep,k _ _ (.inl rfl) e,c⟩,r⟩
 | rng lo hi=>obtain⟨t,u,v,e⟩:=x;exact⟨t,u,v,k _ _ (.inl rfl) e⟩
 | frz ob u ih=>obtain⟨e,q⟩:=x;exact⟨k _ _ (.inl rfl) e,ih q⟩
 | tbl ps=>
  have e:h.get? a=some {cls:=.none,data:=.fields ps}:=x
  show h'.get? a=some {cls:=.none,data:=.fields ps}
  exact k a _ (.inl rfl) e
 | met f y=>
  have e:h.get? a=some (PySem.W.methodObj (.ref f) (.ref y)):=x
  show h'.get? a=some (PySem.W.methodObj (.ref f) (.ref y))
  exact k a _ (.inl rfl) e
 | ext φ=>obtain⟨p,⟨o,e⟩,st⟩:=x;exact⟨st _ _ p λo q=>k _ _ (.inl rfl) q,⟨o,k _ _ (.inl rfl) e⟩,st⟩
theorem HOk.lt(x:HOk P w H h)(e:H a=some o):a<h.objs.size:=(x a o e).lt
theorem HOk.fresh(x:HOk P w H h)(e:h.objs.size<=a):H a=none:=by
 cases q:H a with
 | none=>rfl
 | some u=>exact absurd (Nat.lt_of_lt_of_le (x.lt q) e) (Nat.lt_irrefl _)
theorem HOk.kept(x:HOk P w H h)(k:∀b u,h.get? b=some u->h'.get? b=some u):HOk P w H h':=λa o e=>
 (x a o e).stay (λb u _ q=>k b u q) (λ_ q=>q) λ_ _ q=>q
theorem HOk.laid(x:HOk P w H h)(k:∀b u,h.get? b=some u->h'.get? b=some u)(hp:h.objs.size<=a)(new:fD P w (upd H a o) h' a o):HOk P w (upd H a o) h':=λb u e=>by
 have hn:=x.fresh hp
 by_cases hb:b=a
 ·subst hb;rw[bY] at e;cases e;exact new
 ·rw[aI hb] at e
  exact(x b u e).stay (λc v _ q=>k c v q) (λc q=>by rw[aI (dU q hn)];exact q) λc xs q=>by rw[aI (dU q hn)];exact q
end
def Rd(H:Hp)(a:Addr)(u:HO):Prop:=H a=some u\/∃o,H a=some (.frz o u)
theorem Rd.of{H:Hp}{a:Addr}{u:HO}(h:H a=some u):Rd H a u:=.inl h
theorem Rd.ok{P:Program}{w:World}{H:Hp}{h:Heap}{a:Addr}{u:HO}(r:Rd H a u)(x:HOk P w H h):fD P w H h a u:=by
 rcases r with r | ⟨o,r⟩
 ·exact x a u r
 ·obtain⟨_,q⟩:=x a _ r
  exact q
def Mut:Option HO->Prop
 | some (.lst _)=>True
 | some (.dK _)=>True
 | some (.dT _)=>True
 | some (.set _ _)=>True
 | some (.ins _ _ _)=>True
 | some (.ext _)=>True
 | _=>False
section
variable {P : Program} {w : World} {H : Hp} {h h' : Heap} {x e : Addr} {o' : HO}
theorem HOk.write (ok:HOk P w H h) (mu:Mut (H x)) (he:e=x\/H e=some (.own x)) (k:∀b u,b≠e->h.get? b=some u->h'.get? b=some u) (heo:∃u,h'.get? e=some u)
 (new:fD P w (upd H x o') h' x o'):HOk P w (upd H x o') h':=λb u q=>by
 have nown:∀c y,H c=some (.own y)->c≠x:=λc y r z=>by subst z;rw[r] at mu;exact mu
 have ntup:∀c xs,H c=some (.tup xs)->c≠x:=λc xs r z=>by subst z;rw[r] at mu;exact mu
 by_cases hb:b=x
 ·subst hb;rw[bY] at q;cases q;exact new
 ·rw[aI hb] at q
  by_cases hbe:b=e
  ·have q':H b=some (.own x):=by
    rcases he with z | z
    ·exact absurd (hbe.trans z) hb
    ·rw[hbe];exact z
   rw[q] at q';cases q'
   obtain⟨v,hv⟩:=heo
   exact⟨v,by rw[hbe];exact hv⟩
  ·refine(ok b u q).stay (λc v hc r=>k c v ?_ r) (λc r=>by rw[aI (nown c b r)];exact r) λc xs r=>by rw[aI (ntup c xs r)];exact r
   rcases hc with rfl | hc
   ·exact hbe
   ·rintro rfl
    rcases he with z | z
    ·exact nown c b hc z
    ·rw[hc] at z;cases z;exact hb rfl
end
structure Un(fs ex:List Addr)(H H':Hp)(h h':Heap):Prop where
 keep:∀b o,h.get? b=some o->H b=none->b∉fs->b∉ex->h'.get? b=some o
 slot:∀b o,h.get? b=some o->H b=none->b∈fs->b∉ex->∃sl,h'.get? b=some {o with slots:=sl}
 free:∀b o,h.get? b=some o->H b=none->b∉ex->H' b=none
 there:∀b o,h.get? b=some o->b∉ex->∃o',h'.get? b=some o'
 tups:∀b xs,H b=some (.tup xs)->H' b=some (.tup xs)
 frzs:∀b o u,H b=some (.frz o u)->H' b=some (.frz o u)
 tbls:∀b ps,H b=some (.tbl ps)->∃more,H' b=some (.tbl (ps++more))
section
variable {fs fs' ex ex' : List Addr} {H H1 H2 : Hp} {h h1 h2 h' : Heap} {a x e : Addr} {o : HO}
theorem Un.any(u:Un fs ex H H1 h h1){b:Addr}{ob:Obj}(q:h.get? b=some ob)(n:H b=none)(hx:b∉ex):∃sl,h1.get? b=some {ob with slots:=sl}:=by
 by_cases hb:b∈fs
 ·exact u.slot b ob q n hb hx
 ·exact⟨ob.slots,u.keep b ob q n hb hx⟩
theorem Un.trans(a:Un fs ex H H1 h h1)(b:Un fs ex H1 H2 h1 h2):Un fs ex H H2 h h2 where
 keep:=λc ob q n hc hx=>b.keep c ob (a.keep c ob q n hc hx) (a.free c ob q n hx) hc hx
 slot:=λc ob q n hc hx=>by
  obtain⟨sl,e1⟩:=a.slot c ob q n hc hx
  obtain⟨sl',e2⟩:=b.slot c _ e1 (a.free c ob q n hx) hc hx
  exact⟨sl',e2⟩
 free:=λc ob q n hx=>by
  obtain⟨o',e1⟩:=a.there c ob q hx
  exact b.free c o' e1 (a.free c ob q n hx) hx
 there:=λc ob q hx=>by
  obtain⟨o',e1⟩:=a.there c ob q hx
  exact b.there c o' e1 hx
 tups:=λc xs q=>b.tups c xs (a.tups c xs q)
 frzs:=λc ob xs q=>b.frzs c ob xs (a.frzs c ob xs q)
 tbls:=λc ps q=>by
  obtain⟨m1,e1⟩:=a.tbls c ps q
  obtain⟨m2,e2⟩:=b.tbls c _ e1
  exact⟨m1++m2,by rw[e2,Array.append_assoc]⟩
theorem Un.kept(k:∀b u,h.get? b=some u->h'.get? b=some u):Un fs ex H H h h':=
 ⟨λb ob q _ _ _=>k b ob q,λb ob q _ _ _=>⟨ob.slots,k b ob q⟩,λ_ _ _ n _=>n,λb ob q _=>⟨ob,k b ob q⟩,λ_ _ q=>q,λ_ _ _ q=>q,λ_ ps q=>⟨#[],by rw[q];simp⟩⟩
theorem Un.refl:Un fs ex H H h h:=Un.kept λ_ _ q=>q
theorem Un.laid(k:∀b u,h.get? b=some u->h'.get? b=some u)(hp:h.objs.size<=a)(hn:H a=none):Un fs ex H (upd H a o) h h' where
 keep:=λb u q _ _ _=>k b u q
 slot:=λb u q _ _ _=>⟨u.slots,k b u q⟩
 free:=λb u q n _=>by rw[aI (Nat.ne_of_lt (Nat.lt_of_lt_of_le (Heap.lt_size q) hp))];exact n
 there:=λb u q _=>⟨u,k b u q⟩
 tups:=λb xs q=>by rw[aI (dU q hn)];exact q
 frzs:=λb u xs q=>by rw[aI (dU q hn)];exact q
 tbls:=λb ps q=>⟨#[],by rw[aI (dU q hn),q];simp⟩
theorem Un.write(mu:Mut (H x))(he:e=x\/H e=some (.own x))(k:∀b u,b≠e->h.get? b=some u->h'.get? b=some u)(heo:∃u,h'.get? e=some u):Un fs ex H (upd H x o) h h':=by
 have hx:∀b,H b=none->b≠x:=λb n z=>by subst z;rw[n] at mu;exact mu
 have hb:∀b,H b=none->b≠e:=λb n z=>by
  subst z
  rcases he with r | r
  ·exact hx b n r
  ·rw[n] at r;cases r
 have hm:∀b u,H b=some u->¬Mut (some u)->b≠x:=λb u q nm z=>by subst z;rw[q] at mu;exact nm mu
 refine⟨λb u q n _ _=>k b u (hb b n) q,λb u q n _ _=>⟨u.slots,k b u (hb b n) q⟩,λb u q n _=>by rw[aI (hx b n)];exact n,λb u q _=> ?_,
  λb xs q=>by rw[aI (hm b _ q λz=>z)];exact q,λb u xs q=>by rw[aI (hm b _ q λz=>z)];exact q,λb ps q=>⟨#[],by rw[aI (hm b _ q λz=>z),q];simp⟩⟩
 by_cases hbe:b=e
 ·subst hbe;exact heo
 ·exact⟨u,k b u hbe q⟩
theorem Un.mono(u:Un fs ex H H1 h h1)(hs:∀b∈fs,b∈fs')(hx:∀b∈ex,b∈ex'):Un fs' ex' H H1 h h1:=
 ⟨λb ob q n hb he=>u.keep b ob q n (λz=>hb (hs b z)) λz=>he (hx b z),λ_ _ q n _ he=>u.any q n λz=>he (hx _ z),λb ob q n he=>u.free b ob q n λz=>he (hx b z),λb ob q he=>u.there b ob q λz=>he (hx b z),u.tups,u.frzs,u.tbls⟩
end
def trk(h:Heap)(H:Hp):List Addr:=(List.range h.objs.size).filter λa=>(H a).isSome
def mw(h:Heap)(H:Hp):Heap:=PySem.W.hideAll h (trk h H)
theorem Am(h:Heap)(H:Hp):(mw h H).objs.size=h.objs.size:=PySem.W.hideAll_size _ _
theorem BX{h:Heap}{H:Hp}{b:Addr}{o:Obj}(e:h.get? b=some o)(n:H b=none):(mw h H).get? b=some o:=
 PySem.W.hideAll_get _ e λhm=>by
  have q:(H b).isSome=true:=(List.mem_filter.mp hm).2
  rw[n] at q;simp at q
theorem Ej{h:Heap}{H:Hp}{b:Addr}{o:Obj}(e:(mw h H).get? b=some o):h.get? b=some o/\H b=none:=by
 have e':h.get? b=some o:=PySem.W.of_hideAll (trk h H) e
 refine⟨e', ?_⟩
 cases q:H b with
 | none=>rfl
 | some x=>
  have hm:b∈trk h H:=List.mem_filter.mpr ⟨List.mem_range.mpr (Heap.lt_size e'),by simp[q]⟩
  have z:(mw h H).get? b=none:=PySem.W.hideAll_none (trk h H) hm
  rw[z] at e;cases e
def Ei(g h:Heap)(L:Addr):List (Addr×Obj):=(List.range h.objs.size).filterMap λa=>if a=L\/(g.get? a).isSome=true then none else (h.get? a).map λo=>(a,o)
def rest(g h:Heap)(L d:Addr):List (Addr×Obj):=(Ei g h L).filter λp=>decide (p.1≠d)
end L2
namespace L2
open PySem PySem.Spec PyProof.Rows
structure Mod(K:PySem.W.Frag)(mg:Str->Option Value)(base:Heap):Prop where
 kin:K.In base
 glob:base.Ns mainGlobals mg
 blt:∃mb,base.Ns builtinsNs mb/\∀x:Str,x≠"__name__" ->mb x=bootBuiltins x
 nolimit:base.NoLimit
 seer:base.NoSeer
structure Cx where
 prog:Program
 w:World
 K:PySem.W.Frag
 mg:Str->Option Value
 base:Heap
 A:Around
 N:List Str
 s₀:Shared
 H₀:Hp
 env:Env
 outer:List Env
 stack:List Env
 ex:List Addr
 fn:Str->Bool
 calm:Bool
 pn:List (Addr×Obj)
 xe:Value->Shared->Prop
def frs(l:List Env):List Addr:=l.filterMap (·.frame)
abbrev Cx.fs(X:Cx):List Addr:=frs X.outer
def Vis(sc:Scope)(x:Str):Prop:=sc.names.lookup x=some .local\/sc.names.lookup x=some .cell\/sc.names.lookup x=some .free
def Loc(sc:Scope)(x:Str):Prop:=sc.names.lookup x=some .local\/sc.names.lookup x=some .cell
def Look(env:Env)(h:Heap)(m:Str->Option Value)(x:Str)(u:Value):Prop:=
 (env.kindOf x=some .local/\m x=some u)\/((env.kindOf x=some .cell\/env.kindOf x=some .free)/\∃c,env.cells.lookup x=some c/\h.IsCell c (some u))
structure Cx.Ok(X:Cx):Prop where
 mod:Mod X.K X.mg X.base
 kind:X.env.scope.kind=.function
 glob:X.env.globals=mainGlobals
 blt:X.env.builtins=builtinsNs
 above:X.s₀.heap.objs.size<=X.env.locals
 inj:∀x y c,X.env.cells.lookup x=some c->X.env.cells.lookup y=some c->x=y
 has:∀x,(X.env.kindOf x=some .cell\/X.env.kindOf x=some .free)->∃c,X.env.cells.lookup x=some c
 cab:∀x c,X.fn x=true->X.env.cells.lookup x=some c->X.s₀.heap.objs.size<=c
 hd:X.calm=true->X.A.handled=none
 frames:X.A.frames=some X.stack
 stk:X.stack=X.outer\/(X.stack=X.env::X.outer/\X.env.frame=some X.env.locals)
 exf:∀b∈X.ex,b≠X.env.locals/\∀x c,X.env.cells.lookup x=some c->c≠b
 bs:∀b o,X.base.get? b=some o->X.s₀.heap.get? b=some o/\X.H₀ b=none
 bsz:X.base.objs.size<=X.s₀.heap.objs.size
 noex:∀b o,X.base.get? b=some o->b∉X.ex
 exfs:∀b∈X.ex,b∉X.fs
 funs:X.s₀.heap.FunFrames X.base X.outer
 frf:∀b∈X.fs,X.H₀ b=none
structure Inv(X:Cx)(pins:List (Addr×Obj))(σ:List (Option V))(H:Hp)(s:Shared):Prop where
 ok:X.Ok
 os:s.os=X.s₀.os
 bare:AllBare s.gens
 base:Un X.fs X.ex X.H₀ H X.s₀.heap s.heap
 loc:∃m,s.heap.Ns X.env.locals m/\∀(i:Nat) (x:Str) (v:V),X.N[i]? =some x->σ[i]? =some (some v)->Vis X.env.scope x->∃u,RelV v u/\Look X.env s.heap m x u
 cell:∀x c,X.env.cells.lookup x=some c->∃v,s.heap.IsCell c v
 free:H X.env.locals=none
 freeC:∀x c,X.env.cells.lookup x=some c->H c=none
 pin:∀p∈X.pn++pins,s.heap.get? p.1=some p.2/\H p.1=none/\p.1≠X.env.locals/\p.1∉X.fs/\∀v,p.2.data≠ .cell v
 hok:HOk X.prog X.w H s.heap
 len:σ.length=X.N.length
section
variable {X : Cx} {pins : List (Addr × Obj)} {σ : List (Option V)} {H H' : Hp} {s : Shared} {h' : Heap}
theorem Cx.Ok.nofr(ok:X.Ok){b:Addr}{o:Obj}(e:X.base.get? b=some o):b∉X.fs:=λhb=>by
 have:=(ok.funs.mem hb).1
 rw[e] at this;cases this
theorem Inv.bs(I:Inv X pins σ H s):∀b o,X.base.get? b=some o->s.heap.get? b=some o/\H b=none:=λb o e=>
 ⟨I.base.keep b o (I.ok.bs b o e).1 (I.ok.bs b o e).2 (I.ok.nofr e) (I.ok.noex b o e),I.base.free b o (I.ok.bs b o e).1 (I.ok.bs b o e).2 (I.ok.noex b o e)⟩
theorem Inv.bk(I:Inv X pins σ H s):∀b o,X.base.get? b=some o->s.heap.get? b=some o:=λb o e=>(I.bs b o e).1
theorem Inv.mod(I:Inv X pins σ H s):Mod X.K X.mg X.base:=I.ok.mod
theorem Inv.kIn(I:Inv X pins σ H s):X.K.In s.heap:=I.ok.mod.kin.keeps I.bk
theorem Inv.nolimit(I:Inv X pins σ H s):s.heap.NoLimit:=I.ok.mod.nolimit.keeps I.bk
theorem Inv.noseer(I:Inv X pins σ H s):s.heap.NoSeer:=I.ok.mod.seer.keeps I.bk
theorem Inv.fr(I:Inv X pins σ H s):∃m,Fr X.base X.env.locals s.heap m:=
 let ⟨m,hn,_⟩:=I.loc
 ⟨m,hn,I.bk,Nat.le_trans I.ok.bsz I.ok.above⟩
theorem Inv.lt(I:Inv X pins σ H s):X.env.locals<s.heap.objs.size:=let ⟨_,hn,_⟩:=I.loc;hn.lt
theorem Inv.sz(I:Inv X pins σ H s):X.s₀.heap.objs.size<=s.heap.objs.size:=Nat.le_trans I.ok.above (Nat.le_of_lt I.lt)
theorem Inv.nofs(I:Inv X pins σ H s){a:Addr}(h:s.heap.objs.size<=a):a∉X.fs:=λhb=>by
 obtain⟨_,o,ho,_⟩:=I.ok.funs.mem hb
 exact absurd (Nat.lt_of_lt_of_le (Heap.lt_size ho) (Nat.le_trans I.sz h)) (Nat.lt_irrefl _)
theorem Inv.cne(I:Inv X pins σ H s):∀x c,X.env.cells.lookup x=some c->c≠X.env.locals:=λx c e z=>by
 obtain⟨v,o,ho,hd⟩:=I.cell x c e
 obtain⟨m,⟨o',es,ep,ho',hd',_⟩,_⟩:=I.loc
 rw[z,ho'] at ho;cases ho;rw[hd'] at hd;cases hd
theorem Inv.funs(I:Inv X pins σ H s):s.heap.FunFrames X.base X.outer:=by
 have all:∀(l:List Env),(∀b∈frs l,b∈X.fs)->X.s₀.heap.FunFrames X.base l->s.heap.FunFrames X.base l:=by
  intro l
  induction l with
  | nil=>intro _ _;trivial
  | cons env r ih=>
   intro hs hl
   obtain⟨hk,⟨L,o,hf,hn,ho,hd⟩,hr⟩:=hl
   have hL:L∈X.fs:=hs L (by unfold frs;rw[List.filterMap_cons,hf];exact List.mem_cons_self)
   obtain⟨sl,e⟩:=I.base.slot L o ho (I.ok.frf L hL) hL λz=>I.ok.exfs L z hL
   exact⟨hk,⟨L,_,hf,hn,e,hd⟩,ih (λb hb=>hs b (by unfold frs;rw[List.filterMap_cons,hf];exact List.mem_cons_of_mem _ hb)) hr⟩
 exact all X.outer (λ_ hb=>hb) I.ok.funs
theorem Inv.stack(I:Inv X pins σ H s):s.heap.FunFrames X.base X.stack:=by
 rcases I.ok.stk with e | ⟨e,hf⟩
 ·rw[e];exact I.funs
 ·rw[e]
  obtain⟨m,hn,_⟩:=I.loc
  refine .cons (by rw[I.ok.kind];decide) hf hn ?_ I.funs
  exact Heap.get?_none_of_le (Nat.le_trans I.ok.bsz I.ok.above)
theorem Inv.stkSub(I:Inv X pins σ H s):∀b∈frs X.stack,b∈X.env.locals::X.fs:=λb hb=>by
 rcases I.ok.stk with e | ⟨e,hf⟩
 ·rw[e] at hb;exact List.mem_cons_of_mem _ hb
 ·rw[e] at hb
  unfold frs at hb
  rw[List.filterMap_cons,hf] at hb
  exact hb
theorem Inv.stkFree(I:Inv X pins σ H s):∀b∈frs X.stack,H b=none:=λb hb=>by
 rcases List.mem_cons.mp (I.stkSub b hb) with e | hb
 ·rw[e];exact I.free
 ·obtain⟨_,o,ho,_⟩:=I.ok.funs.mem hb
  exact I.base.free b o ho (I.ok.frf b hb) λz=>I.ok.exfs b z hb
theorem Inv.step {g':Array GenState} {t':Nat} {d':Drawn} {ch:List Addr} (I:Inv X pins σ H s)
 (hch:∀b∈ch,(b∈X.ex\/X.s₀.heap.objs.size<=b)/\b≠X.env.locals/\(∀x c,X.env.cells.lookup x=some c->c≠b)/\∀p∈X.pn++pins,p.1≠b)
 (keep:∀b o,b≠X.env.locals->b∉X.fs->b∉ch->s.heap.get? b=some o->H b=none->h'.get? b=some o)
 (slot:∀b o,b≠X.env.locals->b∈X.fs->b∉ch->s.heap.get? b=some o->H b=none->∃sl,h'.get? b=some {o with slots:=sl}) (free:∀b o,b∉ch->s.heap.get? b=some o->H b=none->H' b=none)
 (there:∀b o,b∉ch->s.heap.get? b=some o->∃o',h'.get? b=some o')
 (tups:∀b xs,H b=some (.tup xs)->H' b=some (.tup xs)) (frzs:∀b o u,H b=some (.frz o u)->H' b=some (.frz o u)) (tbls:∀b ps,H b=some (.tbl ps)->∃more,H' b=some (.tbl (ps++more)))
 (ns:∀m,s.heap.Ns X.env.locals m->h'.Ns X.env.locals m) (hok:HOk X.prog X.w H' h') (hg:AllBare g'):
 Inv X pins σ H' {s with heap:=h',gens:=g',drawn:=d',toks:=t'}:=by
 have neL:∀b o,X.s₀.heap.get? b=some o->b≠X.env.locals:=λb o e=>Nat.ne_of_lt (Nat.lt_of_lt_of_le (Heap.lt_size e) I.ok.above)
 have neC:∀b o,X.s₀.heap.get? b=some o->b∉X.ex->b∉ch:=λb o e hx hb=>by
  rcases(hch b hb).1 with z | z
  ·exact hx z
  ·exact absurd (Nat.lt_of_lt_of_le (Heap.lt_size e) z) (Nat.lt_irrefl _)
 have cellK:∀x c,X.env.cells.lookup x=some c->∀v,s.heap.IsCell c v->h'.IsCell c v:=λx c e v ⟨o,ho,hd⟩=>by
  have nch:c∉ch:=λz=>(hch c z).2.2.1 x c e rfl
  by_cases hc:c∈X.fs
  ·obtain⟨sl,q⟩:=slot c o (I.cne x c e) hc nch ho (I.freeC x c e)
   exact⟨_,q,hd⟩
  ·exact⟨o,keep c o (I.cne x c e) hc nch ho (I.freeC x c e),hd⟩
 refine⟨I.ok,I.os,hg,⟨λb o e n hb hx=> ?_,λb o e n hb hx=> ?_,λb o e n hx=> ?_,λb o e hx=> ?_,λb xs e=>tups b xs (I.base.tups b xs e),λb o xs e=>frzs b o xs (I.base.frzs b o xs e),λb ps e=> ?_⟩, ?_,λx c e=> ?_, ?_,λx c e=> ?_,λp hp=> ?_,hok,I.len⟩
 ·exact keep b o (neL b o e) hb (neC b o e hx) (I.base.keep b o e n hb hx) (I.base.free b o e n hx)
 ·obtain⟨sl,e1⟩:=I.base.slot b o e n hb hx
  obtain⟨sl',e2⟩:=slot b _ (neL b o e) hb (neC b o e hx) e1 (I.base.free b o e n hx)
  exact⟨sl',e2⟩
 ·obtain⟨o',e1⟩:=I.base.there b o e hx
  exact free b o' (neC b o e hx) e1 (I.base.free b o e n hx)
 ·obtain⟨o',e1⟩:=I.base.there b o e hx
  exact there b o' (neC b o e hx) e1
 ·obtain⟨m1,e1⟩:=I.base.tbls b ps e
  obtain⟨m2,e2⟩:=tbls b _ e1
  exact⟨m1++m2,by rw[e2,Array.append_assoc]⟩
 ·obtain⟨m,hn,hl⟩:=I.loc
  refine⟨m,ns m hn,λi x v e1 e2 e3=> ?_⟩
  obtain⟨u,r,l⟩:=hl i x v e1 e2 e3
  refine⟨u,r, ?_⟩
  rcases l with l | ⟨k,c,e,z⟩
  ·exact .inl l
  ·exact .inr ⟨k,c,e,cellK x c e _ z⟩
 ·obtain⟨v,z⟩:=I.cell x c e
  exact⟨v,cellK x c e v z⟩
 ·obtain⟨m,⟨o,_,_,ho,_⟩,_⟩:=I.loc
  exact free _ o (λz=>(hch _ z).2.1 rfl) ho I.free
 ·obtain⟨v,o,ho,hd⟩:=I.cell x c e
  exact free c o (λz=>(hch c z).2.2.1 x c e rfl) ho (I.freeC x c e)
 ·obtain⟨e,n,ne,nf,d⟩:=I.pin p hp
  have nch:p.1∉ch:=λz=>(hch p.1 z).2.2.2 p hp rfl
  exact⟨keep p.1 p.2 ne nf nch e n,free p.1 p.2 nch e n,ne,nf,d⟩
theorem Inv.un{t':Nat}(I:Inv X pins σ H s)(u:Un X.fs [] H H' s.heap h')(hok:HOk X.prog X.w H' h'):Inv X pins σ H' {s with heap:=h',toks:=t'}:=by
 obtain⟨m,⟨o,es,ep,ho,r⟩,_⟩:=id I.loc
 obtain⟨sl,hL⟩:=u.any ho I.free (by simp)
 exact I.step (g':=s.gens) (d':=s.drawn) (ch:=[]) (λ_ z=>nomatch z) (λb o _ hb _ e n=>u.keep b o e n hb (by simp)) (λb o _ hb _ e n=>u.slot b o e n hb (by simp)) (λb o _ e n=>u.free b o e n (by simp)) (λb o _ e=>u.there b o e (by simp)) u.tups u.frzs u.tbls (λm' hm=>by
  obtain⟨o',es',ep',ho',r'⟩:=hm
  rw[ho] at ho';cases ho'
  exact⟨_,es',ep',hL,r'⟩) hok I.bare
theorem Inv.call {g':Array GenState} {t':Nat} {d':Drawn} {ch:List Addr} (I:Inv X pins σ H s) (u:Un (frs X.stack) ch H H' s.heap h') (hok:HOk X.prog X.w H' h') (hg:AllBare g')
 (hch:∀b∈ch,(b∈X.ex\/X.s₀.heap.objs.size<=b)/\b≠X.env.locals/\(∀x c,X.env.cells.lookup x=some c->c≠b)/\∀p∈X.pn++pins,p.1≠b):
 Inv X pins σ H' {s with heap:=h',gens:=g',drawn:=d',toks:=t'}:=by
 obtain⟨m,⟨o,es,ep,ho,r⟩,_⟩:=id I.loc
 obtain⟨sl,hL⟩:=u.any ho I.free λz=>(hch _ z).2.1 rfl
 exact I.step (ch:=ch) hch (λb o hL hb hc e n=>u.keep b o e n (λz=>(List.mem_cons.mp (I.stkSub b z)).elim hL hb) hc) (λb o _ _ hc e n=>u.any e n hc) (λb o hc e n=>u.free b o e n hc) (λb o hc e=>u.there b o e hc) u.tups u.frzs u.tbls (λm' hm=>by
  obtain⟨o',es',ep',ho',r'⟩:=hm
  rw[ho] at ho';cases ho'
  exact⟨_,es',ep',hL,r'⟩) hok hg
theorem Inv.turned {t':Nat} {it:Addr} (I:Inv X pins σ H s) (k:∀b o,b≠it->s.heap.get? b=some o->h'.get? b=some o) (hn:H it=none) (hL:it≠X.env.locals)
 (h1:it∈X.ex\/X.s₀.heap.objs.size<=it) (h2:∀x c,X.env.cells.lookup x=some c->c≠it) (h3:∀p∈X.pn++pins,p.1≠it):Inv X pins σ H {s with heap:=h',toks:=t'}:=by
 have nit:∀b u,H b=some u->b≠it:=λb u e z=>by rw[z,hn] at e;cases e
 refine I.step (g':=s.gens) (d':=s.drawn) (ch:=[it]) (λb hb=> ?_) (λb o _ _ hc e _=>k b o (λz=>hc (by simp[z])) e) (λb o _ _ hc e _=>⟨o.slots,k b o (λz=>hc (by simp[z])) e⟩) (λ_ _ _ _ n=>n)
  (λb o hc e=>⟨o,k b o (λz=>hc (by simp[z])) e⟩) (λ_ _ e=>e) (λ_ _ _ e=>e) (λb ps e=>⟨#[],by rw[e];simp⟩) (λm hm=> ?_) (λb u e=> ?_) I.bare
 ·have e:b=it:=by simpa using hb
  subst e
  exact⟨h1,hL,h2,h3⟩
 ·obtain⟨o,es,ep,ho,r⟩:=hm
  exact⟨o,es,ep,k _ o (Ne.symm hL) ho,r⟩
 ·refine(I.hok b u e).stay (λc v hc q=>k c v ?_ q) (λ_ q=>q) λ_ _ q=>q
  rcases hc with z | z
  ·rw[z];exact nit b u e
  ·exact nit c _ z
theorem Inv.tok(I:Inv X pins σ H s)(t:Nat):Inv X pins σ H {s with toks:=t}:=I.un (h':=s.heap) (t':=t) Un.refl I.hok
theorem Inv.kept{t':Nat}(I:Inv X pins σ H s)(k:∀b u,s.heap.get? b=some u->h'.get? b=some u):Inv X pins σ H {s with heap:=h',toks:=t'}:=I.un (Un.kept k) (I.hok.kept k)
theorem Inv.laid{a:Addr}{o:HO}{t':Nat}(I:Inv X pins σ H s)(k:∀b u,s.heap.get? b=some u->h'.get? b=some u)(hp:s.heap.objs.size<=a)(new:fD X.prog X.w (upd H a o) h' a o):
 Inv X pins σ (upd H a o) {s with heap:=h',toks:=t'}:=I.un (Un.laid k hp (I.hok.fresh hp)) (I.hok.laid k hp new)
theorem Inv.write {x e:Addr} {o:HO} {t':Nat} (I:Inv X pins σ H s) (mu:Mut (H x)) (he:e=x\/H e=some (.own x)) (k:∀b u,b≠e->s.heap.get? b=some u->h'.get? b=some u) (heo:∃u,h'.get? e=some u)
 (new:fD X.prog X.w (upd H x o) h' x o):Inv X pins σ (upd H x o) {s with heap:=h',toks:=t'}:=I.un (Un.write mu he k heo) (I.hok.write mu he k heo new)
theorem Inv.pins_of{pins':List (Addr×Obj)}(I:Inv X pins σ H s)(h:∀p∈pins',s.heap.get? p.1=some p.2/\H p.1=none/\p.1≠X.env.locals/\p.1∉X.fs/\∀v,p.2.data≠ .cell v):Inv X pins' σ H s:=
 ⟨I.ok,I.os,I.bare,I.base,I.loc,I.cell,I.free,I.freeC,λp hp=>(List.mem_append.mp hp).elim (λz=>I.pin p (List.mem_append_left _ z)) (h p),I.hok,I.len⟩
theorem rH{N:List Str}(hN:N.Nodup){i j:Nat}{x:Str}(a:N[i]? =some x)(b:N[j]? =some x):i=j:=by
 obtain⟨h1,e1⟩:=List.getElem?_eq_some_iff.mp a
 obtain⟨h2,e2⟩:=List.getElem?_eq_some_iff.mp b
 exact(List.getElem_inj hN).mp (e1.trans e2.symm)
theorem uK {M:Model} {A:Around} {E:Value->Shared->Prop} {i:Nat} {x:Str} {v:V} {u:Value} {Q:Unit->Shared->Prop} (I:Inv X pins σ H s) (hN:X.N.Nodup) (hi:X.N[i]? =some x) (hx:Loc X.env.scope x) (r:RelV v u)
 (h:∀s',Inv X pins (σ.set i (some v)) H s'->(∃a,Heap.SameBut a s.heap s'.heap/\(a=X.env.locals\/X.env.cells.lookup x=some a))->Q () s') (hf:X.fn x=true\/X.env.scope.names.lookup x=some .local:=by first | exact .inl rfl | exact .inr rfl | assumption):wpAny M A (storeName X.env x u) Q E s:=by
 obtain⟨m,hn,hl⟩:=id I.loc
 have hcls:(X.env.scope.kind == .class||(X.env.scope.kind == .module&&X.env.locals != X.env.globals))=false:=by rw[I.ok.kind];rfl
 have hiσ:i<σ.length:=by rw[I.len];exact(List.getElem?_eq_some_iff.mp hi).1
 have cne:=I.cne
 have tracked:∀{a:Addr} {h':Heap},(∃o,s.heap.get? a=some o/\H a=none)->Heap.SameBut a s.heap h'->HOk X.prog X.w H h':=λ{a h'} ha hs b ob e=>by
  obtain⟨_,_,hfree⟩:=ha
  refine(I.hok b ob e).stay (λc w' hc q=>(hs.2 c ?_).trans q) (λ_ q=>q) λ_ _ q=>q
  rintro rfl
  rcases hc with rfl | hc
  ·rw[hfree] at e;cases e
  ·rw[hfree] at hc;cases hc
 rcases hx with hk | hk
 ·refine wpAny_storeName_local hk hn (λh' hn' hs=> ?_) hcls
  obtain⟨oL,_,_,hoL,_⟩:=id hn
  refine h _ ⟨I.ok,I.os,I.bare,⟨λb o e n hb hx=> ?_,λb o e n hb hx=> ?_,I.base.free,λb o e hx=> ?_,I.base.tups,I.base.frzs,I.base.tbls⟩,⟨_,hn',λj y v' e1 e2 e3=> ?_⟩,λy c e=> ?_,I.free,I.freeC,λp hp=> ?_,tracked ⟨oL,hoL,I.free⟩ hs,by simpa using I.len⟩ ⟨_,hs,.inl rfl⟩
  ·exact(hs.2 b (Nat.ne_of_lt (Nat.lt_of_lt_of_le (Heap.lt_size e) I.ok.above))).trans (I.base.keep b o e n hb hx)
  ·obtain⟨sl,e1⟩:=I.base.slot b o e n hb hx
   exact⟨sl,(hs.2 b (Nat.ne_of_lt (Nat.lt_of_lt_of_le (Heap.lt_size e) I.ok.above))).trans e1⟩
  ·obtain⟨o',e1⟩:=I.base.there b o e hx
   exact⟨o',(hs.2 b (Nat.ne_of_lt (Nat.lt_of_lt_of_le (Heap.lt_size e) I.ok.above))).trans e1⟩
  ·by_cases hj:j=i
   ·subst hj
    rw[hi] at e1;cases e1
    rw[List.getElem?_set_self hiσ] at e2
    cases e2
    exact⟨u,r,.inl ⟨hk,by simp⟩⟩
   ·rw[List.getElem?_set_ne (Ne.symm hj)] at e2
    obtain⟨u',r',q⟩:=hl j y v' e1 e2 e3
    refine⟨u',r', ?_⟩
    rcases q with⟨k,e⟩ | ⟨k,c,e,z⟩
    ·refine .inl ⟨k, ?_⟩
     have:y≠x:=λe=>hj (rH hN e1 (e▸hi))
     simp[this,e]
    ·exact .inr ⟨k,c,e,z.sameBut hs (cne y c e)⟩
  ·obtain⟨w',z⟩:=I.cell y c e
   exact⟨w',z.sameBut hs (cne y c e)⟩
  ·obtain⟨e,n,ne,nf,d⟩:=I.pin p hp
   exact⟨(hs.2 p.1 ne).trans e,n,ne,nf,d⟩
 ·have hfn:X.fn x=true:=by
   rcases hf with z | z
   ·exact z
   ·rw[z] at hk;cases hk
  obtain⟨c,hc⟩:=I.ok.has x (.inl hk)
  obtain⟨w',z⟩:=I.cell x c hc
  refine wpAny_storeName_cell I.ok.kind hk hc z (λh' hc' hs=> ?_)
  obtain⟨oc,hoc,hocd⟩:=id z
  refine h {s with heap:=h'} ⟨I.ok,I.os,I.bare,⟨λb o e n hb hx=> ?_,λb o e n hb hx=> ?_,I.base.free,λb o e hx=> ?_,I.base.tups,I.base.frzs,I.base.tbls⟩,⟨m,hn.sameBut hs (Ne.symm (cne x c hc)),λj y v' e1 e2 e3=> ?_⟩,λy c' e=> ?_,I.free,I.freeC,λp hp=> ?_,tracked ⟨oc,hoc,I.freeC x c hc⟩ hs,by simpa using I.len⟩ ⟨c,hs,.inr hc⟩
  ·exact(hs.2 b (Nat.ne_of_lt (Nat.lt_of_lt_of_le (Heap.lt_size e) (I.ok.cab x c hfn hc)))).trans (I.base.keep b o e n hb hx)
  ·obtain⟨sl,e1⟩:=I.base.slot b o e n hb hx
   exact⟨sl,(hs.2 b (Nat.ne_of_lt (Nat.lt_of_lt_of_le (Heap.lt_size e) (I.ok.cab x c hfn hc)))).trans e1⟩
  ·obtain⟨o',e1⟩:=I.base.there b o e hx
   exact⟨o',(hs.2 b (Nat.ne_of_lt (Nat.lt_of_lt_of_le (Heap.lt_size e) (I.ok.cab x c hfn hc)))).trans e1⟩
  ·by_cases hj:j=i
   ·subst hj
    rw[hi] at e1;cases e1
    rw[List.getElem?_set_self hiσ] at e2
    cases e2
    exact⟨u,r,.inr ⟨.inl hk,c,hc,hc'⟩⟩
   ·rw[List.getElem?_set_ne (Ne.symm hj)] at e2
    obtain⟨u',r',q⟩:=hl j y v' e1 e2 e3
    refine⟨u',r', ?_⟩
    rcases q with q | ⟨k,c',e,z'⟩
    ·exact .inl q
    ·refine .inr ⟨k,c',e,z'.sameBut hs ?_⟩
     rintro rfl
     exact hj (rH hN e1 (I.ok.inj _ _ _ e hc▸hi))
  ·by_cases hcc:c'=c
   ·subst hcc;exact⟨_,hc'⟩
   ·obtain⟨w2,z2⟩:=I.cell y c' e
    exact⟨w2,z2.sameBut hs hcc⟩
  ·obtain⟨e,n,ne,nf,d⟩:=I.pin p hp
   refine⟨(hs.2 p.1 ?_).trans e,n,ne,nf,d⟩
   intro q
   rw[q,hoc] at e
   have q':oc=p.2:=Option.some.inj e
   exact d w' (by rw[<- q'];exact hocd)
theorem nt {M:Model} {A:Around} {E:Value->Shared->Prop} {i:Nat} {x:Str} {v:V} {u:Value} {Q:Unit->Shared->Prop} (I:Inv X pins σ H s) (hN:X.N.Nodup) (hi:X.N[i]? =some x) (hx:Loc X.env.scope x) (r:RelV v u)
 (h:∀s',Inv X pins (σ.set i (some v)) H s'->Q () s') (hf:X.fn x=true\/X.env.scope.names.lookup x=some .local:=by first | exact .inl rfl | exact .inr rfl | assumption):wpAny M A (storeName X.env x u) Q E s:=
 uK I hN hi hx r (λs' I' _=>h s' I') hf
theorem Inv.call' {s':Shared} {ch:List Addr} (I:Inv X pins σ H s) (ho:s'.os=s.os) (u:Un (frs X.stack) ch H H' s.heap s'.heap) (hok:HOk X.prog X.w H' s'.heap) (hg:AllBare s'.gens)
 (hch:∀b∈ch,(b∈X.ex\/X.s₀.heap.objs.size<=b)/\b≠X.env.locals/\(∀x c,X.env.cells.lookup x=some c->c≠b)/\∀p∈X.pn++pins,p.1≠b):Inv X pins σ H' s':=by
 obtain⟨h',g',d',t',o'⟩:=s'
 have e:o'=s.os:=ho
 subst e
 exact I.call (g':=g') (t':=t') (d':=d') u hok hg hch
end
abbrev XK:=Value->Option Addr->Hp->Prop
abbrev St:=List (Option V)
abbrev VK:=V->Hp->Prop
abbrev TE:=St->Hp->VK->Prop
abbrev TT:=St->Hp->(Bool->Hp->Prop)->Prop
abbrev TA:=St->Hp->(List V->Hp->Prop)->Prop
structure Ends where
 nx:St->Hp->Prop
 rt:VK
 bk:St->Hp->Prop:=λ_ _=>False
 ct:St->Hp->Prop:=λ_ _=>False
abbrev TS:=Ends->St->Hp->Prop
def EP(X:Cx)(pins:List (Addr×Obj))(σ:St)(Q:VK)(u:Value)(s':Shared):Prop:=∃v H',Inv X pins σ H' s'/\RelV v u/\Q v H'
def TP(X:Cx)(pins:List (Addr×Obj))(σ:St)(Q:Bool->Hp->Prop)(b:Bool)(s':Shared):Prop:=∃H',Inv X pins σ H' s'/\Q b H'
def AP(X:Cx)(pins:List (Addr×Obj))(σ:St)(Q:List V->Hp->Prop)(us:List Value)(s':Shared):Prop:=∃vs H',Inv X pins σ H' s'/\Vals vs us/\Q vs H'
def SP(X:Cx)(pins:List (Addr×Obj))(D:Ends)(f:Flow)(s':Shared):Prop:=
 match f with
 | .next=>∃σ' H',Inv X pins σ' H' s'/\D.nx σ' H'
 | .brk=>∃σ' H',Inv X pins σ' H' s'/\D.bk σ' H'
 | .cont=>∃σ' H',Inv X pins σ' H' s'/\D.ct σ' H'
 | .ret u=>∃v σ' H',Inv X pins σ' H' s'/\RelV v u/\D.rt v H'
def PE(X:Cx)(e:Expr)(t:TE):Prop:=
 ∀(pins:List (Addr×Obj)) (s:Shared) (σ:St) (H:Hp) (Q:VK),Inv X pins σ H s->t σ H Q->wpAny (model X.prog X.w) X.A (eval e X.env) (EP X pins σ Q) X.xe s
def PT(X:Cx)(e:Expr)(t:TT):Prop:=
 ∀(pins:List (Addr×Obj)) (s:Shared) (σ:St) (H:Hp) (Q:Bool->Hp->Prop),Inv X pins σ H s->t σ H Q->wpAny (model X.prog X.w) X.A (isTrue e X.env (eval e X.env)) (TP X pins σ Q) X.xe s
def PW(X:Cx)(e:Expr)(t:TT):Prop:=
 ∀(whole:Sem Value) (pins:List (Addr×Obj)) (s:Shared) (σ:St) (H:Hp) (Q:Bool->Hp->Prop),Inv X pins σ H s->t σ H Q->wpAny (model X.prog X.w) X.A (isTrue e X.env whole) (TP X pins σ Q) X.xe s
theorem PW.pt{X:Cx}{e:Expr}{t:TT}(h:PW X e t):PT X e t:=h _
def PA(X:Cx)(es:List Expr)(t:TA):Prop:=
 ∀(pos:Pos) (pins:List (Addr×Obj)) (s:Shared) (σ:St) (H:Hp) (Q:List V->Hp->Prop),Inv X pins σ H s->t σ H Q->wpAny (model X.prog X.w) X.A (spliced (backTo pos (starEach es X.env))) (AP X pins σ Q) X.xe s
def PS(X:Cx)(st:Stmt)(t:TS):Prop:=
 ∀(pins:List (Addr×Obj)) (s:Shared) (σ:St) (H:Hp) (D:Ends),Inv X pins σ H s->t D σ H->wpAny (model X.prog X.w) X.A (exec st X.env) (SP X pins D) X.xe s
def PSs(X:Cx)(st:List Stmt)(t:TS):Prop:=
 ∀(pins:List (Addr×Obj)) (s:Shared) (σ:St) (H:Hp) (D:Ends),Inv X pins σ H s->t D σ H->wpAny (model X.prog X.w) X.A (execs st X.env) (SP X pins D) X.xe s
theorem thn{α:Type}{t:Sem α}{Q Q':α->Shared->Prop}{M:Model}{A:Around}{E:Value->Shared->Prop}{s:Shared}(h:wpAny M A t Q E s)(hQ:∀a s,Q a s->Q' a s):wpAny M A t Q' E s:=wpAny_mono h hQ λ_ _ x=>x
end L2
namespace L2
open PySem PySem.Spec PyProof.Rows
section
variable {X : Cx}
theorem bin {a b:Expr} {ta tb:TE} (ha:PE X a ta) (hb:PE X b tb) {pins:List (Addr×Obj)} {s:Shared} {σ:St} {H:Hp} {R:V->V->Hp->Prop} (I:Inv X pins σ H s) (h:ta σ H λx H1=>tb σ H1 λy H2=>R x y H2)
 {α:Type} {Q:α->Shared->Prop} {f:Value->Value->Sem α}
 (hf:∀v u s2 x y H2,Inv X pins σ H2 s2->RelV x v->RelV y u->R x y H2->wpAny (model X.prog X.w) X.A (f v u) Q X.xe s2):
 wpAny (model X.prog X.w) X.A (eval a X.env) (λv s₁=>wpAny (model X.prog X.w) X.A (eval b X.env) (λu s₂=>wpAny (model X.prog X.w) X.A (f v u) Q X.xe s₂) X.xe s₁) X.xe s:=by
 refine thn (ha pins s σ H _ I h) λv s1 ⟨x,H1,I1,r1,q1⟩=> ?_
 refine thn (hb pins s1 σ H1 _ I1 q1) λu s2 ⟨y,H2,I2,r2,q2⟩=> ?_
 exact hf v u s2 x y H2 I2 r1 r2 q2
def CV(i:Nat):TE:=λσ H Q=>∃v,σ[i]? =some (some v)/\Q v H
def tC(v:V):TE:=λ_ H Q=>Q v H
theorem GG{i:Nat}{x:Str}{pos:Pos}(hN:X.N[i]? =some x)(hv:Vis X.env.scope x)(hd:(x == ("__debug__" :Str))=false:=by decide)(hcd:(x == ("__classdict__" :Str))=false:=by decide):PE X (.Name x pos) (CV i):=by
 intro pins s σ H Q I h
 obtain⟨v,e,h⟩:=h
 obtain⟨m,hn,hl⟩:=I.loc
 obtain⟨u,r,l⟩:=hl i x v hN e hv
 have fin:EP X pins σ Q u s:=⟨v,H,I,r,h⟩
 rcases l with⟨hk,hm⟩ | ⟨hk,c,hc,hcell⟩
 ·exact wpAny_Name (wpAny_loadName_local I.ok.kind hk hn hm fin) hd
 ·rcases hk with hk | hk
  ·exact wpAny_Name (wpAny_loadName_cell I.ok.kind hk hc hcell fin) hd
  ·exact wpAny_Name (wpAny_loadName_free I.ok.kind hk hc hcell fin hcd) hd
theorem aE{i j pos}:PE X (.Constant (.int i) j pos) (tC (.int i)):=λ_ _ _ H _ I h=>wpAny_Constant_int ⟨.int i,H,I.tok _,⟨_,rfl⟩,h⟩
theorem sY{b j pos}:PE X (.Constant (.bool b) j pos) (tC (.bl b)):=λ_ _ _ H _ I h=>Constant_bool ⟨.bl b,H,I,rfl,h⟩
theorem FQ{j pos}:PE X (.Constant .none j pos) (tC .non):=λ_ _ _ H _ I h=>Constant_none ⟨.non,H,I,rfl,h⟩
theorem wu{x j pos}:PE X (.Constant (.str x) j pos) (tC (.str x)):=λ_ _ _ H _ I h=>Calls.Constant_str ⟨.str x,H,I.tok _,⟨_,rfl⟩,h⟩
def Gl(X:Cx)(x:Str):Prop:=X.env.kindOf x=some .globalImplicit
theorem mX {E:Value->Shared->Prop} {pins:List (Addr×Obj)} {s:Shared} {σ:St} {H:Hp} {x:Str} {u:Value} {pos:Pos} {Q:Value->Shared->Prop} (I:Inv X pins σ H s) (hg:Gl X x) (hm:X.mg x=some u) (h:Q u s)
 (hd:(x == ("__debug__" :Str))=false:=by decide):wpAny (model X.prog X.w) X.A (eval (.Name x pos) X.env) Q E s:=
 Calls.Name_function_global I.ok.kind hg (Calls.loadGlobal_global (by rw[I.ok.glob];exact I.mod.glob.keeps I.bk) hm h) hd
theorem ki {E:Value->Shared->Prop} {pins:List (Addr×Obj)} {s:Shared} {σ:St} {H:Hp} {x:Str} {u:Value} {pos:Pos} {Q:Value->Shared->Prop} (I:Inv X pins σ H s) (hg:Gl X x) (hm:X.mg x=none) (hv:bootBuiltins x=some u) (h:Q u s)
 (hn:x≠"__name__" :=by decide) (hd:(x == ("__debug__" :Str))=false:=by decide):wpAny (model X.prog X.w) X.A (eval (.Name x pos) X.env) Q E s:=by
 obtain⟨mb,h1,h2⟩:=I.mod.blt
 exact Calls.Name_function_global I.ok.kind hg (Calls.loadGlobal_builtin (by rw[I.ok.glob];exact I.mod.glob.keeps I.bk) hm (by rw[I.ok.blt];exact h1.keeps I.bk) ((h2 x hn).trans hv) h) hd
theorem fj{x:Str}{v:V}{u:Value}{pos:Pos}(hg:Gl X x)(hm:X.mg x=some u)(r:RelV v u)(hd:(x == ("__debug__" :Str))=false:=by decide):PE X (.Name x pos) (tC v):=
 λ_ _ _ H _ I h=>mX I hg hm ⟨v,H,I,r,h⟩ hd
theorem pM{x:Str}{v:V}{u:Value}{pos:Pos}(hg:Gl X x)(hm:X.mg x=none)(hv:bootBuiltins x=some u)(r:RelV v u)(hn:x≠"__name__" :=by decide)(hd:(x == ("__debug__" :Str))=false:=by decide):PE X (.Name x pos) (tC v):=
 λ_ _ _ H _ I h=>ki I hg hm hv ⟨v,H,I,r,h⟩ hn hd
variable {a b : Expr} {ta tb : TE} {pos : Pos}
def PC(X:Cx)(op:CmpOp)(a b:Expr)(t:TE):Prop:=
 ∀(pins:List (Addr×Obj)) (s:Shared) (σ:St) (H:Hp) (Q:VK),Inv X pins σ H s->t σ H Q->
  wpAny (model X.prog X.w) X.A (eval a X.env) (λv s₁=>wpAny (model X.prog X.w) X.A (eval b X.env) (λu s₂=>wpAny (model X.prog X.w) X.A (compareOp op v u) (EP X pins σ Q) X.xe s₂) X.xe s₁) X.xe s
theorem C6(b:Expr){op:CmpOp}(h:op≠ .In)(h2:op≠ .NotIn):behindInMarks op b=false:=by
 have e1:(op == CmpOp.In)=false:=by cases op <;> first | rfl | exact absurd rfl h
 have e2:(op == CmpOp.NotIn)=false:=by cases op <;> first | rfl | exact absurd rfl h2
 cases b <;> simp[behindInMarks,e1,e2]
def tB(t:TE):TT:=λσ H Q=>t σ H λx H1=>∃c,x=.bl c/\Q c H1
theorem Jn{op:CmpOp}{t:TE}(h:PC X op a b t)(h1:behindInMarks op b=false:=by first | exact C6 _ (by decide) (by decide) | rfl):PT X (.Compare a [op] [b] pos) (tB t):=by
 intro pins s σ H Q I hw
 refine wpAny_isTrue_Compare1 (thn (h pins s σ H _ I hw) λv s1 h1=>thn h1 λu s2 h2=>thn h2 λc s3 ⟨x,H1,I1,r1,q1⟩=> ?_) h1
 obtain⟨d,rfl,q⟩:=q1
 cases r1
 exact wpAny_truthy_bool ⟨H1,I1,q⟩
theorem gG{e:Expr}{t:TE}(h:PE X e t)(he:∀whole,isTrue e X.env whole=(do let v <- whole;standAt e.pos;holding [v] (truthy v)):=by intro _;rfl):PT X e (tB t):=by
 intro pins s σ H Q I hw
 refine isTrue_plain (thn (h pins s σ H _ I hw) λv s1 ⟨x,H1,I1,r1,q1⟩=> ?_) (he _)
 obtain⟨d,rfl,q⟩:=q1
 cases r1
 exact wpAny_truthy_bool ⟨H1,I1,q⟩
variable {tA tB' : TT} {rest : List Expr}
def FG(t u:TT):TT:=λσ H Q=>t σ H λc H1=>if c=true then u σ H1 Q else Q false H1
def tOr(t u:TT):TT:=λσ H Q=>t σ H λc H1=>if c=true then Q true H1 else u σ H1 Q
def Fh(t:TT):TT:=λσ H Q=>t σ H λc H1=>Q (!c) H1
theorem pw_and1(ha:PT X a tA):PW X (.BoolOp .And [a] pos) tA:=by
 intro wh pins s σ H Q I h
 refine isTrue_and (thn (ha pins s σ H Q I h) λc s1 e=> ?_)
 cases c with
 | true=>exact isTrue_and_nil e
 | false=>exact e
theorem pw_or1(ha:PT X a tA):PW X (.BoolOp .Or [a] pos) tA:=by
 intro wh pins s σ H Q I h
 refine isTrue_or (thn (ha pins s σ H Q I h) λc s1 e=> ?_)
 cases c with
 | false=>exact isTrue_or_nil e
 | true=>exact e
theorem pw_and(ha:PT X a tA)(hb:PW X (.BoolOp .And (b::rest) pos) tB'):PW X (.BoolOp .And (a::b::rest) pos) (FG tA tB'):=by
 intro wh pins s σ H Q I h
 refine isTrue_and (thn (ha pins s σ H _ I h) λc s1 ⟨H1,I1,q1⟩=> ?_)
 cases c with
 | true=>exact hb wh pins s1 σ H1 Q I1 q1
 | false=>exact⟨H1,I1,q1⟩
theorem pw_or(ha:PT X a tA)(hb:PW X (.BoolOp .Or (b::rest) pos) tB'):PW X (.BoolOp .Or (a::b::rest) pos) (tOr tA tB'):=by
 intro wh pins s σ H Q I h
 refine isTrue_or (thn (ha pins s σ H _ I h) λc s1 ⟨H1,I1,q1⟩=> ?_)
 cases c with
 | true=>exact⟨H1,I1,q1⟩
 | false=>exact hb wh pins s1 σ H1 Q I1 q1
theorem oM(ha:PT X a tA):PT X (.UnaryOp .Not a pos) (Fh tA):=by
 intro pins s σ H Q I h
 exact isTrue_not (ha pins s σ H (λc H1=>Q (!c) H1) I h)
def DD(ta tb:TE):TE:=λσ H Q=>ta σ H λx H1=>∃c,x=.bl c/\if c=true then tb σ H1 Q else Q (.bl false) H1
def DJ(ta:TE):TE:=λσ H Q=>ta σ H λx H1=>∃c,x=.bl c/\Q (.bl (!c)) H1
theorem sW{op}{t:TE}(h:PE X a t):PE X (.BoolOp op [a] pos) t:=λpins s σ H Q I hw=>BoolOp_one (h pins s σ H Q I hw)
theorem oB(ha:PE X a ta)(hb:PE X (.BoolOp .And (b::rest) pos) tb):PE X (.BoolOp .And (a::b::rest) pos) (DD ta tb):=by
 intro pins s σ H Q I h
 refine BoolOp_and (thn (ha pins s σ H _ I h) λv s1 ⟨x,H1,I1,r1,q1⟩=> ?_)
 obtain⟨c,rfl,q1⟩:=q1
 cases r1
 refine wpAny_truthy_bool ?_
 cases c with
 | true=>exact hb pins s1 σ H1 Q I1 q1
 | false=>exact⟨.bl false,H1,I1,rfl,q1⟩
theorem Aw(ha:PE X a ta):PE X (.UnaryOp .Not a pos) (DJ ta):=by
 intro pins s σ H Q I h
 refine UnaryOp_ (thn (ha pins s σ H _ I h) λv s1 ⟨x,H1,I1,r1,q1⟩=> ?_)
 obtain⟨c,rfl,q1⟩:=q1
 cases r1
 exact not_of (wpAny_truthy_bool ⟨.bl (!c),H1,I1,rfl,q1⟩)
end
end L2
namespace L2
open PySem PySem.Spec PyProof.Rows
def SqL(K:PySem.W.Frag)(H:Hp)(a:Addr)(xs:List V):Prop:=
 Rd H a (.lst xs)\/
  ∃(o:Obj) (its:Array Value) (n:Nat),K.lookup a=some o/\o.cls=.type "list" /\o.dict=none/\o.data=.seq its n/\its.size<=sizeLine/\Vals xs its.toList
def SqT(K:PySem.W.Frag)(H:Hp)(a:Addr)(xs:List V):Prop:=
 Rd H a (.tup xs)\/
  ∃(o:Obj) (its:Array Value) (n:Nat),K.lookup a=some o/\o.cls=.type "tuple" /\o.data=.seq its n/\its.size<=sizeLine/\Vals xs its.toList
def HJ:Value->Option V
 | .none=>some .non
 | .bool b=>some (.bl b)
 | .int i _=>some (.int i)
 | .str x _=>some (.str x)
 | .bytes b _=>some (.byt b)
 | .float b _=>some (.flt b)
 | .ref a=>some (.ref a)
 | .type n=>some (.ty n)
 | _=>none
theorem RelV.abs{x:V}{u:Value}(r:RelV x u):HJ u=some x:=by
 cases x with
 | non=>cases r;rfl
 | bl _=>cases r;rfl
 | int _=>obtain⟨t,rfl⟩:=r;rfl
 | str _=>obtain⟨t,rfl⟩:=r;rfl
 | byt _=>obtain⟨t,rfl⟩:=r;rfl
 | flt _=>obtain⟨t,rfl⟩:=r;rfl
 | ref _=>cases r;rfl
 | ty _=>cases r;rfl
theorem RelV.inj{x y:V}{u:Value}(r:RelV x u)(q:RelV y u):x=y:=Option.some.inj (r.abs.symm.trans q.abs)
theorem Vals.inj:∀{xs ys:List V} {us:List Value},Vals xs us->Vals ys us->xs=ys
 | _,_,_,.nil,.nil=>rfl
 | _,_,_,.cons r t,.cons r' t'=>by rw[r.inj r',Vals.inj t t']
section
variable {X : Cx} {pins : List (Addr × Obj)} {σ : St} {H : Hp} {s : Shared} {a : Addr} {xs ys : List V}
theorem SqL.of{K:PySem.W.Frag}(h:H a=some (.lst xs)):SqL K H a xs:=.inl (.inl h)
theorem SqT.of{K:PySem.W.Frag}(h:H a=some (.tup xs)):SqT K H a xs:=.inl (.inl h)
theorem Inv.list(I:Inv X pins σ H s)(h:SqL X.K H a xs):∃its:List Value,Vals xs its/\PlainL s.heap a its.toArray/\xs.length<=sizeLine:=by
 rcases h with h | ⟨o,its,n,hk,hc,hd,hs,hz,r⟩
 ·obtain⟨z,its,n,r,e⟩:=h.ok I.hok
  exact⟨its,r,⟨_,n,e,rfl,rfl,rfl⟩,z⟩
 ·refine⟨its.toList,r,⟨o,n,I.kIn a o hk,hc,hd,by simpa using hs⟩, ?_⟩
  have e:=r.length
  simp only[Array.length_toList] at e
  omega
theorem Inv.tuple(I:Inv X pins σ H s)(h:SqT X.K H a xs):∃its:List Value,Vals xs its/\IsTup s.heap a its.toArray/\xs.length<=sizeLine:=by
 rcases h with h | ⟨o,its,n,hk,hc,hs,hz,r⟩
 ·obtain⟨z,its,r,p⟩:=h.ok I.hok
  exact⟨its,r,p,z⟩
 ·refine⟨its.toList,r,⟨o,I.kIn a o hk,hc,n,by simpa using hs⟩, ?_⟩
  have e:=r.length
  simp only[Array.length_toList] at e
  omega
theorem Inv.list_inj(I:Inv X pins σ H s)(h:SqL X.K H a xs)(h':SqL X.K H a ys):xs=ys:=by
 obtain⟨its,r,⟨o,n,e,_,_,d⟩,_⟩:=I.list h
 obtain⟨its',r',⟨o',n',e',_,_,d'⟩,_⟩:=I.list h'
 rw[e] at e';cases e'
 rw[d] at d'
 injection d' with d1 _
 have:its=its':=by simpa using congrArg Array.toList d1
 subst this
 exact r.inj r'
end
abbrev Cx.wish(X:Cx)(E:Value->Shared->Prop):Cx:={X with xe:=E}
abbrev Cx.nox(X:Cx):Cx:=X.wish λ_ _=>False
theorem Cx.Ok.wish{X:Cx}(ok:X.Ok)(E:Value->Shared->Prop):(X.wish E).Ok:=
 ⟨ok.mod,ok.kind,ok.glob,ok.blt,ok.above,ok.inj,ok.has,ok.cab,ok.hd,ok.frames,ok.stk,ok.exf,ok.bs,ok.bsz,ok.noex,ok.exfs,ok.funs,ok.frf⟩
theorem Cx.Ok.unwish{X:Cx}{E:Value->Shared->Prop}(ok:(X.wish E).Ok):X.Ok:=
 ⟨ok.mod,ok.kind,ok.glob,ok.blt,ok.above,ok.inj,ok.has,ok.cab,ok.hd,ok.frames,ok.stk,ok.exf,ok.bs,ok.bsz,ok.noex,ok.exfs,ok.funs,ok.frf⟩
section
variable {X : Cx} {pins : List (Addr × Obj)} {σ : St} {H : Hp} {s : Shared} {E : Value → Shared → Prop}
theorem Inv.wish(I:Inv X pins σ H s)(E:Value->Shared->Prop):Inv (X.wish E) pins σ H s:=⟨I.ok.wish E,I.os,I.bare,I.base,I.loc,I.cell,I.free,I.freeC,I.pin,I.hok,I.len⟩
theorem Inv.unwish(I:Inv (X.wish E) pins σ H s):Inv X pins σ H s:=⟨I.ok.unwish,I.os,I.bare,I.base,I.loc,I.cell,I.free,I.freeC,I.pin,I.hok,I.len⟩
theorem SP.unwish{D:Ends}{f:Flow}{s':Shared}(h:SP (X.wish E) pins D f s'):SP X pins D f s':=by
 cases f with
 | next=>obtain⟨σ',H',I,q⟩:=h;exact⟨σ',H',I.unwish,q⟩
 | brk=>obtain⟨σ',H',I,q⟩:=h;exact⟨σ',H',I.unwish,q⟩
 | cont=>obtain⟨σ',H',I,q⟩:=h;exact⟨σ',H',I.unwish,q⟩
 | ret u=>obtain⟨v,σ',H',I,r,q⟩:=h;exact⟨v,σ',H',I.unwish,r,q⟩
theorem PE.nox{e:Expr}{t:TE}(h:PE X.nox e t):PE X e t:=λpins s σ H Q I hw=>
 wpAny_mono (h pins s σ H Q (I.wish _) hw) (λ_ _ ⟨v,H',I',r,q⟩=>⟨v,H',I'.unwish,r,q⟩) λ_ _ z=>False.elim z
theorem PT.nox{e:Expr}{t:TT}(h:PT X.nox e t):PT X e t:=λpins s σ H Q I hw=>
 wpAny_mono (h pins s σ H Q (I.wish _) hw) (λ_ _ ⟨H',I',q⟩=>⟨H',I'.unwish,q⟩) λ_ _ z=>False.elim z
theorem PSs.nox{st:List Stmt}{t:TS}(h:PSs X.nox st t):PSs X st t:=λpins s σ H D I hw=>
 wpAny_mono (h pins s σ H D (I.wish _) hw) (λ_ _ q=>q.unwish) λ_ _ z=>False.elim z
end
section
variable {X : Cx} {st : Stmt} {rest : List Stmt} {t u : TS} {e : Expr} {te : TE} {pos : Pos}
def Dt:TS:=λD σ H=>D.nx σ H
def Gw(t u:TS):TS:=λD σ H=>t {D with nx:=u D} σ H
theorem cw:PSs X [] Dt:=λ_ _ σ H _ I h=>wpAny_execs_nil ⟨σ,H,I,h⟩
theorem az(h1:PS X st t)(h2:PSs X rest u):PSs X (st::rest) (Gw t u):=by
 intro pins s σ H D I h
 refine wpAny_execs_cons (thn (h1 pins s σ H {D with nx:=u D} I h) λf s1 q=> ?_)
 cases f with
 | next=>
  obtain⟨σ',H',I',q⟩:=q
  exact h2 pins s1 σ' H' D I' q
 | ret v=>exact q
 | brk=>exact q
 | cont=>exact q
theorem aJ(h1:PS X st t):PSs X [st] t:=by
 intro pins s σ H D I h
 refine wpAny_execs_cons (thn (h1 pins s σ H D I h) λf s1 q=> ?_)
 cases f with
 | next=>exact wpAny_execs_nil q
 | ret v=>exact q
 | brk=>exact q
 | cont=>exact q
theorem Inv.quiet{pins:List (Addr×Obj)}{σ:St}{H:Hp}{s:Shared}(I:Inv X pins σ H s):interactive X.env=false:=by simp[interactive,I.ok.kind]
def Dp(te:TE):TS:=λD σ H=>te σ H λ_ H1=>D.nx σ H1
theorem lg(he:PE X e te)(hs:swapsWith e none pos.line X.env=pure false:=by rfl):PS X (.Expr e pos) (Dp te):=by
 intro pins s σ H D I h
 exact wpAny_Expr_any (thn (he pins s σ H _ I h) λv s1 ⟨x,H1,I1,r1,q1⟩=>⟨σ,H1,I1,q1⟩) I.quiet hs
def FI(te:TE):TS:=λD σ H=>te σ H D.rt
theorem bq(he:PE X e te):PS X (.Return (some e) pos) (FI te):=by
 intro pins s σ H D I h
 exact wpAny_Return_some (thn (he pins s σ H _ I h) λv s1 ⟨x,H1,I1,r1,q1⟩=>⟨x,σ,H1,I1,r1,q1⟩)
def Gn(c:TT)(t u:TS):TS:=λD σ H=>c σ H λb H1=>if b=true then t D σ H1 else u D σ H1
theorem dC{c:Expr}{a b:List Stmt}{tc:TT}(hc:PT X c tc)(ha:PSs X a t)(hb:PSs X b u):PS X (.If c a b pos) (Gn tc t u):=by
 intro pins s σ H D I h
 refine wpAny_If (thn (hc pins s σ H _ I h) λd s1 ⟨H1,I1,q1⟩=> ?_)
 cases d with
 | true=>exact ha pins s1 σ H1 D I1 q1
 | false=>exact hb pins s1 σ H1 D I1 q1
def Af:TS:=λ_ _ _=>False
theorem w8:PS X st Af:=λ_ _ _ _ _ _ h=>h.elim
end
abbrev TG:=V->St->Hp->(St->Hp->Prop)->Prop
abbrev TGs:=List V->St->Hp->(St->Hp->Prop)->Prop
def PG(X:Cx)(target:Expr)(t:TG):Prop:=
 ∀(pins:List (Addr×Obj)) (s:Shared) (σ:St) (H:Hp) (v:V) (u:Value) (Q:St->Hp->Prop),Inv X pins σ H s->RelV v u->t v σ H Q->
  wpAny (model X.prog X.w) X.A (assign target X.env u) (λ_ s'=>∃σ' H',Inv X pins σ' H' s'/\Q σ' H') X.xe s
def PGs(X:Cx)(ts:List Expr)(t:TGs):Prop:=
 ∀(pins:List (Addr×Obj)) (s:Shared) (σ:St) (H:Hp) (vs:List V) (us:List Value) (Q:St->Hp->Prop),Inv X pins σ H s->Vals vs us->t vs σ H Q->
  wpAny (model X.prog X.w) X.A (assignInOrder ((assignEach ts X.env).map (·.2)) us) (λ_ s'=>∃σ' H',Inv X pins σ' H' s'/\Q σ' H') X.xe s
abbrev Cv:=V->V->V->Hp->(Hp->Prop)->Prop
def FJ(X:Cx)(t:Cv):Prop:=
 ∀(pins:List (Addr×Obj)) (s:Shared) (σ:St) (H:Hp) (o i v:V) (ov iv u:Value) (Q:Hp->Prop),Inv X pins σ H s->RelV o ov->RelV i iv->RelV v u->t o i v H Q->
  wpAny (model X.prog X.w) X.A (setItem ov iv u) (λ_ s'=>∃H',Inv X pins σ H' s'/\Q H') X.xe s
section
variable {X : Cx} {pos : Pos}
def pZ(i:Nat):TG:=λv σ H Q=>Q (σ.set i (some v)) H
theorem aV{i:Nat}{x:Str}(hN:X.N.Nodup)(hi:X.N[i]? =some x)(hx:Loc X.env.scope x)(hf:X.fn x=true\/X.env.scope.names.lookup x=some .local:=by first | exact .inl rfl | exact .inr rfl | assumption):PG X (.Name x pos) (pZ i):=by
 intro pins s σ H v u Q I r h
 exact wpAny_assign_Name (nt I hN hi hx r (λs' I'=>⟨_,H,I',h⟩) hf)
def FF:TGs:=λvs σ H Q=>vs=[]/\Q σ H
def Dv(t:TG)(u:TGs):TGs:=λvs σ H Q=>∃v r,vs=v::r/\t v σ H λσ' H'=>u r σ' H' Q
theorem ie:PGs X [] FF:=by
 intro pins s σ H vs us Q I r h
 obtain⟨e,h⟩:=h
 subst e
 cases r
 exact assignInOrder_nil ⟨σ,H,I,h⟩
theorem cC {e:Expr} {es:List Expr} {t:TG} {u:TGs} (h1:PG X e t) (h2:PGs X es u)
 (hs:(assignEach (e::es) X.env).map (·.2)=assign e X.env::(assignEach es X.env).map (·.2):=by rfl):PGs X (e::es) (Dv t u):=by
 intro pins s σ H vs us Q I r h
 obtain⟨v,vr,e1,h⟩:=h
 subst e1
 cases r with
 | cons r rr=>
  rw[hs]
  refine assignInOrder_cons (thn (h1 pins s σ H _ _ _ I r h) λ_ s1 ⟨σ1,H1,I1,q1⟩=> ?_)
  exact h2 pins s1 σ1 H1 _ _ Q I1 rr q1
def Gb(K:PySem.W.Frag)(n:Nat)(t:TGs):TG:=λv σ H Q=>∃a xs,v=.ref a/\SqT K H a xs/\xs.length=n/\t xs σ H Q
theorem jB {es:List Expr} {k:Nat} {t:TGs} {n:Nat} (hc:X.calm=true) (h:PGs X es t)
 (hn:(assignEach es X.env).length=n:=by rfl) (hst:(assignEach es X.env).findIdx? (·.1)=none:=by rfl):PG X (.Tuple es k pos) (Gb X.K n t):=by
 intro pins s σ H v u Q I r hw
 obtain⟨a,xs,e1,hq,hl,hw⟩:=hw
 subst e1
 cases r
 obtain⟨its,rv,ht,hz⟩:=I.tuple hq
 refine assign_Tuple_tuple (I.ok.hd hc) ht (by simp[hn,<- hl,rv.length]) hst λh' hx=> ?_
 have I1:Inv X pins σ H {s with heap:=h'}:=I.kept (t':=s.toks) λb o e=>hx b o (Nat.ne_of_lt (Heap.lt_size e)) e
 exact h pins _ σ H xs _ Q I1 (by simpa using rv) hw
def Gs(to ti:TE)(t:Cv):TG:=λv σ H Q=>to σ H λo H1=>ti σ H1 λi H2=>t o i v H2 λH3=>Q σ H3
theorem mG {o i:Expr} {to ti:TE} {t:Cv} (ho:PE X o to) (hi:PE X i ti) (hs:FJ X t)
 (ha:∀v,assign (.Subscript o i pos) X.env v=(do
  let ov <- holding [v] (eval o X.env)
  let iv <- holding [v,ov] (eval i X.env)
  standAt pos
  holding [v,ov,iv] (setItem ov iv v)
  release [v,ov,iv] []):=by intro _;rfl):PG X (.Subscript o i pos) (Gs to ti t):=by
 intro pins s σ H v u Q I r h
 rw[ha]
 refine wpAny_bind (wpAny_holding (thn (ho pins s σ H _ I h) λov s1 ⟨x,H1,I1,r1,q1⟩=> ?_))
 refine wpAny_bind (wpAny_holding (thn (hi pins s1 σ H1 _ I1 q1) λiv s2 ⟨y,H2,I2,r2,q2⟩=> ?_))
 refine wpAny_bind (wpAny_standAt (wpAny_bind (wpAny_holding (thn (hs pins s2 σ H2 x y v ov iv u _ I2 r1 r2 r q2) λ_ s3 ⟨H3,I3,q3⟩=> ?_))))
 exact wpAny_release ⟨σ,H3,I3,q3⟩
def wG(te:TE)(g:TG):TS:=λD σ H=>te σ H λx H1=>g x σ H1 D.nx
theorem mT {tg e:Expr} {te:TE} {g:TG} (he:PE X e te) (hg:PG X tg g) (hs:swapsWithSole [tg] e pos.line X.env=pure false:=by rfl) (hw:swappedStores [tg] e X.env=pure none:=by rfl)
 (h1:(assignEach [tg] X.env).map (·.2)=[assign tg X.env]:=by rfl):PS X (.Assign [tg] e pos) (wG te g):=by
 intro pins s σ H D I h
 refine wpAny_Assign_stores (thn (he pins s σ H _ I h) λv s1 ⟨x,H1,I1,r1,q1⟩=> ?_) hs hw
 rw[h1]
 exact thn (hg pins s1 σ H1 x v _ I1 r1 q1) λ_ s2 q=>q
theorem aT{i:Nat}{x:Str}{e:Expr}{te:TE}{pos':Pos}(hN:X.N.Nodup)(hi:X.N[i]? =some x)(hx:Loc X.env.scope x)(he:PE X e te)(hs:swapsWith e (some (.Name x pos')) pos.line X.env=pure false:=by rfl)(hf:X.fn x=true\/X.env.scope.names.lookup x=some .local:=by first | exact .inl rfl | exact .inr rfl | assumption):
 PS X (.Assign [.Name x pos'] e pos) (wG te (pZ i)):=by
 intro pins s σ H D I h
 refine wpAny_Assign_Name (thn (he pins s σ H _ I h) λv s1 ⟨y,H1,I1,r1,q1⟩=> ?_) hs
 exact nt I1 hN hi hx r1 (λs2 I2=>⟨_,H1,I2,q1⟩) hf
end
section
variable {X : Cx} {pos : Pos}
def An(c:TT)(tb:TS):TS:=λD σ H=>∃W:Nat->St->Hp->Prop,(∃m,W m σ H)/\∀m σ H,W m σ H->
 c σ H λb H1=>if b=true then ∃N:St->Hp->Prop,(∀σ' H',N σ' H'->∃m',m'<m/\W m' σ' H')/\tb {D with nx:=N,ct:=N,bk:=D.nx} σ H1 else D.nx σ H1
theorem Ci{c:Expr}{body:List Stmt}{tc:TT}{tb:TS}(hp:PassesOwn (model X.prog X.w) X.A X.env X.xe)(hc:PT X c tc)(hb:PSs X body tb):PS X (.While c body [] pos) (An tc tb):=by
 intro pins s σ H D I h
 obtain⟨W,⟨m0,w0⟩,turn⟩:=h
 refine wpAny_While (codeAny_whileLoop (λn s'=>∃σ' H',Inv X pins σ' H' s'/\W n σ' H') ?_ m0 ⟨σ,H,I,w0⟩)
 rintro n s1 ⟨σ1,H1,I1,w1⟩
 refine wpAny_passesOwn hp (thn (hc pins s1 σ1 H1 _ I1 (turn n σ1 H1 w1)) λb s2 ⟨H2,I2,q2⟩=> ?_)
 cases b with
 | true=>
  obtain⟨N,hN,q2⟩:=q2
  rw[if_pos rfl]
  refine wpAny_passesOwn hp (thn (hb pins s2 σ1 H2 _ I2 q2) λf s3 q3=> ?_)
  cases f with
  | next=>
   obtain⟨σ3,H3,I3,n3⟩:=q3
   obtain⟨m',hm,w3⟩:=hN σ3 H3 n3
   exact⟨m',hm,σ3,H3,I3,w3⟩
  | cont=>
   obtain⟨σ3,H3,I3,n3⟩:=q3
   obtain⟨m',hm,w3⟩:=hN σ3 H3 n3
   exact⟨m',hm,σ3,H3,I3,w3⟩
  | brk=>exact q3
  | ret v=>exact q3
 | false=>
  rw[if_neg Bool.false_ne_true]
  exact wpAny_execs_nil ⟨σ1,H2,I2,q2⟩
end
structure It where
 go:Nat->Hp->Prop
 yld:Nat->Hp->V->Hp->Prop
 stop:Nat->Hp->Prop
def jM(X:Cx)(pins:List (Addr×Obj))(H:Hp)(b:Addr):Prop:=
 H b=none/\b≠X.env.locals/\b∉X.fs/\(b∈X.ex\/X.s₀.heap.objs.size<=b)/\(∀x c,X.env.cells.lookup x=some c->c≠b)/\∀p∈X.pn++pins,p.1≠b
theorem Inv.fpOk{X:Cx}{pins:List (Addr×Obj)}{σ:St}{H H':Hp}{s:Shared}{b:Addr}(I:Inv X pins σ H s)(hb:s.heap.objs.size<=b)(hn:H' b=none):jM X pins H' b:=by
 refine⟨hn,Nat.ne_of_gt (Nat.lt_of_lt_of_le I.lt hb),I.nofs hb,.inr (Nat.le_trans I.sz hb),λx c e z=> ?_,λp hp z=> ?_⟩
 ·obtain⟨v,q⟩:=I.cell x c e
  exact absurd (Nat.lt_of_lt_of_le q.lt (by rw[z];exact hb)) (Nat.lt_irrefl _)
 ·exact absurd (Nat.lt_of_lt_of_le (Heap.lt_size (I.pin p hp).1) (by rw[z];exact hb)) (Nat.lt_irrefl _)
structure Turn(P:Program)(w:World)(K:PySem.W.Frag)(tg:Expr)(J:It)(fp:List Addr)(it:Addr)(tn:Nat->Heap->Prop):Prop where
 mem:it∈fp
 obj:∀i h,tn i h->∀b∈fp,∃o,h.get? b=some o/\∀v,o.data≠ .cell v
 keep:∀i h h',tn i h->(∀b∈fp,∀o,h.get? b=some o->h'.get? b=some o)->tn i h'
 item:∀(X:Cx),X.prog=P->X.w=w->X.K=K->X.calm=true->∀(i:Nat) (pins:List (Addr×Obj)) (s:Shared) (σ:St) (H:Hp) (E:Value->Shared->Prop),Inv X pins σ H s->(∀b∈fp,jM X pins H b)->tn i s.heap->J.go i H->
  wpAny (model P w) X.A (pyNext (.ref it)) (λr s1=>∃u,r=some u/\
   wpAny (model P w) X.A (letOwnedTupleGo tg (.ref it) u) (λ_ s2=>∃x H',Inv X pins σ H' s2/\RelV x u/\J.yld i H x H'/\tn (i+1) s2.heap/\∀b∈fp,H' b=none) E s1) E s
 done:∀(X:Cx),X.prog=P->X.w=w->X.K=K->X.calm=true->∀(i:Nat) (pins:List (Addr×Obj)) (s:Shared) (σ:St) (H:Hp) (E:Value->Shared->Prop),Inv X pins σ H s->(∀b∈fp,jM X pins H b)->tn i s.heap->J.stop i H->
  wpAny (model P w) X.A (pyNext (.ref it)) (λr s1=>r=none/\Inv X pins σ H s1) E s
 self:∀(A:Around) (i:Nat) (s:Shared) (Q:Value->Shared->Prop) (E:Value->Shared->Prop),tn i s.heap->Q (.ref it) s->wpAny (model P w) A (pyIter (.ref it)) Q E s
abbrev TI:=St->Hp->(It->Hp->Prop)->Prop
def PIE(X:Cx)(pins:List (Addr×Obj))(σ:St)(tg:Expr)(R:It->Hp->Prop)(itv:Value)(s2:Shared):Prop:=
 ∃(it:Addr) (fp:List Addr) (tn:Nat->Heap->Prop) (J:It) (H':Hp),itv=.ref it/\Inv X pins σ H' s2/\Turn X.prog X.w X.K tg J fp it tn/\tn 0 s2.heap/\(∀b∈fp,jM X pins H' b)/\R J H'
def PI(X:Cx)(tg iter:Expr)(wi:TI):Prop:=
 ∀(pins:List (Addr×Obj)) (s:Shared) (σ:St) (H:Hp) (R:It->Hp->Prop),Inv X pins σ H s->wi σ H R->
  wpAny (model X.prog X.w) X.A (eval iter X.env) (λv s1=>wpAny (model X.prog X.w) X.A (pyIter v) (PIE X pins σ tg R) X.xe s1) X.xe s
theorem Dr {M:Model} {A:Around} {E:Value->Shared->Prop} {s:Shared} {tg:Expr} {it:Addr} {u:Value} {o:Obj} {n:String} {vs:Array Value} {Q:Unit->Shared->Prop} (ho:s.heap.get? it=some o) (hc:o.cls=.type n) (hd:o.data=.fields vs)
 (hn:["enumerate","zip","dict_itemiterator","dict_reverseitemiterator","odict_iterator","itertools.zip_longest","itertools.pairwise"].contains n=false) (hQ:Q () s):wpAny M A (letOwnedTupleGo tg (.ref it) u) Q E s:=by
 unfold letOwnedTupleGo
 cases tg <;> first
  | exact wpAny_pure hQ
  | (cases u <;> first
   | exact wpAny_pure hQ
   | (
    refine wpAny_bind (wpAny_load ho ?_)
    rw[hc,hd]
    show wpAny M A (if (["enumerate","zip","dict_itemiterator","dict_reverseitemiterator","odict_iterator","itertools.zip_longest","itertools.pairwise"].contains n&&vs[0]? == some (rawInt _))=true then _ else _) Q E s
    rw[if_neg (by intro h;rw[hn,Bool.false_and] at h;cases h)]
    exact wpAny_pure hQ))
def Itl(K:PySem.W.Frag)(a:Addr):It:=
 ⟨λi H=>∃xs x,SqL K H a xs/\xs[i]? =some x,λi H x H'=>H'=H/\∀xs,SqL K H a xs->xs[i]? =some x,λi H=>∃xs,SqL K H a xs/\xs.length<=i⟩
def Itr(lo:Int)(n:Nat):It:=⟨λi _=>i<n,λi H x H'=>H'=H/\x=.int (lo+i),λi _=>n<=i⟩
theorem Ae{P:Program}{w:World}{K:PySem.W.Frag}{tg:Expr}(a it:Addr):Turn P w K tg (Itl K a) [it] it (λi h=>h.IsListIter it a i) where
 mem:=by simp
 obj:=λi h st b hb=>by
  have e:b=it:=by simpa using hb
  subst e
  obtain⟨o,e,c,d⟩:=st
  exact⟨o,e,λv z=>by rw[d] at z;cases z⟩
 keep:=λi h h' st k=>st.at λo e=>k it (by simp) o e
 item:=by
  intro X hP hw hK hc i pins s σ H E I hf st hg
  subst hP hw hK
  obtain⟨xs,x,hq,hx⟩:=hg
  obtain⟨its,rv,p,hz⟩:=I.list hq
  obtain⟨u,hu,ru⟩:=rv.get hx
  obtain⟨f0,f1,f2,f3,f4,f5⟩:=hf it (by simp)
  refine wpAny_pyNext_list_item st p.isList (x:=u) (by simpa using hu) λh' st' sb=> ?_
  have I1:Inv X pins σ H {s with heap:=h'}:=I.turned (t':=s.toks) (λb o hb e=>(sb.2 b hb).trans e) f0 f1 f3 f4 f5
  obtain⟨o,e,c,d⟩:=id st'
  exact⟨u,rfl,Dr (s:={s with heap:=h'}) e c d (by decide) ⟨x,H,I1,ru,⟨rfl,λys hy=>by rw[I.list_inj hy hq];exact hx⟩,st',λb hb=>(hf b hb).1⟩⟩
 done:=by
  intro X hP hw hK hc i pins s σ H E I hf st hg
  subst hP hw hK
  obtain⟨xs,hq,hx⟩:=hg
  obtain⟨its,rv,p,hz⟩:=I.list hq
  obtain⟨f0,f1,f2,f3,f4,f5⟩:=hf it (by simp)
  have hl:=rv.length
  exact wpAny_pyNext_list_end (I.ok.hd hc) st p.isList (by simp;omega) λh' eb=>⟨rfl,I.turned (t':=s.toks) (λb o hb e=>eb b o hb e) f0 f1 f3 f4 f5⟩
 self:=λ_ _ _ _ _ st h=>wpAny_pyIter_listiter st h
theorem zB{P:Program}{w:World}{K:PySem.W.Frag}{tg:Expr}(it:Addr)(lo:Int)(n:Nat):Turn P w K tg (Itr lo n) [it] it (λi h=>IsRangeIter h it (lo+(i:Nat)*1) ((n:Int)-(i:Nat)) 1) where
 mem:=by simp
 obj:=λi h st b hb=>by
  have e:b=it:=by simpa using hb
  subst e
  exact⟨_,st,λv z=>by
   have z':Data.fields _=Data.cell v:=z
   cases z'⟩
 keep:=λi h h' st k=>k it (by simp) _ st
 item:=by
  intro X hP hw hK hc i pins s σ H E I hf st hg
  subst hP hw hK
  obtain⟨f0,f1,f2,f3,f4,f5⟩:=hf it (by simp)
  have W:=Walks.range (prog:=X.prog) (w:=X.w) (I.ok.hd hc) it lo 1 n
  refine W.item i s _ _ hg st λv h' tk hv st' kk=> ?_
  obtain⟨t,rfl⟩:=hv
  have I1:Inv X pins σ H {s with heap:=h',toks:=tk}:=I.turned (λb o hb e=>kk b o (by simpa using hb) e) f0 f1 f3 f4 f5
  refine⟨_,rfl,Dr (s:={s with heap:=h',toks:=tk}) (n:="range_iterator") st' rfl rfl (by decide) ⟨.int (lo+i),H,I1,⟨t, ?_⟩,⟨rfl,rfl⟩,st',λb hb=>(hf b hb).1⟩⟩
  rw[Int.mul_one]
 done:=by
  intro X hP hw hK hc i pins s σ H E I hf st hg
  subst hP hw hK
  obtain⟨f0,f1,f2,f3,f4,f5⟩:=hf it (by simp)
  exact wpAny_pyNext_range_end (I.ok.hd hc) st (by have:n<=i:=hg;omega) λh' eb=>⟨rfl,I.turned (t':=s.toks) (λb o hb e=>eb b o hb e) f0 f1 f3 f4 f5⟩
 self:=λ_ _ _ _ _ st h=>wpAny_pyIter_rangeiter st h
end L2
namespace L2
open PySem PySem.Spec PyProof.Rows
section
variable {X : Cx} {tg : Expr}
def DH(K:PySem.W.Frag)(tl:TE):TI:=λσ H R=>tl σ H λx H1=>∃a,x=.ref a/\(∃xs,SqL K H1 a xs)/\R (Itl K a) H1
theorem cY{l:Expr}{tl:TE}(hl:PE X l tl):PI X tg l (DH X.K tl):=by
 intro pins s σ H R I h
 refine thn (hl pins s σ H _ I h) λv s1 ⟨x,H1,I1,r1,q1⟩=> ?_
 obtain⟨a,e,⟨xs,hq⟩,q⟩:=q1
 subst e
 cases r1
 obtain⟨its,rv,p,hz⟩:=I1.list hq
 refine wpAny_pyIter_list p.isList ?_
 refine⟨s1.heap.objs.size,[s1.heap.objs.size],_,_,H1,rfl,I1.kept (t':=s1.toks) λb o e=>Heap.get?_push_of_some _ e,Ae a _,⟨_,Heap.get?_push_size _ rfl,rfl,rfl⟩,λb hb=> ?_,q⟩
 have e:b=s1.heap.objs.size:=by simpa using hb
 subst e
 exact I1.fpOk (Nat.le_refl _) (I1.hok.fresh (Nat.le_refl _))
theorem vH {pins:List (Addr×Obj)} {σ:St} {H:Hp} {s:Shared} {R:It->Hp->Prop} {E:Value->Shared->Prop} {lo hi:Int} {t u v:Tok} {tk:Nat} (I:Inv X pins σ H s) (h1: -(2^62)<=lo) (h2:lo<2^62) (h3: -(2^62)<=hi) (h4:hi<2^62)
 (q:R (Itr lo (hi-lo).toNat) H):wpAny (model X.prog X.w) X.A (pyIter (.ref s.heap.objs.size)) (PIE X pins σ tg R) E {s with heap:=s.heap.push {cls:=.type "range",data:=.fields #[.int lo t,.int hi u,.int 1 v]},toks:=tk}:=by
 refine wpAny_pyIter_range (IsRange.new ..) (small_one h1 h2 h3 h4) ?_
 have I1:Inv X pins σ H {s with heap:=s.heap.push {cls:=.type "range",data:=.fields #[.int lo t,.int hi u,.int 1 v]},toks:=tk}:=I.kept λb o e=>Heap.get?_push_of_some _ e
 refine⟨(s.heap.push {cls:=.type "range",data:=.fields #[.int lo t,.int hi u,.int 1 v]}).objs.size,[(s.heap.push {cls:=.type "range",data:=.fields #[.int lo t,.int hi u,.int 1 v]}).objs.size],_,_,H,rfl,
  I1.kept (t':=tk) λb o e=>Heap.get?_push_of_some _ e,zB _ lo (hi-lo).toNat, ?_,λb hb=> ?_,q⟩
 ·have e1:lo+((0:Nat):Int)*1=lo:=by simp
  have e2:(((hi-lo).toNat:Nat):Int)-((0:Nat):Int)=Builtin.Range.rangeSize lo hi 1:=by rw[rangeSize_one];split <;> omega
  show IsRangeIter _ _ (lo+((0:Nat):Int)*1) ((((hi-lo).toNat:Nat):Int)-((0:Nat):Int)) 1
  rw[e1,e2]
  exact Heap.get?_push_size _ rfl
 ·have e:b=(s.heap.push {cls:=.type "range",data:=.fields #[.int lo t,.int hi u,.int 1 v]}).objs.size:=by simpa using hb
  subst e
  exact I1.fpOk (Nat.le_refl _) (I1.hok.fresh (Nat.le_refl _))
def DE(ta:TA):TI:=λσ H R=>ta σ H λvs H1=>∃j:Int,vs=[.int j]/\ -(2^62)<=j/\j<2^62/\R (Itr 0 j.toNat) H1
def Dn(ta:TA):TI:=λσ H R=>ta σ H λvs H1=>∃i j:Int,vs=[.int i,.int j]/\(-(2^62)<=i/\i<2^62/\ -(2^62)<=j/\j<2^62)/\R (Itr i (j-i).toNat) H1
theorem lY{a:Expr}{ta:TA}{p pos:Pos}(hg:Gl X "range")(hm:X.mg "range" =none)(ha:PA X [a] ta)(hs:starEach [a] X.env=[(false,eval a X.env)]:=by rfl):PI X tg (.Call (.Name "range" p) [a] [] pos) (DE ta):=by
 intro pins s σ H R I h
 refine Call_ (ki I hg hm boot_range (PyProof.Rows.callWith_type1 (thn (ha pos pins s σ H _ I h) λus s1 ⟨vs,H1,I1,r1,q1⟩=> ?_) hs rfl))
 obtain⟨j,e,q1,q2,q⟩:=q1
 subst e
 cases r1 with
 | cons r rr=>
  cases rr
  obtain⟨t,rfl⟩:=r
  exact call_range_1 (vH I1 (by omega) (by omega) q1 q2 (by simpa using q))
theorem A1{a b:Expr}{ta:TA}{p pos:Pos}(hg:Gl X "range")(hm:X.mg "range" =none)(ha:PA X [a,b] ta)(hs:starEach [a,b] X.env=[(false,eval a X.env),(false,eval b X.env)]:=by rfl)(hs2:starEach [b] X.env=[(false,eval b X.env)]:=by rfl):
 PI X tg (.Call (.Name "range" p) [a,b] [] pos) (Dn ta):=by
 intro pins s σ H R I h
 refine Call_ (ki I hg hm boot_range (PyProof.Rows.callWith_type1 (thn (ha pos pins s σ H _ I h) λus s1 ⟨vs,H1,I1,r1,q1⟩=> ?_) (by rw[hs,hs2]) (by rw[hs2];rfl)))
 obtain⟨i,j,e,⟨q1,q2,q3,q4⟩,q⟩:=q1
 subst e
 cases r1 with
 | cons r rr=>
  cases rr with
  | cons r' rr=>
   cases rr
   obtain⟨t,rfl⟩:=r
   obtain⟨t',rfl⟩:=r'
   exact call_range_2 (vH I1 q1 q2 q3 q4 q)
def Fs(wi:TI)(g:TG)(tb:TS):TS:=λD σ H=>wi σ H λJ H1=>∃W:Nat->Nat->St->Hp->Prop,(∃m,W 0 m σ H1)/\∀i m σ H,W i m σ H->
 (J.stop i H/\D.nx σ H)\/(J.go i H/\∃N:St->Hp->Prop,(∀σ' H',N σ' H'->∃m',m'<m/\W (i+1) m' σ' H')/\∀x H',J.yld i H x H'->g x σ H' λσ2 H2=>tb {D with nx:=N,ct:=N,bk:=D.nx} σ2 H2)
def oo(fp:List Addr)(h:Heap):List (Addr×Obj):=fp.filterMap λb=>(h.get? b).map λo=>(b,o)
theorem kK{fp:List Addr}{h:Heap}{b:Addr}{o:Obj}(hb:b∈fp)(e:h.get? b=some o):(b,o)∈oo fp h:=List.mem_filterMap.mpr ⟨b,hb,by rw[e];rfl⟩
theorem A3{fp:List Addr}{h:Heap}{p:Addr×Obj}(hp:p∈oo fp h):p.1∈fp/\h.get? p.1=some p.2:=by
 obtain⟨b,hb,e⟩:=List.mem_filterMap.mp hp
 cases q:h.get? b with
 | none=>rw[q] at e;cases e
 | some o=>
  rw[q] at e
  have e':(b,o)=p:=Option.some.inj e
  subst e'
  exact⟨hb,q⟩
theorem Inv.pinned{pins:List (Addr×Obj)}{σ:St}{H:Hp}{s:Shared}{fp:List Addr}(I:Inv X pins σ H s)(hf:∀b∈fp,jM X pins H b)(ho:∀b∈fp,∃o,s.heap.get? b=some o/\∀v,o.data≠ .cell v):Inv X (pins++oo fp s.heap) σ H s:=
 I.pins_of λp hp=>(List.mem_append.mp hp).elim (λz=>I.pin p (List.mem_append_right _ z)) λz=>by
  obtain⟨hb,e⟩:=A3 z
  obtain⟨f0,f1,f2,_⟩:=hf p.1 hb
  obtain⟨o,e',d⟩:=ho p.1 hb
  rw[e] at e';cases e'
  exact⟨e,f0,f1,f2,d⟩
theorem Inv.unpinned{pins pl:List (Addr×Obj)}{σ:St}{H:Hp}{s:Shared}(I:Inv X (pins++pl) σ H s):Inv X pins σ H s:=I.pins_of λp hp=>I.pin p (List.mem_append_right _ (List.mem_append_left _ hp))
theorem hU {iter:Expr} {body:List Stmt} {wi:TI} {g:TG} {tb:TS} {pos:Pos} (hp:PassesOwn (model X.prog X.w) X.A X.env X.xe) (hc:X.calm=true) (hi:PI X tg iter wi) (hg:PG X tg g) (hb:PSs X body tb)
 (hs:∀x,foldedSetIterable iter X.env x=pure x:=by intro _;rfl):PS X (.For tg iter body [] pos) (Fs wi g tb):=by
 intro pins s σ H D I h
 refine wpAny_For (thn (hi pins s σ H _ I h) λv s1 h1=>thn h1 λitv s2 h2=> ?_) hs
 obtain⟨it,fp,tn,J,H2,e,I2,T,st2,f2,W,⟨m0,w0⟩,turn⟩:=h2
 subst e
 have stat:∀{H':Hp},(∀b∈fp,H' b=none)->∀b∈fp,jM X pins H' b:=λhn b hb=>⟨hn b hb,(f2 b hb).2⟩
 refine codeAny_forLoop_any (λn s'=>∃i σ' H',Inv X pins σ' H' s'/\tn i s'.heap/\(∀b∈fp,H' b=none)/\W i n σ' H') ?_ m0 ⟨0,σ,H2,I2,st2,λb hb=>(f2 b hb).1,w0⟩
 rintro n s3 ⟨i,σ3,H3,I3,st3,fr3,w3⟩
 rcases turn i n σ3 H3 w3 with⟨stop,qn⟩ | ⟨go,N,hN,step⟩
 ·refine wpAny_passesOwn hp (thn (T.done X rfl rfl rfl hc i pins s3 σ3 H3 X.xe I3 (stat fr3) st3 stop) λr s4 ⟨hr,I4⟩=> ?_)
  subst hr
  exact wpAny_execs_nil ⟨σ3,H3,I4,qn⟩
 ·refine wpAny_passesOwn hp (thn (T.item X rfl rfl rfl hc i pins s3 σ3 H3 X.xe I3 (stat fr3) st3 go) λr s4 ⟨u,hr,h4⟩=> ?_)
  subst hr
  refine wpAny_passesOwn hp (thn h4 λ_ s5 ⟨x,H5,I5,r5,y5,st5,fr5⟩=> ?_)
  have I5':=I5.pinned (stat fr5) (T.obj _ _ st5)
  refine wpAny_passesOwn hp (thn (hg _ s5 σ3 H5 x u _ I5' r5 (step x H5 y5)) λ_ s6 ⟨σ6,H6,I6,q6⟩=> ?_)
  refine wpAny_passesOwn hp (thn (hb _ s6 σ6 H6 _ I6 q6) λf s7 q7=> ?_)
  have again:∀{σ7:St} {H7:Hp},Inv X (pins++oo fp s5.heap) σ7 H7 s7->N σ7 H7->∃m,m<n/\∃i σ' H',Inv X pins σ' H' s7/\tn i s7.heap/\(∀b∈fp,H' b=none)/\W i m σ' H':=λ{σ7 H7} I7 n7=>by
   obtain⟨m',hm,w7⟩:=hN σ7 H7 n7
   refine⟨m',hm,i+1,σ7,H7,I7.unpinned,T.keep _ _ _ st5 λb hb o e=>(I7.pin (b,o) (List.mem_append_right _ (List.mem_append_right _ (kK hb e)))).1,λb hb=> ?_,w7⟩
   obtain⟨o,e,d⟩:=T.obj _ _ st5 b hb
   exact(I7.pin (b,o) (List.mem_append_right _ (List.mem_append_right _ (kK hb e)))).2.1
  cases f with
  | next=>obtain⟨σ7,H7,I7,n7⟩:=q7;exact again I7 n7
  | cont=>obtain⟨σ7,H7,I7,n7⟩:=q7;exact again I7 n7
  | brk=>obtain⟨σ7,H7,I7,q7⟩:=q7;exact⟨σ7,H7,I7.unpinned,q7⟩
  | ret v=>obtain⟨x7,σ7,H7,I7,r7,q7⟩:=q7;exact⟨x7,σ7,H7,I7.unpinned,r7,q7⟩
end
end L2
namespace L2
open PySem PySem.Spec PyProof.Rows
abbrev R2:=V->V->Hp->VK->Prop
def OpR(X:Cx)(f:Value->Value->Sem Value)(r:R2):Prop:=
 ∀(pins:List (Addr×Obj)) (s:Shared) (σ:St) (H:Hp) (x y:V) (v u:Value) (Q:VK),Inv X pins σ H s->RelV x v->RelV y u->r x y H Q->
  wpAny (model X.prog X.w) X.A (f v u) (EP X pins σ Q) X.xe s
def UnR(X:Cx)(f:Value->Sem Value)(r:V->Hp->VK->Prop):Prop:=
 ∀(pins:List (Addr×Obj)) (s:Shared) (σ:St) (H:Hp) (x:V) (v:Value) (Q:VK),Inv X pins σ H s->RelV x v->r x H Q->
  wpAny (model X.prog X.w) X.A (f v) (EP X pins σ Q) X.xe s
def fP(X:Cx)(f:Value)(r:List V->Hp->VK->Prop):Prop:=
 ∀(pins:List (Addr×Obj)) (s:Shared) (σ:St) (H:Hp) (xs:List V) (us:List Value) (Q:VK),Inv X pins σ H s->Vals xs us->r xs H Q->
  wpAny (model X.prog X.w) X.A (call f us) (EP X pins σ Q) X.xe s
def HK(X:Cx)(r:V->Hp->(Bool->Hp->Prop)->Prop):Prop:=
 ∀(pins:List (Addr×Obj)) (s:Shared) (σ:St) (H:Hp) (x:V) (v:Value) (Q:Bool->Hp->Prop),Inv X pins σ H s->RelV x v->r x H Q->
  wpAny (model X.prog X.w) X.A (truthy v) (TP X pins σ Q) X.xe s
def tOp(r:R2)(ta tb:TE):TE:=λσ H Q=>ta σ H λx H1=>tb σ H1 λy H2=>r x y H2 Q
def tUn(r:V->Hp->VK->Prop)(ta:TE):TE:=λσ H Q=>ta σ H λx H1=>r x H1 Q
def rI(C:Int->Int->Prop)(g:Int->Int->V):R2:=λx y H Q=>∃i j,x=.int i/\y=.int j/\C i j/\Q (g i j) H
def rI0(g:Int->Int->V):R2:=λx y H Q=>∃i j,x=.int i/\y=.int j/\Q (g i j) H
def rU(g:Int->V):V->Hp->VK->Prop:=λx H Q=>∃i,x=.int i/\Q (g i) H
section
variable {X : Cx} {a b c : Expr} {ta tb tc : TE} {pos : Pos}
theorem B0 (ha:PE X a ta) (hb:PE X b tb) {pins:List (Addr×Obj)} {s:Shared} {σ:St} {H:Hp} {R:V->V->Hp->Prop} (I:Inv X pins σ H s)
 (h:ta σ H λx H1=>tb σ H1 λy H2=>R x y H2) {Q:Value->Shared->Prop} {f:Value->Value->Sem Value}
 (hf:∀v u s2 x y H2,Inv X pins σ H2 s2->RelV x v->RelV y u->R x y H2->wpAny (model X.prog X.w) X.A (f v u) Q X.xe s2):
 wpAny (model X.prog X.w) X.A (eval a X.env) (λv s₁=>wpAny (model X.prog X.w) X.A (eval b X.env) (λu s₂=>wpAny (model X.prog X.w) X.A (f v u) Q X.xe s₂) X.xe s₁) X.xe s:=by
 refine thn (ha pins s σ H _ I h) λv s1 ⟨x,H1,I1,r1,q1⟩=> ?_
 refine thn (hb pins s1 σ H1 _ I1 q1) λu s2 ⟨y,H2,I2,r2,q2⟩=> ?_
 exact hf v u s2 x y H2 I2 r1 r2 q2
theorem aQ{op:Operator}{r:R2}(ho:OpR X (binaryOp op) r)(ha:PE X a ta)(hb:PE X b tb):PE X (.BinOp a op b pos) (tOp r ta tb):=by
 intro pins s σ H Q I h
 exact wpAny_BinOp (B0 ha hb I h λv u s2 x y H2 I2 rx ry q=>ho pins s2 σ H2 x y v u Q I2 rx ry q)
theorem vv{op:UnaryOp}{r:V->Hp->VK->Prop}(ho:UnR X (unaryOp op) r)(ha:PE X a ta):PE X (.UnaryOp op a pos) (tUn r ta):=by
 intro pins s σ H Q I h
 exact UnaryOp_ (thn (ha pins s σ H _ I h) λv s1 ⟨x,H1,I1,r1,q1⟩=>ho pins s1 σ H1 x v Q I1 r1 q1)
theorem opI {f:Value->Value->Sem Value} {C:Int->Int->Prop} {g:Int->Int->Int}
 (rule:∀(i j:Int) (t u:Tok) (s:Shared) (Q:Value->Shared->Prop) (E:Value->Shared->Prop),C i j->Q (.int (g i j) s.toks) {s with toks:=s.toks+1}->wpAny (model X.prog X.w) X.A (f (.int i t) (.int j u)) Q E s):
 OpR X f (rI C λi j=>.int (g i j)):=by
 intro pins s σ H x y v u Q I rx ry h
 obtain⟨i,j,rfl,rfl,hc,q⟩:=h
 obtain⟨t,rfl⟩:=rx
 obtain⟨t',rfl⟩:=ry
 exact rule i j t t' s _ _ hc ⟨.int (g i j),H,I.tok _,⟨_,rfl⟩,q⟩
theorem Dh {f:Value->Value->Sem Value} {g:Int->Int->Int}
 (rule:∀(i j:Int) (t u:Tok) (s:Shared) (Q:Value->Shared->Prop) (E:Value->Shared->Prop),Q (.int (g i j) s.toks) {s with toks:=s.toks+1}->wpAny (model X.prog X.w) X.A (f (.int i t) (.int j u)) Q E s):
 OpR X f (rI0 λi j=>.int (g i j)):=by
 intro pins s σ H x y v u Q I rx ry h
 obtain⟨i,j,rfl,rfl,q⟩:=h
 obtain⟨t,rfl⟩:=rx
 obtain⟨t',rfl⟩:=ry
 exact rule i j t t' s _ _ ⟨.int (g i j),H,I.tok _,⟨_,rfl⟩,q⟩
theorem BJ {f:Value->Value->Sem Value} {g:Int->Int->Bool}
 (rule:∀(i j:Int) (t u:Tok) (s:Shared) (Q:Value->Shared->Prop) (E:Value->Shared->Prop),Q (.bool (g i j)) s->wpAny (model X.prog X.w) X.A (f (.int i t) (.int j u)) Q E s):
 OpR X f (rI0 λi j=>.bl (g i j)):=by
 intro pins s σ H x y v u Q I rx ry h
 obtain⟨i,j,rfl,rfl,q⟩:=h
 obtain⟨t,rfl⟩:=rx
 obtain⟨t',rfl⟩:=ry
 exact rule i j t t' s _ _ ⟨.bl (g i j),H,I,rfl,q⟩
def BW(i j:Int):Prop:=0<=j/\j<=1000000/\i.natAbs<2^64
def Fp(i j:Int):Prop:=(-(2^64)<i/\i<2^64)\/(-(2^64)<j/\j<2^64)
theorem Fp.ok{i j:Int}(h:Fp i j):IntMulOk i j:=by
 rcases h with⟨h1,h2⟩ | ⟨h1,h2⟩
 ·exact .of_left (intBits_le_64 h1 h2)
 ·exact .of_right (intBits_le_64 h1 h2)
theorem Gi:OpR X (binaryOp .Add) (rI0 λi j=>.int (i+j)):=Dh λ_ _ _ _ _ _ _ q=>add_int q
theorem mW:OpR X (binaryOp .Sub) (rI0 λi j=>.int (i-j)):=Dh λ_ _ _ _ _ _ _ q=>sub_int q
theorem fZ:OpR X (binaryOp .Mod) (rI (λ_ j=>j≠0) λi j=>.int (i.fmod j)):=opI λ_ _ _ _ _ _ _ hc q=>mod_int' hc q
theorem mJ:OpR X (binaryOp .Pow) (rI BW λi j=>.int (i^j.toNat)):=opI λ_ _ _ _ _ _ _ hc q=>pow_int_small hc.1 hc.2.1 hc.2.2 q
theorem Dq:OpR X (binaryOp .BitOr) (rI0 λi j=>.int (Builtin.bitOr i j)):=Dh λ_ _ _ _ _ _ _ q=>or_int q
theorem unI {f:Value->Sem Value} {g:Int->Int}
 (rule:∀(i:Int) (t:Tok) (s:Shared) (Q:Value->Shared->Prop) (E:Value->Shared->Prop),Q (.int (g i) s.toks) {s with toks:=s.toks+1}->wpAny (model X.prog X.w) X.A (f (.int i t)) Q E s):
 UnR X f (rU λi=>.int (g i)):=by
 intro pins s σ H x v Q I rx h
 obtain⟨i,rfl,q⟩:=h
 obtain⟨t,rfl⟩:=rx
 exact rule i t s _ _ ⟨.int (g i),H,I.tok _,⟨_,rfl⟩,q⟩
theorem sV:UnR X (unaryOp .USub) (rU λi=>.int (-i)):=unI λ_ _ _ _ _ q=>neg_int q
end
def Gz:V->V->Bool
 | .non,.non=>true | .non,.int _=>true | .int _,.non=>true | .non,.bl _=>true | .bl _,.non=>true | .non,.str _=>true | .str _,.non=>true
 | .int _,.int _=>true | .bl _,.bl _=>true | .str _,.str _=>true | .byt _,.byt _=>true
 | .int _,.str _=>true | .str _,.int _=>true | .bl _,.str _=>true | .str _,.bl _=>true
 | _,_=>false
def rEq:R2:=λx y H Q=>Gz x y=true/\Q (.bl (decide (x=y))) H
def rNe:R2:=λx y H Q=>Gz x y=true/\Q (.bl (!decide (x=y))) H
theorem pW{i j:Int}:decide (V.int i=V.int j)=(i == j):=by
 rw[Bool.eq_iff_iff]
 simp
theorem tE{i j:Bool}:decide (V.bl i=V.bl j)=(i == j):=by
 rw[Bool.eq_iff_iff]
 simp
theorem pY{i j:Str}:decide (V.str i=V.str j)=(i == j):=by
 rw[Bool.eq_iff_iff]
 simp
theorem ym{i j:Array UInt8}:decide (V.byt i=V.byt j)=(i.toList == j.toList):=by
 rw[Bool.eq_iff_iff]
 cases i
 cases j
 simp
section
variable {X : Cx} {a b c : Expr} {ta tb tc : TE} {pos : Pos}
theorem bL{pins:List (Addr×Obj)}{σ:St}{H:Hp}{s:Shared}{Q:VK}{k k':Bool}(I:Inv X pins σ H s)(q:Q (.bl k) H)(e:k=k'):EP X pins σ Q (.bool k') s:=by
 subst e
 exact⟨.bl k,H,I,rfl,q⟩
theorem Hf:OpR X (compareOp .Eq) rEq:=by
 intro pins s σ H x y v u Q I rx ry h
 obtain⟨hs,q⟩:=h
 cases x with
 | non=>
  cases rx
  cases y with
  | non=>cases ry;exact PySem.EqNone.eq_none_none (bL I q (by simp))
  | bl j=>cases ry;exact PySem.EqNone.eq_none_bool (bL I q (by simp))
  | int j=>obtain⟨t',rfl⟩:=ry;exact PySem.EqNone.eq_none_int (bL I q (by simp))
  | str j=>obtain⟨t',rfl⟩:=ry;exact PySem.EqNone.eq_none_str (bL I q (by simp))
  | _=>exact absurd (show false=true from hs) Bool.false_ne_true
 | bl i=>
  cases rx
  cases y with
  | non=>cases ry;exact PySem.EqNone.eq_bool_none (bL I q (by simp))
  | bl j=>cases ry;exact eq_bool (bL I q tE)
  | str j=>obtain⟨t',rfl⟩:=ry;exact PySem.EqMixed.eq_bool_str (bL I q (by simp))
  | _=>exact absurd (show false=true from hs) Bool.false_ne_true
 | int i=>
  obtain⟨t,rfl⟩:=rx
  cases y with
  | non=>cases ry;exact PySem.EqNone.eq_int_none (bL I q (by simp))
  | int j=>obtain⟨t',rfl⟩:=ry;exact eq_int (bL I q pW)
  | str j=>obtain⟨t',rfl⟩:=ry;exact PySem.EqMixed.eq_int_str (bL I q (by simp))
  | _=>exact absurd (show false=true from hs) Bool.false_ne_true
 | str i=>
  obtain⟨t,rfl⟩:=rx
  cases y with
  | non=>cases ry;exact PySem.EqNone.eq_str_none (bL I q (by simp))
  | bl j=>cases ry;exact PySem.EqMixed.eq_str_bool (bL I q (by simp))
  | int j=>obtain⟨t',rfl⟩:=ry;exact PySem.EqMixed.eq_str_int (bL I q (by simp))
  | str j=>obtain⟨t',rfl⟩:=ry;exact eq_str (bL I q pY)
  | _=>exact absurd (show false=true from hs) Bool.false_ne_true
 | byt i=>
  obtain⟨t,rfl⟩:=rx
  cases y with
  | byt j=>obtain⟨t',rfl⟩:=ry;exact PySem.W.eq_bytes (bL I q ym)
  | _=>exact absurd (show false=true from hs) Bool.false_ne_true
 | _=>cases y <;> exact absurd (show false=true from hs) Bool.false_ne_true
theorem Hb:OpR X (compareOp .NotEq) rNe:=by
 intro pins s σ H x y v u Q I rx ry h
 obtain⟨hs,q⟩:=h
 cases x with
 | non=>
  cases rx
  cases y with
  | non=>cases ry;exact PySem.EqNone.ne_none_none (bL I q (by simp))
  | bl j=>cases ry;exact PySem.EqNone.ne_none_bool (bL I q (by simp))
  | int j=>obtain⟨t',rfl⟩:=ry;exact PySem.EqNone.ne_none_int (bL I q (by simp))
  | str j=>obtain⟨t',rfl⟩:=ry;exact PySem.EqNone.ne_none_str (bL I q (by simp))
  | _=>exact absurd (show false=true from hs) Bool.false_ne_true
 | bl i=>
  cases rx
  cases y with
  | non=>cases ry;exact PySem.EqNone.ne_bool_none (bL I q (by simp))
  | bl j=>cases ry;exact ne_bool (bL I q (congrArg not tE))
  | str j=>obtain⟨t',rfl⟩:=ry;exact PySem.EqMixed.ne_bool_str (bL I q (by simp))
  | _=>exact absurd (show false=true from hs) Bool.false_ne_true
 | int i=>
  obtain⟨t,rfl⟩:=rx
  cases y with
  | non=>cases ry;exact PySem.EqNone.ne_int_none (bL I q (by simp))
  | int j=>obtain⟨t',rfl⟩:=ry;exact ne_int (bL I q (congrArg not pW))
  | str j=>obtain⟨t',rfl⟩:=ry;exact PySem.EqMixed.ne_int_str (bL I q (by simp))
  | _=>exact absurd (show false=true from hs) Bool.false_ne_true
 | str i=>
  obtain⟨t,rfl⟩:=rx
  cases y with
  | non=>cases ry;exact PySem.EqNone.ne_str_none (bL I q (by simp))
  | bl j=>cases ry;exact PySem.EqMixed.ne_str_bool (bL I q (by simp))
  | int j=>obtain⟨t',rfl⟩:=ry;exact PySem.EqMixed.ne_str_int (bL I q (by simp))
  | str j=>obtain⟨t',rfl⟩:=ry;exact ne_str (bL I q (congrArg not pY))
  | _=>exact absurd (show false=true from hs) Bool.false_ne_true
 | byt i=>
  obtain⟨t,rfl⟩:=rx
  cases y with
  | byt j=>obtain⟨t',rfl⟩:=ry;exact PySem.W.ne_bytes (bL I q (congrArg not ym))
  | _=>exact absurd (show false=true from hs) Bool.false_ne_true
 | _=>cases y <;> exact absurd (show false=true from hs) Bool.false_ne_true
theorem nI:OpR X (compareOp .Lt) (rI0 λi j=>.bl (decide (i<j))):=BJ λ_ _ _ _ _ _ _ q=>lt_int q
theorem tw:OpR X (compareOp .Gt) (rI0 λi j=>.bl (decide (j<i))):=BJ λ_ _ _ _ _ _ _ q=>gt_int q
theorem G5:OpR X (compareOp .GtE) (rI0 λi j=>.bl (decide (j<=i))):=BJ λ_ _ _ _ _ _ _ q=>ge_int q
theorem OpR.or{f:Value->Value->Sem Value}{r r':R2}(h:OpR X f r)(h':OpR X f r'):OpR X f (λx y H Q=>r x y H Q\/r' x y H Q):=by
 intro pins s σ H x y v u Q I rx ry q
 rcases q with q | q
 ·exact h pins s σ H x y v u Q I rx ry q
 ·exact h' pins s σ H x y v u Q I rx ry q
theorem bM(b:Expr){op:CmpOp}(h:op≠ .In:=by decide)(h2:op≠ .NotIn:=by decide):behindInMarks op b=false:=by
 have e1:(op == CmpOp.In)=false:=by cases op <;> first | rfl | exact absurd rfl h
 have e2:(op == CmpOp.NotIn)=false:=by cases op <;> first | rfl | exact absurd rfl h2
 cases b <;> simp[behindInMarks,e1,e2]
theorem gN{op:CmpOp}{r:R2}(ho:OpR X (compareOp op) r)(ha:PE X a ta)(hb:PE X b tb)(hm:behindInMarks op b=false):PE X (.Compare a [op] [b] pos) (tOp r ta tb):=by
 intro pins s σ H Q I h
 exact wpAny_Compare1 (B0 ha hb I h λv u s2 x y H2 I2 rx ry q=>ho pins s2 σ H2 x y v u Q I2 rx ry q) hm
def DK(t:TE):TT:=λσ H Q=>t σ H λx H'=>∃k,x=.bl k/\Q k H'
theorem cK{op:CmpOp}{r:R2}(ho:OpR X (compareOp op) r)(ha:PE X a ta)(hb:PE X b tb)(hm:behindInMarks op b=false):PT X (.Compare a [op] [b] pos) (DK (tOp r ta tb)):=by
 intro pins s σ H Q I h
 refine wpAny_isTrue_Compare1 (thn (ha pins s σ H _ I h) λv s1 ⟨x,H1,I1,r1,q1⟩=>thn (hb pins s1 σ H1 _ I1 q1) λu s2 ⟨y,H2,I2,r2,q2⟩=>
  thn (ho pins s2 σ H2 x y v u _ I2 r1 r2 q2) λc s3 ⟨z,H3,I3,r3,k,e,q3⟩=> ?_) hm
 subst e
 cases r3
 exact wpAny_truthy_bool ⟨H3,I3,q3⟩
def HY(K:PySem.W.Frag)(x:V)(H:Hp)(k:Bool):Prop:=
 match x with
 | .non=>k=false
 | .bl b=>k=b
 | .int i=>k=(i != 0)
 | .str y=>y.length<=sizeLine/\k=((y.length:Int) != 0)
 | .byt y=>y.size<=sizeLine/\k=((y.size:Int) != 0)
 | .ref p=>(∃xs,SqL K H p xs/\k= !xs.isEmpty)\/(∃xs,SqT K H p xs/\k= !xs.isEmpty)\/∃kvs,H p=some (.dK kvs)/\k= !kvs.isEmpty
 | _=>False
theorem zk{κ:Type}{kvs:List (κ×V)}{vs:List (κ×Value)}(r:KV kvs vs):(!vs.isEmpty)= !kvs.isEmpty:=by
 cases r <;> rfl
theorem r9{xs:List V}{its:List Value}(r:Vals xs its):(!its.toArray.isEmpty)= !xs.isEmpty:=by
 cases r <;> simp
theorem m5:(sizeLine:Nat)<2^63:=by rw[sizeLine_eq];decide
theorem Jy:HK X (λx H Q=>∃k,HY X.K x H k/\Q k H):=by
 intro pins s σ H x v Q I rx h
 obtain⟨k,e,q⟩:=h
 have hl:=m5
 have hs:sizeLine=16777216:=sizeLine_eq
 cases x with
 | non=>
  cases rx
  have e':k=false:=e
  subst e'
  exact truthy_none ⟨H,I,q⟩
 | bl b=>
  cases rx
  have e':k=b:=e
  subst e'
  exact wpAny_truthy_bool ⟨H,I,q⟩
 | int i=>
  obtain⟨t,rfl⟩:=rx
  have e':k=(i != 0):=e
  subst e'
  exact PySem.P.truthy_int ⟨H,I,q⟩
 | str y=>
  obtain⟨t,rfl⟩:=rx
  obtain⟨hy,e'⟩:y.length<=sizeLine/\k=((y.length:Int) != 0):=e
  subst e'
  exact PySem.P.truthy_str (by omega) ⟨H,I.tok _,q⟩
 | byt y=>
  obtain⟨t,rfl⟩:=rx
  obtain⟨hy,e'⟩:y.size<=sizeLine/\k=((y.size:Int) != 0):=e
  subst e'
  exact PySem.W.truthy_bytes (by omega) ⟨H,I.tok _,q⟩
 | ref p=>
  cases rx
  have e':(∃xs,SqL X.K H p xs/\k= !xs.isEmpty)\/(∃xs,SqT X.K H p xs/\k= !xs.isEmpty)\/∃kvs,H p=some (.dK kvs)/\k= !kvs.isEmpty:=e
  rcases e' with⟨xs,hx,e'⟩ | ⟨xs,hx,e'⟩ | ⟨kvs,hx,e'⟩
  ·subst e'
   obtain⟨its,r,pl,hz⟩:=I.list hx
   have hlen:=r.length
   exact wpAny_truthy_list pl.isList (by simp only[List.size_toArray];omega) ⟨H,I.tok _,by rw[r9 r];exact q⟩
  ·subst e'
   obtain⟨its,r,pl,hz⟩:=I.tuple hx
   have hlen:=r.length
   exact truthy_tuple pl (by simp only[List.size_toArray];omega) ⟨H,I.tok _,by rw[r9 r];exact q⟩
  ·subst e'
   obtain⟨hz,hS,vs,r,m⟩:kvs.length<=sizeLine/\(p == sysModules)=false/\∃vs,KV kvs vs/\s.heap.DictOf (tL X.prog X.w) p vs:=I.hok p _ hx
   have hlen:kvs.length=vs.length:=Paired.length r
   exact wpAny_truthy_dict hS m (by omega) ⟨H,I.tok _,by rw[zk r];exact q⟩
 | _=>exact(show False from e).elim
theorem zr:OpR X (binaryOp .Add) (λx y H Q=>∃i j,x=.str i/\y=.str j/\i.length+j.length<=sizeLine/\Q (.str (i++j)) H):=by
 intro pins s σ H x y v u Q I rx ry h
 obtain⟨i,j,rfl,rfl,hz,q⟩:=h
 obtain⟨t,rfl⟩:=rx
 obtain⟨t',rfl⟩:=ry
 exact add_str (λt' tk=>⟨.str (i++j),H,I.tok _,⟨_,rfl⟩,q⟩) hz
theorem vals1{x:V}{us:List Value}(r:Vals [x] us):∃u,us=[u]/\RelV x u:=by
 cases r with
 | cons r1 r2=>cases r2;exact⟨_,rfl,r1⟩
theorem vals2{x y:V}{us:List Value}(r:Vals [x,y] us):∃u w',us=[u,w']/\RelV x u/\RelV y w':=by
 cases r with
 | cons r1 r2=>
  cases r2 with
  | cons r3 r4=>cases r4;exact⟨_,_,rfl,r1,r3⟩
theorem vy:fP X (.builtin "abs") (λxs H Q=>∃i,xs=[.int i]/\Q (.int (if i<0 then -i else i)) H):=by
 intro pins s σ H xs us Q I r h
 obtain⟨i,rfl,q⟩:=h
 obtain⟨u,rfl,t,rfl⟩:=vals1 r
 exact call_abs_int λu tk=>⟨.int (if i<0 then -i else i),H,I.tok _,⟨_,rfl⟩,q⟩
theorem AJ:fP X (.type "int") (λxs H Q=>(∃i,xs=[.int i]/\Q (.int i) H)\/∃k,xs=[.bl k]/\Q (.int (if k then 1 else 0)) H):=by
 intro pins s σ H xs us Q I r h
 rcases h with⟨i,rfl,q⟩ | ⟨k,rfl,q⟩
 ·obtain⟨u,rfl,t,rfl⟩:=vals1 r
  exact call_int_int ⟨.int i,H,I,⟨_,rfl⟩,q⟩
 ·obtain⟨u,rfl,r1⟩:=vals1 r
  cases r1
  exact call_int_bool ⟨.int (if k then 1 else 0),H,I.tok _,⟨_,rfl⟩,q⟩
def FO(K:PySem.W.Frag)(x:V)(H:Hp)(n:Nat):Prop:=
 match x with
 | .str y=>y.length<=sizeLine/\n=y.length
 | .byt y=>y.size<=sizeLine/\n=y.size
 | .ref p=>(∃xs,SqL K H p xs/\n=xs.length)\/∃xs,SqT K H p xs/\n=xs.length
 | _=>False
theorem gn:fP X (.builtin "len") (λxs H Q=>∃x n,xs=[x]/\FO X.K x H n/\Q (.int n) H):=by
 intro pins s σ H xs us Q I r h
 obtain⟨x,n,rfl,e,q⟩:=h
 obtain⟨u,rfl,rx⟩:=vals1 r
 have hl:=m5
 have hs:sizeLine=16777216:=sizeLine_eq
 cases x with
 | str y=>
  obtain⟨t,rfl⟩:=rx
  obtain⟨hy,e'⟩:y.length<=sizeLine/\n=y.length:=e
  subst e'
  exact len_str (by omega) ⟨.int _,H,I.tok _,⟨_,rfl⟩,q⟩
 | byt y=>
  obtain⟨t,rfl⟩:=rx
  obtain⟨hy,e'⟩:y.size<=sizeLine/\n=y.size:=e
  subst e'
  exact PySem.W.len_bytes (by omega) ⟨.int _,H,I.tok _,⟨_,rfl⟩,q⟩
 | ref p=>
  cases rx
  have e':(∃xs,SqL X.K H p xs/\n=xs.length)\/∃xs,SqT X.K H p xs/\n=xs.length:=e
  rcases e' with⟨xs,hx,e'⟩ | ⟨xs,hx,e'⟩
  ·subst e'
   obtain⟨its,r',pl,hz⟩:=I.list hx
   have hlen:=r'.length
   exact Calls.call_len_list pl.isList (by simp only[List.size_toArray];omega) ⟨.int xs.length,H,I.tok _,⟨_,by simp only[List.size_toArray];rw[hlen]⟩,q⟩
  ·subst e'
   obtain⟨its,r',pl,hz⟩:=I.tuple hx
   have hlen:=r'.length
   exact len_tuple pl (by simp only[List.size_toArray];omega) ⟨.int xs.length,H,I.tok _,⟨_,by simp only[List.size_toArray];rw[hlen]⟩,q⟩
 | _=>exact(show False from e).elim
end
end L2
namespace L2
open PySem PySem.Spec PyProof.Rows
structure Gj(h:Heap)(x dx C:Addr)(mA:Str->Option Value):Prop where
 obj:h.get? x=some (PySem.W.instObj C dx)
 ns:h.Ns1 dx mA
 ne:dx≠x
theorem Ak{h:Heap}{dx:Addr}{mA:Str->Option Value}(n:h.Ns1 dx mA):∃od,h.get? dx=some od/\∀name,PySem.W.lookIn name od=some (mA name):=by
 obtain⟨o,es,ep,ho,hd,hk,_,hm⟩:=n
 refine⟨o,ho,λname=> ?_⟩
 have e:=hm name
 unfold nsFind findBy at e
 rw[<- Array.find?_toList] at e
 unfold PySem.W.lookIn
 rw[hd]
 dsimp only
 split
 ·rename_i y q
  rw[q] at e
  exact congrArg some e
 ·rename_i q
  rw[q] at e
  have a:es.toList.any (·.refKey)=false:=by
   rw[List.any_eq_false]
   intro y hy
   obtain⟨z,t,hkey⟩:=hk y (Array.mem_toList_iff.mp hy)
   simp[DictEntry.refKey,hkey]
  have a':¬es.toList.any (·.refKey)=true:=by rw[a];exact Bool.false_ne_true
  rw[if_neg a']
  exact congrArg some e
theorem Gj.look{h:Heap}{x dx C:Addr}{mA:Str->Option Value}(I:Gj h x dx C mA):∃od,PySem.W.InstAt h x (PySem.W.instObj C dx) C (some od)/\∀name,PySem.W.lookIn name od=some (mA name):=
 let ⟨od,ho,hl⟩:=Ak I.ns
 ⟨od,⟨I.obj,rfl,rfl,ho⟩,hl⟩
section
variable {prog : Program} {w : World} {A : Around} {E : Value → Shared → Prop} {s : Shared} {K : PySem.W.Frag} {x dx C f : Addr} {mA : Str → Option Value} {name : Str} {v : Value}
end
section
variable {P : Program} {w : World} {H H' : Hp} {h h' : Heap} {a C dx : Addr} {fs fs' : List (Str × V)}
end
structure Cls(K:PySem.W.Frag)(C:Addr):Prop where
 pg:PySem.W.plainGet K C Str.empty=true
 hd:PySem.W.hasDictIn K C=true
 po:PySem.W.plainOver K C=true
 sa:PySem.W.findIn K (.ref C) "__setattr__" =some (some (.builtin "object.__setattr__"))
theorem Cls.get{K:PySem.W.Frag}{C:Addr}(c:Cls K C)(f:Str):PySem.W.plainGet K C f=true:=c.pg
structure Con(K:PySem.W.Frag)(C:Addr)(f:Str)(v:V)(u:Value):Prop where
 at_:PySem.W.findIn K (.ref C) f=some (some u)
 rel:RelV v u
 get:PySem.W.specialIn K u "__get__" =some none
 cp:PySem.W.copiedNames.contains f=false
structure Meth(K:PySem.W.Frag)(C:Addr)(m:Str)(f:Addr):Prop where
 at_:PySem.W.findIn K (.ref C) m=some (some (.ref f))
 fn:PySem.W.isFn K (.ref f)=true
 kp:PySem.W.keepIn K (.ref f)=true
section
variable {X : Cx} {pins : List (Addr × Obj)} {σ : St} {H : Hp} {s : Shared} {a C dx : Addr} {fs : List (Str × V)} {f : Str} {v : V} {A : Around} {E : Value → Shared → Prop}
theorem Inv.made(I:Inv X pins σ H s):Inv X pins σ (upd (upd H s.heap.objs.size (.own (s.heap.objs.size+1))) (s.heap.objs.size+1) (.ins C s.heap.objs.size []))
 {s with heap:=(s.heap.push PySem.W.emptyDict).push (PySem.W.instObj C s.heap.objs.size)}:=by
 have e1:(s.heap.push PySem.W.emptyDict).get? s.heap.objs.size=some PySem.W.emptyDict:=Heap.get?_push_size s.heap rfl
 have e2:((s.heap.push PySem.W.emptyDict).push (PySem.W.instObj C s.heap.objs.size)).get? (s.heap.objs.size+1)=some (PySem.W.instObj C s.heap.objs.size):=by
  have:=Heap.get?_push_size (s.heap.push PySem.W.emptyDict) (o:=PySem.W.instObj C s.heap.objs.size) rfl
  rwa [Heap.size_push] at this
 have e3:(s.heap.push PySem.W.emptyDict).Ns s.heap.objs.size (λ_=>none):=⟨PySem.W.emptyDict,#[],_,e1,rfl,(λe he=>absurd he (by simp)),λ_=>rfl⟩
 have I1:=I.laid (a:=s.heap.objs.size) (o:=.own (s.heap.objs.size+1)) (h':=s.heap.push PySem.W.emptyDict) (t':=s.toks) (λb u q=>Heap.get?_push_of_some _ q) (Nat.le_refl _) ⟨_,e1⟩
 refine I1.laid (a:=s.heap.objs.size+1) (o:=.ins C s.heap.objs.size []) (t':=s.toks) (λb u q=>Heap.get?_push_of_some _ q) (Nat.le_of_eq (Heap.size_push _ _)) ?_
 have ne:s.heap.objs.size≠s.heap.objs.size+1:=Nat.ne_of_lt (Nat.lt_succ_self _)
 refine⟨by rw[aI ne,bY],Nat.zero_le _,ne,e2,λ_=>none,(Heap.Ns1.of_empty e3).at λo q=>Heap.get?_push_of_some _ q,λ_=>True.intro,λy hy=>absurd rfl hy⟩
end
section
variable {X : Cx} {o e value : Expr} {f : Str} {pos pos' tpos : Pos} {ta tv : TE}
end
section
variable {X : Cx} {pins : List (Addr × Obj)} {σ : St} {H : Hp} {s : Shared} {A : Around} {E : Value → Shared → Prop} {Q : Value → Shared → Prop} {c : Value} {b : Bool}
inductive lI (K:PySem.W.Frag) (H:Hp):V->Value->Prop where
 | non:lI K H .non (.type "NoneType")
 | bl (x:Bool):lI K H (.bl x) (.type "bool")
 | int (i:Int):lI K H (.int i) (.type "int")
 | str (x:Str):lI K H (.str x) (.type "str")
 | flt (x:UInt64):lI K H (.flt x) (.type "float")
 | lst {a:Addr} {xs:List V} (e:H a=some (.lst xs)):lI K H (.ref a) (.type "list")
 | frz {a:Addr} {o:Obj} {xs:List V} (e:H a=some (.frz o (.lst xs))):lI K H (.ref a) (.type "list")
 | tup {a:Addr} {xs:List V} (e:H a=some (.tup xs)):lI K H (.ref a) (.type "tuple")
 | dK {a:Addr} {kvs:List (Key×V)} (e:H a=some (.dK kvs)):lI K H (.ref a) (.type "dict")
 | dT {a:Addr} {kvs:List (List Key×V)} (e:H a=some (.dT kvs)):lI K H (.ref a) (.type "dict")
 | ins {a C dx:Addr} {fs:List (Str×V)} (e:H a=some (.ins C dx fs)) (cl:Cls K C) (ha:PySem.W.findIn K (.ref C) "__class__" =some (some (.builtin "object.__class__")))
  (hn:PySem.W.specialIn K (.builtin "object.__class__") "__get__" =some (some (.builtin "getset_descriptor.__get__"))) (htk:PySem.W.takesIn K (.builtin "object.__class__")=some true)
  (hm:PySem.W.mroIn K C (.type "object")=some true):lI K H (.ref a) (.ref C)
end
end L2
namespace L2
open PySem PySem.Spec PyProof.Rows
structure dP(k:Nat)(A:Around):Prop where
 hd:A.handled=none
 dp:A.depth+3*k+5<recursionLimit
 un:A.units+16*k+200<cLine
theorem dP.mono{j k:Nat}{A:Around}(r:dP k A)(h:j<=k):dP j A:=⟨r.hd,by have:=r.dp;omega,by have:=r.un;omega⟩
theorem dP.deeper{k:Nat}{A:Around}(r:dP (k+1) A)(env:Env):dP k (A.deeper env):=
 ⟨r.hd,by have:=r.dp;show A.depth+1+3*k+5<_;omega,by have:=r.un;show A.units+3+16*k+200<_;omega⟩
theorem dP.in1{k:Nat}{A:Around}(r:dP (k+1) A):dP k A.in1:=
 ⟨r.hd,by have:=r.dp;show A.depth+3*k+5<_;omega,by have:=r.un;show A.units+1+16*k+200<_;omega⟩
theorem dP.depth{k:Nat}{A:Around}(r:dP k A):A.depth<recursionLimit:=by have:=r.dp;omega
theorem dP.units{k:Nat}{A:Around}(r:dP k A):A.units+64<cLine:=by have:=r.un;omega
def kv:TA:=λ_ H Q=>Q [] H
def fv(ta:TE)(tr:TA):TA:=λσ H Q=>ta σ H λx H1=>tr σ H1 λxs H2=>Q (x::xs) H2
section
variable {X : Cx} {e : Expr} {es : List Expr} {te : TE} {t : TA} {pos : Pos}
theorem ay:PA X [] kv:=λ_ _ _ _ H Q I h=>Calls.spliced_nil ⟨[],H,I,.nil,h⟩
theorem ah(ha:PE X e te)(hr:PA X es t)(hs:starEach (e::es) X.env=(false,eval e X.env)::starEach es X.env:=by rfl):PA X (e::es) (fv te t):=by
 intro pos pins s σ H Q I h
 rw[hs]
 show wpAny _ _ (spliced ((false,eval e X.env)::backTo pos (starEach es X.env))) _ _ s
 refine Calls.spliced_cons (thn (ha pins s σ H _ I h) λu s1 ⟨x,H1,I1,r1,q1⟩=> ?_)
 exact thn (hr pos pins s1 σ H1 _ I1 q1) λus s2 ⟨xs,H2,I2,r2,q2⟩=>⟨x::xs,H2,I2,.cons r1 r2,q2⟩
def BF(t:TA):TE:=λσ H Q=>t σ H λxs H1=>xs.length<=sizeLine/\∀p,H1 p=none->Q (.ref p) (upd H1 p (.tup xs))
def xn(t:TA):TE:=λσ H Q=>t σ H λxs H1=>xs.length<=sizeLine/\∀p,H1 p=none->Q (.ref p) (upd H1 p (.lst xs))
theorem sm{x1}(h:PA X es t):PE X (.Tuple es x1 pos) (BF t):=by
 intro pins s σ H Q I hq
 refine wpAny_Tuple_spliced (thn (h pos pins s σ H _ I hq) λus s1 ⟨xs,H1,I1,r,z,q⟩=>⟨by rw[<- r.length];exact z, ?_⟩)
 have hf:H1 s1.heap.objs.size=none:=I1.hok.fresh (Nat.le_refl _)
 refine⟨.ref s1.heap.objs.size,upd H1 s1.heap.objs.size (.tup xs),I1.laid (t':=s1.toks) (λb u e=>Heap.get?_push_of_some _ e) (Nat.le_refl _) ?_,rfl,q _ hf⟩
 exact⟨z,us,r,⟨_,Heap.get?_push_size _ rfl,rfl,_,rfl⟩⟩
theorem iJ(h:PA X es t):PE X (.List es pos) (xn t):=by
 intro pins s σ H Q I hq
 refine wpAny_List_spliced (thn (h pos pins s σ H _ I hq) λus s1 ⟨xs,H1,I1,r,z,q⟩=>⟨by rw[<- r.length];exact z, ?_⟩)
 have hf:H1 s1.heap.objs.size=none:=I1.hok.fresh (Nat.le_refl _)
 refine⟨.ref s1.heap.objs.size,upd H1 s1.heap.objs.size (.lst xs),I1.laid (t':=s1.toks) (λb u e=>Heap.get?_push_of_some _ e) (Nat.le_refl _) ?_,rfl,q _ hf⟩
 exact⟨z,us,0,r,Heap.get?_push_size _ rfl⟩
end
abbrev Sp:=List V->Hp->VK->XK->Prop
abbrev CXT:=List Env->Hp->Shared->XK->Value->Shared->Prop
structure rQ(P:Program)(w:World)(K:PySem.W.Frag)(mg:Str->Option Value)(base:Heap)(A:Around)(outer:List Env)(s:Shared)(H:Hp):Prop where
 frames:A.frames=some outer
 mod:Mod K mg base
 bs:∀b o,base.get? b=some o->s.heap.get? b=some o/\H b=none
 bsz:base.objs.size<=s.heap.objs.size
 funs:s.heap.FunFrames base outer
 frf:∀b∈frs outer,H b=none
 hok:HOk P w H s.heap
 bare:AllBare s.gens
def CE(outer:List Env)(P:Program)(w:World)(H:Hp)(s:Shared)(Q:VK)(u:Value)(s':Shared):Prop:=
 ∃v H',s'.os=s.os/\AllBare s'.gens/\Un (frs outer) [] H H' s.heap s'.heap/\HOk P w H' s'.heap/\RelV v u/\Q v H'
def CR(CX:CXT)(outer:List Env)(P:Program)(w:World)(H:Hp)(s:Shared)(Q:VK)(E:XK)(r:Result)(s':Shared):Prop:=
 match r with
 | .ok (.ret u)=>CE outer P w H s Q u s'
 | .ok _=>False
 | .error e=>CX outer H s E e s'
structure fV(P:Program)(w:World)(K:PySem.W.Frag)(mg:Str->Option Value)(base:Heap)(CX:CXT)(k:Nat)(f:Addr)(fd:FuncData)(ps:List Str)(sp:Sp):Prop where
 len:∀vs H Q E,sp vs H Q E->vs.length=ps.length
 run:∀(A:Around) (outer:List Env) (s:Shared) (H:Hp) (args:Args) (us:List Value) (vs:List V) (Q:VK) (E:XK),dP k A->rQ P w K mg base A outer s H->BindsTo s fd args (ps.zip us)->Vals vs us->sp vs H Q E->
  codeAny (model P w) A (.call (.ref f) args) (CR CX outer P w H s Q E) s
theorem fV.mono{P:Program}{w:World}{K:PySem.W.Frag}{mg:Str->Option Value}{base:Heap}{CX:CXT}{j k:Nat}{f:Addr}{fd:FuncData}{ps:List Str}{sp:Sp}(F:fV P w K mg base CX j f fd ps sp)(h:j<=k):
 fV P w K mg base CX k f fd ps sp:=⟨F.len,λA outer s H args us vs Q E hr=>F.run A outer s H args us vs Q E (hr.mono h)⟩
theorem fV.imp {P:Program} {w:World} {K:PySem.W.Frag} {mg:Str->Option Value} {base:Heap} {CX:CXT} {k:Nat} {f:Addr} {fd:FuncData} {ps:List Str} {sp sp':Sp} (F:fV P w K mg base CX k f fd ps sp)
 (h:∀vs H Q E,sp' vs H Q E->sp vs H Q E):fV P w K mg base CX k f fd ps sp':=
 ⟨λvs H Q E q=>F.len vs H Q E (h _ _ _ _ q),λA outer s H args us vs Q E hr he hb hv hs=>F.run A outer s H args us vs Q E hr he hb hv (h _ _ _ _ hs)⟩
theorem rQ.in1{P:Program}{w:World}{K:PySem.W.Frag}{mg:Str->Option Value}{base:Heap}{A:Around}{outer:List Env}{s:Shared}{H:Hp}(e:rQ P w K mg base A outer s H):
 rQ P w K mg base A.in1 outer s H:=⟨e.frames,e.mod,e.bs,e.bsz,e.funs,e.frf,e.hok,e.bare⟩
section
variable {X : Cx} {pins : List (Addr × Obj)} {σ : St} {H : Hp} {s s' : Shared}
theorem Inv.env0(I:Inv X pins σ H s):rQ X.prog X.w X.K X.mg X.base X.A X.stack s H:=
 ⟨I.ok.frames,I.ok.mod,I.bs,Nat.le_trans I.ok.bsz I.sz,I.stack,I.stkFree,I.hok,I.bare⟩
theorem Inv.after{Q:VK}{u:Value}(I:Inv X pins σ H s)(h:CE X.stack X.prog X.w H s Q u s'):EP X pins σ Q u s':=by
 obtain⟨v,H',os,bare,un,hok,r,q⟩:=h
 obtain⟨hh,g,d,t,os'⟩:=s'
 obtain rfl:os'=s.os:=os
 exact⟨v,H',I.call (h':=hh) (g':=g) (d':=d) (t':=t) (ch:=[]) un hok bare (λb z=>absurd z (by simp)),r,q⟩
end
def pL(sp:Sp)(dvs:List V)(E:XK)(t:TA):TE:=λσ H Q=>t σ H λvs H1=>sp (vs++dvs) H1 Q E
def Binds(K:PySem.W.Frag)(fd:FuncData)(ps:List Str)(ds:List Value):Prop:=
 ∀(s:Shared) (us:List Value),K.In s.heap->(us++ds).length=ps.length->BindsTo s fd ⟨us,[]⟩ (ps.zip (us++ds))
theorem Binds.all{K:PySem.W.Frag}{fd:FuncData}{ps:List Str}(h:∀us:List Value,us.length=ps.length->bindArgs fd ⟨us,[]⟩=pure (ps.zip us)):Binds K fd ps []:=λs us _ hl=>by
 rw[List.append_nil] at hl ⊢
 exact .of_eq (h us hl)
def Passes(CX:CXT)(X:Cx)(E:XK):Prop:=∀(pins:List (Addr×Obj)) (σ:St) (H:Hp) (s:Shared) (e:Value) (s':Shared),Inv X pins σ H s->CX X.stack H s E e s'->X.xe e s'
section
variable {X : Cx} {CX : CXT} {k : Nat} {f C : Addr} {fd : FuncData} {ps : List Str} {sp : Sp} {dvs : List V} {ds : List Value} {E : XK} {x m : Str} {p pos apos : Pos} {e o : Expr} {es : List Expr} {ta : TE} {t : TA}
theorem FD {pins:List (Addr×Obj)} {σ:St} {H:Hp} {s:Shared} {Q:VK} {us:List Value} {vs:List V} (F:fV X.prog X.w X.K X.mg X.base CX k f fd ps sp) (hr:dP k X.A) (hb:Binds X.K fd ps ds) (hd:Vals dvs ds) (hx:Passes CX X E)
 (I:Inv X pins σ H s) (r:Vals vs us) (h:sp (vs++dvs) H Q E):wpAny (model X.prog X.w) X.A (call (.ref f) us) (EP X pins σ Q) X.xe s:=by
 have r2:Vals (vs++dvs) (us++ds):=r.append hd
 have hl:(us++ds).length=ps.length:=by rw[<- r2.length];exact F.len _ _ _ _ h
 refine wpAny_call (codeAny_mono (F.run X.A X.stack s H ⟨us,[]⟩ (us++ds) (vs++dvs) Q E hr I.env0 (hb s us I.kIn hl) r2 h) λr s' hq=> ?_)
 cases r with
 | error e=>exact hx pins σ H s e s' I hq
 | ok fl=>
  cases fl with
  | ret u=>exact I.after hq
  | next=>exact False.elim hq
  | brk=>exact False.elim hq
  | cont=>exact False.elim hq
theorem aO (F:fV X.prog X.w X.K X.mg X.base CX k f fd ps sp) (hr:dP k X.A) (hg:Gl X x) (hm:X.mg x=some (.ref f)) (hk:PySem.W.keepIn X.K (.ref f)=true) (hb:Binds X.K fd ps ds) (hd:Vals dvs ds) (hx:Passes CX X E)
 (ha:PA X (e::es) t) (hdb:(x == ("__debug__" :Str))=false:=by decide) (he:starEach (e::es) X.env=(false,eval e X.env)::starEach es X.env:=by rfl) (hpl:(backTo pos (starEach es X.env)).any (·.1)=false:=by rfl):
 PE X (.Call (.Name x p) (e::es) [] pos) (pL sp dvs E t):=by
 intro pins s σ H Q I h
 refine wpAny_Call_Name_kw (mX I hg hm ?_ hdb)
 refine PySem.W.callWith_K (h₀:=X.base) I.ok.mod.kin hk (thn (ha pos pins s σ H _ I h) λus s1 ⟨vs,H1,I1,r,q⟩=>⟨I1.kIn, ?_⟩) he hpl
 exact FD F hr hb hd hx I1 r q
structure Mk(K:PySem.W.Frag)(C f:Addr):Prop where
 makes:PySem.W.makesIn K C=true
 init:PySem.W.findIn K (.ref C) "__init__" =some (some (.ref f))
 fn:PySem.W.isFn K (.ref f)=true
 kp:PySem.W.keepIn K (.ref C)=true
end
section
variable {X : Cx} {CX : CXT} {k : Nat} {f C : Addr} {fd : FuncData} {ps ks : List Str} {sp : Sp} {E : XK} {x m : Str} {p pos apos kpos : Pos} {e o : Expr} {es : List Expr} {kws : List Keyword} {te ta : TE} {t tk : TA} {nm : Option Str}
structure Jp(K:PySem.W.Frag)(fd:FuncData)(ps ks:List Str)(g:List Value->List Value->List Value)(gV:List V->List V->List V):Prop where
 to:∀(s:Shared) (us ws:List Value),K.In s.heap->(g us ws).length=ps.length->BindsTo s fd ⟨us,ks.zip ws⟩ (ps.zip (g us ws))
 rel:∀{vs:List V} {us:List Value} {zs:List V} {ws:List Value},Vals vs us->Vals zs ws->Vals (gV vs zs) (g us ws)
variable {g : List Value → List Value → List Value} {gV : List V → List V → List V}
end
structure bg(N P:List Str)(sc:Scope):Prop where
 kind:sc.kind=.function
 co:sc.isCoroutine=false
 gen:sc.isGenerator=false
 nd:N.Nodup
 pre:N.take P.length=P
 par:∀x∈P,sc.names.lookup x=some .local\/sc.names.lookup x=some .cell
 nofree:∀y∈sc.names,y.2≠ .free
theorem uz{kindOf:Str->Option NameKind}{x:Str}:∀{binds:List (Str×Value)} {m:Str->Option Value},(∀v,(x,v)∉binds)->bindL kindOf binds m x=m x
 | [],_,_=>rfl
 | (n,v)::r,m,h=>by
  unfold bindL
  rw[uz λw hw=>h w (List.mem_cons_of_mem _ hw)]
  split
  ·have:x≠n:=by rintro rfl;exact h v List.mem_cons_self
   simp[this]
  ·rfl
theorem um{kindOf:Str->Option NameKind}{x:Str}:∀{binds:List (Str×Value)} {m:Str->Option Value},(∀v,(x,v)∉binds)->bindC kindOf binds m x=m x
 | [],_,_=>rfl
 | (n,v)::r,m,h=>by
  unfold bindC
  rw[um λw hw=>h w (List.mem_cons_of_mem _ hw)]
  split
  ·rfl
  ·have:x≠n:=by rintro rfl;exact h v List.mem_cons_self
   simp[this]
theorem uq{kindOf:Str->Option NameKind}{x:Str}{v:Value}:∀{P:List Str} {vs:List Value} {i:Nat} {m:Str->Option Value},P.Nodup->P[i]? =some x->vs[i]? =some v->kindOf x=some .local->
 bindL kindOf (P.zip vs) m x=some v
 | [],_,_,_,_,h,_,_=>by simp at h
 | _::_,[],_,_,_,_,h,_=>by simp at h
 | p::P,w::vs,0,m,nd,h1,h2,hk=>by
  simp at h1 h2;subst h1;subst h2
  show bindL kindOf ((p,w)::P.zip vs) m p=_
  unfold bindL
  rw[uz λv hv=>(List.nodup_cons.mp nd).1 (List.of_mem_zip hv).1,if_pos hk]
  simp
 | p::P,w::vs,i+1,m,nd,h1,h2,hk=>by
  show bindL kindOf ((p,w)::P.zip vs) m x=_
  unfold bindL
  exact uq (i:=i) (List.nodup_cons.mp nd).2 (by simpa using h1) (by simpa using h2) hk
theorem uL{kindOf:Str->Option NameKind}{x:Str}{v:Value}:∀{P:List Str} {vs:List Value} {i:Nat} {m:Str->Option Value},P.Nodup->P[i]? =some x->vs[i]? =some v->kindOf x≠some .local->
 bindC kindOf (P.zip vs) m x=some v
 | [],_,_,_,_,h,_,_=>by simp at h
 | _::_,[],_,_,_,_,h,_=>by simp at h
 | p::P,w::vs,0,m,nd,h1,h2,hk=>by
  simp at h1 h2;subst h1;subst h2
  show bindC kindOf ((p,w)::P.zip vs) m p=_
  unfold bindC
  rw[um λv hv=>(List.nodup_cons.mp nd).1 (List.of_mem_zip hv).1,if_neg hk]
  simp
 | p::P,w::vs,i+1,m,nd,h1,h2,hk=>by
  show bindC kindOf ((p,w)::P.zip vs) m x=_
  unfold bindC
  exact uL (i:=i) (List.nodup_cons.mp nd).2 (by simpa using h1) (by simpa using h2) hk
def start(N:List Str)(vs:List V):St:=vs.map some++List.replicate (N.length-vs.length) none
def kx(CX:CXT)(P:Program)(w:World)(K:PySem.W.Frag)(mg:Str->Option Value)(base:Heap)(N:List Str)(qual:Str)(scope:Scope)(f:Addr)(cd:Value)(A:Around)(outer:List Env)(s:Shared)(H:Hp)(E:XK):Cx where
 prog:=P
 w:=w
 K:=K
 mg:=mg
 base:=base
 A:=A.deeper (envOfC qual scope s.heap.objs.size f cd)
 N:=N
 s₀:=s
 H₀:=H
 env:=envOfC qual scope s.heap.objs.size f cd
 outer:=outer
 stack:=envOfC qual scope s.heap.objs.size f cd::outer
 ex:=[]
 calm:=true
 fn:=λ_=>true
 pn:=[]
 xe:=λe s'=>wpAny (model P w) (A.deeper (envOfC qual scope s.heap.objs.size f cd)) (leaving (envOfC qual scope s.heap.objs.size f cd) e) (λ_ s''=>CX outer H s E e s'') (λe' s''=>CX outer H s E e' s'') s'
theorem vV{sc:Scope}{n:Nat}{x:Str}(h:sc.names.lookup x=some .cell):∃c,(cellsFrom n sc.names []).lookup x=some c:=by
 have q:=PySem.W.cellsFrom_some sc.names n [] (.inl h)
 exact Option.isSome_iff_exists.mp q
theorem Al {CX:CXT} {P:Program} {w:World} {K:PySem.W.Frag} {mg:Str->Option Value} {base:Heap} {N ps:List Str} {qual:Str} {scope:Scope} {f:Addr} {cd:Value} {A:Around} {outer:List Env} {s s1:Shared} {H:Hp} {E:XK} {us:List Value} {vs:List V}
 (S:bg N ps scope) (hd:A.handled=none) (e0:rQ P w K mg base A outer s H) (hl:vs.length=ps.length) (r:Vals vs us)
 (x:InCallC s s.heap.objs.size (bindL (envOfC qual scope s.heap.objs.size f cd).kindOf (ps.zip us) λ_=>none) (cellsFrom (s.heap.objs.size+1) scope.names []) (bindC (envOfC qual scope s.heap.objs.size f cd).kindOf (ps.zip us) λ_=>none) s1):
 Inv (kx CX P w K mg base N qual scope f cd A outer s H E) [] (start N vs) H s1:=by
 have hpl:ps.length<=N.length:=by have:=congrArg List.length S.pre;rw[List.length_take] at this;omega
 obtain⟨h1,tk,rfl,hk⟩:=x.done
 have noA:∀b:Addr,b∉(kx CX P w K mg base N qual scope f cd A outer s H E).ex:=λb z=>absurd (show b∈([]:List Addr) from z) (by simp)
 refine⟨⟨e0.mod,S.kind,rfl,rfl,Nat.le_refl _,λy z c h1 h2=> ?_,λy hy=> ?_,λy c _ h=> ?_,λ_=>hd,Around.frames_deeper e0.frames,.inr ⟨rfl,rfl⟩,λb z=>absurd z (noA b),e0.bs,e0.bsz,λb _ _=>noA b,λb z=>absurd z (noA b),e0.funs,e0.frf⟩,
  rfl,e0.bare,Un.kept hk,⟨_,x.toInCall.ns,λi y v h1 h2 h3=> ?_⟩,λy c h=>⟨_,x.cell y c h⟩,e0.hok.fresh (Nat.le_refl _),λy c h=> ?_,λp hp=>absurd (show p∈([]:List (Addr×Obj)) from hp) (by simp),e0.hok.kept hk, ?_⟩
 ·exact name_of_addr x.apart (PySem.mem_of_lookup h1) (PySem.mem_of_lookup h2)
 ·have hy:scope.names.lookup y=some .cell\/scope.names.lookup y=some .free:=hy
  rcases hy with hy | hy
  ·exact vV hy
  ·exact absurd rfl (S.nofree _ (PySem.mem_of_lookup hy))
 ·exact Nat.le_of_lt (x.above y c (PySem.mem_of_lookup h))
 ·have hi:i<vs.length:=by
   unfold start at h2
   by_cases hi:i<vs.length
   ·exact hi
   ·rw[List.getElem?_append_right (by simpa using hi)] at h2
    rw[List.getElem?_replicate] at h2
    split at h2 <;> cases h2
  have ha:vs[i]? =some v:=by
   unfold start at h2
   rw[List.getElem?_append_left (by simpa using hi),List.getElem?_map] at h2
   cases e:vs[i]? with
   | none=>rw[e] at h2;cases h2
   | some a=>rw[e] at h2;cases h2;rfl
  obtain⟨u,hu,rv⟩:=r.get ha
  have hp:ps[i]? =some y:=by
   rw[<- S.pre,List.getElem?_take_of_lt (by omega)];exact h1
  have ndP:ps.Nodup:=by rw[<- S.pre];exact S.nd.sublist (List.take_sublist _ _)
  refine⟨u,rv, ?_⟩
  rcases S.par y (List.mem_of_getElem? hp) with k | k
  ·exact .inl ⟨k,uq ndP hp hu k⟩
  ·obtain⟨c,e⟩:=vV (n:=s.heap.objs.size+1) k
   refine .inr ⟨.inl k,c,e, ?_⟩
   have q:=x.cell y c e
   rw[uL ndP hp hu (by show scope.names.lookup y≠_;rw[k];decide)] at q
   exact q
 ·exact e0.hok.fresh (Nat.le_of_lt (x.above y c (PySem.mem_of_lookup h)))
 ·unfold start
  show _=N.length
  rw[List.length_append,List.length_map,List.length_replicate]
  omega
theorem Dx {CX:CXT} {P:Program} {w:World} {K:PySem.W.Frag} {mg:Str->Option Value} {base:Heap} {k:Nat} {f:Addr} {name qual:Str} {params:Arguments} {body:List Stmt} {scope:Scope} {dV kV doc pm cdv ct oc:Value} {an od:Option Addr}
 {osl:Array (Option Value)} {N ps:List Str} {sp:Sp} (lk:K.lookup f=some ⟨oc,od,.func (PySem.W.fnOf name qual params body scope dV kV doc pm an cdv ct),osl⟩) (hcd:PySem.W.codeIn K cdv qual=true) (S:bg N ps scope)
 (len:∀vs H Q E,sp vs H Q E->vs.length=ps.length)
 (hbody:∀(A:Around) (outer:List Env) (s:Shared) (H:Hp) (vs:List V) (Q:VK) (E:XK),dP k (A.deeper (envOfC qual scope s.heap.objs.size f cdv))->sp vs H Q E->
  ∃t,PSs (kx CX P w K mg base N qual scope f cdv A outer s H E) body t/\t {nx:=λ_ H'=>Q .non H',rt:=Q} (start N vs) H):
 fV P w K mg base CX (k+1) f (PySem.W.fnOf name qual params body scope dV kV doc pm an cdv ct) ps sp:=by
 refine⟨len,λA outer s H args us vs Q E hr e0 hb r hsp=> ?_⟩
 have hl:=len _ _ _ _ hsp
 have KX:K.In s.heap:=e0.mod.kin.keeps λb o e=>(e0.bs b o e).1
 have lim:s.heap.NoLimit:=e0.mod.nolimit.keeps λb o e=>(e0.bs b o e).1
 have hkind:∀y∈ps.zip us,scope.names.lookup y.1=some .local\/(scope.names.lookup y.1=some .cell/\((cellsFrom (s.heap.objs.size+1) scope.names []).lookup y.1).isSome=true):=λ⟨n,v⟩ hy=>by
  rcases S.par n (List.of_mem_zip hy).1 with q | q
  ·exact .inl q
  ·exact .inr ⟨q,PySem.W.cellsFrom_some _ _ _ (.inl q)⟩
 refine codeAny_call_function hr.depth (KX _ _ lk) rfl S.co S.gen rfl (PySem.W.codeRec_of KX hcd) (hb _ _ _ _ ?_)
 refine wpAny_newFunctionEnv_cells S.kind hkind λenv he s1 x=> ?_
 subst he
 refine⟨lim.keeps x.toInCall.keep,codeAny_func ?_⟩
 obtain⟨t,ht,hq⟩:=hbody A outer s H vs Q E (hr.deeper _) hsp
 have I:Inv (kx CX P w K mg base N qual scope f cdv A outer s H E) [] (start N vs) H s1:=Al S hr.hd e0 hl r x
 refine wpAny_mono (ht [] s1 (start N vs) H _ I hq) (λfl s' hs=> ?_) λe s' hs=>hs
 have fin:∀{σ':St} {H':Hp} {v:V} {u:Value},Inv (kx CX P w K mg base N qual scope f cdv A outer s H E) [] σ' H' s'->RelV v u->Q v H'->CE outer P w H s Q u s':=
  λ{σ' H' v u} J rv q=>⟨v,H',J.os,J.bare,J.base,J.hok,rv,q⟩
 cases fl with
 | ret u=>
  obtain⟨v,σ',H',J,rv,q⟩:=hs
  exact fin J rv q
 | next=>
  obtain⟨σ',H',J,q⟩:=hs
  exact fin (v:=V.non) (u:=Value.none) J rfl q
 | brk=>
  obtain⟨_,_,_,q⟩:=hs
  exact False.elim q
 | cont=>
  obtain⟨_,_,_,q⟩:=hs
  exact False.elim q
end L2
namespace L2
open PySem PySem.Spec PyProof.Rows
section
variable {X : Cx} {x : Str} {p pos : Pos} {e : Expr} {es : List Expr} {t : TA} {id T : String} {r : List V → Hp → VK → Prop}
def tCB(r:List V->Hp->VK->Prop)(t:TA):TE:=λσ H Q=>t σ H λvs H1=>r vs H1 Q
theorem bA (hc:fP X (.builtin id) r) (hg:Gl X x) (hm:X.mg x=none) (hv:bootBuiltins x=some (.builtin id)) (ha:PA X (e::es) t) (hn:x≠"__name__" :=by decide) (hdb:(x == ("__debug__" :Str))=false:=by decide)
 (he:starEach (e::es) X.env=(false,eval e X.env)::starEach es X.env:=by rfl) (hpl:(backTo pos (starEach es X.env)).any (·.1)=false:=by rfl):PE X (.Call (.Name x p) (e::es) [] pos) (tCB r t):=by
 intro pins s σ H Q I h
 refine wpAny_Call_Name_kw (ki I hg hm hv ?_ hn hdb)
 exact PyProof.Rows.callWith_builtin1 (thn (ha pos pins s σ H _ I h) λus s1 ⟨vs,H1,I1,r1,q1⟩=>hc pins s1 σ H1 vs us Q I1 r1 q1) he hpl
theorem h9 (hc:fP X (.type T) r) (hg:Gl X x) (hm:X.mg x=none) (hv:bootBuiltins x=some (.type T)) (ha:PA X (e::es) t) (hn:x≠"__name__" :=by decide) (hdb:(x == ("__debug__" :Str))=false:=by decide)
 (he:starEach (e::es) X.env=(false,eval e X.env)::starEach es X.env:=by rfl) (hpl:(backTo pos (starEach es X.env)).any (·.1)=false:=by rfl):PE X (.Call (.Name x p) (e::es) [] pos) (tCB r t):=by
 intro pins s σ H Q I h
 refine wpAny_Call_Name_kw (ki I hg hm hv ?_ hn hdb)
 exact PyProof.Rows.callWith_type1 (thn (ha pos pins s σ H _ I h) λus s1 ⟨vs,H1,I1,r1,q1⟩=>hc pins s1 σ H1 vs us Q I1 r1 q1) he hpl
end
end L2
namespace HT
open PySem PyProof.Rows
def lexLt:List Int->List Int->Bool
 | [],[]=>false
 | [],_::_=>true
 | _::_,[]=>false
 | x::xs,y::ys=>if x=y then lexLt xs ys else decide (x<y)
theorem kC(x y:Int)(xs ys:List Int):lexLt (x::xs) (y::ys)=if x=y then lexLt xs ys else decide (x<y):=rfl
theorem BV(A:Around)(s:Shared)(a:Int)(t:Tok)(c:Int)(u:Tok):∃e,SeqAt.EqAt A s (.int a t) (.int c u) e/\(e=true↔a=c):=
 ⟨(a == c),SeqAt.EqAt.int_int a t c u,by simp⟩
theorem wU(A:Around)(s:Shared)(a:Int)(t:Tok)(c:Int)(u:Tok)(prog:Program)(w:World)(E:Value->Shared->Prop)(Q:Value->Shared->Prop)(h:Q (.bool (decide (a<c))) s):
 wpAny (model prog w) A (richCompare .Lt (.int a t) (.int c u)) Q E s:=
 (PyProof.Rows.lt_int h:wpAny (model prog w) A (compareOp .Lt (.int a t) (.int c u)) Q E s)
section
open PySem.SeqAt
open PySem.AutoSeq1 (wpAny_loadPart')
open PySem.MeetsSeq PySem.MeetsSeq2 PySem.MeetsSeq3
end
section
variable {prog : Program} {w : World} {A : Around} {E : Value → Shared → Prop} {s : Shared}
def sIx(n d:Nat):Option Int->Nat
 | none=>d
 | some v=>if v<0 then (v+(n:Int)).toNat else min v.toNat n
theorem wd(n d:Nat):sIx n d none=d:=rfl
theorem qi(n d k:Nat):sIx n d (some (k:Int))=min k n:=by
 show (if (k:Int)<0 then ((k:Int)+(n:Int)).toNat else min (k:Int).toNat n)=min k n
 rw[if_neg (by omega),Int.toNat_natCast]
end
end HT
namespace L2
open PySem PySem.Spec PyProof.Rows
abbrev TO:=St->Hp->(Option Int->Hp->Prop)->Prop
def PO(X:Cx)(e:Option Expr)(t:TO):Prop:=
 ∀(pins:List (Addr×Obj)) (s:Shared) (σ:St) (H:Hp) (Q:Option Int->Hp->Prop),Inv X pins σ H s->t σ H Q->
  wpAny (model X.prog X.w) X.A (evalPart e X.env) (λu s'=>∃o H',Inv X pins σ H' s'/\IsPart u o/\Q o H') X.xe s
def yT:TO:=λ_ H Q=>Q none H
def Dl(t:TE):TO:=λσ H Q=>t σ H λx H1=>∃i,x=.int i/\Q (some i) H1
section
variable {X : Cx} {e : Expr} {te : TE} {lo hi : Option Expr} {tl th : TO} {pos p2 : Pos}
theorem jL:PO X none yT:=by
 intro pins s σ H Q I h
 rw[evalPart_none]
 exact wpAny_pure ⟨none,H,I,.none,h⟩
theorem fT(h:PE X e te):PO X (some e) (Dl te):=by
 intro pins s σ H Q I hw
 rw[evalPart_some]
 refine thn (h pins s σ H _ I hw) λu s1 ⟨x,H1,I1,r1,q1⟩=> ?_
 obtain⟨i,rfl,q⟩:=q1
 obtain⟨t,rfl⟩:=r1
 exact⟨some i,H1,I1,.int i t,q⟩
def SlR(X:Cx)(r:V->Option Int->Option Int->Hp->VK->Prop):Prop:=
 ∀(pins:List (Addr×Obj)) (s:Shared) (σ:St) (H:Hp) (x:V) (v vl vu:Value) (lo hi:Option Int) (sl:Addr) (Q:VK),Inv X pins σ H s->RelV x v->s.heap.IsSliceOf sl vl vu .none->IsPart vl lo->IsPart vu hi->r x lo hi H Q->
  ∃T id,typeLookup (.type T) "__getitem__" =pure (some (.builtin id))/\s.TypeIs v T/\wpAny (model X.prog X.w) X.A (getItem v (.ref sl)) (EP X pins σ Q) X.xe s
theorem SlR.or{r r':V->Option Int->Option Int->Hp->VK->Prop}(h:SlR X r)(h':SlR X r'):SlR X (λx lo hi H Q=>r x lo hi H Q\/r' x lo hi H Q):=by
 intro pins s σ H x v vl vu lo hi sl Q I rx hs pl pu q
 rcases q with q | q
 ·exact h pins s σ H x v vl vu lo hi sl Q I rx hs pl pu q
 ·exact h' pins s σ H x v vl vu lo hi sl Q I rx hs pl pu q
def tSl(r:V->Option Int->Option Int->Hp->VK->Prop)(te:TE)(tl th:TO):TE:=λσ H Q=>te σ H λx H1=>tl σ H1 λl H2=>th σ H2 λu H3=>r x l u H3 Q
theorem gF{r:V->Option Int->Option Int->Hp->VK->Prop}(hr:SlR X r)(he:PE X e te)(hl:PO X lo tl)(hu:PO X hi th):PE X (.Subscript e (.Slice lo hi none p2) pos) (tSl r te tl th):=by
 intro pins s σ H Q I h
 refine Subscript_ (thn (he pins s σ H _ I h) λv s1 ⟨x,H1,I1,r1,q1⟩=> ?_)
 refine wpAny_Slice (thn (hl pins s1 σ H1 _ I1 q1) λvl s2 ⟨l,H2,I2,pl,q2⟩=>thn (hu pins s2 σ H2 _ I2 q2) λvu s3 ⟨u,H3,I3,pu,q3⟩=> ?_)
 rw[evalPart_none]
 refine wpAny_pure ?_
 have I4:Inv X pins σ H3 {s3 with heap:=s3.heap.push {cls:=.type "slice",data:=.fields #[vl,vu,.none]}}:=I3.kept (t':=s3.toks) λb ob q=>Heap.get?_push_of_some _ q
 obtain⟨T,id,hT,ht,hg⟩:=hr pins {s3 with heap:=s3.heap.push {cls:=.type "slice",data:=.fields #[vl,vu,.none]}} σ H3 x v vl vu l u s3.heap.objs.size Q I4 r1 (Heap.IsSliceOf.new ..) pl pu q3
 show wpAny (model X.prog X.w) X.A (subscriptTail e (.Slice lo hi none p2) v (.ref s3.heap.objs.size)) (EP X pins σ Q) X.xe {s3 with heap:=s3.heap.push {cls:=.type "slice",data:=.fields #[vl,vu,.none]}}
 exact tail_any (ops:=[.ref s3.heap.objs.size,v]) ht hT hg (by with_unfolding_all rfl)
def tT(xs:List V)(lo hi:Option Int):List V:=(xs.drop (HT.sIx xs.length 0 lo)).take (HT.sIx xs.length xs.length hi-HT.sIx xs.length 0 lo)
theorem xV(xs:List V)(lo hi:Option Int):(tT xs lo hi).length<=xs.length:=by
 unfold tT
 rw[List.length_take,List.length_drop]
 omega
end
end L2
namespace L2
open PySem PySem.Spec PyProof.Rows
def ixN(n:Nat)(i:Int):Option Nat:=if 0<=i then (if i<n then some i.toNat else none) else if -(n:Int)<=i then some (i+n).toNat else none
def atI{α:Type}(xs:List α)(i:Int):Option α:=(ixN xs.length i).bind λj=>xs[j]?
theorem yj{n:Nat}{i:Int}{j:Nat}(h:ixN n i=some j):seqIndex? i n=some j/\j<n/\ -(n:Int)<=i/\i<n:=by
 unfold ixN at h
 by_cases h0:0<=i
 ·rw[if_pos h0] at h
  by_cases h1:i<n
  ·rw[if_pos h1] at h
   have e:i.toNat=j:=Option.some.inj h
   exact⟨by rw[seqIndex_of h0 h1,e],by omega,by omega,h1⟩
  ·rw[if_neg h1] at h;cases h
 ·rw[if_neg h0] at h
  by_cases h1: -(n:Int)<=i
  ·rw[if_pos h1] at h
   have e:(i+n).toNat=j:=Option.some.inj h
   exact⟨by rw[seqIndex_neg (by omega) h1,e],by omega,h1,by omega⟩
  ·rw[if_neg h1] at h;cases h
theorem tU{α:Type}{xs:List α}{i:Int}{v:α}(h:atI xs i=some v):∃j,seqIndex? i xs.length=some j/\xs[j]? =some v/\j<xs.length/\ -(xs.length:Int)<=i/\i<xs.length:=by
 unfold atI at h
 cases e:ixN xs.length i with
 | none=>rw[e] at h;cases h
 | some j=>
  rw[e] at h
  obtain⟨h1,h2,h3,h4⟩:=yj e
  exact⟨j,h1,h,h2,h3,h4⟩
def Em(b:Expr):Prop:=∀o i,subscripted b false o i=operate [o,i] (getItem o i)
def IxR(X:Cx)(r:R2):Prop:=
 ∀(value slice:Expr) (pins:List (Addr×Obj)) (s:Shared) (σ:St) (H:Hp) (x y:V) (v u:Value) (Q:VK),Inv X pins σ H s->RelV x v->RelV y u->r x y H Q->
  subscripted slice false v u=operate [v,u] (getItem v u)->wpAny (model X.prog X.w) X.A (subscriptTail value slice v u) (EP X pins σ Q) X.xe s
def MtR(X:Cx)(id:String)(r:V->List V->Hp->VK->Prop):Prop:=
 ∀(pins:List (Addr×Obj)) (s:Shared) (σ:St) (H:Hp) (x:V) (xs:List V) (v:Value) (us:List Value) (Q:VK),Inv X pins σ H s->RelV x v->Vals xs us->r x xs H Q->
  wpAny (model X.prog X.w) X.A (call (.builtin id) (v::us)) (EP X pins σ Q) X.xe s
section
variable {X : Cx} {a b : Expr} {ta tb : TE} {pos : Pos}
theorem IxR.or{r r':R2}(h:IxR X r)(h':IxR X r'):IxR X (λx y H Q=>r x y H Q\/r' x y H Q):=by
 intro value slice pins s σ H x y v u Q I rx ry q hs
 rcases q with q | q
 ·exact h value slice pins s σ H x y v u Q I rx ry q hs
 ·exact h' value slice pins s σ H x y v u Q I rx ry q hs
theorem MtR.or{id:String}{r r':V->List V->Hp->VK->Prop}(h:MtR X id r)(h':MtR X id r'):MtR X id (λx xs H Q=>r x xs H Q\/r' x xs H Q):=by
 intro pins s σ H x xs v us Q I rx rs q
 rcases q with q | q
 ·exact h pins s σ H x xs v us Q I rx rs q
 ·exact h' pins s σ H x xs v us Q I rx rs q
theorem cL{r:R2}(hr:IxR X r)(ha:PE X a ta)(hb:PE X b tb)(hs:Em b):PE X (.Subscript a b pos) (tOp r ta tb):=by
 intro pins s σ H Q I h
 exact Subscript_ (B0 ha hb I h λv u s2 x y H2 I2 rx ry q=>hr a b pins s2 σ H2 x y v u Q I2 rx ry q (hs _ _))
def Ge(K:PySem.W.Frag):R2:=λx y H Q=>∃p xs i v,x=.ref p/\y=.int i/\SqL K H p xs/\atI xs i=some v/\Q v H
def GL(K:PySem.W.Frag):R2:=λx y H Q=>∃p xs i v,x=.ref p/\y=.int i/\SqT K H p xs/\atI xs i=some v/\Q v H
def GJ:R2:=λx y H Q=>∃z i c,x=.str z/\y=.int i/\z.length<=sizeLine/\atI z.cps.toList i=some c/\Q (.str ⟨#[c]⟩) H
theorem Ea:IxR X (Ge X.K):=by
 intro value slice pins s σ H x y v u Q I rx ry h hs
 obtain⟨p,xs,i,z,rfl,rfl,hq,he,q⟩:=h
 cases rx
 obtain⟨t,rfl⟩:=ry
 obtain⟨its,r,pl,hz⟩:=I.list hq
 obtain⟨j,h1,h2,h3,h4,h5⟩:=tU he
 obtain⟨w,ew,rw'⟩:=r.get h2
 have hl:=r.length
 have hn:=m5
 have fin:EP X pins σ Q w s:=⟨z,H,I,rw',q⟩
 by_cases h0:0<=i
 ·have hj:i.toNat=j:=by
   rw[seqIndex_of h0 h5] at h1
   exact Option.some.inj h1
  exact item_listR pl.isList h0 (by omega) (by rw[hj];simpa using ew) fin hs
 ·have hj:(i+(its.toArray.size:Int)).toNat=j:=by
   rw[seqIndex_neg (by omega) h4] at h1
   rw[List.size_toArray,<- hl]
   exact Option.some.inj h1
  exact subscriptTail_builtinR (x:=w) pl.isList.typeIs slot_list_getitem.lookup
   (wpAny_getItem_list_neg (Q:=λr s'=>r=w/\EP X pins σ Q r s') pl.isList (by omega) (by rw[List.size_toArray] <;> omega) (by omega) (by rw[hj];simpa using ew) ⟨rfl,fin⟩) hs
theorem Gg:IxR X (GL X.K):=by
 intro value slice pins s σ H x y v u Q I rx ry h hs
 obtain⟨p,xs,i,z,rfl,rfl,hq,he,q⟩:=h
 cases rx
 obtain⟨t,rfl⟩:=ry
 obtain⟨its,r,pl,hz⟩:=I.tuple hq
 obtain⟨j,h1,h2,h3,h4,h5⟩:=tU he
 obtain⟨w,ew,rw'⟩:=r.get h2
 have hl:=r.length
 have hn:=m5
 have fin:EP X pins σ Q w s:=⟨z,H,I,rw',q⟩
 exact subscriptTail_builtinR (x:=w) pl.typeIs slot_tuple_getitem.lookup
  (getItem_tuple (j:=j) (Q:=λr s'=>r=w/\EP X pins σ Q r s') pl (by omega) (by omega) (by rw[List.size_toArray,<- hl];exact h1) (by simpa using ew) ⟨rfl,fin⟩) hs
theorem Fq:IxR X GJ:=by
 intro value slice pins s σ H x y v u Q I rx ry h hs
 obtain⟨z,i,c,rfl,rfl,hz,he,q⟩:=h
 obtain⟨t,rfl⟩:=rx
 obtain⟨t',rfl⟩:=ry
 obtain⟨j,h1,h2,h3,h4,h5⟩:=tU he
 have hl:z.cps.toList.length=z.length:=by simp[Str.length]
 rw[hl] at h1 h4 h5
 have hn:=m5
 exact tail_any (typeIs_str s z t) slot_str_getitem.lookup (getItem_str (c:=c) (by
  have e1:decide (i < -(2^63:Int))=false:=decide_eq_false (by omega)
  have e2:decide (i ≥ 2^63)=false:=decide_eq_false (by omega)
  rw[e1,e2,Bool.or_false]) (by rw[h1];simpa using h2) ⟨.str ⟨#[c]⟩,H,I.tok _,⟨_,rfl⟩,q⟩) hs
def rIx(K:PySem.W.Frag):R2:=λx y H Q=>Ge K x y H Q\/GL K x y H Q\/GJ x y H Q
theorem cc:IxR X (rIx X.K):=Ea.or (Gg.or Fq)
theorem zJ(its:List Value)(n j:Nat)(u:Value):Obj.mapSeq (·.setIfInBounds j u) {cls:=.type "list",data:=.seq its.toArray n}={cls:=.type "list",data:=.seq (its.set j u).toArray n}:=by
 simp[Obj.mapSeq]
theorem Inv.lst{pins:List (Addr×Obj)}{σ:St}{H:Hp}{s:Shared}{p:Addr}{xs:List V}(I:Inv X pins σ H s)(h:H p=some (.lst xs)):
 ∃(its:List Value) (n:Nat),Vals xs its/\s.heap.get? p=some {cls:=.type "list",data:=.seq its.toArray n}/\xs.length<=sizeLine:=by
 obtain⟨z,its,n,r,e⟩:=I.hok p _ h
 exact⟨its,n,r,e,z⟩
theorem Inv.lstUpd {pins:List (Addr×Obj)} {σ:St} {H:Hp} {s:Shared} {p:Addr} {xs ys:List V} {its its':List Value} {n n':Nat} {f:Obj->Obj} (I:Inv X pins σ H s) (h:H p=some (.lst xs))
 (ho:s.heap.get? p=some {cls:=.type "list",data:=.seq its.toArray n}) (hf:f {cls:=.type "list",data:=.seq its.toArray n}={cls:=.type "list",data:=.seq its'.toArray n'}) (r:Vals ys its') (hz:ys.length<=sizeLine) (t:Nat):
 Inv X pins σ (upd H p (.lst ys)) {s with heap:=s.heap.update p f,toks:=t}:=by
 have e:(s.heap.update p f).get? p=some {cls:=.type "list",data:=.seq its'.toArray n'}:=by
  rw[Heap.get?_update_self f ho (by rw[hf] <;> rfl),hf]
 refine I.write (x:=p) (e:=p) (by rw[h];trivial) (.inl rfl) (λb u hb q=>(Heap.get?_update_other _ _ (Ne.symm hb)).trans q) ⟨_,e⟩ ?_
 exact⟨hz,its',n',r,e⟩
def DC:V->V->V->Hp->(Hp->Prop)->Prop:=λo i v H Q=>∃p xs k j,o=.ref p/\i=.int k/\H p=some (.lst xs)/\ixN xs.length k=some j/\Q (upd H p (.lst (xs.set j v)))
theorem set_list:FJ X DC:=by
 intro pins s σ H o i v ov iv u Q I ro ri rv h
 obtain⟨p,xs,k,j,rfl,rfl,hp,hj,q⟩:=h
 cases ro
 obtain⟨t,rfl⟩:=ri
 obtain⟨its,n,r,ho,hz⟩:=I.lst hp
 obtain⟨h1,h2,h3,h4⟩:=yj hj
 have hl:=r.length
 have hn:=m5
 have I':Inv X pins σ (upd H p (.lst (xs.set j v))) {s with heap:=s.heap.update p (Obj.mapSeq (·.setIfInBounds j u))}:=
  I.lstUpd hp ho (zJ its n j u) (r.set rv j) (by rw[List.length_set];exact hz) s.toks
 by_cases h0:0<=k
 ·have hk:k.toNat=j:=by
   rw[seqIndex_of h0 h4] at h1
   exact Option.some.inj h1
  exact PySem.W.ki_setAt ho h0 (by omega) (by rw[List.size_toArray,<- hl];exact h4) (by rw[hk];exact⟨_,I',q⟩)
 ·have hk:(k+(its.toArray.size:Int)).toNat=j:=by
   rw[seqIndex_neg (by omega) h3] at h1
   rw[List.size_toArray,<- hl]
   exact Option.some.inj h1
  exact PySem.W.ki_setBack ho (by omega) (by rw[List.size_toArray,<- hl];exact h3) (by omega) (by rw[hk];exact⟨_,I',q⟩)
theorem wZ(lo hi:Option Int)(n:Nat):(sliceBounds lo hi none n).1=((HT.sIx n 0 lo:Nat):Int)/\(sliceBounds lo hi none n).2.1=((HT.sIx n n hi:Nat):Int)/\(sliceBounds lo hi none n).2.2=1:=by
 refine⟨?_, ?_,rfl⟩
 ·cases lo with
  | none=>simp[sliceBounds,HT.sIx]
  | some i=>
   simp only[sliceBounds,HT.sIx,Option.getD_none,show (1:Int)>0 by decide,if_true]
   by_cases h:i<0
   ·simp only[h,if_true] <;> omega
   ·simp only[h,if_false] <;> omega
 ·cases hi with
  | none=>simp[sliceBounds,HT.sIx]
  | some i=>
   simp only[sliceBounds,HT.sIx,Option.getD_none,show (1:Int)>0 by decide,if_true]
   by_cases h:i<0
   ·simp only[h,if_true] <;> omega
   ·simp only[h,if_false] <;> omega
theorem uV(its:List Value)(lo hi:Option Int):slicePick its.toArray lo hi none=((its.drop (HT.sIx its.length 0 lo)).take (HT.sIx its.length its.length hi-HT.sIx its.length 0 lo)).toArray:=by
 obtain⟨h1,h2,h3⟩:=wZ lo hi its.toArray.size
 unfold slicePick
 rw[h1,h2,h3]
 simp only[sliceRange_one,pick_run,List.size_toArray] <;> rfl
def FR(K:PySem.W.Frag):V->Option Int->Option Int->Hp->VK->Prop:=λx lo hi H Q=>∃a xs,x=.ref a/\SqL K H a xs/\∀p,H p=none->Q (.ref p) (upd H p (.lst (tT xs lo hi)))
theorem ic:SlR X (FR X.K):=by
 intro pins s σ H x v vl vu lo hi sl Q I rx hs pl pu h
 obtain⟨a,xs,rfl,hx,q⟩:=h
 cases rx
 obtain⟨its,r,ht,hz⟩:=I.list hx
 have hlen:=r.length
 refine⟨"list",_,slot_list_getitem.lookup,ht.isList.typeIs, ?_⟩
 refine wpAny_getItem_list_slice ht.isList hs pl pu .none (by simp) ?_ (by rw[List.size_toArray] <;> omega)
 rw[uV,<- hlen]
 refine⟨.ref s.heap.objs.size,_,I.laid (t':=s.toks) (o:=.lst (tT xs lo hi)) (λb ob q=>Heap.get?_push_of_some _ q) (Nat.le_refl _) ?_,rfl,q _ (I.hok.fresh (Nat.le_refl _))⟩
 exact⟨Nat.le_trans (xV xs lo hi) hz,_,0,(r.drop (HT.sIx xs.length 0 lo)).take (HT.sIx xs.length xs.length hi-HT.sIx xs.length 0 lo),Heap.get?_push_size _ rfl⟩
theorem fP.or{f:Value}{r r':List V->Hp->VK->Prop}(h:fP X f r)(h':fP X f r'):fP X f (λxs H Q=>r xs H Q\/r' xs H Q):=by
 intro pins s σ H xs us Q I rs q
 rcases q with q | q
 ·exact h pins s σ H xs us Q I rs q
 ·exact h' pins s σ H xs us Q I rs q
theorem gc:fP X (.type "list") (λxs H Q=>∃p ys,xs=[.ref p]/\(SqL X.K H p ys\/SqT X.K H p ys)/\∀l,H l=none->Q (.ref l) (upd H l (.lst ys))):=by
 intro pins s σ H xs us Q I r h
 obtain⟨p,ys,rfl,hq,q⟩:=h
 obtain⟨u,rfl,rx⟩:=vals1 r
 cases rx
 have fin:∀(its:List Value),Vals ys its->ys.length<=sizeLine->∀(h':Heap) (c':Nat),(∀b o',s.heap.get? b=some o'->h'.get? b=some o')->
  h'.get? s.heap.objs.size=some {cls:=.type "list",dict:=none,data:=.seq its.toArray c',slots:= #[]}->EP X pins σ Q (.ref s.heap.objs.size) {s with heap:=h'}:=λits r' hz h' c' kp e=>
  ⟨.ref s.heap.objs.size,_,I.laid (t':=s.toks) kp (Nat.le_refl _) (show fD X.prog X.w _ h' _ (.lst ys) from ⟨hz,its,c',r',e⟩),rfl,q _ (I.hok.fresh (Nat.le_refl _))⟩
 rcases hq with hq | hq
 ·obtain⟨its,r',pl,hz⟩:=I.list hq
  have hlen:=r'.length
  obtain⟨o,ho,hc,n,hd⟩:=pl.isList
  exact call_list_seq p (.inl rfl) ho hc hd (λh' c' kp e=>fin its r' hz h' c' kp e) (by simp only[List.size_toArray] <;> omega)
 ·obtain⟨its,r',pl,hz⟩:=I.tuple hq
  have hlen:=r'.length
  obtain⟨o,ho,hc,n,hd⟩:=pl
  exact call_list_seq p (.inr rfl) ho hc hd (λh' c' kp e=>fin its r' hz h' c' kp e) (by simp only[List.size_toArray] <;> omega)
def tyV(K:PySem.W.Frag)(T:String)(x:V)(H:Hp):Prop:=match x with
 | .str _=>T="str"
 | .int _=>T="int"
 | .ref p=>(T="list" /\∃xs,SqL K H p xs)\/(T="tuple" /\∃o,K.lookup p=some o/\o.cls=.type "tuple" /\o.dict=none)\/
  (T="dict" /\((∃kvs,H p=some (.dK kvs))\/∃kvs,H p=some (.dT kvs)))\/(T="set" /\∃S n,H p=some (.set S n))
 | _=>False
theorem Gf{pins:List (Addr×Obj)}{σ:St}{H:Hp}{s:Shared}{T:String}{x:V}{v:Value}(I:Inv X pins σ H s)(r:RelV x v)(ty:tyV X.K T x H):
 s.TypeIs v T/\∀a,v=.ref a->∃ob,s.heap.get? a=some ob/\ob.dict=none:=by
 cases x with
 | str z=>
  obtain⟨t,rfl⟩:=r
  cases (show T="str" from ty)
  exact⟨typeIs_str s z t,λ_ e=>nomatch e⟩
 | int i=>
  obtain⟨t,rfl⟩:=r
  cases (show T="int" from ty)
  exact⟨typeIs_int s i t,λ_ e=>nomatch e⟩
 | ref p=>
  cases r
  rcases ty with⟨rfl,xs,hq⟩ | ⟨rfl,o,hk,hc,hd⟩ | ⟨rfl,hk⟩ | ⟨rfl,S,n,hk⟩
  ·obtain⟨its,_,pl,_⟩:=I.list hq
   refine⟨pl.isList.typeIs,λa e=> ?_⟩
   cases e
   obtain⟨o,n,e,c,hd,_⟩:=pl
   exact⟨o,e,hd⟩
  ·refine⟨⟨o,I.kIn p o hk,hc⟩,λa e=> ?_⟩
   cases e
   exact⟨o,I.kIn _ o hk,hd⟩
  ·have z:∃o,s.heap.get? p=some o/\o.ExactDict:=by
    rcases hk with⟨kvs,hk⟩ | ⟨kvs,hk⟩
    ·obtain⟨_,_,_,_,o,_,_,e,ex,_⟩:=I.hok p _ hk
     exact⟨o,e,ex⟩
    ·obtain⟨_,_,_,_,o,_,_,e,ex,_⟩:=I.hok p _ hk
     exact⟨o,e,ex⟩
   obtain⟨o,e,ex⟩:=z
   refine⟨⟨o,e,ex.1⟩,λa e2=> ?_⟩
   cases e2
   exact⟨o,e,ex.2.1⟩
  ·obtain⟨o,_,_,_,e,ex,_⟩:=I.hok p _ hk
   refine⟨⟨o,e,ex.1⟩,λa e2=> ?_⟩
   cases e2
   exact⟨o,e,ex.2.1⟩
 | _=>exact False.elim ty
def tBM(K:PySem.W.Frag)(T:String)(r:V->List V->Hp->VK->Prop)(to:TE)(t:TA):TE:=λσ H Q=>to σ H λx H1=>tyV K T x H1/\t σ H1 λxs H2=>r x xs H2 Q
variable {o e : Expr} {es : List Expr} {to : TE} {t : TA} {name : Str} {apos cpos : Pos} {T id : String} {r : V → List V → Hp → VK → Prop}
theorem vk (pa:PlainAttrs T) (slot:Slot T name id) (hty:typeOf (.builtin id)=pure (.type "method_descriptor")) (hm:MtR X id r) (ho:PE X o to) (ha:PA X (e::es) t)
 (hbase:attributeBase o name X.env (eval o X.env)=eval o X.env:=by rfl)
 (hfew:((backTo cpos (starEach (e::es) X.env)).all (λx=> !x.1)&&(backToKw cpos (keywordEach [] X.env)).all (λx=>x.1.isSome)
  &&decide ((e::es).length+([]:List Keyword).length+(if ([]:List Keyword).isEmpty then 0 else 1)<30))=true:=by rfl)
 (hline:(apos.endLine == cpos.line)=true:=by rfl) (hs:starEach (e::es) X.env=(false,eval e X.env)::starEach es X.env:=by rfl) (hplain:(backTo cpos (starEach es X.env)).any (·.1)=false:=by rfl):
 PE X (.Call (.Attribute o name apos) (e::es) [] cpos) (tBM X.K T r to t):=by
 intro pins s σ H Q I h
 refine wpAny_Call_method_late hbase hfew hline rfl (thn (ho pins s σ H _ I h) λv s1 ⟨x,H1,I1,r1,ty,q1⟩=> ?_)
 obtain⟨h1,h2⟩:=Gf I1 r1 ty
 refine⟨T,id,pa,slot,hty,h1,h2, ?_⟩
 have hA:=ha cpos pins s1 σ H1 _ I1 q1
 rw[hs] at hA ⊢
 refine Calls.callWith_builtin (by show (false||(backTo cpos (starEach es X.env)).any (·.1))=false;rw[hplain] <;> rfl) (Calls.evalArgs_plain ?_)
 exact thn hA λus s2 ⟨vs,H2,I2,r2,q2⟩=>hm pins s2 σ H2 x vs v us Q I2 r1 r2 q2
end
end L2
namespace L2
open PySem PySem.Spec PyProof.Rows
def MtM(X:Cx)(id:String)(r:V->List V->Hp->VK->Prop):Prop:=
 ∀(pins:List (Addr×Obj)) (s:Shared) (σ:St) (H:Hp) (x:V) (xs:List V) (v:Value) (us:List Value) (Q:VK),Inv X pins σ H s->RelV x v->Vals xs us->r x xs H Q->
  wpAny (model X.prog X.w) X.A (call (.builtin id) (v::us)) (EP X pins σ Q) X.xe s
theorem Vals.one:∀{x:V} {us:List Value},Vals [x] us->∃u,us=[u]/\RelV x u
 | _,_,.cons r .nil=>⟨_,rfl,r⟩
theorem Vals.two:∀{x y:V} {us:List Value},Vals [x,y] us->∃u v,us=[u,v]/\RelV x u/\RelV y v
 | _,_,_,.cons r (.cons q .nil)=>⟨_,_,rfl,r,q⟩
theorem Vals.zero:∀{us:List Value},Vals [] us->us=[]
 | _,.nil=>rfl
theorem Vals.eraseIdx:∀{xs:List V} {us:List Value} (i:Nat),Vals xs us->Vals (xs.eraseIdx i) (us.eraseIdx i)
 | _,_,_,.nil=>.nil
 | _,_,0,.cons _ t=>t
 | _,_,i+1,.cons r t=>.cons r (Vals.eraseIdx i t)
theorem Vals.rep{xs:List V}{us:List Value}(h:Vals xs us):∀k:Nat,Vals (List.replicate k xs).flatten (List.replicate k us).flatten
 | 0=>.nil
 | k+1=>by
  rw[List.replicate_succ,List.replicate_succ,List.flatten_cons,List.flatten_cons]
  exact Vals.append h (Vals.rep h k)
theorem foldl_rep(its:List Value):∀(k:Nat) (acc:List Value),
 List.foldl (λx1 x2=>x1++x2) acc.toArray (List.replicate k its.toArray)=(acc++(List.replicate k its).flatten).toArray
 | 0,acc=>by simp
 | k+1,acc=>by
  have e:acc.toArray++its.toArray=(acc++its).toArray:=by simp
  have e2:(acc++its)++(List.replicate k its).flatten=acc++(List.replicate (k+1) its).flatten:=by
   rw[List.replicate_succ,List.flatten_cons,List.append_assoc]
  rw[<- e2,<- foldl_rep its k (acc++its),<- e,List.replicate_succ,List.foldl_cons]
section
variable {X : Cx} {pins : List (Addr × Obj)} {σ : St} {H : Hp} {s : Shared} {l b : Addr} {xs ys zs : List V}
theorem Inv.lset {its its':List Value} {n:Nat} {f:Array Value->Array Value} {t':Nat} (I:Inv X pins σ H s) (hH:H l=some (.lst xs))
 (e:s.heap.get? l=some {cls:=.type "list",data:=.seq its.toArray n}) (hf:f its.toArray=its'.toArray) (hv:Vals ys its') (hz:ys.length<=sizeLine):
 Inv X pins σ (upd H l (.lst ys)) {s with heap:=s.heap.update l (Obj.mapSeq f),toks:=t'}:=by
 have q:=PySem.IsL.update e f
 rw[hf] at q
 refine I.write (x:=l) (e:=l) (by rw[hH];exact trivial) (.inl rfl) (λb' u hb hu=>(Heap.get?_update_other s.heap (Obj.mapSeq f) (Ne.symm hb)).trans hu) ⟨_,q⟩ ?_
 exact⟨hz,its',_,hv,q⟩
theorem Inv.lnew{its:List Value}{t':Nat}(I:Inv X pins σ H s)(hv:Vals ys its)(hz:ys.length<=sizeLine):
 Inv X pins σ (upd H s.heap.objs.size (.lst ys)) {s with heap:=s.heap.push {cls:=.type "list",data:=.seq its.toArray},toks:=t'}:=
 I.laid (λ_ _ q=>Heap.get?_push_of_some _ q) (Nat.le_refl _) ⟨hz,its,0,hv,Heap.get?_push_size _ rfl⟩
theorem Inv.fresh(I:Inv X pins σ H s):H s.heap.objs.size=none:=I.hok.fresh (Nat.le_refl _)
theorem Inv.lstM(I:Inv X pins σ H s)(hH:H l=some (.lst xs)):xs.length<=sizeLine/\∃(its:List Value) (n:Nat),Vals xs its/\xs.length=its.length/\s.heap.get? l=some {cls:=.type "list",data:=.seq its.toArray n}:=by
 obtain⟨z,its,n,r,e⟩:=I.hok l _ hH
 exact⟨z,its,n,r,r.length,e⟩
theorem CB{n:Nat}(h:n<=sizeLine):Builtin.List.listTooLong n=false:=by
 unfold Builtin.List.listTooLong
 exact decide_eq_false (by omega)
end
section
variable {X : Cx}
def yq:V->List V->Hp->VK->Prop:=λx vs H Q=>∃l xs y,x=.ref l/\vs=[y]/\H l=some (.lst xs)/\xs.length<sizeLine/\Q .non (upd H l (.lst (xs++[y])))
theorem j7:MtM X "list.append" yq:=by
 intro pins s σ H x vs v us Q I rx rv h
 obtain⟨l,xs,y,rfl,rfl,hH,hz,q⟩:=h
 cases rx
 obtain⟨u,rfl,ru⟩:=rv.one
 obtain⟨z,its,n,r,hl,e⟩:=I.lstM hH
 refine call_meets F.slot_list_append ⟨_,e,rfl⟩ F.entry_list_append (F.args_list_append_2 _ _) (PySem.list_append l its.toArray n u (by rw[List.size_toArray];omega)) ⟨e, ?_⟩
 refine⟨.non,_,I.lset (its':=its++[u]) hH e (by simp) (r.append (.cons ru .nil)) ?_,rfl,q⟩
 rw[List.length_append,List.length_singleton]
 omega
def Cg:R2:=λx y H Q=>∃l k xs,x=.ref l/\y=.int k/\H l=some (.lst xs)/\ -(2^63)<=k/\k<2^63/\xs.length*k.toNat<=sizeLine/\
 ∀p,H p=none->Q (.ref p) (upd H p (.lst (List.replicate k.toNat xs).flatten))
theorem len_rep{α:Type}(xs:List α)(k:Nat):(List.replicate k xs).flatten.length=k*xs.length:=by
 induction k with
 | zero=>simp
 | succ k ih=>rw[List.replicate_succ,List.flatten_cons,List.length_append,ih,Nat.succ_mul,Nat.add_comm]
theorem GK:OpR X (binaryOp .Mult) Cg:=by
 intro pins s σ H x y v u Q I rx ry h
 obtain⟨l,k,xs,rfl,rfl,hH,h1,h2,hz,q⟩:=h
 cases rx
 obtain⟨t,rfl⟩:=ry
 obtain⟨z,its,n,r,hl,e⟩:=I.lstM hH
 have hlen:its.toArray.size*k.toNat<=sizeLine:=by rw[List.size_toArray,<- hl];exact hz
 have hcap:¬its.toArray.size*k.toNat>(2^63-1)/8:=by
  have:(sizeLine:Nat)<=(2^63-1)/8:=by decide
  omega
 have hfit:¬(!Builtin.List.listFitsIndex k)=true:=by
  rw[fitsIndex_both h1 h2]
  exact Bool.false_ne_true
 have hlong:¬Builtin.List.listTooLong (its.toArray.size*k.toNat)=true:=by
  rw[CB hlen]
  exact Bool.false_ne_true
 have hnew:List.foldl (λx1 x2=>x1++x2) #[] (List.replicate (if its.toArray.isEmpty=true then 0 else k.toNat) its.toArray)=(List.replicate k.toNat its).flatten.toArray:=by
  have f0:∀m:Nat,List.foldl (λx1 x2=>x1++x2) #[] (List.replicate m its.toArray)=(List.replicate m its).flatten.toArray:=λm=>by
   have:=foldl_rep its m []
   rw[List.nil_append] at this
   exact this
  rw[f0]
  cases its with
  | nil=>simp
  | cons a r'=>rw[if_neg (by simp)]
 refine wpAny_binaryOp_repeat_ref (T:="list") (U:="int") (by decide) ⟨_,e,rfl⟩ (λs'=>typeIs_int s' k t) noFill_list_mul F.fills_int_mul F.slot_int_rmul repeat_list F.slot_int_index.lookup
  (call_meets F.slot_int_rmul (typeIs_int s k t) F.entry_int_rmul (F.args_int_rmul_2 _ _) (int___rmul___int_list k t l its.toArray n)
   ⟨e,rfl,⟨_,e,rfl⟩,call_meets F.slot_list_mul ⟨_,e,rfl⟩ F.entry_list_mul (F.args_list_mul_2 _ _) (AutoListH.list___mul___list_int_3 l its.toArray n k t hfit hcap hlong) ⟨e, ?_⟩⟩)
 rw[hnew]
 exact⟨.ref _,_,I.lnew (t':=s.toks) (r.rep k.toNat) (by rw[len_rep,Nat.mul_comm];exact hz),rfl,q _ I.fresh⟩
end
section
variable {prog : Program} {w : World} {A : Around} {E : Value → Shared → Prop} {s : Shared}
end
section
variable {X : Cx}
end
end L2
namespace Att
open PySem PySem.W PySem.Calls PyProof.Rows
theorem sf{P:Params}{h:Heap}:∀(ns:List Int) (vs:List Value),WellAll P h vs (ns.map WData.int)->IntsAre vs ns:=by
 intro ns
 induction ns with
 | nil=>
  intro vs w
  rw[List.map_nil] at w
  cases w
  exact .nil
 | cons n ns ih=>
  intro vs w
  rw[List.map_cons] at w
  cases w with
  | cons a b=>
   cases a
   exact .cons _ _ (ih _ b)
theorem Ao {l:OpenLaw} {n:Nat} (hn:l.most=some n) {P:Params} {h:Heap} {args:List WData} {vals:List Value}
 (hpre:l.row.toRowW.claim.pre args=true) (hwl:WellAll P h vals args):
 ∃a vs ns,vals=[Value.ref a]/\args=[WData.list (ns.map WData.int)]/\h.get? a=some {cls:=.type "list",data:=.seq vs.toArray}/\IntsAre vs ns/\ns.length<=n:=by
 have hsh:WShape.hasAll [] args [.list .int]=true:=(pre_splitW hpre).1
 have hc:l.pre.holds [] {args:=args}=true:=(pre_splitW hpre).2
 obtain⟨d,r,rfl,h1,h2⟩:=hasAllW_cons hsh
 obtain rfl:=hasAllW_nil h2
 obtain⟨xs,rfl,h3⟩:=hasW_list h1
 obtain⟨ns,rfl⟩:=items_int h3
 have hlen:ns.length<=n:=by
  unfold OpenLaw.pre at hc
  have h4:(WTm.not (.lt (.lit (.int (n:Int))) (.len (.arg 0)))).holds [] {args:=[.list (ns.map .int)]}=true:=by
   have h4:=(holds_andW hc).1
   rw[hn] at h4
   exact h4
  have h5:=condW_of h4 (w_not (w_lt w_lit (w_len_list (w_arg rfl))))
  rw[List.length_map] at h5
  refine Nat.le_of_not_lt λq=> ?_
  have q':(n:Int)<((ns.length:Nat):Int):=by omega
  first
   | (rw[decide_eq_true q'] at h5;exact absurd h5 (by decide))
   | (simp at h5;omega)
 cases hwl with
 | cons w1 w2=>
  cases w2
  cases w1 with
  | list ho hall=>exact⟨_,_,ns,rfl,rfl,ho,sf ns _ hall,hlen⟩
theorem z5(l:OpenLaw)(args:List WData):l.row.toRowW.claim.post args (.bool true) args=true:=
 postW_of (r:=l.row.toRowW) (X:=(true == true))
  (show WShape.has [] (.bool true) .bool=true by first | rfl | decide | simp[WShape.has,WShape.arms,WShape.armsAll])
  (show (WTm.eq .res (.lit (.bool true))).value [] {args:=args,res:=some (.bool true),after:=args}=some (.bool (true == true)) from w_eq_bool (w_res rfl) w_lit) rfl
theorem xD {l:OpenLaw} {n:Nat} {q:Program} {loose:List Str} {XP:(Str->Option Value)->Heap->Prop} {YP:World->Heap->Prop} {d:DefRec}
 (hn:l.most=some n) (hdf:d.params.defaults=[])
 (call:∀(w:World) (s₀ s₁:Shared) (mg mb:Str->Option Value) (fa:Addr) (o:Obj) (pm cd doc:Value) (a:Addr) (vs:List Value) (ns:List Int),
  Ground q loose [] XP w s₀ mg mb s₁.heap->YP w s₁.heap->
  s₁.heap.get? fa=some o->o.data=.func (docDef d.name d.params d.body d.scope pm cd doc)->s₁.heap.CodeRec cd d.name->mg d.name=some (.ref fa)->
  s₁.heap.get? a=some {cls:=.type "list",data:=.seq vs.toArray}->IntsAre vs ns->ns.length<=n->s₁.gens= #[]->
  codeAny (model l.prog w) callerA (.call (.ref fa) ⟨[.ref a],[]⟩) (λr s'=>r=.ok (.ret (.bool true))/\OldK s₁.heap s'.heap/\s'.os=s₁.os/\AllBare s'.gens) s₁):
 WalkO q loose XP YP l.row.toRowW d [] (λf vs=>PySem.call f vs):=by
 intro w s₀ s₁ mg mb G Y fa o pm cd doc dV kV ho hd hcd hD hmg hg args vals as hpre hlay hrd hwl hlo
 obtain rfl:dV=.none:=Dflts.none hD hdf
 obtain rfl:kV=.none:=Dflts.noKw hD
 obtain⟨a,vs,ns,rfl,rfl,hobj,hints,hlen⟩:=Ao hn hpre hwl
 refine enter_call (codeAny_mono (call w s₀ s₁ mg mb fa o pm cd doc a vs ns G Y ho (fd_plain hd) hcd hmg hobj hints hlen hg) λr s' hq=> ?_)
 obtain⟨rfl,h2,h3,h4⟩:=hq
 exact⟨.inl ⟨.bool true,.bool true,[],rfl,λ_=>rfl,.bool true,z5 l _,λ_=>⟨List.Pairwise.nil,λ_ hm=>(nomatch hm)⟩⟩,h2,h3,h4⟩
section
variable {prog : Program} {w : World} {A : Around} {E : Value → Shared → Prop} {s : Shared} {K : Frag}
end
end Att
namespace L2
open PySem PySem.Spec PyProof.Rows
theorem uO:∀{vs:List Value} {ns:List Int},IntsAre vs ns->Vals (ns.map V.int) vs
 | _,_,.nil=>.nil
 | _,_,.cons n t h=>.cons ⟨t,rfl⟩ (uO h)
def zO(H:Hp):Prop:=∀b,H b=none\/∃o xs,H b=some (.frz o (.lst xs))
theorem CD {P:Program} {w:World} {K:PySem.W.Frag} {mg mb:Str->Option Value} {CX:CXT} {k:Nat} {fa a:Addr} {fd:FuncData} {x:Str} {sp:Sp} {s₁:Shared} {vs:List Value} {ns:List Int}
 (KX:K.In s₁.heap) (hns:s₁.heap.Ns mainGlobals mg) (hb:s₁.heap.Ns builtinsNs mb) (hbb:∀x:Str,x≠"__name__" ->mb x=bootBuiltins x) (hlim:s₁.heap.NoLimit) (hseer:s₁.heap.NoSeer) (hg:s₁.gens= #[])
 (ha:s₁.heap.get? a=some {cls:=.type "list",data:=.seq vs.toArray}) (hi:IntsAre vs ns) (hl:ns.length<=sizeLine) (hr:dP k callerA)
 (F:∀base:Heap,K.In base->base.Ns mainGlobals mg->fV P w K mg base CX k fa fd [x] sp) (hbind:∀(s:Shared) (u:Value),BindsTo s fd ⟨[u],[]⟩ [(x,u)])
 (hsp:∀H:Hp,zO H->SqL K H a (ns.map V.int)->sp [.ref a] H (λv _=>v=.bl true) λ_ _ _=>False)
 (hCX:∀H e s',CX [] H s₁ (λ_ _ _=>False) e s'->False):
 codeAny (model P w) callerA (.call (.ref fa) ⟨[.ref a],[]⟩) (λr s'=>r=.ok (.ret (.bool true))/\OldK s₁.heap s'.heap/\s'.os=s₁.os/\AllBare s'.gens) s₁:=by
 have rv:=uO hi
 have lenV:=hi.length
 have core:∀H:Hp,zO H->SqL K H a (ns.map V.int)->HOk P w H s₁.heap->(∀b,H b≠none->b=a)->(H a≠none->K.lookup a=none)->
  codeAny (model P w) callerA (.call (.ref fa) ⟨[.ref a],[]⟩) (λr s'=>r=.ok (.ret (.bool true))/\OldK s₁.heap s'.heap/\s'.os=s₁.os/\AllBare s'.gens) s₁:=by
  intro H hO hS hok hA hK
  have base_of:∀{b:Addr} {o:Obj},s₁.heap.get? b=some o->H b=none->(mw s₁.heap H).get? b=some o:=λe n=>BX e n
  have noA:∀{b:Addr} {o:Obj} {es:Array DictEntry} {ep:Nat},s₁.heap.get? b=some o->o.data=.dict es ep->H b=none:=λ{b o es ep} e d=>by
   cases q:H b with
   | none=>rfl
   | some u=>
    have e':b=a:=hA b (by rw[q];simp)
    subst e'
    rw[ha] at e;cases e
    have d':Data.seq vs.toArray _=Data.dict es ep:=d
    cases d'
  have nsK:∀{b:Addr} {m:Str->Option Value},s₁.heap.Ns b m->(mw s₁.heap H).Ns b m:=λ{b m} ⟨o,es,ep,e,d,r⟩=>⟨o,es,ep,base_of e (noA e d),d,r⟩
  have hKb:K.In (mw s₁.heap H):=λb o e=>base_of (KX b o e) (by
   cases q:H b with
   | none=>rfl
   | some u=>
    have e':b=a:=hA b (by rw[q];simp)
    subst e'
    rw[hK (by rw[q];simp)] at e;cases e)
  have noM:∀{b:Addr} {o:Obj},s₁.heap.get? b=some o->o.cls=.type "module" ->H b=none:=λ{b o} e d=>by
   cases q:H b with
   | none=>rfl
   | some u=>
    have e':b=a:=hA b (by rw[q];simp)
    subst e'
    rw[ha] at e;cases e
    exact absurd (show Value.type "list" =Value.type "module" from d) (by decide)
  have hN:(mw s₁.heap H).NoSeer:=⟨let ⟨mc,x,y⟩:=hseer.statics;⟨mc,nsK x,y⟩,let ⟨mc,x,y⟩:=hseer.mods;⟨mc,nsK x,y⟩,let ⟨mc,x,y⟩:=hseer.imp;⟨mc,nsK x,y⟩,let ⟨mg',bm,ob,x,y,z,u,v⟩:=hseer.main;⟨mg',bm,ob,nsK x,y,base_of z (noM z u),u,v⟩⟩
  have hM:Mod K mg (mw s₁.heap H):=⟨hKb,nsK hns,⟨mb,nsK hb,hbb⟩,(let ⟨mc,h1,h2⟩:=hlim;⟨mc,nsK h1,h2⟩),hN⟩
  have e0:rQ P w K mg (mw s₁.heap H) callerA [] s₁ H:=⟨rfl,hM,λb o e=>Ej e,Nat.le_of_eq (Am _ _),trivial,λb hb=>absurd (show b∈([]:List Addr) from hb) (by simp),hok,.of_eq hg⟩
  refine codeAny_mono ((F _ hKb (nsK hns)).run callerA [] s₁ H ⟨[.ref a],[]⟩ [.ref a] [.ref a] _ _ hr e0 (hbind s₁ (.ref a)) (.cons rfl .nil) (hsp H hO hS)) λr s' h=> ?_
  cases r with
  | error e=>exact(hCX H e s' h).elim
  | ok fl=>
   cases fl with
   | next=>exact False.elim h
   | brk=>exact False.elim h
   | cont=>exact False.elim h
   | ret u=>
    obtain⟨v,H',os,bare,un,hok',r',q⟩:=h
    have q':v=.bl true:=q
    subst q'
    obtain rfl:u=Value.bool true:=r'
    refine⟨rfl,OldK.of_keep λb o e=> ?_,os,bare⟩
    cases q:H b with
    | none=>exact un.keep b o e q (by intro z;exact absurd (show b∈([]:List Addr) from z) (by simp)) (by simp)
    | some u=>
     rcases hO b with z | ⟨ob,xs,z⟩
     ·rw[q] at z;cases z
     ·have z2:=un.frzs b ob _ z
      obtain⟨e1,_⟩:=hok b _ z
      obtain⟨e2,_⟩:=hok' b _ z2
      rw[e] at e1;cases e1
      exact e2
 cases hk:K.lookup a with
 | some o=>
  have e:=KX a o hk
  rw[ha] at e
  cases e
  refine core (λ_=>none) (λ_=>.inl rfl) (.inr ⟨_,vs.toArray,_,hk,rfl,rfl,rfl,by rw[List.size_toArray,lenV];exact hl,by simpa using rv⟩) (λb u z=>by have z':(none:Option HO)=some u:=z;cases z') (λb z=>absurd rfl z) λz=>absurd rfl z
 | none=>
  refine core (λb=>if b=a then some (.frz {cls:=.type "list",data:=.seq vs.toArray} (.lst (ns.map V.int))) else none) (λb=> ?_) (.inl (.inr ⟨{cls:=.type "list",data:=.seq vs.toArray},if_pos rfl⟩)) (λb u z=> ?_) (λb z=> ?_) λ_=>hk
  ·by_cases hb:b=a
   ·exact .inr ⟨_,_,if_pos hb⟩
   ·exact .inl (if_neg hb)
  ·by_cases hb:b=a
   ·have z':=(if_pos hb).symm.trans z
    cases z'
    subst hb
    exact⟨ha,by rw[List.length_map];exact hl,vs,_,rv,ha⟩
   ·have z':=(if_neg hb).symm.trans z
    cases z'
  ·by_cases hb:b=a
   ·exact hb
   ·exact absurd (if_neg hb) z
end L2
namespace L2
open PySem PySem.Spec PyProof.Rows
theorem D2 {l:PySem.W.OpenLaw} {n k:Nat} {q:Program} {loose:List Str} {XP:(Str->Option Value)->Heap->Prop} {YP:World->Heap->Prop} {d:DefRec} {K:Params->PySem.W.Frag} {CX:World->CXT} {sp:World->Sp} {x:Str}
 (hn:l.most=some n) (hn2:n<=sizeLine) (hdf:d.params.defaults=[]) (hr:dP k callerA) (hi:importsNone q=true)
 (hY:∀(w:World) (h:Heap),YP w h->(K w.params).In h)
 (F:∀(w:World) (mg:Str->Option Value) (fa:Addr) (h:Heap),(K w.params).In h->h.Ns mainGlobals mg->mg d.name=some (.ref fa)->
  ∃fd:FuncData,(∀(s:Shared) (u:Value),BindsTo s fd ⟨[u],[]⟩ [(x,u)])/\
   ∀base:Heap,(K w.params).In base->base.Ns mainGlobals mg->fV l.prog w (K w.params) mg base (CX w) k fa fd [x] (sp w))
 (hsp:∀(w:World) (H:Hp) (a:Addr) (ns:List Int),ns.length<=n->zO H->SqL (K w.params) H a (ns.map V.int)->sp w [.ref a] H (λv _=>v=.bl true) λ_ _ _=>False)
 (hCX:∀(w:World) (H:Hp) (s:Shared) (e:Value) (s':Shared),CX w [] H s (λ_ _ _=>False) e s'->False):
 PySem.W.WalkO q loose XP YP l.row.toRowW d [] (λf vs=>PySem.call f vs):=by
 refine Att.xD hn hdf λw s₀ s₁ mg mb fa o pm cd doc a vs ns G Y ho hd hcd hmg hobj hints hlen hg=> ?_
 have KX:=hY w _ Y
 obtain⟨fd,hb,hF⟩:=F w mg fa _ KX G.T.g hmg
 exact CD KX G.T.g G.T.b G.T.builtins G.T.nolimit (G.T.seer hi) hg hobj hints (Nat.le_trans hlen hn2) hr hF hb (λH hO hS=>hsp w H a ns hlen hO hS) λH e s'=>hCX w H s₁ e s'
end L2
namespace L2
open PySem PySem.Spec PyProof.Rows
def bj(s:Stmt):Arguments:=match s with
 | .FunctionDef _ a _ _ _ _ _ _ _ _=>a
 | _=>{posonlyargs:=[],args:=[],vararg:=none,kwonlyargs:=[],kw_defaults:=[],kwarg:=none,defaults:=[]}
def aW(s:Stmt):List Stmt:=match s with
 | .FunctionDef _ _ b _ _ _ _ _ _ _=>b
 | _=>[]
def aD(s:Stmt):Scope:=match s with
 | .FunctionDef _ _ _ _ _ _ sc _ _ _=>sc
 | _=>{kind:=.function,names:=[],isGenerator:=false,isCoroutine:=false}
abbrev CX0:CXT:=λ_ _ _ _ _ _=>False
abbrev E0:XK:=λ_ _ _=>False
structure Fun(K:PySem.W.Frag)(x qual:Str)(st:Stmt)(f:Addr)(fd:FuncData):Prop where
 ex:∃(oc:Value) (od:Option Addr) (kV doc pm:Value) (an:Option Addr) (cdv ct:Value) (osl:Array (Option Value)),
  fd=PySem.W.fnOf x qual (bj st) (aW st) (aD st) .none kV doc pm an cdv ct/\K.lookup f=some ⟨oc,od,.func fd,osl⟩/\PySem.W.codeIn K cdv qual=true
 kp:PySem.W.keepIn K (.ref f)=true
section
variable {P : Program} {w : World} {K : PySem.W.Frag} {mg : Str → Option Value} {base : Heap}
theorem Fun.ok {x qual:Str} {st:Stmt} {f:Addr} {fd:FuncData} {N ps:List Str} {k:Nat} {sp:Sp} (F:Fun K x qual st f fd) (S:bg N ps (aD st)) (len:∀vs H Q E,sp vs H Q E->vs.length=ps.length)
 (hbody:∀(cdv:Value) (A:Around) (outer:List Env) (s:Shared) (H:Hp) (vs:List V) (Q:VK) (E:XK),dP k (A.deeper (envOfC qual (aD st) s.heap.objs.size f cdv))->sp vs H Q E->
  ∃t,PSs (kx CX0 P w K mg base N qual (aD st) f cdv A outer s H E).nox (aW st) t/\t {nx:=λ_ H'=>Q .non H',rt:=Q} (start N vs) H):fV P w K mg base CX0 (k+1) f fd ps sp:=by
 obtain⟨oc,od,kV,doc,pm,an,cdv,ct,osl,rfl,lk,hcd⟩:=F.ex
 refine Dx lk hcd S len λA outer s H vs Q E hr hsp=> ?_
 obtain⟨t,h,q⟩:=hbody cdv A outer s H vs Q E hr hsp
 exact⟨t,h.nox,q⟩
theorem Fun.binds {x qual:Str} {st:Stmt} {f:Addr} {fd:FuncData} {ps:List Str} (F:Fun K x qual st f fd)
 (h:∀(kV doc pm:Value) (an:Option Addr) (cdv ct:Value) (us:List Value),us.length=ps.length->bindArgs (PySem.W.fnOf x qual (bj st) (aW st) (aD st) .none kV doc pm an cdv ct) ⟨us,[]⟩=pure (ps.zip us)):Binds K fd ps []:=by
 obtain⟨oc,od,kV,doc,pm,an,cdv,ct,osl,rfl,lk,hcd⟩:=F.ex
 exact .all (h kV doc pm an cdv ct)
theorem bS {x qual:Str} {st:Stmt} {f:Addr} {oc:Value} {od an:Option Addr} {osl:Array (Option Value)} {kV doc pm cdv ct:Value} (l:K.lookup f=some ⟨oc,od,.func (PySem.W.fnOf x qual (bj st) (aW st) (aD st) .none kV doc pm an cdv ct),osl⟩)
 (c:PySem.W.codeIn K cdv qual=true) (k:PySem.W.keepIn K (.ref f)=true):Fun K x qual st f (PySem.W.fnOf x qual (bj st) (aW st) (aD st) .none kV doc pm an cdv ct):=⟨⟨oc,od,kV,doc,pm,an,cdv,ct,osl,rfl,l,c⟩,k⟩
end
section
variable {X : Cx}
theorem pv (i:Nat) {x:Str} {pos:Pos} (hN:X.N[i]? =some x:=by rfl) (hv:Vis X.env.scope x:=by first | exact Or.inl rfl | exact Or.inr (Or.inl rfl) | exact Or.inr (Or.inr rfl)) (hd:(x == ("__debug__" :Str))=false:=by decide)
 (hcd:(x == ("__classdict__" :Str))=false:=by decide):PE X (.Name x pos) (CV i):=GG hN hv hd hcd
end
theorem rE{A B:Prop}(h:B):if false=true then A else B:=by
 rw[if_neg Bool.false_ne_true]
 exact h
theorem qP{A B:Prop}(h:A):if true=true then A else B:=by
 rw[if_pos rfl]
 exact h
def bf(H H':Hp):Prop:=∀b o,H b=some o->H' b=some o
theorem bf.refl(H:Hp):bf H H:=λ_ _ h=>h
theorem bf.trans{H H1 H2:Hp}(a:bf H H1)(b:bf H1 H2):bf H H2:=λc o h=>b c o (a c o h)
theorem bf.free{H H':Hp}(e:bf H H'){l:Addr}(h:H' l=Option.none):H l=Option.none:=by
 cases q:H l with
 | none=>rfl
 | some o=>
  rw[e l o q] at h
  cases h
theorem bf.seq{K:PySem.W.Frag}{H H':Hp}{a:Addr}{xs:List V}(e:bf H H')(h:SqL K H a xs):SqL K H' a xs:=by
 rcases h with(h | ⟨o,h⟩) | h
 ·exact .inl (.inl (e _ _ h))
 ·exact .inl (.inr ⟨o,e _ _ h⟩)
 ·exact .inr h
end L2
set_option maxRecDepth 100000
set_option maxHeartbeats 4000000
namespace L2
open PySem PySem.Spec PyProof.Rows
def di(env:Env):List (Str×NameKind)->List (Str×Addr)->List (Str×Addr)
 | [],cs=>cs
 | (n,k)::r,cs=>if k == .free then di env r ((n,(env.cells.lookup n).getD 0)::cs) else di env r cs
theorem t8{env:Env}:∀(names:List (Str×NameKind)) (cs:List (Str×Addr)),(∀n,(n,NameKind.free)∈names->∃c,env.cells.lookup n=some c)->
 (forIn names cs λ(x:Str×NameKind) (r:List (Str×Addr))=>(if (x.2 == NameKind.free)=true then do
  let a <- cellOf env x.1
  pure (ForInStep.yield ((x.1,a)::r)) else pure (ForInStep.yield r):Sem (ForInStep (List (Str×Addr)))))=pure (di env names cs)
 | [],cs,_=>rfl
 | (n,k)::r,cs,h=>by
  rw[List.forIn_cons]
  by_cases hk:(k == NameKind.free)=true
  ·have hk':k=.free:=by simpa using hk
   subst hk'
   obtain⟨c,hc⟩:=h n List.mem_cons_self
   simp only[hk,if_true,di,cellOf,hc,pure_bind,Option.getD_some]
   exact t8 r _ λm hm=>h m (List.mem_cons_of_mem _ hm)
  ·simp only[hk,if_false,di,pure_bind]
   exact t8 r cs λm hm=>h m (List.mem_cons_of_mem _ hm)
theorem uS{scope:Scope}{env:Env}(h:∀n,(n,NameKind.free)∈scope.names->∃c,env.cells.lookup n=some c):closureFor scope env=pure (di env scope.names []):=by
 have:=t8 scope.names [] h
 simp only[closureFor]
 rw[<- this]
 exact bind_pure _
theorem nO{env:Env}:∀(names:List (Str×NameKind)) (cs:List (Str×Addr)),(∀n,(n,NameKind.free)∈names->∃c,env.cells.lookup n=some c)->
 (∀x c,cs.lookup x=some c->env.cells.lookup x=some c)->∀x c,(di env names cs).lookup x=some c->env.cells.lookup x=some c
 | [],cs,_,h,x,c,e=>h x c e
 | (n,k)::r,cs,hf,h,x,c,e=>by
  unfold di at e
  by_cases hk:(k == NameKind.free)=true
  ·rw[if_pos hk] at e
   have hk':k=.free:=by simpa using hk
   subst hk'
   refine nO r _ (λm hm=>hf m (List.mem_cons_of_mem _ hm)) (λy d q=> ?_) x c e
   obtain⟨c',hc'⟩:=hf n List.mem_cons_self
   rw[List.lookup_cons] at q
   split at q
   ·rename_i hy
    have:y=n:=by simpa using hy
    subst this
    rw[hc',Option.getD_some] at q
    rw[hc'];exact q
   ·exact h y d q
  ·rw[if_neg hk] at e
   exact nO r cs (λm hm=>hf m (List.mem_cons_of_mem _ hm)) h x c e
theorem mC{env:Env}:∀(names:List (Str×NameKind)) (cs:List (Str×Addr)) (x:Str),(∃c,cs.lookup x=some c)->∃c,(di env names cs).lookup x=some c
 | [],cs,_,h=>h
 | (n,k)::r,cs,x,h=>by
  unfold di
  by_cases hk:(k == NameKind.free)=true
  ·rw[if_pos hk]
   refine mC r _ x ?_
   rw[List.lookup_cons]
   split
   ·exact⟨_,rfl⟩
   ·exact h
  ·rw[if_neg hk]
   exact mC r cs x h
theorem kH{env:Env}:∀(names:List (Str×NameKind)) (cs:List (Str×Addr)) (x:Str),(x,NameKind.free)∈names->∃c,(di env names cs).lookup x=some c
 | (n,k)::r,cs,x,h=>by
  unfold di
  rcases List.mem_cons.mp h with e | h
  ·cases e
   rw[if_pos (by rfl)]
   refine mC r _ n ?_
   exact⟨_,by rw[List.lookup_cons];simp;rfl⟩
  ·by_cases hk:(k == NameKind.free)=true
   ·rw[if_pos hk];exact kH r _ x h
   ·rw[if_neg hk];exact kH r cs x h
theorem eD:∀(names:List (Str×NameKind)) (n:Nat) (acc:List (Str×Addr)),cellsFrom n names acc=cellsFrom n names []++acc
 | [],_,_=>rfl
 | (x,k)::r,n,acc=>by
  unfold cellsFrom
  split
  ·rw[eD r (n+1) ((x,n)::acc),eD r (n+1) [(x,n)],List.append_assoc];rfl
  ·exact eD r n acc
theorem kA:∀(names:List (Str×NameKind)) (n:Nat) {x:Str} {c:Addr},(x,c)∈cellsFrom n names []->(x,NameKind.cell)∈names
 | [],_,_,_,h=>nomatch h
 | (y,k)::r,n,x,c,h=>by
  unfold cellsFrom at h
  split at h
  ·rename_i hk
   have hk':k=.cell:=by simpa using hk
   rw[eD] at h
   rcases List.mem_append.mp h with q | q
   ·exact List.mem_cons_of_mem _ (kA r _ q)
   ·cases List.mem_singleton.mp q
    rw[hk']
    exact List.mem_cons_self
  ·exact List.mem_cons_of_mem _ (kA r _ h)
theorem zg{l m:List (Str×Addr)}{x:Str}{c:Addr}(h:(l++m).lookup x=some c):l.lookup x=some c\/(l.lookup x=none/\m.lookup x=some c):=by
 rw[List.lookup_append] at h
 cases e:l.lookup x with
 | none=>rw[e] at h;exact .inr ⟨rfl,h⟩
 | some d=>rw[e] at h;exact .inl h
theorem oy{l m:List (Str×Addr)}{x:Str}(h:l.lookup x=none):(l++m).lookup x=m.lookup x:=by rw[List.lookup_append,h];rfl
theorem vD{l m:List (Str×Addr)}{x:Str}(h:∃c,m.lookup x=some c):∃c,(l++m).lookup x=some c:=by
 cases e:l.lookup x with
 | none=>rw[oy e];exact h
 | some c=>exact⟨c,by rw[List.lookup_append,e];rfl⟩
theorem Bo(h:Heap)(names:List (Str×NameKind)):CellsOk (pushCells (h.push {cls:=.type "dict",data:=.dict #[]}) names) (h.objs.size+1) (cellsFrom (h.objs.size+1) names []):=by
 have:=cellsFrom_ok names (h.push {cls:=.type "dict",data:=.dict #[]}) (h.objs.size+1) [] ⟨λ_ _ hm=>(nomatch hm),List.Pairwise.nil⟩ (by rw[Heap.size_push];exact Nat.le_refl _)
 rwa [Heap.size_push] at this
theorem yg {M:Model} {A:Around} {E:Value->Shared->Prop} {s:Shared} {scope:Scope} {globals:Addr} {closure:List (Str×Addr)} {qual:Str} {func:Option Addr} {code:Value} {outer:Env} {builtins:Addr} {Q:Env->Shared->Prop}
 (hQ:Q {scope:=scope,locals:=s.heap.objs.size,globals:=globals,cells:=cellsFrom (s.heap.objs.size+1) scope.names closure,qual:=qual,func:=func,code:=outer.code,frame:=outer.frame,builtins:=outer.builtins} {s with heap:=pushCells (s.heap.push {cls:=.type "dict",data:=.dict #[]}) scope.names}):
 wpAny M A (newFunctionEnv scope globals closure [] qual func code (some outer) builtins) Q E s:=by
 simp only[newFunctionEnv,Option.isSome_some,if_true]
 refine wpAny_bind (wpAny_alloc ?_)
 refine wpAny_bind (wpAny_layCells _ (λname kind cells=>by cases hkc:kind == NameKind.cell <;> simp[hkc]) _ _ _ _ ?_)
 rw[show ({s with heap:=s.heap.push {cls:=.type "dict",data:=.dict #[]}}:Shared).heap.objs.size=s.heap.objs.size+1 from Heap.size_push ..]
 refine wpAny_bind ?_
 rw[List.forIn_nil]
 exact wpAny_pure (wpAny_pure hQ)
def cxC(X:Cx)(scope:Scope)(N':List Str)(fp:List Addr)(s:Shared)(H:Hp):Cx where
 prog:=X.prog
 w:=X.w
 K:=X.K
 mg:=X.mg
 base:=X.base
 A:=X.A
 N:=N'
 s₀:=s
 H₀:=H
 env:=compEnvC scope (cellsFrom (s.heap.objs.size+1) scope.names (di X.env scope.names [])) s.heap.objs.size X.env
 outer:=X.stack
 stack:=X.stack
 ex:=fp
 calm:=X.calm
 fn:=λx=>scope.names.lookup x == some .cell
 pn:=[]
 xe:=λ_ _=>False
def kr(X:Cx)(scope:Scope):List Str->List Nat->Prop
 | [],[]=>True
 | x::xs,j::js=>X.N[j]? =some x/\(X.env.scope.names.lookup x=some .cell\/X.env.scope.names.lookup x=some .free)/\scope.names.lookup x=some .free/\kr X scope xs js
 | _,_=>False
theorem kr.get{X:Cx}{scope:Scope}:∀{xs:List Str} {js:List Nat} {i:Nat} {x:Str},kr X scope xs js->xs[i]? =some x->
 ∃j,js[i]? =some j/\X.N[j]? =some x/\(X.env.scope.names.lookup x=some .cell\/X.env.scope.names.lookup x=some .free)/\scope.names.lookup x=some .free
 | [],_,_,_,_,e=>by simp at e
 | _::_,[],_,_,h,_=>h.elim
 | y::ys,j::js,0,x,h,e=>by
  simp at e;subst e
  exact⟨j,rfl,h.1,h.2.1,h.2.2.1⟩
 | y::ys,j::js,i+1,x,h,e=>by
  obtain⟨j',e1,r⟩:=kr.get (i:=i) (x:=x) h.2.2.2 (by simpa using e)
  exact⟨j',by simpa using e1,r⟩
theorem kr.length{X:Cx}{scope:Scope}:∀{xs:List Str} {js:List Nat},kr X scope xs js->xs.length=js.length
 | [],[],_=>rfl
 | [],_::_,h=>h.elim
 | _::_,[],h=>h.elim
 | _::_,_::_,h=>by rw[List.length_cons,List.length_cons,kr.length h.2.2.2]
def kN(m:Nat)(caps:List Nat)(σ:St):St:=List.replicate m none++caps.map λi=>(σ[i]?).getD none
theorem lookup_mem{α β:Type}[BEq α][LawfulBEq α]:∀{l:List (α×β)} {x:α} {b:β},l.lookup x=some b->(x,b)∈l
 | [],_,_,h=>by simp at h
 | (a,c)::r,x,b,h=>by
  rw[List.lookup_cons] at h
  split at h
  ·rename_i q
   have:x=a:=by simpa using q
   subst this
   cases h
   exact List.mem_cons_self
  ·exact List.mem_cons_of_mem _ (lookup_mem h)
section
variable {X : Cx}
theorem fW{scope:Scope}{env:Env}:∀{names:List (Str×NameKind)} {x:Str} {k:NameKind},(names.map λ(n,k)=>if (k == NameKind.free&&env.scope.kind == .function&&env.kindOf n == some .cell) then (n,NameKind.cell) else (n,k)).lookup x=some k->
 ∃k',names.lookup x=some k'/\(k'=k\/(k'=.free/\k=.cell))
 | [],_,_,h=>by simp at h
 | (n,k0)::r,x,k,h=>by
  have h':List.lookup x ((if (k0 == NameKind.free&&env.scope.kind == .function&&env.kindOf n == some .cell)=true then (n,NameKind.cell) else (n,k0))::r.map _)=some k:=h
  by_cases hc:(k0 == NameKind.free&&env.scope.kind == .function&&env.kindOf n == some .cell)=true
  ·rw[if_pos hc,List.lookup_cons] at h'
   rw[List.lookup_cons]
   split at h'
   ·rename_i q
    cases h'
    have hk:k0=.free:=by simp only[Bool.and_eq_true] at hc;simpa using hc.1.1
    exact⟨k0,rfl,.inr ⟨hk,rfl⟩⟩
   ·rename_i q
    exact fW (scope:=scope) h'
  ·rw[if_neg hc,List.lookup_cons] at h'
   rw[List.lookup_cons]
   split at h'
   ·rename_i q
    cases h'
    exact⟨k0,rfl,.inl rfl⟩
   ·rename_i q
    exact fW (scope:=scope) h'
structure lr(X:Cx)(scope:Scope)(own cap:List Str)(caps:List Nat):Prop where
 kind:scope.kind=.function
 cell:∀y∈scope.names,y.2=.cell->scope.names.lookup y.1=some .cell
 nm:∀y∈scope.names,y.2=.local->scope.names.lookup y.1=some .local
 fr:∀y∈scope.names,y.2=.free->y.1∈cap
 caps:kr X scope cap caps
 nd:(own++cap).Nodup
theorem lr.out{X:Cx}{scope:Scope}{own cap:List Str}{caps:List Nat}(S:lr X scope own cap caps){n:Str}(h:(n,NameKind.free)∈scope.names):X.env.scope.names.lookup n=some .cell\/X.env.scope.names.lookup n=some .free:=by
 obtain⟨i,hi,e⟩:=List.getElem_of_mem (S.fr _ h rfl)
 obtain⟨_,_,_,k,_⟩:=S.caps.get (i:=i) (x:=n) (by rw[List.getElem?_eq_getElem hi,e])
 exact k
theorem CS {scope:Scope} {own cap:List Str} {caps:List Nat} {pins:List (Addr×Obj)} {σ:St} {H:Hp} {s:Shared} {fp:List Addr} {h1:Heap} {tk:Nat} (Sc:lr X scope own cap caps) (I:Inv X pins σ H s)
 (hfp:∀b∈fp,jM X pins H b) (hob:∀b∈fp,∃o,s.heap.get? b=some o) (hns:h1.Ns s.heap.objs.size λ_=>none)
 (hk:∀b o,s.heap.get? b=some o->h1.get? b=some o) (hnew:CellsOk h1 (s.heap.objs.size+1) (cellsFrom (s.heap.objs.size+1) scope.names [])):
 Inv (cxC X scope (own++cap) fp s H) [] (kN own.length caps σ) H {s with heap:=h1,toks:=tk}:=by
 have hcl:∀n,(n,NameKind.free)∈scope.names->∃c,X.env.cells.lookup n=some c:=λn hn=>I.ok.has n (Sc.out hn)
 have sub:∀x c,(di X.env scope.names []).lookup x=some c->X.env.cells.lookup x=some c:=nO scope.names [] hcl (λx c e=>by simp at e)
 have fresh:H s.heap.objs.size=none:=I.hok.fresh (Nat.le_refl _)
 have two:∀x c,(cellsFrom (s.heap.objs.size+1) scope.names (di X.env scope.names [])).lookup x=some c->((x,c)∈cellsFrom (s.heap.objs.size+1) scope.names []/\s.heap.objs.size<c)\/((cellsFrom (s.heap.objs.size+1) scope.names []).lookup x=none/\X.env.cells.lookup x=some c/\c<s.heap.objs.size):=λx c e=>by
  rw[eD] at e
  rcases zg e with q | ⟨q0,q⟩
  ·exact .inl ⟨mem_of_lookup q,(hnew.empty x c (mem_of_lookup q)).2⟩
  ·have q':=sub x c q
   obtain⟨v,o,ho,_⟩:=I.cell x c q'
   exact .inr ⟨q0,q',Heap.lt_size ho⟩
 have notOwn:∀x,scope.names.lookup x=some .free->(cellsFrom (s.heap.objs.size+1) scope.names []).lookup x=none:=λx hx=>by
  cases e:(cellsFrom (s.heap.objs.size+1) scope.names []).lookup x with
  | none=>rfl
  | some c=>
   have:=Sc.cell _ (kA _ _ (mem_of_lookup e)) rfl
   dsimp only at this
   rw[hx] at this
   cases this
 refine⟨⟨I.ok.mod,Sc.kind,I.ok.glob,I.ok.blt,Nat.le_refl _,λx y c e1 e2=> ?_,λx hx=> ?_,λx c h e=> ?_,I.ok.hd,I.ok.frames,.inl rfl,λb hb=>⟨?_,λx c e=> ?_⟩,I.bs,Nat.le_trans I.ok.bsz I.sz,λb o e hb=> ?_,λb hb hs=> ?_,I.stack,I.stkFree⟩,
  rfl,I.bare,Un.kept hk,⟨_,hns,λi x v e1 e2 e3=> ?_⟩,λx c e=> ?_,fresh,λx c e=> ?_,λp hp=>absurd (show p∈([]:List (Addr×Obj)) from hp) (by simp),I.hok.kept hk, ?_⟩
 ·rcases two x c e1 with⟨p1,p2⟩ | ⟨_,p1,p2⟩ <;> rcases two y c e2 with⟨q1,q2⟩ | ⟨_,q1,q2⟩
  ·exact name_of_addr hnew.apart p1 q1
  ·exact absurd p2 (Nat.not_lt.mpr (Nat.le_of_lt q2))
  ·exact absurd q2 (Nat.not_lt.mpr (Nat.le_of_lt p2))
  ·exact I.ok.inj x y c p1 q1
 ·have hx':(relabel scope X.env).names.lookup x=some .cell\/(relabel scope X.env).names.lookup x=some .free:=hx
  have:(x,NameKind.free)∈scope.names\/scope.names.lookup x=some .cell:=by
   rcases hx' with q | q
   ·obtain⟨k',e1,e2⟩:=fW (scope:=scope) q
    rcases e2 with rfl | ⟨rfl,_⟩
    ·exact .inr e1
    ·exact .inl (lookup_mem e1)
   ·obtain⟨k',e1,e2⟩:=fW (scope:=scope) q
    rcases e2 with rfl | ⟨rfl,z⟩
    ·exact .inl (lookup_mem e1)
    ·cases z
  rcases this with q | q
  ·show ∃c,(cellsFrom (s.heap.objs.size+1) scope.names (di X.env scope.names [])).lookup x=some c
   rw[eD]
   exact vD (kH scope.names [] x q)
  ·exact Option.isSome_iff_exists.mp (PySem.W.cellsFrom_some scope.names _ _ (.inl q))
 ·have h':scope.names.lookup x=some .cell:=by
   have:(scope.names.lookup x == some NameKind.cell)=true:=h
   simpa using this
  rcases two x c e with⟨_,p⟩ | ⟨p,_⟩
  ·exact Nat.le_of_lt p
  ·have:=PySem.W.cellsFrom_some scope.names (s.heap.objs.size+1) [] (.inl h')
   rw[p] at this
   cases this
 ·obtain⟨o,ho⟩:=hob b hb
  exact Nat.ne_of_lt (Heap.lt_size ho)
 ·rcases two x c e with⟨_,p⟩ | ⟨_,p,_⟩
  ·obtain⟨o,ho⟩:=hob b hb
   exact λz=>absurd (Heap.lt_size ho) (Nat.not_lt.mpr (Nat.le_of_lt (z▸p)))
  ·exact(hfp b hb).2.2.2.2.1 x c p
 ·rcases(hfp b hb).2.2.2.1 with z | z
  ·exact I.ok.noex b o e z
  ·exact absurd (Nat.lt_of_lt_of_le (Heap.lt_size e) (Nat.le_trans I.ok.bsz z)) (Nat.lt_irrefl _)
 ·rcases List.mem_cons.mp (I.stkSub b hs) with z | z
  ·exact(hfp b hb).2.1 z
  ·exact(hfp b hb).2.2.1 z
 ·have e1':(own++cap)[i]? =some x:=e1
  have hi:own.length<=i:=by
   by_cases q:i<own.length
   ·unfold kN at e2
    rw[List.getElem?_append_left (by simpa using q),List.getElem?_replicate] at e2
    split at e2 <;> cases e2
   ·omega
  rw[List.getElem?_append_right hi] at e1'
  obtain⟨j,hj,hN,hkd,hfr⟩:=Sc.caps.get e1'
  unfold kN at e2
  rw[List.getElem?_append_right (by simpa using hi)] at e2
  simp only[List.length_replicate,List.getElem?_map,hj,Option.map_some,Option.some.injEq] at e2
  have e2':σ[j]? =some (some v):=by
   cases q:σ[j]? with
   | none=>rw[q] at e2;simp at e2
   | some ov=>rw[q] at e2;simp at e2;rw[e2]
  obtain⟨m,hm,hl⟩:=I.loc
  obtain⟨u,ru,lk⟩:=hl j x v hN e2' (hkd.elim (λz=>.inr (.inl z)) λz=>.inr (.inr z))
  refine⟨u,ru,.inr ⟨?_, ?_⟩⟩
  ·rcases e3 with q | q | q
   ·obtain⟨k',w1,w2⟩:=fW (scope:=scope) (show (relabel scope X.env).names.lookup x=some .local from q)
    rw[hfr] at w1
    cases w1
    rcases w2 with w | ⟨_,w⟩ <;> cases w
   ·exact .inl q
   ·exact .inr q
  ·rcases lk with⟨z,_⟩ | ⟨_,c,ec,hc⟩
   ·have z':X.env.scope.names.lookup x=some .local:=z
    rcases hkd with q | q <;> (rw[q] at z';cases z')
   ·obtain⟨c',hc'⟩:=kH (env:=X.env) scope.names [] x (lookup_mem hfr)
    have:=sub x c' hc'
    rw[ec] at this
    cases this
    obtain⟨oc,h1',h2'⟩:=hc
    refine⟨c, ?_,oc,hk _ _ h1',h2'⟩
    show (cellsFrom (s.heap.objs.size+1) scope.names (di X.env scope.names [])).lookup x=some c
    rw[eD,oy (notOwn x hfr)]
    exact hc'
 ·rcases two x c e with⟨p,_⟩ | ⟨_,p,_⟩
  ·exact⟨none,(hnew.empty x c p).1⟩
  ·obtain⟨v,oc,h1',h2'⟩:=I.cell x c p
   exact⟨v,oc,hk _ _ h1',h2'⟩
 ·rcases two x c e with⟨_,p⟩ | ⟨_,p,_⟩
  ·exact I.hok.fresh (Nat.le_of_lt p)
  ·exact I.freeC x c p
 ·unfold kN
  have:=Sc.caps.length
  simp[cxC,this]
theorem Au {prog:Program} {w:World} {A:Around} {R:Result->Shared->Prop} {s:Shared} {elt target iter:Expr} {ifs:List Expr} {scope:Scope} {pos:Pos} {it acc:Value} {env:Env} (I:Nat->Shared->Prop)
 (turn:∀n s,I n s->wpAny (model prog w) A (pyNext it) (λr s₁=>match r with
  | none=>R (.ok .next) s₁
  | some v=>wpAny (model prog w) A (letOwnedTupleGo target it v) (λ_ s₁'=>wpAny (model prog w) A (assign target env v) (λ_ s₂=>
   wpAny (model prog w) A (forIn ifs true λc r=>if r=true then do let ok <- isTrue c env (eval c env);pure (ForInStep.yield ok) else pure (ForInStep.yield r)) (λok s₃=>
    if ok=true then wpAny (model prog w) A (eval elt env) (λx s₄=>
     wpAny (model prog w) A (call (.builtin "list.append") [acc,x]) (λ_ s₅=>∃m,m<n/\I m s₅) (λ_ _=>False) s₄) (λ_ _=>False) s₃
    else ∃m,m<n/\I m s₃) (λ_ _=>False) s₂) (λ_ _=>False) s₁') (λ_ _=>False) s₁) (λ_ _=>False) s)
 (n:Nat) (h:I n s):
 codeAny (model prog w) A (.compLoop (.ListComp elt [⟨target,iter,ifs,0⟩] scope pos) 0 it acc env) R s:=by
 refine codeAny_loop rfl I (λn s hI=> ?_) n h
 show wpAny _ A ((compTurn (.ListComp elt [⟨target,iter,ifs,0⟩] scope pos) 0 it acc env).onRaise (λx=>do noteFrame x env;theTreesLotGoes x)) _ _ s
 refine wpAny_noted ?_
 rw[compTurn_list]
 refine wpAny_bind (wpAny_standAt (wpAny_bind (wpAny_mono (turn n s hI) (λr s₁ h₁=> ?_) λ_ _ h'=>h'.elim)))
 cases r with
 | none=>exact wpAny_pure h₁
 | some v=>
  refine wpAny_bind (wpAny_mono h₁ (λ_ s₁' h₁'=>wpAny_bind (wpAny_mono h₁' (λ_ s₂ h₂=>wpAny_bind (wpAny_mono h₂ (λok s₃ h₃=> ?_) λ_ _ h'=>h'.elim)) λ_ _ h'=>h'.elim)) λ_ _ h'=>h'.elim)
  cases ok with
  | false=>exact wpAny_pure ⟨rfl,h₃⟩
  | true=>
   exact wpAny_bind (wpAny_bind (wpAny_mono h₃ (λx s₄ h₄=>wpAny_bind (wpAny_mono h₄ (λ_ s₅ h₅=>wpAny_pure (wpAny_pure ⟨rfl,h₅⟩)) λ_ _ h'=>h'.elim)) λ_ _ h'=>h'.elim))
def PTs(X:Cx)(ifs:List Expr)(t:TT):Prop:=
 ∀(pins:List (Addr×Obj)) (s:Shared) (σ:St) (H:Hp) (Q:Bool->Hp->Prop),Inv X pins σ H s->t σ H Q->
  wpAny (model X.prog X.w) X.A (forIn ifs true λc r=>if r=true then do let ok <- isTrue c X.env (eval c X.env);pure (ForInStep.yield ok) else pure (ForInStep.yield r)) (TP X pins σ Q) X.xe s
def Dw:TT:=λ_ H Q=>Q true H
theorem dm:PTs X [] Dw:=λ_ _ _ H _ I h=>wpAny_tests_nil ⟨H,I,h⟩
theorem pN{c:Expr}{t:TT}(h:PT X c t):PTs X [c] t:=λpins s σ H Q I q=>wpAny_tests_one (h pins s σ H Q I q)
def nS(m:Nat)(caps:List Nat)(wi:TI)(g:TG)(tc:TT)(te:TE):TE:=λσ H Q=>wi σ H λJ H1=>∀p,H1 p=none->
 ∃W:Nat->Nat->List V->St->Hp->Prop,(∃k,W 0 k [] (kN m caps σ) (upd H1 p (.lst [])))/\∀i k acc σ' H',W i k acc σ' H'->
  (J.stop i H'/\H' p=some (.lst acc)/\Q (.ref p) H')\/(J.go i H'/\∀x H2,J.yld i H' x H2->g x σ' H2 λσ2 H3=>tc σ2 H3 λb H4=>if b=true then
   te σ2 H4 λy H5=>H5 p=some (.lst acc)/\acc.length<sizeLine/\∃k',k'<k/\W (i+1) k' (acc++[y]) σ2 (upd H5 p (.lst (acc++[y])))
   else ∃k',k'<k/\W (i+1) k' acc σ2 H4)
theorem B4{scope:Scope}{N':List Str}{fp:List Addr}{pins pins':List (Addr×Obj)}{σ σ':St}{H3 H':Hp}{s3 s':Shared}(I3:Inv X pins σ H3 s3)(I':Inv (cxC X scope N' fp s3 H3) pins' σ' H' s')(hfp:∀b∈fp,jM X pins H3 b):Inv X pins σ H' s':=
 I3.call' (ch:=fp) I'.os I'.base I'.hok I'.bare λb hb=>⟨(hfp b hb).2.2.2.1,(hfp b hb).2.1,(hfp b hb).2.2.2.2.1,(hfp b hb).2.2.2.2.2⟩
theorem sN {target iter elt:Expr} {ifs:List Expr} {scope:Scope} {pos:Pos} {own cap:List Str} {caps:List Nat} {g:TG} {tc:TT} {te:TE} {pins:List (Addr×Obj)} {σ:St} {H2:Hp} {s₂:Shared} {it:Addr} {fp:List Addr} {tn:Nat->Heap->Prop} {J:It} {E:Value->Shared->Prop}
 {RR:Value->Addr->Result->Shared->Prop} {Q:VK}
 (hc:X.calm=true) (Sc:lr X scope own cap caps)
 (hg:∀s H,PG (cxC X scope (own++cap) fp s H) target g) (ht:∀s H,PTs (cxC X scope (own++cap) fp s H) ifs tc) (he:∀s H,PE (cxC X scope (own++cap) fp s H) elt te)
 (I:Inv X pins σ H2 s₂) (T:Turn X.prog X.w X.K target J fp it tn) (t0:tn 0 s₂.heap) (hfp:∀b∈fp,jM X pins H2 b)
 (hQ:∀p,H2 p=none->∃W:Nat->Nat->List V->St->Hp->Prop,(∃k,W 0 k [] (kN own.length caps σ) (upd H2 p (.lst [])))/\∀i k acc σ' H',W i k acc σ' H'->
  (J.stop i H'/\H' p=some (.lst acc)/\Q (.ref p) H')\/(J.go i H'/\∀x H2,J.yld i H' x H2->g x σ' H2 λσ2 H3=>tc σ2 H3 λb H4=>if b=true then
   te σ2 H4 λy H5=>H5 p=some (.lst acc)/\acc.length<sizeLine/\∃k',k'<k/\W (i+1) k' (acc++[y]) σ2 (upd H5 p (.lst (acc++[y])))
   else ∃k',k'<k/\W (i+1) k' acc σ2 H4))
 (hRR:∀C p H' s' m,X.s₀.heap.objs.size<=C->C≠X.env.locals->(∀x c,X.env.cells.lookup x=some c->c≠C)->(∀q∈X.pn++pins,q.1≠C)->H' C=none->s'.heap.Ns C m->Inv X pins σ H' s'->Q (.ref p) H'->RR (.ref p) C (.ok .next) s'):
 wpAny (model X.prog X.w) X.A (newList []) (λacc s₃=>wpAny (model X.prog X.w) X.A (newFunctionEnv scope X.env.globals (di X.env scope.names []) [] X.env.qual none .none (some X.env)) (λcenv s₄=>
  codeAny (model X.prog X.w) X.A (.compStart (.ListComp elt [⟨target,iter,ifs,0⟩] scope pos) 0 (.ref it) acc {cenv with scope:=relabel scope X.env}) (RR acc cenv.locals) s₄) E s₃) E s₂:=by
 refine wpAny_newObj_type (yg ?_)
 dsimp only
 have hD0:H2 s₂.heap.objs.size=none:=I.hok.fresh (Nat.le_refl _)
 have I3:Inv X pins σ (upd H2 s₂.heap.objs.size (.lst [])) {s₂ with heap:=s₂.heap.push {cls:=.type "list",dict:=none,data:=.seq ([]:List Value).toArray}}:=I.lnew (t':=s₂.toks) .nil (Nat.zero_le _)
 obtain⟨W,⟨k0,w0⟩,turn⟩:=hQ s₂.heap.objs.size hD0
 have old:∀b o,s₂.heap.get? b=some o->(s₂.heap.push {cls:=.type "list",dict:=none,data:=.seq ([]:List Value).toArray}).get? b=some o:=λb o e=>Heap.get?_push_of_some _ e
 have hbD:∀b∈fp,b≠s₂.heap.objs.size:=λb hb=>by
  obtain⟨o,ho,_⟩:=T.obj 0 s₂.heap t0 b hb
  exact Nat.ne_of_lt (Heap.lt_size ho)
 have hfp3:∀b∈fp,jM X pins (upd H2 s₂.heap.objs.size (.lst [])) b:=λb hb=>⟨by rw[aI (hbD b hb)];exact(hfp b hb).1,(hfp b hb).2⟩
 have hob:∀b∈fp,∃o,(s₂.heap.push {cls:=.type "list",dict:=none,data:=.seq ([]:List Value).toArray}).get? b=some o:=λb hb=>by
  obtain⟨o,ho,_⟩:=T.obj 0 s₂.heap t0 b hb
  exact⟨o,old b o ho⟩
 generalize hh₁:pushCells ((s₂.heap.push {cls:=.type "list",dict:=none,data:=.seq ([]:List Value).toArray}).push {cls:=.type "dict",data:=.dict #[]}) scope.names=h₁
 have hns₁:h₁.Ns (s₂.heap.push {cls:=.type "list",dict:=none,data:=.seq ([]:List Value).toArray}).objs.size λ_=>none:=by rw[<- hh₁];exact(Heap.Ns.new _ (.type "dict")).keeps (pushCells_keeps _ _)
 have hk:∀b o,(s₂.heap.push {cls:=.type "list",dict:=none,data:=.seq ([]:List Value).toArray}).get? b=some o->h₁.get? b=some o:=λb o e=>by rw[<- hh₁];exact pushCells_keeps _ _ b o (Heap.get?_push_of_some _ e)
 have hnew:CellsOk h₁ ((s₂.heap.push {cls:=.type "list",dict:=none,data:=.seq ([]:List Value).toArray}).objs.size+1) (cellsFrom ((s₂.heap.push {cls:=.type "list",dict:=none,data:=.seq ([]:List Value).toArray}).objs.size+1) scope.names []):=by rw[<- hh₁];exact Bo _ _
 clear hh₁
 have st1:tn 0 h₁:=T.keep 0 _ _ t0 λb hb o e=>hk b o (old b o e)
 generalize hs3:({s₂ with heap:=s₂.heap.push {cls:=.type "list",dict:=none,data:=.seq ([]:List Value).toArray}}:Shared)=s3 at I3
 have hh3:s3.heap=s₂.heap.push {cls:=.type "list",dict:=none,data:=.seq ([]:List Value).toArray}:=by rw[<- hs3]
 rw[<- hh3] at hns₁ hob hk hnew ⊢
 generalize s₂.heap.objs.size=D at *
 generalize hH3:upd H2 D (.lst [])=H3 at *
 have loop:∀s₄:Shared,s₄={s3 with heap:=h₁}->
  codeAny (model X.prog X.w) X.A (.compLoop (.ListComp elt [⟨target,iter,ifs,0⟩] scope pos) 0 (.ref it) (.ref D) (compEnvC scope (cellsFrom (s3.heap.objs.size+1) scope.names (di X.env scope.names [])) s3.heap.objs.size X.env)) (RR (.ref D) s3.heap.objs.size) s₄:=by
  rintro s₄ rfl
  have I4:=CS (tk:=s3.toks) Sc I3 hfp3 hob hns₁ hk hnew
  have stat:∀{H':Hp},(∀b∈fp,H' b=none)->∀b∈fp,jM (cxC X scope (own++cap) fp s3 H3) [] H' b:=λhn b hb=>by
   refine⟨hn b hb,(I4.ok.exf b hb).1,I4.ok.exfs b hb,.inl hb,(I4.ok.exf b hb).2,λp hp=>absurd (show p∈([]:List (Addr×Obj)) from hp) (by simp)⟩
  refine Au (λn s'=>∃i acc σ' H',Inv (cxC X scope (own++cap) fp s3 H3) [] σ' H' s'/\tn i s'.heap/\(∀b∈fp,H' b=none)/\W i n acc σ' H') ?_ k0 ⟨0,[],_,_,I4,st1,λb hb=>(hfp3 b hb).1,w0⟩
  rintro n s5 ⟨i,acc,σ5,H5,I5,st5,fr5,w5⟩
  rcases turn i n acc σ5 H5 w5 with⟨stop,hp,q⟩ | ⟨go,step⟩
  ·refine thn (T.done (cxC X scope (own++cap) fp s3 H3) rfl rfl rfl hc i [] s5 σ5 H5 _ I5 (stat fr5) st5 stop) λr s6 ⟨hr,I6⟩=> ?_
   subst hr
   obtain⟨m,hm,_⟩:=I6.loc
   refine hRR s3.heap.objs.size D H5 s6 m I3.sz (Nat.ne_of_gt I3.lt) (λx c e=> ?_) (λp hp=> ?_) I6.free hm (B4 I3 I6 hfp3) q
   ·obtain⟨v,o,ho,_⟩:=I3.cell x c e
    exact Nat.ne_of_lt (Heap.lt_size ho)
   ·exact Nat.ne_of_lt (Heap.lt_size (I3.pin p hp).1)
  ·refine thn (T.item (cxC X scope (own++cap) fp s3 H3) rfl rfl rfl hc i [] s5 σ5 H5 _ I5 (stat fr5) st5 go) λr s6 ⟨u,hr,h6⟩=> ?_
   subst hr
   refine thn h6 λ_ s7 ⟨x,H7,I7,r7,y7,st7,fr7⟩=> ?_
   have I7':=I7.pinned (stat fr7) (T.obj _ _ st7)
   refine thn (hg s3 H3 _ s7 σ5 H7 x u _ I7' r7 (step x H7 y7)) λ_ s8 ⟨σ8,H8,I8,q8⟩=> ?_
   refine thn (ht s3 H3 _ s8 σ8 H8 _ I8 q8) λb s9 ⟨H9,I9,q9⟩=> ?_
   have again:∀{σz:St} {Hz:Hp} {sz:Shared},Inv (cxC X scope (own++cap) fp s3 H3) ([]++oo fp s7.heap) σz Hz sz->Inv (cxC X scope (own++cap) fp s3 H3) [] σz Hz sz/\tn (i+1) sz.heap/\∀b∈fp,Hz b=none:=λ{σz Hz sz} Iz=>by
    refine⟨Iz.unpinned,T.keep _ _ _ st7 λb hb o e=>(Iz.pin (b,o) (List.mem_append_right _ (List.mem_append_right _ (kK hb e)))).1,λb hb=> ?_⟩
    obtain⟨o,e,d⟩:=T.obj _ _ st7 b hb
    exact(Iz.pin (b,o) (List.mem_append_right _ (List.mem_append_right _ (kK hb e)))).2.1
   cases b with
   | false=>
    rw[if_neg Bool.false_ne_true] at q9 ⊢
    obtain⟨k',hk',w'⟩:=q9
    obtain⟨a1,a2,a3⟩:=again I9
    exact⟨k',hk',i+1,acc,σ8,H9,a1,a2,a3,w'⟩
   | true=>
    rw[if_pos rfl] at q9 ⊢
    refine thn (he s3 H3 _ s9 σ8 H9 _ I9 q9) λyv s10 ⟨y,H10,I10,r10,hp,hl,k',hk',w'⟩=> ?_
    refine thn (j7 _ s10 σ8 H10 (.ref D) [y] (.ref D) [yv] (λv Hz=>Hz=upd H10 D (.lst (acc++[y]))) I10 rfl (.cons r10 .nil) ⟨D,acc,y,rfl,rfl,hp,hl,rfl⟩) λ_ s11 ⟨_,H11,I11,_,e11⟩=> ?_
    subst e11
    obtain⟨a1,a2,a3⟩:=again I11
    exact⟨k',hk',i+1,acc++[y],σ8,_,a1,a2,a3,w'⟩
 have fin:=loop _ rfl
 subst hs3
 exact codeAny_compStart_list fin (T.self _ _ _ _ _ st1 fin)
theorem PTs.ok{X:Cx}{scope:Scope}{own cap:List Str}{caps:List Nat}{pins:List (Addr×Obj)}{σ:St}{H:Hp}{s:Shared}(I:Inv X pins σ H s)(Sc:lr X scope own cap caps):closureFor scope X.env=pure (di X.env scope.names []):=
 uS λn hn=>I.ok.has n (Sc.out hn)
theorem ft {target iter elt:Expr} {ifs:List Expr} {scope:Scope} {pos:Pos} {own cap:List Str} {caps:List Nat} {wi:TI} {g:TG} {tc:TT} {te:TE} (hc:X.calm=true) (Sc:lr X scope own cap caps) (hi:PI X target iter wi)
 (hg:∀fp s H,PG (cxC X scope (own++cap) fp s H) target g) (ht:∀fp s H,PTs (cxC X scope (own++cap) fp s H) ifs tc) (he:∀fp s H,PE (cxC X scope (own++cap) fp s H) elt te)
 (hs:∀x,foldedSetIterable iter X.env x=pure x:=by intro _;rfl):PE X (.ListComp elt [⟨target,iter,ifs,0⟩] scope pos) (nS own.length caps wi g tc te):=by
 intro pins s σ H Q I h
 rw[eval_ListComp]
 refine wpAny_comprehension_free (use:=none) rfl hs (PTs.ok I Sc) Sc.kind Sc.nm (thn (hi pins s σ H _ I h) λv s1 h1=>thn h1 λitv s2 h2=> ?_)
 obtain⟨it,fp,tn,J,H2,e,I2,T,st2,f2,q⟩:=h2
 subst e
 refine sN (Q:=Q) (RR:=λacc C=>compPost (model X.prog X.w) X.A X.xe none (EP X pins σ Q) acc C) hc Sc (hg fp) (ht fp) (he fp) I2 T st2 f2 q ?_
 intro C p H' s' m h1 h2 h3 h4 h5 hn I' q'
 exact⟨m,hn,λh' hs'=>⟨.ref p,H',I'.turned (it:=C) (t':=s'.toks) (λb o hb e=>hs'.extBut b o hb e) h5 (Ne.symm h2.symm) (.inr h1) h3 h4,rfl,q'⟩⟩
theorem eI {target iter elt:Expr} {ifs:List Expr} {scope:Scope} {pos spos py:Pos} {own cap:List Str} {caps:List Nat} {wi:TI} {g:TG} {tc:TT} {te:TE} {i:Nat} {y:Str} (hc:X.calm=true) (Sc:lr X scope own cap caps) (hi:PI X target iter wi)
 (hg:∀fp s H,PG (cxC X scope (own++cap) fp s H) target g) (ht:∀fp s H,PTs (cxC X scope (own++cap) fp s H) ifs tc) (he:∀fp s H,PE (cxC X scope (own++cap) fp s H) elt te)
 (hN:X.N.Nodup) (hx:X.N[i]? =some y) (hl:Loc X.env.scope y)
 (hsw:swapsWith (.ListComp elt [⟨target,iter,ifs,0⟩] scope pos) (some (.Name y py)) spos.line X.env=pure true)
 (hs:∀x,foldedSetIterable iter X.env x=pure x:=by intro _;rfl) (hf:X.fn y=true\/X.env.scope.names.lookup y=some .local:=by first | exact .inl rfl | exact .inr rfl | assumption):
 PS X (.Assign [.Name y py] (.ListComp elt [⟨target,iter,ifs,0⟩] scope pos) spos) (wG (nS own.length caps wi g tc te) (pZ i)):=by
 intro pins s σ H D I h
 rw[exec_Assign_Name_used _ _ _ _ hsw]
 refine wpAny_bind (wpAny_standAt (wpAny_bind ?_))
 show wpAny _ _ (do let _ <- comprehension (.ListComp elt [⟨target,iter,ifs,0⟩] scope pos) scope X.env _ (newList []) false (eval iter X.env) (some (assign (.Name y py) X.env))) _ _ s
 refine wpAny_bind (wpAny_mono (wpAny_comprehension_free (use:=some (assign (.Name y py) X.env)) (Q:=λ_ s'=>SP X pins D .next s') rfl hs (PTs.ok I Sc) Sc.kind Sc.nm
  (thn (hi pins s σ H _ I h) λv s1 h1=>thn h1 λitv s2 h2=> ?_)) (λ_ s' hq=>wpAny_pure (wpAny_pure hq)) λ_ _ e=>e)
 obtain⟨it,fp,tn,J,H2,e,I2,T,st2,f2,q⟩:=h2
 subst e
 refine sN (Q:=λv H'=>pZ i v σ H' D.nx) (RR:=λacc C=>compPost (model X.prog X.w) X.A X.xe (some (assign (.Name y py) X.env)) (λ_ s'=>SP X pins D .next s') acc C) hc Sc (hg fp) (ht fp) (he fp) I2 T st2 f2 q ?_
 intro C p H' s' m h1 h2 h3 h4 h5 hn I' q'
 show wpAny _ _ (assign (.Name y py) X.env (.ref p)) _ _ _
 refine wpAny_assign_Name (uK I' hN hx hl (show RelV (.ref p) (.ref p) from rfl) (λs'' I'' ⟨a,hsb,ha⟩=> ?_) hf)
 have haC:C≠a:=by
  rcases ha with rfl | ha
  ·exact h2
  ·exact(h3 _ _ ha).symm
 exact⟨m,hn.sameBut hsb haC,λh' hs'=>⟨_,H',I''.turned (it:=C) (t':=s''.toks) (λb o hb e=>hs'.extBut b o hb e) h5 h2 (.inr h1) h3 h4,q'⟩⟩
end
end L2
set_option maxRecDepth 100000
set_option maxHeartbeats 4000000
namespace L2
open PySem PySem.Spec PyProof.Rows
section
variable {X : Cx}
def Du(K:PySem.W.Frag):R2:=λx y H Q=>∃l b xs zs,x=.ref l/\y=.ref b/\SqL K H l xs/\SqL K H b zs/\xs.length+zs.length<=sizeLine/\∀p,H p=none->Q (.ref p) (upd H p (.lst (xs++zs)))
theorem EV:OpR X (binaryOp .Add) (Du X.K):=by
 intro pins s σ H x y v u Q I rx ry h
 obtain⟨l,b,xs,zs,rfl,rfl,hH,hB,hz,q⟩:=h
 cases rx
 cases ry
 obtain⟨its,r,pl,_⟩:=I.list hH
 obtain⟨its2,r2,pl2,_⟩:=I.list hB
 obtain⟨⟨cls,dd,data,sl⟩,ho,hc,n,hd⟩:=pl.isList
 obtain⟨⟨cls2,dd2,data2,sl2⟩,ho2,hc2,n2,hd2⟩:=pl2.isList
 simp only at hc hd hc2 hd2
 subst hc hd hc2 hd2
 have e:its.toArray++its2.toArray=(its++its2).toArray:=by simp
 have hl1:=r.length
 have hl2:=r2.length
 refine concat_meets ⟨_,ho,rfl⟩ ⟨_,ho2,rfl⟩ noFill_list_add seq_list_add PySem.F.slot_list_add PySem.F.entry_list_add (PySem.F.args_list_add_2 _ _) (list_addW l b its.toArray its2.toArray n n2 dd dd2 sl sl2 (by simp only[List.size_toArray];omega)) ⟨ho,ho2, ?_⟩
 rw[e]
 exact⟨.ref _,_,I.lnew (t':=s.toks) (r.append r2) (by rw[List.length_append];omega),rfl,q _ I.fresh⟩
mutual
def RdV(K:PySem.W.Frag)(H:Hp):PyData->V->Prop
 | .none,v=>v=.non
 | .bool b,v=>v=.bl b
 | .int i,v=>v=.int i
 | .str x,v=>v=.str x
 | .list ds,v=>∃a xs,v=.ref a/\SqL K H a xs/\nM K H ds xs
 | .tuple ds,v=>∃a xs,v=.ref a/\SqT K H a xs/\nM K H ds xs
 | .dict _,_=>False
def nM(K:PySem.W.Frag)(H:Hp):List PyData->List V->Prop
 | [],xs=>xs=[]
 | d::ds,xs=>∃v r,xs=v::r/\RdV K H d v/\nM K H ds r
end
mutual
theorem kg{pins:List (Addr×Obj)}{σ:St}{H:Hp}{s:Shared}(I:Inv X pins σ H s):∀{d:PyData} {v:V} {u:Value},RdV X.K H d v->RelV v u->∃as,Reads s.heap u d as
 | .none,v,u,h,r=>by
  unfold RdV at h;subst h
  cases (show u=Value.none from r);exact⟨_,.none⟩
 | .bool b,v,u,h,r=>by
  unfold RdV at h;subst h
  cases (show u=Value.bool b from r);exact⟨_,.bool b⟩
 | .int i,v,u,h,r=>by
  unfold RdV at h;subst h
  obtain⟨t,rfl⟩:=(show ∃t,u=Value.int i t from r);exact⟨_,.int i t⟩
 | .str x,v,u,h,r=>by
  unfold RdV at h;subst h
  obtain⟨t,rfl⟩:=(show ∃t,u=Value.str x t from r);exact⟨_,.str x t⟩
 | .list ds,v,u,h,r=>by
  unfold RdV at h
  obtain⟨a,xs,rfl,hs,hr⟩:=h
  cases (show u=Value.ref a from r)
  obtain⟨its,rv,pl,_⟩:=I.list hs
  obtain⟨o,ho,hc,n,hd⟩:=pl.isList
  obtain⟨as,ra⟩:=nk I hr rv
  exact⟨_,.list ho hc hd (by simpa using ra)⟩
 | .tuple ds,v,u,h,r=>by
  unfold RdV at h
  obtain⟨a,xs,rfl,hs,hr⟩:=h
  cases (show u=Value.ref a from r)
  obtain⟨its,rv,⟨o,ho,hc,n,hd⟩,_⟩:=I.tuple hs
  obtain⟨as,ra⟩:=nk I hr rv
  exact⟨_,.tuple ho hc hd (by simpa using ra)⟩
 | .dict _,v,u,h,r=>by unfold RdV at h;exact h.elim
theorem nk{pins:List (Addr×Obj)}{σ:St}{H:Hp}{s:Shared}(I:Inv X pins σ H s):∀{ds:List PyData} {xs:List V} {us:List Value},nM X.K H ds xs->Vals xs us->∃as,ReadsAll s.heap us ds as
 | [],xs,us,h,r=>by
  unfold nM at h;subst h
  cases r;exact⟨_,.nil⟩
 | d::ds,xs,us,h,r=>by
  unfold nM at h
  obtain⟨v,w,rfl,h1,h2⟩:=h
  cases r with
  | cons r1 r2=>
   obtain⟨as,a1⟩:=kg I h1 r1
   obtain⟨bs,a2⟩:=nk I h2 r2
   exact⟨_,.cons a1 a2⟩
end
def FP(K:PySem.W.Frag):R2:=λx y H Q=>∃d e,RdV K H d x/\RdV K H e y/\SeqAt.shaped d=true/\SeqAt.shaped e=true/\Q (.bl (PyData.eqv d e)) H
def Gy(K:PySem.W.Frag):R2:=λx y H Q=>∃d e,RdV K H d x/\RdV K H e y/\SeqAt.shaped d=true/\SeqAt.shaped e=true/\Q (.bl (!PyData.eqv d e)) H
theorem Fe(hu:X.A.units+64<cLine):OpR X (compareOp .Eq) (FP X.K):=by
 intro pins s σ H x y v u Q I rx ry h
 obtain⟨d,e,h1,h2,s1,s2,q⟩:=h
 obtain⟨as,ra⟩:=kg I h1 rx
 obtain⟨bs,rb⟩:=kg I h2 ry
 exact SeqAt.compareEq_shaped ra rb s1 s2 hu ⟨.bl _,H,I,rfl,q⟩
theorem GD(hu:X.A.units+64<cLine):OpR X (compareOp .NotEq) (Gy X.K):=by
 intro pins s σ H x y v u Q I rx ry h
 obtain⟨d,e,h1,h2,s1,s2,q⟩:=h
 obtain⟨as,ra⟩:=kg I h1 rx
 obtain⟨bs,rb⟩:=kg I h2 ry
 exact SeqAt.compareNe_shaped ra rb s1 s2 hu ⟨.bl _,H,I,rfl,q⟩
def Hm(K:PySem.W.Frag)(H:Hp)(x:V)(T:String):Prop:=match x with
 | .non=>T="NoneType"
 | .bl _=>T="bool"
 | .int _=>T="int"
 | .str _=>T="str"
 | .ref a=>(T="list" /\∃xs,SqL K H a xs)\/(T="tuple" /\∃xs,SqT K H a xs)
 | _=>False
def CU(K:PySem.W.Frag):List V->Hp->VK->Prop:=λxs H Q=>∃x c T b,xs=[x,.ty c]/\Hm K H x T/\PySem.W.kitOne K (.type T) (.type c)=some b/\Q (.bl b) H
theorem rF:fP X (.builtin "isinstance") (CU X.K):=by
 intro pins s σ H xs us Q I r h
 obtain⟨x,c,T,b,rfl,hT,hk,q⟩:=h
 obtain⟨u,w,rfl,r1,r2⟩:=vals2 r
 cases (show w=Value.type c from r2)
 have fin:∀tk,EP X pins σ Q (.bool b) {s with toks:=tk}:=λtk=>⟨.bl b,H,I.tok tk,rfl,q⟩
 cases x with
 | non=>cases (show u=Value.none from r1);cases (show T="NoneType" from hT);exact PySem.W.kia_one PySem.W.kitx_none I.kIn True.intro hk (λz=>nomatch z) fin
 | bl y=>cases (show u=Value.bool y from r1);cases (show T="bool" from hT);exact PySem.W.kia_one PySem.W.kitx_bool I.kIn True.intro hk (λz=>nomatch z) fin
 | int i=>obtain⟨t,e⟩:=(show ∃t,u=Value.int i t from r1);cases e;cases (show T="int" from hT);exact PySem.W.kia_one PySem.W.kitx_int I.kIn True.intro hk (λz=>nomatch z) fin
 | str y=>obtain⟨t,e⟩:=(show ∃t,u=Value.str y t from r1);cases e;cases (show T="str" from hT);exact PySem.W.kia_one PySem.W.kitx_str I.kIn True.intro hk (λz=>nomatch z) fin
 | ref a=>
  cases (show u=Value.ref a from r1)
  rcases hT with⟨rfl,xs,hs⟩ | ⟨rfl,xs,hs⟩
  ·obtain⟨its,rv,⟨o,n,ho,hc,_⟩,_⟩:=I.list hs
   exact PySem.W.kia_one PySem.W.kitx_list I.kIn ⟨o,ho,hc⟩ hk (λz=>nomatch z) fin
  ·obtain⟨its,rv,⟨o,ho,hc,_⟩,_⟩:=I.tuple hs
   exact PySem.W.kia_one PySem.W.kitx_tuple I.kIn ⟨o,ho,hc⟩ hk (λz=>nomatch z) fin
 | byt y=>exact False.elim hT
 | flt y=>exact False.elim hT
 | ty y=>exact False.elim hT
end
end L2
set_option maxRecDepth 100000
set_option maxHeartbeats 4000000
namespace L2
open PySem PySem.Spec PyProof.Rows
structure pF(S:List Addr)(e:Addr)(oe:Obj)(h h':Heap)(T:Addr):Prop where
 keep:∀b o,h.get? b=some o->b∉S->b≠e->h'.get? b=some o
 slot:∀b o,h.get? b=some o->b∈S->∃sl,h'.get? b=some {o with slots:=sl}
 new:h.objs.size<=T
 ne:T≠e
 exc:∃oe' vs,h'.get? e=some oe'/\oe'.cls=oe.cls/\oe'.dict=oe.dict/\oe'.data=.fields vs/\vs[1]? =some (.ref T)
 trc:∃oT ts,h'.get? T=some oT/\oT.data=.fields ts/\ts[3]? =some .none
theorem B6(o:Obj)(f:Array Value->Array Value):(Obj.mapFields f o).dict=o.dict:=by
 unfold Obj.mapFields
 split <;> rfl
section
variable {M : Model} {A : Around} {E : Value → Shared → Prop} {s : Shared}
theorem wb {base:Heap} {env:Env} {outer:List Env} {L e:Addr} {oe:Obj} {vs:Array Value} {head:Value} {hadNext:Bool} {Q:Unit->Shared->Prop} (hfr:A.frames=some (env::outer))
 (hl:s.heap.FunFrames base (env::outer)) (hf:env.frame=some L) (he:s.heap.get? e=some oe) (hd:oe.data=.fields vs) (hsz:1<vs.size)
 (h:∀h' T,pF (frs (env::outer)) e oe s.heap h' T->Q () {s with heap:=h'}):
 wpAny M A (do
  let a <- frameOf env
  let pl <- entryPlaceOf L hadNext
  let b <- EntryCells.newEntry head a .none (rawInt L) .none pl
  setField (.ref e) 1 b) (λ_ s'=>wpAny M A (setFlight (.ref e) none) Q E s') E s:=by
 have out:e∉frs (env::outer):=λhm=>by
  obtain⟨_,o,ho,hnf⟩:=hl.mem hm
  cases he.symm.trans ho
  exact hnf vs hd
 refine wpAny_bind (wpAny_frameOf_fun hfr hl hf λh1 x1=>wpAny_bind (wpAny_entryPlaceOf λpl hpl=> ?_))
 unfold EntryCells.newEntry newFields
 refine wpAny_bind (wpAny_newObj_type ?_ (hpl.sizeOk5 _ _ _ _ _))
 generalize hob:({cls:=.type "traceback",dict:=none,data:=.fields ([head,.ref L,.none,rawInt L,.none]++(if pl.isEmpty then List.replicate 6 Value.none else pl)).toArray}:Obj)=ob
 have e1:h1.get? e=some oe:=(x1.2.1 e out).trans he
 have e2:(h1.push ob).get? e=some oe:=Heap.get?_push_of_some ob e1
 refine wpAny_setField e2 hd hsz ?_
 have ne:h1.objs.size≠e:=Nat.ne_of_gt (Heap.lt_size e1)
 have d3:=Obj.data_mapFields hd (·.setIfInBounds 1 (Value.ref h1.objs.size))
 have e3:=Heap.get?_update_self (Obj.mapFields (·.setIfInBounds 1 (Value.ref h1.objs.size))) e2 (Obj.isFreed_of_fields d3)
 have obd:ob.data=.fields ([head,.ref L,.none,rawInt L,.none]++(if pl.isEmpty then List.replicate 6 Value.none else pl)).toArray:=by rw[<- hob]
 have t2:(h1.push ob).get? h1.objs.size=some ob:=Heap.get?_push_size h1 (by rw[<- hob];rfl)
 have t3:=(Heap.get?_update_other (h1.push ob) (Obj.mapFields (·.setIfInBounds 1 (Value.ref h1.objs.size))) (Ne.symm ne)).trans t2
 unfold setFlight
 refine wpAny_bind (wpAny_field e3 d3 (x:=.ref h1.objs.size) (by simp[hsz]) ?_)
 rw[if_pos (by simp)]
 refine wpAny_setField t3 obd (by simp only[List.size_toArray,List.length_append,List.length_cons,List.length_nil];omega) (h _ h1.objs.size ?_)
 have kp:∀b o,b≠e->h1.get? b=some o->(((h1.push ob).update e (Obj.mapFields (·.setIfInBounds 1 (Value.ref h1.objs.size)))).update h1.objs.size (Obj.mapFields (·.setIfInBounds 3 ((none:Option Addr).elim Value.none λf=>rawInt f)))).get? b=some o:=λb o n1 hb=>by
  rw[Heap.get?_update_other _ _ (Nat.ne_of_gt (Heap.lt_size hb)),Heap.get?_update_other _ _ (Ne.symm n1)]
  exact Heap.get?_push_of_some ob hb
 refine⟨λb o hb hS hbe=>kp b o hbe ((x1.2.1 b hS).trans hb),λb o hb hS=> ?_,Nat.le_of_eq x1.1.symm,ne,⟨_,_, ?_,Obj.cls_mapFields _ _,B6 _ _,d3,by simp[hsz]⟩,⟨_,_,Heap.get?_update_self _ t3 (Obj.isFreed_of_fields (Obj.data_mapFields obd _)),Obj.data_mapFields obd _, ?_⟩⟩
 ·obtain⟨sl,q⟩:=x1.2.2 b o hb
  exact⟨sl,kp b _ (λz=>out (z▸hS)) q⟩
 ·rw[Heap.get?_update_other _ _ ne];exact e3
 ·first | (simp;done) | (rcases hpl with rfl | ⟨_,_,_,_,_,_,_,rfl⟩ <;> simp)
theorem xZ {base:Heap} {env:Env} {outer:List Env} {L e:Addr} {oe:Obj} {vs:Array Value} {Q:Unit->Shared->Prop} (hfr:A.frames=some (env::outer)) (hl:s.heap.FunFrames base (env::outer)) (hf:env.frame=some L)
 (he:s.heap.get? e=some oe) (hd:oe.data=.fields vs) (h1:vs[1]? =some .none) (h:∀h' T,pF (frs (env::outer)) e oe s.heap h' T->Q () {s with heap:=h'}):wpAny M A (leaving env (.ref e)) Q E s:=by
 unfold leaving noteFrame
 simp only[hf]
 refine wpAny_bind (wpAny_bind (wpAny_field he hd h1 ?_))
 rw[if_neg (by decide)]
 exact wb hfr hl hf he hd (Array.getElem?_eq_some_iff.mp h1).1 h
structure Trc(h:Heap)(e:Addr)(oe:Obj)(T:Addr):Prop where
 exc:h.get? e=some oe
 dat:∃vs,oe.data=.fields vs/\vs[1]? =some (.ref T)
 ne:T≠e
 trc:∃oT ts,h.get? T=some oT/\oT.data=.fields ts/\ts[3]? =some .none
theorem uC {base:Heap} {env:Env} {outer:List Env} {L e T0:Addr} {oe:Obj} {Q:Unit->Shared->Prop} (hfr:A.frames=some (env::outer)) (hl:s.heap.FunFrames base (env::outer)) (hf:env.frame=some L)
 (ht:Trc s.heap e oe T0) (h:∀h1 h' T,(∀b,b≠T0->h1.get? b=s.heap.get? b)->h1.objs.size=s.heap.objs.size->pF (frs (env::outer)) e oe h1 h' T->Q () {s with heap:=h'}):
 wpAny M A (noteFrame (.ref e) env) (λ_ s'=>wpAny M A (setFlight (.ref e) none) Q E s') E s:=by
 obtain⟨he,⟨vs,hd,h1⟩,hne,oT,ts,hT,hdT,h3⟩:=ht
 unfold noteFrame
 simp only[hf]
 refine wpAny_bind (wpAny_field he hd h1 ?_)
 rw[if_pos (by simp)]
 refine wpAny_bind (wpAny_field hT hdT h3 ?_)
 rw[if_neg (by simp[rawInt])]
 refine wpAny_bind (wpAny_setField hT hdT (Array.getElem?_eq_some_iff.mp h3).1 ?_)
 have oth:∀b,b≠T0->(s.heap.update T0 (Obj.mapFields (·.setIfInBounds 3 Value.none))).get? b=s.heap.get? b:=λb hb=>Heap.get?_update_other _ _ (Ne.symm hb)
 refine wb (base:=base) hfr (hl.of_keeps λb o hb hnf=>⟨o,(oth b λq=> ?_).trans hb,rfl⟩) hf ((oth e (Ne.symm hne)).trans he) hd (Array.getElem?_eq_some_iff.mp h1).1 λh' T x=>h _ h' T oth (Heap.size_after_update ..) x
 subst q
 cases hT.symm.trans hb
 exact hnf ts hdT
theorem zI {base:Heap} {env:Env} {outer:List Env} {L e T0:Addr} {oe:Obj} {Q:Unit->Shared->Prop} (hfr:A.frames=some (env::outer)) (hl:s.heap.FunFrames base (env::outer)) (hf:env.frame=some L)
 (ht:Trc s.heap e oe T0) (h:∀h1 h' T,(∀b,b≠T0->h1.get? b=s.heap.get? b)->h1.objs.size=s.heap.objs.size->pF (frs (env::outer)) e oe h1 h' T->Q () {s with heap:=h'}):wpAny M A (leaving env (.ref e)) Q E s:=by
 unfold leaving
 exact wpAny_bind (uC hfr hl hf ht h)
end
end L2
set_option maxRecDepth 100000
set_option maxHeartbeats 4000000
namespace L2
open PySem PySem.Spec PyProof.Rows
theorem fD.there{P:Program}{w:World}{H:Hp}{h:Heap}{a:Addr}{o:HO}(x:fD P w H h a o):∃u,h.get? a=some u:=by
 cases o with
 | lst xs=>exact let ⟨_,_,_,_,e⟩:=x;⟨_,e⟩
 | tup xs=>exact let ⟨_,_,_,ob,e,_⟩:=x;⟨_,e⟩
 | dK kvs=>exact let ⟨_,_,_,_,ob,_,_,e,_⟩:=x;⟨_,e⟩
 | dT kvs=>exact let ⟨_,_,_,_,ob,_,_,e,_⟩:=x;⟨_,e⟩
 | set S n=>exact let ⟨ob,_,_,_,e,_⟩:=x;⟨_,e⟩
 | ins C dx fs=>exact let ⟨_,_,_,e,_⟩:=x;⟨_,e⟩
 | own y=>exact x
 | xd fs=>exact let ⟨_,⟨_,_,_,e,_⟩,_⟩:=x;⟨_,e⟩
 | rng lo hi=>exact let ⟨_,_,_,e⟩:=x;⟨_,e⟩
 | frz ob u=>exact let ⟨e,_⟩:=x;⟨_,e⟩
 | tbl ps=>exact⟨_,x⟩
 | met f y=>exact⟨_,x⟩
 | ext φ=>exact x.2.1
theorem HOk.free{P:Program}{w:World}{H:Hp}{h:Heap}{a:Addr}(x:HOk P w H h)(n:h.get? a=none):H a=none:=by
 cases e:H a with
 | none=>rfl
 | some o=>
  obtain⟨u,hu⟩:=(x a o e).there
  rw[n] at hu;cases hu
structure DA(P:Program)(w:World)(fs:List Addr)(H:Hp)(h:Heap)(x:Addr)(H':Hp)(h':Heap)(oe:Obj)(T C:Addr):Prop where
 un:Un fs [] H H' h h'
 hok:HOk P w H' h'
 nx:h.get? x=none
 nT:h.get? T=none
 hx:H' x=none
 hT:H' T=none
 tr:Trc h' x oe T
 cls:oe.cls=.ref C
def CXE(P:Program)(w:World):CXT:=λouter H s E e s'=>∃x oe T H' C,e=.ref x/\s'.os=s.os/\AllBare s'.gens/\DA P w (frs outer) H s.heap x H' s'.heap oe T C/\E (.ref C) oe.dict H'
section
variable {X : Cx} {pins : List (Addr × Obj)} {σ : St} {H : Hp} {s : Shared}
theorem Inv.old(I:Inv X pins σ H s)(hex:X.ex=[]){a:Addr}(n:s.heap.get? a=none):X.s₀.heap.get? a=none:=by
 cases e:X.s₀.heap.get? a with
 | none=>rfl
 | some o=>
  obtain⟨o',q⟩:=I.base.there a o e (by rw[hex];simp)
  rw[n] at q;cases q
theorem nW {x T0 T C:Addr} {oe:Obj} {h1 h':Heap} (I:Inv X pins σ H s) (hstk:X.stack=X.env::X.outer) (hfr:X.env.frame=some X.env.locals) (hex:X.ex=[]) (hx0:X.s₀.heap.get? x=none) (hx:H x=none)
 (hT0:X.s₀.heap.get? T0=none) (hHT0:H T0=none) (h01:∀b,b≠T0->h1.get? b=s.heap.get? b) (hsz:h1.objs.size=s.heap.objs.size) (xl:pF (frs X.stack) x oe h1 h' T) (hc:oe.cls=.ref C):
 ∃oe',DA X.prog X.w X.fs X.H₀ X.s₀.heap x H h' oe' T C/\oe'.dict=oe.dict:=by
 have sub:∀b∈X.fs,b∈frs X.stack:=λb hb=>by
  rw[hstk]
  show b∈(X.env::X.outer).filterMap (·.frame)
  rw[List.filterMap_cons,hfr]
  exact List.mem_cons_of_mem _ hb
 have nex:∀b:Addr,b∉X.ex:=λb z=>by rw[hex] at z;cases z
 have ne0:∀b o,X.s₀.heap.get? b=some o->b≠T0/\b≠x/\b≠X.env.locals:=λb o e=>⟨λz=>(by rw[z,hT0] at e;cases e),λz=>(by rw[z,hx0] at e;cases e),Nat.ne_of_lt (Nat.lt_of_lt_of_le (Heap.lt_size e) I.ok.above)⟩
 obtain⟨oe',vs,e1,e2,e3,e4,e5⟩:=xl.exc
 have nT:s.heap.objs.size<=T:=hsz▸xl.new
 have gT:X.s₀.heap.get? T=none:=by
  cases e:X.s₀.heap.get? T with
  | none=>rfl
  | some o=>exact absurd (Nat.lt_of_lt_of_le (Heap.lt_size e) (Nat.le_trans I.sz nT)) (Nat.lt_irrefl _)
 refine⟨oe',⟨⟨λb o e n hb _=> ?_,λb o e n hb _=> ?_,λb o e n _=>I.base.free b o e n (nex b),λb o e _=> ?_,I.base.tups,I.base.frzs,I.base.tbls⟩,λa o e=> ?_,hx0,gT,hx,I.hok.fresh nT,⟨e1,⟨vs,e4,e5⟩,xl.ne,xl.trc⟩,e2.trans hc⟩,e3⟩
 ·obtain⟨n1,n2,n3⟩:=ne0 b o e
  refine xl.keep b o ((h01 b n1).trans (I.base.keep b o e n hb (nex b))) (λz=> ?_) n2
  rcases List.mem_cons.mp (I.stkSub b z) with q | q
  ·exact n3 q
  ·exact hb q
 ·obtain⟨n1,n2,n3⟩:=ne0 b o e
  obtain⟨sl,q⟩:=I.base.slot b o e n hb (nex b)
  obtain⟨sl',q'⟩:=xl.slot b _ ((h01 b n1).trans q) (sub b hb)
  exact⟨sl',q'⟩
 ·obtain⟨n1,n2,n3⟩:=ne0 b o e
  obtain⟨o',q⟩:=I.base.there b o e (nex b)
  by_cases hb:b∈frs X.stack
  ·obtain⟨sl',q'⟩:=xl.slot b _ ((h01 b n1).trans q) hb
   exact⟨_,q'⟩
  ·exact⟨o',xl.keep b o' ((h01 b n1).trans q) hb n2⟩
 ·refine(I.hok a o e).stay (λb u hb q=> ?_) (λ_ q=>q) λ_ _ q=>q
  have tr:∃v,H b=some v:=by
   rcases hb with rfl | hb
   ·exact⟨o,e⟩
   ·exact⟨_,hb⟩
  obtain⟨v,hv⟩:=tr
  refine xl.keep b u ((h01 b λz=> ?_).trans q) (λz=> ?_) λz=> ?_
  ·rw[z,hHT0] at hv;cases hv
  ·rw[I.stkFree b z] at hv;cases hv
  ·rw[z,hx] at hv;cases hv
end
section
variable {P : Program} {w : World} {K : PySem.W.Frag} {mg : Str → Option Value} {base : Heap} {N : List Str} {qual : Str} {scope : Scope} {f : Addr} {cd : Value} {A : Around} {outer : List Env} {s0 : Shared} {H0 : Hp} {E : XK}
theorem Hg:Passes (CXE P w) (kx (CXE P w) P w K mg base N qual scope f cd A outer s0 H0 E) E:=by
 intro pins σ H s e s' I ⟨x,oe,T0,H',C,he,os,bare,fl,hE⟩
 subst he
 have J:=I.call' os fl.un fl.hok bare (λb z=>absurd z (by simp))
 have hx0:=I.old rfl fl.nx
 have hT0:=I.old rfl fl.nT
 refine zI (base:=base) (L:=s0.heap.objs.size) J.ok.frames J.stack rfl fl.tr λh1 h' T h01 hsz xl=> ?_
 obtain⟨oe',fl',hd⟩:=nW J rfl rfl rfl hx0 fl.hx hT0 fl.hT h01 hsz xl fl.cls
 exact⟨x,oe',T,H',C,rfl,J.os,J.bare,fl',by rw[hd];exact hE⟩
def Raises(X:Cx)(E:XK):Prop:=∀(pins:List (Addr×Obj)) (σ:St) (H:Hp) (s:Shared) (h':Heap) (x C:Addr) (args:List Value),Inv X pins σ H s->Heap.MadeExcOf s.heap h' x (.ref C) args->E (.ref C) none H->X.xe (.ref x) {s with heap:=h'}
theorem wV:Raises (kx (CXE P w) P w K mg base N qual scope f cd A outer s0 H0 E) E:=by
 intro pins σ H s h' x C args I m hE
 have J:Inv (kx (CXE P w) P w K mg base N qual scope f cd A outer s0 H0 E) pins σ H {s with heap:=h'}:=I.kept (t':=s.toks) m.keeps
 have hx0:=I.old rfl m.new
 have hx:=I.hok.free m.new
 obtain⟨t,e1,_,_⟩:=m.there
 refine xZ (base:=base) (L:=s0.heap.objs.size) J.ok.frames J.stack rfl e1 rfl rfl λh2 T xl=> ?_
 obtain⟨oe',fl',hd⟩:=nW J rfl rfl rfl hx0 hx hx0 hx (λ_ _=>rfl) rfl xl rfl
 exact⟨x,oe',T,H,C,rfl,J.os,J.bare,fl',by rw[hd];exact hE⟩
end
end L2
set_option maxRecDepth 100000
set_option maxHeartbeats 4000000
namespace L2
open PySem PySem.Spec PyProof.Rows
abbrev bmV:List Value:=[.type "ValueError",.type "Exception",.type "BaseException",.type "object"]
theorem Eh{K:PySem.W.Frag}{h:Heap}{C:Addr}{bmB:List Value}{newId:String}(X:K.In h)(q:PySem.W.excIn K C bmB newId=true):
 ∃bm N nm qn bs hd sn sub ab col dd k0 k1 k2 k3 k5 mN,h.get? C=some (excClassObj nm qn C N bs bm hd sn sub ab col dd k0 k1 k2 k3 k5 newId)/\h.Ns N mN/\mN "__init__" =none/\OwnTail h bmB bm:=by
 unfold PySem.W.excIn at q
 split at q
 ·rename_i dd cd sl look
  split at q
  ·rename_i C' bm k0 k1 k2 k3 n k5 em es
   simp only[Bool.and_eq_true,beq_iff_eq,Bool.not_eq_true'] at q
   obtain⟨⟨⟨⟨⟨q1,q2⟩,q3⟩,q4⟩,q5⟩,q6⟩:=q
   subst q1;subst q2
   obtain⟨nm,bs,mro,ns,qn,hd,sn,sub,ab,col,del⟩:=cd
   simp only at em q3 q5 q6
   subst em;subst q3
   obtain⟨l⟩:=sl
   simp only at es
   subst es
   refine⟨bm,ns,nm,qn,bs,hd,sn,sub,ab,col,dd,k0,k1,k2,k3,k5,h.nsMap ns,X _ _ look, ?_, ?_,PySem.W.tail_of_in X q4⟩
   ·exact Heap.Ns.of_isNs (PySem.W.isNs_of_in X q5)
   ·exact PySem.W.nsMap_none_of_in X q5 q6
  ·cases q
 ·cases q
def AA(C:Addr)(E:XK)(t:TA):TS:=λ_ σ H=>t σ H λvs H1=>vs.length<=sizeLine/\E (.ref C) none H1
section
variable {X : Cx} {E : XK} {c : Str} {C : Addr} {np cpos pos : Pos} {e : Expr} {es : List Expr} {t : TA} {B newId initId : String} {bmB : List Value}
theorem rB (hx:Raises X E) (hq:PySem.W.excIn X.K C bmB newId=true) (FB:ExcBaseFacts B newId initId bmB) (hcalm:X.calm=true) (hg:Gl X c) (hm:X.mg c=some (.ref C)) (ha:PA X (e::es) t)
 (hdb:(c == ("__debug__" :Str))=false:=by decide) (he:starEach (e::es) X.env=(false,eval e X.env)::starEach es X.env:=by rfl) (hpl:(backTo cpos (starEach es X.env)).any (·.1)=false:=by rfl):
 PS X (.Raise (some (.Call (.Name c np) (e::es) [] cpos)) none pos) (AA C E t):=by
 intro pins s σ H D I h
 obtain⟨bm,N,nm,qn,bs,hd,sn,sub,ab,col,dd,k0,k1,k2,k3,k5,mN,g1,g2,g3,g4⟩:=Eh I.ok.mod.kin hq
 refine wpAny_Raise_call_subT (C:=C) (nm:=nm) (q:=qn) (N:=N) (bs:=bs) (bm:=bm) (hdct:=hd) (sn:=sn) (sub:=sub) (ab:=ab) (col:=col) (dd:=dd) (k0:=k0) (k1:=k1) (k2:=k2) (k3:=k3) (k5:=k5)
  FB (mN:=mN) (g4.hasType FB.hasBase) (I.ok.hd hcalm) ?_ g3 (mX I hg hm ⟨rfl, ?_⟩ hdb)
 ·rw[he]
  show (false||_)=false
  rw[Bool.false_or];exact hpl
 ·have z:=ha cpos pins s σ H _ I h
  rw[he] at z ⊢
  refine Calls.evalArgs_plain (thn z λus s2 ⟨vs,H1,I1,r,hl,hE⟩=>⟨rfl,by rw[<- r.length];exact hl,I1.bk _ _ g1,g2.keeps I1.bk,g4.keeps I1.bk,λh' x m=>hx pins σ H1 s2 h' x C us I1 m hE⟩)
end
section
variable {P : Program} {w : World} {K : PySem.W.Frag} {mg : Str → Option Value} {base : Heap}
theorem Fun.okE {CX:CXT} {x qual:Str} {st:Stmt} {f:Addr} {fd:FuncData} {N ps:List Str} {k:Nat} {sp:Sp} (F:Fun K x qual st f fd) (S:bg N ps (aD st)) (len:∀vs H Q E,sp vs H Q E->vs.length=ps.length)
 (hb:∀(cdv:Value) (A:Around) (outer:List Env) (s:Shared) (H:Hp) (vs:List V) (Q:VK) (E:XK),dP k (A.deeper (envOfC qual (aD st) s.heap.objs.size f cdv))->sp vs H Q E->
  ∃t,PSs (kx CX P w K mg base N qual (aD st) f cdv A outer s H E) (aW st) t/\t {nx:=λ_ H'=>Q .non H',rt:=Q} (start N vs) H):fV P w K mg base CX (k+1) f fd ps sp:=by
 obtain⟨oc,od,kV,doc,pm,an,cdv,ct,osl,rfl,look,hcd⟩:=F.ex
 exact Dx look hcd S len (hb cdv)
end
theorem BN {l:PySem.W.OpenLaw} {n k:Nat} {q:Program} {loose:List Str} {XP:(Str->Option Value)->Heap->Prop} {YP:World->Heap->Prop} {d:DefRec} {K:Params->PySem.W.Frag} {sp:PySem.W.Frag->Sp} {x:Str} (hn:l.most=some n) (hn2:n<=sizeLine)
 (hdf:d.params.defaults=[]) (hr:dP k callerA) (hi:importsNone q=true) (hY:∀(w:World) (h:Heap),YP w h->(K w.params).In h) (F:∀(w:World) (mg:Str->Option Value) (fa:Addr) (h:Heap),(K w.params).In h->h.Ns mainGlobals mg->mg d.name=some (.ref fa)->
  ∃fd:FuncData,(∀(s:Shared) (u:Value),BindsTo s fd ⟨[u],[]⟩ [(x,u)])/\∀base:Heap,(K w.params).In base->base.Ns mainGlobals mg->fV l.prog w (K w.params) mg base (CXE l.prog w) k fa fd [x] (sp (K w.params)))
 (hsp:∀(K:PySem.W.Frag) (H:Hp) (a:Addr) (ns:List Int),ns.length<=n->zO H->SqL K H a (ns.map V.int)->sp K [.ref a] H (λv _=>v=.bl true) λ_ _ _=>False):PySem.W.WalkO q loose XP YP l.row.toRowW d [] (λf vs=>PySem.call f vs):=
 D2 (K:=K) (CX:=λw=>CXE l.prog w) (sp:=λw=>sp (K w.params)) hn hn2 hdf hr hi hY F (λw H a ns h1 h2 h3=>hsp (K w.params) H a ns h1 h2 h3) λ_ _ _ _ _ ⟨_,_,_,_,_,_,_,_,_,z⟩=>z
end L2
set_option maxRecDepth 100000
set_option maxHeartbeats 4000000
namespace L2
open PySem PySem.Spec PyProof.Rows
def z3(sp:Sp)(dvs:List V)(Es:St->XK)(t:TA):TE:=λσ H Q=>t σ H λvs H1=>sp (vs++dvs) H1 Q (Es σ)
def mF(CX:CXT)(X:Cx)(Es:St->XK):Prop:=∀(pins:List (Addr×Obj)) (σ:St) (H:Hp) (s:Shared) (e:Value) (s':Shared),Inv X pins σ H s->CX X.stack H s (Es σ) e s'->X.xe e s'
theorem Passes.s{CX:CXT}{X:Cx}{E:XK}(h:Passes CX X E):mF CX X λ_=>E:=h
section
variable {X : Cx} {CX : CXT} {k : Nat} {f C : Addr} {fd : FuncData} {ps : List Str} {sp : Sp} {dvs : List V} {ds : List Value} {Es : St → XK} {x m : Str} {p pos apos : Pos} {e o : Expr} {es : List Expr} {ta : TE} {t : TA}
theorem Ed {pins:List (Addr×Obj)} {σ:St} {H:Hp} {s:Shared} {Q:VK} {us:List Value} {vs:List V} (F:fV X.prog X.w X.K X.mg X.base CX k f fd ps sp) (hr:dP k X.A) (hb:Binds X.K fd ps ds) (hd:Vals dvs ds) (hx:mF CX X Es)
 (I:Inv X pins σ H s) (r:Vals vs us) (h:sp (vs++dvs) H Q (Es σ)):wpAny (model X.prog X.w) X.A (call (.ref f) us) (EP X pins σ Q) X.xe s:=by
 have r2:Vals (vs++dvs) (us++ds):=r.append hd
 have hl:(us++ds).length=ps.length:=r2.length▸F.len _ _ _ _ h
 refine wpAny_call (codeAny_mono (F.run X.A X.stack s H ⟨us,[]⟩ (us++ds) (vs++dvs) Q (Es σ) hr I.env0 (hb s us I.kIn hl) r2 h) λres s' z=> ?_)
 match res,z with
 | .error e,z=>exact hx pins σ H s e s' I z
 | .ok (.ret u),z=>exact I.after z
theorem vG (F:fV X.prog X.w X.K X.mg X.base CX k f fd ps sp) (hr:dP k X.A) (hg:Gl X x) (hm:X.mg x=some (.ref f)) (hk:PySem.W.keepIn X.K (.ref f)=true) (hb:Binds X.K fd ps ds) (hd:Vals dvs ds) (hx:mF CX X Es)
 (ha:PA X (e::es) t) (hdb:(x == ("__debug__" :Str))=false:=by decide) (he:starEach (e::es) X.env=(false,eval e X.env)::starEach es X.env:=by rfl) (hpl:(backTo pos (starEach es X.env)).any (·.1)=false:=by rfl):
 PE X (.Call (.Name x p) (e::es) [] pos) (z3 sp dvs Es t):=λpins s σ H Q I h=>
 wpAny_Call_Name_kw (mX I hg hm (PySem.W.callWith_K (h₀:=X.base) I.ok.mod.kin hk (thn (ha pos pins s σ H _ I h) λus s1 ⟨vs,H1,I1,r,q⟩=>⟨I1.kIn,Ed F hr hb hd hx I1 r q⟩) he hpl) hdb)
end
abbrev Cx.pinned(X:Cx)(p:List (Addr×Obj))(E:Value->Shared->Prop):Cx:={X with pn:=p,xe:=E}
theorem Cx.Ok.pinned{X:Cx}(ok:X.Ok)(p:List (Addr×Obj))(E:Value->Shared->Prop):(X.pinned p E).Ok:=⟨ok.mod,ok.kind,ok.glob,ok.blt,ok.above,ok.inj,ok.has,ok.cab,ok.hd,ok.frames,ok.stk,ok.exf,ok.bs,ok.bsz,ok.noex,ok.exfs,ok.funs,ok.frf⟩
theorem Cx.Ok.unpinned{X:Cx}{p:List (Addr×Obj)}{E:Value->Shared->Prop}(ok:(X.pinned p E).Ok):X.Ok:=⟨ok.mod,ok.kind,ok.glob,ok.blt,ok.above,ok.inj,ok.has,ok.cab,ok.hd,ok.frames,ok.stk,ok.exf,ok.bs,ok.bsz,ok.noex,ok.exfs,ok.funs,ok.frf⟩
section
variable {X : Cx} {pins : List (Addr × Obj)} {σ : St} {H : Hp} {s : Shared} {E : Value → Shared → Prop}
theorem Inv.toPinned(I:Inv X pins σ H s)(E:Value->Shared->Prop):Inv (X.pinned (X.pn++pins) E) [] σ H s:=
 ⟨I.ok.pinned _ _,I.os,I.bare,I.base,I.loc,I.cell,I.free,I.freeC,λp hp=>I.pin p (by simpa using hp),I.hok,I.len⟩
theorem Inv.ofPinned{pins':List (Addr×Obj)}(I:Inv (X.pinned (X.pn++pins) E) pins' σ H s):Inv X pins σ H s:=
 ⟨I.ok.unpinned,I.os,I.bare,I.base,I.loc,I.cell,I.free,I.freeC,λp hp=>I.pin p (List.mem_append_left _ hp),I.hok,I.len⟩
theorem Inv.landed {s1:Shared} {H1:Hp} {x T0 T C:Addr} {oe:Obj} {h1 h':Heap} (I:Inv X pins σ H s) (J:Inv X pins σ H1 s1) (hstk:X.stack=X.env::X.outer) (hfr:X.env.frame=some X.env.locals) (hex:X.ex=[]) (nx:s.heap.get? x=none) (hx:H1 x=none)
 (nT0:s.heap.get? T0=none) (hT0:H1 T0=none) (h01:∀b,b≠T0->h1.get? b=s1.heap.get? b) (hsz:h1.objs.size=s1.heap.objs.size) (xl:pF (frs X.stack) x oe h1 h' T) (hc:oe.cls=.ref C):Inv X pins σ H1 {s1 with heap:=h'}:=by
 obtain⟨oe',fl,_⟩:=nW J hstk hfr hex (I.old hex nx) hx (I.old hex nT0) hT0 h01 hsz xl hc
 have ne:∀b o,s.heap.get? b=some o->b≠T0/\b≠x:=λb o e=>⟨λz=>(by rw[z,nT0] at e;cases e),λz=>(by rw[z,nx] at e;cases e)⟩
 have mv:∀b u o,s.heap.get? b=some u->s1.heap.get? b=some o->∃sl,h'.get? b=some {o with slots:=sl}:=λb u o e1 e2=>by
  obtain⟨n1,n2⟩:=ne b u e1
  by_cases hb:b∈frs X.stack
  ·exact xl.slot b o ((h01 b n1).trans e2) hb
  ·exact⟨o.slots,xl.keep b o ((h01 b n1).trans e2) hb n2⟩
 have cellK:∀y c,X.env.cells.lookup y=some c->∀v,s1.heap.IsCell c v->h'.IsCell c v:=λy c e v ⟨o,ho,hd⟩=>by
  obtain⟨v0,o0,ho0,_⟩:=I.cell y c e
  obtain⟨sl,q⟩:=mv c o0 o ho0 ho
  exact⟨_,q,hd⟩
 refine⟨J.ok,J.os,J.bare, ?_, ?_,λy c e=> ?_,J.free,J.freeC,λp hp=> ?_,fl.hok,J.len⟩
 ·show Un X.fs X.ex X.H₀ H1 X.s₀.heap h'
  rw[hex];exact fl.un
 ·obtain⟨m,⟨o,es,ep,ho,r⟩,hl⟩:=J.loc
  obtain⟨m0,⟨o0,_,_,ho0,_⟩,_⟩:=I.loc
  obtain⟨sl,q⟩:=mv _ o0 o ho0 ho
  refine⟨m,⟨_,es,ep,q,r⟩,λi y v e1 e2 e3=> ?_⟩
  obtain⟨u,rv,l⟩:=hl i y v e1 e2 e3
  refine⟨u,rv, ?_⟩
  rcases l with l | ⟨k,c,e,z⟩
  ·exact .inl l
  ·exact .inr ⟨k,c,e,cellK y c e _ z⟩
 ·obtain⟨v,z⟩:=J.cell y c e
  exact⟨v,cellK y c e v z⟩
 ·obtain⟨e0,_⟩:=I.pin p hp
  obtain⟨e,n,nl,nf,d⟩:=J.pin p hp
  obtain⟨n1,n2⟩:=ne _ _ e0
  refine⟨xl.keep p.1 p.2 ((h01 _ n1).trans e) (λz=> ?_) n2,n,nl,nf,d⟩
  rcases List.mem_cons.mp (J.stkSub _ z) with q | q
  ·exact nl q
  ·exact nf q
end
end L2
set_option maxRecDepth 100000
set_option maxHeartbeats 4000000
namespace L2
open PySem PySem.Spec PyProof.Rows
def exO(a C:Addr):HO:=.ext λh=>∃o,h.get? a=some o/\o.cls=.ref C/\o.dict=none/\(∀cd,o.data≠ .cls cd)
abbrev Cx.hand(X:Cx)(v:Value):Cx:={X with A:=X.A.mark (some v),calm:=false,xe:=λ_ _=>False}
section
variable {X : Cx} {pins : List (Addr × Obj)} {σ : St} {H : Hp} {s : Shared} {v : Value}
theorem Inv.hand(I:Inv X pins σ H s)(v:Value):Inv (X.hand v) pins σ H s:=
 ⟨⟨I.ok.mod,I.ok.kind,I.ok.glob,I.ok.blt,I.ok.above,I.ok.inj,I.ok.has,I.ok.cab,(λz=>nomatch z),I.ok.frames,I.ok.stk,I.ok.exf,I.ok.bs,I.ok.bsz,I.ok.noex,I.ok.exfs,I.ok.funs,I.ok.frf⟩,I.os,I.bare,I.base,I.loc,I.cell,I.free,I.freeC,I.pin,I.hok,I.len⟩
theorem Inv.unhand(I:Inv (X.hand v) pins σ H s)(ok:X.Ok):Inv X pins σ H s:=⟨ok,I.os,I.bare,I.base,I.loc,I.cell,I.free,I.freeC,I.pin,I.hok,I.len⟩
theorem SP.unhand{D:Ends}{f:Flow}{s':Shared}(ok:X.Ok)(h:SP (X.hand v) pins D f s'):SP X pins D f s':=by
 cases f with
 | next=>exact let ⟨σ',H',I,q⟩:=h;⟨σ',H',I.unhand ok,q⟩
 | brk=>exact let ⟨σ',H',I,q⟩:=h;⟨σ',H',I.unhand ok,q⟩
 | cont=>exact let ⟨σ',H',I,q⟩:=h;⟨σ',H',I.unhand ok,q⟩
 | ret u=>exact let ⟨v,σ',H',I,r,q⟩:=h;⟨v,σ',H',I.unhand ok,r,q⟩
theorem Inv.track{x C:Addr}(I:Inv X pins σ H s)(hx:H x=none)(h0:X.s₀.heap.get? x=none)(hC:∃o,s.heap.get? x=some o/\o.cls=.ref C/\o.dict=none/\∀cd,o.data≠ .cls cd)(nl:x≠X.env.locals)(nc:∀y c,X.env.cells.lookup y=some c->c≠x)(np:∀p∈X.pn++pins,p.1≠x):
 Inv X pins σ (upd H x (exO x C)) s:=by
 have ne:∀b u,H b=some u->b≠x:=λb u e z=>by rw[z,hx] at e;cases e
 have ne0:∀b o,X.s₀.heap.get? b=some o->b≠x:=λb o e z=>by rw[z,h0] at e;cases e
 refine⟨I.ok,I.os,I.bare,⟨I.base.keep,I.base.slot,λb o e n hb=> ?_,I.base.there,λb xs e=> ?_,λb o u e=> ?_,λb ps e=> ?_⟩,I.loc,I.cell, ?_,λy c e=> ?_,λp hp=> ?_,λa o e=> ?_,I.len⟩
 ·rw[aI (ne0 b o e)];exact I.base.free b o e n hb
 ·have:=I.base.tups b xs e
  rw[aI (ne b _ this)];exact this
 ·have:=I.base.frzs b o u e
  rw[aI (ne b _ this)];exact this
 ·obtain⟨more,q⟩:=I.base.tbls b ps e
  exact⟨more,by rw[aI (ne b _ q)];exact q⟩
 ·rw[aI (Ne.symm nl)];exact I.free
 ·rw[aI (nc y c e)];exact I.freeC y c e
 ·obtain⟨q1,q2,q3⟩:=I.pin p hp
  exact⟨q1,by rw[aI (np p hp)];exact q2,q3⟩
 ·by_cases z:a=x
  ·subst z
   rw[bY] at e
   cases e
   obtain⟨o,q1,q2,q4,q3⟩:=hC
   exact⟨⟨o,q1,q2,q4,q3⟩,⟨o,q1⟩,λh1 h2 ⟨o',p1,p2,p3,p4⟩ k=>⟨o',k o' p1,p2,p3,p4⟩⟩
  ·rw[aI z] at e
   refine(I.hok a o e).stay (λ_ _ _ q=>q) (λb q=> ?_) λb xs q=> ?_
   ·rw[aI (ne b _ q)];exact q
   ·rw[aI (ne b _ q)];exact q
theorem name_goes {M:Model} {A:Around} {E:Value->Shared->Prop} {i:Nat} {n:Str} {pos:Pos} {Q:Unit->Shared->Prop} (I:Inv X pins σ H s) (hN:X.N.Nodup) (hi:X.N[i]? =some n) (hl:X.env.scope.names.lookup n=some .local)
 (h:∀s',Inv X pins (σ.set i none) H s'->Q () s'):wpAny M A (do bindName X.env n .none;unbindBehindTheSuite X.env n pos) Q E s:=by
 have hcls:(X.env.scope.kind == .class||(X.env.scope.kind == .module&&X.env.locals != X.env.globals))=false:=by rw[I.ok.kind];rfl
 have hk:X.env.kindOf n=some .local:=hl
 refine wpAny_bind (wpAny_bindName (nt I hN hi (.inl hl) (v:=.non) (u:=.none) rfl (λs1 I1=> ?_) (.inr hl)))
 obtain⟨m,hn,hm⟩:=id I1.loc
 unfold unbindBehindTheSuite
 refine wpAny_onRaise ?_
 unfold unbindName
 refine wpAny_bind (wpAny_point (wpAny_bind ?_))
 unfold deleteName
 simp only[hk,hcls]
 rw[if_neg (by decide)]
 refine wpAny_bind (wpAny_nsDel_keeps hn λh2 w hn2 hs=> ?_)
 have hiσ:i<σ.length:=by rw[I.len];exact(List.getElem?_eq_some_iff.mp hi).1
 have some_n:(m n).isSome=true:=by
  obtain⟨u,r,q⟩:=hm i n .non hi (List.getElem?_set_self hiσ) (.inl hl)
  rcases q with⟨_,q⟩ | ⟨q,_⟩
  ·rw[q];rfl
  ·rw[hk] at q;rcases q with q | q <;> cases q
 rw[some_n]
 simp only[if_true,Bool.not_true,Bool.false_eq_true,if_false]
 refine wpAny_pure (wpAny_point (h _ ?_))
 have hs:Heap.SameBut X.env.locals s1.heap h2:=hs
 refine⟨I1.ok,I1.os,I1.bare,⟨λb o e n hb hx=> ?_,λb o e n hb hx=> ?_,I1.base.free,λb o e hx=> ?_,I1.base.tups,I1.base.frzs,I1.base.tbls⟩,⟨_,hn2,λj y v' e1 e2 e3=> ?_⟩,λy c e=> ?_,I1.free,I1.freeC,λp hp=> ?_,λb ob e=> ?_,by simpa using I.len⟩
 ·exact(hs.2 b (Nat.ne_of_lt (Nat.lt_of_lt_of_le (Heap.lt_size e) I.ok.above))).trans (I1.base.keep b o e n hb hx)
 ·obtain⟨sl,e1⟩:=I1.base.slot b o e n hb hx
  exact⟨sl,(hs.2 b (Nat.ne_of_lt (Nat.lt_of_lt_of_le (Heap.lt_size e) I.ok.above))).trans e1⟩
 ·obtain⟨o',e1⟩:=I1.base.there b o e hx
  exact⟨o',(hs.2 b (Nat.ne_of_lt (Nat.lt_of_lt_of_le (Heap.lt_size e) I.ok.above))).trans e1⟩
 ·by_cases hj:i=j
  ·subst hj
   rw[List.getElem?_set_self hiσ] at e2;cases e2
  ·rw[List.getElem?_set_ne hj] at e2
   obtain⟨u,r,q⟩:=hm j y v' e1 (by rw[List.getElem?_set_ne hj];exact e2) e3
   refine⟨u,r, ?_⟩
   have yn:y≠n:=λz=>hj (rH hN hi (z▸e1))
   rcases q with⟨k1,q⟩ | ⟨k1,c,e,z⟩
   ·exact .inl ⟨k1,by show (if y=n then w else m y)=_;rw[if_neg yn];exact q⟩
   ·exact .inr ⟨k1,c,e,z.sameBut hs (I1.cne y c e)⟩
 ·obtain⟨w',z⟩:=I1.cell y c e
  exact⟨w',z.sameBut hs (I1.cne y c e)⟩
 ·obtain⟨e,n,ne,nf,d⟩:=I1.pin p hp
  exact⟨(hs.2 p.1 ne).trans e,n,ne,nf,d⟩
 ·refine(I1.hok b ob e).stay (λc w' hc q=>(hs.2 c ?_).trans q) (λ_ q=>q) λ_ _ q=>q
  rintro rfl
  rcases hc with rfl | hc
  ·rw[I1.free] at e;cases e
  ·rw[I1.free] at hc;cases hc
theorem xI{M:Model}{A:Around}{E:Value->Shared->Prop}{x T:Addr}{oe:Obj}{Q:Unit->Shared->Prop}(ht:Trc s.heap x oe T)(h:∀h',(∀b u,s.heap.get? b=some u->h'.get? b=some u)->Q () {s with heap:=h'}):wpAny M A (setFlight (.ref x) none) Q E s:=by
 obtain⟨he,⟨vs,hd,h1⟩,hne,oT,ts,hT,hdT,h3⟩:=ht
 unfold setFlight
 refine wpAny_bind (wpAny_field he hd h1 ?_)
 rw[if_pos (by simp)]
 refine wpAny_setField hT hdT (Array.getElem?_eq_some_iff.mp h3).1 (h _ λb u e=> ?_)
 by_cases z:b=T
 ·subst z
  cases hT.symm.trans e
  have same:Obj.mapFields (·.setIfInBounds 3 ((none:Option Addr).elim Value.none λf=>rawInt f)) oT=oT:=by
   obtain⟨c,d,dt,sl⟩:=oT
   cases hdT
   show (Obj.mk c d (.fields (ts.setIfInBounds 3 Value.none)) sl)=_
   congr 2
   apply Array.ext
   ·simp
   ·intro k hk1 hk2
    rw[Array.getElem_setIfInBounds (by simpa using hk2)]
    split
    ·rename_i q
     subst q
     have:=(Array.getElem?_eq_some_iff.mp h3).2
     exact this.symm
    ·rfl
  have:=Heap.get?_update_self (Obj.mapFields (·.setIfInBounds 3 ((none:Option Addr).elim Value.none λf=>rawInt f))) hT (by rw[same];exact Obj.isFreed_of_fields hdT)
  rw[same] at this
  exact this
 ·rw[Heap.get?_update_other _ _ (Ne.symm z)];exact e
end
end L2
set_option maxRecDepth 100000
set_option maxHeartbeats 4000000
namespace L2
open PySem PySem.Spec PyProof.Rows
structure lK(X:Cx)(pins:List (Addr×Obj))(H:Hp)(s:Shared)(x C:Addr):Prop where
 tr:∃oe T,Trc s.heap x oe T/\oe.cls=.ref C/\oe.dict=none
 hx:H x=none
 h0:X.s₀.heap.get? x=none
 nl:x≠X.env.locals
 nc:∀y c,X.env.cells.lookup y=some c->c≠x
 np:∀p∈X.pn++pins,p.1≠x
theorem lK.kept{X:Cx}{pins:List (Addr×Obj)}{H:Hp}{s:Shared}{x C:Addr}{h':Heap}(c:lK X pins H s x C)(k:∀b u,s.heap.get? b=some u->h'.get? b=some u):lK X pins H {s with heap:=h'} x C:=
 let ⟨oe,T,⟨e,d,n,oT,ts,a1,a2⟩,hc⟩:=c.tr
 ⟨⟨oe,T,⟨k _ _ e,d,n,oT,ts,k _ _ a1,a2⟩,hc⟩,c.hx,c.h0,c.nl,c.nc,c.np⟩
theorem lK.obj{X:Cx}{pins:List (Addr×Obj)}{H:Hp}{s:Shared}{x C:Addr}(c:lK X pins H s x C):∃o,s.heap.get? x=some o/\o.cls=.ref C/\o.dict=none/\∀cd,o.data≠ .cls cd:=
 let ⟨oe,T,⟨e,⟨vs,d,_⟩,_,_⟩,hc,hd⟩:=c.tr
 ⟨oe,e,hc,hd,λcd z=>by rw[d] at z;cases z⟩
def HB(X:Cx)(hs:List ExceptHandler)(th:Addr->TS):Prop:=∀(pins:List (Addr×Obj)) (σ:St) (H:Hp) (s:Shared) (x C:Addr) (D:Ends),Inv X pins σ H s->lK X pins H s x C->th C D σ H->wpAny (model X.prog X.w) X.A (handleBy (.ref x) X.env hs) (SP X pins D) X.xe s
theorem Fm{X:Cx}:HB X [] λ_ _ _ _=>False:=λ_ _ _ _ _ _ _ _ _ z=>z.elim
def tEx(sub:Addr->Option Bool)(tb:Addr->TS)(th:Addr->TS):Addr->TS:=λC D σ H=>match sub C with
 | some true=>tb C D σ H
 | some false=>th C D σ H
 | none=>False
def tAs(i:Nat)(tb:TS):Addr->TS:=λC D σ H=>∀x,H x=none->tb {nx:=λσ' H'=>D.nx (σ'.set i none) H',rt:=D.rt,bk:=λσ' H'=>D.bk (σ'.set i none) H',ct:=λσ' H'=>D.ct (σ'.set i none) H'} (σ.set i (some (.ref x))) (upd H x (exO x C))
section
variable {X : Cx} {c : Str} {Dc : Addr} {np pos : Pos} {b0 : Stmt} {suite : List Stmt} {rest : List ExceptHandler} {sub : Addr → Option Bool} {tb : TS} {th : Addr → TS}
theorem yZ {pins:List (Addr×Obj)} {σ:St} {H:Hp} {s:Shared} {x C:Addr} {name:Option Str} {body:List Stmt} {b:Bool} {Q:Flow->Shared->Prop} (I:Inv X pins σ H s) (cg:lK X pins H s x C) (hg:Gl X c) (hm:X.mg c=some (.ref Dc)) (hs:PySem.W.exmOne X.K (.ref C) (.ref Dc)=some b)
 (h:if b then codeAny (model X.prog X.w) (X.A.mark (some (.ref x))) (.handlers (.ref x) [.ExceptHandler none name body pos] X.env) (λr s₂=>match r with
  | .ok f=>(match name with
   | none=>Q f s₂
   | some n=>wpAny (model X.prog X.w) X.A (do bindName X.env n .none;unbindBehindTheSuite X.env n pos) (λ_ s₃=>Q f s₃) X.xe s₂)
  | .error x=>cameBackBy (model X.prog X.w) X.A X.env X.xe x s₂) s
  else wpAny (model X.prog X.w) X.A (handleBy (.ref x) X.env rest) Q X.xe s) (hdb:(c == ("__debug__" :Str))=false):wpAny (model X.prog X.w) X.A (handleBy (.ref x) X.env (.ExceptHandler (some (.Name c np)) name body pos::rest)) Q X.xe s:=by
 obtain⟨o,ho,hc,_⟩:=cg.obj
 have LT:PySem.W.Looks (model X.prog X.w) s.heap (typeOf (.ref x)) (.ref C):=hc▸(PySem.W.Looks.ld ho).andThen .now
 refine wpAny_handleBy_cons (codeAny_handlers_test ?_) (by intro q;cases q)
 refine mX (I.hand (.ref x)) hg hm ((PySem.W.exm_one I.kIn LT hs).here ?_) hdb
 cases b with
 | true=>exact h
 | false=>exact h
theorem G2 {i:Nat} {n:Str} (hN:X.N.Nodup) (hi:X.N[i]? =some n) (hl:X.env.scope.names.lookup n=some .local) (hg:Gl X c) (hm:X.mg c=some (.ref Dc)) (hs:∀C b,sub C=some b->PySem.W.exmOne X.K (.ref C) (.ref Dc)=some b)
 (hb:∀v,PSs (X.hand v) (b0::suite) tb) (hr:HB X rest th) (hdb:(c == ("__debug__" :Str))=false:=by decide):HB X (.ExceptHandler (some (.Name c np)) (some n) (b0::suite) pos::rest) (tEx sub (tAs i tb) th):=by
 intro pins σ H s x C D I cg h
 unfold tEx at h
 split at h
 ·rename_i e
  refine yZ I cg hg hm (hs C _ e) ?_ hdb
  rw[if_pos rfl]
  obtain⟨oe,T,tr,_⟩:=cg.tr
  refine codeAny_handlers_suite_as (xI tr λh' k=> ?_)
  have I2:=I.kept (t':=s.toks) k
  have cg2:=cg.kept k
  have J:=(I2.track cg2.hx cg2.h0 cg2.obj cg2.nl cg2.nc cg2.np).hand (.ref x)
  refine nt (X:=X.hand (.ref x)) J hN hi (.inl hl) (v:=.ref x) rfl (λs3 J3=> ?_) (.inr hl)
  refine wpAny_mono (hb (.ref x) pins s3 _ _ _ J3 (h x cg.hx)) (λf s4 q=> ?_) λ_ _ z=>False.elim z
  have q:=q.unhand I.ok
  cases f with
  | next=>
   obtain⟨σ',H',I4,q⟩:=q
   exact name_goes I4 hN hi hl λs5 I5=>⟨_,_,I5,q⟩
  | brk=>
   obtain⟨σ',H',I4,q⟩:=q
   exact name_goes I4 hN hi hl λs5 I5=>⟨_,_,I5,q⟩
  | cont=>
   obtain⟨σ',H',I4,q⟩:=q
   exact name_goes I4 hN hi hl λs5 I5=>⟨_,_,I5,q⟩
  | ret u=>
   obtain⟨v,σ',H',I4,r,q⟩:=q
   exact name_goes I4 hN hi hl λs5 I5=>⟨v,_,_,I5,r,q⟩
 ·rename_i e
  exact yZ I cg hg hm (hs C _ e) (hr pins σ H s x C D I cg h) hdb
 ·exact h.elim
end
def Gx(tb:(St->XK)->TS)(th:Addr->TS):TS:=λD σ H=>tb (λσ' cls dx H'=>∃C,cls=.ref C/\dx=none/\th C D σ' H') D σ H
theorem FX {X:Cx} {body:List Stmt} {h0:ExceptHandler} {hs:List ExceptHandler} {pos:Pos} {tb:(St->XK)->TS} {th:Addr->TS} (hstk:X.stack=X.env::X.outer) (hfr:X.env.frame=some X.env.locals) (hex:X.ex=[])
 (hb:∀(p:List (Addr×Obj)) (E':Value->Shared->Prop) (Es:St->XK),mF (CXE X.prog X.w) (X.pinned p E') Es->PSs (X.pinned p E') body (tb Es)) (hh:HB X (h0::hs) th):PS X (.Try body (h0::hs) [] [] pos) (Gx tb th):=by
 intro pins s σ H D I h
 let Es:St->XK:=λσ' cls dx H'=>∃C,cls=.ref C/\dx=none/\th C D σ' H'
 let E':Value->Shared->Prop:=λe s'=>∃σ1 H1 s1,Inv X pins σ1 H1 s1/\CXE X.prog X.w X.stack H1 s1 (Es σ1) e s'
 have hp:mF (CXE X.prog X.w) (X.pinned (X.pn++pins) E') Es:=λp1 σ1 H1 s1 e s' I1 c=>⟨σ1,H1,s1,I1.ofPinned,c⟩
 refine wpAny_Try_except (wpAny_mono (hb (X.pn++pins) E' Es hp [] s σ H D (I.toPinned E') h) (λf s1 q=> ?_) λe s1 ⟨σ1,H1,s2,I1,x,oe,T0,H2,C,he,os,bare,fl,hE⟩=> ?_)
 ·cases f with
  | next=>
   obtain⟨σ1,H1,I1,q⟩:=q
   exact wpAny_execs_nil ⟨σ1,H1,I1.ofPinned,q⟩
  | brk=>exact let ⟨σ1,H1,I1,q⟩:=q;⟨σ1,H1,I1.ofPinned,q⟩
  | cont=>exact let ⟨σ1,H1,I1,q⟩:=q;⟨σ1,H1,I1.ofPinned,q⟩
  | ret u=>exact let ⟨v,σ1,H1,I1,r,q⟩:=q;⟨v,σ1,H1,I1.ofPinned,r,q⟩
 ·subst he
  have J:=I1.call' os fl.un fl.hok bare (λb z=>absurd z (by simp))
  have fs:=J.stack
  have ff:=J.ok.frames
  rw[hstk] at fs ff
  refine uC (base:=X.base) ff fs hfr fl.tr λh1 h' T h01 hsz xl=> ?_
  rw[<- hstk] at xl
  have J2:=I1.landed J hstk hfr hex fl.nx fl.hx fl.nT fl.hT h01 hsz xl fl.cls
  obtain⟨oe',vs,e1,e2,e3,e4,e5⟩:=xl.exc
  obtain⟨C',hC',hdx,q⟩:=hE
  cases hC'
  refine hh pins σ1 H2 _ x C D J2 ⟨⟨oe',T,⟨e1,⟨vs,e4,e5⟩,xl.ne,xl.trc⟩,e2.trans fl.cls,e3.trans hdx⟩,fl.hx,I1.old hex fl.nx,λz=> ?_,λy c e z=> ?_,λp hp z=> ?_⟩ q
  ·obtain⟨m,⟨o,_,_,ho,_⟩,_⟩:=I1.loc
   rw[<- z,fl.nx] at ho;cases ho
  ·obtain⟨v,o,ho,_⟩:=I1.cell y c e
   rw[z,fl.nx] at ho;cases ho
  ·obtain⟨e,_⟩:=I1.pin p hp
   rw[z,fl.nx] at e;cases e
end L2
set_option maxRecDepth 100000
set_option maxHeartbeats 4000000
namespace L2
open PySem PySem.Spec PyProof.Rows PySem.W
structure ExK(K:PySem.W.Frag)(D:Addr):Prop where
 ga:findIn K (.ref D) "__getattribute__" =some (some (.builtin "BaseException.__getattribute__"))
 hk:findIn K (.ref D) "__getattr__" =some none
 cl:findIn K (.ref D) "__class__" =some (some (.builtin "object.__class__"))
 gt:specialIn K (.builtin "object.__class__") "__get__" =some (some (.builtin "getset_descriptor.__get__"))
 tk:takesIn K (.builtin "object.__class__")=some true
 ob:mroIn K D (.type "object")=some true
 be:mroIn K D (.type "BaseException")=some true
section
variable {prog : Program} {w : World} {A : Around} {E : Value → Shared → Prop} {s : Shared} {K : PySem.W.Frag} {x D : Addr} {ox : Obj}
theorem u7{C:Addr}{name:Str}{a g:Value}(hc:(clsIn K C).isSome=true)(ha:findIn K (.ref C) name=some (some a))(hg:specialIn K a "__get__" =some (some g))(ht:takesIn K a=some true):findObj K C none name=some (.bind g a):=by
 obtain⟨cd,hc⟩:=Option.isSome_iff_exists.mp hc
 unfold findObj
 rw[hc,Option.bind_some,ha,Option.bind_some]
 simp[hg,ht]
theorem ExK.cls(k:ExK K D):(clsIn K D).isSome=true:=by
 obtain⟨cd,hc,_⟩:=Option.bind_eq_some_iff.mp k.ob
 rw[hc];rfl
theorem A8{Q:Option Value->Shared->Prop}(k:ExK K D)(X:K.In s.heap)(I:InstAt s.heap x ox D none)(h:Q (some (.ref D)) {s with toks:=s.toks+1}):wpAny (model prog w) A (getAttr? (.ref x) "__class__") Q E s:=by
 obtain⟨hh,g,d,t,os⟩:=s
 have L0:=I.type (M:=model prog w)
 have L1:=looks_findIn (M:=model prog w) X k.ga
 have L2:=looks_findIn (M:=model prog w) X k.hk
 have L3:=looks_mroIn (M:=model prog w) X k.be
 have L4:=looks_find (M:=model prog w) X I (u7 k.cls k.cl k.gt k.tk)
 unfold getAttr? getAttrBy? getAttrBy
 refine wpAny_bind (wpAny_mkText (wpAny_bind (wpAny_attempt (wpAny_holding (wpAny_bind (L0.at (wpAny_bind (L1.at ?_))))))))
 have ne:(onTheHeap (Value.ref D)&&(Value.builtin "BaseException.__getattribute__" == Value.builtin "object.__getattribute__"))=false:=by
  rw[show (Value.builtin "BaseException.__getattribute__" == Value.builtin "object.__getattribute__")=false by decide +kernel,Bool.and_false]
 dsimp only
 rw[if_neg (by rw[ne];decide)]
 unfold getAttrByItsOwn hookBefore
 rw[if_pos (by rfl)]
 refine wpAny_bind (L2.at ?_)
 unfold callGetattribute
 rw[if_neg (by decide)]
 unfold boundAndCalled
 refine wpAny_bind (wpAny_attempt (wpAny_holding (wpAny_bind ?_)))
 rw[F.attr_ValueError.ga.bind]
 refine wpAny_pure ?_
 refine wpAny_call (codeAny_call_builtin F.attr_ValueError.ga.plain F.entry_bexc_ga ?_)
 have hkd:builtinKind "BaseException.__getattribute__" =some .slot:=by decide +kernel
 have hsp:splitId "BaseException.__getattribute__" =some ("BaseException","__getattribute__"):=by decide +kernel
 have ha:=F.args_bexc_ga (.ref x) (.str "__class__" t)
 have LI:Looks (model prog w) hh (isInstance (.ref x) (.type "BaseException")) true:=L0.andThen L3
 show wpAny _ _ (checkBuiltinCall "BaseException.__getattribute__" ⟨[.ref x,.str "__class__" t],[]⟩) _ _ _
 simp only[checkBuiltinCall,hkd,hsp]
 refine wpAny_bind (LI.at ?_)
 repeat wp_step
 refine wpAny_loadPart I.at_ ?_
 rw[I.cls]
 refine wpAny_pure (wpAny_bind (L4.at ?_))
 dsimp only
 unfold Builtin.ObjectAttr.bindTo
 dsimp only
 repeat wp_step
 refine class_get (ox:=ox) (od:=none) X I k.ob ?_
 exact wpAny_pure (handed_on rfl (wpAny_pure h))
def zc(x D:Addr)(h:Heap):Prop:=∃o,h.get? x=some o/\o.cls=.ref D/\o.dict=none/\(∀cd,o.data≠ .cls cd)
theorem zc.inst{h:Heap}(e:zc x D h):∃ox,InstAt h x ox D none:=by
 obtain⟨o,h1,h2,h3,h4⟩:=e
 refine⟨o,h1,h2, ?_,by rw[h3];trivial⟩
 unfold notCls
 split
 ·rename_i cd z;exact absurd z (h4 cd)
 ·rfl
theorem qO(k:ExK K D):KitX K (.ref x) (.ref D) (zc x D) where
 ty:=λ_ _ _ e=>let ⟨_,i⟩:=e.inst;i.type
 it:=λ_ _ X _=>by
  obtain⟨cd,hc⟩:=Option.isSome_iff_exists.mp k.cls
  unfold clsIn at hc
  split at hc
  ·rename_i look
   intro A' Q' E' s' kp q
   unfold isType loadHead
   exact wpAny_bind (wpAny_loadPart (kp _ _ (X _ _ look)) (wpAny_pure q))
  ·cases hc
 ne:=λh tp dd its n sl X htp=>by
  obtain⟨cd,hc⟩:=Option.isSome_iff_exists.mp k.cls
  refine Bool.eq_false_iff.mpr λq=> ?_
  cases Value.ref.inj (beq_iff_eq.mp q)
  unfold clsIn at hc
  split at hc
  ·rename_i look
   cases (X _ _ look).symm.trans htp
  ·cases hc
 ca:=λX e h=>let ⟨_,i⟩:=e.inst;A8 k X i h
end
def ub(K:PySem.W.Frag):List V->Hp->VK->Prop:=λxs H Q=>∃a D b,H a=some (exO a D)/\ExK K D/\Q (.bl b) H/\
 ((∃C,xs=[.ref a,.ref C]/\kitOne K (.ref D) (.ref C)=some b)\/(∃T,xs=[.ref a,.ty T]/\kitOne K (.ref D) (.type T)=some b)\/∃(tp:Addr) (Cs:List Addr),xs=[.ref a,.ref tp]/\H tp=some (.tup (Cs.map V.ref))/\kitAny K (.ref D) (Cs.map Value.ref)=some b)
theorem uf:∀{Cs:List Addr} {us:List Value},Vals (Cs.map V.ref) us->us=Cs.map Value.ref
 | [],_,h=>by cases h;rfl
 | C::Cs,_,h=>by
  cases h with
  | cons r t=>
   rw[uf t]
   cases r
   rfl
theorem nj{X:Cx}:fP X (.builtin "isinstance") (ub X.K):=by
 intro pins s σ H xs us Q I r h
 obtain⟨a,D,b,ha,k,q,h⟩:=h
 have at_:zc a D s.heap:=(I.hok a _ ha).1
 have fin:∀tk,EP X pins σ Q (.bool b) {s with toks:=tk}:=λtk=>⟨.bl b,H,I.tok tk,rfl,q⟩
 rcases h with⟨C,rfl,hk⟩ | ⟨T,rfl,hk⟩ | ⟨tp,Cs,rfl,htp,hk⟩
 ·obtain⟨u,v,rfl,r1,r2⟩:=vals2 r
  cases (show u=Value.ref a from r1)
  cases (show v=Value.ref C from r2)
  exact kia_one (qO k) I.kIn at_ hk (λz=>nomatch z) fin
 ·obtain⟨u,v,rfl,r1,r2⟩:=vals2 r
  cases (show u=Value.ref a from r1)
  cases (show v=Value.type T from r2)
  exact kia_one (qO k) I.kIn at_ hk (λz=>nomatch z) fin
 ·obtain⟨u,v,rfl,r1,r2⟩:=vals2 r
  cases (show u=Value.ref a from r1)
  cases (show v=Value.ref tp from r2)
  obtain⟨_,its,rv,ob,ho,hc,n,hd⟩:=I.hok tp _ htp
  cases uf rv
  obtain⟨c0,d0,dt,sl⟩:=ob
  cases hc
  cases hd
  exact kia_tup (qO k) I.kIn at_ ho hk (λz=>nomatch z) fin
end L2
set_option maxRecDepth 100000
set_option maxHeartbeats 4000000
namespace L2
open PySem PySem.Spec PyProof.Rows
section
variable {X : Cx} {pins : List (Addr × Obj)} {σ : List (Option V)} {H : Hp} {s : Shared} {h' : Heap}
theorem Inv.turnedL{t':Nat}{ch:List Addr}(I:Inv X pins σ H s)(k:∀b o,b∉ch->s.heap.get? b=some o->h'.get? b=some o)(hf:∀b∈ch,jM X pins H b):Inv X pins σ H {s with heap:=h',toks:=t'}:=by
 have nit:∀b u,H b=some u->b∉ch:=λb u e z=>by rw[(hf b z).1] at e;cases e
 refine I.step (g':=s.gens) (d':=s.drawn) (ch:=ch) (λb hb=> ?_) (λb o _ _ hc e _=>k b o hc e) (λb o _ _ hc e _=>⟨o.slots,k b o hc e⟩) (λ_ _ _ _ n=>n)
  (λb o hc e=>⟨o,k b o hc e⟩) (λ_ _ e=>e) (λ_ _ _ e=>e) (λb ps e=>⟨#[],by rw[e];simp⟩) (λm hm=> ?_) (λb u e=> ?_) I.bare
 ·obtain⟨f0,f1,f2,f3,f4,f5⟩:=hf b hb
  exact⟨f3,f1,f4,f5⟩
 ·obtain⟨o,es,ep,ho,r⟩:=hm
  exact⟨o,es,ep,k _ o (λz=>(hf _ z).2.1 rfl) ho,r⟩
 ·refine(I.hok b u e).stay (λc v hc q=>k c v ?_ q) (λ_ q=>q) λ_ _ q=>q
  rcases hc with z | z
  ·rw[z];exact nit b u e
  ·exact nit c _ z
theorem Inv.turnedT {t':Nat} {ch:List Addr} {T:Addr} {xs:List V} (I:Inv X pins σ H s) (k:∀b o,b∉ch->s.heap.get? b=some o->h'.get? b=some o) (hf:∀b∈ch,jM X pins H b) (hT:s.heap.objs.size<=T)
 (new:fD X.prog X.w (upd H T (.tup xs)) h' T (.tup xs)):Inv X pins σ (upd H T (.tup xs)) {s with heap:=h',toks:=t'}:=by
 have hn:H T=none:=I.hok.fresh hT
 have nit:∀b u,H b=some u->b∉ch:=λb u e z=>by rw[(hf b z).1] at e;cases e
 refine I.step (g':=s.gens) (d':=s.drawn) (ch:=ch) (λb hb=> ?_) (λb o _ _ hc e _=>k b o hc e) (λb o _ _ hc e _=>⟨o.slots,k b o hc e⟩) (λb o _ e n=> ?_)
  (λb o hc e=>⟨o,k b o hc e⟩) (λb xs e=>by rw[aI (dU e hn)];exact e) (λb o u e=>by rw[aI (dU e hn)];exact e) (λb ps e=>⟨#[],by rw[aI (dU e hn),e];simp⟩) (λm hm=> ?_) (λb u e=> ?_) I.bare
 ·obtain⟨f0,f1,f2,f3,f4,f5⟩:=hf b hb
  exact⟨f3,f1,f4,f5⟩
 ·have hb:b≠T:=λz=>by
   subst z
   exact absurd (Nat.lt_of_lt_of_le (Heap.lt_size e) hT) (Nat.lt_irrefl _)
  rw[aI hb];exact n
 ·obtain⟨o,es,ep,ho,r⟩:=hm
  exact⟨o,es,ep,k _ o (λz=>(hf _ z).2.1 rfl) ho,r⟩
 ·by_cases hb:b=T
  ·subst hb;rw[bY] at e;cases e;exact new
  ·rw[aI hb] at e
   refine(I.hok b u e).stay (λc v hc q=>k c v ?_ q) (λc q=>by rw[aI (dU q hn)];exact q) λc xs q=>by rw[aI (dU q hn)];exact q
   rcases hc with z | z
   ·rw[z];exact nit b u e
   ·exact nit c _ z
end
def Itz(K:PySem.W.Frag)(a b:Addr):It:=
 ⟨λi H=>∃xs ys x y,SqL K H a xs/\SqL K H b ys/\xs[i]? =some x/\ys[i]? =some y,
  λi H v H'=>∃T x y,H T=none/\v=.ref T/\H'=upd H T (.tup [x,y])/\(∀xs,SqL K H a xs->xs[i]? =some x)/\∀ys,SqL K H b ys->ys[i]? =some y,
  λi H=>∃xs ys,SqL K H a xs/\SqL K H b ys/\(xs.length<=i\/ys.length<=i)⟩
def Ite(K:PySem.W.Frag)(a:Addr):It:=
 ⟨λi H=>∃xs x,SqL K H a xs/\xs[i]? =some x,
  λi H v H'=>∃T x,H T=none/\v=.ref T/\H'=upd H T (.tup [.int i,x])/\∀xs,SqL K H a xs->xs[i]? =some x,
  λi H=>∃xs,SqL K H a xs/\xs.length<=i⟩
theorem Ad{P:Program}{w:World}{H:Hp}{h:Heap}{T:Addr}{x y:V}{u v:Value}(rx:RelV x u)(ry:RelV y v)(hT:h.IsTuple T #[u,v]):fD P w H h T (.tup [x,y]):=by
 refine⟨by simp only[List.length_cons,List.length_nil];rw[sizeLine_eq];decide,[u,v],.cons rx (.cons ry .nil), ?_⟩
 exact hT
theorem BL{P:Program}{w:World}{K:PySem.W.Frag}{elts:List Expr}{kk:Nat}{tp:Pos}{z TI TO i1 i2 a b:Addr}(D:ZipApart z TI TO i1 i2 a b):
 Turn P w K (.Tuple elts kk tp) (Itz K a b) [z,TI,TO,i1,i2] z (λi h=>IsZip h z TI TO .none/\IsPair h TI (.ref i1) (.ref i2)/\(∃u v,IsPair h TO u v)/\h.IsListIter i1 a i/\h.IsListIter i2 b i) where
 mem:=by simp
 obj:=λi h st c hc=>by
  obtain⟨q1,q2,⟨u,v,q3⟩,⟨o1,e1,c1,d1⟩,⟨o2,e2,c2,d2⟩⟩:=st
  simp only[List.mem_cons,List.not_mem_nil,or_false] at hc
  rcases hc with rfl | rfl | rfl | rfl | rfl
  ·exact⟨_,q1,λv z=>by have z':Data.fields _=Data.cell v:=z;cases z'⟩
  ·exact⟨_,q2,λv z=>by have z':Data.seq _ _=Data.cell v:=z;cases z'⟩
  ·exact⟨_,q3,λv z=>by have z':Data.seq _ _=Data.cell v:=z;cases z'⟩
  ·exact⟨o1,e1,λv z=>by rw[d1] at z;cases z⟩
  ·exact⟨o2,e2,λv z=>by rw[d2] at z;cases z⟩
 keep:=λi h h' st k=>by
  obtain⟨q1,q2,⟨u,v,q3⟩,q4,q5⟩:=st
  exact⟨k z (by simp) _ q1,k TI (by simp) _ q2,⟨u,v,k TO (by simp) _ q3⟩,q4.at λo e=>k i1 (by simp) o e,q5.at λo e=>k i2 (by simp) o e⟩
 item:=by
  intro X hP hw hK hc i pins s σ H E I hf st hg
  subst hP hw hK
  obtain⟨xs,ys,x,y,hq1,hq2,hx,hy⟩:=hg
  obtain⟨its1,rv1,p1,hz1⟩:=I.list hq1
  obtain⟨its2,rv2,p2,hz2⟩:=I.list hq2
  obtain⟨u,hu,ru⟩:=rv1.get hx
  obtain⟨v,hv,rv⟩:=rv2.get hy
  obtain⟨q1,q2,q3,q4,q5⟩:=id st
  have W:=WalksT.zip2 (prog:=X.prog) (w:=X.w) (A:=X.A) (I.ok.hd hc) z TI TO i1 i2 a b D its1.toArray its2.toArray
  have hi1:i<its1.length:=(List.getElem?_eq_some_iff.mp hu).1
  have hi2:i<its2.length:=(List.getElem?_eq_some_iff.mp hv).1
  refine W.item i s _ _ (by simp;omega) ⟨q1,q2,q3,q4,q5,p1.isList,p2.isList⟩ λT vals h1 tk hP hT isT mid kk1=>⟨.ref T,rfl,W.go elts _ tp i T _ _ _ mid λh2 st2 kk2=> ?_⟩
  obtain⟨u',v',e1,e2,rfl⟩:=hP
  rw[show its1.toArray[i]? =its1[i]? by simp,hu] at e1
  rw[show its2.toArray[i]? =its2[i]? by simp,hv] at e2
  cases e1;cases e2
  have nT:T∉([z,TO,i1,i2]:List Addr):=W.apart i T _ mid
  have sub:∀c,c∈([z,TO,i1,i2]:List Addr)->c∈([z,TI,TO,i1,i2]:List Addr):=λc hc=>by
   simp only[List.mem_cons,List.not_mem_nil,or_false] at hc ⊢
   rcases hc with h | h | h | h <;> simp[h]
  have kk:∀c o,c∉([z,TO,i1,i2]:List Addr)->s.heap.get? c=some o->h2.get? c=some o:=λc o hc e=>kk2 c o hc (kk1 c o hc e)
  have isT2:h2.IsTuple T #[u,v]:=by
   obtain⟨o,e,c,d⟩:=isT
   exact⟨o,kk2 T o nT e,c,d⟩
  have I2:Inv X pins σ (upd H T (.tup [x,y])) {s with heap:=h2,toks:=tk}:=I.turnedT kk (λc hc=>hf c (sub c hc)) hT (Ad ru rv isT2)
  refine⟨.ref T,_,I2,rfl,⟨T,x,y,I.hok.fresh hT,rfl,rfl,λxs' h=>by rw[I.list_inj h hq1];exact hx,λys' h=>by rw[I.list_inj h hq2];exact hy⟩,⟨st2.1,st2.2.1,st2.2.2.1,st2.2.2.2.1,st2.2.2.2.2.1⟩,λc hc=> ?_⟩
  have hc0:=(hf c hc).1
  rw[aI (λe=> ?_)]
  ·exact hc0
  ·subst e
   simp only[List.mem_cons,List.not_mem_nil,or_false] at hc
   rcases hc with h | h | h | h | h
   ·exact nT (by simp[h])
   ·have:TI<s.heap.objs.size:=Heap.lt_size q2
    rw[<- h] at this
    exact absurd (Nat.lt_of_lt_of_le this hT) (Nat.lt_irrefl _)
   ·exact nT (by simp[h])
   ·exact nT (by simp[h])
   ·exact nT (by simp[h])
 done:=by
  intro X hP hw hK hc i pins s σ H E I hf st hg
  subst hP hw hK
  obtain⟨xs,ys,hq1,hq2,hx⟩:=hg
  obtain⟨its1,rv1,p1,hz1⟩:=I.list hq1
  obtain⟨its2,rv2,p2,hz2⟩:=I.list hq2
  have l1:=rv1.length
  have l2:=rv2.length
  obtain⟨q1,q2,⟨u,v,q3⟩,q4,q5⟩:=id st
  refine wpAny_pyNext_zip_end (I.ok.hd hc) D q1 q2 q3 q4 q5 p1.isList p2.isList (by
   rcases hx with h | h
   ·left;simp;omega
   ·right;simp;omega) λh' hk=>⟨rfl, ?_⟩
  exact I.turnedL (t':=s.toks) (ch:=[z,TI,TO,i1,i2]) (λc o hc e=>hk c o (λx=>hc (by simp[x])) (λx=>hc (by simp[x])) (λx=>hc (by simp[x])) (λx=>hc (by simp[x])) e) hf
 self:=λ_ _ _ _ _ st h=>wpAny_pyIter_zip st.1 h
theorem A9{P:Program}{w:World}{K:PySem.W.Frag}{elts:List Expr}{kk:Nat}{tp:Pos}{e it a:Addr}(hei:e≠it)(hle:a≠e)(hli:a≠it):
 Turn P w K (.Tuple elts kk tp) (Ite K a) [e,it] e (λi h=>(∃old,IsEnum h e it i old)/\h.IsListIter it a i) where
 mem:=by simp
 obj:=λi h st c hc=>by
  obtain⟨⟨old,q1⟩,⟨o1,e1,c1,d1⟩⟩:=st
  simp only[List.mem_cons,List.not_mem_nil,or_false] at hc
  rcases hc with rfl | rfl
  ·exact⟨_,q1,λv z=>by have z':Data.fields _=Data.cell v:=z;cases z'⟩
  ·exact⟨o1,e1,λv z=>by rw[d1] at z;cases z⟩
 keep:=λi h h' st k=>by
  obtain⟨⟨old,q1⟩,q4⟩:=st
  exact⟨⟨old,k e (by simp) _ q1⟩,q4.at λo e'=>k it (by simp) o e'⟩
 item:=by
  intro X hP hw hK hc i pins s σ H E I hf st hg
  subst hP hw hK
  obtain⟨xs,x,hq1,hx⟩:=hg
  obtain⟨its1,rv1,p1,hz1⟩:=I.list hq1
  obtain⟨u,hu,ru⟩:=rv1.get hx
  obtain⟨q1,q4⟩:=id st
  have W:=WalksT.enumerate (prog:=X.prog) (w:=X.w) (A:=X.A) (I.ok.hd hc) e it a hei hle hli its1.toArray
  have hi1:i<its1.length:=(List.getElem?_eq_some_iff.mp hu).1
  refine W.item i s _ _ (by simpa using hi1) ⟨q1,q4,p1.isList⟩ λT vals h1 tk hP hT isT mid kk1=>⟨.ref T,rfl,W.go elts _ tp i T _ _ _ mid λh2 st2 kk2=> ?_⟩
  obtain⟨t,u',e1,rfl⟩:=hP
  rw[show its1.toArray[i]? =its1[i]? by simp,hu] at e1
  cases e1
  have nT:T∉([e,it]:List Addr):=W.apart i T _ mid
  have kk:∀c o,c∉([e,it]:List Addr)->s.heap.get? c=some o->h2.get? c=some o:=λc o hc e=>kk2 c o hc (kk1 c o hc e)
  have isT2:h2.IsTuple T #[.int i t,u]:=by
   obtain⟨o,e,c,d⟩:=isT
   exact⟨o,kk2 T o nT e,c,d⟩
  have I2:Inv X pins σ (upd H T (.tup [.int i,x])) {s with heap:=h2,toks:=tk}:=I.turnedT kk hf hT (Ad ⟨t,rfl⟩ ru isT2)
  refine⟨.ref T,_,I2,rfl,⟨T,x,I.hok.fresh hT,rfl,rfl,λxs' h=>by rw[I.list_inj h hq1];exact hx⟩,⟨st2.1,st2.2.1⟩,λc hc=> ?_⟩
  have hcT:c≠T:=λz=>by
   subst z
   exact nT hc
  rw[aI hcT]
  exact(hf c hc).1
 done:=by
  intro X hP hw hK hc i pins s σ H E I hf st hg
  subst hP hw hK
  obtain⟨xs,hq1,hx⟩:=hg
  obtain⟨its1,rv1,p1,hz1⟩:=I.list hq1
  have l1:=rv1.length
  obtain⟨⟨old,q1⟩,q4⟩:=id st
  refine wpAny_pyNext_enum_end (I.ok.hd hc) q1 q4 p1.isList (by simp;omega) λh' hk=>⟨rfl, ?_⟩
  exact I.turnedL (t':=s.toks) (ch:=[e,it]) (λc o hc e'=>hk c o (λx=>hc (by simp[x])) e') hf
 self:=λ_ _ _ _ _ st h=>let ⟨_,q⟩:=st.1;wpAny_pyIter_enum q h
section
variable {X : Cx} {tg : Expr}
def Cu(K:PySem.W.Frag)(ta:TA):TI:=λσ H R=>ta σ H λvs H1=>∃a b,vs=[.ref a,.ref b]/\(∃xs,SqL K H1 a xs)/\(∃ys,SqL K H1 b ys)/\R (Itz K a b) H1
def Dz(K:PySem.W.Frag)(ta:TA):TI:=λσ H R=>ta σ H λvs H1=>∃a,vs=[.ref a]/\(∃xs,SqL K H1 a xs)/\R (Ite K a) H1
theorem oX{elts:List Expr}{kk:Nat}{tp:Pos}{a b:Expr}{ta:TA}{p pos:Pos}(hg:Gl X "zip")(hm:X.mg "zip" =none)(ha:PA X [a,b] ta)(hs:starEach [a,b] X.env=[(false,eval a X.env),(false,eval b X.env)]:=by rfl)(hs2:starEach [b] X.env=[(false,eval b X.env)]:=by rfl):
 PI X (.Tuple elts kk tp) (.Call (.Name "zip" p) [a,b] [] pos) (Cu X.K ta):=by
 intro pins s σ H R I h
 refine Call_ (ki I hg hm Boot.«zip» (PyProof.Rows.callWith_type1 (thn (ha pos pins s σ H _ I h) λus s1 ⟨vs,H1,I1,r1,q1⟩=> ?_) (by rw[hs,hs2]) (by rw[hs2];rfl)))
 obtain⟨l1,l2,e,⟨xs,hq1⟩,⟨ys,hq2⟩,q⟩:=q1
 subst e
 obtain⟨u,v,rfl,r,r'⟩:=vals2 r1
 cases r
 cases r'
 obtain⟨its1,rv1,p1,hz1⟩:=I1.list hq1
 obtain⟨its2,rv2,p2,hz2⟩:=I1.list hq2
 refine call_zip_2 p1.isList p2.isList λh' hz hTI hTO hi1 hi2 hsz hk=> ?_
 have a1:l1<s1.heap.objs.size:=by obtain⟨_,e,_⟩:=p1.isList;exact Heap.lt_size e
 have a2:l2<s1.heap.objs.size:=by obtain⟨_,e,_⟩:=p2.isList;exact Heap.lt_size e
 refine wpAny_pyIter_zip hz ⟨_,_,_,_,H1,rfl,I1.kept (t':=s1.toks) hk,BL (zipApart_new a1 a2),⟨hz,hTI,⟨_,_,hTO⟩,hi1,hi2⟩,λb hb=> ?_,q⟩
 have:s1.heap.objs.size<=b:=by
  simp only[List.mem_cons,List.not_mem_nil,or_false] at hb
  rcases hb with rfl | rfl | rfl | rfl | rfl <;> omega
 exact I1.fpOk this (I1.hok.fresh this)
theorem pD{elts:List Expr}{kk:Nat}{tp:Pos}{a:Expr}{ta:TA}{p pos:Pos}(hg:Gl X "enumerate")(hm:X.mg "enumerate" =none)(ha:PA X [a] ta)(hs:starEach [a] X.env=[(false,eval a X.env)]:=by rfl):
 PI X (.Tuple elts kk tp) (.Call (.Name "enumerate" p) [a] [] pos) (Dz X.K ta):=by
 intro pins s σ H R I h
 refine Call_ (ki I hg hm Boot.«enumerate» (PyProof.Rows.callWith_type1 (thn (ha pos pins s σ H _ I h) λus s1 ⟨vs,H1,I1,r1,q1⟩=> ?_) hs rfl))
 obtain⟨l1,e,⟨xs,hq1⟩,q⟩:=q1
 subst e
 obtain⟨u,rfl,ru⟩:=vals1 r1
 cases ru
 obtain⟨its1,rv1,p1,hz1⟩:=I1.list hq1
 refine call_enumerate_list p1.isList λh' hz hi1 hsz hk=> ?_
 have a1:l1<s1.heap.objs.size:=by obtain⟨_,e,_⟩:=p1.isList;exact Heap.lt_size e
 refine wpAny_pyIter_enum hz ⟨_,_,_,_,H1,rfl,I1.kept (t':=s1.toks) hk,A9 (e:=s1.heap.objs.size+1) (it:=s1.heap.objs.size) (a:=l1) (Nat.succ_ne_self _) (Nat.ne_of_lt (Nat.lt_succ_of_lt a1)) (Nat.ne_of_lt a1),⟨⟨_,hz⟩,hi1⟩,λb hb=> ?_,q⟩
 have:s1.heap.objs.size<=b:=by
  simp only[List.mem_cons,List.not_mem_nil,or_false] at hb
  rcases hb with rfl | rfl <;> omega
 exact I1.fpOk this (I1.hok.fresh this)
theorem kD:∀{ns:List Int} {its:List Value},Vals (ns.map V.int) its->IntsAre its ns
 | [],_,r=>by cases r;exact .nil
 | n::ns,_,r=>by
  cases r with
  | cons r1 r2=>
   obtain⟨t,rfl⟩:=r1
   exact .cons _ _ (kD r2)
theorem oE(hc:X.calm=true:=by rfl):fP X (.builtin "sum") (λxs H Q=>∃(p:Addr) (ns:List Int),xs=[.ref p]/\SqL X.K H p (ns.map V.int)/\Q (.int ns.sum) H):=by
 intro pins s σ H xs us Q I r h
 obtain⟨p,ns,rfl,hq,q⟩:=h
 obtain⟨u,rfl,ru⟩:=vals1 r
 cases ru
 obtain⟨its,rv,pl,hz⟩:=I.list hq
 have hI:=kD rv
 obtain⟨xs,exs⟩:=hI.allInts.items
 have hn:numsOf its=ns:=hI.numsOf
 rw[show its=its.toArray.toList by simp,exs,nums_intItems] at hn
 refine sum_intListG (I.ok.hd hc) (exs▸pl.isList) λh' tk t' hk=> ?_
 rw[preSum_eq,List.take_of_length_le (by simp),hn]
 exact⟨.int ns.sum,H,I.kept (t':=tk) hk,⟨t',rfl⟩,q⟩
theorem DI{bs:List Bool}{its:List Value}(rv:Vals (bs.map V.bl) its){i:Nat}{v:Value}(h:its.toArray[i]? =some v):v=.bool (bs.getD i false):=by
 have hi:i<its.length:=by
  have:=(Array.getElem?_eq_some_iff.mp h).1
  simpa using this
 have hb:i<bs.length:=by have:=rv.length;rw[List.length_map] at this;omega
 obtain⟨u,hu,ru⟩:=rv.get (i:=i) (x:=.bl bs[i]) (by simp[hb])
 rw[show its.toArray[i]? =its[i]? by simp,hu] at h
 cases h
 cases ru
 simp[List.getD_eq_getElem?_getD,hb]
theorem all_range(bs:List Bool):(List.range bs.length).all (λi=>bs.getD i false)=bs.all id:=by
 induction bs with
 | nil=>rfl
 | cons b bs ih=>
  rw[List.length_cons,List.range_succ_eq_map,List.all_cons,List.all_map,List.all_cons]
  simp only[Function.comp_def,List.getD_cons_succ,List.getD_cons_zero,id]
  rw[ih]
theorem any_range(bs:List Bool):(List.range bs.length).any (λi=>bs.getD i false)=bs.any id:=by
 induction bs with
 | nil=>rfl
 | cons b bs ih=>
  rw[List.length_cons,List.range_succ_eq_map,List.any_cons,List.any_map,List.any_cons]
  simp only[Function.comp_def,List.getD_cons_succ,List.getD_cons_zero,id]
  rw[ih]
theorem Be(hc:X.calm=true:=by rfl):fP X (.builtin "all") (λxs H Q=>∃(p:Addr) (bs:List Bool),xs=[.ref p]/\SqL X.K H p (bs.map V.bl)/\Q (.bl (bs.all id)) H):=by
 intro pins s σ H xs us Q I r h
 obtain⟨p,bs,rfl,hq,q⟩:=h
 obtain⟨u,rfl,ru⟩:=vals1 r
 cases ru
 obtain⟨its,rv,pl,hz⟩:=I.list hq
 have hl:=pl.isList
 have lt:p<s.heap.objs.size:=by obtain⟨_,e,_⟩:=hl;exact Heap.lt_size e
 have hlen:its.toArray.size=bs.length:=by have:=rv.length;rw[List.length_map] at this;simp;omega
 refine call_all_walk (wpAny_pyIter_list hl ?_)
 refine⟨_,_,_,_,_,_,λi=>bs.getD i false,rfl,Walks.list (A:=X.A.in1) (I.ok.hd hc) s.heap.objs.size p (Nat.ne_of_lt lt) its.toArray,⟨⟨_,Heap.get?_push_size _ rfl,rfl,rfl⟩,hl.push _⟩,λi v s' Q' E' hP hQ=> ?_,λh' tk hk=> ?_⟩
 ·rw[DI rv hP]
  exact wpAny_truthy_bool hQ
 ·rw[hlen,all_range]
  refine⟨.bl (bs.all id),H,I.kept (t':=tk) λb o e=>hk b o (λz=> ?_) (Heap.get?_push_of_some _ e),rfl,q⟩
  have hb:=Heap.lt_size e
  rw[List.mem_singleton.mp z] at hb
  exact absurd hb (Nat.lt_irrefl _)
theorem uP(hc:X.calm=true:=by rfl):fP X (.builtin "any") (λxs H Q=>∃(p:Addr) (bs:List Bool),xs=[.ref p]/\SqL X.K H p (bs.map V.bl)/\Q (.bl (bs.any id)) H):=by
 intro pins s σ H xs us Q I r h
 obtain⟨p,bs,rfl,hq,q⟩:=h
 obtain⟨u,rfl,ru⟩:=vals1 r
 cases ru
 obtain⟨its,rv,pl,hz⟩:=I.list hq
 have hl:=pl.isList
 have lt:p<s.heap.objs.size:=by obtain⟨_,e,_⟩:=hl;exact Heap.lt_size e
 have hlen:its.toArray.size=bs.length:=by have:=rv.length;rw[List.length_map] at this;simp;omega
 refine call_any_walk (wpAny_pyIter_list hl ?_)
 refine⟨_,_,_,_,_,_,λi=>bs.getD i false,rfl,Walks.list (A:=X.A.in1) (I.ok.hd hc) s.heap.objs.size p (Nat.ne_of_lt lt) its.toArray,⟨⟨_,Heap.get?_push_size _ rfl,rfl,rfl⟩,hl.push _⟩,λi v s' Q' E' hP hQ=> ?_,λh' tk hk=> ?_⟩
 ·rw[DI rv hP]
  exact wpAny_truthy_bool hQ
 ·rw[hlen,any_range]
  refine⟨.bl (bs.any id),H,I.kept (t':=tk) λb o e=>hk b o (λz=> ?_) (Heap.get?_push_of_some _ e),rfl,q⟩
  have hb:=Heap.lt_size e
  rw[List.mem_singleton.mp z] at hb
  exact absurd hb (Nat.lt_irrefl _)
end
end L2
set_option maxRecDepth 100000
set_option maxHeartbeats 4000000
namespace L2
open PySem PySem.Spec PyProof.Rows
section
variable {X : Cx} {e se : Expr} {te : TE} {lo hi : Option Expr} {tl th ts : TO} {pos p2 : Pos}
end
end L2
set_option maxRecDepth 100000
set_option maxHeartbeats 4000000
namespace L2
open PySem PySem.Spec PyProof.Rows
section
variable {X : Cx} {tg : Expr}
end
end L2
set_option maxRecDepth 100000
set_option maxHeartbeats 4000000
namespace L2
open PySem PySem.Spec PyProof.Rows
section
variable {X : Cx}
end
end L2
set_option maxRecDepth 100000
set_option maxHeartbeats 4000000
namespace L2
open PySem PySem.Spec PyProof.Rows
section
variable {X : Cx}
end
end L2
set_option maxRecDepth 100000
set_option maxHeartbeats 4000000
namespace L2
open PySem PySem.Spec PyProof.Rows
section
variable {X : Cx}
end
end L2
set_option maxRecDepth 100000
set_option maxHeartbeats 4000000
namespace L2
open PySem PySem.Spec PyProof.Rows
section
variable {X : Cx}
def isT(y:Str):Value->Bool
 | .str a _=>a == y
 | _=>false
end
end L2
set_option maxRecDepth 100000
set_option maxHeartbeats 4000000
namespace L2
open PySem PySem.Spec PyProof.Rows
section
variable {prog : Program} {w : World} {A : Around} {R : Result → Shared → Prop} {I : Addr} {fp wr : List Addr} {G : Array GenState → Array GenState → Prop} {n : Nat} {P : Nat → Value → Prop} {St : Nat → Shared → Prop}
end
section
variable {prog : Program} {w : World} {A : Around} {E : Value → Shared → Prop} {s : Shared}
end
section
variable {X : Cx} {e : Expr} {te : TE} {x y : Str} {p1 p2 q1 q2 : Pos}
end
end L2
set_option maxRecDepth 100000
set_option maxHeartbeats 1000000
namespace L2
open PySem PySem.Spec PyProof.Rows PySem.W
def gX{α:Type}(lt:Nat->Nat->Bool):KasT α->α
 | .ret a=>a
 | .ask i j k=>gX lt (k (lt i j))
theorem jd{α β:Type}(lt:Nat->Nat->Bool)(f:α->KasT β):∀t:KasT α,gX lt (t.bind f)=gX lt (f (gX lt t))
 | .ret _=>rfl
 | .ask i j k=>jd lt f (k (lt i j))
section
variable {O : KeyOrd} (key : Nat → O.α)
def kAt(p:Array Nat)(i:Nat):O.α:=key (p.getD i 0)
abbrev ltK:Nat->Nat->Bool:=λi j=>O.blt (key i) (key j)
def dk(p:Array Nat)(m:Nat):Prop:=∀i j,i<=j->j<m->O.kle (kAt key p i) (kAt key p j)
def iQ(p:Array Nat)(m:Nat):Prop:=∀i j,i<=j->j<m->O.kle (kAt key p j) (kAt key p i)
def tf(p:Array Nat)(n q:Nat):Prop:=∀i,n<=i+(q+1)->i<n->kAt key p i=kAt key p (n-1)
variable {key}
theorem o7{p p':Array Nat}{i j:Nat}(h:p'[i]? =p[j]?):kAt key p' i=kAt key p j:=by
 unfold kAt
 rw[Array.getD_eq_getD_getElem?,Array.getD_eq_getD_getElem?,h]
theorem qf{p:Array Nat}{i j:Nat}(hj:j<=p.size)(k:Nat):kAt key (kas_rev p i j) k=if i<=k/\k<j then kAt key p (i+j-1-k) else kAt key p k:=by
 have h:=getElem?_mirror_all (xs:=p) (i:=i) hj k
 split at h
 ·rename_i c
  rw[if_pos c];exact o7 h
 ·rename_i c
  rw[if_neg c];exact o7 h
theorem nu(p:Array Nat)(i j:Nat):(kas_rev p i j).Perm p:=mirror_perm _ _ _ _
theorem eU(p:Array Nat)(i j:Nat):(kas_rev p i j).size=p.size:=mirror_size _ _ _ _
theorem wC{p:Array Nat}{n q:Nat}(hn:n<=p.size)(hq:q+1<=n)(h:tf key p n q)(k:Nat):kAt key (kas_rev p (n-(q+1)) n) k=kAt key p k:=by
 rw[qf hn]
 split
 ·rename_i c
  rw[h _ (by omega) (by omega),h k (by omega) (by omega)]
 ·rfl
theorem dk.more{p:Array Nat}{n:Nat}(h1:1<=n)(h:dk key p n)(hn:O.kle (kAt key p (n-1)) (kAt key p n)):dk key p (n+1):=by
 intro i j hij hj
 by_cases hjn:j=n
 ·subst hjn
  by_cases hi:i=j
  ·subst hi;exact KeyOrd.kle_refl _
  ·exact KeyOrd.kle_trans (h i (j-1) (by omega) (by omega)) hn
 ·exact h i j hij (by omega)
theorem iQ.more{p:Array Nat}{n:Nat}(h1:1<=n)(h:iQ key p n)(hn:O.kle (kAt key p n) (kAt key p (n-1))):iQ key p (n+1):=by
 intro i j hij hj
 by_cases hjn:j=n
 ·subst hjn
  by_cases hi:i=j
  ·subst hi;exact KeyOrd.kle_refl _
  ·exact KeyOrd.kle_trans hn (h i (j-1) (by omega) (by omega))
 ·exact h i j hij (by omega)
theorem tM{p:Array Nat}:∀(f n:Nat),1<=n->dk key p n->∃m,gX (ltK key) (kas_asc p f n)=m/\n<=m/\m<=n+f/\dk key p m/\(m<n+f->O.blt (kAt key p m) (kAt key p (m-1))=true)
 | 0,n,_,h=>⟨n,rfl,Nat.le_refl _,Nat.le_refl _,h,λz=>absurd z (Nat.lt_irrefl _)⟩
 | f+1,n,h1,h=>by
  show ∃m,gX (ltK key) (if O.blt (kAt key p n) (kAt key p (n-1))=true then KasT.ret n else kas_asc p f (n+1))=m/\_
  cases hc:O.blt (kAt key p n) (kAt key p (n-1)) with
  | true=>exact⟨n,rfl,Nat.le_refl _,by omega,h,λ_=>hc⟩
  | false=>
   obtain⟨m,e,a1,a2,a3,a4⟩:=tM f (n+1) (by omega) (h.more h1 hc)
   exact⟨m,e,by omega,by omega,a3,λz=>a4 (by omega)⟩
theorem nF:∀(f:Nat) (p:Array Nat) (n q:Nat),1<=n->n+f<=p.size->q+1<=n->iQ key p n->tf key p n q->
 ∃p' n' q',gX (ltK key) (kas_desc f p n q)=(p',n',q')/\p'.Perm p/\p'.size=p.size/\n<=n'/\n'<=n+f/\q'+1<=n'/\iQ key p' n'/\tf key p' n' q'
 | 0,p,n,q,_,_,hq,h,he=>⟨p,n,q,rfl,.refl _,rfl,Nat.le_refl _,Nat.le_refl _,hq,h,he⟩
 | f+1,p,n,q,h1,hs,hq,h,he=>by
  have even0:∀p:Array Nat,tf key p (n+1) 0:=λp i a b=>by rw[show i=n by omega];rfl
  show ∃p' n' q',gX (ltK key) (if O.blt (kAt key p n) (kAt key p (n-1))=true then (if q>0 then kas_desc f (kas_rev p (n-(q+1)) n) (n+1) 0 else kas_desc f p (n+1) 0)
   else .ask (p.getD (n-1) 0) (p.getD n 0) λd=>if d=true then .ret (p,n,q) else kas_desc f p (n+1) (q+1))=(p',n',q')/\_
  cases hc:O.blt (kAt key p n) (kAt key p (n-1)) with
  | true=>
   rw[if_pos rfl]
   have hle:O.kle (kAt key p n) (kAt key p (n-1)):=KeyOrd.kle_of_klt hc
   have hf:=h.more h1 hle
   by_cases hq0:q>0
   ·rw[if_pos hq0]
    have keep:=wC (key:=key) (p:=p) (n:=n) (q:=q) (by omega) hq he
    have hf':iQ key (kas_rev p (n-(q+1)) n) (n+1):=λi j a b=>by rw[keep,keep];exact hf i j a b
    obtain⟨p',n',q',e,b1,b2,b3,b4,b5,b6,b7⟩:=nF f (kas_rev p (n-(q+1)) n) (n+1) 0 (by omega) (by rw[eU];omega) (by omega) hf' (even0 _)
    exact⟨p',n',q',e,b1.trans (nu _ _ _),b2.trans (eU _ _ _),by omega,by omega,b5,b6,b7⟩
   ·rw[if_neg hq0]
    obtain⟨p',n',q',e,b1,b2,b3,b4,b5,b6,b7⟩:=nF f p (n+1) 0 (by omega) (by omega) (by omega) hf (even0 _)
    exact⟨p',n',q',e,b1,b2,by omega,by omega,b5,b6,b7⟩
  | false=>
   rw[if_neg (by simp)]
   show ∃p' n' q',gX (ltK key) (if O.blt (kAt key p (n-1)) (kAt key p n)=true then KasT.ret (p,n,q) else kas_desc f p (n+1) (q+1))=(p',n',q')/\_
   cases hd:O.blt (kAt key p (n-1)) (kAt key p n) with
   | true=>exact⟨p,n,q,rfl,.refl _,rfl,Nat.le_refl _,by omega,hq,h,he⟩
   | false=>
    rw[if_neg (by simp)]
    have eq:kAt key p n=kAt key p (n-1):=O.total _ _ hc hd
    have he':tf key p (n+1) (q+1):=λi a b=>by
     show kAt key p i=kAt key p n
     by_cases hi:i=n
     ·rw[hi]
     ·rw[eq];exact he i (by omega) (by omega)
    obtain⟨p',n',q',e,b1,b2,b3,b4,b5,b6,b7⟩:=nF f p (n+1) (q+1) (by omega) (by omega) (by omega) (h.more h1 (by rw[eq];exact KeyOrd.kle_refl _)) he'
    exact⟨p',n',q',e,b1,b2,by omega,by omega,b5,b6,b7⟩
theorem vB{p:Array Nat}{n nrem:Nat}(h1:1<=n)(hn:n<=nrem)(hs:nrem<=p.size)(h:iQ key p n):
 ∃m p',gX (ltK key) (kas_tail3 n nrem p)=(m,p')/\p'.Perm p/\p'.size=p.size/\1<=m/\m<=nrem/\dk key p' m:=by
 have so:dk key (kas_rev p 0 n) n:=λi j a b=>by
  rw[qf (by omega),qf (by omega),if_pos ⟨Nat.zero_le _,by omega⟩,if_pos ⟨Nat.zero_le _,b⟩]
  exact h _ _ (by omega) (by omega)
 obtain⟨m,e,a1,a2,a3,_⟩:=tM (nrem-n) n h1 so
 refine⟨m,kas_rev p 0 n, ?_,nu _ _ _,eU _ _ _,by omega,by omega,a3⟩
 unfold kas_tail3
 rw[jd,e]
 rfl
theorem uG{p:Array Nat}{n nrem:Nat}(h1:1<=n)(hn:n+1<=nrem)(hs:nrem<=p.size)(h:iQ key p (n+1)):
 ∃m p',gX (ltK key) (kas_descPart n nrem p)=(m,p')/\p'.Perm p/\p'.size=p.size/\1<=m/\m<=nrem/\dk key p' m:=by
 obtain⟨p1,n1,q1,e,b1,b2,b3,b4,b5,b6,b7⟩:=nF (key:=key) (nrem-(n+1)) p (n+1) 0 (by omega) (by omega) (by omega) h (λi a b=>by rw[show i=n by omega];rfl)
 unfold kas_descPart
 rw[jd,e]
 dsimp only
 by_cases hq:q1>0
 ·rw[if_pos hq]
  have keep:=wC (key:=key) (p:=p1) (n:=n1) (q:=q1) (by omega) b5 b7
  obtain⟨m,p',e2,c1,c2,c3,c4,c5⟩:=vB (key:=key) (p:=kas_rev p1 (n1-(q1+1)) n1) (n:=n1) (nrem:=nrem) (by omega) (by omega) (by rw[eU];omega) (λi j a b=>by rw[keep,keep];exact b6 i j a b)
  exact⟨m,p',e2,c1.trans ((nu _ _ _).trans b1),c2.trans ((eU _ _ _).trans b2),c3,c4,c5⟩
 ·rw[if_neg hq]
  obtain⟨m,p',e2,c1,c2,c3,c4,c5⟩:=vB (key:=key) (p:=p1) (n:=n1) (nrem:=nrem) (by omega) (by omega) (by omega) b6
  exact⟨m,p',e2,c1.trans b1,c2.trans b2,c3,c4,c5⟩
theorem AY{p:Array Nat}{nrem:Nat}(h1:1<=nrem)(hs:nrem<=p.size):
 ∃m p',gX (ltK key) (kas_count nrem p)=(m,p')/\p'.Perm p/\p'.size=p.size/\1<=m/\m<=nrem/\dk key p' m:=by
 have s1:dk key p 1:=λi j a b=>by rw[show i=j by omega];exact KeyOrd.kle_refl _
 obtain⟨n,e,a1,a2,a3,a4⟩:=tM (key:=key) (p:=p) (nrem-1) 1 (Nat.le_refl _) s1
 unfold kas_count
 rw[jd,e]
 by_cases hn:n=nrem
 ·rw[if_pos (by simpa using hn)]
  exact⟨n,p,rfl,.refl _,rfl,a1,by omega,a3⟩
 ·rw[if_neg (by simpa using hn)]
  have down:=a4 (by omega)
  by_cases h2:n>1
  ·rw[if_pos h2]
   show ∃m p',gX (ltK key) (if O.blt (kAt key p 0) (kAt key p (n-1))=true then KasT.ret (n,p) else kas_descPart n nrem (kas_rev p 0 n))=(m,p')/\_
   cases hc:O.blt (kAt key p 0) (kAt key p (n-1)) with
   | true=>exact⟨n,p,rfl,.refl _,rfl,a1,by omega,a3⟩
   | false=>
    rw[if_neg (by simp)]
    have same:∀i,i<n->kAt key p i=kAt key p (n-1):=λi hi=>by
     refine KeyOrd.kle_antisymm (a3 i (n-1) (by omega) (by omega)) ?_
     exact KeyOrd.kle_trans (show O.kle (kAt key p (n-1)) (kAt key p 0) from hc) (a3 0 i (Nat.zero_le _) hi)
    have keys:∀i,i<=n->kAt key (kas_rev p 0 n) i=kAt key p i:=λi hi=>by
     rw[qf (by omega)]
     split
     ·rename_i c
      rw[same _ (by omega),same i (by omega)]
     ·rfl
    have fall:iQ key (kas_rev p 0 n) (n+1):=by
     refine iQ.more (by omega) (λi j a b=> ?_) ?_
     ·rw[keys i (by omega),keys j (by omega),same i (by omega),same j (by omega)];exact KeyOrd.kle_refl _
     ·rw[keys n (Nat.le_refl _),keys (n-1) (by omega)];exact KeyOrd.kle_of_klt down
    obtain⟨m,p',e2,c1,c2,c3,c4,c5⟩:=uG (key:=key) (p:=kas_rev p 0 n) (n:=n) (nrem:=nrem) (by omega) (by omega) (by rw[eU];omega) fall
    exact⟨m,p',e2,c1.trans (nu _ _ _),c2.trans (eU _ _ _),c3,c4,c5⟩
  ·rw[if_neg h2]
   obtain rfl:n=1:=by omega
   have fall:iQ key p (1+1):=iQ.more (Nat.le_refl _) (λi j a b=>by rw[show i=j by omega];exact KeyOrd.kle_refl _) (KeyOrd.kle_of_klt down)
   exact uG (by omega) (by omega) hs fall
theorem oG{p:Array Nat}{k:Nat}(hs:dk key p k):∀(f l r:Nat),l<=r->r<=k->r-l<=f->(∀i,i<l->O.kle (kAt key p i) (kAt key p k))->(∀i,r<=i->i<k->O.kle (kAt key p k) (kAt key p i))->
 ∃m,gX (ltK key) (kas_place p k f l r)=m/\m<=k/\(∀i,i<m->O.kle (kAt key p i) (kAt key p k))/\(∀i,m<=i->i<k->O.kle (kAt key p k) (kAt key p i))
 | 0,l,r,a,b,c,h1,h2=>⟨l,rfl,by omega,h1,λi hi hk=>h2 i (by omega) hk⟩
 | f+1,l,r,a,b,c,h1,h2=>by
  unfold kas_place
  by_cases hl:l ≥ r
  ·rw[if_pos hl]
   exact⟨l,rfl,by omega,h1,λi hi hk=>h2 i (by omega) hk⟩
  ·rw[if_neg hl]
   show ∃m,gX (ltK key) (if O.blt (kAt key p k) (kAt key p ((l+r)/2))=true then kas_place p k f l ((l+r)/2) else kas_place p k f ((l+r)/2+1) r)=m/\_
   cases hc:O.blt (kAt key p k) (kAt key p ((l+r)/2)) with
   | true=>
    rw[if_pos rfl]
    exact oG hs f l ((l+r)/2) (by omega) (by omega) (by omega) h1 λi hi hk=>KeyOrd.kle_trans (KeyOrd.kle_of_klt hc) (hs _ _ hi hk)
   | false=>
    rw[if_neg (by simp)]
    exact oG hs f ((l+r)/2+1) r (by omega) b (by omega) (λi hi=>KeyOrd.kle_trans (hs i ((l+r)/2) (by omega) (by omega)) hc) h2
theorem yu:∀(f:Nat) (p:Array Nat) (k:Nat),k+f<=p.size->dk key p k->∃p',gX (ltK key) (kas_bin f p k)=p'/\p'.Perm p/\p'.size=p.size/\dk key p' (k+f)
 | 0,p,k,_,h=>⟨p,rfl,.refl _,rfl,h⟩
 | f+1,p,k,hk,h=>by
  obtain⟨m,e,m1,m2,m3⟩:=oG h k 0 k (Nat.zero_le _) (Nat.le_refl _) (by omega) (λi hi=>absurd hi (by omega)) (λi a b=>absurd b (by omega))
  have at_:∀i,kAt key (bubble p k (k-m)) i=if i=m then kAt key p k else if m<i/\i<=k then kAt key p (i-1) else kAt key p i:=λi=>by
   have g:=getElem?_bubble (xs:=p) (src:=k) (by omega) (k-m) (by omega) i
   rw[show k-(k-m)=m by omega] at g
   split at g
   ·rename_i c;rw[if_pos c];exact o7 g
   ·rename_i c
    rw[if_neg c]
    split at g
    ·rename_i d;rw[if_pos d];exact o7 g
    ·rename_i d;rw[if_neg d];exact o7 g
  have so:dk key (bubble p k (k-m)) (k+1):=λi j a b=>by
   rw[at_,at_]
   by_cases hi:i=m
   ·rw[if_pos hi]
    by_cases hj:j=m
    ·rw[if_pos hj];exact KeyOrd.kle_refl _
    ·rw[if_neg hj,if_pos (by omega)];exact m3 _ (by omega) (by omega)
   ·rw[if_neg hi]
    by_cases hi2:m<i/\i<=k
    ·rw[if_pos hi2,if_neg (by omega),if_pos (by omega)]
     exact h _ _ (by omega) (by omega)
    ·rw[if_neg hi2]
     by_cases hj:j=m
     ·rw[if_pos hj];exact m2 i (by omega)
     ·rw[if_neg hj]
      by_cases hj2:m<j/\j<=k
      ·rw[if_pos hj2];exact h _ _ (by omega) (by omega)
      ·rw[if_neg hj2];exact h _ _ a (by omega)
  obtain⟨p',e2,c1,c2,c3⟩:=yu f (bubble p k (k-m)) (k+1) (by rw[bubble_size];omega) so
  refine⟨p', ?_,c1.trans (bubble_perm _ _ _),c2.trans (bubble_size _ _ _), ?_⟩
  ·unfold kas_bin
   rw[jd,e]
   exact e2
  ·rw[show k+(f+1)=k+1+f by omega];exact c3
theorem qY{n:Nat}(h1:1<=n):∃p,gX (ltK key) (kas_sort n)=p/\p.Perm (List.toArray (List.range n))/\p.size=n/\dk key p n:=by
 have sz:(List.toArray (List.range n)).size=n:=by simp
 obtain⟨m,p1,e,a1,a2,a3,a4,a5⟩:=AY (key:=key) (p:=List.toArray (List.range n)) (nrem:=n) h1 (by omega)
 unfold kas_sort
 rw[jd,e]
 dsimp only
 by_cases hm:m<n
 ·rw[if_pos hm,Nat.max_eq_left a3]
  obtain⟨p2,e2,b1,b2,b3⟩:=yu (key:=key) (n-m) p1 m (by omega) a5
  exact⟨p2,e2,b1.trans a1,by omega,by rw[show m+(n-m)=n by omega] at b3;exact b3⟩
 ·rw[if_neg hm]
  obtain rfl:m=n:=by omega
  exact⟨p1,rfl,a1,by omega,a5⟩
end
end L2
set_option maxRecDepth 100000
set_option maxHeartbeats 1000000
namespace L2
open PySem PySem.Spec PyProof.Rows PySem.W
theorem lex_irrefl:∀a:List Int,HT.lexLt a a=false
 | []=>rfl
 | x::a=>by rw[HT.kC,if_pos rfl];exact lex_irrefl a
theorem lex_trans:∀a b c:List Int,HT.lexLt a b=true->HT.lexLt b c=true->HT.lexLt a c=true
 | [],[],_,h,_=>by cases h
 | [],_::_,[],_,h=>by cases h
 | [],_::_,_::_,_,_=>rfl
 | _::_,[],_,h,_=>by cases h
 | _::_,_::_,[],_,h=>by cases h
 | x::a,y::b,z::c,h1,h2=>by
  rw[HT.kC] at h1 h2 ⊢
  by_cases e1:x=y
  ·by_cases e2:y=z
   ·rw[if_pos e1] at h1
    rw[if_pos e2] at h2
    rw[if_pos (e1.trans e2)]
    exact lex_trans a b c h1 h2
   ·rw[if_neg e2] at h2
    rw[e1,if_neg e2];exact h2
  ·rw[if_neg e1] at h1
   have l1:=of_decide_eq_true h1
   by_cases e2:y=z
   ·rw[<- e2,if_neg e1];exact h1
   ·rw[if_neg e2] at h2
    have l2:=of_decide_eq_true h2
    rw[if_neg (by omega)];exact decide_eq_true (by omega)
theorem lU:∀a b:List Int,HT.lexLt a b=false->HT.lexLt b a=false->a=b
 | [],[],_,_=>rfl
 | [],_::_,h,_=>by cases h
 | _::_,[],_,h=>by cases h
 | x::a,y::b,h1,h2=>by
  rw[HT.kC] at h1 h2
  by_cases e:x=y
  ·rw[if_pos e] at h1
   rw[if_pos e.symm] at h2
   rw[e,lU a b h1 h2]
  ·rw[if_neg e] at h1
   rw[if_neg (Ne.symm e)] at h2
   have l1:=of_decide_eq_false h1
   have l2:=of_decide_eq_false h2
   omega
def Gu:KeyOrd where
 α:=List Int
 blt:=HT.lexLt
 irrefl:=lex_irrefl
 trans:=lex_trans
 negTrans:=λa b c h=>by
  cases h1:HT.lexLt a b with
  | true=>exact .inl rfl
  | false=>
   right
   cases h2:HT.lexLt b c with
   | true=>rfl
   | false=>
    cases h3:HT.lexLt b a with
    | true=>
     have:=lex_trans b a c h3 h
     rw[h2] at this;cases this
    | false=>
     have:=lU a b h1 h3
     subst this
     rw[h] at h2;cases h2
 total:=lU
def Lv{α:Type}(N:Nat)(P:α->Prop):KasT α->Prop
 | .ret a=>P a
 | .ask i j k=>i<N/\j<N/\∀b,Lv N P (k b)
theorem Lv.bind{α β:Type}{N:Nat}{P:α->Prop}{P':β->Prop}{f:α->KasT β}(hf:∀a,P a->Lv N P' (f a)):∀{t:KasT α},Lv N P t->Lv N P' (t.bind f)
 | .ret a,h=>hf a h
 | .ask i j k,h=>⟨h.1,h.2.1,λb=>Lv.bind hf (h.2.2 b)⟩
def Und(N:Nat)(p:Array Nat):Prop:=∀i,p.getD i 0<N
theorem Und.of{N:Nat}{p p':Array Nat}(h:Und N p)(hp:∀i:Nat,∃j:Nat,p'[i]? =p[j]?):Und N p':=λi=>by
 obtain⟨j,e⟩:=hp i
 have:=h j
 rw[Array.getD_eq_getD_getElem?] at this ⊢
 rw[e];exact this
theorem Und.rev{N:Nat}{p:Array Nat}(h:Und N p){i j:Nat}(hj:j<=p.size):Und N (kas_rev p i j):=h.of λk=>by
 have g:=getElem?_mirror_all (xs:=p) (i:=i) hj k
 split at g
 ·exact⟨_,g⟩
 ·exact⟨_,g⟩
theorem Und.bub{N:Nat}{p:Array Nat}(h:Und N p){k d:Nat}(hk:k<p.size)(hd:d<=k):Und N (bubble p k d):=h.of λi=>by
 have g:=getElem?_bubble (xs:=p) hk d hd i
 split at g
 ·exact⟨_,g⟩
 ·split at g
  ·exact⟨_,g⟩
  ·exact⟨_,g⟩
theorem v8{N:Nat}{p:Array Nat}(h:Und N p):∀(f n:Nat),Lv N (λm=>n<=m/\m<=n+f) (kas_asc p f n)
 | 0,n=>⟨Nat.le_refl _,Nat.le_refl _⟩
 | f+1,n=>⟨h _,h _,λb=>by
  cases b with
  | true=>exact⟨Nat.le_refl _,by omega⟩
  | false=>
   have:=Lv.bind (f:=KasT.ret) (P':=λm=>n<=m/\m<=n+(f+1)) (λa ha=>(⟨by omega,by omega⟩:n<=a/\a<=n+(f+1))) (v8 h f (n+1))
   rw[show (kas_asc p f (n+1)).bind KasT.ret=kas_asc p f (n+1) from bind_ret _] at this
   exact this⟩
where bind_ret {α:Type}:∀t:KasT α,t.bind KasT.ret=t
  | .ret _=>rfl
  | .ask i j k=>congrArg (KasT.ask i j) (funext λb=>bind_ret (k b))
theorem Lv.mono{α:Type}{N:Nat}{P P':α->Prop}(h:∀a,P a->P' a):∀{t:KasT α},Lv N P t->Lv N P' t
 | .ret a,x=>h a x
 | .ask i j k,x=>⟨x.1,x.2.1,λb=>Lv.mono h (x.2.2 b)⟩
theorem pS{N S:Nat}:∀(f:Nat) (p:Array Nat) (n q:Nat),p.size=S->n+f<=S->Und N p->Lv N (λr:Array Nat×Nat×Nat=>r.1.size=S/\Und N r.1/\n<=r.2.1/\r.2.1<=n+f) (kas_desc f p n q)
 | 0,p,n,q,hz,_,h=>⟨hz,h,Nat.le_refl _,Nat.le_refl _⟩
 | f+1,p,n,q,hz,hs,h=>⟨h _,h _,λc=>by
  have up:∀{t:KasT (Array Nat×Nat×Nat)},Lv N (λr:Array Nat×Nat×Nat=>r.1.size=S/\Und N r.1/\n+1<=r.2.1/\r.2.1<=n+1+f) t->Lv N (λr:Array Nat×Nat×Nat=>r.1.size=S/\Und N r.1/\n<=r.2.1/\r.2.1<=n+(f+1)) t:=
   Lv.mono λr ⟨a,b,c,d⟩=>⟨a,b,by omega,by omega⟩
  cases c with
  | true=>
   show Lv N _ (if q>0 then kas_desc f (kas_rev p (n-(q+1)) n) (n+1) 0 else kas_desc f p (n+1) 0)
   split
   ·exact up (pS f _ (n+1) 0 (by rw[eU];exact hz) (by omega) (h.rev (by omega)))
   ·exact up (pS f p (n+1) 0 hz (by omega) h)
  | false=>
   refine⟨h _,h _,λd=> ?_⟩
   cases d with
   | true=>exact⟨hz,h,Nat.le_refl _,Nat.le_add_right _ _⟩
   | false=>exact up (pS f p (n+1) (q+1) hz (by omega) h)⟩
theorem yW{N S n nrem:Nat}{p:Array Nat}(hz:p.size=S)(hn:n<=nrem)(hs:nrem<=S)(h:Und N p):Lv N (λr:Nat×Array Nat=>r.2.size=S/\Und N r.2/\r.1<=nrem) (kas_tail3 n nrem p):=by
 have h':Und N (kas_rev p 0 n):=h.rev (by omega)
 exact Lv.bind (f:=λm=>KasT.ret (m,kas_rev p 0 n)) (P':=λr:Nat×Array Nat=>r.2.size=S/\Und N r.2/\r.1<=nrem) (λm hm=>(⟨by rw[eU];exact hz,h',by have:=hm.2;show m<=nrem;omega⟩:(kas_rev p 0 n).size=S/\Und N (kas_rev p 0 n)/\m<=nrem)) (v8 h' (nrem-n) n)
theorem xm{N S n nrem:Nat}{p:Array Nat}(hz:p.size=S)(hn:n+1<=nrem)(hs:nrem<=S)(h:Und N p):Lv N (λr:Nat×Array Nat=>r.2.size=S/\Und N r.2/\r.1<=nrem) (kas_descPart n nrem p):=by
 refine Lv.bind (λr hr=> ?_) (pS (nrem-(n+1)) p (n+1) 0 hz (by omega) h)
 obtain⟨a,b,c,d⟩:=hr
 split
 ·exact yW (by rw[eU];exact a) (by omega) hs (b.rev (by omega))
 ·exact yW a (by omega) hs b
theorem B5{N S nrem:Nat}{p:Array Nat}(hz:p.size=S)(h1:1<=nrem)(hs:nrem<=S)(h:Und N p):Lv N (λr:Nat×Array Nat=>r.2.size=S/\Und N r.2/\r.1<=nrem) (kas_count nrem p):=by
 refine Lv.bind (λn hn=> ?_) (v8 h (nrem-1) 1)
 split
 ·exact⟨hz,h,by omega⟩
 ·rename_i hne
  have hne:¬n=nrem:=by simpa using hne
  split
  ·refine⟨h _,h _,λc=> ?_⟩
   cases c with
   | true=>exact⟨hz,h,by omega⟩
   | false=>exact xm (by rw[eU];exact hz) (by omega) hs (h.rev (by omega))
  ·exact xm hz (by omega) hs h
theorem rT{N:Nat}{p:Array Nat}{k:Nat}(h:Und N p):∀(f l r:Nat),l<=k->r<=k->Lv N (λm=>m<=k) (kas_place p k f l r)
 | 0,l,r,a,b=>a
 | f+1,l,r,a,b=>by
  unfold kas_place
  split
  ·exact a
  ·refine⟨h _,h _,λc=> ?_⟩
   cases c with
   | true=>exact rT h f l ((l+r)/2) a (by omega)
   | false=>exact rT h f ((l+r)/2+1) r (by omega) b
theorem AG{N S:Nat}:∀(f:Nat) (p:Array Nat) (k:Nat),p.size=S->k+f<=S->Und N p->Lv N (λp':Array Nat=>p'.size=S) (kas_bin f p k)
 | 0,p,k,hz,_,_=>hz
 | f+1,p,k,hz,hk,h=>Lv.bind (λm hm=>AG f _ (k+1) (by rw[bubble_size];exact hz) (by omega) (h.bub (by omega) (by omega))) (rT h k 0 k (Nat.zero_le _) (Nat.le_refl _))
theorem Ee{n:Nat}(h1:1<=n):Lv n (λp:Array Nat=>p.size=n) (kas_sort n):=by
 have sz:(List.toArray (List.range n)).size=n:=by simp
 have und:Und n (List.toArray (List.range n)):=λi=>by
  rw[Array.getD_eq_getD_getElem?,List.getElem?_toArray]
  by_cases hi:i<n
  ·simp[hi]
  ·rw[List.getElem?_eq_none (by simpa using hi)];exact h1
 refine Lv.bind (λr hr=> ?_) (B5 sz h1 (Nat.le_refl _) und)
 obtain⟨a,b,c⟩:=hr
 split
 ·exact AG _ _ _ a (by omega) b
 ·exact a
theorem wQ{α:Type}{N:Nat}{P:α->Prop}{lt:Nat->Nat->Bool}{cmp:Nat->Nat->(Bool->Shared->Prop)->Shared->Prop}{Q:α->Shared->Prop}{s:Shared}(hc:∀i j C,i<N->j<N->C (lt i j) s->cmp i j C s):
 ∀(t:KasT α),Lv N P t->Q (gX lt t) s->t.kasWp cmp Q s
 | .ret a,_,h=>h
 | .ask i j k,l,h=>hc i j _ l.1 l.2.1 (wQ hc (k (lt i j)) (l.2.2 _) h)
section
open PySem.SeqAt
open PySem.AutoSeq1 (wpAny_loadPart')
open PySem.MeetsSeq PySem.MeetsSeq2 PySem.MeetsSeq3
theorem ints_get{vs:List Value}{ns:List Int}(h:IntsAre vs ns){i:Nat}(hi:i<ns.length):∃t,vs[i]? =some (.int ns[i] t):=by
 have hl:=h.length
 have e:vs[i]? =some vs[i]:=List.getElem?_eq_getElem (by omega)
 obtain⟨t,q⟩:=h.int_at i _ e
 refine⟨t, ?_⟩
 rw[e,q]
 simp[List.getD_eq_getElem?_getD,hi]
theorem CK(l b:Addr)(items items2:Array Value)(n n2:Nat)(dd dd2:Option Addr)(sl sl2:Array (Option Value))(ns ms:List Int)(hi:IntsAre items.toList ns)(hj:IntsAre items2.toList ms)(k:Nat):
 ∀i:Nat,ns.length-i=k->i<=ns.length->i<=ms.length->Meets (Builtin.«list.__eq__.loop» ⟨[.ref l,.ref b,rawInt i,rawInt 0],[]⟩)
  (λ_ R s=>s.heap.get? l=some {cls:=.type "list",dict:=dd,data:=.seq items n,slots:=sl}/\s.heap.get? b=some {cls:=.type "list",dict:=dd2,data:=.seq items2 n2,slots:=sl2}/\
   R (.ok (.ret (.bool (HT.lexLt (ns.drop i) (ms.drop i))))) s):=by
 have z1:items.size=ns.length:=by rw[<- hi.length];simp
 have z2:items2.size=ms.length:=by rw[<- hj.length];simp
 have stop:∀i:Nat,i<=ns.length->i<=ms.length->(i=ns.length\/i=ms.length)->HT.lexLt (ns.drop i) (ms.drop i)=decide (items.size<items2.size):=by
  intro i h1 h2 h3
  by_cases e1:i=ns.length
  ·rw[e1,List.drop_length]
   by_cases e2:ns.length=ms.length
   ·rw[e2,List.drop_length];exact(decide_eq_false (by omega)).symm
   ·rw[List.drop_eq_getElem_cons (by omega)];exact(decide_eq_true (by omega)).symm
  ·have e2:i=ms.length:=by omega
   rw[e2,List.drop_length,List.drop_eq_getElem_cons (by omega)];exact(decide_eq_false (by omega)).symm
 induction k with
 | zero=>
  intro i hk h1 h2 prog w A R s h
  obtain⟨hp,g,d,tk,os⟩:=s;obtain⟨hl,hb,h⟩:=h
  have hin:i=ns.length:=by omega
  wp_walk using wpAny_loadPart' hl,wpAny_loadPart' hb
  have hi1:items[((i:Nat):Int).toNat]? =none:=by simp;omega
  rw[hi1]
  rw[stop i h1 h2 (.inl hin)] at h
  wp_walk using wpAny_loadPart' hl,wpAny_loadPart' hb
  exact h
 | succ k ih=>
  intro i hk h1 h2 prog w A R s h
  obtain⟨hp,g,d,tk,os⟩:=s;obtain⟨hl,hb,h⟩:=h
  have lt1:i<ns.length:=by omega
  obtain⟨t,et⟩:=ints_get hi lt1
  have hi1:items[((i:Nat):Int).toNat]? =some (.int ns[i] t):=by rw[Array.getElem?_toList] at et;simpa using et
  by_cases lt2:i<ms.length
  ·obtain⟨u,eu⟩:=ints_get hj lt2
   have hi2:items2[((i:Nat):Int).toNat]? =some (.int ms[i] u):=by rw[Array.getElem?_toList] at eu;simpa using eu
   wp_walk using wpAny_loadPart' hl,wpAny_loadPart' hb
   rw[hi1,hi2]
   rw[List.drop_eq_getElem_cons lt1,List.drop_eq_getElem_cons lt2,HT.kC] at h
   have hc:((i:Int)+1)=((i+1:Nat):Int):=by push_cast;rfl
   obtain⟨e,he,hiff⟩:=HT.BV A.in1 ⟨hp,g,d,tk,os⟩ ns[i] t ms[i] u
   refine wpAny_bind (he prog w _ _ ?_)
   cases e with
   | true=>
    rw[if_pos (hiff.mp rfl)] at h
    wp_walk
    rw[hc]
    exact⟨plainId_quiet plain_eq_loop _,codeAny_builtin entry_eq_loop (by
     rw[Around.under_plainId plain_eq_loop _]
     exact ih (i+1) (by omega) (by omega) (by omega) prog w A R _ ⟨hl,hb,h⟩)⟩
   | false=>
    rw[if_neg (λq=>absurd (hiff.mpr q) Bool.false_ne_true)] at h
    have hri:=HT.wU A.in1 ⟨hp,g,d,tk,os⟩ ns[i] t ms[i] u prog w
    wp_walk using wpAny_loadPart' hl,wpAny_loadPart' hb
    rw[hi1,hi2]
    wp_walk using hri
    exact h
  ·have hi2:items2[((i:Nat):Int).toNat]? =none:=by simp;omega
   wp_walk using wpAny_loadPart' hl,wpAny_loadPart' hb
   rw[hi1,hi2]
   rw[stop i h1 h2 (.inr (by omega))] at h
   wp_walk using wpAny_loadPart' hl,wpAny_loadPart' hb
   exact h
theorem CL(l b:Addr)(items items2:Array Value)(n n2:Nat)(dd dd2:Option Addr)(sl sl2:Array (Option Value))(ns ms:List Int)(hi:IntsAre items.toList ns)(hj:IntsAre items2.toList ms):
 Meets (Builtin.«list.__lt__» ⟨[.ref l,.ref b],[]⟩)
  (λ_ R s=>s.heap.get? l=some {cls:=.type "list",dict:=dd,data:=.seq items n,slots:=sl}/\s.heap.get? b=some {cls:=.type "list",dict:=dd2,data:=.seq items2 n2,slots:=sl2}/\
   R (.ok (.ret (.bool (HT.lexLt ns ms)))) s):=by
 intro prog w A R s h
 obtain⟨hp,g,d,tk,os⟩:=s;obtain⟨hl,hb,h⟩:=h
 have f2:=AutoSeq1.sub_list_list
 wp_walk using wpAny_loadPart' hl,wpAny_loadPart' hb
 exact⟨plainId_quiet plain_eq_loop _,codeAny_builtin entry_eq_loop (by
  rw[Around.under_plainId plain_eq_loop _]
  exact CK l b items items2 n n2 dd dd2 sl sl2 ns ms hi hj _ 0 rfl (Nat.zero_le _) (Nat.zero_le _) prog w A R _ ⟨hl,hb,by simpa using h⟩)⟩
end
section
variable {prog : Program} {w : World} {A : Around} {E : Value → Shared → Prop} {s : Shared}
theorem yb {l b:Addr} {its its2:Array Value} {ns ms:List Int} {Q:Bool->Shared->Prop} (hl:s.heap.IsList l its) (hb:s.heap.IsList b its2) (hi:IntsAre its.toList ns) (hj:IntsAre its2.toList ms) (hu:A.units<cLine)
 (h:Q (HT.lexLt ns ms) s):wpAny (model prog w) A (keyLt' oneType' (.ref l) (.ref b)) Q E s:=by
 obtain⟨⟨cls,dd,data,sl⟩,ho,hc,n,hd⟩:=id hl
 obtain⟨⟨cls2,dd2,data2,sl2⟩,ho2,hc2,n2,hd2⟩:=id hb
 dsimp only at hc hd hc2 hd2
 subst hc hd hc2 hd2
 rw[keyLt'_oneType,oneLt'_eq]
 simp only[if_true]
 refine wpAny_bind (wpAny_cRoomFor hu ?_)
 refine wpAny_bind (wpAny_callSpecialIfBound?_slot ⟨_,ho,rfl⟩ PySem.F.slot_list_lt (call_meets PySem.F.slot_list_lt ⟨_,ho,rfl⟩ PySem.F.entry_list_lt (PySem.F.args_list_lt_2 _ _) (CL l b its its2 n n2 dd dd2 sl sl2 ns ms hi hj) ⟨ho,ho2, ?_⟩))
 exact wpAny_truthy_bool h
end
end L2
set_option maxRecDepth 100000
set_option maxHeartbeats 1000000
namespace L2
open PySem PySem.Spec PyProof.Rows PySem.W
section
variable {prog : Program} {w : World} {A : Around} {E : Value → Shared → Prop} {s : Shared}
abbrev wN(nss:List (List Int)):Nat->Gu.α:=λi=>nss.getD i []
def lX(vs:List Value)(p:Array Nat):Array Value:=(p.toList.map λi=>vs.getD i Value.none).toArray
def G9(h:Heap)(vs:List Value)(nss:List (List Int))(a:Addr):Prop:=∀i,i<vs.length->∃(l:Addr) (its:Array Value),vs.getD i Value.none=.ref l/\l≠a/\h.IsList l its/\IntsAre its.toList (nss.getD i [])
theorem xR(vs:List Value):lX vs (List.toArray (List.range vs.length))=vs.toArray:=by
 unfold lX
 congr 1
 refine List.ext_getElem (by simp) λi h1 h2=> ?_
 simp[List.getD_eq_getElem?_getD,h2]
theorem Fj {a:Addr} {vs:List Value} {nss:List (List Int)} {n:Nat} {P:PySem.Fin->Shared->Prop} (ho:s.heap.get? a=some (seqObj "list" vs.toArray n)) (h64:vs.length<64) (hu:A.units<cLine) (hit:G9 s.heap vs nss a)
 (h:∀p:Array Nat,p.Perm (List.toArray (List.range vs.length))->dk (wN nss) p vs.length->P (.done (.ret .none)) {s with heap:=sortedHeap s.heap a vs (lX vs p)}):
 wpAny (model prog w) A (Builtin.«list.sort» ⟨[.ref a],[]⟩) P E s:=by
 rw[list_sort_plain]
 have ha:a<s.heap.objs.size:=Heap.lt_size ho
 have hln:vs.length<=sizeLine:=by rw[sizeLine_eq];omega
 refine wpAny_bind (listItems_at ho rfl ?_)
 refine wpAny_bind (listUpdate_at ho rfl ?_ (by rw[List.size_toArray];exact hln) (Nat.zero_le _))
 obtain⟨e1,ho1⟩:∃e1,(s.heap.update a (Obj.mapSeq λ_=> #[])).get? a=some (seqObj "list" #[] e1):=⟨_,get?_update_seq ho (λ_=> #[])⟩
 refine wpAny_bind (seqEpoch_at ho1 rfl ?_)
 refine wpAny_bind (wpAny_newTuple ?_ hln)
 refine wpAny_bind (wpAny_newList ?_ (Nat.zero_le _))
 refine wpAny_holding ?_
 have old:∀b o,b≠a->s.heap.get? b=some o->(((s.heap.update a (Obj.mapSeq λ_=> #[])).push (seqObj "tuple" vs.toArray 0)).push (seqObj "list" #[] 0)).get? b=some o:=λb o hb e=>
  Heap.get?_push_of_some _ (Heap.get?_push_of_some _ ((Heap.get?_update_ne _ _ _ _ hb).trans e))
 have ho6:(((s.heap.update a (Obj.mapSeq λ_=> #[])).push (seqObj "tuple" vs.toArray 0)).push (seqObj "list" #[] 0)).get? a=some (seqObj "list" #[] e1):=Heap.get?_push_of_some _ (Heap.get?_push_of_some _ ho1)
 show wpAny (model prog w) A _ P E {s with heap:=((s.heap.update a (Obj.mapSeq λ_=> #[])).push (seqObj "tuple" vs.toArray 0)).push (seqObj "list" #[] 0)}
 dsimp only
 by_cases h2:vs.toArray.size<2
 ·have fin:=h (List.toArray (List.range vs.length)) (Array.Perm.refl _) λi j hij hj=>by
   have:i=j:=by rw[List.size_toArray] at h2;omega
   subst this;exact KeyOrd.kle_refl _
  rw[xR] at fin
  rw[if_pos h2,if_pos h2]
  refine wpAny_bind (wpAny_pure ?_)
  rw[StateT.run_pure]
  refine wpAny_bind (wpAny_pure ?_)
  dsimp only
  have hz:(Array.map (λx:Keyed=>x.2) (vs.toArray.zip vs.toArray))=vs.toArray:=by
   apply Array.toList_inj.mp
   rw[Array.toList_map,Array.toList_zip]
   exact List.map_snd_zip (Nat.le_refl _)
  refine wpAny_bind (seqEpoch_at ho6 rfl ?_)
  show wpAny (model prog w) A (Builtin.List.listUpdate (.ref a) (λ_=>Array.map (λx:Keyed=>x.2) (vs.toArray.zip vs.toArray)) >>= _) P E _
  rw[hz]
  refine wpAny_bind (listUpdate_at ho6 rfl ?_ (Nat.zero_le _) (by rw[List.size_toArray];omega))
  simp only[bne_self_eq_false,Bool.false_eq_true,if_false]
  exact wpAny_pure fin
 ·rw[if_neg h2,if_neg h2]
  have l2:2<=vs.length:=by rw[List.size_toArray] at h2;omega
  obtain⟨p0,e0,q1,q2,q3⟩:=qY (key:=wN nss) (n:=vs.length) (by omega)
  refine wpAny_bind (kas_kind (T:=.type "list") l2 (λv hv=> ?_) (by decide) (by decide) ?_)
  ·obtain⟨i,hi,rfl⟩:=List.getElem_of_mem hv
   obtain⟨l,its,el,la,il,_⟩:=hit i hi
   rw[List.getD_eq_getElem?_getD,List.getElem?_eq_getElem hi] at el
   rw[show vs[i]=.ref l from el]
   intro A Q E s' k q
   obtain⟨o,ho',hc,_⟩:=il
   exact wpAny_typeOf (T:="list") ⟨o,k _ _ (old _ _ la ho'),hc⟩ q
  have est:SortSt.mk' oneType' (vs.toArray.zip vs.toArray) #[] 7 none=kas_st oneType' (pairsOf vs) (List.toArray (List.range vs.length)):=by
   have e:=kas_range (pairsOf vs)
   rw[pairsOf_size] at e
   show SortSt.mk' oneType' (pairsOf vs) #[] 7 none=SortSt.mk' oneType' ((List.toArray (List.range vs.length)).map (kas_item (pairsOf vs))) #[] 7 none
   rw[e]
  have ask:(kas_sort vs.length).kasWp (kas_ask prog w A oneType' vs) (λp s'=>p=p0/\s'={s with heap:=((s.heap.update a (Obj.mapSeq λ_=> #[])).push (seqObj "tuple" vs.toArray 0)).push (seqObj "list" #[] 0)})
   {s with heap:=((s.heap.update a (Obj.mapSeq λ_=> #[])).push (seqObj "tuple" vs.toArray 0)).push (seqObj "list" #[] 0)}:=by
   refine wQ (lt:=ltK (wN nss)) (λi j C hi hj hC=> ?_) _ (Ee (by omega)) ⟨e0,rfl⟩
   obtain⟨l,its,el,la,il,ii⟩:=hit i hi
   obtain⟨m,its2,em,ma,im,ij⟩:=hit j hj
   unfold kas_ask
   rw[el,em]
   have up:∀{x:Addr} {xs:Array Value},x≠a->s.heap.IsList x xs->(((s.heap.update a (Obj.mapSeq λ_=> #[])).push (seqObj "tuple" vs.toArray 0)).push (seqObj "list" #[] 0)).IsList x xs:=λhx ⟨o,e,r⟩=>⟨o,old _ _ hx e,r⟩
   exact yb (up la il) (up ma im) ii ij hu hC
  rw[kas_ask_eq] at ask
  have run:=kas_runs (E:=E) (Q:=λ_ st' s'=>arrOf st'=p0.map (kas_item (pairsOf vs))/\failedOf st'=none/\s'={s with heap:=((s.heap.update a (Obj.mapSeq λ_=> #[])).push (seqObj "tuple" vs.toArray 0)).push (seqObj "list" #[] 0)})
   l2 h64 (λp' st' s' a1 a2 a3 a4=>⟨by rw[a2,a4.1],a3,a4.2⟩) ask
  rw[<- est] at run
  refine wpAny_bind (wpAny_mono run ?_ λ_ _ e=>e)
  rintro ⟨⟨⟩,st'⟩ s' ⟨har,hf,rfl⟩
  dsimp only
  have hout:(arrOf st').map (·.2)=lX vs p0:=by
   apply Array.toList_inj.mp
   rw[har,Array.map_map,Array.toList_map]
   exact List.map_congr_left λi _=>by show (kas_item (pairsOf vs) i).2=_;rw[kas_item_eq]
  rw[hout]
  refine wpAny_bind (seqEpoch_at ho6 rfl ?_)
  refine wpAny_bind (listUpdate_at ho6 rfl ?_ (Nat.zero_le _) (by unfold lX;rw[List.size_toArray,List.length_map,Array.length_toList,q2];omega))
  rw[hf]
  simp only[bne_self_eq_false,Bool.false_eq_true,if_false]
  exact wpAny_pure (h p0 q1 q3)
theorem DZ {l:Addr} {vs:List Value} {nss:List (List Int)} {Q:Value->Shared->Prop} (hl:s.heap.IsList l vs.toArray) (h64:vs.length<64) (hu:A.units+64<cLine)
 (hit:∀i,i<vs.length->∃(l:Addr) (its:Array Value),vs.getD i Value.none=.ref l/\s.heap.IsList l its/\IntsAre its.toList (nss.getD i []))
 (h:∀p:Array Nat,p.Perm (List.toArray (List.range vs.length))->dk (wN nss) p vs.length->Q (.ref (s.heap.objs.size+1)) {s with heap:=sortedAll s.heap vs (lX vs p)}):
 wpAny (model prog w) A (call (.builtin "sorted") [.ref l]) Q E s:=by
 have hln:vs.length<=sizeLine:=by rw[sizeLine_eq];omega
 refine Calls.call_function_entry kind_sorted plain_sorted entry_sorted (args_sorted1 _) ?_
 unfold Builtin.«sorted»
 refine wpAny_bind (m:=checkCount "sorted" 1 1 _) (wpAny_pure ?_)
 refine wpAny_bind (collect_list hl ?_ hln)
 refine wpAny_bind (wpAny_newList ?_ hln)
 have hsz:((s.heap.push (seqObj "list" #[] 0)).update s.heap.objs.size (Obj.mapSeq (·++vs.toArray))).objs.size=s.heap.objs.size+1:=by
  rw[Heap.size_update,size_push']
 have hoL:(((s.heap.push (seqObj "list" #[] 0)).update s.heap.objs.size (Obj.mapSeq (·++vs.toArray))).push (seqObj "list" vs.toArray 0)).get? (s.heap.objs.size+1)=some (seqObj "list" vs.toArray 0):=by
  rw[<- hsz];exact Heap.get?_push_size _ rfl
 have keep:∀b o,s.heap.get? b=some o->(((s.heap.push (seqObj "list" #[] 0)).update s.heap.objs.size (Obj.mapSeq (·++vs.toArray))).push (seqObj "list" vs.toArray 0)).get? b=some o:=λb o q=>by
  have hlt:b<s.heap.objs.size:=Heap.lt_size q
  exact Heap.get?_push_of_some _ ((Heap.get?_update_ne _ _ _ _ (Nat.ne_of_lt hlt)).trans (Heap.get?_push_of_some _ q))
 show wpAny _ _ _ _ _ {s with heap:=((s.heap.push (seqObj "list" #[] 0)).update s.heap.objs.size (Obj.mapSeq (·++vs.toArray))).push (seqObj "list" vs.toArray 0)}
 rw[hsz]
 refine wpAny_bind (wpAny_holding (wpAny_call_entry slot_list_sort ⟨_,hoL,rfl⟩ entry_list_sort (Fj (nss:=nss) hoL h64 ?_ (λi hi=> ?_) λp a1 a2=>⟨_,rfl, ?_⟩) (args_list_sort _)))
 ·simp only[units_in1];omega
 ·obtain⟨x,its,e,il,ii⟩:=hit i hi
  obtain⟨o,ho,r⟩:=il
  exact⟨x,its,e,Nat.ne_of_lt (Nat.lt_succ_of_lt (Heap.lt_size ho)),⟨o,keep _ _ ho,r⟩,ii⟩
 ·exact wpAny_pure ⟨_,rfl,h p a1 a2⟩
end
section
variable {α β : Type}
def nP(x:α×List Int):List (α×List Int)->List (α×List Int)
 | []=>[x]
 | y::l=>if HT.lexLt x.2 y.2=true then x::y::l else y::nP x l
def de:List (α×List Int)->List (α×List Int)
 | []=>[]
 | x::l=>nP x (de l)
theorem wL{g:α×List Int->β×List Int}(hg:∀x,(g x).2=x.2)(x:α×List Int):∀l,nP (g x) (l.map g)=(nP x l).map g
 | []=>rfl
 | y::l=>by
  rw[List.map_cons]
  unfold nP
  rw[hg,hg]
  split
  ·rfl
  ·rw[List.map_cons,wL hg x l]
theorem ke{g:α×List Int->β×List Int}(hg:∀x,(g x).2=x.2):∀l,de (l.map g)=(de l).map g
 | []=>rfl
 | x::l=>by
  rw[List.map_cons]
  unfold de
  rw[ke hg l,wL hg]
theorem oP(x:α×List Int):∀l,(nP x l).Perm (x::l)
 | []=>.refl _
 | y::l=>by
  unfold nP
  split
  ·exact .refl _
  ·exact((oP x l).cons y).trans (List.Perm.swap x y l)
theorem fH:∀l:List (α×List Int),(de l).Perm l
 | []=>.refl _
 | x::l=>(oP x _).trans ((fH l).cons x)
abbrev tK(l:List (α×List Int)):Prop:=l.Pairwise λa b=>HT.lexLt b.2 a.2=false
theorem lex_asymm{a b:List Int}(h:HT.lexLt a b=true):HT.lexLt b a=false:=by
 cases h2:HT.lexLt b a with
 | false=>rfl
 | true=>
  have:=lex_trans a b a h h2
  rw[lex_irrefl] at this;cases this
theorem zS{a b c:List Int}(h1:HT.lexLt b a=false)(h2:HT.lexLt c b=false):HT.lexLt c a=false:=KeyOrd.kle_trans (O:=Gu) (a:=a) (b:=b) (c:=c) h1 h2
theorem uE(x:α×List Int):∀{l},tK l->tK (nP x l)
 | [],_=>List.pairwise_singleton _ _
 | y::l,h=>by
  unfold nP
  have hy:=List.pairwise_cons.mp h
  split
  ·rename_i c
   refine List.pairwise_cons.mpr ⟨λz hz=> ?_,h⟩
   rcases List.mem_cons.mp hz with rfl | hz
   ·exact lex_asymm c
   ·exact zS (lex_asymm c) (hy.1 z hz)
  ·rename_i c
   refine List.pairwise_cons.mpr ⟨λz hz=> ?_,uE x hy.2⟩
   rcases List.mem_cons.mp ((oP x l).mem_iff.mp hz) with rfl | hz
   ·exact eq_false_of_ne_true c
   ·exact hy.1 z hz
theorem kP:∀l:List (α×List Int),tK (de l)
 | []=>.nil
 | x::l=>uE x (kP l)
theorem Eu{l:List (α×List Int)}(nd:(l.map (·.2)).Nodup){a b:α×List Int}(ha:a∈l)(hb:b∈l)(h:a.2=b.2):a=b:=by
 induction l with
 | nil=>cases ha
 | cons x l ih=>
  rw[List.map_cons,List.nodup_cons] at nd
  rcases List.mem_cons.mp ha with rfl | ha'
  ·rcases List.mem_cons.mp hb with rfl | hb
   ·rfl
   ·have q:b.2∈l.map (·.2):=List.mem_map_of_mem hb
    rw[<- h] at q
    exact absurd q nd.1
  ·rcases List.mem_cons.mp hb with rfl | hb
   ·have q:a.2∈l.map (·.2):=List.mem_map_of_mem ha'
    rw[h] at q
    exact absurd q nd.1
   ·exact ih nd.2 ha' hb
theorem qL:∀{l m:List (α×List Int)},l.Perm m->(l.map (·.2)).Nodup->tK l->tK m->l=m
 | [],m,h,_,_,_=>(List.nil_perm.mp h).symm
 | a::l,[],h,_,_,_=>absurd h.symm (by simp)
 | a::l,b::m,h,nd,hl,hm=>by
  have e:a=b:=by
   have ha:a∈b::m:=h.mem_iff.mp List.mem_cons_self
   have hb:b∈a::l:=h.mem_iff.mpr List.mem_cons_self
   rcases List.mem_cons.mp ha with e | ha
   ·exact e
   ·rcases List.mem_cons.mp hb with e | hb'
    ·exact e.symm
    ·refine Eu nd List.mem_cons_self hb (lU _ _ ((List.pairwise_cons.mp hm).1 a ha) ((List.pairwise_cons.mp hl).1 b hb'))
  subst e
  rw[qL (List.Perm.cons_inv h) (List.nodup_cons.mp nd).2 (List.pairwise_cons.mp hl).2 (List.pairwise_cons.mp hm).2]
end
section
variable {X : Cx}
def qU(K:PySem.W.Frag):List V->Hp->VK->Prop:=λxs H Q=>∃(p:Addr) (ls:List (Addr×List Int)),xs=[.ref p]/\SqL K H p (ls.map λx=>V.ref x.1)/\(∀x∈ls,SqL K H x.1 (x.2.map V.int))/\ls.length<64/\(ls.map (·.2)).Nodup/\
 ∀d,H d=none->Q (.ref d) (upd H d (.lst ((de ls).map λx=>V.ref x.1)))
theorem sj:∀{ls:List (Addr×List Int)} {its:List Value},Vals (ls.map λx=>V.ref x.1) its->its=ls.map λx=>Value.ref x.1
 | [],_,h=>by cases h;rfl
 | x::ls,_,h=>by
  cases h with
  | cons r rs=>cases r;rw[sj rs];rfl
theorem tu:∀(ls:List (Addr×List Int)),Vals (ls.map λx=>V.ref x.1) (ls.map λx=>Value.ref x.1)
 | []=>.nil
 | x::ls=>.cons rfl (tu ls)
theorem xx(hu:X.A.units+64<cLine):fP X (.builtin "sorted") (qU X.K):=by
 intro pins s σ H xs us Q I r h
 obtain⟨p,ls,rfl,hq,hi,h64,nd,q⟩:=h
 obtain⟨u,rfl,ru⟩:=vals1 r
 cases ru
 obtain⟨its,rv,pl,hz⟩:=I.list hq
 obtain rfl:=sj rv
 have ln:(ls.map λx=>Value.ref x.1).length=ls.length:=List.length_map _
 refine DZ (nss:=ls.map (·.2)) pl.isList (by rw[ln];exact h64) hu (λi hi'=> ?_) λp0 a1 a2=> ?_
 ·rw[ln] at hi'
  obtain⟨its2,r2,pl2,_⟩:=I.list (hi ls[i] (List.getElem_mem _))
  refine⟨ls[i].1,its2.toArray,by simp[List.getD_eq_getElem?_getD,hi'],pl2.isList, ?_⟩
  rw[show (ls.map (·.2)).getD i []=ls[i].2 by simp[List.getD_eq_getElem?_getD,hi']]
  simpa using kD r2
 ·rw[ln] at a1 a2
  have hm:∀i∈p0.toList,i<ls.length:=λi hi=>by
   have:=(Array.perm_iff_toList_perm.mp a1).mem_iff.mp hi
   simpa using this
  have e1:lX (ls.map λx=>Value.ref x.1) p0=((p0.toList.map λi=>ls.getD i (0,[])).map λx=>Value.ref x.1).toArray:=by
   unfold lX
   congr 1
   rw[List.map_map]
   refine List.map_congr_left λi hi=> ?_
   have:=hm i hi
   simp[List.getD_eq_getElem?_getD,this]
  have e2:(p0.toList.map λi=>ls.getD i (0,[])).Perm ls:=by
   have:=(Array.perm_iff_toList_perm.mp a1).map λi=>ls.getD i (0,[])
   refine this.trans (List.Perm.of_eq ?_)
   refine List.ext_getElem (by simp) λi h1 h2=> ?_
   simp[List.getD_eq_getElem?_getD,h2]
  have sz:p0.size=ls.length:=by have:=a1.size_eq;simpa using this
  have e3:tK (p0.toList.map λi=>ls.getD i (0,[])):=by
   refine List.pairwise_iff_getElem.mpr ?_
   intro i j hi hj hij
   have hi':i<p0.size:=by simpa using hi
   have hj':j<p0.size:=by simpa using hj
   have:=a2 i j (Nat.le_of_lt hij) (by omega)
   have k1:∀(i:Nat) (h:i<p0.size),kAt (wN (ls.map (·.2))) p0 i=(ls.getD p0[i] (0,[])).2:=λi h=>by
    have hb:=hm p0[i] (by simp)
    have e:p0.getD i 0=p0[i]:=by simp[Array.getD,h]
    unfold kAt
    rw[e]
    show (ls.map (·.2)).getD p0[i] []=_
    rw[List.getD_eq_getElem?_getD,List.getElem?_map,List.getD_eq_getElem?_getD,List.getElem?_eq_getElem hb]
    rfl
   rw[k1 i hi',k1 j hj'] at this
   rw[List.getElem_map,List.getElem_map,Array.getElem_toList,Array.getElem_toList]
   exact this
  have e4:(p0.toList.map λi=>ls.getD i (0,[]))=de ls:=qL (e2.trans (fH ls).symm) ((e2.map (·.2)).nodup_iff.mpr nd) e3 (kP ls)
  rw[e1,e4]
  obtain⟨e,he⟩:=sortedAll_at s.heap (ls.map λx=>Value.ref x.1) ((de ls).map λx=>Value.ref x.1).toArray
  have fresh:H (s.heap.objs.size+1)=none:=I.hok.fresh (Nat.le_succ _)
  refine⟨.ref (s.heap.objs.size+1),_,I.laid (t':=s.toks) (o:=.lst ((de ls).map λx=>V.ref x.1)) (λb o q=>sortedAll_old q) (Nat.le_succ _) ?_,rfl,q _ fresh⟩
  exact⟨by rw[List.length_map,(fH ls).length_eq];rw[List.length_map] at hz;exact hz,_,e,tu _,he⟩
end
end L2
set_option maxRecDepth 100000
set_option maxHeartbeats 1000000
namespace L2
open PySem PySem.Spec PyProof.Rows
section
variable {prog : Program} {w : World} {A : Around} {R : Result → Shared → Prop} {I : Addr} {fp wr : List Addr} {n : Nat} {P : Nat → Value → Prop} {St : Nat → Heap → Prop} {kw : List (Str × Value)}
theorem qd:(toString "min" ++toString ".loop" :String)="min.loop" :=by decide
theorem ET(W:Walks prog w A.in1 I fp wr n P St)(bt:Nat->Nat->Bool)(hcmp:CmpOf prog w A.in1 .Lt P bt)(S:Addr)(hSf:S∉fp):∀(k j:Nat) (s:Shared) (vb:Value) (c:Nat),n-(j+1)=k->j+1<=n->St (j+1) s.heap->P (argBest bt j) vb->
 s.heap.get? S=some {cls:=.type "list",dict:=none,data:=.seq #[vb,vb] c,slots:= #[]}->
 (∀v h' tk,P (argBest bt (n-1)) v->(∀b o,b∉wr->b≠S->s.heap.get? b=some o->h'.get? b=some o)->R (.ok (.ret v)) {s with heap:=h',toks:=tk})->
 codeAny (model prog w) A (.builtin "min.loop" ⟨[.ref I,.none,.ref S],kw⟩) R s:=by
 have nw:S∉wr:=λh=>hSf (W.sub _ h)
 intro k
 induction k with
 | zero=>
  intro j s vb c hk hj hst hPb hS hR
  have e:j+1=n:=by omega
  refine codeAny_builtin PySem.F.entry_min_loop ?_
  rw[Around.under_plainId PySem.F.plain_min_loop _]
  show wpAny _ A.in1 (seqItems? (.ref S) >>= _) _ _ s;refine wpAny_bind (wpAny_seqItems hS rfl ?_)
  show wpAny _ A.in1 (tryCatch (pyNext (.ref I)) _ >>= _) _ _ s;refine wpAny_bind (wpAny_tryCatch (W.done s _ _ (e▸hst) λh' tk hk'=> ?_))
  have hS1:=hk' S _ nw hS
  show wpAny _ A.in1 (updateSeq S (λ_=> #[]) >>= _) _ _ _;refine wpAny_bind ?_
  refine wpAny_updateSeq hS1 rfl (wpAny_bind (wpAny_letGo (wpAny_pure ?_)))
  exact hR vb _ tk (by rw[<- e];exact hPb) λb o h1 h2 q=>(Heap.get?_update_other _ _ (Ne.symm h2)).trans (hk' b o h1 q)
 | succ k ih=>
  intro j s vb c hk hj hst hPb hS hR
  have lt:j+1<n:=by omega
  refine codeAny_builtin PySem.F.entry_min_loop ?_
  rw[Around.under_plainId PySem.F.plain_min_loop _]
  show wpAny _ A.in1 (seqItems? (.ref S) >>= _) _ _ s;refine wpAny_bind (wpAny_seqItems hS rfl ?_)
  show wpAny _ A.in1 (tryCatch (pyNext (.ref I)) _ >>= _) _ _ s;refine wpAny_bind (wpAny_tryCatch (W.item (j+1) s _ _ lt hst λv h' tk hP hst' hk'=> ?_))
  have hS1:=hk' S _ nw hS
  show wpAny _ A.in1 (tryCatch (holding [v,v] (richCompare .Lt v vb >>= _)) _ >>= _) _ _ _;refine wpAny_bind (wpAny_tryCatch (wpAny_holding (wpAny_bind (hcmp (j+1) (argBest bt j) v vb _ _ _ hP hPb ?_))))
  refine wpAny_bind (wpAny_holding (wpAny_truthy_bool (wpAny_bind (wpAny_letGo (wpAny_pure ?_)))))
  cases hb:bt (j+1) (argBest bt j) with
  | true=>
   simp only[if_true]
   refine wpAny_bind ?_
   refine wpAny_updateSeq hS1 rfl (wpAny_bind (wpAny_letGo ?_))
   rw[qd]
   refine wpAny_pure ⟨plainId_quiet PySem.F.plain_min_loop _,ih (j+1) _ v _ (by omega) lt (W.frame _ _ _ hst' λb h1 o q=> ?_) (by simp only[argBest,hb,if_true];exact hP) (Heap.get?_update_self _ hS1 rfl) λv1 h2 tk2 hP1 hk2=> ?_⟩
   ·exact(Heap.get?_update_other _ _ (λh:S=b=>hSf (by rw[h];exact h1))).trans q
   ·exact hR v1 h2 tk2 hP1 λb o h3 h4 q=>hk2 b o h3 h4 ((Heap.get?_update_other _ _ (Ne.symm h4)).trans (hk' b o h3 q))
  | false=>
   simp only[Bool.false_eq_true,if_false]
   refine wpAny_bind (wpAny_letGo ?_)
   rw[qd]
   refine wpAny_pure ⟨plainId_quiet PySem.F.plain_min_loop _,ih (j+1) _ vb c (by omega) lt hst' (by simp only[argBest,hb,Bool.false_eq_true,if_false];exact hPb) hS1 λv1 h2 tk2 hP1 hk2=> ?_⟩
   exact hR v1 h2 tk2 hP1 λb o h3 h4 q=>hk2 b o h3 h4 (hk' b o h3 q)
end
section
variable {prog : Program} {w : World} {A : Around} {E : Value → Shared → Prop} {s : Shared}
theorem BP(a v:Value):argsOk "min" ⟨[a],[(Str.ofString "default",v)]⟩:=by unfold argsOk;kernel_rfl
theorem xM {l:Addr} {its:List Value} {ns:List Int} {d:Value} {Q:Value->Shared->Prop} (hh:A.handled=none) (hl:s.heap.IsList l its.toArray) (hI:IntsAre its ns) (hne:0<ns.length)
 (h:∀(m:Int) (t:Tok) (h':Heap) (k:Nat),m∈ns->(∀x∈ns,m<=x)->(∀b o,s.heap.get? b=some o->h'.get? b=some o)->Q (.int m t) {s with heap:=h',toks:=k}):
 wpAny (model prog w) A (call (.builtin "min") [.ref l] [(Str.ofString "default",d)]) Q E s:=by
 have hlen:its.length=ns.length:=hI.length
 have num:∀(i:Nat) (v:Value),its.toArray[i]? =some v->∃t,v=.int (ns.getD i 0) t:=λi v e=>hI.int_at i v (by simpa using e)
 refine PyProof.Rows.kmk_tree PySem.F.kind_min PySem.F.plain_min PySem.F.entry_min (BP _ _) ?_
 show wpAny _ A.in1 (Builtin.Builtins.bindParams "min" ["key","default"] 0 ⟨[],[(Str.ofString "default",d)]⟩ >>= _) _ _ s
 refine wpAny_bind (wpAny_of_eq (show Builtin.Builtins.bindParams "min" ["key","default"] 0 ⟨[],[(Str.ofString "default",d)]⟩=pure [none,some d] from rfl) ?_)
 refine wpAny_bind (wpAny_pure (wpAny_bind (wpAny_pyIter_list hl ?_)))
 refine wpAny_bind (wpAny_newList ?_ (Nat.zero_le _))
 rw[qd]
 have lt:l<s.heap.objs.size:=by obtain⟨_,e,_⟩:=hl;exact Heap.lt_size e
 have W:=Walks.list (prog:=prog) (w:=w) (A:=A.in1) hh s.heap.objs.size l (Nat.ne_of_lt lt) its.toArray
 have sz:its.toArray.size=ns.length:=by simp[hlen]
 have hS:(s.heap.push {cls:=.type "list_iterator",data:=.fields #[.ref l,.int 0 0]}).objs.size=s.heap.objs.size+1:=size_push' ..
 have cmp:CmpOf prog w A.in1 .Lt (λi v=>its.toArray[i]? =some v) (λi j=>decide (ns.getD i 0<ns.getD j 0)):=λi j vi vj s' Q' E' hi hj hq=>by
  obtain⟨t,rfl⟩:=num i vi hi
  obtain⟨u,rfl⟩:=num j vj hj
  exact HT.wU _ _ _ _ _ _ _ _ _ _ hq
 obtain⟨b1,b2⟩:=argBest_lt (λi=>ns.getD i 0) (ns.length-1)
 refine wpAny_pure ⟨plainId_quiet PySem.F.plain_min_loop _,codeAny_builtin PySem.F.entry_min_loop ?_⟩
 rw[Around.under_plainId PySem.F.plain_min_loop _]
 have gS:((s.heap.push {cls:=.type "list_iterator",data:=.fields #[.ref l,.int 0 0]}).push (seqObj "list" #[] 0)).get? (s.heap.push {cls:=.type "list_iterator",data:=.fields #[.ref l,.int 0 0]}).objs.size=some (seqObj "list" #[] 0):=Heap.get?_push_size _ rfl
 have gI:((s.heap.push {cls:=.type "list_iterator",data:=.fields #[.ref l,.int 0 0]}).push (seqObj "list" #[] 0)).get? s.heap.objs.size=some {cls:=.type "list_iterator",data:=.fields #[.ref l,.int 0 0]}:=Heap.get?_push_of_some _ (Heap.get?_push_size _ rfl)
 have nf:(s.heap.push {cls:=.type "list_iterator",data:=.fields #[.ref l,.int 0 0]}).objs.size∉[s.heap.objs.size,l]:=by
  rw[hS];simp only[List.mem_cons,List.mem_singleton,List.not_mem_nil,or_false,not_or]
  exact⟨Nat.ne_of_gt (Nat.lt_succ_self _),Nat.ne_of_gt (Nat.lt_succ_of_lt lt)⟩
 have nw:(s.heap.push {cls:=.type "list_iterator",data:=.fields #[.ref l,.int 0 0]}).objs.size∉[s.heap.objs.size]:=λq=>nf (by rw[List.mem_singleton.mp q];exact List.mem_cons_self)
 show wpAny _ A.in1 (seqItems? (.ref _) >>= _) _ _ _;refine wpAny_bind (wpAny_seqItems gS rfl ?_)
 show wpAny _ A.in1 (tryCatch (pyNext (.ref s.heap.objs.size)) _ >>= _) _ _ _
 refine wpAny_bind (wpAny_tryCatch (W.item 0 _ _ _ (by rw[sz];exact hne) ⟨⟨_,gI,rfl,rfl⟩,(hl.push _).push _⟩ λv h1 k1 hP hst hk1=> ?_))
 have hS1:=hk1 _ _ nw gS
 show wpAny _ A.in1 (updateSeq _ (λ_=> #[v,v]) >>= _) _ _ _
 refine wpAny_bind ?_
 refine wpAny_updateSeq hS1 rfl ?_
 rw[qd]
 refine wpAny_pure ⟨plainId_quiet PySem.F.plain_min_loop _,ET W (λi j=>decide (ns.getD i 0<ns.getD j 0)) cmp _ nf _ 0 _ v _ rfl (by rw[sz];exact hne) (W.frame _ _ _ hst λb h2 o q=> ?_) hP (Heap.get?_update_self _ hS1 rfl) λv2 h2 k2 hP2 hk2=> ?_⟩
 ·exact(Heap.get?_update_other _ _ (λq1=>nf (by rw[q1];exact h2))).trans q
 ·obtain⟨t,rfl⟩:=num _ _ hP2
  rw[sz]
  have lb:argBest (λi j=>decide (ns.getD i 0<ns.getD j 0)) (ns.length-1)<ns.length:=by omega
  refine h _ t h2 k2 ?_ (λx hx=> ?_) λb o e=> ?_
  ·rw[List.getD_eq_getElem?_getD,List.getElem?_eq_getElem lb];exact List.getElem_mem _
  ·obtain⟨j,hj,rfl⟩:=List.getElem_of_mem hx
   have:=b2 j (by omega)
   simpa[List.getD_eq_getElem?_getD,hj] using this
  ·have hb:=Heap.lt_size e
   have n1:b≠s.heap.objs.size:=Nat.ne_of_lt hb
   have n2:b≠(s.heap.push {cls:=.type "list_iterator",data:=.fields #[.ref l,.int 0 0]}).objs.size:=by rw[hS];exact Nat.ne_of_lt (Nat.lt_succ_of_lt hb)
   refine hk2 b o (by simpa using n1) n2 ((Heap.get?_update_other _ _ (Ne.symm n2)).trans (hk1 b o (by simpa using n1) (Heap.get?_push_of_some _ (Heap.get?_push_of_some _ e))))
end
section
variable {X : Cx} {e d : Expr} {te td : TE} {p q kp : Pos}
def DF(K:PySem.W.Frag)(te td:TE):TE:=λσ H Q=>te σ H λv H1=>td σ H1 λ_ H2=>∃(a:Addr) (ns:List Int),[v]=[V.ref a]/\SqL K H2 a (ns.map V.int)/\0<ns.length/\∀m:Int,m∈ns->(∀x∈ns,m<=x)->Q (.int m) H2
theorem EN(hc:X.calm=true)(hg:Gl X "min")(hm:X.mg "min" =none)(hv:bootBuiltins "min" =some (.builtin "min"))(he:PE X e te)(hd:PE X d td)(s1:starEach [e] X.env=[(false,eval e X.env)]:=by rfl):
 PE X (.Call (.Name "min" p) [e] [⟨some "default",d,kp⟩] q) (DF X.K te td):=by
 intro pins s σ H Q I h
 refine wpAny_Call_Name_kw (ki I hg hm hv ?_)
 refine callWith_kw ?_ (by rw[s1];rfl) (by rw[s1];rfl)
 refine thn ((ah he ay s1) q pins s σ H (λvs H1=>td σ H1 λ_ H2=>∃(a:Addr) (ns:List Int),vs=[V.ref a]/\SqL X.K H2 a (ns.map V.int)/\0<ns.length/\∀m:Int,m∈ns->(∀x∈ns,m<=x)->Q (.int m) H2) I h) λus s2 ⟨vs,H1,I1,r1,q1⟩=> ?_
 refine kws_cons (thn (hd pins s2 σ H1 _ I1 q1) λu s3 ⟨x,H2,I2,r2,q2⟩=>kws_nil ?_)
 obtain⟨a,ns,rfl,hs,h0,qq⟩:=q2
 obtain⟨w,rfl,rw⟩:=vals1 r1
 cases rw
 obtain⟨its,rv,pl,hz⟩:=I2.list hs
 exact xM (I2.ok.hd hc) pl.isList (kD rv) h0 λm t h' k a1 a2 a3=>⟨.int m,H2,I2.kept (t':=k) a3,⟨t,rfl⟩,qq m a1 a2⟩
end
end L2
set_option maxRecDepth 100000
set_option maxHeartbeats 1000000
namespace L2
open PySem PySem.Spec PyProof.Rows
section
variable {X : Cx}
end
end L2
set_option maxRecDepth 100000
set_option maxHeartbeats 1000000
namespace L2
open PySem PySem.Spec PyProof.Rows
theorem Di{X:Cx}{st:Stmt}{t:TS}(h:PS (X.wish λ_ _=>False) st t):PS X st t:=
 λpins s σ H D I q=>wpAny_mono (h pins s σ H D (I.wish _) q) (λ_ _ r=>SP.unwish r) (λ_ _ x=>x.elim)
end L2
set_option maxRecDepth 100000
set_option maxHeartbeats 1000000
namespace L2
open PySem PySem.Spec PyProof.Rows
section
variable {X : Cx}
end
end L2
set_option maxRecDepth 100000
set_option maxHeartbeats 4000000
namespace M
open PySem L2
inductive D where
 | non | bl (b:Bool) | int (i:Int) | str (x:Str) | lst (xs:List D) | tup (xs:List D) | ptr (k:Nat) | obj (c:Nat) (ns:List Str) (ds:List D) | exn (c:Nat)
inductive Cell where
 | dead | lst (xs:List D) | ins (c:Nat) (ns:List Str) (ds:List D)
abbrev au:=List Cell
structure S where
 r:List (Option D)
 o:au
inductive Res (α:Type) where
 | ok (a:α) | exc (c:Nat) (a:D) (o:S) | bad
def Res.bind{α β:Type}(x:Res α)(f:α->Res β):Res β:=match x with
 | .ok a=>f a
 | .exc c a o=>.exc c a o
 | .bad=>.bad
@[simp] theorem ak {α β:Type} (a:α) (f:α->Res β):(Res.ok a).bind f=f a:=rfl
@[simp] theorem HZ {α β:Type} (c:Nat) (a:D) (o:S) (f:α->Res β):(Res.exc c a o:Res α).bind f=.exc c a o:=rfl
@[simp] theorem HH {α β:Type} (f:α->Res β):(Res.bad:Res α).bind f=.bad:=rfl
abbrev Wsh:=Nat->D->S->Hp->Hp->List Addr->Prop
structure Ct where
 K:PySem.W.Frag
 ca:Nat->Addr
 W:Wsh
mutual
def Rep(K:PySem.W.Frag)(ca:Nat->Addr)(θ:List Addr)(F:Hp):D->V->Prop
 | .non,v=>v=.non
 | .bl b,v=>v=.bl b
 | .int i,v=>v=.int i
 | .str x,v=>v=.str x
 | .lst ds,v=>∃a xs,v=.ref a/\SqL K F a xs/\aw K ca θ F ds xs
 | .tup ds,v=>∃a xs,v=.ref a/\SqT K F a xs/\aw K ca θ F ds xs
 | .ptr k,v=>∃a,v=.ref a/\θ[k]? =some a
 | .obj c ns ds,v=>∃a dx xs,v=.ref a/\F a=some (.ins (ca c) dx (ns.zip xs))/\ns.length=xs.length/\aw K ca θ F ds xs
 | .exn c,v=>∃a,v=.ref a/\F a=some (exO a (ca c))
def aw(K:PySem.W.Frag)(ca:Nat->Addr)(θ:List Addr)(F:Hp):List D->List V->Prop
 | [],xs=>xs=[]
 | d::ds,xs=>∃v r,xs=v::r/\Rep K ca θ F d v/\aw K ca θ F ds r
end
mutual
def cx:D->Bool
 | .lst ds=>aX ds
 | .tup ds=>aX ds
 | .ptr _=>false
 | .obj _ _ ds=>aX ds
 | _=>true
def aX:List D->Bool
 | []=>true
 | d::ds=>cx d&&aX ds
end
def lV:D->Bool
 | .non=>true | .bl _=>true | .int _=>true | .str _=>true | _=>false
theorem bf.seqT{K:PySem.W.Frag}{H H':Hp}{a:Addr}{xs:List V}(e:bf H H')(h:SqT K H a xs):SqT K H' a xs:=by
 rcases h with(h | ⟨o,h⟩) | h
 ·exact .inl (.inl (e _ _ h))
 ·exact .inl (.inr ⟨o,e _ _ h⟩)
 ·exact .inr h
section
variable {K : PySem.W.Frag} {ca : Nat → Addr} {θ θ1 : List Addr} {F F1 : Hp}
mutual
theorem Rep.mono(hF:bf F F1)(hθ:∃r,θ1=θ++r):∀{d:D} {v:V},Rep K ca θ F d v->Rep K ca θ1 F1 d v
 | .non,_,h=>h
 | .bl _,_,h=>h
 | .int _,_,h=>h
 | .str _,_,h=>h
 | .lst ds,_,h=>by
  unfold Rep at h ⊢
  obtain⟨a,xs,e,hs,hr⟩:=h
  exact⟨a,xs,e,hF.seq hs,aw.mono hF hθ hr⟩
 | .tup ds,_,h=>by
  unfold Rep at h ⊢
  obtain⟨a,xs,e,hs,hr⟩:=h
  exact⟨a,xs,e,bf.seqT hF hs,aw.mono hF hθ hr⟩
 | .ptr k,_,h=>by
  unfold Rep at h ⊢
  obtain⟨a,e,hk⟩:=h
  obtain⟨r,rfl⟩:=hθ
  refine⟨a,e, ?_⟩
  rw[List.getElem?_append_left (List.getElem?_eq_some_iff.mp hk).1]
  exact hk
 | .obj c ns ds,_,h=>by
  unfold Rep at h ⊢
  obtain⟨a,dx,xs,e,ha,hl,hr⟩:=h
  exact⟨a,dx,xs,e,hF _ _ ha,hl,aw.mono hF hθ hr⟩
 | .exn c,_,h=>by
  unfold Rep at h ⊢
  obtain⟨a,e,ha⟩:=h
  exact⟨a,e,hF _ _ ha⟩
theorem aw.mono(hF:bf F F1)(hθ:∃r,θ1=θ++r):∀{ds:List D} {xs:List V},aw K ca θ F ds xs->aw K ca θ1 F1 ds xs
 | [],_,h=>h
 | d::ds,_,h=>by
  unfold aw at h ⊢
  obtain⟨v,r,e,h1,h2⟩:=h
  exact⟨v,r,e,Rep.mono hF hθ h1,aw.mono hF hθ h2⟩
end
mutual
theorem Rep.pure:∀{d:D} {v:V},cx d=true->Rep K ca θ F d v->Rep K ca θ1 F d v
 | .non,_,_,h=>h
 | .bl _,_,_,h=>h
 | .int _,_,_,h=>h
 | .str _,_,_,h=>h
 | .lst ds,_,p,h=>by
  unfold Rep at h ⊢
  obtain⟨a,xs,e,hs,hr⟩:=h
  exact⟨a,xs,e,hs,aw.pure (by simpa[cx] using p) hr⟩
 | .tup ds,_,p,h=>by
  unfold Rep at h ⊢
  obtain⟨a,xs,e,hs,hr⟩:=h
  exact⟨a,xs,e,hs,aw.pure (by simpa[cx] using p) hr⟩
 | .ptr k,_,p,h=>by simp[cx] at p
 | .obj c ns ds,_,p,h=>by
  unfold Rep at h ⊢
  obtain⟨a,dx,xs,e,ha,hl,hr⟩:=h
  exact⟨a,dx,xs,e,ha,hl,aw.pure (by simpa[cx] using p) hr⟩
 | .exn c,_,_,h=>by
  unfold Rep at h ⊢
  exact h
theorem aw.pure:∀{ds:List D} {xs:List V},aX ds=true->aw K ca θ F ds xs->aw K ca θ1 F ds xs
 | [],_,_,h=>h
 | d::ds,_,p,h=>by
  unfold aw at h ⊢
  obtain⟨v,r,e,h1,h2⟩:=h
  simp only[aX,Bool.and_eq_true] at p
  exact⟨v,r,e,Rep.pure p.1 h1,aw.pure p.2 h2⟩
end
theorem Rep.scal{d:D}{v:V}(p:lV d=true)(h:Rep K ca θ F d v):Rep K ca θ1 F1 d v:=by
 cases d <;> first | exact h | (simp[lV] at p)
theorem aw.length:∀{ds:List D} {xs:List V},aw K ca θ F ds xs->xs.length=ds.length
 | [],_,h=>by unfold aw at h;rw[h];rfl
 | d::ds,_,h=>by
  unfold aw at h
  obtain⟨v,r,rfl,_,h2⟩:=h
  rw[List.length_cons,List.length_cons,aw.length h2]
theorem aw.get:∀{ds:List D} {xs:List V} {i:Nat} {d:D},aw K ca θ F ds xs->ds[i]? =some d->∃v,xs[i]? =some v/\Rep K ca θ F d v
 | [],_,_,_,_,e=>by simp at e
 | d::ds,_,0,_,h,e=>by
  unfold aw at h
  obtain⟨v,r,rfl,h1,_⟩:=h
  simp at e
  subst e
  exact⟨v,rfl,h1⟩
 | d::ds,_,i+1,x,h,e=>by
  unfold aw at h
  obtain⟨v,r,rfl,_,h2⟩:=h
  obtain⟨u,e1,e2⟩:=aw.get (i:=i) (d:=x) h2 (by simpa using e)
  exact⟨u,by simpa using e1,e2⟩
theorem aw.append:∀{ds es:List D} {xs ys:List V},aw K ca θ F ds xs->aw K ca θ F es ys->aw K ca θ F (ds++es) (xs++ys)
 | [],_,_,_,h,k=>by unfold aw at h;rw[h];exact k
 | d::ds,_,_,_,h,k=>by
  unfold aw at h
  obtain⟨v,r,rfl,h1,h2⟩:=h
  show aw K ca θ F (d::(ds++_)) (v::(r++_))
  unfold aw
  exact⟨v,_,rfl,h1,aw.append h2 k⟩
theorem aw.one{d:D}{v:V}(h:Rep K ca θ F d v):aw K ca θ F [d] [v]:=by
 unfold aw
 exact⟨v,[],rfl,h,by unfold aw;rfl⟩
theorem aw.nil:aw K ca θ F [] []:=by unfold aw;rfl
theorem aw.cons{d:D}{v:V}{ds:List D}{xs:List V}(h:Rep K ca θ F d v)(k:aw K ca θ F ds xs):aw K ca θ F (d::ds) (v::xs):=by
 unfold aw
 exact⟨v,xs,rfl,h,k⟩
theorem aw.take:∀{ds:List D} {xs:List V} (n:Nat),aw K ca θ F ds xs->aw K ca θ F (ds.take n) (xs.take n)
 | _,_,0,_=>by simp;exact aw.nil
 | [],_,n+1,h=>by unfold aw at h;rw[h];exact aw.nil
 | d::ds,_,n+1,h=>by
  unfold aw at h
  obtain⟨v,r,rfl,h1,h2⟩:=h
  exact aw.cons h1 (aw.take n h2)
theorem aw.drop:∀{ds:List D} {xs:List V} (n:Nat),aw K ca θ F ds xs->aw K ca θ F (ds.drop n) (xs.drop n)
 | _,_,0,h=>h
 | [],_,n+1,h=>by unfold aw at h;rw[h];exact aw.nil
 | d::ds,_,n+1,h=>by
  unfold aw at h
  obtain⟨v,r,rfl,h1,h2⟩:=h
  exact aw.drop n h2
theorem aw.set{d:D}{v:V}(h:Rep K ca θ F d v):∀{ds:List D} {xs:List V} (i:Nat),aw K ca θ F ds xs->aw K ca θ F (ds.set i d) (xs.set i v)
 | [],_,_,k=>by unfold aw at k;rw[k];exact aw.nil
 | _::_,_,0,k=>by
  unfold aw at k
  obtain⟨v,r,rfl,h1,h2⟩:=k
  exact aw.cons h h2
 | _::_,_,i+1,k=>by
  unfold aw at k
  obtain⟨v,r,rfl,h1,h2⟩:=k
  exact aw.cons h1 (aw.set h i h2)
end
structure Stp(H F:Hp)(θ:List Addr)(H1 F1:Hp)(θ1:List Addr):Prop where
 ff:bf F F1
 th:∃r,θ1=θ++r/\∀a∈r,H a=none
 kp:∀b o,H b=some o->b∉θ->H1 b=some o
 al:∀b o,H b=some o->∃o',H1 b=some o'
 nf:∀b o,F1 b=some o->F b=some o\/H b=none\/b∈θ
theorem Stp.refl{H F:Hp}{θ:List Addr}:Stp H F θ H F θ:=⟨bf.refl _,⟨[],by simp,by simp⟩,λ_ _ h _=>h,λ_ o h=>⟨o,h⟩,λ_ _ h=>.inl h⟩
theorem Stp.pre{H F H1 F1:Hp}{θ θ1:List Addr}(x:Stp H F θ H1 F1 θ1):∃r,θ1=θ++r:=let ⟨r,e,_⟩:=x.th;⟨r,e⟩
theorem Stp.trans{H F H1 F1 H2 F2:Hp}{θ θ1 θ2:List Addr}(x:Stp H F θ H1 F1 θ1)(y:Stp H1 F1 θ1 H2 F2 θ2):Stp H F θ H2 F2 θ2:=by
 obtain⟨r,rfl,hr⟩:=x.th
 obtain⟨r2,rfl,hr2⟩:=y.th
 refine⟨x.ff.trans y.ff,⟨r++r2,by rw[List.append_assoc],λa ha=> ?_⟩,λb o h hb=> ?_,λb o h=> ?_,λb o h=> ?_⟩
 ·rcases List.mem_append.mp ha with z | z
  ·exact hr a z
  ·cases e:H a with
   | none=>rfl
   | some o=>
    obtain⟨o',e'⟩:=x.al a o e
    rw[hr2 a z] at e'
    cases e'
 ·refine y.kp b o (x.kp b o h hb) λhm=> ?_
  rcases List.mem_append.mp hm with z | z
  ·exact hb z
  ·rw[hr b z] at h
   cases h
 ·obtain⟨o',e'⟩:=x.al b o h
  exact y.al b o' e'
 ·rcases y.nf b o h with z | z | z
  ·exact x.nf b o z
  ·refine .inr (.inl ?_)
   cases e:H b with
   | none=>rfl
   | some o'=>
    obtain⟨o2,e2⟩:=x.al b o' e
    rw[z] at e2
    cases e2
  ·rcases List.mem_append.mp z with q | q
   ·exact .inr (.inr q)
   ·exact .inr (.inl (hr b q))
def jC(K:PySem.W.Frag)(ca:Nat->Addr)(H F:Hp)(θ:List Addr)(a:Addr):Cell->Prop
 | .dead=>∃o,H a=some o
 | .lst ds=>F a=none/\∃xs,H a=some (.lst xs)/\aw K ca θ F ds xs
 | .ins c ns ds=>F a=none/\∃dx xs,H a=some (.ins (ca c) dx (ns.zip xs))/\ns.length=xs.length/\aw K ca θ F ds xs
theorem jC.there{K:PySem.W.Frag}{ca:Nat->Addr}{H F:Hp}{θ:List Addr}{a:Addr}{c:Cell}(h:jC K ca H F θ a c):∃o,H a=some o:=by
 cases c with
 | dead=>exact h
 | lst ds=>obtain⟨_,xs,e,_⟩:=h;exact⟨_,e⟩
 | ins c ns ds=>obtain⟨_,dx,xs,e,_⟩:=h;exact⟨_,e⟩
structure Now(K:PySem.W.Frag)(ca:Nat->Addr)(H F:Hp)(θ:List Addr)(O:au):Prop where
 fh:bf F H
 nd:θ.Nodup
 ln:θ.length=O.length
 ce:∀(k:Nat) a c,θ[k]? =some a->O[k]? =some c->jC K ca H F θ a c
theorem Now.there{K:PySem.W.Frag}{ca:Nat->Addr}{H F:Hp}{θ:List Addr}{O:au}(n:Now K ca H F θ O){a:Addr}(h:a∈θ):∃o,H a=some o:=by
 obtain⟨k,hk,e⟩:=List.getElem_of_mem h
 have h1:θ[k]? =some a:=by rw[List.getElem?_eq_getElem hk,e]
 have h2:∃c,O[k]? =some c:=⟨O[k]'(by rw[<- n.ln];exact hk),List.getElem?_eq_getElem _⟩
 obtain⟨c,h2⟩:=h2
 exact(n.ce k a c h1 h2).there
theorem Now.nil{K:PySem.W.Frag}{ca:Nat->Addr}{H F:Hp}(h:bf F H):Now K ca H F [] []:=⟨h,List.nodup_nil,rfl,λk a c e _=>by simp at e⟩
structure BS(K:PySem.W.Frag)(ca:Nat->Addr)(σ:St)(H F:Hp)(θ:List Addr)(s:S):Prop where
 now:Now K ca H F θ s.o
 len:σ.length=s.r.length
 sl:∀(i:Nat) d,s.r[i]? =some (some d)->∃v,σ[i]? =some (some v)/\Rep K ca θ F d v
theorem BS.newF{K:PySem.W.Frag}{ca:Nat->Addr}{σ:St}{H F:Hp}{θ:List Addr}{s:S}(b:BS K ca σ H F θ s){p:Addr}(hp:H p=none)(o:HO):
 Stp H F θ (upd H p o) (upd F p o) θ/\BS K ca σ (upd H p o) (upd F p o) θ s/\bf F (upd F p o)/\upd F p o p=some o:=by
 have nm:∀a u,H a=some u->a≠p:=λa u e z=>by rw[z,hp] at e;cases e
 have fp:F p=none:=by
  cases e:F p with
  | none=>rfl
  | some u=>rw[b.now.fh p u e] at hp;cases hp
 have sF:bf F (upd F p o):=λa u e=>by rw[aI (nm a u (b.now.fh a u e))];exact e
 have sH:bf H (upd H p o):=λa u e=>by rw[aI (nm a u e)];exact e
 refine⟨⟨sF,⟨[],by simp,by simp⟩,λa u e _=>sH a u e,λa u e=>⟨u,sH a u e⟩,λa u e=> ?_⟩,⟨⟨λa u e=> ?_,b.now.nd,b.now.ln,λk a c e1 e2=> ?_⟩,b.len,λi d e=> ?_⟩,sF,bY⟩
 ·by_cases h:a=p
  ·subst h;exact .inr (.inl hp)
  ·rw[aI h] at e;exact .inl e
 ·by_cases h:a=p
  ·subst h;rw[bY] at e ⊢;exact e
  ·rw[aI h] at e ⊢;exact b.now.fh a u e
 ·have q:=b.now.ce k a c e1 e2
  obtain⟨u,hu⟩:=q.there
  have ne:=nm a u hu
  cases c with
  | dead=>exact⟨u,sH a u hu⟩
  | lst ds=>
   obtain⟨q1,xs,q2,q3⟩:=q
   exact⟨by rw[aI ne];exact q1,xs,sH _ _ q2,q3.mono sF ⟨[],by simp⟩⟩
  | ins c ns ds=>
   obtain⟨q1,dx,xs,q2,q3,q4⟩:=q
   exact⟨by rw[aI ne];exact q1,dx,xs,sH _ _ q2,q3,q4.mono sF ⟨[],by simp⟩⟩
 ·obtain⟨v,h1,h2⟩:=b.sl i d e
  exact⟨v,h1,h2.mono sF ⟨[],by simp⟩⟩
theorem BS.newC{K:PySem.W.Frag}{ca:Nat->Addr}{σ:St}{H F:Hp}{θ:List Addr}{s:S}(b:BS K ca σ H F θ s){p:Addr}(hp:H p=none){ds:List D}{xs:List V}(hr:aw K ca θ F ds xs):
 Stp H F θ (upd H p (.lst xs)) F (θ++[p])/\BS K ca σ (upd H p (.lst xs)) F (θ++[p]) ⟨s.r,s.o++[.lst ds]⟩/\Rep K ca (θ++[p]) F (.ptr s.o.length) (.ref p):=by
 have nm:∀a u,H a=some u->a≠p:=λa u e z=>by rw[z,hp] at e;cases e
 have fp:F p=none:=by
  cases e:F p with
  | none=>rfl
  | some u=>rw[b.now.fh p u e] at hp;cases hp
 have sH:bf H (upd H p (.lst xs)):=λa u e=>by rw[aI (nm a u e)];exact e
 have pt:p∉θ:=λh=>by obtain⟨u,hu⟩:=b.now.there h;rw[hp] at hu;cases hu
 refine⟨⟨bf.refl _,⟨[p],rfl,by simpa using hp⟩,λa u e _=>sH a u e,λa u e=>⟨u,sH a u e⟩,λa u e=>.inl e⟩,⟨⟨b.now.fh.trans sH, ?_, ?_,λk a c e1 e2=> ?_⟩,b.len,λi d e=> ?_⟩, ?_⟩
 ·refine List.nodup_append.mpr ⟨b.now.nd,by simp,λa ha x hx=> ?_⟩
  rw[List.mem_singleton.mp hx]
  rintro rfl
  exact pt ha
 ·simp[b.now.ln]
 ·by_cases hk:k<θ.length
  ·rw[List.getElem?_append_left hk] at e1
   rw[List.getElem?_append_left (by rw[<- b.now.ln];exact hk)] at e2
   have q:=b.now.ce k a c e1 e2
   obtain⟨u,hu⟩:=q.there
   cases c with
   | dead=>exact⟨u,sH a u hu⟩
   | lst ds=>
    obtain⟨q1,ys,q2,q3⟩:=q
    exact⟨q1,ys,sH _ _ q2,q3.mono (bf.refl _) ⟨[p],rfl⟩⟩
   | ins c ns ds=>
    obtain⟨q1,dx,ys,q2,q3,q4⟩:=q
    exact⟨q1,dx,ys,sH _ _ q2,q3,q4.mono (bf.refl _) ⟨[p],rfl⟩⟩
  ·have hk1:k<(θ++[p]).length:=(List.getElem?_eq_some_iff.mp e1).1
   have hk2:k=θ.length:=by simp at hk1;omega
   subst hk2
   rw[List.getElem?_append_right (Nat.le_refl _)] at e1
   rw[List.getElem?_append_right (by rw[b.now.ln];exact Nat.le_refl _),b.now.ln] at e2
   simp at e1 e2
   subst e1;subst e2
   exact⟨fp,xs,bY,hr.mono (bf.refl _) ⟨[p],rfl⟩⟩
 ·obtain⟨v,h1,h2⟩:=b.sl i d e
  exact⟨v,h1,h2.mono (bf.refl _) ⟨[p],rfl⟩⟩
 ·unfold Rep
  exact⟨p,rfl,by rw[<- b.now.ln];simp⟩
theorem BS.set{K:PySem.W.Frag}{ca:Nat->Addr}{σ:St}{H F:Hp}{θ:List Addr}{s:S}(b:BS K ca σ H F θ s){d:D}{v:V}(h:Rep K ca θ F d v)(i:Nat):BS K ca (σ.set i (some v)) H F θ ⟨s.r.set i (some d),s.o⟩:=by
 refine⟨b.now,by simp[b.len],λj e hj=> ?_⟩
 by_cases hji:i=j
 ·subst hji
  have hlt:i<s.r.length:=by
   have:=(List.getElem?_eq_some_iff.mp hj).1
   simpa using this
  rw[List.getElem?_set_self hlt] at hj
  cases hj
  exact⟨v,List.getElem?_set_self (by rw[b.len];exact hlt),h⟩
 ·rw[List.getElem?_set_ne hji] at hj
  obtain⟨u,h1,h2⟩:=b.sl j e hj
  exact⟨u,by rw[List.getElem?_set_ne hji];exact h1,h2⟩
abbrev EM:=S->Res (D×S)
abbrev AM:=S->Res (List D×S)
inductive Out where
 | next (s:S) | ret (d:D) (s:S) | brk (s:S) | cnt (s:S) | exc (c:Nat) (a:D) (o:S) | bad
abbrev SM:=S->Out
def PoR{α:Type}(C:Ct)(H F:Hp)(θ:List Addr)(x:Res α)(k:α->Hp->Hp->List Addr->Prop):Prop:=match x with
 | .ok a=>∀H1 F1 θ1,Stp H F θ H1 F1 θ1->k a H1 F1 θ1
 | .exc c a o=>∀H1 F1 θ1,Stp H F θ H1 F1 θ1->Now C.K C.ca H1 F1 θ1 o.o->C.W c a o H1 F1 θ1
 | .bad=>False
abbrev PoE(C:Ct)(σ:St)(H F:Hp)(θ:List Addr)(x:Res (D×S))(Q:VK):Prop:=
 PoR C H F θ x λy H1 F1 θ1=>BS C.K C.ca σ H1 F1 θ1 y.2->∀v,Rep C.K C.ca θ1 F1 y.1 v->Q v H1
abbrev PoA(C:Ct)(σ:St)(H F:Hp)(θ:List Addr)(x:Res (List D×S))(Q:List V->Hp->Prop):Prop:=
 PoR C H F θ x λy H1 F1 θ1=>BS C.K C.ca σ H1 F1 θ1 y.2->∀v,aw C.K C.ca θ1 F1 y.1 v->Q v H1
abbrev PoT(C:Ct)(σ:St)(H F:Hp)(θ:List Addr)(x:Res (Bool×S))(Q:Bool->Hp->Prop):Prop:=
 PoR C H F θ x λy H1 F1 θ1=>BS C.K C.ca σ H1 F1 θ1 y.2->Q y.1 H1
abbrev PoG(C:Ct)(H F:Hp)(θ:List Addr)(x:Res S)(Q:St->Hp->Prop):Prop:=
 PoR C H F θ x λy H1 F1 θ1=>∀σ1,BS C.K C.ca σ1 H1 F1 θ1 y->Q σ1 H1
def PoS(C:Ct)(H F:Hp)(θ:List Addr)(x:Out)(Q:Ends):Prop:=match x with
 | .next s1=>∀σ1 H1 F1 θ1,Stp H F θ H1 F1 θ1->BS C.K C.ca σ1 H1 F1 θ1 s1->Q.nx σ1 H1
 | .ret d s1=>∀v σ1 H1 F1 θ1,Stp H F θ H1 F1 θ1->BS C.K C.ca σ1 H1 F1 θ1 s1->Rep C.K C.ca θ1 F1 d v->Q.rt v H1
 | .brk s1=>∀σ1 H1 F1 θ1,Stp H F θ H1 F1 θ1->BS C.K C.ca σ1 H1 F1 θ1 s1->Q.bk σ1 H1
 | .cnt s1=>∀σ1 H1 F1 θ1,Stp H F θ H1 F1 θ1->BS C.K C.ca σ1 H1 F1 θ1 s1->Q.ct σ1 H1
 | .exc c a o=>∀H1 F1 θ1,Stp H F θ H1 F1 θ1->Now C.K C.ca H1 F1 θ1 o.o->C.W c a o H1 F1 θ1
 | .bad=>False
theorem PoR.after{α:Type}{C:Ct}{H F H1 F1:Hp}{θ θ1:List Addr}{x:Res α}{k:α->Hp->Hp->List Addr->Prop}(st:Stp H F θ H1 F1 θ1)(p:PoR C H F θ x k):PoR C H1 F1 θ1 x k:=by
 unfold PoR at p ⊢
 cases x with
 | ok a=>exact λH2 F2 θ2 s2=>p H2 F2 θ2 (st.trans s2)
 | exc c a o=>exact λH2 F2 θ2 s2 n=>p H2 F2 θ2 (st.trans s2) n
 | bad=>exact p
theorem PoR.bind {α β:Type} {C:Ct} {H F:Hp} {θ:List Addr} {x:Res α} {f:α->Res β} {k:α->Hp->Hp->List Addr->Prop} {j:β->Hp->Hp->List Addr->Prop}
 (p:PoR C H F θ (x.bind f) j) (h:∀a H1 F1 θ1,x=.ok a->Stp H F θ H1 F1 θ1->PoR C H1 F1 θ1 (f a) j->k a H1 F1 θ1):PoR C H F θ x k:=by
 cases x with
 | ok a=>exact λH1 F1 θ1 st=>h a H1 F1 θ1 rfl st (PoR.after st p)
 | exc c a o=>exact p
 | bad=>exact p
theorem PoR.imp{α:Type}{C:Ct}{H F:Hp}{θ:List Addr}{x:Res α}{k j:α->Hp->Hp->List Addr->Prop}(p:PoR C H F θ x j)(h:∀a H1 F1 θ1,x=.ok a->Stp H F θ H1 F1 θ1->j a H1 F1 θ1->k a H1 F1 θ1):PoR C H F θ x k:=by
 cases x with
 | ok a=>exact λH1 F1 θ1 st=>h a H1 F1 θ1 rfl st (p H1 F1 θ1 st)
 | exc c a o=>exact p
 | bad=>exact p
theorem PoS.after{C:Ct}{H F H1 F1:Hp}{θ θ1:List Addr}{x:Out}{Q:Ends}(st:Stp H F θ H1 F1 θ1)(p:PoS C H F θ x Q):PoS C H1 F1 θ1 x Q:=by
 unfold PoS at p ⊢
 cases x with
 | next s=>exact λv H2 F2 θ2 s2 b=>p v H2 F2 θ2 (st.trans s2) b
 | ret d s=>exact λv σ2 H2 F2 θ2 s2 b r=>p v σ2 H2 F2 θ2 (st.trans s2) b r
 | brk s=>exact λv H2 F2 θ2 s2 b=>p v H2 F2 θ2 (st.trans s2) b
 | cnt s=>exact λv H2 F2 θ2 s2 b=>p v H2 F2 θ2 (st.trans s2) b
 | exc c a o=>exact λH2 F2 θ2 s2 n=>p H2 F2 θ2 (st.trans s2) n
 | bad=>exact p
def Res.out{α:Type}(x:Res α)(f:α->Out):Out:=match x with
 | .ok a=>f a
 | .exc c a o=>.exc c a o
 | .bad=>.bad
@[simp] theorem lL {α:Type} (a:α) (f:α->Out):(Res.ok a).out f=f a:=rfl
@[simp] theorem Iy {α:Type} (c:Nat) (a:D) (o:S) (f:α->Out):(Res.exc c a o:Res α).out f=.exc c a o:=rfl
@[simp] theorem II {α:Type} (f:α->Out):(Res.bad:Res α).out f=.bad:=rfl
theorem PoS.out {α:Type} {C:Ct} {H F:Hp} {θ:List Addr} {x:Res α} {f:α->Out} {k:α->Hp->Hp->List Addr->Prop} {Q:Ends}
 (p:PoS C H F θ (x.out f) Q) (h:∀a H1 F1 θ1,x=.ok a->Stp H F θ H1 F1 θ1->PoS C H1 F1 θ1 (f a) Q->k a H1 F1 θ1):PoR C H F θ x k:=by
 cases x with
 | ok a=>exact λH1 F1 θ1 st=>h a H1 F1 θ1 rfl st (PoS.after st p)
 | exc c a o=>exact p
 | bad=>exact p
def RdE(C:Ct)(t:TE)(m:EM):Prop:=∀σ H F θ s Q,BS C.K C.ca σ H F θ s->PoE C σ H F θ (m s) Q->t σ H Q
def RdA(C:Ct)(t:TA)(m:AM):Prop:=∀σ H F θ s Q,BS C.K C.ca σ H F θ s->PoA C σ H F θ (m s) Q->t σ H Q
abbrev TM:=S->Res (Bool×S)
def RdT(C:Ct)(t:TT)(m:TM):Prop:=∀σ H F θ s Q,BS C.K C.ca σ H F θ s->PoT C σ H F θ (m s) Q->t σ H Q
abbrev GM:=D->S->Res S
def RdG(C:Ct)(t:TG)(m:GM):Prop:=∀σ H F θ s d v Q,BS C.K C.ca σ H F θ s->Rep C.K C.ca θ F d v->PoG C H F θ (m d s) Q->t v σ H Q
def RdS(C:Ct)(t:TS)(m:SM):Prop:=∀σ H F θ s Q,BS C.K C.ca σ H F θ s->PoS C H F θ (m s) Q->t Q σ H
end M
set_option maxRecDepth 100000
set_option maxHeartbeats 4000000
namespace M
open PySem L2
section
variable {C : Ct}
@[simp] theorem gU {K ca θ F v}:Rep K ca θ F .non v↔v=.non:=by unfold Rep;exact Iff.rfl
@[simp] theorem cu {K ca θ F v b}:Rep K ca θ F (.bl b) v↔v=.bl b:=by unfold Rep;exact Iff.rfl
@[simp] theorem aU {K ca θ F v i}:Rep K ca θ F (.int i) v↔v=.int i:=by unfold Rep;exact Iff.rfl
@[simp] theorem eQ {K ca θ F v x}:Rep K ca θ F (.str x) v↔v=.str x:=by unfold Rep;exact Iff.rfl
def aa(i:Nat):EM:=λs=>match s.r[i]? with
 | some (some d)=>.ok (d,s)
 | _=>.bad
theorem ae(i:Nat):RdE C (CV i) (aa i):=by
 intro σ H F θ s Q b p
 unfold aa at p
 split at p
 ·rename_i d e
  obtain⟨v,h1,h2⟩:=b.sl i d e
  exact⟨v,h1,p H F θ .refl b v h2⟩
 ·exact p.elim
def ao(d:D):EM:=λs=>.ok (d,s)
theorem aF(i:Int):RdE C (tC (.int i)) (ao (.int i)):=λσ H F θ s Q b p=>p H F θ .refl b (.int i) (aU.mpr rfl)
theorem sU(i:Bool):RdE C (tC (.bl i)) (ao (.bl i)):=λσ H F θ s Q b p=>p H F θ .refl b (.bl i) (cu.mpr rfl)
theorem wO(i:Str):RdE C (tC (.str i)) (ao (.str i)):=λσ H F θ s Q b p=>p H F θ .refl b (.str i) (eQ.mpr rfl)
theorem FZ:RdE C (tC .non) (ao .non):=λσ H F θ s Q b p=>p H F θ .refl b .non (gU.mpr rfl)
abbrev Op2:=au->D->D->Res D
abbrev Op1:=au->D->Res D
def iD(C:Ct)(r:R2)(f:Op2):Prop:=∀σ H F θ s x y v w Q,BS C.K C.ca σ H F θ s->Rep C.K C.ca θ F x v->Rep C.K C.ca θ F y w->
 PoE C σ H F θ ((f s.o x y).bind λd=>.ok (d,s)) Q->r v w H Q
def aj(f:Op2)(ma mb:EM):EM:=λs=>(ma s).bind λx=>(mb x.2).bind λy=>(f y.2.o x.1 y.1).bind λd=>.ok (d,y.2)
theorem av{r:R2}{f:Op2}{ta tb:TE}{ma mb:EM}(ho:iD C r f)(ha:RdE C ta ma)(hb:RdE C tb mb):RdE C (tOp r ta tb) (aj f ma mb):=by
 intro σ H F θ s Q b p
 refine ha σ H F θ s _ b (PoR.bind p ?_)
 rintro ⟨x,s1⟩ H1 F1 θ1 _ st1 p1 b1 v r1
 refine hb σ H1 F1 θ1 s1 _ b1 (PoR.bind p1 ?_)
 rintro ⟨y,s2⟩ H2 F2 θ2 _ st2 p2 b2 w r2
 exact ho σ H2 F2 θ2 s2 x y v w Q b2 (r1.mono st2.ff st2.pre) r2 p2
def FH(C:Ct)(r:V->Hp->VK->Prop)(f:Op1):Prop:=∀σ H F θ s x v Q,BS C.K C.ca σ H F θ s->Rep C.K C.ca θ F x v->
 PoE C σ H F θ ((f s.o x).bind λd=>.ok (d,s)) Q->r v H Q
def unM(f:Op1)(ma:EM):EM:=λs=>(ma s).bind λx=>(f x.2.o x.1).bind λd=>.ok (d,x.2)
theorem vg{r:V->Hp->VK->Prop}{f:Op1}{ta:TE}{ma:EM}(ho:FH C r f)(ha:RdE C ta ma):RdE C (tUn r ta) (unM f ma):=by
 intro σ H F θ s Q b p
 refine ha σ H F θ s _ b (PoR.bind p ?_)
 rintro ⟨x,s1⟩ H1 F1 θ1 _ st1 p1 b1 v r1
 exact ho σ H1 F1 θ1 s1 x v Q b1 r1 p1
def aq:AM:=λs=>.ok ([],s)
def af(m:EM)(r:AM):AM:=λs=>(m s).bind λx=>(r x.2).bind λy=>.ok (x.1::y.1,y.2)
theorem aB:RdA C kv aq:=λσ H F θ s Q b p=>p H F θ .refl b [] aw.nil
theorem ai{te:TE}{ta:TA}{m:EM}{r:AM}(he:RdE C te m)(ha:RdA C ta r):RdA C (fv te ta) (af m r):=by
 intro σ H F θ s Q b p
 refine he σ H F θ s _ b (PoR.bind p ?_)
 rintro ⟨x,s1⟩ H1 F1 θ1 _ st1 p1 b1 v r1
 refine ha σ H1 F1 θ1 s1 _ b1 (PoR.bind p1 ?_)
 rintro ⟨y,s2⟩ H2 F2 θ2 _ st2 p2 b2 w r2
 exact p2 H2 F2 θ2 .refl b2 (v::w) (aw.cons (r1.mono st2.ff st2.pre) r2)
abbrev OpN:=au->List D->Res D
def iG(C:Ct)(r:List V->Hp->VK->Prop)(f:OpN):Prop:=∀σ H F θ s xs vs Q,BS C.K C.ca σ H F θ s->aw C.K C.ca θ F xs vs->
 PoE C σ H F θ ((f s.o xs).bind λd=>.ok (d,s)) Q->r vs H Q
def bV(f:OpN)(ma:AM):EM:=λs=>(ma s).bind λx=>(f x.2.o x.1).bind λd=>.ok (d,x.2)
theorem bX{r:List V->Hp->VK->Prop}{f:OpN}{ta:TA}{ma:AM}(hc:iG C r f)(ha:RdA C ta ma):RdE C (tCB r ta) (bV f ma):=by
 intro σ H F θ s Q b p
 refine ha σ H F θ s _ b (PoR.bind p ?_)
 rintro ⟨x,s1⟩ H1 F1 θ1 _ st1 p1 b1 v r1
 exact hc σ H1 F1 θ1 s1 x v Q b1 r1 p1
def qH(ma:AM):EM:=λs=>(ma s).bind λx=>if x.1.length<=16777216 then .ok (.tup x.1,x.2) else .bad
theorem Bj{ta:TA}{ma:AM}(ha:RdA C ta ma):RdE C (BF ta) (qH ma):=by
 intro σ H F θ s Q b p
 refine ha σ H F θ s _ b (PoR.bind p ?_)
 rintro ⟨x,s1⟩ H1 F1 θ1 _ st1 p1 b1 v r1
 dsimp only at p1
 split at p1
 ·rename_i hl
  refine⟨by rw[r1.length];exact hl,λq hq=> ?_⟩
  obtain⟨st,b2,sF,e⟩:=b1.newF hq (.tup v)
  refine p1 _ _ _ st b2 _ ?_
  unfold Rep
  exact⟨q,v,rfl,SqT.of e,r1.mono sF ⟨[],by simp⟩⟩
 ·exact p1.elim
def i0(ma:AM):EM:=λs=>(ma s).bind λx=>if x.1.length<=16777216 then .ok (.lst x.1,x.2) else .bad
theorem oF{ta:TA}{ma:AM}(ha:RdA C ta ma):RdE C (xn ta) (i0 ma):=by
 intro σ H F θ s Q b p
 refine ha σ H F θ s _ b (PoR.bind p ?_)
 rintro ⟨x,s1⟩ H1 F1 θ1 _ st1 p1 b1 v r1
 dsimp only at p1
 split at p1
 ·rename_i hl
  refine⟨by rw[r1.length];exact hl,λq hq=> ?_⟩
  obtain⟨st,b2,sF,e⟩:=b1.newF hq (.lst v)
  refine p1 _ _ _ st b2 _ ?_
  unfold Rep
  exact⟨q,v,rfl,SqL.of e,r1.mono sF ⟨[],by simp⟩⟩
 ·exact p1.elim
def qD(ma:AM):EM:=λs=>(ma s).bind λx=>if x.1.length<=16777216 then .ok (.ptr x.2.o.length,⟨x.2.r,x.2.o++[.lst x.1]⟩) else .bad
theorem pV{ta:TA}{ma:AM}(ha:RdA C ta ma):RdE C (xn ta) (qD ma):=by
 intro σ H F θ s Q b p
 refine ha σ H F θ s _ b (PoR.bind p ?_)
 rintro ⟨x,s1⟩ H1 F1 θ1 _ st1 p1 b1 v r1
 dsimp only at p1
 split at p1
 ·rename_i hl
  refine⟨by rw[r1.length];exact hl,λq hq=> ?_⟩
  obtain⟨st,b2,rp⟩:=b1.newC hq r1
  exact p1 _ _ _ st b2 _ rp
 ·exact p1.elim
def bh(m:EM):TM:=λs=>(m s).bind λx=>match x.1 with
 | .bl b=>.ok (b,x.2)
 | _=>.bad
theorem da{t:TE}{m:EM}(h:RdE C t m):RdT C (DK t) (bh m):=by
 intro σ H F θ s Q b p
 refine h σ H F θ s _ b (PoR.bind p ?_)
 rintro ⟨x,s1⟩ H1 F1 θ1 _ st1 p1 b1 v r1
 cases x <;> first | exact False.elim p1 | skip
 rename_i k _
 exact⟨k,cu.mp r1,p1 _ _ _ .refl b1⟩
theorem iR{t:TE}{m:EM}(h:RdE C t m):RdT C (tB t) (bh m):=da h
def qQ(a b:TM):TM:=λs=>(a s).bind λx=>if x.1 then b x.2 else .ok (false,x.2)
def orT(a b:TM):TM:=λs=>(a s).bind λx=>if x.1 then .ok (true,x.2) else b x.2
def o9(a:TM):TM:=λs=>(a s).bind λx=>.ok (!x.1,x.2)
theorem Ax{t u:TT}{a b:TM}(ha:RdT C t a)(hb:RdT C u b):RdT C (FG t u) (qQ a b):=by
 intro σ H F θ s Q bs p
 refine ha σ H F θ s _ bs (PoR.bind p ?_)
 rintro ⟨x,s1⟩ H1 F1 θ1 _ st1 p1 b1
 cases x with
 | true=>exact qP (hb σ H1 F1 θ1 s1 Q b1 p1)
 | false=>exact rE (p1 _ _ _ .refl b1)
theorem Dj{t u:TT}{a b:TM}(ha:RdT C t a)(hb:RdT C u b):RdT C (tOr t u) (orT a b):=by
 intro σ H F θ s Q bs p
 refine ha σ H F θ s _ bs (PoR.bind p ?_)
 rintro ⟨x,s1⟩ H1 F1 θ1 _ st1 p1 b1
 cases x with
 | true=>exact qP (p1 _ _ _ .refl b1)
 | false=>exact rE (hb σ H1 F1 θ1 s1 Q b1 p1)
theorem oZ{t:TT}{a:TM}(ha:RdT C t a):RdT C (Fh t) (o9 a):=by
 intro σ H F θ s Q bs p
 refine ha σ H F θ s _ bs (PoR.bind p ?_)
 rintro ⟨x,s1⟩ H1 F1 θ1 _ st1 p1 b1
 exact p1 _ _ _ .refl b1
def lj(a b:EM):EM:=λs=>(a s).bind λx=>match x.1 with
 | .bl true=>b x.2
 | .bl false=>.ok (.bl false,x.2)
 | _=>.bad
def orV(a b:EM):EM:=λs=>(a s).bind λx=>match x.1 with
 | .bl true=>.ok (.bl true,x.2)
 | .bl false=>b x.2
 | _=>.bad
def xr(a:EM):EM:=λs=>(a s).bind λx=>match x.1 with
 | .bl k=>.ok (.bl (!k),x.2)
 | _=>.bad
theorem mZ{t u:TE}{a b:EM}(ha:RdE C t a)(hb:RdE C u b):RdE C (DD t u) (lj a b):=by
 intro σ H F θ s Q bs p
 refine ha σ H F θ s _ bs (PoR.bind p ?_)
 rintro ⟨x,s1⟩ H1 F1 θ1 _ st1 p1 b1 v r1
 cases x <;> first | exact False.elim p1 | skip
 rename_i k _
 refine⟨k,cu.mp r1, ?_⟩
 cases k with
 | true=>exact qP (hb σ H1 F1 θ1 s1 Q b1 p1)
 | false=>exact rE (p1 _ _ _ .refl b1 _ (cu.mpr rfl))
theorem yk{t:TE}{a:EM}(ha:RdE C t a):RdE C (DJ t) (xr a):=by
 intro σ H F θ s Q bs p
 refine ha σ H F θ s _ bs (PoR.bind p ?_)
 rintro ⟨x,s1⟩ H1 F1 θ1 _ st1 p1 b1 v r1
 cases x <;> first | exact False.elim p1 | skip
 rename_i k _
 exact⟨k,cu.mp r1,p1 _ _ _ .refl b1 _ (cu.mpr rfl)⟩
def ifM(c:TM)(a b:EM):EM:=λs=>(c s).bind λx=>if x.1 then a x.2 else b x.2
def Out.then(x:Out)(f:S->Out):Out:=match x with
 | .next s=>f s
 | o=>o
@[simp] theorem uh (s:S) (f:S->Out):(Out.next s).then f=f s:=rfl
@[simp] theorem HV (d:D) (s:S) (f:S->Out):(Out.ret d s).then f=.ret d s:=rfl
@[simp] theorem Iw (s:S) (f:S->Out):(Out.brk s).then f=.brk s:=rfl
@[simp] theorem HX (s:S) (f:S->Out):(Out.cnt s).then f=.cnt s:=rfl
@[simp] theorem Ik (c:Nat) (a:D) (o:S) (f:S->Out):(Out.exc c a o).then f=.exc c a o:=rfl
@[simp] theorem HU (f:S->Out):Out.bad.then f=.bad:=rfl
def aK(a b:SM):SM:=λs=>(a s).then b
def cG:SM:=λs=>.next s
theorem cv:RdS C Dt cG:=λσ H F θ s Q b p=>p σ H F θ .refl b
theorem aG{t u:TS}{a b:SM}(ha:RdS C t a)(hb:RdS C u b):RdS C (Gw t u) (aK a b):=by
 intro σ H F θ s Q bs p
 refine ha σ H F θ s _ bs ?_
 unfold aK at p
 cases e:a s with
 | next s1=>
  rw[e] at p
  intro σ1 H1 F1 θ1 st1 b1
  exact hb σ1 H1 F1 θ1 s1 Q b1 (PoS.after st1 p)
 | ret d s1=>rw[e] at p;exact p
 | brk s1=>rw[e] at p;exact p
 | cnt s1=>rw[e] at p;exact p
 | exc c a o=>rw[e] at p;exact p
 | bad=>rw[e] at p;exact p
def iP(m:EM):SM:=λs=>(m s).out λx=>.next x.2
theorem kX{t:TE}{m:EM}(h:RdE C t m):RdS C (Dp t) (iP m):=by
 intro σ H F θ s Q b p
 refine h σ H F θ s _ b (PoS.out p ?_)
 rintro ⟨x,s1⟩ H1 F1 θ1 _ st1 p1 b1 v r1
 exact p1 σ H1 F1 θ1 .refl b1
def bN(m:EM):SM:=λs=>(m s).out λx=>.ret x.1 x.2
theorem br{t:TE}{m:EM}(h:RdE C t m):RdS C (FI t) (bN m):=by
 intro σ H F θ s Q b p
 refine h σ H F θ s _ b (PoS.out p ?_)
 rintro ⟨x,s1⟩ H1 F1 θ1 _ st1 p1 b1 v r1
 exact p1 v σ H1 F1 θ1 .refl b1 r1
def HL:SM:=λs=>.ret .non s
def ifS(c:TM)(a b:SM):SM:=λs=>(c s).out λx=>if x.1 then a x.2 else b x.2
theorem dy{t:TT}{u w:TS}{c:TM}{a b:SM}(hc:RdT C t c)(ha:RdS C u a)(hb:RdS C w b):RdS C (Gn t u w) (ifS c a b):=by
 intro σ H F θ s Q bs p
 refine hc σ H F θ s _ bs (PoS.out p ?_)
 rintro ⟨x,s1⟩ H1 F1 θ1 _ st1 p1 b1
 cases x with
 | true=>exact qP (ha σ H1 F1 θ1 s1 Q b1 p1)
 | false=>exact rE (hb σ H1 F1 θ1 s1 Q b1 p1)
def vU:SM:=λ_=>.bad
theorem xq:RdS C Af vU:=λσ H F θ s Q b p=>p
def aH(i:Nat):GM:=λd s=>.ok ⟨s.r.set i (some d),s.o⟩
theorem aS(i:Nat):RdG C (pZ i) (aH i):=λσ H F θ s d v Q b r p=>p H F θ .refl _ (b.set r i)
def zQ(C:Ct)(t:TGs)(m:List D->S->Res S):Prop:=∀σ H F θ s ds vs Q,BS C.K C.ca σ H F θ s->aw C.K C.ca θ F ds vs->PoG C H F θ (m ds s) Q->t vs σ H Q
def ei:List D->S->Res S:=λds s=>match ds with
 | []=>.ok s
 | _=>.bad
def ba(g:GM)(r:List D->S->Res S):List D->S->Res S:=λds s=>match ds with
 | d::ds=>(g d s).bind λs1=>r ds s1
 | []=>.bad
theorem ik:zQ C FF ei:=by
 intro σ H F θ s ds vs Q b r p
 cases ds with
 | nil=>exact⟨by unfold aw at r;exact r,p H F θ .refl σ b⟩
 | cons d ds=>exact False.elim p
theorem cA{t:TG}{u:TGs}{g:GM}{m:List D->S->Res S}(hg:RdG C t g)(hr:zQ C u m):zQ C (Dv t u) (ba g m):=by
 intro σ H F θ s ds vs Q b r p
 cases ds with
 | nil=>exact False.elim p
 | cons d ds=>
  unfold aw at r
  obtain⟨v,w,rfl,r1,r2⟩:=r
  refine⟨v,w,rfl,hg σ H F θ s d v _ b r1 (PoR.bind p ?_)⟩
  intro s1 H1 F1 θ1 _ st1 p1 σ1 b1
  exact hr σ1 H1 F1 θ1 s1 ds w Q b1 (r2.mono st1.ff st1.pre) p1
def dM(m:List D->S->Res S)(n:Nat):GM:=λd s=>match d with
 | .tup ds=>if ds.length=n then m ds s else .bad
 | _=>.bad
theorem ig{n:Nat}{t:TGs}{m:List D->S->Res S}(h:zQ C t m):RdG C (Gb C.K n t) (dM m n):=by
 intro σ H F θ s d v Q b r p
 cases d <;> first | exact False.elim p | skip
 rename_i ds
 unfold Rep at r
 obtain⟨a,xs,rfl,hs,hr⟩:=r
 unfold dM at p
 dsimp only at p
 split at p
 ·rename_i hl
  exact⟨a,xs,rfl,bf.seqT b.now.fh hs,by rw[hr.length];exact hl,h σ H F θ s ds xs Q b hr p⟩
 ·exact False.elim p
def gw(m:EM)(g:GM):SM:=λs=>((m s).bind λx=>g x.1 x.2).out λs=>.next s
theorem lC{t:TE}{m:EM}{g:TG}{gm:GM}(h:RdE C t m)(hg:RdG C g gm):RdS C (wG t g) (gw m gm):=by
 intro σ H F θ s Q b p
 have p':PoG C H F θ ((m s).bind λx=>gm x.1 x.2) Q.nx:=PoS.out p λs1 H1 F1 θ1 _ st1 p1 σ1 b1=>p1 σ1 H1 F1 θ1 .refl b1
 refine h σ H F θ s _ b (PoR.bind p' ?_)
 rintro ⟨x,s1⟩ H1 F1 θ1 _ st1 p1 b1 v r1
 exact hg σ H1 F1 θ1 s1 x v Q.nx b1 r1 p1
abbrev setM(i:Nat)(m:EM):SM:=gw m (aH i)
theorem aN{t:TE}{m:EM}{i:Nat}(h:RdE C t m):RdS C (wG t (pZ i)) (setM i m):=lC h (aS i)
def Io(i:Nat)(f:Op2)(m:EM):SM:=setM i (aj f (aa i) m)
end
end M
set_option maxRecDepth 100000
set_option maxHeartbeats 4000000
namespace M
open PySem PySem.Spec PyProof.Rows L2
section
variable {C : Ct}
structure rh(C:Ct)(J:It)(ds:List D)(ok:au->Prop)(H F:Hp)(θ:List Addr):Prop where
 go:∀(i:Nat) H2 F2 θ2 O2,i<ds.length->Stp H F θ H2 F2 θ2->Now C.K C.ca H2 F2 θ2 O2->ok O2->J.go i H2
 yl:∀(i:Nat) d σ H2 F2 θ2 s2 x H3,ds[i]? =some d->Stp H F θ H2 F2 θ2->BS C.K C.ca σ H2 F2 θ2 s2->ok s2.o->J.yld i H2 x H3->∃F3,Stp H2 F2 θ2 H3 F3 θ2/\BS C.K C.ca σ H3 F3 θ2 s2/\Rep C.K C.ca θ2 F3 d x
 st:∀(i:Nat) H2 F2 θ2 O2,ds.length<=i->Stp H F θ H2 F2 θ2->Now C.K C.ca H2 F2 θ2 O2->ok O2->J.stop i H2
def okC(ds:List D):Option Nat->au->Prop
 | none,_=>True
 | some k,O=>O[k]? =some (.lst ds)
abbrev IM:=S->Res ((List D×Option Nat)×S)
def RdI(C:Ct)(wi:TI)(im:IM):Prop:=∀σ H F θ s R,BS C.K C.ca σ H F θ s->
 PoR C H F θ (im s) (λy H1 F1 θ1=>BS C.K C.ca σ H1 F1 θ1 y.2->∀J,rh C J y.1.1 (okC y.1.1 y.1.2) H1 F1 θ1->R J H1)->wi σ H R
open Classical in
noncomputable def bH (ok:au->Prop)(g:GM)(body:SM):List D->S->Out
 | [],s=>if ok s.o then .next s else .bad
 | d::ds,s=>if ok s.o then (g d s).out λs1=>match body s1 with
  | .next s2=>bH ok g body ds s2
  | .cnt s2=>bH ok g body ds s2
  | .brk s2=>.next s2
  | o=>o
  else .bad
noncomputable def jz (im:IM)(g:GM)(body:SM):SM:=λs=>(im s).out λy=>bH (okC y.1.1 y.1.2) g body y.1.1 y.2
theorem hZ{wi:TI}{g:TG}{tb:TS}{im:IM}{gm:GM}{bm:SM}(hi:RdI C wi im)(hg:RdG C g gm)(hb:RdS C tb bm):RdS C (Fs wi g tb) (jz im gm bm):=by
 intro σ H F θ s Q b p
 refine hi σ H F θ s _ b (PoS.out p ?_)
 rintro ⟨⟨ds,k⟩,s1⟩ H1 F1 θ1 _ st1 p1 b1 J it
 dsimp only at p1 it b1
 refine⟨λi m σ' H'=>m=ds.length-i/\i<=ds.length/\∃F' θ' s',Stp H1 F1 θ1 H' F' θ'/\BS C.K C.ca σ' H' F' θ' s'/\PoS C H' F' θ' (bH (okC ds k) gm bm (ds.drop i) s') Q,⟨ds.length,by simp,Nat.zero_le _,F1,θ1,s1,.refl,b1,by simpa using p1⟩, ?_⟩
 rintro i m σ' H' ⟨rfl,hil,F',θ',s',st,bs,po⟩
 by_cases lt:i<ds.length
 ·right
  rw[List.drop_eq_getElem_cons lt,bH] at po
  split at po
  ·rename_i hok
   refine⟨it.go i H' F' θ' s'.o lt st bs.now hok,λσ2 H2=>i+1<=ds.length/\∃F2 θ2 s2,Stp H1 F1 θ1 H2 F2 θ2/\BS C.K C.ca σ2 H2 F2 θ2 s2/\PoS C H2 F2 θ2 (bH (okC ds k) gm bm (ds.drop (i+1)) s2) Q,λσ2 H2 n=>⟨ds.length-(i+1),by omega,rfl,n⟩, ?_⟩
   intro x H3 hy
   obtain⟨F3,st3,b3,rp⟩:=it.yl i ds[i] σ' H' F' θ' s' x H3 (List.getElem?_eq_getElem lt) st bs hok hy
   refine hg σ' H3 F3 θ' s' ds[i] x _ b3 rp (PoS.out (PoS.after st3 po) ?_)
   intro s4 H4 F4 θ4 _ st4 p4 σ4 b4
   refine hb σ4 H4 F4 θ4 s4 _ b4 ?_
   have fin:∀s5,PoS C H4 F4 θ4 (bH (okC ds k) gm bm (ds.drop (i+1)) s5) Q->∀σ5 H5 F5 θ5,Stp H4 F4 θ4 H5 F5 θ5->BS C.K C.ca σ5 H5 F5 θ5 s5->i+1<=ds.length/\∃F2 θ2 s2,Stp H1 F1 θ1 H5 F2 θ2/\BS C.K C.ca σ5 H5 F2 θ2 s2/\PoS C H5 F2 θ2 (bH (okC ds k) gm bm (ds.drop (i+1)) s2) Q:=
    λs5 p5 σ5 H5 F5 θ5 st5 b5=>⟨lt,F5,θ5,s5,st.trans (st3.trans (st4.trans st5)),b5,PoS.after st5 p5⟩
   cases e:bm s4 with
   | next s5=>rw[e] at p4;exact fin s5 p4
   | cnt s5=>rw[e] at p4;exact fin s5 p4
   | brk s5=>rw[e] at p4;exact p4
   | ret d s5=>rw[e] at p4;exact p4
   | exc c a o=>rw[e] at p4;exact p4
   | bad=>rw[e] at p4;exact p4
  ·exact False.elim po
 ·left
  rw[List.drop_eq_nil_of_le (by omega),bH] at po
  split at po
  ·rename_i hok
   exact⟨it.st i H' F' θ' s'.o (by omega) st bs.now hok,po σ' H' F' θ' .refl bs⟩
  ·exact False.elim po
def jc(c:TM)(b:SM):Nat->S->Out
 | 0,_=>.bad
 | n+1,s=>(c s).out λx=>if x.1 then (match b x.2 with
  | .next s2=>jc c b n s2
  | .cnt s2=>jc c b n s2
  | .brk s2=>.next s2
  | o=>o) else .next x.2
def tm(φ:S->Nat)(c:TM)(b:SM):SM:=λs=>jc c b (φ s) s
theorem CG{tc:TT}{tb:TS}{φ:S->Nat}{c:TM}{b:SM}(hc:RdT C tc c)(hb:RdS C tb b):RdS C (An tc tb) (tm φ c b):=by
 intro σ H F θ s Q bs p
 refine⟨λm σ' H'=>∃F' θ' s',BS C.K C.ca σ' H' F' θ' s'/\PoS C H' F' θ' (jc c b m s') Q,⟨φ s,F,θ,s,bs,p⟩, ?_⟩
 rintro m σ' H' ⟨F',θ',s',b',po⟩
 cases m with
 | zero=>exact False.elim po
 | succ m=>
  rw[jc] at po
  refine hc σ' H' F' θ' s' _ b' (PoS.out po ?_)
  rintro ⟨x,s1⟩ H1 F1 θ1 _ st1 p1 b1
  cases x with
  | false=>exact rE (p1 σ' H1 F1 θ1 .refl b1)
  | true=>
   refine qP ⟨λσ2 H2=>∃F2 θ2 s2,BS C.K C.ca σ2 H2 F2 θ2 s2/\PoS C H2 F2 θ2 (jc c b m s2) Q,λσ2 H2 n=>⟨m,Nat.lt_succ_self _,n⟩, ?_⟩
   refine hb σ' H1 F1 θ1 s1 _ b1 ?_
   dsimp only[if_true] at p1
   cases e:b s1 with
   | next s5=>rw[e] at p1;exact λσ5 H5 F5 θ5 st5 b5=>⟨F5,θ5,s5,b5,PoS.after st5 p1⟩
   | cnt s5=>rw[e] at p1;exact λσ5 H5 F5 θ5 st5 b5=>⟨F5,θ5,s5,b5,PoS.after st5 p1⟩
   | brk s5=>rw[e] at p1;exact p1
   | ret d s5=>rw[e] at p1;exact p1
   | exc c a o=>rw[e] at p1;exact p1
   | bad=>rw[e] at p1;exact p1
def itemsOf(O:au):D->Res (List D×Option Nat)
 | .lst ds=>.ok (ds,none)
 | .ptr k=>match O[k]? with
  | some (.lst ds)=>.ok (ds,some k)
  | _=>.bad
 | _=>.bad
def listI(m:EM):IM:=λs=>(m s).bind λx=>(itemsOf x.2.o x.1).bind λy=>.ok (y,x.2)
theorem FE{a:Addr}{xs:List V}{ds:List D}{H F:Hp}{θ:List Addr}(hs:SqL C.K F a xs)(hr:aw C.K C.ca θ F ds xs)(inj:∀{σ H2 F2 θ2 s2},Stp H F θ H2 F2 θ2->BS C.K C.ca σ H2 F2 θ2 s2->SqL C.K H2 a xs):
 rh C (Itl C.K a) ds (okC ds none) H F θ where
 go:=λi H2 F2 θ2 O2 hi st n _=>by
  obtain⟨x,hx⟩:∃x,xs[i]? =some x:=⟨xs[i]'(by rw[hr.length];exact hi),List.getElem?_eq_getElem _⟩
  exact⟨xs,x,n.fh.seq (st.ff.seq hs),hx⟩
 yl:=λi d σ H2 F2 θ2 s2 x H3 hd st b _ hy=>by
  obtain⟨rfl,hx⟩:=hy
  refine⟨F2,.refl,b, ?_⟩
  obtain⟨v,h1,h2⟩:=hr.get hd
  have:=hx xs (b.now.fh.seq (st.ff.seq hs))
  rw[h1] at this
  cases this
  exact h2.mono st.ff st.pre
 st:=λi H2 F2 θ2 O2 hi st n _=>⟨xs,n.fh.seq (st.ff.seq hs),by rw[hr.length];exact hi⟩
theorem cZ{tl:TE}{m:EM}(h:RdE C tl m):RdI C (DH C.K tl) (listI m):=by
 intro σ H F θ s R b p
 refine h σ H F θ s _ b (PoR.bind p ?_)
 rintro ⟨x,s1⟩ H1 F1 θ1 _ st1 p1 b1 v r1
 dsimp only at p1 b1 r1
 cases x <;> first | exact False.elim p1 | skip
 ·rename_i ds _
  unfold Rep at r1
  obtain⟨a,xs,rfl,hs,hr⟩:=r1
  exact⟨a,rfl,⟨xs,b1.now.fh.seq hs⟩,p1 _ _ _ .refl b1 _ (FE hs hr λst b=>b.now.fh.seq (st.ff.seq hs))⟩
 ·rename_i k _
  unfold Rep at r1
  obtain⟨a,rfl,hk⟩:=r1
  unfold itemsOf at p1
  dsimp only at p1
  split at p1
  ·rename_i ds ek
   obtain⟨q1,xs,q2,q3⟩:jC C.K C.ca H1 F1 θ1 a (.lst ds):=b1.now.ce k a _ hk ek
   refine⟨a,rfl,⟨xs,SqL.of q2⟩,p1 _ _ _ .refl b1 _ ?_⟩
   have cell:∀{H2 F2:Hp} {θ2:List Addr} {O2:au},Stp H1 F1 θ1 H2 F2 θ2->Now C.K C.ca H2 F2 θ2 O2->O2[k]? =some (.lst ds)->∃ys,SqL C.K H2 a ys/\aw C.K C.ca θ2 F2 ds ys:=λ{H2 F2 θ2 O2} st n e=>by
    have hk2:θ2[k]? =some a:=by
     obtain⟨r,rfl,_⟩:=st.th
     rw[List.getElem?_append_left (List.getElem?_eq_some_iff.mp hk).1]
     exact hk
    obtain⟨_,ys,w2,w3⟩:jC C.K C.ca H2 F2 θ2 a (.lst ds):=n.ce k a _ hk2 e
    exact⟨ys,SqL.of w2,w3⟩
   refine⟨λi H2 F2 θ2 O2 hi st n e=> ?_,λi d σ H2 F2 θ2 s2 x H3 hd st b e hy=> ?_,λi H2 F2 θ2 O2 hi st n e=> ?_⟩
   ·obtain⟨ys,w1,w2⟩:=cell st n e
    exact⟨ys,ys[i]'(by rw[w2.length];exact hi),w1,List.getElem?_eq_getElem _⟩
   ·obtain⟨rfl,hx⟩:=hy
    obtain⟨ys,w1,w2⟩:=cell st b.now e
    obtain⟨v,h1,h2⟩:=w2.get hd
    have:=hx ys w1
    rw[h1] at this
    cases this
    exact⟨F2,.refl,b,h2⟩
   ·obtain⟨ys,w1,w2⟩:=cell st n e
    exact⟨ys,w1,by rw[w2.length];exact hi⟩
  ·exact False.elim p1
def dn(lo hi:Int):List D:=(List.range (hi-lo).toNat).map λi=>.int (lo+(i:Nat))
theorem fm(lo hi:Int):(dn lo hi).length=(hi-lo).toNat:=by unfold dn;simp
theorem wK{lo hi:Int}{H F:Hp}{θ:List Addr}:rh C (Itr lo (hi-lo).toNat) (dn lo hi) (okC (dn lo hi) none) H F θ where
 go:=λi H2 F2 θ2 O2 h st n _=>by rw[fm] at h;exact h
 yl:=λi d σ H2 F2 θ2 s2 x H3 hd st b _ hy=>by
  obtain⟨rfl,rfl⟩:=hy
  refine⟨F2,.refl,b, ?_⟩
  unfold dn at hd
  rw[List.getElem?_map] at hd
  cases e:(List.range (hi-lo).toNat)[i]? with
  | none=>rw[e] at hd;cases hd
  | some j=>
   rw[e] at hd
   cases hd
   obtain⟨_,rfl⟩:∃h,j=i:=⟨trivial,by have:=(List.getElem?_eq_some_iff.mp e).2;simpa using this.symm⟩
   exact aU.mpr rfl
 st:=λi H2 F2 θ2 O2 h st n _=>by rw[fm] at h;exact h
def lH(ma:AM):IM:=λs=>(ma s).bind λx=>match x.1 with
 | [.int j]=>if -(2^62)<=j/\j<2^62 then .ok ((dn 0 j,none),x.2) else .bad
 | _=>.bad
def tI(ma:AM):IM:=λs=>(ma s).bind λx=>match x.1 with
 | [.int i,.int j]=>if (-(2^62)<=i/\i<2^62)/\ -(2^62)<=j/\j<2^62 then .ok ((dn i j,none),x.2) else .bad
 | _=>.bad
theorem kF{K ca θ F i vs}(h:aw K ca θ F [.int i] vs):vs=[.int i]:=by
 unfold aw at h
 obtain⟨v,r,rfl,h1,h2⟩:=h
 unfold aw at h2
 rw[h2,aU.mp h1]
theorem zP{K ca θ F i j vs}(h:aw K ca θ F [.int i,.int j] vs):vs=[.int i,.int j]:=by
 unfold aw at h
 obtain⟨v,r,rfl,h1,h2⟩:=h
 rw[kF h2,aU.mp h1]
theorem qc{ta:TA}{m:AM}(h:RdA C ta m):RdI C (DE ta) (lH m):=by
 intro σ H F θ s R b p
 refine h σ H F θ s _ b (PoR.bind p ?_)
 rintro ⟨x,s1⟩ H1 F1 θ1 _ st1 p1 b1 v r1
 dsimp only at p1 b1 r1
 split at p1
 ·rename_i j _
  split at p1
  ·rename_i hj
   refine⟨j,kF r1,hj.1,hj.2, ?_⟩
   have:=p1 _ _ _ .refl b1 _ (wK (lo:=0) (hi:=j))
   rw[Int.sub_zero] at this
   exact this
  ·exact False.elim p1
 ·exact False.elim p1
theorem E4{ta:TA}{m:AM}(h:RdA C ta m):RdI C (Dn ta) (tI m):=by
 intro σ H F θ s R b p
 refine h σ H F θ s _ b (PoR.bind p ?_)
 rintro ⟨x,s1⟩ H1 F1 θ1 _ st1 p1 b1 v r1
 dsimp only at p1 b1 r1
 split at p1
 ·rename_i i j _
  split at p1
  ·rename_i hj
   exact⟨i,j,zP r1,⟨hj.1.1,hj.1.2,hj.2.1,hj.2.2⟩,p1 _ _ _ .refl b1 _ wK⟩
  ·exact False.elim p1
 ·exact False.elim p1
abbrev FM:=List D->au->Res (D×au)
def spM(K:PySem.W.Frag)(ca:Nat->Addr)(n:Nat)(f:FM):Sp:=λvs H Q E=>∃F θ ds O,Now K ca H F θ O/\aw K ca θ F ds vs/\ds.length=n/\match f ds O with
 | .ok (d,O1)=>∀v H1 F1 θ1,Stp H F θ H1 F1 θ1->Now K ca H1 F1 θ1 O1->Rep K ca θ1 F1 d v->Q v H1
 | .exc c _ s1=>∀H1 F1 θ1,Stp H F θ H1 F1 θ1->Now K ca H1 F1 θ1 s1.o->E (.ref (ca c)) none H1
 | .bad=>False
def runM(n:Nat)(m:SM):FM:=λds O=>match m ⟨ds.map some++List.replicate (n-ds.length) none,O⟩ with
 | .next s=>.ok (.non,s.o)
 | .ret d s=>.ok (d,s.o)
 | _=>.bad
def mj(n:Nat)(m:SM):FM:=λds O=>match m ⟨ds.map some++List.replicate (n-ds.length) none,O⟩ with
 | .next s=>.ok (.non,s.o)
 | .ret d s=>.ok (d,s.o)
 | .exc c a o=>.exc c a o
 | _=>.bad
theorem wq{K:PySem.W.Frag}{ca:Nat->Addr}{N:List Str}{H F:Hp}{θ:List Addr}{O:au}{ds:List D}{vs:List V}(n:Now K ca H F θ O)(r:aw K ca θ F ds vs):
 BS K ca (L2.start N vs) H F θ ⟨ds.map some++List.replicate (N.length-ds.length) none,O⟩:=by
 refine⟨n,by unfold L2.start;simp[r.length],λi d e=> ?_⟩
 dsimp only at e
 have hi:i<ds.length:=by
  by_cases hi:i<ds.length
  ·exact hi
  ·rw[List.getElem?_append_right (by simpa using hi),List.getElem?_replicate] at e
   split at e <;> cases e
 rw[List.getElem?_append_left (by simpa using hi),List.getElem?_map] at e
 cases e1:ds[i]? with
 | none=>rw[e1] at e;cases e
 | some d'=>
  rw[e1] at e
  cases e
  obtain⟨v,h1,h2⟩:=r.get e1
  refine⟨v, ?_,h2⟩
  unfold L2.start
  rw[List.getElem?_append_left (by simpa[r.length] using hi),List.getElem?_map,h1]
  rfl
def W0:Wsh:=λ_ _ _ _ _ _=>False
theorem cm {P:Program} {w:World} {K:PySem.W.Frag} {mg:Str->Option Value} {base:Heap} {ca:Nat->Addr} {x qual:Str} {st:Stmt} {f:Addr} {fd:FuncData} {N ps:List Str} {k n:Nat} {m:SM}
 (F:Fun K x qual st f fd) (S:bg N ps (aD st)) (hn:N.length=n)
 (hm:∀(cdv:Value) (A:Around) (outer:List Env) (s:Shared) (H:Hp) (E:XK),dP k (A.deeper (envOfC qual (aD st) s.heap.objs.size f cdv))->
  ∃t,PSs (kx (CXE P w) P w K mg base N qual (aD st) f cdv A outer s H E).nox (aW st) t/\RdS ⟨K,ca,W0⟩ t m):
 fV P w K mg base (CXE P w) (k+1) f fd ps (spM K ca ps.length (runM n m)):=by
 refine F.okE S (λvs H Q E h=> ?_) (λcdv A outer s H vs Q E hr h=> ?_)
 ·obtain⟨F,θ,ds,O,_,r,hl,_⟩:=h
  rw[r.length,hl]
 ·obtain⟨F,θ,ds,O,now,r,hl,q⟩:=h
  obtain⟨t,ht,rd⟩:=hm cdv A outer s H E hr
  refine⟨t,ht.nox,rd _ H F θ _ _ (wq now r) ?_⟩
  subst hn
  unfold runM at q
  cases e:m ⟨ds.map some++List.replicate (N.length-ds.length) none,O⟩ with
  | next s1=>rw[e] at q;exact λσ1 H1 F1 θ1 st b=>q .non H1 F1 θ1 st b.now (gU.mpr rfl)
  | ret d s1=>rw[e] at q;exact λv σ1 H1 F1 θ1 st b rv=>q v H1 F1 θ1 st b.now rv
  | exc c a o=>rw[e] at q;exact False.elim q
  | brk s1=>rw[e] at q;exact False.elim q
  | cnt s1=>rw[e] at q;exact False.elim q
  | bad=>rw[e] at q;exact False.elim q
def WE(ca:Nat->Addr)(E:XK):Wsh:=λc _ _ H1 _ _=>E (.ref (ca c)) none H1
theorem yU {P:Program} {w:World} {K:PySem.W.Frag} {mg:Str->Option Value} {base:Heap} {ca:Nat->Addr} {x qual:Str} {st:Stmt} {f:Addr} {fd:FuncData} {N ps:List Str} {k n:Nat} {m:SM} (F:Fun K x qual st f fd) (S:bg N ps (aD st)) (hn:N.length=n)
 (hm:∀(cdv:Value) (A:Around) (outer:List Env) (s:Shared) (H:Hp) (E:XK),dP k (A.deeper (envOfC qual (aD st) s.heap.objs.size f cdv))->∃t,PSs (kx (CXE P w) P w K mg base N qual (aD st) f cdv A outer s H E) (aW st) t/\RdS ⟨K,ca,WE ca E⟩ t m):
 fV P w K mg base (CXE P w) (k+1) f fd ps (spM K ca ps.length (mj n m)):=by
 refine F.okE S (λvs H Q E h=> ?_) (λcdv A outer s H vs Q E hr h=> ?_)
 ·obtain⟨F,θ,ds,O,_,r,hl,_⟩:=h
  rw[r.length,hl]
 ·obtain⟨F,θ,ds,O,now,r,hl,q⟩:=h
  obtain⟨t,ht,rd⟩:=hm cdv A outer s H E hr
  refine⟨t,ht,rd _ H F θ _ _ (wq now r) ?_⟩
  subst hn
  unfold mj at q
  cases e:m ⟨ds.map some++List.replicate (N.length-ds.length) none,O⟩ with
  | next s1=>rw[e] at q;exact λσ1 H1 F1 θ1 st b=>q .non H1 F1 θ1 st b.now (gU.mpr rfl)
  | ret d s1=>rw[e] at q;exact λv σ1 H1 F1 θ1 st b rv=>q v H1 F1 θ1 st b.now rv
  | exc c a o=>rw[e] at q;exact λH1 F1 θ1 st n=>q H1 F1 θ1 st n
  | brk s1=>rw[e] at q;exact False.elim q
  | cnt s1=>rw[e] at q;exact False.elim q
  | bad=>rw[e] at q;exact False.elim q
theorem BS.called{K:PySem.W.Frag}{ca:Nat->Addr}{σ:L2.St}{H F H1 F1:Hp}{θ θ1:List Addr}{s:S}{O1:au}(b:BS K ca σ H F θ s)(st:Stp H F [] H1 F1 θ1)(n:Now K ca H1 F1 θ1 O1):
 Stp H F θ H1 F1 θ/\BS K ca σ H1 F1 θ s:=by
 have kp:∀b o,H b=some o->H1 b=some o:=λb o h=>st.kp b o h (by simp)
 have nf:∀b o,F1 b=some o->F b=some o\/H b=none:=λb o h=>by
  rcases st.nf b o h with z | z | z
  ·exact .inl z
  ·exact .inr z
  ·simp at z
 refine⟨⟨st.ff,⟨[],by simp,by simp⟩,λb o h _=>kp b o h,st.al,λb o h=>(nf b o h).elim .inl λz=>.inr (.inl z)⟩,⟨⟨n.fh,b.now.nd,b.now.ln,λk a c e1 e2=> ?_⟩,b.len,λi d e=> ?_⟩⟩
 ·have q:=b.now.ce k a c e1 e2
  obtain⟨u,hu⟩:=q.there
  have fn:F a=none->F1 a=none:=λh=>by
   cases e:F1 a with
   | none=>rfl
   | some o=>
    rcases nf a o e with z | z
    ·rw[h] at z;cases z
    ·rw[hu] at z;cases z
  cases c with
  | dead=>exact⟨u,kp a u hu⟩
  | lst ds=>
   obtain⟨q1,xs,q2,q3⟩:=q
   exact⟨fn q1,xs,kp _ _ q2,q3.mono st.ff ⟨[],by simp⟩⟩
  | ins c ns ds=>
   obtain⟨q1,dx,xs,q2,q3,q4⟩:=q
   exact⟨fn q1,dx,xs,kp _ _ q2,q3,q4.mono st.ff ⟨[],by simp⟩⟩
 ·obtain⟨v,h1,h2⟩:=b.sl i d e
  exact⟨v,h1,h2.mono st.ff ⟨[],by simp⟩⟩
def bI(n:Nat)(f:FM)(ma:AM):EM:=λs=>(ma s).bind λx=>if aX x.1=true/\x.1.length=n then (match f x.1 [] with
 | .ok (d,_)=>if cx d=true then .ok (d,x.2) else .bad
 | _=>.bad) else .bad
theorem cB{n:Nat}{f:FM}{ta:TA}{ma:AM}{E:XK}(ha:RdA C ta ma):RdE C (pL (spM C.K C.ca n f) [] E ta) (bI n f ma):=by
 intro σ H F θ s Q b p
 refine ha σ H F θ s _ b (PoR.bind p ?_)
 rintro ⟨x,s1⟩ H1 F1 θ1 _ st1 p1 b1 v r1
 dsimp only at p1 b1 r1 ⊢
 split at p1
 ·rename_i hp
  rw[List.append_nil]
  refine⟨F1,[],x,[],Now.nil b1.now.fh,r1.pure hp.1,hp.2, ?_⟩
  split at p1
  ·rename_i d O1 e
   rw[e]
   intro v H2 F2 θ2 st2 n2 rv
   split at p1
   ·rename_i pd
    obtain⟨st3,b3⟩:=b1.called st2 n2
    exact p1 H2 F2 θ1 st3 b3 v (rv.pure pd)
   ·exact False.elim p1
  ·exact False.elim p1
 ·exact False.elim p1
end
end M
set_option maxRecDepth 100000
set_option maxHeartbeats 4000000
namespace M
open PySem PySem.Spec PyProof.Rows L2
section
variable {C : Ct}
theorem dr{σ:L2.St}{H F:Hp}{θ:List Addr}{s:S}{d:D}{Q:VK}(p:PoE C σ H F θ ((Res.ok d).bind λd=>.ok (d,s)) Q)(b:BS C.K C.ca σ H F θ s){v:V}(r:Rep C.K C.ca θ F d v):Q v H:=p H F θ .refl b v r
theorem sC{σ:L2.St}{H F:Hp}{θ:List Addr}{s:S}{ds:List D}{Q:VK}(p:PoE C σ H F θ ((Res.ok (D.lst ds)).bind λd=>.ok (d,s)) Q)(b:BS C.K C.ca σ H F θ s){xs:List V}(r:aw C.K C.ca θ F ds xs):
 ∀q,H q=none->Q (.ref q) (upd H q (.lst xs)):=λq hq=>by
 obtain⟨st,b2,sF,e⟩:=b.newF hq (.lst xs)
 refine p _ _ _ st b2 _ ?_
 unfold Rep
 exact⟨q,xs,rfl,SqL.of e,r.mono sF ⟨[],by simp⟩⟩
def lsD(O:au):D->Option (List D)
 | .lst ds=>some ds
 | .ptr k=>match O[k]? with
  | some (.lst ds)=>some ds
  | _=>none
 | _=>none
@[simp] theorem fo {O:au} {ds:List D}:lsD O (.lst ds)=some ds:=rfl
theorem fJ{σ:L2.St}{H F:Hp}{θ:List Addr}{s:S}{d:D}{ds:List D}{v:V}(b:BS C.K C.ca σ H F θ s)(r:Rep C.K C.ca θ F d v)(e:lsD s.o d=some ds):∃a xs,v=.ref a/\SqL C.K H a xs/\aw C.K C.ca θ F ds xs:=by
 cases d <;> first | (simp[lsD] at e;done) | skip
 ·cases e
  unfold Rep at r
  obtain⟨a,xs,rfl,hs,hr⟩:=r
  exact⟨a,xs,rfl,b.now.fh.seq hs,hr⟩
 ·rename_i k
  unfold Rep at r
  obtain⟨a,rfl,hk⟩:=r
  unfold lsD at e
  dsimp only at e
  split at e
  ·rename_i ds' ek
   cases e
   obtain⟨_,xs,h1,h2⟩:jC C.K C.ca H F θ a (.lst ds):=b.now.ce k a _ hk ek
   exact⟨a,xs,rfl,SqL.of h1,h2⟩
  ·cases e
theorem sg{σ:L2.St}{H F:Hp}{θ:List Addr}{s:S}{ds:List D}{v:V}(b:BS C.K C.ca σ H F θ s)(r:Rep C.K C.ca θ F (.tup ds) v):∃a xs,v=.ref a/\SqT C.K H a xs/\aw C.K C.ca θ F ds xs:=by
 unfold Rep at r
 obtain⟨a,xs,rfl,hs,hr⟩:=r
 exact⟨a,xs,rfl,bf.seqT b.now.fh hs,hr⟩
def intD(g:Int->Int->Res D):Op2:=λ_ x y=>match x,y with
 | .int i,.int j=>g i j
 | _,_=>.bad
theorem oH{g:Int->Int->V}{f:Int->Int->D}(h:∀K ca θ F i j,Rep K ca θ F (f i j) (g i j)):iD C (rI0 g) (intD λi j=>.ok (f i j)):=by
 intro σ H F θ s x y v w Q b rx ry p
 unfold intD at p
 split at p
 ·rename_i i j
  exact⟨i,j,aU.mp rx,aU.mp ry,dr p b (h ..)⟩
 ·exact False.elim p
open Classical in
noncomputable def t7 (c:Int->Int->Prop)(f:Int->Int->D):Op2:=intD λi j=>if c i j then .ok (f i j) else .bad
theorem vo{c:Int->Int->Prop}{g:Int->Int->V}{f:Int->Int->D}(h:∀K ca θ F i j,Rep K ca θ F (f i j) (g i j)):iD C (rI c g) (t7 c f):=by
 intro σ H F θ s x y v w Q b rx ry p
 unfold t7 intD at p
 split at p
 ·rename_i i j
  dsimp only at p
  split at p
  ·rename_i hc
   exact⟨i,j,aU.mp rx,aU.mp ry,hc,dr p b (h ..)⟩
  ·exact False.elim p
 ·exact False.elim p
def jU:Op2:=intD λi j=>.ok (.int (i-j))
noncomputable def bJ:Op2:=t7 IntMulOk λi j=>.int (i*j)
noncomputable def fS:Op2:=t7 (λi j=>j≠0) λi j=>.int (i.fdiv j)
noncomputable def gg:Op2:=t7 (λ_ j=>j≠0) λi j=>.int (i.fmod j)
noncomputable def gi:Op2:=t7 BW λi j=>.int (i^j.toNat)
def ltD:Op2:=intD λi j=>.ok (.bl (decide (i<j)))
def leD:Op2:=intD λi j=>.ok (.bl (decide (i<=j)))
def gtD:Op2:=intD λi j=>.ok (.bl (decide (j<i)))
def geD:Op2:=intD λi j=>.ok (.bl (decide (j<=i)))
def lu:Op1:=λ_ x=>match x with
 | .int i=>.ok (.int (-i))
 | _=>.bad
section
variable {X : Cx}
theorem eC:OpR X (binaryOp .Mult) (rI IntMulOk λi j=>.int (i*j)):=opI λ_ _ _ _ _ _ _ hc q=>mul_int q hc
theorem jw(hd:X.A.depth+100<recursionLimit)(ht:X.prog.given.tree=none)(hs:∃env l,X.stack=env::l/\env.scope.isGenerator=false/\env.scope.isCoroutine=false/\env.builtins=builtinsNs/\env.globals=mainGlobals):
 OpR X (binaryOp .FloorDiv) (rI (λi j=>j≠0) λi j=>.int (i.fdiv j)):=by
 intro pins s σ H x y v u Q I rx ry h
 obtain⟨i,j,rfl,rfl,hc,q⟩:=h
 obtain⟨t,rfl⟩:=rx
 obtain⟨t',rfl⟩:=ry
 obtain⟨env,l,e,h1,h2,h3,h4⟩:=hs
 exact floordiv_int hc ⟨.int _,H,I.tok _,⟨_,rfl⟩,q⟩ (.inr (PylongRoom.of I.nolimit hd (SeerAt.of I.noseer ht (I.ok.frames.trans (by rw[e])) h1 h2 h3 h4)))
def zv(K:PySem.W.Frag):R2:=λx y H Q=>rI0 (λi j=>.int (i+j)) x y H Q\/(∃i j,x=.str i/\y=.str j/\i.length+j.length<=sizeLine/\Q (.str (i++j)) H)\/Du K x y H Q
theorem fA:OpR X (binaryOp .Add) (zv X.K):=Gi.or (zr.or EV)
end
def Ij:Op2:=intD λi j=>.ok (.int (i+j))
def bK:Op2:=λO x y=>match x,y with
 | .int i,.int j=>.ok (.int (i+j))
 | .str a,.str b=>if a.length+b.length<=16777216 then .ok (.str (a++b)) else .bad
 | x,y=>match lsD O x,lsD O y with
  | some a,some b=>if a.length+b.length<=16777216 then .ok (.lst (a++b)) else .bad
  | _,_=>.bad
theorem eg:iD C (zv C.K) bK:=by
 intro σ H F θ s x y v w Q b rx ry p
 have lists:∀{a c:List D},lsD s.o x=some a->lsD s.o y=some c->PoE C σ H F θ ((if a.length+c.length<=16777216 then Res.ok (D.lst (a++c)) else .bad).bind λd=>.ok (d,s)) Q->zv C.K v w H Q:=λ{a c} e1 e2 p=>by
  split at p
  ·rename_i hl
   obtain⟨l1,xs,rfl,s1,r1⟩:=fJ b rx e1
   obtain⟨l2,ys,rfl,s2,r2⟩:=fJ b ry e2
   exact .inr (.inr ⟨l1,l2,xs,ys,rfl,rfl,s1,s2,by rw[r1.length,r2.length];exact hl,sC p b (r1.append r2)⟩)
  ·exact False.elim p
 unfold bK at p
 split at p
 ·rename_i i j
  exact .inl ⟨i,j,aU.mp rx,aU.mp ry,dr p b (aU.mpr rfl)⟩
 ·rename_i i j
  split at p
  ·rename_i hl
   exact .inr (.inl ⟨i,j,eQ.mp rx,eQ.mp ry,hl,dr p b (eQ.mpr rfl)⟩)
  ·exact False.elim p
 ·split at p
  ·rename_i a c e1 e2
   exact lists e1 e2 p
  ·exact False.elim p
theorem m8:iD C (rI0 λi j=>.int (i-j)) jU:=oH λ_ _ _ _ _ _=>aU.mpr rfl
theorem dq:iD C (rI IntMulOk λi j=>.int (i*j)) bJ:=vo λ_ _ _ _ _ _=>aU.mpr rfl
theorem iw:iD C (rI (λi j=>j≠0) λi j=>.int (i.fdiv j)) fS:=vo λ_ _ _ _ _ _=>aU.mpr rfl
theorem hV:iD C (rI (λ_ j=>j≠0) λi j=>.int (i.fmod j)) gg:=vo λ_ _ _ _ _ _=>aU.mpr rfl
theorem mP:iD C (rI BW λi j=>.int (i^j.toNat)) gi:=vo λ_ _ _ _ _ _=>aU.mpr rfl
theorem nN:iD C (rI0 λi j=>.bl (decide (i<j))) ltD:=oH λ_ _ _ _ _ _=>cu.mpr rfl
theorem su:iD C (rI0 λi j=>.bl (decide (j<i))) gtD:=oH λ_ _ _ _ _ _=>cu.mpr rfl
theorem Ha:iD C (rI0 λi j=>.bl (decide (j<=i))) geD:=oH λ_ _ _ _ _ _=>cu.mpr rfl
theorem r8:FH C (rU λi=>.int (-i)) lu:=by
 intro σ H F θ s x v Q b rx p
 unfold lu at p
 split at p
 ·rename_i i
  exact⟨i,aU.mp rx,dr p b (aU.mpr rfl)⟩
 ·exact False.elim p
mutual
def toPy:D->Option PyData
 | .non=>some .none
 | .bl b=>some (.bool b)
 | .int i=>some (.int i)
 | .str x=>some (.str x)
 | .lst ds=>(gB ds).map .list
 | .tup ds=>(gB ds).map .tuple
 | .ptr _=>none
 | .obj _ _ _=>none
 | .exn _=>none
def gB:List D->Option (List PyData)
 | []=>some []
 | d::ds=>match toPy d,gB ds with
  | some a,some b=>some (a::b)
  | _,_=>none
end
mutual
def res(O:au):D->D
 | .lst ds=>.lst (bF O ds)
 | .tup ds=>.tup (bF O ds)
 | .ptr k=>match O[k]? with
  | some (.lst ds)=>.lst ds
  | _=>.ptr k
 | .non=>.non
 | .bl b=>.bl b
 | .int i=>.int i
 | .str x=>.str x
 | .obj c ns ds=>.obj c ns ds
 | .exn c=>.exn c
def bF(O:au):List D->List D
 | []=>[]
 | d::ds=>res O d::bF O ds
end
section
variable {K : PySem.W.Frag} {ca : Nat → Addr} {H F G : Hp} {θ : List Addr} {O : au}
mutual
theorem tR(n:Now K ca H F θ O)(hF:bf F G)(hG:bf G H):∀{d:D} {v:V},Rep K ca θ G d v->Rep K ca θ H (res O d) v
 | .non,_,h=>by unfold res;exact h
 | .bl _,_,h=>by unfold res;exact h
 | .int _,_,h=>by unfold res;exact h
 | .str _,_,h=>by unfold res;exact h
 | .lst ds,_,h=>by
  unfold res
  unfold Rep at h ⊢
  obtain⟨a,xs,e,hs,hr⟩:=h
  exact⟨a,xs,e,hG.seq hs,iY n hF hG hr⟩
 | .tup ds,_,h=>by
  unfold res
  unfold Rep at h ⊢
  obtain⟨a,xs,e,hs,hr⟩:=h
  exact⟨a,xs,e,bf.seqT hG hs,iY n hF hG hr⟩
 | .ptr k,v,h=>by
  unfold res
  split
  ·rename_i ds e
   unfold Rep at h ⊢
   obtain⟨a,ev,hk⟩:=h
   obtain⟨_,xs,h1,h2⟩:jC K ca H F θ a (.lst ds):=n.ce k a _ hk e
   exact⟨a,xs,ev,SqL.of h1,h2.mono n.fh ⟨[],by simp⟩⟩
  ·exact h.mono hG ⟨[],by simp⟩
 | .obj c ns ds,_,h=>by unfold res;exact h.mono hG ⟨[],by simp⟩
 | .exn c,_,h=>by unfold res;exact h.mono hG ⟨[],by simp⟩
theorem iY(n:Now K ca H F θ O)(hF:bf F G)(hG:bf G H):∀{ds:List D} {xs:List V},aw K ca θ G ds xs->aw K ca θ H (bF O ds) xs
 | [],_,h=>by unfold bF;exact h
 | d::ds,_,h=>by
  unfold bF
  unfold aw at h ⊢
  obtain⟨v,r,e,h1,h2⟩:=h
  exact⟨v,r,e,tR n hF hG h1,iY n hF hG h2⟩
end
mutual
theorem tY:∀{d:D} {v:V} {p:PyData},Rep K ca θ H d v->toPy d=some p->RdV K H p v
 | .non,_,_,h,e=>by unfold toPy at e;cases e;unfold RdV;exact gU.mp h
 | .bl b,_,_,h,e=>by unfold toPy at e;cases e;unfold RdV;exact cu.mp h
 | .int b,_,_,h,e=>by unfold toPy at e;cases e;unfold RdV;exact aU.mp h
 | .str b,_,_,h,e=>by unfold toPy at e;cases e;unfold RdV;exact eQ.mp h
 | .lst ds,_,_,h,e=>by
  unfold toPy at e
  cases e1:gB ds with
  | none=>rw[e1] at e;cases e
  | some ps=>
   rw[e1] at e
   cases e
   unfold Rep at h
   obtain⟨a,xs,ev,hs,hr⟩:=h
   unfold RdV
   exact⟨a,xs,ev,hs,rG hr e1⟩
 | .tup ds,_,_,h,e=>by
  unfold toPy at e
  cases e1:gB ds with
  | none=>rw[e1] at e;cases e
  | some ps=>
   rw[e1] at e
   cases e
   unfold Rep at h
   obtain⟨a,xs,ev,hs,hr⟩:=h
   unfold RdV
   exact⟨a,xs,ev,hs,rG hr e1⟩
 | .ptr _,_,_,_,e=>by unfold toPy at e;cases e
 | .obj _ _ _,_,_,_,e=>by unfold toPy at e;cases e
 | .exn _,_,_,_,e=>by unfold toPy at e;cases e
theorem rG:∀{ds:List D} {xs:List V} {ps:List PyData},aw K ca θ H ds xs->gB ds=some ps->nM K H ps xs
 | [],_,_,h,e=>by unfold gB at e;cases e;unfold nM;unfold aw at h;exact h
 | d::ds,_,_,h,e=>by
  unfold gB at e
  cases e1:toPy d with
  | none=>rw[e1] at e;cases e
  | some p=>
   cases e2:gB ds with
   | none=>rw[e1,e2] at e;cases e
   | some ps=>
    rw[e1,e2] at e
    cases e
    unfold aw at h
    obtain⟨v,r,ev,h1,h2⟩:=h
    unfold nM
    exact⟨v,r,ev,tY h1 e1,rG h2 e2⟩
end
end
def gJ(O:au)(x y:D):Option Bool:=match toPy (res O (res O x)),toPy (res O (res O y)) with
 | some a,some b=>if SeqAt.shaped a=true/\SeqAt.shaped b=true then some (PyData.eqv a b) else none
 | _,_=>none
def eqB(O:au)(x y:D):Option Bool:=match x,y with
 | .int i,.int j=>some (decide (i=j))
 | .str i,.str j=>some (decide (i=j))
 | .bl i,.bl j=>some (decide (i=j))
 | .non,.non=>some true
 | x,y=>gJ O x y
def eqD:Op2:=λO x y=>match eqB O x y with
 | some b=>.ok (.bl b)
 | none=>.bad
def neD:Op2:=λO x y=>match eqB O x y with
 | some b=>.ok (.bl (!b))
 | none=>.bad
section
variable {X : Cx}
def Fz(K:PySem.W.Frag):R2:=λx y H Q=>rEq x y H Q\/FP K x y H Q
def Gd(K:PySem.W.Frag):R2:=λx y H Q=>rNe x y H Q\/Gy K x y H Q
theorem jQ(hu:X.A.units+64<cLine):OpR X (compareOp .Eq) (Fz X.K):=Hf.or (Fe hu)
theorem zK(hu:X.A.units+64<cLine):OpR X (compareOp .NotEq) (Gd X.K):=Hb.or (GD hu)
end
theorem uv{σ:L2.St}{H F:Hp}{θ:List Addr}{s:S}{x y:D}{v w:V}{k:Bool}(b:BS C.K C.ca σ H F θ s)(rx:Rep C.K C.ca θ F x v)(ry:Rep C.K C.ca θ F y w)(e:gJ s.o x y=some k):
 ∃d e,RdV C.K H d v/\RdV C.K H e w/\SeqAt.shaped d=true/\SeqAt.shaped e=true/\PyData.eqv d e=k:=by
 unfold gJ at e
 split at e
 ·rename_i a c e1 e2
  split at e
  ·rename_i hs
   cases e
   have rr:∀{d:D} {u:V},Rep C.K C.ca θ F d u->Rep C.K C.ca θ H (res s.o (res s.o d)) u:=λh=>tR b.now b.now.fh (bf.refl _) (tR b.now (bf.refl _) b.now.fh h)
   exact⟨a,c,tY (rr rx) e1,tY (rr ry) e2,hs.1,hs.2,rfl⟩
  ·cases e
 ·cases e
theorem iy:iD C (Fz C.K) eqD:=by
 intro σ H F θ s x y v w Q b rx ry p
 unfold eqD at p
 split at p
 ·rename_i k e
  have q:=λH' (h:H'=H)=>h▸dr p b (v:=.bl k) (cu.mpr rfl)
  have q:=q H rfl
  unfold eqB at e
  split at e
  ·rename_i i j
   cases e
   cases aU.mp rx;cases aU.mp ry
   exact .inl ⟨rfl,by rw[pW,Bool.beq_eq_decide_eq];exact q⟩
  ·cases e
   cases eQ.mp rx;cases eQ.mp ry
   exact .inl ⟨rfl,by rw[pY,Bool.beq_eq_decide_eq];exact q⟩
  ·cases e
   cases cu.mp rx;cases cu.mp ry
   exact .inl ⟨rfl,by rw[tE,Bool.beq_eq_decide_eq];exact q⟩
  ·cases e
   cases gU.mp rx;cases gU.mp ry
   exact .inl ⟨rfl,by simpa using q⟩
  ·obtain⟨d,e',h1,h2,h3,h4,h5⟩:=uv b rx ry e
   exact .inr ⟨d,e',h1,h2,h3,h4,by rw[h5];exact q⟩
 ·exact False.elim p
theorem vq:iD C (Gd C.K) neD:=by
 intro σ H F θ s x y v w Q b rx ry p
 unfold neD at p
 split at p
 ·rename_i k e
  have q:=dr p b (v:=.bl (!k)) (cu.mpr rfl)
  unfold eqB at e
  split at e
  ·rename_i i j
   cases e
   cases aU.mp rx;cases aU.mp ry
   exact .inl ⟨rfl,by rw[pW,Bool.beq_eq_decide_eq];exact q⟩
  ·cases e
   cases eQ.mp rx;cases eQ.mp ry
   exact .inl ⟨rfl,by rw[pY,Bool.beq_eq_decide_eq];exact q⟩
  ·cases e
   cases cu.mp rx;cases cu.mp ry
   exact .inl ⟨rfl,by rw[tE,Bool.beq_eq_decide_eq];exact q⟩
  ·cases e
   cases gU.mp rx;cases gU.mp ry
   exact .inl ⟨rfl,by simpa using q⟩
  ·obtain⟨d,e',h1,h2,h3,h4,h5⟩:=uv b rx ry e
   exact .inr ⟨d,e',h1,h2,h3,h4,by rw[h5];exact q⟩
 ·exact False.elim p
def ixD:Op2:=λO x y=>match y with
 | .int i=>match x with
  | .tup ds=>match atI ds i with
   | some d=>.ok d
   | none=>.bad
  | .str z=>if z.length<=16777216 then (match atI z.cps.toList i with
   | some c=>.ok (.str ⟨#[c]⟩)
   | none=>.bad) else .bad
  | x=>match lsD O x with
   | some ds=>match atI ds i with
    | some d=>.ok d
    | none=>.bad
   | none=>.bad
 | _=>.bad
theorem yY{K ca θ F}{ds:List D}{xs:List V}{i:Int}{d:D}(r:aw K ca θ F ds xs)(e:atI ds i=some d):∃v,atI xs i=some v/\Rep K ca θ F d v:=by
 unfold atI at e ⊢
 rw[r.length]
 cases q:ixN ds.length i with
 | none=>rw[q] at e;cases e
 | some j=>
  rw[q] at e
  exact r.get e
theorem cN:iD C (rIx C.K) ixD:=by
 intro σ H F θ s x y v w Q b rx ry p
 unfold ixD at p
 split at p
 ·rename_i i
  split at p
  ·rename_i ds
   obtain⟨a,xs,rfl,hs,hr⟩:=sg b rx
   split at p
   ·rename_i d e
    obtain⟨u,e1,r1⟩:=yY hr e
    exact .inr (.inl ⟨a,xs,i,u,rfl,aU.mp ry,hs,e1,dr p b r1⟩)
   ·exact False.elim p
  ·rename_i z
   split at p
   ·rename_i hz
    split at p
    ·rename_i c e
     exact .inr (.inr ⟨z,i,c,eQ.mp rx,aU.mp ry,hz,e,dr p b (eQ.mpr rfl)⟩)
    ·exact False.elim p
   ·exact False.elim p
  ·split at p
   ·rename_i ds e0
    obtain⟨a,xs,rfl,hs,hr⟩:=fJ b rx e0
    split at p
    ·rename_i d e
     obtain⟨u,e1,r1⟩:=yY hr e
     exact .inl ⟨a,xs,i,u,rfl,aU.mp ry,hs,e1,dr p b r1⟩
    ·exact False.elim p
   ·exact False.elim p
 ·exact False.elim p
abbrev OM:=S->Res (Option Int×S)
def RdO(C:Ct)(t:TO)(m:OM):Prop:=∀σ H F θ s Q,BS C.K C.ca σ H F θ s->PoR C H F θ (m s) (λy H1 F1 θ1=>BS C.K C.ca σ H1 F1 θ1 y.2->Q y.1 H1)->t σ H Q
def dw:OM:=λs=>.ok (none,s)
def part(m:EM):OM:=λs=>(m s).bind λx=>match x.1 with
 | .int i=>.ok (some i,x.2)
 | _=>.bad
theorem h8:RdO C yT dw:=λσ H F θ s Q b p=>p H F θ .refl b
theorem gf{t:TE}{m:EM}(h:RdE C t m):RdO C (Dl t) (part m):=by
 intro σ H F θ s Q b p
 refine h σ H F θ s _ b (PoR.bind p ?_)
 rintro ⟨x,s1⟩ H1 F1 θ1 _ st1 p1 b1 v r1
 cases x <;> first | exact False.elim p1 | skip
 rename_i i _
 exact⟨i,aU.mp r1,p1 _ _ _ .refl b1⟩
def cutD(ds:List D)(lo hi:Option Int):List D:=(ds.drop (HT.sIx ds.length 0 lo)).take (HT.sIx ds.length ds.length hi-HT.sIx ds.length 0 lo)
theorem Ek{K ca θ F}{ds:List D}{xs:List V}{lo hi:Option Int}(r:aw K ca θ F ds xs):aw K ca θ F (cutD ds lo hi) (tT xs lo hi):=by
 unfold cutD tT
 rw[r.length]
 exact(r.drop _).take _
def slM(me:EM)(ml mh:OM):EM:=λs=>(me s).bind λx=>(ml x.2).bind λl=>(mh l.2).bind λh=>match lsD h.2.o x.1 with
 | some ds=>.ok (.lst (cutD ds l.1 h.1),h.2)
 | none=>.bad
theorem kG{te:TE}{tl th:TO}{me:EM}{ml mh:OM}(he:RdE C te me)(hl:RdO C tl ml)(hh:RdO C th mh):RdE C (tSl (FR C.K) te tl th) (slM me ml mh):=by
 intro σ H F θ s Q b p
 refine he σ H F θ s _ b (PoR.bind p ?_)
 rintro ⟨x,s1⟩ H1 F1 θ1 _ st1 p1 b1 v r1
 refine hl σ H1 F1 θ1 s1 _ b1 (PoR.bind p1 ?_)
 rintro ⟨l,s2⟩ H2 F2 θ2 _ st2 p2 b2
 refine hh σ H2 F2 θ2 s2 _ b2 (PoR.bind p2 ?_)
 rintro ⟨h,s3⟩ H3 F3 θ3 _ st3 p3 b3
 dsimp only at p3 ⊢
 split at p3
 ·rename_i ds e
  obtain⟨a,xs,rfl,hs,hr⟩:=fJ b3 ((r1.mono st2.ff st2.pre).mono st3.ff st3.pre) e
  exact⟨a,xs,rfl,hs,sC (ds:=cutD ds l h) p3 b3 (Ek hr)⟩
 ·exact False.elim p3
def ee:OpN:=λO xs=>match xs with
 | [.str z]=>if z.length<=16777216 then .ok (.int z.length) else .bad
 | [.tup ds]=>.ok (.int ds.length)
 | [x]=>match lsD O x with
  | some ds=>.ok (.int ds.length)
  | none=>.bad
 | _=>.bad
theorem j4{K ca θ F}{x:D}{vs:List V}(h:aw K ca θ F [x] vs):∃v,vs=[v]/\Rep K ca θ F x v:=by
 unfold aw at h
 obtain⟨v,r,rfl,h1,h2⟩:=h
 unfold aw at h2
 rw[h2]
 exact⟨v,rfl,h1⟩
theorem DB{K ca θ F}{x y:D}{vs:List V}(h:aw K ca θ F [x,y] vs):∃v w,vs=[v,w]/\Rep K ca θ F x v/\Rep K ca θ F y w:=by
 unfold aw at h
 obtain⟨v,r,rfl,h1,h2⟩:=h
 obtain⟨w,rfl,h3⟩:=j4 h2
 exact⟨v,w,rfl,h1,h3⟩
theorem jA:iG C (λxs H Q=>∃x n,xs=[x]/\FO C.K x H n/\Q (.int n) H) ee:=by
 intro σ H F θ s xs vs Q b r p
 unfold ee at p
 split at p
 ·rename_i z
  obtain⟨v,rfl,r1⟩:=j4 r
  cases eQ.mp r1
  split at p
  ·rename_i hz
   exact⟨.str z,z.length,rfl,⟨hz,rfl⟩,dr p b (aU.mpr rfl)⟩
  ·exact False.elim p
 ·rename_i ds
  obtain⟨v,rfl,r1⟩:=j4 r
  obtain⟨a,xs,rfl,hs,hr⟩:=sg b r1
  exact⟨.ref a,ds.length,rfl,.inr ⟨xs,hs,by rw[hr.length]⟩,dr p b (aU.mpr rfl)⟩
 ·rename_i x _ _
  obtain⟨v,rfl,r1⟩:=j4 r
  split at p
  ·rename_i ds e
   obtain⟨a,xs,rfl,hs,hr⟩:=fJ b r1 e
   exact⟨.ref a,ds.length,rfl,.inl ⟨xs,hs,by rw[hr.length]⟩,dr p b (aU.mpr rfl)⟩
  ·exact False.elim p
 ·exact False.elim p
def kE:OpN:=λO xs=>match xs with
 | [.tup ds]=>.ok (.lst ds)
 | [x]=>match lsD O x with
  | some ds=>.ok (.lst ds)
  | none=>.bad
 | _=>.bad
theorem qI:iG C (λxs H Q=>∃p ys,xs=[.ref p]/\(SqL C.K H p ys\/SqT C.K H p ys)/\∀l,H l=none->Q (.ref l) (upd H l (.lst ys))) kE:=by
 intro σ H F θ s xs vs Q b r p
 unfold kE at p
 split at p
 ·rename_i ds
  obtain⟨v,rfl,r1⟩:=j4 r
  obtain⟨a,xs,rfl,hs,hr⟩:=sg b r1
  exact⟨a,xs,rfl,.inr hs,sC p b hr⟩
 ·obtain⟨v,rfl,r1⟩:=j4 r
  split at p
  ·rename_i ds e
   obtain⟨a,xs,rfl,hs,hr⟩:=fJ b r1 e
   exact⟨a,xs,rfl,.inl hs,sC p b hr⟩
  ·exact False.elim p
 ·exact False.elim p
def qT:OpN:=λ_ xs=>match xs with
 | [.int i]=>.ok (.int (if i<0 then -i else i))
 | _=>.bad
theorem Az:iG C (λxs H Q=>∃i,xs=[.int i]/\Q (.int (if i<0 then -i else i)) H) qT:=by
 intro σ H F θ s xs vs Q b r p
 unfold qT at p
 split at p
 ·rename_i i
  exact⟨i,kF r,dr p b (aU.mpr rfl)⟩
 ·exact False.elim p
def intOf:OpN:=λ_ xs=>match xs with
 | [.int i]=>.ok (.int i)
 | [.bl k]=>.ok (.int (if k then 1 else 0))
 | _=>.bad
theorem Dd:iG C (λxs H Q=>(∃i,xs=[.int i]/\Q (.int i) H)\/∃k,xs=[.bl k]/\Q (.int (if k then 1 else 0)) H) intOf:=by
 intro σ H F θ s xs vs Q b r p
 unfold intOf at p
 split at p
 ·rename_i i
  exact .inl ⟨i,kF r,dr p b (aU.mpr rfl)⟩
 ·rename_i k
  obtain⟨v,rfl,r1⟩:=j4 r
  cases cu.mp r1
  exact .inr ⟨k,rfl,dr p b (aU.mpr rfl)⟩
 ·exact False.elim p
def tyD(O:au):D->Option String
 | .non=>some "NoneType"
 | .bl _=>some "bool"
 | .int _=>some "int"
 | .str _=>some "str"
 | .lst _=>some "list"
 | .tup _=>some "tuple"
 | .ptr k=>match O[k]? with
  | some (.lst _)=>some "list"
  | _=>none
 | .obj _ _ _=>none
 | .exn _=>none
def dZ(t c:String):Bool:=t == c||(t == "bool" &&c == "int")
def jq(c:String):Op1:=λO x=>match tyD O x with
 | some t=>.ok (.bl (dZ t c))
 | none=>.bad
def qj(c:String):Prop:=∀K:PySem.W.Frag,∀t∈["NoneType","bool","int","str","list","tuple"],PySem.W.kitOne K (.type t) (.type c)=some (dZ t c)
theorem ty_int:qj "int" :=by
 intro K t ht
 simp only[List.mem_cons,List.mem_nil_iff,or_false] at ht
 rcases ht with rfl | rfl | rfl | rfl | rfl | rfl <;> rfl
theorem ty_bool:qj "bool" :=by
 intro K t ht
 simp only[List.mem_cons,List.mem_nil_iff,or_false] at ht
 rcases ht with rfl | rfl | rfl | rfl | rfl | rfl <;> rfl
theorem ty_list:qj "list" :=by
 intro K t ht
 simp only[List.mem_cons,List.mem_nil_iff,or_false] at ht
 rcases ht with rfl | rfl | rfl | rfl | rfl | rfl <;> rfl
theorem xw{c:String}{te:TE}{m:EM}(hc:qj c)(h:RdE C te m):RdE C (tCB (CU C.K) (fv te (fv (tC (.ty c)) kv))) (unM (jq c) m):=by
 intro σ H F θ s Q b p
 refine h σ H F θ s _ b (PoR.bind p ?_)
 rintro ⟨x,s1⟩ H1 F1 θ1 _ st1 p1 b1 v r1
 dsimp only at p1 b1 r1
 show CU C.K [v,.ty c] H1 Q
 unfold jq at p1
 split at p1
 ·rename_i t e
  have q:=dr p1 b1 (v:=.bl (dZ t c)) (cu.mpr rfl)
  refine⟨v,c,t,dZ t c,rfl, ?_, ?_,q⟩
  ·cases x <;> first | (unfold tyD at e;cases e;done) | skip
   ·unfold tyD at e;cases e;rw[gU.mp r1];rfl
   ·unfold tyD at e;cases e;rw[cu.mp r1];rfl
   ·unfold tyD at e;cases e;rw[aU.mp r1];rfl
   ·unfold tyD at e;cases e;rw[eQ.mp r1];rfl
   ·unfold tyD at e;cases e
    unfold Rep at r1
    obtain⟨a,xs,rfl,hs,hr⟩:=r1
    exact .inl ⟨rfl,xs,b1.now.fh.seq hs⟩
   ·unfold tyD at e;cases e
    unfold Rep at r1
    obtain⟨a,xs,rfl,hs,hr⟩:=r1
    exact .inr ⟨rfl,xs,bf.seqT b1.now.fh hs⟩
   ·rename_i k _
    unfold tyD at e
    dsimp only at e
    split at e
    ·rename_i ds ek
     cases e
     obtain⟨a,xs,rfl,hs,hr⟩:=fJ b1 r1 (ds:=ds) (by unfold lsD;simp only[ek])
     exact .inl ⟨rfl,xs,hs⟩
    ·cases e
  ·refine hc C.K t ?_
   cases x <;> unfold tyD at e <;> dsimp only at e <;> first | (cases e;simp;done) | (cases e;done) | skip
   split at e
   ·cases e;simp
   ·cases e
 ·exact False.elim p1
theorem xu{α:Type}{l:List α}(h:l.Nodup){i j:Nat}{x:α}(a:l[i]? =some x)(b:l[j]? =some x):i=j:=by
 obtain⟨h1,e1⟩:=List.getElem?_eq_some_iff.mp a
 obtain⟨h2,e2⟩:=List.getElem?_eq_some_iff.mp b
 exact(List.getElem_inj h).mp (e1.trans e2.symm)
theorem BS.setC{K:PySem.W.Frag}{ca:Nat->Addr}{σ:L2.St}{H F:Hp}{θ:List Addr}{s:S}(b:BS K ca σ H F θ s){k:Nat}{a:Addr}{c:Cell}(hk:θ[k]? =some a)(hc:s.o[k]? =some c)(hF:F a=none){ds:List D}{xs:List V}(hr:aw K ca θ F ds xs):
 Stp H F θ (upd H a (.lst xs)) F θ/\BS K ca σ (upd H a (.lst xs)) F θ ⟨s.r,s.o.set k (.lst ds)⟩:=by
 have hm:a∈θ:=List.mem_of_getElem? hk
 refine⟨⟨bf.refl _,⟨[],by simp,by simp⟩,λe o he hb=> ?_,λe o he=> ?_,λe o he=>.inl he⟩,⟨⟨λe o he=> ?_,b.now.nd,by simpa using b.now.ln,λj a' c' e1 e2=> ?_⟩,b.len,b.sl⟩⟩
 ·have ne:e≠a:=λz=>hb (by rw[z];exact hm)
  rw[aI ne];exact he
 ·by_cases z:e=a
  ·subst z;exact⟨_,bY⟩
  ·exact⟨o,by rw[aI z];exact he⟩
 ·have ne:e≠a:=λz=>by rw[z,hF] at he;cases he
  rw[aI ne]
  exact b.now.fh _ _ he
 ·by_cases hj:k=j
  ·subst hj
   rw[hk] at e1;cases e1
   have:k<s.o.length:=(List.getElem?_eq_some_iff.mp hc).1
   rw[List.getElem?_set_self this] at e2
   cases e2
   exact⟨hF,xs,bY,hr⟩
  ·rw[List.getElem?_set_ne hj] at e2
   have q:=b.now.ce j a' c' e1 e2
   have ne:a'≠a:=λz=>by
    subst z
    exact hj (xu b.now.nd hk e1)
   cases c' with
   | dead=>obtain⟨o,ho⟩:=q;exact⟨o,by rw[aI ne];exact ho⟩
   | lst ds=>obtain⟨q1,ys,q2,q3⟩:=q;exact⟨q1,ys,by rw[aI ne];exact q2,q3⟩
   | ins c ns ds=>obtain⟨q1,dx,ys,q2,q3⟩:=q;exact⟨q1,dx,ys,by rw[aI ne];exact q2,q3⟩
theorem pE{σ:L2.St}{H F:Hp}{θ:List Addr}{s:S}{k:Nat}{ds:List D}{v:V}(b:BS C.K C.ca σ H F θ s)(r:Rep C.K C.ca θ F (.ptr k) v)(e:s.o[k]? =some (.lst ds)):
 ∃a xs,v=.ref a/\θ[k]? =some a/\F a=none/\H a=some (.lst xs)/\aw C.K C.ca θ F ds xs:=by
 unfold Rep at r
 obtain⟨a,rfl,hk⟩:=r
 obtain⟨h0,xs,h1,h2⟩:jC C.K C.ca H F θ a (.lst ds):=b.now.ce k a _ hk e
 exact⟨a,xs,rfl,hk,h0,h1,h2⟩
def kz(O:au):D->Option (Nat×List D)
 | .ptr k=>match O[k]? with
  | some (.lst ds)=>some (k,ds)
  | _=>none
 | _=>none
theorem sk{O:au}{d:D}{k:Nat}{ds:List D}(h:kz O d=some (k,ds)):d=.ptr k/\O[k]? =some (.lst ds):=by
 cases d <;> first | (simp[kz] at h;done) | skip
 rename_i j
 unfold kz at h
 dsimp only at h
 split at h
 ·rename_i es e
  cases h
  exact⟨rfl,e⟩
 ·cases h
def nR(mo me:EM):EM:=λs=>(mo s).bind λx=>match kz x.2.o x.1 with
 | some _=>(me x.2).bind λy=>match kz y.2.o x.1 with
  | some (k,ds)=>if ds.length<16777216 then .ok (.non,⟨y.2.r,y.2.o.set k (.lst (ds++[y.1]))⟩) else .bad
  | none=>.bad
 | none=>.bad
theorem sv{to te:TE}{mo me:EM}(ho:RdE C to mo)(he:RdE C te me):RdE C (tBM C.K "list" yq to (fv te kv)) (nR mo me):=by
 intro σ H F θ s Q b p
 refine ho σ H F θ s _ b (PoR.bind p ?_)
 rintro ⟨x,s1⟩ H1 F1 θ1 _ st1 p1 b1 v r1
 dsimp only at p1 b1 r1
 split at p1
 ·rename_i kd e
  obtain⟨rfl,e'⟩:=sk (k:=kd.1) (ds:=kd.2) e
  obtain⟨a,xs,rfl,hk,_,h1,_⟩:=pE b1 r1 e'
  refine⟨.inl ⟨rfl,xs,SqL.of h1⟩,he σ H1 F1 θ1 s1 _ b1 (PoR.bind p1 ?_)⟩
  rintro ⟨y,s2⟩ H2 F2 θ2 _ st2 p2 b2 w r2
  dsimp only at p2 b2 r2
  split at p2
  ·rename_i k ds e2
   obtain⟨ek,e2⟩:=sk e2
   cases ek
   obtain⟨a',ys,ea,hk2,hF,h2,hr⟩:=pE b2 (r1.mono st2.ff st2.pre) e2
   cases ea
   split at p2
   ·rename_i hl
    obtain⟨st3,b3⟩:=b2.setC hk2 e2 hF (hr.append (aw.one r2))
    exact⟨a,ys,w,rfl,rfl,h2,by rw[hr.length];exact hl,p2 _ _ _ st3 b3 _ (gU.mpr rfl)⟩
   ·exact False.elim p2
  ·exact False.elim p2
 ·exact False.elim p1
def i4(mo mi:EM):GM:=λd s=>(mo s).bind λx=>(mi x.2).bind λy=>match y.1 with
 | .int i=>match kz y.2.o x.1 with
  | some (k,ds)=>match ixN ds.length i with
   | some j=>.ok ⟨y.2.r,y.2.o.set k (.lst (ds.set j d))⟩
   | none=>.bad
  | none=>.bad
 | _=>.bad
theorem mU{to ti:TE}{mo mi:EM}(ho:RdE C to mo)(hi:RdE C ti mi):RdG C (Gs to ti DC) (i4 mo mi):=by
 intro σ H F θ s d v Q b rd p
 refine ho σ H F θ s _ b (PoR.bind p ?_)
 rintro ⟨x,s1⟩ H1 F1 θ1 _ st1 p1 b1 ov r1
 refine hi σ H1 F1 θ1 s1 _ b1 (PoR.bind p1 ?_)
 rintro ⟨y,s2⟩ H2 F2 θ2 _ st2 p2 b2 iv r2
 dsimp only at p2 b2 r2
 split at p2
 ·rename_i i _
  split at p2
  ·rename_i k ds e
   obtain⟨ek,e'⟩:=sk e
   subst ek
   obtain⟨a,xs,rfl,hk,hF,h1,h2⟩:=pE b2 (r1.mono st2.ff st2.pre) e'
   split at p2
   ·rename_i j ej
    obtain⟨st3,b3⟩:=b2.setC hk e' hF (aw.set ((rd.mono st1.ff st1.pre).mono st2.ff st2.pre) j h2)
    exact⟨a,xs,i,j,rfl,aU.mp r2,h1,by rw[h2.length];exact ej,p2 _ _ _ st3 _ b3⟩
   ·exact False.elim p2
  ·exact False.elim p2
 ·exact False.elim p2
theorem BS.frz{K:PySem.W.Frag}{ca:Nat->Addr}{σ:L2.St}{H F:Hp}{θ:List Addr}{s:S}(b:BS K ca σ H F θ s){k:Nat}{a:Addr}{ds:List D}{xs:List V}(hk:θ[k]? =some a)(hc:s.o[k]? =some (.lst ds))(hF:F a=none)(hH:H a=some (.lst xs))(hr:aw K ca θ F ds xs):
 Stp H F θ H (upd F a (.lst xs)) θ/\BS K ca σ H (upd F a (.lst xs)) θ ⟨s.r,s.o.set k .dead⟩/\Rep K ca θ (upd F a (.lst xs)) (.lst ds) (.ref a):=by
 have hm:a∈θ:=List.mem_of_getElem? hk
 have sF:bf F (upd F a (.lst xs)):=λe o he=>by
  rw[aI (λz=>by rw[z,hF] at he;cases he)];exact he
 refine⟨⟨sF,⟨[],by simp,by simp⟩,λe o he _=>he,λe o he=>⟨o,he⟩,λe o he=> ?_⟩,⟨⟨λe o he=> ?_,b.now.nd,by simpa using b.now.ln,λj a' c' e1 e2=> ?_⟩,b.len,λi d e=> ?_⟩, ?_⟩
 ·by_cases z:e=a
  ·exact .inr (.inr (by rw[z];exact hm))
  ·rw[aI z] at he;exact .inl he
 ·by_cases z:e=a
  ·subst z;rw[bY] at he;rw[hH];exact he
  ·rw[aI z] at he;exact b.now.fh _ _ he
 ·by_cases hj:k=j
  ·subst hj
   rw[hk] at e1;cases e1
   have:k<s.o.length:=(List.getElem?_eq_some_iff.mp hc).1
   rw[List.getElem?_set_self this] at e2
   cases e2
   exact⟨_,hH⟩
  ·rw[List.getElem?_set_ne hj] at e2
   have q:=b.now.ce j a' c' e1 e2
   have ne:a'≠a:=λz=>by
    subst z
    exact hj (xu b.now.nd hk e1)
   cases c' with
   | dead=>exact q
   | lst ds=>obtain⟨q1,ys,q2,q3⟩:=q;exact⟨by rw[aI ne];exact q1,ys,q2,q3.mono sF ⟨[],by simp⟩⟩
   | ins c ns ds=>obtain⟨q1,dx,ys,q2,q3,q4⟩:=q;exact⟨by rw[aI ne];exact q1,dx,ys,q2,q3,q4.mono sF ⟨[],by simp⟩⟩
 ·obtain⟨v,h1,h2⟩:=b.sl i d e
  exact⟨v,h1,h2.mono sF ⟨[],by simp⟩⟩
 ·unfold Rep
  exact⟨a,xs,rfl,SqL.of bY,hr.mono sF ⟨[],by simp⟩⟩
def fM(m:EM):EM:=λs=>(m s).bind λx=>match kz x.2.o x.1 with
 | some (k,ds)=>.ok (.lst ds,⟨x.2.r,x.2.o.set k .dead⟩)
 | none=>.bad
theorem ju{t:TE}{m:EM}(h:RdE C t m):RdE C t (fM m):=by
 intro σ H F θ s Q b p
 refine h σ H F θ s _ b (PoR.bind p ?_)
 rintro ⟨x,s1⟩ H1 F1 θ1 _ st1 p1 b1 v r1
 dsimp only at p1 b1 r1
 split at p1
 ·rename_i k ds e
  obtain⟨rfl,e'⟩:=sk e
  obtain⟨a,xs,rfl,hk,hF,h1,h2⟩:=pE b1 r1 e'
  obtain⟨st2,b2,r2⟩:=b1.frz hk e' hF h1 h2
  exact p1 _ _ _ st2 b2 _ r2
 ·exact False.elim p1
def jo(m:Nat)(caps:List Nat)(r:List (Option D)):List (Option D):=List.replicate m none++caps.map λi=>(r[i]?).getD none
theorem Av{K:PySem.W.Frag}{ca:Nat->Addr}{σ:L2.St}{H F:Hp}{θ:List Addr}{s:S}(b:BS K ca σ H F θ s)(m:Nat)(caps:List Nat):BS K ca (kN m caps σ) H F θ ⟨jo m caps s.r,s.o⟩:=by
 refine⟨b.now,by unfold kN jo;simp,λi d e=> ?_⟩
 unfold jo at e
 dsimp only at e
 by_cases hi:i<m
 ·rw[List.getElem?_append_left (by simpa using hi),List.getElem?_replicate] at e
  split at e <;> cases e
 ·rw[List.getElem?_append_right (by simpa using hi)] at e
  simp only[List.length_replicate,List.getElem?_map] at e
  cases q:caps[i-m]? with
  | none=>rw[q] at e;cases e
  | some j=>
   rw[q] at e
   simp only[Option.map_some,Option.some.injEq] at e
   have e':s.r[j]? =some (some d):=by
    cases z:s.r[j]? with
    | none=>rw[z] at e;simp at e
    | some od=>rw[z] at e;simp at e;rw[e]
   obtain⟨v,h1,h2⟩:=b.sl j d e'
   refine⟨v, ?_,h2⟩
   unfold kN
   rw[List.getElem?_append_right (by simpa using hi)]
   simp only[List.length_replicate,List.getElem?_map,q,Option.map_some,h1,Option.getD_some]
def bZ:TM:=λs=>.ok (true,s)
theorem dj:RdT C Dw bZ:=λσ H F θ s Q b p=>p H F θ .refl b
open Classical in
noncomputable def cE (ok:au->Prop)(g:GM)(c:TM)(e:EM):List D->List D->S->Res (List D×S)
 | [],acc,s=>if ok s.o then .ok (acc,s) else .bad
 | d::ds,acc,s=>if ok s.o/\acc.length<16777216 then (g d s).bind λs1=>(c s1).bind λx=>if x.1 then (e x.2).bind λy=>cE ok g c e ds (acc++[y.1]) y.2 else cE ok g c e ds acc x.2 else .bad
noncomputable def j3 (m:Nat)(caps:List Nat)(im:IM)(g:GM)(c:TM)(e:EM):S->Res (List D×S):=λs=>(im s).bind λy=>
 (cE (okC y.1.1 y.1.2) g c e y.1.1 [] ⟨jo m caps y.2.r,y.2.o⟩).bind λz=>.ok (z.1,⟨y.2.r,z.2.o⟩)
theorem wA {m:Nat} {caps:List Nat} {wi:TI} {g:TG} {tc:TT} {te:TE} {im:IM} {gm:GM} {c:TM} {e:EM} (hi:RdI C wi im) (hg:RdG C g gm) (hc:RdT C tc c) (he:RdE C te e)
 {σ:L2.St} {H F:Hp} {θ:List Addr} {s:S} {Q:VK} (b:BS C.K C.ca σ H F θ s)
 (p:PoR C H F θ (j3 m caps im gm c e s) λy H1 F1 θ1=>BS C.K C.ca σ H1 F1 θ1 y.2->∀q xs,H q=none->H1 q=some (.lst xs)->F1 q=none->q∉θ1->aw C.K C.ca θ1 F1 y.1 xs->Q (.ref q) H1):nS m caps wi g tc te σ H Q:=by
 refine hi σ H F θ s _ b (PoR.bind p ?_)
 rintro ⟨⟨ds,k⟩,s1⟩ H1 F1 θ1 _ st1 p1 b1 J it q hq
 dsimp only at p1 b1 it
 have st2:Stp H1 F1 θ1 (upd H1 q (.lst [])) F1 θ1:=by
  have nm:∀a u,H1 a=some u->a≠q:=λa u e z=>by rw[z,hq] at e;cases e
  exact⟨bf.refl _,⟨[],by simp,by simp⟩,λa u h _=>by rw[aI (nm a u h)];exact h,λa u h=>⟨u,by rw[aI (nm a u h)];exact h⟩,λa u h=>.inl h⟩
 have qθ:q∉θ1:=λh=>by obtain⟨u,hu⟩:=b1.now.there h;rw[hq] at hu;cases hu
 have qF:F1 q=none:=by
  cases e:F1 q with
  | none=>rfl
  | some u=>rw[b1.now.fh q u e] at hq;cases hq
 have hqH:H q=none:=by
  cases e:H q with
  | none=>rfl
  | some u=>obtain⟨u',e'⟩:=st1.al q u e;rw[hq] at e';cases e'
 have keep:∀{H2 F2 H3 F3:Hp} {θ2 θ3:List Addr} {o:HO},Stp H2 F2 θ2 H3 F3 θ3->H2 q=some o->F2 q=none->q∉θ2->H3 q=some o/\F3 q=none/\q∉θ3:=λ{H2 F2 H3 F3 θ2 θ3 o} st h1 h2 h3=>by
  refine⟨st.kp q o h1 h3, ?_, ?_⟩
  ·cases e:F3 q with
   | none=>rfl
   | some u=>
    rcases st.nf q u e with z | z | z
    ·rw[h2] at z;cases z
    ·rw[h1] at z;cases z
    ·exact absurd z h3
  ·obtain⟨r,rfl,hr⟩:=st.th
   intro hm
   rcases List.mem_append.mp hm with z | z
   ·exact h3 z
   ·rw[hr q z] at h1;cases h1
 have bs2:∀{σ':L2.St} {H2 F2:Hp} {θ2:List Addr} {s2:S} (o:HO),BS C.K C.ca σ' H2 F2 θ2 s2->F2 q=none->q∉θ2->BS C.K C.ca σ' (upd H2 q o) F2 θ2 s2:=λ{σ' H2 F2 θ2 s2} o b h1 h2=>by
  have ne:∀a,a∈θ2->a≠q:=λa h z=>h2 (z▸h)
  refine⟨⟨λa u h=> ?_,b.now.nd,b.now.ln,λj a c e1 e2=> ?_⟩,b.len,b.sl⟩
  ·have:a≠q:=λz=>by rw[z,h1] at h;cases h
   rw[aI this];exact b.now.fh a u h
  ·have hm:=ne a (List.mem_of_getElem? e1)
   have w:=b.now.ce j a c e1 e2
   cases c with
   | dead=>obtain⟨u,hu⟩:=w;exact⟨u,by rw[aI hm];exact hu⟩
   | lst ds=>obtain⟨q1,ys,q2,q3⟩:=w;exact⟨q1,ys,by rw[aI hm];exact q2,q3⟩
   | ins c ns ds=>obtain⟨q1,dx,ys,q2,q3,q4⟩:=w;exact⟨q1,dx,ys,by rw[aI hm];exact q2,q3,q4⟩
 have stq:∀{H2 F2:Hp} {θ2:List Addr} (o:HO),Stp H1 F1 θ1 H2 F2 θ2->Stp H1 F1 θ1 (upd H2 q o) F2 θ2:=λ{H2 F2 θ2} o st=>by
  have nm:∀a u,H1 a=some u->a≠q:=λa u e z=>by rw[z,hq] at e;cases e
  exact⟨st.ff,st.th,λa u h1 h2=>by rw[aI (nm a u h1)];exact st.kp a u h1 h2,λa u h1=>by rw[aI (nm a u h1)];exact st.al a u h1,st.nf⟩
 refine⟨λi n acc σ' H'=>n=ds.length-i/\i<=ds.length/\∃F' θ' s' as,Stp H1 F1 θ1 H' F' θ'/\H' q=some (.lst acc)/\F' q=none/\q∉θ'/\BS C.K C.ca σ' H' F' θ' s'/\aw C.K C.ca θ' F' as acc/\
  PoR C H1 F1 θ1 ((cE (okC ds k) gm c e (ds.drop i) as s').bind λz=>.ok (z.1,(⟨s1.r,z.2.o⟩:S))) (λy H1 F1 θ1=>BS C.K C.ca σ H1 F1 θ1 y.2->∀q xs,H q=none->H1 q=some (.lst xs)->F1 q=none->q∉θ1->aw C.K C.ca θ1 F1 y.1 xs->Q (.ref q) H1),
  ⟨ds.length,by simp,Nat.zero_le _,F1,θ1,⟨jo m caps s1.r,s1.o⟩,[],st2,bY,qF,qθ,bs2 _ (Av b1 m caps) qF qθ,aw.nil,by simpa using p1⟩, ?_⟩
 rintro i n acc σ' H' ⟨rfl,hil,F',θ',s',as,st,hq',qF',qθ',bs,hacc,po⟩
 by_cases lt:i<ds.length
 ·right
  rw[List.drop_eq_getElem_cons lt,cE] at po
  split at po
  ·rename_i hok
   refine⟨it.go i H' F' θ' s'.o lt st bs.now hok.1, ?_⟩
   intro x H3 hy
   obtain⟨F3,st3,b3,rp⟩:=it.yl i ds[i] σ' H' F' θ' s' x H3 (List.getElem?_eq_getElem lt) st bs hok.1 hy
   obtain⟨k1,k2,k3⟩:=keep st3 hq' qF' qθ'
   have st13:=st.trans st3
   have po3:=PoR.after st13 po
   have w1:PoG C H3 F3 θ' (gm ds[i] s') (λσ4 H4=>tc σ4 H4 λb H4=>if b=true then
    te σ4 H4 λy H5=>H5 q=some (.lst acc)/\acc.length<sizeLine/\∃k',k'<ds.length-i/\(k'=ds.length-(i+1)/\i+1<=ds.length/\∃F' θ' s' as,Stp H1 F1 θ1 (upd H5 q (.lst (acc++[y]))) F' θ'/\(upd H5 q (.lst (acc++[y]))) q=some (.lst (acc++[y]))/\F' q=none/\q∉θ'/\BS C.K C.ca σ4 (upd H5 q (.lst (acc++[y]))) F' θ' s'/\aw C.K C.ca θ' F' as (acc++[y])/\
     PoR C H1 F1 θ1 ((cE (okC ds k) gm c e (ds.drop (i+1)) as s').bind λz=>.ok (z.1,(⟨s1.r,z.2.o⟩:S))) (λy H1 F1 θ1=>BS C.K C.ca σ H1 F1 θ1 y.2->∀q xs,H q=none->H1 q=some (.lst xs)->F1 q=none->q∉θ1->aw C.K C.ca θ1 F1 y.1 xs->Q (.ref q) H1))
    else ∃k',k'<ds.length-i/\(k'=ds.length-(i+1)/\i+1<=ds.length/\∃F' θ' s' as,Stp H1 F1 θ1 H4 F' θ'/\H4 q=some (.lst acc)/\F' q=none/\q∉θ'/\BS C.K C.ca σ4 H4 F' θ' s'/\aw C.K C.ca θ' F' as acc/\
     PoR C H1 F1 θ1 ((cE (okC ds k) gm c e (ds.drop (i+1)) as s').bind λz=>.ok (z.1,(⟨s1.r,z.2.o⟩:S))) (λy H1 F1 θ1=>BS C.K C.ca σ H1 F1 θ1 y.2->∀q xs,H q=none->H1 q=some (.lst xs)->F1 q=none->q∉θ1->aw C.K C.ca θ1 F1 y.1 xs->Q (.ref q) H1))):=by
    cases e1:gm ds[i] s' with
    | bad=>rw[e1] at po3;exact po3
    | exc a1 a2 a3=>rw[e1] at po3;exact po3
    | ok s4=>
     rw[e1] at po
     intro H4 F4 θ4 st4 σ4 b4
     obtain⟨l1,l2,l3⟩:=keep st4 k1 k2 k3
     refine hc σ4 H4 F4 θ4 s4 _ b4 ?_
     cases e2:c s4 with
     | bad=>rw[ak,e2] at po;exact po
     | exc a1 a2 a3=>rw[ak,e2] at po;exact PoR.after (st13.trans st4) po
     | ok x5=>
      obtain⟨kk,s5⟩:=x5
      rw[ak,e2,ak] at po
      intro H5 F5 θ5 st5 b5
      obtain⟨m1,m2,m3⟩:=keep st5 l1 l2 l3
      have hacc5:=((hacc.mono st3.ff st3.pre).mono st4.ff st4.pre).mono st5.ff st5.pre
      cases kk with
      | false=>
       exact rE ⟨ds.length-(i+1),by omega,rfl,by omega,F5,θ5,s5,as,st13.trans (st4.trans st5),m1,m2,m3,b5,hacc5,by simpa using po⟩
      | true=>
       refine qP (he σ4 H5 F5 θ5 s5 _ b5 ?_)
       dsimp only[if_true] at po
       cases e3:e s5 with
       | bad=>rw[e3] at po;exact po
       | exc a1 a2 a3=>rw[e3] at po;exact PoR.after (st13.trans (st4.trans st5)) po
       | ok x6=>
        obtain⟨y,s6⟩:=x6
        rw[e3,ak] at po
        intro H6 F6 θ6 st6 b6 w r6
        obtain⟨n1,n2,n3⟩:=keep st6 m1 m2 m3
        exact⟨n1,by rw[hacc.length];exact hok.2,ds.length-(i+1),by omega,rfl,by omega,F6,θ6,s6,as++[y],stq _ (st13.trans (st4.trans (st5.trans st6))),bY,n2,n3,bs2 _ b6 n2 n3,(hacc5.mono st6.ff st6.pre).append (aw.one r6),po⟩
   exact hg σ' H3 F3 θ' s' ds[i] x _ b3 rp w1
  ·exact False.elim po
 ·left
  rw[List.drop_eq_nil_of_le (by omega),cE] at po
  split at po
  ·rename_i hok
   refine⟨it.st i H' F' θ' s'.o (by omega) st bs.now hok,hq', ?_⟩
   refine po H' F' θ' st ⟨bs.now,b1.len,λj d e=> ?_⟩ q acc hqH hq' qF' qθ' hacc
   obtain⟨v,h1,h2⟩:=b1.sl j d e
   exact⟨v,h1,h2.mono st.ff st.pre⟩
  ·exact False.elim po
noncomputable def cM (m:Nat)(caps:List Nat)(im:IM)(g:GM)(c:TM)(e:EM):EM:=λs=>(j3 m caps im g c e s).bind λy=>.ok (.lst y.1,y.2)
theorem dF{m:Nat}{caps:List Nat}{wi:TI}{g:TG}{tc:TT}{te:TE}{im:IM}{gm:GM}{c:TM}{e:EM}(hi:RdI C wi im)(hg:RdG C g gm)(hc:RdT C tc c)(he:RdE C te e):RdE C (nS m caps wi g tc te) (cM m caps im gm c e):=by
 intro σ H F θ s Q b p
 refine wA hi hg hc he b ?_
 unfold cM at p
 cases e1:j3 m caps im gm c e s with
 | bad=>rw[e1] at p;exact p
 | exc a1 a2 a3=>rw[e1] at p;exact p
 | ok y=>
  rw[e1,ak] at p
  intro H1 F1 θ1 st1 b1 q xs h0 h1 h2 h3 hr
  have sF:bf F1 (upd F1 q (.lst xs)):=λa u h=>by
   rw[aI (λz=>by rw[z,h2] at h;cases h)];exact h
  refine p H1 (upd F1 q (.lst xs)) θ1 ⟨st1.ff.trans sF,st1.th,st1.kp,st1.al,λa u h=> ?_⟩ ⟨⟨λa u h=> ?_,b1.now.nd,b1.now.ln,λj a c e2 e3=> ?_⟩,b1.len,λi d e2=> ?_⟩ (.ref q) ?_
  ·by_cases z:a=q
   ·subst z;exact .inr (.inl h0)
   ·rw[aI z] at h;exact st1.nf a u h
  ·by_cases z:a=q
   ·subst z;rw[bY] at h;rw[h1];exact h
   ·rw[aI z] at h;exact b1.now.fh a u h
  ·have ne:a≠q:=λz=>h3 (z▸List.mem_of_getElem? e2)
   have w:=b1.now.ce j a c e2 e3
   cases c with
   | dead=>exact w
   | lst ds=>obtain⟨q1,ys,q2,q3⟩:=w;exact⟨by rw[aI ne];exact q1,ys,q2,q3.mono sF ⟨[],by simp⟩⟩
   | ins c ns ds=>obtain⟨q1,dx,ys,q2,q3,q4⟩:=w;exact⟨by rw[aI ne];exact q1,dx,ys,q2,q3,q4.mono sF ⟨[],by simp⟩⟩
  ·obtain⟨v,w1,w2⟩:=b1.sl i d e2
   exact⟨v,w1,w2.mono sF ⟨[],by simp⟩⟩
  ·unfold Rep
   exact⟨q,xs,rfl,SqL.of bY,hr.mono sF ⟨[],by simp⟩⟩
noncomputable def jy (m:Nat)(caps:List Nat)(im:IM)(g:GM)(c:TM)(e:EM):EM:=λs=>(j3 m caps im g c e s).bind λy=>.ok (.ptr y.2.o.length,⟨y.2.r,y.2.o++[.lst y.1]⟩)
theorem nY{m:Nat}{caps:List Nat}{wi:TI}{g:TG}{tc:TT}{te:TE}{im:IM}{gm:GM}{c:TM}{e:EM}(hi:RdI C wi im)(hg:RdG C g gm)(hc:RdT C tc c)(he:RdE C te e):RdE C (nS m caps wi g tc te) (jy m caps im gm c e):=by
 intro σ H F θ s Q b p
 refine wA hi hg hc he b ?_
 unfold jy at p
 cases e1:j3 m caps im gm c e s with
 | bad=>rw[e1] at p;exact p
 | exc a1 a2 a3=>rw[e1] at p;exact p
 | ok y=>
  rw[e1,ak] at p
  intro H1 F1 θ1 st1 b1 q xs h0 h1 h2 h3 hr
  obtain⟨r,er,hr0⟩:=st1.th
  refine p H1 F1 (θ1++[q]) ⟨st1.ff,⟨r++[q],by rw[er,List.append_assoc],λa ha=> ?_⟩,st1.kp,st1.al,st1.nf⟩ ⟨⟨b1.now.fh, ?_,by simp[b1.now.ln],λk a c e2 e3=> ?_⟩,b1.len,λi d e2=> ?_⟩ (.ref q) ?_
  ·rcases List.mem_append.mp ha with z | z
   ·exact hr0 a z
   ·rw[List.mem_singleton.mp z];exact h0
  ·refine List.nodup_append.mpr ⟨b1.now.nd,by simp,λa ha x hx=> ?_⟩
   rw[List.mem_singleton.mp hx]
   rintro rfl
   exact h3 ha
  ·by_cases hk:k<θ1.length
   ·rw[List.getElem?_append_left hk] at e2
    dsimp only at e3
    rw[List.getElem?_append_left (by rw[<- b1.now.ln];exact hk)] at e3
    have w:=b1.now.ce k a c e2 e3
    cases c with
    | dead=>exact w
    | lst ds=>obtain⟨q1,ys,q2,q3⟩:=w;exact⟨q1,ys,q2,q3.mono (bf.refl _) ⟨[q],rfl⟩⟩
    | ins c ns ds=>obtain⟨q1,dx,ys,q2,q3,q4⟩:=w;exact⟨q1,dx,ys,q2,q3,q4.mono (bf.refl _) ⟨[q],rfl⟩⟩
   ·have hk1:k<(θ1++[q]).length:=(List.getElem?_eq_some_iff.mp e2).1
    have hk2:k=θ1.length:=by simp at hk1;omega
    subst hk2
    rw[List.getElem?_append_right (Nat.le_refl _)] at e2
    dsimp only at e3
    rw[List.getElem?_append_right (by rw[b1.now.ln];exact Nat.le_refl _),b1.now.ln] at e3
    simp at e2 e3
    subst e2;subst e3
    exact⟨h2,xs,h1,hr.mono (bf.refl _) ⟨[q],rfl⟩⟩
  ·obtain⟨v,w1,w2⟩:=b1.sl i d e2
   exact⟨v,w1,w2.mono (bf.refl _) ⟨[q],rfl⟩⟩
  ·unfold Rep
   exact⟨q,rfl,by rw[<- b1.now.ln];simp⟩
end
end M
set_option maxRecDepth 100000
set_option maxHeartbeats 4000000
namespace M
open PySem PySem.Spec PyProof.Rows L2
section
variable {C : Ct}
theorem tG{σ:L2.St}{H F:Hp}{θ:List Addr}{s:S}{ds:List D}{Q:VK}(p:PoE C σ H F θ (.ok (.ptr s.o.length,(⟨s.r,s.o++[.lst ds]⟩:S))) Q)(b:BS C.K C.ca σ H F θ s){xs:List V}(r:aw C.K C.ca θ F ds xs):
 ∀q,H q=none->Q (.ref q) (upd H q (.lst xs)):=λq hq=>by
 obtain⟨st,b2,rp⟩:=b.newC hq r
 exact p _ _ _ st b2 _ rp
def pP(O:au):D->Option (List D)
 | .tup ds=>some ds
 | x=>lsD O x
def lW(m:EM):EM:=λs=>(m s).bind λx=>match pP x.2.o x.1 with
 | some ds=>.ok (.ptr x.2.o.length,⟨x.2.r,x.2.o++[.lst ds]⟩)
 | none=>.bad
theorem rn{t:TE}{m:EM}(h:RdE C t m):RdE C (tCB (λxs H Q=>∃p ys,xs=[.ref p]/\(SqL C.K H p ys\/SqT C.K H p ys)/\∀l,H l=none->Q (.ref l) (upd H l (.lst ys))) (fv t kv)) (lW m):=by
 intro σ H F θ s Q b p
 refine h σ H F θ s _ b (PoR.bind p ?_)
 rintro ⟨x,s1⟩ H1 F1 θ1 _ st1 p1 b1 v r1
 dsimp only at p1 b1 r1
 split at p1
 ·rename_i ds e
  cases x with
  | tup es=>
   cases e
   obtain⟨a,xs,rfl,hs,hr⟩:=sg b1 r1
   exact⟨a,xs,rfl,.inr hs,tG p1 b1 hr⟩
  | _=>
   obtain⟨a,xs,rfl,hs,hr⟩:=fJ b1 r1 e
   exact⟨a,xs,rfl,.inl hs,tG p1 b1 hr⟩
 ·exact False.elim p1
mutual
def shD(n:Nat):D->D
 | .lst ds=>.lst (eT n ds)
 | .tup ds=>.tup (eT n ds)
 | .ptr k=>.ptr (n+k)
 | .obj c ns ds=>.obj c ns (eT n ds)
 | .exn c=>.exn c
 | .non=>.non
 | .bl b=>.bl b
 | .int i=>.int i
 | .str x=>.str x
def eT(n:Nat):List D->List D
 | []=>[]
 | d::ds=>shD n d::eT n ds
end
def shC(n:Nat):Cell->Cell
 | .dead=>.dead
 | .lst ds=>.lst (eT n ds)
 | .ins c ns ds=>.ins c ns (eT n ds)
section
variable {K : PySem.W.Frag} {ca : Nat → Addr} {F : Hp} {θ θ1 : List Addr}
mutual
theorem AH:∀{d:D} {v:V},Rep K ca θ1 F d v->Rep K ca (θ++θ1) F (shD θ.length d) v
 | .non,_,h=>by unfold shD;exact h
 | .bl _,_,h=>by unfold shD;exact h
 | .int _,_,h=>by unfold shD;exact h
 | .str _,_,h=>by unfold shD;exact h
 | .lst ds,_,h=>by
  unfold shD
  unfold Rep at h ⊢
  obtain⟨a,xs,e,hs,hr⟩:=h
  exact⟨a,xs,e,hs,kZ hr⟩
 | .tup ds,_,h=>by
  unfold shD
  unfold Rep at h ⊢
  obtain⟨a,xs,e,hs,hr⟩:=h
  exact⟨a,xs,e,hs,kZ hr⟩
 | .ptr k,_,h=>by
  unfold shD
  unfold Rep at h ⊢
  obtain⟨a,e,hk⟩:=h
  exact⟨a,e,by rw[List.getElem?_append_right (Nat.le_add_right _ _),Nat.add_sub_cancel_left];exact hk⟩
 | .obj c ns ds,_,h=>by
  unfold shD
  unfold Rep at h ⊢
  obtain⟨a,dx,xs,e,ha,hl,hr⟩:=h
  exact⟨a,dx,xs,e,ha,hl,kZ hr⟩
 | .exn c,_,h=>by
  unfold shD
  unfold Rep at h ⊢
  exact h
theorem kZ:∀{ds:List D} {xs:List V},aw K ca θ1 F ds xs->aw K ca (θ++θ1) F (eT θ.length ds) xs
 | [],_,h=>by unfold eT;exact h
 | d::ds,_,h=>by
  unfold eT
  unfold aw at h ⊢
  obtain⟨v,r,e,h1,h2⟩:=h
  exact⟨v,r,e,AH h1,kZ h2⟩
end
end
theorem BS.calledO{K:PySem.W.Frag}{ca:Nat->Addr}{σ:L2.St}{H F H1 F1:Hp}{θ θ1:List Addr}{s:S}{O1:au}(b:BS K ca σ H F θ s)(st:Stp H F [] H1 F1 θ1)(n:Now K ca H1 F1 θ1 O1):
 Stp H F θ H1 F1 (θ++θ1)/\BS K ca σ H1 F1 (θ++θ1) ⟨s.r,s.o++O1.map (shC s.o.length)⟩:=by
 obtain⟨st0,b0⟩:=b.called st n
 obtain⟨r,er,hr⟩:=st.th
 rw[List.nil_append] at er
 subst er
 refine⟨⟨st0.ff,⟨θ1,rfl,hr⟩,st0.kp,st0.al,st0.nf⟩,⟨⟨n.fh,List.nodup_append.mpr ⟨b.now.nd,n.nd,λa ha x hx=> ?_⟩,by simp[b.now.ln,n.ln],λk a c e1 e2=> ?_⟩,b.len,λi d e=> ?_⟩⟩
 ·rintro rfl
  obtain⟨u,hu⟩:=b.now.there ha
  rw[hr a hx] at hu
  cases hu
 ·by_cases hk:k<θ.length
  ·rw[List.getElem?_append_left hk] at e1
   dsimp only at e2
   rw[List.getElem?_append_left (by rw[<- b.now.ln];exact hk)] at e2
   have w:=b0.now.ce k a c e1 e2
   cases c with
   | dead=>exact w
   | lst ds=>obtain⟨q1,ys,q2,q3⟩:=w;exact⟨q1,ys,q2,q3.mono (bf.refl _) ⟨θ1,rfl⟩⟩
   | ins c ns ds=>obtain⟨q1,dx,ys,q2,q3,q4⟩:=w;exact⟨q1,dx,ys,q2,q3,q4.mono (bf.refl _) ⟨θ1,rfl⟩⟩
  ·rw[List.getElem?_append_right (by omega)] at e1
   dsimp only at e2
   rw[List.getElem?_append_right (by rw[<- b.now.ln];omega),List.getElem?_map,<- b.now.ln] at e2
   cases e3:O1[k-θ.length]? with
   | none=>rw[e3] at e2;cases e2
   | some c'=>
    rw[e3] at e2
    cases e2
    have w:=n.ce _ a c' e1 e3
    cases c' with
    | dead=>exact w
    | lst ds=>obtain⟨q1,ys,q2,q3⟩:=w;exact⟨q1,ys,q2,kZ q3⟩
    | ins c ns ds=>obtain⟨q1,dx,ys,q2,q3,q4⟩:=w;exact⟨q1,dx,ys,q2,q3,kZ q4⟩
 ·obtain⟨v,h1,h2⟩:=b0.sl i d e
  exact⟨v,h1,h2.mono (bf.refl _) ⟨θ1,rfl⟩⟩
def eZ(n:Nat)(f:FM)(ma:AM):EM:=λs=>(ma s).bind λx=>if aX x.1=true/\x.1.length=n then (match f x.1 [] with
 | .ok (d,O1)=>.ok (shD x.2.o.length d,⟨x.2.r,x.2.o++O1.map (shC x.2.o.length)⟩)
 | _=>.bad) else .bad
theorem iS{n:Nat}{f:FM}{ta:TA}{ma:AM}{E:XK}(ha:RdA C ta ma):RdE C (pL (spM C.K C.ca n f) [] E ta) (eZ n f ma):=by
 intro σ H F θ s Q b p
 refine ha σ H F θ s _ b (PoR.bind p ?_)
 rintro ⟨x,s1⟩ H1 F1 θ1 _ st1 p1 b1 v r1
 dsimp only at p1 b1 r1 ⊢
 split at p1
 ·rename_i hp
  rw[List.append_nil]
  refine⟨F1,[],x,[],Now.nil b1.now.fh,r1.pure hp.1,hp.2, ?_⟩
  split at p1
  ·rename_i d O1 e
   rw[e]
   intro v H2 F2 θ2 st2 n2 rv
   obtain⟨st3,b3⟩:=b1.calledO st2 n2
   refine p1 H2 F2 _ st3 b3 v ?_
   rw[<- b1.now.ln]
   exact AH rv
  ·exact False.elim p1
 ·exact False.elim p1
def eH(n:Nat)(f:FM)(ma:AM):EM:=λs=>(ma s).bind λx=>if aX (bF x.2.o (bF x.2.o x.1))=true/\x.1.length=n then (match f (bF x.2.o (bF x.2.o x.1)) [] with
 | .ok (d,_)=>if lV d=true then .ok (d,x.2) else .bad
 | _=>.bad) else .bad
theorem iI(O:au):∀ds:List D,(bF O ds).length=ds.length
 | []=>by unfold bF;rfl
 | d::ds=>by unfold bF;rw[List.length_cons,List.length_cons,iI O ds]
theorem jH{n:Nat}{f:FM}{ta:TA}{ma:AM}{E:XK}(ha:RdA C ta ma):RdE C (pL (spM C.K C.ca n f) [] E ta) (eH n f ma):=by
 intro σ H F θ s Q b p
 refine ha σ H F θ s _ b (PoR.bind p ?_)
 rintro ⟨x,s1⟩ H1 F1 θ1 _ st1 p1 b1 v r1
 dsimp only at p1 b1 r1 ⊢
 split at p1
 ·rename_i hp
  rw[List.append_nil]
  have rr:aw C.K C.ca θ1 H1 (bF s1.o (bF s1.o x)) v:=iY b1.now b1.now.fh (bf.refl _) (iY b1.now (bf.refl _) b1.now.fh r1)
  refine⟨H1,[],bF s1.o (bF s1.o x),[],Now.nil (bf.refl _),rr.pure hp.1,by rw[iI,iI];exact hp.2, ?_⟩
  split at p1
  ·rename_i d O1 e
   rw[e]
   intro v H2 F2 θ2 st2 n2 rv
   split at p1
   ·rename_i sd
    have kp:∀a o,H1 a=some o->H2 a=some o:=λa o h=>st2.kp a o h (by simp)
    refine p1 H2 F1 θ1 ⟨bf.refl _,⟨[],by simp,by simp⟩,λa o h _=>kp a o h,st2.al,λa o h=>.inl h⟩ ⟨⟨λa o h=>kp a o (b1.now.fh a o h),b1.now.nd,b1.now.ln,λk a c e1 e2=> ?_⟩,b1.len,b1.sl⟩ v (rv.scal sd)
    have w:=b1.now.ce k a c e1 e2
    cases c with
    | dead=>obtain⟨o,ho⟩:=w;exact⟨o,kp a o ho⟩
    | lst ds=>obtain⟨q1,ys,q2,q3⟩:=w;exact⟨q1,ys,kp _ _ q2,q3⟩
    | ins c ns ds=>obtain⟨q1,dx,ys,q2,q3,q4⟩:=w;exact⟨q1,dx,ys,kp _ _ q2,q3,q4⟩
   ·exact False.elim p1
  ·exact False.elim p1
 ·exact False.elim p1
end
end M
set_option maxRecDepth 100000
set_option maxHeartbeats 4000000
namespace M
open PySem PySem.Spec PyProof.Rows L2
def cq(P:Program)(w:World)(K:PySem.W.Frag)(mg:Str->Option Value)(base:Heap)(ca:Nat->Addr)(lv:Nat)(x:Str)(ps:List Str)(f:FM)(a:Addr)(fd:FuncData):Prop:=
 fV P w K mg base (CXE P w) lv a fd ps (spM K ca ps.length f)/\mg x=some (.ref a)/\PySem.W.keepIn K (.ref a)=true/\Binds K fd ps []
def bE(P:Program)(w:World)(K:PySem.W.Frag)(mg:Str->Option Value)(base:Heap)(ca:Nat->Addr)(lv:Nat)(x:Str)(ps:List Str)(f:FM):Prop:=∃a fd,cq P w K mg base ca lv x ps f a fd
theorem cq.in{P:Program}{w:World}{K:PySem.W.Frag}{mg:Str->Option Value}{base:Heap}{ca:Nat->Addr}{lv:Nat}{x:Str}{ps:List Str}{f:FM}{a:Addr}{fd:FuncData}(h:cq P w K mg base ca lv x ps f a fd):bE P w K mg base ca lv x ps f:=⟨a,fd,h⟩
theorem ui{K:PySem.W.Frag}{ca:Nat->Addr}{θ:List Addr}{F:Hp}:∀ns:List Int,aw K ca θ F (ns.map D.int) (ns.map V.int)
 | []=>aw.nil
 | _::ns=>aw.cons (aU.mpr rfl) (ui ns)
theorem Ft{K:PySem.W.Frag}{ca:Nat->Addr}{H:Hp}{a:Addr}{ns:List Int}{f:FM}{E:XK}(hS:SqL K H a (ns.map V.int))(h:∃O,f [.lst (ns.map D.int)] []=.ok (.bl true,O)):spM K ca 1 f [.ref a] H (λv _=>v=.bl true) E:=by
 obtain⟨O,h⟩:=h
 refine⟨H,[],[.lst (ns.map D.int)],[],Now.nil (bf.refl _),aw.one ?_,rfl, ?_⟩
 ·unfold Rep
  exact⟨a,ns.map V.int,rfl,hS,ui ns⟩
 ·rw[h]
  intro v H1 F1 θ1 _ _ r
  exact cu.mp r
theorem cF{k:Nat}{A:Around}(hr:dP k A)(hk:32<=k):A.depth+100<recursionLimit:=by
 have:=hr.dp
 omega
def tN(i:Nat)(s:S):Nat:=match s.r[i]? with
 | some (some (.int j))=>j.natAbs+1
 | _=>0
end M
set_option maxRecDepth 100000
set_option maxHeartbeats 4000000
namespace M
open PySem PySem.Spec PyProof.Rows L2
section
variable {C : Ct}
def iV(as bs:List D):List D:=List.zipWith (λa b=>.tup [a,b]) as bs
def mm(m:AM):IM:=λs=>(m s).bind λx=>match x.1 with
 | [.lst as,.lst bs]=>.ok ((iV as bs,none),x.2)
 | _=>.bad
theorem nZ{as bs:List D}{i:Nat}{d:D}(h:(iV as bs)[i]? =some d):∃x y,as[i]? =some x/\bs[i]? =some y/\d=.tup [x,y]:=by
 unfold iV at h
 rw[List.getElem?_zipWith] at h
 cases h1:as[i]? with
 | none=>rw[h1] at h;cases h
 | some x=>
  cases h2:bs[i]? with
  | none=>rw[h1,h2] at h;cases h
  | some y=>
   rw[h1,h2] at h
   cases h
   exact⟨x,y,rfl,rfl,rfl⟩
theorem GH{a b:Addr}{xs ys:List V}{as bs:List D}{H F:Hp}{θ:List Addr}(h1:SqL C.K F a xs)(h2:SqL C.K F b ys)(r1:aw C.K C.ca θ F as xs)(r2:aw C.K C.ca θ F bs ys):
 rh C (Itz C.K a b) (iV as bs) (okC (iV as bs) none) H F θ where
 go:=λi H2 F2 θ2 O2 hi st n _=>by
  obtain⟨x,y,e1,e2,_⟩:=nZ (List.getElem?_eq_getElem hi)
  obtain⟨v,q1,_⟩:=r1.get e1
  obtain⟨w,q2,_⟩:=r2.get e2
  exact⟨xs,ys,v,w,n.fh.seq (st.ff.seq h1),n.fh.seq (st.ff.seq h2),q1,q2⟩
 yl:=λi d σ H2 F2 θ2 s2 x H3 hd st b _ hy=>by
  obtain⟨T,v,w,hT,rfl,rfl,hv,hw⟩:=hy
  obtain⟨x,y,e1,e2,rfl⟩:=nZ hd
  obtain⟨v',q1,k1⟩:=r1.get e1
  obtain⟨w',q2,k2⟩:=r2.get e2
  have:=hv xs (b.now.fh.seq (st.ff.seq h1))
  rw[q1] at this
  cases this
  have:=hw ys (b.now.fh.seq (st.ff.seq h2))
  rw[q2] at this
  cases this
  obtain⟨st3,b3,sF,e3⟩:=b.newF hT (.tup [v,w])
  refine⟨_,st3,b3, ?_⟩
  unfold Rep
  exact⟨T,[v,w],rfl,SqT.of e3,aw.cons ((k1.mono st.ff st.pre).mono st3.ff st3.pre) (aw.one ((k2.mono st.ff st.pre).mono st3.ff st3.pre))⟩
 st:=λi H2 F2 θ2 O2 hi st n _=>by
  refine⟨xs,ys,n.fh.seq (st.ff.seq h1),n.fh.seq (st.ff.seq h2), ?_⟩
  unfold iV at hi
  rw[List.length_zipWith] at hi
  rw[r1.length,r2.length]
  omega
theorem sr{ta:TA}{m:AM}(h:RdA C ta m):RdI C (Cu C.K ta) (mm m):=by
 intro σ H F θ s R b p
 refine h σ H F θ s _ b (PoR.bind p ?_)
 rintro ⟨x,s1⟩ H1 F1 θ1 _ st1 p1 b1 v r1
 dsimp only at p1 b1 r1
 split at p1
 ·rename_i as bs
  obtain⟨v1,v2,rfl,k1,k2⟩:=DB r1
  unfold Rep at k1 k2
  obtain⟨a,xs,rfl,hs,hr⟩:=k1
  obtain⟨b',ys,rfl,hs',hr'⟩:=k2
  exact⟨a,b',rfl,⟨xs,b1.now.fh.seq hs⟩,⟨ys,b1.now.fh.seq hs'⟩,p1 _ _ _ .refl b1 _ (GH hs hs' hr hr')⟩
 ·exact False.elim p1
def gY(ds:List D):List D:=ds.mapIdx λi d=>.tup [.int (i:Nat),d]
def dB(m:AM):IM:=λs=>(m s).bind λx=>match x.1 with
 | [.lst as]=>.ok ((gY as,none),x.2)
 | _=>.bad
theorem uy{as:List D}{i:Nat}{d:D}(h:(gY as)[i]? =some d):∃x,as[i]? =some x/\d=.tup [.int (i:Nat),x]:=by
 unfold gY at h
 rw[List.getElem?_mapIdx] at h
 cases h1:as[i]? with
 | none=>rw[h1] at h;cases h
 | some x=>
  rw[h1] at h
  cases h
  exact⟨x,rfl,rfl⟩
theorem EX{a:Addr}{xs:List V}{as:List D}{H F:Hp}{θ:List Addr}(h1:SqL C.K F a xs)(r1:aw C.K C.ca θ F as xs):rh C (Ite C.K a) (gY as) (okC (gY as) none) H F θ where
 go:=λi H2 F2 θ2 O2 hi st n _=>by
  obtain⟨x,e1,_⟩:=uy (List.getElem?_eq_getElem hi)
  obtain⟨v,q1,_⟩:=r1.get e1
  exact⟨xs,v,n.fh.seq (st.ff.seq h1),q1⟩
 yl:=λi d σ H2 F2 θ2 s2 x H3 hd st b _ hy=>by
  obtain⟨T,v,hT,rfl,rfl,hv⟩:=hy
  obtain⟨x,e1,rfl⟩:=uy hd
  obtain⟨v',q1,k1⟩:=r1.get e1
  have:=hv xs (b.now.fh.seq (st.ff.seq h1))
  rw[q1] at this
  cases this
  obtain⟨st3,b3,sF,e3⟩:=b.newF hT (.tup [.int (i:Nat),v])
  refine⟨_,st3,b3, ?_⟩
  unfold Rep
  exact⟨T,[.int (i:Nat),v],rfl,SqT.of e3,aw.cons (aU.mpr rfl) (aw.one ((k1.mono st.ff st.pre).mono st3.ff st3.pre))⟩
 st:=λi H2 F2 θ2 O2 hi st n _=>by
  refine⟨xs,n.fh.seq (st.ff.seq h1), ?_⟩
  unfold gY at hi
  rw[List.length_mapIdx] at hi
  rw[r1.length]
  exact hi
theorem jt{ta:TA}{m:AM}(h:RdA C ta m):RdI C (Dz C.K ta) (dB m):=by
 intro σ H F θ s R b p
 refine h σ H F θ s _ b (PoR.bind p ?_)
 rintro ⟨x,s1⟩ H1 F1 θ1 _ st1 p1 b1 v r1
 dsimp only at p1 b1 r1
 split at p1
 ·rename_i as
  obtain⟨v1,rfl,k1⟩:=j4 r1
  unfold Rep at k1
  obtain⟨a,xs,rfl,hs,hr⟩:=k1
  exact⟨a,rfl,⟨xs,b1.now.fh.seq hs⟩,p1 _ _ _ .refl b1 _ (EX hs hr)⟩
 ·exact False.elim p1
def A6(x:Str):List D:=x.cps.toList.map λc=>.str ⟨#[c]⟩
def Ia(m:EM):IM:=λs=>(m s).bind λx=>match x.1 with
 | .str z=>.ok ((A6 z,none),x.2)
 | _=>.bad
def kj:List D->Option (List Int)
 | []=>some []
 | .int i::r=>(kj r).map (i:: ·)
 | _=>none
def ix:List D->Option (List Bool)
 | []=>some []
 | .bl i::r=>(ix r).map (i:: ·)
 | _=>none
theorem sI{K:PySem.W.Frag}{ca:Nat->Addr}{θ:List Addr}{F:Hp}:∀{ds:List D} {ns:List Int} {xs:List V},kj ds=some ns->aw K ca θ F ds xs->xs=ns.map V.int
 | [],ns,xs,e,r=>by cases e;unfold aw at r;rw[r];rfl
 | d::ds,ns,xs,e,r=>by
  cases d <;> first | (cases e;done) | skip
  rename_i i
  unfold kj at e
  cases e2:kj ds with
  | none=>rw[e2] at e;cases e
  | some ms=>
   rw[e2] at e
   cases e
   unfold aw at r
   obtain⟨v,w,rfl,h1,h2⟩:=r
   rw[sI e2 h2,aU.mp h1];rfl
theorem qw{K:PySem.W.Frag}{ca:Nat->Addr}{θ:List Addr}{F:Hp}:∀{ds:List D} {ns:List Bool} {xs:List V},ix ds=some ns->aw K ca θ F ds xs->xs=ns.map V.bl
 | [],ns,xs,e,r=>by cases e;unfold aw at r;rw[r];rfl
 | d::ds,ns,xs,e,r=>by
  cases d <;> first | (cases e;done) | skip
  rename_i i
  unfold ix at e
  cases e2:ix ds with
  | none=>rw[e2] at e;cases e
  | some ms=>
   rw[e2] at e
   cases e
   unfold aw at r
   obtain⟨v,w,rfl,h1,h2⟩:=r
   rw[qw e2 h2,cu.mp h1];rfl
def ofInts(f:List Int->D):OpN:=λO xs=>match xs with
 | [x]=>match lsD O x with
  | some ds=>match kj ds with
   | some ns=>.ok (f ns)
   | none=>.bad
  | none=>.bad
 | _=>.bad
def pX(f:List Bool->D):OpN:=λO xs=>match xs with
 | [x]=>match lsD O x with
  | some ds=>match ix ds with
   | some ns=>.ok (f ns)
   | none=>.bad
  | none=>.bad
 | _=>.bad
def tS:OpN:=ofInts λns=>.int ns.sum
def zM:OpN:=pX λbs=>.bl (bs.all id)
def zF:OpN:=pX λbs=>.bl (bs.any id)
theorem A0{f:List Int->D}{g:List Int->V}(h:∀K ca θ F ns,Rep K ca θ F (f ns) (g ns)):iG C (λxs H Q=>∃(p:Addr) (ns:List Int),xs=[.ref p]/\SqL C.K H p (ns.map V.int)/\Q (g ns) H) (ofInts f):=by
 intro σ H F θ s xs vs Q b r p
 unfold ofInts at p
 split at p
 ·obtain⟨v,rfl,r1⟩:=j4 r
  split at p
  ·rename_i ds e
   obtain⟨a,ys,rfl,hs,hr⟩:=fJ b r1 e
   split at p
   ·rename_i ns e2
    have:=sI e2 hr
    subst this
    exact⟨a,ns,rfl,hs,dr p b (h ..)⟩
   ·exact False.elim p
  ·exact False.elim p
 ·exact False.elim p
theorem sX{f:List Bool->D}{g:List Bool->V}(h:∀K ca θ F ns,Rep K ca θ F (f ns) (g ns)):iG C (λxs H Q=>∃(p:Addr) (ns:List Bool),xs=[.ref p]/\SqL C.K H p (ns.map V.bl)/\Q (g ns) H) (pX f):=by
 intro σ H F θ s xs vs Q b r p
 unfold pX at p
 split at p
 ·obtain⟨v,rfl,r1⟩:=j4 r
  split at p
  ·rename_i ds e
   obtain⟨a,ys,rfl,hs,hr⟩:=fJ b r1 e
   split at p
   ·rename_i ns e2
    have:=qw e2 hr
    subst this
    exact⟨a,ns,rfl,hs,dr p b (h ..)⟩
   ·exact False.elim p
  ·exact False.elim p
 ·exact False.elim p
theorem vA:iG C (λxs H Q=>∃(p:Addr) (ns:List Int),xs=[.ref p]/\SqL C.K H p (ns.map V.int)/\Q (.int ns.sum) H) tS:=A0 λ_ _ _ _ _=>aU.mpr rfl
theorem FY:iG C (λxs H Q=>∃(p:Addr) (bs:List Bool),xs=[.ref p]/\SqL C.K H p (bs.map V.bl)/\Q (.bl (bs.all id)) H) zM:=sX λ_ _ _ _ _=>cu.mpr rfl
theorem AL:iG C (λxs H Q=>∃(p:Addr) (bs:List Bool),xs=[.ref p]/\SqL C.K H p (bs.map V.bl)/\Q (.bl (bs.any id)) H) zF:=sX λ_ _ _ _ _=>cu.mpr rfl
def Gv:D->Bool
 | .non=>true
 | _=>false
def isD:Op2:=λ_ x y=>match x,y with
 | .bl a,.bl b=>.ok (.bl (a == b))
 | x,.non=>.ok (.bl (Gv x))
 | _,_=>.bad
def sG:Op2:=λ_ x y=>match y with
 | .non=>.ok (.bl (!Gv x))
 | _=>.bad
def Gk(f g:Op2)(a b c:EM):EM:=λs=>(a s).bind λx=>(b x.2).bind λy=>(f y.2.o x.1 y.1).bind λz=>match z with
 | .bl true=>(c y.2).bind λw=>(g w.2.o y.1 w.1).bind λd=>.ok (d,w.2)
 | .bl false=>.ok (.bl false,y.2)
 | _=>.bad
def orD:Op2:=intD λi j=>.ok (.int (Builtin.bitOr i j))
theorem AX:iD C (rI0 λi j=>.int (Builtin.bitOr i j)) orD:=oH λ_ _ _ _ _ _=>aU.mpr rfl
theorem aw.erase{K:PySem.W.Frag}{ca:Nat->Addr}{θ:List Addr}{F:Hp}:∀{ds:List D} {xs:List V} (i:Nat),aw K ca θ F ds xs->aw K ca θ F (ds.eraseIdx i) (xs.eraseIdx i)
 | [],_,_,k=>by unfold aw at k;rw[k];exact aw.nil
 | _::_,_,0,k=>by
  unfold aw at k
  obtain⟨v,r,rfl,h1,h2⟩:=k
  exact h2
 | _::_,_,i+1,k=>by
  unfold aw at k
  obtain⟨v,r,rfl,h1,h2⟩:=k
  exact aw.cons h1 (aw.erase i h2)
def bo(n:Nat)(f:FM)(ma:AM):EM:=λs=>(ma s).bind λx=>if x.1.length=n then (match f x.1 x.2.o with
 | .ok (d,O1)=>.ok (d,⟨x.2.r,O1⟩)
 | _=>.bad) else .bad
theorem cj{n:Nat}{f:FM}{ta:TA}{ma:AM}{E:XK}(ha:RdA C ta ma):RdE C (pL (spM C.K C.ca n f) [] E ta) (bo n f ma):=by
 intro σ H F θ s Q b p
 refine ha σ H F θ s _ b (PoR.bind p ?_)
 rintro ⟨x,s1⟩ H1 F1 θ1 _ st1 p1 b1 v r1
 dsimp only at p1 b1 r1 ⊢
 split at p1
 ·rename_i hp
  rw[List.append_nil]
  refine⟨F1,θ1,x,s1.o,b1.now,r1,hp, ?_⟩
  split at p1
  ·rename_i d O1 e
   rw[e]
   intro v H2 F2 θ2 st2 n2 rv
   exact p1 H2 F2 θ2 st2 ⟨n2,b1.len,λi d e=>by
    obtain⟨v,h1,h2⟩:=b1.sl i d e
    exact⟨v,h1,h2.mono st2.ff st2.pre⟩⟩ v rv
  ·exact False.elim p1
 ·exact False.elim p1
def zV(k:Int)(ds:List D):List D:=(List.replicate k.toNat ds).flatten
def vP(fin:S->List D->Res (D×S))(ma:AM)(mk:EM):EM:=λs=>(ma s).bind λx=>if x.1.length<=16777216 then (mk x.2).bind λy=>match y.1 with
 | .int k=>if (-(2^63)<=k/\k<2^63)/\x.1.length*k.toNat<=16777216 then fin y.2 (zV k x.1) else .bad
 | _=>.bad
 else .bad
def Im:S->List D->Res (D×S):=λs ds=>.ok (.lst ds,s)
def ou:S->List D->Res (D×S):=λs ds=>.ok (.ptr s.o.length,⟨s.r,s.o++[.lst ds]⟩)
theorem wI{K ca θ F}{ds:List D}{xs:List V}(r:aw K ca θ F ds xs):∀k:Nat,aw K ca θ F (List.replicate k ds).flatten (List.replicate k xs).flatten
 | 0=>aw.nil
 | k+1=>by
  rw[List.replicate_succ,List.replicate_succ,List.flatten_cons,List.flatten_cons]
  exact r.append (wI r k)
theorem Fo {fin:S->List D->Res (D×S)} {ta:TA} {tk:TE} {ma:AM} {mk:EM} (ha:RdA C ta ma) (hk:RdE C tk mk)
 (hf:∀σ H F θ s ds xs Q,BS C.K C.ca σ H F θ s->aw C.K C.ca θ F ds xs->PoE C σ H F θ (fin s ds) Q->∀q,H q=none->Q (.ref q) (upd H q (.lst xs))):RdE C (tOp Cg (xn ta) tk) (vP fin ma mk):=by
 intro σ H F θ s Q b p
 refine ha σ H F θ s _ b (PoR.bind p ?_)
 rintro ⟨x,s1⟩ H1 F1 θ1 _ st1 p1 b1 v r1
 dsimp only at p1
 split at p1
 ·rename_i hl
  refine⟨by rw[r1.length];exact hl,λq hq=> ?_⟩
  obtain⟨st,b2,sF,e⟩:=b1.newF hq (.lst v)
  refine hk σ _ _ _ s1 _ b2 (PoR.bind (PoR.after st p1) ?_)
  rintro ⟨y,s2⟩ H2 F2 θ2 _ st2 p2 b3 w r2
  dsimp only at p2 r2
  split at p2
  ·rename_i k _
   split at p2
   ·rename_i hk
    rw[aU.mp r2]
    refine⟨q,k,v,rfl,rfl,b3.now.fh _ _ (st2.ff _ _ e),hk.1.1,hk.1.2,by rw[r1.length];exact hk.2, ?_⟩
    exact hf σ H2 F2 θ2 s2 _ _ Q b3 (wI (((r1.mono sF ⟨[],by simp⟩).mono st2.ff st2.pre)) k.toNat) p2
   ·exact False.elim p2
  ·exact False.elim p2
 ·exact False.elim p1
theorem DX{ta:TA}{tk:TE}{ma:AM}{mk:EM}(ha:RdA C ta ma)(hk:RdE C tk mk):RdE C (tOp Cg (xn ta) tk) (vP ou ma mk):=Fo ha hk λσ H F θ s ds xs Q b r p=>tG p b r
def Ii(m:EM):TM:=λs=>(m s).bind λx=>match lsD x.2.o x.1 with
 | some ds=>.ok (!ds.isEmpty,x.2)
 | none=>.bad
end
end M
set_option maxRecDepth 100000
set_option maxHeartbeats 4000000
namespace M
open PySem PySem.Spec PyProof.Rows L2
section
variable {C : Ct}
theorem aw.places{K:PySem.W.Frag}{ca:Nat->Addr}{θ:List Addr}{F:Hp}{ds:List D}{xs:List V}(r:aw K ca θ F ds xs):∀js:List Nat,aw K ca θ F (js.filterMap (ds[·]?)) (js.filterMap (xs[·]?))
 | []=>aw.nil
 | j::js=>by
  have ih:=aw.places r js
  cases hn:ds[j]? with
  | some d=>
   obtain⟨v,hv,rv⟩:=r.get hn
   simp only[List.filterMap_cons,hn,hv]
   exact aw.cons rv ih
  | none=>
   have hv:xs[j]? =none:=by
    rw[List.getElem?_eq_none_iff] at hn ⊢
    rw[r.length];exact hn
   simp only[List.filterMap_cons,hn,hv]
   exact ih
end
end M
set_option maxRecDepth 100000
set_option maxHeartbeats 4000000
namespace M
open PySem PySem.Spec PyProof.Rows L2
section
variable {C : Ct}
end
end M
set_option maxRecDepth 100000
set_option maxHeartbeats 4000000
namespace M
open PySem PySem.Spec PyProof.Rows L2
section
variable {C : Ct}
end
end M
set_option maxRecDepth 100000
set_option maxHeartbeats 4000000
namespace M
open PySem PySem.Spec PyProof.Rows L2
section
variable {C : Ct}
theorem tF{K:PySem.W.Frag}{ca:Nat->Addr}{θ:List Addr}{F:Hp}:∀{zs:List Int} {xs:List V},aw K ca θ F (zs.map D.int) xs->xs=zs.map V.int
 | [],xs,h=>by unfold aw at h;exact h
 | z::zs,xs,h=>by
  rw[List.map_cons] at h
  unfold aw at h
  obtain⟨v,r,rfl,h1,h2⟩:=h
  rw[aU.mp h1,tF h2];rfl
end
end M
set_option maxRecDepth 100000
set_option maxHeartbeats 4000000
namespace M
open PySem PySem.Spec PyProof.Rows L2
section
variable {C : Ct}
end
end M
set_option maxRecDepth 100000
set_option maxHeartbeats 4000000
namespace M
open PySem PySem.Spec PyProof.Rows L2
section
variable {K : PySem.W.Frag} {ca : Nat → Addr} {θ : List Addr} {F G : Hp}
end
open Classical in
noncomputable def JB (F H:Hp)(θ:List Addr):Hp:=λa=>if a∈θ then (match H a with
 | some (.lst xs)=>some (.lst xs)
 | _=>F a) else F a
section
variable {C : Ct}
end
def clsAt(K:PySem.W.Frag)(x:Str):Addr:=match PySem.W.nsIn K mainGlobals x with
 | some (some (.ref C))=>C
 | _=>0
section
variable {C : Ct}
end
end M
set_option maxRecDepth 100000
set_option maxHeartbeats 4000000
namespace M
open PySem PySem.Spec PyProof.Rows L2
def Wok(C:Ct)(Es:L2.St->XK):Prop:=∀σ c a s1 H1 F1 θ1,C.W c a s1 H1 F1 θ1->BS C.K C.ca σ H1 F1 θ1 s1->Es σ (.ref (C.ca c)) none H1
theorem vc{K:PySem.W.Frag}{ca:Nat->Addr}{E:XK}:Wok ⟨K,ca,WE ca E⟩ λ_=>E:=λ_ _ _ _ _ _ _ h _=>h
section
variable {C : Ct} {Es : L2.St → XK}
def nJ(n:Nat)(f:FM)(ma:AM):EM:=λs=>(ma s).bind λx=>if aX x.1=true/\x.1.length=n then (match f x.1 [] with
 | .ok (d,_)=>if cx d=true then .ok (d,x.2) else .bad
 | .exc c a _=>.exc c a x.2
 | .bad=>.bad) else .bad
theorem vF{n:Nat}{f:FM}{ta:TA}{ma:AM}(hW:Wok C Es)(ha:RdA C ta ma):RdE C (z3 (spM C.K C.ca n f) [] Es ta) (nJ n f ma):=by
 intro σ H F θ s Q b p
 refine ha σ H F θ s _ b (PoR.bind p ?_)
 rintro ⟨x,s1⟩ H1 F1 θ1 _ st1 p1 b1 v r1
 dsimp only at p1 b1 r1 ⊢
 split at p1
 ·rename_i hp
  rw[List.append_nil]
  refine⟨F1,[],x,[],Now.nil b1.now.fh,r1.pure hp.1,hp.2, ?_⟩
  split at p1
  ·rename_i d O1 e
   try rw[e]
   intro v H2 F2 θ2 st2 n2 rv
   split at p1
   ·rename_i pd
    obtain⟨st3,b3⟩:=b1.called st2 n2
    exact p1 H2 F2 θ1 st3 b3 v (rv.pure pd)
   ·exact False.elim p1
  ·rename_i c a s2 e
   try rw[e]
   intro H2 F2 θ2 st2 n2
   obtain⟨st3,b3⟩:=b1.called st2 n2
   exact hW σ c a s1 H2 F2 θ1 (p1 H2 F2 θ1 st3 b3.now) b3
  ·exact False.elim p1
 ·exact False.elim p1
theorem CF{n:Nat}{f:FM}{ma:AM}{s s':S}{ds:List D}{d:D}{O:au}(h:ma s=.ok (ds,s'))(hp:aX ds=true)(hl:ds.length=n)(hf:f ds []=.ok (d,O))(hd:cx d=true):nJ n f ma s=.ok (d,s'):=by
 unfold nJ
 rw[h,ak]
 dsimp only
 rw[if_pos ⟨hp,hl⟩,hf]
 dsimp only
 rw[if_pos hd]
theorem ur{n:Nat}{f:FM}{ma:AM}{s s' s2:S}{ds:List D}{c:Nat}{a:D}(h:ma s=.ok (ds,s'))(hp:aX ds=true)(hl:ds.length=n)(hf:f ds []=.exc c a s2):nJ n f ma s=.exc c a s':=by
 unfold nJ
 rw[h,ak]
 dsimp only
 rw[if_pos ⟨hp,hl⟩,hf]
def lq(c:Nat)(ma:AM):SM:=λs=>(ma s).out λx=>if x.1.length<=16777216 then .exc c .non x.2 else .bad
theorem rq{c:Nat}{E:XK}{ta:TA}{ma:AM}(hW:Wok C λ_=>E)(ha:RdA C ta ma):RdS C (AA (C.ca c) E ta) (lq c ma):=by
 intro σ H F θ s Q b p
 refine ha σ H F θ s _ b (PoS.out p ?_)
 rintro ⟨x,s1⟩ H1 F1 θ1 _ st1 p1 b1 v r1
 dsimp only at p1 b1 r1
 split at p1
 ·rename_i hl
  exact⟨by rw[r1.length];exact hl,hW σ c _ s1 H1 F1 θ1 (p1 H1 F1 θ1 .refl b1.now) b1⟩
 ·exact False.elim p1
def xc(mb:SM)(hs:Nat->SM):SM:=λs=>match mb s with
 | .exc c _ s1=>hs c s1
 | o=>o
theorem Fi{tb:(L2.St->XK)->TS}{th:Addr->TS}{mb:SM}{hs:Nat->SM}(hb:∀(W:Wsh) (Es:L2.St->XK),Wok ⟨C.K,C.ca,W⟩ Es->RdS ⟨C.K,C.ca,W⟩ (tb Es) mb)(hh:∀c,RdS C (th (C.ca c)) (hs c)):RdS C (Gx tb th) (xc mb hs):=by
 intro σ H F θ s Q b p
 refine hb (λc _ s1 H1 F1 θ1=>∀σ',BS C.K C.ca σ' H1 F1 θ1 s1->th (C.ca c) Q σ' H1) _ (λσ' c a s1 H1 F1 θ1 h b1=>⟨C.ca c,rfl,rfl,h σ' b1⟩) σ H F θ s Q b ?_
 unfold xc at p
 cases e:mb s with
 | next s1=>rw[e] at p;exact p
 | ret d s1=>rw[e] at p;exact p
 | brk s1=>rw[e] at p;exact p
 | cnt s1=>rw[e] at p;exact p
 | bad=>rw[e] at p;exact p
 | exc c a s1=>
  rw[e] at p
  intro H1 F1 θ1 st n σ' b1
  exact hh c σ' H1 F1 θ1 s1 Q b1 (PoS.after st p)
def exM(sub:Nat->Option Bool)(mb mr:Nat->SM):Nat->SM:=λc=>match sub c with
 | some true=>mb c
 | some false=>mr c
 | none=>vU
def FC:Nat->SM:=λ_=>vU
theorem DR{th:Addr->TS}(c:Nat):RdS C (th (C.ca c)) (FC c):=λσ H F θ s Q b p=>False.elim p
theorem GX{sub:Nat->Option Bool}{Dc:Addr}{tb th:Addr->TS}{mb mr:Nat->SM}(hs:∀c b,sub c=some b->PySem.W.exmOne C.K (.ref (C.ca c)) (.ref Dc)=some b)(hb:∀c,RdS C (tb (C.ca c)) (mb c))(hr:∀c,RdS C (th (C.ca c)) (mr c))(c:Nat):
 RdS C (tEx (λA=>PySem.W.exmOne C.K (.ref A) (.ref Dc)) tb th (C.ca c)) (exM sub mb mr c):=by
 intro σ H F θ s Q b p
 unfold exM at p
 unfold tEx
 cases e:sub c with
 | none=>rw[e] at p;exact False.elim p
 | some q=>
  dsimp only
  rw[hs c _ e]
  rw[e] at p
  cases q with
  | true=>exact hb c σ H F θ s Q b p
  | false=>exact hr c σ H F θ s Q b p
theorem BS.unset{K:PySem.W.Frag}{ca:Nat->Addr}{σ:L2.St}{H F:Hp}{θ:List Addr}{s:S}(b:BS K ca σ H F θ s)(i:Nat):BS K ca (σ.set i none) H F θ ⟨s.r.set i none,s.o⟩:=by
 refine⟨b.now,by simp[b.len],λj e hj=> ?_⟩
 by_cases hji:i=j
 ·subst hji
  have hlt:i<s.r.length:=by
   have:=(List.getElem?_eq_some_iff.mp hj).1
   simpa using this
  rw[List.getElem?_set_self hlt] at hj
  cases hj
 ·rw[List.getElem?_set_ne hji] at hj
  obtain⟨u,h1,h2⟩:=b.sl j e hj
  exact⟨u,by rw[List.getElem?_set_ne hji];exact h1,h2⟩
def asM(i:Nat)(mb:SM):Nat->SM:=λc s=>match mb ⟨s.r.set i (some (.exn c)),s.o⟩ with
 | .next s1=>.next ⟨s1.r.set i none,s1.o⟩
 | .brk s1=>.brk ⟨s1.r.set i none,s1.o⟩
 | .cnt s1=>.cnt ⟨s1.r.set i none,s1.o⟩
 | .ret d s1=>.ret d s1
 | _=>.bad
theorem Hc{i:Nat}{tb:TS}{mb:SM}(hb:RdS C tb mb)(c:Nat):RdS C (tAs i tb (C.ca c)) (asM i mb c):=by
 intro σ H F θ s Q b p x hx
 obtain⟨st,b1,sF,fx⟩:=b.newF hx (exO x (C.ca c))
 have b2:=b1.set (d:=.exn c) (v:=.ref x) (by unfold Rep;exact⟨x,rfl,fx⟩) i
 refine hb _ _ _ θ _ _ b2 ?_
 unfold asM at p
 cases e:mb ⟨s.r.set i (some (.exn c)),s.o⟩ with
 | next s1=>rw[e] at p;exact λσ1 H1 F1 θ1 st1 b3=>p _ H1 F1 θ1 (st.trans st1) (b3.unset i)
 | brk s1=>rw[e] at p;exact λσ1 H1 F1 θ1 st1 b3=>p _ H1 F1 θ1 (st.trans st1) (b3.unset i)
 | cnt s1=>rw[e] at p;exact λσ1 H1 F1 θ1 st1 b3=>p _ H1 F1 θ1 (st.trans st1) (b3.unset i)
 | ret d s1=>rw[e] at p;exact λv σ1 H1 F1 θ1 st1 b3 rv=>p v σ1 H1 F1 θ1 (st.trans st1) b3 rv
 | exc c' a s1=>rw[e] at p;exact False.elim p
 | bad=>rw[e] at p;exact False.elim p
def lN(sub:Nat->Option Bool):Op1:=λ_ x=>match x with
 | .exn c=>match sub c with
  | some b=>.ok (.bl b)
  | none=>.bad
 | _=>.bad
theorem tO {sub:Nat->Option Bool} {te tc:TE} {m:EM} (h:RdE C te m) (P:Nat->Bool->Prop) (hs:∀c b,sub c=some b->P c b)
 (hc:∀(σ:L2.St) (H F:Hp) (θ:List Addr) (s:S) (Q:VK) (c:Nat) (b:Bool) (a:Addr),BS C.K C.ca σ H F θ s->F a=some (exO a (C.ca c))->P c b->PoE C σ H F θ (.ok (.bl b,s)) Q->tc σ H λy H2=>ub C.K [.ref a,y] H2 Q):
 RdE C (tCB (ub C.K) (fv te (fv tc kv))) (unM (lN sub) m):=by
 intro σ H F θ s Q b p
 unfold unM at p
 refine h σ H F θ s _ b (PoR.bind p ?_)
 rintro ⟨x,s1⟩ H1 F1 θ1 _ st1 p1 b1 v r1
 dsimp only at p1 b1 r1
 unfold lN at p1
 split at p1
 ·rename_i c _
  split at p1
  ·rename_i q e
   rw[ak] at p1
   obtain⟨a,rfl,hF⟩:∃a,v=.ref a/\F1 a=some (exO a (C.ca c)):=by unfold Rep at r1;exact r1
   exact hc σ H1 F1 θ1 s1 Q c q a b1 hF (hs c q e) p1
  ·exact False.elim p1
 ·exact False.elim p1
theorem FL{sub:Nat->Option Bool}{Dc:Addr}{te:TE}{m:EM}(hs:∀c b,sub c=some b->ExK C.K (C.ca c)/\PySem.W.kitOne C.K (.ref (C.ca c)) (.ref Dc)=some b)(h:RdE C te m):RdE C (tCB (ub C.K) (fv te (fv (tC (.ref Dc)) kv))) (unM (lN sub) m):=
 tO h (λc b=>ExK C.K (C.ca c)/\PySem.W.kitOne C.K (.ref (C.ca c)) (.ref Dc)=some b) hs λσ H F θ s Q c b a bs hF hP p=>⟨a,C.ca c,b,bs.now.fh _ _ hF,hP.1,p H F θ .refl bs (.bl b) (cu.mpr rfl),.inl ⟨Dc,rfl,hP.2⟩⟩
theorem Co{sub:Nat->Option Bool}{T:String}{te:TE}{m:EM}(hs:∀c b,sub c=some b->ExK C.K (C.ca c)/\PySem.W.kitOne C.K (.ref (C.ca c)) (.type T)=some b)(h:RdE C te m):RdE C (tCB (ub C.K) (fv te (fv (tC (.ty T)) kv))) (unM (lN sub) m):=
 tO h (λc b=>ExK C.K (C.ca c)/\PySem.W.kitOne C.K (.ref (C.ca c)) (.type T)=some b) hs λσ H F θ s Q c b a bs hF hP p=>⟨a,C.ca c,b,bs.now.fh _ _ hF,hP.1,p H F θ .refl bs (.bl b) (cu.mpr rfl),.inr (.inl ⟨T,rfl,hP.2⟩)⟩
def zz:List Addr->TA
 | []=>kv
 | D::Ds=>fv (tC (.ref D)) (zz Ds)
theorem yH:∀(Ds:List Addr) (σ:L2.St) (H:Hp) (Q:List V->Hp->Prop),Q (Ds.map V.ref) H->zz Ds σ H Q
 | [],_,_,_,q=>q
 | _::Ds,σ,H,Q,q=>yH Ds σ H _ q
theorem yG{sub:Nat->Option Bool}{Ds:List Addr}{te:TE}{m:EM}(hl:Ds.length<=1000)(hs:∀c b,sub c=some b->ExK C.K (C.ca c)/\PySem.W.kitAny C.K (.ref (C.ca c)) (Ds.map Value.ref)=some b)(h:RdE C te m):
 RdE C (tCB (ub C.K) (fv te (fv (BF (zz Ds)) kv))) (unM (lN sub) m):=
 tO h (λc b=>ExK C.K (C.ca c)/\PySem.W.kitAny C.K (.ref (C.ca c)) (Ds.map Value.ref)=some b) hs λσ H F θ s Q c b a bs hF hP p=>yH Ds σ H _ ⟨by rw[List.length_map];exact Nat.le_trans hl (by decide),λl hlf=>by
  obtain⟨st,b1,sF,_⟩:=bs.newF hlf (.tup (Ds.map V.ref))
  exact⟨a,C.ca c,b,b1.now.fh _ _ (sF _ _ hF),hP.1,p _ _ θ st b1 (.bl b) (cu.mpr rfl),.inr (.inr ⟨l,Ds,rfl,bY,hP.2⟩)⟩⟩
end
theorem aY{P:Program}{w:World}{X:Cx}:Passes (CXE P w) X E0:=λ_ _ _ _ _ _ _ ⟨_,_,_,_,_,_,_,_,_,z⟩=>z.elim
end M
set_option maxRecDepth 100000
set_option maxHeartbeats 4000000
namespace M
open PySem PySem.Spec PyProof.Rows L2
section
variable {C : Ct}
end
end M
set_option maxRecDepth 100000
set_option maxHeartbeats 4000000
namespace M
open PySem PySem.Spec PyProof.Rows L2
def pJ:D->Bool
 | .non=>true | .bl _=>true | .int _=>true | .str _=>true | .ptr _=>true | _=>false
def vx:Cell->Bool
 | .dead=>true
 | .lst ds=>ds.all pJ
 | _=>false
theorem wy{K:PySem.W.Frag}{ca:Nat->Addr}{F G:Hp}{θ θ1:List Addr}{d:D}{v:V}(h:pJ d=true)(r:Rep K ca θ1 F d v):Rep K ca (θ++θ1) G (shD θ.length d) v:=by
 cases d with
 | non=>unfold shD;unfold Rep at r ⊢;exact r
 | bl b=>unfold shD;unfold Rep at r ⊢;exact r
 | int i=>unfold shD;unfold Rep at r ⊢;exact r
 | str z=>unfold shD;unfold Rep at r ⊢;exact r
 | ptr k=>
  unfold shD
  unfold Rep at r ⊢
  obtain⟨a,e,hk⟩:=r
  exact⟨a,e,by rw[List.getElem?_append_right (Nat.le_add_right _ _),Nat.add_sub_cancel_left];exact hk⟩
 | lst ds=>cases h
 | tup ds=>cases h
 | obj c ns ds=>cases h
 | exn c=>cases h
theorem uj{K:PySem.W.Frag}{ca:Nat->Addr}{F G:Hp}{θ θ1:List Addr}:∀{ds:List D} {xs:List V},ds.all pJ=true->aw K ca θ1 F ds xs->aw K ca (θ++θ1) G (eT θ.length ds) xs
 | [],_,_,h=>by unfold eT;unfold aw at h ⊢;exact h
 | d::ds,_,hf,h=>by
  rw[List.all_cons,Bool.and_eq_true] at hf
  unfold eT
  unfold aw at h ⊢
  obtain⟨v,r,e,h1,h2⟩:=h
  exact⟨v,r,e,wy hf.1 h1,uj hf.2 h2⟩
section
variable {C : Ct}
def si(n:Nat)(f:FM)(ma:AM):EM:=λs=>(ma s).bind λx=>if aX (bF x.2.o (bF x.2.o x.1))=true/\x.1.length=n then (match f (bF x.2.o (bF x.2.o x.1)) [] with
 | .ok (d,O1)=>if pJ d=true/\O1.all vx=true then .ok (shD x.2.o.length d,⟨x.2.r,x.2.o++O1.map (shC x.2.o.length)⟩) else .bad
 | _=>.bad) else .bad
theorem BH{n:Nat}{f:FM}{ta:TA}{ma:AM}{E:XK}(ha:RdA C ta ma):RdE C (pL (spM C.K C.ca n f) [] E ta) (si n f ma):=by
 intro σ H F θ s Q b p
 refine ha σ H F θ s _ b (PoR.bind p ?_)
 rintro ⟨x,s1⟩ H1 F1 θ1 _ st1 p1 b1 v r1
 dsimp only at p1 b1 r1 ⊢
 split at p1
 ·rename_i hp
  rw[List.append_nil]
  have rr:aw C.K C.ca θ1 H1 (bF s1.o (bF s1.o x)) v:=iY b1.now b1.now.fh (bf.refl _) (iY b1.now (bf.refl _) b1.now.fh r1)
  refine⟨H1,[],bF s1.o (bF s1.o x),[],Now.nil (bf.refl _),rr.pure hp.1,by rw[iI,iI];exact hp.2, ?_⟩
  split at p1
  ·rename_i d O1 e
   rw[e]
   intro v H2 F2 θ2 st2 n2 rv
   split at p1
   ·rename_i sd
    have kp:∀a o,H1 a=some o->H2 a=some o:=λa o h=>st2.kp a o h (by simp)
    obtain⟨r,er,hr⟩:=st2.th
    rw[List.nil_append] at er
    subst er
    refine p1 H2 F1 (θ1++θ2) ⟨bf.refl _,⟨θ2,rfl,hr⟩,λa o h _=>kp a o h,st2.al,λa o h=>.inl h⟩ ⟨⟨λa o h=>kp a o (b1.now.fh a o h),List.nodup_append.mpr ⟨b1.now.nd,n2.nd,λa ha x hx=> ?_⟩,by simp[b1.now.ln,n2.ln],λk a c e1 e2=> ?_⟩,b1.len,λi d e=> ?_⟩ v ?_
    ·rintro rfl
     obtain⟨u,hu⟩:=b1.now.there ha
     rw[hr a hx] at hu
     cases hu
    ·by_cases hk:k<θ1.length
     ·rw[List.getElem?_append_left hk] at e1
      dsimp only at e2
      rw[List.getElem?_append_left (by rw[<- b1.now.ln];exact hk)] at e2
      have w:=b1.now.ce k a c e1 e2
      cases c with
      | dead=>obtain⟨o,ho⟩:=w;exact⟨o,kp a o ho⟩
      | lst ds=>obtain⟨q1,ys,q2,q3⟩:=w;exact⟨q1,ys,kp _ _ q2,q3.mono (bf.refl _) ⟨θ2,rfl⟩⟩
      | ins c ns ds=>obtain⟨q1,dx,ys,q2,q3,q4⟩:=w;exact⟨q1,dx,ys,kp _ _ q2,q3,q4.mono (bf.refl _) ⟨θ2,rfl⟩⟩
     ·rw[List.getElem?_append_right (by omega)] at e1
      dsimp only at e2
      rw[List.getElem?_append_right (by rw[<- b1.now.ln];omega),List.getElem?_map,<- b1.now.ln] at e2
      cases e3:O1[k-θ1.length]? with
      | none=>rw[e3] at e2;cases e2
      | some c'=>
       rw[e3] at e2
       cases e2
       have w:=n2.ce _ a c' e1 e3
       have fc:vx c'=true:=(List.all_eq_true.mp sd.2) c' (List.mem_of_getElem? e3)
       have hF1:F1 a=none:=by
        cases ea:F1 a with
        | none=>rfl
        | some o=>
         have h1:=b1.now.fh a o ea
         have h2:=hr a (List.mem_of_getElem? e1)
         rw[h2] at h1;cases h1
       cases c' with
       | dead=>exact w
       | lst ds=>obtain⟨q1,ys,q2,q3⟩:=w;exact⟨hF1,ys,q2,uj fc q3⟩
       | ins c ns ds=>cases fc
    ·obtain⟨v,h1,h2⟩:=b1.sl i d e
     exact⟨v,h1,h2.mono (bf.refl _) ⟨θ2,rfl⟩⟩
    ·rw[<- b1.now.ln]
     exact wy sd.1 rv
   ·exact False.elim p1
  ·exact False.elim p1
 ·exact False.elim p1
end
end M
set_option maxRecDepth 100000
set_option maxHeartbeats 4000000
namespace M
open PySem PySem.Spec PyProof.Rows L2
section
variable {C : Ct}
end
end M
set_option maxRecDepth 100000
set_option maxHeartbeats 4000000
namespace M
open PySem PySem.Spec PyProof.Rows L2
section
variable {C : Ct}
end
end M
set_option maxRecDepth 100000
set_option maxHeartbeats 1000000
namespace M
open PySem PySem.Spec PyProof.Rows L2
section
variable {C : Ct}
def lJ:List D->Option (List Int)
 | []=>some []
 | .int i::r=>match lJ r with
  | some l=>some (i::l)
  | none=>none
 | _=>none
theorem uH:∀{ds:List D} {ns:List Int},lJ ds=some ns->ds=ns.map D.int
 | [],ns,h=>by cases h;rfl
 | d::ds,ns,h=>by
  cases d <;> first | (simp[lJ] at h;done) | skip
  rename_i i
  unfold lJ at h
  split at h
  ·rename_i l e
   cases h
   rw[uH e];rfl
  ·cases h
theorem nC:∀ns:List Int,lJ (ns.map D.int)=some ns
 | []=>rfl
 | n::ns=>by
  rw[List.map_cons]
  unfold lJ
  rw[nC ns]
def lZ(O:au)(d:D):Option (List Int):=match lsD O d with
 | some ds=>lJ ds
 | none=>none
theorem ug{σ:L2.St}{H F:Hp}{θ:List Addr}{s:S}{d:D}{ns:List Int}{v:V}(b:BS C.K C.ca σ H F θ s)(r:Rep C.K C.ca θ F d v)(e:lZ s.o d=some ns):∃a,v=.ref a/\SqL C.K H a (ns.map V.int):=by
 unfold lZ at e
 split at e
 ·rename_i ds el
  obtain⟨a,xs,rfl,hs,hr⟩:=fJ b r el
  rw[uH e] at hr
  rw[tF hr] at hs
  exact⟨a,rfl,hs⟩
 ·cases e
def keyed(O:au):List D->Option (List (D×List Int))
 | []=>some []
 | d::ds=>match lZ O d,keyed O ds with
  | some ns,some r=>some ((d,ns)::r)
  | _,_=>none
theorem uB{σ:L2.St}{H F:Hp}{θ:List Addr}{s:S}(b:BS C.K C.ca σ H F θ s):∀{ds:List D} {kd:List (D×List Int)} {xs:List V},keyed s.o ds=some kd->aw C.K C.ca θ F ds xs->
 ∃l3:List ((Addr×D)×List Int),kd=l3.map (λx=>(x.1.2,x.2))/\xs=l3.map (λx=>V.ref x.1.1)/\∀x∈l3,SqL C.K H x.1.1 (x.2.map V.int)/\Rep C.K C.ca θ F x.1.2 (.ref x.1.1)
 | [],kd,xs,e,r=>by
  cases e
  unfold aw at r
  subst r
  exact⟨[],rfl,rfl,λx hx=>by cases hx⟩
 | d::ds,kd,xs,e,r=>by
  unfold keyed at e
  split at e
  ·rename_i ns k2 e1 e2
   cases e
   unfold aw at r
   obtain⟨v,xs',rfl,h1,h2⟩:=r
   obtain⟨a,rfl,hs⟩:=ug b h1 e1
   obtain⟨l3,q1,q2,q3⟩:=uB b e2 h2
   refine⟨((a,d),ns)::l3,by rw[q1];rfl,by rw[q2];rfl,λx hx=> ?_⟩
   rcases List.mem_cons.mp hx with rfl | hx
   ·exact⟨hs,h1⟩
   ·exact q3 x hx
  ·cases e
theorem yw{K:PySem.W.Frag}{ca:Nat->Addr}{θ:List Addr}{F:Hp}:∀{l3:List ((Addr×D)×List Int)},(∀x∈l3,Rep K ca θ F x.1.2 (.ref x.1.1))->aw K ca θ F (l3.map λx=>x.1.2) (l3.map λx=>V.ref x.1.1)
 | [],_=>aw.nil
 | x::l3,h=>aw.cons (h x List.mem_cons_self) (yw λy hy=>h y (List.mem_cons_of_mem _ hy))
def pT(fin:S->List D->Res (D×S))(me:EM):EM:=λs=>(me s).bind λx=>match lsD x.2.o x.1 with
 | some ds=>match keyed x.2.o ds with
  | some kd=>if kd.length<64/\(kd.map (·.2)).Nodup then fin x.2 ((de kd).map (·.1)) else .bad
  | none=>.bad
 | none=>.bad
theorem EO {fin:S->List D->Res (D×S)} {te:TE} {me:EM} (he:RdE C te me)
 (hf:∀σ H F θ s ds xs Q,BS C.K C.ca σ H F θ s->aw C.K C.ca θ F ds xs->PoE C σ H F θ (fin s ds) Q->∀q,H q=none->Q (.ref q) (upd H q (.lst xs))):RdE C (tCB (qU C.K) (fv te kv)) (pT fin me):=by
 intro σ H F θ s Q b p
 refine he σ H F θ s _ b (PoR.bind p ?_)
 rintro ⟨x,s1⟩ H1 F1 θ1 _ st1 p1 b1 v r1
 dsimp only at p1 b1 r1
 split at p1
 ·rename_i ds el
  split at p1
  ·rename_i kd ek
   split at p1
   ·rename_i hc
    obtain⟨a,xs,rfl,hs,hr⟩:=fJ b1 r1 el
    obtain⟨l3,rfl,rfl,q3⟩:=uB b1 ek hr
    have n1:∀l:List ((Addr×D)×List Int),de (l.map λx=>(x.1.1,x.2))=(de l).map λx=>(x.1.1,x.2):=ke λ_=>rfl
    have n2:∀l:List ((Addr×D)×List Int),de (l.map λx=>(x.1.2,x.2))=(de l).map λx=>(x.1.2,x.2):=ke λ_=>rfl
    refine⟨a,l3.map λx=>(x.1.1,x.2),rfl,by rw[List.map_map];exact hs,λy hy=> ?_,by have:=hc.1;rw[List.length_map] at this ⊢;exact this,by have:=hc.2;rw[List.map_map] at this ⊢;exact this, ?_⟩
    ·obtain⟨x,hx,rfl⟩:=List.mem_map.mp hy
     exact(q3 x hx).1
    ·rw[n2,List.map_map] at p1
     rw[n1,List.map_map]
     exact hf σ H1 F1 θ1 s1 _ _ Q b1 (yw λx hx=>(q3 x ((fH l3).mem_iff.mp hx)).2) p1
   ·exact False.elim p1
  ·exact False.elim p1
 ·exact False.elim p1
theorem CW{te:TE}{me:EM}(he:RdE C te me):RdE C (tCB (qU C.K) (fv te kv)) (pT ou me):=EO he λσ H F θ s ds xs Q b r p=>tG p b r
def mn(n:Int)(ns:List Int):Int:=ns.foldl (λa b=>if b<a then b else a) n
theorem tX:∀(ns:List Int) (n:Int),mn n ns<=n/\∀x∈ns,mn n ns<=x
 | [],n=>⟨Int.le_refl _,λx hx=>by cases hx⟩
 | b::ns,n=>by
  obtain⟨h1,h2⟩:=tX ns (if b<n then b else n)
  have e:mn n (b::ns)=mn (if b<n then b else n) ns:=rfl
  rw[e]
  have le:(if b<n then b else n)<=n/\(if b<n then b else n)<=b:=by split <;> omega
  generalize (if b<n then b else n)=c at h1 h2 le
  refine⟨Int.le_trans h1 le.1,λx hx=> ?_⟩
  rcases List.mem_cons.mp hx with rfl | hx
  ·exact Int.le_trans h1 le.2
  ·exact h2 x hx
theorem rV:∀(ns:List Int) (n:Int),mn n ns∈n::ns
 | [],n=>List.mem_cons_self
 | b::ns,n=>by
  have h:=rV ns (if b<n then b else n)
  have e:mn n (b::ns)=mn (if b<n then b else n) ns:=rfl
  rw[e]
  rcases List.mem_cons.mp h with h | h
  ·rw[h]
   split
   ·exact List.mem_cons_of_mem _ List.mem_cons_self
   ·exact List.mem_cons_self
  ·exact List.mem_cons_of_mem _ (List.mem_cons_of_mem _ h)
def sO(me md:EM):EM:=λs=>(me s).bind λx=>(md x.2).bind λy=>match lZ y.2.o x.1 with
 | some (n::ns)=>.ok (.int (mn n ns),y.2)
 | _=>.bad
theorem DT{te td:TE}{me md:EM}(he:RdE C te me)(hd:RdE C td md):RdE C (DF C.K te td) (sO me md):=by
 intro σ H F θ s Q b p
 refine he σ H F θ s _ b (PoR.bind p ?_)
 rintro ⟨x,s1⟩ H1 F1 θ1 _ st1 p1 b1 v r1
 refine hd σ H1 F1 θ1 s1 _ b1 (PoR.bind p1 ?_)
 rintro ⟨y,s2⟩ H2 F2 θ2 _ st2 p2 b2 w r2
 dsimp only at p2 b2 r1
 split at p2
 ·rename_i n ns e
  obtain⟨a,rfl,hs⟩:=ug b2 (r1.mono st2.ff st2.pre) e
  refine⟨a,n::ns,rfl,hs,by simp,λm hm hl=> ?_⟩
  have e1:m=mn n ns:=by
   have h1:=hl _ (rV ns n)
   have h2:=tX ns n
   rcases List.mem_cons.mp hm with rfl | hm
   ·omega
   ·have:=h2.2 m hm;omega
  rw[e1]
  exact p2 _ _ _ .refl b2 _ (aU.mpr rfl)
 ·exact False.elim p2
end
end M
set_option maxRecDepth 100000
set_option maxHeartbeats 4000000
namespace M
open PySem PySem.Spec PyProof.Rows L2
section
variable {C : Ct}
end
end M
set_option maxRecDepth 100000
set_option maxHeartbeats 4000000
namespace M
open PySem PySem.Spec PyProof.Rows L2
section
variable {C : Ct}
abbrev IX:=S->Res ((List D×(au->Prop))×S)
def CH(C:Ct)(wi:TI)(im:IX):Prop:=∀σ H F θ s R,BS C.K C.ca σ H F θ s->
 PoR C H F θ (im s) (λy H1 F1 θ1=>BS C.K C.ca σ H1 F1 θ1 y.2->∀J,rh C J y.1.1 y.1.2 H1 F1 θ1->R J H1)->wi σ H R
theorem lsN{H F H2 F2:Hp}{θ θ2:List Addr}{O2:au}{x:D}{ds:List D}{v:V}(st:Stp H F θ H2 F2 θ2)(n:Now C.K C.ca H2 F2 θ2 O2)(r:Rep C.K C.ca θ F x v)(e:lsD O2 x=some ds):∃a xs,v=.ref a/\SqL C.K H2 a xs/\aw C.K C.ca θ2 F2 ds xs:=by
 replace r:=r.mono st.ff st.pre
 cases x <;> first | (simp[lsD] at e;done) | skip
 ·cases e
  unfold Rep at r
  obtain⟨a,xs,rfl,hs,hr⟩:=r
  exact⟨a,xs,rfl,n.fh.seq hs,hr⟩
 ·rename_i k
  unfold Rep at r
  obtain⟨a,rfl,hk⟩:=r
  unfold lsD at e
  dsimp only at e
  split at e
  ·rename_i ds' ek
   cases e
   obtain⟨_,xs,h1,h2⟩:jC C.K C.ca H2 F2 θ2 a (.lst ds):=n.ce k a _ hk ek
   exact⟨a,xs,rfl,SqL.of h1,h2⟩
  ·cases e
def vX(m:AM):IX:=λs=>(m s).bind λx=>match x.1 with
 | [a,b]=>match lsD x.2.o a,lsD x.2.o b with
  | some as,some bs=>.ok ((iV as bs,λO=>lsD O a=some as/\lsD O b=some bs),x.2)
  | _,_=>.bad
 | _=>.bad
theorem ED{a b:Addr}{x y:D}{as bs:List D}{H F:Hp}{θ:List Addr}(r1:Rep C.K C.ca θ F x (.ref a))(r2:Rep C.K C.ca θ F y (.ref b)):
 rh C (Itz C.K a b) (iV as bs) (λO=>lsD O x=some as/\lsD O y=some bs) H F θ where
 go:=λi H2 F2 θ2 O2 hi st n ok=>by
  obtain⟨_,_,e1,e2,_⟩:=nZ (List.getElem?_eq_getElem hi)
  obtain⟨_,xs,q,h1,k1⟩:=lsN st n r1 ok.1
  cases q
  obtain⟨_,ys,q,h2,k2⟩:=lsN st n r2 ok.2
  cases q
  obtain⟨v,q1,_⟩:=k1.get e1
  obtain⟨w,q2,_⟩:=k2.get e2
  exact⟨xs,ys,v,w,h1,h2,q1,q2⟩
 yl:=λi d σ H2 F2 θ2 s2 z H3 hd st b ok hy=>by
  obtain⟨T,v,w,hT,rfl,rfl,hv,hw⟩:=hy
  obtain⟨_,_,e1,e2,rfl⟩:=nZ hd
  obtain⟨_,xs,q,h1,k1⟩:=lsN st b.now r1 ok.1
  cases q
  obtain⟨_,ys,q,h2,k2⟩:=lsN st b.now r2 ok.2
  cases q
  obtain⟨v',q1,k1⟩:=k1.get e1
  obtain⟨w',q2,k2⟩:=k2.get e2
  have:=hv xs h1
  rw[q1] at this
  cases this
  have:=hw ys h2
  rw[q2] at this
  cases this
  obtain⟨st3,b3,sF,e3⟩:=b.newF hT (.tup [v,w])
  refine⟨_,st3,b3, ?_⟩
  unfold Rep
  exact⟨T,[v,w],rfl,SqT.of e3,aw.cons (k1.mono st3.ff st3.pre) (aw.one (k2.mono st3.ff st3.pre))⟩
 st:=λi H2 F2 θ2 O2 hi st n ok=>by
  obtain⟨_,xs,q,h1,k1⟩:=lsN st n r1 ok.1
  cases q
  obtain⟨_,ys,q,h2,k2⟩:=lsN st n r2 ok.2
  cases q
  refine⟨xs,ys,h1,h2, ?_⟩
  unfold iV at hi
  rw[List.length_zipWith] at hi
  rw[k1.length,k2.length]
  omega
theorem DU{ta:TA}{m:AM}(h:RdA C ta m):CH C (Cu C.K ta) (vX m):=by
 intro σ H F θ s R b p
 refine h σ H F θ s _ b (PoR.bind p ?_)
 rintro ⟨x,s1⟩ H1 F1 θ1 _ st1 p1 b1 v r1
 dsimp only at p1 b1 r1
 split at p1
 ·rename_i x y
  split at p1
  ·rename_i as bs e1 e2
   obtain⟨v1,v2,rfl,k1,k2⟩:=DB r1
   obtain⟨a,xs,rfl,hs,hr⟩:=fJ b1 k1 e1
   obtain⟨b',ys,rfl,hs',hr'⟩:=fJ b1 k2 e2
   exact⟨a,b',rfl,⟨xs,hs⟩,⟨ys,hs'⟩,p1 _ _ _ .refl b1 _ (ED k1 k2)⟩
  ·exact False.elim p1
 ·exact False.elim p1
noncomputable def tx (m:Nat)(caps:List Nat)(im:IX)(g:GM)(c:TM)(e:EM):S->Res (List D×S):=λs=>(im s).bind λy=>
 (cE y.1.2 g c e y.1.1 [] ⟨jo m caps y.2.r,y.2.o⟩).bind λz=>.ok (z.1,⟨y.2.r,z.2.o⟩)
theorem Bg {m:Nat} {caps:List Nat} {wi:TI} {g:TG} {tc:TT} {te:TE} {im:IX} {gm:GM} {c:TM} {e:EM} (hi:CH C wi im) (hg:RdG C g gm) (hc:RdT C tc c) (he:RdE C te e)
 {σ:L2.St} {H F:Hp} {θ:List Addr} {s:S} {Q:VK} (b:BS C.K C.ca σ H F θ s)
 (p:PoR C H F θ (tx m caps im gm c e s) λy H1 F1 θ1=>BS C.K C.ca σ H1 F1 θ1 y.2->∀q xs,H q=none->H1 q=some (.lst xs)->F1 q=none->q∉θ1->aw C.K C.ca θ1 F1 y.1 xs->Q (.ref q) H1):nS m caps wi g tc te σ H Q:=by
 refine hi σ H F θ s _ b (PoR.bind p ?_)
 rintro ⟨⟨ds,k⟩,s1⟩ H1 F1 θ1 _ st1 p1 b1 J it q hq
 dsimp only at p1 b1 it
 have st2:Stp H1 F1 θ1 (upd H1 q (.lst [])) F1 θ1:=by
  have nm:∀a u,H1 a=some u->a≠q:=λa u e z=>by rw[z,hq] at e;cases e
  exact⟨bf.refl _,⟨[],by simp,by simp⟩,λa u h _=>by rw[aI (nm a u h)];exact h,λa u h=>⟨u,by rw[aI (nm a u h)];exact h⟩,λa u h=>.inl h⟩
 have qθ:q∉θ1:=λh=>by obtain⟨u,hu⟩:=b1.now.there h;rw[hq] at hu;cases hu
 have qF:F1 q=none:=by
  cases e:F1 q with
  | none=>rfl
  | some u=>rw[b1.now.fh q u e] at hq;cases hq
 have hqH:H q=none:=by
  cases e:H q with
  | none=>rfl
  | some u=>obtain⟨u',e'⟩:=st1.al q u e;rw[hq] at e';cases e'
 have keep:∀{H2 F2 H3 F3:Hp} {θ2 θ3:List Addr} {o:HO},Stp H2 F2 θ2 H3 F3 θ3->H2 q=some o->F2 q=none->q∉θ2->H3 q=some o/\F3 q=none/\q∉θ3:=λ{H2 F2 H3 F3 θ2 θ3 o} st h1 h2 h3=>by
  refine⟨st.kp q o h1 h3, ?_, ?_⟩
  ·cases e:F3 q with
   | none=>rfl
   | some u=>
    rcases st.nf q u e with z | z | z
    ·rw[h2] at z;cases z
    ·rw[h1] at z;cases z
    ·exact absurd z h3
  ·obtain⟨r,rfl,hr⟩:=st.th
   intro hm
   rcases List.mem_append.mp hm with z | z
   ·exact h3 z
   ·rw[hr q z] at h1;cases h1
 have bs2:∀{σ':L2.St} {H2 F2:Hp} {θ2:List Addr} {s2:S} (o:HO),BS C.K C.ca σ' H2 F2 θ2 s2->F2 q=none->q∉θ2->BS C.K C.ca σ' (upd H2 q o) F2 θ2 s2:=λ{σ' H2 F2 θ2 s2} o b h1 h2=>by
  have ne:∀a,a∈θ2->a≠q:=λa h z=>h2 (z▸h)
  refine⟨⟨λa u h=> ?_,b.now.nd,b.now.ln,λj a c e1 e2=> ?_⟩,b.len,b.sl⟩
  ·have:a≠q:=λz=>by rw[z,h1] at h;cases h
   rw[aI this];exact b.now.fh a u h
  ·have hm:=ne a (List.mem_of_getElem? e1)
   have w:=b.now.ce j a c e1 e2
   cases c with
   | dead=>obtain⟨u,hu⟩:=w;exact⟨u,by rw[aI hm];exact hu⟩
   | lst ds=>obtain⟨q1,ys,q2,q3⟩:=w;exact⟨q1,ys,by rw[aI hm];exact q2,q3⟩
   | ins c ns ds=>obtain⟨q1,dx,ys,q2,q3,q4⟩:=w;exact⟨q1,dx,ys,by rw[aI hm];exact q2,q3,q4⟩
 have stq:∀{H2 F2:Hp} {θ2:List Addr} (o:HO),Stp H1 F1 θ1 H2 F2 θ2->Stp H1 F1 θ1 (upd H2 q o) F2 θ2:=λ{H2 F2 θ2} o st=>by
  have nm:∀a u,H1 a=some u->a≠q:=λa u e z=>by rw[z,hq] at e;cases e
  exact⟨st.ff,st.th,λa u h1 h2=>by rw[aI (nm a u h1)];exact st.kp a u h1 h2,λa u h1=>by rw[aI (nm a u h1)];exact st.al a u h1,st.nf⟩
 refine⟨λi n acc σ' H'=>n=ds.length-i/\i<=ds.length/\∃F' θ' s' as,Stp H1 F1 θ1 H' F' θ'/\H' q=some (.lst acc)/\F' q=none/\q∉θ'/\BS C.K C.ca σ' H' F' θ' s'/\aw C.K C.ca θ' F' as acc/\
  PoR C H1 F1 θ1 ((cE (k) gm c e (ds.drop i) as s').bind λz=>.ok (z.1,(⟨s1.r,z.2.o⟩:S))) (λy H1 F1 θ1=>BS C.K C.ca σ H1 F1 θ1 y.2->∀q xs,H q=none->H1 q=some (.lst xs)->F1 q=none->q∉θ1->aw C.K C.ca θ1 F1 y.1 xs->Q (.ref q) H1),
  ⟨ds.length,by simp,Nat.zero_le _,F1,θ1,⟨jo m caps s1.r,s1.o⟩,[],st2,bY,qF,qθ,bs2 _ (Av b1 m caps) qF qθ,aw.nil,by simpa using p1⟩, ?_⟩
 rintro i n acc σ' H' ⟨rfl,hil,F',θ',s',as,st,hq',qF',qθ',bs,hacc,po⟩
 by_cases lt:i<ds.length
 ·right
  rw[List.drop_eq_getElem_cons lt,cE] at po
  split at po
  ·rename_i hok
   refine⟨it.go i H' F' θ' s'.o lt st bs.now hok.1, ?_⟩
   intro x H3 hy
   obtain⟨F3,st3,b3,rp⟩:=it.yl i ds[i] σ' H' F' θ' s' x H3 (List.getElem?_eq_getElem lt) st bs hok.1 hy
   obtain⟨k1,k2,k3⟩:=keep st3 hq' qF' qθ'
   have st13:=st.trans st3
   have po3:=PoR.after st13 po
   have w1:PoG C H3 F3 θ' (gm ds[i] s') (λσ4 H4=>tc σ4 H4 λb H4=>if b=true then
    te σ4 H4 λy H5=>H5 q=some (.lst acc)/\acc.length<sizeLine/\∃k',k'<ds.length-i/\(k'=ds.length-(i+1)/\i+1<=ds.length/\∃F' θ' s' as,Stp H1 F1 θ1 (upd H5 q (.lst (acc++[y]))) F' θ'/\(upd H5 q (.lst (acc++[y]))) q=some (.lst (acc++[y]))/\F' q=none/\q∉θ'/\BS C.K C.ca σ4 (upd H5 q (.lst (acc++[y]))) F' θ' s'/\aw C.K C.ca θ' F' as (acc++[y])/\
     PoR C H1 F1 θ1 ((cE (k) gm c e (ds.drop (i+1)) as s').bind λz=>.ok (z.1,(⟨s1.r,z.2.o⟩:S))) (λy H1 F1 θ1=>BS C.K C.ca σ H1 F1 θ1 y.2->∀q xs,H q=none->H1 q=some (.lst xs)->F1 q=none->q∉θ1->aw C.K C.ca θ1 F1 y.1 xs->Q (.ref q) H1))
    else ∃k',k'<ds.length-i/\(k'=ds.length-(i+1)/\i+1<=ds.length/\∃F' θ' s' as,Stp H1 F1 θ1 H4 F' θ'/\H4 q=some (.lst acc)/\F' q=none/\q∉θ'/\BS C.K C.ca σ4 H4 F' θ' s'/\aw C.K C.ca θ' F' as acc/\
     PoR C H1 F1 θ1 ((cE (k) gm c e (ds.drop (i+1)) as s').bind λz=>.ok (z.1,(⟨s1.r,z.2.o⟩:S))) (λy H1 F1 θ1=>BS C.K C.ca σ H1 F1 θ1 y.2->∀q xs,H q=none->H1 q=some (.lst xs)->F1 q=none->q∉θ1->aw C.K C.ca θ1 F1 y.1 xs->Q (.ref q) H1))):=by
    cases e1:gm ds[i] s' with
    | bad=>rw[e1] at po3;exact po3
    | exc a1 a2 a3=>rw[e1] at po3;exact po3
    | ok s4=>
     rw[e1] at po
     intro H4 F4 θ4 st4 σ4 b4
     obtain⟨l1,l2,l3⟩:=keep st4 k1 k2 k3
     refine hc σ4 H4 F4 θ4 s4 _ b4 ?_
     cases e2:c s4 with
     | bad=>rw[ak,e2] at po;exact po
     | exc a1 a2 a3=>rw[ak,e2] at po;exact PoR.after (st13.trans st4) po
     | ok x5=>
      obtain⟨kk,s5⟩:=x5
      rw[ak,e2,ak] at po
      intro H5 F5 θ5 st5 b5
      obtain⟨m1,m2,m3⟩:=keep st5 l1 l2 l3
      have hacc5:=((hacc.mono st3.ff st3.pre).mono st4.ff st4.pre).mono st5.ff st5.pre
      cases kk with
      | false=>
       exact rE ⟨ds.length-(i+1),by omega,rfl,by omega,F5,θ5,s5,as,st13.trans (st4.trans st5),m1,m2,m3,b5,hacc5,by simpa using po⟩
      | true=>
       refine qP (he σ4 H5 F5 θ5 s5 _ b5 ?_)
       dsimp only[if_true] at po
       cases e3:e s5 with
       | bad=>rw[e3] at po;exact po
       | exc a1 a2 a3=>rw[e3] at po;exact PoR.after (st13.trans (st4.trans st5)) po
       | ok x6=>
        obtain⟨y,s6⟩:=x6
        rw[e3,ak] at po
        intro H6 F6 θ6 st6 b6 w r6
        obtain⟨n1,n2,n3⟩:=keep st6 m1 m2 m3
        exact⟨n1,by rw[hacc.length];exact hok.2,ds.length-(i+1),by omega,rfl,by omega,F6,θ6,s6,as++[y],stq _ (st13.trans (st4.trans (st5.trans st6))),bY,n2,n3,bs2 _ b6 n2 n3,(hacc5.mono st6.ff st6.pre).append (aw.one r6),po⟩
   exact hg σ' H3 F3 θ' s' ds[i] x _ b3 rp w1
  ·exact False.elim po
 ·left
  rw[List.drop_eq_nil_of_le (by omega),cE] at po
  split at po
  ·rename_i hok
   refine⟨it.st i H' F' θ' s'.o (by omega) st bs.now hok,hq', ?_⟩
   refine po H' F' θ' st ⟨bs.now,b1.len,λj d e=> ?_⟩ q acc hqH hq' qF' qθ' hacc
   obtain⟨v,h1,h2⟩:=b1.sl j d e
   exact⟨v,h1,h2.mono st.ff st.pre⟩
  ·exact False.elim po
noncomputable def pe (m:Nat)(caps:List Nat)(im:IX)(g:GM)(c:TM)(e:EM):EM:=λs=>(tx m caps im g c e s).bind λy=>.ok (.lst y.1,y.2)
theorem AV{m:Nat}{caps:List Nat}{wi:TI}{g:TG}{tc:TT}{te:TE}{im:IX}{gm:GM}{c:TM}{e:EM}(hi:CH C wi im)(hg:RdG C g gm)(hc:RdT C tc c)(he:RdE C te e):RdE C (nS m caps wi g tc te) (pe m caps im gm c e):=by
 intro σ H F θ s Q b p
 refine Bg hi hg hc he b ?_
 unfold pe at p
 cases e1:tx m caps im gm c e s with
 | bad=>rw[e1] at p;exact p
 | exc a1 a2 a3=>rw[e1] at p;exact p
 | ok y=>
  rw[e1,ak] at p
  intro H1 F1 θ1 st1 b1 q xs h0 h1 h2 h3 hr
  have sF:bf F1 (upd F1 q (.lst xs)):=λa u h=>by
   rw[aI (λz=>by rw[z,h2] at h;cases h)];exact h
  refine p H1 (upd F1 q (.lst xs)) θ1 ⟨st1.ff.trans sF,st1.th,st1.kp,st1.al,λa u h=> ?_⟩ ⟨⟨λa u h=> ?_,b1.now.nd,b1.now.ln,λj a c e2 e3=> ?_⟩,b1.len,λi d e2=> ?_⟩ (.ref q) ?_
  ·by_cases z:a=q
   ·subst z;exact .inr (.inl h0)
   ·rw[aI z] at h;exact st1.nf a u h
  ·by_cases z:a=q
   ·subst z;rw[bY] at h;rw[h1];exact h
   ·rw[aI z] at h;exact b1.now.fh a u h
  ·have ne:a≠q:=λz=>h3 (z▸List.mem_of_getElem? e2)
   have w:=b1.now.ce j a c e2 e3
   cases c with
   | dead=>exact w
   | lst ds=>obtain⟨q1,ys,q2,q3⟩:=w;exact⟨by rw[aI ne];exact q1,ys,q2,q3.mono sF ⟨[],by simp⟩⟩
   | ins c ns ds=>obtain⟨q1,dx,ys,q2,q3,q4⟩:=w;exact⟨by rw[aI ne];exact q1,dx,ys,q2,q3,q4.mono sF ⟨[],by simp⟩⟩
  ·obtain⟨v,w1,w2⟩:=b1.sl i d e2
   exact⟨v,w1,w2.mono sF ⟨[],by simp⟩⟩
  ·unfold Rep
   exact⟨q,xs,rfl,SqL.of bY,hr.mono sF ⟨[],by simp⟩⟩
end
end M
set_option maxRecDepth 100000
set_option maxHeartbeats 1000000
namespace M
open PySem PySem.Spec PyProof.Rows L2
section
variable {C : Ct}
end
end M
set_option maxRecDepth 100000
set_option maxHeartbeats 4000000
namespace M
open PySem PySem.Spec PyProof.Rows L2
@[simp] theorem HN (ds:List D) (O:au):okC ds none O=True:=rfl
@[simp] theorem Ir (ds:List D) (k:Nat) (O:au):okC ds (some k) O=(O[k]? =some (.lst ds)):=rfl
theorem yJ{n:Nat}{i:Int}(h:i.natAbs<2^n):Builtin.Int.intBits i<=n:=by
 unfold Builtin.Int.intBits
 split
 ·exact Nat.zero_le _
 ·rename_i h0
  have hp:i.natAbs≠0:=by
   intro z
   apply h0
   simpa using z
  have:=(Nat.log2_lt hp).mpr h
  omega
def Sz(n:Nat)(i:Int):Prop:=i.natAbs<2^n
theorem Sz.mono{m n:Nat}{i:Int}(h:Sz m i)(hmn:m<=n):Sz n i:=Nat.lt_of_lt_of_le h (Nat.pow_le_pow_right (by decide) hmn)
theorem gK{m n:Nat}(hm:m<=60000000)(hn:n<=60000000){i j:Int}(h:Sz m i)(h':Sz n j):IntMulOk i j:=by
 have h1:=yJ h
 have h2:=yJ h'
 have e:Builtin.Int.intTooBig (Builtin.Int.intBits i+Builtin.Int.intBits j)=false:=by
  unfold Builtin.Int.intTooBig
  rw[bitsLine_eq]
  exact decide_eq_false (by omega)
 unfold IntMulOk
 rw[e]
 simp
theorem eh{i j:Int}(h:i.natAbs<2^64\/j.natAbs<2^64):IntMulOk i j:=by
 rcases h with h | h
 ·exact .of_left (intBits_le_64 (by omega) (by omega))
 ·exact .of_right (intBits_le_64 (by omega) (by omega))
theorem Sz.mul{m n:Nat}{i j:Int}(h:Sz m i)(h':Sz n j):Sz (m+n) (i*j):=by
 unfold Sz at *
 rw[Int.natAbs_mul,Nat.pow_add]
 exact Nat.mul_lt_mul'' h h'
theorem Sz.add{m n:Nat}{i j:Int}(h:Sz m i)(h':Sz n j):Sz (max m n+1) (i+j):=by
 unfold Sz at *
 have h1:=Nat.lt_of_lt_of_le h (Nat.pow_le_pow_right (by decide) (Nat.le_max_left m n))
 have h2:=Nat.lt_of_lt_of_le h' (Nat.pow_le_pow_right (by decide) (Nat.le_max_right m n))
 have h3:(i+j).natAbs<=i.natAbs+j.natAbs:=Int.natAbs_add_le i j
 rw[Nat.pow_succ]
 omega
theorem nB{i j:Int}(h:0<j):i.fdiv j=i/j:=Int.fdiv_eq_ediv_of_nonneg i (Int.le_of_lt h)
theorem Cm{i j:Int}(h:0<j):i.fmod j=i%j:=Int.fmod_eq_emod_of_nonneg i (Int.le_of_lt h)
section
variable {O : au}
@[simp] theorem rN (i j:Int):jU O (.int i) (.int j)=.ok (.int (i-j)):=rfl
@[simp] theorem i6 (i j:Int):bK O (.int i) (.int j)=.ok (.int (i+j)):=rfl
@[simp] theorem Il (i j:Int):Ij O (.int i) (.int j)=.ok (.int (i+j)):=rfl
@[simp] theorem jD (i j:Int):ltD O (.int i) (.int j)=.ok (.bl (decide (i<j))):=rfl
@[simp] theorem Jc (i j:Int):leD O (.int i) (.int j)=.ok (.bl (decide (i<=j))):=rfl
@[simp] theorem yN (i j:Int):gtD O (.int i) (.int j)=.ok (.bl (decide (j<i))):=rfl
@[simp] theorem DL (i j:Int):geD O (.int i) (.int j)=.ok (.bl (decide (j<=i))):=rfl
@[simp] theorem rD (i:Int):lu O (.int i)=.ok (.int (-i)):=rfl
@[simp] theorem kS (i j:Int):eqD O (.int i) (.int j)=.ok (.bl (decide (i=j))):=rfl
@[simp] theorem pR (i j:Int):neD O (.int i) (.int j)=.ok (.bl (!decide (i=j))):=rfl
@[simp] theorem IG (i j:Str):eqD O (.str i) (.str j)=.ok (.bl (decide (i=j))):=rfl
@[simp] theorem IA (i j:Str):neD O (.str i) (.str j)=.ok (.bl (!decide (i=j))):=rfl
@[simp] theorem Jk (i j:Bool):eqD O (.bl i) (.bl j)=.ok (.bl (decide (i=j))):=rfl
@[simp] theorem Jq (i j:Bool):neD O (.bl i) (.bl j)=.ok (.bl (!decide (i=j))):=rfl
theorem bU{i j:Int}(h:IntMulOk i j):bJ O (.int i) (.int j)=.ok (.int (i*j)):=if_pos h
theorem ja{i j:Int}(h:j≠0):fS O (.int i) (.int j)=.ok (.int (i.fdiv j)):=if_pos h
theorem qz{i:Int}{j:Int}(h:0<j)(h2:j<1073741824):fS O (.int i) (.int j)=.ok (.int (i/j)):=by
 rw[ja (by omega),nB h]
theorem gz{i j:Int}(h:0<j):gg O (.int i) (.int j)=.ok (.int (i%j)):=by
 rw[<- Cm h];exact if_pos (by omega)
theorem jT{i j:Int}(h:0<=j)(h2:j<=1000000)(h3:i.natAbs<2^64):gi O (.int i) (.int j)=.ok (.int (i^j.toNat)):=if_pos ⟨h,h2,h3⟩
@[simp] theorem HI (i:Int):qT O [.int i]=.ok (.int (i.natAbs:Int)):=by
 show Res.ok (D.int (if i<0 then -i else i))=_
 congr 2
 split <;> omega
@[simp] theorem iT (ds:List D):ee O [.lst ds]=.ok (.int ds.length):=rfl
@[simp] theorem HR (ds:List D):ee O [.tup ds]=.ok (.int ds.length):=rfl
@[simp] theorem o8 (ds:List D):kE O [.lst ds]=.ok (.lst ds):=rfl
@[simp] theorem Hs (ds:List D):kE O [.tup ds]=.ok (.lst ds):=rfl
@[simp] theorem Hu (i:Int):intOf O [.int i]=.ok (.int i):=rfl
@[simp] theorem De (b:Bool):intOf O [.bl b]=.ok (.int (if b then 1 else 0)):=rfl
@[simp] theorem IU (c:String) (i:Int):jq c O (.int i)=.ok (.bl (dZ "int" c)):=rfl
@[simp] theorem Jv (c:String) (i:Bool):jq c O (.bl i)=.ok (.bl (dZ "bool" c)):=rfl
@[simp] theorem Jb (c:String) (i:Str):jq c O (.str i)=.ok (.bl (dZ "str" c)):=rfl
@[simp] theorem Ef (c:String) (i:List D):jq c O (.lst i)=.ok (.bl (dZ "list" c)):=rfl
@[simp] theorem Jd (c:String) (i:List D):jq c O (.tup i)=.ok (.bl (dZ "tuple" c)):=rfl
@[simp] theorem IQ (c:String):jq c O .non=.ok (.bl (dZ "NoneType" c)):=rfl
@[simp] theorem Jx:dZ "int" "int" =true:=by decide
@[simp] theorem Jh:dZ "int" "bool" =false:=by decide
@[simp] theorem Jg:dZ "bool" "bool" =true:=by decide
@[simp] theorem Jl:dZ "bool" "int" =true:=by decide
@[simp] theorem Jj:dZ "list" "list" =true:=by decide
@[simp] theorem sub_tt:dZ "tuple" "tuple" =true:=by decide
@[simp] theorem sub_lt:dZ "list" "tuple" =false:=by decide
@[simp] theorem Jz:dZ "tuple" "list" =false:=by decide
@[simp] theorem Ji:dZ "str" "int" =false:=by decide
@[simp] theorem Js:dZ "NoneType" "int" =false:=by decide
theorem qe{ds:List D}{i:Int}{d:D}(h:atI ds i=some d):ixD O (.lst ds) (.int i)=.ok d:=by
 show (match lsD O (D.lst ds) with
  | some ds=>match atI ds i with
   | some d=>Res.ok d
   | none=>.bad
  | none=>.bad)=_
 rw[fo]
 dsimp only
 rw[h]
theorem yV{ds:List D}{i:Int}{d:D}(h:atI ds i=some d):ixD O (.tup ds) (.int i)=.ok d:=by
 show (
  match atI ds i with
  | some d=>Res.ok d
  | none=>.bad)=_
 rw[h]
theorem mY{α:Type}{l:List α}{i:Int}(h0:0<=i)(h1:i<l.length):atI l i=some (l[i.toNat]'(by omega)):=by
 unfold atI ixN
 rw[if_pos h0,if_pos h1]
 show l[i.toNat]? =_
 exact List.getElem?_eq_getElem _
theorem kQ:∀ns:List Int,gB (ns.map D.int)=some (ns.map PyData.int)
 | []=>by simp[gB]
 | n::ns=>by simp[gB,toPy,kQ ns]
theorem j9:∀ns:List Int,bF O (ns.map D.int)=ns.map D.int
 | []=>by simp[bF]
 | n::ns=>by simp[bF,res,j9 ns]
theorem jZ:∀ns:List Int,PyData.canLayAll0 (ns.map PyData.int)=true
 | []=>by simp[PyData.canLayAll0]
 | n::ns=>by simp[PyData.canLayAll0,PyData.canLay0,jZ ns]
theorem kO:∀ns:List Int,PyData.depthAll (ns.map PyData.int)=0
 | []=>by simp[PyData.depthAll]
 | n::ns=>by simp[PyData.depthAll,PyData.depth,kO ns]
theorem shaped_ints(ns:List Int):SeqAt.shaped (.list (ns.map PyData.int))=true:=by
 simp[SeqAt.shaped,PyData.canLay0,jZ,PyData.depth,kO]
theorem nL:∀ns ms:List Int,PyData.eqvAll (ns.map PyData.int) (ms.map PyData.int)=decide (ns=ms)
 | [],[]=>by simp[PyData.eqvAll]
 | [],_::_=>by simp[PyData.eqvAll]
 | _::_,[]=>by simp[PyData.eqvAll]
 | a::r,b::t=>by
  simp only[List.map_cons,PyData.eqvAll,PyData.eqv,nL r t]
  by_cases h:a=b <;> by_cases h':r=t <;> simp[h,h']
theorem w9(ns ms:List Int):eqB O (.lst (ns.map D.int)) (.lst (ms.map D.int))=some (decide (ns=ms)):=by
 show gJ O _ _=_
 unfold gJ
 simp only[res,j9,toPy,kQ,Option.map_some]
 rw[if_pos ⟨shaped_ints ns,shaped_ints ms⟩]
 simp only[PyData.eqv,nL]
@[simp] theorem C2 (ns ms:List Int):eqD O (.lst (ns.map D.int)) (.lst (ms.map D.int))=.ok (.bl (decide (ns=ms))):=by unfold eqD;rw[w9]
@[simp] theorem HW (ns ms:List Int):neD O (.lst (ns.map D.int)) (.lst (ms.map D.int))=.ok (.bl (!decide (ns=ms))):=by unfold neD;rw[w9]
theorem ot:∀ns:List Int,aX (ns.map D.int)=true
 | []=>by simp[aX]
 | n::ns=>by simp[aX,cx,ot ns]
@[simp] theorem Ho (ns:List Int):cx (.lst (ns.map D.int))=true:=by simp[cx,ot]
end
end M
set_option maxRecDepth 100000
set_option maxHeartbeats 4000000
namespace M
open PySem PySem.Spec PyProof.Rows L2
noncomputable def ql:SM:=aK (setM 2 (aj gg (aa 0) (aa 1))) (aK (setM 0 (aa 1)) (setM 1 (aa 2)))
theorem BR{a b:Int}{x:Option D}{O:au}(hb:0<b):ql ⟨[some (.int a),some (.int b),x],O⟩=.next ⟨[some (.int b),some (.int (a%b)),some (.int (a%b))],O⟩:=by
 simp[ql,aK,setM,gw,aH,aj,aa,gz hb]
theorem uA{c:TM}(hc:∀(a b:Int) x O,0<=b->c ⟨[some (.int a),some (.int b),x],O⟩=.ok (decide (b≠0),⟨[some (.int a),some (.int b),x],O⟩)):
 ∀(n:Nat) (a b:Int) x O,0<=a->0<=b->b.natAbs<n->∃y,jc c ql n ⟨[some (.int a),some (.int b),x],O⟩=.next ⟨[some (.int (Nat.gcd a.natAbs b.natAbs:Nat)),some (.int 0),y],O⟩
 | 0,_,_,_,_,_,_,h=>by omega
 | n+1,a,b,x,O,ha,hb,hn=>by
  rw[jc,hc a b x O hb,lL]
  by_cases h:b=0
  ·subst h
   refine⟨x, ?_⟩
   have e:((Nat.gcd a.natAbs (0:Int).natAbs:Nat):Int)=a:=by
    rw[Int.natAbs_zero,Nat.gcd_zero_right]
    omega
   rw[e]
   simp
  ·have hb':0<b:=by omega
   have h1:0<=a%b:=Int.emod_nonneg a h
   have h2:a%b<b:=Int.emod_lt_of_pos a hb'
   obtain⟨y,e⟩:=uA hc n b (a%b) (some (.int (a%b))) O hb h1 (by omega)
   refine⟨y, ?_⟩
   simp only[h,ne_eq,not_false_eq_true,decide_true,if_true,BR hb']
   rw[e]
   have e2:(a%b).natAbs=a.natAbs%b.natAbs:=by
    have:((a%b).natAbs:Int)=((a.natAbs%b.natAbs:Nat):Int):=by
     rw[Int.natAbs_of_nonneg h1,Int.natCast_emod,Int.natAbs_of_nonneg ha,Int.natAbs_of_nonneg hb]
    omega
   rw[e2,<- Nat.gcd_rec' a.natAbs b.natAbs]
where Nat.gcd_rec' (m n:Nat):Nat.gcd m n=Nat.gcd n (m%n):=by
        rw[Nat.gcd_comm m n,Nat.gcd_rec n m,Nat.gcd_comm]
noncomputable def zG:SM:=aK (setM 0 (bV qT (af (aa 0) aq))) (aK (setM 1 (bV qT (af (aa 1) aq))) (aK (tm (λs=>tN 1 s) (bh (aj neD (aa 1) (ao (.int 0)))) ql) (bN (aa 0))))
theorem Cc(a b:Int)(O:au):∃s,zG ⟨[some (.int a),some (.int b),none],O⟩=.ret (.int (Int.gcd a b:Nat)) s/\s.o=O:=by
 obtain⟨y,e⟩:=uA (c:=bh (aj neD (aa 1) (ao (.int 0)))) (λa b x O h=>by simp[bh,aj,aa,ao]) (b.natAbs+1) (a.natAbs:Int) (b.natAbs:Int) none O (by omega) (by omega) (by omega)
 refine⟨⟨[some (.int (Int.gcd a b:Nat)),some (.int 0),y],O⟩, ?_,rfl⟩
 simp only[Int.natAbs_natCast] at e
 simp[zG,aK,setM,gw,aH,bV,af,aq,aa,tm,tN,e,bN,Int.gcd]
theorem cz{n:Nat}{m:SM}{ds:List D}{O:au}{d:D}{s:S}(h:m ⟨ds.map some++List.replicate (n-ds.length) none,O⟩=.ret d s):runM n m ds O=.ok (d,s.o):=by
 unfold runM;rw[h]
theorem Bf(a b:Int):runM 3 zG [.int a,.int b] []=.ok (.int (Int.gcd a b:Nat),[]):=by
 obtain⟨s,e,eo⟩:=Cc a b []
 rw[cz (s:=s) (by exact e),eo]
def bO(ns:List Int):Nat:=ns.foldl (λc n=>Nat.gcd c n.natAbs) 0
theorem n9:∀(ns:List Int) (c:Nat),ns.foldl (λc n=>Nat.gcd c n.natAbs) c ∣ c/\∀n∈ns,ns.foldl (λc n=>Nat.gcd c n.natAbs) c ∣ n.natAbs
 | [],c=>⟨Nat.dvd_refl _,by simp⟩
 | m::ns,c=>by
  obtain⟨h1,h2⟩:=n9 ns (Nat.gcd c m.natAbs)
  rw[List.foldl_cons]
  refine⟨Nat.dvd_trans h1 (Nat.gcd_dvd_left _ _),λn hn=> ?_⟩
  rcases List.mem_cons.mp hn with rfl | hn
  ·exact Nat.dvd_trans h1 (Nat.gcd_dvd_right _ _)
  ·exact h2 n hn
theorem w4{ns:List Int}{n:Int}(h:n∈ns):((bO ns:Nat):Int) ∣ n:=Int.natAbs_dvd_natAbs.mp (by rw[Int.natAbs_natCast];exact(n9 ns 0).2 n h)
theorem oh(g:Nat)(hg:0<g):∀(ns:List Int) (c:Nat),g ∣ c->(∀n∈ns,(g:Int) ∣ n)->
 (ns.map (· / (g:Int))).foldl (λc n=>Nat.gcd c n.natAbs) (c/g)=ns.foldl (λc n=>Nat.gcd c n.natAbs) c/g
 | [],c,_,_=>rfl
 | m::ns,c,hc,h=>by
  have hm:g ∣ m.natAbs:=by
   have:=Int.natAbs_dvd_natAbs.mpr (h m List.mem_cons_self)
   rwa [Int.natAbs_natCast] at this
  have e:(m/(g:Int)).natAbs=m.natAbs/g:=by
   obtain⟨k,rfl⟩:=h m List.mem_cons_self
   rw[Int.mul_ediv_cancel_left _ (by omega:(g:Int)≠0),Int.natAbs_mul,Int.natAbs_natCast,Nat.mul_div_cancel_left _ hg]
  rw[List.map_cons,List.foldl_cons,List.foldl_cons,e,Nat.gcd_div hc hm]
  exact oh g hg ns _ (Nat.dvd_gcd hc hm) λn hn=>h n (List.mem_cons_of_mem _ hn)
theorem Ck{ns:List Int}(h:0<bO ns):bO (ns.map (· / (bO ns:Int)))=1:=by
 have:=oh (bO ns) h ns 0 (Nat.dvd_zero _) λn hn=>w4 hn
 rw[Nat.zero_div] at this
 rw[show bO (ns.map (· / (bO ns:Int)))=(ns.map (· / (bO ns:Int))).foldl (λc n=>Nat.gcd c n.natAbs) 0 from rfl,this]
 exact Nat.div_self h
end M
set_option maxRecDepth 100000
set_option maxHeartbeats 4000000
namespace M
open PySem PySem.Spec PyProof.Rows L2
section
variable {s s1 : S} {d : D}
@[simp] theorem ag {i:Nat} (h:s.r[i]? =some (some d)):aa i s=.ok (d,s):=by unfold aa;rw[h]
@[simp] theorem aM (d:D) (s:S):ao d s=.ok (d,s):=rfl
@[simp] theorem jh (f:Op2) (a b:EM) (s:S):aj f a b s=(a s).bind λx=>(b x.2).bind λy=>(f y.2.o x.1 y.1).bind λd=>.ok (d,y.2):=rfl
@[simp] theorem FN (f:Op1) (a:EM) (s:S):unM f a s=(a s).bind λx=>(f x.2.o x.1).bind λd=>.ok (d,x.2):=rfl
@[simp] theorem aC (s:S):aq s=.ok ([],s):=rfl
@[simp] theorem iW (m:EM) (r:AM) (s:S):af m r s=(m s).bind λx=>(r x.2).bind λy=>.ok (x.1::y.1,y.2):=rfl
@[simp] theorem yB (f:OpN) (m:AM) (s:S):bV f m s=(m s).bind λx=>(f x.2.o x.1).bind λd=>.ok (d,x.2):=rfl
@[simp] theorem Ep (m:AM) (s:S):qH m s=(m s).bind λx=>if x.1.length<=16777216 then .ok (.tup x.1,x.2) else .bad:=rfl
@[simp] theorem DO (m:AM) (s:S):i0 m s=(m s).bind λx=>if x.1.length<=16777216 then .ok (.lst x.1,x.2) else .bad:=rfl
@[simp] theorem EE (m:AM) (s:S):qD m s=(m s).bind λx=>if x.1.length<=16777216 then .ok (.ptr x.2.o.length,⟨x.2.r,x.2.o++[.lst x.1]⟩) else .bad:=rfl
@[simp] theorem tJ (m:EM) (s:S):bh m s=(m s).bind λx=>match x.1 with
 | .bl b=>.ok (b,x.2)
 | _=>.bad:=rfl
@[simp] theorem yQ (a b:TM) (s:S):qQ a b s=(a s).bind λx=>if x.1 then b x.2 else .ok (false,x.2):=rfl
@[simp] theorem FK (a b:TM) (s:S):orT a b s=(a s).bind λx=>if x.1 then .ok (true,x.2) else b x.2:=rfl
@[simp] theorem EH (a:TM) (s:S):o9 a s=(a s).bind λx=>.ok (!x.1,x.2):=rfl
@[simp] theorem yi (a b:EM) (s:S):lj a b s=(a s).bind λx=>match x.1 with
 | .bl true=>b x.2
 | .bl false=>.ok (.bl false,x.2)
 | _=>.bad:=rfl
@[simp] theorem Jt (a b:EM) (s:S):orV a b s=(a s).bind λx=>match x.1 with
 | .bl true=>.ok (.bl true,x.2)
 | .bl false=>b x.2
 | _=>.bad:=rfl
@[simp] theorem EW (a:EM) (s:S):xr a s=(a s).bind λx=>match x.1 with
 | .bl k=>.ok (.bl (!k),x.2)
 | _=>.bad:=rfl
@[simp] theorem pK (a b:SM) (s:S):aK a b s=(a s).then b:=rfl
@[simp] theorem bP (s:S):cG s=.next s:=rfl
@[simp] theorem Ic (m:EM) (s:S):iP m s=(m s).out λx=>.next x.2:=rfl
@[simp] theorem IW (m:EM) (s:S):bN m s=(m s).out λx=>.ret x.1 x.2:=rfl
@[simp] theorem Je (s:S):HL s=.ret .non s:=rfl
@[simp] theorem Jw (c:TM) (a b:SM) (s:S):ifS c a b s=(c s).out λx=>if x.1 then a x.2 else b x.2:=rfl
@[simp] theorem Ju (c:TM) (a b:EM) (s:S):ifM c a b s=(c s).bind λx=>if x.1 then a x.2 else b x.2:=rfl
@[simp] theorem B8 (i:Nat) (d:D) (s:S):aH i d s=.ok ⟨s.r.set i (some d),s.o⟩:=rfl
@[simp] theorem mL (m:EM) (g:GM) (s:S):gw m g s=((m s).bind λx=>g x.1 x.2).out λs=>.next s:=rfl
@[simp] theorem IP (i:Nat) (f:Op2) (m:EM) (s:S):Io i f m s=gw (aj f (aa i) m) (aH i) s:=rfl
@[simp] theorem CO (s:S):bZ s=.ok (true,s):=rfl
@[simp] theorem Hr (s:S):dw s=.ok (none,s):=rfl
@[simp] theorem Eg (m:EM) (s:S):part m s=(m s).bind λx=>match x.1 with
 | .int i=>.ok (some i,x.2)
 | _=>.bad:=rfl
@[simp] theorem Ff (me:EM) (ml mh:OM) (s:S):slM me ml mh s=(me s).bind λx=>(ml x.2).bind λl=>(mh l.2).bind λh=>match lsD h.2.o x.1 with
 | some ds=>.ok (.lst (cutD ds l.1 h.1),h.2)
 | none=>.bad:=rfl
@[simp] theorem cD (m:EM) (s:S):listI m s=(m s).bind λx=>(itemsOf x.2.o x.1).bind λy=>.ok (y,x.2):=rfl
@[simp] theorem GQ (O:au) (ds:List D):itemsOf O (.lst ds)=.ok (ds,none):=rfl
theorem EJ(im:IM)(g:GM)(body:SM)(s:S):jz im g body s=(im s).out λy=>bH (okC y.1.1 y.1.2) g body y.1.1 y.2:=rfl
theorem lE(m:Nat)(caps:List Nat)(im:IM)(g:GM)(c:TM)(e:EM)(s:S):j3 m caps im g c e s=(im s).bind λy=>
 (cE (okC y.1.1 y.1.2) g c e y.1.1 [] ⟨jo m caps y.2.r,y.2.o⟩).bind λz=>.ok (z.1,⟨y.2.r,z.2.o⟩):=rfl
theorem jP(m:Nat)(caps:List Nat)(im:IM)(g:GM)(c:TM)(e:EM)(s:S):cM m caps im g c e s=(j3 m caps im g c e s).bind λy=>.ok (.lst y.1,y.2):=rfl
theorem qN(m:Nat)(caps:List Nat)(im:IM)(g:GM)(c:TM)(e:EM)(s:S):jy m caps im g c e s=(j3 m caps im g c e s).bind λy=>.ok (.ptr y.2.o.length,⟨y.2.r,y.2.o++[.lst y.1]⟩):=rfl
@[simp] theorem C1 (n:Nat) (f:FM) (m:AM) (s:S):bI n f m s=(m s).bind λx=>if aX x.1=true/\x.1.length=n then (match f x.1 [] with
 | .ok (d,_)=>if cx d=true then .ok (d,x.2) else .bad
 | _=>.bad) else .bad:=rfl
@[simp] theorem Cq (n:Nat) (f:FM) (m:AM) (s:S):eZ n f m s=(m s).bind λx=>if aX x.1=true/\x.1.length=n then (match f x.1 [] with
 | .ok (d,O1)=>.ok (shD x.2.o.length d,⟨x.2.r,x.2.o++O1.map (shC x.2.o.length)⟩)
 | _=>.bad) else .bad:=rfl
@[simp] theorem HS (n:Nat) (f:FM) (m:AM) (s:S):eH n f m s=(m s).bind λx=>if aX (bF x.2.o (bF x.2.o x.1))=true/\x.1.length=n then (match f (bF x.2.o (bF x.2.o x.1)) [] with
 | .ok (d,_)=>if lV d=true then .ok (d,x.2) else .bad
 | _=>.bad) else .bad:=rfl
@[simp] theorem C9 (m:EM) (s:S):lW m s=(m s).bind λx=>match pP x.2.o x.1 with
 | some ds=>.ok (.ptr x.2.o.length,⟨x.2.r,x.2.o++[.lst ds]⟩)
 | none=>.bad:=rfl
@[simp] theorem Eo (m:EM) (s:S):fM m s=(m s).bind λx=>match kz x.2.o x.1 with
 | some (k,ds)=>.ok (.lst ds,⟨x.2.r,x.2.o.set k .dead⟩)
 | none=>.bad:=rfl
@[simp] theorem D5 (mo me:EM) (s:S):nR mo me s=(mo s).bind λx=>match kz x.2.o x.1 with
 | some _=>(me x.2).bind λy=>match kz y.2.o x.1 with
  | some (k,ds)=>if ds.length<16777216 then .ok (.non,⟨y.2.r,y.2.o.set k (.lst (ds++[y.1]))⟩) else .bad
  | none=>.bad
 | none=>.bad:=rfl
@[simp] theorem kT {O:au} {k:Nat} {ds:List D} (h:O[k]? =some (.lst ds)):lsD O (.ptr k)=some ds:=by unfold lsD;simp only[h]
@[simp] theorem nH {O:au} {k:Nat} {ds:List D} (h:O[k]? =some (.lst ds)):kz O (.ptr k)=some (k,ds):=by unfold kz;simp only[h]
@[simp] theorem o4 (O:au) (ds:List D):pP O (.lst ds)=some ds:=rfl
@[simp] theorem Hq (O:au) (ds:List D):pP O (.tup ds)=some ds:=rfl
@[simp] theorem HD {O:au} {k:Nat} {ds:List D} (h:O[k]? =some (.lst ds)):pP O (.ptr k)=some ds:=by show lsD O (.ptr k)=_;exact kT h
@[simp] theorem GV {O:au} {k:Nat} {ds:List D} (h:O[k]? =some (.lst ds)):itemsOf O (.ptr k)=.ok (ds,some k):=by unfold itemsOf;simp only[h]
@[simp] theorem iu (n k:Nat):shD n (.ptr k)=.ptr (n+k):=by unfold shD;rfl
@[simp] theorem zf:aX []=true:=by unfold aX;rfl
@[simp] theorem dY (d:D) (ds:List D):aX (d::ds)=(cx d&&aX ds):=by conv=>lhs;unfold aX
@[simp] theorem uD (i:Int):cx (.int i)=true:=by unfold cx;rfl
@[simp] theorem Ig (i:Bool):cx (.bl i)=true:=by unfold cx;rfl
@[simp] theorem Ht (i:Str):cx (.str i)=true:=by unfold cx;rfl
@[simp] theorem HA:cx .non=true:=by unfold cx;rfl
@[simp] theorem g9 (ds:List D):cx (.lst ds)=aX ds:=by conv=>lhs;unfold cx
@[simp] theorem Hv (ds:List D):cx (.tup ds)=aX ds:=by conv=>lhs;unfold cx
@[simp] theorem xy (ns:List Int):aX (ns.map D.int)=true:=ot ns
@[simp] theorem EL (O:au) (i:Int):res O (.int i)=.int i:=by unfold res;rfl
@[simp] theorem Jo (O:au) (i:Bool):res O (.bl i)=.bl i:=by unfold res;rfl
@[simp] theorem IB (O:au) (i:Str):res O (.str i)=.str i:=by unfold res;rfl
@[simp] theorem IH (O:au):res O .non=.non:=by unfold res;rfl
@[simp] theorem gO (O:au) (ds:List D):res O (.lst ds)=.lst (bF O ds):=by conv=>lhs;unfold res
@[simp] theorem D9 (O:au) (ds:List D):res O (.tup ds)=.tup (bF O ds):=by conv=>lhs;unfold res
@[simp] theorem jK {O:au} {k:Nat} {ds:List D} (h:O[k]? =some (.lst ds)):res O (.ptr k)=.lst ds:=by conv=>lhs;unfold res;simp only[h]
@[simp] theorem gD (O:au):bF O []=[]:=by unfold bF;rfl
@[simp] theorem fC (O:au) (d:D) (ds:List D):bF O (d::ds)=res O d::bF O ds:=by conv=>lhs;unfold bF
@[simp] theorem fI (O:au) (ns:List Int):bF O (ns.map D.int)=ns.map D.int:=j9 ns
@[simp] theorem HP (b:Bool):lV (.bl b)=true:=rfl
@[simp] theorem Hy (b:Int):lV (.int b)=true:=rfl
@[simp] theorem HF (b:Str):lV (.str b)=true:=rfl
@[simp] theorem IF {O:au} {k:Nat} {ds:List D} (h:O[k]? =some (.lst ds)) (c:String):jq c O (.ptr k)=.ok (.bl (dZ "list" c)):=by
 unfold jq tyD;simp only[h]
@[simp] theorem uu (n:Nat):∀ns:List Int,eT n (ns.map D.int)=ns.map D.int
 | []=>by simp[eT]
 | m::ns=>by simp[eT,shD,uu n ns]
@[simp] theorem yR (n:Nat) (ds:List D):shC n (.lst ds)=.lst (eT n ds):=rfl
theorem E3{n:Nat}{m:SM}{ds:List D}{O:au}{d:D}(h:∃s,m ⟨ds.map some++List.replicate (n-ds.length) none,O⟩=.ret d s):∃O1,runM n m ds O=.ok (d,O1):=by
 obtain⟨s,h⟩:=h
 exact⟨s.o,cz h⟩
end
mutual
theorem Dg{O:au}:∀{d:D},cx d=true->res O d=d
 | .non,_=>by unfold res;rfl
 | .bl _,_=>by unfold res;rfl
 | .int _,_=>by unfold res;rfl
 | .str _,_=>by unfold res;rfl
 | .lst ds,h=>by rw[gO,lQ (by simpa using h)]
 | .tup ds,h=>by rw[D9,lQ (by simpa using h)]
 | .ptr _,h=>by unfold cx at h;cases h
 | .obj c ns ds,h=>by unfold res;rfl
 | .exn c,h=>by unfold res;rfl
theorem lQ{O:au}:∀{ds:List D},aX ds=true->bF O ds=ds
 | [],_=>gD O
 | d::ds,h=>by
  rw[dY,Bool.and_eq_true] at h
  rw[fC,Dg h.1,lQ h.2]
end
theorem yO{O:au}{k:Nat}{ds:List D}(h:O[k]? =some (.lst ds))(hp:aX ds=true)(es:List D):eqB O (.ptr k) (.lst es)=eqB O (.lst ds) (.lst es):=by
 show gJ O _ _=gJ O _ _
 unfold gJ
 simp only[jK h,gO,lQ hp]
@[simp] theorem IY {O:au} {k:Nat} {ds:List D} (h:O[k]? =some (.lst ds)) (hp:aX ds=true) (es:List D):eqD O (.ptr k) (.lst es)=eqD O (.lst ds) (.lst es):=by unfold eqD;rw[yO h hp]
@[simp] theorem ID {O:au} {k:Nat} {ds:List D} (h:O[k]? =some (.lst ds)) (hp:aX ds=true) (es:List D):neD O (.ptr k) (.lst es)=neD O (.lst ds) (.lst es):=by unfold neD;rw[yO h hp]
theorem lS{ms:List Int}{n:Nat}:cutD (ms.map D.int) none (some (n:Int))=(ms.take n).map D.int:=by
 unfold cutD
 rw[HT.wd,HT.qi,List.drop_zero,Nat.sub_zero,List.length_map,<- List.map_take]
 congr 1
 by_cases h:n<=ms.length
 ·rw[Nat.min_eq_left h]
 ·rw[Nat.min_eq_right (by omega),List.take_of_length_le (Nat.le_refl _),List.take_of_length_le (by omega)]
end M
set_option maxRecDepth 100000
set_option maxHeartbeats 4000000
namespace M
open PySem PySem.Spec PyProof.Rows L2
def rat(a b:Int):Int×Int:=(a.fdiv (if b<0 then -(Int.gcd a b:Int) else Int.gcd a b),b.fdiv (if b<0 then -(Int.gcd a b:Int) else Int.gcd a b))
theorem xj{a b:Int}(h:b≠0):∃g:Int,g≠0/\g.natAbs=Int.gcd a b/\a=g*(rat a b).1/\b=g*(rat a b).2/\0<(rat a b).2/\Int.gcd (rat a b).1 (rat a b).2=1:=by
 have hg:0<Int.gcd a b:=Int.gcd_pos_of_ne_zero_right a h
 have ha:(Int.gcd a b:Int) ∣ a:=Int.gcd_dvd_left a b
 have hb:(Int.gcd a b:Int) ∣ b:=Int.gcd_dvd_right a b
 obtain⟨x,hx⟩:=ha
 obtain⟨y,hy⟩:=hb
 have one:Int.gcd x y=1:=by
  have e:Int.gcd a b=Int.gcd a b*Int.gcd x y:=by
   have e0:Int.gcd ((Int.gcd a b:Int)*x) ((Int.gcd a b:Int)*y)=Int.gcd a b*Int.gcd x y:=by rw[Int.gcd_mul_left,Int.natAbs_natCast]
   rw[<- hx,<- hy] at e0
   exact e0
  have:Int.gcd a b*1=Int.gcd a b*Int.gcd x y:=by rw[Nat.mul_one];exact e
  exact(Nat.eq_of_mul_eq_mul_left hg this).symm
 by_cases hn:b<0
 ·have hc:(-(Int.gcd a b:Int))≠0:=by omega
  have e1:(rat a b).1= -x:=by
   unfold rat
   rw[if_pos hn]
   show a.fdiv _=_
   conv=>lhs;lhs;rw[hx,<- Int.neg_mul_neg]
   exact Int.mul_fdiv_cancel_left _ hc
  have e2:(rat a b).2= -y:=by
   unfold rat
   rw[if_pos hn]
   show b.fdiv _=_
   conv=>lhs;lhs;rw[hy,<- Int.neg_mul_neg]
   exact Int.mul_fdiv_cancel_left _ hc
  refine⟨-(Int.gcd a b:Int),hc,by rw[Int.natAbs_neg,Int.natAbs_natCast],by rw[e1,Int.neg_mul_neg];exact hx,by rw[e2,Int.neg_mul_neg];exact hy, ?_, ?_⟩
  ·rw[e2]
   have:¬0<=y:=λz=>by
    have:=Int.mul_nonneg (show (0:Int)<=(Int.gcd a b:Int) by omega) z
    omega
   omega
  ·rw[e1,e2,Int.neg_gcd,Int.gcd_neg];exact one
 ·have hc:(Int.gcd a b:Int)≠0:=by omega
  have e1:(rat a b).1=x:=by
   unfold rat
   rw[if_neg hn]
   show a.fdiv _=_
   conv=>lhs;lhs;rw[hx]
   exact Int.mul_fdiv_cancel_left _ hc
  have e2:(rat a b).2=y:=by
   unfold rat
   rw[if_neg hn]
   show b.fdiv _=_
   conv=>lhs;lhs;rw[hy]
   exact Int.mul_fdiv_cancel_left _ hc
  refine⟨(Int.gcd a b:Int),hc,by rw[Int.natAbs_natCast],by rw[e1];exact hx,by rw[e2];exact hy, ?_, ?_⟩
  ·rw[e2]
   have hbp:0<b:=by omega
   have:¬y<=0:=λz=>by
    have:=Int.mul_nonpos_of_nonneg_of_nonpos (show (0:Int)<=(Int.gcd a b:Int) by omega) z
    omega
   omega
  ·rw[e1,e2];exact one
theorem yo{a b:Int}(h:b≠0):(rat a b).1.natAbs<=a.natAbs/\(rat a b).2.natAbs<=b.natAbs:=by
 obtain⟨g,hg,_,e1,e2,_⟩:=xj (a:=a) h
 have hg1:1<=g.natAbs:=by omega
 constructor
 ·conv=>rhs;rw[e1,Int.natAbs_mul]
  exact Nat.le_mul_of_pos_left _ hg1
 ·conv=>rhs;rw[e2,Int.natAbs_mul]
  exact Nat.le_mul_of_pos_left _ hg1
theorem kb{ok:au->Prop}{g:GM}{body:SM}(P:List D->S->Prop)(hok:∀pre s,P pre s->ok s.o):∀(ds pre:List D),
 (∀pre' d rest,pre++ds=pre'++d::rest->∀s,P pre' s->∃s1 s2,g d s=.ok s1/\(body s1=.next s2\/body s1=.cnt s2)/\P (pre'++[d]) s2)->∀s,P pre s->∃s',bH ok g body ds s=.next s'/\P (pre++ds) s'
 | [],pre,_,s,h=>⟨s,by rw[bH,if_pos (hok _ _ h)],by simpa using h⟩
 | d::ds,pre,step,s,h=>by
  obtain⟨s1,s2,e1,e2,h2⟩:=step pre d ds rfl s h
  obtain⟨s',e3,h3⟩:=kb P hok ds (pre++[d]) (λpre' d' rest e=>step pre' d' rest (by simpa using e)) s2 h2
  refine⟨s', ?_,by simpa using h3⟩
  rw[bH,if_pos (hok _ _ h),e1,lL]
  rcases e2 with e2 | e2 <;> (rw[e2];exact e3)
theorem gb{im:IM}{g:GM}{body:SM}{s s1:S}{ds:List D}{k:Option Nat}(h:im s=.ok ((ds,k),s1)):jz im g body s=bH (okC ds k) g body ds s1:=by rw[EJ,h,lL]
theorem nD{m:AM}{s s1:S}{n:Nat}(h:m s=.ok ([.int (n:Int)],s1))(hn:n<=1000000):lH m s=.ok ((dn 0 (n:Int),none),s1):=by
 show (m s).bind _=_
 rw[h,ak]
 dsimp only
 rw[if_pos (by constructor <;> omega)]
section
variable {O : au}
@[simp] theorem JD (d:D) (ds:List D):ixD O (.tup (d::ds)) (.int 0)=.ok d:=yV (by rw[mY (by decide) (by simp)];rfl)
@[simp] theorem JC (d e:D) (ds:List D):ixD O (.tup (d::e::ds)) (.int 1)=.ok e:=yV (by rw[mY (by decide) (by simp;omega)];rfl)
@[simp] theorem FT (d:D) (ds:List D):ixD O (.lst (d::ds)) (.int 0)=.ok d:=qe (by rw[mY (by decide) (by simp)];rfl)
@[simp] theorem Ie (d e:D) (ds:List D):ixD O (.lst (d::e::ds)) (.int 1)=.ok e:=qe (by rw[mY (by decide) (by simp;omega)];rfl)
theorem pq(ns:List Int):SeqAt.shaped (.tuple (ns.map PyData.int))=true:=by
 simp[SeqAt.shaped,PyData.canLay0,jZ,PyData.depth,kO]
theorem uJ(ns ms:List Int):eqB O (.tup (ns.map D.int)) (.tup (ms.map D.int))=some (decide (ns=ms)):=by
 show gJ O _ _=_
 unfold gJ
 simp only[res,j9,toPy,kQ,Option.map_some]
 rw[if_pos ⟨pq ns,pq ms⟩]
 simp only[PyData.eqv,nL]
@[simp] theorem JA (a b c d:Int):eqD O (.tup [.int a,.int b]) (.tup [.int c,.int d])=.ok (.bl (decide (a=c/\b=d))):=by
 have:=uJ (O:=O) [a,b] [c,d]
 unfold eqD
 rw[show eqB O (.tup [.int a,.int b]) (.tup [.int c,.int d])=_ from this]
 simp
@[simp] theorem Jm (a b c d:Int):neD O (.tup [.int a,.int b]) (.tup [.int c,.int d])=.ok (.bl (!decide (a=c/\b=d))):=by
 have:=uJ (O:=O) [a,b] [c,d]
 unfold neD
 rw[show eqB O (.tup [.int a,.int b]) (.tup [.int c,.int d])=_ from this]
 simp
end
theorem Sz.rat{n m:Nat}{a b:Int}(hb:b≠0)(h:Sz n a)(h':Sz m b):Sz n (rat a b).1/\Sz m (rat a b).2:=
 ⟨Nat.lt_of_le_of_lt (yo hb).1 h,Nat.lt_of_le_of_lt (yo hb).2 h'⟩
theorem Sz.sub{m n:Nat}{i j:Int}(h:Sz m i)(h':Sz n j):Sz (max m n+1) (i-j):=by
 rw[Int.sub_eq_add_neg]
 refine Sz.add h ?_
 unfold Sz at *
 rw[Int.natAbs_neg];exact h'
theorem Sz.neg{m:Nat}{i:Int}(h:Sz m i):Sz m (-i):=by
 unfold Sz at *
 rw[Int.natAbs_neg];exact h
end M
set_option maxRecDepth 100000
set_option maxHeartbeats 4000000
namespace M
def cH:Nat->(Nat->Int)->Int
 | 0,_=>0
 | n+1,f=>cH n f+f n
theorem eK{n:Nat}{f g:Nat->Int}(h:∀i,i<n->f i=g i):cH n f=cH n g:=by
 induction n with
 | zero=>rfl
 | succ n ih=>rw[cH,cH,ih λi hi=>h i (by omega),h n (by omega)]
theorem j8{n:Nat}{f:Nat->Int}(h:∀i,i<n->f i=0):cH n f=0:=by
 induction n with
 | zero=>rfl
 | succ n ih=>rw[cH,ih λi hi=>h i (by omega),h n (by omega)];rfl
theorem rm(n:Nat)(f g:Nat->Int):cH n (λi=>f i+g i)=cH n f+cH n g:=by
 induction n with
 | zero=>rfl
 | succ n ih=>simp only[cH,ih];omega
theorem fO(n:Nat)(c:Int)(f:Nat->Int):cH n (λi=>c*f i)=c*cH n f:=by
 induction n with
 | zero=>simp[cH]
 | succ n ih=>simp only[cH,ih,Int.mul_add]
def nth(r:List Int)(i:Nat):Int:=r.getD i 0
def dO(n:Nat)(r:List Int)(x:Nat->Int):Int:=cH n λi=>nth r i*x i
def rJ(n:Nat)(R:List (List Int))(x:Nat->Int):Prop:=∀r∈R,dO n r x=0
def low(ns:List Int):List Int:=if bO ns=0 then ns else ns.map (· / (bO ns:Int))
theorem low_length(ns:List Int):(low ns).length=ns.length:=by unfold low;split <;> simp
theorem jX{f:Int->Int}(h0:f 0=0)(r:List Int)(i:Nat):nth (r.map f) i=f (nth r i):=by
 unfold nth
 rw[List.getD_eq_getElem?_getD,List.getD_eq_getElem?_getD,List.getElem?_map]
 cases r[i]? with
 | none=>exact h0.symm
 | some a=>rfl
theorem cU{r:List Int}{i:Nat}(h:i<r.length):nth r i∈r:=by
 unfold nth
 rw[List.getD_eq_getElem?_getD,List.getElem?_eq_getElem h]
 exact List.getElem_mem h
theorem cJ{r:List Int}{i:Nat}(h:r.length<=i):nth r i=0:=by
 unfold nth
 rw[List.getD_eq_getElem?_getD,List.getElem?_eq_none h]
 rfl
theorem lG(r:List Int)(i:Nat):((bO r:Nat):Int) ∣ nth r i:=by
 by_cases h:i<r.length
 ·exact w4 (cU h)
 ·rw[cJ (by omega)];exact Int.dvd_zero _
def pQ(r:List Int):Int:=if bO r=0 then 1 else (bO r:Int)
theorem km(r:List Int):0<pQ r:=by unfold pQ;split <;> omega
theorem jG(r:List Int)(i:Nat):nth r i=pQ r*nth (low r) i:=by
 unfold low pQ
 split
 ·omega
 ·rw[jX (by simp),Int.mul_ediv_cancel' (lG r i)]
theorem xg{r:List Int}(h:bO r=0)(i:Nat):nth r i=0:=by
 have:=lG r i
 rw[h] at this
 simpa using this
theorem yK{r:List Int}{i:Nat}(h:nth r i≠0):bO (low r)=1:=by
 have h0:bO r≠0:=λe=>h (xg e i)
 unfold low
 rw[if_neg h0]
 exact Ck (Nat.pos_of_ne_zero h0)
def i3(one:List Int)(v:Int)(other:List Int)(w:Int):List Int:=List.zipWith (λa b=>a*w-b*v) one other
def cI(one:List Int)(v:Int)(other:List Int)(w:Int):List Int:=low (i3 one v other w)
theorem mx{one other:List Int}(h:one.length=other.length)(v w:Int):(i3 one v other w).length=one.length:=by
 unfold i3;rw[List.length_zipWith,<- h,Nat.min_self]
theorem xf{one other:List Int}(h:one.length=other.length)(v w:Int)(i:Nat):nth (i3 one v other w) i=nth one i*w-nth other i*v:=by
 by_cases hi:i<one.length
 ·unfold i3 nth
  simp only[List.getD_eq_getElem?_getD,List.getElem?_zipWith,List.getElem?_eq_getElem hi,List.getElem?_eq_getElem (h▸hi:i<other.length)]
  rfl
 ·rw[cJ (by rw[mx h];omega),cJ (r:=one) (by omega),cJ (r:=other) (by omega)]
  simp
theorem mD{one other:List Int}(h:one.length=other.length)(v w:Int):(cI one v other w).length=one.length:=by
 unfold cI;rw[low_length,mx h]
theorem ng{one other:List Int}(h:one.length=other.length)(v w:Int):∃g:Int,0<g/\∀i,g*nth (cI one v other w) i=nth one i*w-nth other i*v:=by
 refine⟨pQ (i3 one v other w),km _,λi=> ?_⟩
 unfold cI
 rw[<- jG,xf h]
theorem vz{n:Nat}{a b c:List Int}{g u v:Int}(h:∀i,g*nth c i=u*nth a i+v*nth b i)(x:Nat->Int):g*dO n c x=u*dO n a x+v*dO n b x:=by
 unfold dO
 rw[<- fO,<- fO,<- fO,<- rm]
 refine eK λi _=> ?_
 have:=h i
 grind
theorem nX{n:Nat}{a c:List Int}{g:Int}(h:∀i,nth a i=g*nth c i)(x:Nat->Int):dO n a x=g*dO n c x:=by
 unfold dO
 rw[<- fO]
 refine eK λi _=> ?_
 rw[h i,Int.mul_assoc]
theorem CP{n:Nat}{one other:List Int}(h:one.length=other.length)(v w:Int)(x:Nat->Int):∃g:Int,0<g/\g*dO n (cI one v other w) x=w*dO n one x-v*dO n other x:=by
 obtain⟨g,hg,e⟩:=ng h v w
 refine⟨g,hg, ?_⟩
 have:=vz (n:=n) (c:=cI one v other w) (a:=one) (b:=other) (g:=g) (u:=w) (v:= -v) (λi=>by rw[e i];grind) x
 rw[this];grind
theorem BG(n:Nat)(r:List Int)(x:Nat->Int):dO n (low r) x=0↔dO n r x=0:=by
 rw[nX (λi=>jG r i) x]
 have:=km r
 constructor
 ·intro h;rw[h];simp
 ·intro h
  rcases Int.mul_eq_zero.mp h with z | z
  ·omega
  ·exact z
end M
set_option maxRecDepth 100000
set_option maxHeartbeats 4000000
namespace M
def cT:List Int->Option Nat
 | []=>none
 | a::r=>if a≠0 then some 0 else (cT r).map (· + 1)
theorem lF:∀{l:List Int},cT l=none->∀a∈l,a=0
 | [],_,_,h=>by simp at h
 | b::r,e,a,h=>by
  unfold cT at e
  split at e
  ·cases e
  ·rename_i hb
   rcases List.mem_cons.mp h with rfl | h
   ·simpa using hb
   ·exact lF (by simpa using e) a h
theorem hX:∀{l:List Int} {k:Nat},cT l=some k->k<l.length/\nth l k≠0/\∀i,i<k->nth l i=0
 | [],_,e=>by cases e
 | b::r,k,e=>by
  unfold cT at e
  split at e
  ·rename_i hb
   cases e
   exact⟨by simp,hb,λi hi=>by omega⟩
  ·rename_i hb
   cases e2:cT r with
   | none=>rw[e2] at e;cases e
   | some j=>
    rw[e2] at e
    cases e
    obtain⟨h1,h2,h3⟩:=hX e2
    refine⟨by simp;omega,by simpa[nth] using h2,λi hi=> ?_⟩
    cases i with
    | zero=>simpa[nth] using hb
    | succ i=>simpa[nth] using h3 i (Nat.lt_of_succ_lt_succ hi)
def g8(row:List Int)(at_:Nat):List Int:=if nth row at_>0 then row else row.map (- ·)
def eX(lead:List Int)(at_:Nat)(row:List Int):List Int:=if nth row at_=0 then row else cI row (nth row at_) lead (nth lead at_)
def cR(s:List (List Int)×List (List Int))(at_:Nat):List (List Int)×List (List Int):=
 match cT (s.1.map (nth · at_)) with
 | none=>s
 | some k=>((s.1.eraseIdx k).map (eX (g8 (s.1.getD k []) at_) at_),s.2.map (eX (g8 (s.1.getD k []) at_) at_)++[g8 (s.1.getD k []) at_])
def A4(rows:List (List Int))(n:Nat):List (List Int):=((List.range n).foldl cR (rows.map low,[])).2
structure Good(n:Nat)(p:Nat×List Int):Prop where
 len:p.2.length=n
 lt:p.1<n
 pos:0<nth p.2 p.1
 zero:∀i,i<p.1->nth p.2 i=0
 one:bO p.2=1
structure Pl(n:Nat)(P:List (Nat×List Int)):Prop where
 good:∀p∈P,Good n p
 pw:P.Pairwise λp q=>p.1<q.1/\nth p.2 q.1=0
def pA(r:List Int):Prop:=∀i,nth r i≠0->bO r=1
theorem rX(r:List Int):pA (low r):=λi h=>yK (i:=i) λz=>by
 have:=jG r i
 rw[z] at this
 rcases Int.mul_eq_zero.mp this.symm with q | q
 ·have:=km r;omega
 ·exact h q
theorem BO(r:List Int):bO (r.map (- ·))=bO r:=by
 unfold bO
 have:∀(l:List Int) (c:Nat),(l.map (- ·)).foldl (λc n=>Nat.gcd c n.natAbs) c=l.foldl (λc n=>Nat.gcd c n.natAbs) c:=by
  intro l
  induction l with
  | nil=>intro c;rfl
  | cons a l ih=>intro c;simp only[List.map_cons,List.foldl_cons,Int.natAbs_neg];exact ih _
 exact this r 0
theorem xQ(row:List Int)(a:Nat):(g8 row a).length=row.length:=by unfold g8;split <;> simp
theorem wH(row:List Int)(a:Nat):∃g:Int,(g=1\/g= -1)/\∀i,nth (g8 row a) i=g*nth row i:=by
 unfold g8
 split
 ·exact⟨1,.inl rfl,λi=>by omega⟩
 ·exact⟨-1,.inr rfl,λi=>by rw[jX (by simp)];omega⟩
theorem AO{row:List Int}{a:Nat}(h:pA row):pA (g8 row a):=by
 unfold g8
 split
 ·exact h
 ·intro i hi
  rw[BO]
  refine h i λz=>hi ?_
  rw[jX (by simp),z];rfl
theorem Cn{row:List Int}{a:Nat}(h:nth row a≠0):0<nth (g8 row a) a:=by
 unfold g8
 split
 ·assumption
 ·rw[jX (by simp)];omega
theorem DP(n:Nat)(row:List Int)(a:Nat)(x:Nat->Int):dO n (g8 row a) x=0↔dO n row x=0:=by
 obtain⟨g,hg,e⟩:=wH row a
 have:=nX (n:=n) (a:=g8 row a) (c:=row) e x
 rw[this]
 rcases hg with rfl | rfl <;> omega
section
variable {lead row : List Int} {a : Nat}
theorem qy(h:row.length=lead.length):(eX lead a row).length=row.length:=by
 unfold eX;split
 ·rfl
 ·exact mD h _ _
theorem qE(hl:0<nth lead a)(h:row.length=lead.length):∃g u:Int,0<g/\0<u/\∃v:Int,(nth row a=0->v=0)/\∀i,g*nth (eX lead a row) i=u*nth row i-v*nth lead i:=by
 unfold eX
 split
 ·exact⟨1,1,by omega,by omega,0,λ_=>rfl,λi=>by omega⟩
 ·rename_i hz
  obtain⟨g,hg,e⟩:=ng h (nth row a) (nth lead a)
  exact⟨g,nth lead a,hg,hl,nth row a,λz=>absurd z hz,λi=>by rw[e i];grind⟩
theorem za(hl:0<nth lead a)(h:row.length=lead.length):nth (eX lead a row) a=0:=by
 unfold eX
 split
 ·assumption
 ·obtain⟨g,hg,e⟩:=ng h (nth row a) (nth lead a)
  have:=e a
  have:g*nth (cI row (nth row a) lead (nth lead a)) a=0:=by rw[this];grind
  rcases Int.mul_eq_zero.mp this with z | z
  ·omega
  ·exact z
theorem uk(h:pA row):pA (eX lead a row):=by
 unfold eX
 split
 ·exact h
 ·exact rX _
theorem oS(hl:0<nth lead a)(h:row.length=lead.length){i:Nat}(h1:nth row i=0)(h2:nth lead i=0):nth (eX lead a row) i=0:=by
 obtain⟨g,u,hg,hu,v,_,e⟩:=qE hl h
 have:=e i
 rw[h1,h2] at this
 have:g*nth (eX lead a row) i=0:=by rw[this];grind
 rcases Int.mul_eq_zero.mp this with z | z
 ·omega
 ·exact z
theorem BY(hl:0<nth lead a)(h:row.length=lead.length){i:Nat}(h1:0<nth row i)(h2:nth lead i=0):0<nth (eX lead a row) i:=by
 obtain⟨g,u,hg,hu,v,_,e⟩:=qE hl h
 have e':=e i
 rw[h2] at e'
 have:0<g*nth (eX lead a row) i:=by
  rw[e']
  have:=Int.mul_pos hu h1
  omega
 by_cases hn:nth (eX lead a row) i<=0
 ·have:=Int.mul_nonpos_of_nonneg_of_nonpos (show 0<=g by omega) hn
  omega
 ·omega
theorem pI(n:Nat)(hl:0<nth lead a)(h:row.length=lead.length){x:Nat->Int}(hx:dO n lead x=0):dO n (eX lead a row) x=0↔dO n row x=0:=by
 obtain⟨g,u,hg,hu,v,_,e⟩:=qE hl h
 have:=vz (n:=n) (c:=eX lead a row) (a:=row) (b:=lead) (g:=g) (u:=u) (v:= -v) (λi=>by rw[e i];grind) x
 rw[hx] at this
 constructor
 ·intro z
  rw[z] at this
  have:u*dO n row x=0:=by omega
  rcases Int.mul_eq_zero.mp this with q | q
  ·omega
  ·exact q
 ·intro z
  rw[z] at this
  have:g*dO n (eX lead a row) x=0:=by omega
  rcases Int.mul_eq_zero.mp this with q | q
  ·omega
  ·exact q
end
structure PSt(n a:Nat)(left:List (List Int))(P:List (Nat×List Int)):Prop where
 ll:∀r∈left,r.length=n
 lz:∀r∈left,∀i,i<a->nth r i=0
 lw:∀r∈left,pA r
 pl:Pl n P
 pa:∀p∈P,p.1<a
theorem xF(left:List (List Int))(a k:Nat):nth (left.map (nth · a)) k=nth (left.getD k []) a:=by
 unfold nth
 simp only[List.getD_eq_getElem?_getD,List.getElem?_map]
 cases left[k]? with
 | none=>rfl
 | some r=>rfl
theorem getD_mem{left:List (List Int)}{k:Nat}(h:k<left.length):left.getD k []∈left:=by
 rw[List.getD_eq_getElem?_getD,List.getElem?_eq_getElem h]
 exact List.getElem_mem h
theorem sM:∀{l:List (List Int)} {k:Nat} (h:k<l.length),l.Perm (l[k]::l.eraseIdx k)
 | [],k,h=>by simp at h
 | a::l,0,h=>by simp
 | a::l,k+1,h=>by
  have:=sM (l:=l) (k:=k) (by simpa using h)
  simp only[List.getElem_cons_succ,List.eraseIdx_cons_succ]
  exact(this.cons a).trans (List.Perm.swap _ _ _)
theorem D0{n a:Nat}(ha:a<n){left:List (List Int)}{P:List (Nat×List Int)}(h:PSt n a left P):
 ∃left' P',cR (left,P.map (·.2)) a=(left',P'.map (·.2))/\PSt n (a+1) left' P'/\left'.length+P'.length=left.length+P.length/\∀x,rJ n (P'.map (·.2)++left') x↔rJ n (P.map (·.2)++left) x:=by
 unfold cR
 dsimp only
 split
 ·rename_i e
  refine⟨left,P,rfl,⟨h.ll,λr hr i hi=> ?_,h.lw,h.pl,λp hp=>Nat.lt_succ_of_lt (h.pa p hp)⟩,rfl,λx=>Iff.rfl⟩
  by_cases hia:i=a
  ·subst hia
   exact lF e _ (List.mem_map.mpr ⟨r,hr,rfl⟩)
  ·exact h.lz r hr i (by omega)
 ·rename_i k e
  obtain⟨k1,k2,_⟩:=hX e
  rw[List.length_map] at k1
  rw[xF] at k2
  have hm:left.getD k []∈left:=getD_mem k1
  have hperm:left.Perm (left.getD k []::left.eraseIdx k):=by
   rw[List.getD_eq_getElem?_getD,List.getElem?_eq_getElem k1]
   exact sM k1
  generalize left.getD k []=row at *
  generalize hld:g8 row a=lead at *
  have ll:lead.length=n:=by rw[<- hld,xQ];exact h.ll row hm
  have lp:0<nth lead a:=by rw[<- hld];exact Cn k2
  have lz:∀i,i<a->nth lead i=0:=λi hi=>by
   obtain⟨g,_,e⟩:=wH row a
   rw[<- hld,e,h.lz row hm i hi];omega
  have lw:pA lead:=by rw[<- hld];exact AO (h.lw row hm)
  have sub:∀r∈left.eraseIdx k,r∈left:=λr hr=>List.mem_of_mem_eraseIdx hr
  refine⟨(left.eraseIdx k).map (eX lead a),P.map (λp=>(p.1,eX lead a p.2))++[(a,lead)], ?_,⟨?_, ?_, ?_,⟨?_, ?_⟩, ?_⟩, ?_, ?_⟩
  ·simp[Function.comp_def]
  ·intro r hr
   obtain⟨q,hq,rfl⟩:=List.mem_map.mp hr
   rw[qy (by rw[ll,h.ll q (sub q hq)]),h.ll q (sub q hq)]
  ·intro r hr i hi
   obtain⟨q,hq,rfl⟩:=List.mem_map.mp hr
   have hql:q.length=lead.length:=by rw[ll,h.ll q (sub q hq)]
   by_cases hia:i=a
   ·subst hia;exact za lp hql
   ·exact oS lp hql (h.lz q (sub q hq) i (by omega)) (lz i (by omega))
  ·intro r hr
   obtain⟨q,hq,rfl⟩:=List.mem_map.mp hr
   exact uk (h.lw q (sub q hq))
  ·intro p hp
   rcases List.mem_append.mp hp with hp | hp
   ·obtain⟨q,hq,rfl⟩:=List.mem_map.mp hp
    have g:=h.pl.good q hq
    have hql:q.2.length=lead.length:=by rw[ll,g.len]
    have pp:=BY lp hql g.pos (lz q.1 (h.pa q hq))
    exact⟨by rw[qy hql];exact g.len,g.lt,pp,λi hi=>oS lp hql (g.zero i hi) (lz i (Nat.lt_trans hi (h.pa q hq))),uk (λi _=>g.one) q.1 (by omega)⟩
   ·rw[List.mem_singleton.mp hp]
    exact⟨ll,ha,lp,lz,lw a (by omega)⟩
  ·rw[List.pairwise_append]
   refine⟨?_,by simp,λp hp q hq=> ?_⟩
   ·rw[List.pairwise_map]
    refine List.Pairwise.imp_of_mem (λ{p q} hp hq hpq=> ?_) h.pl.pw
    refine⟨hpq.1, ?_⟩
    have g:=h.pl.good p hp
    exact oS lp (by rw[ll,g.len]) hpq.2 (lz q.1 (h.pa q hq))
   ·obtain⟨p',hp',rfl⟩:=List.mem_map.mp hp
    rw[List.mem_singleton.mp hq]
    exact⟨h.pa p' hp',za lp (by rw[ll,(h.pl.good p' hp').len])⟩
  ·intro p hp
   rcases List.mem_append.mp hp with hp | hp
   ·obtain⟨q,hq,rfl⟩:=List.mem_map.mp hp
    exact Nat.lt_succ_of_lt (h.pa q hq)
   ·rw[List.mem_singleton.mp hp];exact Nat.lt_succ_self a
  ·have:=hperm.length_eq
   simp only[List.length_map,List.length_append,List.length_cons,List.length_nil] at *
   omega
  ·intro x
   have hlead:dO n lead x=0↔dO n row x=0:=by rw[<- hld];exact DP n row a x
   constructor
   ·intro hx r hr
    have h0:dO n lead x=0:=hx lead (by simp)
    rcases List.mem_append.mp hr with hr | hr
    ·obtain⟨p,hp,rfl⟩:=List.mem_map.mp hr
     exact(pI n lp (by rw[ll,(h.pl.good p hp).len]) h0).mp (hx _ (List.mem_append_left _ (List.mem_map.mpr ⟨(p.1,eX lead a p.2),by simp;exact .inl ⟨p.1,p.2,hp,rfl,rfl⟩,rfl⟩)))
    ·rcases List.mem_cons.mp (hperm.mem_iff.mp hr) with rfl | hr
     ·exact hlead.mp h0
     ·exact(pI n lp (by rw[ll,h.ll r (sub r hr)]) h0).mp (hx _ (List.mem_append_right _ (List.mem_map.mpr ⟨r,hr,rfl⟩)))
   ·intro hx r hr
    have h0:dO n lead x=0:=hlead.mpr (hx row (List.mem_append_right _ hm))
    rcases List.mem_append.mp hr with hr | hr
    ·obtain⟨q,hq,rfl⟩:=List.mem_map.mp hr
     rcases List.mem_append.mp hq with hq | hq
     ·obtain⟨p,hp,rfl⟩:=List.mem_map.mp hq
      exact(pI n lp (by rw[ll,(h.pl.good p hp).len]) h0).mpr (hx _ (List.mem_append_left _ (List.mem_map.mpr ⟨p,hp,rfl⟩)))
     ·rw[List.mem_singleton.mp hq];exact h0
    ·obtain⟨q,hq,rfl⟩:=List.mem_map.mp hr
     exact(pI n lp (by rw[ll,h.ll q (sub q hq)]) h0).mpr (hx _ (List.mem_append_right _ (sub q hq)))
theorem vC{n:Nat}{left:List (List Int)}(hl:∀r∈left,r.length=n)(hw:∀r∈left,pA r):∀a,a<=n->
 ∃left' P',(List.range a).foldl cR (left,[])=(left',P'.map (·.2))/\PSt n a left' P'/\left'.length+P'.length=left.length/\∀x,rJ n (P'.map (·.2)++left') x↔rJ n left x
 | 0,_=>⟨left,[],rfl,⟨hl,λ_ _ i hi=>by omega,hw,⟨by simp,by simp⟩,by simp⟩,by simp,λx=>by simp⟩
 | a+1,ha=>by
  obtain⟨l1,P1,e1,s1,c1,n1⟩:=vC hl hw a (by omega)
  obtain⟨l2,P2,e2,s2,c2,n2⟩:=D0 (by omega) s1
  refine⟨l2,P2, ?_,s2,by omega,λx=>(n2 x).trans (n1 x)⟩
  rw[List.range_succ,List.foldl_append,e1]
  exact e2
end M
set_option maxRecDepth 100000
set_option maxHeartbeats 4000000
namespace M
def bx(n:Nat)(f g:Nat->Int):Int:=cH n λi=>f i*g i
theorem eM(n:Nat)(f g:Nat->Int):bx n f g=bx n g f:=eK λi _=>Int.mul_comm _ _
theorem wo(n:Nat)(r:List Int)(x:Nat->Int):dO n r x=bx n (nth r) x:=rfl
theorem wR{n:Nat}{a b c:Nat->Int}{g u v:Int}(h:∀i,i<n->g*c i=u*a i+v*b i)(x:Nat->Int):g*bx n c x=u*bx n a x+v*bx n b x:=by
 unfold bx
 rw[<- fO,<- fO,<- fO,<- rm]
 refine eK λi hi=> ?_
 have:=h i hi
 grind
theorem Aa{n:Nat}{a b:Nat->Int}{u v:Int}(x:Nat->Int):bx n x (λi=>u*a i+v*b i)=u*bx n x a+v*bx n x b:=by
 rw[eM n x a,eM n x b,eM,<- wR (g:=1) (c:=λi=>u*a i+v*b i) (λi _=>by omega) x]
 omega
theorem zm{n:Nat}{a b:Nat->Int}(h:∀i,i<n->a i=b i)(x:Nat->Int):bx n a x=bx n b x:=eK λi hi=>by rw[h i hi]
def pU(T:List Int)(R:List (List Int))(i:Nat):Int:=cH R.length λj=>nth T j*nth (R.getD j []) i
theorem AE(m n:Nat)(f:Nat->Nat->Int):cH m (λi=>cH n λj=>f i j)=cH n λj=>cH m λi=>f i j:=by
 induction m with
 | zero=>rw[j8 (n:=n) (f:=λj=>cH 0 λi=>f i j) λ_ _=>rfl];rfl
 | succ m ih=>simp only[cH];rw[rm,ih]
theorem CI(n:Nat)(T:List Int)(R:List (List Int))(x:Nat->Int):bx n (pU T R) x=cH R.length λj=>nth T j*dO n (R.getD j []) x:=by
 unfold bx pU
 have:∀i,(cH R.length λj=>nth T j*nth (R.getD j []) i)*x i=cH R.length λj=>nth T j*(nth (R.getD j []) i*x i):=λi=>by
  rw[Int.mul_comm,<- fO]
  refine eK λj _=>by grind
 rw[eK λi _=>this i,AE]
 refine eK λj _=> ?_
 unfold dO
 rw[<- fO]
theorem u4{n:Nat}{T:List Int}{R:List (List Int)}{x:Nat->Int}(h:rJ n R x):bx n (pU T R) x=0:=by
 rw[CI]
 refine j8 λj hj=> ?_
 rw[h _ (getD_mem hj)]
 omega
def tV(n:Nat)(R:List (List Int))(x:Nat->Int):Prop:=∃k:Int,k≠0/\∃T:List Int,T.length=R.length/\∀i,i<n->k*x i=pU T R i
theorem tV.dot{n:Nat}{R:List (List Int)}{x y:Nat->Int}(h:tV n R x)(hy:rJ n R y):bx n x y=0:=by
 obtain⟨k,hk,T,_,e⟩:=h
 have h1:k*bx n x y=1*bx n (pU T R) y+0*bx n x y:=wR (g:=k) (c:=x) (a:=pU T R) (b:=x) (u:=1) (v:=0) (λi hi=>by rw[e i hi];omega) y
 rw[u4 hy] at h1
 have:k*bx n x y=0:=by omega
 rcases Int.mul_eq_zero.mp this with z | z
 ·exact absurd z hk
 ·exact z
def fE(n a:Nat):List Int:=(List.replicate n 0).set a 1
theorem gk{n a:Nat}(ha:a<n)(i:Nat):nth (fE n a) i=if i=a then 1 else 0:=by
 unfold fE nth
 rw[List.getD_eq_getElem?_getD,List.getElem?_set]
 by_cases h:a=i
 ·subst h;simp[ha]
 ·rw[if_neg h,if_neg (λz=>h z.symm)]
  rw[List.getElem?_replicate]
  split <;> rfl
def fG(n:Nat):List (List Int):=(List.range n).map (fE n)
def ax(a b:List Int):Int:=(List.zipWith (· * ·) a b).sum
def ku(lists:List (List Int))(row:List Int):List (List Int):=
 match cT (lists.map (ax row)) with
 | none=>lists
 | some k=>(lists.eraseIdx k).map λone=>cI one (ax row one) (lists.getD k []) (ax row (lists.getD k []))
theorem rM:∀(a b:List Int),ax a b=cH b.length λi=>nth a i*nth b i
 | _,[]=>by unfold ax;simp[cH]
 | [],b::r=>by
  unfold ax
  rw[j8 λi _=>by unfold nth;simp]
  simp
 | a::l,b::r=>by
  have ih:=rM l r
  unfold ax at *
  rw[List.zipWith_cons_cons,List.sum_cons,ih,List.length_cons]
  have:∀(n:Nat) (f:Nat->Int),cH (n+1) f=f 0+cH n λi=>f (i+1):=by
   intro n f
   induction n with
   | zero=>simp[cH]
   | succ n ih2=>rw[cH,ih2,cH];omega
  rw[this]
  congr 1
theorem ko{n:Nat}{a b:List Int}(hb:b.length=n):ax a b=bx n (nth a) (nth b):=by rw[rM,hb];rfl
structure SSt(n:Nat)(R lists:List (List Int)):Prop where
 len:∀l∈lists,l.length=n
 nul:∀r∈R,∀l∈lists,bx n (nth r) (nth l)=0
 spn:∀x,rJ n lists x->tV n R x
end M
set_option maxRecDepth 100000
set_option maxHeartbeats 4000000
namespace M
theorem Pl.other{n:Nat}{P:List (Nat×List Int)}(pl:Pl n P):∀{p q:Nat×List Int},p∈P->q∈P->p.1≠q.1->nth p.2 q.1=0:=by
 intro p q hp hq hne
 by_cases h:q.1<p.1
 ·exact(pl.good p hp).zero _ h
 ·have:∀{P:List (Nat×List Int)},P.Pairwise (λp q=>p.1<q.1/\nth p.2 q.1=0)->p∈P->q∈P->p.1<q.1->nth p.2 q.1=0:=by
   intro P pw hp hq hlt
   induction P with
   | nil=>cases hp
   | cons r P ih=>
    have h0:=List.pairwise_cons.mp pw
    rcases List.mem_cons.mp hp with rfl | hp
    ·rcases List.mem_cons.mp hq with rfl | hq
     ·omega
     ·exact(h0.1 q hq).2
    ·rcases List.mem_cons.mp hq with rfl | hq
     ·have:=(h0.1 p (by assumption)).1;omega
     ·exact ih h0.2 hp hq
  exact this pl.pw hp hq (by omega)
theorem xp(a:Int)(r:List Int):bO (r.map (a * ·))=a.natAbs*bO r:=by
 unfold bO
 have:∀(l:List Int) (c:Nat),(l.map (a * ·)).foldl (λc n=>Nat.gcd c n.natAbs) (a.natAbs*c)=a.natAbs*l.foldl (λc n=>Nat.gcd c n.natAbs) c:=by
  intro l
  induction l with
  | nil=>intro c;rfl
  | cons b l ih=>intro c;simp only[List.map_cons,List.foldl_cons,Int.natAbs_mul,Nat.gcd_mul_left];exact ih _
 exact this r 0
theorem oK{r s:List Int}(hl:r.length=s.length)(h:∀i,i<r.length->nth r i=nth s i):r=s:=by
 refine List.ext_getElem hl λi h1 h2=> ?_
 have:=h i h1
 unfold nth at this
 simpa[List.getD_eq_getElem?_getD,h1,h2] using this
theorem EZ{r s:List Int}(hl:r.length=s.length)(h1:bO r=1)(h2:bO s=1){a b:Int}(ha:0<a)(hb:0<b)(h:∀i,i<r.length->a*nth r i=b*nth s i):r=s:=by
 have e:r.map (a * ·)=s.map (b * ·):=oK (by simp[hl]) λi hi=>by
  rw[jX (by simp),jX (by simp)];exact h i (by simpa using hi)
 have e2:=xp a r
 rw[e,xp,h1,h2] at e2
 have hab:a=b:=by omega
 subst hab
 exact oK hl λi hi=>Int.eq_of_mul_eq_mul_left (by omega) (h i hi)
end M
set_option maxRecDepth 100000
set_option maxHeartbeats 4000000
namespace M
def SzL(b:Nat)(r:List Int):Prop:=∀x∈r,Sz b x
def fe(b:Nat)(R:List (List Int)):Prop:=∀r∈R,SzL b r
theorem SzL.mono{b c:Nat}{r:List Int}(h:SzL b r)(hbc:b<=c):SzL c r:=λx hx=>(h x hx).mono hbc
theorem fe.mono{b c:Nat}{r:List (List Int)}(h:fe b r)(hbc:b<=c):fe c r:=λx hx=>(h x hx).mono hbc
theorem Sz.zero(b:Nat):Sz b 0:=by unfold Sz;simp;exact Nat.two_pow_pos b
theorem SzL.nth{b:Nat}{r:List Int}(h:SzL b r)(i:Nat):Sz b (M.nth r i):=by
 by_cases hi:i<r.length
 ·exact h _ (cU hi)
 ·rw[cJ (by omega)];exact Sz.zero b
theorem SzL.low{b:Nat}{r:List Int}(h:SzL b r):SzL b (M.low r):=by
 intro x hx
 unfold M.low at hx
 split at hx
 ·exact h x hx
 ·obtain⟨y,hy,rfl⟩:=List.mem_map.mp hx
  exact Nat.lt_of_le_of_lt (Int.natAbs_ediv_le_natAbs y _) (h y hy)
theorem SzL.mix{b1 b2 bv bw:Nat}{one other:List Int}{v w:Int}(h1:SzL b1 one)(h2:SzL b2 other)(hv:Sz bv v)(hw:Sz bw w):SzL (max (b1+bw) (b2+bv)+1) (i3 one v other w):=by
 intro x hx
 unfold i3 at hx
 obtain⟨i,hi,e⟩:=List.getElem_of_mem hx
 rw[List.getElem_zipWith] at e
 subst e
 exact Sz.sub (Sz.mul (h1 _ (List.getElem_mem _)) hw) (Sz.mul (h2 _ (List.getElem_mem _)) hv)
theorem SzL.off{b1 b2 bv bw:Nat}{one other:List Int}{v w:Int}(h1:SzL b1 one)(h2:SzL b2 other)(hv:Sz bv v)(hw:Sz bw w):SzL (max (b1+bw) (b2+bv)+1) (cI one v other w):=(SzL.mix h1 h2 hv hw).low
theorem SzL.sgn{b:Nat}{r:List Int}(h:SzL b r)(a:Nat):SzL b (g8 r a):=by
 unfold g8
 split
 ·exact h
 ·intro x hx
  obtain⟨y,hy,rfl⟩:=List.mem_map.mp hx
  exact(h y hy).neg
theorem SzL.clr{b:Nat}{row lead:List Int}(h1:SzL b row)(h2:SzL b lead)(a:Nat):SzL (2*b+1) (eX lead a row):=by
 unfold eX
 split
 ·exact h1.mono (by omega)
 ·exact(SzL.off h1 h2 (h1.nth a) (h2.nth a)).mono (by omega)
theorem oV{b a:Nat}{left done:List (List Int)}(h1:fe b left)(h2:fe b done):fe (2*b+1) (cR (left,done) a).1/\fe (2*b+1) (cR (left,done) a).2:=by
 unfold cR
 dsimp only
 split
 ·exact⟨h1.mono (by omega),h2.mono (by omega)⟩
 ·rename_i k e
  have k1:=(hX e).1
  rw[List.length_map] at k1
  have hl:SzL b (g8 (left.getD k []) a):=SzL.sgn (h1 _ (getD_mem k1)) a
  refine⟨λr hr=> ?_,λr hr=> ?_⟩
  ·obtain⟨q,hq,rfl⟩:=List.mem_map.mp hr
   exact SzL.clr (h1 q (List.mem_of_mem_eraseIdx hq)) hl a
  ·rcases List.mem_append.mp hr with hr | hr
   ·obtain⟨q,hq,rfl⟩:=List.mem_map.mp hr
    exact SzL.clr (h2 q hq) hl a
   ·rw[List.mem_singleton.mp hr];exact hl.mono (by omega)
def grow(b p:Nat):Nat:=2^p*(b+1)-1
theorem AD(b:Nat):grow b 0=b:=by unfold grow;simp
theorem ux(b p:Nat):2*grow b p+1=grow b (p+1):=by
 unfold grow
 have h:0<2^p*(b+1):=Nat.mul_pos (Nat.two_pow_pos p) (Nat.succ_pos b)
 have e:2^(p+1)*(b+1)=2*(2^p*(b+1)):=by rw[Nat.pow_succ,Nat.mul_comm (2^p) 2,Nat.mul_assoc]
 rw[e]
 omega
theorem oa{a:Nat}{left done:List (List Int)}:((cR (left,done) a)=(left,done))\/(cR (left,done) a).2.length=done.length+1:=by
 unfold cR
 dsimp only
 split
 ·exact .inl rfl
 ·exact .inr (by simp)
structure PSz(n b a:Nat)(rows:List (List Int))(left done:List (List Int)):Prop where
 eq:(List.range a).foldl cR (rows.map low,[])=(left,done)
 ll:∀r∈left,r.length=n
 dl:∀r∈done,r.length=n
 cnt:left.length+done.length=rows.length
 ls:fe (grow b done.length) left
 ds:fe (grow b done.length) done
theorem PSz.start{n b:Nat}{rows:List (List Int)}(hl:∀r∈rows,r.length=n)(hs:fe b rows):PSz n b 0 rows (rows.map low) []:=by
 refine⟨rfl,λr hr=> ?_,by simp,by simp,λr hr=> ?_,λr hr=>by cases hr⟩
 ·obtain⟨q,hq,rfl⟩:=List.mem_map.mp hr
  rw[low_length];exact hl q hq
 ·obtain⟨q,hq,rfl⟩:=List.mem_map.mp hr
  rw[List.length_nil,AD]
  exact(hs q hq).low
theorem PSz.step{n b a:Nat}{rows left done:List (List Int)}(h:PSz n b a rows left done)(hl:∀r∈rows,r.length=n)(ha:a<n):PSz n b (a+1) rows (cR (left,done) a).1 (cR (left,done) a).2:=by
 have eq':(List.range (a+1)).foldl cR (rows.map low,[])=cR (left,done) a:=by
  rw[List.range_succ,List.foldl_append,h.eq];rfl
 obtain⟨l',P',e,s,c,_⟩:=vC (n:=n) (left:=rows.map low) (λr hr=>by
  obtain⟨q,hq,rfl⟩:=List.mem_map.mp hr
  rw[low_length];exact hl q hq) (λr hr=>by
  obtain⟨q,hq,rfl⟩:=List.mem_map.mp hr
  exact rX q) (a+1) (by omega)
 rw[eq'] at e
 refine⟨eq',λr hr=> ?_,λr hr=> ?_, ?_, ?_, ?_⟩
 ·rw[e] at hr;exact s.ll r hr
 ·rw[e] at hr
  obtain⟨p,hp,rfl⟩:=List.mem_map.mp hr
  exact(s.pl.good p hp).len
 ·rw[e];simp;simpa using c
 ·rcases oa (a:=a) (left:=left) (done:=done) with q | q
  ·rw[q];exact h.ls
  ·rw[q,<- ux];exact(oV h.ls h.ds).1
 ·rcases oa (a:=a) (left:=left) (done:=done) with q | q
  ·rw[q];exact h.ds
  ·rw[q,<- ux];exact(oV h.ls h.ds).2
theorem PSz.done{n b:Nat}{rows left done:List (List Int)}(h:PSz n b n rows left done):A4 rows n=done:=by unfold A4;rw[h.eq]
end M
set_option maxRecDepth 100000
set_option maxHeartbeats 4000000
namespace M
open PySem PySem.Spec PyProof.Rows L2
section
variable {s s1 : S} {d : D}
@[simp] theorem EB (m:AM) (s:S):mm m s=(m s).bind λx=>match x.1 with
 | [.lst as,.lst bs]=>.ok ((iV as bs,none),x.2)
 | _=>.bad:=rfl
@[simp] theorem oi (m:AM) (s:S):dB m s=(m s).bind λx=>match x.1 with
 | [.lst as]=>.ok ((gY as,none),x.2)
 | _=>.bad:=rfl
@[simp] theorem IC (m:EM) (s:S):Ia m s=(m s).bind λx=>match x.1 with
 | .str z=>.ok ((A6 z,none),x.2)
 | _=>.bad:=rfl
@[simp] theorem HE (f g:Op2) (a b c:EM) (s:S):Gk f g a b c s=(a s).bind λx=>(b x.2).bind λy=>(f y.2.o x.1 y.1).bind λz=>match z with
 | .bl true=>(c y.2).bind λw=>(g w.2.o y.1 w.1).bind λd=>.ok (d,w.2)
 | .bl false=>.ok (.bl false,y.2)
 | _=>.bad:=rfl
@[simp] theorem CZ (n:Nat) (f:FM) (m:AM) (s:S):bo n f m s=(m s).bind λx=>if x.1.length=n then (match f x.1 x.2.o with
 | .ok (d,O1)=>.ok (d,⟨x.2.r,O1⟩)
 | _=>.bad) else .bad:=rfl
@[simp] theorem IZ (m:EM) (s:S):Ii m s=(m s).bind λx=>match lsD x.2.o x.1 with
 | some ds=>.ok (!ds.isEmpty,x.2)
 | none=>.bad:=rfl
@[simp] theorem Er (fin:S->List D->Res (D×S)) (ma:AM) (mk:EM) (s:S):vP fin ma mk s=(ma s).bind λx=>if x.1.length<=16777216 then (mk x.2).bind λy=>match y.1 with
 | .int k=>if (-(2^63)<=k/\k<2^63)/\x.1.length*k.toNat<=16777216 then fin y.2 (zV k x.1) else .bad
 | _=>.bad
 else .bad:=rfl
@[simp] theorem Ja (s:S) (ds:List D):Im s ds=.ok (.lst ds,s):=rfl
@[simp] theorem yP (s:S) (ds:List D):ou s ds=.ok (.ptr s.o.length,⟨s.r,s.o++[.lst ds]⟩):=rfl
@[simp] theorem IS (O:au):isD O .non .non=.ok (.bl true):=rfl
@[simp] theorem IT (O:au) (i:Int):isD O (.int i) .non=.ok (.bl false):=rfl
@[simp] theorem I0 (O:au) (i:List D):isD O (.lst i) .non=.ok (.bl false):=rfl
@[simp] theorem IE (O:au) (i:List D):isD O (.tup i) .non=.ok (.bl false):=rfl
@[simp] theorem Hk (O:au):sG O .non .non=.ok (.bl false):=rfl
@[simp] theorem GY (O:au) (i:Int):sG O (.int i) .non=.ok (.bl true):=rfl
@[simp] theorem Hh (O:au) (i:List D):sG O (.lst i) .non=.ok (.bl true):=rfl
@[simp] theorem G8 (O:au) (i:List D):sG O (.tup i) .non=.ok (.bl true):=rfl
@[simp] theorem CJ (g h:GM) (a b:D) (s:S):dM (ba g (ba h ei)) 2 (.tup [a,b]) s=(g a s).bind λs1=>h b s1:=by
 show (g a s).bind (λs1=>(h b s1).bind λs2=>.ok s2)=_
 congr 1
 funext s1
 cases h b s1 <;> rfl
@[simp] theorem xO (ns:List Int):kj (ns.map D.int)=some ns:=by
 induction ns with
 | nil=>rfl
 | cons n ns ih=>rw[List.map_cons,kj,ih];rfl
@[simp] theorem qv (ns:List Bool):ix (ns.map D.bl)=some ns:=by
 induction ns with
 | nil=>rfl
 | cons n ns ih=>rw[List.map_cons,ix,ih];rfl
@[simp] theorem pj (O:au) (ns:List Int):tS O [.lst (ns.map D.int)]=.ok (.int ns.sum):=by
 show (match kj (ns.map D.int) with
  | some ns=>Res.ok (D.int ns.sum)
  | none=>.bad)=_
 rw[xO]
@[simp] theorem BK (O:au) (ns:List Bool):zM O [.lst (ns.map D.bl)]=.ok (.bl (ns.all id)):=by
 show (match ix (ns.map D.bl) with
  | some ns=>Res.ok (D.bl (ns.all id))
  | none=>.bad)=_
 rw[qv]
@[simp] theorem n6 (O:au) (ns:List Bool):zF O [.lst (ns.map D.bl)]=.ok (.bl (ns.any id)):=by
 show (match ix (ns.map D.bl) with
  | some ns=>Res.ok (D.bl (ns.any id))
  | none=>.bad)=_
 rw[qv]
end
theorem mE {α:Type} {ok:au->Prop} {g:GM} {c:TM} {e:EM} {O:au} (hok:ok O) (item:α->D) (P:S->Prop) (hP:∀s,P s->s.o=O) (l:List α) (p:α->Bool) (out:α->D)
 (step:∀a∈l,∀s,P s->∃s1 s2,g (item a) s=.ok s1/\c s1=.ok (p a,s2)/\(p a=false->P s2)/\(p a=true->∃s3,e s2=.ok (out a,s3)/\P s3)):
 ∀(acc:List D) (s:S),acc.length+l.length<=16777216->P s->∃s',cE ok g c e (l.map item) acc s=.ok (acc++(l.filter p).map out,s')/\P s':=by
 induction l with
 | nil=>
  intro acc s _ h
  exact⟨s,by rw[List.map_nil,cE,if_pos (by rw[hP s h];exact hok)];simp,h⟩
 | cons a l ih=>
  intro acc s hl h
  rw[List.length_cons] at hl
  obtain⟨s1,s2,e1,e2,h2,h3⟩:=step a List.mem_cons_self s h
  rw[List.map_cons,cE,if_pos ⟨by rw[hP s h];exact hok,by omega⟩,e1,ak,e2,ak]
  cases hp:p a with
  | false=>
   obtain⟨s',e3,h4⟩:=ih (λb hb=>step b (List.mem_cons_of_mem _ hb)) acc s2 (by omega) (h2 hp)
   refine⟨s', ?_,h4⟩
   rw[List.filter_cons_of_neg (by simp[hp])]
   simpa using e3
  | true=>
   obtain⟨s3,e3,h4⟩:=h3 hp
   obtain⟨s',e5,h5⟩:=ih (λb hb=>step b (List.mem_cons_of_mem _ hb)) (acc++[out a]) s3 (by rw[List.length_append,List.length_singleton];omega) h4
   refine⟨s', ?_,h5⟩
   rw[List.filter_cons_of_pos hp]
   simp only[if_true,e3,ak,e5]
   simp
section
variable {α : Type} {caps : List Nat} {im : IM} {c : TM} {e : EM} {s : S} {k : Option Nat} {l : List α} {item out : α → D} {p : α → Bool}
theorem wD (him:im s=.ok ((l.map item,k),s)) (hok:okC (l.map item) k s.o) (hl:l.length<=16777216)
 (hc:∀a∈l,c ⟨some (item a)::caps.map (λi=>(s.r[i]?).getD none),s.o⟩=.ok (p a,⟨some (item a)::caps.map (λi=>(s.r[i]?).getD none),s.o⟩))
 (he:∀a∈l,p a=true->e ⟨some (item a)::caps.map (λi=>(s.r[i]?).getD none),s.o⟩=.ok (out a,⟨some (item a)::caps.map (λi=>(s.r[i]?).getD none),s.o⟩)):
 j3 1 caps im (aH 0) c e s=.ok ((l.filter p).map out,s):=by
 obtain⟨s',e1,x,h1⟩:=mE (ok:=okC (l.map item) k) (g:=aH 0) (c:=c) (e:=e) (O:=s.o) hok item (λs2=>∃x,s2=⟨x::caps.map (λi=>(s.r[i]?).getD none),s.o⟩) (by rintro _ ⟨_,rfl⟩;rfl) l p out (by
  rintro a ha _ ⟨x,rfl⟩
  exact⟨_,_,rfl,hc a ha,λ_=>⟨_,rfl⟩,λhp=>⟨_,he a ha hp,_,rfl⟩⟩) [] ⟨jo 1 caps s.r,s.o⟩ (by simpa using hl) ⟨none,rfl⟩
 rw[lE,him,ak]
 dsimp only
 rw[e1,ak]
 subst h1
 rfl
theorem vY {f g:α->D} (him:im s=.ok ((l.map (λa=>D.tup [f a,g a]),k),s)) (hok:okC (l.map (λa=>D.tup [f a,g a])) k s.o) (hl:l.length<=16777216)
 (hc:∀a∈l,c ⟨some (f a)::some (g a)::caps.map (λi=>(s.r[i]?).getD none),s.o⟩=.ok (p a,⟨some (f a)::some (g a)::caps.map (λi=>(s.r[i]?).getD none),s.o⟩))
 (he:∀a∈l,p a=true->e ⟨some (f a)::some (g a)::caps.map (λi=>(s.r[i]?).getD none),s.o⟩=.ok (out a,⟨some (f a)::some (g a)::caps.map (λi=>(s.r[i]?).getD none),s.o⟩)):
 j3 2 caps im (dM (ba (aH 0) (ba (aH 1) ei)) 2) c e s=.ok ((l.filter p).map out,s):=by
 obtain⟨s',e1,x,y,h1⟩:=mE (ok:=okC (l.map (λa=>D.tup [f a,g a])) k) (g:=dM (ba (aH 0) (ba (aH 1) ei)) 2) (c:=c) (e:=e) (O:=s.o) hok (λa=>D.tup [f a,g a]) (λs2=>∃x y,s2=⟨x::y::caps.map (λi=>(s.r[i]?).getD none),s.o⟩) (by rintro _ ⟨_,_,rfl⟩;rfl) l p out (by
  rintro a ha _ ⟨x,y,rfl⟩
  exact⟨_,_,by simp,hc a ha,λ_=>⟨_,_,rfl⟩,λhp=>⟨_,he a ha hp,_,_,rfl⟩⟩) [] ⟨jo 2 caps s.r,s.o⟩ (by simpa using hl) ⟨none,none,rfl⟩
 rw[lE,him,ak]
 dsimp only
 rw[e1,ak]
 subst h1
 rfl
theorem j6(l:List α):l.filter (λ_=>true)=l:=by simp
theorem iK (him:im s=.ok ((l.map item,k),s)) (hok:okC (l.map item) k s.o) (hl:l.length<=16777216)
 (he:∀a∈l,e ⟨some (item a)::caps.map (λi=>(s.r[i]?).getD none),s.o⟩=.ok (out a,⟨some (item a)::caps.map (λi=>(s.r[i]?).getD none),s.o⟩)):
 cM 1 caps im (aH 0) bZ e s=.ok (.lst (l.map out),s):=by
 rw[jP,wD (p:=λ_=>true) him hok hl (λ_ _=>rfl) (λa ha _=>he a ha),ak,j6]
theorem DV (him:im s=.ok ((l.map item,k),s)) (hok:okC (l.map item) k s.o) (hl:l.length<=16777216)
 (hc:∀a∈l,c ⟨some (item a)::caps.map (λi=>(s.r[i]?).getD none),s.o⟩=.ok (p a,⟨some (item a)::caps.map (λi=>(s.r[i]?).getD none),s.o⟩))
 (he:∀a∈l,p a=true->e ⟨some (item a)::caps.map (λi=>(s.r[i]?).getD none),s.o⟩=.ok (out a,⟨some (item a)::caps.map (λi=>(s.r[i]?).getD none),s.o⟩)):
 cM 1 caps im (aH 0) c e s=.ok (.lst ((l.filter p).map out),s):=by
 rw[jP,wD him hok hl hc he,ak]
theorem wc {f g:α->D} (him:im s=.ok ((l.map (λa=>D.tup [f a,g a]),k),s)) (hok:okC (l.map (λa=>D.tup [f a,g a])) k s.o) (hl:l.length<=16777216)
 (he:∀a∈l,e ⟨some (f a)::some (g a)::caps.map (λi=>(s.r[i]?).getD none),s.o⟩=.ok (out a,⟨some (f a)::some (g a)::caps.map (λi=>(s.r[i]?).getD none),s.o⟩)):
 cM 2 caps im (dM (ba (aH 0) (ba (aH 1) ei)) 2) bZ e s=.ok (.lst (l.map out),s):=by
 rw[jP,vY (p:=λ_=>true) him hok hl (λ_ _=>rfl) (λa ha _=>he a ha),ak,j6]
theorem yA {f g:α->D} (him:im s=.ok ((l.map (λa=>D.tup [f a,g a]),k),s)) (hok:okC (l.map (λa=>D.tup [f a,g a])) k s.o) (hl:l.length<=16777216)
 (hc:∀a∈l,c ⟨some (f a)::some (g a)::caps.map (λi=>(s.r[i]?).getD none),s.o⟩=.ok (p a,⟨some (f a)::some (g a)::caps.map (λi=>(s.r[i]?).getD none),s.o⟩))
 (he:∀a∈l,p a=true->e ⟨some (f a)::some (g a)::caps.map (λi=>(s.r[i]?).getD none),s.o⟩=.ok (out a,⟨some (f a)::some (g a)::caps.map (λi=>(s.r[i]?).getD none),s.o⟩)):
 cM 2 caps im (dM (ba (aH 0) (ba (aH 1) ei)) 2) c e s=.ok (.lst ((l.filter p).map out),s):=by
 rw[jP,vY him hok hl hc he,ak]
theorem Aq (him:im s=.ok ((l.map item,k),s)) (hok:okC (l.map item) k s.o) (hl:l.length<=16777216)
 (he:∀a∈l,e ⟨some (item a)::caps.map (λi=>(s.r[i]?).getD none),s.o⟩=.ok (out a,⟨some (item a)::caps.map (λi=>(s.r[i]?).getD none),s.o⟩)):
 jy 1 caps im (aH 0) bZ e s=.ok (.ptr s.o.length,⟨s.r,s.o++[.lst (l.map out)]⟩):=by
 rw[qN,wD (p:=λ_=>true) him hok hl (λ_ _=>rfl) (λa ha _=>he a ha),ak,j6]
end
abbrev vI(r:List Int):D:=.lst (r.map .int)
abbrev vII(R:List (List Int)):D:=.lst (R.map vI)
@[simp] theorem kf (R:List (List Int)):aX (R.map vI)=true:=by
 induction R with
 | nil=>rfl
 | cons r R ih=>simp[ih]
theorem mf(as bs:List Int):iV (as.map D.int) (bs.map D.int)=(as.zip bs).map λp=>.tup [.int p.1,.int p.2]:=by
 unfold iV
 rw[List.zipWith_map,List.zip_eq_zipWith,List.map_zipWith]
theorem sL(as:List Int):gY (as.map D.int)=as.zipIdx.map λp=>.tup [.int (p.2:Int),.int p.1]:=by
 unfold gY
 rw[List.mapIdx_eq_zipIdx_map,List.zipIdx_map,List.map_map]
 rfl
theorem kL{O:au}{r:List Int}{i:Nat}(h:i<r.length):ixD O (vI r) (.int (i:Int))=.ok (.int (nth r i)):=by
 refine qe ?_
 rw[mY (by omega) (by simpa using h)]
 simp[nth,List.getD_eq_getElem?_getD,h]
theorem p7(n:Nat):dn 0 (n:Int)=(List.range n).map λi=>.int (i:Int):=by
 unfold dn
 simp
theorem pO{n:Nat}(h:n<=1000000):n<=16777216:=Nat.le_trans h (by decide)
theorem zip_map{f:Int->Int->Int}:∀(a b:List Int),(a.zip b).map (λp=>f p.1 p.2)=List.zipWith f a b
 | [],_=>by simp
 | _::_,[]=>by simp
 | x::a,y::b=>by simp[zip_map a b]
theorem yt(a b:List Int):(a.zip b).map (λp=>p.1*p.2)=List.zipWith (· * ·) a b:=zip_map a b
theorem Bn(n:Nat):zV (n:Int) [.int 0]=(List.replicate n (0:Int)).map D.int:=by
 unfold zV
 rw[show (n:Int).toNat=n from Int.toNat_natCast n]
 induction n with
 | zero=>rfl
 | succ n ih=>rw[List.replicate_succ,List.flatten_cons,ih];simp[List.replicate_succ]
theorem jS{mo mi:EM}{d:D}{s s1 s2:S}{k a:Nat}{ds:List D}(h1:mo s=.ok (.ptr k,s1))(h2:mi s1=.ok (.int (a:Int),s2))(h3:s2.o[k]? =some (.lst ds))(ha:a<ds.length):
 i4 mo mi d s=.ok ⟨s2.r,s2.o.set k (.lst (ds.set a d))⟩:=by
 unfold i4
 rw[h1,ak]
 dsimp only
 rw[h2,ak]
 dsimp only
 rw[nH h3]
 dsimp only
 have e:ixN ds.length (a:Int)=some a:=by
  unfold ixN
  rw[if_pos (by omega),if_pos (by omega)]
  simp
 rw[e]
theorem mM{m:EM}{i:Nat}{s s':S}{d:D}(h:m s=.ok (d,s')):setM i m s=.next ⟨s'.r.set i (some d),s'.o⟩:=by
 show ((m s).bind _).out _=_
 rw[h];rfl
theorem bQ{m:EM}{s s':S}{d:D}(h:m s=.ok (d,s')):bN m s=.ret d s':=by
 show (m s).out _=_
 rw[h];rfl
theorem vd{c:TM}{a b:SM}{s s':S}(h:c s=.ok (true,s')):ifS c a b s=a s':=by
 show (c s).out _=_
 rw[h];rfl
theorem vt{c:TM}{a b:SM}{s s':S}(h:c s=.ok (false,s')):ifS c a b s=b s':=by
 show (c s).out _=_
 rw[h];rfl
theorem fq{a b:SM}{s s':S}(h:a s=.next s'):aK a b s=b s':=by
 show (a s).then b=_
 rw[h];rfl
theorem lM{a b:SM}{s s':S}{d:D}(h:a s=.ret d s'):aK a b s=.ret d s':=by
 show (a s).then b=_
 rw[h];rfl
theorem G1{fin:S->List D->Res (D×S)}{mk:EM}{s:S}{n:Nat}(h:mk s=.ok (.int (n:Int),s))(hn:n<=1000000):vP fin (af (ao (.int 0)) aq) mk s=fin s ((List.replicate n (0:Int)).map D.int):=by
 rw[Er,iW,aM,ak,aC,ak,ak]
 dsimp only
 rw[if_pos (by decide),h,ak]
 dsimp only
 rw[if_pos ⟨⟨by omega,by omega⟩,by simp;omega⟩,Bn]
theorem xt{n:Nat}{f:FM}{ma:AM}{s s':S}{ds:List D}{d:D}{O:au}(h:ma s=.ok (ds,s'))(hp:aX ds=true)(hl:ds.length=n)(hf:f ds []=.ok (d,O))(hd:cx d=true):bI n f ma s=.ok (d,s'):=by
 rw[C1,h,ak,if_pos ⟨hp,hl⟩]
 dsimp only
 rw[hf]
 dsimp only
 rw[if_pos hd]
theorem jE{n:Nat}{f:FM}{ma:AM}{s s':S}{ds:List D}{d:D}{O:au}(h:ma s=.ok (ds,s'))(hl:ds.length=n)(hf:f ds s'.o=.ok (d,O)):bo n f ma s=.ok (d,⟨s'.r,O⟩):=by
 rw[CZ,h,ak,if_pos hl]
 dsimp only
 rw[hf]
theorem DN{mo me:EM}{s s1 s2:S}{k:Nat}{ds0 ds:List D}{d:D}(h1:mo s=.ok (.ptr k,s1))(c1:s1.o[k]? =some (.lst ds0))(h2:me s1=.ok (d,s2))(c2:s2.o[k]? =some (.lst ds))(hb:ds.length<=1000000):
 nR mo me s=.ok (.non,⟨s2.r,s2.o.set k (.lst (ds++[d]))⟩):=by
 rw[D5,h1,ak]
 dsimp only
 rw[nH c1]
 dsimp only
 rw[h2,ak]
 dsimp only
 rw[nH c2]
 dsimp only
 rw[if_pos (by omega)]
theorem lO{m:EM}{s s':S}{d:D}(h:m s=.ok (d,s')):iP m s=.next s':=by
 show (m s).out _=_
 rw[h];rfl
theorem Ec{m:EM}{s s':S}{k:Nat}{ds:List D}(h:m s=.ok (.ptr k,s'))(c:s'.o[k]? =some (.lst ds)):fM m s=.ok (.lst ds,⟨s'.r,s'.o.set k .dead⟩):=by
 rw[Eo,h,ak]
 dsimp only
 rw[nH c]
theorem df{O:au}{k j:Nat}{c:Cell}(h:k≠j):(O.set k c)[j]? =O[j]? :=List.getElem?_set_ne h
theorem cS{O:au}{k:Nat}{c c':Cell}(h:O[k]? =some c'):(O.set k c)[k]? =some c:=by
 rw[List.getElem?_set_self (List.getElem?_eq_some_iff.mp h).1]
theorem dH{O E:au}{k:Nat}{c:Cell}(h:O[k]? =some c):(O++E)[k]? =some c:=by
 rw[List.getElem?_append_left (List.getElem?_eq_some_iff.mp h).1];exact h
theorem jj{O:au}{c:Cell}:(O++[c])[O.length]? =some c:=by simp
theorem kq{O:au}{k:Nat}{c:Cell}(h:O[k]? =some c):k<O.length:=(List.getElem?_eq_some_iff.mp h).1
theorem yI(r:List Int):aX [vI r]=true:=by simp
theorem Gq{b:Nat}:∀(l:List Int) (k:Nat),(∀x∈l,x.natAbs<2^b)->l.length<=2^k->l.sum.natAbs<=l.length*2^b:=by
 intro l k h _
 induction l with
 | nil=>simp
 | cons a l ih=>
  rw[List.sum_cons,List.length_cons,Nat.succ_mul]
  have h1:=h a List.mem_cons_self
  have h2:=ih (λx hx=>h x (List.mem_cons_of_mem _ hx)) (by simp at *;omega)
  have:=Int.natAbs_add_le a l.sum
  omega
theorem px{b c:Nat}{row l:List Int}(hr:SzL c row)(hl:SzL b l)(hn:row.length<=1000):Sz (b+c+10) (ax row l):=by
 unfold ax
 have h:∀x∈List.zipWith (· * ·) row l,x.natAbs<2^(c+b):=λx hx=>by
  obtain⟨i,hi,e⟩:=List.getElem_of_mem hx
  rw[List.getElem_zipWith] at e
  subst e
  exact Sz.mul (hr _ (List.getElem_mem _)) (hl _ (List.getElem_mem _))
 have h2:=Gq (List.zipWith (· * ·) row l) 10 h (by rw[List.length_zipWith];simp;omega)
 unfold Sz
 have h3:(List.zipWith (· * ·) row l).length<=1000:=by rw[List.length_zipWith];omega
 have h4:(List.zipWith (· * ·) row l).length*2^(c+b)<=1000*2^(c+b):=Nat.mul_le_mul_right _ h3
 have h5:2^(b+c+10)=1024*2^(c+b):=by rw[Nat.pow_add,Nat.add_comm b c,Nat.mul_comm]
 have h6:0<2^(c+b):=Nat.two_pow_pos _
 rw[h5]
 omega
theorem oz{ok:au->Prop}{g:GM}{c:TM}{e:EM}(P:S->Prop)(G:D->Prop)(hok:∀s,P s->ok s.o):∀(ds acc:List D) (s:S),
 (∀d∈ds,∀s,P s->∃s1 s2 y s3,g d s=.ok s1/\c s1=.ok (true,s2)/\e s2=.ok (y,s3)/\G y/\P s3)->acc.length+ds.length<=16777216->P s->
 ∃outs s',cE ok g c e ds acc s=.ok (acc++outs,s')/\outs.length=ds.length/\(∀y∈outs,G y)/\P s'
 | [],acc,s,_,_,h=>⟨[],s,by rw[cE,if_pos (hok _ h)];simp,rfl,by simp,h⟩
 | d::ds,acc,s,step,hl,h=>by
  obtain⟨s1,s2,y,s3,e1,e2,e3,gy,h3⟩:=step d List.mem_cons_self s h
  rw[List.length_cons] at hl
  rw[cE,if_pos ⟨hok _ h,by omega⟩,e1,ak,e2,ak]
  obtain⟨outs,s',e4,h4,h5,h6⟩:=oz P G hok ds (acc++[y]) s3 (λd hd=>step d (List.mem_cons_of_mem _ hd)) (by rw[List.length_append,List.length_singleton];omega) h3
  refine⟨y::outs,s', ?_,by simp[h4], ?_,h6⟩
  ·simp only[if_true,e3,ak,e4]
   simp
  ·intro z hz
   rcases List.mem_cons.mp hz with rfl | hz
   ·exact gy
   ·exact h5 z hz
theorem tQ{Q:Int->Prop}:∀{outs:List D},(∀y∈outs,∃r,y=.int r/\Q r)->∃ns:List Int,outs=ns.map D.int/\∀n∈ns,Q n
 | [],_=>⟨[],rfl,by simp⟩
 | y::outs,h=>by
  obtain⟨r,rfl,hr⟩:=h y List.mem_cons_self
  obtain⟨ns,rfl,hn⟩:=tQ (outs:=outs) λz hz=>h z (List.mem_cons_of_mem _ hz)
  exact⟨r::ns,rfl,λn hn'=>by
   rcases List.mem_cons.mp hn' with rfl | q
   ·exact hr
   ·exact hn n q⟩
theorem AR {caps:List Nat} {im:IM} {e:EM} {s:S} {ds:List D} {k:Option Nat} (PO:au->Prop) (Q:Int->Prop) (him:im s=.ok ((ds,k),s)) (hok:∀O,PO O->okC ds k O) (h0:PO s.o) (hl:ds.length<=1000000)
 (he:∀d∈ds,∀O,PO O->∃r O',e ⟨some d::caps.map (λi=>(s.r[i]?).getD none),O⟩=.ok (.int r,⟨some d::caps.map (λi=>(s.r[i]?).getD none),O'⟩)/\Q r/\PO O'):
 ∃(ns:List Int) (O':au),cM 1 caps im (aH 0) bZ e s=.ok (vI ns,⟨s.r,O'⟩)/\ns.length=ds.length/\(∀n∈ns,Q n)/\PO O':=by
 obtain⟨outs,s',e1,h1,h2,x,O',h3,h4⟩:=oz (ok:=okC ds k) (g:=aH 0) (c:=bZ) (e:=e) (λs2=>∃x O',s2=⟨x::caps.map (λi=>(s.r[i]?).getD none),O'⟩/\PO O') (λy=>∃r,y=.int r/\Q r) (by rintro _ ⟨_,O',rfl,h⟩;exact hok O' h) ds [] ⟨jo 1 caps s.r,s.o⟩ (by
  rintro d hd _ ⟨x,O',rfl,h⟩
  obtain⟨r,O2,q1,q2,q3⟩:=he d hd O' h
  exact⟨_,_,.int r,_,rfl,rfl,q1,⟨r,rfl,q2⟩,_,O2,rfl,q3⟩) (by simpa using pO hl) ⟨none,s.o,rfl,h0⟩
 obtain⟨ns,rfl,hn⟩:=tQ h2
 refine⟨ns,O', ?_,by simpa using h1,hn,h4⟩
 rw[jP,lE,him,ak]
 dsimp only
 rw[e1,ak,ak]
 subst h3
 rfl
theorem B9{n:Nat}{f:FM}{ma:AM}{s s':S}{ds:List D}{d:D}{O1:au}(h:ma s=.ok (ds,s'))(hp:aX ds=true)(hl:ds.length=n)(hf:f ds []=.ok (d,O1)):eZ n f ma s=.ok (shD s'.o.length d,⟨s'.r,s'.o++O1.map (shC s'.o.length)⟩):=by
 rw[Cq,h,ak,if_pos ⟨hp,hl⟩]
 dsimp only
 rw[hf]
theorem m4{O:au}{k:Nat}{ds:List D}{i:Int}{d:D}(h:O[k]? =some (.lst ds))(hi:atI ds i=some d):ixD O (.ptr k) (.int i)=.ok d:=by
 show (match lsD O (D.ptr k) with
  | some ds=>match atI ds i with
   | some d=>Res.ok d
   | none=>.bad
  | none=>.bad)=_
 rw[kT h]
 dsimp only
 rw[hi]
theorem qZ{α:Type}{l:List α}{i:Nat}(h:i<l.length):atI l (i:Int)=some l[i]:=by
 rw[mY (by omega) (by omega)]
 simp
theorem E5{α:Type}{l:List α}{i:Nat}(h0:1<=i)(h:i<=l.length):atI l (-(i:Int))=some (l[l.length-i]'(by omega)):=by
 unfold atI ixN
 have e:(-(i:Int)+(l.length:Int)).toNat=l.length-i:=by omega
 rw[if_neg (by omega),if_pos (by omega),e]
 exact List.getElem?_eq_getElem _
theorem CT{O:au}{k:Nat}{ds:List D}(h:O[k]? =some (.lst ds)):ee O [.ptr k]=.ok (.int ds.length):=by
 unfold ee
 simp only[kT h]
theorem pC{m:EM}{s s':S}{i j:Int}(h:m s=.ok (.int i,s')):bh (aj gtD m (ao (.int j))) s=.ok (decide (j<i),s'):=by
 rw[tJ,jh,h,ak,aM,ak,yN,ak,ak]
theorem eq_test{m:EM}{s s':S}{i j:Int}(h:m s=.ok (.int i,s')):bh (aj eqD m (ao (.int j))) s=.ok (decide (i=j),s'):=by
 rw[tJ,jh,h,ak,aM,ak,kS,ak,ak]
theorem i9{O:au}{a b:List D}(h:a.length+b.length<=1000000):bK O (.lst a) (.lst b)=.ok (.lst (a++b)):=by
 show (if a.length+b.length<=16777216 then Res.ok (D.lst (a++b)) else .bad)=_
 rw[if_pos (pO h)]
theorem oU{ms:List Int}{n:Nat}(h:n<=ms.length):cutD (ms.map D.int) (some (n:Int)) none=(ms.drop n).map D.int:=by
 unfold cutD
 rw[HT.wd,HT.qi,List.length_map,Nat.min_eq_left h,<- List.map_drop,List.take_of_length_le (by simp)]
end M
set_option maxRecDepth 100000
set_option maxHeartbeats 4000000
namespace M
def tk(c e:Nat):Nat:=2^e*(c+12)-(c+11)
theorem Hd(c e:Nat):c+12<=2^e*(c+12):=Nat.le_mul_of_pos_left _ (Nat.two_pow_pos e)
theorem Eb(c:Nat):tk c 0=1:=by unfold tk;simp
theorem En(c e:Nat):2*tk c e+c+11=tk c (e+1):=by
 unfold tk
 have h:=Hd c e
 have e2:2^(e+1)*(c+12)=2*(2^e*(c+12)):=by rw[Nat.pow_succ,Nat.mul_comm (2^e) 2,Nat.mul_assoc]
 rw[e2]
 omega
structure wg(n c:Nat)(R lists:List (List Int))(e:Nat):Prop where
 eq:R.foldl ku (fG n)=lists
 ll:∀l∈lists,l.length=n
 cnt:lists.length+e=n
 sz:fe (tk c e) lists
theorem yM(n a:Nat):SzL 1 (fE n a):=by
 intro x hx
 unfold fE at hx
 rcases List.mem_or_eq_of_mem_set hx with h | h
 ·rw[List.eq_of_mem_replicate h];exact Sz.zero 1
 ·rw[h];unfold Sz;decide
theorem wg.start(n c:Nat):wg n c [] (fG n) 0:=by
 refine⟨rfl,λl hl=> ?_,by unfold fG;simp,λl hl=> ?_⟩
 ·obtain⟨a,_,rfl⟩:=List.mem_map.mp hl
  unfold fE;simp
 ·obtain⟨a,_,rfl⟩:=List.mem_map.mp hl
  rw[Eb];exact yM n a
theorem wg.step{n c e:Nat}{R lists:List (List Int)}{row:List Int}(h:wg n c R lists e)(hr:row.length=n)(hs:SzL c row)(hn:n<=1000):∃e',wg n c (R++[row]) (ku lists row) e':=by
 have eq':(R++[row]).foldl ku (fG n)=ku lists row:=by rw[List.foldl_append,h.eq];rfl
 unfold ku at *
 split
 ·rename_i e0
  rw[e0] at eq'
  exact⟨e,eq',h.ll,h.cnt,h.sz⟩
 ·rename_i k e0
  rw[e0] at eq'
  have k1:=(hX e0).1
  rw[List.length_map] at k1
  have hm:=getD_mem k1
  refine⟨e+1,eq',λl hl=> ?_, ?_,λl hl=> ?_⟩
  ·obtain⟨q,hq,rfl⟩:=List.mem_map.mp hl
   have hq':=List.mem_of_mem_eraseIdx hq
   rw[mD (by rw[h.ll q hq',h.ll _ hm]),h.ll q hq']
  ·rw[List.length_map,List.length_eraseIdx_of_lt k1]
   have:=h.cnt
   omega
  ·obtain⟨q,hq,rfl⟩:=List.mem_map.mp hl
   have hq':=List.mem_of_mem_eraseIdx hq
   have hz:∀l∈lists,Sz (tk c e+c+10) (ax row l):=λl h'=>px hs (h.sz l h') (by rw[hr];exact hn)
   exact(SzL.off (h.sz q hq') (h.sz _ hm) (hz q hq') (hz _ hm)).mono (by rw[<- En];omega)
end M
set_option maxRecDepth 100000
set_option maxHeartbeats 4000000
namespace M
end M
set_option maxRecDepth 100000
set_option maxHeartbeats 4000000
namespace M
structure Fit(n:Nat)(R:List (List Int))(x:List Int):Prop where
 len:x.length=n
 nn:∀i,0<=nth x i
 st:∀r∈R,bx n (nth r) (nth x)=0
 nz:∃i,nth x i≠0
def Sub(x y:List Int):Prop:=∀i,nth x i≠0->nth y i≠0
structure cy(n:Nat)(R:List (List Int))(x:List Int):Prop where
 fit:Fit n R x
 one:bO x=1
 min:∀y,Fit n R y->Sub y x->Sub x y
theorem Sub.refl(x:List Int):Sub x x:=λ_ h=>h
theorem Sub.trans{x y z:List Int}(a:Sub x y)(b:Sub y z):Sub x z:=λi h=>b i (a i h)
theorem Fit.lt{n:Nat}{R:List (List Int)}{x:List Int}(f:Fit n R x){i:Nat}(h:nth x i≠0):i<n:=by
 by_cases hi:i<n
 ·exact hi
 ·exact absurd (cJ (by rw[f.len];omega)) h
theorem Fit.low{n:Nat}{R:List (List Int)}{x:List Int}(f:Fit n R x):Fit n R (low x)/\bO (M.low x)=1/\Sub (M.low x) x/\Sub x (M.low x):=by
 have hp:=km x
 have hi:∀i,nth (M.low x) i≠0↔nth x i≠0:=λi=>by
  rw[jG x i]
  constructor
  ·exact λh=>Int.mul_ne_zero (by omega) h
  ·intro h z;rw[z] at h;exact h (by omega)
 obtain⟨j,hj⟩:=f.nz
 refine⟨⟨by rw[low_length,f.len],λi=> ?_,λr hr=> ?_,⟨j,(hi j).mpr hj⟩⟩,yK hj,λi=>(hi i).mp,λi=>(hi i).mpr⟩
 ·have:=f.nn i
  rw[jG x i] at this
  by_cases h:0<=nth (M.low x) i
  ·exact h
  ·have:=Int.mul_neg_of_pos_of_neg hp (by omega:nth (M.low x) i<0);omega
 ·have:=f.st r hr
  rw[eM]
  rw[eM] at this
  exact(BG n x (nth r)).mpr this
theorem qt{a b c d e f:Int}(hb:0<b)(hd:0<d)(hf:0<f)(h1:a*d<=c*b)(h2:c*f<=e*d):a*f<=e*b:=by
 have e1:a*d*f<=c*b*f:=Int.mul_le_mul_of_nonneg_right h1 (by omega)
 have e2:c*f*b<=e*d*b:=Int.mul_le_mul_of_nonneg_right h2 (by omega)
 have:(a*f)*d<=(e*b)*d:=by
  have q1:a*d*f=(a*f)*d:=by grind
  have q2:c*b*f=c*f*b:=by grind
  have q3:e*d*b=(e*b)*d:=by grind
  omega
 exact Int.le_of_mul_le_mul_right this hd
theorem Bv(a b:Nat->Int)(hb:∀i,0<=b i):∀n,(∃i,i<n/\b i≠0)->∃m,m<n/\b m≠0/\∀i,i<n->b i≠0->a m*b i<=a i*b m
 | 0,h=>by obtain⟨i,hi,_⟩:=h;omega
 | n+1,h=>by
  by_cases hn:∃i,i<n/\b i≠0
  ·obtain⟨m,hm,hz,hl⟩:=Bv a b hb n hn
   by_cases hbn:b n=0
   ·refine⟨m,by omega,hz,λi hi hi0=> ?_⟩
    by_cases e:i=n
    ·subst e;exact absurd hbn hi0
    ·exact hl i (by omega) hi0
   ·by_cases hc:a m*b n<=a n*b m
    ·refine⟨m,by omega,hz,λi hi hi0=> ?_⟩
     by_cases e:i=n
     ·subst e;exact hc
     ·exact hl i (by omega) hi0
    ·refine⟨n,by omega,hbn,λi hi hi0=> ?_⟩
     by_cases e:i=n
     ·subst e;omega
     ·have:=hb n;have:=hb m;have:=hb i
      exact qt (by omega) (by omega:0<b m) (by omega) (by omega) (hl i (by omega) hi0)
  ·obtain⟨i,hi,hi0⟩:=h
   have e:i=n:=by
    by_cases e:i=n
    ·exact e
    ·exact absurd ⟨i,by omega,hi0⟩ hn
   subst e
   refine⟨i,by omega,hi0,λj hj hj0=> ?_⟩
   by_cases e:j=i
   ·subst e;omega
   ·exact absurd ⟨j,by omega,hj0⟩ hn
theorem rk{n:Nat}{R:List (List Int)}{x y:List Int}(fx:Fit n R x)(fy:Fit n R y)(hs:Sub y x):
 ∃z:List Int,z.length=n/\(∀i,0<=nth z i)/\Sub z x/\∃c d:Int,0<c/\0<d/\(∀i,nth z i=c*nth x i-d*nth y i)/\∃m,nth y m≠0/\nth z m=0:=by
 obtain⟨j,hj⟩:=fy.nz
 obtain⟨m,hm,hz,hl⟩:=Bv (nth x) (nth y) fy.nn n ⟨j,fy.lt hj,hj⟩
 have hlen:x.length=y.length:=by rw[fx.len,fy.len]
 have hxm:=fx.nn m
 have hym:=fy.nn m
 have hxm0:=hs m hz
 have hnth:∀i,nth (i3 x (nth x m) y (nth y m)) i=nth y m*nth x i-nth x m*nth y i:=λi=>by rw[xf hlen];grind
 refine⟨i3 x (nth x m) y (nth y m),by rw[mx hlen,fx.len],λi=> ?_,λi hi=> ?_,nth y m,nth x m,by omega,by omega,hnth,m,hz,by rw[hnth];grind⟩
 ·rw[hnth]
  by_cases hy:nth y i=0
  ·rw[hy]
   have:=Int.mul_nonneg hym (fx.nn i)
   omega
  ·have:=hl i (fy.lt hy) hy
   have:nth y m*nth x i=nth x i*nth y m:=Int.mul_comm _ _
   omega
 ·rw[hnth] at hi
  intro z
  apply hi
  have:nth y i=0:=by
   by_cases hy:nth y i=0
   ·exact hy
   ·exact absurd z (hs i hy)
  rw[z,this];omega
theorem p9{n:Nat}{x y z:List Int}{c d:Int}(h:∀i,nth z i=c*nth x i-d*nth y i)(r:Nat->Int):bx n r (nth z)=c*bx n r (nth x)-d*bx n r (nth y):=by
 have:=Aa (n:=n) (a:=nth x) (b:=nth y) (u:=c) (v:= -d) r
 rw[eM,zm (b:=λi=>c*nth x i + -d*nth y i) (λi _=>by rw[h i];grind),eM,this]
 grind
theorem tP{n:Nat}{R:List (List Int)}{x y z:List Int}(fx:Fit n R x)(fy:Fit n R y)(hl:z.length=n)(hn:∀i,0<=nth z i){c d:Int}(h:∀i,nth z i=c*nth x i-d*nth y i)(hz:∃i,nth z i≠0):Fit n R z:=
 ⟨hl,hn,λr hr=>by rw[p9 h,fx.st r hr,fy.st r hr];omega,hz⟩
theorem cy.prop{n:Nat}{R:List (List Int)}{x y:List Int}(l:cy n R x)(fy:Fit n R y)(hs:Sub y x):∃a b:Int,0<a/\0<b/\∀i,a*nth x i=b*nth y i:=by
 obtain⟨z,zl,zn,zs,c,d,hc,hd,h,m,hm,hzm⟩:=rk l.fit fy hs
 by_cases hz:∃i,nth z i≠0
 ·have fz:=tP l.fit fy zl zn h hz
  exact absurd hzm (l.min z fz zs m (hs m hm))
 ·refine⟨c,d,hc,hd,λi=> ?_⟩
  have:nth z i=0:=by
   by_cases e:nth z i=0
   ·exact e
   ·exact absurd ⟨i,e⟩ hz
  rw[h i] at this
  omega
theorem cy.eq{n:Nat}{R:List (List Int)}{x y:List Int}(l:cy n R x)(fy:Fit n R y)(h1:bO y=1)(hs:Sub y x):x=y:=by
 obtain⟨a,b,ha,hb,h⟩:=l.prop fy hs
 exact EZ (by rw[l.fit.len,fy.len]) l.one h1 ha hb λi _=>h i
def cnt(x:List Int):Nat:=(x.filter (·≠0)).length
theorem BA:∀{x y:List Int},x.length=y.length->Sub x y->cnt x<=cnt y
 | [],[],_,_=>Nat.le_refl _
 | a::x,b::y,hl,hs=>by
  have ih:=BA (x:=x) (y:=y) (by simpa using hl) λi h=>hs (i+1) h
  have h0:a≠0->b≠0:=hs 0
  unfold cnt at *
  by_cases ha:a=0
  ·rw[List.filter_cons_of_neg (by simpa using ha)]
   by_cases hb:b=0
   ·rw[List.filter_cons_of_neg (by simpa using hb)];exact ih
   ·rw[List.filter_cons_of_pos (by simpa using hb),List.length_cons];omega
  ·rw[List.filter_cons_of_pos (by simpa using ha),List.filter_cons_of_pos (by simpa using h0 ha),List.length_cons,List.length_cons];omega
theorem mS:∀{x y:List Int} {m:Nat},x.length=y.length->Sub x y->nth y m≠0->nth x m=0->cnt x<cnt y
 | [],[],m,_,_,h,_=>by simp[nth] at h
 | a::x,b::y,0,hl,hs,h,h'=>by
  have ih:=BA (x:=x) (y:=y) (by simpa using hl) λi h=>hs (i+1) h
  have ha:a=0:=h'
  have hb:b≠0:=h
  unfold cnt at *
  rw[List.filter_cons_of_neg (by simpa using ha),List.filter_cons_of_pos (by simpa using hb),List.length_cons];omega
 | a::x,b::y,m+1,hl,hs,h,h'=>by
  have ih:=mS (x:=x) (y:=y) (m:=m) (by simpa using hl) (λi h=>hs (i+1) h) h h'
  have h0:a≠0->b≠0:=hs 0
  unfold cnt at *
  by_cases ha:a=0
  ·rw[List.filter_cons_of_neg (by simpa using ha)]
   by_cases hb:b=0
   ·rw[List.filter_cons_of_neg (by simpa using hb)];exact ih
   ·rw[List.filter_cons_of_pos (by simpa using hb),List.length_cons];omega
  ·rw[List.filter_cons_of_pos (by simpa using ha),List.filter_cons_of_pos (by simpa using h0 ha),List.length_cons,List.length_cons];omega
theorem qg{n:Nat}{R:List (List Int)}:∀(k:Nat) {x:List Int},cnt x<=k->Fit n R x->∃l,cy n R l/\Sub l x:=by
 intro k
 induction k with
 | zero=>
  intro x hk f
  obtain⟨i,hi⟩:=f.nz
  have:cnt (List.replicate n (0:Int))<cnt x:=mS (m:=i) (by rw[f.len];simp) (λj h=>by
   exfalso;apply h
   unfold nth
   rw[List.getD_eq_getElem?_getD,List.getElem?_replicate]
   split <;> rfl) hi (by
   unfold nth
   rw[List.getD_eq_getElem?_getD,List.getElem?_replicate]
   split <;> rfl)
  omega
 | succ k ih=>
  intro x hk f
  by_cases h:∃y,Fit n R y/\Sub y x/\¬Sub x y
  ·obtain⟨y,fy,h1,h2⟩:=h
   have:∃m,nth x m≠0/\nth y m=0:=by
    apply Classical.byContradiction
    intro hn
    exact h2 λi hi=>λz=>hn ⟨i,hi,z⟩
   obtain⟨m,hm,hm0⟩:=this
   have:=mS (by rw[fy.len,f.len]) h1 hm hm0
   obtain⟨l,hl,hs⟩:=ih (x:=y) (by omega) fy
   exact⟨l,hl,hs.trans h1⟩
  ·obtain⟨q1,q2,q3,q4⟩:=f.low
   refine⟨low x,⟨q1,q2,λy fy hs=> ?_⟩,q3⟩
   apply Classical.byContradiction
   intro hn
   exact h ⟨y,fy,hs.trans q3,λz=>hn (q3.trans z)⟩
theorem rZ{n:Nat}{R:List (List Int)}(r:List Int):∀(k:Nat) {x:List Int},cnt x<=k->Fit n R x->0<bx n (nth r) (nth x)->∃l,cy n R l/\Sub l x/\0<bx n (nth r) (nth l):=by
 intro k
 induction k with
 | zero=>
  intro x hk f hv
  obtain⟨l,hl,hs⟩:=qg 0 hk f
  obtain⟨i,hi⟩:=f.nz
  have:cnt (List.replicate n (0:Int))<cnt x:=mS (m:=i) (by rw[f.len];simp) (λj h=>by
   exfalso;apply h
   unfold nth
   rw[List.getD_eq_getElem?_getD,List.getElem?_replicate]
   split <;> rfl) hi (by
   unfold nth
   rw[List.getD_eq_getElem?_getD,List.getElem?_replicate]
   split <;> rfl)
  omega
 | succ k ih=>
  intro x hk f hv
  obtain⟨l,hl,hs⟩:=qg (k+1) hk f
  by_cases hp:0<bx n (nth r) (nth l)
  ·exact⟨l,hl,hs,hp⟩
  ·obtain⟨z,zl,zn,zs,c,d,hc,hd,h,m,hm,hzm⟩:=rk f hl.fit hs
   have ev:=p9 (n:=n) h (nth r)
   have h1:=Int.mul_pos hc hv
   have h2:=Int.mul_nonpos_of_nonneg_of_nonpos (show 0<=d by omega) (show bx n (nth r) (nth l)<=0 by omega)
   have hz:∃i,nth z i≠0:=by
    apply Classical.byContradiction
    intro hn
    have:bx n (nth r) (nth z)=0:=j8 λi _=>by
     have:nth z i=0:=by
      by_cases e:nth z i=0
      ·exact e
      ·exact absurd ⟨i,e⟩ hn
     rw[this];omega
    omega
   have fz:=tP f hl.fit zl zn h hz
   have:=mS (by rw[zl,f.len]) zs (hs m hm) hzm
   obtain⟨l',q1,q2,q3⟩:=ih (x:=z) (by omega) fz (by omega)
   exact⟨l',q1,q2.trans zs,q3⟩
theorem iM(n:Nat)(r x:List Int):bx n (nth (r.map (- ·))) (nth x)= -bx n (nth r) (nth x):=by
 have:=nX (n:=n) (a:=r.map (- ·)) (c:=r) (g:= -1) (λi=>by rw[jX (by simp)];omega) (nth x)
 rw[<- wo,this,wo];omega
theorem zW{n:Nat}{R:List (List Int)}(r:List Int){x:List Int}(f:Fit n R x)(hv:bx n (nth r) (nth x)<0):∃l,cy n R l/\Sub l x/\bx n (nth r) (nth l)<0:=by
 obtain⟨l,h1,h2,h3⟩:=rZ (r.map (- ·)) _ (Nat.le_refl _) f (by rw[iM];omega)
 rw[iM] at h3
 exact⟨l,h1,h2,by omega⟩
theorem ud{n:Nat}{R:List (List Int)}(r:List Int){x:List Int}(f:Fit n R x)(hv:bx n (nth r) (nth x)=0):
 (∃l,cy n R l/\Sub l x/\bx n (nth r) (nth l)=0)\/∃h w,cy n R h/\cy n R w/\Sub h x/\Sub w x/\0<bx n (nth r) (nth h)/\bx n (nth r) (nth w)<0:=by
 obtain⟨l,hl,hs⟩:=qg _ (Nat.le_refl _) f
 by_cases h0:bx n (nth r) (nth l)=0
 ·exact .inl ⟨l,hl,hs,h0⟩
 ·obtain⟨z,zl,zn,zs,c,d,hc,hd,h,m,hm,hzm⟩:=rk f hl.fit hs
  have ev:=p9 (n:=n) h (nth r)
  rw[hv] at ev
  have hne:bx n (nth r) (nth z)≠0:=by
   rw[ev]
   have:=Int.mul_ne_zero (show d≠0 by omega) h0
   omega
  have hz:∃i,nth z i≠0:=by
   apply Classical.byContradiction
   intro hn
   exact hne (j8 λi _=>by
    have:nth z i=0:=by
     by_cases e:nth z i=0
     ·exact e
     ·exact absurd ⟨i,e⟩ hn
    rw[this];omega)
  have fz:=tP f hl.fit zl zn h hz
  by_cases hp:0<bx n (nth r) (nth l)
  ·have:=Int.mul_pos hd hp
   obtain⟨w,w1,w2,w3⟩:=zW r fz (by omega)
   exact .inr ⟨l,w,hl,w1,hs,w2.trans zs,hp,w3⟩
  ·have:=Int.mul_neg_of_pos_of_neg hd (show bx n (nth r) (nth l)<0 by omega)
   obtain⟨w,w1,w2,w3⟩:=rZ r _ (Nat.le_refl _) fz (by omega)
   exact .inr ⟨w,l,w1,hl,w2.trans zs,hs,w3,by omega⟩
end M
set_option maxRecDepth 100000
set_option maxHeartbeats 4000000
namespace M
def subB(n:Nat)(l h w:List Int):Bool:=(List.range n).all λi=>decide (nth l i=0)||decide (nth h i≠0)||decide (nth w i≠0)
def nbB(n:Nat)(L:List (List Int))(h w:List Int):Bool:=(L.filter λl=>subB n l h w).length == 2
def cX(n:Nat)(L:List (List Int))(r:List Int):List (List Int):=
 (L.filter λl=>decide (ax r l=0))++(L.filter λl=>decide (0<ax r l)).flatMap λh=>((L.filter λl=>decide (ax r l<0)).filter λw=>nbB n L h w).map λw=>cI w (ax r w) h (ax r h)
theorem n5{n:Nat}{l h w:List Int}(hl:l.length=n):subB n l h w=true↔∀i,nth l i≠0->nth h i≠0\/nth w i≠0:=by
 unfold subB
 rw[List.all_eq_true]
 constructor
 ·intro H i hi
  have lt:i<n:=by
   by_cases e:i<n
   ·exact e
   ·exact absurd (cJ (by omega)) hi
  have:=H i (List.mem_range.mpr lt)
  simp only[Bool.or_eq_true,decide_eq_true_eq] at this
  rcases this with(z | z) | z
  ·exact absurd z hi
  ·exact .inl z
  ·exact .inr z
 ·intro H i _
  simp only[Bool.or_eq_true,decide_eq_true_eq]
  by_cases e:nth l i=0
  ·exact .inl (.inl e)
  ·rcases H i e with z | z
   ·exact .inl (.inr z)
   ·exact .inr z
theorem ze{α:Type}{L:List α}(hd:L.Nodup)(hl:L.length=2){h w:α}(hh:h∈L)(hw:w∈L)(hne:h≠w):∀l∈L,l=h\/l=w:=by
 match L,hl with
 | [a,b],_=>
  intro l hl
  simp only[List.mem_cons,List.not_mem_nil,or_false] at hh hw hl
  rcases hh with rfl | rfl <;> rcases hw with rfl | rfl <;> rcases hl with rfl | rfl <;> first | exact .inl rfl | exact .inr rfl | exact absurd rfl hne
theorem zU{α:Type}{L:List α}(hd:L.Nodup){h w:α}(hh:h∈L)(hw:w∈L)(hne:h≠w)(ha:∀l∈L,l=h\/l=w):L.length=2:=by
 have h1:L.length<=2:=by
  match L,hd with
  | [],_=>simp
  | [_],_=>simp
  | [_,_],_=>simp
  | a::b::c::r,hd=>
   exfalso
   have ha1:=ha a (by simp);have hb1:=ha b (by simp);have hc1:=ha c (by simp)
   simp only[List.nodup_cons,List.mem_cons,not_or] at hd
   rcases ha1 with e1 | e1 <;> rcases hb1 with e2 | e2 <;> rcases hc1 with e3 | e3 <;> simp_all
 match L,hh,hw,h1 with
 | [a],hh,hw,_=>
  simp only[List.mem_singleton] at hh hw
  exact absurd (hh.trans hw.symm) hne
 | [a,b],_,_,_=>rfl
section
variable {n : Nat} {R L : List (List Int)} {r : List Int}
structure fL(n:Nat)(R L:List (List Int)):Prop where
 all:∀x,x∈L↔cy n R x
 nd:L.Nodup
theorem fL.dot(k:fL n R L){l:List Int}(h:l∈L)(r:List Int):ax r l=bx n (nth r) (nth l):=ko ((k.all l).mp h).fit.len
theorem sT(k:fL n R L){h w:List Int}(hh:h∈L)(hw:w∈L)(hne:h≠w):nbB n L h w=true↔∀l∈L,(∀i,nth l i≠0->nth h i≠0\/nth w i≠0)->l=h\/l=w:=by
 have mem:∀l,l∈L.filter (λl=>subB n l h w)↔l∈L/\∀i,nth l i≠0->nth h i≠0\/nth w i≠0:=λl=>by
  rw[List.mem_filter]
  constructor
  ·exact λ⟨a,b⟩=>⟨a,(n5 ((k.all l).mp a).fit.len).mp b⟩
  ·exact λ⟨a,b⟩=>⟨a,(n5 ((k.all l).mp a).fit.len).mpr b⟩
 have nd:(L.filter (λl=>subB n l h w)).Nodup:=k.nd.filter _
 have m1:h∈L.filter (λl=>subB n l h w):=(mem h).mpr ⟨hh,λi hi=>.inl hi⟩
 have m2:w∈L.filter (λl=>subB n l h w):=(mem w).mpr ⟨hw,λi hi=>.inr hi⟩
 unfold nbB
 rw[beq_iff_eq]
 constructor
 ·exact λhl l h1 h2=>ze nd hl m1 m2 hne l ((mem l).mpr ⟨h1,h2⟩)
 ·exact λha=>zU nd m1 m2 hne λl hl=>let ⟨a,b⟩:=(mem l).mp hl;ha l a b
theorem jI(hr:r.length=n){h w:List Int}(fh:Fit n R h)(fw:Fit n R w)(vh:0<ax r h)(vw:ax r w<0):
 Fit n (R++[r]) (cI w (ax r w) h (ax r h))/\bO (cI w (ax r w) h (ax r h))=1/\(∀i,nth (cI w (ax r w) h (ax r h)) i≠0↔nth h i≠0\/nth w i≠0)/\
 ∃g:Int,0<g/\∀i,g*nth (cI w (ax r w) h (ax r h)) i=nth w i*ax r h+nth h i*(-(ax r w)):=by
 have hlen:w.length=h.length:=by rw[fw.len,fh.len]
 obtain⟨g,hg,e⟩:=ng hlen (ax r w) (ax r h)
 have e':∀i,g*nth (cI w (ax r w) h (ax r h)) i=nth w i*ax r h+nth h i*(-(ax r w)):=λi=>by rw[e i];grind
 have nz:∀i,nth (cI w (ax r w) h (ax r h)) i≠0↔nth h i≠0\/nth w i≠0:=λi=>by
  have h1:=Int.mul_nonneg (fw.nn i) (show 0<=ax r h by omega)
  have h2:=Int.mul_nonneg (fh.nn i) (show 0<= -(ax r w) by omega)
  constructor
  ·intro hz
   apply Classical.byContradiction
   intro hn
   have q1:nth h i=0:=by
    by_cases q:nth h i=0
    ·exact q
    ·exact absurd (.inl q) hn
   have q2:nth w i=0:=by
    by_cases q:nth w i=0
    ·exact q
    ·exact absurd (.inr q) hn
   have:=e' i
   rw[q1,q2] at this
   have:g*nth (cI w (ax r w) h (ax r h)) i=0:=by rw[this];omega
   rcases Int.mul_eq_zero.mp this with z | z
   ·omega
   ·exact hz z
  ·intro hor z
   have:=e' i
   rw[z] at this
   have hs:nth w i*ax r h+nth h i*(-(ax r w))=0:=by omega
   rcases hor with q | q
   ·have:=Int.mul_pos (show 0<nth h i by have:=fh.nn i;omega) (show 0 < -(ax r w) by omega);omega
   ·have:=Int.mul_pos (show 0<nth w i by have:=fw.nn i;omega) vh;omega
 have one:bO (cI w (ax r w) h (ax r h))=1:=by
  obtain⟨i,hi⟩:=fh.nz
  have q:nth (cI w (ax r w) h (ax r h)) i≠0:=(nz i).mpr (.inl hi)
  exact rX _ i q
 refine⟨⟨by rw[mD hlen,fw.len],λi=> ?_,λq hq=> ?_, ?_⟩,one,nz,g,hg,e'⟩
 ·have h1:=Int.mul_nonneg (fw.nn i) (show 0<=ax r h by omega)
  have h2:=Int.mul_nonneg (fh.nn i) (show 0<= -(ax r w) by omega)
  have:=e' i
  by_cases z:0<=nth (cI w (ax r w) h (ax r h)) i
  ·exact z
  ·have:=Int.mul_neg_of_pos_of_neg hg (show nth (cI w (ax r w) h (ax r h)) i<0 by omega);omega
 ·obtain⟨g',hg',ed⟩:=CP (n:=n) hlen (ax r w) (ax r h) (nth q)
  simp only[wo] at ed
  rw[eM]
  have z:g'*bx n (nth (cI w (ax r w) h (ax r h))) (nth q)=0:=by
   rw[ed,eM n (nth w),eM n (nth h)]
   rcases List.mem_append.mp hq with hq | hq
   ·rw[fw.st q hq,fh.st q hq];omega
   ·rw[List.mem_singleton.mp hq,<- ko fw.len,<- ko fh.len];grind
  rcases Int.mul_eq_zero.mp z with z | z
  ·omega
  ·exact z
 ·obtain⟨i,hi⟩:=fh.nz
  exact⟨i,(nz i).mpr (.inl hi)⟩
theorem Fit.less{R S:List (List Int)}{x:List Int}(f:Fit n (R++S) x):Fit n R x:=⟨f.len,f.nn,λr hr=>f.st r (List.mem_append_left _ hr),f.nz⟩
theorem Fit.more(f:Fit n R x)(h:bx n (nth r) (nth x)=0):Fit n (R++[r]) x:=⟨f.len,f.nn,λq hq=>by
 rcases List.mem_append.mp hq with z | z
 ·exact f.st q z
 ·rw[List.mem_singleton.mp z];exact h,f.nz⟩
theorem cy.same{x y:List Int}(a:cy n R x)(b:cy n R y)(h:Sub y x):x=y:=a.eq b.fit b.one h
theorem qx(hr:r.length=n){h l w x:List Int}(lh:cy n R h)(ll:cy n R l)(lw:cy n R w)(lx:cy n (R++[r]) x)(vh:0<ax r h)(vl:0<ax r l)(vw:ax r w<0)(sh:Sub h x)(sl:Sub l x)(sw:Sub w x):l=h:=by
 obtain⟨f1,g1,z1,a,ha,e1⟩:=jI hr lh.fit lw.fit vh vw
 obtain⟨f2,g2,z2,b,hb,e2⟩:=jI hr ll.fit lw.fit vl vw
 have x1:=lx.eq f1 g1 λi hi=>((z1 i).mp hi).elim (sh i) (sw i)
 have x2:=lx.eq f2 g2 λi hi=>((z2 i).mp hi).elim (sl i) (sw i)
 rw[<- x1] at e1
 rw[<- x2] at e2
 have key:∀i,b*(nth h i*(-(ax r w)))+(b*ax r h-a*ax r l)*nth w i=a*(nth l i*(-(ax r w))):=λi=>by
  have q1:=e1 i
  have q2:=e2 i
  have:b*(a*nth x i)=a*(b*nth x i):=by grind
  rw[q1,q2] at this
  grind
 have hu:0 < -(ax r w):=by omega
 by_cases hm:0<=b*ax r h-a*ax r l
 ·refine(cy.same ll lh λi hi=> ?_)
  intro z
  have q:=key i
  rw[z] at q
  have h1:=Int.mul_pos hb (Int.mul_pos (show 0<nth h i by have:=lh.fit.nn i;omega) hu)
  have h2:=Int.mul_nonneg hm (lw.fit.nn i)
  have h3:a*(0*(-(ax r w)))=0:=by simp
  omega
 ·refine(cy.same lh ll λi hi=> ?_).symm
  intro z
  have q:=key i
  rw[z] at q
  have h1:=Int.mul_pos ha (Int.mul_pos (show 0<nth l i by have:=ll.fit.nn i;omega) hu)
  have h2:=Int.mul_nonpos_of_nonpos_of_nonneg (show b*ax r h-a*ax r l<=0 by omega) (lw.fit.nn i)
  have h3:b*(0*(-(ax r w)))=0:=by simp
  omega
theorem rA{l:List Int}(hl:l.length=n):ax (r.map (- ·)) l= -(ax r l):=by rw[ko hl,ko hl,iM]
theorem cy.neg{x:List Int}(l:cy n (R++[r]) x):cy n (R++[r.map (- ·)]) x:=by
 have tr:∀y,Fit n (R++[r]) y↔Fit n (R++[r.map (- ·)]) y:=λy=>by
  constructor
  ·refine λf=>Fit.more f.less ?_
   rw[iM,f.st r (by simp)];rfl
  ·refine λf=>Fit.more f.less ?_
   have:=f.st (r.map (- ·)) (by simp)
   rw[iM] at this;omega
 exact⟨(tr x).mp l.fit,l.one,λy fy=>l.min y ((tr y).mpr fy)⟩
theorem vT(hr:r.length=n){h l w x:List Int}(lh:cy n R h)(ll:cy n R l)(lw:cy n R w)(lx:cy n (R++[r]) x)(vh:0<ax r h)(vl:ax r l<0)(vw:ax r w<0)(sh:Sub h x)(sl:Sub l x)(sw:Sub w x):l=w:=
 qx (r:=r.map (- ·)) (h:=w) (l:=l) (w:=h) (by simpa using hr) lw ll lh lx.neg (by rw[rA lw.fit.len];omega) (by rw[rA ll.fit.len];omega) (by rw[rA lh.fit.len];omega) sw sl sh
theorem oQ{x:List Int}:x∈cX n L r↔(x∈L/\ax r x=0)\/∃h w,h∈L/\w∈L/\0<ax r h/\ax r w<0/\nbB n L h w=true/\x=cI w (ax r w) h (ax r h):=by
 unfold cX
 rw[List.mem_append]
 constructor
 ·rintro (h | h)
  ·rw[List.mem_filter,decide_eq_true_eq] at h;exact .inl h
  ·obtain⟨h',q1,q2⟩:=List.mem_flatMap.mp h
   obtain⟨w,q3,rfl⟩:=List.mem_map.mp q2
   rw[List.mem_filter,decide_eq_true_eq] at q1
   rw[List.mem_filter,List.mem_filter,decide_eq_true_eq] at q3
   exact .inr ⟨h',w,q1.1,q3.1.1,q1.2,q3.1.2,q3.2,rfl⟩
 ·rintro (h | ⟨h',w,q1,q2,q3,q4,q5,rfl⟩)
  ·exact .inl (by rw[List.mem_filter,decide_eq_true_eq];exact h)
  ·refine .inr (List.mem_flatMap.mpr ⟨h',by rw[List.mem_filter,decide_eq_true_eq];exact⟨q1,q3⟩,List.mem_map.mpr ⟨w, ?_,rfl⟩⟩)
   rw[List.mem_filter,List.mem_filter,decide_eq_true_eq];exact⟨⟨q2,q4⟩,q5⟩
theorem vW(hr:r.length=n)(k:fL n R L)(x:List Int):x∈cX n L r↔cy n (R++[r]) x:=by
 rw[oQ]
 constructor
 ·rintro (⟨hx,v⟩ | ⟨h,w,hh,hw,vh,vw,nb,rfl⟩)
  ·have l:=(k.all x).mp hx
   rw[k.dot hx] at v
   exact⟨l.fit.more v,l.one,λy fy=>l.min y fy.less⟩
  ·have lh:=(k.all h).mp hh
   have lw:=(k.all w).mp hw
   have hne:h≠w:=λe=>by rw[e] at vh;omega
   obtain⟨f1,g1,z1,_⟩:=jI hr lh.fit lw.fit vh vw
   refine⟨f1,g1,λy fy sy=> ?_⟩
   have nb':=(sT k hh hw hne).mp nb
   rcases ud r fy.less (fy.st r (by simp)) with⟨l,ll,sl,v⟩ | ⟨h',w',lh',lw',sh',sw',vh',vw'⟩
   ·have hl:=(k.all l).mpr ll
    have:=nb' l hl λi hi=>(z1 i).mp (sy i (sl i hi))
    rw[<- k.dot hl] at v
    rcases this with rfl | rfl <;> omega
   ·have hh':=(k.all h').mpr lh'
    have hw':=(k.all w').mpr lw'
    rw[<- k.dot hh'] at vh'
    rw[<- k.dot hw'] at vw'
    have e1:h'=h:=by
     rcases nb' h' hh' λi hi=>(z1 i).mp (sy i (sh' i hi)) with e | e
     ·exact e
     ·rw[e] at vh';omega
    have e2:w'=w:=by
     rcases nb' w' hw' λi hi=>(z1 i).mp (sy i (sw' i hi)) with e | e
     ·rw[e] at vw';omega
     ·exact e
    subst e1 e2
    exact λi hi=>((z1 i).mp hi).elim (sh' i) (sw' i)
 ·intro lx
  by_cases hz:∃l,cy n R l/\Sub l x/\bx n (nth r) (nth l)=0
  ·obtain⟨l,ll,sl,v⟩:=hz
   have e:=lx.eq (ll.fit.more v) ll.one sl
   subst e
   have hl:=(k.all x).mpr ll
   exact .inl ⟨hl,by rw[k.dot hl];exact v⟩
  ·rcases ud r lx.fit.less (lx.fit.st r (by simp)) with h0 | ⟨h,w,lh,lw,sh,sw,vh,vw⟩
   ·exact absurd h0 hz
   ·have hh:=(k.all h).mpr lh
    have hw:=(k.all w).mpr lw
    rw[<- k.dot hh] at vh
    rw[<- k.dot hw] at vw
    have hne:h≠w:=λe=>by rw[e] at vh;omega
    obtain⟨f1,g1,z1,_⟩:=jI hr lh.fit lw.fit vh vw
    refine .inr ⟨h,w,hh,hw,vh,vw,(sT k hh hw hne).mpr λl hl sl=> ?_,lx.eq f1 g1 λi hi=>((z1 i).mp hi).elim (sh i) (sw i)⟩
    have ll:=(k.all l).mp hl
    have slx:Sub l x:=λi hi=>(sl i hi).elim (sh i) (sw i)
    by_cases v0:ax r l=0
    ·exact absurd ⟨l,ll,slx,by rw[<- k.dot hl];exact v0⟩ hz
    ·by_cases vp:0<ax r l
     ·exact .inl (qx hr lh ll lw lx vh vp vw sh slx sw)
     ·exact .inr (vT hr lh ll lw lx vh (by omega) vw sh slx sw)
end
end M
set_option maxRecDepth 100000
set_option maxHeartbeats 4000000
namespace M
section
variable {n : Nat} {R L : List (List Int)} {r : List Int}
theorem yE (hr:r.length=n) (k:fL n R L) {h w h' w':List Int} (hh:h∈L) (hw:w∈L) (vh:0<ax r h) (vw:ax r w<0) (nb:nbB n L h w=true)
 (hh':h'∈L) (hw':w'∈L) (vh':0<ax r h') (vw':ax r w'<0) (e:cI w (ax r w) h (ax r h)=cI w' (ax r w') h' (ax r h')):h=h'/\w=w':=by
 have hne:h≠w:=λe=>by rw[e] at vh;omega
 obtain⟨_,_,z1,_⟩:=jI hr ((k.all h).mp hh).fit ((k.all w).mp hw).fit vh vw
 obtain⟨_,_,z2,_⟩:=jI hr ((k.all h').mp hh').fit ((k.all w').mp hw').fit vh' vw'
 rw[e] at z1
 have nb':=(sT k hh hw hne).mp nb
 constructor
 ·rcases nb' h' hh' λi hi=>(z1 i).mp ((z2 i).mpr (.inl hi)) with q | q
  ·exact q.symm
  ·rw[q] at vh';omega
 ·rcases nb' w' hw' λi hi=>(z1 i).mp ((z2 i).mpr (.inr hi)) with q | q
  ·rw[q] at vw';omega
  ·exact q.symm
theorem xH(hr:r.length=n)(k:fL n R L):(cX n L r).Nodup:=by
 unfold cX
 rw[List.nodup_append]
 refine⟨k.nd.filter _, ?_,λx hx y hy e=> ?_⟩
 ·unfold List.Nodup
  rw[List.pairwise_flatMap]
  constructor
  ·intro h hh
   rw[List.mem_filter,decide_eq_true_eq] at hh
   rw[List.pairwise_map]
   refine List.Pairwise.imp_of_mem (λ{w w'} hw hw' hne=> ?_) ((k.nd.filter _).filter _)
   rw[List.mem_filter,List.mem_filter,decide_eq_true_eq] at hw hw'
   exact λe=>hne (yE hr k hh.1 hw.1.1 hh.2 hw.1.2 hw.2 hh.1 hw'.1.1 hh.2 hw'.1.2 e).2
  ·refine List.Pairwise.imp_of_mem (λ{h h'} hh hh' hne x hx y hy=> ?_) (k.nd.filter _)
   rw[List.mem_filter,decide_eq_true_eq] at hh hh'
   obtain⟨w,hw,rfl⟩:=List.mem_map.mp hx
   obtain⟨w',hw',rfl⟩:=List.mem_map.mp hy
   rw[List.mem_filter,List.mem_filter,decide_eq_true_eq] at hw hw'
   exact λe=>hne (yE hr k hh.1 hw.1.1 hh.2 hw.1.2 hw.2 hh'.1 hw'.1.1 hh'.2 hw'.1.2 e).1
 ·subst e
  rw[List.mem_filter,decide_eq_true_eq] at hx
  obtain⟨h,hh,hy⟩:=List.mem_flatMap.mp hy
  obtain⟨w,hw,e⟩:=List.mem_map.mp hy
  rw[List.mem_filter,decide_eq_true_eq] at hh
  rw[List.mem_filter,List.mem_filter,decide_eq_true_eq] at hw
  have hne:h≠w:=λe=>by rw[e] at hh;omega
  obtain⟨_,_,z1,_⟩:=jI hr ((k.all h).mp hh.1).fit ((k.all w).mp hw.1.1).fit hh.2 hw.1.2
  rw[e] at z1
  rcases(sT k hh.1 hw.1.1 hne).mp hw.2 x hx.1 λi hi=>(z1 i).mp hi with q | q
  ·rw[q] at hx;omega
  ·rw[q] at hx;omega
theorem fL.step(hr:r.length=n)(k:fL n R L):fL n (R++[r]) (cX n L r):=⟨vW hr k,xH hr k⟩
theorem uo{a:Nat}(ha:a<n):bO (fE n a)=1:=by
 have:=lG (fE n a) a
 rw[gk ha,if_pos rfl] at this
 have:(bO (fE n a):Int).natAbs ∣ (1:Int).natAbs:=Int.natAbs_dvd_natAbs.mpr this
 simpa using this
theorem vO{a:Nat}(ha:a<n):Fit n [] (fE n a):=by
 refine⟨by unfold fE;simp,λi=> ?_,by simp,⟨a, ?_⟩⟩
 ·rw[gk ha];split <;> omega
 ·rw[gk ha,if_pos rfl];decide
theorem Ap{a:Nat}(ha:a<n):cy n [] (fE n a):=by
 refine⟨vO ha,uo ha,λy fy sy=>λi hi=> ?_⟩
 rw[gk ha] at hi
 by_cases e:i=a
 ·subst e
  obtain⟨j,hj⟩:=fy.nz
  have:=sy j hj
  rw[gk ha] at this
  by_cases e:j=i
  ·rw[<- e];exact hj
  ·rw[if_neg e] at this;exact absurd rfl this
 ·rw[if_neg e] at hi;exact absurd rfl hi
theorem zD(n:Nat):fL n [] (fG n):=by
 refine⟨λx=>⟨λhx=> ?_,λl=> ?_⟩, ?_⟩
 ·obtain⟨a,ha,rfl⟩:=List.mem_map.mp hx
  exact Ap (List.mem_range.mp ha)
 ·obtain⟨i,hi⟩:=l.fit.nz
  have lt:=l.fit.lt hi
  have:=l.eq (vO lt) (uo lt) λj hj=>by
   rw[gk lt] at hj
   by_cases e:j=i
   ·rw[e];exact hi
   ·rw[if_neg e] at hj;exact absurd rfl hj
  rw[this]
  exact List.mem_map.mpr ⟨i,List.mem_range.mpr lt,rfl⟩
 ·unfold fG List.Nodup
  rw[List.pairwise_map]
  refine List.Pairwise.imp_of_mem (λ{a b} ha hb hne e=>hne ?_) List.nodup_range
  have h1:=gk (List.mem_range.mp ha) a
  rw[e,gk (List.mem_range.mp hb),if_pos rfl] at h1
  by_cases q:a=b
  ·exact q
  ·rw[if_neg q] at h1;cases h1
theorem ue:∀{rows:List (List Int)},(∀r∈rows,r.length=n)->∀{R L:List (List Int)},fL n R L->fL n (R++rows) (rows.foldl (cX n) L)
 | [],_,R,L,k=>by simpa using k
 | row::rows,h,R,L,k=>by
  have:=ue (rows:=rows) (λr hr=>h r (List.mem_cons_of_mem _ hr)) (k.step (h row List.mem_cons_self))
  simpa using this
def ka(rows:List (List Int))(n:Nat):List (List Int):=rows.foldl (cX n) (fG n)
theorem oq{rows:List (List Int)}(h:∀r∈rows,r.length=n):fL n rows (ka rows n):=by
 have:=ue h (zD n)
 rw[List.nil_append] at this
 exact this
theorem fL.perm{L':List (List Int)}(k:fL n R L)(p:L'.Perm L):fL n R L':=⟨λx=>(p.mem_iff).trans (k.all x),p.nodup_iff.mpr k.nd⟩
end
end M
set_option maxRecDepth 100000
set_option maxHeartbeats 4000000
namespace M
section
variable {n : Nat} {R L : List (List Int)}
end
end M
set_option maxRecDepth 100000
set_option maxHeartbeats 1000000
namespace M
theorem rj:∀(N:Nat) (l:List Nat),l.Nodup->(∀x∈l,x<N)->l.length<=N
 | 0,l,_,h=>by
  cases l with
  | nil=>exact Nat.le_refl _
  | cons a l=>exact absurd (h a List.mem_cons_self) (by omega)
 | N+1,l,nd,h=>by
  by_cases hm:N∈l
  ·have:=rj N (l.erase N) (nd.erase N) (λx hx=>by
    have h1:=(nd.mem_erase_iff.mp hx)
    have:=h x h1.2
    have:=h1.1
    omega)
   rw[List.length_erase_of_mem hm] at this
   omega
  ·have:=rj N l nd (λx hx=>by
    have h1:=h x hx
    have:x≠N:=λe=>hm (e▸hx)
    omega)
   omega
def at0(x:List Int)(i:Nat):Bool:=decide (nth x i≠0)
def cl3(a b c:Bool):Nat:=match a,b,c with
 | false,true,_=>1
 | false,false,true=>2
 | true,false,true=>2
 | _,_,_=>0
theorem wj(a b c:Bool):cl3 a b c<=2:=by revert a b c;decide
theorem Bu:∀a b c a' b' c':Bool,cl3 a b c=cl3 a' b' c'->((a=true->a'=true)/\(b=true->b'=true)/\(c=true->c'=true))\/((a'=true->a=true)/\(b'=true->b=true)/\(c'=true->c=true)):=by decide
def ua(x:List Int):Nat:=3*((at0 x 3).toNat+2*(at0 x 4).toNat+4*(at0 x 5).toNat+8*(at0 x 6).toNat)+cl3 (at0 x 0) (at0 x 1) (at0 x 2)
theorem toNat_le(b:Bool):b.toNat<=1:=by cases b <;> decide
theorem toNat_inj{a b:Bool}(h:a.toNat=b.toNat):a=b:=by revert a b;decide
theorem ER(x:List Int):ua x<48:=by
 have:=wj (at0 x 0) (at0 x 1) (at0 x 2)
 have:=toNat_le (at0 x 3)
 have:=toNat_le (at0 x 4)
 have:=toNat_le (at0 x 5)
 have:=toNat_le (at0 x 6)
 unfold ua
 omega
theorem Ai{x y:List Int}(hx:x.length<=7)(h:∀i,i<7->at0 x i=true->at0 y i=true):Sub x y:=λi hi=>by
 by_cases h7:i<7
 ·exact of_decide_eq_true (h i h7 (decide_eq_true hi))
 ·exact absurd (cJ (by omega)) hi
theorem EY{n:Nat}{R:List (List Int)}{x y:List Int}(hn:n<=7)(lx:cy n R x)(ly:cy n R y)(h:ua x=ua y):x=y:=by
 have a1:=wj (at0 x 0) (at0 x 1) (at0 x 2)
 have a2:=wj (at0 y 0) (at0 y 1) (at0 y 2)
 have b3:=toNat_le (at0 x 3);have c3:=toNat_le (at0 y 3)
 have b4:=toNat_le (at0 x 4);have c4:=toNat_le (at0 y 4)
 have b5:=toNat_le (at0 x 5);have c5:=toNat_le (at0 y 5)
 have b6:=toNat_le (at0 x 6);have c6:=toNat_le (at0 y 6)
 unfold ua at h
 have e3:at0 x 3=at0 y 3:=toNat_inj (by omega)
 have e4:at0 x 4=at0 y 4:=toNat_inj (by omega)
 have e5:at0 x 5=at0 y 5:=toNat_inj (by omega)
 have e6:at0 x 6=at0 y 6:=toNat_inj (by omega)
 have e:cl3 (at0 x 0) (at0 x 1) (at0 x 2)=cl3 (at0 y 0) (at0 y 1) (at0 y 2):=by omega
 have lenx:x.length<=7:=by rw[lx.fit.len];exact hn
 have leny:y.length<=7:=by rw[ly.fit.len];exact hn
 rcases Bu _ _ _ _ _ _ e with⟨q0,q1,q2⟩ | ⟨q0,q1,q2⟩
 ·refine(ly.same lx (Ai lenx λi hi ht=> ?_)).symm
  have:i=0\/i=1\/i=2\/i=3\/i=4\/i=5\/i=6:=by omega
  rcases this with rfl | rfl | rfl | rfl | rfl | rfl | rfl
  ·exact q0 ht
  ·exact q1 ht
  ·exact q2 ht
  ·rw[<- e3];exact ht
  ·rw[<- e4];exact ht
  ·rw[<- e5];exact ht
  ·rw[<- e6];exact ht
 ·refine lx.same ly (Ai leny λi hi ht=> ?_)
  have:i=0\/i=1\/i=2\/i=3\/i=4\/i=5\/i=6:=by omega
  rcases this with rfl | rfl | rfl | rfl | rfl | rfl | rfl
  ·exact q0 ht
  ·exact q1 ht
  ·exact q2 ht
  ·rw[e3];exact ht
  ·rw[e4];exact ht
  ·rw[e5];exact ht
  ·rw[e6];exact ht
theorem uN{α β:Type}{f:α->β}:∀{l:List α},l.Nodup->(∀x∈l,∀y∈l,f x=f y->x=y)->(l.map f).Nodup
 | [],_,_=>List.nodup_nil
 | a::l,nd,h=>by
  rw[List.map_cons,List.nodup_cons]
  rw[List.nodup_cons] at nd
  refine⟨λhm=> ?_,uN nd.2 λx hx y hy=>h x (List.mem_cons_of_mem _ hx) y (List.mem_cons_of_mem _ hy)⟩
  obtain⟨b,hb,e⟩:=List.mem_map.mp hm
  exact nd.1 (h b (List.mem_cons_of_mem _ hb) a List.mem_cons_self e▸hb)
theorem fL.few{n:Nat}{R L:List (List Int)}(k:fL n R L)(hn:n<=7):L.length<64:=by
 have:=rj 48 (L.map ua) (uN k.nd λx hx y hy e=>EY hn ((k.all x).mp hx) ((k.all y).mp hy) e) λc hc=>by
  obtain⟨x,_,rfl⟩:=List.mem_map.mp hc
  exact ER x
 rw[List.length_map] at this
 omega
theorem Cw{n b c:Nat}{L:List (List Int)}{r:List Int}(hr:SzL c r)(hl:r.length<=1000)(hL:fe b L):fe (2*b+c+12) (cX n L r):=by
 intro x hx
 rcases oQ.mp hx with⟨h,_⟩ | ⟨h,w,hh,hw,_,_,_,rfl⟩
 ·exact(hL x h).mono (by omega)
 ·exact(SzL.off (hL w hw) (hL h hh) (px hr (hL w hw) hl) (px hr (hL h hh) hl)).mono (by omega)
def p8(c:Nat):Nat->Nat->Nat
 | 0,b=>b
 | m+1,b=>p8 c m (2*b+c+12)
theorem wB{n c:Nat}:∀(rows:List (List Int)) (b:Nat) (L:List (List Int)),(∀r∈rows,SzL c r/\r.length<=1000)->fe b L->fe (p8 c rows.length b) (rows.foldl (cX n) L)
 | [],b,L,_,h=>h
 | r::rows,b,L,hr,h=>wB rows _ _ (λq hq=>hr q (List.mem_cons_of_mem _ hq)) (Cw (hr r List.mem_cons_self).1 (hr r List.mem_cons_self).2 h)
theorem vQ(c:Nat):∀(m b:Nat),b<=p8 c m b
 | 0,_=>Nat.le_refl _
 | m+1,b=>Nat.le_trans (by omega) (vQ c m (2*b+c+12))
theorem uc(c:Nat):∀(m m' b:Nat),m<=m'->p8 c m b<=p8 c m' b
 | 0,m',b,_=>vQ c m' b
 | m+1,0,b,h=>absurd h (by omega)
 | m+1,m'+1,b,h=>uc c m m' _ (by omega)
def bG(x:List Int):Nat:=x.foldl (λb y=>b*2+if 0<y then 1 else 0) 0
theorem yp:∀(x:List Int) (b i:Nat),(x.foldl (λb y=>b*2+if 0<y then 1 else 0) b).testBit i=if i<x.length then decide (0<nth x (x.length-1-i)) else b.testBit (i-x.length)
 | [],b,i=>by simp
 | y::x,b,i=>by
  rw[List.foldl_cons,yp x]
  have c1:(if 0<y then 1 else 0:Nat)<=1:=by split <;> omega
  have c2:decide ((if 0<y then 1 else 0:Nat)=1)=decide (0<y):=by
   by_cases hy:0<y
   ·rw[if_pos hy,decide_eq_true hy];rfl
   ·rw[if_neg hy,decide_eq_false hy];rfl
  generalize (if 0<y then 1 else 0:Nat)=c at c1 c2
  by_cases h:i<x.length
  ·rw[if_pos h,if_pos (by simp;omega)]
   congr 2
   show nth x (x.length-1-i)=nth (y::x) (x.length+1-1-i)
   rw[show x.length+1-1-i=(x.length-1-i)+1 by omega]
   rfl
  ·rw[if_neg h]
   by_cases h2:i=x.length
   ·subst h2
    rw[if_pos (by simp),Nat.sub_self,Nat.testBit_zero]
    show _=decide (0<nth (y::x) (x.length+1-1-x.length))
    rw[show x.length+1-1-x.length=0 by omega]
    show _=decide (0<y)
    rw[<- c2]
    congr 1
    rw[eq_iff_iff]
    omega
   ·rw[if_neg (by simp;omega),List.length_cons,show i-x.length=(i-(x.length+1))+1 by omega,Nat.testBit_succ]
    congr 1
    omega
theorem kR(x:List Int)(i:Nat):(bG x).testBit i=decide (i<x.length/\0<nth x (x.length-1-i)):=by
 unfold bG
 rw[yp]
 by_cases h:i<x.length
 ·rw[if_pos h]
  by_cases h2:0<nth x (x.length-1-i)
  ·rw[decide_eq_true h2,decide_eq_true ⟨h,h2⟩]
  ·rw[decide_eq_false h2,decide_eq_false (λz=>h2 z.2)]
 ·rw[if_neg h,decide_eq_false (λz=>h z.1),Nat.zero_testBit]
theorem Bl{a b:Nat}:a|||b=b↔∀i,a.testBit i=true->b.testBit i=true:=by
 constructor
 ·intro h i hi
  rw[<- h,Nat.testBit_or,hi,Bool.true_or]
 ·intro h
  refine Nat.eq_of_testBit_eq λi=> ?_
  rw[Nat.testBit_or]
  cases ha:a.testBit i with
  | true=>rw[h i ha];rfl
  | false=>rw[Bool.false_or]
theorem bits_sub{n:Nat}{l h w:List Int}(hl:l.length=n)(hh:h.length=n)(hw:w.length=n)(nl:∀i,0<=nth l i)(nh:∀i,0<=nth h i)(nw:∀i,0<=nth w i):decide (bG l|||(bG h|||bG w)=bG h|||bG w)=subB n l h w:=by
 rw[Bool.eq_iff_iff,decide_eq_true_eq,Bl,n5 hl]
 constructor
 ·intro H i hi
  have lt:i<n:=by
   by_cases e:i<n
   ·exact e
   ·exact absurd (cJ (by omega)) hi
  have:=H (n-1-i) (by
   rw[kR]
   refine decide_eq_true ⟨by omega, ?_⟩
   rw[hl,show n-1-(n-1-i)=i by omega]
   have:=nl i
   omega)
  rw[Nat.testBit_or,Bool.or_eq_true,kR,kR,decide_eq_true_eq,decide_eq_true_eq,hh,hw,show n-1-(n-1-i)=i by omega] at this
  rcases this with z | z
  ·exact .inl (by omega)
  ·exact .inr (by omega)
 ·intro H i hi
  rw[kR,decide_eq_true_eq,hl] at hi
  rw[Nat.testBit_or,Bool.or_eq_true,kR,kR,decide_eq_true_eq,decide_eq_true_eq,hh,hw]
  rcases H (n-1-i) (by omega) with z | z
  ·have:=nh (n-1-i)
   exact .inl ⟨hi.1,by omega⟩
  ·have:=nw (n-1-i)
   exact .inr ⟨hi.1,by omega⟩
end M
set_option maxRecDepth 100000
set_option maxHeartbeats 1000000
namespace M
structure Tight(left y:List Int)(a:Nat):Prop where
 pos:0<nth y a
 min:∀i,0<nth y i->nth left a*nth y i<=nth left i*nth y a
def dA(left y:List Int)(a:Nat):List Int:=(left.zip y).map λp=>p.1*nth y a-p.2*nth left a
def fY(left y:List Int)(bot:Int)(a:Nat):List Int:=low (dA left y a++[bot*nth y a])
abbrev Sh:Type:=(Int×Int)×List Int
def psS(i:Nat)(T:List Sh):Int×Int:=T.foldl (λq s=>(q.1*s.1.2,s.1.2*q.2+s.1.1*q.1*nth s.2 i)) (1,0)
theorem Ce(i:Nat)(T:List Sh)(s:Sh):psS i (T++[s])=((psS i T).1*s.1.2,s.1.2*(psS i T).2+s.1.1*(psS i T).1*nth s.2 i):=by
 unfold psS
 rw[List.foldl_append]
 rfl
theorem nA{left y:List Int}{n a:Nat}(hl:left.length=n)(hy:y.length=n)(i:Nat):nth (dA left y a) i=nth left i*nth y a-nth y i*nth left a:=by
 have ll:(dA left y a).length=n:=by unfold dA;rw[List.length_map,List.length_zip];omega
 by_cases h:i<n
 ·unfold dA nth
  simp[List.getD_eq_getElem?_getD,List.getElem?_eq_getElem (show i<left.length by omega),List.getElem?_eq_getElem (show i<y.length by omega),List.getElem?_eq_getElem (show i<(left.zip y).length by rw[List.length_zip];omega)]
 ·rw[cJ (r:=dA left y a) (i:=i) (by omega),cJ (r:=left) (i:=i) (by omega),cJ (r:=y) (i:=i) (by omega),Int.zero_mul,Int.zero_mul]
  rfl
theorem wm{left y:List Int}{n a:Nat}(hl:left.length=n)(hy:y.length=n):(dA left y a).length=n:=by
 unfold dA;rw[List.length_map,List.length_zip];omega
theorem AI{x y:List Int}{i:Nat}(h:i<x.length):nth (x++y) i=nth x i:=by
 unfold nth
 rw[List.getD_eq_getElem?_getD,List.getD_eq_getElem?_getD,List.getElem?_append_left h]
theorem Aj{x:List Int}{b:Int}:nth (x++[b]) x.length=b:=by
 unfold nth
 rw[List.getD_eq_getElem?_getD]
 simp
theorem CM{x:List Int}{n i:Nat}(h:i<n):nth (x.take n) i=nth x i:=by
 unfold nth
 rw[List.getD_eq_getElem?_getD,List.getD_eq_getElem?_getD,List.getElem?_take,if_pos h]
structure Red(n:Nat)(left y:List Int)(bot:Int)(a:Nat)(g:Int)(l':List Int)(b':Int):Prop where
 gp:0<g
 len:l'.length=n
 lv:∀i,g*nth l' i=nth left i*nth y a-nth y i*nth left a
 bv:g*b'=bot*nth y a
theorem Ga{n:Nat}{left y:List Int}{bot:Int}{a:Nat}(hl:left.length=n)(hy:y.length=n):Red n left y bot a (pQ (dA left y a++[bot*nth y a])) ((fY left y bot a).take n) (nth (fY left y bot a) n):=by
 have rl:=wm (a:=a) hl hy
 have len:(fY left y bot a).length=n+1:=by unfold fY;rw[low_length];simp[rl]
 refine⟨km _,by rw[List.length_take,len];omega,λi=> ?_, ?_⟩
 ·by_cases h:i<n
  ·rw[CM h]
   unfold fY
   rw[<- jG,AI (by omega),nA hl hy]
  ·rw[cJ (r:=(fY left y bot a).take n) (by rw[List.length_take];omega),<- nA (a:=a) hl hy,cJ (r:=dA left y a) (by omega)]
   omega
 ·unfold fY
  rw[<- jG]
  conv=>lhs;rw[<- rl]
  exact Aj
structure Shr(n:Nat)(R:List (List Int))(fit:List Int)(c:Nat)(ps:List (List Int))(T:List Sh)(left:List Int)(bot:Int):Prop where
 len:left.length=n
 nn:∀i,0<=nth left i
 bp:0<bot
 st:∀r∈R,bx n (nth r) (nth left)=0
 sub:Sub left fit
 cn:T.length+cnt left<=cnt fit
 good:∀s∈T,0<s.1.1/\0<s.1.2/\Int.gcd s.1.1 s.1.2=1/\Sub s.2 fit
 sl:(T.map (·.2)).Sublist ps
 eq:∀i,bot*(psS i T).2+(psS i T).1*nth left i=(psS i T).1*bot*nth fit i
 no:∀y∈ps,¬Sub y left
 sz:SzL (c+8001*T.length) left
 szb:Sz (c+8001*T.length) bot
 szt:∀s∈T,Sz (c+8001*T.length) s.1.1/\Sz (c+8001*T.length) s.1.2
theorem B1{n:Nat}{R:List (List Int)}{fit:List Int}{c:Nat}(hl:fit.length=n)(hn:∀i,0<=nth fit i)(hs:∀r∈R,bx n (nth r) (nth fit)=0)(hz:SzL c fit)(hc:1<=c):Shr n R fit c [] [] fit 1:=
 ⟨hl,hn,by decide,hs,Sub.refl _,by simp,by simp,by simp,λi=>by simp[psS],by simp,λx hx=>(hz x hx).mono (by simp),by
  unfold Sz
  have:2^1<=2^(c+8001*([]:List Sh).length):=Nat.pow_le_pow_right (by decide) (by simp;omega)
  omega,by simp⟩
theorem Ca{n:Nat}{R:List (List Int)}{fit:List Int}{c:Nat}{ps:List (List Int)}{T:List Sh}{left y:List Int}{bot:Int}(h:Shr n R fit c ps T left bot)(hy:¬Sub y left):Shr n R fit c (ps++[y]) T left bot:=
 ⟨h.len,h.nn,h.bp,h.st,h.sub,h.cn,h.good,h.sl.trans (List.sublist_append_left _ _),h.eq,λz hz=>by
  rcases List.mem_append.mp hz with q | q
  ·exact h.no z q
  ·rw[List.mem_singleton.mp q];exact hy,h.sz,h.szb,h.szt⟩
theorem pH{m:Nat}{g x z:Int}(hg:0<g)(e:g*x=z)(hz:Sz m z):Sz m x:=by
 unfold Sz at *
 have:x.natAbs<=z.natAbs:=by
  rw[<- e,Int.natAbs_mul]
  exact Nat.le_mul_of_pos_left _ (by omega)
 omega
theorem zo{g x:Int}(hg:0<g)(h:0<g*x):0<x:=Int.lt_of_mul_lt_mul_left (a:=g) (by rw[Int.mul_zero];exact h) (Int.le_of_lt hg)
theorem Iq{g x:Int}(hg:0<g)(h:0<=g*x):0<=x:=Int.le_of_mul_le_mul_left (a:=g) (by rw[Int.mul_zero];exact h) hg
theorem AS(g h B S P l ya y la t b bot f l' b':Int)(hg:g≠0)(hh:h≠0)(e1:la=h*t)(e2:bot*ya=h*b)(e3:g*l'=l*ya-y*la)(e4:g*b'=bot*ya)(hi:bot*S+P*l=P*bot*f):
 b'*(b*S+t*P*y)+P*b*l'=P*b*b'*f:=by
 have k:g*h*(b'*(b*S+t*P*y)+P*b*l')=g*h*(P*b*b'*f):=by grind
 exact Int.eq_of_mul_eq_mul_left (Int.mul_ne_zero hg hh) k
theorem B3{n:Nat}{R:List (List Int)}{fit:List Int}{c:Nat}{ps:List (List Int)}{T:List Sh}{left y l':List Int}{bot b' g:Int}{a:Nat}(h:Shr n R fit c ps T left bot)(ly:cy n R y)(hs:Sub y left)(hz:SzL 8000 y)(t:Tight left y a)(r:Red n left y bot a g l' b'):
 Shr n R fit c (ps++[y]) (T++[(rat (nth left a) (bot*nth y a),y)]) l' b':=by
 have yl:=ly.fit.len
 have an:a<n:=ly.fit.lt (i:=a) (by have:=t.pos;omega)
 have ya:=t.pos
 have la:0<nth left a:=by
  have h1:=hs a (by omega)
  have h2:=h.nn a
  omega
 have Bp:0<bot*nth y a:=Int.mul_pos h.bp ya
 obtain⟨k,k0,_,k1,k2,k3,k4⟩:=xj (a:=nth left a) (b:=bot*nth y a) (by omega)
 have kp:0<k:=by
  have:0<k*(rat (nth left a) (bot*nth y a)).2:=by rw[<- k2];exact Bp
  exact zo (g:=(rat (nth left a) (bot*nth y a)).2) k3 (by rw[Int.mul_comm];exact this)
 have k5:0<(rat (nth left a) (bot*nth y a)).1:=by
  have:0<k*(rat (nth left a) (bot*nth y a)).1:=by rw[<- k1];exact la
  exact zo kp this
 have y0:=ly.fit.nn
 have sub':Sub l' left:=λi hi hz=>by
  have hy0:nth y i=0:=by
   by_cases q:nth y i=0
   ·exact q
   ·exact absurd hz (hs i q)
  have:=r.lv i
  rw[hz,hy0,Int.zero_mul,Int.zero_mul,Int.sub_self] at this
  rcases Int.mul_eq_zero.mp this with q | q
  ·have:=r.gp;omega
  ·exact hi q
 have at0:nth l' a=0:=by
  have:=r.lv a
  rw[Int.mul_comm (nth left a),Int.sub_self] at this
  rcases Int.mul_eq_zero.mp this with q | q
  ·have:=r.gp;omega
  ·exact q
 have zsum:∀i,Sz (c+8001*T.length+8001) (nth left i*nth y a-nth y i*nth left a):=λi=>by
  have z1:∀j,Sz (c+8001*T.length) (nth left j):=λj=>by
   by_cases q:j<left.length
   ·exact h.sz _ (cU q)
   ·rw[cJ (by omega)];exact Sz.zero _
  have z2:∀j,Sz 8000 (nth y j):=λj=>by
   by_cases q:j<y.length
   ·exact hz _ (cU q)
   ·rw[cJ (by omega)];exact Sz.zero _
  have:=Sz.sub (Sz.mul (z1 i) (z2 a)) (Sz.mul (z2 i) (z1 a))
  exact this.mono (by omega)
 have zb:Sz (c+8001*T.length+8001) (bot*nth y a):=(Sz.mul h.szb (hz _ (cU (show a<y.length by omega)))).mono (by omega)
 have zl:Sz (c+8001*T.length) (nth left a):=h.sz _ (cU (by rw[h.len];exact an))
 have tl:(T++[((rat (nth left a) (bot*nth y a),y):Sh)]).length=T.length+1:=by simp
 refine⟨r.len,λi=> ?_, ?_,λq hq=> ?_,λi hi=>h.sub i (sub' i hi), ?_,λs hs'=> ?_, ?_,λi=> ?_,λz hz'=> ?_,λx hx=> ?_, ?_,λs hs'=> ?_⟩
 ·have e:=r.lv i
  have:0<=g*nth l' i:=by
   rw[e]
   by_cases q:0<nth y i
   ·have:=t.min i q
    rw[Int.mul_comm (nth y i)]
    omega
   ·have:nth y i=0:=by have:=y0 i;omega
    rw[this,Int.zero_mul,Int.sub_zero]
    exact Int.mul_nonneg (h.nn i) (by omega)
  exact Iq r.gp this
 ·have:0<g*b':=by rw[r.bv];exact Bp
  exact zo r.gp this
 ·have e1:=h.st q hq
  have e2:=ly.fit.st q hq
  have e3:bx n (nth q) (nth (dA left y a))=0:=by
   rw[p9 (c:=nth y a) (d:=nth left a) (x:=left) (y:=y) (λi=>by rw[nA h.len yl,Int.mul_comm (nth left i),Int.mul_comm (nth y i)]),e1,e2]
   omega
  have e4:bx n (nth q) (nth (dA left y a))=g*bx n (nth q) (nth l'):=by
   unfold bx
   rw[<- fO]
   refine eK λi _=> ?_
   rw[nA h.len yl,<- r.lv i,Int.mul_left_comm]
  rw[e4] at e3
  rcases Int.mul_eq_zero.mp e3 with z | z
  ·have:=r.gp;omega
  ·exact z
 ·have:=mS (x:=l') (y:=left) (m:=a) (by rw[r.len,h.len]) sub' (by omega) at0
  have:=h.cn
  omega
 ·rcases List.mem_append.mp hs' with q | q
  ·exact h.good s q
  ·rw[List.mem_singleton.mp q]
   exact⟨k5,k3,k4,λi hi=>h.sub i (hs i hi)⟩
 ·rw[List.map_append]
  exact h.sl.append (List.Sublist.refl _)
 ·rw[Ce]
  exact AS g k (bot*nth y a) (psS i T).2 (psS i T).1 (nth left i) (nth y a) (nth y i) (nth left a) _ _ bot (nth fit i) (nth l' i) b' (by have:=r.gp;omega) k0 k1 k2 (r.lv i) r.bv (h.eq i)
 ·rcases List.mem_append.mp hz' with q | q
  ·exact λz2=>h.no z q λi hi=>sub' i (z2 i hi)
  ·rw[List.mem_singleton.mp q]
   exact λz2=>z2 a (by omega) at0
 ·obtain⟨i,hi,rfl⟩:=List.getElem_of_mem hx
  have e:l'[i]=nth l' i:=by unfold nth;rw[List.getD_eq_getElem?_getD,List.getElem?_eq_getElem hi];rfl
  rw[e,tl]
  exact(pH r.gp (r.lv i) (zsum i)).mono (by omega)
 ·rw[tl]
  exact(pH r.gp r.bv zb).mono (by omega)
 ·rw[tl]
  rcases List.mem_append.mp hs' with q | q
  ·exact⟨(h.szt s q).1.mono (by omega),(h.szt s q).2.mono (by omega)⟩
  ·rw[List.mem_singleton.mp q]
   exact⟨(pH kp k1.symm zl).mono (by omega),(pH kp k2.symm zb).mono (by omega)⟩
theorem DS{n:Nat}{R:List (List Int)}{fit:List Int}{c:Nat}{ps:List (List Int)}{T:List Sh}{left:List Int}{bot:Int}(h:Shr n R fit c ps T left bot)(all:∀l,cy n R l->l∈ps)(i:Nat):(psS i T).2=(psS i T).1*nth fit i:=by
 have z:∀i,nth left i=0:=λi=>by
  by_cases q:nth left i=0
  ·exact q
  ·obtain⟨l,h1,h2⟩:=qg (cnt left) (Nat.le_refl _) (⟨h.len,h.nn,h.st,i,q⟩:Fit n R left)
   exact absurd h2 (h.no l (all l h1))
 have e:=h.eq i
 rw[z i,Int.mul_zero,Int.add_zero,Int.mul_comm (psS i T).1 bot,Int.mul_assoc] at e
 exact Int.eq_of_mul_eq_mul_left (by have:=h.bp;omega) e
end M
set_option maxRecDepth 100000
set_option maxHeartbeats 4000000
namespace M
open PySem PySem.Spec PyProof.Rows L2
abbrev pyL(r:List Int):PyData:=.list (r.map PyData.int)
theorem vS:∀A:List (List Int),gB (A.map vI)=some (A.map pyL)
 | []=>by simp[gB]
 | r::A=>by simp[gB,toPy,kQ,vS A]
theorem yx{O:au}:∀A:List (List Int),bF O (A.map vI)=A.map vI
 | []=>by simp[bF]
 | r::A=>by simp[bF,res,j9,yx A]
theorem sP:∀A:List (List Int),PyData.canLayAll0 (A.map pyL)=true
 | []=>by simp[PyData.canLayAll0]
 | r::A=>by simp[PyData.canLayAll0,PyData.canLay0,jZ,sP A]
theorem uQ:∀A:List (List Int),PyData.depthAll (A.map pyL)<=1
 | []=>by simp[PyData.depthAll]
 | r::A=>by
  have:=uQ A
  simp[PyData.depthAll,PyData.depth,kO]
  omega
theorem sq(A:List (List Int)):SeqAt.shaped (.list (A.map pyL))=true:=by
 have:=uQ A
 simp[SeqAt.shaped,PyData.canLay0,sP,PyData.depth]
 omega
theorem yF:∀A B:List (List Int),PyData.eqvAll (A.map pyL) (B.map pyL)=decide (A=B)
 | [],[]=>by simp[PyData.eqvAll]
 | [],_::_=>by simp[PyData.eqvAll]
 | _::_,[]=>by simp[PyData.eqvAll]
 | a::r,b::t=>by
  simp only[List.map_cons,PyData.eqvAll,PyData.eqv,nL,yF r t]
  by_cases h:a=b <;> by_cases h':r=t <;> simp[h,h']
theorem Ey{O:au}(A B:List (List Int)):eqB O (vII A) (vII B)=some (decide (A=B)):=by
 show gJ O _ _=_
 unfold gJ
 simp only[res,yx,toPy,vS,Option.map_some]
 rw[if_pos ⟨sq A,sq B⟩]
 simp only[PyData.eqv,yF]
theorem D4{O:au}(A B:List (List Int)):eqD O (vII A) (vII B)=.ok (.bl (decide (A=B))):=by unfold eqD;rw[Ey]
theorem CA(ms:List Int)(lo hi:Nat):∃ks:List Int,cutD (ms.map D.int) (some (lo:Int)) (some (hi:Int))=ks.map D.int/\ks.length<=hi-lo:=by
 refine⟨(ms.drop (min lo ms.length)).take (min hi ms.length-min lo ms.length), ?_, ?_⟩
 ·unfold cutD
  rw[HT.qi,HT.qi,List.length_map,List.map_take,List.map_drop]
 ·rw[List.length_take,List.length_drop]
  omega
theorem gs{ok:au->Prop}{g:GM}{body:SM}{d:D}{ds:List D}{s s1 s2:S}(hok:ok s.o)(hg:g d s=.ok s1)(hb:body s1=.next s2):bH ok g body (d::ds) s=bH ok g body ds s2:=by
 rw[bH,if_pos hok,hg,lL,hb]
end M
set_option maxRecDepth 100000
set_option maxHeartbeats 4000000
namespace M
open PySem PySem.Spec PyProof.Rows L2
end M
set_option maxRecDepth 100000
set_option maxHeartbeats 4000000
namespace M
open PySem PySem.Spec PyProof.Rows L2
end M
set_option maxRecDepth 100000
set_option maxHeartbeats 4000000
namespace M
open PySem PySem.Spec PyProof.Rows L2
section
variable {s s1 s2 : S} {R R' : List (Option D)} {O O' : au} {d x y : D} {xs ys : List D}
theorem aL{f:Op2}{ma mb:EM}(ha:ma s=.ok (x,s1))(hb:mb s1=.ok (y,s2))(hf:f s2.o x y=.ok d):aj f ma mb s=.ok (d,s2):=by
 rw[jh,ha,ak];dsimp only;rw[hb,ak];dsimp only;rw[hf,ak]
theorem vM{f:Op1}{ma:EM}(ha:ma s=.ok (x,s1))(hf:f s1.o x=.ok d):unM f ma s=.ok (d,s1):=by
 rw[FN,ha,ak];dsimp only;rw[hf,ak]
theorem eG{f:OpN}{ma:AM}(ha:ma s=.ok (xs,s1))(hf:f s1.o xs=.ok d):bV f ma s=.ok (d,s1):=by
 rw[yB,ha,ak];dsimp only;rw[hf,ak]
theorem ar{m:EM}{r:AM}(ha:m s=.ok (x,s1))(hb:r s1=.ok (ys,s2)):af m r s=.ok (x::ys,s2):=by
 rw[iW,ha,ak];dsimp only;rw[hb,ak]
theorem Dy{ma:AM}(ha:ma s=.ok (xs,s1))(hl:xs.length<=16777216):qH ma s=.ok (.tup xs,s1):=by
 rw[Ep,ha,ak];dsimp only;rw[if_pos hl]
theorem sS{ma:AM}(ha:ma s=.ok (xs,s1))(hl:xs.length<=16777216):i0 ma s=.ok (.lst xs,s1):=by
 rw[DO,ha,ak];dsimp only;rw[if_pos hl]
theorem xa{ma:AM}{n:Nat}(ha:ma s=.ok (xs,⟨R,O⟩))(hl:xs.length<=16777216)(hn:O.length=n)(hO:O++[.lst xs]=O'):qD ma s=.ok (.ptr n,⟨R,O'⟩):=by
 rw[EE,ha,ak];dsimp only;rw[if_pos hl,hn,hO]
theorem dD{m:EM}{b:Bool}(h:m s=.ok (.bl b,s1)):bh m s=.ok (b,s1):=by
 rw[tJ,h,ak]
theorem tj{m:TM}{b:Bool}(h:m s=.ok (b,s1)):o9 m s=.ok (!b,s1):=by
 rw[EH,h,ak]
theorem Fg{m:EM}{b:Bool}(h:m s=.ok (.bl b,s1)):xr m s=.ok (.bl (!b),s1):=by
 rw[EW,h,ak]
theorem Dm{a b:TM}{p q:Bool}(h:a s=.ok (p,s1))(hp:p=false)(h2:b s1=.ok (q,s2)):orT a b s=.ok (q,s2):=by
 subst hp;rw[FK,h,ak];exact h2
theorem sJ{a b:TM}{p q:Bool}(h:a s=.ok (p,s1))(hp:p=true)(h2:b s1=.ok (q,s2)):qQ a b s=.ok (q,s2):=by
 subst hp;rw[yQ,h,ak];exact h2
theorem Ab{a b:TM}{p:Bool}(h:a s=.ok (p,s1))(hp:p=false):qQ a b s=.ok (false,s1):=by
 subst hp;rw[yQ,h,ak];rfl
theorem pG{a b:EM}{p:Bool}(h:a s=.ok (.bl p,s1))(hp:p=true)(h2:b s1=.ok (x,s2)):lj a b s=.ok (x,s2):=by
 subst hp;rw[yi,h,ak];exact h2
theorem aZ{m:EM}{i:Nat}(h:m s=.ok (d,⟨R,O⟩))(hR:R.set i (some d)=R'):setM i m s=.next ⟨R',O⟩:=by
 subst hR;exact mM h
theorem vm{mo me:EM}{k:Nat}{ds0 ds:List D}(h1:mo s=.ok (.ptr k,s1))(c1:s1.o[k]? =some (.lst ds0))(h2:me s1=.ok (d,⟨R,O⟩))(c2:O[k]? =some (.lst ds))(hb:ds.length<=1000000)(hO:O.set k (.lst (ds++[d]))=O'):nR mo me s=.ok (.non,⟨R,O'⟩):=by
 subst hO;exact DN (s2:=⟨R,O⟩) h1 c1 h2 c2 hb
theorem kM{m:EM}{k:Nat}{ds:List D}(h:m s=.ok (.ptr k,⟨R,O⟩))(c:O[k]? =some (.lst ds))(hO:O.set k .dead=O'):fM m s=.ok (.lst ds,⟨R,O'⟩):=by
 subst hO;exact Ec h c
theorem t6{m:EM}{n:Nat}{ds:List D}(h:m s=.ok (x,⟨R,O⟩))(hs:pP O x=some ds)(hn:O.length=n)(hO:O++[.lst ds]=O'):lW m s=.ok (.ptr n,⟨R,O'⟩):=by
 rw[C9,h,ak];dsimp only;rw[hs];dsimp only;rw[hn,hO]
theorem eP{n:Nat}{f:FM}{ma:AM}{ds:List D}{O1:au}(h:ma s=.ok (ds,s1))(hf:f ds []=.ok (d,O1))(hp:aX ds=true)(hl:ds.length=n)(hd:cx d=true):bI n f ma s=.ok (d,s1):=xt h hp hl hf hd
theorem jV{n:Nat}{f:FM}{ma:AM}{ds:List D}{O1:au}(h:ma s=.ok (ds,⟨R,O⟩))(hf:f ds []=.ok (x,O1))(hp:aX ds=true)(hl:ds.length=n)(hx:shD O.length x=y)(hO:O++O1.map (shC O.length)=O'):eZ n f ma s=.ok (y,⟨R,O'⟩):=by
 subst hx;subst hO;exact B9 h hp hl hf
theorem jF{n:Nat}{f:FM}{ma:AM}{ds rs:List D}{O1:au}(h:ma s=.ok (ds,s1))(hr:bF s1.o (bF s1.o ds)=rs)(hf:f rs []=.ok (d,O1))(hp:aX rs=true)(hl:ds.length=n)(hd:lV d=true):eH n f ma s=.ok (d,s1):=by
 unfold eH
 rw[h,ak]
 dsimp only
 rw[hr,if_pos ⟨hp,hl⟩,hf]
 dsimp only
 rw[if_pos hd]
theorem dQ{n:Nat}{f:FM}{ma:AM}{ds:List D}{O1:au}(h:ma s=.ok (ds,⟨R,O⟩))(hf:f ds O=.ok (d,O1))(hl:ds.length=n):bo n f ma s=.ok (d,⟨R,O1⟩):=jE h hl hf
theorem G4{c:TM}{A B:SM}{p:Bool}(h:c s=.ok (p,s1))(hp:p=true):ifS c A B s=A s1:=by subst hp;exact vd h
theorem Hl{c:TM}{A B:SM}{p:Bool}(h:c s=.ok (p,s1))(hp:p=false):ifS c A B s=B s1:=by subst hp;exact vt h
theorem iZ(s:S):dw s=.ok (none,s):=rfl
theorem jx{m:EM}{i:Int}(h:m s=.ok (.int i,s1)):part m s=.ok (some i,s1):=by rw[Eg,h,ak]
theorem oN{me:EM}{ml mh:OM}{lo hi:Option Int}{s3:S}{ds es:List D}(h:me s=.ok (x,s1))(hl:ml s1=.ok (lo,s2))(hh:mh s2=.ok (hi,s3))(hd:lsD s3.o x=some ds)(he:cutD ds lo hi=es):slM me ml mh s=.ok (.lst es,s3):=by
 rw[Ff,h,ak];dsimp only;rw[hl,ak];dsimp only;rw[hh,ak];dsimp only;rw[hd];dsimp only;rw[he]
theorem DG{m:EM}{g:GM}(h:m s=.ok (d,s1))(hg:g d s1=.ok s2):gw m g s=.next s2:=by
 rw[mL,h,ak];dsimp only;rw[hg,lL]
end
section
variable {s s1 : S} {o : Out}
theorem aP{a b:SM}(h:a s=.next s1)(k:b s1=o):aK a b s=o:=(fq h).trans k
theorem iO{c:TM}{A B:SM}{p:Bool}(h:c s=.ok (p,s1))(hp:p=true)(k:A s1=o):ifS c A B s=o:=(G4 h hp).trans k
theorem du{c:TM}{A B:SM}{p:Bool}(h:c s=.ok (p,s1))(hp:p=false)(k:B s1=o):ifS c A B s=o:=(Hl h hp).trans k
theorem fR{n:Nat}{m:SM}{ds:List D}{O O1:au}{d:D}{R:List (Option D)}(h:m ⟨ds.map some++List.replicate (n-ds.length) none,O⟩=.ret d ⟨R,O1⟩):runM n m ds O=.ok (d,O1):=cz h
end
end M
set_option maxRecDepth 100000
set_option maxHeartbeats 4000000
namespace M
open PySem PySem.Spec PyProof.Rows L2
theorem B2{n:Nat}{m:SM}{ds:List D}{O:au}{d:D}{s:S}(h:m ⟨ds.map some++List.replicate (n-ds.length) none,O⟩=.ret d s):mj n m ds O=.ok (d,s.o):=by unfold mj;rw[h]
theorem wJ{n:Nat}{m:SM}{ds:List D}{O:au}{c:Nat}{a:D}{s:S}(h:m ⟨ds.map some++List.replicate (n-ds.length) none,O⟩=.exc c a s):mj n m ds O=.exc c a s:=by unfold mj;rw[h]
theorem E2{n:Nat}{m:SM}{ds:List D}{O:au}{s:S}(h:m ⟨ds.map some++List.replicate (n-ds.length) none,O⟩=.next s):mj n m ds O=.ok (.non,s.o):=by unfold mj;rw[h]
section
variable {s s1 s2 : S} {c : Nat} {a : D} {o : Out}
theorem zE{A B:SM}(h:A s=.exc c a s1):aK A B s=.exc c a s1:=by
 show (A s).then B=_
 rw[h];rfl
theorem x_raise{ma:AM}{xs:List D}(h:ma s=.ok (xs,s1))(hl:xs.length<=1000):lq c ma s=.exc c .non s1:=by
 unfold lq
 rw[h,lL]
 dsimp only
 rw[if_pos (pO (by omega))]
theorem yh{m:EM}(h:m s=.exc c a s1):iP m s=.exc c a s1:=by unfold iP;rw[h];rfl
theorem GI{mb:SM}{hs:Nat->SM}(h:mb s=.exc c a s1)(k:hs c s1=o):xc mb hs s=o:=by unfold xc;rw[h];exact k
theorem Hj{sub:Nat->Option Bool}{mb mr:Nat->SM}(h:sub c=some true)(k:mb c s=o):exM sub mb mr c s=o:=by unfold exM;rw[h];exact k
theorem G0{i:Nat}{mb:SM}{d:D}{R:List (Option D)}{O:au}(h:mb ⟨R.set i (some (.exn c)),O⟩=.ret d s1):asM i mb c ⟨R,O⟩=.ret d s1:=by unfold asM;dsimp only;rw[h]
theorem vf{sub:Nat->Option Bool}{m:EM}{b:Bool}(h:m s=.ok (.exn c,s1))(hs:sub c=some b):unM (lN sub) m s=.ok (.bl b,s1):=by
 refine vM h ?_
 unfold lN
 dsimp only
 rw[hs]
end
end M
set_option maxRecDepth 100000
set_option maxHeartbeats 4000000
namespace M
open PySem PySem.Spec PyProof.Rows L2
theorem Ez{n:Nat}{f:FM}{ma:AM}{s:S}{R:List (Option D)}{O O1 O':au}{x y:D}{ds rs:List D}(h:ma s=.ok (ds,⟨R,O⟩))(hr:bF O (bF O ds)=rs)(hf:f rs []=.ok (x,O1))(hp:aX rs=true)(hl:ds.length=n)(hd:pJ x=true)(hO1:O1.all vx=true)(hx:shD O.length x=y)(hO:O++O1.map (shC O.length)=O'):si n f ma s=.ok (y,⟨R,O'⟩):=by
 subst hx;subst hO
 unfold si
 rw[h,ak]
 dsimp only
 rw[hr,if_pos ⟨hp,hl⟩,hf]
 dsimp only
 rw[if_pos ⟨hd,hO1⟩]
abbrev bW(L:List (Nat×List Int)):List D:=L.map λp=>.ptr p.1
def Sto(O:au)(L:List (Nat×List Int)):Prop:=∀p∈L,O[p.1]? =some (.lst (p.2.map D.int))
theorem Sto.app{O:au}{L:List (Nat×List Int)}(h:Sto O L)(E:au):Sto (O++E) L:=λp hp=>dH (h p hp)
theorem Sto.set{O:au}{L:List (Nat×List Int)}(h:Sto O L){k:Nat}(hk:∀p∈L,p.1≠k)(c:Cell):Sto (O.set k c) L:=λp hp=>by rw[df λz=>hk p hp z.symm];exact h p hp
theorem Sto.lt{O:au}{L:List (Nat×List Int)}(h:Sto O L){p:Nat×List Int}(hp:p∈L):p.1<O.length:=kq (h p hp)
theorem sx{α:Type}{ok:au->Prop}{e:EM}{cap:List (Option D)}{item:α->D}{f:α->List Int}{T:α->Nat->Prop}(I:au->Prop)(hI:∀O E,I O->I (O++E))(hok:∀O,I O->ok O):
 ∀(l:List α) (acc:List D) (x:Option D) (O:au),I O->acc.length+l.length<=16777216->
 (∀a∈l,∀O,I O->∃q E,e ⟨some (item a)::cap,O⟩=.ok (.ptr q,⟨some (item a)::cap,O++E⟩)/\(O++E)[q]? =some (.lst ((f a).map D.int))/\(T a q\/O.length<=q))->
 ∃(L:List (Nat×List Int)) (E:au) (x':Option D),cE ok (aH 0) bZ e (l.map item) acc ⟨x::cap,O⟩=.ok (acc++bW L,⟨x'::cap,O++E⟩)/\L.map (·.2)=l.map f/\Sto (O++E) L/\∀p∈L,(∃a∈l,T a p.1)\/O.length<=p.1
 | [],acc,x,O,h,_,_=>⟨[],[],x,by rw[List.map_nil,cE,if_pos (hok _ h)];simp,rfl,(λp hp=>by cases hp),(λp hp=>by cases hp)⟩
 | a::l,acc,x,O,h,hl,he=>by
  obtain⟨q,E,e1,e2,e3⟩:=he a List.mem_cons_self O h
  rw[List.length_cons] at hl
  obtain⟨L,E',x',e4,e5,e6,e7⟩:=sx (T:=T) I hI hok l (acc++[.ptr q]) (some (item a)) (O++E) (hI O E h) (by simp;omega) (λa ha=>he a (List.mem_cons_of_mem _ ha))
  refine⟨(q,f a)::L,E++E',x', ?_,by simp[e5],λp hp=> ?_,λp hp=> ?_⟩
  ·rw[List.map_cons,cE,if_pos ⟨hok _ h,by omega⟩,B8,ak,CO,ak]
   dsimp only
   rw[if_pos rfl,show (⟨List.set (x::cap) 0 (some (item a)),O⟩:S)=⟨some (item a)::cap,O⟩ from rfl,e1,ak]
   dsimp only
   rw[e4]
   simp
  ·rw[<- List.append_assoc]
   rcases List.mem_cons.mp hp with rfl | hp
   ·exact dH e2
   ·exact e6 p hp
  ·rcases List.mem_cons.mp hp with rfl | hp
   ·rcases e3 with e3 | e3
    ·exact .inl ⟨a,List.mem_cons_self,e3⟩
    ·exact .inr e3
   ·rcases e7 p hp with⟨b,hb,z⟩ | z
    ·exact .inl ⟨b,List.mem_cons_of_mem _ hb,z⟩
    ·exact .inr (by rw[List.length_append] at z;omega)
theorem B7(O:au)(c d:Cell):(O++[c]).set O.length d=O++[d]:=by
 induction O with
 | nil=>rfl
 | cons a O ih=>exact congrArg (a:: ·) ih
end M
set_option maxRecDepth 100000
set_option maxHeartbeats 4000000
namespace M
open PySem PySem.Spec PyProof.Rows L2
section
variable {α β : Type} (f g : α → β)
end
end M
set_option maxRecDepth 100000
set_option maxHeartbeats 4000000
namespace Lk19
open PySem PySem.Spec PyProof.Rows L2 M
def top(i:Nat):Stmt:=PySem.Challenge.pw_modeyard_k19_lists_that_are_not_fit.main.body.getD i (.Pass ⟨0,0,0,0⟩)
abbrev ip:Stmt:=top 15
abbrev dI:Stmt:=top 16
abbrev jk:Stmt:=top 17
abbrev jW:Stmt:=top 18
abbrev kU:Stmt:=top 19
abbrev dE:Stmt:=top 21
abbrev mK:Stmt:=top 22
abbrev kW:Stmt:=top 23
abbrev jR:Stmt:=top 24
abbrev dg:Stmt:=top 25
abbrev gP:Stmt:=top 27
abbrev iq:Stmt:=top 28
abbrev dJ:Stmt:=top 29
abbrev dh:Stmt:=top 30
abbrev mO:Stmt:=top 31
abbrev gR:Stmt:=top 32
abbrev dS:Stmt:=top 33
abbrev jO:Stmt:=top 34
abbrev iz:Stmt:=top 36
abbrev jb:Stmt:=top 37
abbrev ir:Stmt:=top 38
abbrev gh:Stmt:=top 39
abbrev fg:Stmt:=top 40
abbrev jm:Stmt:=top 41
abbrev gd:Stmt:=top 42
abbrev fU:Stmt:=top 43
abbrev fi:Stmt:=top 44
abbrev gQ:Stmt:=top 45
abbrev kI:Stmt:=top 46
def jr:Nat->Option Bool:=λc=>match c with
 | 1=>some true
 | _=>none
def iN:Nat->Option Bool:=λc=>match c with
 | 1=>some true
 | _=>none
def nV:Nat->Option Bool:=λc=>match c with
 | 1=>some true
 | _=>none
def aR:Nat->Option Bool:=λc=>match c with
 | 1=>some false
 | _=>none
def fQ:Nat->Option Bool:=λc=>match c with
 | 1=>some false
 | _=>none
def caK(K:PySem.W.Frag):Nat->Addr:=λn=>match n with
 | 1=>clsAt K "NoFit"
 | 2=>clsAt K "YardError"
 | 3=>clsAt K "NoAmount"
 | 4=>clsAt K "NoBalance"
 | 5=>clsAt K "NoWay"
 | 6=>clsAt K "NoGood"
 | 7=>clsAt K "NoName"
 | 8=>clsAt K "NoRow"
 | 9=>clsAt K "NoText"
 | 10=>clsAt K "NoRatio"
 | 11=>clsAt K "NoWeights"
 | 12=>clsAt K "NoWork"
 | 13=>clsAt K "TooMany"
 | _=>0
noncomputable def jn:SM:=
 (bN (lj (unM (jq "int") (aa 0)) (xr (unM (jq "bool") (aa 0)))))
noncomputable def fB:FM:=runM 1 jn
noncomputable def pk:SM:=
 (aK (setM 2 (aj gg (aa 0) (aa 1)))
 (aK (setM 0 (aa 1))
 (setM 1 (aa 2))))
noncomputable def eW:SM:=
 (aK (setM 0 (bV qT (af (aa 0) aq)))
 (aK (setM 1 (bV qT (af (aa 1) aq)))
 (aK (tm (λs=>tN 1 s) (bh (aj neD (aa 1) (ao (.int 0))))
 pk)
 (bN (aa 0)))))
noncomputable def cQ:FM:=runM 3 eW
noncomputable def j5:SM:=
 (setM 1 (bI 2 cQ (af (aa 1) (af (aa 2) aq))))
noncomputable def jf:SM:=
 (aK (setM 1 (ao (.int 0)))
 (aK (jz (listI (aa 0)) (aH 2)
 j5)
 (bN (aa 1))))
noncomputable def jg:FM:=runM 3 jf
noncomputable def gx:SM:=
 (aK (setM 1 (bI 1 jg (af (aa 0) aq)))
 (aK (ifS (bh (aj eqD (aa 1) (ao (.int 0))))
 (bN (lW (aa 0)))
 cG)
 (bN (jy 1 [1] (listI (aa 0)) (aH 0) bZ (aj fS (aa 0) (aa 1))))))
noncomputable def gE:FM:=runM 2 gx
noncomputable def mQ:SM:=
 (aK (ifS (orT (o9 (bh (bI 1 fB (af (aa 0) aq)))) (o9 (bh (bI 1 fB (af (aa 1) aq)))))
 vU
 cG)
 (aK (ifS (bh (aj eqD (aa 1) (ao (.int 0))))
 vU
 cG)
 (aK (setM 2 (bI 2 cQ (af (aa 0) (af (aa 1) aq))))
 (aK (ifS (bh (aj ltD (aa 1) (ao (.int 0))))
 (setM 2 (unM lu (aa 2)))
 cG)
 (bN (qH (af (aj fS (aa 0) (aa 2)) (af (aj fS (aa 1) (aa 2)) aq))))))))
noncomputable def jN:FM:=runM 3 mQ
noncomputable def cW:SM:=
 (bN (bV tS (af (cM 2 [] (mm (af (aa 0) (af (aa 1) aq))) (dM (ba (aH 0) (ba (aH 1) ei)) 2) bZ (aj bJ (aa 0) (aa 1))) aq)))
noncomputable def bu:FM:=runM 2 cW
noncomputable def oY:SM:=
 (aK (setM 2 (vP ou (af (ao (.int 0)) aq) (aa 1)))
 (aK (gw (ao (.int 1)) (i4 (aa 2) (aa 0)))
 (bN (aa 2))))
noncomputable def mV:FM:=runM 3 oY
noncomputable def m9:SM:=
 (bN (cM 1 [0] (lH (af (aa 0) aq)) (aH 0) bZ (eZ 2 mV (af (aa 0) (af (aa 1) aq)))))
noncomputable def mI:FM:=runM 1 m9
noncomputable def lD:SM:=
 (aK (setM 4 (cM 2 [1,3] (mm (af (aa 0) (af (aa 2) aq))) (dM (ba (aH 0) (ba (aH 1) ei)) 2) bZ (aj jU (aj bJ (aa 0) (aa 3)) (aj bJ (aa 1) (aa 2)))))
 (bN (eZ 1 gE (af (aa 4) aq))))
noncomputable def jJ:FM:=runM 5 lD
noncomputable def bz:SM:=
 (ifS (bh (aj neD (aa 2) (ao (.int 0))))
 (bN (aa 1))
 cG)
noncomputable def cO:SM:=
 (aK (jz (dB (af (aa 0) aq)) (dM (ba (aH 1) (ba (aH 2) ei)) 2)
 bz)
 (bN (ao .non)))
noncomputable def ez:FM:=runM 3 cO
noncomputable def ky:SM:=
 (aK (setM 1 (aj bJ (aa 1) (ao (.int 2))))
 (ifS (bh (aj gtD (aa 2) (ao (.int 0))))
 (setM 1 (aj bK (aa 1) (ao (.int 1))))
 cG))
noncomputable def eN:SM:=
 (aK (setM 1 (ao (.int 0)))
 (aK (jz (listI (aa 0)) (aH 2)
 ky)
 (bN (aa 1))))
noncomputable def bT:FM:=runM 3 eN
noncomputable def gq:SM:=
 (bN (aj eqD (aj orD (aa 0) (aa 1)) (aa 1)))
noncomputable def d7:FM:=runM 2 gq
noncomputable def eV:SM:=
 (aK (setM 3 (aj orD (aa 0) (aa 1)))
 (bN (aj eqD (bV ee (af (cM 1 [3] (listI (aa 2)) (aH 0) (bh (bI 2 d7 (af (aa 0) (af (aa 1) aq)))) (aa 0)) aq)) (ao (.int 2)))))
noncomputable def dR:FM:=runM 4 eV
noncomputable def eJ:SM:=
 (ifS (bh (bI 3 dR (af (aj ixD (aa 3) (aa 7)) (af (aj ixD (aa 3) (aa 8)) (af (aa 3) aq)))))
 (iP (nR (aa 4) (si 4 jJ (af (aj ixD (aa 0) (aa 8)) (af (aj ixD (aa 2) (aa 8)) (af (aj ixD (aa 0) (aa 7)) (af (aj ixD (aa 2) (aa 7)) aq)))))))
 cG)
noncomputable def gA:SM:=
 (jz (listI (aa 6)) (aH 8)
 eJ)
noncomputable def ey:SM:=
 (aK (setM 2 (cM 1 [1] (listI (aa 0)) (aH 0) bZ (eH 2 bu (af (aa 1) (af (aa 0) aq)))))
 (aK (setM 3 (cM 1 [] (listI (aa 0)) (aH 0) bZ (eH 1 bT (af (aa 0) aq))))
 (aK (setM 4 (jy 2 [] (mm (af (aa 0) (af (aa 2) aq))) (dM (ba (aH 0) (ba (aH 1) ei)) 2) (bh (aj eqD (aa 1) (ao (.int 0)))) (aa 0)))
 (aK (setM 5 (cM 2 [] (dB (af (aa 2) aq)) (dM (ba (aH 0) (ba (aH 1) ei)) 2) (bh (aj gtD (aa 1) (ao (.int 0)))) (aa 0)))
 (aK (setM 6 (cM 2 [] (dB (af (aa 2) aq)) (dM (ba (aH 0) (ba (aH 1) ei)) 2) (bh (aj ltD (aa 1) (ao (.int 0)))) (aa 0)))
 (aK (jz (listI (aa 5)) (aH 7)
 gA)
 (bN (fM (aa 4)))))))))
noncomputable def ef:FM:=runM 9 ey
noncomputable def qM:SM:=
 (setM 2 (bo 2 ef (af (aa 2) (af (aa 3) aq))))
noncomputable def pf:SM:=
 (aK (setM 2 (bo 1 mI (af (aa 1) aq)))
 (aK (jz (listI (aa 0)) (aH 3)
 qM)
 (bN (pT ou (aa 2)))))
noncomputable def lP:FM:=runM 4 pf
noncomputable def fK:SM:=
 (aK (ifS (bh (aj neD (bV ee (af (aa 2) aq)) (aa 1)))
 (lq 1 (af (ao (.str ("a fit list has a number for each place of a row" :Str))) aq))
 cG)
 (aK (ifS (bh (bV zF (af (cM 1 [] (listI (aa 2)) (aH 0) bZ (aj ltD (aa 0) (ao (.int 0)))) aq)))
 (lq 1 (af (ao (.str ("a fit list has no number below 0" :Str))) aq))
 cG)
 (ifS (bh (bV zF (af (cM 1 [2] (listI (aa 0)) (aH 0) bZ (aj neD (eH 2 bu (af (aa 0) (af (aa 1) aq))) (ao (.int 0)))) aq)))
 (lq 1 (af (ao (.str ("a fit list is still" :Str))) aq))
 cG)))
noncomputable def gM:FM:=mj 3 fK
noncomputable def cP:SM:=
 (ifS (qQ (bh (aj gtD (aa 4) (ao (.int 0)))) (bh (aj ltD (aj bJ (aj ixD (aa 0) (aa 3)) (aj ixD (aa 1) (aa 2))) (aj bJ (aj ixD (aa 0) (aa 2)) (aa 4)))))
 (setM 2 (aa 3))
 cG)
noncomputable def eR:SM:=
 (aK (setM 2 (bI 1 ez (af (aa 1) aq)))
 (aK (jz (dB (af (aa 1) aq)) (dM (ba (aH 3) (ba (aH 4) ei)) 2)
 cP)
 (bN (aa 2))))
noncomputable def dN:FM:=runM 5 eR
noncomputable def jv:SM:=
 (ifS (bh (bI 2 d7 (af (eH 1 bT (af (aa 6) aq)) (af (eH 1 bT (af (aa 4) aq)) aq))))
 (aK (setM 7 (eH 2 dN (af (aa 4) (af (aa 6) aq))))
 (aK (iP (nR (aa 3) (qH (af (bI 2 jN (af (aj ixD (aa 4) (aa 7)) (af (aj bJ (aa 5) (aj ixD (aa 6) (aa 7))) aq))) (af (aa 6) aq)))))
 (aK (setM 8 (pe 2 [7,4,6] (vX (af (aa 4) (af (aa 6) aq))) (dM (ba (aH 0) (ba (aH 1) ei)) 2) bZ (aj jU (aj bJ (aa 0) (aj ixD (aa 4) (aa 2))) (aj bJ (aa 1) (aj ixD (aa 3) (aa 2))))))
 (aK (setM 9 (fM (eZ 1 gE (af (aj bK (aa 8) (i0 (af (aj bJ (aa 5) (aj ixD (aa 6) (aa 7))) aq))) aq))))
 (aK (setM 4 (slM (aa 9) dw (part (aa 1))))
 (setM 5 (aj ixD (aa 9) (aa 1))))))))
 cG)
noncomputable def gC:SM:=
 (aK (iP (nJ 3 gM (af (aa 0) (af (aa 1) (af (aa 2) aq)))))
 (aK (setM 3 (qD aq))
 (aK (setM 4 (bV kE (af (aa 2) aq)))
 (aK (setM 5 (ao (.int 1)))
 (aK (jz (listI (fM (eZ 2 lP (af (aa 0) (af (aa 1) aq))))) (aH 6)
 jv)
 (bN (aa 3)))))))
noncomputable def fN:FM:=mj 10 gC
noncomputable def gr:SM:=
 (aK (ifS (bh (aj ltD (aa 1) (bV ee (af (aa 0) aq))))
 (bN (aj ixD (aa 0) (aa 1)))
 cG)
 (bN (ao (.int 0))))
noncomputable def bR:FM:=runM 2 gr
noncomputable def ji:SM:=
 (bN (qD (af (aj bJ (aj gg (aj fS (aa 0) (ao (.int 2))) (aj gi (ao (.int 10)) (ao (.int 60)))) (aj gg (aa 0) (ao (.int 2)))) (af (aj gg (aj fS (aa 0) (ao (.int 2))) (ao (.int 2147483647))) aq))))
noncomputable def eL:FM:=runM 1 ji
noncomputable def bc:SM:=
 (aK (ifS (bh (aj gtD (aj ixD (aa 0) (ao (.int 0))) (ao (.int 0))))
 (aK (setM 2 (aj gg (aj ixD (aa 0) (ao (.int 0))) (aa 1)))
 (aK (gw (aj fS (aj ixD (aa 0) (ao (.int 0))) (aa 1)) (i4 (aa 0) (ao (.int 0))))
 (bN (aa 2))))
 cG)
 (aK (gw (aj gg (aj bK (aj bJ (aj ixD (aa 0) (ao (.int 1))) (ao (.int 48271))) (ao (.int 4099))) (ao (.int 2147483647))) (i4 (aa 0) (ao (.int 1))))
 (bN (aj gg (aj fS (aj gg (aj bJ (aj ixD (aa 0) (ao (.int 1))) (aj bK (aj fS (aj ixD (aa 0) (ao (.int 1))) (ao (.int 65536))) (ao (.int 7)))) (ao (.int 2147483629))) (ao (.int 32))) (aa 1)))))
noncomputable def aA:FM:=runM 3 bc
noncomputable def dc:SM:=
 (aK (setM 2 (bo 2 aA (af (aa 0) (af (ao (.int 6)) aq))))
 (aK (ifS (bh (aj eqD (aa 2) (ao (.int 4))))
 (bN (ao (.int 0)))
 cG)
 (aK (ifS (bh (aj eqD (aa 2) (ao (.int 5))))
 (bN (aj jU (aj gg (aj bK (aj bJ (bo 2 aA (af (aa 0) (af (ao (.int 1000)) aq))) (aj gi (ao (.int 10)) (ao (.int 6)))) (bo 2 aA (af (aa 0) (af (aj gi (ao (.int 10)) (ao (.int 6))) aq)))) (aa 1)) (bo 2 aA (af (aa 0) (af (ao (.int 9)) aq)))))
 cG)
 (bN (aj jU (bo 2 aA (af (aa 0) (af (ao (.int 7)) aq))) (ao (.int 3)))))))
noncomputable def dv:FM:=runM 3 dc
noncomputable def gL:SM:=
 (bN (bV tS (af (cM 2 [] (mm (af (aa 0) (af (aa 1) aq))) (dM (ba (aH 0) (ba (aH 1) ei)) 2) bZ (aj bJ (aa 0) (aa 1))) aq)))
noncomputable def eE:FM:=runM 2 gL
noncomputable def j0:SM:=
 (aK (setM 4 (bo 2 aA (af (aa 0) (af (ao (.int 8)) aq))))
 (aK (setM 5 (ao (.int 0)))
 (aK (ifS (bh (aj ltD (aa 4) (ao (.int 4))))
 (setM 5 (aj bK (bo 2 aA (af (aa 0) (af (ao (.int 4)) aq))) (ao (.int 1))))
 cG)
 (aK (ifS (bh (aj eqD (aa 4) (ao (.int 7))))
 (setM 5 (bo 2 aA (af (aa 0) (af (aj gi (ao (.int 10)) (ao (.int 6))) aq))))
 cG)
 (iP (nR (aa 2) (aa 5)))))))
noncomputable def kc:SM:=
 (aK (setM 2 (qD (af (ao (.int 1)) aq)))
 (aK (jz (lH (af (aj jU (aa 1) (ao (.int 1))) aq)) (aH 3)
 j0)
 (bN (fM (aa 2)))))
noncomputable def je:FM:=runM 6 kc
noncomputable def ib:SM:=
 (aK (setM 6 (eZ 1 eL (af (aj bK (aj ixD (aa 0) (aj gg (aa 5) (bV ee (af (aa 0) aq)))) (aj bJ (ao (.int 500009)) (aj fS (aa 5) (bV ee (af (aa 0) aq))))) aq)))
 (aK (setM 7 (jy 1 [6,3] (listI (aa 1)) (aH 0) bZ (bo 2 dv (af (aa 1) (af (aa 2) aq)))))
 (aK (ifS (qQ (bh (aj eqD (bo 2 aA (af (aa 6) (af (ao (.int 7)) aq))) (ao (.int 6)))) (bh (aj gtD (bV ee (af (aa 4) aq)) (ao (.int 0)))))
 (setM 7 (jy 1 [] (listI (aj ixD (aa 4) (unM lu (ao (.int 1))))) (aH 0) bZ (aj bJ (ao (.int 3)) (aa 0))))
 cG)
 (aK (gw (unM lu (bV tS (af (cM 1 [1,7] (tI (af (ao (.int 1)) (af (bV ee (af (aa 1) aq)) aq))) (aH 0) bZ (aj bJ (aj ixD (aa 2) (aa 0)) (aj ixD (aa 1) (aa 0)))) aq))) (i4 (aa 7) (ao (.int 0))))
 (iP (nR (aa 4) (fM (aa 7))))))))
noncomputable def hJ:SM:=
 (aK (setM 4 (qD aq))
 (aK (jz (lH (af (aa 2) aq)) (aH 5)
 ib)
 (bN (fM (aa 4)))))
noncomputable def gj:FM:=runM 8 hJ
noncomputable def gZ:SM:=
 (bN (cM 1 [1] (listI (aa 0)) (aH 0) bZ (aj bK (slM (aa 0) (part (aa 1)) dw) (slM (aa 0) dw (part (aa 1))))))
noncomputable def fX:FM:=runM 2 gZ
noncomputable def gH:SM:=
 (aK (xc (iP (nJ 3 fN (af (aa 0) (af (aa 1) (af (aa 2) aq)))))
 (exM jr (asM 3 (aK (ifS (orT (o9 (bh (unM (lN iN) (aa 3)))) (o9 (bh (unM (lN nV) (aa 3)))))
 (bN (ao (.bl false)))
 cG)
 (aK (ifS (bh (unM (lN aR) (aa 3)))
 (bN (ao (.bl false)))
 cG)
 (bN (xr (unM (lN fQ) (aa 3)))))))
 FC))
 (bN (ao (.bl false))))
noncomputable def fk:FM:=runM 4 gH
noncomputable def iL:SM:=
 (aK (setM 3 (cM 1 [] (listI (aa 0)) (aH 0) bZ (bV kE (af (aa 0) aq))))
 (aK (setM 4 (bV kE (af (aa 2) aq)))
 (aK (setM 5 (lj (aj eqD (bV ee (af (aa 2) aq)) (aa 1)) (aj geD (sO (aa 2) (ao (.int 0))) (ao (.int 0)))))
 (aK (setM 5 (lj (aa 5) (bV zM (af (cM 1 [2] (listI (aa 0)) (aH 0) bZ (aj eqD (bI 2 eE (af (aa 0) (af (aa 1) aq))) (ao (.int 0)))) aq))))
 (aK (ifS (bh (aa 5))
 (setM 6 (unM (jq "list") (fM (eZ 3 fN (af (aa 3) (af (aa 1) (af (aa 4) aq)))))))
 (setM 6 (bI 3 fk (af (aa 3) (af (aa 1) (af (aa 4) aq))))))
 (bN (lj (aa 6) (lj (aj eqD (aa 3) (aa 0)) (aj eqD (aa 4) (aa 2))))))))))
noncomputable def iH:FM:=runM 7 iL
noncomputable def qk:SM:=
 (ifS (o9 (bh (bI 3 iH (af (aa 5) (af (aa 1) (af (aa 11) aq))))))
 (bN (ao (.bl false)))
 cG)
noncomputable def zy:SM:=
 (aK (setM 1 (aj bK (ao (.int 1)) (aj gg (bI 2 bR (af (aa 0) (af (ao (.int 0)) aq))) (ao (.int 6)))))
 (aK (setM 2 (aj bK (i0 (af (bI 2 bR (af (aa 0) (af (ao (.int 1)) aq))) aq)) (slM (aa 0) (part (ao (.int 3))) (part (ao (.int 8))))))
 (aK (setM 3 (eZ 1 eL (af (bI 2 bR (af (aa 0) (af (ao (.int 2)) aq))) aq)))
 (aK (setM 4 (bo 2 je (af (aa 3) (af (aa 1) aq))))
 (aK (setM 5 (bI 4 gj (af (aa 2) (af (aa 4) (af (bV ee (af (slM (aa 0) (part (ao (.int 3))) (part (ao (.int 8)))) aq)) (af (aj ixD (i0 (af (ao (.int 4)) (af (aj gi (ao (.int 10)) (ao (.int 9))) aq))) (aj bJ (bV intOf (af (aj ltD (aa 1) (ao (.int 5))) aq)) (bo 2 aA (af (aa 3) (af (ao (.int 2)) aq))))) aq))))))
 (aK (setM 6 (bo 2 aA (af (aa 3) (af (aa 1) aq))))
 (aK (setM 5 (bI 2 fX (af (aa 5) (af (aa 6) aq))))
 (aK (setM 4 (aj bK (slM (aa 4) (part (aa 6)) dw) (slM (aa 4) dw (part (aa 6)))))
 (aK (setM 7 (bo 2 aA (af (aa 3) (af (aa 1) aq))))
 (aK (setM 8 (lW (aa 4)))
 (aK (gw (aj jU (unM lu (ao (.int 1))) (aj bJ (bo 2 aA (af (aa 3) (af (ao (.int 3)) aq))) (bo 2 aA (af (aa 3) (af (aj gi (ao (.int 10)) (ao (.int 6))) aq))))) (i4 (aa 8) (aa 7)))
 (aK (setM 9 (lW (aa 4)))
 (aK (gw (aj bK (aj bK (aj ixD (aa 9) (aa 7)) (ao (.int 1))) (bo 2 aA (af (aa 3) (af (ao (.int 3)) aq)))) (i4 (aa 9) (aa 7)))
 (aK (setM 10 (cM 1 [3] (lH (af (aa 1) aq)) (aH 0) bZ (bo 2 aA (af (aa 1) (af (ao (.int 4)) aq)))))
 (aK (jz (listI (i0 (af (aj bK (aa 4) (i0 (af (ao (.int 0)) aq))) (af (aj bK (slM (aa 4) dw (part (aa 7))) (slM (aa 4) (part (aj bK (aa 7) (ao (.int 1)))) dw)) (af (fM (aa 8)) (af (fM (aa 9)) (af (aa 10) (af (aj bK (aa 4) (aa 4)) (af (aa 4) aq))))))))) (aH 11)
 qk)
 (bN (ao (.bl true))))))))))))))))))
noncomputable def ve:FM:=runM 12 zy
end Lk19
set_option maxRecDepth 100000
set_option maxHeartbeats 4000000
namespace Lk19
open PySem PySem.Spec PyProof.Rows L2 M
section
variable {P : Program} {w : World} {K : PySem.W.Frag} {mg : Str → Option Value} {base : Heap} {ca : Nat → Addr}
theorem xY:bg ["value"] ["value"] (aD ip):=⟨rfl,rfl,rfl,by decide +kernel,rfl,by decide +kernel,by decide +kernel⟩
theorem xG{a:Addr}{fd:FuncData}(F:Fun K "is_whole" "is_whole" ip a fd)(hm:mg "is_whole" =some (.ref a))(hpt:P.given.tree=none)(n_isinstance:mg "isinstance" =none)(n_int:mg "int" =none)(n_bool:mg "bool" =none):cq P w K mg base ca 35 "is_whole" ["value"] fB a fd:=by
 refine⟨cm F xY rfl λcdv A outer s H E hr=> ?_,hm,F.kp,F.binds λ_ _ _ _ _ _ us hl=>match us,hl with | [_],_=>rfl⟩
 have hu:=hr.units
 have hdp:=cF hr (by decide)
 exact⟨_,(aJ (bq (oB (bA rF rfl n_isinstance Boot.«isinstance» (ah (pv 0) (ah (pM (v:=.ty "int") rfl n_int Boot.«int» rfl) ay))) (sW (Aw (bA rF rfl n_isinstance Boot.«isinstance» (ah (pv 0) (ah (pM (v:=.ty "bool") rfl n_bool Boot.«bool» rfl) ay)))))))),
  (br (mZ (xw ty_int (ae 0)) (yk (xw ty_bool (ae 0)))))⟩
theorem dG:bg ["one","other","rest"] ["one","other"] (aD dI):=⟨rfl,rfl,rfl,by decide +kernel,rfl,by decide +kernel,by decide +kernel⟩
theorem qr{a:Addr}{fd:FuncData}(F:Fun K "measure_of_two" "measure_of_two" dI a fd)(hm:mg "measure_of_two" =some (.ref a))(hpt:P.given.tree=none)(n_abs:mg "abs" =none):cq P w K mg base ca 35 "measure_of_two" ["one","other"] cQ a fd:=by
 refine⟨cm F dG rfl λcdv A outer s H E hr=> ?_,hm,F.kp,F.binds λ_ _ _ _ _ _ us hl=>match us,hl with | [_,_],_=>rfl⟩
 have hu:=hr.units
 have hdp:=cF hr (by decide)
 exact⟨_,(az (aT (i:=0) dG.nd rfl (Or.inl rfl) (bA vy rfl n_abs Boot.«abs» (ah (pv 0) ay)))
 (az (aT (i:=1) dG.nd rfl (Or.inl rfl) (bA vy rfl n_abs Boot.«abs» (ah (pv 1) ay)))
 (az (Ci PassesOwn.never (cK (zK hu) (pv 1) aE (bM _))
 (az (aT (i:=2) dG.nd rfl (Or.inl rfl) (aQ fZ (pv 0) (pv 1)))
 (az (aT (i:=0) dG.nd rfl (Or.inl rfl) (pv 1))
 (aJ (aT (i:=1) dG.nd rfl (Or.inl rfl) (pv 2))))))
 (aJ (bq (pv 0)))))),
  (aG (aN (bX Az (ai (ae 0) aB)))
 (aG (aN (bX Az (ai (ae 1) aB)))
 (aG (CG (da (av vq (ae 1) (aF 0)))
 (aG (aN (av hV (ae 0) (ae 1)))
 (aG (aN (ae 1))
 (aN (ae 2)))))
 (br (ae 0)))))⟩
theorem kJ:bg ["numbers","common","number"] ["numbers"] (aD jk):=⟨rfl,rfl,rfl,by decide +kernel,rfl,by decide +kernel,by decide +kernel⟩
theorem zX{a:Addr}{fd:FuncData}(F:Fun K "measure" "measure" jk a fd)(hm:mg "measure" =some (.ref a))(hpt:P.given.tree=none)(iX:bE P w K mg base ca 35 "measure_of_two" ["one","other"] cQ):cq P w K mg base ca 36 "measure" ["numbers"] jg a fd:=by
 obtain⟨rS,qm,i5,eW,i8,iU⟩:=iX
 refine⟨cm F kJ rfl λcdv A outer s H E hr=> ?_,hm,F.kp,F.binds λ_ _ _ _ _ _ us hl=>match us,hl with | [_],_=>rfl⟩
 have hu:=hr.units
 have hdp:=cF hr (by decide)
 exact⟨_,(az (aT (i:=1) kJ.nd rfl (Or.inl rfl) aE)
 (az (hU PassesOwn.never rfl (cY (pv 0)) (aV (i:=2) kJ.nd rfl (Or.inl rfl))
 (aJ (aT (i:=1) kJ.nd rfl (Or.inl rfl) (aO i5 (hr.mono (by decide)) rfl eW i8 iU .nil aY (ah (pv 1) (ah (pv 2) ay))))))
 (aJ (bq (pv 1))))),
  (aG (aN (aF 0))
 (aG (hZ (cZ (ae 0)) (aS 2)
 (aN (cB (n:=2) (f:=cQ) (ai (ae 1) (ai (ae 2) aB)))))
 (br (ae 1))))⟩
theorem uF:bg ["numbers","common"] ["numbers"] (aD jW):=⟨rfl,rfl,rfl,by decide +kernel,rfl,by decide +kernel,by decide +kernel⟩
theorem AB{a:Addr}{fd:FuncData}(F:Fun K "lowest" "lowest" jW a fd)(hm:mg "lowest" =some (.ref a))(hpt:P.given.tree=none)(n_list:mg "list" =none)(AZ:bE P w K mg base ca 36 "measure" ["numbers"] jg):cq P w K mg base ca 37 "lowest" ["numbers"] gE a fd:=by
 obtain⟨HC,G3,Bi,jf,Ar,Bm⟩:=AZ
 refine⟨cm F uF rfl λcdv A outer s H E hr=> ?_,hm,F.kp,F.binds λ_ _ _ _ _ _ us hl=>match us,hl with | [_],_=>rfl⟩
 have hu:=hr.units
 have hdp:=cF hr (by decide)
 exact⟨_,(az (aT (i:=1) uF.nd rfl (Or.inr rfl) (aO Bi (hr.mono (by decide)) rfl jf Ar Bm .nil aY (ah (pv 0) ay)))
 (az (dC (cK (jQ hu) (pv 1) aE (bM _))
 (aJ (bq (h9 gc rfl n_list Boot.«list» (ah (pv 0) ay))))
 cw)
 (aJ (bq (ft (own:=["number"]) (cap:=["common"]) (caps:=[1]) rfl ⟨rfl,by decide +kernel,by decide +kernel,by decide +kernel,⟨rfl,Or.inl rfl,rfl,trivial⟩,by decide +kernel⟩ (cY (pv 0)) (λ_ _ _=>(aV (i:=0) (show ((["number"]:List Str)++(["common"]:List Str)).Nodup from by decide +kernel) rfl (Or.inl rfl))) (λ_ _ _=>dm) (λ_ _ _=>(aQ (jw hdp hpt ⟨_,_,rfl,rfl,rfl,rfl,rfl⟩) (pv 0) (pv 1)))))))),
  (aG (aN (cB (n:=1) (f:=jg) (ai (ae 0) aB)))
 (aG (dy (da (av iy (ae 1) (aF 0)))
 (br (rn (ae 0)))
 cv)
 (br (nY (m:=1) (caps:=[1]) (cZ (ae 0)) (aS 0) dj (av iw (ae 0) (ae 1))))))⟩
theorem qX:bg ["top","bottom","common"] ["top","bottom"] (aD kU):=⟨rfl,rfl,rfl,by decide +kernel,rfl,by decide +kernel,by decide +kernel⟩
theorem Cy{a:Addr}{fd:FuncData}(F:Fun K "ratio" "ratio" kU a fd)(hm:mg "ratio" =some (.ref a))(hpt:P.given.tree=none)(zR:bE P w K mg base ca 35 "is_whole" ["value"] fB)(iX:bE P w K mg base ca 35 "measure_of_two" ["one","other"] cQ):cq P w K mg base ca 36 "ratio" ["top","bottom"] jN a fd:=by
 obtain⟨GZ,GR,sZ,jn,tq,sA⟩:=zR
 obtain⟨rS,qm,i5,eW,i8,iU⟩:=iX
 refine⟨cm F qX rfl λcdv A outer s H E hr=> ?_,hm,F.kp,F.binds λ_ _ _ _ _ _ us hl=>match us,hl with | [_,_],_=>rfl⟩
 have hu:=hr.units
 have hdp:=cF hr (by decide)
 exact⟨_,(az (dC (PW.pt (pw_or (oM (gG (aO sZ (hr.mono (by decide)) rfl jn tq sA .nil aY (ah (pv 0) ay)))) (pw_or1 (oM (gG (aO sZ (hr.mono (by decide)) rfl jn tq sA .nil aY (ah (pv 1) ay)))))))
 (aJ w8)
 cw)
 (az (dC (cK (jQ hu) (pv 1) aE (bM _))
 (aJ w8)
 cw)
 (az (aT (i:=2) qX.nd rfl (Or.inl rfl) (aO i5 (hr.mono (by decide)) rfl eW i8 iU .nil aY (ah (pv 0) (ah (pv 1) ay))))
 (az (dC (cK nI (pv 1) aE (bM _))
 (aJ (aT (i:=2) qX.nd rfl (Or.inl rfl) (vv sV (pv 2))))
 cw)
 (aJ (bq (sm (ah (aQ (jw hdp hpt ⟨_,_,rfl,rfl,rfl,rfl,rfl⟩) (pv 0) (pv 2)) (ah (aQ (jw hdp hpt ⟨_,_,rfl,rfl,rfl,rfl,rfl⟩) (pv 1) (pv 2)) ay))))))))),
  (aG (dy (Dj (oZ (iR (cB (n:=1) (f:=fB) (ai (ae 0) aB)))) (oZ (iR (cB (n:=1) (f:=fB) (ai (ae 1) aB)))))
 xq
 cv)
 (aG (dy (da (av iy (ae 1) (aF 0)))
 xq
 cv)
 (aG (aN (cB (n:=2) (f:=cQ) (ai (ae 0) (ai (ae 1) aB))))
 (aG (dy (da (av nN (ae 1) (aF 0)))
 (aN (vg r8 (ae 2)))
 cv)
 (br (Bj (ai (av iw (ae 0) (ae 2)) (ai (av iw (ae 1) (ae 2)) aB))))))))⟩
theorem o5:bg ["numbers","others"] ["numbers","others"] (aD dE):=⟨rfl,rfl,rfl,by decide +kernel,rfl,by decide +kernel,by decide +kernel⟩
theorem ph{a:Addr}{fd:FuncData}(F:Fun K "sum_of_products" "sum_of_products" dE a fd)(hm:mg "sum_of_products" =some (.ref a))(hpt:P.given.tree=none)(n_zip:mg "zip" =none)(n_sum:mg "sum" =none):cq P w K mg base ca 35 "sum_of_products" ["numbers","others"] bu a fd:=by
 refine⟨cm F o5 rfl λcdv A outer s H E hr=> ?_,hm,F.kp,F.binds λ_ _ _ _ _ _ us hl=>match us,hl with | [_,_],_=>rfl⟩
 have hu:=hr.units
 have hdp:=cF hr (by decide)
 exact⟨_,(aJ (bq (bA (oE rfl) rfl n_sum Boot.«sum» (ah (ft (own:=["number","other"]) (cap:=[]) (caps:=[]) rfl ⟨rfl,by decide +kernel,by decide +kernel,by decide +kernel,trivial,by decide +kernel⟩ (oX rfl n_zip (ah (pv 0) (ah (pv 1) ay))) (λ_ _ _=>(jB rfl (cC (aV (i:=0) (show ((["number","other"]:List Str)++([]:List Str)).Nodup from by decide +kernel) rfl (Or.inl rfl)) (cC (aV (i:=1) (show ((["number","other"]:List Str)++([]:List Str)).Nodup from by decide +kernel) rfl (Or.inl rfl)) ie)))) (λ_ _ _=>dm) (λ_ _ _=>(aQ eC (pv 0) (pv 1)))) ay)))),
  (br (bX vA (ai (dF (m:=2) (caps:=[]) (sr (ai (ae 0) (ai (ae 1) aB))) (ig (cA (aS 0) (cA (aS 1) ik))) dj (av dq (ae 0) (ae 1))) aB)))⟩
theorem yC:bg ["at","many","told"] ["at","many"] (aD mK):=⟨rfl,rfl,rfl,by decide +kernel,rfl,by decide +kernel,by decide +kernel⟩
theorem Et{a:Addr}{fd:FuncData}(F:Fun K "unit" "unit" mK a fd)(hm:mg "unit" =some (.ref a))(hpt:P.given.tree=none):cq P w K mg base ca 35 "unit" ["at","many"] mV a fd:=by
 refine⟨cm F yC rfl λcdv A outer s H E hr=> ?_,hm,F.kp,F.binds λ_ _ _ _ _ _ us hl=>match us,hl with | [_,_],_=>rfl⟩
 have hu:=hr.units
 have hdp:=cF hr (by decide)
 exact⟨_,(az (aT (i:=2) yC.nd rfl (Or.inl rfl) (aQ GK (iJ (ah aE ay)) (pv 1)))
 (az (mT aE (mG (pv 2) (pv 0) set_list))
 (aJ (bq (pv 2))))),
  (aG (aN (DX (ai (aF 0) aB) (ae 1)))
 (aG (lC (aF 1) (mU (ae 2) (ae 0)))
 (br (ae 2))))⟩
theorem C3:bg ["many"] ["many"] (aD kW):=⟨rfl,rfl,rfl,by decide +kernel,rfl,by decide +kernel,by decide +kernel⟩
theorem CY{a:Addr}{fd:FuncData}(F:Fun K "units" "units" kW a fd)(hm:mg "units" =some (.ref a))(hpt:P.given.tree=none)(n_range:mg "range" =none)(GF:bE P w K mg base ca 35 "unit" ["at","many"] mV):cq P w K mg base ca 36 "units" ["many"] mI a fd:=by
 obtain⟨Jr,IJ,Fw,oY,Gh,Fu⟩:=GF
 refine⟨cm F C3 rfl λcdv A outer s H E hr=> ?_,hm,F.kp,F.binds λ_ _ _ _ _ _ us hl=>match us,hl with | [_],_=>rfl⟩
 have hu:=hr.units
 have hdp:=cF hr (by decide)
 exact⟨_,(aJ (bq (ft (own:=["at"]) (cap:=["many"]) (caps:=[0]) rfl ⟨rfl,by decide +kernel,by decide +kernel,by decide +kernel,⟨rfl,Or.inl rfl,rfl,trivial⟩,by decide +kernel⟩ (lY rfl n_range (ah (pv 0) ay)) (λ_ _ _=>(aV (i:=0) (show ((["at"]:List Str)++(["many"]:List Str)).Nodup from by decide +kernel) rfl (Or.inl rfl))) (λ_ _ _=>dm) (λ_ _ _=>(aO Fw (hr.mono (by decide)) rfl oY Gh Fu .nil aY (ah (pv 0) (ah (pv 1) ay))))))),
  (br (dF (m:=1) (caps:=[0]) (qc (ai (ae 0) aB)) (aS 0) dj (iS (n:=2) (f:=mV) (ai (ae 0) (ai (ae 1) aB)))))⟩
theorem uM:bg ["one","one_value","other","other_value","mixed"] ["one","one_value","other","other_value"] (aD jR):=⟨rfl,rfl,rfl,by decide +kernel,rfl,by decide +kernel,by decide +kernel⟩
theorem Bh{a:Addr}{fd:FuncData}(F:Fun K "offset" "offset" jR a fd)(hm:mg "offset" =some (.ref a))(hpt:P.given.tree=none)(n_zip:mg "zip" =none)(rK:bE P w K mg base ca 37 "lowest" ["numbers"] gE):cq P w K mg base ca 38 "offset" ["one","one_value","other","other_value"] jJ a fd:=by
 obtain⟨C0,Bb,rg,gx,qR,qA⟩:=rK
 refine⟨cm F uM rfl λcdv A outer s H E hr=> ?_,hm,F.kp,F.binds λ_ _ _ _ _ _ us hl=>match us,hl with | [_,_,_,_],_=>rfl⟩
 have hu:=hr.units
 have hdp:=cF hr (by decide)
 exact⟨_,(az (eI (i:=4) (own:=["number","other_number"]) (cap:=["one_value","other_value"]) (caps:=[1,3]) rfl ⟨rfl,by decide +kernel,by decide +kernel,by decide +kernel,⟨rfl,Or.inl rfl,rfl,⟨rfl,Or.inl rfl,rfl,trivial⟩⟩,by decide +kernel⟩ (oX rfl n_zip (ah (pv 0) (ah (pv 2) ay))) (λ_ _ _=>(jB rfl (cC (aV (i:=0) (show ((["number","other_number"]:List Str)++(["one_value","other_value"]:List Str)).Nodup from by decide +kernel) rfl (Or.inl rfl)) (cC (aV (i:=1) (show ((["number","other_number"]:List Str)++(["one_value","other_value"]:List Str)).Nodup from by decide +kernel) rfl (Or.inl rfl)) ie)))) (λ_ _ _=>dm) (λ_ _ _=>(aQ mW (aQ eC (pv 0) (pv 3)) (aQ eC (pv 1) (pv 2)))) uM.nd rfl (Or.inl rfl) rfl)
 (aJ (bq (aO rg (hr.mono (by decide)) rfl gx qR qA .nil aY (ah (pv 4) ay))))),
  (aG (aN (dF (m:=2) (caps:=[1,3]) (sr (ai (ae 0) (ai (ae 2) aB))) (ig (cA (aS 0) (cA (aS 1) ik))) dj (av m8 (av dq (ae 0) (ae 3)) (av dq (ae 1) (ae 2)))))
 (br (iS (n:=1) (f:=gE) (ai (ae 4) aB))))⟩
theorem gW:bg ["numbers","at","number"] ["numbers"] (aD dg):=⟨rfl,rfl,rfl,by decide +kernel,rfl,by decide +kernel,by decide +kernel⟩
theorem om{a:Addr}{fd:FuncData}(F:Fun K "first_not_nought" "first_not_nought" dg a fd)(hm:mg "first_not_nought" =some (.ref a))(hpt:P.given.tree=none)(n_enumerate:mg "enumerate" =none):cq P w K mg base ca 35 "first_not_nought" ["numbers"] ez a fd:=by
 refine⟨cm F gW rfl λcdv A outer s H E hr=> ?_,hm,F.kp,F.binds λ_ _ _ _ _ _ us hl=>match us,hl with | [_],_=>rfl⟩
 have hu:=hr.units
 have hdp:=cF hr (by decide)
 exact⟨_,(az (hU PassesOwn.never rfl (pD rfl n_enumerate (ah (pv 0) ay)) (jB rfl (cC (aV (i:=1) gW.nd rfl (Or.inl rfl)) (cC (aV (i:=2) gW.nd rfl (Or.inl rfl)) ie)))
 (aJ (dC (cK (zK hu) (pv 2) aE (bM _))
 (aJ (bq (pv 1)))
 cw)))
 (aJ (bq FQ))),
  (aG (hZ (jt (ai (ae 0) aB)) (ig (cA (aS 1) (cA (aS 2) ik)))
 (dy (da (av vq (ae 2) (aF 0)))
 (br (ae 1))
 cv))
 (br FZ))⟩
theorem ia:bg ["numbers","bits","number"] ["numbers"] (aD gP):=⟨rfl,rfl,rfl,by decide +kernel,rfl,by decide +kernel,by decide +kernel⟩
theorem w6{a:Addr}{fd:FuncData}(F:Fun K "places_of" "places_of" gP a fd)(hm:mg "places_of" =some (.ref a))(hpt:P.given.tree=none):cq P w K mg base ca 35 "places_of" ["numbers"] bT a fd:=by
 refine⟨cm F ia rfl λcdv A outer s H E hr=> ?_,hm,F.kp,F.binds λ_ _ _ _ _ _ us hl=>match us,hl with | [_],_=>rfl⟩
 have hu:=hr.units
 have hdp:=cF hr (by decide)
 exact⟨_,(az (aT (i:=1) ia.nd rfl (Or.inl rfl) aE)
 (az (hU PassesOwn.never rfl (cY (pv 0)) (aV (i:=2) ia.nd rfl (Or.inl rfl))
 (az (aT (i:=1) ia.nd rfl (Or.inl rfl) (aQ eC (pv 1) aE))
 (aJ (dC (cK tw (pv 2) aE (bM _))
 (aJ (aT (i:=1) ia.nd rfl (Or.inl rfl) (aQ fA (pv 1) aE)))
 cw))))
 (aJ (bq (pv 1))))),
  (aG (aN (aF 0))
 (aG (hZ (cZ (ae 0)) (aS 2)
 (aG (aN (av dq (ae 1) (aF 2)))
 (dy (da (av su (ae 2) (aF 0)))
 (aN (av eg (ae 1) (aF 1)))
 cv)))
 (br (ae 1))))⟩
theorem xK:bg ["places","others"] ["places","others"] (aD iq):=⟨rfl,rfl,rfl,by decide +kernel,rfl,by decide +kernel,by decide +kernel⟩
theorem xC{a:Addr}{fd:FuncData}(F:Fun K "is_among" "is_among" iq a fd)(hm:mg "is_among" =some (.ref a))(hpt:P.given.tree=none):cq P w K mg base ca 35 "is_among" ["places","others"] d7 a fd:=by
 refine⟨cm F xK rfl λcdv A outer s H E hr=> ?_,hm,F.kp,F.binds λ_ _ _ _ _ _ us hl=>match us,hl with | [_,_],_=>rfl⟩
 have hu:=hr.units
 have hdp:=cF hr (by decide)
 exact⟨_,(aJ (bq (gN (jQ hu) (aQ Dq (pv 0) (pv 1)) (pv 1) (bM _)))),
  (br (av iy (av AX (ae 0) (ae 1)) (ae 1)))⟩
theorem kB:bg ["one","other","all_places","both"] ["one","other","all_places"] (aD dJ):=⟨rfl,rfl,rfl,by decide +kernel,rfl,by decide +kernel,by decide +kernel⟩
theorem qp{a:Addr}{fd:FuncData}(F:Fun K "are_neighbours" "are_neighbours" dJ a fd)(hm:mg "are_neighbours" =some (.ref a))(hpt:P.given.tree=none)(n_len:mg "len" =none)(nG:bE P w K mg base ca 35 "is_among" ["places","others"] d7):cq P w K mg base ca 36 "are_neighbours" ["one","other","all_places"] dR a fd:=by
 obtain⟨zC,xX,n8,gq,nq,nr⟩:=nG
 refine⟨cm F kB rfl λcdv A outer s H E hr=> ?_,hm,F.kp,F.binds λ_ _ _ _ _ _ us hl=>match us,hl with | [_,_,_],_=>rfl⟩
 have hu:=hr.units
 have hdp:=cF hr (by decide)
 exact⟨_,(az (aT (i:=3) kB.nd rfl (Or.inr rfl) (aQ Dq (pv 0) (pv 1)))
 (aJ (bq (gN (jQ hu) (bA gn rfl n_len Boot.«len» (ah (ft (own:=["places"]) (cap:=["both"]) (caps:=[3]) rfl ⟨rfl,by decide +kernel,by decide +kernel,by decide +kernel,⟨rfl,Or.inl rfl,rfl,trivial⟩,by decide +kernel⟩ (cY (pv 2)) (λ_ _ _=>(aV (i:=0) (show ((["places"]:List Str)++(["both"]:List Str)).Nodup from by decide +kernel) rfl (Or.inl rfl))) (λ_ _ _=>(pN (gG (aO n8 (hr.mono (by decide)) rfl gq nq nr .nil aY (ah (pv 0) (ah (pv 1) ay)))))) (λ_ _ _=>(pv 0))) ay)) aE (bM _))))),
  (aG (aN (av AX (ae 0) (ae 1)))
 (br (av iy (bX jA (ai (dF (m:=1) (caps:=[3]) (cZ (ae 2)) (aS 0) (iR (cB (n:=2) (f:=d7) (ai (ae 0) (ai (ae 1) aB)))) (ae 0)) aB)) (aF 2))))⟩
theorem cf:bg ["lists","row","values","places","told","above","below","high","low"] ["lists","row"] (aD dh):=⟨rfl,rfl,rfl,by decide +kernel,rfl,by decide +kernel,by decide +kernel⟩
theorem oj{a:Addr}{fd:FuncData}(F:Fun K "lone_by_one_more" "lone_by_one_more" dh a fd)(hm:mg "lone_by_one_more" =some (.ref a))(hpt:P.given.tree=none)(n_zip:mg "zip" =none)(n_enumerate:mg "enumerate" =none)(iA:bE P w K mg base ca 35 "sum_of_products" ["numbers","others"] bu)(mz:bE P w K mg base ca 35 "places_of" ["numbers"] bT)(rW:bE P w K mg base ca 36 "are_neighbours" ["one","other","all_places"] dR)(BI:bE P w K mg base ca 38 "offset" ["one","one_value","other","other_value"] jJ):cq P w K mg base ca 39 "lone_by_one_more" ["lists","row"] ef a fd:=by
 obtain⟨qs,o6,iC,cW,iB,iE⟩:=iA
 obtain⟨xS,wa,j1,eN,jY,j2⟩:=mz
 obtain⟨Cb,BD,rC,eV,qW,qK⟩:=rW
 obtain⟨HM,Hx,C8,lD,BQ,Cf⟩:=BI
 refine⟨cm F cf rfl λcdv A outer s H E hr=> ?_,hm,F.kp,F.binds λ_ _ _ _ _ _ us hl=>match us,hl with | [_,_],_=>rfl⟩
 have hu:=hr.units
 have hdp:=cF hr (by decide)
 exact⟨_,(az (eI (i:=2) (own:=["one"]) (cap:=["row"]) (caps:=[1]) rfl ⟨rfl,by decide +kernel,by decide +kernel,by decide +kernel,⟨rfl,Or.inl rfl,rfl,trivial⟩,by decide +kernel⟩ (cY (pv 0)) (λ_ _ _=>(aV (i:=0) (show ((["one"]:List Str)++(["row"]:List Str)).Nodup from by decide +kernel) rfl (Or.inl rfl))) (λ_ _ _=>dm) (λ_ _ _=>(aO iC (hr.mono (by decide)) rfl cW iB iE .nil aY (ah (pv 1) (ah (pv 0) ay)))) cf.nd rfl (Or.inl rfl) rfl)
 (az (eI (i:=3) (own:=["one"]) (cap:=[]) (caps:=[]) rfl ⟨rfl,by decide +kernel,by decide +kernel,by decide +kernel,trivial,by decide +kernel⟩ (cY (pv 0)) (λ_ _ _=>(aV (i:=0) (show ((["one"]:List Str)++([]:List Str)).Nodup from by decide +kernel) rfl (Or.inl rfl))) (λ_ _ _=>dm) (λ_ _ _=>(aO j1 (hr.mono (by decide)) rfl eN jY j2 .nil aY (ah (pv 0) ay))) cf.nd rfl (Or.inl rfl) rfl)
 (az (eI (i:=4) (own:=["one","value"]) (cap:=[]) (caps:=[]) rfl ⟨rfl,by decide +kernel,by decide +kernel,by decide +kernel,trivial,by decide +kernel⟩ (oX rfl n_zip (ah (pv 0) (ah (pv 2) ay))) (λ_ _ _=>(jB rfl (cC (aV (i:=0) (show ((["one","value"]:List Str)++([]:List Str)).Nodup from by decide +kernel) rfl (Or.inl rfl)) (cC (aV (i:=1) (show ((["one","value"]:List Str)++([]:List Str)).Nodup from by decide +kernel) rfl (Or.inl rfl)) ie)))) (λ_ _ _=>(pN (cK (jQ hu) (pv 1) aE (bM _)))) (λ_ _ _=>(pv 0)) cf.nd rfl (Or.inl rfl) rfl)
 (az (eI (i:=5) (own:=["at","value"]) (cap:=[]) (caps:=[]) rfl ⟨rfl,by decide +kernel,by decide +kernel,by decide +kernel,trivial,by decide +kernel⟩ (pD rfl n_enumerate (ah (pv 2) ay)) (λ_ _ _=>(jB rfl (cC (aV (i:=0) (show ((["at","value"]:List Str)++([]:List Str)).Nodup from by decide +kernel) rfl (Or.inl rfl)) (cC (aV (i:=1) (show ((["at","value"]:List Str)++([]:List Str)).Nodup from by decide +kernel) rfl (Or.inl rfl)) ie)))) (λ_ _ _=>(pN (cK tw (pv 1) aE (bM _)))) (λ_ _ _=>(pv 0)) cf.nd rfl (Or.inl rfl) rfl)
 (az (eI (i:=6) (own:=["at","value"]) (cap:=[]) (caps:=[]) rfl ⟨rfl,by decide +kernel,by decide +kernel,by decide +kernel,trivial,by decide +kernel⟩ (pD rfl n_enumerate (ah (pv 2) ay)) (λ_ _ _=>(jB rfl (cC (aV (i:=0) (show ((["at","value"]:List Str)++([]:List Str)).Nodup from by decide +kernel) rfl (Or.inl rfl)) (cC (aV (i:=1) (show ((["at","value"]:List Str)++([]:List Str)).Nodup from by decide +kernel) rfl (Or.inl rfl)) ie)))) (λ_ _ _=>(pN (cK nI (pv 1) aE (bM _)))) (λ_ _ _=>(pv 0)) cf.nd rfl (Or.inl rfl) rfl)
 (az (hU PassesOwn.never rfl (cY (pv 5)) (aV (i:=7) cf.nd rfl (Or.inl rfl))
 (aJ (hU PassesOwn.never rfl (cY (pv 6)) (aV (i:=8) cf.nd rfl (Or.inl rfl))
 (aJ (dC (gG (aO rC (hr.mono (by decide)) rfl eV qW qK .nil aY (ah (cL cc (pv 3) (pv 7) (λ_ _=>rfl)) (ah (cL cc (pv 3) (pv 8) (λ_ _=>rfl)) (ah (pv 3) ay)))))
 (aJ (lg (vk PySem.F.plainAttrs_list PySem.F.slot_list_append PySem.F.type_list_append j7 (pv 4) (ah (aO C8 (hr.mono (by decide)) rfl lD BQ Cf .nil aY (ah (cL cc (pv 0) (pv 8) (λ_ _=>rfl)) (ah (cL cc (pv 2) (pv 8) (λ_ _=>rfl)) (ah (cL cc (pv 0) (pv 7) (λ_ _=>rfl)) (ah (cL cc (pv 2) (pv 7) (λ_ _=>rfl)) ay))))) ay))))
 cw)))))
 (aJ (bq (pv 4))))))))),
  (aG (aN (dF (m:=1) (caps:=[1]) (cZ (ae 0)) (aS 0) dj (jH (n:=2) (f:=bu) (ai (ae 1) (ai (ae 0) aB)))))
 (aG (aN (dF (m:=1) (caps:=[]) (cZ (ae 0)) (aS 0) dj (jH (n:=1) (f:=bT) (ai (ae 0) aB))))
 (aG (aN (nY (m:=2) (caps:=[]) (sr (ai (ae 0) (ai (ae 2) aB))) (ig (cA (aS 0) (cA (aS 1) ik))) (da (av iy (ae 1) (aF 0))) (ae 0)))
 (aG (aN (dF (m:=2) (caps:=[]) (jt (ai (ae 2) aB)) (ig (cA (aS 0) (cA (aS 1) ik))) (da (av su (ae 1) (aF 0))) (ae 0)))
 (aG (aN (dF (m:=2) (caps:=[]) (jt (ai (ae 2) aB)) (ig (cA (aS 0) (cA (aS 1) ik))) (da (av nN (ae 1) (aF 0))) (ae 0)))
 (aG (hZ (cZ (ae 5)) (aS 7)
 (hZ (cZ (ae 6)) (aS 8)
 (dy (iR (cB (n:=3) (f:=dR) (ai (av cN (ae 3) (ae 7)) (ai (av cN (ae 3) (ae 8)) (ai (ae 3) aB)))))
 (kX (sv (ae 4) (BH (n:=4) (f:=jJ) (ai (av cN (ae 0) (ae 8)) (ai (av cN (ae 2) (ae 8)) (ai (av cN (ae 0) (ae 7)) (ai (av cN (ae 2) (ae 7)) aB)))))))
 cv)))
 (br (ju (ae 4)))))))))⟩
theorem qb:bg ["rows","many","lists","row"] ["rows","many"] (aD mO):=⟨rfl,rfl,rfl,by decide +kernel,rfl,by decide +kernel,by decide +kernel⟩
theorem EF{a:Addr}{fd:FuncData}(F:Fun K "lone" "lone" mO a fd)(hm:mg "lone" =some (.ref a))(hpt:P.given.tree=none)(n_sorted:mg "sorted" =none)(D7:bE P w K mg base ca 36 "units" ["many"] mI)(oW:bE P w K mg base ca 39 "lone_by_one_more" ["lists","row"] ef):cq P w K mg base ca 40 "lone" ["rows","many"] lP a fd:=by
 obtain⟨IK,HG,EU,m9,EK,DQ⟩:=D7
 obtain⟨Ay,zZ,oD,ey,pb,ow⟩:=oW
 refine⟨cm F qb rfl λcdv A outer s H E hr=> ?_,hm,F.kp,F.binds λ_ _ _ _ _ _ us hl=>match us,hl with | [_,_],_=>rfl⟩
 have hu:=hr.units
 have hdp:=cF hr (by decide)
 exact⟨_,(az (aT (i:=2) qb.nd rfl (Or.inl rfl) (aO EU (hr.mono (by decide)) rfl m9 EK DQ .nil aY (ah (pv 1) ay)))
 (az (hU PassesOwn.never rfl (cY (pv 0)) (aV (i:=3) qb.nd rfl (Or.inl rfl))
 (aJ (aT (i:=2) qb.nd rfl (Or.inl rfl) (aO oD (hr.mono (by decide)) rfl ey pb ow .nil aY (ah (pv 2) (ah (pv 3) ay))))))
 (aJ (bq (bA (xx hu) rfl n_sorted Boot.«sorted» (ah (pv 2) ay)))))),
  (aG (aN (cj (n:=1) (f:=mI) (ai (ae 1) aB)))
 (aG (hZ (cZ (ae 0)) (aS 3)
 (aN (cj (n:=2) (f:=ef) (ai (ae 2) (ai (ae 3) aB)))))
 (br (CW (ae 2)))))⟩
theorem we:bg ["rows","many","fit"] ["rows","many","fit"] (aD gR):=⟨rfl,rfl,rfl,by decide +kernel,rfl,by decide +kernel,by decide +kernel⟩
theorem xv{a:Addr}{fd:FuncData}(F:Fun K "check_fit" "check_fit" gR a fd)(hm:mg "check_fit" =some (.ref a))(hpt:P.given.tree=none)(n_len:mg "len" =none)(n_any:mg "any" =none)(xq_NoFit:PySem.W.excIn K (ca 1) bmV "ValueError.__new__" =true)(xm_NoFit:mg "NoFit" =some (.ref (ca 1)))(iA:bE P w K mg base ca 35 "sum_of_products" ["numbers","others"] bu):cq P w K mg base ca 36 "check_fit" ["rows","many","fit"] gM a fd:=by
 obtain⟨qs,o6,iC,cW,iB,iE⟩:=iA
 refine⟨yU F we rfl λcdv A outer s H E hr=> ?_,hm,F.kp,F.binds λ_ _ _ _ _ _ us hl=>match us,hl with | [_,_,_],_=>rfl⟩
 have hu:=hr.units
 have hdp:=cF hr (by decide)
 exact⟨_,(az (dC (cK (zK hu) (bA gn rfl n_len Boot.«len» (ah (pv 2) ay)) (pv 1) (bM _))
 (aJ (rB wV xq_NoFit PySem.F.excBase_ValueError rfl rfl xm_NoFit (ah wu ay)))
 cw)
 (az (dC (gG (bA (uP rfl) rfl n_any Boot.«any» (ah (ft (own:=["number"]) (cap:=[]) (caps:=[]) rfl ⟨rfl,by decide +kernel,by decide +kernel,by decide +kernel,trivial,by decide +kernel⟩ (cY (pv 2)) (λ_ _ _=>(aV (i:=0) (show ((["number"]:List Str)++([]:List Str)).Nodup from by decide +kernel) rfl (Or.inl rfl))) (λ_ _ _=>dm) (λ_ _ _=>(gN nI (pv 0) aE (bM _)))) ay)))
 (aJ (rB wV xq_NoFit PySem.F.excBase_ValueError rfl rfl xm_NoFit (ah wu ay)))
 cw)
 (aJ (dC (gG (bA (uP rfl) rfl n_any Boot.«any» (ah (ft (own:=["row"]) (cap:=["fit"]) (caps:=[2]) rfl ⟨rfl,by decide +kernel,by decide +kernel,by decide +kernel,⟨rfl,Or.inl rfl,rfl,trivial⟩,by decide +kernel⟩ (cY (pv 0)) (λ_ _ _=>(aV (i:=0) (show ((["row"]:List Str)++(["fit"]:List Str)).Nodup from by decide +kernel) rfl (Or.inl rfl))) (λ_ _ _=>dm) (λ_ _ _=>(gN (zK hu) (aO iC (hr.mono (by decide)) rfl cW iB iE .nil aY (ah (pv 0) (ah (pv 1) ay))) aE (bM _)))) ay)))
 (aJ (rB wV xq_NoFit PySem.F.excBase_ValueError rfl rfl xm_NoFit (ah wu ay)))
 cw)))),
  (aG (dy (da (av vq (bX jA (ai (ae 2) aB)) (ae 1)))
 (rq (c:=1) vc (ai (wO ("a fit list has a number for each place of a row" :Str)) aB))
 cv)
 (aG (dy (iR (bX AL (ai (dF (m:=1) (caps:=[]) (cZ (ae 2)) (aS 0) dj (av nN (ae 0) (aF 0))) aB)))
 (rq (c:=1) vc (ai (wO ("a fit list has no number below 0" :Str)) aB))
 cv)
 (dy (iR (bX AL (ai (dF (m:=1) (caps:=[2]) (cZ (ae 0)) (aS 0) dj (av vq (jH (n:=2) (f:=bu) (ai (ae 0) (ai (ae 1) aB))) (aF 0))) aB)))
 (rq (c:=1) vc (ai (wO ("a fit list is still" :Str)) aB))
 cv)))⟩
theorem eF:bg ["left","one","best","at","number"] ["left","one"] (aD dS):=⟨rfl,rfl,rfl,by decide +kernel,rfl,by decide +kernel,by decide +kernel⟩
theorem qo{a:Addr}{fd:FuncData}(F:Fun K "tightest_place" "tightest_place" dS a fd)(hm:mg "tightest_place" =some (.ref a))(hpt:P.given.tree=none)(n_enumerate:mg "enumerate" =none)(oJ:bE P w K mg base ca 35 "first_not_nought" ["numbers"] ez):cq P w K mg base ca 36 "tightest_place" ["left","one"] dN a fd:=by
 obtain⟨z4,zY,pB,cO,oA,o3⟩:=oJ
 refine⟨cm F eF rfl λcdv A outer s H E hr=> ?_,hm,F.kp,F.binds λ_ _ _ _ _ _ us hl=>match us,hl with | [_,_],_=>rfl⟩
 have hu:=hr.units
 have hdp:=cF hr (by decide)
 exact⟨_,(az (aT (i:=2) eF.nd rfl (Or.inl rfl) (aO pB (hr.mono (by decide)) rfl cO oA o3 .nil aY (ah (pv 1) ay)))
 (az (hU PassesOwn.never rfl (pD rfl n_enumerate (ah (pv 1) ay)) (jB rfl (cC (aV (i:=3) eF.nd rfl (Or.inl rfl)) (cC (aV (i:=4) eF.nd rfl (Or.inl rfl)) ie)))
 (aJ (dC (PW.pt (pw_and (cK tw (pv 4) aE (bM _)) (pw_and1 (cK nI (aQ eC (cL cc (pv 0) (pv 3) (λ_ _=>rfl)) (cL cc (pv 1) (pv 2) (λ_ _=>rfl))) (aQ eC (cL cc (pv 0) (pv 2) (λ_ _=>rfl)) (pv 4)) (bM _)))))
 (aJ (aT (i:=2) eF.nd rfl (Or.inl rfl) (pv 3)))
 cw)))
 (aJ (bq (pv 2))))),
  (aG (aN (cB (n:=1) (f:=ez) (ai (ae 1) aB)))
 (aG (hZ (jt (ai (ae 1) aB)) (ig (cA (aS 3) (cA (aS 4) ik)))
 (dy (Ax (da (av su (ae 4) (aF 0))) (da (av nN (av dq (av cN (ae 0) (ae 3)) (av cN (ae 1) (ae 2))) (av dq (av cN (ae 0) (ae 2)) (ae 4)))))
 (aN (ae 3))
 cv))
 (br (ae 2))))⟩
theorem eO:bg ["rows","many","fit","told","left","bottom","one","at","rest","reduced"] ["rows","many","fit"] (aD jO):=⟨rfl,rfl,rfl,by decide +kernel,rfl,by decide +kernel,by decide +kernel⟩
theorem A5{a:Addr}{fd:FuncData}(F:Fun K "shares" "shares" jO a fd)(hm:mg "shares" =some (.ref a))(hpt:P.given.tree=none)(n_list:mg "list" =none)(n_zip:mg "zip" =none)(xJ:bE P w K mg base ca 36 "check_fit" ["rows","many","fit"] gM)(Fc:bE P w K mg base ca 40 "lone" ["rows","many"] lP)(nG:bE P w K mg base ca 35 "is_among" ["places","others"] d7)(mz:bE P w K mg base ca 35 "places_of" ["numbers"] bT)(qG:bE P w K mg base ca 36 "tightest_place" ["left","one"] dN)(EI:bE P w K mg base ca 36 "ratio" ["top","bottom"] jN)(rK:bE P w K mg base ca 37 "lowest" ["numbers"] gE):cq P w K mg base ca 41 "shares" ["rows","many","fit"] fN a fd:=by
 obtain⟨GS,FW,yf,fK,yd,xA⟩:=xJ
 obtain⟨Jf,IL,GC,pf,Fx,FV⟩:=Fc
 obtain⟨zC,xX,n8,gq,nq,nr⟩:=nG
 obtain⟨xS,wa,j1,eN,jY,j2⟩:=mz
 obtain⟨C5,BE,rf,eR,qB,rO⟩:=qG
 obtain⟨IV,Iu,D6,mQ,EG,Ex⟩:=EI
 obtain⟨C0,Bb,rg,gx,qR,qA⟩:=rK
 refine⟨yU F eO rfl λcdv A outer s H E hr=> ?_,hm,F.kp,F.binds λ_ _ _ _ _ _ us hl=>match us,hl with | [_,_,_],_=>rfl⟩
 have hu:=hr.units
 have hdp:=cF hr (by decide)
 exact⟨_,(az (lg (vG yf (hr.mono (by decide)) rfl fK yd xA .nil Hg.s (ah (pv 0) (ah (pv 1) (ah (pv 2) ay)))))
 (az (aT (i:=3) eO.nd rfl (Or.inl rfl) (iJ ay))
 (az (aT (i:=4) eO.nd rfl (Or.inr rfl) (h9 gc rfl n_list Boot.«list» (ah (pv 2) ay)))
 (az (aT (i:=5) eO.nd rfl (Or.inl rfl) aE)
 (az (Di (hU PassesOwn.never rfl (cY (aO GC (hr.mono (by decide)) rfl pf Fx FV .nil aY (ah (pv 0) (ah (pv 1) ay)))) (aV (i:=6) eO.nd rfl (Or.inr rfl))
 (aJ (dC (gG (aO n8 (hr.mono (by decide)) rfl gq nq nr .nil aY (ah (aO j1 (hr.mono (by decide)) rfl eN jY j2 .nil aY (ah (pv 6) ay)) (ah (aO j1 (hr.mono (by decide)) rfl eN jY j2 .nil aY (ah (pv 4) ay)) ay))))
 (az (aT (i:=7) eO.nd rfl (Or.inr rfl) (aO rf (hr.mono (by decide)) rfl eR qB rO .nil aY (ah (pv 4) (ah (pv 6) ay))))
 (az (lg (vk PySem.F.plainAttrs_list PySem.F.slot_list_append PySem.F.type_list_append j7 (pv 3) (ah (sm (ah (aO D6 (hr.mono (by decide)) rfl mQ EG Ex .nil aY (ah (cL cc (pv 4) (pv 7) (λ_ _=>rfl)) (ah (aQ eC (pv 5) (cL cc (pv 6) (pv 7) (λ_ _=>rfl))) ay))) (ah (pv 6) ay))) ay)))
 (az (eI (i:=8) (own:=["number","other"]) (cap:=["at","left","one"]) (caps:=[7,4,6]) rfl ⟨rfl,by decide +kernel,by decide +kernel,by decide +kernel,⟨rfl,Or.inl rfl,rfl,⟨rfl,Or.inl rfl,rfl,⟨rfl,Or.inl rfl,rfl,trivial⟩⟩⟩,by decide +kernel⟩ (oX rfl n_zip (ah (pv 4) (ah (pv 6) ay))) (λ_ _ _=>(jB rfl (cC (aV (i:=0) (show ((["number","other"]:List Str)++(["at","left","one"]:List Str)).Nodup from by decide +kernel) rfl (Or.inl rfl)) (cC (aV (i:=1) (show ((["number","other"]:List Str)++(["at","left","one"]:List Str)).Nodup from by decide +kernel) rfl (Or.inl rfl)) ie)))) (λ_ _ _=>dm) (λ_ _ _=>(aQ mW (aQ eC (pv 0) (cL cc (pv 4) (pv 2) (λ_ _=>rfl))) (aQ eC (pv 1) (cL cc (pv 3) (pv 2) (λ_ _=>rfl))))) eO.nd rfl (Or.inl rfl) rfl)
 (az (aT (i:=9) eO.nd rfl (Or.inl rfl) (aO rg (hr.mono (by decide)) rfl gx qR qA .nil aY (ah (aQ fA (pv 8) (iJ (ah (aQ eC (pv 5) (cL cc (pv 6) (pv 7) (λ_ _=>rfl))) ay))) ay)))
 (az (aT (i:=4) eO.nd rfl (Or.inr rfl) (gF ic (pv 9) jL (fT (pv 1))))
 (aJ (aT (i:=5) eO.nd rfl (Or.inl rfl) (cL cc (pv 9) (pv 1) (λ_ _=>rfl)))))))))
 cw))))
 (aJ (bq (pv 3)))))))),
  (aG (kX (vF (n:=3) (f:=gM) vc (ai (ae 0) (ai (ae 1) (ai (ae 2) aB)))))
 (aG (aN (pV aB))
 (aG (aN (bX qI (ai (ae 2) aB)))
 (aG (aN (aF 1))
 (aG (hZ (cZ (ju (iS (n:=2) (f:=lP) (ai (ae 0) (ai (ae 1) aB))))) (aS 6)
 (dy (iR (cB (n:=2) (f:=d7) (ai (jH (n:=1) (f:=bT) (ai (ae 6) aB)) (ai (jH (n:=1) (f:=bT) (ai (ae 4) aB)) aB))))
 (aG (aN (jH (n:=2) (f:=dN) (ai (ae 4) (ai (ae 6) aB))))
 (aG (kX (sv (ae 3) (Bj (ai (cB (n:=2) (f:=jN) (ai (av cN (ae 4) (ae 7)) (ai (av dq (ae 5) (av cN (ae 6) (ae 7))) aB))) (ai (ae 6) aB)))))
 (aG (aN (AV (m:=2) (caps:=[7,4,6]) (DU (ai (ae 4) (ai (ae 6) aB))) (ig (cA (aS 0) (cA (aS 1) ik))) dj (av m8 (av dq (ae 0) (av cN (ae 4) (ae 2))) (av dq (ae 1) (av cN (ae 3) (ae 2))))))
 (aG (aN (ju (iS (n:=1) (f:=gE) (ai (av eg (ae 8) (oF (ai (av dq (ae 5) (av cN (ae 6) (ae 7))) aB))) aB))))
 (aG (aN (kG (ae 9) h8 (gf (ae 1))))
 (aN (av cN (ae 9) (ae 1))))))))
 cv))
 (br (ae 3)))))))⟩
theorem xW:bg ["_law_script","_law_k"] ["_law_script","_law_k"] (aD iz):=⟨rfl,rfl,rfl,by decide +kernel,rfl,by decide +kernel,by decide +kernel⟩
theorem xT{a:Addr}{fd:FuncData}(F:Fun K "_law_cell" "_law_cell" iz a fd)(hm:mg "_law_cell" =some (.ref a))(hpt:P.given.tree=none)(n_len:mg "len" =none):cq P w K mg base ca 35 "_law_cell" ["_law_script","_law_k"] bR a fd:=by
 refine⟨cm F xW rfl λcdv A outer s H E hr=> ?_,hm,F.kp,F.binds λ_ _ _ _ _ _ us hl=>match us,hl with | [_,_],_=>rfl⟩
 have hu:=hr.units
 have hdp:=cF hr (by decide)
 exact⟨_,(az (dC (cK nI (pv 1) (bA gn rfl n_len Boot.«len» (ah (pv 0) ay)) (bM _))
 (aJ (bq (cL cc (pv 0) (pv 1) (λ_ _=>rfl))))
 cw)
 (aJ (bq aE))),
  (aG (dy (da (av nN (ae 1) (bX jA (ai (ae 0) aB))))
 (br (av cN (ae 0) (ae 1)))
 cv)
 (br (aF 0)))⟩
theorem zu:bg ["_law_cell_here"] ["_law_cell_here"] (aD jb):=⟨rfl,rfl,rfl,by decide +kernel,rfl,by decide +kernel,by decide +kernel⟩
theorem zA{a:Addr}{fd:FuncData}(F:Fun K "_law_bag" "_law_bag" jb a fd)(hm:mg "_law_bag" =some (.ref a))(hpt:P.given.tree=none):cq P w K mg base ca 35 "_law_bag" ["_law_cell_here"] eL a fd:=by
 refine⟨cm F zu rfl λcdv A outer s H E hr=> ?_,hm,F.kp,F.binds λ_ _ _ _ _ _ us hl=>match us,hl with | [_],_=>rfl⟩
 have hu:=hr.units
 have hdp:=cF hr (by decide)
 exact⟨_,(aJ (bq (iJ (ah (aQ eC (aQ fZ (aQ (jw hdp hpt ⟨_,_,rfl,rfl,rfl,rfl,rfl⟩) (pv 0) aE) (aQ mJ aE aE)) (aQ fZ (pv 0) aE)) (ah (aQ fZ (aQ (jw hdp hpt ⟨_,_,rfl,rfl,rfl,rfl,rfl⟩) (pv 0) aE) aE) ay))))),
  (br (pV (ai (av dq (av hV (av iw (ae 0) (aF 2)) (av mP (aF 10) (aF 60))) (av hV (ae 0) (aF 2))) (ai (av hV (av iw (ae 0) (aF 2)) (aF 2147483647)) aB))))⟩
theorem qu:bg ["_law_bag_here","_law_many","_law_found"] ["_law_bag_here","_law_many"] (aD ir):=⟨rfl,rfl,rfl,by decide +kernel,rfl,by decide +kernel,by decide +kernel⟩
theorem ye{a:Addr}{fd:FuncData}(F:Fun K "_law_draw" "_law_draw" ir a fd)(hm:mg "_law_draw" =some (.ref a))(hpt:P.given.tree=none):cq P w K mg base ca 35 "_law_draw" ["_law_bag_here","_law_many"] aA a fd:=by
 refine⟨cm F qu rfl λcdv A outer s H E hr=> ?_,hm,F.kp,F.binds λ_ _ _ _ _ _ us hl=>match us,hl with | [_,_],_=>rfl⟩
 have hu:=hr.units
 have hdp:=cF hr (by decide)
 exact⟨_,(az (dC (cK tw (cL cc (pv 0) aE (λ_ _=>rfl)) aE (bM _))
 (az (aT (i:=2) qu.nd rfl (Or.inl rfl) (aQ fZ (cL cc (pv 0) aE (λ_ _=>rfl)) (pv 1)))
 (az (mT (aQ (jw hdp hpt ⟨_,_,rfl,rfl,rfl,rfl,rfl⟩) (cL cc (pv 0) aE (λ_ _=>rfl)) (pv 1)) (mG (pv 0) aE set_list))
 (aJ (bq (pv 2)))))
 cw)
 (az (mT (aQ fZ (aQ fA (aQ eC (cL cc (pv 0) aE (λ_ _=>rfl)) aE) aE) aE) (mG (pv 0) aE set_list))
 (aJ (bq (aQ fZ (aQ (jw hdp hpt ⟨_,_,rfl,rfl,rfl,rfl,rfl⟩) (aQ fZ (aQ eC (cL cc (pv 0) aE (λ_ _=>rfl)) (aQ fA (aQ (jw hdp hpt ⟨_,_,rfl,rfl,rfl,rfl,rfl⟩) (cL cc (pv 0) aE (λ_ _=>rfl)) aE) aE)) aE) aE) (pv 1)))))),
  (aG (dy (da (av su (av cN (ae 0) (aF 0)) (aF 0)))
 (aG (aN (av hV (av cN (ae 0) (aF 0)) (ae 1)))
 (aG (lC (av iw (av cN (ae 0) (aF 0)) (ae 1)) (mU (ae 0) (aF 0)))
 (br (ae 2))))
 cv)
 (aG (lC (av hV (av eg (av dq (av cN (ae 0) (aF 1)) (aF 48271)) (aF 4099)) (aF 2147483647)) (mU (ae 0) (aF 1)))
 (br (av hV (av iw (av hV (av dq (av cN (ae 0) (aF 1)) (av eg (av iw (av cN (ae 0) (aF 1)) (aF 65536)) (aF 7))) (aF 2147483629)) (aF 32)) (ae 1)))))⟩
theorem og:bg ["_law_bag_here","_law_wide","_law_way"] ["_law_bag_here","_law_wide"] (aD gh):=⟨rfl,rfl,rfl,by decide +kernel,rfl,by decide +kernel,by decide +kernel⟩
theorem uR{a:Addr}{fd:FuncData}(F:Fun K "_law_number" "_law_number" gh a fd)(hm:mg "_law_number" =some (.ref a))(hpt:P.given.tree=none)(gv:bE P w K mg base ca 35 "_law_draw" ["_law_bag_here","_law_many"] aA):cq P w K mg base ca 36 "_law_number" ["_law_bag_here","_law_wide"] dv a fd:=by
 obtain⟨nU,my,bC,bc,bD,bB⟩:=gv
 refine⟨cm F og rfl λcdv A outer s H E hr=> ?_,hm,F.kp,F.binds λ_ _ _ _ _ _ us hl=>match us,hl with | [_,_],_=>rfl⟩
 have hu:=hr.units
 have hdp:=cF hr (by decide)
 exact⟨_,(az (aT (i:=2) og.nd rfl (Or.inl rfl) (aO bC (hr.mono (by decide)) rfl bc bD bB .nil aY (ah (pv 0) (ah aE ay))))
 (az (dC (cK (jQ hu) (pv 2) aE (bM _))
 (aJ (bq aE))
 cw)
 (az (dC (cK (jQ hu) (pv 2) aE (bM _))
 (aJ (bq (aQ mW (aQ fZ (aQ fA (aQ eC (aO bC (hr.mono (by decide)) rfl bc bD bB .nil aY (ah (pv 0) (ah aE ay))) (aQ mJ aE aE)) (aO bC (hr.mono (by decide)) rfl bc bD bB .nil aY (ah (pv 0) (ah (aQ mJ aE aE) ay)))) (pv 1)) (aO bC (hr.mono (by decide)) rfl bc bD bB .nil aY (ah (pv 0) (ah aE ay))))))
 cw)
 (aJ (bq (aQ mW (aO bC (hr.mono (by decide)) rfl bc bD bB .nil aY (ah (pv 0) (ah aE ay))) aE)))))),
  (aG (aN (cj (n:=2) (f:=aA) (ai (ae 0) (ai (aF 6) aB))))
 (aG (dy (da (av iy (ae 2) (aF 4)))
 (br (aF 0))
 cv)
 (aG (dy (da (av iy (ae 2) (aF 5)))
 (br (av m8 (av hV (av eg (av dq (cj (n:=2) (f:=aA) (ai (ae 0) (ai (aF 1000) aB))) (av mP (aF 10) (aF 6))) (cj (n:=2) (f:=aA) (ai (ae 0) (ai (av mP (aF 10) (aF 6)) aB)))) (ae 1)) (cj (n:=2) (f:=aA) (ai (ae 0) (ai (aF 9) aB)))))
 cv)
 (br (av m8 (cj (n:=2) (f:=aA) (ai (ae 0) (ai (aF 7) aB))) (aF 3))))))⟩
theorem t5:bg ["_law_one","_law_other"] ["_law_one","_law_other"] (aD fg):=⟨rfl,rfl,rfl,by decide +kernel,rfl,by decide +kernel,by decide +kernel⟩
theorem tW{a:Addr}{fd:FuncData}(F:Fun K "_law_product" "_law_product" fg a fd)(hm:mg "_law_product" =some (.ref a))(hpt:P.given.tree=none)(n_zip:mg "zip" =none)(n_sum:mg "sum" =none):cq P w K mg base ca 35 "_law_product" ["_law_one","_law_other"] eE a fd:=by
 refine⟨cm F t5 rfl λcdv A outer s H E hr=> ?_,hm,F.kp,F.binds λ_ _ _ _ _ _ us hl=>match us,hl with | [_,_],_=>rfl⟩
 have hu:=hr.units
 have hdp:=cF hr (by decide)
 exact⟨_,(aJ (bq (bA (oE rfl) rfl n_sum Boot.«sum» (ah (ft (own:=["_law_low","_law_high"]) (cap:=[]) (caps:=[]) rfl ⟨rfl,by decide +kernel,by decide +kernel,by decide +kernel,trivial,by decide +kernel⟩ (oX rfl n_zip (ah (pv 0) (ah (pv 1) ay))) (λ_ _ _=>(jB rfl (cC (aV (i:=0) (show ((["_law_low","_law_high"]:List Str)++([]:List Str)).Nodup from by decide +kernel) rfl (Or.inl rfl)) (cC (aV (i:=1) (show ((["_law_low","_law_high"]:List Str)++([]:List Str)).Nodup from by decide +kernel) rfl (Or.inl rfl)) ie)))) (λ_ _ _=>dm) (λ_ _ _=>(aQ eC (pv 0) (pv 1)))) ay)))),
  (br (bX vA (ai (dF (m:=2) (caps:=[]) (sr (ai (ae 0) (ai (ae 1) aB))) (ig (cA (aS 0) (cA (aS 1) ik))) dj (av dq (ae 0) (ae 1))) aB)))⟩
theorem gu:bg ["_law_bag_here","_law_many","_law_made","_law_k","_law_way","_law_number_here"] ["_law_bag_here","_law_many"] (aD jm):=⟨rfl,rfl,rfl,by decide +kernel,rfl,by decide +kernel,by decide +kernel⟩
theorem zH{a:Addr}{fd:FuncData}(F:Fun K "_law_fit" "_law_fit" jm a fd)(hm:mg "_law_fit" =some (.ref a))(hpt:P.given.tree=none)(n_range:mg "range" =none)(gv:bE P w K mg base ca 35 "_law_draw" ["_law_bag_here","_law_many"] aA):cq P w K mg base ca 36 "_law_fit" ["_law_bag_here","_law_many"] je a fd:=by
 obtain⟨nU,my,bC,bc,bD,bB⟩:=gv
 refine⟨cm F gu rfl λcdv A outer s H E hr=> ?_,hm,F.kp,F.binds λ_ _ _ _ _ _ us hl=>match us,hl with | [_,_],_=>rfl⟩
 have hu:=hr.units
 have hdp:=cF hr (by decide)
 exact⟨_,(az (aT (i:=2) gu.nd rfl (Or.inl rfl) (iJ (ah aE ay)))
 (az (hU PassesOwn.never rfl (lY rfl n_range (ah (aQ mW (pv 1) aE) ay)) (aV (i:=3) gu.nd rfl (Or.inl rfl))
 (az (aT (i:=4) gu.nd rfl (Or.inl rfl) (aO bC (hr.mono (by decide)) rfl bc bD bB .nil aY (ah (pv 0) (ah aE ay))))
 (az (aT (i:=5) gu.nd rfl (Or.inl rfl) aE)
 (az (dC (cK nI (pv 4) aE (bM _))
 (aJ (aT (i:=5) gu.nd rfl (Or.inl rfl) (aQ fA (aO bC (hr.mono (by decide)) rfl bc bD bB .nil aY (ah (pv 0) (ah aE ay))) aE)))
 cw)
 (az (dC (cK (jQ hu) (pv 4) aE (bM _))
 (aJ (aT (i:=5) gu.nd rfl (Or.inl rfl) (aO bC (hr.mono (by decide)) rfl bc bD bB .nil aY (ah (pv 0) (ah (aQ mJ aE aE) ay)))))
 cw)
 (aJ (lg (vk PySem.F.plainAttrs_list PySem.F.slot_list_append PySem.F.type_list_append j7 (pv 2) (ah (pv 5) ay)))))))))
 (aJ (bq (pv 2))))),
  (aG (aN (pV (ai (aF 1) aB)))
 (aG (hZ (qc (ai (av m8 (ae 1) (aF 1)) aB)) (aS 3)
 (aG (aN (cj (n:=2) (f:=aA) (ai (ae 0) (ai (aF 8) aB))))
 (aG (aN (aF 0))
 (aG (dy (da (av nN (ae 4) (aF 4)))
 (aN (av eg (cj (n:=2) (f:=aA) (ai (ae 0) (ai (aF 4) aB))) (aF 1)))
 cv)
 (aG (dy (da (av iy (ae 4) (aF 7)))
 (aN (cj (n:=2) (f:=aA) (ai (ae 0) (ai (av mP (aF 10) (aF 6)) aB))))
 cv)
 (kX (sv (ae 2) (ae 5))))))))
 (br (ju (ae 2)))))⟩
theorem fu:bg ["_law_cells","_law_fit_here","_law_count","_law_wide","_law_made","_law_at","_law_bag_here","_law_one"] ["_law_cells","_law_fit_here","_law_count","_law_wide"] (aD gd):=⟨rfl,rfl,rfl,by decide +kernel,rfl,by decide +kernel,by decide +kernel⟩
theorem u5{a:Addr}{fd:FuncData}(F:Fun K "_law_closed" "_law_closed" gd a fd)(hm:mg "_law_closed" =some (.ref a))(hpt:P.given.tree=none)(n_range:mg "range" =none)(n_len:mg "len" =none)(n_sum:mg "sum" =none)(oI:bE P w K mg base ca 35 "_law_bag" ["_law_cell_here"] eL)(vZ:bE P w K mg base ca 36 "_law_number" ["_law_bag_here","_law_wide"] dv)(gv:bE P w K mg base ca 35 "_law_draw" ["_law_bag_here","_law_many"] aA):cq P w K mg base ca 37 "_law_closed" ["_law_cells","_law_fit_here","_law_count","_law_wide"] gj a fd:=by
 obtain⟨AN,zi,oR,ji,oC,pz⟩:=oI
 obtain⟨FU,E6,vK,dc,wY,xb⟩:=vZ
 obtain⟨nU,my,bC,bc,bD,bB⟩:=gv
 refine⟨cm F fu rfl λcdv A outer s H E hr=> ?_,hm,F.kp,F.binds λ_ _ _ _ _ _ us hl=>match us,hl with | [_,_,_,_],_=>rfl⟩
 have hu:=hr.units
 have hdp:=cF hr (by decide)
 exact⟨_,(az (aT (i:=4) fu.nd rfl (Or.inl rfl) (iJ ay))
 (az (hU PassesOwn.never rfl (lY rfl n_range (ah (pv 2) ay)) (aV (i:=5) fu.nd rfl (Or.inl rfl))
 (az (aT (i:=6) fu.nd rfl (Or.inr rfl) (aO oR (hr.mono (by decide)) rfl ji oC pz .nil aY (ah (aQ fA (cL cc (pv 0) (aQ fZ (pv 5) (bA gn rfl n_len Boot.«len» (ah (pv 0) ay))) (λ_ _=>rfl)) (aQ eC aE (aQ (jw hdp hpt ⟨_,_,rfl,rfl,rfl,rfl,rfl⟩) (pv 5) (bA gn rfl n_len Boot.«len» (ah (pv 0) ay))))) ay)))
 (az (aT (i:=7) fu.nd rfl (Or.inr rfl) (ft (own:=["_law_k"]) (cap:=["_law_bag_here","_law_wide"]) (caps:=[6,3]) rfl ⟨rfl,by decide +kernel,by decide +kernel,by decide +kernel,⟨rfl,Or.inl rfl,rfl,⟨rfl,Or.inl rfl,rfl,trivial⟩⟩,by decide +kernel⟩ (cY (pv 1)) (λ_ _ _=>(aV (i:=0) (show ((["_law_k"]:List Str)++(["_law_bag_here","_law_wide"]:List Str)).Nodup from by decide +kernel) rfl (Or.inl rfl))) (λ_ _ _=>dm) (λ_ _ _=>(aO vK (hr.mono (by decide)) rfl dc wY xb .nil aY (ah (pv 1) (ah (pv 2) ay))))))
 (az (dC (PW.pt (pw_and (cK (jQ hu) (aO bC (hr.mono (by decide)) rfl bc bD bB .nil aY (ah (pv 6) (ah aE ay))) aE (bM _)) (pw_and1 (cK tw (bA gn rfl n_len Boot.«len» (ah (pv 4) ay)) aE (bM _)))))
 (aJ (aT (i:=7) fu.nd rfl (Or.inr rfl) (ft (own:=["_law_number_here"]) (cap:=[]) (caps:=[]) rfl ⟨rfl,by decide +kernel,by decide +kernel,by decide +kernel,trivial,by decide +kernel⟩ (cY (cL cc (pv 4) (vv sV aE) (λ_ _=>rfl))) (λ_ _ _=>(aV (i:=0) (show ((["_law_number_here"]:List Str)++([]:List Str)).Nodup from by decide +kernel) rfl (Or.inl rfl))) (λ_ _ _=>dm) (λ_ _ _=>(aQ eC aE (pv 0))))))
 cw)
 (az (mT (vv sV (bA (oE rfl) rfl n_sum Boot.«sum» (ah (ft (own:=["_law_k"]) (cap:=["_law_fit_here","_law_one"]) (caps:=[1,7]) rfl ⟨rfl,by decide +kernel,by decide +kernel,by decide +kernel,⟨rfl,Or.inl rfl,rfl,⟨rfl,Or.inl rfl,rfl,trivial⟩⟩,by decide +kernel⟩ (A1 rfl n_range (ah aE (ah (bA gn rfl n_len Boot.«len» (ah (pv 1) ay)) ay))) (λ_ _ _=>(aV (i:=0) (show ((["_law_k"]:List Str)++(["_law_fit_here","_law_one"]:List Str)).Nodup from by decide +kernel) rfl (Or.inl rfl))) (λ_ _ _=>dm) (λ_ _ _=>(aQ eC (cL cc (pv 2) (pv 0) (λ_ _=>rfl)) (cL cc (pv 1) (pv 0) (λ_ _=>rfl))))) ay))) (mG (pv 7) aE set_list))
 (aJ (lg (vk PySem.F.plainAttrs_list PySem.F.slot_list_append PySem.F.type_list_append j7 (pv 4) (ah (pv 7) ay)))))))))
 (aJ (bq (pv 4))))),
  (aG (aN (pV aB))
 (aG (hZ (qc (ai (ae 2) aB)) (aS 5)
 (aG (aN (iS (n:=1) (f:=eL) (ai (av eg (av cN (ae 0) (av hV (ae 5) (bX jA (ai (ae 0) aB)))) (av dq (aF 500009) (av iw (ae 5) (bX jA (ai (ae 0) aB))))) aB)))
 (aG (aN (nY (m:=1) (caps:=[6,3]) (cZ (ae 1)) (aS 0) dj (cj (n:=2) (f:=dv) (ai (ae 1) (ai (ae 2) aB)))))
 (aG (dy (Ax (da (av iy (cj (n:=2) (f:=aA) (ai (ae 6) (ai (aF 7) aB))) (aF 6))) (da (av su (bX jA (ai (ae 4) aB)) (aF 0))))
 (aN (nY (m:=1) (caps:=[]) (cZ (av cN (ae 4) (vg r8 (aF 1)))) (aS 0) dj (av dq (aF 3) (ae 0))))
 cv)
 (aG (lC (vg r8 (bX vA (ai (dF (m:=1) (caps:=[1,7]) (E4 (ai (aF 1) (ai (bX jA (ai (ae 1) aB)) aB))) (aS 0) dj (av dq (av cN (ae 2) (ae 0)) (av cN (ae 1) (ae 0)))) aB))) (mU (ae 7) (aF 0)))
 (kX (sv (ae 4) (ju (ae 7)))))))))
 (br (ju (ae 4)))))⟩
theorem uZ:bg ["_law_some","_law_turn"] ["_law_some","_law_turn"] (aD fU):=⟨rfl,rfl,rfl,by decide +kernel,rfl,by decide +kernel,by decide +kernel⟩
theorem va{a:Addr}{fd:FuncData}(F:Fun K "_law_turned" "_law_turned" fU a fd)(hm:mg "_law_turned" =some (.ref a))(hpt:P.given.tree=none):cq P w K mg base ca 35 "_law_turned" ["_law_some","_law_turn"] fX a fd:=by
 refine⟨cm F uZ rfl λcdv A outer s H E hr=> ?_,hm,F.kp,F.binds λ_ _ _ _ _ _ us hl=>match us,hl with | [_,_],_=>rfl⟩
 have hu:=hr.units
 have hdp:=cF hr (by decide)
 exact⟨_,(aJ (bq (ft (own:=["_law_one"]) (cap:=["_law_turn"]) (caps:=[1]) rfl ⟨rfl,by decide +kernel,by decide +kernel,by decide +kernel,⟨rfl,Or.inl rfl,rfl,trivial⟩,by decide +kernel⟩ (cY (pv 0)) (λ_ _ _=>(aV (i:=0) (show ((["_law_one"]:List Str)++(["_law_turn"]:List Str)).Nodup from by decide +kernel) rfl (Or.inl rfl))) (λ_ _ _=>dm) (λ_ _ _=>(aQ fA (gF ic (pv 0) (fT (pv 1)) jL) (gF ic (pv 0) jL (fT (pv 1)))))))),
  (br (dF (m:=1) (caps:=[1]) (cZ (ae 0)) (aS 0) dj (av eg (kG (ae 0) (gf (ae 1)) h8) (kG (ae 0) h8 (gf (ae 1))))))⟩
theorem mH:bg ["_law_some","_law_many","_law_lent","e"] ["_law_some","_law_many","_law_lent"] (aD fi):=⟨rfl,rfl,rfl,by decide +kernel,rfl,by decide +kernel,by decide +kernel⟩
theorem t9{a:Addr}{fd:FuncData}(F:Fun K "_law_refused" "_law_refused" fi a fd)(hm:mg "_law_refused" =some (.ref a))(hpt:P.given.tree=none)(n_isinstance:mg "isinstance" =none)(n_ValueError:mg "ValueError" =none)(xm_YardError:mg "YardError" =some (.ref (ca 2)))(ex_YardError:∀c b,jr c=some b->PySem.W.exmOne K (.ref (ca c)) (.ref (ca 2))=some b)(iy_ValueError:∀c b,iN c=some b->ExK K (ca c)/\PySem.W.kitOne K (.ref (ca c)) (.type "ValueError")=some b)(xm_NoFit:mg "NoFit" =some (.ref (ca 1)))(ik_NoFit:∀c b,nV c=some b->ExK K (ca c)/\PySem.W.kitOne K (.ref (ca c)) (.ref (ca 1))=some b)(xm_NoWeights:mg "NoWeights" =some (.ref (ca 11)))(xm_NoWay:mg "NoWay" =some (.ref (ca 5)))(xm_NoText:mg "NoText" =some (.ref (ca 9)))(xm_NoRow:mg "NoRow" =some (.ref (ca 8)))(xm_NoRatio:mg "NoRatio" =some (.ref (ca 10)))(xm_NoName:mg "NoName" =some (.ref (ca 7)))(xm_NoGood:mg "NoGood" =some (.ref (ca 6)))(xm_NoBalance:mg "NoBalance" =some (.ref (ca 4)))(xm_NoAmount:mg "NoAmount" =some (.ref (ca 3)))(it_NoAmount_NoBalance_NoGood_NoName_NoRatio_NoRow_NoText_NoWay_NoWeights:∀c b,aR c=some b->ExK K (ca c)/\PySem.W.kitAny K (.ref (ca c)) ([ca 3,ca 4,ca 6,ca 7,ca 10,ca 8,ca 9,ca 5,ca 11].map Value.ref)=some b)(xm_TooMany:mg "TooMany" =some (.ref (ca 13)))(xm_NoWork:mg "NoWork" =some (.ref (ca 12)))(it_NoWork_TooMany:∀c b,fQ c=some b->ExK K (ca c)/\PySem.W.kitAny K (.ref (ca c)) ([ca 12,ca 13].map Value.ref)=some b)(qC:bE P w K mg base ca 41 "shares" ["rows","many","fit"] fN):cq P w K mg base ca 42 "_law_refused" ["_law_some","_law_many","_law_lent"] fk a fd:=by
 obtain⟨CC,Bd,rP,gC,qJ,rL⟩:=qC
 refine⟨cm F mH rfl λcdv A outer s H E hr=> ?_,hm,F.kp,F.binds λ_ _ _ _ _ _ us hl=>match us,hl with | [_,_,_],_=>rfl⟩
 have hu:=hr.units
 have hdp:=cF hr (by decide)
 exact⟨_,(az (FX rfl rfl rfl (λp E1 Es hps=>(aJ (lg (vG rP (hr.mono (by decide)) rfl gC qJ rL .nil hps (ah (pv 0) (ah (pv 1) (ah (pv 2) ay)))))))
 (G2 (i:=3) mH.nd rfl rfl rfl xm_YardError (λ_ _ h=>h) (λv=>(az (dC (PW.pt (pw_or (oM (gG (bA nj rfl n_isinstance Boot.«isinstance» (ah (pv 3) (ah (pM (v:=.ty "ValueError") rfl n_ValueError (by boot_by_name) rfl) ay))))) (pw_or1 (oM (gG (bA nj rfl n_isinstance Boot.«isinstance» (ah (pv 3) (ah (fj (v:=.ref (ca 1)) rfl xm_NoFit rfl) ay))))))))
 (aJ (bq sY))
 cw)
 (az (dC (gG (bA nj rfl n_isinstance Boot.«isinstance» (ah (pv 3) (ah (sm (ah (fj (v:=.ref (ca 3)) rfl xm_NoAmount rfl) (ah (fj (v:=.ref (ca 4)) rfl xm_NoBalance rfl) (ah (fj (v:=.ref (ca 6)) rfl xm_NoGood rfl) (ah (fj (v:=.ref (ca 7)) rfl xm_NoName rfl) (ah (fj (v:=.ref (ca 10)) rfl xm_NoRatio rfl) (ah (fj (v:=.ref (ca 8)) rfl xm_NoRow rfl) (ah (fj (v:=.ref (ca 9)) rfl xm_NoText rfl) (ah (fj (v:=.ref (ca 5)) rfl xm_NoWay rfl) (ah (fj (v:=.ref (ca 11)) rfl xm_NoWeights rfl) ay)))))))))) ay))))
 (aJ (bq sY))
 cw)
 (aJ (bq (Aw (bA nj rfl n_isinstance Boot.«isinstance» (ah (pv 3) (ah (sm (ah (fj (v:=.ref (ca 12)) rfl xm_NoWork rfl) (ah (fj (v:=.ref (ca 13)) rfl xm_TooMany rfl) ay))) ay)))))))))
 Fm))
 (aJ (bq sY))),
  (aG (Fi (λW Es hW=>(kX (vF (n:=3) (f:=fN) hW (ai (ae 0) (ai (ae 1) (ai (ae 2) aB))))))
 (λc=>GX ex_YardError (λc=>Hc (i:=3) (aG (dy (Dj (oZ (iR (Co iy_ValueError (ae 3)))) (oZ (iR (FL ik_NoFit (ae 3)))))
 (br (sU false))
 cv)
 (aG (dy (iR (yG (Ds:=[ca 3,ca 4,ca 6,ca 7,ca 10,ca 8,ca 9,ca 5,ca 11]) (by simp) it_NoAmount_NoBalance_NoGood_NoName_NoRatio_NoRow_NoText_NoWay_NoWeights (ae 3)))
 (br (sU false))
 cv)
 (br (yk (yG (Ds:=[ca 12,ca 13]) (by simp) it_NoWork_TooMany (ae 3)))))) c)
 DR c))
 (br (sU false)))⟩
theorem eS:bg ["_law_some","_law_many","_law_fit_here","_law_handed","_law_lent","_law_good","_law_told"] ["_law_some","_law_many","_law_fit_here"] (aD gQ):=⟨rfl,rfl,rfl,by decide +kernel,rfl,by decide +kernel,by decide +kernel⟩
theorem xo{a:Addr}{fd:FuncData}(F:Fun K "_law_right" "_law_right" gQ a fd)(hm:mg "_law_right" =some (.ref a))(hpt:P.given.tree=none)(n_list:mg "list" =none)(n_len:mg "len" =none)(n_min:mg "min" =none)(n_all:mg "all" =none)(n_isinstance:mg "isinstance" =none)(u9:bE P w K mg base ca 35 "_law_product" ["_law_one","_law_other"] eE)(qC:bE P w K mg base ca 41 "shares" ["rows","many","fit"] fN)(uW:bE P w K mg base ca 42 "_law_refused" ["_law_some","_law_many","_law_lent"] fk):cq P w K mg base ca 43 "_law_right" ["_law_some","_law_many","_law_fit_here"] iH a fd:=by
 obtain⟨E9,Ew,u6,gL,uY,uX⟩:=u9
 obtain⟨CC,Bd,rP,gC,qJ,rL⟩:=qC
 obtain⟨E7,ES,uT,gH,uU,u3⟩:=uW
 refine⟨cm F eS rfl λcdv A outer s H E hr=> ?_,hm,F.kp,F.binds λ_ _ _ _ _ _ us hl=>match us,hl with | [_,_,_],_=>rfl⟩
 have hu:=hr.units
 have hdp:=cF hr (by decide)
 exact⟨_,(az (eI (i:=3) (own:=["_law_one"]) (cap:=[]) (caps:=[]) rfl ⟨rfl,by decide +kernel,by decide +kernel,by decide +kernel,trivial,by decide +kernel⟩ (cY (pv 0)) (λ_ _ _=>(aV (i:=0) (show ((["_law_one"]:List Str)++([]:List Str)).Nodup from by decide +kernel) rfl (Or.inl rfl))) (λ_ _ _=>dm) (λ_ _ _=>(h9 gc rfl n_list Boot.«list» (ah (pv 0) ay))) eS.nd rfl (Or.inl rfl) rfl)
 (az (aT (i:=4) eS.nd rfl (Or.inl rfl) (h9 gc rfl n_list Boot.«list» (ah (pv 2) ay)))
 (az (aT (i:=5) eS.nd rfl (Or.inl rfl) (oB (gN (jQ hu) (bA gn rfl n_len Boot.«len» (ah (pv 2) ay)) (pv 1) (bM _)) (sW (gN G5 (EN rfl rfl n_min Boot.«min» (pv 2) aE) aE (bM _)))))
 (az (aT (i:=5) eS.nd rfl (Or.inl rfl) (oB (pv 5) (sW (bA (Be rfl) rfl n_all Boot.«all» (ah (ft (own:=["_law_one"]) (cap:=["_law_fit_here"]) (caps:=[2]) rfl ⟨rfl,by decide +kernel,by decide +kernel,by decide +kernel,⟨rfl,Or.inl rfl,rfl,trivial⟩,by decide +kernel⟩ (cY (pv 0)) (λ_ _ _=>(aV (i:=0) (show ((["_law_one"]:List Str)++(["_law_fit_here"]:List Str)).Nodup from by decide +kernel) rfl (Or.inl rfl))) (λ_ _ _=>dm) (λ_ _ _=>(gN (jQ hu) (aO u6 (hr.mono (by decide)) rfl gL uY uX .nil aY (ah (pv 0) (ah (pv 1) ay))) aE (bM _)))) ay)))))
 (az (dC (gG (pv 5))
 (aJ (aT (i:=6) eS.nd rfl (Or.inl rfl) (bA rF rfl n_isinstance Boot.«isinstance» (ah (aO rP (hr.mono (by decide)) rfl gC qJ rL .nil aY (ah (pv 3) (ah (pv 1) (ah (pv 4) ay)))) (ah (pM (v:=.ty "list") rfl n_list Boot.«list» rfl) ay)))))
 (aJ (aT (i:=6) eS.nd rfl (Or.inl rfl) (aO uT (hr.mono (by decide)) rfl gH uU u3 .nil aY (ah (pv 3) (ah (pv 1) (ah (pv 4) ay)))))))
 (aJ (bq (oB (pv 6) (oB (gN (jQ hu) (pv 3) (pv 0) (bM _)) (sW (gN (jQ hu) (pv 4) (pv 2) (bM _)))))))))))),
  (aG (aN (dF (m:=1) (caps:=[]) (cZ (ae 0)) (aS 0) dj (bX qI (ai (ae 0) aB))))
 (aG (aN (bX qI (ai (ae 2) aB)))
 (aG (aN (mZ (av iy (bX jA (ai (ae 2) aB)) (ae 1)) (av Ha (DT (ae 2) (aF 0)) (aF 0))))
 (aG (aN (mZ (ae 5) (bX FY (ai (dF (m:=1) (caps:=[2]) (cZ (ae 0)) (aS 0) dj (av iy (cB (n:=2) (f:=eE) (ai (ae 0) (ai (ae 1) aB))) (aF 0))) aB))))
 (aG (dy (iR (ae 5))
 (aN (xw ty_list (ju (iS (n:=3) (f:=fN) (ai (ae 3) (ai (ae 1) (ai (ae 4) aB)))))))
 (aN (cB (n:=3) (f:=fk) (ai (ae 3) (ai (ae 1) (ai (ae 4) aB))))))
 (br (mZ (ae 6) (mZ (av iy (ae 3) (ae 0)) (av iy (ae 4) (ae 2))))))))))⟩
theorem fF:bg ["_law_script","_law_many","_law_cells","_law_bag_here","_law_fit_here","_law_some","_law_turn","_law_at","_law_low","_law_high","_law_far","_law_one"] ["_law_script"] (aD kI):=⟨rfl,rfl,rfl,by decide +kernel,rfl,by decide +kernel,by decide +kernel⟩
theorem Fy{a:Addr}{fd:FuncData}(F:Fun K "law" "law" kI a fd)(hm:mg "law" =some (.ref a))(hpt:P.given.tree=none)(n_len:mg "len" =none)(n_int:mg "int" =none)(n_list:mg "list" =none)(n_range:mg "range" =none)(zw:bE P w K mg base ca 35 "_law_cell" ["_law_script","_law_k"] bR)(oI:bE P w K mg base ca 35 "_law_bag" ["_law_cell_here"] eL)(Bt:bE P w K mg base ca 36 "_law_fit" ["_law_bag_here","_law_many"] je)(v7:bE P w K mg base ca 37 "_law_closed" ["_law_cells","_law_fit_here","_law_count","_law_wide"] gj)(gv:bE P w K mg base ca 35 "_law_draw" ["_law_bag_here","_law_many"] aA)(wt:bE P w K mg base ca 35 "_law_turned" ["_law_some","_law_turn"] fX)(xE:bE P w K mg base ca 43 "_law_right" ["_law_some","_law_many","_law_fit_here"] iH):cq P w K mg base ca 44 "law" ["_law_script"] ve a fd:=by
 obtain⟨Hn,GW,nE,gr,ni,nK⟩:=zw
 obtain⟨AN,zi,oR,ji,oC,pz⟩:=oI
 obtain⟨Hw,He,Bq,kc,A7,AF⟩:=Bt
 obtain⟨GB,E8,wF,hJ,wx,wz⟩:=v7
 obtain⟨nU,my,bC,bc,bD,bB⟩:=gv
 obtain⟨Fn,Fb,wM,gZ,wX,xk⟩:=wt
 obtain⟨GU,FA,xU,iL,xP,yc⟩:=xE
 refine⟨cm F fF rfl λcdv A outer s H E hr=> ?_,hm,F.kp,F.binds λ_ _ _ _ _ _ us hl=>match us,hl with | [_],_=>rfl⟩
 have hu:=hr.units
 have hdp:=cF hr (by decide)
 exact⟨_,(az (aT (i:=1) fF.nd rfl (Or.inl rfl) (aQ fA aE (aQ fZ (aO nE (hr.mono (by decide)) rfl gr ni nK .nil aY (ah (pv 0) (ah aE ay))) aE)))
 (az (aT (i:=2) fF.nd rfl (Or.inl rfl) (aQ fA (iJ (ah (aO nE (hr.mono (by decide)) rfl gr ni nK .nil aY (ah (pv 0) (ah aE ay))) ay)) (gF ic (pv 0) (fT aE) (fT aE))))
 (az (aT (i:=3) fF.nd rfl (Or.inr rfl) (aO oR (hr.mono (by decide)) rfl ji oC pz .nil aY (ah (aO nE (hr.mono (by decide)) rfl gr ni nK .nil aY (ah (pv 0) (ah aE ay))) ay)))
 (az (aT (i:=4) fF.nd rfl (Or.inl rfl) (aO Bq (hr.mono (by decide)) rfl kc A7 AF .nil aY (ah (pv 3) (ah (pv 1) ay))))
 (az (aT (i:=5) fF.nd rfl (Or.inl rfl) (aO wF (hr.mono (by decide)) rfl hJ wx wz .nil aY (ah (pv 2) (ah (pv 4) (ah (bA gn rfl n_len Boot.«len» (ah (gF ic (pv 0) (fT aE) (fT aE)) ay)) (ah (cL cc (iJ (ah aE (ah (aQ mJ aE aE) ay))) (aQ eC (h9 AJ rfl n_int Boot.«int» (ah (gN nI (pv 1) aE (bM _)) ay)) (aO bC (hr.mono (by decide)) rfl bc bD bB .nil aY (ah (pv 3) (ah aE ay)))) (λ_ _=>rfl)) ay))))))
 (az (aT (i:=6) fF.nd rfl (Or.inl rfl) (aO bC (hr.mono (by decide)) rfl bc bD bB .nil aY (ah (pv 3) (ah (pv 1) ay))))
 (az (aT (i:=5) fF.nd rfl (Or.inl rfl) (aO wM (hr.mono (by decide)) rfl gZ wX xk .nil aY (ah (pv 5) (ah (pv 6) ay))))
 (az (aT (i:=4) fF.nd rfl (Or.inl rfl) (aQ fA (gF ic (pv 4) (fT (pv 6)) jL) (gF ic (pv 4) jL (fT (pv 6)))))
 (az (aT (i:=7) fF.nd rfl (Or.inl rfl) (aO bC (hr.mono (by decide)) rfl bc bD bB .nil aY (ah (pv 3) (ah (pv 1) ay))))
 (az (aT (i:=8) fF.nd rfl (Or.inl rfl) (h9 gc rfl n_list Boot.«list» (ah (pv 4) ay)))
 (az (mT (aQ mW (vv sV aE) (aQ eC (aO bC (hr.mono (by decide)) rfl bc bD bB .nil aY (ah (pv 3) (ah aE ay))) (aO bC (hr.mono (by decide)) rfl bc bD bB .nil aY (ah (pv 3) (ah (aQ mJ aE aE) ay))))) (mG (pv 8) (pv 7) set_list))
 (az (aT (i:=9) fF.nd rfl (Or.inl rfl) (h9 gc rfl n_list Boot.«list» (ah (pv 4) ay)))
 (az (mT (aQ fA (aQ fA (cL cc (pv 9) (pv 7) (λ_ _=>rfl)) aE) (aO bC (hr.mono (by decide)) rfl bc bD bB .nil aY (ah (pv 3) (ah aE ay)))) (mG (pv 9) (pv 7) set_list))
 (az (eI (i:=10) (own:=["_law_k"]) (cap:=["_law_bag_here"]) (caps:=[3]) rfl ⟨rfl,by decide +kernel,by decide +kernel,by decide +kernel,⟨rfl,Or.inl rfl,rfl,trivial⟩,by decide +kernel⟩ (lY rfl n_range (ah (pv 1) ay)) (λ_ _ _=>(aV (i:=0) (show ((["_law_k"]:List Str)++(["_law_bag_here"]:List Str)).Nodup from by decide +kernel) rfl (Or.inl rfl))) (λ_ _ _=>dm) (λ_ _ _=>(aO bC (hr.mono (by decide)) rfl bc bD bB .nil aY (ah (pv 1) (ah aE ay)))) fF.nd rfl (Or.inl rfl) rfl)
 (az (hU PassesOwn.never rfl (cY (iJ (ah (aQ fA (pv 4) (iJ (ah aE ay))) (ah (aQ fA (gF ic (pv 4) jL (fT (pv 7))) (gF ic (pv 4) (fT (aQ fA (pv 7) aE)) jL)) (ah (pv 8) (ah (pv 9) (ah (pv 10) (ah (aQ fA (pv 4) (pv 4)) (ah (pv 4) ay))))))))) (aV (i:=11) fF.nd rfl (Or.inl rfl))
 (aJ (dC (oM (gG (aO xU (hr.mono (by decide)) rfl iL xP yc .nil aY (ah (pv 5) (ah (pv 1) (ah (pv 11) ay))))))
 (aJ (bq sY))
 cw)))
 (aJ (bq sY))))))))))))))))),
  (aG (aN (av eg (aF 1) (av hV (cB (n:=2) (f:=bR) (ai (ae 0) (ai (aF 0) aB))) (aF 6))))
 (aG (aN (av eg (oF (ai (cB (n:=2) (f:=bR) (ai (ae 0) (ai (aF 1) aB))) aB)) (kG (ae 0) (gf (aF 3)) (gf (aF 8)))))
 (aG (aN (iS (n:=1) (f:=eL) (ai (cB (n:=2) (f:=bR) (ai (ae 0) (ai (aF 2) aB))) aB)))
 (aG (aN (cj (n:=2) (f:=je) (ai (ae 3) (ai (ae 1) aB))))
 (aG (aN (cB (n:=4) (f:=gj) (ai (ae 2) (ai (ae 4) (ai (bX jA (ai (kG (ae 0) (gf (aF 3)) (gf (aF 8))) aB)) (ai (av cN (oF (ai (aF 4) (ai (av mP (aF 10) (aF 9)) aB))) (av dq (bX Dd (ai (av nN (ae 1) (aF 5)) aB)) (cj (n:=2) (f:=aA) (ai (ae 3) (ai (aF 2) aB))))) aB))))))
 (aG (aN (cj (n:=2) (f:=aA) (ai (ae 3) (ai (ae 1) aB))))
 (aG (aN (cB (n:=2) (f:=fX) (ai (ae 5) (ai (ae 6) aB))))
 (aG (aN (av eg (kG (ae 4) (gf (ae 6)) h8) (kG (ae 4) h8 (gf (ae 6)))))
 (aG (aN (cj (n:=2) (f:=aA) (ai (ae 3) (ai (ae 1) aB))))
 (aG (aN (rn (ae 4)))
 (aG (lC (av m8 (vg r8 (aF 1)) (av dq (cj (n:=2) (f:=aA) (ai (ae 3) (ai (aF 3) aB))) (cj (n:=2) (f:=aA) (ai (ae 3) (ai (av mP (aF 10) (aF 6)) aB))))) (mU (ae 8) (ae 7)))
 (aG (aN (rn (ae 4)))
 (aG (lC (av eg (av eg (av cN (ae 9) (ae 7)) (aF 1)) (cj (n:=2) (f:=aA) (ai (ae 3) (ai (aF 3) aB)))) (mU (ae 9) (ae 7)))
 (aG (aN (dF (m:=1) (caps:=[3]) (qc (ai (ae 1) aB)) (aS 0) dj (cj (n:=2) (f:=aA) (ai (ae 1) (ai (aF 4) aB)))))
 (aG (hZ (cZ (oF (ai (av eg (ae 4) (oF (ai (aF 0) aB))) (ai (av eg (kG (ae 4) h8 (gf (ae 7))) (kG (ae 4) (gf (av eg (ae 7) (aF 1))) h8)) (ai (ju (ae 8)) (ai (ju (ae 9)) (ai (ae 10) (ai (av eg (ae 4) (ae 4)) (ai (ae 4) aB))))))))) (aS 11)
 (dy (oZ (iR (cB (n:=3) (f:=iH) (ai (ae 5) (ai (ae 1) (ai (ae 11) aB))))))
 (br (sU false))
 cv))
 (br (sU true)))))))))))))))))⟩
end
end Lk19
set_option maxRecDepth 100000
set_option maxHeartbeats 4000000
namespace Lk19
open PySem PySem.Spec PyProof.Rows L2 M
theorem mot(a b:Int):cQ [.int a,.int b] []=.ok (.int (Int.gcd a b:Nat),[]):=Bf a b
theorem zT(ns:List Int):jg [vI ns] []=.ok (.int (bO ns:Nat),[]):=by
 obtain⟨s',e,c,x,h1,h2⟩:=kb (ok:=okC (ns.map D.int) none) (g:=aH 2) (body:=j5)
  (λpre s=>∃(ms:List Int) (x:Option D),pre=ms.map D.int/\s=⟨[some (vI ns),some (.int (ms.foldl (λc n=>Nat.gcd c n.natAbs) 0:Nat)),x],[]⟩) (λ_ _ _=>trivial) (ns.map D.int) [] (by
   rintro pre d rest e s ⟨ms,x,rfl,rfl⟩
   have hd:d∈ns.map D.int:=by rw[List.nil_append] at e;rw[e];simp
   obtain⟨m,_,rfl⟩:=List.mem_map.mp hd
   refine⟨_,_,rfl,.inl ?_,ms++[m],some (.int m),by simp,rfl⟩
   simp[j5,mot,Int.gcd]) ⟨[some (vI ns),some (.int 0),none],[]⟩ ⟨[],none,rfl,rfl⟩
 rw[List.nil_append] at h1
 have hc:c=ns:=(List.map_inj_right (λa b h=>by cases h;rfl)).mp h1.symm
 subst hc
 have hf:=gb (im:=listI (aa 0)) (g:=aH 2) (body:=j5) (s:=⟨[some (vI c),some (.int 0),none],[]⟩) (ds:=c.map D.int) (k:=none) (s1:=⟨[some (vI c),some (.int 0),none],[]⟩) (by simp)
 rw[e] at hf
 have q:=cz (n:=3) (m:=jf) (ds:=[vI c]) (O:=[]) (d:=.int (bO c:Nat)) (s:=s') (by
  show jf ⟨[some (vI c),none,none],[]⟩=_
  rw[jf,pK]
  rw[show setM 1 (ao (.int 0)) ⟨[some (vI c),none,none],[]⟩=.next ⟨[some (vI c),some (.int 0),none],[]⟩ by simp]
  rw[uh,pK,hf,uh,h2]
  simp[bO])
 rw[h2] at q
 exact q
theorem xh{a b:List Int}(hl:a.length<=1000000)(hm:∀p∈a.zip b,IntMulOk p.1 p.2):bu [vI a,vI b] []=.ok (.int (ax a b),[]):=by
 have hz:(a.zip b).length<=1000000:=by rw[List.length_zip];omega
 have hc:=wc (l:=a.zip b) (f:=λp=>.int p.1) (g:=λp=>.int p.2) (out:=λp=>.int (p.1*p.2)) (caps:=[]) (im:=mm (af (aa 0) (af (aa 1) aq))) (e:=aj bJ (aa 0) (aa 1)) (k:=none) (s:=⟨[some (vI a),some (vI b)],[]⟩) (by simp[mf]) trivial (by omega) (λp hp=>by
  simp[bU (hm p hp)])
 rw[show (a.zip b).map (λp=>D.int (p.1*p.2))=(List.zipWith (· * ·) a b).map D.int by rw[<- yt];simp] at hc
 refine cz (s:=⟨[some (vI a),some (vI b)],[]⟩) ?_
 show cW ⟨[some (vI a),some (vI b)],[]⟩=_
 rw[cW]
 refine bQ ?_
 rw[yB,iW,hc,ak,aC,ak,ak]
 dsimp only
 rw[pj,ak]
 rfl
theorem uw(ns:List Int)(hl:ns.length<=1000000):gE [vI ns] []=.ok (.ptr 0,[.lst ((low ns).map D.int)]):=by
 have e1:setM 1 (bI 1 jg (af (aa 0) aq)) ⟨[some (vI ns),none],[]⟩=.next ⟨[some (vI ns),some (.int (bO ns:Nat))],[]⟩:=aZ (xt (ar (ag rfl) (aC _)) (yI _) rfl (zT ns) (by simp)) rfl
 by_cases h:bO ns=0
 ·refine fR (R:=[some (vI ns),some (.int (bO ns:Nat))]) ?_
  show gx ⟨[some (vI ns),none],[]⟩=_
  rw[gx]
  refine aP e1 (lM (iO (eq_test (ag rfl)) (decide_eq_true (by omega)) (bQ (t6 (ag rfl) (o4 _ _) rfl ?_))))
  rw[show low ns=ns by unfold low;rw[if_pos h]]
  rfl
 ·have hc:=Aq (l:=ns) (item:=D.int) (out:=λn=>.int (n/(bO ns:Int))) (caps:=[1]) (im:=listI (aa 0)) (e:=aj fS (aa 0) (aa 1)) (k:=none) (s:=⟨[some (vI ns),some (.int (bO ns:Nat))],[]⟩) (by simp) trivial (by omega) (λa _=>by
   simp[ja (show (bO ns:Int)≠0 by omega),nB (show (0:Int)<bO ns by omega)])
  refine fR (R:=[some (vI ns),some (.int (bO ns:Nat))]) ?_
  show gx ⟨[some (vI ns),none],[]⟩=_
  rw[gx]
  refine aP e1 (aP (du (eq_test (ag rfl)) (decide_eq_false (by omega)) (bP _)) (bQ (hc.trans ?_)))
  rw[show (low ns).map D.int=ns.map λn=>.int (n/(bO ns:Int)) by unfold low;rw[if_neg h,List.map_map];rfl]
  rfl
theorem Bw{one other:List Int}{v w:Int}(hl:one.length<=1000000)(h1:∀a∈one,IntMulOk a w)(h2:∀b∈other,IntMulOk b v):jJ [vI one,.int v,vI other,.int w] []=.ok (.ptr 0,[.lst ((cI one v other w).map D.int)]):=by
 have hz:(one.zip other).length<=1000000:=by rw[List.length_zip];omega
 have hc:=wc (l:=one.zip other) (f:=λp=>.int p.1) (g:=λp=>.int p.2) (out:=λp=>.int (p.1*w-p.2*v)) (caps:=[1,3]) (im:=mm (af (aa 0) (af (aa 2) aq))) (e:=aj jU (aj bJ (aa 0) (aa 3)) (aj bJ (aa 1) (aa 2))) (k:=none) (s:=⟨[some (vI one),some (.int v),some (vI other),some (.int w),none],[]⟩) (by simp[mf]) trivial (by omega) (λp hp=>by
  have hp':=List.of_mem_zip hp
  simp[bU (h1 p.1 hp'.1),bU (h2 p.2 hp'.2)])
 rw[show (one.zip other).map (λp=>D.int (p.1*w-p.2*v))=(i3 one v other w).map D.int by rw[i3,<- zip_map];simp] at hc
 have hll:(i3 one v other w).length<=1000000:=by unfold i3;rw[List.length_zipWith];omega
 refine fR (R:=[some (vI one),some (.int v),some (vI other),some (.int w),some (vI (i3 one v other w))]) ?_
 show lD ⟨[some (vI one),some (.int v),some (vI other),some (.int w),none],[]⟩=_
 rw[lD]
 exact aP (mM hc) (bQ (jV (ar (ag rfl) (aC _)) (uw _ hll) (yI _) rfl (iu _ _) (by
  simp only[List.map_cons,List.map_nil,List.nil_append,yR,uu]
  rfl)))
theorem AK{O:au}(a b:Nat):orD O (.int (a:Int)) (.int (b:Int))=.ok (.int ((a|||b:Nat):Int)):=by
 have e:Builtin.bitOr (a:Int) (b:Int)=((a|||b:Nat):Int):=by
  unfold Builtin.bitOr Builtin.bitAnd Builtin.bitNot
  rw[decide_eq_false (show ¬(0:Int)<= -(a:Int)-1 by omega),decide_eq_false (show ¬(0:Int)<= -(b:Int)-1 by omega)]
  dsimp only
  rw[show (-(-(a:Int)-1)-1).toNat=a by omega,show (-(-(b:Int)-1)-1).toNat=b by omega]
  omega
 show Res.ok (D.int (Builtin.bitOr (a:Int) (b:Int)))=_
 rw[e]
theorem v9(a b:Nat):d7 [.int (a:Int),.int (b:Int)] []=.ok (.bl (decide (a|||b=b)),[]):=by
 refine fR (R:=[some (.int (a:Int)),some (.int (b:Int))]) ?_
 show gq ⟨[some (.int (a:Int)),some (.int (b:Int))],[]⟩=_
 rw[gq]
 refine bQ (aL (aL (ag rfl) (ag rfl) (AK a b)) (ag rfl) ?_)
 rw[kS]
 congr 3
 rw[eq_iff_iff]
 omega
abbrev vN(l:List Nat):D:=.lst (l.map λx:Nat=>D.int (x:Int))
theorem El(l:List Nat):aX (l.map λx:Nat=>D.int (x:Int))=true:=by
 induction l with
 | nil=>simp
 | cons a l ih=>simp[ih]
theorem Df{a b:Nat}{pl:List Nat}(hl:pl.length<=1000):dR [.int (a:Int),.int (b:Int),vN pl] []=.ok (.bl ((pl.filter λx=>decide (x|||(a|||b)=a|||b)).length == 2),[]):=by
 have hc:=DV (l:=pl) (item:=λx:Nat=>D.int (x:Int)) (out:=λx:Nat=>D.int (x:Int)) (p:=λx=>decide (x|||(a|||b)=a|||b)) (caps:=[3]) (im:=listI (aa 2)) (c:=bh (bI 2 d7 (af (aa 0) (af (aa 1) aq)))) (e:=aa 0) (k:=none) (s:=⟨[some (.int (a:Int)),some (.int (b:Int)),some (vN pl),some (.int ((a|||b:Nat):Int))],[]⟩) (by
  rw[cD,ag (i:=2) rfl,ak];rfl) trivial (by omega) (λx _=>dD (eP (ar (ag rfl) (ar (ag rfl) (aC _))) (v9 x (a|||b)) (by simp) rfl (by simp))) (λx _ _=>ag rfl)
 refine fR (R:=[some (.int (a:Int)),some (.int (b:Int)),some (vN pl),some (.int ((a|||b:Nat):Int))]) ?_
 show eV ⟨[some (.int (a:Int)),some (.int (b:Int)),some (vN pl),none],[]⟩=_
 rw[eV]
 refine aP (aZ (aL (ag rfl) (ag rfl) (AK a b)) rfl) (bQ (aL (eG (ar hc (aC _)) (iT _)) (aM _ _) ?_))
 rw[kS,List.length_map]
 congr 2
 rw[Bool.eq_iff_iff,decide_eq_true_eq,beq_iff_eq]
 omega
theorem oO{x:List Int}:bT [vI x] []=.ok (.int (bG x:Nat),[]):=by
 have go:∀(l:List Int) (b:Nat) (z:Option D),∃z',bH (okC (x.map D.int) none) (aH 2) ky (l.map D.int) ⟨[some (vI x),some (.int (b:Int)),z],[]⟩=.next ⟨[some (vI x),some (.int ((l.foldl (λb y=>b*2+if 0<y then 1 else 0) b:Nat):Int)),z'],[]⟩:=by
  intro l
  induction l with
  | nil=>intro b z;exact⟨z,by rw[List.map_nil,bH,if_pos (show okC (x.map D.int) none _ from trivial)];rfl⟩
  | cons y l ih=>
   intro b z
   obtain⟨z',e⟩:=ih (b*2+if 0<y then 1 else 0) (some (.int y))
   refine⟨z', ?_⟩
   rw[List.map_cons,List.foldl_cons]
   refine Eq.trans (gs (s1:=⟨[some (vI x),some (.int (b:Int)),some (.int y)],[]⟩) (s2:=⟨[some (vI x),some (.int ((b*2+if 0<y then 1 else 0:Nat):Int)),some (.int y)],[]⟩) trivial rfl ?_) e
   rw[ky]
   refine aP (aZ (R':=[some (vI x),some (.int ((b:Int)*2)),some (.int y)]) (aL (ag rfl) (aM _ _) (bU (eh (.inr (by decide))))) rfl) ?_
   by_cases hy:0<y
   ·refine iO (pC (ag rfl)) (decide_eq_true hy) (aZ (d:=.int ((b*2+if 0<y then 1 else 0:Nat):Int)) (R:=[some (vI x),some (.int ((b:Int)*2)),some (.int y)]) (aL (ag rfl) (aM _ _) ?_) rfl)
    rw[i6,if_pos hy]
    congr 2
   ·refine du (pC (ag rfl)) (decide_eq_false hy) ((bP _).trans ?_)
    rw[if_neg hy,show ((b*2+0:Nat):Int)=(b:Int)*2 by omega]
 obtain⟨z',e⟩:=go x 0 none
 refine fR (R:=[some (vI x),some (.int (bG x:Nat)),z']) ?_
 show eN ⟨[some (vI x),none,none],[]⟩=_
 rw[eN]
 refine aP (aZ (R':=[some (vI x),some (.int ((0:Nat):Int)),none]) (aM _ _) rfl) (aP ?_ (bQ (ag rfl)))
 exact(gb (im:=listI (aa 0)) (ds:=x.map D.int) (k:=none) (s1:=⟨[some (vI x),some (.int ((0:Nat):Int)),none],[]⟩) (by rw[cD,ag (i:=0) rfl,ak];rfl)).trans e
theorem qa{α:Type}{O:au}{f:α->D}{l:List α}{i:Nat}{a:α}(h:l[i]? =some a):ixD O (.lst (l.map f)) (.int (i:Int))=.ok (f a):=by
 have hi:i<l.length:=by
  by_cases z:i<l.length
  ·exact z
  ·rw[List.getElem?_eq_none (by omega)] at h;cases h
 refine qe ?_
 rw[qZ (by simpa using hi)]
 rw[List.getElem?_eq_getElem hi] at h
 cases h
 simp
structure Wrk(n:Nat)(L:List (Nat×List Int))(row:List Int)(b:Nat):Prop where
 len:∀p∈L,p.2.length=n
 nn:∀p∈L,∀i,0<=nth p.2 i
 few:L.length<64
 rl:row.length=n
 n7:n<=1000
 sz:fe b (L.map (·.2))
 rz:SzL b row
 bb:2*b+20<=60000000
theorem Wrk.dz{n:Nat}{L:List (Nat×List Int)}{row:List Int}{b:Nat}(h:Wrk n L row b){p:Nat×List Int}(hp:p∈L):Sz (b+b+10) (ax row p.2):=px h.rz (h.sz _ (List.mem_map_of_mem hp)) (by rw[h.rl];exact h.n7)
theorem G6{n:Nat}{L:List (Nat×List Int)}{row:List Int}{b:Nat}(h:Wrk n L row b){p q:Nat×List Int}(hp:p∈L)(hq:q∈L):(((L.map λx=>bG x.2).filter λx=>decide (x|||(bG p.2|||bG q.2)=bG p.2|||bG q.2)).length == 2)=nbB n (L.map (·.2)) p.2 q.2:=by
 unfold nbB
 rw[List.filter_map,List.length_map,List.filter_map,List.length_map]
 congr 2
 refine List.filter_congr λx hx=> ?_
 show decide (bG x.2|||(bG p.2|||bG q.2)=bG p.2|||bG q.2)=subB n x.2 p.2 q.2
 exact bits_sub (h.len x hx) (h.len p hp) (h.len q hq) (h.nn x hx) (h.nn p hp) (h.nn q hq)
structure Iv(L T:List (Nat×List Int))(t:Nat)(O:au):Prop where
 told:O[t]? =some (.lst (bW T))
 l:Sto O L
 s:Sto O T
 tn:∀p∈T,p.1≠t
 ln:∀p∈L,p.1≠t
abbrev mR(L:List (Nat×List Int))(row:List Int)(t:Nat)(ab bl:List Nat)(x7 x8:Option D):List (Option D):=[some (.lst (bW L)),some (vI row),some (.lst (L.map λp=>.int (ax row p.2))),some (vN (L.map λp=>bG p.2)),some (.ptr t),some (vN ab),some (vN bl),x7,x8]
theorem vR{n:Nat}{L:List (Nat×List Int)}{row:List Int}{b t:Nat}{ab bl:List Nat}(h:Wrk n L row b){qh:(Nat×List Int)×Nat}(hh:L[qh.2]? =some qh.1)(K:List D):∀(Bs:List ((Nat×List Int)×Nat)) (T:List (Nat×List Int)) (O:au) (x8:Option D),(∀q∈Bs,L[q.2]? =some q.1)->T.length+Bs.length<=100000->Iv L T t O->
 ∃T' O' y8,bH (okC K none) (aH 8) eJ (Bs.map λq=>D.int (q.2:Int)) ⟨mR L row t ab bl (some (.int (qh.2:Int))) x8,O⟩=.next ⟨mR L row t ab bl (some (.int (qh.2:Int))) y8,O'⟩/\Iv L T' t O'/\T'.length<=T.length+Bs.length/\
  T'.map (·.2)=T.map (·.2)++((Bs.filter λq=>nbB n (L.map (·.2)) qh.1.2 q.1.2).map λq=>cI q.1.2 (ax row q.1.2) qh.1.2 (ax row qh.1.2))
 | [],T,O,x8,_,_,iv=>⟨T,O,x8,by rw[List.map_nil,bH,if_pos (show okC K none _ from trivial)],iv,by simp,by simp⟩
 | q::Bs,T,O,x8,hb,hl,iv=>by
  have hq:=hb q List.mem_cons_self
  have mh:qh.1∈L:=List.mem_of_getElem? hh
  have mq:q.1∈L:=List.mem_of_getElem? hq
  have hb':=λz hz=>hb z (List.mem_cons_of_mem _ hz)
  rw[List.length_cons] at hl
  have tst:bh (bI 3 dR (af (aj ixD (aa 3) (aa 7)) (af (aj ixD (aa 3) (aa 8)) (af (aa 3) aq)))) ⟨mR L row t ab bl (some (.int (qh.2:Int))) (some (.int (q.2:Int))),O⟩=.ok (nbB n (L.map (·.2)) qh.1.2 q.1.2,⟨mR L row t ab bl (some (.int (qh.2:Int))) (some (.int (q.2:Int))),O⟩):=by
   rw[<- G6 h mh mq]
   refine dD (eP (ar (aL (ag rfl) (ag rfl) (qa (f:=λx:Nat=>D.int (x:Int)) (l:=L.map λp=>bG p.2) (a:=bG qh.1.2) (by rw[List.getElem?_map,hh];rfl))) (ar (aL (ag rfl) (ag rfl) (qa (f:=λx:Nat=>D.int (x:Int)) (l:=L.map λp=>bG p.2) (a:=bG q.1.2) (by rw[List.getElem?_map,hq];rfl))) (ar (ag rfl) (aC _)))) (Df (by rw[List.length_map];have:=h.few;omega)) ?_ rfl (by simp))
   rw[dY,dY,dY,zf,uD,uD,g9,El];rfl
  rw[List.map_cons]
  cases hn:nbB n (L.map (·.2)) qh.1.2 q.1.2 with
  | false=>
   obtain⟨T',O',y8,e,a1,a2,a3⟩:=vR h hh K Bs T O (some (.int (q.2:Int))) hb' (by omega) iv
   refine⟨T',O',y8, ?_,a1,by rw[List.length_cons];omega,by rw[a3,List.filter_cons_of_neg (by rw[hn];decide)]⟩
   refine Eq.trans (gs (s1:=⟨mR L row t ab bl (some (.int (qh.2:Int))) (some (.int (q.2:Int))),O⟩) (s2:=⟨mR L row t ab bl (some (.int (qh.2:Int))) (some (.int (q.2:Int))),O⟩) trivial rfl ?_) e
   rw[eJ]
   exact du tst hn (bP _)
  | true=>
   have zq:=h.sz _ (List.mem_map_of_mem (f:=(·.2)) mq)
   have zh:=h.sz _ (List.mem_map_of_mem (f:=(·.2)) mh)
   have off:=Bw (one:=q.1.2) (other:=qh.1.2) (v:=ax row q.1.2) (w:=ax row qh.1.2) (by rw[h.len _ mq];have:=h.n7;omega) (λa ha=>gK (by have:=h.bb;omega) (by have:=h.bb;omega) (zq a ha) (h.dz mh)) (λa ha=>gK (by have:=h.bb;omega) (by have:=h.bb;omega) (zh a ha) (h.dz mq))
   have call:si 4 jJ (af (aj ixD (aa 0) (aa 8)) (af (aj ixD (aa 2) (aa 8)) (af (aj ixD (aa 0) (aa 7)) (af (aj ixD (aa 2) (aa 7)) aq)))) ⟨mR L row t ab bl (some (.int (qh.2:Int))) (some (.int (q.2:Int))),O⟩=.ok (.ptr O.length,⟨mR L row t ab bl (some (.int (qh.2:Int))) (some (.int (q.2:Int))),O++[.lst ((cI q.1.2 (ax row q.1.2) qh.1.2 (ax row qh.1.2)).map D.int)]⟩):=by
    refine Ez (ar (aL (ag rfl) (ag rfl) (qa (f:=λp:Nat×List Int=>D.ptr p.1) hq)) (ar (aL (ag rfl) (ag rfl) (qa (f:=λp:Nat×List Int=>D.int (ax row p.2)) hq)) (ar (aL (ag rfl) (ag rfl) (qa (f:=λp:Nat×List Int=>D.ptr p.1) hh)) (ar (aL (ag rfl) (ag rfl) (qa (f:=λp:Nat×List Int=>D.int (ax row p.2)) hh)) (aC _))))) (rs:=[vI q.1.2,.int (ax row q.1.2),vI qh.1.2,.int (ax row qh.1.2)]) ?_ off (by simp) rfl rfl ?_ (iu _ _) ?_
    ·simp only[fC,gD,jK (iv.l _ mq),jK (iv.l _ mh),EL,gO,fI]
    ·simp[vx,pJ]
    ·simp
   have iv':Iv L (T++[(O.length,cI q.1.2 (ax row q.1.2) qh.1.2 (ax row qh.1.2))]) t ((O++[Cell.lst ((cI q.1.2 (ax row q.1.2) qh.1.2 (ax row qh.1.2)).map D.int)]).set t (Cell.lst (bW T++[D.ptr O.length]))):=by
    have tl:=kq iv.told
    have told':(O++[Cell.lst ((cI q.1.2 (ax row q.1.2) qh.1.2 (ax row qh.1.2)).map D.int)])[t]? =some (.lst (bW T)):=dH iv.told
    refine⟨by rw[cS told'];simp[bW],(iv.l.app _).set iv.ln _,λp hp=> ?_,λp hp=> ?_,iv.ln⟩
    ·rcases List.mem_append.mp hp with hp | hp
     ·exact((iv.s.app _).set iv.tn _) p hp
     ·rw[List.mem_singleton.mp hp]
      dsimp only
      rw[df (by omega)]
      simp
    ·rcases List.mem_append.mp hp with hp | hp
     ·exact iv.tn p hp
     ·rw[List.mem_singleton.mp hp];dsimp only;omega
   obtain⟨T',O',y8,e,a1,a2,a3⟩:=vR h hh K Bs (T++[(O.length,cI q.1.2 (ax row q.1.2) qh.1.2 (ax row qh.1.2))]) _ (some (.int (q.2:Int))) hb' (by rw[List.length_append,List.length_singleton];omega) iv'
   refine⟨T',O',y8, ?_,a1,by rw[List.length_append,List.length_singleton] at a2;rw[List.length_cons];omega,by rw[a3,List.filter_cons_of_pos (p:=λq:(Nat×List Int)×Nat=>nbB n (L.map (·.2)) qh.1.2 q.1.2) (a:=q) (l:=Bs) hn,List.map_append,List.map_cons,List.append_assoc];rfl⟩
   refine Eq.trans (gs (s1:=⟨mR L row t ab bl (some (.int (qh.2:Int))) (some (.int (q.2:Int))),O⟩) (s2:=⟨mR L row t ab bl (some (.int (qh.2:Int))) (some (.int (q.2:Int))),(O++[Cell.lst ((cI q.1.2 (ax row q.1.2) qh.1.2 (ax row qh.1.2)).map D.int)]).set t (Cell.lst (bW T++[D.ptr O.length]))⟩) trivial rfl ?_) e
   rw[eJ]
   exact iO tst hn (lO (vm (ag rfl) iv.told call (dH iv.told) (by rw[List.length_map];omega) rfl))
theorem yr{n:Nat}{L:List (Nat×List Int)}{row:List Int}{b t:Nat}{ab:List Nat}{Bs:List ((Nat×List Int)×Nat)}(h:Wrk n L row b)(hB:∀q∈Bs,L[q.2]? =some q.1)(hBl:Bs.length<=64)(K:List D):∀(As:List ((Nat×List Int)×Nat)) (T:List (Nat×List Int)) (O:au) (x7 x8:Option D),(∀q∈As,L[q.2]? =some q.1)->T.length+As.length*64<=10000->Iv L T t O->
 ∃T' O' y7 y8,bH (okC K none) (aH 7) gA (As.map λq=>D.int (q.2:Int)) ⟨mR L row t ab (Bs.map (·.2)) x7 x8,O⟩=.next ⟨mR L row t ab (Bs.map (·.2)) y7 y8,O'⟩/\Iv L T' t O'/\
  T'.map (·.2)=T.map (·.2)++As.flatMap λa=>(Bs.filter λq=>nbB n (L.map (·.2)) a.1.2 q.1.2).map λq=>cI q.1.2 (ax row q.1.2) a.1.2 (ax row a.1.2)
 | [],T,O,x7,x8,_,_,iv=>⟨T,O,x7,x8,by rw[List.map_nil,bH,if_pos (show okC K none _ from trivial)],iv,by simp⟩
 | a::As,T,O,x7,x8,hA,hl,iv=>by
  rw[List.length_cons] at hl
  obtain⟨T1,O1,y8,e1,i1,l1,m1⟩:=vR (ab:=ab) (bl:=Bs.map (·.2)) h (hA a List.mem_cons_self) ((Bs.map (·.2)).map λx:Nat=>D.int (x:Int)) Bs T O x8 hB (by omega) iv
  obtain⟨T2,O2,z7,z8,e2,i2,m2⟩:=yr (ab:=ab) h hB hBl K As T1 O1 (some (.int (a.2:Int))) y8 (λq hq=>hA q (List.mem_cons_of_mem _ hq)) (by omega) i1
  refine⟨T2,O2,z7,z8, ?_,i2,by rw[m2,m1,List.flatMap_cons,List.append_assoc]⟩
  rw[List.map_cons]
  refine Eq.trans (gs (s1:=⟨mR L row t ab (Bs.map (·.2)) (some (.int (a.2:Int))) x8,O⟩) (s2:=⟨mR L row t ab (Bs.map (·.2)) (some (.int (a.2:Int))) y8,O1⟩) trivial rfl ?_) e2
  rw[gA]
  refine(gb (im:=listI (aa 6)) (ds:=(Bs.map (·.2)).map λx:Nat=>D.int (x:Int)) (k:=none) (s1:=⟨mR L row t ab (Bs.map (·.2)) (some (.int (a.2:Int))) x8,O⟩) (by rw[cD,ag (i:=6) rfl,ak];rfl)).trans ?_
  rw[List.map_map] at e1 ⊢
  exact e1
theorem DM {α:Type} {caps:List Nat} {im:IM} {c:TM} {e:EM} {s:S} {k:Option Nat} {l:List α} {p:α->Bool} {out:α->D} {f g:α->D} (him:im s=.ok ((l.map (λa=>D.tup [f a,g a]),k),s)) (hok:okC (l.map (λa=>D.tup [f a,g a])) k s.o) (hl:l.length<=16777216)
 (hc:∀a∈l,c ⟨some (f a)::some (g a)::caps.map (λi=>(s.r[i]?).getD none),s.o⟩=.ok (p a,⟨some (f a)::some (g a)::caps.map (λi=>(s.r[i]?).getD none),s.o⟩))
 (he:∀a∈l,p a=true->e ⟨some (f a)::some (g a)::caps.map (λi=>(s.r[i]?).getD none),s.o⟩=.ok (out a,⟨some (f a)::some (g a)::caps.map (λi=>(s.r[i]?).getD none),s.o⟩)):
 jy 2 caps im (dM (ba (aH 0) (ba (aH 1) ei)) 2) c e s=.ok (.ptr s.o.length,⟨s.r,s.o++[.lst ((l.filter p).map out)]⟩):=by
 rw[qN,vY him hok hl hc he,ak]
theorem C4{α:Type}(f g:α->D):∀l:List α,iV (l.map f) (l.map g)=l.map λa=>.tup [f a,g a]:=λl=>by
 unfold iV
 rw[List.zipWith_map,List.zipWith_self]
theorem vL{α:Type}(p:α->Bool)(l:List α):(l.zipIdx.filter λq=>p q.1).map (·.1)=l.filter p:=by
 have h:(l.zipIdx.map (·.1))=l:=by simp
 conv=>rhs;rw[<- h,List.filter_map]
 rfl
theorem DW{n:Nat}{L:List (Nat×List Int)}{row:List Int}{b:Nat}{O:au}(h:Wrk n L row b)(hs:Sto O L):∃L' O',ef [.lst (bW L),vI row] O=.ok (.lst (bW L'),O')/\L'.map (·.2)=cX n (L.map (·.2)) row/\Sto O' L':=by
 have few:=h.few
 have dz:∀p∈L,bu [vI row,vI p.2] []=.ok (.int (ax row p.2),[]):=λp hp=>xh (by rw[h.rl];have:=h.n7;omega) λq hq=>gK (by have:=h.bb;omega) (by have:=h.bb;omega) (h.rz _ (List.of_mem_zip hq).1) (h.sz _ (List.mem_map_of_mem hp) _ (List.of_mem_zip hq).2)
 have v2:=iK (l:=L) (item:=λp=>.ptr p.1) (out:=λp=>.int (ax row p.2)) (caps:=[1]) (im:=listI (aa 0)) (e:=eH 2 bu (af (aa 1) (af (aa 0) aq))) (k:=none) (s:=⟨[some (.lst (bW L)),some (vI row),none,none,none,none,none,none,none],O⟩) (by rw[cD,ag (i:=0) rfl,ak];rfl) trivial (by omega)
  (λp hp=>jF (ar (ag rfl) (ar (ag rfl) (aC _))) (rs:=[vI row,vI p.2]) (by simp only[fC,gD,jK (hs p hp),gO,fI]) (dz p hp) (by simp) rfl rfl)
 have v3:=iK (l:=L) (item:=λp=>.ptr p.1) (out:=λp=>.int (bG p.2:Nat)) (caps:=[]) (im:=listI (aa 0)) (e:=eH 1 bT (af (aa 0) aq)) (k:=none) (s:=⟨[some (.lst (bW L)),some (vI row),some (.lst (L.map λp=>.int (ax row p.2))),none,none,none,none,none,none],O⟩) (by rw[cD,ag (i:=0) rfl,ak];rfl) trivial (by omega)
  (λp hp=>jF (ar (ag rfl) (aC _)) (rs:=[vI p.2]) (by simp only[fC,gD,jK (hs p hp),gO,fI]) oO (by simp) rfl rfl)
 rw[show (L.map λp=>D.int (bG p.2:Nat))=(L.map λp=>bG p.2).map (λx:Nat=>D.int (x:Int)) by rw[List.map_map];rfl] at v3
 have v4:=DM (l:=L) (f:=λp=>.ptr p.1) (g:=λp=>.int (ax row p.2)) (p:=λp=>decide (ax row p.2=0)) (out:=λp=>.ptr p.1) (caps:=[]) (im:=mm (af (aa 0) (af (aa 2) aq))) (c:=bh (aj eqD (aa 1) (ao (.int 0)))) (e:=aa 0) (k:=none) (s:=⟨[some (.lst (bW L)),some (vI row),some (.lst (L.map λp=>.int (ax row p.2))),some (vN (L.map λp=>bG p.2)),none,none,none,none,none],O⟩) (by
  rw[EB,iW,ag (i:=0) rfl,ak]
  dsimp only
  rw[iW,ag (i:=2) rfl,ak]
  dsimp only
  rw[aC,ak,ak,ak]
  dsimp only
  rw[C4]) trivial (by omega) (λp _=>dD (aL (ag rfl) (aM _ _) (kS _ _))) (λp _ _=>ag rfl)
 have enum:∀(R:List (Option D)) (P:au),R[2]? =some (some (.lst (L.map λp=>.int (ax row p.2))))->dB (af (aa 2) aq) ⟨R,P⟩=.ok ((L.zipIdx.map λq=>D.tup [.int (q.2:Int),.int (ax row q.1.2)],none),⟨R,P⟩):=λR P hR=>by
  rw[oi,iW,ag (i:=2) hR,ak]
  dsimp only
  rw[aC,ak,ak]
  dsimp only
  rw[show gY (L.map λp=>D.int (ax row p.2))=L.zipIdx.map λq=>D.tup [.int (q.2:Int),.int (ax row q.1.2)] by
   unfold gY
   rw[List.mapIdx_eq_zipIdx_map,List.zipIdx_map,List.map_map]
   rfl]
 have zl:L.zipIdx.length=L.length:=by simp
 have vn:∀Z:List ((Nat×List Int)×Nat),(Z.map λq=>D.int (q.2:Int))=(Z.map (·.2)).map λx:Nat=>D.int (x:Int):=λZ=>by rw[List.map_map];rfl
 have v5:=yA (l:=L.zipIdx) (f:=λq=>.int (q.2:Int)) (g:=λq=>.int (ax row q.1.2)) (p:=λq=>decide (0<ax row q.1.2)) (out:=λq=>.int (q.2:Int)) (caps:=[]) (im:=dB (af (aa 2) aq)) (c:=bh (aj gtD (aa 1) (ao (.int 0)))) (e:=aa 0) (k:=none) (s:=⟨[some (.lst (bW L)),some (vI row),some (.lst (L.map λp=>.int (ax row p.2))),some (vN (L.map λp=>bG p.2)),some (.ptr O.length),none,none,none,none],O++[.lst ((L.filter λp=>decide (ax row p.2=0)).map λp=>.ptr p.1)]⟩) (enum _ _ rfl) trivial (by omega) (λq _=>dD (aL (ag rfl) (aM _ _) (yN _ _))) (λq _ _=>ag rfl)
 generalize hA:(L.zipIdx.filter λq=>decide (0<ax row q.1.2))=As at v5
 rw[vn] at v5
 have v6:=yA (l:=L.zipIdx) (f:=λq=>.int (q.2:Int)) (g:=λq=>.int (ax row q.1.2)) (p:=λq=>decide (ax row q.1.2<0)) (out:=λq=>.int (q.2:Int)) (caps:=[]) (im:=dB (af (aa 2) aq)) (c:=bh (aj ltD (aa 1) (ao (.int 0)))) (e:=aa 0) (k:=none) (s:=⟨[some (.lst (bW L)),some (vI row),some (.lst (L.map λp=>.int (ax row p.2))),some (vN (L.map λp=>bG p.2)),some (.ptr O.length),some (vN (As.map (·.2))),none,none,none],O++[.lst ((L.filter λp=>decide (ax row p.2=0)).map λp=>.ptr p.1)]⟩) (enum _ _ rfl) trivial (by omega) (λq _=>dD (aL (ag rfl) (aM _ _) (jD _ _))) (λq _ _=>ag rfl)
 generalize hB:(L.zipIdx.filter λq=>decide (ax row q.1.2<0))=Bs at v6
 rw[vn] at v6
 have at_:∀q∈L.zipIdx,L[q.2]? =some q.1:=λq hq=>List.mem_zipIdx_iff_getElem?.mp hq
 have mA:∀q∈As,L[q.2]? =some q.1:=λq hq=>at_ q (by rw[<- hA] at hq;exact(List.mem_filter.mp hq).1)
 have mB:∀q∈Bs,L[q.2]? =some q.1:=λq hq=>at_ q (by rw[<- hB] at hq;exact(List.mem_filter.mp hq).1)
 have lA:As.length<=L.length:=by rw[<- hA,<- zl];exact List.length_filter_le _ _
 have lB:Bs.length<=L.length:=by rw[<- hB,<- zl];exact List.length_filter_le _ _
 have sub:∀p∈L.filter (λp=>decide (ax row p.2=0)),p∈L:=λp hp=>(List.mem_filter.mp hp).1
 have lT:(L.filter λp=>decide (ax row p.2=0)).length<=L.length:=List.length_filter_le _ _
 have iv:Iv L (L.filter λp=>decide (ax row p.2=0)) O.length (O++[.lst ((L.filter λp=>decide (ax row p.2=0)).map λp=>.ptr p.1)]):=⟨by simp,hs.app _,λp hp=>(hs.app _) p (sub p hp),λp hp=>Nat.ne_of_lt (hs.lt (sub p hp)),λp hp=>Nat.ne_of_lt (hs.lt hp)⟩
 obtain⟨T',O',y7,y8,e7,i7,m7⟩:=yr (ab:=As.map (·.2)) h mB (by omega) ((As.map (·.2)).map λx:Nat=>D.int (x:Int)) As _ _ none none mA (by omega) iv
 refine⟨T',O'.set O.length .dead, ?_, ?_,i7.s.set i7.tn _⟩
 ·refine fR (R:=mR L row O.length (As.map (·.2)) (Bs.map (·.2)) y7 y8) ?_
  show ey ⟨[some (.lst (bW L)),some (vI row),none,none,none,none,none,none,none],O⟩=_
  rw[ey]
  refine aP (aZ v2 rfl) (aP (aZ v3 rfl) (aP (aZ v4 rfl) (aP (aZ v5 rfl) (aP (aZ v6 rfl) (aP ?_ (bQ (kM (ag rfl) i7.told rfl)))))))
  refine(gb (im:=listI (aa 5)) (ds:=(As.map (·.2)).map λx:Nat=>D.int (x:Int)) (k:=none) (s1:=⟨mR L row O.length (As.map (·.2)) (Bs.map (·.2)) none none,O++[.lst ((L.filter λp=>decide (ax row p.2=0)).map λp=>.ptr p.1)]⟩) (by rw[cD,ag (i:=5) rfl,ak];rfl)).trans ?_
  rw[<- vn]
  exact e7
 ·rw[m7]
  unfold cX
  rw[List.filter_map,List.filter_map,List.filter_map]
  have eA:=vL (λp:Nat×List Int=>decide (0<ax row p.2)) L
  have eB:=vL (λp:Nat×List Int=>decide (ax row p.2<0)) L
  rw[hA] at eA
  rw[hB] at eB
  show _=(L.filter λp=>decide (ax row p.2=0)).map (·.2)++((L.filter λp:Nat×List Int=>decide (0<ax row p.2)).map (·.2)).flatMap λh=>(((L.filter λp:Nat×List Int=>decide (ax row p.2<0)).map (·.2)).filter λw=>nbB n (L.map (·.2)) h w).map λw=>cI w (ax row w) h (ax row h)
  rw[<- eA,<- eB]
  congr 1
  rw[List.flatMap_map,List.flatMap_map]
  refine congrArg (λF=>As.flatMap F) (funext λa=> ?_)
  rw[List.map_map,List.filter_map,List.map_map]
  rfl
theorem By {α:Type} {l:List α} {item:α->D} {f:α->List Int} {T:α->Nat->Prop} {caps:List Nat} {im:IM} {e:EM} {k:Option Nat} {R:List (Option D)} {O:au} (I:au->Prop) (hI:∀O E,I O->I (O++E)) (h0:I O) (him:im ⟨R,O⟩=.ok ((l.map item,k),⟨R,O⟩)) (hok:∀O,I O->okC (l.map item) k O) (hl:l.length<=1000000)
 (he:∀a∈l,∀O,I O->∃q E,e ⟨some (item a)::caps.map (λi=>(R[i]?).getD none),O⟩=.ok (.ptr q,⟨some (item a)::caps.map (λi=>(R[i]?).getD none),O++E⟩)/\(O++E)[q]? =some (.lst ((f a).map D.int))/\(T a q\/O.length<=q)):
 ∃(L:List (Nat×List Int)) (E:au),cM 1 caps im (aH 0) bZ e ⟨R,O⟩=.ok (.lst (bW L),⟨R,O++E⟩)/\L.map (·.2)=l.map f/\Sto (O++E) L:=by
 obtain⟨L,E,x',e1,e2,e3,e4⟩:=sx (ok:=okC (l.map item) k) (e:=e) (cap:=caps.map (λi=>(R[i]?).getD none)) (T:=T) I hI hok l [] none O h0 (by simp;omega) he
 refine⟨L,E, ?_,e2,e3⟩
 rw[jP,lE,him,ak]
 dsimp only
 rw[show jo 1 caps R=none::caps.map (λi=>(R[i]?).getD none) from rfl,e1,ak,ak]
 rfl
theorem D1{n a:Nat}(ha:a<n)(hn:n<=1000000):mV [.int (a:Int),.int (n:Int)] []=.ok (.ptr 0,[.lst ((fE n a).map D.int)]):=by
 have h1:=mM (i:=2) (Eq.trans (G1 (fin:=ou) (mk:=aa 1) (s:=⟨[some (.int (a:Int)),some (.int (n:Int)),none],[]⟩) (n:=n) (by simp) hn) (yP _ _))
 have h2:gw (ao (.int 1)) (i4 (aa 2) (aa 0)) ⟨[some (.int (a:Int)),some (.int (n:Int)),some (.ptr 0)],[.lst ((List.replicate n (0:Int)).map D.int)]⟩=.next ⟨[some (.int (a:Int)),some (.int (n:Int)),some (.ptr 0)],[.lst ((fE n a).map D.int)]⟩:=by
  rw[mL,aM,ak,jS (k:=0) (a:=a) (ds:=(List.replicate n (0:Int)).map D.int) (s1:=⟨[some (.int (a:Int)),some (.int (n:Int)),some (.ptr 0)],[.lst ((List.replicate n (0:Int)).map D.int)]⟩) (s2:=⟨[some (.int (a:Int)),some (.int (n:Int)),some (.ptr 0)],[.lst ((List.replicate n (0:Int)).map D.int)]⟩) (by simp) (by simp) rfl (by simpa using ha)]
  simp[fE,List.map_set]
 refine fR (R:=[some (.int (a:Int)),some (.int (n:Int)),some (.ptr 0)]) ?_
 show oY ⟨[some (.int (a:Int)),some (.int (n:Int)),none],[]⟩=_
 rw[oY,fq h1]
 exact aP h2 (bQ (ag rfl))
theorem BZ{n:Nat}(hn:n<=1000)(O:au):∃L E,mI [.int (n:Int)] O=.ok (.lst (bW L),O++E)/\L.map (·.2)=fG n/\Sto (O++E) L:=by
 obtain⟨L,E,e,h1,h2⟩:=By (l:=List.range n) (item:=λi:Nat=>D.int (i:Int)) (f:=fE n) (T:=λ_ _=>False) (caps:=[0]) (im:=lH (af (aa 0) aq)) (e:=eZ 2 mV (af (aa 0) (af (aa 1) aq))) (k:=none) (R:=[some (.int (n:Int))]) (O:=O) (λ_=>True) (λ_ _ _=>trivial) trivial (by
  rw[nD (n:=n) (s1:=⟨[some (.int (n:Int))],O⟩) (ar (ag rfl) (aC _)) (by omega),p7]) (λ_ _=>trivial) (by rw[List.length_range];omega) (λa ha P _=>
  ⟨P.length,[.lst ((fE n a).map D.int)],jV (ar (ag rfl) (ar (ag rfl) (aC _))) (D1 (List.mem_range.mp ha) (by omega)) (by simp) rfl (iu _ _) (by simp),by simp,.inr (Nat.le_refl _)⟩)
 refine⟨L,E, ?_,h1,h2⟩
 refine fR (R:=[some (.int (n:Int))]) ?_
 show m9 ⟨[some (.int (n:Int))],O⟩=_
 rw[m9]
 exact bQ e
theorem rY{O:au}:∀{L:List (Nat×List Int)},Sto O L->keyed O (bW L)=some (L.map λp=>(.ptr p.1,p.2))
 | [],_=>rfl
 | p::L,h=>by
  have e:=rY (L:=L) λq hq=>h q (List.mem_cons_of_mem _ hq)
  have c:lZ O (.ptr p.1)=some p.2:=by
   unfold lZ
   rw[kT (h p List.mem_cons_self)]
   exact nC _
  show keyed O (.ptr p.1::bW L)=_
  unfold keyed
  rw[c,e]
  rfl
theorem Bc(L:List (Nat×List Int)):(de (L.map λp=>(D.ptr p.1,p.2))).map (·.1)=bW (de L):=by
 rw[ke (g:=λp:Nat×List Int=>(D.ptr p.1,p.2)) λ_=>rfl,List.map_map]
 rfl
theorem qY{O:au}{L:List (Nat×List Int)}{fin:S->List D->Res (D×S)}{me:EM}{s s1:S}{d:D}(he:me s=.ok (d,s1))(hd:lsD s1.o d=some (bW L))(hs:Sto s1.o L)(hl:L.length<64)(nd:(L.map (·.2)).Nodup):pT fin me s=fin s1 (bW (de L)):=by
 unfold pT
 rw[he,ak]
 dsimp only
 rw[hd]
 dsimp only
 rw[rY hs]
 dsimp only
 rw[if_pos ⟨by rw[List.length_map];exact hl,by rw[List.map_map];exact nd⟩,Bc]
def sE(V:List (List Int)):List (List Int):=(de (V.map λx=>((),x))).map (·.2)
theorem A2(L:List (Nat×List Int)):(de L).map (·.2)=sE (L.map (·.2)):=by
 unfold sE
 rw[List.map_map,show ((λx:List Int=>((),x))∘λx:Nat×List Int=>x.2)=λp:Nat×List Int=>((),p.2) from rfl,ke (g:=λp:Nat×List Int=>((),p.2)) λ_=>rfl,List.map_map]
 rfl
theorem AQ(n:Nat):fe 1 (fG n):=λx hx=>by
 unfold fG at hx
 obtain⟨a,_,rfl⟩:=List.mem_map.mp hx
 exact yM n a
structure iF(n:Nat)(rows:List (List Int)):Prop where
 len:∀r∈rows,r.length=n
 sz:fe 200 rows
 cnt:rows.length<=5
 n7:n<=7
theorem big:p8 200 5 1<=8000:=by decide
theorem vJ{n:Nat}{rows:List (List Int)}(h:iF n rows){rs:List (List Int)}(hr:∀r∈rs,r∈rows)(hl:rs.length<=5):fe 8000 (rs.foldl (cX n) (fG n)):=by
 refine(wB rs 1 _ (λr hr'=>⟨h.sz r (hr r hr'),by rw[h.len r (hr r hr')];have:=h.n7;omega⟩) (AQ n)).mono ?_
 exact Nat.le_trans (uc 200 rs.length 5 1 hl) big
theorem D8{n:Nat}{rows:List (List Int)}(h:iF n rows):∃k O Ls,lP [vII rows,.int (n:Int)] []=.ok (.ptr k,O)/\O[k]? =some (.lst (bW Ls))/\Sto O Ls/\(∀p∈Ls,p.1≠k)/\Ls=de Ls/\Ls.map (·.2)=sE (ka rows n):=by
 have n7:=h.n7
 obtain⟨L0,E0,e0,m0,s0⟩:=BZ (n:=n) (by omega) []
 rw[List.nil_append] at e0 s0
 obtain⟨s',el,rs,L,O,x3,hpre,hs',sto,ml⟩:=kb (ok:=okC (rows.map vI) none) (g:=aH 3) (body:=qM)
  (λpre s=>∃(rs:List (List Int)) (L:List (Nat×List Int)) (O:au) (x3:Option D),pre=rs.map vI/\s=⟨[some (vII rows),some (.int (n:Int)),some (.lst (bW L)),x3],O⟩/\Sto O L/\L.map (·.2)=rs.foldl (cX n) (fG n)) (λ_ _ _=>trivial) (rows.map vI) [] (by
   rintro pre d rest ed s ⟨rs,L,O,x3,rfl,rfl,sto,ml⟩
   rw[List.nil_append] at ed
   obtain⟨l1,l2,e1,e2,e3⟩:=List.map_eq_append_iff.mp ed
   cases l2 with
   | nil=>cases e3
   | cons r l2=>
    rw[List.map_cons] at e3
    injection e3 with e3 e4
    subst e3
    have e5:l1=rs:=(List.map_inj_right (λa b h=>by
     have:a.map D.int=b.map D.int:=by injection h
     exact(List.map_inj_right (λx y q=>by cases q;rfl)).mp this)).mp e2
    subst e5
    have inR:∀q∈l1,q∈rows:=λq hq=>by rw[e1];exact List.mem_append_left _ hq
    have rR:r∈rows:=by rw[e1];simp
    have k:fL n l1 (ka l1 n):=oq λq hq=>h.len q (inR q hq)
    have cl:l1.length<=5:=by have:=h.cnt;rw[e1,List.length_append] at this;omega
    have mem:∀p∈L,cy n l1 p.2:=λp hp=>(k.all p.2).mp (by
     show p.2∈l1.foldl (cX n) (fG n)
     rw[<- ml];exact List.mem_map_of_mem hp)
    have wk:Wrk n L r 8000:=⟨λp hp=>(mem p hp).fit.len,λp hp=>(mem p hp).fit.nn,by
     have:=k.few n7
     have e:L.length=(ka l1 n).length:=by show _=(l1.foldl (cX n) (fG n)).length;rw[<- ml,List.length_map]
     omega,h.len r rR,by omega,by rw[ml];exact vJ h inR cl,(h.sz r rR).mono (by decide),by decide⟩
    obtain⟨L',O',e6,m6,s6⟩:=DW wk sto
    refine⟨⟨[some (vII rows),some (.int (n:Int)),some (.lst (bW L)),some (vI r)],O⟩,⟨[some (vII rows),some (.int (n:Int)),some (.lst (bW L')),some (vI r)],O'⟩,rfl,.inl ?_,l1++[r],L',O',_,by simp,rfl,s6,by rw[m6,ml,List.foldl_append];rfl⟩
    rw[qM]
    exact aZ (dQ (ar (ag rfl) (ar (ag rfl) (aC _))) e6 rfl) rfl) ⟨[some (vII rows),some (.int (n:Int)),some (.lst (bW L0)),none],E0⟩ ⟨[],L0,E0,none,rfl,rfl,s0,m0⟩
 rw[List.nil_append] at hpre
 have e5:rows=rs:=(List.map_inj_right (λa b h=>by
  have:a.map D.int=b.map D.int:=by injection h
  exact(List.map_inj_right (λx y q=>by cases q;rfl)).mp this)).mp hpre
 subst e5
 subst hs'
 have k:fL n rows (ka rows n):=oq h.len
 have ml':L.map (·.2)=ka rows n:=ml
 have nd:(L.map (·.2)).Nodup:=by rw[ml'];exact k.nd
 have few:L.length<64:=by have:=k.few n7;rw[<- ml',List.length_map] at this;exact this
 have so:pT ou (aa 2) ⟨[some (vII rows),some (.int (n:Int)),some (.lst (bW L)),x3],O⟩=.ok (.ptr O.length,⟨[some (vII rows),some (.int (n:Int)),some (.lst (bW L)),x3],O++[.lst (bW (de L))]⟩):=(qY (O:=O) (fin:=ou) (ag rfl) rfl sto few nd).trans (yP _ _)
 have mem:∀p∈de L,p∈L:=λp hp=>(fH L).mem_iff.mp hp
 refine⟨O.length,O++[.lst (bW (de L))],de L, ?_,by simp,λp hp=>(sto.app _) p (mem p hp),λp hp=>Nat.ne_of_lt (sto.lt (mem p hp)), ?_,by rw[A2,ml']⟩
 ·refine fR (R:=[some (vII rows),some (.int (n:Int)),some (.lst (bW L)),x3]) ?_
  show pf ⟨[some (vII rows),some (.int (n:Int)),none,none],[]⟩=_
  rw[pf]
  refine aP (aZ (dQ (ar (ag rfl) (aC _)) e0 rfl) rfl) (aP ?_ (bQ so))
  exact(gb (im:=listI (aa 0)) (ds:=rows.map vI) (k:=none) (s1:=⟨[some (vII rows),some (.int (n:Int)),some (.lst (bW L0)),none],E0⟩) (by rw[cD,ag (i:=0) rfl,ak];rfl)).trans el
 ·refine qL (fH _).symm ?_ (kP L) (kP _)
  exact((fH L).map (·.2)).nodup_iff.mpr nd
theorem BC(x:Option D)(L:D):∀(ns:List Int) (k0:Nat) (x1 x2:Option D),(cT ns=none->∃y1 y2,bH (okC (gY [L]) none) (dM (ba (aH 1) (ba (aH 2) ei)) 2) bz ((ns.zipIdx k0).map λp=>.tup [.int (p.2:Int),.int p.1]) ⟨[some L,x1,x2],[]⟩=.next ⟨[some L,y1,y2],[]⟩)/\
 ∀j,cT ns=some j->∃y1 y2,bH (okC (gY [L]) none) (dM (ba (aH 1) (ba (aH 2) ei)) 2) bz ((ns.zipIdx k0).map λp=>.tup [.int (p.2:Int),.int p.1]) ⟨[some L,x1,x2],[]⟩=.ret (.int ((k0+j:Nat):Int)) ⟨[some L,y1,y2],[]⟩
 | [],k0,x1,x2=>⟨λ_=>⟨x1,x2,by simp[bH]⟩,λj h=>by cases h⟩
 | n::ns,k0,x1,x2=>by
  have ih:=BC x L ns (k0+1) (some (.int (k0:Int))) (some (.int n))
  rw[List.zipIdx_cons,List.map_cons,bH,if_pos (show okC (gY [L]) none _ from trivial)]
  have hg:dM (ba (aH 1) (ba (aH 2) ei)) 2 (.tup [.int (k0:Int),.int n]) ⟨[some L,x1,x2],[]⟩=.ok ⟨[some L,some (.int (k0:Int)),some (.int n)],[]⟩:=by simp
  rw[hg,lL]
  by_cases hn:n=0
  ·have hb:bz ⟨[some L,some (.int (k0:Int)),some (.int n)],[]⟩=.next ⟨[some L,some (.int (k0:Int)),some (.int n)],[]⟩:=by simp[bz,hn]
   rw[hb]
   dsimp only
   constructor
   ·intro h
    unfold cT at h
    rw[if_neg (by simpa using hn)] at h
    exact ih.1 (by simpa using h)
   ·intro j h
    unfold cT at h
    rw[if_neg (by simpa using hn)] at h
    cases e:cT ns with
    | none=>rw[e] at h;cases h
    | some i=>
     rw[e] at h
     have hj:j=i+1:=by simpa using h.symm
     subst hj
     obtain⟨y1,y2,e2⟩:=ih.2 i e
     exact⟨y1,y2,by rw[e2,show k0+1+i=k0+(i+1) by omega]⟩
  ·have hb:bz ⟨[some L,some (.int (k0:Int)),some (.int n)],[]⟩=.ret (.int (k0:Int)) ⟨[some L,some (.int (k0:Int)),some (.int n)],[]⟩:=by simp[bz,hn]
   rw[hb]
   dsimp only
   have hs:cT (n::ns)=some 0:=by unfold cT;rw[if_pos hn]
   rw[hs]
   refine⟨λh=>(by cases h),λj h=> ?_⟩
   have hj:j=0:=by simpa using h.symm
   subst hj
   exact⟨_,_,rfl⟩
def Ih:Option Nat->D
 | none=>.non
 | some k=>.int (k:Int)
theorem Gm(ns:List Int):ez [vI ns] []=.ok (Ih (cT ns),[]):=by
 have hf:=gb (im:=dB (af (aa 0) aq)) (g:=dM (ba (aH 1) (ba (aH 2) ei)) 2) (body:=bz) (s:=⟨[some (vI ns),none,none],[]⟩) (ds:=(ns.zipIdx 0).map λp=>.tup [.int (p.2:Int),.int p.1]) (k:=none) (s1:=⟨[some (vI ns),none,none],[]⟩) (by simp[sL])
 have go:=BC none (vI ns) ns 0 none none
 cases e:cT ns with
 | none=>
  obtain⟨y1,y2,e1⟩:=go.1 e
  refine cz (s:=⟨[some (vI ns),y1,y2],[]⟩) ?_
  show cO ⟨[some (vI ns),none,none],[]⟩=_
  rw[cO,pK,hf]
  rw[show bH (okC ((ns.zipIdx 0).map λp=>D.tup [.int (p.2:Int),.int p.1]) none) (dM (ba (aH 1) (ba (aH 2) ei)) 2) bz ((ns.zipIdx 0).map λp=>.tup [.int (p.2:Int),.int p.1]) ⟨[some (vI ns),none,none],[]⟩=.next ⟨[some (vI ns),y1,y2],[]⟩ from e1]
  rfl
 | some k=>
  obtain⟨y1,y2,e1⟩:=go.2 k e
  refine cz (s:=⟨[some (vI ns),y1,y2],[]⟩) ?_
  show cO ⟨[some (vI ns),none,none],[]⟩=_
  rw[cO,pK,hf]
  rw[show bH (okC ((ns.zipIdx 0).map λp=>D.tup [.int (p.2:Int),.int p.1]) none) (dM (ba (aH 1) (ba (aH 2) ei)) 2) bz ((ns.zipIdx 0).map λp=>.tup [.int (p.2:Int),.int p.1]) ⟨[some (vI ns),none,none],[]⟩=.ret (.int ((0+k:Nat):Int)) ⟨[some (vI ns),y1,y2],[]⟩ from e1]
  rw[Nat.zero_add];rfl
theorem D3{a b:List Int}(hl:a.length<=1000000)(hm:∀p∈a.zip b,IntMulOk p.1 p.2):eE [vI a,vI b] []=.ok (.int (ax a b),[]):=by
 have hz:(a.zip b).length<=1000000:=by rw[List.length_zip];omega
 have hc:=wc (l:=a.zip b) (f:=λp=>.int p.1) (g:=λp=>.int p.2) (out:=λp=>.int (p.1*p.2)) (caps:=[]) (im:=mm (af (aa 0) (af (aa 1) aq))) (e:=aj bJ (aa 0) (aa 1)) (k:=none) (s:=⟨[some (vI a),some (vI b)],[]⟩) (by simp[mf]) trivial (by omega) (λp hp=>by
  simp[bU (hm p hp)])
 rw[show (a.zip b).map (λp=>D.int (p.1*p.2))=(List.zipWith (· * ·) a b).map D.int by rw[<- yt];simp] at hc
 refine cz (s:=⟨[some (vI a),some (vI b)],[]⟩) ?_
 show gL ⟨[some (vI a),some (vI b)],[]⟩=_
 rw[gL]
 refine bQ (eG (ar hc (aC _)) ?_)
 rw[pj]
 rfl
theorem tH(ns:List Int)(k:Nat):∃c,bR [vI ns,.int (k:Int)] []=.ok (.int c,[])/\(k<ns.length->c=nth ns k):=by
 by_cases h:k<ns.length
 ·refine⟨nth ns k,cz (s:=⟨[some (vI ns),some (.int (k:Int))],[]⟩) ?_,λ_=>rfl⟩
  have hk:((k:Int)<(ns.length:Int)):=by omega
  simp[gr,hk,kL h]
 ·refine⟨0,cz (s:=⟨[some (vI ns),some (.int (k:Int))],[]⟩) ?_,λz=>absurd z h⟩
  have hk:¬((k:Int)<(ns.length:Int)):=by omega
  simp[gr,hk]
theorem Ba(z:Int):∃a c,eL [.int z] []=.ok (.ptr 0,[.lst [.int a,.int c]]):=by
 refine⟨z/2%10^60*(z%2),z/2%2147483647,cz (s:=⟨[some (.int z)],[.lst [.int (z/2%10^60*(z%2)),.int (z/2%2147483647)]]⟩) ?_⟩
 have hm:IntMulOk (z/2%1000000000000000000000000000000000000000000000000000000000000) (z%2):=eh (.inr (by omega))
 simp[ji,qz,gz,jT,bU hm]
theorem kY{O:au}{k:Nat}{a c m:Int}(hk:O[k]? =some (.lst [.int a,.int c]))(hm:0<m):∃r a' c',aA [.ptr k,.int m] O=.ok (.int r,O.set k (.lst [.int a',.int c']))/\0<=r/\r<m:=by
 have h0:ixD O (.ptr k) (.int 0)=.ok (.int a):=m4 hk rfl
 have h1:ixD O (.ptr k) (.int 1)=.ok (.int c):=m4 hk rfl
 by_cases h:0<a
 ·refine⟨a%m,a/m,c,cz (s:=⟨[some (.ptr k),some (.int m),some (.int (a%m))],O.set k (.lst [.int (a/m),.int c])⟩) ?_,Int.emod_nonneg _ (by omega),Int.emod_lt_of_pos _ hm⟩
  have e1:=mM (i:=2) (m:=aj gg (aj ixD (aa 0) (ao (.int 0))) (aa 1)) (s:=⟨[some (.ptr k),some (.int m),none],O⟩) (s':=⟨[some (.ptr k),some (.int m),none],O⟩) (d:=.int (a%m)) (by simp[h0,gz hm])
  have e2:gw (aj fS (aj ixD (aa 0) (ao (.int 0))) (aa 1)) (i4 (aa 0) (ao (.int 0))) ⟨[some (.ptr k),some (.int m),some (.int (a%m))],O⟩=.next ⟨[some (.ptr k),some (.int m),some (.int (a%m))],O.set k (.lst [.int (a/m),.int c])⟩:=by
   rw[mL,show aj fS (aj ixD (aa 0) (ao (.int 0))) (aa 1) ⟨[some (.ptr k),some (.int m),some (.int (a%m))],O⟩=.ok (.int (a/m),⟨[some (.ptr k),some (.int m),some (.int (a%m))],O⟩) by simp[h0,ja (show m≠0 by omega),nB hm],ak]
   rw[jS (k:=k) (a:=0) (ds:=[.int a,.int c]) (ag rfl) rfl hk (by simp)]
   rfl
  show bc ⟨[some (.ptr k),some (.int m),none],O⟩=_
  rw[bc]
  refine lM (Eq.trans (vd (s':=⟨[some (.ptr k),some (.int m),none],O⟩) (by simp[h0,h])) ?_)
  rw[fq e1]
  refine Eq.trans (fq e2) ?_
  exact bQ (ag rfl)
 ·generalize hcc:(c*48271+4099)%2147483647=c'
  have hc0:0<=c':=by rw[<- hcc];exact Int.emod_nonneg _ (by decide)
  have hc1:c'<2147483647:=by rw[<- hcc];exact Int.emod_lt_of_pos _ (by decide)
  generalize hO:O.set k (.lst [.int a,.int c'])=O'
  have hk':O'[k]? =some (.lst [.int a,.int c']):=by rw[<- hO];exact cS hk
  have h1':ixD O' (.ptr k) (.int 1)=.ok (.int c'):=m4 hk' rfl
  refine⟨c'*(c'/65536+7)%2147483629/32%m,a,c', ?_,Int.emod_nonneg _ (by omega),Int.emod_lt_of_pos _ hm⟩
  rw[hO]
  refine cz (s:=⟨[some (.ptr k),some (.int m),none],O'⟩) ?_
  have e2:gw (aj gg (aj bK (aj bJ (aj ixD (aa 0) (ao (.int 1))) (ao (.int 48271))) (ao (.int 4099))) (ao (.int 2147483647))) (i4 (aa 0) (ao (.int 1))) ⟨[some (.ptr k),some (.int m),none],O⟩=.next ⟨[some (.ptr k),some (.int m),none],O'⟩:=by
   rw[mL,show aj gg (aj bK (aj bJ (aj ixD (aa 0) (ao (.int 1))) (ao (.int 48271))) (ao (.int 4099))) (ao (.int 2147483647)) ⟨[some (.ptr k),some (.int m),none],O⟩=.ok (.int c',⟨[some (.ptr k),some (.int m),none],O⟩) by
    rw[<- hcc]
    simp[h1,bU (eh (i:=c) (j:=48271) (.inr (by decide))),gz],ak]
   rw[jS (k:=k) (a:=1) (ds:=[.int a,.int c]) (ag rfl) rfl hk (by simp),<- hO]
   rfl
  show bc ⟨[some (.ptr k),some (.int m),none],O⟩=_
  rw[bc]
  refine Eq.trans (fq (s':=⟨[some (.ptr k),some (.int m),none],O⟩) (Eq.trans (vt (s':=⟨[some (.ptr k),some (.int m),none],O⟩) (by simp[h0,h])) rfl)) ?_
  refine Eq.trans (fq e2) ?_
  refine bQ ?_
  have hmm:IntMulOk c' (c'/65536+7):=eh (.inl (by omega))
  simp[h1',qz,bU hmm,gz,gz hm]
theorem Bz{O:au}{k:Nat}{a c wide:Int}(hk:O[k]? =some (.lst [.int a,.int c]))(hw:0<wide)(hw2:wide<=1000000000):∃r a' c',dv [.ptr k,.int wide] O=.ok (.int r,O.set k (.lst [.int a',.int c']))/\Sz 31 r:=by
 obtain⟨w,a1,c1,e1,w0,w1⟩:=kY hk (m:=6) (by decide)
 have k1:(O.set k (.lst [.int a1,.int c1]))[k]? =some (.lst [.int a1,.int c1]):=cS hk
 have s1:=mM (i:=2) (m:=bo 2 aA (af (aa 0) (af (ao (.int 6)) aq))) (s:=⟨[some (.ptr k),some (.int wide),none],O⟩) (jE (n:=2) (ds:=[.ptr k,.int 6]) (s':=⟨[some (.ptr k),some (.int wide),none],O⟩) (by simp) rfl e1)
 generalize hO1:O.set k (.lst [.int a1,.int c1])=O1 at *
 have hset:∀x y:Int,O1.set k (.lst [.int x,.int y])=O.set k (.lst [.int x,.int y]):=λx y=>by rw[<- hO1,List.set_set]
 have head:∀T,dc=T->dv=runM 3 T:=λT h=>by rw[dv,h]
 by_cases h4:w=4
 ·refine⟨0,a1,c1, ?_,Sz.zero 31⟩
  rw[hO1]
  refine cz (s:=⟨[some (.ptr k),some (.int wide),some (.int w)],O1⟩) ?_
  show dc ⟨[some (.ptr k),some (.int wide),none],O⟩=_
  rw[dc,fq s1]
  exact lM (Eq.trans (vd (s':=⟨[some (.ptr k),some (.int wide),some (.int w)],O1⟩) (by simp[h4])) rfl)
 ·have f4:ifS (bh (aj eqD (aa 2) (ao (.int 4)))) (bN (ao (.int 0))) cG ⟨[some (.ptr k),some (.int wide),some (.int w)],O1⟩=.next ⟨[some (.ptr k),some (.int wide),some (.int w)],O1⟩:=Eq.trans (vt (s':=⟨[some (.ptr k),some (.int wide),some (.int w)],O1⟩) (by simp[h4])) rfl
  by_cases h5:w=5
  ·obtain⟨r2,a2,c2,e2,p2,q2⟩:=kY k1 (m:=1000) (by decide)
   have k2:(O1.set k (.lst [.int a2,.int c2]))[k]? =some (.lst [.int a2,.int c2]):=cS k1
   rw[hset] at e2 k2
   obtain⟨r3,a3,c3,e3,p3,q3⟩:=kY k2 (m:=1000000) (by decide)
   have k3:((O.set k (.lst [.int a2,.int c2])).set k (.lst [.int a3,.int c3]))[k]? =some (.lst [.int a3,.int c3]):=cS k2
   rw[List.set_set] at e3 k3
   obtain⟨r4,a4,c4,e4,p4,q4⟩:=kY k3 (m:=9) (by decide)
   rw[List.set_set] at e4
   refine⟨(r2*1000000+r3)%wide-r4,a4,c4, ?_, ?_⟩
   ·refine cz (s:=⟨[some (.ptr k),some (.int wide),some (.int w)],O.set k (.lst [.int a4,.int c4])⟩) ?_
    show dc ⟨[some (.ptr k),some (.int wide),none],O⟩=_
    rw[dc,fq s1]
    refine Eq.trans (fq f4) (lM (Eq.trans (vd (s':=⟨[some (.ptr k),some (.int wide),some (.int w)],O1⟩) (by simp[h5])) ?_))
    refine bQ ?_
    have t2:=jE (n:=2) (f:=aA) (ma:=af (aa 0) (af (ao (.int 1000)) aq)) (s:=⟨[some (.ptr k),some (.int wide),some (.int w)],O1⟩) (s':=⟨[some (.ptr k),some (.int wide),some (.int w)],O1⟩) (ds:=[.ptr k,.int 1000]) (by simp) rfl e2
    have t3:=jE (n:=2) (f:=aA) (ma:=af (aa 0) (af (aj gi (ao (.int 10)) (ao (.int 6))) aq)) (s:=⟨[some (.ptr k),some (.int wide),some (.int w)],O.set k (.lst [.int a2,.int c2])⟩) (s':=⟨[some (.ptr k),some (.int wide),some (.int w)],O.set k (.lst [.int a2,.int c2])⟩) (ds:=[.ptr k,.int 1000000]) (by simp[jT]) rfl e3
    have t4:=jE (n:=2) (f:=aA) (ma:=af (aa 0) (af (ao (.int 9)) aq)) (s:=⟨[some (.ptr k),some (.int wide),some (.int w)],O.set k (.lst [.int a3,.int c3])⟩) (s':=⟨[some (.ptr k),some (.int wide),some (.int w)],O.set k (.lst [.int a3,.int c3])⟩) (ds:=[.ptr k,.int 9]) (by simp) rfl e4
    have hmm:IntMulOk r2 1000000:=eh (.inr (by decide))
    have u1:aj bJ (bo 2 aA (af (aa 0) (af (ao (.int 1000)) aq))) (aj gi (ao (.int 10)) (ao (.int 6))) ⟨[some (.ptr k),some (.int wide),some (.int w)],O1⟩=.ok (.int (r2*1000000),⟨[some (.ptr k),some (.int wide),some (.int w)],O.set k (.lst [.int a2,.int c2])⟩):=by
     rw[jh,t2,ak]
     simp[jT,bU hmm]
    have u2:aj bK (aj bJ (bo 2 aA (af (aa 0) (af (ao (.int 1000)) aq))) (aj gi (ao (.int 10)) (ao (.int 6)))) (bo 2 aA (af (aa 0) (af (aj gi (ao (.int 10)) (ao (.int 6))) aq))) ⟨[some (.ptr k),some (.int wide),some (.int w)],O1⟩=.ok (.int (r2*1000000+r3),⟨[some (.ptr k),some (.int wide),some (.int w)],O.set k (.lst [.int a3,.int c3])⟩):=by
     rw[jh,u1,ak]
     dsimp only
     rw[t3,ak]
     rfl
    rw[jh,jh,u2,ak]
    dsimp only
    rw[ag (i:=1) rfl,ak]
    dsimp only
    rw[gz hw,ak,ak]
    dsimp only
    rw[t4,ak]
    rfl
   ·unfold Sz
    have g1:0<=(r2*1000000+r3)%wide:=Int.emod_nonneg _ (by omega)
    have g2:(r2*1000000+r3)%wide<wide:=Int.emod_lt_of_pos _ hw
    have:(2:Nat)^31=2147483648:=by decide
    omega
  ·have f5:ifS (bh (aj eqD (aa 2) (ao (.int 5)))) (bN (aj jU (aj gg (aj bK (aj bJ (bo 2 aA (af (aa 0) (af (ao (.int 1000)) aq))) (aj gi (ao (.int 10)) (ao (.int 6)))) (bo 2 aA (af (aa 0) (af (aj gi (ao (.int 10)) (ao (.int 6))) aq)))) (aa 1)) (bo 2 aA (af (aa 0) (af (ao (.int 9)) aq))))) cG ⟨[some (.ptr k),some (.int wide),some (.int w)],O1⟩=.next ⟨[some (.ptr k),some (.int wide),some (.int w)],O1⟩:=Eq.trans (vt (s':=⟨[some (.ptr k),some (.int wide),some (.int w)],O1⟩) (by simp[h5])) rfl
   obtain⟨r2,a2,c2,e2,p2,q2⟩:=kY k1 (m:=7) (by decide)
   rw[hset] at e2
   refine⟨r2-3,a2,c2, ?_, ?_⟩
   ·refine cz (s:=⟨[some (.ptr k),some (.int wide),some (.int w)],O.set k (.lst [.int a2,.int c2])⟩) ?_
    show dc ⟨[some (.ptr k),some (.int wide),none],O⟩=_
    rw[dc,fq s1]
    refine Eq.trans (fq f4) (Eq.trans (fq f5) (bQ ?_))
    have t2:=jE (n:=2) (f:=aA) (ma:=af (aa 0) (af (ao (.int 7)) aq)) (s:=⟨[some (.ptr k),some (.int wide),some (.int w)],O1⟩) (s':=⟨[some (.ptr k),some (.int wide),some (.int w)],O1⟩) (ds:=[.ptr k,.int 7]) (by simp) rfl e2
    rw[jh,t2,ak]
    rfl
   ·unfold Sz
    have:(2:Nat)^31=2147483648:=by decide
    omega
def dW(O:au)(j:Nat):Prop:=∃a c:Int,O[j]? =some (.lst [.int a,.int c])
theorem eY{O:au}{j:Nat}{m:Int}(h:dW O j)(hm:0<m):∃r O',aA [.ptr j,.int m] O=.ok (.int r,O')/\0<=r/\r<m/\dW O' j/\∀i,i≠j->O'[i]? =O[i]? :=by
 obtain⟨a,c,h⟩:=h
 obtain⟨r,a',c',e,h1,h2⟩:=kY h hm
 exact⟨r,_,e,h1,h2,⟨a',c',cS h⟩,λi hi=>df λz=>hi z.symm⟩
theorem zx{O:au}{j:Nat}{wide:Int}(h:dW O j)(hw:0<wide)(hw2:wide<=1000000000):∃r O',dv [.ptr j,.int wide] O=.ok (.int r,O')/\Sz 31 r/\dW O' j/\∀i,i≠j->O'[i]? =O[i]? :=by
 obtain⟨a,c,h⟩:=h
 obtain⟨r,a',c',e,h1⟩:=Bz h hw hw2
 exact⟨r,_,e,h1,⟨a',c',cS h⟩,λi hi=>df λz=>hi z.symm⟩
theorem Hi(A:List (List Int)){d:D}(h:cx d=true):aX [vII A,d]=true:=by
 rw[dY,dY,g9,kf,h]
 rfl
theorem yy(n:Nat):∀L:List (Nat×List Int),eT n (bW L)=bW (L.map λp=>(n+p.1,p.2))
 | []=>by simp[eT]
 | p::L=>by
  show eT n (.ptr p.1::bW L)=_
  unfold eT
  rw[yy n L,iu]
  rfl
theorem Fv{O S:au}{L:List (Nat×List Int)}(h:Sto O L):Sto (S++O.map (shC S.length)) (L.map λp=>(S.length+p.1,p.2)):=λq hq=>by
 obtain⟨p,hp,rfl⟩:=List.mem_map.mp hq
 dsimp only
 rw[List.getElem?_append_right (by omega),Nat.add_sub_cancel_left,List.getElem?_map,h p hp]
 simp
theorem EC{O S:au}{k:Nat}{L:List (Nat×List Int)}(h:O[k]? =some (.lst (bW L))):(S++O.map (shC S.length))[S.length+k]? =some (.lst (bW (L.map λp=>(S.length+p.1,p.2)))):=by
 rw[List.getElem?_append_right (by omega),Nat.add_sub_cancel_left,List.getElem?_map,h]
 simp only[Option.map_some,yR,yy]
theorem Cj{O:au}{j k:Nat}{many:Int}{ns:List Int}{x3 x4 x5:Option D}(hb:dW O j)(hk:O[k]? =some (.lst (ns.map D.int)))(hjk:k≠j)(hl:ns.length<=1000):
 ∃(r:Int) (O':au) (y4 y5:Option D),j0 ⟨[some (.ptr j),some (.int many),some (.ptr k),x3,x4,x5],O⟩=.next ⟨[some (.ptr j),some (.int many),some (.ptr k),x3,y4,y5],O'⟩/\dW O' j/\O'[k]? =some (.lst ((ns++[r]).map D.int))/\0<=r/\r<=1000000:=by
 obtain⟨w,O1,e1,w0,w1,b1,k1⟩:=eY hb (m:=8) (by decide)
 have h1:setM 4 (bo 2 aA (af (aa 0) (af (ao (.int 8)) aq))) ⟨[some (.ptr j),some (.int many),some (.ptr k),x3,x4,x5],O⟩=.next ⟨[some (.ptr j),some (.int many),some (.ptr k),x3,some (.int w),x5],O1⟩:=aZ (dQ (ar (ag rfl) (ar (aM _ _) (aC _))) e1 rfl) rfl
 have h2:setM 5 (ao (.int 0)) ⟨[some (.ptr j),some (.int many),some (.ptr k),x3,some (.int w),x5],O1⟩=.next ⟨[some (.ptr j),some (.int many),some (.ptr k),x3,some (.int w),some (.int 0)],O1⟩:=aZ (aM _ _) rfl
 have h3:∃r O2,ifS (bh (aj ltD (aa 4) (ao (.int 4)))) (setM 5 (aj bK (bo 2 aA (af (aa 0) (af (ao (.int 4)) aq))) (ao (.int 1)))) cG ⟨[some (.ptr j),some (.int many),some (.ptr k),x3,some (.int w),some (.int 0)],O1⟩=.next ⟨[some (.ptr j),some (.int many),some (.ptr k),x3,some (.int w),some (.int r)],O2⟩/\dW O2 j/\O2[k]? =O1[k]? /\0<=r/\r<=1000000:=by
  have t:bh (aj ltD (aa 4) (ao (.int 4))) ⟨[some (.ptr j),some (.int many),some (.ptr k),x3,some (.int w),some (.int 0)],O1⟩=.ok (decide (w<4),⟨[some (.ptr j),some (.int many),some (.ptr k),x3,some (.int w),some (.int 0)],O1⟩):=dD (aL (ag rfl) (aM _ _) (jD _ _))
  by_cases h:w<4
  ·obtain⟨v,O2,e2,v0,v1,b2,k2⟩:=eY b1 (m:=4) (by decide)
   exact⟨v+1,O2,iO t (decide_eq_true h) (aZ (aL (dQ (ar (ag rfl) (ar (aM _ _) (aC _))) e2 rfl) (aM _ _) (i6 _ _)) rfl),b2,k2 k hjk,by omega,by omega⟩
  ·exact⟨0,O1,du t (decide_eq_false h) (bP _),b1,rfl,by decide,by decide⟩
 obtain⟨r,O2,h3,b2,k2,r0,r1⟩:=h3
 have h4:∃r' O3,ifS (bh (aj eqD (aa 4) (ao (.int 7)))) (setM 5 (bo 2 aA (af (aa 0) (af (aj gi (ao (.int 10)) (ao (.int 6))) aq)))) cG ⟨[some (.ptr j),some (.int many),some (.ptr k),x3,some (.int w),some (.int r)],O2⟩=.next ⟨[some (.ptr j),some (.int many),some (.ptr k),x3,some (.int w),some (.int r')],O3⟩/\dW O3 j/\O3[k]? =O2[k]? /\0<=r'/\r'<=1000000:=by
  have t:bh (aj eqD (aa 4) (ao (.int 7))) ⟨[some (.ptr j),some (.int many),some (.ptr k),x3,some (.int w),some (.int r)],O2⟩=.ok (decide (w=7),⟨[some (.ptr j),some (.int many),some (.ptr k),x3,some (.int w),some (.int r)],O2⟩):=eq_test (ag rfl)
  by_cases h:w=7
  ·obtain⟨v,O3,e3,v0,v1,b3,k3⟩:=eY b2 (m:=1000000) (by decide)
   exact⟨v,O3,iO t (decide_eq_true h) (aZ (dQ (ar (ag rfl) (ar (aL (aM _ _) (aM _ _) (show gi O2 (.int 10) (.int 6)=.ok (.int 1000000) from jT (by decide) (by decide) (by decide))) (aC _))) e3 rfl) rfl),b3,k3 k hjk,by omega,by omega⟩
  ·exact⟨r,O2,du t (decide_eq_false h) (bP _),b2,rfl,r0,r1⟩
 obtain⟨r',O3,h4,b3,k3,p0,p1⟩:=h4
 have g3:O3[k]? =some (.lst (ns.map D.int)):=by rw[k3,k2,k1 k hjk];exact hk
 refine⟨r',O3.set k (.lst (ns.map D.int++[.int r'])),some (.int w),some (.int r'), ?_, ?_,by rw[cS g3,List.map_append];rfl,p0,p1⟩
 ·rw[j0]
  exact aP h1 (aP h2 (aP h3 (aP h4 (lO (vm (ag rfl) g3 (ag rfl) g3 (by rw[List.length_map];omega) rfl)))))
 ·obtain⟨a,c,h⟩:=b3
  exact⟨a,c,by rw[df hjk];exact h⟩
theorem Gp{O:au}{j many:Nat}(hb:dW O j)(h1:1<=many)(h7:many<=1000):∃(ns:List Int) (O':au),je [.ptr j,.int (many:Int)] O=.ok (vI (1::ns),O')/\ns.length+1=many/\(∀a∈ns,0<=a/\a<=1000000)/\dW O' j:=by
 have jl:O.length≠j:=by
  obtain⟨a,c,h⟩:=hb
  have:=kq h
  omega
 obtain⟨s',el,ns,O1,x3,x4,x5,hl,hs',b1,g1,hn⟩:=kb (ok:=okC (dn 0 ((many-1:Nat):Int)) none) (g:=aH 3) (body:=j0)
  (λpre s=>∃(ns:List Int) (O1:au) (x3 x4 x5:Option D),pre.length=ns.length/\s=⟨[some (.ptr j),some (.int (many:Int)),some (.ptr O.length),x3,x4,x5],O1⟩/\dW O1 j/\O1[O.length]? =some (.lst ((1::ns).map D.int))/\∀a∈ns,0<=a/\a<=1000000) (λ_ _ _=>trivial) (dn 0 ((many-1:Nat):Int)) [] (by
   rintro pre d rest ed s ⟨ns,O1,x3,x4,x5,hl,rfl,b1,g1,hn⟩
   have pl:pre.length+rest.length+1=many-1:=by
    have:=congrArg List.length ed
    rw[List.nil_append,fm,List.length_append,List.length_cons] at this
    omega
   obtain⟨r,O2,y4,y5,e2,b2,g2,r0,r1⟩:=Cj (many:=(many:Int)) (x3:=some d) (x4:=x4) (x5:=x5) b1 g1 jl (by rw[List.length_cons];omega)
   refine⟨⟨[some (.ptr j),some (.int (many:Int)),some (.ptr O.length),some d,x4,x5],O1⟩,_,rfl,.inl e2,ns++[r],O2,_,_,_,by simp[hl],rfl,b2,g2,λa ha=> ?_⟩
   rcases List.mem_append.mp ha with q | q
   ·exact hn a q
   ·rw[List.mem_singleton.mp q];exact⟨r0,r1⟩) ⟨[some (.ptr j),some (.int (many:Int)),some (.ptr O.length),none,none,none],O++[.lst [.int 1]]⟩ ⟨[],_,none,none,none,rfl,rfl,by
    obtain⟨a,c,h⟩:=hb
    exact⟨a,c,dH h⟩,by simp,by simp⟩
 rw[List.nil_append,fm] at hl
 subst hs'
 refine⟨ns,O1.set O.length .dead, ?_,by omega,hn, ?_⟩
 ·refine fR (R:=[some (.ptr j),some (.int (many:Int)),some (.ptr O.length),x3,x4,x5]) ?_
  show kc ⟨[some (.ptr j),some (.int (many:Int)),none,none,none,none],O⟩=_
  rw[kc]
  refine aP (aZ (xa (ar (aM _ _) (aC _)) (by simp) rfl rfl) rfl) (aP ?_ (bQ (kM (ag rfl) g1 rfl)))
  refine(gb (im:=lH (af (aj jU (aa 1) (ao (.int 1))) aq)) (ds:=dn 0 ((many-1:Nat):Int)) (k:=none) (s1:=⟨[some (.ptr j),some (.int (many:Int)),some (.ptr O.length),none,none,none],O++[.lst [.int 1]]⟩) (nD (n:=many-1) (ar (aL (ag rfl) (aM _ _) ?_) (aC _)) (by omega))).trans el
  rw[rN]
  congr 2
  omega
 ·obtain⟨a,c,h⟩:=b1
  exact⟨a,c,by rw[df jl];exact h⟩
theorem BB {caps:List Nat} {im:IM} {e:EM} {s:S} {ds:List D} {k:Option Nat} (PO:au->Prop) (Q:Int->Prop) (him:im s=.ok ((ds,k),s)) (hok:∀O,PO O->okC ds k O) (h0:PO s.o) (hl:ds.length<=1000000)
 (he:∀d∈ds,∀O,PO O->∃r O',e ⟨some d::caps.map (λi=>(s.r[i]?).getD none),O⟩=.ok (.int r,⟨some d::caps.map (λi=>(s.r[i]?).getD none),O'⟩)/\Q r/\PO O'):
 ∃(ns:List Int) (O':au),jy 1 caps im (aH 0) bZ e s=.ok (.ptr O'.length,⟨s.r,O'++[.lst (ns.map D.int)]⟩)/\ns.length=ds.length/\(∀n∈ns,Q n)/\PO O':=by
 obtain⟨outs,s',e1,h1,h2,x,O',h3,h4⟩:=oz (ok:=okC ds k) (g:=aH 0) (c:=bZ) (e:=e) (λs2=>∃x O',s2=⟨x::caps.map (λi=>(s.r[i]?).getD none),O'⟩/\PO O') (λy=>∃r,y=.int r/\Q r) (by rintro _ ⟨_,O',rfl,h⟩;exact hok O' h) ds [] ⟨jo 1 caps s.r,s.o⟩ (by
  rintro d hd _ ⟨x,O',rfl,h⟩
  obtain⟨r,O2,q1,q2,q3⟩:=he d hd O' h
  exact⟨_,_,.int r,_,rfl,rfl,q1,⟨r,rfl,q2⟩,_,O2,rfl,q3⟩) (by simpa using pO hl) ⟨none,s.o,rfl,h0⟩
 obtain⟨ns,rfl,hn⟩:=tQ h2
 refine⟨ns,O', ?_,by simpa using h1,hn,h4⟩
 rw[qN,lE,him,ak]
 dsimp only
 rw[e1,ak,ak]
 subst h3
 rfl
theorem Br(n:Nat)(f:Nat->Int):((List.range n).map f).sum=cH n f:=by
 induction n with
 | zero=>rfl
 | succ n ih=>rw[List.range_succ,List.map_append,List.sum_append,ih];simp[cH]
theorem Cz(os fs:List Int):((List.range fs.length).map λk=>nth os k*nth fs k).sum=ax os fs:=by
 rw[Br,rM]
theorem Ah(a b:Int)(x y:List Int):ax (a::x) (b::y)=a*b+ax x y:=by
 unfold ax
 rw[List.zipWith_cons_cons,List.sum_cons]
theorem Ip{b:Nat}{x:Int}(h:Sz b x):Sz (b+2) (3*x):=by
 unfold Sz at *
 rw[Nat.pow_add]
 omega
abbrev fb(cs fs:List Int)(cnt wide:Int)(at_:Nat)(x6 x7:Option D):List (Option D):=[some (vI cs),some (vI (1::fs)),some (.int cnt),some (.int wide),some (.ptr 0),some (.int (at_:Int)),x6,x7]
theorem Gr(n:Nat):dn 1 ((n+1:Nat):Int)=(List.range n).map λk:Nat=>D.int ((k+1:Nat):Int):=by
 unfold dn
 rw[show (((n+1:Nat):Int)-1).toNat=n by omega]
 refine List.map_congr_left λk _=> ?_
 congr 1
 omega
theorem BU{m:AM}{s s1:S}{n:Nat}(h:m s=.ok ([.int 1,.int (n:Int)],s1))(hn:n<=1000000):tI m s=.ok ((dn 1 (n:Int),none),s1):=by
 unfold tI
 rw[h,ak]
 dsimp only
 rw[if_pos (by omega)]
theorem xN {cs fs:List Int} (hcs:0<cs.length) {at_:Nat} {cnt wide:Int} {made:List (List Int)} {O:au} {x6 x7:Option D} (hO:O[0]? =some (.lst (made.map vI))) (hf:fs.length<=100) (hfs:SzL 20 fs) (hc:made.length<=100) (hw:0<wide) (hw2:wide<=1000000000)
 (hl:∀r∈made,r.length=fs.length+1) (hs:fe (31+33*made.length) made):
 ∃r O' y6 y7,ib ⟨fb cs fs cnt wide at_ x6 x7,O⟩=.next ⟨fb cs fs cnt wide at_ y6 y7,O'⟩/\O'[0]? =some (.lst ((made++[r]).map vI))/\r.length=fs.length+1/\SzL (31+33*made.length+33) r/\ax r (1::fs)=0:=by
 have hi:((at_:Int)%(cs.length:Int))=((at_%cs.length:Nat):Int):=by simp
 have hlt:at_%cs.length<cs.length:=Nat.mod_lt _ hcs
 have hO0:0<O.length:=kq hO
 obtain⟨a0,c0,eb⟩:=Ba (nth cs (at_%cs.length)+500009*((at_:Int)/(cs.length:Int)))
 have hmm:IntMulOk 500009 ((at_:Int)/(cs.length:Int)):=eh (.inl (by decide))
 have hp:(0:Int)<(cs.length:Int):=by omega
 have len0:bV ee (af (aa 0) aq) ⟨fb cs fs cnt wide at_ x6 x7,O⟩=.ok (.int (cs.length:Int),⟨fb cs fs cnt wide at_ x6 x7,O⟩):=by
  refine eG (ar (ag rfl) (aC _)) ?_
  rw[iT,List.length_map]
 have e6:setM 6 (eZ 1 eL (af (aj bK (aj ixD (aa 0) (aj gg (aa 5) (bV ee (af (aa 0) aq)))) (aj bJ (ao (.int 500009)) (aj fS (aa 5) (bV ee (af (aa 0) aq))))) aq)) ⟨fb cs fs cnt wide at_ x6 x7,O⟩=.next ⟨fb cs fs cnt wide at_ (some (.ptr O.length)) x7,O++[.lst [.int a0,.int c0]]⟩:=by
  refine aZ (jV (ar (aL (aL (ag rfl) (aL (ag rfl) len0 (d:=.int ((at_%cs.length:Nat):Int)) ?_) (kL hlt)) (aL (aM _ _) (aL (ag rfl) len0 (d:=.int ((at_:Int)/(cs.length:Int))) ?_) (bU hmm)) (i6 _ _)) (aC _)) eb (by simp) rfl (iu _ _) ?_) rfl
  ·rw[gz hp,hi]
  ·rw[ja (show (cs.length:Int)≠0 by omega),nB hp]
  ·simp[shC,eT,shD]
 have b1:dW (O++[.lst [.int a0,.int c0]]) O.length:=⟨a0,c0,jj⟩
 have g1:(O++[Cell.lst [.int a0,.int c0]])[0]? =some (.lst (made.map vI)):=dH hO
 generalize hj:O.length=j at *
 generalize O++[Cell.lst [.int a0,.int c0]]=O1 at *
 have hne:(0:Nat)≠j:=by omega
 obtain⟨one,O2,e7,l7,s7,b2,g2⟩:=BB (caps:=[6,3]) (im:=listI (aa 1)) (e:=bo 2 dv (af (aa 1) (af (aa 2) aq))) (s:=⟨fb cs fs cnt wide at_ (some (.ptr j)) x7,O1⟩) (ds:=(1::fs).map D.int) (k:=none)
  (λO'=>dW O' j/\O'[0]? =some (.lst (made.map vI))) (Sz 31) (by rw[cD,ag (i:=1) rfl,ak];rfl) (λ_ _=>trivial) ⟨b1,g1⟩ (by simp;omega) (λd _ O' ⟨hb,hg⟩=>by
   obtain⟨r,O2,en,q1,q2,q3⟩:=zx hb hw hw2
   exact⟨r,O2,dQ (ar (ag rfl) (ar (ag rfl) (aC _))) en rfl,q1,q2,by rw[q3 0 hne];exact hg⟩)
 have l7:one.length=fs.length+1:=by simpa using l7
 have e7:=aZ (i:=7) e7 rfl
 dsimp only at e7
 have jl:j<O2.length:=by
  obtain⟨a,c,h⟩:=b2
  exact kq h
 have b2':dW (O2++[.lst (one.map D.int)]) j:=by
  obtain⟨a,c,h⟩:=b2
  exact⟨a,c,dH h⟩
 have g2':(O2++[Cell.lst (one.map D.int)])[0]? =some (.lst (made.map vI)):=dH g2
 have c2':(O2++[Cell.lst (one.map D.int)])[O2.length]? =some (.lst (one.map D.int)):=jj
 generalize hk:O2.length=k at *
 generalize O2++[Cell.lst (one.map D.int)]=O2' at *
 obtain⟨w,O3,e8,w0,w1,b3,k3⟩:=eY b2' (m:=7) (by decide)
 have g3:O3[0]? =some (.lst (made.map vI)):=by rw[k3 0 hne];exact g2'
 have c3:O3[k]? =some (.lst (one.map D.int)):=by rw[k3 k (by omega)];exact c2'
 have d8:bh (aj eqD (bo 2 aA (af (aa 6) (af (ao (.int 7)) aq))) (ao (.int 6))) ⟨fb cs fs cnt wide at_ (some (.ptr j)) (some (.ptr k)),O2'⟩=.ok (decide (w=6),⟨fb cs fs cnt wide at_ (some (.ptr j)) (some (.ptr k)),O3⟩):=eq_test (dQ (ar (ag rfl) (ar (aM _ _) (aC _))) e8 rfl)
 have d9:bh (aj gtD (bV ee (af (aa 4) aq)) (ao (.int 0))) ⟨fb cs fs cnt wide at_ (some (.ptr j)) (some (.ptr k)),O3⟩=.ok (decide (0<((made.map vI).length:Int)),⟨fb cs fs cnt wide at_ (some (.ptr j)) (some (.ptr k)),O3⟩):=pC (eG (ar (ag rfl) (aC _)) (CT g3))
 have st:∃two O4 k',ifS (qQ (bh (aj eqD (bo 2 aA (af (aa 6) (af (ao (.int 7)) aq))) (ao (.int 6)))) (bh (aj gtD (bV ee (af (aa 4) aq)) (ao (.int 0))))) (setM 7 (jy 1 [] (listI (aj ixD (aa 4) (unM lu (ao (.int 1))))) (aH 0) bZ (aj bJ (ao (.int 3)) (aa 0)))) cG ⟨fb cs fs cnt wide at_ (some (.ptr j)) (some (.ptr k)),O2'⟩=.next ⟨fb cs fs cnt wide at_ (some (.ptr j)) (some (.ptr k')),O4⟩/\O4[0]? =some (.lst (made.map vI))/\O4[k']? =some (.lst (two.map D.int))/\0≠k'/\two.length=fs.length+1/\SzL (31+33*made.length+2) two:=by
  have keep:SzL (31+33*made.length+2) one:=λx hx=>(s7 x hx).mono (by omega)
  by_cases h6:w=6
  ·by_cases hm:0<((made.map vI).length:Int)
   ·have hm':0<made.length:=by rw[List.length_map] at hm;omega
    have a1:atI (made.map vI) (-1)=some (vI (made[made.length-1])):=by
     have:=E5 (l:=made.map vI) (i:=1) (by decide) (by simp;omega)
     rw[show (-((1:Nat):Int))= -1 by rfl] at this
     rw[this];simp
    have m1:made[made.length-1]∈made:=List.getElem_mem _
    generalize made[made.length-1]=p1 at a1 m1
    have q7:=Aq (l:=p1) (item:=D.int) (out:=λx=>.int (3*x)) (caps:=[]) (im:=listI (aj ixD (aa 4) (unM lu (ao (.int 1))))) (e:=aj bJ (ao (.int 3)) (aa 0)) (k:=none) (s:=⟨fb cs fs cnt wide at_ (some (.ptr j)) (some (.ptr k)),O3⟩) (by
     rw[cD,aL (s2:=⟨fb cs fs cnt wide at_ (some (.ptr j)) (some (.ptr k)),O3⟩) (ag (i:=4) rfl) (vM (aM _ _) (rD _)) (m4 g3 a1),ak];rfl) trivial (by have:=hl p1 m1;omega) (λx _=>aL (aM _ _) (ag rfl) (bU (eh (.inl (by decide)))))
    rw[show p1.map (λx=>D.int (3*x))=(p1.map (3 * ·)).map D.int by rw[List.map_map];rfl] at q7
    refine⟨p1.map (3 * ·),_,_,iO (sJ d8 (decide_eq_true h6) d9) (decide_eq_true hm) (aZ q7 rfl),dH g3,jj, ?_,by rw[List.length_map];exact hl p1 m1,λx hx=> ?_⟩
    ·have:=kq g3
     show 0≠O3.length
     omega
    ·obtain⟨y,hy,rfl⟩:=List.mem_map.mp hx
     exact Ip (hs p1 m1 y hy)
   ·exact⟨one,O3,k,du (sJ d8 (decide_eq_true h6) d9) (decide_eq_false hm) (bP _),g3,c3,by omega,l7,keep⟩
  ·exact⟨one,O3,k,du (Ab d8 (decide_eq_false h6)) rfl (bP _),g3,c3,by omega,l7,keep⟩
 obtain⟨two,O4,k',e9,g4,c4,n4,l4,s4⟩:=st
 cases two with
 | nil=>exact absurd l4 (by simp)
 | cons o os=>
  have lo:os.length=fs.length:=by simpa using l4
  have so:SzL (31+33*made.length+2) os:=λx hx=>s4 x (List.mem_cons_of_mem _ hx)
  have hsum:=iK (l:=List.range fs.length) (item:=λk:Nat=>D.int ((k+1:Nat):Int)) (out:=λk=>.int (nth os k*nth fs k)) (caps:=[1,7]) (im:=tI (af (ao (.int 1)) (af (bV ee (af (aa 1) aq)) aq))) (e:=aj bJ (aj ixD (aa 2) (aa 0)) (aj ixD (aa 1) (aa 0))) (k:=none) (s:=⟨fb cs fs cnt wide at_ (some (.ptr j)) (some (.ptr k')),O4⟩) (by
   rw[BU (n:=fs.length+1) (s1:=⟨fb cs fs cnt wide at_ (some (.ptr j)) (some (.ptr k')),O4⟩) (ar (aM _ _) (ar (eG (ar (ag rfl) (aC _)) (by rw[iT,List.length_map];rfl)) (aC _))) (by omega),Gr]) trivial (by rw[List.length_range];omega) (λi hi=>by
    have hi':=List.mem_range.mp hi
    refine aL (aL (ag rfl) (ag rfl) (d:=.int (nth os i)) (m4 c4 ?_)) (aL (ag rfl) (ag rfl) (d:=.int (nth fs i)) (kL (r:=1::fs) (i:=i+1) (by simp;omega))) (bU (gK (m:=31+33*made.length+2) (n:=20) (by omega) (by decide) (so _ (cU (by omega))) (hfs _ (cU hi'))))
    rw[qZ (by simp;omega)]
    simp[nth,List.getD_eq_getElem?_getD,lo,hi'])
  rw[show (List.range fs.length).map (λk=>D.int (nth os k*nth fs k))=((List.range fs.length).map λk=>nth os k*nth fs k).map D.int by rw[List.map_map];rfl] at hsum
  have eput:gw (unM lu (bV tS (af (cM 1 [1,7] (tI (af (ao (.int 1)) (af (bV ee (af (aa 1) aq)) aq))) (aH 0) bZ (aj bJ (aj ixD (aa 2) (aa 0)) (aj ixD (aa 1) (aa 0)))) aq))) (i4 (aa 7) (ao (.int 0))) ⟨fb cs fs cnt wide at_ (some (.ptr j)) (some (.ptr k')),O4⟩=.next ⟨fb cs fs cnt wide at_ (some (.ptr j)) (some (.ptr k')),O4.set k' (.lst ((-(ax os fs)::os).map D.int))⟩:=by
   rw[mL,vM (eG (ar hsum (aC _)) (pj _ _)) (rD _),ak]
   dsimp only
   rw[jS (k:=k') (a:=0) (ds:=(o::os).map D.int) (s1:=⟨fb cs fs cnt wide at_ (some (.ptr j)) (some (.ptr k')),O4⟩) (s2:=⟨fb cs fs cnt wide at_ (some (.ptr j)) (some (.ptr k')),O4⟩) (ag (i:=7) rfl) rfl c4 (by simp),Cz]
   rfl
  have c5:(O4.set k' (Cell.lst ((-(ax os fs)::os).map D.int)))[k']? =some (.lst ((-(ax os fs)::os).map D.int)):=cS c4
  have g5:(O4.set k' (Cell.lst ((-(ax os fs)::os).map D.int)))[0]? =some (.lst (made.map vI)):=by rw[df (λz=>n4 z.symm)];exact g4
  generalize O4.set k' (Cell.lst ((-(ax os fs)::os).map D.int))=O5 at *
  have g6:(O5.set k' Cell.dead)[0]? =some (.lst (made.map vI)):=by rw[df (λz=>n4 z.symm)];exact g5
  refine⟨-(ax os fs)::os,(O5.set k' .dead).set 0 (.lst (made.map vI++[vI (-(ax os fs)::os)])),some (.ptr j),some (.ptr k'), ?_,by rw[cS g6,List.map_append];rfl,by simp[lo],λx hx=> ?_, ?_⟩
  ·rw[ib]
   exact aP e6 (aP e7 (aP e9 (aP eput (lO (vm (ag rfl) g5 (kM (ag rfl) c5 rfl) g6 (by rw[List.length_map];omega) rfl)))))
  ·rcases List.mem_cons.mp hx with rfl | hx
   ·exact((px so hfs (by omega)).neg).mono (by omega)
   ·exact(so x hx).mono (by omega)
  ·rw[Ah];omega
theorem AU{cs fs:List Int}(hcs:0<cs.length){cnt:Nat}{wide:Int}(hf:fs.length<=100)(hfs:SzL 20 fs)(hc:cnt<=5)(hw:0<wide)(hw2:wide<=1000000000):
 ∃made O,gj [vI cs,vI (1::fs),.int (cnt:Int),.int wide] []=.ok (vII made,O)/\made.length=cnt/\(∀r∈made,r.length=fs.length+1)/\fe 200 made/\∀r∈made,ax r (1::fs)=0:=by
 obtain⟨s',el,made,O,x5,x6,x7,hpl,hs',h2,h3,h4,h5⟩:=kb (ok:=okC (dn 0 (cnt:Int)) none) (g:=aH 5) (body:=ib)
  (λpre s=>∃(made:List (List Int)) (O:au) (x5 x6 x7:Option D),made.length=pre.length/\s=⟨[some (vI cs),some (vI (1::fs)),some (.int (cnt:Int)),some (.int wide),some (.ptr 0),x5,x6,x7],O⟩/\O[0]? =some (.lst (made.map vI))/\(∀r∈made,r.length=fs.length+1)/\fe (31+33*made.length) made/\∀r∈made,ax r (1::fs)=0) (λ_ _ _=>trivial) (dn 0 (cnt:Int)) [] (by
   rintro pre d rest ed s ⟨made,O,x5,x6,x7,hl,rfl,h2,h3,h4,h5⟩
   have hd:d∈dn 0 (cnt:Int):=by rw[List.nil_append] at ed;rw[ed];simp
   rw[p7] at hd
   obtain⟨i,_,rfl⟩:=List.mem_map.mp hd
   have pl:pre.length+rest.length+1=cnt:=by
    have:=congrArg List.length ed
    rw[List.nil_append,fm,List.length_append,List.length_cons] at this
    omega
   obtain⟨r,O',y6,y7,eb,q1,q2,q3,q4⟩:=xN (at_:=i) (cnt:=(cnt:Int)) (x6:=x6) (x7:=x7) hcs h2 hf hfs (by omega) hw hw2 h3 h4
   refine⟨⟨fb cs fs cnt wide i x6 x7,O⟩,_,rfl,.inl eb,made++[r],O',_,y6,y7,by simp[hl],rfl,q1,λq hq=> ?_,λq hq=> ?_,λq hq=> ?_⟩
   ·rcases List.mem_append.mp hq with z | z
    ·exact h3 q z
    ·rw[List.mem_singleton.mp z];exact q2
   ·rcases List.mem_append.mp hq with z | z
    ·exact(h4 q z).mono (by rw[List.length_append];omega)
    ·rw[List.mem_singleton.mp z];exact q3.mono (by rw[List.length_append,List.length_singleton];omega)
   ·rcases List.mem_append.mp hq with z | z
    ·exact h5 q z
    ·rw[List.mem_singleton.mp z];exact q4) ⟨[some (vI cs),some (vI (1::fs)),some (.int (cnt:Int)),some (.int wide),some (.ptr 0),none,none,none],[.lst []]⟩ ⟨[],_,none,none,none,rfl,rfl,rfl,by simp,(λ_ h=>by cases h),by simp⟩
 rw[List.nil_append,fm] at hpl
 subst hs'
 refine⟨made,O.set 0 .dead, ?_,by omega,h3,λq hq=>(h4 q hq).mono (by omega),h5⟩
 refine fR (R:=[some (vI cs),some (vI (1::fs)),some (.int (cnt:Int)),some (.int wide),some (.ptr 0),x5,x6,x7]) ?_
 show hJ ⟨[some (vI cs),some (vI (1::fs)),some (.int (cnt:Int)),some (.int wide),none,none,none,none],[]⟩=_
 rw[hJ]
 refine aP (aZ (xa (aC _) (by simp) rfl rfl) rfl) (aP ?_ (bQ (kM (ag rfl) h2 rfl)))
 exact(gb (im:=lH (af (aa 2) aq)) (ds:=dn 0 (cnt:Int)) (k:=none) (s1:=⟨[some (vI cs),some (vI (1::fs)),some (.int (cnt:Int)),some (.int wide),some (.ptr 0),none,none,none],[.lst []]⟩) (nD (n:=cnt) (ar (ag rfl) (aC _)) (by omega))).trans el
def cV(t:Nat)(r:List Int):List Int:=r.drop t++r.take t
theorem Ac{rows:List (List Int)}{t n:Nat}(hl:∀r∈rows,r.length=n)(ht:t<=n)(hn:n<=1000)(hc:rows.length<=1000):fX [vII rows,.int (t:Int)] []=.ok (vII (rows.map (cV t)),[]):=by
 have hcp:=iK (l:=rows) (item:=vI) (out:=λr=>vI (cV t r)) (caps:=[1]) (im:=listI (aa 0)) (e:=aj bK (slM (aa 0) (part (aa 1)) dw) (slM (aa 0) dw (part (aa 1)))) (k:=none) (s:=⟨[some (vII rows),some (.int (t:Int))],[]⟩) (by rw[cD,ag (i:=0) rfl,ak];rfl) trivial (by omega) (λr hr=>by
  have rl:=hl r hr
  refine aL (oN (ag rfl) (jx (ag rfl)) (iZ _) fo (oU (by omega))) (oN (ag rfl) (iZ _) (jx (ag rfl)) fo lS) ?_
  rw[i9 (by simp;omega),<- List.map_append]
  rfl)
 rw[show rows.map (λr=>vI (cV t r))=(rows.map (cV t)).map vI by rw[List.map_map];rfl] at hcp
 refine fR (R:=[some (vII rows),some (.int (t:Int))]) ?_
 show gZ ⟨[some (vII rows),some (.int (t:Int))],[]⟩=_
 rw[gZ]
 exact bQ hcp
theorem xi{t:Nat}{r:List Int}(h:t<=r.length):(cV t r).length=r.length:=by
 unfold cV
 rw[List.length_append,List.length_drop,List.length_take]
 omega
theorem nv{t:Nat}{r:List Int}{x:Int}:x∈cV t r↔x∈r:=by
 unfold cV
 rw[List.mem_append,or_comm,<- List.mem_append,List.take_append_drop]
theorem wW{a b c d:List Int}(h:a.length=c.length):ax (a++b) (c++d)=ax a c+ax b d:=by
 unfold ax
 rw[List.zipWith_append h,List.sum_append]
theorem Cd{t:Nat}{r x:List Int}(h:r.length=x.length):ax (cV t r) (cV t x)=ax r x:=by
 unfold cV
 have e:ax r x=ax (r.take t++r.drop t) (x.take t++x.drop t):=by rw[List.take_append_drop,List.take_append_drop]
 rw[e,wW (by rw[List.length_drop,List.length_drop,h]),wW (by rw[List.length_take,List.length_take,h])]
 omega
theorem C7{t n:Nat}{rows:List (List Int)}{fs:List Int}(hf:fs.length+1=n)(h0:∀a∈fs,0<=a)(hl:∀r∈rows,r.length=n)(hd:∀r∈rows,ax r (1::fs)=0)(ht:t<=n):Fit n (rows.map (cV t)) (cV t (1::fs)):=by
 have len:(cV t (1::fs)).length=n:=by rw[xi (by simp;omega)];simpa using hf
 refine⟨len,λi=> ?_,λq hq=> ?_, ?_⟩
 ·by_cases hi:i<(cV t (1::fs)).length
  ·have:=nv.mp (cU hi)
   rcases List.mem_cons.mp this with h | h
   ·rw[h];decide
   ·exact h0 _ h
  ·rw[cJ (by omega)];decide
 ·obtain⟨r,hr,rfl⟩:=List.mem_map.mp hq
  rw[<- ko len,Cd (by rw[hl r hr];simp;omega),hd r hr]
 ·have:(1:Int)∈cV t (1::fs):=nv.mpr List.mem_cons_self
  obtain⟨i,hi,e⟩:=List.getElem_of_mem this
  refine⟨i, ?_⟩
  unfold nth
  rw[List.getD_eq_getElem?_getD,List.getElem?_eq_getElem hi,e]
  decide
theorem zd(V:List (List Int)):(sE V).Perm V:=by
 unfold sE
 have:=(fH (V.map λx=>((),x))).map (·.2)
 rw[List.map_map,show ((λx:Unit×List Int=>x.2)∘λx=>((),x))=id from rfl,List.map_id] at this
 exact this
theorem zN(i:Int):fB [.int i] []=.ok (.bl true,[]):=by
 refine cz (s:=⟨[some (.int i)],[]⟩) ?_
 simp[jn]
theorem CN{a b:Int}(hb:0<b):jN [.int a,.int b] []=.ok (.tup [.int (rat a b).1,.int (rat a b).2],[]):=by
 have hg:0<Int.gcd a b:=Int.gcd_pos_of_ne_zero_right a (by omega)
 have nb:¬b<0:=by omega
 have c1:∀(i:Nat) (x:Int) {R:List (Option D)},R[i]? =some (some (.int x))->bI 1 fB (af (aa i) aq) ⟨R,[]⟩=.ok (.bl true,⟨R,[]⟩):=λi x R hR=>eP (ar (ag hR) (aC _)) (zN x) (by simp) rfl rfl
 refine fR (R:=[some (.int a),some (.int b),some (.int (Int.gcd a b:Nat))]) ?_
 show mQ ⟨[some (.int a),some (.int b),none],[]⟩=_
 rw[mQ]
 refine aP (du (Dm (tj (dD (c1 0 a rfl))) rfl (tj (dD (c1 1 b rfl)))) rfl (bP _)) (aP (du (eq_test (ag rfl)) (decide_eq_false (by omega)) (bP _)) (aP (aZ (eP (ar (ag rfl) (ar (ag rfl) (aC _))) (mot a b) (by simp) rfl rfl) rfl) (aP (du (dD (aL (ag rfl) (aM _ _) (jD _ _))) (decide_eq_false nb) (bP _)) ?_)))
 refine bQ (Dy (ar (aL (ag rfl) (ag rfl) (d:=.int (rat a b).1) ?_) (ar (aL (ag rfl) (ag rfl) (d:=.int (rat a b).2) ?_) (aC _))) (by simp))
 ·rw[ja (by omega)]
  unfold rat
  rw[if_neg nb]
 ·rw[ja (by omega)]
  unfold rat
  rw[if_neg nb]
theorem BM{n:Nat}{rows:List (List Int)}{fit:List Int}(h:iF n rows)(hl:fit.length=n)(h0:∀a∈fit,0<=a)(hs:∀r∈rows,ax r fit=0){c:Nat}(hz:SzL c fit)(hc:c<=1000000):gM [vII rows,.int (n:Int),vI fit] []=.ok (.non,[]):=by
 have n7:=h.n7
 have e1:=iK (l:=fit) (item:=D.int) (out:=λ_=>.bl false) (caps:=[]) (im:=listI (aa 2)) (e:=aj ltD (aa 0) (ao (.int 0))) (k:=none) (s:=⟨[some (vII rows),some (.int (n:Int)),some (vI fit)],[]⟩) (by rw[cD,ag (i:=2) rfl,ak];rfl) trivial (by omega) (λa ha=>by
  refine aL (ag rfl) (aM _ _) ?_
  rw[jD,decide_eq_false (by have:=h0 a ha;omega)])
 rw[show fit.map (λ_=>D.bl false)=(fit.map λ_=>false).map D.bl by rw[List.map_map];rfl] at e1
 have e2:=iK (l:=rows) (item:=vI) (out:=λ_=>.bl false) (caps:=[2]) (im:=listI (aa 0)) (e:=aj neD (eH 2 bu (af (aa 0) (af (aa 1) aq))) (ao (.int 0))) (k:=none) (s:=⟨[some (vII rows),some (.int (n:Int)),some (vI fit)],[]⟩) (by rw[cD,ag (i:=0) rfl,ak];rfl) trivial (by have:=h.cnt;omega) (λr hr=>by
  have rl:=h.len r hr
  refine aL (jF (ar (ag rfl) (ar (ag rfl) (aC _))) (rs:=[vI r,vI fit]) ?_ (xh (a:=r) (b:=fit) (by omega) (λp hp=>gK (m:=200) (n:=c) (by decide) (by omega) (h.sz r hr _ (List.of_mem_zip (a:=p.1) (b:=p.2) hp).1) (hz _ (List.of_mem_zip (a:=p.1) (b:=p.2) hp).2))) (by simp) rfl rfl) (aM _ _) ?_
  ·simp only[fC,gD,gO,fI]
  ·rw[pR,hs r hr];rfl)
 rw[show rows.map (λ_=>D.bl false)=(rows.map λ_=>false).map D.bl by rw[List.map_map];rfl] at e2
 refine E2 (s:=⟨[some (vII rows),some (.int (n:Int)),some (vI fit)],[]⟩) ?_
 show fK ⟨[some (vII rows),some (.int (n:Int)),some (vI fit)],[]⟩=_
 rw[fK]
 refine aP (du (dD (aL (eG (ar (ag rfl) (aC _)) (iT _)) (ag rfl) (pR _ _))) ?_ (bP _)) (aP (du (dD (eG (ar e1 (aC _)) (n6 _ _))) ?_ (bP _)) (du (dD (eG (ar e2 (aC _)) (n6 _ _))) ?_ (bP _)))
 ·rw[List.length_map,hl];simp
 ·simp
 ·simp
theorem AW{n:Nat}{rows:List (List Int)}{fit:List Int}(h:iF n rows)(bad:¬(fit.length=n/\(∀a∈fit,0<=a)/\∀r∈rows,ax r fit=0)){c:Nat}(hz:SzL c fit)(hc:c<=1000000)(hx:fit.length<=1000):∃s,gM [vII rows,.int (n:Int),vI fit] []=.exc 1 .non s:=by
 have n7:=h.n7
 have e1:=iK (l:=fit) (item:=D.int) (out:=λa=>.bl (decide (a<0))) (caps:=[]) (im:=listI (aa 2)) (e:=aj ltD (aa 0) (ao (.int 0))) (k:=none) (s:=⟨[some (vII rows),some (.int (n:Int)),some (vI fit)],[]⟩) (by rw[cD,ag (i:=2) rfl,ak];rfl) trivial (by omega) (λa ha=>aL (ag rfl) (aM _ _) (jD _ _))
 rw[show fit.map (λa=>D.bl (decide (a<0)))=(fit.map λa=>decide (a<0)).map D.bl by rw[List.map_map];rfl] at e1
 have e2:=iK (l:=rows) (item:=vI) (out:=λr=>.bl (!decide (ax r fit=0))) (caps:=[2]) (im:=listI (aa 0)) (e:=aj neD (eH 2 bu (af (aa 0) (af (aa 1) aq))) (ao (.int 0))) (k:=none) (s:=⟨[some (vII rows),some (.int (n:Int)),some (vI fit)],[]⟩) (by rw[cD,ag (i:=0) rfl,ak];rfl) trivial (by have:=h.cnt;omega) (λr hr=>by
  have rl:=h.len r hr
  refine aL (jF (ar (ag rfl) (ar (ag rfl) (aC _))) (rs:=[vI r,vI fit]) ?_ (xh (a:=r) (b:=fit) (by omega) (λp hp=>gK (m:=200) (n:=c) (by decide) (by omega) (h.sz r hr _ (List.of_mem_zip (a:=p.1) (b:=p.2) hp).1) (hz _ (List.of_mem_zip (a:=p.1) (b:=p.2) hp).2))) (by simp) rfl rfl) (aM _ _) (pR _ _)
  simp only[fC,gD,gO,fI])
 rw[show rows.map (λr=>D.bl (!decide (ax r fit=0)))=(rows.map λr=> !decide (ax r fit=0)).map D.bl by rw[List.map_map];rfl] at e2
 have t1:bh (aj neD (bV ee (af (aa 2) aq)) (aa 1)) ⟨[some (vII rows),some (.int (n:Int)),some (vI fit)],[]⟩=_:=dD (aL (eG (ar (ag rfl) (aC _)) (iT _)) (ag rfl) (pR _ _))
 have t2:=dD (eG (ar e1 (aC _)) (n6 _ _))
 have t3:=dD (eG (ar e2 (aC _)) (n6 _ _))
 refine⟨_,wJ (s:=⟨[some (vII rows),some (.int (n:Int)),some (vI fit)],[]⟩) ?_⟩
 show fK ⟨[some (vII rows),some (.int (n:Int)),some (vI fit)],[]⟩=_
 rw[fK]
 have rai:∀{t:Str} {s:S},lq 1 (af (ao (.str t)) aq) s=.exc 1 .non s:=λ{t s}=>x_raise (ar (aM _ _) (aC _)) (by simp)
 by_cases h1:fit.length=n
 ·by_cases h2:∀a∈fit,0<=a
  ·have h3:∃r∈rows,ax r fit≠0:=by
    refine Classical.byContradiction λq=>bad ⟨h1,h2,λr hr=>Classical.byContradiction λz=>q ⟨r,hr,z⟩⟩
   obtain⟨r,hr,hd⟩:=h3
   refine aP (du t1 ?_ (bP _)) (aP (du t2 ?_ (bP _)) (iO t3 ?_ rai))
   ·rw[List.length_map,h1];simp
   ·rw[List.any_eq_false]
    intro b hb
    obtain⟨a,ha,rfl⟩:=List.mem_map.mp hb
    have:=h2 a ha
    rw[decide_eq_false (by omega)];simp
   ·rw[List.any_eq_true]
    exact⟨_,List.mem_map_of_mem hr,by simp[hd]⟩
  ·have h3:∃a∈fit,a<0:=by
    refine Classical.byContradiction λq=>h2 λa ha=> ?_
    by_cases z:a<0
    ·exact absurd ⟨a,ha,z⟩ q
    ·omega
   obtain⟨a,ha,hd⟩:=h3
   refine aP (du t1 ?_ (bP _)) (zE (iO t2 ?_ rai))
   ·rw[List.length_map,h1];simp
   ·rw[List.any_eq_true]
    exact⟨_,List.mem_map_of_mem ha,by simp[hd]⟩
 ·refine zE (iO t1 ?_ rai)
  rw[List.length_map,decide_eq_false (by omega)];rfl
abbrev tiR(left y:List Int)(b:Nat)(x3 x4:Option D):List (Option D):=[some (vI left),some (vI y),some (.int (b:Int)),x3,x4]
theorem vE{left y:List Int}{c:Nat}(hl:left.length=y.length)(hz:SzL c left)(hy:SzL 8000 y)(hc:c<=1000000)(K:List D):∀(l:List Int) (k b:Nat) (x3 x4:Option D),(∀i,i<l.length->nth y (k+i)=nth l i)->k+l.length=y.length->b<y.length->0<nth y b->(∀i,i<k->0<nth y i->nth left b*nth y i<=nth left i*nth y b)->
 ∃b' y3 y4,bH (okC K none) (dM (ba (aH 3) (ba (aH 4) ei)) 2) cP ((l.zipIdx k).map λp=>.tup [.int (p.2:Int),.int p.1]) ⟨tiR left y b x3 x4,[]⟩=.next ⟨tiR left y b' y3 y4,[]⟩/\b'<y.length/\0<nth y b'/\∀i,i<y.length->0<nth y i->nth left b'*nth y i<=nth left i*nth y b'
 | [],k,b,x3,x4,_,hk,hb,hp,hm=>⟨b,x3,x4,by rw[List.zipIdx_nil,List.map_nil,bH,if_pos (show okC K none _ from trivial)],hb,hp,λi hi=>hm i (by simp at hk;omega)⟩
 | v::l,k,b,x3,x4,hv,hk,hb,hp,hm=>by
  rw[List.length_cons] at hk
  have ev:nth y k=v:=by
   have:=hv 0 (by simp)
   rw[Nat.add_zero] at this
   exact this
  have hv':∀i,i<l.length->nth y (k+1+i)=nth l i:=λi hi=>by
   have:=hv (i+1) (by simp;omega)
   rw[show k+1+i=k+(i+1) by omega,this];rfl
  have kl:k<y.length:=by omega
  have t1:bh (aj gtD (aa 4) (ao (.int 0))) ⟨tiR left y b (some (.int (k:Int))) (some (.int v)),[]⟩=.ok (decide (0<v),⟨tiR left y b (some (.int (k:Int))) (some (.int v)),[]⟩):=pC (ag rfl)
  have t2:bh (aj ltD (aj bJ (aj ixD (aa 0) (aa 3)) (aj ixD (aa 1) (aa 2))) (aj bJ (aj ixD (aa 0) (aa 2)) (aa 4))) ⟨tiR left y b (some (.int (k:Int))) (some (.int v)),[]⟩=.ok (decide (nth left k*nth y b<nth left b*v),⟨tiR left y b (some (.int (k:Int))) (some (.int v)),[]⟩):=by
   refine dD (aL (aL (aL (ag rfl) (ag rfl) (kL (by omega))) (aL (ag rfl) (ag rfl) (kL hb)) (bU ?_)) (aL (aL (ag rfl) (ag rfl) (kL (by omega))) (ag rfl) (bU ?_)) (jD _ _))
   ·exact gK (m:=c) (n:=8000) (by omega) (by decide) (hz _ (cU (by omega))) (hy _ (cU hb))
   ·exact gK (m:=c) (n:=8000) (by omega) (by decide) (hz _ (cU (by omega))) (by rw[<- ev];exact hy _ (cU kl))
  rw[List.zipIdx_cons,List.map_cons]
  have step:∀b1:Nat,cP ⟨tiR left y b (some (.int (k:Int))) (some (.int v)),[]⟩=.next ⟨tiR left y b1 (some (.int (k:Int))) (some (.int v)),[]⟩->b1<y.length->0<nth y b1->(∀i,i<k+1->0<nth y i->nth left b1*nth y i<=nth left i*nth y b1)->(∃b' y3 y4,bH (okC K none) (dM (ba (aH 3) (ba (aH 4) ei)) 2) cP (D.tup [.int (k:Int),.int v]::((l.zipIdx (k+1)).map λp=>.tup [.int (p.2:Int),.int p.1])) ⟨tiR left y b x3 x4,[]⟩=.next ⟨tiR left y b' y3 y4,[]⟩/\b'<y.length/\0<nth y b'/\∀i,i<y.length->0<nth y i->nth left b'*nth y i<=nth left i*nth y b'):=λb1 e h1 h2 h3=>by
   obtain⟨b',y3,y4,e',q1,q2,q3⟩:=vE hl hz hy hc K l (k+1) b1 (some (.int (k:Int))) (some (.int v)) hv' (by omega) h1 h2 h3
   exact⟨b',y3,y4,Eq.trans (gs (s1:=⟨tiR left y b (some (.int (k:Int))) (some (.int v)),[]⟩) (s2:=⟨tiR left y b1 (some (.int (k:Int))) (some (.int v)),[]⟩) trivial (by rw[CJ];rfl) e) e',q1,q2,q3⟩
  have split:∀i,i<k+1->i<k\/i=k:=λi hi=>by omega
  by_cases h1:0<v
  ·by_cases h2:nth left k*nth y b<nth left b*v
   ·refine step k ?_ kl (by rw[ev];exact h1) λi hi hp'=> ?_
    ·rw[cP]
     exact iO (sJ t1 (decide_eq_true h1) t2) (decide_eq_true h2) (aZ (ag rfl) rfl)
    ·rcases split i hi with q | rfl
     ·rw[ev]
      exact qt (a:=nth left k) (b:=v) (c:=nth left b) (d:=nth y b) (e:=nth left i) (f:=nth y i) h1 hp hp' (by omega) (hm i q hp')
     ·exact Int.le_refl _
   ·refine step b ?_ hb hp λi hi hp'=> ?_
    ·rw[cP]
     exact du (sJ t1 (decide_eq_true h1) t2) (decide_eq_false h2) (bP _)
    ·rcases split i hi with q | rfl
     ·exact hm i q hp'
     ·rw[ev];omega
  ·refine step b ?_ hb hp λi hi hp'=> ?_
   ·rw[cP]
    exact du (Ab t1 (decide_eq_false h1)) rfl (bP _)
   ·rcases split i hi with q | rfl
    ·exact hm i q hp'
    ·rw[ev] at hp';omega
theorem CQ{left y:List Int}{c:Nat}(hl:left.length=y.length)(hz:SzL c left)(hy:SzL 8000 y)(hc:c<=1000000)(h0:∀i,0<=nth y i)(hnz:∃i,nth y i≠0)(len:y.length<=1000):∃a:Nat,dN [vI left,vI y] []=.ok (.int (a:Int),[])/\a<y.length/\Tight left y a:=by
 obtain⟨b,eb⟩:∃b,cT y=some b:=by
  cases e:cT y with
  | some b=>exact⟨b,rfl⟩
  | none=>
   obtain⟨i,hi⟩:=hnz
   have:=lF e (nth y i) (cU (by
    by_cases q:i<y.length
    ·exact q
    ·exact absurd (cJ (by omega)) hi))
   exact absurd this hi
 obtain⟨b1,b2,_⟩:=hX eb
 have fn:=Gm y
 rw[eb] at fn
 obtain⟨b',y3,y4,e,q1,q2,q3⟩:=vE hl hz hy hc ((y.zipIdx 0).map λp=>.tup [.int (p.2:Int),.int p.1]) y 0 b none none (λi _=>by rw[Nat.zero_add]) (by omega) b1 (by have:=h0 b;omega) (λi hi=>absurd hi (by omega))
 refine⟨b', ?_,q1,q2,λi hi=>q3 i (by
  by_cases q:i<y.length
  ·exact q
  ·rw[cJ (by omega)] at hi;omega) hi⟩
 refine fR (R:=tiR left y b' y3 y4) ?_
 show eR ⟨[some (vI left),some (vI y),none,none,none],[]⟩=_
 rw[eR]
 refine aP (aZ (R':=tiR left y b none none) (eP (ar (ag rfl) (aC _)) fn (by simp) rfl rfl) rfl) (aP ?_ (bQ (ag rfl)))
 refine(gb (im:=dB (af (aa 1) aq)) (ds:=(y.zipIdx 0).map λp=>.tup [.int (p.2:Int),.int p.1]) (k:=none) (s1:=⟨tiR left y b none none,[]⟩) ?_).trans e
 rw[oi,iW,ag (i:=1) rfl,ak,aC,ak,ak]
 dsimp only
 rw[sL]
theorem Ag{n:Nat}{y l:List Int}(hy:y.length=n)(hl:l.length=n)(ny:∀i,0<=nth y i)(nl:∀i,0<=nth l i):decide (bG y|||bG l=bG l)=true↔Sub y l:=by
 have:=bits_sub hy hl hl ny nl nl
 rw[Nat.or_self] at this
 rw[this,n5 hy]
 exact⟨λh i hi=>(h i hi).elim id id,λh i hi=>.inl (h i hi)⟩
theorem GP{m:AM}{s s1:S}{x y:D}{as bs:List D}(h:m s=.ok ([x,y],s1))(h1:lsD s1.o x=some as)(h2:lsD s1.o y=some bs):vX m s=.ok ((iV as bs,λO=>lsD O x=some as/\lsD O y=some bs),s1):=by
 unfold vX
 rw[h,ak]
 dsimp only
 rw[h1,h2]
theorem DY {α:Type} {l:List α} {f g out:α->D} {caps:List Nat} {im:IX} {e:EM} {s:S} {ok:au->Prop} (him:im s=.ok ((l.map (λa=>D.tup [f a,g a]),ok),s)) (hok:ok s.o) (hl:l.length<=16777216)
 (he:∀a∈l,e ⟨some (f a)::some (g a)::caps.map (λi=>(s.r[i]?).getD none),s.o⟩=.ok (out a,⟨some (f a)::some (g a)::caps.map (λi=>(s.r[i]?).getD none),s.o⟩)):
 pe 2 caps im (dM (ba (aH 0) (ba (aH 1) ei)) 2) bZ e s=.ok (.lst (l.map out),s):=by
 obtain⟨s',e1,x,y,h1⟩:=mE (ok:=ok) (g:=dM (ba (aH 0) (ba (aH 1) ei)) 2) (c:=bZ) (e:=e) (O:=s.o) hok (λa=>D.tup [f a,g a]) (λs2=>∃x y,s2=⟨x::y::caps.map (λi=>(s.r[i]?).getD none),s.o⟩) (by rintro _ ⟨_,_,rfl⟩;rfl) l (λ_=>true) out (by
  rintro a ha _ ⟨x,y,rfl⟩
  exact⟨_,_,by simp,rfl,λ_=>⟨_,_,rfl⟩,λ_=>⟨_,he a ha,_,_,rfl⟩⟩) [] ⟨jo 2 caps s.r,s.o⟩ (by simpa using hl) ⟨none,none,rfl⟩
 unfold pe tx
 rw[him,ak]
 dsimp only
 rw[e1,ak,ak]
 subst h1
 rw[j6]
 rfl
abbrev Tl:Type:=(Int×Int)×(Nat×List Int)
def tD(s:Tl):D:=.tup [.tup [.int s.1.1,.int s.1.2],.ptr s.2.1]
def unp(s:Tl):Sh:=(s.1,s.2.2)
abbrev sR(rows:List (List Int))(n:Nat)(fit left:List Int)(bot:Int)(x6 x7 x8 x9:Option D):List (Option D):=[some (vII rows),some (.int (n:Int)),some (vI fit),some (.ptr 0),some (vI left),some (.int bot),x6,x7,x8,x9]
structure SIv(Q:List (Nat×List Int))(T:List Tl)(O:au):Prop where
 told:O[0]? =some (.lst (T.map tD))
 s:Sto O Q
 n0:∀p∈Q,p.1≠0
 m:∀s∈T,s.2∈Q
theorem tZ{O:au}{k i:Nat}{y:List Int}(h:O[k]? =some (.lst (y.map D.int)))(hi:i<y.length):ixD O (.ptr k) (.int (i:Int))=.ok (.int (nth y i)):=by
 refine m4 h ?_
 rw[qZ (by simpa using hi)]
 simp[nth,List.getD_eq_getElem?_getD,hi]
theorem yS(x:List Int):cnt x<=x.length:=List.length_filter_le _ _
theorem xB {n:Nat} {rows:List (List Int)} {fit:List Int} {c:Nat} {Q:List (Nat×List Int)} {pre:List (List Int)} {T:List Tl} {left:List Int} {bot:Int} {O:au} {p:Nat×List Int} {x7 x8 x9:Option D}
 (hn:n<=7) (hf:fit.length=n) (hc:c<=20000) (hp:p∈Q) (lp:cy n rows p.2) (zp:SzL 8000 p.2) (sh:Shr n rows fit c pre (T.map unp) left bot) (iv:SIv Q T O):
 ∃T' left' bot' O' y7 y8 y9,jv ⟨sR rows n fit left bot (some (.ptr p.1)) x7 x8 x9,O⟩=.next ⟨sR rows n fit left' bot' (some (.ptr p.1)) y7 y8 y9,O'⟩/\Shr n rows fit c (pre++[p.2]) (T'.map unp) left' bot'/\SIv Q T' O':=by
 have yl:=lp.fit.len
 have tl:T.length<=7:=by
  have h1:=sh.cn
  have h2:=yS fit
  rw[List.length_map] at h1
  omega
 have cb:c+8001*(T.map unp).length<=80000:=by rw[List.length_map];omega
 have pl1:eH 1 bT (af (aa 6) aq) ⟨sR rows n fit left bot (some (.ptr p.1)) x7 x8 x9,O⟩=.ok (.int (bG p.2:Nat),⟨sR rows n fit left bot (some (.ptr p.1)) x7 x8 x9,O⟩):=jF (ar (ag rfl) (aC _)) (rs:=[vI p.2]) (by simp only[fC,gD,jK (iv.s p hp),gO,fI]) oO (by simp) rfl rfl
 have pl2:eH 1 bT (af (aa 4) aq) ⟨sR rows n fit left bot (some (.ptr p.1)) x7 x8 x9,O⟩=.ok (.int (bG left:Nat),⟨sR rows n fit left bot (some (.ptr p.1)) x7 x8 x9,O⟩):=jF (ar (ag rfl) (aC _)) (rs:=[vI left]) (by simp only[fC,gD,gO,fI]) oO (by simp) rfl rfl
 have tst:bh (bI 2 d7 (af (eH 1 bT (af (aa 6) aq)) (af (eH 1 bT (af (aa 4) aq)) aq))) ⟨sR rows n fit left bot (some (.ptr p.1)) x7 x8 x9,O⟩=.ok (decide (bG p.2|||bG left=bG left),⟨sR rows n fit left bot (some (.ptr p.1)) x7 x8 x9,O⟩):=dD (eP (ar pl1 (ar pl2 (aC _))) (v9 _ _) (by simp) rfl rfl)
 have amo:=Ag yl sh.len lp.fit.nn sh.nn
 by_cases hs:Sub p.2 left
 ·obtain⟨a,ea,al,ti⟩:=CQ (c:=80000) (left:=left) (y:=p.2) (by rw[sh.len,yl]) (λx hx=>(sh.sz x hx).mono cb) zp (by decide) lp.fit.nn lp.fit.nz (by omega)
  have ll:=sh.len
  have e7:setM 7 (eH 2 dN (af (aa 4) (af (aa 6) aq))) ⟨sR rows n fit left bot (some (.ptr p.1)) x7 x8 x9,O⟩=.next ⟨sR rows n fit left bot (some (.ptr p.1)) (some (.int (a:Int))) x8 x9,O⟩:=aZ (jF (ar (ag rfl) (ar (ag rfl) (aC _))) (rs:=[vI left,vI p.2]) (by simp only[fC,gD,jK (iv.s p hp),gO,fI]) ea (by simp) rfl rfl) rfl
  have zb:IntMulOk bot (nth p.2 a):=gK (m:=80000) (n:=8000) (by decide) (by decide) (sh.szb.mono cb) (zp _ (cU al))
  have Bp:0<bot*nth p.2 a:=Int.mul_pos sh.bp ti.pos
  have eB:∀{O':au} {x8 x9:Option D},Sto O' Q->aj bJ (aa 5) (aj ixD (aa 6) (aa 7)) ⟨sR rows n fit left bot (some (.ptr p.1)) (some (.int (a:Int))) x8 x9,O'⟩=.ok (.int (bot*nth p.2 a),⟨sR rows n fit left bot (some (.ptr p.1)) (some (.int (a:Int))) x8 x9,O'⟩):=λs'=>aL (ag rfl) (aL (ag rfl) (ag rfl) (tZ (s' p hp) al)) (bU zb)
  have en:qH (af (bI 2 jN (af (aj ixD (aa 4) (aa 7)) (af (aj bJ (aa 5) (aj ixD (aa 6) (aa 7))) aq))) (af (aa 6) aq)) ⟨sR rows n fit left bot (some (.ptr p.1)) (some (.int (a:Int))) x8 x9,O⟩=.ok (tD (rat (nth left a) (bot*nth p.2 a),p),⟨sR rows n fit left bot (some (.ptr p.1)) (some (.int (a:Int))) x8 x9,O⟩):=Dy (ar (eP (ar (aL (ag rfl) (ag rfl) (kL (by omega))) (ar (eB iv.s) (aC _))) (CN Bp) (by simp) rfl (by simp)) (ar (ag rfl) (aC _))) (by simp)
  generalize hO1:O.set 0 (.lst (T.map tD++[tD (rat (nth left a) (bot*nth p.2 a),p)]))=O1
  have e8:iP (nR (aa 3) (qH (af (bI 2 jN (af (aj ixD (aa 4) (aa 7)) (af (aj bJ (aa 5) (aj ixD (aa 6) (aa 7))) aq))) (af (aa 6) aq)))) ⟨sR rows n fit left bot (some (.ptr p.1)) (some (.int (a:Int))) x8 x9,O⟩=.next ⟨sR rows n fit left bot (some (.ptr p.1)) (some (.int (a:Int))) x8 x9,O1⟩:=lO (vm (ag rfl) iv.told en iv.told (by rw[List.length_map];omega) hO1)
  have told1:O1[0]? =some (.lst ((T++[(rat (nth left a) (bot*nth p.2 a),p)]).map tD)):=by rw[<- hO1,cS iv.told,List.map_append];rfl
  have sto1:Sto O1 Q:=by rw[<- hO1];exact iv.s.set iv.n0 _
  have zl:∀x∈left,Sz 80000 x:=λx hx=>(sh.sz x hx).mono cb
  have e9:=DY (l:=left.zip p.2) (f:=λq=>.int q.1) (g:=λq=>.int q.2) (out:=λq=>.int (q.1*nth p.2 a-q.2*nth left a)) (caps:=[7,4,6]) (im:=vX (af (aa 4) (af (aa 6) aq))) (e:=aj jU (aj bJ (aa 0) (aj ixD (aa 4) (aa 2))) (aj bJ (aa 1) (aj ixD (aa 3) (aa 2)))) (s:=⟨sR rows n fit left bot (some (.ptr p.1)) (some (.int (a:Int))) x8 x9,O1⟩) (ok:=λO=>lsD O (vI left)=some (left.map D.int)/\lsD O (.ptr p.1)=some (p.2.map D.int)) (by
   rw[GP (as:=left.map D.int) (bs:=p.2.map D.int) (ar (ag (i:=4) rfl) (ar (ag (i:=6) rfl) (aC _))) fo (kT (sto1 p hp)),mf]) ⟨fo,kT (sto1 p hp)⟩ (by rw[List.length_zip];omega) (λq hq=>by
    have m1:=(List.of_mem_zip (a:=q.1) (b:=q.2) hq).1
    have m2:=(List.of_mem_zip (a:=q.1) (b:=q.2) hq).2
    exact aL (aL (ag rfl) (aL (ag rfl) (ag rfl) (tZ (sto1 p hp) al)) (bU (gK (m:=80000) (n:=8000) (by decide) (by decide) (zl _ m1) (zp _ (cU al))))) (aL (ag rfl) (aL (ag rfl) (ag rfl) (kL (by omega))) (bU (gK (m:=8000) (n:=80000) (by decide) (by decide) (zp _ m2) (zl _ (cU (by omega)))))) (rN _ _))
  rw[show (left.zip p.2).map (λq=>D.int (q.1*nth p.2 a-q.2*nth left a))=(dA left p.2 a).map D.int by unfold dA;rw[List.map_map];rfl] at e9
  have rl:=wm (a:=a) sh.len yl
  have e10:setM 9 (fM (eZ 1 gE (af (aj bK (aa 8) (i0 (af (aj bJ (aa 5) (aj ixD (aa 6) (aa 7))) aq))) aq))) ⟨sR rows n fit left bot (some (.ptr p.1)) (some (.int (a:Int))) (some (vI (dA left p.2 a))) x9,O1⟩=.next ⟨sR rows n fit left bot (some (.ptr p.1)) (some (.int (a:Int))) (some (vI (dA left p.2 a))) (some (vI (fY left p.2 bot a))),O1++[.dead]⟩:=by
   refine aZ (kM (jV (ar (aL (ag rfl) (sS (ar (eB sto1) (aC _)) (by simp)) (d:=vI (dA left p.2 a++[bot*nth p.2 a])) ?_) (aC _)) (uw _ (by simp;omega)) (by rw[dY,g9,xy];rfl) rfl (iu _ _) rfl) (ds:=(fY left p.2 bot a).map D.int) ?_ ?_) rfl
   ·rw[i9 (by simp;omega)]
    show _=Res.ok (D.lst ((dA left p.2 a++[bot*nth p.2 a]).map D.int))
    rw[List.map_append]
    rfl
   ·rw[Nat.add_zero]
    simp
    rfl
   ·rw[Nat.add_zero,List.map_cons,List.map_nil,B7]
  have red:=Ga (bot:=bot) (a:=a) sh.len yl
  have len:(fY left p.2 bot a).length=n+1:=by unfold fY;rw[low_length];simp[rl]
  have e11:setM 4 (slM (aa 9) dw (part (aa 1))) ⟨sR rows n fit left bot (some (.ptr p.1)) (some (.int (a:Int))) (some (vI (dA left p.2 a))) (some (vI (fY left p.2 bot a))),O1++[.dead]⟩=.next ⟨sR rows n fit ((fY left p.2 bot a).take n) bot (some (.ptr p.1)) (some (.int (a:Int))) (some (vI (dA left p.2 a))) (some (vI (fY left p.2 bot a))),O1++[.dead]⟩:=aZ (oN (ag rfl) (iZ _) (jx (ag rfl)) fo lS) rfl
  have e12:setM 5 (aj ixD (aa 9) (aa 1)) ⟨sR rows n fit ((fY left p.2 bot a).take n) bot (some (.ptr p.1)) (some (.int (a:Int))) (some (vI (dA left p.2 a))) (some (vI (fY left p.2 bot a))),O1++[.dead]⟩=.next ⟨sR rows n fit ((fY left p.2 bot a).take n) (nth (fY left p.2 bot a) n) (some (.ptr p.1)) (some (.int (a:Int))) (some (vI (dA left p.2 a))) (some (vI (fY left p.2 bot a))),O1++[.dead]⟩:=aZ (aL (ag rfl) (ag rfl) (kL (by omega))) rfl
  refine⟨T++[(rat (nth left a) (bot*nth p.2 a),p)],_,_,O1++[.dead],some (.int (a:Int)),some (vI (dA left p.2 a)),some (vI (fY left p.2 bot a)), ?_,by rw[List.map_append];exact B3 sh lp hs zp ti red,dH told1,sto1.app _,iv.n0,λs hs'=> ?_⟩
  ·rw[jv]
   exact iO tst (amo.mpr hs) (aP e7 (aP e8 (aP (aZ e9 rfl) (aP e10 (aP e11 e12)))))
  ·rcases List.mem_append.mp hs' with q | q
   ·exact iv.m s q
   ·rw[List.mem_singleton.mp q];exact hp
 ·refine⟨T,left,bot,O,x7,x8,x9, ?_,Ca sh hs,iv⟩
  rw[jv]
  exact du tst (by rw[Bool.eq_false_iff];exact λz=>hs (amo.mp z)) (bP _)
theorem uI{n:Nat}{rows:List (List Int)}{fit:List Int}{c:Nat}{Q:List (Nat×List Int)}(hn:n<=7)(hf:fit.length=n)(hc:c<=20000)(lo:∀p∈Q,cy n rows p.2)(z:∀p∈Q,SzL 8000 p.2)(K:List D):
 ∀(rest:List (Nat×List Int)) (pre:List (List Int)) (T:List Tl) (left:List Int) (bot:Int) (O:au) (x6 x7 x8 x9:Option D),(∀p∈rest,p∈Q)->Shr n rows fit c pre (T.map unp) left bot->SIv Q T O->
 ∃T' left' bot' O' y6 y7 y8 y9,bH (okC K none) (aH 6) jv (bW rest) ⟨sR rows n fit left bot x6 x7 x8 x9,O⟩=.next ⟨sR rows n fit left' bot' y6 y7 y8 y9,O'⟩/\Shr n rows fit c (pre++rest.map (·.2)) (T'.map unp) left' bot'/\SIv Q T' O'
 | [],pre,T,left,bot,O,x6,x7,x8,x9,_,sh,iv=>⟨T,left,bot,O,x6,x7,x8,x9,by show bH _ _ _ [] _=_;rw[bH,if_pos (show okC K none _ from trivial)],by simpa using sh,iv⟩
 | p::rest,pre,T,left,bot,O,x6,x7,x8,x9,hr,sh,iv=>by
  have hp:=hr p List.mem_cons_self
  obtain⟨T1,left1,bot1,O1,y7,y8,y9,e1,sh1,iv1⟩:=xB (x7:=x7) (x8:=x8) (x9:=x9) hn hf hc hp (lo p hp) (z p hp) sh iv
  obtain⟨T2,left2,bot2,O2,z6,z7,z8,z9,e2,sh2,iv2⟩:=uI hn hf hc lo z K rest (pre++[p.2]) T1 left1 bot1 O1 (some (.ptr p.1)) y7 y8 y9 (λq hq=>hr q (List.mem_cons_of_mem _ hq)) sh1 iv1
  refine⟨T2,left2,bot2,O2,z6,z7,z8,z9, ?_,by rw[List.append_assoc] at sh2;exact sh2,iv2⟩
  show bH _ _ _ (.ptr p.1::bW rest) _=_
  exact Eq.trans (gs (s1:=⟨sR rows n fit left bot (some (.ptr p.1)) x7 x8 x9,O⟩) (s2:=⟨sR rows n fit left1 bot1 (some (.ptr p.1)) y7 y8 y9,O1⟩) trivial rfl e1) e2
structure Ib(n:Nat)(rows:List (List Int))(fit:List Int)(T:List Tl)(O:au):Prop where
 told:O[0]? =some (.lst (T.map tD))
 s:∀s∈T,O[s.2.1]? =some (.lst (s.2.2.map D.int))
 n0:∀s∈T,s.2.1≠0
 good:∀s∈T,0<s.1.1/\0<s.1.2/\Int.gcd s.1.1 s.1.2=1/\Sub s.2.2 fit
 lo:∀s∈T,cy n rows s.2.2
 nd:(T.map λs=>s.2.2).Nodup
 cn:T.length<=cnt fit
 eq:∀i,(psS i (T.map unp)).2=(psS i (T.map unp)).1*nth fit i
 zt:∀s∈T,Sz 80000 s.1.1/\Sz 80000 s.1.2/\SzL 8000 s.2.2
structure sD(n:Nat)(rows:List (List Int))(fit:List Int)(c:Nat):Prop where
 len:fit.length=n
 nn:∀i,0<=nth fit i
 st:∀r∈rows,bx n (nth r) (nth fit)=0
 sz:SzL c fit
 c1:1<=c
 c2:c<=20000
theorem sD.all{n:Nat}{rows:List (List Int)}{fit:List Int}{c:Nat}(h:sD n rows fit c):∀a∈fit,0<=a:=λa ha=>by
 obtain⟨i,hi,rfl⟩:=List.getElem_of_mem ha
 have:=h.nn i
 unfold nth at this
 simpa[List.getD_eq_getElem?_getD,List.getElem?_eq_getElem hi] using this
theorem Bx{n:Nat}{rows:List (List Int)}{fit:List Int}{c:Nat}(h:iF n rows)(f:sD n rows fit c):∃T O,fN [vII rows,.int (n:Int),vI fit] []=.ok (.ptr 0,O)/\Ib n rows fit T O:=by
 have n7:=h.n7
 obtain⟨k,Op,Q,ep,hd,sQ,nQ,qS,qV⟩:=D8 h
 have know:fL n rows (ka rows n):=oq h.len
 have perm:(Q.map (·.2)).Perm (ka rows n):=by rw[qV];exact zd _
 have pa:aX [vII rows,.int (n:Int)]=true:=Hi _ rfl
 have hd1:=EC (S:=[Cell.lst []]) hd
 have sQ1:=Fv (S:=[Cell.lst []]) sQ
 have nQ1:∀p∈Q.map (λp=>(1+p.1,p.2)),p.1≠1+k:=λp hp=>by
  obtain⟨q,hq,rfl⟩:=List.mem_map.mp hp
  have:=nQ q hq
  dsimp only
  omega
 have n01:∀p∈Q.map (λp=>(1+p.1,p.2)),p.1≠0:=λp hp=>by
  obtain⟨q,hq,rfl⟩:=List.mem_map.mp hp
  dsimp only
  omega
 have mQ1:(Q.map λp=>(1+p.1,p.2)).map (·.2)=Q.map (·.2):=by rw[List.map_map];rfl
 have z0:([Cell.lst []]++Op.map (shC 1))[0]? =some (Cell.lst []):=rfl
 have fr:fM (eZ 2 lP (af (aa 0) (af (aa 1) aq))) ⟨sR rows n fit fit 1 none none none none,[.lst []]⟩=.ok (.lst (bW (Q.map λp=>(1+p.1,p.2))),⟨sR rows n fit fit 1 none none none none,([Cell.lst []]++Op.map (shC 1)).set (1+k) .dead⟩):=kM (jV (ar (ag rfl) (ar (ag rfl) (aC _))) ep pa rfl (iu _ _) rfl) hd1 rfl
 have sQ2:Sto (([Cell.lst []]++Op.map (shC 1)).set (1+k) .dead) (Q.map λp=>(1+p.1,p.2)):=sQ1.set nQ1 _
 have z2:(([Cell.lst []]++Op.map (shC 1)).set (1+k) Cell.dead)[0]? =some (Cell.lst []):=by rw[df (by omega)];exact z0
 generalize ([Cell.lst []]++Op.map (shC 1)).set (1+k) Cell.dead=O2 at fr sQ2 z2
 generalize (Q.map λp=>(1+p.1,p.2))=Q1 at *
 have lo:∀p∈Q1,cy n rows p.2:=λp hp=>(know.all _).mp (perm.mem_iff.mp (by rw[<- mQ1];exact List.mem_map_of_mem hp))
 have sz:∀p∈Q1,SzL 8000 p.2:=λp hp=>vJ h (rs:=rows) (λ_ q=>q) h.cnt _ (perm.mem_iff.mp (by rw[<- mQ1];exact List.mem_map_of_mem hp))
 obtain⟨T,left,bot,O3,y6,y7,y8,y9,el,sh,iv⟩:=uI n7 f.len f.c2 lo sz (bW Q1) Q1 [] [] fit 1 O2 none none none none (λ_ q=>q) (B1 f.len f.nn f.st f.sz f.c1) ⟨z2,sQ2,n01,by simp⟩
 rw[List.nil_append] at sh
 have ck:=BM h f.len f.all (λr hr=>by rw[ko f.len];exact f.st r hr) f.sz (by have:=f.c2;omega)
 refine⟨T,O3, ?_,iv.told,λs hs=>iv.s _ (iv.m s hs),λs hs=>iv.n0 _ (iv.m s hs),λs hs=>sh.good (unp s) (List.mem_map_of_mem hs),λs hs=>lo _ (iv.m s hs), ?_,by have:=sh.cn;rw[List.length_map] at this;omega,DS sh λl hl=>by rw[mQ1];exact perm.mem_iff.mpr ((know.all l).mpr hl),λs hs=> ?_⟩
 ·refine B2 (s:=⟨sR rows n fit left bot y6 y7 y8 y9,O3⟩) ?_
  show gC ⟨[some (vII rows),some (.int (n:Int)),some (vI fit),none,none,none,none,none,none,none],[]⟩=_
  rw[gC]
  refine aP (lO (CF (ar (ag rfl) (ar (ag rfl) (ar (ag rfl) (aC _)))) (by simp) rfl ck rfl)) (aP (aZ (xa (aC _) (by simp) rfl rfl) rfl) (aP (aZ (eG (ar (ag rfl) (aC _)) (o8 _)) rfl) (aP (aZ (R':=sR rows n fit fit 1 none none none none) (aM _ _) rfl) (aP ?_ (bQ (ag rfl))))))
  refine(gb (im:=listI (fM (eZ 2 lP (af (aa 0) (af (aa 1) aq))))) (ds:=bW Q1) (k:=none) (s1:=⟨sR rows n fit fit 1 none none none none,O2⟩) ?_).trans el
  rw[cD]
  exact(congrArg (λr=>Res.bind r _) fr).trans rfl
 ·have:=sh.sl
  rw[List.map_map] at this
  refine List.Sublist.nodup this ?_
  rw[mQ1]
  exact perm.nodup_iff.mpr know.nd
 ·have cb:c+8001*(T.map unp).length<=80000:=by
   have h1:=sh.cn
   have h2:=yS fit
   have h3:=f.len
   have h4:=f.c2
   rw[List.length_map] at h1 ⊢
   omega
  obtain⟨q1,q2⟩:=sh.szt (unp s) (List.mem_map_of_mem hs)
  exact⟨q1.mono cb,q2.mono cb,sz _ (iv.m s hs)⟩
theorem zL{n:Nat}{rows:List (List Int)}{fit:List Int}(h:iF n rows)(bad:¬(fit.length=n/\(∀a∈fit,0<=a)/\∀r∈rows,ax r fit=0)){c:Nat}(hz:SzL c fit)(hc:c<=1000000)(hx:fit.length<=1000):∃s,fN [vII rows,.int (n:Int),vI fit] []=.exc 1 .non s:=by
 obtain⟨s,e⟩:=AW h bad hz hc hx
 refine⟨_,wJ (s:=⟨[some (vII rows),some (.int (n:Int)),some (vI fit),none,none,none,none,none,none,none],[]⟩) ?_⟩
 show gC ⟨[some (vII rows),some (.int (n:Int)),some (vI fit),none,none,none,none,none,none,none],[]⟩=_
 rw[gC]
 exact zE (yh (ur (ar (ag rfl) (ar (ag rfl) (ar (ag rfl) (aC _)))) (by simp) rfl e))
theorem yD{a b:EM}{s s1:S}{p:Bool}(h:a s=.ok (.bl p,s1))(hp:p=false):lj a b s=.ok (.bl false,s1):=by
 subst hp
 rw[yi,h,ak]
theorem zj{n:Nat}{rows:List (List Int)}{fit:List Int}(h:iF n rows)(bad:¬(fit.length=n/\(∀a∈fit,0<=a)/\∀r∈rows,ax r fit=0)){c:Nat}(hz:SzL c fit)(hc:c<=1000000)(hx:fit.length<=1000):fk [vII rows,.int (n:Int),vI fit] []=.ok (.bl true,[]):=by
 obtain⟨s,e⟩:=zL h bad hz hc hx
 refine cz (s:=⟨[some (vII rows),some (.int (n:Int)),some (vI fit),some (.exn 1)],[]⟩) ?_
 show gH ⟨[some (vII rows),some (.int (n:Int)),some (vI fit),none],[]⟩=_
 rw[gH]
 refine lM (GI (yh (ur (ar (ag rfl) (ar (ag rfl) (ar (ag rfl) (aC _)))) (by simp) rfl e)) (Hj rfl (G0 ?_)))
 show (aK _ _) ⟨[some (vII rows),some (.int (n:Int)),some (vI fit),some (.exn 1)],[]⟩=_
 exact aP (du (Dm (tj (dD (vf (ag rfl) rfl))) rfl (tj (dD (vf (ag rfl) rfl)))) rfl (bP _)) (aP (du (dD (vf (ag rfl) rfl)) rfl (bP _)) (bQ (Fg (b:=false) (vf (ag rfl) rfl))))
theorem EA{x:List Int}{s:S}{me md:EM}{d e:D}(hm:me s=.ok (d,s))(hd:md s=.ok (e,s))(hl:lsD s.o d=some (x.map D.int))(h0:0<x.length):∃m,sO me md s=.ok (.int m,s)/\(0<=m↔∀a∈x,0<=a):=by
 cases x with
 | nil=>exact absurd h0 (by simp)
 | cons a x=>
  refine⟨mn a x, ?_,λh b hb=> ?_,λh=>h _ (rV x a)⟩
  ·unfold sO
   rw[hm,ak]
   dsimp only
   rw[hd,ak]
   dsimp only
   have c:lZ s.o d=some (a::x):=by
    unfold lZ
    rw[hl]
    exact nC _
   rw[c]
  ·have le:=tX x a
   rcases List.mem_cons.mp hb with rfl | q
   ·omega
   ·have:=le.2 b q;omega
abbrev rtR(rows:List (List Int))(n:Nat)(x:List Int)(x5 x6:Option D):List (Option D):=[some (vII rows),some (.int (n:Int)),some (vI x),some (vII rows),some (vI x),x5,x6]
theorem Cr{n:Nat}{rows:List (List Int)}{x:List Int}(h:iF n rows)(n0:0<n){c:Nat}(hz:SzL c x)(c1:1<=c)(hc:c<=20000)(hx:x.length<=1000):∃O,iH [vII rows,.int (n:Int),vI x] []=.ok (.bl true,O):=by
 have rcnt:=h.cnt
 have n7:=h.n7
 have e3:=iK (l:=rows) (item:=vI) (out:=vI) (caps:=[]) (im:=listI (aa 0)) (e:=bV kE (af (aa 0) aq)) (k:=none) (s:=⟨[some (vII rows),some (.int (n:Int)),some (vI x),none,none,none,none],[]⟩) (by rw[cD,ag (i:=0) rfl,ak];rfl) trivial (by omega) (λr _=>eG (ar (ag rfl) (aC _)) (o8 _))
 have e4:setM 4 (bV kE (af (aa 2) aq)) ⟨[some (vII rows),some (.int (n:Int)),some (vI x),some (vII rows),none,none,none],[]⟩=.next ⟨rtR rows n x none none,[]⟩:=aZ (eG (ar (ag rfl) (aC _)) (o8 _)) rfl
 have tl:aj eqD (bV ee (af (aa 2) aq)) (aa 1) ⟨rtR rows n x none none,[]⟩=.ok (.bl (decide (((x.map D.int).length:Int)=(n:Int))),⟨rtR rows n x none none,[]⟩):=aL (eG (ar (ag rfl) (aC _)) (iT _)) (ag rfl) (kS _ _)
 have g5:setM 5 (lj (aj eqD (bV ee (af (aa 2) aq)) (aa 1)) (aj geD (sO (aa 2) (ao (.int 0))) (ao (.int 0)))) ⟨rtR rows n x none none,[]⟩=.next ⟨rtR rows n x (some (.bl (decide (x.length=n/\∀a∈x,0<=a)))) none,[]⟩:=by
  by_cases h1:x.length=n
  ·obtain⟨m,em,hm⟩:=EA (x:=x) (s:=⟨rtR rows n x none none,[]⟩) (me:=aa 2) (md:=ao (.int 0)) (ag rfl) (aM _ _) fo (by omega)
   refine aZ (pG tl (decide_eq_true (by rw[List.length_map,h1])) (aL em (aM _ _) (DL _ _))) ?_
   rw[show decide (0<=m)=decide (x.length=n/\∀a∈x,0<=a) from decide_eq_decide.mpr ⟨λq=>⟨h1,hm.mp q⟩,λq=>hm.mpr q.2⟩]
   rfl
  ·refine aZ (yD tl (decide_eq_false (by rw[List.length_map];omega))) ?_
   rw[show decide (x.length=n/\∀a∈x,0<=a)=false from decide_eq_false λq=>h1 q.1]
   rfl
 have g6:setM 5 (lj (aa 5) (bV zM (af (cM 1 [2] (listI (aa 0)) (aH 0) bZ (aj eqD (bI 2 eE (af (aa 0) (af (aa 1) aq))) (ao (.int 0)))) aq))) ⟨rtR rows n x (some (.bl (decide (x.length=n/\∀a∈x,0<=a)))) none,[]⟩=.next ⟨rtR rows n x (some (.bl (decide (x.length=n/\(∀a∈x,0<=a)/\∀r∈rows,ax r x=0)))) none,[]⟩:=by
  by_cases h1:x.length=n/\∀a∈x,0<=a
  ·have e:=iK (l:=rows) (item:=vI) (out:=λr=>.bl (decide (ax r x=0))) (caps:=[2]) (im:=listI (aa 0)) (e:=aj eqD (bI 2 eE (af (aa 0) (af (aa 1) aq))) (ao (.int 0))) (k:=none) (s:=⟨rtR rows n x (some (.bl (decide (x.length=n/\∀a∈x,0<=a)))) none,[]⟩) (by rw[cD,ag (i:=0) rfl,ak];rfl) trivial (by omega) (λr hr=>by
    have rl:=h.len r hr
    exact aL (eP (ar (ag rfl) (ar (ag rfl) (aC _))) (D3 (a:=r) (b:=x) (by omega) (λp hp=>gK (m:=200) (n:=c) (by decide) (by omega) (h.sz r hr _ (List.of_mem_zip (a:=p.1) (b:=p.2) hp).1) (hz _ (List.of_mem_zip (a:=p.1) (b:=p.2) hp).2))) (by simp) rfl rfl) (aM _ _) (kS _ _))
   rw[show rows.map (λr=>D.bl (decide (ax r x=0)))=(rows.map λr=>decide (ax r x=0)).map D.bl by rw[List.map_map];rfl] at e
   refine aZ (pG (ag rfl) (decide_eq_true h1) (eG (ar e (aC _)) (BK _ _))) ?_
   have:(rows.map λr=>decide (ax r x=0)).all id=decide (x.length=n/\(∀a∈x,0<=a)/\∀r∈rows,ax r x=0):=by
    rw[Bool.eq_iff_iff,decide_eq_true_iff,List.all_eq_true]
    refine⟨λq=>⟨h1.1,h1.2,λr hr=> ?_⟩,λq b hb=> ?_⟩
    ·have:=q _ (List.mem_map_of_mem hr)
     simpa using this
    ·obtain⟨r,hr,rfl⟩:=List.mem_map.mp hb
     simp[q.2.2 r hr]
   rw[this]
   rfl
  ·refine aZ (yD (ag rfl) (decide_eq_false h1)) ?_
   rw[show decide (x.length=n/\(∀a∈x,0<=a)/\∀r∈rows,ax r x=0)=false from decide_eq_false λq=>h1 ⟨q.1,q.2.1⟩]
   rfl
 have pa:aX [vII rows,.int (n:Int),vI x]=true:=by
  rw[dY,g9,kf]
  simp
 have g7:∃O,ifS (bh (aa 5)) (setM 6 (unM (jq "list") (fM (eZ 3 fN (af (aa 3) (af (aa 1) (af (aa 4) aq))))))) (setM 6 (bI 3 fk (af (aa 3) (af (aa 1) (af (aa 4) aq))))) ⟨rtR rows n x (some (.bl (decide (x.length=n/\(∀a∈x,0<=a)/\∀r∈rows,ax r x=0)))) none,[]⟩=.next ⟨rtR rows n x (some (.bl (decide (x.length=n/\(∀a∈x,0<=a)/\∀r∈rows,ax r x=0)))) (some (.bl true)),O⟩:=by
  by_cases h1:x.length=n/\(∀a∈x,0<=a)/\∀r∈rows,ax r x=0
  ·have f:sD n rows x c:=⟨h1.1,λi=>by
    by_cases q:i<x.length
    ·exact h1.2.1 _ (cU q)
    ·rw[cJ (by omega)];exact Int.le_refl _,λr hr=>by rw[<- ko h1.1];exact h1.2.2 r hr,hz,c1,hc⟩
   obtain⟨T,O,es,out⟩:=Bx h f
   refine⟨_,iO (dD (ag rfl)) (decide_eq_true h1) (aZ (vM (kM (jV (ar (ag rfl) (ar (ag rfl) (ar (ag rfl) (aC _)))) es pa rfl (iu _ _) rfl) (ds:=eT 0 (T.map tD)) ?_ rfl) (Ef _ _)) rfl)⟩
   show (O.map (shC 0))[0+0]? =_
   rw[List.getElem?_map,out.told]
   rfl
  ·exact⟨[],du (dD (ag rfl)) (decide_eq_false h1) (aZ (eP (ar (ag rfl) (ar (ag rfl) (ar (ag rfl) (aC _)))) (zj h h1 hz (by omega) hx) pa rfl rfl) rfl)⟩
 obtain⟨O,g7⟩:=g7
 refine⟨O,fR (R:=rtR rows n x (some (.bl (decide (x.length=n/\(∀a∈x,0<=a)/\∀r∈rows,ax r x=0)))) (some (.bl true))) ?_⟩
 show iL ⟨[some (vII rows),some (.int (n:Int)),some (vI x),none,none,none,none],[]⟩=_
 rw[iL]
 refine aP (aZ e3 rfl) (aP e4 (aP g5 (aP g6 (aP g7 (bQ (pG (ag rfl) rfl (pG (aL (ag rfl) (ag rfl) (D4 _ _)) (decide_eq_true rfl) (aL (ag rfl) (ag rfl) ?_))))))))
 rw[C2,decide_eq_true rfl]
theorem G7(many w:Int)(O:au)(w0:0<=w)(w1:w<2):∃i wide,bJ O (.int (if decide (many<5)=true then 1 else 0)) (.int w)=.ok (.int i)/\ixD O (.lst [.int 4,.int 1000000000]) (.int i)=.ok (.int wide)/\0<wide/\wide<=1000000000:=by
 have h:w=0\/w=1:=by omega
 rcases h with rfl | rfl
 ·refine⟨0,4, ?_,FT _ _,by decide,by decide⟩
  rw[bU (eh (.inr (by decide))),Int.mul_zero]
 ·by_cases h:many<5
  ·refine⟨1,1000000000, ?_,Ie _ _ _,by decide,by decide⟩
   rw[bU (eh (.inr (by decide))),decide_eq_true h];rfl
  ·refine⟨0,4, ?_,FT _ _,by decide,by decide⟩
   rw[bU (eh (.inr (by decide))),decide_eq_false h];rfl
abbrev lR(ns:List Int)(many:Nat)(cs fit:List Int)(rows:List (List Int))(x6 x7 x8 x9 x10 x11:Option D):List (Option D):=[some (vI ns),some (.int (many:Int)),some (vI cs),some (.ptr 0),some (vI fit),some (vII rows),x6,x7,x8,x9,x10,x11]
theorem yL{ns cs fit:List Int}{many:Nat}{rows:List (List Int)}{A:List (List Int)}{O:au}{x6 x7 x8 x9 x10:Option D}(rok:iF many rows)(m0:0<many)(K:List D):∀(rest:List (List Int)) (x11:Option D),(∀x∈rest,SzL 31 x/\x.length<=100)->
 ∃y11,bH (okC K none) (aH 11) qk (rest.map vI) ⟨lR ns many cs fit rows x6 x7 x8 x9 x10 x11,O⟩=.next ⟨lR ns many cs fit rows x6 x7 x8 x9 x10 y11,O⟩
 | [],x11,_=>⟨x11,by rw[List.map_nil,bH,if_pos (show okC K none _ from trivial)]⟩
 | x::rest,x11,hr=>by
  obtain⟨y11,e⟩:=yL (ns:=ns) (cs:=cs) (fit:=fit) (A:=A) (O:=O) (x6:=x6) (x7:=x7) (x8:=x8) (x9:=x9) (x10:=x10) rok m0 K rest (some (vI x)) λq hq=>hr q (List.mem_cons_of_mem _ hq)
  refine⟨y11, ?_⟩
  obtain⟨xz,xl⟩:=hr x List.mem_cons_self
  obtain⟨Or,er⟩:=Cr rok m0 xz (by decide) (by decide) (by omega)
  rw[List.map_cons]
  refine Eq.trans (gs (s1:=⟨lR ns many cs fit rows x6 x7 x8 x9 x10 (some (vI x)),O⟩) (s2:=⟨lR ns many cs fit rows x6 x7 x8 x9 x10 (some (vI x)),O⟩) trivial rfl ?_) e
  rw[qk]
  refine du (tj (dD (eP (ar (ag rfl) (ar (ag rfl) (ar (ag rfl) (aC _)))) er ?_ rfl rfl))) rfl (bP _)
  rw[dY,g9,kf]
  simp
theorem yz{O E:au}(h:dW O 0):dW (O++E) 0:=let ⟨a,c,e⟩:=h;⟨a,c,dH e⟩
theorem yX{O:au}{k:Nat}(h:dW O 0)(hk:k≠0)(c:Cell):dW (O.set k c) 0:=let ⟨a,b,e⟩:=h;⟨a,b,by rw[df hk];exact e⟩
theorem Bk{O:au}(h:dW O 0):0<O.length:=let ⟨_,_,e⟩:=h;kq e
theorem Cp(ns:List Int)(h:ns.length<=63):∃O,ve [.lst (ns.map D.int)] []=.ok (.bl true,O):=by
 obtain⟨c0,k0,_⟩:=tH ns 0
 obtain⟨c1,k1,_⟩:=tH ns 1
 obtain⟨c2,k2,_⟩:=tH ns 2
 have k0:bR [vI ns,.int 0] []=.ok (.int c0,[]):=k0
 have k1:bR [vI ns,.int 1] []=.ok (.int c1,[]):=k1
 have k2:bR [vI ns,.int 2] []=.ok (.int c2,[]):=k2
 obtain⟨ks,hcut,hks⟩:=CA ns 3 8
 have hks:ks.length<=5:=by omega
 have pc:∀z:Int,aX [vI ns,.int z]=true:=λz=>by simp
 have call:∀{z c:Int} {R:List (Option D)} {O:au} (i:Nat),bR [vI ns,.int z] []=.ok (.int c,[])->R[i]? =some (some (vI ns))->bI 2 bR (af (aa i) (af (ao (.int z)) aq)) ⟨R,O⟩=.ok (.int c,⟨R,O⟩):=λi hc hR=>eP (ar (ag hR) (ar (aM _ _) (aC _))) hc (pc _) rfl rfl
 have sl:∀{R:List (Option D)} {O:au},R[0]? =some (some (vI ns))->slM (aa 0) (part (ao (.int 3))) (part (ao (.int 8))) ⟨R,O⟩=.ok (vI ks,⟨R,O⟩):=λhR=>oN (ag hR) (jx (aM _ _)) (jx (aM _ _)) fo hcut
 obtain⟨many,hm,m0,m7⟩:∃many:Nat,1+c0%6=(many:Int)/\0<many/\many<=7:=⟨(1+c0%6).toNat,by omega,by omega,by omega⟩
 have e1:setM 1 (aj bK (ao (.int 1)) (aj gg (bI 2 bR (af (aa 0) (af (ao (.int 0)) aq))) (ao (.int 6)))) ⟨[some (vI ns),none,none,none,none,none,none,none,none,none,none,none],[]⟩=.next ⟨[some (vI ns),some (.int (many:Int)),none,none,none,none,none,none,none,none,none,none],[]⟩:=by
  refine aZ (aL (aM _ _) (aL (call 0 k0 rfl) (aM _ _) (gz (by decide))) ?_) rfl
  rw[i6,hm]
 have e2:setM 2 (aj bK (i0 (af (bI 2 bR (af (aa 0) (af (ao (.int 1)) aq))) aq)) (slM (aa 0) (part (ao (.int 3))) (part (ao (.int 8))))) ⟨[some (vI ns),some (.int (many:Int)),none,none,none,none,none,none,none,none,none,none],[]⟩=.next ⟨[some (vI ns),some (.int (many:Int)),some (vI (c1::ks)),none,none,none,none,none,none,none,none,none],[]⟩:=by
  refine aZ (aL (sS (ar (call 0 k1 rfl) (aC _)) (by simp)) (sl rfl) ?_) rfl
  rw[i9 (by simp;omega)]
  rfl
 obtain⟨a,c,eb⟩:=Ba c2
 have e3:setM 3 (eZ 1 eL (af (bI 2 bR (af (aa 0) (af (ao (.int 2)) aq))) aq)) ⟨[some (vI ns),some (.int (many:Int)),some (vI (c1::ks)),none,none,none,none,none,none,none,none,none],[]⟩=.next ⟨[some (vI ns),some (.int (many:Int)),some (vI (c1::ks)),some (.ptr 0),none,none,none,none,none,none,none,none],[.lst [.int a,.int c]]⟩:=aZ (jV (ar (call 0 k2 rfl) (aC _)) eb (by simp) rfl (iu _ _) (by simp[shC,eT,shD])) rfl
 have b0:dW [Cell.lst [D.int a,.int c]] 0:=⟨a,c,rfl⟩
 obtain⟨fs,O1,d1,fl,f0,b1⟩:=Gp b0 (many:=many) (by omega) (by omega)
 have e4:setM 4 (bo 2 je (af (aa 3) (af (aa 1) aq))) ⟨[some (vI ns),some (.int (many:Int)),some (vI (c1::ks)),some (.ptr 0),none,none,none,none,none,none,none,none],[.lst [.int a,.int c]]⟩=.next ⟨[some (vI ns),some (.int (many:Int)),some (vI (c1::ks)),some (.ptr 0),some (vI (1::fs)),none,none,none,none,none,none,none],O1⟩:=aZ (dQ (ar (ag rfl) (ar (ag rfl) (aC _))) d1 rfl) rfl
 have fz:SzL 20 fs:=λx hx=>by
  have:=f0 x hx
  unfold Sz
  omega
 obtain⟨v,O2,d2,v0,v1,b2,_⟩:=eY b1 (m:=2) (by decide)
 obtain⟨i,wide,i1,i2,wd0,wd1⟩:=G7 (many:Int) v O2 v0 v1
 obtain⟨made,Oc,ec,ml,mlen,msz,mst⟩:=AU (cs:=c1::ks) (fs:=fs) (cnt:=ks.length) (wide:=wide) (by simp) (by omega) fz hks wd0 wd1
 have p10:∀O,gi O (.int 10) (.int 9)=.ok (.int 1000000000):=λO=>jT (by decide) (by decide) (by decide)
 have e5:setM 5 (bI 4 gj (af (aa 2) (af (aa 4) (af (bV ee (af (slM (aa 0) (part (ao (.int 3))) (part (ao (.int 8)))) aq)) (af (aj ixD (i0 (af (ao (.int 4)) (af (aj gi (ao (.int 10)) (ao (.int 9))) aq))) (aj bJ (bV intOf (af (aj ltD (aa 1) (ao (.int 5))) aq)) (bo 2 aA (af (aa 3) (af (ao (.int 2)) aq))))) aq))))) ⟨[some (vI ns),some (.int (many:Int)),some (vI (c1::ks)),some (.ptr 0),some (vI (1::fs)),none,none,none,none,none,none,none],O1⟩=.next ⟨[some (vI ns),some (.int (many:Int)),some (vI (c1::ks)),some (.ptr 0),some (vI (1::fs)),some (vII made),none,none,none,none,none,none],O2⟩:=by
  refine aZ (eP (ar (ag rfl) (ar (ag rfl) (ar (eG (ar (sl rfl) (aC _)) (iT _)) (ar (aL (sS (ar (aM _ _) (ar (aL (aM _ _) (aM _ _) (p10 _)) (aC _))) (by simp)) (aL (eG (ar (aL (ag rfl) (aM _ _) (jD _ _)) (aC _)) (De _)) (dQ (ar (ag rfl) (ar (aM _ _) (aC _))) d2 rfl) i1) i2) (aC _))))) (by rw[List.length_map];exact ec) (by simp) rfl (by rw[g9,kf])) rfl
 obtain⟨t,O3,d3,t0,t1,b3,_⟩:=eY b2 (m:=(many:Int)) (by omega)
 obtain⟨tn,rfl⟩:∃tn:Nat,t=(tn:Int):=⟨t.toNat,by omega⟩
 have e6:setM 6 (bo 2 aA (af (aa 3) (af (aa 1) aq))) ⟨[some (vI ns),some (.int (many:Int)),some (vI (c1::ks)),some (.ptr 0),some (vI (1::fs)),some (vII made),none,none,none,none,none,none],O2⟩=.next ⟨[some (vI ns),some (.int (many:Int)),some (vI (c1::ks)),some (.ptr 0),some (vI (1::fs)),some (vII made),some (.int (tn:Int)),none,none,none,none,none],O3⟩:=aZ (dQ (ar (ag rfl) (ar (ag rfl) (aC _))) d3 rfl) rfl
 have slen:∀r∈made,r.length=many:=λr hr=>by rw[mlen r hr];omega
 have e7:setM 5 (bI 2 fX (af (aa 5) (af (aa 6) aq))) ⟨[some (vI ns),some (.int (many:Int)),some (vI (c1::ks)),some (.ptr 0),some (vI (1::fs)),some (vII made),some (.int (tn:Int)),none,none,none,none,none],O3⟩=.next ⟨[some (vI ns),some (.int (many:Int)),some (vI (c1::ks)),some (.ptr 0),some (vI (1::fs)),some (vII (made.map (cV tn))),some (.int (tn:Int)),none,none,none,none,none],O3⟩:=aZ (eP (ar (ag rfl) (ar (ag rfl) (aC _))) (Ac slen (by omega) (by omega) (by omega)) (by simp) rfl (by rw[g9,kf])) rfl
 have rok:iF many (made.map (cV tn)):=⟨λr hr=>by
  obtain⟨q,hq,rfl⟩:=List.mem_map.mp hr
  rw[xi (by rw[slen q hq];omega),slen q hq],λr hr x hx=>by
  obtain⟨q,hq,rfl⟩:=List.mem_map.mp hr
  exact msz q hq x (nv.mp hx),by rw[List.length_map];omega,m7⟩
 have rfit:Fit many (made.map (cV tn)) (cV tn (1::fs)):=C7 (by omega) (λa ha=>(f0 a ha).1) slen mst (by omega)
 have fok:sD many (made.map (cV tn)) (cV tn (1::fs)) 20:=⟨rfit.len,rfit.nn,rfit.st,λx hx=>by
  rcases List.mem_cons.mp (nv.mp hx) with rfl | q
  ·unfold Sz;decide
  ·exact fz x q,by decide,by decide⟩
 have e8:setM 4 (aj bK (slM (aa 4) (part (aa 6)) dw) (slM (aa 4) dw (part (aa 6)))) ⟨[some (vI ns),some (.int (many:Int)),some (vI (c1::ks)),some (.ptr 0),some (vI (1::fs)),some (vII (made.map (cV tn))),some (.int (tn:Int)),none,none,none,none,none],O3⟩=.next ⟨[some (vI ns),some (.int (many:Int)),some (vI (c1::ks)),some (.ptr 0),some (vI (cV tn (1::fs))),some (vII (made.map (cV tn))),some (.int (tn:Int)),none,none,none,none,none],O3⟩:=by
  refine aZ (aL (oN (ag rfl) (jx (ag rfl)) (iZ _) fo (oU (by simp;omega))) (oN (ag rfl) (iZ _) (jx (ag rfl)) fo lS) ?_) rfl
  rw[i9 (by simp;omega),<- List.map_append]
  rfl
 generalize made.map (cV tn)=rows at *
 generalize cV tn (1::fs)=fit at *
 have fl':=fok.len
 have fz':SzL 20 fit:=fok.sz
 obtain⟨t,O4,d4,u0,u1,b4,_⟩:=eY b3 (m:=(many:Int)) (by omega)
 obtain⟨an,rfl⟩:∃an:Nat,t=(an:Int):=⟨t.toNat,by omega⟩
 have al:an<fit.length:=by omega
 have e9:setM 7 (bo 2 aA (af (aa 3) (af (aa 1) aq))) ⟨lR ns many (c1::ks) fit rows (some (.int (tn:Int))) none none none none none,O3⟩=.next ⟨lR ns many (c1::ks) fit rows (some (.int (tn:Int))) (some (.int (an:Int))) none none none none,O4⟩:=aZ (dQ (ar (ag rfl) (ar (ag rfl) (aC _))) d4 rfl) rfl
 have e10:setM 8 (lW (aa 4)) ⟨lR ns many (c1::ks) fit rows (some (.int (tn:Int))) (some (.int (an:Int))) none none none none,O4⟩=.next ⟨lR ns many (c1::ks) fit rows (some (.int (tn:Int))) (some (.int (an:Int))) (some (.ptr O4.length)) none none none,O4++[.lst (fit.map D.int)]⟩:=aZ (t6 (ag rfl) (o4 _ _) rfl rfl) rfl
 have k8:O4.length≠0:=by have:=Bk b4;omega
 obtain⟨u,O5,d5,p0,p1,b5,k5⟩:=eY (yz b4 (E:=[.lst (fit.map D.int)])) (m:=3) (by decide)
 obtain⟨v',O6,d6,q0,q1,b6,k6⟩:=eY b5 (m:=1000000) (by decide)
 have c6:O6[O4.length]? =some (.lst (fit.map D.int)):=by rw[k6 _ k8,k5 _ k8];exact jj
 have p6:∀O,gi O (.int 10) (.int 6)=.ok (.int 1000000):=λO=>jT (by decide) (by decide) (by decide)
 have e11:gw (aj jU (unM lu (ao (.int 1))) (aj bJ (bo 2 aA (af (aa 3) (af (ao (.int 3)) aq))) (bo 2 aA (af (aa 3) (af (aj gi (ao (.int 10)) (ao (.int 6))) aq))))) (i4 (aa 8) (aa 7)) ⟨lR ns many (c1::ks) fit rows (some (.int (tn:Int))) (some (.int (an:Int))) (some (.ptr O4.length)) none none none,O4++[.lst (fit.map D.int)]⟩=.next ⟨lR ns many (c1::ks) fit rows (some (.int (tn:Int))) (some (.int (an:Int))) (some (.ptr O4.length)) none none none,O6.set O4.length (.lst ((fit.set an (-1-u*v')).map D.int))⟩:=by
  rw[List.map_set]
  exact DG (aL (vM (aM _ _) (rD _)) (aL (dQ (ar (ag rfl) (ar (aM _ _) (aC _))) d5 rfl) (dQ (ar (ag rfl) (ar (aL (aM _ _) (aM _ _) (p6 _)) (aC _))) d6 rfl) (bU (eh (.inl (by omega))))) (rN _ _)) (jS (ag rfl) (ag rfl) c6 (by simpa using al))
 have lz:SzL 31 (fit.set an (-1-u*v')):=λx hx=>by
  rcases List.mem_or_eq_of_mem_set hx with z | rfl
  ·exact(fz' x z).mono (by decide)
  ·have:u=0\/u=1\/u=2:=by omega
   unfold Sz
   rcases this with rfl | rfl | rfl <;> omega
 have ll:(fit.set an (-1-u*v')).length=many:=by rw[List.length_set];exact fl'
 have b7:=yX b6 k8 (.lst ((fit.set an (-1-u*v')).map D.int))
 have c7:(O6.set O4.length (.lst ((fit.set an (-1-u*v')).map D.int)))[O4.length]? =some (.lst ((fit.set an (-1-u*v')).map D.int)):=cS c6
 generalize fit.set an (-1-u*v')=low at e11 lz ll b7 c7
 generalize O6.set O4.length (.lst (low.map D.int))=O7 at e11 b7 c7
 generalize O4.length=kl at *
 have e12:setM 9 (lW (aa 4)) ⟨lR ns many (c1::ks) fit rows (some (.int (tn:Int))) (some (.int (an:Int))) (some (.ptr kl)) none none none,O7⟩=.next ⟨lR ns many (c1::ks) fit rows (some (.int (tn:Int))) (some (.int (an:Int))) (some (.ptr kl)) (some (.ptr O7.length)) none none,O7++[.lst (fit.map D.int)]⟩:=aZ (t6 (ag rfl) (o4 _ _) rfl rfl) rfl
 have k9:O7.length≠0:=by have:=Bk b7;omega
 have kn:kl≠O7.length:=Nat.ne_of_lt (kq c7)
 obtain⟨w',O8,d8,r0,r1,b8,k8'⟩:=eY (yz b7 (E:=[.lst (fit.map D.int)])) (m:=3) (by decide)
 have c8:O8[O7.length]? =some (.lst (fit.map D.int)):=by rw[k8' _ k9];exact jj
 have c8':O8[kl]? =some (.lst (low.map D.int)):=by rw[k8' _ k8];exact dH c7
 have e13:gw (aj bK (aj bK (aj ixD (aa 9) (aa 7)) (ao (.int 1))) (bo 2 aA (af (aa 3) (af (ao (.int 3)) aq)))) (i4 (aa 9) (aa 7)) ⟨lR ns many (c1::ks) fit rows (some (.int (tn:Int))) (some (.int (an:Int))) (some (.ptr kl)) (some (.ptr O7.length)) none none,O7++[.lst (fit.map D.int)]⟩=.next ⟨lR ns many (c1::ks) fit rows (some (.int (tn:Int))) (some (.int (an:Int))) (some (.ptr kl)) (some (.ptr O7.length)) none none,O8.set O7.length (.lst ((fit.set an (nth fit an+1+w')).map D.int))⟩:=by
  rw[List.map_set]
  exact DG (aL (aL (aL (ag rfl) (ag rfl) (tZ jj al)) (aM _ _) (i6 _ _)) (dQ (ar (ag rfl) (ar (aM _ _) (aC _))) d8 rfl) (i6 _ _)) (jS (ag rfl) (ag rfl) c8 (by simpa using al))
 have hz:SzL 31 (fit.set an (nth fit an+1+w')):=λx hx=>by
  rcases List.mem_or_eq_of_mem_set hx with z | rfl
  ·exact(fz' x z).mono (by decide)
  ·have:Sz 20 (nth fit an):=fz' _ (cU al)
   unfold Sz at this ⊢
   omega
 have hl:(fit.set an (nth fit an+1+w')).length=many:=by rw[List.length_set];exact fl'
 have b9:=yX b8 k9 (.lst ((fit.set an (nth fit an+1+w')).map D.int))
 have c9:(O8.set O7.length (.lst ((fit.set an (nth fit an+1+w')).map D.int)))[O7.length]? =some (.lst ((fit.set an (nth fit an+1+w')).map D.int)):=cS c8
 have c9':(O8.set O7.length (.lst ((fit.set an (nth fit an+1+w')).map D.int)))[kl]? =some (.lst (low.map D.int)):=by rw[df kn.symm];exact c8'
 generalize fit.set an (nth fit an+1+w')=high at e13 hz hl b9 c9 c9'
 generalize O8.set O7.length (.lst (high.map D.int))=O9 at e13 b9 c9 c9'
 generalize O7.length=kh at *
 obtain⟨far,O10,e14,fal,faz,b10,c10,c10'⟩:=AR (caps:=[3]) (im:=lH (af (aa 1) aq)) (e:=bo 2 aA (af (aa 1) (af (ao (.int 4)) aq))) (s:=⟨lR ns many (c1::ks) fit rows (some (.int (tn:Int))) (some (.int (an:Int))) (some (.ptr kl)) (some (.ptr kh)) none none,O9⟩) (λO'=>dW O' 0/\O'[kl]? =some (.lst (low.map D.int))/\O'[kh]? =some (.lst (high.map D.int))) (Sz 31) (nD (s1:=⟨lR ns many (c1::ks) fit rows (some (.int (tn:Int))) (some (.int (an:Int))) (some (.ptr kl)) (some (.ptr kh)) none none,O9⟩) (n:=many) (ar (ag rfl) (aC _)) (by omega)) (λ_ _=>trivial) ⟨b9,c9',c9⟩ (by rw[p7];simp;omega) (by
  rintro d hd O' ⟨hb',ho',ho2⟩
  obtain⟨r,O2',er',g0,g1,hb2',hk2'⟩:=eY hb' (m:=4) (by decide)
  exact⟨r,O2',dQ (ar (ag rfl) (ar (aM _ _) (aC _))) er' rfl,by unfold Sz;omega,hb2',by rw[hk2' _ k8];exact ho',by rw[hk2' _ k9];exact ho2⟩)
 have fal':far.length=many:=by rw[fal,p7];simp
 have e14:setM 10 (cM 1 [3] (lH (af (aa 1) aq)) (aH 0) bZ (bo 2 aA (af (aa 1) (af (ao (.int 4)) aq)))) ⟨lR ns many (c1::ks) fit rows (some (.int (tn:Int))) (some (.int (an:Int))) (some (.ptr kl)) (some (.ptr kh)) none none,O9⟩=.next ⟨lR ns many (c1::ks) fit rows (some (.int (tn:Int))) (some (.int (an:Int))) (some (.ptr kl)) (some (.ptr kh)) (some (vI far)) none,O10⟩:=aZ e14 rfl
 have add0:∀O,bK O (vI fit) (.lst [.int 0])=.ok (vI (fit++[0])):=λO=>by
  rw[i9 (by simp;omega)]
  show _=Res.ok (D.lst ((fit++[0]).map D.int))
  rw[List.map_append];rfl
 have addT:∀O,bK O (vI (fit.take an)) (vI (fit.drop (an+1)))=.ok (vI (fit.take an++fit.drop (an+1))):=λO=>by
  rw[i9 (by simp;omega),<- List.map_append]
 have addS:∀O,bK O (vI fit) (vI fit)=.ok (vI (fit++fit)):=λO=>by
  rw[i9 (by simp;omega),<- List.map_append]
 have addI1:∀O,bK O (.int (an:Int)) (.int 1)=.ok (.int ((an+1:Nat):Int)):=λO=>by rw[i6];rfl
 have elst:i0 (af (aj bK (aa 4) (i0 (af (ao (.int 0)) aq))) (af (aj bK (slM (aa 4) dw (part (aa 7))) (slM (aa 4) (part (aj bK (aa 7) (ao (.int 1)))) dw)) (af (fM (aa 8)) (af (fM (aa 9)) (af (aa 10) (af (aj bK (aa 4) (aa 4)) (af (aa 4) aq))))))) ⟨lR ns many (c1::ks) fit rows (some (.int (tn:Int))) (some (.int (an:Int))) (some (.ptr kl)) (some (.ptr kh)) (some (vI far)) none,O10⟩=.ok (.lst ([fit++[0],fit.take an++fit.drop (an+1),low,high,far,fit++fit,fit].map vI),⟨lR ns many (c1::ks) fit rows (some (.int (tn:Int))) (some (.int (an:Int))) (some (.ptr kl)) (some (.ptr kh)) (some (vI far)) none,(O10.set kl .dead).set kh .dead⟩):=
  sS (ar (aL (ag rfl) (sS (ar (aM _ _) (aC _)) (by simp)) (add0 _)) (ar (aL (oN (ag rfl) (iZ _) (jx (ag rfl)) fo lS) (oN (ag rfl) (jx (aL (ag rfl) (aM _ _) (addI1 _))) (iZ _) fo (oU (by omega))) (addT _)) (ar (kM (ag rfl) c10 rfl) (ar (kM (ag rfl) (by rw[df kn];exact c10') rfl) (ar (ag rfl) (ar (aL (ag rfl) (ag rfl) (addS _)) (ar (ag rfl) (aC _)))))))) (by simp)
 have fz31:SzL 31 fit:=fz'.mono (by decide)
 have good:∀x∈[fit++[0],fit.take an++fit.drop (an+1),low,high,far,fit++fit,fit],SzL 31 x/\x.length<=100:=λx hx=>by
  have both:∀{a b:List Int},SzL 31 a->SzL 31 b->SzL 31 (a++b):=λha hb y hy=>(List.mem_append.mp hy).elim (ha y) (hb y)
  simp only[List.mem_cons,List.not_mem_nil,or_false] at hx
  rcases hx with rfl | rfl | rfl | rfl | rfl | rfl | rfl
  ·exact⟨both fz31 λy hy=>by rw[List.mem_singleton.mp hy];exact Sz.zero _,by simp;omega⟩
  ·exact⟨both (λy hy=>fz31 y (List.mem_of_mem_take hy)) (λy hy=>fz31 y (List.mem_of_mem_drop hy)),by simp;omega⟩
  ·exact⟨lz,by omega⟩
  ·exact⟨hz,by omega⟩
  ·exact⟨faz,by omega⟩
  ·exact⟨both fz31 fz31,by simp;omega⟩
  ·exact⟨fz31,by omega⟩
 generalize [fit++[0],fit.take an++fit.drop (an+1),low,high,far,fit++fit,fit]=A at elst good
 obtain⟨y11,el⟩:=yL (ns:=ns) (cs:=c1::ks) (fit:=fit) (A:=A) (O:=(O10.set kl .dead).set kh .dead) (x6:=some (.int (tn:Int))) (x7:=some (.int (an:Int))) (x8:=some (.ptr kl)) (x9:=some (.ptr kh)) (x10:=some (vI far)) rok m0 (A.map vI) A none good
 have e15:=gb (im:=listI (i0 (af (aj bK (aa 4) (i0 (af (ao (.int 0)) aq))) (af (aj bK (slM (aa 4) dw (part (aa 7))) (slM (aa 4) (part (aj bK (aa 7) (ao (.int 1)))) dw)) (af (fM (aa 8)) (af (fM (aa 9)) (af (aa 10) (af (aj bK (aa 4) (aa 4)) (af (aa 4) aq))))))))) (g:=aH 11) (body:=qk) (s:=⟨lR ns many (c1::ks) fit rows (some (.int (tn:Int))) (some (.int (an:Int))) (some (.ptr kl)) (some (.ptr kh)) (some (vI far)) none,O10⟩) (ds:=A.map vI) (k:=none) (s1:=⟨lR ns many (c1::ks) fit rows (some (.int (tn:Int))) (some (.int (an:Int))) (some (.ptr kl)) (some (.ptr kh)) (some (vI far)) none,(O10.set kl .dead).set kh .dead⟩) (by
  rw[cD]
  exact(congrArg (λr=>Res.bind r _) elst).trans rfl)
 rw[el] at e15
 refine E3 ⟨⟨lR ns many (c1::ks) fit rows (some (.int (tn:Int))) (some (.int (an:Int))) (some (.ptr kl)) (some (.ptr kh)) (some (vI far)) y11,(O10.set kl .dead).set kh .dead⟩, ?_⟩
 show zy ⟨[some (vI ns),none,none,none,none,none,none,none,none,none,none,none],[]⟩=_
 rw[zy]
 exact aP e1 (aP e2 (aP e3 (aP e4 (aP e5 (aP e6 (aP e7 (aP e8 (aP e9 (aP e10 (aP e11 (aP e12 (aP e13 (aP e14 (aP e15 (bQ (aM _ _))))))))))))))))
end Lk19
namespace Lk19
open PySem PySem.Spec PyProof.Rows L2 M
theorem all_mk {l:PySem.W.OpenLaw} {w:World} {K:PySem.W.Frag} {h:Heap} {mg:Str->Option Value} {fa f0 f1 f2 f3 f4 f5 f6 f7 f8 f9 f10 f11 f12 f13 f14 f15 f16 f17 f18 f19 f20 f21 f22 f23 f24 f25 f26 f27 f28 C_NoFit C_YardError C_NoWeights C_NoWay C_NoText C_NoRow C_NoRatio C_NoName C_NoGood C_NoBalance C_NoAmount C_TooMany C_NoWork:Addr} (X:K.In h) (G:h.Ns mainGlobals mg) (hfa:mg "law" =some (.ref fa)) (hpt:l.prog.given.tree=none)
 {od0 an0 od1 an1 od2 an2 od3 an3 od4 an4 od5 an5 od6 an6 od7 an7 od8 an8 od9 an9 od10 an10 od11 an11 od12 an12 od13 an13 od14 an14 od15 an15 od16 an16 od17 an17 od18 an18 od19 an19 od20 an20 od21 an21 od22 an22 od23 an23 od24 an24 od25 an25 od26 an26 od27 an27 od28 an28:Option Addr} {sl0 sl1 sl2 sl3 sl4 sl5 sl6 sl7 sl8 sl9 sl10 sl11 sl12 sl13 sl14 sl15 sl16 sl17 sl18 sl19 sl20 sl21 sl22 sl23 sl24 sl25 sl26 sl27 sl28:Array (Option Value)} {oc0 kV0 dc0 pm0 cd0 ct0 oc1 kV1 dc1 pm1 cd1 ct1 oc2 kV2 dc2 pm2 cd2 ct2 oc3 kV3 dc3 pm3 cd3 ct3 oc4 kV4 dc4 pm4 cd4 ct4 oc5 kV5 dc5 pm5 cd5 ct5 oc6 kV6 dc6 pm6 cd6 ct6 oc7 kV7 dc7 pm7 cd7 ct7 oc8 kV8 dc8 pm8 cd8 ct8 oc9 kV9 dc9 pm9 cd9 ct9 oc10 kV10 dc10 pm10 cd10 ct10 oc11 kV11 dc11 pm11 cd11 ct11 oc12 kV12 dc12 pm12 cd12 ct12 oc13 kV13 dc13 pm13 cd13 ct13 oc14 kV14 dc14 pm14 cd14 ct14 oc15 kV15 dc15 pm15 cd15 ct15 oc16 kV16 dc16 pm16 cd16 ct16 oc17 kV17 dc17 pm17 cd17 ct17 oc18 kV18 dc18 pm18 cd18 ct18 oc19 kV19 dc19 pm19 cd19 ct19 oc20 kV20 dc20 pm20 cd20 ct20 oc21 kV21 dc21 pm21 cd21 ct21 oc22 kV22 dc22 pm22 cd22 ct22 oc23 kV23 dc23 pm23 cd23 ct23 oc24 kV24 dc24 pm24 cd24 ct24 oc25 kV25 dc25 pm25 cd25 ct25 oc26 kV26 dc26 pm26 cd26 ct26 oc27 kV27 dc27 pm27 cd27 ct27 oc28 kV28 dc28 pm28 cd28 ct28:Value}
 (aC_NoFit:PySem.W.nsIn K mainGlobals "NoFit" =some (some (.ref C_NoFit)))
 (aC_YardError:PySem.W.nsIn K mainGlobals "YardError" =some (some (.ref C_YardError)))
 (aC_NoWeights:PySem.W.nsIn K mainGlobals "NoWeights" =some (some (.ref C_NoWeights)))
 (aC_NoWay:PySem.W.nsIn K mainGlobals "NoWay" =some (some (.ref C_NoWay)))
 (aC_NoText:PySem.W.nsIn K mainGlobals "NoText" =some (some (.ref C_NoText)))
 (aC_NoRow:PySem.W.nsIn K mainGlobals "NoRow" =some (some (.ref C_NoRow)))
 (aC_NoRatio:PySem.W.nsIn K mainGlobals "NoRatio" =some (some (.ref C_NoRatio)))
 (aC_NoName:PySem.W.nsIn K mainGlobals "NoName" =some (some (.ref C_NoName)))
 (aC_NoGood:PySem.W.nsIn K mainGlobals "NoGood" =some (some (.ref C_NoGood)))
 (aC_NoBalance:PySem.W.nsIn K mainGlobals "NoBalance" =some (some (.ref C_NoBalance)))
 (aC_NoAmount:PySem.W.nsIn K mainGlobals "NoAmount" =some (some (.ref C_NoAmount)))
 (aC_TooMany:PySem.W.nsIn K mainGlobals "TooMany" =some (some (.ref C_TooMany)))
 (aC_NoWork:PySem.W.nsIn K mainGlobals "NoWork" =some (some (.ref C_NoWork)))
 (gt0:PySem.W.specialIn K (.builtin "object.__class__") "__get__" =some (some (.builtin "getset_descriptor.__get__")))
 (tk0:PySem.W.takesIn K (.builtin "object.__class__")=some true)
 (ga_NoFit:PySem.W.findIn K (.ref C_NoFit) "__getattribute__" =some (some (.builtin "BaseException.__getattribute__")))
 (gh_NoFit:PySem.W.findIn K (.ref C_NoFit) "__getattr__" =some none)
 (gc_NoFit:PySem.W.findIn K (.ref C_NoFit) "__class__" =some (some (.builtin "object.__class__")))
 (mo_NoFit:PySem.W.mroIn K C_NoFit (.type "object")=some true)
 (mb_NoFit:PySem.W.mroIn K C_NoFit (.type "BaseException")=some true)
 (xq_NoFit:PySem.W.excIn K C_NoFit bmV "ValueError.__new__" =true)
 (ex_YardError_NoFit:PySem.W.exmOne K (.ref C_NoFit) (.ref C_YardError)=some true)
 (iy_ValueError_NoFit:PySem.W.kitOne K (.ref C_NoFit) (.type "ValueError")=some true)
 (ik_NoFit_NoFit:PySem.W.kitOne K (.ref C_NoFit) (.ref C_NoFit)=some true)
 (it_NoAmount_NoBalance_NoGood_NoName_NoRatio_NoRow_NoText_NoWay_NoWeights_NoFit:PySem.W.kitAny K (.ref C_NoFit) [.ref C_NoAmount,.ref C_NoBalance,.ref C_NoGood,.ref C_NoName,.ref C_NoRatio,.ref C_NoRow,.ref C_NoText,.ref C_NoWay,.ref C_NoWeights]=some false)
 (it_NoWork_TooMany_NoFit:PySem.W.kitAny K (.ref C_NoFit) [.ref C_NoWork,.ref C_TooMany]=some false)
 (a0:PySem.W.nsIn K mainGlobals "is_whole" =some (some (.ref f0)))
 (l0:K.lookup f0=some ⟨oc0,od0,.func (PySem.W.fnOf "is_whole" "is_whole" (bj ip) (aW ip) (aD ip) .none kV0 dc0 pm0 an0 cd0 ct0),sl0⟩)
 (c0:PySem.W.codeIn K cd0 "is_whole" =true)
 (k0:PySem.W.keepIn K (.ref f0)=true)
 (a1:PySem.W.nsIn K mainGlobals "measure_of_two" =some (some (.ref f1)))
 (l1:K.lookup f1=some ⟨oc1,od1,.func (PySem.W.fnOf "measure_of_two" "measure_of_two" (bj dI) (aW dI) (aD dI) .none kV1 dc1 pm1 an1 cd1 ct1),sl1⟩)
 (c1:PySem.W.codeIn K cd1 "measure_of_two" =true)
 (k1:PySem.W.keepIn K (.ref f1)=true)
 (a2:PySem.W.nsIn K mainGlobals "measure" =some (some (.ref f2)))
 (l2:K.lookup f2=some ⟨oc2,od2,.func (PySem.W.fnOf "measure" "measure" (bj jk) (aW jk) (aD jk) .none kV2 dc2 pm2 an2 cd2 ct2),sl2⟩)
 (c2:PySem.W.codeIn K cd2 "measure" =true)
 (k2:PySem.W.keepIn K (.ref f2)=true)
 (a3:PySem.W.nsIn K mainGlobals "lowest" =some (some (.ref f3)))
 (l3:K.lookup f3=some ⟨oc3,od3,.func (PySem.W.fnOf "lowest" "lowest" (bj jW) (aW jW) (aD jW) .none kV3 dc3 pm3 an3 cd3 ct3),sl3⟩)
 (c3:PySem.W.codeIn K cd3 "lowest" =true)
 (k3:PySem.W.keepIn K (.ref f3)=true)
 (a4:PySem.W.nsIn K mainGlobals "ratio" =some (some (.ref f4)))
 (l4:K.lookup f4=some ⟨oc4,od4,.func (PySem.W.fnOf "ratio" "ratio" (bj kU) (aW kU) (aD kU) .none kV4 dc4 pm4 an4 cd4 ct4),sl4⟩)
 (c4:PySem.W.codeIn K cd4 "ratio" =true)
 (k4:PySem.W.keepIn K (.ref f4)=true)
 (a5:PySem.W.nsIn K mainGlobals "sum_of_products" =some (some (.ref f5)))
 (l5:K.lookup f5=some ⟨oc5,od5,.func (PySem.W.fnOf "sum_of_products" "sum_of_products" (bj dE) (aW dE) (aD dE) .none kV5 dc5 pm5 an5 cd5 ct5),sl5⟩)
 (c5:PySem.W.codeIn K cd5 "sum_of_products" =true)
 (k5:PySem.W.keepIn K (.ref f5)=true)
 (a6:PySem.W.nsIn K mainGlobals "unit" =some (some (.ref f6)))
 (l6:K.lookup f6=some ⟨oc6,od6,.func (PySem.W.fnOf "unit" "unit" (bj mK) (aW mK) (aD mK) .none kV6 dc6 pm6 an6 cd6 ct6),sl6⟩)
 (c6:PySem.W.codeIn K cd6 "unit" =true)
 (k6:PySem.W.keepIn K (.ref f6)=true)
 (a7:PySem.W.nsIn K mainGlobals "units" =some (some (.ref f7)))
 (l7:K.lookup f7=some ⟨oc7,od7,.func (PySem.W.fnOf "units" "units" (bj kW) (aW kW) (aD kW) .none kV7 dc7 pm7 an7 cd7 ct7),sl7⟩)
 (c7:PySem.W.codeIn K cd7 "units" =true)
 (k7:PySem.W.keepIn K (.ref f7)=true)
 (a8:PySem.W.nsIn K mainGlobals "offset" =some (some (.ref f8)))
 (l8:K.lookup f8=some ⟨oc8,od8,.func (PySem.W.fnOf "offset" "offset" (bj jR) (aW jR) (aD jR) .none kV8 dc8 pm8 an8 cd8 ct8),sl8⟩)
 (c8:PySem.W.codeIn K cd8 "offset" =true)
 (k8:PySem.W.keepIn K (.ref f8)=true)
 (a9:PySem.W.nsIn K mainGlobals "first_not_nought" =some (some (.ref f9)))
 (l9:K.lookup f9=some ⟨oc9,od9,.func (PySem.W.fnOf "first_not_nought" "first_not_nought" (bj dg) (aW dg) (aD dg) .none kV9 dc9 pm9 an9 cd9 ct9),sl9⟩)
 (c9:PySem.W.codeIn K cd9 "first_not_nought" =true)
 (k9:PySem.W.keepIn K (.ref f9)=true)
 (a10:PySem.W.nsIn K mainGlobals "places_of" =some (some (.ref f10)))
 (l10:K.lookup f10=some ⟨oc10,od10,.func (PySem.W.fnOf "places_of" "places_of" (bj gP) (aW gP) (aD gP) .none kV10 dc10 pm10 an10 cd10 ct10),sl10⟩)
 (c10:PySem.W.codeIn K cd10 "places_of" =true)
 (k10:PySem.W.keepIn K (.ref f10)=true)
 (a11:PySem.W.nsIn K mainGlobals "is_among" =some (some (.ref f11)))
 (l11:K.lookup f11=some ⟨oc11,od11,.func (PySem.W.fnOf "is_among" "is_among" (bj iq) (aW iq) (aD iq) .none kV11 dc11 pm11 an11 cd11 ct11),sl11⟩)
 (c11:PySem.W.codeIn K cd11 "is_among" =true)
 (k11:PySem.W.keepIn K (.ref f11)=true)
 (a12:PySem.W.nsIn K mainGlobals "are_neighbours" =some (some (.ref f12)))
 (l12:K.lookup f12=some ⟨oc12,od12,.func (PySem.W.fnOf "are_neighbours" "are_neighbours" (bj dJ) (aW dJ) (aD dJ) .none kV12 dc12 pm12 an12 cd12 ct12),sl12⟩)
 (c12:PySem.W.codeIn K cd12 "are_neighbours" =true)
 (k12:PySem.W.keepIn K (.ref f12)=true)
 (a13:PySem.W.nsIn K mainGlobals "lone_by_one_more" =some (some (.ref f13)))
 (l13:K.lookup f13=some ⟨oc13,od13,.func (PySem.W.fnOf "lone_by_one_more" "lone_by_one_more" (bj dh) (aW dh) (aD dh) .none kV13 dc13 pm13 an13 cd13 ct13),sl13⟩)
 (c13:PySem.W.codeIn K cd13 "lone_by_one_more" =true)
 (k13:PySem.W.keepIn K (.ref f13)=true)
 (a14:PySem.W.nsIn K mainGlobals "lone" =some (some (.ref f14)))
 (l14:K.lookup f14=some ⟨oc14,od14,.func (PySem.W.fnOf "lone" "lone" (bj mO) (aW mO) (aD mO) .none kV14 dc14 pm14 an14 cd14 ct14),sl14⟩)
 (c14:PySem.W.codeIn K cd14 "lone" =true)
 (k14:PySem.W.keepIn K (.ref f14)=true)
 (a15:PySem.W.nsIn K mainGlobals "check_fit" =some (some (.ref f15)))
 (l15:K.lookup f15=some ⟨oc15,od15,.func (PySem.W.fnOf "check_fit" "check_fit" (bj gR) (aW gR) (aD gR) .none kV15 dc15 pm15 an15 cd15 ct15),sl15⟩)
 (c15:PySem.W.codeIn K cd15 "check_fit" =true)
 (k15:PySem.W.keepIn K (.ref f15)=true)
 (a16:PySem.W.nsIn K mainGlobals "tightest_place" =some (some (.ref f16)))
 (l16:K.lookup f16=some ⟨oc16,od16,.func (PySem.W.fnOf "tightest_place" "tightest_place" (bj dS) (aW dS) (aD dS) .none kV16 dc16 pm16 an16 cd16 ct16),sl16⟩)
 (c16:PySem.W.codeIn K cd16 "tightest_place" =true)
 (k16:PySem.W.keepIn K (.ref f16)=true)
 (a17:PySem.W.nsIn K mainGlobals "shares" =some (some (.ref f17)))
 (l17:K.lookup f17=some ⟨oc17,od17,.func (PySem.W.fnOf "shares" "shares" (bj jO) (aW jO) (aD jO) .none kV17 dc17 pm17 an17 cd17 ct17),sl17⟩)
 (c17:PySem.W.codeIn K cd17 "shares" =true)
 (k17:PySem.W.keepIn K (.ref f17)=true)
 (a18:PySem.W.nsIn K mainGlobals "_law_cell" =some (some (.ref f18)))
 (l18:K.lookup f18=some ⟨oc18,od18,.func (PySem.W.fnOf "_law_cell" "_law_cell" (bj iz) (aW iz) (aD iz) .none kV18 dc18 pm18 an18 cd18 ct18),sl18⟩)
 (c18:PySem.W.codeIn K cd18 "_law_cell" =true)
 (k18:PySem.W.keepIn K (.ref f18)=true)
 (a19:PySem.W.nsIn K mainGlobals "_law_bag" =some (some (.ref f19)))
 (l19:K.lookup f19=some ⟨oc19,od19,.func (PySem.W.fnOf "_law_bag" "_law_bag" (bj jb) (aW jb) (aD jb) .none kV19 dc19 pm19 an19 cd19 ct19),sl19⟩)
 (c19:PySem.W.codeIn K cd19 "_law_bag" =true)
 (k19:PySem.W.keepIn K (.ref f19)=true)
 (a20:PySem.W.nsIn K mainGlobals "_law_draw" =some (some (.ref f20)))
 (l20:K.lookup f20=some ⟨oc20,od20,.func (PySem.W.fnOf "_law_draw" "_law_draw" (bj ir) (aW ir) (aD ir) .none kV20 dc20 pm20 an20 cd20 ct20),sl20⟩)
 (c20:PySem.W.codeIn K cd20 "_law_draw" =true)
 (k20:PySem.W.keepIn K (.ref f20)=true)
 (a21:PySem.W.nsIn K mainGlobals "_law_number" =some (some (.ref f21)))
 (l21:K.lookup f21=some ⟨oc21,od21,.func (PySem.W.fnOf "_law_number" "_law_number" (bj gh) (aW gh) (aD gh) .none kV21 dc21 pm21 an21 cd21 ct21),sl21⟩)
 (c21:PySem.W.codeIn K cd21 "_law_number" =true)
 (k21:PySem.W.keepIn K (.ref f21)=true)
 (a22:PySem.W.nsIn K mainGlobals "_law_product" =some (some (.ref f22)))
 (l22:K.lookup f22=some ⟨oc22,od22,.func (PySem.W.fnOf "_law_product" "_law_product" (bj fg) (aW fg) (aD fg) .none kV22 dc22 pm22 an22 cd22 ct22),sl22⟩)
 (c22:PySem.W.codeIn K cd22 "_law_product" =true)
 (k22:PySem.W.keepIn K (.ref f22)=true)
 (a23:PySem.W.nsIn K mainGlobals "_law_fit" =some (some (.ref f23)))
 (l23:K.lookup f23=some ⟨oc23,od23,.func (PySem.W.fnOf "_law_fit" "_law_fit" (bj jm) (aW jm) (aD jm) .none kV23 dc23 pm23 an23 cd23 ct23),sl23⟩)
 (c23:PySem.W.codeIn K cd23 "_law_fit" =true)
 (k23:PySem.W.keepIn K (.ref f23)=true)
 (a24:PySem.W.nsIn K mainGlobals "_law_closed" =some (some (.ref f24)))
 (l24:K.lookup f24=some ⟨oc24,od24,.func (PySem.W.fnOf "_law_closed" "_law_closed" (bj gd) (aW gd) (aD gd) .none kV24 dc24 pm24 an24 cd24 ct24),sl24⟩)
 (c24:PySem.W.codeIn K cd24 "_law_closed" =true)
 (k24:PySem.W.keepIn K (.ref f24)=true)
 (a25:PySem.W.nsIn K mainGlobals "_law_turned" =some (some (.ref f25)))
 (l25:K.lookup f25=some ⟨oc25,od25,.func (PySem.W.fnOf "_law_turned" "_law_turned" (bj fU) (aW fU) (aD fU) .none kV25 dc25 pm25 an25 cd25 ct25),sl25⟩)
 (c25:PySem.W.codeIn K cd25 "_law_turned" =true)
 (k25:PySem.W.keepIn K (.ref f25)=true)
 (a26:PySem.W.nsIn K mainGlobals "_law_refused" =some (some (.ref f26)))
 (l26:K.lookup f26=some ⟨oc26,od26,.func (PySem.W.fnOf "_law_refused" "_law_refused" (bj fi) (aW fi) (aD fi) .none kV26 dc26 pm26 an26 cd26 ct26),sl26⟩)
 (c26:PySem.W.codeIn K cd26 "_law_refused" =true)
 (k26:PySem.W.keepIn K (.ref f26)=true)
 (a27:PySem.W.nsIn K mainGlobals "_law_right" =some (some (.ref f27)))
 (l27:K.lookup f27=some ⟨oc27,od27,.func (PySem.W.fnOf "_law_right" "_law_right" (bj gQ) (aW gQ) (aD gQ) .none kV27 dc27 pm27 an27 cd27 ct27),sl27⟩)
 (c27:PySem.W.codeIn K cd27 "_law_right" =true)
 (k27:PySem.W.keepIn K (.ref f27)=true)
 (a28:PySem.W.nsIn K mainGlobals "law" =some (some (.ref f28)))
 (l28:K.lookup f28=some ⟨oc28,od28,.func (PySem.W.fnOf "law" "law" (bj kI) (aW kI) (aD kI) .none kV28 dc28 pm28 an28 cd28 ct28),sl28⟩)
 (c28:PySem.W.codeIn K cd28 "law" =true)
 (k28:PySem.W.keepIn K (.ref f28)=true)
 (z_isinstance:PySem.W.nsIn K mainGlobals "isinstance" =some none)
 (z_int:PySem.W.nsIn K mainGlobals "int" =some none)
 (z_bool:PySem.W.nsIn K mainGlobals "bool" =some none)
 (z_abs:PySem.W.nsIn K mainGlobals "abs" =some none)
 (z_list:PySem.W.nsIn K mainGlobals "list" =some none)
 (z_zip:PySem.W.nsIn K mainGlobals "zip" =some none)
 (z_sum:PySem.W.nsIn K mainGlobals "sum" =some none)
 (z_range:PySem.W.nsIn K mainGlobals "range" =some none)
 (z_enumerate:PySem.W.nsIn K mainGlobals "enumerate" =some none)
 (z_len:PySem.W.nsIn K mainGlobals "len" =some none)
 (z_sorted:PySem.W.nsIn K mainGlobals "sorted" =some none)
 (z_any:PySem.W.nsIn K mainGlobals "any" =some none)
 (z_ValueError:PySem.W.nsIn K mainGlobals "ValueError" =some none)
 (z_min:PySem.W.nsIn K mainGlobals "min" =some none)
 (z_all:PySem.W.nsIn K mainGlobals "all" =some none):
 ∃fd:FuncData,(∀(s:Shared) (v:Value),BindsTo s fd ⟨[v],[]⟩ [("_law_script",v)])/\∀base:Heap,K.In base->base.Ns mainGlobals mg->fV l.prog w K mg base (CXE l.prog w) 44 fa fd ["_law_script"] (spM K (caK K) 1 ve):=by
 have e:=hfa.symm.trans (PySem.W.mg_of X G a28)
 cases e
 have hC_NoFit:caK K 1=C_NoFit:=by show clsAt K "NoFit" =_;unfold clsAt;rw[aC_NoFit]
 have hC_YardError:caK K 2=C_YardError:=by show clsAt K "YardError" =_;unfold clsAt;rw[aC_YardError]
 have hC_NoWeights:caK K 11=C_NoWeights:=by show clsAt K "NoWeights" =_;unfold clsAt;rw[aC_NoWeights]
 have hC_NoWay:caK K 5=C_NoWay:=by show clsAt K "NoWay" =_;unfold clsAt;rw[aC_NoWay]
 have hC_NoText:caK K 9=C_NoText:=by show clsAt K "NoText" =_;unfold clsAt;rw[aC_NoText]
 have hC_NoRow:caK K 8=C_NoRow:=by show clsAt K "NoRow" =_;unfold clsAt;rw[aC_NoRow]
 have hC_NoRatio:caK K 10=C_NoRatio:=by show clsAt K "NoRatio" =_;unfold clsAt;rw[aC_NoRatio]
 have hC_NoName:caK K 7=C_NoName:=by show clsAt K "NoName" =_;unfold clsAt;rw[aC_NoName]
 have hC_NoGood:caK K 6=C_NoGood:=by show clsAt K "NoGood" =_;unfold clsAt;rw[aC_NoGood]
 have hC_NoBalance:caK K 4=C_NoBalance:=by show clsAt K "NoBalance" =_;unfold clsAt;rw[aC_NoBalance]
 have hC_NoAmount:caK K 3=C_NoAmount:=by show clsAt K "NoAmount" =_;unfold clsAt;rw[aC_NoAmount]
 have hC_TooMany:caK K 13=C_TooMany:=by show clsAt K "TooMany" =_;unfold clsAt;rw[aC_TooMany]
 have hC_NoWork:caK K 12=C_NoWork:=by show clsAt K "NoWork" =_;unfold clsAt;rw[aC_NoWork]
 have xm_NoFit:mg "NoFit" =some (.ref (caK K 1)):=by rw[hC_NoFit];exact PySem.W.mg_of X G aC_NoFit
 have xm_YardError:mg "YardError" =some (.ref (caK K 2)):=by rw[hC_YardError];exact PySem.W.mg_of X G aC_YardError
 have xm_NoWeights:mg "NoWeights" =some (.ref (caK K 11)):=by rw[hC_NoWeights];exact PySem.W.mg_of X G aC_NoWeights
 have xm_NoWay:mg "NoWay" =some (.ref (caK K 5)):=by rw[hC_NoWay];exact PySem.W.mg_of X G aC_NoWay
 have xm_NoText:mg "NoText" =some (.ref (caK K 9)):=by rw[hC_NoText];exact PySem.W.mg_of X G aC_NoText
 have xm_NoRow:mg "NoRow" =some (.ref (caK K 8)):=by rw[hC_NoRow];exact PySem.W.mg_of X G aC_NoRow
 have xm_NoRatio:mg "NoRatio" =some (.ref (caK K 10)):=by rw[hC_NoRatio];exact PySem.W.mg_of X G aC_NoRatio
 have xm_NoName:mg "NoName" =some (.ref (caK K 7)):=by rw[hC_NoName];exact PySem.W.mg_of X G aC_NoName
 have xm_NoGood:mg "NoGood" =some (.ref (caK K 6)):=by rw[hC_NoGood];exact PySem.W.mg_of X G aC_NoGood
 have xm_NoBalance:mg "NoBalance" =some (.ref (caK K 4)):=by rw[hC_NoBalance];exact PySem.W.mg_of X G aC_NoBalance
 have xm_NoAmount:mg "NoAmount" =some (.ref (caK K 3)):=by rw[hC_NoAmount];exact PySem.W.mg_of X G aC_NoAmount
 have xm_TooMany:mg "TooMany" =some (.ref (caK K 13)):=by rw[hC_TooMany];exact PySem.W.mg_of X G aC_TooMany
 have xm_NoWork:mg "NoWork" =some (.ref (caK K 12)):=by rw[hC_NoWork];exact PySem.W.mg_of X G aC_NoWork
 have xk_NoFit:ExK K (caK K 1):=by rw[hC_NoFit];exact⟨ga_NoFit,gh_NoFit,gc_NoFit,gt0,tk0,mo_NoFit,mb_NoFit⟩
 have xxq_NoFit:PySem.W.excIn K (caK K 1) bmV "ValueError.__new__" =true:=by rw[hC_NoFit];exact xq_NoFit
 have xex_YardError:∀c b,jr c=some b->PySem.W.exmOne K (.ref (caK K c)) (.ref (caK K 2))=some b:=by
  intro c b h
  unfold jr at h
  split at h
  ·cases h;exact(by rw[hC_NoFit,hC_YardError];exact ex_YardError_NoFit)
  ·cases h
 have xiy_ValueError:∀c b,iN c=some b->ExK K (caK K c)/\PySem.W.kitOne K (.ref (caK K c)) (.type "ValueError")=some b:=by
  intro c b h
  unfold iN at h
  split at h
  ·cases h;exact⟨xk_NoFit,by rw[hC_NoFit];exact iy_ValueError_NoFit⟩
  ·cases h
 have xik_NoFit:∀c b,nV c=some b->ExK K (caK K c)/\PySem.W.kitOne K (.ref (caK K c)) (.ref (caK K 1))=some b:=by
  intro c b h
  unfold nV at h
  split at h
  ·cases h;exact⟨xk_NoFit,by rw[hC_NoFit];exact ik_NoFit_NoFit⟩
  ·cases h
 have xit_NoAmount_NoBalance_NoGood_NoName_NoRatio_NoRow_NoText_NoWay_NoWeights:∀c b,aR c=some b->ExK K (caK K c)/\PySem.W.kitAny K (.ref (caK K c)) ([caK K 3,caK K 4,caK K 6,caK K 7,caK K 10,caK K 8,caK K 9,caK K 5,caK K 11].map Value.ref)=some b:=by
  intro c b h
  unfold aR at h
  split at h
  ·cases h;exact⟨xk_NoFit,by show PySem.W.kitAny K (.ref (caK K 1)) [.ref (caK K 3),.ref (caK K 4),.ref (caK K 6),.ref (caK K 7),.ref (caK K 10),.ref (caK K 8),.ref (caK K 9),.ref (caK K 5),.ref (caK K 11)]=_;rw[hC_NoFit,hC_NoAmount,hC_NoBalance,hC_NoGood,hC_NoName,hC_NoRatio,hC_NoRow,hC_NoText,hC_NoWay,hC_NoWeights];exact it_NoAmount_NoBalance_NoGood_NoName_NoRatio_NoRow_NoText_NoWay_NoWeights_NoFit⟩
  ·cases h
 have xit_NoWork_TooMany:∀c b,fQ c=some b->ExK K (caK K c)/\PySem.W.kitAny K (.ref (caK K c)) ([caK K 12,caK K 13].map Value.ref)=some b:=by
  intro c b h
  unfold fQ at h
  split at h
  ·cases h;exact⟨xk_NoFit,by show PySem.W.kitAny K (.ref (caK K 1)) [.ref (caK K 12),.ref (caK K 13)]=_;rw[hC_NoFit,hC_NoWork,hC_TooMany];exact it_NoWork_TooMany_NoFit⟩
  ·cases h
 have F0:=bS (st:=ip) l0 c0 k0
 have F1:=bS (st:=dI) l1 c1 k1
 have F2:=bS (st:=jk) l2 c2 k2
 have F3:=bS (st:=jW) l3 c3 k3
 have F4:=bS (st:=kU) l4 c4 k4
 have F5:=bS (st:=dE) l5 c5 k5
 have F6:=bS (st:=mK) l6 c6 k6
 have F7:=bS (st:=kW) l7 c7 k7
 have F8:=bS (st:=jR) l8 c8 k8
 have F9:=bS (st:=dg) l9 c9 k9
 have F10:=bS (st:=gP) l10 c10 k10
 have F11:=bS (st:=iq) l11 c11 k11
 have F12:=bS (st:=dJ) l12 c12 k12
 have F13:=bS (st:=dh) l13 c13 k13
 have F14:=bS (st:=mO) l14 c14 k14
 have F15:=bS (st:=gR) l15 c15 k15
 have F16:=bS (st:=dS) l16 c16 k16
 have F17:=bS (st:=jO) l17 c17 k17
 have F18:=bS (st:=iz) l18 c18 k18
 have F19:=bS (st:=jb) l19 c19 k19
 have F20:=bS (st:=ir) l20 c20 k20
 have F21:=bS (st:=gh) l21 c21 k21
 have F22:=bS (st:=fg) l22 c22 k22
 have F23:=bS (st:=jm) l23 c23 k23
 have F24:=bS (st:=gd) l24 c24 k24
 have F25:=bS (st:=fU) l25 c25 k25
 have F26:=bS (st:=fi) l26 c26 k26
 have F27:=bS (st:=gQ) l27 c27 k27
 have F28:=bS (st:=kI) l28 c28 k28
 refine⟨PySem.W.fnOf "law" "law" (bj kI) (aW kI) (aD kI) .none kV28 dc28 pm28 an28 cd28 ct28,λs v=>.of_eq rfl,λbase _ _=> ?_⟩
 have E_is_whole:=xG (P:=l.prog) (w:=w) (mg:=mg) (base:=base) (ca:=caK K) F0 (PySem.W.mg_of X G a0) hpt (PySem.W.mg_none_of X G z_isinstance) (PySem.W.mg_none_of X G z_int) (PySem.W.mg_none_of X G z_bool)
 have E_measure_of_two:=qr (P:=l.prog) (w:=w) (mg:=mg) (base:=base) (ca:=caK K) F1 (PySem.W.mg_of X G a1) hpt (PySem.W.mg_none_of X G z_abs)
 have E_measure:=zX (P:=l.prog) (w:=w) (mg:=mg) (base:=base) (ca:=caK K) F2 (PySem.W.mg_of X G a2) hpt E_measure_of_two.in
 have E_lowest:=AB (P:=l.prog) (w:=w) (mg:=mg) (base:=base) (ca:=caK K) F3 (PySem.W.mg_of X G a3) hpt (PySem.W.mg_none_of X G z_list) E_measure.in
 have E_ratio:=Cy (P:=l.prog) (w:=w) (mg:=mg) (base:=base) (ca:=caK K) F4 (PySem.W.mg_of X G a4) hpt E_is_whole.in E_measure_of_two.in
 have E_sum_of_products:=ph (P:=l.prog) (w:=w) (mg:=mg) (base:=base) (ca:=caK K) F5 (PySem.W.mg_of X G a5) hpt (PySem.W.mg_none_of X G z_zip) (PySem.W.mg_none_of X G z_sum)
 have E_unit:=Et (P:=l.prog) (w:=w) (mg:=mg) (base:=base) (ca:=caK K) F6 (PySem.W.mg_of X G a6) hpt
 have E_units:=CY (P:=l.prog) (w:=w) (mg:=mg) (base:=base) (ca:=caK K) F7 (PySem.W.mg_of X G a7) hpt (PySem.W.mg_none_of X G z_range) E_unit.in
 have E_offset:=Bh (P:=l.prog) (w:=w) (mg:=mg) (base:=base) (ca:=caK K) F8 (PySem.W.mg_of X G a8) hpt (PySem.W.mg_none_of X G z_zip) E_lowest.in
 have E_first_not_nought:=om (P:=l.prog) (w:=w) (mg:=mg) (base:=base) (ca:=caK K) F9 (PySem.W.mg_of X G a9) hpt (PySem.W.mg_none_of X G z_enumerate)
 have E_places_of:=w6 (P:=l.prog) (w:=w) (mg:=mg) (base:=base) (ca:=caK K) F10 (PySem.W.mg_of X G a10) hpt
 have E_is_among:=xC (P:=l.prog) (w:=w) (mg:=mg) (base:=base) (ca:=caK K) F11 (PySem.W.mg_of X G a11) hpt
 have E_are_neighbours:=qp (P:=l.prog) (w:=w) (mg:=mg) (base:=base) (ca:=caK K) F12 (PySem.W.mg_of X G a12) hpt (PySem.W.mg_none_of X G z_len) E_is_among.in
 have E_lone_by_one_more:=oj (P:=l.prog) (w:=w) (mg:=mg) (base:=base) (ca:=caK K) F13 (PySem.W.mg_of X G a13) hpt (PySem.W.mg_none_of X G z_zip) (PySem.W.mg_none_of X G z_enumerate) E_sum_of_products.in E_places_of.in E_are_neighbours.in E_offset.in
 have E_lone:=EF (P:=l.prog) (w:=w) (mg:=mg) (base:=base) (ca:=caK K) F14 (PySem.W.mg_of X G a14) hpt (PySem.W.mg_none_of X G z_sorted) E_units.in E_lone_by_one_more.in
 have E_check_fit:=xv (P:=l.prog) (w:=w) (mg:=mg) (base:=base) (ca:=caK K) F15 (PySem.W.mg_of X G a15) hpt (PySem.W.mg_none_of X G z_len) (PySem.W.mg_none_of X G z_any) xxq_NoFit xm_NoFit E_sum_of_products.in
 have E_tightest_place:=qo (P:=l.prog) (w:=w) (mg:=mg) (base:=base) (ca:=caK K) F16 (PySem.W.mg_of X G a16) hpt (PySem.W.mg_none_of X G z_enumerate) E_first_not_nought.in
 have E_shares:=A5 (P:=l.prog) (w:=w) (mg:=mg) (base:=base) (ca:=caK K) F17 (PySem.W.mg_of X G a17) hpt (PySem.W.mg_none_of X G z_list) (PySem.W.mg_none_of X G z_zip) E_check_fit.in E_lone.in E_is_among.in E_places_of.in E_tightest_place.in E_ratio.in E_lowest.in
 have E_law_cell:=xT (P:=l.prog) (w:=w) (mg:=mg) (base:=base) (ca:=caK K) F18 (PySem.W.mg_of X G a18) hpt (PySem.W.mg_none_of X G z_len)
 have E_law_bag:=zA (P:=l.prog) (w:=w) (mg:=mg) (base:=base) (ca:=caK K) F19 (PySem.W.mg_of X G a19) hpt
 have E_law_draw:=ye (P:=l.prog) (w:=w) (mg:=mg) (base:=base) (ca:=caK K) F20 (PySem.W.mg_of X G a20) hpt
 have E_law_number:=uR (P:=l.prog) (w:=w) (mg:=mg) (base:=base) (ca:=caK K) F21 (PySem.W.mg_of X G a21) hpt E_law_draw.in
 have E_law_product:=tW (P:=l.prog) (w:=w) (mg:=mg) (base:=base) (ca:=caK K) F22 (PySem.W.mg_of X G a22) hpt (PySem.W.mg_none_of X G z_zip) (PySem.W.mg_none_of X G z_sum)
 have E_law_fit:=zH (P:=l.prog) (w:=w) (mg:=mg) (base:=base) (ca:=caK K) F23 (PySem.W.mg_of X G a23) hpt (PySem.W.mg_none_of X G z_range) E_law_draw.in
 have E_law_closed:=u5 (P:=l.prog) (w:=w) (mg:=mg) (base:=base) (ca:=caK K) F24 (PySem.W.mg_of X G a24) hpt (PySem.W.mg_none_of X G z_range) (PySem.W.mg_none_of X G z_len) (PySem.W.mg_none_of X G z_sum) E_law_bag.in E_law_number.in E_law_draw.in
 have E_law_turned:=va (P:=l.prog) (w:=w) (mg:=mg) (base:=base) (ca:=caK K) F25 (PySem.W.mg_of X G a25) hpt
 have E_law_refused:=t9 (P:=l.prog) (w:=w) (mg:=mg) (base:=base) (ca:=caK K) F26 (PySem.W.mg_of X G a26) hpt (PySem.W.mg_none_of X G z_isinstance) (PySem.W.mg_none_of X G z_ValueError) xm_YardError xex_YardError xiy_ValueError xm_NoFit xik_NoFit xm_NoWeights xm_NoWay xm_NoText xm_NoRow xm_NoRatio xm_NoName xm_NoGood xm_NoBalance xm_NoAmount xit_NoAmount_NoBalance_NoGood_NoName_NoRatio_NoRow_NoText_NoWay_NoWeights xm_TooMany xm_NoWork xit_NoWork_TooMany E_shares.in
 have E_law_right:=xo (P:=l.prog) (w:=w) (mg:=mg) (base:=base) (ca:=caK K) F27 (PySem.W.mg_of X G a27) hpt (PySem.W.mg_none_of X G z_list) (PySem.W.mg_none_of X G z_len) (PySem.W.mg_none_of X G z_min) (PySem.W.mg_none_of X G z_all) (PySem.W.mg_none_of X G z_isinstance) E_law_product.in E_shares.in E_law_refused.in
 have E_law:=Fy (P:=l.prog) (w:=w) (mg:=mg) (base:=base) (ca:=caK K) F28 (PySem.W.mg_of X G a28) hpt (PySem.W.mg_none_of X G z_len) (PySem.W.mg_none_of X G z_int) (PySem.W.mg_none_of X G z_list) (PySem.W.mg_none_of X G z_range) E_law_cell.in E_law_bag.in E_law_fit.in E_law_closed.in E_law_draw.in E_law_turned.in E_law_right.in
 exact E_law.1
end Lk19
open PySem PySem.W PyProof.Rows
theorem PySem.W.Fast.tw15849197921809112772:True:=⟨⟩
theorem PySem.W.Fast.tw1131027372144321391:True:=⟨⟩
theorem PySem.W.Fast.tw1051625558615165881:True:=⟨⟩
theorem PySem.W.Fast.tw4594114567536638698:True:=⟨⟩
theorem PySem.W.Fast.tw17351712394330862518:True:=⟨⟩
theorem PySem.W.Fast.tw5383303270592225394:True:=⟨⟩
theorem PySem.W.Fast.tw13635998651817867446:True:=⟨⟩
theorem PySem.W.Fast.tw11846067124810438374:True:=⟨⟩
theorem PySem.W.Fast.tw153569442591421310:True:=⟨⟩
theorem PySem.W.Fast.tw7678285169888115386:True:=⟨⟩
theorem PySem.W.Fast.tw12367718353757209007:True:=⟨⟩
theorem PySem.W.Fast.tw8902065116640060405:True:=⟨⟩
theorem PySem.W.Fast.tw14286788191646750604:True:=⟨⟩
theorem PySem.W.Fast.tw4726605136667496133:True:=⟨⟩
theorem PySem.W.Fast.tw1539919307734341817:True:=⟨⟩
theorem PySem.W.Fast.tw15671324831761011299:True:=⟨⟩
theorem PySem.W.Fast.tw6023638485315703559:True:=⟨⟩
theorem PySem.W.Fast.tw14298214453928926232:True:=⟨⟩
theorem PySem.W.Fast.tw13789444279922193001:True:=⟨⟩
theorem PySem.W.Fast.tw7553556589492038195:True:=⟨⟩
theorem PySem.W.Fast.tw13471165841818436380:True:=⟨⟩
theorem PySem.W.Fast.tw3202376374573190515:True:=⟨⟩
theorem PySem.W.Fast.tw7981587787937782149:True:=⟨⟩
theorem PySem.W.Fast.tw12219554378370132219:True:=⟨⟩
theorem PySem.W.Fast.tw8873998071850555183:True:=⟨⟩
theorem PySem.W.Fast.tw13595668230513413880:True:=⟨⟩
theorem PySem.W.Fast.tw2955823273494327578:True:=⟨⟩
theorem PySem.W.Fast.tw11960489384129783695:True:=⟨⟩
theorem PySem.W.Fast.tw8445945400944719249:True:=⟨⟩
theorem PySem.W.Fast.tw2936043280478834010:True:=⟨⟩
theorem PySem.W.Fast.tw17070504799552007370:True:=⟨⟩
theorem PySem.W.Fast.tw1752965754523263563:True:=⟨⟩
theorem PySem.W.Fast.tw2833927679277765191:True:=⟨⟩
theorem PySem.W.Fast.tw13717038621084026009:True:=⟨⟩
theorem PySem.W.Fast.tw3311621683115374579:True:=⟨⟩
theorem PySem.W.Fast.tw2501571395923886792:True:=⟨⟩
theorem PySem.W.Fast.tw17291788991521561236:True:=⟨⟩
theorem PySem.W.Fast.tw5718774259617916629:True:=⟨⟩
theorem PySem.W.Fast.tw3832540759587290423:True:=⟨⟩
theorem PySem.W.Fast.tw8785045080728957870:True:=⟨⟩
theorem PySem.W.Fast.tw3431668342458741426:True:=⟨⟩
theorem PySem.W.Fast.tw652124214052421115:True:=⟨⟩
theorem PySem.W.Fast.tw10617812436160721288:True:=⟨⟩
theorem PySem.W.Fast.tw15701666189428737204:True:=⟨⟩
theorem PySem.W.Fast.tw2923792473989362861:True:=⟨⟩
theorem PySem.W.Fast.tw1411099853925577165:True:=⟨⟩
theorem PySem.W.Fast.tw15565542624900051081:True:=⟨⟩
theorem PySem.W.Fast.tw17555224691300222221:True:=⟨⟩
theorem PySem.W.Fast.tw8774402152250608543:True:=⟨⟩
theorem PySem.W.Fast.tw10015523701054313571:True:=⟨⟩
theorem PySem.W.Fast.tw4235257261492511282:True:=⟨⟩
theorem PySem.W.Fast.tw12761093569073016875:True:=⟨⟩
theorem PySem.W.Fast.tw1071786099809343470:True:=⟨⟩
theorem PySem.W.Fast.tw9401544993406223028:True:=⟨⟩
theorem PySem.W.Fast.tw3047480066635196168:True:=⟨⟩
theorem PySem.W.Fast.tw3889912017139247542:True:=⟨⟩
theorem PySem.W.Fast.tw13576042194899305710:True:=⟨⟩
theorem PySem.W.Fast.tw16970566316339276162:True:=⟨⟩
theorem PySem.W.Fast.tw7061341079590602025:True:=⟨⟩
theorem PySem.W.Fast.tw962819885510421250:True:=⟨⟩
set_option maxRecDepth 100000 in
set_option maxHeartbeats 0 in
theorem PySem.Challenge.cw_modeyard_k19_lists_that_are_not_fit_holds : PySem.Challenge.rw_modeyard_k19_lists_that_are_not_fit.Holds := by
 w_on;o_law;k_head;(case hw=>w_witness2)
 k_fill
 refine L2.BN (l:=PySem.Challenge.rw_modeyard_k19_lists_that_are_not_fit) (n:=63) (k:=44) (x:="_law_script") (sp:=λK=>M.spM K (Lk19.caK K) 1 Lk19.ve) rfl (by decide) rfl ⟨rfl,by decide,by decide⟩ (by decide +kernel) (λw h Y=>PySem.W.kIn_of Y) ?F ?S
 case F=>
  intro w mg fa h KX G hmg
  refine' Lk19.all_mk KX G hmg rfl ?aC_NoFit ?aC_YardError ?aC_NoWeights ?aC_NoWay ?aC_NoText ?aC_NoRow ?aC_NoRatio ?aC_NoName ?aC_NoGood ?aC_NoBalance ?aC_NoAmount ?aC_TooMany ?aC_NoWork ?gt0 ?tk0 ?ga_NoFit ?gh_NoFit ?gc_NoFit ?mo_NoFit ?mb_NoFit ?xq_NoFit ?ex_YardError_NoFit ?iy_ValueError_NoFit ?ik_NoFit_NoFit ?it_NoAmount_NoBalance_NoGood_NoName_NoRatio_NoRow_NoText_NoWay_NoWeights_NoFit ?it_NoWork_TooMany_NoFit ?a0 ?l0 ?c0 ?k0 ?a1 ?l1 ?c1 ?k1 ?a2 ?l2 ?c2 ?k2 ?a3 ?l3 ?c3 ?k3 ?a4 ?l4 ?c4 ?k4 ?a5 ?l5 ?c5 ?k5 ?a6 ?l6 ?c6 ?k6 ?a7 ?l7 ?c7 ?k7 ?a8 ?l8 ?c8 ?k8 ?a9 ?l9 ?c9 ?k9 ?a10 ?l10 ?c10 ?k10 ?a11 ?l11 ?c11 ?k11 ?a12 ?l12 ?c12 ?k12 ?a13 ?l13 ?c13 ?k13 ?a14 ?l14 ?c14 ?k14 ?a15 ?l15 ?c15 ?k15 ?a16 ?l16 ?c16 ?k16 ?a17 ?l17 ?c17 ?k17 ?a18 ?l18 ?c18 ?k18 ?a19 ?l19 ?c19 ?k19 ?a20 ?l20 ?c20 ?k20 ?a21 ?l21 ?c21 ?k21 ?a22 ?l22 ?c22 ?k22 ?a23 ?l23 ?c23 ?k23 ?a24 ?l24 ?c24 ?k24 ?a25 ?l25 ?c25 ?k25 ?a26 ?l26 ?c26 ?k26 ?a27 ?l27 ?c27 ?k27 ?a28 ?l28 ?c28 ?k28 ?z_isinstance ?z_int ?z_bool ?z_abs ?z_list ?z_zip ?z_sum ?z_range ?z_enumerate ?z_len ?z_sorted ?z_any ?z_ValueError ?z_min ?z_all
  (case aC_NoFit=>k_is)
  (case aC_YardError=>k_is)
  (case aC_NoWeights=>k_is)
  (case aC_NoWay=>k_is)
  (case aC_NoText=>k_is)
  (case aC_NoRow=>k_is)
  (case aC_NoRatio=>k_is)
  (case aC_NoName=>k_is)
  (case aC_NoGood=>k_is)
  (case aC_NoBalance=>k_is)
  (case aC_NoAmount=>k_is)
  (case aC_TooMany=>k_is)
  (case aC_NoWork=>k_is)
  (case gt0=>k_is)
  (case tk0=>k_is)
  (case ga_NoFit=>k_is)
  (case gh_NoFit=>k_is)
  (case gc_NoFit=>k_is)
  (case mo_NoFit=>k_is)
  (case mb_NoFit=>k_is)
  (case xq_NoFit=>k_exc)
  (case ex_YardError_NoFit=>kts_exm)
  (case iy_ValueError_NoFit=>kit_is)
  (case ik_NoFit_NoFit=>kit_is)
  (case it_NoAmount_NoBalance_NoGood_NoName_NoRatio_NoRow_NoText_NoWay_NoWeights_NoFit=>kit_is)
  (case it_NoWork_TooMany_NoFit=>kit_is)
  (case a0=>k_is)
  (case l0=>k_is)
  (case c0=>k_is)
  (case k0=>k_is)
  (case a1=>k_is)
  (case l1=>k_is)
  (case c1=>k_is)
  (case k1=>k_is)
  (case a2=>k_is)
  (case l2=>k_is)
  (case c2=>k_is)
  (case k2=>k_is)
  (case a3=>k_is)
  (case l3=>k_is)
  (case c3=>k_is)
  (case k3=>k_is)
  (case a4=>k_is)
  (case l4=>k_is)
  (case c4=>k_is)
  (case k4=>k_is)
  (case a5=>k_is)
  (case l5=>k_is)
  (case c5=>k_is)
  (case k5=>k_is)
  (case a6=>k_is)
  (case l6=>k_is)
  (case c6=>k_is)
  (case k6=>k_is)
  (case a7=>k_is)
  (case l7=>k_is)
  (case c7=>k_is)
  (case k7=>k_is)
  (case a8=>k_is)
  (case l8=>k_is)
  (case c8=>k_is)
  (case k8=>k_is)
  (case a9=>k_is)
  (case l9=>k_is)
  (case c9=>k_is)
  (case k9=>k_is)
  (case a10=>k_is)
  (case l10=>k_is)
  (case c10=>k_is)
  (case k10=>k_is)
  (case a11=>k_is)
  (case l11=>k_is)
  (case c11=>k_is)
  (case k11=>k_is)
  (case a12=>k_is)
  (case l12=>k_is)
  (case c12=>k_is)
  (case k12=>k_is)
  (case a13=>k_is)
  (case l13=>k_is)
  (case c13=>k_is)
  (case k13=>k_is)
  (case a14=>k_is)
  (case l14=>k_is)
  (case c14=>k_is)
  (case k14=>k_is)
  (case a15=>k_is)
  (case l15=>k_is)
  (case c15=>k_is)
  (case k15=>k_is)
  (case a16=>k_is)
  (case l16=>k_is)
  (case c16=>k_is)
  (case k16=>k_is)
  (case a17=>k_is)
  (case l17=>k_is)
  (case c17=>k_is)
  (case k17=>k_is)
  (case a18=>k_is)
  (case l18=>k_is)
  (case c18=>k_is)
  (case k18=>k_is)
  (case a19=>k_is)
  (case l19=>k_is)
  (case c19=>k_is)
  (case k19=>k_is)
  (case a20=>k_is)
  (case l20=>k_is)
  (case c20=>k_is)
  (case k20=>k_is)
  (case a21=>k_is)
  (case l21=>k_is)
  (case c21=>k_is)
  (case k21=>k_is)
  (case a22=>k_is)
  (case l22=>k_is)
  (case c22=>k_is)
  (case k22=>k_is)
  (case a23=>k_is)
  (case l23=>k_is)
  (case c23=>k_is)
  (case k23=>k_is)
  (case a24=>k_is)
  (case l24=>k_is)
  (case c24=>k_is)
  (case k24=>k_is)
  (case a25=>k_is)
  (case l25=>k_is)
  (case c25=>k_is)
  (case k25=>k_is)
  (case a26=>k_is)
  (case l26=>k_is)
  (case c26=>k_is)
  (case k26=>k_is)
  (case a27=>k_is)
  (case l27=>k_is)
  (case c27=>k_is)
  (case k27=>k_is)
  (case a28=>k_is)
  (case l28=>k_is)
  (case c28=>k_is)
  (case k28=>k_is)
  (case z_isinstance=>k_is)
  (case z_int=>k_is)
  (case z_bool=>k_is)
  (case z_abs=>k_is)
  (case z_list=>k_is)
  (case z_zip=>k_is)
  (case z_sum=>k_is)
  (case z_range=>k_is)
  (case z_enumerate=>k_is)
  (case z_len=>k_is)
  (case z_sorted=>k_is)
  (case z_any=>k_is)
  (case z_ValueError=>k_is)
  (case z_min=>k_is)
  (case z_all=>k_is)
 case S=>exact λK H a ns hl _ hS=>M.Ft hS (Lk19.Cp ns hl)