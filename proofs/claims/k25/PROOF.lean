import PyProof.Rows.All
import Wide.All
import OpenK.AllK
import Wide.FinOn
import Lean
import PyProof.EqAt
import PyProof.EqKinds
import PyProof.TupleCall
import PySem.Challenge.RW_modeyard_k25_goods_weighed
set_option Elab.async false
set_option linter.all false
set_option maxRecDepth 100000
namespace L2
open PySem PySem.Spec PyProof.Rows
abbrev Key:=Sum Int Str
def Dd:Key->Value->Bool
 | .inl k,v=>Value.isInt k v
 | .inr x,v=>Value.isStrOf x v
def Ii(w:World):Key->Int
 | .inl k=>hashInt k
 | .inr x=>hashStr w x
theorem dZ:∀{k:Key} {v:Value},Dd k v=true->(∃i t,k=Sum.inl i/\v=Value.int i t)\/(∃x t,k=Sum.inr x/\v=Value.str x t)
 | .inl i,v,h=>by
  obtain⟨t,e⟩:=Value.isInt_shape (k:=i) (v:=v) h
  exact .inl ⟨i,t,rfl,e⟩
 | .inr x,v,h=>by
  obtain⟨t,e⟩:=Value.isStrOf_shape (x:=x) (v:=v) h
  exact .inr ⟨x,t,rfl,e⟩
theorem FZ(a b:Int):decide ((Sum.inl a:Key)=Sum.inl b)=(a == b):=by
 by_cases e:a=b
 ·subst e;simp
 ·have h:¬(Sum.inl a:Key)=Sum.inl b:=λq=>e (Sum.inl.inj q)
  rw[decide_eq_false h]
  exact(beq_eq_false_iff_ne.mpr e).symm
theorem Ft(a b:Str):decide ((Sum.inr a:Key)=Sum.inr b)=decide (a=b):=by
 by_cases e:a=b
 ·subst e;simp
 ·have h:¬(Sum.inr a:Key)=Sum.inr b:=λq=>e (Sum.inr.inj q)
  rw[decide_eq_false h,decide_eq_false e]
theorem Fp(a:Int)(b:Str):decide ((Sum.inl a:Key)=Sum.inr b)=false:=decide_eq_false (λq=>nomatch q)
theorem Gn(a:Str)(b:Int):decide ((Sum.inr a:Key)=Sum.inl b)=false:=decide_eq_false (λq=>nomatch q)
def sR(prog:Program)(w:World):PySem.KeyKind prog w Key where
 is:=Dd
 hash:=Ii w
 inj:=λv a b ha hb=>by
  rcases dZ ha with⟨i,t,rfl,rfl⟩ | ⟨x,t,rfl,rfl⟩
  ·rcases dZ hb with⟨j,u,rfl,e⟩ | ⟨y,u,rfl,e⟩
   ·injection e with e1 _;rw[e1]
   ·exact nomatch e
  ·rcases dZ hb with⟨j,u,rfl,e⟩ | ⟨y,u,rfl,e⟩
   ·exact nomatch e
   ·injection e with e1 _;rw[e1]
 byValue:=λk v h=>by
  rcases dZ h with⟨i,t,rfl,rfl⟩ | ⟨x,t,rfl,rfl⟩ <;> rfl
 pyHash:=λhv h=>by
  rcases dZ hv with⟨i,t,rfl,rfl⟩ | ⟨x,t,rfl,rfl⟩
  ·exact wpAny_pyHash_int h
  ·exact wpAny_pyHash_str h
 eqBool:=λhu hv h=>by
  rcases dZ hu with⟨i,t,rfl,rfl⟩ | ⟨x,t,rfl,rfl⟩
  ·rcases dZ hv with⟨j,u,rfl,rfl⟩ | ⟨y,u,rfl,rfl⟩
   ·rw[FZ] at h;exact wpAny_eqBool_int h
   ·rw[Fp] at h;exact SeqAt.EqAt.int_str i t y u _ _ _ _ h
  ·rcases dZ hv with⟨j,u,rfl,rfl⟩ | ⟨y,u,rfl,rfl⟩
   ·rw[Gn] at h;exact SeqAt.EqAt.str_int x t j u _ _ _ _ h
   ·rw[Ft] at h;exact wpAny_eqBool_str h
 «strs»:=λk x t v h=>by
  rcases dZ h with⟨i,u,rfl,e⟩ | ⟨y,u,rfl,e⟩
  ·exact nomatch e
  ·injection e with e1 _
   subst e1
   cases v <;> rfl
end L2
namespace L2
open PySem PySem.Spec PyProof.Rows
inductive V where
 | non | bl (b:Bool) | int (i:Int) | str (x:Str) | byt (b:Array UInt8) | flt (b:UInt64) | ref (a:Addr) | ty (n:String)
 deriving DecidableEq
def RelV:V->Value->Prop
 | .non,u=>u=Value.none
 | .bl b,u=>u=Value.bool b
 | .int i,u=>∃t,u=Value.int i t
 | .str x,u=>∃t,u=Value.str x t
 | .byt b,u=>∃t,u=Value.bytes b t
 | .flt b,u=>∃t,u=Value.float b t
 | .ref a,u=>u=Value.ref a
 | .ty n,u=>u=Value.type n
abbrev Vals:List V->List Value->Prop:=Paired RelV
theorem Vals.length{xs:List V}{us:List Value}(r:Vals xs us):xs.length=us.length:=Paired.length r
theorem Vals.get:∀{xs:List V} {us:List Value} {i:Nat} {x:V},Vals xs us->xs[i]? =some x->∃u,us[i]? =some u/\RelV x u
 | _,_,_,_,.nil,e=>by simp at e
 | _,_,0,_,.cons r _,e=>by simp at e;subst e;exact⟨_,rfl,r⟩
 | _,_,i+1,x,.cons _ t,e=>by
  obtain⟨u,h1,h2⟩:=Vals.get (i:=i) (x:=x) t (by simpa using e)
  exact⟨u,by simpa using h1,h2⟩
theorem Vals.set{x:V}{u:Value}(r:RelV x u):∀{xs:List V} {us:List Value} (i:Nat),Vals xs us->Vals (xs.set i x) (us.set i u)
 | _,_,_,.nil=>.nil
 | _,_,0,.cons _ t=>.cons r t
 | _,_,i+1,.cons q t=>.cons q (Vals.set r i t)
theorem Vals.append:∀{xs ys:List V} {us ws:List Value},Vals xs us->Vals ys ws->Vals (xs++ys) (us++ws)
 | _,_,_,_,.nil,s=>s
 | _,_,_,_,.cons r t,s=>.cons r (Vals.append t s)
theorem Vals.take:∀{xs:List V} {us:List Value} (n:Nat),Vals xs us->Vals (xs.take n) (us.take n)
 | _,_,0,_=>.nil
 | _,_,_+1,.nil=>.nil
 | _,_,n+1,.cons r t=>.cons r (Vals.take n t)
theorem Vals.drop:∀{xs:List V} {us:List Value} (n:Nat),Vals xs us->Vals (xs.drop n) (us.drop n)
 | _,_,0,r=>r
 | _,_,_+1,.nil=>.nil
 | _,_,n+1,.cons _ t=>Vals.drop n t
theorem Vals.none_of:∀{xs:List V} {us:List Value} {i:Nat},Vals xs us->xs[i]? =none->us[i]? =none:=λ{xs us i} r e=>by
 have h1:=r.length
 have h2:xs.length<=i:=List.getElem?_eq_none_iff.mp e
 exact List.getElem?_eq_none_iff.mpr (by omega)
def ni:Option V->Option Value->Prop
 | some v,some u=>RelV v u
 | none,none=>True
 | _,_=>False
def KV{κ:Type}:List (κ×V)->List (κ×Value)->Prop:=Paired λ(p:κ×V) (q:κ×Value)=>p.1=q.1/\RelV p.2 q.2
def kV:Key->V
 | .inl i=>.int i
 | .inr x=>.str x
inductive HO where
 | lst (xs:List V)
 | tup (xs:List V)
 | dK (kvs:List (Key×V)) | dT (kvs:List (List Key×V))
 | set (S:Int->Bool) (n:Nat)
 | ins (C dx:Addr) (fs:List (Str×V))
 | own (x:Addr)
 | xd (fs:List (Str×V))
 | met (f x:Addr)
 | rng (lo hi:Int)
 | frz (o:Obj) (u:HO)
 | tbl (ps:Array Value)
 | ext (φ:Heap->Prop)
abbrev Hp:=Addr->Option HO
def upd(H:Hp)(a:Addr)(o:HO):Hp:=λb=>if b=a then some o else H b
theorem b7{H:Hp}{a:Addr}{o:HO}:upd H a o a=some o:=by unfold upd;rw[if_pos rfl]
theorem aM{H:Hp}{a b:Addr}{o:HO}(h:b≠a):upd H a o b=H b:=by unfold upd;rw[if_neg h]
theorem d4{H:Hp}{a b:Addr}{o:HO}(h:H a=some o)(h':H b=none):a≠b:=by
 intro e;subst e;rw[h] at h';cases h'
section
variable (P : Program) (w : World)
def eV(H:Hp)(h:Heap)(a:Addr):HO->Prop
 | .lst xs=>xs.length<=sizeLine/\∃(its:List Value) (n:Nat),Vals xs its/\h.get? a=some {cls:=.type "list",data:=.seq its.toArray n}
 | .tup xs=>xs.length<=sizeLine/\∃its:List Value,Vals xs its/\IsTup h a its.toArray
 | .dK kvs=>kvs.length<=sizeLine/\(a == sysModules)=false/\∃vs,KV kvs vs/\h.DictOf (sR P w) a vs
 | .dT kvs=>kvs.length<=sizeLine/\(a == sysModules)=false/\∃xs:List (List Key×Addr×Value),
  Paired (λ(p:List Key×V) (q:List Key×Addr×Value)=>p.1=q.1/\H q.2.1=some (.tup (p.1.map kV))/\RelV p.2 q.2.2) kvs xs/\
  ∃o es ep,h.get? a=some o/\o.ExactDict/\o.data=.dict es ep/\es.toList=xs.map (entryOfKey (tupleKind (sR P w)))/\(xs.map (·.1)).Nodup
 | .set S n=>h.SetOf (intKind P w) a S n
 | .ins C dx fs=>H dx=some (.own a)/\fs.length<=1000/\dx≠a/\h.get? a=some (PySem.W.instObj C dx)/\
  ∃mA,h.Ns1 dx mA/\(∀f,ni (fs.lookup f) (mA f))/\PySem.Within mA (fs.map (·.1))
 | .own _=>∃o,h.get? a=some o
 | .xd fs=>∃mA,h.Ns1 a mA/\∀f,ni (fs.lookup f) (mA f)
 | .rng lo hi=>∃t u v,h.get? a=some {cls:=.type "range",data:=.fields #[.int lo t,.int hi u,.int 1 v]}
 | .frz o u=>h.get? a=some o/\eV H h a u
 | .tbl ps=>h.get? a=some {cls:=.none,data:=.fields ps}
 | .met f x=>h.get? a=some (PySem.W.methodObj (.ref f) (.ref x))
 | .ext φ=>φ h/\(∃o,h.get? a=some o)/\∀h1 h2:Heap,φ h1->(∀o,h1.get? a=some o->h2.get? a=some o)->φ h2
def HOk(H:Hp)(h:Heap):Prop:=∀a o,H a=some o->eV P w H h a o
end
section
variable {P : Program} {w : World} {H H' : Hp} {h h' : Heap} {a : Addr} {o : HO}
theorem eV.lt(x:eV P w H h a o):a<h.objs.size:=by
 cases o with
 | lst xs=>obtain⟨_,_,_,_,e⟩:=x;exact Heap.lt_size e
 | tup xs=>obtain⟨_,_,_,p⟩:=x;exact p.lt
 | dK kvs=>obtain⟨_,_,_,_,o,_,_,e,_⟩:=x;exact Heap.lt_size e
 | dT kvs=>obtain⟨_,_,_,_,o,_,_,e,_⟩:=x;exact Heap.lt_size e
 | set S n=>obtain⟨o,_,_,_,e,_⟩:=x;exact Heap.lt_size e
 | ins C dx fs=>obtain⟨_,_,_,e,_⟩:=x;exact Heap.lt_size e
 | own y=>obtain⟨_,e⟩:=x;exact Heap.lt_size e
 | xd fs=>obtain⟨_,⟨_,_,_,e,_⟩,_⟩:=x;exact Heap.lt_size e
 | rng lo hi=>obtain⟨_,_,_,e⟩:=x;exact Heap.lt_size e
 | frz ob u=>obtain⟨e,_⟩:=x;exact Heap.lt_size e
 | tbl ps=>exact Heap.lt_size (show h.get? a=some _ from x)
 | met f y=>exact Heap.lt_size (show h.get? a=some _ from x)
 | ext φ=>obtain⟨_,⟨_,e⟩,_⟩:=x;exact Heap.lt_size e
theorem Paired.mapP{α β:Type}{F G:α->β->Prop}:∀{l₁:List α} {l₂:List β},Paired F l₁ l₂->(∀a b,F a b->G a b)->Paired G l₁ l₂
 | _,_,.nil,_=>.nil
 | _,_,.cons r t,f=>.cons (f _ _ r) (Paired.mapP t f)
theorem eV.stay (x:eV P w H h a o) (k:∀b u,(b=a\/H b=some (.own a))->h.get? b=some u->h'.get? b=some u)
 (ho:∀b,H b=some (.own a)->H' b=some (.own a)) (ht:∀b xs,H b=some (.tup xs)->H' b=some (.tup xs)):eV P w H' h' a o:=by
 induction o with
 | lst xs=>obtain⟨z,its,n,r,e⟩:=x;exact⟨z,its,n,r,k _ _ (.inl rfl) e⟩
 | tup xs=>obtain⟨z,its,r,ob,e,c⟩:=x;exact⟨z,its,r,ob,k _ _ (.inl rfl) e,c⟩
 | dK kvs=>obtain⟨z,y,vs,r,ob,es,ep,e,c⟩:=x;exact⟨z,y,vs,r,ob,es,ep,k _ _ (.inl rfl) e,c⟩
 | dT kvs=>
  obtain⟨z,y,xs,r,ob,es,ep,e,c⟩:=x
  exact⟨z,y,xs,Paired.mapP r λp q z=>⟨z.1,ht _ _ z.2.1,z.2.2⟩,ob,es,ep,k _ _ (.inl rfl) e,c⟩
 | set S n=>obtain⟨ob,es,ep,t,e,c⟩:=x;exact⟨ob,es,ep,t,k _ _ (.inl rfl) e,c⟩
 | ins C dx fs=>
  obtain⟨d,z,ne,e,mA,⟨od,es,ep,e2,c⟩,r⟩:=x
  exact⟨ho _ d,z,ne,k _ _ (.inl rfl) e,mA,⟨od,es,ep,k _ _ (.inr d) e2,c⟩,r⟩
 | own y=>obtain⟨ob,e⟩:=x;exact⟨ob,k _ _ (.inl rfl) e⟩
 | xd fs=>obtain⟨mA,⟨od,es,ep,e,c⟩,r⟩:=x;exact⟨mA,⟨od,es,ep,k _ _ (.inl rfl) e,c⟩,r⟩
 | rng lo hi=>obtain⟨t,u,v,e⟩:=x;exact⟨t,u,v,k _ _ (.inl rfl) e⟩
 | frz ob u ih=>obtain⟨e,q⟩:=x;exact⟨k _ _ (.inl rfl) e,ih q⟩
 | tbl ps=>
  have e:h.get? a=some {cls:=.none,data:=.fields ps}:=x
  show h'.get? a=some {cls:=.none,data:=.fields ps}
  exact k a _ (.inl rfl) e
 | met f y=>
  have e:h.get? a=some (PySem.W.methodObj (.ref f) (.ref y)):=x
  show h'.get? a=some (PySem.W.methodObj (.ref f) (.ref y))
  exact k a _ (.inl rfl) e
 | ext φ=>obtain⟨p,⟨o,e⟩,st⟩:=x;exact⟨st _ _ p λo q=>k _ _ (.inl rfl) q,⟨o,k _ _ (.inl rfl) e⟩,st⟩
theorem HOk.lt(x:HOk P w H h)(e:H a=some o):a<h.objs.size:=(x a o e).lt
theorem HOk.fresh(x:HOk P w H h)(e:h.objs.size<=a):H a=none:=by
 cases q:H a with
 | none=>rfl
 | some u=>exact absurd (Nat.lt_of_lt_of_le (x.lt q) e) (Nat.lt_irrefl _)
theorem HOk.kept(x:HOk P w H h)(k:∀b u,h.get? b=some u->h'.get? b=some u):HOk P w H h':=λa o e=>
 (x a o e).stay (λb u _ q=>k b u q) (λ_ q=>q) λ_ _ q=>q
theorem HOk.laid(x:HOk P w H h)(k:∀b u,h.get? b=some u->h'.get? b=some u)(hp:h.objs.size<=a)(new:eV P w (upd H a o) h' a o):HOk P w (upd H a o) h':=λb u e=>by
 have hn:=x.fresh hp
 by_cases hb:b=a
 ·subst hb;rw[b7] at e;cases e;exact new
 ·rw[aM hb] at e
  exact(x b u e).stay (λc v _ q=>k c v q) (λc q=>by rw[aM (d4 q hn)];exact q) λc xs q=>by rw[aM (d4 q hn)];exact q
end
def Rd(H:Hp)(a:Addr)(u:HO):Prop:=H a=some u\/∃o,H a=some (.frz o u)
theorem Rd.of{H:Hp}{a:Addr}{u:HO}(h:H a=some u):Rd H a u:=.inl h
theorem Rd.ok{P:Program}{w:World}{H:Hp}{h:Heap}{a:Addr}{u:HO}(r:Rd H a u)(x:HOk P w H h):eV P w H h a u:=by
 rcases r with r | ⟨o,r⟩
 ·exact x a u r
 ·obtain⟨_,q⟩:=x a _ r
  exact q
def Mut:Option HO->Prop
 | some (.lst _)=>True
 | some (.dK _)=>True
 | some (.dT _)=>True
 | some (.set _ _)=>True
 | some (.ins _ _ _)=>True
 | some (.ext _)=>True
 | _=>False
section
variable {P : Program} {w : World} {H : Hp} {h h' : Heap} {x e : Addr} {o' : HO}
theorem HOk.write (ok:HOk P w H h) (mu:Mut (H x)) (he:e=x\/H e=some (.own x)) (k:∀b u,b≠e->h.get? b=some u->h'.get? b=some u) (heo:∃u,h'.get? e=some u)
 (new:eV P w (upd H x o') h' x o'):HOk P w (upd H x o') h':=λb u q=>by
 have nown:∀c y,H c=some (.own y)->c≠x:=λc y r z=>by subst z;rw[r] at mu;exact mu
 have ntup:∀c xs,H c=some (.tup xs)->c≠x:=λc xs r z=>by subst z;rw[r] at mu;exact mu
 by_cases hb:b=x
 ·subst hb;rw[b7] at q;cases q;exact new
 ·rw[aM hb] at q
  by_cases hbe:b=e
  ·have q':H b=some (.own x):=by
    rcases he with z | z
    ·exact absurd (hbe.trans z) hb
    ·rw[hbe];exact z
   rw[q] at q';cases q'
   obtain⟨v,hv⟩:=heo
   exact⟨v,by rw[hbe];exact hv⟩
  ·refine(ok b u q).stay (λc v hc r=>k c v ?_ r) (λc r=>by rw[aM (nown c b r)];exact r) λc xs r=>by rw[aM (ntup c xs r)];exact r
   rcases hc with rfl | hc
   ·exact hbe
   ·rintro rfl
    rcases he with z | z
    ·exact nown c b hc z
    ·rw[hc] at z;cases z;exact hb rfl
end
structure Un(fs ex:List Addr)(H H':Hp)(h h':Heap):Prop where
 keep:∀b o,h.get? b=some o->H b=none->b∉fs->b∉ex->h'.get? b=some o
 slot:∀b o,h.get? b=some o->H b=none->b∈fs->b∉ex->∃sl,h'.get? b=some {o with slots:=sl}
 free:∀b o,h.get? b=some o->H b=none->b∉ex->H' b=none
 there:∀b o,h.get? b=some o->b∉ex->∃o',h'.get? b=some o'
 tups:∀b xs,H b=some (.tup xs)->H' b=some (.tup xs)
 frzs:∀b o u,H b=some (.frz o u)->H' b=some (.frz o u)
 tbls:∀b ps,H b=some (.tbl ps)->∃more,H' b=some (.tbl (ps++more))
section
variable {fs fs' ex ex' : List Addr} {H H1 H2 : Hp} {h h1 h2 h' : Heap} {a x e : Addr} {o : HO}
theorem Un.any(u:Un fs ex H H1 h h1){b:Addr}{ob:Obj}(q:h.get? b=some ob)(n:H b=none)(hx:b∉ex):∃sl,h1.get? b=some {ob with slots:=sl}:=by
 by_cases hb:b∈fs
 ·exact u.slot b ob q n hb hx
 ·exact⟨ob.slots,u.keep b ob q n hb hx⟩
theorem Un.trans(a:Un fs ex H H1 h h1)(b:Un fs ex H1 H2 h1 h2):Un fs ex H H2 h h2 where
 keep:=λc ob q n hc hx=>b.keep c ob (a.keep c ob q n hc hx) (a.free c ob q n hx) hc hx
 slot:=λc ob q n hc hx=>by
  obtain⟨sl,e1⟩:=a.slot c ob q n hc hx
  obtain⟨sl',e2⟩:=b.slot c _ e1 (a.free c ob q n hx) hc hx
  exact⟨sl',e2⟩
 free:=λc ob q n hx=>by
  obtain⟨o',e1⟩:=a.there c ob q hx
  exact b.free c o' e1 (a.free c ob q n hx) hx
 there:=λc ob q hx=>by
  obtain⟨o',e1⟩:=a.there c ob q hx
  exact b.there c o' e1 hx
 tups:=λc xs q=>b.tups c xs (a.tups c xs q)
 frzs:=λc ob xs q=>b.frzs c ob xs (a.frzs c ob xs q)
 tbls:=λc ps q=>by
  obtain⟨m1,e1⟩:=a.tbls c ps q
  obtain⟨m2,e2⟩:=b.tbls c _ e1
  exact⟨m1++m2,by rw[e2,Array.append_assoc]⟩
theorem Un.kept(k:∀b u,h.get? b=some u->h'.get? b=some u):Un fs ex H H h h':=
 ⟨λb ob q _ _ _=>k b ob q,λb ob q _ _ _=>⟨ob.slots,k b ob q⟩,λ_ _ _ n _=>n,λb ob q _=>⟨ob,k b ob q⟩,λ_ _ q=>q,λ_ _ _ q=>q,λ_ ps q=>⟨#[],by rw[q];simp⟩⟩
theorem Un.refl:Un fs ex H H h h:=Un.kept λ_ _ q=>q
theorem Un.laid(k:∀b u,h.get? b=some u->h'.get? b=some u)(hp:h.objs.size<=a)(hn:H a=none):Un fs ex H (upd H a o) h h' where
 keep:=λb u q _ _ _=>k b u q
 slot:=λb u q _ _ _=>⟨u.slots,k b u q⟩
 free:=λb u q n _=>by rw[aM (Nat.ne_of_lt (Nat.lt_of_lt_of_le (Heap.lt_size q) hp))];exact n
 there:=λb u q _=>⟨u,k b u q⟩
 tups:=λb xs q=>by rw[aM (d4 q hn)];exact q
 frzs:=λb u xs q=>by rw[aM (d4 q hn)];exact q
 tbls:=λb ps q=>⟨#[],by rw[aM (d4 q hn),q];simp⟩
theorem Un.write(mu:Mut (H x))(he:e=x\/H e=some (.own x))(k:∀b u,b≠e->h.get? b=some u->h'.get? b=some u)(heo:∃u,h'.get? e=some u):Un fs ex H (upd H x o) h h':=by
 have hx:∀b,H b=none->b≠x:=λb n z=>by subst z;rw[n] at mu;exact mu
 have hb:∀b,H b=none->b≠e:=λb n z=>by
  subst z
  rcases he with r | r
  ·exact hx b n r
  ·rw[n] at r;cases r
 have hm:∀b u,H b=some u->¬Mut (some u)->b≠x:=λb u q nm z=>by subst z;rw[q] at mu;exact nm mu
 refine⟨λb u q n _ _=>k b u (hb b n) q,λb u q n _ _=>⟨u.slots,k b u (hb b n) q⟩,λb u q n _=>by rw[aM (hx b n)];exact n,λb u q _=> ?_,
  λb xs q=>by rw[aM (hm b _ q λz=>z)];exact q,λb u xs q=>by rw[aM (hm b _ q λz=>z)];exact q,λb ps q=>⟨#[],by rw[aM (hm b _ q λz=>z),q];simp⟩⟩
 by_cases hbe:b=e
 ·subst hbe;exact heo
 ·exact⟨u,k b u hbe q⟩
theorem Un.mono(u:Un fs ex H H1 h h1)(hs:∀b∈fs,b∈fs')(hx:∀b∈ex,b∈ex'):Un fs' ex' H H1 h h1:=
 ⟨λb ob q n hb he=>u.keep b ob q n (λz=>hb (hs b z)) λz=>he (hx b z),λ_ _ q n _ he=>u.any q n λz=>he (hx _ z),λb ob q n he=>u.free b ob q n λz=>he (hx b z),λb ob q he=>u.there b ob q λz=>he (hx b z),u.tups,u.frzs,u.tbls⟩
end
def trk(h:Heap)(H:Hp):List Addr:=(List.range h.objs.size).filter λa=>(H a).isSome
def m9(h:Heap)(H:Hp):Heap:=PySem.W.hideAll h (trk h H)
theorem Bn(h:Heap)(H:Hp):(m9 h H).objs.size=h.objs.size:=PySem.W.hideAll_size _ _
theorem B0{h:Heap}{H:Hp}{b:Addr}{o:Obj}(e:h.get? b=some o)(n:H b=none):(m9 h H).get? b=some o:=
 PySem.W.hideAll_get _ e λhm=>by
  have q:(H b).isSome=true:=(List.mem_filter.mp hm).2
  rw[n] at q;simp at q
theorem Fc{h:Heap}{H:Hp}{b:Addr}{o:Obj}(e:(m9 h H).get? b=some o):h.get? b=some o/\H b=none:=by
 have e':h.get? b=some o:=PySem.W.of_hideAll (trk h H) e
 refine⟨e', ?_⟩
 cases q:H b with
 | none=>rfl
 | some x=>
  have hm:b∈trk h H:=List.mem_filter.mpr ⟨List.mem_range.mpr (Heap.lt_size e'),by simp[q]⟩
  have z:(m9 h H).get? b=none:=PySem.W.hideAll_none (trk h H) hm
  rw[z] at e;cases e
def D6(g h:Heap)(L:Addr):List (Addr×Obj):=(List.range h.objs.size).filterMap λa=>if a=L\/(g.get? a).isSome=true then none else (h.get? a).map λo=>(a,o)
def rest(g h:Heap)(L d:Addr):List (Addr×Obj):=(D6 g h L).filter λp=>decide (p.1≠d)
end L2
namespace L2
open PySem PySem.Spec PyProof.Rows
structure Mod(K:PySem.W.Frag)(mg:Str->Option Value)(base:Heap):Prop where
 kin:K.In base
 glob:base.Ns mainGlobals mg
 blt:∃mb,base.Ns builtinsNs mb/\∀x:Str,x≠"__name__" ->mb x=bootBuiltins x
 nolimit:base.NoLimit
 seer:base.NoSeer
structure Cx where
 prog:Program
 w:World
 K:PySem.W.Frag
 mg:Str->Option Value
 base:Heap
 A:Around
 N:List Str
 s₀:Shared
 H₀:Hp
 env:Env
 outer:List Env
 stack:List Env
 ex:List Addr
 fn:Str->Bool
 calm:Bool
 pn:List (Addr×Obj)
 xe:Value->Shared->Prop
def frs(l:List Env):List Addr:=l.filterMap (·.frame)
abbrev Cx.fs(X:Cx):List Addr:=frs X.outer
def Vis(sc:Scope)(x:Str):Prop:=sc.names.lookup x=some .local\/sc.names.lookup x=some .cell\/sc.names.lookup x=some .free
def Loc(sc:Scope)(x:Str):Prop:=sc.names.lookup x=some .local\/sc.names.lookup x=some .cell
def Look(env:Env)(h:Heap)(m:Str->Option Value)(x:Str)(u:Value):Prop:=
 (env.kindOf x=some .local/\m x=some u)\/((env.kindOf x=some .cell\/env.kindOf x=some .free)/\∃c,env.cells.lookup x=some c/\h.IsCell c (some u))
structure Cx.Ok(X:Cx):Prop where
 mod:Mod X.K X.mg X.base
 kind:X.env.scope.kind=.function
 glob:X.env.globals=mainGlobals
 blt:X.env.builtins=builtinsNs
 above:X.s₀.heap.objs.size<=X.env.locals
 inj:∀x y c,X.env.cells.lookup x=some c->X.env.cells.lookup y=some c->x=y
 has:∀x,(X.env.kindOf x=some .cell\/X.env.kindOf x=some .free)->∃c,X.env.cells.lookup x=some c
 cab:∀x c,X.fn x=true->X.env.cells.lookup x=some c->X.s₀.heap.objs.size<=c
 hd:X.calm=true->X.A.handled=none
 frames:X.A.frames=some X.stack
 stk:X.stack=X.outer\/(X.stack=X.env::X.outer/\X.env.frame=some X.env.locals)
 exf:∀b∈X.ex,b≠X.env.locals/\∀x c,X.env.cells.lookup x=some c->c≠b
 bs:∀b o,X.base.get? b=some o->X.s₀.heap.get? b=some o/\X.H₀ b=none
 bsz:X.base.objs.size<=X.s₀.heap.objs.size
 noex:∀b o,X.base.get? b=some o->b∉X.ex
 exfs:∀b∈X.ex,b∉X.fs
 funs:X.s₀.heap.FunFrames X.base X.outer
 frf:∀b∈X.fs,X.H₀ b=none
structure Inv(X:Cx)(pins:List (Addr×Obj))(σ:List (Option V))(H:Hp)(s:Shared):Prop where
 ok:X.Ok
 os:s.os=X.s₀.os
 bare:AllBare s.gens
 base:Un X.fs X.ex X.H₀ H X.s₀.heap s.heap
 loc:∃m,s.heap.Ns X.env.locals m/\∀(i:Nat) (x:Str) (v:V),X.N[i]? =some x->σ[i]? =some (some v)->Vis X.env.scope x->∃u,RelV v u/\Look X.env s.heap m x u
 cell:∀x c,X.env.cells.lookup x=some c->∃v,s.heap.IsCell c v
 free:H X.env.locals=none
 freeC:∀x c,X.env.cells.lookup x=some c->H c=none
 pin:∀p∈X.pn++pins,s.heap.get? p.1=some p.2/\H p.1=none/\p.1≠X.env.locals/\p.1∉X.fs/\∀v,p.2.data≠ .cell v
 hok:HOk X.prog X.w H s.heap
 len:σ.length=X.N.length
section
variable {X : Cx} {pins : List (Addr × Obj)} {σ : List (Option V)} {H H' : Hp} {s : Shared} {h' : Heap}
theorem Cx.Ok.nofr(ok:X.Ok){b:Addr}{o:Obj}(e:X.base.get? b=some o):b∉X.fs:=λhb=>by
 have:=(ok.funs.mem hb).1
 rw[e] at this;cases this
theorem Inv.bs(I:Inv X pins σ H s):∀b o,X.base.get? b=some o->s.heap.get? b=some o/\H b=none:=λb o e=>
 ⟨I.base.keep b o (I.ok.bs b o e).1 (I.ok.bs b o e).2 (I.ok.nofr e) (I.ok.noex b o e),I.base.free b o (I.ok.bs b o e).1 (I.ok.bs b o e).2 (I.ok.noex b o e)⟩
theorem Inv.bk(I:Inv X pins σ H s):∀b o,X.base.get? b=some o->s.heap.get? b=some o:=λb o e=>(I.bs b o e).1
theorem Inv.mod(I:Inv X pins σ H s):Mod X.K X.mg X.base:=I.ok.mod
theorem Inv.kIn(I:Inv X pins σ H s):X.K.In s.heap:=I.ok.mod.kin.keeps I.bk
theorem Inv.nolimit(I:Inv X pins σ H s):s.heap.NoLimit:=I.ok.mod.nolimit.keeps I.bk
theorem Inv.noseer(I:Inv X pins σ H s):s.heap.NoSeer:=I.ok.mod.seer.keeps I.bk
theorem Inv.fr(I:Inv X pins σ H s):∃m,Fr X.base X.env.locals s.heap m:=
 let ⟨m,hn,_⟩:=I.loc
 ⟨m,hn,I.bk,Nat.le_trans I.ok.bsz I.ok.above⟩
theorem Inv.lt(I:Inv X pins σ H s):X.env.locals<s.heap.objs.size:=let ⟨_,hn,_⟩:=I.loc;hn.lt
theorem Inv.sz(I:Inv X pins σ H s):X.s₀.heap.objs.size<=s.heap.objs.size:=Nat.le_trans I.ok.above (Nat.le_of_lt I.lt)
theorem Inv.nofs(I:Inv X pins σ H s){a:Addr}(h:s.heap.objs.size<=a):a∉X.fs:=λhb=>by
 obtain⟨_,o,ho,_⟩:=I.ok.funs.mem hb
 exact absurd (Nat.lt_of_lt_of_le (Heap.lt_size ho) (Nat.le_trans I.sz h)) (Nat.lt_irrefl _)
theorem Inv.cne(I:Inv X pins σ H s):∀x c,X.env.cells.lookup x=some c->c≠X.env.locals:=λx c e z=>by
 obtain⟨v,o,ho,hd⟩:=I.cell x c e
 obtain⟨m,⟨o',es,ep,ho',hd',_⟩,_⟩:=I.loc
 rw[z,ho'] at ho;cases ho;rw[hd'] at hd;cases hd
theorem Inv.funs(I:Inv X pins σ H s):s.heap.FunFrames X.base X.outer:=by
 have all:∀(l:List Env),(∀b∈frs l,b∈X.fs)->X.s₀.heap.FunFrames X.base l->s.heap.FunFrames X.base l:=by
  intro l
  induction l with
  | nil=>intro _ _;trivial
  | cons env r ih=>
   intro hs hl
   obtain⟨hk,⟨L,o,hf,hn,ho,hd⟩,hr⟩:=hl
   have hL:L∈X.fs:=hs L (by unfold frs;rw[List.filterMap_cons,hf];exact List.mem_cons_self)
   obtain⟨sl,e⟩:=I.base.slot L o ho (I.ok.frf L hL) hL λz=>I.ok.exfs L z hL
   exact⟨hk,⟨L,_,hf,hn,e,hd⟩,ih (λb hb=>hs b (by unfold frs;rw[List.filterMap_cons,hf];exact List.mem_cons_of_mem _ hb)) hr⟩
 exact all X.outer (λ_ hb=>hb) I.ok.funs
theorem Inv.stack(I:Inv X pins σ H s):s.heap.FunFrames X.base X.stack:=by
 rcases I.ok.stk with e | ⟨e,hf⟩
 ·rw[e];exact I.funs
 ·rw[e]
  obtain⟨m,hn,_⟩:=I.loc
  refine .cons (by rw[I.ok.kind];decide) hf hn ?_ I.funs
  exact Heap.get?_none_of_le (Nat.le_trans I.ok.bsz I.ok.above)
theorem Inv.stkSub(I:Inv X pins σ H s):∀b∈frs X.stack,b∈X.env.locals::X.fs:=λb hb=>by
 rcases I.ok.stk with e | ⟨e,hf⟩
 ·rw[e] at hb;exact List.mem_cons_of_mem _ hb
 ·rw[e] at hb
  unfold frs at hb
  rw[List.filterMap_cons,hf] at hb
  exact hb
theorem Inv.stkFree(I:Inv X pins σ H s):∀b∈frs X.stack,H b=none:=λb hb=>by
 rcases List.mem_cons.mp (I.stkSub b hb) with e | hb
 ·rw[e];exact I.free
 ·obtain⟨_,o,ho,_⟩:=I.ok.funs.mem hb
  exact I.base.free b o ho (I.ok.frf b hb) λz=>I.ok.exfs b z hb
theorem Inv.step {g':Array GenState} {t':Nat} {d':Drawn} {ch:List Addr} (I:Inv X pins σ H s)
 (hch:∀b∈ch,(b∈X.ex\/X.s₀.heap.objs.size<=b)/\b≠X.env.locals/\(∀x c,X.env.cells.lookup x=some c->c≠b)/\∀p∈X.pn++pins,p.1≠b)
 (keep:∀b o,b≠X.env.locals->b∉X.fs->b∉ch->s.heap.get? b=some o->H b=none->h'.get? b=some o)
 (slot:∀b o,b≠X.env.locals->b∈X.fs->b∉ch->s.heap.get? b=some o->H b=none->∃sl,h'.get? b=some {o with slots:=sl}) (free:∀b o,b∉ch->s.heap.get? b=some o->H b=none->H' b=none)
 (there:∀b o,b∉ch->s.heap.get? b=some o->∃o',h'.get? b=some o')
 (tups:∀b xs,H b=some (.tup xs)->H' b=some (.tup xs)) (frzs:∀b o u,H b=some (.frz o u)->H' b=some (.frz o u)) (tbls:∀b ps,H b=some (.tbl ps)->∃more,H' b=some (.tbl (ps++more)))
 (ns:∀m,s.heap.Ns X.env.locals m->h'.Ns X.env.locals m) (hok:HOk X.prog X.w H' h') (hg:AllBare g'):
 Inv X pins σ H' {s with heap:=h',gens:=g',drawn:=d',toks:=t'}:=by
 have neL:∀b o,X.s₀.heap.get? b=some o->b≠X.env.locals:=λb o e=>Nat.ne_of_lt (Nat.lt_of_lt_of_le (Heap.lt_size e) I.ok.above)
 have neC:∀b o,X.s₀.heap.get? b=some o->b∉X.ex->b∉ch:=λb o e hx hb=>by
  rcases(hch b hb).1 with z | z
  ·exact hx z
  ·exact absurd (Nat.lt_of_lt_of_le (Heap.lt_size e) z) (Nat.lt_irrefl _)
 have cellK:∀x c,X.env.cells.lookup x=some c->∀v,s.heap.IsCell c v->h'.IsCell c v:=λx c e v ⟨o,ho,hd⟩=>by
  have nch:c∉ch:=λz=>(hch c z).2.2.1 x c e rfl
  by_cases hc:c∈X.fs
  ·obtain⟨sl,q⟩:=slot c o (I.cne x c e) hc nch ho (I.freeC x c e)
   exact⟨_,q,hd⟩
  ·exact⟨o,keep c o (I.cne x c e) hc nch ho (I.freeC x c e),hd⟩
 refine⟨I.ok,I.os,hg,⟨λb o e n hb hx=> ?_,λb o e n hb hx=> ?_,λb o e n hx=> ?_,λb o e hx=> ?_,λb xs e=>tups b xs (I.base.tups b xs e),λb o xs e=>frzs b o xs (I.base.frzs b o xs e),λb ps e=> ?_⟩, ?_,λx c e=> ?_, ?_,λx c e=> ?_,λp hp=> ?_,hok,I.len⟩
 ·exact keep b o (neL b o e) hb (neC b o e hx) (I.base.keep b o e n hb hx) (I.base.free b o e n hx)
 ·obtain⟨sl,e1⟩:=I.base.slot b o e n hb hx
  obtain⟨sl',e2⟩:=slot b _ (neL b o e) hb (neC b o e hx) e1 (I.base.free b o e n hx)
  exact⟨sl',e2⟩
 ·obtain⟨o',e1⟩:=I.base.there b o e hx
  exact free b o' (neC b o e hx) e1 (I.base.free b o e n hx)
 ·obtain⟨o',e1⟩:=I.base.there b o e hx
  exact there b o' (neC b o e hx) e1
 ·obtain⟨m1,e1⟩:=I.base.tbls b ps e
  obtain⟨m2,e2⟩:=tbls b _ e1
  exact⟨m1++m2,by rw[e2,Array.append_assoc]⟩
 ·obtain⟨m,hn,hl⟩:=I.loc
  refine⟨m,ns m hn,λi x v e1 e2 e3=> ?_⟩
  obtain⟨u,r,l⟩:=hl i x v e1 e2 e3
  refine⟨u,r, ?_⟩
  rcases l with l | ⟨k,c,e,z⟩
  ·exact .inl l
  ·exact .inr ⟨k,c,e,cellK x c e _ z⟩
 ·obtain⟨v,z⟩:=I.cell x c e
  exact⟨v,cellK x c e v z⟩
 ·obtain⟨m,⟨o,_,_,ho,_⟩,_⟩:=I.loc
  exact free _ o (λz=>(hch _ z).2.1 rfl) ho I.free
 ·obtain⟨v,o,ho,hd⟩:=I.cell x c e
  exact free c o (λz=>(hch c z).2.2.1 x c e rfl) ho (I.freeC x c e)
 ·obtain⟨e,n,ne,nf,d⟩:=I.pin p hp
  have nch:p.1∉ch:=λz=>(hch p.1 z).2.2.2 p hp rfl
  exact⟨keep p.1 p.2 ne nf nch e n,free p.1 p.2 nch e n,ne,nf,d⟩
theorem Inv.un{t':Nat}(I:Inv X pins σ H s)(u:Un X.fs [] H H' s.heap h')(hok:HOk X.prog X.w H' h'):Inv X pins σ H' {s with heap:=h',toks:=t'}:=by
 obtain⟨m,⟨o,es,ep,ho,r⟩,_⟩:=id I.loc
 obtain⟨sl,hL⟩:=u.any ho I.free (by simp)
 exact I.step (g':=s.gens) (d':=s.drawn) (ch:=[]) (λ_ z=>nomatch z) (λb o _ hb _ e n=>u.keep b o e n hb (by simp)) (λb o _ hb _ e n=>u.slot b o e n hb (by simp)) (λb o _ e n=>u.free b o e n (by simp)) (λb o _ e=>u.there b o e (by simp)) u.tups u.frzs u.tbls (λm' hm=>by
  obtain⟨o',es',ep',ho',r'⟩:=hm
  rw[ho] at ho';cases ho'
  exact⟨_,es',ep',hL,r'⟩) hok I.bare
theorem Inv.call {g':Array GenState} {t':Nat} {d':Drawn} {ch:List Addr} (I:Inv X pins σ H s) (u:Un (frs X.stack) ch H H' s.heap h') (hok:HOk X.prog X.w H' h') (hg:AllBare g')
 (hch:∀b∈ch,(b∈X.ex\/X.s₀.heap.objs.size<=b)/\b≠X.env.locals/\(∀x c,X.env.cells.lookup x=some c->c≠b)/\∀p∈X.pn++pins,p.1≠b):
 Inv X pins σ H' {s with heap:=h',gens:=g',drawn:=d',toks:=t'}:=by
 obtain⟨m,⟨o,es,ep,ho,r⟩,_⟩:=id I.loc
 obtain⟨sl,hL⟩:=u.any ho I.free λz=>(hch _ z).2.1 rfl
 exact I.step (ch:=ch) hch (λb o hL hb hc e n=>u.keep b o e n (λz=>(List.mem_cons.mp (I.stkSub b z)).elim hL hb) hc) (λb o _ _ hc e n=>u.any e n hc) (λb o hc e n=>u.free b o e n hc) (λb o hc e=>u.there b o e hc) u.tups u.frzs u.tbls (λm' hm=>by
  obtain⟨o',es',ep',ho',r'⟩:=hm
  rw[ho] at ho';cases ho'
  exact⟨_,es',ep',hL,r'⟩) hok hg
theorem Inv.turned {t':Nat} {it:Addr} (I:Inv X pins σ H s) (k:∀b o,b≠it->s.heap.get? b=some o->h'.get? b=some o) (hn:H it=none) (hL:it≠X.env.locals)
 (h1:it∈X.ex\/X.s₀.heap.objs.size<=it) (h2:∀x c,X.env.cells.lookup x=some c->c≠it) (h3:∀p∈X.pn++pins,p.1≠it):Inv X pins σ H {s with heap:=h',toks:=t'}:=by
 have nit:∀b u,H b=some u->b≠it:=λb u e z=>by rw[z,hn] at e;cases e
 refine I.step (g':=s.gens) (d':=s.drawn) (ch:=[it]) (λb hb=> ?_) (λb o _ _ hc e _=>k b o (λz=>hc (by simp[z])) e) (λb o _ _ hc e _=>⟨o.slots,k b o (λz=>hc (by simp[z])) e⟩) (λ_ _ _ _ n=>n)
  (λb o hc e=>⟨o,k b o (λz=>hc (by simp[z])) e⟩) (λ_ _ e=>e) (λ_ _ _ e=>e) (λb ps e=>⟨#[],by rw[e];simp⟩) (λm hm=> ?_) (λb u e=> ?_) I.bare
 ·have e:b=it:=by simpa using hb
  subst e
  exact⟨h1,hL,h2,h3⟩
 ·obtain⟨o,es,ep,ho,r⟩:=hm
  exact⟨o,es,ep,k _ o (Ne.symm hL) ho,r⟩
 ·refine(I.hok b u e).stay (λc v hc q=>k c v ?_ q) (λ_ q=>q) λ_ _ q=>q
  rcases hc with z | z
  ·rw[z];exact nit b u e
  ·exact nit c _ z
theorem Inv.tok(I:Inv X pins σ H s)(t:Nat):Inv X pins σ H {s with toks:=t}:=I.un (h':=s.heap) (t':=t) Un.refl I.hok
theorem Inv.kept{t':Nat}(I:Inv X pins σ H s)(k:∀b u,s.heap.get? b=some u->h'.get? b=some u):Inv X pins σ H {s with heap:=h',toks:=t'}:=I.un (Un.kept k) (I.hok.kept k)
theorem Inv.laid{a:Addr}{o:HO}{t':Nat}(I:Inv X pins σ H s)(k:∀b u,s.heap.get? b=some u->h'.get? b=some u)(hp:s.heap.objs.size<=a)(new:eV X.prog X.w (upd H a o) h' a o):
 Inv X pins σ (upd H a o) {s with heap:=h',toks:=t'}:=I.un (Un.laid k hp (I.hok.fresh hp)) (I.hok.laid k hp new)
theorem Inv.write {x e:Addr} {o:HO} {t':Nat} (I:Inv X pins σ H s) (mu:Mut (H x)) (he:e=x\/H e=some (.own x)) (k:∀b u,b≠e->s.heap.get? b=some u->h'.get? b=some u) (heo:∃u,h'.get? e=some u)
 (new:eV X.prog X.w (upd H x o) h' x o):Inv X pins σ (upd H x o) {s with heap:=h',toks:=t'}:=I.un (Un.write mu he k heo) (I.hok.write mu he k heo new)
theorem Inv.pins_of{pins':List (Addr×Obj)}(I:Inv X pins σ H s)(h:∀p∈pins',s.heap.get? p.1=some p.2/\H p.1=none/\p.1≠X.env.locals/\p.1∉X.fs/\∀v,p.2.data≠ .cell v):Inv X pins' σ H s:=
 ⟨I.ok,I.os,I.bare,I.base,I.loc,I.cell,I.free,I.freeC,λp hp=>(List.mem_append.mp hp).elim (λz=>I.pin p (List.mem_append_left _ z)) (h p),I.hok,I.len⟩
theorem qL{N:List Str}(hN:N.Nodup){i j:Nat}{x:Str}(a:N[i]? =some x)(b:N[j]? =some x):i=j:=by
 obtain⟨h1,e1⟩:=List.getElem?_eq_some_iff.mp a
 obtain⟨h2,e2⟩:=List.getElem?_eq_some_iff.mp b
 exact(List.getElem_inj hN).mp (e1.trans e2.symm)
theorem uw {M:Model} {A:Around} {E:Value->Shared->Prop} {i:Nat} {x:Str} {v:V} {u:Value} {Q:Unit->Shared->Prop} (I:Inv X pins σ H s) (hN:X.N.Nodup) (hi:X.N[i]? =some x) (hx:Loc X.env.scope x) (r:RelV v u)
 (h:∀s',Inv X pins (σ.set i (some v)) H s'->(∃a,Heap.SameBut a s.heap s'.heap/\(a=X.env.locals\/X.env.cells.lookup x=some a))->Q () s') (hf:X.fn x=true\/X.env.scope.names.lookup x=some .local:=by first | exact .inl rfl | exact .inr rfl | assumption):wpAny M A (storeName X.env x u) Q E s:=by
 obtain⟨m,hn,hl⟩:=id I.loc
 have hcls:(X.env.scope.kind == .class||(X.env.scope.kind == .module&&X.env.locals != X.env.globals))=false:=by rw[I.ok.kind];rfl
 have hiσ:i<σ.length:=by rw[I.len];exact(List.getElem?_eq_some_iff.mp hi).1
 have cne:=I.cne
 have tracked:∀{a:Addr} {h':Heap},(∃o,s.heap.get? a=some o/\H a=none)->Heap.SameBut a s.heap h'->HOk X.prog X.w H h':=λ{a h'} ha hs b ob e=>by
  obtain⟨_,_,hfree⟩:=ha
  refine(I.hok b ob e).stay (λc w' hc q=>(hs.2 c ?_).trans q) (λ_ q=>q) λ_ _ q=>q
  rintro rfl
  rcases hc with rfl | hc
  ·rw[hfree] at e;cases e
  ·rw[hfree] at hc;cases hc
 rcases hx with hk | hk
 ·refine wpAny_storeName_local hk hn (λh' hn' hs=> ?_) hcls
  obtain⟨oL,_,_,hoL,_⟩:=id hn
  refine h _ ⟨I.ok,I.os,I.bare,⟨λb o e n hb hx=> ?_,λb o e n hb hx=> ?_,I.base.free,λb o e hx=> ?_,I.base.tups,I.base.frzs,I.base.tbls⟩,⟨_,hn',λj y v' e1 e2 e3=> ?_⟩,λy c e=> ?_,I.free,I.freeC,λp hp=> ?_,tracked ⟨oL,hoL,I.free⟩ hs,by simpa using I.len⟩ ⟨_,hs,.inl rfl⟩
  ·exact(hs.2 b (Nat.ne_of_lt (Nat.lt_of_lt_of_le (Heap.lt_size e) I.ok.above))).trans (I.base.keep b o e n hb hx)
  ·obtain⟨sl,e1⟩:=I.base.slot b o e n hb hx
   exact⟨sl,(hs.2 b (Nat.ne_of_lt (Nat.lt_of_lt_of_le (Heap.lt_size e) I.ok.above))).trans e1⟩
  ·obtain⟨o',e1⟩:=I.base.there b o e hx
   exact⟨o',(hs.2 b (Nat.ne_of_lt (Nat.lt_of_lt_of_le (Heap.lt_size e) I.ok.above))).trans e1⟩
  ·by_cases hj:j=i
   ·subst hj
    rw[hi] at e1;cases e1
    rw[List.getElem?_set_self hiσ] at e2
    cases e2
    exact⟨u,r,.inl ⟨hk,by simp⟩⟩
   ·rw[List.getElem?_set_ne (Ne.symm hj)] at e2
    obtain⟨u',r',q⟩:=hl j y v' e1 e2 e3
    refine⟨u',r', ?_⟩
    rcases q with⟨k,e⟩ | ⟨k,c,e,z⟩
    ·refine .inl ⟨k, ?_⟩
     have:y≠x:=λe=>hj (qL hN e1 (e▸hi))
     simp[this,e]
    ·exact .inr ⟨k,c,e,z.sameBut hs (cne y c e)⟩
  ·obtain⟨w',z⟩:=I.cell y c e
   exact⟨w',z.sameBut hs (cne y c e)⟩
  ·obtain⟨e,n,ne,nf,d⟩:=I.pin p hp
   exact⟨(hs.2 p.1 ne).trans e,n,ne,nf,d⟩
 ·have hfn:X.fn x=true:=by
   rcases hf with z | z
   ·exact z
   ·rw[z] at hk;cases hk
  obtain⟨c,hc⟩:=I.ok.has x (.inl hk)
  obtain⟨w',z⟩:=I.cell x c hc
  refine wpAny_storeName_cell I.ok.kind hk hc z (λh' hc' hs=> ?_)
  obtain⟨oc,hoc,hocd⟩:=id z
  refine h {s with heap:=h'} ⟨I.ok,I.os,I.bare,⟨λb o e n hb hx=> ?_,λb o e n hb hx=> ?_,I.base.free,λb o e hx=> ?_,I.base.tups,I.base.frzs,I.base.tbls⟩,⟨m,hn.sameBut hs (Ne.symm (cne x c hc)),λj y v' e1 e2 e3=> ?_⟩,λy c' e=> ?_,I.free,I.freeC,λp hp=> ?_,tracked ⟨oc,hoc,I.freeC x c hc⟩ hs,by simpa using I.len⟩ ⟨c,hs,.inr hc⟩
  ·exact(hs.2 b (Nat.ne_of_lt (Nat.lt_of_lt_of_le (Heap.lt_size e) (I.ok.cab x c hfn hc)))).trans (I.base.keep b o e n hb hx)
  ·obtain⟨sl,e1⟩:=I.base.slot b o e n hb hx
   exact⟨sl,(hs.2 b (Nat.ne_of_lt (Nat.lt_of_lt_of_le (Heap.lt_size e) (I.ok.cab x c hfn hc)))).trans e1⟩
  ·obtain⟨o',e1⟩:=I.base.there b o e hx
   exact⟨o',(hs.2 b (Nat.ne_of_lt (Nat.lt_of_lt_of_le (Heap.lt_size e) (I.ok.cab x c hfn hc)))).trans e1⟩
  ·by_cases hj:j=i
   ·subst hj
    rw[hi] at e1;cases e1
    rw[List.getElem?_set_self hiσ] at e2
    cases e2
    exact⟨u,r,.inr ⟨.inl hk,c,hc,hc'⟩⟩
   ·rw[List.getElem?_set_ne (Ne.symm hj)] at e2
    obtain⟨u',r',q⟩:=hl j y v' e1 e2 e3
    refine⟨u',r', ?_⟩
    rcases q with q | ⟨k,c',e,z'⟩
    ·exact .inl q
    ·refine .inr ⟨k,c',e,z'.sameBut hs ?_⟩
     rintro rfl
     exact hj (qL hN e1 (I.ok.inj _ _ _ e hc▸hi))
  ·by_cases hcc:c'=c
   ·subst hcc;exact⟨_,hc'⟩
   ·obtain⟨w2,z2⟩:=I.cell y c' e
    exact⟨w2,z2.sameBut hs hcc⟩
  ·obtain⟨e,n,ne,nf,d⟩:=I.pin p hp
   refine⟨(hs.2 p.1 ?_).trans e,n,ne,nf,d⟩
   intro q
   rw[q,hoc] at e
   have q':oc=p.2:=Option.some.inj e
   exact d w' (by rw[<- q'];exact hocd)
theorem oh {M:Model} {A:Around} {E:Value->Shared->Prop} {i:Nat} {x:Str} {v:V} {u:Value} {Q:Unit->Shared->Prop} (I:Inv X pins σ H s) (hN:X.N.Nodup) (hi:X.N[i]? =some x) (hx:Loc X.env.scope x) (r:RelV v u)
 (h:∀s',Inv X pins (σ.set i (some v)) H s'->Q () s') (hf:X.fn x=true\/X.env.scope.names.lookup x=some .local:=by first | exact .inl rfl | exact .inr rfl | assumption):wpAny M A (storeName X.env x u) Q E s:=
 uw I hN hi hx r (λs' I' _=>h s' I') hf
theorem Inv.call' {s':Shared} {ch:List Addr} (I:Inv X pins σ H s) (ho:s'.os=s.os) (u:Un (frs X.stack) ch H H' s.heap s'.heap) (hok:HOk X.prog X.w H' s'.heap) (hg:AllBare s'.gens)
 (hch:∀b∈ch,(b∈X.ex\/X.s₀.heap.objs.size<=b)/\b≠X.env.locals/\(∀x c,X.env.cells.lookup x=some c->c≠b)/\∀p∈X.pn++pins,p.1≠b):Inv X pins σ H' s':=by
 obtain⟨h',g',d',t',o'⟩:=s'
 have e:o'=s.os:=ho
 subst e
 exact I.call (g':=g') (t':=t') (d':=d') u hok hg hch
end
abbrev XK:=Value->Option Addr->Hp->Prop
abbrev St:=List (Option V)
abbrev VK:=V->Hp->Prop
abbrev TE:=St->Hp->VK->Prop
abbrev TT:=St->Hp->(Bool->Hp->Prop)->Prop
abbrev TA:=St->Hp->(List V->Hp->Prop)->Prop
structure Ends where
 nx:St->Hp->Prop
 rt:VK
 bk:St->Hp->Prop:=λ_ _=>False
 ct:St->Hp->Prop:=λ_ _=>False
abbrev TS:=Ends->St->Hp->Prop
def EP(X:Cx)(pins:List (Addr×Obj))(σ:St)(Q:VK)(u:Value)(s':Shared):Prop:=∃v H',Inv X pins σ H' s'/\RelV v u/\Q v H'
def TP(X:Cx)(pins:List (Addr×Obj))(σ:St)(Q:Bool->Hp->Prop)(b:Bool)(s':Shared):Prop:=∃H',Inv X pins σ H' s'/\Q b H'
def AP(X:Cx)(pins:List (Addr×Obj))(σ:St)(Q:List V->Hp->Prop)(us:List Value)(s':Shared):Prop:=∃vs H',Inv X pins σ H' s'/\Vals vs us/\Q vs H'
def SP(X:Cx)(pins:List (Addr×Obj))(D:Ends)(f:Flow)(s':Shared):Prop:=
 match f with
 | .next=>∃σ' H',Inv X pins σ' H' s'/\D.nx σ' H'
 | .brk=>∃σ' H',Inv X pins σ' H' s'/\D.bk σ' H'
 | .cont=>∃σ' H',Inv X pins σ' H' s'/\D.ct σ' H'
 | .ret u=>∃v σ' H',Inv X pins σ' H' s'/\RelV v u/\D.rt v H'
def PE(X:Cx)(e:Expr)(t:TE):Prop:=
 ∀(pins:List (Addr×Obj)) (s:Shared) (σ:St) (H:Hp) (Q:VK),Inv X pins σ H s->t σ H Q->wpAny (model X.prog X.w) X.A (eval e X.env) (EP X pins σ Q) X.xe s
def PT(X:Cx)(e:Expr)(t:TT):Prop:=
 ∀(pins:List (Addr×Obj)) (s:Shared) (σ:St) (H:Hp) (Q:Bool->Hp->Prop),Inv X pins σ H s->t σ H Q->wpAny (model X.prog X.w) X.A (isTrue e X.env (eval e X.env)) (TP X pins σ Q) X.xe s
def PW(X:Cx)(e:Expr)(t:TT):Prop:=
 ∀(whole:Sem Value) (pins:List (Addr×Obj)) (s:Shared) (σ:St) (H:Hp) (Q:Bool->Hp->Prop),Inv X pins σ H s->t σ H Q->wpAny (model X.prog X.w) X.A (isTrue e X.env whole) (TP X pins σ Q) X.xe s
theorem PW.pt{X:Cx}{e:Expr}{t:TT}(h:PW X e t):PT X e t:=h _
def PA(X:Cx)(es:List Expr)(t:TA):Prop:=
 ∀(pos:Pos) (pins:List (Addr×Obj)) (s:Shared) (σ:St) (H:Hp) (Q:List V->Hp->Prop),Inv X pins σ H s->t σ H Q->wpAny (model X.prog X.w) X.A (spliced (backTo pos (starEach es X.env))) (AP X pins σ Q) X.xe s
def PS(X:Cx)(st:Stmt)(t:TS):Prop:=
 ∀(pins:List (Addr×Obj)) (s:Shared) (σ:St) (H:Hp) (D:Ends),Inv X pins σ H s->t D σ H->wpAny (model X.prog X.w) X.A (exec st X.env) (SP X pins D) X.xe s
def PSs(X:Cx)(st:List Stmt)(t:TS):Prop:=
 ∀(pins:List (Addr×Obj)) (s:Shared) (σ:St) (H:Hp) (D:Ends),Inv X pins σ H s->t D σ H->wpAny (model X.prog X.w) X.A (execs st X.env) (SP X pins D) X.xe s
theorem thn{α:Type}{t:Sem α}{Q Q':α->Shared->Prop}{M:Model}{A:Around}{E:Value->Shared->Prop}{s:Shared}(h:wpAny M A t Q E s)(hQ:∀a s,Q a s->Q' a s):wpAny M A t Q' E s:=wpAny_mono h hQ λ_ _ x=>x
end L2
namespace L2
open PySem PySem.Spec PyProof.Rows
section
variable {X : Cx}
theorem bin {a b:Expr} {ta tb:TE} (ha:PE X a ta) (hb:PE X b tb) {pins:List (Addr×Obj)} {s:Shared} {σ:St} {H:Hp} {R:V->V->Hp->Prop} (I:Inv X pins σ H s) (h:ta σ H λx H1=>tb σ H1 λy H2=>R x y H2)
 {α:Type} {Q:α->Shared->Prop} {f:Value->Value->Sem α}
 (hf:∀v u s2 x y H2,Inv X pins σ H2 s2->RelV x v->RelV y u->R x y H2->wpAny (model X.prog X.w) X.A (f v u) Q X.xe s2):
 wpAny (model X.prog X.w) X.A (eval a X.env) (λv s₁=>wpAny (model X.prog X.w) X.A (eval b X.env) (λu s₂=>wpAny (model X.prog X.w) X.A (f v u) Q X.xe s₂) X.xe s₁) X.xe s:=by
 refine thn (ha pins s σ H _ I h) λv s1 ⟨x,H1,I1,r1,q1⟩=> ?_
 refine thn (hb pins s1 σ H1 _ I1 q1) λu s2 ⟨y,H2,I2,r2,q2⟩=> ?_
 exact hf v u s2 x y H2 I2 r1 r2 q2
def Ca(i:Nat):TE:=λσ H Q=>∃v,σ[i]? =some (some v)/\Q v H
def tC(v:V):TE:=λ_ H Q=>Q v H
theorem FV{i:Nat}{x:Str}{pos:Pos}(hN:X.N[i]? =some x)(hv:Vis X.env.scope x)(hd:(x == ("__debug__" :Str))=false:=by decide)(hcd:(x == ("__classdict__" :Str))=false:=by decide):PE X (.Name x pos) (Ca i):=by
 intro pins s σ H Q I h
 obtain⟨v,e,h⟩:=h
 obtain⟨m,hn,hl⟩:=I.loc
 obtain⟨u,r,l⟩:=hl i x v hN e hv
 have fin:EP X pins σ Q u s:=⟨v,H,I,r,h⟩
 rcases l with⟨hk,hm⟩ | ⟨hk,c,hc,hcell⟩
 ·exact wpAny_Name (wpAny_loadName_local I.ok.kind hk hn hm fin) hd
 ·rcases hk with hk | hk
  ·exact wpAny_Name (wpAny_loadName_cell I.ok.kind hk hc hcell fin) hd
  ·exact wpAny_Name (wpAny_loadName_free I.ok.kind hk hc hcell fin hcd) hd
theorem ax{i j pos}:PE X (.Constant (.int i) j pos) (tC (.int i)):=λ_ _ _ H _ I h=>wpAny_Constant_int ⟨.int i,H,I.tok _,⟨_,rfl⟩,h⟩
theorem vq{b j pos}:PE X (.Constant (.bool b) j pos) (tC (.bl b)):=λ_ _ _ H _ I h=>Constant_bool ⟨.bl b,H,I,rfl,h⟩
theorem jo{x j pos}:PE X (.Constant (.str x) j pos) (tC (.str x)):=λ_ _ _ H _ I h=>Calls.Constant_str ⟨.str x,H,I.tok _,⟨_,rfl⟩,h⟩
def Gl(X:Cx)(x:Str):Prop:=X.env.kindOf x=some .globalImplicit
theorem kA {E:Value->Shared->Prop} {pins:List (Addr×Obj)} {s:Shared} {σ:St} {H:Hp} {x:Str} {u:Value} {pos:Pos} {Q:Value->Shared->Prop} (I:Inv X pins σ H s) (hg:Gl X x) (hm:X.mg x=some u) (h:Q u s)
 (hd:(x == ("__debug__" :Str))=false:=by decide):wpAny (model X.prog X.w) X.A (eval (.Name x pos) X.env) Q E s:=
 Calls.Name_function_global I.ok.kind hg (Calls.loadGlobal_global (by rw[I.ok.glob];exact I.mod.glob.keeps I.bk) hm h) hd
theorem nA {E:Value->Shared->Prop} {pins:List (Addr×Obj)} {s:Shared} {σ:St} {H:Hp} {x:Str} {u:Value} {pos:Pos} {Q:Value->Shared->Prop} (I:Inv X pins σ H s) (hg:Gl X x) (hm:X.mg x=none) (hv:bootBuiltins x=some u) (h:Q u s)
 (hn:x≠"__name__" :=by decide) (hd:(x == ("__debug__" :Str))=false:=by decide):wpAny (model X.prog X.w) X.A (eval (.Name x pos) X.env) Q E s:=by
 obtain⟨mb,h1,h2⟩:=I.mod.blt
 exact Calls.Name_function_global I.ok.kind hg (Calls.loadGlobal_builtin (by rw[I.ok.glob];exact I.mod.glob.keeps I.bk) hm (by rw[I.ok.blt];exact h1.keeps I.bk) ((h2 x hn).trans hv) h) hd
theorem dS{x:Str}{v:V}{u:Value}{pos:Pos}(hg:Gl X x)(hm:X.mg x=some u)(r:RelV v u)(hd:(x == ("__debug__" :Str))=false:=by decide):PE X (.Name x pos) (tC v):=
 λ_ _ _ H _ I h=>kA I hg hm ⟨v,H,I,r,h⟩ hd
theorem lQ{x:Str}{v:V}{u:Value}{pos:Pos}(hg:Gl X x)(hm:X.mg x=none)(hv:bootBuiltins x=some u)(r:RelV v u)(hn:x≠"__name__" :=by decide)(hd:(x == ("__debug__" :Str))=false:=by decide):PE X (.Name x pos) (tC v):=
 λ_ _ _ H _ I h=>nA I hg hm hv ⟨v,H,I,r,h⟩ hn hd
variable {a b : Expr} {ta tb : TE} {pos : Pos}
def PC(X:Cx)(op:CmpOp)(a b:Expr)(t:TE):Prop:=
 ∀(pins:List (Addr×Obj)) (s:Shared) (σ:St) (H:Hp) (Q:VK),Inv X pins σ H s->t σ H Q->
  wpAny (model X.prog X.w) X.A (eval a X.env) (λv s₁=>wpAny (model X.prog X.w) X.A (eval b X.env) (λu s₂=>wpAny (model X.prog X.w) X.A (compareOp op v u) (EP X pins σ Q) X.xe s₂) X.xe s₁) X.xe s
theorem C5(b:Expr){op:CmpOp}(h:op≠ .In)(h2:op≠ .NotIn):behindInMarks op b=false:=by
 have e1:(op == CmpOp.In)=false:=by cases op <;> first | rfl | exact absurd rfl h
 have e2:(op == CmpOp.NotIn)=false:=by cases op <;> first | rfl | exact absurd rfl h2
 cases b <;> simp[behindInMarks,e1,e2]
def tB(t:TE):TT:=λσ H Q=>t σ H λx H1=>∃c,x=.bl c/\Q c H1
theorem JB{op:CmpOp}{t:TE}(h:PC X op a b t)(h1:behindInMarks op b=false:=by first | exact C5 _ (by decide) (by decide) | rfl):PT X (.Compare a [op] [b] pos) (tB t):=by
 intro pins s σ H Q I hw
 refine wpAny_isTrue_Compare1 (thn (h pins s σ H _ I hw) λv s1 h1=>thn h1 λu s2 h2=>thn h2 λc s3 ⟨x,H1,I1,r1,q1⟩=> ?_) h1
 obtain⟨d,rfl,q⟩:=q1
 cases r1
 exact wpAny_truthy_bool ⟨H1,I1,q⟩
theorem kL{e:Expr}{t:TE}(h:PE X e t)(he:∀whole,isTrue e X.env whole=(do let v <- whole;standAt e.pos;holding [v] (truthy v)):=by intro _;rfl):PT X e (tB t):=by
 intro pins s σ H Q I hw
 refine isTrue_plain (thn (h pins s σ H _ I hw) λv s1 ⟨x,H1,I1,r1,q1⟩=> ?_) (he _)
 obtain⟨d,rfl,q⟩:=q1
 cases r1
 exact wpAny_truthy_bool ⟨H1,I1,q⟩
variable {tA tB' : TT} {rest : List Expr}
def Gf(t u:TT):TT:=λσ H Q=>t σ H λc H1=>if c=true then u σ H1 Q else Q false H1
def tOr(t u:TT):TT:=λσ H Q=>t σ H λc H1=>if c=true then Q true H1 else u σ H1 Q
def Gx(t:TT):TT:=λσ H Q=>t σ H λc H1=>Q (!c) H1
theorem pw_and1(ha:PT X a tA):PW X (.BoolOp .And [a] pos) tA:=by
 intro wh pins s σ H Q I h
 refine isTrue_and (thn (ha pins s σ H Q I h) λc s1 e=> ?_)
 cases c with
 | true=>exact isTrue_and_nil e
 | false=>exact e
theorem pw_or1(ha:PT X a tA):PW X (.BoolOp .Or [a] pos) tA:=by
 intro wh pins s σ H Q I h
 refine isTrue_or (thn (ha pins s σ H Q I h) λc s1 e=> ?_)
 cases c with
 | false=>exact isTrue_or_nil e
 | true=>exact e
theorem pw_and(ha:PT X a tA)(hb:PW X (.BoolOp .And (b::rest) pos) tB'):PW X (.BoolOp .And (a::b::rest) pos) (Gf tA tB'):=by
 intro wh pins s σ H Q I h
 refine isTrue_and (thn (ha pins s σ H _ I h) λc s1 ⟨H1,I1,q1⟩=> ?_)
 cases c with
 | true=>exact hb wh pins s1 σ H1 Q I1 q1
 | false=>exact⟨H1,I1,q1⟩
theorem pw_or(ha:PT X a tA)(hb:PW X (.BoolOp .Or (b::rest) pos) tB'):PW X (.BoolOp .Or (a::b::rest) pos) (tOr tA tB'):=by
 intro wh pins s σ H Q I h
 refine isTrue_or (thn (ha pins s σ H _ I h) λc s1 ⟨H1,I1,q1⟩=> ?_)
 cases c with
 | true=>exact⟨H1,I1,q1⟩
 | false=>exact hb wh pins s1 σ H1 Q I1 q1
theorem o4(ha:PT X a tA):PT X (.UnaryOp .Not a pos) (Gx tA):=by
 intro pins s σ H Q I h
 exact isTrue_not (ha pins s σ H (λc H1=>Q (!c) H1) I h)
def DK(ta tb:TE):TE:=λσ H Q=>ta σ H λx H1=>∃c,x=.bl c/\if c=true then tb σ H1 Q else Q (.bl false) H1
def DI(ta:TE):TE:=λσ H Q=>ta σ H λx H1=>∃c,x=.bl c/\Q (.bl (!c)) H1
theorem rB{op}{t:TE}(h:PE X a t):PE X (.BoolOp op [a] pos) t:=λpins s σ H Q I hw=>BoolOp_one (h pins s σ H Q I hw)
theorem rV(ha:PE X a ta)(hb:PE X (.BoolOp .And (b::rest) pos) tb):PE X (.BoolOp .And (a::b::rest) pos) (DK ta tb):=by
 intro pins s σ H Q I h
 refine BoolOp_and (thn (ha pins s σ H _ I h) λv s1 ⟨x,H1,I1,r1,q1⟩=> ?_)
 obtain⟨c,rfl,q1⟩:=q1
 cases r1
 refine wpAny_truthy_bool ?_
 cases c with
 | true=>exact hb pins s1 σ H1 Q I1 q1
 | false=>exact⟨.bl false,H1,I1,rfl,q1⟩
theorem GW(ha:PE X a ta):PE X (.UnaryOp .Not a pos) (DI ta):=by
 intro pins s σ H Q I h
 refine UnaryOp_ (thn (ha pins s σ H _ I h) λv s1 ⟨x,H1,I1,r1,q1⟩=> ?_)
 obtain⟨c,rfl,q1⟩:=q1
 cases r1
 exact not_of (wpAny_truthy_bool ⟨.bl (!c),H1,I1,rfl,q1⟩)
end
end L2
namespace L2
open PySem PySem.Spec PyProof.Rows
def SqL(K:PySem.W.Frag)(H:Hp)(a:Addr)(xs:List V):Prop:=
 Rd H a (.lst xs)\/
  ∃(o:Obj) (its:Array Value) (n:Nat),K.lookup a=some o/\o.cls=.type "list" /\o.dict=none/\o.data=.seq its n/\its.size<=sizeLine/\Vals xs its.toList
def SqT(K:PySem.W.Frag)(H:Hp)(a:Addr)(xs:List V):Prop:=
 Rd H a (.tup xs)\/
  ∃(o:Obj) (its:Array Value) (n:Nat),K.lookup a=some o/\o.cls=.type "tuple" /\o.data=.seq its n/\its.size<=sizeLine/\Vals xs its.toList
def HZ:Value->Option V
 | .none=>some .non
 | .bool b=>some (.bl b)
 | .int i _=>some (.int i)
 | .str x _=>some (.str x)
 | .bytes b _=>some (.byt b)
 | .float b _=>some (.flt b)
 | .ref a=>some (.ref a)
 | .type n=>some (.ty n)
 | _=>none
theorem RelV.abs{x:V}{u:Value}(r:RelV x u):HZ u=some x:=by
 cases x with
 | non=>cases r;rfl
 | bl _=>cases r;rfl
 | int _=>obtain⟨t,rfl⟩:=r;rfl
 | str _=>obtain⟨t,rfl⟩:=r;rfl
 | byt _=>obtain⟨t,rfl⟩:=r;rfl
 | flt _=>obtain⟨t,rfl⟩:=r;rfl
 | ref _=>cases r;rfl
 | ty _=>cases r;rfl
theorem RelV.inj{x y:V}{u:Value}(r:RelV x u)(q:RelV y u):x=y:=Option.some.inj (r.abs.symm.trans q.abs)
theorem Vals.inj:∀{xs ys:List V} {us:List Value},Vals xs us->Vals ys us->xs=ys
 | _,_,_,.nil,.nil=>rfl
 | _,_,_,.cons r t,.cons r' t'=>by rw[r.inj r',Vals.inj t t']
section
variable {X : Cx} {pins : List (Addr × Obj)} {σ : St} {H : Hp} {s : Shared} {a : Addr} {xs ys : List V}
theorem SqL.of{K:PySem.W.Frag}(h:H a=some (.lst xs)):SqL K H a xs:=.inl (.inl h)
theorem SqT.of{K:PySem.W.Frag}(h:H a=some (.tup xs)):SqT K H a xs:=.inl (.inl h)
theorem Inv.list(I:Inv X pins σ H s)(h:SqL X.K H a xs):∃its:List Value,Vals xs its/\PlainL s.heap a its.toArray/\xs.length<=sizeLine:=by
 rcases h with h | ⟨o,its,n,hk,hc,hd,hs,hz,r⟩
 ·obtain⟨z,its,n,r,e⟩:=h.ok I.hok
  exact⟨its,r,⟨_,n,e,rfl,rfl,rfl⟩,z⟩
 ·refine⟨its.toList,r,⟨o,n,I.kIn a o hk,hc,hd,by simpa using hs⟩, ?_⟩
  have e:=r.length
  simp only[Array.length_toList] at e
  omega
theorem Inv.tuple(I:Inv X pins σ H s)(h:SqT X.K H a xs):∃its:List Value,Vals xs its/\IsTup s.heap a its.toArray/\xs.length<=sizeLine:=by
 rcases h with h | ⟨o,its,n,hk,hc,hs,hz,r⟩
 ·obtain⟨z,its,r,p⟩:=h.ok I.hok
  exact⟨its,r,p,z⟩
 ·refine⟨its.toList,r,⟨o,I.kIn a o hk,hc,n,by simpa using hs⟩, ?_⟩
  have e:=r.length
  simp only[Array.length_toList] at e
  omega
theorem Inv.list_inj(I:Inv X pins σ H s)(h:SqL X.K H a xs)(h':SqL X.K H a ys):xs=ys:=by
 obtain⟨its,r,⟨o,n,e,_,_,d⟩,_⟩:=I.list h
 obtain⟨its',r',⟨o',n',e',_,_,d'⟩,_⟩:=I.list h'
 rw[e] at e';cases e'
 rw[d] at d'
 injection d' with d1 _
 have:its=its':=by simpa using congrArg Array.toList d1
 subst this
 exact r.inj r'
end
abbrev Cx.wish(X:Cx)(E:Value->Shared->Prop):Cx:={X with xe:=E}
abbrev Cx.nox(X:Cx):Cx:=X.wish λ_ _=>False
theorem Cx.Ok.wish{X:Cx}(ok:X.Ok)(E:Value->Shared->Prop):(X.wish E).Ok:=
 ⟨ok.mod,ok.kind,ok.glob,ok.blt,ok.above,ok.inj,ok.has,ok.cab,ok.hd,ok.frames,ok.stk,ok.exf,ok.bs,ok.bsz,ok.noex,ok.exfs,ok.funs,ok.frf⟩
theorem Cx.Ok.unwish{X:Cx}{E:Value->Shared->Prop}(ok:(X.wish E).Ok):X.Ok:=
 ⟨ok.mod,ok.kind,ok.glob,ok.blt,ok.above,ok.inj,ok.has,ok.cab,ok.hd,ok.frames,ok.stk,ok.exf,ok.bs,ok.bsz,ok.noex,ok.exfs,ok.funs,ok.frf⟩
section
variable {X : Cx} {pins : List (Addr × Obj)} {σ : St} {H : Hp} {s : Shared} {E : Value → Shared → Prop}
theorem Inv.wish(I:Inv X pins σ H s)(E:Value->Shared->Prop):Inv (X.wish E) pins σ H s:=⟨I.ok.wish E,I.os,I.bare,I.base,I.loc,I.cell,I.free,I.freeC,I.pin,I.hok,I.len⟩
theorem Inv.unwish(I:Inv (X.wish E) pins σ H s):Inv X pins σ H s:=⟨I.ok.unwish,I.os,I.bare,I.base,I.loc,I.cell,I.free,I.freeC,I.pin,I.hok,I.len⟩
theorem SP.unwish{D:Ends}{f:Flow}{s':Shared}(h:SP (X.wish E) pins D f s'):SP X pins D f s':=by
 cases f with
 | next=>obtain⟨σ',H',I,q⟩:=h;exact⟨σ',H',I.unwish,q⟩
 | brk=>obtain⟨σ',H',I,q⟩:=h;exact⟨σ',H',I.unwish,q⟩
 | cont=>obtain⟨σ',H',I,q⟩:=h;exact⟨σ',H',I.unwish,q⟩
 | ret u=>obtain⟨v,σ',H',I,r,q⟩:=h;exact⟨v,σ',H',I.unwish,r,q⟩
theorem PE.nox{e:Expr}{t:TE}(h:PE X.nox e t):PE X e t:=λpins s σ H Q I hw=>
 wpAny_mono (h pins s σ H Q (I.wish _) hw) (λ_ _ ⟨v,H',I',r,q⟩=>⟨v,H',I'.unwish,r,q⟩) λ_ _ z=>False.elim z
theorem PT.nox{e:Expr}{t:TT}(h:PT X.nox e t):PT X e t:=λpins s σ H Q I hw=>
 wpAny_mono (h pins s σ H Q (I.wish _) hw) (λ_ _ ⟨H',I',q⟩=>⟨H',I'.unwish,q⟩) λ_ _ z=>False.elim z
theorem PSs.nox{st:List Stmt}{t:TS}(h:PSs X.nox st t):PSs X st t:=λpins s σ H D I hw=>
 wpAny_mono (h pins s σ H D (I.wish _) hw) (λ_ _ q=>q.unwish) λ_ _ z=>False.elim z
end
section
variable {X : Cx} {st : Stmt} {rest : List Stmt} {t u : TS} {e : Expr} {te : TE} {pos : Pos}
def DH:TS:=λD σ H=>D.nx σ H
def Gp(t u:TS):TS:=λD σ H=>t {D with nx:=u D} σ H
theorem bR:PSs X [] DH:=λ_ _ σ H _ I h=>wpAny_execs_nil ⟨σ,H,I,h⟩
theorem aG(h1:PS X st t)(h2:PSs X rest u):PSs X (st::rest) (Gp t u):=by
 intro pins s σ H D I h
 refine wpAny_execs_cons (thn (h1 pins s σ H {D with nx:=u D} I h) λf s1 q=> ?_)
 cases f with
 | next=>
  obtain⟨σ',H',I',q⟩:=q
  exact h2 pins s1 σ' H' D I' q
 | ret v=>exact q
 | brk=>exact q
 | cont=>exact q
theorem aL(h1:PS X st t):PSs X [st] t:=by
 intro pins s σ H D I h
 refine wpAny_execs_cons (thn (h1 pins s σ H D I h) λf s1 q=> ?_)
 cases f with
 | next=>exact wpAny_execs_nil q
 | ret v=>exact q
 | brk=>exact q
 | cont=>exact q
theorem Inv.quiet{pins:List (Addr×Obj)}{σ:St}{H:Hp}{s:Shared}(I:Inv X pins σ H s):interactive X.env=false:=by simp[interactive,I.ok.kind]
def DL(te:TE):TS:=λD σ H=>te σ H λ_ H1=>D.nx σ H1
theorem cT(he:PE X e te)(hs:swapsWith e none pos.line X.env=pure false:=by rfl):PS X (.Expr e pos) (DL te):=by
 intro pins s σ H D I h
 exact wpAny_Expr_any (thn (he pins s σ H _ I h) λv s1 ⟨x,H1,I1,r1,q1⟩=>⟨σ,H1,I1,q1⟩) I.quiet hs
def Gh(te:TE):TS:=λD σ H=>te σ H D.rt
theorem bN(he:PE X e te):PS X (.Return (some e) pos) (Gh te):=by
 intro pins s σ H D I h
 exact wpAny_Return_some (thn (he pins s σ H _ I h) λv s1 ⟨x,H1,I1,r1,q1⟩=>⟨x,σ,H1,I1,r1,q1⟩)
def Gj(c:TT)(t u:TS):TS:=λD σ H=>c σ H λb H1=>if b=true then t D σ H1 else u D σ H1
theorem cK{c:Expr}{a b:List Stmt}{tc:TT}(hc:PT X c tc)(ha:PSs X a t)(hb:PSs X b u):PS X (.If c a b pos) (Gj tc t u):=by
 intro pins s σ H D I h
 refine wpAny_If (thn (hc pins s σ H _ I h) λd s1 ⟨H1,I1,q1⟩=> ?_)
 cases d with
 | true=>exact ha pins s1 σ H1 D I1 q1
 | false=>exact hb pins s1 σ H1 D I1 q1
def Aw:TS:=λ_ _ _=>False
theorem jt:PS X st Aw:=λ_ _ _ _ _ _ h=>h.elim
end
abbrev TG:=V->St->Hp->(St->Hp->Prop)->Prop
abbrev TGs:=List V->St->Hp->(St->Hp->Prop)->Prop
def PG(X:Cx)(target:Expr)(t:TG):Prop:=
 ∀(pins:List (Addr×Obj)) (s:Shared) (σ:St) (H:Hp) (v:V) (u:Value) (Q:St->Hp->Prop),Inv X pins σ H s->RelV v u->t v σ H Q->
  wpAny (model X.prog X.w) X.A (assign target X.env u) (λ_ s'=>∃σ' H',Inv X pins σ' H' s'/\Q σ' H') X.xe s
def PGs(X:Cx)(ts:List Expr)(t:TGs):Prop:=
 ∀(pins:List (Addr×Obj)) (s:Shared) (σ:St) (H:Hp) (vs:List V) (us:List Value) (Q:St->Hp->Prop),Inv X pins σ H s->Vals vs us->t vs σ H Q->
  wpAny (model X.prog X.w) X.A (assignInOrder ((assignEach ts X.env).map (·.2)) us) (λ_ s'=>∃σ' H',Inv X pins σ' H' s'/\Q σ' H') X.xe s
abbrev wq:=V->V->V->Hp->(Hp->Prop)->Prop
def Cc(X:Cx)(t:wq):Prop:=
 ∀(pins:List (Addr×Obj)) (s:Shared) (σ:St) (H:Hp) (o i v:V) (ov iv u:Value) (Q:Hp->Prop),Inv X pins σ H s->RelV o ov->RelV i iv->RelV v u->t o i v H Q->
  wpAny (model X.prog X.w) X.A (setItem ov iv u) (λ_ s'=>∃H',Inv X pins σ H' s'/\Q H') X.xe s
abbrev TIp:=V->V->Hp->VK->Prop
def PIp(X:Cx)(op:Operator)(t:TIp):Prop:=
 ∀(pins:List (Addr×Obj)) (s:Shared) (σ:St) (H:Hp) (x y:V) (v u:Value) (Q:VK),Inv X pins σ H s->RelV x v->RelV y u->t x y H Q->
  wpAny (model X.prog X.w) X.A (inplaceOp op v u) (EP X pins σ Q) X.xe s
section
variable {X : Cx} {pos : Pos}
def p8(i:Nat):TG:=λv σ H Q=>Q (σ.set i (some v)) H
theorem bB{i:Nat}{x:Str}(hN:X.N.Nodup)(hi:X.N[i]? =some x)(hx:Loc X.env.scope x)(hf:X.fn x=true\/X.env.scope.names.lookup x=some .local:=by first | exact .inl rfl | exact .inr rfl | assumption):PG X (.Name x pos) (p8 i):=by
 intro pins s σ H v u Q I r h
 exact wpAny_assign_Name (oh I hN hi hx r (λs' I'=>⟨_,H,I',h⟩) hf)
def Gg:TGs:=λvs σ H Q=>vs=[]/\Q σ H
def Dz(t:TG)(u:TGs):TGs:=λvs σ H Q=>∃v r,vs=v::r/\t v σ H λσ' H'=>u r σ' H' Q
theorem jH:PGs X [] Gg:=by
 intro pins s σ H vs us Q I r h
 obtain⟨e,h⟩:=h
 subst e
 cases r
 exact assignInOrder_nil ⟨σ,H,I,h⟩
theorem cR {e:Expr} {es:List Expr} {t:TG} {u:TGs} (h1:PG X e t) (h2:PGs X es u)
 (hs:(assignEach (e::es) X.env).map (·.2)=assign e X.env::(assignEach es X.env).map (·.2):=by rfl):PGs X (e::es) (Dz t u):=by
 intro pins s σ H vs us Q I r h
 obtain⟨v,vr,e1,h⟩:=h
 subst e1
 cases r with
 | cons r rr=>
  rw[hs]
  refine assignInOrder_cons (thn (h1 pins s σ H _ _ _ I r h) λ_ s1 ⟨σ1,H1,I1,q1⟩=> ?_)
  exact h2 pins s1 σ1 H1 _ _ Q I1 rr q1
def GG(K:PySem.W.Frag)(n:Nat)(t:TGs):TG:=λv σ H Q=>∃a xs,v=.ref a/\SqT K H a xs/\xs.length=n/\t xs σ H Q
theorem kR {es:List Expr} {k:Nat} {t:TGs} {n:Nat} (hc:X.calm=true) (h:PGs X es t)
 (hn:(assignEach es X.env).length=n:=by rfl) (hst:(assignEach es X.env).findIdx? (·.1)=none:=by rfl):PG X (.Tuple es k pos) (GG X.K n t):=by
 intro pins s σ H v u Q I r hw
 obtain⟨a,xs,e1,hq,hl,hw⟩:=hw
 subst e1
 cases r
 obtain⟨its,rv,ht,hz⟩:=I.tuple hq
 refine assign_Tuple_tuple (I.ok.hd hc) ht (by simp[hn,<- hl,rv.length]) hst λh' hx=> ?_
 have I1:Inv X pins σ H {s with heap:=h'}:=I.kept (t':=s.toks) λb o e=>hx b o (Nat.ne_of_lt (Heap.lt_size e)) e
 exact h pins _ σ H xs _ Q I1 (by simpa using rv) hw
def Gm(to ti:TE)(t:wq):TG:=λv σ H Q=>to σ H λo H1=>ti σ H1 λi H2=>t o i v H2 λH3=>Q σ H3
theorem AI {o i:Expr} {to ti:TE} {t:wq} (ho:PE X o to) (hi:PE X i ti) (hs:Cc X t)
 (ha:∀v,assign (.Subscript o i pos) X.env v=(do
  let ov <- holding [v] (eval o X.env)
  let iv <- holding [v,ov] (eval i X.env)
  standAt pos
  holding [v,ov,iv] (setItem ov iv v)
  release [v,ov,iv] []):=by intro _;rfl):PG X (.Subscript o i pos) (Gm to ti t):=by
 intro pins s σ H v u Q I r h
 rw[ha]
 refine wpAny_bind (wpAny_holding (thn (ho pins s σ H _ I h) λov s1 ⟨x,H1,I1,r1,q1⟩=> ?_))
 refine wpAny_bind (wpAny_holding (thn (hi pins s1 σ H1 _ I1 q1) λiv s2 ⟨y,H2,I2,r2,q2⟩=> ?_))
 refine wpAny_bind (wpAny_standAt (wpAny_bind (wpAny_holding (thn (hs pins s2 σ H2 x y v ov iv u _ I2 r1 r2 r q2) λ_ s3 ⟨H3,I3,q3⟩=> ?_))))
 exact wpAny_release ⟨σ,H3,I3,q3⟩
def wg(te:TE)(g:TG):TS:=λD σ H=>te σ H λx H1=>g x σ H1 D.nx
theorem Bg {tg e:Expr} {te:TE} {g:TG} (he:PE X e te) (hg:PG X tg g) (hs:swapsWithSole [tg] e pos.line X.env=pure false:=by rfl) (hw:swappedStores [tg] e X.env=pure none:=by rfl)
 (h1:(assignEach [tg] X.env).map (·.2)=[assign tg X.env]:=by rfl):PS X (.Assign [tg] e pos) (wg te g):=by
 intro pins s σ H D I h
 refine wpAny_Assign_stores (thn (he pins s σ H _ I h) λv s1 ⟨x,H1,I1,r1,q1⟩=> ?_) hs hw
 rw[h1]
 exact thn (hg pins s1 σ H1 x v _ I1 r1 q1) λ_ s2 q=>q
theorem bx{i:Nat}{x:Str}{e:Expr}{te:TE}{pos':Pos}(hN:X.N.Nodup)(hi:X.N[i]? =some x)(hx:Loc X.env.scope x)(he:PE X e te)(hs:swapsWith e (some (.Name x pos')) pos.line X.env=pure false:=by rfl)(hf:X.fn x=true\/X.env.scope.names.lookup x=some .local:=by first | exact .inl rfl | exact .inr rfl | assumption):
 PS X (.Assign [.Name x pos'] e pos) (wg te (p8 i)):=by
 intro pins s σ H D I h
 refine wpAny_Assign_Name (thn (he pins s σ H _ I h) λv s1 ⟨y,H1,I1,r1,q1⟩=> ?_) hs
 exact oh I1 hN hi hx r1 (λs2 I2=>⟨_,H1,I2,q1⟩) hf
def Df(to ti te:TE)(tget:V->V->Hp->VK->Prop)(tip:TIp)(tset:wq):TS:=λD σ H=>to σ H λo H1=>ti σ H1 λi H2=>tget o i H2 λx H3=>te σ H3 λy H4=>tip x y H4 λz H5=>tset o i z H5 λH6=>D.nx σ H6
def GA(X:Cx)(t:V->V->Hp->VK->Prop):Prop:=
 ∀(pins:List (Addr×Obj)) (s:Shared) (σ:St) (H:Hp) (o i:V) (ov iv:Value) (Q:VK),Inv X pins σ H s->RelV o ov->RelV i iv->t o i H Q->
  wpAny (model X.prog X.w) X.A (getItem ov iv) (EP X pins σ Q) X.xe s
theorem Eh {o i e:Expr} {to ti te:TE} {tget:V->V->Hp->VK->Prop} {tip:TIp} {tset:wq} {op:Operator} {tpos:Pos} (ho:PE X o to) (hi:PE X i ti) (hg:GA X tget) (he:PE X e te) (hp:PIp X op tip) (hs:Cc X tset)
 (ha:∀ov iv new,augStore i ov iv new=(do holding [new,ov,iv] (setItem ov iv new);release [new,ov,iv] [];pure .next):=by intros;rfl):PS X (.AugAssign (.Subscript o i tpos) op e pos) (Df to ti te tget tip tset):=by
 intro pins s σ H D I h
 refine wpAny_AugAssign_SubscriptAny (thn (ho pins s σ H _ I h) λov s1 ⟨x1,H1,I1,r1,q1⟩=> ?_) ha
 refine thn (hi pins s1 σ H1 _ I1 q1) λiv s2 ⟨x2,H2,I2,r2,q2⟩=> ?_
 refine thn (hg pins s2 σ H2 x1 x2 ov iv _ I2 r1 r2 q2) λold s3 ⟨x3,H3,I3,r3,q3⟩=> ?_
 refine thn (he pins s3 σ H3 _ I3 q3) λv s4 ⟨x4,H4,I4,r4,q4⟩=> ?_
 refine thn (hp pins s4 σ H4 x3 x4 old v _ I4 r3 r4 q4) λnew s5 ⟨x5,H5,I5,r5,q5⟩=> ?_
 exact thn (hs pins s5 σ H5 x1 x2 x5 ov iv new _ I5 r1 r2 r5 q5) λ_ s6 ⟨H6,I6,q6⟩=>⟨σ,H6,I6,q6⟩
end
section
variable {X : Cx} {pos : Pos}
end
structure It where
 go:Nat->Hp->Prop
 yld:Nat->Hp->V->Hp->Prop
 stop:Nat->Hp->Prop
def kj(X:Cx)(pins:List (Addr×Obj))(H:Hp)(b:Addr):Prop:=
 H b=none/\b≠X.env.locals/\b∉X.fs/\(b∈X.ex\/X.s₀.heap.objs.size<=b)/\(∀x c,X.env.cells.lookup x=some c->c≠b)/\∀p∈X.pn++pins,p.1≠b
theorem Inv.fpOk{X:Cx}{pins:List (Addr×Obj)}{σ:St}{H H':Hp}{s:Shared}{b:Addr}(I:Inv X pins σ H s)(hb:s.heap.objs.size<=b)(hn:H' b=none):kj X pins H' b:=by
 refine⟨hn,Nat.ne_of_gt (Nat.lt_of_lt_of_le I.lt hb),I.nofs hb,.inr (Nat.le_trans I.sz hb),λx c e z=> ?_,λp hp z=> ?_⟩
 ·obtain⟨v,q⟩:=I.cell x c e
  exact absurd (Nat.lt_of_lt_of_le q.lt (by rw[z];exact hb)) (Nat.lt_irrefl _)
 ·exact absurd (Nat.lt_of_lt_of_le (Heap.lt_size (I.pin p hp).1) (by rw[z];exact hb)) (Nat.lt_irrefl _)
structure Turn(P:Program)(w:World)(K:PySem.W.Frag)(tg:Expr)(J:It)(fp:List Addr)(it:Addr)(tn:Nat->Heap->Prop):Prop where
 mem:it∈fp
 obj:∀i h,tn i h->∀b∈fp,∃o,h.get? b=some o/\∀v,o.data≠ .cell v
 keep:∀i h h',tn i h->(∀b∈fp,∀o,h.get? b=some o->h'.get? b=some o)->tn i h'
 item:∀(X:Cx),X.prog=P->X.w=w->X.K=K->X.calm=true->∀(i:Nat) (pins:List (Addr×Obj)) (s:Shared) (σ:St) (H:Hp) (E:Value->Shared->Prop),Inv X pins σ H s->(∀b∈fp,kj X pins H b)->tn i s.heap->J.go i H->
  wpAny (model P w) X.A (pyNext (.ref it)) (λr s1=>∃u,r=some u/\
   wpAny (model P w) X.A (letOwnedTupleGo tg (.ref it) u) (λ_ s2=>∃x H',Inv X pins σ H' s2/\RelV x u/\J.yld i H x H'/\tn (i+1) s2.heap/\∀b∈fp,H' b=none) E s1) E s
 done:∀(X:Cx),X.prog=P->X.w=w->X.K=K->X.calm=true->∀(i:Nat) (pins:List (Addr×Obj)) (s:Shared) (σ:St) (H:Hp) (E:Value->Shared->Prop),Inv X pins σ H s->(∀b∈fp,kj X pins H b)->tn i s.heap->J.stop i H->
  wpAny (model P w) X.A (pyNext (.ref it)) (λr s1=>r=none/\Inv X pins σ H s1) E s
 self:∀(A:Around) (i:Nat) (s:Shared) (Q:Value->Shared->Prop) (E:Value->Shared->Prop),tn i s.heap->Q (.ref it) s->wpAny (model P w) A (pyIter (.ref it)) Q E s
abbrev TI:=St->Hp->(It->Hp->Prop)->Prop
def PIE(X:Cx)(pins:List (Addr×Obj))(σ:St)(tg:Expr)(R:It->Hp->Prop)(itv:Value)(s2:Shared):Prop:=
 ∃(it:Addr) (fp:List Addr) (tn:Nat->Heap->Prop) (J:It) (H':Hp),itv=.ref it/\Inv X pins σ H' s2/\Turn X.prog X.w X.K tg J fp it tn/\tn 0 s2.heap/\(∀b∈fp,kj X pins H' b)/\R J H'
def PI(X:Cx)(tg iter:Expr)(wi:TI):Prop:=
 ∀(pins:List (Addr×Obj)) (s:Shared) (σ:St) (H:Hp) (R:It->Hp->Prop),Inv X pins σ H s->wi σ H R->
  wpAny (model X.prog X.w) X.A (eval iter X.env) (λv s1=>wpAny (model X.prog X.w) X.A (pyIter v) (PIE X pins σ tg R) X.xe s1) X.xe s
theorem zO {M:Model} {A:Around} {E:Value->Shared->Prop} {s:Shared} {tg:Expr} {it:Addr} {u:Value} {o:Obj} {n:String} {vs:Array Value} {Q:Unit->Shared->Prop} (ho:s.heap.get? it=some o) (hc:o.cls=.type n) (hd:o.data=.fields vs)
 (hn:["enumerate","zip","dict_itemiterator","dict_reverseitemiterator","odict_iterator","itertools.zip_longest","itertools.pairwise"].contains n=false) (hQ:Q () s):wpAny M A (letOwnedTupleGo tg (.ref it) u) Q E s:=by
 unfold letOwnedTupleGo
 cases tg <;> first
  | exact wpAny_pure hQ
  | (cases u <;> first
   | exact wpAny_pure hQ
   | (
    refine wpAny_bind (wpAny_load ho ?_)
    rw[hc,hd]
    show wpAny M A (if (["enumerate","zip","dict_itemiterator","dict_reverseitemiterator","odict_iterator","itertools.zip_longest","itertools.pairwise"].contains n&&vs[0]? == some (rawInt _))=true then _ else _) Q E s
    rw[if_neg (by intro h;rw[hn,Bool.false_and] at h;cases h)]
    exact wpAny_pure hQ))
def Itl(K:PySem.W.Frag)(a:Addr):It:=
 ⟨λi H=>∃xs x,SqL K H a xs/\xs[i]? =some x,λi H x H'=>H'=H/\∀xs,SqL K H a xs->xs[i]? =some x,λi H=>∃xs,SqL K H a xs/\xs.length<=i⟩
def Itr(lo:Int)(n:Nat):It:=⟨λi _=>i<n,λi H x H'=>H'=H/\x=.int (lo+i),λi _=>n<=i⟩
theorem Ba{P:Program}{w:World}{K:PySem.W.Frag}{tg:Expr}(a it:Addr):Turn P w K tg (Itl K a) [it] it (λi h=>h.IsListIter it a i) where
 mem:=by simp
 obj:=λi h st b hb=>by
  have e:b=it:=by simpa using hb
  subst e
  obtain⟨o,e,c,d⟩:=st
  exact⟨o,e,λv z=>by rw[d] at z;cases z⟩
 keep:=λi h h' st k=>st.at λo e=>k it (by simp) o e
 item:=by
  intro X hP hw hK hc i pins s σ H E I hf st hg
  subst hP hw hK
  obtain⟨xs,x,hq,hx⟩:=hg
  obtain⟨its,rv,p,hz⟩:=I.list hq
  obtain⟨u,hu,ru⟩:=rv.get hx
  obtain⟨f0,f1,f2,f3,f4,f5⟩:=hf it (by simp)
  refine wpAny_pyNext_list_item st p.isList (x:=u) (by simpa using hu) λh' st' sb=> ?_
  have I1:Inv X pins σ H {s with heap:=h'}:=I.turned (t':=s.toks) (λb o hb e=>(sb.2 b hb).trans e) f0 f1 f3 f4 f5
  obtain⟨o,e,c,d⟩:=id st'
  exact⟨u,rfl,zO (s:={s with heap:=h'}) e c d (by decide) ⟨x,H,I1,ru,⟨rfl,λys hy=>by rw[I.list_inj hy hq];exact hx⟩,st',λb hb=>(hf b hb).1⟩⟩
 done:=by
  intro X hP hw hK hc i pins s σ H E I hf st hg
  subst hP hw hK
  obtain⟨xs,hq,hx⟩:=hg
  obtain⟨its,rv,p,hz⟩:=I.list hq
  obtain⟨f0,f1,f2,f3,f4,f5⟩:=hf it (by simp)
  have hl:=rv.length
  exact wpAny_pyNext_list_end (I.ok.hd hc) st p.isList (by simp;omega) λh' eb=>⟨rfl,I.turned (t':=s.toks) (λb o hb e=>eb b o hb e) f0 f1 f3 f4 f5⟩
 self:=λ_ _ _ _ _ st h=>wpAny_pyIter_listiter st h
theorem Ai{P:Program}{w:World}{K:PySem.W.Frag}{tg:Expr}(it:Addr)(lo:Int)(n:Nat):Turn P w K tg (Itr lo n) [it] it (λi h=>IsRangeIter h it (lo+(i:Nat)*1) ((n:Int)-(i:Nat)) 1) where
 mem:=by simp
 obj:=λi h st b hb=>by
  have e:b=it:=by simpa using hb
  subst e
  exact⟨_,st,λv z=>by
   have z':Data.fields _=Data.cell v:=z
   cases z'⟩
 keep:=λi h h' st k=>k it (by simp) _ st
 item:=by
  intro X hP hw hK hc i pins s σ H E I hf st hg
  subst hP hw hK
  obtain⟨f0,f1,f2,f3,f4,f5⟩:=hf it (by simp)
  have W:=Walks.range (prog:=X.prog) (w:=X.w) (I.ok.hd hc) it lo 1 n
  refine W.item i s _ _ hg st λv h' tk hv st' kk=> ?_
  obtain⟨t,rfl⟩:=hv
  have I1:Inv X pins σ H {s with heap:=h',toks:=tk}:=I.turned (λb o hb e=>kk b o (by simpa using hb) e) f0 f1 f3 f4 f5
  refine⟨_,rfl,zO (s:={s with heap:=h',toks:=tk}) (n:="range_iterator") st' rfl rfl (by decide) ⟨.int (lo+i),H,I1,⟨t, ?_⟩,⟨rfl,rfl⟩,st',λb hb=>(hf b hb).1⟩⟩
  rw[Int.mul_one]
 done:=by
  intro X hP hw hK hc i pins s σ H E I hf st hg
  subst hP hw hK
  obtain⟨f0,f1,f2,f3,f4,f5⟩:=hf it (by simp)
  exact wpAny_pyNext_range_end (I.ok.hd hc) st (by have:n<=i:=hg;omega) λh' eb=>⟨rfl,I.turned (t':=s.toks) (λb o hb e=>eb b o hb e) f0 f1 f3 f4 f5⟩
 self:=λ_ _ _ _ _ st h=>wpAny_pyIter_rangeiter st h
end L2
namespace L2
open PySem PySem.Spec PyProof.Rows
section
variable {X : Cx} {tg : Expr}
def Dn(K:PySem.W.Frag)(tl:TE):TI:=λσ H R=>tl σ H λx H1=>∃a,x=.ref a/\(∃xs,SqL K H1 a xs)/\R (Itl K a) H1
theorem fu{l:Expr}{tl:TE}(hl:PE X l tl):PI X tg l (Dn X.K tl):=by
 intro pins s σ H R I h
 refine thn (hl pins s σ H _ I h) λv s1 ⟨x,H1,I1,r1,q1⟩=> ?_
 obtain⟨a,e,⟨xs,hq⟩,q⟩:=q1
 subst e
 cases r1
 obtain⟨its,rv,p,hz⟩:=I1.list hq
 refine wpAny_pyIter_list p.isList ?_
 refine⟨s1.heap.objs.size,[s1.heap.objs.size],_,_,H1,rfl,I1.kept (t':=s1.toks) λb o e=>Heap.get?_push_of_some _ e,Ba a _,⟨_,Heap.get?_push_size _ rfl,rfl,rfl⟩,λb hb=> ?_,q⟩
 have e:b=s1.heap.objs.size:=by simpa using hb
 subst e
 exact I1.fpOk (Nat.le_refl _) (I1.hok.fresh (Nat.le_refl _))
theorem CZ {pins:List (Addr×Obj)} {σ:St} {H:Hp} {s:Shared} {R:It->Hp->Prop} {E:Value->Shared->Prop} {lo hi:Int} {t u v:Tok} {tk:Nat} (I:Inv X pins σ H s) (h1: -(2^62)<=lo) (h2:lo<2^62) (h3: -(2^62)<=hi) (h4:hi<2^62)
 (q:R (Itr lo (hi-lo).toNat) H):wpAny (model X.prog X.w) X.A (pyIter (.ref s.heap.objs.size)) (PIE X pins σ tg R) E {s with heap:=s.heap.push {cls:=.type "range",data:=.fields #[.int lo t,.int hi u,.int 1 v]},toks:=tk}:=by
 refine wpAny_pyIter_range (IsRange.new ..) (small_one h1 h2 h3 h4) ?_
 have I1:Inv X pins σ H {s with heap:=s.heap.push {cls:=.type "range",data:=.fields #[.int lo t,.int hi u,.int 1 v]},toks:=tk}:=I.kept λb o e=>Heap.get?_push_of_some _ e
 refine⟨(s.heap.push {cls:=.type "range",data:=.fields #[.int lo t,.int hi u,.int 1 v]}).objs.size,[(s.heap.push {cls:=.type "range",data:=.fields #[.int lo t,.int hi u,.int 1 v]}).objs.size],_,_,H,rfl,
  I1.kept (t':=tk) λb o e=>Heap.get?_push_of_some _ e,Ai _ lo (hi-lo).toNat, ?_,λb hb=> ?_,q⟩
 ·have e1:lo+((0:Nat):Int)*1=lo:=by simp
  have e2:(((hi-lo).toNat:Nat):Int)-((0:Nat):Int)=Builtin.Range.rangeSize lo hi 1:=by rw[rangeSize_one];split <;> omega
  show IsRangeIter _ _ (lo+((0:Nat):Int)*1) ((((hi-lo).toNat:Nat):Int)-((0:Nat):Int)) 1
  rw[e1,e2]
  exact Heap.get?_push_size _ rfl
 ·have e:b=(s.heap.push {cls:=.type "range",data:=.fields #[.int lo t,.int hi u,.int 1 v]}).objs.size:=by simpa using hb
  subst e
  exact I1.fpOk (Nat.le_refl _) (I1.hok.fresh (Nat.le_refl _))
def Dy(ta:TA):TI:=λσ H R=>ta σ H λvs H1=>∃j:Int,vs=[.int j]/\ -(2^62)<=j/\j<2^62/\R (Itr 0 j.toNat) H1
theorem fJ{a:Expr}{ta:TA}{p pos:Pos}(hg:Gl X "range")(hm:X.mg "range" =none)(ha:PA X [a] ta)(hs:starEach [a] X.env=[(false,eval a X.env)]:=by rfl):PI X tg (.Call (.Name "range" p) [a] [] pos) (Dy ta):=by
 intro pins s σ H R I h
 refine Call_ (nA I hg hm boot_range (PyProof.Rows.callWith_type1 (thn (ha pos pins s σ H _ I h) λus s1 ⟨vs,H1,I1,r1,q1⟩=> ?_) hs rfl))
 obtain⟨j,e,q1,q2,q⟩:=q1
 subst e
 cases r1 with
 | cons r rr=>
  cases rr
  obtain⟨t,rfl⟩:=r
  exact call_range_1 (CZ I1 (by omega) (by omega) q1 q2 (by simpa using q))
def Gd(wi:TI)(g:TG)(tb:TS):TS:=λD σ H=>wi σ H λJ H1=>∃W:Nat->Nat->St->Hp->Prop,(∃m,W 0 m σ H1)/\∀i m σ H,W i m σ H->
 (J.stop i H/\D.nx σ H)\/(J.go i H/\∃N:St->Hp->Prop,(∀σ' H',N σ' H'->∃m',m'<m/\W (i+1) m' σ' H')/\∀x H',J.yld i H x H'->g x σ H' λσ2 H2=>tb {D with nx:=N,ct:=N,bk:=D.nx} σ2 H2)
def o9(fp:List Addr)(h:Heap):List (Addr×Obj):=fp.filterMap λb=>(h.get? b).map λo=>(b,o)
theorem lB{fp:List Addr}{h:Heap}{b:Addr}{o:Obj}(hb:b∈fp)(e:h.get? b=some o):(b,o)∈o9 fp h:=List.mem_filterMap.mpr ⟨b,hb,by rw[e];rfl⟩
theorem Bd{fp:List Addr}{h:Heap}{p:Addr×Obj}(hp:p∈o9 fp h):p.1∈fp/\h.get? p.1=some p.2:=by
 obtain⟨b,hb,e⟩:=List.mem_filterMap.mp hp
 cases q:h.get? b with
 | none=>rw[q] at e;cases e
 | some o=>
  rw[q] at e
  have e':(b,o)=p:=Option.some.inj e
  subst e'
  exact⟨hb,q⟩
theorem Inv.pinned{pins:List (Addr×Obj)}{σ:St}{H:Hp}{s:Shared}{fp:List Addr}(I:Inv X pins σ H s)(hf:∀b∈fp,kj X pins H b)(ho:∀b∈fp,∃o,s.heap.get? b=some o/\∀v,o.data≠ .cell v):Inv X (pins++o9 fp s.heap) σ H s:=
 I.pins_of λp hp=>(List.mem_append.mp hp).elim (λz=>I.pin p (List.mem_append_right _ z)) λz=>by
  obtain⟨hb,e⟩:=Bd z
  obtain⟨f0,f1,f2,_⟩:=hf p.1 hb
  obtain⟨o,e',d⟩:=ho p.1 hb
  rw[e] at e';cases e'
  exact⟨e,f0,f1,f2,d⟩
theorem Inv.unpinned{pins pl:List (Addr×Obj)}{σ:St}{H:Hp}{s:Shared}(I:Inv X (pins++pl) σ H s):Inv X pins σ H s:=I.pins_of λp hp=>I.pin p (List.mem_append_right _ (List.mem_append_left _ hp))
theorem jm {iter:Expr} {body:List Stmt} {wi:TI} {g:TG} {tb:TS} {pos:Pos} (hp:PassesOwn (model X.prog X.w) X.A X.env X.xe) (hc:X.calm=true) (hi:PI X tg iter wi) (hg:PG X tg g) (hb:PSs X body tb)
 (hs:∀x,foldedSetIterable iter X.env x=pure x:=by intro _;rfl):PS X (.For tg iter body [] pos) (Gd wi g tb):=by
 intro pins s σ H D I h
 refine wpAny_For (thn (hi pins s σ H _ I h) λv s1 h1=>thn h1 λitv s2 h2=> ?_) hs
 obtain⟨it,fp,tn,J,H2,e,I2,T,st2,f2,W,⟨m0,w0⟩,turn⟩:=h2
 subst e
 have stat:∀{H':Hp},(∀b∈fp,H' b=none)->∀b∈fp,kj X pins H' b:=λhn b hb=>⟨hn b hb,(f2 b hb).2⟩
 refine codeAny_forLoop_any (λn s'=>∃i σ' H',Inv X pins σ' H' s'/\tn i s'.heap/\(∀b∈fp,H' b=none)/\W i n σ' H') ?_ m0 ⟨0,σ,H2,I2,st2,λb hb=>(f2 b hb).1,w0⟩
 rintro n s3 ⟨i,σ3,H3,I3,st3,fr3,w3⟩
 rcases turn i n σ3 H3 w3 with⟨stop,qn⟩ | ⟨go,N,hN,step⟩
 ·refine wpAny_passesOwn hp (thn (T.done X rfl rfl rfl hc i pins s3 σ3 H3 X.xe I3 (stat fr3) st3 stop) λr s4 ⟨hr,I4⟩=> ?_)
  subst hr
  exact wpAny_execs_nil ⟨σ3,H3,I4,qn⟩
 ·refine wpAny_passesOwn hp (thn (T.item X rfl rfl rfl hc i pins s3 σ3 H3 X.xe I3 (stat fr3) st3 go) λr s4 ⟨u,hr,h4⟩=> ?_)
  subst hr
  refine wpAny_passesOwn hp (thn h4 λ_ s5 ⟨x,H5,I5,r5,y5,st5,fr5⟩=> ?_)
  have I5':=I5.pinned (stat fr5) (T.obj _ _ st5)
  refine wpAny_passesOwn hp (thn (hg _ s5 σ3 H5 x u _ I5' r5 (step x H5 y5)) λ_ s6 ⟨σ6,H6,I6,q6⟩=> ?_)
  refine wpAny_passesOwn hp (thn (hb _ s6 σ6 H6 _ I6 q6) λf s7 q7=> ?_)
  have again:∀{σ7:St} {H7:Hp},Inv X (pins++o9 fp s5.heap) σ7 H7 s7->N σ7 H7->∃m,m<n/\∃i σ' H',Inv X pins σ' H' s7/\tn i s7.heap/\(∀b∈fp,H' b=none)/\W i m σ' H':=λ{σ7 H7} I7 n7=>by
   obtain⟨m',hm,w7⟩:=hN σ7 H7 n7
   refine⟨m',hm,i+1,σ7,H7,I7.unpinned,T.keep _ _ _ st5 λb hb o e=>(I7.pin (b,o) (List.mem_append_right _ (List.mem_append_right _ (lB hb e)))).1,λb hb=> ?_,w7⟩
   obtain⟨o,e,d⟩:=T.obj _ _ st5 b hb
   exact(I7.pin (b,o) (List.mem_append_right _ (List.mem_append_right _ (lB hb e)))).2.1
  cases f with
  | next=>obtain⟨σ7,H7,I7,n7⟩:=q7;exact again I7 n7
  | cont=>obtain⟨σ7,H7,I7,n7⟩:=q7;exact again I7 n7
  | brk=>obtain⟨σ7,H7,I7,q7⟩:=q7;exact⟨σ7,H7,I7.unpinned,q7⟩
  | ret v=>obtain⟨x7,σ7,H7,I7,r7,q7⟩:=q7;exact⟨x7,σ7,H7,I7.unpinned,r7,q7⟩
end
end L2
namespace L2
open PySem PySem.Spec PyProof.Rows
abbrev R2:=V->V->Hp->VK->Prop
def OpR(X:Cx)(f:Value->Value->Sem Value)(r:R2):Prop:=
 ∀(pins:List (Addr×Obj)) (s:Shared) (σ:St) (H:Hp) (x y:V) (v u:Value) (Q:VK),Inv X pins σ H s->RelV x v->RelV y u->r x y H Q->
  wpAny (model X.prog X.w) X.A (f v u) (EP X pins σ Q) X.xe s
def UnR(X:Cx)(f:Value->Sem Value)(r:V->Hp->VK->Prop):Prop:=
 ∀(pins:List (Addr×Obj)) (s:Shared) (σ:St) (H:Hp) (x:V) (v:Value) (Q:VK),Inv X pins σ H s->RelV x v->r x H Q->
  wpAny (model X.prog X.w) X.A (f v) (EP X pins σ Q) X.xe s
def ic(X:Cx)(f:Value)(r:List V->Hp->VK->Prop):Prop:=
 ∀(pins:List (Addr×Obj)) (s:Shared) (σ:St) (H:Hp) (xs:List V) (us:List Value) (Q:VK),Inv X pins σ H s->Vals xs us->r xs H Q->
  wpAny (model X.prog X.w) X.A (call f us) (EP X pins σ Q) X.xe s
def IG(X:Cx)(r:V->Hp->(Bool->Hp->Prop)->Prop):Prop:=
 ∀(pins:List (Addr×Obj)) (s:Shared) (σ:St) (H:Hp) (x:V) (v:Value) (Q:Bool->Hp->Prop),Inv X pins σ H s->RelV x v->r x H Q->
  wpAny (model X.prog X.w) X.A (truthy v) (TP X pins σ Q) X.xe s
def tOp(r:R2)(ta tb:TE):TE:=λσ H Q=>ta σ H λx H1=>tb σ H1 λy H2=>r x y H2 Q
def tUn(r:V->Hp->VK->Prop)(ta:TE):TE:=λσ H Q=>ta σ H λx H1=>r x H1 Q
def rI(C:Int->Int->Prop)(g:Int->Int->V):R2:=λx y H Q=>∃i j,x=.int i/\y=.int j/\C i j/\Q (g i j) H
def rI0(g:Int->Int->V):R2:=λx y H Q=>∃i j,x=.int i/\y=.int j/\Q (g i j) H
def rU(g:Int->V):V->Hp->VK->Prop:=λx H Q=>∃i,x=.int i/\Q (g i) H
section
variable {X : Cx} {a b c : Expr} {ta tb tc : TE} {pos : Pos}
theorem BV (ha:PE X a ta) (hb:PE X b tb) {pins:List (Addr×Obj)} {s:Shared} {σ:St} {H:Hp} {R:V->V->Hp->Prop} (I:Inv X pins σ H s)
 (h:ta σ H λx H1=>tb σ H1 λy H2=>R x y H2) {Q:Value->Shared->Prop} {f:Value->Value->Sem Value}
 (hf:∀v u s2 x y H2,Inv X pins σ H2 s2->RelV x v->RelV y u->R x y H2->wpAny (model X.prog X.w) X.A (f v u) Q X.xe s2):
 wpAny (model X.prog X.w) X.A (eval a X.env) (λv s₁=>wpAny (model X.prog X.w) X.A (eval b X.env) (λu s₂=>wpAny (model X.prog X.w) X.A (f v u) Q X.xe s₂) X.xe s₁) X.xe s:=by
 refine thn (ha pins s σ H _ I h) λv s1 ⟨x,H1,I1,r1,q1⟩=> ?_
 refine thn (hb pins s1 σ H1 _ I1 q1) λu s2 ⟨y,H2,I2,r2,q2⟩=> ?_
 exact hf v u s2 x y H2 I2 r1 r2 q2
theorem aP{op:Operator}{r:R2}(ho:OpR X (binaryOp op) r)(ha:PE X a ta)(hb:PE X b tb):PE X (.BinOp a op b pos) (tOp r ta tb):=by
 intro pins s σ H Q I h
 exact wpAny_BinOp (BV ha hb I h λv u s2 x y H2 I2 rx ry q=>ho pins s2 σ H2 x y v u Q I2 rx ry q)
theorem vm{op:UnaryOp}{r:V->Hp->VK->Prop}(ho:UnR X (unaryOp op) r)(ha:PE X a ta):PE X (.UnaryOp op a pos) (tUn r ta):=by
 intro pins s σ H Q I h
 exact UnaryOp_ (thn (ha pins s σ H _ I h) λv s1 ⟨x,H1,I1,r1,q1⟩=>ho pins s1 σ H1 x v Q I1 r1 q1)
theorem opI {f:Value->Value->Sem Value} {C:Int->Int->Prop} {g:Int->Int->Int}
 (rule:∀(i j:Int) (t u:Tok) (s:Shared) (Q:Value->Shared->Prop) (E:Value->Shared->Prop),C i j->Q (.int (g i j) s.toks) {s with toks:=s.toks+1}->wpAny (model X.prog X.w) X.A (f (.int i t) (.int j u)) Q E s):
 OpR X f (rI C λi j=>.int (g i j)):=by
 intro pins s σ H x y v u Q I rx ry h
 obtain⟨i,j,rfl,rfl,hc,q⟩:=h
 obtain⟨t,rfl⟩:=rx
 obtain⟨t',rfl⟩:=ry
 exact rule i j t t' s _ _ hc ⟨.int (g i j),H,I.tok _,⟨_,rfl⟩,q⟩
theorem B5 {f:Value->Value->Sem Value} {g:Int->Int->Int}
 (rule:∀(i j:Int) (t u:Tok) (s:Shared) (Q:Value->Shared->Prop) (E:Value->Shared->Prop),Q (.int (g i j) s.toks) {s with toks:=s.toks+1}->wpAny (model X.prog X.w) X.A (f (.int i t) (.int j u)) Q E s):
 OpR X f (rI0 λi j=>.int (g i j)):=by
 intro pins s σ H x y v u Q I rx ry h
 obtain⟨i,j,rfl,rfl,q⟩:=h
 obtain⟨t,rfl⟩:=rx
 obtain⟨t',rfl⟩:=ry
 exact rule i j t t' s _ _ ⟨.int (g i j),H,I.tok _,⟨_,rfl⟩,q⟩
theorem GP {f:Value->Value->Sem Value} {g:Int->Int->Bool}
 (rule:∀(i j:Int) (t u:Tok) (s:Shared) (Q:Value->Shared->Prop) (E:Value->Shared->Prop),Q (.bool (g i j)) s->wpAny (model X.prog X.w) X.A (f (.int i t) (.int j u)) Q E s):
 OpR X f (rI0 λi j=>.bl (g i j)):=by
 intro pins s σ H x y v u Q I rx ry h
 obtain⟨i,j,rfl,rfl,q⟩:=h
 obtain⟨t,rfl⟩:=rx
 obtain⟨t',rfl⟩:=ry
 exact rule i j t t' s _ _ ⟨.bl (g i j),H,I,rfl,q⟩
def BU(i j:Int):Prop:=0<=j/\j<=1000000/\i.natAbs<2^64
def FO(i j:Int):Prop:=(-(2^64)<i/\i<2^64)\/(-(2^64)<j/\j<2^64)
theorem FO.ok{i j:Int}(h:FO i j):IntMulOk i j:=by
 rcases h with⟨h1,h2⟩ | ⟨h1,h2⟩
 ·exact .of_left (intBits_le_64 h1 h2)
 ·exact .of_right (intBits_le_64 h1 h2)
theorem Fn:OpR X (binaryOp .Add) (rI0 λi j=>.int (i+j)):=B5 λ_ _ _ _ _ _ _ q=>add_int q
theorem jR:OpR X (binaryOp .Sub) (rI0 λi j=>.int (i-j)):=B5 λ_ _ _ _ _ _ _ q=>sub_int q
theorem dX:OpR X (binaryOp .Mod) (rI (λ_ j=>j≠0) λi j=>.int (i.fmod j)):=opI λ_ _ _ _ _ _ _ hc q=>mod_int' hc q
theorem lT:OpR X (binaryOp .Pow) (rI BU λi j=>.int (i^j.toNat)):=opI λ_ _ _ _ _ _ _ hc q=>pow_int_small hc.1 hc.2.1 hc.2.2 q
theorem EX:OpR X (inplaceOp .Add) (rI0 λi j=>.int (i+j)):=B5 λ_ _ _ _ _ _ _ q=>iadd_int q
theorem unI {f:Value->Sem Value} {g:Int->Int}
 (rule:∀(i:Int) (t:Tok) (s:Shared) (Q:Value->Shared->Prop) (E:Value->Shared->Prop),Q (.int (g i) s.toks) {s with toks:=s.toks+1}->wpAny (model X.prog X.w) X.A (f (.int i t)) Q E s):
 UnR X f (rU λi=>.int (g i)):=by
 intro pins s σ H x v Q I rx h
 obtain⟨i,rfl,q⟩:=h
 obtain⟨t,rfl⟩:=rx
 exact rule i t s _ _ ⟨.int (g i),H,I.tok _,⟨_,rfl⟩,q⟩
theorem rP:UnR X (unaryOp .USub) (rU λi=>.int (-i)):=unI λ_ _ _ _ _ q=>neg_int q
end
def Fs:V->V->Bool
 | .non,.non=>true | .non,.int _=>true | .int _,.non=>true | .non,.bl _=>true | .bl _,.non=>true | .non,.str _=>true | .str _,.non=>true
 | .int _,.int _=>true | .bl _,.bl _=>true | .str _,.str _=>true | .byt _,.byt _=>true
 | .int _,.str _=>true | .str _,.int _=>true | .bl _,.str _=>true | .str _,.bl _=>true
 | _,_=>false
def rEq:R2:=λx y H Q=>Fs x y=true/\Q (.bl (decide (x=y))) H
def rNe:R2:=λx y H Q=>Fs x y=true/\Q (.bl (!decide (x=y))) H
theorem p9{i j:Int}:decide (V.int i=V.int j)=(i == j):=by
 rw[Bool.eq_iff_iff]
 simp
theorem rL{i j:Bool}:decide (V.bl i=V.bl j)=(i == j):=by
 rw[Bool.eq_iff_iff]
 simp
theorem qb{i j:Str}:decide (V.str i=V.str j)=(i == j):=by
 rw[Bool.eq_iff_iff]
 simp
theorem yC{i j:Array UInt8}:decide (V.byt i=V.byt j)=(i.toList == j.toList):=by
 rw[Bool.eq_iff_iff]
 cases i
 cases j
 simp
section
variable {X : Cx} {a b c : Expr} {ta tb tc : TE} {pos : Pos}
theorem bW{pins:List (Addr×Obj)}{σ:St}{H:Hp}{s:Shared}{Q:VK}{k k':Bool}(I:Inv X pins σ H s)(q:Q (.bl k) H)(e:k=k'):EP X pins σ Q (.bool k') s:=by
 subst e
 exact⟨.bl k,H,I,rfl,q⟩
theorem Hg:OpR X (compareOp .Eq) rEq:=by
 intro pins s σ H x y v u Q I rx ry h
 obtain⟨hs,q⟩:=h
 cases x with
 | non=>
  cases rx
  cases y with
  | non=>cases ry;exact PySem.EqNone.eq_none_none (bW I q (by simp))
  | bl j=>cases ry;exact PySem.EqNone.eq_none_bool (bW I q (by simp))
  | int j=>obtain⟨t',rfl⟩:=ry;exact PySem.EqNone.eq_none_int (bW I q (by simp))
  | str j=>obtain⟨t',rfl⟩:=ry;exact PySem.EqNone.eq_none_str (bW I q (by simp))
  | _=>exact absurd (show false=true from hs) Bool.false_ne_true
 | bl i=>
  cases rx
  cases y with
  | non=>cases ry;exact PySem.EqNone.eq_bool_none (bW I q (by simp))
  | bl j=>cases ry;exact eq_bool (bW I q rL)
  | str j=>obtain⟨t',rfl⟩:=ry;exact PySem.EqMixed.eq_bool_str (bW I q (by simp))
  | _=>exact absurd (show false=true from hs) Bool.false_ne_true
 | int i=>
  obtain⟨t,rfl⟩:=rx
  cases y with
  | non=>cases ry;exact PySem.EqNone.eq_int_none (bW I q (by simp))
  | int j=>obtain⟨t',rfl⟩:=ry;exact eq_int (bW I q p9)
  | str j=>obtain⟨t',rfl⟩:=ry;exact PySem.EqMixed.eq_int_str (bW I q (by simp))
  | _=>exact absurd (show false=true from hs) Bool.false_ne_true
 | str i=>
  obtain⟨t,rfl⟩:=rx
  cases y with
  | non=>cases ry;exact PySem.EqNone.eq_str_none (bW I q (by simp))
  | bl j=>cases ry;exact PySem.EqMixed.eq_str_bool (bW I q (by simp))
  | int j=>obtain⟨t',rfl⟩:=ry;exact PySem.EqMixed.eq_str_int (bW I q (by simp))
  | str j=>obtain⟨t',rfl⟩:=ry;exact eq_str (bW I q qb)
  | _=>exact absurd (show false=true from hs) Bool.false_ne_true
 | byt i=>
  obtain⟨t,rfl⟩:=rx
  cases y with
  | byt j=>obtain⟨t',rfl⟩:=ry;exact PySem.W.eq_bytes (bW I q yC)
  | _=>exact absurd (show false=true from hs) Bool.false_ne_true
 | _=>cases y <;> exact absurd (show false=true from hs) Bool.false_ne_true
theorem He:OpR X (compareOp .NotEq) rNe:=by
 intro pins s σ H x y v u Q I rx ry h
 obtain⟨hs,q⟩:=h
 cases x with
 | non=>
  cases rx
  cases y with
  | non=>cases ry;exact PySem.EqNone.ne_none_none (bW I q (by simp))
  | bl j=>cases ry;exact PySem.EqNone.ne_none_bool (bW I q (by simp))
  | int j=>obtain⟨t',rfl⟩:=ry;exact PySem.EqNone.ne_none_int (bW I q (by simp))
  | str j=>obtain⟨t',rfl⟩:=ry;exact PySem.EqNone.ne_none_str (bW I q (by simp))
  | _=>exact absurd (show false=true from hs) Bool.false_ne_true
 | bl i=>
  cases rx
  cases y with
  | non=>cases ry;exact PySem.EqNone.ne_bool_none (bW I q (by simp))
  | bl j=>cases ry;exact ne_bool (bW I q (congrArg not rL))
  | str j=>obtain⟨t',rfl⟩:=ry;exact PySem.EqMixed.ne_bool_str (bW I q (by simp))
  | _=>exact absurd (show false=true from hs) Bool.false_ne_true
 | int i=>
  obtain⟨t,rfl⟩:=rx
  cases y with
  | non=>cases ry;exact PySem.EqNone.ne_int_none (bW I q (by simp))
  | int j=>obtain⟨t',rfl⟩:=ry;exact ne_int (bW I q (congrArg not p9))
  | str j=>obtain⟨t',rfl⟩:=ry;exact PySem.EqMixed.ne_int_str (bW I q (by simp))
  | _=>exact absurd (show false=true from hs) Bool.false_ne_true
 | str i=>
  obtain⟨t,rfl⟩:=rx
  cases y with
  | non=>cases ry;exact PySem.EqNone.ne_str_none (bW I q (by simp))
  | bl j=>cases ry;exact PySem.EqMixed.ne_str_bool (bW I q (by simp))
  | int j=>obtain⟨t',rfl⟩:=ry;exact PySem.EqMixed.ne_str_int (bW I q (by simp))
  | str j=>obtain⟨t',rfl⟩:=ry;exact ne_str (bW I q (congrArg not qb))
  | _=>exact absurd (show false=true from hs) Bool.false_ne_true
 | byt i=>
  obtain⟨t,rfl⟩:=rx
  cases y with
  | byt j=>obtain⟨t',rfl⟩:=ry;exact PySem.W.ne_bytes (bW I q (congrArg not yC))
  | _=>exact absurd (show false=true from hs) Bool.false_ne_true
 | _=>cases y <;> exact absurd (show false=true from hs) Bool.false_ne_true
theorem zE:OpR X (compareOp .Lt) (rI0 λi j=>.bl (decide (i<j))):=GP λ_ _ _ _ _ _ _ q=>lt_int q
theorem j8:OpR X (compareOp .Gt) (rI0 λi j=>.bl (decide (j<i))):=GP λ_ _ _ _ _ _ _ q=>gt_int q
theorem OpR.or{f:Value->Value->Sem Value}{r r':R2}(h:OpR X f r)(h':OpR X f r'):OpR X f (λx y H Q=>r x y H Q\/r' x y H Q):=by
 intro pins s σ H x y v u Q I rx ry q
 rcases q with q | q
 ·exact h pins s σ H x y v u Q I rx ry q
 ·exact h' pins s σ H x y v u Q I rx ry q
theorem bO(b:Expr){op:CmpOp}(h:op≠ .In:=by decide)(h2:op≠ .NotIn:=by decide):behindInMarks op b=false:=by
 have e1:(op == CmpOp.In)=false:=by cases op <;> first | rfl | exact absurd rfl h
 have e2:(op == CmpOp.NotIn)=false:=by cases op <;> first | rfl | exact absurd rfl h2
 cases b <;> simp[behindInMarks,e1,e2]
theorem jO{op:CmpOp}{r:R2}(ho:OpR X (compareOp op) r)(ha:PE X a ta)(hb:PE X b tb)(hm:behindInMarks op b=false):PE X (.Compare a [op] [b] pos) (tOp r ta tb):=by
 intro pins s σ H Q I h
 exact wpAny_Compare1 (BV ha hb I h λv u s2 x y H2 I2 rx ry q=>ho pins s2 σ H2 x y v u Q I2 rx ry q) hm
def Dj(t:TE):TT:=λσ H Q=>t σ H λx H'=>∃k,x=.bl k/\Q k H'
theorem bS{op:CmpOp}{r:R2}(ho:OpR X (compareOp op) r)(ha:PE X a ta)(hb:PE X b tb)(hm:behindInMarks op b=false):PT X (.Compare a [op] [b] pos) (Dj (tOp r ta tb)):=by
 intro pins s σ H Q I h
 refine wpAny_isTrue_Compare1 (thn (ha pins s σ H _ I h) λv s1 ⟨x,H1,I1,r1,q1⟩=>thn (hb pins s1 σ H1 _ I1 q1) λu s2 ⟨y,H2,I2,r2,q2⟩=>
  thn (ho pins s2 σ H2 x y v u _ I2 r1 r2 q2) λc s3 ⟨z,H3,I3,r3,k,e,q3⟩=> ?_) hm
 subst e
 cases r3
 exact wpAny_truthy_bool ⟨H3,I3,q3⟩
def AE(r r':R2)(ta tb tc:TE):TE:=λσ H Q=>ta σ H λx H1=>tb σ H1 λy H2=>r x y H2 λz H3=>∃k,z=.bl k/\
 (if k=true then tc σ H3 λw' H4=>r' y w' H4 Q else Q (.bl false) H3)
theorem CV {op op':CmpOp} {r r':R2} (ho:OpR X (compareOp op) r) (ho':OpR X (compareOp op') r') (ha:PE X a ta) (hb:PE X b tb) (hc:PE X c tc)
 (hm:lastMarks [op,op'] [b,c]=false:=by with_unfolding_all rfl):PE X (.Compare a [op,op'] [b,c] pos) (AE r r' ta tb tc):=by
 intro pins s σ H Q I h
 refine Compare_chain (thn (ha pins s σ H _ I h) λv s1 ⟨x,H1,I1,r1,q1⟩=>chain_link (thn (hb pins s1 σ H1 _ I1 q1) λu s2 ⟨y,H2,I2,r2,q2⟩=>
  thn (ho pins s2 σ H2 x y v u _ I2 r1 r2 q2) λd s3 ⟨z,H3,I3,r3,k,e,q3⟩=> ?_)) hm
 subst e
 cases r3
 refine wpAny_truthy_bool ?_
 cases k with
 | false=>exact ite_ff ⟨.bl false,H3,I3,rfl,q3⟩
 | true=>exact ite_tt (chain_last (thn (hc pins s3 σ H3 _ I3 q3) λw' s4 ⟨z',H4,I4,r4,q4⟩=>ho' pins s4 σ H4 y z' u w' Q I4 r2 r4 q4))
def Ie(K:PySem.W.Frag)(x:V)(H:Hp)(k:Bool):Prop:=
 match x with
 | .non=>k=false
 | .bl b=>k=b
 | .int i=>k=(i != 0)
 | .str y=>y.length<=sizeLine/\k=((y.length:Int) != 0)
 | .byt y=>y.size<=sizeLine/\k=((y.size:Int) != 0)
 | .ref p=>(∃xs,SqL K H p xs/\k= !xs.isEmpty)\/(∃xs,SqT K H p xs/\k= !xs.isEmpty)\/∃kvs,H p=some (.dK kvs)/\k= !kvs.isEmpty
 | _=>False
theorem Aa{κ:Type}{kvs:List (κ×V)}{vs:List (κ×Value)}(r:KV kvs vs):(!vs.isEmpty)= !kvs.isEmpty:=by
 cases r <;> rfl
theorem rS{xs:List V}{its:List Value}(r:Vals xs its):(!its.toArray.isEmpty)= !xs.isEmpty:=by
 cases r <;> simp
theorem la:(sizeLine:Nat)<2^63:=by rw[sizeLine_eq];decide
theorem JD:IG X (λx H Q=>∃k,Ie X.K x H k/\Q k H):=by
 intro pins s σ H x v Q I rx h
 obtain⟨k,e,q⟩:=h
 have hl:=la
 have hs:sizeLine=16777216:=sizeLine_eq
 cases x with
 | non=>
  cases rx
  have e':k=false:=e
  subst e'
  exact truthy_none ⟨H,I,q⟩
 | bl b=>
  cases rx
  have e':k=b:=e
  subst e'
  exact wpAny_truthy_bool ⟨H,I,q⟩
 | int i=>
  obtain⟨t,rfl⟩:=rx
  have e':k=(i != 0):=e
  subst e'
  exact PySem.P.truthy_int ⟨H,I,q⟩
 | str y=>
  obtain⟨t,rfl⟩:=rx
  obtain⟨hy,e'⟩:y.length<=sizeLine/\k=((y.length:Int) != 0):=e
  subst e'
  exact PySem.P.truthy_str (by omega) ⟨H,I.tok _,q⟩
 | byt y=>
  obtain⟨t,rfl⟩:=rx
  obtain⟨hy,e'⟩:y.size<=sizeLine/\k=((y.size:Int) != 0):=e
  subst e'
  exact PySem.W.truthy_bytes (by omega) ⟨H,I.tok _,q⟩
 | ref p=>
  cases rx
  have e':(∃xs,SqL X.K H p xs/\k= !xs.isEmpty)\/(∃xs,SqT X.K H p xs/\k= !xs.isEmpty)\/∃kvs,H p=some (.dK kvs)/\k= !kvs.isEmpty:=e
  rcases e' with⟨xs,hx,e'⟩ | ⟨xs,hx,e'⟩ | ⟨kvs,hx,e'⟩
  ·subst e'
   obtain⟨its,r,pl,hz⟩:=I.list hx
   have hlen:=r.length
   exact wpAny_truthy_list pl.isList (by simp only[List.size_toArray];omega) ⟨H,I.tok _,by rw[rS r];exact q⟩
  ·subst e'
   obtain⟨its,r,pl,hz⟩:=I.tuple hx
   have hlen:=r.length
   exact truthy_tuple pl (by simp only[List.size_toArray];omega) ⟨H,I.tok _,by rw[rS r];exact q⟩
  ·subst e'
   obtain⟨hz,hS,vs,r,m⟩:kvs.length<=sizeLine/\(p == sysModules)=false/\∃vs,KV kvs vs/\s.heap.DictOf (sR X.prog X.w) p vs:=I.hok p _ hx
   have hlen:kvs.length=vs.length:=Paired.length r
   exact wpAny_truthy_dict hS m (by omega) ⟨H,I.tok _,by rw[Aa r];exact q⟩
 | _=>exact(show False from e).elim
theorem Ak:OpR X (binaryOp .Add) (λx y H Q=>∃i j,x=.str i/\y=.str j/\i.length+j.length<=sizeLine/\Q (.str (i++j)) H):=by
 intro pins s σ H x y v u Q I rx ry h
 obtain⟨i,j,rfl,rfl,hz,q⟩:=h
 obtain⟨t,rfl⟩:=rx
 obtain⟨t',rfl⟩:=ry
 exact add_str (λt' tk=>⟨.str (i++j),H,I.tok _,⟨_,rfl⟩,q⟩) hz
theorem vals1{x:V}{us:List Value}(r:Vals [x] us):∃u,us=[u]/\RelV x u:=by
 cases r with
 | cons r1 r2=>cases r2;exact⟨_,rfl,r1⟩
theorem vals2{x y:V}{us:List Value}(r:Vals [x,y] us):∃u w',us=[u,w']/\RelV x u/\RelV y w':=by
 cases r with
 | cons r1 r2=>
  cases r2 with
  | cons r3 r4=>cases r4;exact⟨_,_,rfl,r1,r3⟩
theorem kT(hc:X.calm=true):ic X (.builtin "max") (λxs H Q=>∃i j,xs=[.int i,.int j]/\Q (.int (if j>i then j else i)) H):=by
 intro pins s σ H xs us Q I r h
 obtain⟨i,j,rfl,q⟩:=h
 obtain⟨u,w',rfl,⟨t,rfl⟩,⟨t',rfl⟩⟩:=vals2 r
 refine max_two_ints (I.ok.hd hc) λh' tk k=>⟨_,H,I.kept k, ?_,q⟩
 by_cases hj:j>i
 ·rw[if_pos hj,if_pos hj];exact⟨_,rfl⟩
 ·rw[if_neg hj,if_neg hj];exact⟨_,rfl⟩
theorem mM:ic X (.type "int") (λxs H Q=>(∃i,xs=[.int i]/\Q (.int i) H)\/∃k,xs=[.bl k]/\Q (.int (if k then 1 else 0)) H):=by
 intro pins s σ H xs us Q I r h
 rcases h with⟨i,rfl,q⟩ | ⟨k,rfl,q⟩
 ·obtain⟨u,rfl,t,rfl⟩:=vals1 r
  exact call_int_int ⟨.int i,H,I,⟨_,rfl⟩,q⟩
 ·obtain⟨u,rfl,r1⟩:=vals1 r
  cases r1
  exact call_int_bool ⟨.int (if k then 1 else 0),H,I.tok _,⟨_,rfl⟩,q⟩
def FY(K:PySem.W.Frag)(x:V)(H:Hp)(n:Nat):Prop:=
 match x with
 | .str y=>y.length<=sizeLine/\n=y.length
 | .byt y=>y.size<=sizeLine/\n=y.size
 | .ref p=>(∃xs,SqL K H p xs/\n=xs.length)\/∃xs,SqT K H p xs/\n=xs.length
 | _=>False
theorem dQ:ic X (.builtin "len") (λxs H Q=>∃x n,xs=[x]/\FY X.K x H n/\Q (.int n) H):=by
 intro pins s σ H xs us Q I r h
 obtain⟨x,n,rfl,e,q⟩:=h
 obtain⟨u,rfl,rx⟩:=vals1 r
 have hl:=la
 have hs:sizeLine=16777216:=sizeLine_eq
 cases x with
 | str y=>
  obtain⟨t,rfl⟩:=rx
  obtain⟨hy,e'⟩:y.length<=sizeLine/\n=y.length:=e
  subst e'
  exact len_str (by omega) ⟨.int _,H,I.tok _,⟨_,rfl⟩,q⟩
 | byt y=>
  obtain⟨t,rfl⟩:=rx
  obtain⟨hy,e'⟩:y.size<=sizeLine/\n=y.size:=e
  subst e'
  exact PySem.W.len_bytes (by omega) ⟨.int _,H,I.tok _,⟨_,rfl⟩,q⟩
 | ref p=>
  cases rx
  have e':(∃xs,SqL X.K H p xs/\n=xs.length)\/∃xs,SqT X.K H p xs/\n=xs.length:=e
  rcases e' with⟨xs,hx,e'⟩ | ⟨xs,hx,e'⟩
  ·subst e'
   obtain⟨its,r',pl,hz⟩:=I.list hx
   have hlen:=r'.length
   exact Calls.call_len_list pl.isList (by simp only[List.size_toArray];omega) ⟨.int xs.length,H,I.tok _,⟨_,by simp only[List.size_toArray];rw[hlen]⟩,q⟩
  ·subst e'
   obtain⟨its,r',pl,hz⟩:=I.tuple hx
   have hlen:=r'.length
   exact len_tuple pl (by simp only[List.size_toArray];omega) ⟨.int xs.length,H,I.tok _,⟨_,by simp only[List.size_toArray];rw[hlen]⟩,q⟩
 | _=>exact(show False from e).elim
end
end L2
namespace L2
open PySem PySem.Spec PyProof.Rows
structure qT(h:Heap)(x dx C:Addr)(mA:Str->Option Value):Prop where
 obj:h.get? x=some (PySem.W.instObj C dx)
 ns:h.Ns1 dx mA
 ne:dx≠x
theorem AY{h:Heap}{dx:Addr}{mA:Str->Option Value}(n:h.Ns1 dx mA):∃od,h.get? dx=some od/\∀name,PySem.W.lookIn name od=some (mA name):=by
 obtain⟨o,es,ep,ho,hd,hk,_,hm⟩:=n
 refine⟨o,ho,λname=> ?_⟩
 have e:=hm name
 unfold nsFind findBy at e
 rw[<- Array.find?_toList] at e
 unfold PySem.W.lookIn
 rw[hd]
 dsimp only
 split
 ·rename_i y q
  rw[q] at e
  exact congrArg some e
 ·rename_i q
  rw[q] at e
  have a:es.toList.any (·.refKey)=false:=by
   rw[List.any_eq_false]
   intro y hy
   obtain⟨z,t,hkey⟩:=hk y (Array.mem_toList_iff.mp hy)
   simp[DictEntry.refKey,hkey]
  have a':¬es.toList.any (·.refKey)=true:=by rw[a];exact Bool.false_ne_true
  rw[if_neg a']
  exact congrArg some e
theorem qT.look{h:Heap}{x dx C:Addr}{mA:Str->Option Value}(I:qT h x dx C mA):∃od,PySem.W.InstAt h x (PySem.W.instObj C dx) C (some od)/\∀name,PySem.W.lookIn name od=some (mA name):=
 let ⟨od,ho,hl⟩:=AY I.ns
 ⟨od,⟨I.obj,rfl,rfl,ho⟩,hl⟩
section
variable {prog : Program} {w : World} {A : Around} {E : Value → Shared → Prop} {s : Shared} {K : PySem.W.Frag} {x dx C f : Addr} {mA : Str → Option Value} {name : Str} {v : Value}
theorem get_map {expr:Bool} {Q:Value->Shared->Prop} (X:K.In s.heap) (I:qT s.heap x dx C mA) (hg:PySem.W.plainGet K C name=true) (hh:PySem.W.hasDictIn K C=true)
 (ha:PySem.W.findIn K (.ref C) name=some none) (hv:mA name=some v) (hv':PySem.W.handedIn v=true) (h:Q v {s with toks:=s.toks+1}):
 wpAny (model prog w) A (getAttr (.ref x) name expr) Q E s:=by
 obtain⟨od,J,hl⟩:=I.look
 exact PySem.W.get_value X J (PySem.W.plainGet_of hg).1 (PySem.W.findObj_own hh ha rfl (by rw[hl,hv])) hv' h
theorem CN {pl:Sem Bool} {Q:Value×List Value->Shared->Prop} (X:K.In s.heap) (I:qT s.heap x dx C mA) (hg:PySem.W.plainGet K C name=true)
 (hf:PySem.W.findIn K (.ref C) name=some (some (.ref f))) (ht:PySem.W.isFn K (.ref f)=true) (hv:mA name=none) (h:Q (.ref f,[.ref x]) s):
 wpAny (model prog w) A (getMethod (.ref x) name pl) Q E s:=by
 obtain⟨od,J,hl⟩:=I.look
 exact PySem.W.method_fn X J (PySem.W.plainGet_of hg).1 (PySem.W.plainGet_of hg).2 hf (beq_iff_eq.mp ht) (by show (PySem.W.lookIn name od).map (·.isSome)=some false;rw[hl,hv];rfl) h
theorem E7 {ns:List Str} {Q:Unit->Shared->Prop} (X:K.In s.heap) (I:qT s.heap x dx C mA)
 (hs:PySem.W.findIn K (.ref C) "__setattr__" =some (some (.builtin "object.__setattr__"))) (hp:PySem.W.plainOver K C=true) (ht:PySem.W.takerIn K C name=some none) (hh:PySem.W.hasDictIn K C=true)
 (hw:PySem.Within mA ns) (hsz:ns.length<=sizeLine)
 (h:∀h',qT h' x dx C (λy=>if y=name then some v else mA y)->Heap.SameBut dx s.heap h'->Q () {s with heap:=h',toks:=s.toks+2}):
 wpAny (model prog w) A (setAttr (.ref x) name v) Q E s:=by
 obtain⟨od,J,hl⟩:=I.look
 refine PySem.W.set_plain X J hs (PySem.W.osa_open (s:={s with toks:=s.toks+1}) (r:=none) X J hp ht λb=> ?_)
 obtain⟨cd,hc,hd'⟩:=PySem.W.any_some hh
 have hx:s.heap.get? x=some ⟨.ref C,some dx,.plain,#[]⟩:=I.obj
 refine wpAny_bind (wpAny_pure (wpAny_bind (wpAny_bind (wpAny_loadPart hx (wpAny_bind (PySem.W.Looks.here (s:={s with toks:=s.toks+1}) (PySem.W.looks_clsIn X hc) ?_))))))
 rw[hd']
 refine wpAny_pure (a:=some dx) (wpAny_bind (wpAny_pure (wpAny_bind ?_)))
 refine wpAny_nsSet1 (s:={s with toks:=s.toks+1}) I.ns λh' hn2 hs2=> ?_
 obtain⟨oD,esD,epD,hoD,hdD,hcD⟩:=hn2.count (PySem.Within.cons name v hw)
 refine wpAny_bind (wpAny_lookBehind hoD (by rw[hdD];exact pastItsLine_dict (Nat.le_trans hcD (by rw[List.length_cons];omega))) ?_)
 exact wpAny_pure (h _ ⟨(hs2.2 _ (Ne.symm I.ne)).trans I.obj,hn2,I.ne⟩ hs2)
theorem CT {R:Result->Shared->Prop} {vs:List Value} {kw:List (Str×Value)} (X:K.In s.heap) (hm:PySem.W.makesIn K C=true)
 (hi:PySem.W.findIn K (.ref C) "__init__" =some (some (.ref f))) (hf:PySem.W.typeIn K (.ref f)=some (.type "function"))
 (h:codeAny (model prog w) (A.under (.builtin "type.__call__" ⟨.ref C::vs,kw⟩)) (.call (.ref f) ⟨.ref (s.heap.objs.size+1)::vs,kw⟩) (PySem.W.InitBack (s.heap.objs.size+1) R)
  {s with heap:=(s.heap.push PySem.W.emptyDict).push (PySem.W.instObj C s.heap.objs.size)}):
 codeAny (model prog w) A (.call (.ref C) ⟨vs,kw⟩) R s:=by
 obtain⟨hh,g,d,t,os⟩:=s
 exact PySem.W.make_core (PySem.W.makes_of X hm) (PySem.W.looks_findIn X hi) (λself=>PySem.W.bind_fn X self hf) (.inl rfl) h
end
def hZ(f:Str)(v:V):List (Str×V)->List (Str×V)
 | []=>[(f,v)]
 | (g,x)::r=>if g=f then (g,v)::r else (g,x)::hZ f v r
theorem qo(f g:Str)(v:V):∀fs:List (Str×V),(hZ f v fs).lookup g=if g=f then some v else fs.lookup g
 | []=>by
  show List.lookup g [(f,v)]=_
  by_cases h:g=f
  ·have hb:(g == f)=true:=beq_iff_eq.mpr h
   simp only[List.lookup,hb,if_pos h]
  ·have hb:(g == f)=false:=beq_eq_false_iff_ne.mpr h
   simp only[List.lookup,hb,if_neg h]
 | (k,x)::r=>by
  have ih:=qo f g v r
  rw[show hZ f v ((k,x)::r)=(if k=f then (k,v)::r else (k,x)::hZ f v r) from rfl]
  by_cases hk:k=f
  ·rw[if_pos hk]
   by_cases h:g=k
   ·have hb:(g == k)=true:=beq_iff_eq.mpr h
    simp only[List.lookup,hb,if_pos (h.trans hk)]
   ·have hb:(g == k)=false:=beq_eq_false_iff_ne.mpr h
    simp only[List.lookup,hb,if_neg (λe:g=f=>h (e.trans hk.symm))]
  ·rw[if_neg hk]
   by_cases h:g=k
   ·have hb:(g == k)=true:=beq_iff_eq.mpr h
    simp only[List.lookup,hb,if_neg (λe:g=f=>hk (h.symm.trans e))]
   ·have hb:(g == k)=false:=beq_eq_false_iff_ne.mpr h
    simp only[List.lookup,hb]
    exact ih
theorem pj(f:Str)(v:V):∀fs:List (Str×V),f∈(hZ f v fs).map (·.1)/\∀g,g∈fs.map (·.1)->g∈(hZ f v fs).map (·.1)
 | []=>⟨by simp[hZ],λg h=>by simp at h⟩
 | (k,x)::r=>by
  obtain⟨i1,i2⟩:=pj f v r
  rw[show hZ f v ((k,x)::r)=(if k=f then (k,v)::r else (k,x)::hZ f v r) from rfl]
  by_cases hk:k=f
  ·rw[if_pos hk]
   subst hk
   exact⟨by simp,λg h=>by simpa using h⟩
  ·rw[if_neg hk]
   refine⟨?_,λg h=> ?_⟩
   ·rw[List.map_cons]
    exact List.mem_cons_of_mem _ i1
   ·rw[List.map_cons] at h ⊢
    rcases List.mem_cons.mp h with e | e
    ·exact List.mem_cons.mpr (.inl e)
    ·exact List.mem_cons_of_mem _ (i2 g e)
theorem qA(f:Str)(v:V):∀fs:List (Str×V),(hZ f v fs).length<=fs.length+1
 | []=>by simp[hZ]
 | (k,x)::r=>by
  have ih:=qA f v r
  rw[show hZ f v ((k,x)::r)=(if k=f then (k,v)::r else (k,x)::hZ f v r) from rfl]
  by_cases hk:k=f
  ·rw[if_pos hk,List.length_cons,List.length_cons];omega
  ·rw[if_neg hk,List.length_cons,List.length_cons];omega
theorem ni.some_of{v:V}{o:Option Value}(r:ni (some v) o):∃u,o=some u/\RelV v u:=by
 cases o with
 | none=>exact(show False from r).elim
 | some u=>exact⟨u,rfl,r⟩
theorem ni.none_of{o:Option Value}(r:ni none o):o=none:=by
 cases o with
 | none=>rfl
 | some u=>exact(show False from r).elim
theorem Bo{v:V}{u:Value}(r:RelV v u):PySem.W.handedIn u=true:=by
 cases v with
 | non=>cases (show u=Value.none from r);rfl
 | bl b=>cases (show u=Value.bool b from r);rfl
 | int i=>obtain⟨t,e⟩:=(show ∃t,u=Value.int i t from r);cases e;rfl
 | str x=>obtain⟨t,e⟩:=(show ∃t,u=Value.str x t from r);cases e;rfl
 | byt b=>obtain⟨t,e⟩:=(show ∃t,u=Value.bytes b t from r);cases e;rfl
 | flt b=>obtain⟨t,e⟩:=(show ∃t,u=Value.float b t from r);cases e;rfl
 | ref a=>cases (show u=Value.ref a from r);rfl
 | ty n=>cases (show u=Value.type n from r);rfl
section
variable {P : Program} {w : World} {H H' : Hp} {h h' : Heap} {a C dx : Addr} {fs fs' : List (Str × V)}
theorem sC(hok:HOk P w H h)(e:H a=some (.ins C dx fs)):∃mA,qT h a dx C mA/\(∀f,ni (fs.lookup f) (mA f))/\PySem.Within mA (fs.map (·.1))/\fs.length<=1000/\H dx=some (.own a):=by
 obtain⟨d,z,ne,ob,mA,n,r,q⟩:=(show eV P w H h a (.ins C dx fs) from hok a _ e)
 exact⟨mA,⟨ob,n,ne⟩,r,q,z,d⟩
end
structure Cls(K:PySem.W.Frag)(C:Addr):Prop where
 pg:PySem.W.plainGet K C Str.empty=true
 hd:PySem.W.hasDictIn K C=true
 po:PySem.W.plainOver K C=true
 sa:PySem.W.findIn K (.ref C) "__setattr__" =some (some (.builtin "object.__setattr__"))
theorem Cls.get{K:PySem.W.Frag}{C:Addr}(c:Cls K C)(f:Str):PySem.W.plainGet K C f=true:=c.pg
def d6(K:PySem.W.Frag)(C:Addr)(f:Str):Prop:=PySem.W.findIn K (.ref C) f=some none
theorem d6.taker{K:PySem.W.Frag}{C:Addr}{f:Str}(n:d6 K C f):PySem.W.takerIn K C f=some none:=by
 unfold PySem.W.takerIn
 rw[show PySem.W.findIn K (.ref C) f=some none from n]
 rfl
structure Con(K:PySem.W.Frag)(C:Addr)(f:Str)(v:V)(u:Value):Prop where
 at_:PySem.W.findIn K (.ref C) f=some (some u)
 rel:RelV v u
 get:PySem.W.specialIn K u "__get__" =some none
 cp:PySem.W.copiedNames.contains f=false
structure Meth(K:PySem.W.Frag)(C:Addr)(m:Str)(f:Addr):Prop where
 at_:PySem.W.findIn K (.ref C) m=some (some (.ref f))
 fn:PySem.W.isFn K (.ref f)=true
 kp:PySem.W.keepIn K (.ref f)=true
section
variable {X : Cx} {pins : List (Addr × Obj)} {σ : St} {H : Hp} {s : Shared} {a C dx : Addr} {fs : List (Str × V)} {f : Str} {v : V} {A : Around} {E : Value → Shared → Prop}
theorem zw {b:Bool} {Q:Value->Shared->Prop} (I:Inv X pins σ H s) (e:H a=some (.ins C dx fs)) (c:Cls X.K C) (n:d6 X.K C f) (l:fs.lookup f=some v)
 (h:∀u s',Inv X pins σ H s'->RelV v u->Q u s'):wpAny (model X.prog X.w) A (getAttr (.ref a) f b) Q E s:=by
 obtain⟨mA,O,r,_,_,_⟩:=sC I.hok e
 obtain⟨u,hu,ru⟩:=ni.some_of (v:=v) (o:=mA f) (by rw[<- l];exact r f)
 exact get_map I.kIn O (c.get f) c.hd n hu (Bo ru) (h u _ (I.tok _) ru)
theorem om {m:Str} {g:Addr} {pl:Sem Bool} {Q:Value×List Value->Shared->Prop} (I:Inv X pins σ H s) (e:H a=some (.ins C dx fs)) (c:Cls X.K C) (k:Meth X.K C m g) (l:fs.lookup m=none)
 (h:Q (.ref g,[.ref a]) s):wpAny (model X.prog X.w) A (getMethod (.ref a) m pl) Q E s:=by
 obtain⟨mA,O,r,_,_,_⟩:=sC I.hok e
 have hn:mA m=none:=ni.none_of (by rw[<- l];exact r m)
 exact CN I.kIn O (c.get m) k.at_ k.fn hn h
theorem zR {y:V} {u:Value} {Q:Unit->Shared->Prop} (I:Inv X pins σ H s) (e:H a=some (.ins C dx fs)) (c:Cls X.K C) (n:d6 X.K C f) (hl:fs.length<1000) (ry:RelV y u)
 (h:∀s',Inv X pins σ (upd H a (.ins C dx (hZ f y fs))) s'->Q () s'):wpAny (model X.prog X.w) A (setAttr (.ref a) f u) Q E s:=by
 obtain⟨mA,O,r,wi,_,ho⟩:=sC I.hok e
 have hz:(fs.map (·.1)).length<=sizeLine:=by rw[List.length_map,sizeLine_eq];omega
 refine E7 I.kIn O c.sa c.po n.taker c.hd wi hz λh' O' sb=>h _ ?_
 have hd:∃o,h'.get? dx=some o:=let ⟨o,_,_,e',_⟩:=O'.ns;⟨o,e'⟩
 refine I.write (x:=a) (e:=dx) (by rw[e];exact True.intro) (.inr ho) (λb q hb z=>(sb.2 b hb).trans z) hd ?_
 refine⟨by rw[aM O.ne];exact ho, ?_,O.ne,O'.obj,_,O'.ns,λg=> ?_,λg hg=> ?_⟩
 ·have:=qA f y fs;omega
 ·show ni ((hZ f y fs).lookup g) (if g=f then some u else mA g)
  rw[qo]
  by_cases q:g=f
  ·rw[if_pos q,if_pos q];exact ry
  ·rw[if_neg q,if_neg q];exact r g
 ·by_cases q:g=f
  ·rw[q];exact(pj f y fs).1
  ·refine(pj f y fs).2 g (wi g λz=>hg ?_)
   show (if g=f then some u else mA g)=none
   rw[if_neg q];exact z
theorem Inv.made(I:Inv X pins σ H s):Inv X pins σ (upd (upd H s.heap.objs.size (.own (s.heap.objs.size+1))) (s.heap.objs.size+1) (.ins C s.heap.objs.size []))
 {s with heap:=(s.heap.push PySem.W.emptyDict).push (PySem.W.instObj C s.heap.objs.size)}:=by
 have e1:(s.heap.push PySem.W.emptyDict).get? s.heap.objs.size=some PySem.W.emptyDict:=Heap.get?_push_size s.heap rfl
 have e2:((s.heap.push PySem.W.emptyDict).push (PySem.W.instObj C s.heap.objs.size)).get? (s.heap.objs.size+1)=some (PySem.W.instObj C s.heap.objs.size):=by
  have:=Heap.get?_push_size (s.heap.push PySem.W.emptyDict) (o:=PySem.W.instObj C s.heap.objs.size) rfl
  rwa [Heap.size_push] at this
 have e3:(s.heap.push PySem.W.emptyDict).Ns s.heap.objs.size (λ_=>none):=⟨PySem.W.emptyDict,#[],_,e1,rfl,(λe he=>absurd he (by simp)),λ_=>rfl⟩
 have I1:=I.laid (a:=s.heap.objs.size) (o:=.own (s.heap.objs.size+1)) (h':=s.heap.push PySem.W.emptyDict) (t':=s.toks) (λb u q=>Heap.get?_push_of_some _ q) (Nat.le_refl _) ⟨_,e1⟩
 refine I1.laid (a:=s.heap.objs.size+1) (o:=.ins C s.heap.objs.size []) (t':=s.toks) (λb u q=>Heap.get?_push_of_some _ q) (Nat.le_of_eq (Heap.size_push _ _)) ?_
 have ne:s.heap.objs.size≠s.heap.objs.size+1:=Nat.ne_of_lt (Nat.lt_succ_self _)
 refine⟨by rw[aM ne,b7],Nat.zero_le _,ne,e2,λ_=>none,(Heap.Ns1.of_empty e3).at λo q=>Heap.get?_push_of_some _ q,λ_=>True.intro,λy hy=>absurd rfl hy⟩
theorem Ep {prog:Program} {w:World} {env:Env} {e:Expr} {f:Str} {pos:Pos} {s:Shared} {Q:Value->Shared->Prop} (hb:attributeBase e f env (eval e env)=eval e env)
 (h:wpAny (model prog w) A (eval e env) (λo s₁=>wpAny (model prog w) A (getAttr o f true) Q E s₁) E s):wpAny (model prog w) A (eval (.Attribute e f pos) env) Q E s:=
 Attribute_any_ h (by rw[arm_eval_Attribute,hb])
end
def FQ(K:PySem.W.Frag)(ta:TE)(f:Str):TE:=λσ H Q=>ta σ H λx H1=>∃a C dx fs v,x=.ref a/\H1 a=some (.ins C dx fs)/\Cls K C/\d6 K C f/\fs.lookup f=some v/\Q v H1
def GD(K:PySem.W.Frag)(ta tv:TE)(f:Str):TS:=λD σ H=>tv σ H λy H1=>ta σ H1 λx H2=>∃a C dx fs,x=.ref a/\H2 a=some (.ins C dx fs)/\Cls K C/\d6 K C f/\fs.length<1000/\
 D.nx σ (upd H2 a (.ins C dx (hZ f y fs)))
section
variable {X : Cx} {o e value : Expr} {f : Str} {pos pos' tpos : Pos} {ta tv : TE}
theorem xj(he:PE X e ta)(hb:attributeBase e f X.env (eval e X.env)=eval e X.env):PE X (.Attribute e f pos) (FQ X.K ta f):=by
 intro pins s σ H Q I h
 refine Ep hb (thn (he pins s σ H _ I h) λu s1 ⟨x,H1,I1,rx,a,C,dx,fs,v,ex,ea,c,n,l,q⟩=> ?_)
 subst ex
 obtain rfl:u=Value.ref a:=rx
 exact zw I1 ea c n l λu' s2 I2 ru=>⟨v,H1,I2,ru,q⟩
theorem v8(ha:PE X o ta)(hv:PE X value tv)(hs:swapsWith value (some (.Attribute o f pos')) pos.line X.env=pure false):PS X (.Assign [.Attribute o f pos'] value pos) (GD X.K ta tv f):=by
 intro pins s σ H D I h
 refine plainObj_wpAny_Assign_Attribute (thn (hv pins s σ H _ I h) λu s1 ⟨y,H1,I1,ry,q⟩=>thn (ha pins s1 σ H1 _ I1 q) λov s2 ⟨x,H2,I2,rx,a,C,dx,fs,ex,ea,c,n,l,q2⟩=> ?_) hs
 subst ex
 obtain rfl:ov=Value.ref a:=rx
 exact zR I2 ea c n l ry λs3 I3=>⟨σ,_,I3,q2⟩
theorem G8 {pl:Sem Bool} {m:Str} {apos:Pos} {args:List Expr} {pins:List (Addr×Obj)} {s:Shared} {σ:St} {H:Hp} {Q:Value->Shared->Prop} {te:TE} (he:PE X e te) (I:Inv X pins σ H s)
 (h:te σ H λx H1=>∃a C dx fs g,x=.ref a/\H1 a=some (.ins C dx fs)/\Cls X.K C/\Meth X.K C m g/\fs.lookup m=none/\
  ∀s1,Inv X pins σ H1 s1->wpAny (model X.prog X.w) X.A (callWith pos (.ref g) [.ref a] (backTo pos (starEach args X.env)) (backToKw pos (keywordEach [] X.env))) Q X.xe s1)
 (ht:eval (.Call (.Attribute e m apos) args [] pos) X.env=(do
  let ov <- eval e X.env
  standAt apos.atName
  let (f,first) <- holding [ov] (getMethod ov m pl)
  callWith pos f first (backTo pos (starEach args X.env)) (backToKw pos (keywordEach [] X.env)))):
 wpAny (model X.prog X.w) X.A (eval (.Call (.Attribute e m apos) args [] pos) X.env) Q X.xe s:=by
 refine PySem.W.methodCall_KW (pl:=pl) (thn (he pins s σ H _ I h) λu s1 ⟨x,H1,I1,rx,a,C,dx,fs,g,ex,ea,c,k,l,q⟩=> ?_) ht
 subst ex
 obtain rfl:u=Value.ref a:=rx
 exact om I1 ea c k l (q s1 I1)
end
section
variable {X : Cx} {pins : List (Addr × Obj)} {σ : St} {H : Hp} {s : Shared} {A : Around} {E : Value → Shared → Prop} {Q : Value → Shared → Prop} {c : Value} {b : Bool}
inductive mE (K:PySem.W.Frag) (H:Hp):V->Value->Prop where
 | non:mE K H .non (.type "NoneType")
 | bl (x:Bool):mE K H (.bl x) (.type "bool")
 | int (i:Int):mE K H (.int i) (.type "int")
 | str (x:Str):mE K H (.str x) (.type "str")
 | flt (x:UInt64):mE K H (.flt x) (.type "float")
 | lst {a:Addr} {xs:List V} (e:H a=some (.lst xs)):mE K H (.ref a) (.type "list")
 | frz {a:Addr} {o:Obj} {xs:List V} (e:H a=some (.frz o (.lst xs))):mE K H (.ref a) (.type "list")
 | tup {a:Addr} {xs:List V} (e:H a=some (.tup xs)):mE K H (.ref a) (.type "tuple")
 | dK {a:Addr} {kvs:List (Key×V)} (e:H a=some (.dK kvs)):mE K H (.ref a) (.type "dict")
 | dT {a:Addr} {kvs:List (List Key×V)} (e:H a=some (.dT kvs)):mE K H (.ref a) (.type "dict")
 | ins {a C dx:Addr} {fs:List (Str×V)} (e:H a=some (.ins C dx fs)) (cl:Cls K C) (ha:PySem.W.findIn K (.ref C) "__class__" =some (some (.builtin "object.__class__")))
  (hn:PySem.W.specialIn K (.builtin "object.__class__") "__get__" =some (some (.builtin "getset_descriptor.__get__"))) (htk:PySem.W.takesIn K (.builtin "object.__class__")=some true)
  (hm:PySem.W.mroIn K C (.type "object")=some true):mE K H (.ref a) (.ref C)
end
end L2
namespace L2
open PySem PySem.Spec PyProof.Rows
structure cG(k:Nat)(A:Around):Prop where
 hd:A.handled=none
 dp:A.depth+3*k+5<recursionLimit
 un:A.units+16*k+200<cLine
theorem cG.mono{j k:Nat}{A:Around}(r:cG k A)(h:j<=k):cG j A:=⟨r.hd,by have:=r.dp;omega,by have:=r.un;omega⟩
theorem cG.deeper{k:Nat}{A:Around}(r:cG (k+1) A)(env:Env):cG k (A.deeper env):=
 ⟨r.hd,by have:=r.dp;show A.depth+1+3*k+5<_;omega,by have:=r.un;show A.units+3+16*k+200<_;omega⟩
theorem cG.in1{k:Nat}{A:Around}(r:cG (k+1) A):cG k A.in1:=
 ⟨r.hd,by have:=r.dp;show A.depth+3*k+5<_;omega,by have:=r.un;show A.units+1+16*k+200<_;omega⟩
theorem Ag{A:Around}{C:Addr}{us:List Value}{kw:List (Str×Value)}:(A.under (.builtin "type.__call__" ⟨.ref C::us,kw⟩)).depth=A.depth+1:=by
 first | rfl | simp[Around.under,Code.weight,Code.isCreation,Code.isGuard,Code.isCaller,Code.frames,Code.isFrame,guardIds]
theorem yX{A:Around}{C:Addr}{us:List Value}{kw:List (Str×Value)}:(A.under (.builtin "type.__call__" ⟨.ref C::us,kw⟩)).units=A.units+1:=by
 first | rfl | simp[Around.under,Code.cUnits,Code.frames,Code.isFrame]
theorem cG.make{k:Nat}{A:Around}(r:cG (k+1) A)(C:Addr)(us:List Value)(kw:List (Str×Value)):cG k (A.under (.builtin "type.__call__" ⟨.ref C::us,kw⟩)):=
 ⟨r.hd,by have:=r.dp;rw[Ag];omega,by have:=r.un;rw[yX];omega⟩
theorem cG.depth{k:Nat}{A:Around}(r:cG k A):A.depth<recursionLimit:=by have:=r.dp;omega
theorem cG.units{k:Nat}{A:Around}(r:cG k A):A.units+64<cLine:=by have:=r.un;omega
def lg:TA:=λ_ H Q=>Q [] H
def fV(ta:TE)(tr:TA):TA:=λσ H Q=>ta σ H λx H1=>tr σ H1 λxs H2=>Q (x::xs) H2
section
variable {X : Cx} {e : Expr} {es : List Expr} {te : TE} {t : TA} {pos : Pos}
theorem ar:PA X [] lg:=λ_ _ _ _ H Q I h=>Calls.spliced_nil ⟨[],H,I,.nil,h⟩
theorem ag(ha:PE X e te)(hr:PA X es t)(hs:starEach (e::es) X.env=(false,eval e X.env)::starEach es X.env:=by rfl):PA X (e::es) (fV te t):=by
 intro pos pins s σ H Q I h
 rw[hs]
 show wpAny _ _ (spliced ((false,eval e X.env)::backTo pos (starEach es X.env))) _ _ s
 refine Calls.spliced_cons (thn (ha pins s σ H _ I h) λu s1 ⟨x,H1,I1,r1,q1⟩=> ?_)
 exact thn (hr pos pins s1 σ H1 _ I1 q1) λus s2 ⟨xs,H2,I2,r2,q2⟩=>⟨x::xs,H2,I2,.cons r1 r2,q2⟩
def Co(t:TA):TE:=λσ H Q=>t σ H λxs H1=>xs.length<=sizeLine/\∀p,H1 p=none->Q (.ref p) (upd H1 p (.tup xs))
def C4(t:TA):TE:=λσ H Q=>t σ H λxs H1=>xs.length<=sizeLine/\∀p,H1 p=none->Q (.ref p) (upd H1 p (.lst xs))
theorem pN{x1}(h:PA X es t):PE X (.Tuple es x1 pos) (Co t):=by
 intro pins s σ H Q I hq
 refine wpAny_Tuple_spliced (thn (h pos pins s σ H _ I hq) λus s1 ⟨xs,H1,I1,r,z,q⟩=>⟨by rw[<- r.length];exact z, ?_⟩)
 have hf:H1 s1.heap.objs.size=none:=I1.hok.fresh (Nat.le_refl _)
 refine⟨.ref s1.heap.objs.size,upd H1 s1.heap.objs.size (.tup xs),I1.laid (t':=s1.toks) (λb u e=>Heap.get?_push_of_some _ e) (Nat.le_refl _) ?_,rfl,q _ hf⟩
 exact⟨z,us,r,⟨_,Heap.get?_push_size _ rfl,rfl,_,rfl⟩⟩
theorem eT(h:PA X es t):PE X (.List es pos) (C4 t):=by
 intro pins s σ H Q I hq
 refine wpAny_List_spliced (thn (h pos pins s σ H _ I hq) λus s1 ⟨xs,H1,I1,r,z,q⟩=>⟨by rw[<- r.length];exact z, ?_⟩)
 have hf:H1 s1.heap.objs.size=none:=I1.hok.fresh (Nat.le_refl _)
 refine⟨.ref s1.heap.objs.size,upd H1 s1.heap.objs.size (.lst xs),I1.laid (t':=s1.toks) (λb u e=>Heap.get?_push_of_some _ e) (Nat.le_refl _) ?_,rfl,q _ hf⟩
 exact⟨z,us,0,r,Heap.get?_push_size _ rfl⟩
end
abbrev Sp:=List V->Hp->VK->XK->Prop
abbrev CXT:=List Env->Hp->Shared->XK->Value->Shared->Prop
structure ko(P:Program)(w:World)(K:PySem.W.Frag)(mg:Str->Option Value)(base:Heap)(A:Around)(outer:List Env)(s:Shared)(H:Hp):Prop where
 frames:A.frames=some outer
 mod:Mod K mg base
 bs:∀b o,base.get? b=some o->s.heap.get? b=some o/\H b=none
 bsz:base.objs.size<=s.heap.objs.size
 funs:s.heap.FunFrames base outer
 frf:∀b∈frs outer,H b=none
 hok:HOk P w H s.heap
 bare:AllBare s.gens
def CE(outer:List Env)(P:Program)(w:World)(H:Hp)(s:Shared)(Q:VK)(u:Value)(s':Shared):Prop:=
 ∃v H',s'.os=s.os/\AllBare s'.gens/\Un (frs outer) [] H H' s.heap s'.heap/\HOk P w H' s'.heap/\RelV v u/\Q v H'
def CR(CX:CXT)(outer:List Env)(P:Program)(w:World)(H:Hp)(s:Shared)(Q:VK)(E:XK)(r:Result)(s':Shared):Prop:=
 match r with
 | .ok (.ret u)=>CE outer P w H s Q u s'
 | .ok _=>False
 | .error e=>CX outer H s E e s'
structure d9(P:Program)(w:World)(K:PySem.W.Frag)(mg:Str->Option Value)(base:Heap)(CX:CXT)(k:Nat)(f:Addr)(fd:FuncData)(ps:List Str)(sp:Sp):Prop where
 len:∀vs H Q E,sp vs H Q E->vs.length=ps.length
 run:∀(A:Around) (outer:List Env) (s:Shared) (H:Hp) (args:Args) (us:List Value) (vs:List V) (Q:VK) (E:XK),cG k A->ko P w K mg base A outer s H->BindsTo s fd args (ps.zip us)->Vals vs us->sp vs H Q E->
  codeAny (model P w) A (.call (.ref f) args) (CR CX outer P w H s Q E) s
theorem d9.mono{P:Program}{w:World}{K:PySem.W.Frag}{mg:Str->Option Value}{base:Heap}{CX:CXT}{j k:Nat}{f:Addr}{fd:FuncData}{ps:List Str}{sp:Sp}(F:d9 P w K mg base CX j f fd ps sp)(h:j<=k):
 d9 P w K mg base CX k f fd ps sp:=⟨F.len,λA outer s H args us vs Q E hr=>F.run A outer s H args us vs Q E (hr.mono h)⟩
theorem d9.imp {P:Program} {w:World} {K:PySem.W.Frag} {mg:Str->Option Value} {base:Heap} {CX:CXT} {k:Nat} {f:Addr} {fd:FuncData} {ps:List Str} {sp sp':Sp} (F:d9 P w K mg base CX k f fd ps sp)
 (h:∀vs H Q E,sp' vs H Q E->sp vs H Q E):d9 P w K mg base CX k f fd ps sp':=
 ⟨λvs H Q E q=>F.len vs H Q E (h _ _ _ _ q),λA outer s H args us vs Q E hr he hb hv hs=>F.run A outer s H args us vs Q E hr he hb hv (h _ _ _ _ hs)⟩
theorem ko.make{P:Program}{w:World}{K:PySem.W.Frag}{mg:Str->Option Value}{base:Heap}{A:Around}{outer:List Env}{s:Shared}{H:Hp}(e:ko P w K mg base A outer s H)(C:Addr)(us:List Value)(kw:List (Str×Value)):
 ko P w K mg base (A.under (.builtin "type.__call__" ⟨.ref C::us,kw⟩)) outer s H:=⟨by first | exact e.frames | (simpa[Around.under,Code.envs,Code.isFrame,pushEnvs] using e.frames),e.mod,e.bs,e.bsz,e.funs,e.frf,e.hok,e.bare⟩
theorem ko.in1{P:Program}{w:World}{K:PySem.W.Frag}{mg:Str->Option Value}{base:Heap}{A:Around}{outer:List Env}{s:Shared}{H:Hp}(e:ko P w K mg base A outer s H):
 ko P w K mg base A.in1 outer s H:=⟨e.frames,e.mod,e.bs,e.bsz,e.funs,e.frf,e.hok,e.bare⟩
section
variable {X : Cx} {pins : List (Addr × Obj)} {σ : St} {H : Hp} {s s' : Shared}
theorem Inv.env0(I:Inv X pins σ H s):ko X.prog X.w X.K X.mg X.base X.A X.stack s H:=
 ⟨I.ok.frames,I.ok.mod,I.bs,Nat.le_trans I.ok.bsz I.sz,I.stack,I.stkFree,I.hok,I.bare⟩
theorem Inv.after{Q:VK}{u:Value}(I:Inv X pins σ H s)(h:CE X.stack X.prog X.w H s Q u s'):EP X pins σ Q u s':=by
 obtain⟨v,H',os,bare,un,hok,r,q⟩:=h
 obtain⟨hh,g,d,t,os'⟩:=s'
 obtain rfl:os'=s.os:=os
 exact⟨v,H',I.call (h':=hh) (g':=g) (d':=d) (t':=t) (ch:=[]) un hok bare (λb z=>absurd z (by simp)),r,q⟩
end
def sk(sp:Sp)(dvs:List V)(E:XK)(t:TA):TE:=λσ H Q=>t σ H λvs H1=>sp (vs++dvs) H1 Q E
def zF(C:Addr)(m:Str)(sp:Sp)(dvs:List V)(E:XK)(ta:TE)(t:TA):TE:=λσ H Q=>ta σ H λx H1=>∃a dx fs,x=.ref a/\H1 a=some (.ins C dx fs)/\fs.lookup m=none/\
 t σ H1 λvs H2=>sp (x::(vs++dvs)) H2 Q E
def Dx(C:Addr)(sp:Sp)(dvs:List V)(E:XK)(t:TA):TE:=λσ H Q=>t σ H λvs H1=>∀x dx,H1 x=none->H1 dx=none->dx≠x->
 sp (.ref x::(vs++dvs)) (upd (upd H1 dx (.own x)) x (.ins C dx [])) (λv H2=>v=.non/\Q (.ref x) H2) E
def Binds(K:PySem.W.Frag)(fd:FuncData)(ps:List Str)(ds:List Value):Prop:=
 ∀(s:Shared) (us:List Value),K.In s.heap->(us++ds).length=ps.length->BindsTo s fd ⟨us,[]⟩ (ps.zip (us++ds))
theorem Binds.all{K:PySem.W.Frag}{fd:FuncData}{ps:List Str}(h:∀us:List Value,us.length=ps.length->bindArgs fd ⟨us,[]⟩=pure (ps.zip us)):Binds K fd ps []:=λs us _ hl=>by
 rw[List.append_nil] at hl ⊢
 exact .of_eq (h us hl)
def Passes(CX:CXT)(X:Cx)(E:XK):Prop:=∀(pins:List (Addr×Obj)) (σ:St) (H:Hp) (s:Shared) (e:Value) (s':Shared),Inv X pins σ H s->CX X.stack H s E e s'->X.xe e s'
section
variable {X : Cx} {CX : CXT} {k : Nat} {f C : Addr} {fd : FuncData} {ps : List Str} {sp : Sp} {dvs : List V} {ds : List Value} {E : XK} {x m : Str} {p pos apos : Pos} {e o : Expr} {es : List Expr} {ta : TE} {t : TA}
theorem vQ {pins:List (Addr×Obj)} {σ:St} {H:Hp} {s:Shared} {Q:VK} {us:List Value} {vs:List V} (F:d9 X.prog X.w X.K X.mg X.base CX k f fd ps sp) (hr:cG k X.A) (hb:Binds X.K fd ps ds) (hd:Vals dvs ds) (hx:Passes CX X E)
 (I:Inv X pins σ H s) (r:Vals vs us) (h:sp (vs++dvs) H Q E):wpAny (model X.prog X.w) X.A (call (.ref f) us) (EP X pins σ Q) X.xe s:=by
 have r2:Vals (vs++dvs) (us++ds):=r.append hd
 have hl:(us++ds).length=ps.length:=by rw[<- r2.length];exact F.len _ _ _ _ h
 refine wpAny_call (codeAny_mono (F.run X.A X.stack s H ⟨us,[]⟩ (us++ds) (vs++dvs) Q E hr I.env0 (hb s us I.kIn hl) r2 h) λr s' hq=> ?_)
 cases r with
 | error e=>exact hx pins σ H s e s' I hq
 | ok fl=>
  cases fl with
  | ret u=>exact I.after hq
  | next=>exact False.elim hq
  | brk=>exact False.elim hq
  | cont=>exact False.elim hq
theorem aS (F:d9 X.prog X.w X.K X.mg X.base CX k f fd ps sp) (hr:cG k X.A) (hg:Gl X x) (hm:X.mg x=some (.ref f)) (hk:PySem.W.keepIn X.K (.ref f)=true) (hb:Binds X.K fd ps ds) (hd:Vals dvs ds) (hx:Passes CX X E)
 (ha:PA X (e::es) t) (hdb:(x == ("__debug__" :Str))=false:=by decide) (he:starEach (e::es) X.env=(false,eval e X.env)::starEach es X.env:=by rfl) (hpl:(backTo pos (starEach es X.env)).any (·.1)=false:=by rfl):
 PE X (.Call (.Name x p) (e::es) [] pos) (sk sp dvs E t):=by
 intro pins s σ H Q I h
 refine wpAny_Call_Name_kw (kA I hg hm ?_ hdb)
 refine PySem.W.callWith_K (h₀:=X.base) I.ok.mod.kin hk (thn (ha pos pins s σ H _ I h) λus s1 ⟨vs,H1,I1,r,q⟩=>⟨I1.kIn, ?_⟩) he hpl
 exact vQ F hr hb hd hx I1 r q
theorem Ec {pl:Sem Bool} (he:PE X o ta) (c:Cls X.K C) (hm:Meth X.K C m f) (F:d9 X.prog X.w X.K X.mg X.base CX k f fd ps sp) (hr:cG k X.A) (hb:Binds X.K fd ps ds) (hd:Vals dvs ds) (hx:Passes CX X E) (ha:PA X (e::es) t)
 (hst:starEach (e::es) X.env=(false,eval e X.env)::starEach es X.env:=by rfl) (hpl:(backTo pos (starEach es X.env)).any (·.1)=false:=by rfl)
 (ht:eval (.Call (.Attribute o m apos) (e::es) [] pos) X.env=(do
  let ov <- eval o X.env
  standAt apos.atName
  let (f,first) <- holding [ov] (getMethod ov m pl)
  callWith pos f first (backTo pos (starEach (e::es) X.env)) (backToKw pos (keywordEach [] X.env))):=by rfl):
 PE X (.Call (.Attribute o m apos) (e::es) [] pos) (zF C m sp dvs E ta t):=by
 intro pins s σ H Q I h
 refine PySem.W.methodCall_KW (pl:=pl) (thn (he pins s σ H _ I h) λu s1 ⟨x,H1,I1,rx,a,dx,fs,ex,ea,l,q⟩=> ?_) ht
 subst ex
 obtain rfl:u=Value.ref a:=rx
 refine om I1 ea c hm l ?_
 refine PySem.W.callWith_K (first:=[.ref a]) (h₀:=X.base) I.ok.mod.kin hm.kp (thn (ha pos pins s1 σ H1 _ I1 q) λus s2 ⟨vs,H2,I2,r,q2⟩=>⟨I2.kIn, ?_⟩) hst hpl
 exact vQ (us:=.ref a::us) (vs:=.ref a::vs) F hr hb hd hx I2 (.cons rfl r) q2
theorem vH {pl:Sem Bool} (he:PE X o ta) (c:Cls X.K C) (hm:Meth X.K C m f) (F:d9 X.prog X.w X.K X.mg X.base CX k f fd ps sp) (hr:cG k X.A) (hb:Binds X.K fd ps ds) (hd:Vals dvs ds) (hx:Passes CX X E)
 (ht:eval (.Call (.Attribute o m apos) [] [] pos) X.env=(do
  let ov <- eval o X.env
  standAt apos.atName
  let (f,first) <- holding [ov] (getMethod ov m pl)
  callWith pos f first (backTo pos (starEach [] X.env)) (backToKw pos (keywordEach [] X.env))):=by rfl):
 PE X (.Call (.Attribute o m apos) [] [] pos) (zF C m sp dvs E ta lg):=by
 intro pins s σ H Q I h
 refine PySem.W.methodCall_KW (pl:=pl) (thn (he pins s σ H _ I h) λu s1 ⟨x,H1,I1,rx,a,dx,fs,ex,ea,l,q⟩=> ?_) ht
 subst ex
 obtain rfl:u=Value.ref a:=rx
 refine om I1 ea c hm l ?_
 exact PySem.W.callWith_K0 (first:=[.ref a]) I1.kIn hm.kp (vQ (us:=[.ref a]) (vs:=[.ref a]) F hr hb hd hx I1 (.cons rfl .nil) q)
structure Mk(K:PySem.W.Frag)(C f:Addr):Prop where
 makes:PySem.W.makesIn K C=true
 init:PySem.W.findIn K (.ref C) "__init__" =some (some (.ref f))
 fn:PySem.W.isFn K (.ref f)=true
 kp:PySem.W.keepIn K (.ref C)=true
theorem CQ {pins:List (Addr×Obj)} {σ:St} {H:Hp} {s:Shared} {Q:VK} {us:List Value} {vs:List V} (M:Mk X.K C f) (F:d9 X.prog X.w X.K X.mg X.base CX k f fd ps sp) (hr:cG (k+1) X.A) (hb:Binds X.K fd ps ds) (hd:Vals dvs ds)
 (hx:Passes CX X E) (I:Inv X pins σ H s) (r:Vals vs us)
 (h:∀x dx,H x=none->H dx=none->dx≠x->sp (.ref x::(vs++dvs)) (upd (upd H dx (.own x)) x (.ins C dx [])) (λv H2=>v=.non/\Q (.ref x) H2) E):
 wpAny (model X.prog X.w) X.A (call (.ref C) us) (EP X pins σ Q) X.xe s:=by
 have hq:=h (s.heap.objs.size+1) s.heap.objs.size (I.hok.fresh (Nat.le_succ _)) (I.hok.fresh (Nat.le_refl _)) (Nat.ne_of_lt (Nat.lt_succ_self _))
 have I2:=Inv.made (C:=C) I
 have r2:Vals (V.ref (s.heap.objs.size+1)::(vs++dvs)) (Value.ref (s.heap.objs.size+1)::(us++ds)):=.cons rfl (r.append hd)
 have hl:(Value.ref (s.heap.objs.size+1)::us++ds).length=ps.length:=by
  have e:=r2.length
  rw[F.len _ _ _ _ hq] at e
  exact e.symm
 refine wpAny_call (CT (f:=f) I.kIn M.makes M.init (beq_iff_eq.mp M.fn) (codeAny_mono (F.run _ X.stack _ _ ⟨Value.ref (s.heap.objs.size+1)::us,[]⟩ (Value.ref (s.heap.objs.size+1)::(us++ds)) _ _ E (hr.make C us [])
  (I2.env0.make C us []) (hb _ (Value.ref (s.heap.objs.size+1)::us) I2.kIn hl) r2 hq) λr s' hq'=> ?_))
 cases r with
 | error e=>exact hx pins σ _ _ e s' I2 hq'
 | ok fl=>
  cases fl with
  | ret u=>
   obtain⟨v,H',I3,rv,ev,q3⟩:=I2.after hq'
   subst ev
   exact⟨rv,⟨V.ref (s.heap.objs.size+1),H',I3,rfl,q3⟩⟩
  | next=>exact False.elim hq'
  | brk=>exact False.elim hq'
  | cont=>exact False.elim hq'
theorem Eu (M:Mk X.K C f) (F:d9 X.prog X.w X.K X.mg X.base CX k f fd ps sp) (hr:cG (k+1) X.A) (hg:Gl X x) (hm:X.mg x=some (.ref C)) (hb:Binds X.K fd ps ds) (hd:Vals dvs ds) (hx:Passes CX X E)
 (ha:PA X (e::es) t) (hdb:(x == ("__debug__" :Str))=false:=by decide) (he:starEach (e::es) X.env=(false,eval e X.env)::starEach es X.env:=by rfl) (hpl:(backTo pos (starEach es X.env)).any (·.1)=false:=by rfl):
 PE X (.Call (.Name x p) (e::es) [] pos) (Dx C sp dvs E t):=by
 intro pins s σ H Q I h
 refine wpAny_Call_Name_kw (kA I hg hm ?_ hdb)
 refine PySem.W.callWith_K (h₀:=X.base) I.ok.mod.kin M.kp (thn (ha pos pins s σ H _ I h) λus s1 ⟨vs,H1,I1,r,q⟩=>⟨I1.kIn, ?_⟩) he hpl
 exact CQ M F hr hb hd hx I1 r q
end
section
variable {X : Cx} {CX : CXT} {k : Nat} {f C : Addr} {fd : FuncData} {ps ks : List Str} {sp : Sp} {E : XK} {x m : Str} {p pos apos kpos : Pos} {e o : Expr} {es : List Expr} {kws : List Keyword} {te ta : TE} {t tk : TA} {nm : Option Str}
structure JE(K:PySem.W.Frag)(fd:FuncData)(ps ks:List Str)(g:List Value->List Value->List Value)(gV:List V->List V->List V):Prop where
 to:∀(s:Shared) (us ws:List Value),K.In s.heap->(g us ws).length=ps.length->BindsTo s fd ⟨us,ks.zip ws⟩ (ps.zip (g us ws))
 rel:∀{vs:List V} {us:List Value} {zs:List V} {ws:List Value},Vals vs us->Vals zs ws->Vals (gV vs zs) (g us ws)
variable {g : List Value → List Value → List Value} {gV : List V → List V → List V}
end
structure bc(N P:List Str)(sc:Scope):Prop where
 kind:sc.kind=.function
 co:sc.isCoroutine=false
 gen:sc.isGenerator=false
 nd:N.Nodup
 pre:N.take P.length=P
 par:∀x∈P,sc.names.lookup x=some .local\/sc.names.lookup x=some .cell
 nofree:∀y∈sc.names,y.2≠ .free
theorem t8{kindOf:Str->Option NameKind}{x:Str}:∀{binds:List (Str×Value)} {m:Str->Option Value},(∀v,(x,v)∉binds)->bindL kindOf binds m x=m x
 | [],_,_=>rfl
 | (n,v)::r,m,h=>by
  unfold bindL
  rw[t8 λw hw=>h w (List.mem_cons_of_mem _ hw)]
  split
  ·have:x≠n:=by rintro rfl;exact h v List.mem_cons_self
   simp[this]
  ·rfl
theorem uc{kindOf:Str->Option NameKind}{x:Str}:∀{binds:List (Str×Value)} {m:Str->Option Value},(∀v,(x,v)∉binds)->bindC kindOf binds m x=m x
 | [],_,_=>rfl
 | (n,v)::r,m,h=>by
  unfold bindC
  rw[uc λw hw=>h w (List.mem_cons_of_mem _ hw)]
  split
  ·rfl
  ·have:x≠n:=by rintro rfl;exact h v List.mem_cons_self
   simp[this]
theorem uo{kindOf:Str->Option NameKind}{x:Str}{v:Value}:∀{P:List Str} {vs:List Value} {i:Nat} {m:Str->Option Value},P.Nodup->P[i]? =some x->vs[i]? =some v->kindOf x=some .local->
 bindL kindOf (P.zip vs) m x=some v
 | [],_,_,_,_,h,_,_=>by simp at h
 | _::_,[],_,_,_,_,h,_=>by simp at h
 | p::P,w::vs,0,m,nd,h1,h2,hk=>by
  simp at h1 h2;subst h1;subst h2
  show bindL kindOf ((p,w)::P.zip vs) m p=_
  unfold bindL
  rw[t8 λv hv=>(List.nodup_cons.mp nd).1 (List.of_mem_zip hv).1,if_pos hk]
  simp
 | p::P,w::vs,i+1,m,nd,h1,h2,hk=>by
  show bindL kindOf ((p,w)::P.zip vs) m x=_
  unfold bindL
  exact uo (i:=i) (List.nodup_cons.mp nd).2 (by simpa using h1) (by simpa using h2) hk
theorem t5{kindOf:Str->Option NameKind}{x:Str}{v:Value}:∀{P:List Str} {vs:List Value} {i:Nat} {m:Str->Option Value},P.Nodup->P[i]? =some x->vs[i]? =some v->kindOf x≠some .local->
 bindC kindOf (P.zip vs) m x=some v
 | [],_,_,_,_,h,_,_=>by simp at h
 | _::_,[],_,_,_,_,h,_=>by simp at h
 | p::P,w::vs,0,m,nd,h1,h2,hk=>by
  simp at h1 h2;subst h1;subst h2
  show bindC kindOf ((p,w)::P.zip vs) m p=_
  unfold bindC
  rw[uc λv hv=>(List.nodup_cons.mp nd).1 (List.of_mem_zip hv).1,if_neg hk]
  simp
 | p::P,w::vs,i+1,m,nd,h1,h2,hk=>by
  show bindC kindOf ((p,w)::P.zip vs) m x=_
  unfold bindC
  exact t5 (i:=i) (List.nodup_cons.mp nd).2 (by simpa using h1) (by simpa using h2) hk
def start(N:List Str)(vs:List V):St:=vs.map some++List.replicate (N.length-vs.length) none
def kx(CX:CXT)(P:Program)(w:World)(K:PySem.W.Frag)(mg:Str->Option Value)(base:Heap)(N:List Str)(qual:Str)(scope:Scope)(f:Addr)(cd:Value)(A:Around)(outer:List Env)(s:Shared)(H:Hp)(E:XK):Cx where
 prog:=P
 w:=w
 K:=K
 mg:=mg
 base:=base
 A:=A.deeper (envOfC qual scope s.heap.objs.size f cd)
 N:=N
 s₀:=s
 H₀:=H
 env:=envOfC qual scope s.heap.objs.size f cd
 outer:=outer
 stack:=envOfC qual scope s.heap.objs.size f cd::outer
 ex:=[]
 calm:=true
 fn:=λ_=>true
 pn:=[]
 xe:=λe s'=>wpAny (model P w) (A.deeper (envOfC qual scope s.heap.objs.size f cd)) (leaving (envOfC qual scope s.heap.objs.size f cd) e) (λ_ s''=>CX outer H s E e s'') (λe' s''=>CX outer H s E e' s'') s'
theorem wO{sc:Scope}{n:Nat}{x:Str}(h:sc.names.lookup x=some .cell):∃c,(cellsFrom n sc.names []).lookup x=some c:=by
 have q:=PySem.W.cellsFrom_some sc.names n [] (.inl h)
 exact Option.isSome_iff_exists.mp q
theorem ug {CX:CXT} {P:Program} {w:World} {K:PySem.W.Frag} {mg:Str->Option Value} {base:Heap} {N ps:List Str} {qual:Str} {scope:Scope} {f:Addr} {cd:Value} {A:Around} {outer:List Env} {s s1:Shared} {H:Hp} {E:XK} {us:List Value} {vs:List V}
 (S:bc N ps scope) (hd:A.handled=none) (e0:ko P w K mg base A outer s H) (hl:vs.length=ps.length) (r:Vals vs us)
 (x:InCallC s s.heap.objs.size (bindL (envOfC qual scope s.heap.objs.size f cd).kindOf (ps.zip us) λ_=>none) (cellsFrom (s.heap.objs.size+1) scope.names []) (bindC (envOfC qual scope s.heap.objs.size f cd).kindOf (ps.zip us) λ_=>none) s1):
 Inv (kx CX P w K mg base N qual scope f cd A outer s H E) [] (start N vs) H s1:=by
 have hpl:ps.length<=N.length:=by have:=congrArg List.length S.pre;rw[List.length_take] at this;omega
 obtain⟨h1,tk,rfl,hk⟩:=x.done
 have noA:∀b:Addr,b∉(kx CX P w K mg base N qual scope f cd A outer s H E).ex:=λb z=>absurd (show b∈([]:List Addr) from z) (by simp)
 refine⟨⟨e0.mod,S.kind,rfl,rfl,Nat.le_refl _,λy z c h1 h2=> ?_,λy hy=> ?_,λy c _ h=> ?_,λ_=>hd,Around.frames_deeper e0.frames,.inr ⟨rfl,rfl⟩,λb z=>absurd z (noA b),e0.bs,e0.bsz,λb _ _=>noA b,λb z=>absurd z (noA b),e0.funs,e0.frf⟩,
  rfl,e0.bare,Un.kept hk,⟨_,x.toInCall.ns,λi y v h1 h2 h3=> ?_⟩,λy c h=>⟨_,x.cell y c h⟩,e0.hok.fresh (Nat.le_refl _),λy c h=> ?_,λp hp=>absurd (show p∈([]:List (Addr×Obj)) from hp) (by simp),e0.hok.kept hk, ?_⟩
 ·exact name_of_addr x.apart (PySem.mem_of_lookup h1) (PySem.mem_of_lookup h2)
 ·have hy:scope.names.lookup y=some .cell\/scope.names.lookup y=some .free:=hy
  rcases hy with hy | hy
  ·exact wO hy
  ·exact absurd rfl (S.nofree _ (PySem.mem_of_lookup hy))
 ·exact Nat.le_of_lt (x.above y c (PySem.mem_of_lookup h))
 ·have hi:i<vs.length:=by
   unfold start at h2
   by_cases hi:i<vs.length
   ·exact hi
   ·rw[List.getElem?_append_right (by simpa using hi)] at h2
    rw[List.getElem?_replicate] at h2
    split at h2 <;> cases h2
  have ha:vs[i]? =some v:=by
   unfold start at h2
   rw[List.getElem?_append_left (by simpa using hi),List.getElem?_map] at h2
   cases e:vs[i]? with
   | none=>rw[e] at h2;cases h2
   | some a=>rw[e] at h2;cases h2;rfl
  obtain⟨u,hu,rv⟩:=r.get ha
  have hp:ps[i]? =some y:=by
   rw[<- S.pre,List.getElem?_take_of_lt (by omega)];exact h1
  have ndP:ps.Nodup:=by rw[<- S.pre];exact S.nd.sublist (List.take_sublist _ _)
  refine⟨u,rv, ?_⟩
  rcases S.par y (List.mem_of_getElem? hp) with k | k
  ·exact .inl ⟨k,uo ndP hp hu k⟩
  ·obtain⟨c,e⟩:=wO (n:=s.heap.objs.size+1) k
   refine .inr ⟨.inl k,c,e, ?_⟩
   have q:=x.cell y c e
   rw[t5 ndP hp hu (by show scope.names.lookup y≠_;rw[k];decide)] at q
   exact q
 ·exact e0.hok.fresh (Nat.le_of_lt (x.above y c (PySem.mem_of_lookup h)))
 ·unfold start
  show _=N.length
  rw[List.length_append,List.length_map,List.length_replicate]
  omega
theorem DB {CX:CXT} {P:Program} {w:World} {K:PySem.W.Frag} {mg:Str->Option Value} {base:Heap} {k:Nat} {f:Addr} {name qual:Str} {params:Arguments} {body:List Stmt} {scope:Scope} {dV kV doc pm cdv ct oc:Value} {an od:Option Addr}
 {osl:Array (Option Value)} {N ps:List Str} {sp:Sp} (lk:K.lookup f=some ⟨oc,od,.func (PySem.W.fnOf name qual params body scope dV kV doc pm an cdv ct),osl⟩) (hcd:PySem.W.codeIn K cdv qual=true) (S:bc N ps scope)
 (len:∀vs H Q E,sp vs H Q E->vs.length=ps.length)
 (hbody:∀(A:Around) (outer:List Env) (s:Shared) (H:Hp) (vs:List V) (Q:VK) (E:XK),cG k (A.deeper (envOfC qual scope s.heap.objs.size f cdv))->sp vs H Q E->
  ∃t,PSs (kx CX P w K mg base N qual scope f cdv A outer s H E) body t/\t {nx:=λ_ H'=>Q .non H',rt:=Q} (start N vs) H):
 d9 P w K mg base CX (k+1) f (PySem.W.fnOf name qual params body scope dV kV doc pm an cdv ct) ps sp:=by
 refine⟨len,λA outer s H args us vs Q E hr e0 hb r hsp=> ?_⟩
 have hl:=len _ _ _ _ hsp
 have KX:K.In s.heap:=e0.mod.kin.keeps λb o e=>(e0.bs b o e).1
 have lim:s.heap.NoLimit:=e0.mod.nolimit.keeps λb o e=>(e0.bs b o e).1
 have hkind:∀y∈ps.zip us,scope.names.lookup y.1=some .local\/(scope.names.lookup y.1=some .cell/\((cellsFrom (s.heap.objs.size+1) scope.names []).lookup y.1).isSome=true):=λ⟨n,v⟩ hy=>by
  rcases S.par n (List.of_mem_zip hy).1 with q | q
  ·exact .inl q
  ·exact .inr ⟨q,PySem.W.cellsFrom_some _ _ _ (.inl q)⟩
 refine codeAny_call_function hr.depth (KX _ _ lk) rfl S.co S.gen rfl (PySem.W.codeRec_of KX hcd) (hb _ _ _ _ ?_)
 refine wpAny_newFunctionEnv_cells S.kind hkind λenv he s1 x=> ?_
 subst he
 refine⟨lim.keeps x.toInCall.keep,codeAny_func ?_⟩
 obtain⟨t,ht,hq⟩:=hbody A outer s H vs Q E (hr.deeper _) hsp
 have I:Inv (kx CX P w K mg base N qual scope f cdv A outer s H E) [] (start N vs) H s1:=ug S hr.hd e0 hl r x
 refine wpAny_mono (ht [] s1 (start N vs) H _ I hq) (λfl s' hs=> ?_) λe s' hs=>hs
 have fin:∀{σ':St} {H':Hp} {v:V} {u:Value},Inv (kx CX P w K mg base N qual scope f cdv A outer s H E) [] σ' H' s'->RelV v u->Q v H'->CE outer P w H s Q u s':=
  λ{σ' H' v u} J rv q=>⟨v,H',J.os,J.bare,J.base,J.hok,rv,q⟩
 cases fl with
 | ret u=>
  obtain⟨v,σ',H',J,rv,q⟩:=hs
  exact fin J rv q
 | next=>
  obtain⟨σ',H',J,q⟩:=hs
  exact fin (v:=V.non) (u:=Value.none) J rfl q
 | brk=>
  obtain⟨_,_,_,q⟩:=hs
  exact False.elim q
 | cont=>
  obtain⟨_,_,_,q⟩:=hs
  exact False.elim q
end L2
namespace L2
open PySem PySem.Spec PyProof.Rows
section
variable {X : Cx} {x : Str} {p pos : Pos} {e : Expr} {es : List Expr} {t : TA} {id T : String} {r : List V → Hp → VK → Prop}
def tCB(r:List V->Hp->VK->Prop)(t:TA):TE:=λσ H Q=>t σ H λvs H1=>r vs H1 Q
theorem bo (hc:ic X (.builtin id) r) (hg:Gl X x) (hm:X.mg x=none) (hv:bootBuiltins x=some (.builtin id)) (ha:PA X (e::es) t) (hn:x≠"__name__" :=by decide) (hdb:(x == ("__debug__" :Str))=false:=by decide)
 (he:starEach (e::es) X.env=(false,eval e X.env)::starEach es X.env:=by rfl) (hpl:(backTo pos (starEach es X.env)).any (·.1)=false:=by rfl):PE X (.Call (.Name x p) (e::es) [] pos) (tCB r t):=by
 intro pins s σ H Q I h
 refine wpAny_Call_Name_kw (nA I hg hm hv ?_ hn hdb)
 exact PyProof.Rows.callWith_builtin1 (thn (ha pos pins s σ H _ I h) λus s1 ⟨vs,H1,I1,r1,q1⟩=>hc pins s1 σ H1 vs us Q I1 r1 q1) he hpl
theorem dN (hc:ic X (.type T) r) (hg:Gl X x) (hm:X.mg x=none) (hv:bootBuiltins x=some (.type T)) (ha:PA X (e::es) t) (hn:x≠"__name__" :=by decide) (hdb:(x == ("__debug__" :Str))=false:=by decide)
 (he:starEach (e::es) X.env=(false,eval e X.env)::starEach es X.env:=by rfl) (hpl:(backTo pos (starEach es X.env)).any (·.1)=false:=by rfl):PE X (.Call (.Name x p) (e::es) [] pos) (tCB r t):=by
 intro pins s σ H Q I h
 refine wpAny_Call_Name_kw (nA I hg hm hv ?_ hn hdb)
 exact PyProof.Rows.callWith_type1 (thn (ha pos pins s σ H _ I h) λus s1 ⟨vs,H1,I1,r1,q1⟩=>hc pins s1 σ H1 vs us Q I1 r1 q1) he hpl
end
end L2
namespace HT
open PySem PyProof.Rows
section
open PySem.SeqAt
open PySem.AutoSeq1 (wpAny_loadPart')
open PySem.MeetsSeq PySem.MeetsSeq2 PySem.MeetsSeq3
end
section
variable {prog : Program} {w : World} {A : Around} {E : Value → Shared → Prop} {s : Shared}
def sIx(n d:Nat):Option Int->Nat
 | none=>d
 | some v=>if v<0 then (v+(n:Int)).toNat else min v.toNat n
theorem wQ(n d:Nat):sIx n d none=d:=rfl
theorem pW(n d k:Nat):sIx n d (some (k:Int))=min k n:=by
 show (if (k:Int)<0 then ((k:Int)+(n:Int)).toNat else min (k:Int).toNat n)=min k n
 rw[if_neg (by omega),Int.toNat_natCast]
end
end HT
namespace L2
open PySem PySem.Spec PyProof.Rows
abbrev TO:=St->Hp->(Option Int->Hp->Prop)->Prop
def PO(X:Cx)(e:Option Expr)(t:TO):Prop:=
 ∀(pins:List (Addr×Obj)) (s:Shared) (σ:St) (H:Hp) (Q:Option Int->Hp->Prop),Inv X pins σ H s->t σ H Q->
  wpAny (model X.prog X.w) X.A (evalPart e X.env) (λu s'=>∃o H',Inv X pins σ H' s'/\IsPart u o/\Q o H') X.xe s
def yj:TO:=λ_ H Q=>Q none H
def DG(t:TE):TO:=λσ H Q=>t σ H λx H1=>∃i,x=.int i/\Q (some i) H1
section
variable {X : Cx} {e : Expr} {te : TE} {lo hi : Option Expr} {tl th : TO} {pos p2 : Pos}
theorem lR:PO X none yj:=by
 intro pins s σ H Q I h
 rw[evalPart_none]
 exact wpAny_pure ⟨none,H,I,.none,h⟩
theorem kn(h:PE X e te):PO X (some e) (DG te):=by
 intro pins s σ H Q I hw
 rw[evalPart_some]
 refine thn (h pins s σ H _ I hw) λu s1 ⟨x,H1,I1,r1,q1⟩=> ?_
 obtain⟨i,rfl,q⟩:=q1
 obtain⟨t,rfl⟩:=r1
 exact⟨some i,H1,I1,.int i t,q⟩
def SlR(X:Cx)(r:V->Option Int->Option Int->Hp->VK->Prop):Prop:=
 ∀(pins:List (Addr×Obj)) (s:Shared) (σ:St) (H:Hp) (x:V) (v vl vu:Value) (lo hi:Option Int) (sl:Addr) (Q:VK),Inv X pins σ H s->RelV x v->s.heap.IsSliceOf sl vl vu .none->IsPart vl lo->IsPart vu hi->r x lo hi H Q->
  ∃T id,typeLookup (.type T) "__getitem__" =pure (some (.builtin id))/\s.TypeIs v T/\wpAny (model X.prog X.w) X.A (getItem v (.ref sl)) (EP X pins σ Q) X.xe s
theorem SlR.or{r r':V->Option Int->Option Int->Hp->VK->Prop}(h:SlR X r)(h':SlR X r'):SlR X (λx lo hi H Q=>r x lo hi H Q\/r' x lo hi H Q):=by
 intro pins s σ H x v vl vu lo hi sl Q I rx hs pl pu q
 rcases q with q | q
 ·exact h pins s σ H x v vl vu lo hi sl Q I rx hs pl pu q
 ·exact h' pins s σ H x v vl vu lo hi sl Q I rx hs pl pu q
def tSl(r:V->Option Int->Option Int->Hp->VK->Prop)(te:TE)(tl th:TO):TE:=λσ H Q=>te σ H λx H1=>tl σ H1 λl H2=>th σ H2 λu H3=>r x l u H3 Q
theorem mF{r:V->Option Int->Option Int->Hp->VK->Prop}(hr:SlR X r)(he:PE X e te)(hl:PO X lo tl)(hu:PO X hi th):PE X (.Subscript e (.Slice lo hi none p2) pos) (tSl r te tl th):=by
 intro pins s σ H Q I h
 refine Subscript_ (thn (he pins s σ H _ I h) λv s1 ⟨x,H1,I1,r1,q1⟩=> ?_)
 refine wpAny_Slice (thn (hl pins s1 σ H1 _ I1 q1) λvl s2 ⟨l,H2,I2,pl,q2⟩=>thn (hu pins s2 σ H2 _ I2 q2) λvu s3 ⟨u,H3,I3,pu,q3⟩=> ?_)
 rw[evalPart_none]
 refine wpAny_pure ?_
 have I4:Inv X pins σ H3 {s3 with heap:=s3.heap.push {cls:=.type "slice",data:=.fields #[vl,vu,.none]}}:=I3.kept (t':=s3.toks) λb ob q=>Heap.get?_push_of_some _ q
 obtain⟨T,id,hT,ht,hg⟩:=hr pins {s3 with heap:=s3.heap.push {cls:=.type "slice",data:=.fields #[vl,vu,.none]}} σ H3 x v vl vu l u s3.heap.objs.size Q I4 r1 (Heap.IsSliceOf.new ..) pl pu q3
 show wpAny (model X.prog X.w) X.A (subscriptTail e (.Slice lo hi none p2) v (.ref s3.heap.objs.size)) (EP X pins σ Q) X.xe {s3 with heap:=s3.heap.push {cls:=.type "slice",data:=.fields #[vl,vu,.none]}}
 exact tail_any (ops:=[.ref s3.heap.objs.size,v]) ht hT hg (by with_unfolding_all rfl)
def tj(xs:List V)(lo hi:Option Int):List V:=(xs.drop (HT.sIx xs.length 0 lo)).take (HT.sIx xs.length xs.length hi-HT.sIx xs.length 0 lo)
theorem xK(xs:List V)(lo hi:Option Int):(tj xs lo hi).length<=xs.length:=by
 unfold tj
 rw[List.length_take,List.length_drop]
 omega
end
end L2
namespace L2
open PySem PySem.Spec PyProof.Rows
def ixN(n:Nat)(i:Int):Option Nat:=if 0<=i then (if i<n then some i.toNat else none) else if -(n:Int)<=i then some (i+n).toNat else none
def atI{α:Type}(xs:List α)(i:Int):Option α:=(ixN xs.length i).bind λj=>xs[j]?
theorem yS{n:Nat}{i:Int}{j:Nat}(h:ixN n i=some j):seqIndex? i n=some j/\j<n/\ -(n:Int)<=i/\i<n:=by
 unfold ixN at h
 by_cases h0:0<=i
 ·rw[if_pos h0] at h
  by_cases h1:i<n
  ·rw[if_pos h1] at h
   have e:i.toNat=j:=Option.some.inj h
   exact⟨by rw[seqIndex_of h0 h1,e],by omega,by omega,h1⟩
  ·rw[if_neg h1] at h;cases h
 ·rw[if_neg h0] at h
  by_cases h1: -(n:Int)<=i
  ·rw[if_pos h1] at h
   have e:(i+n).toNat=j:=Option.some.inj h
   exact⟨by rw[seqIndex_neg (by omega) h1,e],by omega,h1,by omega⟩
  ·rw[if_neg h1] at h;cases h
theorem sO{α:Type}{xs:List α}{i:Int}{v:α}(h:atI xs i=some v):∃j,seqIndex? i xs.length=some j/\xs[j]? =some v/\j<xs.length/\ -(xs.length:Int)<=i/\i<xs.length:=by
 unfold atI at h
 cases e:ixN xs.length i with
 | none=>rw[e] at h;cases h
 | some j=>
  rw[e] at h
  obtain⟨h1,h2,h3,h4⟩:=yS e
  exact⟨j,h1,h,h2,h3,h4⟩
def D0(b:Expr):Prop:=∀o i,subscripted b false o i=operate [o,i] (getItem o i)
def IxR(X:Cx)(r:R2):Prop:=
 ∀(value slice:Expr) (pins:List (Addr×Obj)) (s:Shared) (σ:St) (H:Hp) (x y:V) (v u:Value) (Q:VK),Inv X pins σ H s->RelV x v->RelV y u->r x y H Q->
  subscripted slice false v u=operate [v,u] (getItem v u)->wpAny (model X.prog X.w) X.A (subscriptTail value slice v u) (EP X pins σ Q) X.xe s
def MtR(X:Cx)(id:String)(r:V->List V->Hp->VK->Prop):Prop:=
 ∀(pins:List (Addr×Obj)) (s:Shared) (σ:St) (H:Hp) (x:V) (xs:List V) (v:Value) (us:List Value) (Q:VK),Inv X pins σ H s->RelV x v->Vals xs us->r x xs H Q->
  wpAny (model X.prog X.w) X.A (call (.builtin id) (v::us)) (EP X pins σ Q) X.xe s
section
variable {X : Cx} {a b : Expr} {ta tb : TE} {pos : Pos}
theorem IxR.or{r r':R2}(h:IxR X r)(h':IxR X r'):IxR X (λx y H Q=>r x y H Q\/r' x y H Q):=by
 intro value slice pins s σ H x y v u Q I rx ry q hs
 rcases q with q | q
 ·exact h value slice pins s σ H x y v u Q I rx ry q hs
 ·exact h' value slice pins s σ H x y v u Q I rx ry q hs
theorem MtR.or{id:String}{r r':V->List V->Hp->VK->Prop}(h:MtR X id r)(h':MtR X id r'):MtR X id (λx xs H Q=>r x xs H Q\/r' x xs H Q):=by
 intro pins s σ H x xs v us Q I rx rs q
 rcases q with q | q
 ·exact h pins s σ H x xs v us Q I rx rs q
 ·exact h' pins s σ H x xs v us Q I rx rs q
theorem dy{r:R2}(hr:IxR X r)(ha:PE X a ta)(hb:PE X b tb)(hs:D0 b):PE X (.Subscript a b pos) (tOp r ta tb):=by
 intro pins s σ H Q I h
 exact Subscript_ (BV ha hb I h λv u s2 x y H2 I2 rx ry q=>hr a b pins s2 σ H2 x y v u Q I2 rx ry q (hs _ _))
def FH(K:PySem.W.Frag):R2:=λx y H Q=>∃p xs i v,x=.ref p/\y=.int i/\SqL K H p xs/\atI xs i=some v/\Q v H
def Fw(K:PySem.W.Frag):R2:=λx y H Q=>∃p xs i v,x=.ref p/\y=.int i/\SqT K H p xs/\atI xs i=some v/\Q v H
def GQ:R2:=λx y H Q=>∃z i c,x=.str z/\y=.int i/\z.length<=sizeLine/\atI z.cps.toList i=some c/\Q (.str ⟨#[c]⟩) H
theorem EE:IxR X (FH X.K):=by
 intro value slice pins s σ H x y v u Q I rx ry h hs
 obtain⟨p,xs,i,z,rfl,rfl,hq,he,q⟩:=h
 cases rx
 obtain⟨t,rfl⟩:=ry
 obtain⟨its,r,pl,hz⟩:=I.list hq
 obtain⟨j,h1,h2,h3,h4,h5⟩:=sO he
 obtain⟨w,ew,rw'⟩:=r.get h2
 have hl:=r.length
 have hn:=la
 have fin:EP X pins σ Q w s:=⟨z,H,I,rw',q⟩
 by_cases h0:0<=i
 ·have hj:i.toNat=j:=by
   rw[seqIndex_of h0 h5] at h1
   exact Option.some.inj h1
  exact item_listR pl.isList h0 (by omega) (by rw[hj];simpa using ew) fin hs
 ·have hj:(i+(its.toArray.size:Int)).toNat=j:=by
   rw[seqIndex_neg (by omega) h4] at h1
   rw[List.size_toArray,<- hl]
   exact Option.some.inj h1
  exact subscriptTail_builtinR (x:=w) pl.isList.typeIs slot_list_getitem.lookup
   (wpAny_getItem_list_neg (Q:=λr s'=>r=w/\EP X pins σ Q r s') pl.isList (by omega) (by rw[List.size_toArray] <;> omega) (by omega) (by rw[hj];simpa using ew) ⟨rfl,fin⟩) hs
theorem Ga:IxR X (Fw X.K):=by
 intro value slice pins s σ H x y v u Q I rx ry h hs
 obtain⟨p,xs,i,z,rfl,rfl,hq,he,q⟩:=h
 cases rx
 obtain⟨t,rfl⟩:=ry
 obtain⟨its,r,pl,hz⟩:=I.tuple hq
 obtain⟨j,h1,h2,h3,h4,h5⟩:=sO he
 obtain⟨w,ew,rw'⟩:=r.get h2
 have hl:=r.length
 have hn:=la
 have fin:EP X pins σ Q w s:=⟨z,H,I,rw',q⟩
 exact subscriptTail_builtinR (x:=w) pl.typeIs slot_tuple_getitem.lookup
  (getItem_tuple (j:=j) (Q:=λr s'=>r=w/\EP X pins σ Q r s') pl (by omega) (by omega) (by rw[List.size_toArray,<- hl];exact h1) (by simpa using ew) ⟨rfl,fin⟩) hs
theorem FW:IxR X GQ:=by
 intro value slice pins s σ H x y v u Q I rx ry h hs
 obtain⟨z,i,c,rfl,rfl,hz,he,q⟩:=h
 obtain⟨t,rfl⟩:=rx
 obtain⟨t',rfl⟩:=ry
 obtain⟨j,h1,h2,h3,h4,h5⟩:=sO he
 have hl:z.cps.toList.length=z.length:=by simp[Str.length]
 rw[hl] at h1 h4 h5
 have hn:=la
 exact tail_any (typeIs_str s z t) slot_str_getitem.lookup (getItem_str (c:=c) (by
  have e1:decide (i < -(2^63:Int))=false:=decide_eq_false (by omega)
  have e2:decide (i ≥ 2^63)=false:=decide_eq_false (by omega)
  rw[e1,e2,Bool.or_false]) (by rw[h1];simpa using h2) ⟨.str ⟨#[c]⟩,H,I.tok _,⟨_,rfl⟩,q⟩) hs
def rIx(K:PySem.W.Frag):R2:=λx y H Q=>FH K x y H Q\/Fw K x y H Q\/GQ x y H Q
theorem cD:IxR X (rIx X.K):=EE.or (Ga.or FW)
theorem Ac(its:List Value)(n j:Nat)(u:Value):Obj.mapSeq (·.setIfInBounds j u) {cls:=.type "list",data:=.seq its.toArray n}={cls:=.type "list",data:=.seq (its.set j u).toArray n}:=by
 simp[Obj.mapSeq]
theorem Inv.lst{pins:List (Addr×Obj)}{σ:St}{H:Hp}{s:Shared}{p:Addr}{xs:List V}(I:Inv X pins σ H s)(h:H p=some (.lst xs)):
 ∃(its:List Value) (n:Nat),Vals xs its/\s.heap.get? p=some {cls:=.type "list",data:=.seq its.toArray n}/\xs.length<=sizeLine:=by
 obtain⟨z,its,n,r,e⟩:=I.hok p _ h
 exact⟨its,n,r,e,z⟩
theorem Inv.lstUpd {pins:List (Addr×Obj)} {σ:St} {H:Hp} {s:Shared} {p:Addr} {xs ys:List V} {its its':List Value} {n n':Nat} {f:Obj->Obj} (I:Inv X pins σ H s) (h:H p=some (.lst xs))
 (ho:s.heap.get? p=some {cls:=.type "list",data:=.seq its.toArray n}) (hf:f {cls:=.type "list",data:=.seq its.toArray n}={cls:=.type "list",data:=.seq its'.toArray n'}) (r:Vals ys its') (hz:ys.length<=sizeLine) (t:Nat):
 Inv X pins σ (upd H p (.lst ys)) {s with heap:=s.heap.update p f,toks:=t}:=by
 have e:(s.heap.update p f).get? p=some {cls:=.type "list",data:=.seq its'.toArray n'}:=by
  rw[Heap.get?_update_self f ho (by rw[hf] <;> rfl),hf]
 refine I.write (x:=p) (e:=p) (by rw[h];trivial) (.inl rfl) (λb u hb q=>(Heap.get?_update_other _ _ (Ne.symm hb)).trans q) ⟨_,e⟩ ?_
 exact⟨hz,its',n',r,e⟩
def vx:V->V->V->Hp->(Hp->Prop)->Prop:=λo i v H Q=>∃p xs k j,o=.ref p/\i=.int k/\H p=some (.lst xs)/\ixN xs.length k=some j/\Q (upd H p (.lst (xs.set j v)))
theorem set_list:Cc X vx:=by
 intro pins s σ H o i v ov iv u Q I ro ri rv h
 obtain⟨p,xs,k,j,rfl,rfl,hp,hj,q⟩:=h
 cases ro
 obtain⟨t,rfl⟩:=ri
 obtain⟨its,n,r,ho,hz⟩:=I.lst hp
 obtain⟨h1,h2,h3,h4⟩:=yS hj
 have hl:=r.length
 have hn:=la
 have I':Inv X pins σ (upd H p (.lst (xs.set j v))) {s with heap:=s.heap.update p (Obj.mapSeq (·.setIfInBounds j u))}:=
  I.lstUpd hp ho (Ac its n j u) (r.set rv j) (by rw[List.length_set];exact hz) s.toks
 by_cases h0:0<=k
 ·have hk:k.toNat=j:=by
   rw[seqIndex_of h0 h4] at h1
   exact Option.some.inj h1
  exact PySem.W.ki_setAt ho h0 (by omega) (by rw[List.size_toArray,<- hl];exact h4) (by rw[hk];exact⟨_,I',q⟩)
 ·have hk:(k+(its.toArray.size:Int)).toNat=j:=by
   rw[seqIndex_neg (by omega) h3] at h1
   rw[List.size_toArray,<- hl]
   exact Option.some.inj h1
  exact PySem.W.ki_setBack ho (by omega) (by rw[List.size_toArray,<- hl];exact h3) (by omega) (by rw[hk];exact⟨_,I',q⟩)
theorem vT(lo hi:Option Int)(n:Nat):(sliceBounds lo hi none n).1=((HT.sIx n 0 lo:Nat):Int)/\(sliceBounds lo hi none n).2.1=((HT.sIx n n hi:Nat):Int)/\(sliceBounds lo hi none n).2.2=1:=by
 refine⟨?_, ?_,rfl⟩
 ·cases lo with
  | none=>simp[sliceBounds,HT.sIx]
  | some i=>
   simp only[sliceBounds,HT.sIx,Option.getD_none,show (1:Int)>0 by decide,if_true]
   by_cases h:i<0
   ·simp only[h,if_true] <;> omega
   ·simp only[h,if_false] <;> omega
 ·cases hi with
  | none=>simp[sliceBounds,HT.sIx]
  | some i=>
   simp only[sliceBounds,HT.sIx,Option.getD_none,show (1:Int)>0 by decide,if_true]
   by_cases h:i<0
   ·simp only[h,if_true] <;> omega
   ·simp only[h,if_false] <;> omega
theorem uE(its:List Value)(lo hi:Option Int):slicePick its.toArray lo hi none=((its.drop (HT.sIx its.length 0 lo)).take (HT.sIx its.length its.length hi-HT.sIx its.length 0 lo)).toArray:=by
 obtain⟨h1,h2,h3⟩:=vT lo hi its.toArray.size
 unfold slicePick
 rw[h1,h2,h3]
 simp only[sliceRange_one,pick_run,List.size_toArray] <;> rfl
def FX(K:PySem.W.Frag):V->Option Int->Option Int->Hp->VK->Prop:=λx lo hi H Q=>∃a xs,x=.ref a/\SqL K H a xs/\∀p,H p=none->Q (.ref p) (upd H p (.lst (tj xs lo hi)))
theorem tR:SlR X (FX X.K):=by
 intro pins s σ H x v vl vu lo hi sl Q I rx hs pl pu h
 obtain⟨a,xs,rfl,hx,q⟩:=h
 cases rx
 obtain⟨its,r,ht,hz⟩:=I.list hx
 have hlen:=r.length
 refine⟨"list",_,slot_list_getitem.lookup,ht.isList.typeIs, ?_⟩
 refine wpAny_getItem_list_slice ht.isList hs pl pu .none (by simp) ?_ (by rw[List.size_toArray] <;> omega)
 rw[uE,<- hlen]
 refine⟨.ref s.heap.objs.size,_,I.laid (t':=s.toks) (o:=.lst (tj xs lo hi)) (λb ob q=>Heap.get?_push_of_some _ q) (Nat.le_refl _) ?_,rfl,q _ (I.hok.fresh (Nat.le_refl _))⟩
 exact⟨Nat.le_trans (xK xs lo hi) hz,_,0,(r.drop (HT.sIx xs.length 0 lo)).take (HT.sIx xs.length xs.length hi-HT.sIx xs.length 0 lo),Heap.get?_push_size _ rfl⟩
def kI:V->Bool
 | .non=>true
 | .bl _=>true
 | .int _=>true
 | .str _=>true
 | _=>false
def eqV:V->V->Bool
 | .non,.non=>true
 | .bl a,.bl b=>a == b
 | .bl a,.int b=>(if a then 1 else 0) == b
 | .int a,.bl b=>a == (if b then 1 else 0)
 | .int a,.int b=>a == b
 | .str a,.str b=>a == b
 | _,_=>false
theorem GI{A:Around}{s:Shared}{y x:V}{u v:Value}(ry:RelV y u)(rx:RelV x v)(fy:kI y=true)(fx:kI x=true):SeqAt.EqAt A s u v (eqV y x):=by
 cases y with
 | non=>
  cases ry
  cases x with
  | non=>cases rx;exact SeqAt.EqAt.same _
  | bl b=>cases rx;exact SeqAt.EqAt.none_bool b
  | int b=>obtain⟨t,rfl⟩:=rx;exact SeqAt.EqAt.none_int b t
  | str b=>obtain⟨t,rfl⟩:=rx;exact SeqAt.EqAt.none_str b t
  | _=>exact absurd (show false=true from fx) Bool.false_ne_true
 | bl a=>
  cases ry
  cases x with
  | non=>cases rx;exact SeqAt.EqAt.bool_none a
  | bl b=>cases rx;exact SeqAt.EqAt.bool_bool a b
  | int b=>obtain⟨t,rfl⟩:=rx;exact SeqAt.EqAt.bool_int a b t
  | str b=>obtain⟨t,rfl⟩:=rx;exact SeqAt.EqAt.bool_str a b t
  | _=>exact absurd (show false=true from fx) Bool.false_ne_true
 | int a=>
  obtain⟨t',rfl⟩:=ry
  cases x with
  | non=>cases rx;exact SeqAt.EqAt.int_none a t'
  | bl b=>cases rx;exact SeqAt.EqAt.int_bool a t' b
  | int b=>obtain⟨t,rfl⟩:=rx;exact SeqAt.EqAt.int_int a t' b t
  | str b=>obtain⟨t,rfl⟩:=rx;exact SeqAt.EqAt.int_str a t' b t
  | _=>exact absurd (show false=true from fx) Bool.false_ne_true
 | str a=>
  obtain⟨t',rfl⟩:=ry
  cases x with
  | non=>cases rx;exact SeqAt.EqAt.str_none a t'
  | bl b=>cases rx;exact SeqAt.EqAt.str_bool a t' b
  | int b=>obtain⟨t,rfl⟩:=rx;exact SeqAt.EqAt.str_int a t' b t
  | str b=>obtain⟨t,rfl⟩:=rx;exact SeqAt.EqAt.str_str a t' b t
  | _=>exact absurd (show false=true from fx) Bool.false_ne_true
 | _=>exact absurd (show false=true from fy) Bool.false_ne_true
def eqU(x:V)(u:Value):Bool:=match u with
 | .none=>eqV .non x
 | .bool b=>eqV (.bl b) x
 | .int i _=>eqV (.int i) x
 | .str z _=>eqV (.str z) x
 | _=>false
theorem AD{x y:V}{u:Value}(r:RelV y u)(f:kI y=true):eqU x u=eqV y x:=by
 cases y with
 | non=>cases r;rfl
 | bl b=>cases r;rfl
 | int i=>obtain⟨t,rfl⟩:=r;rfl
 | str z=>obtain⟨t,rfl⟩:=r;rfl
 | _=>exact absurd (show false=true from f) Bool.false_ne_true
theorem nB{x:V}:∀{xs:List V} {us:List Value},Vals xs us->xs.all kI=true->us.any (eqU x)=xs.any λy=>eqV y x
 | _,_,.nil,_=>rfl
 | y::xs,u::us,.cons r t,f=>by
  rw[List.all_cons,Bool.and_eq_true] at f
  rw[List.any_cons,List.any_cons,AD r f.1,nB t f.2]
theorem my{A:Around}{s:Shared}{x:V}{v:Value}(rx:RelV x v)(fx:kI x=true):∀{xs:List V} {us:List Value},Vals xs us->xs.all kI=true->∀u∈us,SeqAt.EqAt A s u v (eqU x u)
 | _,_,.nil,_=>λu hu=>by cases hu
 | y::xs,u::us,.cons r t,f=>λu' hu=>by
  rw[List.all_cons,Bool.and_eq_true] at f
  rcases List.mem_cons.mp hu with rfl | hu
  ·rw[AD r f.1];exact GI r rx f.1 fx
  ·exact my rx fx t f.2 u' hu
def inV(x:V)(xs:List V):Bool:=xs.any λy=>eqV y x
def rIn(K:PySem.W.Frag)(neg:Bool):R2:=λx y H Q=>∃p xs,y=.ref p/\(SqL K H p xs\/SqT K H p xs)/\kI x=true/\xs.all kI=true/\Q (.bl (if neg then !inV x xs else inV x xs)) H
theorem uh:OpR X (compareOp .In) (rIn X.K false):=by
 intro pins s σ H x y v u Q I rx ry h
 obtain⟨p,xs,rfl,hq,fx,fs,q⟩:=h
 cases ry
 rcases hq with hq | hq
 ·obtain⟨its,r,pl,hz⟩:=I.list hq
  refine SeqAt.in_listAt (eqU x) pl.isList (λw hw=>my rx fx r fs w (by simpa using hw)) ⟨.bl _,H,I,rfl, ?_⟩
  rw[show its.toArray.any (eqU x)=its.any (eqU x) by simp,nB r fs]
  exact q
 ·obtain⟨its,r,pl,hz⟩:=I.tuple hq
  refine SeqAt.in_tupleAt (eqU x) pl (λw hw=>my rx fx r fs w (by simpa using hw)) ⟨.bl _,H,I,rfl, ?_⟩
  rw[show its.toArray.any (eqU x)=its.any (eqU x) by simp,nB r fs]
  exact q
theorem xf:OpR X (compareOp .NotIn) (rIn X.K true):=by
 intro pins s σ H x y v u Q I rx ry h
 obtain⟨p,xs,rfl,hq,fx,fs,q⟩:=h
 cases ry
 rcases hq with hq | hq
 ·obtain⟨its,r,pl,hz⟩:=I.list hq
  refine SeqAt.notIn_listAt (eqU x) pl.isList (λw hw=>my rx fx r fs w (by simpa using hw)) ⟨.bl _,H,I,rfl, ?_⟩
  rw[show its.toArray.any (eqU x)=its.any (eqU x) by simp,nB r fs]
  exact q
 ·obtain⟨its,r,pl,hz⟩:=I.tuple hq
  refine SeqAt.notIn_tupleAt (eqU x) pl (λw hw=>my rx fx r fs w (by simpa using hw)) ⟨.bl _,H,I,rfl, ?_⟩
  rw[show its.toArray.any (eqU x)=its.any (eqU x) by simp,nB r fs]
  exact q
theorem ic.or{f:Value}{r r':List V->Hp->VK->Prop}(h:ic X f r)(h':ic X f r'):ic X f (λxs H Q=>r xs H Q\/r' xs H Q):=by
 intro pins s σ H xs us Q I rs q
 rcases q with q | q
 ·exact h pins s σ H xs us Q I rs q
 ·exact h' pins s σ H xs us Q I rs q
theorem en:ic X (.type "list") (λxs H Q=>∃p ys,xs=[.ref p]/\(SqL X.K H p ys\/SqT X.K H p ys)/\∀l,H l=none->Q (.ref l) (upd H l (.lst ys))):=by
 intro pins s σ H xs us Q I r h
 obtain⟨p,ys,rfl,hq,q⟩:=h
 obtain⟨u,rfl,rx⟩:=vals1 r
 cases rx
 have fin:∀(its:List Value),Vals ys its->ys.length<=sizeLine->∀(h':Heap) (c':Nat),(∀b o',s.heap.get? b=some o'->h'.get? b=some o')->
  h'.get? s.heap.objs.size=some {cls:=.type "list",dict:=none,data:=.seq its.toArray c',slots:= #[]}->EP X pins σ Q (.ref s.heap.objs.size) {s with heap:=h'}:=λits r' hz h' c' kp e=>
  ⟨.ref s.heap.objs.size,_,I.laid (t':=s.toks) kp (Nat.le_refl _) (show eV X.prog X.w _ h' _ (.lst ys) from ⟨hz,its,c',r',e⟩),rfl,q _ (I.hok.fresh (Nat.le_refl _))⟩
 rcases hq with hq | hq
 ·obtain⟨its,r',pl,hz⟩:=I.list hq
  have hlen:=r'.length
  obtain⟨o,ho,hc,n,hd⟩:=pl.isList
  exact call_list_seq p (.inl rfl) ho hc hd (λh' c' kp e=>fin its r' hz h' c' kp e) (by simp only[List.size_toArray] <;> omega)
 ·obtain⟨its,r',pl,hz⟩:=I.tuple hq
  have hlen:=r'.length
  obtain⟨o,ho,hc,n,hd⟩:=pl
  exact call_list_seq p (.inr rfl) ho hc hd (λh' c' kp e=>fin its r' hz h' c' kp e) (by simp only[List.size_toArray] <;> omega)
def tyV(K:PySem.W.Frag)(T:String)(x:V)(H:Hp):Prop:=match x with
 | .str _=>T="str"
 | .int _=>T="int"
 | .ref p=>(T="list" /\∃xs,SqL K H p xs)\/(T="tuple" /\∃o,K.lookup p=some o/\o.cls=.type "tuple" /\o.dict=none)\/
  (T="dict" /\((∃kvs,H p=some (.dK kvs))\/∃kvs,H p=some (.dT kvs)))\/(T="set" /\∃S n,H p=some (.set S n))
 | _=>False
theorem Gq{pins:List (Addr×Obj)}{σ:St}{H:Hp}{s:Shared}{T:String}{x:V}{v:Value}(I:Inv X pins σ H s)(r:RelV x v)(ty:tyV X.K T x H):
 s.TypeIs v T/\∀a,v=.ref a->∃ob,s.heap.get? a=some ob/\ob.dict=none:=by
 cases x with
 | str z=>
  obtain⟨t,rfl⟩:=r
  cases (show T="str" from ty)
  exact⟨typeIs_str s z t,λ_ e=>nomatch e⟩
 | int i=>
  obtain⟨t,rfl⟩:=r
  cases (show T="int" from ty)
  exact⟨typeIs_int s i t,λ_ e=>nomatch e⟩
 | ref p=>
  cases r
  rcases ty with⟨rfl,xs,hq⟩ | ⟨rfl,o,hk,hc,hd⟩ | ⟨rfl,hk⟩ | ⟨rfl,S,n,hk⟩
  ·obtain⟨its,_,pl,_⟩:=I.list hq
   refine⟨pl.isList.typeIs,λa e=> ?_⟩
   cases e
   obtain⟨o,n,e,c,hd,_⟩:=pl
   exact⟨o,e,hd⟩
  ·refine⟨⟨o,I.kIn p o hk,hc⟩,λa e=> ?_⟩
   cases e
   exact⟨o,I.kIn _ o hk,hd⟩
  ·have z:∃o,s.heap.get? p=some o/\o.ExactDict:=by
    rcases hk with⟨kvs,hk⟩ | ⟨kvs,hk⟩
    ·obtain⟨_,_,_,_,o,_,_,e,ex,_⟩:=I.hok p _ hk
     exact⟨o,e,ex⟩
    ·obtain⟨_,_,_,_,o,_,_,e,ex,_⟩:=I.hok p _ hk
     exact⟨o,e,ex⟩
   obtain⟨o,e,ex⟩:=z
   refine⟨⟨o,e,ex.1⟩,λa e2=> ?_⟩
   cases e2
   exact⟨o,e,ex.2.1⟩
  ·obtain⟨o,_,_,_,e,ex,_⟩:=I.hok p _ hk
   refine⟨⟨o,e,ex.1⟩,λa e2=> ?_⟩
   cases e2
   exact⟨o,e,ex.2.1⟩
 | _=>exact False.elim ty
def tBM(K:PySem.W.Frag)(T:String)(r:V->List V->Hp->VK->Prop)(to:TE)(t:TA):TE:=λσ H Q=>to σ H λx H1=>tyV K T x H1/\t σ H1 λxs H2=>r x xs H2 Q
variable {o e : Expr} {es : List Expr} {to : TE} {t : TA} {name : Str} {apos cpos : Pos} {T id : String} {r : V → List V → Hp → VK → Prop}
theorem lN (pa:PlainAttrs T) (slot:Slot T name id) (hty:typeOf (.builtin id)=pure (.type "method_descriptor")) (hm:MtR X id r) (ho:PE X o to) (ha:PA X (e::es) t)
 (hbase:attributeBase o name X.env (eval o X.env)=eval o X.env:=by rfl)
 (hfew:((backTo cpos (starEach (e::es) X.env)).all (λx=> !x.1)&&(backToKw cpos (keywordEach [] X.env)).all (λx=>x.1.isSome)
  &&decide ((e::es).length+([]:List Keyword).length+(if ([]:List Keyword).isEmpty then 0 else 1)<30))=true:=by rfl)
 (hline:(apos.endLine == cpos.line)=true:=by rfl) (hs:starEach (e::es) X.env=(false,eval e X.env)::starEach es X.env:=by rfl) (hplain:(backTo cpos (starEach es X.env)).any (·.1)=false:=by rfl):
 PE X (.Call (.Attribute o name apos) (e::es) [] cpos) (tBM X.K T r to t):=by
 intro pins s σ H Q I h
 refine wpAny_Call_method_late hbase hfew hline rfl (thn (ho pins s σ H _ I h) λv s1 ⟨x,H1,I1,r1,ty,q1⟩=> ?_)
 obtain⟨h1,h2⟩:=Gq I1 r1 ty
 refine⟨T,id,pa,slot,hty,h1,h2, ?_⟩
 have hA:=ha cpos pins s1 σ H1 _ I1 q1
 rw[hs] at hA ⊢
 refine Calls.callWith_builtin (by show (false||(backTo cpos (starEach es X.env)).any (·.1))=false;rw[hplain] <;> rfl) (Calls.evalArgs_plain ?_)
 exact thn hA λus s2 ⟨vs,H2,I2,r2,q2⟩=>hm pins s2 σ H2 x vs v us Q I2 r1 r2 q2
end
end L2
namespace L2
open PySem PySem.Spec PyProof.Rows
def MtM(X:Cx)(id:String)(r:V->List V->Hp->VK->Prop):Prop:=
 ∀(pins:List (Addr×Obj)) (s:Shared) (σ:St) (H:Hp) (x:V) (xs:List V) (v:Value) (us:List Value) (Q:VK),Inv X pins σ H s->RelV x v->Vals xs us->r x xs H Q->
  wpAny (model X.prog X.w) X.A (call (.builtin id) (v::us)) (EP X pins σ Q) X.xe s
theorem Vals.one:∀{x:V} {us:List Value},Vals [x] us->∃u,us=[u]/\RelV x u
 | _,_,.cons r .nil=>⟨_,rfl,r⟩
theorem Vals.two:∀{x y:V} {us:List Value},Vals [x,y] us->∃u v,us=[u,v]/\RelV x u/\RelV y v
 | _,_,_,.cons r (.cons q .nil)=>⟨_,_,rfl,r,q⟩
theorem Vals.zero:∀{us:List Value},Vals [] us->us=[]
 | _,.nil=>rfl
theorem Vals.eraseIdx:∀{xs:List V} {us:List Value} (i:Nat),Vals xs us->Vals (xs.eraseIdx i) (us.eraseIdx i)
 | _,_,_,.nil=>.nil
 | _,_,0,.cons _ t=>t
 | _,_,i+1,.cons r t=>.cons r (Vals.eraseIdx i t)
theorem Vals.reverse{xs:List V}{us:List Value}(h:Vals xs us):Vals xs.reverse us.reverse:=by
 induction h with
 | nil=>exact .nil
 | cons r t ih=>rw[List.reverse_cons,List.reverse_cons];exact Vals.append ih (.cons r .nil)
section
variable {X : Cx} {pins : List (Addr × Obj)} {σ : St} {H : Hp} {s : Shared} {l b : Addr} {xs ys zs : List V}
theorem Inv.lset {its its':List Value} {n:Nat} {f:Array Value->Array Value} {t':Nat} (I:Inv X pins σ H s) (hH:H l=some (.lst xs))
 (e:s.heap.get? l=some {cls:=.type "list",data:=.seq its.toArray n}) (hf:f its.toArray=its'.toArray) (hv:Vals ys its') (hz:ys.length<=sizeLine):
 Inv X pins σ (upd H l (.lst ys)) {s with heap:=s.heap.update l (Obj.mapSeq f),toks:=t'}:=by
 have q:=PySem.IsL.update e f
 rw[hf] at q
 refine I.write (x:=l) (e:=l) (by rw[hH];exact trivial) (.inl rfl) (λb' u hb hu=>(Heap.get?_update_other s.heap (Obj.mapSeq f) (Ne.symm hb)).trans hu) ⟨_,q⟩ ?_
 exact⟨hz,its',_,hv,q⟩
theorem Inv.lnew{its:List Value}{t':Nat}(I:Inv X pins σ H s)(hv:Vals ys its)(hz:ys.length<=sizeLine):
 Inv X pins σ (upd H s.heap.objs.size (.lst ys)) {s with heap:=s.heap.push {cls:=.type "list",data:=.seq its.toArray},toks:=t'}:=
 I.laid (λ_ _ q=>Heap.get?_push_of_some _ q) (Nat.le_refl _) ⟨hz,its,0,hv,Heap.get?_push_size _ rfl⟩
theorem Inv.fresh(I:Inv X pins σ H s):H s.heap.objs.size=none:=I.hok.fresh (Nat.le_refl _)
theorem Inv.lstM(I:Inv X pins σ H s)(hH:H l=some (.lst xs)):xs.length<=sizeLine/\∃(its:List Value) (n:Nat),Vals xs its/\xs.length=its.length/\s.heap.get? l=some {cls:=.type "list",data:=.seq its.toArray n}:=by
 obtain⟨z,its,n,r,e⟩:=I.hok l _ hH
 exact⟨z,its,n,r,r.length,e⟩
end
section
variable {X : Cx}
def yT:V->List V->Hp->VK->Prop:=λx vs H Q=>∃l xs y,x=.ref l/\vs=[y]/\H l=some (.lst xs)/\xs.length<sizeLine/\Q .non (upd H l (.lst (xs++[y])))
theorem fF:MtM X "list.append" yT:=by
 intro pins s σ H x vs v us Q I rx rv h
 obtain⟨l,xs,y,rfl,rfl,hH,hz,q⟩:=h
 cases rx
 obtain⟨u,rfl,ru⟩:=rv.one
 obtain⟨z,its,n,r,hl,e⟩:=I.lstM hH
 refine call_meets F.slot_list_append ⟨_,e,rfl⟩ F.entry_list_append (F.args_list_append_2 _ _) (PySem.list_append l its.toArray n u (by rw[List.size_toArray];omega)) ⟨e, ?_⟩
 refine⟨.non,_,I.lset (its':=its++[u]) hH e (by simp) (r.append (.cons ru .nil)) ?_,rfl,q⟩
 rw[List.length_append,List.length_singleton]
 omega
end
section
variable {prog : Program} {w : World} {A : Around} {E : Value → Shared → Prop} {s : Shared}
end
section
variable {X : Cx}
end
end L2
namespace Att
open PySem PySem.W PySem.Calls PyProof.Rows
theorem sm{P:Params}{h:Heap}:∀(ns:List Int) (vs:List Value),WellAll P h vs (ns.map WData.int)->IntsAre vs ns:=by
 intro ns
 induction ns with
 | nil=>
  intro vs w
  rw[List.map_nil] at w
  cases w
  exact .nil
 | cons n ns ih=>
  intro vs w
  rw[List.map_cons] at w
  cases w with
  | cons a b=>
   cases a
   exact .cons _ _ (ih _ b)
theorem AG {l:OpenLaw} {n:Nat} (hn:l.most=some n) {P:Params} {h:Heap} {args:List WData} {vals:List Value}
 (hpre:l.row.toRowW.claim.pre args=true) (hwl:WellAll P h vals args):
 ∃a vs ns,vals=[Value.ref a]/\args=[WData.list (ns.map WData.int)]/\h.get? a=some {cls:=.type "list",data:=.seq vs.toArray}/\IntsAre vs ns/\ns.length<=n:=by
 have hsh:WShape.hasAll [] args [.list .int]=true:=(pre_splitW hpre).1
 have hc:l.pre.holds [] {args:=args}=true:=(pre_splitW hpre).2
 obtain⟨d,r,rfl,h1,h2⟩:=hasAllW_cons hsh
 obtain rfl:=hasAllW_nil h2
 obtain⟨xs,rfl,h3⟩:=hasW_list h1
 obtain⟨ns,rfl⟩:=items_int h3
 have hlen:ns.length<=n:=by
  unfold OpenLaw.pre at hc
  have h4:(WTm.not (.lt (.lit (.int (n:Int))) (.len (.arg 0)))).holds [] {args:=[.list (ns.map .int)]}=true:=by
   have h4:=(holds_andW hc).1
   rw[hn] at h4
   exact h4
  have h5:=condW_of h4 (w_not (w_lt w_lit (w_len_list (w_arg rfl))))
  rw[List.length_map] at h5
  refine Nat.le_of_not_lt λq=> ?_
  have q':(n:Int)<((ns.length:Nat):Int):=by omega
  first
   | (rw[decide_eq_true q'] at h5;exact absurd h5 (by decide))
   | (simp at h5;omega)
 cases hwl with
 | cons w1 w2=>
  cases w2
  cases w1 with
  | list ho hall=>exact⟨_,_,ns,rfl,rfl,ho,sm ns _ hall,hlen⟩
theorem AW(l:OpenLaw)(args:List WData):l.row.toRowW.claim.post args (.bool true) args=true:=
 postW_of (r:=l.row.toRowW) (X:=(true == true))
  (show WShape.has [] (.bool true) .bool=true by first | rfl | decide | simp[WShape.has,WShape.arms,WShape.armsAll])
  (show (WTm.eq .res (.lit (.bool true))).value [] {args:=args,res:=some (.bool true),after:=args}=some (.bool (true == true)) from w_eq_bool (w_res rfl) w_lit) rfl
theorem xY {l:OpenLaw} {n:Nat} {q:Program} {loose:List Str} {XP:(Str->Option Value)->Heap->Prop} {YP:World->Heap->Prop} {d:DefRec}
 (hn:l.most=some n) (hdf:d.params.defaults=[])
 (call:∀(w:World) (s₀ s₁:Shared) (mg mb:Str->Option Value) (fa:Addr) (o:Obj) (pm cd doc:Value) (a:Addr) (vs:List Value) (ns:List Int),
  Ground q loose [] XP w s₀ mg mb s₁.heap->YP w s₁.heap->
  s₁.heap.get? fa=some o->o.data=.func (docDef d.name d.params d.body d.scope pm cd doc)->s₁.heap.CodeRec cd d.name->mg d.name=some (.ref fa)->
  s₁.heap.get? a=some {cls:=.type "list",data:=.seq vs.toArray}->IntsAre vs ns->ns.length<=n->s₁.gens= #[]->
  codeAny (model l.prog w) callerA (.call (.ref fa) ⟨[.ref a],[]⟩) (λr s'=>r=.ok (.ret (.bool true))/\OldK s₁.heap s'.heap/\s'.os=s₁.os/\AllBare s'.gens) s₁):
 WalkO q loose XP YP l.row.toRowW d [] (λf vs=>PySem.call f vs):=by
 intro w s₀ s₁ mg mb G Y fa o pm cd doc dV kV ho hd hcd hD hmg hg args vals as hpre hlay hrd hwl hlo
 obtain rfl:dV=.none:=Dflts.none hD hdf
 obtain rfl:kV=.none:=Dflts.noKw hD
 obtain⟨a,vs,ns,rfl,rfl,hobj,hints,hlen⟩:=AG hn hpre hwl
 refine enter_call (codeAny_mono (call w s₀ s₁ mg mb fa o pm cd doc a vs ns G Y ho (fd_plain hd) hcd hmg hobj hints hlen hg) λr s' hq=> ?_)
 obtain⟨rfl,h2,h3,h4⟩:=hq
 exact⟨.inl ⟨.bool true,.bool true,[],rfl,λ_=>rfl,.bool true,AW l _,λ_=>⟨List.Pairwise.nil,λ_ hm=>(nomatch hm)⟩⟩,h2,h3,h4⟩
section
variable {prog : Program} {w : World} {A : Around} {E : Value → Shared → Prop} {s : Shared} {K : Frag}
end
end Att
namespace L2
open PySem PySem.Spec PyProof.Rows
theorem tY:∀{vs:List Value} {ns:List Int},IntsAre vs ns->Vals (ns.map V.int) vs
 | _,_,.nil=>.nil
 | _,_,.cons n t h=>.cons ⟨t,rfl⟩ (tY h)
def Ae(H:Hp):Prop:=∀b,H b=none\/∃o xs,H b=some (.frz o (.lst xs))
theorem BN {P:Program} {w:World} {K:PySem.W.Frag} {mg mb:Str->Option Value} {CX:CXT} {k:Nat} {fa a:Addr} {fd:FuncData} {x:Str} {sp:Sp} {s₁:Shared} {vs:List Value} {ns:List Int}
 (KX:K.In s₁.heap) (hns:s₁.heap.Ns mainGlobals mg) (hb:s₁.heap.Ns builtinsNs mb) (hbb:∀x:Str,x≠"__name__" ->mb x=bootBuiltins x) (hlim:s₁.heap.NoLimit) (hseer:s₁.heap.NoSeer) (hg:s₁.gens= #[])
 (ha:s₁.heap.get? a=some {cls:=.type "list",data:=.seq vs.toArray}) (hi:IntsAre vs ns) (hl:ns.length<=sizeLine) (hr:cG k callerA)
 (F:∀base:Heap,K.In base->base.Ns mainGlobals mg->d9 P w K mg base CX k fa fd [x] sp) (hbind:∀(s:Shared) (u:Value),BindsTo s fd ⟨[u],[]⟩ [(x,u)])
 (hsp:∀H:Hp,Ae H->SqL K H a (ns.map V.int)->sp [.ref a] H (λv _=>v=.bl true) λ_ _ _=>False)
 (hCX:∀H e s',CX [] H s₁ (λ_ _ _=>False) e s'->False):
 codeAny (model P w) callerA (.call (.ref fa) ⟨[.ref a],[]⟩) (λr s'=>r=.ok (.ret (.bool true))/\OldK s₁.heap s'.heap/\s'.os=s₁.os/\AllBare s'.gens) s₁:=by
 have rv:=tY hi
 have lenV:=hi.length
 have core:∀H:Hp,Ae H->SqL K H a (ns.map V.int)->HOk P w H s₁.heap->(∀b,H b≠none->b=a)->(H a≠none->K.lookup a=none)->
  codeAny (model P w) callerA (.call (.ref fa) ⟨[.ref a],[]⟩) (λr s'=>r=.ok (.ret (.bool true))/\OldK s₁.heap s'.heap/\s'.os=s₁.os/\AllBare s'.gens) s₁:=by
  intro H hO hS hok hA hK
  have base_of:∀{b:Addr} {o:Obj},s₁.heap.get? b=some o->H b=none->(m9 s₁.heap H).get? b=some o:=λe n=>B0 e n
  have noA:∀{b:Addr} {o:Obj} {es:Array DictEntry} {ep:Nat},s₁.heap.get? b=some o->o.data=.dict es ep->H b=none:=λ{b o es ep} e d=>by
   cases q:H b with
   | none=>rfl
   | some u=>
    have e':b=a:=hA b (by rw[q];simp)
    subst e'
    rw[ha] at e;cases e
    have d':Data.seq vs.toArray _=Data.dict es ep:=d
    cases d'
  have nsK:∀{b:Addr} {m:Str->Option Value},s₁.heap.Ns b m->(m9 s₁.heap H).Ns b m:=λ{b m} ⟨o,es,ep,e,d,r⟩=>⟨o,es,ep,base_of e (noA e d),d,r⟩
  have hKb:K.In (m9 s₁.heap H):=λb o e=>base_of (KX b o e) (by
   cases q:H b with
   | none=>rfl
   | some u=>
    have e':b=a:=hA b (by rw[q];simp)
    subst e'
    rw[hK (by rw[q];simp)] at e;cases e)
  have noM:∀{b:Addr} {o:Obj},s₁.heap.get? b=some o->o.cls=.type "module" ->H b=none:=λ{b o} e d=>by
   cases q:H b with
   | none=>rfl
   | some u=>
    have e':b=a:=hA b (by rw[q];simp)
    subst e'
    rw[ha] at e;cases e
    exact absurd (show Value.type "list" =Value.type "module" from d) (by decide)
  have hN:(m9 s₁.heap H).NoSeer:=⟨let ⟨mc,x,y⟩:=hseer.statics;⟨mc,nsK x,y⟩,let ⟨mc,x,y⟩:=hseer.mods;⟨mc,nsK x,y⟩,let ⟨mc,x,y⟩:=hseer.imp;⟨mc,nsK x,y⟩,let ⟨mg',bm,ob,x,y,z,u,v⟩:=hseer.main;⟨mg',bm,ob,nsK x,y,base_of z (noM z u),u,v⟩⟩
  have hM:Mod K mg (m9 s₁.heap H):=⟨hKb,nsK hns,⟨mb,nsK hb,hbb⟩,(let ⟨mc,h1,h2⟩:=hlim;⟨mc,nsK h1,h2⟩),hN⟩
  have e0:ko P w K mg (m9 s₁.heap H) callerA [] s₁ H:=⟨rfl,hM,λb o e=>Fc e,Nat.le_of_eq (Bn _ _),trivial,λb hb=>absurd (show b∈([]:List Addr) from hb) (by simp),hok,.of_eq hg⟩
  refine codeAny_mono ((F _ hKb (nsK hns)).run callerA [] s₁ H ⟨[.ref a],[]⟩ [.ref a] [.ref a] _ _ hr e0 (hbind s₁ (.ref a)) (.cons rfl .nil) (hsp H hO hS)) λr s' h=> ?_
  cases r with
  | error e=>exact(hCX H e s' h).elim
  | ok fl=>
   cases fl with
   | next=>exact False.elim h
   | brk=>exact False.elim h
   | cont=>exact False.elim h
   | ret u=>
    obtain⟨v,H',os,bare,un,hok',r',q⟩:=h
    have q':v=.bl true:=q
    subst q'
    obtain rfl:u=Value.bool true:=r'
    refine⟨rfl,OldK.of_keep λb o e=> ?_,os,bare⟩
    cases q:H b with
    | none=>exact un.keep b o e q (by intro z;exact absurd (show b∈([]:List Addr) from z) (by simp)) (by simp)
    | some u=>
     rcases hO b with z | ⟨ob,xs,z⟩
     ·rw[q] at z;cases z
     ·have z2:=un.frzs b ob _ z
      obtain⟨e1,_⟩:=hok b _ z
      obtain⟨e2,_⟩:=hok' b _ z2
      rw[e] at e1;cases e1
      exact e2
 cases hk:K.lookup a with
 | some o=>
  have e:=KX a o hk
  rw[ha] at e
  cases e
  refine core (λ_=>none) (λ_=>.inl rfl) (.inr ⟨_,vs.toArray,_,hk,rfl,rfl,rfl,by rw[List.size_toArray,lenV];exact hl,by simpa using rv⟩) (λb u z=>by have z':(none:Option HO)=some u:=z;cases z') (λb z=>absurd rfl z) λz=>absurd rfl z
 | none=>
  refine core (λb=>if b=a then some (.frz {cls:=.type "list",data:=.seq vs.toArray} (.lst (ns.map V.int))) else none) (λb=> ?_) (.inl (.inr ⟨{cls:=.type "list",data:=.seq vs.toArray},if_pos rfl⟩)) (λb u z=> ?_) (λb z=> ?_) λ_=>hk
  ·by_cases hb:b=a
   ·exact .inr ⟨_,_,if_pos hb⟩
   ·exact .inl (if_neg hb)
  ·by_cases hb:b=a
   ·have z':=(if_pos hb).symm.trans z
    cases z'
    subst hb
    exact⟨ha,by rw[List.length_map];exact hl,vs,_,rv,ha⟩
   ·have z':=(if_neg hb).symm.trans z
    cases z'
  ·by_cases hb:b=a
   ·exact hb
   ·exact absurd (if_neg hb) z
end L2
namespace L2
open PySem PySem.Spec PyProof.Rows
theorem DQ {l:PySem.W.OpenLaw} {n k:Nat} {q:Program} {loose:List Str} {XP:(Str->Option Value)->Heap->Prop} {YP:World->Heap->Prop} {d:DefRec} {K:Params->PySem.W.Frag} {CX:World->CXT} {sp:World->Sp} {x:Str}
 (hn:l.most=some n) (hn2:n<=sizeLine) (hdf:d.params.defaults=[]) (hr:cG k callerA) (hi:importsNone q=true)
 (hY:∀(w:World) (h:Heap),YP w h->(K w.params).In h)
 (F:∀(w:World) (mg:Str->Option Value) (fa:Addr) (h:Heap),(K w.params).In h->h.Ns mainGlobals mg->mg d.name=some (.ref fa)->
  ∃fd:FuncData,(∀(s:Shared) (u:Value),BindsTo s fd ⟨[u],[]⟩ [(x,u)])/\
   ∀base:Heap,(K w.params).In base->base.Ns mainGlobals mg->d9 l.prog w (K w.params) mg base (CX w) k fa fd [x] (sp w))
 (hsp:∀(w:World) (H:Hp) (a:Addr) (ns:List Int),ns.length<=n->Ae H->SqL (K w.params) H a (ns.map V.int)->sp w [.ref a] H (λv _=>v=.bl true) λ_ _ _=>False)
 (hCX:∀(w:World) (H:Hp) (s:Shared) (e:Value) (s':Shared),CX w [] H s (λ_ _ _=>False) e s'->False):
 PySem.W.WalkO q loose XP YP l.row.toRowW d [] (λf vs=>PySem.call f vs):=by
 refine Att.xY hn hdf λw s₀ s₁ mg mb fa o pm cd doc a vs ns G Y ho hd hcd hmg hobj hints hlen hg=> ?_
 have KX:=hY w _ Y
 obtain⟨fd,hb,hF⟩:=F w mg fa _ KX G.T.g hmg
 exact BN KX G.T.g G.T.b G.T.builtins G.T.nolimit (G.T.seer hi) hg hobj hints (Nat.le_trans hlen hn2) hr hF hb (λH hO hS=>hsp w H a ns hlen hO hS) λH e s'=>hCX w H s₁ e s'
end L2
namespace L2
open PySem PySem.Spec PyProof.Rows
def inClass(s:Stmt)(j:Nat):Stmt:=match s with
 | .ClassDef _ _ _ body _ _ _ _ _ _ _=>body.getD j (.Pass ⟨0,0,0,0⟩)
 | _=>.Pass ⟨0,0,0,0⟩
def bz(s:Stmt):Arguments:=match s with
 | .FunctionDef _ a _ _ _ _ _ _ _ _=>a
 | _=>{posonlyargs:=[],args:=[],vararg:=none,kwonlyargs:=[],kw_defaults:=[],kwarg:=none,defaults:=[]}
def ba(s:Stmt):List Stmt:=match s with
 | .FunctionDef _ _ b _ _ _ _ _ _ _=>b
 | _=>[]
def aE(s:Stmt):Scope:=match s with
 | .FunctionDef _ _ _ _ _ _ sc _ _ _=>sc
 | _=>{kind:=.function,names:=[],isGenerator:=false,isCoroutine:=false}
abbrev CX0:CXT:=λ_ _ _ _ _ _=>False
abbrev E0:XK:=λ_ _ _=>False
structure Fun(K:PySem.W.Frag)(x qual:Str)(st:Stmt)(f:Addr)(fd:FuncData):Prop where
 ex:∃(oc:Value) (od:Option Addr) (kV doc pm:Value) (an:Option Addr) (cdv ct:Value) (osl:Array (Option Value)),
  fd=PySem.W.fnOf x qual (bz st) (ba st) (aE st) .none kV doc pm an cdv ct/\K.lookup f=some ⟨oc,od,.func fd,osl⟩/\PySem.W.codeIn K cdv qual=true
 kp:PySem.W.keepIn K (.ref f)=true
section
variable {P : Program} {w : World} {K : PySem.W.Frag} {mg : Str → Option Value} {base : Heap}
theorem Fun.ok {x qual:Str} {st:Stmt} {f:Addr} {fd:FuncData} {N ps:List Str} {k:Nat} {sp:Sp} (F:Fun K x qual st f fd) (S:bc N ps (aE st)) (len:∀vs H Q E,sp vs H Q E->vs.length=ps.length)
 (hbody:∀(cdv:Value) (A:Around) (outer:List Env) (s:Shared) (H:Hp) (vs:List V) (Q:VK) (E:XK),cG k (A.deeper (envOfC qual (aE st) s.heap.objs.size f cdv))->sp vs H Q E->
  ∃t,PSs (kx CX0 P w K mg base N qual (aE st) f cdv A outer s H E).nox (ba st) t/\t {nx:=λ_ H'=>Q .non H',rt:=Q} (start N vs) H):d9 P w K mg base CX0 (k+1) f fd ps sp:=by
 obtain⟨oc,od,kV,doc,pm,an,cdv,ct,osl,rfl,lk,hcd⟩:=F.ex
 refine DB lk hcd S len λA outer s H vs Q E hr hsp=> ?_
 obtain⟨t,h,q⟩:=hbody cdv A outer s H vs Q E hr hsp
 exact⟨t,h.nox,q⟩
theorem Fun.binds {x qual:Str} {st:Stmt} {f:Addr} {fd:FuncData} {ps:List Str} (F:Fun K x qual st f fd)
 (h:∀(kV doc pm:Value) (an:Option Addr) (cdv ct:Value) (us:List Value),us.length=ps.length->bindArgs (PySem.W.fnOf x qual (bz st) (ba st) (aE st) .none kV doc pm an cdv ct) ⟨us,[]⟩=pure (ps.zip us)):Binds K fd ps []:=by
 obtain⟨oc,od,kV,doc,pm,an,cdv,ct,osl,rfl,lk,hcd⟩:=F.ex
 exact .all (h kV doc pm an cdv ct)
theorem bQ {x qual:Str} {st:Stmt} {f:Addr} {oc:Value} {od an:Option Addr} {osl:Array (Option Value)} {kV doc pm cdv ct:Value} (l:K.lookup f=some ⟨oc,od,.func (PySem.W.fnOf x qual (bz st) (ba st) (aE st) .none kV doc pm an cdv ct),osl⟩)
 (c:PySem.W.codeIn K cdv qual=true) (k:PySem.W.keepIn K (.ref f)=true):Fun K x qual st f (PySem.W.fnOf x qual (bz st) (ba st) (aE st) .none kV doc pm an cdv ct):=⟨⟨oc,od,kV,doc,pm,an,cdv,ct,osl,rfl,l,c⟩,k⟩
end
section
variable {X : Cx}
theorem pv (i:Nat) {x:Str} {pos:Pos} (hN:X.N[i]? =some x:=by rfl) (hv:Vis X.env.scope x:=by first | exact Or.inl rfl | exact Or.inr (Or.inl rfl) | exact Or.inr (Or.inr rfl)) (hd:(x == ("__debug__" :Str))=false:=by decide)
 (hcd:(x == ("__classdict__" :Str))=false:=by decide):PE X (.Name x pos) (Ca i):=FV hN hv hd hcd
end
theorem sP{A B:Prop}(h:B):if false=true then A else B:=by
 rw[if_neg Bool.false_ne_true]
 exact h
theorem tH{A B:Prop}(h:A):if true=true then A else B:=by
 rw[if_pos rfl]
 exact h
def bE(H H':Hp):Prop:=∀b o,H b=some o->H' b=some o
theorem bE.refl(H:Hp):bE H H:=λ_ _ h=>h
theorem bE.trans{H H1 H2:Hp}(a:bE H H1)(b:bE H1 H2):bE H H2:=λc o h=>b c o (a c o h)
theorem bE.free{H H':Hp}(e:bE H H'){l:Addr}(h:H' l=Option.none):H l=Option.none:=by
 cases q:H l with
 | none=>rfl
 | some o=>
  rw[e l o q] at h
  cases h
theorem bE.seq{K:PySem.W.Frag}{H H':Hp}{a:Addr}{xs:List V}(e:bE H H')(h:SqL K H a xs):SqL K H' a xs:=by
 rcases h with(h | ⟨o,h⟩) | h
 ·exact .inl (.inl (e _ _ h))
 ·exact .inl (.inr ⟨o,e _ _ h⟩)
 ·exact .inr h
end L2
set_option maxRecDepth 100000
set_option maxHeartbeats 4000000
namespace L2
open PySem PySem.Spec PyProof.Rows
def dr(env:Env):List (Str×NameKind)->List (Str×Addr)->List (Str×Addr)
 | [],cs=>cs
 | (n,k)::r,cs=>if k == .free then dr env r ((n,(env.cells.lookup n).getD 0)::cs) else dr env r cs
theorem sE{env:Env}:∀(names:List (Str×NameKind)) (cs:List (Str×Addr)),(∀n,(n,NameKind.free)∈names->∃c,env.cells.lookup n=some c)->
 (forIn names cs λ(x:Str×NameKind) (r:List (Str×Addr))=>(if (x.2 == NameKind.free)=true then do
  let a <- cellOf env x.1
  pure (ForInStep.yield ((x.1,a)::r)) else pure (ForInStep.yield r):Sem (ForInStep (List (Str×Addr)))))=pure (dr env names cs)
 | [],cs,_=>rfl
 | (n,k)::r,cs,h=>by
  rw[List.forIn_cons]
  by_cases hk:(k == NameKind.free)=true
  ·have hk':k=.free:=by simpa using hk
   subst hk'
   obtain⟨c,hc⟩:=h n List.mem_cons_self
   simp only[hk,if_true,dr,cellOf,hc,pure_bind,Option.getD_some]
   exact sE r _ λm hm=>h m (List.mem_cons_of_mem _ hm)
  ·simp only[hk,if_false,dr,pure_bind]
   exact sE r cs λm hm=>h m (List.mem_cons_of_mem _ hm)
theorem uX{scope:Scope}{env:Env}(h:∀n,(n,NameKind.free)∈scope.names->∃c,env.cells.lookup n=some c):closureFor scope env=pure (dr env scope.names []):=by
 have:=sE scope.names [] h
 simp only[closureFor]
 rw[<- this]
 exact bind_pure _
theorem oC{env:Env}:∀(names:List (Str×NameKind)) (cs:List (Str×Addr)),(∀n,(n,NameKind.free)∈names->∃c,env.cells.lookup n=some c)->
 (∀x c,cs.lookup x=some c->env.cells.lookup x=some c)->∀x c,(dr env names cs).lookup x=some c->env.cells.lookup x=some c
 | [],cs,_,h,x,c,e=>h x c e
 | (n,k)::r,cs,hf,h,x,c,e=>by
  unfold dr at e
  by_cases hk:(k == NameKind.free)=true
  ·rw[if_pos hk] at e
   have hk':k=.free:=by simpa using hk
   subst hk'
   refine oC r _ (λm hm=>hf m (List.mem_cons_of_mem _ hm)) (λy d q=> ?_) x c e
   obtain⟨c',hc'⟩:=hf n List.mem_cons_self
   rw[List.lookup_cons] at q
   split at q
   ·rename_i hy
    have:y=n:=by simpa using hy
    subst this
    rw[hc',Option.getD_some] at q
    rw[hc'];exact q
   ·exact h y d q
  ·rw[if_neg hk] at e
   exact oC r cs (λm hm=>hf m (List.mem_cons_of_mem _ hm)) h x c e
theorem nh{env:Env}:∀(names:List (Str×NameKind)) (cs:List (Str×Addr)) (x:Str),(∃c,cs.lookup x=some c)->∃c,(dr env names cs).lookup x=some c
 | [],cs,_,h=>h
 | (n,k)::r,cs,x,h=>by
  unfold dr
  by_cases hk:(k == NameKind.free)=true
  ·rw[if_pos hk]
   refine nh r _ x ?_
   rw[List.lookup_cons]
   split
   ·exact⟨_,rfl⟩
   ·exact h
  ·rw[if_neg hk]
   exact nh r cs x h
theorem lL{env:Env}:∀(names:List (Str×NameKind)) (cs:List (Str×Addr)) (x:Str),(x,NameKind.free)∈names->∃c,(dr env names cs).lookup x=some c
 | (n,k)::r,cs,x,h=>by
  unfold dr
  rcases List.mem_cons.mp h with e | h
  ·cases e
   rw[if_pos (by rfl)]
   refine nh r _ n ?_
   exact⟨_,by rw[List.lookup_cons];simp;rfl⟩
  ·by_cases hk:(k == NameKind.free)=true
   ·rw[if_pos hk];exact lL r _ x h
   ·rw[if_neg hk];exact lL r cs x h
theorem eA:∀(names:List (Str×NameKind)) (n:Nat) (acc:List (Str×Addr)),cellsFrom n names acc=cellsFrom n names []++acc
 | [],_,_=>rfl
 | (x,k)::r,n,acc=>by
  unfold cellsFrom
  split
  ·rw[eA r (n+1) ((x,n)::acc),eA r (n+1) [(x,n)],List.append_assoc];rfl
  ·exact eA r n acc
theorem lr:∀(names:List (Str×NameKind)) (n:Nat) {x:Str} {c:Addr},(x,c)∈cellsFrom n names []->(x,NameKind.cell)∈names
 | [],_,_,_,h=>nomatch h
 | (y,k)::r,n,x,c,h=>by
  unfold cellsFrom at h
  split at h
  ·rename_i hk
   have hk':k=.cell:=by simpa using hk
   rw[eA] at h
   rcases List.mem_append.mp h with q | q
   ·exact List.mem_cons_of_mem _ (lr r _ q)
   ·cases List.mem_singleton.mp q
    rw[hk']
    exact List.mem_cons_self
  ·exact List.mem_cons_of_mem _ (lr r _ h)
theorem zf{l m:List (Str×Addr)}{x:Str}{c:Addr}(h:(l++m).lookup x=some c):l.lookup x=some c\/(l.lookup x=none/\m.lookup x=some c):=by
 rw[List.lookup_append] at h
 cases e:l.lookup x with
 | none=>rw[e] at h;exact .inr ⟨rfl,h⟩
 | some d=>rw[e] at h;exact .inl h
theorem oZ{l m:List (Str×Addr)}{x:Str}(h:l.lookup x=none):(l++m).lookup x=m.lookup x:=by rw[List.lookup_append,h];rfl
theorem xk{l m:List (Str×Addr)}{x:Str}(h:∃c,m.lookup x=some c):∃c,(l++m).lookup x=some c:=by
 cases e:l.lookup x with
 | none=>rw[oZ e];exact h
 | some c=>exact⟨c,by rw[List.lookup_append,e];rfl⟩
theorem BL(h:Heap)(names:List (Str×NameKind)):CellsOk (pushCells (h.push {cls:=.type "dict",data:=.dict #[]}) names) (h.objs.size+1) (cellsFrom (h.objs.size+1) names []):=by
 have:=cellsFrom_ok names (h.push {cls:=.type "dict",data:=.dict #[]}) (h.objs.size+1) [] ⟨λ_ _ hm=>(nomatch hm),List.Pairwise.nil⟩ (by rw[Heap.size_push];exact Nat.le_refl _)
 rwa [Heap.size_push] at this
theorem xX {M:Model} {A:Around} {E:Value->Shared->Prop} {s:Shared} {scope:Scope} {globals:Addr} {closure:List (Str×Addr)} {qual:Str} {func:Option Addr} {code:Value} {outer:Env} {builtins:Addr} {Q:Env->Shared->Prop}
 (hQ:Q {scope:=scope,locals:=s.heap.objs.size,globals:=globals,cells:=cellsFrom (s.heap.objs.size+1) scope.names closure,qual:=qual,func:=func,code:=outer.code,frame:=outer.frame,builtins:=outer.builtins} {s with heap:=pushCells (s.heap.push {cls:=.type "dict",data:=.dict #[]}) scope.names}):
 wpAny M A (newFunctionEnv scope globals closure [] qual func code (some outer) builtins) Q E s:=by
 simp only[newFunctionEnv,Option.isSome_some,if_true]
 refine wpAny_bind (wpAny_alloc ?_)
 refine wpAny_bind (wpAny_layCells _ (λname kind cells=>by cases hkc:kind == NameKind.cell <;> simp[hkc]) _ _ _ _ ?_)
 rw[show ({s with heap:=s.heap.push {cls:=.type "dict",data:=.dict #[]}}:Shared).heap.objs.size=s.heap.objs.size+1 from Heap.size_push ..]
 refine wpAny_bind ?_
 rw[List.forIn_nil]
 exact wpAny_pure (wpAny_pure hQ)
def cxC(X:Cx)(scope:Scope)(N':List Str)(fp:List Addr)(s:Shared)(H:Hp):Cx where
 prog:=X.prog
 w:=X.w
 K:=X.K
 mg:=X.mg
 base:=X.base
 A:=X.A
 N:=N'
 s₀:=s
 H₀:=H
 env:=compEnvC scope (cellsFrom (s.heap.objs.size+1) scope.names (dr X.env scope.names [])) s.heap.objs.size X.env
 outer:=X.stack
 stack:=X.stack
 ex:=fp
 calm:=X.calm
 fn:=λx=>scope.names.lookup x == some .cell
 pn:=[]
 xe:=λ_ _=>False
def kS(X:Cx)(scope:Scope):List Str->List Nat->Prop
 | [],[]=>True
 | x::xs,j::js=>X.N[j]? =some x/\(X.env.scope.names.lookup x=some .cell\/X.env.scope.names.lookup x=some .free)/\scope.names.lookup x=some .free/\kS X scope xs js
 | _,_=>False
theorem kS.get{X:Cx}{scope:Scope}:∀{xs:List Str} {js:List Nat} {i:Nat} {x:Str},kS X scope xs js->xs[i]? =some x->
 ∃j,js[i]? =some j/\X.N[j]? =some x/\(X.env.scope.names.lookup x=some .cell\/X.env.scope.names.lookup x=some .free)/\scope.names.lookup x=some .free
 | [],_,_,_,_,e=>by simp at e
 | _::_,[],_,_,h,_=>h.elim
 | y::ys,j::js,0,x,h,e=>by
  simp at e;subst e
  exact⟨j,rfl,h.1,h.2.1,h.2.2.1⟩
 | y::ys,j::js,i+1,x,h,e=>by
  obtain⟨j',e1,r⟩:=kS.get (i:=i) (x:=x) h.2.2.2 (by simpa using e)
  exact⟨j',by simpa using e1,r⟩
theorem kS.length{X:Cx}{scope:Scope}:∀{xs:List Str} {js:List Nat},kS X scope xs js->xs.length=js.length
 | [],[],_=>rfl
 | [],_::_,h=>h.elim
 | _::_,[],h=>h.elim
 | _::_,_::_,h=>by rw[List.length_cons,List.length_cons,kS.length h.2.2.2]
def lE(m:Nat)(caps:List Nat)(σ:St):St:=List.replicate m none++caps.map λi=>(σ[i]?).getD none
theorem lookup_mem{α β:Type}[BEq α][LawfulBEq α]:∀{l:List (α×β)} {x:α} {b:β},l.lookup x=some b->(x,b)∈l
 | [],_,_,h=>by simp at h
 | (a,c)::r,x,b,h=>by
  rw[List.lookup_cons] at h
  split at h
  ·rename_i q
   have:x=a:=by simpa using q
   subst this
   cases h
   exact List.mem_cons_self
  ·exact List.mem_cons_of_mem _ (lookup_mem h)
section
variable {X : Cx}
theorem gz{scope:Scope}{env:Env}:∀{names:List (Str×NameKind)} {x:Str} {k:NameKind},(names.map λ(n,k)=>if (k == NameKind.free&&env.scope.kind == .function&&env.kindOf n == some .cell) then (n,NameKind.cell) else (n,k)).lookup x=some k->
 ∃k',names.lookup x=some k'/\(k'=k\/(k'=.free/\k=.cell))
 | [],_,_,h=>by simp at h
 | (n,k0)::r,x,k,h=>by
  have h':List.lookup x ((if (k0 == NameKind.free&&env.scope.kind == .function&&env.kindOf n == some .cell)=true then (n,NameKind.cell) else (n,k0))::r.map _)=some k:=h
  by_cases hc:(k0 == NameKind.free&&env.scope.kind == .function&&env.kindOf n == some .cell)=true
  ·rw[if_pos hc,List.lookup_cons] at h'
   rw[List.lookup_cons]
   split at h'
   ·rename_i q
    cases h'
    have hk:k0=.free:=by simp only[Bool.and_eq_true] at hc;simpa using hc.1.1
    exact⟨k0,rfl,.inr ⟨hk,rfl⟩⟩
   ·rename_i q
    exact gz (scope:=scope) h'
  ·rw[if_neg hc,List.lookup_cons] at h'
   rw[List.lookup_cons]
   split at h'
   ·rename_i q
    cases h'
    exact⟨k0,rfl,.inl rfl⟩
   ·rename_i q
    exact gz (scope:=scope) h'
structure mw(X:Cx)(scope:Scope)(own cap:List Str)(caps:List Nat):Prop where
 kind:scope.kind=.function
 cell:∀y∈scope.names,y.2=.cell->scope.names.lookup y.1=some .cell
 nm:∀y∈scope.names,y.2=.local->scope.names.lookup y.1=some .local
 fr:∀y∈scope.names,y.2=.free->y.1∈cap
 caps:kS X scope cap caps
 nd:(own++cap).Nodup
theorem mw.out{X:Cx}{scope:Scope}{own cap:List Str}{caps:List Nat}(S:mw X scope own cap caps){n:Str}(h:(n,NameKind.free)∈scope.names):X.env.scope.names.lookup n=some .cell\/X.env.scope.names.lookup n=some .free:=by
 obtain⟨i,hi,e⟩:=List.getElem_of_mem (S.fr _ h rfl)
 obtain⟨_,_,_,k,_⟩:=S.caps.get (i:=i) (x:=n) (by rw[List.getElem?_eq_getElem hi,e])
 exact k
theorem C0 {scope:Scope} {own cap:List Str} {caps:List Nat} {pins:List (Addr×Obj)} {σ:St} {H:Hp} {s:Shared} {fp:List Addr} {h1:Heap} {tk:Nat} (Sc:mw X scope own cap caps) (I:Inv X pins σ H s)
 (hfp:∀b∈fp,kj X pins H b) (hob:∀b∈fp,∃o,s.heap.get? b=some o) (hns:h1.Ns s.heap.objs.size λ_=>none)
 (hk:∀b o,s.heap.get? b=some o->h1.get? b=some o) (hnew:CellsOk h1 (s.heap.objs.size+1) (cellsFrom (s.heap.objs.size+1) scope.names [])):
 Inv (cxC X scope (own++cap) fp s H) [] (lE own.length caps σ) H {s with heap:=h1,toks:=tk}:=by
 have hcl:∀n,(n,NameKind.free)∈scope.names->∃c,X.env.cells.lookup n=some c:=λn hn=>I.ok.has n (Sc.out hn)
 have sub:∀x c,(dr X.env scope.names []).lookup x=some c->X.env.cells.lookup x=some c:=oC scope.names [] hcl (λx c e=>by simp at e)
 have fresh:H s.heap.objs.size=none:=I.hok.fresh (Nat.le_refl _)
 have two:∀x c,(cellsFrom (s.heap.objs.size+1) scope.names (dr X.env scope.names [])).lookup x=some c->((x,c)∈cellsFrom (s.heap.objs.size+1) scope.names []/\s.heap.objs.size<c)\/((cellsFrom (s.heap.objs.size+1) scope.names []).lookup x=none/\X.env.cells.lookup x=some c/\c<s.heap.objs.size):=λx c e=>by
  rw[eA] at e
  rcases zf e with q | ⟨q0,q⟩
  ·exact .inl ⟨mem_of_lookup q,(hnew.empty x c (mem_of_lookup q)).2⟩
  ·have q':=sub x c q
   obtain⟨v,o,ho,_⟩:=I.cell x c q'
   exact .inr ⟨q0,q',Heap.lt_size ho⟩
 have notOwn:∀x,scope.names.lookup x=some .free->(cellsFrom (s.heap.objs.size+1) scope.names []).lookup x=none:=λx hx=>by
  cases e:(cellsFrom (s.heap.objs.size+1) scope.names []).lookup x with
  | none=>rfl
  | some c=>
   have:=Sc.cell _ (lr _ _ (mem_of_lookup e)) rfl
   dsimp only at this
   rw[hx] at this
   cases this
 refine⟨⟨I.ok.mod,Sc.kind,I.ok.glob,I.ok.blt,Nat.le_refl _,λx y c e1 e2=> ?_,λx hx=> ?_,λx c h e=> ?_,I.ok.hd,I.ok.frames,.inl rfl,λb hb=>⟨?_,λx c e=> ?_⟩,I.bs,Nat.le_trans I.ok.bsz I.sz,λb o e hb=> ?_,λb hb hs=> ?_,I.stack,I.stkFree⟩,
  rfl,I.bare,Un.kept hk,⟨_,hns,λi x v e1 e2 e3=> ?_⟩,λx c e=> ?_,fresh,λx c e=> ?_,λp hp=>absurd (show p∈([]:List (Addr×Obj)) from hp) (by simp),I.hok.kept hk, ?_⟩
 ·rcases two x c e1 with⟨p1,p2⟩ | ⟨_,p1,p2⟩ <;> rcases two y c e2 with⟨q1,q2⟩ | ⟨_,q1,q2⟩
  ·exact name_of_addr hnew.apart p1 q1
  ·exact absurd p2 (Nat.not_lt.mpr (Nat.le_of_lt q2))
  ·exact absurd q2 (Nat.not_lt.mpr (Nat.le_of_lt p2))
  ·exact I.ok.inj x y c p1 q1
 ·have hx':(relabel scope X.env).names.lookup x=some .cell\/(relabel scope X.env).names.lookup x=some .free:=hx
  have:(x,NameKind.free)∈scope.names\/scope.names.lookup x=some .cell:=by
   rcases hx' with q | q
   ·obtain⟨k',e1,e2⟩:=gz (scope:=scope) q
    rcases e2 with rfl | ⟨rfl,_⟩
    ·exact .inr e1
    ·exact .inl (lookup_mem e1)
   ·obtain⟨k',e1,e2⟩:=gz (scope:=scope) q
    rcases e2 with rfl | ⟨rfl,z⟩
    ·exact .inl (lookup_mem e1)
    ·cases z
  rcases this with q | q
  ·show ∃c,(cellsFrom (s.heap.objs.size+1) scope.names (dr X.env scope.names [])).lookup x=some c
   rw[eA]
   exact xk (lL scope.names [] x q)
  ·exact Option.isSome_iff_exists.mp (PySem.W.cellsFrom_some scope.names _ _ (.inl q))
 ·have h':scope.names.lookup x=some .cell:=by
   have:(scope.names.lookup x == some NameKind.cell)=true:=h
   simpa using this
  rcases two x c e with⟨_,p⟩ | ⟨p,_⟩
  ·exact Nat.le_of_lt p
  ·have:=PySem.W.cellsFrom_some scope.names (s.heap.objs.size+1) [] (.inl h')
   rw[p] at this
   cases this
 ·obtain⟨o,ho⟩:=hob b hb
  exact Nat.ne_of_lt (Heap.lt_size ho)
 ·rcases two x c e with⟨_,p⟩ | ⟨_,p,_⟩
  ·obtain⟨o,ho⟩:=hob b hb
   exact λz=>absurd (Heap.lt_size ho) (Nat.not_lt.mpr (Nat.le_of_lt (z▸p)))
  ·exact(hfp b hb).2.2.2.2.1 x c p
 ·rcases(hfp b hb).2.2.2.1 with z | z
  ·exact I.ok.noex b o e z
  ·exact absurd (Nat.lt_of_lt_of_le (Heap.lt_size e) (Nat.le_trans I.ok.bsz z)) (Nat.lt_irrefl _)
 ·rcases List.mem_cons.mp (I.stkSub b hs) with z | z
  ·exact(hfp b hb).2.1 z
  ·exact(hfp b hb).2.2.1 z
 ·have e1':(own++cap)[i]? =some x:=e1
  have hi:own.length<=i:=by
   by_cases q:i<own.length
   ·unfold lE at e2
    rw[List.getElem?_append_left (by simpa using q),List.getElem?_replicate] at e2
    split at e2 <;> cases e2
   ·omega
  rw[List.getElem?_append_right hi] at e1'
  obtain⟨j,hj,hN,hkd,hfr⟩:=Sc.caps.get e1'
  unfold lE at e2
  rw[List.getElem?_append_right (by simpa using hi)] at e2
  simp only[List.length_replicate,List.getElem?_map,hj,Option.map_some,Option.some.injEq] at e2
  have e2':σ[j]? =some (some v):=by
   cases q:σ[j]? with
   | none=>rw[q] at e2;simp at e2
   | some ov=>rw[q] at e2;simp at e2;rw[e2]
  obtain⟨m,hm,hl⟩:=I.loc
  obtain⟨u,ru,lk⟩:=hl j x v hN e2' (hkd.elim (λz=>.inr (.inl z)) λz=>.inr (.inr z))
  refine⟨u,ru,.inr ⟨?_, ?_⟩⟩
  ·rcases e3 with q | q | q
   ·obtain⟨k',w1,w2⟩:=gz (scope:=scope) (show (relabel scope X.env).names.lookup x=some .local from q)
    rw[hfr] at w1
    cases w1
    rcases w2 with w | ⟨_,w⟩ <;> cases w
   ·exact .inl q
   ·exact .inr q
  ·rcases lk with⟨z,_⟩ | ⟨_,c,ec,hc⟩
   ·have z':X.env.scope.names.lookup x=some .local:=z
    rcases hkd with q | q <;> (rw[q] at z';cases z')
   ·obtain⟨c',hc'⟩:=lL (env:=X.env) scope.names [] x (lookup_mem hfr)
    have:=sub x c' hc'
    rw[ec] at this
    cases this
    obtain⟨oc,h1',h2'⟩:=hc
    refine⟨c, ?_,oc,hk _ _ h1',h2'⟩
    show (cellsFrom (s.heap.objs.size+1) scope.names (dr X.env scope.names [])).lookup x=some c
    rw[eA,oZ (notOwn x hfr)]
    exact hc'
 ·rcases two x c e with⟨p,_⟩ | ⟨_,p,_⟩
  ·exact⟨none,(hnew.empty x c p).1⟩
  ·obtain⟨v,oc,h1',h2'⟩:=I.cell x c p
   exact⟨v,oc,hk _ _ h1',h2'⟩
 ·rcases two x c e with⟨_,p⟩ | ⟨_,p,_⟩
  ·exact I.hok.fresh (Nat.le_of_lt p)
  ·exact I.freeC x c p
 ·unfold lE
  have:=Sc.caps.length
  simp[cxC,this]
theorem Au {prog:Program} {w:World} {A:Around} {R:Result->Shared->Prop} {s:Shared} {elt target iter:Expr} {ifs:List Expr} {scope:Scope} {pos:Pos} {it acc:Value} {env:Env} (I:Nat->Shared->Prop)
 (turn:∀n s,I n s->wpAny (model prog w) A (pyNext it) (λr s₁=>match r with
  | none=>R (.ok .next) s₁
  | some v=>wpAny (model prog w) A (letOwnedTupleGo target it v) (λ_ s₁'=>wpAny (model prog w) A (assign target env v) (λ_ s₂=>
   wpAny (model prog w) A (forIn ifs true λc r=>if r=true then do let ok <- isTrue c env (eval c env);pure (ForInStep.yield ok) else pure (ForInStep.yield r)) (λok s₃=>
    if ok=true then wpAny (model prog w) A (eval elt env) (λx s₄=>
     wpAny (model prog w) A (call (.builtin "list.append") [acc,x]) (λ_ s₅=>∃m,m<n/\I m s₅) (λ_ _=>False) s₄) (λ_ _=>False) s₃
    else ∃m,m<n/\I m s₃) (λ_ _=>False) s₂) (λ_ _=>False) s₁') (λ_ _=>False) s₁) (λ_ _=>False) s)
 (n:Nat) (h:I n s):
 codeAny (model prog w) A (.compLoop (.ListComp elt [⟨target,iter,ifs,0⟩] scope pos) 0 it acc env) R s:=by
 refine codeAny_loop rfl I (λn s hI=> ?_) n h
 show wpAny _ A ((compTurn (.ListComp elt [⟨target,iter,ifs,0⟩] scope pos) 0 it acc env).onRaise (λx=>do noteFrame x env;theTreesLotGoes x)) _ _ s
 refine wpAny_noted ?_
 rw[compTurn_list]
 refine wpAny_bind (wpAny_standAt (wpAny_bind (wpAny_mono (turn n s hI) (λr s₁ h₁=> ?_) λ_ _ h'=>h'.elim)))
 cases r with
 | none=>exact wpAny_pure h₁
 | some v=>
  refine wpAny_bind (wpAny_mono h₁ (λ_ s₁' h₁'=>wpAny_bind (wpAny_mono h₁' (λ_ s₂ h₂=>wpAny_bind (wpAny_mono h₂ (λok s₃ h₃=> ?_) λ_ _ h'=>h'.elim)) λ_ _ h'=>h'.elim)) λ_ _ h'=>h'.elim)
  cases ok with
  | false=>exact wpAny_pure ⟨rfl,h₃⟩
  | true=>
   exact wpAny_bind (wpAny_bind (wpAny_mono h₃ (λx s₄ h₄=>wpAny_bind (wpAny_mono h₄ (λ_ s₅ h₅=>wpAny_pure (wpAny_pure ⟨rfl,h₅⟩)) λ_ _ h'=>h'.elim)) λ_ _ h'=>h'.elim))
def PTs(X:Cx)(ifs:List Expr)(t:TT):Prop:=
 ∀(pins:List (Addr×Obj)) (s:Shared) (σ:St) (H:Hp) (Q:Bool->Hp->Prop),Inv X pins σ H s->t σ H Q->
  wpAny (model X.prog X.w) X.A (forIn ifs true λc r=>if r=true then do let ok <- isTrue c X.env (eval c X.env);pure (ForInStep.yield ok) else pure (ForInStep.yield r)) (TP X pins σ Q) X.xe s
def Dt:TT:=λ_ H Q=>Q true H
theorem dm:PTs X [] Dt:=λ_ _ _ H _ I h=>wpAny_tests_nil ⟨H,I,h⟩
theorem D4{c:Expr}{t:TT}(h:PT X c t):PTs X [c] t:=λpins s σ H Q I q=>wpAny_tests_one (h pins s σ H Q I q)
def rO(m:Nat)(caps:List Nat)(wi:TI)(g:TG)(tc:TT)(te:TE):TE:=λσ H Q=>wi σ H λJ H1=>∀p,H1 p=none->
 ∃W:Nat->Nat->List V->St->Hp->Prop,(∃k,W 0 k [] (lE m caps σ) (upd H1 p (.lst [])))/\∀i k acc σ' H',W i k acc σ' H'->
  (J.stop i H'/\H' p=some (.lst acc)/\Q (.ref p) H')\/(J.go i H'/\∀x H2,J.yld i H' x H2->g x σ' H2 λσ2 H3=>tc σ2 H3 λb H4=>if b=true then
   te σ2 H4 λy H5=>H5 p=some (.lst acc)/\acc.length<sizeLine/\∃k',k'<k/\W (i+1) k' (acc++[y]) σ2 (upd H5 p (.lst (acc++[y])))
   else ∃k',k'<k/\W (i+1) k' acc σ2 H4)
theorem BQ{scope:Scope}{N':List Str}{fp:List Addr}{pins pins':List (Addr×Obj)}{σ σ':St}{H3 H':Hp}{s3 s':Shared}(I3:Inv X pins σ H3 s3)(I':Inv (cxC X scope N' fp s3 H3) pins' σ' H' s')(hfp:∀b∈fp,kj X pins H3 b):Inv X pins σ H' s':=
 I3.call' (ch:=fp) I'.os I'.base I'.hok I'.bare λb hb=>⟨(hfp b hb).2.2.2.1,(hfp b hb).2.1,(hfp b hb).2.2.2.2.1,(hfp b hb).2.2.2.2.2⟩
theorem so {target iter elt:Expr} {ifs:List Expr} {scope:Scope} {pos:Pos} {own cap:List Str} {caps:List Nat} {g:TG} {tc:TT} {te:TE} {pins:List (Addr×Obj)} {σ:St} {H2:Hp} {s₂:Shared} {it:Addr} {fp:List Addr} {tn:Nat->Heap->Prop} {J:It} {E:Value->Shared->Prop}
 {RR:Value->Addr->Result->Shared->Prop} {Q:VK}
 (hc:X.calm=true) (Sc:mw X scope own cap caps)
 (hg:∀s H,PG (cxC X scope (own++cap) fp s H) target g) (ht:∀s H,PTs (cxC X scope (own++cap) fp s H) ifs tc) (he:∀s H,PE (cxC X scope (own++cap) fp s H) elt te)
 (I:Inv X pins σ H2 s₂) (T:Turn X.prog X.w X.K target J fp it tn) (t0:tn 0 s₂.heap) (hfp:∀b∈fp,kj X pins H2 b)
 (hQ:∀p,H2 p=none->∃W:Nat->Nat->List V->St->Hp->Prop,(∃k,W 0 k [] (lE own.length caps σ) (upd H2 p (.lst [])))/\∀i k acc σ' H',W i k acc σ' H'->
  (J.stop i H'/\H' p=some (.lst acc)/\Q (.ref p) H')\/(J.go i H'/\∀x H2,J.yld i H' x H2->g x σ' H2 λσ2 H3=>tc σ2 H3 λb H4=>if b=true then
   te σ2 H4 λy H5=>H5 p=some (.lst acc)/\acc.length<sizeLine/\∃k',k'<k/\W (i+1) k' (acc++[y]) σ2 (upd H5 p (.lst (acc++[y])))
   else ∃k',k'<k/\W (i+1) k' acc σ2 H4))
 (hRR:∀C p H' s' m,X.s₀.heap.objs.size<=C->C≠X.env.locals->(∀x c,X.env.cells.lookup x=some c->c≠C)->(∀q∈X.pn++pins,q.1≠C)->H' C=none->s'.heap.Ns C m->Inv X pins σ H' s'->Q (.ref p) H'->RR (.ref p) C (.ok .next) s'):
 wpAny (model X.prog X.w) X.A (newList []) (λacc s₃=>wpAny (model X.prog X.w) X.A (newFunctionEnv scope X.env.globals (dr X.env scope.names []) [] X.env.qual none .none (some X.env)) (λcenv s₄=>
  codeAny (model X.prog X.w) X.A (.compStart (.ListComp elt [⟨target,iter,ifs,0⟩] scope pos) 0 (.ref it) acc {cenv with scope:=relabel scope X.env}) (RR acc cenv.locals) s₄) E s₃) E s₂:=by
 refine wpAny_newObj_type (xX ?_)
 dsimp only
 have hD0:H2 s₂.heap.objs.size=none:=I.hok.fresh (Nat.le_refl _)
 have I3:Inv X pins σ (upd H2 s₂.heap.objs.size (.lst [])) {s₂ with heap:=s₂.heap.push {cls:=.type "list",dict:=none,data:=.seq ([]:List Value).toArray}}:=I.lnew (t':=s₂.toks) .nil (Nat.zero_le _)
 obtain⟨W,⟨k0,w0⟩,turn⟩:=hQ s₂.heap.objs.size hD0
 have old:∀b o,s₂.heap.get? b=some o->(s₂.heap.push {cls:=.type "list",dict:=none,data:=.seq ([]:List Value).toArray}).get? b=some o:=λb o e=>Heap.get?_push_of_some _ e
 have hbD:∀b∈fp,b≠s₂.heap.objs.size:=λb hb=>by
  obtain⟨o,ho,_⟩:=T.obj 0 s₂.heap t0 b hb
  exact Nat.ne_of_lt (Heap.lt_size ho)
 have hfp3:∀b∈fp,kj X pins (upd H2 s₂.heap.objs.size (.lst [])) b:=λb hb=>⟨by rw[aM (hbD b hb)];exact(hfp b hb).1,(hfp b hb).2⟩
 have hob:∀b∈fp,∃o,(s₂.heap.push {cls:=.type "list",dict:=none,data:=.seq ([]:List Value).toArray}).get? b=some o:=λb hb=>by
  obtain⟨o,ho,_⟩:=T.obj 0 s₂.heap t0 b hb
  exact⟨o,old b o ho⟩
 generalize hh₁:pushCells ((s₂.heap.push {cls:=.type "list",dict:=none,data:=.seq ([]:List Value).toArray}).push {cls:=.type "dict",data:=.dict #[]}) scope.names=h₁
 have hns₁:h₁.Ns (s₂.heap.push {cls:=.type "list",dict:=none,data:=.seq ([]:List Value).toArray}).objs.size λ_=>none:=by rw[<- hh₁];exact(Heap.Ns.new _ (.type "dict")).keeps (pushCells_keeps _ _)
 have hk:∀b o,(s₂.heap.push {cls:=.type "list",dict:=none,data:=.seq ([]:List Value).toArray}).get? b=some o->h₁.get? b=some o:=λb o e=>by rw[<- hh₁];exact pushCells_keeps _ _ b o (Heap.get?_push_of_some _ e)
 have hnew:CellsOk h₁ ((s₂.heap.push {cls:=.type "list",dict:=none,data:=.seq ([]:List Value).toArray}).objs.size+1) (cellsFrom ((s₂.heap.push {cls:=.type "list",dict:=none,data:=.seq ([]:List Value).toArray}).objs.size+1) scope.names []):=by rw[<- hh₁];exact BL _ _
 clear hh₁
 have st1:tn 0 h₁:=T.keep 0 _ _ t0 λb hb o e=>hk b o (old b o e)
 generalize hs3:({s₂ with heap:=s₂.heap.push {cls:=.type "list",dict:=none,data:=.seq ([]:List Value).toArray}}:Shared)=s3 at I3
 have hh3:s3.heap=s₂.heap.push {cls:=.type "list",dict:=none,data:=.seq ([]:List Value).toArray}:=by rw[<- hs3]
 rw[<- hh3] at hns₁ hob hk hnew ⊢
 generalize s₂.heap.objs.size=D at *
 generalize hH3:upd H2 D (.lst [])=H3 at *
 have loop:∀s₄:Shared,s₄={s3 with heap:=h₁}->
  codeAny (model X.prog X.w) X.A (.compLoop (.ListComp elt [⟨target,iter,ifs,0⟩] scope pos) 0 (.ref it) (.ref D) (compEnvC scope (cellsFrom (s3.heap.objs.size+1) scope.names (dr X.env scope.names [])) s3.heap.objs.size X.env)) (RR (.ref D) s3.heap.objs.size) s₄:=by
  rintro s₄ rfl
  have I4:=C0 (tk:=s3.toks) Sc I3 hfp3 hob hns₁ hk hnew
  have stat:∀{H':Hp},(∀b∈fp,H' b=none)->∀b∈fp,kj (cxC X scope (own++cap) fp s3 H3) [] H' b:=λhn b hb=>by
   refine⟨hn b hb,(I4.ok.exf b hb).1,I4.ok.exfs b hb,.inl hb,(I4.ok.exf b hb).2,λp hp=>absurd (show p∈([]:List (Addr×Obj)) from hp) (by simp)⟩
  refine Au (λn s'=>∃i acc σ' H',Inv (cxC X scope (own++cap) fp s3 H3) [] σ' H' s'/\tn i s'.heap/\(∀b∈fp,H' b=none)/\W i n acc σ' H') ?_ k0 ⟨0,[],_,_,I4,st1,λb hb=>(hfp3 b hb).1,w0⟩
  rintro n s5 ⟨i,acc,σ5,H5,I5,st5,fr5,w5⟩
  rcases turn i n acc σ5 H5 w5 with⟨stop,hp,q⟩ | ⟨go,step⟩
  ·refine thn (T.done (cxC X scope (own++cap) fp s3 H3) rfl rfl rfl hc i [] s5 σ5 H5 _ I5 (stat fr5) st5 stop) λr s6 ⟨hr,I6⟩=> ?_
   subst hr
   obtain⟨m,hm,_⟩:=I6.loc
   refine hRR s3.heap.objs.size D H5 s6 m I3.sz (Nat.ne_of_gt I3.lt) (λx c e=> ?_) (λp hp=> ?_) I6.free hm (BQ I3 I6 hfp3) q
   ·obtain⟨v,o,ho,_⟩:=I3.cell x c e
    exact Nat.ne_of_lt (Heap.lt_size ho)
   ·exact Nat.ne_of_lt (Heap.lt_size (I3.pin p hp).1)
  ·refine thn (T.item (cxC X scope (own++cap) fp s3 H3) rfl rfl rfl hc i [] s5 σ5 H5 _ I5 (stat fr5) st5 go) λr s6 ⟨u,hr,h6⟩=> ?_
   subst hr
   refine thn h6 λ_ s7 ⟨x,H7,I7,r7,y7,st7,fr7⟩=> ?_
   have I7':=I7.pinned (stat fr7) (T.obj _ _ st7)
   refine thn (hg s3 H3 _ s7 σ5 H7 x u _ I7' r7 (step x H7 y7)) λ_ s8 ⟨σ8,H8,I8,q8⟩=> ?_
   refine thn (ht s3 H3 _ s8 σ8 H8 _ I8 q8) λb s9 ⟨H9,I9,q9⟩=> ?_
   have again:∀{σz:St} {Hz:Hp} {sz:Shared},Inv (cxC X scope (own++cap) fp s3 H3) ([]++o9 fp s7.heap) σz Hz sz->Inv (cxC X scope (own++cap) fp s3 H3) [] σz Hz sz/\tn (i+1) sz.heap/\∀b∈fp,Hz b=none:=λ{σz Hz sz} Iz=>by
    refine⟨Iz.unpinned,T.keep _ _ _ st7 λb hb o e=>(Iz.pin (b,o) (List.mem_append_right _ (List.mem_append_right _ (lB hb e)))).1,λb hb=> ?_⟩
    obtain⟨o,e,d⟩:=T.obj _ _ st7 b hb
    exact(Iz.pin (b,o) (List.mem_append_right _ (List.mem_append_right _ (lB hb e)))).2.1
   cases b with
   | false=>
    rw[if_neg Bool.false_ne_true] at q9 ⊢
    obtain⟨k',hk',w'⟩:=q9
    obtain⟨a1,a2,a3⟩:=again I9
    exact⟨k',hk',i+1,acc,σ8,H9,a1,a2,a3,w'⟩
   | true=>
    rw[if_pos rfl] at q9 ⊢
    refine thn (he s3 H3 _ s9 σ8 H9 _ I9 q9) λyv s10 ⟨y,H10,I10,r10,hp,hl,k',hk',w'⟩=> ?_
    refine thn (fF _ s10 σ8 H10 (.ref D) [y] (.ref D) [yv] (λv Hz=>Hz=upd H10 D (.lst (acc++[y]))) I10 rfl (.cons r10 .nil) ⟨D,acc,y,rfl,rfl,hp,hl,rfl⟩) λ_ s11 ⟨_,H11,I11,_,e11⟩=> ?_
    subst e11
    obtain⟨a1,a2,a3⟩:=again I11
    exact⟨k',hk',i+1,acc++[y],σ8,_,a1,a2,a3,w'⟩
 have fin:=loop _ rfl
 subst hs3
 exact codeAny_compStart_list fin (T.self _ _ _ _ _ st1 fin)
theorem PTs.ok{X:Cx}{scope:Scope}{own cap:List Str}{caps:List Nat}{pins:List (Addr×Obj)}{σ:St}{H:Hp}{s:Shared}(I:Inv X pins σ H s)(Sc:mw X scope own cap caps):closureFor scope X.env=pure (dr X.env scope.names []):=
 uX λn hn=>I.ok.has n (Sc.out hn)
theorem dW {target iter elt:Expr} {ifs:List Expr} {scope:Scope} {pos:Pos} {own cap:List Str} {caps:List Nat} {wi:TI} {g:TG} {tc:TT} {te:TE} (hc:X.calm=true) (Sc:mw X scope own cap caps) (hi:PI X target iter wi)
 (hg:∀fp s H,PG (cxC X scope (own++cap) fp s H) target g) (ht:∀fp s H,PTs (cxC X scope (own++cap) fp s H) ifs tc) (he:∀fp s H,PE (cxC X scope (own++cap) fp s H) elt te)
 (hs:∀x,foldedSetIterable iter X.env x=pure x:=by intro _;rfl):PE X (.ListComp elt [⟨target,iter,ifs,0⟩] scope pos) (rO own.length caps wi g tc te):=by
 intro pins s σ H Q I h
 rw[eval_ListComp]
 refine wpAny_comprehension_free (use:=none) rfl hs (PTs.ok I Sc) Sc.kind Sc.nm (thn (hi pins s σ H _ I h) λv s1 h1=>thn h1 λitv s2 h2=> ?_)
 obtain⟨it,fp,tn,J,H2,e,I2,T,st2,f2,q⟩:=h2
 subst e
 refine so (Q:=Q) (RR:=λacc C=>compPost (model X.prog X.w) X.A X.xe none (EP X pins σ Q) acc C) hc Sc (hg fp) (ht fp) (he fp) I2 T st2 f2 q ?_
 intro C p H' s' m h1 h2 h3 h4 h5 hn I' q'
 exact⟨m,hn,λh' hs'=>⟨.ref p,H',I'.turned (it:=C) (t':=s'.toks) (λb o hb e=>hs'.extBut b o hb e) h5 (Ne.symm h2.symm) (.inr h1) h3 h4,rfl,q'⟩⟩
theorem oq {target iter elt:Expr} {ifs:List Expr} {scope:Scope} {pos spos py:Pos} {own cap:List Str} {caps:List Nat} {wi:TI} {g:TG} {tc:TT} {te:TE} {i:Nat} {y:Str} (hc:X.calm=true) (Sc:mw X scope own cap caps) (hi:PI X target iter wi)
 (hg:∀fp s H,PG (cxC X scope (own++cap) fp s H) target g) (ht:∀fp s H,PTs (cxC X scope (own++cap) fp s H) ifs tc) (he:∀fp s H,PE (cxC X scope (own++cap) fp s H) elt te)
 (hN:X.N.Nodup) (hx:X.N[i]? =some y) (hl:Loc X.env.scope y)
 (hsw:swapsWith (.ListComp elt [⟨target,iter,ifs,0⟩] scope pos) (some (.Name y py)) spos.line X.env=pure true)
 (hs:∀x,foldedSetIterable iter X.env x=pure x:=by intro _;rfl) (hf:X.fn y=true\/X.env.scope.names.lookup y=some .local:=by first | exact .inl rfl | exact .inr rfl | assumption):
 PS X (.Assign [.Name y py] (.ListComp elt [⟨target,iter,ifs,0⟩] scope pos) spos) (wg (rO own.length caps wi g tc te) (p8 i)):=by
 intro pins s σ H D I h
 rw[exec_Assign_Name_used _ _ _ _ hsw]
 refine wpAny_bind (wpAny_standAt (wpAny_bind ?_))
 show wpAny _ _ (do let _ <- comprehension (.ListComp elt [⟨target,iter,ifs,0⟩] scope pos) scope X.env _ (newList []) false (eval iter X.env) (some (assign (.Name y py) X.env))) _ _ s
 refine wpAny_bind (wpAny_mono (wpAny_comprehension_free (use:=some (assign (.Name y py) X.env)) (Q:=λ_ s'=>SP X pins D .next s') rfl hs (PTs.ok I Sc) Sc.kind Sc.nm
  (thn (hi pins s σ H _ I h) λv s1 h1=>thn h1 λitv s2 h2=> ?_)) (λ_ s' hq=>wpAny_pure (wpAny_pure hq)) λ_ _ e=>e)
 obtain⟨it,fp,tn,J,H2,e,I2,T,st2,f2,q⟩:=h2
 subst e
 refine so (Q:=λv H'=>p8 i v σ H' D.nx) (RR:=λacc C=>compPost (model X.prog X.w) X.A X.xe (some (assign (.Name y py) X.env)) (λ_ s'=>SP X pins D .next s') acc C) hc Sc (hg fp) (ht fp) (he fp) I2 T st2 f2 q ?_
 intro C p H' s' m h1 h2 h3 h4 h5 hn I' q'
 show wpAny _ _ (assign (.Name y py) X.env (.ref p)) _ _ _
 refine wpAny_assign_Name (uw I' hN hx hl (show RelV (.ref p) (.ref p) from rfl) (λs'' I'' ⟨a,hsb,ha⟩=> ?_) hf)
 have haC:C≠a:=by
  rcases ha with rfl | ha
  ·exact h2
  ·exact(h3 _ _ ha).symm
 exact⟨m,hn.sameBut hsb haC,λh' hs'=>⟨_,H',I''.turned (it:=C) (t':=s''.toks) (λb o hb e=>hs'.extBut b o hb e) h5 h2 (.inr h1) h3 h4,q'⟩⟩
end
end L2
set_option maxRecDepth 100000
set_option maxHeartbeats 4000000
namespace L2
open PySem PySem.Spec PyProof.Rows
section
variable {X : Cx}
def Dw(K:PySem.W.Frag):R2:=λx y H Q=>∃l b xs zs,x=.ref l/\y=.ref b/\SqL K H l xs/\SqL K H b zs/\xs.length+zs.length<=sizeLine/\∀p,H p=none->Q (.ref p) (upd H p (.lst (xs++zs)))
theorem Eg:OpR X (binaryOp .Add) (Dw X.K):=by
 intro pins s σ H x y v u Q I rx ry h
 obtain⟨l,b,xs,zs,rfl,rfl,hH,hB,hz,q⟩:=h
 cases rx
 cases ry
 obtain⟨its,r,pl,_⟩:=I.list hH
 obtain⟨its2,r2,pl2,_⟩:=I.list hB
 obtain⟨⟨cls,dd,data,sl⟩,ho,hc,n,hd⟩:=pl.isList
 obtain⟨⟨cls2,dd2,data2,sl2⟩,ho2,hc2,n2,hd2⟩:=pl2.isList
 simp only at hc hd hc2 hd2
 subst hc hd hc2 hd2
 have e:its.toArray++its2.toArray=(its++its2).toArray:=by simp
 have hl1:=r.length
 have hl2:=r2.length
 refine concat_meets ⟨_,ho,rfl⟩ ⟨_,ho2,rfl⟩ noFill_list_add seq_list_add PySem.F.slot_list_add PySem.F.entry_list_add (PySem.F.args_list_add_2 _ _) (list_addW l b its.toArray its2.toArray n n2 dd dd2 sl sl2 (by simp only[List.size_toArray];omega)) ⟨ho,ho2, ?_⟩
 rw[e]
 exact⟨.ref _,_,I.lnew (t':=s.toks) (r.append r2) (by rw[List.length_append];omega),rfl,q _ I.fresh⟩
mutual
def RdV(K:PySem.W.Frag)(H:Hp):PyData->V->Prop
 | .none,v=>v=.non
 | .bool b,v=>v=.bl b
 | .int i,v=>v=.int i
 | .str x,v=>v=.str x
 | .list ds,v=>∃a xs,v=.ref a/\SqL K H a xs/\n9 K H ds xs
 | .tuple ds,v=>∃a xs,v=.ref a/\SqT K H a xs/\n9 K H ds xs
 | .dict _,_=>False
def n9(K:PySem.W.Frag)(H:Hp):List PyData->List V->Prop
 | [],xs=>xs=[]
 | d::ds,xs=>∃v r,xs=v::r/\RdV K H d v/\n9 K H ds r
end
mutual
theorem kZ{pins:List (Addr×Obj)}{σ:St}{H:Hp}{s:Shared}(I:Inv X pins σ H s):∀{d:PyData} {v:V} {u:Value},RdV X.K H d v->RelV v u->∃as,Reads s.heap u d as
 | .none,v,u,h,r=>by
  unfold RdV at h;subst h
  cases (show u=Value.none from r);exact⟨_,.none⟩
 | .bool b,v,u,h,r=>by
  unfold RdV at h;subst h
  cases (show u=Value.bool b from r);exact⟨_,.bool b⟩
 | .int i,v,u,h,r=>by
  unfold RdV at h;subst h
  obtain⟨t,rfl⟩:=(show ∃t,u=Value.int i t from r);exact⟨_,.int i t⟩
 | .str x,v,u,h,r=>by
  unfold RdV at h;subst h
  obtain⟨t,rfl⟩:=(show ∃t,u=Value.str x t from r);exact⟨_,.str x t⟩
 | .list ds,v,u,h,r=>by
  unfold RdV at h
  obtain⟨a,xs,rfl,hs,hr⟩:=h
  cases (show u=Value.ref a from r)
  obtain⟨its,rv,pl,_⟩:=I.list hs
  obtain⟨o,ho,hc,n,hd⟩:=pl.isList
  obtain⟨as,ra⟩:=oj I hr rv
  exact⟨_,.list ho hc hd (by simpa using ra)⟩
 | .tuple ds,v,u,h,r=>by
  unfold RdV at h
  obtain⟨a,xs,rfl,hs,hr⟩:=h
  cases (show u=Value.ref a from r)
  obtain⟨its,rv,⟨o,ho,hc,n,hd⟩,_⟩:=I.tuple hs
  obtain⟨as,ra⟩:=oj I hr rv
  exact⟨_,.tuple ho hc hd (by simpa using ra)⟩
 | .dict _,v,u,h,r=>by unfold RdV at h;exact h.elim
theorem oj{pins:List (Addr×Obj)}{σ:St}{H:Hp}{s:Shared}(I:Inv X pins σ H s):∀{ds:List PyData} {xs:List V} {us:List Value},n9 X.K H ds xs->Vals xs us->∃as,ReadsAll s.heap us ds as
 | [],xs,us,h,r=>by
  unfold n9 at h;subst h
  cases r;exact⟨_,.nil⟩
 | d::ds,xs,us,h,r=>by
  unfold n9 at h
  obtain⟨v,w,rfl,h1,h2⟩:=h
  cases r with
  | cons r1 r2=>
   obtain⟨as,a1⟩:=kZ I h1 r1
   obtain⟨bs,a2⟩:=oj I h2 r2
   exact⟨_,.cons a1 a2⟩
end
def GR(K:PySem.W.Frag):R2:=λx y H Q=>∃d e,RdV K H d x/\RdV K H e y/\SeqAt.shaped d=true/\SeqAt.shaped e=true/\Q (.bl (PyData.eqv d e)) H
def GY(K:PySem.W.Frag):R2:=λx y H Q=>∃d e,RdV K H d x/\RdV K H e y/\SeqAt.shaped d=true/\SeqAt.shaped e=true/\Q (.bl (!PyData.eqv d e)) H
theorem Fu(hu:X.A.units+64<cLine):OpR X (compareOp .Eq) (GR X.K):=by
 intro pins s σ H x y v u Q I rx ry h
 obtain⟨d,e,h1,h2,s1,s2,q⟩:=h
 obtain⟨as,ra⟩:=kZ I h1 rx
 obtain⟨bs,rb⟩:=kZ I h2 ry
 exact SeqAt.compareEq_shaped ra rb s1 s2 hu ⟨.bl _,H,I,rfl,q⟩
theorem Fq(hu:X.A.units+64<cLine):OpR X (compareOp .NotEq) (GY X.K):=by
 intro pins s σ H x y v u Q I rx ry h
 obtain⟨d,e,h1,h2,s1,s2,q⟩:=h
 obtain⟨as,ra⟩:=kZ I h1 rx
 obtain⟨bs,rb⟩:=kZ I h2 ry
 exact SeqAt.compareNe_shaped ra rb s1 s2 hu ⟨.bl _,H,I,rfl,q⟩
def Hj(K:PySem.W.Frag)(H:Hp)(x:V)(T:String):Prop:=match x with
 | .non=>T="NoneType"
 | .bl _=>T="bool"
 | .int _=>T="int"
 | .str _=>T="str"
 | .ref a=>(T="list" /\∃xs,SqL K H a xs)\/(T="tuple" /\∃xs,SqT K H a xs)
 | _=>False
def C9(K:PySem.W.Frag):List V->Hp->VK->Prop:=λxs H Q=>∃x c T b,xs=[x,.ty c]/\Hj K H x T/\PySem.W.kitOne K (.type T) (.type c)=some b/\Q (.bl b) H
theorem mK:ic X (.builtin "isinstance") (C9 X.K):=by
 intro pins s σ H xs us Q I r h
 obtain⟨x,c,T,b,rfl,hT,hk,q⟩:=h
 obtain⟨u,w,rfl,r1,r2⟩:=vals2 r
 cases (show w=Value.type c from r2)
 have fin:∀tk,EP X pins σ Q (.bool b) {s with toks:=tk}:=λtk=>⟨.bl b,H,I.tok tk,rfl,q⟩
 cases x with
 | non=>cases (show u=Value.none from r1);cases (show T="NoneType" from hT);exact PySem.W.kia_one PySem.W.kitx_none I.kIn True.intro hk (λz=>nomatch z) fin
 | bl y=>cases (show u=Value.bool y from r1);cases (show T="bool" from hT);exact PySem.W.kia_one PySem.W.kitx_bool I.kIn True.intro hk (λz=>nomatch z) fin
 | int i=>obtain⟨t,e⟩:=(show ∃t,u=Value.int i t from r1);cases e;cases (show T="int" from hT);exact PySem.W.kia_one PySem.W.kitx_int I.kIn True.intro hk (λz=>nomatch z) fin
 | str y=>obtain⟨t,e⟩:=(show ∃t,u=Value.str y t from r1);cases e;cases (show T="str" from hT);exact PySem.W.kia_one PySem.W.kitx_str I.kIn True.intro hk (λz=>nomatch z) fin
 | ref a=>
  cases (show u=Value.ref a from r1)
  rcases hT with⟨rfl,xs,hs⟩ | ⟨rfl,xs,hs⟩
  ·obtain⟨its,rv,⟨o,n,ho,hc,_⟩,_⟩:=I.list hs
   exact PySem.W.kia_one PySem.W.kitx_list I.kIn ⟨o,ho,hc⟩ hk (λz=>nomatch z) fin
  ·obtain⟨its,rv,⟨o,ho,hc,_⟩,_⟩:=I.tuple hs
   exact PySem.W.kia_one PySem.W.kitx_tuple I.kIn ⟨o,ho,hc⟩ hk (λz=>nomatch z) fin
 | byt y=>exact False.elim hT
 | flt y=>exact False.elim hT
 | ty y=>exact False.elim hT
end
end L2
set_option maxRecDepth 100000
set_option maxHeartbeats 4000000
namespace L2
open PySem PySem.Spec PyProof.Rows
structure pY(S:List Addr)(e:Addr)(oe:Obj)(h h':Heap)(T:Addr):Prop where
 keep:∀b o,h.get? b=some o->b∉S->b≠e->h'.get? b=some o
 slot:∀b o,h.get? b=some o->b∈S->∃sl,h'.get? b=some {o with slots:=sl}
 new:h.objs.size<=T
 ne:T≠e
 exc:∃oe' vs,h'.get? e=some oe'/\oe'.cls=oe.cls/\oe'.dict=oe.dict/\oe'.data=.fields vs/\vs[1]? =some (.ref T)
 trc:∃oT ts,h'.get? T=some oT/\oT.data=.fields ts/\ts[3]? =some .none
theorem B8(o:Obj)(f:Array Value->Array Value):(Obj.mapFields f o).dict=o.dict:=by
 unfold Obj.mapFields
 split <;> rfl
section
variable {M : Model} {A : Around} {E : Value → Shared → Prop} {s : Shared}
theorem vA {base:Heap} {env:Env} {outer:List Env} {L e:Addr} {oe:Obj} {vs:Array Value} {head:Value} {hadNext:Bool} {Q:Unit->Shared->Prop} (hfr:A.frames=some (env::outer))
 (hl:s.heap.FunFrames base (env::outer)) (hf:env.frame=some L) (he:s.heap.get? e=some oe) (hd:oe.data=.fields vs) (hsz:1<vs.size)
 (h:∀h' T,pY (frs (env::outer)) e oe s.heap h' T->Q () {s with heap:=h'}):
 wpAny M A (do
  let a <- frameOf env
  let pl <- entryPlaceOf L hadNext
  let b <- EntryCells.newEntry head a .none (rawInt L) .none pl
  setField (.ref e) 1 b) (λ_ s'=>wpAny M A (setFlight (.ref e) none) Q E s') E s:=by
 have out:e∉frs (env::outer):=λhm=>by
  obtain⟨_,o,ho,hnf⟩:=hl.mem hm
  cases he.symm.trans ho
  exact hnf vs hd
 refine wpAny_bind (wpAny_frameOf_fun hfr hl hf λh1 x1=>wpAny_bind (wpAny_entryPlaceOf λpl hpl=> ?_))
 unfold EntryCells.newEntry newFields
 refine wpAny_bind (wpAny_newObj_type ?_ (hpl.sizeOk5 _ _ _ _ _))
 generalize hob:({cls:=.type "traceback",dict:=none,data:=.fields ([head,.ref L,.none,rawInt L,.none]++(if pl.isEmpty then List.replicate 6 Value.none else pl)).toArray}:Obj)=ob
 have e1:h1.get? e=some oe:=(x1.2.1 e out).trans he
 have e2:(h1.push ob).get? e=some oe:=Heap.get?_push_of_some ob e1
 refine wpAny_setField e2 hd hsz ?_
 have ne:h1.objs.size≠e:=Nat.ne_of_gt (Heap.lt_size e1)
 have d3:=Obj.data_mapFields hd (·.setIfInBounds 1 (Value.ref h1.objs.size))
 have e3:=Heap.get?_update_self (Obj.mapFields (·.setIfInBounds 1 (Value.ref h1.objs.size))) e2 (Obj.isFreed_of_fields d3)
 have obd:ob.data=.fields ([head,.ref L,.none,rawInt L,.none]++(if pl.isEmpty then List.replicate 6 Value.none else pl)).toArray:=by rw[<- hob]
 have t2:(h1.push ob).get? h1.objs.size=some ob:=Heap.get?_push_size h1 (by rw[<- hob];rfl)
 have t3:=(Heap.get?_update_other (h1.push ob) (Obj.mapFields (·.setIfInBounds 1 (Value.ref h1.objs.size))) (Ne.symm ne)).trans t2
 unfold setFlight
 refine wpAny_bind (wpAny_field e3 d3 (x:=.ref h1.objs.size) (by simp[hsz]) ?_)
 rw[if_pos (by simp)]
 refine wpAny_setField t3 obd (by simp only[List.size_toArray,List.length_append,List.length_cons,List.length_nil];omega) (h _ h1.objs.size ?_)
 have kp:∀b o,b≠e->h1.get? b=some o->(((h1.push ob).update e (Obj.mapFields (·.setIfInBounds 1 (Value.ref h1.objs.size)))).update h1.objs.size (Obj.mapFields (·.setIfInBounds 3 ((none:Option Addr).elim Value.none λf=>rawInt f)))).get? b=some o:=λb o n1 hb=>by
  rw[Heap.get?_update_other _ _ (Nat.ne_of_gt (Heap.lt_size hb)),Heap.get?_update_other _ _ (Ne.symm n1)]
  exact Heap.get?_push_of_some ob hb
 refine⟨λb o hb hS hbe=>kp b o hbe ((x1.2.1 b hS).trans hb),λb o hb hS=> ?_,Nat.le_of_eq x1.1.symm,ne,⟨_,_, ?_,Obj.cls_mapFields _ _,B8 _ _,d3,by simp[hsz]⟩,⟨_,_,Heap.get?_update_self _ t3 (Obj.isFreed_of_fields (Obj.data_mapFields obd _)),Obj.data_mapFields obd _, ?_⟩⟩
 ·obtain⟨sl,q⟩:=x1.2.2 b o hb
  exact⟨sl,kp b _ (λz=>out (z▸hS)) q⟩
 ·rw[Heap.get?_update_other _ _ ne];exact e3
 ·first | (simp;done) | (rcases hpl with rfl | ⟨_,_,_,_,_,_,_,rfl⟩ <;> simp)
theorem xO {base:Heap} {env:Env} {outer:List Env} {L e:Addr} {oe:Obj} {vs:Array Value} {Q:Unit->Shared->Prop} (hfr:A.frames=some (env::outer)) (hl:s.heap.FunFrames base (env::outer)) (hf:env.frame=some L)
 (he:s.heap.get? e=some oe) (hd:oe.data=.fields vs) (h1:vs[1]? =some .none) (h:∀h' T,pY (frs (env::outer)) e oe s.heap h' T->Q () {s with heap:=h'}):wpAny M A (leaving env (.ref e)) Q E s:=by
 unfold leaving noteFrame
 simp only[hf]
 refine wpAny_bind (wpAny_bind (wpAny_field he hd h1 ?_))
 rw[if_neg (by decide)]
 exact vA hfr hl hf he hd (Array.getElem?_eq_some_iff.mp h1).1 h
structure Trc(h:Heap)(e:Addr)(oe:Obj)(T:Addr):Prop where
 exc:h.get? e=some oe
 dat:∃vs,oe.data=.fields vs/\vs[1]? =some (.ref T)
 ne:T≠e
 trc:∃oT ts,h.get? T=some oT/\oT.data=.fields ts/\ts[3]? =some .none
theorem uA {base:Heap} {env:Env} {outer:List Env} {L e T0:Addr} {oe:Obj} {Q:Unit->Shared->Prop} (hfr:A.frames=some (env::outer)) (hl:s.heap.FunFrames base (env::outer)) (hf:env.frame=some L)
 (ht:Trc s.heap e oe T0) (h:∀h1 h' T,(∀b,b≠T0->h1.get? b=s.heap.get? b)->h1.objs.size=s.heap.objs.size->pY (frs (env::outer)) e oe h1 h' T->Q () {s with heap:=h'}):
 wpAny M A (noteFrame (.ref e) env) (λ_ s'=>wpAny M A (setFlight (.ref e) none) Q E s') E s:=by
 obtain⟨he,⟨vs,hd,h1⟩,hne,oT,ts,hT,hdT,h3⟩:=ht
 unfold noteFrame
 simp only[hf]
 refine wpAny_bind (wpAny_field he hd h1 ?_)
 rw[if_pos (by simp)]
 refine wpAny_bind (wpAny_field hT hdT h3 ?_)
 rw[if_neg (by simp[rawInt])]
 refine wpAny_bind (wpAny_setField hT hdT (Array.getElem?_eq_some_iff.mp h3).1 ?_)
 have oth:∀b,b≠T0->(s.heap.update T0 (Obj.mapFields (·.setIfInBounds 3 Value.none))).get? b=s.heap.get? b:=λb hb=>Heap.get?_update_other _ _ (Ne.symm hb)
 refine vA (base:=base) hfr (hl.of_keeps λb o hb hnf=>⟨o,(oth b λq=> ?_).trans hb,rfl⟩) hf ((oth e (Ne.symm hne)).trans he) hd (Array.getElem?_eq_some_iff.mp h1).1 λh' T x=>h _ h' T oth (Heap.size_after_update ..) x
 subst q
 cases hT.symm.trans hb
 exact hnf ts hdT
theorem z5 {base:Heap} {env:Env} {outer:List Env} {L e T0:Addr} {oe:Obj} {Q:Unit->Shared->Prop} (hfr:A.frames=some (env::outer)) (hl:s.heap.FunFrames base (env::outer)) (hf:env.frame=some L)
 (ht:Trc s.heap e oe T0) (h:∀h1 h' T,(∀b,b≠T0->h1.get? b=s.heap.get? b)->h1.objs.size=s.heap.objs.size->pY (frs (env::outer)) e oe h1 h' T->Q () {s with heap:=h'}):wpAny M A (leaving env (.ref e)) Q E s:=by
 unfold leaving
 exact wpAny_bind (uA hfr hl hf ht h)
end
end L2
set_option maxRecDepth 100000
set_option maxHeartbeats 4000000
namespace L2
open PySem PySem.Spec PyProof.Rows
theorem eV.there{P:Program}{w:World}{H:Hp}{h:Heap}{a:Addr}{o:HO}(x:eV P w H h a o):∃u,h.get? a=some u:=by
 cases o with
 | lst xs=>exact let ⟨_,_,_,_,e⟩:=x;⟨_,e⟩
 | tup xs=>exact let ⟨_,_,_,ob,e,_⟩:=x;⟨_,e⟩
 | dK kvs=>exact let ⟨_,_,_,_,ob,_,_,e,_⟩:=x;⟨_,e⟩
 | dT kvs=>exact let ⟨_,_,_,_,ob,_,_,e,_⟩:=x;⟨_,e⟩
 | set S n=>exact let ⟨ob,_,_,_,e,_⟩:=x;⟨_,e⟩
 | ins C dx fs=>exact let ⟨_,_,_,e,_⟩:=x;⟨_,e⟩
 | own y=>exact x
 | xd fs=>exact let ⟨_,⟨_,_,_,e,_⟩,_⟩:=x;⟨_,e⟩
 | rng lo hi=>exact let ⟨_,_,_,e⟩:=x;⟨_,e⟩
 | frz ob u=>exact let ⟨e,_⟩:=x;⟨_,e⟩
 | tbl ps=>exact⟨_,x⟩
 | met f y=>exact⟨_,x⟩
 | ext φ=>exact x.2.1
theorem HOk.free{P:Program}{w:World}{H:Hp}{h:Heap}{a:Addr}(x:HOk P w H h)(n:h.get? a=none):H a=none:=by
 cases e:H a with
 | none=>rfl
 | some o=>
  obtain⟨u,hu⟩:=(x a o e).there
  rw[n] at hu;cases hu
structure DF(P:Program)(w:World)(fs:List Addr)(H:Hp)(h:Heap)(x:Addr)(H':Hp)(h':Heap)(oe:Obj)(T C:Addr):Prop where
 un:Un fs [] H H' h h'
 hok:HOk P w H' h'
 nx:h.get? x=none
 nT:h.get? T=none
 hx:H' x=none
 hT:H' T=none
 tr:Trc h' x oe T
 cls:oe.cls=.ref C
def CXE(P:Program)(w:World):CXT:=λouter H s E e s'=>∃x oe T H' C,e=.ref x/\s'.os=s.os/\AllBare s'.gens/\DF P w (frs outer) H s.heap x H' s'.heap oe T C/\E (.ref C) oe.dict H'
section
variable {X : Cx} {pins : List (Addr × Obj)} {σ : St} {H : Hp} {s : Shared}
theorem Inv.old(I:Inv X pins σ H s)(hex:X.ex=[]){a:Addr}(n:s.heap.get? a=none):X.s₀.heap.get? a=none:=by
 cases e:X.s₀.heap.get? a with
 | none=>rfl
 | some o=>
  obtain⟨o',q⟩:=I.base.there a o e (by rw[hex];simp)
  rw[n] at q;cases q
theorem oK {x T0 T C:Addr} {oe:Obj} {h1 h':Heap} (I:Inv X pins σ H s) (hstk:X.stack=X.env::X.outer) (hfr:X.env.frame=some X.env.locals) (hex:X.ex=[]) (hx0:X.s₀.heap.get? x=none) (hx:H x=none)
 (hT0:X.s₀.heap.get? T0=none) (hHT0:H T0=none) (h01:∀b,b≠T0->h1.get? b=s.heap.get? b) (hsz:h1.objs.size=s.heap.objs.size) (xl:pY (frs X.stack) x oe h1 h' T) (hc:oe.cls=.ref C):
 ∃oe',DF X.prog X.w X.fs X.H₀ X.s₀.heap x H h' oe' T C/\oe'.dict=oe.dict:=by
 have sub:∀b∈X.fs,b∈frs X.stack:=λb hb=>by
  rw[hstk]
  show b∈(X.env::X.outer).filterMap (·.frame)
  rw[List.filterMap_cons,hfr]
  exact List.mem_cons_of_mem _ hb
 have nex:∀b:Addr,b∉X.ex:=λb z=>by rw[hex] at z;cases z
 have ne0:∀b o,X.s₀.heap.get? b=some o->b≠T0/\b≠x/\b≠X.env.locals:=λb o e=>⟨λz=>(by rw[z,hT0] at e;cases e),λz=>(by rw[z,hx0] at e;cases e),Nat.ne_of_lt (Nat.lt_of_lt_of_le (Heap.lt_size e) I.ok.above)⟩
 obtain⟨oe',vs,e1,e2,e3,e4,e5⟩:=xl.exc
 have nT:s.heap.objs.size<=T:=hsz▸xl.new
 have gT:X.s₀.heap.get? T=none:=by
  cases e:X.s₀.heap.get? T with
  | none=>rfl
  | some o=>exact absurd (Nat.lt_of_lt_of_le (Heap.lt_size e) (Nat.le_trans I.sz nT)) (Nat.lt_irrefl _)
 refine⟨oe',⟨⟨λb o e n hb _=> ?_,λb o e n hb _=> ?_,λb o e n _=>I.base.free b o e n (nex b),λb o e _=> ?_,I.base.tups,I.base.frzs,I.base.tbls⟩,λa o e=> ?_,hx0,gT,hx,I.hok.fresh nT,⟨e1,⟨vs,e4,e5⟩,xl.ne,xl.trc⟩,e2.trans hc⟩,e3⟩
 ·obtain⟨n1,n2,n3⟩:=ne0 b o e
  refine xl.keep b o ((h01 b n1).trans (I.base.keep b o e n hb (nex b))) (λz=> ?_) n2
  rcases List.mem_cons.mp (I.stkSub b z) with q | q
  ·exact n3 q
  ·exact hb q
 ·obtain⟨n1,n2,n3⟩:=ne0 b o e
  obtain⟨sl,q⟩:=I.base.slot b o e n hb (nex b)
  obtain⟨sl',q'⟩:=xl.slot b _ ((h01 b n1).trans q) (sub b hb)
  exact⟨sl',q'⟩
 ·obtain⟨n1,n2,n3⟩:=ne0 b o e
  obtain⟨o',q⟩:=I.base.there b o e (nex b)
  by_cases hb:b∈frs X.stack
  ·obtain⟨sl',q'⟩:=xl.slot b _ ((h01 b n1).trans q) hb
   exact⟨_,q'⟩
  ·exact⟨o',xl.keep b o' ((h01 b n1).trans q) hb n2⟩
 ·refine(I.hok a o e).stay (λb u hb q=> ?_) (λ_ q=>q) λ_ _ q=>q
  have tr:∃v,H b=some v:=by
   rcases hb with rfl | hb
   ·exact⟨o,e⟩
   ·exact⟨_,hb⟩
  obtain⟨v,hv⟩:=tr
  refine xl.keep b u ((h01 b λz=> ?_).trans q) (λz=> ?_) λz=> ?_
  ·rw[z,hHT0] at hv;cases hv
  ·rw[I.stkFree b z] at hv;cases hv
  ·rw[z,hx] at hv;cases hv
end
section
variable {P : Program} {w : World} {K : PySem.W.Frag} {mg : Str → Option Value} {base : Heap} {N : List Str} {qual : Str} {scope : Scope} {f : Addr} {cd : Value} {A : Around} {outer : List Env} {s0 : Shared} {H0 : Hp} {E : XK}
theorem DC:Passes (CXE P w) (kx (CXE P w) P w K mg base N qual scope f cd A outer s0 H0 E) E:=by
 intro pins σ H s e s' I ⟨x,oe,T0,H',C,he,os,bare,fl,hE⟩
 subst he
 have J:=I.call' os fl.un fl.hok bare (λb z=>absurd z (by simp))
 have hx0:=I.old rfl fl.nx
 have hT0:=I.old rfl fl.nT
 refine z5 (base:=base) (L:=s0.heap.objs.size) J.ok.frames J.stack rfl fl.tr λh1 h' T h01 hsz xl=> ?_
 obtain⟨oe',fl',hd⟩:=oK J rfl rfl rfl hx0 fl.hx hT0 fl.hT h01 hsz xl fl.cls
 exact⟨x,oe',T,H',C,rfl,J.os,J.bare,fl',by rw[hd];exact hE⟩
def Raises(X:Cx)(E:XK):Prop:=∀(pins:List (Addr×Obj)) (σ:St) (H:Hp) (s:Shared) (h':Heap) (x C:Addr) (args:List Value),Inv X pins σ H s->Heap.MadeExcOf s.heap h' x (.ref C) args->E (.ref C) none H->X.xe (.ref x) {s with heap:=h'}
theorem Gr:Raises (kx (CXE P w) P w K mg base N qual scope f cd A outer s0 H0 E) E:=by
 intro pins σ H s h' x C args I m hE
 have J:Inv (kx (CXE P w) P w K mg base N qual scope f cd A outer s0 H0 E) pins σ H {s with heap:=h'}:=I.kept (t':=s.toks) m.keeps
 have hx0:=I.old rfl m.new
 have hx:=I.hok.free m.new
 obtain⟨t,e1,_,_⟩:=m.there
 refine xO (base:=base) (L:=s0.heap.objs.size) J.ok.frames J.stack rfl e1 rfl rfl λh2 T xl=> ?_
 obtain⟨oe',fl',hd⟩:=oK J rfl rfl rfl hx0 hx hx0 hx (λ_ _=>rfl) rfl xl rfl
 exact⟨x,oe',T,H,C,rfl,J.os,J.bare,fl',by rw[hd];exact hE⟩
end
end L2
set_option maxRecDepth 100000
set_option maxHeartbeats 4000000
namespace L2
open PySem PySem.Spec PyProof.Rows
abbrev bmV:List Value:=[.type "ValueError",.type "Exception",.type "BaseException",.type "object"]
theorem DO{K:PySem.W.Frag}{h:Heap}{C:Addr}{bmB:List Value}{newId:String}(X:K.In h)(q:PySem.W.excIn K C bmB newId=true):
 ∃bm N nm qn bs hd sn sub ab col dd k0 k1 k2 k3 k5 mN,h.get? C=some (excClassObj nm qn C N bs bm hd sn sub ab col dd k0 k1 k2 k3 k5 newId)/\h.Ns N mN/\mN "__init__" =none/\OwnTail h bmB bm:=by
 unfold PySem.W.excIn at q
 split at q
 ·rename_i dd cd sl look
  split at q
  ·rename_i C' bm k0 k1 k2 k3 n k5 em es
   simp only[Bool.and_eq_true,beq_iff_eq,Bool.not_eq_true'] at q
   obtain⟨⟨⟨⟨⟨q1,q2⟩,q3⟩,q4⟩,q5⟩,q6⟩:=q
   subst q1;subst q2
   obtain⟨nm,bs,mro,ns,qn,hd,sn,sub,ab,col,del⟩:=cd
   simp only at em q3 q5 q6
   subst em;subst q3
   obtain⟨l⟩:=sl
   simp only at es
   subst es
   refine⟨bm,ns,nm,qn,bs,hd,sn,sub,ab,col,dd,k0,k1,k2,k3,k5,h.nsMap ns,X _ _ look, ?_, ?_,PySem.W.tail_of_in X q4⟩
   ·exact Heap.Ns.of_isNs (PySem.W.isNs_of_in X q5)
   ·exact PySem.W.nsMap_none_of_in X q5 q6
  ·cases q
 ·cases q
def A7(C:Addr)(E:XK)(t:TA):TS:=λ_ σ H=>t σ H λvs H1=>vs.length<=sizeLine/\E (.ref C) none H1
section
variable {X : Cx} {E : XK} {c : Str} {C : Addr} {np cpos pos : Pos} {e : Expr} {es : List Expr} {t : TA} {B newId initId : String} {bmB : List Value}
theorem CA (hx:Raises X E) (hq:PySem.W.excIn X.K C bmB newId=true) (FB:ExcBaseFacts B newId initId bmB) (hcalm:X.calm=true) (hg:Gl X c) (hm:X.mg c=some (.ref C)) (ha:PA X (e::es) t)
 (hdb:(c == ("__debug__" :Str))=false:=by decide) (he:starEach (e::es) X.env=(false,eval e X.env)::starEach es X.env:=by rfl) (hpl:(backTo cpos (starEach es X.env)).any (·.1)=false:=by rfl):
 PS X (.Raise (some (.Call (.Name c np) (e::es) [] cpos)) none pos) (A7 C E t):=by
 intro pins s σ H D I h
 obtain⟨bm,N,nm,qn,bs,hd,sn,sub,ab,col,dd,k0,k1,k2,k3,k5,mN,g1,g2,g3,g4⟩:=DO I.ok.mod.kin hq
 refine wpAny_Raise_call_subT (C:=C) (nm:=nm) (q:=qn) (N:=N) (bs:=bs) (bm:=bm) (hdct:=hd) (sn:=sn) (sub:=sub) (ab:=ab) (col:=col) (dd:=dd) (k0:=k0) (k1:=k1) (k2:=k2) (k3:=k3) (k5:=k5)
  FB (mN:=mN) (g4.hasType FB.hasBase) (I.ok.hd hcalm) ?_ g3 (kA I hg hm ⟨rfl, ?_⟩ hdb)
 ·rw[he]
  show (false||_)=false
  rw[Bool.false_or];exact hpl
 ·have z:=ha cpos pins s σ H _ I h
  rw[he] at z ⊢
  refine Calls.evalArgs_plain (thn z λus s2 ⟨vs,H1,I1,r,hl,hE⟩=>⟨rfl,by rw[<- r.length];exact hl,I1.bk _ _ g1,g2.keeps I1.bk,g4.keeps I1.bk,λh' x m=>hx pins σ H1 s2 h' x C us I1 m hE⟩)
end
section
variable {P : Program} {w : World} {K : PySem.W.Frag} {mg : Str → Option Value} {base : Heap}
theorem Fun.okE {CX:CXT} {x qual:Str} {st:Stmt} {f:Addr} {fd:FuncData} {N ps:List Str} {k:Nat} {sp:Sp} (F:Fun K x qual st f fd) (S:bc N ps (aE st)) (len:∀vs H Q E,sp vs H Q E->vs.length=ps.length)
 (hb:∀(cdv:Value) (A:Around) (outer:List Env) (s:Shared) (H:Hp) (vs:List V) (Q:VK) (E:XK),cG k (A.deeper (envOfC qual (aE st) s.heap.objs.size f cdv))->sp vs H Q E->
  ∃t,PSs (kx CX P w K mg base N qual (aE st) f cdv A outer s H E) (ba st) t/\t {nx:=λ_ H'=>Q .non H',rt:=Q} (start N vs) H):d9 P w K mg base CX (k+1) f fd ps sp:=by
 obtain⟨oc,od,kV,doc,pm,an,cdv,ct,osl,rfl,look,hcd⟩:=F.ex
 exact DB look hcd S len (hb cdv)
end
theorem B2 {l:PySem.W.OpenLaw} {n k:Nat} {q:Program} {loose:List Str} {XP:(Str->Option Value)->Heap->Prop} {YP:World->Heap->Prop} {d:DefRec} {K:Params->PySem.W.Frag} {sp:PySem.W.Frag->Sp} {x:Str} (hn:l.most=some n) (hn2:n<=sizeLine)
 (hdf:d.params.defaults=[]) (hr:cG k callerA) (hi:importsNone q=true) (hY:∀(w:World) (h:Heap),YP w h->(K w.params).In h) (F:∀(w:World) (mg:Str->Option Value) (fa:Addr) (h:Heap),(K w.params).In h->h.Ns mainGlobals mg->mg d.name=some (.ref fa)->
  ∃fd:FuncData,(∀(s:Shared) (u:Value),BindsTo s fd ⟨[u],[]⟩ [(x,u)])/\∀base:Heap,(K w.params).In base->base.Ns mainGlobals mg->d9 l.prog w (K w.params) mg base (CXE l.prog w) k fa fd [x] (sp (K w.params)))
 (hsp:∀(K:PySem.W.Frag) (H:Hp) (a:Addr) (ns:List Int),ns.length<=n->Ae H->SqL K H a (ns.map V.int)->sp K [.ref a] H (λv _=>v=.bl true) λ_ _ _=>False):PySem.W.WalkO q loose XP YP l.row.toRowW d [] (λf vs=>PySem.call f vs):=
 DQ (K:=K) (CX:=λw=>CXE l.prog w) (sp:=λw=>sp (K w.params)) hn hn2 hdf hr hi hY F (λw H a ns h1 h2 h3=>hsp (K w.params) H a ns h1 h2 h3) λ_ _ _ _ _ ⟨_,_,_,_,_,_,_,_,_,z⟩=>z
end L2
set_option maxRecDepth 100000
set_option maxHeartbeats 4000000
namespace L2
open PySem PySem.Spec PyProof.Rows
def A3(sp:Sp)(dvs:List V)(Es:St->XK)(t:TA):TE:=λσ H Q=>t σ H λvs H1=>sp (vs++dvs) H1 Q (Es σ)
def nG(CX:CXT)(X:Cx)(Es:St->XK):Prop:=∀(pins:List (Addr×Obj)) (σ:St) (H:Hp) (s:Shared) (e:Value) (s':Shared),Inv X pins σ H s->CX X.stack H s (Es σ) e s'->X.xe e s'
theorem Passes.s{CX:CXT}{X:Cx}{E:XK}(h:Passes CX X E):nG CX X λ_=>E:=h
section
variable {X : Cx} {CX : CXT} {k : Nat} {f C : Addr} {fd : FuncData} {ps : List Str} {sp : Sp} {dvs : List V} {ds : List Value} {Es : St → XK} {x m : Str} {p pos apos : Pos} {e o : Expr} {es : List Expr} {ta : TE} {t : TA}
theorem E6 {pins:List (Addr×Obj)} {σ:St} {H:Hp} {s:Shared} {Q:VK} {us:List Value} {vs:List V} (F:d9 X.prog X.w X.K X.mg X.base CX k f fd ps sp) (hr:cG k X.A) (hb:Binds X.K fd ps ds) (hd:Vals dvs ds) (hx:nG CX X Es)
 (I:Inv X pins σ H s) (r:Vals vs us) (h:sp (vs++dvs) H Q (Es σ)):wpAny (model X.prog X.w) X.A (call (.ref f) us) (EP X pins σ Q) X.xe s:=by
 have r2:Vals (vs++dvs) (us++ds):=r.append hd
 have hl:(us++ds).length=ps.length:=r2.length▸F.len _ _ _ _ h
 refine wpAny_call (codeAny_mono (F.run X.A X.stack s H ⟨us,[]⟩ (us++ds) (vs++dvs) Q (Es σ) hr I.env0 (hb s us I.kIn hl) r2 h) λres s' z=> ?_)
 match res,z with
 | .error e,z=>exact hx pins σ H s e s' I z
 | .ok (.ret u),z=>exact I.after z
theorem oF (F:d9 X.prog X.w X.K X.mg X.base CX k f fd ps sp) (hr:cG k X.A) (hg:Gl X x) (hm:X.mg x=some (.ref f)) (hk:PySem.W.keepIn X.K (.ref f)=true) (hb:Binds X.K fd ps ds) (hd:Vals dvs ds) (hx:nG CX X Es)
 (ha:PA X (e::es) t) (hdb:(x == ("__debug__" :Str))=false:=by decide) (he:starEach (e::es) X.env=(false,eval e X.env)::starEach es X.env:=by rfl) (hpl:(backTo pos (starEach es X.env)).any (·.1)=false:=by rfl):
 PE X (.Call (.Name x p) (e::es) [] pos) (A3 sp dvs Es t):=λpins s σ H Q I h=>
 wpAny_Call_Name_kw (kA I hg hm (PySem.W.callWith_K (h₀:=X.base) I.ok.mod.kin hk (thn (ha pos pins s σ H _ I h) λus s1 ⟨vs,H1,I1,r,q⟩=>⟨I1.kIn,E6 F hr hb hd hx I1 r q⟩) he hpl) hdb)
end
abbrev Cx.pinned(X:Cx)(p:List (Addr×Obj))(E:Value->Shared->Prop):Cx:={X with pn:=p,xe:=E}
theorem Cx.Ok.pinned{X:Cx}(ok:X.Ok)(p:List (Addr×Obj))(E:Value->Shared->Prop):(X.pinned p E).Ok:=⟨ok.mod,ok.kind,ok.glob,ok.blt,ok.above,ok.inj,ok.has,ok.cab,ok.hd,ok.frames,ok.stk,ok.exf,ok.bs,ok.bsz,ok.noex,ok.exfs,ok.funs,ok.frf⟩
theorem Cx.Ok.unpinned{X:Cx}{p:List (Addr×Obj)}{E:Value->Shared->Prop}(ok:(X.pinned p E).Ok):X.Ok:=⟨ok.mod,ok.kind,ok.glob,ok.blt,ok.above,ok.inj,ok.has,ok.cab,ok.hd,ok.frames,ok.stk,ok.exf,ok.bs,ok.bsz,ok.noex,ok.exfs,ok.funs,ok.frf⟩
section
variable {X : Cx} {pins : List (Addr × Obj)} {σ : St} {H : Hp} {s : Shared} {E : Value → Shared → Prop}
theorem Inv.toPinned(I:Inv X pins σ H s)(E:Value->Shared->Prop):Inv (X.pinned (X.pn++pins) E) [] σ H s:=
 ⟨I.ok.pinned _ _,I.os,I.bare,I.base,I.loc,I.cell,I.free,I.freeC,λp hp=>I.pin p (by simpa using hp),I.hok,I.len⟩
theorem Inv.ofPinned{pins':List (Addr×Obj)}(I:Inv (X.pinned (X.pn++pins) E) pins' σ H s):Inv X pins σ H s:=
 ⟨I.ok.unpinned,I.os,I.bare,I.base,I.loc,I.cell,I.free,I.freeC,λp hp=>I.pin p (List.mem_append_left _ hp),I.hok,I.len⟩
theorem Inv.landed {s1:Shared} {H1:Hp} {x T0 T C:Addr} {oe:Obj} {h1 h':Heap} (I:Inv X pins σ H s) (J:Inv X pins σ H1 s1) (hstk:X.stack=X.env::X.outer) (hfr:X.env.frame=some X.env.locals) (hex:X.ex=[]) (nx:s.heap.get? x=none) (hx:H1 x=none)
 (nT0:s.heap.get? T0=none) (hT0:H1 T0=none) (h01:∀b,b≠T0->h1.get? b=s1.heap.get? b) (hsz:h1.objs.size=s1.heap.objs.size) (xl:pY (frs X.stack) x oe h1 h' T) (hc:oe.cls=.ref C):Inv X pins σ H1 {s1 with heap:=h'}:=by
 obtain⟨oe',fl,_⟩:=oK J hstk hfr hex (I.old hex nx) hx (I.old hex nT0) hT0 h01 hsz xl hc
 have ne:∀b o,s.heap.get? b=some o->b≠T0/\b≠x:=λb o e=>⟨λz=>(by rw[z,nT0] at e;cases e),λz=>(by rw[z,nx] at e;cases e)⟩
 have mv:∀b u o,s.heap.get? b=some u->s1.heap.get? b=some o->∃sl,h'.get? b=some {o with slots:=sl}:=λb u o e1 e2=>by
  obtain⟨n1,n2⟩:=ne b u e1
  by_cases hb:b∈frs X.stack
  ·exact xl.slot b o ((h01 b n1).trans e2) hb
  ·exact⟨o.slots,xl.keep b o ((h01 b n1).trans e2) hb n2⟩
 have cellK:∀y c,X.env.cells.lookup y=some c->∀v,s1.heap.IsCell c v->h'.IsCell c v:=λy c e v ⟨o,ho,hd⟩=>by
  obtain⟨v0,o0,ho0,_⟩:=I.cell y c e
  obtain⟨sl,q⟩:=mv c o0 o ho0 ho
  exact⟨_,q,hd⟩
 refine⟨J.ok,J.os,J.bare, ?_, ?_,λy c e=> ?_,J.free,J.freeC,λp hp=> ?_,fl.hok,J.len⟩
 ·show Un X.fs X.ex X.H₀ H1 X.s₀.heap h'
  rw[hex];exact fl.un
 ·obtain⟨m,⟨o,es,ep,ho,r⟩,hl⟩:=J.loc
  obtain⟨m0,⟨o0,_,_,ho0,_⟩,_⟩:=I.loc
  obtain⟨sl,q⟩:=mv _ o0 o ho0 ho
  refine⟨m,⟨_,es,ep,q,r⟩,λi y v e1 e2 e3=> ?_⟩
  obtain⟨u,rv,l⟩:=hl i y v e1 e2 e3
  refine⟨u,rv, ?_⟩
  rcases l with l | ⟨k,c,e,z⟩
  ·exact .inl l
  ·exact .inr ⟨k,c,e,cellK y c e _ z⟩
 ·obtain⟨v,z⟩:=J.cell y c e
  exact⟨v,cellK y c e v z⟩
 ·obtain⟨e0,_⟩:=I.pin p hp
  obtain⟨e,n,nl,nf,d⟩:=J.pin p hp
  obtain⟨n1,n2⟩:=ne _ _ e0
  refine⟨xl.keep p.1 p.2 ((h01 _ n1).trans e) (λz=> ?_) n2,n,nl,nf,d⟩
  rcases List.mem_cons.mp (J.stkSub _ z) with q | q
  ·exact nl q
  ·exact nf q
end
end L2
set_option maxRecDepth 100000
set_option maxHeartbeats 4000000
namespace L2
open PySem PySem.Spec PyProof.Rows
def exO(a C:Addr):HO:=.ext λh=>∃o,h.get? a=some o/\o.cls=.ref C/\o.dict=none/\(∀cd,o.data≠ .cls cd)
abbrev Cx.hand(X:Cx)(v:Value):Cx:={X with A:=X.A.mark (some v),calm:=false,xe:=λ_ _=>False}
section
variable {X : Cx} {pins : List (Addr × Obj)} {σ : St} {H : Hp} {s : Shared} {v : Value}
theorem Inv.hand(I:Inv X pins σ H s)(v:Value):Inv (X.hand v) pins σ H s:=
 ⟨⟨I.ok.mod,I.ok.kind,I.ok.glob,I.ok.blt,I.ok.above,I.ok.inj,I.ok.has,I.ok.cab,(λz=>nomatch z),I.ok.frames,I.ok.stk,I.ok.exf,I.ok.bs,I.ok.bsz,I.ok.noex,I.ok.exfs,I.ok.funs,I.ok.frf⟩,I.os,I.bare,I.base,I.loc,I.cell,I.free,I.freeC,I.pin,I.hok,I.len⟩
theorem Inv.unhand(I:Inv (X.hand v) pins σ H s)(ok:X.Ok):Inv X pins σ H s:=⟨ok,I.os,I.bare,I.base,I.loc,I.cell,I.free,I.freeC,I.pin,I.hok,I.len⟩
theorem SP.unhand{D:Ends}{f:Flow}{s':Shared}(ok:X.Ok)(h:SP (X.hand v) pins D f s'):SP X pins D f s':=by
 cases f with
 | next=>exact let ⟨σ',H',I,q⟩:=h;⟨σ',H',I.unhand ok,q⟩
 | brk=>exact let ⟨σ',H',I,q⟩:=h;⟨σ',H',I.unhand ok,q⟩
 | cont=>exact let ⟨σ',H',I,q⟩:=h;⟨σ',H',I.unhand ok,q⟩
 | ret u=>exact let ⟨v,σ',H',I,r,q⟩:=h;⟨v,σ',H',I.unhand ok,r,q⟩
theorem Inv.track{x C:Addr}(I:Inv X pins σ H s)(hx:H x=none)(h0:X.s₀.heap.get? x=none)(hC:∃o,s.heap.get? x=some o/\o.cls=.ref C/\o.dict=none/\∀cd,o.data≠ .cls cd)(nl:x≠X.env.locals)(nc:∀y c,X.env.cells.lookup y=some c->c≠x)(np:∀p∈X.pn++pins,p.1≠x):
 Inv X pins σ (upd H x (exO x C)) s:=by
 have ne:∀b u,H b=some u->b≠x:=λb u e z=>by rw[z,hx] at e;cases e
 have ne0:∀b o,X.s₀.heap.get? b=some o->b≠x:=λb o e z=>by rw[z,h0] at e;cases e
 refine⟨I.ok,I.os,I.bare,⟨I.base.keep,I.base.slot,λb o e n hb=> ?_,I.base.there,λb xs e=> ?_,λb o u e=> ?_,λb ps e=> ?_⟩,I.loc,I.cell, ?_,λy c e=> ?_,λp hp=> ?_,λa o e=> ?_,I.len⟩
 ·rw[aM (ne0 b o e)];exact I.base.free b o e n hb
 ·have:=I.base.tups b xs e
  rw[aM (ne b _ this)];exact this
 ·have:=I.base.frzs b o u e
  rw[aM (ne b _ this)];exact this
 ·obtain⟨more,q⟩:=I.base.tbls b ps e
  exact⟨more,by rw[aM (ne b _ q)];exact q⟩
 ·rw[aM (Ne.symm nl)];exact I.free
 ·rw[aM (nc y c e)];exact I.freeC y c e
 ·obtain⟨q1,q2,q3⟩:=I.pin p hp
  exact⟨q1,by rw[aM (np p hp)];exact q2,q3⟩
 ·by_cases z:a=x
  ·subst z
   rw[b7] at e
   cases e
   obtain⟨o,q1,q2,q4,q3⟩:=hC
   exact⟨⟨o,q1,q2,q4,q3⟩,⟨o,q1⟩,λh1 h2 ⟨o',p1,p2,p3,p4⟩ k=>⟨o',k o' p1,p2,p3,p4⟩⟩
  ·rw[aM z] at e
   refine(I.hok a o e).stay (λ_ _ _ q=>q) (λb q=> ?_) λb xs q=> ?_
   ·rw[aM (ne b _ q)];exact q
   ·rw[aM (ne b _ q)];exact q
theorem name_goes {M:Model} {A:Around} {E:Value->Shared->Prop} {i:Nat} {n:Str} {pos:Pos} {Q:Unit->Shared->Prop} (I:Inv X pins σ H s) (hN:X.N.Nodup) (hi:X.N[i]? =some n) (hl:X.env.scope.names.lookup n=some .local)
 (h:∀s',Inv X pins (σ.set i none) H s'->Q () s'):wpAny M A (do bindName X.env n .none;unbindBehindTheSuite X.env n pos) Q E s:=by
 have hcls:(X.env.scope.kind == .class||(X.env.scope.kind == .module&&X.env.locals != X.env.globals))=false:=by rw[I.ok.kind];rfl
 have hk:X.env.kindOf n=some .local:=hl
 refine wpAny_bind (wpAny_bindName (oh I hN hi (.inl hl) (v:=.non) (u:=.none) rfl (λs1 I1=> ?_) (.inr hl)))
 obtain⟨m,hn,hm⟩:=id I1.loc
 unfold unbindBehindTheSuite
 refine wpAny_onRaise ?_
 unfold unbindName
 refine wpAny_bind (wpAny_point (wpAny_bind ?_))
 unfold deleteName
 simp only[hk,hcls]
 rw[if_neg (by decide)]
 refine wpAny_bind (wpAny_nsDel_keeps hn λh2 w hn2 hs=> ?_)
 have hiσ:i<σ.length:=by rw[I.len];exact(List.getElem?_eq_some_iff.mp hi).1
 have some_n:(m n).isSome=true:=by
  obtain⟨u,r,q⟩:=hm i n .non hi (List.getElem?_set_self hiσ) (.inl hl)
  rcases q with⟨_,q⟩ | ⟨q,_⟩
  ·rw[q];rfl
  ·rw[hk] at q;rcases q with q | q <;> cases q
 rw[some_n]
 simp only[if_true,Bool.not_true,Bool.false_eq_true,if_false]
 refine wpAny_pure (wpAny_point (h _ ?_))
 have hs:Heap.SameBut X.env.locals s1.heap h2:=hs
 refine⟨I1.ok,I1.os,I1.bare,⟨λb o e n hb hx=> ?_,λb o e n hb hx=> ?_,I1.base.free,λb o e hx=> ?_,I1.base.tups,I1.base.frzs,I1.base.tbls⟩,⟨_,hn2,λj y v' e1 e2 e3=> ?_⟩,λy c e=> ?_,I1.free,I1.freeC,λp hp=> ?_,λb ob e=> ?_,by simpa using I.len⟩
 ·exact(hs.2 b (Nat.ne_of_lt (Nat.lt_of_lt_of_le (Heap.lt_size e) I.ok.above))).trans (I1.base.keep b o e n hb hx)
 ·obtain⟨sl,e1⟩:=I1.base.slot b o e n hb hx
  exact⟨sl,(hs.2 b (Nat.ne_of_lt (Nat.lt_of_lt_of_le (Heap.lt_size e) I.ok.above))).trans e1⟩
 ·obtain⟨o',e1⟩:=I1.base.there b o e hx
  exact⟨o',(hs.2 b (Nat.ne_of_lt (Nat.lt_of_lt_of_le (Heap.lt_size e) I.ok.above))).trans e1⟩
 ·by_cases hj:i=j
  ·subst hj
   rw[List.getElem?_set_self hiσ] at e2;cases e2
  ·rw[List.getElem?_set_ne hj] at e2
   obtain⟨u,r,q⟩:=hm j y v' e1 (by rw[List.getElem?_set_ne hj];exact e2) e3
   refine⟨u,r, ?_⟩
   have yn:y≠n:=λz=>hj (qL hN hi (z▸e1))
   rcases q with⟨k1,q⟩ | ⟨k1,c,e,z⟩
   ·exact .inl ⟨k1,by show (if y=n then w else m y)=_;rw[if_neg yn];exact q⟩
   ·exact .inr ⟨k1,c,e,z.sameBut hs (I1.cne y c e)⟩
 ·obtain⟨w',z⟩:=I1.cell y c e
  exact⟨w',z.sameBut hs (I1.cne y c e)⟩
 ·obtain⟨e,n,ne,nf,d⟩:=I1.pin p hp
  exact⟨(hs.2 p.1 ne).trans e,n,ne,nf,d⟩
 ·refine(I1.hok b ob e).stay (λc w' hc q=>(hs.2 c ?_).trans q) (λ_ q=>q) λ_ _ q=>q
  rintro rfl
  rcases hc with rfl | hc
  ·rw[I1.free] at e;cases e
  ·rw[I1.free] at hc;cases hc
theorem xu{M:Model}{A:Around}{E:Value->Shared->Prop}{x T:Addr}{oe:Obj}{Q:Unit->Shared->Prop}(ht:Trc s.heap x oe T)(h:∀h',(∀b u,s.heap.get? b=some u->h'.get? b=some u)->Q () {s with heap:=h'}):wpAny M A (setFlight (.ref x) none) Q E s:=by
 obtain⟨he,⟨vs,hd,h1⟩,hne,oT,ts,hT,hdT,h3⟩:=ht
 unfold setFlight
 refine wpAny_bind (wpAny_field he hd h1 ?_)
 rw[if_pos (by simp)]
 refine wpAny_setField hT hdT (Array.getElem?_eq_some_iff.mp h3).1 (h _ λb u e=> ?_)
 by_cases z:b=T
 ·subst z
  cases hT.symm.trans e
  have same:Obj.mapFields (·.setIfInBounds 3 ((none:Option Addr).elim Value.none λf=>rawInt f)) oT=oT:=by
   obtain⟨c,d,dt,sl⟩:=oT
   cases hdT
   show (Obj.mk c d (.fields (ts.setIfInBounds 3 Value.none)) sl)=_
   congr 2
   apply Array.ext
   ·simp
   ·intro k hk1 hk2
    rw[Array.getElem_setIfInBounds (by simpa using hk2)]
    split
    ·rename_i q
     subst q
     have:=(Array.getElem?_eq_some_iff.mp h3).2
     exact this.symm
    ·rfl
  have:=Heap.get?_update_self (Obj.mapFields (·.setIfInBounds 3 ((none:Option Addr).elim Value.none λf=>rawInt f))) hT (by rw[same];exact Obj.isFreed_of_fields hdT)
  rw[same] at this
  exact this
 ·rw[Heap.get?_update_other _ _ (Ne.symm z)];exact e
end
end L2
set_option maxRecDepth 100000
set_option maxHeartbeats 4000000
namespace L2
open PySem PySem.Spec PyProof.Rows
structure lU(X:Cx)(pins:List (Addr×Obj))(H:Hp)(s:Shared)(x C:Addr):Prop where
 tr:∃oe T,Trc s.heap x oe T/\oe.cls=.ref C/\oe.dict=none
 hx:H x=none
 h0:X.s₀.heap.get? x=none
 nl:x≠X.env.locals
 nc:∀y c,X.env.cells.lookup y=some c->c≠x
 np:∀p∈X.pn++pins,p.1≠x
theorem lU.kept{X:Cx}{pins:List (Addr×Obj)}{H:Hp}{s:Shared}{x C:Addr}{h':Heap}(c:lU X pins H s x C)(k:∀b u,s.heap.get? b=some u->h'.get? b=some u):lU X pins H {s with heap:=h'} x C:=
 let ⟨oe,T,⟨e,d,n,oT,ts,a1,a2⟩,hc⟩:=c.tr
 ⟨⟨oe,T,⟨k _ _ e,d,n,oT,ts,k _ _ a1,a2⟩,hc⟩,c.hx,c.h0,c.nl,c.nc,c.np⟩
theorem lU.obj{X:Cx}{pins:List (Addr×Obj)}{H:Hp}{s:Shared}{x C:Addr}(c:lU X pins H s x C):∃o,s.heap.get? x=some o/\o.cls=.ref C/\o.dict=none/\∀cd,o.data≠ .cls cd:=
 let ⟨oe,T,⟨e,⟨vs,d,_⟩,_,_⟩,hc,hd⟩:=c.tr
 ⟨oe,e,hc,hd,λcd z=>by rw[d] at z;cases z⟩
def HB(X:Cx)(hs:List ExceptHandler)(th:Addr->TS):Prop:=∀(pins:List (Addr×Obj)) (σ:St) (H:Hp) (s:Shared) (x C:Addr) (D:Ends),Inv X pins σ H s->lU X pins H s x C->th C D σ H->wpAny (model X.prog X.w) X.A (handleBy (.ref x) X.env hs) (SP X pins D) X.xe s
theorem Bp{X:Cx}:HB X [] λ_ _ _ _=>False:=λ_ _ _ _ _ _ _ _ _ z=>z.elim
def tEx(sub:Addr->Option Bool)(tb:Addr->TS)(th:Addr->TS):Addr->TS:=λC D σ H=>match sub C with
 | some true=>tb C D σ H
 | some false=>th C D σ H
 | none=>False
def tAs(i:Nat)(tb:TS):Addr->TS:=λC D σ H=>∀x,H x=none->tb {nx:=λσ' H'=>D.nx (σ'.set i none) H',rt:=D.rt,bk:=λσ' H'=>D.bk (σ'.set i none) H',ct:=λσ' H'=>D.ct (σ'.set i none) H'} (σ.set i (some (.ref x))) (upd H x (exO x C))
section
variable {X : Cx} {c : Str} {Dc : Addr} {np pos : Pos} {b0 : Stmt} {suite : List Stmt} {rest : List ExceptHandler} {sub : Addr → Option Bool} {tb : TS} {th : Addr → TS}
theorem yF {pins:List (Addr×Obj)} {σ:St} {H:Hp} {s:Shared} {x C:Addr} {name:Option Str} {body:List Stmt} {b:Bool} {Q:Flow->Shared->Prop} (I:Inv X pins σ H s) (cg:lU X pins H s x C) (hg:Gl X c) (hm:X.mg c=some (.ref Dc)) (hs:PySem.W.exmOne X.K (.ref C) (.ref Dc)=some b)
 (h:if b then codeAny (model X.prog X.w) (X.A.mark (some (.ref x))) (.handlers (.ref x) [.ExceptHandler none name body pos] X.env) (λr s₂=>match r with
  | .ok f=>(match name with
   | none=>Q f s₂
   | some n=>wpAny (model X.prog X.w) X.A (do bindName X.env n .none;unbindBehindTheSuite X.env n pos) (λ_ s₃=>Q f s₃) X.xe s₂)
  | .error x=>cameBackBy (model X.prog X.w) X.A X.env X.xe x s₂) s
  else wpAny (model X.prog X.w) X.A (handleBy (.ref x) X.env rest) Q X.xe s) (hdb:(c == ("__debug__" :Str))=false):wpAny (model X.prog X.w) X.A (handleBy (.ref x) X.env (.ExceptHandler (some (.Name c np)) name body pos::rest)) Q X.xe s:=by
 obtain⟨o,ho,hc,_⟩:=cg.obj
 have LT:PySem.W.Looks (model X.prog X.w) s.heap (typeOf (.ref x)) (.ref C):=hc▸(PySem.W.Looks.ld ho).andThen .now
 refine wpAny_handleBy_cons (codeAny_handlers_test ?_) (by intro q;cases q)
 refine kA (I.hand (.ref x)) hg hm ((PySem.W.exm_one I.kIn LT hs).here ?_) hdb
 cases b with
 | true=>exact h
 | false=>exact h
theorem Dm {i:Nat} {n:Str} (hN:X.N.Nodup) (hi:X.N[i]? =some n) (hl:X.env.scope.names.lookup n=some .local) (hg:Gl X c) (hm:X.mg c=some (.ref Dc)) (hs:∀C b,sub C=some b->PySem.W.exmOne X.K (.ref C) (.ref Dc)=some b)
 (hb:∀v,PSs (X.hand v) (b0::suite) tb) (hr:HB X rest th) (hdb:(c == ("__debug__" :Str))=false:=by decide):HB X (.ExceptHandler (some (.Name c np)) (some n) (b0::suite) pos::rest) (tEx sub (tAs i tb) th):=by
 intro pins σ H s x C D I cg h
 unfold tEx at h
 split at h
 ·rename_i e
  refine yF I cg hg hm (hs C _ e) ?_ hdb
  rw[if_pos rfl]
  obtain⟨oe,T,tr,_⟩:=cg.tr
  refine codeAny_handlers_suite_as (xu tr λh' k=> ?_)
  have I2:=I.kept (t':=s.toks) k
  have cg2:=cg.kept k
  have J:=(I2.track cg2.hx cg2.h0 cg2.obj cg2.nl cg2.nc cg2.np).hand (.ref x)
  refine oh (X:=X.hand (.ref x)) J hN hi (.inl hl) (v:=.ref x) rfl (λs3 J3=> ?_) (.inr hl)
  refine wpAny_mono (hb (.ref x) pins s3 _ _ _ J3 (h x cg.hx)) (λf s4 q=> ?_) λ_ _ z=>False.elim z
  have q:=q.unhand I.ok
  cases f with
  | next=>
   obtain⟨σ',H',I4,q⟩:=q
   exact name_goes I4 hN hi hl λs5 I5=>⟨_,_,I5,q⟩
  | brk=>
   obtain⟨σ',H',I4,q⟩:=q
   exact name_goes I4 hN hi hl λs5 I5=>⟨_,_,I5,q⟩
  | cont=>
   obtain⟨σ',H',I4,q⟩:=q
   exact name_goes I4 hN hi hl λs5 I5=>⟨_,_,I5,q⟩
  | ret u=>
   obtain⟨v,σ',H',I4,r,q⟩:=q
   exact name_goes I4 hN hi hl λs5 I5=>⟨v,_,_,I5,r,q⟩
 ·rename_i e
  exact yF I cg hg hm (hs C _ e) (hr pins σ H s x C D I cg h) hdb
 ·exact h.elim
end
def Gi(tb:(St->XK)->TS)(th:Addr->TS):TS:=λD σ H=>tb (λσ' cls dx H'=>∃C,cls=.ref C/\dx=none/\th C D σ' H') D σ H
theorem Bu {X:Cx} {body:List Stmt} {h0:ExceptHandler} {hs:List ExceptHandler} {pos:Pos} {tb:(St->XK)->TS} {th:Addr->TS} (hstk:X.stack=X.env::X.outer) (hfr:X.env.frame=some X.env.locals) (hex:X.ex=[])
 (hb:∀(p:List (Addr×Obj)) (E':Value->Shared->Prop) (Es:St->XK),nG (CXE X.prog X.w) (X.pinned p E') Es->PSs (X.pinned p E') body (tb Es)) (hh:HB X (h0::hs) th):PS X (.Try body (h0::hs) [] [] pos) (Gi tb th):=by
 intro pins s σ H D I h
 let Es:St->XK:=λσ' cls dx H'=>∃C,cls=.ref C/\dx=none/\th C D σ' H'
 let E':Value->Shared->Prop:=λe s'=>∃σ1 H1 s1,Inv X pins σ1 H1 s1/\CXE X.prog X.w X.stack H1 s1 (Es σ1) e s'
 have hp:nG (CXE X.prog X.w) (X.pinned (X.pn++pins) E') Es:=λp1 σ1 H1 s1 e s' I1 c=>⟨σ1,H1,s1,I1.ofPinned,c⟩
 refine wpAny_Try_except (wpAny_mono (hb (X.pn++pins) E' Es hp [] s σ H D (I.toPinned E') h) (λf s1 q=> ?_) λe s1 ⟨σ1,H1,s2,I1,x,oe,T0,H2,C,he,os,bare,fl,hE⟩=> ?_)
 ·cases f with
  | next=>
   obtain⟨σ1,H1,I1,q⟩:=q
   exact wpAny_execs_nil ⟨σ1,H1,I1.ofPinned,q⟩
  | brk=>exact let ⟨σ1,H1,I1,q⟩:=q;⟨σ1,H1,I1.ofPinned,q⟩
  | cont=>exact let ⟨σ1,H1,I1,q⟩:=q;⟨σ1,H1,I1.ofPinned,q⟩
  | ret u=>exact let ⟨v,σ1,H1,I1,r,q⟩:=q;⟨v,σ1,H1,I1.ofPinned,r,q⟩
 ·subst he
  have J:=I1.call' os fl.un fl.hok bare (λb z=>absurd z (by simp))
  have fs:=J.stack
  have ff:=J.ok.frames
  rw[hstk] at fs ff
  refine uA (base:=X.base) ff fs hfr fl.tr λh1 h' T h01 hsz xl=> ?_
  rw[<- hstk] at xl
  have J2:=I1.landed J hstk hfr hex fl.nx fl.hx fl.nT fl.hT h01 hsz xl fl.cls
  obtain⟨oe',vs,e1,e2,e3,e4,e5⟩:=xl.exc
  obtain⟨C',hC',hdx,q⟩:=hE
  cases hC'
  refine hh pins σ1 H2 _ x C D J2 ⟨⟨oe',T,⟨e1,⟨vs,e4,e5⟩,xl.ne,xl.trc⟩,e2.trans fl.cls,e3.trans hdx⟩,fl.hx,I1.old hex fl.nx,λz=> ?_,λy c e z=> ?_,λp hp z=> ?_⟩ q
  ·obtain⟨m,⟨o,_,_,ho,_⟩,_⟩:=I1.loc
   rw[<- z,fl.nx] at ho;cases ho
  ·obtain⟨v,o,ho,_⟩:=I1.cell y c e
   rw[z,fl.nx] at ho;cases ho
  ·obtain⟨e,_⟩:=I1.pin p hp
   rw[z,fl.nx] at e;cases e
end L2
set_option maxRecDepth 100000
set_option maxHeartbeats 4000000
namespace L2
open PySem PySem.Spec PyProof.Rows PySem.W
structure ExK(K:PySem.W.Frag)(D:Addr):Prop where
 ga:findIn K (.ref D) "__getattribute__" =some (some (.builtin "BaseException.__getattribute__"))
 hk:findIn K (.ref D) "__getattr__" =some none
 cl:findIn K (.ref D) "__class__" =some (some (.builtin "object.__class__"))
 gt:specialIn K (.builtin "object.__class__") "__get__" =some (some (.builtin "getset_descriptor.__get__"))
 tk:takesIn K (.builtin "object.__class__")=some true
 ob:mroIn K D (.type "object")=some true
 be:mroIn K D (.type "BaseException")=some true
section
variable {prog : Program} {w : World} {A : Around} {E : Value → Shared → Prop} {s : Shared} {K : PySem.W.Frag} {x D : Addr} {ox : Obj}
theorem uL{C:Addr}{name:Str}{a g:Value}(hc:(clsIn K C).isSome=true)(ha:findIn K (.ref C) name=some (some a))(hg:specialIn K a "__get__" =some (some g))(ht:takesIn K a=some true):findObj K C none name=some (.bind g a):=by
 obtain⟨cd,hc⟩:=Option.isSome_iff_exists.mp hc
 unfold findObj
 rw[hc,Option.bind_some,ha,Option.bind_some]
 simp[hg,ht]
theorem ExK.cls(k:ExK K D):(clsIn K D).isSome=true:=by
 obtain⟨cd,hc,_⟩:=Option.bind_eq_some_iff.mp k.ob
 rw[hc];rfl
theorem Bv{Q:Option Value->Shared->Prop}(k:ExK K D)(X:K.In s.heap)(I:InstAt s.heap x ox D none)(h:Q (some (.ref D)) {s with toks:=s.toks+1}):wpAny (model prog w) A (getAttr? (.ref x) "__class__") Q E s:=by
 obtain⟨hh,g,d,t,os⟩:=s
 have L0:=I.type (M:=model prog w)
 have L1:=looks_findIn (M:=model prog w) X k.ga
 have L2:=looks_findIn (M:=model prog w) X k.hk
 have L3:=looks_mroIn (M:=model prog w) X k.be
 have L4:=looks_find (M:=model prog w) X I (uL k.cls k.cl k.gt k.tk)
 unfold getAttr? getAttrBy? getAttrBy
 refine wpAny_bind (wpAny_mkText (wpAny_bind (wpAny_attempt (wpAny_holding (wpAny_bind (L0.at (wpAny_bind (L1.at ?_))))))))
 have ne:(onTheHeap (Value.ref D)&&(Value.builtin "BaseException.__getattribute__" == Value.builtin "object.__getattribute__"))=false:=by
  rw[show (Value.builtin "BaseException.__getattribute__" == Value.builtin "object.__getattribute__")=false by decide +kernel,Bool.and_false]
 dsimp only
 rw[if_neg (by rw[ne];decide)]
 unfold getAttrByItsOwn hookBefore
 rw[if_pos (by rfl)]
 refine wpAny_bind (L2.at ?_)
 unfold callGetattribute
 rw[if_neg (by decide)]
 unfold boundAndCalled
 refine wpAny_bind (wpAny_attempt (wpAny_holding (wpAny_bind ?_)))
 rw[F.attr_ValueError.ga.bind]
 refine wpAny_pure ?_
 refine wpAny_call (codeAny_call_builtin F.attr_ValueError.ga.plain F.entry_bexc_ga ?_)
 have hkd:builtinKind "BaseException.__getattribute__" =some .slot:=by decide +kernel
 have hsp:splitId "BaseException.__getattribute__" =some ("BaseException","__getattribute__"):=by decide +kernel
 have ha:=F.args_bexc_ga (.ref x) (.str "__class__" t)
 have LI:Looks (model prog w) hh (isInstance (.ref x) (.type "BaseException")) true:=L0.andThen L3
 show wpAny _ _ (checkBuiltinCall "BaseException.__getattribute__" ⟨[.ref x,.str "__class__" t],[]⟩) _ _ _
 simp only[checkBuiltinCall,hkd,hsp]
 refine wpAny_bind (LI.at ?_)
 repeat wp_step
 refine wpAny_loadPart I.at_ ?_
 rw[I.cls]
 refine wpAny_pure (wpAny_bind (L4.at ?_))
 dsimp only
 unfold Builtin.ObjectAttr.bindTo
 dsimp only
 repeat wp_step
 refine class_get (ox:=ox) (od:=none) X I k.ob ?_
 exact wpAny_pure (handed_on rfl (wpAny_pure h))
def zG(x D:Addr)(h:Heap):Prop:=∃o,h.get? x=some o/\o.cls=.ref D/\o.dict=none/\(∀cd,o.data≠ .cls cd)
theorem zG.inst{h:Heap}(e:zG x D h):∃ox,InstAt h x ox D none:=by
 obtain⟨o,h1,h2,h3,h4⟩:=e
 refine⟨o,h1,h2, ?_,by rw[h3];trivial⟩
 unfold notCls
 split
 ·rename_i cd z;exact absurd z (h4 cd)
 ·rfl
theorem rj(k:ExK K D):KitX K (.ref x) (.ref D) (zG x D) where
 ty:=λ_ _ _ e=>let ⟨_,i⟩:=e.inst;i.type
 it:=λ_ _ X _=>by
  obtain⟨cd,hc⟩:=Option.isSome_iff_exists.mp k.cls
  unfold clsIn at hc
  split at hc
  ·rename_i look
   intro A' Q' E' s' kp q
   unfold isType loadHead
   exact wpAny_bind (wpAny_loadPart (kp _ _ (X _ _ look)) (wpAny_pure q))
  ·cases hc
 ne:=λh tp dd its n sl X htp=>by
  obtain⟨cd,hc⟩:=Option.isSome_iff_exists.mp k.cls
  refine Bool.eq_false_iff.mpr λq=> ?_
  cases Value.ref.inj (beq_iff_eq.mp q)
  unfold clsIn at hc
  split at hc
  ·rename_i look
   cases (X _ _ look).symm.trans htp
  ·cases hc
 ca:=λX e h=>let ⟨_,i⟩:=e.inst;Bv k X i h
end
def sS(K:PySem.W.Frag):List V->Hp->VK->Prop:=λxs H Q=>∃a D b,H a=some (exO a D)/\ExK K D/\Q (.bl b) H/\
 ((∃C,xs=[.ref a,.ref C]/\kitOne K (.ref D) (.ref C)=some b)\/(∃T,xs=[.ref a,.ty T]/\kitOne K (.ref D) (.type T)=some b)\/∃(tp:Addr) (Cs:List Addr),xs=[.ref a,.ref tp]/\H tp=some (.tup (Cs.map V.ref))/\kitAny K (.ref D) (Cs.map Value.ref)=some b)
theorem tV:∀{Cs:List Addr} {us:List Value},Vals (Cs.map V.ref) us->us=Cs.map Value.ref
 | [],_,h=>by cases h;rfl
 | C::Cs,_,h=>by
  cases h with
  | cons r t=>
   rw[tV t]
   cases r
   rfl
theorem qP{X:Cx}:ic X (.builtin "isinstance") (sS X.K):=by
 intro pins s σ H xs us Q I r h
 obtain⟨a,D,b,ha,k,q,h⟩:=h
 have at_:zG a D s.heap:=(I.hok a _ ha).1
 have fin:∀tk,EP X pins σ Q (.bool b) {s with toks:=tk}:=λtk=>⟨.bl b,H,I.tok tk,rfl,q⟩
 rcases h with⟨C,rfl,hk⟩ | ⟨T,rfl,hk⟩ | ⟨tp,Cs,rfl,htp,hk⟩
 ·obtain⟨u,v,rfl,r1,r2⟩:=vals2 r
  cases (show u=Value.ref a from r1)
  cases (show v=Value.ref C from r2)
  exact kia_one (rj k) I.kIn at_ hk (λz=>nomatch z) fin
 ·obtain⟨u,v,rfl,r1,r2⟩:=vals2 r
  cases (show u=Value.ref a from r1)
  cases (show v=Value.type T from r2)
  exact kia_one (rj k) I.kIn at_ hk (λz=>nomatch z) fin
 ·obtain⟨u,v,rfl,r1,r2⟩:=vals2 r
  cases (show u=Value.ref a from r1)
  cases (show v=Value.ref tp from r2)
  obtain⟨_,its,rv,ob,ho,hc,n,hd⟩:=I.hok tp _ htp
  cases tV rv
  obtain⟨c0,d0,dt,sl⟩:=ob
  cases hc
  cases hd
  exact kia_tup (rj k) I.kIn at_ ho hk (λz=>nomatch z) fin
end L2
set_option maxRecDepth 100000
set_option maxHeartbeats 4000000
namespace L2
open PySem PySem.Spec PyProof.Rows
section
variable {X : Cx} {pins : List (Addr × Obj)} {σ : List (Option V)} {H : Hp} {s : Shared} {h' : Heap}
theorem Inv.turnedL{t':Nat}{ch:List Addr}(I:Inv X pins σ H s)(k:∀b o,b∉ch->s.heap.get? b=some o->h'.get? b=some o)(hf:∀b∈ch,kj X pins H b):Inv X pins σ H {s with heap:=h',toks:=t'}:=by
 have nit:∀b u,H b=some u->b∉ch:=λb u e z=>by rw[(hf b z).1] at e;cases e
 refine I.step (g':=s.gens) (d':=s.drawn) (ch:=ch) (λb hb=> ?_) (λb o _ _ hc e _=>k b o hc e) (λb o _ _ hc e _=>⟨o.slots,k b o hc e⟩) (λ_ _ _ _ n=>n)
  (λb o hc e=>⟨o,k b o hc e⟩) (λ_ _ e=>e) (λ_ _ _ e=>e) (λb ps e=>⟨#[],by rw[e];simp⟩) (λm hm=> ?_) (λb u e=> ?_) I.bare
 ·obtain⟨f0,f1,f2,f3,f4,f5⟩:=hf b hb
  exact⟨f3,f1,f4,f5⟩
 ·obtain⟨o,es,ep,ho,r⟩:=hm
  exact⟨o,es,ep,k _ o (λz=>(hf _ z).2.1 rfl) ho,r⟩
 ·refine(I.hok b u e).stay (λc v hc q=>k c v ?_ q) (λ_ q=>q) λ_ _ q=>q
  rcases hc with z | z
  ·rw[z];exact nit b u e
  ·exact nit c _ z
theorem Inv.turnedT {t':Nat} {ch:List Addr} {T:Addr} {xs:List V} (I:Inv X pins σ H s) (k:∀b o,b∉ch->s.heap.get? b=some o->h'.get? b=some o) (hf:∀b∈ch,kj X pins H b) (hT:s.heap.objs.size<=T)
 (new:eV X.prog X.w (upd H T (.tup xs)) h' T (.tup xs)):Inv X pins σ (upd H T (.tup xs)) {s with heap:=h',toks:=t'}:=by
 have hn:H T=none:=I.hok.fresh hT
 have nit:∀b u,H b=some u->b∉ch:=λb u e z=>by rw[(hf b z).1] at e;cases e
 refine I.step (g':=s.gens) (d':=s.drawn) (ch:=ch) (λb hb=> ?_) (λb o _ _ hc e _=>k b o hc e) (λb o _ _ hc e _=>⟨o.slots,k b o hc e⟩) (λb o _ e n=> ?_)
  (λb o hc e=>⟨o,k b o hc e⟩) (λb xs e=>by rw[aM (d4 e hn)];exact e) (λb o u e=>by rw[aM (d4 e hn)];exact e) (λb ps e=>⟨#[],by rw[aM (d4 e hn),e];simp⟩) (λm hm=> ?_) (λb u e=> ?_) I.bare
 ·obtain⟨f0,f1,f2,f3,f4,f5⟩:=hf b hb
  exact⟨f3,f1,f4,f5⟩
 ·have hb:b≠T:=λz=>by
   subst z
   exact absurd (Nat.lt_of_lt_of_le (Heap.lt_size e) hT) (Nat.lt_irrefl _)
  rw[aM hb];exact n
 ·obtain⟨o,es,ep,ho,r⟩:=hm
  exact⟨o,es,ep,k _ o (λz=>(hf _ z).2.1 rfl) ho,r⟩
 ·by_cases hb:b=T
  ·subst hb;rw[b7] at e;cases e;exact new
  ·rw[aM hb] at e
   refine(I.hok b u e).stay (λc v hc q=>k c v ?_ q) (λc q=>by rw[aM (d4 q hn)];exact q) λc xs q=>by rw[aM (d4 q hn)];exact q
   rcases hc with z | z
   ·rw[z];exact nit b u e
   ·exact nit c _ z
end
def Itz(K:PySem.W.Frag)(a b:Addr):It:=
 ⟨λi H=>∃xs ys x y,SqL K H a xs/\SqL K H b ys/\xs[i]? =some x/\ys[i]? =some y,
  λi H v H'=>∃T x y,H T=none/\v=.ref T/\H'=upd H T (.tup [x,y])/\(∀xs,SqL K H a xs->xs[i]? =some x)/\∀ys,SqL K H b ys->ys[i]? =some y,
  λi H=>∃xs ys,SqL K H a xs/\SqL K H b ys/\(xs.length<=i\/ys.length<=i)⟩
def Ite(K:PySem.W.Frag)(a:Addr):It:=
 ⟨λi H=>∃xs x,SqL K H a xs/\xs[i]? =some x,
  λi H v H'=>∃T x,H T=none/\v=.ref T/\H'=upd H T (.tup [.int i,x])/\∀xs,SqL K H a xs->xs[i]? =some x,
  λi H=>∃xs,SqL K H a xs/\xs.length<=i⟩
def Its(x:Str):It:=⟨λi _=>i<x.cps.size,λi H v H'=>H'=H/\∃c,x.cps[i]? =some c/\v=.str ⟨#[c]⟩,λi _=>x.cps.size<=i⟩
theorem AB{P:Program}{w:World}{H:Hp}{h:Heap}{T:Addr}{x y:V}{u v:Value}(rx:RelV x u)(ry:RelV y v)(hT:h.IsTuple T #[u,v]):eV P w H h T (.tup [x,y]):=by
 refine⟨by simp only[List.length_cons,List.length_nil];rw[sizeLine_eq];decide,[u,v],.cons rx (.cons ry .nil), ?_⟩
 exact hT
theorem B4{P:Program}{w:World}{K:PySem.W.Frag}{elts:List Expr}{kk:Nat}{tp:Pos}{z TI TO i1 i2 a b:Addr}(D:ZipApart z TI TO i1 i2 a b):
 Turn P w K (.Tuple elts kk tp) (Itz K a b) [z,TI,TO,i1,i2] z (λi h=>IsZip h z TI TO .none/\IsPair h TI (.ref i1) (.ref i2)/\(∃u v,IsPair h TO u v)/\h.IsListIter i1 a i/\h.IsListIter i2 b i) where
 mem:=by simp
 obj:=λi h st c hc=>by
  obtain⟨q1,q2,⟨u,v,q3⟩,⟨o1,e1,c1,d1⟩,⟨o2,e2,c2,d2⟩⟩:=st
  simp only[List.mem_cons,List.not_mem_nil,or_false] at hc
  rcases hc with rfl | rfl | rfl | rfl | rfl
  ·exact⟨_,q1,λv z=>by have z':Data.fields _=Data.cell v:=z;cases z'⟩
  ·exact⟨_,q2,λv z=>by have z':Data.seq _ _=Data.cell v:=z;cases z'⟩
  ·exact⟨_,q3,λv z=>by have z':Data.seq _ _=Data.cell v:=z;cases z'⟩
  ·exact⟨o1,e1,λv z=>by rw[d1] at z;cases z⟩
  ·exact⟨o2,e2,λv z=>by rw[d2] at z;cases z⟩
 keep:=λi h h' st k=>by
  obtain⟨q1,q2,⟨u,v,q3⟩,q4,q5⟩:=st
  exact⟨k z (by simp) _ q1,k TI (by simp) _ q2,⟨u,v,k TO (by simp) _ q3⟩,q4.at λo e=>k i1 (by simp) o e,q5.at λo e=>k i2 (by simp) o e⟩
 item:=by
  intro X hP hw hK hc i pins s σ H E I hf st hg
  subst hP hw hK
  obtain⟨xs,ys,x,y,hq1,hq2,hx,hy⟩:=hg
  obtain⟨its1,rv1,p1,hz1⟩:=I.list hq1
  obtain⟨its2,rv2,p2,hz2⟩:=I.list hq2
  obtain⟨u,hu,ru⟩:=rv1.get hx
  obtain⟨v,hv,rv⟩:=rv2.get hy
  obtain⟨q1,q2,q3,q4,q5⟩:=id st
  have W:=WalksT.zip2 (prog:=X.prog) (w:=X.w) (A:=X.A) (I.ok.hd hc) z TI TO i1 i2 a b D its1.toArray its2.toArray
  have hi1:i<its1.length:=(List.getElem?_eq_some_iff.mp hu).1
  have hi2:i<its2.length:=(List.getElem?_eq_some_iff.mp hv).1
  refine W.item i s _ _ (by simp;omega) ⟨q1,q2,q3,q4,q5,p1.isList,p2.isList⟩ λT vals h1 tk hP hT isT mid kk1=>⟨.ref T,rfl,W.go elts _ tp i T _ _ _ mid λh2 st2 kk2=> ?_⟩
  obtain⟨u',v',e1,e2,rfl⟩:=hP
  rw[show its1.toArray[i]? =its1[i]? by simp,hu] at e1
  rw[show its2.toArray[i]? =its2[i]? by simp,hv] at e2
  cases e1;cases e2
  have nT:T∉([z,TO,i1,i2]:List Addr):=W.apart i T _ mid
  have sub:∀c,c∈([z,TO,i1,i2]:List Addr)->c∈([z,TI,TO,i1,i2]:List Addr):=λc hc=>by
   simp only[List.mem_cons,List.not_mem_nil,or_false] at hc ⊢
   rcases hc with h | h | h | h <;> simp[h]
  have kk:∀c o,c∉([z,TO,i1,i2]:List Addr)->s.heap.get? c=some o->h2.get? c=some o:=λc o hc e=>kk2 c o hc (kk1 c o hc e)
  have isT2:h2.IsTuple T #[u,v]:=by
   obtain⟨o,e,c,d⟩:=isT
   exact⟨o,kk2 T o nT e,c,d⟩
  have I2:Inv X pins σ (upd H T (.tup [x,y])) {s with heap:=h2,toks:=tk}:=I.turnedT kk (λc hc=>hf c (sub c hc)) hT (AB ru rv isT2)
  refine⟨.ref T,_,I2,rfl,⟨T,x,y,I.hok.fresh hT,rfl,rfl,λxs' h=>by rw[I.list_inj h hq1];exact hx,λys' h=>by rw[I.list_inj h hq2];exact hy⟩,⟨st2.1,st2.2.1,st2.2.2.1,st2.2.2.2.1,st2.2.2.2.2.1⟩,λc hc=> ?_⟩
  have hc0:=(hf c hc).1
  rw[aM (λe=> ?_)]
  ·exact hc0
  ·subst e
   simp only[List.mem_cons,List.not_mem_nil,or_false] at hc
   rcases hc with h | h | h | h | h
   ·exact nT (by simp[h])
   ·have:TI<s.heap.objs.size:=Heap.lt_size q2
    rw[<- h] at this
    exact absurd (Nat.lt_of_lt_of_le this hT) (Nat.lt_irrefl _)
   ·exact nT (by simp[h])
   ·exact nT (by simp[h])
   ·exact nT (by simp[h])
 done:=by
  intro X hP hw hK hc i pins s σ H E I hf st hg
  subst hP hw hK
  obtain⟨xs,ys,hq1,hq2,hx⟩:=hg
  obtain⟨its1,rv1,p1,hz1⟩:=I.list hq1
  obtain⟨its2,rv2,p2,hz2⟩:=I.list hq2
  have l1:=rv1.length
  have l2:=rv2.length
  obtain⟨q1,q2,⟨u,v,q3⟩,q4,q5⟩:=id st
  refine wpAny_pyNext_zip_end (I.ok.hd hc) D q1 q2 q3 q4 q5 p1.isList p2.isList (by
   rcases hx with h | h
   ·left;simp;omega
   ·right;simp;omega) λh' hk=>⟨rfl, ?_⟩
  exact I.turnedL (t':=s.toks) (ch:=[z,TI,TO,i1,i2]) (λc o hc e=>hk c o (λx=>hc (by simp[x])) (λx=>hc (by simp[x])) (λx=>hc (by simp[x])) (λx=>hc (by simp[x])) e) hf
 self:=λ_ _ _ _ _ st h=>wpAny_pyIter_zip st.1 h
theorem Bc{P:Program}{w:World}{K:PySem.W.Frag}{elts:List Expr}{kk:Nat}{tp:Pos}{e it a:Addr}(hei:e≠it)(hle:a≠e)(hli:a≠it):
 Turn P w K (.Tuple elts kk tp) (Ite K a) [e,it] e (λi h=>(∃old,IsEnum h e it i old)/\h.IsListIter it a i) where
 mem:=by simp
 obj:=λi h st c hc=>by
  obtain⟨⟨old,q1⟩,⟨o1,e1,c1,d1⟩⟩:=st
  simp only[List.mem_cons,List.not_mem_nil,or_false] at hc
  rcases hc with rfl | rfl
  ·exact⟨_,q1,λv z=>by have z':Data.fields _=Data.cell v:=z;cases z'⟩
  ·exact⟨o1,e1,λv z=>by rw[d1] at z;cases z⟩
 keep:=λi h h' st k=>by
  obtain⟨⟨old,q1⟩,q4⟩:=st
  exact⟨⟨old,k e (by simp) _ q1⟩,q4.at λo e'=>k it (by simp) o e'⟩
 item:=by
  intro X hP hw hK hc i pins s σ H E I hf st hg
  subst hP hw hK
  obtain⟨xs,x,hq1,hx⟩:=hg
  obtain⟨its1,rv1,p1,hz1⟩:=I.list hq1
  obtain⟨u,hu,ru⟩:=rv1.get hx
  obtain⟨q1,q4⟩:=id st
  have W:=WalksT.enumerate (prog:=X.prog) (w:=X.w) (A:=X.A) (I.ok.hd hc) e it a hei hle hli its1.toArray
  have hi1:i<its1.length:=(List.getElem?_eq_some_iff.mp hu).1
  refine W.item i s _ _ (by simpa using hi1) ⟨q1,q4,p1.isList⟩ λT vals h1 tk hP hT isT mid kk1=>⟨.ref T,rfl,W.go elts _ tp i T _ _ _ mid λh2 st2 kk2=> ?_⟩
  obtain⟨t,u',e1,rfl⟩:=hP
  rw[show its1.toArray[i]? =its1[i]? by simp,hu] at e1
  cases e1
  have nT:T∉([e,it]:List Addr):=W.apart i T _ mid
  have kk:∀c o,c∉([e,it]:List Addr)->s.heap.get? c=some o->h2.get? c=some o:=λc o hc e=>kk2 c o hc (kk1 c o hc e)
  have isT2:h2.IsTuple T #[.int i t,u]:=by
   obtain⟨o,e,c,d⟩:=isT
   exact⟨o,kk2 T o nT e,c,d⟩
  have I2:Inv X pins σ (upd H T (.tup [.int i,x])) {s with heap:=h2,toks:=tk}:=I.turnedT kk hf hT (AB ⟨t,rfl⟩ ru isT2)
  refine⟨.ref T,_,I2,rfl,⟨T,x,I.hok.fresh hT,rfl,rfl,λxs' h=>by rw[I.list_inj h hq1];exact hx⟩,⟨st2.1,st2.2.1⟩,λc hc=> ?_⟩
  have hcT:c≠T:=λz=>by
   subst z
   exact nT hc
  rw[aM hcT]
  exact(hf c hc).1
 done:=by
  intro X hP hw hK hc i pins s σ H E I hf st hg
  subst hP hw hK
  obtain⟨xs,hq1,hx⟩:=hg
  obtain⟨its1,rv1,p1,hz1⟩:=I.list hq1
  have l1:=rv1.length
  obtain⟨⟨old,q1⟩,q4⟩:=id st
  refine wpAny_pyNext_enum_end (I.ok.hd hc) q1 q4 p1.isList (by simp;omega) λh' hk=>⟨rfl, ?_⟩
  exact I.turnedL (t':=s.toks) (ch:=[e,it]) (λc o hc e'=>hk c o (λx=>hc (by simp[x])) e') hf
 self:=λ_ _ _ _ _ st h=>let ⟨_,q⟩:=st.1;wpAny_pyIter_enum q h
theorem CB{P:Program}{w:World}{K:PySem.W.Frag}{tg:Expr}(it:Addr)(x:Str)(t:Tok)(ty:String)(hty:ty="str_ascii_iterator" \/ty="str_iterator"):Turn P w K tg (Its x) [it] it (λi h=>h.IsStrIter it ty x t i) where
 mem:=by simp
 obj:=λi h st b hb=>by
  have e:b=it:=by simpa using hb
  subst e
  obtain⟨o,e,c,d⟩:=st
  exact⟨o,e,λv z=>by rw[d] at z;cases z⟩
 keep:=λi h h' st k=>let ⟨o,ho,r⟩:=st;⟨o,k it (by simp) o ho,r⟩
 item:=by
  intro X hP hw hK hc i pins s σ H E I hf st hg
  subst hP hw hK
  have hg:i<x.cps.size:=hg
  have W:Walks X.prog X.w X.A it [it] [it] x.cps.size (SignAt x) (λi h=>h.IsStrIter it ty x t i):=by
   rcases hty with rfl | rfl
   ·exact Walks.strAscii (I.ok.hd hc) it x t
   ·exact Walks.strWide (I.ok.hd hc) it x t
  refine W.item i s _ _ hg st λv h' tk hv st' kk=> ?_
  obtain⟨c,u,hc',rfl⟩:=hv
  have I1:Inv X pins σ H {s with heap:=h',toks:=tk}:=I.turnedL kk hf
  obtain⟨o,e,hc1,d⟩:=id st'
  exact⟨_,rfl,zO (s:={s with heap:=h',toks:=tk}) (n:=ty) e hc1 d (by rcases hty with rfl | rfl <;> decide) ⟨.str ⟨#[c]⟩,H,I1,⟨u,rfl⟩,⟨rfl,c,hc',rfl⟩,st',λb hb=>(hf b hb).1⟩⟩
 done:=by
  intro X hP hw hK hc i pins s σ H E I hf st hg
  subst hP hw hK
  have hg:x.cps.size<=i:=hg
  rcases hty with rfl | rfl
  ·exact wpAny_pyNext_ascii_end (I.ok.hd hc) st (by simp;omega) λh' eb=>⟨rfl,I.turnedL (t':=s.toks) (ch:=[it]) (λb o hb e=>eb b o (λz=>hb (by simp[z])) e) hf⟩
  ·exact wpAny_pyNext_wide_end (I.ok.hd hc) st (by simp;omega) λh' eb=>⟨rfl,I.turnedL (t':=s.toks) (ch:=[it]) (λb o hb e=>eb b o (λz=>hb (by simp[z])) e) hf⟩
 self:=λ_ _ _ _ _ st h=>by
  rcases hty with rfl | rfl
  ·exact wpAny_pyIter_striter_ascii st h
  ·exact wpAny_pyIter_striter_wide st h
section
variable {X : Cx} {tg : Expr}
def FD(K:PySem.W.Frag)(ta:TA):TI:=λσ H R=>ta σ H λvs H1=>∃a b,vs=[.ref a,.ref b]/\(∃xs,SqL K H1 a xs)/\(∃ys,SqL K H1 b ys)/\R (Itz K a b) H1
def Dq(K:PySem.W.Frag)(ta:TA):TI:=λσ H R=>ta σ H λvs H1=>∃a,vs=[.ref a]/\(∃xs,SqL K H1 a xs)/\R (Ite K a) H1
def FG(te:TE):TI:=λσ H R=>te σ H λx H1=>∃z,x=.str z/\R (Its z) H1
theorem v9{elts:List Expr}{kk:Nat}{tp:Pos}{a b:Expr}{ta:TA}{p pos:Pos}(hg:Gl X "zip")(hm:X.mg "zip" =none)(ha:PA X [a,b] ta)(hs:starEach [a,b] X.env=[(false,eval a X.env),(false,eval b X.env)]:=by rfl)(hs2:starEach [b] X.env=[(false,eval b X.env)]:=by rfl):
 PI X (.Tuple elts kk tp) (.Call (.Name "zip" p) [a,b] [] pos) (FD X.K ta):=by
 intro pins s σ H R I h
 refine Call_ (nA I hg hm Boot.«zip» (PyProof.Rows.callWith_type1 (thn (ha pos pins s σ H _ I h) λus s1 ⟨vs,H1,I1,r1,q1⟩=> ?_) (by rw[hs,hs2]) (by rw[hs2];rfl)))
 obtain⟨l1,l2,e,⟨xs,hq1⟩,⟨ys,hq2⟩,q⟩:=q1
 subst e
 obtain⟨u,v,rfl,r,r'⟩:=vals2 r1
 cases r
 cases r'
 obtain⟨its1,rv1,p1,hz1⟩:=I1.list hq1
 obtain⟨its2,rv2,p2,hz2⟩:=I1.list hq2
 refine call_zip_2 p1.isList p2.isList λh' hz hTI hTO hi1 hi2 hsz hk=> ?_
 have a1:l1<s1.heap.objs.size:=by obtain⟨_,e,_⟩:=p1.isList;exact Heap.lt_size e
 have a2:l2<s1.heap.objs.size:=by obtain⟨_,e,_⟩:=p2.isList;exact Heap.lt_size e
 refine wpAny_pyIter_zip hz ⟨_,_,_,_,H1,rfl,I1.kept (t':=s1.toks) hk,B4 (zipApart_new a1 a2),⟨hz,hTI,⟨_,_,hTO⟩,hi1,hi2⟩,λb hb=> ?_,q⟩
 have:s1.heap.objs.size<=b:=by
  simp only[List.mem_cons,List.not_mem_nil,or_false] at hb
  rcases hb with rfl | rfl | rfl | rfl | rfl <;> omega
 exact I1.fpOk this (I1.hok.fresh this)
theorem sA{elts:List Expr}{kk:Nat}{tp:Pos}{a:Expr}{ta:TA}{p pos:Pos}(hg:Gl X "enumerate")(hm:X.mg "enumerate" =none)(ha:PA X [a] ta)(hs:starEach [a] X.env=[(false,eval a X.env)]:=by rfl):
 PI X (.Tuple elts kk tp) (.Call (.Name "enumerate" p) [a] [] pos) (Dq X.K ta):=by
 intro pins s σ H R I h
 refine Call_ (nA I hg hm Boot.«enumerate» (PyProof.Rows.callWith_type1 (thn (ha pos pins s σ H _ I h) λus s1 ⟨vs,H1,I1,r1,q1⟩=> ?_) hs rfl))
 obtain⟨l1,e,⟨xs,hq1⟩,q⟩:=q1
 subst e
 obtain⟨u,rfl,ru⟩:=vals1 r1
 cases ru
 obtain⟨its1,rv1,p1,hz1⟩:=I1.list hq1
 refine call_enumerate_list p1.isList λh' hz hi1 hsz hk=> ?_
 have a1:l1<s1.heap.objs.size:=by obtain⟨_,e,_⟩:=p1.isList;exact Heap.lt_size e
 refine wpAny_pyIter_enum hz ⟨_,_,_,_,H1,rfl,I1.kept (t':=s1.toks) hk,Bc (e:=s1.heap.objs.size+1) (it:=s1.heap.objs.size) (a:=l1) (Nat.succ_ne_self _) (Nat.ne_of_lt (Nat.lt_succ_of_lt a1)) (Nat.ne_of_lt a1),⟨⟨_,hz⟩,hi1⟩,λb hb=> ?_,q⟩
 have:s1.heap.objs.size<=b:=by
  simp only[List.mem_cons,List.not_mem_nil,or_false] at hb
  rcases hb with rfl | rfl <;> omega
 exact I1.fpOk this (I1.hok.fresh this)
theorem FR{l:Expr}{tl:TE}(hl:PE X l tl):PI X tg l (FG tl):=by
 intro pins s σ H R I h
 refine thn (hl pins s σ H _ I h) λv s1 ⟨x,H1,I1,r1,q1⟩=> ?_
 obtain⟨z,e,q⟩:=q1
 subst e
 obtain⟨t,rfl⟩:=r1
 have fin:∀(ty:String),(ty="str_ascii_iterator" \/ty="str_iterator")->PIE X pins σ tg R (.ref s1.heap.objs.size) {s1 with heap:=s1.heap.push {cls:=.type ty,data:=.fields #[.str z t,.int 0 0]}}:=λty hty=>by
  refine⟨s1.heap.objs.size,[s1.heap.objs.size],_,_,H1,rfl,I1.kept (t':=s1.toks) λb o e=>Heap.get?_push_of_some _ e,CB _ z t ty hty,⟨_,Heap.get?_push_size _ rfl,rfl,rfl⟩,λb hb=> ?_,q⟩
  have e:b=s1.heap.objs.size:=by simpa using hb
  subst e
  exact I1.fpOk (Nat.le_refl _) (I1.hok.fresh (Nat.le_refl _))
 cases ha:z.cps.all (· < 128)
 ·exact wpAny_pyIter_wide ha (fin _ (.inr rfl))
 ·exact wpAny_pyIter_ascii ha (fin _ (.inl rfl))
theorem rZ:∀{ns:List Int} {its:List Value},Vals (ns.map V.int) its->IntsAre its ns
 | [],_,r=>by cases r;exact .nil
 | n::ns,_,r=>by
  cases r with
  | cons r1 r2=>
   obtain⟨t,rfl⟩:=r1
   exact .cons _ _ (rZ r2)
theorem kO(hc:X.calm=true:=by rfl):ic X (.builtin "sum") (λxs H Q=>∃(p:Addr) (ns:List Int),xs=[.ref p]/\SqL X.K H p (ns.map V.int)/\Q (.int ns.sum) H):=by
 intro pins s σ H xs us Q I r h
 obtain⟨p,ns,rfl,hq,q⟩:=h
 obtain⟨u,rfl,ru⟩:=vals1 r
 cases ru
 obtain⟨its,rv,pl,hz⟩:=I.list hq
 have hI:=rZ rv
 obtain⟨xs,exs⟩:=hI.allInts.items
 have hn:numsOf its=ns:=hI.numsOf
 rw[show its=its.toArray.toList by simp,exs,nums_intItems] at hn
 refine sum_intListG (I.ok.hd hc) (exs▸pl.isList) λh' tk t' hk=> ?_
 rw[preSum_eq,List.take_of_length_le (by simp),hn]
 exact⟨.int ns.sum,H,I.kept (t':=tk) hk,⟨t',rfl⟩,q⟩
theorem Hk{bs:List Bool}{its:List Value}(rv:Vals (bs.map V.bl) its){i:Nat}{v:Value}(h:its.toArray[i]? =some v):v=.bool (bs.getD i false):=by
 have hi:i<its.length:=by
  have:=(Array.getElem?_eq_some_iff.mp h).1
  simpa using this
 have hb:i<bs.length:=by have:=rv.length;rw[List.length_map] at this;omega
 obtain⟨u,hu,ru⟩:=rv.get (i:=i) (x:=.bl bs[i]) (by simp[hb])
 rw[show its.toArray[i]? =its[i]? by simp,hu] at h
 cases h
 cases ru
 simp[List.getD_eq_getElem?_getD,hb]
theorem all_range(bs:List Bool):(List.range bs.length).all (λi=>bs.getD i false)=bs.all id:=by
 induction bs with
 | nil=>rfl
 | cons b bs ih=>
  rw[List.length_cons,List.range_succ_eq_map,List.all_cons,List.all_map,List.all_cons]
  simp only[Function.comp_def,List.getD_cons_succ,List.getD_cons_zero,id]
  rw[ih]
theorem o7(hc:X.calm=true:=by rfl):ic X (.builtin "all") (λxs H Q=>∃(p:Addr) (bs:List Bool),xs=[.ref p]/\SqL X.K H p (bs.map V.bl)/\Q (.bl (bs.all id)) H):=by
 intro pins s σ H xs us Q I r h
 obtain⟨p,bs,rfl,hq,q⟩:=h
 obtain⟨u,rfl,ru⟩:=vals1 r
 cases ru
 obtain⟨its,rv,pl,hz⟩:=I.list hq
 have hl:=pl.isList
 have lt:p<s.heap.objs.size:=by obtain⟨_,e,_⟩:=hl;exact Heap.lt_size e
 have hlen:its.toArray.size=bs.length:=by have:=rv.length;rw[List.length_map] at this;simp;omega
 refine call_all_walk (wpAny_pyIter_list hl ?_)
 refine⟨_,_,_,_,_,_,λi=>bs.getD i false,rfl,Walks.list (A:=X.A.in1) (I.ok.hd hc) s.heap.objs.size p (Nat.ne_of_lt lt) its.toArray,⟨⟨_,Heap.get?_push_size _ rfl,rfl,rfl⟩,hl.push _⟩,λi v s' Q' E' hP hQ=> ?_,λh' tk hk=> ?_⟩
 ·rw[Hk rv hP]
  exact wpAny_truthy_bool hQ
 ·rw[hlen,all_range]
  refine⟨.bl (bs.all id),H,I.kept (t':=tk) λb o e=>hk b o (λz=> ?_) (Heap.get?_push_of_some _ e),rfl,q⟩
  have hb:=Heap.lt_size e
  rw[List.mem_singleton.mp z] at hb
  exact absurd hb (Nat.lt_irrefl _)
end
end L2
set_option maxRecDepth 100000
set_option maxHeartbeats 4000000
namespace L2
open PySem PySem.Spec PyProof.Rows
def pick{α:Type}(xs:List α)(lo hi st:Option Int):List α:=(sliceRange (sliceBounds lo hi st xs.length).1 (sliceBounds lo hi st xs.length).2.1 (sliceBounds lo hi st xs.length).2.2).filterMap (xs[·]?)
theorem nj{xs:List V}{us:List Value}(r:Vals xs us):∀js:List Nat,Vals (js.filterMap (xs[·]?)) (js.filterMap (us[·]?))
 | []=>.nil
 | j::js=>by
  have ih:=nj r js
  cases hn:xs[j]? with
  | some x=>
   obtain⟨u,hu,ru⟩:=r.get hn
   simp only[List.filterMap_cons,hn,hu]
   exact .cons ru ih
  | none=>
   have hv:us[j]? =none:=by
    rw[List.getElem?_eq_none_iff] at hn ⊢
    rw[<- r.length];exact hn
   simp only[List.filterMap_cons,hn,hv]
   exact ih
def IH(K:PySem.W.Frag):V->Option Int->Option Int->Option Int->Hp->VK->Prop:=λx lo hi st H Q=>∃a xs,x=.ref a/\SqL K H a xs/\st≠some 0/\∀p,H p=none->Q (.ref p) (upd H p (.lst (pick xs lo hi st)))
def Cn(K:PySem.W.Frag)(te:TE)(tl th ts:TO):TE:=λσ H Q=>te σ H λx H1=>tl σ H1 λl H2=>th σ H2 λu H3=>ts σ H3 λst H4=>IH K x l u st H4 Q
section
variable {X : Cx} {e se : Expr} {te : TE} {lo hi : Option Expr} {tl th ts : TO} {pos p2 : Pos}
theorem D9(he:PE X e te)(hl:PO X lo tl)(hu:PO X hi th)(hs:PO X (some se) ts):PE X (.Subscript e (.Slice lo hi (some se) p2) pos) (Cn X.K te tl th ts):=by
 intro pins s σ H Q I h
 refine Subscript_ (thn (he pins s σ H _ I h) λv s1 ⟨x,H1,I1,r1,q1⟩=> ?_)
 refine wpAny_Slice (thn (hl pins s1 σ H1 _ I1 q1) λvl s2 ⟨l,H2,I2,pl,q2⟩=>thn (hu pins s2 σ H2 _ I2 q2) λvu s3 ⟨u,H3,I3,pu,q3⟩=>thn (hs pins s3 σ H3 _ I3 q3) λvs s4 ⟨st,H4,I4,ps,q4⟩=> ?_)
 have I5:Inv X pins σ H4 {s4 with heap:=s4.heap.push {cls:=.type "slice",data:=.fields #[vl,vu,vs]}}:=I4.kept (t':=s4.toks) λb ob q=>Heap.get?_push_of_some _ q
 obtain⟨a,xs,rfl,hx,h0,q⟩:=q4
 cases r1
 obtain⟨its,r,ht,hz⟩:=I5.list hx
 have hlen:=r.length
 show wpAny (model X.prog X.w) X.A (subscriptTail e (.Slice lo hi (some se) p2) (.ref a) (.ref s4.heap.objs.size)) (EP X pins σ Q) X.xe {s4 with heap:=s4.heap.push {cls:=.type "slice",data:=.fields #[vl,vu,vs]}}
 refine tail_any (ops:=[.ref a,.ref s4.heap.objs.size]) ht.isList.typeIs slot_list_getitem.lookup ?_ (by with_unfolding_all rfl)
 refine wpAny_getItem_list_slice ht.isList (Heap.IsSliceOf.new ..) pl pu ps h0 ?_ (by rw[List.size_toArray] <;> omega)
 have hp:slicePick its.toArray l u st=((sliceRange (sliceBounds l u st xs.length).1 (sliceBounds l u st xs.length).2.1 (sliceBounds l u st xs.length).2.2).filterMap (its[·]?)).toArray:=by
  unfold slicePick
  rw[List.size_toArray,<- hlen]
  simp
 have hle:(pick xs l u st).length<=xs.length:=by
  have h1:=slicePick_size_le its.toArray l u st
  rw[hp,List.size_toArray,List.size_toArray,<- hlen] at h1
  have h2:=(nj r (sliceRange (sliceBounds l u st xs.length).1 (sliceBounds l u st xs.length).2.1 (sliceBounds l u st xs.length).2.2)).length
  show (List.filterMap (xs[·]?) _).length<=_
  rw[h2];exact h1
 rw[hp]
 refine⟨.ref _,_,I5.laid (t':=s4.toks) (o:=.lst (pick xs l u st)) (λb ob q=>Heap.get?_push_of_some _ q) (Nat.le_refl _) ?_,rfl,q _ (I5.hok.fresh (Nat.le_refl _))⟩
 exact⟨Nat.le_trans hle hz,_,0,nj r _,Heap.get?_push_size _ rfl⟩
end
end L2
set_option maxRecDepth 100000
set_option maxHeartbeats 4000000
namespace L2
open PySem PySem.Spec PyProof.Rows
section
variable {X : Cx} {tg : Expr}
end
end L2
set_option maxRecDepth 100000
set_option maxHeartbeats 4000000
namespace L2
open PySem PySem.Spec PyProof.Rows
def jX(x:Str)(lo hi:Option Int):Str:=
 if ((Builtin.Str.strSliceIndices lo hi 1 x.length).length == x.length)=true then x else ⟨((Builtin.Str.strSliceIndices lo hi 1 x.length).filterMap (x.cps[·]?)).toArray⟩
section
variable {X : Cx}
def Dk:V->Option Int->Option Int->Hp->VK->Prop:=λx lo hi H Q=>∃z,x=.str z/\z.length<=sizeLine/\Q (.str (jX z lo hi)) H
theorem AL:SlR X Dk:=by
 intro pins s σ H x v vl vu lo hi sl Q I rx hs pl pu h
 obtain⟨z,rfl,hz,q⟩:=h
 obtain⟨t,rfl⟩:=rx
 refine⟨"str",_,F.slot_str_getitem.lookup,typeIs_str _ _ _, ?_⟩
 have part:∀{v:Value} {o:Option Int},IsPart v o->∃p:Option (Int×Tok),v=partValue p/\p.map (·.1)=o:=λh=>by
  cases h with
  | none=>exact⟨none,rfl,rfl⟩
  | int i t=>exact⟨some (i,t),rfl,rfl⟩
 obtain⟨l,rfl,rfl⟩:=part pl
 obtain⟨u,rfl,rfl⟩:=part pu
 refine wpAny_getItem_str_slice (l:=l) (u:=u) (st:=none) hs rfl ?_
 unfold sliceMade
 show Made.post (if (true&&((Builtin.Str.strSliceIndices (l.map (·.1)) (u.map (·.1)) 1 z.length).length == z.length))=true then _ else _) _ _
 unfold jX at q
 rw[Bool.true_and]
 by_cases hc:((Builtin.Str.strSliceIndices (l.map (·.1)) (u.map (·.1)) 1 z.length).length == z.length)=true
 ·rw[if_pos hc] at q ⊢
  exact⟨.str z,H,I,⟨t,rfl⟩,q⟩
 ·rw[if_neg hc] at q ⊢
  refine⟨?_,⟨.str _,H,I.tok _,⟨_,rfl⟩,q⟩⟩
  show (List.toArray _).size<=_
  rw[List.size_toArray]
  exact Nat.le_trans (Nat.le_trans (List.length_filterMap_le _ _) (sliceIndices_le _ _ _)) hz
end
end L2
set_option maxRecDepth 100000
set_option maxHeartbeats 4000000
namespace L2
open PySem PySem.Spec PyProof.Rows
section
variable {X : Cx}
def Dh(K:PySem.W.Frag):V->V->Hp->VK->Prop:=λx y H Q=>∃p xs i v,x=.ref p/\y=.int i/\0<=i/\SqL K H p xs/\xs[i.toNat]? =some v/\Q v H
theorem AO:GA X (Dh X.K):=by
 intro pins s σ H o i ov iv Q I ro ri h
 obtain⟨p,xs,k,z,rfl,rfl,h0,hq,he,q⟩:=h
 cases ro
 obtain⟨t,rfl⟩:=ri
 obtain⟨its,r,pl,hz⟩:=I.list hq
 obtain⟨w,ew,rw'⟩:=r.get he
 have hl:=r.length
 have hn:=la
 have hlt:=(List.getElem?_eq_some_iff.mp he).1
 exact wpAny_getItem_list pl.isList h0 (by omega) (by simpa using ew) ⟨z,H,I,rw',q⟩
end
end L2
set_option maxRecDepth 100000
set_option maxHeartbeats 4000000
namespace L2
open PySem PySem.Spec PyProof.Rows
section
variable {X : Cx}
end
theorem Js{ns:List Int}:∀{m:Nat},PySem.W.WData.weightAll (ns.map PySem.W.WData.int)<=m->∀n∈ns,n.natAbs<2^(m+1):=by
 induction ns with
 | nil=>intro m _ n hn;cases hn
 | cons a ns ih=>
  intro m h n hn
  rw[List.map_cons] at h
  unfold PySem.W.WData.weightAll at h
  rcases List.mem_cons.mp hn with rfl | hn
  ·have h1:PySem.W.WData.weight (.int n)<=m:=by omega
   unfold PySem.W.WData.weight at h1
   split at h1
   ·rename_i hz
    have:n=0:=by simpa using hz
    subst this
    exact Nat.two_pow_pos _
   ·have h2:n.natAbs<2^(n.natAbs.log2+1):=Nat.lt_log2_self
    exact Nat.lt_of_lt_of_le h2 (Nat.pow_le_pow_right (by decide) (by omega))
  ·exact ih (m:=m) (by omega) n hn
end L2
set_option maxRecDepth 100000
set_option maxHeartbeats 4000000
namespace L2
open PySem PySem.Spec PyProof.Rows
section
variable {X : Cx}
def isT(y:Str):Value->Bool
 | .str a _=>a == y
 | _=>false
end
end L2
set_option maxRecDepth 100000
set_option maxHeartbeats 4000000
namespace L2
open PySem PySem.Spec PyProof.Rows
section
variable {prog : Program} {w : World} {A : Around} {R : Result → Shared → Prop} {I : Addr} {fp wr : List Addr} {G : Array GenState → Array GenState → Prop} {n : Nat} {P : Nat → Value → Prop} {St : Nat → Shared → Prop}
end
section
variable {prog : Program} {w : World} {A : Around} {E : Value → Shared → Prop} {s : Shared}
end
section
variable {X : Cx} {e : Expr} {te : TE} {x y : Str} {p1 p2 q1 q2 : Pos}
end
end L2
set_option maxRecDepth 100000
set_option maxHeartbeats 1000000
namespace L2
open PySem PySem.Spec PyProof.Rows PySem.W
section
variable {O : KeyOrd} (key : Nat → O.α)
def kAt(p:Array Nat)(i:Nat):O.α:=key (p.getD i 0)
def tE(p:Array Nat)(m:Nat):Prop:=∀i j,i<=j->j<m->O.kle (kAt key p i) (kAt key p j)
def Ap(p:Array Nat)(m:Nat):Prop:=∀i j,i<=j->j<m->O.kle (kAt key p j) (kAt key p i)
variable {key}
theorem tE.more{p:Array Nat}{n:Nat}(h1:1<=n)(h:tE key p n)(hn:O.kle (kAt key p (n-1)) (kAt key p n)):tE key p (n+1):=by
 intro i j hij hj
 by_cases hjn:j=n
 ·subst hjn
  by_cases hi:i=j
  ·subst hi;exact KeyOrd.kle_refl _
  ·exact KeyOrd.kle_trans (h i (j-1) (by omega) (by omega)) hn
 ·exact h i j hij (by omega)
theorem Ap.more{p:Array Nat}{n:Nat}(h1:1<=n)(h:Ap key p n)(hn:O.kle (kAt key p n) (kAt key p (n-1))):Ap key p (n+1):=by
 intro i j hij hj
 by_cases hjn:j=n
 ·subst hjn
  by_cases hi:i=j
  ·subst hi;exact KeyOrd.kle_refl _
  ·exact KeyOrd.kle_trans hn (h i (j-1) (by omega) (by omega))
 ·exact h i j hij (by omega)
end
end L2
set_option maxRecDepth 100000
set_option maxHeartbeats 1000000
namespace L2
open PySem PySem.Spec PyProof.Rows PySem.W
def Lv{α:Type}(N:Nat)(P:α->Prop):KasT α->Prop
 | .ret a=>P a
 | .ask i j k=>i<N/\j<N/\∀b,Lv N P (k b)
theorem Lv.bind{α β:Type}{N:Nat}{P:α->Prop}{P':β->Prop}{f:α->KasT β}(hf:∀a,P a->Lv N P' (f a)):∀{t:KasT α},Lv N P t->Lv N P' (t.bind f)
 | .ret a,h=>hf a h
 | .ask i j k,h=>⟨h.1,h.2.1,λb=>Lv.bind hf (h.2.2 b)⟩
def Und(N:Nat)(p:Array Nat):Prop:=∀i,p.getD i 0<N
theorem Und.of{N:Nat}{p p':Array Nat}(h:Und N p)(hp:∀i:Nat,∃j:Nat,p'[i]? =p[j]?):Und N p':=λi=>by
 obtain⟨j,e⟩:=hp i
 have:=h j
 rw[Array.getD_eq_getD_getElem?] at this ⊢
 rw[e];exact this
theorem Und.rev{N:Nat}{p:Array Nat}(h:Und N p){i j:Nat}(hj:j<=p.size):Und N (kas_rev p i j):=h.of λk=>by
 have g:=getElem?_mirror_all (xs:=p) (i:=i) hj k
 split at g
 ·exact⟨_,g⟩
 ·exact⟨_,g⟩
theorem Lv.mono{α:Type}{N:Nat}{P P':α->Prop}(h:∀a,P a->P' a):∀{t:KasT α},Lv N P t->Lv N P' t
 | .ret a,x=>h a x
 | .ask i j k,x=>⟨x.1,x.2.1,λb=>Lv.mono h (x.2.2 b)⟩
section
open PySem.SeqAt
open PySem.AutoSeq1 (wpAny_loadPart')
open PySem.MeetsSeq PySem.MeetsSeq2 PySem.MeetsSeq3
end
section
variable {prog : Program} {w : World} {A : Around} {E : Value → Shared → Prop} {s : Shared}
end
end L2
set_option maxRecDepth 100000
set_option maxHeartbeats 1000000
namespace L2
open PySem PySem.Spec PyProof.Rows PySem.W
section
variable {prog : Program} {w : World} {A : Around} {E : Value → Shared → Prop} {s : Shared}
end
section
variable {α β : Type}
end
section
variable {X : Cx}
end
end L2
set_option maxRecDepth 100000
set_option maxHeartbeats 1000000
namespace L2
open PySem PySem.Spec PyProof.Rows
section
variable {prog : Program} {w : World} {A : Around} {R : Result → Shared → Prop} {I : Addr} {fp wr : List Addr} {n : Nat} {P : Nat → Value → Prop} {St : Nat → Heap → Prop} {kw : List (Str × Value)}
end
section
variable {prog : Program} {w : World} {A : Around} {E : Value → Shared → Prop} {s : Shared}
end
section
variable {X : Cx} {e d : Expr} {te td : TE} {p q kp : Pos}
end
end L2
set_option maxRecDepth 100000
set_option maxHeartbeats 1000000
namespace L2
open PySem PySem.Spec PyProof.Rows
section
variable {X : Cx}
end
end L2
set_option maxRecDepth 100000
set_option maxHeartbeats 1000000
namespace L2
open PySem PySem.Spec PyProof.Rows
end L2
set_option maxRecDepth 100000
set_option maxHeartbeats 1000000
namespace L2
open PySem PySem.Spec PyProof.Rows
section
variable {X : Cx}
def isN(y:Int):Value->Bool
 | .int a _=>a == y
 | _=>false
abbrev lA(l:List (Int×Tok)):List Value:=l.map λp=>.int p.1 p.2
theorem FJ{y:Int}{t:Tok}{l:List (Int×Tok)}(A:Around)(s:Shared):∀v,v∈(lA l).toArray->SeqAt.EqAt A s v (.int y t) (isN y v):=by
 intro v hv
 have hv':v∈lA l:=by simpa using hv
 obtain⟨p,_,rfl⟩:=List.mem_map.mp hv'
 exact(PySem.MeetsSeq.EqGives.int p.1 y p.2 t).at A s
theorem yV:∀{ns:List Int} {its:List Value},Vals (ns.map V.int) its->∃l:List (Int×Tok),lA l=its/\l.map (·.1)=ns
 | [],_,h=>by cases h;exact⟨[],rfl,rfl⟩
 | x::ns,_,h=>by
  cases h with
  | cons r rs=>
   obtain⟨t,rfl⟩:=r
   obtain⟨l,rfl,e⟩:=yV rs
   exact⟨(x,t)::l,rfl,by rw[List.map_cons,e]⟩
theorem Hi{pins:List (Addr×Obj)}{s:Shared}{σ:St}{H:Hp}{b:Addr}{ns:List Int}(I:Inv X pins σ H s)(hs:SqL X.K H b (ns.map V.int)):
 ∃(l:List (Int×Tok)) (dd:Option Addr) (n:Nat) (sl:Array (Option Value)),l.map (·.1)=ns/\s.heap.get? b=some {cls:=.type "list",dict:=dd,data:=.seq (lA l).toArray n,slots:=sl}/\l.length<=sizeLine:=by
 obtain⟨its,r',pl,hz⟩:=I.list hs
 obtain⟨l,rfl,e⟩:=yV r'
 obtain⟨o,ho,hc,n,hd⟩:=pl.isList
 obtain⟨oc,od,oda,os⟩:=o
 dsimp only at hc hd
 subst hc hd
 refine⟨l,od,n,os,e,ho, ?_⟩
 rw[<- e,List.length_map,List.length_map] at hz
 exact hz
def yJ(K:PySem.W.Frag):V->List V->Hp->VK->Prop:=λx vs H Q=>∃(b:Addr) (ns:List Int) (y:Int),x=.ref b/\vs=[.int y]/\SqL K H b (ns.map V.int)/\ns.idxOf y<ns.length/\Q (.int (ns.idxOf y:Nat)) H
theorem AA:MtR X "list.index" (yJ X.K):=by
 intro pins s σ H x vs v us Q I rx rv h
 obtain⟨b,ns,y,rfl,rfl,hs,hj,q⟩:=h
 cases rx
 obtain⟨u,rfl,t2,rfl⟩:=rv.one
 obtain⟨l,dd,n,sl,rfl,ho,hz⟩:=Hi I hs
 have hn:=la
 have hl:(lA l).toArray.size=(l.map (·.1)).length:=by simp[lA]
 have at_:∀(m:Nat) (hm:m<(lA l).toArray.size),isN y ((lA l).toArray[m])=((l.map (·.1))[m]'(by rw[<- hl];exact hm) == y):=by
  intro m hm
  simp[lA,isN]
 refine call_meets F.slot_list_index ⟨_,ho,rfl⟩ F.entry_list_index (F.args_list_index_2 _ _) (SeqAt.list_indexAt b _ n dd sl _ (isN y) ((l.map (·.1)).idxOf y) (by rw[hl];exact hj) (by rw[List.length_map] at hj;omega) ?_ ?_) ⟨ho,FJ _ _, ?_⟩
 ·rw[at_]
  have:=List.getElem_idxOf hj
  rw[this]
  exact beq_self_eq_true y
 ·intro m hm h2
  rw[at_]
  exact List.not_of_lt_findIdx (p:=λa=>a == y) h2
 ·exact⟨.int _,H,I.tok _,⟨_,rfl⟩,q⟩
end
end L2
set_option maxRecDepth 100000
set_option maxHeartbeats 4000000
namespace M
open PySem L2
inductive D where
 | non | bl (b:Bool) | int (i:Int) | str (x:Str) | lst (xs:List D) | tup (xs:List D) | ptr (k:Nat) | obj (c:Nat) (ns:List Str) (ds:List D) | exn (c:Nat)
inductive Cell where
 | dead | lst (xs:List D) | ins (c:Nat) (ns:List Str) (ds:List D)
abbrev aD:=List Cell
structure S where
 r:List (Option D)
 o:aD
inductive Res (α:Type) where
 | ok (a:α) | exc (c:Nat) (a:D) (o:S) | bad
def Res.bind{α β:Type}(x:Res α)(f:α->Res β):Res β:=match x with
 | .ok a=>f a
 | .exc c a o=>.exc c a o
 | .bad=>.bad
@[simp] theorem ak {α β:Type} (a:α) (f:α->Res β):(Res.ok a).bind f=f a:=rfl
@[simp] theorem Ia {α β:Type} (c:Nat) (a:D) (o:S) (f:α->Res β):(Res.exc c a o:Res α).bind f=.exc c a o:=rfl
@[simp] theorem IL {α β:Type} (f:α->Res β):(Res.bad:Res α).bind f=.bad:=rfl
abbrev Wsh:=Nat->D->S->Hp->Hp->List Addr->Prop
structure Ct where
 K:PySem.W.Frag
 ca:Nat->Addr
 W:Wsh
mutual
def Rep(K:PySem.W.Frag)(ca:Nat->Addr)(θ:List Addr)(F:Hp):D->V->Prop
 | .non,v=>v=.non
 | .bl b,v=>v=.bl b
 | .int i,v=>v=.int i
 | .str x,v=>v=.str x
 | .lst ds,v=>∃a xs,v=.ref a/\SqL K F a xs/\aB K ca θ F ds xs
 | .tup ds,v=>∃a xs,v=.ref a/\SqT K F a xs/\aB K ca θ F ds xs
 | .ptr k,v=>∃a,v=.ref a/\θ[k]? =some a
 | .obj c ns ds,v=>∃a dx xs,v=.ref a/\F a=some (.ins (ca c) dx (ns.zip xs))/\ns.length=xs.length/\aB K ca θ F ds xs
 | .exn c,v=>∃a,v=.ref a/\F a=some (exO a (ca c))
def aB(K:PySem.W.Frag)(ca:Nat->Addr)(θ:List Addr)(F:Hp):List D->List V->Prop
 | [],xs=>xs=[]
 | d::ds,xs=>∃v r,xs=v::r/\Rep K ca θ F d v/\aB K ca θ F ds r
end
mutual
def bV:D->Bool
 | .lst ds=>aI ds
 | .tup ds=>aI ds
 | .ptr _=>false
 | .obj _ _ ds=>aI ds
 | _=>true
def aI:List D->Bool
 | []=>true
 | d::ds=>bV d&&aI ds
end
def lF:D->Bool
 | .non=>true | .bl _=>true | .int _=>true | .str _=>true | _=>false
theorem bE.seqT{K:PySem.W.Frag}{H H':Hp}{a:Addr}{xs:List V}(e:bE H H')(h:SqT K H a xs):SqT K H' a xs:=by
 rcases h with(h | ⟨o,h⟩) | h
 ·exact .inl (.inl (e _ _ h))
 ·exact .inl (.inr ⟨o,e _ _ h⟩)
 ·exact .inr h
section
variable {K : PySem.W.Frag} {ca : Nat → Addr} {θ θ1 : List Addr} {F F1 : Hp}
mutual
theorem Rep.mono(hF:bE F F1)(hθ:∃r,θ1=θ++r):∀{d:D} {v:V},Rep K ca θ F d v->Rep K ca θ1 F1 d v
 | .non,_,h=>h
 | .bl _,_,h=>h
 | .int _,_,h=>h
 | .str _,_,h=>h
 | .lst ds,_,h=>by
  unfold Rep at h ⊢
  obtain⟨a,xs,e,hs,hr⟩:=h
  exact⟨a,xs,e,hF.seq hs,aB.mono hF hθ hr⟩
 | .tup ds,_,h=>by
  unfold Rep at h ⊢
  obtain⟨a,xs,e,hs,hr⟩:=h
  exact⟨a,xs,e,bE.seqT hF hs,aB.mono hF hθ hr⟩
 | .ptr k,_,h=>by
  unfold Rep at h ⊢
  obtain⟨a,e,hk⟩:=h
  obtain⟨r,rfl⟩:=hθ
  refine⟨a,e, ?_⟩
  rw[List.getElem?_append_left (List.getElem?_eq_some_iff.mp hk).1]
  exact hk
 | .obj c ns ds,_,h=>by
  unfold Rep at h ⊢
  obtain⟨a,dx,xs,e,ha,hl,hr⟩:=h
  exact⟨a,dx,xs,e,hF _ _ ha,hl,aB.mono hF hθ hr⟩
 | .exn c,_,h=>by
  unfold Rep at h ⊢
  obtain⟨a,e,ha⟩:=h
  exact⟨a,e,hF _ _ ha⟩
theorem aB.mono(hF:bE F F1)(hθ:∃r,θ1=θ++r):∀{ds:List D} {xs:List V},aB K ca θ F ds xs->aB K ca θ1 F1 ds xs
 | [],_,h=>h
 | d::ds,_,h=>by
  unfold aB at h ⊢
  obtain⟨v,r,e,h1,h2⟩:=h
  exact⟨v,r,e,Rep.mono hF hθ h1,aB.mono hF hθ h2⟩
end
mutual
theorem Rep.pure:∀{d:D} {v:V},bV d=true->Rep K ca θ F d v->Rep K ca θ1 F d v
 | .non,_,_,h=>h
 | .bl _,_,_,h=>h
 | .int _,_,_,h=>h
 | .str _,_,_,h=>h
 | .lst ds,_,p,h=>by
  unfold Rep at h ⊢
  obtain⟨a,xs,e,hs,hr⟩:=h
  exact⟨a,xs,e,hs,aB.pure (by simpa[bV] using p) hr⟩
 | .tup ds,_,p,h=>by
  unfold Rep at h ⊢
  obtain⟨a,xs,e,hs,hr⟩:=h
  exact⟨a,xs,e,hs,aB.pure (by simpa[bV] using p) hr⟩
 | .ptr k,_,p,h=>by simp[bV] at p
 | .obj c ns ds,_,p,h=>by
  unfold Rep at h ⊢
  obtain⟨a,dx,xs,e,ha,hl,hr⟩:=h
  exact⟨a,dx,xs,e,ha,hl,aB.pure (by simpa[bV] using p) hr⟩
 | .exn c,_,_,h=>by
  unfold Rep at h ⊢
  exact h
theorem aB.pure:∀{ds:List D} {xs:List V},aI ds=true->aB K ca θ F ds xs->aB K ca θ1 F ds xs
 | [],_,_,h=>h
 | d::ds,_,p,h=>by
  unfold aB at h ⊢
  obtain⟨v,r,e,h1,h2⟩:=h
  simp only[aI,Bool.and_eq_true] at p
  exact⟨v,r,e,Rep.pure p.1 h1,aB.pure p.2 h2⟩
end
theorem Rep.scal{d:D}{v:V}(p:lF d=true)(h:Rep K ca θ F d v):Rep K ca θ1 F1 d v:=by
 cases d <;> first | exact h | (simp[lF] at p)
theorem aB.length:∀{ds:List D} {xs:List V},aB K ca θ F ds xs->xs.length=ds.length
 | [],_,h=>by unfold aB at h;rw[h];rfl
 | d::ds,_,h=>by
  unfold aB at h
  obtain⟨v,r,rfl,_,h2⟩:=h
  rw[List.length_cons,List.length_cons,aB.length h2]
theorem aB.get:∀{ds:List D} {xs:List V} {i:Nat} {d:D},aB K ca θ F ds xs->ds[i]? =some d->∃v,xs[i]? =some v/\Rep K ca θ F d v
 | [],_,_,_,_,e=>by simp at e
 | d::ds,_,0,_,h,e=>by
  unfold aB at h
  obtain⟨v,r,rfl,h1,_⟩:=h
  simp at e
  subst e
  exact⟨v,rfl,h1⟩
 | d::ds,_,i+1,x,h,e=>by
  unfold aB at h
  obtain⟨v,r,rfl,_,h2⟩:=h
  obtain⟨u,e1,e2⟩:=aB.get (i:=i) (d:=x) h2 (by simpa using e)
  exact⟨u,by simpa using e1,e2⟩
theorem aB.append:∀{ds es:List D} {xs ys:List V},aB K ca θ F ds xs->aB K ca θ F es ys->aB K ca θ F (ds++es) (xs++ys)
 | [],_,_,_,h,k=>by unfold aB at h;rw[h];exact k
 | d::ds,_,_,_,h,k=>by
  unfold aB at h
  obtain⟨v,r,rfl,h1,h2⟩:=h
  show aB K ca θ F (d::(ds++_)) (v::(r++_))
  unfold aB
  exact⟨v,_,rfl,h1,aB.append h2 k⟩
theorem aB.one{d:D}{v:V}(h:Rep K ca θ F d v):aB K ca θ F [d] [v]:=by
 unfold aB
 exact⟨v,[],rfl,h,by unfold aB;rfl⟩
theorem aB.nil:aB K ca θ F [] []:=by unfold aB;rfl
theorem aB.cons{d:D}{v:V}{ds:List D}{xs:List V}(h:Rep K ca θ F d v)(k:aB K ca θ F ds xs):aB K ca θ F (d::ds) (v::xs):=by
 unfold aB
 exact⟨v,xs,rfl,h,k⟩
theorem aB.take:∀{ds:List D} {xs:List V} (n:Nat),aB K ca θ F ds xs->aB K ca θ F (ds.take n) (xs.take n)
 | _,_,0,_=>by simp;exact aB.nil
 | [],_,n+1,h=>by unfold aB at h;rw[h];exact aB.nil
 | d::ds,_,n+1,h=>by
  unfold aB at h
  obtain⟨v,r,rfl,h1,h2⟩:=h
  exact aB.cons h1 (aB.take n h2)
theorem aB.drop:∀{ds:List D} {xs:List V} (n:Nat),aB K ca θ F ds xs->aB K ca θ F (ds.drop n) (xs.drop n)
 | _,_,0,h=>h
 | [],_,n+1,h=>by unfold aB at h;rw[h];exact aB.nil
 | d::ds,_,n+1,h=>by
  unfold aB at h
  obtain⟨v,r,rfl,h1,h2⟩:=h
  exact aB.drop n h2
theorem aB.set{d:D}{v:V}(h:Rep K ca θ F d v):∀{ds:List D} {xs:List V} (i:Nat),aB K ca θ F ds xs->aB K ca θ F (ds.set i d) (xs.set i v)
 | [],_,_,k=>by unfold aB at k;rw[k];exact aB.nil
 | _::_,_,0,k=>by
  unfold aB at k
  obtain⟨v,r,rfl,h1,h2⟩:=k
  exact aB.cons h h2
 | _::_,_,i+1,k=>by
  unfold aB at k
  obtain⟨v,r,rfl,h1,h2⟩:=k
  exact aB.cons h1 (aB.set h i h2)
theorem aB.reverse:∀{ds:List D} {xs:List V},aB K ca θ F ds xs->aB K ca θ F ds.reverse xs.reverse
 | [],_,h=>by unfold aB at h;rw[h];exact aB.nil
 | d::ds,_,h=>by
  unfold aB at h
  obtain⟨v,r,rfl,h1,h2⟩:=h
  rw[List.reverse_cons,List.reverse_cons]
  exact aB.append (aB.reverse h2) (aB.one h1)
end
structure Stp(H F:Hp)(θ:List Addr)(H1 F1:Hp)(θ1:List Addr):Prop where
 ff:bE F F1
 th:∃r,θ1=θ++r/\∀a∈r,H a=none
 kp:∀b o,H b=some o->b∉θ->H1 b=some o
 al:∀b o,H b=some o->∃o',H1 b=some o'
 nf:∀b o,F1 b=some o->F b=some o\/H b=none\/b∈θ
theorem Stp.refl{H F:Hp}{θ:List Addr}:Stp H F θ H F θ:=⟨bE.refl _,⟨[],by simp,by simp⟩,λ_ _ h _=>h,λ_ o h=>⟨o,h⟩,λ_ _ h=>.inl h⟩
theorem Stp.pre{H F H1 F1:Hp}{θ θ1:List Addr}(x:Stp H F θ H1 F1 θ1):∃r,θ1=θ++r:=let ⟨r,e,_⟩:=x.th;⟨r,e⟩
theorem Stp.trans{H F H1 F1 H2 F2:Hp}{θ θ1 θ2:List Addr}(x:Stp H F θ H1 F1 θ1)(y:Stp H1 F1 θ1 H2 F2 θ2):Stp H F θ H2 F2 θ2:=by
 obtain⟨r,rfl,hr⟩:=x.th
 obtain⟨r2,rfl,hr2⟩:=y.th
 refine⟨x.ff.trans y.ff,⟨r++r2,by rw[List.append_assoc],λa ha=> ?_⟩,λb o h hb=> ?_,λb o h=> ?_,λb o h=> ?_⟩
 ·rcases List.mem_append.mp ha with z | z
  ·exact hr a z
  ·cases e:H a with
   | none=>rfl
   | some o=>
    obtain⟨o',e'⟩:=x.al a o e
    rw[hr2 a z] at e'
    cases e'
 ·refine y.kp b o (x.kp b o h hb) λhm=> ?_
  rcases List.mem_append.mp hm with z | z
  ·exact hb z
  ·rw[hr b z] at h
   cases h
 ·obtain⟨o',e'⟩:=x.al b o h
  exact y.al b o' e'
 ·rcases y.nf b o h with z | z | z
  ·exact x.nf b o z
  ·refine .inr (.inl ?_)
   cases e:H b with
   | none=>rfl
   | some o'=>
    obtain⟨o2,e2⟩:=x.al b o' e
    rw[z] at e2
    cases e2
  ·rcases List.mem_append.mp z with q | q
   ·exact .inr (.inr q)
   ·exact .inr (.inl (hr b q))
def je(K:PySem.W.Frag)(ca:Nat->Addr)(H F:Hp)(θ:List Addr)(a:Addr):Cell->Prop
 | .dead=>∃o,H a=some o
 | .lst ds=>F a=none/\∃xs,H a=some (.lst xs)/\aB K ca θ F ds xs
 | .ins c ns ds=>F a=none/\∃dx xs,H a=some (.ins (ca c) dx (ns.zip xs))/\ns.length=xs.length/\aB K ca θ F ds xs
theorem je.there{K:PySem.W.Frag}{ca:Nat->Addr}{H F:Hp}{θ:List Addr}{a:Addr}{c:Cell}(h:je K ca H F θ a c):∃o,H a=some o:=by
 cases c with
 | dead=>exact h
 | lst ds=>obtain⟨_,xs,e,_⟩:=h;exact⟨_,e⟩
 | ins c ns ds=>obtain⟨_,dx,xs,e,_⟩:=h;exact⟨_,e⟩
structure Now(K:PySem.W.Frag)(ca:Nat->Addr)(H F:Hp)(θ:List Addr)(O:aD):Prop where
 fh:bE F H
 nd:θ.Nodup
 ln:θ.length=O.length
 ce:∀(k:Nat) a c,θ[k]? =some a->O[k]? =some c->je K ca H F θ a c
theorem Now.there{K:PySem.W.Frag}{ca:Nat->Addr}{H F:Hp}{θ:List Addr}{O:aD}(n:Now K ca H F θ O){a:Addr}(h:a∈θ):∃o,H a=some o:=by
 obtain⟨k,hk,e⟩:=List.getElem_of_mem h
 have h1:θ[k]? =some a:=by rw[List.getElem?_eq_getElem hk,e]
 have h2:∃c,O[k]? =some c:=⟨O[k]'(by rw[<- n.ln];exact hk),List.getElem?_eq_getElem _⟩
 obtain⟨c,h2⟩:=h2
 exact(n.ce k a c h1 h2).there
theorem Now.nil{K:PySem.W.Frag}{ca:Nat->Addr}{H F:Hp}(h:bE F H):Now K ca H F [] []:=⟨h,List.nodup_nil,rfl,λk a c e _=>by simp at e⟩
structure BS(K:PySem.W.Frag)(ca:Nat->Addr)(σ:St)(H F:Hp)(θ:List Addr)(s:S):Prop where
 now:Now K ca H F θ s.o
 len:σ.length=s.r.length
 sl:∀(i:Nat) d,s.r[i]? =some (some d)->∃v,σ[i]? =some (some v)/\Rep K ca θ F d v
theorem BS.newF{K:PySem.W.Frag}{ca:Nat->Addr}{σ:St}{H F:Hp}{θ:List Addr}{s:S}(b:BS K ca σ H F θ s){p:Addr}(hp:H p=none)(o:HO):
 Stp H F θ (upd H p o) (upd F p o) θ/\BS K ca σ (upd H p o) (upd F p o) θ s/\bE F (upd F p o)/\upd F p o p=some o:=by
 have nm:∀a u,H a=some u->a≠p:=λa u e z=>by rw[z,hp] at e;cases e
 have fp:F p=none:=by
  cases e:F p with
  | none=>rfl
  | some u=>rw[b.now.fh p u e] at hp;cases hp
 have sF:bE F (upd F p o):=λa u e=>by rw[aM (nm a u (b.now.fh a u e))];exact e
 have sH:bE H (upd H p o):=λa u e=>by rw[aM (nm a u e)];exact e
 refine⟨⟨sF,⟨[],by simp,by simp⟩,λa u e _=>sH a u e,λa u e=>⟨u,sH a u e⟩,λa u e=> ?_⟩,⟨⟨λa u e=> ?_,b.now.nd,b.now.ln,λk a c e1 e2=> ?_⟩,b.len,λi d e=> ?_⟩,sF,b7⟩
 ·by_cases h:a=p
  ·subst h;exact .inr (.inl hp)
  ·rw[aM h] at e;exact .inl e
 ·by_cases h:a=p
  ·subst h;rw[b7] at e ⊢;exact e
  ·rw[aM h] at e ⊢;exact b.now.fh a u e
 ·have q:=b.now.ce k a c e1 e2
  obtain⟨u,hu⟩:=q.there
  have ne:=nm a u hu
  cases c with
  | dead=>exact⟨u,sH a u hu⟩
  | lst ds=>
   obtain⟨q1,xs,q2,q3⟩:=q
   exact⟨by rw[aM ne];exact q1,xs,sH _ _ q2,q3.mono sF ⟨[],by simp⟩⟩
  | ins c ns ds=>
   obtain⟨q1,dx,xs,q2,q3,q4⟩:=q
   exact⟨by rw[aM ne];exact q1,dx,xs,sH _ _ q2,q3,q4.mono sF ⟨[],by simp⟩⟩
 ·obtain⟨v,h1,h2⟩:=b.sl i d e
  exact⟨v,h1,h2.mono sF ⟨[],by simp⟩⟩
theorem BS.newC{K:PySem.W.Frag}{ca:Nat->Addr}{σ:St}{H F:Hp}{θ:List Addr}{s:S}(b:BS K ca σ H F θ s){p:Addr}(hp:H p=none){ds:List D}{xs:List V}(hr:aB K ca θ F ds xs):
 Stp H F θ (upd H p (.lst xs)) F (θ++[p])/\BS K ca σ (upd H p (.lst xs)) F (θ++[p]) ⟨s.r,s.o++[.lst ds]⟩/\Rep K ca (θ++[p]) F (.ptr s.o.length) (.ref p):=by
 have nm:∀a u,H a=some u->a≠p:=λa u e z=>by rw[z,hp] at e;cases e
 have fp:F p=none:=by
  cases e:F p with
  | none=>rfl
  | some u=>rw[b.now.fh p u e] at hp;cases hp
 have sH:bE H (upd H p (.lst xs)):=λa u e=>by rw[aM (nm a u e)];exact e
 have pt:p∉θ:=λh=>by obtain⟨u,hu⟩:=b.now.there h;rw[hp] at hu;cases hu
 refine⟨⟨bE.refl _,⟨[p],rfl,by simpa using hp⟩,λa u e _=>sH a u e,λa u e=>⟨u,sH a u e⟩,λa u e=>.inl e⟩,⟨⟨b.now.fh.trans sH, ?_, ?_,λk a c e1 e2=> ?_⟩,b.len,λi d e=> ?_⟩, ?_⟩
 ·refine List.nodup_append.mpr ⟨b.now.nd,by simp,λa ha x hx=> ?_⟩
  rw[List.mem_singleton.mp hx]
  rintro rfl
  exact pt ha
 ·simp[b.now.ln]
 ·by_cases hk:k<θ.length
  ·rw[List.getElem?_append_left hk] at e1
   rw[List.getElem?_append_left (by rw[<- b.now.ln];exact hk)] at e2
   have q:=b.now.ce k a c e1 e2
   obtain⟨u,hu⟩:=q.there
   cases c with
   | dead=>exact⟨u,sH a u hu⟩
   | lst ds=>
    obtain⟨q1,ys,q2,q3⟩:=q
    exact⟨q1,ys,sH _ _ q2,q3.mono (bE.refl _) ⟨[p],rfl⟩⟩
   | ins c ns ds=>
    obtain⟨q1,dx,ys,q2,q3,q4⟩:=q
    exact⟨q1,dx,ys,sH _ _ q2,q3,q4.mono (bE.refl _) ⟨[p],rfl⟩⟩
  ·have hk1:k<(θ++[p]).length:=(List.getElem?_eq_some_iff.mp e1).1
   have hk2:k=θ.length:=by simp at hk1;omega
   subst hk2
   rw[List.getElem?_append_right (Nat.le_refl _)] at e1
   rw[List.getElem?_append_right (by rw[b.now.ln];exact Nat.le_refl _),b.now.ln] at e2
   simp at e1 e2
   subst e1;subst e2
   exact⟨fp,xs,b7,hr.mono (bE.refl _) ⟨[p],rfl⟩⟩
 ·obtain⟨v,h1,h2⟩:=b.sl i d e
  exact⟨v,h1,h2.mono (bE.refl _) ⟨[p],rfl⟩⟩
 ·unfold Rep
  exact⟨p,rfl,by rw[<- b.now.ln];simp⟩
theorem BS.set{K:PySem.W.Frag}{ca:Nat->Addr}{σ:St}{H F:Hp}{θ:List Addr}{s:S}(b:BS K ca σ H F θ s){d:D}{v:V}(h:Rep K ca θ F d v)(i:Nat):BS K ca (σ.set i (some v)) H F θ ⟨s.r.set i (some d),s.o⟩:=by
 refine⟨b.now,by simp[b.len],λj e hj=> ?_⟩
 by_cases hji:i=j
 ·subst hji
  have hlt:i<s.r.length:=by
   have:=(List.getElem?_eq_some_iff.mp hj).1
   simpa using this
  rw[List.getElem?_set_self hlt] at hj
  cases hj
  exact⟨v,List.getElem?_set_self (by rw[b.len];exact hlt),h⟩
 ·rw[List.getElem?_set_ne hji] at hj
  obtain⟨u,h1,h2⟩:=b.sl j e hj
  exact⟨u,by rw[List.getElem?_set_ne hji];exact h1,h2⟩
abbrev EM:=S->Res (D×S)
abbrev AM:=S->Res (List D×S)
inductive Out where
 | next (s:S) | ret (d:D) (s:S) | brk (s:S) | cnt (s:S) | exc (c:Nat) (a:D) (o:S) | bad
abbrev SM:=S->Out
def PoR{α:Type}(C:Ct)(H F:Hp)(θ:List Addr)(x:Res α)(k:α->Hp->Hp->List Addr->Prop):Prop:=match x with
 | .ok a=>∀H1 F1 θ1,Stp H F θ H1 F1 θ1->k a H1 F1 θ1
 | .exc c a o=>∀H1 F1 θ1,Stp H F θ H1 F1 θ1->Now C.K C.ca H1 F1 θ1 o.o->C.W c a o H1 F1 θ1
 | .bad=>False
abbrev PoE(C:Ct)(σ:St)(H F:Hp)(θ:List Addr)(x:Res (D×S))(Q:VK):Prop:=
 PoR C H F θ x λy H1 F1 θ1=>BS C.K C.ca σ H1 F1 θ1 y.2->∀v,Rep C.K C.ca θ1 F1 y.1 v->Q v H1
abbrev PoA(C:Ct)(σ:St)(H F:Hp)(θ:List Addr)(x:Res (List D×S))(Q:List V->Hp->Prop):Prop:=
 PoR C H F θ x λy H1 F1 θ1=>BS C.K C.ca σ H1 F1 θ1 y.2->∀v,aB C.K C.ca θ1 F1 y.1 v->Q v H1
abbrev PoT(C:Ct)(σ:St)(H F:Hp)(θ:List Addr)(x:Res (Bool×S))(Q:Bool->Hp->Prop):Prop:=
 PoR C H F θ x λy H1 F1 θ1=>BS C.K C.ca σ H1 F1 θ1 y.2->Q y.1 H1
abbrev PoG(C:Ct)(H F:Hp)(θ:List Addr)(x:Res S)(Q:St->Hp->Prop):Prop:=
 PoR C H F θ x λy H1 F1 θ1=>∀σ1,BS C.K C.ca σ1 H1 F1 θ1 y->Q σ1 H1
def PoS(C:Ct)(H F:Hp)(θ:List Addr)(x:Out)(Q:Ends):Prop:=match x with
 | .next s1=>∀σ1 H1 F1 θ1,Stp H F θ H1 F1 θ1->BS C.K C.ca σ1 H1 F1 θ1 s1->Q.nx σ1 H1
 | .ret d s1=>∀v σ1 H1 F1 θ1,Stp H F θ H1 F1 θ1->BS C.K C.ca σ1 H1 F1 θ1 s1->Rep C.K C.ca θ1 F1 d v->Q.rt v H1
 | .brk s1=>∀σ1 H1 F1 θ1,Stp H F θ H1 F1 θ1->BS C.K C.ca σ1 H1 F1 θ1 s1->Q.bk σ1 H1
 | .cnt s1=>∀σ1 H1 F1 θ1,Stp H F θ H1 F1 θ1->BS C.K C.ca σ1 H1 F1 θ1 s1->Q.ct σ1 H1
 | .exc c a o=>∀H1 F1 θ1,Stp H F θ H1 F1 θ1->Now C.K C.ca H1 F1 θ1 o.o->C.W c a o H1 F1 θ1
 | .bad=>False
theorem PoR.after{α:Type}{C:Ct}{H F H1 F1:Hp}{θ θ1:List Addr}{x:Res α}{k:α->Hp->Hp->List Addr->Prop}(st:Stp H F θ H1 F1 θ1)(p:PoR C H F θ x k):PoR C H1 F1 θ1 x k:=by
 unfold PoR at p ⊢
 cases x with
 | ok a=>exact λH2 F2 θ2 s2=>p H2 F2 θ2 (st.trans s2)
 | exc c a o=>exact λH2 F2 θ2 s2 n=>p H2 F2 θ2 (st.trans s2) n
 | bad=>exact p
theorem PoR.bind {α β:Type} {C:Ct} {H F:Hp} {θ:List Addr} {x:Res α} {f:α->Res β} {k:α->Hp->Hp->List Addr->Prop} {j:β->Hp->Hp->List Addr->Prop}
 (p:PoR C H F θ (x.bind f) j) (h:∀a H1 F1 θ1,x=.ok a->Stp H F θ H1 F1 θ1->PoR C H1 F1 θ1 (f a) j->k a H1 F1 θ1):PoR C H F θ x k:=by
 cases x with
 | ok a=>exact λH1 F1 θ1 st=>h a H1 F1 θ1 rfl st (PoR.after st p)
 | exc c a o=>exact p
 | bad=>exact p
theorem PoR.imp{α:Type}{C:Ct}{H F:Hp}{θ:List Addr}{x:Res α}{k j:α->Hp->Hp->List Addr->Prop}(p:PoR C H F θ x j)(h:∀a H1 F1 θ1,x=.ok a->Stp H F θ H1 F1 θ1->j a H1 F1 θ1->k a H1 F1 θ1):PoR C H F θ x k:=by
 cases x with
 | ok a=>exact λH1 F1 θ1 st=>h a H1 F1 θ1 rfl st (p H1 F1 θ1 st)
 | exc c a o=>exact p
 | bad=>exact p
theorem PoS.after{C:Ct}{H F H1 F1:Hp}{θ θ1:List Addr}{x:Out}{Q:Ends}(st:Stp H F θ H1 F1 θ1)(p:PoS C H F θ x Q):PoS C H1 F1 θ1 x Q:=by
 unfold PoS at p ⊢
 cases x with
 | next s=>exact λv H2 F2 θ2 s2 b=>p v H2 F2 θ2 (st.trans s2) b
 | ret d s=>exact λv σ2 H2 F2 θ2 s2 b r=>p v σ2 H2 F2 θ2 (st.trans s2) b r
 | brk s=>exact λv H2 F2 θ2 s2 b=>p v H2 F2 θ2 (st.trans s2) b
 | cnt s=>exact λv H2 F2 θ2 s2 b=>p v H2 F2 θ2 (st.trans s2) b
 | exc c a o=>exact λH2 F2 θ2 s2 n=>p H2 F2 θ2 (st.trans s2) n
 | bad=>exact p
def Res.out{α:Type}(x:Res α)(f:α->Out):Out:=match x with
 | .ok a=>f a
 | .exc c a o=>.exc c a o
 | .bad=>.bad
@[simp] theorem iD {α:Type} (a:α) (f:α->Out):(Res.ok a).out f=f a:=rfl
@[simp] theorem Jd {α:Type} (c:Nat) (a:D) (o:S) (f:α->Out):(Res.exc c a o:Res α).out f=.exc c a o:=rfl
@[simp] theorem Jh {α:Type} (f:α->Out):(Res.bad:Res α).out f=.bad:=rfl
theorem PoS.out {α:Type} {C:Ct} {H F:Hp} {θ:List Addr} {x:Res α} {f:α->Out} {k:α->Hp->Hp->List Addr->Prop} {Q:Ends}
 (p:PoS C H F θ (x.out f) Q) (h:∀a H1 F1 θ1,x=.ok a->Stp H F θ H1 F1 θ1->PoS C H1 F1 θ1 (f a) Q->k a H1 F1 θ1):PoR C H F θ x k:=by
 cases x with
 | ok a=>exact λH1 F1 θ1 st=>h a H1 F1 θ1 rfl st (PoS.after st p)
 | exc c a o=>exact p
 | bad=>exact p
def RdE(C:Ct)(t:TE)(m:EM):Prop:=∀σ H F θ s Q,BS C.K C.ca σ H F θ s->PoE C σ H F θ (m s) Q->t σ H Q
def RdA(C:Ct)(t:TA)(m:AM):Prop:=∀σ H F θ s Q,BS C.K C.ca σ H F θ s->PoA C σ H F θ (m s) Q->t σ H Q
abbrev TM:=S->Res (Bool×S)
def RdT(C:Ct)(t:TT)(m:TM):Prop:=∀σ H F θ s Q,BS C.K C.ca σ H F θ s->PoT C σ H F θ (m s) Q->t σ H Q
abbrev GM:=D->S->Res S
def RdG(C:Ct)(t:TG)(m:GM):Prop:=∀σ H F θ s d v Q,BS C.K C.ca σ H F θ s->Rep C.K C.ca θ F d v->PoG C H F θ (m d s) Q->t v σ H Q
def RdS(C:Ct)(t:TS)(m:SM):Prop:=∀σ H F θ s Q,BS C.K C.ca σ H F θ s->PoS C H F θ (m s) Q->t Q σ H
end M
set_option maxRecDepth 100000
set_option maxHeartbeats 4000000
namespace M
open PySem L2
section
variable {C : Ct}
@[simp] theorem gj {K ca θ F v}:Rep K ca θ F .non v↔v=.non:=by unfold Rep;exact Iff.rfl
@[simp] theorem b8 {K ca θ F v b}:Rep K ca θ F (.bl b) v↔v=.bl b:=by unfold Rep;exact Iff.rfl
@[simp] theorem aW {K ca θ F v i}:Rep K ca θ F (.int i) v↔v=.int i:=by unfold Rep;exact Iff.rfl
@[simp] theorem cA {K ca θ F v x}:Rep K ca θ F (.str x) v↔v=.str x:=by unfold Rep;exact Iff.rfl
def aa(i:Nat):EM:=λs=>match s.r[i]? with
 | some (some d)=>.ok (d,s)
 | _=>.bad
theorem ah(i:Nat):RdE C (Ca i) (aa i):=by
 intro σ H F θ s Q b p
 unfold aa at p
 split at p
 ·rename_i d e
  obtain⟨v,h1,h2⟩:=b.sl i d e
  exact⟨v,h1,p H F θ .refl b v h2⟩
 ·exact p.elim
def aj(d:D):EM:=λs=>.ok (d,s)
theorem aw(i:Int):RdE C (tC (.int i)) (aj (.int i)):=λσ H F θ s Q b p=>p H F θ .refl b (.int i) (aW.mpr rfl)
theorem vn(i:Bool):RdE C (tC (.bl i)) (aj (.bl i)):=λσ H F θ s Q b p=>p H F θ .refl b (.bl i) (b8.mpr rfl)
theorem jk(i:Str):RdE C (tC (.str i)) (aj (.str i)):=λσ H F θ s Q b p=>p H F θ .refl b (.str i) (cA.mpr rfl)
abbrev Op2:=aD->D->D->Res D
abbrev Op1:=aD->D->Res D
def fS(C:Ct)(r:R2)(f:Op2):Prop:=∀σ H F θ s x y v w Q,BS C.K C.ca σ H F θ s->Rep C.K C.ca θ F x v->Rep C.K C.ca θ F y w->
 PoE C σ H F θ ((f s.o x y).bind λd=>.ok (d,s)) Q->r v w H Q
def ao(f:Op2)(ma mb:EM):EM:=λs=>(ma s).bind λx=>(mb x.2).bind λy=>(f y.2.o x.1 y.1).bind λd=>.ok (d,y.2)
theorem av{r:R2}{f:Op2}{ta tb:TE}{ma mb:EM}(ho:fS C r f)(ha:RdE C ta ma)(hb:RdE C tb mb):RdE C (tOp r ta tb) (ao f ma mb):=by
 intro σ H F θ s Q b p
 refine ha σ H F θ s _ b (PoR.bind p ?_)
 rintro ⟨x,s1⟩ H1 F1 θ1 _ st1 p1 b1 v r1
 refine hb σ H1 F1 θ1 s1 _ b1 (PoR.bind p1 ?_)
 rintro ⟨y,s2⟩ H2 F2 θ2 _ st2 p2 b2 w r2
 exact ho σ H2 F2 θ2 s2 x y v w Q b2 (r1.mono st2.ff st2.pre) r2 p2
def Gw(C:Ct)(r:V->Hp->VK->Prop)(f:Op1):Prop:=∀σ H F θ s x v Q,BS C.K C.ca σ H F θ s->Rep C.K C.ca θ F x v->
 PoE C σ H F θ ((f s.o x).bind λd=>.ok (d,s)) Q->r v H Q
def unM(f:Op1)(ma:EM):EM:=λs=>(ma s).bind λx=>(f x.2.o x.1).bind λd=>.ok (d,x.2)
theorem vj{r:V->Hp->VK->Prop}{f:Op1}{ta:TE}{ma:EM}(ho:Gw C r f)(ha:RdE C ta ma):RdE C (tUn r ta) (unM f ma):=by
 intro σ H F θ s Q b p
 refine ha σ H F θ s _ b (PoR.bind p ?_)
 rintro ⟨x,s1⟩ H1 F1 θ1 _ st1 p1 b1 v r1
 exact ho σ H1 F1 θ1 s1 x v Q b1 r1 p1
def aq:AM:=λs=>.ok ([],s)
def ae(m:EM)(r:AM):AM:=λs=>(m s).bind λx=>(r x.2).bind λy=>.ok (x.1::y.1,y.2)
theorem ay:RdA C lg aq:=λσ H F θ s Q b p=>p H F θ .refl b [] aB.nil
theorem ai{te:TE}{ta:TA}{m:EM}{r:AM}(he:RdE C te m)(ha:RdA C ta r):RdA C (fV te ta) (ae m r):=by
 intro σ H F θ s Q b p
 refine he σ H F θ s _ b (PoR.bind p ?_)
 rintro ⟨x,s1⟩ H1 F1 θ1 _ st1 p1 b1 v r1
 refine ha σ H1 F1 θ1 s1 _ b1 (PoR.bind p1 ?_)
 rintro ⟨y,s2⟩ H2 F2 θ2 _ st2 p2 b2 w r2
 exact p2 H2 F2 θ2 .refl b2 (v::w) (aB.cons (r1.mono st2.ff st2.pre) r2)
abbrev OpN:=aD->List D->Res D
def j2(C:Ct)(r:List V->Hp->VK->Prop)(f:OpN):Prop:=∀σ H F θ s xs vs Q,BS C.K C.ca σ H F θ s->aB C.K C.ca θ F xs vs->
 PoE C σ H F θ ((f s.o xs).bind λd=>.ok (d,s)) Q->r vs H Q
def bC(f:OpN)(ma:AM):EM:=λs=>(ma s).bind λx=>(f x.2.o x.1).bind λd=>.ok (d,x.2)
theorem bg{r:List V->Hp->VK->Prop}{f:OpN}{ta:TA}{ma:AM}(hc:j2 C r f)(ha:RdA C ta ma):RdE C (tCB r ta) (bC f ma):=by
 intro σ H F θ s Q b p
 refine ha σ H F θ s _ b (PoR.bind p ?_)
 rintro ⟨x,s1⟩ H1 F1 θ1 _ st1 p1 b1 v r1
 exact hc σ H1 F1 θ1 s1 x v Q b1 r1 p1
def o3(ma:AM):EM:=λs=>(ma s).bind λx=>if x.1.length<=16777216 then .ok (.tup x.1,x.2) else .bad
theorem rW{ta:TA}{ma:AM}(ha:RdA C ta ma):RdE C (Co ta) (o3 ma):=by
 intro σ H F θ s Q b p
 refine ha σ H F θ s _ b (PoR.bind p ?_)
 rintro ⟨x,s1⟩ H1 F1 θ1 _ st1 p1 b1 v r1
 dsimp only at p1
 split at p1
 ·rename_i hl
  refine⟨by rw[r1.length];exact hl,λq hq=> ?_⟩
  obtain⟨st,b2,sF,e⟩:=b1.newF hq (.tup v)
  refine p1 _ _ _ st b2 _ ?_
  unfold Rep
  exact⟨q,v,rfl,SqT.of e,r1.mono sF ⟨[],by simp⟩⟩
 ·exact p1.elim
def gG(ma:AM):EM:=λs=>(ma s).bind λx=>if x.1.length<=16777216 then .ok (.lst x.1,x.2) else .bad
theorem lW{ta:TA}{ma:AM}(ha:RdA C ta ma):RdE C (C4 ta) (gG ma):=by
 intro σ H F θ s Q b p
 refine ha σ H F θ s _ b (PoR.bind p ?_)
 rintro ⟨x,s1⟩ H1 F1 θ1 _ st1 p1 b1 v r1
 dsimp only at p1
 split at p1
 ·rename_i hl
  refine⟨by rw[r1.length];exact hl,λq hq=> ?_⟩
  obtain⟨st,b2,sF,e⟩:=b1.newF hq (.lst v)
  refine p1 _ _ _ st b2 _ ?_
  unfold Rep
  exact⟨q,v,rfl,SqL.of e,r1.mono sF ⟨[],by simp⟩⟩
 ·exact p1.elim
def jy(ma:AM):EM:=λs=>(ma s).bind λx=>if x.1.length<=16777216 then .ok (.ptr x.2.o.length,⟨x.2.r,x.2.o++[.lst x.1]⟩) else .bad
theorem jP{ta:TA}{ma:AM}(ha:RdA C ta ma):RdE C (C4 ta) (jy ma):=by
 intro σ H F θ s Q b p
 refine ha σ H F θ s _ b (PoR.bind p ?_)
 rintro ⟨x,s1⟩ H1 F1 θ1 _ st1 p1 b1 v r1
 dsimp only at p1
 split at p1
 ·rename_i hl
  refine⟨by rw[r1.length];exact hl,λq hq=> ?_⟩
  obtain⟨st,b2,rp⟩:=b1.newC hq r1
  exact p1 _ _ _ st b2 _ rp
 ·exact p1.elim
def bj(m:EM):TM:=λs=>(m s).bind λx=>match x.1 with
 | .bl b=>.ok (b,x.2)
 | _=>.bad
theorem b9{t:TE}{m:EM}(h:RdE C t m):RdT C (Dj t) (bj m):=by
 intro σ H F θ s Q b p
 refine h σ H F θ s _ b (PoR.bind p ?_)
 rintro ⟨x,s1⟩ H1 F1 θ1 _ st1 p1 b1 v r1
 cases x <;> first | exact False.elim p1 | skip
 rename_i k _
 exact⟨k,b8.mp r1,p1 _ _ _ .refl b1⟩
theorem mR{t:TE}{m:EM}(h:RdE C t m):RdT C (tB t) (bj m):=b9 h
def oO(a b:TM):TM:=λs=>(a s).bind λx=>if x.1 then b x.2 else .ok (false,x.2)
def orT(a b:TM):TM:=λs=>(a s).bind λx=>if x.1 then .ok (true,x.2) else b x.2
def pG(a:TM):TM:=λs=>(a s).bind λx=>.ok (!x.1,x.2)
theorem wK{t u:TT}{a b:TM}(ha:RdT C t a)(hb:RdT C u b):RdT C (Gf t u) (oO a b):=by
 intro σ H F θ s Q bs p
 refine ha σ H F θ s _ bs (PoR.bind p ?_)
 rintro ⟨x,s1⟩ H1 F1 θ1 _ st1 p1 b1
 cases x with
 | true=>exact tH (hb σ H1 F1 θ1 s1 Q b1 p1)
 | false=>exact sP (p1 _ _ _ .refl b1)
theorem vv{t u:TT}{a b:TM}(ha:RdT C t a)(hb:RdT C u b):RdT C (tOr t u) (orT a b):=by
 intro σ H F θ s Q bs p
 refine ha σ H F θ s _ bs (PoR.bind p ?_)
 rintro ⟨x,s1⟩ H1 F1 θ1 _ st1 p1 b1
 cases x with
 | true=>exact tH (p1 _ _ _ .refl b1)
 | false=>exact sP (hb σ H1 F1 θ1 s1 Q b1 p1)
theorem pb{t:TT}{a:TM}(ha:RdT C t a):RdT C (Gx t) (pG a):=by
 intro σ H F θ s Q bs p
 refine ha σ H F θ s _ bs (PoR.bind p ?_)
 rintro ⟨x,s1⟩ H1 F1 θ1 _ st1 p1 b1
 exact p1 _ _ _ .refl b1
def qK(a b:EM):EM:=λs=>(a s).bind λx=>match x.1 with
 | .bl true=>b x.2
 | .bl false=>.ok (.bl false,x.2)
 | _=>.bad
def orV(a b:EM):EM:=λs=>(a s).bind λx=>match x.1 with
 | .bl true=>.ok (.bl true,x.2)
 | .bl false=>b x.2
 | _=>.bad
def CW(a:EM):EM:=λs=>(a s).bind λx=>match x.1 with
 | .bl k=>.ok (.bl (!k),x.2)
 | _=>.bad
theorem p6{t u:TE}{a b:EM}(ha:RdE C t a)(hb:RdE C u b):RdE C (DK t u) (qK a b):=by
 intro σ H F θ s Q bs p
 refine ha σ H F θ s _ bs (PoR.bind p ?_)
 rintro ⟨x,s1⟩ H1 F1 θ1 _ st1 p1 b1 v r1
 cases x <;> first | exact False.elim p1 | skip
 rename_i k _
 refine⟨k,b8.mp r1, ?_⟩
 cases k with
 | true=>exact tH (hb σ H1 F1 θ1 s1 Q b1 p1)
 | false=>exact sP (p1 _ _ _ .refl b1 _ (b8.mpr rfl))
theorem Ee{t:TE}{a:EM}(ha:RdE C t a):RdE C (DI t) (CW a):=by
 intro σ H F θ s Q bs p
 refine ha σ H F θ s _ bs (PoR.bind p ?_)
 rintro ⟨x,s1⟩ H1 F1 θ1 _ st1 p1 b1 v r1
 cases x <;> first | exact False.elim p1 | skip
 rename_i k _
 exact⟨k,b8.mp r1,p1 _ _ _ .refl b1 _ (b8.mpr rfl)⟩
def ifM(c:TM)(a b:EM):EM:=λs=>(c s).bind λx=>if x.1 then a x.2 else b x.2
def Out.then(x:Out)(f:S->Out):Out:=match x with
 | .next s=>f s
 | o=>o
@[simp] theorem HU (s:S) (f:S->Out):(Out.next s).then f=f s:=rfl
@[simp] theorem II (d:D) (s:S) (f:S->Out):(Out.ret d s).then f=.ret d s:=rfl
@[simp] theorem IK (s:S) (f:S->Out):(Out.brk s).then f=.brk s:=rfl
@[simp] theorem ID (s:S) (f:S->Out):(Out.cnt s).then f=.cnt s:=rfl
@[simp] theorem IP (c:Nat) (a:D) (o:S) (f:S->Out):(Out.exc c a o).then f=.exc c a o:=rfl
@[simp] theorem Ib (f:S->Out):Out.bad.then f=.bad:=rfl
def aT(a b:SM):SM:=λs=>(a s).then b
def bI:SM:=λs=>.next s
theorem bT:RdS C DH bI:=λσ H F θ s Q b p=>p σ H F θ .refl b
theorem aN{t u:TS}{a b:SM}(ha:RdS C t a)(hb:RdS C u b):RdS C (Gp t u) (aT a b):=by
 intro σ H F θ s Q bs p
 refine ha σ H F θ s _ bs ?_
 unfold aT at p
 cases e:a s with
 | next s1=>
  rw[e] at p
  intro σ1 H1 F1 θ1 st1 b1
  exact hb σ1 H1 F1 θ1 s1 Q b1 (PoS.after st1 p)
 | ret d s1=>rw[e] at p;exact p
 | brk s1=>rw[e] at p;exact p
 | cnt s1=>rw[e] at p;exact p
 | exc c a o=>rw[e] at p;exact p
 | bad=>rw[e] at p;exact p
def de(m:EM):SM:=λs=>(m s).out λx=>.next x.2
theorem cU{t:TE}{m:EM}(h:RdE C t m):RdS C (DL t) (de m):=by
 intro σ H F θ s Q b p
 refine h σ H F θ s _ b (PoS.out p ?_)
 rintro ⟨x,s1⟩ H1 F1 θ1 _ st1 p1 b1 v r1
 exact p1 σ H1 F1 θ1 .refl b1
def cx(m:EM):SM:=λs=>(m s).out λx=>.ret x.1 x.2
theorem bP{t:TE}{m:EM}(h:RdE C t m):RdS C (Gh t) (cx m):=by
 intro σ H F θ s Q b p
 refine h σ H F θ s _ b (PoS.out p ?_)
 rintro ⟨x,s1⟩ H1 F1 θ1 _ st1 p1 b1 v r1
 exact p1 v σ H1 F1 θ1 .refl b1 r1
def Ih:SM:=λs=>.ret .non s
def ifS(c:TM)(a b:SM):SM:=λs=>(c s).out λx=>if x.1 then a x.2 else b x.2
theorem cL{t:TT}{u w:TS}{c:TM}{a b:SM}(hc:RdT C t c)(ha:RdS C u a)(hb:RdS C w b):RdS C (Gj t u w) (ifS c a b):=by
 intro σ H F θ s Q bs p
 refine hc σ H F θ s _ bs (PoS.out p ?_)
 rintro ⟨x,s1⟩ H1 F1 θ1 _ st1 p1 b1
 cases x with
 | true=>exact tH (ha σ H1 F1 θ1 s1 Q b1 p1)
 | false=>exact sP (hb σ H1 F1 θ1 s1 Q b1 p1)
def mY:SM:=λ_=>.bad
theorem jw:RdS C Aw mY:=λσ H F θ s Q b p=>p
def aO(i:Nat):GM:=λd s=>.ok ⟨s.r.set i (some d),s.o⟩
theorem bb(i:Nat):RdG C (p8 i) (aO i):=λσ H F θ s d v Q b r p=>p H F θ .refl _ (b.set r i)
def zQ(C:Ct)(t:TGs)(m:List D->S->Res S):Prop:=∀σ H F θ s ds vs Q,BS C.K C.ca σ H F θ s->aB C.K C.ca θ F ds vs->PoG C H F θ (m ds s) Q->t vs σ H Q
def eD:List D->S->Res S:=λds s=>match ds with
 | []=>.ok s
 | _=>.bad
def bA(g:GM)(r:List D->S->Res S):List D->S->Res S:=λds s=>match ds with
 | d::ds=>(g d s).bind λs1=>r ds s1
 | []=>.bad
theorem jA:zQ C Gg eD:=by
 intro σ H F θ s ds vs Q b r p
 cases ds with
 | nil=>exact⟨by unfold aB at r;exact r,p H F θ .refl σ b⟩
 | cons d ds=>exact False.elim p
theorem cO{t:TG}{u:TGs}{g:GM}{m:List D->S->Res S}(hg:RdG C t g)(hr:zQ C u m):zQ C (Dz t u) (bA g m):=by
 intro σ H F θ s ds vs Q b r p
 cases ds with
 | nil=>exact False.elim p
 | cons d ds=>
  unfold aB at r
  obtain⟨v,w,rfl,r1,r2⟩:=r
  refine⟨v,w,rfl,hg σ H F θ s d v _ b r1 (PoR.bind p ?_)⟩
  intro s1 H1 F1 θ1 _ st1 p1 σ1 b1
  exact hr σ1 H1 F1 θ1 s1 ds w Q b1 (r2.mono st1.ff st1.pre) p1
def d7(m:List D->S->Res S)(n:Nat):GM:=λd s=>match d with
 | .tup ds=>if ds.length=n then m ds s else .bad
 | _=>.bad
theorem jE{n:Nat}{t:TGs}{m:List D->S->Res S}(h:zQ C t m):RdG C (GG C.K n t) (d7 m n):=by
 intro σ H F θ s d v Q b r p
 cases d <;> first | exact False.elim p | skip
 rename_i ds
 unfold Rep at r
 obtain⟨a,xs,rfl,hs,hr⟩:=r
 unfold d7 at p
 dsimp only at p
 split at p
 ·rename_i hl
  exact⟨a,xs,rfl,bE.seqT b.now.fh hs,by rw[hr.length];exact hl,h σ H F θ s ds xs Q b hr p⟩
 ·exact False.elim p
def m7(m:EM)(g:GM):SM:=λs=>((m s).bind λx=>g x.1 x.2).out λs=>.next s
theorem wo{t:TE}{m:EM}{g:TG}{gm:GM}(h:RdE C t m)(hg:RdG C g gm):RdS C (wg t g) (m7 m gm):=by
 intro σ H F θ s Q b p
 have p':PoG C H F θ ((m s).bind λx=>gm x.1 x.2) Q.nx:=PoS.out p λs1 H1 F1 θ1 _ st1 p1 σ1 b1=>p1 σ1 H1 F1 θ1 .refl b1
 refine h σ H F θ s _ b (PoR.bind p' ?_)
 rintro ⟨x,s1⟩ H1 F1 θ1 _ st1 p1 b1 v r1
 exact hg σ H1 F1 θ1 s1 x v Q.nx b1 r1 p1
abbrev setM(i:Nat)(m:EM):SM:=m7 m (aO i)
theorem bh{t:TE}{m:EM}{i:Nat}(h:RdE C t m):RdS C (wg t (p8 i)) (setM i m):=wo h (bb i)
def IB(i:Nat)(f:Op2)(m:EM):SM:=setM i (ao f (aa i) m)
end
end M
set_option maxRecDepth 100000
set_option maxHeartbeats 4000000
namespace M
open PySem PySem.Spec PyProof.Rows L2
section
variable {C : Ct}
structure tu(C:Ct)(J:It)(ds:List D)(ok:aD->Prop)(H F:Hp)(θ:List Addr):Prop where
 go:∀(i:Nat) H2 F2 θ2 O2,i<ds.length->Stp H F θ H2 F2 θ2->Now C.K C.ca H2 F2 θ2 O2->ok O2->J.go i H2
 yl:∀(i:Nat) d σ H2 F2 θ2 s2 x H3,ds[i]? =some d->Stp H F θ H2 F2 θ2->BS C.K C.ca σ H2 F2 θ2 s2->ok s2.o->J.yld i H2 x H3->∃F3,Stp H2 F2 θ2 H3 F3 θ2/\BS C.K C.ca σ H3 F3 θ2 s2/\Rep C.K C.ca θ2 F3 d x
 st:∀(i:Nat) H2 F2 θ2 O2,ds.length<=i->Stp H F θ H2 F2 θ2->Now C.K C.ca H2 F2 θ2 O2->ok O2->J.stop i H2
def okC(ds:List D):Option Nat->aD->Prop
 | none,_=>True
 | some k,O=>O[k]? =some (.lst ds)
abbrev IM:=S->Res ((List D×Option Nat)×S)
def RdI(C:Ct)(wi:TI)(im:IM):Prop:=∀σ H F θ s R,BS C.K C.ca σ H F θ s->
 PoR C H F θ (im s) (λy H1 F1 θ1=>BS C.K C.ca σ H1 F1 θ1 y.2->∀J,tu C J y.1.1 (okC y.1.1 y.1.2) H1 F1 θ1->R J H1)->wi σ H R
open Classical in
noncomputable def ij (ok:aD->Prop)(g:GM)(body:SM):List D->S->Out
 | [],s=>if ok s.o then .next s else .bad
 | d::ds,s=>if ok s.o then (g d s).out λs1=>match body s1 with
  | .next s2=>ij ok g body ds s2
  | .cnt s2=>ij ok g body ds s2
  | .brk s2=>.next s2
  | o=>o
  else .bad
noncomputable def i8 (im:IM)(g:GM)(body:SM):SM:=λs=>(im s).out λy=>ij (okC y.1.1 y.1.2) g body y.1.1 y.2
theorem jg{wi:TI}{g:TG}{tb:TS}{im:IM}{gm:GM}{bm:SM}(hi:RdI C wi im)(hg:RdG C g gm)(hb:RdS C tb bm):RdS C (Gd wi g tb) (i8 im gm bm):=by
 intro σ H F θ s Q b p
 refine hi σ H F θ s _ b (PoS.out p ?_)
 rintro ⟨⟨ds,k⟩,s1⟩ H1 F1 θ1 _ st1 p1 b1 J it
 dsimp only at p1 it b1
 refine⟨λi m σ' H'=>m=ds.length-i/\i<=ds.length/\∃F' θ' s',Stp H1 F1 θ1 H' F' θ'/\BS C.K C.ca σ' H' F' θ' s'/\PoS C H' F' θ' (ij (okC ds k) gm bm (ds.drop i) s') Q,⟨ds.length,by simp,Nat.zero_le _,F1,θ1,s1,.refl,b1,by simpa using p1⟩, ?_⟩
 rintro i m σ' H' ⟨rfl,hil,F',θ',s',st,bs,po⟩
 by_cases lt:i<ds.length
 ·right
  rw[List.drop_eq_getElem_cons lt,ij] at po
  split at po
  ·rename_i hok
   refine⟨it.go i H' F' θ' s'.o lt st bs.now hok,λσ2 H2=>i+1<=ds.length/\∃F2 θ2 s2,Stp H1 F1 θ1 H2 F2 θ2/\BS C.K C.ca σ2 H2 F2 θ2 s2/\PoS C H2 F2 θ2 (ij (okC ds k) gm bm (ds.drop (i+1)) s2) Q,λσ2 H2 n=>⟨ds.length-(i+1),by omega,rfl,n⟩, ?_⟩
   intro x H3 hy
   obtain⟨F3,st3,b3,rp⟩:=it.yl i ds[i] σ' H' F' θ' s' x H3 (List.getElem?_eq_getElem lt) st bs hok hy
   refine hg σ' H3 F3 θ' s' ds[i] x _ b3 rp (PoS.out (PoS.after st3 po) ?_)
   intro s4 H4 F4 θ4 _ st4 p4 σ4 b4
   refine hb σ4 H4 F4 θ4 s4 _ b4 ?_
   have fin:∀s5,PoS C H4 F4 θ4 (ij (okC ds k) gm bm (ds.drop (i+1)) s5) Q->∀σ5 H5 F5 θ5,Stp H4 F4 θ4 H5 F5 θ5->BS C.K C.ca σ5 H5 F5 θ5 s5->i+1<=ds.length/\∃F2 θ2 s2,Stp H1 F1 θ1 H5 F2 θ2/\BS C.K C.ca σ5 H5 F2 θ2 s2/\PoS C H5 F2 θ2 (ij (okC ds k) gm bm (ds.drop (i+1)) s2) Q:=
    λs5 p5 σ5 H5 F5 θ5 st5 b5=>⟨lt,F5,θ5,s5,st.trans (st3.trans (st4.trans st5)),b5,PoS.after st5 p5⟩
   cases e:bm s4 with
   | next s5=>rw[e] at p4;exact fin s5 p4
   | cnt s5=>rw[e] at p4;exact fin s5 p4
   | brk s5=>rw[e] at p4;exact p4
   | ret d s5=>rw[e] at p4;exact p4
   | exc c a o=>rw[e] at p4;exact p4
   | bad=>rw[e] at p4;exact p4
  ·exact False.elim po
 ·left
  rw[List.drop_eq_nil_of_le (by omega),ij] at po
  split at po
  ·rename_i hok
   exact⟨it.st i H' F' θ' s'.o (by omega) st bs.now hok,po σ' H' F' θ' .refl bs⟩
  ·exact False.elim po
def itemsOf(O:aD):D->Res (List D×Option Nat)
 | .lst ds=>.ok (ds,none)
 | .ptr k=>match O[k]? with
  | some (.lst ds)=>.ok (ds,some k)
  | _=>.bad
 | _=>.bad
def listI(m:EM):IM:=λs=>(m s).bind λx=>(itemsOf x.2.o x.1).bind λy=>.ok (y,x.2)
theorem GF{a:Addr}{xs:List V}{ds:List D}{H F:Hp}{θ:List Addr}(hs:SqL C.K F a xs)(hr:aB C.K C.ca θ F ds xs)(inj:∀{σ H2 F2 θ2 s2},Stp H F θ H2 F2 θ2->BS C.K C.ca σ H2 F2 θ2 s2->SqL C.K H2 a xs):
 tu C (Itl C.K a) ds (okC ds none) H F θ where
 go:=λi H2 F2 θ2 O2 hi st n _=>by
  obtain⟨x,hx⟩:∃x,xs[i]? =some x:=⟨xs[i]'(by rw[hr.length];exact hi),List.getElem?_eq_getElem _⟩
  exact⟨xs,x,n.fh.seq (st.ff.seq hs),hx⟩
 yl:=λi d σ H2 F2 θ2 s2 x H3 hd st b _ hy=>by
  obtain⟨rfl,hx⟩:=hy
  refine⟨F2,.refl,b, ?_⟩
  obtain⟨v,h1,h2⟩:=hr.get hd
  have:=hx xs (b.now.fh.seq (st.ff.seq hs))
  rw[h1] at this
  cases this
  exact h2.mono st.ff st.pre
 st:=λi H2 F2 θ2 O2 hi st n _=>⟨xs,n.fh.seq (st.ff.seq hs),by rw[hr.length];exact hi⟩
theorem fv{tl:TE}{m:EM}(h:RdE C tl m):RdI C (Dn C.K tl) (listI m):=by
 intro σ H F θ s R b p
 refine h σ H F θ s _ b (PoR.bind p ?_)
 rintro ⟨x,s1⟩ H1 F1 θ1 _ st1 p1 b1 v r1
 dsimp only at p1 b1 r1
 cases x <;> first | exact False.elim p1 | skip
 ·rename_i ds _
  unfold Rep at r1
  obtain⟨a,xs,rfl,hs,hr⟩:=r1
  exact⟨a,rfl,⟨xs,b1.now.fh.seq hs⟩,p1 _ _ _ .refl b1 _ (GF hs hr λst b=>b.now.fh.seq (st.ff.seq hs))⟩
 ·rename_i k _
  unfold Rep at r1
  obtain⟨a,rfl,hk⟩:=r1
  unfold itemsOf at p1
  dsimp only at p1
  split at p1
  ·rename_i ds ek
   obtain⟨q1,xs,q2,q3⟩:je C.K C.ca H1 F1 θ1 a (.lst ds):=b1.now.ce k a _ hk ek
   refine⟨a,rfl,⟨xs,SqL.of q2⟩,p1 _ _ _ .refl b1 _ ?_⟩
   have cell:∀{H2 F2:Hp} {θ2:List Addr} {O2:aD},Stp H1 F1 θ1 H2 F2 θ2->Now C.K C.ca H2 F2 θ2 O2->O2[k]? =some (.lst ds)->∃ys,SqL C.K H2 a ys/\aB C.K C.ca θ2 F2 ds ys:=λ{H2 F2 θ2 O2} st n e=>by
    have hk2:θ2[k]? =some a:=by
     obtain⟨r,rfl,_⟩:=st.th
     rw[List.getElem?_append_left (List.getElem?_eq_some_iff.mp hk).1]
     exact hk
    obtain⟨_,ys,w2,w3⟩:je C.K C.ca H2 F2 θ2 a (.lst ds):=n.ce k a _ hk2 e
    exact⟨ys,SqL.of w2,w3⟩
   refine⟨λi H2 F2 θ2 O2 hi st n e=> ?_,λi d σ H2 F2 θ2 s2 x H3 hd st b e hy=> ?_,λi H2 F2 θ2 O2 hi st n e=> ?_⟩
   ·obtain⟨ys,w1,w2⟩:=cell st n e
    exact⟨ys,ys[i]'(by rw[w2.length];exact hi),w1,List.getElem?_eq_getElem _⟩
   ·obtain⟨rfl,hx⟩:=hy
    obtain⟨ys,w1,w2⟩:=cell st b.now e
    obtain⟨v,h1,h2⟩:=w2.get hd
    have:=hx ys w1
    rw[h1] at this
    cases this
    exact⟨F2,.refl,b,h2⟩
   ·obtain⟨ys,w1,w2⟩:=cell st n e
    exact⟨ys,w1,by rw[w2.length];exact hi⟩
  ·exact False.elim p1
def cY(lo hi:Int):List D:=(List.range (hi-lo).toNat).map λi=>.int (lo+(i:Nat))
theorem ft(lo hi:Int):(cY lo hi).length=(hi-lo).toNat:=by unfold cY;simp
theorem CS{lo hi:Int}{H F:Hp}{θ:List Addr}:tu C (Itr lo (hi-lo).toNat) (cY lo hi) (okC (cY lo hi) none) H F θ where
 go:=λi H2 F2 θ2 O2 h st n _=>by rw[ft] at h;exact h
 yl:=λi d σ H2 F2 θ2 s2 x H3 hd st b _ hy=>by
  obtain⟨rfl,rfl⟩:=hy
  refine⟨F2,.refl,b, ?_⟩
  unfold cY at hd
  rw[List.getElem?_map] at hd
  cases e:(List.range (hi-lo).toNat)[i]? with
  | none=>rw[e] at hd;cases hd
  | some j=>
   rw[e] at hd
   cases hd
   obtain⟨_,rfl⟩:∃h,j=i:=⟨trivial,by have:=(List.getElem?_eq_some_iff.mp e).2;simpa using this.symm⟩
   exact aW.mpr rfl
 st:=λi H2 F2 θ2 O2 h st n _=>by rw[ft] at h;exact h
def gf(ma:AM):IM:=λs=>(ma s).bind λx=>match x.1 with
 | [.int j]=>if -(2^62)<=j/\j<2^62 then .ok ((cY 0 j,none),x.2) else .bad
 | _=>.bad
theorem oa{K ca θ F i vs}(h:aB K ca θ F [.int i] vs):vs=[.int i]:=by
 unfold aB at h
 obtain⟨v,r,rfl,h1,h2⟩:=h
 unfold aB at h2
 rw[h2,aW.mp h1]
theorem zA{K ca θ F i j vs}(h:aB K ca θ F [.int i,.int j] vs):vs=[.int i,.int j]:=by
 unfold aB at h
 obtain⟨v,r,rfl,h1,h2⟩:=h
 rw[oa h2,aW.mp h1]
theorem iR{ta:TA}{m:AM}(h:RdA C ta m):RdI C (Dy ta) (gf m):=by
 intro σ H F θ s R b p
 refine h σ H F θ s _ b (PoR.bind p ?_)
 rintro ⟨x,s1⟩ H1 F1 θ1 _ st1 p1 b1 v r1
 dsimp only at p1 b1 r1
 split at p1
 ·rename_i j _
  split at p1
  ·rename_i hj
   refine⟨j,oa r1,hj.1,hj.2, ?_⟩
   have:=p1 _ _ _ .refl b1 _ (CS (lo:=0) (hi:=j))
   rw[Int.sub_zero] at this
   exact this
  ·exact False.elim p1
 ·exact False.elim p1
abbrev FM:=List D->aD->Res (D×aD)
def spM(K:PySem.W.Frag)(ca:Nat->Addr)(n:Nat)(f:FM):Sp:=λvs H Q E=>∃F θ ds O,Now K ca H F θ O/\aB K ca θ F ds vs/\ds.length=n/\match f ds O with
 | .ok (d,O1)=>∀v H1 F1 θ1,Stp H F θ H1 F1 θ1->Now K ca H1 F1 θ1 O1->Rep K ca θ1 F1 d v->Q v H1
 | .exc c _ s1=>∀H1 F1 θ1,Stp H F θ H1 F1 θ1->Now K ca H1 F1 θ1 s1.o->E (.ref (ca c)) none H1
 | .bad=>False
def runM(n:Nat)(m:SM):FM:=λds O=>match m ⟨ds.map some++List.replicate (n-ds.length) none,O⟩ with
 | .next s=>.ok (.non,s.o)
 | .ret d s=>.ok (d,s.o)
 | _=>.bad
def mf(n:Nat)(m:SM):FM:=λds O=>match m ⟨ds.map some++List.replicate (n-ds.length) none,O⟩ with
 | .next s=>.ok (.non,s.o)
 | .ret d s=>.ok (d,s.o)
 | .exc c a o=>.exc c a o
 | _=>.bad
theorem qW{K:PySem.W.Frag}{ca:Nat->Addr}{N:List Str}{H F:Hp}{θ:List Addr}{O:aD}{ds:List D}{vs:List V}(n:Now K ca H F θ O)(r:aB K ca θ F ds vs):
 BS K ca (L2.start N vs) H F θ ⟨ds.map some++List.replicate (N.length-ds.length) none,O⟩:=by
 refine⟨n,by unfold L2.start;simp[r.length],λi d e=> ?_⟩
 dsimp only at e
 have hi:i<ds.length:=by
  by_cases hi:i<ds.length
  ·exact hi
  ·rw[List.getElem?_append_right (by simpa using hi),List.getElem?_replicate] at e
   split at e <;> cases e
 rw[List.getElem?_append_left (by simpa using hi),List.getElem?_map] at e
 cases e1:ds[i]? with
 | none=>rw[e1] at e;cases e
 | some d'=>
  rw[e1] at e
  cases e
  obtain⟨v,h1,h2⟩:=r.get e1
  refine⟨v, ?_,h2⟩
  unfold L2.start
  rw[List.getElem?_append_left (by simpa[r.length] using hi),List.getElem?_map,h1]
  rfl
def W0:Wsh:=λ_ _ _ _ _ _=>False
theorem cb {P:Program} {w:World} {K:PySem.W.Frag} {mg:Str->Option Value} {base:Heap} {ca:Nat->Addr} {x qual:Str} {st:Stmt} {f:Addr} {fd:FuncData} {N ps:List Str} {k n:Nat} {m:SM}
 (F:Fun K x qual st f fd) (S:bc N ps (aE st)) (hn:N.length=n)
 (hm:∀(cdv:Value) (A:Around) (outer:List Env) (s:Shared) (H:Hp) (E:XK),cG k (A.deeper (envOfC qual (aE st) s.heap.objs.size f cdv))->
  ∃t,PSs (kx (CXE P w) P w K mg base N qual (aE st) f cdv A outer s H E).nox (ba st) t/\RdS ⟨K,ca,W0⟩ t m):
 d9 P w K mg base (CXE P w) (k+1) f fd ps (spM K ca ps.length (runM n m)):=by
 refine F.okE S (λvs H Q E h=> ?_) (λcdv A outer s H vs Q E hr h=> ?_)
 ·obtain⟨F,θ,ds,O,_,r,hl,_⟩:=h
  rw[r.length,hl]
 ·obtain⟨F,θ,ds,O,now,r,hl,q⟩:=h
  obtain⟨t,ht,rd⟩:=hm cdv A outer s H E hr
  refine⟨t,ht.nox,rd _ H F θ _ _ (qW now r) ?_⟩
  subst hn
  unfold runM at q
  cases e:m ⟨ds.map some++List.replicate (N.length-ds.length) none,O⟩ with
  | next s1=>rw[e] at q;exact λσ1 H1 F1 θ1 st b=>q .non H1 F1 θ1 st b.now (gj.mpr rfl)
  | ret d s1=>rw[e] at q;exact λv σ1 H1 F1 θ1 st b rv=>q v H1 F1 θ1 st b.now rv
  | exc c a o=>rw[e] at q;exact False.elim q
  | brk s1=>rw[e] at q;exact False.elim q
  | cnt s1=>rw[e] at q;exact False.elim q
  | bad=>rw[e] at q;exact False.elim q
def WE(ca:Nat->Addr)(E:XK):Wsh:=λc _ _ H1 _ _=>E (.ref (ca c)) none H1
theorem sX {P:Program} {w:World} {K:PySem.W.Frag} {mg:Str->Option Value} {base:Heap} {ca:Nat->Addr} {x qual:Str} {st:Stmt} {f:Addr} {fd:FuncData} {N ps:List Str} {k n:Nat} {m:SM} (F:Fun K x qual st f fd) (S:bc N ps (aE st)) (hn:N.length=n)
 (hm:∀(cdv:Value) (A:Around) (outer:List Env) (s:Shared) (H:Hp) (E:XK),cG k (A.deeper (envOfC qual (aE st) s.heap.objs.size f cdv))->∃t,PSs (kx (CXE P w) P w K mg base N qual (aE st) f cdv A outer s H E) (ba st) t/\RdS ⟨K,ca,WE ca E⟩ t m):
 d9 P w K mg base (CXE P w) (k+1) f fd ps (spM K ca ps.length (mf n m)):=by
 refine F.okE S (λvs H Q E h=> ?_) (λcdv A outer s H vs Q E hr h=> ?_)
 ·obtain⟨F,θ,ds,O,_,r,hl,_⟩:=h
  rw[r.length,hl]
 ·obtain⟨F,θ,ds,O,now,r,hl,q⟩:=h
  obtain⟨t,ht,rd⟩:=hm cdv A outer s H E hr
  refine⟨t,ht,rd _ H F θ _ _ (qW now r) ?_⟩
  subst hn
  unfold mf at q
  cases e:m ⟨ds.map some++List.replicate (N.length-ds.length) none,O⟩ with
  | next s1=>rw[e] at q;exact λσ1 H1 F1 θ1 st b=>q .non H1 F1 θ1 st b.now (gj.mpr rfl)
  | ret d s1=>rw[e] at q;exact λv σ1 H1 F1 θ1 st b rv=>q v H1 F1 θ1 st b.now rv
  | exc c a o=>rw[e] at q;exact λH1 F1 θ1 st n=>q H1 F1 θ1 st n
  | brk s1=>rw[e] at q;exact False.elim q
  | cnt s1=>rw[e] at q;exact False.elim q
  | bad=>rw[e] at q;exact False.elim q
theorem BS.called{K:PySem.W.Frag}{ca:Nat->Addr}{σ:L2.St}{H F H1 F1:Hp}{θ θ1:List Addr}{s:S}{O1:aD}(b:BS K ca σ H F θ s)(st:Stp H F [] H1 F1 θ1)(n:Now K ca H1 F1 θ1 O1):
 Stp H F θ H1 F1 θ/\BS K ca σ H1 F1 θ s:=by
 have kp:∀b o,H b=some o->H1 b=some o:=λb o h=>st.kp b o h (by simp)
 have nf:∀b o,F1 b=some o->F b=some o\/H b=none:=λb o h=>by
  rcases st.nf b o h with z | z | z
  ·exact .inl z
  ·exact .inr z
  ·simp at z
 refine⟨⟨st.ff,⟨[],by simp,by simp⟩,λb o h _=>kp b o h,st.al,λb o h=>(nf b o h).elim .inl λz=>.inr (.inl z)⟩,⟨⟨n.fh,b.now.nd,b.now.ln,λk a c e1 e2=> ?_⟩,b.len,λi d e=> ?_⟩⟩
 ·have q:=b.now.ce k a c e1 e2
  obtain⟨u,hu⟩:=q.there
  have fn:F a=none->F1 a=none:=λh=>by
   cases e:F1 a with
   | none=>rfl
   | some o=>
    rcases nf a o e with z | z
    ·rw[h] at z;cases z
    ·rw[hu] at z;cases z
  cases c with
  | dead=>exact⟨u,kp a u hu⟩
  | lst ds=>
   obtain⟨q1,xs,q2,q3⟩:=q
   exact⟨fn q1,xs,kp _ _ q2,q3.mono st.ff ⟨[],by simp⟩⟩
  | ins c ns ds=>
   obtain⟨q1,dx,xs,q2,q3,q4⟩:=q
   exact⟨fn q1,dx,xs,kp _ _ q2,q3,q4.mono st.ff ⟨[],by simp⟩⟩
 ·obtain⟨v,h1,h2⟩:=b.sl i d e
  exact⟨v,h1,h2.mono st.ff ⟨[],by simp⟩⟩
def aK(n:Nat)(f:FM)(ma:AM):EM:=λs=>(ma s).bind λx=>if aI x.1=true/\x.1.length=n then (match f x.1 [] with
 | .ok (d,_)=>if bV d=true then .ok (d,x.2) else .bad
 | _=>.bad) else .bad
theorem aQ{n:Nat}{f:FM}{ta:TA}{ma:AM}{E:XK}(ha:RdA C ta ma):RdE C (sk (spM C.K C.ca n f) [] E ta) (aK n f ma):=by
 intro σ H F θ s Q b p
 refine ha σ H F θ s _ b (PoR.bind p ?_)
 rintro ⟨x,s1⟩ H1 F1 θ1 _ st1 p1 b1 v r1
 dsimp only at p1 b1 r1 ⊢
 split at p1
 ·rename_i hp
  rw[List.append_nil]
  refine⟨F1,[],x,[],Now.nil b1.now.fh,r1.pure hp.1,hp.2, ?_⟩
  split at p1
  ·rename_i d O1 e
   rw[e]
   intro v H2 F2 θ2 st2 n2 rv
   split at p1
   ·rename_i pd
    obtain⟨st3,b3⟩:=b1.called st2 n2
    exact p1 H2 F2 θ1 st3 b3 v (rv.pure pd)
   ·exact False.elim p1
  ·exact False.elim p1
 ·exact False.elim p1
end
end M
set_option maxRecDepth 100000
set_option maxHeartbeats 4000000
namespace M
open PySem PySem.Spec PyProof.Rows L2
section
variable {C : Ct}
theorem cP{σ:L2.St}{H F:Hp}{θ:List Addr}{s:S}{d:D}{Q:VK}(p:PoE C σ H F θ ((Res.ok d).bind λd=>.ok (d,s)) Q)(b:BS C.K C.ca σ H F θ s){v:V}(r:Rep C.K C.ca θ F d v):Q v H:=p H F θ .refl b v r
theorem pO{σ:L2.St}{H F:Hp}{θ:List Addr}{s:S}{ds:List D}{Q:VK}(p:PoE C σ H F θ ((Res.ok (D.lst ds)).bind λd=>.ok (d,s)) Q)(b:BS C.K C.ca σ H F θ s){xs:List V}(r:aB C.K C.ca θ F ds xs):
 ∀q,H q=none->Q (.ref q) (upd H q (.lst xs)):=λq hq=>by
 obtain⟨st,b2,sF,e⟩:=b.newF hq (.lst xs)
 refine p _ _ _ st b2 _ ?_
 unfold Rep
 exact⟨q,xs,rfl,SqL.of e,r.mono sF ⟨[],by simp⟩⟩
def lsD(O:aD):D->Option (List D)
 | .lst ds=>some ds
 | .ptr k=>match O[k]? with
  | some (.lst ds)=>some ds
  | _=>none
 | _=>none
@[simp] theorem nK {O:aD} {ds:List D}:lsD O (.lst ds)=some ds:=rfl
theorem gy{σ:L2.St}{H F:Hp}{θ:List Addr}{s:S}{d:D}{ds:List D}{v:V}(b:BS C.K C.ca σ H F θ s)(r:Rep C.K C.ca θ F d v)(e:lsD s.o d=some ds):∃a xs,v=.ref a/\SqL C.K H a xs/\aB C.K C.ca θ F ds xs:=by
 cases d <;> first | (simp[lsD] at e;done) | skip
 ·cases e
  unfold Rep at r
  obtain⟨a,xs,rfl,hs,hr⟩:=r
  exact⟨a,xs,rfl,b.now.fh.seq hs,hr⟩
 ·rename_i k
  unfold Rep at r
  obtain⟨a,rfl,hk⟩:=r
  unfold lsD at e
  dsimp only at e
  split at e
  ·rename_i ds' ek
   cases e
   obtain⟨_,xs,h1,h2⟩:je C.K C.ca H F θ a (.lst ds):=b.now.ce k a _ hk ek
   exact⟨a,xs,rfl,SqL.of h1,h2⟩
  ·cases e
theorem rC{σ:L2.St}{H F:Hp}{θ:List Addr}{s:S}{ds:List D}{v:V}(b:BS C.K C.ca σ H F θ s)(r:Rep C.K C.ca θ F (.tup ds) v):∃a xs,v=.ref a/\SqT C.K H a xs/\aB C.K C.ca θ F ds xs:=by
 unfold Rep at r
 obtain⟨a,xs,rfl,hs,hr⟩:=r
 exact⟨a,xs,rfl,bE.seqT b.now.fh hs,hr⟩
def intD(g:Int->Int->Res D):Op2:=λ_ x y=>match x,y with
 | .int i,.int j=>g i j
 | _,_=>.bad
theorem sq{g:Int->Int->V}{f:Int->Int->D}(h:∀K ca θ F i j,Rep K ca θ F (f i j) (g i j)):fS C (rI0 g) (intD λi j=>.ok (f i j)):=by
 intro σ H F θ s x y v w Q b rx ry p
 unfold intD at p
 split at p
 ·rename_i i j
  exact⟨i,j,aW.mp rx,aW.mp ry,cP p b (h ..)⟩
 ·exact False.elim p
open Classical in
noncomputable def sT (c:Int->Int->Prop)(f:Int->Int->D):Op2:=intD λi j=>if c i j then .ok (f i j) else .bad
theorem vk{c:Int->Int->Prop}{g:Int->Int->V}{f:Int->Int->D}(h:∀K ca θ F i j,Rep K ca θ F (f i j) (g i j)):fS C (rI c g) (sT c f):=by
 intro σ H F θ s x y v w Q b rx ry p
 unfold sT intD at p
 split at p
 ·rename_i i j
  dsimp only at p
  split at p
  ·rename_i hc
   exact⟨i,j,aW.mp rx,aW.mp ry,hc,cP p b (h ..)⟩
  ·exact False.elim p
 ·exact False.elim p
def eY:Op2:=intD λi j=>.ok (.int (i-j))
noncomputable def ck:Op2:=sT IntMulOk λi j=>.int (i*j)
noncomputable def gA:Op2:=sT (λi j=>j≠0) λi j=>.int (i.fdiv j)
noncomputable def dh:Op2:=sT (λ_ j=>j≠0) λi j=>.int (i.fmod j)
noncomputable def eN:Op2:=sT BU λi j=>.int (i^j.toNat)
def ltD:Op2:=intD λi j=>.ok (.bl (decide (i<j)))
def leD:Op2:=intD λi j=>.ok (.bl (decide (i<=j)))
def gtD:Op2:=intD λi j=>.ok (.bl (decide (j<i)))
def geD:Op2:=intD λi j=>.ok (.bl (decide (j<=i)))
def mZ:Op1:=λ_ x=>match x with
 | .int i=>.ok (.int (-i))
 | _=>.bad
section
variable {X : Cx}
theorem eX:OpR X (binaryOp .Mult) (rI IntMulOk λi j=>.int (i*j)):=opI λ_ _ _ _ _ _ _ hc q=>mul_int q hc
theorem mC(hd:X.A.depth+100<recursionLimit)(ht:X.prog.given.tree=none)(hs:∃env l,X.stack=env::l/\env.scope.isGenerator=false/\env.scope.isCoroutine=false/\env.builtins=builtinsNs/\env.globals=mainGlobals):
 OpR X (binaryOp .FloorDiv) (rI (λi j=>j≠0) λi j=>.int (i.fdiv j)):=by
 intro pins s σ H x y v u Q I rx ry h
 obtain⟨i,j,rfl,rfl,hc,q⟩:=h
 obtain⟨t,rfl⟩:=rx
 obtain⟨t',rfl⟩:=ry
 obtain⟨env,l,e,h1,h2,h3,h4⟩:=hs
 exact floordiv_int hc ⟨.int _,H,I.tok _,⟨_,rfl⟩,q⟩ (.inr (PylongRoom.of I.nolimit hd (SeerAt.of I.noseer ht (I.ok.frames.trans (by rw[e])) h1 h2 h3 h4)))
def Ao(K:PySem.W.Frag):R2:=λx y H Q=>rI0 (λi j=>.int (i+j)) x y H Q\/(∃i j,x=.str i/\y=.str j/\i.length+j.length<=sizeLine/\Q (.str (i++j)) H)\/Dw K x y H Q
theorem cv:OpR X (binaryOp .Add) (Ao X.K):=Fn.or (Ak.or Eg)
theorem HE:OpR X (inplaceOp .Add) (rI0 λi j=>.int (i+j)):=EX
end
def zr:Op2:=intD λi j=>.ok (.int (i+j))
def bu:Op2:=λO x y=>match x,y with
 | .int i,.int j=>.ok (.int (i+j))
 | .str a,.str b=>if a.length+b.length<=16777216 then .ok (.str (a++b)) else .bad
 | x,y=>match lsD O x,lsD O y with
  | some a,some b=>if a.length+b.length<=16777216 then .ok (.lst (a++b)) else .bad
  | _,_=>.bad
theorem D7:fS C (rI0 λi j=>.int (i+j)) zr:=sq λ_ _ _ _ _ _=>aW.mpr rfl
theorem bX:fS C (Ao C.K) bu:=by
 intro σ H F θ s x y v w Q b rx ry p
 have lists:∀{a c:List D},lsD s.o x=some a->lsD s.o y=some c->PoE C σ H F θ ((if a.length+c.length<=16777216 then Res.ok (D.lst (a++c)) else .bad).bind λd=>.ok (d,s)) Q->Ao C.K v w H Q:=λ{a c} e1 e2 p=>by
  split at p
  ·rename_i hl
   obtain⟨l1,xs,rfl,s1,r1⟩:=gy b rx e1
   obtain⟨l2,ys,rfl,s2,r2⟩:=gy b ry e2
   exact .inr (.inr ⟨l1,l2,xs,ys,rfl,rfl,s1,s2,by rw[r1.length,r2.length];exact hl,pO p b (r1.append r2)⟩)
  ·exact False.elim p
 unfold bu at p
 split at p
 ·rename_i i j
  exact .inl ⟨i,j,aW.mp rx,aW.mp ry,cP p b (aW.mpr rfl)⟩
 ·rename_i i j
  split at p
  ·rename_i hl
   exact .inr (.inl ⟨i,j,cA.mp rx,cA.mp ry,hl,cP p b (cA.mpr rfl)⟩)
  ·exact False.elim p
 ·split at p
  ·rename_i a c e1 e2
   exact lists e1 e2 p
  ·exact False.elim p
theorem jY:fS C (rI0 λi j=>.int (i-j)) eY:=sq λ_ _ _ _ _ _=>aW.mpr rfl
theorem dP:fS C (rI IntMulOk λi j=>.int (i*j)) ck:=vk λ_ _ _ _ _ _=>aW.mpr rfl
theorem kc:fS C (rI (λi j=>j≠0) λi j=>.int (i.fdiv j)) gA:=vk λ_ _ _ _ _ _=>aW.mpr rfl
theorem eU:fS C (rI (λ_ j=>j≠0) λi j=>.int (i.fmod j)) dh:=vk λ_ _ _ _ _ _=>aW.mpr rfl
theorem lZ:fS C (rI BU λi j=>.int (i^j.toNat)) eN:=vk λ_ _ _ _ _ _=>aW.mpr rfl
theorem zL:fS C (rI0 λi j=>.bl (decide (i<j))) ltD:=sq λ_ _ _ _ _ _=>b8.mpr rfl
theorem jQ:fS C (rI0 λi j=>.bl (decide (j<i))) gtD:=sq λ_ _ _ _ _ _=>b8.mpr rfl
theorem rE:Gw C (rU λi=>.int (-i)) mZ:=by
 intro σ H F θ s x v Q b rx p
 unfold mZ at p
 split at p
 ·rename_i i
  exact⟨i,aW.mp rx,cP p b (aW.mpr rfl)⟩
 ·exact False.elim p
mutual
def toPy:D->Option PyData
 | .non=>some .none
 | .bl b=>some (.bool b)
 | .int i=>some (.int i)
 | .str x=>some (.str x)
 | .lst ds=>(gB ds).map .list
 | .tup ds=>(gB ds).map .tuple
 | .ptr _=>none
 | .obj _ _ _=>none
 | .exn _=>none
def gB:List D->Option (List PyData)
 | []=>some []
 | d::ds=>match toPy d,gB ds with
  | some a,some b=>some (a::b)
  | _,_=>none
end
mutual
def res(O:aD):D->D
 | .lst ds=>.lst (bH O ds)
 | .tup ds=>.tup (bH O ds)
 | .ptr k=>match O[k]? with
  | some (.lst ds)=>.lst ds
  | _=>.ptr k
 | .non=>.non
 | .bl b=>.bl b
 | .int i=>.int i
 | .str x=>.str x
 | .obj c ns ds=>.obj c ns ds
 | .exn c=>.exn c
def bH(O:aD):List D->List D
 | []=>[]
 | d::ds=>res O d::bH O ds
end
section
variable {K : PySem.W.Frag} {ca : Nat → Addr} {H F G : Hp} {θ : List Addr} {O : aD}
mutual
theorem tF(n:Now K ca H F θ O)(hF:bE F G)(hG:bE G H):∀{d:D} {v:V},Rep K ca θ G d v->Rep K ca θ H (res O d) v
 | .non,_,h=>by unfold res;exact h
 | .bl _,_,h=>by unfold res;exact h
 | .int _,_,h=>by unfold res;exact h
 | .str _,_,h=>by unfold res;exact h
 | .lst ds,_,h=>by
  unfold res
  unfold Rep at h ⊢
  obtain⟨a,xs,e,hs,hr⟩:=h
  exact⟨a,xs,e,hG.seq hs,mD n hF hG hr⟩
 | .tup ds,_,h=>by
  unfold res
  unfold Rep at h ⊢
  obtain⟨a,xs,e,hs,hr⟩:=h
  exact⟨a,xs,e,bE.seqT hG hs,mD n hF hG hr⟩
 | .ptr k,v,h=>by
  unfold res
  split
  ·rename_i ds e
   unfold Rep at h ⊢
   obtain⟨a,ev,hk⟩:=h
   obtain⟨_,xs,h1,h2⟩:je K ca H F θ a (.lst ds):=n.ce k a _ hk e
   exact⟨a,xs,ev,SqL.of h1,h2.mono n.fh ⟨[],by simp⟩⟩
  ·exact h.mono hG ⟨[],by simp⟩
 | .obj c ns ds,_,h=>by unfold res;exact h.mono hG ⟨[],by simp⟩
 | .exn c,_,h=>by unfold res;exact h.mono hG ⟨[],by simp⟩
theorem mD(n:Now K ca H F θ O)(hF:bE F G)(hG:bE G H):∀{ds:List D} {xs:List V},aB K ca θ G ds xs->aB K ca θ H (bH O ds) xs
 | [],_,h=>by unfold bH;exact h
 | d::ds,_,h=>by
  unfold bH
  unfold aB at h ⊢
  obtain⟨v,r,e,h1,h2⟩:=h
  exact⟨v,r,e,tF n hF hG h1,mD n hF hG h2⟩
end
mutual
theorem sN:∀{d:D} {v:V} {p:PyData},Rep K ca θ H d v->toPy d=some p->RdV K H p v
 | .non,_,_,h,e=>by unfold toPy at e;cases e;unfold RdV;exact gj.mp h
 | .bl b,_,_,h,e=>by unfold toPy at e;cases e;unfold RdV;exact b8.mp h
 | .int b,_,_,h,e=>by unfold toPy at e;cases e;unfold RdV;exact aW.mp h
 | .str b,_,_,h,e=>by unfold toPy at e;cases e;unfold RdV;exact cA.mp h
 | .lst ds,_,_,h,e=>by
  unfold toPy at e
  cases e1:gB ds with
  | none=>rw[e1] at e;cases e
  | some ps=>
   rw[e1] at e
   cases e
   unfold Rep at h
   obtain⟨a,xs,ev,hs,hr⟩:=h
   unfold RdV
   exact⟨a,xs,ev,hs,qZ hr e1⟩
 | .tup ds,_,_,h,e=>by
  unfold toPy at e
  cases e1:gB ds with
  | none=>rw[e1] at e;cases e
  | some ps=>
   rw[e1] at e
   cases e
   unfold Rep at h
   obtain⟨a,xs,ev,hs,hr⟩:=h
   unfold RdV
   exact⟨a,xs,ev,hs,qZ hr e1⟩
 | .ptr _,_,_,_,e=>by unfold toPy at e;cases e
 | .obj _ _ _,_,_,_,e=>by unfold toPy at e;cases e
 | .exn _,_,_,_,e=>by unfold toPy at e;cases e
theorem qZ:∀{ds:List D} {xs:List V} {ps:List PyData},aB K ca θ H ds xs->gB ds=some ps->n9 K H ps xs
 | [],_,_,h,e=>by unfold gB at e;cases e;unfold n9;unfold aB at h;exact h
 | d::ds,_,_,h,e=>by
  unfold gB at e
  cases e1:toPy d with
  | none=>rw[e1] at e;cases e
  | some p=>
   cases e2:gB ds with
   | none=>rw[e1,e2] at e;cases e
   | some ps=>
    rw[e1,e2] at e
    cases e
    unfold aB at h
    obtain⟨v,r,ev,h1,h2⟩:=h
    unfold n9
    exact⟨v,r,ev,sN h1 e1,qZ h2 e2⟩
end
end
def gK(O:aD)(x y:D):Option Bool:=match toPy (res O (res O x)),toPy (res O (res O y)) with
 | some a,some b=>if SeqAt.shaped a=true/\SeqAt.shaped b=true then some (PyData.eqv a b) else none
 | _,_=>none
def eqB(O:aD)(x y:D):Option Bool:=match x,y with
 | .int i,.int j=>some (decide (i=j))
 | .str i,.str j=>some (decide (i=j))
 | .bl i,.bl j=>some (decide (i=j))
 | .non,.non=>some true
 | x,y=>gK O x y
def eqD:Op2:=λO x y=>match eqB O x y with
 | some b=>.ok (.bl b)
 | none=>.bad
def neD:Op2:=λO x y=>match eqB O x y with
 | some b=>.ok (.bl (!b))
 | none=>.bad
section
variable {X : Cx}
def FL(K:PySem.W.Frag):R2:=λx y H Q=>rEq x y H Q\/GR K x y H Q
def Gy(K:PySem.W.Frag):R2:=λx y H Q=>rNe x y H Q\/GY K x y H Q
theorem i7(hu:X.A.units+64<cLine):OpR X (compareOp .Eq) (FL X.K):=Hg.or (Fu hu)
theorem CI(hu:X.A.units+64<cLine):OpR X (compareOp .NotEq) (Gy X.K):=He.or (Fq hu)
end
theorem uv{σ:L2.St}{H F:Hp}{θ:List Addr}{s:S}{x y:D}{v w:V}{k:Bool}(b:BS C.K C.ca σ H F θ s)(rx:Rep C.K C.ca θ F x v)(ry:Rep C.K C.ca θ F y w)(e:gK s.o x y=some k):
 ∃d e,RdV C.K H d v/\RdV C.K H e w/\SeqAt.shaped d=true/\SeqAt.shaped e=true/\PyData.eqv d e=k:=by
 unfold gK at e
 split at e
 ·rename_i a c e1 e2
  split at e
  ·rename_i hs
   cases e
   have rr:∀{d:D} {u:V},Rep C.K C.ca θ F d u->Rep C.K C.ca θ H (res s.o (res s.o d)) u:=λh=>tF b.now b.now.fh (bE.refl _) (tF b.now (bE.refl _) b.now.fh h)
   exact⟨a,c,sN (rr rx) e1,sN (rr ry) e2,hs.1,hs.2,rfl⟩
  ·cases e
 ·cases e
theorem fU:fS C (FL C.K) eqD:=by
 intro σ H F θ s x y v w Q b rx ry p
 unfold eqD at p
 split at p
 ·rename_i k e
  have q:=λH' (h:H'=H)=>h▸cP p b (v:=.bl k) (b8.mpr rfl)
  have q:=q H rfl
  unfold eqB at e
  split at e
  ·rename_i i j
   cases e
   cases aW.mp rx;cases aW.mp ry
   exact .inl ⟨rfl,by rw[p9,Bool.beq_eq_decide_eq];exact q⟩
  ·cases e
   cases cA.mp rx;cases cA.mp ry
   exact .inl ⟨rfl,by rw[qb,Bool.beq_eq_decide_eq];exact q⟩
  ·cases e
   cases b8.mp rx;cases b8.mp ry
   exact .inl ⟨rfl,by rw[rL,Bool.beq_eq_decide_eq];exact q⟩
  ·cases e
   cases gj.mp rx;cases gj.mp ry
   exact .inl ⟨rfl,by simpa using q⟩
  ·obtain⟨d,e',h1,h2,h3,h4,h5⟩:=uv b rx ry e
   exact .inr ⟨d,e',h1,h2,h3,h4,by rw[h5];exact q⟩
 ·exact False.elim p
theorem zH:fS C (Gy C.K) neD:=by
 intro σ H F θ s x y v w Q b rx ry p
 unfold neD at p
 split at p
 ·rename_i k e
  have q:=cP p b (v:=.bl (!k)) (b8.mpr rfl)
  unfold eqB at e
  split at e
  ·rename_i i j
   cases e
   cases aW.mp rx;cases aW.mp ry
   exact .inl ⟨rfl,by rw[p9,Bool.beq_eq_decide_eq];exact q⟩
  ·cases e
   cases cA.mp rx;cases cA.mp ry
   exact .inl ⟨rfl,by rw[qb,Bool.beq_eq_decide_eq];exact q⟩
  ·cases e
   cases b8.mp rx;cases b8.mp ry
   exact .inl ⟨rfl,by rw[rL,Bool.beq_eq_decide_eq];exact q⟩
  ·cases e
   cases gj.mp rx;cases gj.mp ry
   exact .inl ⟨rfl,by simpa using q⟩
  ·obtain⟨d,e',h1,h2,h3,h4,h5⟩:=uv b rx ry e
   exact .inr ⟨d,e',h1,h2,h3,h4,by rw[h5];exact q⟩
 ·exact False.elim p
def ixD:Op2:=λO x y=>match y with
 | .int i=>match x with
  | .tup ds=>match atI ds i with
   | some d=>.ok d
   | none=>.bad
  | .str z=>if z.length<=16777216 then (match atI z.cps.toList i with
   | some c=>.ok (.str ⟨#[c]⟩)
   | none=>.bad) else .bad
  | x=>match lsD O x with
   | some ds=>match atI ds i with
    | some d=>.ok d
    | none=>.bad
   | none=>.bad
 | _=>.bad
theorem yp{K ca θ F}{ds:List D}{xs:List V}{i:Int}{d:D}(r:aB K ca θ F ds xs)(e:atI ds i=some d):∃v,atI xs i=some v/\Rep K ca θ F d v:=by
 unfold atI at e ⊢
 rw[r.length]
 cases q:ixN ds.length i with
 | none=>rw[q] at e;cases e
 | some j=>
  rw[q] at e
  exact r.get e
theorem dw:fS C (rIx C.K) ixD:=by
 intro σ H F θ s x y v w Q b rx ry p
 unfold ixD at p
 split at p
 ·rename_i i
  split at p
  ·rename_i ds
   obtain⟨a,xs,rfl,hs,hr⟩:=rC b rx
   split at p
   ·rename_i d e
    obtain⟨u,e1,r1⟩:=yp hr e
    exact .inr (.inl ⟨a,xs,i,u,rfl,aW.mp ry,hs,e1,cP p b r1⟩)
   ·exact False.elim p
  ·rename_i z
   split at p
   ·rename_i hz
    split at p
    ·rename_i c e
     exact .inr (.inr ⟨z,i,c,cA.mp rx,aW.mp ry,hz,e,cP p b (cA.mpr rfl)⟩)
    ·exact False.elim p
   ·exact False.elim p
  ·split at p
   ·rename_i ds e0
    obtain⟨a,xs,rfl,hs,hr⟩:=gy b rx e0
    split at p
    ·rename_i d e
     obtain⟨u,e1,r1⟩:=yp hr e
     exact .inl ⟨a,xs,i,u,rfl,aW.mp ry,hs,e1,cP p b r1⟩
    ·exact False.elim p
   ·exact False.elim p
 ·exact False.elim p
abbrev OM:=S->Res (Option Int×S)
def RdO(C:Ct)(t:TO)(m:OM):Prop:=∀σ H F θ s Q,BS C.K C.ca σ H F θ s->PoR C H F θ (m s) (λy H1 F1 θ1=>BS C.K C.ca σ H1 F1 θ1 y.2->Q y.1 H1)->t σ H Q
def eH:OM:=λs=>.ok (none,s)
def part(m:EM):OM:=λs=>(m s).bind λx=>match x.1 with
 | .int i=>.ok (some i,x.2)
 | _=>.bad
theorem jB:RdO C yj eH:=λσ H F θ s Q b p=>p H F θ .refl b
theorem kB{t:TE}{m:EM}(h:RdE C t m):RdO C (DG t) (part m):=by
 intro σ H F θ s Q b p
 refine h σ H F θ s _ b (PoR.bind p ?_)
 rintro ⟨x,s1⟩ H1 F1 θ1 _ st1 p1 b1 v r1
 cases x <;> first | exact False.elim p1 | skip
 rename_i i _
 exact⟨i,aW.mp r1,p1 _ _ _ .refl b1⟩
def cutD(ds:List D)(lo hi:Option Int):List D:=(ds.drop (HT.sIx ds.length 0 lo)).take (HT.sIx ds.length ds.length hi-HT.sIx ds.length 0 lo)
theorem DM{K ca θ F}{ds:List D}{xs:List V}{lo hi:Option Int}(r:aB K ca θ F ds xs):aB K ca θ F (cutD ds lo hi) (tj xs lo hi):=by
 unfold cutD tj
 rw[r.length]
 exact(r.drop _).take _
def slM(me:EM)(ml mh:OM):EM:=λs=>(me s).bind λx=>(ml x.2).bind λl=>(mh l.2).bind λh=>match lsD h.2.o x.1 with
 | some ds=>.ok (.lst (cutD ds l.1 h.1),h.2)
 | none=>.bad
theorem Ab{te:TE}{tl th:TO}{me:EM}{ml mh:OM}(he:RdE C te me)(hl:RdO C tl ml)(hh:RdO C th mh):RdE C (tSl (FX C.K) te tl th) (slM me ml mh):=by
 intro σ H F θ s Q b p
 refine he σ H F θ s _ b (PoR.bind p ?_)
 rintro ⟨x,s1⟩ H1 F1 θ1 _ st1 p1 b1 v r1
 refine hl σ H1 F1 θ1 s1 _ b1 (PoR.bind p1 ?_)
 rintro ⟨l,s2⟩ H2 F2 θ2 _ st2 p2 b2
 refine hh σ H2 F2 θ2 s2 _ b2 (PoR.bind p2 ?_)
 rintro ⟨h,s3⟩ H3 F3 θ3 _ st3 p3 b3
 dsimp only at p3 ⊢
 split at p3
 ·rename_i ds e
  obtain⟨a,xs,rfl,hs,hr⟩:=gy b3 ((r1.mono st2.ff st2.pre).mono st3.ff st3.pre) e
  exact⟨a,xs,rfl,hs,pO (ds:=cutD ds l h) p3 b3 (DM hr)⟩
 ·exact False.elim p3
def dA:OpN:=λO xs=>match xs with
 | [.str z]=>if z.length<=16777216 then .ok (.int z.length) else .bad
 | [.tup ds]=>.ok (.int ds.length)
 | [x]=>match lsD O x with
  | some ds=>.ok (.int ds.length)
  | none=>.bad
 | _=>.bad
theorem kH{K ca θ F}{x:D}{vs:List V}(h:aB K ca θ F [x] vs):∃v,vs=[v]/\Rep K ca θ F x v:=by
 unfold aB at h
 obtain⟨v,r,rfl,h1,h2⟩:=h
 unfold aB at h2
 rw[h2]
 exact⟨v,rfl,h1⟩
theorem HC{K ca θ F}{x y:D}{vs:List V}(h:aB K ca θ F [x,y] vs):∃v w,vs=[v,w]/\Rep K ca θ F x v/\Rep K ca θ F y w:=by
 unfold aB at h
 obtain⟨v,r,rfl,h1,h2⟩:=h
 obtain⟨w,rfl,h3⟩:=kH h2
 exact⟨v,w,rfl,h1,h3⟩
theorem gi:j2 C (λxs H Q=>∃x n,xs=[x]/\FY C.K x H n/\Q (.int n) H) dA:=by
 intro σ H F θ s xs vs Q b r p
 unfold dA at p
 split at p
 ·rename_i z
  obtain⟨v,rfl,r1⟩:=kH r
  cases cA.mp r1
  split at p
  ·rename_i hz
   exact⟨.str z,z.length,rfl,⟨hz,rfl⟩,cP p b (aW.mpr rfl)⟩
  ·exact False.elim p
 ·rename_i ds
  obtain⟨v,rfl,r1⟩:=kH r
  obtain⟨a,xs,rfl,hs,hr⟩:=rC b r1
  exact⟨.ref a,ds.length,rfl,.inr ⟨xs,hs,by rw[hr.length]⟩,cP p b (aW.mpr rfl)⟩
 ·rename_i x _ _
  obtain⟨v,rfl,r1⟩:=kH r
  split at p
  ·rename_i ds e
   obtain⟨a,xs,rfl,hs,hr⟩:=gy b r1 e
   exact⟨.ref a,ds.length,rfl,.inl ⟨xs,hs,by rw[hr.length]⟩,cP p b (aW.mpr rfl)⟩
  ·exact False.elim p
 ·exact False.elim p
def ig:OpN:=λO xs=>match xs with
 | [.tup ds]=>.ok (.lst ds)
 | [x]=>match lsD O x with
  | some ds=>.ok (.lst ds)
  | none=>.bad
 | _=>.bad
theorem jr:j2 C (λxs H Q=>∃p ys,xs=[.ref p]/\(SqL C.K H p ys\/SqT C.K H p ys)/\∀l,H l=none->Q (.ref l) (upd H l (.lst ys))) ig:=by
 intro σ H F θ s xs vs Q b r p
 unfold ig at p
 split at p
 ·rename_i ds
  obtain⟨v,rfl,r1⟩:=kH r
  obtain⟨a,xs,rfl,hs,hr⟩:=rC b r1
  exact⟨a,xs,rfl,.inr hs,pO p b hr⟩
 ·obtain⟨v,rfl,r1⟩:=kH r
  split at p
  ·rename_i ds e
   obtain⟨a,xs,rfl,hs,hr⟩:=gy b r1 e
   exact⟨a,xs,rfl,.inl hs,pO p b hr⟩
  ·exact False.elim p
 ·exact False.elim p
def IE:OpN:=λ_ xs=>match xs with
 | [.int i]=>.ok (.int (if i<0 then -i else i))
 | _=>.bad
def intOf:OpN:=λ_ xs=>match xs with
 | [.int i]=>.ok (.int i)
 | [.bl k]=>.ok (.int (if k then 1 else 0))
 | _=>.bad
theorem nS:j2 C (λxs H Q=>(∃i,xs=[.int i]/\Q (.int i) H)\/∃k,xs=[.bl k]/\Q (.int (if k then 1 else 0)) H) intOf:=by
 intro σ H F θ s xs vs Q b r p
 unfold intOf at p
 split at p
 ·rename_i i
  exact .inl ⟨i,oa r,cP p b (aW.mpr rfl)⟩
 ·rename_i k
  obtain⟨v,rfl,r1⟩:=kH r
  cases b8.mp r1
  exact .inr ⟨k,rfl,cP p b (aW.mpr rfl)⟩
 ·exact False.elim p
def tyD(O:aD):D->Option String
 | .non=>some "NoneType"
 | .bl _=>some "bool"
 | .int _=>some "int"
 | .str _=>some "str"
 | .lst _=>some "list"
 | .tup _=>some "tuple"
 | .ptr k=>match O[k]? with
  | some (.lst _)=>some "list"
  | _=>none
 | .obj _ _ _=>none
 | .exn _=>none
def d5(t c:String):Bool:=t == c||(t == "bool" &&c == "int")
def jx(c:String):Op1:=λO x=>match tyD O x with
 | some t=>.ok (.bl (d5 t c))
 | none=>.bad
def sY(c:String):Prop:=∀K:PySem.W.Frag,∀t∈["NoneType","bool","int","str","list","tuple"],PySem.W.kitOne K (.type t) (.type c)=some (d5 t c)
theorem ty_int:sY "int" :=by
 intro K t ht
 simp only[List.mem_cons,List.mem_nil_iff,or_false] at ht
 rcases ht with rfl | rfl | rfl | rfl | rfl | rfl <;> rfl
theorem ty_bool:sY "bool" :=by
 intro K t ht
 simp only[List.mem_cons,List.mem_nil_iff,or_false] at ht
 rcases ht with rfl | rfl | rfl | rfl | rfl | rfl <;> rfl
theorem pz{c:String}{te:TE}{m:EM}(hc:sY c)(h:RdE C te m):RdE C (tCB (C9 C.K) (fV te (fV (tC (.ty c)) lg))) (unM (jx c) m):=by
 intro σ H F θ s Q b p
 refine h σ H F θ s _ b (PoR.bind p ?_)
 rintro ⟨x,s1⟩ H1 F1 θ1 _ st1 p1 b1 v r1
 dsimp only at p1 b1 r1
 show C9 C.K [v,.ty c] H1 Q
 unfold jx at p1
 split at p1
 ·rename_i t e
  have q:=cP p1 b1 (v:=.bl (d5 t c)) (b8.mpr rfl)
  refine⟨v,c,t,d5 t c,rfl, ?_, ?_,q⟩
  ·cases x <;> first | (unfold tyD at e;cases e;done) | skip
   ·unfold tyD at e;cases e;rw[gj.mp r1];rfl
   ·unfold tyD at e;cases e;rw[b8.mp r1];rfl
   ·unfold tyD at e;cases e;rw[aW.mp r1];rfl
   ·unfold tyD at e;cases e;rw[cA.mp r1];rfl
   ·unfold tyD at e;cases e
    unfold Rep at r1
    obtain⟨a,xs,rfl,hs,hr⟩:=r1
    exact .inl ⟨rfl,xs,b1.now.fh.seq hs⟩
   ·unfold tyD at e;cases e
    unfold Rep at r1
    obtain⟨a,xs,rfl,hs,hr⟩:=r1
    exact .inr ⟨rfl,xs,bE.seqT b1.now.fh hs⟩
   ·rename_i k _
    unfold tyD at e
    dsimp only at e
    split at e
    ·rename_i ds ek
     cases e
     obtain⟨a,xs,rfl,hs,hr⟩:=gy b1 r1 (ds:=ds) (by unfold lsD;simp only[ek])
     exact .inl ⟨rfl,xs,hs⟩
    ·cases e
  ·refine hc C.K t ?_
   cases x <;> unfold tyD at e <;> dsimp only at e <;> first | (cases e;simp;done) | (cases e;done) | skip
   split at e
   ·cases e;simp
   ·cases e
 ·exact False.elim p1
theorem nM{α:Type}{l:List α}(h:l.Nodup){i j:Nat}{x:α}(a:l[i]? =some x)(b:l[j]? =some x):i=j:=by
 obtain⟨h1,e1⟩:=List.getElem?_eq_some_iff.mp a
 obtain⟨h2,e2⟩:=List.getElem?_eq_some_iff.mp b
 exact(List.getElem_inj h).mp (e1.trans e2.symm)
theorem BS.setC{K:PySem.W.Frag}{ca:Nat->Addr}{σ:L2.St}{H F:Hp}{θ:List Addr}{s:S}(b:BS K ca σ H F θ s){k:Nat}{a:Addr}{c:Cell}(hk:θ[k]? =some a)(hc:s.o[k]? =some c)(hF:F a=none){ds:List D}{xs:List V}(hr:aB K ca θ F ds xs):
 Stp H F θ (upd H a (.lst xs)) F θ/\BS K ca σ (upd H a (.lst xs)) F θ ⟨s.r,s.o.set k (.lst ds)⟩:=by
 have hm:a∈θ:=List.mem_of_getElem? hk
 refine⟨⟨bE.refl _,⟨[],by simp,by simp⟩,λe o he hb=> ?_,λe o he=> ?_,λe o he=>.inl he⟩,⟨⟨λe o he=> ?_,b.now.nd,by simpa using b.now.ln,λj a' c' e1 e2=> ?_⟩,b.len,b.sl⟩⟩
 ·have ne:e≠a:=λz=>hb (by rw[z];exact hm)
  rw[aM ne];exact he
 ·by_cases z:e=a
  ·subst z;exact⟨_,b7⟩
  ·exact⟨o,by rw[aM z];exact he⟩
 ·have ne:e≠a:=λz=>by rw[z,hF] at he;cases he
  rw[aM ne]
  exact b.now.fh _ _ he
 ·by_cases hj:k=j
  ·subst hj
   rw[hk] at e1;cases e1
   have:k<s.o.length:=(List.getElem?_eq_some_iff.mp hc).1
   rw[List.getElem?_set_self this] at e2
   cases e2
   exact⟨hF,xs,b7,hr⟩
  ·rw[List.getElem?_set_ne hj] at e2
   have q:=b.now.ce j a' c' e1 e2
   have ne:a'≠a:=λz=>by
    subst z
    exact hj (nM b.now.nd hk e1)
   cases c' with
   | dead=>obtain⟨o,ho⟩:=q;exact⟨o,by rw[aM ne];exact ho⟩
   | lst ds=>obtain⟨q1,ys,q2,q3⟩:=q;exact⟨q1,ys,by rw[aM ne];exact q2,q3⟩
   | ins c ns ds=>obtain⟨q1,dx,ys,q2,q3⟩:=q;exact⟨q1,dx,ys,by rw[aM ne];exact q2,q3⟩
theorem ke{σ:L2.St}{H F:Hp}{θ:List Addr}{s:S}{k:Nat}{ds:List D}{v:V}(b:BS C.K C.ca σ H F θ s)(r:Rep C.K C.ca θ F (.ptr k) v)(e:s.o[k]? =some (.lst ds)):
 ∃a xs,v=.ref a/\θ[k]? =some a/\F a=none/\H a=some (.lst xs)/\aB C.K C.ca θ F ds xs:=by
 unfold Rep at r
 obtain⟨a,rfl,hk⟩:=r
 obtain⟨h0,xs,h1,h2⟩:je C.K C.ca H F θ a (.lst ds):=b.now.ce k a _ hk e
 exact⟨a,xs,rfl,hk,h0,h1,h2⟩
def jd(O:aD):D->Option (Nat×List D)
 | .ptr k=>match O[k]? with
  | some (.lst ds)=>some (k,ds)
  | _=>none
 | _=>none
theorem mB{O:aD}{d:D}{k:Nat}{ds:List D}(h:jd O d=some (k,ds)):d=.ptr k/\O[k]? =some (.lst ds):=by
 cases d <;> first | (simp[jd] at h;done) | skip
 rename_i j
 unfold jd at h
 dsimp only at h
 split at h
 ·rename_i es e
  cases h
  exact⟨rfl,e⟩
 ·cases h
def ki(mo me:EM):EM:=λs=>(mo s).bind λx=>match jd x.2.o x.1 with
 | some _=>(me x.2).bind λy=>match jd y.2.o x.1 with
  | some (k,ds)=>if ds.length<16777216 then .ok (.non,⟨y.2.r,y.2.o.set k (.lst (ds++[y.1]))⟩) else .bad
  | none=>.bad
 | none=>.bad
theorem kN{to te:TE}{mo me:EM}(ho:RdE C to mo)(he:RdE C te me):RdE C (tBM C.K "list" yT to (fV te lg)) (ki mo me):=by
 intro σ H F θ s Q b p
 refine ho σ H F θ s _ b (PoR.bind p ?_)
 rintro ⟨x,s1⟩ H1 F1 θ1 _ st1 p1 b1 v r1
 dsimp only at p1 b1 r1
 split at p1
 ·rename_i kd e
  obtain⟨rfl,e'⟩:=mB (k:=kd.1) (ds:=kd.2) e
  obtain⟨a,xs,rfl,hk,_,h1,_⟩:=ke b1 r1 e'
  refine⟨.inl ⟨rfl,xs,SqL.of h1⟩,he σ H1 F1 θ1 s1 _ b1 (PoR.bind p1 ?_)⟩
  rintro ⟨y,s2⟩ H2 F2 θ2 _ st2 p2 b2 w r2
  dsimp only at p2 b2 r2
  split at p2
  ·rename_i k ds e2
   obtain⟨ek,e2⟩:=mB e2
   cases ek
   obtain⟨a',ys,ea,hk2,hF,h2,hr⟩:=ke b2 (r1.mono st2.ff st2.pre) e2
   cases ea
   split at p2
   ·rename_i hl
    obtain⟨st3,b3⟩:=b2.setC hk2 e2 hF (hr.append (aB.one r2))
    exact⟨a,ys,w,rfl,rfl,h2,by rw[hr.length];exact hl,p2 _ _ _ st3 b3 _ (gj.mpr rfl)⟩
   ·exact False.elim p2
  ·exact False.elim p2
 ·exact False.elim p1
def pP(mo mi:EM):GM:=λd s=>(mo s).bind λx=>(mi x.2).bind λy=>match y.1 with
 | .int i=>match jd y.2.o x.1 with
  | some (k,ds)=>match ixN ds.length i with
   | some j=>.ok ⟨y.2.r,y.2.o.set k (.lst (ds.set j d))⟩
   | none=>.bad
  | none=>.bad
 | _=>.bad
theorem BA{to ti:TE}{mo mi:EM}(ho:RdE C to mo)(hi:RdE C ti mi):RdG C (Gm to ti vx) (pP mo mi):=by
 intro σ H F θ s d v Q b rd p
 refine ho σ H F θ s _ b (PoR.bind p ?_)
 rintro ⟨x,s1⟩ H1 F1 θ1 _ st1 p1 b1 ov r1
 refine hi σ H1 F1 θ1 s1 _ b1 (PoR.bind p1 ?_)
 rintro ⟨y,s2⟩ H2 F2 θ2 _ st2 p2 b2 iv r2
 dsimp only at p2 b2 r2
 split at p2
 ·rename_i i _
  split at p2
  ·rename_i k ds e
   obtain⟨ek,e'⟩:=mB e
   subst ek
   obtain⟨a,xs,rfl,hk,hF,h1,h2⟩:=ke b2 (r1.mono st2.ff st2.pre) e'
   split at p2
   ·rename_i j ej
    obtain⟨st3,b3⟩:=b2.setC hk e' hF (aB.set ((rd.mono st1.ff st1.pre).mono st2.ff st2.pre) j h2)
    exact⟨a,xs,i,j,rfl,aW.mp r2,h1,by rw[h2.length];exact ej,p2 _ _ _ st3 _ b3⟩
   ·exact False.elim p2
  ·exact False.elim p2
 ·exact False.elim p2
theorem BS.frz{K:PySem.W.Frag}{ca:Nat->Addr}{σ:L2.St}{H F:Hp}{θ:List Addr}{s:S}(b:BS K ca σ H F θ s){k:Nat}{a:Addr}{ds:List D}{xs:List V}(hk:θ[k]? =some a)(hc:s.o[k]? =some (.lst ds))(hF:F a=none)(hH:H a=some (.lst xs))(hr:aB K ca θ F ds xs):
 Stp H F θ H (upd F a (.lst xs)) θ/\BS K ca σ H (upd F a (.lst xs)) θ ⟨s.r,s.o.set k .dead⟩/\Rep K ca θ (upd F a (.lst xs)) (.lst ds) (.ref a):=by
 have hm:a∈θ:=List.mem_of_getElem? hk
 have sF:bE F (upd F a (.lst xs)):=λe o he=>by
  rw[aM (λz=>by rw[z,hF] at he;cases he)];exact he
 refine⟨⟨sF,⟨[],by simp,by simp⟩,λe o he _=>he,λe o he=>⟨o,he⟩,λe o he=> ?_⟩,⟨⟨λe o he=> ?_,b.now.nd,by simpa using b.now.ln,λj a' c' e1 e2=> ?_⟩,b.len,λi d e=> ?_⟩, ?_⟩
 ·by_cases z:e=a
  ·exact .inr (.inr (by rw[z];exact hm))
  ·rw[aM z] at he;exact .inl he
 ·by_cases z:e=a
  ·subst z;rw[b7] at he;rw[hH];exact he
  ·rw[aM z] at he;exact b.now.fh _ _ he
 ·by_cases hj:k=j
  ·subst hj
   rw[hk] at e1;cases e1
   have:k<s.o.length:=(List.getElem?_eq_some_iff.mp hc).1
   rw[List.getElem?_set_self this] at e2
   cases e2
   exact⟨_,hH⟩
  ·rw[List.getElem?_set_ne hj] at e2
   have q:=b.now.ce j a' c' e1 e2
   have ne:a'≠a:=λz=>by
    subst z
    exact hj (nM b.now.nd hk e1)
   cases c' with
   | dead=>exact q
   | lst ds=>obtain⟨q1,ys,q2,q3⟩:=q;exact⟨by rw[aM ne];exact q1,ys,q2,q3.mono sF ⟨[],by simp⟩⟩
   | ins c ns ds=>obtain⟨q1,dx,ys,q2,q3,q4⟩:=q;exact⟨by rw[aM ne];exact q1,dx,ys,q2,q3,q4.mono sF ⟨[],by simp⟩⟩
 ·obtain⟨v,h1,h2⟩:=b.sl i d e
  exact⟨v,h1,h2.mono sF ⟨[],by simp⟩⟩
 ·unfold Rep
  exact⟨a,xs,rfl,SqL.of b7,hr.mono sF ⟨[],by simp⟩⟩
def oE(m:EM):EM:=λs=>(m s).bind λx=>match jd x.2.o x.1 with
 | some (k,ds)=>.ok (.lst ds,⟨x.2.r,x.2.o.set k .dead⟩)
 | none=>.bad
theorem pL{t:TE}{m:EM}(h:RdE C t m):RdE C t (oE m):=by
 intro σ H F θ s Q b p
 refine h σ H F θ s _ b (PoR.bind p ?_)
 rintro ⟨x,s1⟩ H1 F1 θ1 _ st1 p1 b1 v r1
 dsimp only at p1 b1 r1
 split at p1
 ·rename_i k ds e
  obtain⟨rfl,e'⟩:=mB e
  obtain⟨a,xs,rfl,hk,hF,h1,h2⟩:=ke b1 r1 e'
  obtain⟨st2,b2,r2⟩:=b1.frz hk e' hF h1 h2
  exact p1 _ _ _ st2 b2 _ r2
 ·exact False.elim p1
def pe(m:Nat)(caps:List Nat)(r:List (Option D)):List (Option D):=List.replicate m none++caps.map λi=>(r[i]?).getD none
theorem Ge{K:PySem.W.Frag}{ca:Nat->Addr}{σ:L2.St}{H F:Hp}{θ:List Addr}{s:S}(b:BS K ca σ H F θ s)(m:Nat)(caps:List Nat):BS K ca (lE m caps σ) H F θ ⟨pe m caps s.r,s.o⟩:=by
 refine⟨b.now,by unfold lE pe;simp,λi d e=> ?_⟩
 unfold pe at e
 dsimp only at e
 by_cases hi:i<m
 ·rw[List.getElem?_append_left (by simpa using hi),List.getElem?_replicate] at e
  split at e <;> cases e
 ·rw[List.getElem?_append_right (by simpa using hi)] at e
  simp only[List.length_replicate,List.getElem?_map] at e
  cases q:caps[i-m]? with
  | none=>rw[q] at e;cases e
  | some j=>
   rw[q] at e
   simp only[Option.map_some,Option.some.injEq] at e
   have e':s.r[j]? =some (some d):=by
    cases z:s.r[j]? with
    | none=>rw[z] at e;simp at e
    | some od=>rw[z] at e;simp at e;rw[e]
   obtain⟨v,h1,h2⟩:=b.sl j d e'
   refine⟨v, ?_,h2⟩
   unfold lE
   rw[List.getElem?_append_right (by simpa using hi)]
   simp only[List.length_replicate,List.getElem?_map,q,Option.map_some,h1,Option.getD_some]
def cM:TM:=λs=>.ok (true,s)
theorem du:RdT C Dt cM:=λσ H F θ s Q b p=>p H F θ .refl b
open Classical in
noncomputable def gQ (ok:aD->Prop)(g:GM)(c:TM)(e:EM):List D->List D->S->Res (List D×S)
 | [],acc,s=>if ok s.o then .ok (acc,s) else .bad
 | d::ds,acc,s=>if ok s.o/\acc.length<16777216 then (g d s).bind λs1=>(c s1).bind λx=>if x.1 then (e x.2).bind λy=>gQ ok g c e ds (acc++[y.1]) y.2 else gQ ok g c e ds acc x.2 else .bad
noncomputable def kD (m:Nat)(caps:List Nat)(im:IM)(g:GM)(c:TM)(e:EM):S->Res (List D×S):=λs=>(im s).bind λy=>
 (gQ (okC y.1.1 y.1.2) g c e y.1.1 [] ⟨pe m caps y.2.r,y.2.o⟩).bind λz=>.ok (z.1,⟨y.2.r,z.2.o⟩)
theorem wG {m:Nat} {caps:List Nat} {wi:TI} {g:TG} {tc:TT} {te:TE} {im:IM} {gm:GM} {c:TM} {e:EM} (hi:RdI C wi im) (hg:RdG C g gm) (hc:RdT C tc c) (he:RdE C te e)
 {σ:L2.St} {H F:Hp} {θ:List Addr} {s:S} {Q:VK} (b:BS C.K C.ca σ H F θ s)
 (p:PoR C H F θ (kD m caps im gm c e s) λy H1 F1 θ1=>BS C.K C.ca σ H1 F1 θ1 y.2->∀q xs,H q=none->H1 q=some (.lst xs)->F1 q=none->q∉θ1->aB C.K C.ca θ1 F1 y.1 xs->Q (.ref q) H1):rO m caps wi g tc te σ H Q:=by
 refine hi σ H F θ s _ b (PoR.bind p ?_)
 rintro ⟨⟨ds,k⟩,s1⟩ H1 F1 θ1 _ st1 p1 b1 J it q hq
 dsimp only at p1 b1 it
 have st2:Stp H1 F1 θ1 (upd H1 q (.lst [])) F1 θ1:=by
  have nm:∀a u,H1 a=some u->a≠q:=λa u e z=>by rw[z,hq] at e;cases e
  exact⟨bE.refl _,⟨[],by simp,by simp⟩,λa u h _=>by rw[aM (nm a u h)];exact h,λa u h=>⟨u,by rw[aM (nm a u h)];exact h⟩,λa u h=>.inl h⟩
 have qθ:q∉θ1:=λh=>by obtain⟨u,hu⟩:=b1.now.there h;rw[hq] at hu;cases hu
 have qF:F1 q=none:=by
  cases e:F1 q with
  | none=>rfl
  | some u=>rw[b1.now.fh q u e] at hq;cases hq
 have hqH:H q=none:=by
  cases e:H q with
  | none=>rfl
  | some u=>obtain⟨u',e'⟩:=st1.al q u e;rw[hq] at e';cases e'
 have keep:∀{H2 F2 H3 F3:Hp} {θ2 θ3:List Addr} {o:HO},Stp H2 F2 θ2 H3 F3 θ3->H2 q=some o->F2 q=none->q∉θ2->H3 q=some o/\F3 q=none/\q∉θ3:=λ{H2 F2 H3 F3 θ2 θ3 o} st h1 h2 h3=>by
  refine⟨st.kp q o h1 h3, ?_, ?_⟩
  ·cases e:F3 q with
   | none=>rfl
   | some u=>
    rcases st.nf q u e with z | z | z
    ·rw[h2] at z;cases z
    ·rw[h1] at z;cases z
    ·exact absurd z h3
  ·obtain⟨r,rfl,hr⟩:=st.th
   intro hm
   rcases List.mem_append.mp hm with z | z
   ·exact h3 z
   ·rw[hr q z] at h1;cases h1
 have bs2:∀{σ':L2.St} {H2 F2:Hp} {θ2:List Addr} {s2:S} (o:HO),BS C.K C.ca σ' H2 F2 θ2 s2->F2 q=none->q∉θ2->BS C.K C.ca σ' (upd H2 q o) F2 θ2 s2:=λ{σ' H2 F2 θ2 s2} o b h1 h2=>by
  have ne:∀a,a∈θ2->a≠q:=λa h z=>h2 (z▸h)
  refine⟨⟨λa u h=> ?_,b.now.nd,b.now.ln,λj a c e1 e2=> ?_⟩,b.len,b.sl⟩
  ·have:a≠q:=λz=>by rw[z,h1] at h;cases h
   rw[aM this];exact b.now.fh a u h
  ·have hm:=ne a (List.mem_of_getElem? e1)
   have w:=b.now.ce j a c e1 e2
   cases c with
   | dead=>obtain⟨u,hu⟩:=w;exact⟨u,by rw[aM hm];exact hu⟩
   | lst ds=>obtain⟨q1,ys,q2,q3⟩:=w;exact⟨q1,ys,by rw[aM hm];exact q2,q3⟩
   | ins c ns ds=>obtain⟨q1,dx,ys,q2,q3,q4⟩:=w;exact⟨q1,dx,ys,by rw[aM hm];exact q2,q3,q4⟩
 have stq:∀{H2 F2:Hp} {θ2:List Addr} (o:HO),Stp H1 F1 θ1 H2 F2 θ2->Stp H1 F1 θ1 (upd H2 q o) F2 θ2:=λ{H2 F2 θ2} o st=>by
  have nm:∀a u,H1 a=some u->a≠q:=λa u e z=>by rw[z,hq] at e;cases e
  exact⟨st.ff,st.th,λa u h1 h2=>by rw[aM (nm a u h1)];exact st.kp a u h1 h2,λa u h1=>by rw[aM (nm a u h1)];exact st.al a u h1,st.nf⟩
 refine⟨λi n acc σ' H'=>n=ds.length-i/\i<=ds.length/\∃F' θ' s' as,Stp H1 F1 θ1 H' F' θ'/\H' q=some (.lst acc)/\F' q=none/\q∉θ'/\BS C.K C.ca σ' H' F' θ' s'/\aB C.K C.ca θ' F' as acc/\
  PoR C H1 F1 θ1 ((gQ (okC ds k) gm c e (ds.drop i) as s').bind λz=>.ok (z.1,(⟨s1.r,z.2.o⟩:S))) (λy H1 F1 θ1=>BS C.K C.ca σ H1 F1 θ1 y.2->∀q xs,H q=none->H1 q=some (.lst xs)->F1 q=none->q∉θ1->aB C.K C.ca θ1 F1 y.1 xs->Q (.ref q) H1),
  ⟨ds.length,by simp,Nat.zero_le _,F1,θ1,⟨pe m caps s1.r,s1.o⟩,[],st2,b7,qF,qθ,bs2 _ (Ge b1 m caps) qF qθ,aB.nil,by simpa using p1⟩, ?_⟩
 rintro i n acc σ' H' ⟨rfl,hil,F',θ',s',as,st,hq',qF',qθ',bs,hacc,po⟩
 by_cases lt:i<ds.length
 ·right
  rw[List.drop_eq_getElem_cons lt,gQ] at po
  split at po
  ·rename_i hok
   refine⟨it.go i H' F' θ' s'.o lt st bs.now hok.1, ?_⟩
   intro x H3 hy
   obtain⟨F3,st3,b3,rp⟩:=it.yl i ds[i] σ' H' F' θ' s' x H3 (List.getElem?_eq_getElem lt) st bs hok.1 hy
   obtain⟨k1,k2,k3⟩:=keep st3 hq' qF' qθ'
   have st13:=st.trans st3
   have po3:=PoR.after st13 po
   have w1:PoG C H3 F3 θ' (gm ds[i] s') (λσ4 H4=>tc σ4 H4 λb H4=>if b=true then
    te σ4 H4 λy H5=>H5 q=some (.lst acc)/\acc.length<sizeLine/\∃k',k'<ds.length-i/\(k'=ds.length-(i+1)/\i+1<=ds.length/\∃F' θ' s' as,Stp H1 F1 θ1 (upd H5 q (.lst (acc++[y]))) F' θ'/\(upd H5 q (.lst (acc++[y]))) q=some (.lst (acc++[y]))/\F' q=none/\q∉θ'/\BS C.K C.ca σ4 (upd H5 q (.lst (acc++[y]))) F' θ' s'/\aB C.K C.ca θ' F' as (acc++[y])/\
     PoR C H1 F1 θ1 ((gQ (okC ds k) gm c e (ds.drop (i+1)) as s').bind λz=>.ok (z.1,(⟨s1.r,z.2.o⟩:S))) (λy H1 F1 θ1=>BS C.K C.ca σ H1 F1 θ1 y.2->∀q xs,H q=none->H1 q=some (.lst xs)->F1 q=none->q∉θ1->aB C.K C.ca θ1 F1 y.1 xs->Q (.ref q) H1))
    else ∃k',k'<ds.length-i/\(k'=ds.length-(i+1)/\i+1<=ds.length/\∃F' θ' s' as,Stp H1 F1 θ1 H4 F' θ'/\H4 q=some (.lst acc)/\F' q=none/\q∉θ'/\BS C.K C.ca σ4 H4 F' θ' s'/\aB C.K C.ca θ' F' as acc/\
     PoR C H1 F1 θ1 ((gQ (okC ds k) gm c e (ds.drop (i+1)) as s').bind λz=>.ok (z.1,(⟨s1.r,z.2.o⟩:S))) (λy H1 F1 θ1=>BS C.K C.ca σ H1 F1 θ1 y.2->∀q xs,H q=none->H1 q=some (.lst xs)->F1 q=none->q∉θ1->aB C.K C.ca θ1 F1 y.1 xs->Q (.ref q) H1))):=by
    cases e1:gm ds[i] s' with
    | bad=>rw[e1] at po3;exact po3
    | exc a1 a2 a3=>rw[e1] at po3;exact po3
    | ok s4=>
     rw[e1] at po
     intro H4 F4 θ4 st4 σ4 b4
     obtain⟨l1,l2,l3⟩:=keep st4 k1 k2 k3
     refine hc σ4 H4 F4 θ4 s4 _ b4 ?_
     cases e2:c s4 with
     | bad=>rw[ak,e2] at po;exact po
     | exc a1 a2 a3=>rw[ak,e2] at po;exact PoR.after (st13.trans st4) po
     | ok x5=>
      obtain⟨kk,s5⟩:=x5
      rw[ak,e2,ak] at po
      intro H5 F5 θ5 st5 b5
      obtain⟨m1,m2,m3⟩:=keep st5 l1 l2 l3
      have hacc5:=((hacc.mono st3.ff st3.pre).mono st4.ff st4.pre).mono st5.ff st5.pre
      cases kk with
      | false=>
       exact sP ⟨ds.length-(i+1),by omega,rfl,by omega,F5,θ5,s5,as,st13.trans (st4.trans st5),m1,m2,m3,b5,hacc5,by simpa using po⟩
      | true=>
       refine tH (he σ4 H5 F5 θ5 s5 _ b5 ?_)
       dsimp only[if_true] at po
       cases e3:e s5 with
       | bad=>rw[e3] at po;exact po
       | exc a1 a2 a3=>rw[e3] at po;exact PoR.after (st13.trans (st4.trans st5)) po
       | ok x6=>
        obtain⟨y,s6⟩:=x6
        rw[e3,ak] at po
        intro H6 F6 θ6 st6 b6 w r6
        obtain⟨n1,n2,n3⟩:=keep st6 m1 m2 m3
        exact⟨n1,by rw[hacc.length];exact hok.2,ds.length-(i+1),by omega,rfl,by omega,F6,θ6,s6,as++[y],stq _ (st13.trans (st4.trans (st5.trans st6))),b7,n2,n3,bs2 _ b6 n2 n3,(hacc5.mono st6.ff st6.pre).append (aB.one r6),po⟩
   exact hg σ' H3 F3 θ' s' ds[i] x _ b3 rp w1
  ·exact False.elim po
 ·left
  rw[List.drop_eq_nil_of_le (by omega),gQ] at po
  split at po
  ·rename_i hok
   refine⟨it.st i H' F' θ' s'.o (by omega) st bs.now hok,hq', ?_⟩
   refine po H' F' θ' st ⟨bs.now,b1.len,λj d e=> ?_⟩ q acc hqH hq' qF' qθ' hacc
   obtain⟨v,h1,h2⟩:=b1.sl j d e
   exact⟨v,h1,h2.mono st.ff st.pre⟩
  ·exact False.elim po
noncomputable def cJ (m:Nat)(caps:List Nat)(im:IM)(g:GM)(c:TM)(e:EM):EM:=λs=>(kD m caps im g c e s).bind λy=>.ok (.lst y.1,y.2)
theorem dk{m:Nat}{caps:List Nat}{wi:TI}{g:TG}{tc:TT}{te:TE}{im:IM}{gm:GM}{c:TM}{e:EM}(hi:RdI C wi im)(hg:RdG C g gm)(hc:RdT C tc c)(he:RdE C te e):RdE C (rO m caps wi g tc te) (cJ m caps im gm c e):=by
 intro σ H F θ s Q b p
 refine wG hi hg hc he b ?_
 unfold cJ at p
 cases e1:kD m caps im gm c e s with
 | bad=>rw[e1] at p;exact p
 | exc a1 a2 a3=>rw[e1] at p;exact p
 | ok y=>
  rw[e1,ak] at p
  intro H1 F1 θ1 st1 b1 q xs h0 h1 h2 h3 hr
  have sF:bE F1 (upd F1 q (.lst xs)):=λa u h=>by
   rw[aM (λz=>by rw[z,h2] at h;cases h)];exact h
  refine p H1 (upd F1 q (.lst xs)) θ1 ⟨st1.ff.trans sF,st1.th,st1.kp,st1.al,λa u h=> ?_⟩ ⟨⟨λa u h=> ?_,b1.now.nd,b1.now.ln,λj a c e2 e3=> ?_⟩,b1.len,λi d e2=> ?_⟩ (.ref q) ?_
  ·by_cases z:a=q
   ·subst z;exact .inr (.inl h0)
   ·rw[aM z] at h;exact st1.nf a u h
  ·by_cases z:a=q
   ·subst z;rw[b7] at h;rw[h1];exact h
   ·rw[aM z] at h;exact b1.now.fh a u h
  ·have ne:a≠q:=λz=>h3 (z▸List.mem_of_getElem? e2)
   have w:=b1.now.ce j a c e2 e3
   cases c with
   | dead=>exact w
   | lst ds=>obtain⟨q1,ys,q2,q3⟩:=w;exact⟨by rw[aM ne];exact q1,ys,q2,q3.mono sF ⟨[],by simp⟩⟩
   | ins c ns ds=>obtain⟨q1,dx,ys,q2,q3,q4⟩:=w;exact⟨by rw[aM ne];exact q1,dx,ys,q2,q3,q4.mono sF ⟨[],by simp⟩⟩
  ·obtain⟨v,w1,w2⟩:=b1.sl i d e2
   exact⟨v,w1,w2.mono sF ⟨[],by simp⟩⟩
  ·unfold Rep
   exact⟨q,xs,rfl,SqL.of b7,hr.mono sF ⟨[],by simp⟩⟩
noncomputable def pX (m:Nat)(caps:List Nat)(im:IM)(g:GM)(c:TM)(e:EM):EM:=λs=>(kD m caps im g c e s).bind λy=>.ok (.ptr y.2.o.length,⟨y.2.r,y.2.o++[.lst y.1]⟩)
theorem Cj{m:Nat}{caps:List Nat}{wi:TI}{g:TG}{tc:TT}{te:TE}{im:IM}{gm:GM}{c:TM}{e:EM}(hi:RdI C wi im)(hg:RdG C g gm)(hc:RdT C tc c)(he:RdE C te e):RdE C (rO m caps wi g tc te) (pX m caps im gm c e):=by
 intro σ H F θ s Q b p
 refine wG hi hg hc he b ?_
 unfold pX at p
 cases e1:kD m caps im gm c e s with
 | bad=>rw[e1] at p;exact p
 | exc a1 a2 a3=>rw[e1] at p;exact p
 | ok y=>
  rw[e1,ak] at p
  intro H1 F1 θ1 st1 b1 q xs h0 h1 h2 h3 hr
  obtain⟨r,er,hr0⟩:=st1.th
  refine p H1 F1 (θ1++[q]) ⟨st1.ff,⟨r++[q],by rw[er,List.append_assoc],λa ha=> ?_⟩,st1.kp,st1.al,st1.nf⟩ ⟨⟨b1.now.fh, ?_,by simp[b1.now.ln],λk a c e2 e3=> ?_⟩,b1.len,λi d e2=> ?_⟩ (.ref q) ?_
  ·rcases List.mem_append.mp ha with z | z
   ·exact hr0 a z
   ·rw[List.mem_singleton.mp z];exact h0
  ·refine List.nodup_append.mpr ⟨b1.now.nd,by simp,λa ha x hx=> ?_⟩
   rw[List.mem_singleton.mp hx]
   rintro rfl
   exact h3 ha
  ·by_cases hk:k<θ1.length
   ·rw[List.getElem?_append_left hk] at e2
    dsimp only at e3
    rw[List.getElem?_append_left (by rw[<- b1.now.ln];exact hk)] at e3
    have w:=b1.now.ce k a c e2 e3
    cases c with
    | dead=>exact w
    | lst ds=>obtain⟨q1,ys,q2,q3⟩:=w;exact⟨q1,ys,q2,q3.mono (bE.refl _) ⟨[q],rfl⟩⟩
    | ins c ns ds=>obtain⟨q1,dx,ys,q2,q3,q4⟩:=w;exact⟨q1,dx,ys,q2,q3,q4.mono (bE.refl _) ⟨[q],rfl⟩⟩
   ·have hk1:k<(θ1++[q]).length:=(List.getElem?_eq_some_iff.mp e2).1
    have hk2:k=θ1.length:=by simp at hk1;omega
    subst hk2
    rw[List.getElem?_append_right (Nat.le_refl _)] at e2
    dsimp only at e3
    rw[List.getElem?_append_right (by rw[b1.now.ln];exact Nat.le_refl _),b1.now.ln] at e3
    simp at e2 e3
    subst e2;subst e3
    exact⟨h2,xs,h1,hr.mono (bE.refl _) ⟨[q],rfl⟩⟩
  ·obtain⟨v,w1,w2⟩:=b1.sl i d e2
   exact⟨v,w1,w2.mono (bE.refl _) ⟨[q],rfl⟩⟩
  ·unfold Rep
   exact⟨q,rfl,by rw[<- b1.now.ln];simp⟩
end
end M
set_option maxRecDepth 100000
set_option maxHeartbeats 4000000
namespace M
open PySem PySem.Spec PyProof.Rows L2
section
variable {C : Ct}
theorem By{σ:L2.St}{H F:Hp}{θ:List Addr}{s:S}{ds:List D}{Q:VK}(p:PoE C σ H F θ (.ok (.ptr s.o.length,(⟨s.r,s.o++[.lst ds]⟩:S))) Q)(b:BS C.K C.ca σ H F θ s){xs:List V}(r:aB C.K C.ca θ F ds xs):
 ∀q,H q=none->Q (.ref q) (upd H q (.lst xs)):=λq hq=>by
 obtain⟨st,b2,rp⟩:=b.newC hq r
 exact p _ _ _ st b2 _ rp
def qh(O:aD):D->Option (List D)
 | .tup ds=>some ds
 | x=>lsD O x
def rM(m:EM):EM:=λs=>(m s).bind λx=>match qh x.2.o x.1 with
 | some ds=>.ok (.ptr x.2.o.length,⟨x.2.r,x.2.o++[.lst ds]⟩)
 | none=>.bad
theorem BY{t:TE}{m:EM}(h:RdE C t m):RdE C (tCB (λxs H Q=>∃p ys,xs=[.ref p]/\(SqL C.K H p ys\/SqT C.K H p ys)/\∀l,H l=none->Q (.ref l) (upd H l (.lst ys))) (fV t lg)) (rM m):=by
 intro σ H F θ s Q b p
 refine h σ H F θ s _ b (PoR.bind p ?_)
 rintro ⟨x,s1⟩ H1 F1 θ1 _ st1 p1 b1 v r1
 dsimp only at p1 b1 r1
 split at p1
 ·rename_i ds e
  cases x with
  | tup es=>
   cases e
   obtain⟨a,xs,rfl,hs,hr⟩:=rC b1 r1
   exact⟨a,xs,rfl,.inr hs,By p1 b1 hr⟩
  | _=>
   obtain⟨a,xs,rfl,hs,hr⟩:=gy b1 r1 e
   exact⟨a,xs,rfl,.inl hs,By p1 b1 hr⟩
 ·exact False.elim p1
mutual
def shD(n:Nat):D->D
 | .lst ds=>.lst (ky n ds)
 | .tup ds=>.tup (ky n ds)
 | .ptr k=>.ptr (n+k)
 | .obj c ns ds=>.obj c ns (ky n ds)
 | .exn c=>.exn c
 | .non=>.non
 | .bl b=>.bl b
 | .int i=>.int i
 | .str x=>.str x
def ky(n:Nat):List D->List D
 | []=>[]
 | d::ds=>shD n d::ky n ds
end
def shC(n:Nat):Cell->Cell
 | .dead=>.dead
 | .lst ds=>.lst (ky n ds)
 | .ins c ns ds=>.ins c ns (ky n ds)
section
variable {K : PySem.W.Frag} {ca : Nat → Addr} {F : Hp} {θ θ1 : List Addr}
mutual
theorem A1:∀{d:D} {v:V},Rep K ca θ1 F d v->Rep K ca (θ++θ1) F (shD θ.length d) v
 | .non,_,h=>by unfold shD;exact h
 | .bl _,_,h=>by unfold shD;exact h
 | .int _,_,h=>by unfold shD;exact h
 | .str _,_,h=>by unfold shD;exact h
 | .lst ds,_,h=>by
  unfold shD
  unfold Rep at h ⊢
  obtain⟨a,xs,e,hs,hr⟩:=h
  exact⟨a,xs,e,hs,lP hr⟩
 | .tup ds,_,h=>by
  unfold shD
  unfold Rep at h ⊢
  obtain⟨a,xs,e,hs,hr⟩:=h
  exact⟨a,xs,e,hs,lP hr⟩
 | .ptr k,_,h=>by
  unfold shD
  unfold Rep at h ⊢
  obtain⟨a,e,hk⟩:=h
  exact⟨a,e,by rw[List.getElem?_append_right (Nat.le_add_right _ _),Nat.add_sub_cancel_left];exact hk⟩
 | .obj c ns ds,_,h=>by
  unfold shD
  unfold Rep at h ⊢
  obtain⟨a,dx,xs,e,ha,hl,hr⟩:=h
  exact⟨a,dx,xs,e,ha,hl,lP hr⟩
 | .exn c,_,h=>by
  unfold shD
  unfold Rep at h ⊢
  exact h
theorem lP:∀{ds:List D} {xs:List V},aB K ca θ1 F ds xs->aB K ca (θ++θ1) F (ky θ.length ds) xs
 | [],_,h=>by unfold ky;exact h
 | d::ds,_,h=>by
  unfold ky
  unfold aB at h ⊢
  obtain⟨v,r,e,h1,h2⟩:=h
  exact⟨v,r,e,A1 h1,lP h2⟩
end
end
theorem BS.calledO{K:PySem.W.Frag}{ca:Nat->Addr}{σ:L2.St}{H F H1 F1:Hp}{θ θ1:List Addr}{s:S}{O1:aD}(b:BS K ca σ H F θ s)(st:Stp H F [] H1 F1 θ1)(n:Now K ca H1 F1 θ1 O1):
 Stp H F θ H1 F1 (θ++θ1)/\BS K ca σ H1 F1 (θ++θ1) ⟨s.r,s.o++O1.map (shC s.o.length)⟩:=by
 obtain⟨st0,b0⟩:=b.called st n
 obtain⟨r,er,hr⟩:=st.th
 rw[List.nil_append] at er
 subst er
 refine⟨⟨st0.ff,⟨θ1,rfl,hr⟩,st0.kp,st0.al,st0.nf⟩,⟨⟨n.fh,List.nodup_append.mpr ⟨b.now.nd,n.nd,λa ha x hx=> ?_⟩,by simp[b.now.ln,n.ln],λk a c e1 e2=> ?_⟩,b.len,λi d e=> ?_⟩⟩
 ·rintro rfl
  obtain⟨u,hu⟩:=b.now.there ha
  rw[hr a hx] at hu
  cases hu
 ·by_cases hk:k<θ.length
  ·rw[List.getElem?_append_left hk] at e1
   dsimp only at e2
   rw[List.getElem?_append_left (by rw[<- b.now.ln];exact hk)] at e2
   have w:=b0.now.ce k a c e1 e2
   cases c with
   | dead=>exact w
   | lst ds=>obtain⟨q1,ys,q2,q3⟩:=w;exact⟨q1,ys,q2,q3.mono (bE.refl _) ⟨θ1,rfl⟩⟩
   | ins c ns ds=>obtain⟨q1,dx,ys,q2,q3,q4⟩:=w;exact⟨q1,dx,ys,q2,q3,q4.mono (bE.refl _) ⟨θ1,rfl⟩⟩
  ·rw[List.getElem?_append_right (by omega)] at e1
   dsimp only at e2
   rw[List.getElem?_append_right (by rw[<- b.now.ln];omega),List.getElem?_map,<- b.now.ln] at e2
   cases e3:O1[k-θ.length]? with
   | none=>rw[e3] at e2;cases e2
   | some c'=>
    rw[e3] at e2
    cases e2
    have w:=n.ce _ a c' e1 e3
    cases c' with
    | dead=>exact w
    | lst ds=>obtain⟨q1,ys,q2,q3⟩:=w;exact⟨q1,ys,q2,lP q3⟩
    | ins c ns ds=>obtain⟨q1,dx,ys,q2,q3,q4⟩:=w;exact⟨q1,dx,ys,q2,q3,lP q4⟩
 ·obtain⟨v,h1,h2⟩:=b0.sl i d e
  exact⟨v,h1,h2.mono (bE.refl _) ⟨θ1,rfl⟩⟩
def qe(n:Nat)(f:FM)(ma:AM):EM:=λs=>(ma s).bind λx=>if aI x.1=true/\x.1.length=n then (match f x.1 [] with
 | .ok (d,O1)=>.ok (shD x.2.o.length d,⟨x.2.r,x.2.o++O1.map (shC x.2.o.length)⟩)
 | _=>.bad) else .bad
theorem Cr{n:Nat}{f:FM}{ta:TA}{ma:AM}{E:XK}(ha:RdA C ta ma):RdE C (sk (spM C.K C.ca n f) [] E ta) (qe n f ma):=by
 intro σ H F θ s Q b p
 refine ha σ H F θ s _ b (PoR.bind p ?_)
 rintro ⟨x,s1⟩ H1 F1 θ1 _ st1 p1 b1 v r1
 dsimp only at p1 b1 r1 ⊢
 split at p1
 ·rename_i hp
  rw[List.append_nil]
  refine⟨F1,[],x,[],Now.nil b1.now.fh,r1.pure hp.1,hp.2, ?_⟩
  split at p1
  ·rename_i d O1 e
   rw[e]
   intro v H2 F2 θ2 st2 n2 rv
   obtain⟨st3,b3⟩:=b1.calledO st2 n2
   refine p1 H2 F2 _ st3 b3 v ?_
   rw[<- b1.now.ln]
   exact A1 rv
  ·exact False.elim p1
 ·exact False.elim p1
def lK(n:Nat)(f:FM)(ma:AM):EM:=λs=>(ma s).bind λx=>if aI (bH x.2.o (bH x.2.o x.1))=true/\x.1.length=n then (match f (bH x.2.o (bH x.2.o x.1)) [] with
 | .ok (d,_)=>if lF d=true then .ok (d,x.2) else .bad
 | _=>.bad) else .bad
theorem m5(O:aD):∀ds:List D,(bH O ds).length=ds.length
 | []=>by unfold bH;rfl
 | d::ds=>by unfold bH;rw[List.length_cons,List.length_cons,m5 O ds]
theorem qQ{n:Nat}{f:FM}{ta:TA}{ma:AM}{E:XK}(ha:RdA C ta ma):RdE C (sk (spM C.K C.ca n f) [] E ta) (lK n f ma):=by
 intro σ H F θ s Q b p
 refine ha σ H F θ s _ b (PoR.bind p ?_)
 rintro ⟨x,s1⟩ H1 F1 θ1 _ st1 p1 b1 v r1
 dsimp only at p1 b1 r1 ⊢
 split at p1
 ·rename_i hp
  rw[List.append_nil]
  have rr:aB C.K C.ca θ1 H1 (bH s1.o (bH s1.o x)) v:=mD b1.now b1.now.fh (bE.refl _) (mD b1.now (bE.refl _) b1.now.fh r1)
  refine⟨H1,[],bH s1.o (bH s1.o x),[],Now.nil (bE.refl _),rr.pure hp.1,by rw[m5,m5];exact hp.2, ?_⟩
  split at p1
  ·rename_i d O1 e
   rw[e]
   intro v H2 F2 θ2 st2 n2 rv
   split at p1
   ·rename_i sd
    have kp:∀a o,H1 a=some o->H2 a=some o:=λa o h=>st2.kp a o h (by simp)
    refine p1 H2 F1 θ1 ⟨bE.refl _,⟨[],by simp,by simp⟩,λa o h _=>kp a o h,st2.al,λa o h=>.inl h⟩ ⟨⟨λa o h=>kp a o (b1.now.fh a o h),b1.now.nd,b1.now.ln,λk a c e1 e2=> ?_⟩,b1.len,b1.sl⟩ v (rv.scal sd)
    have w:=b1.now.ce k a c e1 e2
    cases c with
    | dead=>obtain⟨o,ho⟩:=w;exact⟨o,kp a o ho⟩
    | lst ds=>obtain⟨q1,ys,q2,q3⟩:=w;exact⟨q1,ys,kp _ _ q2,q3⟩
    | ins c ns ds=>obtain⟨q1,dx,ys,q2,q3,q4⟩:=w;exact⟨q1,dx,ys,kp _ _ q2,q3,q4⟩
   ·exact False.elim p1
  ·exact False.elim p1
 ·exact False.elim p1
end
end M
set_option maxRecDepth 100000
set_option maxHeartbeats 4000000
namespace M
open PySem PySem.Spec PyProof.Rows L2
def cz(P:Program)(w:World)(K:PySem.W.Frag)(mg:Str->Option Value)(base:Heap)(ca:Nat->Addr)(lv:Nat)(x:Str)(ps:List Str)(f:FM)(a:Addr)(fd:FuncData):Prop:=
 d9 P w K mg base (CXE P w) lv a fd ps (spM K ca ps.length f)/\mg x=some (.ref a)/\PySem.W.keepIn K (.ref a)=true/\Binds K fd ps []
def bY(P:Program)(w:World)(K:PySem.W.Frag)(mg:Str->Option Value)(base:Heap)(ca:Nat->Addr)(lv:Nat)(x:Str)(ps:List Str)(f:FM):Prop:=∃a fd,cz P w K mg base ca lv x ps f a fd
theorem cz.in{P:Program}{w:World}{K:PySem.W.Frag}{mg:Str->Option Value}{base:Heap}{ca:Nat->Addr}{lv:Nat}{x:Str}{ps:List Str}{f:FM}{a:Addr}{fd:FuncData}(h:cz P w K mg base ca lv x ps f a fd):bY P w K mg base ca lv x ps f:=⟨a,fd,h⟩
theorem ue{K:PySem.W.Frag}{ca:Nat->Addr}{θ:List Addr}{F:Hp}:∀ns:List Int,aB K ca θ F (ns.map D.int) (ns.map V.int)
 | []=>aB.nil
 | _::ns=>aB.cons (aW.mpr rfl) (ue ns)
theorem GS{K:PySem.W.Frag}{ca:Nat->Addr}{H:Hp}{a:Addr}{ns:List Int}{f:FM}{E:XK}(hS:SqL K H a (ns.map V.int))(h:∃O,f [.lst (ns.map D.int)] []=.ok (.bl true,O)):spM K ca 1 f [.ref a] H (λv _=>v=.bl true) E:=by
 obtain⟨O,h⟩:=h
 refine⟨H,[],[.lst (ns.map D.int)],[],Now.nil (bE.refl _),aB.one ?_,rfl, ?_⟩
 ·unfold Rep
  exact⟨a,ns.map V.int,rfl,hS,ue ns⟩
 ·rw[h]
  intro v H1 F1 θ1 _ _ r
  exact b8.mp r
theorem cj{k:Nat}{A:Around}(hr:cG k A)(hk:32<=k):A.depth+100<recursionLimit:=by
 have:=hr.dp
 omega
end M
set_option maxRecDepth 100000
set_option maxHeartbeats 4000000
namespace M
open PySem PySem.Spec PyProof.Rows L2
section
variable {C : Ct}
def oy(as bs:List D):List D:=List.zipWith (λa b=>.tup [a,b]) as bs
def nL(m:AM):IM:=λs=>(m s).bind λx=>match x.1 with
 | [.lst as,.lst bs]=>.ok ((oy as bs,none),x.2)
 | _=>.bad
theorem wm{as bs:List D}{i:Nat}{d:D}(h:(oy as bs)[i]? =some d):∃x y,as[i]? =some x/\bs[i]? =some y/\d=.tup [x,y]:=by
 unfold oy at h
 rw[List.getElem?_zipWith] at h
 cases h1:as[i]? with
 | none=>rw[h1] at h;cases h
 | some x=>
  cases h2:bs[i]? with
  | none=>rw[h1,h2] at h;cases h
  | some y=>
   rw[h1,h2] at h
   cases h
   exact⟨x,y,rfl,rfl,rfl⟩
theorem Gz{a b:Addr}{xs ys:List V}{as bs:List D}{H F:Hp}{θ:List Addr}(h1:SqL C.K F a xs)(h2:SqL C.K F b ys)(r1:aB C.K C.ca θ F as xs)(r2:aB C.K C.ca θ F bs ys):
 tu C (Itz C.K a b) (oy as bs) (okC (oy as bs) none) H F θ where
 go:=λi H2 F2 θ2 O2 hi st n _=>by
  obtain⟨x,y,e1,e2,_⟩:=wm (List.getElem?_eq_getElem hi)
  obtain⟨v,q1,_⟩:=r1.get e1
  obtain⟨w,q2,_⟩:=r2.get e2
  exact⟨xs,ys,v,w,n.fh.seq (st.ff.seq h1),n.fh.seq (st.ff.seq h2),q1,q2⟩
 yl:=λi d σ H2 F2 θ2 s2 x H3 hd st b _ hy=>by
  obtain⟨T,v,w,hT,rfl,rfl,hv,hw⟩:=hy
  obtain⟨x,y,e1,e2,rfl⟩:=wm hd
  obtain⟨v',q1,k1⟩:=r1.get e1
  obtain⟨w',q2,k2⟩:=r2.get e2
  have:=hv xs (b.now.fh.seq (st.ff.seq h1))
  rw[q1] at this
  cases this
  have:=hw ys (b.now.fh.seq (st.ff.seq h2))
  rw[q2] at this
  cases this
  obtain⟨st3,b3,sF,e3⟩:=b.newF hT (.tup [v,w])
  refine⟨_,st3,b3, ?_⟩
  unfold Rep
  exact⟨T,[v,w],rfl,SqT.of e3,aB.cons ((k1.mono st.ff st.pre).mono st3.ff st3.pre) (aB.one ((k2.mono st.ff st.pre).mono st3.ff st3.pre))⟩
 st:=λi H2 F2 θ2 O2 hi st n _=>by
  refine⟨xs,ys,n.fh.seq (st.ff.seq h1),n.fh.seq (st.ff.seq h2), ?_⟩
  unfold oy at hi
  rw[List.length_zipWith] at hi
  rw[r1.length,r2.length]
  omega
theorem wL{ta:TA}{m:AM}(h:RdA C ta m):RdI C (FD C.K ta) (nL m):=by
 intro σ H F θ s R b p
 refine h σ H F θ s _ b (PoR.bind p ?_)
 rintro ⟨x,s1⟩ H1 F1 θ1 _ st1 p1 b1 v r1
 dsimp only at p1 b1 r1
 split at p1
 ·rename_i as bs
  obtain⟨v1,v2,rfl,k1,k2⟩:=HC r1
  unfold Rep at k1 k2
  obtain⟨a,xs,rfl,hs,hr⟩:=k1
  obtain⟨b',ys,rfl,hs',hr'⟩:=k2
  exact⟨a,b',rfl,⟨xs,b1.now.fh.seq hs⟩,⟨ys,b1.now.fh.seq hs'⟩,p1 _ _ _ .refl b1 _ (Gz hs hs' hr hr')⟩
 ·exact False.elim p1
def et(ds:List D):List D:=ds.mapIdx λi d=>.tup [.int (i:Nat),d]
def gF(m:AM):IM:=λs=>(m s).bind λx=>match x.1 with
 | [.lst as]=>.ok ((et as,none),x.2)
 | _=>.bad
theorem t9{as:List D}{i:Nat}{d:D}(h:(et as)[i]? =some d):∃x,as[i]? =some x/\d=.tup [.int (i:Nat),x]:=by
 unfold et at h
 rw[List.getElem?_mapIdx] at h
 cases h1:as[i]? with
 | none=>rw[h1] at h;cases h
 | some x=>
  rw[h1] at h
  cases h
  exact⟨x,rfl,rfl⟩
theorem EY{a:Addr}{xs:List V}{as:List D}{H F:Hp}{θ:List Addr}(h1:SqL C.K F a xs)(r1:aB C.K C.ca θ F as xs):tu C (Ite C.K a) (et as) (okC (et as) none) H F θ where
 go:=λi H2 F2 θ2 O2 hi st n _=>by
  obtain⟨x,e1,_⟩:=t9 (List.getElem?_eq_getElem hi)
  obtain⟨v,q1,_⟩:=r1.get e1
  exact⟨xs,v,n.fh.seq (st.ff.seq h1),q1⟩
 yl:=λi d σ H2 F2 θ2 s2 x H3 hd st b _ hy=>by
  obtain⟨T,v,hT,rfl,rfl,hv⟩:=hy
  obtain⟨x,e1,rfl⟩:=t9 hd
  obtain⟨v',q1,k1⟩:=r1.get e1
  have:=hv xs (b.now.fh.seq (st.ff.seq h1))
  rw[q1] at this
  cases this
  obtain⟨st3,b3,sF,e3⟩:=b.newF hT (.tup [.int (i:Nat),v])
  refine⟨_,st3,b3, ?_⟩
  unfold Rep
  exact⟨T,[.int (i:Nat),v],rfl,SqT.of e3,aB.cons (aW.mpr rfl) (aB.one ((k1.mono st.ff st.pre).mono st3.ff st3.pre))⟩
 st:=λi H2 F2 θ2 O2 hi st n _=>by
  refine⟨xs,n.fh.seq (st.ff.seq h1), ?_⟩
  unfold et at hi
  rw[List.length_mapIdx] at hi
  rw[r1.length]
  exact hi
theorem mI{ta:TA}{m:AM}(h:RdA C ta m):RdI C (Dq C.K ta) (gF m):=by
 intro σ H F θ s R b p
 refine h σ H F θ s _ b (PoR.bind p ?_)
 rintro ⟨x,s1⟩ H1 F1 θ1 _ st1 p1 b1 v r1
 dsimp only at p1 b1 r1
 split at p1
 ·rename_i as
  obtain⟨v1,rfl,k1⟩:=kH r1
  unfold Rep at k1
  obtain⟨a,xs,rfl,hs,hr⟩:=k1
  exact⟨a,rfl,⟨xs,b1.now.fh.seq hs⟩,p1 _ _ _ .refl b1 _ (EY hs hr)⟩
 ·exact False.elim p1
def lV(x:Str):List D:=x.cps.toList.map λc=>.str ⟨#[c]⟩
def zi(m:EM):IM:=λs=>(m s).bind λx=>match x.1 with
 | .str z=>.ok ((lV z,none),x.2)
 | _=>.bad
theorem FF{z:Str}{H F:Hp}{θ:List Addr}:tu C (Its z) (lV z) (okC (lV z) none) H F θ where
 go:=λi H2 F2 θ2 O2 hi st n _=>by
  unfold lV at hi
  show i<z.cps.size
  simpa using hi
 yl:=λi d σ H2 F2 θ2 s2 x H3 hd st b _ hy=>by
  obtain⟨rfl,c,hc,rfl⟩:=hy
  refine⟨F2,.refl,b, ?_⟩
  unfold lV at hd
  rw[List.getElem?_map,Array.getElem?_toList,hc] at hd
  cases hd
  exact cA.mpr rfl
 st:=λi H2 F2 θ2 O2 hi st n _=>by
  unfold lV at hi
  show z.cps.size<=i
  simpa using hi
theorem EV{te:TE}{m:EM}(h:RdE C te m):RdI C (FG te) (zi m):=by
 intro σ H F θ s R b p
 refine h σ H F θ s _ b (PoR.bind p ?_)
 rintro ⟨x,s1⟩ H1 F1 θ1 _ st1 p1 b1 v r1
 dsimp only at p1 b1 r1
 cases x <;> first | exact False.elim p1 | skip
 rename_i z _
 exact⟨z,cA.mp r1,p1 _ _ _ .refl b1 _ FF⟩
def fL:List D->Option (List Int)
 | []=>some []
 | .int i::r=>(fL r).map (i:: ·)
 | _=>none
def i5:List D->Option (List Bool)
 | []=>some []
 | .bl i::r=>(i5 r).map (i:: ·)
 | _=>none
theorem rA{K:PySem.W.Frag}{ca:Nat->Addr}{θ:List Addr}{F:Hp}:∀{ds:List D} {ns:List Int} {xs:List V},fL ds=some ns->aB K ca θ F ds xs->xs=ns.map V.int
 | [],ns,xs,e,r=>by cases e;unfold aB at r;rw[r];rfl
 | d::ds,ns,xs,e,r=>by
  cases d <;> first | (cases e;done) | skip
  rename_i i
  unfold fL at e
  cases e2:fL ds with
  | none=>rw[e2] at e;cases e
  | some ms=>
   rw[e2] at e
   cases e
   unfold aB at r
   obtain⟨v,w,rfl,h1,h2⟩:=r
   rw[rA e2 h2,aW.mp h1];rfl
theorem qw{K:PySem.W.Frag}{ca:Nat->Addr}{θ:List Addr}{F:Hp}:∀{ds:List D} {ns:List Bool} {xs:List V},i5 ds=some ns->aB K ca θ F ds xs->xs=ns.map V.bl
 | [],ns,xs,e,r=>by cases e;unfold aB at r;rw[r];rfl
 | d::ds,ns,xs,e,r=>by
  cases d <;> first | (cases e;done) | skip
  rename_i i
  unfold i5 at e
  cases e2:i5 ds with
  | none=>rw[e2] at e;cases e
  | some ms=>
   rw[e2] at e
   cases e
   unfold aB at r
   obtain⟨v,w,rfl,h1,h2⟩:=r
   rw[qw e2 h2,b8.mp h1];rfl
def ofInts(f:List Int->D):OpN:=λO xs=>match xs with
 | [x]=>match lsD O x with
  | some ds=>match fL ds with
   | some ns=>.ok (f ns)
   | none=>.bad
  | none=>.bad
 | _=>.bad
def qg(f:List Bool->D):OpN:=λO xs=>match xs with
 | [x]=>match lsD O x with
  | some ds=>match i5 ds with
   | some ns=>.ok (f ns)
   | none=>.bad
  | none=>.bad
 | _=>.bad
def mz:OpN:=ofInts λns=>.int ns.sum
def wV:OpN:=qg λbs=>.bl (bs.all id)
def Iq:OpN:=qg λbs=>.bl (bs.any id)
theorem AK{f:List Int->D}{g:List Int->V}(h:∀K ca θ F ns,Rep K ca θ F (f ns) (g ns)):j2 C (λxs H Q=>∃(p:Addr) (ns:List Int),xs=[.ref p]/\SqL C.K H p (ns.map V.int)/\Q (g ns) H) (ofInts f):=by
 intro σ H F θ s xs vs Q b r p
 unfold ofInts at p
 split at p
 ·obtain⟨v,rfl,r1⟩:=kH r
  split at p
  ·rename_i ds e
   obtain⟨a,ys,rfl,hs,hr⟩:=gy b r1 e
   split at p
   ·rename_i ns e2
    have:=rA e2 hr
    subst this
    exact⟨a,ns,rfl,hs,cP p b (h ..)⟩
   ·exact False.elim p
  ·exact False.elim p
 ·exact False.elim p
theorem zV{f:List Bool->D}{g:List Bool->V}(h:∀K ca θ F ns,Rep K ca θ F (f ns) (g ns)):j2 C (λxs H Q=>∃(p:Addr) (ns:List Bool),xs=[.ref p]/\SqL C.K H p (ns.map V.bl)/\Q (g ns) H) (qg f):=by
 intro σ H F θ s xs vs Q b r p
 unfold qg at p
 split at p
 ·obtain⟨v,rfl,r1⟩:=kH r
  split at p
  ·rename_i ds e
   obtain⟨a,ys,rfl,hs,hr⟩:=gy b r1 e
   split at p
   ·rename_i ns e2
    have:=qw e2 hr
    subst this
    exact⟨a,ns,rfl,hs,cP p b (h ..)⟩
   ·exact False.elim p
  ·exact False.elim p
 ·exact False.elim p
theorem o5:j2 C (λxs H Q=>∃(p:Addr) (ns:List Int),xs=[.ref p]/\SqL C.K H p (ns.map V.int)/\Q (.int ns.sum) H) mz:=AK λ_ _ _ _ _=>aW.mpr rfl
theorem xt:j2 C (λxs H Q=>∃(p:Addr) (bs:List Bool),xs=[.ref p]/\SqL C.K H p (bs.map V.bl)/\Q (.bl (bs.all id)) H) wV:=zV λ_ _ _ _ _=>b8.mpr rfl
def GH:D->Bool
 | .non=>true
 | _=>false
def isD:Op2:=λ_ x y=>match x,y with
 | .bl a,.bl b=>.ok (.bl (a == b))
 | x,.non=>.ok (.bl (GH x))
 | _,_=>.bad
def rQ:Op2:=λ_ x y=>match y with
 | .non=>.ok (.bl (!GH x))
 | _=>.bad
theorem Bj{X:Cx}:OpR X (compareOp .LtE) (λx y H Q=>∃i j,x=.str i/\y=.str j/\Q (.bl (!decide (j.cps.toList<i.cps.toList))) H):=by
 intro pins s σ H x y v u Q I rx ry h
 obtain⟨i,j,rfl,rfl,q⟩:=h
 obtain⟨t,rfl⟩:=rx
 obtain⟨t',rfl⟩:=ry
 exact PySem.P.le_str (bW I q rfl)
def oz:Op2:=λ_ x y=>match x,y with
 | .str i,.str j=>.ok (.bl (!decide (j.cps.toList<i.cps.toList)))
 | _,_=>.bad
theorem Bi:fS C (λx y H Q=>∃i j,x=.str i/\y=.str j/\Q (.bl (!decide (j.cps.toList<i.cps.toList))) H) oz:=by
 intro σ H F θ s x y v w Q b rx ry p
 unfold oz at p
 split at p
 ·rename_i i j
  exact⟨i,j,cA.mp rx,cA.mp ry,cP p b (b8.mpr rfl)⟩
 ·exact False.elim p
def pq(f g:Op2)(a b c:EM):EM:=λs=>(a s).bind λx=>(b x.2).bind λy=>(f y.2.o x.1 y.1).bind λz=>match z with
 | .bl true=>(c y.2).bind λw=>(g w.2.o y.1 w.1).bind λd=>.ok (d,w.2)
 | .bl false=>.ok (.bl false,y.2)
 | _=>.bad
theorem Cp{r r':R2}{f g:Op2}{ta tb tc:TE}{ma mb mc:EM}(hf:fS C r f)(hg:fS C r' g)(ha:RdE C ta ma)(hb:RdE C tb mb)(hc:RdE C tc mc):RdE C (AE r r' ta tb tc) (pq f g ma mb mc):=by
 intro σ H F θ s Q b p
 refine ha σ H F θ s _ b (PoR.bind p ?_)
 rintro ⟨x,s1⟩ H1 F1 θ1 _ st1 p1 b1 v r1
 refine hb σ H1 F1 θ1 s1 _ b1 (PoR.bind p1 ?_)
 rintro ⟨y,s2⟩ H2 F2 θ2 _ st2 p2 b2 w r2
 dsimp only at p2
 refine hf σ H2 F2 θ2 s2 x y v w _ b2 (r1.mono st2.ff st2.pre) r2 ?_
 cases e:f s2.o x y with
 | bad=>rw[e] at p2;exact p2
 | exc a1 a2 a3=>rw[e] at p2;exact p2
 | ok z=>
  rw[e,ak] at p2
  rw[ak]
  intro H3 F3 θ3 st3 b3 u r3
  cases z <;> first | exact False.elim p2 | skip
  rename_i k
  refine⟨k,b8.mp r3, ?_⟩
  cases k with
  | false=>exact sP (PoR.after st3 p2 _ _ _ .refl b3 _ (b8.mpr rfl))
  | true=>
   refine tH (hc σ H3 F3 θ3 s2 _ b3 (PoR.bind (PoR.after st3 p2) ?_))
   rintro ⟨q,s4⟩ H4 F4 θ4 _ st4 p4 b4 w' r4
   exact hg σ H4 F4 θ4 s4 y q w w' Q b4 ((r2.mono st3.ff st3.pre).mono st4.ff st4.pre) r4 p4
theorem aB.erase{K:PySem.W.Frag}{ca:Nat->Addr}{θ:List Addr}{F:Hp}:∀{ds:List D} {xs:List V} (i:Nat),aB K ca θ F ds xs->aB K ca θ F (ds.eraseIdx i) (xs.eraseIdx i)
 | [],_,_,k=>by unfold aB at k;rw[k];exact aB.nil
 | _::_,_,0,k=>by
  unfold aB at k
  obtain⟨v,r,rfl,h1,h2⟩:=k
  exact h2
 | _::_,_,i+1,k=>by
  unfold aB at k
  obtain⟨v,r,rfl,h1,h2⟩:=k
  exact aB.cons h1 (aB.erase i h2)
def Hl(n:Nat)(f:FM)(ma:AM):EM:=λs=>(ma s).bind λx=>if x.1.length=n then (match f x.1 x.2.o with
 | .ok (d,O1)=>.ok (d,⟨x.2.r,O1⟩)
 | _=>.bad) else .bad
def G0(k:Int)(ds:List D):List D:=(List.replicate k.toNat ds).flatten
def IJ(fin:S->List D->Res (D×S))(ma:AM)(mk:EM):EM:=λs=>(ma s).bind λx=>if x.1.length<=16777216 then (mk x.2).bind λy=>match y.1 with
 | .int k=>if (-(2^63)<=k/\k<2^63)/\x.1.length*k.toNat<=16777216 then fin y.2 (G0 k x.1) else .bad
 | _=>.bad
 else .bad
def ze:S->List D->Res (D×S):=λs ds=>.ok (.lst ds,s)
def Ir:S->List D->Res (D×S):=λs ds=>.ok (.ptr s.o.length,⟨s.r,s.o++[.lst ds]⟩)
def Ik(m:EM):TM:=λs=>(m s).bind λx=>match lsD x.2.o x.1 with
 | some ds=>.ok (!ds.isEmpty,x.2)
 | none=>.bad
end
end M
set_option maxRecDepth 100000
set_option maxHeartbeats 4000000
namespace M
open PySem PySem.Spec PyProof.Rows L2
section
variable {C : Ct}
theorem aB.places{K:PySem.W.Frag}{ca:Nat->Addr}{θ:List Addr}{F:Hp}{ds:List D}{xs:List V}(r:aB K ca θ F ds xs):∀js:List Nat,aB K ca θ F (js.filterMap (ds[·]?)) (js.filterMap (xs[·]?))
 | []=>aB.nil
 | j::js=>by
  have ih:=aB.places r js
  cases hn:ds[j]? with
  | some d=>
   obtain⟨v,hv,rv⟩:=r.get hn
   simp only[List.filterMap_cons,hn,hv]
   exact aB.cons rv ih
  | none=>
   have hv:xs[j]? =none:=by
    rw[List.getElem?_eq_none_iff] at hn ⊢
    rw[r.length];exact hn
   simp only[List.filterMap_cons,hn,hv]
   exact ih
def wk(fin:S->List D->Res (D×S))(me:EM)(ml mh ms:OM):EM:=λs=>(me s).bind λx=>(ml x.2).bind λl=>(mh l.2).bind λh=>(ms h.2).bind λt=>match lsD t.2.o x.1 with
 | some ds=>if t.1=some 0 then .bad else fin t.2 (pick ds l.1 h.1 t.1)
 | none=>.bad
theorem GC {fin:S->List D->Res (D×S)} {te:TE} {tl th ts:TO} {me:EM} {ml mh ms:OM} (he:RdE C te me) (hl:RdO C tl ml) (hh:RdO C th mh) (ht:RdO C ts ms)
 (hf:∀σ H F θ s ds xs Q,BS C.K C.ca σ H F θ s->aB C.K C.ca θ F ds xs->PoE C σ H F θ (fin s ds) Q->∀q,H q=none->Q (.ref q) (upd H q (.lst xs))):RdE C (Cn C.K te tl th ts) (wk fin me ml mh ms):=by
 intro σ H F θ s Q b p
 refine he σ H F θ s _ b (PoR.bind p ?_)
 rintro ⟨x,s1⟩ H1 F1 θ1 _ st1 p1 b1 v r1
 refine hl σ H1 F1 θ1 s1 _ b1 (PoR.bind p1 ?_)
 rintro ⟨l,s2⟩ H2 F2 θ2 _ st2 p2 b2
 refine hh σ H2 F2 θ2 s2 _ b2 (PoR.bind p2 ?_)
 rintro ⟨h,s3⟩ H3 F3 θ3 _ st3 p3 b3
 refine ht σ H3 F3 θ3 s3 _ b3 (PoR.bind p3 ?_)
 rintro ⟨t,s4⟩ H4 F4 θ4 _ st4 p4 b4
 dsimp only at p4 ⊢
 split at p4
 ·rename_i ds e
  split at p4
  ·exact False.elim p4
  ·rename_i h0
   obtain⟨a,xs,rfl,hs,hr⟩:=gy b4 (((r1.mono st2.ff st2.pre).mono st3.ff st3.pre).mono st4.ff st4.pre) e
   refine⟨a,xs,rfl,hs,h0, ?_⟩
   have hp:aB C.K C.ca θ4 F4 (pick ds l h t) (pick xs l h t):=by
    unfold pick
    rw[hr.length]
    exact hr.places _
   exact hf σ H4 F4 θ4 s4 _ _ Q b4 hp p4
 ·exact False.elim p4
theorem E4{te:TE}{tl th ts:TO}{me:EM}{ml mh ms:OM}(he:RdE C te me)(hl:RdO C tl ml)(hh:RdO C th mh)(ht:RdO C ts ms):RdE C (Cn C.K te tl th ts) (wk ze me ml mh ms):=GC he hl hh ht λσ H F θ s ds xs Q b r p=>pO p b r
end
end M
set_option maxRecDepth 100000
set_option maxHeartbeats 4000000
namespace M
open PySem PySem.Spec PyProof.Rows L2
section
variable {C : Ct}
def wN(m:EM):EM:=λs=>(m s).bind λx=>match jd x.2.o x.1 with
 | some (k,ds)=>.ok (.lst ds,⟨x.2.r,x.2.o.set k .dead⟩)
 | none=>.ok x
theorem yy(m:EM)(s:S):wN m s=(m s).bind λx=>match jd x.2.o x.1 with
 | some (k,ds)=>.ok (.lst ds,⟨x.2.r,x.2.o.set k .dead⟩)
 | none=>.ok x:=rfl
theorem Ez{t:TE}{m:EM}(h:RdE C t m):RdE C t (wN m):=by
 intro σ H F θ s Q b p
 refine h σ H F θ s _ b (PoR.bind p ?_)
 rintro ⟨x,s1⟩ H1 F1 θ1 _ st1 p1 b1 v r1
 dsimp only at p1 b1 r1
 split at p1
 ·rename_i k ds e
  obtain⟨rfl,e'⟩:=mB e
  obtain⟨a,xs,rfl,hk,hF,h1,h2⟩:=ke b1 r1 e'
  obtain⟨st2,b2,r2⟩:=b1.frz hk e' hF h1 h2
  exact p1 _ _ _ st2 b2 _ r2
 ·exact p1 _ _ _ .refl b1 _ r1
end
end M
set_option maxRecDepth 100000
set_option maxHeartbeats 4000000
namespace M
open PySem PySem.Spec PyProof.Rows L2
section
variable {C : Ct}
def slS(me:EM)(ml mh:OM):EM:=λs=>(me s).bind λx=>(ml x.2).bind λl=>(mh l.2).bind λh=>match x.1 with
 | .str z=>if z.length<=16777216 then .ok (.str (jX z l.1 h.1),h.2) else .bad
 | _=>.bad
theorem Bw{te:TE}{tl th:TO}{me:EM}{ml mh:OM}(he:RdE C te me)(hl:RdO C tl ml)(hh:RdO C th mh):RdE C (tSl Dk te tl th) (slS me ml mh):=by
 intro σ H F θ s Q b p
 refine he σ H F θ s _ b (PoR.bind p ?_)
 rintro ⟨x,s1⟩ H1 F1 θ1 _ st1 p1 b1 v r1
 refine hl σ H1 F1 θ1 s1 _ b1 (PoR.bind p1 ?_)
 rintro ⟨l,s2⟩ H2 F2 θ2 _ st2 p2 b2
 refine hh σ H2 F2 θ2 s2 _ b2 (PoR.bind p2 ?_)
 rintro ⟨h,s3⟩ H3 F3 θ3 _ st3 p3 b3
 dsimp only at p3 ⊢
 split at p3
 ·rename_i z _
  split at p3
  ·rename_i hz
   exact⟨z,cA.mp r1,by rw[sizeLine_eq];exact hz,p3 _ _ _ .refl b3 _ (cA.mpr rfl)⟩
  ·exact False.elim p3
 ·exact False.elim p3
theorem GB(me:EM)(ml mh:OM)(s:S):slS me ml mh s=(me s).bind λx=>(ml x.2).bind λl=>(mh l.2).bind λh=>match x.1 with
 | .str z=>if z.length<=16777216 then .ok (.str (jX z l.1 h.1),h.2) else .bad
 | _=>.bad:=rfl
end
end M
set_option maxRecDepth 100000
set_option maxHeartbeats 4000000
namespace M
open PySem PySem.Spec PyProof.Rows L2
section
variable {C : Ct}
def kM:List D->Option (List Str)
 | []=>some []
 | .str z::r=>match kM r with
  | some zs=>some (z::zs)
  | none=>none
 | _=>none
theorem t7:∀{ds:List D} {zs:List Str},kM ds=some zs->ds=zs.map D.str
 | [],zs,h=>by cases h;rfl
 | d::ds,zs,h=>by
  cases d <;> first | (simp[kM] at h;done) | skip
  rename_i z
  unfold kM at h
  cases e:kM ds with
  | none=>rw[e] at h;cases h
  | some ys=>
   rw[e] at h
   cases h
   rw[t7 e];rfl
theorem oI:∀zs:List Str,kM (zs.map D.str)=some zs
 | []=>rfl
 | z::zs=>by rw[List.map_cons];unfold kM;rw[oI zs]
def inB(O:aD)(x y:D):Option Bool:=match x with
 | .str a=>match lsD O y with
  | some ds=>match kM ds with
   | some zs=>some (zs.any (· == a))
   | none=>none
  | none=>none
 | .int a=>match lsD O y with
  | some ds=>match fL ds with
   | some zs=>some (zs.any (· == a))
   | none=>none
  | none=>none
 | _=>none
def inD:Op2:=λO x y=>match inB O x y with
 | some b=>.ok (.bl b)
 | none=>.bad
def px:Op2:=λO x y=>match inB O x y with
 | some b=>.ok (.bl (!b))
 | none=>.bad
theorem tZ{K:PySem.W.Frag}{ca:Nat->Addr}{θ:List Addr}{F:Hp}:∀{zs:List Str} {xs:List V},aB K ca θ F (zs.map D.str) xs->xs=zs.map V.str
 | [],xs,h=>by unfold aB at h;exact h
 | z::zs,xs,h=>by
  rw[List.map_cons] at h
  unfold aB at h
  obtain⟨v,r,rfl,h1,h2⟩:=h
  rw[cA.mp h1,tZ h2];rfl
theorem oA{K:PySem.W.Frag}{ca:Nat->Addr}{θ:List Addr}{F:Hp}:∀{zs:List Int} {xs:List V},aB K ca θ F (zs.map D.int) xs->xs=zs.map V.int
 | [],xs,h=>by unfold aB at h;exact h
 | z::zs,xs,h=>by
  rw[List.map_cons] at h
  unfold aB at h
  obtain⟨v,r,rfl,h1,h2⟩:=h
  rw[aW.mp h1,oA h2];rfl
theorem rF:∀{ds:List D} {zs:List Int},fL ds=some zs->ds=zs.map D.int
 | [],zs,h=>by unfold fL at h;cases h;rfl
 | d::ds,zs,h=>by
  cases d <;> first | (simp[fL] at h;done) | skip
  rename_i z
  unfold fL at h
  cases e:fL ds with
  | none=>rw[e] at h;cases h
  | some ys=>
   rw[e] at h
   cases h
   rw[rF e];rfl
theorem yt{σ:L2.St}{H F:Hp}{θ:List Addr}{s:S}{x y:D}{v w:V}{q:Bool}(b:BS C.K C.ca σ H F θ s)(rx:Rep C.K C.ca θ F x v)(ry:Rep C.K C.ca θ F y w)(e:inB s.o x y=some q):
 ∃p xs,w=.ref p/\SqL C.K H p xs/\kI v=true/\xs.all kI=true/\inV v xs=q:=by
 unfold inB at e
 split at e
 ·rename_i a
  split at e
  ·rename_i ds e1
   split at e
   ·rename_i zs e2
    cases e
    obtain⟨p,xs,rfl,hs,hr⟩:=gy b ry e1
    rw[t7 e2] at hr
    have hx:=tZ hr
    subst hx
    rw[cA.mp rx]
    refine⟨p,_,rfl,hs,rfl, ?_, ?_⟩
    ·rw[List.all_map,List.all_eq_true];intro z _;rfl
    ·unfold inV;rw[List.any_map];rfl
   ·cases e
  ·cases e
 ·rename_i a
  split at e
  ·rename_i ds e1
   split at e
   ·rename_i zs e2
    cases e
    obtain⟨p,xs,rfl,hs,hr⟩:=gy b ry e1
    rw[rF e2] at hr
    have hx:=oA hr
    subst hx
    rw[aW.mp rx]
    refine⟨p,_,rfl,hs,rfl, ?_, ?_⟩
    ·rw[List.all_map,List.all_eq_true];intro z _;rfl
    ·unfold inV;rw[List.any_map];rfl
   ·cases e
  ·cases e
 ·cases e
theorem De:fS C (rIn C.K false) inD:=by
 intro σ H F θ s x y v w Q b rx ry p
 unfold inD at p
 split at p
 ·rename_i q e
  obtain⟨a,xs,rfl,h1,h2,h3,h4⟩:=yt b rx ry e
  exact⟨a,xs,rfl,.inl h1,h2,h3,cP p b (b8.mpr (by rw[if_neg (by decide),h4]))⟩
 ·exact False.elim p
theorem Ck:fS C (rIn C.K true) px:=by
 intro σ H F θ s x y v w Q b rx ry p
 unfold px at p
 split at p
 ·rename_i q e
  obtain⟨a,xs,rfl,h1,h2,h3,h4⟩:=yt b rx ry e
  exact⟨a,xs,rfl,.inl h1,h2,h3,cP p b (b8.mpr (by rw[if_pos rfl,h4]))⟩
 ·exact False.elim p
def oM(f:Str):List Str->List D->Option D
 | n::ns,d::ds=>if n=f then some d else oM f ns ds
 | _,_=>none
theorem vR{K:PySem.W.Frag}{ca:Nat->Addr}{θ:List Addr}{F:Hp}{f:Str}:∀{ns:List Str} {ds:List D} {xs:List V} {d:D},aB K ca θ F ds xs->oM f ns ds=some d->∃v,(ns.zip xs).lookup f=some v/\Rep K ca θ F d v
 | [],_,_,_,_,e=>by simp[oM] at e
 | _::_,[],_,_,_,e=>by simp[oM] at e
 | n::ns,d::ds,xs,d',h,e=>by
  unfold aB at h
  obtain⟨v,r,rfl,h1,h2⟩:=h
  unfold oM at e
  rw[List.zip_cons_cons,List.lookup_cons]
  by_cases hn:n=f
  ·rw[if_pos hn] at e
   cases e
   subst hn
   exact⟨v,by simp,h1⟩
  ·rw[if_neg hn] at e
   obtain⟨u,e1,e2⟩:=vR h2 e
   refine⟨u, ?_,e2⟩
   rw[show (f == n)=false by simpa using λz=>hn z.symm]
   exact e1
def pF(c:Nat)(f:Str)(me:EM):EM:=λs=>(me s).bind λx=>match x.1 with
 | .obj c' ns ds=>if c'=c then (match oM f ns ds with
  | some d=>.ok (d,x.2)
  | none=>.bad) else .bad
 | _=>.bad
theorem vD{c:Nat}{f:Str}{ta:TE}{me:EM}(hc:Cls C.K (C.ca c))(hn:d6 C.K (C.ca c) f)(h:RdE C ta me):RdE C (FQ C.K ta f) (pF c f me):=by
 intro σ H F θ s Q b p
 refine h σ H F θ s _ b (PoR.bind p ?_)
 rintro ⟨x,s1⟩ H1 F1 θ1 _ st1 p1 b1 v r1
 dsimp only at p1 b1 r1
 split at p1
 ·rename_i c' ns ds _
  split at p1
  ·rename_i hcc
   subst hcc
   split at p1
   ·rename_i d e
    unfold Rep at r1
    obtain⟨a,dx,xs,rfl,ha,hl,hr⟩:=r1
    obtain⟨u,e1,e2⟩:=vR hr e
    exact⟨a,_,dx,_,u,rfl,b1.now.fh _ _ ha,hc,hn,e1,p1 _ _ _ .refl b1 _ e2⟩
   ·exact False.elim p1
  ·exact False.elim p1
 ·exact False.elim p1
theorem D3(c:Nat)(f:Str)(me:EM)(s:S):pF c f me s=(me s).bind λx=>match x.1 with
 | .obj c' ns ds=>if c'=c then (match oM f ns ds with
  | some d=>.ok (d,x.2)
  | none=>.bad) else .bad
 | _=>.bad:=rfl
theorem lookup_none{f:Str}:∀{ns:List Str} {xs:List V},f∉ns->(ns.zip xs).lookup f=none
 | [],_,_=>rfl
 | _::_,[],_=>rfl
 | n::ns,x::xs,h=>by
  rw[List.zip_cons_cons,List.lookup_cons,show (f == n)=false by simpa using λz=>h (by simp[z])]
  exact lookup_none λz=>h (by simp[z])
theorem wY{f:Str}{y:V}:∀{ns:List Str} {xs:List V},ns.length=xs.length->f∉ns->hZ f y (ns.zip xs)=(ns++[f]).zip (xs++[y])
 | [],[],_,_=>rfl
 | n::ns,x::xs,hl,h=>by
  rw[List.zip_cons_cons]
  unfold hZ
  rw[if_neg (λz=>h (by simp[z])),wY (by simpa using hl) λz=>h (by simp[z])]
  rfl
theorem BS.setI{K:PySem.W.Frag}{ca:Nat->Addr}{σ:L2.St}{H F:Hp}{θ:List Addr}{s:S}(b:BS K ca σ H F θ s){k:Nat}{a dx:Addr}{c:Cell}{cl:Nat}{ns:List Str}(hk:θ[k]? =some a)(hc:s.o[k]? =some c)(hF:F a=none){ds:List D}{xs:List V}(hl:ns.length=xs.length)(hr:aB K ca θ F ds xs):
 Stp H F θ (upd H a (.ins (ca cl) dx (ns.zip xs))) F θ/\BS K ca σ (upd H a (.ins (ca cl) dx (ns.zip xs))) F θ ⟨s.r,s.o.set k (.ins cl ns ds)⟩:=by
 have hm:a∈θ:=List.mem_of_getElem? hk
 refine⟨⟨bE.refl _,⟨[],by simp,by simp⟩,λe o he hb=> ?_,λe o he=> ?_,λe o he=>.inl he⟩,⟨⟨λe o he=> ?_,b.now.nd,by simpa using b.now.ln,λj a' c' e1 e2=> ?_⟩,b.len,b.sl⟩⟩
 ·have ne:e≠a:=λz=>hb (by rw[z];exact hm)
  rw[aM ne];exact he
 ·by_cases z:e=a
  ·subst z;exact⟨_,b7⟩
  ·exact⟨o,by rw[aM z];exact he⟩
 ·have ne:e≠a:=λz=>by rw[z,hF] at he;cases he
  rw[aM ne]
  exact b.now.fh _ _ he
 ·by_cases hj:k=j
  ·subst hj
   rw[hk] at e1;cases e1
   have:k<s.o.length:=(List.getElem?_eq_some_iff.mp hc).1
   rw[List.getElem?_set_self this] at e2
   cases e2
   exact⟨hF,dx,xs,b7,hl,hr⟩
  ·rw[List.getElem?_set_ne hj] at e2
   have q:=b.now.ce j a' c' e1 e2
   have ne:a'≠a:=λz=>by
    subst z
    exact hj (nM b.now.nd hk e1)
   cases c' with
   | dead=>obtain⟨o,ho⟩:=q;exact⟨o,by rw[aM ne];exact ho⟩
   | lst ds=>obtain⟨q1,ys,q2,q3⟩:=q;exact⟨q1,ys,by rw[aM ne];exact q2,q3⟩
   | ins c ns ds=>obtain⟨q1,dx,ys,q2,q3⟩:=q;exact⟨q1,dx,ys,by rw[aM ne];exact q2,q3⟩
def nV(c:Nat)(f:Str)(mo mv:EM):SM:=λs=>(mv s).out λy=>(mo y.2).out λx=>match x.1 with
 | .ptr k=>match x.2.o[k]? with
  | some (.ins c' ns ds)=>if c'=c/\f∉ns/\ns.length<1000 then .next ⟨x.2.r,x.2.o.set k (.ins c (ns++[f]) (ds++[y.1]))⟩ else .bad
  | _=>.bad
 | _=>.bad
theorem CY(c:Nat)(f:Str)(mo mv:EM)(s:S):nV c f mo mv s=(mv s).out λy=>(mo y.2).out λx=>match x.1 with
 | .ptr k=>match x.2.o[k]? with
  | some (.ins c' ns ds)=>if c'=c/\f∉ns/\ns.length<1000 then .next ⟨x.2.r,x.2.o.set k (.ins c (ns++[f]) (ds++[y.1]))⟩ else .bad
  | _=>.bad
 | _=>.bad:=rfl
end
end M
set_option maxRecDepth 100000
set_option maxHeartbeats 4000000
namespace M
open PySem PySem.Spec PyProof.Rows L2
section
variable {C : Ct}
theorem tL{c:Nat}{f:Str}{ta tv:TE}{mo mv:EM}(hc:Cls C.K (C.ca c))(hn:d6 C.K (C.ca c) f)(ho:RdE C ta mo)(hv:RdE C tv mv):RdS C (GD C.K ta tv f) (nV c f mo mv):=by
 intro σ H F θ s Q b p
 unfold nV at p
 refine hv σ H F θ s _ b (PoS.out p ?_)
 rintro ⟨y,s1⟩ H1 F1 θ1 _ st1 p1 b1 v r1
 dsimp only at p1 b1 r1
 refine ho σ H1 F1 θ1 s1 _ b1 (PoS.out p1 ?_)
 rintro ⟨x,s2⟩ H2 F2 θ2 _ st2 p2 b2 w r2
 dsimp only at p2 b2 r2
 split at p2
 ·rename_i k _
  split at p2
  ·rename_i c' ns ds e
   split at p2
   ·rename_i hh
    obtain⟨rfl,hf,hl⟩:=hh
    unfold Rep at r2
    obtain⟨a,rfl,hk⟩:=r2
    obtain⟨h0,dx,xs,h1,h2,h3⟩:je C.K C.ca H2 F2 θ2 a (.ins c' ns ds):=b2.now.ce k a _ hk e
    have hlen:(ns++[f]).length=(xs++[v]).length:=by simp[h2]
    obtain⟨st3,b3⟩:=b2.setI (dx:=dx) (cl:=c') (ns:=ns++[f]) hk e h0 hlen (h3.append (aB.one (r1.mono st2.ff st2.pre)))
    refine⟨a,_,dx,_,rfl,h1,hc,hn, ?_, ?_⟩
    ·rw[List.length_zip];omega
    ·rw[wY h2 hf]
     exact p2 σ _ _ _ st3 b3
   ·exact False.elim p2
  ·exact False.elim p2
 ·exact False.elim p2
def rK(c n:Nat)(f:FM)(ma:AM):EM:=λs=>(ma s).bind λx=>if aI x.1=true/\x.1.length=n then (match f (.ptr 0::x.1) [.ins c [] []] with
 | .ok (.non,.ins c' ns ds::_)=>if c'=c/\aI ds=true then .ok (.obj c ns ds,x.2) else .bad
 | _=>.bad) else .bad
theorem Now.dies{K:PySem.W.Frag}{ca:Nat->Addr}{H F:Hp}{O:aD}{c:Nat}{ns:List Str}{ds:List D}{x:Addr}{r:List Addr}(n:Now K ca H F (x::r) (.ins c ns ds::O)):
 ∃dx xs,H x=some (.ins (ca c) dx (ns.zip xs))/\ns.length=xs.length/\aB K ca (x::r) F ds xs/\F x=none/\bE F (upd F x (.ins (ca c) dx (ns.zip xs)))/\Now K ca H (upd F x (.ins (ca c) dx (ns.zip xs))) (x::r) (.dead::O):=by
 obtain⟨h0,dx,xs,h1,h2,h3⟩:je K ca H F (x::r) x (.ins c ns ds):=n.ce 0 x _ rfl rfl
 have sF:bE F (upd F x (.ins (ca c) dx (ns.zip xs))):=λe o he=>by
  rw[aM (λz=>by rw[z,h0] at he;cases he)];exact he
 refine⟨dx,xs,h1,h2,h3,h0,sF,⟨λe o he=> ?_,n.nd,n.ln,λj a' c' e1 e2=> ?_⟩⟩
 ·by_cases z:e=x
  ·subst z;rw[b7] at he;rw[h1];exact he
  ·rw[aM z] at he;exact n.fh _ _ he
 ·cases j with
  | zero=>
   cases e1
   cases e2
   exact⟨_,h1⟩
  | succ j=>
   have q:=n.ce (j+1) a' c' e1 e2
   have ne:a'≠x:=λz=>by
    subst z
    have:=nM n.nd (show (a'::r)[0]? =some a' from rfl) e1
    omega
   cases c' with
   | dead=>exact q
   | lst ds=>obtain⟨q1,ys,q2,q3⟩:=q;exact⟨by rw[aM ne];exact q1,ys,q2,q3.mono sF ⟨[],by simp⟩⟩
   | ins c ns ds=>obtain⟨q1,dx,ys,q2,q3,q4⟩:=q;exact⟨by rw[aM ne];exact q1,dx,ys,q2,q3,q4.mono sF ⟨[],by simp⟩⟩
theorem EW{c n:Nat}{f:FM}{ta:TA}{ma:AM}{E:XK}(ha:RdA C ta ma):RdE C (Dx (C.ca c) (spM C.K C.ca (n+1) f) [] E ta) (rK c n f ma):=by
 intro σ H F θ s Q b p
 refine ha σ H F θ s _ b (PoR.bind p ?_)
 rintro ⟨x,s1⟩ H1 F1 θ1 _ st1 p1 b1 v r1
 dsimp only at p1 b1 r1 ⊢
 split at p1
 ·rename_i hp
  split at p1
  ·rename_i c' ns ds O1 e
   split at p1
   ·rename_i hh
    obtain⟨rfl,hpd⟩:=hh
    intro y dx hy hdx hne
    have nx:∀a u,H1 a=some u->a≠y:=λa u e z=>by rw[z,hy] at e;cases e
    have nd:∀a u,H1 a=some u->a≠dx:=λa u e z=>by rw[z,hdx] at e;cases e
    have Fy:F1 y=none:=by
     cases eF:F1 y with
     | none=>rfl
     | some u=>rw[b1.now.fh y u eF] at hy;cases hy
    have up:∀a u,H1 a=some u->upd (upd H1 dx (.own y)) y (.ins (C.ca c') dx []) a=some u:=λa u e=>by
     rw[aM (nx a u e),aM (nd a u e)];exact e
    have dn:∀a,upd (upd H1 dx (.own y)) y (.ins (C.ca c') dx []) a=none->H1 a=none:=λa z=>by
     cases e:H1 a with
     | none=>rfl
     | some u=>rw[up a u e] at z;cases z
    rw[List.append_nil]
    refine⟨F1,[y],.ptr 0::x,[.ins c' [] []],⟨λa u e=>up a u (b1.now.fh a u e),by simp,rfl,λk a cc e1 e2=> ?_⟩,aB.cons (by unfold Rep;exact⟨y,rfl,rfl⟩) (r1.pure hp.1),by simp[hp.2], ?_⟩
    ·cases k with
     | zero=>
      cases e1
      cases e2
      exact⟨Fy,dx,[],b7,rfl,aB.nil⟩
     | succ k=>simp at e1
    ·rw[e]
     intro w H2 F2 θ2 st2 n2 rw_
     refine⟨gj.mp rw_, ?_⟩
     obtain⟨r,rfl,hr⟩:=st2.th
     obtain⟨dx',xs,g1,g2,g3,g4,sF,n3⟩:=Now.dies n2
     have st3:Stp H1 F1 [] H2 (upd F2 y (.ins (C.ca c') dx' (ns.zip xs))) (y::r):=by
      refine⟨st2.ff.trans sF,⟨y::r,rfl,λa ha=> ?_⟩,λa o h _=> ?_,λa o h=>st2.al a o (up a o h),λa o h=> ?_⟩
      ·rcases List.mem_cons.mp ha with rfl | z
       ·exact hy
       ·exact dn a (hr a z)
      ·exact st2.kp a o (up a o h) (by simpa using nx a o h)
      ·by_cases z:a=y
       ·subst z;exact .inr (.inl hy)
       ·rw[aM z] at h
        rcases st2.nf a o h with q | q | q
        ·exact .inl q
        ·exact .inr (.inl (dn a q))
        ·exact absurd (by simpa using q) z
     obtain⟨st4,b4⟩:=b1.called st3 n3
     refine p1 H2 _ θ1 st4 b4 (.ref y) ?_
     unfold Rep
     exact⟨y,dx',xs,rfl,b7,g2,aB.mono (θ:=θ1) sF ⟨[],by simp⟩ (aB.pure hpd g3)⟩
   ·exact False.elim p1
  ·exact False.elim p1
 ·exact False.elim p1
theorem CH{c n:Nat}{f:FM}{ma:AM}{s s':S}{args ds:List D}{ns:List Str}{O:aD}(h:ma s=.ok (args,s'))(hp:aI args=true)(hl:args.length=n)(hf:f (.ptr 0::args) [.ins c [] []]=.ok (.non,.ins c ns ds::O))(hd:aI ds=true):rK c n f ma s=.ok (.obj c ns ds,s'):=by
 unfold rK
 rw[h,ak]
 dsimp only
 rw[if_pos ⟨hp,hl⟩,hf]
 dsimp only
 rw[if_pos ⟨rfl,hd⟩]
def methP(c:Nat)(m:Str)(n:Nat)(f:FM)(mo:EM)(ma:AM):EM:=λs=>(mo s).bind λx=>match x.1 with
 | .obj c' ns ds=>if c'=c/\m∉ns/\aI ds=true then (ma x.2).bind λy=>if aI y.1=true/\y.1.length=n then (match f (x.1::y.1) [] with
  | .ok (d,_)=>if bV d=true then .ok (d,y.2) else .bad
  | _=>.bad) else .bad else .bad
 | _=>.bad
theorem qX{c n:Nat}{m:Str}{f:FM}{to:TE}{ta:TA}{mo:EM}{ma:AM}{E:XK}(ho:RdE C to mo)(ha:RdA C ta ma):RdE C (zF (C.ca c) m (spM C.K C.ca (n+1) f) [] E to ta) (methP c m n f mo ma):=by
 intro σ H F θ s Q b p
 refine ho σ H F θ s _ b (PoR.bind p ?_)
 rintro ⟨x,s1⟩ H1 F1 θ1 _ st1 p1 b1 v r1
 dsimp only at p1 b1 r1 ⊢
 split at p1
 ·rename_i c' ns ds _
  split at p1
  ·rename_i hh
   obtain⟨rfl,hm,hpd⟩:=hh
   obtain⟨a,dx,xs,rfl,h1,h2,h3⟩:∃a dx xs,v=.ref a/\F1 a=some (.ins (C.ca c') dx (ns.zip xs))/\ns.length=xs.length/\aB C.K C.ca θ1 F1 ds xs:=by unfold Rep at r1;exact r1
   refine⟨a,dx,_,rfl,b1.now.fh _ _ h1,lookup_none hm,ha σ H1 F1 θ1 s1 _ b1 (PoR.bind p1 ?_)⟩
   rintro ⟨y,s2⟩ H2 F2 θ2 _ st2 p2 b2 w r2
   dsimp only at p2 b2 r2 ⊢
   split at p2
   ·rename_i hp
    rw[List.append_nil]
    refine⟨F2,[],.obj c' ns ds::y,[],Now.nil b2.now.fh,aB.cons ((r1.mono st2.ff st2.pre).pure (by unfold bV;exact hpd)) (r2.pure hp.1),by simp[hp.2], ?_⟩
    split at p2
    ·rename_i d O1 e
     rw[e]
     intro v H3 F3 θ3 st3 n3 rv
     obtain⟨st4,b4⟩:=b2.called st3 n3
     split at p2
     ·rename_i hd
      exact p2 H3 F3 _ st4 b4 v (rv.pure hd)
     ·exact False.elim p2
    ·exact False.elim p2
   ·exact False.elim p2
  ·exact False.elim p1
 ·exact False.elim p1
theorem C2{c n:Nat}{m:Str}{f:FM}{mo:EM}{ma:AM}{s s1 s2:S}{ns:List Str}{ds args:List D}{d:D}{O:aD}(ho:mo s=.ok (.obj c ns ds,s1))(hm:m∉ns)(hd:aI ds=true)(ha:ma s1=.ok (args,s2))(hp:aI args=true)(hl:args.length=n)(hf:f (.obj c ns ds::args) []=.ok (d,O))(hr:bV d=true):
 methP c m n f mo ma s=.ok (d,s2):=by
 unfold methP
 rw[ho,ak]
 dsimp only
 rw[if_pos ⟨rfl,hm,hd⟩,ha,ak]
 dsimp only
 rw[if_pos ⟨hp,hl⟩,hf]
 dsimp only
 rw[if_pos hr]
def MethAt(P:Program)(w:World)(K:PySem.W.Frag)(mg:Str->Option Value)(base:Heap)(ca:Nat->Addr)(lv:Nat)(C:Addr)(x:Str)(ps:List Str)(f:FM):Prop:=
 ∃a fd,d9 P w K mg base (CXE P w) lv a fd ps (spM K ca ps.length f)/\Meth K C x a/\Binds K fd ps []
def AQ(P:Program)(w:World)(K:PySem.W.Frag)(mg:Str->Option Value)(base:Heap)(ca:Nat->Addr)(lv:Nat)(C:Addr)(x:Str)(ps:List Str)(f:FM):Prop:=
 ∃a fd,d9 P w K mg base (CXE P w) lv a fd ps (spM K ca ps.length f)/\Mk K C a/\mg x=some (.ref C)/\Binds K fd ps []
end
end M
set_option maxRecDepth 100000
set_option maxHeartbeats 4000000
namespace M
open PySem PySem.Spec PyProof.Rows L2
section
variable {K : PySem.W.Frag} {ca : Nat → Addr} {θ : List Addr} {F G : Hp}
end
open Classical in
noncomputable def JM (F H:Hp)(θ:List Addr):Hp:=λa=>if a∈θ then (match H a with
 | some (.lst xs)=>some (.lst xs)
 | _=>F a) else F a
section
variable {C : Ct}
end
def clsAt(K:PySem.W.Frag)(x:Str):Addr:=match PySem.W.nsIn K mainGlobals x with
 | some (some (.ref C))=>C
 | _=>0
section
variable {C : Ct}
def kG:OpN:=λ_ xs=>match xs with
 | [.int i,.int j]=>.ok (.int (if j>i then j else i))
 | _=>.bad
theorem nJ:j2 C (λxs H Q=>∃i j,xs=[.int i,.int j]/\Q (.int (if j>i then j else i)) H) kG:=by
 intro σ H F θ s xs vs Q b r p
 unfold kG at p
 split at p
 ·rename_i i j
  exact⟨i,j,zA r,cP p b (aW.mpr rfl)⟩
 ·exact False.elim p
end
end M
set_option maxRecDepth 100000
set_option maxHeartbeats 4000000
namespace M
open PySem PySem.Spec PyProof.Rows L2
def Wok(C:Ct)(Es:L2.St->XK):Prop:=∀σ c a s1 H1 F1 θ1,C.W c a s1 H1 F1 θ1->BS C.K C.ca σ H1 F1 θ1 s1->Es σ (.ref (C.ca c)) none H1
theorem zD{K:PySem.W.Frag}{ca:Nat->Addr}{E:XK}:Wok ⟨K,ca,WE ca E⟩ λ_=>E:=λ_ _ _ _ _ _ _ h _=>h
section
variable {C : Ct} {Es : L2.St → XK}
def lO(n:Nat)(f:FM)(ma:AM):EM:=λs=>(ma s).bind λx=>if aI x.1=true/\x.1.length=n then (match f x.1 [] with
 | .ok (d,_)=>if bV d=true then .ok (d,x.2) else .bad
 | .exc c a _=>.exc c a x.2
 | .bad=>.bad) else .bad
theorem nO{n:Nat}{f:FM}{ta:TA}{ma:AM}(hW:Wok C Es)(ha:RdA C ta ma):RdE C (A3 (spM C.K C.ca n f) [] Es ta) (lO n f ma):=by
 intro σ H F θ s Q b p
 refine ha σ H F θ s _ b (PoR.bind p ?_)
 rintro ⟨x,s1⟩ H1 F1 θ1 _ st1 p1 b1 v r1
 dsimp only at p1 b1 r1 ⊢
 split at p1
 ·rename_i hp
  rw[List.append_nil]
  refine⟨F1,[],x,[],Now.nil b1.now.fh,r1.pure hp.1,hp.2, ?_⟩
  split at p1
  ·rename_i d O1 e
   try rw[e]
   intro v H2 F2 θ2 st2 n2 rv
   split at p1
   ·rename_i pd
    obtain⟨st3,b3⟩:=b1.called st2 n2
    exact p1 H2 F2 θ1 st3 b3 v (rv.pure pd)
   ·exact False.elim p1
  ·rename_i c a s2 e
   try rw[e]
   intro H2 F2 θ2 st2 n2
   obtain⟨st3,b3⟩:=b1.called st2 n2
   exact hW σ c a s1 H2 F2 θ1 (p1 H2 F2 θ1 st3 b3.now) b3
  ·exact False.elim p1
 ·exact False.elim p1
theorem nR{n:Nat}{f:FM}{ma:AM}{s s':S}{ds:List D}{d:D}{O:aD}(h:ma s=.ok (ds,s'))(hp:aI ds=true)(hl:ds.length=n)(hf:f ds []=.ok (d,O))(hd:bV d=true):lO n f ma s=.ok (d,s'):=by
 unfold lO
 rw[h,ak]
 dsimp only
 rw[if_pos ⟨hp,hl⟩,hf]
 dsimp only
 rw[if_pos hd]
theorem mU{n:Nat}{f:FM}{ma:AM}{s s' s2:S}{ds:List D}{c:Nat}{a:D}(h:ma s=.ok (ds,s'))(hp:aI ds=true)(hl:ds.length=n)(hf:f ds []=.exc c a s2):lO n f ma s=.exc c a s':=by
 unfold lO
 rw[h,ak]
 dsimp only
 rw[if_pos ⟨hp,hl⟩,hf]
def sj(c:Nat)(ma:AM):SM:=λs=>(ma s).out λx=>if x.1.length<=16777216 then .exc c .non x.2 else .bad
theorem CF{c:Nat}{E:XK}{ta:TA}{ma:AM}(hW:Wok C λ_=>E)(ha:RdA C ta ma):RdS C (A7 (C.ca c) E ta) (sj c ma):=by
 intro σ H F θ s Q b p
 refine ha σ H F θ s _ b (PoS.out p ?_)
 rintro ⟨x,s1⟩ H1 F1 θ1 _ st1 p1 b1 v r1
 dsimp only at p1 b1 r1
 split at p1
 ·rename_i hl
  exact⟨by rw[r1.length];exact hl,hW σ c _ s1 H1 F1 θ1 (p1 H1 F1 θ1 .refl b1.now) b1⟩
 ·exact False.elim p1
def pQ(mb:SM)(hs:Nat->SM):SM:=λs=>match mb s with
 | .exc c _ s1=>hs c s1
 | o=>o
theorem BK{tb:(L2.St->XK)->TS}{th:Addr->TS}{mb:SM}{hs:Nat->SM}(hb:∀(W:Wsh) (Es:L2.St->XK),Wok ⟨C.K,C.ca,W⟩ Es->RdS ⟨C.K,C.ca,W⟩ (tb Es) mb)(hh:∀c,RdS C (th (C.ca c)) (hs c)):RdS C (Gi tb th) (pQ mb hs):=by
 intro σ H F θ s Q b p
 refine hb (λc _ s1 H1 F1 θ1=>∀σ',BS C.K C.ca σ' H1 F1 θ1 s1->th (C.ca c) Q σ' H1) _ (λσ' c a s1 H1 F1 θ1 h b1=>⟨C.ca c,rfl,rfl,h σ' b1⟩) σ H F θ s Q b ?_
 unfold pQ at p
 cases e:mb s with
 | next s1=>rw[e] at p;exact p
 | ret d s1=>rw[e] at p;exact p
 | brk s1=>rw[e] at p;exact p
 | cnt s1=>rw[e] at p;exact p
 | bad=>rw[e] at p;exact p
 | exc c a s1=>
  rw[e] at p
  intro H1 F1 θ1 st n σ' b1
  exact hh c σ' H1 F1 θ1 s1 Q b1 (PoS.after st p)
def exM(sub:Nat->Option Bool)(mb mr:Nat->SM):Nat->SM:=λc=>match sub c with
 | some true=>mb c
 | some false=>mr c
 | none=>mY
def BZ:Nat->SM:=λ_=>mY
theorem yI{th:Addr->TS}(c:Nat):RdS C (th (C.ca c)) (BZ c):=λσ H F θ s Q b p=>False.elim p
theorem Dv{sub:Nat->Option Bool}{Dc:Addr}{tb th:Addr->TS}{mb mr:Nat->SM}(hs:∀c b,sub c=some b->PySem.W.exmOne C.K (.ref (C.ca c)) (.ref Dc)=some b)(hb:∀c,RdS C (tb (C.ca c)) (mb c))(hr:∀c,RdS C (th (C.ca c)) (mr c))(c:Nat):
 RdS C (tEx (λA=>PySem.W.exmOne C.K (.ref A) (.ref Dc)) tb th (C.ca c)) (exM sub mb mr c):=by
 intro σ H F θ s Q b p
 unfold exM at p
 unfold tEx
 cases e:sub c with
 | none=>rw[e] at p;exact False.elim p
 | some q=>
  dsimp only
  rw[hs c _ e]
  rw[e] at p
  cases q with
  | true=>exact hb c σ H F θ s Q b p
  | false=>exact hr c σ H F θ s Q b p
theorem BS.unset{K:PySem.W.Frag}{ca:Nat->Addr}{σ:L2.St}{H F:Hp}{θ:List Addr}{s:S}(b:BS K ca σ H F θ s)(i:Nat):BS K ca (σ.set i none) H F θ ⟨s.r.set i none,s.o⟩:=by
 refine⟨b.now,by simp[b.len],λj e hj=> ?_⟩
 by_cases hji:i=j
 ·subst hji
  have hlt:i<s.r.length:=by
   have:=(List.getElem?_eq_some_iff.mp hj).1
   simpa using this
  rw[List.getElem?_set_self hlt] at hj
  cases hj
 ·rw[List.getElem?_set_ne hji] at hj
  obtain⟨u,h1,h2⟩:=b.sl j e hj
  exact⟨u,by rw[List.getElem?_set_ne hji];exact h1,h2⟩
def asM(i:Nat)(mb:SM):Nat->SM:=λc s=>match mb ⟨s.r.set i (some (.exn c)),s.o⟩ with
 | .next s1=>.next ⟨s1.r.set i none,s1.o⟩
 | .brk s1=>.brk ⟨s1.r.set i none,s1.o⟩
 | .cnt s1=>.cnt ⟨s1.r.set i none,s1.o⟩
 | .ret d s1=>.ret d s1
 | _=>.bad
theorem DE{i:Nat}{tb:TS}{mb:SM}(hb:RdS C tb mb)(c:Nat):RdS C (tAs i tb (C.ca c)) (asM i mb c):=by
 intro σ H F θ s Q b p x hx
 obtain⟨st,b1,sF,fx⟩:=b.newF hx (exO x (C.ca c))
 have b2:=b1.set (d:=.exn c) (v:=.ref x) (by unfold Rep;exact⟨x,rfl,fx⟩) i
 refine hb _ _ _ θ _ _ b2 ?_
 unfold asM at p
 cases e:mb ⟨s.r.set i (some (.exn c)),s.o⟩ with
 | next s1=>rw[e] at p;exact λσ1 H1 F1 θ1 st1 b3=>p _ H1 F1 θ1 (st.trans st1) (b3.unset i)
 | brk s1=>rw[e] at p;exact λσ1 H1 F1 θ1 st1 b3=>p _ H1 F1 θ1 (st.trans st1) (b3.unset i)
 | cnt s1=>rw[e] at p;exact λσ1 H1 F1 θ1 st1 b3=>p _ H1 F1 θ1 (st.trans st1) (b3.unset i)
 | ret d s1=>rw[e] at p;exact λv σ1 H1 F1 θ1 st1 b3 rv=>p v σ1 H1 F1 θ1 (st.trans st1) b3 rv
 | exc c' a s1=>rw[e] at p;exact False.elim p
 | bad=>rw[e] at p;exact False.elim p
def m4(sub:Nat->Option Bool):Op1:=λ_ x=>match x with
 | .exn c=>match sub c with
  | some b=>.ok (.bl b)
  | none=>.bad
 | _=>.bad
theorem sM {sub:Nat->Option Bool} {te tc:TE} {m:EM} (h:RdE C te m) (P:Nat->Bool->Prop) (hs:∀c b,sub c=some b->P c b)
 (hc:∀(σ:L2.St) (H F:Hp) (θ:List Addr) (s:S) (Q:VK) (c:Nat) (b:Bool) (a:Addr),BS C.K C.ca σ H F θ s->F a=some (exO a (C.ca c))->P c b->PoE C σ H F θ (.ok (.bl b,s)) Q->tc σ H λy H2=>sS C.K [.ref a,y] H2 Q):
 RdE C (tCB (sS C.K) (fV te (fV tc lg))) (unM (m4 sub) m):=by
 intro σ H F θ s Q b p
 unfold unM at p
 refine h σ H F θ s _ b (PoR.bind p ?_)
 rintro ⟨x,s1⟩ H1 F1 θ1 _ st1 p1 b1 v r1
 dsimp only at p1 b1 r1
 unfold m4 at p1
 split at p1
 ·rename_i c _
  split at p1
  ·rename_i q e
   rw[ak] at p1
   obtain⟨a,rfl,hF⟩:∃a,v=.ref a/\F1 a=some (exO a (C.ca c)):=by unfold Rep at r1;exact r1
   exact hc σ H1 F1 θ1 s1 Q c q a b1 hF (hs c q e) p1
  ·exact False.elim p1
 ·exact False.elim p1
theorem FU{sub:Nat->Option Bool}{Dc:Addr}{te:TE}{m:EM}(hs:∀c b,sub c=some b->ExK C.K (C.ca c)/\PySem.W.kitOne C.K (.ref (C.ca c)) (.ref Dc)=some b)(h:RdE C te m):RdE C (tCB (sS C.K) (fV te (fV (tC (.ref Dc)) lg))) (unM (m4 sub) m):=
 sM h (λc b=>ExK C.K (C.ca c)/\PySem.W.kitOne C.K (.ref (C.ca c)) (.ref Dc)=some b) hs λσ H F θ s Q c b a bs hF hP p=>⟨a,C.ca c,b,bs.now.fh _ _ hF,hP.1,p H F θ .refl bs (.bl b) (b8.mpr rfl),.inl ⟨Dc,rfl,hP.2⟩⟩
theorem C6{sub:Nat->Option Bool}{T:String}{te:TE}{m:EM}(hs:∀c b,sub c=some b->ExK C.K (C.ca c)/\PySem.W.kitOne C.K (.ref (C.ca c)) (.type T)=some b)(h:RdE C te m):RdE C (tCB (sS C.K) (fV te (fV (tC (.ty T)) lg))) (unM (m4 sub) m):=
 sM h (λc b=>ExK C.K (C.ca c)/\PySem.W.kitOne C.K (.ref (C.ca c)) (.type T)=some b) hs λσ H F θ s Q c b a bs hF hP p=>⟨a,C.ca c,b,bs.now.fh _ _ hF,hP.1,p H F θ .refl bs (.bl b) (b8.mpr rfl),.inr (.inl ⟨T,rfl,hP.2⟩)⟩
def Af:List Addr->TA
 | []=>lg
 | D::Ds=>fV (tC (.ref D)) (Af Ds)
theorem yq:∀(Ds:List Addr) (σ:L2.St) (H:Hp) (Q:List V->Hp->Prop),Q (Ds.map V.ref) H->Af Ds σ H Q
 | [],_,_,_,q=>q
 | _::Ds,σ,H,Q,q=>yq Ds σ H _ q
theorem DP{sub:Nat->Option Bool}{Ds:List Addr}{te:TE}{m:EM}(hl:Ds.length<=1000)(hs:∀c b,sub c=some b->ExK C.K (C.ca c)/\PySem.W.kitAny C.K (.ref (C.ca c)) (Ds.map Value.ref)=some b)(h:RdE C te m):
 RdE C (tCB (sS C.K) (fV te (fV (Co (Af Ds)) lg))) (unM (m4 sub) m):=
 sM h (λc b=>ExK C.K (C.ca c)/\PySem.W.kitAny C.K (.ref (C.ca c)) (Ds.map Value.ref)=some b) hs λσ H F θ s Q c b a bs hF hP p=>yq Ds σ H _ ⟨by rw[List.length_map];exact Nat.le_trans hl (by decide),λl hlf=>by
  obtain⟨st,b1,sF,_⟩:=bs.newF hlf (.tup (Ds.map V.ref))
  exact⟨a,C.ca c,b,b1.now.fh _ _ (sF _ _ hF),hP.1,p _ _ θ st b1 (.bl b) (b8.mpr rfl),.inr (.inr ⟨l,Ds,rfl,b7,hP.2⟩)⟩⟩
end
theorem bf{P:Program}{w:World}{X:Cx}:Passes (CXE P w) X E0:=λ_ _ _ _ _ _ _ ⟨_,_,_,_,_,_,_,_,_,z⟩=>z.elim
end M
set_option maxRecDepth 100000
set_option maxHeartbeats 4000000
namespace M
open PySem PySem.Spec PyProof.Rows L2
section
variable {C : Ct}
def rD(f:Op2)(mo mi me:EM):SM:=λs=>(mo s).out λx=>(mi x.2).out λy=>match y.1 with
 | .int i=>if 0<=i then (match jd y.2.o x.1 with
  | some (_,ds)=>match ds[i.toNat]? with
   | some z=>(me y.2).out λw=>(f w.2.o z w.1).out λd=>match jd w.2.o x.1 with
    | some (k,es)=>match ixN es.length i with
     | some j=>.next ⟨w.2.r,w.2.o.set k (.lst (es.set j d))⟩
     | none=>.bad
    | none=>.bad
   | none=>.bad
  | none=>.bad) else .bad
 | _=>.bad
theorem E5{to ti te:TE}{tip:TIp}{f:Op2}{mo mi me:EM}(hf:fS C tip f)(ho:RdE C to mo)(hi:RdE C ti mi)(he:RdE C te me):RdS C (Df to ti te (Dh C.K) tip vx) (rD f mo mi me):=by
 intro σ H F θ s Q b p
 refine ho σ H F θ s _ b (PoS.out p ?_)
 rintro ⟨x,s1⟩ H1 F1 θ1 _ st1 p1 b1 ov r1
 dsimp only at p1 b1 r1
 refine hi σ H1 F1 θ1 s1 _ b1 (PoS.out p1 ?_)
 rintro ⟨y,s2⟩ H2 F2 θ2 _ st2 p2 b2 iv r2
 dsimp only at p2 b2 r2
 split at p2
 ·rename_i i _
  split at p2
  ·rename_i h0
   split at p2
   ·rename_i k ds e
    obtain⟨ek,e'⟩:=mB e
    subst ek
    obtain⟨a,xs,rfl,hk,hF,g1,g2⟩:=ke b2 (r1.mono st2.ff st2.pre) e'
    split at p2
    ·rename_i z ez
     obtain⟨zv,ezv,rz⟩:=g2.get ez
     refine⟨a,xs,i,zv,rfl,aW.mp r2,h0,.of g1,ezv, ?_⟩
     refine he σ H2 F2 θ2 s2 _ b2 (PoS.out p2 ?_)
     rintro ⟨w,s3⟩ H3 F3 θ3 _ st3 p3 b3 wv r3
     dsimp only at p3 b3 r3
     have p3':PoR C H3 F3 θ3 ((f s3.o z w).bind λd=>.ok (d,s3)) λy H4 F4 θ4=>BS C.K C.ca σ H4 F4 θ4 y.2->∀v,Rep C.K C.ca θ4 F4 y.1 v->vx (.ref a) iv v H4 λH5=>Q.nx σ H5:=by
      cases ef:f s3.o z w with
      | bad=>rw[ef] at p3;exact False.elim p3
      | exc c q o=>rw[ef] at p3;exact p3
      | ok d=>
       rw[ef,iD] at p3
       rw[ak]
       intro H4 F4 θ4 st4 b4 v rv
       dsimp only at b4 rv
       have p4:=PoS.after st4 p3
       split at p4
       ·rename_i k2 es e2
        obtain⟨ek2,e2'⟩:=mB e2
        cases ek2
        have rk:Rep C.K C.ca θ4 F4 (.ptr k) (.ref a):=by
         have q:Rep C.K C.ca θ2 F2 (.ptr k) (.ref a):=by unfold Rep;exact⟨a,rfl,hk⟩
         exact(q.mono st3.ff st3.pre).mono st4.ff st4.pre
        obtain⟨a',ys,ea,hk',hF',q1,q2⟩:=ke b4 rk e2'
        cases ea
        split at p4
        ·rename_i j ej
         obtain⟨st5,b5⟩:=b4.setC hk' e2' hF' (aB.set rv j q2)
         exact⟨a,ys,i,j,rfl,aW.mp r2,q1,by rw[q2.length];exact ej,p4 _ _ _ _ st5 b5⟩
        ·exact False.elim p4
       ·exact False.elim p4
     exact hf σ H3 F3 θ3 s3 z w zv wv _ b3 (rz.mono st3.ff st3.pre) r3 p3'
    ·exact False.elim p2
   ·exact False.elim p2
  ·exact False.elim p2
 ·exact False.elim p2
end
end M
set_option maxRecDepth 100000
set_option maxHeartbeats 4000000
namespace M
open PySem PySem.Spec PyProof.Rows L2
section
variable {C : Ct}
end
end M
set_option maxRecDepth 100000
set_option maxHeartbeats 4000000
namespace M
open PySem PySem.Spec PyProof.Rows L2
section
variable {C : Ct}
theorem CG{K:PySem.W.Frag}{H H':Hp}{a:Addr}{xs:List V}(e:bE H H')(h:SqL K H a xs):SqL K H' a xs:=by
 rcases h with(h | ⟨o,h⟩) | h
 ·exact .inl (.inl (e _ _ h))
 ·exact .inl (.inr ⟨o,e _ _ h⟩)
 ·exact .inr h
end
end M
set_option maxRecDepth 100000
set_option maxHeartbeats 4000000
namespace M
open PySem PySem.Spec PyProof.Rows L2
section
variable {C : Ct}
end
end M
set_option maxRecDepth 100000
set_option maxHeartbeats 1000000
namespace M
open PySem PySem.Spec PyProof.Rows L2
section
variable {C : Ct}
def kK:List D->Option (List Int)
 | []=>some []
 | .int i::r=>match kK r with
  | some l=>some (i::l)
  | none=>none
 | _=>none
theorem uk:∀{ds:List D} {ns:List Int},kK ds=some ns->ds=ns.map D.int
 | [],ns,h=>by cases h;rfl
 | d::ds,ns,h=>by
  cases d <;> first | (simp[kK] at h;done) | skip
  rename_i i
  unfold kK at h
  split at h
  ·rename_i l e
   cases h
   rw[uk e];rfl
  ·cases h
theorem rT:∀ns:List Int,kK (ns.map D.int)=some ns
 | []=>rfl
 | n::ns=>by
  rw[List.map_cons]
  unfold kK
  rw[rT ns]
end
end M
set_option maxRecDepth 100000
set_option maxHeartbeats 4000000
namespace M
open PySem PySem.Spec PyProof.Rows L2
section
variable {C : Ct}
end
end M
set_option maxRecDepth 100000
set_option maxHeartbeats 4000000
namespace M
open PySem PySem.Spec PyProof.Rows L2
section
variable {C : Ct}
end
end M
set_option maxRecDepth 100000
set_option maxHeartbeats 1000000
namespace M
open PySem PySem.Spec PyProof.Rows L2
section
variable {C : Ct}
def nE(mo me:EM):EM:=λs=>(mo s).bind λx=>match x.1 with
 | .lst ds=>match kK ds with
  | some ns=>(me x.2).bind λy=>match y.1 with
   | .int c=>(if ns.idxOf c<ns.length then Res.ok (.int (ns.idxOf c:Nat)) else .bad).bind λd=>.ok (d,y.2)
   | _=>.bad
  | none=>.bad
 | _=>.bad
theorem A8{to te:TE}{mo me:EM}(ho:RdE C to mo)(he:RdE C te me):RdE C (tBM C.K "list" (yJ C.K) to (fV te lg)) (nE mo me):=by
 intro σ H F θ s Q b p
 refine ho σ H F θ s _ b (PoR.bind p ?_)
 rintro ⟨x,s1⟩ H1 F1 θ1 _ st1 p1 b1 v r1
 dsimp only at p1 b1 r1
 split at p1
 ·rename_i ds _
  split at p1
  ·rename_i ns e
   rw[uk e] at r1
   unfold Rep at r1
   obtain⟨a,xs,rfl,hs,hx⟩:=r1
   rw[oA hx] at hs
   refine⟨.inl ⟨rfl,_,b1.now.fh.seq hs⟩,he σ H1 F1 θ1 s1 _ b1 (PoR.bind p1 ?_)⟩
   rintro ⟨y,s2⟩ H2 F2 θ2 _ st2 p2 b2 w r2
   dsimp only at p2 b2 r2
   split at p2
   ·rename_i c _
    cases aW.mp r2
    split at p2
    ·rename_i hi
     exact⟨a,ns,c,rfl,rfl,b2.now.fh.seq (CG st2.ff hs),hi,cP p2 b2 (aW.mpr rfl)⟩
    ·exact False.elim p2
   ·exact False.elim p2
  ·exact False.elim p1
 ·exact False.elim p1
theorem Cv{mo me:EM}{s s1 s2:S}{ns:List Int}{c:Int}(h1:mo s=.ok (.lst (ns.map D.int),s1))(h2:me s1=.ok (.int c,s2))(hi:c∈ns):nE mo me s=.ok (.int (ns.idxOf c:Nat),s2):=by
 unfold nE
 rw[h1]
 show (match kK (ns.map D.int) with | some ns=>_ | none=>_)=_
 rw[rT]
 show (me s1).bind _=_
 rw[h2]
 show (if ns.idxOf c<ns.length then Res.ok (D.int (ns.idxOf c:Nat)) else Res.bad).bind _=_
 rw[if_pos (List.idxOf_lt_length_of_mem hi)]
 rfl
end
end M
set_option maxRecDepth 100000
set_option maxHeartbeats 4000000
namespace L2
open PySem PySem.Spec PyProof.Rows
structure fE(k:Nat)(A:Around):Prop where
 dp:A.depth+3*k+5<recursionLimit
 un:A.units+16*k+200<cLine
theorem cG.h{k:Nat}{A:Around}(r:cG k A)(v:Option Value):fE k (A.mark v):=⟨r.dp,r.un⟩
theorem fE.mono{j k:Nat}{A:Around}(r:fE k A)(h:j<=k):fE j A:=⟨by have:=r.dp;omega,by have:=r.un;omega⟩
theorem fE.deeper{k:Nat}{A:Around}(r:fE (k+1) A)(env:Env):fE k (A.deeper env):=
 ⟨by have:=r.dp;show A.depth+1+3*k+5<_;omega,by have:=r.un;show A.units+3+16*k+200<_;omega⟩
theorem fE.depth{k:Nat}{A:Around}(r:fE k A):A.depth<recursionLimit:=by have:=r.dp;omega
theorem fE.units{k:Nat}{A:Around}(r:fE k A):A.units+64<cLine:=by have:=r.un;omega
structure pZ(P:Program)(w:World)(K:PySem.W.Frag)(mg:Str->Option Value)(base:Heap)(CX:CXT)(k:Nat)(f:Addr)(fd:FuncData)(ps:List Str)(sp:Sp):Prop where
 len:∀vs H Q E,sp vs H Q E->vs.length=ps.length
 run:∀(A:Around) (outer:List Env) (s:Shared) (H:Hp) (args:Args) (us:List Value) (vs:List V) (Q:VK) (E:XK),fE k A->ko P w K mg base A outer s H->BindsTo s fd args (ps.zip us)->Vals vs us->sp vs H Q E->
  codeAny (model P w) A (.call (.ref f) args) (CR CX outer P w H s Q E) s
abbrev qa(CX:CXT)(P:Program)(w:World)(K:PySem.W.Frag)(mg:Str->Option Value)(base:Heap)(N:List Str)(qual:Str)(scope:Scope)(f:Addr)(cd:Value)(A:Around)(outer:List Env)(s:Shared)(H:Hp)(E:XK):Cx:=
 {kx CX P w K mg base N qual scope f cd A outer s H E with calm:=false}
theorem zM {CX:CXT} {P:Program} {w:World} {K:PySem.W.Frag} {mg:Str->Option Value} {base:Heap} {N ps:List Str} {qual:Str} {scope:Scope} {f:Addr} {cd:Value} {A:Around} {outer:List Env} {s s1:Shared} {H:Hp} {E:XK} {us:List Value} {vs:List V}
 (S:bc N ps scope) (e0:ko P w K mg base A outer s H) (hl:vs.length=ps.length) (r:Vals vs us)
 (x:InCallC s s.heap.objs.size (bindL (envOfC qual scope s.heap.objs.size f cd).kindOf (ps.zip us) λ_=>none) (cellsFrom (s.heap.objs.size+1) scope.names []) (bindC (envOfC qual scope s.heap.objs.size f cd).kindOf (ps.zip us) λ_=>none) s1):
 Inv (qa CX P w K mg base N qual scope f cd A outer s H E) [] (start N vs) H s1:=by
 have I:=ug (CX:=CX) (E:=E) (A:={A with handled:=none}) S rfl (⟨e0.frames,e0.mod,e0.bs,e0.bsz,e0.funs,e0.frf,e0.hok,e0.bare⟩:ko P w K mg base {A with handled:=none} outer s H) hl r x
 exact⟨⟨I.ok.mod,I.ok.kind,I.ok.glob,I.ok.blt,I.ok.above,I.ok.inj,I.ok.has,I.ok.cab,(λz=>nomatch z),I.ok.frames,I.ok.stk,I.ok.exf,I.ok.bs,I.ok.bsz,I.ok.noex,I.ok.exfs,I.ok.funs,I.ok.frf⟩,I.os,I.bare,I.base,I.loc,I.cell,I.free,I.freeC,I.pin,I.hok,I.len⟩
theorem Fx {CX:CXT} {P:Program} {w:World} {K:PySem.W.Frag} {mg:Str->Option Value} {base:Heap} {k:Nat} {f:Addr} {name qual:Str} {params:Arguments} {body:List Stmt} {scope:Scope} {dV kV doc pm cdv ct oc:Value} {an od:Option Addr}
 {osl:Array (Option Value)} {N ps:List Str} {sp:Sp} (lk:K.lookup f=some ⟨oc,od,.func (PySem.W.fnOf name qual params body scope dV kV doc pm an cdv ct),osl⟩) (hcd:PySem.W.codeIn K cdv qual=true) (S:bc N ps scope)
 (len:∀vs H Q E,sp vs H Q E->vs.length=ps.length)
 (hbody:∀(A:Around) (outer:List Env) (s:Shared) (H:Hp) (vs:List V) (Q:VK) (E:XK),fE k (A.deeper (envOfC qual scope s.heap.objs.size f cdv))->sp vs H Q E->
  ∃t,PSs (qa CX P w K mg base N qual scope f cdv A outer s H E) body t/\t {nx:=λ_ H'=>Q .non H',rt:=Q} (start N vs) H):
 pZ P w K mg base CX (k+1) f (PySem.W.fnOf name qual params body scope dV kV doc pm an cdv ct) ps sp:=by
 refine⟨len,λA outer s H args us vs Q E hr e0 hb r hsp=> ?_⟩
 have hl:=len _ _ _ _ hsp
 have KX:K.In s.heap:=e0.mod.kin.keeps λb o e=>(e0.bs b o e).1
 have lim:s.heap.NoLimit:=e0.mod.nolimit.keeps λb o e=>(e0.bs b o e).1
 have hkind:∀y∈ps.zip us,scope.names.lookup y.1=some .local\/(scope.names.lookup y.1=some .cell/\((cellsFrom (s.heap.objs.size+1) scope.names []).lookup y.1).isSome=true):=λ⟨n,v⟩ hy=>by
  rcases S.par n (List.of_mem_zip hy).1 with q | q
  ·exact .inl q
  ·exact .inr ⟨q,PySem.W.cellsFrom_some _ _ _ (.inl q)⟩
 refine codeAny_call_function hr.depth (KX _ _ lk) rfl S.co S.gen rfl (PySem.W.codeRec_of KX hcd) (hb _ _ _ _ ?_)
 refine wpAny_newFunctionEnv_cells S.kind hkind λenv he s1 x=> ?_
 subst he
 refine⟨lim.keeps x.toInCall.keep,codeAny_func ?_⟩
 obtain⟨t,ht,hq⟩:=hbody A outer s H vs Q E (hr.deeper _) hsp
 have I:Inv (qa CX P w K mg base N qual scope f cdv A outer s H E) [] (start N vs) H s1:=zM S e0 hl r x
 refine wpAny_mono (ht [] s1 (start N vs) H _ I hq) (λfl s' hs=> ?_) λe s' hs=>hs
 have fin:∀{σ':St} {H':Hp} {v:V} {u:Value},Inv (qa CX P w K mg base N qual scope f cdv A outer s H E) [] σ' H' s'->RelV v u->Q v H'->CE outer P w H s Q u s':=
  λ{σ' H' v u} J rv q=>⟨v,H',J.os,J.bare,J.base,J.hok,rv,q⟩
 cases fl with
 | ret u=>
  obtain⟨v,σ',H',J,rv,q⟩:=hs
  exact fin J rv q
 | next=>
  obtain⟨σ',H',J,q⟩:=hs
  exact fin (v:=V.non) (u:=Value.none) J rfl q
 | brk=>
  obtain⟨_,_,_,q⟩:=hs
  exact False.elim q
 | cont=>
  obtain⟨_,_,_,q⟩:=hs
  exact False.elim q
section
variable {X : Cx} {CX : CXT} {k : Nat} {f C : Addr} {fd : FuncData} {ps : List Str} {sp : Sp} {dvs : List V} {ds : List Value} {E : XK} {x m : Str} {p pos apos : Pos} {e o : Expr} {es : List Expr} {ta : TE} {t : TA}
theorem D5 {pins:List (Addr×Obj)} {σ:St} {H:Hp} {s:Shared} {Q:VK} {us:List Value} {vs:List V} (F:pZ X.prog X.w X.K X.mg X.base CX k f fd ps sp) (hr:fE k X.A) (hb:Binds X.K fd ps ds) (hd:Vals dvs ds) (hx:Passes CX X E)
 (I:Inv X pins σ H s) (r:Vals vs us) (h:sp (vs++dvs) H Q E):wpAny (model X.prog X.w) X.A (call (.ref f) us) (EP X pins σ Q) X.xe s:=by
 have r2:Vals (vs++dvs) (us++ds):=r.append hd
 have hl:(us++ds).length=ps.length:=by rw[<- r2.length];exact F.len _ _ _ _ h
 refine wpAny_call (codeAny_mono (F.run X.A X.stack s H ⟨us,[]⟩ (us++ds) (vs++dvs) Q E hr I.env0 (hb s us I.kIn hl) r2 h) λr s' hq=> ?_)
 cases r with
 | error e=>exact hx pins σ H s e s' I hq
 | ok fl=>
  cases fl with
  | ret u=>exact I.after hq
  | next=>exact False.elim hq
  | brk=>exact False.elim hq
  | cont=>exact False.elim hq
theorem vO (F:pZ X.prog X.w X.K X.mg X.base CX k f fd ps sp) (hr:fE k X.A) (hg:Gl X x) (hm:X.mg x=some (.ref f)) (hk:PySem.W.keepIn X.K (.ref f)=true) (hb:Binds X.K fd ps ds) (hd:Vals dvs ds) (hx:Passes CX X E)
 (ha:PA X (e::es) t) (hdb:(x == ("__debug__" :Str))=false:=by decide) (he:starEach (e::es) X.env=(false,eval e X.env)::starEach es X.env:=by rfl) (hpl:(backTo pos (starEach es X.env)).any (·.1)=false:=by rfl):
 PE X (.Call (.Name x p) (e::es) [] pos) (sk sp dvs E t):=by
 intro pins s σ H Q I h
 refine wpAny_Call_Name_kw (kA I hg hm ?_ hdb)
 refine PySem.W.callWith_K (h₀:=X.base) I.ok.mod.kin hk (thn (ha pos pins s σ H _ I h) λus s1 ⟨vs,H1,I1,r,q⟩=>⟨I1.kIn, ?_⟩) he hpl
 exact D5 F hr hb hd hx I1 r q
end
section
variable {P : Program} {w : World} {K : PySem.W.Frag} {mg : Str → Option Value} {base : Heap}
theorem Fun.okH {CX:CXT} {x qual:Str} {st:Stmt} {f:Addr} {fd:FuncData} {N ps:List Str} {k:Nat} {sp:Sp} (F:Fun K x qual st f fd) (S:bc N ps (aE st)) (len:∀vs H Q E,sp vs H Q E->vs.length=ps.length)
 (hb:∀(cdv:Value) (A:Around) (outer:List Env) (s:Shared) (H:Hp) (vs:List V) (Q:VK) (E:XK),fE k (A.deeper (envOfC qual (aE st) s.heap.objs.size f cdv))->sp vs H Q E->
  ∃t,PSs (qa CX P w K mg base N qual (aE st) f cdv A outer s H E) (ba st) t/\t {nx:=λ_ H'=>Q .non H',rt:=Q} (start N vs) H):pZ P w K mg base CX (k+1) f fd ps sp:=by
 obtain⟨oc,od,kV,doc,pm,an,cdv,ct,osl,rfl,look,hcd⟩:=F.ex
 exact Fx look hcd S len (hb cdv)
end
end L2
namespace M
open PySem PySem.Spec PyProof.Rows L2
theorem DZ {P:Program} {w:World} {K:PySem.W.Frag} {mg:Str->Option Value} {base:Heap} {ca:Nat->Addr} {x qual:Str} {st:Stmt} {f:Addr} {fd:FuncData} {N ps:List Str} {k n:Nat} {m:SM}
 (F:Fun K x qual st f fd) (S:bc N ps (aE st)) (hn:N.length=n)
 (hm:∀(cdv:Value) (A:Around) (outer:List Env) (s:Shared) (H:Hp) (E:XK),fE k (A.deeper (envOfC qual (aE st) s.heap.objs.size f cdv))->
  ∃t,PSs (qa (CXE P w) P w K mg base N qual (aE st) f cdv A outer s H E).nox (ba st) t/\RdS ⟨K,ca,W0⟩ t m):
 pZ P w K mg base (CXE P w) (k+1) f fd ps (spM K ca ps.length (runM n m)):=by
 refine F.okH S (λvs H Q E h=> ?_) (λcdv A outer s H vs Q E hr h=> ?_)
 ·obtain⟨F,θ,ds,O,_,r,hl,_⟩:=h
  rw[r.length,hl]
 ·obtain⟨F,θ,ds,O,now,r,hl,q⟩:=h
  obtain⟨t,ht,rd⟩:=hm cdv A outer s H E hr
  refine⟨t,ht.nox,rd _ H F θ _ _ (qW now r) ?_⟩
  subst hn
  unfold runM at q
  cases e:m ⟨ds.map some++List.replicate (N.length-ds.length) none,O⟩ with
  | next s1=>rw[e] at q;exact λσ1 H1 F1 θ1 st b=>q .non H1 F1 θ1 st b.now (gj.mpr rfl)
  | ret d s1=>rw[e] at q;exact λv σ1 H1 F1 θ1 st b rv=>q v H1 F1 θ1 st b.now rv
  | exc c a o=>rw[e] at q;exact False.elim q
  | brk s1=>rw[e] at q;exact False.elim q
  | cnt s1=>rw[e] at q;exact False.elim q
  | bad=>rw[e] at q;exact False.elim q
def rm(P:Program)(w:World)(K:PySem.W.Frag)(mg:Str->Option Value)(base:Heap)(ca:Nat->Addr)(lv:Nat)(x:Str)(ps:List Str)(f:FM)(a:Addr)(fd:FuncData):Prop:=
 pZ P w K mg base (CXE P w) lv a fd ps (spM K ca ps.length f)/\mg x=some (.ref a)/\PySem.W.keepIn K (.ref a)=true/\Binds K fd ps []
def vz(P:Program)(w:World)(K:PySem.W.Frag)(mg:Str->Option Value)(base:Heap)(ca:Nat->Addr)(lv:Nat)(x:Str)(ps:List Str)(f:FM):Prop:=∃a fd,rm P w K mg base ca lv x ps f a fd
theorem rm.in{P:Program}{w:World}{K:PySem.W.Frag}{mg:Str->Option Value}{base:Heap}{ca:Nat->Addr}{lv:Nat}{x:Str}{ps:List Str}{f:FM}{a:Addr}{fd:FuncData}(h:rm P w K mg base ca lv x ps f a fd):vz P w K mg base ca lv x ps f:=⟨a,fd,h⟩
end M
set_option maxRecDepth 100000
set_option maxHeartbeats 4000000
namespace M
open PySem PySem.Spec PyProof.Rows L2
@[simp] theorem Ip (ds:List D) (O:aD):okC ds none O=True:=rfl
@[simp] theorem Im (ds:List D) (k:Nat) (O:aD):okC ds (some k) O=(O[k]? =some (.lst ds)):=rfl
theorem yM{n:Nat}{i:Int}(h:i.natAbs<2^n):Builtin.Int.intBits i<=n:=by
 unfold Builtin.Int.intBits
 split
 ·exact Nat.zero_le _
 ·rename_i h0
  have hp:i.natAbs≠0:=by
   intro z
   apply h0
   simpa using z
  have:=(Nat.log2_lt hp).mpr h
  omega
def Sz(n:Nat)(i:Int):Prop:=i.natAbs<2^n
theorem Sz.mono{m n:Nat}{i:Int}(h:Sz m i)(hmn:m<=n):Sz n i:=Nat.lt_of_lt_of_le h (Nat.pow_le_pow_right (by decide) hmn)
theorem Ay{m n:Nat}(hm:m<=60000000)(hn:n<=60000000){i j:Int}(h:Sz m i)(h':Sz n j):IntMulOk i j:=by
 have h1:=yM h
 have h2:=yM h'
 have e:Builtin.Int.intTooBig (Builtin.Int.intBits i+Builtin.Int.intBits j)=false:=by
  unfold Builtin.Int.intTooBig
  rw[bitsLine_eq]
  exact decide_eq_false (by omega)
 unfold IntMulOk
 rw[e]
 simp
theorem cW{i j:Int}(h:i.natAbs<2^64\/j.natAbs<2^64):IntMulOk i j:=by
 rcases h with h | h
 ·exact .of_left (intBits_le_64 (by omega) (by omega))
 ·exact .of_right (intBits_le_64 (by omega) (by omega))
theorem Sz.mul{m n:Nat}{i j:Int}(h:Sz m i)(h':Sz n j):Sz (m+n) (i*j):=by
 unfold Sz at *
 rw[Int.natAbs_mul,Nat.pow_add]
 exact Nat.mul_lt_mul'' h h'
theorem Sz.add{m n:Nat}{i j:Int}(h:Sz m i)(h':Sz n j):Sz (max m n+1) (i+j):=by
 unfold Sz at *
 have h1:=Nat.lt_of_lt_of_le h (Nat.pow_le_pow_right (by decide) (Nat.le_max_left m n))
 have h2:=Nat.lt_of_lt_of_le h' (Nat.pow_le_pow_right (by decide) (Nat.le_max_right m n))
 have h3:(i+j).natAbs<=i.natAbs+j.natAbs:=Int.natAbs_add_le i j
 rw[Nat.pow_succ]
 omega
theorem wI{i j:Int}(h:0<j):i.fdiv j=i/j:=Int.fdiv_eq_ediv_of_nonneg i (Int.le_of_lt h)
theorem BO{i j:Int}(h:0<j):i.fmod j=i%j:=Int.fmod_eq_emod_of_nonneg i (Int.le_of_lt h)
section
variable {O : aD}
@[simp] theorem iC (i j:Int):eY O (.int i) (.int j)=.ok (.int (i-j)):=rfl
@[simp] theorem bU (i j:Int):bu O (.int i) (.int j)=.ok (.int (i+j)):=rfl
@[simp] theorem Cb (i j:Int):zr O (.int i) (.int j)=.ok (.int (i+j)):=rfl
@[simp] theorem yA (i j:Int):ltD O (.int i) (.int j)=.ok (.bl (decide (i<j))):=rfl
@[simp] theorem IQ (i j:Int):leD O (.int i) (.int j)=.ok (.bl (decide (i<=j))):=rfl
@[simp] theorem yk (i j:Int):gtD O (.int i) (.int j)=.ok (.bl (decide (j<i))):=rfl
@[simp] theorem Jj (i j:Int):geD O (.int i) (.int j)=.ok (.bl (decide (j<=i))):=rfl
@[simp] theorem rl (i:Int):mZ O (.int i)=.ok (.int (-i)):=rfl
@[simp] theorem nq (i j:Int):eqD O (.int i) (.int j)=.ok (.bl (decide (i=j))):=rfl
@[simp] theorem tN (i j:Int):neD O (.int i) (.int j)=.ok (.bl (!decide (i=j))):=rfl
@[simp] theorem tG (i j:Str):eqD O (.str i) (.str j)=.ok (.bl (decide (i=j))):=rfl
@[simp] theorem Jr (i j:Str):neD O (.str i) (.str j)=.ok (.bl (!decide (i=j))):=rfl
@[simp] theorem GU (i j:Bool):eqD O (.bl i) (.bl j)=.ok (.bl (decide (i=j))):=rfl
@[simp] theorem JA (i j:Bool):neD O (.bl i) (.bl j)=.ok (.bl (!decide (i=j))):=rfl
theorem cQ{i j:Int}(h:IntMulOk i j):ck O (.int i) (.int j)=.ok (.int (i*j)):=if_pos h
theorem tT{i j:Int}(h:j≠0):gA O (.int i) (.int j)=.ok (.int (i.fdiv j)):=if_pos h
theorem qr{i:Int}{j:Int}(h:0<j)(h2:j<1073741824):gA O (.int i) (.int j)=.ok (.int (i/j)):=by
 rw[tT (by omega),wI h]
theorem dg{i j:Int}(h:0<j):dh O (.int i) (.int j)=.ok (.int (i%j)):=by
 rw[<- BO h];exact if_pos (by omega)
theorem mG{i j:Int}(h:0<=j)(h2:j<=1000000)(h3:i.natAbs<2^64):eN O (.int i) (.int j)=.ok (.int (i^j.toNat)):=if_pos ⟨h,h2,h3⟩
@[simp] theorem Iy (i:Int):IE O [.int i]=.ok (.int (i.natAbs:Int)):=by
 show Res.ok (D.int (if i<0 then -i else i))=_
 congr 2
 split <;> omega
@[simp] theorem fQ (ds:List D):dA O [.lst ds]=.ok (.int ds.length):=rfl
@[simp] theorem Iu (ds:List D):dA O [.tup ds]=.ok (.int ds.length):=rfl
theorem xb{x:Str}(h:x.length<=16777216):dA O [.str x]=.ok (.int x.length):=if_pos h
@[simp] theorem iw (ds:List D):ig O [.lst ds]=.ok (.lst ds):=rfl
@[simp] theorem HJ (ds:List D):ig O [.tup ds]=.ok (.lst ds):=rfl
@[simp] theorem HW (i:Int):intOf O [.int i]=.ok (.int i):=rfl
@[simp] theorem oJ (b:Bool):intOf O [.bl b]=.ok (.int (if b then 1 else 0)):=rfl
@[simp] theorem yx (c:String) (i:Int):jx c O (.int i)=.ok (.bl (d5 "int" c)):=rfl
@[simp] theorem Fo (c:String) (i:Bool):jx c O (.bl i)=.ok (.bl (d5 "bool" c)):=rfl
@[simp] theorem I0 (c:String) (i:Str):jx c O (.str i)=.ok (.bl (d5 "str" c)):=rfl
@[simp] theorem Jf (c:String) (i:List D):jx c O (.lst i)=.ok (.bl (d5 "list" c)):=rfl
@[simp] theorem Jc (c:String) (i:List D):jx c O (.tup i)=.ok (.bl (d5 "tuple" c)):=rfl
@[simp] theorem Jq (c:String):jx c O .non=.ok (.bl (d5 "NoneType" c)):=rfl
@[simp] theorem Jy:d5 "int" "int" =true:=by decide
@[simp] theorem Ju:d5 "int" "bool" =false:=by decide
@[simp] theorem JL:d5 "bool" "bool" =true:=by decide
@[simp] theorem JI:d5 "bool" "int" =true:=by decide
@[simp] theorem Jz:d5 "list" "list" =true:=by decide
@[simp] theorem sub_tt:d5 "tuple" "tuple" =true:=by decide
@[simp] theorem sub_lt:d5 "list" "tuple" =false:=by decide
@[simp] theorem Jv:d5 "tuple" "list" =false:=by decide
@[simp] theorem JK:d5 "str" "int" =false:=by decide
@[simp] theorem JG:d5 "NoneType" "int" =false:=by decide
theorem ny{ds:List D}{i:Int}{d:D}(h:atI ds i=some d):ixD O (.lst ds) (.int i)=.ok d:=by
 show (match lsD O (D.lst ds) with
  | some ds=>match atI ds i with
   | some d=>Res.ok d
   | none=>.bad
  | none=>.bad)=_
 rw[nK]
 dsimp only
 rw[h]
theorem yH{ds:List D}{i:Int}{d:D}(h:atI ds i=some d):ixD O (.tup ds) (.int i)=.ok d:=by
 show (
  match atI ds i with
  | some d=>Res.ok d
  | none=>.bad)=_
 rw[h]
theorem lS{α:Type}{l:List α}{i:Int}(h0:0<=i)(h1:i<l.length):atI l i=some (l[i.toNat]'(by omega)):=by
 unfold atI ixN
 rw[if_pos h0,if_pos h1]
 show l[i.toNat]? =_
 exact List.getElem?_eq_getElem _
theorem lD:∀ns:List Int,gB (ns.map D.int)=some (ns.map PyData.int)
 | []=>by simp[gB]
 | n::ns=>by simp[gB,toPy,lD ns]
theorem kW:∀ns:List Int,bH O (ns.map D.int)=ns.map D.int
 | []=>by simp[bH]
 | n::ns=>by simp[bH,res,kW ns]
theorem kJ:∀ns:List Int,PyData.canLayAll0 (ns.map PyData.int)=true
 | []=>by simp[PyData.canLayAll0]
 | n::ns=>by simp[PyData.canLayAll0,PyData.canLay0,kJ ns]
theorem lJ:∀ns:List Int,PyData.depthAll (ns.map PyData.int)=0
 | []=>by simp[PyData.depthAll]
 | n::ns=>by simp[PyData.depthAll,PyData.depth,lJ ns]
theorem shaped_ints(ns:List Int):SeqAt.shaped (.list (ns.map PyData.int))=true:=by
 simp[SeqAt.shaped,PyData.canLay0,kJ,PyData.depth,lJ]
theorem n8:∀ns ms:List Int,PyData.eqvAll (ns.map PyData.int) (ms.map PyData.int)=decide (ns=ms)
 | [],[]=>by simp[PyData.eqvAll]
 | [],_::_=>by simp[PyData.eqvAll]
 | _::_,[]=>by simp[PyData.eqvAll]
 | a::r,b::t=>by
  simp only[List.map_cons,PyData.eqvAll,PyData.eqv,n8 r t]
  by_cases h:a=b <;> by_cases h':r=t <;> simp[h,h']
theorem wx(ns ms:List Int):eqB O (.lst (ns.map D.int)) (.lst (ms.map D.int))=some (decide (ns=ms)):=by
 show gK O _ _=_
 unfold gK
 simp only[res,kW,toPy,lD,Option.map_some]
 rw[if_pos ⟨shaped_ints ns,shaped_ints ms⟩]
 simp only[PyData.eqv,n8]
@[simp] theorem Iv (ns ms:List Int):eqD O (.lst (ns.map D.int)) (.lst (ms.map D.int))=.ok (.bl (decide (ns=ms))):=by unfold eqD;rw[wx]
@[simp] theorem IA (ns ms:List Int):neD O (.lst (ns.map D.int)) (.lst (ms.map D.int))=.ok (.bl (!decide (ns=ms))):=by unfold neD;rw[wx]
theorem pH:∀ns:List Int,aI (ns.map D.int)=true
 | []=>by simp[aI]
 | n::ns=>by simp[aI,bV,pH ns]
@[simp] theorem Hr (ns:List Int):bV (.lst (ns.map D.int))=true:=by simp[bV,pH]
end
end M
set_option maxRecDepth 100000
set_option maxHeartbeats 4000000
namespace M
open PySem PySem.Spec PyProof.Rows L2
theorem fP{n:Nat}{m:SM}{ds:List D}{O:aD}{d:D}{s:S}(h:m ⟨ds.map some++List.replicate (n-ds.length) none,O⟩=.ret d s):runM n m ds O=.ok (d,s.o):=by
 unfold runM;rw[h]
def dj(ns:List Int):Nat:=ns.foldl (λc n=>Nat.gcd c n.natAbs) 0
theorem oP:∀(ns:List Int) (c:Nat),ns.foldl (λc n=>Nat.gcd c n.natAbs) c ∣ c/\∀n∈ns,ns.foldl (λc n=>Nat.gcd c n.natAbs) c ∣ n.natAbs
 | [],c=>⟨Nat.dvd_refl _,by simp⟩
 | m::ns,c=>by
  obtain⟨h1,h2⟩:=oP ns (Nat.gcd c m.natAbs)
  rw[List.foldl_cons]
  refine⟨Nat.dvd_trans h1 (Nat.gcd_dvd_left _ _),λn hn=> ?_⟩
  rcases List.mem_cons.mp hn with rfl | hn
  ·exact Nat.dvd_trans h1 (Nat.gcd_dvd_right _ _)
  ·exact h2 n hn
theorem xc{ns:List Int}{n:Int}(h:n∈ns):((dj ns:Nat):Int) ∣ n:=Int.natAbs_dvd_natAbs.mp (by rw[Int.natAbs_natCast];exact(oP ns 0).2 n h)
theorem oQ(g:Nat)(hg:0<g):∀(ns:List Int) (c:Nat),g ∣ c->(∀n∈ns,(g:Int) ∣ n)->
 (ns.map (· / (g:Int))).foldl (λc n=>Nat.gcd c n.natAbs) (c/g)=ns.foldl (λc n=>Nat.gcd c n.natAbs) c/g
 | [],c,_,_=>rfl
 | m::ns,c,hc,h=>by
  have hm:g ∣ m.natAbs:=by
   have:=Int.natAbs_dvd_natAbs.mpr (h m List.mem_cons_self)
   rwa [Int.natAbs_natCast] at this
  have e:(m/(g:Int)).natAbs=m.natAbs/g:=by
   obtain⟨k,rfl⟩:=h m List.mem_cons_self
   rw[Int.mul_ediv_cancel_left _ (by omega:(g:Int)≠0),Int.natAbs_mul,Int.natAbs_natCast,Nat.mul_div_cancel_left _ hg]
  rw[List.map_cons,List.foldl_cons,List.foldl_cons,e,Nat.gcd_div hc hm]
  exact oQ g hg ns _ (Nat.dvd_gcd hc hm) λn hn=>h n (List.mem_cons_of_mem _ hn)
theorem B1{ns:List Int}(h:0<dj ns):dj (ns.map (· / (dj ns:Int)))=1:=by
 have:=oQ (dj ns) h ns 0 (Nat.dvd_zero _) λn hn=>xc hn
 rw[Nat.zero_div] at this
 rw[show dj (ns.map (· / (dj ns:Int)))=(ns.map (· / (dj ns:Int))).foldl (λc n=>Nat.gcd c n.natAbs) 0 from rfl,this]
 exact Nat.div_self h
end M
set_option maxRecDepth 100000
set_option maxHeartbeats 4000000
namespace M
open PySem PySem.Spec PyProof.Rows L2
section
variable {s s1 : S} {d : D}
@[simp] theorem af {i:Nat} (h:s.r[i]? =some (some d)):aa i s=.ok (d,s):=by unfold aa;rw[h]
@[simp] theorem au (d:D) (s:S):aj d s=.ok (d,s):=rfl
@[simp] theorem dR (f:Op2) (a b:EM) (s:S):ao f a b s=(a s).bind λx=>(b x.2).bind λy=>(f y.2.o x.1 y.1).bind λd=>.ok (d,y.2):=rfl
@[simp] theorem GV (f:Op1) (a:EM) (s:S):unM f a s=(a s).bind λx=>(f x.2.o x.1).bind λd=>.ok (d,x.2):=rfl
@[simp] theorem aF (s:S):aq s=.ok ([],s):=rfl
@[simp] theorem aY (m:EM) (r:AM) (s:S):ae m r s=(m s).bind λx=>(r x.2).bind λy=>.ok (x.1::y.1,y.2):=rfl
@[simp] theorem iQ (f:OpN) (m:AM) (s:S):bC f m s=(m s).bind λx=>(f x.2.o x.1).bind λd=>.ok (d,x.2):=rfl
@[simp] theorem yO (m:AM) (s:S):o3 m s=(m s).bind λx=>if x.1.length<=16777216 then .ok (.tup x.1,x.2) else .bad:=rfl
@[simp] theorem DS (m:AM) (s:S):gG m s=(m s).bind λx=>if x.1.length<=16777216 then .ok (.lst x.1,x.2) else .bad:=rfl
@[simp] theorem ET (m:AM) (s:S):jy m s=(m s).bind λx=>if x.1.length<=16777216 then .ok (.ptr x.2.o.length,⟨x.2.r,x.2.o++[.lst x.1]⟩) else .bad:=rfl
@[simp] theorem gd (m:EM) (s:S):bj m s=(m s).bind λx=>match x.1 with
 | .bl b=>.ok (b,x.2)
 | _=>.bad:=rfl
@[simp] theorem Ex (a b:TM) (s:S):oO a b s=(a s).bind λx=>if x.1 then b x.2 else .ok (false,x.2):=rfl
@[simp] theorem vW (a b:TM) (s:S):orT a b s=(a s).bind λx=>if x.1 then .ok (true,x.2) else b x.2:=rfl
@[simp] theorem sJ (a:TM) (s:S):pG a s=(a s).bind λx=>.ok (!x.1,x.2):=rfl
@[simp] theorem EK (a b:EM) (s:S):qK a b s=(a s).bind λx=>match x.1 with
 | .bl true=>b x.2
 | .bl false=>.ok (.bl false,x.2)
 | _=>.bad:=rfl
@[simp] theorem JJ (a b:EM) (s:S):orV a b s=(a s).bind λx=>match x.1 with
 | .bl true=>.ok (.bl true,x.2)
 | .bl false=>b x.2
 | _=>.bad:=rfl
@[simp] theorem Ja (a:EM) (s:S):CW a s=(a s).bind λx=>match x.1 with
 | .bl k=>.ok (.bl (!k),x.2)
 | _=>.bad:=rfl
@[simp] theorem Jn (a b:SM) (s:S):aT a b s=(a s).then b:=rfl
@[simp] theorem cC (s:S):bI s=.next s:=rfl
@[simp] theorem IC (m:EM) (s:S):de m s=(m s).out λx=>.next x.2:=rfl
@[simp] theorem IS (m:EM) (s:S):cx m s=(m s).out λx=>.ret x.1 x.2:=rfl
@[simp] theorem Jp (s:S):Ih s=.ret .non s:=rfl
@[simp] theorem JF (c:TM) (a b:SM) (s:S):ifS c a b s=(c s).out λx=>if x.1 then a x.2 else b x.2:=rfl
@[simp] theorem Jw (c:TM) (a b:EM) (s:S):ifM c a b s=(c s).bind λx=>if x.1 then a x.2 else b x.2:=rfl
@[simp] theorem Iw (i:Nat) (d:D) (s:S):aO i d s=.ok ⟨s.r.set i (some d),s.o⟩:=rfl
@[simp] theorem Ej (m:EM) (g:GM) (s:S):m7 m g s=((m s).bind λx=>g x.1 x.2).out λs=>.next s:=rfl
@[simp] theorem IV (i:Nat) (f:Op2) (m:EM) (s:S):IB i f m s=m7 (ao f (aa i) m) (aO i) s:=rfl
@[simp] theorem Ig (s:S):cM s=.ok (true,s):=rfl
@[simp] theorem Bk (s:S):eH s=.ok (none,s):=rfl
@[simp] theorem ym (m:EM) (s:S):part m s=(m s).bind λx=>match x.1 with
 | .int i=>.ok (some i,x.2)
 | _=>.bad:=rfl
@[simp] theorem BJ (me:EM) (ml mh:OM) (s:S):slM me ml mh s=(me s).bind λx=>(ml x.2).bind λl=>(mh l.2).bind λh=>match lsD h.2.o x.1 with
 | some ds=>.ok (.lst (cutD ds l.1 h.1),h.2)
 | none=>.bad:=rfl
@[simp] theorem eC (m:EM) (s:S):listI m s=(m s).bind λx=>(itemsOf x.2.o x.1).bind λy=>.ok (y,x.2):=rfl
@[simp] theorem G3 (O:aD) (ds:List D):itemsOf O (.lst ds)=.ok (ds,none):=rfl
theorem Ek(im:IM)(g:GM)(body:SM)(s:S):i8 im g body s=(im s).out λy=>ij (okC y.1.1 y.1.2) g body y.1.1 y.2:=rfl
theorem vY(m:Nat)(caps:List Nat)(im:IM)(g:GM)(c:TM)(e:EM)(s:S):kD m caps im g c e s=(im s).bind λy=>
 (gQ (okC y.1.1 y.1.2) g c e y.1.1 [] ⟨pe m caps y.2.r,y.2.o⟩).bind λz=>.ok (z.1,⟨y.2.r,z.2.o⟩):=rfl
theorem qU(m:Nat)(caps:List Nat)(im:IM)(g:GM)(c:TM)(e:EM)(s:S):cJ m caps im g c e s=(kD m caps im g c e s).bind λy=>.ok (.lst y.1,y.2):=rfl
theorem C1(m:Nat)(caps:List Nat)(im:IM)(g:GM)(c:TM)(e:EM)(s:S):pX m caps im g c e s=(kD m caps im g c e s).bind λy=>.ok (.ptr y.2.o.length,⟨y.2.r,y.2.o++[.lst y.1]⟩):=rfl
@[simp] theorem Cm (n:Nat) (f:FM) (m:AM) (s:S):aK n f m s=(m s).bind λx=>if aI x.1=true/\x.1.length=n then (match f x.1 [] with
 | .ok (d,_)=>if bV d=true then .ok (d,x.2) else .bad
 | _=>.bad) else .bad:=rfl
@[simp] theorem Cu (n:Nat) (f:FM) (m:AM) (s:S):qe n f m s=(m s).bind λx=>if aI x.1=true/\x.1.length=n then (match f x.1 [] with
 | .ok (d,O1)=>.ok (shD x.2.o.length d,⟨x.2.r,x.2.o++O1.map (shC x.2.o.length)⟩)
 | _=>.bad) else .bad:=rfl
@[simp] theorem Ic (n:Nat) (f:FM) (m:AM) (s:S):lK n f m s=(m s).bind λx=>if aI (bH x.2.o (bH x.2.o x.1))=true/\x.1.length=n then (match f (bH x.2.o (bH x.2.o x.1)) [] with
 | .ok (d,_)=>if lF d=true then .ok (d,x.2) else .bad
 | _=>.bad) else .bad:=rfl
@[simp] theorem BW (m:EM) (s:S):rM m s=(m s).bind λx=>match qh x.2.o x.1 with
 | some ds=>.ok (.ptr x.2.o.length,⟨x.2.r,x.2.o++[.lst ds]⟩)
 | none=>.bad:=rfl
@[simp] theorem En (m:EM) (s:S):oE m s=(m s).bind λx=>match jd x.2.o x.1 with
 | some (k,ds)=>.ok (.lst ds,⟨x.2.r,x.2.o.set k .dead⟩)
 | none=>.bad:=rfl
@[simp] theorem EU (mo me:EM) (s:S):ki mo me s=(mo s).bind λx=>match jd x.2.o x.1 with
 | some _=>(me x.2).bind λy=>match jd y.2.o x.1 with
  | some (k,ds)=>if ds.length<16777216 then .ok (.non,⟨y.2.r,y.2.o.set k (.lst (ds++[y.1]))⟩) else .bad
  | none=>.bad
 | none=>.bad:=rfl
@[simp] theorem pR {O:aD} {k:Nat} {ds:List D} (h:O[k]? =some (.lst ds)):lsD O (.ptr k)=some ds:=by unfold lsD;simp only[h]
@[simp] theorem jv {O:aD} {k:Nat} {ds:List D} (h:O[k]? =some (.lst ds)):jd O (.ptr k)=some (k,ds):=by unfold jd;simp only[h]
@[simp] theorem BC (O:aD) (ds:List D):qh O (.lst ds)=some ds:=rfl
@[simp] theorem HP (O:aD) (ds:List D):qh O (.tup ds)=some ds:=rfl
@[simp] theorem HM {O:aD} {k:Nat} {ds:List D} (h:O[k]? =some (.lst ds)):qh O (.ptr k)=some ds:=by show lsD O (.ptr k)=_;exact pR h
@[simp] theorem G6 {O:aD} {k:Nat} {ds:List D} (h:O[k]? =some (.lst ds)):itemsOf O (.ptr k)=.ok (ds,some k):=by unfold itemsOf;simp only[h]
@[simp] theorem DU (n k:Nat):shD n (.ptr k)=.ptr (n+k):=by unfold shD;rfl
@[simp] theorem HF:aI []=true:=by unfold aI;rfl
@[simp] theorem g6 (d:D) (ds:List D):aI (d::ds)=(bV d&&aI ds):=by conv=>lhs;unfold aI
@[simp] theorem HL (i:Int):bV (.int i)=true:=by unfold bV;rfl
@[simp] theorem Ij (i:Bool):bV (.bl i)=true:=by unfold bV;rfl
@[simp] theorem HY (i:Str):bV (.str i)=true:=by unfold bV;rfl
@[simp] theorem HR:bV .non=true:=by unfold bV;rfl
@[simp] theorem ir (ds:List D):bV (.lst ds)=aI ds:=by conv=>lhs;unfold bV
@[simp] theorem HV (ds:List D):bV (.tup ds)=aI ds:=by conv=>lhs;unfold bV
@[simp] theorem qx (ns:List Int):aI (ns.map D.int)=true:=pH ns
@[simp] theorem IT (O:aD) (i:Int):res O (.int i)=.int i:=by unfold res;rfl
@[simp] theorem JH (O:aD) (i:Bool):res O (.bl i)=.bl i:=by unfold res;rfl
@[simp] theorem IY (O:aD) (i:Str):res O (.str i)=.str i:=by unfold res;rfl
@[simp] theorem Jg (O:aD):res O .non=.non:=by unfold res;rfl
@[simp] theorem nt (O:aD) (ds:List D):res O (.lst ds)=.lst (bH O ds):=by conv=>lhs;unfold res
@[simp] theorem Er (O:aD) (ds:List D):res O (.tup ds)=.tup (bH O ds):=by conv=>lhs;unfold res
@[simp] theorem yi {O:aD} {k:Nat} {ds:List D} (h:O[k]? =some (.lst ds)):res O (.ptr k)=.lst ds:=by conv=>lhs;unfold res;simp only[h]
@[simp] theorem xr (O:aD):bH O []=[]:=by unfold bH;rfl
@[simp] theorem ub (O:aD) (d:D) (ds:List D):bH O (d::ds)=res O d::bH O ds:=by conv=>lhs;unfold bH
@[simp] theorem nW (O:aD) (ns:List Int):bH O (ns.map D.int)=ns.map D.int:=kW ns
@[simp] theorem IF (b:Bool):lF (.bl b)=true:=rfl
@[simp] theorem HQ (b:Int):lF (.int b)=true:=rfl
@[simp] theorem HI (b:Str):lF (.str b)=true:=rfl
@[simp] theorem IU {O:aD} {k:Nat} {ds:List D} (h:O[k]? =some (.lst ds)) (c:String):jx c O (.ptr k)=.ok (.bl (d5 "list" c)):=by
 unfold jx tyD;simp only[h]
@[simp] theorem uf (n:Nat):∀ns:List Int,ky n (ns.map D.int)=ns.map D.int
 | []=>by simp[ky]
 | m::ns=>by simp[ky,shD,uf n ns]
@[simp] theorem Eb (n:Nat) (ds:List D):shC n (.lst ds)=.lst (ky n ds):=rfl
theorem EZ{n:Nat}{m:SM}{ds:List D}{O:aD}{d:D}(h:∃s,m ⟨ds.map some++List.replicate (n-ds.length) none,O⟩=.ret d s):∃O1,runM n m ds O=.ok (d,O1):=by
 obtain⟨s,h⟩:=h
 exact⟨s.o,fP h⟩
end
mutual
theorem B3{O:aD}:∀{d:D},bV d=true->res O d=d
 | .non,_=>by unfold res;rfl
 | .bl _,_=>by unfold res;rfl
 | .int _,_=>by unfold res;rfl
 | .str _,_=>by unfold res;rfl
 | .lst ds,h=>by rw[nt,mQ (by simpa using h)]
 | .tup ds,h=>by rw[Er,mQ (by simpa using h)]
 | .ptr _,h=>by unfold bV at h;cases h
 | .obj c ns ds,h=>by unfold res;rfl
 | .exn c,h=>by unfold res;rfl
theorem mQ{O:aD}:∀{ds:List D},aI ds=true->bH O ds=ds
 | [],_=>xr O
 | d::ds,h=>by
  rw[g6,Bool.and_eq_true] at h
  rw[ub,B3 h.1,mQ h.2]
end
theorem yN{O:aD}{k:Nat}{ds:List D}(h:O[k]? =some (.lst ds))(hp:aI ds=true)(es:List D):eqB O (.ptr k) (.lst es)=eqB O (.lst ds) (.lst es):=by
 show gK O _ _=gK O _ _
 unfold gK
 simp only[yi h,nt,mQ hp]
@[simp] theorem Ji {O:aD} {k:Nat} {ds:List D} (h:O[k]? =some (.lst ds)) (hp:aI ds=true) (es:List D):eqD O (.ptr k) (.lst es)=eqD O (.lst ds) (.lst es):=by unfold eqD;rw[yN h hp]
@[simp] theorem Jl {O:aD} {k:Nat} {ds:List D} (h:O[k]? =some (.lst ds)) (hp:aI ds=true) (es:List D):neD O (.ptr k) (.lst es)=neD O (.lst ds) (.lst es):=by unfold neD;rw[yN h hp]
end M
set_option maxRecDepth 100000
set_option maxHeartbeats 4000000
namespace M
open PySem PySem.Spec PyProof.Rows L2
theorem ee{ok:aD->Prop}{g:GM}{body:SM}(P:List D->S->Prop)(hok:∀pre s,P pre s->ok s.o):∀(ds pre:List D),
 (∀pre' d rest,pre++ds=pre'++d::rest->∀s,P pre' s->∃s1 s2,g d s=.ok s1/\(body s1=.next s2\/body s1=.cnt s2)/\P (pre'++[d]) s2)->∀s,P pre s->∃s',ij ok g body ds s=.next s'/\P (pre++ds) s'
 | [],pre,_,s,h=>⟨s,by rw[ij,if_pos (hok _ _ h)],by simpa using h⟩
 | d::ds,pre,step,s,h=>by
  obtain⟨s1,s2,e1,e2,h2⟩:=step pre d ds rfl s h
  obtain⟨s',e3,h3⟩:=ee P hok ds (pre++[d]) (λpre' d' rest e=>step pre' d' rest (by simpa using e)) s2 h2
  refine⟨s', ?_,by simpa using h3⟩
  rw[ij,if_pos (hok _ _ h),e1,iD]
  rcases e2 with e2 | e2 <;> (rw[e2];exact e3)
theorem hU{im:IM}{g:GM}{body:SM}{s s1:S}{ds:List D}{k:Option Nat}(h:im s=.ok ((ds,k),s1)):i8 im g body s=ij (okC ds k) g body ds s1:=by rw[Ek,h,iD]
theorem gC{m:AM}{s s1:S}{n:Nat}(h:m s=.ok ([.int (n:Int)],s1))(hn:n<=1000000):gf m s=.ok ((cY 0 (n:Int),none),s1):=by
 show (m s).bind _=_
 rw[h,ak]
 dsimp only
 rw[if_pos (by constructor <;> omega)]
section
variable {O : aD}
@[simp] theorem JN (d:D) (ds:List D):ixD O (.tup (d::ds)) (.int 0)=.ok d:=yH (by rw[lS (by decide) (by simp)];rfl)
@[simp] theorem JO (d e:D) (ds:List D):ixD O (.tup (d::e::ds)) (.int 1)=.ok e:=yH (by rw[lS (by decide) (by simp;omega)];rfl)
@[simp] theorem wA (d:D) (ds:List D):ixD O (.lst (d::ds)) (.int 0)=.ok d:=ny (by rw[lS (by decide) (by simp)];rfl)
@[simp] theorem zI (d e:D) (ds:List D):ixD O (.lst (d::e::ds)) (.int 1)=.ok e:=ny (by rw[lS (by decide) (by simp;omega)];rfl)
theorem pB(ns:List Int):SeqAt.shaped (.tuple (ns.map PyData.int))=true:=by
 simp[SeqAt.shaped,PyData.canLay0,kJ,PyData.depth,lJ]
theorem uu(ns ms:List Int):eqB O (.tup (ns.map D.int)) (.tup (ms.map D.int))=some (decide (ns=ms)):=by
 show gK O _ _=_
 unfold gK
 simp only[res,kW,toPy,lD,Option.map_some]
 rw[if_pos ⟨pB ns,pB ms⟩]
 simp only[PyData.eqv,n8]
@[simp] theorem Jt (a b c d:Int):eqD O (.tup [.int a,.int b]) (.tup [.int c,.int d])=.ok (.bl (decide (a=c/\b=d))):=by
 have:=uu (O:=O) [a,b] [c,d]
 unfold eqD
 rw[show eqB O (.tup [.int a,.int b]) (.tup [.int c,.int d])=_ from this]
 simp
@[simp] theorem Jx (a b c d:Int):neD O (.tup [.int a,.int b]) (.tup [.int c,.int d])=.ok (.bl (!decide (a=c/\b=d))):=by
 have:=uu (O:=O) [a,b] [c,d]
 unfold neD
 rw[show eqB O (.tup [.int a,.int b]) (.tup [.int c,.int d])=_ from this]
 simp
end
theorem Sz.sub{m n:Nat}{i j:Int}(h:Sz m i)(h':Sz n j):Sz (max m n+1) (i-j):=by
 rw[Int.sub_eq_add_neg]
 refine Sz.add h ?_
 unfold Sz at *
 rw[Int.natAbs_neg];exact h'
theorem Sz.neg{m:Nat}{i:Int}(h:Sz m i):Sz m (-i):=by
 unfold Sz at *
 rw[Int.natAbs_neg];exact h
end M
set_option maxRecDepth 100000
set_option maxHeartbeats 4000000
namespace M
def aV:Nat->(Nat->Int)->Int
 | 0,_=>0
 | n+1,f=>aV n f+f n
theorem bK{n:Nat}{f g:Nat->Int}(h:∀i,i<n->f i=g i):aV n f=aV n g:=by
 induction n with
 | zero=>rfl
 | succ n ih=>rw[aV,aV,ih λi hi=>h i (by omega),h n (by omega)]
theorem d8{n:Nat}{f:Nat->Int}(h:∀i,i<n->f i=0):aV n f=0:=by
 induction n with
 | zero=>rfl
 | succ n ih=>rw[aV,ih λi hi=>h i (by omega),h n (by omega)];rfl
theorem nZ(n:Nat)(f g:Nat->Int):aV n (λi=>f i+g i)=aV n f+aV n g:=by
 induction n with
 | zero=>rfl
 | succ n ih=>simp only[aV,ih];omega
theorem di(n:Nat)(c:Int)(f:Nat->Int):aV n (λi=>c*f i)=c*aV n f:=by
 induction n with
 | zero=>simp[aV]
 | succ n ih=>simp only[aV,ih,Int.mul_add]
theorem ju{n k:Nat}(hk:k<n){f:Nat->Int}(h:∀i,i<n->i≠k->f i=0):aV n f=f k:=by
 induction n with
 | zero=>omega
 | succ n ih=>
  rw[aV]
  by_cases e:k=n
  ·subst e
   rw[d8 λi hi=>h i (by omega) (by omega)]
   omega
  ·rw[ih (by omega) λi hi=>h i (by omega),h n (by omega) (by omega)]
   omega
def nth(r:List Int)(i:Nat):Int:=r.getD i 0
def cH(n:Nat)(r:List Int)(x:Nat->Int):Int:=aV n λi=>nth r i*x i
def dD(n:Nat)(R:List (List Int))(x:Nat->Int):Prop:=∀r∈R,cH n r x=0
def low(ns:List Int):List Int:=if dj ns=0 then ns else ns.map (· / (dj ns:Int))
theorem low_length(ns:List Int):(low ns).length=ns.length:=by unfold low;split <;> simp
theorem kC{f:Int->Int}(h0:f 0=0)(r:List Int)(i:Nat):nth (r.map f) i=f (nth r i):=by
 unfold nth
 rw[List.getD_eq_getElem?_getD,List.getD_eq_getElem?_getD,List.getElem?_map]
 cases r[i]? with
 | none=>exact h0.symm
 | some a=>rfl
theorem pS{r:List Int}{i:Nat}(h:i<r.length):nth r i∈r:=by
 unfold nth
 rw[List.getD_eq_getElem?_getD,List.getElem?_eq_getElem h]
 exact List.getElem_mem h
theorem kl{r:List Int}{i:Nat}(h:r.length<=i):nth r i=0:=by
 unfold nth
 rw[List.getD_eq_getElem?_getD,List.getElem?_eq_none h]
 rfl
theorem pC(r:List Int)(i:Nat):((dj r:Nat):Int) ∣ nth r i:=by
 by_cases h:i<r.length
 ·exact xc (pS h)
 ·rw[kl (by omega)];exact Int.dvd_zero _
def rG(r:List Int):Int:=if dj r=0 then 1 else (dj r:Int)
theorem mW(r:List Int):0<rG r:=by unfold rG;split <;> omega
theorem nC(r:List Int)(i:Nat):nth r i=rG r*nth (low r) i:=by
 unfold low rG
 split
 ·omega
 ·rw[kC (by simp),Int.mul_ediv_cancel' (pC r i)]
theorem wy{r:List Int}(h:dj r=0)(i:Nat):nth r i=0:=by
 have:=pC r i
 rw[h] at this
 simpa using this
theorem yK{r:List Int}{i:Nat}(h:nth r i≠0):dj (low r)=1:=by
 have h0:dj r≠0:=λe=>h (wy e i)
 unfold low
 rw[if_neg h0]
 exact B1 (Nat.pos_of_ne_zero h0)
def ng(one:List Int)(v:Int)(other:List Int)(w:Int):List Int:=List.zipWith (λa b=>a*w-b*v) one other
def dU(one:List Int)(v:Int)(other:List Int)(w:Int):List Int:=low (ng one v other w)
theorem m8{one other:List Int}(h:one.length=other.length)(v w:Int):(ng one v other w).length=one.length:=by
 unfold ng;rw[List.length_zipWith,<- h,Nat.min_self]
theorem vX{one other:List Int}(h:one.length=other.length)(v w:Int)(i:Nat):nth (ng one v other w) i=nth one i*w-nth other i*v:=by
 by_cases hi:i<one.length
 ·unfold ng nth
  simp only[List.getD_eq_getElem?_getD,List.getElem?_zipWith,List.getElem?_eq_getElem hi,List.getElem?_eq_getElem (h▸hi:i<other.length)]
  rfl
 ·rw[kl (by rw[m8 h];omega),kl (r:=one) (by omega),kl (r:=other) (by omega)]
  simp
theorem kE{one other:List Int}(h:one.length=other.length)(v w:Int):(dU one v other w).length=one.length:=by
 unfold dU;rw[low_length,m8 h]
theorem nQ{one other:List Int}(h:one.length=other.length)(v w:Int):∃g:Int,0<g/\∀i,g*nth (dU one v other w) i=nth one i*w-nth other i*v:=by
 refine⟨rG (ng one v other w),mW _,λi=> ?_⟩
 unfold dU
 rw[<- nC,vX h]
theorem w9{n:Nat}{a b c:List Int}{g u v:Int}(h:∀i,g*nth c i=u*nth a i+v*nth b i)(x:Nat->Int):g*cH n c x=u*cH n a x+v*cH n b x:=by
 unfold cH
 rw[<- di,<- di,<- di,<- nZ]
 refine bK λi _=> ?_
 have:=h i
 grind
theorem ot{n:Nat}{a c:List Int}{g:Int}(h:∀i,nth a i=g*nth c i)(x:Nat->Int):cH n a x=g*cH n c x:=by
 unfold cH
 rw[<- di]
 refine bK λi _=> ?_
 rw[h i,Int.mul_assoc]
theorem qV{n:Nat}{one other:List Int}(h:one.length=other.length)(v w:Int)(x:Nat->Int):∃g:Int,0<g/\g*cH n (dU one v other w) x=w*cH n one x-v*cH n other x:=by
 obtain⟨g,hg,e⟩:=nQ h v w
 refine⟨g,hg, ?_⟩
 have:=w9 (n:=n) (c:=dU one v other w) (a:=one) (b:=other) (g:=g) (u:=w) (v:= -v) (λi=>by rw[e i];grind) x
 rw[this];grind
theorem qY(n:Nat)(r:List Int)(x:Nat->Int):cH n (low r) x=0↔cH n r x=0:=by
 rw[ot (λi=>nC r i) x]
 have:=mW r
 constructor
 ·intro h;rw[h];simp
 ·intro h
  rcases Int.mul_eq_zero.mp h with z | z
  ·omega
  ·exact z
end M
set_option maxRecDepth 100000
set_option maxHeartbeats 4000000
namespace M
def jG:List Int->Option Nat
 | []=>none
 | a::r=>if a≠0 then some 0 else (jG r).map (· + 1)
theorem mH:∀{l:List Int},jG l=none->∀a∈l,a=0
 | [],_,_,h=>by simp at h
 | b::r,e,a,h=>by
  unfold jG at e
  split at e
  ·cases e
  ·rename_i hb
   rcases List.mem_cons.mp h with rfl | h
   ·simpa using hb
   ·exact mH (by simpa using e) a h
theorem iz:∀{l:List Int} {k:Nat},jG l=some k->k<l.length/\nth l k≠0/\∀i,i<k->nth l i=0
 | [],_,e=>by cases e
 | b::r,k,e=>by
  unfold jG at e
  split at e
  ·rename_i hb
   cases e
   exact⟨by simp,hb,λi hi=>by omega⟩
  ·rename_i hb
   cases e2:jG r with
   | none=>rw[e2] at e;cases e
   | some j=>
    rw[e2] at e
    cases e
    obtain⟨h1,h2,h3⟩:=iz e2
    refine⟨by simp;omega,by simpa[nth] using h2,λi hi=> ?_⟩
    cases i with
    | zero=>simpa[nth] using hb
    | succ i=>simpa[nth] using h3 i (Nat.lt_of_succ_lt_succ hi)
def il(row:List Int)(at_:Nat):List Int:=if nth row at_>0 then row else row.map (- ·)
def eR(lead:List Int)(at_:Nat)(row:List Int):List Int:=if nth row at_=0 then row else dU row (nth row at_) lead (nth lead at_)
def cN(s:List (List Int)×List (List Int))(at_:Nat):List (List Int)×List (List Int):=
 match jG (s.1.map (nth · at_)) with
 | none=>s
 | some k=>((s.1.eraseIdx k).map (eR (il (s.1.getD k []) at_) at_),s.2.map (eR (il (s.1.getD k []) at_) at_)++[il (s.1.getD k []) at_])
def bG(rows:List (List Int))(n:Nat):List (List Int):=((List.range n).foldl cN (rows.map low,[])).2
structure Good(n:Nat)(p:Nat×List Int):Prop where
 len:p.2.length=n
 lt:p.1<n
 pos:0<nth p.2 p.1
 zero:∀i,i<p.1->nth p.2 i=0
 one:dj p.2=1
structure Pl(n:Nat)(P:List (Nat×List Int)):Prop where
 good:∀p∈P,Good n p
 pw:P.Pairwise λp q=>p.1<q.1/\nth p.2 q.1=0
def o8(r:List Int):Prop:=∀i,nth r i≠0->dj r=1
theorem nN(r:List Int):o8 (low r):=λi h=>yK (i:=i) λz=>by
 have:=nC r i
 rw[z] at this
 rcases Int.mul_eq_zero.mp this.symm with q | q
 ·have:=mW r;omega
 ·exact h q
theorem CK(r:List Int):dj (r.map (- ·))=dj r:=by
 unfold dj
 have:∀(l:List Int) (c:Nat),(l.map (- ·)).foldl (λc n=>Nat.gcd c n.natAbs) c=l.foldl (λc n=>Nat.gcd c n.natAbs) c:=by
  intro l
  induction l with
  | nil=>intro c;rfl
  | cons a l ih=>intro c;simp only[List.map_cons,List.foldl_cons,Int.natAbs_neg];exact ih _
 exact this r 0
theorem xG(row:List Int)(a:Nat):(il row a).length=row.length:=by unfold il;split <;> simp
theorem xa(row:List Int)(a:Nat):∃g:Int,(g=1\/g= -1)/\∀i,nth (il row a) i=g*nth row i:=by
 unfold il
 split
 ·exact⟨1,.inl rfl,λi=>by omega⟩
 ·exact⟨-1,.inr rfl,λi=>by rw[kC (by simp)];omega⟩
theorem A6{row:List Int}{a:Nat}(h:o8 row):o8 (il row a):=by
 unfold il
 split
 ·exact h
 ·intro i hi
  rw[CK]
  refine h i λz=>hi ?_
  rw[kC (by simp),z];rfl
theorem Cd{row:List Int}{a:Nat}(h:nth row a≠0):0<nth (il row a) a:=by
 unfold il
 split
 ·assumption
 ·rw[kC (by simp)];omega
theorem EA(n:Nat)(row:List Int)(a:Nat)(x:Nat->Int):cH n (il row a) x=0↔cH n row x=0:=by
 obtain⟨g,hg,e⟩:=xa row a
 have:=ot (n:=n) (a:=il row a) (c:=row) e x
 rw[this]
 rcases hg with rfl | rfl <;> omega
section
variable {lead row : List Int} {a : Nat}
theorem qq(h:row.length=lead.length):(eR lead a row).length=row.length:=by
 unfold eR;split
 ·rfl
 ·exact kE h _ _
theorem rg(hl:0<nth lead a)(h:row.length=lead.length):∃g u:Int,0<g/\0<u/\∃v:Int,(nth row a=0->v=0)/\∀i,g*nth (eR lead a row) i=u*nth row i-v*nth lead i:=by
 unfold eR
 split
 ·exact⟨1,1,by omega,by omega,0,λ_=>rfl,λi=>by omega⟩
 ·rename_i hz
  obtain⟨g,hg,e⟩:=nQ h (nth row a) (nth lead a)
  exact⟨g,nth lead a,hg,hl,nth row a,λz=>absurd z hz,λi=>by rw[e i];grind⟩
theorem yw(hl:0<nth lead a)(h:row.length=lead.length):nth (eR lead a row) a=0:=by
 unfold eR
 split
 ·assumption
 ·obtain⟨g,hg,e⟩:=nQ h (nth row a) (nth lead a)
  have:=e a
  have:g*nth (dU row (nth row a) lead (nth lead a)) a=0:=by rw[this];grind
  rcases Int.mul_eq_zero.mp this with z | z
  ·omega
  ·exact z
theorem ua(h:o8 row):o8 (eR lead a row):=by
 unfold eR
 split
 ·exact h
 ·exact nN _
theorem pM(hl:0<nth lead a)(h:row.length=lead.length){i:Nat}(h1:nth row i=0)(h2:nth lead i=0):nth (eR lead a row) i=0:=by
 obtain⟨g,u,hg,hu,v,_,e⟩:=rg hl h
 have:=e i
 rw[h1,h2] at this
 have:g*nth (eR lead a row) i=0:=by rw[this];grind
 rcases Int.mul_eq_zero.mp this with z | z
 ·omega
 ·exact z
theorem CC(hl:0<nth lead a)(h:row.length=lead.length){i:Nat}(h1:0<nth row i)(h2:nth lead i=0):0<nth (eR lead a row) i:=by
 obtain⟨g,u,hg,hu,v,_,e⟩:=rg hl h
 have e':=e i
 rw[h2] at e'
 have:0<g*nth (eR lead a row) i:=by
  rw[e']
  have:=Int.mul_pos hu h1
  omega
 by_cases hn:nth (eR lead a row) i<=0
 ·have:=Int.mul_nonpos_of_nonneg_of_nonpos (show 0<=g by omega) hn
  omega
 ·omega
theorem pT(n:Nat)(hl:0<nth lead a)(h:row.length=lead.length){x:Nat->Int}(hx:cH n lead x=0):cH n (eR lead a row) x=0↔cH n row x=0:=by
 obtain⟨g,u,hg,hu,v,_,e⟩:=rg hl h
 have:=w9 (n:=n) (c:=eR lead a row) (a:=row) (b:=lead) (g:=g) (u:=u) (v:= -v) (λi=>by rw[e i];grind) x
 rw[hx] at this
 constructor
 ·intro z
  rw[z] at this
  have:u*cH n row x=0:=by omega
  rcases Int.mul_eq_zero.mp this with q | q
  ·omega
  ·exact q
 ·intro z
  rw[z] at this
  have:g*cH n (eR lead a row) x=0:=by omega
  rcases Int.mul_eq_zero.mp this with q | q
  ·omega
  ·exact q
end
structure PSt(n a:Nat)(left:List (List Int))(P:List (Nat×List Int)):Prop where
 ll:∀r∈left,r.length=n
 lz:∀r∈left,∀i,i<a->nth r i=0
 lw:∀r∈left,o8 r
 pl:Pl n P
 pa:∀p∈P,p.1<a
theorem xN(left:List (List Int))(a k:Nat):nth (left.map (nth · a)) k=nth (left.getD k []) a:=by
 unfold nth
 simp only[List.getD_eq_getElem?_getD,List.getElem?_map]
 cases left[k]? with
 | none=>rfl
 | some r=>rfl
theorem getD_mem{left:List (List Int)}{k:Nat}(h:k<left.length):left.getD k []∈left:=by
 rw[List.getD_eq_getElem?_getD,List.getElem?_eq_getElem h]
 exact List.getElem_mem h
theorem oB:∀{l:List (List Int)} {k:Nat} (h:k<l.length),l.Perm (l[k]::l.eraseIdx k)
 | [],k,h=>by simp at h
 | a::l,0,h=>by simp
 | a::l,k+1,h=>by
  have:=oB (l:=l) (k:=k) (by simpa using h)
  simp only[List.getElem_cons_succ,List.eraseIdx_cons_succ]
  exact(this.cons a).trans (List.Perm.swap _ _ _)
theorem EL{n a:Nat}(ha:a<n){left:List (List Int)}{P:List (Nat×List Int)}(h:PSt n a left P):
 ∃left' P',cN (left,P.map (·.2)) a=(left',P'.map (·.2))/\PSt n (a+1) left' P'/\left'.length+P'.length=left.length+P.length/\∀x,dD n (P'.map (·.2)++left') x↔dD n (P.map (·.2)++left) x:=by
 unfold cN
 dsimp only
 split
 ·rename_i e
  refine⟨left,P,rfl,⟨h.ll,λr hr i hi=> ?_,h.lw,h.pl,λp hp=>Nat.lt_succ_of_lt (h.pa p hp)⟩,rfl,λx=>Iff.rfl⟩
  by_cases hia:i=a
  ·subst hia
   exact mH e _ (List.mem_map.mpr ⟨r,hr,rfl⟩)
  ·exact h.lz r hr i (by omega)
 ·rename_i k e
  obtain⟨k1,k2,_⟩:=iz e
  rw[List.length_map] at k1
  rw[xN] at k2
  have hm:left.getD k []∈left:=getD_mem k1
  have hperm:left.Perm (left.getD k []::left.eraseIdx k):=by
   rw[List.getD_eq_getElem?_getD,List.getElem?_eq_getElem k1]
   exact oB k1
  generalize left.getD k []=row at *
  generalize hld:il row a=lead at *
  have ll:lead.length=n:=by rw[<- hld,xG];exact h.ll row hm
  have lp:0<nth lead a:=by rw[<- hld];exact Cd k2
  have lz:∀i,i<a->nth lead i=0:=λi hi=>by
   obtain⟨g,_,e⟩:=xa row a
   rw[<- hld,e,h.lz row hm i hi];omega
  have lw:o8 lead:=by rw[<- hld];exact A6 (h.lw row hm)
  have sub:∀r∈left.eraseIdx k,r∈left:=λr hr=>List.mem_of_mem_eraseIdx hr
  refine⟨(left.eraseIdx k).map (eR lead a),P.map (λp=>(p.1,eR lead a p.2))++[(a,lead)], ?_,⟨?_, ?_, ?_,⟨?_, ?_⟩, ?_⟩, ?_, ?_⟩
  ·simp[Function.comp_def]
  ·intro r hr
   obtain⟨q,hq,rfl⟩:=List.mem_map.mp hr
   rw[qq (by rw[ll,h.ll q (sub q hq)]),h.ll q (sub q hq)]
  ·intro r hr i hi
   obtain⟨q,hq,rfl⟩:=List.mem_map.mp hr
   have hql:q.length=lead.length:=by rw[ll,h.ll q (sub q hq)]
   by_cases hia:i=a
   ·subst hia;exact yw lp hql
   ·exact pM lp hql (h.lz q (sub q hq) i (by omega)) (lz i (by omega))
  ·intro r hr
   obtain⟨q,hq,rfl⟩:=List.mem_map.mp hr
   exact ua (h.lw q (sub q hq))
  ·intro p hp
   rcases List.mem_append.mp hp with hp | hp
   ·obtain⟨q,hq,rfl⟩:=List.mem_map.mp hp
    have g:=h.pl.good q hq
    have hql:q.2.length=lead.length:=by rw[ll,g.len]
    have pp:=CC lp hql g.pos (lz q.1 (h.pa q hq))
    exact⟨by rw[qq hql];exact g.len,g.lt,pp,λi hi=>pM lp hql (g.zero i hi) (lz i (Nat.lt_trans hi (h.pa q hq))),ua (λi _=>g.one) q.1 (by omega)⟩
   ·rw[List.mem_singleton.mp hp]
    exact⟨ll,ha,lp,lz,lw a (by omega)⟩
  ·rw[List.pairwise_append]
   refine⟨?_,by simp,λp hp q hq=> ?_⟩
   ·rw[List.pairwise_map]
    refine List.Pairwise.imp_of_mem (λ{p q} hp hq hpq=> ?_) h.pl.pw
    refine⟨hpq.1, ?_⟩
    have g:=h.pl.good p hp
    exact pM lp (by rw[ll,g.len]) hpq.2 (lz q.1 (h.pa q hq))
   ·obtain⟨p',hp',rfl⟩:=List.mem_map.mp hp
    rw[List.mem_singleton.mp hq]
    exact⟨h.pa p' hp',yw lp (by rw[ll,(h.pl.good p' hp').len])⟩
  ·intro p hp
   rcases List.mem_append.mp hp with hp | hp
   ·obtain⟨q,hq,rfl⟩:=List.mem_map.mp hp
    exact Nat.lt_succ_of_lt (h.pa q hq)
   ·rw[List.mem_singleton.mp hp];exact Nat.lt_succ_self a
  ·have:=hperm.length_eq
   simp only[List.length_map,List.length_append,List.length_cons,List.length_nil] at *
   omega
  ·intro x
   have hlead:cH n lead x=0↔cH n row x=0:=by rw[<- hld];exact EA n row a x
   constructor
   ·intro hx r hr
    have h0:cH n lead x=0:=hx lead (by simp)
    rcases List.mem_append.mp hr with hr | hr
    ·obtain⟨p,hp,rfl⟩:=List.mem_map.mp hr
     exact(pT n lp (by rw[ll,(h.pl.good p hp).len]) h0).mp (hx _ (List.mem_append_left _ (List.mem_map.mpr ⟨(p.1,eR lead a p.2),by simp;exact .inl ⟨p.1,p.2,hp,rfl,rfl⟩,rfl⟩)))
    ·rcases List.mem_cons.mp (hperm.mem_iff.mp hr) with rfl | hr
     ·exact hlead.mp h0
     ·exact(pT n lp (by rw[ll,h.ll r (sub r hr)]) h0).mp (hx _ (List.mem_append_right _ (List.mem_map.mpr ⟨r,hr,rfl⟩)))
   ·intro hx r hr
    have h0:cH n lead x=0:=hlead.mpr (hx row (List.mem_append_right _ hm))
    rcases List.mem_append.mp hr with hr | hr
    ·obtain⟨q,hq,rfl⟩:=List.mem_map.mp hr
     rcases List.mem_append.mp hq with hq | hq
     ·obtain⟨p,hp,rfl⟩:=List.mem_map.mp hq
      exact(pT n lp (by rw[ll,(h.pl.good p hp).len]) h0).mpr (hx _ (List.mem_append_left _ (List.mem_map.mpr ⟨p,hp,rfl⟩)))
     ·rw[List.mem_singleton.mp hq];exact h0
    ·obtain⟨q,hq,rfl⟩:=List.mem_map.mp hr
     exact(pT n lp (by rw[ll,h.ll q (sub q hq)]) h0).mpr (hx _ (List.mem_append_right _ (sub q hq)))
theorem qN{n:Nat}{left:List (List Int)}(hl:∀r∈left,r.length=n)(hw:∀r∈left,o8 r):∀a,a<=n->
 ∃left' P',(List.range a).foldl cN (left,[])=(left',P'.map (·.2))/\PSt n a left' P'/\left'.length+P'.length=left.length/\∀x,dD n (P'.map (·.2)++left') x↔dD n left x
 | 0,_=>⟨left,[],rfl,⟨hl,λ_ _ i hi=>by omega,hw,⟨by simp,by simp⟩,by simp⟩,by simp,λx=>by simp⟩
 | a+1,ha=>by
  obtain⟨l1,P1,e1,s1,c1,n1⟩:=qN hl hw a (by omega)
  obtain⟨l2,P2,e2,s2,c2,n2⟩:=EL (by omega) s1
  refine⟨l2,P2, ?_,s2,by omega,λx=>(n2 x).trans (n1 x)⟩
  rw[List.range_succ,List.foldl_append,e1]
  exact e2
theorem Ax{n:Nat}{r:List Int}(h:∀i,i<n->nth r i=0)(x:Nat->Int):cH n r x=0:=d8 λi hi=>by rw[h i hi];omega
theorem iq{n:Nat}{rows:List (List Int)}(hl:∀r∈rows,r.length=n):∃P,bG rows n=P.map (·.2)/\Pl n P/\P.length<=rows.length/\∀x,dD n (bG rows n) x↔dD n rows x:=by
 obtain⟨l,P,e,s,c,nu⟩:=qN (n:=n) (left:=rows.map low) (λr hr=>by
  obtain⟨q,hq,rfl⟩:=List.mem_map.mp hr
  rw[low_length];exact hl q hq) (λr hr=>by
  obtain⟨q,hq,rfl⟩:=List.mem_map.mp hr
  exact nN q) n (Nat.le_refl n)
 have e':bG rows n=P.map (·.2):=by unfold bG;rw[e]
 refine⟨P,e',s.pl,by rw[List.length_map] at c;omega,λx=> ?_⟩
 rw[e']
 have n1:dD n (P.map (·.2)++l) x↔dD n (P.map (·.2)) x:=by
  constructor
  ·exact λh r hr=>h r (List.mem_append_left _ hr)
  ·intro h r hr
   rcases List.mem_append.mp hr with hr | hr
   ·exact h r hr
   ·exact Ax (s.lz r hr) x
 have n2:dD n (rows.map low) x↔dD n rows x:=by
  constructor
  ·exact λh r hr=>(qY n r x).mp (h _ (List.mem_map.mpr ⟨r,hr,rfl⟩))
  ·intro h r hr
   obtain⟨q,hq,rfl⟩:=List.mem_map.mp hr
   exact(qY n q x).mpr (h q hq)
 exact n1.symm.trans ((nu x).trans n2)
end M
set_option maxRecDepth 100000
set_option maxHeartbeats 4000000
namespace M
def bJ(n:Nat)(f g:Nat->Int):Int:=aV n λi=>f i*g i
theorem bM(n:Nat)(f g:Nat->Int):bJ n f g=bJ n g f:=bK λi _=>Int.mul_comm _ _
theorem fM(n:Nat)(r:List Int)(x:Nat->Int):cH n r x=bJ n (nth r) x:=rfl
theorem xn{n:Nat}{a b c:Nat->Int}{g u v:Int}(h:∀i,i<n->g*c i=u*a i+v*b i)(x:Nat->Int):g*bJ n c x=u*bJ n a x+v*bJ n b x:=by
 unfold bJ
 rw[<- di,<- di,<- di,<- nZ]
 refine bK λi hi=> ?_
 have:=h i hi
 grind
theorem uj{n:Nat}{a b:Nat->Int}{u v:Int}(x:Nat->Int):bJ n x (λi=>u*a i+v*b i)=u*bJ n x a+v*bJ n x b:=by
 rw[bM n x a,bM n x b,bM,<- xn (g:=1) (c:=λi=>u*a i+v*b i) (λi _=>by omega) x]
 omega
theorem zk{n:Nat}{a b:Nat->Int}(h:∀i,i<n->a i=b i)(x:Nat->Int):bJ n a x=bJ n b x:=bK λi hi=>by rw[h i hi]
def iT(T:List Int)(R:List (List Int))(i:Nat):Int:=aV R.length λj=>nth T j*nth (R.getD j []) i
theorem mS(m n:Nat)(f:Nat->Nat->Int):aV m (λi=>aV n λj=>f i j)=aV n λj=>aV m λi=>f i j:=by
 induction m with
 | zero=>rw[d8 (n:=n) (f:=λj=>aV 0 λi=>f i j) λ_ _=>rfl];rfl
 | succ m ih=>simp only[aV];rw[nZ,ih]
theorem Cf(n:Nat)(T:List Int)(R:List (List Int))(x:Nat->Int):bJ n (iT T R) x=aV R.length λj=>nth T j*cH n (R.getD j []) x:=by
 unfold bJ iT
 have:∀i,(aV R.length λj=>nth T j*nth (R.getD j []) i)*x i=aV R.length λj=>nth T j*(nth (R.getD j []) i*x i):=λi=>by
  rw[Int.mul_comm,<- di]
  refine bK λj _=>by grind
 rw[bK λi _=>this i,mS]
 refine bK λj _=> ?_
 unfold cH
 rw[<- di]
theorem vf{n:Nat}{T:List Int}{R:List (List Int)}{x:Nat->Int}(h:dD n R x):bJ n (iT T R) x=0:=by
 rw[Cf]
 refine d8 λj hj=> ?_
 rw[h _ (getD_mem hj)]
 omega
def jJ(n:Nat)(R:List (List Int))(x:Nat->Int):Prop:=∃k:Int,k≠0/\∃T:List Int,T.length=R.length/\∀i,i<n->k*x i=iT T R i
theorem jJ.dot{n:Nat}{R:List (List Int)}{x y:Nat->Int}(h:jJ n R x)(hy:dD n R y):bJ n x y=0:=by
 obtain⟨k,hk,T,_,e⟩:=h
 have h1:k*bJ n x y=1*bJ n (iT T R) y+0*bJ n x y:=xn (g:=k) (c:=x) (a:=iT T R) (b:=x) (u:=1) (v:=0) (λi hi=>by rw[e i hi];omega) y
 rw[vf hy] at h1
 have:k*bJ n x y=0:=by omega
 rcases Int.mul_eq_zero.mp this with z | z
 ·exact absurd z hk
 ·exact z
theorem rX{T:List Int}{R:List (List Int)}(hT:T.length=R.length)(c:Int)(r:List Int)(i:Nat):iT (T++[c]) (R++[r]) i=iT T R i+c*nth r i:=by
 unfold iT
 rw[List.length_append,List.length_singleton,aV]
 congr 1
 ·refine bK λj hj=> ?_
  simp only[nth,List.getD_eq_getElem?_getD]
  rw[List.getElem?_append_left (by omega),List.getElem?_append_left hj]
 ·simp only[nth,List.getD_eq_getElem?_getD]
  rw[List.getElem?_append_right (by omega),List.getElem?_append_right (by omega),hT]
  simp
def lG(n a:Nat):List Int:=(List.replicate n 0).set a 1
theorem jD{n a:Nat}(ha:a<n)(i:Nat):nth (lG n a) i=if i=a then 1 else 0:=by
 unfold lG nth
 rw[List.getD_eq_getElem?_getD,List.getElem?_set]
 by_cases h:a=i
 ·subst h;simp[ha]
 ·rw[if_neg h,if_neg (λz=>h z.symm)]
  rw[List.getElem?_replicate]
  split <;> rfl
def fH(n:Nat):List (List Int):=(List.range n).map (lG n)
def aH(a b:List Int):Int:=(List.zipWith (· * ·) a b).sum
def fO(lists:List (List Int))(row:List Int):List (List Int):=
 match jG (lists.map (aH row)) with
 | none=>lists
 | some k=>(lists.eraseIdx k).map λone=>dU one (aH row one) (lists.getD k []) (aH row (lists.getD k []))
def nD(rows:List (List Int))(n:Nat):List (List Int):=rows.foldl fO (fH n)
def aX(rows:List (List Int))(n:Nat):List (List Int):=bG (nD rows n) n
theorem wU:∀(a b:List Int),aH a b=aV b.length λi=>nth a i*nth b i
 | _,[]=>by unfold aH;simp[aV]
 | [],b::r=>by
  unfold aH
  rw[d8 λi _=>by unfold nth;simp]
  simp
 | a::l,b::r=>by
  have ih:=wU l r
  unfold aH at *
  rw[List.zipWith_cons_cons,List.sum_cons,ih,List.length_cons]
  have:∀(n:Nat) (f:Nat->Int),aV (n+1) f=f 0+aV n λi=>f (i+1):=by
   intro n f
   induction n with
   | zero=>simp[aV]
   | succ n ih2=>rw[aV,ih2,aV];omega
  rw[this]
  congr 1
theorem jW{n:Nat}{a b:List Int}(hb:b.length=n):aH a b=bJ n (nth a) (nth b):=by rw[wU,hb];rfl
structure SSt(n:Nat)(R lists:List (List Int)):Prop where
 len:∀l∈lists,l.length=n
 nul:∀r∈R,∀l∈lists,bJ n (nth r) (nth l)=0
 spn:∀x,dD n lists x->jJ n R x
theorem C8(n:Nat):SSt n [] (fH n):=by
 refine⟨λl hl=> ?_,λr hr=>by simp at hr,λx hx=>⟨1,by decide,[],rfl,λi hi=> ?_⟩⟩
 ·obtain⟨a,_,rfl⟩:=List.mem_map.mp hl
  unfold lG;simp
 ·have:=hx (lG n i) (List.mem_map.mpr ⟨i,List.mem_range.mpr hi,rfl⟩)
  unfold cH at this
  rw[ju hi (λj _ hj=>by rw[jD hi,if_neg hj];omega),jD hi,if_pos rfl] at this
  rw[show iT [] [] i=0 from rfl]
  omega
theorem xm{n:Nat}{R lists:List (List Int)}{row:List Int}(hr:row.length=n)(s:SSt n R lists):SSt n (R++[row]) (fO lists row):=by
 unfold fO
 split
 ·rename_i e
  have z:∀l∈lists,aH row l=0:=λl hl=>mH e _ (List.mem_map.mpr ⟨l,hl,rfl⟩)
  refine⟨s.len,λr hr' l hl=> ?_,λx hx=> ?_⟩
  ·rcases List.mem_append.mp hr' with q | q
   ·exact s.nul r q l hl
   ·rw[List.mem_singleton.mp q,<- jW (s.len l hl)];exact z l hl
  ·obtain⟨k,hk,T,hT,e⟩:=s.spn x hx
   exact⟨k,hk,T++[0],by simp[hT],λi hi=>by rw[rX hT,e i hi];omega⟩
 ·rename_i k e
  obtain⟨k1,k2,_⟩:=iz e
  rw[List.length_map] at k1
  have hm:=getD_mem k1
  have hperm:lists.Perm (lists.getD k []::lists.eraseIdx k):=by
   rw[List.getD_eq_getElem?_getD,List.getElem?_eq_getElem k1]
   exact oB k1
  have hv:nth (lists.map (aH row)) k=aH row (lists.getD k []):=by
   unfold nth
   simp only[List.getD_eq_getElem?_getD,List.getElem?_map,List.getElem?_eq_getElem k1]
   rfl
  rw[hv] at k2
  generalize lists.getD k []=base at *
  have hbl:=s.len base hm
  have sub:∀l∈lists.eraseIdx k,l∈lists:=λl hl=>List.mem_of_mem_eraseIdx hl
  refine⟨λl hl=> ?_,λr hr' l hl=> ?_,λx hx=> ?_⟩
  ·obtain⟨q,hq,rfl⟩:=List.mem_map.mp hl
   rw[kE (by rw[hbl,s.len q (sub q hq)]),s.len q (sub q hq)]
  ·obtain⟨q,hq,rfl⟩:=List.mem_map.mp hl
   have hql:=s.len q (sub q hq)
   obtain⟨g,hg,e⟩:=qV (n:=n) (one:=q) (other:=base) (by rw[hbl,hql]) (aH row q) (aH row base) (nth r)
   rw[bM]
   simp only[fM] at e
   rw[bM n (nth q),bM n (nth base)] at e
   have z:g*bJ n (nth (dU q (aH row q) base (aH row base))) (nth r)=0:=by
    rcases List.mem_append.mp hr' with q' | q'
    ·rw[e,s.nul r q' q (sub q hq),s.nul r q' base hm];omega
    ·rw[List.mem_singleton.mp q'] at e ⊢
     rw[e,<- jW hql,<- jW hbl]
     grind
   rcases Int.mul_eq_zero.mp z with z | z
   ·omega
   ·exact z
  ·have hc:∀l∈lists,aH row base*cH n l x=aH row l*cH n base x:=λl hl=>by
    rcases List.mem_cons.mp (hperm.mem_iff.mp hl) with rfl | hl'
    ·rfl
    ·obtain⟨g,hg,e⟩:=qV (n:=n) (one:=l) (other:=base) (by rw[hbl,s.len l hl]) (aH row l) (aH row base) x
     rw[hx _ (List.mem_map.mpr ⟨l,hl',rfl⟩)] at e
     omega
   have hx':dD n lists (λi=>aH row base*x i+(-(cH n base x))*nth row i):=λl hl=>by
    rw[fM,uj,<- fM,hc l hl,bM,<- jW (s.len l hl)]
    grind
   obtain⟨k',hk',T,hT,e'⟩:=s.spn _ hx'
   refine⟨k'*aH row base,Int.mul_ne_zero hk' k2,T++[k'*cH n base x],by simp[hT],λi hi=> ?_⟩
   rw[rX hT,<- e' i hi]
   grind
theorem r8{n:Nat}:∀{rows:List (List Int)},(∀r∈rows,r.length=n)->∀{R lists:List (List Int)},SSt n R lists->SSt n (R++rows) (rows.foldl fO lists)
 | [],_,R,lists,s=>by simpa using s
 | row::rows,h,R,lists,s=>by
  have:=r8 (rows:=rows) (λr hr=>h r (List.mem_cons_of_mem _ hr)) (xm (h row List.mem_cons_self) s)
  simpa using this
theorem mj{n:Nat}{rows:List (List Int)}(h:∀r∈rows,r.length=n):SSt n rows (nD rows n):=by
 have:=r8 h (C8 n)
 rw[List.nil_append] at this
 exact this
theorem kg{n:Nat}{rows:List (List Int)}(h:∀r∈rows,r.length=n):
 ∃P,aX rows n=P.map (·.2)/\Pl n P/\(∀r∈rows,∀l∈aX rows n,bJ n (nth l) (nth r)=0)/\∀x,dD n (aX rows n) x->jJ n rows x:=by
 have s:=mj h
 obtain⟨P,e,pl,_,nu⟩:=iq (n:=n) (rows:=nD rows n) s.len
 refine⟨P,e,pl,λr hr l hl=> ?_,λx hx=>s.spn x ((nu x).mp hx)⟩
 have:dD n (nD rows n) (nth r):=λl hl=>by rw[fM,bM];exact s.nul r hr l hl
 exact(nu _).mpr this l hl
theorem nY{n:Nat}{rows:List (List Int)}(h:∀r∈rows,r.length=n)(x:Nat->Int):dD n (aX rows n) x↔jJ n rows x:=by
 obtain⟨P,_,_,h1,h2⟩:=kg h
 refine⟨h2 x,λs l hl=> ?_⟩
 rw[fM,bM]
 exact s.dot λr hr=>by rw[fM,bM];exact h1 r hr l hl
end M
set_option maxRecDepth 100000
set_option maxHeartbeats 4000000
namespace M
def gc(P:List (Nat×List Int)):Int:=(P.map λp=>nth p.2 p.1).foldr (· * ·) 1
theorem r9:∀{P:List (Nat×List Int)},(∀p∈P,0<nth p.2 p.1)->0<gc P
 | [],_=>by decide
 | p::P,h=>Int.mul_pos (h p List.mem_cons_self) (r9 λq hq=>h q (List.mem_cons_of_mem _ hq))
theorem oN:∀{P:List (Nat×List Int)} {p:Nat×List Int},p∈P->nth p.2 p.1 ∣ gc P
 | q::P,p,h=>by
  rcases List.mem_cons.mp h with rfl | h
  ·exact Int.dvd_mul_right _ _
  ·exact Int.dvd_trans (oN h) (Int.dvd_mul_left _ _)
def og(P:List (Nat×List Int))(L:Int)(f i:Nat):Int:=(P.map λp=>if i=p.1 then nth p.2 f*(L/nth p.2 p.1) else 0).sum
def gD(P:List (Nat×List Int))(f i:Nat):Int:=(if i=f then gc P else 0)-og P (gc P) f i
theorem iy{L:Int}{f i:Nat}:∀{P:List (Nat×List Int)},(∀p∈P,p.1≠i)->og P L f i=0
 | [],_=>rfl
 | p::P,h=>by
  unfold og
  rw[List.map_cons,List.sum_cons,if_neg (λz=>h p List.mem_cons_self z.symm)]
  have:=iy (L:=L) (f:=f) (i:=i) (P:=P) λq hq=>h q (List.mem_cons_of_mem _ hq)
  unfold og at this
  omega
theorem qS{L:Int}{f:Nat}:∀{P:List (Nat×List Int)} {p:Nat×List Int},P.Pairwise (λp q=>p.1<q.1/\nth p.2 q.1=0)->p∈P->og P L f p.1=nth p.2 f*(L/nth p.2 p.1)
 | q::P,p,pw,h=>by
  have h0:=List.pairwise_cons.mp pw
  rcases List.mem_cons.mp h with rfl | hp'
  ·have:=iy (L:=L) (f:=f) (i:=p.1) (P:=P) λr hr=>by have:=(h0.1 r hr).1;omega
   unfold og at *
   rw[List.map_cons,List.sum_cons,if_pos rfl,this]
   omega
  ·have ih:=qS (L:=L) (f:=f) h0.2 hp'
   have:=(h0.1 p hp').1
   unfold og at *
   rw[List.map_cons,List.sum_cons,if_neg (by omega),ih]
   omega
theorem Pl.other{n:Nat}{P:List (Nat×List Int)}(pl:Pl n P):∀{p q:Nat×List Int},p∈P->q∈P->p.1≠q.1->nth p.2 q.1=0:=by
 intro p q hp hq hne
 by_cases h:q.1<p.1
 ·exact(pl.good p hp).zero _ h
 ·have:∀{P:List (Nat×List Int)},P.Pairwise (λp q=>p.1<q.1/\nth p.2 q.1=0)->p∈P->q∈P->p.1<q.1->nth p.2 q.1=0:=by
   intro P pw hp hq hlt
   induction P with
   | nil=>cases hp
   | cons r P ih=>
    have h0:=List.pairwise_cons.mp pw
    rcases List.mem_cons.mp hp with rfl | hp
    ·rcases List.mem_cons.mp hq with rfl | hq
     ·omega
     ·exact(h0.1 q hq).2
    ·rcases List.mem_cons.mp hq with rfl | hq
     ·have:=(h0.1 p (by assumption)).1;omega
     ·exact ih h0.2 hp hq
  exact this pl.pw hp hq (by omega)
theorem CD{n f c:Nat}(hf:f<n)(hc:c<n)(hne:f≠c){g:Nat->Int}(h:∀i,i<n->i≠f->i≠c->g i=0):aV n g=g f+g c:=by
 have:aV n g=aV n (λi=>if i=f then g f else 0)+aV n (λi=>if i=c then g c else 0):=by
  rw[<- nZ]
  refine bK λi hi=> ?_
  by_cases h1:i=f
  ·subst h1;rw[if_pos rfl,if_neg hne];omega
  ·by_cases h2:i=c
   ·subst h2;rw[if_neg h1,if_pos rfl];omega
   ·rw[if_neg h1,if_neg h2,h i hi h1 h2];rfl
 rw[this,ju hf (λi _ hi=>by rw[if_neg hi]),ju hc (λi _ hi=>by rw[if_neg hi]),if_pos rfl,if_pos rfl]
theorem tU{n:Nat}{P:List (Nat×List Int)}(pl:Pl n P){f:Nat}(hf:f<n)(hfree:∀p∈P,p.1≠f){p:Nat×List Int}(hp:p∈P){r:List Int}(hr:∀q∈P,q.1≠p.1->nth r q.1=0):
 cH n r (gD P f)=nth r f*gc P-nth r p.1*(nth p.2 f*(gc P/nth p.2 p.1)):=by
 unfold cH
 rw[CD hf (pl.good p hp).lt (λz=>hfree p hp z.symm) (λi _ h1 h2=> ?_)]
 ·have e1:gD P f f=gc P:=by
   unfold gD;rw[if_pos rfl,iy hfree];omega
  have e2:gD P f p.1= -(nth p.2 f*(gc P/nth p.2 p.1)):=by
   unfold gD;rw[if_neg (hfree p hp),qS pl.pw hp];omega
  rw[e1,e2];grind
 ·by_cases hq:∃q∈P,q.1=i
  ·obtain⟨q,hq,rfl⟩:=hq
   rw[hr q hq h2];omega
  ·have:gD P f i=0:=by
    unfold gD
    rw[if_neg h1,iy λq hq' z=>hq ⟨q,hq',z⟩];rfl
   rw[this];omega
theorem nX{n:Nat}{P:List (Nat×List Int)}(pl:Pl n P){f:Nat}(hf:f<n)(hfree:∀p∈P,p.1≠f):dD n (P.map (·.2)) (gD P f):=by
 intro r hr
 obtain⟨p,hp,rfl⟩:=List.mem_map.mp hr
 rw[tU pl hf hfree hp λq hq h=>pl.other hp hq λz=>h z.symm]
 have hd:=oN hp
 have hpos:=(pl.good p hp).pos
 obtain⟨k,hk⟩:=hd
 have:gc P/nth p.2 p.1=k:=by rw[hk,Int.mul_ediv_cancel_left _ (by omega)]
 rw[this,hk];grind
theorem zj{n:Nat}{P:List (Nat×List Int)}(pl:Pl n P){f:Nat}(hfree:∀p∈P,p.1≠f){i:Nat}(hi:f<i):gD P f i=0:=by
 unfold gD
 rw[if_neg (by omega)]
 by_cases hq:∃q∈P,q.1=i
 ·obtain⟨q,hq,rfl⟩:=hq
  rw[qS pl.pw hq,(pl.good q hq).zero f hi];omega
 ·rw[iy λq hq' z=>hq ⟨q,hq',z⟩];rfl
theorem Pl.leads_pos{n:Nat}{P:List (Nat×List Int)}(pl:Pl n P):0<gc P:=r9 λp hp=>(pl.good p hp).pos
theorem p7{n:Nat}{P Q:List (Nat×List Int)}(pl:Pl n P)(ql:Pl n Q)(h:∀x,dD n (Q.map (·.2)) x->dD n (P.map (·.2)) x){p:Nat×List Int}(hp:p∈P):∃q∈Q,q.1=p.1:=by
 apply Classical.byContradiction
 intro hn
 have hfree:∀q∈Q,q.1≠p.1:=λq hq z=>hn ⟨q,hq,z⟩
 have g:=pl.good p hp
 have:=h _ (nX ql g.lt hfree) p.2 (List.mem_map.mpr ⟨p,hp,rfl⟩)
 unfold cH at this
 rw[ju g.lt λi _ hi=> ?_] at this
 ·have e:gD Q p.1 p.1=gc Q:=by unfold gD;rw[if_pos rfl,iy hfree];omega
  rw[e] at this
  have h1:=ql.leads_pos
  have h2:=g.pos
  have:=Int.mul_pos h2 h1
  omega
 ·by_cases hlt:i<p.1
  ·rw[g.zero i hlt];omega
  ·rw[zj ql hfree (by omega)];omega
theorem ui:∀{l m:List Nat},l.Pairwise (· < ·)->m.Pairwise (· < ·)->(∀x,x∈l↔x∈m)->l=m
 | [],[],_,_,_=>rfl
 | [],b::m,_,_,h=>by have:=(h b).mpr List.mem_cons_self;cases this
 | a::l,[],_,_,h=>by have:=(h a).mp List.mem_cons_self;cases this
 | a::l,b::m,hl,hm,h=>by
  have h1:=List.pairwise_cons.mp hl
  have h2:=List.pairwise_cons.mp hm
  have hab:a=b:=by
   rcases List.mem_cons.mp ((h a).mp List.mem_cons_self) with e | e
   ·exact e
   ·rcases List.mem_cons.mp ((h b).mpr List.mem_cons_self) with e' | e'
    ·exact e'.symm
    ·have:=h1.1 b e';have:=h2.1 a e;omega
  subst hab
  congr 1
  refine ui h1.2 h2.2 λx=>⟨λhx=> ?_,λhx=> ?_⟩
  ·rcases List.mem_cons.mp ((h x).mp (List.mem_cons_of_mem _ hx)) with e | e
   ·have:=h1.1 x hx;omega
   ·exact e
  ·rcases List.mem_cons.mp ((h x).mpr (List.mem_cons_of_mem _ hx)) with e | e
   ·have:=h2.1 x hx;omega
   ·exact e
theorem wJ(a:Int)(r:List Int):dj (r.map (a * ·))=a.natAbs*dj r:=by
 unfold dj
 have:∀(l:List Int) (c:Nat),(l.map (a * ·)).foldl (λc n=>Nat.gcd c n.natAbs) (a.natAbs*c)=a.natAbs*l.foldl (λc n=>Nat.gcd c n.natAbs) c:=by
  intro l
  induction l with
  | nil=>intro c;rfl
  | cons b l ih=>intro c;simp only[List.map_cons,List.foldl_cons,Int.natAbs_mul,Nat.gcd_mul_left];exact ih _
 exact this r 0
theorem pE{r s:List Int}(hl:r.length=s.length)(h:∀i,i<r.length->nth r i=nth s i):r=s:=by
 refine List.ext_getElem hl λi h1 h2=> ?_
 have:=h i h1
 unfold nth at this
 simpa[List.getD_eq_getElem?_getD,h1,h2] using this
theorem yL{r s:List Int}(hl:r.length=s.length)(h1:dj r=1)(h2:dj s=1){a b:Int}(ha:0<a)(hb:0<b)(h:∀i,i<r.length->a*nth r i=b*nth s i):r=s:=by
 have e:r.map (a * ·)=s.map (b * ·):=pE (by simp[hl]) λi hi=>by
  rw[kC (by simp),kC (by simp)];exact h i (by simpa using hi)
 have e2:=wJ a r
 rw[e,wJ,h1,h2] at e2
 have hab:a=b:=by omega
 subst hab
 exact pE hl λi hi=>Int.eq_of_mul_eq_mul_left (by omega) (h i hi)
theorem zN{n:Nat}{P Q:List (Nat×List Int)}(pl:Pl n P)(ql:Pl n Q)(h:∀x,dD n (P.map (·.2)) x↔dD n (Q.map (·.2)) x):P=Q:=by
 have hf:P.map (·.1)=Q.map (·.1):=by
  refine ui (List.pairwise_map.mpr (pl.pw.imp λh=>h.1)) (List.pairwise_map.mpr (ql.pw.imp λh=>h.1)) λx=>⟨λhx=> ?_,λhx=> ?_⟩
  ·obtain⟨p,hp,rfl⟩:=List.mem_map.mp hx
   obtain⟨q,hq,e⟩:=p7 pl ql (λx=>(h x).mpr) hp
   exact List.mem_map.mpr ⟨q,hq,e⟩
  ·obtain⟨p,hp,rfl⟩:=List.mem_map.mp hx
   obtain⟨q,hq,e⟩:=p7 ql pl (λx=>(h x).mp) hp
   exact List.mem_map.mpr ⟨q,hq,e⟩
 have key:∀p∈P,∀q∈Q,p.1=q.1->p.2=q.2:=λp hp q hq hpq=>by
  have gp:=pl.good p hp
  have gq:=ql.good q hq
  refine yL (by rw[gp.len,gq.len]) gp.one gq.one (a:=nth q.2 q.1) (b:=nth p.2 p.1) gq.pos gp.pos λi hi=> ?_
  by_cases hpiv:∃p'∈P,p'.1=i
  ·obtain⟨p',hp',rfl⟩:=hpiv
   by_cases hc:p'.1=p.1
   ·rw[hc,<- hpq];grind
   ·obtain⟨q',hq',e⟩:=p7 pl ql (λx=>(h x).mpr) hp'
    rw[pl.other hp hp' (λz=>hc z.symm),<- e,ql.other hq hq' (by omega)];omega
  ·have hfree:∀p∈P,p.1≠i:=λp' hp' z=>hpiv ⟨p',hp',z⟩
   have hi':i<n:=by rw[gp.len] at hi;exact hi
   have:=(h _).mp (nX pl hi' hfree) q.2 (List.mem_map.mpr ⟨q,hq,rfl⟩)
   rw[tU pl hi' hfree hp (r:=q.2) λp' hp' hne=>by
    obtain⟨q',hq',e⟩:=p7 pl ql (λx=>(h x).mpr) hp'
    rw[<- e];exact ql.other hq hq' (by omega)] at this
   obtain⟨k,hk⟩:=oN hp
   have hpos:=gp.pos
   have e1:gc P/nth p.2 p.1=k:=by rw[hk,Int.mul_ediv_cancel_left _ (by omega)]
   have hk0:k≠0:=λz=>by have:=pl.leads_pos;rw[hk,z] at this;omega
   rw[e1,hk,hpq] at this
   have:k*(nth q.2 q.1*nth p.2 i-nth p.2 p.1*nth q.2 i)=0:=by rw[hpq];grind
   rcases Int.mul_eq_zero.mp this with z | z
   ·exact absurd z hk0
   ·omega
 have hlen:P.length=Q.length:=by have:=congrArg List.length hf;simpa using this
 refine List.ext_getElem hlen λi h1 h2=> ?_
 have e1:P[i].1=Q[i].1:=by
  have:(P.map (·.1))[i]'(by simpa using h1)=(Q.map (·.1))[i]'(by simpa using h2):=by simp only[hf]
  simpa using this
 exact Prod.ext e1 (key _ (List.getElem_mem h1) _ (List.getElem_mem h2) e1)
theorem uq{n:Nat}{R S:List (List Int)}(hR:∀r∈R,r.length=n)(hS:∀r∈S,r.length=n)(h:∀x,dD n R x↔dD n S x):bG R n=bG S n:=by
 obtain⟨P,e1,p1,_,n1⟩:=iq hR
 obtain⟨Q,e2,p2,_,n2⟩:=iq hS
 have:P=Q:=zN p1 p2 λx=>by rw[<- e1,<- e2];exact(n1 x).trans ((h x).trans (n2 x).symm)
 rw[e1,e2,this]
theorem lH{n:Nat}{R:List (List Int)}(hR:∀r∈R,r.length=n):∀r∈bG R n,r.length=n:=by
 obtain⟨P,e1,p1,_⟩:=iq hR
 rw[e1]
 intro r hr
 obtain⟨p,hp,rfl⟩:=List.mem_map.mp hr
 exact(p1.good p hp).len
theorem qD{n:Nat}{R:List (List Int)}(hR:∀r∈R,r.length=n):bG (bG R n) n=bG R n:=by
 obtain⟨P,e1,p1,_,n1⟩:=iq hR
 exact uq (lH hR) hR n1
theorem oH{n:Nat}{R:List (List Int)}(hR:∀r∈R,r.length=n):∀r∈aX R n,r.length=n:=lH (mj hR).len
theorem qu{n:Nat}{R:List (List Int)}(hR:∀r∈R,r.length=n):aX (aX R n) n=bG R n:=by
 have hS:=oH hR
 obtain⟨P,_,_,h1,h2⟩:=kg hR
 obtain⟨Q,_,_,h3,h4⟩:=kg hS
 have hSS:=oH hS
 rw[<- qD hR]
 have:aX (aX R n) n=bG (aX (aX R n) n) n:=(qD (R:=nD (aX R n) n) (mj hS).len).symm
 rw[this]
 refine uq hSS (lH hR) λx=> ?_
 obtain⟨_,_,_,_,n1⟩:=iq hR
 rw[n1,nY hS]
 constructor
 ·intro s r hr
  rw[fM,bM]
  exact s.dot λl hl=>h1 r hr l hl
 ·intro hx
  refine h4 x λl hl=> ?_
  have:dD n (aX R n) (nth l):=λq hq=>by rw[fM,bM];exact h3 q hq l hl
  exact(h2 _ this).dot hx
end M
set_option maxRecDepth 100000
set_option maxHeartbeats 4000000
namespace M
def SzL(b:Nat)(r:List Int):Prop:=∀x∈r,Sz b x
def kq(b:Nat)(R:List (List Int)):Prop:=∀r∈R,SzL b r
theorem SzL.mono{b c:Nat}{r:List Int}(h:SzL b r)(hbc:b<=c):SzL c r:=λx hx=>(h x hx).mono hbc
theorem kq.mono{b c:Nat}{r:List (List Int)}(h:kq b r)(hbc:b<=c):kq c r:=λx hx=>(h x hx).mono hbc
theorem Sz.zero(b:Nat):Sz b 0:=by unfold Sz;simp;exact Nat.two_pow_pos b
theorem SzL.nth{b:Nat}{r:List Int}(h:SzL b r)(i:Nat):Sz b (M.nth r i):=by
 by_cases hi:i<r.length
 ·exact h _ (pS hi)
 ·rw[kl (by omega)];exact Sz.zero b
theorem SzL.low{b:Nat}{r:List Int}(h:SzL b r):SzL b (M.low r):=by
 intro x hx
 unfold M.low at hx
 split at hx
 ·exact h x hx
 ·obtain⟨y,hy,rfl⟩:=List.mem_map.mp hx
  exact Nat.lt_of_le_of_lt (Int.natAbs_ediv_le_natAbs y _) (h y hy)
theorem SzL.mix{b1 b2 bv bw:Nat}{one other:List Int}{v w:Int}(h1:SzL b1 one)(h2:SzL b2 other)(hv:Sz bv v)(hw:Sz bw w):SzL (max (b1+bw) (b2+bv)+1) (ng one v other w):=by
 intro x hx
 unfold ng at hx
 obtain⟨i,hi,e⟩:=List.getElem_of_mem hx
 rw[List.getElem_zipWith] at e
 subst e
 exact Sz.sub (Sz.mul (h1 _ (List.getElem_mem _)) hw) (Sz.mul (h2 _ (List.getElem_mem _)) hv)
theorem SzL.off{b1 b2 bv bw:Nat}{one other:List Int}{v w:Int}(h1:SzL b1 one)(h2:SzL b2 other)(hv:Sz bv v)(hw:Sz bw w):SzL (max (b1+bw) (b2+bv)+1) (dU one v other w):=(SzL.mix h1 h2 hv hw).low
theorem SzL.sgn{b:Nat}{r:List Int}(h:SzL b r)(a:Nat):SzL b (il r a):=by
 unfold il
 split
 ·exact h
 ·intro x hx
  obtain⟨y,hy,rfl⟩:=List.mem_map.mp hx
  exact(h y hy).neg
theorem SzL.clr{b:Nat}{row lead:List Int}(h1:SzL b row)(h2:SzL b lead)(a:Nat):SzL (2*b+1) (eR lead a row):=by
 unfold eR
 split
 ·exact h1.mono (by omega)
 ·exact(SzL.off h1 h2 (h1.nth a) (h2.nth a)).mono (by omega)
theorem ph{b a:Nat}{left done:List (List Int)}(h1:kq b left)(h2:kq b done):kq (2*b+1) (cN (left,done) a).1/\kq (2*b+1) (cN (left,done) a).2:=by
 unfold cN
 dsimp only
 split
 ·exact⟨h1.mono (by omega),h2.mono (by omega)⟩
 ·rename_i k e
  have k1:=(iz e).1
  rw[List.length_map] at k1
  have hl:SzL b (il (left.getD k []) a):=SzL.sgn (h1 _ (getD_mem k1)) a
  refine⟨λr hr=> ?_,λr hr=> ?_⟩
  ·obtain⟨q,hq,rfl⟩:=List.mem_map.mp hr
   exact SzL.clr (h1 q (List.mem_of_mem_eraseIdx hq)) hl a
  ·rcases List.mem_append.mp hr with hr | hr
   ·obtain⟨q,hq,rfl⟩:=List.mem_map.mp hr
    exact SzL.clr (h2 q hq) hl a
   ·rw[List.mem_singleton.mp hr];exact hl.mono (by omega)
def grow(b p:Nat):Nat:=2^p*(b+1)-1
theorem As(b:Nat):grow b 0=b:=by unfold grow;simp
theorem um(b p:Nat):2*grow b p+1=grow b (p+1):=by
 unfold grow
 have h:0<2^p*(b+1):=Nat.mul_pos (Nat.two_pow_pos p) (Nat.succ_pos b)
 have e:2^(p+1)*(b+1)=2*(2^p*(b+1)):=by rw[Nat.pow_succ,Nat.mul_comm (2^p) 2,Nat.mul_assoc]
 rw[e]
 omega
theorem oV{a:Nat}{left done:List (List Int)}:((cN (left,done) a)=(left,done))\/(cN (left,done) a).2.length=done.length+1:=by
 unfold cN
 dsimp only
 split
 ·exact .inl rfl
 ·exact .inr (by simp)
structure PSz(n b a:Nat)(rows:List (List Int))(left done:List (List Int)):Prop where
 eq:(List.range a).foldl cN (rows.map low,[])=(left,done)
 ll:∀r∈left,r.length=n
 dl:∀r∈done,r.length=n
 cnt:left.length+done.length=rows.length
 ls:kq (grow b done.length) left
 ds:kq (grow b done.length) done
theorem PSz.start{n b:Nat}{rows:List (List Int)}(hl:∀r∈rows,r.length=n)(hs:kq b rows):PSz n b 0 rows (rows.map low) []:=by
 refine⟨rfl,λr hr=> ?_,by simp,by simp,λr hr=> ?_,λr hr=>by cases hr⟩
 ·obtain⟨q,hq,rfl⟩:=List.mem_map.mp hr
  rw[low_length];exact hl q hq
 ·obtain⟨q,hq,rfl⟩:=List.mem_map.mp hr
  rw[List.length_nil,As]
  exact(hs q hq).low
theorem PSz.step{n b a:Nat}{rows left done:List (List Int)}(h:PSz n b a rows left done)(hl:∀r∈rows,r.length=n)(ha:a<n):PSz n b (a+1) rows (cN (left,done) a).1 (cN (left,done) a).2:=by
 have eq':(List.range (a+1)).foldl cN (rows.map low,[])=cN (left,done) a:=by
  rw[List.range_succ,List.foldl_append,h.eq];rfl
 obtain⟨l',P',e,s,c,_⟩:=qN (n:=n) (left:=rows.map low) (λr hr=>by
  obtain⟨q,hq,rfl⟩:=List.mem_map.mp hr
  rw[low_length];exact hl q hq) (λr hr=>by
  obtain⟨q,hq,rfl⟩:=List.mem_map.mp hr
  exact nN q) (a+1) (by omega)
 rw[eq'] at e
 refine⟨eq',λr hr=> ?_,λr hr=> ?_, ?_, ?_, ?_⟩
 ·rw[e] at hr;exact s.ll r hr
 ·rw[e] at hr
  obtain⟨p,hp,rfl⟩:=List.mem_map.mp hr
  exact(s.pl.good p hp).len
 ·rw[e];simp;simpa using c
 ·rcases oV (a:=a) (left:=left) (done:=done) with q | q
  ·rw[q];exact h.ls
  ·rw[q,<- um];exact(ph h.ls h.ds).1
 ·rcases oV (a:=a) (left:=left) (done:=done) with q | q
  ·rw[q];exact h.ds
  ·rw[q,<- um];exact(ph h.ls h.ds).2
theorem PSz.done{n b:Nat}{rows left done:List (List Int)}(h:PSz n b n rows left done):bG rows n=done:=by unfold bG;rw[h.eq]
end M
set_option maxRecDepth 100000
set_option maxHeartbeats 4000000
namespace M
open PySem PySem.Spec PyProof.Rows L2
section
variable {s s1 : S} {d : D}
@[simp] theorem E2 (m:AM) (s:S):nL m s=(m s).bind λx=>match x.1 with
 | [.lst as,.lst bs]=>.ok ((oy as bs,none),x.2)
 | _=>.bad:=rfl
@[simp] theorem lb (m:AM) (s:S):gF m s=(m s).bind λx=>match x.1 with
 | [.lst as]=>.ok ((et as,none),x.2)
 | _=>.bad:=rfl
@[simp] theorem DW (m:EM) (s:S):zi m s=(m s).bind λx=>match x.1 with
 | .str z=>.ok ((lV z,none),x.2)
 | _=>.bad:=rfl
@[simp] theorem Bm (f g:Op2) (a b c:EM) (s:S):pq f g a b c s=(a s).bind λx=>(b x.2).bind λy=>(f y.2.o x.1 y.1).bind λz=>match z with
 | .bl true=>(c y.2).bind λw=>(g w.2.o y.1 w.1).bind λd=>.ok (d,w.2)
 | .bl false=>.ok (.bl false,y.2)
 | _=>.bad:=rfl
@[simp] theorem Il (n:Nat) (f:FM) (m:AM) (s:S):Hl n f m s=(m s).bind λx=>if x.1.length=n then (match f x.1 x.2.o with
 | .ok (d,O1)=>.ok (d,⟨x.2.r,O1⟩)
 | _=>.bad) else .bad:=rfl
@[simp] theorem Jm (m:EM) (s:S):Ik m s=(m s).bind λx=>match lsD x.2.o x.1 with
 | some ds=>.ok (!ds.isEmpty,x.2)
 | none=>.bad:=rfl
@[simp] theorem Je (fin:S->List D->Res (D×S)) (ma:AM) (mk:EM) (s:S):IJ fin ma mk s=(ma s).bind λx=>if x.1.length<=16777216 then (mk x.2).bind λy=>match y.1 with
 | .int k=>if (-(2^63)<=k/\k<2^63)/\x.1.length*k.toNat<=16777216 then fin y.2 (G0 k x.1) else .bad
 | _=>.bad
 else .bad:=rfl
@[simp] theorem Jo (s:S) (ds:List D):ze s ds=.ok (.lst ds,s):=rfl
@[simp] theorem Jk (s:S) (ds:List D):Ir s ds=.ok (.ptr s.o.length,⟨s.r,s.o++[.lst ds]⟩):=rfl
@[simp] theorem Jb (O:aD):isD O .non .non=.ok (.bl true):=rfl
@[simp] theorem IW (O:aD) (i:Int):isD O (.int i) .non=.ok (.bl false):=rfl
@[simp] theorem IZ (O:aD) (i:List D):isD O (.lst i) .non=.ok (.bl false):=rfl
@[simp] theorem IX (O:aD) (i:List D):isD O (.tup i) .non=.ok (.bl false):=rfl
@[simp] theorem Ho (O:aD):rQ O .non .non=.ok (.bl false):=rfl
@[simp] theorem Hs (O:aD) (i:Int):rQ O (.int i) .non=.ok (.bl true):=rfl
@[simp] theorem Hu (O:aD) (i:List D):rQ O (.lst i) .non=.ok (.bl true):=rfl
@[simp] theorem Hh (O:aD) (i:List D):rQ O (.tup i) .non=.ok (.bl true):=rfl
@[simp] theorem ou (g h:GM) (a b:D) (s:S):d7 (bA g (bA h eD)) 2 (.tup [a,b]) s=(g a s).bind λs1=>h b s1:=by
 show (g a s).bind (λs1=>(h b s1).bind λs2=>.ok s2)=_
 congr 1
 funext s1
 cases h b s1 <;> rfl
@[simp] theorem xI (ns:List Int):fL (ns.map D.int)=some ns:=by
 induction ns with
 | nil=>rfl
 | cons n ns ih=>rw[List.map_cons,fL,ih];rfl
@[simp] theorem qk (ns:List Bool):i5 (ns.map D.bl)=some ns:=by
 induction ns with
 | nil=>rfl
 | cons n ns ih=>rw[List.map_cons,i5,ih];rfl
@[simp] theorem mT (O:aD) (ns:List Int):mz O [.lst (ns.map D.int)]=.ok (.int ns.sum):=by
 show (match fL (ns.map D.int) with
  | some ns=>Res.ok (D.int ns.sum)
  | none=>.bad)=_
 rw[xI]
@[simp] theorem qO (O:aD) (ns:List Bool):wV O [.lst (ns.map D.bl)]=.ok (.bl (ns.all id)):=by
 show (match i5 (ns.map D.bl) with
  | some ns=>Res.ok (D.bl (ns.all id))
  | none=>.bad)=_
 rw[qk]
@[simp] theorem Io (O:aD) (ns:List Bool):Iq O [.lst (ns.map D.bl)]=.ok (.bl (ns.any id)):=by
 show (match i5 (ns.map D.bl) with
  | some ns=>Res.ok (D.bl (ns.any id))
  | none=>.bad)=_
 rw[qk]
end
theorem qj {α:Type} {ok:aD->Prop} {g:GM} {c:TM} {e:EM} {O:aD} (hok:ok O) (item:α->D) (P:S->Prop) (hP:∀s,P s->s.o=O) (l:List α) (p:α->Bool) (out:α->D)
 (step:∀a∈l,∀s,P s->∃s1 s2,g (item a) s=.ok s1/\c s1=.ok (p a,s2)/\(p a=false->P s2)/\(p a=true->∃s3,e s2=.ok (out a,s3)/\P s3)):
 ∀(acc:List D) (s:S),acc.length+l.length<=16777216->P s->∃s',gQ ok g c e (l.map item) acc s=.ok (acc++(l.filter p).map out,s')/\P s':=by
 induction l with
 | nil=>
  intro acc s _ h
  exact⟨s,by rw[List.map_nil,gQ,if_pos (by rw[hP s h];exact hok)];simp,h⟩
 | cons a l ih=>
  intro acc s hl h
  rw[List.length_cons] at hl
  obtain⟨s1,s2,e1,e2,h2,h3⟩:=step a List.mem_cons_self s h
  rw[List.map_cons,gQ,if_pos ⟨by rw[hP s h];exact hok,by omega⟩,e1,ak,e2,ak]
  cases hp:p a with
  | false=>
   obtain⟨s',e3,h4⟩:=ih (λb hb=>step b (List.mem_cons_of_mem _ hb)) acc s2 (by omega) (h2 hp)
   refine⟨s', ?_,h4⟩
   rw[List.filter_cons_of_neg (by simp[hp])]
   simpa using e3
  | true=>
   obtain⟨s3,e3,h4⟩:=h3 hp
   obtain⟨s',e5,h5⟩:=ih (λb hb=>step b (List.mem_cons_of_mem _ hb)) (acc++[out a]) s3 (by rw[List.length_append,List.length_singleton];omega) h4
   refine⟨s', ?_,h5⟩
   rw[List.filter_cons_of_pos hp]
   simp only[if_true,e3,ak,e5]
   simp
section
variable {α : Type} {caps : List Nat} {im : IM} {c : TM} {e : EM} {s : S} {k : Option Nat} {l : List α} {item out : α → D} {p : α → Bool}
theorem vS (him:im s=.ok ((l.map item,k),s)) (hok:okC (l.map item) k s.o) (hl:l.length<=16777216)
 (hc:∀a∈l,c ⟨some (item a)::caps.map (λi=>(s.r[i]?).getD none),s.o⟩=.ok (p a,⟨some (item a)::caps.map (λi=>(s.r[i]?).getD none),s.o⟩))
 (he:∀a∈l,p a=true->e ⟨some (item a)::caps.map (λi=>(s.r[i]?).getD none),s.o⟩=.ok (out a,⟨some (item a)::caps.map (λi=>(s.r[i]?).getD none),s.o⟩)):
 kD 1 caps im (aO 0) c e s=.ok ((l.filter p).map out,s):=by
 obtain⟨s',e1,x,h1⟩:=qj (ok:=okC (l.map item) k) (g:=aO 0) (c:=c) (e:=e) (O:=s.o) hok item (λs2=>∃x,s2=⟨x::caps.map (λi=>(s.r[i]?).getD none),s.o⟩) (by rintro _ ⟨_,rfl⟩;rfl) l p out (by
  rintro a ha _ ⟨x,rfl⟩
  exact⟨_,_,rfl,hc a ha,λ_=>⟨_,rfl⟩,λhp=>⟨_,he a ha hp,_,rfl⟩⟩) [] ⟨pe 1 caps s.r,s.o⟩ (by simpa using hl) ⟨none,rfl⟩
 rw[vY,him,ak]
 dsimp only
 rw[e1,ak]
 subst h1
 rfl
theorem FK {f g:α->D} (him:im s=.ok ((l.map (λa=>D.tup [f a,g a]),k),s)) (hok:okC (l.map (λa=>D.tup [f a,g a])) k s.o) (hl:l.length<=16777216)
 (hc:∀a∈l,c ⟨some (f a)::some (g a)::caps.map (λi=>(s.r[i]?).getD none),s.o⟩=.ok (p a,⟨some (f a)::some (g a)::caps.map (λi=>(s.r[i]?).getD none),s.o⟩))
 (he:∀a∈l,p a=true->e ⟨some (f a)::some (g a)::caps.map (λi=>(s.r[i]?).getD none),s.o⟩=.ok (out a,⟨some (f a)::some (g a)::caps.map (λi=>(s.r[i]?).getD none),s.o⟩)):
 kD 2 caps im (d7 (bA (aO 0) (bA (aO 1) eD)) 2) c e s=.ok ((l.filter p).map out,s):=by
 obtain⟨s',e1,x,y,h1⟩:=qj (ok:=okC (l.map (λa=>D.tup [f a,g a])) k) (g:=d7 (bA (aO 0) (bA (aO 1) eD)) 2) (c:=c) (e:=e) (O:=s.o) hok (λa=>D.tup [f a,g a]) (λs2=>∃x y,s2=⟨x::y::caps.map (λi=>(s.r[i]?).getD none),s.o⟩) (by rintro _ ⟨_,_,rfl⟩;rfl) l p out (by
  rintro a ha _ ⟨x,y,rfl⟩
  exact⟨_,_,by simp,hc a ha,λ_=>⟨_,_,rfl⟩,λhp=>⟨_,he a ha hp,_,_,rfl⟩⟩) [] ⟨pe 2 caps s.r,s.o⟩ (by simpa using hl) ⟨none,none,rfl⟩
 rw[vY,him,ak]
 dsimp only
 rw[e1,ak]
 subst h1
 rfl
theorem nk(l:List α):l.filter (λ_=>true)=l:=by simp
theorem fY (him:im s=.ok ((l.map item,k),s)) (hok:okC (l.map item) k s.o) (hl:l.length<=16777216)
 (he:∀a∈l,e ⟨some (item a)::caps.map (λi=>(s.r[i]?).getD none),s.o⟩=.ok (out a,⟨some (item a)::caps.map (λi=>(s.r[i]?).getD none),s.o⟩)):
 cJ 1 caps im (aO 0) cM e s=.ok (.lst (l.map out),s):=by
 rw[qU,vS (p:=λ_=>true) him hok hl (λ_ _=>rfl) (λa ha _=>he a ha),ak,nk]
theorem Ea (him:im s=.ok ((l.map item,k),s)) (hok:okC (l.map item) k s.o) (hl:l.length<=16777216)
 (hc:∀a∈l,c ⟨some (item a)::caps.map (λi=>(s.r[i]?).getD none),s.o⟩=.ok (p a,⟨some (item a)::caps.map (λi=>(s.r[i]?).getD none),s.o⟩))
 (he:∀a∈l,p a=true->e ⟨some (item a)::caps.map (λi=>(s.r[i]?).getD none),s.o⟩=.ok (out a,⟨some (item a)::caps.map (λi=>(s.r[i]?).getD none),s.o⟩)):
 cJ 1 caps im (aO 0) c e s=.ok (.lst ((l.filter p).map out),s):=by
 rw[qU,vS him hok hl hc he,ak]
theorem AX {f g:α->D} (him:im s=.ok ((l.map (λa=>D.tup [f a,g a]),k),s)) (hok:okC (l.map (λa=>D.tup [f a,g a])) k s.o) (hl:l.length<=16777216)
 (he:∀a∈l,e ⟨some (f a)::some (g a)::caps.map (λi=>(s.r[i]?).getD none),s.o⟩=.ok (out a,⟨some (f a)::some (g a)::caps.map (λi=>(s.r[i]?).getD none),s.o⟩)):
 cJ 2 caps im (d7 (bA (aO 0) (bA (aO 1) eD)) 2) cM e s=.ok (.lst (l.map out),s):=by
 rw[qU,FK (p:=λ_=>true) him hok hl (λ_ _=>rfl) (λa ha _=>he a ha),ak,nk]
theorem GO (him:im s=.ok ((l.map item,k),s)) (hok:okC (l.map item) k s.o) (hl:l.length<=16777216)
 (he:∀a∈l,e ⟨some (item a)::caps.map (λi=>(s.r[i]?).getD none),s.o⟩=.ok (out a,⟨some (item a)::caps.map (λi=>(s.r[i]?).getD none),s.o⟩)):
 pX 1 caps im (aO 0) cM e s=.ok (.ptr s.o.length,⟨s.r,s.o++[.lst (l.map out)]⟩):=by
 rw[C1,vS (p:=λ_=>true) him hok hl (λ_ _=>rfl) (λa ha _=>he a ha),ak,nk]
end
abbrev vI(r:List Int):D:=.lst (r.map .int)
abbrev vII(R:List (List Int)):D:=.lst (R.map vI)
@[simp] theorem jL (R:List (List Int)):aI (R.map vI)=true:=by
 induction R with
 | nil=>rfl
 | cons r R ih=>simp[ih]
theorem uz(as bs:List Int):oy (as.map D.int) (bs.map D.int)=(as.zip bs).map λp=>.tup [.int p.1,.int p.2]:=by
 unfold oy
 rw[List.zipWith_map,List.zip_eq_zipWith,List.map_zipWith]
theorem DA{O:aD}{r:List Int}{i:Nat}(h:i<r.length):ixD O (vI r) (.int (i:Int))=.ok (.int (nth r i)):=by
 refine ny ?_
 rw[lS (by omega) (by simpa using h)]
 simp[nth,List.getD_eq_getElem?_getD,h]
theorem FE{O:aD}{R:List (List Int)}{i:Nat}(h:i<R.length):ixD O (vII R) (.int (i:Int))=.ok (vI (R.getD i [])):=by
 refine ny ?_
 rw[lS (by omega) (by simpa using h)]
 simp[List.getD_eq_getElem?_getD,h]
theorem iY(n:Nat):cY 0 (n:Int)=(List.range n).map λi=>.int (i:Int):=by
 unfold cY
 simp
theorem nr{n:Nat}(h:n<=1000000):n<=16777216:=Nat.le_trans h (by decide)
theorem zip_map{f:Int->Int->Int}:∀(a b:List Int),(a.zip b).map (λp=>f p.1 p.2)=List.zipWith f a b
 | [],_=>by simp
 | _::_,[]=>by simp
 | x::a,y::b=>by simp[zip_map a b]
theorem yo(a b:List Int):(a.zip b).map (λp=>p.1*p.2)=List.zipWith (· * ·) a b:=zip_map a b
theorem wj{mo mi:EM}{d:D}{s s1 s2:S}{k a:Nat}{ds:List D}(h1:mo s=.ok (.ptr k,s1))(h2:mi s1=.ok (.int (a:Int),s2))(h3:s2.o[k]? =some (.lst ds))(ha:a<ds.length):
 pP mo mi d s=.ok ⟨s2.r,s2.o.set k (.lst (ds.set a d))⟩:=by
 unfold pP
 rw[h1,ak]
 dsimp only
 rw[h2,ak]
 dsimp only
 rw[jv h3]
 dsimp only
 have e:ixN ds.length (a:Int)=some a:=by
  unfold ixN
  rw[if_pos (by omega),if_pos (by omega)]
  simp
 rw[e]
theorem yQ{m:EM}{i:Nat}{s s':S}{d:D}(h:m s=.ok (d,s')):setM i m s=.next ⟨s'.r.set i (some d),s'.o⟩:=by
 show ((m s).bind _).out _=_
 rw[h];rfl
theorem bZ{m:EM}{s s':S}{d:D}(h:m s=.ok (d,s')):cx m s=.ret d s':=by
 show (m s).out _=_
 rw[h];rfl
theorem Dp{c:TM}{a b:SM}{s s':S}(h:c s=.ok (true,s')):ifS c a b s=a s':=by
 show (c s).out _=_
 rw[h];rfl
theorem lM{c:TM}{a b:SM}{s s':S}(h:c s=.ok (false,s')):ifS c a b s=b s':=by
 show (c s).out _=_
 rw[h];rfl
theorem dq{a b:SM}{s s':S}(h:a s=.next s'):aT a b s=b s':=by
 show (a s).then b=_
 rw[h];rfl
theorem wW{a b:SM}{s s':S}{d:D}(h:a s=.ret d s'):aT a b s=.ret d s':=by
 show (a s).then b=_
 rw[h];rfl
theorem dF{n:Nat}{f:FM}{ma:AM}{s s':S}{ds:List D}{d:D}{O:aD}(h:ma s=.ok (ds,s'))(hp:aI ds=true)(hl:ds.length=n)(hf:f ds []=.ok (d,O))(hd:bV d=true):aK n f ma s=.ok (d,s'):=by
 rw[Cm,h,ak,if_pos ⟨hp,hl⟩]
 dsimp only
 rw[hf]
 dsimp only
 rw[if_pos hd]
theorem tS{mo me:EM}{s s1 s2:S}{k:Nat}{ds0 ds:List D}{d:D}(h1:mo s=.ok (.ptr k,s1))(c1:s1.o[k]? =some (.lst ds0))(h2:me s1=.ok (d,s2))(c2:s2.o[k]? =some (.lst ds))(hb:ds.length<=1000000):
 ki mo me s=.ok (.non,⟨s2.r,s2.o.set k (.lst (ds++[d]))⟩):=by
 rw[EU,h1,ak]
 dsimp only
 rw[jv c1]
 dsimp only
 rw[h2,ak]
 dsimp only
 rw[jv c2]
 dsimp only
 rw[if_pos (by omega)]
theorem cy{m:EM}{s s':S}{d:D}(h:m s=.ok (d,s')):de m s=.next s':=by
 show (m s).out _=_
 rw[h];rfl
theorem Et{m:EM}{s s':S}{k:Nat}{ds:List D}(h:m s=.ok (.ptr k,s'))(c:s'.o[k]? =some (.lst ds)):oE m s=.ok (.lst ds,⟨s'.r,s'.o.set k .dead⟩):=by
 rw[En,h,ak]
 dsimp only
 rw[jv c]
theorem dc{O:aD}{k j:Nat}{c:Cell}(h:k≠j):(O.set k c)[j]? =O[j]? :=List.getElem?_set_ne h
theorem i6{O:aD}{k:Nat}{c c':Cell}(h:O[k]? =some c'):(O.set k c)[k]? =some c:=by
 rw[List.getElem?_set_self (List.getElem?_eq_some_iff.mp h).1]
theorem mO{O E:aD}{k:Nat}{c:Cell}(h:O[k]? =some c):(O++E)[k]? =some c:=by
 rw[List.getElem?_append_left (List.getElem?_eq_some_iff.mp h).1];exact h
theorem kQ{O:aD}{c:Cell}:(O++[c])[O.length]? =some c:=by simp
theorem wb{O:aD}{k:Nat}{c:Cell}(h:O[k]? =some c):k<O.length:=(List.getElem?_eq_some_iff.mp h).1
theorem GJ{b:Nat}:∀(l:List Int) (k:Nat),(∀x∈l,x.natAbs<2^b)->l.length<=2^k->l.sum.natAbs<=l.length*2^b:=by
 intro l k h _
 induction l with
 | nil=>simp
 | cons a l ih=>
  rw[List.sum_cons,List.length_cons,Nat.succ_mul]
  have h1:=h a List.mem_cons_self
  have h2:=ih (λx hx=>h x (List.mem_cons_of_mem _ hx)) (by simp at *;omega)
  have:=Int.natAbs_add_le a l.sum
  omega
theorem A9{b c:Nat}{row l:List Int}(hr:SzL c row)(hl:SzL b l)(hn:row.length<=1000):Sz (b+c+10) (aH row l):=by
 unfold aH
 have h:∀x∈List.zipWith (· * ·) row l,x.natAbs<2^(c+b):=λx hx=>by
  obtain⟨i,hi,e⟩:=List.getElem_of_mem hx
  rw[List.getElem_zipWith] at e
  subst e
  exact Sz.mul (hr _ (List.getElem_mem _)) (hl _ (List.getElem_mem _))
 have h2:=GJ (List.zipWith (· * ·) row l) 10 h (by rw[List.length_zipWith];simp;omega)
 unfold Sz
 have h3:(List.zipWith (· * ·) row l).length<=1000:=by rw[List.length_zipWith];omega
 have h4:(List.zipWith (· * ·) row l).length*2^(c+b)<=1000*2^(c+b):=Nat.mul_le_mul_right _ h3
 have h5:2^(b+c+10)=1024*2^(c+b):=by rw[Nat.pow_add,Nat.add_comm b c,Nat.mul_comm]
 have h6:0<2^(c+b):=Nat.two_pow_pos _
 rw[h5]
 omega
theorem B7{n:Nat}{f:FM}{ma:AM}{s s':S}{ds:List D}{d:D}{O1:aD}(h:ma s=.ok (ds,s'))(hp:aI ds=true)(hl:ds.length=n)(hf:f ds []=.ok (d,O1)):qe n f ma s=.ok (shD s'.o.length d,⟨s'.r,s'.o++O1.map (shC s'.o.length)⟩):=by
 rw[Cu,h,ak,if_pos ⟨hp,hl⟩]
 dsimp only
 rw[hf]
theorem AJ{O:aD}{k:Nat}{ds:List D}{i:Int}{d:D}(h:O[k]? =some (.lst ds))(hi:atI ds i=some d):ixD O (.ptr k) (.int i)=.ok d:=by
 show (match lsD O (D.ptr k) with
  | some ds=>match atI ds i with
   | some d=>Res.ok d
   | none=>.bad
  | none=>.bad)=_
 rw[pR h]
 dsimp only
 rw[hi]
theorem oG{α:Type}{l:List α}{i:Nat}(h:i<l.length):atI l (i:Int)=some l[i]:=by
 rw[lS (by omega) (by omega)]
 simp
theorem iO{m:EM}{s s':S}{i j:Int}(h:m s=.ok (.int i,s')):bj (ao gtD m (aj (.int j))) s=.ok (decide (j<i),s'):=by
 rw[gd,dR,h,ak,au,ak,yk,ak,ak]
theorem eq_test{m:EM}{s s':S}{i j:Int}(h:m s=.ok (.int i,s')):bj (ao eqD m (aj (.int j))) s=.ok (decide (i=j),s'):=by
 rw[gd,dR,h,ak,au,ak,nq,ak,ak]
theorem sU{a b:TM}{s:S}{p q:Bool}(ha:a s=.ok (p,s))(hb:b s=.ok (q,s)):oO a b s=.ok (p&&q,s):=by
 rw[Ex,ha,ak]
 cases p with
 | true=>exact hb
 | false=>rfl
theorem Cz{O:aD}{a b:List D}(h:a.length+b.length<=1000000):bu O (.lst a) (.lst b)=.ok (.lst (a++b)):=by
 show (if a.length+b.length<=16777216 then Res.ok (D.lst (a++b)) else .bad)=_
 rw[if_pos (nr h)]
theorem Br{ms:List Int}{n:Nat}(h:n<=ms.length):cutD (ms.map D.int) (some (n:Int)) none=(ms.drop n).map D.int:=by
 unfold cutD
 rw[HT.wQ,HT.pW,List.length_map,Nat.min_eq_left h,<- List.map_drop,List.take_of_length_le (by simp)]
end M
set_option maxRecDepth 100000
set_option maxHeartbeats 4000000
namespace M
def tk(c e:Nat):Nat:=2^e*(c+12)-(c+11)
theorem Hn(c e:Nat):c+12<=2^e*(c+12):=Nat.le_mul_of_pos_left _ (Nat.two_pow_pos e)
theorem Ed(c:Nat):tk c 0=1:=by unfold tk;simp
theorem E3(c e:Nat):2*tk c e+c+11=tk c (e+1):=by
 unfold tk
 have h:=Hn c e
 have e2:2^(e+1)*(c+12)=2*(2^e*(c+12)):=by rw[Nat.pow_succ,Nat.mul_comm (2^e) 2,Nat.mul_assoc]
 rw[e2]
 omega
structure xp(n c:Nat)(R lists:List (List Int))(e:Nat):Prop where
 eq:R.foldl fO (fH n)=lists
 ll:∀l∈lists,l.length=n
 cnt:lists.length+e=n
 sz:kq (tk c e) lists
theorem E9(n a:Nat):SzL 1 (lG n a):=by
 intro x hx
 unfold lG at hx
 rcases List.mem_or_eq_of_mem_set hx with h | h
 ·rw[List.eq_of_mem_replicate h];exact Sz.zero 1
 ·rw[h];unfold Sz;decide
theorem xp.start(n c:Nat):xp n c [] (fH n) 0:=by
 refine⟨rfl,λl hl=> ?_,by unfold fH;simp,λl hl=> ?_⟩
 ·obtain⟨a,_,rfl⟩:=List.mem_map.mp hl
  unfold lG;simp
 ·obtain⟨a,_,rfl⟩:=List.mem_map.mp hl
  rw[Ed];exact E9 n a
theorem xp.step{n c e:Nat}{R lists:List (List Int)}{row:List Int}(h:xp n c R lists e)(hr:row.length=n)(hs:SzL c row)(hn:n<=1000):∃e',xp n c (R++[row]) (fO lists row) e':=by
 have eq':(R++[row]).foldl fO (fH n)=fO lists row:=by rw[List.foldl_append,h.eq];rfl
 unfold fO at *
 split
 ·rename_i e0
  rw[e0] at eq'
  exact⟨e,eq',h.ll,h.cnt,h.sz⟩
 ·rename_i k e0
  rw[e0] at eq'
  have k1:=(iz e0).1
  rw[List.length_map] at k1
  have hm:=getD_mem k1
  refine⟨e+1,eq',λl hl=> ?_, ?_,λl hl=> ?_⟩
  ·obtain⟨q,hq,rfl⟩:=List.mem_map.mp hl
   have hq':=List.mem_of_mem_eraseIdx hq
   rw[kE (by rw[h.ll q hq',h.ll _ hm]),h.ll q hq']
  ·rw[List.length_map,List.length_eraseIdx_of_lt k1]
   have:=h.cnt
   omega
  ·obtain⟨q,hq,rfl⟩:=List.mem_map.mp hl
   have hq':=List.mem_of_mem_eraseIdx hq
   have hz:∀l∈lists,Sz (tk c e+c+10) (aH row l):=λl h'=>A9 hs (h.sz l h') (by rw[hr];exact hn)
   exact(SzL.off (h.sz q hq') (h.sz _ hm) (hz q hq') (hz _ hm)).mono (by rw[<- E3];omega)
end M
set_option maxRecDepth 100000
set_option maxHeartbeats 4000000
namespace M
theorem hole:∀(n:Nat) (L:List Nat),L.length<n->∃f,f<n/\f∉L
 | 0,L,h=>by omega
 | n+1,L,h=>by
  by_cases hn:n∈L
  ·obtain⟨f,h1,h2⟩:=hole n (L.erase n) (by
    rw[List.length_erase_of_mem hn]
    have:=List.length_pos_of_mem hn
    omega)
   exact⟨f,by omega,λhf=>h2 ((List.mem_erase_of_ne (by omega)).mpr hf)⟩
  ·exact⟨n,by omega,hn⟩
theorem CO{P:List (Nat×List Int)}{f:Nat}{n:Nat}(pl:Pl n P)(hfree:∀p∈P,p.1≠f):gD P f f≠0:=by
 have h1:=pl.leads_pos
 have h2:=iy (L:=gc P) (f:=f) (i:=f) hfree
 unfold gD
 simp
 omega
theorem xy{n:Nat}{A:List (List Int)}(hA:∀r∈A,r.length=n)(h:A.length<n):∃t:Nat->Int,(∃j,j<n/\t j≠0)/\dD n A t:=by
 obtain⟨P,eP,pl,hP,nul⟩:=iq hA
 obtain⟨f,hf,hfr⟩:=hole n (P.map (·.1)) (by rw[List.length_map];omega)
 have hfree:∀p∈P,p.1≠f:=λp hp e=>hfr (List.mem_map.mpr ⟨p,hp,e⟩)
 refine⟨gD P f,⟨f,hf,CO pl hfree⟩,(nul _).mp ?_⟩
 rw[eP]
 exact nX pl hf hfree
def Indep(n:Nat)(V:List (List Int)):Prop:=∀t:Nat->Int,(∀i,i<n->aV V.length (λj=>t j*nth (V.getD j []) i)=0)->∀j,j<V.length->t j=0
theorem vU{n:Nat}{V W:List (List Int)}(hV:Indep n V)(h:∀v∈V,jJ n W (nth v)):V.length<=W.length:=by
 refine Classical.byContradiction λhlt=> ?_
 have ch:∀j,∃k:Int,∃T:List Int,j<V.length->k≠0/\∀i,i<n->k*nth (V.getD j []) i=iT T W i:=λj=>by
  by_cases hj:j<V.length
  ·obtain⟨k,hk,T,_,e⟩:=h (V.getD j []) (getD_mem hj)
   exact⟨k,T,λ_=>⟨hk,e⟩⟩
  ·exact⟨1,[],λz=>absurd z hj⟩
 obtain⟨kf,hkf⟩:=Classical.axiomOfChoice ch
 obtain⟨Tf,hTf⟩:=Classical.axiomOfChoice hkf
 obtain⟨t,⟨j0,hj0,ht0⟩,hn⟩:=xy (n:=V.length) (A:=(List.range W.length).map λm=>(List.range V.length).map λj=>nth (Tf j) m) (λr hr=>by
  obtain⟨m,_,rfl⟩:=List.mem_map.mp hr
  simp) (by simp;omega)
 have hnm:∀m,m<W.length->aV V.length (λj=>nth (Tf j) m*t j)=0:=λm hm=>by
  have:=hn _ (List.mem_map.mpr ⟨m,List.mem_range.mpr hm,rfl⟩)
  rw[<- this]
  refine bK λj hj=> ?_
  congr 1
  unfold nth
  simp[List.getD_eq_getElem?_getD,List.getElem?_map,List.getElem?_range,hj]
 have hz:=hV (λj=>t j*kf j) (λi hi=> ?_) j0 hj0
 ·rcases Int.mul_eq_zero.mp hz with q | q
  ·exact ht0 q
  ·exact(hTf j0 hj0).1 q
 ·have e1:aV V.length (λj=>t j*kf j*nth (V.getD j []) i)=aV V.length (λj=>aV W.length λm=>t j*(nth (Tf j) m*nth (W.getD m []) i)):=bK λj hj=>by
   rw[Int.mul_assoc,(hTf j hj).2 i hi]
   unfold iT
   rw[di]
  rw[e1,mS]
  refine d8 λm hm=> ?_
  have e2:aV V.length (λj=>t j*(nth (Tf j) m*nth (W.getD m []) i))=nth (W.getD m []) i*aV V.length (λj=>nth (Tf j) m*t j):=by
   rw[<- di]
   refine bK λj hj=> ?_
   rw[<- Int.mul_assoc,Int.mul_comm (nth (W.getD m []) i),Int.mul_comm (t j)]
  rw[e2,hnm m hm,Int.mul_zero]
theorem wa{n:Nat}{P:List (Nat×List Int)}(pl:Pl n P):Indep n (P.map (·.2)):=λt h j hj=>by
 rw[List.length_map] at hj
 have hg:∀j (hj:j<P.length),(P.map (·.2)).getD j []=P[j].2:=λj hj=>by simp[List.getD_eq_getElem?_getD,List.getElem?_eq_getElem hj]
 have hm:P[j]∈P:=List.getElem_mem hj
 have g:=pl.good _ hm
 have e:=h P[j].1 g.lt
 rw[List.length_map,ju (k:=j) hj λm hm1 hne=> ?_,hg j hj] at e
 ·rcases Int.mul_eq_zero.mp e with q | q
  ·exact q
  ·have:=g.pos
   omega
 ·rw[hg m hm1]
  have hm2:P[m]∈P:=List.getElem_mem hm1
  have hne2:P[m].1≠P[j].1:=by
   have pw:=List.pairwise_iff_getElem.mp pl.pw
   rcases Nat.lt_or_gt_of_ne hne with q | q
   ·exact Nat.ne_of_lt (pw m j hm1 hj q).1
   ·exact Nat.ne_of_gt (pw j m hj hm1 q).1
  rw[pl.other hm2 hm hne2,Int.mul_zero]
theorem nP{n j:Nat}(hj:j<n):(fH n).getD j []=lG n j:=by
 unfold fH
 simp[List.getD_eq_getElem?_getD,List.getElem?_map,List.getElem?_range,hj]
theorem fW(n:Nat):(fH n).length=n:=by unfold fH;simp
theorem xv(n:Nat):Indep n (fH n):=λt h j hj=>by
 rw[fW] at hj
 have e:=h j hj
 rw[fW,ju (k:=j) hj λm hm hne=> ?_,nP hj,jD hj,if_pos rfl,Int.mul_one] at e
 ·exact e
 ·rw[nP hm,jD hm,if_neg (λz=>hne z.symm),Int.mul_zero]
theorem uJ(n:Nat)(x:Nat->Int):jJ n (fH n) x:=⟨1,by decide,(List.range n).map x,by rw[fW];simp,λi hi=>by
 unfold iT
 rw[fW,ju (k:=i) hi λm hm hne=> ?_,nP hi,jD hi,if_pos rfl]
 ·unfold nth
  simp[List.getD_eq_getElem?_getD,List.getElem?_map,List.getElem?_range,hi]
 ·rw[nP hm,jD hm,if_neg (λz=>hne z.symm),Int.mul_zero]⟩
theorem sq_nonneg(a:Int):0<=a*a:=by
 rcases Int.le_total 0 a with h | h
 ·exact Int.mul_nonneg h h
 ·have:=Int.mul_nonneg (show 0<= -a by omega) (show 0<= -a by omega)
  rwa [Int.neg_mul_neg] at this
theorem oS(z:Nat->Int):∀n,0<=aV n λi=>z i*z i
 | 0=>Int.le_refl 0
 | n+1=>by
  have:=oS z n
  have:=sq_nonneg (z n)
  show 0<=aV n _+z n*z n
  omega
theorem tQ{z:Nat->Int}:∀{n:Nat},(aV n λi=>z i*z i)=0->∀i,i<n->z i=0
 | 0,_,i,hi=>by omega
 | n+1,h,i,hi=>by
  have h1:=oS z n
  have h2:=sq_nonneg (z n)
  have h3:(aV n λi=>z i*z i)+z n*z n=0:=h
  rcases Nat.lt_or_ge i n with q | q
  ·exact tQ (n:=n) (by omega) i q
  ·have:i=n:=by omega
   subst this
   have h4:z i*z i=0:=by omega
   rcases Int.mul_eq_zero.mp h4 with r | r <;> exact r
theorem count{n:Nat}{R:List (List Int)}(hR:∀r∈R,r.length=n):(aX R n).length+(bG R n).length=n:=by
 obtain⟨P,eP,pl,_,nul⟩:=iq hR
 have hS:=oH hR
 obtain⟨Q,eQ,ql,_,_⟩:=kg hR
 have perp:∀s∈aX R n,∀p∈bG R n,bJ n (nth s) (nth p)=0:=λs hs p hp=>by
  obtain⟨_,_,_,h3,_⟩:=kg hS
  rw[qu hR] at h3
  rw[bM]
  exact h3 s hs p hp
 have inS:∀z:Nat->Int,dD n (bG R n) z->jJ n (aX R n) z:=λz hz=>by
  refine(nY hS z).mp ?_
  rw[qu hR]
  exact hz
 have getS:∀(t:Nat->Int) (A B:List (List Int)) (i:Nat),aV (A++B).length (λj=>t j*nth ((A++B).getD j []) i)=aV A.length (λj=>t j*nth (A.getD j []) i)+aV B.length (λj=>t (A.length+j)*nth (B.getD j []) i):=λt A B i=>by
  have split:∀(a b:Nat) (f:Nat->Int),aV (a+b) f=aV a f+aV b λj=>f (a+j):=λa b f=>by
   induction b with
   | zero=>show aV a f=aV a f+0;omega
   | succ b ih=>
    show aV (a+b) f+f (a+b)=aV a f+(aV b (λj=>f (a+j))+f (a+b))
    rw[ih];omega
  rw[List.length_append,split]
  congr 1
  ·exact bK λj hj=>by rw[List.getD_eq_getElem?_getD,List.getElem?_append_left hj,<- List.getD_eq_getElem?_getD]
  ·exact bK λj hj=>by rw[List.getD_eq_getElem?_getD,List.getElem?_append_right (by omega),Nat.add_sub_cancel_left,<- List.getD_eq_getElem?_getD]
 have lo:n<=(aX R n++bG R n).length:=by
  have:=vU (n:=n) (V:=fH n) (W:=aX R n++bG R n) (xv n) λv _=>by
   have hA:∀r∈aX R n++bG R n,r.length=n:=λr hr=>by
    rcases List.mem_append.mp hr with q | q
    ·exact hS r q
    ·exact lH hR r q
   refine(nY hA _).mp λz hz=> ?_
   obtain⟨_,_,_,h3,_⟩:=kg hA
   have zP:dD n (bG R n) (nth z):=λp hp=>by rw[fM,bM];exact h3 p (by simp[hp]) z hz
   have zS:dD n (aX R n) (nth z):=λp hp=>by rw[fM,bM];exact h3 p (by simp[hp]) z hz
   have zz:=(inS (nth z) zP).dot zS
   have z0:=tQ zz
   rw[fM]
   exact d8 λi hi=>by rw[z0 i hi,Int.zero_mul]
  rwa [fW] at this
 have hi:(aX R n++bG R n).length<=n:=by
  have:=vU (n:=n) (V:=aX R n++bG R n) (W:=fH n) (λt h=> ?_) λv _=>uJ n _
  ·rwa [fW] at this
  ·have y0:∀i,i<n->aV (aX R n).length (λj=>t j*nth ((aX R n).getD j []) i)=0:=by
    refine tQ (z:=λi=>aV (aX R n).length (λj=>t j*nth ((aX R n).getD j []) i)) ?_
    have e1:∀i,i<n->aV (aX R n).length (λj=>t j*nth ((aX R n).getD j []) i)= - aV (bG R n).length (λj=>t ((aX R n).length+j)*nth ((bG R n).getD j []) i):=λi hi=>by
     have:=h i hi
     rw[getS] at this
     omega
    have prod:∀(a b:Nat) (f g:Nat->Int),aV a f*aV b g=aV a λj=>aV b λm=>f j*g m:=λa b f g=>by
     rw[Int.mul_comm,<- di]
     refine bK λj _=> ?_
     rw[Int.mul_comm,<- di]
    have e2:(aV n λi=>(aV (aX R n).length λj=>t j*nth ((aX R n).getD j []) i)*(aV (aX R n).length λj=>t j*nth ((aX R n).getD j []) i))=aV n λi=>(-1)*((aV (aX R n).length λj=>t j*nth ((aX R n).getD j []) i)*(aV (bG R n).length λj=>t ((aX R n).length+j)*nth ((bG R n).getD j []) i)):=bK λi hi=>by
     conv=>lhs;arg 2;rw[e1 i hi]
     rw[Int.mul_neg]
     omega
    rw[e2,di]
    have e3:(aV n λi=>(aV (aX R n).length λj=>t j*nth ((aX R n).getD j []) i)*(aV (bG R n).length λj=>t ((aX R n).length+j)*nth ((bG R n).getD j []) i))=aV n λi=>aV (aX R n).length λj=>aV (bG R n).length λm=>(t j*t ((aX R n).length+m))*(nth ((aX R n).getD j []) i*nth ((bG R n).getD m []) i):=bK λi _=>by
     rw[prod]
     refine bK λj _=>bK λm _=> ?_
     rw[Int.mul_assoc,Int.mul_assoc,Int.mul_left_comm (nth ((aX R n).getD j []) i)]
    rw[e3,mS]
    suffices q:aV (aX R n).length (λj=>aV n λi=>aV (bG R n).length λm=>(t j*t ((aX R n).length+m))*(nth ((aX R n).getD j []) i*nth ((bG R n).getD m []) i))=0 by rw[q];rfl
    refine d8 λj hj=> ?_
    rw[mS]
    refine d8 λm hm=> ?_
    rw[di]
    have:=perp _ (getD_mem hj) _ (getD_mem hm)
    unfold bJ at this
    rw[this,Int.mul_zero]
   have p0:∀i,i<n->aV (bG R n).length (λj=>t ((aX R n).length+j)*nth ((bG R n).getD j []) i)=0:=λi hi=>by
    have:=h i hi
    rw[getS,y0 i hi] at this
    omega
   have iS:Indep n (aX R n):=by rw[eQ];exact wa ql
   have iP:Indep n (bG R n):=by rw[eP];exact wa pl
   intro j hj
   rw[List.length_append] at hj
   rcases Nat.lt_or_ge j (aX R n).length with q | q
   ·exact iS t y0 j q
   ·have:=iP (λm=>t ((aX R n).length+m)) p0 (j-(aX R n).length) (by omega)
    rwa [show (aX R n).length+(j-(aX R n).length)=j by omega] at this
 rw[List.length_append] at lo hi
 omega
end M
set_option maxRecDepth 100000
set_option maxHeartbeats 4000000
namespace M
structure Fit(n:Nat)(R:List (List Int))(x:List Int):Prop where
 len:x.length=n
 nn:∀i,0<=nth x i
 st:∀r∈R,bJ n (nth r) (nth x)=0
 nz:∃i,nth x i≠0
def Sub(x y:List Int):Prop:=∀i,nth x i≠0->nth y i≠0
structure dG(n:Nat)(R:List (List Int))(x:List Int):Prop where
 fit:Fit n R x
 one:dj x=1
 min:∀y,Fit n R y->Sub y x->Sub x y
theorem Sub.refl(x:List Int):Sub x x:=λ_ h=>h
theorem Sub.trans{x y z:List Int}(a:Sub x y)(b:Sub y z):Sub x z:=λi h=>b i (a i h)
theorem Fit.lt{n:Nat}{R:List (List Int)}{x:List Int}(f:Fit n R x){i:Nat}(h:nth x i≠0):i<n:=by
 by_cases hi:i<n
 ·exact hi
 ·exact absurd (kl (by rw[f.len];omega)) h
theorem Fit.low{n:Nat}{R:List (List Int)}{x:List Int}(f:Fit n R x):Fit n R (low x)/\dj (M.low x)=1/\Sub (M.low x) x/\Sub x (M.low x):=by
 have hp:=mW x
 have hi:∀i,nth (M.low x) i≠0↔nth x i≠0:=λi=>by
  rw[nC x i]
  constructor
  ·exact λh=>Int.mul_ne_zero (by omega) h
  ·intro h z;rw[z] at h;exact h (by omega)
 obtain⟨j,hj⟩:=f.nz
 refine⟨⟨by rw[low_length,f.len],λi=> ?_,λr hr=> ?_,⟨j,(hi j).mpr hj⟩⟩,yK hj,λi=>(hi i).mp,λi=>(hi i).mpr⟩
 ·have:=f.nn i
  rw[nC x i] at this
  by_cases h:0<=nth (M.low x) i
  ·exact h
  ·have:=Int.mul_neg_of_pos_of_neg hp (by omega:nth (M.low x) i<0);omega
 ·have:=f.st r hr
  rw[bM]
  rw[bM] at this
  exact(qY n x (nth r)).mpr this
theorem xW{a b c d e f:Int}(hb:0<b)(hd:0<d)(hf:0<f)(h1:a*d<=c*b)(h2:c*f<=e*d):a*f<=e*b:=by
 have e1:a*d*f<=c*b*f:=Int.mul_le_mul_of_nonneg_right h1 (by omega)
 have e2:c*f*b<=e*d*b:=Int.mul_le_mul_of_nonneg_right h2 (by omega)
 have:(a*f)*d<=(e*b)*d:=by
  have q1:a*d*f=(a*f)*d:=by grind
  have q2:c*b*f=c*f*b:=by grind
  have q3:e*d*b=(e*b)*d:=by grind
  omega
 exact Int.le_of_mul_le_mul_right this hd
theorem BH(a b:Nat->Int)(hb:∀i,0<=b i):∀n,(∃i,i<n/\b i≠0)->∃m,m<n/\b m≠0/\∀i,i<n->b i≠0->a m*b i<=a i*b m
 | 0,h=>by obtain⟨i,hi,_⟩:=h;omega
 | n+1,h=>by
  by_cases hn:∃i,i<n/\b i≠0
  ·obtain⟨m,hm,hz,hl⟩:=BH a b hb n hn
   by_cases hbn:b n=0
   ·refine⟨m,by omega,hz,λi hi hi0=> ?_⟩
    by_cases e:i=n
    ·subst e;exact absurd hbn hi0
    ·exact hl i (by omega) hi0
   ·by_cases hc:a m*b n<=a n*b m
    ·refine⟨m,by omega,hz,λi hi hi0=> ?_⟩
     by_cases e:i=n
     ·subst e;exact hc
     ·exact hl i (by omega) hi0
    ·refine⟨n,by omega,hbn,λi hi hi0=> ?_⟩
     by_cases e:i=n
     ·subst e;omega
     ·have:=hb n;have:=hb m;have:=hb i
      exact xW (by omega) (by omega:0<b m) (by omega) (by omega) (hl i (by omega) hi0)
  ·obtain⟨i,hi,hi0⟩:=h
   have e:i=n:=by
    by_cases e:i=n
    ·exact e
    ·exact absurd ⟨i,by omega,hi0⟩ hn
   subst e
   refine⟨i,by omega,hi0,λj hj hj0=> ?_⟩
   by_cases e:j=i
   ·subst e;omega
   ·exact absurd ⟨j,by omega,hj0⟩ hn
theorem qM{n:Nat}{R:List (List Int)}{x y:List Int}(fx:Fit n R x)(fy:Fit n R y)(hs:Sub y x):
 ∃z:List Int,z.length=n/\(∀i,0<=nth z i)/\Sub z x/\∃c d:Int,0<c/\0<d/\(∀i,nth z i=c*nth x i-d*nth y i)/\∃m,nth y m≠0/\nth z m=0:=by
 obtain⟨j,hj⟩:=fy.nz
 obtain⟨m,hm,hz,hl⟩:=BH (nth x) (nth y) fy.nn n ⟨j,fy.lt hj,hj⟩
 have hlen:x.length=y.length:=by rw[fx.len,fy.len]
 have hxm:=fx.nn m
 have hym:=fy.nn m
 have hxm0:=hs m hz
 have hnth:∀i,nth (ng x (nth x m) y (nth y m)) i=nth y m*nth x i-nth x m*nth y i:=λi=>by rw[vX hlen];grind
 refine⟨ng x (nth x m) y (nth y m),by rw[m8 hlen,fx.len],λi=> ?_,λi hi=> ?_,nth y m,nth x m,by omega,by omega,hnth,m,hz,by rw[hnth];grind⟩
 ·rw[hnth]
  by_cases hy:nth y i=0
  ·rw[hy]
   have:=Int.mul_nonneg hym (fx.nn i)
   omega
  ·have:=hl i (fy.lt hy) hy
   have:nth y m*nth x i=nth x i*nth y m:=Int.mul_comm _ _
   omega
 ·rw[hnth] at hi
  intro z
  apply hi
  have:nth y i=0:=by
   by_cases hy:nth y i=0
   ·exact hy
   ·exact absurd z (hs i hy)
  rw[z,this];omega
theorem tx{n:Nat}{x y z:List Int}{c d:Int}(h:∀i,nth z i=c*nth x i-d*nth y i)(r:Nat->Int):bJ n r (nth z)=c*bJ n r (nth x)-d*bJ n r (nth y):=by
 have:=uj (n:=n) (a:=nth x) (b:=nth y) (u:=c) (v:= -d) r
 rw[bM,zk (b:=λi=>c*nth x i + -d*nth y i) (λi _=>by rw[h i];grind),bM,this]
 grind
theorem tf{n:Nat}{R:List (List Int)}{x y z:List Int}(fx:Fit n R x)(fy:Fit n R y)(hl:z.length=n)(hn:∀i,0<=nth z i){c d:Int}(h:∀i,nth z i=c*nth x i-d*nth y i)(hz:∃i,nth z i≠0):Fit n R z:=
 ⟨hl,hn,λr hr=>by rw[tx h,fx.st r hr,fy.st r hr];omega,hz⟩
theorem dG.prop{n:Nat}{R:List (List Int)}{x y:List Int}(l:dG n R x)(fy:Fit n R y)(hs:Sub y x):∃a b:Int,0<a/\0<b/\∀i,a*nth x i=b*nth y i:=by
 obtain⟨z,zl,zn,zs,c,d,hc,hd,h,m,hm,hzm⟩:=qM l.fit fy hs
 by_cases hz:∃i,nth z i≠0
 ·have fz:=tf l.fit fy zl zn h hz
  exact absurd hzm (l.min z fz zs m (hs m hm))
 ·refine⟨c,d,hc,hd,λi=> ?_⟩
  have:nth z i=0:=by
   by_cases e:nth z i=0
   ·exact e
   ·exact absurd ⟨i,e⟩ hz
  rw[h i] at this
  omega
theorem dG.eq{n:Nat}{R:List (List Int)}{x y:List Int}(l:dG n R x)(fy:Fit n R y)(h1:dj y=1)(hs:Sub y x):x=y:=by
 obtain⟨a,b,ha,hb,h⟩:=l.prop fy hs
 exact yL (by rw[l.fit.len,fy.len]) l.one h1 ha hb λi _=>h i
def cnt(x:List Int):Nat:=(x.filter (·≠0)).length
theorem BE:∀{x y:List Int},x.length=y.length->Sub x y->cnt x<=cnt y
 | [],[],_,_=>Nat.le_refl _
 | a::x,b::y,hl,hs=>by
  have ih:=BE (x:=x) (y:=y) (by simpa using hl) λi h=>hs (i+1) h
  have h0:a≠0->b≠0:=hs 0
  unfold cnt at *
  by_cases ha:a=0
  ·rw[List.filter_cons_of_neg (by simpa using ha)]
   by_cases hb:b=0
   ·rw[List.filter_cons_of_neg (by simpa using hb)];exact ih
   ·rw[List.filter_cons_of_pos (by simpa using hb),List.length_cons];omega
  ·rw[List.filter_cons_of_pos (by simpa using ha),List.filter_cons_of_pos (by simpa using h0 ha),List.length_cons,List.length_cons];omega
theorem oX:∀{x y:List Int} {m:Nat},x.length=y.length->Sub x y->nth y m≠0->nth x m=0->cnt x<cnt y
 | [],[],m,_,_,h,_=>by simp[nth] at h
 | a::x,b::y,0,hl,hs,h,h'=>by
  have ih:=BE (x:=x) (y:=y) (by simpa using hl) λi h=>hs (i+1) h
  have ha:a=0:=h'
  have hb:b≠0:=h
  unfold cnt at *
  rw[List.filter_cons_of_neg (by simpa using ha),List.filter_cons_of_pos (by simpa using hb),List.length_cons];omega
 | a::x,b::y,m+1,hl,hs,h,h'=>by
  have ih:=oX (x:=x) (y:=y) (m:=m) (by simpa using hl) (λi h=>hs (i+1) h) h h'
  have h0:a≠0->b≠0:=hs 0
  unfold cnt at *
  by_cases ha:a=0
  ·rw[List.filter_cons_of_neg (by simpa using ha)]
   by_cases hb:b=0
   ·rw[List.filter_cons_of_neg (by simpa using hb)];exact ih
   ·rw[List.filter_cons_of_pos (by simpa using hb),List.length_cons];omega
  ·rw[List.filter_cons_of_pos (by simpa using ha),List.filter_cons_of_pos (by simpa using h0 ha),List.length_cons,List.length_cons];omega
theorem tM{n:Nat}{R:List (List Int)}:∀(k:Nat) {x:List Int},cnt x<=k->Fit n R x->∃l,dG n R l/\Sub l x:=by
 intro k
 induction k with
 | zero=>
  intro x hk f
  obtain⟨i,hi⟩:=f.nz
  have:cnt (List.replicate n (0:Int))<cnt x:=oX (m:=i) (by rw[f.len];simp) (λj h=>by
   exfalso;apply h
   unfold nth
   rw[List.getD_eq_getElem?_getD,List.getElem?_replicate]
   split <;> rfl) hi (by
   unfold nth
   rw[List.getD_eq_getElem?_getD,List.getElem?_replicate]
   split <;> rfl)
  omega
 | succ k ih=>
  intro x hk f
  by_cases h:∃y,Fit n R y/\Sub y x/\¬Sub x y
  ·obtain⟨y,fy,h1,h2⟩:=h
   have:∃m,nth x m≠0/\nth y m=0:=by
    apply Classical.byContradiction
    intro hn
    exact h2 λi hi=>λz=>hn ⟨i,hi,z⟩
   obtain⟨m,hm,hm0⟩:=this
   have:=oX (by rw[fy.len,f.len]) h1 hm hm0
   obtain⟨l,hl,hs⟩:=ih (x:=y) (by omega) fy
   exact⟨l,hl,hs.trans h1⟩
  ·obtain⟨q1,q2,q3,q4⟩:=f.low
   refine⟨low x,⟨q1,q2,λy fy hs=> ?_⟩,q3⟩
   apply Classical.byContradiction
   intro hn
   exact h ⟨y,fy,hs.trans q3,λz=>hn (q3.trans z)⟩
theorem rq{n:Nat}{R:List (List Int)}(r:List Int):∀(k:Nat) {x:List Int},cnt x<=k->Fit n R x->0<bJ n (nth r) (nth x)->∃l,dG n R l/\Sub l x/\0<bJ n (nth r) (nth l):=by
 intro k
 induction k with
 | zero=>
  intro x hk f hv
  obtain⟨l,hl,hs⟩:=tM 0 hk f
  obtain⟨i,hi⟩:=f.nz
  have:cnt (List.replicate n (0:Int))<cnt x:=oX (m:=i) (by rw[f.len];simp) (λj h=>by
   exfalso;apply h
   unfold nth
   rw[List.getD_eq_getElem?_getD,List.getElem?_replicate]
   split <;> rfl) hi (by
   unfold nth
   rw[List.getD_eq_getElem?_getD,List.getElem?_replicate]
   split <;> rfl)
  omega
 | succ k ih=>
  intro x hk f hv
  obtain⟨l,hl,hs⟩:=tM (k+1) hk f
  by_cases hp:0<bJ n (nth r) (nth l)
  ·exact⟨l,hl,hs,hp⟩
  ·obtain⟨z,zl,zn,zs,c,d,hc,hd,h,m,hm,hzm⟩:=qM f hl.fit hs
   have ev:=tx (n:=n) h (nth r)
   have h1:=Int.mul_pos hc hv
   have h2:=Int.mul_nonpos_of_nonneg_of_nonpos (show 0<=d by omega) (show bJ n (nth r) (nth l)<=0 by omega)
   have hz:∃i,nth z i≠0:=by
    apply Classical.byContradiction
    intro hn
    have:bJ n (nth r) (nth z)=0:=d8 λi _=>by
     have:nth z i=0:=by
      by_cases e:nth z i=0
      ·exact e
      ·exact absurd ⟨i,e⟩ hn
     rw[this];omega
    omega
   have fz:=tf f hl.fit zl zn h hz
   have:=oX (by rw[zl,f.len]) zs (hs m hm) hzm
   obtain⟨l',q1,q2,q3⟩:=ih (x:=z) (by omega) fz (by omega)
   exact⟨l',q1,q2.trans zs,q3⟩
theorem jj(n:Nat)(r x:List Int):bJ n (nth (r.map (- ·))) (nth x)= -bJ n (nth r) (nth x):=by
 have:=ot (n:=n) (a:=r.map (- ·)) (c:=r) (g:= -1) (λi=>by rw[kC (by simp)];omega) (nth x)
 rw[<- fM,this,fM];omega
theorem zK{n:Nat}{R:List (List Int)}(r:List Int){x:List Int}(f:Fit n R x)(hv:bJ n (nth r) (nth x)<0):∃l,dG n R l/\Sub l x/\bJ n (nth r) (nth l)<0:=by
 obtain⟨l,h1,h2,h3⟩:=rq (r.map (- ·)) _ (Nat.le_refl _) f (by rw[jj];omega)
 rw[jj] at h3
 exact⟨l,h1,h2,by omega⟩
theorem t6{n:Nat}{R:List (List Int)}(r:List Int){x:List Int}(f:Fit n R x)(hv:bJ n (nth r) (nth x)=0):
 (∃l,dG n R l/\Sub l x/\bJ n (nth r) (nth l)=0)\/∃h w,dG n R h/\dG n R w/\Sub h x/\Sub w x/\0<bJ n (nth r) (nth h)/\bJ n (nth r) (nth w)<0:=by
 obtain⟨l,hl,hs⟩:=tM _ (Nat.le_refl _) f
 by_cases h0:bJ n (nth r) (nth l)=0
 ·exact .inl ⟨l,hl,hs,h0⟩
 ·obtain⟨z,zl,zn,zs,c,d,hc,hd,h,m,hm,hzm⟩:=qM f hl.fit hs
  have ev:=tx (n:=n) h (nth r)
  rw[hv] at ev
  have hne:bJ n (nth r) (nth z)≠0:=by
   rw[ev]
   have:=Int.mul_ne_zero (show d≠0 by omega) h0
   omega
  have hz:∃i,nth z i≠0:=by
   apply Classical.byContradiction
   intro hn
   exact hne (d8 λi _=>by
    have:nth z i=0:=by
     by_cases e:nth z i=0
     ·exact e
     ·exact absurd ⟨i,e⟩ hn
    rw[this];omega)
  have fz:=tf f hl.fit zl zn h hz
  by_cases hp:0<bJ n (nth r) (nth l)
  ·have:=Int.mul_pos hd hp
   obtain⟨w,w1,w2,w3⟩:=zK r fz (by omega)
   exact .inr ⟨l,w,hl,w1,hs,w2.trans zs,hp,w3⟩
  ·have:=Int.mul_neg_of_pos_of_neg hd (show bJ n (nth r) (nth l)<0 by omega)
   obtain⟨w,w1,w2,w3⟩:=rq r _ (Nat.le_refl _) fz (by omega)
   exact .inr ⟨w,l,w1,hl,w2.trans zs,hs,w3,by omega⟩
end M
set_option maxRecDepth 100000
set_option maxHeartbeats 4000000
namespace M
def subB(n:Nat)(l h w:List Int):Bool:=(List.range n).all λi=>decide (nth l i=0)||decide (nth h i≠0)||decide (nth w i≠0)
def nbB(n:Nat)(L:List (List Int))(h w:List Int):Bool:=(L.filter λl=>subB n l h w).length == 2
def kv(n:Nat)(L:List (List Int))(r:List Int):List (List Int):=
 (L.filter λl=>decide (aH r l=0))++(L.filter λl=>decide (0<aH r l)).flatMap λh=>((L.filter λl=>decide (aH r l<0)).filter λw=>nbB n L h w).map λw=>dU w (aH r w) h (aH r h)
theorem xg{n:Nat}{l h w:List Int}(hl:l.length=n):subB n l h w=true↔∀i,nth l i≠0->nth h i≠0\/nth w i≠0:=by
 unfold subB
 rw[List.all_eq_true]
 constructor
 ·intro H i hi
  have lt:i<n:=by
   by_cases e:i<n
   ·exact e
   ·exact absurd (kl (by omega)) hi
  have:=H i (List.mem_range.mpr lt)
  simp only[Bool.or_eq_true,decide_eq_true_eq] at this
  rcases this with(z | z) | z
  ·exact absurd z hi
  ·exact .inl z
  ·exact .inr z
 ·intro H i _
  simp only[Bool.or_eq_true,decide_eq_true_eq]
  by_cases e:nth l i=0
  ·exact .inl (.inl e)
  ·rcases H i e with z | z
   ·exact .inl (.inr z)
   ·exact .inr z
theorem Al{α:Type}{L:List α}(hd:L.Nodup)(hl:L.length=2){h w:α}(hh:h∈L)(hw:w∈L)(hne:h≠w):∀l∈L,l=h\/l=w:=by
 match L,hl with
 | [a,b],_=>
  intro l hl
  simp only[List.mem_cons,List.not_mem_nil,or_false] at hh hw hl
  rcases hh with rfl | rfl <;> rcases hw with rfl | rfl <;> rcases hl with rfl | rfl <;> first | exact .inl rfl | exact .inr rfl | exact absurd rfl hne
theorem zc{α:Type}{L:List α}(hd:L.Nodup){h w:α}(hh:h∈L)(hw:w∈L)(hne:h≠w)(ha:∀l∈L,l=h\/l=w):L.length=2:=by
 have h1:L.length<=2:=by
  match L,hd with
  | [],_=>simp
  | [_],_=>simp
  | [_,_],_=>simp
  | a::b::c::r,hd=>
   exfalso
   have ha1:=ha a (by simp);have hb1:=ha b (by simp);have hc1:=ha c (by simp)
   simp only[List.nodup_cons,List.mem_cons,not_or] at hd
   rcases ha1 with e1 | e1 <;> rcases hb1 with e2 | e2 <;> rcases hc1 with e3 | e3 <;> simp_all
 match L,hh,hw,h1 with
 | [a],hh,hw,_=>
  simp only[List.mem_singleton] at hh hw
  exact absurd (hh.trans hw.symm) hne
 | [a,b],_,_,_=>rfl
section
variable {n : Nat} {R L : List (List Int)} {r : List Int}
structure oi(n:Nat)(R L:List (List Int)):Prop where
 all:∀x,x∈L↔dG n R x
 nd:L.Nodup
theorem oi.dot(k:oi n R L){l:List Int}(h:l∈L)(r:List Int):aH r l=bJ n (nth r) (nth l):=jW ((k.all l).mp h).fit.len
theorem rH(k:oi n R L){h w:List Int}(hh:h∈L)(hw:w∈L)(hne:h≠w):nbB n L h w=true↔∀l∈L,(∀i,nth l i≠0->nth h i≠0\/nth w i≠0)->l=h\/l=w:=by
 have mem:∀l,l∈L.filter (λl=>subB n l h w)↔l∈L/\∀i,nth l i≠0->nth h i≠0\/nth w i≠0:=λl=>by
  rw[List.mem_filter]
  constructor
  ·exact λ⟨a,b⟩=>⟨a,(xg ((k.all l).mp a).fit.len).mp b⟩
  ·exact λ⟨a,b⟩=>⟨a,(xg ((k.all l).mp a).fit.len).mpr b⟩
 have nd:(L.filter (λl=>subB n l h w)).Nodup:=k.nd.filter _
 have m1:h∈L.filter (λl=>subB n l h w):=(mem h).mpr ⟨hh,λi hi=>.inl hi⟩
 have m2:w∈L.filter (λl=>subB n l h w):=(mem w).mpr ⟨hw,λi hi=>.inr hi⟩
 unfold nbB
 rw[beq_iff_eq]
 constructor
 ·exact λhl l h1 h2=>Al nd hl m1 m2 hne l ((mem l).mpr ⟨h1,h2⟩)
 ·exact λha=>zc nd m1 m2 hne λl hl=>let ⟨a,b⟩:=(mem l).mp hl;ha l a b
theorem kz(hr:r.length=n){h w:List Int}(fh:Fit n R h)(fw:Fit n R w)(vh:0<aH r h)(vw:aH r w<0):
 Fit n (R++[r]) (dU w (aH r w) h (aH r h))/\dj (dU w (aH r w) h (aH r h))=1/\(∀i,nth (dU w (aH r w) h (aH r h)) i≠0↔nth h i≠0\/nth w i≠0)/\
 ∃g:Int,0<g/\∀i,g*nth (dU w (aH r w) h (aH r h)) i=nth w i*aH r h+nth h i*(-(aH r w)):=by
 have hlen:w.length=h.length:=by rw[fw.len,fh.len]
 obtain⟨g,hg,e⟩:=nQ hlen (aH r w) (aH r h)
 have e':∀i,g*nth (dU w (aH r w) h (aH r h)) i=nth w i*aH r h+nth h i*(-(aH r w)):=λi=>by rw[e i];grind
 have nz:∀i,nth (dU w (aH r w) h (aH r h)) i≠0↔nth h i≠0\/nth w i≠0:=λi=>by
  have h1:=Int.mul_nonneg (fw.nn i) (show 0<=aH r h by omega)
  have h2:=Int.mul_nonneg (fh.nn i) (show 0<= -(aH r w) by omega)
  constructor
  ·intro hz
   apply Classical.byContradiction
   intro hn
   have q1:nth h i=0:=by
    by_cases q:nth h i=0
    ·exact q
    ·exact absurd (.inl q) hn
   have q2:nth w i=0:=by
    by_cases q:nth w i=0
    ·exact q
    ·exact absurd (.inr q) hn
   have:=e' i
   rw[q1,q2] at this
   have:g*nth (dU w (aH r w) h (aH r h)) i=0:=by rw[this];omega
   rcases Int.mul_eq_zero.mp this with z | z
   ·omega
   ·exact hz z
  ·intro hor z
   have:=e' i
   rw[z] at this
   have hs:nth w i*aH r h+nth h i*(-(aH r w))=0:=by omega
   rcases hor with q | q
   ·have:=Int.mul_pos (show 0<nth h i by have:=fh.nn i;omega) (show 0 < -(aH r w) by omega);omega
   ·have:=Int.mul_pos (show 0<nth w i by have:=fw.nn i;omega) vh;omega
 have one:dj (dU w (aH r w) h (aH r h))=1:=by
  obtain⟨i,hi⟩:=fh.nz
  have q:nth (dU w (aH r w) h (aH r h)) i≠0:=(nz i).mpr (.inl hi)
  exact nN _ i q
 refine⟨⟨by rw[kE hlen,fw.len],λi=> ?_,λq hq=> ?_, ?_⟩,one,nz,g,hg,e'⟩
 ·have h1:=Int.mul_nonneg (fw.nn i) (show 0<=aH r h by omega)
  have h2:=Int.mul_nonneg (fh.nn i) (show 0<= -(aH r w) by omega)
  have:=e' i
  by_cases z:0<=nth (dU w (aH r w) h (aH r h)) i
  ·exact z
  ·have:=Int.mul_neg_of_pos_of_neg hg (show nth (dU w (aH r w) h (aH r h)) i<0 by omega);omega
 ·obtain⟨g',hg',ed⟩:=qV (n:=n) hlen (aH r w) (aH r h) (nth q)
  simp only[fM] at ed
  rw[bM]
  have z:g'*bJ n (nth (dU w (aH r w) h (aH r h))) (nth q)=0:=by
   rw[ed,bM n (nth w),bM n (nth h)]
   rcases List.mem_append.mp hq with hq | hq
   ·rw[fw.st q hq,fh.st q hq];omega
   ·rw[List.mem_singleton.mp hq,<- jW fw.len,<- jW fh.len];grind
  rcases Int.mul_eq_zero.mp z with z | z
  ·omega
  ·exact z
 ·obtain⟨i,hi⟩:=fh.nz
  exact⟨i,(nz i).mpr (.inl hi)⟩
theorem Fit.less{R S:List (List Int)}{x:List Int}(f:Fit n (R++S) x):Fit n R x:=⟨f.len,f.nn,λr hr=>f.st r (List.mem_append_left _ hr),f.nz⟩
theorem Fit.more(f:Fit n R x)(h:bJ n (nth r) (nth x)=0):Fit n (R++[r]) x:=⟨f.len,f.nn,λq hq=>by
 rcases List.mem_append.mp hq with z | z
 ·exact f.st q z
 ·rw[List.mem_singleton.mp z];exact h,f.nz⟩
theorem dG.same{x y:List Int}(a:dG n R x)(b:dG n R y)(h:Sub y x):x=y:=a.eq b.fit b.one h
theorem qC(hr:r.length=n){h l w x:List Int}(lh:dG n R h)(ll:dG n R l)(lw:dG n R w)(lx:dG n (R++[r]) x)(vh:0<aH r h)(vl:0<aH r l)(vw:aH r w<0)(sh:Sub h x)(sl:Sub l x)(sw:Sub w x):l=h:=by
 obtain⟨f1,g1,z1,a,ha,e1⟩:=kz hr lh.fit lw.fit vh vw
 obtain⟨f2,g2,z2,b,hb,e2⟩:=kz hr ll.fit lw.fit vl vw
 have x1:=lx.eq f1 g1 λi hi=>((z1 i).mp hi).elim (sh i) (sw i)
 have x2:=lx.eq f2 g2 λi hi=>((z2 i).mp hi).elim (sl i) (sw i)
 rw[<- x1] at e1
 rw[<- x2] at e2
 have key:∀i,b*(nth h i*(-(aH r w)))+(b*aH r h-a*aH r l)*nth w i=a*(nth l i*(-(aH r w))):=λi=>by
  have q1:=e1 i
  have q2:=e2 i
  have:b*(a*nth x i)=a*(b*nth x i):=by grind
  rw[q1,q2] at this
  grind
 have hu:0 < -(aH r w):=by omega
 by_cases hm:0<=b*aH r h-a*aH r l
 ·refine(dG.same ll lh λi hi=> ?_)
  intro z
  have q:=key i
  rw[z] at q
  have h1:=Int.mul_pos hb (Int.mul_pos (show 0<nth h i by have:=lh.fit.nn i;omega) hu)
  have h2:=Int.mul_nonneg hm (lw.fit.nn i)
  have h3:a*(0*(-(aH r w)))=0:=by simp
  omega
 ·refine(dG.same lh ll λi hi=> ?_).symm
  intro z
  have q:=key i
  rw[z] at q
  have h1:=Int.mul_pos ha (Int.mul_pos (show 0<nth l i by have:=ll.fit.nn i;omega) hu)
  have h2:=Int.mul_nonpos_of_nonpos_of_nonneg (show b*aH r h-a*aH r l<=0 by omega) (lw.fit.nn i)
  have h3:b*(0*(-(aH r w)))=0:=by simp
  omega
theorem rf{l:List Int}(hl:l.length=n):aH (r.map (- ·)) l= -(aH r l):=by rw[jW hl,jW hl,jj]
theorem dG.neg{x:List Int}(l:dG n (R++[r]) x):dG n (R++[r.map (- ·)]) x:=by
 have tr:∀y,Fit n (R++[r]) y↔Fit n (R++[r.map (- ·)]) y:=λy=>by
  constructor
  ·refine λf=>Fit.more f.less ?_
   rw[jj,f.st r (by simp)];rfl
  ·refine λf=>Fit.more f.less ?_
   have:=f.st (r.map (- ·)) (by simp)
   rw[jj] at this;omega
 exact⟨(tr x).mp l.fit,l.one,λy fy=>l.min y ((tr y).mpr fy)⟩
theorem wt(hr:r.length=n){h l w x:List Int}(lh:dG n R h)(ll:dG n R l)(lw:dG n R w)(lx:dG n (R++[r]) x)(vh:0<aH r h)(vl:aH r l<0)(vw:aH r w<0)(sh:Sub h x)(sl:Sub l x)(sw:Sub w x):l=w:=
 qC (r:=r.map (- ·)) (h:=w) (l:=l) (w:=h) (by simpa using hr) lw ll lh lx.neg (by rw[rf lw.fit.len];omega) (by rw[rf ll.fit.len];omega) (by rw[rf lh.fit.len];omega) sw sl sh
theorem vB{x:List Int}:x∈kv n L r↔(x∈L/\aH r x=0)\/∃h w,h∈L/\w∈L/\0<aH r h/\aH r w<0/\nbB n L h w=true/\x=dU w (aH r w) h (aH r h):=by
 unfold kv
 rw[List.mem_append]
 constructor
 ·rintro (h | h)
  ·rw[List.mem_filter,decide_eq_true_eq] at h;exact .inl h
  ·obtain⟨h',q1,q2⟩:=List.mem_flatMap.mp h
   obtain⟨w,q3,rfl⟩:=List.mem_map.mp q2
   rw[List.mem_filter,decide_eq_true_eq] at q1
   rw[List.mem_filter,List.mem_filter,decide_eq_true_eq] at q3
   exact .inr ⟨h',w,q1.1,q3.1.1,q1.2,q3.1.2,q3.2,rfl⟩
 ·rintro (h | ⟨h',w,q1,q2,q3,q4,q5,rfl⟩)
  ·exact .inl (by rw[List.mem_filter,decide_eq_true_eq];exact h)
  ·refine .inr (List.mem_flatMap.mpr ⟨h',by rw[List.mem_filter,decide_eq_true_eq];exact⟨q1,q3⟩,List.mem_map.mpr ⟨w, ?_,rfl⟩⟩)
   rw[List.mem_filter,List.mem_filter,decide_eq_true_eq];exact⟨⟨q2,q4⟩,q5⟩
theorem vJ(hr:r.length=n)(k:oi n R L)(x:List Int):x∈kv n L r↔dG n (R++[r]) x:=by
 rw[vB]
 constructor
 ·rintro (⟨hx,v⟩ | ⟨h,w,hh,hw,vh,vw,nb,rfl⟩)
  ·have l:=(k.all x).mp hx
   rw[k.dot hx] at v
   exact⟨l.fit.more v,l.one,λy fy=>l.min y fy.less⟩
  ·have lh:=(k.all h).mp hh
   have lw:=(k.all w).mp hw
   have hne:h≠w:=λe=>by rw[e] at vh;omega
   obtain⟨f1,g1,z1,_⟩:=kz hr lh.fit lw.fit vh vw
   refine⟨f1,g1,λy fy sy=> ?_⟩
   have nb':=(rH k hh hw hne).mp nb
   rcases t6 r fy.less (fy.st r (by simp)) with⟨l,ll,sl,v⟩ | ⟨h',w',lh',lw',sh',sw',vh',vw'⟩
   ·have hl:=(k.all l).mpr ll
    have:=nb' l hl λi hi=>(z1 i).mp (sy i (sl i hi))
    rw[<- k.dot hl] at v
    rcases this with rfl | rfl <;> omega
   ·have hh':=(k.all h').mpr lh'
    have hw':=(k.all w').mpr lw'
    rw[<- k.dot hh'] at vh'
    rw[<- k.dot hw'] at vw'
    have e1:h'=h:=by
     rcases nb' h' hh' λi hi=>(z1 i).mp (sy i (sh' i hi)) with e | e
     ·exact e
     ·rw[e] at vh';omega
    have e2:w'=w:=by
     rcases nb' w' hw' λi hi=>(z1 i).mp (sy i (sw' i hi)) with e | e
     ·rw[e] at vw';omega
     ·exact e
    subst e1 e2
    exact λi hi=>((z1 i).mp hi).elim (sh' i) (sw' i)
 ·intro lx
  by_cases hz:∃l,dG n R l/\Sub l x/\bJ n (nth r) (nth l)=0
  ·obtain⟨l,ll,sl,v⟩:=hz
   have e:=lx.eq (ll.fit.more v) ll.one sl
   subst e
   have hl:=(k.all x).mpr ll
   exact .inl ⟨hl,by rw[k.dot hl];exact v⟩
  ·rcases t6 r lx.fit.less (lx.fit.st r (by simp)) with h0 | ⟨h,w,lh,lw,sh,sw,vh,vw⟩
   ·exact absurd h0 hz
   ·have hh:=(k.all h).mpr lh
    have hw:=(k.all w).mpr lw
    rw[<- k.dot hh] at vh
    rw[<- k.dot hw] at vw
    have hne:h≠w:=λe=>by rw[e] at vh;omega
    obtain⟨f1,g1,z1,_⟩:=kz hr lh.fit lw.fit vh vw
    refine .inr ⟨h,w,hh,hw,vh,vw,(rH k hh hw hne).mpr λl hl sl=> ?_,lx.eq f1 g1 λi hi=>((z1 i).mp hi).elim (sh i) (sw i)⟩
    have ll:=(k.all l).mp hl
    have slx:Sub l x:=λi hi=>(sl i hi).elim (sh i) (sw i)
    by_cases v0:aH r l=0
    ·exact absurd ⟨l,ll,slx,by rw[<- k.dot hl];exact v0⟩ hz
    ·by_cases vp:0<aH r l
     ·exact .inl (qC hr lh ll lw lx vh vp vw sh slx sw)
     ·exact .inr (wt hr lh ll lw lx vh (by omega) vw sh slx sw)
end
end M
set_option maxRecDepth 100000
set_option maxHeartbeats 4000000
namespace M
section
variable {n : Nat} {R L : List (List Int)} {r : List Int}
theorem yh (hr:r.length=n) (k:oi n R L) {h w h' w':List Int} (hh:h∈L) (hw:w∈L) (vh:0<aH r h) (vw:aH r w<0) (nb:nbB n L h w=true)
 (hh':h'∈L) (hw':w'∈L) (vh':0<aH r h') (vw':aH r w'<0) (e:dU w (aH r w) h (aH r h)=dU w' (aH r w') h' (aH r h')):h=h'/\w=w':=by
 have hne:h≠w:=λe=>by rw[e] at vh;omega
 obtain⟨_,_,z1,_⟩:=kz hr ((k.all h).mp hh).fit ((k.all w).mp hw).fit vh vw
 obtain⟨_,_,z2,_⟩:=kz hr ((k.all h').mp hh').fit ((k.all w').mp hw').fit vh' vw'
 rw[e] at z1
 have nb':=(rH k hh hw hne).mp nb
 constructor
 ·rcases nb' h' hh' λi hi=>(z1 i).mp ((z2 i).mpr (.inl hi)) with q | q
  ·exact q.symm
  ·rw[q] at vh';omega
 ·rcases nb' w' hw' λi hi=>(z1 i).mp ((z2 i).mpr (.inr hi)) with q | q
  ·rw[q] at vw';omega
  ·exact q.symm
theorem xT(hr:r.length=n)(k:oi n R L):(kv n L r).Nodup:=by
 unfold kv
 rw[List.nodup_append]
 refine⟨k.nd.filter _, ?_,λx hx y hy e=> ?_⟩
 ·unfold List.Nodup
  rw[List.pairwise_flatMap]
  constructor
  ·intro h hh
   rw[List.mem_filter,decide_eq_true_eq] at hh
   rw[List.pairwise_map]
   refine List.Pairwise.imp_of_mem (λ{w w'} hw hw' hne=> ?_) ((k.nd.filter _).filter _)
   rw[List.mem_filter,List.mem_filter,decide_eq_true_eq] at hw hw'
   exact λe=>hne (yh hr k hh.1 hw.1.1 hh.2 hw.1.2 hw.2 hh.1 hw'.1.1 hh.2 hw'.1.2 e).2
  ·refine List.Pairwise.imp_of_mem (λ{h h'} hh hh' hne x hx y hy=> ?_) (k.nd.filter _)
   rw[List.mem_filter,decide_eq_true_eq] at hh hh'
   obtain⟨w,hw,rfl⟩:=List.mem_map.mp hx
   obtain⟨w',hw',rfl⟩:=List.mem_map.mp hy
   rw[List.mem_filter,List.mem_filter,decide_eq_true_eq] at hw hw'
   exact λe=>hne (yh hr k hh.1 hw.1.1 hh.2 hw.1.2 hw.2 hh'.1 hw'.1.1 hh'.2 hw'.1.2 e).1
 ·subst e
  rw[List.mem_filter,decide_eq_true_eq] at hx
  obtain⟨h,hh,hy⟩:=List.mem_flatMap.mp hy
  obtain⟨w,hw,e⟩:=List.mem_map.mp hy
  rw[List.mem_filter,decide_eq_true_eq] at hh
  rw[List.mem_filter,List.mem_filter,decide_eq_true_eq] at hw
  have hne:h≠w:=λe=>by rw[e] at hh;omega
  obtain⟨_,_,z1,_⟩:=kz hr ((k.all h).mp hh.1).fit ((k.all w).mp hw.1.1).fit hh.2 hw.1.2
  rw[e] at z1
  rcases(rH k hh.1 hw.1.1 hne).mp hw.2 x hx.1 λi hi=>(z1 i).mp hi with q | q
  ·rw[q] at hx;omega
  ·rw[q] at hx;omega
theorem oi.step(hr:r.length=n)(k:oi n R L):oi n (R++[r]) (kv n L r):=⟨vJ hr k,xT hr k⟩
end
end M
set_option maxRecDepth 100000
set_option maxHeartbeats 4000000
namespace M
section
variable {n : Nat} {R L : List (List Int)}
end
end M
set_option maxRecDepth 100000
set_option maxHeartbeats 1000000
namespace M
end M
set_option maxRecDepth 100000
set_option maxHeartbeats 1000000
namespace M
structure Tight(left y:List Int)(a:Nat):Prop where
 pos:0<nth y a
 min:∀i,0<nth y i->nth left a*nth y i<=nth left i*nth y a
abbrev Sh:Type:=(Int×Int)×List Int
def psS(i:Nat)(T:List Sh):Int×Int:=T.foldl (λq s=>(q.1*s.1.2,s.1.2*q.2+s.1.1*q.1*nth s.2 i)) (1,0)
structure Red(n:Nat)(left y:List Int)(bot:Int)(a:Nat)(g:Int)(l':List Int)(b':Int):Prop where
 gp:0<g
 len:l'.length=n
 lv:∀i,g*nth l' i=nth left i*nth y a-nth y i*nth left a
 bv:g*b'=bot*nth y a
structure Shr(n:Nat)(R:List (List Int))(fit:List Int)(c:Nat)(ps:List (List Int))(T:List Sh)(left:List Int)(bot:Int):Prop where
 len:left.length=n
 nn:∀i,0<=nth left i
 bp:0<bot
 st:∀r∈R,bJ n (nth r) (nth left)=0
 sub:Sub left fit
 cn:T.length+cnt left<=cnt fit
 good:∀s∈T,0<s.1.1/\0<s.1.2/\Int.gcd s.1.1 s.1.2=1/\Sub s.2 fit
 sl:(T.map (·.2)).Sublist ps
 eq:∀i,bot*(psS i T).2+(psS i T).1*nth left i=(psS i T).1*bot*nth fit i
 no:∀y∈ps,¬Sub y left
 sz:SzL (c+8001*T.length) left
 szb:Sz (c+8001*T.length) bot
 szt:∀s∈T,Sz (c+8001*T.length) s.1.1/\Sz (c+8001*T.length) s.1.2
def mkS(C:Int)(i:Nat)(m:Int)(T:List Sh):Int:=T.foldl (λm s=>m+s.1.1*(C/s.1.2)*nth s.2 i) m
end M
set_option maxRecDepth 100000
set_option maxHeartbeats 4000000
namespace M
open PySem PySem.Spec PyProof.Rows L2
abbrev pyL(r:List Int):PyData:=.list (r.map PyData.int)
theorem wu:∀A:List (List Int),gB (A.map vI)=some (A.map pyL)
 | []=>by simp[gB]
 | r::A=>by simp[gB,toPy,lD,wu A]
theorem sW{O:aD}:∀A:List (List Int),bH O (A.map vI)=A.map vI
 | []=>by simp[bH]
 | r::A=>by simp[bH,res,kW,sW A]
theorem sf:∀A:List (List Int),PyData.canLayAll0 (A.map pyL)=true
 | []=>by simp[PyData.canLayAll0]
 | r::A=>by simp[PyData.canLayAll0,PyData.canLay0,kJ,sf A]
theorem ur:∀A:List (List Int),PyData.depthAll (A.map pyL)<=1
 | []=>by simp[PyData.depthAll]
 | r::A=>by
  have:=ur A
  simp[PyData.depthAll,PyData.depth,lJ]
  omega
theorem rn(A:List (List Int)):SeqAt.shaped (.list (A.map pyL))=true:=by
 have:=ur A
 simp[SeqAt.shaped,PyData.canLay0,sf,PyData.depth]
 omega
theorem yU:∀A B:List (List Int),PyData.eqvAll (A.map pyL) (B.map pyL)=decide (A=B)
 | [],[]=>by simp[PyData.eqvAll]
 | [],_::_=>by simp[PyData.eqvAll]
 | _::_,[]=>by simp[PyData.eqvAll]
 | a::r,b::t=>by
  simp only[List.map_cons,PyData.eqvAll,PyData.eqv,n8,yU r t]
  by_cases h:a=b <;> by_cases h':r=t <;> simp[h,h']
theorem D1{O:aD}(A B:List (List Int)):eqB O (vII A) (vII B)=some (decide (A=B)):=by
 show gK O _ _=_
 unfold gK
 simp only[res,sW,toPy,wu,Option.map_some]
 rw[if_pos ⟨rn A,rn B⟩]
 simp only[PyData.eqv,yU]
theorem ER{O:aD}(A B:List (List Int)):neD O (vII A) (vII B)=.ok (.bl (!decide (A=B))):=by unfold neD;rw[D1]
theorem CJ(ms:List Int)(lo hi:Nat):∃ks:List Int,cutD (ms.map D.int) (some (lo:Int)) (some (hi:Int))=ks.map D.int/\ks.length<=hi-lo:=by
 refine⟨(ms.drop (min lo ms.length)).take (min hi ms.length-min lo ms.length), ?_, ?_⟩
 ·unfold cutD
  rw[HT.pW,HT.pW,List.length_map,List.map_take,List.map_drop]
 ·rw[List.length_take,List.length_drop]
  omega
end M
set_option maxRecDepth 100000
set_option maxHeartbeats 4000000
namespace M
open PySem PySem.Spec PyProof.Rows L2
theorem BX{α:Type}(l:List α):pick l none none (some (-1))=l.reverse:=by
 have hb:sliceBounds none none (some (-1)) l.length=((l.length:Int)-1,-1,-1):=by
  unfold sliceBounds
  rfl
 have hr:sliceRange ((l.length:Int)-1) (-1) (-1)=(List.range l.length).map λ(k:Nat)=>((l.length:Int)-1 + -1*(k:Int)).toNat:=by
  unfold sliceRange
  have hc:(if (-1:Int)>0 then (if (l.length:Int)-1 < -1 then (-1-((l.length:Int)-1) + -1-1) / -1 else 0) else (if (l.length:Int)-1 > -1 then ((l.length:Int)-1 - -1 - -1-1) / - -1 else 0)).toNat=l.length:=by
   rw[if_neg (by decide)]
   split
   ·rw[show (- -1:Int)=1 by decide,Int.ediv_one];omega
   ·omega
  dsimp only
  rw[hc]
 unfold pick
 rw[hb]
 dsimp only
 rw[hr]
 have key:∀m,m<=l.length->((List.range m).map λ(k:Nat)=>((l.length:Int)-1 + -1*(k:Int)).toNat).filterMap (l[·]?)=(l.reverse).take m:=by
  intro m
  induction m with
  | zero=>intro _;rfl
  | succ m ih=>
   intro hm
   rw[List.range_succ,List.map_append,List.filterMap_append,ih (by omega),List.take_succ,List.getElem?_reverse (by omega)]
   congr 1
   rw[List.map_singleton,show ((l.length:Int)-1 + -1*(m:Int)).toNat=l.length-1-m by omega,List.getElem?_eq_getElem (by omega)]
   simp[List.getElem?_eq_getElem (show l.length-1-m<l.length by omega)]
 rw[key l.length (Nat.le_refl _),List.take_of_length_le (by simp)]
end M
set_option maxRecDepth 100000
set_option maxHeartbeats 4000000
namespace M
open PySem PySem.Spec PyProof.Rows L2
abbrev sg(z:Str):List Nat:=z.cps.toList
theorem rY(z:Str):(sg z).length=z.length:=by unfold Str.length;simp
theorem o6{a b:Str}(h:sg a=sg b):a=b:=Str.ext' (Array.toList_inj.mp h)
theorem wX(a b:Str):sg (a++b)=sg a++sg b:=by
 show ((a++b:Str).cps).toList=_
 rw[Str.cps_append];simp
theorem wR{z:Str}{lo hi:Option Int}{a b:Nat}(hab:a<=b)(hb:b<=z.length)(h:Builtin.Str.strSliceIndices lo hi 1 z.length=(List.range (b-a)).map (λk=>a+k)):sg (jX z lo hi)=((sg z).drop a).take (b-a):=by
 have key:(((List.range (b-a)).map (λk=>a+k)).filterMap (λi=>(sg z)[i]?))=((sg z).drop a).take (b-a):=StrLaws.picks (sg z) (b-a) a (by rw[rY];omega)
 unfold jX
 rw[h]
 split
 ·rename_i hl
  have hl:b-a=z.length:=by simpa using hl
  have ha:a=0:=by omega
  subst ha
  rw[List.drop_zero,List.take_of_length_le (by rw[rY];omega)]
 ·rw[<- key]
  simp[sg]
theorem HH{n b:Nat}(h:b<=n):Builtin.Str.strSliceIndices none (some (b:Int)) 1 n=(List.range (b-0)).map (λk=>0+k):=by
 rw[<- StrLaws.strSliceIndices_plain (Nat.zero_le b) h]
 unfold Builtin.Str.strSliceIndices
 simp
 rw[show max (0:Int) (min 0 (n:Int))=0 by omega]
theorem Hf{n a:Nat}(h:a<=n):Builtin.Str.strSliceIndices (some (a:Int)) none 1 n=(List.range (n-a)).map (λk=>a+k):=by
 rw[<- StrLaws.strSliceIndices_plain h (Nat.le_refl n)]
 unfold Builtin.Str.strSliceIndices
 simp
 rw[if_neg (show ¬(n:Int)<0 by omega),show max (0:Int) (min (n:Int) (n:Int))=(n:Int) by omega]
theorem EC{z:Str}{b:Nat}(h:b<=z.length):sg (jX z none (some (b:Int)))=(sg z).take b:=by
 rw[wR (Nat.zero_le b) h (HH h),List.drop_zero,Nat.sub_zero]
theorem EN{z:Str}{a:Nat}(h:a<=z.length):sg (jX z (some (a:Int)) none)=(sg z).drop a:=by
 rw[wR h (Nat.le_refl _) (Hf h),List.take_of_length_le]
 rw[List.length_drop,rY];omega
end M
set_option maxRecDepth 100000
set_option maxHeartbeats 4000000
namespace M
open PySem PySem.Spec PyProof.Rows L2
section
variable {s s1 s2 : S} {R R' : List (Option D)} {O O' : aD} {d x y : D} {xs ys : List D}
theorem aJ{f:Op2}{ma mb:EM}(ha:ma s=.ok (x,s1))(hb:mb s1=.ok (y,s2))(hf:f s2.o x y=.ok d):ao f ma mb s=.ok (d,s2):=by
 rw[dR,ha,ak];dsimp only;rw[hb,ak];dsimp only;rw[hf,ak]
theorem qH{f:Op1}{ma:EM}(ha:ma s=.ok (x,s1))(hf:f s1.o x=.ok d):unM f ma s=.ok (d,s1):=by
 rw[GV,ha,ak];dsimp only;rw[hf,ak]
theorem dC{f:OpN}{ma:AM}(ha:ma s=.ok (xs,s1))(hf:f s1.o xs=.ok d):bC f ma s=.ok (d,s1):=by
 rw[iQ,ha,ak];dsimp only;rw[hf,ak]
theorem aA{m:EM}{r:AM}(ha:m s=.ok (x,s1))(hb:r s1=.ok (ys,s2)):ae m r s=.ok (x::ys,s2):=by
 rw[aY,ha,ak];dsimp only;rw[hb,ak]
theorem zp{ma:AM}(ha:ma s=.ok (xs,s1))(hl:xs.length<=16777216):o3 ma s=.ok (.tup xs,s1):=by
 rw[yO,ha,ak];dsimp only;rw[if_pos hl]
theorem n4{ma:AM}(ha:ma s=.ok (xs,s1))(hl:xs.length<=16777216):gG ma s=.ok (.lst xs,s1):=by
 rw[DS,ha,ak];dsimp only;rw[if_pos hl]
theorem nH{ma:AM}{n:Nat}(ha:ma s=.ok (xs,⟨R,O⟩))(hl:xs.length<=16777216)(hn:O.length=n)(hO:O++[.lst xs]=O'):jy ma s=.ok (.ptr n,⟨R,O'⟩):=by
 rw[ET,ha,ak];dsimp only;rw[if_pos hl,hn,hO]
theorem j1{m:EM}{b:Bool}(h:m s=.ok (.bl b,s1)):bj m s=.ok (b,s1):=by
 rw[gd,h,ak]
theorem z8{m:TM}{b:Bool}(h:m s=.ok (b,s1)):pG m s=.ok (!b,s1):=by
 rw[sJ,h,ak]
theorem Du{a b:TM}{p q:Bool}(h:a s=.ok (p,s1))(hp:p=false)(h2:b s1=.ok (q,s2)):orT a b s=.ok (q,s2):=by
 subst hp;rw[vW,h,ak];exact h2
theorem tI{a b:EM}{p:Bool}(h:a s=.ok (.bl p,s1))(hp:p=true)(h2:b s1=.ok (x,s2)):qK a b s=.ok (x,s2):=by
 subst hp;rw[EK,h,ak];exact h2
theorem bD{m:EM}{i:Nat}(h:m s=.ok (d,⟨R,O⟩))(hR:R.set i (some d)=R'):setM i m s=.next ⟨R',O⟩:=by
 subst hR;exact yQ h
theorem pV{mo me:EM}{k:Nat}{ds0 ds:List D}(h1:mo s=.ok (.ptr k,s1))(c1:s1.o[k]? =some (.lst ds0))(h2:me s1=.ok (d,⟨R,O⟩))(c2:O[k]? =some (.lst ds))(hb:ds.length<=1000000)(hO:O.set k (.lst (ds++[d]))=O'):ki mo me s=.ok (.non,⟨R,O'⟩):=by
 subst hO;exact tS (s2:=⟨R,O⟩) h1 c1 h2 c2 hb
theorem qd{m:EM}{k:Nat}{ds:List D}(h:m s=.ok (.ptr k,⟨R,O⟩))(c:O[k]? =some (.lst ds))(hO:O.set k .dead=O'):oE m s=.ok (.lst ds,⟨R,O'⟩):=by
 subst hO;exact Et h c
theorem Ew{m:EM}{n:Nat}{ds:List D}(h:m s=.ok (x,⟨R,O⟩))(hs:qh O x=some ds)(hn:O.length=n)(hO:O++[.lst ds]=O'):rM m s=.ok (.ptr n,⟨R,O'⟩):=by
 rw[BW,h,ak];dsimp only;rw[hs];dsimp only;rw[hn,hO]
theorem Hw{c:Nat}{f:Str}{m:EM}{ns:List Str}{ds:List D}(h:m s=.ok (.obj c ns ds,s1))(hd:oM f ns ds=some d):pF c f m s=.ok (d,s1):=by
 rw[D3,h,ak]
 dsimp only
 rw[if_pos rfl,hd]
theorem qc{c n:Nat}{m:Str}{f:FM}{mo:EM}{ma:AM}{ns:List Str}{ds args:List D}{O1:aD}(ho:mo s=.ok (.obj c ns ds,s1))(ha:ma s1=.ok (args,s2))(hf:f (.obj c ns ds::args) []=.ok (x,O1))(hm:m∉ns)(hd:aI ds=true)(hp:aI args=true)(hl:args.length=n)(hr:bV x=true):
 methP c m n f mo ma s=.ok (x,s2):=C2 ho hm hd ha hp hl hf hr
theorem cI{n:Nat}{f:FM}{ma:AM}{ds:List D}{O1:aD}(h:ma s=.ok (ds,s1))(hf:f ds []=.ok (d,O1))(hp:aI ds=true)(hl:ds.length=n)(hd:bV d=true):aK n f ma s=.ok (d,s1):=dF h hp hl hf hd
theorem Ei{n:Nat}{f:FM}{ma:AM}{ds:List D}{O1:aD}(h:ma s=.ok (ds,⟨R,O⟩))(hf:f ds []=.ok (x,O1))(hp:aI ds=true)(hl:ds.length=n)(hx:shD O.length x=y)(hO:O++O1.map (shC O.length)=O'):qe n f ma s=.ok (y,⟨R,O'⟩):=by
 subst hx;subst hO;exact B7 h hp hl hf
theorem DY{n:Nat}{f:FM}{ma:AM}{ds rs:List D}{O1:aD}(h:ma s=.ok (ds,s1))(hr:bH s1.o (bH s1.o ds)=rs)(hf:f rs []=.ok (d,O1))(hp:aI rs=true)(hl:ds.length=n)(hd:lF d=true):lK n f ma s=.ok (d,s1):=by
 unfold lK
 rw[h,ak]
 dsimp only
 rw[hr,if_pos ⟨hp,hl⟩,hf]
 dsimp only
 rw[if_pos hd]
theorem Hq{c:TM}{A B:SM}{p:Bool}(h:c s=.ok (p,s1))(hp:p=true):ifS c A B s=A s1:=by subst hp;exact Dp h
theorem HD{c:TM}{A B:SM}{p:Bool}(h:c s=.ok (p,s1))(hp:p=false):ifS c A B s=B s1:=by subst hp;exact lM h
theorem kh(s:S):eH s=.ok (none,s):=rfl
theorem mx{m:EM}{i:Int}(h:m s=.ok (.int i,s1)):part m s=.ok (some i,s1):=by rw[ym,h,ak]
theorem Ce{me:EM}{ml mh:OM}{lo hi:Option Int}{s3:S}{ds es:List D}(h:me s=.ok (x,s1))(hl:ml s1=.ok (lo,s2))(hh:mh s2=.ok (hi,s3))(hd:lsD s3.o x=some ds)(he:cutD ds lo hi=es):slM me ml mh s=.ok (.lst es,s3):=by
 rw[BJ,h,ak];dsimp only;rw[hl,ak];dsimp only;rw[hh,ak];dsimp only;rw[hd];dsimp only;rw[he]
theorem Di{m:EM}{g:GM}(h:m s=.ok (d,s1))(hg:g d s1=.ok s2):m7 m g s=.next s2:=by
 rw[Ej,h,ak];dsimp only;rw[hg,iD]
end
theorem Av{O:aD}:eN O (.int 10) (.int 20)=.ok (.int 100000000000000000000):=mG (by decide) (by decide) (by decide)
section
variable {s s1 : S} {o : Out}
theorem aU{a b:SM}(h:a s=.next s1)(k:b s1=o):aT a b s=o:=(dq h).trans k
theorem gE{c:TM}{A B:SM}{p:Bool}(h:c s=.ok (p,s1))(hp:p=true)(k:A s1=o):ifS c A B s=o:=(Hq h hp).trans k
theorem eW{c:TM}{A B:SM}{p:Bool}(h:c s=.ok (p,s1))(hp:p=false)(k:B s1=o):ifS c A B s=o:=(HD h hp).trans k
theorem fK{n:Nat}{m:SM}{ds:List D}{O O1:aD}{d:D}{R:List (Option D)}(h:m ⟨ds.map some++List.replicate (n-ds.length) none,O⟩=.ret d ⟨R,O1⟩):runM n m ds O=.ok (d,O1):=fP h
end
end M
set_option maxRecDepth 100000
set_option maxHeartbeats 4000000
namespace M
open PySem PySem.Spec PyProof.Rows L2
theorem vy{n:Nat}{m:SM}{ds:List D}{O:aD}{d:D}{s:S}(h:m ⟨ds.map some++List.replicate (n-ds.length) none,O⟩=.ret d s):mf n m ds O=.ok (d,s.o):=by unfold mf;rw[h]
theorem qI{n:Nat}{m:SM}{ds:List D}{O:aD}{c:Nat}{a:D}{s:S}(h:m ⟨ds.map some++List.replicate (n-ds.length) none,O⟩=.exc c a s):mf n m ds O=.exc c a s:=by unfold mf;rw[h]
theorem D8{n:Nat}{m:SM}{ds:List D}{O:aD}{s:S}(h:m ⟨ds.map some++List.replicate (n-ds.length) none,O⟩=.next s):mf n m ds O=.ok (.non,s.o):=by unfold mf;rw[h]
section
variable {s s1 s2 : S} {c : Nat} {a : D} {o : Out}
theorem DD{A B:SM}(h:A s=.exc c a s1):aT A B s=.exc c a s1:=by
 show (A s).then B=_
 rw[h];rfl
theorem x_raise{ma:AM}{xs:List D}(h:ma s=.ok (xs,s1))(hl:xs.length<=1000):sj c ma s=.exc c .non s1:=by
 unfold sj
 rw[h,iD]
 dsimp only
 rw[if_pos (nr (by omega))]
theorem yG{m:EM}(h:m s=.exc c a s1):de m s=.exc c a s1:=by unfold de;rw[h];rfl
theorem AN{m:EM}(h:m s=.exc c a s1):cx m s=.exc c a s1:=by unfold cx;rw[h];rfl
theorem Bs{mb:SM}{hs:Nat->SM}{d:D}(h:mb s=.ret d s1):pQ mb hs s=.ret d s1:=by unfold pQ;rw[h]
theorem A0{mb:SM}{hs:Nat->SM}(h:mb s=.exc c a s1)(k:hs c s1=o):pQ mb hs s=o:=by unfold pQ;rw[h];exact k
theorem Dr{sub:Nat->Option Bool}{mb mr:Nat->SM}(h:sub c=some true)(k:mb c s=o):exM sub mb mr c s=o:=by unfold exM;rw[h];exact k
theorem Dl{i:Nat}{mb:SM}{d:D}{R:List (Option D)}{O:aD}(h:mb ⟨R.set i (some (.exn c)),O⟩=.ret d s1):asM i mb c ⟨R,O⟩=.ret d s1:=by unfold asM;dsimp only;rw[h]
theorem zB{sub:Nat->Option Bool}{m:EM}{b:Bool}(h:m s=.ok (.exn c,s1))(hs:sub c=some b):unM (m4 sub) m s=.ok (.bl b,s1):=by
 refine qH h ?_
 unfold m4
 dsimp only
 rw[hs]
end
end M
set_option maxRecDepth 100000
set_option maxHeartbeats 4000000
namespace M
open PySem PySem.Spec PyProof.Rows L2
def Sto(O:aD)(L:List (Nat×List Int)):Prop:=∀p∈L,O[p.1]? =some (.lst (p.2.map D.int))
theorem Sto.set{O:aD}{L:List (Nat×List Int)}(h:Sto O L){k:Nat}(hk:∀p∈L,p.1≠k)(c:Cell):Sto (O.set k c) L:=λp hp=>by rw[dc λz=>hk p hp z.symm];exact h p hp
theorem Sto.lt{O:aD}{L:List (Nat×List Int)}(h:Sto O L){p:Nat×List Int}(hp:p∈L):p.1<O.length:=wb (h p hp)
end M
set_option maxRecDepth 100000
set_option maxHeartbeats 4000000
namespace M
open PySem PySem.Spec PyProof.Rows L2
section
variable {α β : Type} (f g : α → β)
end
end M
set_option maxRecDepth 100000
set_option maxHeartbeats 4000000
namespace Lk25
open PySem PySem.Spec PyProof.Rows L2 M
def top(i:Nat):Stmt:=PySem.Challenge.pw_modeyard_k25_goods_weighed.main.body.getD i (.Pass ⟨0,0,0,0⟩)
abbrev iM:Stmt:=top 16
abbrev dI:Stmt:=top 18
abbrev fb:Stmt:=inClass (top 39) 4
abbrev fZ:Stmt:=inClass (top 39) 3
abbrev jI:Stmt:=top 20
abbrev gv:Stmt:=inClass (top 39) 1
abbrev eu:Stmt:=top 21
abbrev jC:Stmt:=top 22
abbrev jK:Stmt:=top 23
abbrev jM:Stmt:=top 28
abbrev fX:Stmt:=top 29
abbrev gs:Stmt:=top 30
abbrev fe:Stmt:=top 31
abbrev gx:Stmt:=top 32
abbrev eL:Stmt:=top 33
abbrev fB:Stmt:=top 34
abbrev fC:Stmt:=top 35
abbrev gU:Stmt:=top 36
abbrev gS:Stmt:=top 37
abbrev hX:Stmt:=top 38
abbrev gY:Stmt:=inClass (top 39) 0
abbrev iZ:Stmt:=top 41
abbrev iN:Stmt:=top 42
abbrev gW:Stmt:=top 43
abbrev i3:Stmt:=top 44
abbrev fj:Stmt:=top 45
abbrev fD:Stmt:=top 46
abbrev gX:Stmt:=top 47
abbrev fm:Stmt:=top 48
abbrev fk:Stmt:=top 49
abbrev fo:Stmt:=top 50
abbrev g7:Stmt:=top 51
abbrev lI:Stmt:=top 52
def aR:Nat->Option Bool:=λc=>match c with
 | 1=>some false
 | _=>none
def j6:Nat->Option Bool:=λc=>match c with
 | 1=>some true
 | _=>none
def jq:Nat->Option Bool:=λc=>match c with
 | 1=>some true
 | _=>none
def gk:Nat->Option Bool:=λc=>match c with
 | 1=>some true
 | _=>none
def caK(K:PySem.W.Frag):Nat->Addr:=λn=>match n with
 | 0=>clsAt K "Yard"
 | 1=>clsAt K "NoWeights"
 | 2=>clsAt K "YardError"
 | 3=>clsAt K "NoAmount"
 | 4=>clsAt K "NoBalance"
 | 5=>clsAt K "NoFit"
 | 6=>clsAt K "NoGood"
 | 7=>clsAt K "NoName"
 | 8=>clsAt K "NoRow"
 | 9=>clsAt K "NoText"
 | 10=>clsAt K "NoRatio"
 | 11=>clsAt K "NoWay"
 | 12=>clsAt K "NoWork"
 | 13=>clsAt K "TooMany"
 | _=>0
noncomputable def lC:SM:=
 (cx (qK (unM (jx "int") (aa 0)) (CW (unM (jx "bool") (aa 0)))))
noncomputable def iX:FM:=runM 1 lC
noncomputable def cV:SM:=
 (cx (bC mz (ae (cJ 2 [] (nL (ae (aa 0) (ae (aa 1) aq))) (d7 (bA (aO 0) (bA (aO 1) eD)) 2) cM (ao ck (aa 0) (aa 1))) aq)))
noncomputable def cf:FM:=runM 2 cV
noncomputable def gN:SM:=
 (cx (bC ig (ae (ao ixD (pF 0 "held_changes" (aa 0)) (aa 1)) aq)))
noncomputable def fq:FM:=runM 2 gN
noncomputable def iG:SM:=
 (cx (cJ 1 [] (listI (pF 0 "held_works" (aa 0))) (aO 0) cM (ao ixD (aa 0) (aj (.int 0)))))
noncomputable def gh:FM:=runM 1 iG
noncomputable def kX:SM:=
 (cx (cJ 1 [0] (gf (ae (bC dA (ae (methP 0 "names" 0 gh (aa 0) aq) aq)) aq)) (aO 0) cM (methP 0 "change" 1 fq (aa 1) (ae (aa 0) aq))))
noncomputable def iI:FM:=runM 1 kX
noncomputable def ip:SM:=
 (cx (bC ig (ae (pF 0 "held_goods" (aa 0)) aq)))
noncomputable def iE:FM:=runM 1 ip
noncomputable def cE:SM:=
 (ifS (bj (ao neD (bC dA (ae (aa 1) aq)) (bC dA (ae (methP 0 "goods" 0 iE (aa 0) aq) aq))))
 (sj 1 (ae (aj (.str ("weights have a number for each good" :Str))) aq))
 bI)
noncomputable def cF:FM:=mf 2 cE
noncomputable def iK:SM:=
 (aT (de (lO 2 cF (ae (aa 0) (ae (aa 1) aq))))
 (cx (aK 2 cf (ae (aa 1) (ae (aa 2) aq)))))
noncomputable def iu:FM:=mf 3 iK
noncomputable def iA:SM:=
 (aT (de (lO 2 cF (ae (aa 0) (ae (aa 1) aq))))
 (cx (bC wV (ae (cJ 1 [1] (listI (aK 1 iI (ae (aa 0) aq))) (aO 0) cM (ao eqD (aK 2 cf (ae (aa 1) (ae (aa 0) aq))) (aj (.int 0)))) aq))))
noncomputable def ix:FM:=mf 2 iA
noncomputable def kY:SM:=
 (aT (ifS (orT (bj (ao ltD (bC dA (ae (aa 0) aq)) (aj (.int 1)))) (bj (ao gtD (bC dA (ae (aa 0) aq)) (aj (.int 8)))))
 (cx (aj (.bl false)))
 bI)
 (cx (bC wV (ae (cJ 1 [] (zi (aa 0)) (aO 0) cM (pq oz oz (aj (.str ("a" :Str))) (aa 0) (aj (.str ("z" :Str))))) aq))))
noncomputable def jN:FM:=runM 1 kY
noncomputable def iH:SM:=
 (aT (ifS (bj (ao gtD (bC dA (ae (aa 0) aq)) (aj (.int 10))))
 mY
 bI)
 (ifS (bj (ao gtD (bC dA (ae (aa 1) aq)) (aj (.int 10))))
 mY
 bI))
noncomputable def gu:FM:=runM 2 iH
noncomputable def eS:SM:=
 (aT (ifS (pG (bj (aK 1 jN (ae (aa 0) aq))))
 mY
 bI)
 (ifS (bj (ao inD (aa 0) (aa 1)))
 mY
 bI))
noncomputable def dB:FM:=runM 2 eS
noncomputable def ik:SM:=
 (de (aK 2 dB (ae (aa 2) (ae (slM (aa 0) eH (part (aa 1))) aq))))
noncomputable def gH:SM:=
 (i8 (gF (ae (aa 0) aq)) (d7 (bA (aO 1) (bA (aO 2) eD)) 2)
 ik)
noncomputable def eZ:FM:=runM 3 gH
noncomputable def iJ:SM:=
 (aT (ifS (bj (ao px (aa 0) (aa 1)))
 mY
 bI)
 (ifS (bj (ao inD (aa 0) (aa 2)))
 mY
 bI))
noncomputable def gw:FM:=runM 3 iJ
noncomputable def gb:SM:=
 (ifS (orT (pG (bj (aK 1 iX (ae (aa 0) aq)))) (bj (ao ltD (aa 0) (aj (.int 1)))))
 mY
 bI)
noncomputable def eM:FM:=runM 1 gb
noncomputable def ib:SM:=
 (aT (de (lK 3 gw (ae (aa 3) (ae (aa 1) (ae (aa 2) aq)))))
 (aT (de (aK 1 eM (ae (aa 4) aq)))
 (de (ki (aa 2) (aa 3)))))
noncomputable def fc:SM:=
 (aT (setM 2 (jy aq))
 (i8 (listI (aa 0)) (d7 (bA (aO 3) (bA (aO 4) eD)) 2)
 ib))
noncomputable def df:FM:=runM 5 fc
noncomputable def ie:SM:=
 (aT (de (lK 2 dB (ae (aa 3) (ae (aa 2) aq))))
 (aT (de (aK 2 df (ae (aa 4) (ae (aa 1) aq))))
 (aT (de (aK 2 df (ae (aa 5) (ae (aa 1) aq))))
 (de (ki (aa 2) (aa 3))))))
noncomputable def gP:SM:=
 (aT (setM 2 (jy aq))
 (i8 (listI (aa 0)) (d7 (bA (aO 3) (bA (aO 4) (bA (aO 5) eD))) 3)
 ie))
noncomputable def fg:FM:=runM 6 gP
noncomputable def jn:SM:=
 (cx (o3 (ae (ao ixD (aa 0) (aj (.int 0))) (ae (bC ig (ae (ao ixD (aa 0) (aj (.int 1))) aq)) (ae (bC ig (ae (ao ixD (aa 0) (aj (.int 2))) aq)) aq)))))
noncomputable def hJ:FM:=runM 1 jn
noncomputable def g5:SM:=
 (cx (bC mz (ae (cJ 1 [0] (listI (aa 1)) (aO 0) (bj (ao eqD (ao ixD (aa 0) (aj (.int 0))) (aa 1))) (ao ixD (aa 0) (aj (.int 1)))) aq)))
noncomputable def da:FM:=runM 2 g5
noncomputable def jl:SM:=
 (cx (cJ 1 [0] (listI (aa 1)) (aO 0) cM (ao eY (aK 2 da (ae (aa 0) (ae (ao ixD (aa 1) (aj (.int 2))) aq))) (aK 2 da (ae (aa 0) (ae (ao ixD (aa 1) (aj (.int 1))) aq))))))
noncomputable def g0:FM:=runM 2 jl
noncomputable def jh:SM:=
 (aT (de (aK 2 gu (ae (aa 1) (ae (aa 2) aq))))
 (aT (de (aK 1 eZ (ae (aa 1) aq)))
 (aT (de (aK 2 fg (ae (aa 2) (ae (aa 1) aq))))
 (aT (nV 0 "held_goods" (aa 0) (bC ig (ae (aa 1) aq)))
 (aT (nV 0 "held_works" (aa 0) (cJ 1 [] (listI (aa 2)) (aO 0) cM (aK 1 hJ (ae (aa 0) aq))))
 (nV 0 "held_changes" (aa 0) (cJ 1 [1] (listI (aa 2)) (aO 0) cM (aK 2 g0 (ae (aa 0) (ae (aa 1) aq))))))))))
noncomputable def gZ:FM:=runM 3 jh
noncomputable def eI:SM:=
 (aT (ifS (bj (ao ltD (aa 1) (bC dA (ae (aa 0) aq))))
 (cx (ao ixD (aa 0) (aa 1)))
 bI)
 (cx (aj (.int 0))))
noncomputable def bL:FM:=runM 2 eI
noncomputable def aZ:SM:=
 (aT (setM 3 (ao dh (ao ck (ao bu (ao dh (aa 0) (aj (.int 2147483647))) (aj (.int 7))) (ao bu (aj (.int 48271)) (ao ck (aj (.int 7919)) (aa 1)))) (aj (.int 2147483647))))
 (cx (ao dh (ao gA (ao dh (ao ck (aa 3) (aj (.int 16807))) (aj (.int 2147483647))) (aj (.int 8))) (aa 2))))
noncomputable def aC:FM:=runM 4 aZ
noncomputable def gO:SM:=
 (setM 3 (ao bu (aa 3) (ao ixD (aa 2) (aK 3 aC (ae (aa 0) (ae (ao bu (aj (.int 2)) (aa 4)) (ae (aj (.int 26)) aq)))))))
noncomputable def gR:SM:=
 (aT (setM 2 (aj (.str ("abcdefghijklmnopqrstuvwxyz" :Str))))
 (aT (setM 3 (aj (.str ("" :Str))))
 (aT (i8 (gf (ae (aK 3 aC (ae (aa 0) (ae (aj (.int 1)) (ae (aj (.int 8)) aq)))) aq)) (aO 4)
 gO)
 (aT (setM 5 (aK 3 aC (ae (aa 0) (ae (aj (.int 10)) (ae (ao bu (bC dA (ae (aa 3) aq)) (aj (.int 1))) aq)))))
 (aT (setM 6 (aK 3 aC (ae (aa 0) (ae (aj (.int 11)) (ae (aj (.int 26)) aq)))))
 (cx (cJ 1 [6,2,5,3] (gf (ae (aa 1) aq)) (aO 0) cM (ao bu (ao bu (slS (aa 4) eH (part (aa 3))) (ao ixD (aa 2) (ao dh (ao bu (aa 1) (ao ck (aj (.int 5)) (aa 0))) (aj (.int 26))))) (slS (aa 4) (part (aa 3)) eH)))))))))
noncomputable def cX:FM:=runM 7 gR
noncomputable def j9:SM:=
 (aT (setM 7 (ao eY (aK 3 aC (ae (aa 0) (ae (ao bu (aj (.int 20)) (aa 6)) (ae (aj (.int 7)) aq)))) (aj (.int 3))))
 (aT (ifS (bj (aa 2))
 (setM 7 (ao eY (ao bu (ao ck (aa 7) (ao dh (aa 0) (ao eN (aj (.int 10)) (aj (.int 12))))) (aK 3 aC (ae (aa 0) (ae (ao bu (aj (.int 30)) (aa 6)) (ae (aj (.int 2000)) aq))))) (aj (.int 1000))))
 bI)
 (aT (ifS (oO (bj (ao eqD (ao dh (aa 0) (aj (.int 2))) (aj (.int 1)))) (bj (ao gtD (aa 4) (aj (.int 0)))))
 (aT (setM 7 (ao eY (ao dh (aa 4) (aa 5)) (ao gA (aa 5) (aj (.int 2)))))
 (setM 4 (ao gA (aa 4) (aa 5))))
 bI)
 (de (ki (aa 3) (aa 7))))))
noncomputable def jT:SM:=
 (aT (setM 3 (jy aq))
 (aT (setM 4 (ao gA (aa 0) (aj (.int 2))))
 (aT (setM 5 (ao ixD (gG (ae (aj (.int 7)) (ae (ao bu (ao ck (aj (.int 2)) (ao eN (aj (.int 10)) (aj (.int 12)))) (aj (.int 1))) aq))) (bC intOf (ae (aa 2) aq))))
 (aT (i8 (gf (ae (aa 1) aq)) (aO 6)
 j9)
 (cx (aa 3))))))
noncomputable def iV:FM:=runM 8 jT
noncomputable def fN:SM:=
 (aT (setM 6 (ao eY (aK 3 aC (ae (aa 0) (ae (ao bu (aj (.int 100)) (aa 5)) (ae (aj (.int 7)) aq)))) (aj (.int 3))))
 (aT (ifS (bj (ao eqD (aK 3 aC (ae (aa 0) (ae (aj (.int 110)) (ae (aj (.int 6)) aq)))) (aj (.int 0))))
 (setM 6 (ao ck (aa 6) (ao dh (aa 0) (ao eN (aj (.int 10)) (aj (.int 9))))))
 bI)
 (aT (ifS (oO (bj (ao eqD (ao dh (aa 0) (aj (.int 2))) (aj (.int 1)))) (bj (ao gtD (aa 4) (aj (.int 0)))))
 (aT (setM 6 (ao eY (ao dh (aa 4) (aj (.int 7))) (aj (.int 3))))
 (setM 4 (ao gA (aa 4) (aj (.int 7)))))
 bI)
 (de (ki (aa 3) (bC kG (ae (aa 6) (ae (aa 2) aq))))))))
noncomputable def gJ:SM:=
 (aT (setM 3 (jy aq))
 (aT (setM 4 (ao gA (aa 0) (aj (.int 2))))
 (aT (i8 (gf (ae (aa 1) aq)) (aO 5)
 fN)
 (aT (ifS (bj (ao gtD (aa 1) (aj (.int 0))))
 (m7 (aj (.int 1)) (pP (aa 3) (aK 3 aC (ae (aa 0) (ae (aj (.int 111)) (ae (aa 1) aq))))))
 bI)
 (cx (oE (aa 3)))))))
noncomputable def fA:FM:=runM 7 gJ
noncomputable def h8:SM:=
 (aT (setM 8 (qe 3 iV (ae (ao bu (aK 2 bL (ae (aa 0) (ae (ao bu (ao bu (aa 1) (aj (.int 1))) (aa 7)) aq))) (ao ck (aj (.int 13)) (aa 7))) (ae (aa 4) (ae (aa 6) aq)))))
 (aT (ifS (bj (ao gtD (aa 4) (aj (.int 0))))
 (aT (setM 9 (nE (aa 2) (aj (.int 1))))
 (aT (setM 10 (bC mz (ae (cJ 1 [8,2] (gf (ae (aa 4) aq)) (aO 0) cM (ao ck (ao ixD (aa 2) (aa 0)) (ao ixD (aa 1) (aa 0)))) aq)))
 (m7 (ao eY (ao ixD (aa 8) (aa 9)) (aa 10)) (pP (aa 8) (aa 9)))))
 bI)
 (de (ki (aa 5) (oE (aa 8))))))
noncomputable def gI:SM:=
 (aT (setM 3 (aK 2 bL (ae (aa 0) (ae (aa 1) aq))))
 (aT (setM 4 (bC dA (ae (aa 2) aq)))
 (aT (setM 5 (jy aq))
 (aT (setM 6 (ao eqD (aK 3 aC (ae (aa 3) (ae (aj (.int 41)) (ae (aj (.int 6)) aq)))) (aj (.int 0))))
 (aT (i8 (gf (ae (ao dh (aK 3 aC (ae (aa 3) (ae (aj (.int 40)) (ae (aj (.int 6)) aq)))) (ao eY (aj (.int 6)) (ao ck (aj (.int 2)) (bC intOf (ae (aa 6) aq))))) aq)) (aO 7)
 h8)
 (cx (oE (aa 5))))))))
noncomputable def ey:FM:=runM 11 gI
noncomputable def gL:SM:=
 (aT (setM 11 (ao ck (ao gA (aK 3 aC (ae (ao bu (aa 3) (aa 5)) (ae (ao bu (aj (.int 70)) (aa 9)) (ae (aj (.int 4)) aq)))) (aj (.int 3))) (ao bu (aj (.int 1)) (aK 3 aC (ae (ao bu (aa 3) (aa 5)) (ae (ao bu (aj (.int 80)) (aa 9)) (ae (aj (.int 9)) aq)))))))
 (aT (ifS (bj (ao gtD (ao bu (aa 11) (bC kG (ae (aj (.int 0)) (ae (unM mZ (aa 10)) aq)))) (aj (.int 0))))
 (de (ki (aa 7) (o3 (ae (ao ixD (aa 1) (aa 9)) (ae (ao bu (aa 11) (bC kG (ae (aj (.int 0)) (ae (unM mZ (aa 10)) aq)))) aq)))))
 bI)
 (ifS (bj (ao gtD (ao bu (aa 11) (bC kG (ae (aj (.int 0)) (ae (aa 10) aq)))) (aj (.int 0))))
 (de (ki (aa 8) (o3 (ae (ao ixD (aa 1) (aa 9)) (ae (ao bu (aa 11) (bC kG (ae (aj (.int 0)) (ae (aa 10) aq)))) aq)))))
 bI)))
noncomputable def gM:SM:=
 (aT (setM 7 (jy aq))
 (aT (setM 8 (jy aq))
 (aT (i8 (gF (ae (aa 6) aq)) (d7 (bA (aO 9) (bA (aO 10) eD)) 2)
 gL)
 (aT (ifS (bj (ao eqD (aK 3 aC (ae (ao bu (aa 3) (aa 5)) (ae (aj (.int 90)) (ae (aj (.int 2)) aq)))) (aj (.int 1))))
 (setM 7 (wk ze (aa 7) eH eH (part (unM mZ (aj (.int 1))))))
 bI)
 (de (ki (aa 4) (o3 (ae (ao ixD (aa 2) (aa 5)) (ae (wN (aa 7)) (ae (oE (aa 8)) aq))))))))))
noncomputable def ji:SM:=
 (aT (setM 4 (jy aq))
 (aT (i8 (gF (ae (aa 0) aq)) (d7 (bA (aO 5) (bA (aO 6) eD)) 2)
 gM)
 (cx (oE (aa 4)))))
noncomputable def fT:FM:=runM 12 ji
noncomputable def eB:SM:=
 (aT (ifS (bj (unM (m4 aR) (aa 0)))
 (cx (aj (.str ("another" :Str))))
 bI)
 (cx (ao ixD (gG (ae (aj (.str ("two" :Str))) (ae (aj (.str ("weights" :Str))) aq))) (bC intOf (ae (qK (unM (m4 j6) (aa 0)) (unM (m4 jq) (aa 0))) aq)))))
noncomputable def dJ:FM:=runM 1 eB
noncomputable def eE:SM:=
 (pQ (cx (lO 3 iu (ae (aa 0) (ae (aa 1) (ae (aa 2) aq)))))
 (exM gk (asM 3 (cx (aK 1 dJ (ae (aa 3) aq))))
 BZ))
noncomputable def dO:FM:=runM 4 eE
noncomputable def eG:SM:=
 (pQ (cx (lO 2 ix (ae (aa 0) (ae (aa 1) aq))))
 (exM gk (asM 2 (cx (aK 1 dJ (ae (aa 2) aq))))
 BZ))
noncomputable def dM:FM:=runM 3 eG
noncomputable def eK:SM:=
 (aT (setM 4 (gG (ae (bC ig (ae (aa 2) aq)) (ae (bC ig (ae (aa 3) aq)) aq))))
 (aT (setM 5 (aK 3 dO (ae (aa 0) (ae (ao ixD (aa 4) (aj (.int 0))) (ae (ao ixD (aa 4) (aj (.int 1))) aq)))))
 (aT (setM 6 (aK 2 dM (ae (aa 0) (ae (ao ixD (aa 4) (aj (.int 0))) aq))))
 (aT (ifS (bj (ao neD (aa 4) (gG (ae (aa 2) (ae (aa 3) aq)))))
 (cx (aj (.bl false)))
 bI)
 (aT (ifS (bj (ao neD (bC dA (ae (aa 2) aq)) (bC dA (ae (aa 3) aq))))
 (cx (qK (ao eqD (aa 5) (aj (.str ("weights" :Str)))) (ao eqD (aa 6) (aj (.str ("weights" :Str))))))
 bI)
 (aT (ifS (orT (pG (bj (unM (jx "int") (aa 5)))) (orT (bj (unM (jx "bool") (aa 5))) (pG (bj (unM (jx "bool") (aa 6))))))
 (cx (aj (.bl false)))
 bI)
 (aT (setM 7 (bC wV (ae (cJ 1 [2] (listI (aa 1)) (aO 0) cM (ao eqD (bC mz (ae (cJ 2 [] (nL (ae (aa 1) (ae (aa 0) aq))) (d7 (bA (aO 0) (bA (aO 1) eD)) 2) cM (ao ck (aa 0) (aa 1))) aq)) (aj (.int 0)))) aq)))
 (cx (qK (ao eqD (aa 5) (bC mz (ae (cJ 2 [] (nL (ae (aa 2) (ae (aa 3) aq))) (d7 (bA (aO 0) (bA (aO 1) eD)) 2) cM (ao ck (aa 0) (aa 1))) aq))) (ao eqD (aa 6) (aa 7)))))))))))
noncomputable def eJ:FM:=runM 8 eK
noncomputable def nv:SM:=
 (aT (setM 8 (cJ 1 [7] (gf (ae (aa 2) aq)) (aO 0) cM (ao eY (aK 3 aC (ae (aa 1) (ae (aa 0) (ae (aj (.int 2001)) aq)))) (aj (.int 1000)))))
 (aT (ifS (bj (ao eqD (aK 3 aC (ae (aa 7) (ae (aj (.int 20)) (ae (aj (.int 3)) aq)))) (aj (.int 0))))
 (setM 8 (cJ 1 [7] (listI (aa 8)) (aO 0) cM (ao ck (aa 0) (ao dh (aa 1) (ao eN (aj (.int 10)) (aj (.int 22)))))))
 bI)
 (aT (setM 9 (rM (aa 3)))
 (aT (ifS (oO (bj (ao eqD (aK 3 aC (ae (aa 7) (ae (aj (.int 21)) (ae (aj (.int 2)) aq)))) (aj (.int 0)))) (bj (ao gtD (aa 2) (aj (.int 0)))))
 (rD zr (aa 9) (aK 3 aC (ae (aa 7) (ae (aj (.int 22)) (ae (aa 2) aq)))) (ao bu (aj (.int 1)) (ao dh (aa 7) (ao eN (aj (.int 10)) (aj (.int 20))))))
 bI)
 (aT (ifS (bj (ao eqD (aK 3 aC (ae (aa 7) (ae (aj (.int 23)) (ae (aj (.int 3)) aq)))) (aj (.int 0))))
 (setM 9 (pX 1 [7] (listI (aa 3)) (aO 0) cM (ao ck (ao ck (aj (.int 3)) (aa 0)) (ao bu (aj (.int 1)) (ao dh (aa 1) (ao eN (aj (.int 10)) (aj (.int 10))))))))
 bI)
 (aT (ifS (bj (ao eqD (aK 3 aC (ae (aa 7) (ae (aj (.int 24)) (ae (aj (.int 4)) aq)))) (aj (.int 0))))
 (setM 9 (ao ixD (gG (ae (ao bu (aa 9) (gG (ae (aj (.int 0)) aq))) (ae (slM (aa 9) (part (aj (.int 1))) eH) aq))) (ao ck (bC intOf (ae (ao gtD (aa 2) (aj (.int 0))) aq)) (aK 3 aC (ae (aa 7) (ae (aj (.int 25)) (ae (aj (.int 2)) aq)))))))
 bI)
 (ifS (pG (bj (lK 4 eJ (ae (aa 6) (ae (aa 4) (ae (aa 9) (ae (aa 8) aq)))))))
 (cx (aj (.bl false)))
 bI)))))))
noncomputable def zh:SM:=
 (aT (setM 1 (aK 2 bL (ae (aa 0) (ae (aj (.int 0)) aq))))
 (aT (setM 2 (aK 3 aC (ae (aa 1) (ae (aj (.int 45)) (ae (aj (.int 6)) aq)))))
 (aT (setM 3 (aK 3 fA (ae (aa 1) (ae (aa 2) (ae (unM mZ (ao eN (aj (.int 10)) (aj (.int 10)))) aq)))))
 (aT (setM 4 (aK 3 ey (ae (aa 0) (ae (aj (.int 0)) (ae (aa 3) aq)))))
 (aT (setM 5 (aK 2 cX (ae (ao bu (aa 1) (aj (.int 1))) (ae (aa 2) aq))))
 (aT (setM 6 (rK 0 2 gZ (ae (aa 5) (ae (aK 4 fT (ae (aa 4) (ae (aa 5) (ae (aK 2 cX (ae (aa 1) (ae (bC dA (ae (aa 4) aq)) aq))) (ae (aa 1) aq))))) aq))))
 (aT (i8 (listI (ao bu (gG (ae (aK 2 bL (ae (aa 0) (ae (aj (.int 6)) aq))) aq)) (slM (aa 0) (part (aj (.int 7))) (part (aj (.int 12)))))) (aO 7)
 nv)
 (cx (aK 4 eJ (ae (aa 6) (ae (aa 4) (ae (aa 3) (ae (cJ 1 [] (gf (ae (aa 2) aq)) (aO 0) cM (aj (.int 1))) aq)))))))))))))
noncomputable def vo:FM:=runM 10 zh
end Lk25
set_option maxRecDepth 100000
set_option maxHeartbeats 4000000
namespace Lk25
open PySem PySem.Spec PyProof.Rows L2 M
section
variable {P : Program} {w : World} {K : PySem.W.Frag} {mg : Str → Option Value} {base : Heap} {ca : Nat → Addr}
theorem xQ:bc ["value"] ["value"] (aE iM):=⟨rfl,rfl,rfl,by decide +kernel,rfl,by decide +kernel,by decide +kernel⟩
theorem xw{a:Addr}{fd:FuncData}(F:Fun K "is_whole" "is_whole" iM a fd)(hm:mg "is_whole" =some (.ref a))(hpt:P.given.tree=none)(n_isinstance:mg "isinstance" =none)(n_int:mg "int" =none)(n_bool:mg "bool" =none):cz P w K mg base ca 35 "is_whole" ["value"] iX a fd:=by
 refine⟨cb F xQ rfl λcdv A outer s H E hr=> ?_,hm,F.kp,F.binds λ_ _ _ _ _ _ us hl=>match us,hl with | [_],_=>rfl⟩
 have hu:=hr.units
 have hdp:=cj hr (by decide)
 exact⟨_,(aL (bN (rV (bo mK rfl n_isinstance Boot.«isinstance» (ag (pv 0) (ag (lQ (v:=.ty "int") rfl n_int Boot.«int» rfl) ar))) (rB (GW (bo mK rfl n_isinstance Boot.«isinstance» (ag (pv 0) (ag (lQ (v:=.ty "bool") rfl n_bool Boot.«bool» rfl) ar)))))))),
  (bP (p6 (pz ty_int (ah 0)) (Ee (pz ty_bool (ah 0)))))⟩
theorem oY:bc ["numbers","others"] ["numbers","others"] (aE dI):=⟨rfl,rfl,rfl,by decide +kernel,rfl,by decide +kernel,by decide +kernel⟩
theorem pf{a:Addr}{fd:FuncData}(F:Fun K "sum_of_products" "sum_of_products" dI a fd)(hm:mg "sum_of_products" =some (.ref a))(hpt:P.given.tree=none)(n_zip:mg "zip" =none)(n_sum:mg "sum" =none):cz P w K mg base ca 35 "sum_of_products" ["numbers","others"] cf a fd:=by
 refine⟨cb F oY rfl λcdv A outer s H E hr=> ?_,hm,F.kp,F.binds λ_ _ _ _ _ _ us hl=>match us,hl with | [_,_],_=>rfl⟩
 have hu:=hr.units
 have hdp:=cj hr (by decide)
 exact⟨_,(aL (bN (bo (kO rfl) rfl n_sum Boot.«sum» (ag (dW (own:=["number","other"]) (cap:=[]) (caps:=[]) rfl ⟨rfl,by decide +kernel,by decide +kernel,by decide +kernel,trivial,by decide +kernel⟩ (v9 rfl n_zip (ag (pv 0) (ag (pv 1) ar))) (λ_ _ _=>(kR rfl (cR (bB (i:=0) (show ((["number","other"]:List Str)++([]:List Str)).Nodup from by decide +kernel) rfl (Or.inl rfl)) (cR (bB (i:=1) (show ((["number","other"]:List Str)++([]:List Str)).Nodup from by decide +kernel) rfl (Or.inl rfl)) jH)))) (λ_ _ _=>dm) (λ_ _ _=>(aP eX (pv 0) (pv 1)))) ar)))),
  (bP (bg o5 (ai (dk (m:=2) (caps:=[]) (wL (ai (ah 0) (ai (ah 1) ay))) (jE (cO (bb 0) (cO (bb 1) jA))) du (av dP (ah 0) (ah 1))) ay)))⟩
theorem su:bc ["self","at"] ["self","at"] (aE fb):=⟨rfl,rfl,rfl,by decide +kernel,rfl,by decide +kernel,by decide +kernel⟩
theorem sr{a:Addr}{fd:FuncData}(F:Fun K "change" "Yard.change" fb a fd)(hm:Meth K (ca 0) "change" a)(hpt:P.given.tree=none)(n_list:mg "list" =none)(cl_Yard:Cls K (ca 0))(na_Yard_held_changes:d6 K (ca 0) "held_changes"):MethAt P w K mg base ca 35 (ca 0) "change" ["self","at"] fq:=by
 refine⟨a,fd,cb F su rfl λcdv A outer s H E hr=> ?_,hm,F.binds λ_ _ _ _ _ _ us hl=>match us,hl with | [_,_],_=>rfl⟩
 have hu:=hr.units
 have hdp:=cj hr (by decide)
 exact⟨_,(aL (bN (dN en rfl n_list Boot.«list» (ag (dy cD (xj (pv 0) rfl) (pv 1) (λ_ _=>rfl)) ar)))),
  (bP (bg jr (ai (av dw (vD (c:=0) (f:="held_changes") cl_Yard na_Yard_held_changes (ah 0)) (ah 1)) ay)))⟩
theorem uZ:bc ["self"] ["self"] (aE fZ):=⟨rfl,rfl,rfl,by decide +kernel,rfl,by decide +kernel,by decide +kernel⟩
theorem uQ{a:Addr}{fd:FuncData}(F:Fun K "names" "Yard.names" fZ a fd)(hm:Meth K (ca 0) "names" a)(hpt:P.given.tree=none)(cl_Yard:Cls K (ca 0))(na_Yard_held_works:d6 K (ca 0) "held_works"):MethAt P w K mg base ca 35 (ca 0) "names" ["self"] gh:=by
 refine⟨a,fd,cb F uZ rfl λcdv A outer s H E hr=> ?_,hm,F.binds λ_ _ _ _ _ _ us hl=>match us,hl with | [_],_=>rfl⟩
 have hu:=hr.units
 have hdp:=cj hr (by decide)
 exact⟨_,(aL (bN (dW (own:=["work"]) (cap:=[]) (caps:=[]) rfl ⟨rfl,by decide +kernel,by decide +kernel,by decide +kernel,trivial,by decide +kernel⟩ (fu (xj (pv 0) rfl)) (λ_ _ _=>(bB (i:=0) (show ((["work"]:List Str)++([]:List Str)).Nodup from by decide +kernel) rfl (Or.inl rfl))) (λ_ _ _=>dm) (λ_ _ _=>(dy cD (pv 0) ax (λ_ _=>rfl)))))),
  (bP (dk (m:=1) (caps:=[]) (fv (vD (c:=0) (f:="held_works") cl_Yard na_Yard_held_works (ah 0))) (bb 0) du (av dw (ah 0) (aw 0))))⟩
theorem zU:bc ["yard"] ["yard"] (aE jI):=⟨rfl,rfl,rfl,by decide +kernel,rfl,by decide +kernel,by decide +kernel⟩
theorem yY{a:Addr}{fd:FuncData}(F:Fun K "changes" "changes" jI a fd)(hm:mg "changes" =some (.ref a))(hpt:P.given.tree=none)(n_len:mg "len" =none)(n_range:mg "range" =none)(cl_Yard:Cls K (ca 0))(D_Yard_names:MethAt P w K mg base ca 35 (ca 0) "names" ["self"] gh)(D_Yard_change:MethAt P w K mg base ca 35 (ca 0) "change" ["self","at"] fq):cz P w K mg base ca 36 "changes" ["yard"] iI a fd:=by
 obtain⟨a_Yard_names,fd_Yard_names,G_Yard_names,iG,b_Yard_names⟩:=D_Yard_names
 obtain⟨a_Yard_change,fd_Yard_change,G_Yard_change,gN,b_Yard_change⟩:=D_Yard_change
 refine⟨cb F zU rfl λcdv A outer s H E hr=> ?_,hm,F.kp,F.binds λ_ _ _ _ _ _ us hl=>match us,hl with | [_],_=>rfl⟩
 have hu:=hr.units
 have hdp:=cj hr (by decide)
 exact⟨_,(aL (bN (dW (own:=["at"]) (cap:=["yard"]) (caps:=[0]) rfl ⟨rfl,by decide +kernel,by decide +kernel,by decide +kernel,⟨rfl,Or.inl rfl,rfl,trivial⟩,by decide +kernel⟩ (fJ rfl n_range (ag (bo dQ rfl n_len Boot.«len» (ag (vH (pv 0) cl_Yard iG G_Yard_names (hr.mono (by decide)) b_Yard_names .nil bf) ar)) ar)) (λ_ _ _=>(bB (i:=0) (show ((["at"]:List Str)++(["yard"]:List Str)).Nodup from by decide +kernel) rfl (Or.inl rfl))) (λ_ _ _=>dm) (λ_ _ _=>(Ec (pv 1) cl_Yard gN G_Yard_change (hr.mono (by decide)) b_Yard_change .nil bf (ag (pv 0) ar)))))),
  (bP (dk (m:=1) (caps:=[0]) (iR (ai (bg gi (ai (qX (c:=0) (m:="names") (n:=0) (f:=gh) (ah 0) ay) ay)) ay)) (bb 0) du (qX (c:=0) (m:="change") (n:=1) (f:=fq) (ah 1) (ai (ah 0) ay))))⟩
theorem u9:bc ["self"] ["self"] (aE gv):=⟨rfl,rfl,rfl,by decide +kernel,rfl,by decide +kernel,by decide +kernel⟩
theorem vg{a:Addr}{fd:FuncData}(F:Fun K "goods" "Yard.goods" gv a fd)(hm:Meth K (ca 0) "goods" a)(hpt:P.given.tree=none)(n_list:mg "list" =none)(cl_Yard:Cls K (ca 0))(na_Yard_held_goods:d6 K (ca 0) "held_goods"):MethAt P w K mg base ca 35 (ca 0) "goods" ["self"] iE:=by
 refine⟨a,fd,cb F u9 rfl λcdv A outer s H E hr=> ?_,hm,F.binds λ_ _ _ _ _ _ us hl=>match us,hl with | [_],_=>rfl⟩
 have hu:=hr.units
 have hdp:=cj hr (by decide)
 exact⟨_,(aL (bN (dN en rfl n_list Boot.«list» (ag (xj (pv 0) rfl) ar)))),
  (bP (bg jr (ai (vD (c:=0) (f:="held_goods") cl_Yard na_Yard_held_goods (ah 0)) ay)))⟩
theorem qJ:bc ["yard","weights"] ["yard","weights"] (aE eu):=⟨rfl,rfl,rfl,by decide +kernel,rfl,by decide +kernel,by decide +kernel⟩
theorem qR{a:Addr}{fd:FuncData}(F:Fun K "check_weights" "check_weights" eu a fd)(hm:mg "check_weights" =some (.ref a))(hpt:P.given.tree=none)(n_len:mg "len" =none)(cl_Yard:Cls K (ca 0))(xq_NoWeights:PySem.W.excIn K (ca 1) bmV "ValueError.__new__" =true)(xm_NoWeights:mg "NoWeights" =some (.ref (ca 1)))(D_Yard_goods:MethAt P w K mg base ca 35 (ca 0) "goods" ["self"] iE):cz P w K mg base ca 36 "check_weights" ["yard","weights"] cF a fd:=by
 obtain⟨a_Yard_goods,fd_Yard_goods,G_Yard_goods,ip,b_Yard_goods⟩:=D_Yard_goods
 refine⟨sX F qJ rfl λcdv A outer s H E hr=> ?_,hm,F.kp,F.binds λ_ _ _ _ _ _ us hl=>match us,hl with | [_,_],_=>rfl⟩
 have hu:=hr.units
 have hdp:=cj hr (by decide)
 exact⟨_,(aL (cK (bS (CI hu) (bo dQ rfl n_len Boot.«len» (ag (pv 1) ar)) (bo dQ rfl n_len Boot.«len» (ag (vH (pv 0) cl_Yard ip G_Yard_goods (hr.mono (by decide)) b_Yard_goods .nil bf) ar)) (bO _))
 (aL (CA Gr xq_NoWeights PySem.F.excBase_ValueError rfl rfl xm_NoWeights (ag jo ar)))
 bR)),
  (cL (b9 (av zH (bg gi (ai (ah 1) ay)) (bg gi (ai (qX (c:=0) (m:="goods") (n:=0) (f:=iE) (ah 0) ay) ay))))
 (CF (c:=1) zD (ai (jk ("weights have a number for each good" :Str)) ay))
 bT)⟩
theorem zt:bc ["yard","weights","amounts"] ["yard","weights","amounts"] (aE jC):=⟨rfl,rfl,rfl,by decide +kernel,rfl,by decide +kernel,by decide +kernel⟩
theorem An{a:Addr}{fd:FuncData}(F:Fun K "weighed" "weighed" jC a fd)(hm:mg "weighed" =some (.ref a))(hpt:P.given.tree=none)(jV:bY P w K mg base ca 36 "check_weights" ["yard","weights"] cF)(ja:bY P w K mg base ca 35 "sum_of_products" ["numbers","others"] cf):cz P w K mg base ca 37 "weighed" ["yard","weights","amounts"] iu a fd:=by
 obtain⟨rN,rh,j3,cE,j5,j4⟩:=jV
 obtain⟨qi,pA,jc,cV,jb,i9⟩:=ja
 refine⟨sX F zt rfl λcdv A outer s H E hr=> ?_,hm,F.kp,F.binds λ_ _ _ _ _ _ us hl=>match us,hl with | [_,_,_],_=>rfl⟩
 have hu:=hr.units
 have hdp:=cj hr (by decide)
 exact⟨_,(aG (cT (oF j3 (hr.mono (by decide)) rfl cE j5 j4 .nil DC.s (ag (pv 0) (ag (pv 1) ar))))
 (aL (bN (aS jc (hr.mono (by decide)) rfl cV jb i9 .nil bf (ag (pv 1) (ag (pv 2) ar)))))),
  (aN (cU (nO (n:=2) (f:=cF) zD (ai (ah 0) (ai (ah 1) ay))))
 (bP (aQ (n:=2) (f:=cf) (ai (ah 1) (ai (ah 2) ay)))))⟩
theorem zZ:bc ["yard","weights"] ["yard","weights"] (aE jK):=⟨rfl,rfl,rfl,by decide +kernel,rfl,by decide +kernel,by decide +kernel⟩
theorem zq{a:Addr}{fd:FuncData}(F:Fun K "is_kept" "is_kept" jK a fd)(hm:mg "is_kept" =some (.ref a))(hpt:P.given.tree=none)(n_all:mg "all" =none)(jV:bY P w K mg base ca 36 "check_weights" ["yard","weights"] cF)(Bq:bY P w K mg base ca 36 "changes" ["yard"] iI)(ja:bY P w K mg base ca 35 "sum_of_products" ["numbers","others"] cf):cz P w K mg base ca 37 "is_kept" ["yard","weights"] ix a fd:=by
 obtain⟨rN,rh,j3,cE,j5,j4⟩:=jV
 obtain⟨HS,Ht,BD,kX,Ar,AV⟩:=Bq
 obtain⟨qi,pA,jc,cV,jb,i9⟩:=ja
 refine⟨sX F zZ rfl λcdv A outer s H E hr=> ?_,hm,F.kp,F.binds λ_ _ _ _ _ _ us hl=>match us,hl with | [_,_],_=>rfl⟩
 have hu:=hr.units
 have hdp:=cj hr (by decide)
 exact⟨_,(aG (cT (oF j3 (hr.mono (by decide)) rfl cE j5 j4 .nil DC.s (ag (pv 0) (ag (pv 1) ar))))
 (aL (bN (bo (o7 rfl) rfl n_all Boot.«all» (ag (dW (own:=["change"]) (cap:=["weights"]) (caps:=[1]) rfl ⟨rfl,by decide +kernel,by decide +kernel,by decide +kernel,⟨rfl,Or.inl rfl,rfl,trivial⟩,by decide +kernel⟩ (fu (aS BD (hr.mono (by decide)) rfl kX Ar AV .nil bf (ag (pv 0) ar))) (λ_ _ _=>(bB (i:=0) (show ((["change"]:List Str)++(["weights"]:List Str)).Nodup from by decide +kernel) rfl (Or.inl rfl))) (λ_ _ _=>dm) (λ_ _ _=>(jO (i7 hu) (aS jc (hr.mono (by decide)) rfl cV jb i9 .nil bf (ag (pv 1) (ag (pv 0) ar))) ax (bO _)))) ar))))),
  (aN (cU (nO (n:=2) (f:=cF) zD (ai (ah 0) (ai (ah 1) ay))))
 (bP (bg xt (ai (dk (m:=1) (caps:=[1]) (fv (aQ (n:=1) (f:=iI) (ai (ah 0) ay))) (bb 0) du (av fU (aQ (n:=2) (f:=cf) (ai (ah 1) (ai (ah 0) ay))) (aw 0))) ay))))⟩
theorem Aj:bc ["text"] ["text"] (aE jM):=⟨rfl,rfl,rfl,by decide +kernel,rfl,by decide +kernel,by decide +kernel⟩
theorem zC{a:Addr}{fd:FuncData}(F:Fun K "is_name" "is_name" jM a fd)(hm:mg "is_name" =some (.ref a))(hpt:P.given.tree=none)(n_len:mg "len" =none)(n_all:mg "all" =none)(c_MOST_LETTERS:∃t,mg "MOST_LETTERS" =some (.int 8 t)):cz P w K mg base ca 35 "is_name" ["text"] jN a fd:=by
 refine⟨cb F Aj rfl λcdv A outer s H E hr=> ?_,hm,F.kp,F.binds λ_ _ _ _ _ _ us hl=>match us,hl with | [_],_=>rfl⟩
 have hu:=hr.units
 have hdp:=cj hr (by decide)
 exact⟨_,(aG (cK (PW.pt (pw_or (bS zE (bo dQ rfl n_len Boot.«len» (ag (pv 0) ar)) ax (bO _)) (pw_or1 (bS j8 (bo dQ rfl n_len Boot.«len» (ag (pv 0) ar)) (dS (v:=.int 8) rfl c_MOST_LETTERS.choose_spec ⟨_,rfl⟩) (bO _)))))
 (aL (bN vq))
 bR)
 (aL (bN (bo (o7 rfl) rfl n_all Boot.«all» (ag (dW (own:=["sign"]) (cap:=[]) (caps:=[]) rfl ⟨rfl,by decide +kernel,by decide +kernel,by decide +kernel,trivial,by decide +kernel⟩ (FR (pv 0)) (λ_ _ _=>(bB (i:=0) (show ((["sign"]:List Str)++([]:List Str)).Nodup from by decide +kernel) rfl (Or.inl rfl))) (λ_ _ _=>dm) (λ_ _ _=>(CV Bj Bj jo (pv 0) jo))) ar))))),
  (aN (cL (vv (b9 (av zL (bg gi (ai (ah 0) ay)) (aw 1))) (b9 (av jQ (bg gi (ai (ah 0) ay)) (aw 8))))
 (bP (vn false))
 bT)
 (bP (bg xt (ai (dk (m:=1) (caps:=[]) (EV (ah 0)) (bb 0) du (Cp Bi Bi (jk ("a" :Str)) (ah 0) (jk ("z" :Str)))) ay))))⟩
theorem vd:bc ["goods","works"] ["goods","works"] (aE fX):=⟨rfl,rfl,rfl,by decide +kernel,rfl,by decide +kernel,by decide +kernel⟩
theorem vc{a:Addr}{fd:FuncData}(F:Fun K "check_many" "check_many" fX a fd)(hm:mg "check_many" =some (.ref a))(hpt:P.given.tree=none)(n_len:mg "len" =none)(c_MOST_GOODS:∃t,mg "MOST_GOODS" =some (.int 10 t))(c_MOST_WORKS:∃t,mg "MOST_WORKS" =some (.int 10 t)):cz P w K mg base ca 35 "check_many" ["goods","works"] gu a fd:=by
 refine⟨cb F vd rfl λcdv A outer s H E hr=> ?_,hm,F.kp,F.binds λ_ _ _ _ _ _ us hl=>match us,hl with | [_,_],_=>rfl⟩
 have hu:=hr.units
 have hdp:=cj hr (by decide)
 exact⟨_,(aG (cK (bS j8 (bo dQ rfl n_len Boot.«len» (ag (pv 0) ar)) (dS (v:=.int 10) rfl c_MOST_GOODS.choose_spec ⟨_,rfl⟩) (bO _))
 (aL jt)
 bR)
 (aL (cK (bS j8 (bo dQ rfl n_len Boot.«len» (ag (pv 1) ar)) (dS (v:=.int 10) rfl c_MOST_WORKS.choose_spec ⟨_,rfl⟩) (bO _))
 (aL jt)
 bR))),
  (aN (cL (b9 (av jQ (bg gi (ai (ah 0) ay)) (aw 10)))
 jw
 bT)
 (cL (b9 (av jQ (bg gi (ai (ah 1) ay)) (aw 10)))
 jw
 bT))⟩
theorem uR:bc ["text","earlier"] ["text","earlier"] (aE gs):=⟨rfl,rfl,rfl,by decide +kernel,rfl,by decide +kernel,by decide +kernel⟩
theorem u5{a:Addr}{fd:FuncData}(F:Fun K "check_name" "check_name" gs a fd)(hm:mg "check_name" =some (.ref a))(hpt:P.given.tree=none)(BF:bY P w K mg base ca 35 "is_name" ["text"] jN):cz P w K mg base ca 36 "check_name" ["text","earlier"] dB a fd:=by
 obtain⟨HK,Hm,Bl,kY,A2,AS⟩:=BF
 refine⟨cb F uR rfl λcdv A outer s H E hr=> ?_,hm,F.kp,F.binds λ_ _ _ _ _ _ us hl=>match us,hl with | [_,_],_=>rfl⟩
 have hu:=hr.units
 have hdp:=cj hr (by decide)
 exact⟨_,(aG (cK (o4 (kL (aS Bl (hr.mono (by decide)) rfl kY A2 AS .nil bf (ag (pv 0) ar))))
 (aL jt)
 bR)
 (aL (cK (bS uh (pv 0) (pv 1) (by with_unfolding_all rfl))
 (aL jt)
 bR))),
  (aN (cL (pb (mR (aQ (n:=1) (f:=jN) (ai (ah 0) ay))))
 jw
 bT)
 (cL (b9 (av De (ah 0) (ah 1)))
 jw
 bT))⟩
theorem kb:bc ["goods","at","good"] ["goods"] (aE fe):=⟨rfl,rfl,rfl,by decide +kernel,rfl,by decide +kernel,by decide +kernel⟩
theorem sZ{a:Addr}{fd:FuncData}(F:Fun K "check_goods" "check_goods" fe a fd)(hm:mg "check_goods" =some (.ref a))(hpt:P.given.tree=none)(n_enumerate:mg "enumerate" =none)(mq:bY P w K mg base ca 36 "check_name" ["text","earlier"] dB):cz P w K mg base ca 37 "check_goods" ["goods"] eZ a fd:=by
 obtain⟨xh,uT,mn,eS,lX,md⟩:=mq
 refine⟨cb F kb rfl λcdv A outer s H E hr=> ?_,hm,F.kp,F.binds λ_ _ _ _ _ _ us hl=>match us,hl with | [_],_=>rfl⟩
 have hu:=hr.units
 have hdp:=cj hr (by decide)
 exact⟨_,(aL (jm PassesOwn.never rfl (sA rfl n_enumerate (ag (pv 0) ar)) (kR rfl (cR (bB (i:=1) kb.nd rfl (Or.inl rfl)) (cR (bB (i:=2) kb.nd rfl (Or.inl rfl)) jH)))
 (aL (cT (aS mn (hr.mono (by decide)) rfl eS lX md .nil bf (ag (pv 2) (ag (mF tR (pv 0) lR (kn (pv 1))) ar))))))),
  (jg (mI (ai (ah 0) ay)) (jE (cO (bb 1) (cO (bb 2) jA)))
 (cU (aQ (n:=2) (f:=dB) (ai (ah 2) (ai (Ab (ah 0) jB (kB (ah 1))) ay)))))⟩
theorem uS:bc ["good","goods","earlier"] ["good","goods","earlier"] (aE gx):=⟨rfl,rfl,rfl,by decide +kernel,rfl,by decide +kernel,by decide +kernel⟩
theorem va{a:Addr}{fd:FuncData}(F:Fun K "check_good" "check_good" gx a fd)(hm:mg "check_good" =some (.ref a))(hpt:P.given.tree=none):cz P w K mg base ca 35 "check_good" ["good","goods","earlier"] gw a fd:=by
 refine⟨cb F uS rfl λcdv A outer s H E hr=> ?_,hm,F.kp,F.binds λ_ _ _ _ _ _ us hl=>match us,hl with | [_,_,_],_=>rfl⟩
 have hu:=hr.units
 have hdp:=cj hr (by decide)
 exact⟨_,(aG (cK (bS xf (pv 0) (pv 1) (by with_unfolding_all rfl))
 (aL jt)
 bR)
 (aL (cK (bS uh (pv 0) (pv 2) (by with_unfolding_all rfl))
 (aL jt)
 bR))),
  (aN (cL (b9 (av Ck (ah 0) (ah 1)))
 jw
 bT)
 (cL (b9 (av De (ah 0) (ah 2)))
 jw
 bT))⟩
theorem si:bc ["amount"] ["amount"] (aE eL):=⟨rfl,rfl,rfl,by decide +kernel,rfl,by decide +kernel,by decide +kernel⟩
theorem rJ{a:Addr}{fd:FuncData}(F:Fun K "check_amount" "check_amount" eL a fd)(hm:mg "check_amount" =some (.ref a))(hpt:P.given.tree=none)(zb:bY P w K mg base ca 35 "is_whole" ["value"] iX):cz P w K mg base ca 36 "check_amount" ["amount"] eM a fd:=by
 obtain⟨HA,G5,z9,lC,z6,yZ⟩:=zb
 refine⟨cb F si rfl λcdv A outer s H E hr=> ?_,hm,F.kp,F.binds λ_ _ _ _ _ _ us hl=>match us,hl with | [_],_=>rfl⟩
 have hu:=hr.units
 have hdp:=cj hr (by decide)
 exact⟨_,(aL (cK (PW.pt (pw_or (o4 (kL (aS z9 (hr.mono (by decide)) rfl lC z6 yZ .nil bf (ag (pv 0) ar)))) (pw_or1 (bS zE (pv 0) ax (bO _)))))
 (aL jt)
 bR)),
  (cL (vv (pb (mR (aQ (n:=1) (f:=iX) (ai (ah 0) ay)))) (b9 (av zL (ah 0) (aw 1))))
 jw
 bT)⟩
theorem iU:bc ["parts","goods","earlier","good","amount"] ["parts","goods"] (aE fB):=⟨rfl,rfl,rfl,by decide +kernel,rfl,by decide +kernel,by decide +kernel⟩
theorem sL{a:Addr}{fd:FuncData}(F:Fun K "check_parts" "check_parts" fB a fd)(hm:mg "check_parts" =some (.ref a))(hpt:P.given.tree=none)(xo:bY P w K mg base ca 35 "check_good" ["good","goods","earlier"] gw)(tq:bY P w K mg base ca 36 "check_amount" ["amount"] eM):cz P w K mg base ca 37 "check_parts" ["parts","goods"] df a fd:=by
 obtain⟨Gb,Fj,w8,iJ,wC,wc⟩:=xo
 obtain⟨ES,DJ,sV,gb,tO,tD⟩:=tq
 refine⟨cb F iU rfl λcdv A outer s H E hr=> ?_,hm,F.kp,F.binds λ_ _ _ _ _ _ us hl=>match us,hl with | [_,_],_=>rfl⟩
 have hu:=hr.units
 have hdp:=cj hr (by decide)
 exact⟨_,(aG (bx (i:=2) iU.nd rfl (Or.inl rfl) (eT ar))
 (aL (jm PassesOwn.never rfl (fu (pv 0)) (kR rfl (cR (bB (i:=3) iU.nd rfl (Or.inl rfl)) (cR (bB (i:=4) iU.nd rfl (Or.inl rfl)) jH)))
 (aG (cT (aS w8 (hr.mono (by decide)) rfl iJ wC wc .nil bf (ag (pv 3) (ag (pv 1) (ag (pv 2) ar)))))
 (aG (cT (aS sV (hr.mono (by decide)) rfl gb tO tD .nil bf (ag (pv 4) ar)))
 (aL (cT (lN PySem.F.plainAttrs_list PySem.F.slot_list_append PySem.F.type_list_append fF (pv 2) (ag (pv 3) ar))))))))),
  (aN (bh (jP ay))
 (jg (fv (ah 0)) (jE (cO (bb 3) (cO (bb 4) jA)))
 (aN (cU (qQ (n:=3) (f:=gw) (ai (ah 3) (ai (ah 1) (ai (ah 2) ay)))))
 (aN (cU (aQ (n:=1) (f:=eM) (ai (ah 4) ay)))
 (cU (kN (ah 2) (ah 3)))))))⟩
theorem gr:bc ["works","goods","earlier","name","uses","makes"] ["works","goods"] (aE fC):=⟨rfl,rfl,rfl,by decide +kernel,rfl,by decide +kernel,by decide +kernel⟩
theorem sG{a:Addr}{fd:FuncData}(F:Fun K "check_works" "check_works" fC a fd)(hm:mg "check_works" =some (.ref a))(hpt:P.given.tree=none)(mq:bY P w K mg base ca 36 "check_name" ["text","earlier"] dB)(uB:bY P w K mg base ca 37 "check_parts" ["parts","goods"] df):cz P w K mg base ca 38 "check_works" ["works","goods"] fg a fd:=by
 obtain⟨xh,uT,mn,eS,lX,md⟩:=mq
 obtain⟨Fm,EH,oW,fc,oU,oR⟩:=uB
 refine⟨cb F gr rfl λcdv A outer s H E hr=> ?_,hm,F.kp,F.binds λ_ _ _ _ _ _ us hl=>match us,hl with | [_,_],_=>rfl⟩
 have hu:=hr.units
 have hdp:=cj hr (by decide)
 exact⟨_,(aG (bx (i:=2) gr.nd rfl (Or.inl rfl) (eT ar))
 (aL (jm PassesOwn.never rfl (fu (pv 0)) (kR rfl (cR (bB (i:=3) gr.nd rfl (Or.inl rfl)) (cR (bB (i:=4) gr.nd rfl (Or.inl rfl)) (cR (bB (i:=5) gr.nd rfl (Or.inl rfl)) jH))))
 (aG (cT (aS mn (hr.mono (by decide)) rfl eS lX md .nil bf (ag (pv 3) (ag (pv 2) ar))))
 (aG (cT (aS oW (hr.mono (by decide)) rfl fc oU oR .nil bf (ag (pv 4) (ag (pv 1) ar))))
 (aG (cT (aS oW (hr.mono (by decide)) rfl fc oU oR .nil bf (ag (pv 5) (ag (pv 1) ar))))
 (aL (cT (lN PySem.F.plainAttrs_list PySem.F.slot_list_append PySem.F.type_list_append fF (pv 2) (ag (pv 3) ar)))))))))),
  (aN (bh (jP ay))
 (jg (fv (ah 0)) (jE (cO (bb 3) (cO (bb 4) (cO (bb 5) jA))))
 (aN (cU (qQ (n:=2) (f:=dB) (ai (ah 3) (ai (ah 2) ay))))
 (aN (cU (aQ (n:=2) (f:=df) (ai (ah 4) (ai (ah 1) ay))))
 (aN (cU (aQ (n:=2) (f:=df) (ai (ah 5) (ai (ah 1) ay))))
 (cU (kN (ah 2) (ah 3))))))))⟩
theorem wB:bc ["work"] ["work"] (aE gU):=⟨rfl,rfl,rfl,by decide +kernel,rfl,by decide +kernel,by decide +kernel⟩
theorem vC{a:Addr}{fd:FuncData}(F:Fun K "copy_work" "copy_work" gU a fd)(hm:mg "copy_work" =some (.ref a))(hpt:P.given.tree=none)(n_list:mg "list" =none):cz P w K mg base ca 35 "copy_work" ["work"] hJ a fd:=by
 refine⟨cb F wB rfl λcdv A outer s H E hr=> ?_,hm,F.kp,F.binds λ_ _ _ _ _ _ us hl=>match us,hl with | [_],_=>rfl⟩
 have hu:=hr.units
 have hdp:=cj hr (by decide)
 exact⟨_,(aL (bN (pN (ag (dy cD (pv 0) ax (λ_ _=>rfl)) (ag (dN en rfl n_list Boot.«list» (ag (dy cD (pv 0) ax (λ_ _=>rfl)) ar)) (ag (dN en rfl n_list Boot.«list» (ag (dy cD (pv 0) ax (λ_ _=>rfl)) ar)) ar)))))),
  (bP (rW (ai (av dw (ah 0) (aw 0)) (ai (bg jr (ai (av dw (ah 0) (aw 1)) ay)) (ai (bg jr (ai (av dw (ah 0) (aw 2)) ay)) ay)))))⟩
theorem vZ:bc ["good","parts"] ["good","parts"] (aE gS):=⟨rfl,rfl,rfl,by decide +kernel,rfl,by decide +kernel,by decide +kernel⟩
theorem vV{a:Addr}{fd:FuncData}(F:Fun K "amount_of" "amount_of" gS a fd)(hm:mg "amount_of" =some (.ref a))(hpt:P.given.tree=none)(n_sum:mg "sum" =none):cz P w K mg base ca 35 "amount_of" ["good","parts"] da a fd:=by
 refine⟨cb F vZ rfl λcdv A outer s H E hr=> ?_,hm,F.kp,F.binds λ_ _ _ _ _ _ us hl=>match us,hl with | [_,_],_=>rfl⟩
 have hu:=hr.units
 have hdp:=cj hr (by decide)
 exact⟨_,(aL (bN (bo (kO rfl) rfl n_sum Boot.«sum» (ag (dW (own:=["part"]) (cap:=["good"]) (caps:=[0]) rfl ⟨rfl,by decide +kernel,by decide +kernel,by decide +kernel,⟨rfl,Or.inl rfl,rfl,trivial⟩,by decide +kernel⟩ (fu (pv 1)) (λ_ _ _=>(bB (i:=0) (show ((["part"]:List Str)++(["good"]:List Str)).Nodup from by decide +kernel) rfl (Or.inl rfl))) (λ_ _ _=>(D4 (bS (i7 hu) (dy cD (pv 0) ax (λ_ _=>rfl)) (pv 1) (bO _)))) (λ_ _ _=>(dy cD (pv 0) ax (λ_ _=>rfl)))) ar)))),
  (bP (bg o5 (ai (dk (m:=1) (caps:=[0]) (fv (ah 1)) (bb 0) (b9 (av fU (av dw (ah 0) (aw 0)) (ah 1))) (av dw (ah 0) (aw 1))) ay)))⟩
theorem v5:bc ["work","goods"] ["work","goods"] (aE hX):=⟨rfl,rfl,rfl,by decide +kernel,rfl,by decide +kernel,by decide +kernel⟩
theorem wZ{a:Addr}{fd:FuncData}(F:Fun K "change_of" "change_of" hX a fd)(hm:mg "change_of" =some (.ref a))(hpt:P.given.tree=none)(yd:bY P w K mg base ca 35 "amount_of" ["good","parts"] da):cz P w K mg base ca 36 "change_of" ["work","goods"] g0 a fd:=by
 obtain⟨Hc,FT,qt,g5,qz,qG⟩:=yd
 refine⟨cb F v5 rfl λcdv A outer s H E hr=> ?_,hm,F.kp,F.binds λ_ _ _ _ _ _ us hl=>match us,hl with | [_,_],_=>rfl⟩
 have hu:=hr.units
 have hdp:=cj hr (by decide)
 exact⟨_,(aL (bN (dW (own:=["good"]) (cap:=["work"]) (caps:=[0]) rfl ⟨rfl,by decide +kernel,by decide +kernel,by decide +kernel,⟨rfl,Or.inl rfl,rfl,trivial⟩,by decide +kernel⟩ (fu (pv 1)) (λ_ _ _=>(bB (i:=0) (show ((["good"]:List Str)++(["work"]:List Str)).Nodup from by decide +kernel) rfl (Or.inl rfl))) (λ_ _ _=>dm) (λ_ _ _=>(aP jR (aS qt (hr.mono (by decide)) rfl g5 qz qG .nil bf (ag (pv 0) (ag (dy cD (pv 1) ax (λ_ _=>rfl)) ar))) (aS qt (hr.mono (by decide)) rfl g5 qz qG .nil bf (ag (pv 0) (ag (dy cD (pv 1) ax (λ_ _=>rfl)) ar)))))))),
  (bP (dk (m:=1) (caps:=[0]) (fv (ah 1)) (bb 0) du (av jY (aQ (n:=2) (f:=da) (ai (ah 0) (ai (av dw (ah 1) (aw 2)) ay))) (aQ (n:=2) (f:=da) (ai (ah 0) (ai (av dw (ah 1) (aw 1)) ay))))))⟩
theorem vE:bc ["self","goods","works"] ["self","goods","works"] (aE gY):=⟨rfl,rfl,rfl,by decide +kernel,rfl,by decide +kernel,by decide +kernel⟩
theorem xi{a:Addr}{fd:FuncData}(F:Fun K "__init__" "Yard.__init__" gY a fd)(hk:Mk K (ca 0) a)(hm:mg "Yard" =some (.ref (ca 0)))(hpt:P.given.tree=none)(n_list:mg "list" =none)(cl_Yard:Cls K (ca 0))(na_Yard_held_goods:d6 K (ca 0) "held_goods")(na_Yard_held_works:d6 K (ca 0) "held_works")(na_Yard_held_changes:d6 K (ca 0) "held_changes")(wH:bY P w K mg base ca 35 "check_many" ["goods","works"] gu)(uV:bY P w K mg base ca 37 "check_goods" ["goods"] eZ)(uM:bY P w K mg base ca 38 "check_works" ["works","goods"] fg)(xM:bY P w K mg base ca 35 "copy_work" ["work"] hJ)(xS:bY P w K mg base ca 36 "change_of" ["work","goods"] g0):AQ P w K mg base ca 39 (ca 0) "Yard" ["self","goods","works"] gZ:=by
 obtain⟨FP,Fh,vG,iH,vL,w6⟩:=wH
 obtain⟨Fi,EB,u0,gH,u3,u1⟩:=uV
 obtain⟨Fd,DN,u6,gP,uY,uI⟩:=uM
 obtain⟨G4,G1,ye,jn,xU,xx⟩:=xM
 obtain⟨G9,GZ,xB,jl,xA,xE⟩:=xS
 refine⟨a,fd,cb F vE rfl λcdv A outer s H E hr=> ?_,hk,hm,F.binds λ_ _ _ _ _ _ us hl=>match us,hl with | [_,_,_],_=>rfl⟩
 have hu:=hr.units
 have hdp:=cj hr (by decide)
 exact⟨_,(aG (cT (aS vG (hr.mono (by decide)) rfl iH vL w6 .nil bf (ag (pv 1) (ag (pv 2) ar))))
 (aG (cT (aS u0 (hr.mono (by decide)) rfl gH u3 u1 .nil bf (ag (pv 1) ar)))
 (aG (cT (aS u6 (hr.mono (by decide)) rfl gP uY uI .nil bf (ag (pv 2) (ag (pv 1) ar))))
 (aG (v8 (pv 0) (dN en rfl n_list Boot.«list» (ag (pv 1) ar)) rfl)
 (aG (v8 (pv 0) (dW (own:=["work"]) (cap:=[]) (caps:=[]) rfl ⟨rfl,by decide +kernel,by decide +kernel,by decide +kernel,trivial,by decide +kernel⟩ (fu (pv 2)) (λ_ _ _=>(bB (i:=0) (show ((["work"]:List Str)++([]:List Str)).Nodup from by decide +kernel) rfl (Or.inl rfl))) (λ_ _ _=>dm) (λ_ _ _=>(aS ye (hr.mono (by decide)) rfl jn xU xx .nil bf (ag (pv 0) ar)))) rfl)
 (aL (v8 (pv 0) (dW (own:=["work"]) (cap:=["goods"]) (caps:=[1]) rfl ⟨rfl,by decide +kernel,by decide +kernel,by decide +kernel,⟨rfl,Or.inl rfl,rfl,trivial⟩,by decide +kernel⟩ (fu (pv 2)) (λ_ _ _=>(bB (i:=0) (show ((["work"]:List Str)++(["goods"]:List Str)).Nodup from by decide +kernel) rfl (Or.inl rfl))) (λ_ _ _=>dm) (λ_ _ _=>(aS xB (hr.mono (by decide)) rfl jl xA xE .nil bf (ag (pv 0) (ag (pv 1) ar))))) rfl))))))),
  (aN (cU (aQ (n:=2) (f:=gu) (ai (ah 1) (ai (ah 2) ay))))
 (aN (cU (aQ (n:=1) (f:=eZ) (ai (ah 1) ay)))
 (aN (cU (aQ (n:=2) (f:=fg) (ai (ah 2) (ai (ah 1) ay))))
 (aN (tL (c:=0) (f:="held_goods") cl_Yard na_Yard_held_goods (ah 0) (bg jr (ai (ah 1) ay)))
 (aN (tL (c:=0) (f:="held_works") cl_Yard na_Yard_held_works (ah 0) (dk (m:=1) (caps:=[]) (fv (ah 2)) (bb 0) du (aQ (n:=1) (f:=hJ) (ai (ah 0) ay))))
 (tL (c:=0) (f:="held_changes") cl_Yard na_Yard_held_changes (ah 0) (dk (m:=1) (caps:=[1]) (fv (ah 2)) (bb 0) du (aQ (n:=2) (f:=g0) (ai (ah 0) (ai (ah 1) ay))))))))))⟩
theorem yc:bc ["_law_script","_law_k"] ["_law_script","_law_k"] (aE iZ):=⟨rfl,rfl,rfl,by decide +kernel,rfl,by decide +kernel,by decide +kernel⟩
theorem xV{a:Addr}{fd:FuncData}(F:Fun K "_law_cell" "_law_cell" iZ a fd)(hm:mg "_law_cell" =some (.ref a))(hpt:P.given.tree=none)(n_len:mg "len" =none):cz P w K mg base ca 35 "_law_cell" ["_law_script","_law_k"] bL a fd:=by
 refine⟨cb F yc rfl λcdv A outer s H E hr=> ?_,hm,F.kp,F.binds λ_ _ _ _ _ _ us hl=>match us,hl with | [_,_],_=>rfl⟩
 have hu:=hr.units
 have hdp:=cj hr (by decide)
 exact⟨_,(aG (cK (bS zE (pv 1) (bo dQ rfl n_len Boot.«len» (ag (pv 0) ar)) (bO _))
 (aL (bN (dy cD (pv 0) (pv 1) (λ_ _=>rfl))))
 bR)
 (aL (bN ax))),
  (aN (cL (b9 (av zL (ah 1) (bg gi (ai (ah 0) ay))))
 (bP (av dw (ah 0) (ah 1)))
 bT)
 (bP (aw 0)))⟩
theorem qs:bc ["_law_cell_here","_law_turn","_law_many","_law_blent"] ["_law_cell_here","_law_turn","_law_many"] (aE iN):=⟨rfl,rfl,rfl,by decide +kernel,rfl,by decide +kernel,by decide +kernel⟩
theorem xH{a:Addr}{fd:FuncData}(F:Fun K "_law_pick" "_law_pick" iN a fd)(hm:mg "_law_pick" =some (.ref a))(hpt:P.given.tree=none):cz P w K mg base ca 35 "_law_pick" ["_law_cell_here","_law_turn","_law_many"] aC a fd:=by
 refine⟨cb F qs rfl λcdv A outer s H E hr=> ?_,hm,F.kp,F.binds λ_ _ _ _ _ _ us hl=>match us,hl with | [_,_,_],_=>rfl⟩
 have hu:=hr.units
 have hdp:=cj hr (by decide)
 exact⟨_,(aG (bx (i:=3) qs.nd rfl (Or.inl rfl) (aP dX (aP eX (aP cv (aP dX (pv 0) ax) ax) (aP cv ax (aP eX ax (pv 1)))) ax))
 (aL (bN (aP dX (aP (mC hdp hpt ⟨_,_,rfl,rfl,rfl,rfl,rfl⟩) (aP dX (aP eX (pv 3) ax) ax) ax) (pv 2))))),
  (aN (bh (av eU (av dP (av bX (av eU (ah 0) (aw 2147483647)) (aw 7)) (av bX (aw 48271) (av dP (aw 7919) (ah 1)))) (aw 2147483647)))
 (bP (av eU (av kc (av eU (av dP (ah 3) (aw 16807)) (aw 2147483647)) (aw 8)) (ah 2))))⟩
theorem eO:bc ["_law_cell_here","_law_many","_law_letters","_law_word","_law_k","_law_spot","_law_first"] ["_law_cell_here","_law_many"] (aE gW):=⟨rfl,rfl,rfl,by decide +kernel,rfl,by decide +kernel,by decide +kernel⟩
theorem wF{a:Addr}{fd:FuncData}(F:Fun K "_law_names" "_law_names" gW a fd)(hm:mg "_law_names" =some (.ref a))(hpt:P.given.tree=none)(n_range:mg "range" =none)(n_len:mg "len" =none)(dH:bY P w K mg base ca 35 "_law_pick" ["_law_cell_here","_law_turn","_law_many"] aC):cz P w K mg base ca 36 "_law_names" ["_law_cell_here","_law_many"] cX a fd:=by
 obtain⟨ka,jf,br,aZ,bt,bq⟩:=dH
 refine⟨cb F eO rfl λcdv A outer s H E hr=> ?_,hm,F.kp,F.binds λ_ _ _ _ _ _ us hl=>match us,hl with | [_,_],_=>rfl⟩
 have hu:=hr.units
 have hdp:=cj hr (by decide)
 exact⟨_,(aG (bx (i:=2) eO.nd rfl (Or.inr rfl) jo)
 (aG (bx (i:=3) eO.nd rfl (Or.inr rfl) jo)
 (aG (jm PassesOwn.never rfl (fJ rfl n_range (ag (aS br (hr.mono (by decide)) rfl aZ bt bq .nil bf (ag (pv 0) (ag ax (ag ax ar)))) ar)) (bB (i:=4) eO.nd rfl (Or.inl rfl))
 (aL (bx (i:=3) eO.nd rfl (Or.inr rfl) (aP cv (pv 3) (dy cD (pv 2) (aS br (hr.mono (by decide)) rfl aZ bt bq .nil bf (ag (pv 0) (ag (aP cv ax (pv 4)) (ag ax ar)))) (λ_ _=>rfl))))))
 (aG (bx (i:=5) eO.nd rfl (Or.inr rfl) (aS br (hr.mono (by decide)) rfl aZ bt bq .nil bf (ag (pv 0) (ag ax (ag (aP cv (bo dQ rfl n_len Boot.«len» (ag (pv 3) ar)) ax) ar)))))
 (aG (bx (i:=6) eO.nd rfl (Or.inr rfl) (aS br (hr.mono (by decide)) rfl aZ bt bq .nil bf (ag (pv 0) (ag ax (ag ax ar)))))
 (aL (bN (dW (own:=["_law_k"]) (cap:=["_law_first","_law_letters","_law_spot","_law_word"]) (caps:=[6,2,5,3]) rfl ⟨rfl,by decide +kernel,by decide +kernel,by decide +kernel,⟨rfl,Or.inl rfl,rfl,⟨rfl,Or.inl rfl,rfl,⟨rfl,Or.inl rfl,rfl,⟨rfl,Or.inl rfl,rfl,trivial⟩⟩⟩⟩,by decide +kernel⟩ (fJ rfl n_range (ag (pv 1) ar)) (λ_ _ _=>(bB (i:=0) (show ((["_law_k"]:List Str)++(["_law_first","_law_letters","_law_spot","_law_word"]:List Str)).Nodup from by decide +kernel) rfl (Or.inl rfl))) (λ_ _ _=>dm) (λ_ _ _=>(aP cv (aP cv (mF AL (pv 4) lR (kn (pv 3))) (dy cD (pv 2) (aP dX (aP cv (pv 1) (aP eX ax (pv 0))) ax) (λ_ _=>rfl))) (mF AL (pv 4) (kn (pv 3)) lR))))))))))),
  (aN (bh (jk ("abcdefghijklmnopqrstuvwxyz" :Str)))
 (aN (bh (jk ("" :Str)))
 (aN (jg (iR (ai (aQ (n:=3) (f:=aC) (ai (ah 0) (ai (aw 1) (ai (aw 8) ay)))) ay)) (bb 4)
 (bh (av bX (ah 3) (av dw (ah 2) (aQ (n:=3) (f:=aC) (ai (ah 0) (ai (av bX (aw 2) (ah 4)) (ai (aw 26) ay))))))))
 (aN (bh (aQ (n:=3) (f:=aC) (ai (ah 0) (ai (aw 10) (ai (av bX (bg gi (ai (ah 3) ay)) (aw 1)) ay)))))
 (aN (bh (aQ (n:=3) (f:=aC) (ai (ah 0) (ai (aw 11) (ai (aw 26) ay)))))
 (bP (dk (m:=1) (caps:=[6,2,5,3]) (iR (ai (ah 1) ay)) (bb 0) du (av bX (av bX (Bw (ah 4) jB (kB (ah 3))) (av dw (ah 2) (av eU (av bX (ah 1) (av dP (aw 5) (ah 0))) (aw 26)))) (Bw (ah 4) (kB (ah 3)) jB)))))))))⟩
theorem dY:bc ["_law_cell_here","_law_many","_law_wide","_law_made","_law_rest","_law_span","_law_g","_law_number"] ["_law_cell_here","_law_many","_law_wide"] (aE i3):=⟨rfl,rfl,rfl,by decide +kernel,rfl,by decide +kernel,by decide +kernel⟩
theorem xZ{a:Addr}{fd:FuncData}(F:Fun K "_law_move" "_law_move" i3 a fd)(hm:mg "_law_move" =some (.ref a))(hpt:P.given.tree=none)(n_int:mg "int" =none)(n_range:mg "range" =none)(dH:bY P w K mg base ca 35 "_law_pick" ["_law_cell_here","_law_turn","_law_many"] aC):cz P w K mg base ca 36 "_law_move" ["_law_cell_here","_law_many","_law_wide"] iV a fd:=by
 obtain⟨ka,jf,br,aZ,bt,bq⟩:=dH
 refine⟨cb F dY rfl λcdv A outer s H E hr=> ?_,hm,F.kp,F.binds λ_ _ _ _ _ _ us hl=>match us,hl with | [_,_,_],_=>rfl⟩
 have hu:=hr.units
 have hdp:=cj hr (by decide)
 exact⟨_,(aG (bx (i:=3) dY.nd rfl (Or.inl rfl) (eT ar))
 (aG (bx (i:=4) dY.nd rfl (Or.inl rfl) (aP (mC hdp hpt ⟨_,_,rfl,rfl,rfl,rfl,rfl⟩) (pv 0) ax))
 (aG (bx (i:=5) dY.nd rfl (Or.inl rfl) (dy cD (eT (ag ax (ag (aP cv (aP eX ax (aP lT ax ax)) ax) ar))) (dN mM rfl n_int Boot.«int» (ag (pv 2) ar)) (λ_ _=>rfl)))
 (aG (jm PassesOwn.never rfl (fJ rfl n_range (ag (pv 1) ar)) (bB (i:=6) dY.nd rfl (Or.inl rfl))
 (aG (bx (i:=7) dY.nd rfl (Or.inl rfl) (aP jR (aS br (hr.mono (by decide)) rfl aZ bt bq .nil bf (ag (pv 0) (ag (aP cv ax (pv 6)) (ag ax ar)))) ax))
 (aG (cK (kL (pv 2))
 (aL (bx (i:=7) dY.nd rfl (Or.inl rfl) (aP jR (aP cv (aP eX (pv 7) (aP dX (pv 0) (aP lT ax ax))) (aS br (hr.mono (by decide)) rfl aZ bt bq .nil bf (ag (pv 0) (ag (aP cv ax (pv 6)) (ag ax ar))))) ax)))
 bR)
 (aG (cK (PW.pt (pw_and (bS (i7 hu) (aP dX (pv 0) ax) ax (bO _)) (pw_and1 (bS j8 (pv 4) ax (bO _)))))
 (aG (bx (i:=7) dY.nd rfl (Or.inl rfl) (aP jR (aP dX (pv 4) (pv 5)) (aP (mC hdp hpt ⟨_,_,rfl,rfl,rfl,rfl,rfl⟩) (pv 5) ax)))
 (aL (bx (i:=4) dY.nd rfl (Or.inl rfl) (aP (mC hdp hpt ⟨_,_,rfl,rfl,rfl,rfl,rfl⟩) (pv 4) (pv 5)))))
 bR)
 (aL (cT (lN PySem.F.plainAttrs_list PySem.F.slot_list_append PySem.F.type_list_append fF (pv 3) (ag (pv 7) ar))))))))
 (aL (bN (pv 3))))))),
  (aN (bh (jP ay))
 (aN (bh (av kc (ah 0) (aw 2)))
 (aN (bh (av dw (lW (ai (aw 7) (ai (av bX (av dP (aw 2) (av lZ (aw 10) (aw 12))) (aw 1)) ay))) (bg nS (ai (ah 2) ay))))
 (aN (jg (iR (ai (ah 1) ay)) (bb 6)
 (aN (bh (av jY (aQ (n:=3) (f:=aC) (ai (ah 0) (ai (av bX (aw 20) (ah 6)) (ai (aw 7) ay)))) (aw 3)))
 (aN (cL (mR (ah 2))
 (bh (av jY (av bX (av dP (ah 7) (av eU (ah 0) (av lZ (aw 10) (aw 12)))) (aQ (n:=3) (f:=aC) (ai (ah 0) (ai (av bX (aw 30) (ah 6)) (ai (aw 2000) ay))))) (aw 1000)))
 bT)
 (aN (cL (wK (b9 (av fU (av eU (ah 0) (aw 2)) (aw 1))) (b9 (av jQ (ah 4) (aw 0))))
 (aN (bh (av jY (av eU (ah 4) (ah 5)) (av kc (ah 5) (aw 2))))
 (bh (av kc (ah 4) (ah 5))))
 bT)
 (cU (kN (ah 3) (ah 7)))))))
 (bP (ah 3))))))⟩
theorem dv:bc ["_law_cell_here","_law_many","_law_lowest_one","_law_made","_law_rest","_law_g","_law_number"] ["_law_cell_here","_law_many","_law_lowest_one"] (aE fj):=⟨rfl,rfl,rfl,by decide +kernel,rfl,by decide +kernel,by decide +kernel⟩
theorem sI{a:Addr}{fd:FuncData}(F:Fun K "_law_weights" "_law_weights" fj a fd)(hm:mg "_law_weights" =some (.ref a))(hpt:P.given.tree=none)(n_range:mg "range" =none)(n_max:mg "max" =none)(dH:bY P w K mg base ca 35 "_law_pick" ["_law_cell_here","_law_turn","_law_many"] aC):cz P w K mg base ca 36 "_law_weights" ["_law_cell_here","_law_many","_law_lowest_one"] fA a fd:=by
 obtain⟨ka,jf,br,aZ,bt,bq⟩:=dH
 refine⟨cb F dv rfl λcdv A outer s H E hr=> ?_,hm,F.kp,F.binds λ_ _ _ _ _ _ us hl=>match us,hl with | [_,_,_],_=>rfl⟩
 have hu:=hr.units
 have hdp:=cj hr (by decide)
 exact⟨_,(aG (bx (i:=3) dv.nd rfl (Or.inl rfl) (eT ar))
 (aG (bx (i:=4) dv.nd rfl (Or.inl rfl) (aP (mC hdp hpt ⟨_,_,rfl,rfl,rfl,rfl,rfl⟩) (pv 0) ax))
 (aG (jm PassesOwn.never rfl (fJ rfl n_range (ag (pv 1) ar)) (bB (i:=5) dv.nd rfl (Or.inl rfl))
 (aG (bx (i:=6) dv.nd rfl (Or.inl rfl) (aP jR (aS br (hr.mono (by decide)) rfl aZ bt bq .nil bf (ag (pv 0) (ag (aP cv ax (pv 5)) (ag ax ar)))) ax))
 (aG (cK (bS (i7 hu) (aS br (hr.mono (by decide)) rfl aZ bt bq .nil bf (ag (pv 0) (ag ax (ag ax ar)))) ax (bO _))
 (aL (bx (i:=6) dv.nd rfl (Or.inl rfl) (aP eX (pv 6) (aP dX (pv 0) (aP lT ax ax)))))
 bR)
 (aG (cK (PW.pt (pw_and (bS (i7 hu) (aP dX (pv 0) ax) ax (bO _)) (pw_and1 (bS j8 (pv 4) ax (bO _)))))
 (aG (bx (i:=6) dv.nd rfl (Or.inl rfl) (aP jR (aP dX (pv 4) ax) ax))
 (aL (bx (i:=4) dv.nd rfl (Or.inl rfl) (aP (mC hdp hpt ⟨_,_,rfl,rfl,rfl,rfl,rfl⟩) (pv 4) ax))))
 bR)
 (aL (cT (lN PySem.F.plainAttrs_list PySem.F.slot_list_append PySem.F.type_list_append fF (pv 3) (ag (bo (kT rfl) rfl n_max Boot.«max» (ag (pv 6) (ag (pv 2) ar))) ar))))))))
 (aG (cK (bS j8 (pv 1) ax (bO _))
 (aL (Bg ax (AI (pv 3) (aS br (hr.mono (by decide)) rfl aZ bt bq .nil bf (ag (pv 0) (ag ax (ag (pv 1) ar)))) set_list)))
 bR)
 (aL (bN (pv 3))))))),
  (aN (bh (jP ay))
 (aN (bh (av kc (ah 0) (aw 2)))
 (aN (jg (iR (ai (ah 1) ay)) (bb 5)
 (aN (bh (av jY (aQ (n:=3) (f:=aC) (ai (ah 0) (ai (av bX (aw 100) (ah 5)) (ai (aw 7) ay)))) (aw 3)))
 (aN (cL (b9 (av fU (aQ (n:=3) (f:=aC) (ai (ah 0) (ai (aw 110) (ai (aw 6) ay)))) (aw 0)))
 (bh (av dP (ah 6) (av eU (ah 0) (av lZ (aw 10) (aw 9)))))
 bT)
 (aN (cL (wK (b9 (av fU (av eU (ah 0) (aw 2)) (aw 1))) (b9 (av jQ (ah 4) (aw 0))))
 (aN (bh (av jY (av eU (ah 4) (aw 7)) (aw 3)))
 (bh (av kc (ah 4) (aw 7))))
 bT)
 (cU (kN (ah 3) (bg nJ (ai (ah 6) (ai (ah 2) ay)))))))))
 (aN (cL (b9 (av jQ (ah 1) (aw 0)))
 (wo (aw 1) (BA (ah 3) (aQ (n:=3) (f:=aC) (ai (ah 0) (ai (aw 111) (ai (ah 1) ay))))))
 bT)
 (bP (pL (ah 3)))))))⟩
theorem cS:bc ["_law_script","_law_begin","_law_weights_here","_law_head","_law_many","_law_moves","_law_wide","_law_k","_law_move_here","_law_at","_law_weighs"] ["_law_script","_law_begin","_law_weights_here"] (aE fD):=⟨rfl,rfl,rfl,by decide +kernel,rfl,by decide +kernel,by decide +kernel⟩
theorem tJ{a:Addr}{fd:FuncData}(F:Fun K "_law_keeping" "_law_keeping" fD a fd)(hm:mg "_law_keeping" =some (.ref a))(hpt:P.given.tree=none)(n_len:mg "len" =none)(n_int:mg "int" =none)(n_range:mg "range" =none)(n_sum:mg "sum" =none)(oo:bY P w K mg base ca 35 "_law_cell" ["_law_script","_law_k"] bL)(dH:bY P w K mg base ca 35 "_law_pick" ["_law_cell_here","_law_turn","_law_many"] aC)(zy:bY P w K mg base ca 36 "_law_move" ["_law_cell_here","_law_many","_law_wide"] iV):cz P w K mg base ca 37 "_law_keeping" ["_law_script","_law_begin","_law_weights_here"] ey a fd:=by
 obtain⟨z7,xP,j7,eI,jU,jZ⟩:=oo
 obtain⟨ka,jf,br,aZ,bt,bq⟩:=dH
 obtain⟨HG,Hb,zW,jT,zY,zd⟩:=zy
 refine⟨cb F cS rfl λcdv A outer s H E hr=> ?_,hm,F.kp,F.binds λ_ _ _ _ _ _ us hl=>match us,hl with | [_,_,_],_=>rfl⟩
 have hu:=hr.units
 have hdp:=cj hr (by decide)
 exact⟨_,(aG (bx (i:=3) cS.nd rfl (Or.inl rfl) (aS j7 (hr.mono (by decide)) rfl eI jU jZ .nil bf (ag (pv 0) (ag (pv 1) ar))))
 (aG (bx (i:=4) cS.nd rfl (Or.inl rfl) (bo dQ rfl n_len Boot.«len» (ag (pv 2) ar)))
 (aG (bx (i:=5) cS.nd rfl (Or.inl rfl) (eT ar))
 (aG (bx (i:=6) cS.nd rfl (Or.inl rfl) (jO (i7 hu) (aS br (hr.mono (by decide)) rfl aZ bt bq .nil bf (ag (pv 3) (ag ax (ag ax ar)))) ax (bO _)))
 (aG (jm PassesOwn.never rfl (fJ rfl n_range (ag (aP dX (aS br (hr.mono (by decide)) rfl aZ bt bq .nil bf (ag (pv 3) (ag ax (ag ax ar)))) (aP jR ax (aP eX ax (dN mM rfl n_int Boot.«int» (ag (pv 6) ar))))) ar)) (bB (i:=7) cS.nd rfl (Or.inl rfl))
 (aG (bx (i:=8) cS.nd rfl (Or.inr rfl) (aS zW (hr.mono (by decide)) rfl jT zY zd .nil bf (ag (aP cv (aS j7 (hr.mono (by decide)) rfl eI jU jZ .nil bf (ag (pv 0) (ag (aP cv (aP cv (pv 1) ax) (pv 7)) ar))) (aP eX ax (pv 7))) (ag (pv 4) (ag (pv 6) ar)))))
 (aG (cK (bS j8 (pv 4) ax (bO _))
 (aG (bx (i:=9) cS.nd rfl (Or.inl rfl) (lN PySem.F.plainAttrs_list PySem.F.slot_list_index PySem.F.type_list_index AA (pv 2) (ag ax ar)))
 (aG (bx (i:=10) cS.nd rfl (Or.inl rfl) (bo (kO rfl) rfl n_sum Boot.«sum» (ag (dW (own:=["_law_g"]) (cap:=["_law_move_here","_law_weights_here"]) (caps:=[8,2]) rfl ⟨rfl,by decide +kernel,by decide +kernel,by decide +kernel,⟨rfl,Or.inl rfl,rfl,⟨rfl,Or.inl rfl,rfl,trivial⟩⟩,by decide +kernel⟩ (fJ rfl n_range (ag (pv 4) ar)) (λ_ _ _=>(bB (i:=0) (show ((["_law_g"]:List Str)++(["_law_move_here","_law_weights_here"]:List Str)).Nodup from by decide +kernel) rfl (Or.inl rfl))) (λ_ _ _=>dm) (λ_ _ _=>(aP eX (dy cD (pv 2) (pv 0) (λ_ _=>rfl)) (dy cD (pv 1) (pv 0) (λ_ _=>rfl))))) ar)))
 (aL (Bg (aP jR (dy cD (pv 8) (pv 9) (λ_ _=>rfl)) (pv 10)) (AI (pv 8) (pv 9) set_list)))))
 bR)
 (aL (cT (lN PySem.F.plainAttrs_list PySem.F.slot_list_append PySem.F.type_list_append fF (pv 5) (ag (pv 8) ar)))))))
 (aL (bN (pv 5)))))))),
  (aN (bh (aQ (n:=2) (f:=bL) (ai (ah 0) (ai (ah 1) ay))))
 (aN (bh (bg gi (ai (ah 2) ay)))
 (aN (bh (jP ay))
 (aN (bh (av fU (aQ (n:=3) (f:=aC) (ai (ah 3) (ai (aw 41) (ai (aw 6) ay)))) (aw 0)))
 (aN (jg (iR (ai (av eU (aQ (n:=3) (f:=aC) (ai (ah 3) (ai (aw 40) (ai (aw 6) ay)))) (av jY (aw 6) (av dP (aw 2) (bg nS (ai (ah 6) ay))))) ay)) (bb 7)
 (aN (bh (Cr (n:=3) (f:=iV) (ai (av bX (aQ (n:=2) (f:=bL) (ai (ah 0) (ai (av bX (av bX (ah 1) (aw 1)) (ah 7)) ay))) (av dP (aw 13) (ah 7))) (ai (ah 4) (ai (ah 6) ay)))))
 (aN (cL (b9 (av jQ (ah 4) (aw 0)))
 (aN (bh (A8 (ah 2) (aw 1)))
 (aN (bh (bg o5 (ai (dk (m:=1) (caps:=[8,2]) (iR (ai (ah 4) ay)) (bb 0) du (av dP (av dw (ah 2) (ah 0)) (av dw (ah 1) (ah 0)))) ay)))
 (wo (av jY (av dw (ah 8) (ah 9)) (ah 10)) (BA (ah 8) (ah 9)))))
 bT)
 (cU (kN (ah 5) (pL (ah 8)))))))
 (bP (pL (ah 5))))))))⟩
theorem cZ:bc ["_law_moves","_law_stuff","_law_called","_law_cell_here","_law_made","_law_k","_law_move_here","_law_uses","_law_makes","_law_g","_law_number","_law_more"] ["_law_moves","_law_stuff","_law_called","_law_cell_here"] (aE gX):=⟨rfl,rfl,rfl,by decide +kernel,rfl,by decide +kernel,by decide +kernel⟩
theorem xq{a:Addr}{fd:FuncData}(F:Fun K "_law_works" "_law_works" gX a fd)(hm:mg "_law_works" =some (.ref a))(hpt:P.given.tree=none)(n_enumerate:mg "enumerate" =none)(n_max:mg "max" =none)(dH:bY P w K mg base ca 35 "_law_pick" ["_law_cell_here","_law_turn","_law_many"] aC):cz P w K mg base ca 36 "_law_works" ["_law_moves","_law_stuff","_law_called","_law_cell_here"] fT a fd:=by
 obtain⟨ka,jf,br,aZ,bt,bq⟩:=dH
 refine⟨cb F cZ rfl λcdv A outer s H E hr=> ?_,hm,F.kp,F.binds λ_ _ _ _ _ _ us hl=>match us,hl with | [_,_,_,_],_=>rfl⟩
 have hu:=hr.units
 have hdp:=cj hr (by decide)
 exact⟨_,(aG (bx (i:=4) cZ.nd rfl (Or.inl rfl) (eT ar))
 (aG (jm PassesOwn.never rfl (sA rfl n_enumerate (ag (pv 0) ar)) (kR rfl (cR (bB (i:=5) cZ.nd rfl (Or.inl rfl)) (cR (bB (i:=6) cZ.nd rfl (Or.inl rfl)) jH)))
 (aG (bx (i:=7) cZ.nd rfl (Or.inl rfl) (eT ar))
 (aG (bx (i:=8) cZ.nd rfl (Or.inl rfl) (eT ar))
 (aG (jm PassesOwn.never rfl (sA rfl n_enumerate (ag (pv 6) ar)) (kR rfl (cR (bB (i:=9) cZ.nd rfl (Or.inl rfl)) (cR (bB (i:=10) cZ.nd rfl (Or.inl rfl)) jH)))
 (aG (bx (i:=11) cZ.nd rfl (Or.inl rfl) (aP eX (aP (mC hdp hpt ⟨_,_,rfl,rfl,rfl,rfl,rfl⟩) (aS br (hr.mono (by decide)) rfl aZ bt bq .nil bf (ag (aP cv (pv 3) (pv 5)) (ag (aP cv ax (pv 9)) (ag ax ar)))) ax) (aP cv ax (aS br (hr.mono (by decide)) rfl aZ bt bq .nil bf (ag (aP cv (pv 3) (pv 5)) (ag (aP cv ax (pv 9)) (ag ax ar)))))))
 (aG (cK (bS j8 (aP cv (pv 11) (bo (kT rfl) rfl n_max Boot.«max» (ag ax (ag (vm rP (pv 10)) ar)))) ax (bO _))
 (aL (cT (lN PySem.F.plainAttrs_list PySem.F.slot_list_append PySem.F.type_list_append fF (pv 7) (ag (pN (ag (dy cD (pv 1) (pv 9) (λ_ _=>rfl)) (ag (aP cv (pv 11) (bo (kT rfl) rfl n_max Boot.«max» (ag ax (ag (vm rP (pv 10)) ar)))) ar))) ar))))
 bR)
 (aL (cK (bS j8 (aP cv (pv 11) (bo (kT rfl) rfl n_max Boot.«max» (ag ax (ag (pv 10) ar)))) ax (bO _))
 (aL (cT (lN PySem.F.plainAttrs_list PySem.F.slot_list_append PySem.F.type_list_append fF (pv 8) (ag (pN (ag (dy cD (pv 1) (pv 9) (λ_ _=>rfl)) (ag (aP cv (pv 11) (bo (kT rfl) rfl n_max Boot.«max» (ag ax (ag (pv 10) ar)))) ar))) ar))))
 bR)))))
 (aG (cK (bS (i7 hu) (aS br (hr.mono (by decide)) rfl aZ bt bq .nil bf (ag (aP cv (pv 3) (pv 5)) (ag ax (ag ax ar)))) ax (bO _))
 (aL (bx (i:=7) cZ.nd rfl (Or.inl rfl) (D9 (pv 7) lR lR (kn (vm rP ax)))))
 bR)
 (aL (cT (lN PySem.F.plainAttrs_list PySem.F.slot_list_append PySem.F.type_list_append fF (pv 4) (ag (pN (ag (dy cD (pv 2) (pv 5) (λ_ _=>rfl)) (ag (pv 7) (ag (pv 8) ar)))) ar)))))))))
 (aL (bN (pv 4))))),
  (aN (bh (jP ay))
 (aN (jg (mI (ai (ah 0) ay)) (jE (cO (bb 5) (cO (bb 6) jA)))
 (aN (bh (jP ay))
 (aN (bh (jP ay))
 (aN (jg (mI (ai (ah 6) ay)) (jE (cO (bb 9) (cO (bb 10) jA)))
 (aN (bh (av dP (av kc (aQ (n:=3) (f:=aC) (ai (av bX (ah 3) (ah 5)) (ai (av bX (aw 70) (ah 9)) (ai (aw 4) ay)))) (aw 3)) (av bX (aw 1) (aQ (n:=3) (f:=aC) (ai (av bX (ah 3) (ah 5)) (ai (av bX (aw 80) (ah 9)) (ai (aw 9) ay)))))))
 (aN (cL (b9 (av jQ (av bX (ah 11) (bg nJ (ai (aw 0) (ai (vj rE (ah 10)) ay)))) (aw 0)))
 (cU (kN (ah 7) (rW (ai (av dw (ah 1) (ah 9)) (ai (av bX (ah 11) (bg nJ (ai (aw 0) (ai (vj rE (ah 10)) ay)))) ay)))))
 bT)
 (cL (b9 (av jQ (av bX (ah 11) (bg nJ (ai (aw 0) (ai (ah 10) ay)))) (aw 0)))
 (cU (kN (ah 8) (rW (ai (av dw (ah 1) (ah 9)) (ai (av bX (ah 11) (bg nJ (ai (aw 0) (ai (ah 10) ay)))) ay)))))
 bT))))
 (aN (cL (b9 (av fU (aQ (n:=3) (f:=aC) (ai (av bX (ah 3) (ah 5)) (ai (aw 90) (ai (aw 2) ay)))) (aw 1)))
 (bh (E4 (ah 7) jB jB (kB (vj rE (aw 1)))))
 bT)
 (cU (kN (ah 4) (rW (ai (av dw (ah 2) (ah 5)) (ai (Ez (ah 7)) (ai (pL (ah 8)) ay)))))))))))
 (bP (pL (ah 4)))))⟩
theorem sQ:bc ["_law_e"] ["_law_e"] (aE fm):=⟨rfl,rfl,rfl,by decide +kernel,rfl,by decide +kernel,by decide +kernel⟩
theorem tm{a:Addr}{fd:FuncData}(F:Fun K "_law_word_of" "_law_word_of" fm a fd)(hm:mg "_law_word_of" =some (.ref a))(hpt:P.given.tree=none)(n_isinstance:mg "isinstance" =none)(n_ValueError:mg "ValueError" =none)(n_int:mg "int" =none)(xm_TooMany:mg "TooMany" =some (.ref (ca 13)))(xm_NoWork:mg "NoWork" =some (.ref (ca 12)))(xm_NoWay:mg "NoWay" =some (.ref (ca 11)))(xm_NoText:mg "NoText" =some (.ref (ca 9)))(xm_NoRow:mg "NoRow" =some (.ref (ca 8)))(xm_NoRatio:mg "NoRatio" =some (.ref (ca 10)))(xm_NoName:mg "NoName" =some (.ref (ca 7)))(xm_NoGood:mg "NoGood" =some (.ref (ca 6)))(xm_NoFit:mg "NoFit" =some (.ref (ca 5)))(xm_NoBalance:mg "NoBalance" =some (.ref (ca 4)))(xm_NoAmount:mg "NoAmount" =some (.ref (ca 3)))(it_NoAmount_NoBalance_NoFit_NoGood_NoName_NoRatio_NoRow_NoText_NoWay_NoWork_TooMany:∀c b,aR c=some b->ExK K (ca c)/\PySem.W.kitAny K (.ref (ca c)) ([ca 3,ca 4,ca 5,ca 6,ca 7,ca 10,ca 8,ca 9,ca 11,ca 12,ca 13].map Value.ref)=some b)(xm_NoWeights:mg "NoWeights" =some (.ref (ca 1)))(ik_NoWeights:∀c b,j6 c=some b->ExK K (ca c)/\PySem.W.kitOne K (.ref (ca c)) (.ref (ca 1))=some b)(iy_ValueError:∀c b,jq c=some b->ExK K (ca c)/\PySem.W.kitOne K (.ref (ca c)) (.type "ValueError")=some b):rm P w K mg base ca 35 "_law_word_of" ["_law_e"] dJ a fd:=by
 refine⟨DZ F sQ rfl λcdv A outer s H E hr=> ?_,hm,F.kp,F.binds λ_ _ _ _ _ _ us hl=>match us,hl with | [_],_=>rfl⟩
 have hu:=hr.units
 exact⟨_,(aG (cK (kL (bo qP rfl n_isinstance Boot.«isinstance» (ag (pv 0) (ag (pN (ag (dS (v:=.ref (ca 3)) rfl xm_NoAmount rfl) (ag (dS (v:=.ref (ca 4)) rfl xm_NoBalance rfl) (ag (dS (v:=.ref (ca 5)) rfl xm_NoFit rfl) (ag (dS (v:=.ref (ca 6)) rfl xm_NoGood rfl) (ag (dS (v:=.ref (ca 7)) rfl xm_NoName rfl) (ag (dS (v:=.ref (ca 10)) rfl xm_NoRatio rfl) (ag (dS (v:=.ref (ca 8)) rfl xm_NoRow rfl) (ag (dS (v:=.ref (ca 9)) rfl xm_NoText rfl) (ag (dS (v:=.ref (ca 11)) rfl xm_NoWay rfl) (ag (dS (v:=.ref (ca 12)) rfl xm_NoWork rfl) (ag (dS (v:=.ref (ca 13)) rfl xm_TooMany rfl) ar)))))))))))) ar))))
 (aL (bN jo))
 bR)
 (aL (bN (dy cD (eT (ag jo (ag jo ar))) (dN mM rfl n_int Boot.«int» (ag (rV (bo qP rfl n_isinstance Boot.«isinstance» (ag (pv 0) (ag (dS (v:=.ref (ca 1)) rfl xm_NoWeights rfl) ar))) (rB (bo qP rfl n_isinstance Boot.«isinstance» (ag (pv 0) (ag (lQ (v:=.ty "ValueError") rfl n_ValueError (by boot_by_name) rfl) ar))))) ar)) (λ_ _=>rfl))))),
  (aN (cL (mR (DP (Ds:=[ca 3,ca 4,ca 5,ca 6,ca 7,ca 10,ca 8,ca 9,ca 11,ca 12,ca 13]) (by simp) it_NoAmount_NoBalance_NoFit_NoGood_NoName_NoRatio_NoRow_NoText_NoWay_NoWork_TooMany (ah 0)))
 (bP (jk ("another" :Str)))
 bT)
 (bP (av dw (lW (ai (jk ("two" :Str)) (ai (jk ("weights" :Str)) ay))) (bg nS (ai (p6 (FU ik_NoWeights (ah 0)) (C6 iy_ValueError (ah 0))) ay)))))⟩
theorem nF:bc ["_law_yard","_law_weights_here","_law_amounts","_law_e"] ["_law_yard","_law_weights_here","_law_amounts"] (aE fk):=⟨rfl,rfl,rfl,by decide +kernel,rfl,by decide +kernel,by decide +kernel⟩
theorem tP{a:Addr}{fd:FuncData}(F:Fun K "_law_weighed" "_law_weighed" fk a fd)(hm:mg "_law_weighed" =some (.ref a))(hpt:P.given.tree=none)(xm_YardError:mg "YardError" =some (.ref (ca 2)))(ex_YardError:∀c b,gk c=some b->PySem.W.exmOne K (.ref (ca c)) (.ref (ca 2))=some b)(BB:bY P w K mg base ca 37 "weighed" ["yard","weights","amounts"] iu)(lq:vz P w K mg base ca 35 "_law_word_of" ["_law_e"] dJ):cz P w K mg base ca 38 "_law_weighed" ["_law_yard","_law_weights_here","_law_amounts"] dO a fd:=by
 obtain⟨HX,Hy,AH,iK,AF,AU⟩:=BB
 obtain⟨uC,tK,ly,eB,lu,lj⟩:=lq
 refine⟨cb F nF rfl λcdv A outer s H E hr=> ?_,hm,F.kp,F.binds λ_ _ _ _ _ _ us hl=>match us,hl with | [_,_,_],_=>rfl⟩
 have hu:=hr.units
 have hdp:=cj hr (by decide)
 exact⟨_,(aL (Bu rfl rfl rfl (λp E1 Es hps=>(aL (bN (oF AH (hr.mono (by decide)) rfl iK AF AU .nil hps (ag (pv 0) (ag (pv 1) (ag (pv 2) ar)))))))
 (Dm (i:=3) nF.nd rfl rfl rfl xm_YardError (λ_ _ h=>h) (λv=>(aL (bN (vO ly ((hr.h _).mono (by decide)) rfl eB lu lj .nil bf (ag (pv 3) ar)))))
 Bp))),
  (BK (λW Es hW=>(bP (nO (n:=3) (f:=iu) hW (ai (ah 0) (ai (ah 1) (ai (ah 2) ay))))))
 (λc=>Dv ex_YardError (λc=>DE (i:=3) (bP (aQ (n:=1) (f:=dJ) (ai (ah 3) ay))) c)
 yI c))⟩
theorem nI:bc ["_law_yard","_law_weights_here","_law_e"] ["_law_yard","_law_weights_here"] (aE fo):=⟨rfl,rfl,rfl,by decide +kernel,rfl,by decide +kernel,by decide +kernel⟩
theorem sv{a:Addr}{fd:FuncData}(F:Fun K "_law_kept_so" "_law_kept_so" fo a fd)(hm:mg "_law_kept_so" =some (.ref a))(hpt:P.given.tree=none)(xm_YardError:mg "YardError" =some (.ref (ca 2)))(ex_YardError:∀c b,gk c=some b->PySem.W.exmOne K (.ref (ca c)) (.ref (ca 2))=some b)(BM:bY P w K mg base ca 37 "is_kept" ["yard","weights"] ix)(lq:vz P w K mg base ca 35 "_law_word_of" ["_law_e"] dJ):cz P w K mg base ca 38 "_law_kept_so" ["_law_yard","_law_weights_here"] dM a fd:=by
 obtain⟨HN,Hd,Bh,iA,Aq,AZ⟩:=BM
 obtain⟨uC,tK,ly,eB,lu,lj⟩:=lq
 refine⟨cb F nI rfl λcdv A outer s H E hr=> ?_,hm,F.kp,F.binds λ_ _ _ _ _ _ us hl=>match us,hl with | [_,_],_=>rfl⟩
 have hu:=hr.units
 have hdp:=cj hr (by decide)
 exact⟨_,(aL (Bu rfl rfl rfl (λp E1 Es hps=>(aL (bN (oF Bh (hr.mono (by decide)) rfl iA Aq AZ .nil hps (ag (pv 0) (ag (pv 1) ar))))))
 (Dm (i:=2) nI.nd rfl rfl rfl xm_YardError (λ_ _ h=>h) (λv=>(aL (bN (vO ly ((hr.h _).mono (by decide)) rfl eB lu lj .nil bf (ag (pv 2) ar)))))
 Bp))),
  (BK (λW Es hW=>(bP (nO (n:=2) (f:=ix) hW (ai (ah 0) (ai (ah 1) ay)))))
 (λc=>Dv ex_YardError (λc=>DE (i:=2) (bP (aQ (n:=1) (f:=dJ) (ai (ah 2) ay))) c)
 yI c))⟩
theorem iF:bc ["_law_yard","_law_moves","_law_weights_here","_law_amounts","_law_handed","_law_found","_law_told","_law_due"] ["_law_yard","_law_moves","_law_weights_here","_law_amounts"] (aE g7):=⟨rfl,rfl,rfl,by decide +kernel,rfl,by decide +kernel,by decide +kernel⟩
theorem vN{a:Addr}{fd:FuncData}(F:Fun K "_law_right" "_law_right" g7 a fd)(hm:mg "_law_right" =some (.ref a))(hpt:P.given.tree=none)(n_list:mg "list" =none)(n_len:mg "len" =none)(n_isinstance:mg "isinstance" =none)(n_int:mg "int" =none)(n_bool:mg "bool" =none)(n_zip:mg "zip" =none)(n_sum:mg "sum" =none)(n_all:mg "all" =none)(vb:bY P w K mg base ca 38 "_law_weighed" ["_law_yard","_law_weights_here","_law_amounts"] dO)(u4:bY P w K mg base ca 38 "_law_kept_so" ["_law_yard","_law_weights_here"] dM):cz P w K mg base ca 39 "_law_right" ["_law_yard","_law_moves","_law_weights_here","_law_amounts"] eJ a fd:=by
 obtain⟨Fl,DR,uH,eE,u7,uK⟩:=vb
 obtain⟨Fg,E8,ve,eG,uG,u2⟩:=u4
 refine⟨cb F iF rfl λcdv A outer s H E hr=> ?_,hm,F.kp,F.binds λ_ _ _ _ _ _ us hl=>match us,hl with | [_,_,_,_],_=>rfl⟩
 have hu:=hr.units
 have hdp:=cj hr (by decide)
 exact⟨_,(aG (bx (i:=4) iF.nd rfl (Or.inl rfl) (eT (ag (dN en rfl n_list Boot.«list» (ag (pv 2) ar)) (ag (dN en rfl n_list Boot.«list» (ag (pv 3) ar)) ar))))
 (aG (bx (i:=5) iF.nd rfl (Or.inl rfl) (aS uH (hr.mono (by decide)) rfl eE u7 uK .nil bf (ag (pv 0) (ag (dy cD (pv 4) ax (λ_ _=>rfl)) (ag (dy cD (pv 4) ax (λ_ _=>rfl)) ar)))))
 (aG (bx (i:=6) iF.nd rfl (Or.inl rfl) (aS ve (hr.mono (by decide)) rfl eG uG u2 .nil bf (ag (pv 0) (ag (dy cD (pv 4) ax (λ_ _=>rfl)) ar))))
 (aG (cK (bS (CI hu) (pv 4) (eT (ag (pv 2) (ag (pv 3) ar))) (bO _))
 (aL (bN vq))
 bR)
 (aG (cK (bS (CI hu) (bo dQ rfl n_len Boot.«len» (ag (pv 2) ar)) (bo dQ rfl n_len Boot.«len» (ag (pv 3) ar)) (bO _))
 (aL (bN (rV (jO (i7 hu) (pv 5) jo (bO _)) (rB (jO (i7 hu) (pv 6) jo (bO _))))))
 bR)
 (aG (cK (PW.pt (pw_or (o4 (kL (bo mK rfl n_isinstance Boot.«isinstance» (ag (pv 5) (ag (lQ (v:=.ty "int") rfl n_int Boot.«int» rfl) ar))))) (pw_or (kL (bo mK rfl n_isinstance Boot.«isinstance» (ag (pv 5) (ag (lQ (v:=.ty "bool") rfl n_bool Boot.«bool» rfl) ar)))) (pw_or1 (o4 (kL (bo mK rfl n_isinstance Boot.«isinstance» (ag (pv 6) (ag (lQ (v:=.ty "bool") rfl n_bool Boot.«bool» rfl) ar)))))))))
 (aL (bN vq))
 bR)
 (aG (bx (i:=7) iF.nd rfl (Or.inl rfl) (bo (o7 rfl) rfl n_all Boot.«all» (ag (dW (own:=["_law_move_here"]) (cap:=["_law_weights_here"]) (caps:=[2]) rfl ⟨rfl,by decide +kernel,by decide +kernel,by decide +kernel,⟨rfl,Or.inl rfl,rfl,trivial⟩,by decide +kernel⟩ (fu (pv 1)) (λ_ _ _=>(bB (i:=0) (show ((["_law_move_here"]:List Str)++(["_law_weights_here"]:List Str)).Nodup from by decide +kernel) rfl (Or.inl rfl))) (λ_ _ _=>dm) (λ_ _ _=>(by exact(jO (i7 hu) (bo (kO rfl) rfl n_sum Boot.«sum» (ag (dW (own:=["_law_a","_law_b"]) (cap:=[]) (caps:=[]) rfl ⟨rfl,by decide +kernel,by decide +kernel,by decide +kernel,trivial,by decide +kernel⟩ (v9 rfl n_zip (ag (pv 1) (ag (pv 0) ar))) (λ_ _ _=>(kR rfl (cR (bB (i:=0) (show ((["_law_a","_law_b"]:List Str)++([]:List Str)).Nodup from by decide +kernel) rfl (Or.inl rfl)) (cR (bB (i:=1) (show ((["_law_a","_law_b"]:List Str)++([]:List Str)).Nodup from by decide +kernel) rfl (Or.inl rfl)) jH)))) (λ_ _ _=>dm) (λ_ _ _=>(aP eX (pv 0) (pv 1)))) ar)) ax (bO _))))) ar)))
 (aL (bN (rV (jO (i7 hu) (pv 5) (bo (kO rfl) rfl n_sum Boot.«sum» (ag (dW (own:=["_law_a","_law_b"]) (cap:=[]) (caps:=[]) rfl ⟨rfl,by decide +kernel,by decide +kernel,by decide +kernel,trivial,by decide +kernel⟩ (v9 rfl n_zip (ag (pv 2) (ag (pv 3) ar))) (λ_ _ _=>(kR rfl (cR (bB (i:=0) (show ((["_law_a","_law_b"]:List Str)++([]:List Str)).Nodup from by decide +kernel) rfl (Or.inl rfl)) (cR (bB (i:=1) (show ((["_law_a","_law_b"]:List Str)++([]:List Str)).Nodup from by decide +kernel) rfl (Or.inl rfl)) jH)))) (λ_ _ _=>dm) (λ_ _ _=>(aP eX (pv 0) (pv 1)))) ar)) (bO _)) (rB (jO (i7 hu) (pv 6) (pv 7) (bO _))))))))))))),
  (aN (bh (lW (ai (bg jr (ai (ah 2) ay)) (ai (bg jr (ai (ah 3) ay)) ay))))
 (aN (bh (aQ (n:=3) (f:=dO) (ai (ah 0) (ai (av dw (ah 4) (aw 0)) (ai (av dw (ah 4) (aw 1)) ay)))))
 (aN (bh (aQ (n:=2) (f:=dM) (ai (ah 0) (ai (av dw (ah 4) (aw 0)) ay))))
 (aN (cL (b9 (av zH (ah 4) (lW (ai (ah 2) (ai (ah 3) ay)))))
 (bP (vn false))
 bT)
 (aN (cL (b9 (av zH (bg gi (ai (ah 2) ay)) (bg gi (ai (ah 3) ay))))
 (bP (p6 (av fU (ah 5) (jk ("weights" :Str))) (av fU (ah 6) (jk ("weights" :Str)))))
 bT)
 (aN (cL (vv (pb (mR (pz ty_int (ah 5)))) (vv (mR (pz ty_bool (ah 5))) (pb (mR (pz ty_bool (ah 6))))))
 (bP (vn false))
 bT)
 (aN (bh (bg xt (ai (dk (m:=1) (caps:=[2]) (fv (ah 1)) (bb 0) du (av fU (bg o5 (ai (dk (m:=2) (caps:=[]) (wL (ai (ah 1) (ai (ah 0) ay))) (jE (cO (bb 0) (cO (bb 1) jA))) du (av dP (ah 0) (ah 1))) ay)) (aw 0))) ay)))
 (bP (p6 (av fU (ah 5) (bg o5 (ai (dk (m:=2) (caps:=[]) (wL (ai (ah 2) (ai (ah 3) ay))) (jE (cO (bb 0) (cO (bb 1) jA))) du (av dP (ah 0) (ah 1))) ay))) (av fU (ah 6) (ah 7)))))))))))⟩
theorem gn:bc ["_law_script","_law_head","_law_many","_law_weights_here","_law_moves","_law_stuff","_law_yard","_law_cell_here","_law_amounts","_law_other"] ["_law_script"] (aE lI):=⟨rfl,rfl,rfl,by decide +kernel,rfl,by decide +kernel,by decide +kernel⟩
theorem Gk{a:Addr}{fd:FuncData}(F:Fun K "law" "law" lI a fd)(hm:mg "law" =some (.ref a))(hpt:P.given.tree=none)(n_len:mg "len" =none)(n_range:mg "range" =none)(n_list:mg "list" =none)(n_int:mg "int" =none)(oo:bY P w K mg base ca 35 "_law_cell" ["_law_script","_law_k"] bL)(dH:bY P w K mg base ca 35 "_law_pick" ["_law_cell_here","_law_turn","_law_many"] aC)(vi:bY P w K mg base ca 36 "_law_weights" ["_law_cell_here","_law_many","_law_lowest_one"] fA)(uD:bY P w K mg base ca 37 "_law_keeping" ["_law_script","_law_begin","_law_weights_here"] ey)(xF:bY P w K mg base ca 36 "_law_names" ["_law_cell_here","_law_many"] cX)(D_Yard_init:AQ P w K mg base ca 39 (ca 0) "Yard" ["self","goods","works"] gZ)(xD:bY P w K mg base ca 36 "_law_works" ["_law_moves","_law_stuff","_law_called","_law_cell_here"] fT)(xJ:bY P w K mg base ca 39 "_law_right" ["_law_yard","_law_moves","_law_weights_here","_law_amounts"] eJ):cz P w K mg base ca 41 "law" ["_law_script"] vo a fd:=by
 obtain⟨z7,xP,j7,eI,jU,jZ⟩:=oo
 obtain⟨ka,jf,br,aZ,bt,bq⟩:=dH
 obtain⟨Fe,Em,uW,gJ,uU,uO⟩:=vi
 obtain⟨Ff,EO,uF,gI,uN,uP⟩:=uD
 obtain⟨G7,GX,qv,gR,qp,qB⟩:=xF
 obtain⟨a_Yard_init,fd_Yard_init,G_Yard_init,k_Yard_init,jh,b_Yard_init⟩:=D_Yard_init
 obtain⟨Ha,FA,ya,ji,xC,yb⟩:=xD
 obtain⟨G2,Gu,qm,eK,qy,qE⟩:=xJ
 refine⟨cb F gn rfl λcdv A outer s H E hr=> ?_,hm,F.kp,F.binds λ_ _ _ _ _ _ us hl=>match us,hl with | [_],_=>rfl⟩
 have hu:=hr.units
 have hdp:=cj hr (by decide)
 exact⟨_,(aG (bx (i:=1) gn.nd rfl (Or.inl rfl) (aS j7 (hr.mono (by decide)) rfl eI jU jZ .nil bf (ag (pv 0) (ag ax ar))))
 (aG (bx (i:=2) gn.nd rfl (Or.inl rfl) (aS br (hr.mono (by decide)) rfl aZ bt bq .nil bf (ag (pv 1) (ag ax (ag ax ar)))))
 (aG (bx (i:=3) gn.nd rfl (Or.inl rfl) (aS uW (hr.mono (by decide)) rfl gJ uU uO .nil bf (ag (pv 1) (ag (pv 2) (ag (vm rP (aP lT ax ax)) ar)))))
 (aG (bx (i:=4) gn.nd rfl (Or.inl rfl) (aS uF (hr.mono (by decide)) rfl gI uN uP .nil bf (ag (pv 0) (ag ax (ag (pv 3) ar)))))
 (aG (bx (i:=5) gn.nd rfl (Or.inl rfl) (aS qv (hr.mono (by decide)) rfl gR qp qB .nil bf (ag (aP cv (pv 1) ax) (ag (pv 2) ar))))
 (aG (bx (i:=6) gn.nd rfl (Or.inl rfl) (Eu k_Yard_init G_Yard_init (hr.mono (by decide)) rfl jh b_Yard_init .nil bf (ag (pv 5) (ag (aS ya (hr.mono (by decide)) rfl ji xC yb .nil bf (ag (pv 4) (ag (pv 5) (ag (aS qv (hr.mono (by decide)) rfl gR qp qB .nil bf (ag (pv 1) (ag (bo dQ rfl n_len Boot.«len» (ag (pv 4) ar)) ar))) (ag (pv 1) ar))))) ar))))
 (aG (jm PassesOwn.never rfl (fu (aP cv (eT (ag (aS j7 (hr.mono (by decide)) rfl eI jU jZ .nil bf (ag (pv 0) (ag ax ar))) ar)) (mF tR (pv 0) (kn ax) (kn ax)))) (bB (i:=7) gn.nd rfl (Or.inr rfl))
 (aG (oq (i:=8) (own:=["_law_g"]) (cap:=["_law_cell_here"]) (caps:=[7]) rfl ⟨rfl,by decide +kernel,by decide +kernel,by decide +kernel,⟨rfl,Or.inl rfl,rfl,trivial⟩,by decide +kernel⟩ (fJ rfl n_range (ag (pv 2) ar)) (λ_ _ _=>(bB (i:=0) (show ((["_law_g"]:List Str)++(["_law_cell_here"]:List Str)).Nodup from by decide +kernel) rfl (Or.inl rfl))) (λ_ _ _=>dm) (λ_ _ _=>(aP jR (aS br (hr.mono (by decide)) rfl aZ bt bq .nil bf (ag (pv 1) (ag (pv 0) (ag ax ar)))) ax)) gn.nd rfl (Or.inl rfl) rfl)
 (aG (cK (bS (i7 hu) (aS br (hr.mono (by decide)) rfl aZ bt bq .nil bf (ag (pv 7) (ag ax (ag ax ar)))) ax (bO _))
 (aL (oq (i:=8) (own:=["_law_number"]) (cap:=["_law_cell_here"]) (caps:=[7]) rfl ⟨rfl,by decide +kernel,by decide +kernel,by decide +kernel,⟨rfl,Or.inl rfl,rfl,trivial⟩,by decide +kernel⟩ (fu (pv 8)) (λ_ _ _=>(bB (i:=0) (show ((["_law_number"]:List Str)++(["_law_cell_here"]:List Str)).Nodup from by decide +kernel) rfl (Or.inl rfl))) (λ_ _ _=>dm) (λ_ _ _=>(aP eX (pv 0) (aP dX (pv 1) (aP lT ax ax)))) gn.nd rfl (Or.inl rfl) rfl))
 bR)
 (aG (bx (i:=9) gn.nd rfl (Or.inl rfl) (dN en rfl n_list Boot.«list» (ag (pv 3) ar)))
 (aG (cK (PW.pt (pw_and (bS (i7 hu) (aS br (hr.mono (by decide)) rfl aZ bt bq .nil bf (ag (pv 7) (ag ax (ag ax ar)))) ax (bO _)) (pw_and1 (bS j8 (pv 2) ax (bO _)))))
 (aL (Eh (pv 9) (aS br (hr.mono (by decide)) rfl aZ bt bq .nil bf (ag (pv 7) (ag ax (ag (pv 2) ar)))) AO (aP cv ax (aP dX (pv 7) (aP lT ax ax))) HE set_list))
 bR)
 (aG (cK (bS (i7 hu) (aS br (hr.mono (by decide)) rfl aZ bt bq .nil bf (ag (pv 7) (ag ax (ag ax ar)))) ax (bO _))
 (aL (oq (i:=9) (own:=["_law_number"]) (cap:=["_law_cell_here"]) (caps:=[7]) rfl ⟨rfl,by decide +kernel,by decide +kernel,by decide +kernel,⟨rfl,Or.inl rfl,rfl,trivial⟩,by decide +kernel⟩ (fu (pv 3)) (λ_ _ _=>(bB (i:=0) (show ((["_law_number"]:List Str)++(["_law_cell_here"]:List Str)).Nodup from by decide +kernel) rfl (Or.inl rfl))) (λ_ _ _=>dm) (λ_ _ _=>(aP eX (aP eX ax (pv 0)) (aP cv ax (aP dX (pv 1) (aP lT ax ax))))) gn.nd rfl (Or.inl rfl) rfl))
 bR)
 (aG (cK (bS (i7 hu) (aS br (hr.mono (by decide)) rfl aZ bt bq .nil bf (ag (pv 7) (ag ax (ag ax ar)))) ax (bO _))
 (aL (bx (i:=9) gn.nd rfl (Or.inl rfl) (dy cD (eT (ag (aP cv (pv 9) (eT (ag ax ar))) (ag (mF tR (pv 9) (kn ax) lR) ar))) (aP eX (dN mM rfl n_int Boot.«int» (ag (jO j8 (pv 2) ax (bO _)) ar)) (aS br (hr.mono (by decide)) rfl aZ bt bq .nil bf (ag (pv 7) (ag ax (ag ax ar))))) (λ_ _=>rfl))))
 bR)
 (aL (cK (o4 (kL (aS qm (hr.mono (by decide)) rfl eK qy qE .nil bf (ag (pv 6) (ag (pv 4) (ag (pv 9) (ag (pv 8) ar)))))))
 (aL (bN vq))
 bR)))))))))
 (aL (bN (aS qm (hr.mono (by decide)) rfl eK qy qE .nil bf (ag (pv 6) (ag (pv 4) (ag (pv 3) (ag (dW (own:=["_law_g"]) (cap:=[]) (caps:=[]) rfl ⟨rfl,by decide +kernel,by decide +kernel,by decide +kernel,trivial,by decide +kernel⟩ (fJ rfl n_range (ag (pv 2) ar)) (λ_ _ _=>(bB (i:=0) (show ((["_law_g"]:List Str)++([]:List Str)).Nodup from by decide +kernel) rfl (Or.inl rfl))) (λ_ _ _=>dm) (λ_ _ _=>ax)) ar)))))))))))))),
  (aN (bh (aQ (n:=2) (f:=bL) (ai (ah 0) (ai (aw 0) ay))))
 (aN (bh (aQ (n:=3) (f:=aC) (ai (ah 1) (ai (aw 45) (ai (aw 6) ay)))))
 (aN (bh (aQ (n:=3) (f:=fA) (ai (ah 1) (ai (ah 2) (ai (vj rE (av lZ (aw 10) (aw 10))) ay)))))
 (aN (bh (aQ (n:=3) (f:=ey) (ai (ah 0) (ai (aw 0) (ai (ah 3) ay)))))
 (aN (bh (aQ (n:=2) (f:=cX) (ai (av bX (ah 1) (aw 1)) (ai (ah 2) ay))))
 (aN (bh (EW (c:=0) (n:=2) (f:=gZ) (ai (ah 5) (ai (aQ (n:=4) (f:=fT) (ai (ah 4) (ai (ah 5) (ai (aQ (n:=2) (f:=cX) (ai (ah 1) (ai (bg gi (ai (ah 4) ay)) ay))) (ai (ah 1) ay))))) ay))))
 (aN (jg (fv (av bX (lW (ai (aQ (n:=2) (f:=bL) (ai (ah 0) (ai (aw 6) ay))) ay)) (Ab (ah 0) (kB (aw 7)) (kB (aw 12))))) (bb 7)
 (aN (bh (dk (m:=1) (caps:=[7]) (iR (ai (ah 2) ay)) (bb 0) du (av jY (aQ (n:=3) (f:=aC) (ai (ah 1) (ai (ah 0) (ai (aw 2001) ay)))) (aw 1000))))
 (aN (cL (b9 (av fU (aQ (n:=3) (f:=aC) (ai (ah 7) (ai (aw 20) (ai (aw 3) ay)))) (aw 0)))
 (bh (dk (m:=1) (caps:=[7]) (fv (ah 8)) (bb 0) du (av dP (ah 0) (av eU (ah 1) (av lZ (aw 10) (aw 22))))))
 bT)
 (aN (bh (BY (ah 3)))
 (aN (cL (wK (b9 (av fU (aQ (n:=3) (f:=aC) (ai (ah 7) (ai (aw 21) (ai (aw 2) ay)))) (aw 0))) (b9 (av jQ (ah 2) (aw 0))))
 (E5 D7 (ah 9) (aQ (n:=3) (f:=aC) (ai (ah 7) (ai (aw 22) (ai (ah 2) ay)))) (av bX (aw 1) (av eU (ah 7) (av lZ (aw 10) (aw 20)))))
 bT)
 (aN (cL (b9 (av fU (aQ (n:=3) (f:=aC) (ai (ah 7) (ai (aw 23) (ai (aw 3) ay)))) (aw 0)))
 (bh (Cj (m:=1) (caps:=[7]) (fv (ah 3)) (bb 0) du (av dP (av dP (aw 3) (ah 0)) (av bX (aw 1) (av eU (ah 1) (av lZ (aw 10) (aw 10)))))))
 bT)
 (aN (cL (b9 (av fU (aQ (n:=3) (f:=aC) (ai (ah 7) (ai (aw 24) (ai (aw 4) ay)))) (aw 0)))
 (bh (av dw (lW (ai (av bX (ah 9) (lW (ai (aw 0) ay))) (ai (Ab (ah 9) (kB (aw 1)) jB) ay))) (av dP (bg nS (ai (av jQ (ah 2) (aw 0)) ay)) (aQ (n:=3) (f:=aC) (ai (ah 7) (ai (aw 25) (ai (aw 2) ay)))))))
 bT)
 (cL (pb (mR (qQ (n:=4) (f:=eJ) (ai (ah 6) (ai (ah 4) (ai (ah 9) (ai (ah 8) ay)))))))
 (bP (vn false))
 bT))))))))
 (bP (aQ (n:=4) (f:=eJ) (ai (ah 6) (ai (ah 4) (ai (ah 3) (ai (dk (m:=1) (caps:=[]) (iR (ai (ah 2) ay)) (bb 0) du (aw 1)) ay)))))))))))))⟩
end
end Lk25
set_option maxRecDepth 100000
set_option maxHeartbeats 4000000
namespace Lk25
open PySem PySem.Spec PyProof.Rows L2 M
theorem qf(ns:List Int)(k:Nat):∃c,bL [vI ns,.int (k:Int)] []=.ok (.int c,[])/\(k<ns.length->c=nth ns k):=by
 by_cases h:k<ns.length
 ·refine⟨nth ns k,fP (s:=⟨[some (vI ns),some (.int (k:Int))],[]⟩) ?_,λ_=>rfl⟩
  have hk:((k:Int)<(ns.length:Int)):=by omega
  simp[eI,hk,DA h]
 ·refine⟨0,fP (s:=⟨[some (vI ns),some (.int (k:Int))],[]⟩) ?_,λz=>absurd z h⟩
  have hk:¬((k:Int)<(ns.length:Int)):=by omega
  simp[eI,hk]
def azB(x:Str):Bool:= !decide (x.cps.toList<("a" :Str).cps.toList)&& !decide (("z" :Str).cps.toList<x.cps.toList)
theorem vF(O:aD)(i j:Str):oz O (.str i) (.str j)=.ok (.bl (!decide (j.cps.toList<i.cps.toList))):=rfl
theorem Fz{s:S}{i:Nat}{x:Str}(h:s.r[i]? =some (some (.str x))):pq oz oz (aj (.str ("a" :Str))) (aa i) (aj (.str ("z" :Str))) s=.ok (.bl (azB x),s):=by
 rw[Bm,au,ak,af h,ak]
 dsimp only
 rw[vF,ak]
 unfold azB
 cases (!decide (x.cps.toList<("a" :Str).cps.toList)) with
 | false=>rfl
 | true=>
  dsimp only
  rw[au,ak]
  dsimp only
  rw[vF,ak]
  rfl
def nmB(z:Str):Bool:=decide (1<=z.length)&&decide (z.length<=8)&&z.cps.toList.all λc=>azB ⟨#[c]⟩
theorem len_list(z:Str):z.cps.toList.length=z.length:=by unfold Str.length;simp
theorem A4{z:Str}(h:z.length<=1000000):jN [.str z] []=.ok (.bl (nmB z),[]):=by
 have hlen:bC dA (ae (aa 0) aq) ⟨[some (.str z)],[]⟩=.ok (.int (z.length:Int),⟨[some (.str z)],[]⟩):=by
  rw[iQ,aY,af (i:=0) rfl,ak,aF,ak,ak]
  dsimp only
  rw[xb (nr h),ak]
 have ht:orT (bj (ao ltD (bC dA (ae (aa 0) aq)) (aj (.int 1)))) (bj (ao gtD (bC dA (ae (aa 0) aq)) (aj (.int 8)))) ⟨[some (.str z)],[]⟩=.ok (decide ((z.length:Int)<1)||decide ((8:Int)<(z.length:Int)),⟨[some (.str z)],[]⟩):=by
  rw[vW,gd,dR,hlen,ak,au,ak]
  dsimp only
  rw[yA,ak,ak]
  dsimp only
  rw[ak]
  dsimp only
  rw[iO hlen]
  cases decide ((z.length:Int)<1) <;> rfl
 have hc:=fY (l:=z.cps.toList) (item:=λc=>.str ⟨#[c]⟩) (out:=λc=>.bl (azB ⟨#[c]⟩)) (caps:=[]) (im:=zi (aa 0)) (e:=pq oz oz (aj (.str ("a" :Str))) (aa 0) (aj (.str ("z" :Str)))) (k:=none) (s:=⟨[some (.str z)],[]⟩) (by
  rw[DW,af (i:=0) rfl,ak];rfl) trivial (by rw[len_list];exact nr h) (λc _=>Fz rfl)
 rw[show z.cps.toList.map (λc=>D.bl (azB ⟨#[c]⟩))=(z.cps.toList.map λc=>azB ⟨#[c]⟩).map D.bl by rw[List.map_map];rfl] at hc
 refine fP (s:=⟨[some (.str z)],[]⟩) ?_
 show kY ⟨[some (.str z)],[]⟩=_
 rw[kY]
 by_cases h1:z.length<1\/8<z.length
 ·rw[show nmB z=false by
   unfold nmB
   rcases h1 with q | q
   ·rw[decide_eq_false (by omega:¬1<=z.length),Bool.false_and,Bool.false_and]
   ·rw[decide_eq_false (by omega:¬z.length<=8),Bool.and_false,Bool.false_and]]
  refine wW (Eq.trans (Dp (s':=⟨[some (.str z)],[]⟩) ?_) (bZ (au _ _)))
  rw[ht]
  rcases h1 with q | q
  ·rw[decide_eq_true (show (z.length:Int)<1 by omega),Bool.true_or]
  ·rw[decide_eq_true (show (8:Int)<(z.length:Int) by omega),Bool.or_true]
 ·refine Eq.trans (dq (Eq.trans (lM (s':=⟨[some (.str z)],[]⟩) ?_) rfl)) (bZ ?_)
  ·rw[ht,decide_eq_false (show ¬(z.length:Int)<1 by omega),decide_eq_false (show ¬(8:Int)<(z.length:Int) by omega),Bool.or_false]
  ·rw[iQ,aY,hc,ak,aF,ak,ak]
   dsimp only
   rw[qO,ak]
   unfold nmB
   rw[decide_eq_true (by omega:1<=z.length),decide_eq_true (by omega:z.length<=8),Bool.true_and,Bool.true_and,List.all_map]
   rfl
abbrev ABC:Str:="abcdefghijklmnopqrstuvwxyz"
theorem GL:sg ABC=(List.range 26).map (97 + ·):=by decide
def mkS(l:List Nat):Str:=⟨l.toArray⟩
theorem fG(l:List Nat):sg (mkS l)=l:=by simp[sg,mkS]
theorem iL(l:List Nat):(mkS l).length=l.length:=by rw[<- rY,fG]
def azL(l:List Nat):Prop:=∀c∈l,97<=c/\c<=122
theorem EF(c:Nat):azB ⟨#[c]⟩=(decide (97<=c)&&decide (c<=122)):=by
 unfold azB
 rw[show ("a" :Str).cps.toList=[97] by decide,show ("z" :Str).cps.toList=[122] by decide]
 show (!decide ([c] < [97])&& !decide ([122] < [c]))=_
 rw[StrLaws.lt_cons_cons,StrLaws.lt_cons_cons,StrLaws.lt_nil_nil,Bool.and_false,Bool.or_false,Bool.and_false,Bool.or_false]
 congr 1
 ·rw[Bool.eq_iff_iff];simp
 ·rw[Bool.eq_iff_iff];simp
structure mP(z:Str):Prop where
 lo:1<=z.length
 hi:z.length<=8
 az:azL (sg z)
theorem mP.nm{z:Str}(h:mP z):nmB z=true:=by
 unfold nmB
 rw[decide_eq_true h.lo,decide_eq_true h.hi,Bool.true_and,Bool.true_and,List.all_eq_true]
 intro c hc
 have:=h.az c hc
 rw[EF,decide_eq_true this.1,decide_eq_true this.2];rfl
theorem Bx{O:aD}{i:Int}(h0:0<=i)(h1:i<26):ixD O (.str ABC) (.int i)=.ok (.str (mkS [97+i.toNat])):=by
 have hl:i.toNat<ABC.cps.toList.length:=by rw[show ABC.cps.toList.length=26 by decide];omega
 have ha:=oG hl
 rw[show ((i.toNat:Nat):Int)=i by omega] at ha
 have hv:ABC.cps.toList[i.toNat]=97+i.toNat:=by
  have:=GL
  rw[List.getElem_of_eq this]
  simp
 rw[hv] at ha
 show (if ABC.length<=16777216 then (match atI ABC.cps.toList i with
  | some c=>Res.ok (D.str ⟨#[c]⟩)
  | none=>.bad) else .bad)=_
 rw[if_pos (by decide),ha]
 rfl
theorem kF{n:Nat}{pre rest:List D}{d:D}(h:(List.range n).map (λ(i:Nat)=>D.int (i:Int))=pre++d::rest):d=.int (pre.length:Int)/\pre.length<n:=by
 have h1:((List.range n).map (λ(i:Nat)=>D.int (i:Int)))[pre.length]? =some d:=by rw[h];simp
 have h2:pre.length<n:=by
  have:=congrArg List.length h
  simp at this
  omega
 rw[List.getElem?_map,List.getElem?_range h2] at h1
 exact⟨by simpa using h1.symm,h2⟩
def ow(q:Int)(k:Nat):Nat:=97+((q+3*(k:Int)+1)%26).toNat
def nmK(wd:List Nat)(at_:Nat)(q:Int)(B:Bool)(k:Nat):List Nat:=
 if B then (if k=0 then wd else if k=1 then wd.take (wd.length-1) else wd++[ow q k]) else wd.take at_++[ow q k]++wd.drop (at_+1)
theorem yP{wd:List Nat}{at_ k:Nat}{q:Int}{B:Bool}(h:at_<wd.length):(nmK wd at_ q B k).length=if B then (if k=0 then wd.length else if k=1 then wd.length-1 else wd.length+1) else wd.length:=by
 unfold nmK
 cases B with
 | false=>simp;omega
 | true=>
  by_cases h0:k=0
  ·simp[h0]
  ·by_cases h1:k=1
   ·simp[h1]
   ·simp[h0,h1]
theorem JC{wd:List Nat}{at_ i j:Nat}{q:Int}{B:Bool}(h:at_<wd.length)(h2:2<=wd.length)(hij:i<j)(hj:j<8):nmK wd at_ q B i≠nmK wd at_ q B j:=by
 intro e
 have hs:ow q i≠ow q j:=by unfold ow;omega
 cases B with
 | false=>
  unfold nmK at e
  simp only[if_neg Bool.false_ne_true] at e
  have hl:(wd.take at_).length=at_:=by rw[List.length_take];omega
  have key:∀x:Nat,(wd.take at_++[x]++wd.drop (at_+1))[at_]? =some x:=λx=>by
   rw[List.append_assoc,List.getElem?_append_right (by omega),hl,Nat.sub_self];rfl
  have e1:(wd.take at_++[ow q i]++wd.drop (at_+1))[at_]? =(wd.take at_++[ow q j]++wd.drop (at_+1))[at_]? :=by rw[e]
  rw[key,key] at e1
  have e1:ow q i=ow q j:=by simpa using e1
  exact hs e1
 | true=>
  have hl:=congrArg List.length e
  rw[yP h,yP h] at hl
  simp only[if_true] at hl
  by_cases h0:i=0
  ·subst h0
   rw[if_pos rfl,if_neg (by omega)] at hl
   split at hl <;> omega
  ·rw[if_neg h0,if_neg (show ¬j=0 by omega)] at hl
   by_cases h1:i=1
   ·rw[if_pos h1,if_neg (by omega)] at hl;omega
   ·unfold nmK at e
    rw[if_pos rfl,if_pos rfl,if_neg h0,if_neg h1,if_neg (show ¬j=0 by omega),if_neg (show ¬j=1 by omega)] at e
    have:=List.append_cancel_left e
    simp at this
    exact hs this
abbrev sD(l:List Str):D:=.lst (l.map D.str)
theorem pK{O:aD}{a b:Str}(h:a.length+b.length<=1000000):bu O (.str a) (.str b)=.ok (.str (a++b)):=if_pos (nr h)
abbrev pD(p:Str×Int):D:=.tup [.str p.1,.int p.2]
abbrev psD(l:List (Str×Int)):D:=.lst (l.map pD)
structure Wk where
 nm:Str
 us:List (Str×Int)
 ms:List (Str×Int)
abbrev wD(w:Wk):D:=.tup [.str w.nm,psD w.us,psD w.ms]
abbrev wsD(l:List Wk):D:=.lst (l.map wD)
@[simp] theorem cq (l:List Str):aI (l.map D.str)=true:=by
 induction l with
 | nil=>rfl
 | cons a l ih=>simp[aI,bV,ih]
@[simp] theorem fI (l:List (Str×Int)):aI (l.map pD)=true:=by
 induction l with
 | nil=>rfl
 | cons a l ih=>simp[aI,bV,ih]
@[simp] theorem jS (l:List Wk):aI (l.map wD)=true:=by
 induction l with
 | nil=>rfl
 | cons a l ih=>simp[aI,bV,ih]
theorem mX(O:aD)(l:List Str):bH O (l.map D.str)=l.map D.str:=by
 induction l with
 | nil=>unfold bH;rfl
 | cons a l ih=>rw[List.map_cons];unfold bH;rw[ih];unfold res;rfl
theorem yW(z:Str)(l:List Str):aI [.str z,.lst (l.map D.str)]=true:=by
 show (true&&(aI (l.map D.str)&&true))=true
 rw[cq];rfl
theorem Cg(z:Str)(l m:List Str):aI [.str z,.lst (l.map D.str),.lst (m.map D.str)]=true:=by
 show (true&&(aI (l.map D.str)&&(aI (m.map D.str)&&true)))=true
 rw[cq,cq];rfl
theorem Ci{O:aD}{k:Nat}{l:List Str}(h:O[k]? =some (.lst (l.map D.str)))(z:Str)(g:List Str):bH O (bH O [.str z,.lst (g.map D.str),.ptr k])=[.str z,.lst (g.map D.str),.lst (l.map D.str)]:=by
 have h1:bH O [.str z,.lst (g.map D.str),.ptr k]=[.str z,.lst (g.map D.str),.lst (l.map D.str)]:=by
  simp only[bH,res,mX,h]
 rw[h1]
 simp only[bH,res,mX]
theorem EJ{O:aD}{k:Nat}{l:List Str}(h:O[k]? =some (.lst (l.map D.str)))(z:Str):bH O (bH O [.str z,.ptr k])=[.str z,.lst (l.map D.str)]:=by
 have h1:bH O [.str z,.ptr k]=[.str z,.lst (l.map D.str)]:=by
  simp only[bH,res,mX,h]
 rw[h1]
 simp only[bH,res,mX]
theorem kU{α:Type}(f:α->D)(l:List α):et (l.map f)=l.zipIdx.map λp=>.tup [.int (p.2:Int),f p.1]:=by
 unfold et
 rw[List.mapIdx_eq_zipIdx_map,List.zipIdx_map,List.map_map]
 rfl
theorem lY{α:Type}{g:α×Nat->D}{l:List α}{pre rest:List D}{d:D}(h:l.zipIdx.map g=pre++d::rest):∃(hl:pre.length<l.length),d=g (l[pre.length],pre.length):=by
 have hl:pre.length<l.length:=by
  have:=congrArg List.length h
  simp at this
  omega
 have h1:(l.zipIdx.map g)[pre.length]? =some d:=by rw[h];simp
 rw[List.getElem?_map,List.getElem?_eq_getElem (by simpa using hl)] at h1
 refine⟨hl, ?_⟩
 simpa using h1.symm
theorem pI{α:Type}{g:α->D}{l:List α}{pre rest:List D}{d:D}(h:l.map g=pre++d::rest):∃(hl:pre.length<l.length),d=g (l[pre.length]):=by
 have hl:pre.length<l.length:=by
  have:=congrArg List.length h
  simp at this
  omega
 have h1:(l.map g)[pre.length]? =some d:=by rw[h];simp
 rw[List.getElem?_map,List.getElem?_eq_getElem hl] at h1
 exact⟨hl,by simpa using h1.symm⟩
theorem jz{n:Nat}{m:SM}{ds:List D}{O:aD}{s:S}(h:m ⟨ds.map some++List.replicate (n-ds.length) none,O⟩=.next s):runM n m ds O=.ok (.non,s.o):=by
 unfold runM;rw[h]
theorem yB{O:aD}(z:Str)(l:List Str):inD O (.str z) (sD l)=.ok (.bl (l.any (· == z))):=by
 unfold inD inB
 dsimp only
 rw[nK]
 dsimp only
 rw[oI]
theorem Ad{O:aD}(z:Str)(l:List Str):px O (.str z) (sD l)=.ok (.bl (!l.any (· == z))):=by
 unfold px inB
 dsimp only
 rw[nK]
 dsimp only
 rw[oI]
theorem Gs{z:Str}{l:List Str}(h:z∈l):l.any (· == z)=true:=List.any_eq_true.mpr ⟨z,h,by simp⟩
theorem yR{z:Str}{l:List Str}(h:z∉l):l.any (· == z)=false:=by
 rw[List.any_eq_false]
 intro y hy e
 have:y=z:=by simpa using e
 exact h (this▸hy)
theorem iW{l:List Str}(h:l.Nodup){i:Nat}(hi:i<l.length):l[i]∉l.take i:=by
 intro hm
 obtain⟨j,hj,e⟩:=List.getElem_of_mem hm
 rw[List.length_take] at hj
 rw[List.getElem_take] at e
 exact List.pairwise_iff_getElem.mp h j i (by omega) hi (by omega) e
theorem DT{goods:List Str}{works:List Wk}(h1:goods.length<=10)(h2:works.length<=10):gu [sD goods,wsD works] []=.ok (.non,[]):=by
 refine jz (s:=⟨[some (sD goods),some (wsD works)],[]⟩) ?_
 show iH ⟨[some (sD goods),some (wsD works)],[]⟩=_
 rw[iH]
 have hl:∀(i:Nat) (ds:List D),[some (sD goods),some (wsD works)][i]? =some (some (.lst ds))->bC dA (ae (aa i) aq) ⟨[some (sD goods),some (wsD works)],[]⟩=.ok (.int (ds.length:Int),⟨[some (sD goods),some (wsD works)],[]⟩):=λi ds h=>by
  rw[iQ,aY,af h,ak,aF,ak,ak]
  dsimp only
  rw[fQ,ak]
 refine Eq.trans (dq (Eq.trans (lM (by rw[iO (hl 0 _ rfl),List.length_map,decide_eq_false (by omega)])) rfl)) ?_
 exact Eq.trans (lM (by rw[iO (hl 1 _ rfl),List.length_map,decide_eq_false (by omega)])) rfl
theorem yE{z:Str}{l:List Str}(hz:mP z)(hl:z∉l):dB [.str z,sD l] []=.ok (.non,[]):=by
 refine jz (s:=⟨[some (.str z),some (sD l)],[]⟩) ?_
 show eS ⟨[some (.str z),some (sD l)],[]⟩=_
 rw[eS]
 have h1:aK 1 jN (ae (aa 0) aq) ⟨[some (.str z),some (sD l)],[]⟩=.ok (.bl true,⟨[some (.str z),some (sD l)],[]⟩):=dF (ds:=[.str z]) (by rw[aY,af (i:=0) rfl];rfl) (by simp) rfl (by rw[A4 (by have:=hz.hi;omega),hz.nm]) (by simp)
 refine Eq.trans (dq (Eq.trans (lM (s':=⟨[some (.str z),some (sD l)],[]⟩) ?_) rfl)) (Eq.trans (lM (s':=⟨[some (.str z),some (sD l)],[]⟩) ?_) rfl)
 ·rw[sJ,gd,h1];rfl
 ·rw[gd,dR,af (i:=0) rfl,ak,af (i:=1) rfl,ak]
  dsimp only
  rw[yB,yR hl];rfl
theorem CU{goods:List Str}(h:∀z∈goods,mP z)(nd:goods.Nodup):∃O,eZ [sD goods] []=.ok (.non,O):=by
 obtain⟨s',el,y1,y2,hs'⟩:=ee (ok:=okC (et (goods.map D.str)) none) (g:=d7 (bA (aO 1) (bA (aO 2) eD)) 2) (body:=ik)
  (λ_ s=>∃y1 y2,s=⟨[some (sD goods),y1,y2],[]⟩) (λ_ _ _=>trivial) (et (goods.map D.str)) [] (by
   rintro pre d rest ed s ⟨y1,y2,rfl⟩
   rw[List.nil_append,kU] at ed
   obtain⟨hl,rfl⟩:=lY ed
   refine⟨⟨[some (sD goods),some (.int (pre.length:Int)),some (.str (goods[pre.length]))],[]⟩,⟨[some (sD goods),some (.int (pre.length:Int)),some (.str (goods[pre.length]))],[]⟩,by rw[ou];rfl,.inl ?_,_,_,rfl⟩
   rw[ik]
   refine cy (dF (ds:=[.str (goods[pre.length]),sD (goods.take pre.length)]) (d:=.non) ?_ (yW _ _) rfl (yE (h _ (List.getElem_mem _)) (iW nd hl)) (by simp))
   rw[aY,af (i:=2) rfl,ak,aY,BJ,af (i:=0) rfl,ak,Bk,ak,ym,af (i:=1) rfl,ak]
   dsimp only
   rw[ak]
   dsimp only
   rw[nK]
   dsimp only
   unfold M.cutD
   rw[HT.wQ,HT.pW,List.length_map,show min pre.length goods.length=pre.length by omega,List.drop_zero,Nat.sub_zero,<- List.map_take]
   rfl) ⟨[some (sD goods),none,none],[]⟩ ⟨_,_,rfl⟩
 have hf:=hU (im:=gF (ae (aa 0) aq)) (g:=d7 (bA (aO 1) (bA (aO 2) eD)) 2) (body:=ik) (s:=⟨[some (sD goods),none,none],[]⟩) (ds:=et (goods.map D.str)) (k:=none) (s1:=⟨[some (sD goods),none,none],[]⟩) (by
  rw[lb,aY,af (i:=0) rfl,ak,aF,ak,ak])
 rw[el,hs'] at hf
 exact⟨_,jz (s:=⟨[some (sD goods),y1,y2],[]⟩) (by
  show gH ⟨[some (sD goods),none,none],[]⟩=_
  rw[gH,hf])⟩
theorem D2{z:Str}{goods l:List Str}(h1:z∈goods)(h2:z∉l):gw [.str z,sD goods,sD l] []=.ok (.non,[]):=by
 refine jz (s:=⟨[some (.str z),some (sD goods),some (sD l)],[]⟩) ?_
 show iJ ⟨[some (.str z),some (sD goods),some (sD l)],[]⟩=_
 rw[iJ]
 refine Eq.trans (dq (Eq.trans (lM (s':=⟨[some (.str z),some (sD goods),some (sD l)],[]⟩) ?_) rfl)) (Eq.trans (lM (s':=⟨[some (.str z),some (sD goods),some (sD l)],[]⟩) ?_) rfl)
 ·rw[gd,dR,af (i:=0) rfl,ak,af (i:=1) rfl,ak]
  dsimp only
  rw[Ad,Gs h1];rfl
 ·rw[gd,dR,af (i:=0) rfl,ak,af (i:=2) rfl,ak]
  dsimp only
  rw[yB,yR h2];rfl
theorem Ah(i:Int):iX [.int i] []=.ok (.bl true,[]):=by
 refine fP (s:=⟨[some (.int i)],[]⟩) ?_
 simp[lC]
theorem BG{i:Int}(h:1<=i):eM [.int i] []=.ok (.non,[]):=by
 refine jz (s:=⟨[some (.int i)],[]⟩) ?_
 show gb ⟨[some (.int i)],[]⟩=_
 rw[gb]
 refine Eq.trans (lM (s':=⟨[some (.int i)],[]⟩) ?_) rfl
 have h1:aK 1 iX (ae (aa 0) aq) ⟨[some (.int i)],[]⟩=.ok (.bl true,⟨[some (.int i)],[]⟩):=dF (ds:=[.int i]) (by rw[aY,af (i:=0) rfl];rfl) (by simp) rfl (Ah i) (by simp)
 rw[vW,sJ,gd,h1,ak,ak]
 dsimp only
 rw[ak]
 dsimp only
 rw[if_neg (by decide),gd,dR,af (i:=0) rfl,ak,au,ak]
 dsimp only
 rw[yA,decide_eq_false (by omega)];rfl
theorem vM{n:Nat}{f:FM}{ma:AM}{s s':S}{ds rs:List D}{d:D}{O:aD}(h:ma s=.ok (ds,s'))(hr:bH s'.o (bH s'.o ds)=rs)(hp:aI rs=true)(hl:ds.length=n)(hf:f rs []=.ok (d,O))(hd:lF d=true):lK n f ma s=.ok (d,s'):=by
 unfold lK
 rw[h,ak]
 dsimp only
 rw[hr,if_pos ⟨hp,hl⟩,hf]
 dsimp only
 rw[if_pos hd]
structure i4(goods:List Str)(l:List (Str×Int)):Prop where
 mem:∀p∈l,p.1∈goods
 pos:∀p∈l,1<=p.2
 nd:(l.map (·.1)).Nodup
theorem vK{goods:List Str}{l:List (Str×Int)}(h:i4 goods l)(hl:l.length<=1000):∃O,df [psD l,sD goods] []=.ok (.non,O):=by
 have e2:setM 2 (jy aq) ⟨[some (psD l),some (sD goods),none,none,none],[]⟩=.next ⟨[some (psD l),some (sD goods),some (.ptr 0),none,none],[.lst []]⟩:=by simp
 obtain⟨s',el,y3,y4,hs'⟩:=ee (ok:=okC (l.map pD) none) (g:=d7 (bA (aO 3) (bA (aO 4) eD)) 2) (body:=ib)
  (λpre s=>∃y3 y4,s=⟨[some (psD l),some (sD goods),some (.ptr 0),y3,y4],[.lst (((l.map (·.1)).take pre.length).map D.str)]⟩) (λ_ _ _=>trivial) (l.map pD) [] (by
   rintro pre d rest ed s ⟨y3,y4,rfl⟩
   rw[List.nil_append] at ed
   obtain⟨hlt,rfl⟩:=pI ed
   have hm:l[pre.length]∈l:=List.getElem_mem _
   have hout:(l[pre.length]).1∉(l.map (·.1)).take pre.length:=by
    have:=iW h.nd (i:=pre.length) (by simpa using hlt)
    simpa using this
   generalize hx:l[pre.length]=x at hm hout
   refine⟨⟨[some (psD l),some (sD goods),some (.ptr 0),some (.str x.1),some (.int x.2)],[.lst (((l.map (·.1)).take pre.length).map D.str)]⟩,⟨[some (psD l),some (sD goods),some (.ptr 0),some (.str x.1),some (.int x.2)],[.lst (((l.map (·.1)).take (pre.length+1)).map D.str)]⟩,by rw[ou];rfl,.inl ?_,some (.str x.1),some (.int x.2),by rw[List.length_append,List.length_singleton]⟩
   rw[ib]
   have k1:=cy (vM (n:=3) (f:=gw) (ma:=ae (aa 3) (ae (aa 1) (ae (aa 2) aq))) (s:=⟨[some (psD l),some (sD goods),some (.ptr 0),some (.str x.1),some (.int x.2)],[.lst (((l.map (·.1)).take pre.length).map D.str)]⟩) (s':=⟨[some (psD l),some (sD goods),some (.ptr 0),some (.str x.1),some (.int x.2)],[.lst (((l.map (·.1)).take pre.length).map D.str)]⟩) (ds:=[.str x.1,sD goods,.ptr 0]) (rs:=[.str x.1,sD goods,sD ((l.map (·.1)).take pre.length)]) (by
    rw[aY,af (i:=3) rfl,ak,aY,af (i:=1) rfl,ak,aY,af (i:=2) rfl];rfl) (Ci rfl _ _) (Cg _ _ _) rfl (D2 (h.mem x hm) hout) (by rfl))
   have k2:=cy (dF (n:=1) (f:=eM) (ma:=ae (aa 4) aq) (s:=⟨[some (psD l),some (sD goods),some (.ptr 0),some (.str x.1),some (.int x.2)],[.lst (((l.map (·.1)).take pre.length).map D.str)]⟩) (s':=⟨[some (psD l),some (sD goods),some (.ptr 0),some (.str x.1),some (.int x.2)],[.lst (((l.map (·.1)).take pre.length).map D.str)]⟩) (ds:=[.int x.2]) (by rw[aY,af (i:=4) rfl];rfl) (by simp) rfl (BG (h.pos x hm)) (by simp))
   refine Eq.trans (dq k1) (Eq.trans (dq k2) ?_)
   refine Eq.trans (cy (tS (mo:=aa 2) (me:=aa 3) (k:=0) (d:=.str x.1) (af rfl) rfl (af rfl) rfl (by simp;omega))) ?_
   have ht:(l.map (·.1)).take (pre.length+1)=(l.map (·.1)).take pre.length++[x.1]:=by
    rw[List.take_add_one,List.getElem?_map,List.getElem?_eq_getElem hlt,hx];rfl
   rw[ht,List.map_append]
   rfl) ⟨[some (psD l),some (sD goods),some (.ptr 0),none,none],[.lst []]⟩ ⟨_,_,rfl⟩
 have hf:=hU (im:=listI (aa 0)) (g:=d7 (bA (aO 3) (bA (aO 4) eD)) 2) (body:=ib) (s:=⟨[some (psD l),some (sD goods),some (.ptr 0),none,none],[.lst []]⟩) (ds:=l.map pD) (k:=none) (s1:=⟨[some (psD l),some (sD goods),some (.ptr 0),none,none],[.lst []]⟩) (by rw[eC,af (i:=0) rfl];rfl)
 rw[el] at hf
 exact⟨_,jz (s:=s') (by
  show fc ⟨[some (psD l),some (sD goods),none,none,none],[]⟩=_
  rw[fc,dq e2]
  exact hf)⟩
@[simp] theorem C3 (g h i:GM) (a b c:D) (s:S):d7 (bA g (bA h (bA i eD))) 3 (.tup [a,b,c]) s=(g a s).bind λs1=>(h b s1).bind λs2=>i c s2:=by
 show (g a s).bind (λs1=>(h b s1).bind λs2=>(i c s2).bind λs3=>.ok s3)=_
 congr 1
 funext s1
 congr 1
 funext s2
 cases i c s2 <;> rfl
structure sx(goods:List Str)(ws:List Wk):Prop where
 nm:∀w∈ws,mP w.nm
 nd:(ws.map (·.nm)).Nodup
 us:∀w∈ws,i4 goods w.us/\w.us.length<=100
 ms:∀w∈ws,i4 goods w.ms/\w.ms.length<=100
theorem B9{goods:List Str}{ws:List Wk}(h:sx goods ws)(hl:ws.length<=1000):∃O,fg [wsD ws,sD goods] []=.ok (.non,O):=by
 have e2:setM 2 (jy aq) ⟨[some (wsD ws),some (sD goods),none,none,none,none],[]⟩=.next ⟨[some (wsD ws),some (sD goods),some (.ptr 0),none,none,none],[.lst []]⟩:=by simp
 obtain⟨s',el,y3,y4,y5,hs'⟩:=ee (ok:=okC (ws.map wD) none) (g:=d7 (bA (aO 3) (bA (aO 4) (bA (aO 5) eD))) 3) (body:=ie)
  (λpre s=>∃y3 y4 y5,s=⟨[some (wsD ws),some (sD goods),some (.ptr 0),y3,y4,y5],[.lst (((ws.map (·.nm)).take pre.length).map D.str)]⟩) (λ_ _ _=>trivial) (ws.map wD) [] (by
   rintro pre d rest ed s ⟨y3,y4,y5,rfl⟩
   rw[List.nil_append] at ed
   obtain⟨hlt,rfl⟩:=pI ed
   have hm:ws[pre.length]∈ws:=List.getElem_mem _
   have hout:(ws[pre.length]).nm∉(ws.map (·.nm)).take pre.length:=by
    have:=iW h.nd (i:=pre.length) (by simpa using hlt)
    simpa using this
   generalize hx:ws[pre.length]=x at hm hout
   refine⟨⟨[some (wsD ws),some (sD goods),some (.ptr 0),some (.str x.nm),some (psD x.us),some (psD x.ms)],[.lst (((ws.map (·.nm)).take pre.length).map D.str)]⟩,⟨[some (wsD ws),some (sD goods),some (.ptr 0),some (.str x.nm),some (psD x.us),some (psD x.ms)],[.lst (((ws.map (·.nm)).take (pre.length+1)).map D.str)]⟩,by rw[C3];rfl,.inl ?_,some (.str x.nm),some (psD x.us),some (psD x.ms),by rw[List.length_append,List.length_singleton]⟩
   rw[ie]
   obtain⟨O1,p1⟩:=vK (h.us x hm).1 (by have:=(h.us x hm).2;omega)
   obtain⟨O2,p2⟩:=vK (h.ms x hm).1 (by have:=(h.ms x hm).2;omega)
   have k1:=cy (vM (n:=2) (f:=dB) (ma:=ae (aa 3) (ae (aa 2) aq)) (s:=⟨[some (wsD ws),some (sD goods),some (.ptr 0),some (.str x.nm),some (psD x.us),some (psD x.ms)],[.lst (((ws.map (·.nm)).take pre.length).map D.str)]⟩) (s':=⟨[some (wsD ws),some (sD goods),some (.ptr 0),some (.str x.nm),some (psD x.us),some (psD x.ms)],[.lst (((ws.map (·.nm)).take pre.length).map D.str)]⟩) (ds:=[.str x.nm,.ptr 0]) (by
    rw[aY,af (i:=3) rfl,ak,aY,af (i:=2) rfl];rfl) (EJ rfl _) (yW _ _) rfl (yE (h.nm x hm) hout) (by rfl))
   have pur:∀l:List (Str×Int),aI [.lst (l.map pD),.lst (goods.map D.str)]=true:=λl=>by
    show (aI (l.map pD)&&(aI (goods.map D.str)&&true))=true
    rw[cq,fI];rfl
   have k2:=cy (dF (n:=2) (f:=df) (ma:=ae (aa 4) (ae (aa 1) aq)) (s:=⟨[some (wsD ws),some (sD goods),some (.ptr 0),some (.str x.nm),some (psD x.us),some (psD x.ms)],[.lst (((ws.map (·.nm)).take pre.length).map D.str)]⟩) (s':=⟨[some (wsD ws),some (sD goods),some (.ptr 0),some (.str x.nm),some (psD x.us),some (psD x.ms)],[.lst (((ws.map (·.nm)).take pre.length).map D.str)]⟩) (ds:=[psD x.us,sD goods]) (by rw[aY,af (i:=4) rfl,ak,aY,af (i:=1) rfl];rfl) (pur _) rfl p1 (by simp))
   have k3:=cy (dF (n:=2) (f:=df) (ma:=ae (aa 5) (ae (aa 1) aq)) (s:=⟨[some (wsD ws),some (sD goods),some (.ptr 0),some (.str x.nm),some (psD x.us),some (psD x.ms)],[.lst (((ws.map (·.nm)).take pre.length).map D.str)]⟩) (s':=⟨[some (wsD ws),some (sD goods),some (.ptr 0),some (.str x.nm),some (psD x.us),some (psD x.ms)],[.lst (((ws.map (·.nm)).take pre.length).map D.str)]⟩) (ds:=[psD x.ms,sD goods]) (by rw[aY,af (i:=5) rfl,ak,aY,af (i:=1) rfl];rfl) (pur _) rfl p2 (by simp))
   refine Eq.trans (dq k1) (Eq.trans (dq k2) (Eq.trans (dq k3) ?_))
   refine Eq.trans (cy (tS (mo:=aa 2) (me:=aa 3) (k:=0) (d:=.str x.nm) (af rfl) rfl (af rfl) rfl (by simp;omega))) ?_
   have ht:(ws.map (·.nm)).take (pre.length+1)=(ws.map (·.nm)).take pre.length++[x.nm]:=by
    rw[List.take_add_one,List.getElem?_map,List.getElem?_eq_getElem hlt,hx];rfl
   rw[ht,List.map_append]
   rfl) ⟨[some (wsD ws),some (sD goods),some (.ptr 0),none,none,none],[.lst []]⟩ ⟨_,_,_,rfl⟩
 have hf:=hU (im:=listI (aa 0)) (g:=d7 (bA (aO 3) (bA (aO 4) (bA (aO 5) eD))) 3) (body:=ie) (s:=⟨[some (wsD ws),some (sD goods),some (.ptr 0),none,none,none],[.lst []]⟩) (ds:=ws.map wD) (k:=none) (s1:=⟨[some (wsD ws),some (sD goods),some (.ptr 0),none,none,none],[.lst []]⟩) (by rw[eC,af (i:=0) rfl];rfl)
 rw[el] at hf
 exact⟨_,jz (s:=s') (by
  show gP ⟨[some (wsD ws),some (sD goods),none,none,none,none],[]⟩=_
  rw[gP,dq e2]
  exact hf)⟩
theorem EG(w:Wk):hJ [wD w] []=.ok (wD w,[]):=by
 refine fP (s:=⟨[some (wD w)],[]⟩) ?_
 show jn ⟨[some (wD w)],[]⟩=_
 rw[jn]
 refine bZ ?_
 have i0:∀(k:Int) (d:D),ixD [] (wD w) (.int k)=.ok d->ao ixD (aa 0) (aj (.int k)) ⟨[some (wD w)],[]⟩=.ok (d,⟨[some (wD w)],[]⟩):=λk d h=>by
  rw[dR,af (i:=0) rfl,ak,au,ak]
  dsimp only
  rw[h];rfl
 rw[yO,aY,i0 0 (.str w.nm) rfl,ak,aY,iQ,aY,i0 1 (psD w.us) rfl,ak,aF,ak,ak]
 dsimp only
 rw[iw,ak,ak,aY,iQ,aY,i0 2 (psD w.ms) rfl,ak,aF,ak,ak]
 dsimp only
 rw[iw,ak,ak,aF,ak,ak,ak,ak]
 rfl
def sumOf(g:Str)(l:List (Str×Int)):Int:=((l.filter λp=>decide (p.1=g)).map (·.2)).sum
def chg(w:Wk)(g:Str):Int:=sumOf g w.ms-sumOf g w.us
theorem yu{g:Str}{l:List (Str×Int)}(hl:l.length<=1000):da [.str g,psD l] []=.ok (.int (sumOf g l),[]):=by
 have hc:=Ea (l:=l) (item:=pD) (p:=λp=>decide (p.1=g)) (out:=λp=>.int p.2) (caps:=[0]) (im:=listI (aa 1)) (c:=bj (ao eqD (ao ixD (aa 0) (aj (.int 0))) (aa 1))) (e:=ao ixD (aa 0) (aj (.int 1))) (k:=none) (s:=⟨[some (.str g),some (psD l)],[]⟩) (by rw[eC,af (i:=1) rfl];rfl) trivial (by omega) (λp _=>by
  rw[gd,dR,dR,af (i:=0) rfl,ak,au,ak]
  dsimp only
  rw[show ixD [] (pD p) (.int 0)=.ok (.str p.1) from rfl,ak,ak]
  dsimp only
  rw[af (i:=1) rfl,ak]
  dsimp only
  rw[tG];rfl) (λp _ _=>by
  rw[dR,af (i:=0) rfl,ak,au,ak]
  rfl)
 rw[show (l.filter λp=>decide (p.1=g)).map (λp=>D.int p.2)=((l.filter λp=>decide (p.1=g)).map (·.2)).map D.int by rw[List.map_map];rfl] at hc
 refine fP (s:=⟨[some (.str g),some (psD l)],[]⟩) ?_
 show g5 ⟨[some (.str g),some (psD l)],[]⟩=_
 rw[g5]
 refine bZ ?_
 rw[iQ,aY,hc,ak,aF,ak,ak]
 dsimp only
 rw[mT,ak]
 rfl
theorem DX{w:Wk}{goods:List Str}(h1:w.us.length<=1000)(h2:w.ms.length<=1000)(hg:goods.length<=1000):g0 [wD w,sD goods] []=.ok (vI (goods.map (chg w)),[]):=by
 have hc:=fY (l:=goods) (item:=D.str) (out:=λg=>.int (chg w g)) (caps:=[0]) (im:=listI (aa 1)) (e:=ao eY (aK 2 da (ae (aa 0) (ae (ao ixD (aa 1) (aj (.int 2))) aq))) (aK 2 da (ae (aa 0) (ae (ao ixD (aa 1) (aj (.int 1))) aq)))) (k:=none) (s:=⟨[some (wD w),some (sD goods)],[]⟩) (by rw[eC,af (i:=1) rfl];rfl) trivial (by omega) (λg _=>by
  have pur:∀l:List (Str×Int),aI [.str g,.lst (l.map pD)]=true:=λl=>by
   show (true&&(aI (l.map pD)&&true))=true
   rw[fI];rfl
  have c2:aK 2 da (ae (aa 0) (ae (ao ixD (aa 1) (aj (.int 2))) aq)) ⟨some (.str g)::[0].map (λi=>([some (wD w),some (sD goods)][i]?).getD none),[]⟩=.ok (.int (sumOf g w.ms),⟨some (.str g)::[0].map (λi=>([some (wD w),some (sD goods)][i]?).getD none),[]⟩):=dF (ds:=[.str g,psD w.ms]) (by
   rw[aY,af (i:=0) rfl,ak,aY,dR,af (i:=1) rfl,ak,au,ak];rfl) (pur _) rfl (yu h2) (by simp)
  have c1:aK 2 da (ae (aa 0) (ae (ao ixD (aa 1) (aj (.int 1))) aq)) ⟨some (.str g)::[0].map (λi=>([some (wD w),some (sD goods)][i]?).getD none),[]⟩=.ok (.int (sumOf g w.us),⟨some (.str g)::[0].map (λi=>([some (wD w),some (sD goods)][i]?).getD none),[]⟩):=dF (ds:=[.str g,psD w.us]) (by
   rw[aY,af (i:=0) rfl,ak,aY,dR,af (i:=1) rfl,ak,au,ak];rfl) (pur _) rfl (yu h1) (by simp)
  rw[dR,c2,ak]
  dsimp only
  rw[c1,ak]
  rfl)
 rw[show goods.map (λg=>D.int (chg w g))=(goods.map (chg w)).map D.int by rw[List.map_map];rfl] at hc
 refine fP (s:=⟨[some (wD w),some (sD goods)],[]⟩) ?_
 show jl ⟨[some (wD w),some (sD goods)],[]⟩=_
 rw[jl]
 exact bZ hc
abbrev FN:List Str:=["held_goods","held_works","held_changes"]
abbrev yDs(goods:List Str)(ws:List Wk):List D:=[sD goods,wsD ws,vII (ws.map λw=>goods.map (chg w))]
abbrev yD(goods:List Str)(ws:List Wk):D:=.obj 0 FN (yDs goods ws)
theorem kr(goods:List Str)(ws:List Wk):aI (yDs goods ws)=true:=by
 show (aI (goods.map D.str)&&(aI (ws.map wD)&&(aI ((ws.map λw=>goods.map (chg w)).map vI)&&true)))=true
 rw[cq,jS,jL];rfl
theorem tw{c:Nat}{f:Str}{mo mv:EM}{s s1 s2:S}{d:D}{k:Nat}{ns:List Str}{ds:List D}(hv:mv s=.ok (d,s1))(ho:mo s1=.ok (.ptr k,s2))(hc:s2.o[k]? =some (.ins c ns ds))(hf:f∉ns)(hl:ns.length<1000):nV c f mo mv s=.next ⟨s2.r,s2.o.set k (.ins c (ns++[f]) (ds++[d]))⟩:=by
 rw[CY,hv,iD]
 dsimp only
 rw[ho,iD]
 dsimp only
 rw[hc]
 dsimp only
 rw[if_pos ⟨rfl,hf,hl⟩]
theorem DV{goods:List Str}{ws:List Wk}(hg:∀z∈goods,mP z)(nd:goods.Nodup)(hw:sx goods ws)(h1:goods.length<=10)(h2:ws.length<=10):gZ [.ptr 0,sD goods,wsD ws] [.ins 0 [] []]=.ok (.non,[.ins 0 FN (yDs goods ws)]):=by
 obtain⟨O1,k1⟩:=CU hg nd
 obtain⟨O2,k2⟩:=B9 hw (by omega)
 refine jz (s:=⟨[some (.ptr 0),some (sD goods),some (wsD ws)],[.ins 0 FN (yDs goods ws)]⟩) ?_
 show jh ⟨[some (.ptr 0),some (sD goods),some (wsD ws)],[.ins 0 [] []]⟩=_
 rw[jh]
 have pg:aI [.lst (goods.map D.str)]=true:=by
  show (aI (goods.map D.str)&&true)=true
  rw[cq];rfl
 have pgw:aI [.lst (goods.map D.str),.lst (ws.map wD)]=true:=by
  show (aI (goods.map D.str)&&(aI (ws.map wD)&&true))=true
  rw[cq,jS];rfl
 have pwg:aI [.lst (ws.map wD),.lst (goods.map D.str)]=true:=by
  show (aI (ws.map wD)&&(aI (goods.map D.str)&&true))=true
  rw[cq,jS];rfl
 have e1:=cy (dF (n:=2) (f:=gu) (ma:=ae (aa 1) (ae (aa 2) aq)) (s:=⟨[some (.ptr 0),some (sD goods),some (wsD ws)],[.ins 0 [] []]⟩) (s':=⟨[some (.ptr 0),some (sD goods),some (wsD ws)],[.ins 0 [] []]⟩) (ds:=[sD goods,wsD ws]) (by rw[aY,af (i:=1) rfl,ak,aY,af (i:=2) rfl];rfl) pgw rfl (DT h1 h2) (by simp))
 have e2:=cy (dF (n:=1) (f:=eZ) (ma:=ae (aa 1) aq) (s:=⟨[some (.ptr 0),some (sD goods),some (wsD ws)],[.ins 0 [] []]⟩) (s':=⟨[some (.ptr 0),some (sD goods),some (wsD ws)],[.ins 0 [] []]⟩) (ds:=[sD goods]) (by rw[aY,af (i:=1) rfl];rfl) pg rfl k1 (by simp))
 have e3:=cy (dF (n:=2) (f:=fg) (ma:=ae (aa 2) (ae (aa 1) aq)) (s:=⟨[some (.ptr 0),some (sD goods),some (wsD ws)],[.ins 0 [] []]⟩) (s':=⟨[some (.ptr 0),some (sD goods),some (wsD ws)],[.ins 0 [] []]⟩) (ds:=[wsD ws,sD goods]) (by rw[aY,af (i:=2) rfl,ak,aY,af (i:=1) rfl];rfl) pwg rfl k2 (by simp))
 have e4:=tw (c:=0) (f:="held_goods") (mo:=aa 0) (mv:=bC ig (ae (aa 1) aq)) (s:=⟨[some (.ptr 0),some (sD goods),some (wsD ws)],[.ins 0 [] []]⟩) (s1:=⟨[some (.ptr 0),some (sD goods),some (wsD ws)],[.ins 0 [] []]⟩) (s2:=⟨[some (.ptr 0),some (sD goods),some (wsD ws)],[.ins 0 [] []]⟩) (d:=sD goods) (k:=0) (ns:=[]) (ds:=[]) (by
  rw[iQ,aY,af (i:=1) rfl,ak,aF,ak,ak]
  dsimp only
  rw[iw,ak]) (af rfl) rfl (by simp) (by simp)
 have cw:=fY (l:=ws) (item:=wD) (out:=wD) (caps:=[]) (im:=listI (aa 2)) (e:=aK 1 hJ (ae (aa 0) aq)) (k:=none) (s:=⟨[some (.ptr 0),some (sD goods),some (wsD ws)],[.ins 0 ["held_goods"] [sD goods]]⟩) (by rw[eC,af (i:=2) rfl];rfl) trivial (by omega) (λw _=>dF (ds:=[wD w]) (by rw[aY,af (i:=0) rfl];rfl) (by
  show ((true&&(aI (w.us.map pD)&&(aI (w.ms.map pD)&&true)))&&true)=true
  rw[fI,fI];rfl) rfl (EG w) (by
  show (true&&(aI (w.us.map pD)&&(aI (w.ms.map pD)&&true)))=true
  rw[fI,fI];rfl))
 have e5:=tw (c:=0) (f:="held_works") (mo:=aa 0) (k:=0) (ns:=["held_goods"]) (ds:=[sD goods]) cw (af rfl) rfl (by decide) (by simp)
 have cc:=fY (l:=ws) (item:=wD) (out:=λw=>vI (goods.map (chg w))) (caps:=[1]) (im:=listI (aa 2)) (e:=aK 2 g0 (ae (aa 0) (ae (aa 1) aq))) (k:=none) (s:=⟨[some (.ptr 0),some (sD goods),some (wsD ws)],[.ins 0 ["held_goods","held_works"] [sD goods,wsD ws]]⟩) (by rw[eC,af (i:=2) rfl];rfl) trivial (by omega) (λw hwm=>dF (ds:=[wD w,sD goods]) (by rw[aY,af (i:=0) rfl,ak,aY,af (i:=1) rfl];rfl) (by
  show ((true&&(aI (w.us.map pD)&&(aI (w.ms.map pD)&&true)))&&(aI (goods.map D.str)&&true))=true
  rw[fI,fI,cq];rfl) rfl (DX (by have:=(hw.us w hwm).2;omega) (by have:=(hw.ms w hwm).2;omega) (by omega)) (by generalize goods.map (chg w)=r;simp))
 rw[show ws.map (λw=>vI (goods.map (chg w)))=(ws.map λw=>goods.map (chg w)).map vI by rw[List.map_map];rfl] at cc
 have e6:=tw (c:=0) (f:="held_changes") (mo:=aa 0) (k:=0) (ns:=["held_goods","held_works"]) (ds:=[sD goods,wsD ws]) cc (af rfl) rfl (by decide) (by simp)
 refine Eq.trans (dq e1) (Eq.trans (dq e2) (Eq.trans (dq e3) (Eq.trans (dq e4) (Eq.trans (dq e5) e6))))
structure Pt(goods:List Str)(i:Nat)(l:List (Str×Int)):Prop where
 mem:∀p∈l,p.1∈goods.take i
 pos:∀p∈l,1<=p.2
 nd:(l.map (·.1)).Nodup
 len:l.length<=i
theorem Pt.same{goods:List Str}{i:Nat}{l:List (Str×Int)}(h:Pt goods i l):Pt goods (i+1) l:=
 ⟨λp hp=>List.mem_of_mem_take (i:=i) (by rw[List.take_take,Nat.min_eq_left (Nat.le_succ i)];exact h.mem p hp),h.pos,h.nd,Nat.le_succ_of_le h.len⟩
theorem Pt.more{goods:List Str}(nd:goods.Nodup){i:Nat}(hi:i<goods.length){l:List (Str×Int)}(h:Pt goods i l){a:Int}(ha:1<=a):Pt goods (i+1) (l++[(goods[i],a)]):=by
 have hs:=h.same
 refine⟨λp hp=> ?_,λp hp=> ?_, ?_,by rw[List.length_append,List.length_singleton];have:=h.len;omega⟩
 ·rcases List.mem_append.mp hp with q | q
  ·exact hs.mem p q
  ·rw[List.mem_singleton.mp q,show goods.take (i+1)=goods.take i++[goods[i]] by rw[List.take_add_one,List.getElem?_eq_getElem hi];rfl]
   exact List.mem_append_right _ (List.mem_singleton.mpr rfl)
 ·rcases List.mem_append.mp hp with q | q
  ·exact h.pos p q
  ·rw[List.mem_singleton.mp q];exact ha
 ·rw[List.map_append]
  refine List.nodup_append.mpr ⟨h.nd,by simp,λx hx y hy=> ?_⟩
  obtain⟨p,hp,rfl⟩:=List.mem_map.mp hx
  have:y=goods[i]:=by simpa using hy
  subst this
  intro e
  exact iW nd hi (e▸h.mem p hp)
theorem Pt.parts{goods:List Str}{i:Nat}{l:List (Str×Int)}(h:Pt goods i l):i4 goods l:=⟨λp hp=>List.mem_of_mem_take (h.mem p hp),h.pos,h.nd⟩
theorem i4.rev{goods:List Str}{l:List (Str×Int)}(h:i4 goods l):i4 goods l.reverse:=
 ⟨λp hp=>h.mem p (List.mem_reverse.mp hp),λp hp=>h.pos p (List.mem_reverse.mp hp),by rw[List.map_reverse];exact List.pairwise_reverse.mpr (h.nd.imp λe=>e.symm)⟩
def bF(c t m:Int):Int:=(c%2147483647+7)*(48271+7919*t)%2147483647*16807%2147483647/8%m
theorem fR{c t m:Int}(hm:0<m):0<=bF c t m:=Int.emod_nonneg _ (by omega)
theorem iB{c t m:Int}(hm:0<m):bF c t m<m:=Int.emod_lt_of_pos _ hm
theorem kP(c t:Int){m:Nat}(hm:0<m):∃r:Nat,bF c t (m:Int)=(r:Int)/\r<m:=⟨(bF c t (m:Int)).toNat,by have:=fR (c:=c) (t:=t) (m:=(m:Int)) (by omega);omega,by have:=fR (c:=c) (t:=t) (m:=(m:Int)) (by omega);have:=iB (c:=c) (t:=t) (m:=(m:Int)) (by omega);omega⟩
theorem Ey{c t m:Int}(hm:0<m):aC [.int c,.int t,.int m] []=.ok (.int (bF c t m),[]):=by
 have h0:0<=c%2147483647:=Int.emod_nonneg _ (by decide)
 have h1:c%2147483647<2147483647:=Int.emod_lt_of_pos _ (by decide)
 refine fK (R:=[some (.int c),some (.int t),some (.int m),some (.int ((c%2147483647+7)*(48271+7919*t)%2147483647))]) ?_
 show aZ ⟨[some (.int c),some (.int t),some (.int m),none],[]⟩=_
 rw[aZ]
 refine aU (bD (aJ (aJ (aJ (aJ (af rfl) (au _ _) (dg (by decide))) (au _ _) (bU _ _)) (aJ (au _ _) (aJ (au _ _) (af rfl) (cQ (cW (.inl (by decide))))) (bU _ _)) (cQ (cW (.inl (by omega))))) (au _ _) (dg (by decide))) rfl) ?_
 exact bZ (aJ (aJ (aJ (aJ (af rfl) (au _ _) (cQ (cW (.inr (by decide))))) (au _ _) (dg (by decide))) (au _ _) (qr (by decide) (by decide))) (af rfl) (dg hm))
theorem dE{s:S}{ma mb mc:EM}{c t m:Int}(h1:ma s=.ok (.int c,s))(h2:mb s=.ok (.int t,s))(h3:mc s=.ok (.int m,s))(hm:0<m):aK 3 aC (ae ma (ae mb (ae mc aq))) s=.ok (.int (bF c t m),s):=cI (aA h1 (aA h2 (aA h3 (aF _)))) (Ey hm) rfl rfl rfl
def sgP(fi:Int)(k:Nat):Nat:=97+((fi+5*(k:Int))%26).toNat
def nmP(wd:List Nat)(sp:Nat)(fi:Int)(k:Nat):List Nat:=wd.take sp++[sgP fi k]++wd.drop sp
theorem Fv(fi:Int)(k:Nat):97<=sgP fi k/\sgP fi k<=122:=by unfold sgP;omega
theorem Cw{wd:List Nat}{sp k:Nat}{fi:Int}(h:sp<=wd.length)(h7:wd.length<=7)(haz:azL wd):mP (mkS (nmP wd sp fi k)):=by
 have hl:(nmP wd sp fi k).length=wd.length+1:=by unfold nmP;simp;omega
 refine⟨by rw[iL,hl];omega,by rw[iL,hl];omega, ?_⟩
 rw[fG]
 intro c hc
 unfold nmP at hc
 rcases List.mem_append.mp hc with z | z
 ·rcases List.mem_append.mp z with y | y
  ·exact haz c (List.mem_of_mem_take y)
  ·rw[List.mem_singleton.mp y];exact Fv fi k
 ·exact haz c (List.mem_of_mem_drop z)
theorem FC{wd:List Nat}{sp i j:Nat}{fi:Int}(h:sp<=wd.length)(hij:i<j)(hj:j<26):nmP wd sp fi i≠nmP wd sp fi j:=by
 intro e
 have hs:sgP fi i≠sgP fi j:=by unfold sgP;omega
 have hl:(wd.take sp).length=sp:=by rw[List.length_take];omega
 have key:∀x:Nat,(wd.take sp++[x]++wd.drop sp)[sp]? =some x:=λx=>by
  rw[List.append_assoc,List.getElem?_append_right (by omega),hl,Nat.sub_self];rfl
 have e1:(nmP wd sp fi i)[sp]? =(nmP wd sp fi j)[sp]? :=by rw[e]
 unfold nmP at e1
 rw[key,key] at e1
 have e1:sgP fi i=sgP fi j:=by simpa using e1
 exact hs e1
theorem names_nodup{wd:List Nat}{sp n:Nat}{fi:Int}(h:sp<=wd.length)(hn:n<=26):((List.range n).map λk=>mkS (nmP wd sp fi k)).Nodup:=by
 unfold List.Nodup
 rw[List.pairwise_map]
 refine List.Pairwise.imp_of_mem ?_ (List.pairwise_lt_range (n:=n))
 intro i j _ hj hij e
 have:=congrArg sg e
 rw[fG,fG] at this
 exact FC h hij (by have:=List.mem_range.mp hj;omega) this
theorem Dg{me:EM}{ml mh:OM}{s s1 s2 s3:S}{z y:Str}{lo hi:Option Int}(h:me s=.ok (.str z,s1))(hl:ml s1=.ok (lo,s2))(hh:mh s2=.ok (hi,s3))(hz:z.length<=1000000)(hy:jX z lo hi=y):slS me ml mh s=.ok (.str y,s3):=by
 rw[GB,h,ak]
 dsimp only
 rw[hl,ak]
 dsimp only
 rw[hh,ak]
 dsimp only
 rw[if_pos (by omega),hy]
abbrev naR(c:Int)(n:Nat)(wd:List Nat)(x4 x5 x6:Option D):List (Option D):=[some (.int c),some (.int (n:Int)),some (.str ABC),some (.str (mkS wd)),x4,x5,x6]
theorem zX{c:Int}{n k:Nat}{wd:List Nat}(hl:wd.length<=1000):∃r,gO ⟨naR c n wd (some (.int (k:Int))) none none,[]⟩=.next ⟨naR c n (wd++[r]) (some (.int (k:Int))) none none,[]⟩/\97<=r/\r<=122:=by
 have p0:=fR (c:=c) (t:=2+(k:Int)) (m:=26) (by decide)
 have p1:=iB (c:=c) (t:=2+(k:Int)) (m:=26) (by decide)
 refine⟨97+(bF c (2+(k:Int)) 26).toNat, ?_,by omega,by omega⟩
 rw[gO]
 refine bD (aJ (af rfl) (aJ (af rfl) (dE (af rfl) (aJ (au _ _) (af rfl) (bU _ _)) (au _ _) (by decide)) (Bx p0 p1)) ?_) rfl
 rw[pK (by rw[iL,iL];simp;omega)]
 rw[show mkS wd++mkS [97+(bF c (2+(k:Int)) 26).toNat]=mkS (wd++[97+(bF c (2+(k:Int)) 26).toNat]) from o6 (by rw[wX,fG,fG,fG])]
theorem vP(c:Int){n:Nat}(hn:n<=20):∃zs O,cX [.int c,.int (n:Int)] []=.ok (sD zs,O)/\zs.length=n/\(∀z∈zs,mP z)/\zs.Nodup:=by
 obtain⟨sz,hsz,sz8⟩:=kP c 1 (m:=8) (by decide)
 have hsz:bF c 1 8=(sz:Int):=hsz
 obtain⟨s',el,wd,x4,hwl,haz,hs'⟩:=ee (ok:=okC (cY 0 (sz:Int)) none) (g:=aO 4) (body:=gO)
  (λpre s=>∃(wd:List Nat) (x4:Option D),wd.length=pre.length/\azL wd/\s=⟨naR c n wd x4 none none,[]⟩) (λ_ _ _=>trivial) (cY 0 (sz:Int)) [] (by
   rintro pre d rest ed s ⟨wd,x4,h1,h2,rfl⟩
   rw[List.nil_append,iY] at ed
   obtain⟨rfl,hlt⟩:=kF ed
   obtain⟨r,eb,r1,r2⟩:=zX (c:=c) (n:=n) (k:=pre.length) (wd:=wd) (by omega)
   refine⟨_,_,rfl,.inl eb,wd++[r],_,by simp[h1],λz hz=> ?_,rfl⟩
   rcases List.mem_append.mp hz with q | q
   ·exact h2 z q
   ·rw[List.mem_singleton.mp q];exact⟨r1,r2⟩) ⟨naR c n [] none none none,[]⟩ ⟨[],none,rfl,(λ_ h=>by cases h),rfl⟩
 rw[List.nil_append,ft] at hwl
 have hwl:wd.length=sz:=by omega
 have hf:i8 (gf (ae (aK 3 aC (ae (aa 0) (ae (aj (.int 1)) (ae (aj (.int 8)) aq)))) aq)) (aO 4) gO ⟨naR c n [] none none none,[]⟩=.next ⟨naR c n wd x4 none none,[]⟩:=by
  refine(hU (ds:=cY 0 (sz:Int)) (k:=none) (s1:=⟨naR c n [] none none none,[]⟩) (gC (n:=sz) ?_ (by omega))).trans (el.trans (by rw[hs']))
  rw[<- hsz]
  exact aA (dE (af rfl) (au _ _) (au _ _) (by decide)) (aF _)
 obtain⟨sp,hsp,sp1⟩:=kP c 10 (m:=wd.length+1) (by omega)
 have e5:setM 5 (aK 3 aC (ae (aa 0) (ae (aj (.int 10)) (ae (ao bu (bC dA (ae (aa 3) aq)) (aj (.int 1))) aq)))) ⟨naR c n wd x4 none none,[]⟩=.next ⟨naR c n wd x4 (some (.int (sp:Int))) none,[]⟩:=by
  rw[<- hsp]
  refine bD (dE (af rfl) (au _ _) (aJ (dC (aA (af rfl) (aF _)) (xb (by rw[iL];omega))) (au _ _) ?_) (by omega)) rfl
  rw[bU,iL];rfl
 have e6:setM 6 (aK 3 aC (ae (aa 0) (ae (aj (.int 11)) (ae (aj (.int 26)) aq)))) ⟨naR c n wd x4 (some (.int (sp:Int))) none,[]⟩=.next ⟨naR c n wd x4 (some (.int (sp:Int))) (some (.int (bF c 11 26))),[]⟩:=bD (dE (af rfl) (au _ _) (au _ _) (by decide)) rfl
 generalize bF c 11 26=fi at e6
 have hwk:(mkS wd).length=wd.length:=iL wd
 have ec:=fY (l:=List.range n) (item:=λi:Nat=>D.int (i:Int)) (out:=λk=>.str (mkS (nmP wd sp fi k))) (caps:=[6,2,5,3]) (im:=gf (ae (aa 1) aq)) (e:=ao bu (ao bu (slS (aa 4) eH (part (aa 3))) (ao ixD (aa 2) (ao dh (ao bu (aa 1) (ao ck (aj (.int 5)) (aa 0))) (aj (.int 26))))) (slS (aa 4) (part (aa 3)) eH)) (k:=none) (s:=⟨naR c n wd x4 (some (.int (sp:Int))) (some (.int fi)),[]⟩) (by
  rw[<- iY]
  exact gC (aA (af rfl) (aF _)) (by omega)) trivial (by simp;omega) (λk hk=>by
   have p1:jX (mkS wd) none (some (sp:Int))=mkS (wd.take sp):=o6 (by rw[EC (by omega),fG,fG])
   have p2:jX (mkS wd) (some (sp:Int)) none=mkS (wd.drop sp):=o6 (by rw[EN (by omega),fG,fG])
   refine aJ (aJ (Dg (af rfl) (kh _) (mx (af rfl)) (by omega) p1) (aJ (af rfl) (aJ (aJ (af rfl) (aJ (au _ _) (af rfl) (cQ (cW (.inl (by decide))))) (bU _ _)) (au _ _) (dg (by decide))) (Bx (by omega) (by omega))) (d:=.str (mkS (wd.take sp++[sgP fi k]))) ?_) (Dg (af rfl) (mx (af rfl)) (kh _) (by omega) p2) ?_
   ·rw[pK (by rw[iL,iL];simp;omega)]
    exact congrArg (λz=>Res.ok (D.str z)) (o6 (by rw[wX,fG,fG,fG];rfl))
   ·rw[pK (by rw[iL,iL];simp;omega)]
    exact congrArg (λz=>Res.ok (D.str z)) (o6 (by rw[wX,fG,fG,fG];rfl)))
 refine⟨(List.range n).map λk=>mkS (nmP wd sp fi k),[], ?_,by simp,λz hz=> ?_,names_nodup (by omega) (by omega)⟩
 ·refine fK (R:=naR c n wd x4 (some (.int (sp:Int))) (some (.int fi))) ?_
  show gR ⟨[some (.int c),some (.int (n:Int)),none,none,none,none,none],[]⟩=_
  rw[gR]
  rw[show (List.range n).map (λk=>D.str (mkS (nmP wd sp fi k)))=((List.range n).map λk=>mkS (nmP wd sp fi k)).map D.str by rw[List.map_map];rfl] at ec
  exact aU (bD (au _ _) rfl) (aU (bD (R':=naR c n [] none none none) (au _ _) rfl) (aU hf (aU e5 (aU e6 (bZ ec)))))
 ·obtain⟨k,_,rfl⟩:=List.mem_map.mp hz
  exact Cw (by omega) (by omega) haz
theorem tX{O:aD}:eN O (.int 10) (.int 12)=.ok (.int 1000000000000):=mG (by decide) (by decide) (by decide)
theorem Cq{O:aD}:eN O (.int 10) (.int 9)=.ok (.int 1000000000):=mG (by decide) (by decide) (by decide)
theorem ud{O:aD}:eN O (.int 10) (.int 10)=.ok (.int 10000000000):=mG (by decide) (by decide) (by decide)
theorem mJ{O:aD}{i j:Int}(h:0<j):gA O (.int i) (.int j)=.ok (.int (i/j)):=by
 rw[tT (by omega),wI h]
abbrev moR(c:Int)(n:Nat)(w:Bool)(rest span:Int)(x6 x7:Option D):List (Option D):=[some (.int c),some (.int (n:Int)),some (.bl w),some (.ptr 0),some (.int rest),some (.int span),x6,x7]
theorem Be{c:Int}{n k:Nat}{w:Bool}{rest span:Int}{l:List Int}{x7:Option D}(hs:7<=span)(hs2:span<=2000000000001)(hl:l.length<=1000):
 ∃(v rest':Int),j9 ⟨moR c n w rest span (some (.int (k:Int))) x7,[.lst (l.map D.int)]⟩=.next ⟨moR c n w rest' span (some (.int (k:Int))) (some (.int v)),[.lst ((l++[v]).map D.int)]⟩/\Sz 50 v:=by
 have p0:=fR (c:=c) (t:=20+(k:Int)) (m:=7) (by decide)
 have p1:=iB (c:=c) (t:=20+(k:Int)) (m:=7) (by decide)
 have q0:=fR (c:=c) (t:=30+(k:Int)) (m:=2000) (by decide)
 have q1:=iB (c:=c) (t:=30+(k:Int)) (m:=2000) (by decide)
 have e7:setM 7 (ao eY (aK 3 aC (ae (aa 0) (ae (ao bu (aj (.int 20)) (aa 6)) (ae (aj (.int 7)) aq)))) (aj (.int 3))) ⟨moR c n w rest span (some (.int (k:Int))) x7,[.lst (l.map D.int)]⟩=.next ⟨moR c n w rest span (some (.int (k:Int))) (some (.int (bF c (20+(k:Int)) 7-3))),[.lst (l.map D.int)]⟩:=bD (aJ (dE (af rfl) (aJ (au _ _) (af rfl) (bU _ _)) (au _ _) (by decide)) (au _ _) (iC _ _)) rfl
 generalize bF c (20+(k:Int)) 7=p at e7 p0 p1
 have m0:0<=c%1000000000000:=Int.emod_nonneg _ (by decide)
 have m1:c%1000000000000<1000000000000:=Int.emod_lt_of_pos _ (by decide)
 have e8:∃v,ifS (bj (aa 2)) (setM 7 (ao eY (ao bu (ao ck (aa 7) (ao dh (aa 0) (ao eN (aj (.int 10)) (aj (.int 12))))) (aK 3 aC (ae (aa 0) (ae (ao bu (aj (.int 30)) (aa 6)) (ae (aj (.int 2000)) aq))))) (aj (.int 1000)))) bI ⟨moR c n w rest span (some (.int (k:Int))) (some (.int (p-3))),[.lst (l.map D.int)]⟩=.next ⟨moR c n w rest span (some (.int (k:Int))) (some (.int v)),[.lst (l.map D.int)]⟩/\Sz 50 v:=by
  cases w with
  | true=>
   refine⟨(p-3)*(c%1000000000000)+bF c (30+(k:Int)) 2000-1000,gE (j1 (af rfl)) rfl (bD (aJ (aJ (aJ (af rfl) (aJ (af rfl) (aJ (au _ _) (au _ _) tX) (dg (by decide))) (cQ (cW (.inl (by omega))))) (dE (af rfl) (aJ (au _ _) (af rfl) (bU _ _)) (au _ _) (by decide)) (bU _ _)) (au _ _) (iC _ _)) rfl), ?_⟩
   generalize bF c (30+(k:Int)) 2000=q at q0 q1
   generalize c%1000000000000=m at m0 m1
   have hp:p=0\/p=1\/p=2\/p=3\/p=4\/p=5\/p=6:=by omega
   unfold Sz
   rcases hp with rfl | rfl | rfl | rfl | rfl | rfl | rfl <;> omega
  | false=>exact⟨p-3,eW (j1 (af rfl)) rfl (cC _),by unfold Sz;omega⟩
 obtain⟨v,e8,zv⟩:=e8
 have e9:∃v' rest',ifS (oO (bj (ao eqD (ao dh (aa 0) (aj (.int 2))) (aj (.int 1)))) (bj (ao gtD (aa 4) (aj (.int 0))))) (aT (setM 7 (ao eY (ao dh (aa 4) (aa 5)) (ao gA (aa 5) (aj (.int 2))))) (setM 4 (ao gA (aa 4) (aa 5)))) bI ⟨moR c n w rest span (some (.int (k:Int))) (some (.int v)),[.lst (l.map D.int)]⟩=.next ⟨moR c n w rest' span (some (.int (k:Int))) (some (.int v')),[.lst (l.map D.int)]⟩/\Sz 50 v':=by
  have t1:bj (ao eqD (ao dh (aa 0) (aj (.int 2))) (aj (.int 1))) ⟨moR c n w rest span (some (.int (k:Int))) (some (.int v)),[.lst (l.map D.int)]⟩=.ok (decide (c%2=1),⟨moR c n w rest span (some (.int (k:Int))) (some (.int v)),[.lst (l.map D.int)]⟩):=eq_test (aJ (af rfl) (au _ _) (dg (by decide)))
  have t2:bj (ao gtD (aa 4) (aj (.int 0))) ⟨moR c n w rest span (some (.int (k:Int))) (some (.int v)),[.lst (l.map D.int)]⟩=.ok (decide (0<rest),⟨moR c n w rest span (some (.int (k:Int))) (some (.int v)),[.lst (l.map D.int)]⟩):=iO (af rfl)
  have ta:=sU t1 t2
  cases hb:(decide (c%2=1)&&decide (0<rest)) with
  | true=>
   refine⟨rest%span-span/2,rest/span,gE ta hb (aU (bD (aJ (aJ (af rfl) (af rfl) (dg (by omega))) (aJ (af rfl) (au _ _) (mJ (by decide))) (iC _ _)) rfl) (bD (aJ (af rfl) (af rfl) (mJ (by omega))) rfl)), ?_⟩
   have r0:0<=rest%span:=Int.emod_nonneg _ (by omega)
   have r1:rest%span<span:=Int.emod_lt_of_pos _ (by omega)
   unfold Sz
   omega
  | false=>exact⟨v,rest,eW ta hb (cC _),zv⟩
 obtain⟨v',rest',e9,zv'⟩:=e9
 refine⟨v',rest', ?_,zv'⟩
 rw[j9]
 refine aU e7 (aU e8 (aU e9 (cy (pV (af rfl) rfl (af rfl) rfl (by simp;omega) ?_))))
 rw[List.map_append];rfl
theorem ED(c:Int){n:Nat}(w:Bool)(hn:n<=100):∃l:List Int,iV [.int c,.int (n:Int),.bl w] []=.ok (.ptr 0,[.lst (l.map D.int)])/\l.length=n/\SzL 50 l:=by
 obtain⟨span,hsp,s0,s1⟩:∃span:Int,(if w=true then 2000000000001 else 7)=span/\7<=span/\span<=2000000000001:=⟨_,rfl,by split <;> decide,by split <;> decide⟩
 have e5:setM 5 (ao ixD (gG (ae (aj (.int 7)) (ae (ao bu (ao ck (aj (.int 2)) (ao eN (aj (.int 10)) (aj (.int 12)))) (aj (.int 1))) aq))) (bC intOf (ae (aa 2) aq))) ⟨[some (.int c),some (.int (n:Int)),some (.bl w),some (.ptr 0),some (.int (c/2)),none,none,none],[.lst []]⟩=.next ⟨moR c n w (c/2) span none none,[.lst []]⟩:=by
  refine bD (aJ (n4 (aA (au _ _) (aA (aJ (aJ (au _ _) (aJ (au _ _) (au _ _) tX) (cQ (cW (.inl (by decide))))) (au _ _) (bU _ _)) (aF _))) (by simp)) (dC (aA (af rfl) (aF _)) (oJ _)) ?_) rfl
  subst hsp
  cases w <;> rfl
 obtain⟨s',el,l,rest,x6,x7,hl,hz,hs'⟩:=ee (ok:=okC (cY 0 (n:Int)) none) (g:=aO 6) (body:=j9)
  (λpre s=>∃(l:List Int) (rest:Int) (x6 x7:Option D),l.length=pre.length/\SzL 50 l/\s=⟨moR c n w rest span x6 x7,[.lst (l.map D.int)]⟩) (λ_ _ _=>trivial) (cY 0 (n:Int)) [] (by
   rintro pre d rest ed s ⟨l,r,x6,x7,h1,h2,rfl⟩
   rw[List.nil_append,iY] at ed
   obtain⟨rfl,hlt⟩:=kF ed
   obtain⟨v,r',eb,zv⟩:=Be (c:=c) (n:=n) (k:=pre.length) (w:=w) (rest:=r) (span:=span) (l:=l) (x7:=x7) s0 s1 (by omega)
   refine⟨_,_,rfl,.inl eb,l++[v],r',_,_,by simp[h1],λz hz=> ?_,rfl⟩
   rcases List.mem_append.mp hz with q | q
   ·exact h2 z q
   ·rw[List.mem_singleton.mp q];exact zv) ⟨moR c n w (c/2) span none none,[.lst []]⟩ ⟨[],_,none,none,rfl,(λ_ h=>by cases h),rfl⟩
 rw[List.nil_append,ft] at hl
 refine⟨l, ?_,by omega,hz⟩
 refine fK (R:=moR c n w rest span x6 x7) ?_
 show jT ⟨[some (.int c),some (.int (n:Int)),some (.bl w),none,none,none,none,none],[]⟩=_
 rw[jT]
 refine aU (bD (nH (aF _) (by simp) rfl rfl) rfl) (aU (bD (aJ (af rfl) (au _ _) (mJ (by decide))) rfl) (aU e5 (aU ?_ (bZ (af rfl)))))
 exact(hU (ds:=cY 0 (n:Int)) (k:=none) (s1:=⟨moR c n w (c/2) span none none,[.lst []]⟩) (gC (n:=n) (aA (af rfl) (aF _)) (by omega))).trans (el.trans (by rw[hs']))
theorem v3{m1 m2:EM}{s s1 s2:S}{i j:Int}(h1:m1 s=.ok (.int i,s1))(h2:m2 s1=.ok (.int j,s2)):bC kG (ae m1 (ae m2 aq)) s=.ok (.int (max i j),s2):=by
 refine dC (aA h1 (aA h2 (aF _))) ?_
 show Res.ok (D.int (if j>i then j else i))=_
 congr 2
 split <;> omega
abbrev weR(c:Int)(n:Nat)(lo rest:Int)(x5 x6:Option D):List (Option D):=[some (.int c),some (.int (n:Int)),some (.int lo),some (.ptr 0),some (.int rest),x5,x6]
theorem v7{c:Int}{n k:Nat}{lo rest:Int}{l:List Int}{x6:Option D}(hlo:Sz 40 lo)(hl:l.length<=1000):
 ∃(v rest':Int) (y6:Option D),fN ⟨weR c n lo rest (some (.int (k:Int))) x6,[.lst (l.map D.int)]⟩=.next ⟨weR c n lo rest' (some (.int (k:Int))) y6,[.lst ((l++[v]).map D.int)]⟩/\Sz 40 v/\lo<=v:=by
 have p0:=fR (c:=c) (t:=100+(k:Int)) (m:=7) (by decide)
 have p1:=iB (c:=c) (t:=100+(k:Int)) (m:=7) (by decide)
 have e6:setM 6 (ao eY (aK 3 aC (ae (aa 0) (ae (ao bu (aj (.int 100)) (aa 5)) (ae (aj (.int 7)) aq)))) (aj (.int 3))) ⟨weR c n lo rest (some (.int (k:Int))) x6,[.lst (l.map D.int)]⟩=.next ⟨weR c n lo rest (some (.int (k:Int))) (some (.int (bF c (100+(k:Int)) 7-3))),[.lst (l.map D.int)]⟩:=bD (aJ (dE (af rfl) (aJ (au _ _) (af rfl) (bU _ _)) (au _ _) (by decide)) (au _ _) (iC _ _)) rfl
 generalize bF c (100+(k:Int)) 7=p at e6 p0 p1
 have m0:0<=c%1000000000:=Int.emod_nonneg _ (by decide)
 have m1:c%1000000000<1000000000:=Int.emod_lt_of_pos _ (by decide)
 have e8:∃v,ifS (bj (ao eqD (aK 3 aC (ae (aa 0) (ae (aj (.int 110)) (ae (aj (.int 6)) aq)))) (aj (.int 0)))) (setM 6 (ao ck (aa 6) (ao dh (aa 0) (ao eN (aj (.int 10)) (aj (.int 9)))))) bI ⟨weR c n lo rest (some (.int (k:Int))) (some (.int (p-3))),[.lst (l.map D.int)]⟩=.next ⟨weR c n lo rest (some (.int (k:Int))) (some (.int v)),[.lst (l.map D.int)]⟩/\Sz 40 v:=by
  have t:=eq_test (j:=0) (dE (s:=⟨weR c n lo rest (some (.int (k:Int))) (some (.int (p-3))),[.lst (l.map D.int)]⟩) (ma:=aa 0) (mb:=aj (.int 110)) (mc:=aj (.int 6)) (af rfl) (au _ _) (au _ _) (by decide))
  cases hb:decide (bF c 110 6=0) with
  | true=>
   refine⟨(p-3)*(c%1000000000),gE t hb (bD (aJ (af rfl) (aJ (af rfl) (aJ (au _ _) (au _ _) Cq) (dg (by decide))) (cQ (cW (.inl (by omega))))) rfl), ?_⟩
   generalize c%1000000000=m at m0 m1
   have hp:p=0\/p=1\/p=2\/p=3\/p=4\/p=5\/p=6:=by omega
   unfold Sz
   rcases hp with rfl | rfl | rfl | rfl | rfl | rfl | rfl <;> omega
  | false=>exact⟨p-3,eW t hb (cC _),by unfold Sz;omega⟩
 obtain⟨v,e8,zv⟩:=e8
 have e9:∃v' rest',ifS (oO (bj (ao eqD (ao dh (aa 0) (aj (.int 2))) (aj (.int 1)))) (bj (ao gtD (aa 4) (aj (.int 0))))) (aT (setM 6 (ao eY (ao dh (aa 4) (aj (.int 7))) (aj (.int 3)))) (setM 4 (ao gA (aa 4) (aj (.int 7))))) bI ⟨weR c n lo rest (some (.int (k:Int))) (some (.int v)),[.lst (l.map D.int)]⟩=.next ⟨weR c n lo rest' (some (.int (k:Int))) (some (.int v')),[.lst (l.map D.int)]⟩/\Sz 40 v':=by
  have t1:bj (ao eqD (ao dh (aa 0) (aj (.int 2))) (aj (.int 1))) ⟨weR c n lo rest (some (.int (k:Int))) (some (.int v)),[.lst (l.map D.int)]⟩=.ok (decide (c%2=1),⟨weR c n lo rest (some (.int (k:Int))) (some (.int v)),[.lst (l.map D.int)]⟩):=eq_test (aJ (af rfl) (au _ _) (dg (by decide)))
  have t2:bj (ao gtD (aa 4) (aj (.int 0))) ⟨weR c n lo rest (some (.int (k:Int))) (some (.int v)),[.lst (l.map D.int)]⟩=.ok (decide (0<rest),⟨weR c n lo rest (some (.int (k:Int))) (some (.int v)),[.lst (l.map D.int)]⟩):=iO (af rfl)
  have ta:=sU t1 t2
  cases hb:(decide (c%2=1)&&decide (0<rest)) with
  | true=>exact⟨rest%7-3,rest/7,gE ta hb (aU (bD (aJ (aJ (af rfl) (au _ _) (dg (by decide))) (au _ _) (iC _ _)) rfl) (bD (aJ (af rfl) (au _ _) (mJ (by decide))) rfl)),by unfold Sz;omega⟩
  | false=>exact⟨v,rest,eW ta hb (cC _),zv⟩
 obtain⟨v',rest',e9,zv'⟩:=e9
 refine⟨max v' lo,rest',some (.int v'), ?_, ?_,by omega⟩
 ·rw[fN]
  refine aU e6 (aU e8 (aU e9 (cy (pV (af rfl) rfl (v3 (af rfl) (af rfl)) rfl (by simp;omega) ?_))))
  rw[List.map_append];rfl
 ·have q:max v' lo=v'\/max v' lo=lo:=by omega
  rcases q with q | q
  ·rw[q];exact zv'
  ·rw[q];exact hlo
theorem zx(c:Int){n:Nat}{lo:Int}(hn:n<=100)(hlo:Sz 40 lo):∃(ws:List Int) (O:aD),fA [.int c,.int (n:Int),.int lo] []=.ok (vI ws,O)/\ws.length=n/\SzL 40 ws/\(0<n->1∈ws)/\(0<=lo->lo<=1->∀a∈ws,0<=a):=by
 obtain⟨s',el,l,rest,x5,x6,hl,hz,hm,hs'⟩:=ee (ok:=okC (cY 0 (n:Int)) none) (g:=aO 5) (body:=fN)
  (λpre s=>∃(l:List Int) (rest:Int) (x5 x6:Option D),l.length=pre.length/\SzL 40 l/\(∀a∈l,lo<=a)/\s=⟨weR c n lo rest x5 x6,[.lst (l.map D.int)]⟩) (λ_ _ _=>trivial) (cY 0 (n:Int)) [] (by
   rintro pre d rest ed s ⟨l,r,x5,x6,h1,h2,h3,rfl⟩
   rw[List.nil_append,iY] at ed
   obtain⟨rfl,hlt⟩:=kF ed
   obtain⟨v,r',y6,eb,zv,lv⟩:=v7 (c:=c) (n:=n) (k:=pre.length) (lo:=lo) (rest:=r) (l:=l) (x6:=x6) hlo (by omega)
   refine⟨_,_,rfl,.inl eb,l++[v],r',_,_,by simp[h1],λz hz=> ?_,λz hz=> ?_,rfl⟩
   ·rcases List.mem_append.mp hz with q | q
    ·exact h2 z q
    ·rw[List.mem_singleton.mp q];exact zv
   ·rcases List.mem_append.mp hz with q | q
    ·exact h3 z q
    ·rw[List.mem_singleton.mp q];exact lv) ⟨weR c n lo (c/2) none none,[.lst []]⟩ ⟨[],_,none,none,rfl,(λ_ h=>by cases h),(λ_ h=>by cases h),rfl⟩
 rw[List.nil_append,ft] at hl
 have hl:l.length=n:=by omega
 have hf:i8 (gf (ae (aa 1) aq)) (aO 5) fN ⟨weR c n lo (c/2) none none,[.lst []]⟩=.next ⟨weR c n lo rest x5 x6,[.lst (l.map D.int)]⟩:=(hU (ds:=cY 0 (n:Int)) (k:=none) (s1:=⟨weR c n lo (c/2) none none,[.lst []]⟩) (gC (n:=n) (aA (af rfl) (aF _)) (by omega))).trans (el.trans (by rw[hs']))
 have ep:∃ws:List Int,ifS (bj (ao gtD (aa 1) (aj (.int 0)))) (m7 (aj (.int 1)) (pP (aa 3) (aK 3 aC (ae (aa 0) (ae (aj (.int 111)) (ae (aa 1) aq)))))) bI ⟨weR c n lo rest x5 x6,[.lst (l.map D.int)]⟩=.next ⟨weR c n lo rest x5 x6,[.lst (ws.map D.int)]⟩/\ws.length=n/\SzL 40 ws/\(0<n->1∈ws)/\(0<=lo->lo<=1->∀a∈ws,0<=a):=by
  have t:bj (ao gtD (aa 1) (aj (.int 0))) ⟨weR c n lo rest x5 x6,[.lst (l.map D.int)]⟩=.ok (decide ((0:Int)<(n:Int)),⟨weR c n lo rest x5 x6,[.lst (l.map D.int)]⟩):=iO (af rfl)
  by_cases h:0<n
  ·obtain⟨a,ha,an⟩:=kP c 111 h
   refine⟨l.set a 1,gE t (decide_eq_true (by omega)) (Di (au _ _) ?_),by rw[List.length_set];exact hl,λx hx=> ?_,λ_=>List.mem_of_getElem? (i:=a) (by rw[List.getElem?_set_self (by omega)]),λl0 _ x hx=> ?_⟩
   ·rw[List.map_set]
    refine wj (k:=0) (a:=a) (ds:=l.map D.int) (s1:=⟨weR c n lo rest x5 x6,[.lst (l.map D.int)]⟩) (s2:=⟨weR c n lo rest x5 x6,[.lst (l.map D.int)]⟩) (af rfl) ?_ rfl (by simp;omega)
    rw[<- ha]
    exact dE (af rfl) (au _ _) (af rfl) (by omega)
   ·rcases List.mem_or_eq_of_mem_set hx with z | rfl
    ·exact hz x z
    ·unfold Sz;decide
   ·rcases List.mem_or_eq_of_mem_set hx with z | rfl
    ·have:=hm x z;omega
    ·decide
  ·exact⟨l,eW t (decide_eq_false (by omega)) (cC _),hl,hz,λq=>absurd q h,λl0 _ x hx=>by have:=hm x hx;omega⟩
 obtain⟨ws,ep,w1,w2,w3,w4⟩:=ep
 refine⟨ws,[.dead], ?_,w1,w2,w3,w4⟩
 refine fK (R:=weR c n lo rest x5 x6) ?_
 show gJ ⟨[some (.int c),some (.int (n:Int)),some (.int lo),none,none,none,none],[]⟩=_
 rw[gJ]
 exact aU (bD (nH (aF _) (by simp) rfl rfl) rfl) (aU (bD (aJ (af rfl) (au _ _) (mJ (by decide))) rfl) (aU hf (aU ep (bZ (qd (af rfl) rfl rfl)))))
theorem ux:∀(a b:List Int),a.length=b.length->((List.range b.length).map λk=>nth a k*nth b k).sum=aH a b
 | [],[],_=>rfl
 | x::a,y::b,h=>by
  have ih:=ux a b (by simpa using h)
  rw[List.length_cons,List.range_succ_eq_map,List.map_cons,List.map_map,List.sum_cons]
  show x*y+((List.range b.length).map λk=>nth a k*nth b k).sum=(x*y::List.zipWith (· * ·) a b).sum
  rw[ih,List.sum_cons]
  rfl
theorem yr:∀(w l:List Int) (a:Nat) (v:Int),a<w.length->a<l.length->aH w (l.set a v)=aH w l+nth w a*(v-nth l a)
 | x::w,y::l,0,v,_,_=>by
  show (x*v::List.zipWith (· * ·) w l).sum=(x*y::List.zipWith (· * ·) w l).sum+x*(v-y)
  rw[List.sum_cons,List.sum_cons,Int.mul_sub]
  omega
 | x::w,y::l,a+1,v,h1,h2=>by
  have ih:=yr w l a v (by simpa using h1) (by simpa using h2)
  show (x*y::List.zipWith (· * ·) w (l.set a v)).sum=(x*y::List.zipWith (· * ·) w l).sum+nth w a*(v-nth l a)
  rw[List.sum_cons,List.sum_cons,show (List.zipWith (· * ·) w (l.set a v)).sum=aH w (l.set a v) from rfl,ih]
  show x*y+(aH w l+_)=x*y+aH w l+_
  omega
structure vt(n:Nat)(ws l:List Int):Prop where
 len:l.length=n
 sz:SzL 110 l
 dot:aH ws l=0
abbrev keR(ns:List Int)(b:Nat)(ws:List Int)(hd:Int)(n:Nat)(w:Bool)(x7 x8 x9 x10:Option D):List (Option D):=[some (vI ns),some (.int (b:Int)),some (vI ws),some (.int hd),some (.int (n:Int)),some (.ptr 0),some (.bl w),x7,x8,x9,x10]
theorem BI{ns ws:List Int}{b n k:Nat}{hd:Int}{w:Bool}{A:List (List Int)}{O:aD}{x8 x9 x10:Option D}(wl:ws.length=n)(hn:n<=100)(wz:SzL 40 ws)(w1:0<n->1∈ws)(hO:O[0]? =some (.lst (A.map vI)))(al:A.length<=1000):
 ∃l O' y8 y9 y10,h8 ⟨keR ns b ws hd n w (some (.int (k:Int))) x8 x9 x10,O⟩=.next ⟨keR ns b ws hd n w (some (.int (k:Int))) y8 y9 y10,O'⟩/\O'[0]? =some (.lst ((A++[l]).map vI))/\vt n ws l:=by
 obtain⟨c,ec,_⟩:=qf ns (b+1+k)
 have hc:aK 2 bL (ae (aa 0) (ae (ao bu (ao bu (aa 1) (aj (.int 1))) (aa 7)) aq)) ⟨keR ns b ws hd n w (some (.int (k:Int))) x8 x9 x10,O⟩=.ok (.int c,⟨keR ns b ws hd n w (some (.int (k:Int))) x8 x9 x10,O⟩):=by
  refine cI (O1:=[]) (aA (af rfl) (aA (aJ (aJ (af rfl) (au _ _) (bU _ _)) (af rfl) (bU _ _)) (aF _))) ?_ (by simp) rfl rfl
  rw[show (b:Int)+1+(k:Int)=((b+1+k:Nat):Int) by omega]
  exact ec
 obtain⟨l,em,ll,lz⟩:=ED (c+13*(k:Int)) w hn
 have e8:setM 8 (qe 3 iV (ae (ao bu (aK 2 bL (ae (aa 0) (ae (ao bu (ao bu (aa 1) (aj (.int 1))) (aa 7)) aq))) (ao ck (aj (.int 13)) (aa 7))) (ae (aa 4) (ae (aa 6) aq)))) ⟨keR ns b ws hd n w (some (.int (k:Int))) x8 x9 x10,O⟩=.next ⟨keR ns b ws hd n w (some (.int (k:Int))) (some (.ptr O.length)) x9 x10,O++[.lst (l.map D.int)]⟩:=by
  refine bD (Ei (aA (aJ hc (aJ (au _ _) (af rfl) (cQ (cW (.inl (by decide))))) (bU _ _)) (aA (af rfl) (aA (af rfl) (aF _)))) em rfl rfl (DU _ _) ?_) rfl
  simp only[List.map_cons,List.map_nil,Eb,uf]
 have hk0:O.length≠0:=by have:=wb hO;omega
 have c8:(O++[Cell.lst (l.map D.int)])[O.length]? =some (.lst (l.map D.int)):=kQ
 have g8:(O++[Cell.lst (l.map D.int)])[0]? =some (.lst (A.map vI)):=mO hO
 generalize O++[Cell.lst (l.map D.int)]=O1 at e8 c8 g8
 generalize O.length=kk at e8 c8 hk0
 have e9:∃l' O2 y9 y10,ifS (bj (ao gtD (aa 4) (aj (.int 0)))) (aT (setM 9 (nE (aa 2) (aj (.int 1)))) (aT (setM 10 (bC mz (ae (cJ 1 [8,2] (gf (ae (aa 4) aq)) (aO 0) cM (ao ck (ao ixD (aa 2) (aa 0)) (ao ixD (aa 1) (aa 0)))) aq))) (m7 (ao eY (ao ixD (aa 8) (aa 9)) (aa 10)) (pP (aa 8) (aa 9))))) bI ⟨keR ns b ws hd n w (some (.int (k:Int))) (some (.ptr kk)) x9 x10,O1⟩=.next ⟨keR ns b ws hd n w (some (.int (k:Int))) (some (.ptr kk)) y9 y10,O2⟩/\O2[kk]? =some (.lst (l'.map D.int))/\O2[0]? =some (.lst (A.map vI))/\vt n ws l':=by
  have t:bj (ao gtD (aa 4) (aj (.int 0))) ⟨keR ns b ws hd n w (some (.int (k:Int))) (some (.ptr kk)) x9 x10,O1⟩=.ok (decide ((0:Int)<(n:Int)),⟨keR ns b ws hd n w (some (.int (k:Int))) (some (.ptr kk)) x9 x10,O1⟩):=iO (af rfl)
  by_cases h:0<n
  ·have m1:=w1 h
   have ia:ws.idxOf 1<ws.length:=List.idxOf_lt_length_of_mem m1
   have iv:nth ws (ws.idxOf 1)=1:=by
    unfold nth
    rw[List.getD_eq_getElem?_getD,List.getElem?_eq_getElem ia,List.getElem_idxOf ia];rfl
   have s1:=bD (i:=9) (Cv (s:=⟨keR ns b ws hd n w (some (.int (k:Int))) (some (.ptr kk)) x9 x10,O1⟩) (mo:=aa 2) (me:=aj (.int 1)) (af rfl) (au _ _) m1) (R':=keR ns b ws hd n w (some (.int (k:Int))) (some (.ptr kk)) (some (.int ((ws.idxOf 1:Nat):Int))) x10) rfl
   generalize ws.idxOf 1=a at s1 ia iv
   have hcp:=fY (l:=List.range n) (item:=λi:Nat=>D.int (i:Int)) (out:=λi=>.int (nth ws i*nth l i)) (caps:=[8,2]) (im:=gf (ae (aa 4) aq)) (e:=ao ck (ao ixD (aa 2) (aa 0)) (ao ixD (aa 1) (aa 0))) (k:=none) (s:=⟨keR ns b ws hd n w (some (.int (k:Int))) (some (.ptr kk)) (some (.int (a:Int))) x10,O1⟩) (by
    rw[<- iY]
    exact gC (aA (af rfl) (aF _)) (by omega)) trivial (by simp;omega) (λi hi=>by
     have hi':=List.mem_range.mp hi
     have ex:ixD O1 (.ptr kk) (.int (i:Int))=.ok (.int (nth l i)):=by
      refine AJ c8 ?_
      rw[oG (by simp;omega)]
      simp[nth,List.getD_eq_getElem?_getD,ll,hi']
     have ew:IntMulOk (nth ws i) (nth l i):=Ay (m:=40) (n:=50) (by decide) (by decide) (wz.nth _) (lz.nth _)
     exact aJ (aJ (af rfl) (af rfl) (DA (by omega))) (aJ (af rfl) (af rfl) ex) (cQ ew))
   rw[show (List.range n).map (λi=>D.int (nth ws i*nth l i))=((List.range n).map λi=>nth ws i*nth l i).map D.int by rw[List.map_map];rfl] at hcp
   have hs:((List.range n).map λi=>nth ws i*nth l i).sum=aH ws l:=by
    have:=ux ws l (by omega)
    rw[ll] at this
    exact this
   have hd2:=dC (f:=mz) (aA hcp (aF _)) (mT _ _)
   rw[hs] at hd2
   have s2:=bD (i:=10) (R':=keR ns b ws hd n w (some (.int (k:Int))) (some (.ptr kk)) (some (.int (a:Int))) (some (.int (aH ws l)))) hd2 rfl
   have dz:Sz 100 (aH ws l):=(A9 (b:=50) (c:=40) wz lz (by omega)).mono (by decide)
   have s3:m7 (ao eY (ao ixD (aa 8) (aa 9)) (aa 10)) (pP (aa 8) (aa 9)) ⟨keR ns b ws hd n w (some (.int (k:Int))) (some (.ptr kk)) (some (.int (a:Int))) (some (.int (aH ws l))),O1⟩=.next ⟨keR ns b ws hd n w (some (.int (k:Int))) (some (.ptr kk)) (some (.int (a:Int))) (some (.int (aH ws l))),O1.set kk (.lst ((l.set a (nth l a-aH ws l)).map D.int))⟩:=by
    have ev:ao eY (ao ixD (aa 8) (aa 9)) (aa 10) ⟨keR ns b ws hd n w (some (.int (k:Int))) (some (.ptr kk)) (some (.int (a:Int))) (some (.int (aH ws l))),O1⟩=.ok (.int (nth l a-aH ws l),⟨keR ns b ws hd n w (some (.int (k:Int))) (some (.ptr kk)) (some (.int (a:Int))) (some (.int (aH ws l))),O1⟩):=by
     have ex:ixD O1 (.ptr kk) (.int (a:Int))=.ok (.int (nth l a)):=by
      refine AJ c8 ?_
      rw[oG (by simp;omega)]
      simp[nth,List.getD_eq_getElem?_getD,show a<l.length by omega]
     exact aJ (aJ (af rfl) (af rfl) ex) (af rfl) (iC _ _)
    refine Di ev ?_
    rw[List.map_set]
    exact wj (k:=kk) (a:=a) (ds:=l.map D.int) (s1:=⟨keR ns b ws hd n w (some (.int (k:Int))) (some (.ptr kk)) (some (.int (a:Int))) (some (.int (aH ws l))),O1⟩) (s2:=⟨keR ns b ws hd n w (some (.int (k:Int))) (some (.ptr kk)) (some (.int (a:Int))) (some (.int (aH ws l))),O1⟩) (af rfl) (af rfl) c8 (by simp;omega)
   have sz:∀x∈l.set a (nth l a-aH ws l),Sz 110 x:=λx hx=>by
    rcases List.mem_or_eq_of_mem_set hx with z | rfl
    ·exact(lz x z).mono (by decide)
    ·exact(Sz.sub (lz _ (pS (by omega))) dz).mono (by decide)
   have dt:aH ws (l.set a (nth l a-aH ws l))=0:=by
    rw[yr _ _ _ _ (by omega) (by omega),iv]
    omega
   have lt:(l.set a (nth l a-aH ws l)).length=n:=by rw[List.length_set];exact ll
   generalize l.set a (nth l a-aH ws l)=l' at s3 sz dt lt
   have c9:(O1.set kk (.lst (l'.map D.int)))[kk]? =some (.lst (l'.map D.int)):=i6 c8
   have g9:(O1.set kk (.lst (l'.map D.int)))[0]? =some (.lst (A.map vI)):=by rw[dc hk0];exact g8
   exact⟨l',O1.set kk (.lst (l'.map D.int)),some (.int (a:Int)),some (.int (aH ws l)),gE t (decide_eq_true (by omega)) (aU s1 (aU s2 s3)),c9,g9,⟨lt,sz,dt⟩⟩
  ·have n0:n=0:=by omega
   refine⟨l,O1,x9,x10,eW t (decide_eq_false (by omega)) (cC _),c8,g8,⟨ll,lz.mono (by decide), ?_⟩⟩
   cases l with
   | nil=>unfold aH;cases ws <;> rfl
   | cons x l=>rw[n0] at ll;cases ll
 obtain⟨l',O2,y9,y10,e9,c9,g9,kp⟩:=e9
 refine⟨l',(O2.set kk .dead).set 0 (.lst (A.map vI++[vI l'])),some (.ptr kk),y9,y10, ?_,(by rw[List.map_append];exact i6 (c':=.lst (A.map vI)) (by rw[dc hk0];exact g9)),kp⟩
 rw[h8]
 exact aU e8 (aU e9 (cy (pV (af rfl) g9 (qd (af rfl) c9 rfl) (by rw[dc hk0];exact g9) (by simp;omega) rfl)))
theorem El(ns:List Int)(b:Nat){ws:List Int}{n:Nat}(wl:ws.length=n)(hn:n<=100)(wz:SzL 40 ws)(w1:0<n->1∈ws):∃(A:List (List Int)) (O:aD),ey [vI ns,.int (b:Int),vI ws] []=.ok (vII A,O)/\A.length<=5/\∀l∈A,vt n ws l:=by
 obtain⟨hd,eh,_⟩:=qf ns b
 have e3:setM 3 (aK 2 bL (ae (aa 0) (ae (aa 1) aq))) ⟨[some (vI ns),some (.int (b:Int)),some (vI ws),none,none,none,none,none,none,none,none],[]⟩=.next ⟨[some (vI ns),some (.int (b:Int)),some (vI ws),some (.int hd),none,none,none,none,none,none,none],[]⟩:=bD (cI (aA (af rfl) (aA (af rfl) (aF _))) eh (by simp) rfl rfl) rfl
 have e4:setM 4 (bC dA (ae (aa 2) aq)) ⟨[some (vI ns),some (.int (b:Int)),some (vI ws),some (.int hd),none,none,none,none,none,none,none],[]⟩=.next ⟨[some (vI ns),some (.int (b:Int)),some (vI ws),some (.int hd),some (.int (n:Int)),none,none,none,none,none,none],[]⟩:=by
  refine bD (dC (aA (af rfl) (aF _)) (fQ _)) ?_
  rw[List.length_map,wl];rfl
 have e6:setM 6 (ao eqD (aK 3 aC (ae (aa 3) (ae (aj (.int 41)) (ae (aj (.int 6)) aq)))) (aj (.int 0))) ⟨[some (vI ns),some (.int (b:Int)),some (vI ws),some (.int hd),some (.int (n:Int)),some (.ptr 0),none,none,none,none,none],[.lst []]⟩=.next ⟨keR ns b ws hd n (decide (bF hd 41 6=0)) none none none none,[.lst []]⟩:=bD (aJ (dE (af rfl) (au _ _) (au _ _) (by decide)) (au _ _) (nq _ _)) rfl
 generalize decide (bF hd 41 6=0)=w at e6
 obtain⟨cnt,hcnt,c5⟩:∃cnt:Nat,bF hd 40 6%(6-2*(if w=true then 1 else 0))=(cnt:Int)/\cnt<=5:=by
  have h0:(0:Int)<6-2*(if w=true then 1 else 0):=by split <;> decide
  have h6:(6:Int)-2*(if w=true then 1 else 0)<=6:=by split <;> decide
  generalize (6:Int)-2*(if w=true then 1 else 0)=m at h0 h6
  have r0:=Int.emod_nonneg (bF hd 40 6) (show m≠0 by omega)
  have r1:=Int.emod_lt_of_pos (bF hd 40 6) h0
  exact⟨(bF hd 40 6%m).toNat,by omega,by omega⟩
 obtain⟨s',el,A,O,x7,x8,x9,x10,hl,hk,hO,hs'⟩:=ee (ok:=okC (cY 0 (cnt:Int)) none) (g:=aO 7) (body:=h8)
  (λpre s=>∃(A:List (List Int)) (O:aD) (x7 x8 x9 x10:Option D),A.length=pre.length/\(∀l∈A,vt n ws l)/\O[0]? =some (.lst (A.map vI))/\s=⟨keR ns b ws hd n w x7 x8 x9 x10,O⟩) (λ_ _ _=>trivial) (cY 0 (cnt:Int)) [] (by
   rintro pre d rest ed s ⟨A,O,x7,x8,x9,x10,h1,h2,h3,rfl⟩
   rw[List.nil_append,iY] at ed
   obtain⟨rfl,hlt⟩:=kF ed
   obtain⟨l,O',y8,y9,y10,eb,h3',kp⟩:=BI (ns:=ns) (b:=b) (k:=pre.length) (hd:=hd) (w:=w) (x8:=x8) (x9:=x9) (x10:=x10) wl hn wz w1 h3 (by omega)
   refine⟨_,_,rfl,.inl eb,A++[l],O',_,_,_,_,by simp[h1],λz hz=> ?_,h3',rfl⟩
   rcases List.mem_append.mp hz with q | q
   ·exact h2 z q
   ·rw[List.mem_singleton.mp q];exact kp) ⟨keR ns b ws hd n w none none none none,[.lst []]⟩ ⟨[],[.lst []],none,none,none,none,rfl,(λ_ h=>by cases h),rfl,rfl⟩
 rw[List.nil_append,ft] at hl
 refine⟨A,O.set 0 .dead, ?_,by omega,hk⟩
 refine fK (R:=keR ns b ws hd n w x7 x8 x9 x10) ?_
 show gI ⟨[some (vI ns),some (.int (b:Int)),some (vI ws),none,none,none,none,none,none,none,none],[]⟩=_
 rw[gI]
 refine aU e3 (aU e4 (aU (bD (nH (aF _) (by simp) rfl rfl) rfl) (aU e6 (aU ?_ (bZ (qd (af rfl) hO rfl))))))
 refine(hU (ds:=cY 0 (cnt:Int)) (k:=none) (s1:=⟨keR ns b ws hd n w none none none none,[.lst []]⟩) (gC (n:=cnt) ?_ (by omega))).trans (el.trans (by rw[hs']))
 rw[<- hcnt]
 refine aA (aJ (dE (af rfl) (au _ _) (au _ _) (by decide)) (aJ (au _ _) (aJ (au _ _) (dC (aA (af rfl) (aF _)) (oJ _)) (cQ (cW (.inl (by decide))))) (iC _ _)) (dg ?_)) (aF _)
 split <;> decide
def m6(l:List (Str×Int))(g:Str)(a:Int):List (Str×Int):=if 0<a then l++[(g,a)] else l
theorem mL(h:Str)(l r:List (Str×Int)):sumOf h (l++r)=sumOf h l+sumOf h r:=by
 unfold sumOf
 rw[List.filter_append,List.map_append,List.sum_append]
theorem Bf(h:Str)(l:List (Str×Int)):sumOf h l.reverse=sumOf h l:=by
 induction l with
 | nil=>rfl
 | cons p l ih=>
  rw[List.reverse_cons,mL,ih,show p::l=[p]++l from rfl,mL,Int.add_comm]
theorem tW(h g:Str)(a:Int):sumOf h [(g,a)]=if g=h then a else 0:=by
 unfold sumOf
 by_cases e:g=h
 ·rw[if_pos e,List.filter_cons_of_pos (by simpa using e)];simp
 ·rw[if_neg e,List.filter_cons_of_neg (by simpa using e)];rfl
theorem Bb{h:Str}{l:List (Str×Int)}(e:∀p∈l,p.1≠h):sumOf h l=0:=by
 unfold sumOf
 rw[List.filter_eq_nil_iff.mpr (λp hp=>by simpa using e p hp)]
 rfl
theorem yg{goods:List Str}(nd:goods.Nodup){i:Nat}(hi:i<goods.length){l:List (Str×Int)}(h:Pt goods i l)(a:Int):Pt goods (i+1) (m6 l goods[i] a):=by
 unfold m6
 split
 ·exact h.more nd hi (by omega)
 ·exact h.same
theorem t4{goods:List Str}(nd:goods.Nodup){i:Nat}(hi:i<goods.length){l:List (Str×Int)}(h:Pt goods i l){a:Int}(ha:0<=a):sumOf goods[i] (m6 l goods[i] a)=a:=by
 have z:sumOf goods[i] l=0:=Bb λp hp e=>by
  have:=h.mem p hp
  rw[e] at this
  exact iW nd hi this
 unfold m6
 split
 ·rw[mL,z,tW,if_pos rfl,Int.zero_add]
 ·rw[z];omega
theorem rR{goods:List Str}(nd:goods.Nodup){i j:Nat}(hi:i<goods.length)(hj:j<i)(l:List (Str×Int))(a:Int):sumOf (goods[j]'(by omega)) (m6 l goods[i] a)=sumOf (goods[j]'(by omega)) l:=by
 have ne:goods[i]≠goods[j]'(by omega):=λe=>by
  have:goods[j]'(by omega)∈goods.take i:=List.mem_of_getElem? (i:=j) (by rw[List.getElem?_take_of_lt hj,List.getElem?_eq_getElem (by omega)])
  exact iW nd hi (by rw[e];exact this)
 unfold m6
 split
 ·rw[mL,tW,if_neg ne,Int.add_zero]
 ·rfl
structure WkI(goods:List Str)(mv:List Int)(i:Nat)(us ms:List (Str×Int)):Prop where
 u:Pt goods i us
 m:Pt goods i ms
 s:∀j,(hj:j<goods.length)->j<i->sumOf goods[j] ms-sumOf goods[j] us=nth mv j
abbrev woR(A:List (List Int))(goods zs:List Str)(c:Int)(x5 x6 x7 x8 x9 x10 x11:Option D):List (Option D):=[some (vII A),some (sD goods),some (sD zs),some (.int c),some (.ptr 0),x5,x6,x7,x8,x9,x10,x11]
theorem zo{O:aD}{l:List Str}{i:Nat}(h:i<l.length):ixD O (sD l) (.int (i:Int))=.ok (.str l[i]):=by
 refine ny ?_
 rw[oG (by simpa using h)]
 simp
theorem wM{R:List (Option D)}{O:aD}{goods:List Str}{kk slot i:Nat}{l:List (Str×Int)}{me:EM}{a:Int}(hi:i<goods.length)(h1:R[1]? =some (some (sD goods)))(h9:R[9]? =some (some (.int (i:Int))))(hs:R[slot]? =some (some (.ptr kk)))(hO:O[kk]? =some (.lst (l.map pD)))(hl:l.length<=1000)(he:me ⟨R,O⟩=.ok (.int a,⟨R,O⟩)):
 ∃O',ifS (bj (ao gtD me (aj (.int 0)))) (de (ki (aa slot) (o3 (ae (ao ixD (aa 1) (aa 9)) (ae me aq))))) bI ⟨R,O⟩=.next ⟨R,O'⟩/\O'[kk]? =some (.lst ((m6 l goods[i] a).map pD))/\∀q,q≠kk->O'[q]? =O[q]? :=by
 have t:=iO (j:=0) he
 unfold m6
 by_cases h:0<a
 ·rw[if_pos h]
  refine⟨O.set kk (.lst (l.map pD++[pD (goods[i],a)])),gE t (decide_eq_true h) (cy (pV (af hs) hO (zp (aA (aJ (af h1) (af h9) (zo hi)) (aA he (aF _))) (by simp)) hO (by simp;omega) rfl)),by rw[i6 hO,List.map_append];rfl,λq hq=>dc λz=>hq z.symm⟩
 ·rw[if_neg h]
  exact⟨O,eW t (decide_eq_false h) (cC _),hO,λ_ _=>rfl⟩
theorem Fb{A:List (List Int)}{goods zs:List Str}{c v:Int}{k i ku km:Nat}{mv:List Int}{us ms:List (Str×Int)}{O:aD}{x11:Option D}(nd:goods.Nodup)(hi:i<goods.length)(hg:goods.length<=100)(hv:nth mv i=v)(hne:ku≠km)(h:WkI goods mv i us ms)(hu:O[ku]? =some (.lst (us.map pD)))(hm:O[km]? =some (.lst (ms.map pD))):
 ∃us' ms' O' y11,gL ⟨woR A goods zs c (some (.int (k:Int))) (some (vI mv)) (some (.ptr ku)) (some (.ptr km)) (some (.int (i:Int))) (some (.int v)) x11,O⟩=.next ⟨woR A goods zs c (some (.int (k:Int))) (some (vI mv)) (some (.ptr ku)) (some (.ptr km)) (some (.int (i:Int))) (some (.int v)) y11,O'⟩/\WkI goods mv (i+1) us' ms'/\O'[ku]? =some (.lst (us'.map pD))/\O'[km]? =some (.lst (ms'.map pD))/\∀q,q≠ku->q≠km->O'[q]? =O[q]? :=by
 have p0:=fR (c:=c+(k:Int)) (t:=70+(i:Int)) (m:=4) (by decide)
 have q0:=fR (c:=c+(k:Int)) (t:=80+(i:Int)) (m:=9) (by decide)
 have p1:=iB (c:=c+(k:Int)) (t:=70+(i:Int)) (m:=4) (by decide)
 have e11:setM 11 (ao ck (ao gA (aK 3 aC (ae (ao bu (aa 3) (aa 5)) (ae (ao bu (aj (.int 70)) (aa 9)) (ae (aj (.int 4)) aq)))) (aj (.int 3))) (ao bu (aj (.int 1)) (aK 3 aC (ae (ao bu (aa 3) (aa 5)) (ae (ao bu (aj (.int 80)) (aa 9)) (ae (aj (.int 9)) aq)))))) ⟨woR A goods zs c (some (.int (k:Int))) (some (vI mv)) (some (.ptr ku)) (some (.ptr km)) (some (.int (i:Int))) (some (.int v)) x11,O⟩=.next ⟨woR A goods zs c (some (.int (k:Int))) (some (vI mv)) (some (.ptr ku)) (some (.ptr km)) (some (.int (i:Int))) (some (.int v)) (some (.int (bF (c+(k:Int)) (70+(i:Int)) 4/3*(1+bF (c+(k:Int)) (80+(i:Int)) 9)))),O⟩:=
  bD (aJ (aJ (dE (aJ (af rfl) (af rfl) (bU _ _)) (aJ (au _ _) (af rfl) (bU _ _)) (au _ _) (by decide)) (au _ _) (qr (by decide) (by decide))) (aJ (au _ _) (dE (aJ (af rfl) (af rfl) (bU _ _)) (aJ (au _ _) (af rfl) (bU _ _)) (au _ _) (by decide)) (bU _ _)) (cQ (cW (.inl (by omega))))) rfl
 have m0:0<=bF (c+(k:Int)) (70+(i:Int)) 4/3*(1+bF (c+(k:Int)) (80+(i:Int)) 9):=Int.mul_nonneg (by omega) (by omega)
 generalize bF (c+(k:Int)) (70+(i:Int)) 4/3*(1+bF (c+(k:Int)) (80+(i:Int)) 9)=m at e11 m0
 have ul:=h.u.len
 have ml:=h.m.len
 obtain⟨O1,e1,g1,k1⟩:=wM (R:=woR A goods zs c (some (.int (k:Int))) (some (vI mv)) (some (.ptr ku)) (some (.ptr km)) (some (.int (i:Int))) (some (.int v)) (some (.int m))) (slot:=7) (me:=ao bu (aa 11) (bC kG (ae (aj (.int 0)) (ae (unM mZ (aa 10)) aq)))) (a:=m+max 0 (-v)) hi rfl rfl rfl hu (by omega) (aJ (af rfl) (v3 (au _ _) (qH (af rfl) (rl _))) (bU _ _))
 obtain⟨O2,e2,g2,k2⟩:=wM (R:=woR A goods zs c (some (.int (k:Int))) (some (vI mv)) (some (.ptr ku)) (some (.ptr km)) (some (.int (i:Int))) (some (.int v)) (some (.int m))) (O:=O1) (slot:=8) (me:=ao bu (aa 11) (bC kG (ae (aj (.int 0)) (ae (aa 10) aq)))) (a:=m+max 0 v) (l:=ms) hi rfl rfl rfl (by rw[k1 _ hne.symm];exact hm) (by omega) (aJ (af rfl) (v3 (au _ _) (af rfl)) (bU _ _))
 refine⟨m6 us goods[i] (m+max 0 (-v)),m6 ms goods[i] (m+max 0 v),O2,some (.int m), ?_,⟨yg nd hi h.u _,yg nd hi h.m _,λj hj hlt=> ?_⟩,by rw[k2 _ hne];exact g1,g2,λq h1 h2=>by rw[k2 q h2,k1 q h1]⟩
 ·rw[gL]
  exact aU e11 (aU e1 e2)
 ·by_cases e:j=i
  ·subst e
   rw[t4 nd hi h.m (by omega),t4 nd hi h.u (by omega),hv]
   omega
  ·rw[rR nd hi (by omega),rR nd hi (by omega)]
   exact h.s j hj (by omega)
theorem Cy{m:EM}{s:S}{R:List (Option D)}{O:aD}{k:Nat}{ds:List D}(h:m s=.ok (.ptr k,⟨R,O⟩))(hc:O[k]? =some (.lst ds)):wN m s=.ok (.lst ds,⟨R,O.set k .dead⟩):=by
 rw[yy,h,ak]
 dsimp only
 rw[jv hc]
theorem BR{m:EM}{s s1:S}{ds:List D}(h:m s=.ok (.lst ds,s1)):wN m s=.ok (.lst ds,s1):=by
 rw[yy,h,ak]
 rfl
structure zu(goods:List Str)(w:Wk):Prop where
 us:i4 goods w.us/\w.us.length<=100
 ms:i4 goods w.ms/\w.ms.length<=100
theorem CP{A:List (List Int)}{goods zs:List Str}{c:Int}{k:Nat}{mv:List Int}{W:List Wk}{O:aD}{x7 x8 x9 x10 x11:Option D}(nd:goods.Nodup)(hg:goods.length<=100)(hk:k<zs.length)(hl:mv.length=goods.length)(wl:W.length<=1000)(hO:O[0]? =some (.lst (W.map wD))):
 ∃w O' y7 y8 y9 y10 y11,gM ⟨woR A goods zs c (some (.int (k:Int))) (some (vI mv)) x7 x8 x9 x10 x11,O⟩=.next ⟨woR A goods zs c (some (.int (k:Int))) (some (vI mv)) y7 y8 y9 y10 y11,O'⟩/\O'[0]? =some (.lst ((W++[w]).map wD))/\w.nm=zs[k]/\zu goods w/\goods.map (chg w)=mv:=by
 have o0:0<O.length:=wb hO
 have e7:setM 7 (jy aq) ⟨woR A goods zs c (some (.int (k:Int))) (some (vI mv)) x7 x8 x9 x10 x11,O⟩=.next ⟨woR A goods zs c (some (.int (k:Int))) (some (vI mv)) (some (.ptr O.length)) x8 x9 x10 x11,O++[.lst []]⟩:=bD (nH (aF _) (by simp) rfl rfl) rfl
 have e8:setM 8 (jy aq) ⟨woR A goods zs c (some (.int (k:Int))) (some (vI mv)) (some (.ptr O.length)) x8 x9 x10 x11,O++[.lst []]⟩=.next ⟨woR A goods zs c (some (.int (k:Int))) (some (vI mv)) (some (.ptr O.length)) (some (.ptr (O.length+1))) x9 x10 x11,O++[.lst []]++[.lst []]⟩:=bD (nH (aF _) (by simp) (by simp) rfl) rfl
 have cu:(O++[Cell.lst []]++[Cell.lst []])[O.length]? =some (.lst (([]:List (Str×Int)).map pD)):=mO kQ
 have cm:(O++[Cell.lst []]++[Cell.lst []])[O.length+1]? =some (.lst (([]:List (Str×Int)).map pD)):=by
  have:=kQ (O:=O++[Cell.lst []]) (c:=Cell.lst [])
  rw[List.length_append] at this
  exact this
 have c0:(O++[Cell.lst []]++[Cell.lst []])[0]? =some (.lst (W.map wD)):=mO (mO hO)
 generalize O++[Cell.lst []]++[Cell.lst []]=O1 at e8 cu cm c0
 obtain⟨ku,hku⟩:∃ku,O.length=ku:=⟨_,rfl⟩
 rw[hku] at e7 e8 cu cm o0
 have hne:ku≠ku+1:=by omega
 obtain⟨s',el,us,ms,O2,x9',x10',x11',hw,hu,hm,h0,hs'⟩:=ee (ok:=okC (et (mv.map D.int)) none) (g:=d7 (bA (aO 9) (bA (aO 10) eD)) 2) (body:=gL)
  (λpre s=>∃(us ms:List (Str×Int)) (O2:aD) (x9 x10 x11:Option D),WkI goods mv pre.length us ms/\O2[ku]? =some (.lst (us.map pD))/\O2[ku+1]? =some (.lst (ms.map pD))/\O2[0]? =some (.lst (W.map wD))/\s=⟨woR A goods zs c (some (.int (k:Int))) (some (vI mv)) (some (.ptr ku)) (some (.ptr (ku+1))) x9 x10 x11,O2⟩) (λ_ _ _=>trivial) (et (mv.map D.int)) [] (by
   rintro pre d rest ed s ⟨us,ms,O2,x9,x10,x11,h1,h2,h3,h4,rfl⟩
   rw[List.nil_append,kU] at ed
   obtain⟨hlt,rfl⟩:=lY ed
   obtain⟨us',ms',O3,y11,eb,h1',h2',h3',h4'⟩:=Fb (A:=A) (goods:=goods) (zs:=zs) (c:=c) (v:=mv[pre.length]) (k:=k) (i:=pre.length) (ku:=ku) (km:=ku+1) (mv:=mv) (us:=us) (ms:=ms) (O:=O2) (x11:=x11) nd (by omega) hg (by
    unfold nth
    rw[List.getD_eq_getElem?_getD,List.getElem?_eq_getElem hlt];rfl) hne h1 h2 h3
   refine⟨_,_,by rw[ou];rfl,.inl eb,us',ms',O3,_,_,_, ?_,h2',h3',by rw[h4' 0 (by omega) (by omega)];exact h4,rfl⟩
   rw[List.length_append,List.length_singleton];exact h1') ⟨woR A goods zs c (some (.int (k:Int))) (some (vI mv)) (some (.ptr ku)) (some (.ptr (ku+1))) x9 x10 x11,O1⟩ ⟨[],[],O1,x9,x10,x11,⟨⟨by simp,by simp,by simp,by simp⟩,⟨by simp,by simp,by simp,by simp⟩,λj _ h=>absurd h (by simp)⟩,cu,cm,c0,rfl⟩
 rw[List.nil_append,show (et (mv.map D.int)).length=goods.length by rw[kU];simp[hl]] at hw
 have hf:i8 (gF (ae (aa 6) aq)) (d7 (bA (aO 9) (bA (aO 10) eD)) 2) gL ⟨woR A goods zs c (some (.int (k:Int))) (some (vI mv)) (some (.ptr ku)) (some (.ptr (ku+1))) x9 x10 x11,O1⟩=.next ⟨woR A goods zs c (some (.int (k:Int))) (some (vI mv)) (some (.ptr ku)) (some (.ptr (ku+1))) x9' x10' x11',O2⟩:=by
  refine(hU (ds:=et (mv.map D.int)) (k:=none) (s1:=⟨woR A goods zs c (some (.int (k:Int))) (some (vI mv)) (some (.ptr ku)) (some (.ptr (ku+1))) x9 x10 x11,O1⟩) ?_).trans (el.trans (by rw[hs']))
  rw[lb,aA (af rfl) (aF _),ak]
 have chgs:∀us':List (Str×Int),(∀g,sumOf g us'=sumOf g us)->goods.map (chg ⟨zs[k],us',ms⟩)=mv:=λus' hs=>by
  refine List.ext_getElem (by simp[hl]) λj h1 h2=> ?_
  have hj:j<goods.length:=by simpa using h1
  rw[List.getElem_map]
  show sumOf goods[j] ms-sumOf goods[j] us'=_
  rw[hs,hw.s j hj hj]
  unfold nth
  rw[List.getD_eq_getElem?_getD,List.getElem?_eq_getElem h2];rfl
 have ulen:=hw.u.len
 have mlen:=hw.m.len
 have t:bj (ao eqD (aK 3 aC (ae (ao bu (aa 3) (aa 5)) (ae (aj (.int 90)) (ae (aj (.int 2)) aq)))) (aj (.int 1))) ⟨woR A goods zs c (some (.int (k:Int))) (some (vI mv)) (some (.ptr ku)) (some (.ptr (ku+1))) x9' x10' x11',O2⟩=.ok (decide (bF (c+(k:Int)) 90 2=1),⟨woR A goods zs c (some (.int (k:Int))) (some (vI mv)) (some (.ptr ku)) (some (.ptr (ku+1))) x9' x10' x11',O2⟩):=eq_test (dE (aJ (af rfl) (af rfl) (bU _ _)) (au _ _) (au _ _) (by decide))
 generalize bF (c+(k:Int)) 90 2=p at t
 by_cases hp:p=1
 ·have er:wk ze (aa 7) eH eH (part (unM mZ (aj (.int 1)))) ⟨woR A goods zs c (some (.int (k:Int))) (some (vI mv)) (some (.ptr ku)) (some (.ptr (ku+1))) x9' x10' x11',O2⟩=.ok (psD us.reverse,⟨woR A goods zs c (some (.int (k:Int))) (some (vI mv)) (some (.ptr ku)) (some (.ptr (ku+1))) x9' x10' x11',O2⟩):=by
   unfold wk
   rw[af (i:=7) rfl,ak]
   dsimp only
   rw[kh,ak]
   dsimp only
   rw[kh,ak]
   dsimp only
   rw[mx (qH (au _ _) (rl _)),ak]
   dsimp only
   rw[pR hu]
   dsimp only
   rw[if_neg (by decide),BX,<- List.map_reverse]
   rfl
  refine⟨⟨zs[k],us.reverse,ms⟩,(O2.set (ku+1) .dead).set 0 (.lst (W.map wD++[wD ⟨zs[k],us.reverse,ms⟩])),some (psD us.reverse),some (.ptr (ku+1)),x9',x10',x11', ?_,(by rw[List.map_append];exact i6 (c':=.lst (W.map wD)) (by rw[dc (by omega)];exact h0)),rfl,⟨⟨hw.u.parts.rev,by simp;omega⟩,⟨hw.m.parts,by show ms.length<=100;omega⟩⟩,chgs _ λg=>Bf g us⟩
  rw[gM]
  refine aU e7 (aU e8 (aU hf (aU (gE t (decide_eq_true hp) (bD (R':=woR A goods zs c (some (.int (k:Int))) (some (vI mv)) (some (psD us.reverse)) (some (.ptr (ku+1))) x9' x10' x11') er rfl)) (cy (pV (af rfl) h0 (zp (aA (aJ (af rfl) (af rfl) (zo hk)) (aA (BR (af rfl)) (aA (qd (af rfl) hm rfl) (aF _)))) (by simp)) (by rw[dc (by omega)];exact h0) (by simp;omega) rfl)))))
 ·refine⟨⟨zs[k],us,ms⟩,((O2.set ku .dead).set (ku+1) .dead).set 0 (.lst (W.map wD++[wD ⟨zs[k],us,ms⟩])),some (.ptr ku),some (.ptr (ku+1)),x9',x10',x11', ?_,(by rw[List.map_append];exact i6 (c':=.lst (W.map wD)) (by rw[dc (by omega),dc (by omega)];exact h0)),rfl,⟨⟨hw.u.parts,by show us.length<=100;omega⟩,⟨hw.m.parts,by show ms.length<=100;omega⟩⟩,chgs _ λg=>rfl⟩
  rw[gM]
  refine aU e7 (aU e8 (aU hf (aU (eW t (decide_eq_false hp) (cC _)) (cy (pV (af rfl) h0 (zp (aA (aJ (af rfl) (af rfl) (zo hk)) (aA (Cy (af rfl) hu) (aA (qd (af rfl) (by rw[dc (by omega)];exact hm) rfl) (aF _)))) (by simp)) (by rw[dc (by omega),dc (by omega)];exact h0) (by simp;omega) rfl)))))
theorem A5{A:List (List Int)}{goods zs:List Str}(c:Int)(nd:goods.Nodup)(hg:goods.length<=100)(ha:∀l∈A,l.length=goods.length)(hz:A.length<=zs.length)(al:A.length<=100):
 ∃ws O,fT [vII A,sD goods,sD zs,.int c] []=.ok (wsD ws,O)/\ws.map (·.nm)=zs.take A.length/\(∀w∈ws,zu goods w)/\ws.map (λw=>goods.map (chg w))=A:=by
 obtain⟨s',el,W,O,x5,x6,x7,x8,x9,x10,x11,h1,h2,h3,hO,hs'⟩:=ee (ok:=okC (et (A.map vI)) none) (g:=d7 (bA (aO 5) (bA (aO 6) eD)) 2) (body:=gM)
  (λpre s=>∃(W:List Wk) (O:aD) (x5 x6 x7 x8 x9 x10 x11:Option D),W.map (·.nm)=zs.take pre.length/\(∀w∈W,zu goods w)/\W.map (λw=>goods.map (chg w))=A.take pre.length/\O[0]? =some (.lst (W.map wD))/\s=⟨woR A goods zs c x5 x6 x7 x8 x9 x10 x11,O⟩) (λ_ _ _=>trivial) (et (A.map vI)) [] (by
   rintro pre d rest ed s ⟨W,O,x5,x6,x7,x8,x9,x10,x11,h1,h2,h3,h4,rfl⟩
   rw[List.nil_append,kU] at ed
   obtain⟨hlt,rfl⟩:=lY ed
   have wl:W.length<=1000:=by
    have:=congrArg List.length h3
    simp at this
    omega
   obtain⟨w,O',y7,y8,y9,y10,y11,eb,h4',n1,mk,ch⟩:=CP (A:=A) (goods:=goods) (zs:=zs) (c:=c) (k:=pre.length) (mv:=A[pre.length]) (W:=W) (O:=O) (x7:=x7) (x8:=x8) (x9:=x9) (x10:=x10) (x11:=x11) nd hg (by omega) (ha _ (List.getElem_mem _)) wl h4
   refine⟨_,_,by rw[ou];rfl,.inl eb,W++[w],O',_,_,_,_,_,_,_, ?_,λz hz'=> ?_, ?_,h4',rfl⟩
   ·rw[List.length_append,List.length_singleton,List.map_append,h1,List.map_cons,List.map_nil,n1,List.take_add_one,List.getElem?_eq_getElem (by omega)];rfl
   ·rcases List.mem_append.mp hz' with q | q
    ·exact h2 z q
    ·rw[List.mem_singleton.mp q];exact mk
   ·rw[List.length_append,List.length_singleton,List.map_append,h3,List.map_cons,List.map_nil,ch,List.take_add_one,List.getElem?_eq_getElem hlt];rfl) ⟨woR A goods zs c none none none none none none none,[.lst []]⟩ ⟨[],[.lst []],none,none,none,none,none,none,none,by simp,by simp,by simp,rfl,rfl⟩
 have len:(([]:List D)++et (A.map vI)).length=A.length:=by rw[List.nil_append,kU];simp
 rw[len] at h1 h3
 rw[List.take_length] at h3
 refine⟨W,O.set 0 .dead, ?_,h1,h2,h3⟩
 refine fK (R:=woR A goods zs c x5 x6 x7 x8 x9 x10 x11) ?_
 show ji ⟨[some (vII A),some (sD goods),some (sD zs),some (.int c),none,none,none,none,none,none,none,none],[]⟩=_
 rw[ji]
 refine aU (bD (R':=woR A goods zs c none none none none none none none) (nH (aF _) (by simp) rfl rfl) rfl) (aU ?_ (bZ (qd (af rfl) hO rfl)))
 refine(hU (ds:=et (A.map vI)) (k:=none) (s1:=⟨woR A goods zs c none none none none none none none,[.lst []]⟩) ?_).trans (el.trans (by rw[hs']))
 rw[lb,aA (af rfl) (aF _),ak];rfl
theorem C7{goods:List Str}{ws:List Wk}{f:Str}{d:D}{R:List (Option D)}{O:aD}{i:Nat}(h:R[i]? =some (some (yD goods ws)))(hd:oM f FN (yDs goods ws)=some d):pF 0 f (aa i) ⟨R,O⟩=.ok (d,⟨R,O⟩):=Hw (af h) hd
theorem Ef(goods:List Str)(ws:List Wk):aI [yD goods ws]=true:=by
 show (aI (yDs goods ws)&&true)=true
 rw[kr];rfl
theorem pU(goods:List Str)(ws:List Wk){ds:List D}(h:aI ds=true):aI (yD goods ws::ds)=true:=by
 show (aI (yDs goods ws)&&aI ds)=true
 rw[kr,h];rfl
theorem uy(goods:List Str)(ws:List Wk):iE [yD goods ws] []=.ok (sD goods,[]):=by
 refine fK (R:=[some (yD goods ws)]) ?_
 show ip ⟨[some (yD goods ws)],[]⟩=_
 rw[ip]
 exact bZ (dC (aA (C7 rfl rfl) (aF _)) (iw _))
theorem Bt(goods:List Str){ws:List Wk}(h:ws.length<=1000):gh [yD goods ws] []=.ok (sD (ws.map (·.nm)),[]):=by
 refine fK (R:=[some (yD goods ws)]) ?_
 show iG ⟨[some (yD goods ws)],[]⟩=_
 rw[iG]
 have e:=fY (l:=ws) (item:=wD) (out:=λw=>.str w.nm) (caps:=[]) (im:=listI (pF 0 "held_works" (aa 0))) (e:=ao ixD (aa 0) (aj (.int 0))) (k:=none) (s:=⟨[some (yD goods ws)],[]⟩) (by rw[eC,C7 (i:=0) rfl rfl,ak];rfl) trivial (by omega) (λw _=>aJ (af rfl) (au _ _) rfl)
 rw[show ws.map (λw=>D.str w.nm)=(ws.map (·.nm)).map D.str by rw[List.map_map];rfl] at e
 exact bZ e
abbrev chL(goods:List Str)(ws:List Wk):List (List Int):=ws.map λw=>goods.map (chg w)
theorem zJ(goods:List Str){ws:List Wk}{k:Nat}(h:k<ws.length):fq [yD goods ws,.int (k:Int)] []=.ok (vI ((chL goods ws).getD k []),[]):=by
 refine fK (R:=[some (yD goods ws),some (.int (k:Int))]) ?_
 show gN ⟨[some (yD goods ws),some (.int (k:Int))],[]⟩=_
 rw[gN]
 exact bZ (dC (aA (aJ (C7 rfl rfl) (af rfl) (FE (R:=chL goods ws) (by simpa using h))) (aF _)) (iw _))
theorem range_getD{α:Type}(l:List α)(d:α):(List.range l.length).map (λi=>l.getD i d)=l:=by
 refine List.ext_getElem (by simp) λi h1 h2=> ?_
 simp[List.getD_eq_getElem?_getD,h2]
theorem zT(goods:List Str){ws:List Wk}(h:ws.length<=1000):iI [yD goods ws] []=.ok (vII (chL goods ws),[]):=by
 refine fK (R:=[some (yD goods ws)]) ?_
 show kX ⟨[some (yD goods ws)],[]⟩=_
 rw[kX]
 have e:=fY (l:=List.range ws.length) (item:=λi:Nat=>D.int (i:Int)) (out:=λi=>vI ((chL goods ws).getD i [])) (caps:=[0]) (im:=gf (ae (bC dA (ae (methP 0 "names" 0 gh (aa 0) aq) aq)) aq)) (e:=methP 0 "change" 1 fq (aa 1) (ae (aa 0) aq)) (k:=none) (s:=⟨[some (yD goods ws)],[]⟩) (by
  rw[<- iY]
  refine gC (aA (dC (aA (qc (ns:=FN) (ds:=yDs goods ws) (args:=[]) (af rfl) (aF _) (Bt goods h) (by decide) (kr _ _) rfl rfl (cq _)) (aF _)) ?_) (aF _)) (by omega)
  rw[fQ];simp) trivial (by simp;omega) (λi hi=>qc (ns:=FN) (ds:=yDs goods ws) (args:=[.int (i:Int)]) (af rfl) (aA (af rfl) (aF _)) (zJ goods (List.mem_range.mp hi)) (by decide) (kr _ _) rfl rfl (by simp))
 rw[show (List.range ws.length).map (λi=>vI ((chL goods ws).getD i []))=(chL goods ws).map vI by
  have:=range_getD (chL goods ws) []
  rw[List.length_map] at this
  conv=>rhs;rw[<- this]
  rw[List.map_map];rfl] at e
 exact bZ e
theorem Gv{f:Op2}{mo mi me:EM}{s s1 s2:S}{R:List (Option D)}{O:aD}{k i:Nat}{ds es:List D}{z w d:D}(h1:mo s=.ok (.ptr k,s1))(h2:mi s1=.ok (.int (i:Int),s2))(c1:s2.o[k]? =some (.lst ds))(hz:ds[i]? =some z)(h3:me s2=.ok (w,⟨R,O⟩))(hf:f O z w=.ok d)(c2:O[k]? =some (.lst es))(hi:i<es.length):rD f mo mi me s=.next ⟨R,O.set k (.lst (es.set i d))⟩:=by
 unfold rD
 rw[h1,iD]
 dsimp only
 rw[h2,iD]
 dsimp only
 rw[if_pos (by omega),jv c1]
 dsimp only
 rw[Int.toNat_natCast,hz]
 dsimp only
 rw[h3,iD]
 dsimp only
 rw[hf,iD,jv c2]
 dsimp only
 have e:ixN es.length (i:Int)=some i:=by
  unfold ixN
  rw[if_pos (by omega),if_pos (by omega)]
  simp
 rw[e]
theorem Bz{a b:List Int}(hl:a.length<=1000000)(hm:∀p∈a.zip b,IntMulOk p.1 p.2):cf [vI a,vI b] []=.ok (.int (aH a b),[]):=by
 have hz:(a.zip b).length<=1000000:=by rw[List.length_zip];omega
 have hc:=AX (l:=a.zip b) (f:=λp=>.int p.1) (g:=λp=>.int p.2) (out:=λp=>.int (p.1*p.2)) (caps:=[]) (im:=nL (ae (aa 0) (ae (aa 1) aq))) (e:=ao ck (aa 0) (aa 1)) (k:=none) (s:=⟨[some (vI a),some (vI b)],[]⟩) (by simp[uz]) trivial (by omega) (λp hp=>by
  simp[cQ (hm p hp)])
 rw[show (a.zip b).map (λp=>D.int (p.1*p.2))=(List.zipWith (· * ·) a b).map D.int by rw[<- yo];simp] at hc
 refine fP (s:=⟨[some (vI a),some (vI b)],[]⟩) ?_
 show cV ⟨[some (vI a),some (vI b)],[]⟩=_
 rw[cV]
 refine bZ ?_
 rw[iQ,aY,hc,ak,aF,ak,ak]
 dsimp only
 rw[mT,ak]
 rfl
theorem cw_ok{goods:List Str}{ws:List Wk}{x:List Int}(h:x.length=goods.length):cF [yD goods ws,vI x] []=.ok (.non,[]):=by
 refine D8 (s:=⟨[some (yD goods ws),some (vI x)],[]⟩) ?_
 show cE ⟨[some (yD goods ws),some (vI x)],[]⟩=_
 rw[cE]
 refine eW (j1 (aJ (dC (aA (af rfl) (aF _)) (fQ _)) (dC (aA (qc (ns:=FN) (ds:=yDs goods ws) (args:=[]) (af rfl) (aF _) (uy goods ws) (by decide) (kr _ _) rfl rfl (cq _)) (aF _)) (fQ _)) (tN _ _))) ?_ (cC _)
 rw[List.length_map,List.length_map,h];simp
theorem cw_bad{goods:List Str}{ws:List Wk}{x:List Int}(h:x.length≠goods.length):∃s,cF [yD goods ws,vI x] []=.exc 1 .non s:=by
 refine⟨_,qI (s:=⟨[some (yD goods ws),some (vI x)],[]⟩) ?_⟩
 show cE ⟨[some (yD goods ws),some (vI x)],[]⟩=_
 rw[cE]
 refine gE (j1 (aJ (dC (aA (af rfl) (aF _)) (fQ _)) (dC (aA (qc (ns:=FN) (ds:=yDs goods ws) (args:=[]) (af rfl) (aF _) (uy goods ws) (by decide) (kr _ _) rfl rfl (cq _)) (aF _)) (fQ _)) (tN _ _))) ?_ (x_raise (aA (au _ _) (aF _)) (by simp))
 rw[List.length_map,List.length_map,decide_eq_false (by omega)];rfl
theorem jF(goods:List Str)(ws:List Wk)(x:List Int):aI [yD goods ws,vI x]=true:=pU _ _ (by simp)
theorem nU(goods:List Str)(ws:List Wk)(x y:List Int):aI [yD goods ws,vI x,vI y]=true:=pU _ _ (by simp)
theorem z4{goods:List Str}{ws:List Wk}{x y:List Int}(h:x.length=goods.length)(hg:goods.length<=1000)(hm:∀p∈x.zip y,IntMulOk p.1 p.2):iu [yD goods ws,vI x,vI y] []=.ok (.int (aH x y),[]):=by
 refine vy (s:=⟨[some (yD goods ws),some (vI x),some (vI y)],[]⟩) ?_
 show iK ⟨[some (yD goods ws),some (vI x),some (vI y)],[]⟩=_
 rw[iK]
 exact aU (cy (nR (aA (af rfl) (aA (af rfl) (aF _))) (jF _ _ _) rfl (cw_ok h) rfl)) (bZ (cI (aA (af rfl) (aA (af rfl) (aF _))) (Bz (by omega) hm) (by simp) rfl rfl))
theorem xR{goods:List Str}{ws:List Wk}{x y:List Int}(h:x.length≠goods.length):∃s,iu [yD goods ws,vI x,vI y] []=.exc 1 .non s:=by
 obtain⟨s,e⟩:=cw_bad (ws:=ws) h
 refine⟨_,qI (s:=⟨[some (yD goods ws),some (vI x),some (vI y)],[]⟩) ?_⟩
 show iK ⟨[some (yD goods ws),some (vI x),some (vI y)],[]⟩=_
 rw[iK]
 exact DD (yG (mU (aA (af rfl) (aA (af rfl) (aF _))) (jF _ _ _) rfl e))
def mV(A:List (List Int))(x:List Int):Bool:=A.all λl=>decide (aH x l=0)
theorem Eo{goods:List Str}{ws:List Wk}{x:List Int}(h:x.length=goods.length)(hg:goods.length<=1000)(hw:ws.length<=1000)(hm:∀l∈chL goods ws,∀p∈x.zip l,IntMulOk p.1 p.2):ix [yD goods ws,vI x] []=.ok (.bl (mV (chL goods ws) x),[]):=by
 refine vy (s:=⟨[some (yD goods ws),some (vI x)],[]⟩) ?_
 show iA ⟨[some (yD goods ws),some (vI x)],[]⟩=_
 rw[iA]
 have ech:aK 1 iI (ae (aa 0) aq) ⟨[some (yD goods ws),some (vI x)],[]⟩=.ok (vII (chL goods ws),⟨[some (yD goods ws),some (vI x)],[]⟩):=cI (aA (af rfl) (aF _)) (zT goods hw) (Ef _ _) rfl (by rw[ir,jL])
 have e:=fY (l:=chL goods ws) (item:=vI) (out:=λl=>.bl (decide (aH x l=0))) (caps:=[1]) (im:=listI (aK 1 iI (ae (aa 0) aq))) (e:=ao eqD (aK 2 cf (ae (aa 1) (ae (aa 0) aq))) (aj (.int 0))) (k:=none) (s:=⟨[some (yD goods ws),some (vI x)],[]⟩) (by rw[eC,ech,ak];rfl) trivial (by simp;omega) (λl hl=>aJ (cI (aA (af rfl) (aA (af rfl) (aF _))) (Bz (by omega) (hm l hl)) (by simp) rfl rfl) (au _ _) (nq _ _))
 have mm:∀B:List (List Int),B.map (λl=>D.bl (decide (aH x l=0)))=(B.map λl=>decide (aH x l=0)).map D.bl:=λB=>by rw[List.map_map];rfl
 rw[mm] at e
 refine aU (cy (nR (aA (af rfl) (aA (af rfl) (aF _))) (jF _ _ _) rfl (cw_ok h) rfl)) (bZ (dC (aA e (aF _)) ?_))
 rw[qO,List.all_map]
 rfl
theorem BP{goods:List Str}{ws:List Wk}{x:List Int}(h:x.length≠goods.length):∃s,ix [yD goods ws,vI x] []=.exc 1 .non s:=by
 obtain⟨s,e⟩:=cw_bad (ws:=ws) h
 refine⟨_,qI (s:=⟨[some (yD goods ws),some (vI x)],[]⟩) ?_⟩
 show iA ⟨[some (yD goods ws),some (vI x)],[]⟩=_
 rw[iA]
 exact DD (yG (mU (aA (af rfl) (aA (af rfl) (aF _))) (jF _ _ _) rfl e))
theorem yf:dJ [.exn 1] []=.ok (.str ("weights" :Str),[]):=by
 refine fK (R:=[some (.exn 1)]) ?_
 show eB ⟨[some (.exn 1)],[]⟩=_
 rw[eB]
 exact aU (eW (j1 (zB (af rfl) rfl)) rfl (cC _)) (bZ (aJ (n4 (aA (au _ _) (aA (au _ _) (aF _))) (by simp)) (dC (aA (tI (p:=true) (zB (af rfl) rfl) rfl (zB (b:=true) (af rfl) rfl)) (aF _)) (oJ _)) (zI _ _ _)))
theorem Hx{goods:List Str}{ws:List Wk}{x y:List Int}{O:aD}(e:iu [yD goods ws,vI x,vI y] []=.ok (.int (aH x y),O)):dO [yD goods ws,vI x,vI y] []=.ok (.int (aH x y),[]):=by
 refine fK (R:=[some (yD goods ws),some (vI x),some (vI y),none]) ?_
 show eE ⟨[some (yD goods ws),some (vI x),some (vI y),none],[]⟩=_
 rw[eE]
 exact Bs (bZ (nR (aA (af rfl) (aA (af rfl) (aA (af rfl) (aF _)))) (nU _ _ _ _) rfl e rfl))
theorem GN{goods:List Str}{ws:List Wk}{x y:List Int}(h:x.length≠goods.length):dO [yD goods ws,vI x,vI y] []=.ok (.str ("weights" :Str),[]):=by
 obtain⟨s,e⟩:=xR (ws:=ws) (y:=y) h
 refine fK (R:=[some (yD goods ws),some (vI x),some (vI y),some (.exn 1)]) ?_
 show eE ⟨[some (yD goods ws),some (vI x),some (vI y),none],[]⟩=_
 rw[eE]
 exact A0 (AN (mU (aA (af rfl) (aA (af rfl) (aA (af rfl) (aF _)))) (nU _ _ _ _) rfl e)) (Dr rfl (Dl (bZ (cI (aA (af rfl) (aF _)) yf rfl rfl rfl))))
theorem Hv{goods:List Str}{ws:List Wk}{x:List Int}{b:Bool}{O:aD}(e:ix [yD goods ws,vI x] []=.ok (.bl b,O)):dM [yD goods ws,vI x] []=.ok (.bl b,[]):=by
 refine fK (R:=[some (yD goods ws),some (vI x),none]) ?_
 show eG ⟨[some (yD goods ws),some (vI x),none],[]⟩=_
 rw[eG]
 exact Bs (bZ (nR (aA (af rfl) (aA (af rfl) (aF _))) (jF _ _ _) rfl e rfl))
theorem GK{goods:List Str}{ws:List Wk}{x:List Int}(h:x.length≠goods.length):dM [yD goods ws,vI x] []=.ok (.str ("weights" :Str),[]):=by
 obtain⟨s,e⟩:=BP (ws:=ws) h
 refine fK (R:=[some (yD goods ws),some (vI x),some (.exn 1)]) ?_
 show eG ⟨[some (yD goods ws),some (vI x),none],[]⟩=_
 rw[eG]
 exact A0 (AN (mU (aA (af rfl) (aA (af rfl) (aF _))) (jF _ _ _) rfl e)) (Dr rfl (Dl (bZ (cI (aA (af rfl) (aF _)) yf rfl rfl rfl))))
theorem FI{i j:Nat}{a b:List Int}{s:S}(h1:s.r[i]? =some (some (vI a)))(h2:s.r[j]? =some (some (vI b)))(hl:a.length<=1000000)(hm:∀p∈a.zip b,IntMulOk p.1 p.2):bC mz (ae (cJ 2 [] (nL (ae (aa i) (ae (aa j) aq))) (d7 (bA (aO 0) (bA (aO 1) eD)) 2) cM (ao ck (aa 0) (aa 1))) aq) s=.ok (.int (aH a b),s):=by
 have hz:(a.zip b).length<=1000000:=by rw[List.length_zip];omega
 have hc:=AX (l:=a.zip b) (f:=λp=>.int p.1) (g:=λp=>.int p.2) (out:=λp=>.int (p.1*p.2)) (caps:=[]) (im:=nL (ae (aa i) (ae (aa j) aq))) (e:=ao ck (aa 0) (aa 1)) (k:=none) (s:=s) (by
  rw[E2,aA (af h1) (aA (af h2) (aF _)),ak]
  simp[uz]) trivial (by omega) (λp hp=>aJ (af rfl) (af rfl) (cQ (hm p hp)))
 rw[show (a.zip b).map (λp=>D.int (p.1*p.2))=(List.zipWith (· * ·) a b).map D.int by rw[<- yo];simp] at hc
 exact dC (aA hc (aF _)) (mT _ _)
abbrev rgR(goods:List Str)(ws:List Wk)(A:List (List Int))(x y:List Int)(x5 x6 x7:Option D):List (Option D):=[some (yD goods ws),some (vII A),some (vI x),some (vI y),some (vII [x,y]),x5,x6,x7]
theorem CM{goods:List Str}{ws:List Wk}{A:List (List Int)}{x y:List Int}(hA:chL goods ws=A)(hg:goods.length<=1000)(al:A.length<=1000)(yl:y.length=goods.length)(xl:x.length<=1000)(xz:SzL 200 x)(Az:kq 200 A)(yz:SzL 200 y):eJ [yD goods ws,vII A,vI x,vI y] []=.ok (.bl true,[]):=by
 have wl:ws.length<=1000:=by rw[<- hA,List.length_map] at al;exact al
 have e4:setM 4 (gG (ae (bC ig (ae (aa 2) aq)) (ae (bC ig (ae (aa 3) aq)) aq))) ⟨[some (yD goods ws),some (vII A),some (vI x),some (vI y),none,none,none,none],[]⟩=.next ⟨rgR goods ws A x y none none none,[]⟩:=bD (n4 (aA (dC (aA (af rfl) (aF _)) (iw _)) (aA (dC (aA (af rfl) (aF _)) (iw _)) (aF _))) (by simp)) rfl
 have ne:∀{x5 x6 x7:Option D},ifS (bj (ao neD (aa 4) (gG (ae (aa 2) (ae (aa 3) aq))))) (cx (aj (.bl false))) bI ⟨rgR goods ws A x y x5 x6 x7,[]⟩=.next ⟨rgR goods ws A x y x5 x6 x7,[]⟩:=λ{x5 x6 x7}=>eW (j1 (aJ (af rfl) (n4 (aA (af rfl) (aA (af rfl) (aF _))) (by simp)) (ER [x,y] [x,y]))) (by simp) (cC _)
 have tl:∀{x5 x6 x7:Option D},bj (ao neD (bC dA (ae (aa 2) aq)) (bC dA (ae (aa 3) aq))) ⟨rgR goods ws A x y x5 x6 x7,[]⟩=.ok (!decide (((x.map D.int).length:Int)=((y.map D.int).length:Int)),⟨rgR goods ws A x y x5 x6 x7,[]⟩):=λ{x5 x6 x7}=>j1 (aJ (dC (aA (af rfl) (aF _)) (fQ _)) (dC (aA (af rfl) (aF _)) (fQ _)) (tN _ _))
 have mo:∀{a b:List Int},SzL 200 a->SzL 200 b->∀p∈a.zip b,IntMulOk p.1 p.2:=λha hb p hp=>Ay (m:=200) (n:=200) (by decide) (by decide) (ha _ (List.of_mem_zip (a:=p.1) (b:=p.2) hp).1) (hb _ (List.of_mem_zip (a:=p.1) (b:=p.2) hp).2)
 by_cases h:x.length=goods.length
 ·have ew:=z4 (ws:=ws) h hg (mo xz yz)
  have ek:=Eo (ws:=ws) h hg wl (λl hl=>mo xz (by rw[hA] at hl;exact Az l hl))
  rw[hA] at ek
  have e5:setM 5 (aK 3 dO (ae (aa 0) (ae (ao ixD (aa 4) (aj (.int 0))) (ae (ao ixD (aa 4) (aj (.int 1))) aq)))) ⟨rgR goods ws A x y none none none,[]⟩=.next ⟨rgR goods ws A x y (some (.int (aH x y))) none none,[]⟩:=bD (cI (aA (af rfl) (aA (aJ (af rfl) (au _ _) (wA _ _)) (aA (aJ (af rfl) (au _ _) (zI _ _ _)) (aF _)))) (Hx ew) (nU _ _ _ _) rfl rfl) rfl
  have e6:setM 6 (aK 2 dM (ae (aa 0) (ae (ao ixD (aa 4) (aj (.int 0))) aq))) ⟨rgR goods ws A x y (some (.int (aH x y))) none none,[]⟩=.next ⟨rgR goods ws A x y (some (.int (aH x y))) (some (.bl (mV A x))) none,[]⟩:=bD (cI (aA (af rfl) (aA (aJ (af rfl) (au _ _) (wA _ _)) (aF _))) (Hv ek) (jF _ _ _) rfl rfl) rfl
  have ec:=fY (l:=A) (item:=vI) (out:=λl=>.bl (decide (aH x l=0))) (caps:=[2]) (im:=listI (aa 1)) (e:=ao eqD (bC mz (ae (cJ 2 [] (nL (ae (aa 1) (ae (aa 0) aq))) (d7 (bA (aO 0) (bA (aO 1) eD)) 2) cM (ao ck (aa 0) (aa 1))) aq)) (aj (.int 0))) (k:=none) (s:=⟨rgR goods ws A x y (some (.int (aH x y))) (some (.bl (mV A x))) none,[]⟩) (by rw[eC,af (i:=1) rfl,ak];rfl) trivial (by omega) (λl hl=>aJ (FI (a:=x) (b:=l) rfl rfl (by omega) (mo xz (Az l hl))) (au _ _) (nq _ _))
  rw[show A.map (λl=>D.bl (decide (aH x l=0)))=(A.map λl=>decide (aH x l=0)).map D.bl by rw[List.map_map];rfl] at ec
  refine fK (R:=rgR goods ws A x y (some (.int (aH x y))) (some (.bl (mV A x))) (some (.bl (mV A x)))) ?_
  show eK ⟨[some (yD goods ws),some (vII A),some (vI x),some (vI y),none,none,none,none],[]⟩=_
  rw[eK]
  refine aU e4 (aU e5 (aU e6 (aU ne (aU (eW tl (by rw[List.length_map,List.length_map,h,yl];simp) (cC _)) (aU (eW (Du (z8 (j1 (qH (af rfl) (yx _ _)))) rfl (Du (j1 (qH (af rfl) (yx _ _))) rfl (z8 (j1 (qH (af rfl) (Fo _ _)))))) rfl (cC _)) (aU (bD (R':=rgR goods ws A x y (some (.int (aH x y))) (some (.bl (mV A x))) (some (.bl (mV A x)))) (dC (aA ec (aF _)) (d:=.bl (mV A x)) ?_) rfl) (bZ (tI (aJ (af rfl) (FI (a:=x) (b:=y) rfl rfl (by omega) (mo xz yz)) (nq _ _)) (decide_eq_true rfl) (aJ (af rfl) (af rfl) ?_)))))))))
  ·rw[qO,List.all_map];rfl
  ·rw[GU,decide_eq_true rfl]
 ·have e5:setM 5 (aK 3 dO (ae (aa 0) (ae (ao ixD (aa 4) (aj (.int 0))) (ae (ao ixD (aa 4) (aj (.int 1))) aq)))) ⟨rgR goods ws A x y none none none,[]⟩=.next ⟨rgR goods ws A x y (some (.str ("weights" :Str))) none none,[]⟩:=bD (cI (aA (af rfl) (aA (aJ (af rfl) (au _ _) (wA _ _)) (aA (aJ (af rfl) (au _ _) (zI _ _ _)) (aF _)))) (GN h) (nU _ _ _ _) rfl rfl) rfl
  have e6:setM 6 (aK 2 dM (ae (aa 0) (ae (ao ixD (aa 4) (aj (.int 0))) aq))) ⟨rgR goods ws A x y (some (.str ("weights" :Str))) none none,[]⟩=.next ⟨rgR goods ws A x y (some (.str ("weights" :Str))) (some (.str ("weights" :Str))) none,[]⟩:=bD (cI (aA (af rfl) (aA (aJ (af rfl) (au _ _) (wA _ _)) (aF _))) (GK h) (jF _ _ _) rfl rfl) rfl
  refine fK (R:=rgR goods ws A x y (some (.str ("weights" :Str))) (some (.str ("weights" :Str))) none) ?_
  show eK ⟨[some (yD goods ws),some (vII A),some (vI x),some (vI y),none,none,none,none],[]⟩=_
  rw[eK]
  refine aU e4 (aU e5 (aU e6 (aU ne (wW (gE tl ?_ (bZ (tI (aJ (af rfl) (au _ _) (tG _ _)) (decide_eq_true rfl) (aJ (af rfl) (au _ _) ?_))))))))
  ·rw[List.length_map,List.length_map,decide_eq_false (by omega)];rfl
  ·rw[tG,decide_eq_true rfl]
def pJ(O:aD)(d:D)(x:List Int):Prop:=d=vI x\/∃k,d=.ptr k/\O[k]? =some (.lst (x.map D.int))
theorem pJ.ls{O:aD}{d:D}{x:List Int}(h:pJ O d x):lsD O d=some (x.map D.int):=by
 rcases h with rfl | ⟨k,rfl,h⟩
 ·rfl
 ·exact pR h
theorem pJ.res{O:aD}{d:D}{x:List Int}(h:pJ O d x):M.res O (M.res O d)=vI x:=by
 rcases h with rfl | ⟨k,rfl,h⟩
 ·simp only[nt,nW]
 ·rw[yi h];simp only[nt,nW]
theorem EI{O:aD}{d e:D}{a b:List D}(h1:lsD O d=some a)(h2:lsD O e=some b)(hd:∀i,d≠ .int i)(hs:∀i,d≠ .str i)(hl:a.length+b.length<=1000000):bu O d e=.ok (.lst (a++b)):=by
 unfold bu
 split
 ·rename_i i j;exact absurd rfl (hd i)
 ·rename_i i j;exact absurd rfl (hs i)
 ·rw[h1,h2]
  dsimp only
  rw[if_pos (by omega)]
theorem pJ.add{O:aD}{d:D}{x y:List Int}(h:pJ O d x)(hl:x.length+y.length<=1000000):bu O d (vI y)=.ok (vI (x++y)):=by
 rw[EI h.ls (b:=y.map D.int) rfl (λi=>by rcases h with rfl | ⟨k,rfl,h⟩ <;> intro z <;> cases z) (λi=>by rcases h with rfl | ⟨k,rfl,h⟩ <;> intro z <;> cases z) (by simpa using hl)]
 exact congrArg (λz=>Res.ok (D.lst z)) List.map_append.symm
theorem AR{c:Nat}{f:Int->Int}{l:List Int}(h:∀x∈l,Sz c (f x)):SzL c (l.map f):=λy hy=>by
 obtain⟨x,hx,rfl⟩:=List.mem_map.mp hy
 exact h x hx
theorem map_one(n:Nat):SzL 200 ((List.range n).map λ_=>(1:Int)):=λy hy=>by
 obtain⟨i,_,rfl⟩:=List.mem_map.mp hy
 unfold Sz
 decide
abbrev cB(ns:List Int)(hd:Int)(n:Nat)(we:List Int)(A:List (List Int))(goods:List Str)(ws:List Wk)(x7 x8 x9:Option D):List (Option D):=[some (vI ns),some (.int hd),some (.int (n:Int)),some (vI we),some (vII A),some (sD goods),some (yD goods ws),x7,x8,x9]
structure Am(n:Nat)(we:List Int)(A:List (List Int))(goods:List Str)(ws:List Wk):Prop where
 gl:goods.length=n
 n5:n<=5
 al:A.length<=5
 wl:we.length=n
 wz:SzL 40 we
 Az:kq 110 A
 ch:chL goods ws=A
theorem Am.right{n:Nat}{we:List Int}{A:List (List Int)}{goods:List Str}{ws:List Wk}(h:Am n we A goods ws){x y:List Int}(yl:y.length=n)(xl:x.length<=1000)(xz:SzL 200 x)(yz:SzL 200 y):eJ [yD goods ws,vII A,vI x,vI y] []=.ok (.bl true,[]):=by
 have:=h.gl;have:=h.n5;have:=h.al
 exact CM h.ch (by omega) (by omega) (by omega) xl xz (λl hl=>(h.Az l hl).mono (by decide)) yz
theorem B6{ns:List Int}{hd c:Int}{n:Nat}{we:List Int}{A:List (List Int)}{goods:List Str}{ws:List Wk}{O:aD}{x8 x9:Option D}(h:Am n we A goods ws):
 ∃O' y8 y9,nv ⟨cB ns hd n we A goods ws (some (.int c)) x8 x9,O⟩=.next ⟨cB ns hd n we A goods ws (some (.int c)) y8 y9,O'⟩:=by
 have n5:=h.n5
 have ea:=fY (l:=List.range n) (item:=λi:Nat=>D.int (i:Int)) (out:=λi=>.int (bF c (i:Int) 2001-1000)) (caps:=[7]) (im:=gf (ae (aa 2) aq)) (e:=ao eY (aK 3 aC (ae (aa 1) (ae (aa 0) (ae (aj (.int 2001)) aq)))) (aj (.int 1000))) (k:=none) (s:=⟨cB ns hd n we A goods ws (some (.int c)) x8 x9,O⟩) (by
  rw[<- iY]
  exact gC (aA (af rfl) (aF _)) (by omega)) trivial (by simp;omega) (λi _=>aJ (dE (af rfl) (af rfl) (au _ _) (by decide)) (au _ _) (iC _ _))
 obtain⟨am,ham,aml,amz⟩:∃am:List Int,(List.range n).map (λi:Nat=>D.int (bF c (i:Int) 2001-1000))=am.map D.int/\am.length=n/\SzL 11 am:=⟨(List.range n).map λi:Nat=>bF c (i:Int) 2001-1000,by rw[List.map_map];rfl,by simp,λy hy=>by
  obtain⟨i,_,rfl⟩:=List.mem_map.mp hy
  have p0:=fR (c:=c) (t:=(i:Int)) (m:=2001) (by decide)
  have p1:=iB (c:=c) (t:=(i:Int)) (m:=2001) (by decide)
  unfold Sz
  omega⟩
 rw[ham] at ea
 have e8:setM 8 (cJ 1 [7] (gf (ae (aa 2) aq)) (aO 0) cM (ao eY (aK 3 aC (ae (aa 1) (ae (aa 0) (ae (aj (.int 2001)) aq)))) (aj (.int 1000)))) ⟨cB ns hd n we A goods ws (some (.int c)) x8 x9,O⟩=.next ⟨cB ns hd n we A goods ws (some (.int c)) (some (vI am)) x9,O⟩:=bD ea rfl
 have pk:∀{R:List (Option D)} {O:aD} (t m:Int),R[7]? =some (some (.int c))->0<m->bj (ao eqD (aK 3 aC (ae (aa 7) (ae (aj (.int t)) (ae (aj (.int m)) aq)))) (aj (.int 0))) ⟨R,O⟩=.ok (decide (bF c t m=0),⟨R,O⟩):=λt m hR hm=>eq_test (dE (af hR) (au _ _) (au _ _) hm)
 have m22:0<=c%10000000000000000000000/\c%10000000000000000000000<10000000000000000000000:=⟨Int.emod_nonneg _ (by decide),Int.emod_lt_of_pos _ (by decide)⟩
 have e8b:∃y:List Int,ifS (bj (ao eqD (aK 3 aC (ae (aa 7) (ae (aj (.int 20)) (ae (aj (.int 3)) aq)))) (aj (.int 0)))) (setM 8 (cJ 1 [7] (listI (aa 8)) (aO 0) cM (ao ck (aa 0) (ao dh (aa 1) (ao eN (aj (.int 10)) (aj (.int 22))))))) bI ⟨cB ns hd n we A goods ws (some (.int c)) (some (vI am)) x9,O⟩=.next ⟨cB ns hd n we A goods ws (some (.int c)) (some (vI y)) x9,O⟩/\y.length=n/\SzL 200 y:=by
  cases hb:decide (bF c 20 3=0) with
  | true=>
   have p22:∀O,eN O (.int 10) (.int 22)=.ok (.int 10000000000000000000000):=λO=>mG (by decide) (by decide) (by decide)
   have e:=fY (l:=am) (item:=D.int) (out:=λv=>.int (v*(c%10000000000000000000000))) (caps:=[7]) (im:=listI (aa 8)) (e:=ao ck (aa 0) (ao dh (aa 1) (ao eN (aj (.int 10)) (aj (.int 22))))) (k:=none) (s:=⟨cB ns hd n we A goods ws (some (.int c)) (some (vI am)) x9,O⟩) (by rw[eC,af (i:=8) rfl,ak];rfl) trivial (by omega) (λv hv=>aJ (af rfl) (aJ (af rfl) (aJ (au _ _) (au _ _) (p22 _)) (dg (by decide))) (cQ (cW (.inl (by have:=amz v hv;unfold Sz at this;omega)))))
   rw[show am.map (λv=>D.int (v*(c%10000000000000000000000)))=(am.map (· * (c%10000000000000000000000))).map D.int by rw[List.map_map];rfl] at e
   have zm:Sz 74 (c%10000000000000000000000):=by unfold Sz;omega
   exact⟨am.map (· * (c%10000000000000000000000)),gE (pk 20 3 rfl (by decide)) hb (bD e rfl),by rw[List.length_map];exact aml,AR λv hv=>(Sz.mul (amz v hv) zm).mono (by decide)⟩
  | false=>exact⟨am,eW (pk 20 3 rfl (by decide)) hb (cC _),aml,amz.mono (by decide)⟩
 obtain⟨y,e8b,yl,yz⟩:=e8b
 have wl:=h.wl
 have e9:setM 9 (rM (aa 3)) ⟨cB ns hd n we A goods ws (some (.int c)) (some (vI y)) x9,O⟩=.next ⟨cB ns hd n we A goods ws (some (.int c)) (some (vI y)) (some (.ptr O.length)),O++[.lst (we.map D.int)]⟩:=bD (Ew (af rfl) (BC _ _) rfl rfl) rfl
 have c9:(O++[Cell.lst (we.map D.int)])[O.length]? =some (.lst (we.map D.int)):=kQ
 generalize O++[Cell.lst (we.map D.int)]=O1 at e9 c9
 generalize O.length=kk at e9 c9
 have m20:0<=c%100000000000000000000/\c%100000000000000000000<100000000000000000000:=⟨Int.emod_nonneg _ (by decide),Int.emod_lt_of_pos _ (by decide)⟩
 have ea1:∃(x:List Int) (O2:aD),ifS (oO (bj (ao eqD (aK 3 aC (ae (aa 7) (ae (aj (.int 21)) (ae (aj (.int 2)) aq)))) (aj (.int 0)))) (bj (ao gtD (aa 2) (aj (.int 0))))) (rD zr (aa 9) (aK 3 aC (ae (aa 7) (ae (aj (.int 22)) (ae (aa 2) aq)))) (ao bu (aj (.int 1)) (ao dh (aa 7) (ao eN (aj (.int 10)) (aj (.int 20)))))) bI ⟨cB ns hd n we A goods ws (some (.int c)) (some (vI y)) (some (.ptr kk)),O1⟩=.next ⟨cB ns hd n we A goods ws (some (.int c)) (some (vI y)) (some (.ptr kk)),O2⟩/\O2[kk]? =some (.lst (x.map D.int))/\x.length=n/\SzL 100 x:=by
  have tg:bj (ao gtD (aa 2) (aj (.int 0))) ⟨cB ns hd n we A goods ws (some (.int c)) (some (vI y)) (some (.ptr kk)),O1⟩=.ok (decide ((0:Int)<(n:Int)),⟨cB ns hd n we A goods ws (some (.int c)) (some (vI y)) (some (.ptr kk)),O1⟩):=iO (af rfl)
  have ta:=sU (pk (R:=cB ns hd n we A goods ws (some (.int c)) (some (vI y)) (some (.ptr kk))) (O:=O1) 21 2 rfl (by decide)) tg
  cases hb:(decide (bF c 21 2=0)&&decide ((0:Int)<(n:Int))) with
  | true=>
   have n0:0<n:=by
    have:=(Bool.and_eq_true_iff.mp hb).2
    have:=of_decide_eq_true this
    omega
   obtain⟨a,ha,an⟩:=kP c 22 n0
   have za:Sz 70 (1+c%100000000000000000000):=by unfold Sz;omega
   refine⟨we.set a (nth we a+(1+c%100000000000000000000)),O1.set kk (.lst ((we.set a (nth we a+(1+c%100000000000000000000))).map D.int)),gE ta hb ?_,i6 c9,by rw[List.length_set];exact wl,λv hv=> ?_⟩
   ·rw[List.map_set]
    refine Gv (k:=kk) (i:=a) (z:=.int (nth we a)) (ds:=we.map D.int) (s1:=⟨cB ns hd n we A goods ws (some (.int c)) (some (vI y)) (some (.ptr kk)),O1⟩) (s2:=⟨cB ns hd n we A goods ws (some (.int c)) (some (vI y)) (some (.ptr kk)),O1⟩) (af rfl) ?_ c9 ?_ (aJ (au _ _) (aJ (af rfl) (aJ (au _ _) (au _ _) Av) (dg (by decide))) (bU _ _)) (Cb _ _) c9 (by simp;omega)
    ·rw[<- ha]
     exact dE (af rfl) (au _ _) (af rfl) (by omega)
    ·simp[nth,List.getD_eq_getElem?_getD,show a<we.length by omega]
   ·rcases List.mem_or_eq_of_mem_set hv with z | rfl
    ·exact(h.wz v z).mono (by decide)
    ·exact(Sz.add (h.wz _ (pS (by omega))) za).mono (by decide)
  | false=>exact⟨we,O1,eW ta hb (cC _),c9,wl,h.wz.mono (by decide)⟩
 obtain⟨x1,O2,ea1,c10,xl1,xz1⟩:=ea1
 have m10:0<=c%10000000000/\c%10000000000<10000000000:=⟨Int.emod_nonneg _ (by decide),Int.emod_lt_of_pos _ (by decide)⟩
 have ea2:∃(x:List Int) (O3:aD) (d:D),ifS (bj (ao eqD (aK 3 aC (ae (aa 7) (ae (aj (.int 23)) (ae (aj (.int 3)) aq)))) (aj (.int 0)))) (setM 9 (pX 1 [7] (listI (aa 3)) (aO 0) cM (ao ck (ao ck (aj (.int 3)) (aa 0)) (ao bu (aj (.int 1)) (ao dh (aa 1) (ao eN (aj (.int 10)) (aj (.int 10)))))))) bI ⟨cB ns hd n we A goods ws (some (.int c)) (some (vI y)) (some (.ptr kk)),O2⟩=.next ⟨cB ns hd n we A goods ws (some (.int c)) (some (vI y)) (some d),O3⟩/\pJ O3 d x/\x.length=n/\SzL 100 x:=by
  cases hb:decide (bF c 23 3=0) with
  | true=>
   have e:=GO (l:=we) (item:=D.int) (out:=λv=>.int (3*v*(1+c%10000000000))) (caps:=[7]) (im:=listI (aa 3)) (e:=ao ck (ao ck (aj (.int 3)) (aa 0)) (ao bu (aj (.int 1)) (ao dh (aa 1) (ao eN (aj (.int 10)) (aj (.int 10)))))) (k:=none) (s:=⟨cB ns hd n we A goods ws (some (.int c)) (some (vI y)) (some (.ptr kk)),O2⟩) (by rw[eC,af (i:=3) rfl,ak];rfl) trivial (by omega) (λv _=>aJ (aJ (au _ _) (af rfl) (cQ (cW (.inl (by decide))))) (aJ (au _ _) (aJ (af rfl) (aJ (au _ _) (au _ _) ud) (dg (by decide))) (bU _ _)) (cQ (cW (.inr (by omega)))))
   rw[show we.map (λv=>D.int (3*v*(1+c%10000000000)))=(we.map λv=>3*v*(1+c%10000000000)).map D.int by rw[List.map_map];rfl] at e
   have z3:Sz 2 3:=by unfold Sz;decide
   have zm:Sz 40 (1+c%10000000000):=by unfold Sz;omega
   exact⟨we.map λv=>3*v*(1+c%10000000000),_,_,gE (pk 23 3 rfl (by decide)) hb (bD e rfl),.inr ⟨_,rfl,kQ⟩,by rw[List.length_map];exact wl,AR λv hv=>(Sz.mul (Sz.mul z3 (h.wz v hv)) zm).mono (by decide)⟩
  | false=>exact⟨x1,O2,_,eW (pk 23 3 rfl (by decide)) hb (cC _),.inr ⟨kk,rfl,c10⟩,xl1,xz1⟩
 obtain⟨x2,O3,d2,ea2,h2,xl2,xz2⟩:=ea2
 have ea3:∃(x:List Int) (d:D),ifS (bj (ao eqD (aK 3 aC (ae (aa 7) (ae (aj (.int 24)) (ae (aj (.int 4)) aq)))) (aj (.int 0)))) (setM 9 (ao ixD (gG (ae (ao bu (aa 9) (gG (ae (aj (.int 0)) aq))) (ae (slM (aa 9) (part (aj (.int 1))) eH) aq))) (ao ck (bC intOf (ae (ao gtD (aa 2) (aj (.int 0))) aq)) (aK 3 aC (ae (aa 7) (ae (aj (.int 25)) (ae (aj (.int 2)) aq))))))) bI ⟨cB ns hd n we A goods ws (some (.int c)) (some (vI y)) (some d2),O3⟩=.next ⟨cB ns hd n we A goods ws (some (.int c)) (some (vI y)) (some d),O3⟩/\pJ O3 d x/\x.length<=1000/\SzL 200 x:=by
  cases hb:decide (bF c 24 4=0) with
  | true=>
   have sl:∃ds:List Int,slM (aa 9) (part (aj (.int 1))) eH ⟨cB ns hd n we A goods ws (some (.int c)) (some (vI y)) (some d2),O3⟩=.ok (vI ds,⟨cB ns hd n we A goods ws (some (.int c)) (some (vI y)) (some d2),O3⟩)/\ds.length<=1000/\SzL 200 ds:=by
    by_cases n0:0<n
    ·exact⟨x2.drop 1,Ce (af rfl) (mx (au _ _)) (kh _) h2.ls (Br (n:=1) (by omega)),by rw[List.length_drop];omega,λv hv=>(xz2 v (List.mem_of_mem_drop hv)).mono (by decide)⟩
    ·have:x2=[]:=List.length_eq_zero_iff.mp (by omega)
     subst this
     exact⟨[],Ce (af rfl) (mx (au _ _)) (kh _) h2.ls rfl,by simp,by intro v hv;cases hv⟩
   obtain⟨ds,sl,dl,dz⟩:=sl
   have p0:=fR (c:=c) (t:=25) (m:=2) (by decide)
   have p1:=iB (c:=c) (t:=25) (m:=2) (by decide)
   have el:gG (ae (ao bu (aa 9) (gG (ae (aj (.int 0)) aq))) (ae (slM (aa 9) (part (aj (.int 1))) eH) aq)) ⟨cB ns hd n we A goods ws (some (.int c)) (some (vI y)) (some d2),O3⟩=.ok (.lst [vI (x2++[0]),vI ds],⟨cB ns hd n we A goods ws (some (.int c)) (some (vI y)) (some d2),O3⟩):=n4 (aA (aJ (af rfl) (n4 (aA (au _ _) (aF _)) (by simp)) (h2.add (y:=[0]) (by simp;omega))) (aA sl (aF _))) (by simp)
   have ei:ao ck (bC intOf (ae (ao gtD (aa 2) (aj (.int 0))) aq)) (aK 3 aC (ae (aa 7) (ae (aj (.int 25)) (ae (aj (.int 2)) aq)))) ⟨cB ns hd n we A goods ws (some (.int c)) (some (vI y)) (some d2),O3⟩=.ok (.int ((if decide ((0:Int)<(n:Int))=true then 1 else 0)*bF c 25 2),⟨cB ns hd n we A goods ws (some (.int c)) (some (vI y)) (some d2),O3⟩):=aJ (dC (aA (aJ (af rfl) (au _ _) (yk _ _)) (aF _)) (oJ _)) (dE (af rfl) (au _ _) (au _ _) (by decide)) (cQ (cW (.inr (by omega))))
   have ev:(if decide ((0:Int)<(n:Int))=true then (1:Int) else 0)*bF c 25 2=0\/(if decide ((0:Int)<(n:Int))=true then (1:Int) else 0)*bF c 25 2=1:=by
    split <;> omega
   rcases ev with ev | ev
   ·rw[ev] at ei
    refine⟨x2++[0],vI (x2++[0]),gE (pk 24 4 rfl (by decide)) hb (bD (aJ el ei (wA _ _)) rfl),.inl rfl,by simp;omega,λv hv=> ?_⟩
    rcases List.mem_append.mp hv with q | q
    ·exact(xz2 v q).mono (by decide)
    ·rw[List.mem_singleton.mp q];exact Sz.zero _
   ·rw[ev] at ei
    exact⟨ds,vI ds,gE (pk 24 4 rfl (by decide)) hb (bD (aJ el ei (zI _ _ _)) rfl),.inl rfl,dl,dz⟩
  | false=>exact⟨x2,d2,eW (pk 24 4 rfl (by decide)) hb (cC _),h2,by omega,xz2.mono (by decide)⟩
 obtain⟨x3,d3,ea3,h3,xl3,xz3⟩:=ea3
 refine⟨O3,some (vI y),some d3, ?_⟩
 rw[nv]
 refine aU e8 (aU e8b (aU e9 (aU ea1 (aU ea2 (aU ea3 (eW (z8 (j1 (DY (aA (af rfl) (aA (af rfl) (aA (af rfl) (aA (af rfl) (aF _))))) (rs:=[yD goods ws,vII A,vI x3,vI y]) ?_ (h.right yl xl3 xz3 yz) ?_ rfl rfl))) rfl (cC _)))))))
 ·have e1:M.res O3 (M.res O3 (yD goods ws))=yD goods ws:=by
   have:M.res O3 (yD goods ws)=yD goods ws:=by unfold M.res;rfl
   rw[this,this]
  simp only[ub,xr,h3.res,e1,nt,nW,sW]
 ·exact pU _ _ (by rw[g6,ir,jL];simp)
theorem CL(ns:List Int)(h:ns.length<=63):∃O,vo [.lst (ns.map D.int)] []=.ok (.bl true,O):=by
 obtain⟨hd,k0,_⟩:=qf ns 0
 obtain⟨c6,k6,_⟩:=qf ns 6
 have k0:bL [vI ns,.int 0] []=.ok (.int hd,[]):=k0
 have k6:bL [vI ns,.int 6] []=.ok (.int c6,[]):=k6
 obtain⟨n,hn,n6⟩:=kP hd 45 (m:=6) (by decide)
 have hn:bF hd 45 6=(n:Int):=hn
 have pc:∀z:Int,aI [vI ns,.int z]=true:=λz=>by simp
 have e1:setM 1 (aK 2 bL (ae (aa 0) (ae (aj (.int 0)) aq))) ⟨[some (vI ns),none,none,none,none,none,none,none,none,none],[]⟩=.next ⟨[some (vI ns),some (.int hd),none,none,none,none,none,none,none,none],[]⟩:=bD (cI (aA (af rfl) (aA (au _ _) (aF _))) k0 (pc _) rfl rfl) rfl
 have e2:setM 2 (aK 3 aC (ae (aa 1) (ae (aj (.int 45)) (ae (aj (.int 6)) aq)))) ⟨[some (vI ns),some (.int hd),none,none,none,none,none,none,none,none],[]⟩=.next ⟨[some (vI ns),some (.int hd),some (.int (n:Int)),none,none,none,none,none,none,none],[]⟩:=by
  rw[<- hn]
  exact bD (dE (af rfl) (au _ _) (au _ _) (by decide)) rfl
 obtain⟨we,Ow,ew,wl,wz,w1,_⟩:=zx hd (n:=n) (lo:= -10000000000) (by omega) (by unfold Sz;decide)
 have e3:setM 3 (aK 3 fA (ae (aa 1) (ae (aa 2) (ae (unM mZ (ao eN (aj (.int 10)) (aj (.int 10)))) aq)))) ⟨[some (vI ns),some (.int hd),some (.int (n:Int)),none,none,none,none,none,none,none],[]⟩=.next ⟨[some (vI ns),some (.int hd),some (.int (n:Int)),some (vI we),none,none,none,none,none,none],[]⟩:=bD (cI (aA (af rfl) (aA (af rfl) (aA (qH (aJ (au _ _) (au _ _) ud) (rl _)) (aF _)))) ew rfl rfl (by simp)) rfl
 obtain⟨A,Ok,ek,al,kp⟩:=El ns 0 wl (by omega) wz w1
 have ek:ey [vI ns,.int 0,vI we] []=.ok (vII A,Ok):=ek
 have e4:setM 4 (aK 3 ey (ae (aa 0) (ae (aj (.int 0)) (ae (aa 3) aq)))) ⟨[some (vI ns),some (.int hd),some (.int (n:Int)),some (vI we),none,none,none,none,none,none],[]⟩=.next ⟨[some (vI ns),some (.int hd),some (.int (n:Int)),some (vI we),some (vII A),none,none,none,none,none],[]⟩:=bD (cI (aA (af rfl) (aA (au _ _) (aA (af rfl) (aF _)))) ek (by simp) rfl (by rw[ir,jL])) rfl
 obtain⟨goods,Og,eg,gl,gg,gnd⟩:=vP (hd+1) (n:=n) (by omega)
 have e5:setM 5 (aK 2 cX (ae (ao bu (aa 1) (aj (.int 1))) (ae (aa 2) aq))) ⟨[some (vI ns),some (.int hd),some (.int (n:Int)),some (vI we),some (vII A),none,none,none,none,none],[]⟩=.next ⟨[some (vI ns),some (.int hd),some (.int (n:Int)),some (vI we),some (vII A),some (sD goods),none,none,none,none],[]⟩:=bD (cI (aA (aJ (af rfl) (au _ _) (bU _ _)) (aA (af rfl) (aF _))) eg rfl rfl (cq _)) rfl
 obtain⟨zs,Oz,ez,zl,zg,znd⟩:=vP hd (n:=A.length) (by omega)
 obtain⟨ws,Oo,eo,wnm,wmk,wch⟩:=A5 (A:=A) (goods:=goods) (zs:=zs) hd gnd (by omega) (λl hl=>by rw[(kp l hl).len,gl]) (by omega) (by omega)
 have wnm':ws.map (·.nm)=zs:=by rw[wnm,List.take_of_length_le (by omega)]
 have wsl:ws.length=A.length:=by have:=congrArg List.length wch;simpa using this
 have wok:sx goods ws:=⟨λw hw=>zg _ (by rw[<- wnm'];exact List.mem_map_of_mem hw),by rw[wnm'];exact znd,λw hw=>(wmk w hw).us,λw hw=>(wmk w hw).ms⟩
 have pws:bV (wsD ws)=true:=jS ws
 have e6:setM 6 (rK 0 2 gZ (ae (aa 5) (ae (aK 4 fT (ae (aa 4) (ae (aa 5) (ae (aK 2 cX (ae (aa 1) (ae (bC dA (ae (aa 4) aq)) aq))) (ae (aa 1) aq))))) aq))) ⟨[some (vI ns),some (.int hd),some (.int (n:Int)),some (vI we),some (vII A),some (sD goods),none,none,none,none],[]⟩=.next ⟨cB ns hd n we A goods ws none none none,[]⟩:=by
  have ecn:aK 2 cX (ae (aa 1) (ae (bC dA (ae (aa 4) aq)) aq)) ⟨[some (vI ns),some (.int hd),some (.int (n:Int)),some (vI we),some (vII A),some (sD goods),none,none,none,none],[]⟩=.ok (sD zs,⟨[some (vI ns),some (.int hd),some (.int (n:Int)),some (vI we),some (vII A),some (sD goods),none,none,none,none],[]⟩):=cI (aA (af rfl) (aA (dC (aA (af rfl) (aF _)) (by rw[fQ,List.length_map])) (aF _))) ez rfl rfl (cq _)
  have pwk:aI [vII A,sD goods,sD zs,.int hd]=true:=by
   rw[g6,ir,jL]
   show (true&&(aI (goods.map D.str)&&(aI (zs.map D.str)&&(true&&true))))=true
   rw[cq,cq];rfl
  have ecw:aK 4 fT (ae (aa 4) (ae (aa 5) (ae (aK 2 cX (ae (aa 1) (ae (bC dA (ae (aa 4) aq)) aq))) (ae (aa 1) aq)))) ⟨[some (vI ns),some (.int hd),some (.int (n:Int)),some (vI we),some (vII A),some (sD goods),none,none,none,none],[]⟩=.ok (wsD ws,⟨[some (vI ns),some (.int hd),some (.int (n:Int)),some (vI we),some (vII A),some (sD goods),none,none,none,none],[]⟩):=cI (aA (af rfl) (aA (af rfl) (aA ecn (aA (af rfl) (aF _))))) eo pwk rfl pws
  have pyd:aI [sD goods,wsD ws]=true:=by
   show (aI (goods.map D.str)&&(aI (ws.map wD)&&true))=true
   rw[cq,jS];rfl
  exact yQ (i:=6) (s':=⟨[some (vI ns),some (.int hd),some (.int (n:Int)),some (vI we),some (vII A),some (sD goods),none,none,none,none],[]⟩) (CH (args:=[sD goods,wsD ws]) (aA (af rfl) (aA ecw (aF _))) pyd rfl (DV gg gnd wok (by omega) (by omega)) (kr _ _))
 have lw:Am n we A goods ws:=⟨gl,by omega,al,wl,wz,λl hl=>(kp l hl).sz,wch⟩
 obtain⟨ks,hcut,hks⟩:=CJ ns 7 12
 have im:listI (ao bu (gG (ae (aK 2 bL (ae (aa 0) (ae (aj (.int 6)) aq))) aq)) (slM (aa 0) (part (aj (.int 7))) (part (aj (.int 12))))) ⟨cB ns hd n we A goods ws none none none,[]⟩=.ok (((c6::ks).map D.int,none),⟨cB ns hd n we A goods ws none none none,[]⟩):=by
  have:ao bu (gG (ae (aK 2 bL (ae (aa 0) (ae (aj (.int 6)) aq))) aq)) (slM (aa 0) (part (aj (.int 7))) (part (aj (.int 12)))) ⟨cB ns hd n we A goods ws none none none,[]⟩=.ok (vI (c6::ks),⟨cB ns hd n we A goods ws none none none,[]⟩):=by
   refine aJ (n4 (aA (cI (aA (af rfl) (aA (au _ _) (aF _))) k6 (pc _) rfl rfl) (aF _)) (by simp)) (Ce (af rfl) (mx (au _ _)) (mx (au _ _)) nK hcut) ?_
   rw[Cz (by simp;omega)]
   rfl
  rw[eC,this,ak]
  rfl
 obtain⟨s',el,x7,x8,x9,O7,hs'⟩:=ee (ok:=okC ((c6::ks).map D.int) none) (g:=aO 7) (body:=nv)
  (λ_ s=>∃(x7 x8 x9:Option D) (O:aD),s=⟨cB ns hd n we A goods ws x7 x8 x9,O⟩) (λ_ _ _=>trivial) ((c6::ks).map D.int) [] (by
   rintro pre d rest ed s ⟨x7,x8,x9,O,rfl⟩
   rw[List.nil_append] at ed
   obtain⟨hlt,rfl⟩:=pI ed
   obtain⟨O',y8,y9,eb⟩:=B6 (ns:=ns) (hd:=hd) (c:=(c6::ks)[pre.length]) (O:=O) (x8:=x8) (x9:=x9) lw
   exact⟨_,_,rfl,.inl eb,_,_,_,_,rfl⟩) ⟨cB ns hd n we A goods ws none none none,[]⟩ ⟨none,none,none,[],rfl⟩
 have hf:=hU (g:=aO 7) (body:=nv) im
 rw[el,hs'] at hf
 have eon:=fY (l:=List.range n) (item:=λi:Nat=>D.int (i:Int)) (out:=λ_=>.int 1) (caps:=[]) (im:=gf (ae (aa 2) aq)) (e:=aj (.int 1)) (k:=none) (s:=⟨cB ns hd n we A goods ws x7 x8 x9,O7⟩) (by
  rw[<- iY]
  exact gC (aA (af rfl) (aF _)) (by omega)) trivial (by simp;omega) (λi _=>au _ _)
 rw[show (List.range n).map (λ_=>D.int 1)=((List.range n).map λ_=>(1:Int)).map D.int by rw[List.map_map];rfl] at eon
 refine EZ ⟨⟨cB ns hd n we A goods ws x7 x8 x9,O7⟩, ?_⟩
 show zh ⟨[some (vI ns),none,none,none,none,none,none,none,none,none],[]⟩=_
 rw[zh]
 refine aU e1 (aU e2 (aU e3 (aU e4 (aU e5 (aU e6 (aU hf (bZ (cI (aA (af rfl) (aA (af rfl) (aA (af rfl) (aA eon (aF _))))) (lw.right (by simp) (by omega) (wz.mono (by decide)) (map_one _)) ?_ rfl rfl))))))))
 exact pU _ _ (by rw[g6,ir,jL,g6,ir,qx,g6,ir,qx];rfl)
end Lk25
namespace Lk25
open PySem PySem.Spec PyProof.Rows L2 M
theorem all_mk {l:PySem.W.OpenLaw} {w:World} {K:PySem.W.Frag} {h:Heap} {mg:Str->Option Value} {fa f0 f1 f2 f3 f4 f5 f6 f7 f8 f9 f10 f11 f12 f13 f14 f15 f16 f17 f18 f19 f20 f21 f22 f23 f24 f25 f26 f27 f28 f29 f30 f31 f32 C_Yard C_NoWeights C_TooMany C_NoWork C_NoWay C_NoText C_NoRow C_NoRatio C_NoName C_NoGood C_NoFit C_NoBalance C_NoAmount C_YardError:Addr} (X:K.In h) (G:h.Ns mainGlobals mg) (hfa:mg "law" =some (.ref fa)) (hpt:l.prog.given.tree=none)
 {od0 an0 od1 an1 od2 an2 od3 an3 od4 an4 od5 an5 od6 an6 od7 an7 od8 an8 od9 an9 od10 an10 od11 an11 od12 an12 od13 an13 od14 an14 od15 an15 od16 an16 od17 an17 od18 an18 od19 an19 od20 an20 od21 an21 od22 an22 od23 an23 od24 an24 od25 an25 od26 an26 od27 an27 od28 an28 od29 an29 od30 an30 od31 an31 od32 an32:Option Addr} {sl0 sl1 sl2 sl3 sl4 sl5 sl6 sl7 sl8 sl9 sl10 sl11 sl12 sl13 sl14 sl15 sl16 sl17 sl18 sl19 sl20 sl21 sl22 sl23 sl24 sl25 sl26 sl27 sl28 sl29 sl30 sl31 sl32:Array (Option Value)} {oc0 kV0 dc0 pm0 cd0 ct0 oc1 kV1 dc1 pm1 cd1 ct1 oc2 kV2 dc2 pm2 cd2 ct2 oc3 kV3 dc3 pm3 cd3 ct3 oc4 kV4 dc4 pm4 cd4 ct4 oc5 kV5 dc5 pm5 cd5 ct5 oc6 kV6 dc6 pm6 cd6 ct6 oc7 kV7 dc7 pm7 cd7 ct7 oc8 kV8 dc8 pm8 cd8 ct8 oc9 kV9 dc9 pm9 cd9 ct9 oc10 kV10 dc10 pm10 cd10 ct10 oc11 kV11 dc11 pm11 cd11 ct11 oc12 kV12 dc12 pm12 cd12 ct12 oc13 kV13 dc13 pm13 cd13 ct13 oc14 kV14 dc14 pm14 cd14 ct14 oc15 kV15 dc15 pm15 cd15 ct15 oc16 kV16 dc16 pm16 cd16 ct16 oc17 kV17 dc17 pm17 cd17 ct17 oc18 kV18 dc18 pm18 cd18 ct18 oc19 kV19 dc19 pm19 cd19 ct19 oc20 kV20 dc20 pm20 cd20 ct20 oc21 kV21 dc21 pm21 cd21 ct21 oc22 kV22 dc22 pm22 cd22 ct22 oc23 kV23 dc23 pm23 cd23 ct23 oc24 kV24 dc24 pm24 cd24 ct24 oc25 kV25 dc25 pm25 cd25 ct25 oc26 kV26 dc26 pm26 cd26 ct26 oc27 kV27 dc27 pm27 cd27 ct27 oc28 kV28 dc28 pm28 cd28 ct28 oc29 kV29 dc29 pm29 cd29 ct29 oc30 kV30 dc30 pm30 cd30 ct30 oc31 kV31 dc31 pm31 cd31 ct31 oc32 kV32 dc32 pm32 cd32 ct32:Value} {t_MOST_LETTERS t_MOST_GOODS t_MOST_WORKS:Tok}
 (aC_Yard:PySem.W.nsIn K mainGlobals "Yard" =some (some (.ref C_Yard)))
 (g1_Yard:PySem.W.plainGet K C_Yard Str.empty=true)
 (g2_Yard:PySem.W.hasDictIn K C_Yard=true)
 (g3_Yard:PySem.W.plainOver K C_Yard=true)
 (g4_Yard:PySem.W.findIn K (.ref C_Yard) "__setattr__" =some (some (.builtin "object.__setattr__")))
 (mk_Yard:PySem.W.makesIn K C_Yard=true)
 (kC_Yard:PySem.W.keepIn K (.ref C_Yard)=true)
 (aC_NoWeights:PySem.W.nsIn K mainGlobals "NoWeights" =some (some (.ref C_NoWeights)))
 (aC_TooMany:PySem.W.nsIn K mainGlobals "TooMany" =some (some (.ref C_TooMany)))
 (aC_NoWork:PySem.W.nsIn K mainGlobals "NoWork" =some (some (.ref C_NoWork)))
 (aC_NoWay:PySem.W.nsIn K mainGlobals "NoWay" =some (some (.ref C_NoWay)))
 (aC_NoText:PySem.W.nsIn K mainGlobals "NoText" =some (some (.ref C_NoText)))
 (aC_NoRow:PySem.W.nsIn K mainGlobals "NoRow" =some (some (.ref C_NoRow)))
 (aC_NoRatio:PySem.W.nsIn K mainGlobals "NoRatio" =some (some (.ref C_NoRatio)))
 (aC_NoName:PySem.W.nsIn K mainGlobals "NoName" =some (some (.ref C_NoName)))
 (aC_NoGood:PySem.W.nsIn K mainGlobals "NoGood" =some (some (.ref C_NoGood)))
 (aC_NoFit:PySem.W.nsIn K mainGlobals "NoFit" =some (some (.ref C_NoFit)))
 (aC_NoBalance:PySem.W.nsIn K mainGlobals "NoBalance" =some (some (.ref C_NoBalance)))
 (aC_NoAmount:PySem.W.nsIn K mainGlobals "NoAmount" =some (some (.ref C_NoAmount)))
 (aC_YardError:PySem.W.nsIn K mainGlobals "YardError" =some (some (.ref C_YardError)))
 (gt0:PySem.W.specialIn K (.builtin "object.__class__") "__get__" =some (some (.builtin "getset_descriptor.__get__")))
 (tk0:PySem.W.takesIn K (.builtin "object.__class__")=some true)
 (ga_NoWeights:PySem.W.findIn K (.ref C_NoWeights) "__getattribute__" =some (some (.builtin "BaseException.__getattribute__")))
 (gh_NoWeights:PySem.W.findIn K (.ref C_NoWeights) "__getattr__" =some none)
 (gc_NoWeights:PySem.W.findIn K (.ref C_NoWeights) "__class__" =some (some (.builtin "object.__class__")))
 (mo_NoWeights:PySem.W.mroIn K C_NoWeights (.type "object")=some true)
 (mb_NoWeights:PySem.W.mroIn K C_NoWeights (.type "BaseException")=some true)
 (xq_NoWeights:PySem.W.excIn K C_NoWeights bmV "ValueError.__new__" =true)
 (it_NoAmount_NoBalance_NoFit_NoGood_NoName_NoRatio_NoRow_NoText_NoWay_NoWork_TooMany_NoWeights:PySem.W.kitAny K (.ref C_NoWeights) [.ref C_NoAmount,.ref C_NoBalance,.ref C_NoFit,.ref C_NoGood,.ref C_NoName,.ref C_NoRatio,.ref C_NoRow,.ref C_NoText,.ref C_NoWay,.ref C_NoWork,.ref C_TooMany]=some false)
 (ik_NoWeights_NoWeights:PySem.W.kitOne K (.ref C_NoWeights) (.ref C_NoWeights)=some true)
 (iy_ValueError_NoWeights:PySem.W.kitOne K (.ref C_NoWeights) (.type "ValueError")=some true)
 (ex_YardError_NoWeights:PySem.W.exmOne K (.ref C_NoWeights) (.ref C_YardError)=some true)
 (nf_Yard_held_changes:PySem.W.findIn K (.ref C_Yard) "held_changes" =some none)
 (nf_Yard_held_works:PySem.W.findIn K (.ref C_Yard) "held_works" =some none)
 (nf_Yard_held_goods:PySem.W.findIn K (.ref C_Yard) "held_goods" =some none)
 (a0:PySem.W.nsIn K mainGlobals "is_whole" =some (some (.ref f0)))
 (l0:K.lookup f0=some ⟨oc0,od0,.func (PySem.W.fnOf "is_whole" "is_whole" (bz iM) (ba iM) (aE iM) .none kV0 dc0 pm0 an0 cd0 ct0),sl0⟩)
 (c0:PySem.W.codeIn K cd0 "is_whole" =true)
 (k0:PySem.W.keepIn K (.ref f0)=true)
 (a1:PySem.W.nsIn K mainGlobals "sum_of_products" =some (some (.ref f1)))
 (l1:K.lookup f1=some ⟨oc1,od1,.func (PySem.W.fnOf "sum_of_products" "sum_of_products" (bz dI) (ba dI) (aE dI) .none kV1 dc1 pm1 an1 cd1 ct1),sl1⟩)
 (c1:PySem.W.codeIn K cd1 "sum_of_products" =true)
 (k1:PySem.W.keepIn K (.ref f1)=true)
 (a2:PySem.W.findIn K (.ref C_Yard) "change" =some (some (.ref f2)))
 (q2:PySem.W.isFn K (.ref f2)=true)
 (l2:K.lookup f2=some ⟨oc2,od2,.func (PySem.W.fnOf "change" "Yard.change" (bz fb) (ba fb) (aE fb) .none kV2 dc2 pm2 an2 cd2 ct2),sl2⟩)
 (c2:PySem.W.codeIn K cd2 "Yard.change" =true)
 (k2:PySem.W.keepIn K (.ref f2)=true)
 (a3:PySem.W.findIn K (.ref C_Yard) "names" =some (some (.ref f3)))
 (q3:PySem.W.isFn K (.ref f3)=true)
 (l3:K.lookup f3=some ⟨oc3,od3,.func (PySem.W.fnOf "names" "Yard.names" (bz fZ) (ba fZ) (aE fZ) .none kV3 dc3 pm3 an3 cd3 ct3),sl3⟩)
 (c3:PySem.W.codeIn K cd3 "Yard.names" =true)
 (k3:PySem.W.keepIn K (.ref f3)=true)
 (a4:PySem.W.nsIn K mainGlobals "changes" =some (some (.ref f4)))
 (l4:K.lookup f4=some ⟨oc4,od4,.func (PySem.W.fnOf "changes" "changes" (bz jI) (ba jI) (aE jI) .none kV4 dc4 pm4 an4 cd4 ct4),sl4⟩)
 (c4:PySem.W.codeIn K cd4 "changes" =true)
 (k4:PySem.W.keepIn K (.ref f4)=true)
 (a5:PySem.W.findIn K (.ref C_Yard) "goods" =some (some (.ref f5)))
 (q5:PySem.W.isFn K (.ref f5)=true)
 (l5:K.lookup f5=some ⟨oc5,od5,.func (PySem.W.fnOf "goods" "Yard.goods" (bz gv) (ba gv) (aE gv) .none kV5 dc5 pm5 an5 cd5 ct5),sl5⟩)
 (c5:PySem.W.codeIn K cd5 "Yard.goods" =true)
 (k5:PySem.W.keepIn K (.ref f5)=true)
 (a6:PySem.W.nsIn K mainGlobals "check_weights" =some (some (.ref f6)))
 (l6:K.lookup f6=some ⟨oc6,od6,.func (PySem.W.fnOf "check_weights" "check_weights" (bz eu) (ba eu) (aE eu) .none kV6 dc6 pm6 an6 cd6 ct6),sl6⟩)
 (c6:PySem.W.codeIn K cd6 "check_weights" =true)
 (k6:PySem.W.keepIn K (.ref f6)=true)
 (a7:PySem.W.nsIn K mainGlobals "weighed" =some (some (.ref f7)))
 (l7:K.lookup f7=some ⟨oc7,od7,.func (PySem.W.fnOf "weighed" "weighed" (bz jC) (ba jC) (aE jC) .none kV7 dc7 pm7 an7 cd7 ct7),sl7⟩)
 (c7:PySem.W.codeIn K cd7 "weighed" =true)
 (k7:PySem.W.keepIn K (.ref f7)=true)
 (a8:PySem.W.nsIn K mainGlobals "is_kept" =some (some (.ref f8)))
 (l8:K.lookup f8=some ⟨oc8,od8,.func (PySem.W.fnOf "is_kept" "is_kept" (bz jK) (ba jK) (aE jK) .none kV8 dc8 pm8 an8 cd8 ct8),sl8⟩)
 (c8:PySem.W.codeIn K cd8 "is_kept" =true)
 (k8:PySem.W.keepIn K (.ref f8)=true)
 (a9:PySem.W.nsIn K mainGlobals "is_name" =some (some (.ref f9)))
 (l9:K.lookup f9=some ⟨oc9,od9,.func (PySem.W.fnOf "is_name" "is_name" (bz jM) (ba jM) (aE jM) .none kV9 dc9 pm9 an9 cd9 ct9),sl9⟩)
 (c9:PySem.W.codeIn K cd9 "is_name" =true)
 (k9:PySem.W.keepIn K (.ref f9)=true)
 (a10:PySem.W.nsIn K mainGlobals "check_many" =some (some (.ref f10)))
 (l10:K.lookup f10=some ⟨oc10,od10,.func (PySem.W.fnOf "check_many" "check_many" (bz fX) (ba fX) (aE fX) .none kV10 dc10 pm10 an10 cd10 ct10),sl10⟩)
 (c10:PySem.W.codeIn K cd10 "check_many" =true)
 (k10:PySem.W.keepIn K (.ref f10)=true)
 (a11:PySem.W.nsIn K mainGlobals "check_name" =some (some (.ref f11)))
 (l11:K.lookup f11=some ⟨oc11,od11,.func (PySem.W.fnOf "check_name" "check_name" (bz gs) (ba gs) (aE gs) .none kV11 dc11 pm11 an11 cd11 ct11),sl11⟩)
 (c11:PySem.W.codeIn K cd11 "check_name" =true)
 (k11:PySem.W.keepIn K (.ref f11)=true)
 (a12:PySem.W.nsIn K mainGlobals "check_goods" =some (some (.ref f12)))
 (l12:K.lookup f12=some ⟨oc12,od12,.func (PySem.W.fnOf "check_goods" "check_goods" (bz fe) (ba fe) (aE fe) .none kV12 dc12 pm12 an12 cd12 ct12),sl12⟩)
 (c12:PySem.W.codeIn K cd12 "check_goods" =true)
 (k12:PySem.W.keepIn K (.ref f12)=true)
 (a13:PySem.W.nsIn K mainGlobals "check_good" =some (some (.ref f13)))
 (l13:K.lookup f13=some ⟨oc13,od13,.func (PySem.W.fnOf "check_good" "check_good" (bz gx) (ba gx) (aE gx) .none kV13 dc13 pm13 an13 cd13 ct13),sl13⟩)
 (c13:PySem.W.codeIn K cd13 "check_good" =true)
 (k13:PySem.W.keepIn K (.ref f13)=true)
 (a14:PySem.W.nsIn K mainGlobals "check_amount" =some (some (.ref f14)))
 (l14:K.lookup f14=some ⟨oc14,od14,.func (PySem.W.fnOf "check_amount" "check_amount" (bz eL) (ba eL) (aE eL) .none kV14 dc14 pm14 an14 cd14 ct14),sl14⟩)
 (c14:PySem.W.codeIn K cd14 "check_amount" =true)
 (k14:PySem.W.keepIn K (.ref f14)=true)
 (a15:PySem.W.nsIn K mainGlobals "check_parts" =some (some (.ref f15)))
 (l15:K.lookup f15=some ⟨oc15,od15,.func (PySem.W.fnOf "check_parts" "check_parts" (bz fB) (ba fB) (aE fB) .none kV15 dc15 pm15 an15 cd15 ct15),sl15⟩)
 (c15:PySem.W.codeIn K cd15 "check_parts" =true)
 (k15:PySem.W.keepIn K (.ref f15)=true)
 (a16:PySem.W.nsIn K mainGlobals "check_works" =some (some (.ref f16)))
 (l16:K.lookup f16=some ⟨oc16,od16,.func (PySem.W.fnOf "check_works" "check_works" (bz fC) (ba fC) (aE fC) .none kV16 dc16 pm16 an16 cd16 ct16),sl16⟩)
 (c16:PySem.W.codeIn K cd16 "check_works" =true)
 (k16:PySem.W.keepIn K (.ref f16)=true)
 (a17:PySem.W.nsIn K mainGlobals "copy_work" =some (some (.ref f17)))
 (l17:K.lookup f17=some ⟨oc17,od17,.func (PySem.W.fnOf "copy_work" "copy_work" (bz gU) (ba gU) (aE gU) .none kV17 dc17 pm17 an17 cd17 ct17),sl17⟩)
 (c17:PySem.W.codeIn K cd17 "copy_work" =true)
 (k17:PySem.W.keepIn K (.ref f17)=true)
 (a18:PySem.W.nsIn K mainGlobals "amount_of" =some (some (.ref f18)))
 (l18:K.lookup f18=some ⟨oc18,od18,.func (PySem.W.fnOf "amount_of" "amount_of" (bz gS) (ba gS) (aE gS) .none kV18 dc18 pm18 an18 cd18 ct18),sl18⟩)
 (c18:PySem.W.codeIn K cd18 "amount_of" =true)
 (k18:PySem.W.keepIn K (.ref f18)=true)
 (a19:PySem.W.nsIn K mainGlobals "change_of" =some (some (.ref f19)))
 (l19:K.lookup f19=some ⟨oc19,od19,.func (PySem.W.fnOf "change_of" "change_of" (bz hX) (ba hX) (aE hX) .none kV19 dc19 pm19 an19 cd19 ct19),sl19⟩)
 (c19:PySem.W.codeIn K cd19 "change_of" =true)
 (k19:PySem.W.keepIn K (.ref f19)=true)
 (a20:PySem.W.findIn K (.ref C_Yard) "__init__" =some (some (.ref f20)))
 (q20:PySem.W.isFn K (.ref f20)=true)
 (l20:K.lookup f20=some ⟨oc20,od20,.func (PySem.W.fnOf "__init__" "Yard.__init__" (bz gY) (ba gY) (aE gY) .none kV20 dc20 pm20 an20 cd20 ct20),sl20⟩)
 (c20:PySem.W.codeIn K cd20 "Yard.__init__" =true)
 (k20:PySem.W.keepIn K (.ref f20)=true)
 (a21:PySem.W.nsIn K mainGlobals "_law_cell" =some (some (.ref f21)))
 (l21:K.lookup f21=some ⟨oc21,od21,.func (PySem.W.fnOf "_law_cell" "_law_cell" (bz iZ) (ba iZ) (aE iZ) .none kV21 dc21 pm21 an21 cd21 ct21),sl21⟩)
 (c21:PySem.W.codeIn K cd21 "_law_cell" =true)
 (k21:PySem.W.keepIn K (.ref f21)=true)
 (a22:PySem.W.nsIn K mainGlobals "_law_pick" =some (some (.ref f22)))
 (l22:K.lookup f22=some ⟨oc22,od22,.func (PySem.W.fnOf "_law_pick" "_law_pick" (bz iN) (ba iN) (aE iN) .none kV22 dc22 pm22 an22 cd22 ct22),sl22⟩)
 (c22:PySem.W.codeIn K cd22 "_law_pick" =true)
 (k22:PySem.W.keepIn K (.ref f22)=true)
 (a23:PySem.W.nsIn K mainGlobals "_law_names" =some (some (.ref f23)))
 (l23:K.lookup f23=some ⟨oc23,od23,.func (PySem.W.fnOf "_law_names" "_law_names" (bz gW) (ba gW) (aE gW) .none kV23 dc23 pm23 an23 cd23 ct23),sl23⟩)
 (c23:PySem.W.codeIn K cd23 "_law_names" =true)
 (k23:PySem.W.keepIn K (.ref f23)=true)
 (a24:PySem.W.nsIn K mainGlobals "_law_move" =some (some (.ref f24)))
 (l24:K.lookup f24=some ⟨oc24,od24,.func (PySem.W.fnOf "_law_move" "_law_move" (bz i3) (ba i3) (aE i3) .none kV24 dc24 pm24 an24 cd24 ct24),sl24⟩)
 (c24:PySem.W.codeIn K cd24 "_law_move" =true)
 (k24:PySem.W.keepIn K (.ref f24)=true)
 (a25:PySem.W.nsIn K mainGlobals "_law_weights" =some (some (.ref f25)))
 (l25:K.lookup f25=some ⟨oc25,od25,.func (PySem.W.fnOf "_law_weights" "_law_weights" (bz fj) (ba fj) (aE fj) .none kV25 dc25 pm25 an25 cd25 ct25),sl25⟩)
 (c25:PySem.W.codeIn K cd25 "_law_weights" =true)
 (k25:PySem.W.keepIn K (.ref f25)=true)
 (a26:PySem.W.nsIn K mainGlobals "_law_keeping" =some (some (.ref f26)))
 (l26:K.lookup f26=some ⟨oc26,od26,.func (PySem.W.fnOf "_law_keeping" "_law_keeping" (bz fD) (ba fD) (aE fD) .none kV26 dc26 pm26 an26 cd26 ct26),sl26⟩)
 (c26:PySem.W.codeIn K cd26 "_law_keeping" =true)
 (k26:PySem.W.keepIn K (.ref f26)=true)
 (a27:PySem.W.nsIn K mainGlobals "_law_works" =some (some (.ref f27)))
 (l27:K.lookup f27=some ⟨oc27,od27,.func (PySem.W.fnOf "_law_works" "_law_works" (bz gX) (ba gX) (aE gX) .none kV27 dc27 pm27 an27 cd27 ct27),sl27⟩)
 (c27:PySem.W.codeIn K cd27 "_law_works" =true)
 (k27:PySem.W.keepIn K (.ref f27)=true)
 (a28:PySem.W.nsIn K mainGlobals "_law_word_of" =some (some (.ref f28)))
 (l28:K.lookup f28=some ⟨oc28,od28,.func (PySem.W.fnOf "_law_word_of" "_law_word_of" (bz fm) (ba fm) (aE fm) .none kV28 dc28 pm28 an28 cd28 ct28),sl28⟩)
 (c28:PySem.W.codeIn K cd28 "_law_word_of" =true)
 (k28:PySem.W.keepIn K (.ref f28)=true)
 (a29:PySem.W.nsIn K mainGlobals "_law_weighed" =some (some (.ref f29)))
 (l29:K.lookup f29=some ⟨oc29,od29,.func (PySem.W.fnOf "_law_weighed" "_law_weighed" (bz fk) (ba fk) (aE fk) .none kV29 dc29 pm29 an29 cd29 ct29),sl29⟩)
 (c29:PySem.W.codeIn K cd29 "_law_weighed" =true)
 (k29:PySem.W.keepIn K (.ref f29)=true)
 (a30:PySem.W.nsIn K mainGlobals "_law_kept_so" =some (some (.ref f30)))
 (l30:K.lookup f30=some ⟨oc30,od30,.func (PySem.W.fnOf "_law_kept_so" "_law_kept_so" (bz fo) (ba fo) (aE fo) .none kV30 dc30 pm30 an30 cd30 ct30),sl30⟩)
 (c30:PySem.W.codeIn K cd30 "_law_kept_so" =true)
 (k30:PySem.W.keepIn K (.ref f30)=true)
 (a31:PySem.W.nsIn K mainGlobals "_law_right" =some (some (.ref f31)))
 (l31:K.lookup f31=some ⟨oc31,od31,.func (PySem.W.fnOf "_law_right" "_law_right" (bz g7) (ba g7) (aE g7) .none kV31 dc31 pm31 an31 cd31 ct31),sl31⟩)
 (c31:PySem.W.codeIn K cd31 "_law_right" =true)
 (k31:PySem.W.keepIn K (.ref f31)=true)
 (a32:PySem.W.nsIn K mainGlobals "law" =some (some (.ref f32)))
 (l32:K.lookup f32=some ⟨oc32,od32,.func (PySem.W.fnOf "law" "law" (bz lI) (ba lI) (aE lI) .none kV32 dc32 pm32 an32 cd32 ct32),sl32⟩)
 (c32:PySem.W.codeIn K cd32 "law" =true)
 (k32:PySem.W.keepIn K (.ref f32)=true)
 (z_isinstance:PySem.W.nsIn K mainGlobals "isinstance" =some none)
 (z_int:PySem.W.nsIn K mainGlobals "int" =some none)
 (z_bool:PySem.W.nsIn K mainGlobals "bool" =some none)
 (z_zip:PySem.W.nsIn K mainGlobals "zip" =some none)
 (z_sum:PySem.W.nsIn K mainGlobals "sum" =some none)
 (z_list:PySem.W.nsIn K mainGlobals "list" =some none)
 (z_len:PySem.W.nsIn K mainGlobals "len" =some none)
 (z_range:PySem.W.nsIn K mainGlobals "range" =some none)
 (z_all:PySem.W.nsIn K mainGlobals "all" =some none)
 (z_enumerate:PySem.W.nsIn K mainGlobals "enumerate" =some none)
 (z_max:PySem.W.nsIn K mainGlobals "max" =some none)
 (z_ValueError:PySem.W.nsIn K mainGlobals "ValueError" =some none)
 (y_MOST_LETTERS:PySem.W.nsIn K mainGlobals "MOST_LETTERS" =some (some (.int 8 t_MOST_LETTERS)))
 (y_MOST_GOODS:PySem.W.nsIn K mainGlobals "MOST_GOODS" =some (some (.int 10 t_MOST_GOODS)))
 (y_MOST_WORKS:PySem.W.nsIn K mainGlobals "MOST_WORKS" =some (some (.int 10 t_MOST_WORKS))):
 ∃fd:FuncData,(∀(s:Shared) (v:Value),BindsTo s fd ⟨[v],[]⟩ [("_law_script",v)])/\∀base:Heap,K.In base->base.Ns mainGlobals mg->d9 l.prog w K mg base (CXE l.prog w) 41 fa fd ["_law_script"] (spM K (caK K) 1 vo):=by
 have e:=hfa.symm.trans (PySem.W.mg_of X G a32)
 cases e
 have hC_Yard:caK K 0=C_Yard:=by show clsAt K "Yard" =_;unfold clsAt;rw[aC_Yard]
 have cl_Yard:Cls K (caK K 0):=by rw[hC_Yard];exact⟨g1_Yard,g2_Yard,g3_Yard,g4_Yard⟩
 have hC_NoWeights:caK K 1=C_NoWeights:=by show clsAt K "NoWeights" =_;unfold clsAt;rw[aC_NoWeights]
 have hC_TooMany:caK K 13=C_TooMany:=by show clsAt K "TooMany" =_;unfold clsAt;rw[aC_TooMany]
 have hC_NoWork:caK K 12=C_NoWork:=by show clsAt K "NoWork" =_;unfold clsAt;rw[aC_NoWork]
 have hC_NoWay:caK K 11=C_NoWay:=by show clsAt K "NoWay" =_;unfold clsAt;rw[aC_NoWay]
 have hC_NoText:caK K 9=C_NoText:=by show clsAt K "NoText" =_;unfold clsAt;rw[aC_NoText]
 have hC_NoRow:caK K 8=C_NoRow:=by show clsAt K "NoRow" =_;unfold clsAt;rw[aC_NoRow]
 have hC_NoRatio:caK K 10=C_NoRatio:=by show clsAt K "NoRatio" =_;unfold clsAt;rw[aC_NoRatio]
 have hC_NoName:caK K 7=C_NoName:=by show clsAt K "NoName" =_;unfold clsAt;rw[aC_NoName]
 have hC_NoGood:caK K 6=C_NoGood:=by show clsAt K "NoGood" =_;unfold clsAt;rw[aC_NoGood]
 have hC_NoFit:caK K 5=C_NoFit:=by show clsAt K "NoFit" =_;unfold clsAt;rw[aC_NoFit]
 have hC_NoBalance:caK K 4=C_NoBalance:=by show clsAt K "NoBalance" =_;unfold clsAt;rw[aC_NoBalance]
 have hC_NoAmount:caK K 3=C_NoAmount:=by show clsAt K "NoAmount" =_;unfold clsAt;rw[aC_NoAmount]
 have hC_YardError:caK K 2=C_YardError:=by show clsAt K "YardError" =_;unfold clsAt;rw[aC_YardError]
 have xm_NoWeights:mg "NoWeights" =some (.ref (caK K 1)):=by rw[hC_NoWeights];exact PySem.W.mg_of X G aC_NoWeights
 have xm_TooMany:mg "TooMany" =some (.ref (caK K 13)):=by rw[hC_TooMany];exact PySem.W.mg_of X G aC_TooMany
 have xm_NoWork:mg "NoWork" =some (.ref (caK K 12)):=by rw[hC_NoWork];exact PySem.W.mg_of X G aC_NoWork
 have xm_NoWay:mg "NoWay" =some (.ref (caK K 11)):=by rw[hC_NoWay];exact PySem.W.mg_of X G aC_NoWay
 have xm_NoText:mg "NoText" =some (.ref (caK K 9)):=by rw[hC_NoText];exact PySem.W.mg_of X G aC_NoText
 have xm_NoRow:mg "NoRow" =some (.ref (caK K 8)):=by rw[hC_NoRow];exact PySem.W.mg_of X G aC_NoRow
 have xm_NoRatio:mg "NoRatio" =some (.ref (caK K 10)):=by rw[hC_NoRatio];exact PySem.W.mg_of X G aC_NoRatio
 have xm_NoName:mg "NoName" =some (.ref (caK K 7)):=by rw[hC_NoName];exact PySem.W.mg_of X G aC_NoName
 have xm_NoGood:mg "NoGood" =some (.ref (caK K 6)):=by rw[hC_NoGood];exact PySem.W.mg_of X G aC_NoGood
 have xm_NoFit:mg "NoFit" =some (.ref (caK K 5)):=by rw[hC_NoFit];exact PySem.W.mg_of X G aC_NoFit
 have xm_NoBalance:mg "NoBalance" =some (.ref (caK K 4)):=by rw[hC_NoBalance];exact PySem.W.mg_of X G aC_NoBalance
 have xm_NoAmount:mg "NoAmount" =some (.ref (caK K 3)):=by rw[hC_NoAmount];exact PySem.W.mg_of X G aC_NoAmount
 have xm_YardError:mg "YardError" =some (.ref (caK K 2)):=by rw[hC_YardError];exact PySem.W.mg_of X G aC_YardError
 have xk_NoWeights:ExK K (caK K 1):=by rw[hC_NoWeights];exact⟨ga_NoWeights,gh_NoWeights,gc_NoWeights,gt0,tk0,mo_NoWeights,mb_NoWeights⟩
 have xxq_NoWeights:PySem.W.excIn K (caK K 1) bmV "ValueError.__new__" =true:=by rw[hC_NoWeights];exact xq_NoWeights
 have xit_NoAmount_NoBalance_NoFit_NoGood_NoName_NoRatio_NoRow_NoText_NoWay_NoWork_TooMany:∀c b,aR c=some b->ExK K (caK K c)/\PySem.W.kitAny K (.ref (caK K c)) ([caK K 3,caK K 4,caK K 5,caK K 6,caK K 7,caK K 10,caK K 8,caK K 9,caK K 11,caK K 12,caK K 13].map Value.ref)=some b:=by
  intro c b h
  unfold aR at h
  split at h
  ·cases h;exact⟨xk_NoWeights,by show PySem.W.kitAny K (.ref (caK K 1)) [.ref (caK K 3),.ref (caK K 4),.ref (caK K 5),.ref (caK K 6),.ref (caK K 7),.ref (caK K 10),.ref (caK K 8),.ref (caK K 9),.ref (caK K 11),.ref (caK K 12),.ref (caK K 13)]=_;rw[hC_NoWeights,hC_NoAmount,hC_NoBalance,hC_NoFit,hC_NoGood,hC_NoName,hC_NoRatio,hC_NoRow,hC_NoText,hC_NoWay,hC_NoWork,hC_TooMany];exact it_NoAmount_NoBalance_NoFit_NoGood_NoName_NoRatio_NoRow_NoText_NoWay_NoWork_TooMany_NoWeights⟩
  ·cases h
 have xik_NoWeights:∀c b,j6 c=some b->ExK K (caK K c)/\PySem.W.kitOne K (.ref (caK K c)) (.ref (caK K 1))=some b:=by
  intro c b h
  unfold j6 at h
  split at h
  ·cases h;exact⟨xk_NoWeights,by rw[hC_NoWeights];exact ik_NoWeights_NoWeights⟩
  ·cases h
 have xiy_ValueError:∀c b,jq c=some b->ExK K (caK K c)/\PySem.W.kitOne K (.ref (caK K c)) (.type "ValueError")=some b:=by
  intro c b h
  unfold jq at h
  split at h
  ·cases h;exact⟨xk_NoWeights,by rw[hC_NoWeights];exact iy_ValueError_NoWeights⟩
  ·cases h
 have xex_YardError:∀c b,gk c=some b->PySem.W.exmOne K (.ref (caK K c)) (.ref (caK K 2))=some b:=by
  intro c b h
  unfold gk at h
  split at h
  ·cases h;exact(by rw[hC_NoWeights,hC_YardError];exact ex_YardError_NoWeights)
  ·cases h
 have na_Yard_held_changes:d6 K (caK K 0) "held_changes" :=by rw[hC_Yard];exact nf_Yard_held_changes
 have na_Yard_held_works:d6 K (caK K 0) "held_works" :=by rw[hC_Yard];exact nf_Yard_held_works
 have na_Yard_held_goods:d6 K (caK K 0) "held_goods" :=by rw[hC_Yard];exact nf_Yard_held_goods
 have F0:=bQ (st:=iM) l0 c0 k0
 have F1:=bQ (st:=dI) l1 c1 k1
 have F2:=bQ (st:=fb) l2 c2 k2
 have F3:=bQ (st:=fZ) l3 c3 k3
 have F4:=bQ (st:=jI) l4 c4 k4
 have F5:=bQ (st:=gv) l5 c5 k5
 have F6:=bQ (st:=eu) l6 c6 k6
 have F7:=bQ (st:=jC) l7 c7 k7
 have F8:=bQ (st:=jK) l8 c8 k8
 have F9:=bQ (st:=jM) l9 c9 k9
 have F10:=bQ (st:=fX) l10 c10 k10
 have F11:=bQ (st:=gs) l11 c11 k11
 have F12:=bQ (st:=fe) l12 c12 k12
 have F13:=bQ (st:=gx) l13 c13 k13
 have F14:=bQ (st:=eL) l14 c14 k14
 have F15:=bQ (st:=fB) l15 c15 k15
 have F16:=bQ (st:=fC) l16 c16 k16
 have F17:=bQ (st:=gU) l17 c17 k17
 have F18:=bQ (st:=gS) l18 c18 k18
 have F19:=bQ (st:=hX) l19 c19 k19
 have F20:=bQ (st:=gY) l20 c20 k20
 have F21:=bQ (st:=iZ) l21 c21 k21
 have F22:=bQ (st:=iN) l22 c22 k22
 have F23:=bQ (st:=gW) l23 c23 k23
 have F24:=bQ (st:=i3) l24 c24 k24
 have F25:=bQ (st:=fj) l25 c25 k25
 have F26:=bQ (st:=fD) l26 c26 k26
 have F27:=bQ (st:=gX) l27 c27 k27
 have F28:=bQ (st:=fm) l28 c28 k28
 have F29:=bQ (st:=fk) l29 c29 k29
 have F30:=bQ (st:=fo) l30 c30 k30
 have F31:=bQ (st:=g7) l31 c31 k31
 have F32:=bQ (st:=lI) l32 c32 k32
 refine⟨PySem.W.fnOf "law" "law" (bz lI) (ba lI) (aE lI) .none kV32 dc32 pm32 an32 cd32 ct32,λs v=>.of_eq rfl,λbase _ _=> ?_⟩
 have E_is_whole:=xw (P:=l.prog) (w:=w) (mg:=mg) (base:=base) (ca:=caK K) F0 (PySem.W.mg_of X G a0) hpt (PySem.W.mg_none_of X G z_isinstance) (PySem.W.mg_none_of X G z_int) (PySem.W.mg_none_of X G z_bool)
 have E_sum_of_products:=pf (P:=l.prog) (w:=w) (mg:=mg) (base:=base) (ca:=caK K) F1 (PySem.W.mg_of X G a1) hpt (PySem.W.mg_none_of X G z_zip) (PySem.W.mg_none_of X G z_sum)
 have E_Yard_change:=sr (P:=l.prog) (w:=w) (mg:=mg) (base:=base) (ca:=caK K) F2 (by rw[hC_Yard];exact⟨a2,q2,k2⟩) hpt (PySem.W.mg_none_of X G z_list) cl_Yard na_Yard_held_changes
 have E_Yard_names:=uQ (P:=l.prog) (w:=w) (mg:=mg) (base:=base) (ca:=caK K) F3 (by rw[hC_Yard];exact⟨a3,q3,k3⟩) hpt cl_Yard na_Yard_held_works
 have E_changes:=yY (P:=l.prog) (w:=w) (mg:=mg) (base:=base) (ca:=caK K) F4 (PySem.W.mg_of X G a4) hpt (PySem.W.mg_none_of X G z_len) (PySem.W.mg_none_of X G z_range) cl_Yard E_Yard_names E_Yard_change
 have E_Yard_goods:=vg (P:=l.prog) (w:=w) (mg:=mg) (base:=base) (ca:=caK K) F5 (by rw[hC_Yard];exact⟨a5,q5,k5⟩) hpt (PySem.W.mg_none_of X G z_list) cl_Yard na_Yard_held_goods
 have E_check_weights:=qR (P:=l.prog) (w:=w) (mg:=mg) (base:=base) (ca:=caK K) F6 (PySem.W.mg_of X G a6) hpt (PySem.W.mg_none_of X G z_len) cl_Yard xxq_NoWeights xm_NoWeights E_Yard_goods
 have E_weighed:=An (P:=l.prog) (w:=w) (mg:=mg) (base:=base) (ca:=caK K) F7 (PySem.W.mg_of X G a7) hpt E_check_weights.in E_sum_of_products.in
 have E_is_kept:=zq (P:=l.prog) (w:=w) (mg:=mg) (base:=base) (ca:=caK K) F8 (PySem.W.mg_of X G a8) hpt (PySem.W.mg_none_of X G z_all) E_check_weights.in E_changes.in E_sum_of_products.in
 have E_is_name:=zC (P:=l.prog) (w:=w) (mg:=mg) (base:=base) (ca:=caK K) F9 (PySem.W.mg_of X G a9) hpt (PySem.W.mg_none_of X G z_len) (PySem.W.mg_none_of X G z_all) ⟨_,PySem.W.mg_of X G y_MOST_LETTERS⟩
 have E_check_many:=vc (P:=l.prog) (w:=w) (mg:=mg) (base:=base) (ca:=caK K) F10 (PySem.W.mg_of X G a10) hpt (PySem.W.mg_none_of X G z_len) ⟨_,PySem.W.mg_of X G y_MOST_GOODS⟩ ⟨_,PySem.W.mg_of X G y_MOST_WORKS⟩
 have E_check_name:=u5 (P:=l.prog) (w:=w) (mg:=mg) (base:=base) (ca:=caK K) F11 (PySem.W.mg_of X G a11) hpt E_is_name.in
 have E_check_goods:=sZ (P:=l.prog) (w:=w) (mg:=mg) (base:=base) (ca:=caK K) F12 (PySem.W.mg_of X G a12) hpt (PySem.W.mg_none_of X G z_enumerate) E_check_name.in
 have E_check_good:=va (P:=l.prog) (w:=w) (mg:=mg) (base:=base) (ca:=caK K) F13 (PySem.W.mg_of X G a13) hpt
 have E_check_amount:=rJ (P:=l.prog) (w:=w) (mg:=mg) (base:=base) (ca:=caK K) F14 (PySem.W.mg_of X G a14) hpt E_is_whole.in
 have E_check_parts:=sL (P:=l.prog) (w:=w) (mg:=mg) (base:=base) (ca:=caK K) F15 (PySem.W.mg_of X G a15) hpt E_check_good.in E_check_amount.in
 have E_check_works:=sG (P:=l.prog) (w:=w) (mg:=mg) (base:=base) (ca:=caK K) F16 (PySem.W.mg_of X G a16) hpt E_check_name.in E_check_parts.in
 have E_copy_work:=vC (P:=l.prog) (w:=w) (mg:=mg) (base:=base) (ca:=caK K) F17 (PySem.W.mg_of X G a17) hpt (PySem.W.mg_none_of X G z_list)
 have E_amount_of:=vV (P:=l.prog) (w:=w) (mg:=mg) (base:=base) (ca:=caK K) F18 (PySem.W.mg_of X G a18) hpt (PySem.W.mg_none_of X G z_sum)
 have E_change_of:=wZ (P:=l.prog) (w:=w) (mg:=mg) (base:=base) (ca:=caK K) F19 (PySem.W.mg_of X G a19) hpt E_amount_of.in
 have E_Yard_init:=xi (P:=l.prog) (w:=w) (mg:=mg) (base:=base) (ca:=caK K) F20 (by rw[hC_Yard];exact⟨mk_Yard,a20,q20,kC_Yard⟩) (by rw[hC_Yard];exact PySem.W.mg_of X G aC_Yard) hpt (PySem.W.mg_none_of X G z_list) cl_Yard na_Yard_held_goods na_Yard_held_works na_Yard_held_changes E_check_many.in E_check_goods.in E_check_works.in E_copy_work.in E_change_of.in
 have E_law_cell:=xV (P:=l.prog) (w:=w) (mg:=mg) (base:=base) (ca:=caK K) F21 (PySem.W.mg_of X G a21) hpt (PySem.W.mg_none_of X G z_len)
 have E_law_pick:=xH (P:=l.prog) (w:=w) (mg:=mg) (base:=base) (ca:=caK K) F22 (PySem.W.mg_of X G a22) hpt
 have E_law_names:=wF (P:=l.prog) (w:=w) (mg:=mg) (base:=base) (ca:=caK K) F23 (PySem.W.mg_of X G a23) hpt (PySem.W.mg_none_of X G z_range) (PySem.W.mg_none_of X G z_len) E_law_pick.in
 have E_law_move:=xZ (P:=l.prog) (w:=w) (mg:=mg) (base:=base) (ca:=caK K) F24 (PySem.W.mg_of X G a24) hpt (PySem.W.mg_none_of X G z_int) (PySem.W.mg_none_of X G z_range) E_law_pick.in
 have E_law_weights:=sI (P:=l.prog) (w:=w) (mg:=mg) (base:=base) (ca:=caK K) F25 (PySem.W.mg_of X G a25) hpt (PySem.W.mg_none_of X G z_range) (PySem.W.mg_none_of X G z_max) E_law_pick.in
 have E_law_keeping:=tJ (P:=l.prog) (w:=w) (mg:=mg) (base:=base) (ca:=caK K) F26 (PySem.W.mg_of X G a26) hpt (PySem.W.mg_none_of X G z_len) (PySem.W.mg_none_of X G z_int) (PySem.W.mg_none_of X G z_range) (PySem.W.mg_none_of X G z_sum) E_law_cell.in E_law_pick.in E_law_move.in
 have E_law_works:=xq (P:=l.prog) (w:=w) (mg:=mg) (base:=base) (ca:=caK K) F27 (PySem.W.mg_of X G a27) hpt (PySem.W.mg_none_of X G z_enumerate) (PySem.W.mg_none_of X G z_max) E_law_pick.in
 have E_law_word_of:=tm (P:=l.prog) (w:=w) (mg:=mg) (base:=base) (ca:=caK K) F28 (PySem.W.mg_of X G a28) hpt (PySem.W.mg_none_of X G z_isinstance) (PySem.W.mg_none_of X G z_ValueError) (PySem.W.mg_none_of X G z_int) xm_TooMany xm_NoWork xm_NoWay xm_NoText xm_NoRow xm_NoRatio xm_NoName xm_NoGood xm_NoFit xm_NoBalance xm_NoAmount xit_NoAmount_NoBalance_NoFit_NoGood_NoName_NoRatio_NoRow_NoText_NoWay_NoWork_TooMany xm_NoWeights xik_NoWeights xiy_ValueError
 have E_law_weighed:=tP (P:=l.prog) (w:=w) (mg:=mg) (base:=base) (ca:=caK K) F29 (PySem.W.mg_of X G a29) hpt xm_YardError xex_YardError E_weighed.in E_law_word_of.in
 have E_law_kept_so:=sv (P:=l.prog) (w:=w) (mg:=mg) (base:=base) (ca:=caK K) F30 (PySem.W.mg_of X G a30) hpt xm_YardError xex_YardError E_is_kept.in E_law_word_of.in
 have E_law_right:=vN (P:=l.prog) (w:=w) (mg:=mg) (base:=base) (ca:=caK K) F31 (PySem.W.mg_of X G a31) hpt (PySem.W.mg_none_of X G z_list) (PySem.W.mg_none_of X G z_len) (PySem.W.mg_none_of X G z_isinstance) (PySem.W.mg_none_of X G z_int) (PySem.W.mg_none_of X G z_bool) (PySem.W.mg_none_of X G z_zip) (PySem.W.mg_none_of X G z_sum) (PySem.W.mg_none_of X G z_all) E_law_weighed.in E_law_kept_so.in
 have E_law:=Gk (P:=l.prog) (w:=w) (mg:=mg) (base:=base) (ca:=caK K) F32 (PySem.W.mg_of X G a32) hpt (PySem.W.mg_none_of X G z_len) (PySem.W.mg_none_of X G z_range) (PySem.W.mg_none_of X G z_list) (PySem.W.mg_none_of X G z_int) E_law_cell.in E_law_pick.in E_law_weights.in E_law_keeping.in E_law_names.in E_Yard_init E_law_works.in E_law_right.in
 exact E_law.1
end Lk25
open PySem PySem.W PyProof.Rows
theorem PySem.W.Fast.tw17195299847579414145:True:=⟨⟩
theorem PySem.W.Fast.tw1206062238586758364:True:=⟨⟩
theorem PySem.W.Fast.tw6258722862277833476:True:=⟨⟩
theorem PySem.W.Fast.tw15227228284169412636:True:=⟨⟩
theorem PySem.W.Fast.tw4142263027545396257:True:=⟨⟩
theorem PySem.W.Fast.tw2149381739923841687:True:=⟨⟩
theorem PySem.W.Fast.tw10610529589972648004:True:=⟨⟩
theorem PySem.W.Fast.tw5753997836566576009:True:=⟨⟩
theorem PySem.W.Fast.tw6529655380524705153:True:=⟨⟩
theorem PySem.W.Fast.tw10654601525615190364:True:=⟨⟩
theorem PySem.W.Fast.tw4230147531796363828:True:=⟨⟩
theorem PySem.W.Fast.tw2817021933263825048:True:=⟨⟩
theorem PySem.W.Fast.tw1921285766631107120:True:=⟨⟩
theorem PySem.W.Fast.tw1771127656216361199:True:=⟨⟩
theorem PySem.W.Fast.tw14851231578859915690:True:=⟨⟩
theorem PySem.W.Fast.tw6045268141758761325:True:=⟨⟩
theorem PySem.W.Fast.tw5271209576973489624:True:=⟨⟩
theorem PySem.W.Fast.tw354426852683795599:True:=⟨⟩
theorem PySem.W.Fast.tw10866138432634566449:True:=⟨⟩
theorem PySem.W.Fast.tw9559718634734380518:True:=⟨⟩
theorem PySem.W.Fast.tw18367478375563875073:True:=⟨⟩
theorem PySem.W.Fast.tw10933434894247215996:True:=⟨⟩
theorem PySem.W.Fast.tw1253775052229126548:True:=⟨⟩
theorem PySem.W.Fast.tw1284181402858709996:True:=⟨⟩
theorem PySem.W.Fast.tw17994131096598121758:True:=⟨⟩
theorem PySem.W.Fast.tw9059446420619795005:True:=⟨⟩
theorem PySem.W.Fast.tw18362819957547347672:True:=⟨⟩
theorem PySem.W.Fast.tw15600644712099363647:True:=⟨⟩
theorem PySem.W.Fast.tw15650629012403780726:True:=⟨⟩
theorem PySem.W.Fast.tw17524224161455503100:True:=⟨⟩
theorem PySem.W.Fast.tw43590497932255237:True:=⟨⟩
theorem PySem.W.Fast.tw2302134628738310268:True:=⟨⟩
theorem PySem.W.Fast.tw13378336214562575475:True:=⟨⟩
theorem PySem.W.Fast.tw15210889901390735465:True:=⟨⟩
theorem PySem.W.Fast.tw18255720717785982079:True:=⟨⟩
theorem PySem.W.Fast.tw7361852908191475175:True:=⟨⟩
theorem PySem.W.Fast.tw12603369873298035726:True:=⟨⟩
theorem PySem.W.Fast.tw8136880413577426454:True:=⟨⟩
theorem PySem.W.Fast.tw566473625636669217:True:=⟨⟩
theorem PySem.W.Fast.tw7131061207832619903:True:=⟨⟩
theorem PySem.W.Fast.tw15604333046053639364:True:=⟨⟩
theorem PySem.W.Fast.tw4413853158411166117:True:=⟨⟩
theorem PySem.W.Fast.tw2993469399083809762:True:=⟨⟩
theorem PySem.W.Fast.tw14894885235710329347:True:=⟨⟩
theorem PySem.W.Fast.tw14088107512331302966:True:=⟨⟩
theorem PySem.W.Fast.tw432001087366252874:True:=⟨⟩
theorem PySem.W.Fast.tw2053996706330348914:True:=⟨⟩
theorem PySem.W.Fast.tw6994091122664410925:True:=⟨⟩
theorem PySem.W.Fast.tw15224150981917640736:True:=⟨⟩
theorem PySem.W.Fast.tw1261580815202752989:True:=⟨⟩
theorem PySem.W.Fast.tw10893671482812907924:True:=⟨⟩
theorem PySem.W.Fast.tw15917605110292996115:True:=⟨⟩
theorem PySem.W.Fast.tw12274657542039318800:True:=⟨⟩
theorem PySem.W.Fast.tw18020301266039534872:True:=⟨⟩
theorem PySem.W.Fast.tw13224216936511771:True:=⟨⟩
theorem PySem.W.Fast.tw2803041866085918691:True:=⟨⟩
theorem PySem.W.Fast.tw12673925480022568182:True:=⟨⟩
theorem PySem.W.Fast.tw2350378227533912739:True:=⟨⟩
theorem PySem.W.Fast.tw7041738968606346562:True:=⟨⟩
theorem PySem.W.Fast.tw12815377926397830602:True:=⟨⟩
set_option maxRecDepth 100000 in
set_option maxHeartbeats 0 in
theorem PySem.Challenge.cw_modeyard_k25_goods_weighed_holds : PySem.Challenge.rw_modeyard_k25_goods_weighed.Holds := by
 w_on;o_law;k_head;(case hw=>w_witness2)
 k_fill
 refine L2.B2 (l:=PySem.Challenge.rw_modeyard_k25_goods_weighed) (n:=63) (k:=41) (x:="_law_script") (sp:=λK=>M.spM K (Lk25.caK K) 1 Lk25.vo) rfl (by decide) rfl ⟨rfl,by decide,by decide⟩ (by decide +kernel) (λw h Y=>PySem.W.kIn_of Y) ?F ?S
 case F=>
  intro w mg fa h KX G hmg
  refine' Lk25.all_mk KX G hmg rfl ?aC_Yard ?g1_Yard ?g2_Yard ?g3_Yard ?g4_Yard ?mk_Yard ?kC_Yard ?aC_NoWeights ?aC_TooMany ?aC_NoWork ?aC_NoWay ?aC_NoText ?aC_NoRow ?aC_NoRatio ?aC_NoName ?aC_NoGood ?aC_NoFit ?aC_NoBalance ?aC_NoAmount ?aC_YardError ?gt0 ?tk0 ?ga_NoWeights ?gh_NoWeights ?gc_NoWeights ?mo_NoWeights ?mb_NoWeights ?xq_NoWeights ?it_NoAmount_NoBalance_NoFit_NoGood_NoName_NoRatio_NoRow_NoText_NoWay_NoWork_TooMany_NoWeights ?ik_NoWeights_NoWeights ?iy_ValueError_NoWeights ?ex_YardError_NoWeights ?nf_Yard_held_changes ?nf_Yard_held_works ?nf_Yard_held_goods ?a0 ?l0 ?c0 ?k0 ?a1 ?l1 ?c1 ?k1 ?a2 ?q2 ?l2 ?c2 ?k2 ?a3 ?q3 ?l3 ?c3 ?k3 ?a4 ?l4 ?c4 ?k4 ?a5 ?q5 ?l5 ?c5 ?k5 ?a6 ?l6 ?c6 ?k6 ?a7 ?l7 ?c7 ?k7 ?a8 ?l8 ?c8 ?k8 ?a9 ?l9 ?c9 ?k9 ?a10 ?l10 ?c10 ?k10 ?a11 ?l11 ?c11 ?k11 ?a12 ?l12 ?c12 ?k12 ?a13 ?l13 ?c13 ?k13 ?a14 ?l14 ?c14 ?k14 ?a15 ?l15 ?c15 ?k15 ?a16 ?l16 ?c16 ?k16 ?a17 ?l17 ?c17 ?k17 ?a18 ?l18 ?c18 ?k18 ?a19 ?l19 ?c19 ?k19 ?a20 ?q20 ?l20 ?c20 ?k20 ?a21 ?l21 ?c21 ?k21 ?a22 ?l22 ?c22 ?k22 ?a23 ?l23 ?c23 ?k23 ?a24 ?l24 ?c24 ?k24 ?a25 ?l25 ?c25 ?k25 ?a26 ?l26 ?c26 ?k26 ?a27 ?l27 ?c27 ?k27 ?a28 ?l28 ?c28 ?k28 ?a29 ?l29 ?c29 ?k29 ?a30 ?l30 ?c30 ?k30 ?a31 ?l31 ?c31 ?k31 ?a32 ?l32 ?c32 ?k32 ?z_isinstance ?z_int ?z_bool ?z_zip ?z_sum ?z_list ?z_len ?z_range ?z_all ?z_enumerate ?z_max ?z_ValueError ?y_MOST_LETTERS ?y_MOST_GOODS ?y_MOST_WORKS
  (case aC_Yard=>k_is)
  (case g1_Yard=>k_is)
  (case g2_Yard=>k_is)
  (case g3_Yard=>k_is)
  (case g4_Yard=>k_is)
  (case mk_Yard=>k_is)
  (case kC_Yard=>k_is)
  (case aC_NoWeights=>k_is)
  (case aC_TooMany=>k_is)
  (case aC_NoWork=>k_is)
  (case aC_NoWay=>k_is)
  (case aC_NoText=>k_is)
  (case aC_NoRow=>k_is)
  (case aC_NoRatio=>k_is)
  (case aC_NoName=>k_is)
  (case aC_NoGood=>k_is)
  (case aC_NoFit=>k_is)
  (case aC_NoBalance=>k_is)
  (case aC_NoAmount=>k_is)
  (case aC_YardError=>k_is)
  (case gt0=>k_is)
  (case tk0=>k_is)
  (case ga_NoWeights=>k_is)
  (case gh_NoWeights=>k_is)
  (case gc_NoWeights=>k_is)
  (case mo_NoWeights=>k_is)
  (case mb_NoWeights=>k_is)
  (case xq_NoWeights=>k_exc)
  (case it_NoAmount_NoBalance_NoFit_NoGood_NoName_NoRatio_NoRow_NoText_NoWay_NoWork_TooMany_NoWeights=>kit_is)
  (case ik_NoWeights_NoWeights=>kit_is)
  (case iy_ValueError_NoWeights=>kit_is)
  (case ex_YardError_NoWeights=>kts_exm)
  (case nf_Yard_held_changes=>k_is)
  (case nf_Yard_held_works=>k_is)
  (case nf_Yard_held_goods=>k_is)
  (case a0=>k_is)
  (case l0=>k_is)
  (case c0=>k_is)
  (case k0=>k_is)
  (case a1=>k_is)
  (case l1=>k_is)
  (case c1=>k_is)
  (case k1=>k_is)
  (case a2=>k_is)
  (case q2=>k_is)
  (case l2=>k_is)
  (case c2=>k_is)
  (case k2=>k_is)
  (case a3=>k_is)
  (case q3=>k_is)
  (case l3=>k_is)
  (case c3=>k_is)
  (case k3=>k_is)
  (case a4=>k_is)
  (case l4=>k_is)
  (case c4=>k_is)
  (case k4=>k_is)
  (case a5=>k_is)
  (case q5=>k_is)
  (case l5=>k_is)
  (case c5=>k_is)
  (case k5=>k_is)
  (case a6=>k_is)
  (case l6=>k_is)
  (case c6=>k_is)
  (case k6=>k_is)
  (case a7=>k_is)
  (case l7=>k_is)
  (case c7=>k_is)
  (case k7=>k_is)
  (case a8=>k_is)
  (case l8=>k_is)
  (case c8=>k_is)
  (case k8=>k_is)
  (case a9=>k_is)
  (case l9=>k_is)
  (case c9=>k_is)
  (case k9=>k_is)
  (case a10=>k_is)
  (case l10=>k_is)
  (case c10=>k_is)
  (case k10=>k_is)
  (case a11=>k_is)
  (case l11=>k_is)
  (case c11=>k_is)
  (case k11=>k_is)
  (case a12=>k_is)
  (case l12=>k_is)
  (case c12=>k_is)
  (case k12=>k_is)
  (case a13=>k_is)
  (case l13=>k_is)
  (case c13=>k_is)
  (case k13=>k_is)
  (case a14=>k_is)
  (case l14=>k_is)
  (case c14=>k_is)
  (case k14=>k_is)
  (case a15=>k_is)
  (case l15=>k_is)
  (case c15=>k_is)
  (case k15=>k_is)
  (case a16=>k_is)
  (case l16=>k_is)
  (case c16=>k_is)
  (case k16=>k_is)
  (case a17=>k_is)
  (case l17=>k_is)
  (case c17=>k_is)
  (case k17=>k_is)
  (case a18=>k_is)
  (case l18=>k_is)
  (case c18=>k_is)
  (case k18=>k_is)
  (case a19=>k_is)
  (case l19=>k_is)
  (case c19=>k_is)
  (case k19=>k_is)
  (case a20=>k_is)
  (case q20=>k_is)
  (case l20=>k_is)
  (case c20=>k_is)
  (case k20=>k_is)
  (case a21=>k_is)
  (case l21=>k_is)
  (case c21=>k_is)
  (case k21=>k_is)
  (case a22=>k_is)
  (case l22=>k_is)
  (case c22=>k_is)
  (case k22=>k_is)
  (case a23=>k_is)
  (case l23=>k_is)
  (case c23=>k_is)
  (case k23=>k_is)
  (case a24=>k_is)
  (case l24=>k_is)
  (case c24=>k_is)
  (case k24=>k_is)
  (case a25=>k_is)
  (case l25=>k_is)
  (case c25=>k_is)
  (case k25=>k_is)
  (case a26=>k_is)
  (case l26=>k_is)
  (case c26=>k_is)
  (case k26=>k_is)
  (case a27=>k_is)
  (case l27=>k_is)
  (case c27=>k_is)
  (case k27=>k_is)
  (case a28=>k_is)
  (case l28=>k_is)
  (case c28=>k_is)
  (case k28=>k_is)
  (case a29=>k_is)
  (case l29=>k_is)
  (case c29=>k_is)
  (case k29=>k_is)
  (case a30=>k_is)
  (case l30=>k_is)
  (case c30=>k_is)
  (case k30=>k_is)
  (case a31=>k_is)
  (case l31=>k_is)
  (case c31=>k_is)
  (case k31=>k_is)
  (case a32=>k_is)
  (case l32=>k_is)
  (case c32=>k_is)
  (case k32=>k_is)
  (case z_isinstance=>k_is)
  (case z_int=>k_is)
  (case z_bool=>k_is)
  (case z_zip=>k_is)
  (case z_sum=>k_is)
  (case z_list=>k_is)
  (case z_len=>k_is)
  (case z_range=>k_is)
  (case z_all=>k_is)
  (case z_enumerate=>k_is)
  (case z_max=>k_is)
  (case z_ValueError=>k_is)
  (case y_MOST_LETTERS=>k_is)
  (case y_MOST_GOODS=>k_is)
  (case y_MOST_WORKS=>k_is)
 case S=>exact λK H a ns hl _ hS=>M.GS hS (Lk25.CL ns hl)