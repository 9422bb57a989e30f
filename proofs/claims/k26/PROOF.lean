import PyProof.Rows.All
import Wide.All
import OpenK.AllK
import Wide.FinOn
import Lean
import PyProof.EqAt
import PyProof.EqKinds
import PyProof.TupleCall
import PySem.Challenge.RW_modeyard_k26_kept_sums
set_option Elab.async false
set_option linter.all false
set_option maxRecDepth 100000
namespace L2
open PySem PySem.Spec PyProof.Rows
abbrev Key:=Sum Int Str
def GB:Key->Value->Bool
 | .inl k,v=>Value.isInt k v
 | .inr x,v=>Value.isStrOf x v
def LR(w:World):Key->Int
 | .inl k=>hashInt k
 | .inr x=>hashStr w x
theorem eO:∀{k:Key} {v:Value},GB k v=true->(∃i t,k=Sum.inl i/\v=Value.int i t)\/(∃x t,k=Sum.inr x/\v=Value.str x t)
 | .inl i,v,h=>by
  obtain⟨t,e⟩:=Value.isInt_shape (k:=i) (v:=v) h
  exact .inl ⟨i,t,rfl,e⟩
 | .inr x,v,h=>by
  obtain⟨t,e⟩:=Value.isStrOf_shape (x:=x) (v:=v) h
  exact .inr ⟨x,t,rfl,e⟩
theorem Km(a b:Int):decide ((Sum.inl a:Key)=Sum.inl b)=(a == b):=by
 by_cases e:a=b
 ·subst e;simp
 ·have h:¬(Sum.inl a:Key)=Sum.inl b:=λq=>e (Sum.inl.inj q)
  rw[decide_eq_false h]
  exact(beq_eq_false_iff_ne.mpr e).symm
theorem IW(a b:Str):decide ((Sum.inr a:Key)=Sum.inr b)=decide (a=b):=by
 by_cases e:a=b
 ·subst e;simp
 ·have h:¬(Sum.inr a:Key)=Sum.inr b:=λq=>e (Sum.inr.inj q)
  rw[decide_eq_false h,decide_eq_false e]
theorem Jt(a:Int)(b:Str):decide ((Sum.inl a:Key)=Sum.inr b)=false:=decide_eq_false (λq=>nomatch q)
theorem JW(a:Str)(b:Int):decide ((Sum.inr a:Key)=Sum.inl b)=false:=decide_eq_false (λq=>nomatch q)
def uW(prog:Program)(w:World):PySem.KeyKind prog w Key where
 is:=GB
 hash:=LR w
 inj:=λv a b ha hb=>by
  rcases eO ha with⟨i,t,rfl,rfl⟩ | ⟨x,t,rfl,rfl⟩
  ·rcases eO hb with⟨j,u,rfl,e⟩ | ⟨y,u,rfl,e⟩
   ·injection e with e1 _;rw[e1]
   ·exact nomatch e
  ·rcases eO hb with⟨j,u,rfl,e⟩ | ⟨y,u,rfl,e⟩
   ·exact nomatch e
   ·injection e with e1 _;rw[e1]
 byValue:=λk v h=>by
  rcases eO h with⟨i,t,rfl,rfl⟩ | ⟨x,t,rfl,rfl⟩ <;> rfl
 pyHash:=λhv h=>by
  rcases eO hv with⟨i,t,rfl,rfl⟩ | ⟨x,t,rfl,rfl⟩
  ·exact wpAny_pyHash_int h
  ·exact wpAny_pyHash_str h
 eqBool:=λhu hv h=>by
  rcases eO hu with⟨i,t,rfl,rfl⟩ | ⟨x,t,rfl,rfl⟩
  ·rcases eO hv with⟨j,u,rfl,rfl⟩ | ⟨y,u,rfl,rfl⟩
   ·rw[Km] at h;exact wpAny_eqBool_int h
   ·rw[Jt] at h;exact SeqAt.EqAt.int_str i t y u _ _ _ _ h
  ·rcases eO hv with⟨j,u,rfl,rfl⟩ | ⟨y,u,rfl,rfl⟩
   ·rw[JW] at h;exact SeqAt.EqAt.str_int x t j u _ _ _ _ h
   ·rw[IW] at h;exact wpAny_eqBool_str h
 «strs»:=λk x t v h=>by
  rcases eO h with⟨i,u,rfl,e⟩ | ⟨y,u,rfl,e⟩
  ·exact nomatch e
  ·injection e with e1 _
   subst e1
   cases v <;> rfl
end L2
namespace L2
open PySem PySem.Spec PyProof.Rows
inductive V where
 | non | bl (b:Bool) | int (i:Int) | str (x:Str) | byt (b:Array UInt8) | flt (b:UInt64) | ref (a:Addr) | ty (n:String)
 deriving DecidableEq
def RelV:V->Value->Prop
 | .non,u=>u=Value.none
 | .bl b,u=>u=Value.bool b
 | .int i,u=>∃t,u=Value.int i t
 | .str x,u=>∃t,u=Value.str x t
 | .byt b,u=>∃t,u=Value.bytes b t
 | .flt b,u=>∃t,u=Value.float b t
 | .ref a,u=>u=Value.ref a
 | .ty n,u=>u=Value.type n
abbrev Vals:List V->List Value->Prop:=Paired RelV
theorem Vals.length{xs:List V}{us:List Value}(r:Vals xs us):xs.length=us.length:=Paired.length r
theorem Vals.get:∀{xs:List V} {us:List Value} {i:Nat} {x:V},Vals xs us->xs[i]? =some x->∃u,us[i]? =some u/\RelV x u
 | _,_,_,_,.nil,e=>by simp at e
 | _,_,0,_,.cons r _,e=>by simp at e;subst e;exact⟨_,rfl,r⟩
 | _,_,i+1,x,.cons _ t,e=>by
  obtain⟨u,h1,h2⟩:=Vals.get (i:=i) (x:=x) t (by simpa using e)
  exact⟨u,by simpa using h1,h2⟩
theorem Vals.set{x:V}{u:Value}(r:RelV x u):∀{xs:List V} {us:List Value} (i:Nat),Vals xs us->Vals (xs.set i x) (us.set i u)
 | _,_,_,.nil=>.nil
 | _,_,0,.cons _ t=>.cons r t
 | _,_,i+1,.cons q t=>.cons q (Vals.set r i t)
theorem Vals.append:∀{xs ys:List V} {us ws:List Value},Vals xs us->Vals ys ws->Vals (xs++ys) (us++ws)
 | _,_,_,_,.nil,s=>s
 | _,_,_,_,.cons r t,s=>.cons r (Vals.append t s)
theorem Vals.take:∀{xs:List V} {us:List Value} (n:Nat),Vals xs us->Vals (xs.take n) (us.take n)
 | _,_,0,_=>.nil
 | _,_,_+1,.nil=>.nil
 | _,_,n+1,.cons r t=>.cons r (Vals.take n t)
theorem Vals.drop:∀{xs:List V} {us:List Value} (n:Nat),Vals xs us->Vals (xs.drop n) (us.drop n)
 | _,_,0,r=>r
 | _,_,_+1,.nil=>.nil
 | _,_,n+1,.cons _ t=>Vals.drop n t
theorem Vals.none_of:∀{xs:List V} {us:List Value} {i:Nat},Vals xs us->xs[i]? =none->us[i]? =none:=λ{xs us i} r e=>by
 have h1:=r.length
 have h2:xs.length<=i:=List.getElem?_eq_none_iff.mp e
 exact List.getElem?_eq_none_iff.mpr (by omega)
def oG:Option V->Option Value->Prop
 | some v,some u=>RelV v u
 | none,none=>True
 | _,_=>False
def KV{κ:Type}:List (κ×V)->List (κ×Value)->Prop:=Paired λ(p:κ×V) (q:κ×Value)=>p.1=q.1/\RelV p.2 q.2
def kV:Key->V
 | .inl i=>.int i
 | .inr x=>.str x
inductive HO where
 | lst (xs:List V)
 | tup (xs:List V)
 | dK (kvs:List (Key×V)) | dT (kvs:List (List Key×V))
 | set (S:Int->Bool) (n:Nat)
 | ins (C dx:Addr) (fs:List (Str×V))
 | own (x:Addr)
 | xd (fs:List (Str×V))
 | met (f x:Addr)
 | rng (lo hi:Int)
 | frz (o:Obj) (u:HO)
 | tbl (ps:Array Value)
 | ext (φ:Heap->Prop)
abbrev Hp:=Addr->Option HO
def upd(H:Hp)(a:Addr)(o:HO):Hp:=λb=>if b=a then some o else H b
theorem cC{H:Hp}{a:Addr}{o:HO}:upd H a o a=some o:=by unfold upd;rw[if_pos rfl]
theorem aP{H:Hp}{a b:Addr}{o:HO}(h:b≠a):upd H a o b=H b:=by unfold upd;rw[if_neg h]
theorem eR{H:Hp}{a b:Addr}{o:HO}(h:H a=some o)(h':H b=none):a≠b:=by
 intro e;subst e;rw[h] at h';cases h'
section
variable (P : Program) (w : World)
def fW(H:Hp)(h:Heap)(a:Addr):HO->Prop
 | .lst xs=>xs.length<=sizeLine/\∃(its:List Value) (n:Nat),Vals xs its/\h.get? a=some {cls:=.type "list",data:=.seq its.toArray n}
 | .tup xs=>xs.length<=sizeLine/\∃its:List Value,Vals xs its/\IsTup h a its.toArray
 | .dK kvs=>kvs.length<=sizeLine/\(a == sysModules)=false/\∃vs,KV kvs vs/\h.DictOf (uW P w) a vs
 | .dT kvs=>kvs.length<=sizeLine/\(a == sysModules)=false/\∃xs:List (List Key×Addr×Value),
  Paired (λ(p:List Key×V) (q:List Key×Addr×Value)=>p.1=q.1/\H q.2.1=some (.tup (p.1.map kV))/\RelV p.2 q.2.2) kvs xs/\
  ∃o es ep,h.get? a=some o/\o.ExactDict/\o.data=.dict es ep/\es.toList=xs.map (entryOfKey (tupleKind (uW P w)))/\(xs.map (·.1)).Nodup
 | .set S n=>h.SetOf (intKind P w) a S n
 | .ins C dx fs=>H dx=some (.own a)/\fs.length<=1000/\dx≠a/\h.get? a=some (PySem.W.instObj C dx)/\
  ∃mA,h.Ns1 dx mA/\(∀f,oG (fs.lookup f) (mA f))/\PySem.Within mA (fs.map (·.1))
 | .own _=>∃o,h.get? a=some o
 | .xd fs=>∃mA,h.Ns1 a mA/\∀f,oG (fs.lookup f) (mA f)
 | .rng lo hi=>∃t u v,h.get? a=some {cls:=.type "range",data:=.fields #[.int lo t,.int hi u,.int 1 v]}
 | .frz o u=>h.get? a=some o/\fW H h a u
 | .tbl ps=>h.get? a=some {cls:=.none,data:=.fields ps}
 | .met f x=>h.get? a=some (PySem.W.methodObj (.ref f) (.ref x))
 | .ext φ=>φ h/\(∃o,h.get? a=some o)/\∀h1 h2:Heap,φ h1->(∀o,h1.get? a=some o->h2.get? a=some o)->φ h2
def HOk(H:Hp)(h:Heap):Prop:=∀a o,H a=some o->fW P w H h a o
end
section
variable {P : Program} {w : World} {H H' : Hp} {h h' : Heap} {a : Addr} {o : HO}
theorem fW.lt(x:fW P w H h a o):a<h.objs.size:=by
 cases o with
 | lst xs=>obtain⟨_,_,_,_,e⟩:=x;exact Heap.lt_size e
 | tup xs=>obtain⟨_,_,_,p⟩:=x;exact p.lt
 | dK kvs=>obtain⟨_,_,_,_,o,_,_,e,_⟩:=x;exact Heap.lt_size e
 | dT kvs=>obtain⟨_,_,_,_,o,_,_,e,_⟩:=x;exact Heap.lt_size e
 | set S n=>obtain⟨o,_,_,_,e,_⟩:=x;exact Heap.lt_size e
 | ins C dx fs=>obtain⟨_,_,_,e,_⟩:=x;exact Heap.lt_size e
 | own y=>obtain⟨_,e⟩:=x;exact Heap.lt_size e
 | xd fs=>obtain⟨_,⟨_,_,_,e,_⟩,_⟩:=x;exact Heap.lt_size e
 | rng lo hi=>obtain⟨_,_,_,e⟩:=x;exact Heap.lt_size e
 | frz ob u=>obtain⟨e,_⟩:=x;exact Heap.lt_size e
 | tbl ps=>exact Heap.lt_size (show h.get? a=some _ from x)
 | met f y=>exact Heap.lt_size (show h.get? a=some _ from x)
 | ext φ=>obtain⟨_,⟨_,e⟩,_⟩:=x;exact Heap.lt_size e
theorem Paired.mapP{α β:Type}{F G:α->β->Prop}:∀{l₁:List α} {l₂:List β},Paired F l₁ l₂->(∀a b,F a b->G a b)->Paired G l₁ l₂
 | _,_,.nil,_=>.nil
 | _,_,.cons r t,f=>.cons (f _ _ r) (Paired.mapP t f)
theorem fW.stay (x:fW P w H h a o) (k:∀b u,(b=a\/H b=some (.own a))->h.get? b=some u->h'.get? b=some u)
 (ho:∀b,H b=some (.own a)->H' b=some (.own a)) (ht:∀b xs,H b=some (.tup xs)->H' b=some (.tup xs)):fW P w H' h' a o:=by
 induction o with
 | lst xs=>obtain⟨z,its,n,r,e⟩:=x;exact⟨z,its,n,r,k _ _ (.inl rfl) e⟩
 | tup xs=>obtain⟨z,its,r,ob,e,c⟩:=x;exact⟨z,its,r,ob,k _ _ (.inl rfl) e,c⟩
 | dK kvs=>obtain⟨z,y,vs,r,ob,es,ep,e,c⟩:=x;exact⟨z,y,vs,r,ob,es,ep,k _ _ (.inl rfl) e,c⟩
 | dT kvs=>
  obtain⟨z,y,xs,r,ob,es,ep,e,c⟩:=x
  exact⟨z,y,xs,Paired.mapP r λp q z=>⟨z.1,ht _ _ z.2.1,z.2.2⟩,ob,es,ep,k _ _ (.inl rfl) e,c⟩
 | set S n=>obtain⟨ob,es,ep,t,e,c⟩:=x;exact⟨ob,es,ep,t,k _ _ (.inl rfl) e,c⟩
 | ins C dx fs=>
  obtain⟨d,z,ne,e,mA,⟨od,es,ep,e2,c⟩,r⟩:=x
  exact⟨ho _ d,z,ne,k _ _ (.inl rfl) e,mA,⟨od,es,ep,k _ _ (.inr d) e2,c⟩,r⟩
 | own y=>obtain⟨ob,e⟩:=x;exact⟨ob,k _ _ (.inl rfl) e⟩
 | xd fs=>obtain⟨mA,⟨od,es,ep,e,c⟩,r⟩:=x;exact⟨mA,⟨od,es,ep,k _ _ (.inl rfl) e,c⟩,r⟩
 | rng lo hi=>obtain⟨t,u,v,e⟩:=x;exact⟨t,u,v,k _ _ (.inl rfl) e⟩
 | frz ob u ih=>obtain⟨e,q⟩:=x;exact⟨k _ _ (.inl rfl) e,ih q⟩
 | tbl ps=>
  have e:h.get? a=some {cls:=.none,data:=.fields ps}:=x
  show h'.get? a=some {cls:=.none,data:=.fields ps}
  exact k a _ (.inl rfl) e
 | met f y=>
  have e:h.get? a=some (PySem.W.methodObj (.ref f) (.ref y)):=x
  show h'.get? a=some (PySem.W.methodObj (.ref f) (.ref y))
  exact k a _ (.inl rfl) e
 | ext φ=>obtain⟨p,⟨o,e⟩,st⟩:=x;exact⟨st _ _ p λo q=>k _ _ (.inl rfl) q,⟨o,k _ _ (.inl rfl) e⟩,st⟩
theorem HOk.lt(x:HOk P w H h)(e:H a=some o):a<h.objs.size:=(x a o e).lt
theorem HOk.fresh(x:HOk P w H h)(e:h.objs.size<=a):H a=none:=by
 cases q:H a with
 | none=>rfl
 | some u=>exact absurd (Nat.lt_of_lt_of_le (x.lt q) e) (Nat.lt_irrefl _)
theorem HOk.kept(x:HOk P w H h)(k:∀b u,h.get? b=some u->h'.get? b=some u):HOk P w H h':=λa o e=>
 (x a o e).stay (λb u _ q=>k b u q) (λ_ q=>q) λ_ _ q=>q
theorem HOk.laid(x:HOk P w H h)(k:∀b u,h.get? b=some u->h'.get? b=some u)(hp:h.objs.size<=a)(new:fW P w (upd H a o) h' a o):HOk P w (upd H a o) h':=λb u e=>by
 have hn:=x.fresh hp
 by_cases hb:b=a
 ·subst hb;rw[cC] at e;cases e;exact new
 ·rw[aP hb] at e
  exact(x b u e).stay (λc v _ q=>k c v q) (λc q=>by rw[aP (eR q hn)];exact q) λc xs q=>by rw[aP (eR q hn)];exact q
end
def Rd(H:Hp)(a:Addr)(u:HO):Prop:=H a=some u\/∃o,H a=some (.frz o u)
theorem Rd.of{H:Hp}{a:Addr}{u:HO}(h:H a=some u):Rd H a u:=.inl h
theorem Rd.ok{P:Program}{w:World}{H:Hp}{h:Heap}{a:Addr}{u:HO}(r:Rd H a u)(x:HOk P w H h):fW P w H h a u:=by
 rcases r with r | ⟨o,r⟩
 ·exact x a u r
 ·obtain⟨_,q⟩:=x a _ r
  exact q
def Mut:Option HO->Prop
 | some (.lst _)=>True
 | some (.dK _)=>True
 | some (.dT _)=>True
 | some (.set _ _)=>True
 | some (.ins _ _ _)=>True
 | some (.ext _)=>True
 | _=>False
section
variable {P : Program} {w : World} {H : Hp} {h h' : Heap} {x e : Addr} {o' : HO}
theorem HOk.write (ok:HOk P w H h) (mu:Mut (H x)) (he:e=x\/H e=some (.own x)) (k:∀b u,b≠e->h.get? b=some u->h'.get? b=some u) (heo:∃u,h'.get? e=some u)
 (new:fW P w (upd H x o') h' x o'):HOk P w (upd H x o') h':=λb u q=>by
 have nown:∀c y,H c=some (.own y)->c≠x:=λc y r z=>by subst z;rw[r] at mu;exact mu
 have ntup:∀c xs,H c=some (.tup xs)->c≠x:=λc xs r z=>by subst z;rw[r] at mu;exact mu
 by_cases hb:b=x
 ·subst hb;rw[cC] at q;cases q;exact new
 ·rw[aP hb] at q
  by_cases hbe:b=e
  ·have q':H b=some (.own x):=by
    rcases he with z | z
    ·exact absurd (hbe.trans z) hb
    ·rw[hbe];exact z
   rw[q] at q';cases q'
   obtain⟨v,hv⟩:=heo
   exact⟨v,by rw[hbe];exact hv⟩
  ·refine(ok b u q).stay (λc v hc r=>k c v ?_ r) (λc r=>by rw[aP (nown c b r)];exact r) λc xs r=>by rw[aP (ntup c xs r)];exact r
   rcases hc with rfl | hc
   ·exact hbe
   ·rintro rfl
    rcases he with z | z
    ·exact nown c b hc z
    ·rw[hc] at z;cases z;exact hb rfl
end
structure Un(fs ex:List Addr)(H H':Hp)(h h':Heap):Prop where
 keep:∀b o,h.get? b=some o->H b=none->b∉fs->b∉ex->h'.get? b=some o
 slot:∀b o,h.get? b=some o->H b=none->b∈fs->b∉ex->∃sl,h'.get? b=some {o with slots:=sl}
 free:∀b o,h.get? b=some o->H b=none->b∉ex->H' b=none
 there:∀b o,h.get? b=some o->b∉ex->∃o',h'.get? b=some o'
 tups:∀b xs,H b=some (.tup xs)->H' b=some (.tup xs)
 frzs:∀b o u,H b=some (.frz o u)->H' b=some (.frz o u)
 tbls:∀b ps,H b=some (.tbl ps)->∃more,H' b=some (.tbl (ps++more))
section
variable {fs fs' ex ex' : List Addr} {H H1 H2 : Hp} {h h1 h2 h' : Heap} {a x e : Addr} {o : HO}
theorem Un.any(u:Un fs ex H H1 h h1){b:Addr}{ob:Obj}(q:h.get? b=some ob)(n:H b=none)(hx:b∉ex):∃sl,h1.get? b=some {ob with slots:=sl}:=by
 by_cases hb:b∈fs
 ·exact u.slot b ob q n hb hx
 ·exact⟨ob.slots,u.keep b ob q n hb hx⟩
theorem Un.trans(a:Un fs ex H H1 h h1)(b:Un fs ex H1 H2 h1 h2):Un fs ex H H2 h h2 where
 keep:=λc ob q n hc hx=>b.keep c ob (a.keep c ob q n hc hx) (a.free c ob q n hx) hc hx
 slot:=λc ob q n hc hx=>by
  obtain⟨sl,e1⟩:=a.slot c ob q n hc hx
  obtain⟨sl',e2⟩:=b.slot c _ e1 (a.free c ob q n hx) hc hx
  exact⟨sl',e2⟩
 free:=λc ob q n hx=>by
  obtain⟨o',e1⟩:=a.there c ob q hx
  exact b.free c o' e1 (a.free c ob q n hx) hx
 there:=λc ob q hx=>by
  obtain⟨o',e1⟩:=a.there c ob q hx
  exact b.there c o' e1 hx
 tups:=λc xs q=>b.tups c xs (a.tups c xs q)
 frzs:=λc ob xs q=>b.frzs c ob xs (a.frzs c ob xs q)
 tbls:=λc ps q=>by
  obtain⟨m1,e1⟩:=a.tbls c ps q
  obtain⟨m2,e2⟩:=b.tbls c _ e1
  exact⟨m1++m2,by rw[e2,Array.append_assoc]⟩
theorem Un.kept(k:∀b u,h.get? b=some u->h'.get? b=some u):Un fs ex H H h h':=
 ⟨λb ob q _ _ _=>k b ob q,λb ob q _ _ _=>⟨ob.slots,k b ob q⟩,λ_ _ _ n _=>n,λb ob q _=>⟨ob,k b ob q⟩,λ_ _ q=>q,λ_ _ _ q=>q,λ_ ps q=>⟨#[],by rw[q];simp⟩⟩
theorem Un.refl:Un fs ex H H h h:=Un.kept λ_ _ q=>q
theorem Un.laid(k:∀b u,h.get? b=some u->h'.get? b=some u)(hp:h.objs.size<=a)(hn:H a=none):Un fs ex H (upd H a o) h h' where
 keep:=λb u q _ _ _=>k b u q
 slot:=λb u q _ _ _=>⟨u.slots,k b u q⟩
 free:=λb u q n _=>by rw[aP (Nat.ne_of_lt (Nat.lt_of_lt_of_le (Heap.lt_size q) hp))];exact n
 there:=λb u q _=>⟨u,k b u q⟩
 tups:=λb xs q=>by rw[aP (eR q hn)];exact q
 frzs:=λb u xs q=>by rw[aP (eR q hn)];exact q
 tbls:=λb ps q=>⟨#[],by rw[aP (eR q hn),q];simp⟩
theorem Un.write(mu:Mut (H x))(he:e=x\/H e=some (.own x))(k:∀b u,b≠e->h.get? b=some u->h'.get? b=some u)(heo:∃u,h'.get? e=some u):Un fs ex H (upd H x o) h h':=by
 have hx:∀b,H b=none->b≠x:=λb n z=>by subst z;rw[n] at mu;exact mu
 have hb:∀b,H b=none->b≠e:=λb n z=>by
  subst z
  rcases he with r | r
  ·exact hx b n r
  ·rw[n] at r;cases r
 have hm:∀b u,H b=some u->¬Mut (some u)->b≠x:=λb u q nm z=>by subst z;rw[q] at mu;exact nm mu
 refine⟨λb u q n _ _=>k b u (hb b n) q,λb u q n _ _=>⟨u.slots,k b u (hb b n) q⟩,λb u q n _=>by rw[aP (hx b n)];exact n,λb u q _=> ?_,
  λb xs q=>by rw[aP (hm b _ q λz=>z)];exact q,λb u xs q=>by rw[aP (hm b _ q λz=>z)];exact q,λb ps q=>⟨#[],by rw[aP (hm b _ q λz=>z),q];simp⟩⟩
 by_cases hbe:b=e
 ·subst hbe;exact heo
 ·exact⟨u,k b u hbe q⟩
theorem Un.mono(u:Un fs ex H H1 h h1)(hs:∀b∈fs,b∈fs')(hx:∀b∈ex,b∈ex'):Un fs' ex' H H1 h h1:=
 ⟨λb ob q n hb he=>u.keep b ob q n (λz=>hb (hs b z)) λz=>he (hx b z),λ_ _ q n _ he=>u.any q n λz=>he (hx _ z),λb ob q n he=>u.free b ob q n λz=>he (hx b z),λb ob q he=>u.there b ob q λz=>he (hx b z),u.tups,u.frzs,u.tbls⟩
end
def trk(h:Heap)(H:Hp):List Addr:=(List.range h.objs.size).filter λa=>(H a).isSome
def oI(h:Heap)(H:Hp):Heap:=PySem.W.hideAll h (trk h H)
theorem Dx(h:Heap)(H:Hp):(oI h H).objs.size=h.objs.size:=PySem.W.hideAll_size _ _
theorem FR{h:Heap}{H:Hp}{b:Addr}{o:Obj}(e:h.get? b=some o)(n:H b=none):(oI h H).get? b=some o:=
 PySem.W.hideAll_get _ e λhm=>by
  have q:(H b).isSome=true:=(List.mem_filter.mp hm).2
  rw[n] at q;simp at q
theorem Ij{h:Heap}{H:Hp}{b:Addr}{o:Obj}(e:(oI h H).get? b=some o):h.get? b=some o/\H b=none:=by
 have e':h.get? b=some o:=PySem.W.of_hideAll (trk h H) e
 refine⟨e', ?_⟩
 cases q:H b with
 | none=>rfl
 | some x=>
  have hm:b∈trk h H:=List.mem_filter.mpr ⟨List.mem_range.mpr (Heap.lt_size e'),by simp[q]⟩
  have z:(oI h H).get? b=none:=PySem.W.hideAll_none (trk h H) hm
  rw[z] at e;cases e
def HW(g h:Heap)(L:Addr):List (Addr×Obj):=(List.range h.objs.size).filterMap λa=>if a=L\/(g.get? a).isSome=true then none else (h.get? a).map λo=>(a,o)
def rest(g h:Heap)(L d:Addr):List (Addr×Obj):=(HW g h L).filter λp=>decide (p.1≠d)
end L2
namespace L2
open PySem PySem.Spec PyProof.Rows
structure Mod(K:PySem.W.Frag)(mg:Str->Option Value)(base:Heap):Prop where
 kin:K.In base
 glob:base.Ns mainGlobals mg
 blt:∃mb,base.Ns builtinsNs mb/\∀x:Str,x≠"__name__" ->mb x=bootBuiltins x
 nolimit:base.NoLimit
 seer:base.NoSeer
structure Cx where
 prog:Program
 w:World
 K:PySem.W.Frag
 mg:Str->Option Value
 base:Heap
 A:Around
 N:List Str
 s₀:Shared
 H₀:Hp
 env:Env
 outer:List Env
 stack:List Env
 ex:List Addr
 fn:Str->Bool
 calm:Bool
 pn:List (Addr×Obj)
 xe:Value->Shared->Prop
def frs(l:List Env):List Addr:=l.filterMap (·.frame)
abbrev Cx.fs(X:Cx):List Addr:=frs X.outer
def Vis(sc:Scope)(x:Str):Prop:=sc.names.lookup x=some .local\/sc.names.lookup x=some .cell\/sc.names.lookup x=some .free
def Loc(sc:Scope)(x:Str):Prop:=sc.names.lookup x=some .local\/sc.names.lookup x=some .cell
def Look(env:Env)(h:Heap)(m:Str->Option Value)(x:Str)(u:Value):Prop:=
 (env.kindOf x=some .local/\m x=some u)\/((env.kindOf x=some .cell\/env.kindOf x=some .free)/\∃c,env.cells.lookup x=some c/\h.IsCell c (some u))
structure Cx.Ok(X:Cx):Prop where
 mod:Mod X.K X.mg X.base
 kind:X.env.scope.kind=.function
 glob:X.env.globals=mainGlobals
 blt:X.env.builtins=builtinsNs
 above:X.s₀.heap.objs.size<=X.env.locals
 inj:∀x y c,X.env.cells.lookup x=some c->X.env.cells.lookup y=some c->x=y
 has:∀x,(X.env.kindOf x=some .cell\/X.env.kindOf x=some .free)->∃c,X.env.cells.lookup x=some c
 cab:∀x c,X.fn x=true->X.env.cells.lookup x=some c->X.s₀.heap.objs.size<=c
 hd:X.calm=true->X.A.handled=none
 frames:X.A.frames=some X.stack
 stk:X.stack=X.outer\/(X.stack=X.env::X.outer/\X.env.frame=some X.env.locals)
 exf:∀b∈X.ex,b≠X.env.locals/\∀x c,X.env.cells.lookup x=some c->c≠b
 bs:∀b o,X.base.get? b=some o->X.s₀.heap.get? b=some o/\X.H₀ b=none
 bsz:X.base.objs.size<=X.s₀.heap.objs.size
 noex:∀b o,X.base.get? b=some o->b∉X.ex
 exfs:∀b∈X.ex,b∉X.fs
 funs:X.s₀.heap.FunFrames X.base X.outer
 frf:∀b∈X.fs,X.H₀ b=none
structure Inv(X:Cx)(pins:List (Addr×Obj))(σ:List (Option V))(H:Hp)(s:Shared):Prop where
 ok:X.Ok
 os:s.os=X.s₀.os
 bare:AllBare s.gens
 base:Un X.fs X.ex X.H₀ H X.s₀.heap s.heap
 loc:∃m,s.heap.Ns X.env.locals m/\∀(i:Nat) (x:Str) (v:V),X.N[i]? =some x->σ[i]? =some (some v)->Vis X.env.scope x->∃u,RelV v u/\Look X.env s.heap m x u
 cell:∀x c,X.env.cells.lookup x=some c->∃v,s.heap.IsCell c v
 free:H X.env.locals=none
 freeC:∀x c,X.env.cells.lookup x=some c->H c=none
 pin:∀p∈X.pn++pins,s.heap.get? p.1=some p.2/\H p.1=none/\p.1≠X.env.locals/\p.1∉X.fs/\∀v,p.2.data≠ .cell v
 hok:HOk X.prog X.w H s.heap
 len:σ.length=X.N.length
section
variable {X : Cx} {pins : List (Addr × Obj)} {σ : List (Option V)} {H H' : Hp} {s : Shared} {h' : Heap}
theorem Cx.Ok.nofr(ok:X.Ok){b:Addr}{o:Obj}(e:X.base.get? b=some o):b∉X.fs:=λhb=>by
 have:=(ok.funs.mem hb).1
 rw[e] at this;cases this
theorem Inv.bs(I:Inv X pins σ H s):∀b o,X.base.get? b=some o->s.heap.get? b=some o/\H b=none:=λb o e=>
 ⟨I.base.keep b o (I.ok.bs b o e).1 (I.ok.bs b o e).2 (I.ok.nofr e) (I.ok.noex b o e),I.base.free b o (I.ok.bs b o e).1 (I.ok.bs b o e).2 (I.ok.noex b o e)⟩
theorem Inv.bk(I:Inv X pins σ H s):∀b o,X.base.get? b=some o->s.heap.get? b=some o:=λb o e=>(I.bs b o e).1
theorem Inv.mod(I:Inv X pins σ H s):Mod X.K X.mg X.base:=I.ok.mod
theorem Inv.kIn(I:Inv X pins σ H s):X.K.In s.heap:=I.ok.mod.kin.keeps I.bk
theorem Inv.nolimit(I:Inv X pins σ H s):s.heap.NoLimit:=I.ok.mod.nolimit.keeps I.bk
theorem Inv.noseer(I:Inv X pins σ H s):s.heap.NoSeer:=I.ok.mod.seer.keeps I.bk
theorem Inv.fr(I:Inv X pins σ H s):∃m,Fr X.base X.env.locals s.heap m:=
 let ⟨m,hn,_⟩:=I.loc
 ⟨m,hn,I.bk,Nat.le_trans I.ok.bsz I.ok.above⟩
theorem Inv.lt(I:Inv X pins σ H s):X.env.locals<s.heap.objs.size:=let ⟨_,hn,_⟩:=I.loc;hn.lt
theorem Inv.sz(I:Inv X pins σ H s):X.s₀.heap.objs.size<=s.heap.objs.size:=Nat.le_trans I.ok.above (Nat.le_of_lt I.lt)
theorem Inv.nofs(I:Inv X pins σ H s){a:Addr}(h:s.heap.objs.size<=a):a∉X.fs:=λhb=>by
 obtain⟨_,o,ho,_⟩:=I.ok.funs.mem hb
 exact absurd (Nat.lt_of_lt_of_le (Heap.lt_size ho) (Nat.le_trans I.sz h)) (Nat.lt_irrefl _)
theorem Inv.cne(I:Inv X pins σ H s):∀x c,X.env.cells.lookup x=some c->c≠X.env.locals:=λx c e z=>by
 obtain⟨v,o,ho,hd⟩:=I.cell x c e
 obtain⟨m,⟨o',es,ep,ho',hd',_⟩,_⟩:=I.loc
 rw[z,ho'] at ho;cases ho;rw[hd'] at hd;cases hd
theorem Inv.funs(I:Inv X pins σ H s):s.heap.FunFrames X.base X.outer:=by
 have all:∀(l:List Env),(∀b∈frs l,b∈X.fs)->X.s₀.heap.FunFrames X.base l->s.heap.FunFrames X.base l:=by
  intro l
  induction l with
  | nil=>intro _ _;trivial
  | cons env r ih=>
   intro hs hl
   obtain⟨hk,⟨L,o,hf,hn,ho,hd⟩,hr⟩:=hl
   have hL:L∈X.fs:=hs L (by unfold frs;rw[List.filterMap_cons,hf];exact List.mem_cons_self)
   obtain⟨sl,e⟩:=I.base.slot L o ho (I.ok.frf L hL) hL λz=>I.ok.exfs L z hL
   exact⟨hk,⟨L,_,hf,hn,e,hd⟩,ih (λb hb=>hs b (by unfold frs;rw[List.filterMap_cons,hf];exact List.mem_cons_of_mem _ hb)) hr⟩
 exact all X.outer (λ_ hb=>hb) I.ok.funs
theorem Inv.stack(I:Inv X pins σ H s):s.heap.FunFrames X.base X.stack:=by
 rcases I.ok.stk with e | ⟨e,hf⟩
 ·rw[e];exact I.funs
 ·rw[e]
  obtain⟨m,hn,_⟩:=I.loc
  refine .cons (by rw[I.ok.kind];decide) hf hn ?_ I.funs
  exact Heap.get?_none_of_le (Nat.le_trans I.ok.bsz I.ok.above)
theorem Inv.stkSub(I:Inv X pins σ H s):∀b∈frs X.stack,b∈X.env.locals::X.fs:=λb hb=>by
 rcases I.ok.stk with e | ⟨e,hf⟩
 ·rw[e] at hb;exact List.mem_cons_of_mem _ hb
 ·rw[e] at hb
  unfold frs at hb
  rw[List.filterMap_cons,hf] at hb
  exact hb
theorem Inv.stkFree(I:Inv X pins σ H s):∀b∈frs X.stack,H b=none:=λb hb=>by
 rcases List.mem_cons.mp (I.stkSub b hb) with e | hb
 ·rw[e];exact I.free
 ·obtain⟨_,o,ho,_⟩:=I.ok.funs.mem hb
  exact I.base.free b o ho (I.ok.frf b hb) λz=>I.ok.exfs b z hb
theorem Inv.step {g':Array GenState} {t':Nat} {d':Drawn} {ch:List Addr} (I:Inv X pins σ H s)
 (hch:∀b∈ch,(b∈X.ex\/X.s₀.heap.objs.size<=b)/\b≠X.env.locals/\(∀x c,X.env.cells.lookup x=some c->c≠b)/\∀p∈X.pn++pins,p.1≠b)
 (keep:∀b o,b≠X.env.locals->b∉X.fs->b∉ch->s.heap.get? b=some o->H b=none->h'.get? b=some o)
 (slot:∀b o,b≠X.env.locals->b∈X.fs->b∉ch->s.heap.get? b=some o->H b=none->∃sl,h'.get? b=some {o with slots:=sl}) (free:∀b o,b∉ch->s.heap.get? b=some o->H b=none->H' b=none)
 (there:∀b o,b∉ch->s.heap.get? b=some o->∃o',h'.get? b=some o')
 (tups:∀b xs,H b=some (.tup xs)->H' b=some (.tup xs)) (frzs:∀b o u,H b=some (.frz o u)->H' b=some (.frz o u)) (tbls:∀b ps,H b=some (.tbl ps)->∃more,H' b=some (.tbl (ps++more)))
 (ns:∀m,s.heap.Ns X.env.locals m->h'.Ns X.env.locals m) (hok:HOk X.prog X.w H' h') (hg:AllBare g'):
 Inv X pins σ H' {s with heap:=h',gens:=g',drawn:=d',toks:=t'}:=by
 have neL:∀b o,X.s₀.heap.get? b=some o->b≠X.env.locals:=λb o e=>Nat.ne_of_lt (Nat.lt_of_lt_of_le (Heap.lt_size e) I.ok.above)
 have neC:∀b o,X.s₀.heap.get? b=some o->b∉X.ex->b∉ch:=λb o e hx hb=>by
  rcases(hch b hb).1 with z | z
  ·exact hx z
  ·exact absurd (Nat.lt_of_lt_of_le (Heap.lt_size e) z) (Nat.lt_irrefl _)
 have cellK:∀x c,X.env.cells.lookup x=some c->∀v,s.heap.IsCell c v->h'.IsCell c v:=λx c e v ⟨o,ho,hd⟩=>by
  have nch:c∉ch:=λz=>(hch c z).2.2.1 x c e rfl
  by_cases hc:c∈X.fs
  ·obtain⟨sl,q⟩:=slot c o (I.cne x c e) hc nch ho (I.freeC x c e)
   exact⟨_,q,hd⟩
  ·exact⟨o,keep c o (I.cne x c e) hc nch ho (I.freeC x c e),hd⟩
 refine⟨I.ok,I.os,hg,⟨λb o e n hb hx=> ?_,λb o e n hb hx=> ?_,λb o e n hx=> ?_,λb o e hx=> ?_,λb xs e=>tups b xs (I.base.tups b xs e),λb o xs e=>frzs b o xs (I.base.frzs b o xs e),λb ps e=> ?_⟩, ?_,λx c e=> ?_, ?_,λx c e=> ?_,λp hp=> ?_,hok,I.len⟩
 ·exact keep b o (neL b o e) hb (neC b o e hx) (I.base.keep b o e n hb hx) (I.base.free b o e n hx)
 ·obtain⟨sl,e1⟩:=I.base.slot b o e n hb hx
  obtain⟨sl',e2⟩:=slot b _ (neL b o e) hb (neC b o e hx) e1 (I.base.free b o e n hx)
  exact⟨sl',e2⟩
 ·obtain⟨o',e1⟩:=I.base.there b o e hx
  exact free b o' (neC b o e hx) e1 (I.base.free b o e n hx)
 ·obtain⟨o',e1⟩:=I.base.there b o e hx
  exact there b o' (neC b o e hx) e1
 ·obtain⟨m1,e1⟩:=I.base.tbls b ps e
  obtain⟨m2,e2⟩:=tbls b _ e1
  exact⟨m1++m2,by rw[e2,Array.append_assoc]⟩
 ·obtain⟨m,hn,hl⟩:=I.loc
  refine⟨m,ns m hn,λi x v e1 e2 e3=> ?_⟩
  obtain⟨u,r,l⟩:=hl i x v e1 e2 e3
  refine⟨u,r, ?_⟩
  rcases l with l | ⟨k,c,e,z⟩
  ·exact .inl l
  ·exact .inr ⟨k,c,e,cellK x c e _ z⟩
 ·obtain⟨v,z⟩:=I.cell x c e
  exact⟨v,cellK x c e v z⟩
 ·obtain⟨m,⟨o,_,_,ho,_⟩,_⟩:=I.loc
  exact free _ o (λz=>(hch _ z).2.1 rfl) ho I.free
 ·obtain⟨v,o,ho,hd⟩:=I.cell x c e
  exact free c o (λz=>(hch c z).2.2.1 x c e rfl) ho (I.freeC x c e)
 ·obtain⟨e,n,ne,nf,d⟩:=I.pin p hp
  have nch:p.1∉ch:=λz=>(hch p.1 z).2.2.2 p hp rfl
  exact⟨keep p.1 p.2 ne nf nch e n,free p.1 p.2 nch e n,ne,nf,d⟩
theorem Inv.un{t':Nat}(I:Inv X pins σ H s)(u:Un X.fs [] H H' s.heap h')(hok:HOk X.prog X.w H' h'):Inv X pins σ H' {s with heap:=h',toks:=t'}:=by
 obtain⟨m,⟨o,es,ep,ho,r⟩,_⟩:=id I.loc
 obtain⟨sl,hL⟩:=u.any ho I.free (by simp)
 exact I.step (g':=s.gens) (d':=s.drawn) (ch:=[]) (λ_ z=>nomatch z) (λb o _ hb _ e n=>u.keep b o e n hb (by simp)) (λb o _ hb _ e n=>u.slot b o e n hb (by simp)) (λb o _ e n=>u.free b o e n (by simp)) (λb o _ e=>u.there b o e (by simp)) u.tups u.frzs u.tbls (λm' hm=>by
  obtain⟨o',es',ep',ho',r'⟩:=hm
  rw[ho] at ho';cases ho'
  exact⟨_,es',ep',hL,r'⟩) hok I.bare
theorem Inv.call {g':Array GenState} {t':Nat} {d':Drawn} {ch:List Addr} (I:Inv X pins σ H s) (u:Un (frs X.stack) ch H H' s.heap h') (hok:HOk X.prog X.w H' h') (hg:AllBare g')
 (hch:∀b∈ch,(b∈X.ex\/X.s₀.heap.objs.size<=b)/\b≠X.env.locals/\(∀x c,X.env.cells.lookup x=some c->c≠b)/\∀p∈X.pn++pins,p.1≠b):
 Inv X pins σ H' {s with heap:=h',gens:=g',drawn:=d',toks:=t'}:=by
 obtain⟨m,⟨o,es,ep,ho,r⟩,_⟩:=id I.loc
 obtain⟨sl,hL⟩:=u.any ho I.free λz=>(hch _ z).2.1 rfl
 exact I.step (ch:=ch) hch (λb o hL hb hc e n=>u.keep b o e n (λz=>(List.mem_cons.mp (I.stkSub b z)).elim hL hb) hc) (λb o _ _ hc e n=>u.any e n hc) (λb o hc e n=>u.free b o e n hc) (λb o hc e=>u.there b o e hc) u.tups u.frzs u.tbls (λm' hm=>by
  obtain⟨o',es',ep',ho',r'⟩:=hm
  rw[ho] at ho';cases ho'
  exact⟨_,es',ep',hL,r'⟩) hok hg
theorem Inv.turned {t':Nat} {it:Addr} (I:Inv X pins σ H s) (k:∀b o,b≠it->s.heap.get? b=some o->h'.get? b=some o) (hn:H it=none) (hL:it≠X.env.locals)
 (h1:it∈X.ex\/X.s₀.heap.objs.size<=it) (h2:∀x c,X.env.cells.lookup x=some c->c≠it) (h3:∀p∈X.pn++pins,p.1≠it):Inv X pins σ H {s with heap:=h',toks:=t'}:=by
 have nit:∀b u,H b=some u->b≠it:=λb u e z=>by rw[z,hn] at e;cases e
 refine I.step (g':=s.gens) (d':=s.drawn) (ch:=[it]) (λb hb=> ?_) (λb o _ _ hc e _=>k b o (λz=>hc (by simp[z])) e) (λb o _ _ hc e _=>⟨o.slots,k b o (λz=>hc (by simp[z])) e⟩) (λ_ _ _ _ n=>n)
  (λb o hc e=>⟨o,k b o (λz=>hc (by simp[z])) e⟩) (λ_ _ e=>e) (λ_ _ _ e=>e) (λb ps e=>⟨#[],by rw[e];simp⟩) (λm hm=> ?_) (λb u e=> ?_) I.bare
 ·have e:b=it:=by simpa using hb
  subst e
  exact⟨h1,hL,h2,h3⟩
 ·obtain⟨o,es,ep,ho,r⟩:=hm
  exact⟨o,es,ep,k _ o (Ne.symm hL) ho,r⟩
 ·refine(I.hok b u e).stay (λc v hc q=>k c v ?_ q) (λ_ q=>q) λ_ _ q=>q
  rcases hc with z | z
  ·rw[z];exact nit b u e
  ·exact nit c _ z
theorem Inv.tok(I:Inv X pins σ H s)(t:Nat):Inv X pins σ H {s with toks:=t}:=I.un (h':=s.heap) (t':=t) Un.refl I.hok
theorem Inv.kept{t':Nat}(I:Inv X pins σ H s)(k:∀b u,s.heap.get? b=some u->h'.get? b=some u):Inv X pins σ H {s with heap:=h',toks:=t'}:=I.un (Un.kept k) (I.hok.kept k)
theorem Inv.laid{a:Addr}{o:HO}{t':Nat}(I:Inv X pins σ H s)(k:∀b u,s.heap.get? b=some u->h'.get? b=some u)(hp:s.heap.objs.size<=a)(new:fW X.prog X.w (upd H a o) h' a o):
 Inv X pins σ (upd H a o) {s with heap:=h',toks:=t'}:=I.un (Un.laid k hp (I.hok.fresh hp)) (I.hok.laid k hp new)
theorem Inv.write {x e:Addr} {o:HO} {t':Nat} (I:Inv X pins σ H s) (mu:Mut (H x)) (he:e=x\/H e=some (.own x)) (k:∀b u,b≠e->s.heap.get? b=some u->h'.get? b=some u) (heo:∃u,h'.get? e=some u)
 (new:fW X.prog X.w (upd H x o) h' x o):Inv X pins σ (upd H x o) {s with heap:=h',toks:=t'}:=I.un (Un.write mu he k heo) (I.hok.write mu he k heo new)
theorem Inv.pins_of{pins':List (Addr×Obj)}(I:Inv X pins σ H s)(h:∀p∈pins',s.heap.get? p.1=some p.2/\H p.1=none/\p.1≠X.env.locals/\p.1∉X.fs/\∀v,p.2.data≠ .cell v):Inv X pins' σ H s:=
 ⟨I.ok,I.os,I.bare,I.base,I.loc,I.cell,I.free,I.freeC,λp hp=>(List.mem_append.mp hp).elim (λz=>I.pin p (List.mem_append_left _ z)) (h p),I.hok,I.len⟩
theorem yW{N:List Str}(hN:N.Nodup){i j:Nat}{x:Str}(a:N[i]? =some x)(b:N[j]? =some x):i=j:=by
 obtain⟨h1,e1⟩:=List.getElem?_eq_some_iff.mp a
 obtain⟨h2,e2⟩:=List.getElem?_eq_some_iff.mp b
 exact(List.getElem_inj hN).mp (e1.trans e2.symm)
theorem wy {M:Model} {A:Around} {E:Value->Shared->Prop} {i:Nat} {x:Str} {v:V} {u:Value} {Q:Unit->Shared->Prop} (I:Inv X pins σ H s) (hN:X.N.Nodup) (hi:X.N[i]? =some x) (hx:Loc X.env.scope x) (r:RelV v u)
 (h:∀s',Inv X pins (σ.set i (some v)) H s'->(∃a,Heap.SameBut a s.heap s'.heap/\(a=X.env.locals\/X.env.cells.lookup x=some a))->Q () s') (hf:X.fn x=true\/X.env.scope.names.lookup x=some .local:=by first | exact .inl rfl | exact .inr rfl | assumption):wpAny M A (storeName X.env x u) Q E s:=by
 obtain⟨m,hn,hl⟩:=id I.loc
 have hcls:(X.env.scope.kind == .class||(X.env.scope.kind == .module&&X.env.locals != X.env.globals))=false:=by rw[I.ok.kind];rfl
 have hiσ:i<σ.length:=by rw[I.len];exact(List.getElem?_eq_some_iff.mp hi).1
 have cne:=I.cne
 have tracked:∀{a:Addr} {h':Heap},(∃o,s.heap.get? a=some o/\H a=none)->Heap.SameBut a s.heap h'->HOk X.prog X.w H h':=λ{a h'} ha hs b ob e=>by
  obtain⟨_,_,hfree⟩:=ha
  refine(I.hok b ob e).stay (λc w' hc q=>(hs.2 c ?_).trans q) (λ_ q=>q) λ_ _ q=>q
  rintro rfl
  rcases hc with rfl | hc
  ·rw[hfree] at e;cases e
  ·rw[hfree] at hc;cases hc
 rcases hx with hk | hk
 ·refine wpAny_storeName_local hk hn (λh' hn' hs=> ?_) hcls
  obtain⟨oL,_,_,hoL,_⟩:=id hn
  refine h _ ⟨I.ok,I.os,I.bare,⟨λb o e n hb hx=> ?_,λb o e n hb hx=> ?_,I.base.free,λb o e hx=> ?_,I.base.tups,I.base.frzs,I.base.tbls⟩,⟨_,hn',λj y v' e1 e2 e3=> ?_⟩,λy c e=> ?_,I.free,I.freeC,λp hp=> ?_,tracked ⟨oL,hoL,I.free⟩ hs,by simpa using I.len⟩ ⟨_,hs,.inl rfl⟩
  ·exact(hs.2 b (Nat.ne_of_lt (Nat.lt_of_lt_of_le (Heap.lt_size e) I.ok.above))).trans (I.base.keep b o e n hb hx)
  ·obtain⟨sl,e1⟩:=I.base.slot b o e n hb hx
   exact⟨sl,(hs.2 b (Nat.ne_of_lt (Nat.lt_of_lt_of_le (Heap.lt_size e) I.ok.above))).trans e1⟩
  ·obtain⟨o',e1⟩:=I.base.there b o e hx
   exact⟨o',(hs.2 b (Nat.ne_of_lt (Nat.lt_of_lt_of_le (Heap.lt_size e) I.ok.above))).trans e1⟩
  ·by_cases hj:j=i
   ·subst hj
    rw[hi] at e1;cases e1
    rw[List.getElem?_set_self hiσ] at e2
    cases e2
    exact⟨u,r,.inl ⟨hk,by simp⟩⟩
   ·rw[List.getElem?_set_ne (Ne.symm hj)] at e2
    obtain⟨u',r',q⟩:=hl j y v' e1 e2 e3
    refine⟨u',r', ?_⟩
    rcases q with⟨k,e⟩ | ⟨k,c,e,z⟩
    ·refine .inl ⟨k, ?_⟩
     have:y≠x:=λe=>hj (yW hN e1 (e▸hi))
     simp[this,e]
    ·exact .inr ⟨k,c,e,z.sameBut hs (cne y c e)⟩
  ·obtain⟨w',z⟩:=I.cell y c e
   exact⟨w',z.sameBut hs (cne y c e)⟩
  ·obtain⟨e,n,ne,nf,d⟩:=I.pin p hp
   exact⟨(hs.2 p.1 ne).trans e,n,ne,nf,d⟩
 ·have hfn:X.fn x=true:=by
   rcases hf with z | z
   ·exact z
   ·rw[z] at hk;cases hk
  obtain⟨c,hc⟩:=I.ok.has x (.inl hk)
  obtain⟨w',z⟩:=I.cell x c hc
  refine wpAny_storeName_cell I.ok.kind hk hc z (λh' hc' hs=> ?_)
  obtain⟨oc,hoc,hocd⟩:=id z
  refine h {s with heap:=h'} ⟨I.ok,I.os,I.bare,⟨λb o e n hb hx=> ?_,λb o e n hb hx=> ?_,I.base.free,λb o e hx=> ?_,I.base.tups,I.base.frzs,I.base.tbls⟩,⟨m,hn.sameBut hs (Ne.symm (cne x c hc)),λj y v' e1 e2 e3=> ?_⟩,λy c' e=> ?_,I.free,I.freeC,λp hp=> ?_,tracked ⟨oc,hoc,I.freeC x c hc⟩ hs,by simpa using I.len⟩ ⟨c,hs,.inr hc⟩
  ·exact(hs.2 b (Nat.ne_of_lt (Nat.lt_of_lt_of_le (Heap.lt_size e) (I.ok.cab x c hfn hc)))).trans (I.base.keep b o e n hb hx)
  ·obtain⟨sl,e1⟩:=I.base.slot b o e n hb hx
   exact⟨sl,(hs.2 b (Nat.ne_of_lt (Nat.lt_of_lt_of_le (Heap.lt_size e) (I.ok.cab x c hfn hc)))).trans e1⟩
  ·obtain⟨o',e1⟩:=I.base.there b o e hx
   exact⟨o',(hs.2 b (Nat.ne_of_lt (Nat.lt_of_lt_of_le (Heap.lt_size e) (I.ok.cab x c hfn hc)))).trans e1⟩
  ·by_cases hj:j=i
   ·subst hj
    rw[hi] at e1;cases e1
    rw[List.getElem?_set_self hiσ] at e2
    cases e2
    exact⟨u,r,.inr ⟨.inl hk,c,hc,hc'⟩⟩
   ·rw[List.getElem?_set_ne (Ne.symm hj)] at e2
    obtain⟨u',r',q⟩:=hl j y v' e1 e2 e3
    refine⟨u',r', ?_⟩
    rcases q with q | ⟨k,c',e,z'⟩
    ·exact .inl q
    ·refine .inr ⟨k,c',e,z'.sameBut hs ?_⟩
     rintro rfl
     exact hj (yW hN e1 (I.ok.inj _ _ _ e hc▸hi))
  ·by_cases hcc:c'=c
   ·subst hcc;exact⟨_,hc'⟩
   ·obtain⟨w2,z2⟩:=I.cell y c' e
    exact⟨w2,z2.sameBut hs hcc⟩
  ·obtain⟨e,n,ne,nf,d⟩:=I.pin p hp
   refine⟨(hs.2 p.1 ?_).trans e,n,ne,nf,d⟩
   intro q
   rw[q,hoc] at e
   have q':oc=p.2:=Option.some.inj e
   exact d w' (by rw[<- q'];exact hocd)
theorem zf {M:Model} {A:Around} {E:Value->Shared->Prop} {i:Nat} {x:Str} {v:V} {u:Value} {Q:Unit->Shared->Prop} (I:Inv X pins σ H s) (hN:X.N.Nodup) (hi:X.N[i]? =some x) (hx:Loc X.env.scope x) (r:RelV v u)
 (h:∀s',Inv X pins (σ.set i (some v)) H s'->Q () s') (hf:X.fn x=true\/X.env.scope.names.lookup x=some .local:=by first | exact .inl rfl | exact .inr rfl | assumption):wpAny M A (storeName X.env x u) Q E s:=
 wy I hN hi hx r (λs' I' _=>h s' I') hf
theorem Inv.call' {s':Shared} {ch:List Addr} (I:Inv X pins σ H s) (ho:s'.os=s.os) (u:Un (frs X.stack) ch H H' s.heap s'.heap) (hok:HOk X.prog X.w H' s'.heap) (hg:AllBare s'.gens)
 (hch:∀b∈ch,(b∈X.ex\/X.s₀.heap.objs.size<=b)/\b≠X.env.locals/\(∀x c,X.env.cells.lookup x=some c->c≠b)/\∀p∈X.pn++pins,p.1≠b):Inv X pins σ H' s':=by
 obtain⟨h',g',d',t',o'⟩:=s'
 have e:o'=s.os:=ho
 subst e
 exact I.call (g':=g') (t':=t') (d':=d') u hok hg hch
end
abbrev XK:=Value->Option Addr->Hp->Prop
abbrev St:=List (Option V)
abbrev VK:=V->Hp->Prop
abbrev TE:=St->Hp->VK->Prop
abbrev TT:=St->Hp->(Bool->Hp->Prop)->Prop
abbrev TA:=St->Hp->(List V->Hp->Prop)->Prop
structure Ends where
 nx:St->Hp->Prop
 rt:VK
 bk:St->Hp->Prop:=λ_ _=>False
 ct:St->Hp->Prop:=λ_ _=>False
abbrev TS:=Ends->St->Hp->Prop
def EP(X:Cx)(pins:List (Addr×Obj))(σ:St)(Q:VK)(u:Value)(s':Shared):Prop:=∃v H',Inv X pins σ H' s'/\RelV v u/\Q v H'
def TP(X:Cx)(pins:List (Addr×Obj))(σ:St)(Q:Bool->Hp->Prop)(b:Bool)(s':Shared):Prop:=∃H',Inv X pins σ H' s'/\Q b H'
def AP(X:Cx)(pins:List (Addr×Obj))(σ:St)(Q:List V->Hp->Prop)(us:List Value)(s':Shared):Prop:=∃vs H',Inv X pins σ H' s'/\Vals vs us/\Q vs H'
def SP(X:Cx)(pins:List (Addr×Obj))(D:Ends)(f:Flow)(s':Shared):Prop:=
 match f with
 | .next=>∃σ' H',Inv X pins σ' H' s'/\D.nx σ' H'
 | .brk=>∃σ' H',Inv X pins σ' H' s'/\D.bk σ' H'
 | .cont=>∃σ' H',Inv X pins σ' H' s'/\D.ct σ' H'
 | .ret u=>∃v σ' H',Inv X pins σ' H' s'/\RelV v u/\D.rt v H'
def PE(X:Cx)(e:Expr)(t:TE):Prop:=
 ∀(pins:List (Addr×Obj)) (s:Shared) (σ:St) (H:Hp) (Q:VK),Inv X pins σ H s->t σ H Q->wpAny (model X.prog X.w) X.A (eval e X.env) (EP X pins σ Q) X.xe s
def PT(X:Cx)(e:Expr)(t:TT):Prop:=
 ∀(pins:List (Addr×Obj)) (s:Shared) (σ:St) (H:Hp) (Q:Bool->Hp->Prop),Inv X pins σ H s->t σ H Q->wpAny (model X.prog X.w) X.A (isTrue e X.env (eval e X.env)) (TP X pins σ Q) X.xe s
def PW(X:Cx)(e:Expr)(t:TT):Prop:=
 ∀(whole:Sem Value) (pins:List (Addr×Obj)) (s:Shared) (σ:St) (H:Hp) (Q:Bool->Hp->Prop),Inv X pins σ H s->t σ H Q->wpAny (model X.prog X.w) X.A (isTrue e X.env whole) (TP X pins σ Q) X.xe s
theorem PW.pt{X:Cx}{e:Expr}{t:TT}(h:PW X e t):PT X e t:=h _
def PA(X:Cx)(es:List Expr)(t:TA):Prop:=
 ∀(pos:Pos) (pins:List (Addr×Obj)) (s:Shared) (σ:St) (H:Hp) (Q:List V->Hp->Prop),Inv X pins σ H s->t σ H Q->wpAny (model X.prog X.w) X.A (spliced (backTo pos (starEach es X.env))) (AP X pins σ Q) X.xe s
def PS(X:Cx)(st:Stmt)(t:TS):Prop:=
 ∀(pins:List (Addr×Obj)) (s:Shared) (σ:St) (H:Hp) (D:Ends),Inv X pins σ H s->t D σ H->wpAny (model X.prog X.w) X.A (exec st X.env) (SP X pins D) X.xe s
def PSs(X:Cx)(st:List Stmt)(t:TS):Prop:=
 ∀(pins:List (Addr×Obj)) (s:Shared) (σ:St) (H:Hp) (D:Ends),Inv X pins σ H s->t D σ H->wpAny (model X.prog X.w) X.A (execs st X.env) (SP X pins D) X.xe s
theorem thn{α:Type}{t:Sem α}{Q Q':α->Shared->Prop}{M:Model}{A:Around}{E:Value->Shared->Prop}{s:Shared}(h:wpAny M A t Q E s)(hQ:∀a s,Q a s->Q' a s):wpAny M A t Q' E s:=wpAny_mono h hQ λ_ _ x=>x
end L2
namespace L2
open PySem PySem.Spec PyProof.Rows
section
variable {X : Cx}
theorem bin {a b:Expr} {ta tb:TE} (ha:PE X a ta) (hb:PE X b tb) {pins:List (Addr×Obj)} {s:Shared} {σ:St} {H:Hp} {R:V->V->Hp->Prop} (I:Inv X pins σ H s) (h:ta σ H λx H1=>tb σ H1 λy H2=>R x y H2)
 {α:Type} {Q:α->Shared->Prop} {f:Value->Value->Sem α}
 (hf:∀v u s2 x y H2,Inv X pins σ H2 s2->RelV x v->RelV y u->R x y H2->wpAny (model X.prog X.w) X.A (f v u) Q X.xe s2):
 wpAny (model X.prog X.w) X.A (eval a X.env) (λv s₁=>wpAny (model X.prog X.w) X.A (eval b X.env) (λu s₂=>wpAny (model X.prog X.w) X.A (f v u) Q X.xe s₂) X.xe s₁) X.xe s:=by
 refine thn (ha pins s σ H _ I h) λv s1 ⟨x,H1,I1,r1,q1⟩=> ?_
 refine thn (hb pins s1 σ H1 _ I1 q1) λu s2 ⟨y,H2,I2,r2,q2⟩=> ?_
 exact hf v u s2 x y H2 I2 r1 r2 q2
def Ez(i:Nat):TE:=λσ H Q=>∃v,σ[i]? =some (some v)/\Q v H
def tC(v:V):TE:=λ_ H Q=>Q v H
theorem Ju{i:Nat}{x:Str}{pos:Pos}(hN:X.N[i]? =some x)(hv:Vis X.env.scope x)(hd:(x == ("__debug__" :Str))=false:=by decide)(hcd:(x == ("__classdict__" :Str))=false:=by decide):PE X (.Name x pos) (Ez i):=by
 intro pins s σ H Q I h
 obtain⟨v,e,h⟩:=h
 obtain⟨m,hn,hl⟩:=I.loc
 obtain⟨u,r,l⟩:=hl i x v hN e hv
 have fin:EP X pins σ Q u s:=⟨v,H,I,r,h⟩
 rcases l with⟨hk,hm⟩ | ⟨hk,c,hc,hcell⟩
 ·exact wpAny_Name (wpAny_loadName_local I.ok.kind hk hn hm fin) hd
 ·rcases hk with hk | hk
  ·exact wpAny_Name (wpAny_loadName_cell I.ok.kind hk hc hcell fin) hd
  ·exact wpAny_Name (wpAny_loadName_free I.ok.kind hk hc hcell fin hcd) hd
theorem aD{i j pos}:PE X (.Constant (.int i) j pos) (tC (.int i)):=λ_ _ _ H _ I h=>wpAny_Constant_int ⟨.int i,H,I.tok _,⟨_,rfl⟩,h⟩
theorem kW{b j pos}:PE X (.Constant (.bool b) j pos) (tC (.bl b)):=λ_ _ _ H _ I h=>Constant_bool ⟨.bl b,H,I,rfl,h⟩
theorem zp{j pos}:PE X (.Constant .none j pos) (tC .non):=λ_ _ _ H _ I h=>Constant_none ⟨.non,H,I,rfl,h⟩
theorem ud{x j pos}:PE X (.Constant (.str x) j pos) (tC (.str x)):=λ_ _ _ H _ I h=>Calls.Constant_str ⟨.str x,H,I.tok _,⟨_,rfl⟩,h⟩
def Gl(X:Cx)(x:Str):Prop:=X.env.kindOf x=some .globalImplicit
theorem u9 {E:Value->Shared->Prop} {pins:List (Addr×Obj)} {s:Shared} {σ:St} {H:Hp} {x:Str} {u:Value} {pos:Pos} {Q:Value->Shared->Prop} (I:Inv X pins σ H s) (hg:Gl X x) (hm:X.mg x=some u) (h:Q u s)
 (hd:(x == ("__debug__" :Str))=false:=by decide):wpAny (model X.prog X.w) X.A (eval (.Name x pos) X.env) Q E s:=
 Calls.Name_function_global I.ok.kind hg (Calls.loadGlobal_global (by rw[I.ok.glob];exact I.mod.glob.keeps I.bk) hm h) hd
theorem oU {E:Value->Shared->Prop} {pins:List (Addr×Obj)} {s:Shared} {σ:St} {H:Hp} {x:Str} {u:Value} {pos:Pos} {Q:Value->Shared->Prop} (I:Inv X pins σ H s) (hg:Gl X x) (hm:X.mg x=none) (hv:bootBuiltins x=some u) (h:Q u s)
 (hn:x≠"__name__" :=by decide) (hd:(x == ("__debug__" :Str))=false:=by decide):wpAny (model X.prog X.w) X.A (eval (.Name x pos) X.env) Q E s:=by
 obtain⟨mb,h1,h2⟩:=I.mod.blt
 exact Calls.Name_function_global I.ok.kind hg (Calls.loadGlobal_builtin (by rw[I.ok.glob];exact I.mod.glob.keeps I.bk) hm (by rw[I.ok.blt];exact h1.keeps I.bk) ((h2 x hn).trans hv) h) hd
theorem vm{x:Str}{v:V}{u:Value}{pos:Pos}(hg:Gl X x)(hm:X.mg x=some u)(r:RelV v u)(hd:(x == ("__debug__" :Str))=false:=by decide):PE X (.Name x pos) (tC v):=
 λ_ _ _ H _ I h=>u9 I hg hm ⟨v,H,I,r,h⟩ hd
theorem ng{x:Str}{v:V}{u:Value}{pos:Pos}(hg:Gl X x)(hm:X.mg x=none)(hv:bootBuiltins x=some u)(r:RelV v u)(hn:x≠"__name__" :=by decide)(hd:(x == ("__debug__" :Str))=false:=by decide):PE X (.Name x pos) (tC v):=
 λ_ _ _ H _ I h=>oU I hg hm hv ⟨v,H,I,r,h⟩ hn hd
variable {a b : Expr} {ta tb : TE} {pos : Pos}
def PC(X:Cx)(op:CmpOp)(a b:Expr)(t:TE):Prop:=
 ∀(pins:List (Addr×Obj)) (s:Shared) (σ:St) (H:Hp) (Q:VK),Inv X pins σ H s->t σ H Q->
  wpAny (model X.prog X.w) X.A (eval a X.env) (λv s₁=>wpAny (model X.prog X.w) X.A (eval b X.env) (λu s₂=>wpAny (model X.prog X.w) X.A (compareOp op v u) (EP X pins σ Q) X.xe s₂) X.xe s₁) X.xe s
theorem Em(b:Expr){op:CmpOp}(h:op≠ .In)(h2:op≠ .NotIn):behindInMarks op b=false:=by
 have e1:(op == CmpOp.In)=false:=by cases op <;> first | rfl | exact absurd rfl h
 have e2:(op == CmpOp.NotIn)=false:=by cases op <;> first | rfl | exact absurd rfl h2
 cases b <;> simp[behindInMarks,e1,e2]
def tB(t:TE):TT:=λσ H Q=>t σ H λx H1=>∃c,x=.bl c/\Q c H1
theorem MF{op:CmpOp}{t:TE}(h:PC X op a b t)(h1:behindInMarks op b=false:=by first | exact Em _ (by decide) (by decide) | rfl):PT X (.Compare a [op] [b] pos) (tB t):=by
 intro pins s σ H Q I hw
 refine wpAny_isTrue_Compare1 (thn (h pins s σ H _ I hw) λv s1 h1=>thn h1 λu s2 h2=>thn h2 λc s3 ⟨x,H1,I1,r1,q1⟩=> ?_) h1
 obtain⟨d,rfl,q⟩:=q1
 cases r1
 exact wpAny_truthy_bool ⟨H1,I1,q⟩
theorem mr{e:Expr}{t:TE}(h:PE X e t)(he:∀whole,isTrue e X.env whole=(do let v <- whole;standAt e.pos;holding [v] (truthy v)):=by intro _;rfl):PT X e (tB t):=by
 intro pins s σ H Q I hw
 refine isTrue_plain (thn (h pins s σ H _ I hw) λv s1 ⟨x,H1,I1,r1,q1⟩=> ?_) (he _)
 obtain⟨d,rfl,q⟩:=q1
 cases r1
 exact wpAny_truthy_bool ⟨H1,I1,q⟩
variable {tA tB' : TT} {rest : List Expr}
def J6(t u:TT):TT:=λσ H Q=>t σ H λc H1=>if c=true then u σ H1 Q else Q false H1
def tOr(t u:TT):TT:=λσ H Q=>t σ H λc H1=>if c=true then Q true H1 else u σ H1 Q
def JB(t:TT):TT:=λσ H Q=>t σ H λc H1=>Q (!c) H1
theorem pw_and1(ha:PT X a tA):PW X (.BoolOp .And [a] pos) tA:=by
 intro wh pins s σ H Q I h
 refine isTrue_and (thn (ha pins s σ H Q I h) λc s1 e=> ?_)
 cases c with
 | true=>exact isTrue_and_nil e
 | false=>exact e
theorem pw_or1(ha:PT X a tA):PW X (.BoolOp .Or [a] pos) tA:=by
 intro wh pins s σ H Q I h
 refine isTrue_or (thn (ha pins s σ H Q I h) λc s1 e=> ?_)
 cases c with
 | false=>exact isTrue_or_nil e
 | true=>exact e
theorem pw_and(ha:PT X a tA)(hb:PW X (.BoolOp .And (b::rest) pos) tB'):PW X (.BoolOp .And (a::b::rest) pos) (J6 tA tB'):=by
 intro wh pins s σ H Q I h
 refine isTrue_and (thn (ha pins s σ H _ I h) λc s1 ⟨H1,I1,q1⟩=> ?_)
 cases c with
 | true=>exact hb wh pins s1 σ H1 Q I1 q1
 | false=>exact⟨H1,I1,q1⟩
theorem pw_or(ha:PT X a tA)(hb:PW X (.BoolOp .Or (b::rest) pos) tB'):PW X (.BoolOp .Or (a::b::rest) pos) (tOr tA tB'):=by
 intro wh pins s σ H Q I h
 refine isTrue_or (thn (ha pins s σ H _ I h) λc s1 ⟨H1,I1,q1⟩=> ?_)
 cases c with
 | true=>exact⟨H1,I1,q1⟩
 | false=>exact hb wh pins s1 σ H1 Q I1 q1
theorem nN(ha:PT X a tA):PT X (.UnaryOp .Not a pos) (JB tA):=by
 intro pins s σ H Q I h
 exact isTrue_not (ha pins s σ H (λc H1=>Q (!c) H1) I h)
def Gs(ta tb:TE):TE:=λσ H Q=>ta σ H λx H1=>∃c,x=.bl c/\if c=true then tb σ H1 Q else Q (.bl false) H1
def GG(ta:TE):TE:=λσ H Q=>ta σ H λx H1=>∃c,x=.bl c/\Q (.bl (!c)) H1
theorem Ef{op}{t:TE}(h:PE X a t):PE X (.BoolOp op [a] pos) t:=λpins s σ H Q I hw=>BoolOp_one (h pins s σ H Q I hw)
theorem Eb(ha:PE X a ta)(hb:PE X (.BoolOp .And (b::rest) pos) tb):PE X (.BoolOp .And (a::b::rest) pos) (Gs ta tb):=by
 intro pins s σ H Q I h
 refine BoolOp_and (thn (ha pins s σ H _ I h) λv s1 ⟨x,H1,I1,r1,q1⟩=> ?_)
 obtain⟨c,rfl,q1⟩:=q1
 cases r1
 refine wpAny_truthy_bool ?_
 cases c with
 | true=>exact hb pins s1 σ H1 Q I1 q1
 | false=>exact⟨.bl false,H1,I1,rfl,q1⟩
theorem Ee(ha:PE X a ta):PE X (.UnaryOp .Not a pos) (GG ta):=by
 intro pins s σ H Q I h
 refine UnaryOp_ (thn (ha pins s σ H _ I h) λv s1 ⟨x,H1,I1,r1,q1⟩=> ?_)
 obtain⟨c,rfl,q1⟩:=q1
 cases r1
 exact not_of (wpAny_truthy_bool ⟨.bl (!c),H1,I1,rfl,q1⟩)
end
end L2
namespace L2
open PySem PySem.Spec PyProof.Rows
def SqL(K:PySem.W.Frag)(H:Hp)(a:Addr)(xs:List V):Prop:=
 Rd H a (.lst xs)\/
  ∃(o:Obj) (its:Array Value) (n:Nat),K.lookup a=some o/\o.cls=.type "list" /\o.dict=none/\o.data=.seq its n/\its.size<=sizeLine/\Vals xs its.toList
def SqT(K:PySem.W.Frag)(H:Hp)(a:Addr)(xs:List V):Prop:=
 Rd H a (.tup xs)\/
  ∃(o:Obj) (its:Array Value) (n:Nat),K.lookup a=some o/\o.cls=.type "tuple" /\o.data=.seq its n/\its.size<=sizeLine/\Vals xs its.toList
def Lq:Value->Option V
 | .none=>some .non
 | .bool b=>some (.bl b)
 | .int i _=>some (.int i)
 | .str x _=>some (.str x)
 | .bytes b _=>some (.byt b)
 | .float b _=>some (.flt b)
 | .ref a=>some (.ref a)
 | .type n=>some (.ty n)
 | _=>none
theorem RelV.abs{x:V}{u:Value}(r:RelV x u):Lq u=some x:=by
 cases x with
 | non=>cases r;rfl
 | bl _=>cases r;rfl
 | int _=>obtain⟨t,rfl⟩:=r;rfl
 | str _=>obtain⟨t,rfl⟩:=r;rfl
 | byt _=>obtain⟨t,rfl⟩:=r;rfl
 | flt _=>obtain⟨t,rfl⟩:=r;rfl
 | ref _=>cases r;rfl
 | ty _=>cases r;rfl
theorem RelV.inj{x y:V}{u:Value}(r:RelV x u)(q:RelV y u):x=y:=Option.some.inj (r.abs.symm.trans q.abs)
theorem Vals.inj:∀{xs ys:List V} {us:List Value},Vals xs us->Vals ys us->xs=ys
 | _,_,_,.nil,.nil=>rfl
 | _,_,_,.cons r t,.cons r' t'=>by rw[r.inj r',Vals.inj t t']
section
variable {X : Cx} {pins : List (Addr × Obj)} {σ : St} {H : Hp} {s : Shared} {a : Addr} {xs ys : List V}
theorem SqL.of{K:PySem.W.Frag}(h:H a=some (.lst xs)):SqL K H a xs:=.inl (.inl h)
theorem SqT.of{K:PySem.W.Frag}(h:H a=some (.tup xs)):SqT K H a xs:=.inl (.inl h)
theorem Inv.list(I:Inv X pins σ H s)(h:SqL X.K H a xs):∃its:List Value,Vals xs its/\PlainL s.heap a its.toArray/\xs.length<=sizeLine:=by
 rcases h with h | ⟨o,its,n,hk,hc,hd,hs,hz,r⟩
 ·obtain⟨z,its,n,r,e⟩:=h.ok I.hok
  exact⟨its,r,⟨_,n,e,rfl,rfl,rfl⟩,z⟩
 ·refine⟨its.toList,r,⟨o,n,I.kIn a o hk,hc,hd,by simpa using hs⟩, ?_⟩
  have e:=r.length
  simp only[Array.length_toList] at e
  omega
theorem Inv.tuple(I:Inv X pins σ H s)(h:SqT X.K H a xs):∃its:List Value,Vals xs its/\IsTup s.heap a its.toArray/\xs.length<=sizeLine:=by
 rcases h with h | ⟨o,its,n,hk,hc,hs,hz,r⟩
 ·obtain⟨z,its,r,p⟩:=h.ok I.hok
  exact⟨its,r,p,z⟩
 ·refine⟨its.toList,r,⟨o,I.kIn a o hk,hc,n,by simpa using hs⟩, ?_⟩
  have e:=r.length
  simp only[Array.length_toList] at e
  omega
theorem Inv.list_inj(I:Inv X pins σ H s)(h:SqL X.K H a xs)(h':SqL X.K H a ys):xs=ys:=by
 obtain⟨its,r,⟨o,n,e,_,_,d⟩,_⟩:=I.list h
 obtain⟨its',r',⟨o',n',e',_,_,d'⟩,_⟩:=I.list h'
 rw[e] at e';cases e'
 rw[d] at d'
 injection d' with d1 _
 have:its=its':=by simpa using congrArg Array.toList d1
 subst this
 exact r.inj r'
end
abbrev Cx.wish(X:Cx)(E:Value->Shared->Prop):Cx:={X with xe:=E}
abbrev Cx.nox(X:Cx):Cx:=X.wish λ_ _=>False
theorem Cx.Ok.wish{X:Cx}(ok:X.Ok)(E:Value->Shared->Prop):(X.wish E).Ok:=
 ⟨ok.mod,ok.kind,ok.glob,ok.blt,ok.above,ok.inj,ok.has,ok.cab,ok.hd,ok.frames,ok.stk,ok.exf,ok.bs,ok.bsz,ok.noex,ok.exfs,ok.funs,ok.frf⟩
theorem Cx.Ok.unwish{X:Cx}{E:Value->Shared->Prop}(ok:(X.wish E).Ok):X.Ok:=
 ⟨ok.mod,ok.kind,ok.glob,ok.blt,ok.above,ok.inj,ok.has,ok.cab,ok.hd,ok.frames,ok.stk,ok.exf,ok.bs,ok.bsz,ok.noex,ok.exfs,ok.funs,ok.frf⟩
section
variable {X : Cx} {pins : List (Addr × Obj)} {σ : St} {H : Hp} {s : Shared} {E : Value → Shared → Prop}
theorem Inv.wish(I:Inv X pins σ H s)(E:Value->Shared->Prop):Inv (X.wish E) pins σ H s:=⟨I.ok.wish E,I.os,I.bare,I.base,I.loc,I.cell,I.free,I.freeC,I.pin,I.hok,I.len⟩
theorem Inv.unwish(I:Inv (X.wish E) pins σ H s):Inv X pins σ H s:=⟨I.ok.unwish,I.os,I.bare,I.base,I.loc,I.cell,I.free,I.freeC,I.pin,I.hok,I.len⟩
theorem SP.unwish{D:Ends}{f:Flow}{s':Shared}(h:SP (X.wish E) pins D f s'):SP X pins D f s':=by
 cases f with
 | next=>obtain⟨σ',H',I,q⟩:=h;exact⟨σ',H',I.unwish,q⟩
 | brk=>obtain⟨σ',H',I,q⟩:=h;exact⟨σ',H',I.unwish,q⟩
 | cont=>obtain⟨σ',H',I,q⟩:=h;exact⟨σ',H',I.unwish,q⟩
 | ret u=>obtain⟨v,σ',H',I,r,q⟩:=h;exact⟨v,σ',H',I.unwish,r,q⟩
theorem PE.nox{e:Expr}{t:TE}(h:PE X.nox e t):PE X e t:=λpins s σ H Q I hw=>
 wpAny_mono (h pins s σ H Q (I.wish _) hw) (λ_ _ ⟨v,H',I',r,q⟩=>⟨v,H',I'.unwish,r,q⟩) λ_ _ z=>False.elim z
theorem PT.nox{e:Expr}{t:TT}(h:PT X.nox e t):PT X e t:=λpins s σ H Q I hw=>
 wpAny_mono (h pins s σ H Q (I.wish _) hw) (λ_ _ ⟨H',I',q⟩=>⟨H',I'.unwish,q⟩) λ_ _ z=>False.elim z
theorem PSs.nox{st:List Stmt}{t:TS}(h:PSs X.nox st t):PSs X st t:=λpins s σ H D I hw=>
 wpAny_mono (h pins s σ H D (I.wish _) hw) (λ_ _ q=>q.unwish) λ_ _ z=>False.elim z
end
section
variable {X : Cx} {st : Stmt} {rest : List Stmt} {t u : TS} {e : Expr} {te : TE} {pos : Pos}
def GK:TS:=λD σ H=>D.nx σ H
def JL(t u:TS):TS:=λD σ H=>t {D with nx:=u D} σ H
theorem bO:PSs X [] GK:=λ_ _ σ H _ I h=>wpAny_execs_nil ⟨σ,H,I,h⟩
theorem au(h1:PS X st t)(h2:PSs X rest u):PSs X (st::rest) (JL t u):=by
 intro pins s σ H D I h
 refine wpAny_execs_cons (thn (h1 pins s σ H {D with nx:=u D} I h) λf s1 q=> ?_)
 cases f with
 | next=>
  obtain⟨σ',H',I',q⟩:=q
  exact h2 pins s1 σ' H' D I' q
 | ret v=>exact q
 | brk=>exact q
 | cont=>exact q
theorem aE(h1:PS X st t):PSs X [st] t:=by
 intro pins s σ H D I h
 refine wpAny_execs_cons (thn (h1 pins s σ H D I h) λf s1 q=> ?_)
 cases f with
 | next=>exact wpAny_execs_nil q
 | ret v=>exact q
 | brk=>exact q
 | cont=>exact q
theorem Inv.quiet{pins:List (Addr×Obj)}{σ:St}{H:Hp}{s:Shared}(I:Inv X pins σ H s):interactive X.env=false:=by simp[interactive,I.ok.kind]
def Gz(te:TE):TS:=λD σ H=>te σ H λ_ H1=>D.nx σ H1
theorem dA(he:PE X e te)(hs:swapsWith e none pos.line X.env=pure false:=by rfl):PS X (.Expr e pos) (Gz te):=by
 intro pins s σ H D I h
 exact wpAny_Expr_any (thn (he pins s σ H _ I h) λv s1 ⟨x,H1,I1,r1,q1⟩=>⟨σ,H1,I1,q1⟩) I.quiet hs
def JY(te:TE):TS:=λD σ H=>te σ H D.rt
theorem bq(he:PE X e te):PS X (.Return (some e) pos) (JY te):=by
 intro pins s σ H D I h
 exact wpAny_Return_some (thn (he pins s σ H _ I h) λv s1 ⟨x,H1,I1,r1,q1⟩=>⟨x,σ,H1,I1,r1,q1⟩)
def JZ(c:TT)(t u:TS):TS:=λD σ H=>c σ H λb H1=>if b=true then t D σ H1 else u D σ H1
theorem cU{c:Expr}{a b:List Stmt}{tc:TT}(hc:PT X c tc)(ha:PSs X a t)(hb:PSs X b u):PS X (.If c a b pos) (JZ tc t u):=by
 intro pins s σ H D I h
 refine wpAny_If (thn (hc pins s σ H _ I h) λd s1 ⟨H1,I1,q1⟩=> ?_)
 cases d with
 | true=>exact ha pins s1 σ H1 D I1 q1
 | false=>exact hb pins s1 σ H1 D I1 q1
def DF:TS:=λ_ _ _=>False
theorem kg:PS X st DF:=λ_ _ _ _ _ _ h=>h.elim
end
abbrev TG:=V->St->Hp->(St->Hp->Prop)->Prop
abbrev TGs:=List V->St->Hp->(St->Hp->Prop)->Prop
def PG(X:Cx)(target:Expr)(t:TG):Prop:=
 ∀(pins:List (Addr×Obj)) (s:Shared) (σ:St) (H:Hp) (v:V) (u:Value) (Q:St->Hp->Prop),Inv X pins σ H s->RelV v u->t v σ H Q->
  wpAny (model X.prog X.w) X.A (assign target X.env u) (λ_ s'=>∃σ' H',Inv X pins σ' H' s'/\Q σ' H') X.xe s
def PGs(X:Cx)(ts:List Expr)(t:TGs):Prop:=
 ∀(pins:List (Addr×Obj)) (s:Shared) (σ:St) (H:Hp) (vs:List V) (us:List Value) (Q:St->Hp->Prop),Inv X pins σ H s->Vals vs us->t vs σ H Q->
  wpAny (model X.prog X.w) X.A (assignInOrder ((assignEach ts X.env).map (·.2)) us) (λ_ s'=>∃σ' H',Inv X pins σ' H' s'/\Q σ' H') X.xe s
abbrev Eo:=V->V->V->Hp->(Hp->Prop)->Prop
def JA(X:Cx)(t:Eo):Prop:=
 ∀(pins:List (Addr×Obj)) (s:Shared) (σ:St) (H:Hp) (o i v:V) (ov iv u:Value) (Q:Hp->Prop),Inv X pins σ H s->RelV o ov->RelV i iv->RelV v u->t o i v H Q->
  wpAny (model X.prog X.w) X.A (setItem ov iv u) (λ_ s'=>∃H',Inv X pins σ H' s'/\Q H') X.xe s
section
variable {X : Cx} {pos : Pos}
def rV(i:Nat):TG:=λv σ H Q=>Q (σ.set i (some v)) H
theorem aT{i:Nat}{x:Str}(hN:X.N.Nodup)(hi:X.N[i]? =some x)(hx:Loc X.env.scope x)(hf:X.fn x=true\/X.env.scope.names.lookup x=some .local:=by first | exact .inl rfl | exact .inr rfl | assumption):PG X (.Name x pos) (rV i):=by
 intro pins s σ H v u Q I r h
 exact wpAny_assign_Name (zf I hN hi hx r (λs' I'=>⟨_,H,I',h⟩) hf)
def JU:TGs:=λvs σ H Q=>vs=[]/\Q σ H
def GH(t:TG)(u:TGs):TGs:=λvs σ H Q=>∃v r,vs=v::r/\t v σ H λσ' H'=>u r σ' H' Q
theorem gk:PGs X [] JU:=by
 intro pins s σ H vs us Q I r h
 obtain⟨e,h⟩:=h
 subst e
 cases r
 exact assignInOrder_nil ⟨σ,H,I,h⟩
theorem cv {e:Expr} {es:List Expr} {t:TG} {u:TGs} (h1:PG X e t) (h2:PGs X es u)
 (hs:(assignEach (e::es) X.env).map (·.2)=assign e X.env::(assignEach es X.env).map (·.2):=by rfl):PGs X (e::es) (GH t u):=by
 intro pins s σ H vs us Q I r h
 obtain⟨v,vr,e1,h⟩:=h
 subst e1
 cases r with
 | cons r rr=>
  rw[hs]
  refine assignInOrder_cons (thn (h1 pins s σ H _ _ _ I r h) λ_ s1 ⟨σ1,H1,I1,q1⟩=> ?_)
  exact h2 pins s1 σ1 H1 _ _ Q I1 rr q1
def Kh(K:PySem.W.Frag)(n:Nat)(t:TGs):TG:=λv σ H Q=>∃a xs,v=.ref a/\SqT K H a xs/\xs.length=n/\t xs σ H Q
theorem iG {es:List Expr} {k:Nat} {t:TGs} {n:Nat} (hc:X.calm=true) (h:PGs X es t)
 (hn:(assignEach es X.env).length=n:=by rfl) (hst:(assignEach es X.env).findIdx? (·.1)=none:=by rfl):PG X (.Tuple es k pos) (Kh X.K n t):=by
 intro pins s σ H v u Q I r hw
 obtain⟨a,xs,e1,hq,hl,hw⟩:=hw
 subst e1
 cases r
 obtain⟨its,rv,ht,hz⟩:=I.tuple hq
 refine assign_Tuple_tuple (I.ok.hd hc) ht (by simp[hn,<- hl,rv.length]) hst λh' hx=> ?_
 have I1:Inv X pins σ H {s with heap:=h'}:=I.kept (t':=s.toks) λb o e=>hx b o (Nat.ne_of_lt (Heap.lt_size e)) e
 exact h pins _ σ H xs _ Q I1 (by simpa using rv) hw
def Kb(to ti:TE)(t:Eo):TG:=λv σ H Q=>to σ H λo H1=>ti σ H1 λi H2=>t o i v H2 λH3=>Q σ H3
theorem xM {o i:Expr} {to ti:TE} {t:Eo} (ho:PE X o to) (hi:PE X i ti) (hs:JA X t)
 (ha:∀v,assign (.Subscript o i pos) X.env v=(do
  let ov <- holding [v] (eval o X.env)
  let iv <- holding [v,ov] (eval i X.env)
  standAt pos
  holding [v,ov,iv] (setItem ov iv v)
  release [v,ov,iv] []):=by intro _;rfl):PG X (.Subscript o i pos) (Kb to ti t):=by
 intro pins s σ H v u Q I r h
 rw[ha]
 refine wpAny_bind (wpAny_holding (thn (ho pins s σ H _ I h) λov s1 ⟨x,H1,I1,r1,q1⟩=> ?_))
 refine wpAny_bind (wpAny_holding (thn (hi pins s1 σ H1 _ I1 q1) λiv s2 ⟨y,H2,I2,r2,q2⟩=> ?_))
 refine wpAny_bind (wpAny_standAt (wpAny_bind (wpAny_holding (thn (hs pins s2 σ H2 x y v ov iv u _ I2 r1 r2 r q2) λ_ s3 ⟨H3,I3,q3⟩=> ?_))))
 exact wpAny_release ⟨σ,H3,I3,q3⟩
def xR(te:TE)(g:TG):TS:=λD σ H=>te σ H λx H1=>g x σ H1 D.nx
theorem zV {tg e:Expr} {te:TE} {g:TG} (he:PE X e te) (hg:PG X tg g) (hs:swapsWithSole [tg] e pos.line X.env=pure false:=by rfl) (hw:swappedStores [tg] e X.env=pure none:=by rfl)
 (h1:(assignEach [tg] X.env).map (·.2)=[assign tg X.env]:=by rfl):PS X (.Assign [tg] e pos) (xR te g):=by
 intro pins s σ H D I h
 refine wpAny_Assign_stores (thn (he pins s σ H _ I h) λv s1 ⟨x,H1,I1,r1,q1⟩=> ?_) hs hw
 rw[h1]
 exact thn (hg pins s1 σ H1 x v _ I1 r1 q1) λ_ s2 q=>q
theorem aW{i:Nat}{x:Str}{e:Expr}{te:TE}{pos':Pos}(hN:X.N.Nodup)(hi:X.N[i]? =some x)(hx:Loc X.env.scope x)(he:PE X e te)(hs:swapsWith e (some (.Name x pos')) pos.line X.env=pure false:=by rfl)(hf:X.fn x=true\/X.env.scope.names.lookup x=some .local:=by first | exact .inl rfl | exact .inr rfl | assumption):
 PS X (.Assign [.Name x pos'] e pos) (xR te (rV i)):=by
 intro pins s σ H D I h
 refine wpAny_Assign_Name (thn (he pins s σ H _ I h) λv s1 ⟨y,H1,I1,r1,q1⟩=> ?_) hs
 exact zf I1 hN hi hx r1 (λs2 I2=>⟨_,H1,I2,q1⟩) hf
end
section
variable {X : Cx} {pos : Pos}
def C3(c:TT)(tb:TS):TS:=λD σ H=>∃W:Nat->St->Hp->Prop,(∃m,W m σ H)/\∀m σ H,W m σ H->
 c σ H λb H1=>if b=true then ∃N:St->Hp->Prop,(∀σ' H',N σ' H'->∃m',m'<m/\W m' σ' H')/\tb {D with nx:=N,ct:=N,bk:=D.nx} σ H1 else D.nx σ H1
theorem zb{c:Expr}{body:List Stmt}{tc:TT}{tb:TS}(hp:PassesOwn (model X.prog X.w) X.A X.env X.xe)(hc:PT X c tc)(hb:PSs X body tb):PS X (.While c body [] pos) (C3 tc tb):=by
 intro pins s σ H D I h
 obtain⟨W,⟨m0,w0⟩,turn⟩:=h
 refine wpAny_While (codeAny_whileLoop (λn s'=>∃σ' H',Inv X pins σ' H' s'/\W n σ' H') ?_ m0 ⟨σ,H,I,w0⟩)
 rintro n s1 ⟨σ1,H1,I1,w1⟩
 refine wpAny_passesOwn hp (thn (hc pins s1 σ1 H1 _ I1 (turn n σ1 H1 w1)) λb s2 ⟨H2,I2,q2⟩=> ?_)
 cases b with
 | true=>
  obtain⟨N,hN,q2⟩:=q2
  rw[if_pos rfl]
  refine wpAny_passesOwn hp (thn (hb pins s2 σ1 H2 _ I2 q2) λf s3 q3=> ?_)
  cases f with
  | next=>
   obtain⟨σ3,H3,I3,n3⟩:=q3
   obtain⟨m',hm,w3⟩:=hN σ3 H3 n3
   exact⟨m',hm,σ3,H3,I3,w3⟩
  | cont=>
   obtain⟨σ3,H3,I3,n3⟩:=q3
   obtain⟨m',hm,w3⟩:=hN σ3 H3 n3
   exact⟨m',hm,σ3,H3,I3,w3⟩
  | brk=>exact q3
  | ret v=>exact q3
 | false=>
  rw[if_neg Bool.false_ne_true]
  exact wpAny_execs_nil ⟨σ1,H2,I2,q2⟩
end
structure It where
 go:Nat->Hp->Prop
 yld:Nat->Hp->V->Hp->Prop
 stop:Nat->Hp->Prop
def lO(X:Cx)(pins:List (Addr×Obj))(H:Hp)(b:Addr):Prop:=
 H b=none/\b≠X.env.locals/\b∉X.fs/\(b∈X.ex\/X.s₀.heap.objs.size<=b)/\(∀x c,X.env.cells.lookup x=some c->c≠b)/\∀p∈X.pn++pins,p.1≠b
theorem Inv.fpOk{X:Cx}{pins:List (Addr×Obj)}{σ:St}{H H':Hp}{s:Shared}{b:Addr}(I:Inv X pins σ H s)(hb:s.heap.objs.size<=b)(hn:H' b=none):lO X pins H' b:=by
 refine⟨hn,Nat.ne_of_gt (Nat.lt_of_lt_of_le I.lt hb),I.nofs hb,.inr (Nat.le_trans I.sz hb),λx c e z=> ?_,λp hp z=> ?_⟩
 ·obtain⟨v,q⟩:=I.cell x c e
  exact absurd (Nat.lt_of_lt_of_le q.lt (by rw[z];exact hb)) (Nat.lt_irrefl _)
 ·exact absurd (Nat.lt_of_lt_of_le (Heap.lt_size (I.pin p hp).1) (by rw[z];exact hb)) (Nat.lt_irrefl _)
structure Turn(P:Program)(w:World)(K:PySem.W.Frag)(tg:Expr)(J:It)(fp:List Addr)(it:Addr)(tn:Nat->Heap->Prop):Prop where
 mem:it∈fp
 obj:∀i h,tn i h->∀b∈fp,∃o,h.get? b=some o/\∀v,o.data≠ .cell v
 keep:∀i h h',tn i h->(∀b∈fp,∀o,h.get? b=some o->h'.get? b=some o)->tn i h'
 item:∀(X:Cx),X.prog=P->X.w=w->X.K=K->X.calm=true->∀(i:Nat) (pins:List (Addr×Obj)) (s:Shared) (σ:St) (H:Hp) (E:Value->Shared->Prop),Inv X pins σ H s->(∀b∈fp,lO X pins H b)->tn i s.heap->J.go i H->
  wpAny (model P w) X.A (pyNext (.ref it)) (λr s1=>∃u,r=some u/\
   wpAny (model P w) X.A (letOwnedTupleGo tg (.ref it) u) (λ_ s2=>∃x H',Inv X pins σ H' s2/\RelV x u/\J.yld i H x H'/\tn (i+1) s2.heap/\∀b∈fp,H' b=none) E s1) E s
 done:∀(X:Cx),X.prog=P->X.w=w->X.K=K->X.calm=true->∀(i:Nat) (pins:List (Addr×Obj)) (s:Shared) (σ:St) (H:Hp) (E:Value->Shared->Prop),Inv X pins σ H s->(∀b∈fp,lO X pins H b)->tn i s.heap->J.stop i H->
  wpAny (model P w) X.A (pyNext (.ref it)) (λr s1=>r=none/\Inv X pins σ H s1) E s
 self:∀(A:Around) (i:Nat) (s:Shared) (Q:Value->Shared->Prop) (E:Value->Shared->Prop),tn i s.heap->Q (.ref it) s->wpAny (model P w) A (pyIter (.ref it)) Q E s
abbrev TI:=St->Hp->(It->Hp->Prop)->Prop
def PIE(X:Cx)(pins:List (Addr×Obj))(σ:St)(tg:Expr)(R:It->Hp->Prop)(itv:Value)(s2:Shared):Prop:=
 ∃(it:Addr) (fp:List Addr) (tn:Nat->Heap->Prop) (J:It) (H':Hp),itv=.ref it/\Inv X pins σ H' s2/\Turn X.prog X.w X.K tg J fp it tn/\tn 0 s2.heap/\(∀b∈fp,lO X pins H' b)/\R J H'
def PI(X:Cx)(tg iter:Expr)(wi:TI):Prop:=
 ∀(pins:List (Addr×Obj)) (s:Shared) (σ:St) (H:Hp) (R:It->Hp->Prop),Inv X pins σ H s->wi σ H R->
  wpAny (model X.prog X.w) X.A (eval iter X.env) (λv s1=>wpAny (model X.prog X.w) X.A (pyIter v) (PIE X pins σ tg R) X.xe s1) X.xe s
theorem Cu {M:Model} {A:Around} {E:Value->Shared->Prop} {s:Shared} {tg:Expr} {it:Addr} {u:Value} {o:Obj} {n:String} {vs:Array Value} {Q:Unit->Shared->Prop} (ho:s.heap.get? it=some o) (hc:o.cls=.type n) (hd:o.data=.fields vs)
 (hn:["enumerate","zip","dict_itemiterator","dict_reverseitemiterator","odict_iterator","itertools.zip_longest","itertools.pairwise"].contains n=false) (hQ:Q () s):wpAny M A (letOwnedTupleGo tg (.ref it) u) Q E s:=by
 unfold letOwnedTupleGo
 cases tg <;> first
  | exact wpAny_pure hQ
  | (cases u <;> first
   | exact wpAny_pure hQ
   | (
    refine wpAny_bind (wpAny_load ho ?_)
    rw[hc,hd]
    show wpAny M A (if (["enumerate","zip","dict_itemiterator","dict_reverseitemiterator","odict_iterator","itertools.zip_longest","itertools.pairwise"].contains n&&vs[0]? == some (rawInt _))=true then _ else _) Q E s
    rw[if_neg (by intro h;rw[hn,Bool.false_and] at h;cases h)]
    exact wpAny_pure hQ))
def Itl(K:PySem.W.Frag)(a:Addr):It:=
 ⟨λi H=>∃xs x,SqL K H a xs/\xs[i]? =some x,λi H x H'=>H'=H/\∀xs,SqL K H a xs->xs[i]? =some x,λi H=>∃xs,SqL K H a xs/\xs.length<=i⟩
def Itr(lo:Int)(n:Nat):It:=⟨λi _=>i<n,λi H x H'=>H'=H/\x=.int (lo+i),λi _=>n<=i⟩
theorem DE{P:Program}{w:World}{K:PySem.W.Frag}{tg:Expr}(a it:Addr):Turn P w K tg (Itl K a) [it] it (λi h=>h.IsListIter it a i) where
 mem:=by simp
 obj:=λi h st b hb=>by
  have e:b=it:=by simpa using hb
  subst e
  obtain⟨o,e,c,d⟩:=st
  exact⟨o,e,λv z=>by rw[d] at z;cases z⟩
 keep:=λi h h' st k=>st.at λo e=>k it (by simp) o e
 item:=by
  intro X hP hw hK hc i pins s σ H E I hf st hg
  subst hP hw hK
  obtain⟨xs,x,hq,hx⟩:=hg
  obtain⟨its,rv,p,hz⟩:=I.list hq
  obtain⟨u,hu,ru⟩:=rv.get hx
  obtain⟨f0,f1,f2,f3,f4,f5⟩:=hf it (by simp)
  refine wpAny_pyNext_list_item st p.isList (x:=u) (by simpa using hu) λh' st' sb=> ?_
  have I1:Inv X pins σ H {s with heap:=h'}:=I.turned (t':=s.toks) (λb o hb e=>(sb.2 b hb).trans e) f0 f1 f3 f4 f5
  obtain⟨o,e,c,d⟩:=id st'
  exact⟨u,rfl,Cu (s:={s with heap:=h'}) e c d (by decide) ⟨x,H,I1,ru,⟨rfl,λys hy=>by rw[I.list_inj hy hq];exact hx⟩,st',λb hb=>(hf b hb).1⟩⟩
 done:=by
  intro X hP hw hK hc i pins s σ H E I hf st hg
  subst hP hw hK
  obtain⟨xs,hq,hx⟩:=hg
  obtain⟨its,rv,p,hz⟩:=I.list hq
  obtain⟨f0,f1,f2,f3,f4,f5⟩:=hf it (by simp)
  have hl:=rv.length
  exact wpAny_pyNext_list_end (I.ok.hd hc) st p.isList (by simp;omega) λh' eb=>⟨rfl,I.turned (t':=s.toks) (λb o hb e=>eb b o hb e) f0 f1 f3 f4 f5⟩
 self:=λ_ _ _ _ _ st h=>wpAny_pyIter_listiter st h
theorem CC{P:Program}{w:World}{K:PySem.W.Frag}{tg:Expr}(it:Addr)(lo:Int)(n:Nat):Turn P w K tg (Itr lo n) [it] it (λi h=>IsRangeIter h it (lo+(i:Nat)*1) ((n:Int)-(i:Nat)) 1) where
 mem:=by simp
 obj:=λi h st b hb=>by
  have e:b=it:=by simpa using hb
  subst e
  exact⟨_,st,λv z=>by
   have z':Data.fields _=Data.cell v:=z
   cases z'⟩
 keep:=λi h h' st k=>k it (by simp) _ st
 item:=by
  intro X hP hw hK hc i pins s σ H E I hf st hg
  subst hP hw hK
  obtain⟨f0,f1,f2,f3,f4,f5⟩:=hf it (by simp)
  have W:=Walks.range (prog:=X.prog) (w:=X.w) (I.ok.hd hc) it lo 1 n
  refine W.item i s _ _ hg st λv h' tk hv st' kk=> ?_
  obtain⟨t,rfl⟩:=hv
  have I1:Inv X pins σ H {s with heap:=h',toks:=tk}:=I.turned (λb o hb e=>kk b o (by simpa using hb) e) f0 f1 f3 f4 f5
  refine⟨_,rfl,Cu (s:={s with heap:=h',toks:=tk}) (n:="range_iterator") st' rfl rfl (by decide) ⟨.int (lo+i),H,I1,⟨t, ?_⟩,⟨rfl,rfl⟩,st',λb hb=>(hf b hb).1⟩⟩
  rw[Int.mul_one]
 done:=by
  intro X hP hw hK hc i pins s σ H E I hf st hg
  subst hP hw hK
  obtain⟨f0,f1,f2,f3,f4,f5⟩:=hf it (by simp)
  exact wpAny_pyNext_range_end (I.ok.hd hc) st (by have:n<=i:=hg;omega) λh' eb=>⟨rfl,I.turned (t':=s.toks) (λb o hb e=>eb b o hb e) f0 f1 f3 f4 f5⟩
 self:=λ_ _ _ _ _ st h=>wpAny_pyIter_rangeiter st h
end L2
namespace L2
open PySem PySem.Spec PyProof.Rows
section
variable {X : Cx} {tg : Expr}
def Gw(K:PySem.W.Frag)(tl:TE):TI:=λσ H R=>tl σ H λx H1=>∃a,x=.ref a/\(∃xs,SqL K H1 a xs)/\R (Itl K a) H1
theorem bX{l:Expr}{tl:TE}(hl:PE X l tl):PI X tg l (Gw X.K tl):=by
 intro pins s σ H R I h
 refine thn (hl pins s σ H _ I h) λv s1 ⟨x,H1,I1,r1,q1⟩=> ?_
 obtain⟨a,e,⟨xs,hq⟩,q⟩:=q1
 subst e
 cases r1
 obtain⟨its,rv,p,hz⟩:=I1.list hq
 refine wpAny_pyIter_list p.isList ?_
 refine⟨s1.heap.objs.size,[s1.heap.objs.size],_,_,H1,rfl,I1.kept (t':=s1.toks) λb o e=>Heap.get?_push_of_some _ e,DE a _,⟨_,Heap.get?_push_size _ rfl,rfl,rfl⟩,λb hb=> ?_,q⟩
 have e:b=s1.heap.objs.size:=by simpa using hb
 subst e
 exact I1.fpOk (Nat.le_refl _) (I1.hok.fresh (Nat.le_refl _))
theorem Fd {pins:List (Addr×Obj)} {σ:St} {H:Hp} {s:Shared} {R:It->Hp->Prop} {E:Value->Shared->Prop} {lo hi:Int} {t u v:Tok} {tk:Nat} (I:Inv X pins σ H s) (h1: -(2^62)<=lo) (h2:lo<2^62) (h3: -(2^62)<=hi) (h4:hi<2^62)
 (q:R (Itr lo (hi-lo).toNat) H):wpAny (model X.prog X.w) X.A (pyIter (.ref s.heap.objs.size)) (PIE X pins σ tg R) E {s with heap:=s.heap.push {cls:=.type "range",data:=.fields #[.int lo t,.int hi u,.int 1 v]},toks:=tk}:=by
 refine wpAny_pyIter_range (IsRange.new ..) (small_one h1 h2 h3 h4) ?_
 have I1:Inv X pins σ H {s with heap:=s.heap.push {cls:=.type "range",data:=.fields #[.int lo t,.int hi u,.int 1 v]},toks:=tk}:=I.kept λb o e=>Heap.get?_push_of_some _ e
 refine⟨(s.heap.push {cls:=.type "range",data:=.fields #[.int lo t,.int hi u,.int 1 v]}).objs.size,[(s.heap.push {cls:=.type "range",data:=.fields #[.int lo t,.int hi u,.int 1 v]}).objs.size],_,_,H,rfl,
  I1.kept (t':=tk) λb o e=>Heap.get?_push_of_some _ e,CC _ lo (hi-lo).toNat, ?_,λb hb=> ?_,q⟩
 ·have e1:lo+((0:Nat):Int)*1=lo:=by simp
  have e2:(((hi-lo).toNat:Nat):Int)-((0:Nat):Int)=Builtin.Range.rangeSize lo hi 1:=by rw[rangeSize_one];split <;> omega
  show IsRangeIter _ _ (lo+((0:Nat):Int)*1) ((((hi-lo).toNat:Nat):Int)-((0:Nat):Int)) 1
  rw[e1,e2]
  exact Heap.get?_push_size _ rfl
 ·have e:b=(s.heap.push {cls:=.type "range",data:=.fields #[.int lo t,.int hi u,.int 1 v]}).objs.size:=by simpa using hb
  subst e
  exact I1.fpOk (Nat.le_refl _) (I1.hok.fresh (Nat.le_refl _))
def GL(ta:TA):TI:=λσ H R=>ta σ H λvs H1=>∃j:Int,vs=[.int j]/\ -(2^62)<=j/\j<2^62/\R (Itr 0 j.toNat) H1
theorem gy{a:Expr}{ta:TA}{p pos:Pos}(hg:Gl X "range")(hm:X.mg "range" =none)(ha:PA X [a] ta)(hs:starEach [a] X.env=[(false,eval a X.env)]:=by rfl):PI X tg (.Call (.Name "range" p) [a] [] pos) (GL ta):=by
 intro pins s σ H R I h
 refine Call_ (oU I hg hm boot_range (PyProof.Rows.callWith_type1 (thn (ha pos pins s σ H _ I h) λus s1 ⟨vs,H1,I1,r1,q1⟩=> ?_) hs rfl))
 obtain⟨j,e,q1,q2,q⟩:=q1
 subst e
 cases r1 with
 | cons r rr=>
  cases rr
  obtain⟨t,rfl⟩:=r
  exact call_range_1 (Fd I1 (by omega) (by omega) q1 q2 (by simpa using q))
def Jq(wi:TI)(g:TG)(tb:TS):TS:=λD σ H=>wi σ H λJ H1=>∃W:Nat->Nat->St->Hp->Prop,(∃m,W 0 m σ H1)/\∀i m σ H,W i m σ H->
 (J.stop i H/\D.nx σ H)\/(J.go i H/\∃N:St->Hp->Prop,(∀σ' H',N σ' H'->∃m',m'<m/\W (i+1) m' σ' H')/\∀x H',J.yld i H x H'->g x σ H' λσ2 H2=>tb {D with nx:=N,ct:=N,bk:=D.nx} σ2 H2)
def qY(fp:List Addr)(h:Heap):List (Addr×Obj):=fp.filterMap λb=>(h.get? b).map λo=>(b,o)
theorem mN{fp:List Addr}{h:Heap}{b:Addr}{o:Obj}(hb:b∈fp)(e:h.get? b=some o):(b,o)∈qY fp h:=List.mem_filterMap.mpr ⟨b,hb,by rw[e];rfl⟩
theorem DY{fp:List Addr}{h:Heap}{p:Addr×Obj}(hp:p∈qY fp h):p.1∈fp/\h.get? p.1=some p.2:=by
 obtain⟨b,hb,e⟩:=List.mem_filterMap.mp hp
 cases q:h.get? b with
 | none=>rw[q] at e;cases e
 | some o=>
  rw[q] at e
  have e':(b,o)=p:=Option.some.inj e
  subst e'
  exact⟨hb,q⟩
theorem Inv.pinned{pins:List (Addr×Obj)}{σ:St}{H:Hp}{s:Shared}{fp:List Addr}(I:Inv X pins σ H s)(hf:∀b∈fp,lO X pins H b)(ho:∀b∈fp,∃o,s.heap.get? b=some o/\∀v,o.data≠ .cell v):Inv X (pins++qY fp s.heap) σ H s:=
 I.pins_of λp hp=>(List.mem_append.mp hp).elim (λz=>I.pin p (List.mem_append_right _ z)) λz=>by
  obtain⟨hb,e⟩:=DY z
  obtain⟨f0,f1,f2,_⟩:=hf p.1 hb
  obtain⟨o,e',d⟩:=ho p.1 hb
  rw[e] at e';cases e'
  exact⟨e,f0,f1,f2,d⟩
theorem Inv.unpinned{pins pl:List (Addr×Obj)}{σ:St}{H:Hp}{s:Shared}(I:Inv X (pins++pl) σ H s):Inv X pins σ H s:=I.pins_of λp hp=>I.pin p (List.mem_append_right _ (List.mem_append_left _ hp))
theorem dP {iter:Expr} {body:List Stmt} {wi:TI} {g:TG} {tb:TS} {pos:Pos} (hp:PassesOwn (model X.prog X.w) X.A X.env X.xe) (hc:X.calm=true) (hi:PI X tg iter wi) (hg:PG X tg g) (hb:PSs X body tb)
 (hs:∀x,foldedSetIterable iter X.env x=pure x:=by intro _;rfl):PS X (.For tg iter body [] pos) (Jq wi g tb):=by
 intro pins s σ H D I h
 refine wpAny_For (thn (hi pins s σ H _ I h) λv s1 h1=>thn h1 λitv s2 h2=> ?_) hs
 obtain⟨it,fp,tn,J,H2,e,I2,T,st2,f2,W,⟨m0,w0⟩,turn⟩:=h2
 subst e
 have stat:∀{H':Hp},(∀b∈fp,H' b=none)->∀b∈fp,lO X pins H' b:=λhn b hb=>⟨hn b hb,(f2 b hb).2⟩
 refine codeAny_forLoop_any (λn s'=>∃i σ' H',Inv X pins σ' H' s'/\tn i s'.heap/\(∀b∈fp,H' b=none)/\W i n σ' H') ?_ m0 ⟨0,σ,H2,I2,st2,λb hb=>(f2 b hb).1,w0⟩
 rintro n s3 ⟨i,σ3,H3,I3,st3,fr3,w3⟩
 rcases turn i n σ3 H3 w3 with⟨stop,qn⟩ | ⟨go,N,hN,step⟩
 ·refine wpAny_passesOwn hp (thn (T.done X rfl rfl rfl hc i pins s3 σ3 H3 X.xe I3 (stat fr3) st3 stop) λr s4 ⟨hr,I4⟩=> ?_)
  subst hr
  exact wpAny_execs_nil ⟨σ3,H3,I4,qn⟩
 ·refine wpAny_passesOwn hp (thn (T.item X rfl rfl rfl hc i pins s3 σ3 H3 X.xe I3 (stat fr3) st3 go) λr s4 ⟨u,hr,h4⟩=> ?_)
  subst hr
  refine wpAny_passesOwn hp (thn h4 λ_ s5 ⟨x,H5,I5,r5,y5,st5,fr5⟩=> ?_)
  have I5':=I5.pinned (stat fr5) (T.obj _ _ st5)
  refine wpAny_passesOwn hp (thn (hg _ s5 σ3 H5 x u _ I5' r5 (step x H5 y5)) λ_ s6 ⟨σ6,H6,I6,q6⟩=> ?_)
  refine wpAny_passesOwn hp (thn (hb _ s6 σ6 H6 _ I6 q6) λf s7 q7=> ?_)
  have again:∀{σ7:St} {H7:Hp},Inv X (pins++qY fp s5.heap) σ7 H7 s7->N σ7 H7->∃m,m<n/\∃i σ' H',Inv X pins σ' H' s7/\tn i s7.heap/\(∀b∈fp,H' b=none)/\W i m σ' H':=λ{σ7 H7} I7 n7=>by
   obtain⟨m',hm,w7⟩:=hN σ7 H7 n7
   refine⟨m',hm,i+1,σ7,H7,I7.unpinned,T.keep _ _ _ st5 λb hb o e=>(I7.pin (b,o) (List.mem_append_right _ (List.mem_append_right _ (mN hb e)))).1,λb hb=> ?_,w7⟩
   obtain⟨o,e,d⟩:=T.obj _ _ st5 b hb
   exact(I7.pin (b,o) (List.mem_append_right _ (List.mem_append_right _ (mN hb e)))).2.1
  cases f with
  | next=>obtain⟨σ7,H7,I7,n7⟩:=q7;exact again I7 n7
  | cont=>obtain⟨σ7,H7,I7,n7⟩:=q7;exact again I7 n7
  | brk=>obtain⟨σ7,H7,I7,q7⟩:=q7;exact⟨σ7,H7,I7.unpinned,q7⟩
  | ret v=>obtain⟨x7,σ7,H7,I7,r7,q7⟩:=q7;exact⟨x7,σ7,H7,I7.unpinned,r7,q7⟩
end
end L2
namespace L2
open PySem PySem.Spec PyProof.Rows
abbrev R2:=V->V->Hp->VK->Prop
def OpR(X:Cx)(f:Value->Value->Sem Value)(r:R2):Prop:=
 ∀(pins:List (Addr×Obj)) (s:Shared) (σ:St) (H:Hp) (x y:V) (v u:Value) (Q:VK),Inv X pins σ H s->RelV x v->RelV y u->r x y H Q->
  wpAny (model X.prog X.w) X.A (f v u) (EP X pins σ Q) X.xe s
def UnR(X:Cx)(f:Value->Sem Value)(r:V->Hp->VK->Prop):Prop:=
 ∀(pins:List (Addr×Obj)) (s:Shared) (σ:St) (H:Hp) (x:V) (v:Value) (Q:VK),Inv X pins σ H s->RelV x v->r x H Q->
  wpAny (model X.prog X.w) X.A (f v) (EP X pins σ Q) X.xe s
def i7(X:Cx)(f:Value)(r:List V->Hp->VK->Prop):Prop:=
 ∀(pins:List (Addr×Obj)) (s:Shared) (σ:St) (H:Hp) (xs:List V) (us:List Value) (Q:VK),Inv X pins σ H s->Vals xs us->r xs H Q->
  wpAny (model X.prog X.w) X.A (call f us) (EP X pins σ Q) X.xe s
def LX(X:Cx)(r:V->Hp->(Bool->Hp->Prop)->Prop):Prop:=
 ∀(pins:List (Addr×Obj)) (s:Shared) (σ:St) (H:Hp) (x:V) (v:Value) (Q:Bool->Hp->Prop),Inv X pins σ H s->RelV x v->r x H Q->
  wpAny (model X.prog X.w) X.A (truthy v) (TP X pins σ Q) X.xe s
def tOp(r:R2)(ta tb:TE):TE:=λσ H Q=>ta σ H λx H1=>tb σ H1 λy H2=>r x y H2 Q
def tUn(r:V->Hp->VK->Prop)(ta:TE):TE:=λσ H Q=>ta σ H λx H1=>r x H1 Q
def rI(C:Int->Int->Prop)(g:Int->Int->V):R2:=λx y H Q=>∃i j,x=.int i/\y=.int j/\C i j/\Q (g i j) H
def rI0(g:Int->Int->V):R2:=λx y H Q=>∃i j,x=.int i/\y=.int j/\Q (g i j) H
def rU(g:Int->V):V->Hp->VK->Prop:=λx H Q=>∃i,x=.int i/\Q (g i) H
section
variable {X : Cx} {a b c : Expr} {ta tb tc : TE} {pos : Pos}
theorem Fm (ha:PE X a ta) (hb:PE X b tb) {pins:List (Addr×Obj)} {s:Shared} {σ:St} {H:Hp} {R:V->V->Hp->Prop} (I:Inv X pins σ H s)
 (h:ta σ H λx H1=>tb σ H1 λy H2=>R x y H2) {Q:Value->Shared->Prop} {f:Value->Value->Sem Value}
 (hf:∀v u s2 x y H2,Inv X pins σ H2 s2->RelV x v->RelV y u->R x y H2->wpAny (model X.prog X.w) X.A (f v u) Q X.xe s2):
 wpAny (model X.prog X.w) X.A (eval a X.env) (λv s₁=>wpAny (model X.prog X.w) X.A (eval b X.env) (λu s₂=>wpAny (model X.prog X.w) X.A (f v u) Q X.xe s₂) X.xe s₁) X.xe s:=by
 refine thn (ha pins s σ H _ I h) λv s1 ⟨x,H1,I1,r1,q1⟩=> ?_
 refine thn (hb pins s1 σ H1 _ I1 q1) λu s2 ⟨y,H2,I2,r2,q2⟩=> ?_
 exact hf v u s2 x y H2 I2 r1 r2 q2
theorem aV{op:Operator}{r:R2}(ho:OpR X (binaryOp op) r)(ha:PE X a ta)(hb:PE X b tb):PE X (.BinOp a op b pos) (tOp r ta tb):=by
 intro pins s σ H Q I h
 exact wpAny_BinOp (Fm ha hb I h λv u s2 x y H2 I2 rx ry q=>ho pins s2 σ H2 x y v u Q I2 rx ry q)
theorem pP{op:UnaryOp}{r:V->Hp->VK->Prop}(ho:UnR X (unaryOp op) r)(ha:PE X a ta):PE X (.UnaryOp op a pos) (tUn r ta):=by
 intro pins s σ H Q I h
 exact UnaryOp_ (thn (ha pins s σ H _ I h) λv s1 ⟨x,H1,I1,r1,q1⟩=>ho pins s1 σ H1 x v Q I1 r1 q1)
theorem opI {f:Value->Value->Sem Value} {C:Int->Int->Prop} {g:Int->Int->Int}
 (rule:∀(i j:Int) (t u:Tok) (s:Shared) (Q:Value->Shared->Prop) (E:Value->Shared->Prop),C i j->Q (.int (g i j) s.toks) {s with toks:=s.toks+1}->wpAny (model X.prog X.w) X.A (f (.int i t) (.int j u)) Q E s):
 OpR X f (rI C λi j=>.int (g i j)):=by
 intro pins s σ H x y v u Q I rx ry h
 obtain⟨i,j,rfl,rfl,hc,q⟩:=h
 obtain⟨t,rfl⟩:=rx
 obtain⟨t',rfl⟩:=ry
 exact rule i j t t' s _ _ hc ⟨.int (g i j),H,I.tok _,⟨_,rfl⟩,q⟩
theorem JK {f:Value->Value->Sem Value} {g:Int->Int->Int}
 (rule:∀(i j:Int) (t u:Tok) (s:Shared) (Q:Value->Shared->Prop) (E:Value->Shared->Prop),Q (.int (g i j) s.toks) {s with toks:=s.toks+1}->wpAny (model X.prog X.w) X.A (f (.int i t) (.int j u)) Q E s):
 OpR X f (rI0 λi j=>.int (g i j)):=by
 intro pins s σ H x y v u Q I rx ry h
 obtain⟨i,j,rfl,rfl,q⟩:=h
 obtain⟨t,rfl⟩:=rx
 obtain⟨t',rfl⟩:=ry
 exact rule i j t t' s _ _ ⟨.int (g i j),H,I.tok _,⟨_,rfl⟩,q⟩
theorem Fz {f:Value->Value->Sem Value} {g:Int->Int->Bool}
 (rule:∀(i j:Int) (t u:Tok) (s:Shared) (Q:Value->Shared->Prop) (E:Value->Shared->Prop),Q (.bool (g i j)) s->wpAny (model X.prog X.w) X.A (f (.int i t) (.int j u)) Q E s):
 OpR X f (rI0 λi j=>.bl (g i j)):=by
 intro pins s σ H x y v u Q I rx ry h
 obtain⟨i,j,rfl,rfl,q⟩:=h
 obtain⟨t,rfl⟩:=rx
 obtain⟨t',rfl⟩:=ry
 exact rule i j t t' s _ _ ⟨.bl (g i j),H,I,rfl,q⟩
def EW(i j:Int):Prop:=0<=j/\j<=1000000/\i.natAbs<2^64
def Kp(i j:Int):Prop:=(-(2^64)<i/\i<2^64)\/(-(2^64)<j/\j<2^64)
theorem Kp.ok{i j:Int}(h:Kp i j):IntMulOk i j:=by
 rcases h with⟨h1,h2⟩ | ⟨h1,h2⟩
 ·exact .of_left (intBits_le_64 h1 h2)
 ·exact .of_right (intBits_le_64 h1 h2)
theorem I0:OpR X (binaryOp .Add) (rI0 λi j=>.int (i+j)):=JK λ_ _ _ _ _ _ _ q=>add_int q
theorem kZ:OpR X (binaryOp .Sub) (rI0 λi j=>.int (i-j)):=JK λ_ _ _ _ _ _ _ q=>sub_int q
theorem fk:OpR X (binaryOp .Mod) (rI (λ_ j=>j≠0) λi j=>.int (i.fmod j)):=opI λ_ _ _ _ _ _ _ hc q=>mod_int' hc q
theorem ub:OpR X (binaryOp .Pow) (rI EW λi j=>.int (i^j.toNat)):=opI λ_ _ _ _ _ _ _ hc q=>pow_int_small hc.1 hc.2.1 hc.2.2 q
theorem unI {f:Value->Sem Value} {g:Int->Int}
 (rule:∀(i:Int) (t:Tok) (s:Shared) (Q:Value->Shared->Prop) (E:Value->Shared->Prop),Q (.int (g i) s.toks) {s with toks:=s.toks+1}->wpAny (model X.prog X.w) X.A (f (.int i t)) Q E s):
 UnR X f (rU λi=>.int (g i)):=by
 intro pins s σ H x v Q I rx h
 obtain⟨i,rfl,q⟩:=h
 obtain⟨t,rfl⟩:=rx
 exact rule i t s _ _ ⟨.int (g i),H,I.tok _,⟨_,rfl⟩,q⟩
theorem nZ:UnR X (unaryOp .USub) (rU λi=>.int (-i)):=unI λ_ _ _ _ _ q=>neg_int q
end
def Jg:V->V->Bool
 | .non,.non=>true | .non,.int _=>true | .int _,.non=>true | .non,.bl _=>true | .bl _,.non=>true | .non,.str _=>true | .str _,.non=>true
 | .int _,.int _=>true | .bl _,.bl _=>true | .str _,.str _=>true | .byt _,.byt _=>true
 | .int _,.str _=>true | .str _,.int _=>true | .bl _,.str _=>true | .str _,.bl _=>true
 | _,_=>false
def rEq:R2:=λx y H Q=>Jg x y=true/\Q (.bl (decide (x=y))) H
def rNe:R2:=λx y H Q=>Jg x y=true/\Q (.bl (!decide (x=y))) H
theorem rZ{i j:Int}:decide (V.int i=V.int j)=(i == j):=by
 rw[Bool.eq_iff_iff]
 simp
theorem uH{i j:Bool}:decide (V.bl i=V.bl j)=(i == j):=by
 rw[Bool.eq_iff_iff]
 simp
theorem sq{i j:Str}:decide (V.str i=V.str j)=(i == j):=by
 rw[Bool.eq_iff_iff]
 simp
theorem Bk{i j:Array UInt8}:decide (V.byt i=V.byt j)=(i.toList == j.toList):=by
 rw[Bool.eq_iff_iff]
 cases i
 cases j
 simp
section
variable {X : Cx} {a b c : Expr} {ta tb tc : TE} {pos : Pos}
theorem cj{pins:List (Addr×Obj)}{σ:St}{H:Hp}{s:Shared}{Q:VK}{k k':Bool}(I:Inv X pins σ H s)(q:Q (.bl k) H)(e:k=k'):EP X pins σ Q (.bool k') s:=by
 subst e
 exact⟨.bl k,H,I,rfl,q⟩
theorem KC:OpR X (compareOp .Eq) rEq:=by
 intro pins s σ H x y v u Q I rx ry h
 obtain⟨hs,q⟩:=h
 cases x with
 | non=>
  cases rx
  cases y with
  | non=>cases ry;exact PySem.EqNone.eq_none_none (cj I q (by simp))
  | bl j=>cases ry;exact PySem.EqNone.eq_none_bool (cj I q (by simp))
  | int j=>obtain⟨t',rfl⟩:=ry;exact PySem.EqNone.eq_none_int (cj I q (by simp))
  | str j=>obtain⟨t',rfl⟩:=ry;exact PySem.EqNone.eq_none_str (cj I q (by simp))
  | _=>exact absurd (show false=true from hs) Bool.false_ne_true
 | bl i=>
  cases rx
  cases y with
  | non=>cases ry;exact PySem.EqNone.eq_bool_none (cj I q (by simp))
  | bl j=>cases ry;exact eq_bool (cj I q uH)
  | str j=>obtain⟨t',rfl⟩:=ry;exact PySem.EqMixed.eq_bool_str (cj I q (by simp))
  | _=>exact absurd (show false=true from hs) Bool.false_ne_true
 | int i=>
  obtain⟨t,rfl⟩:=rx
  cases y with
  | non=>cases ry;exact PySem.EqNone.eq_int_none (cj I q (by simp))
  | int j=>obtain⟨t',rfl⟩:=ry;exact eq_int (cj I q rZ)
  | str j=>obtain⟨t',rfl⟩:=ry;exact PySem.EqMixed.eq_int_str (cj I q (by simp))
  | _=>exact absurd (show false=true from hs) Bool.false_ne_true
 | str i=>
  obtain⟨t,rfl⟩:=rx
  cases y with
  | non=>cases ry;exact PySem.EqNone.eq_str_none (cj I q (by simp))
  | bl j=>cases ry;exact PySem.EqMixed.eq_str_bool (cj I q (by simp))
  | int j=>obtain⟨t',rfl⟩:=ry;exact PySem.EqMixed.eq_str_int (cj I q (by simp))
  | str j=>obtain⟨t',rfl⟩:=ry;exact eq_str (cj I q sq)
  | _=>exact absurd (show false=true from hs) Bool.false_ne_true
 | byt i=>
  obtain⟨t,rfl⟩:=rx
  cases y with
  | byt j=>obtain⟨t',rfl⟩:=ry;exact PySem.W.eq_bytes (cj I q Bk)
  | _=>exact absurd (show false=true from hs) Bool.false_ne_true
 | _=>cases y <;> exact absurd (show false=true from hs) Bool.false_ne_true
theorem KH:OpR X (compareOp .NotEq) rNe:=by
 intro pins s σ H x y v u Q I rx ry h
 obtain⟨hs,q⟩:=h
 cases x with
 | non=>
  cases rx
  cases y with
  | non=>cases ry;exact PySem.EqNone.ne_none_none (cj I q (by simp))
  | bl j=>cases ry;exact PySem.EqNone.ne_none_bool (cj I q (by simp))
  | int j=>obtain⟨t',rfl⟩:=ry;exact PySem.EqNone.ne_none_int (cj I q (by simp))
  | str j=>obtain⟨t',rfl⟩:=ry;exact PySem.EqNone.ne_none_str (cj I q (by simp))
  | _=>exact absurd (show false=true from hs) Bool.false_ne_true
 | bl i=>
  cases rx
  cases y with
  | non=>cases ry;exact PySem.EqNone.ne_bool_none (cj I q (by simp))
  | bl j=>cases ry;exact ne_bool (cj I q (congrArg not uH))
  | str j=>obtain⟨t',rfl⟩:=ry;exact PySem.EqMixed.ne_bool_str (cj I q (by simp))
  | _=>exact absurd (show false=true from hs) Bool.false_ne_true
 | int i=>
  obtain⟨t,rfl⟩:=rx
  cases y with
  | non=>cases ry;exact PySem.EqNone.ne_int_none (cj I q (by simp))
  | int j=>obtain⟨t',rfl⟩:=ry;exact ne_int (cj I q (congrArg not rZ))
  | str j=>obtain⟨t',rfl⟩:=ry;exact PySem.EqMixed.ne_int_str (cj I q (by simp))
  | _=>exact absurd (show false=true from hs) Bool.false_ne_true
 | str i=>
  obtain⟨t,rfl⟩:=rx
  cases y with
  | non=>cases ry;exact PySem.EqNone.ne_str_none (cj I q (by simp))
  | bl j=>cases ry;exact PySem.EqMixed.ne_str_bool (cj I q (by simp))
  | int j=>obtain⟨t',rfl⟩:=ry;exact PySem.EqMixed.ne_str_int (cj I q (by simp))
  | str j=>obtain⟨t',rfl⟩:=ry;exact ne_str (cj I q (congrArg not sq))
  | _=>exact absurd (show false=true from hs) Bool.false_ne_true
 | byt i=>
  obtain⟨t,rfl⟩:=rx
  cases y with
  | byt j=>obtain⟨t',rfl⟩:=ry;exact PySem.W.ne_bytes (cj I q (congrArg not Bk))
  | _=>exact absurd (show false=true from hs) Bool.false_ne_true
 | _=>cases y <;> exact absurd (show false=true from hs) Bool.false_ne_true
theorem xJ:OpR X (compareOp .Lt) (rI0 λi j=>.bl (decide (i<j))):=Fz λ_ _ _ _ _ _ _ q=>lt_int q
theorem K6:OpR X (compareOp .LtE) (rI0 λi j=>.bl (decide (i<=j))):=Fz λ_ _ _ _ _ _ _ q=>le_int q
theorem kL:OpR X (compareOp .Gt) (rI0 λi j=>.bl (decide (j<i))):=Fz λ_ _ _ _ _ _ _ q=>gt_int q
theorem Ja:OpR X (compareOp .Is) (λx y H Q=>y=.non/\Q (.bl (decide (x=.non))) H):=by
 intro pins s σ H x y v u Q I rx ry h
 obtain⟨rfl,q⟩:=h
 cases ry
 refine is_none_gen (cj I q ?_)
 cases x <;> first
  | (cases rx;rfl)
  | (obtain⟨t,rfl⟩:=rx;rfl)
theorem Ht:OpR X (compareOp .IsNot) (λx y H Q=>y=.non/\Q (.bl (!decide (x=.non))) H):=by
 intro pins s σ H x y v u Q I rx ry h
 obtain⟨rfl,q⟩:=h
 cases ry
 refine isnot_none_gen (cj I q ?_)
 cases x <;> first
  | (cases rx;rfl)
  | (obtain⟨t,rfl⟩:=rx;rfl)
theorem OpR.or{f:Value->Value->Sem Value}{r r':R2}(h:OpR X f r)(h':OpR X f r'):OpR X f (λx y H Q=>r x y H Q\/r' x y H Q):=by
 intro pins s σ H x y v u Q I rx ry q
 rcases q with q | q
 ·exact h pins s σ H x y v u Q I rx ry q
 ·exact h' pins s σ H x y v u Q I rx ry q
theorem bQ(b:Expr){op:CmpOp}(h:op≠ .In:=by decide)(h2:op≠ .NotIn:=by decide):behindInMarks op b=false:=by
 have e1:(op == CmpOp.In)=false:=by cases op <;> first | rfl | exact absurd rfl h
 have e2:(op == CmpOp.NotIn)=false:=by cases op <;> first | rfl | exact absurd rfl h2
 cases b <;> simp[behindInMarks,e1,e2]
theorem Be{op:CmpOp}{r:R2}(ho:OpR X (compareOp op) r)(ha:PE X a ta)(hb:PE X b tb)(hm:behindInMarks op b=false):PE X (.Compare a [op] [b] pos) (tOp r ta tb):=by
 intro pins s σ H Q I h
 exact wpAny_Compare1 (Fm ha hb I h λv u s2 x y H2 I2 rx ry q=>ho pins s2 σ H2 x y v u Q I2 rx ry q) hm
def GC(t:TE):TT:=λσ H Q=>t σ H λx H'=>∃k,x=.bl k/\Q k H'
theorem bB{op:CmpOp}{r:R2}(ho:OpR X (compareOp op) r)(ha:PE X a ta)(hb:PE X b tb)(hm:behindInMarks op b=false):PT X (.Compare a [op] [b] pos) (GC (tOp r ta tb)):=by
 intro pins s σ H Q I h
 refine wpAny_isTrue_Compare1 (thn (ha pins s σ H _ I h) λv s1 ⟨x,H1,I1,r1,q1⟩=>thn (hb pins s1 σ H1 _ I1 q1) λu s2 ⟨y,H2,I2,r2,q2⟩=>
  thn (ho pins s2 σ H2 x y v u _ I2 r1 r2 q2) λc s3 ⟨z,H3,I3,r3,k,e,q3⟩=> ?_) hm
 subst e
 cases r3
 exact wpAny_truthy_bool ⟨H3,I3,q3⟩
def DV(r r':R2)(ta tb tc:TE):TE:=λσ H Q=>ta σ H λx H1=>tb σ H1 λy H2=>r x y H2 λz H3=>∃k,z=.bl k/\
 (if k=true then tc σ H3 λw' H4=>r' y w' H4 Q else Q (.bl false) H3)
theorem ED {op op':CmpOp} {r r':R2} (ho:OpR X (compareOp op) r) (ho':OpR X (compareOp op') r') (ha:PE X a ta) (hb:PE X b tb) (hc:PE X c tc)
 (hm:lastMarks [op,op'] [b,c]=false:=by with_unfolding_all rfl):PE X (.Compare a [op,op'] [b,c] pos) (DV r r' ta tb tc):=by
 intro pins s σ H Q I h
 refine Compare_chain (thn (ha pins s σ H _ I h) λv s1 ⟨x,H1,I1,r1,q1⟩=>chain_link (thn (hb pins s1 σ H1 _ I1 q1) λu s2 ⟨y,H2,I2,r2,q2⟩=>
  thn (ho pins s2 σ H2 x y v u _ I2 r1 r2 q2) λd s3 ⟨z,H3,I3,r3,k,e,q3⟩=> ?_)) hm
 subst e
 cases r3
 refine wpAny_truthy_bool ?_
 cases k with
 | false=>exact ite_ff ⟨.bl false,H3,I3,rfl,q3⟩
 | true=>exact ite_tt (chain_last (thn (hc pins s3 σ H3 _ I3 q3) λw' s4 ⟨z',H4,I4,r4,q4⟩=>ho' pins s4 σ H4 y z' u w' Q I4 r2 r4 q4))
def LS(K:PySem.W.Frag)(x:V)(H:Hp)(k:Bool):Prop:=
 match x with
 | .non=>k=false
 | .bl b=>k=b
 | .int i=>k=(i != 0)
 | .str y=>y.length<=sizeLine/\k=((y.length:Int) != 0)
 | .byt y=>y.size<=sizeLine/\k=((y.size:Int) != 0)
 | .ref p=>(∃xs,SqL K H p xs/\k= !xs.isEmpty)\/(∃xs,SqT K H p xs/\k= !xs.isEmpty)\/∃kvs,H p=some (.dK kvs)/\k= !kvs.isEmpty
 | _=>False
theorem B0{κ:Type}{kvs:List (κ×V)}{vs:List (κ×Value)}(r:KV kvs vs):(!vs.isEmpty)= !kvs.isEmpty:=by
 cases r <;> rfl
theorem ug{xs:List V}{its:List Value}(r:Vals xs its):(!its.toArray.isEmpty)= !xs.isEmpty:=by
 cases r <;> simp
theorem nO:(sizeLine:Nat)<2^63:=by rw[sizeLine_eq];decide
theorem Mz:LX X (λx H Q=>∃k,LS X.K x H k/\Q k H):=by
 intro pins s σ H x v Q I rx h
 obtain⟨k,e,q⟩:=h
 have hl:=nO
 have hs:sizeLine=16777216:=sizeLine_eq
 cases x with
 | non=>
  cases rx
  have e':k=false:=e
  subst e'
  exact truthy_none ⟨H,I,q⟩
 | bl b=>
  cases rx
  have e':k=b:=e
  subst e'
  exact wpAny_truthy_bool ⟨H,I,q⟩
 | int i=>
  obtain⟨t,rfl⟩:=rx
  have e':k=(i != 0):=e
  subst e'
  exact PySem.P.truthy_int ⟨H,I,q⟩
 | str y=>
  obtain⟨t,rfl⟩:=rx
  obtain⟨hy,e'⟩:y.length<=sizeLine/\k=((y.length:Int) != 0):=e
  subst e'
  exact PySem.P.truthy_str (by omega) ⟨H,I.tok _,q⟩
 | byt y=>
  obtain⟨t,rfl⟩:=rx
  obtain⟨hy,e'⟩:y.size<=sizeLine/\k=((y.size:Int) != 0):=e
  subst e'
  exact PySem.W.truthy_bytes (by omega) ⟨H,I.tok _,q⟩
 | ref p=>
  cases rx
  have e':(∃xs,SqL X.K H p xs/\k= !xs.isEmpty)\/(∃xs,SqT X.K H p xs/\k= !xs.isEmpty)\/∃kvs,H p=some (.dK kvs)/\k= !kvs.isEmpty:=e
  rcases e' with⟨xs,hx,e'⟩ | ⟨xs,hx,e'⟩ | ⟨kvs,hx,e'⟩
  ·subst e'
   obtain⟨its,r,pl,hz⟩:=I.list hx
   have hlen:=r.length
   exact wpAny_truthy_list pl.isList (by simp only[List.size_toArray];omega) ⟨H,I.tok _,by rw[ug r];exact q⟩
  ·subst e'
   obtain⟨its,r,pl,hz⟩:=I.tuple hx
   have hlen:=r.length
   exact truthy_tuple pl (by simp only[List.size_toArray];omega) ⟨H,I.tok _,by rw[ug r];exact q⟩
  ·subst e'
   obtain⟨hz,hS,vs,r,m⟩:kvs.length<=sizeLine/\(p == sysModules)=false/\∃vs,KV kvs vs/\s.heap.DictOf (uW X.prog X.w) p vs:=I.hok p _ hx
   have hlen:kvs.length=vs.length:=Paired.length r
   exact wpAny_truthy_dict hS m (by omega) ⟨H,I.tok _,by rw[B0 r];exact q⟩
 | _=>exact(show False from e).elim
theorem BB:OpR X (binaryOp .Add) (λx y H Q=>∃i j,x=.str i/\y=.str j/\i.length+j.length<=sizeLine/\Q (.str (i++j)) H):=by
 intro pins s σ H x y v u Q I rx ry h
 obtain⟨i,j,rfl,rfl,hz,q⟩:=h
 obtain⟨t,rfl⟩:=rx
 obtain⟨t',rfl⟩:=ry
 exact add_str (λt' tk=>⟨.str (i++j),H,I.tok _,⟨_,rfl⟩,q⟩) hz
theorem vals1{x:V}{us:List Value}(r:Vals [x] us):∃u,us=[u]/\RelV x u:=by
 cases r with
 | cons r1 r2=>cases r2;exact⟨_,rfl,r1⟩
theorem vals2{x y:V}{us:List Value}(r:Vals [x,y] us):∃u w',us=[u,w']/\RelV x u/\RelV y w':=by
 cases r with
 | cons r1 r2=>
  cases r2 with
  | cons r3 r4=>cases r4;exact⟨_,_,rfl,r1,r3⟩
theorem tx:i7 X (.builtin "abs") (λxs H Q=>∃i,xs=[.int i]/\Q (.int (if i<0 then -i else i)) H):=by
 intro pins s σ H xs us Q I r h
 obtain⟨i,rfl,q⟩:=h
 obtain⟨u,rfl,t,rfl⟩:=vals1 r
 exact call_abs_int λu tk=>⟨.int (if i<0 then -i else i),H,I.tok _,⟨_,rfl⟩,q⟩
theorem mw(hc:X.calm=true):i7 X (.builtin "max") (λxs H Q=>∃i j,xs=[.int i,.int j]/\Q (.int (if j>i then j else i)) H):=by
 intro pins s σ H xs us Q I r h
 obtain⟨i,j,rfl,q⟩:=h
 obtain⟨u,w',rfl,⟨t,rfl⟩,⟨t',rfl⟩⟩:=vals2 r
 refine max_two_ints (I.ok.hd hc) λh' tk k=>⟨_,H,I.kept k, ?_,q⟩
 by_cases hj:j>i
 ·rw[if_pos hj,if_pos hj];exact⟨_,rfl⟩
 ·rw[if_neg hj,if_neg hj];exact⟨_,rfl⟩
theorem wB:i7 X (.type "int") (λxs H Q=>(∃i,xs=[.int i]/\Q (.int i) H)\/∃k,xs=[.bl k]/\Q (.int (if k then 1 else 0)) H):=by
 intro pins s σ H xs us Q I r h
 rcases h with⟨i,rfl,q⟩ | ⟨k,rfl,q⟩
 ·obtain⟨u,rfl,t,rfl⟩:=vals1 r
  exact call_int_int ⟨.int i,H,I,⟨_,rfl⟩,q⟩
 ·obtain⟨u,rfl,r1⟩:=vals1 r
  cases r1
  exact call_int_bool ⟨.int (if k then 1 else 0),H,I.tok _,⟨_,rfl⟩,q⟩
def Jk(K:PySem.W.Frag)(x:V)(H:Hp)(n:Nat):Prop:=
 match x with
 | .str y=>y.length<=sizeLine/\n=y.length
 | .byt y=>y.size<=sizeLine/\n=y.size
 | .ref p=>(∃xs,SqL K H p xs/\n=xs.length)\/∃xs,SqT K H p xs/\n=xs.length
 | _=>False
theorem ei:i7 X (.builtin "len") (λxs H Q=>∃x n,xs=[x]/\Jk X.K x H n/\Q (.int n) H):=by
 intro pins s σ H xs us Q I r h
 obtain⟨x,n,rfl,e,q⟩:=h
 obtain⟨u,rfl,rx⟩:=vals1 r
 have hl:=nO
 have hs:sizeLine=16777216:=sizeLine_eq
 cases x with
 | str y=>
  obtain⟨t,rfl⟩:=rx
  obtain⟨hy,e'⟩:y.length<=sizeLine/\n=y.length:=e
  subst e'
  exact len_str (by omega) ⟨.int _,H,I.tok _,⟨_,rfl⟩,q⟩
 | byt y=>
  obtain⟨t,rfl⟩:=rx
  obtain⟨hy,e'⟩:y.size<=sizeLine/\n=y.size:=e
  subst e'
  exact PySem.W.len_bytes (by omega) ⟨.int _,H,I.tok _,⟨_,rfl⟩,q⟩
 | ref p=>
  cases rx
  have e':(∃xs,SqL X.K H p xs/\n=xs.length)\/∃xs,SqT X.K H p xs/\n=xs.length:=e
  rcases e' with⟨xs,hx,e'⟩ | ⟨xs,hx,e'⟩
  ·subst e'
   obtain⟨its,r',pl,hz⟩:=I.list hx
   have hlen:=r'.length
   exact Calls.call_len_list pl.isList (by simp only[List.size_toArray];omega) ⟨.int xs.length,H,I.tok _,⟨_,by simp only[List.size_toArray];rw[hlen]⟩,q⟩
  ·subst e'
   obtain⟨its,r',pl,hz⟩:=I.tuple hx
   have hlen:=r'.length
   exact len_tuple pl (by simp only[List.size_toArray];omega) ⟨.int xs.length,H,I.tok _,⟨_,by simp only[List.size_toArray];rw[hlen]⟩,q⟩
 | _=>exact(show False from e).elim
end
end L2
namespace L2
open PySem PySem.Spec PyProof.Rows
structure tM(h:Heap)(x dx C:Addr)(mA:Str->Option Value):Prop where
 obj:h.get? x=some (PySem.W.instObj C dx)
 ns:h.Ns1 dx mA
 ne:dx≠x
theorem C4{h:Heap}{dx:Addr}{mA:Str->Option Value}(n:h.Ns1 dx mA):∃od,h.get? dx=some od/\∀name,PySem.W.lookIn name od=some (mA name):=by
 obtain⟨o,es,ep,ho,hd,hk,_,hm⟩:=n
 refine⟨o,ho,λname=> ?_⟩
 have e:=hm name
 unfold nsFind findBy at e
 rw[<- Array.find?_toList] at e
 unfold PySem.W.lookIn
 rw[hd]
 dsimp only
 split
 ·rename_i y q
  rw[q] at e
  exact congrArg some e
 ·rename_i q
  rw[q] at e
  have a:es.toList.any (·.refKey)=false:=by
   rw[List.any_eq_false]
   intro y hy
   obtain⟨z,t,hkey⟩:=hk y (Array.mem_toList_iff.mp hy)
   simp[DictEntry.refKey,hkey]
  have a':¬es.toList.any (·.refKey)=true:=by rw[a];exact Bool.false_ne_true
  rw[if_neg a']
  exact congrArg some e
theorem tM.look{h:Heap}{x dx C:Addr}{mA:Str->Option Value}(I:tM h x dx C mA):∃od,PySem.W.InstAt h x (PySem.W.instObj C dx) C (some od)/\∀name,PySem.W.lookIn name od=some (mA name):=
 let ⟨od,ho,hl⟩:=C4 I.ns
 ⟨od,⟨I.obj,rfl,rfl,ho⟩,hl⟩
section
variable {prog : Program} {w : World} {A : Around} {E : Value → Shared → Prop} {s : Shared} {K : PySem.W.Frag} {x dx C f : Addr} {mA : Str → Option Value} {name : Str} {v : Value}
theorem get_map {expr:Bool} {Q:Value->Shared->Prop} (X:K.In s.heap) (I:tM s.heap x dx C mA) (hg:PySem.W.plainGet K C name=true) (hh:PySem.W.hasDictIn K C=true)
 (ha:PySem.W.findIn K (.ref C) name=some none) (hv:mA name=some v) (hv':PySem.W.handedIn v=true) (h:Q v {s with toks:=s.toks+1}):
 wpAny (model prog w) A (getAttr (.ref x) name expr) Q E s:=by
 obtain⟨od,J,hl⟩:=I.look
 exact PySem.W.get_value X J (PySem.W.plainGet_of hg).1 (PySem.W.findObj_own hh ha rfl (by rw[hl,hv])) hv' h
theorem EB {pl:Sem Bool} {Q:Value×List Value->Shared->Prop} (X:K.In s.heap) (I:tM s.heap x dx C mA) (hg:PySem.W.plainGet K C name=true)
 (hf:PySem.W.findIn K (.ref C) name=some (some (.ref f))) (ht:PySem.W.isFn K (.ref f)=true) (hv:mA name=none) (h:Q (.ref f,[.ref x]) s):
 wpAny (model prog w) A (getMethod (.ref x) name pl) Q E s:=by
 obtain⟨od,J,hl⟩:=I.look
 exact PySem.W.method_fn X J (PySem.W.plainGet_of hg).1 (PySem.W.plainGet_of hg).2 hf (beq_iff_eq.mp ht) (by show (PySem.W.lookIn name od).map (·.isSome)=some false;rw[hl,hv];rfl) h
theorem Hb {ns:List Str} {Q:Unit->Shared->Prop} (X:K.In s.heap) (I:tM s.heap x dx C mA)
 (hs:PySem.W.findIn K (.ref C) "__setattr__" =some (some (.builtin "object.__setattr__"))) (hp:PySem.W.plainOver K C=true) (ht:PySem.W.takerIn K C name=some none) (hh:PySem.W.hasDictIn K C=true)
 (hw:PySem.Within mA ns) (hsz:ns.length<=sizeLine)
 (h:∀h',tM h' x dx C (λy=>if y=name then some v else mA y)->Heap.SameBut dx s.heap h'->Q () {s with heap:=h',toks:=s.toks+2}):
 wpAny (model prog w) A (setAttr (.ref x) name v) Q E s:=by
 obtain⟨od,J,hl⟩:=I.look
 refine PySem.W.set_plain X J hs (PySem.W.osa_open (s:={s with toks:=s.toks+1}) (r:=none) X J hp ht λb=> ?_)
 obtain⟨cd,hc,hd'⟩:=PySem.W.any_some hh
 have hx:s.heap.get? x=some ⟨.ref C,some dx,.plain,#[]⟩:=I.obj
 refine wpAny_bind (wpAny_pure (wpAny_bind (wpAny_bind (wpAny_loadPart hx (wpAny_bind (PySem.W.Looks.here (s:={s with toks:=s.toks+1}) (PySem.W.looks_clsIn X hc) ?_))))))
 rw[hd']
 refine wpAny_pure (a:=some dx) (wpAny_bind (wpAny_pure (wpAny_bind ?_)))
 refine wpAny_nsSet1 (s:={s with toks:=s.toks+1}) I.ns λh' hn2 hs2=> ?_
 obtain⟨oD,esD,epD,hoD,hdD,hcD⟩:=hn2.count (PySem.Within.cons name v hw)
 refine wpAny_bind (wpAny_lookBehind hoD (by rw[hdD];exact pastItsLine_dict (Nat.le_trans hcD (by rw[List.length_cons];omega))) ?_)
 exact wpAny_pure (h _ ⟨(hs2.2 _ (Ne.symm I.ne)).trans I.obj,hn2,I.ne⟩ hs2)
theorem Ft {R:Result->Shared->Prop} {vs:List Value} {kw:List (Str×Value)} (X:K.In s.heap) (hm:PySem.W.makesIn K C=true)
 (hi:PySem.W.findIn K (.ref C) "__init__" =some (some (.ref f))) (hf:PySem.W.typeIn K (.ref f)=some (.type "function"))
 (h:codeAny (model prog w) (A.under (.builtin "type.__call__" ⟨.ref C::vs,kw⟩)) (.call (.ref f) ⟨.ref (s.heap.objs.size+1)::vs,kw⟩) (PySem.W.InitBack (s.heap.objs.size+1) R)
  {s with heap:=(s.heap.push PySem.W.emptyDict).push (PySem.W.instObj C s.heap.objs.size)}):
 codeAny (model prog w) A (.call (.ref C) ⟨vs,kw⟩) R s:=by
 obtain⟨hh,g,d,t,os⟩:=s
 exact PySem.W.make_core (PySem.W.makes_of X hm) (PySem.W.looks_findIn X hi) (λself=>PySem.W.bind_fn X self hf) (.inl rfl) h
end
def i3(f:Str)(v:V):List (Str×V)->List (Str×V)
 | []=>[(f,v)]
 | (g,x)::r=>if g=f then (g,v)::r else (g,x)::i3 f v r
theorem sT(f g:Str)(v:V):∀fs:List (Str×V),(i3 f v fs).lookup g=if g=f then some v else fs.lookup g
 | []=>by
  show List.lookup g [(f,v)]=_
  by_cases h:g=f
  ·have hb:(g == f)=true:=beq_iff_eq.mpr h
   simp only[List.lookup,hb,if_pos h]
  ·have hb:(g == f)=false:=beq_eq_false_iff_ne.mpr h
   simp only[List.lookup,hb,if_neg h]
 | (k,x)::r=>by
  have ih:=sT f g v r
  rw[show i3 f v ((k,x)::r)=(if k=f then (k,v)::r else (k,x)::i3 f v r) from rfl]
  by_cases hk:k=f
  ·rw[if_pos hk]
   by_cases h:g=k
   ·have hb:(g == k)=true:=beq_iff_eq.mpr h
    simp only[List.lookup,hb,if_pos (h.trans hk)]
   ·have hb:(g == k)=false:=beq_eq_false_iff_ne.mpr h
    simp only[List.lookup,hb,if_neg (λe:g=f=>h (e.trans hk.symm))]
  ·rw[if_neg hk]
   by_cases h:g=k
   ·have hb:(g == k)=true:=beq_iff_eq.mpr h
    simp only[List.lookup,hb,if_neg (λe:g=f=>hk (h.symm.trans e))]
   ·have hb:(g == k)=false:=beq_eq_false_iff_ne.mpr h
    simp only[List.lookup,hb]
    exact ih
theorem rF(f:Str)(v:V):∀fs:List (Str×V),f∈(i3 f v fs).map (·.1)/\∀g,g∈fs.map (·.1)->g∈(i3 f v fs).map (·.1)
 | []=>⟨by simp[i3],λg h=>by simp at h⟩
 | (k,x)::r=>by
  obtain⟨i1,i2⟩:=rF f v r
  rw[show i3 f v ((k,x)::r)=(if k=f then (k,v)::r else (k,x)::i3 f v r) from rfl]
  by_cases hk:k=f
  ·rw[if_pos hk]
   subst hk
   exact⟨by simp,λg h=>by simpa using h⟩
  ·rw[if_neg hk]
   refine⟨?_,λg h=> ?_⟩
   ·rw[List.map_cons]
    exact List.mem_cons_of_mem _ i1
   ·rw[List.map_cons] at h ⊢
    rcases List.mem_cons.mp h with e | e
    ·exact List.mem_cons.mpr (.inl e)
    ·exact List.mem_cons_of_mem _ (i2 g e)
theorem sS(f:Str)(v:V):∀fs:List (Str×V),(i3 f v fs).length<=fs.length+1
 | []=>by simp[i3]
 | (k,x)::r=>by
  have ih:=sS f v r
  rw[show i3 f v ((k,x)::r)=(if k=f then (k,v)::r else (k,x)::i3 f v r) from rfl]
  by_cases hk:k=f
  ·rw[if_pos hk,List.length_cons,List.length_cons];omega
  ·rw[if_neg hk,List.length_cons,List.length_cons];omega
theorem oG.some_of{v:V}{o:Option Value}(r:oG (some v) o):∃u,o=some u/\RelV v u:=by
 cases o with
 | none=>exact(show False from r).elim
 | some u=>exact⟨u,rfl,r⟩
theorem oG.none_of{o:Option Value}(r:oG none o):o=none:=by
 cases o with
 | none=>rfl
 | some u=>exact(show False from r).elim
theorem CM{v:V}{u:Value}(r:RelV v u):PySem.W.handedIn u=true:=by
 cases v with
 | non=>cases (show u=Value.none from r);rfl
 | bl b=>cases (show u=Value.bool b from r);rfl
 | int i=>obtain⟨t,e⟩:=(show ∃t,u=Value.int i t from r);cases e;rfl
 | str x=>obtain⟨t,e⟩:=(show ∃t,u=Value.str x t from r);cases e;rfl
 | byt b=>obtain⟨t,e⟩:=(show ∃t,u=Value.bytes b t from r);cases e;rfl
 | flt b=>obtain⟨t,e⟩:=(show ∃t,u=Value.float b t from r);cases e;rfl
 | ref a=>cases (show u=Value.ref a from r);rfl
 | ty n=>cases (show u=Value.type n from r);rfl
section
variable {P : Program} {w : World} {H H' : Hp} {h h' : Heap} {a C dx : Addr} {fs fs' : List (Str × V)}
theorem vF(hok:HOk P w H h)(e:H a=some (.ins C dx fs)):∃mA,tM h a dx C mA/\(∀f,oG (fs.lookup f) (mA f))/\PySem.Within mA (fs.map (·.1))/\fs.length<=1000/\H dx=some (.own a):=by
 obtain⟨d,z,ne,ob,mA,n,r,q⟩:=(show fW P w H h a (.ins C dx fs) from hok a _ e)
 exact⟨mA,⟨ob,n,ne⟩,r,q,z,d⟩
end
structure Cls(K:PySem.W.Frag)(C:Addr):Prop where
 pg:PySem.W.plainGet K C Str.empty=true
 hd:PySem.W.hasDictIn K C=true
 po:PySem.W.plainOver K C=true
 sa:PySem.W.findIn K (.ref C) "__setattr__" =some (some (.builtin "object.__setattr__"))
theorem Cls.get{K:PySem.W.Frag}{C:Addr}(c:Cls K C)(f:Str):PySem.W.plainGet K C f=true:=c.pg
def eY(K:PySem.W.Frag)(C:Addr)(f:Str):Prop:=PySem.W.findIn K (.ref C) f=some none
theorem eY.taker{K:PySem.W.Frag}{C:Addr}{f:Str}(n:eY K C f):PySem.W.takerIn K C f=some none:=by
 unfold PySem.W.takerIn
 rw[show PySem.W.findIn K (.ref C) f=some none from n]
 rfl
structure Con(K:PySem.W.Frag)(C:Addr)(f:Str)(v:V)(u:Value):Prop where
 at_:PySem.W.findIn K (.ref C) f=some (some u)
 rel:RelV v u
 get:PySem.W.specialIn K u "__get__" =some none
 cp:PySem.W.copiedNames.contains f=false
structure Meth(K:PySem.W.Frag)(C:Addr)(m:Str)(f:Addr):Prop where
 at_:PySem.W.findIn K (.ref C) m=some (some (.ref f))
 fn:PySem.W.isFn K (.ref f)=true
 kp:PySem.W.keepIn K (.ref f)=true
section
variable {X : Cx} {pins : List (Addr × Obj)} {σ : St} {H : Hp} {s : Shared} {a C dx : Addr} {fs : List (Str × V)} {f : Str} {v : V} {A : Around} {E : Value → Shared → Prop}
theorem CB {b:Bool} {Q:Value->Shared->Prop} (I:Inv X pins σ H s) (e:H a=some (.ins C dx fs)) (c:Cls X.K C) (n:eY X.K C f) (l:fs.lookup f=some v)
 (h:∀u s',Inv X pins σ H s'->RelV v u->Q u s'):wpAny (model X.prog X.w) A (getAttr (.ref a) f b) Q E s:=by
 obtain⟨mA,O,r,_,_,_⟩:=vF I.hok e
 obtain⟨u,hu,ru⟩:=oG.some_of (v:=v) (o:=mA f) (by rw[<- l];exact r f)
 exact get_map I.kIn O (c.get f) c.hd n hu (CM ru) (h u _ (I.tok _) ru)
theorem pK {m:Str} {g:Addr} {pl:Sem Bool} {Q:Value×List Value->Shared->Prop} (I:Inv X pins σ H s) (e:H a=some (.ins C dx fs)) (c:Cls X.K C) (k:Meth X.K C m g) (l:fs.lookup m=none)
 (h:Q (.ref g,[.ref a]) s):wpAny (model X.prog X.w) A (getMethod (.ref a) m pl) Q E s:=by
 obtain⟨mA,O,r,_,_,_⟩:=vF I.hok e
 have hn:mA m=none:=oG.none_of (by rw[<- l];exact r m)
 exact EB I.kIn O (c.get m) k.at_ k.fn hn h
theorem BA {y:V} {u:Value} {Q:Unit->Shared->Prop} (I:Inv X pins σ H s) (e:H a=some (.ins C dx fs)) (c:Cls X.K C) (n:eY X.K C f) (hl:fs.length<1000) (ry:RelV y u)
 (h:∀s',Inv X pins σ (upd H a (.ins C dx (i3 f y fs))) s'->Q () s'):wpAny (model X.prog X.w) A (setAttr (.ref a) f u) Q E s:=by
 obtain⟨mA,O,r,wi,_,ho⟩:=vF I.hok e
 have hz:(fs.map (·.1)).length<=sizeLine:=by rw[List.length_map,sizeLine_eq];omega
 refine Hb I.kIn O c.sa c.po n.taker c.hd wi hz λh' O' sb=>h _ ?_
 have hd:∃o,h'.get? dx=some o:=let ⟨o,_,_,e',_⟩:=O'.ns;⟨o,e'⟩
 refine I.write (x:=a) (e:=dx) (by rw[e];exact True.intro) (.inr ho) (λb q hb z=>(sb.2 b hb).trans z) hd ?_
 refine⟨by rw[aP O.ne];exact ho, ?_,O.ne,O'.obj,_,O'.ns,λg=> ?_,λg hg=> ?_⟩
 ·have:=sS f y fs;omega
 ·show oG ((i3 f y fs).lookup g) (if g=f then some u else mA g)
  rw[sT]
  by_cases q:g=f
  ·rw[if_pos q,if_pos q];exact ry
  ·rw[if_neg q,if_neg q];exact r g
 ·by_cases q:g=f
  ·rw[q];exact(rF f y fs).1
  ·refine(rF f y fs).2 g (wi g λz=>hg ?_)
   show (if g=f then some u else mA g)=none
   rw[if_neg q];exact z
theorem Inv.made(I:Inv X pins σ H s):Inv X pins σ (upd (upd H s.heap.objs.size (.own (s.heap.objs.size+1))) (s.heap.objs.size+1) (.ins C s.heap.objs.size []))
 {s with heap:=(s.heap.push PySem.W.emptyDict).push (PySem.W.instObj C s.heap.objs.size)}:=by
 have e1:(s.heap.push PySem.W.emptyDict).get? s.heap.objs.size=some PySem.W.emptyDict:=Heap.get?_push_size s.heap rfl
 have e2:((s.heap.push PySem.W.emptyDict).push (PySem.W.instObj C s.heap.objs.size)).get? (s.heap.objs.size+1)=some (PySem.W.instObj C s.heap.objs.size):=by
  have:=Heap.get?_push_size (s.heap.push PySem.W.emptyDict) (o:=PySem.W.instObj C s.heap.objs.size) rfl
  rwa [Heap.size_push] at this
 have e3:(s.heap.push PySem.W.emptyDict).Ns s.heap.objs.size (λ_=>none):=⟨PySem.W.emptyDict,#[],_,e1,rfl,(λe he=>absurd he (by simp)),λ_=>rfl⟩
 have I1:=I.laid (a:=s.heap.objs.size) (o:=.own (s.heap.objs.size+1)) (h':=s.heap.push PySem.W.emptyDict) (t':=s.toks) (λb u q=>Heap.get?_push_of_some _ q) (Nat.le_refl _) ⟨_,e1⟩
 refine I1.laid (a:=s.heap.objs.size+1) (o:=.ins C s.heap.objs.size []) (t':=s.toks) (λb u q=>Heap.get?_push_of_some _ q) (Nat.le_of_eq (Heap.size_push _ _)) ?_
 have ne:s.heap.objs.size≠s.heap.objs.size+1:=Nat.ne_of_lt (Nat.lt_succ_self _)
 refine⟨by rw[aP ne,cC],Nat.zero_le _,ne,e2,λ_=>none,(Heap.Ns1.of_empty e3).at λo q=>Heap.get?_push_of_some _ q,λ_=>True.intro,λy hy=>absurd rfl hy⟩
theorem HY {prog:Program} {w:World} {env:Env} {e:Expr} {f:Str} {pos:Pos} {s:Shared} {Q:Value->Shared->Prop} (hb:attributeBase e f env (eval e env)=eval e env)
 (h:wpAny (model prog w) A (eval e env) (λo s₁=>wpAny (model prog w) A (getAttr o f true) Q E s₁) E s):wpAny (model prog w) A (eval (.Attribute e f pos) env) Q E s:=
 Attribute_any_ h (by rw[arm_eval_Attribute,hb])
end
def IZ(K:PySem.W.Frag)(ta:TE)(f:Str):TE:=λσ H Q=>ta σ H λx H1=>∃a C dx fs v,x=.ref a/\H1 a=some (.ins C dx fs)/\Cls K C/\eY K C f/\fs.lookup f=some v/\Q v H1
def Kq(K:PySem.W.Frag)(ta tv:TE)(f:Str):TS:=λD σ H=>tv σ H λy H1=>ta σ H1 λx H2=>∃a C dx fs,x=.ref a/\H2 a=some (.ins C dx fs)/\Cls K C/\eY K C f/\fs.length<1000/\
 D.nx σ (upd H2 a (.ins C dx (i3 f y fs)))
section
variable {X : Cx} {o e value : Expr} {f : Str} {pos pos' tpos : Pos} {ta tv : TE}
theorem yQ(he:PE X e ta)(hb:attributeBase e f X.env (eval e X.env)=eval e X.env):PE X (.Attribute e f pos) (IZ X.K ta f):=by
 intro pins s σ H Q I h
 refine HY hb (thn (he pins s σ H _ I h) λu s1 ⟨x,H1,I1,rx,a,C,dx,fs,v,ex,ea,c,n,l,q⟩=> ?_)
 subst ex
 obtain rfl:u=Value.ref a:=rx
 exact CB I1 ea c n l λu' s2 I2 ru=>⟨v,H1,I2,ru,q⟩
theorem zL(ha:PE X o ta)(hv:PE X value tv)(hs:swapsWith value (some (.Attribute o f pos')) pos.line X.env=pure false):PS X (.Assign [.Attribute o f pos'] value pos) (Kq X.K ta tv f):=by
 intro pins s σ H D I h
 refine plainObj_wpAny_Assign_Attribute (thn (hv pins s σ H _ I h) λu s1 ⟨y,H1,I1,ry,q⟩=>thn (ha pins s1 σ H1 _ I1 q) λov s2 ⟨x,H2,I2,rx,a,C,dx,fs,ex,ea,c,n,l,q2⟩=> ?_) hs
 subst ex
 obtain rfl:ov=Value.ref a:=rx
 exact BA I2 ea c n l ry λs3 I3=>⟨σ,_,I3,q2⟩
theorem Ks {pl:Sem Bool} {m:Str} {apos:Pos} {args:List Expr} {pins:List (Addr×Obj)} {s:Shared} {σ:St} {H:Hp} {Q:Value->Shared->Prop} {te:TE} (he:PE X e te) (I:Inv X pins σ H s)
 (h:te σ H λx H1=>∃a C dx fs g,x=.ref a/\H1 a=some (.ins C dx fs)/\Cls X.K C/\Meth X.K C m g/\fs.lookup m=none/\
  ∀s1,Inv X pins σ H1 s1->wpAny (model X.prog X.w) X.A (callWith pos (.ref g) [.ref a] (backTo pos (starEach args X.env)) (backToKw pos (keywordEach [] X.env))) Q X.xe s1)
 (ht:eval (.Call (.Attribute e m apos) args [] pos) X.env=(do
  let ov <- eval e X.env
  standAt apos.atName
  let (f,first) <- holding [ov] (getMethod ov m pl)
  callWith pos f first (backTo pos (starEach args X.env)) (backToKw pos (keywordEach [] X.env)))):
 wpAny (model X.prog X.w) X.A (eval (.Call (.Attribute e m apos) args [] pos) X.env) Q X.xe s:=by
 refine PySem.W.methodCall_KW (pl:=pl) (thn (he pins s σ H _ I h) λu s1 ⟨x,H1,I1,rx,a,C,dx,fs,g,ex,ea,c,k,l,q⟩=> ?_) ht
 subst ex
 obtain rfl:u=Value.ref a:=rx
 exact pK I1 ea c k l (q s1 I1)
end
section
variable {X : Cx} {pins : List (Addr × Obj)} {σ : St} {H : Hp} {s : Shared} {A : Around} {E : Value → Shared → Prop} {Q : Value → Shared → Prop} {c : Value} {b : Bool}
inductive nD (K:PySem.W.Frag) (H:Hp):V->Value->Prop where
 | non:nD K H .non (.type "NoneType")
 | bl (x:Bool):nD K H (.bl x) (.type "bool")
 | int (i:Int):nD K H (.int i) (.type "int")
 | str (x:Str):nD K H (.str x) (.type "str")
 | flt (x:UInt64):nD K H (.flt x) (.type "float")
 | lst {a:Addr} {xs:List V} (e:H a=some (.lst xs)):nD K H (.ref a) (.type "list")
 | frz {a:Addr} {o:Obj} {xs:List V} (e:H a=some (.frz o (.lst xs))):nD K H (.ref a) (.type "list")
 | tup {a:Addr} {xs:List V} (e:H a=some (.tup xs)):nD K H (.ref a) (.type "tuple")
 | dK {a:Addr} {kvs:List (Key×V)} (e:H a=some (.dK kvs)):nD K H (.ref a) (.type "dict")
 | dT {a:Addr} {kvs:List (List Key×V)} (e:H a=some (.dT kvs)):nD K H (.ref a) (.type "dict")
 | ins {a C dx:Addr} {fs:List (Str×V)} (e:H a=some (.ins C dx fs)) (cl:Cls K C) (ha:PySem.W.findIn K (.ref C) "__class__" =some (some (.builtin "object.__class__")))
  (hn:PySem.W.specialIn K (.builtin "object.__class__") "__get__" =some (some (.builtin "getset_descriptor.__get__"))) (htk:PySem.W.takesIn K (.builtin "object.__class__")=some true)
  (hm:PySem.W.mroIn K C (.type "object")=some true):nD K H (.ref a) (.ref C)
end
end L2
namespace L2
open PySem PySem.Spec PyProof.Rows
structure dY(k:Nat)(A:Around):Prop where
 hd:A.handled=none
 dp:A.depth+3*k+5<recursionLimit
 un:A.units+16*k+200<cLine
theorem dY.mono{j k:Nat}{A:Around}(r:dY k A)(h:j<=k):dY j A:=⟨r.hd,by have:=r.dp;omega,by have:=r.un;omega⟩
theorem dY.deeper{k:Nat}{A:Around}(r:dY (k+1) A)(env:Env):dY k (A.deeper env):=
 ⟨r.hd,by have:=r.dp;show A.depth+1+3*k+5<_;omega,by have:=r.un;show A.units+3+16*k+200<_;omega⟩
theorem dY.in1{k:Nat}{A:Around}(r:dY (k+1) A):dY k A.in1:=
 ⟨r.hd,by have:=r.dp;show A.depth+3*k+5<_;omega,by have:=r.un;show A.units+1+16*k+200<_;omega⟩
theorem Co{A:Around}{C:Addr}{us:List Value}{kw:List (Str×Value)}:(A.under (.builtin "type.__call__" ⟨.ref C::us,kw⟩)).depth=A.depth+1:=by
 first | rfl | simp[Around.under,Code.weight,Code.isCreation,Code.isGuard,Code.isCaller,Code.frames,Code.isFrame,guardIds]
theorem BR{A:Around}{C:Addr}{us:List Value}{kw:List (Str×Value)}:(A.under (.builtin "type.__call__" ⟨.ref C::us,kw⟩)).units=A.units+1:=by
 first | rfl | simp[Around.under,Code.cUnits,Code.frames,Code.isFrame]
theorem dY.make{k:Nat}{A:Around}(r:dY (k+1) A)(C:Addr)(us:List Value)(kw:List (Str×Value)):dY k (A.under (.builtin "type.__call__" ⟨.ref C::us,kw⟩)):=
 ⟨r.hd,by have:=r.dp;rw[Co];omega,by have:=r.un;rw[BR];omega⟩
theorem dY.depth{k:Nat}{A:Around}(r:dY k A):A.depth<recursionLimit:=by have:=r.dp;omega
theorem dY.units{k:Nat}{A:Around}(r:dY k A):A.units+64<cLine:=by have:=r.un;omega
def qI:TA:=λ_ H Q=>Q [] H
def oj(ta:TE)(tr:TA):TA:=λσ H Q=>ta σ H λx H1=>tr σ H1 λxs H2=>Q (x::xs) H2
section
variable {X : Cx} {e : Expr} {es : List Expr} {te : TE} {t : TA} {pos : Pos}
theorem aq:PA X [] qI:=λ_ _ _ _ H Q I h=>Calls.spliced_nil ⟨[],H,I,.nil,h⟩
theorem ag(ha:PE X e te)(hr:PA X es t)(hs:starEach (e::es) X.env=(false,eval e X.env)::starEach es X.env:=by rfl):PA X (e::es) (oj te t):=by
 intro pos pins s σ H Q I h
 rw[hs]
 show wpAny _ _ (spliced ((false,eval e X.env)::backTo pos (starEach es X.env))) _ _ s
 refine Calls.spliced_cons (thn (ha pins s σ H _ I h) λu s1 ⟨x,H1,I1,r1,q1⟩=> ?_)
 exact thn (hr pos pins s1 σ H1 _ I1 q1) λus s2 ⟨xs,H2,I2,r2,q2⟩=>⟨x::xs,H2,I2,.cons r1 r2,q2⟩
def Jf(t:TA):TE:=λσ H Q=>t σ H λxs H1=>xs.length<=sizeLine/\∀p,H1 p=none->Q (.ref p) (upd H1 p (.tup xs))
def zh(t:TA):TE:=λσ H Q=>t σ H λxs H1=>xs.length<=sizeLine/\∀p,H1 p=none->Q (.ref p) (upd H1 p (.lst xs))
theorem uB{x1}(h:PA X es t):PE X (.Tuple es x1 pos) (Jf t):=by
 intro pins s σ H Q I hq
 refine wpAny_Tuple_spliced (thn (h pos pins s σ H _ I hq) λus s1 ⟨xs,H1,I1,r,z,q⟩=>⟨by rw[<- r.length];exact z, ?_⟩)
 have hf:H1 s1.heap.objs.size=none:=I1.hok.fresh (Nat.le_refl _)
 refine⟨.ref s1.heap.objs.size,upd H1 s1.heap.objs.size (.tup xs),I1.laid (t':=s1.toks) (λb u e=>Heap.get?_push_of_some _ e) (Nat.le_refl _) ?_,rfl,q _ hf⟩
 exact⟨z,us,r,⟨_,Heap.get?_push_size _ rfl,rfl,_,rfl⟩⟩
theorem iB(h:PA X es t):PE X (.List es pos) (zh t):=by
 intro pins s σ H Q I hq
 refine wpAny_List_spliced (thn (h pos pins s σ H _ I hq) λus s1 ⟨xs,H1,I1,r,z,q⟩=>⟨by rw[<- r.length];exact z, ?_⟩)
 have hf:H1 s1.heap.objs.size=none:=I1.hok.fresh (Nat.le_refl _)
 refine⟨.ref s1.heap.objs.size,upd H1 s1.heap.objs.size (.lst xs),I1.laid (t':=s1.toks) (λb u e=>Heap.get?_push_of_some _ e) (Nat.le_refl _) ?_,rfl,q _ hf⟩
 exact⟨z,us,0,r,Heap.get?_push_size _ rfl⟩
end
abbrev Sp:=List V->Hp->VK->XK->Prop
abbrev CXT:=List Env->Hp->Shared->XK->Value->Shared->Prop
structure oM(P:Program)(w:World)(K:PySem.W.Frag)(mg:Str->Option Value)(base:Heap)(A:Around)(outer:List Env)(s:Shared)(H:Hp):Prop where
 frames:A.frames=some outer
 mod:Mod K mg base
 bs:∀b o,base.get? b=some o->s.heap.get? b=some o/\H b=none
 bsz:base.objs.size<=s.heap.objs.size
 funs:s.heap.FunFrames base outer
 frf:∀b∈frs outer,H b=none
 hok:HOk P w H s.heap
 bare:AllBare s.gens
def CE(outer:List Env)(P:Program)(w:World)(H:Hp)(s:Shared)(Q:VK)(u:Value)(s':Shared):Prop:=
 ∃v H',s'.os=s.os/\AllBare s'.gens/\Un (frs outer) [] H H' s.heap s'.heap/\HOk P w H' s'.heap/\RelV v u/\Q v H'
def CR(CX:CXT)(outer:List Env)(P:Program)(w:World)(H:Hp)(s:Shared)(Q:VK)(E:XK)(r:Result)(s':Shared):Prop:=
 match r with
 | .ok (.ret u)=>CE outer P w H s Q u s'
 | .ok _=>False
 | .error e=>CX outer H s E e s'
structure fM(P:Program)(w:World)(K:PySem.W.Frag)(mg:Str->Option Value)(base:Heap)(CX:CXT)(k:Nat)(f:Addr)(fd:FuncData)(ps:List Str)(sp:Sp):Prop where
 len:∀vs H Q E,sp vs H Q E->vs.length=ps.length
 run:∀(A:Around) (outer:List Env) (s:Shared) (H:Hp) (args:Args) (us:List Value) (vs:List V) (Q:VK) (E:XK),dY k A->oM P w K mg base A outer s H->BindsTo s fd args (ps.zip us)->Vals vs us->sp vs H Q E->
  codeAny (model P w) A (.call (.ref f) args) (CR CX outer P w H s Q E) s
theorem fM.mono{P:Program}{w:World}{K:PySem.W.Frag}{mg:Str->Option Value}{base:Heap}{CX:CXT}{j k:Nat}{f:Addr}{fd:FuncData}{ps:List Str}{sp:Sp}(F:fM P w K mg base CX j f fd ps sp)(h:j<=k):
 fM P w K mg base CX k f fd ps sp:=⟨F.len,λA outer s H args us vs Q E hr=>F.run A outer s H args us vs Q E (hr.mono h)⟩
theorem fM.imp {P:Program} {w:World} {K:PySem.W.Frag} {mg:Str->Option Value} {base:Heap} {CX:CXT} {k:Nat} {f:Addr} {fd:FuncData} {ps:List Str} {sp sp':Sp} (F:fM P w K mg base CX k f fd ps sp)
 (h:∀vs H Q E,sp' vs H Q E->sp vs H Q E):fM P w K mg base CX k f fd ps sp':=
 ⟨λvs H Q E q=>F.len vs H Q E (h _ _ _ _ q),λA outer s H args us vs Q E hr he hb hv hs=>F.run A outer s H args us vs Q E hr he hb hv (h _ _ _ _ hs)⟩
theorem oM.make{P:Program}{w:World}{K:PySem.W.Frag}{mg:Str->Option Value}{base:Heap}{A:Around}{outer:List Env}{s:Shared}{H:Hp}(e:oM P w K mg base A outer s H)(C:Addr)(us:List Value)(kw:List (Str×Value)):
 oM P w K mg base (A.under (.builtin "type.__call__" ⟨.ref C::us,kw⟩)) outer s H:=⟨by first | exact e.frames | (simpa[Around.under,Code.envs,Code.isFrame,pushEnvs] using e.frames),e.mod,e.bs,e.bsz,e.funs,e.frf,e.hok,e.bare⟩
theorem oM.in1{P:Program}{w:World}{K:PySem.W.Frag}{mg:Str->Option Value}{base:Heap}{A:Around}{outer:List Env}{s:Shared}{H:Hp}(e:oM P w K mg base A outer s H):
 oM P w K mg base A.in1 outer s H:=⟨e.frames,e.mod,e.bs,e.bsz,e.funs,e.frf,e.hok,e.bare⟩
section
variable {X : Cx} {pins : List (Addr × Obj)} {σ : St} {H : Hp} {s s' : Shared}
theorem Inv.env0(I:Inv X pins σ H s):oM X.prog X.w X.K X.mg X.base X.A X.stack s H:=
 ⟨I.ok.frames,I.ok.mod,I.bs,Nat.le_trans I.ok.bsz I.sz,I.stack,I.stkFree,I.hok,I.bare⟩
theorem Inv.after{Q:VK}{u:Value}(I:Inv X pins σ H s)(h:CE X.stack X.prog X.w H s Q u s'):EP X pins σ Q u s':=by
 obtain⟨v,H',os,bare,un,hok,r,q⟩:=h
 obtain⟨hh,g,d,t,os'⟩:=s'
 obtain rfl:os'=s.os:=os
 exact⟨v,H',I.call (h':=hh) (g':=g) (d':=d) (t':=t) (ch:=[]) un hok bare (λb z=>absurd z (by simp)),r,q⟩
end
def rQ(sp:Sp)(dvs:List V)(E:XK)(t:TA):TE:=λσ H Q=>t σ H λvs H1=>sp (vs++dvs) H1 Q E
def Bv(C:Addr)(m:Str)(sp:Sp)(dvs:List V)(E:XK)(ta:TE)(t:TA):TE:=λσ H Q=>ta σ H λx H1=>∃a dx fs,x=.ref a/\H1 a=some (.ins C dx fs)/\fs.lookup m=none/\
 t σ H1 λvs H2=>sp (x::(vs++dvs)) H2 Q E
def GN(C:Addr)(sp:Sp)(dvs:List V)(E:XK)(t:TA):TE:=λσ H Q=>t σ H λvs H1=>∀x dx,H1 x=none->H1 dx=none->dx≠x->
 sp (.ref x::(vs++dvs)) (upd (upd H1 dx (.own x)) x (.ins C dx [])) (λv H2=>v=.non/\Q (.ref x) H2) E
def Binds(K:PySem.W.Frag)(fd:FuncData)(ps:List Str)(ds:List Value):Prop:=
 ∀(s:Shared) (us:List Value),K.In s.heap->(us++ds).length=ps.length->BindsTo s fd ⟨us,[]⟩ (ps.zip (us++ds))
theorem Binds.all{K:PySem.W.Frag}{fd:FuncData}{ps:List Str}(h:∀us:List Value,us.length=ps.length->bindArgs fd ⟨us,[]⟩=pure (ps.zip us)):Binds K fd ps []:=λs us _ hl=>by
 rw[List.append_nil] at hl ⊢
 exact .of_eq (h us hl)
def Passes(CX:CXT)(X:Cx)(E:XK):Prop:=∀(pins:List (Addr×Obj)) (σ:St) (H:Hp) (s:Shared) (e:Value) (s':Shared),Inv X pins σ H s->CX X.stack H s E e s'->X.xe e s'
section
variable {X : Cx} {CX : CXT} {k : Nat} {f C : Addr} {fd : FuncData} {ps : List Str} {sp : Sp} {dvs : List V} {ds : List Value} {E : XK} {x m : Str} {p pos apos : Pos} {e o : Expr} {es : List Expr} {ta : TE} {t : TA}
theorem xT {pins:List (Addr×Obj)} {σ:St} {H:Hp} {s:Shared} {Q:VK} {us:List Value} {vs:List V} (F:fM X.prog X.w X.K X.mg X.base CX k f fd ps sp) (hr:dY k X.A) (hb:Binds X.K fd ps ds) (hd:Vals dvs ds) (hx:Passes CX X E)
 (I:Inv X pins σ H s) (r:Vals vs us) (h:sp (vs++dvs) H Q E):wpAny (model X.prog X.w) X.A (call (.ref f) us) (EP X pins σ Q) X.xe s:=by
 have r2:Vals (vs++dvs) (us++ds):=r.append hd
 have hl:(us++ds).length=ps.length:=by rw[<- r2.length];exact F.len _ _ _ _ h
 refine wpAny_call (codeAny_mono (F.run X.A X.stack s H ⟨us,[]⟩ (us++ds) (vs++dvs) Q E hr I.env0 (hb s us I.kIn hl) r2 h) λr s' hq=> ?_)
 cases r with
 | error e=>exact hx pins σ H s e s' I hq
 | ok fl=>
  cases fl with
  | ret u=>exact I.after hq
  | next=>exact False.elim hq
  | brk=>exact False.elim hq
  | cont=>exact False.elim hq
theorem aR (F:fM X.prog X.w X.K X.mg X.base CX k f fd ps sp) (hr:dY k X.A) (hg:Gl X x) (hm:X.mg x=some (.ref f)) (hk:PySem.W.keepIn X.K (.ref f)=true) (hb:Binds X.K fd ps ds) (hd:Vals dvs ds) (hx:Passes CX X E)
 (ha:PA X (e::es) t) (hdb:(x == ("__debug__" :Str))=false:=by decide) (he:starEach (e::es) X.env=(false,eval e X.env)::starEach es X.env:=by rfl) (hpl:(backTo pos (starEach es X.env)).any (·.1)=false:=by rfl):
 PE X (.Call (.Name x p) (e::es) [] pos) (rQ sp dvs E t):=by
 intro pins s σ H Q I h
 refine wpAny_Call_Name_kw (u9 I hg hm ?_ hdb)
 refine PySem.W.callWith_K (h₀:=X.base) I.ok.mod.kin hk (thn (ha pos pins s σ H _ I h) λus s1 ⟨vs,H1,I1,r,q⟩=>⟨I1.kIn, ?_⟩) he hpl
 exact xT F hr hb hd hx I1 r q
theorem Io {pl:Sem Bool} (he:PE X o ta) (c:Cls X.K C) (hm:Meth X.K C m f) (F:fM X.prog X.w X.K X.mg X.base CX k f fd ps sp) (hr:dY k X.A) (hb:Binds X.K fd ps ds) (hd:Vals dvs ds) (hx:Passes CX X E) (ha:PA X (e::es) t)
 (hst:starEach (e::es) X.env=(false,eval e X.env)::starEach es X.env:=by rfl) (hpl:(backTo pos (starEach es X.env)).any (·.1)=false:=by rfl)
 (ht:eval (.Call (.Attribute o m apos) (e::es) [] pos) X.env=(do
  let ov <- eval o X.env
  standAt apos.atName
  let (f,first) <- holding [ov] (getMethod ov m pl)
  callWith pos f first (backTo pos (starEach (e::es) X.env)) (backToKw pos (keywordEach [] X.env))):=by rfl):
 PE X (.Call (.Attribute o m apos) (e::es) [] pos) (Bv C m sp dvs E ta t):=by
 intro pins s σ H Q I h
 refine PySem.W.methodCall_KW (pl:=pl) (thn (he pins s σ H _ I h) λu s1 ⟨x,H1,I1,rx,a,dx,fs,ex,ea,l,q⟩=> ?_) ht
 subst ex
 obtain rfl:u=Value.ref a:=rx
 refine pK I1 ea c hm l ?_
 refine PySem.W.callWith_K (first:=[.ref a]) (h₀:=X.base) I.ok.mod.kin hm.kp (thn (ha pos pins s1 σ H1 _ I1 q) λus s2 ⟨vs,H2,I2,r,q2⟩=>⟨I2.kIn, ?_⟩) hst hpl
 exact xT (us:=.ref a::us) (vs:=.ref a::vs) F hr hb hd hx I2 (.cons rfl r) q2
theorem yt {pl:Sem Bool} (he:PE X o ta) (c:Cls X.K C) (hm:Meth X.K C m f) (F:fM X.prog X.w X.K X.mg X.base CX k f fd ps sp) (hr:dY k X.A) (hb:Binds X.K fd ps ds) (hd:Vals dvs ds) (hx:Passes CX X E)
 (ht:eval (.Call (.Attribute o m apos) [] [] pos) X.env=(do
  let ov <- eval o X.env
  standAt apos.atName
  let (f,first) <- holding [ov] (getMethod ov m pl)
  callWith pos f first (backTo pos (starEach [] X.env)) (backToKw pos (keywordEach [] X.env))):=by rfl):
 PE X (.Call (.Attribute o m apos) [] [] pos) (Bv C m sp dvs E ta qI):=by
 intro pins s σ H Q I h
 refine PySem.W.methodCall_KW (pl:=pl) (thn (he pins s σ H _ I h) λu s1 ⟨x,H1,I1,rx,a,dx,fs,ex,ea,l,q⟩=> ?_) ht
 subst ex
 obtain rfl:u=Value.ref a:=rx
 refine pK I1 ea c hm l ?_
 exact PySem.W.callWith_K0 (first:=[.ref a]) I1.kIn hm.kp (xT (us:=[.ref a]) (vs:=[.ref a]) F hr hb hd hx I1 (.cons rfl .nil) q)
structure Mk(K:PySem.W.Frag)(C f:Addr):Prop where
 makes:PySem.W.makesIn K C=true
 init:PySem.W.findIn K (.ref C) "__init__" =some (some (.ref f))
 fn:PySem.W.isFn K (.ref f)=true
 kp:PySem.W.keepIn K (.ref C)=true
theorem E5 {pins:List (Addr×Obj)} {σ:St} {H:Hp} {s:Shared} {Q:VK} {us:List Value} {vs:List V} (M:Mk X.K C f) (F:fM X.prog X.w X.K X.mg X.base CX k f fd ps sp) (hr:dY (k+1) X.A) (hb:Binds X.K fd ps ds) (hd:Vals dvs ds)
 (hx:Passes CX X E) (I:Inv X pins σ H s) (r:Vals vs us)
 (h:∀x dx,H x=none->H dx=none->dx≠x->sp (.ref x::(vs++dvs)) (upd (upd H dx (.own x)) x (.ins C dx [])) (λv H2=>v=.non/\Q (.ref x) H2) E):
 wpAny (model X.prog X.w) X.A (call (.ref C) us) (EP X pins σ Q) X.xe s:=by
 have hq:=h (s.heap.objs.size+1) s.heap.objs.size (I.hok.fresh (Nat.le_succ _)) (I.hok.fresh (Nat.le_refl _)) (Nat.ne_of_lt (Nat.lt_succ_self _))
 have I2:=Inv.made (C:=C) I
 have r2:Vals (V.ref (s.heap.objs.size+1)::(vs++dvs)) (Value.ref (s.heap.objs.size+1)::(us++ds)):=.cons rfl (r.append hd)
 have hl:(Value.ref (s.heap.objs.size+1)::us++ds).length=ps.length:=by
  have e:=r2.length
  rw[F.len _ _ _ _ hq] at e
  exact e.symm
 refine wpAny_call (Ft (f:=f) I.kIn M.makes M.init (beq_iff_eq.mp M.fn) (codeAny_mono (F.run _ X.stack _ _ ⟨Value.ref (s.heap.objs.size+1)::us,[]⟩ (Value.ref (s.heap.objs.size+1)::(us++ds)) _ _ E (hr.make C us [])
  (I2.env0.make C us []) (hb _ (Value.ref (s.heap.objs.size+1)::us) I2.kIn hl) r2 hq) λr s' hq'=> ?_))
 cases r with
 | error e=>exact hx pins σ _ _ e s' I2 hq'
 | ok fl=>
  cases fl with
  | ret u=>
   obtain⟨v,H',I3,rv,ev,q3⟩:=I2.after hq'
   subst ev
   exact⟨rv,⟨V.ref (s.heap.objs.size+1),H',I3,rfl,q3⟩⟩
  | next=>exact False.elim hq'
  | brk=>exact False.elim hq'
  | cont=>exact False.elim hq'
theorem Ii (M:Mk X.K C f) (F:fM X.prog X.w X.K X.mg X.base CX k f fd ps sp) (hr:dY (k+1) X.A) (hg:Gl X x) (hm:X.mg x=some (.ref C)) (hb:Binds X.K fd ps ds) (hd:Vals dvs ds) (hx:Passes CX X E)
 (ha:PA X (e::es) t) (hdb:(x == ("__debug__" :Str))=false:=by decide) (he:starEach (e::es) X.env=(false,eval e X.env)::starEach es X.env:=by rfl) (hpl:(backTo pos (starEach es X.env)).any (·.1)=false:=by rfl):
 PE X (.Call (.Name x p) (e::es) [] pos) (GN C sp dvs E t):=by
 intro pins s σ H Q I h
 refine wpAny_Call_Name_kw (u9 I hg hm ?_ hdb)
 refine PySem.W.callWith_K (h₀:=X.base) I.ok.mod.kin M.kp (thn (ha pos pins s σ H _ I h) λus s1 ⟨vs,H1,I1,r,q⟩=>⟨I1.kIn, ?_⟩) he hpl
 exact E5 M F hr hb hd hx I1 r q
end
section
variable {X : Cx} {CX : CXT} {k : Nat} {f C : Addr} {fd : FuncData} {ps ks : List Str} {sp : Sp} {E : XK} {x m : Str} {p pos apos kpos : Pos} {e o : Expr} {es : List Expr} {kws : List Keyword} {te ta : TE} {t tk : TA} {nm : Option Str}
structure Mx(K:PySem.W.Frag)(fd:FuncData)(ps ks:List Str)(g:List Value->List Value->List Value)(gV:List V->List V->List V):Prop where
 to:∀(s:Shared) (us ws:List Value),K.In s.heap->(g us ws).length=ps.length->BindsTo s fd ⟨us,ks.zip ws⟩ (ps.zip (g us ws))
 rel:∀{vs:List V} {us:List Value} {zs:List V} {ws:List Value},Vals vs us->Vals zs ws->Vals (gV vs zs) (g us ws)
variable {g : List Value → List Value → List Value} {gV : List V → List V → List V}
end
structure bf(N P:List Str)(sc:Scope):Prop where
 kind:sc.kind=.function
 co:sc.isCoroutine=false
 gen:sc.isGenerator=false
 nd:N.Nodup
 pre:N.take P.length=P
 par:∀x∈P,sc.names.lookup x=some .local\/sc.names.lookup x=some .cell
 nofree:∀y∈sc.names,y.2≠ .free
theorem vU{kindOf:Str->Option NameKind}{x:Str}:∀{binds:List (Str×Value)} {m:Str->Option Value},(∀v,(x,v)∉binds)->bindL kindOf binds m x=m x
 | [],_,_=>rfl
 | (n,v)::r,m,h=>by
  unfold bindL
  rw[vU λw hw=>h w (List.mem_cons_of_mem _ hw)]
  split
  ·have:x≠n:=by rintro rfl;exact h v List.mem_cons_self
   simp[this]
  ·rfl
theorem wu{kindOf:Str->Option NameKind}{x:Str}:∀{binds:List (Str×Value)} {m:Str->Option Value},(∀v,(x,v)∉binds)->bindC kindOf binds m x=m x
 | [],_,_=>rfl
 | (n,v)::r,m,h=>by
  unfold bindC
  rw[wu λw hw=>h w (List.mem_cons_of_mem _ hw)]
  split
  ·rfl
  ·have:x≠n:=by rintro rfl;exact h v List.mem_cons_self
   simp[this]
theorem wF{kindOf:Str->Option NameKind}{x:Str}{v:Value}:∀{P:List Str} {vs:List Value} {i:Nat} {m:Str->Option Value},P.Nodup->P[i]? =some x->vs[i]? =some v->kindOf x=some .local->
 bindL kindOf (P.zip vs) m x=some v
 | [],_,_,_,_,h,_,_=>by simp at h
 | _::_,[],_,_,_,_,h,_=>by simp at h
 | p::P,w::vs,0,m,nd,h1,h2,hk=>by
  simp at h1 h2;subst h1;subst h2
  show bindL kindOf ((p,w)::P.zip vs) m p=_
  unfold bindL
  rw[vU λv hv=>(List.nodup_cons.mp nd).1 (List.of_mem_zip hv).1,if_pos hk]
  simp
 | p::P,w::vs,i+1,m,nd,h1,h2,hk=>by
  show bindL kindOf ((p,w)::P.zip vs) m x=_
  unfold bindL
  exact wF (i:=i) (List.nodup_cons.mp nd).2 (by simpa using h1) (by simpa using h2) hk
theorem wt{kindOf:Str->Option NameKind}{x:Str}{v:Value}:∀{P:List Str} {vs:List Value} {i:Nat} {m:Str->Option Value},P.Nodup->P[i]? =some x->vs[i]? =some v->kindOf x≠some .local->
 bindC kindOf (P.zip vs) m x=some v
 | [],_,_,_,_,h,_,_=>by simp at h
 | _::_,[],_,_,_,_,h,_=>by simp at h
 | p::P,w::vs,0,m,nd,h1,h2,hk=>by
  simp at h1 h2;subst h1;subst h2
  show bindC kindOf ((p,w)::P.zip vs) m p=_
  unfold bindC
  rw[wu λv hv=>(List.nodup_cons.mp nd).1 (List.of_mem_zip hv).1,if_neg hk]
  simp
 | p::P,w::vs,i+1,m,nd,h1,h2,hk=>by
  show bindC kindOf ((p,w)::P.zip vs) m x=_
  unfold bindC
  exact wt (i:=i) (List.nodup_cons.mp nd).2 (by simpa using h1) (by simpa using h2) hk
def start(N:List Str)(vs:List V):St:=vs.map some++List.replicate (N.length-vs.length) none
def rk(CX:CXT)(P:Program)(w:World)(K:PySem.W.Frag)(mg:Str->Option Value)(base:Heap)(N:List Str)(qual:Str)(scope:Scope)(f:Addr)(cd:Value)(A:Around)(outer:List Env)(s:Shared)(H:Hp)(E:XK):Cx where
 prog:=P
 w:=w
 K:=K
 mg:=mg
 base:=base
 A:=A.deeper (envOfC qual scope s.heap.objs.size f cd)
 N:=N
 s₀:=s
 H₀:=H
 env:=envOfC qual scope s.heap.objs.size f cd
 outer:=outer
 stack:=envOfC qual scope s.heap.objs.size f cd::outer
 ex:=[]
 calm:=true
 fn:=λ_=>true
 pn:=[]
 xe:=λe s'=>wpAny (model P w) (A.deeper (envOfC qual scope s.heap.objs.size f cd)) (leaving (envOfC qual scope s.heap.objs.size f cd) e) (λ_ s''=>CX outer H s E e s'') (λe' s''=>CX outer H s E e' s'') s'
theorem zq{sc:Scope}{n:Nat}{x:Str}(h:sc.names.lookup x=some .cell):∃c,(cellsFrom n sc.names []).lookup x=some c:=by
 have q:=PySem.W.cellsFrom_some sc.names n [] (.inl h)
 exact Option.isSome_iff_exists.mp q
theorem CI {CX:CXT} {P:Program} {w:World} {K:PySem.W.Frag} {mg:Str->Option Value} {base:Heap} {N ps:List Str} {qual:Str} {scope:Scope} {f:Addr} {cd:Value} {A:Around} {outer:List Env} {s s1:Shared} {H:Hp} {E:XK} {us:List Value} {vs:List V}
 (S:bf N ps scope) (hd:A.handled=none) (e0:oM P w K mg base A outer s H) (hl:vs.length=ps.length) (r:Vals vs us)
 (x:InCallC s s.heap.objs.size (bindL (envOfC qual scope s.heap.objs.size f cd).kindOf (ps.zip us) λ_=>none) (cellsFrom (s.heap.objs.size+1) scope.names []) (bindC (envOfC qual scope s.heap.objs.size f cd).kindOf (ps.zip us) λ_=>none) s1):
 Inv (rk CX P w K mg base N qual scope f cd A outer s H E) [] (start N vs) H s1:=by
 have hpl:ps.length<=N.length:=by have:=congrArg List.length S.pre;rw[List.length_take] at this;omega
 obtain⟨h1,tk,rfl,hk⟩:=x.done
 have noA:∀b:Addr,b∉(rk CX P w K mg base N qual scope f cd A outer s H E).ex:=λb z=>absurd (show b∈([]:List Addr) from z) (by simp)
 refine⟨⟨e0.mod,S.kind,rfl,rfl,Nat.le_refl _,λy z c h1 h2=> ?_,λy hy=> ?_,λy c _ h=> ?_,λ_=>hd,Around.frames_deeper e0.frames,.inr ⟨rfl,rfl⟩,λb z=>absurd z (noA b),e0.bs,e0.bsz,λb _ _=>noA b,λb z=>absurd z (noA b),e0.funs,e0.frf⟩,
  rfl,e0.bare,Un.kept hk,⟨_,x.toInCall.ns,λi y v h1 h2 h3=> ?_⟩,λy c h=>⟨_,x.cell y c h⟩,e0.hok.fresh (Nat.le_refl _),λy c h=> ?_,λp hp=>absurd (show p∈([]:List (Addr×Obj)) from hp) (by simp),e0.hok.kept hk, ?_⟩
 ·exact name_of_addr x.apart (PySem.mem_of_lookup h1) (PySem.mem_of_lookup h2)
 ·have hy:scope.names.lookup y=some .cell\/scope.names.lookup y=some .free:=hy
  rcases hy with hy | hy
  ·exact zq hy
  ·exact absurd rfl (S.nofree _ (PySem.mem_of_lookup hy))
 ·exact Nat.le_of_lt (x.above y c (PySem.mem_of_lookup h))
 ·have hi:i<vs.length:=by
   unfold start at h2
   by_cases hi:i<vs.length
   ·exact hi
   ·rw[List.getElem?_append_right (by simpa using hi)] at h2
    rw[List.getElem?_replicate] at h2
    split at h2 <;> cases h2
  have ha:vs[i]? =some v:=by
   unfold start at h2
   rw[List.getElem?_append_left (by simpa using hi),List.getElem?_map] at h2
   cases e:vs[i]? with
   | none=>rw[e] at h2;cases h2
   | some a=>rw[e] at h2;cases h2;rfl
  obtain⟨u,hu,rv⟩:=r.get ha
  have hp:ps[i]? =some y:=by
   rw[<- S.pre,List.getElem?_take_of_lt (by omega)];exact h1
  have ndP:ps.Nodup:=by rw[<- S.pre];exact S.nd.sublist (List.take_sublist _ _)
  refine⟨u,rv, ?_⟩
  rcases S.par y (List.mem_of_getElem? hp) with k | k
  ·exact .inl ⟨k,wF ndP hp hu k⟩
  ·obtain⟨c,e⟩:=zq (n:=s.heap.objs.size+1) k
   refine .inr ⟨.inl k,c,e, ?_⟩
   have q:=x.cell y c e
   rw[wt ndP hp hu (by show scope.names.lookup y≠_;rw[k];decide)] at q
   exact q
 ·exact e0.hok.fresh (Nat.le_of_lt (x.above y c (PySem.mem_of_lookup h)))
 ·unfold start
  show _=N.length
  rw[List.length_append,List.length_map,List.length_replicate]
  omega
theorem GO {CX:CXT} {P:Program} {w:World} {K:PySem.W.Frag} {mg:Str->Option Value} {base:Heap} {k:Nat} {f:Addr} {name qual:Str} {params:Arguments} {body:List Stmt} {scope:Scope} {dV kV doc pm cdv ct oc:Value} {an od:Option Addr}
 {osl:Array (Option Value)} {N ps:List Str} {sp:Sp} (lk:K.lookup f=some ⟨oc,od,.func (PySem.W.fnOf name qual params body scope dV kV doc pm an cdv ct),osl⟩) (hcd:PySem.W.codeIn K cdv qual=true) (S:bf N ps scope)
 (len:∀vs H Q E,sp vs H Q E->vs.length=ps.length)
 (hbody:∀(A:Around) (outer:List Env) (s:Shared) (H:Hp) (vs:List V) (Q:VK) (E:XK),dY k (A.deeper (envOfC qual scope s.heap.objs.size f cdv))->sp vs H Q E->
  ∃t,PSs (rk CX P w K mg base N qual scope f cdv A outer s H E) body t/\t {nx:=λ_ H'=>Q .non H',rt:=Q} (start N vs) H):
 fM P w K mg base CX (k+1) f (PySem.W.fnOf name qual params body scope dV kV doc pm an cdv ct) ps sp:=by
 refine⟨len,λA outer s H args us vs Q E hr e0 hb r hsp=> ?_⟩
 have hl:=len _ _ _ _ hsp
 have KX:K.In s.heap:=e0.mod.kin.keeps λb o e=>(e0.bs b o e).1
 have lim:s.heap.NoLimit:=e0.mod.nolimit.keeps λb o e=>(e0.bs b o e).1
 have hkind:∀y∈ps.zip us,scope.names.lookup y.1=some .local\/(scope.names.lookup y.1=some .cell/\((cellsFrom (s.heap.objs.size+1) scope.names []).lookup y.1).isSome=true):=λ⟨n,v⟩ hy=>by
  rcases S.par n (List.of_mem_zip hy).1 with q | q
  ·exact .inl q
  ·exact .inr ⟨q,PySem.W.cellsFrom_some _ _ _ (.inl q)⟩
 refine codeAny_call_function hr.depth (KX _ _ lk) rfl S.co S.gen rfl (PySem.W.codeRec_of KX hcd) (hb _ _ _ _ ?_)
 refine wpAny_newFunctionEnv_cells S.kind hkind λenv he s1 x=> ?_
 subst he
 refine⟨lim.keeps x.toInCall.keep,codeAny_func ?_⟩
 obtain⟨t,ht,hq⟩:=hbody A outer s H vs Q E (hr.deeper _) hsp
 have I:Inv (rk CX P w K mg base N qual scope f cdv A outer s H E) [] (start N vs) H s1:=CI S hr.hd e0 hl r x
 refine wpAny_mono (ht [] s1 (start N vs) H _ I hq) (λfl s' hs=> ?_) λe s' hs=>hs
 have fin:∀{σ':St} {H':Hp} {v:V} {u:Value},Inv (rk CX P w K mg base N qual scope f cdv A outer s H E) [] σ' H' s'->RelV v u->Q v H'->CE outer P w H s Q u s':=
  λ{σ' H' v u} J rv q=>⟨v,H',J.os,J.bare,J.base,J.hok,rv,q⟩
 cases fl with
 | ret u=>
  obtain⟨v,σ',H',J,rv,q⟩:=hs
  exact fin J rv q
 | next=>
  obtain⟨σ',H',J,q⟩:=hs
  exact fin (v:=V.non) (u:=Value.none) J rfl q
 | brk=>
  obtain⟨_,_,_,q⟩:=hs
  exact False.elim q
 | cont=>
  obtain⟨_,_,_,q⟩:=hs
  exact False.elim q
end L2
namespace L2
open PySem PySem.Spec PyProof.Rows
section
variable {X : Cx} {x : Str} {p pos : Pos} {e : Expr} {es : List Expr} {t : TA} {id T : String} {r : List V → Hp → VK → Prop}
def tCB(r:List V->Hp->VK->Prop)(t:TA):TE:=λσ H Q=>t σ H λvs H1=>r vs H1 Q
theorem bx (hc:i7 X (.builtin id) r) (hg:Gl X x) (hm:X.mg x=none) (hv:bootBuiltins x=some (.builtin id)) (ha:PA X (e::es) t) (hn:x≠"__name__" :=by decide) (hdb:(x == ("__debug__" :Str))=false:=by decide)
 (he:starEach (e::es) X.env=(false,eval e X.env)::starEach es X.env:=by rfl) (hpl:(backTo pos (starEach es X.env)).any (·.1)=false:=by rfl):PE X (.Call (.Name x p) (e::es) [] pos) (tCB r t):=by
 intro pins s σ H Q I h
 refine wpAny_Call_Name_kw (oU I hg hm hv ?_ hn hdb)
 exact PyProof.Rows.callWith_builtin1 (thn (ha pos pins s σ H _ I h) λus s1 ⟨vs,H1,I1,r1,q1⟩=>hc pins s1 σ H1 vs us Q I1 r1 q1) he hpl
theorem fD (hc:i7 X (.type T) r) (hg:Gl X x) (hm:X.mg x=none) (hv:bootBuiltins x=some (.type T)) (ha:PA X (e::es) t) (hn:x≠"__name__" :=by decide) (hdb:(x == ("__debug__" :Str))=false:=by decide)
 (he:starEach (e::es) X.env=(false,eval e X.env)::starEach es X.env:=by rfl) (hpl:(backTo pos (starEach es X.env)).any (·.1)=false:=by rfl):PE X (.Call (.Name x p) (e::es) [] pos) (tCB r t):=by
 intro pins s σ H Q I h
 refine wpAny_Call_Name_kw (oU I hg hm hv ?_ hn hdb)
 exact PyProof.Rows.callWith_type1 (thn (ha pos pins s σ H _ I h) λus s1 ⟨vs,H1,I1,r1,q1⟩=>hc pins s1 σ H1 vs us Q I1 r1 q1) he hpl
end
end L2
namespace HT
open PySem PyProof.Rows
section
open PySem.SeqAt
open PySem.AutoSeq1 (wpAny_loadPart')
open PySem.MeetsSeq PySem.MeetsSeq2 PySem.MeetsSeq3
end
section
variable {prog : Program} {w : World} {A : Around} {E : Value → Shared → Prop} {s : Shared}
def sIx(n d:Nat):Option Int->Nat
 | none=>d
 | some v=>if v<0 then (v+(n:Int)).toNat else min v.toNat n
theorem FQ(n d:Nat):sIx n d none=d:=rfl
theorem HG(n d k:Nat):sIx n d (some (k:Int))=min k n:=by
 show (if (k:Int)<0 then ((k:Int)+(n:Int)).toNat else min (k:Int).toNat n)=min k n
 rw[if_neg (by omega),Int.toNat_natCast]
end
end HT
namespace L2
open PySem PySem.Spec PyProof.Rows
abbrev TO:=St->Hp->(Option Int->Hp->Prop)->Prop
def PO(X:Cx)(e:Option Expr)(t:TO):Prop:=
 ∀(pins:List (Addr×Obj)) (s:Shared) (σ:St) (H:Hp) (Q:Option Int->Hp->Prop),Inv X pins σ H s->t σ H Q->
  wpAny (model X.prog X.w) X.A (evalPart e X.env) (λu s'=>∃o H',Inv X pins σ H' s'/\IsPart u o/\Q o H') X.xe s
def Bf:TO:=λ_ H Q=>Q none H
def GJ(t:TE):TO:=λσ H Q=>t σ H λx H1=>∃i,x=.int i/\Q (some i) H1
section
variable {X : Cx} {e : Expr} {te : TE} {lo hi : Option Expr} {tl th : TO} {pos p2 : Pos}
theorem o9:PO X none Bf:=by
 intro pins s σ H Q I h
 rw[evalPart_none]
 exact wpAny_pure ⟨none,H,I,.none,h⟩
theorem rP(h:PE X e te):PO X (some e) (GJ te):=by
 intro pins s σ H Q I hw
 rw[evalPart_some]
 refine thn (h pins s σ H _ I hw) λu s1 ⟨x,H1,I1,r1,q1⟩=> ?_
 obtain⟨i,rfl,q⟩:=q1
 obtain⟨t,rfl⟩:=r1
 exact⟨some i,H1,I1,.int i t,q⟩
def SlR(X:Cx)(r:V->Option Int->Option Int->Hp->VK->Prop):Prop:=
 ∀(pins:List (Addr×Obj)) (s:Shared) (σ:St) (H:Hp) (x:V) (v vl vu:Value) (lo hi:Option Int) (sl:Addr) (Q:VK),Inv X pins σ H s->RelV x v->s.heap.IsSliceOf sl vl vu .none->IsPart vl lo->IsPart vu hi->r x lo hi H Q->
  ∃T id,typeLookup (.type T) "__getitem__" =pure (some (.builtin id))/\s.TypeIs v T/\wpAny (model X.prog X.w) X.A (getItem v (.ref sl)) (EP X pins σ Q) X.xe s
theorem SlR.or{r r':V->Option Int->Option Int->Hp->VK->Prop}(h:SlR X r)(h':SlR X r'):SlR X (λx lo hi H Q=>r x lo hi H Q\/r' x lo hi H Q):=by
 intro pins s σ H x v vl vu lo hi sl Q I rx hs pl pu q
 rcases q with q | q
 ·exact h pins s σ H x v vl vu lo hi sl Q I rx hs pl pu q
 ·exact h' pins s σ H x v vl vu lo hi sl Q I rx hs pl pu q
def tSl(r:V->Option Int->Option Int->Hp->VK->Prop)(te:TE)(tl th:TO):TE:=λσ H Q=>te σ H λx H1=>tl σ H1 λl H2=>th σ H2 λu H3=>r x l u H3 Q
theorem tE{r:V->Option Int->Option Int->Hp->VK->Prop}(hr:SlR X r)(he:PE X e te)(hl:PO X lo tl)(hu:PO X hi th):PE X (.Subscript e (.Slice lo hi none p2) pos) (tSl r te tl th):=by
 intro pins s σ H Q I h
 refine Subscript_ (thn (he pins s σ H _ I h) λv s1 ⟨x,H1,I1,r1,q1⟩=> ?_)
 refine wpAny_Slice (thn (hl pins s1 σ H1 _ I1 q1) λvl s2 ⟨l,H2,I2,pl,q2⟩=>thn (hu pins s2 σ H2 _ I2 q2) λvu s3 ⟨u,H3,I3,pu,q3⟩=> ?_)
 rw[evalPart_none]
 refine wpAny_pure ?_
 have I4:Inv X pins σ H3 {s3 with heap:=s3.heap.push {cls:=.type "slice",data:=.fields #[vl,vu,.none]}}:=I3.kept (t':=s3.toks) λb ob q=>Heap.get?_push_of_some _ q
 obtain⟨T,id,hT,ht,hg⟩:=hr pins {s3 with heap:=s3.heap.push {cls:=.type "slice",data:=.fields #[vl,vu,.none]}} σ H3 x v vl vu l u s3.heap.objs.size Q I4 r1 (Heap.IsSliceOf.new ..) pl pu q3
 show wpAny (model X.prog X.w) X.A (subscriptTail e (.Slice lo hi none p2) v (.ref s3.heap.objs.size)) (EP X pins σ Q) X.xe {s3 with heap:=s3.heap.push {cls:=.type "slice",data:=.fields #[vl,vu,.none]}}
 exact tail_any (ops:=[.ref s3.heap.objs.size,v]) ht hT hg (by with_unfolding_all rfl)
def vQ(xs:List V)(lo hi:Option Int):List V:=(xs.drop (HT.sIx xs.length 0 lo)).take (HT.sIx xs.length xs.length hi-HT.sIx xs.length 0 lo)
theorem Aa(xs:List V)(lo hi:Option Int):(vQ xs lo hi).length<=xs.length:=by
 unfold vQ
 rw[List.length_take,List.length_drop]
 omega
end
end L2
namespace L2
open PySem PySem.Spec PyProof.Rows
def ixN(n:Nat)(i:Int):Option Nat:=if 0<=i then (if i<n then some i.toNat else none) else if -(n:Int)<=i then some (i+n).toNat else none
def atI{α:Type}(xs:List α)(i:Int):Option α:=(ixN xs.length i).bind λj=>xs[j]?
theorem AO{n:Nat}{i:Int}{j:Nat}(h:ixN n i=some j):seqIndex? i n=some j/\j<n/\ -(n:Int)<=i/\i<n:=by
 unfold ixN at h
 by_cases h0:0<=i
 ·rw[if_pos h0] at h
  by_cases h1:i<n
  ·rw[if_pos h1] at h
   have e:i.toNat=j:=Option.some.inj h
   exact⟨by rw[seqIndex_of h0 h1,e],by omega,by omega,h1⟩
  ·rw[if_neg h1] at h;cases h
 ·rw[if_neg h0] at h
  by_cases h1: -(n:Int)<=i
  ·rw[if_pos h1] at h
   have e:(i+n).toNat=j:=Option.some.inj h
   exact⟨by rw[seqIndex_neg (by omega) h1,e],by omega,h1,by omega⟩
  ·rw[if_neg h1] at h;cases h
theorem vx{α:Type}{xs:List α}{i:Int}{v:α}(h:atI xs i=some v):∃j,seqIndex? i xs.length=some j/\xs[j]? =some v/\j<xs.length/\ -(xs.length:Int)<=i/\i<xs.length:=by
 unfold atI at h
 cases e:ixN xs.length i with
 | none=>rw[e] at h;cases h
 | some j=>
  rw[e] at h
  obtain⟨h1,h2,h3,h4⟩:=AO e
  exact⟨j,h1,h,h2,h3,h4⟩
def HS(b:Expr):Prop:=∀o i,subscripted b false o i=operate [o,i] (getItem o i)
def IxR(X:Cx)(r:R2):Prop:=
 ∀(value slice:Expr) (pins:List (Addr×Obj)) (s:Shared) (σ:St) (H:Hp) (x y:V) (v u:Value) (Q:VK),Inv X pins σ H s->RelV x v->RelV y u->r x y H Q->
  subscripted slice false v u=operate [v,u] (getItem v u)->wpAny (model X.prog X.w) X.A (subscriptTail value slice v u) (EP X pins σ Q) X.xe s
def MtR(X:Cx)(id:String)(r:V->List V->Hp->VK->Prop):Prop:=
 ∀(pins:List (Addr×Obj)) (s:Shared) (σ:St) (H:Hp) (x:V) (xs:List V) (v:Value) (us:List Value) (Q:VK),Inv X pins σ H s->RelV x v->Vals xs us->r x xs H Q->
  wpAny (model X.prog X.w) X.A (call (.builtin id) (v::us)) (EP X pins σ Q) X.xe s
section
variable {X : Cx} {a b : Expr} {ta tb : TE} {pos : Pos}
theorem IxR.or{r r':R2}(h:IxR X r)(h':IxR X r'):IxR X (λx y H Q=>r x y H Q\/r' x y H Q):=by
 intro value slice pins s σ H x y v u Q I rx ry q hs
 rcases q with q | q
 ·exact h value slice pins s σ H x y v u Q I rx ry q hs
 ·exact h' value slice pins s σ H x y v u Q I rx ry q hs
theorem MtR.or{id:String}{r r':V->List V->Hp->VK->Prop}(h:MtR X id r)(h':MtR X id r'):MtR X id (λx xs H Q=>r x xs H Q\/r' x xs H Q):=by
 intro pins s σ H x xs v us Q I rx rs q
 rcases q with q | q
 ·exact h pins s σ H x xs v us Q I rx rs q
 ·exact h' pins s σ H x xs v us Q I rx rs q
theorem dc{r:R2}(hr:IxR X r)(ha:PE X a ta)(hb:PE X b tb)(hs:HS b):PE X (.Subscript a b pos) (tOp r ta tb):=by
 intro pins s σ H Q I h
 exact Subscript_ (Fm ha hb I h λv u s2 x y H2 I2 rx ry q=>hr a b pins s2 σ H2 x y v u Q I2 rx ry q (hs _ _))
def JG(K:PySem.W.Frag):R2:=λx y H Q=>∃p xs i v,x=.ref p/\y=.int i/\SqL K H p xs/\atI xs i=some v/\Q v H
def J9(K:PySem.W.Frag):R2:=λx y H Q=>∃p xs i v,x=.ref p/\y=.int i/\SqT K H p xs/\atI xs i=some v/\Q v H
def Ke:R2:=λx y H Q=>∃z i c,x=.str z/\y=.int i/\z.length<=sizeLine/\atI z.cps.toList i=some c/\Q (.str ⟨#[c]⟩) H
theorem Iv:IxR X (JG X.K):=by
 intro value slice pins s σ H x y v u Q I rx ry h hs
 obtain⟨p,xs,i,z,rfl,rfl,hq,he,q⟩:=h
 cases rx
 obtain⟨t,rfl⟩:=ry
 obtain⟨its,r,pl,hz⟩:=I.list hq
 obtain⟨j,h1,h2,h3,h4,h5⟩:=vx he
 obtain⟨w,ew,rw'⟩:=r.get h2
 have hl:=r.length
 have hn:=nO
 have fin:EP X pins σ Q w s:=⟨z,H,I,rw',q⟩
 by_cases h0:0<=i
 ·have hj:i.toNat=j:=by
   rw[seqIndex_of h0 h5] at h1
   exact Option.some.inj h1
  exact item_listR pl.isList h0 (by omega) (by rw[hj];simpa using ew) fin hs
 ·have hj:(i+(its.toArray.size:Int)).toNat=j:=by
   rw[seqIndex_neg (by omega) h4] at h1
   rw[List.size_toArray,<- hl]
   exact Option.some.inj h1
  exact subscriptTail_builtinR (x:=w) pl.isList.typeIs slot_list_getitem.lookup
   (wpAny_getItem_list_neg (Q:=λr s'=>r=w/\EP X pins σ Q r s') pl.isList (by omega) (by rw[List.size_toArray] <;> omega) (by omega) (by rw[hj];simpa using ew) ⟨rfl,fin⟩) hs
theorem JH:IxR X (J9 X.K):=by
 intro value slice pins s σ H x y v u Q I rx ry h hs
 obtain⟨p,xs,i,z,rfl,rfl,hq,he,q⟩:=h
 cases rx
 obtain⟨t,rfl⟩:=ry
 obtain⟨its,r,pl,hz⟩:=I.tuple hq
 obtain⟨j,h1,h2,h3,h4,h5⟩:=vx he
 obtain⟨w,ew,rw'⟩:=r.get h2
 have hl:=r.length
 have hn:=nO
 have fin:EP X pins σ Q w s:=⟨z,H,I,rw',q⟩
 exact subscriptTail_builtinR (x:=w) pl.typeIs slot_tuple_getitem.lookup
  (getItem_tuple (j:=j) (Q:=λr s'=>r=w/\EP X pins σ Q r s') pl (by omega) (by omega) (by rw[List.size_toArray,<- hl];exact h1) (by simpa using ew) ⟨rfl,fin⟩) hs
theorem Kg:IxR X Ke:=by
 intro value slice pins s σ H x y v u Q I rx ry h hs
 obtain⟨z,i,c,rfl,rfl,hz,he,q⟩:=h
 obtain⟨t,rfl⟩:=rx
 obtain⟨t',rfl⟩:=ry
 obtain⟨j,h1,h2,h3,h4,h5⟩:=vx he
 have hl:z.cps.toList.length=z.length:=by simp[Str.length]
 rw[hl] at h1 h4 h5
 have hn:=nO
 exact tail_any (typeIs_str s z t) slot_str_getitem.lookup (getItem_str (c:=c) (by
  have e1:decide (i < -(2^63:Int))=false:=decide_eq_false (by omega)
  have e2:decide (i ≥ 2^63)=false:=decide_eq_false (by omega)
  rw[e1,e2,Bool.or_false]) (by rw[h1];simpa using h2) ⟨.str ⟨#[c]⟩,H,I.tok _,⟨_,rfl⟩,q⟩) hs
def rIx(K:PySem.W.Frag):R2:=λx y H Q=>JG K x y H Q\/J9 K x y H Q\/Ke x y H Q
theorem cF:IxR X (rIx X.K):=Iv.or (JH.or Kg)
theorem B4(its:List Value)(n j:Nat)(u:Value):Obj.mapSeq (·.setIfInBounds j u) {cls:=.type "list",data:=.seq its.toArray n}={cls:=.type "list",data:=.seq (its.set j u).toArray n}:=by
 simp[Obj.mapSeq]
theorem Inv.lst{pins:List (Addr×Obj)}{σ:St}{H:Hp}{s:Shared}{p:Addr}{xs:List V}(I:Inv X pins σ H s)(h:H p=some (.lst xs)):
 ∃(its:List Value) (n:Nat),Vals xs its/\s.heap.get? p=some {cls:=.type "list",data:=.seq its.toArray n}/\xs.length<=sizeLine:=by
 obtain⟨z,its,n,r,e⟩:=I.hok p _ h
 exact⟨its,n,r,e,z⟩
theorem Inv.lstUpd {pins:List (Addr×Obj)} {σ:St} {H:Hp} {s:Shared} {p:Addr} {xs ys:List V} {its its':List Value} {n n':Nat} {f:Obj->Obj} (I:Inv X pins σ H s) (h:H p=some (.lst xs))
 (ho:s.heap.get? p=some {cls:=.type "list",data:=.seq its.toArray n}) (hf:f {cls:=.type "list",data:=.seq its.toArray n}={cls:=.type "list",data:=.seq its'.toArray n'}) (r:Vals ys its') (hz:ys.length<=sizeLine) (t:Nat):
 Inv X pins σ (upd H p (.lst ys)) {s with heap:=s.heap.update p f,toks:=t}:=by
 have e:(s.heap.update p f).get? p=some {cls:=.type "list",data:=.seq its'.toArray n'}:=by
  rw[Heap.get?_update_self f ho (by rw[hf] <;> rfl),hf]
 refine I.write (x:=p) (e:=p) (by rw[h];trivial) (.inl rfl) (λb u hb q=>(Heap.get?_update_other _ _ (Ne.symm hb)).trans q) ⟨_,e⟩ ?_
 exact⟨hz,its',n',r,e⟩
def GA:V->V->V->Hp->(Hp->Prop)->Prop:=λo i v H Q=>∃p xs k j,o=.ref p/\i=.int k/\H p=some (.lst xs)/\ixN xs.length k=some j/\Q (upd H p (.lst (xs.set j v)))
theorem set_list:JA X GA:=by
 intro pins s σ H o i v ov iv u Q I ro ri rv h
 obtain⟨p,xs,k,j,rfl,rfl,hp,hj,q⟩:=h
 cases ro
 obtain⟨t,rfl⟩:=ri
 obtain⟨its,n,r,ho,hz⟩:=I.lst hp
 obtain⟨h1,h2,h3,h4⟩:=AO hj
 have hl:=r.length
 have hn:=nO
 have I':Inv X pins σ (upd H p (.lst (xs.set j v))) {s with heap:=s.heap.update p (Obj.mapSeq (·.setIfInBounds j u))}:=
  I.lstUpd hp ho (B4 its n j u) (r.set rv j) (by rw[List.length_set];exact hz) s.toks
 by_cases h0:0<=k
 ·have hk:k.toNat=j:=by
   rw[seqIndex_of h0 h4] at h1
   exact Option.some.inj h1
  exact PySem.W.ki_setAt ho h0 (by omega) (by rw[List.size_toArray,<- hl];exact h4) (by rw[hk];exact⟨_,I',q⟩)
 ·have hk:(k+(its.toArray.size:Int)).toNat=j:=by
   rw[seqIndex_neg (by omega) h3] at h1
   rw[List.size_toArray,<- hl]
   exact Option.some.inj h1
  exact PySem.W.ki_setBack ho (by omega) (by rw[List.size_toArray,<- hl];exact h3) (by omega) (by rw[hk];exact⟨_,I',q⟩)
theorem yk(lo hi:Option Int)(n:Nat):(sliceBounds lo hi none n).1=((HT.sIx n 0 lo:Nat):Int)/\(sliceBounds lo hi none n).2.1=((HT.sIx n n hi:Nat):Int)/\(sliceBounds lo hi none n).2.2=1:=by
 refine⟨?_, ?_,rfl⟩
 ·cases lo with
  | none=>simp[sliceBounds,HT.sIx]
  | some i=>
   simp only[sliceBounds,HT.sIx,Option.getD_none,show (1:Int)>0 by decide,if_true]
   by_cases h:i<0
   ·simp only[h,if_true] <;> omega
   ·simp only[h,if_false] <;> omega
 ·cases hi with
  | none=>simp[sliceBounds,HT.sIx]
  | some i=>
   simp only[sliceBounds,HT.sIx,Option.getD_none,show (1:Int)>0 by decide,if_true]
   by_cases h:i<0
   ·simp only[h,if_true] <;> omega
   ·simp only[h,if_false] <;> omega
theorem xC(its:List Value)(lo hi:Option Int):slicePick its.toArray lo hi none=((its.drop (HT.sIx its.length 0 lo)).take (HT.sIx its.length its.length hi-HT.sIx its.length 0 lo)).toArray:=by
 obtain⟨h1,h2,h3⟩:=yk lo hi its.toArray.size
 unfold slicePick
 rw[h1,h2,h3]
 simp only[sliceRange_one,pick_run,List.size_toArray] <;> rfl
def JO(K:PySem.W.Frag):V->Option Int->Option Int->Hp->VK->Prop:=λx lo hi H Q=>∃a xs,x=.ref a/\SqL K H a xs/\∀p,H p=none->Q (.ref p) (upd H p (.lst (vQ xs lo hi)))
theorem IA:SlR X (JO X.K):=by
 intro pins s σ H x v vl vu lo hi sl Q I rx hs pl pu h
 obtain⟨a,xs,rfl,hx,q⟩:=h
 cases rx
 obtain⟨its,r,ht,hz⟩:=I.list hx
 have hlen:=r.length
 refine⟨"list",_,slot_list_getitem.lookup,ht.isList.typeIs, ?_⟩
 refine wpAny_getItem_list_slice ht.isList hs pl pu .none (by simp) ?_ (by rw[List.size_toArray] <;> omega)
 rw[xC,<- hlen]
 refine⟨.ref s.heap.objs.size,_,I.laid (t':=s.toks) (o:=.lst (vQ xs lo hi)) (λb ob q=>Heap.get?_push_of_some _ q) (Nat.le_refl _) ?_,rfl,q _ (I.hok.fresh (Nat.le_refl _))⟩
 exact⟨Nat.le_trans (Aa xs lo hi) hz,_,0,(r.drop (HT.sIx xs.length 0 lo)).take (HT.sIx xs.length xs.length hi-HT.sIx xs.length 0 lo),Heap.get?_push_size _ rfl⟩
def lW:V->Bool
 | .non=>true
 | .bl _=>true
 | .int _=>true
 | .str _=>true
 | _=>false
def eqV:V->V->Bool
 | .non,.non=>true
 | .bl a,.bl b=>a == b
 | .bl a,.int b=>(if a then 1 else 0) == b
 | .int a,.bl b=>a == (if b then 1 else 0)
 | .int a,.int b=>a == b
 | .str a,.str b=>a == b
 | _,_=>false
theorem JI{A:Around}{s:Shared}{y x:V}{u v:Value}(ry:RelV y u)(rx:RelV x v)(fy:lW y=true)(fx:lW x=true):SeqAt.EqAt A s u v (eqV y x):=by
 cases y with
 | non=>
  cases ry
  cases x with
  | non=>cases rx;exact SeqAt.EqAt.same _
  | bl b=>cases rx;exact SeqAt.EqAt.none_bool b
  | int b=>obtain⟨t,rfl⟩:=rx;exact SeqAt.EqAt.none_int b t
  | str b=>obtain⟨t,rfl⟩:=rx;exact SeqAt.EqAt.none_str b t
  | _=>exact absurd (show false=true from fx) Bool.false_ne_true
 | bl a=>
  cases ry
  cases x with
  | non=>cases rx;exact SeqAt.EqAt.bool_none a
  | bl b=>cases rx;exact SeqAt.EqAt.bool_bool a b
  | int b=>obtain⟨t,rfl⟩:=rx;exact SeqAt.EqAt.bool_int a b t
  | str b=>obtain⟨t,rfl⟩:=rx;exact SeqAt.EqAt.bool_str a b t
  | _=>exact absurd (show false=true from fx) Bool.false_ne_true
 | int a=>
  obtain⟨t',rfl⟩:=ry
  cases x with
  | non=>cases rx;exact SeqAt.EqAt.int_none a t'
  | bl b=>cases rx;exact SeqAt.EqAt.int_bool a t' b
  | int b=>obtain⟨t,rfl⟩:=rx;exact SeqAt.EqAt.int_int a t' b t
  | str b=>obtain⟨t,rfl⟩:=rx;exact SeqAt.EqAt.int_str a t' b t
  | _=>exact absurd (show false=true from fx) Bool.false_ne_true
 | str a=>
  obtain⟨t',rfl⟩:=ry
  cases x with
  | non=>cases rx;exact SeqAt.EqAt.str_none a t'
  | bl b=>cases rx;exact SeqAt.EqAt.str_bool a t' b
  | int b=>obtain⟨t,rfl⟩:=rx;exact SeqAt.EqAt.str_int a t' b t
  | str b=>obtain⟨t,rfl⟩:=rx;exact SeqAt.EqAt.str_str a t' b t
  | _=>exact absurd (show false=true from fx) Bool.false_ne_true
 | _=>exact absurd (show false=true from fy) Bool.false_ne_true
def eqU(x:V)(u:Value):Bool:=match u with
 | .none=>eqV .non x
 | .bool b=>eqV (.bl b) x
 | .int i _=>eqV (.int i) x
 | .str z _=>eqV (.str z) x
 | _=>false
theorem Dn{x y:V}{u:Value}(r:RelV y u)(f:lW y=true):eqU x u=eqV y x:=by
 cases y with
 | non=>cases r;rfl
 | bl b=>cases r;rfl
 | int i=>obtain⟨t,rfl⟩:=r;rfl
 | str z=>obtain⟨t,rfl⟩:=r;rfl
 | _=>exact absurd (show false=true from f) Bool.false_ne_true
theorem oX{x:V}:∀{xs:List V} {us:List Value},Vals xs us->xs.all lW=true->us.any (eqU x)=xs.any λy=>eqV y x
 | _,_,.nil,_=>rfl
 | y::xs,u::us,.cons r t,f=>by
  rw[List.all_cons,Bool.and_eq_true] at f
  rw[List.any_cons,List.any_cons,Dn r f.1,oX t f.2]
theorem nW{A:Around}{s:Shared}{x:V}{v:Value}(rx:RelV x v)(fx:lW x=true):∀{xs:List V} {us:List Value},Vals xs us->xs.all lW=true->∀u∈us,SeqAt.EqAt A s u v (eqU x u)
 | _,_,.nil,_=>λu hu=>by cases hu
 | y::xs,u::us,.cons r t,f=>λu' hu=>by
  rw[List.all_cons,Bool.and_eq_true] at f
  rcases List.mem_cons.mp hu with rfl | hu
  ·rw[Dn r f.1];exact JI r rx f.1 fx
  ·exact nW rx fx t f.2 u' hu
def inV(x:V)(xs:List V):Bool:=xs.any λy=>eqV y x
def rIn(K:PySem.W.Frag)(neg:Bool):R2:=λx y H Q=>∃p xs,y=.ref p/\(SqL K H p xs\/SqT K H p xs)/\lW x=true/\xs.all lW=true/\Q (.bl (if neg then !inV x xs else inV x xs)) H
theorem wc:OpR X (compareOp .In) (rIn X.K false):=by
 intro pins s σ H x y v u Q I rx ry h
 obtain⟨p,xs,rfl,hq,fx,fs,q⟩:=h
 cases ry
 rcases hq with hq | hq
 ·obtain⟨its,r,pl,hz⟩:=I.list hq
  refine SeqAt.in_listAt (eqU x) pl.isList (λw hw=>nW rx fx r fs w (by simpa using hw)) ⟨.bl _,H,I,rfl, ?_⟩
  rw[show its.toArray.any (eqU x)=its.any (eqU x) by simp,oX r fs]
  exact q
 ·obtain⟨its,r,pl,hz⟩:=I.tuple hq
  refine SeqAt.in_tupleAt (eqU x) pl (λw hw=>nW rx fx r fs w (by simpa using hw)) ⟨.bl _,H,I,rfl, ?_⟩
  rw[show its.toArray.any (eqU x)=its.any (eqU x) by simp,oX r fs]
  exact q
theorem yd:OpR X (compareOp .NotIn) (rIn X.K true):=by
 intro pins s σ H x y v u Q I rx ry h
 obtain⟨p,xs,rfl,hq,fx,fs,q⟩:=h
 cases ry
 rcases hq with hq | hq
 ·obtain⟨its,r,pl,hz⟩:=I.list hq
  refine SeqAt.notIn_listAt (eqU x) pl.isList (λw hw=>nW rx fx r fs w (by simpa using hw)) ⟨.bl _,H,I,rfl, ?_⟩
  rw[show its.toArray.any (eqU x)=its.any (eqU x) by simp,oX r fs]
  exact q
 ·obtain⟨its,r,pl,hz⟩:=I.tuple hq
  refine SeqAt.notIn_tupleAt (eqU x) pl (λw hw=>nW rx fx r fs w (by simpa using hw)) ⟨.bl _,H,I,rfl, ?_⟩
  rw[show its.toArray.any (eqU x)=its.any (eqU x) by simp,oX r fs]
  exact q
theorem i7.or{f:Value}{r r':List V->Hp->VK->Prop}(h:i7 X f r)(h':i7 X f r'):i7 X f (λxs H Q=>r xs H Q\/r' xs H Q):=by
 intro pins s σ H xs us Q I rs q
 rcases q with q | q
 ·exact h pins s σ H xs us Q I rs q
 ·exact h' pins s σ H xs us Q I rs q
theorem eW:i7 X (.type "list") (λxs H Q=>∃p ys,xs=[.ref p]/\(SqL X.K H p ys\/SqT X.K H p ys)/\∀l,H l=none->Q (.ref l) (upd H l (.lst ys))):=by
 intro pins s σ H xs us Q I r h
 obtain⟨p,ys,rfl,hq,q⟩:=h
 obtain⟨u,rfl,rx⟩:=vals1 r
 cases rx
 have fin:∀(its:List Value),Vals ys its->ys.length<=sizeLine->∀(h':Heap) (c':Nat),(∀b o',s.heap.get? b=some o'->h'.get? b=some o')->
  h'.get? s.heap.objs.size=some {cls:=.type "list",dict:=none,data:=.seq its.toArray c',slots:= #[]}->EP X pins σ Q (.ref s.heap.objs.size) {s with heap:=h'}:=λits r' hz h' c' kp e=>
  ⟨.ref s.heap.objs.size,_,I.laid (t':=s.toks) kp (Nat.le_refl _) (show fW X.prog X.w _ h' _ (.lst ys) from ⟨hz,its,c',r',e⟩),rfl,q _ (I.hok.fresh (Nat.le_refl _))⟩
 rcases hq with hq | hq
 ·obtain⟨its,r',pl,hz⟩:=I.list hq
  have hlen:=r'.length
  obtain⟨o,ho,hc,n,hd⟩:=pl.isList
  exact call_list_seq p (.inl rfl) ho hc hd (λh' c' kp e=>fin its r' hz h' c' kp e) (by simp only[List.size_toArray] <;> omega)
 ·obtain⟨its,r',pl,hz⟩:=I.tuple hq
  have hlen:=r'.length
  obtain⟨o,ho,hc,n,hd⟩:=pl
  exact call_list_seq p (.inr rfl) ho hc hd (λh' c' kp e=>fin its r' hz h' c' kp e) (by simp only[List.size_toArray] <;> omega)
def tyV(K:PySem.W.Frag)(T:String)(x:V)(H:Hp):Prop:=match x with
 | .str _=>T="str"
 | .int _=>T="int"
 | .ref p=>(T="list" /\∃xs,SqL K H p xs)\/(T="tuple" /\∃o,K.lookup p=some o/\o.cls=.type "tuple" /\o.dict=none)\/
  (T="dict" /\((∃kvs,H p=some (.dK kvs))\/∃kvs,H p=some (.dT kvs)))\/(T="set" /\∃S n,H p=some (.set S n))
 | _=>False
theorem C8{pins:List (Addr×Obj)}{σ:St}{H:Hp}{s:Shared}{T:String}{x:V}{v:Value}(I:Inv X pins σ H s)(r:RelV x v)(ty:tyV X.K T x H):
 s.TypeIs v T/\∀a,v=.ref a->∃ob,s.heap.get? a=some ob/\ob.dict=none:=by
 cases x with
 | str z=>
  obtain⟨t,rfl⟩:=r
  cases (show T="str" from ty)
  exact⟨typeIs_str s z t,λ_ e=>nomatch e⟩
 | int i=>
  obtain⟨t,rfl⟩:=r
  cases (show T="int" from ty)
  exact⟨typeIs_int s i t,λ_ e=>nomatch e⟩
 | ref p=>
  cases r
  rcases ty with⟨rfl,xs,hq⟩ | ⟨rfl,o,hk,hc,hd⟩ | ⟨rfl,hk⟩ | ⟨rfl,S,n,hk⟩
  ·obtain⟨its,_,pl,_⟩:=I.list hq
   refine⟨pl.isList.typeIs,λa e=> ?_⟩
   cases e
   obtain⟨o,n,e,c,hd,_⟩:=pl
   exact⟨o,e,hd⟩
  ·refine⟨⟨o,I.kIn p o hk,hc⟩,λa e=> ?_⟩
   cases e
   exact⟨o,I.kIn _ o hk,hd⟩
  ·have z:∃o,s.heap.get? p=some o/\o.ExactDict:=by
    rcases hk with⟨kvs,hk⟩ | ⟨kvs,hk⟩
    ·obtain⟨_,_,_,_,o,_,_,e,ex,_⟩:=I.hok p _ hk
     exact⟨o,e,ex⟩
    ·obtain⟨_,_,_,_,o,_,_,e,ex,_⟩:=I.hok p _ hk
     exact⟨o,e,ex⟩
   obtain⟨o,e,ex⟩:=z
   refine⟨⟨o,e,ex.1⟩,λa e2=> ?_⟩
   cases e2
   exact⟨o,e,ex.2.1⟩
  ·obtain⟨o,_,_,_,e,ex,_⟩:=I.hok p _ hk
   refine⟨⟨o,e,ex.1⟩,λa e2=> ?_⟩
   cases e2
   exact⟨o,e,ex.2.1⟩
 | _=>exact False.elim ty
def Ga(K:PySem.W.Frag)(T:String)(r:V->List V->Hp->VK->Prop)(to:TE):TE:=λσ H Q=>to σ H λx H1=>tyV K T x H1/\r x [] H1 Q
def tBM(K:PySem.W.Frag)(T:String)(r:V->List V->Hp->VK->Prop)(to:TE)(t:TA):TE:=λσ H Q=>to σ H λx H1=>tyV K T x H1/\t σ H1 λxs H2=>r x xs H2 Q
variable {o e : Expr} {es : List Expr} {to : TE} {t : TA} {name : Str} {apos cpos : Pos} {T id : String} {r : V → List V → Hp → VK → Prop}
theorem Kk (pa:PlainAttrs T) (slot:Slot T name id) (hty:typeOf (.builtin id)=pure (.type "method_descriptor")) (hm:MtR X id r) (ho:PE X o to)
 (hbase:attributeBase o name X.env (eval o X.env)=eval o X.env:=by rfl) (hline:(apos.endLine == cpos.line)=true:=by rfl):PE X (.Call (.Attribute o name apos) [] [] cpos) (Ga X.K T r to):=by
 intro pins s σ H Q I h
 refine wpAny_Call_method0_late hbase hline (thn (ho pins s σ H _ I h) λv s1 ⟨x,H1,I1,r1,ty,q1⟩=> ?_)
 obtain⟨h1,h2⟩:=C8 I1 r1 ty
 exact⟨T,id,pa,slot,hty,h1,h2,Calls.callWith_builtin rfl (PySem.evalArgs_none (hm pins s1 σ H1 x [] v [] Q I1 r1 .nil q1))⟩
theorem kb (pa:PlainAttrs T) (slot:Slot T name id) (hty:typeOf (.builtin id)=pure (.type "method_descriptor")) (hm:MtR X id r) (ho:PE X o to) (ha:PA X (e::es) t)
 (hbase:attributeBase o name X.env (eval o X.env)=eval o X.env:=by rfl)
 (hfew:((backTo cpos (starEach (e::es) X.env)).all (λx=> !x.1)&&(backToKw cpos (keywordEach [] X.env)).all (λx=>x.1.isSome)
  &&decide ((e::es).length+([]:List Keyword).length+(if ([]:List Keyword).isEmpty then 0 else 1)<30))=true:=by rfl)
 (hline:(apos.endLine == cpos.line)=true:=by rfl) (hs:starEach (e::es) X.env=(false,eval e X.env)::starEach es X.env:=by rfl) (hplain:(backTo cpos (starEach es X.env)).any (·.1)=false:=by rfl):
 PE X (.Call (.Attribute o name apos) (e::es) [] cpos) (tBM X.K T r to t):=by
 intro pins s σ H Q I h
 refine wpAny_Call_method_late hbase hfew hline rfl (thn (ho pins s σ H _ I h) λv s1 ⟨x,H1,I1,r1,ty,q1⟩=> ?_)
 obtain⟨h1,h2⟩:=C8 I1 r1 ty
 refine⟨T,id,pa,slot,hty,h1,h2, ?_⟩
 have hA:=ha cpos pins s1 σ H1 _ I1 q1
 rw[hs] at hA ⊢
 refine Calls.callWith_builtin (by show (false||(backTo cpos (starEach es X.env)).any (·.1))=false;rw[hplain] <;> rfl) (Calls.evalArgs_plain ?_)
 exact thn hA λus s2 ⟨vs,H2,I2,r2,q2⟩=>hm pins s2 σ H2 x vs v us Q I2 r1 r2 q2
end
end L2
namespace L2
open PySem PySem.Spec PyProof.Rows
def MtM(X:Cx)(id:String)(r:V->List V->Hp->VK->Prop):Prop:=
 ∀(pins:List (Addr×Obj)) (s:Shared) (σ:St) (H:Hp) (x:V) (xs:List V) (v:Value) (us:List Value) (Q:VK),Inv X pins σ H s->RelV x v->Vals xs us->r x xs H Q->
  wpAny (model X.prog X.w) X.A (call (.builtin id) (v::us)) (EP X pins σ Q) X.xe s
theorem Vals.one:∀{x:V} {us:List Value},Vals [x] us->∃u,us=[u]/\RelV x u
 | _,_,.cons r .nil=>⟨_,rfl,r⟩
theorem Vals.two:∀{x y:V} {us:List Value},Vals [x,y] us->∃u v,us=[u,v]/\RelV x u/\RelV y v
 | _,_,_,.cons r (.cons q .nil)=>⟨_,_,rfl,r,q⟩
theorem Vals.zero:∀{us:List Value},Vals [] us->us=[]
 | _,.nil=>rfl
theorem Vals.dropLast{xs:List V}{us:List Value}(h:Vals xs us):Vals xs.dropLast us.dropLast:=by
 induction h with
 | nil=>exact .nil
 | cons r t ih=>
  cases t with
  | nil=>exact .nil
  | cons q t'=>exact .cons r ih
theorem Vals.eraseIdx:∀{xs:List V} {us:List Value} (i:Nat),Vals xs us->Vals (xs.eraseIdx i) (us.eraseIdx i)
 | _,_,_,.nil=>.nil
 | _,_,0,.cons _ t=>t
 | _,_,i+1,.cons r t=>.cons r (Vals.eraseIdx i t)
theorem Vals.reverse{xs:List V}{us:List Value}(h:Vals xs us):Vals xs.reverse us.reverse:=by
 induction h with
 | nil=>exact .nil
 | cons r t ih=>rw[List.reverse_cons,List.reverse_cons];exact Vals.append ih (.cons r .nil)
theorem Vals.rep{xs:List V}{us:List Value}(h:Vals xs us):∀k:Nat,Vals (List.replicate k xs).flatten (List.replicate k us).flatten
 | 0=>.nil
 | k+1=>by
  rw[List.replicate_succ,List.replicate_succ,List.flatten_cons,List.flatten_cons]
  exact Vals.append h (Vals.rep h k)
theorem Bs{α:Type}(l:List α):l.eraseIdx (l.length-1)=l.dropLast:=by
 induction l with
 | nil=>rfl
 | cons a r ih=>
  cases r with
  | nil=>rfl
  | cons b r=>
   have e:(a::b::r).length-1=((b::r).length-1)+1:=by
    have h1:(a::b::r).length=r.length+2:=rfl
    have h2:(b::r).length=r.length+1:=rfl
    omega
   rw[e,List.eraseIdx_cons_succ,ih]
   all_goals rfl
theorem wg{α:Type}:∀(l:List α) (i:Nat),(l.eraseIdx i).length<=l.length
 | [],_=>Nat.le_refl _
 | _::_,0=>Nat.le_succ _
 | _::r,i+1=>Nat.succ_le_succ (wg r i)
theorem foldl_rep(its:List Value):∀(k:Nat) (acc:List Value),
 List.foldl (λx1 x2=>x1++x2) acc.toArray (List.replicate k its.toArray)=(acc++(List.replicate k its).flatten).toArray
 | 0,acc=>by simp
 | k+1,acc=>by
  have e:acc.toArray++its.toArray=(acc++its).toArray:=by simp
  have e2:(acc++its)++(List.replicate k its).flatten=acc++(List.replicate (k+1) its).flatten:=by
   rw[List.replicate_succ,List.flatten_cons,List.append_assoc]
  rw[<- e2,<- foldl_rep its k (acc++its),<- e,List.replicate_succ,List.foldl_cons]
section
variable {X : Cx} {pins : List (Addr × Obj)} {σ : St} {H : Hp} {s : Shared} {l b : Addr} {xs ys zs : List V}
theorem Inv.lset {its its':List Value} {n:Nat} {f:Array Value->Array Value} {t':Nat} (I:Inv X pins σ H s) (hH:H l=some (.lst xs))
 (e:s.heap.get? l=some {cls:=.type "list",data:=.seq its.toArray n}) (hf:f its.toArray=its'.toArray) (hv:Vals ys its') (hz:ys.length<=sizeLine):
 Inv X pins σ (upd H l (.lst ys)) {s with heap:=s.heap.update l (Obj.mapSeq f),toks:=t'}:=by
 have q:=PySem.IsL.update e f
 rw[hf] at q
 refine I.write (x:=l) (e:=l) (by rw[hH];exact trivial) (.inl rfl) (λb' u hb hu=>(Heap.get?_update_other s.heap (Obj.mapSeq f) (Ne.symm hb)).trans hu) ⟨_,q⟩ ?_
 exact⟨hz,its',_,hv,q⟩
theorem Inv.lnew{its:List Value}{t':Nat}(I:Inv X pins σ H s)(hv:Vals ys its)(hz:ys.length<=sizeLine):
 Inv X pins σ (upd H s.heap.objs.size (.lst ys)) {s with heap:=s.heap.push {cls:=.type "list",data:=.seq its.toArray},toks:=t'}:=
 I.laid (λ_ _ q=>Heap.get?_push_of_some _ q) (Nat.le_refl _) ⟨hz,its,0,hv,Heap.get?_push_size _ rfl⟩
theorem Inv.fresh(I:Inv X pins σ H s):H s.heap.objs.size=none:=I.hok.fresh (Nat.le_refl _)
theorem Inv.lstM(I:Inv X pins σ H s)(hH:H l=some (.lst xs)):xs.length<=sizeLine/\∃(its:List Value) (n:Nat),Vals xs its/\xs.length=its.length/\s.heap.get? l=some {cls:=.type "list",data:=.seq its.toArray n}:=by
 obtain⟨z,its,n,r,e⟩:=I.hok l _ hH
 exact⟨z,its,n,r,r.length,e⟩
theorem EI{n:Nat}(h:n<=sizeLine):Builtin.List.listTooLong n=false:=by
 unfold Builtin.List.listTooLong
 exact decide_eq_false (by omega)
end
section
variable {X : Cx}
def A8:V->List V->Hp->VK->Prop:=λx vs H Q=>∃l xs y,x=.ref l/\vs=[y]/\H l=some (.lst xs)/\xs.length<sizeLine/\Q .non (upd H l (.lst (xs++[y])))
theorem eT:MtM X "list.append" A8:=by
 intro pins s σ H x vs v us Q I rx rv h
 obtain⟨l,xs,y,rfl,rfl,hH,hz,q⟩:=h
 cases rx
 obtain⟨u,rfl,ru⟩:=rv.one
 obtain⟨z,its,n,r,hl,e⟩:=I.lstM hH
 refine call_meets F.slot_list_append ⟨_,e,rfl⟩ F.entry_list_append (F.args_list_append_2 _ _) (PySem.list_append l its.toArray n u (by rw[List.size_toArray];omega)) ⟨e, ?_⟩
 refine⟨.non,_,I.lset (its':=its++[u]) hH e (by simp) (r.append (.cons ru .nil)) ?_,rfl,q⟩
 rw[List.length_append,List.length_singleton]
 omega
def LG:V->List V->Hp->VK->Prop:=λx vs H Q=>∃l xs y,x=.ref l/\vs=[]/\H l=some (.lst xs)/\xs[xs.length-1]? =some y/\Q y (upd H l (.lst xs.dropLast))
theorem ML:MtM X "list.pop" LG:=by
 intro pins s σ H x vs v us Q I rx rv h
 obtain⟨l,xs,y,rfl,rfl,hH,hy,q⟩:=h
 cases rx
 have hus:=rv.zero
 subst hus
 obtain⟨z,its,n,r,hl,e⟩:=I.lstM hH
 obtain⟨u,hu,ru⟩:=r.get hy
 have hy':its.toArray[its.toArray.size-1]? =some u:=by
  show its.toArray[its.length-1]? =some u
  rw[<- Array.getElem?_toList,<- hl]
  exact hu
 refine call_meets F.slot_list_pop ⟨_,e,rfl⟩ F.entry_list_pop (F.args_list_pop_1 _) (MeetsSeq.list_pop_last l its.toArray n u hy' (by rw[List.size_toArray];omega)) ⟨e, ?_⟩
 refine⟨y,_,I.lset (its':=its.dropLast) hH e ?_ r.dropLast ?_,ru,q⟩
 ·show its.toArray.eraseIdxIfInBounds (its.toArray.size-1)=its.dropLast.toArray
  rw[List.size_toArray,List.eraseIdxIfInBounds_toArray,Bs]
 ·rw[List.length_dropLast]
  omega
def DZ:V->List V->Hp->VK->Prop:=λx vs H Q=>∃l xs i k y,x=.ref l/\vs=[.int i]/\H l=some (.lst xs)/\ -(2^63)<=i/\i<2^63/\seqIndex? i xs.length=some k/\xs[k]? =some y/\Q y (upd H l (.lst (xs.eraseIdx k)))
theorem FA:MtM X "list.pop" DZ:=by
 intro pins s σ H x vs v us Q I rx rv h
 obtain⟨l,xs,i,k,y,rfl,rfl,hH,h1,h2,hk,hy,q⟩:=h
 cases rx
 obtain⟨u,rfl,ru⟩:=rv.one
 obtain⟨t,rfl⟩:=ru
 obtain⟨z,its,n,r,hl,e⟩:=I.lstM hH
 obtain⟨w,hw,rw'⟩:=r.get hy
 refine call_meets F.slot_list_pop ⟨_,e,rfl⟩ F.entry_list_pop (F.args_list_pop_2 _ _)
  (MeetsSeq.list_pop_at l its.toArray n i t k w (fitsIndex_both h1 h2) (by rw[List.size_toArray,<- hl];exact hk) (by rw[<- Array.getElem?_toList];exact hw) (by rw[List.size_toArray];omega)) ⟨e, ?_⟩
 refine⟨y,_,I.lset (its':=its.eraseIdx k) hH e ?_ (r.eraseIdx k) ?_,rw',q⟩
 ·show its.toArray.eraseIdxIfInBounds k=(its.eraseIdx k).toArray
  rw[List.eraseIdxIfInBounds_toArray]
 ·have:=wg xs k
  omega
def DL:V->List V->Hp->VK->Prop:=λx vs H Q=>∃l xs,x=.ref l/\vs=[]/\H l=some (.lst xs)/\Q .non (upd H l (.lst []))
theorem FX:MtM X "list.clear" DL:=by
 intro pins s σ H x vs v us Q I rx rv h
 obtain⟨l,xs,rfl,rfl,hH,q⟩:=h
 cases rx
 have hus:=rv.zero
 subst hus
 obtain⟨z,its,n,r,hl,e⟩:=I.lstM hH
 refine call_meets F.slot_list_clear ⟨_,e,rfl⟩ F.entry_list_clear (F.args_list_clear_1 _) (AutoSeq1.list_clear_list_0 l its.toArray n (by rw[List.size_toArray];omega)) ⟨e, ?_⟩
 exact⟨.non,_,I.lset (its':=[]) (ys:=[]) hH e rfl .nil (Nat.zero_le _),rfl,q⟩
def Ff:R2:=λx y H Q=>∃l k xs,x=.ref l/\y=.int k/\H l=some (.lst xs)/\ -(2^63)<=k/\k<2^63/\xs.length*k.toNat<=sizeLine/\
 ∀p,H p=none->Q (.ref p) (upd H p (.lst (List.replicate k.toNat xs).flatten))
theorem len_rep{α:Type}(xs:List α)(k:Nat):(List.replicate k xs).flatten.length=k*xs.length:=by
 induction k with
 | zero=>simp
 | succ k ih=>rw[List.replicate_succ,List.flatten_cons,List.length_append,ih,Nat.succ_mul,Nat.add_comm]
theorem Jv:OpR X (binaryOp .Mult) Ff:=by
 intro pins s σ H x y v u Q I rx ry h
 obtain⟨l,k,xs,rfl,rfl,hH,h1,h2,hz,q⟩:=h
 cases rx
 obtain⟨t,rfl⟩:=ry
 obtain⟨z,its,n,r,hl,e⟩:=I.lstM hH
 have hlen:its.toArray.size*k.toNat<=sizeLine:=by rw[List.size_toArray,<- hl];exact hz
 have hcap:¬its.toArray.size*k.toNat>(2^63-1)/8:=by
  have:(sizeLine:Nat)<=(2^63-1)/8:=by decide
  omega
 have hfit:¬(!Builtin.List.listFitsIndex k)=true:=by
  rw[fitsIndex_both h1 h2]
  exact Bool.false_ne_true
 have hlong:¬Builtin.List.listTooLong (its.toArray.size*k.toNat)=true:=by
  rw[EI hlen]
  exact Bool.false_ne_true
 have hnew:List.foldl (λx1 x2=>x1++x2) #[] (List.replicate (if its.toArray.isEmpty=true then 0 else k.toNat) its.toArray)=(List.replicate k.toNat its).flatten.toArray:=by
  have f0:∀m:Nat,List.foldl (λx1 x2=>x1++x2) #[] (List.replicate m its.toArray)=(List.replicate m its).flatten.toArray:=λm=>by
   have:=foldl_rep its m []
   rw[List.nil_append] at this
   exact this
  rw[f0]
  cases its with
  | nil=>simp
  | cons a r'=>rw[if_neg (by simp)]
 refine wpAny_binaryOp_repeat_ref (T:="list") (U:="int") (by decide) ⟨_,e,rfl⟩ (λs'=>typeIs_int s' k t) noFill_list_mul F.fills_int_mul F.slot_int_rmul repeat_list F.slot_int_index.lookup
  (call_meets F.slot_int_rmul (typeIs_int s k t) F.entry_int_rmul (F.args_int_rmul_2 _ _) (int___rmul___int_list k t l its.toArray n)
   ⟨e,rfl,⟨_,e,rfl⟩,call_meets F.slot_list_mul ⟨_,e,rfl⟩ F.entry_list_mul (F.args_list_mul_2 _ _) (AutoListH.list___mul___list_int_3 l its.toArray n k t hfit hcap hlong) ⟨e, ?_⟩⟩)
 rw[hnew]
 exact⟨.ref _,_,I.lnew (t':=s.toks) (r.rep k.toNat) (by rw[len_rep,Nat.mul_comm];exact hz),rfl,q _ I.fresh⟩
end
section
variable {prog : Program} {w : World} {A : Around} {E : Value → Shared → Prop} {s : Shared}
end
section
variable {X : Cx}
end
end L2
namespace Att
open PySem PySem.W PySem.Calls PyProof.Rows
theorem uz{P:Params}{h:Heap}:∀(ns:List Int) (vs:List Value),WellAll P h vs (ns.map WData.int)->IntsAre vs ns:=by
 intro ns
 induction ns with
 | nil=>
  intro vs w
  rw[List.map_nil] at w
  cases w
  exact .nil
 | cons n ns ih=>
  intro vs w
  rw[List.map_cons] at w
  cases w with
  | cons a b=>
   cases a
   exact .cons _ _ (ih _ b)
theorem Dt {l:OpenLaw} {n:Nat} (hn:l.most=some n) {P:Params} {h:Heap} {args:List WData} {vals:List Value}
 (hpre:l.row.toRowW.claim.pre args=true) (hwl:WellAll P h vals args):
 ∃a vs ns,vals=[Value.ref a]/\args=[WData.list (ns.map WData.int)]/\h.get? a=some {cls:=.type "list",data:=.seq vs.toArray}/\IntsAre vs ns/\ns.length<=n:=by
 have hsh:WShape.hasAll [] args [.list .int]=true:=(pre_splitW hpre).1
 have hc:l.pre.holds [] {args:=args}=true:=(pre_splitW hpre).2
 obtain⟨d,r,rfl,h1,h2⟩:=hasAllW_cons hsh
 obtain rfl:=hasAllW_nil h2
 obtain⟨xs,rfl,h3⟩:=hasW_list h1
 obtain⟨ns,rfl⟩:=items_int h3
 have hlen:ns.length<=n:=by
  unfold OpenLaw.pre at hc
  have h4:(WTm.not (.lt (.lit (.int (n:Int))) (.len (.arg 0)))).holds [] {args:=[.list (ns.map .int)]}=true:=by
   have h4:=(holds_andW hc).1
   rw[hn] at h4
   exact h4
  have h5:=condW_of h4 (w_not (w_lt w_lit (w_len_list (w_arg rfl))))
  rw[List.length_map] at h5
  refine Nat.le_of_not_lt λq=> ?_
  have q':(n:Int)<((ns.length:Nat):Int):=by omega
  first
   | (rw[decide_eq_true q'] at h5;exact absurd h5 (by decide))
   | (simp at h5;omega)
 cases hwl with
 | cons w1 w2=>
  cases w2
  cases w1 with
  | list ho hall=>exact⟨_,_,ns,rfl,rfl,ho,uz ns _ hall,hlen⟩
theorem CU(l:OpenLaw)(args:List WData):l.row.toRowW.claim.post args (.bool true) args=true:=
 postW_of (r:=l.row.toRowW) (X:=(true == true))
  (show WShape.has [] (.bool true) .bool=true by first | rfl | decide | simp[WShape.has,WShape.arms,WShape.armsAll])
  (show (WTm.eq .res (.lit (.bool true))).value [] {args:=args,res:=some (.bool true),after:=args}=some (.bool (true == true)) from w_eq_bool (w_res rfl) w_lit) rfl
theorem Ab {l:OpenLaw} {n:Nat} {q:Program} {loose:List Str} {XP:(Str->Option Value)->Heap->Prop} {YP:World->Heap->Prop} {d:DefRec}
 (hn:l.most=some n) (hdf:d.params.defaults=[])
 (call:∀(w:World) (s₀ s₁:Shared) (mg mb:Str->Option Value) (fa:Addr) (o:Obj) (pm cd doc:Value) (a:Addr) (vs:List Value) (ns:List Int),
  Ground q loose [] XP w s₀ mg mb s₁.heap->YP w s₁.heap->
  s₁.heap.get? fa=some o->o.data=.func (docDef d.name d.params d.body d.scope pm cd doc)->s₁.heap.CodeRec cd d.name->mg d.name=some (.ref fa)->
  s₁.heap.get? a=some {cls:=.type "list",data:=.seq vs.toArray}->IntsAre vs ns->ns.length<=n->s₁.gens= #[]->
  codeAny (model l.prog w) callerA (.call (.ref fa) ⟨[.ref a],[]⟩) (λr s'=>r=.ok (.ret (.bool true))/\OldK s₁.heap s'.heap/\s'.os=s₁.os/\AllBare s'.gens) s₁):
 WalkO q loose XP YP l.row.toRowW d [] (λf vs=>PySem.call f vs):=by
 intro w s₀ s₁ mg mb G Y fa o pm cd doc dV kV ho hd hcd hD hmg hg args vals as hpre hlay hrd hwl hlo
 obtain rfl:dV=.none:=Dflts.none hD hdf
 obtain rfl:kV=.none:=Dflts.noKw hD
 obtain⟨a,vs,ns,rfl,rfl,hobj,hints,hlen⟩:=Dt hn hpre hwl
 refine enter_call (codeAny_mono (call w s₀ s₁ mg mb fa o pm cd doc a vs ns G Y ho (fd_plain hd) hcd hmg hobj hints hlen hg) λr s' hq=> ?_)
 obtain⟨rfl,h2,h3,h4⟩:=hq
 exact⟨.inl ⟨.bool true,.bool true,[],rfl,λ_=>rfl,.bool true,CU l _,λ_=>⟨List.Pairwise.nil,λ_ hm=>(nomatch hm)⟩⟩,h2,h3,h4⟩
section
variable {prog : Program} {w : World} {A : Around} {E : Value → Shared → Prop} {s : Shared} {K : Frag}
end
end Att
namespace L2
open PySem PySem.Spec PyProof.Rows
theorem vV:∀{vs:List Value} {ns:List Int},IntsAre vs ns->Vals (ns.map V.int) vs
 | _,_,.nil=>.nil
 | _,_,.cons n t h=>.cons ⟨t,rfl⟩ (vV h)
def BK(H:Hp):Prop:=∀b,H b=none\/∃o xs,H b=some (.frz o (.lst xs))
theorem Ey {P:Program} {w:World} {K:PySem.W.Frag} {mg mb:Str->Option Value} {CX:CXT} {k:Nat} {fa a:Addr} {fd:FuncData} {x:Str} {sp:Sp} {s₁:Shared} {vs:List Value} {ns:List Int}
 (KX:K.In s₁.heap) (hns:s₁.heap.Ns mainGlobals mg) (hb:s₁.heap.Ns builtinsNs mb) (hbb:∀x:Str,x≠"__name__" ->mb x=bootBuiltins x) (hlim:s₁.heap.NoLimit) (hseer:s₁.heap.NoSeer) (hg:s₁.gens= #[])
 (ha:s₁.heap.get? a=some {cls:=.type "list",data:=.seq vs.toArray}) (hi:IntsAre vs ns) (hl:ns.length<=sizeLine) (hr:dY k callerA)
 (F:∀base:Heap,K.In base->base.Ns mainGlobals mg->fM P w K mg base CX k fa fd [x] sp) (hbind:∀(s:Shared) (u:Value),BindsTo s fd ⟨[u],[]⟩ [(x,u)])
 (hsp:∀H:Hp,BK H->SqL K H a (ns.map V.int)->sp [.ref a] H (λv _=>v=.bl true) λ_ _ _=>False)
 (hCX:∀H e s',CX [] H s₁ (λ_ _ _=>False) e s'->False):
 codeAny (model P w) callerA (.call (.ref fa) ⟨[.ref a],[]⟩) (λr s'=>r=.ok (.ret (.bool true))/\OldK s₁.heap s'.heap/\s'.os=s₁.os/\AllBare s'.gens) s₁:=by
 have rv:=vV hi
 have lenV:=hi.length
 have core:∀H:Hp,BK H->SqL K H a (ns.map V.int)->HOk P w H s₁.heap->(∀b,H b≠none->b=a)->(H a≠none->K.lookup a=none)->
  codeAny (model P w) callerA (.call (.ref fa) ⟨[.ref a],[]⟩) (λr s'=>r=.ok (.ret (.bool true))/\OldK s₁.heap s'.heap/\s'.os=s₁.os/\AllBare s'.gens) s₁:=by
  intro H hO hS hok hA hK
  have base_of:∀{b:Addr} {o:Obj},s₁.heap.get? b=some o->H b=none->(oI s₁.heap H).get? b=some o:=λe n=>FR e n
  have noA:∀{b:Addr} {o:Obj} {es:Array DictEntry} {ep:Nat},s₁.heap.get? b=some o->o.data=.dict es ep->H b=none:=λ{b o es ep} e d=>by
   cases q:H b with
   | none=>rfl
   | some u=>
    have e':b=a:=hA b (by rw[q];simp)
    subst e'
    rw[ha] at e;cases e
    have d':Data.seq vs.toArray _=Data.dict es ep:=d
    cases d'
  have nsK:∀{b:Addr} {m:Str->Option Value},s₁.heap.Ns b m->(oI s₁.heap H).Ns b m:=λ{b m} ⟨o,es,ep,e,d,r⟩=>⟨o,es,ep,base_of e (noA e d),d,r⟩
  have hKb:K.In (oI s₁.heap H):=λb o e=>base_of (KX b o e) (by
   cases q:H b with
   | none=>rfl
   | some u=>
    have e':b=a:=hA b (by rw[q];simp)
    subst e'
    rw[hK (by rw[q];simp)] at e;cases e)
  have noM:∀{b:Addr} {o:Obj},s₁.heap.get? b=some o->o.cls=.type "module" ->H b=none:=λ{b o} e d=>by
   cases q:H b with
   | none=>rfl
   | some u=>
    have e':b=a:=hA b (by rw[q];simp)
    subst e'
    rw[ha] at e;cases e
    exact absurd (show Value.type "list" =Value.type "module" from d) (by decide)
  have hN:(oI s₁.heap H).NoSeer:=⟨let ⟨mc,x,y⟩:=hseer.statics;⟨mc,nsK x,y⟩,let ⟨mc,x,y⟩:=hseer.mods;⟨mc,nsK x,y⟩,let ⟨mc,x,y⟩:=hseer.imp;⟨mc,nsK x,y⟩,let ⟨mg',bm,ob,x,y,z,u,v⟩:=hseer.main;⟨mg',bm,ob,nsK x,y,base_of z (noM z u),u,v⟩⟩
  have hM:Mod K mg (oI s₁.heap H):=⟨hKb,nsK hns,⟨mb,nsK hb,hbb⟩,(let ⟨mc,h1,h2⟩:=hlim;⟨mc,nsK h1,h2⟩),hN⟩
  have e0:oM P w K mg (oI s₁.heap H) callerA [] s₁ H:=⟨rfl,hM,λb o e=>Ij e,Nat.le_of_eq (Dx _ _),trivial,λb hb=>absurd (show b∈([]:List Addr) from hb) (by simp),hok,.of_eq hg⟩
  refine codeAny_mono ((F _ hKb (nsK hns)).run callerA [] s₁ H ⟨[.ref a],[]⟩ [.ref a] [.ref a] _ _ hr e0 (hbind s₁ (.ref a)) (.cons rfl .nil) (hsp H hO hS)) λr s' h=> ?_
  cases r with
  | error e=>exact(hCX H e s' h).elim
  | ok fl=>
   cases fl with
   | next=>exact False.elim h
   | brk=>exact False.elim h
   | cont=>exact False.elim h
   | ret u=>
    obtain⟨v,H',os,bare,un,hok',r',q⟩:=h
    have q':v=.bl true:=q
    subst q'
    obtain rfl:u=Value.bool true:=r'
    refine⟨rfl,OldK.of_keep λb o e=> ?_,os,bare⟩
    cases q:H b with
    | none=>exact un.keep b o e q (by intro z;exact absurd (show b∈([]:List Addr) from z) (by simp)) (by simp)
    | some u=>
     rcases hO b with z | ⟨ob,xs,z⟩
     ·rw[q] at z;cases z
     ·have z2:=un.frzs b ob _ z
      obtain⟨e1,_⟩:=hok b _ z
      obtain⟨e2,_⟩:=hok' b _ z2
      rw[e] at e1;cases e1
      exact e2
 cases hk:K.lookup a with
 | some o=>
  have e:=KX a o hk
  rw[ha] at e
  cases e
  refine core (λ_=>none) (λ_=>.inl rfl) (.inr ⟨_,vs.toArray,_,hk,rfl,rfl,rfl,by rw[List.size_toArray,lenV];exact hl,by simpa using rv⟩) (λb u z=>by have z':(none:Option HO)=some u:=z;cases z') (λb z=>absurd rfl z) λz=>absurd rfl z
 | none=>
  refine core (λb=>if b=a then some (.frz {cls:=.type "list",data:=.seq vs.toArray} (.lst (ns.map V.int))) else none) (λb=> ?_) (.inl (.inr ⟨{cls:=.type "list",data:=.seq vs.toArray},if_pos rfl⟩)) (λb u z=> ?_) (λb z=> ?_) λ_=>hk
  ·by_cases hb:b=a
   ·exact .inr ⟨_,_,if_pos hb⟩
   ·exact .inl (if_neg hb)
  ·by_cases hb:b=a
   ·have z':=(if_pos hb).symm.trans z
    cases z'
    subst hb
    exact⟨ha,by rw[List.length_map];exact hl,vs,_,rv,ha⟩
   ·have z':=(if_neg hb).symm.trans z
    cases z'
  ·by_cases hb:b=a
   ·exact hb
   ·exact absurd (if_neg hb) z
end L2
namespace L2
open PySem PySem.Spec PyProof.Rows
theorem Ia {l:PySem.W.OpenLaw} {n k:Nat} {q:Program} {loose:List Str} {XP:(Str->Option Value)->Heap->Prop} {YP:World->Heap->Prop} {d:DefRec} {K:Params->PySem.W.Frag} {CX:World->CXT} {sp:World->Sp} {x:Str}
 (hn:l.most=some n) (hn2:n<=sizeLine) (hdf:d.params.defaults=[]) (hr:dY k callerA) (hi:importsNone q=true)
 (hY:∀(w:World) (h:Heap),YP w h->(K w.params).In h)
 (F:∀(w:World) (mg:Str->Option Value) (fa:Addr) (h:Heap),(K w.params).In h->h.Ns mainGlobals mg->mg d.name=some (.ref fa)->
  ∃fd:FuncData,(∀(s:Shared) (u:Value),BindsTo s fd ⟨[u],[]⟩ [(x,u)])/\
   ∀base:Heap,(K w.params).In base->base.Ns mainGlobals mg->fM l.prog w (K w.params) mg base (CX w) k fa fd [x] (sp w))
 (hsp:∀(w:World) (H:Hp) (a:Addr) (ns:List Int),ns.length<=n->BK H->SqL (K w.params) H a (ns.map V.int)->sp w [.ref a] H (λv _=>v=.bl true) λ_ _ _=>False)
 (hCX:∀(w:World) (H:Hp) (s:Shared) (e:Value) (s':Shared),CX w [] H s (λ_ _ _=>False) e s'->False):
 PySem.W.WalkO q loose XP YP l.row.toRowW d [] (λf vs=>PySem.call f vs):=by
 refine Att.Ab hn hdf λw s₀ s₁ mg mb fa o pm cd doc a vs ns G Y ho hd hcd hmg hobj hints hlen hg=> ?_
 have KX:=hY w _ Y
 obtain⟨fd,hb,hF⟩:=F w mg fa _ KX G.T.g hmg
 exact Ey KX G.T.g G.T.b G.T.builtins G.T.nolimit (G.T.seer hi) hg hobj hints (Nat.le_trans hlen hn2) hr hF hb (λH hO hS=>hsp w H a ns hlen hO hS) λH e s'=>hCX w H s₁ e s'
end L2
namespace L2
open PySem PySem.Spec PyProof.Rows
def inClass(s:Stmt)(j:Nat):Stmt:=match s with
 | .ClassDef _ _ _ body _ _ _ _ _ _ _=>body.getD j (.Pass ⟨0,0,0,0⟩)
 | _=>.Pass ⟨0,0,0,0⟩
def bg(s:Stmt):Arguments:=match s with
 | .FunctionDef _ a _ _ _ _ _ _ _ _=>a
 | _=>{posonlyargs:=[],args:=[],vararg:=none,kwonlyargs:=[],kw_defaults:=[],kwarg:=none,defaults:=[]}
def aY(s:Stmt):List Stmt:=match s with
 | .FunctionDef _ _ b _ _ _ _ _ _ _=>b
 | _=>[]
def ay(s:Stmt):Scope:=match s with
 | .FunctionDef _ _ _ _ _ _ sc _ _ _=>sc
 | _=>{kind:=.function,names:=[],isGenerator:=false,isCoroutine:=false}
abbrev CX0:CXT:=λ_ _ _ _ _ _=>False
abbrev E0:XK:=λ_ _ _=>False
structure Fun(K:PySem.W.Frag)(x qual:Str)(st:Stmt)(f:Addr)(fd:FuncData):Prop where
 ex:∃(oc:Value) (od:Option Addr) (kV doc pm:Value) (an:Option Addr) (cdv ct:Value) (osl:Array (Option Value)),
  fd=PySem.W.fnOf x qual (bg st) (aY st) (ay st) .none kV doc pm an cdv ct/\K.lookup f=some ⟨oc,od,.func fd,osl⟩/\PySem.W.codeIn K cdv qual=true
 kp:PySem.W.keepIn K (.ref f)=true
section
variable {P : Program} {w : World} {K : PySem.W.Frag} {mg : Str → Option Value} {base : Heap}
theorem Fun.ok {x qual:Str} {st:Stmt} {f:Addr} {fd:FuncData} {N ps:List Str} {k:Nat} {sp:Sp} (F:Fun K x qual st f fd) (S:bf N ps (ay st)) (len:∀vs H Q E,sp vs H Q E->vs.length=ps.length)
 (hbody:∀(cdv:Value) (A:Around) (outer:List Env) (s:Shared) (H:Hp) (vs:List V) (Q:VK) (E:XK),dY k (A.deeper (envOfC qual (ay st) s.heap.objs.size f cdv))->sp vs H Q E->
  ∃t,PSs (rk CX0 P w K mg base N qual (ay st) f cdv A outer s H E).nox (aY st) t/\t {nx:=λ_ H'=>Q .non H',rt:=Q} (start N vs) H):fM P w K mg base CX0 (k+1) f fd ps sp:=by
 obtain⟨oc,od,kV,doc,pm,an,cdv,ct,osl,rfl,lk,hcd⟩:=F.ex
 refine GO lk hcd S len λA outer s H vs Q E hr hsp=> ?_
 obtain⟨t,h,q⟩:=hbody cdv A outer s H vs Q E hr hsp
 exact⟨t,h.nox,q⟩
theorem Fun.binds {x qual:Str} {st:Stmt} {f:Addr} {fd:FuncData} {ps:List Str} (F:Fun K x qual st f fd)
 (h:∀(kV doc pm:Value) (an:Option Addr) (cdv ct:Value) (us:List Value),us.length=ps.length->bindArgs (PySem.W.fnOf x qual (bg st) (aY st) (ay st) .none kV doc pm an cdv ct) ⟨us,[]⟩=pure (ps.zip us)):Binds K fd ps []:=by
 obtain⟨oc,od,kV,doc,pm,an,cdv,ct,osl,rfl,lk,hcd⟩:=F.ex
 exact .all (h kV doc pm an cdv ct)
theorem bD {x qual:Str} {st:Stmt} {f:Addr} {oc:Value} {od an:Option Addr} {osl:Array (Option Value)} {kV doc pm cdv ct:Value} (l:K.lookup f=some ⟨oc,od,.func (PySem.W.fnOf x qual (bg st) (aY st) (ay st) .none kV doc pm an cdv ct),osl⟩)
 (c:PySem.W.codeIn K cdv qual=true) (k:PySem.W.keepIn K (.ref f)=true):Fun K x qual st f (PySem.W.fnOf x qual (bg st) (aY st) (ay st) .none kV doc pm an cdv ct):=⟨⟨oc,od,kV,doc,pm,an,cdv,ct,osl,rfl,l,c⟩,k⟩
end
section
variable {X : Cx}
theorem pv (i:Nat) {x:Str} {pos:Pos} (hN:X.N[i]? =some x:=by rfl) (hv:Vis X.env.scope x:=by first | exact Or.inl rfl | exact Or.inr (Or.inl rfl) | exact Or.inr (Or.inr rfl)) (hd:(x == ("__debug__" :Str))=false:=by decide)
 (hcd:(x == ("__classdict__" :Str))=false:=by decide):PE X (.Name x pos) (Ez i):=Ju hN hv hd hcd
end
theorem rH{A B:Prop}(h:B):if false=true then A else B:=by
 rw[if_neg Bool.false_ne_true]
 exact h
theorem qM{A B:Prop}(h:A):if true=true then A else B:=by
 rw[if_pos rfl]
 exact h
def bF(H H':Hp):Prop:=∀b o,H b=some o->H' b=some o
theorem bF.refl(H:Hp):bF H H:=λ_ _ h=>h
theorem bF.trans{H H1 H2:Hp}(a:bF H H1)(b:bF H1 H2):bF H H2:=λc o h=>b c o (a c o h)
theorem bF.free{H H':Hp}(e:bF H H'){l:Addr}(h:H' l=Option.none):H l=Option.none:=by
 cases q:H l with
 | none=>rfl
 | some o=>
  rw[e l o q] at h
  cases h
theorem bF.seq{K:PySem.W.Frag}{H H':Hp}{a:Addr}{xs:List V}(e:bF H H')(h:SqL K H a xs):SqL K H' a xs:=by
 rcases h with(h | ⟨o,h⟩) | h
 ·exact .inl (.inl (e _ _ h))
 ·exact .inl (.inr ⟨o,e _ _ h⟩)
 ·exact .inr h
end L2
set_option maxRecDepth 100000
set_option maxHeartbeats 4000000
namespace L2
open PySem PySem.Spec PyProof.Rows
def dZ(env:Env):List (Str×NameKind)->List (Str×Addr)->List (Str×Addr)
 | [],cs=>cs
 | (n,k)::r,cs=>if k == .free then dZ env r ((n,(env.cells.lookup n).getD 0)::cs) else dZ env r cs
theorem vg{env:Env}:∀(names:List (Str×NameKind)) (cs:List (Str×Addr)),(∀n,(n,NameKind.free)∈names->∃c,env.cells.lookup n=some c)->
 (forIn names cs λ(x:Str×NameKind) (r:List (Str×Addr))=>(if (x.2 == NameKind.free)=true then do
  let a <- cellOf env x.1
  pure (ForInStep.yield ((x.1,a)::r)) else pure (ForInStep.yield r):Sem (ForInStep (List (Str×Addr)))))=pure (dZ env names cs)
 | [],cs,_=>rfl
 | (n,k)::r,cs,h=>by
  rw[List.forIn_cons]
  by_cases hk:(k == NameKind.free)=true
  ·have hk':k=.free:=by simpa using hk
   subst hk'
   obtain⟨c,hc⟩:=h n List.mem_cons_self
   simp only[hk,if_true,dZ,cellOf,hc,pure_bind,Option.getD_some]
   exact vg r _ λm hm=>h m (List.mem_cons_of_mem _ hm)
  ·simp only[hk,if_false,dZ,pure_bind]
   exact vg r cs λm hm=>h m (List.mem_cons_of_mem _ hm)
theorem xf{scope:Scope}{env:Env}(h:∀n,(n,NameKind.free)∈scope.names->∃c,env.cells.lookup n=some c):closureFor scope env=pure (dZ env scope.names []):=by
 have:=vg scope.names [] h
 simp only[closureFor]
 rw[<- this]
 exact bind_pure _
theorem qp{env:Env}:∀(names:List (Str×NameKind)) (cs:List (Str×Addr)),(∀n,(n,NameKind.free)∈names->∃c,env.cells.lookup n=some c)->
 (∀x c,cs.lookup x=some c->env.cells.lookup x=some c)->∀x c,(dZ env names cs).lookup x=some c->env.cells.lookup x=some c
 | [],cs,_,h,x,c,e=>h x c e
 | (n,k)::r,cs,hf,h,x,c,e=>by
  unfold dZ at e
  by_cases hk:(k == NameKind.free)=true
  ·rw[if_pos hk] at e
   have hk':k=.free:=by simpa using hk
   subst hk'
   refine qp r _ (λm hm=>hf m (List.mem_cons_of_mem _ hm)) (λy d q=> ?_) x c e
   obtain⟨c',hc'⟩:=hf n List.mem_cons_self
   rw[List.lookup_cons] at q
   split at q
   ·rename_i hy
    have:y=n:=by simpa using hy
    subst this
    rw[hc',Option.getD_some] at q
    rw[hc'];exact q
   ·exact h y d q
  ·rw[if_neg hk] at e
   exact qp r cs (λm hm=>hf m (List.mem_cons_of_mem _ hm)) h x c e
theorem oJ{env:Env}:∀(names:List (Str×NameKind)) (cs:List (Str×Addr)) (x:Str),(∃c,cs.lookup x=some c)->∃c,(dZ env names cs).lookup x=some c
 | [],cs,_,h=>h
 | (n,k)::r,cs,x,h=>by
  unfold dZ
  by_cases hk:(k == NameKind.free)=true
  ·rw[if_pos hk]
   refine oJ r _ x ?_
   rw[List.lookup_cons]
   split
   ·exact⟨_,rfl⟩
   ·exact h
  ·rw[if_neg hk]
   exact oJ r cs x h
theorem mX{env:Env}:∀(names:List (Str×NameKind)) (cs:List (Str×Addr)) (x:Str),(x,NameKind.free)∈names->∃c,(dZ env names cs).lookup x=some c
 | (n,k)::r,cs,x,h=>by
  unfold dZ
  rcases List.mem_cons.mp h with e | h
  ·cases e
   rw[if_pos (by rfl)]
   refine oJ r _ n ?_
   exact⟨_,by rw[List.lookup_cons];simp;rfl⟩
  ·by_cases hk:(k == NameKind.free)=true
   ·rw[if_pos hk];exact mX r _ x h
   ·rw[if_neg hk];exact mX r cs x h
theorem fq:∀(names:List (Str×NameKind)) (n:Nat) (acc:List (Str×Addr)),cellsFrom n names acc=cellsFrom n names []++acc
 | [],_,_=>rfl
 | (x,k)::r,n,acc=>by
  unfold cellsFrom
  split
  ·rw[fq r (n+1) ((x,n)::acc),fq r (n+1) [(x,n)],List.append_assoc];rfl
  ·exact fq r n acc
theorem mK:∀(names:List (Str×NameKind)) (n:Nat) {x:Str} {c:Addr},(x,c)∈cellsFrom n names []->(x,NameKind.cell)∈names
 | [],_,_,_,h=>nomatch h
 | (y,k)::r,n,x,c,h=>by
  unfold cellsFrom at h
  split at h
  ·rename_i hk
   have hk':k=.cell:=by simpa using hk
   rw[fq] at h
   rcases List.mem_append.mp h with q | q
   ·exact List.mem_cons_of_mem _ (mK r _ q)
   ·cases List.mem_singleton.mp q
    rw[hk']
    exact List.mem_cons_self
  ·exact List.mem_cons_of_mem _ (mK r _ h)
theorem Bw{l m:List (Str×Addr)}{x:Str}{c:Addr}(h:(l++m).lookup x=some c):l.lookup x=some c\/(l.lookup x=none/\m.lookup x=some c):=by
 rw[List.lookup_append] at h
 cases e:l.lookup x with
 | none=>rw[e] at h;exact .inr ⟨rfl,h⟩
 | some d=>rw[e] at h;exact .inl h
theorem qZ{l m:List (Str×Addr)}{x:Str}(h:l.lookup x=none):(l++m).lookup x=m.lookup x:=by rw[List.lookup_append,h];rfl
theorem yL{l m:List (Str×Addr)}{x:Str}(h:∃c,m.lookup x=some c):∃c,(l++m).lookup x=some c:=by
 cases e:l.lookup x with
 | none=>rw[qZ e];exact h
 | some c=>exact⟨c,by rw[List.lookup_append,e];rfl⟩
theorem DT(h:Heap)(names:List (Str×NameKind)):CellsOk (pushCells (h.push {cls:=.type "dict",data:=.dict #[]}) names) (h.objs.size+1) (cellsFrom (h.objs.size+1) names []):=by
 have:=cellsFrom_ok names (h.push {cls:=.type "dict",data:=.dict #[]}) (h.objs.size+1) [] ⟨λ_ _ hm=>(nomatch hm),List.Pairwise.nil⟩ (by rw[Heap.size_push];exact Nat.le_refl _)
 rwa [Heap.size_push] at this
theorem Az {M:Model} {A:Around} {E:Value->Shared->Prop} {s:Shared} {scope:Scope} {globals:Addr} {closure:List (Str×Addr)} {qual:Str} {func:Option Addr} {code:Value} {outer:Env} {builtins:Addr} {Q:Env->Shared->Prop}
 (hQ:Q {scope:=scope,locals:=s.heap.objs.size,globals:=globals,cells:=cellsFrom (s.heap.objs.size+1) scope.names closure,qual:=qual,func:=func,code:=outer.code,frame:=outer.frame,builtins:=outer.builtins} {s with heap:=pushCells (s.heap.push {cls:=.type "dict",data:=.dict #[]}) scope.names}):
 wpAny M A (newFunctionEnv scope globals closure [] qual func code (some outer) builtins) Q E s:=by
 simp only[newFunctionEnv,Option.isSome_some,if_true]
 refine wpAny_bind (wpAny_alloc ?_)
 refine wpAny_bind (wpAny_layCells _ (λname kind cells=>by cases hkc:kind == NameKind.cell <;> simp[hkc]) _ _ _ _ ?_)
 rw[show ({s with heap:=s.heap.push {cls:=.type "dict",data:=.dict #[]}}:Shared).heap.objs.size=s.heap.objs.size+1 from Heap.size_push ..]
 refine wpAny_bind ?_
 rw[List.forIn_nil]
 exact wpAny_pure (wpAny_pure hQ)
def cxC(X:Cx)(scope:Scope)(N':List Str)(fp:List Addr)(s:Shared)(H:Hp):Cx where
 prog:=X.prog
 w:=X.w
 K:=X.K
 mg:=X.mg
 base:=X.base
 A:=X.A
 N:=N'
 s₀:=s
 H₀:=H
 env:=compEnvC scope (cellsFrom (s.heap.objs.size+1) scope.names (dZ X.env scope.names [])) s.heap.objs.size X.env
 outer:=X.stack
 stack:=X.stack
 ex:=fp
 calm:=X.calm
 fn:=λx=>scope.names.lookup x == some .cell
 pn:=[]
 xe:=λ_ _=>False
def mB(X:Cx)(scope:Scope):List Str->List Nat->Prop
 | [],[]=>True
 | x::xs,j::js=>X.N[j]? =some x/\(X.env.scope.names.lookup x=some .cell\/X.env.scope.names.lookup x=some .free)/\scope.names.lookup x=some .free/\mB X scope xs js
 | _,_=>False
theorem mB.get{X:Cx}{scope:Scope}:∀{xs:List Str} {js:List Nat} {i:Nat} {x:Str},mB X scope xs js->xs[i]? =some x->
 ∃j,js[i]? =some j/\X.N[j]? =some x/\(X.env.scope.names.lookup x=some .cell\/X.env.scope.names.lookup x=some .free)/\scope.names.lookup x=some .free
 | [],_,_,_,_,e=>by simp at e
 | _::_,[],_,_,h,_=>h.elim
 | y::ys,j::js,0,x,h,e=>by
  simp at e;subst e
  exact⟨j,rfl,h.1,h.2.1,h.2.2.1⟩
 | y::ys,j::js,i+1,x,h,e=>by
  obtain⟨j',e1,r⟩:=mB.get (i:=i) (x:=x) h.2.2.2 (by simpa using e)
  exact⟨j',by simpa using e1,r⟩
theorem mB.length{X:Cx}{scope:Scope}:∀{xs:List Str} {js:List Nat},mB X scope xs js->xs.length=js.length
 | [],[],_=>rfl
 | [],_::_,h=>h.elim
 | _::_,[],h=>h.elim
 | _::_,_::_,h=>by rw[List.length_cons,List.length_cons,mB.length h.2.2.2]
def mR(m:Nat)(caps:List Nat)(σ:St):St:=List.replicate m none++caps.map λi=>(σ[i]?).getD none
theorem lookup_mem{α β:Type}[BEq α][LawfulBEq α]:∀{l:List (α×β)} {x:α} {b:β},l.lookup x=some b->(x,b)∈l
 | [],_,_,h=>by simp at h
 | (a,c)::r,x,b,h=>by
  rw[List.lookup_cons] at h
  split at h
  ·rename_i q
   have:x=a:=by simpa using q
   subst this
   cases h
   exact List.mem_cons_self
  ·exact List.mem_cons_of_mem _ (lookup_mem h)
section
variable {X : Cx}
theorem hE{scope:Scope}{env:Env}:∀{names:List (Str×NameKind)} {x:Str} {k:NameKind},(names.map λ(n,k)=>if (k == NameKind.free&&env.scope.kind == .function&&env.kindOf n == some .cell) then (n,NameKind.cell) else (n,k)).lookup x=some k->
 ∃k',names.lookup x=some k'/\(k'=k\/(k'=.free/\k=.cell))
 | [],_,_,h=>by simp at h
 | (n,k0)::r,x,k,h=>by
  have h':List.lookup x ((if (k0 == NameKind.free&&env.scope.kind == .function&&env.kindOf n == some .cell)=true then (n,NameKind.cell) else (n,k0))::r.map _)=some k:=h
  by_cases hc:(k0 == NameKind.free&&env.scope.kind == .function&&env.kindOf n == some .cell)=true
  ·rw[if_pos hc,List.lookup_cons] at h'
   rw[List.lookup_cons]
   split at h'
   ·rename_i q
    cases h'
    have hk:k0=.free:=by simp only[Bool.and_eq_true] at hc;simpa using hc.1.1
    exact⟨k0,rfl,.inr ⟨hk,rfl⟩⟩
   ·rename_i q
    exact hE (scope:=scope) h'
  ·rw[if_neg hc,List.lookup_cons] at h'
   rw[List.lookup_cons]
   split at h'
   ·rename_i q
    cases h'
    exact⟨k0,rfl,.inl rfl⟩
   ·rename_i q
    exact hE (scope:=scope) h'
structure nB(X:Cx)(scope:Scope)(own cap:List Str)(caps:List Nat):Prop where
 kind:scope.kind=.function
 cell:∀y∈scope.names,y.2=.cell->scope.names.lookup y.1=some .cell
 nm:∀y∈scope.names,y.2=.local->scope.names.lookup y.1=some .local
 fr:∀y∈scope.names,y.2=.free->y.1∈cap
 caps:mB X scope cap caps
 nd:(own++cap).Nodup
theorem nB.out{X:Cx}{scope:Scope}{own cap:List Str}{caps:List Nat}(S:nB X scope own cap caps){n:Str}(h:(n,NameKind.free)∈scope.names):X.env.scope.names.lookup n=some .cell\/X.env.scope.names.lookup n=some .free:=by
 obtain⟨i,hi,e⟩:=List.getElem_of_mem (S.fr _ h rfl)
 obtain⟨_,_,_,k,_⟩:=S.caps.get (i:=i) (x:=n) (by rw[List.getElem?_eq_getElem hi,e])
 exact k
theorem EJ {scope:Scope} {own cap:List Str} {caps:List Nat} {pins:List (Addr×Obj)} {σ:St} {H:Hp} {s:Shared} {fp:List Addr} {h1:Heap} {tk:Nat} (Sc:nB X scope own cap caps) (I:Inv X pins σ H s)
 (hfp:∀b∈fp,lO X pins H b) (hob:∀b∈fp,∃o,s.heap.get? b=some o) (hns:h1.Ns s.heap.objs.size λ_=>none)
 (hk:∀b o,s.heap.get? b=some o->h1.get? b=some o) (hnew:CellsOk h1 (s.heap.objs.size+1) (cellsFrom (s.heap.objs.size+1) scope.names [])):
 Inv (cxC X scope (own++cap) fp s H) [] (mR own.length caps σ) H {s with heap:=h1,toks:=tk}:=by
 have hcl:∀n,(n,NameKind.free)∈scope.names->∃c,X.env.cells.lookup n=some c:=λn hn=>I.ok.has n (Sc.out hn)
 have sub:∀x c,(dZ X.env scope.names []).lookup x=some c->X.env.cells.lookup x=some c:=qp scope.names [] hcl (λx c e=>by simp at e)
 have fresh:H s.heap.objs.size=none:=I.hok.fresh (Nat.le_refl _)
 have two:∀x c,(cellsFrom (s.heap.objs.size+1) scope.names (dZ X.env scope.names [])).lookup x=some c->((x,c)∈cellsFrom (s.heap.objs.size+1) scope.names []/\s.heap.objs.size<c)\/((cellsFrom (s.heap.objs.size+1) scope.names []).lookup x=none/\X.env.cells.lookup x=some c/\c<s.heap.objs.size):=λx c e=>by
  rw[fq] at e
  rcases Bw e with q | ⟨q0,q⟩
  ·exact .inl ⟨mem_of_lookup q,(hnew.empty x c (mem_of_lookup q)).2⟩
  ·have q':=sub x c q
   obtain⟨v,o,ho,_⟩:=I.cell x c q'
   exact .inr ⟨q0,q',Heap.lt_size ho⟩
 have notOwn:∀x,scope.names.lookup x=some .free->(cellsFrom (s.heap.objs.size+1) scope.names []).lookup x=none:=λx hx=>by
  cases e:(cellsFrom (s.heap.objs.size+1) scope.names []).lookup x with
  | none=>rfl
  | some c=>
   have:=Sc.cell _ (mK _ _ (mem_of_lookup e)) rfl
   dsimp only at this
   rw[hx] at this
   cases this
 refine⟨⟨I.ok.mod,Sc.kind,I.ok.glob,I.ok.blt,Nat.le_refl _,λx y c e1 e2=> ?_,λx hx=> ?_,λx c h e=> ?_,I.ok.hd,I.ok.frames,.inl rfl,λb hb=>⟨?_,λx c e=> ?_⟩,I.bs,Nat.le_trans I.ok.bsz I.sz,λb o e hb=> ?_,λb hb hs=> ?_,I.stack,I.stkFree⟩,
  rfl,I.bare,Un.kept hk,⟨_,hns,λi x v e1 e2 e3=> ?_⟩,λx c e=> ?_,fresh,λx c e=> ?_,λp hp=>absurd (show p∈([]:List (Addr×Obj)) from hp) (by simp),I.hok.kept hk, ?_⟩
 ·rcases two x c e1 with⟨p1,p2⟩ | ⟨_,p1,p2⟩ <;> rcases two y c e2 with⟨q1,q2⟩ | ⟨_,q1,q2⟩
  ·exact name_of_addr hnew.apart p1 q1
  ·exact absurd p2 (Nat.not_lt.mpr (Nat.le_of_lt q2))
  ·exact absurd q2 (Nat.not_lt.mpr (Nat.le_of_lt p2))
  ·exact I.ok.inj x y c p1 q1
 ·have hx':(relabel scope X.env).names.lookup x=some .cell\/(relabel scope X.env).names.lookup x=some .free:=hx
  have:(x,NameKind.free)∈scope.names\/scope.names.lookup x=some .cell:=by
   rcases hx' with q | q
   ·obtain⟨k',e1,e2⟩:=hE (scope:=scope) q
    rcases e2 with rfl | ⟨rfl,_⟩
    ·exact .inr e1
    ·exact .inl (lookup_mem e1)
   ·obtain⟨k',e1,e2⟩:=hE (scope:=scope) q
    rcases e2 with rfl | ⟨rfl,z⟩
    ·exact .inl (lookup_mem e1)
    ·cases z
  rcases this with q | q
  ·show ∃c,(cellsFrom (s.heap.objs.size+1) scope.names (dZ X.env scope.names [])).lookup x=some c
   rw[fq]
   exact yL (mX scope.names [] x q)
  ·exact Option.isSome_iff_exists.mp (PySem.W.cellsFrom_some scope.names _ _ (.inl q))
 ·have h':scope.names.lookup x=some .cell:=by
   have:(scope.names.lookup x == some NameKind.cell)=true:=h
   simpa using this
  rcases two x c e with⟨_,p⟩ | ⟨p,_⟩
  ·exact Nat.le_of_lt p
  ·have:=PySem.W.cellsFrom_some scope.names (s.heap.objs.size+1) [] (.inl h')
   rw[p] at this
   cases this
 ·obtain⟨o,ho⟩:=hob b hb
  exact Nat.ne_of_lt (Heap.lt_size ho)
 ·rcases two x c e with⟨_,p⟩ | ⟨_,p,_⟩
  ·obtain⟨o,ho⟩:=hob b hb
   exact λz=>absurd (Heap.lt_size ho) (Nat.not_lt.mpr (Nat.le_of_lt (z▸p)))
  ·exact(hfp b hb).2.2.2.2.1 x c p
 ·rcases(hfp b hb).2.2.2.1 with z | z
  ·exact I.ok.noex b o e z
  ·exact absurd (Nat.lt_of_lt_of_le (Heap.lt_size e) (Nat.le_trans I.ok.bsz z)) (Nat.lt_irrefl _)
 ·rcases List.mem_cons.mp (I.stkSub b hs) with z | z
  ·exact(hfp b hb).2.1 z
  ·exact(hfp b hb).2.2.1 z
 ·have e1':(own++cap)[i]? =some x:=e1
  have hi:own.length<=i:=by
   by_cases q:i<own.length
   ·unfold mR at e2
    rw[List.getElem?_append_left (by simpa using q),List.getElem?_replicate] at e2
    split at e2 <;> cases e2
   ·omega
  rw[List.getElem?_append_right hi] at e1'
  obtain⟨j,hj,hN,hkd,hfr⟩:=Sc.caps.get e1'
  unfold mR at e2
  rw[List.getElem?_append_right (by simpa using hi)] at e2
  simp only[List.length_replicate,List.getElem?_map,hj,Option.map_some,Option.some.injEq] at e2
  have e2':σ[j]? =some (some v):=by
   cases q:σ[j]? with
   | none=>rw[q] at e2;simp at e2
   | some ov=>rw[q] at e2;simp at e2;rw[e2]
  obtain⟨m,hm,hl⟩:=I.loc
  obtain⟨u,ru,lk⟩:=hl j x v hN e2' (hkd.elim (λz=>.inr (.inl z)) λz=>.inr (.inr z))
  refine⟨u,ru,.inr ⟨?_, ?_⟩⟩
  ·rcases e3 with q | q | q
   ·obtain⟨k',w1,w2⟩:=hE (scope:=scope) (show (relabel scope X.env).names.lookup x=some .local from q)
    rw[hfr] at w1
    cases w1
    rcases w2 with w | ⟨_,w⟩ <;> cases w
   ·exact .inl q
   ·exact .inr q
  ·rcases lk with⟨z,_⟩ | ⟨_,c,ec,hc⟩
   ·have z':X.env.scope.names.lookup x=some .local:=z
    rcases hkd with q | q <;> (rw[q] at z';cases z')
   ·obtain⟨c',hc'⟩:=mX (env:=X.env) scope.names [] x (lookup_mem hfr)
    have:=sub x c' hc'
    rw[ec] at this
    cases this
    obtain⟨oc,h1',h2'⟩:=hc
    refine⟨c, ?_,oc,hk _ _ h1',h2'⟩
    show (cellsFrom (s.heap.objs.size+1) scope.names (dZ X.env scope.names [])).lookup x=some c
    rw[fq,qZ (notOwn x hfr)]
    exact hc'
 ·rcases two x c e with⟨p,_⟩ | ⟨_,p,_⟩
  ·exact⟨none,(hnew.empty x c p).1⟩
  ·obtain⟨v,oc,h1',h2'⟩:=I.cell x c p
   exact⟨v,oc,hk _ _ h1',h2'⟩
 ·rcases two x c e with⟨_,p⟩ | ⟨_,p,_⟩
  ·exact I.hok.fresh (Nat.le_of_lt p)
  ·exact I.freeC x c p
 ·unfold mR
  have:=Sc.caps.length
  simp[cxC,this]
theorem DX {prog:Program} {w:World} {A:Around} {R:Result->Shared->Prop} {s:Shared} {elt target iter:Expr} {ifs:List Expr} {scope:Scope} {pos:Pos} {it acc:Value} {env:Env} (I:Nat->Shared->Prop)
 (turn:∀n s,I n s->wpAny (model prog w) A (pyNext it) (λr s₁=>match r with
  | none=>R (.ok .next) s₁
  | some v=>wpAny (model prog w) A (letOwnedTupleGo target it v) (λ_ s₁'=>wpAny (model prog w) A (assign target env v) (λ_ s₂=>
   wpAny (model prog w) A (forIn ifs true λc r=>if r=true then do let ok <- isTrue c env (eval c env);pure (ForInStep.yield ok) else pure (ForInStep.yield r)) (λok s₃=>
    if ok=true then wpAny (model prog w) A (eval elt env) (λx s₄=>
     wpAny (model prog w) A (call (.builtin "list.append") [acc,x]) (λ_ s₅=>∃m,m<n/\I m s₅) (λ_ _=>False) s₄) (λ_ _=>False) s₃
    else ∃m,m<n/\I m s₃) (λ_ _=>False) s₂) (λ_ _=>False) s₁') (λ_ _=>False) s₁) (λ_ _=>False) s)
 (n:Nat) (h:I n s):
 codeAny (model prog w) A (.compLoop (.ListComp elt [⟨target,iter,ifs,0⟩] scope pos) 0 it acc env) R s:=by
 refine codeAny_loop rfl I (λn s hI=> ?_) n h
 show wpAny _ A ((compTurn (.ListComp elt [⟨target,iter,ifs,0⟩] scope pos) 0 it acc env).onRaise (λx=>do noteFrame x env;theTreesLotGoes x)) _ _ s
 refine wpAny_noted ?_
 rw[compTurn_list]
 refine wpAny_bind (wpAny_standAt (wpAny_bind (wpAny_mono (turn n s hI) (λr s₁ h₁=> ?_) λ_ _ h'=>h'.elim)))
 cases r with
 | none=>exact wpAny_pure h₁
 | some v=>
  refine wpAny_bind (wpAny_mono h₁ (λ_ s₁' h₁'=>wpAny_bind (wpAny_mono h₁' (λ_ s₂ h₂=>wpAny_bind (wpAny_mono h₂ (λok s₃ h₃=> ?_) λ_ _ h'=>h'.elim)) λ_ _ h'=>h'.elim)) λ_ _ h'=>h'.elim)
  cases ok with
  | false=>exact wpAny_pure ⟨rfl,h₃⟩
  | true=>
   exact wpAny_bind (wpAny_bind (wpAny_mono h₃ (λx s₄ h₄=>wpAny_bind (wpAny_mono h₄ (λ_ s₅ h₅=>wpAny_pure (wpAny_pure ⟨rfl,h₅⟩)) λ_ _ h'=>h'.elim)) λ_ _ h'=>h'.elim))
def PTs(X:Cx)(ifs:List Expr)(t:TT):Prop:=
 ∀(pins:List (Addr×Obj)) (s:Shared) (σ:St) (H:Hp) (Q:Bool->Hp->Prop),Inv X pins σ H s->t σ H Q->
  wpAny (model X.prog X.w) X.A (forIn ifs true λc r=>if r=true then do let ok <- isTrue c X.env (eval c X.env);pure (ForInStep.yield ok) else pure (ForInStep.yield r)) (TP X pins σ Q) X.xe s
def GD:TT:=λ_ H Q=>Q true H
theorem cK:PTs X [] GD:=λ_ _ _ H _ I h=>wpAny_tests_nil ⟨H,I,h⟩
theorem vi{c:Expr}{t:TT}(h:PT X c t):PTs X [c] t:=λpins s σ H Q I q=>wpAny_tests_one (h pins s σ H Q I q)
def qh(m:Nat)(caps:List Nat)(wi:TI)(g:TG)(tc:TT)(te:TE):TE:=λσ H Q=>wi σ H λJ H1=>∀p,H1 p=none->
 ∃W:Nat->Nat->List V->St->Hp->Prop,(∃k,W 0 k [] (mR m caps σ) (upd H1 p (.lst [])))/\∀i k acc σ' H',W i k acc σ' H'->
  (J.stop i H'/\H' p=some (.lst acc)/\Q (.ref p) H')\/(J.go i H'/\∀x H2,J.yld i H' x H2->g x σ' H2 λσ2 H3=>tc σ2 H3 λb H4=>if b=true then
   te σ2 H4 λy H5=>H5 p=some (.lst acc)/\acc.length<sizeLine/\∃k',k'<k/\W (i+1) k' (acc++[y]) σ2 (upd H5 p (.lst (acc++[y])))
   else ∃k',k'<k/\W (i+1) k' acc σ2 H4)
theorem EE{scope:Scope}{N':List Str}{fp:List Addr}{pins pins':List (Addr×Obj)}{σ σ':St}{H3 H':Hp}{s3 s':Shared}(I3:Inv X pins σ H3 s3)(I':Inv (cxC X scope N' fp s3 H3) pins' σ' H' s')(hfp:∀b∈fp,lO X pins H3 b):Inv X pins σ H' s':=
 I3.call' (ch:=fp) I'.os I'.base I'.hok I'.bare λb hb=>⟨(hfp b hb).2.2.2.1,(hfp b hb).2.1,(hfp b hb).2.2.2.2.1,(hfp b hb).2.2.2.2.2⟩
theorem uM {target iter elt:Expr} {ifs:List Expr} {scope:Scope} {pos:Pos} {own cap:List Str} {caps:List Nat} {g:TG} {tc:TT} {te:TE} {pins:List (Addr×Obj)} {σ:St} {H2:Hp} {s₂:Shared} {it:Addr} {fp:List Addr} {tn:Nat->Heap->Prop} {J:It} {E:Value->Shared->Prop}
 {RR:Value->Addr->Result->Shared->Prop} {Q:VK}
 (hc:X.calm=true) (Sc:nB X scope own cap caps)
 (hg:∀s H,PG (cxC X scope (own++cap) fp s H) target g) (ht:∀s H,PTs (cxC X scope (own++cap) fp s H) ifs tc) (he:∀s H,PE (cxC X scope (own++cap) fp s H) elt te)
 (I:Inv X pins σ H2 s₂) (T:Turn X.prog X.w X.K target J fp it tn) (t0:tn 0 s₂.heap) (hfp:∀b∈fp,lO X pins H2 b)
 (hQ:∀p,H2 p=none->∃W:Nat->Nat->List V->St->Hp->Prop,(∃k,W 0 k [] (mR own.length caps σ) (upd H2 p (.lst [])))/\∀i k acc σ' H',W i k acc σ' H'->
  (J.stop i H'/\H' p=some (.lst acc)/\Q (.ref p) H')\/(J.go i H'/\∀x H2,J.yld i H' x H2->g x σ' H2 λσ2 H3=>tc σ2 H3 λb H4=>if b=true then
   te σ2 H4 λy H5=>H5 p=some (.lst acc)/\acc.length<sizeLine/\∃k',k'<k/\W (i+1) k' (acc++[y]) σ2 (upd H5 p (.lst (acc++[y])))
   else ∃k',k'<k/\W (i+1) k' acc σ2 H4))
 (hRR:∀C p H' s' m,X.s₀.heap.objs.size<=C->C≠X.env.locals->(∀x c,X.env.cells.lookup x=some c->c≠C)->(∀q∈X.pn++pins,q.1≠C)->H' C=none->s'.heap.Ns C m->Inv X pins σ H' s'->Q (.ref p) H'->RR (.ref p) C (.ok .next) s'):
 wpAny (model X.prog X.w) X.A (newList []) (λacc s₃=>wpAny (model X.prog X.w) X.A (newFunctionEnv scope X.env.globals (dZ X.env scope.names []) [] X.env.qual none .none (some X.env)) (λcenv s₄=>
  codeAny (model X.prog X.w) X.A (.compStart (.ListComp elt [⟨target,iter,ifs,0⟩] scope pos) 0 (.ref it) acc {cenv with scope:=relabel scope X.env}) (RR acc cenv.locals) s₄) E s₃) E s₂:=by
 refine wpAny_newObj_type (Az ?_)
 dsimp only
 have hD0:H2 s₂.heap.objs.size=none:=I.hok.fresh (Nat.le_refl _)
 have I3:Inv X pins σ (upd H2 s₂.heap.objs.size (.lst [])) {s₂ with heap:=s₂.heap.push {cls:=.type "list",dict:=none,data:=.seq ([]:List Value).toArray}}:=I.lnew (t':=s₂.toks) .nil (Nat.zero_le _)
 obtain⟨W,⟨k0,w0⟩,turn⟩:=hQ s₂.heap.objs.size hD0
 have old:∀b o,s₂.heap.get? b=some o->(s₂.heap.push {cls:=.type "list",dict:=none,data:=.seq ([]:List Value).toArray}).get? b=some o:=λb o e=>Heap.get?_push_of_some _ e
 have hbD:∀b∈fp,b≠s₂.heap.objs.size:=λb hb=>by
  obtain⟨o,ho,_⟩:=T.obj 0 s₂.heap t0 b hb
  exact Nat.ne_of_lt (Heap.lt_size ho)
 have hfp3:∀b∈fp,lO X pins (upd H2 s₂.heap.objs.size (.lst [])) b:=λb hb=>⟨by rw[aP (hbD b hb)];exact(hfp b hb).1,(hfp b hb).2⟩
 have hob:∀b∈fp,∃o,(s₂.heap.push {cls:=.type "list",dict:=none,data:=.seq ([]:List Value).toArray}).get? b=some o:=λb hb=>by
  obtain⟨o,ho,_⟩:=T.obj 0 s₂.heap t0 b hb
  exact⟨o,old b o ho⟩
 generalize hh₁:pushCells ((s₂.heap.push {cls:=.type "list",dict:=none,data:=.seq ([]:List Value).toArray}).push {cls:=.type "dict",data:=.dict #[]}) scope.names=h₁
 have hns₁:h₁.Ns (s₂.heap.push {cls:=.type "list",dict:=none,data:=.seq ([]:List Value).toArray}).objs.size λ_=>none:=by rw[<- hh₁];exact(Heap.Ns.new _ (.type "dict")).keeps (pushCells_keeps _ _)
 have hk:∀b o,(s₂.heap.push {cls:=.type "list",dict:=none,data:=.seq ([]:List Value).toArray}).get? b=some o->h₁.get? b=some o:=λb o e=>by rw[<- hh₁];exact pushCells_keeps _ _ b o (Heap.get?_push_of_some _ e)
 have hnew:CellsOk h₁ ((s₂.heap.push {cls:=.type "list",dict:=none,data:=.seq ([]:List Value).toArray}).objs.size+1) (cellsFrom ((s₂.heap.push {cls:=.type "list",dict:=none,data:=.seq ([]:List Value).toArray}).objs.size+1) scope.names []):=by rw[<- hh₁];exact DT _ _
 clear hh₁
 have st1:tn 0 h₁:=T.keep 0 _ _ t0 λb hb o e=>hk b o (old b o e)
 generalize hs3:({s₂ with heap:=s₂.heap.push {cls:=.type "list",dict:=none,data:=.seq ([]:List Value).toArray}}:Shared)=s3 at I3
 have hh3:s3.heap=s₂.heap.push {cls:=.type "list",dict:=none,data:=.seq ([]:List Value).toArray}:=by rw[<- hs3]
 rw[<- hh3] at hns₁ hob hk hnew ⊢
 generalize s₂.heap.objs.size=D at *
 generalize hH3:upd H2 D (.lst [])=H3 at *
 have loop:∀s₄:Shared,s₄={s3 with heap:=h₁}->
  codeAny (model X.prog X.w) X.A (.compLoop (.ListComp elt [⟨target,iter,ifs,0⟩] scope pos) 0 (.ref it) (.ref D) (compEnvC scope (cellsFrom (s3.heap.objs.size+1) scope.names (dZ X.env scope.names [])) s3.heap.objs.size X.env)) (RR (.ref D) s3.heap.objs.size) s₄:=by
  rintro s₄ rfl
  have I4:=EJ (tk:=s3.toks) Sc I3 hfp3 hob hns₁ hk hnew
  have stat:∀{H':Hp},(∀b∈fp,H' b=none)->∀b∈fp,lO (cxC X scope (own++cap) fp s3 H3) [] H' b:=λhn b hb=>by
   refine⟨hn b hb,(I4.ok.exf b hb).1,I4.ok.exfs b hb,.inl hb,(I4.ok.exf b hb).2,λp hp=>absurd (show p∈([]:List (Addr×Obj)) from hp) (by simp)⟩
  refine DX (λn s'=>∃i acc σ' H',Inv (cxC X scope (own++cap) fp s3 H3) [] σ' H' s'/\tn i s'.heap/\(∀b∈fp,H' b=none)/\W i n acc σ' H') ?_ k0 ⟨0,[],_,_,I4,st1,λb hb=>(hfp3 b hb).1,w0⟩
  rintro n s5 ⟨i,acc,σ5,H5,I5,st5,fr5,w5⟩
  rcases turn i n acc σ5 H5 w5 with⟨stop,hp,q⟩ | ⟨go,step⟩
  ·refine thn (T.done (cxC X scope (own++cap) fp s3 H3) rfl rfl rfl hc i [] s5 σ5 H5 _ I5 (stat fr5) st5 stop) λr s6 ⟨hr,I6⟩=> ?_
   subst hr
   obtain⟨m,hm,_⟩:=I6.loc
   refine hRR s3.heap.objs.size D H5 s6 m I3.sz (Nat.ne_of_gt I3.lt) (λx c e=> ?_) (λp hp=> ?_) I6.free hm (EE I3 I6 hfp3) q
   ·obtain⟨v,o,ho,_⟩:=I3.cell x c e
    exact Nat.ne_of_lt (Heap.lt_size ho)
   ·exact Nat.ne_of_lt (Heap.lt_size (I3.pin p hp).1)
  ·refine thn (T.item (cxC X scope (own++cap) fp s3 H3) rfl rfl rfl hc i [] s5 σ5 H5 _ I5 (stat fr5) st5 go) λr s6 ⟨u,hr,h6⟩=> ?_
   subst hr
   refine thn h6 λ_ s7 ⟨x,H7,I7,r7,y7,st7,fr7⟩=> ?_
   have I7':=I7.pinned (stat fr7) (T.obj _ _ st7)
   refine thn (hg s3 H3 _ s7 σ5 H7 x u _ I7' r7 (step x H7 y7)) λ_ s8 ⟨σ8,H8,I8,q8⟩=> ?_
   refine thn (ht s3 H3 _ s8 σ8 H8 _ I8 q8) λb s9 ⟨H9,I9,q9⟩=> ?_
   have again:∀{σz:St} {Hz:Hp} {sz:Shared},Inv (cxC X scope (own++cap) fp s3 H3) ([]++qY fp s7.heap) σz Hz sz->Inv (cxC X scope (own++cap) fp s3 H3) [] σz Hz sz/\tn (i+1) sz.heap/\∀b∈fp,Hz b=none:=λ{σz Hz sz} Iz=>by
    refine⟨Iz.unpinned,T.keep _ _ _ st7 λb hb o e=>(Iz.pin (b,o) (List.mem_append_right _ (List.mem_append_right _ (mN hb e)))).1,λb hb=> ?_⟩
    obtain⟨o,e,d⟩:=T.obj _ _ st7 b hb
    exact(Iz.pin (b,o) (List.mem_append_right _ (List.mem_append_right _ (mN hb e)))).2.1
   cases b with
   | false=>
    rw[if_neg Bool.false_ne_true] at q9 ⊢
    obtain⟨k',hk',w'⟩:=q9
    obtain⟨a1,a2,a3⟩:=again I9
    exact⟨k',hk',i+1,acc,σ8,H9,a1,a2,a3,w'⟩
   | true=>
    rw[if_pos rfl] at q9 ⊢
    refine thn (he s3 H3 _ s9 σ8 H9 _ I9 q9) λyv s10 ⟨y,H10,I10,r10,hp,hl,k',hk',w'⟩=> ?_
    refine thn (eT _ s10 σ8 H10 (.ref D) [y] (.ref D) [yv] (λv Hz=>Hz=upd H10 D (.lst (acc++[y]))) I10 rfl (.cons r10 .nil) ⟨D,acc,y,rfl,rfl,hp,hl,rfl⟩) λ_ s11 ⟨_,H11,I11,_,e11⟩=> ?_
    subst e11
    obtain⟨a1,a2,a3⟩:=again I11
    exact⟨k',hk',i+1,acc++[y],σ8,_,a1,a2,a3,w'⟩
 have fin:=loop _ rfl
 subst hs3
 exact codeAny_compStart_list fin (T.self _ _ _ _ _ st1 fin)
theorem PTs.ok{X:Cx}{scope:Scope}{own cap:List Str}{caps:List Nat}{pins:List (Addr×Obj)}{σ:St}{H:Hp}{s:Shared}(I:Inv X pins σ H s)(Sc:nB X scope own cap caps):closureFor scope X.env=pure (dZ X.env scope.names []):=
 xf λn hn=>I.ok.has n (Sc.out hn)
theorem df {target iter elt:Expr} {ifs:List Expr} {scope:Scope} {pos:Pos} {own cap:List Str} {caps:List Nat} {wi:TI} {g:TG} {tc:TT} {te:TE} (hc:X.calm=true) (Sc:nB X scope own cap caps) (hi:PI X target iter wi)
 (hg:∀fp s H,PG (cxC X scope (own++cap) fp s H) target g) (ht:∀fp s H,PTs (cxC X scope (own++cap) fp s H) ifs tc) (he:∀fp s H,PE (cxC X scope (own++cap) fp s H) elt te)
 (hs:∀x,foldedSetIterable iter X.env x=pure x:=by intro _;rfl):PE X (.ListComp elt [⟨target,iter,ifs,0⟩] scope pos) (qh own.length caps wi g tc te):=by
 intro pins s σ H Q I h
 rw[eval_ListComp]
 refine wpAny_comprehension_free (use:=none) rfl hs (PTs.ok I Sc) Sc.kind Sc.nm (thn (hi pins s σ H _ I h) λv s1 h1=>thn h1 λitv s2 h2=> ?_)
 obtain⟨it,fp,tn,J,H2,e,I2,T,st2,f2,q⟩:=h2
 subst e
 refine uM (Q:=Q) (RR:=λacc C=>compPost (model X.prog X.w) X.A X.xe none (EP X pins σ Q) acc C) hc Sc (hg fp) (ht fp) (he fp) I2 T st2 f2 q ?_
 intro C p H' s' m h1 h2 h3 h4 h5 hn I' q'
 exact⟨m,hn,λh' hs'=>⟨.ref p,H',I'.turned (it:=C) (t':=s'.toks) (λb o hb e=>hs'.extBut b o hb e) h5 (Ne.symm h2.symm) (.inr h1) h3 h4,rfl,q'⟩⟩
theorem iu {target iter elt:Expr} {ifs:List Expr} {scope:Scope} {pos spos py:Pos} {own cap:List Str} {caps:List Nat} {wi:TI} {g:TG} {tc:TT} {te:TE} {i:Nat} {y:Str} (hc:X.calm=true) (Sc:nB X scope own cap caps) (hi:PI X target iter wi)
 (hg:∀fp s H,PG (cxC X scope (own++cap) fp s H) target g) (ht:∀fp s H,PTs (cxC X scope (own++cap) fp s H) ifs tc) (he:∀fp s H,PE (cxC X scope (own++cap) fp s H) elt te)
 (hN:X.N.Nodup) (hx:X.N[i]? =some y) (hl:Loc X.env.scope y)
 (hsw:swapsWith (.ListComp elt [⟨target,iter,ifs,0⟩] scope pos) (some (.Name y py)) spos.line X.env=pure true)
 (hs:∀x,foldedSetIterable iter X.env x=pure x:=by intro _;rfl) (hf:X.fn y=true\/X.env.scope.names.lookup y=some .local:=by first | exact .inl rfl | exact .inr rfl | assumption):
 PS X (.Assign [.Name y py] (.ListComp elt [⟨target,iter,ifs,0⟩] scope pos) spos) (xR (qh own.length caps wi g tc te) (rV i)):=by
 intro pins s σ H D I h
 rw[exec_Assign_Name_used _ _ _ _ hsw]
 refine wpAny_bind (wpAny_standAt (wpAny_bind ?_))
 show wpAny _ _ (do let _ <- comprehension (.ListComp elt [⟨target,iter,ifs,0⟩] scope pos) scope X.env _ (newList []) false (eval iter X.env) (some (assign (.Name y py) X.env))) _ _ s
 refine wpAny_bind (wpAny_mono (wpAny_comprehension_free (use:=some (assign (.Name y py) X.env)) (Q:=λ_ s'=>SP X pins D .next s') rfl hs (PTs.ok I Sc) Sc.kind Sc.nm
  (thn (hi pins s σ H _ I h) λv s1 h1=>thn h1 λitv s2 h2=> ?_)) (λ_ s' hq=>wpAny_pure (wpAny_pure hq)) λ_ _ e=>e)
 obtain⟨it,fp,tn,J,H2,e,I2,T,st2,f2,q⟩:=h2
 subst e
 refine uM (Q:=λv H'=>rV i v σ H' D.nx) (RR:=λacc C=>compPost (model X.prog X.w) X.A X.xe (some (assign (.Name y py) X.env)) (λ_ s'=>SP X pins D .next s') acc C) hc Sc (hg fp) (ht fp) (he fp) I2 T st2 f2 q ?_
 intro C p H' s' m h1 h2 h3 h4 h5 hn I' q'
 show wpAny _ _ (assign (.Name y py) X.env (.ref p)) _ _ _
 refine wpAny_assign_Name (wy I' hN hx hl (show RelV (.ref p) (.ref p) from rfl) (λs'' I'' ⟨a,hsb,ha⟩=> ?_) hf)
 have haC:C≠a:=by
  rcases ha with rfl | ha
  ·exact h2
  ·exact(h3 _ _ ha).symm
 exact⟨m,hn.sameBut hsb haC,λh' hs'=>⟨_,H',I''.turned (it:=C) (t':=s''.toks) (λb o hb e=>hs'.extBut b o hb e) h5 h2 (.inr h1) h3 h4,q'⟩⟩
end
end L2
set_option maxRecDepth 100000
set_option maxHeartbeats 4000000
namespace L2
open PySem PySem.Spec PyProof.Rows
section
variable {X : Cx}
def Gy(K:PySem.W.Frag):R2:=λx y H Q=>∃l b xs zs,x=.ref l/\y=.ref b/\SqL K H l xs/\SqL K H b zs/\xs.length+zs.length<=sizeLine/\∀p,H p=none->Q (.ref p) (upd H p (.lst (xs++zs)))
theorem HF:OpR X (binaryOp .Add) (Gy X.K):=by
 intro pins s σ H x y v u Q I rx ry h
 obtain⟨l,b,xs,zs,rfl,rfl,hH,hB,hz,q⟩:=h
 cases rx
 cases ry
 obtain⟨its,r,pl,_⟩:=I.list hH
 obtain⟨its2,r2,pl2,_⟩:=I.list hB
 obtain⟨⟨cls,dd,data,sl⟩,ho,hc,n,hd⟩:=pl.isList
 obtain⟨⟨cls2,dd2,data2,sl2⟩,ho2,hc2,n2,hd2⟩:=pl2.isList
 simp only at hc hd hc2 hd2
 subst hc hd hc2 hd2
 have e:its.toArray++its2.toArray=(its++its2).toArray:=by simp
 have hl1:=r.length
 have hl2:=r2.length
 refine concat_meets ⟨_,ho,rfl⟩ ⟨_,ho2,rfl⟩ noFill_list_add seq_list_add PySem.F.slot_list_add PySem.F.entry_list_add (PySem.F.args_list_add_2 _ _) (list_addW l b its.toArray its2.toArray n n2 dd dd2 sl sl2 (by simp only[List.size_toArray];omega)) ⟨ho,ho2, ?_⟩
 rw[e]
 exact⟨.ref _,_,I.lnew (t':=s.toks) (r.append r2) (by rw[List.length_append];omega),rfl,q _ I.fresh⟩
mutual
def RdV(K:PySem.W.Frag)(H:Hp):PyData->V->Prop
 | .none,v=>v=.non
 | .bool b,v=>v=.bl b
 | .int i,v=>v=.int i
 | .str x,v=>v=.str x
 | .list ds,v=>∃a xs,v=.ref a/\SqL K H a xs/\pG K H ds xs
 | .tuple ds,v=>∃a xs,v=.ref a/\SqT K H a xs/\pG K H ds xs
 | .dict _,_=>False
def pG(K:PySem.W.Frag)(H:Hp):List PyData->List V->Prop
 | [],xs=>xs=[]
 | d::ds,xs=>∃v r,xs=v::r/\RdV K H d v/\pG K H ds r
end
mutual
theorem mE{pins:List (Addr×Obj)}{σ:St}{H:Hp}{s:Shared}(I:Inv X pins σ H s):∀{d:PyData} {v:V} {u:Value},RdV X.K H d v->RelV v u->∃as,Reads s.heap u d as
 | .none,v,u,h,r=>by
  unfold RdV at h;subst h
  cases (show u=Value.none from r);exact⟨_,.none⟩
 | .bool b,v,u,h,r=>by
  unfold RdV at h;subst h
  cases (show u=Value.bool b from r);exact⟨_,.bool b⟩
 | .int i,v,u,h,r=>by
  unfold RdV at h;subst h
  obtain⟨t,rfl⟩:=(show ∃t,u=Value.int i t from r);exact⟨_,.int i t⟩
 | .str x,v,u,h,r=>by
  unfold RdV at h;subst h
  obtain⟨t,rfl⟩:=(show ∃t,u=Value.str x t from r);exact⟨_,.str x t⟩
 | .list ds,v,u,h,r=>by
  unfold RdV at h
  obtain⟨a,xs,rfl,hs,hr⟩:=h
  cases (show u=Value.ref a from r)
  obtain⟨its,rv,pl,_⟩:=I.list hs
  obtain⟨o,ho,hc,n,hd⟩:=pl.isList
  obtain⟨as,ra⟩:=p9 I hr rv
  exact⟨_,.list ho hc hd (by simpa using ra)⟩
 | .tuple ds,v,u,h,r=>by
  unfold RdV at h
  obtain⟨a,xs,rfl,hs,hr⟩:=h
  cases (show u=Value.ref a from r)
  obtain⟨its,rv,⟨o,ho,hc,n,hd⟩,_⟩:=I.tuple hs
  obtain⟨as,ra⟩:=p9 I hr rv
  exact⟨_,.tuple ho hc hd (by simpa using ra)⟩
 | .dict _,v,u,h,r=>by unfold RdV at h;exact h.elim
theorem p9{pins:List (Addr×Obj)}{σ:St}{H:Hp}{s:Shared}(I:Inv X pins σ H s):∀{ds:List PyData} {xs:List V} {us:List Value},pG X.K H ds xs->Vals xs us->∃as,ReadsAll s.heap us ds as
 | [],xs,us,h,r=>by
  unfold pG at h;subst h
  cases r;exact⟨_,.nil⟩
 | d::ds,xs,us,h,r=>by
  unfold pG at h
  obtain⟨v,w,rfl,h1,h2⟩:=h
  cases r with
  | cons r1 r2=>
   obtain⟨as,a1⟩:=mE I h1 r1
   obtain⟨bs,a2⟩:=p9 I h2 r2
   exact⟨_,.cons a1 a2⟩
end
def JR(K:PySem.W.Frag):R2:=λx y H Q=>∃d e,RdV K H d x/\RdV K H e y/\SeqAt.shaped d=true/\SeqAt.shaped e=true/\Q (.bl (PyData.eqv d e)) H
def JF(K:PySem.W.Frag):R2:=λx y H Q=>∃d e,RdV K H d x/\RdV K H e y/\SeqAt.shaped d=true/\SeqAt.shaped e=true/\Q (.bl (!PyData.eqv d e)) H
theorem J8(hu:X.A.units+64<cLine):OpR X (compareOp .Eq) (JR X.K):=by
 intro pins s σ H x y v u Q I rx ry h
 obtain⟨d,e,h1,h2,s1,s2,q⟩:=h
 obtain⟨as,ra⟩:=mE I h1 rx
 obtain⟨bs,rb⟩:=mE I h2 ry
 exact SeqAt.compareEq_shaped ra rb s1 s2 hu ⟨.bl _,H,I,rfl,q⟩
theorem J3(hu:X.A.units+64<cLine):OpR X (compareOp .NotEq) (JF X.K):=by
 intro pins s σ H x y v u Q I rx ry h
 obtain⟨d,e,h1,h2,s1,s2,q⟩:=h
 obtain⟨as,ra⟩:=mE I h1 rx
 obtain⟨bs,rb⟩:=mE I h2 ry
 exact SeqAt.compareNe_shaped ra rb s1 s2 hu ⟨.bl _,H,I,rfl,q⟩
def KW(K:PySem.W.Frag)(H:Hp)(x:V)(T:String):Prop:=match x with
 | .non=>T="NoneType"
 | .bl _=>T="bool"
 | .int _=>T="int"
 | .str _=>T="str"
 | .ref a=>(T="list" /\∃xs,SqL K H a xs)\/(T="tuple" /\∃xs,SqT K H a xs)
 | _=>False
def Fc(K:PySem.W.Frag):List V->Hp->VK->Prop:=λxs H Q=>∃x c T b,xs=[x,.ty c]/\KW K H x T/\PySem.W.kitOne K (.type T) (.type c)=some b/\Q (.bl b) H
theorem lE:i7 X (.builtin "isinstance") (Fc X.K):=by
 intro pins s σ H xs us Q I r h
 obtain⟨x,c,T,b,rfl,hT,hk,q⟩:=h
 obtain⟨u,w,rfl,r1,r2⟩:=vals2 r
 cases (show w=Value.type c from r2)
 have fin:∀tk,EP X pins σ Q (.bool b) {s with toks:=tk}:=λtk=>⟨.bl b,H,I.tok tk,rfl,q⟩
 cases x with
 | non=>cases (show u=Value.none from r1);cases (show T="NoneType" from hT);exact PySem.W.kia_one PySem.W.kitx_none I.kIn True.intro hk (λz=>nomatch z) fin
 | bl y=>cases (show u=Value.bool y from r1);cases (show T="bool" from hT);exact PySem.W.kia_one PySem.W.kitx_bool I.kIn True.intro hk (λz=>nomatch z) fin
 | int i=>obtain⟨t,e⟩:=(show ∃t,u=Value.int i t from r1);cases e;cases (show T="int" from hT);exact PySem.W.kia_one PySem.W.kitx_int I.kIn True.intro hk (λz=>nomatch z) fin
 | str y=>obtain⟨t,e⟩:=(show ∃t,u=Value.str y t from r1);cases e;cases (show T="str" from hT);exact PySem.W.kia_one PySem.W.kitx_str I.kIn True.intro hk (λz=>nomatch z) fin
 | ref a=>
  cases (show u=Value.ref a from r1)
  rcases hT with⟨rfl,xs,hs⟩ | ⟨rfl,xs,hs⟩
  ·obtain⟨its,rv,⟨o,n,ho,hc,_⟩,_⟩:=I.list hs
   exact PySem.W.kia_one PySem.W.kitx_list I.kIn ⟨o,ho,hc⟩ hk (λz=>nomatch z) fin
  ·obtain⟨its,rv,⟨o,ho,hc,_⟩,_⟩:=I.tuple hs
   exact PySem.W.kia_one PySem.W.kitx_tuple I.kIn ⟨o,ho,hc⟩ hk (λz=>nomatch z) fin
 | byt y=>exact False.elim hT
 | flt y=>exact False.elim hT
 | ty y=>exact False.elim hT
end
end L2
set_option maxRecDepth 100000
set_option maxHeartbeats 4000000
namespace L2
open PySem PySem.Spec PyProof.Rows
structure MT(S:List Addr)(e:Addr)(oe:Obj)(h h':Heap)(T:Addr):Prop where
 keep:∀b o,h.get? b=some o->b∉S->b≠e->h'.get? b=some o
 slot:∀b o,h.get? b=some o->b∈S->∃sl,h'.get? b=some {o with slots:=sl}
 new:h.objs.size<=T
 ne:T≠e
 exc:∃oe' vs,h'.get? e=some oe'/\oe'.cls=oe.cls/\oe'.dict=oe.dict/\oe'.data=.fields vs/\vs[1]? =some (.ref T)
 trc:∃oT ts,h'.get? T=some oT/\oT.data=.fields ts/\ts[3]? =some .none
section
variable {M : Model} {A : Around} {E : Value → Shared → Prop} {s : Shared}
structure Trc(h:Heap)(e:Addr)(oe:Obj)(T:Addr):Prop where
 exc:h.get? e=some oe
 dat:∃vs,oe.data=.fields vs/\vs[1]? =some (.ref T)
 ne:T≠e
 trc:∃oT ts,h.get? T=some oT/\oT.data=.fields ts/\ts[3]? =some .none
end
end L2
set_option maxRecDepth 100000
set_option maxHeartbeats 4000000
namespace L2
open PySem PySem.Spec PyProof.Rows
theorem fW.there{P:Program}{w:World}{H:Hp}{h:Heap}{a:Addr}{o:HO}(x:fW P w H h a o):∃u,h.get? a=some u:=by
 cases o with
 | lst xs=>exact let ⟨_,_,_,_,e⟩:=x;⟨_,e⟩
 | tup xs=>exact let ⟨_,_,_,ob,e,_⟩:=x;⟨_,e⟩
 | dK kvs=>exact let ⟨_,_,_,_,ob,_,_,e,_⟩:=x;⟨_,e⟩
 | dT kvs=>exact let ⟨_,_,_,_,ob,_,_,e,_⟩:=x;⟨_,e⟩
 | set S n=>exact let ⟨ob,_,_,_,e,_⟩:=x;⟨_,e⟩
 | ins C dx fs=>exact let ⟨_,_,_,e,_⟩:=x;⟨_,e⟩
 | own y=>exact x
 | xd fs=>exact let ⟨_,⟨_,_,_,e,_⟩,_⟩:=x;⟨_,e⟩
 | rng lo hi=>exact let ⟨_,_,_,e⟩:=x;⟨_,e⟩
 | frz ob u=>exact let ⟨e,_⟩:=x;⟨_,e⟩
 | tbl ps=>exact⟨_,x⟩
 | met f y=>exact⟨_,x⟩
 | ext φ=>exact x.2.1
theorem HOk.free{P:Program}{w:World}{H:Hp}{h:Heap}{a:Addr}(x:HOk P w H h)(n:h.get? a=none):H a=none:=by
 cases e:H a with
 | none=>rfl
 | some o=>
  obtain⟨u,hu⟩:=(x a o e).there
  rw[n] at hu;cases hu
structure KN(P:Program)(w:World)(fs:List Addr)(H:Hp)(h:Heap)(x:Addr)(H':Hp)(h':Heap)(oe:Obj)(T C:Addr):Prop where
 un:Un fs [] H H' h h'
 hok:HOk P w H' h'
 nx:h.get? x=none
 nT:h.get? T=none
 hx:H' x=none
 hT:H' T=none
 tr:Trc h' x oe T
 cls:oe.cls=.ref C
def CXE(P:Program)(w:World):CXT:=λouter H s E e s'=>∃x oe T H' C,e=.ref x/\s'.os=s.os/\AllBare s'.gens/\KN P w (frs outer) H s.heap x H' s'.heap oe T C/\E (.ref C) oe.dict H'
section
variable {X : Cx} {pins : List (Addr × Obj)} {σ : St} {H : Hp} {s : Shared}
theorem Inv.old(I:Inv X pins σ H s)(hex:X.ex=[]){a:Addr}(n:s.heap.get? a=none):X.s₀.heap.get? a=none:=by
 cases e:X.s₀.heap.get? a with
 | none=>rfl
 | some o=>
  obtain⟨o',q⟩:=I.base.there a o e (by rw[hex];simp)
  rw[n] at q;cases q
end
section
variable {P : Program} {w : World} {K : PySem.W.Frag} {mg : Str → Option Value} {base : Heap} {N : List Str} {qual : Str} {scope : Scope} {f : Addr} {cd : Value} {A : Around} {outer : List Env} {s0 : Shared} {H0 : Hp} {E : XK}
end
end L2
set_option maxRecDepth 100000
set_option maxHeartbeats 4000000
namespace L2
open PySem PySem.Spec PyProof.Rows
section
variable {X : Cx} {E : XK} {c : Str} {C : Addr} {np cpos pos : Pos} {e : Expr} {es : List Expr} {t : TA} {B newId initId : String} {bmB : List Value}
end
section
variable {P : Program} {w : World} {K : PySem.W.Frag} {mg : Str → Option Value} {base : Heap}
theorem Fun.okE {CX:CXT} {x qual:Str} {st:Stmt} {f:Addr} {fd:FuncData} {N ps:List Str} {k:Nat} {sp:Sp} (F:Fun K x qual st f fd) (S:bf N ps (ay st)) (len:∀vs H Q E,sp vs H Q E->vs.length=ps.length)
 (hb:∀(cdv:Value) (A:Around) (outer:List Env) (s:Shared) (H:Hp) (vs:List V) (Q:VK) (E:XK),dY k (A.deeper (envOfC qual (ay st) s.heap.objs.size f cdv))->sp vs H Q E->
  ∃t,PSs (rk CX P w K mg base N qual (ay st) f cdv A outer s H E) (aY st) t/\t {nx:=λ_ H'=>Q .non H',rt:=Q} (start N vs) H):fM P w K mg base CX (k+1) f fd ps sp:=by
 obtain⟨oc,od,kV,doc,pm,an,cdv,ct,osl,rfl,look,hcd⟩:=F.ex
 exact GO look hcd S len (hb cdv)
end
theorem FL {l:PySem.W.OpenLaw} {n k:Nat} {q:Program} {loose:List Str} {XP:(Str->Option Value)->Heap->Prop} {YP:World->Heap->Prop} {d:DefRec} {K:Params->PySem.W.Frag} {sp:PySem.W.Frag->Sp} {x:Str} (hn:l.most=some n) (hn2:n<=sizeLine)
 (hdf:d.params.defaults=[]) (hr:dY k callerA) (hi:importsNone q=true) (hY:∀(w:World) (h:Heap),YP w h->(K w.params).In h) (F:∀(w:World) (mg:Str->Option Value) (fa:Addr) (h:Heap),(K w.params).In h->h.Ns mainGlobals mg->mg d.name=some (.ref fa)->
  ∃fd:FuncData,(∀(s:Shared) (u:Value),BindsTo s fd ⟨[u],[]⟩ [(x,u)])/\∀base:Heap,(K w.params).In base->base.Ns mainGlobals mg->fM l.prog w (K w.params) mg base (CXE l.prog w) k fa fd [x] (sp (K w.params)))
 (hsp:∀(K:PySem.W.Frag) (H:Hp) (a:Addr) (ns:List Int),ns.length<=n->BK H->SqL K H a (ns.map V.int)->sp K [.ref a] H (λv _=>v=.bl true) λ_ _ _=>False):PySem.W.WalkO q loose XP YP l.row.toRowW d [] (λf vs=>PySem.call f vs):=
 Ia (K:=K) (CX:=λw=>CXE l.prog w) (sp:=λw=>sp (K w.params)) hn hn2 hdf hr hi hY F (λw H a ns h1 h2 h3=>hsp (K w.params) H a ns h1 h2 h3) λ_ _ _ _ _ ⟨_,_,_,_,_,_,_,_,_,z⟩=>z
end L2
set_option maxRecDepth 100000
set_option maxHeartbeats 4000000
namespace L2
open PySem PySem.Spec PyProof.Rows
def Iy(CX:CXT)(X:Cx)(Es:St->XK):Prop:=∀(pins:List (Addr×Obj)) (σ:St) (H:Hp) (s:Shared) (e:Value) (s':Shared),Inv X pins σ H s->CX X.stack H s (Es σ) e s'->X.xe e s'
theorem Passes.s{CX:CXT}{X:Cx}{E:XK}(h:Passes CX X E):Iy CX X λ_=>E:=h
section
variable {X : Cx} {CX : CXT} {k : Nat} {f C : Addr} {fd : FuncData} {ps : List Str} {sp : Sp} {dvs : List V} {ds : List Value} {Es : St → XK} {x m : Str} {p pos apos : Pos} {e o : Expr} {es : List Expr} {ta : TE} {t : TA}
end
abbrev Cx.pinned(X:Cx)(p:List (Addr×Obj))(E:Value->Shared->Prop):Cx:={X with pn:=p,xe:=E}
theorem Cx.Ok.pinned{X:Cx}(ok:X.Ok)(p:List (Addr×Obj))(E:Value->Shared->Prop):(X.pinned p E).Ok:=⟨ok.mod,ok.kind,ok.glob,ok.blt,ok.above,ok.inj,ok.has,ok.cab,ok.hd,ok.frames,ok.stk,ok.exf,ok.bs,ok.bsz,ok.noex,ok.exfs,ok.funs,ok.frf⟩
theorem Cx.Ok.unpinned{X:Cx}{p:List (Addr×Obj)}{E:Value->Shared->Prop}(ok:(X.pinned p E).Ok):X.Ok:=⟨ok.mod,ok.kind,ok.glob,ok.blt,ok.above,ok.inj,ok.has,ok.cab,ok.hd,ok.frames,ok.stk,ok.exf,ok.bs,ok.bsz,ok.noex,ok.exfs,ok.funs,ok.frf⟩
section
variable {X : Cx} {pins : List (Addr × Obj)} {σ : St} {H : Hp} {s : Shared} {E : Value → Shared → Prop}
end
end L2
set_option maxRecDepth 100000
set_option maxHeartbeats 4000000
namespace L2
open PySem PySem.Spec PyProof.Rows
def exO(a C:Addr):HO:=.ext λh=>∃o,h.get? a=some o/\o.cls=.ref C/\o.dict=none/\(∀cd,o.data≠ .cls cd)
section
variable {X : Cx} {pins : List (Addr × Obj)} {σ : St} {H : Hp} {s : Shared} {v : Value}
end
end L2
set_option maxRecDepth 100000
set_option maxHeartbeats 4000000
namespace L2
open PySem PySem.Spec PyProof.Rows
structure rj(X:Cx)(pins:List (Addr×Obj))(H:Hp)(s:Shared)(x C:Addr):Prop where
 tr:∃oe T,Trc s.heap x oe T/\oe.cls=.ref C/\oe.dict=none
 hx:H x=none
 h0:X.s₀.heap.get? x=none
 nl:x≠X.env.locals
 nc:∀y c,X.env.cells.lookup y=some c->c≠x
 np:∀p∈X.pn++pins,p.1≠x
theorem rj.kept{X:Cx}{pins:List (Addr×Obj)}{H:Hp}{s:Shared}{x C:Addr}{h':Heap}(c:rj X pins H s x C)(k:∀b u,s.heap.get? b=some u->h'.get? b=some u):rj X pins H {s with heap:=h'} x C:=
 let ⟨oe,T,⟨e,d,n,oT,ts,a1,a2⟩,hc⟩:=c.tr
 ⟨⟨oe,T,⟨k _ _ e,d,n,oT,ts,k _ _ a1,a2⟩,hc⟩,c.hx,c.h0,c.nl,c.nc,c.np⟩
theorem rj.obj{X:Cx}{pins:List (Addr×Obj)}{H:Hp}{s:Shared}{x C:Addr}(c:rj X pins H s x C):∃o,s.heap.get? x=some o/\o.cls=.ref C/\o.dict=none/\∀cd,o.data≠ .cls cd:=
 let ⟨oe,T,⟨e,⟨vs,d,_⟩,_,_⟩,hc,hd⟩:=c.tr
 ⟨oe,e,hc,hd,λcd z=>by rw[d] at z;cases z⟩
section
variable {X : Cx} {c : Str} {Dc : Addr} {np pos : Pos} {b0 : Stmt} {suite : List Stmt} {rest : List ExceptHandler} {sub : Addr → Option Bool} {tb : TS} {th : Addr → TS}
end
end L2
set_option maxRecDepth 100000
set_option maxHeartbeats 4000000
namespace L2
open PySem PySem.Spec PyProof.Rows PySem.W
structure ExK(K:PySem.W.Frag)(D:Addr):Prop where
 ga:findIn K (.ref D) "__getattribute__" =some (some (.builtin "BaseException.__getattribute__"))
 hk:findIn K (.ref D) "__getattr__" =some none
 cl:findIn K (.ref D) "__class__" =some (some (.builtin "object.__class__"))
 gt:specialIn K (.builtin "object.__class__") "__get__" =some (some (.builtin "getset_descriptor.__get__"))
 tk:takesIn K (.builtin "object.__class__")=some true
 ob:mroIn K D (.type "object")=some true
 be:mroIn K D (.type "BaseException")=some true
section
variable {prog : Program} {w : World} {A : Around} {E : Value → Shared → Prop} {s : Shared} {K : PySem.W.Frag} {x D : Addr} {ox : Obj}
theorem ExK.cls(k:ExK K D):(clsIn K D).isSome=true:=by
 obtain⟨cd,hc,_⟩:=Option.bind_eq_some_iff.mp k.ob
 rw[hc];rfl
end
end L2
set_option maxRecDepth 100000
set_option maxHeartbeats 4000000
namespace L2
open PySem PySem.Spec PyProof.Rows
section
variable {X : Cx} {pins : List (Addr × Obj)} {σ : List (Option V)} {H : Hp} {s : Shared} {h' : Heap}
theorem Inv.turnedL{t':Nat}{ch:List Addr}(I:Inv X pins σ H s)(k:∀b o,b∉ch->s.heap.get? b=some o->h'.get? b=some o)(hf:∀b∈ch,lO X pins H b):Inv X pins σ H {s with heap:=h',toks:=t'}:=by
 have nit:∀b u,H b=some u->b∉ch:=λb u e z=>by rw[(hf b z).1] at e;cases e
 refine I.step (g':=s.gens) (d':=s.drawn) (ch:=ch) (λb hb=> ?_) (λb o _ _ hc e _=>k b o hc e) (λb o _ _ hc e _=>⟨o.slots,k b o hc e⟩) (λ_ _ _ _ n=>n)
  (λb o hc e=>⟨o,k b o hc e⟩) (λ_ _ e=>e) (λ_ _ _ e=>e) (λb ps e=>⟨#[],by rw[e];simp⟩) (λm hm=> ?_) (λb u e=> ?_) I.bare
 ·obtain⟨f0,f1,f2,f3,f4,f5⟩:=hf b hb
  exact⟨f3,f1,f4,f5⟩
 ·obtain⟨o,es,ep,ho,r⟩:=hm
  exact⟨o,es,ep,k _ o (λz=>(hf _ z).2.1 rfl) ho,r⟩
 ·refine(I.hok b u e).stay (λc v hc q=>k c v ?_ q) (λ_ q=>q) λ_ _ q=>q
  rcases hc with z | z
  ·rw[z];exact nit b u e
  ·exact nit c _ z
theorem Inv.turnedT {t':Nat} {ch:List Addr} {T:Addr} {xs:List V} (I:Inv X pins σ H s) (k:∀b o,b∉ch->s.heap.get? b=some o->h'.get? b=some o) (hf:∀b∈ch,lO X pins H b) (hT:s.heap.objs.size<=T)
 (new:fW X.prog X.w (upd H T (.tup xs)) h' T (.tup xs)):Inv X pins σ (upd H T (.tup xs)) {s with heap:=h',toks:=t'}:=by
 have hn:H T=none:=I.hok.fresh hT
 have nit:∀b u,H b=some u->b∉ch:=λb u e z=>by rw[(hf b z).1] at e;cases e
 refine I.step (g':=s.gens) (d':=s.drawn) (ch:=ch) (λb hb=> ?_) (λb o _ _ hc e _=>k b o hc e) (λb o _ _ hc e _=>⟨o.slots,k b o hc e⟩) (λb o _ e n=> ?_)
  (λb o hc e=>⟨o,k b o hc e⟩) (λb xs e=>by rw[aP (eR e hn)];exact e) (λb o u e=>by rw[aP (eR e hn)];exact e) (λb ps e=>⟨#[],by rw[aP (eR e hn),e];simp⟩) (λm hm=> ?_) (λb u e=> ?_) I.bare
 ·obtain⟨f0,f1,f2,f3,f4,f5⟩:=hf b hb
  exact⟨f3,f1,f4,f5⟩
 ·have hb:b≠T:=λz=>by
   subst z
   exact absurd (Nat.lt_of_lt_of_le (Heap.lt_size e) hT) (Nat.lt_irrefl _)
  rw[aP hb];exact n
 ·obtain⟨o,es,ep,ho,r⟩:=hm
  exact⟨o,es,ep,k _ o (λz=>(hf _ z).2.1 rfl) ho,r⟩
 ·by_cases hb:b=T
  ·subst hb;rw[cC] at e;cases e;exact new
  ·rw[aP hb] at e
   refine(I.hok b u e).stay (λc v hc q=>k c v ?_ q) (λc q=>by rw[aP (eR q hn)];exact q) λc xs q=>by rw[aP (eR q hn)];exact q
   rcases hc with z | z
   ·rw[z];exact nit b u e
   ·exact nit c _ z
end
def Itz(K:PySem.W.Frag)(a b:Addr):It:=
 ⟨λi H=>∃xs ys x y,SqL K H a xs/\SqL K H b ys/\xs[i]? =some x/\ys[i]? =some y,
  λi H v H'=>∃T x y,H T=none/\v=.ref T/\H'=upd H T (.tup [x,y])/\(∀xs,SqL K H a xs->xs[i]? =some x)/\∀ys,SqL K H b ys->ys[i]? =some y,
  λi H=>∃xs ys,SqL K H a xs/\SqL K H b ys/\(xs.length<=i\/ys.length<=i)⟩
def Ite(K:PySem.W.Frag)(a:Addr):It:=
 ⟨λi H=>∃xs x,SqL K H a xs/\xs[i]? =some x,
  λi H v H'=>∃T x,H T=none/\v=.ref T/\H'=upd H T (.tup [.int i,x])/\∀xs,SqL K H a xs->xs[i]? =some x,
  λi H=>∃xs,SqL K H a xs/\xs.length<=i⟩
def Its(x:Str):It:=⟨λi _=>i<x.cps.size,λi H v H'=>H'=H/\∃c,x.cps[i]? =some c/\v=.str ⟨#[c]⟩,λi _=>x.cps.size<=i⟩
theorem DN{P:Program}{w:World}{H:Hp}{h:Heap}{T:Addr}{x y:V}{u v:Value}(rx:RelV x u)(ry:RelV y v)(hT:h.IsTuple T #[u,v]):fW P w H h T (.tup [x,y]):=by
 refine⟨by simp only[List.length_cons,List.length_nil];rw[sizeLine_eq];decide,[u,v],.cons rx (.cons ry .nil), ?_⟩
 exact hT
theorem EL{P:Program}{w:World}{K:PySem.W.Frag}{elts:List Expr}{kk:Nat}{tp:Pos}{z TI TO i1 i2 a b:Addr}(D:ZipApart z TI TO i1 i2 a b):
 Turn P w K (.Tuple elts kk tp) (Itz K a b) [z,TI,TO,i1,i2] z (λi h=>IsZip h z TI TO .none/\IsPair h TI (.ref i1) (.ref i2)/\(∃u v,IsPair h TO u v)/\h.IsListIter i1 a i/\h.IsListIter i2 b i) where
 mem:=by simp
 obj:=λi h st c hc=>by
  obtain⟨q1,q2,⟨u,v,q3⟩,⟨o1,e1,c1,d1⟩,⟨o2,e2,c2,d2⟩⟩:=st
  simp only[List.mem_cons,List.not_mem_nil,or_false] at hc
  rcases hc with rfl | rfl | rfl | rfl | rfl
  ·exact⟨_,q1,λv z=>by have z':Data.fields _=Data.cell v:=z;cases z'⟩
  ·exact⟨_,q2,λv z=>by have z':Data.seq _ _=Data.cell v:=z;cases z'⟩
  ·exact⟨_,q3,λv z=>by have z':Data.seq _ _=Data.cell v:=z;cases z'⟩
  ·exact⟨o1,e1,λv z=>by rw[d1] at z;cases z⟩
  ·exact⟨o2,e2,λv z=>by rw[d2] at z;cases z⟩
 keep:=λi h h' st k=>by
  obtain⟨q1,q2,⟨u,v,q3⟩,q4,q5⟩:=st
  exact⟨k z (by simp) _ q1,k TI (by simp) _ q2,⟨u,v,k TO (by simp) _ q3⟩,q4.at λo e=>k i1 (by simp) o e,q5.at λo e=>k i2 (by simp) o e⟩
 item:=by
  intro X hP hw hK hc i pins s σ H E I hf st hg
  subst hP hw hK
  obtain⟨xs,ys,x,y,hq1,hq2,hx,hy⟩:=hg
  obtain⟨its1,rv1,p1,hz1⟩:=I.list hq1
  obtain⟨its2,rv2,p2,hz2⟩:=I.list hq2
  obtain⟨u,hu,ru⟩:=rv1.get hx
  obtain⟨v,hv,rv⟩:=rv2.get hy
  obtain⟨q1,q2,q3,q4,q5⟩:=id st
  have W:=WalksT.zip2 (prog:=X.prog) (w:=X.w) (A:=X.A) (I.ok.hd hc) z TI TO i1 i2 a b D its1.toArray its2.toArray
  have hi1:i<its1.length:=(List.getElem?_eq_some_iff.mp hu).1
  have hi2:i<its2.length:=(List.getElem?_eq_some_iff.mp hv).1
  refine W.item i s _ _ (by simp;omega) ⟨q1,q2,q3,q4,q5,p1.isList,p2.isList⟩ λT vals h1 tk hP hT isT mid kk1=>⟨.ref T,rfl,W.go elts _ tp i T _ _ _ mid λh2 st2 kk2=> ?_⟩
  obtain⟨u',v',e1,e2,rfl⟩:=hP
  rw[show its1.toArray[i]? =its1[i]? by simp,hu] at e1
  rw[show its2.toArray[i]? =its2[i]? by simp,hv] at e2
  cases e1;cases e2
  have nT:T∉([z,TO,i1,i2]:List Addr):=W.apart i T _ mid
  have sub:∀c,c∈([z,TO,i1,i2]:List Addr)->c∈([z,TI,TO,i1,i2]:List Addr):=λc hc=>by
   simp only[List.mem_cons,List.not_mem_nil,or_false] at hc ⊢
   rcases hc with h | h | h | h <;> simp[h]
  have kk:∀c o,c∉([z,TO,i1,i2]:List Addr)->s.heap.get? c=some o->h2.get? c=some o:=λc o hc e=>kk2 c o hc (kk1 c o hc e)
  have isT2:h2.IsTuple T #[u,v]:=by
   obtain⟨o,e,c,d⟩:=isT
   exact⟨o,kk2 T o nT e,c,d⟩
  have I2:Inv X pins σ (upd H T (.tup [x,y])) {s with heap:=h2,toks:=tk}:=I.turnedT kk (λc hc=>hf c (sub c hc)) hT (DN ru rv isT2)
  refine⟨.ref T,_,I2,rfl,⟨T,x,y,I.hok.fresh hT,rfl,rfl,λxs' h=>by rw[I.list_inj h hq1];exact hx,λys' h=>by rw[I.list_inj h hq2];exact hy⟩,⟨st2.1,st2.2.1,st2.2.2.1,st2.2.2.2.1,st2.2.2.2.2.1⟩,λc hc=> ?_⟩
  have hc0:=(hf c hc).1
  rw[aP (λe=> ?_)]
  ·exact hc0
  ·subst e
   simp only[List.mem_cons,List.not_mem_nil,or_false] at hc
   rcases hc with h | h | h | h | h
   ·exact nT (by simp[h])
   ·have:TI<s.heap.objs.size:=Heap.lt_size q2
    rw[<- h] at this
    exact absurd (Nat.lt_of_lt_of_le this hT) (Nat.lt_irrefl _)
   ·exact nT (by simp[h])
   ·exact nT (by simp[h])
   ·exact nT (by simp[h])
 done:=by
  intro X hP hw hK hc i pins s σ H E I hf st hg
  subst hP hw hK
  obtain⟨xs,ys,hq1,hq2,hx⟩:=hg
  obtain⟨its1,rv1,p1,hz1⟩:=I.list hq1
  obtain⟨its2,rv2,p2,hz2⟩:=I.list hq2
  have l1:=rv1.length
  have l2:=rv2.length
  obtain⟨q1,q2,⟨u,v,q3⟩,q4,q5⟩:=id st
  refine wpAny_pyNext_zip_end (I.ok.hd hc) D q1 q2 q3 q4 q5 p1.isList p2.isList (by
   rcases hx with h | h
   ·left;simp;omega
   ·right;simp;omega) λh' hk=>⟨rfl, ?_⟩
  exact I.turnedL (t':=s.toks) (ch:=[z,TI,TO,i1,i2]) (λc o hc e=>hk c o (λx=>hc (by simp[x])) (λx=>hc (by simp[x])) (λx=>hc (by simp[x])) (λx=>hc (by simp[x])) e) hf
 self:=λ_ _ _ _ _ st h=>wpAny_pyIter_zip st.1 h
theorem Dq{P:Program}{w:World}{K:PySem.W.Frag}{elts:List Expr}{kk:Nat}{tp:Pos}{e it a:Addr}(hei:e≠it)(hle:a≠e)(hli:a≠it):
 Turn P w K (.Tuple elts kk tp) (Ite K a) [e,it] e (λi h=>(∃old,IsEnum h e it i old)/\h.IsListIter it a i) where
 mem:=by simp
 obj:=λi h st c hc=>by
  obtain⟨⟨old,q1⟩,⟨o1,e1,c1,d1⟩⟩:=st
  simp only[List.mem_cons,List.not_mem_nil,or_false] at hc
  rcases hc with rfl | rfl
  ·exact⟨_,q1,λv z=>by have z':Data.fields _=Data.cell v:=z;cases z'⟩
  ·exact⟨o1,e1,λv z=>by rw[d1] at z;cases z⟩
 keep:=λi h h' st k=>by
  obtain⟨⟨old,q1⟩,q4⟩:=st
  exact⟨⟨old,k e (by simp) _ q1⟩,q4.at λo e'=>k it (by simp) o e'⟩
 item:=by
  intro X hP hw hK hc i pins s σ H E I hf st hg
  subst hP hw hK
  obtain⟨xs,x,hq1,hx⟩:=hg
  obtain⟨its1,rv1,p1,hz1⟩:=I.list hq1
  obtain⟨u,hu,ru⟩:=rv1.get hx
  obtain⟨q1,q4⟩:=id st
  have W:=WalksT.enumerate (prog:=X.prog) (w:=X.w) (A:=X.A) (I.ok.hd hc) e it a hei hle hli its1.toArray
  have hi1:i<its1.length:=(List.getElem?_eq_some_iff.mp hu).1
  refine W.item i s _ _ (by simpa using hi1) ⟨q1,q4,p1.isList⟩ λT vals h1 tk hP hT isT mid kk1=>⟨.ref T,rfl,W.go elts _ tp i T _ _ _ mid λh2 st2 kk2=> ?_⟩
  obtain⟨t,u',e1,rfl⟩:=hP
  rw[show its1.toArray[i]? =its1[i]? by simp,hu] at e1
  cases e1
  have nT:T∉([e,it]:List Addr):=W.apart i T _ mid
  have kk:∀c o,c∉([e,it]:List Addr)->s.heap.get? c=some o->h2.get? c=some o:=λc o hc e=>kk2 c o hc (kk1 c o hc e)
  have isT2:h2.IsTuple T #[.int i t,u]:=by
   obtain⟨o,e,c,d⟩:=isT
   exact⟨o,kk2 T o nT e,c,d⟩
  have I2:Inv X pins σ (upd H T (.tup [.int i,x])) {s with heap:=h2,toks:=tk}:=I.turnedT kk hf hT (DN ⟨t,rfl⟩ ru isT2)
  refine⟨.ref T,_,I2,rfl,⟨T,x,I.hok.fresh hT,rfl,rfl,λxs' h=>by rw[I.list_inj h hq1];exact hx⟩,⟨st2.1,st2.2.1⟩,λc hc=> ?_⟩
  have hcT:c≠T:=λz=>by
   subst z
   exact nT hc
  rw[aP hcT]
  exact(hf c hc).1
 done:=by
  intro X hP hw hK hc i pins s σ H E I hf st hg
  subst hP hw hK
  obtain⟨xs,hq1,hx⟩:=hg
  obtain⟨its1,rv1,p1,hz1⟩:=I.list hq1
  have l1:=rv1.length
  obtain⟨⟨old,q1⟩,q4⟩:=id st
  refine wpAny_pyNext_enum_end (I.ok.hd hc) q1 q4 p1.isList (by simp;omega) λh' hk=>⟨rfl, ?_⟩
  exact I.turnedL (t':=s.toks) (ch:=[e,it]) (λc o hc e'=>hk c o (λx=>hc (by simp[x])) e') hf
 self:=λ_ _ _ _ _ st h=>let ⟨_,q⟩:=st.1;wpAny_pyIter_enum q h
theorem EC{P:Program}{w:World}{K:PySem.W.Frag}{tg:Expr}(it:Addr)(x:Str)(t:Tok)(ty:String)(hty:ty="str_ascii_iterator" \/ty="str_iterator"):Turn P w K tg (Its x) [it] it (λi h=>h.IsStrIter it ty x t i) where
 mem:=by simp
 obj:=λi h st b hb=>by
  have e:b=it:=by simpa using hb
  subst e
  obtain⟨o,e,c,d⟩:=st
  exact⟨o,e,λv z=>by rw[d] at z;cases z⟩
 keep:=λi h h' st k=>let ⟨o,ho,r⟩:=st;⟨o,k it (by simp) o ho,r⟩
 item:=by
  intro X hP hw hK hc i pins s σ H E I hf st hg
  subst hP hw hK
  have hg:i<x.cps.size:=hg
  have W:Walks X.prog X.w X.A it [it] [it] x.cps.size (SignAt x) (λi h=>h.IsStrIter it ty x t i):=by
   rcases hty with rfl | rfl
   ·exact Walks.strAscii (I.ok.hd hc) it x t
   ·exact Walks.strWide (I.ok.hd hc) it x t
  refine W.item i s _ _ hg st λv h' tk hv st' kk=> ?_
  obtain⟨c,u,hc',rfl⟩:=hv
  have I1:Inv X pins σ H {s with heap:=h',toks:=tk}:=I.turnedL kk hf
  obtain⟨o,e,hc1,d⟩:=id st'
  exact⟨_,rfl,Cu (s:={s with heap:=h',toks:=tk}) (n:=ty) e hc1 d (by rcases hty with rfl | rfl <;> decide) ⟨.str ⟨#[c]⟩,H,I1,⟨u,rfl⟩,⟨rfl,c,hc',rfl⟩,st',λb hb=>(hf b hb).1⟩⟩
 done:=by
  intro X hP hw hK hc i pins s σ H E I hf st hg
  subst hP hw hK
  have hg:x.cps.size<=i:=hg
  rcases hty with rfl | rfl
  ·exact wpAny_pyNext_ascii_end (I.ok.hd hc) st (by simp;omega) λh' eb=>⟨rfl,I.turnedL (t':=s.toks) (ch:=[it]) (λb o hb e=>eb b o (λz=>hb (by simp[z])) e) hf⟩
  ·exact wpAny_pyNext_wide_end (I.ok.hd hc) st (by simp;omega) λh' eb=>⟨rfl,I.turnedL (t':=s.toks) (ch:=[it]) (λb o hb e=>eb b o (λz=>hb (by simp[z])) e) hf⟩
 self:=λ_ _ _ _ _ st h=>by
  rcases hty with rfl | rfl
  ·exact wpAny_pyIter_striter_ascii st h
  ·exact wpAny_pyIter_striter_wide st h
section
variable {X : Cx} {tg : Expr}
def Fq(K:PySem.W.Frag)(ta:TA):TI:=λσ H R=>ta σ H λvs H1=>∃a b,vs=[.ref a,.ref b]/\(∃xs,SqL K H1 a xs)/\(∃ys,SqL K H1 b ys)/\R (Itz K a b) H1
def Gq(K:PySem.W.Frag)(ta:TA):TI:=λσ H R=>ta σ H λvs H1=>∃a,vs=[.ref a]/\(∃xs,SqL K H1 a xs)/\R (Ite K a) H1
def JS(te:TE):TI:=λσ H R=>te σ H λx H1=>∃z,x=.str z/\R (Its z) H1
theorem ua{elts:List Expr}{kk:Nat}{tp:Pos}{a b:Expr}{ta:TA}{p pos:Pos}(hg:Gl X "zip")(hm:X.mg "zip" =none)(ha:PA X [a,b] ta)(hs:starEach [a,b] X.env=[(false,eval a X.env),(false,eval b X.env)]:=by rfl)(hs2:starEach [b] X.env=[(false,eval b X.env)]:=by rfl):
 PI X (.Tuple elts kk tp) (.Call (.Name "zip" p) [a,b] [] pos) (Fq X.K ta):=by
 intro pins s σ H R I h
 refine Call_ (oU I hg hm Boot.«zip» (PyProof.Rows.callWith_type1 (thn (ha pos pins s σ H _ I h) λus s1 ⟨vs,H1,I1,r1,q1⟩=> ?_) (by rw[hs,hs2]) (by rw[hs2];rfl)))
 obtain⟨l1,l2,e,⟨xs,hq1⟩,⟨ys,hq2⟩,q⟩:=q1
 subst e
 obtain⟨u,v,rfl,r,r'⟩:=vals2 r1
 cases r
 cases r'
 obtain⟨its1,rv1,p1,hz1⟩:=I1.list hq1
 obtain⟨its2,rv2,p2,hz2⟩:=I1.list hq2
 refine call_zip_2 p1.isList p2.isList λh' hz hTI hTO hi1 hi2 hsz hk=> ?_
 have a1:l1<s1.heap.objs.size:=by obtain⟨_,e,_⟩:=p1.isList;exact Heap.lt_size e
 have a2:l2<s1.heap.objs.size:=by obtain⟨_,e,_⟩:=p2.isList;exact Heap.lt_size e
 refine wpAny_pyIter_zip hz ⟨_,_,_,_,H1,rfl,I1.kept (t':=s1.toks) hk,EL (zipApart_new a1 a2),⟨hz,hTI,⟨_,_,hTO⟩,hi1,hi2⟩,λb hb=> ?_,q⟩
 have:s1.heap.objs.size<=b:=by
  simp only[List.mem_cons,List.not_mem_nil,or_false] at hb
  rcases hb with rfl | rfl | rfl | rfl | rfl <;> omega
 exact I1.fpOk this (I1.hok.fresh this)
theorem nt{elts:List Expr}{kk:Nat}{tp:Pos}{a:Expr}{ta:TA}{p pos:Pos}(hg:Gl X "enumerate")(hm:X.mg "enumerate" =none)(ha:PA X [a] ta)(hs:starEach [a] X.env=[(false,eval a X.env)]:=by rfl):
 PI X (.Tuple elts kk tp) (.Call (.Name "enumerate" p) [a] [] pos) (Gq X.K ta):=by
 intro pins s σ H R I h
 refine Call_ (oU I hg hm Boot.«enumerate» (PyProof.Rows.callWith_type1 (thn (ha pos pins s σ H _ I h) λus s1 ⟨vs,H1,I1,r1,q1⟩=> ?_) hs rfl))
 obtain⟨l1,e,⟨xs,hq1⟩,q⟩:=q1
 subst e
 obtain⟨u,rfl,ru⟩:=vals1 r1
 cases ru
 obtain⟨its1,rv1,p1,hz1⟩:=I1.list hq1
 refine call_enumerate_list p1.isList λh' hz hi1 hsz hk=> ?_
 have a1:l1<s1.heap.objs.size:=by obtain⟨_,e,_⟩:=p1.isList;exact Heap.lt_size e
 refine wpAny_pyIter_enum hz ⟨_,_,_,_,H1,rfl,I1.kept (t':=s1.toks) hk,Dq (e:=s1.heap.objs.size+1) (it:=s1.heap.objs.size) (a:=l1) (Nat.succ_ne_self _) (Nat.ne_of_lt (Nat.lt_succ_of_lt a1)) (Nat.ne_of_lt a1),⟨⟨_,hz⟩,hi1⟩,λb hb=> ?_,q⟩
 have:s1.heap.objs.size<=b:=by
  simp only[List.mem_cons,List.not_mem_nil,or_false] at hb
  rcases hb with rfl | rfl <;> omega
 exact I1.fpOk this (I1.hok.fresh this)
theorem Kd{l:Expr}{tl:TE}(hl:PE X l tl):PI X tg l (JS tl):=by
 intro pins s σ H R I h
 refine thn (hl pins s σ H _ I h) λv s1 ⟨x,H1,I1,r1,q1⟩=> ?_
 obtain⟨z,e,q⟩:=q1
 subst e
 obtain⟨t,rfl⟩:=r1
 have fin:∀(ty:String),(ty="str_ascii_iterator" \/ty="str_iterator")->PIE X pins σ tg R (.ref s1.heap.objs.size) {s1 with heap:=s1.heap.push {cls:=.type ty,data:=.fields #[.str z t,.int 0 0]}}:=λty hty=>by
  refine⟨s1.heap.objs.size,[s1.heap.objs.size],_,_,H1,rfl,I1.kept (t':=s1.toks) λb o e=>Heap.get?_push_of_some _ e,EC _ z t ty hty,⟨_,Heap.get?_push_size _ rfl,rfl,rfl⟩,λb hb=> ?_,q⟩
  have e:b=s1.heap.objs.size:=by simpa using hb
  subst e
  exact I1.fpOk (Nat.le_refl _) (I1.hok.fresh (Nat.le_refl _))
 cases ha:z.cps.all (· < 128)
 ·exact wpAny_pyIter_wide ha (fin _ (.inr rfl))
 ·exact wpAny_pyIter_ascii ha (fin _ (.inl rfl))
theorem uE:∀{ns:List Int} {its:List Value},Vals (ns.map V.int) its->IntsAre its ns
 | [],_,r=>by cases r;exact .nil
 | n::ns,_,r=>by
  cases r with
  | cons r1 r2=>
   obtain⟨t,rfl⟩:=r1
   exact .cons _ _ (uE r2)
theorem oB(hc:X.calm=true:=by rfl):i7 X (.builtin "sum") (λxs H Q=>∃(p:Addr) (ns:List Int),xs=[.ref p]/\SqL X.K H p (ns.map V.int)/\Q (.int ns.sum) H):=by
 intro pins s σ H xs us Q I r h
 obtain⟨p,ns,rfl,hq,q⟩:=h
 obtain⟨u,rfl,ru⟩:=vals1 r
 cases ru
 obtain⟨its,rv,pl,hz⟩:=I.list hq
 have hI:=uE rv
 obtain⟨xs,exs⟩:=hI.allInts.items
 have hn:numsOf its=ns:=hI.numsOf
 rw[show its=its.toArray.toList by simp,exs,nums_intItems] at hn
 refine sum_intListG (I.ok.hd hc) (exs▸pl.isList) λh' tk t' hk=> ?_
 rw[preSum_eq,List.take_of_length_le (by simp),hn]
 exact⟨.int ns.sum,H,I.kept (t':=tk) hk,⟨t',rfl⟩,q⟩
theorem KQ{bs:List Bool}{its:List Value}(rv:Vals (bs.map V.bl) its){i:Nat}{v:Value}(h:its.toArray[i]? =some v):v=.bool (bs.getD i false):=by
 have hi:i<its.length:=by
  have:=(Array.getElem?_eq_some_iff.mp h).1
  simpa using this
 have hb:i<bs.length:=by have:=rv.length;rw[List.length_map] at this;omega
 obtain⟨u,hu,ru⟩:=rv.get (i:=i) (x:=.bl bs[i]) (by simp[hb])
 rw[show its.toArray[i]? =its[i]? by simp,hu] at h
 cases h
 cases ru
 simp[List.getD_eq_getElem?_getD,hb]
theorem all_range(bs:List Bool):(List.range bs.length).all (λi=>bs.getD i false)=bs.all id:=by
 induction bs with
 | nil=>rfl
 | cons b bs ih=>
  rw[List.length_cons,List.range_succ_eq_map,List.all_cons,List.all_map,List.all_cons]
  simp only[Function.comp_def,List.getD_cons_succ,List.getD_cons_zero,id]
  rw[ih]
theorem rJ(hc:X.calm=true:=by rfl):i7 X (.builtin "all") (λxs H Q=>∃(p:Addr) (bs:List Bool),xs=[.ref p]/\SqL X.K H p (bs.map V.bl)/\Q (.bl (bs.all id)) H):=by
 intro pins s σ H xs us Q I r h
 obtain⟨p,bs,rfl,hq,q⟩:=h
 obtain⟨u,rfl,ru⟩:=vals1 r
 cases ru
 obtain⟨its,rv,pl,hz⟩:=I.list hq
 have hl:=pl.isList
 have lt:p<s.heap.objs.size:=by obtain⟨_,e,_⟩:=hl;exact Heap.lt_size e
 have hlen:its.toArray.size=bs.length:=by have:=rv.length;rw[List.length_map] at this;simp;omega
 refine call_all_walk (wpAny_pyIter_list hl ?_)
 refine⟨_,_,_,_,_,_,λi=>bs.getD i false,rfl,Walks.list (A:=X.A.in1) (I.ok.hd hc) s.heap.objs.size p (Nat.ne_of_lt lt) its.toArray,⟨⟨_,Heap.get?_push_size _ rfl,rfl,rfl⟩,hl.push _⟩,λi v s' Q' E' hP hQ=> ?_,λh' tk hk=> ?_⟩
 ·rw[KQ rv hP]
  exact wpAny_truthy_bool hQ
 ·rw[hlen,all_range]
  refine⟨.bl (bs.all id),H,I.kept (t':=tk) λb o e=>hk b o (λz=> ?_) (Heap.get?_push_of_some _ e),rfl,q⟩
  have hb:=Heap.lt_size e
  rw[List.mem_singleton.mp z] at hb
  exact absurd hb (Nat.lt_irrefl _)
end
end L2
set_option maxRecDepth 100000
set_option maxHeartbeats 4000000
namespace L2
open PySem PySem.Spec PyProof.Rows
def pick{α:Type}(xs:List α)(lo hi st:Option Int):List α:=(sliceRange (sliceBounds lo hi st xs.length).1 (sliceBounds lo hi st xs.length).2.1 (sliceBounds lo hi st xs.length).2.2).filterMap (xs[·]?)
theorem oH{xs:List V}{us:List Value}(r:Vals xs us):∀js:List Nat,Vals (js.filterMap (xs[·]?)) (js.filterMap (us[·]?))
 | []=>.nil
 | j::js=>by
  have ih:=oH r js
  cases hn:xs[j]? with
  | some x=>
   obtain⟨u,hu,ru⟩:=r.get hn
   simp only[List.filterMap_cons,hn,hu]
   exact .cons ru ih
  | none=>
   have hv:us[j]? =none:=by
    rw[List.getElem?_eq_none_iff] at hn ⊢
    rw[<- r.length];exact hn
   simp only[List.filterMap_cons,hn,hv]
   exact ih
def LO(K:PySem.W.Frag):V->Option Int->Option Int->Option Int->Hp->VK->Prop:=λx lo hi st H Q=>∃a xs,x=.ref a/\SqL K H a xs/\st≠some 0/\∀p,H p=none->Q (.ref p) (upd H p (.lst (pick xs lo hi st)))
def FO(K:PySem.W.Frag)(te:TE)(tl th ts:TO):TE:=λσ H Q=>te σ H λx H1=>tl σ H1 λl H2=>th σ H2 λu H3=>ts σ H3 λst H4=>LO K x l u st H4 Q
section
variable {X : Cx} {e se : Expr} {te : TE} {lo hi : Option Expr} {tl th ts : TO} {pos p2 : Pos}
theorem Ie(he:PE X e te)(hl:PO X lo tl)(hu:PO X hi th)(hs:PO X (some se) ts):PE X (.Subscript e (.Slice lo hi (some se) p2) pos) (FO X.K te tl th ts):=by
 intro pins s σ H Q I h
 refine Subscript_ (thn (he pins s σ H _ I h) λv s1 ⟨x,H1,I1,r1,q1⟩=> ?_)
 refine wpAny_Slice (thn (hl pins s1 σ H1 _ I1 q1) λvl s2 ⟨l,H2,I2,pl,q2⟩=>thn (hu pins s2 σ H2 _ I2 q2) λvu s3 ⟨u,H3,I3,pu,q3⟩=>thn (hs pins s3 σ H3 _ I3 q3) λvs s4 ⟨st,H4,I4,ps,q4⟩=> ?_)
 have I5:Inv X pins σ H4 {s4 with heap:=s4.heap.push {cls:=.type "slice",data:=.fields #[vl,vu,vs]}}:=I4.kept (t':=s4.toks) λb ob q=>Heap.get?_push_of_some _ q
 obtain⟨a,xs,rfl,hx,h0,q⟩:=q4
 cases r1
 obtain⟨its,r,ht,hz⟩:=I5.list hx
 have hlen:=r.length
 show wpAny (model X.prog X.w) X.A (subscriptTail e (.Slice lo hi (some se) p2) (.ref a) (.ref s4.heap.objs.size)) (EP X pins σ Q) X.xe {s4 with heap:=s4.heap.push {cls:=.type "slice",data:=.fields #[vl,vu,vs]}}
 refine tail_any (ops:=[.ref a,.ref s4.heap.objs.size]) ht.isList.typeIs slot_list_getitem.lookup ?_ (by with_unfolding_all rfl)
 refine wpAny_getItem_list_slice ht.isList (Heap.IsSliceOf.new ..) pl pu ps h0 ?_ (by rw[List.size_toArray] <;> omega)
 have hp:slicePick its.toArray l u st=((sliceRange (sliceBounds l u st xs.length).1 (sliceBounds l u st xs.length).2.1 (sliceBounds l u st xs.length).2.2).filterMap (its[·]?)).toArray:=by
  unfold slicePick
  rw[List.size_toArray,<- hlen]
  simp
 have hle:(pick xs l u st).length<=xs.length:=by
  have h1:=slicePick_size_le its.toArray l u st
  rw[hp,List.size_toArray,List.size_toArray,<- hlen] at h1
  have h2:=(oH r (sliceRange (sliceBounds l u st xs.length).1 (sliceBounds l u st xs.length).2.1 (sliceBounds l u st xs.length).2.2)).length
  show (List.filterMap (xs[·]?) _).length<=_
  rw[h2];exact h1
 rw[hp]
 refine⟨.ref _,_,I5.laid (t':=s4.toks) (o:=.lst (pick xs l u st)) (λb ob q=>Heap.get?_push_of_some _ q) (Nat.le_refl _) ?_,rfl,q _ (I5.hok.fresh (Nat.le_refl _))⟩
 exact⟨Nat.le_trans hle hz,_,0,oH r _,Heap.get?_push_size _ rfl⟩
end
end L2
set_option maxRecDepth 100000
set_option maxHeartbeats 4000000
namespace L2
open PySem PySem.Spec PyProof.Rows
section
variable {X : Cx} {tg : Expr}
end
end L2
set_option maxRecDepth 100000
set_option maxHeartbeats 4000000
namespace L2
open PySem PySem.Spec PyProof.Rows
def kQ(x:Str)(lo hi:Option Int):Str:=
 if ((Builtin.Str.strSliceIndices lo hi 1 x.length).length == x.length)=true then x else ⟨((Builtin.Str.strSliceIndices lo hi 1 x.length).filterMap (x.cps[·]?)).toArray⟩
section
variable {X : Cx}
def GQ:V->Option Int->Option Int->Hp->VK->Prop:=λx lo hi H Q=>∃z,x=.str z/\z.length<=sizeLine/\Q (.str (kQ z lo hi)) H
theorem DA:SlR X GQ:=by
 intro pins s σ H x v vl vu lo hi sl Q I rx hs pl pu h
 obtain⟨z,rfl,hz,q⟩:=h
 obtain⟨t,rfl⟩:=rx
 refine⟨"str",_,F.slot_str_getitem.lookup,typeIs_str _ _ _, ?_⟩
 have part:∀{v:Value} {o:Option Int},IsPart v o->∃p:Option (Int×Tok),v=partValue p/\p.map (·.1)=o:=λh=>by
  cases h with
  | none=>exact⟨none,rfl,rfl⟩
  | int i t=>exact⟨some (i,t),rfl,rfl⟩
 obtain⟨l,rfl,rfl⟩:=part pl
 obtain⟨u,rfl,rfl⟩:=part pu
 refine wpAny_getItem_str_slice (l:=l) (u:=u) (st:=none) hs rfl ?_
 unfold sliceMade
 show Made.post (if (true&&((Builtin.Str.strSliceIndices (l.map (·.1)) (u.map (·.1)) 1 z.length).length == z.length))=true then _ else _) _ _
 unfold kQ at q
 rw[Bool.true_and]
 by_cases hc:((Builtin.Str.strSliceIndices (l.map (·.1)) (u.map (·.1)) 1 z.length).length == z.length)=true
 ·rw[if_pos hc] at q ⊢
  exact⟨.str z,H,I,⟨t,rfl⟩,q⟩
 ·rw[if_neg hc] at q ⊢
  refine⟨?_,⟨.str _,H,I.tok _,⟨_,rfl⟩,q⟩⟩
  show (List.toArray _).size<=_
  rw[List.size_toArray]
  exact Nat.le_trans (Nat.le_trans (List.length_filterMap_le _ _) (sliceIndices_le _ _ _)) hz
end
end L2
set_option maxRecDepth 100000
set_option maxHeartbeats 4000000
namespace L2
open PySem PySem.Spec PyProof.Rows
section
variable {X : Cx}
end
end L2
set_option maxRecDepth 100000
set_option maxHeartbeats 4000000
namespace L2
open PySem PySem.Spec PyProof.Rows
section
variable {X : Cx}
end
end L2
set_option maxRecDepth 100000
set_option maxHeartbeats 4000000
namespace L2
open PySem PySem.Spec PyProof.Rows
section
variable {X : Cx}
def isT(y:Str):Value->Bool
 | .str a _=>a == y
 | _=>false
end
end L2
set_option maxRecDepth 100000
set_option maxHeartbeats 4000000
namespace L2
open PySem PySem.Spec PyProof.Rows
section
variable {prog : Program} {w : World} {A : Around} {R : Result → Shared → Prop} {I : Addr} {fp wr : List Addr} {G : Array GenState → Array GenState → Prop} {n : Nat} {P : Nat → Value → Prop} {St : Nat → Shared → Prop}
end
section
variable {prog : Program} {w : World} {A : Around} {E : Value → Shared → Prop} {s : Shared}
end
section
variable {X : Cx} {e : Expr} {te : TE} {x y : Str} {p1 p2 q1 q2 : Pos}
end
end L2
set_option maxRecDepth 100000
set_option maxHeartbeats 1000000
namespace L2
open PySem PySem.Spec PyProof.Rows PySem.W
section
variable {O : KeyOrd} (key : Nat → O.α)
def kAt(p:Array Nat)(i:Nat):O.α:=key (p.getD i 0)
def uX(p:Array Nat)(m:Nat):Prop:=∀i j,i<=j->j<m->O.kle (kAt key p i) (kAt key p j)
def BN(p:Array Nat)(m:Nat):Prop:=∀i j,i<=j->j<m->O.kle (kAt key p j) (kAt key p i)
variable {key}
theorem uX.more{p:Array Nat}{n:Nat}(h1:1<=n)(h:uX key p n)(hn:O.kle (kAt key p (n-1)) (kAt key p n)):uX key p (n+1):=by
 intro i j hij hj
 by_cases hjn:j=n
 ·subst hjn
  by_cases hi:i=j
  ·subst hi;exact KeyOrd.kle_refl _
  ·exact KeyOrd.kle_trans (h i (j-1) (by omega) (by omega)) hn
 ·exact h i j hij (by omega)
theorem BN.more{p:Array Nat}{n:Nat}(h1:1<=n)(h:BN key p n)(hn:O.kle (kAt key p n) (kAt key p (n-1))):BN key p (n+1):=by
 intro i j hij hj
 by_cases hjn:j=n
 ·subst hjn
  by_cases hi:i=j
  ·subst hi;exact KeyOrd.kle_refl _
  ·exact KeyOrd.kle_trans hn (h i (j-1) (by omega) (by omega))
 ·exact h i j hij (by omega)
end
end L2
set_option maxRecDepth 100000
set_option maxHeartbeats 1000000
namespace L2
open PySem PySem.Spec PyProof.Rows PySem.W
def Lv{α:Type}(N:Nat)(P:α->Prop):KasT α->Prop
 | .ret a=>P a
 | .ask i j k=>i<N/\j<N/\∀b,Lv N P (k b)
theorem Lv.bind{α β:Type}{N:Nat}{P:α->Prop}{P':β->Prop}{f:α->KasT β}(hf:∀a,P a->Lv N P' (f a)):∀{t:KasT α},Lv N P t->Lv N P' (t.bind f)
 | .ret a,h=>hf a h
 | .ask i j k,h=>⟨h.1,h.2.1,λb=>Lv.bind hf (h.2.2 b)⟩
def Und(N:Nat)(p:Array Nat):Prop:=∀i,p.getD i 0<N
theorem Und.of{N:Nat}{p p':Array Nat}(h:Und N p)(hp:∀i:Nat,∃j:Nat,p'[i]? =p[j]?):Und N p':=λi=>by
 obtain⟨j,e⟩:=hp i
 have:=h j
 rw[Array.getD_eq_getD_getElem?] at this ⊢
 rw[e];exact this
theorem Und.rev{N:Nat}{p:Array Nat}(h:Und N p){i j:Nat}(hj:j<=p.size):Und N (kas_rev p i j):=h.of λk=>by
 have g:=getElem?_mirror_all (xs:=p) (i:=i) hj k
 split at g
 ·exact⟨_,g⟩
 ·exact⟨_,g⟩
theorem Lv.mono{α:Type}{N:Nat}{P P':α->Prop}(h:∀a,P a->P' a):∀{t:KasT α},Lv N P t->Lv N P' t
 | .ret a,x=>h a x
 | .ask i j k,x=>⟨x.1,x.2.1,λb=>Lv.mono h (x.2.2 b)⟩
section
open PySem.SeqAt
open PySem.AutoSeq1 (wpAny_loadPart')
open PySem.MeetsSeq PySem.MeetsSeq2 PySem.MeetsSeq3
end
section
variable {prog : Program} {w : World} {A : Around} {E : Value → Shared → Prop} {s : Shared}
end
end L2
set_option maxRecDepth 100000
set_option maxHeartbeats 1000000
namespace L2
open PySem PySem.Spec PyProof.Rows PySem.W
section
variable {prog : Program} {w : World} {A : Around} {E : Value → Shared → Prop} {s : Shared}
end
section
variable {α β : Type}
end
section
variable {X : Cx}
end
end L2
set_option maxRecDepth 100000
set_option maxHeartbeats 1000000
namespace L2
open PySem PySem.Spec PyProof.Rows
section
variable {prog : Program} {w : World} {A : Around} {R : Result → Shared → Prop} {I : Addr} {fp wr : List Addr} {n : Nat} {P : Nat → Value → Prop} {St : Nat → Heap → Prop} {kw : List (Str × Value)}
end
section
variable {prog : Program} {w : World} {A : Around} {E : Value → Shared → Prop} {s : Shared}
end
section
variable {X : Cx} {e d : Expr} {te td : TE} {p q kp : Pos}
end
end L2
set_option maxRecDepth 100000
set_option maxHeartbeats 1000000
namespace L2
open PySem PySem.Spec PyProof.Rows
section
variable {X : Cx}
end
end L2
set_option maxRecDepth 100000
set_option maxHeartbeats 1000000
namespace L2
open PySem PySem.Spec PyProof.Rows
end L2
set_option maxRecDepth 100000
set_option maxHeartbeats 1000000
namespace L2
open PySem PySem.Spec PyProof.Rows
section
variable {X : Cx}
def isN(y:Int):Value->Bool
 | .int a _=>a == y
 | _=>false
abbrev mV(l:List (Int×Tok)):List Value:=l.map λp=>.int p.1 p.2
theorem JE{y:Int}{t:Tok}{l:List (Int×Tok)}(A:Around)(s:Shared):∀v,v∈(mV l).toArray->SeqAt.EqAt A s v (.int y t) (isN y v):=by
 intro v hv
 have hv':v∈mV l:=by simpa using hv
 obtain⟨p,_,rfl⟩:=List.mem_map.mp hv'
 exact(PySem.MeetsSeq.EqGives.int p.1 y p.2 t).at A s
theorem AL:∀{ns:List Int} {its:List Value},Vals (ns.map V.int) its->∃l:List (Int×Tok),mV l=its/\l.map (·.1)=ns
 | [],_,h=>by cases h;exact⟨[],rfl,rfl⟩
 | x::ns,_,h=>by
  cases h with
  | cons r rs=>
   obtain⟨t,rfl⟩:=r
   obtain⟨l,rfl,e⟩:=AL rs
   exact⟨(x,t)::l,rfl,by rw[List.map_cons,e]⟩
theorem KO{pins:List (Addr×Obj)}{s:Shared}{σ:St}{H:Hp}{b:Addr}{ns:List Int}(I:Inv X pins σ H s)(hs:SqL X.K H b (ns.map V.int)):
 ∃(l:List (Int×Tok)) (dd:Option Addr) (n:Nat) (sl:Array (Option Value)),l.map (·.1)=ns/\s.heap.get? b=some {cls:=.type "list",dict:=dd,data:=.seq (mV l).toArray n,slots:=sl}/\l.length<=sizeLine:=by
 obtain⟨its,r',pl,hz⟩:=I.list hs
 obtain⟨l,rfl,e⟩:=AL r'
 obtain⟨o,ho,hc,n,hd⟩:=pl.isList
 obtain⟨oc,od,oda,os⟩:=o
 dsimp only at hc hd
 subst hc hd
 refine⟨l,od,n,os,e,ho, ?_⟩
 rw[<- e,List.length_map,List.length_map] at hz
 exact hz
def Bd(K:PySem.W.Frag):V->List V->Hp->VK->Prop:=λx vs H Q=>∃(b:Addr) (ns:List Int) (y:Int),x=.ref b/\vs=[.int y]/\SqL K H b (ns.map V.int)/\ns.idxOf y<ns.length/\Q (.int (ns.idxOf y:Nat)) H
theorem Dv:MtR X "list.index" (Bd X.K):=by
 intro pins s σ H x vs v us Q I rx rv h
 obtain⟨b,ns,y,rfl,rfl,hs,hj,q⟩:=h
 cases rx
 obtain⟨u,rfl,t2,rfl⟩:=rv.one
 obtain⟨l,dd,n,sl,rfl,ho,hz⟩:=KO I hs
 have hn:=nO
 have hl:(mV l).toArray.size=(l.map (·.1)).length:=by simp[mV]
 have at_:∀(m:Nat) (hm:m<(mV l).toArray.size),isN y ((mV l).toArray[m])=((l.map (·.1))[m]'(by rw[<- hl];exact hm) == y):=by
  intro m hm
  simp[mV,isN]
 refine call_meets F.slot_list_index ⟨_,ho,rfl⟩ F.entry_list_index (F.args_list_index_2 _ _) (SeqAt.list_indexAt b _ n dd sl _ (isN y) ((l.map (·.1)).idxOf y) (by rw[hl];exact hj) (by rw[List.length_map] at hj;omega) ?_ ?_) ⟨ho,JE _ _, ?_⟩
 ·rw[at_]
  have:=List.getElem_idxOf hj
  rw[this]
  exact beq_self_eq_true y
 ·intro m hm h2
  rw[at_]
  exact List.not_of_lt_findIdx (p:=λa=>a == y) h2
 ·exact⟨.int _,H,I.tok _,⟨_,rfl⟩,q⟩
end
end L2
set_option maxRecDepth 100000
set_option maxHeartbeats 4000000
namespace M
open PySem L2
inductive D where
 | non | bl (b:Bool) | int (i:Int) | str (x:Str) | lst (xs:List D) | tup (xs:List D) | ptr (k:Nat) | obj (c:Nat) (ns:List Str) (ds:List D) | exn (c:Nat)
inductive Cell where
 | dead | lst (xs:List D) | ins (c:Nat) (ns:List Str) (ds:List D)
abbrev ax:=List Cell
structure S where
 r:List (Option D)
 o:ax
inductive Res (α:Type) where
 | ok (a:α) | exc (c:Nat) (a:D) (o:S) | bad
def Res.bind{α β:Type}(x:Res α)(f:α->Res β):Res β:=match x with
 | .ok a=>f a
 | .exc c a o=>.exc c a o
 | .bad=>.bad
@[simp] theorem ai {α β:Type} (a:α) (f:α->Res β):(Res.ok a).bind f=f a:=rfl
@[simp] theorem LW {α β:Type} (c:Nat) (a:D) (o:S) (f:α->Res β):(Res.exc c a o:Res α).bind f=.exc c a o:=rfl
@[simp] theorem Lw {α β:Type} (f:α->Res β):(Res.bad:Res α).bind f=.bad:=rfl
abbrev Wsh:=Nat->D->S->Hp->Hp->List Addr->Prop
structure Ct where
 K:PySem.W.Frag
 ca:Nat->Addr
 W:Wsh
mutual
def Rep(K:PySem.W.Frag)(ca:Nat->Addr)(θ:List Addr)(F:Hp):D->V->Prop
 | .non,v=>v=.non
 | .bl b,v=>v=.bl b
 | .int i,v=>v=.int i
 | .str x,v=>v=.str x
 | .lst ds,v=>∃a xs,v=.ref a/\SqL K F a xs/\aw K ca θ F ds xs
 | .tup ds,v=>∃a xs,v=.ref a/\SqT K F a xs/\aw K ca θ F ds xs
 | .ptr k,v=>∃a,v=.ref a/\θ[k]? =some a
 | .obj c ns ds,v=>∃a dx xs,v=.ref a/\F a=some (.ins (ca c) dx (ns.zip xs))/\ns.length=xs.length/\aw K ca θ F ds xs
 | .exn c,v=>∃a,v=.ref a/\F a=some (exO a (ca c))
def aw(K:PySem.W.Frag)(ca:Nat->Addr)(θ:List Addr)(F:Hp):List D->List V->Prop
 | [],xs=>xs=[]
 | d::ds,xs=>∃v r,xs=v::r/\Rep K ca θ F d v/\aw K ca θ F ds r
end
mutual
def cI:D->Bool
 | .lst ds=>aL ds
 | .tup ds=>aL ds
 | .ptr _=>false
 | .obj _ _ ds=>aL ds
 | _=>true
def aL:List D->Bool
 | []=>true
 | d::ds=>cI d&&aL ds
end
def m7:D->Bool
 | .non=>true | .bl _=>true | .int _=>true | .str _=>true | _=>false
theorem bF.seqT{K:PySem.W.Frag}{H H':Hp}{a:Addr}{xs:List V}(e:bF H H')(h:SqT K H a xs):SqT K H' a xs:=by
 rcases h with(h | ⟨o,h⟩) | h
 ·exact .inl (.inl (e _ _ h))
 ·exact .inl (.inr ⟨o,e _ _ h⟩)
 ·exact .inr h
section
variable {K : PySem.W.Frag} {ca : Nat → Addr} {θ θ1 : List Addr} {F F1 : Hp}
mutual
theorem Rep.mono(hF:bF F F1)(hθ:∃r,θ1=θ++r):∀{d:D} {v:V},Rep K ca θ F d v->Rep K ca θ1 F1 d v
 | .non,_,h=>h
 | .bl _,_,h=>h
 | .int _,_,h=>h
 | .str _,_,h=>h
 | .lst ds,_,h=>by
  unfold Rep at h ⊢
  obtain⟨a,xs,e,hs,hr⟩:=h
  exact⟨a,xs,e,hF.seq hs,aw.mono hF hθ hr⟩
 | .tup ds,_,h=>by
  unfold Rep at h ⊢
  obtain⟨a,xs,e,hs,hr⟩:=h
  exact⟨a,xs,e,bF.seqT hF hs,aw.mono hF hθ hr⟩
 | .ptr k,_,h=>by
  unfold Rep at h ⊢
  obtain⟨a,e,hk⟩:=h
  obtain⟨r,rfl⟩:=hθ
  refine⟨a,e, ?_⟩
  rw[List.getElem?_append_left (List.getElem?_eq_some_iff.mp hk).1]
  exact hk
 | .obj c ns ds,_,h=>by
  unfold Rep at h ⊢
  obtain⟨a,dx,xs,e,ha,hl,hr⟩:=h
  exact⟨a,dx,xs,e,hF _ _ ha,hl,aw.mono hF hθ hr⟩
 | .exn c,_,h=>by
  unfold Rep at h ⊢
  obtain⟨a,e,ha⟩:=h
  exact⟨a,e,hF _ _ ha⟩
theorem aw.mono(hF:bF F F1)(hθ:∃r,θ1=θ++r):∀{ds:List D} {xs:List V},aw K ca θ F ds xs->aw K ca θ1 F1 ds xs
 | [],_,h=>h
 | d::ds,_,h=>by
  unfold aw at h ⊢
  obtain⟨v,r,e,h1,h2⟩:=h
  exact⟨v,r,e,Rep.mono hF hθ h1,aw.mono hF hθ h2⟩
end
mutual
theorem Rep.pure:∀{d:D} {v:V},cI d=true->Rep K ca θ F d v->Rep K ca θ1 F d v
 | .non,_,_,h=>h
 | .bl _,_,_,h=>h
 | .int _,_,_,h=>h
 | .str _,_,_,h=>h
 | .lst ds,_,p,h=>by
  unfold Rep at h ⊢
  obtain⟨a,xs,e,hs,hr⟩:=h
  exact⟨a,xs,e,hs,aw.pure (by simpa[cI] using p) hr⟩
 | .tup ds,_,p,h=>by
  unfold Rep at h ⊢
  obtain⟨a,xs,e,hs,hr⟩:=h
  exact⟨a,xs,e,hs,aw.pure (by simpa[cI] using p) hr⟩
 | .ptr k,_,p,h=>by simp[cI] at p
 | .obj c ns ds,_,p,h=>by
  unfold Rep at h ⊢
  obtain⟨a,dx,xs,e,ha,hl,hr⟩:=h
  exact⟨a,dx,xs,e,ha,hl,aw.pure (by simpa[cI] using p) hr⟩
 | .exn c,_,_,h=>by
  unfold Rep at h ⊢
  exact h
theorem aw.pure:∀{ds:List D} {xs:List V},aL ds=true->aw K ca θ F ds xs->aw K ca θ1 F ds xs
 | [],_,_,h=>h
 | d::ds,_,p,h=>by
  unfold aw at h ⊢
  obtain⟨v,r,e,h1,h2⟩:=h
  simp only[aL,Bool.and_eq_true] at p
  exact⟨v,r,e,Rep.pure p.1 h1,aw.pure p.2 h2⟩
end
theorem Rep.scal{d:D}{v:V}(p:m7 d=true)(h:Rep K ca θ F d v):Rep K ca θ1 F1 d v:=by
 cases d <;> first | exact h | (simp[m7] at p)
theorem aw.length:∀{ds:List D} {xs:List V},aw K ca θ F ds xs->xs.length=ds.length
 | [],_,h=>by unfold aw at h;rw[h];rfl
 | d::ds,_,h=>by
  unfold aw at h
  obtain⟨v,r,rfl,_,h2⟩:=h
  rw[List.length_cons,List.length_cons,aw.length h2]
theorem aw.get:∀{ds:List D} {xs:List V} {i:Nat} {d:D},aw K ca θ F ds xs->ds[i]? =some d->∃v,xs[i]? =some v/\Rep K ca θ F d v
 | [],_,_,_,_,e=>by simp at e
 | d::ds,_,0,_,h,e=>by
  unfold aw at h
  obtain⟨v,r,rfl,h1,_⟩:=h
  simp at e
  subst e
  exact⟨v,rfl,h1⟩
 | d::ds,_,i+1,x,h,e=>by
  unfold aw at h
  obtain⟨v,r,rfl,_,h2⟩:=h
  obtain⟨u,e1,e2⟩:=aw.get (i:=i) (d:=x) h2 (by simpa using e)
  exact⟨u,by simpa using e1,e2⟩
theorem aw.append:∀{ds es:List D} {xs ys:List V},aw K ca θ F ds xs->aw K ca θ F es ys->aw K ca θ F (ds++es) (xs++ys)
 | [],_,_,_,h,k=>by unfold aw at h;rw[h];exact k
 | d::ds,_,_,_,h,k=>by
  unfold aw at h
  obtain⟨v,r,rfl,h1,h2⟩:=h
  show aw K ca θ F (d::(ds++_)) (v::(r++_))
  unfold aw
  exact⟨v,_,rfl,h1,aw.append h2 k⟩
theorem aw.one{d:D}{v:V}(h:Rep K ca θ F d v):aw K ca θ F [d] [v]:=by
 unfold aw
 exact⟨v,[],rfl,h,by unfold aw;rfl⟩
theorem aw.nil:aw K ca θ F [] []:=by unfold aw;rfl
theorem aw.cons{d:D}{v:V}{ds:List D}{xs:List V}(h:Rep K ca θ F d v)(k:aw K ca θ F ds xs):aw K ca θ F (d::ds) (v::xs):=by
 unfold aw
 exact⟨v,xs,rfl,h,k⟩
theorem aw.take:∀{ds:List D} {xs:List V} (n:Nat),aw K ca θ F ds xs->aw K ca θ F (ds.take n) (xs.take n)
 | _,_,0,_=>by simp;exact aw.nil
 | [],_,n+1,h=>by unfold aw at h;rw[h];exact aw.nil
 | d::ds,_,n+1,h=>by
  unfold aw at h
  obtain⟨v,r,rfl,h1,h2⟩:=h
  exact aw.cons h1 (aw.take n h2)
theorem aw.drop:∀{ds:List D} {xs:List V} (n:Nat),aw K ca θ F ds xs->aw K ca θ F (ds.drop n) (xs.drop n)
 | _,_,0,h=>h
 | [],_,n+1,h=>by unfold aw at h;rw[h];exact aw.nil
 | d::ds,_,n+1,h=>by
  unfold aw at h
  obtain⟨v,r,rfl,h1,h2⟩:=h
  exact aw.drop n h2
theorem aw.set{d:D}{v:V}(h:Rep K ca θ F d v):∀{ds:List D} {xs:List V} (i:Nat),aw K ca θ F ds xs->aw K ca θ F (ds.set i d) (xs.set i v)
 | [],_,_,k=>by unfold aw at k;rw[k];exact aw.nil
 | _::_,_,0,k=>by
  unfold aw at k
  obtain⟨v,r,rfl,h1,h2⟩:=k
  exact aw.cons h h2
 | _::_,_,i+1,k=>by
  unfold aw at k
  obtain⟨v,r,rfl,h1,h2⟩:=k
  exact aw.cons h1 (aw.set h i h2)
theorem aw.reverse:∀{ds:List D} {xs:List V},aw K ca θ F ds xs->aw K ca θ F ds.reverse xs.reverse
 | [],_,h=>by unfold aw at h;rw[h];exact aw.nil
 | d::ds,_,h=>by
  unfold aw at h
  obtain⟨v,r,rfl,h1,h2⟩:=h
  rw[List.reverse_cons,List.reverse_cons]
  exact aw.append (aw.reverse h2) (aw.one h1)
end
structure Stp(H F:Hp)(θ:List Addr)(H1 F1:Hp)(θ1:List Addr):Prop where
 ff:bF F F1
 th:∃r,θ1=θ++r/\∀a∈r,H a=none
 kp:∀b o,H b=some o->b∉θ->H1 b=some o
 al:∀b o,H b=some o->∃o',H1 b=some o'
 nf:∀b o,F1 b=some o->F b=some o\/H b=none\/b∈θ
theorem Stp.refl{H F:Hp}{θ:List Addr}:Stp H F θ H F θ:=⟨bF.refl _,⟨[],by simp,by simp⟩,λ_ _ h _=>h,λ_ o h=>⟨o,h⟩,λ_ _ h=>.inl h⟩
theorem Stp.pre{H F H1 F1:Hp}{θ θ1:List Addr}(x:Stp H F θ H1 F1 θ1):∃r,θ1=θ++r:=let ⟨r,e,_⟩:=x.th;⟨r,e⟩
theorem Stp.trans{H F H1 F1 H2 F2:Hp}{θ θ1 θ2:List Addr}(x:Stp H F θ H1 F1 θ1)(y:Stp H1 F1 θ1 H2 F2 θ2):Stp H F θ H2 F2 θ2:=by
 obtain⟨r,rfl,hr⟩:=x.th
 obtain⟨r2,rfl,hr2⟩:=y.th
 refine⟨x.ff.trans y.ff,⟨r++r2,by rw[List.append_assoc],λa ha=> ?_⟩,λb o h hb=> ?_,λb o h=> ?_,λb o h=> ?_⟩
 ·rcases List.mem_append.mp ha with z | z
  ·exact hr a z
  ·cases e:H a with
   | none=>rfl
   | some o=>
    obtain⟨o',e'⟩:=x.al a o e
    rw[hr2 a z] at e'
    cases e'
 ·refine y.kp b o (x.kp b o h hb) λhm=> ?_
  rcases List.mem_append.mp hm with z | z
  ·exact hb z
  ·rw[hr b z] at h
   cases h
 ·obtain⟨o',e'⟩:=x.al b o h
  exact y.al b o' e'
 ·rcases y.nf b o h with z | z | z
  ·exact x.nf b o z
  ·refine .inr (.inl ?_)
   cases e:H b with
   | none=>rfl
   | some o'=>
    obtain⟨o2,e2⟩:=x.al b o' e
    rw[z] at e2
    cases e2
  ·rcases List.mem_append.mp z with q | q
   ·exact .inr (.inr q)
   ·exact .inr (.inl (hr b q))
def jd(K:PySem.W.Frag)(ca:Nat->Addr)(H F:Hp)(θ:List Addr)(a:Addr):Cell->Prop
 | .dead=>∃o,H a=some o
 | .lst ds=>F a=none/\∃xs,H a=some (.lst xs)/\aw K ca θ F ds xs
 | .ins c ns ds=>F a=none/\∃dx xs,H a=some (.ins (ca c) dx (ns.zip xs))/\ns.length=xs.length/\aw K ca θ F ds xs
theorem jd.there{K:PySem.W.Frag}{ca:Nat->Addr}{H F:Hp}{θ:List Addr}{a:Addr}{c:Cell}(h:jd K ca H F θ a c):∃o,H a=some o:=by
 cases c with
 | dead=>exact h
 | lst ds=>obtain⟨_,xs,e,_⟩:=h;exact⟨_,e⟩
 | ins c ns ds=>obtain⟨_,dx,xs,e,_⟩:=h;exact⟨_,e⟩
structure Now(K:PySem.W.Frag)(ca:Nat->Addr)(H F:Hp)(θ:List Addr)(O:ax):Prop where
 fh:bF F H
 nd:θ.Nodup
 ln:θ.length=O.length
 ce:∀(k:Nat) a c,θ[k]? =some a->O[k]? =some c->jd K ca H F θ a c
theorem Now.there{K:PySem.W.Frag}{ca:Nat->Addr}{H F:Hp}{θ:List Addr}{O:ax}(n:Now K ca H F θ O){a:Addr}(h:a∈θ):∃o,H a=some o:=by
 obtain⟨k,hk,e⟩:=List.getElem_of_mem h
 have h1:θ[k]? =some a:=by rw[List.getElem?_eq_getElem hk,e]
 have h2:∃c,O[k]? =some c:=⟨O[k]'(by rw[<- n.ln];exact hk),List.getElem?_eq_getElem _⟩
 obtain⟨c,h2⟩:=h2
 exact(n.ce k a c h1 h2).there
theorem Now.nil{K:PySem.W.Frag}{ca:Nat->Addr}{H F:Hp}(h:bF F H):Now K ca H F [] []:=⟨h,List.nodup_nil,rfl,λk a c e _=>by simp at e⟩
structure BS(K:PySem.W.Frag)(ca:Nat->Addr)(σ:St)(H F:Hp)(θ:List Addr)(s:S):Prop where
 now:Now K ca H F θ s.o
 len:σ.length=s.r.length
 sl:∀(i:Nat) d,s.r[i]? =some (some d)->∃v,σ[i]? =some (some v)/\Rep K ca θ F d v
theorem BS.newF{K:PySem.W.Frag}{ca:Nat->Addr}{σ:St}{H F:Hp}{θ:List Addr}{s:S}(b:BS K ca σ H F θ s){p:Addr}(hp:H p=none)(o:HO):
 Stp H F θ (upd H p o) (upd F p o) θ/\BS K ca σ (upd H p o) (upd F p o) θ s/\bF F (upd F p o)/\upd F p o p=some o:=by
 have nm:∀a u,H a=some u->a≠p:=λa u e z=>by rw[z,hp] at e;cases e
 have fp:F p=none:=by
  cases e:F p with
  | none=>rfl
  | some u=>rw[b.now.fh p u e] at hp;cases hp
 have sF:bF F (upd F p o):=λa u e=>by rw[aP (nm a u (b.now.fh a u e))];exact e
 have sH:bF H (upd H p o):=λa u e=>by rw[aP (nm a u e)];exact e
 refine⟨⟨sF,⟨[],by simp,by simp⟩,λa u e _=>sH a u e,λa u e=>⟨u,sH a u e⟩,λa u e=> ?_⟩,⟨⟨λa u e=> ?_,b.now.nd,b.now.ln,λk a c e1 e2=> ?_⟩,b.len,λi d e=> ?_⟩,sF,cC⟩
 ·by_cases h:a=p
  ·subst h;exact .inr (.inl hp)
  ·rw[aP h] at e;exact .inl e
 ·by_cases h:a=p
  ·subst h;rw[cC] at e ⊢;exact e
  ·rw[aP h] at e ⊢;exact b.now.fh a u e
 ·have q:=b.now.ce k a c e1 e2
  obtain⟨u,hu⟩:=q.there
  have ne:=nm a u hu
  cases c with
  | dead=>exact⟨u,sH a u hu⟩
  | lst ds=>
   obtain⟨q1,xs,q2,q3⟩:=q
   exact⟨by rw[aP ne];exact q1,xs,sH _ _ q2,q3.mono sF ⟨[],by simp⟩⟩
  | ins c ns ds=>
   obtain⟨q1,dx,xs,q2,q3,q4⟩:=q
   exact⟨by rw[aP ne];exact q1,dx,xs,sH _ _ q2,q3,q4.mono sF ⟨[],by simp⟩⟩
 ·obtain⟨v,h1,h2⟩:=b.sl i d e
  exact⟨v,h1,h2.mono sF ⟨[],by simp⟩⟩
theorem BS.newC{K:PySem.W.Frag}{ca:Nat->Addr}{σ:St}{H F:Hp}{θ:List Addr}{s:S}(b:BS K ca σ H F θ s){p:Addr}(hp:H p=none){ds:List D}{xs:List V}(hr:aw K ca θ F ds xs):
 Stp H F θ (upd H p (.lst xs)) F (θ++[p])/\BS K ca σ (upd H p (.lst xs)) F (θ++[p]) ⟨s.r,s.o++[.lst ds]⟩/\Rep K ca (θ++[p]) F (.ptr s.o.length) (.ref p):=by
 have nm:∀a u,H a=some u->a≠p:=λa u e z=>by rw[z,hp] at e;cases e
 have fp:F p=none:=by
  cases e:F p with
  | none=>rfl
  | some u=>rw[b.now.fh p u e] at hp;cases hp
 have sH:bF H (upd H p (.lst xs)):=λa u e=>by rw[aP (nm a u e)];exact e
 have pt:p∉θ:=λh=>by obtain⟨u,hu⟩:=b.now.there h;rw[hp] at hu;cases hu
 refine⟨⟨bF.refl _,⟨[p],rfl,by simpa using hp⟩,λa u e _=>sH a u e,λa u e=>⟨u,sH a u e⟩,λa u e=>.inl e⟩,⟨⟨b.now.fh.trans sH, ?_, ?_,λk a c e1 e2=> ?_⟩,b.len,λi d e=> ?_⟩, ?_⟩
 ·refine List.nodup_append.mpr ⟨b.now.nd,by simp,λa ha x hx=> ?_⟩
  rw[List.mem_singleton.mp hx]
  rintro rfl
  exact pt ha
 ·simp[b.now.ln]
 ·by_cases hk:k<θ.length
  ·rw[List.getElem?_append_left hk] at e1
   rw[List.getElem?_append_left (by rw[<- b.now.ln];exact hk)] at e2
   have q:=b.now.ce k a c e1 e2
   obtain⟨u,hu⟩:=q.there
   cases c with
   | dead=>exact⟨u,sH a u hu⟩
   | lst ds=>
    obtain⟨q1,ys,q2,q3⟩:=q
    exact⟨q1,ys,sH _ _ q2,q3.mono (bF.refl _) ⟨[p],rfl⟩⟩
   | ins c ns ds=>
    obtain⟨q1,dx,ys,q2,q3,q4⟩:=q
    exact⟨q1,dx,ys,sH _ _ q2,q3,q4.mono (bF.refl _) ⟨[p],rfl⟩⟩
  ·have hk1:k<(θ++[p]).length:=(List.getElem?_eq_some_iff.mp e1).1
   have hk2:k=θ.length:=by simp at hk1;omega
   subst hk2
   rw[List.getElem?_append_right (Nat.le_refl _)] at e1
   rw[List.getElem?_append_right (by rw[b.now.ln];exact Nat.le_refl _),b.now.ln] at e2
   simp at e1 e2
   subst e1;subst e2
   exact⟨fp,xs,cC,hr.mono (bF.refl _) ⟨[p],rfl⟩⟩
 ·obtain⟨v,h1,h2⟩:=b.sl i d e
  exact⟨v,h1,h2.mono (bF.refl _) ⟨[p],rfl⟩⟩
 ·unfold Rep
  exact⟨p,rfl,by rw[<- b.now.ln];simp⟩
theorem BS.set{K:PySem.W.Frag}{ca:Nat->Addr}{σ:St}{H F:Hp}{θ:List Addr}{s:S}(b:BS K ca σ H F θ s){d:D}{v:V}(h:Rep K ca θ F d v)(i:Nat):BS K ca (σ.set i (some v)) H F θ ⟨s.r.set i (some d),s.o⟩:=by
 refine⟨b.now,by simp[b.len],λj e hj=> ?_⟩
 by_cases hji:i=j
 ·subst hji
  have hlt:i<s.r.length:=by
   have:=(List.getElem?_eq_some_iff.mp hj).1
   simpa using this
  rw[List.getElem?_set_self hlt] at hj
  cases hj
  exact⟨v,List.getElem?_set_self (by rw[b.len];exact hlt),h⟩
 ·rw[List.getElem?_set_ne hji] at hj
  obtain⟨u,h1,h2⟩:=b.sl j e hj
  exact⟨u,by rw[List.getElem?_set_ne hji];exact h1,h2⟩
abbrev EM:=S->Res (D×S)
abbrev AM:=S->Res (List D×S)
inductive Out where
 | next (s:S) | ret (d:D) (s:S) | brk (s:S) | cnt (s:S) | exc (c:Nat) (a:D) (o:S) | bad
abbrev SM:=S->Out
def PoR{α:Type}(C:Ct)(H F:Hp)(θ:List Addr)(x:Res α)(k:α->Hp->Hp->List Addr->Prop):Prop:=match x with
 | .ok a=>∀H1 F1 θ1,Stp H F θ H1 F1 θ1->k a H1 F1 θ1
 | .exc c a o=>∀H1 F1 θ1,Stp H F θ H1 F1 θ1->Now C.K C.ca H1 F1 θ1 o.o->C.W c a o H1 F1 θ1
 | .bad=>False
abbrev PoE(C:Ct)(σ:St)(H F:Hp)(θ:List Addr)(x:Res (D×S))(Q:VK):Prop:=
 PoR C H F θ x λy H1 F1 θ1=>BS C.K C.ca σ H1 F1 θ1 y.2->∀v,Rep C.K C.ca θ1 F1 y.1 v->Q v H1
abbrev PoA(C:Ct)(σ:St)(H F:Hp)(θ:List Addr)(x:Res (List D×S))(Q:List V->Hp->Prop):Prop:=
 PoR C H F θ x λy H1 F1 θ1=>BS C.K C.ca σ H1 F1 θ1 y.2->∀v,aw C.K C.ca θ1 F1 y.1 v->Q v H1
abbrev PoT(C:Ct)(σ:St)(H F:Hp)(θ:List Addr)(x:Res (Bool×S))(Q:Bool->Hp->Prop):Prop:=
 PoR C H F θ x λy H1 F1 θ1=>BS C.K C.ca σ H1 F1 θ1 y.2->Q y.1 H1
abbrev PoG(C:Ct)(H F:Hp)(θ:List Addr)(x:Res S)(Q:St->Hp->Prop):Prop:=
 PoR C H F θ x λy H1 F1 θ1=>∀σ1,BS C.K C.ca σ1 H1 F1 θ1 y->Q σ1 H1
def PoS(C:Ct)(H F:Hp)(θ:List Addr)(x:Out)(Q:Ends):Prop:=match x with
 | .next s1=>∀σ1 H1 F1 θ1,Stp H F θ H1 F1 θ1->BS C.K C.ca σ1 H1 F1 θ1 s1->Q.nx σ1 H1
 | .ret d s1=>∀v σ1 H1 F1 θ1,Stp H F θ H1 F1 θ1->BS C.K C.ca σ1 H1 F1 θ1 s1->Rep C.K C.ca θ1 F1 d v->Q.rt v H1
 | .brk s1=>∀σ1 H1 F1 θ1,Stp H F θ H1 F1 θ1->BS C.K C.ca σ1 H1 F1 θ1 s1->Q.bk σ1 H1
 | .cnt s1=>∀σ1 H1 F1 θ1,Stp H F θ H1 F1 θ1->BS C.K C.ca σ1 H1 F1 θ1 s1->Q.ct σ1 H1
 | .exc c a o=>∀H1 F1 θ1,Stp H F θ H1 F1 θ1->Now C.K C.ca H1 F1 θ1 o.o->C.W c a o H1 F1 θ1
 | .bad=>False
theorem PoR.after{α:Type}{C:Ct}{H F H1 F1:Hp}{θ θ1:List Addr}{x:Res α}{k:α->Hp->Hp->List Addr->Prop}(st:Stp H F θ H1 F1 θ1)(p:PoR C H F θ x k):PoR C H1 F1 θ1 x k:=by
 unfold PoR at p ⊢
 cases x with
 | ok a=>exact λH2 F2 θ2 s2=>p H2 F2 θ2 (st.trans s2)
 | exc c a o=>exact λH2 F2 θ2 s2 n=>p H2 F2 θ2 (st.trans s2) n
 | bad=>exact p
theorem PoR.bind {α β:Type} {C:Ct} {H F:Hp} {θ:List Addr} {x:Res α} {f:α->Res β} {k:α->Hp->Hp->List Addr->Prop} {j:β->Hp->Hp->List Addr->Prop}
 (p:PoR C H F θ (x.bind f) j) (h:∀a H1 F1 θ1,x=.ok a->Stp H F θ H1 F1 θ1->PoR C H1 F1 θ1 (f a) j->k a H1 F1 θ1):PoR C H F θ x k:=by
 cases x with
 | ok a=>exact λH1 F1 θ1 st=>h a H1 F1 θ1 rfl st (PoR.after st p)
 | exc c a o=>exact p
 | bad=>exact p
theorem PoR.imp{α:Type}{C:Ct}{H F:Hp}{θ:List Addr}{x:Res α}{k j:α->Hp->Hp->List Addr->Prop}(p:PoR C H F θ x j)(h:∀a H1 F1 θ1,x=.ok a->Stp H F θ H1 F1 θ1->j a H1 F1 θ1->k a H1 F1 θ1):PoR C H F θ x k:=by
 cases x with
 | ok a=>exact λH1 F1 θ1 st=>h a H1 F1 θ1 rfl st (p H1 F1 θ1 st)
 | exc c a o=>exact p
 | bad=>exact p
theorem PoS.after{C:Ct}{H F H1 F1:Hp}{θ θ1:List Addr}{x:Out}{Q:Ends}(st:Stp H F θ H1 F1 θ1)(p:PoS C H F θ x Q):PoS C H1 F1 θ1 x Q:=by
 unfold PoS at p ⊢
 cases x with
 | next s=>exact λv H2 F2 θ2 s2 b=>p v H2 F2 θ2 (st.trans s2) b
 | ret d s=>exact λv σ2 H2 F2 θ2 s2 b r=>p v σ2 H2 F2 θ2 (st.trans s2) b r
 | brk s=>exact λv H2 F2 θ2 s2 b=>p v H2 F2 θ2 (st.trans s2) b
 | cnt s=>exact λv H2 F2 θ2 s2 b=>p v H2 F2 θ2 (st.trans s2) b
 | exc c a o=>exact λH2 F2 θ2 s2 n=>p H2 F2 θ2 (st.trans s2) n
 | bad=>exact p
def Res.out{α:Type}(x:Res α)(f:α->Out):Out:=match x with
 | .ok a=>f a
 | .exc c a o=>.exc c a o
 | .bad=>.bad
@[simp] theorem gA {α:Type} (a:α) (f:α->Out):(Res.ok a).out f=f a:=rfl
@[simp] theorem Mr {α:Type} (c:Nat) (a:D) (o:S) (f:α->Out):(Res.exc c a o:Res α).out f=.exc c a o:=rfl
@[simp] theorem L8 {α:Type} (f:α->Out):(Res.bad:Res α).out f=.bad:=rfl
theorem PoS.out {α:Type} {C:Ct} {H F:Hp} {θ:List Addr} {x:Res α} {f:α->Out} {k:α->Hp->Hp->List Addr->Prop} {Q:Ends}
 (p:PoS C H F θ (x.out f) Q) (h:∀a H1 F1 θ1,x=.ok a->Stp H F θ H1 F1 θ1->PoS C H1 F1 θ1 (f a) Q->k a H1 F1 θ1):PoR C H F θ x k:=by
 cases x with
 | ok a=>exact λH1 F1 θ1 st=>h a H1 F1 θ1 rfl st (PoS.after st p)
 | exc c a o=>exact p
 | bad=>exact p
def RdE(C:Ct)(t:TE)(m:EM):Prop:=∀σ H F θ s Q,BS C.K C.ca σ H F θ s->PoE C σ H F θ (m s) Q->t σ H Q
def RdA(C:Ct)(t:TA)(m:AM):Prop:=∀σ H F θ s Q,BS C.K C.ca σ H F θ s->PoA C σ H F θ (m s) Q->t σ H Q
abbrev TM:=S->Res (Bool×S)
def RdT(C:Ct)(t:TT)(m:TM):Prop:=∀σ H F θ s Q,BS C.K C.ca σ H F θ s->PoT C σ H F θ (m s) Q->t σ H Q
abbrev GM:=D->S->Res S
def RdG(C:Ct)(t:TG)(m:GM):Prop:=∀σ H F θ s d v Q,BS C.K C.ca σ H F θ s->Rep C.K C.ca θ F d v->PoG C H F θ (m d s) Q->t v σ H Q
def RdS(C:Ct)(t:TS)(m:SM):Prop:=∀σ H F θ s Q,BS C.K C.ca σ H F θ s->PoS C H F θ (m s) Q->t Q σ H
end M
set_option maxRecDepth 100000
set_option maxHeartbeats 4000000
namespace M
open PySem L2
section
variable {C : Ct}
@[simp] theorem fg {K ca θ F v}:Rep K ca θ F .non v↔v=.non:=by unfold Rep;exact Iff.rfl
@[simp] theorem cA {K ca θ F v b}:Rep K ca θ F (.bl b) v↔v=.bl b:=by unfold Rep;exact Iff.rfl
@[simp] theorem bj {K ca θ F v i}:Rep K ca θ F (.int i) v↔v=.int i:=by unfold Rep;exact Iff.rfl
@[simp] theorem dg {K ca θ F v x}:Rep K ca θ F (.str x) v↔v=.str x:=by unfold Rep;exact Iff.rfl
def aa(i:Nat):EM:=λs=>match s.r[i]? with
 | some (some d)=>.ok (d,s)
 | _=>.bad
theorem ae(i:Nat):RdE C (Ez i) (aa i):=by
 intro σ H F θ s Q b p
 unfold aa at p
 split at p
 ·rename_i d e
  obtain⟨v,h1,h2⟩:=b.sl i d e
  exact⟨v,h1,p H F θ .refl b v h2⟩
 ·exact p.elim
def ao(d:D):EM:=λs=>.ok (d,s)
theorem aC(i:Int):RdE C (tC (.int i)) (ao (.int i)):=λσ H F θ s Q b p=>p H F θ .refl b (.int i) (bj.mpr rfl)
theorem kT(i:Bool):RdE C (tC (.bl i)) (ao (.bl i)):=λσ H F θ s Q b p=>p H F θ .refl b (.bl i) (cA.mpr rfl)
theorem uT(i:Str):RdE C (tC (.str i)) (ao (.str i)):=λσ H F θ s Q b p=>p H F θ .refl b (.str i) (dg.mpr rfl)
theorem yK:RdE C (tC .non) (ao .non):=λσ H F θ s Q b p=>p H F θ .refl b .non (fg.mpr rfl)
abbrev Op2:=ax->D->D->Res D
abbrev Op1:=ax->D->Res D
def fY(C:Ct)(r:R2)(f:Op2):Prop:=∀σ H F θ s x y v w Q,BS C.K C.ca σ H F θ s->Rep C.K C.ca θ F x v->Rep C.K C.ca θ F y w->
 PoE C σ H F θ ((f s.o x y).bind λd=>.ok (d,s)) Q->r v w H Q
def aj(f:Op2)(ma mb:EM):EM:=λs=>(ma s).bind λx=>(mb x.2).bind λy=>(f y.2.o x.1 y.1).bind λd=>.ok (d,y.2)
theorem ar{r:R2}{f:Op2}{ta tb:TE}{ma mb:EM}(ho:fY C r f)(ha:RdE C ta ma)(hb:RdE C tb mb):RdE C (tOp r ta tb) (aj f ma mb):=by
 intro σ H F θ s Q b p
 refine ha σ H F θ s _ b (PoR.bind p ?_)
 rintro ⟨x,s1⟩ H1 F1 θ1 _ st1 p1 b1 v r1
 refine hb σ H1 F1 θ1 s1 _ b1 (PoR.bind p1 ?_)
 rintro ⟨y,s2⟩ H2 F2 θ2 _ st2 p2 b2 w r2
 exact ho σ H2 F2 θ2 s2 x y v w Q b2 (r1.mono st2.ff st2.pre) r2 p2
def Ka(C:Ct)(r:V->Hp->VK->Prop)(f:Op1):Prop:=∀σ H F θ s x v Q,BS C.K C.ca σ H F θ s->Rep C.K C.ca θ F x v->
 PoE C σ H F θ ((f s.o x).bind λd=>.ok (d,s)) Q->r v H Q
def unM(f:Op1)(ma:EM):EM:=λs=>(ma s).bind λx=>(f x.2.o x.1).bind λd=>.ok (d,x.2)
theorem pZ{r:V->Hp->VK->Prop}{f:Op1}{ta:TE}{ma:EM}(ho:Ka C r f)(ha:RdE C ta ma):RdE C (tUn r ta) (unM f ma):=by
 intro σ H F θ s Q b p
 refine ha σ H F θ s _ b (PoR.bind p ?_)
 rintro ⟨x,s1⟩ H1 F1 θ1 _ st1 p1 b1 v r1
 exact ho σ H1 F1 θ1 s1 x v Q b1 r1 p1
def ak:AM:=λs=>.ok ([],s)
def ab(m:EM)(r:AM):AM:=λs=>(m s).bind λx=>(r x.2).bind λy=>.ok (x.1::y.1,y.2)
theorem av:RdA C qI ak:=λσ H F θ s Q b p=>p H F θ .refl b [] aw.nil
theorem ah{te:TE}{ta:TA}{m:EM}{r:AM}(he:RdE C te m)(ha:RdA C ta r):RdA C (oj te ta) (ab m r):=by
 intro σ H F θ s Q b p
 refine he σ H F θ s _ b (PoR.bind p ?_)
 rintro ⟨x,s1⟩ H1 F1 θ1 _ st1 p1 b1 v r1
 refine ha σ H1 F1 θ1 s1 _ b1 (PoR.bind p1 ?_)
 rintro ⟨y,s2⟩ H2 F2 θ2 _ st2 p2 b2 w r2
 exact p2 H2 F2 θ2 .refl b2 (v::w) (aw.cons (r1.mono st2.ff st2.pre) r2)
abbrev OpN:=ax->List D->Res D
def j9(C:Ct)(r:List V->Hp->VK->Prop)(f:OpN):Prop:=∀σ H F θ s xs vs Q,BS C.K C.ca σ H F θ s->aw C.K C.ca θ F xs vs->
 PoE C σ H F θ ((f s.o xs).bind λd=>.ok (d,s)) Q->r vs H Q
def bC(f:OpN)(ma:AM):EM:=λs=>(ma s).bind λx=>(f x.2.o x.1).bind λd=>.ok (d,x.2)
theorem br{r:List V->Hp->VK->Prop}{f:OpN}{ta:TA}{ma:AM}(hc:j9 C r f)(ha:RdA C ta ma):RdE C (tCB r ta) (bC f ma):=by
 intro σ H F θ s Q b p
 refine ha σ H F θ s _ b (PoR.bind p ?_)
 rintro ⟨x,s1⟩ H1 F1 θ1 _ st1 p1 b1 v r1
 exact hc σ H1 F1 θ1 s1 x v Q b1 r1 p1
def rO(ma:AM):EM:=λs=>(ma s).bind λx=>if x.1.length<=16777216 then .ok (.tup x.1,x.2) else .bad
theorem uv{ta:TA}{ma:AM}(ha:RdA C ta ma):RdE C (Jf ta) (rO ma):=by
 intro σ H F θ s Q b p
 refine ha σ H F θ s _ b (PoR.bind p ?_)
 rintro ⟨x,s1⟩ H1 F1 θ1 _ st1 p1 b1 v r1
 dsimp only at p1
 split at p1
 ·rename_i hl
  refine⟨by rw[r1.length];exact hl,λq hq=> ?_⟩
  obtain⟨st,b2,sF,e⟩:=b1.newF hq (.tup v)
  refine p1 _ _ _ st b2 _ ?_
  unfold Rep
  exact⟨q,v,rfl,SqT.of e,r1.mono sF ⟨[],by simp⟩⟩
 ·exact p1.elim
def vN(ma:AM):EM:=λs=>(ma s).bind λx=>if x.1.length<=16777216 then .ok (.lst x.1,x.2) else .bad
theorem C5{ta:TA}{ma:AM}(ha:RdA C ta ma):RdE C (zh ta) (vN ma):=by
 intro σ H F θ s Q b p
 refine ha σ H F θ s _ b (PoR.bind p ?_)
 rintro ⟨x,s1⟩ H1 F1 θ1 _ st1 p1 b1 v r1
 dsimp only at p1
 split at p1
 ·rename_i hl
  refine⟨by rw[r1.length];exact hl,λq hq=> ?_⟩
  obtain⟨st,b2,sF,e⟩:=b1.newF hq (.lst v)
  refine p1 _ _ _ st b2 _ ?_
  unfold Rep
  exact⟨q,v,rfl,SqL.of e,r1.mono sF ⟨[],by simp⟩⟩
 ·exact p1.elim
def jc(ma:AM):EM:=λs=>(ma s).bind λx=>if x.1.length<=16777216 then .ok (.ptr x.2.o.length,⟨x.2.r,x.2.o++[.lst x.1]⟩) else .bad
theorem jK{ta:TA}{ma:AM}(ha:RdA C ta ma):RdE C (zh ta) (jc ma):=by
 intro σ H F θ s Q b p
 refine ha σ H F θ s _ b (PoR.bind p ?_)
 rintro ⟨x,s1⟩ H1 F1 θ1 _ st1 p1 b1 v r1
 dsimp only at p1
 split at p1
 ·rename_i hl
  refine⟨by rw[r1.length];exact hl,λq hq=> ?_⟩
  obtain⟨st,b2,rp⟩:=b1.newC hq r1
  exact p1 _ _ _ st b2 _ rp
 ·exact p1.elim
def aZ(m:EM):TM:=λs=>(m s).bind λx=>match x.1 with
 | .bl b=>.ok (b,x.2)
 | _=>.bad
theorem bK{t:TE}{m:EM}(h:RdE C t m):RdT C (GC t) (aZ m):=by
 intro σ H F θ s Q b p
 refine h σ H F θ s _ b (PoR.bind p ?_)
 rintro ⟨x,s1⟩ H1 F1 θ1 _ st1 p1 b1 v r1
 cases x <;> first | exact False.elim p1 | skip
 rename_i k _
 exact⟨k,cA.mp r1,p1 _ _ _ .refl b1⟩
theorem ou{t:TE}{m:EM}(h:RdE C t m):RdT C (tB t) (aZ m):=bK h
def tw(a b:TM):TM:=λs=>(a s).bind λx=>if x.1 then b x.2 else .ok (false,x.2)
def orT(a b:TM):TM:=λs=>(a s).bind λx=>if x.1 then .ok (true,x.2) else b x.2
def kR(a:TM):TM:=λs=>(a s).bind λx=>.ok (!x.1,x.2)
theorem DU{t u:TT}{a b:TM}(ha:RdT C t a)(hb:RdT C u b):RdT C (J6 t u) (tw a b):=by
 intro σ H F θ s Q bs p
 refine ha σ H F θ s _ bs (PoR.bind p ?_)
 rintro ⟨x,s1⟩ H1 F1 θ1 _ st1 p1 b1
 cases x with
 | true=>exact qM (hb σ H1 F1 θ1 s1 Q b1 p1)
 | false=>exact rH (p1 _ _ _ .refl b1)
theorem qi{t u:TT}{a b:TM}(ha:RdT C t a)(hb:RdT C u b):RdT C (tOr t u) (orT a b):=by
 intro σ H F θ s Q bs p
 refine ha σ H F θ s _ bs (PoR.bind p ?_)
 rintro ⟨x,s1⟩ H1 F1 θ1 _ st1 p1 b1
 cases x with
 | true=>exact qM (p1 _ _ _ .refl b1)
 | false=>exact rH (hb σ H1 F1 θ1 s1 Q b1 p1)
theorem nP{t:TT}{a:TM}(ha:RdT C t a):RdT C (JB t) (kR a):=by
 intro σ H F θ s Q bs p
 refine ha σ H F θ s _ bs (PoR.bind p ?_)
 rintro ⟨x,s1⟩ H1 F1 θ1 _ st1 p1 b1
 exact p1 _ _ _ .refl b1
def yj(a b:EM):EM:=λs=>(a s).bind λx=>match x.1 with
 | .bl true=>b x.2
 | .bl false=>.ok (.bl false,x.2)
 | _=>.bad
def orV(a b:EM):EM:=λs=>(a s).bind λx=>match x.1 with
 | .bl true=>.ok (.bl true,x.2)
 | .bl false=>b x.2
 | _=>.bad
def zy(a:EM):EM:=λs=>(a s).bind λx=>match x.1 with
 | .bl k=>.ok (.bl (!k),x.2)
 | _=>.bad
theorem AX{t u:TE}{a b:EM}(ha:RdE C t a)(hb:RdE C u b):RdE C (Gs t u) (yj a b):=by
 intro σ H F θ s Q bs p
 refine ha σ H F θ s _ bs (PoR.bind p ?_)
 rintro ⟨x,s1⟩ H1 F1 θ1 _ st1 p1 b1 v r1
 cases x <;> first | exact False.elim p1 | skip
 rename_i k _
 refine⟨k,cA.mp r1, ?_⟩
 cases k with
 | true=>exact qM (hb σ H1 F1 θ1 s1 Q b1 p1)
 | false=>exact rH (p1 _ _ _ .refl b1 _ (cA.mpr rfl))
theorem A1{t:TE}{a:EM}(ha:RdE C t a):RdE C (GG t) (zy a):=by
 intro σ H F θ s Q bs p
 refine ha σ H F θ s _ bs (PoR.bind p ?_)
 rintro ⟨x,s1⟩ H1 F1 θ1 _ st1 p1 b1 v r1
 cases x <;> first | exact False.elim p1 | skip
 rename_i k _
 exact⟨k,cA.mp r1,p1 _ _ _ .refl b1 _ (cA.mpr rfl)⟩
def ifM(c:TM)(a b:EM):EM:=λs=>(c s).bind λx=>if x.1 then a x.2 else b x.2
def Out.then(x:Out)(f:S->Out):Out:=match x with
 | .next s=>f s
 | o=>o
@[simp] theorem wa (s:S) (f:S->Out):(Out.next s).then f=f s:=rfl
@[simp] theorem LV (d:D) (s:S) (f:S->Out):(Out.ret d s).then f=.ret d s:=rfl
@[simp] theorem LH (s:S) (f:S->Out):(Out.brk s).then f=.brk s:=rfl
@[simp] theorem LD (s:S) (f:S->Out):(Out.cnt s).then f=.cnt s:=rfl
@[simp] theorem LA (c:Nat) (a:D) (o:S) (f:S->Out):(Out.exc c a o).then f=.exc c a o:=rfl
@[simp] theorem Ls (f:S->Out):Out.bad.then f=.bad:=rfl
def aJ(a b:SM):SM:=λs=>(a s).then b
def bN:SM:=λs=>.next s
theorem bP:RdS C GK bN:=λσ H F θ s Q b p=>p σ H F θ .refl b
theorem aF{t u:TS}{a b:SM}(ha:RdS C t a)(hb:RdS C u b):RdS C (JL t u) (aJ a b):=by
 intro σ H F θ s Q bs p
 refine ha σ H F θ s _ bs ?_
 unfold aJ at p
 cases e:a s with
 | next s1=>
  rw[e] at p
  intro σ1 H1 F1 θ1 st1 b1
  exact hb σ1 H1 F1 θ1 s1 Q b1 (PoS.after st1 p)
 | ret d s1=>rw[e] at p;exact p
 | brk s1=>rw[e] at p;exact p
 | cnt s1=>rw[e] at p;exact p
 | exc c a o=>rw[e] at p;exact p
 | bad=>rw[e] at p;exact p
def dR(m:EM):SM:=λs=>(m s).out λx=>.next x.2
theorem dB{t:TE}{m:EM}(h:RdE C t m):RdS C (Gz t) (dR m):=by
 intro σ H F θ s Q b p
 refine h σ H F θ s _ b (PoS.out p ?_)
 rintro ⟨x,s1⟩ H1 F1 θ1 _ st1 p1 b1 v r1
 exact p1 σ H1 F1 θ1 .refl b1
def bH(m:EM):SM:=λs=>(m s).out λx=>.ret x.1 x.2
theorem bo{t:TE}{m:EM}(h:RdE C t m):RdS C (JY t) (bH m):=by
 intro σ H F θ s Q b p
 refine h σ H F θ s _ b (PoS.out p ?_)
 rintro ⟨x,s1⟩ H1 F1 θ1 _ st1 p1 b1 v r1
 exact p1 v σ H1 F1 θ1 .refl b1 r1
def Lr:SM:=λs=>.ret .non s
def ifS(c:TM)(a b:SM):SM:=λs=>(c s).out λx=>if x.1 then a x.2 else b x.2
theorem cV{t:TT}{u w:TS}{c:TM}{a b:SM}(hc:RdT C t c)(ha:RdS C u a)(hb:RdS C w b):RdS C (JZ t u w) (ifS c a b):=by
 intro σ H F θ s Q bs p
 refine hc σ H F θ s _ bs (PoS.out p ?_)
 rintro ⟨x,s1⟩ H1 F1 θ1 _ st1 p1 b1
 cases x with
 | true=>exact qM (ha σ H1 F1 θ1 s1 Q b1 p1)
 | false=>exact rH (hb σ H1 F1 θ1 s1 Q b1 p1)
def qD:SM:=λ_=>.bad
theorem ki:RdS C DF qD:=λσ H F θ s Q b p=>p
def aA(i:Nat):GM:=λd s=>.ok ⟨s.r.set i (some d),s.o⟩
theorem aN(i:Nat):RdG C (rV i) (aA i):=λσ H F θ s d v Q b r p=>p H F θ .refl _ (b.set r i)
def BU(C:Ct)(t:TGs)(m:List D->S->Res S):Prop:=∀σ H F θ s ds vs Q,BS C.K C.ca σ H F θ s->aw C.K C.ca θ F ds vs->PoG C H F θ (m ds s) Q->t vs σ H Q
def cN:List D->S->Res S:=λds s=>match ds with
 | []=>.ok s
 | _=>.bad
def aQ(g:GM)(r:List D->S->Res S):List D->S->Res S:=λds s=>match ds with
 | d::ds=>(g d s).bind λs1=>r ds s1
 | []=>.bad
theorem gu:BU C JU cN:=by
 intro σ H F θ s ds vs Q b r p
 cases ds with
 | nil=>exact⟨by unfold aw at r;exact r,p H F θ .refl σ b⟩
 | cons d ds=>exact False.elim p
theorem cx{t:TG}{u:TGs}{g:GM}{m:List D->S->Res S}(hg:RdG C t g)(hr:BU C u m):BU C (GH t u) (aQ g m):=by
 intro σ H F θ s ds vs Q b r p
 cases ds with
 | nil=>exact False.elim p
 | cons d ds=>
  unfold aw at r
  obtain⟨v,w,rfl,r1,r2⟩:=r
  refine⟨v,w,rfl,hg σ H F θ s d v _ b r1 (PoR.bind p ?_)⟩
  intro s1 H1 F1 θ1 _ st1 p1 σ1 b1
  exact hr σ1 H1 F1 θ1 s1 ds w Q b1 (r2.mono st1.ff st1.pre) p1
def cH(m:List D->S->Res S)(n:Nat):GM:=λd s=>match d with
 | .tup ds=>if ds.length=n then m ds s else .bad
 | _=>.bad
theorem gh{n:Nat}{t:TGs}{m:List D->S->Res S}(h:BU C t m):RdG C (Kh C.K n t) (cH m n):=by
 intro σ H F θ s d v Q b r p
 cases d <;> first | exact False.elim p | skip
 rename_i ds
 unfold Rep at r
 obtain⟨a,xs,rfl,hs,hr⟩:=r
 unfold cH at p
 dsimp only at p
 split at p
 ·rename_i hl
  exact⟨a,xs,rfl,bF.seqT b.now.fh hs,by rw[hr.length];exact hl,h σ H F θ s ds xs Q b hr p⟩
 ·exact False.elim p
def kX(m:EM)(g:GM):SM:=λs=>((m s).bind λx=>g x.1 x.2).out λs=>.next s
theorem uf{t:TE}{m:EM}{g:TG}{gm:GM}(h:RdE C t m)(hg:RdG C g gm):RdS C (xR t g) (kX m gm):=by
 intro σ H F θ s Q b p
 have p':PoG C H F θ ((m s).bind λx=>gm x.1 x.2) Q.nx:=PoS.out p λs1 H1 F1 θ1 _ st1 p1 σ1 b1=>p1 σ1 H1 F1 θ1 .refl b1
 refine h σ H F θ s _ b (PoR.bind p' ?_)
 rintro ⟨x,s1⟩ H1 F1 θ1 _ st1 p1 b1 v r1
 exact hg σ H1 F1 θ1 s1 x v Q.nx b1 r1 p1
abbrev setM(i:Nat)(m:EM):SM:=kX m (aA i)
theorem aS{t:TE}{m:EM}{i:Nat}(h:RdE C t m):RdS C (xR t (rV i)) (setM i m):=uf h (aN i)
def LJ(i:Nat)(f:Op2)(m:EM):SM:=setM i (aj f (aa i) m)
end
end M
set_option maxRecDepth 100000
set_option maxHeartbeats 4000000
namespace M
open PySem PySem.Spec PyProof.Rows L2
section
variable {C : Ct}
structure qK(C:Ct)(J:It)(ds:List D)(ok:ax->Prop)(H F:Hp)(θ:List Addr):Prop where
 go:∀(i:Nat) H2 F2 θ2 O2,i<ds.length->Stp H F θ H2 F2 θ2->Now C.K C.ca H2 F2 θ2 O2->ok O2->J.go i H2
 yl:∀(i:Nat) d σ H2 F2 θ2 s2 x H3,ds[i]? =some d->Stp H F θ H2 F2 θ2->BS C.K C.ca σ H2 F2 θ2 s2->ok s2.o->J.yld i H2 x H3->∃F3,Stp H2 F2 θ2 H3 F3 θ2/\BS C.K C.ca σ H3 F3 θ2 s2/\Rep C.K C.ca θ2 F3 d x
 st:∀(i:Nat) H2 F2 θ2 O2,ds.length<=i->Stp H F θ H2 F2 θ2->Now C.K C.ca H2 F2 θ2 O2->ok O2->J.stop i H2
def okC(ds:List D):Option Nat->ax->Prop
 | none,_=>True
 | some k,O=>O[k]? =some (.lst ds)
abbrev IM:=S->Res ((List D×Option Nat)×S)
def RdI(C:Ct)(wi:TI)(im:IM):Prop:=∀σ H F θ s R,BS C.K C.ca σ H F θ s->
 PoR C H F θ (im s) (λy H1 F1 θ1=>BS C.K C.ca σ H1 F1 θ1 y.2->∀J,qK C J y.1.1 (okC y.1.1 y.1.2) H1 F1 θ1->R J H1)->wi σ H R
open Classical in
noncomputable def bS (ok:ax->Prop)(g:GM)(body:SM):List D->S->Out
 | [],s=>if ok s.o then .next s else .bad
 | d::ds,s=>if ok s.o then (g d s).out λs1=>match body s1 with
  | .next s2=>bS ok g body ds s2
  | .cnt s2=>bS ok g body ds s2
  | .brk s2=>.next s2
  | o=>o
  else .bad
noncomputable def eG (im:IM)(g:GM)(body:SM):SM:=λs=>(im s).out λy=>bS (okC y.1.1 y.1.2) g body y.1.1 y.2
theorem dQ{wi:TI}{g:TG}{tb:TS}{im:IM}{gm:GM}{bm:SM}(hi:RdI C wi im)(hg:RdG C g gm)(hb:RdS C tb bm):RdS C (Jq wi g tb) (eG im gm bm):=by
 intro σ H F θ s Q b p
 refine hi σ H F θ s _ b (PoS.out p ?_)
 rintro ⟨⟨ds,k⟩,s1⟩ H1 F1 θ1 _ st1 p1 b1 J it
 dsimp only at p1 it b1
 refine⟨λi m σ' H'=>m=ds.length-i/\i<=ds.length/\∃F' θ' s',Stp H1 F1 θ1 H' F' θ'/\BS C.K C.ca σ' H' F' θ' s'/\PoS C H' F' θ' (bS (okC ds k) gm bm (ds.drop i) s') Q,⟨ds.length,by simp,Nat.zero_le _,F1,θ1,s1,.refl,b1,by simpa using p1⟩, ?_⟩
 rintro i m σ' H' ⟨rfl,hil,F',θ',s',st,bs,po⟩
 by_cases lt:i<ds.length
 ·right
  rw[List.drop_eq_getElem_cons lt,bS] at po
  split at po
  ·rename_i hok
   refine⟨it.go i H' F' θ' s'.o lt st bs.now hok,λσ2 H2=>i+1<=ds.length/\∃F2 θ2 s2,Stp H1 F1 θ1 H2 F2 θ2/\BS C.K C.ca σ2 H2 F2 θ2 s2/\PoS C H2 F2 θ2 (bS (okC ds k) gm bm (ds.drop (i+1)) s2) Q,λσ2 H2 n=>⟨ds.length-(i+1),by omega,rfl,n⟩, ?_⟩
   intro x H3 hy
   obtain⟨F3,st3,b3,rp⟩:=it.yl i ds[i] σ' H' F' θ' s' x H3 (List.getElem?_eq_getElem lt) st bs hok hy
   refine hg σ' H3 F3 θ' s' ds[i] x _ b3 rp (PoS.out (PoS.after st3 po) ?_)
   intro s4 H4 F4 θ4 _ st4 p4 σ4 b4
   refine hb σ4 H4 F4 θ4 s4 _ b4 ?_
   have fin:∀s5,PoS C H4 F4 θ4 (bS (okC ds k) gm bm (ds.drop (i+1)) s5) Q->∀σ5 H5 F5 θ5,Stp H4 F4 θ4 H5 F5 θ5->BS C.K C.ca σ5 H5 F5 θ5 s5->i+1<=ds.length/\∃F2 θ2 s2,Stp H1 F1 θ1 H5 F2 θ2/\BS C.K C.ca σ5 H5 F2 θ2 s2/\PoS C H5 F2 θ2 (bS (okC ds k) gm bm (ds.drop (i+1)) s2) Q:=
    λs5 p5 σ5 H5 F5 θ5 st5 b5=>⟨lt,F5,θ5,s5,st.trans (st3.trans (st4.trans st5)),b5,PoS.after st5 p5⟩
   cases e:bm s4 with
   | next s5=>rw[e] at p4;exact fin s5 p4
   | cnt s5=>rw[e] at p4;exact fin s5 p4
   | brk s5=>rw[e] at p4;exact p4
   | ret d s5=>rw[e] at p4;exact p4
   | exc c a o=>rw[e] at p4;exact p4
   | bad=>rw[e] at p4;exact p4
  ·exact False.elim po
 ·left
  rw[List.drop_eq_nil_of_le (by omega),bS] at po
  split at po
  ·rename_i hok
   exact⟨it.st i H' F' θ' s'.o (by omega) st bs.now hok,po σ' H' F' θ' .refl bs⟩
  ·exact False.elim po
def iM(c:TM)(b:SM):Nat->S->Out
 | 0,_=>.bad
 | n+1,s=>(c s).out λx=>if x.1 then (match b x.2 with
  | .next s2=>iM c b n s2
  | .cnt s2=>iM c b n s2
  | .brk s2=>.next s2
  | o=>o) else .next x.2
def rn(φ:S->Nat)(c:TM)(b:SM):SM:=λs=>iM c b (φ s) s
theorem zO{tc:TT}{tb:TS}{φ:S->Nat}{c:TM}{b:SM}(hc:RdT C tc c)(hb:RdS C tb b):RdS C (C3 tc tb) (rn φ c b):=by
 intro σ H F θ s Q bs p
 refine⟨λm σ' H'=>∃F' θ' s',BS C.K C.ca σ' H' F' θ' s'/\PoS C H' F' θ' (iM c b m s') Q,⟨φ s,F,θ,s,bs,p⟩, ?_⟩
 rintro m σ' H' ⟨F',θ',s',b',po⟩
 cases m with
 | zero=>exact False.elim po
 | succ m=>
  rw[iM] at po
  refine hc σ' H' F' θ' s' _ b' (PoS.out po ?_)
  rintro ⟨x,s1⟩ H1 F1 θ1 _ st1 p1 b1
  cases x with
  | false=>exact rH (p1 σ' H1 F1 θ1 .refl b1)
  | true=>
   refine qM ⟨λσ2 H2=>∃F2 θ2 s2,BS C.K C.ca σ2 H2 F2 θ2 s2/\PoS C H2 F2 θ2 (iM c b m s2) Q,λσ2 H2 n=>⟨m,Nat.lt_succ_self _,n⟩, ?_⟩
   refine hb σ' H1 F1 θ1 s1 _ b1 ?_
   dsimp only[if_true] at p1
   cases e:b s1 with
   | next s5=>rw[e] at p1;exact λσ5 H5 F5 θ5 st5 b5=>⟨F5,θ5,s5,b5,PoS.after st5 p1⟩
   | cnt s5=>rw[e] at p1;exact λσ5 H5 F5 θ5 st5 b5=>⟨F5,θ5,s5,b5,PoS.after st5 p1⟩
   | brk s5=>rw[e] at p1;exact p1
   | ret d s5=>rw[e] at p1;exact p1
   | exc c a o=>rw[e] at p1;exact p1
   | bad=>rw[e] at p1;exact p1
def itemsOf(O:ax):D->Res (List D×Option Nat)
 | .lst ds=>.ok (ds,none)
 | .ptr k=>match O[k]? with
  | some (.lst ds)=>.ok (ds,some k)
  | _=>.bad
 | _=>.bad
def listI(m:EM):IM:=λs=>(m s).bind λx=>(itemsOf x.2.o x.1).bind λy=>.ok (y,x.2)
theorem IY{a:Addr}{xs:List V}{ds:List D}{H F:Hp}{θ:List Addr}(hs:SqL C.K F a xs)(hr:aw C.K C.ca θ F ds xs)(inj:∀{σ H2 F2 θ2 s2},Stp H F θ H2 F2 θ2->BS C.K C.ca σ H2 F2 θ2 s2->SqL C.K H2 a xs):
 qK C (Itl C.K a) ds (okC ds none) H F θ where
 go:=λi H2 F2 θ2 O2 hi st n _=>by
  obtain⟨x,hx⟩:∃x,xs[i]? =some x:=⟨xs[i]'(by rw[hr.length];exact hi),List.getElem?_eq_getElem _⟩
  exact⟨xs,x,n.fh.seq (st.ff.seq hs),hx⟩
 yl:=λi d σ H2 F2 θ2 s2 x H3 hd st b _ hy=>by
  obtain⟨rfl,hx⟩:=hy
  refine⟨F2,.refl,b, ?_⟩
  obtain⟨v,h1,h2⟩:=hr.get hd
  have:=hx xs (b.now.fh.seq (st.ff.seq hs))
  rw[h1] at this
  cases this
  exact h2.mono st.ff st.pre
 st:=λi H2 F2 θ2 O2 hi st n _=>⟨xs,n.fh.seq (st.ff.seq hs),by rw[hr.length];exact hi⟩
theorem bW{tl:TE}{m:EM}(h:RdE C tl m):RdI C (Gw C.K tl) (listI m):=by
 intro σ H F θ s R b p
 refine h σ H F θ s _ b (PoR.bind p ?_)
 rintro ⟨x,s1⟩ H1 F1 θ1 _ st1 p1 b1 v r1
 dsimp only at p1 b1 r1
 cases x <;> first | exact False.elim p1 | skip
 ·rename_i ds _
  unfold Rep at r1
  obtain⟨a,xs,rfl,hs,hr⟩:=r1
  exact⟨a,rfl,⟨xs,b1.now.fh.seq hs⟩,p1 _ _ _ .refl b1 _ (IY hs hr λst b=>b.now.fh.seq (st.ff.seq hs))⟩
 ·rename_i k _
  unfold Rep at r1
  obtain⟨a,rfl,hk⟩:=r1
  unfold itemsOf at p1
  dsimp only at p1
  split at p1
  ·rename_i ds ek
   obtain⟨q1,xs,q2,q3⟩:jd C.K C.ca H1 F1 θ1 a (.lst ds):=b1.now.ce k a _ hk ek
   refine⟨a,rfl,⟨xs,SqL.of q2⟩,p1 _ _ _ .refl b1 _ ?_⟩
   have cell:∀{H2 F2:Hp} {θ2:List Addr} {O2:ax},Stp H1 F1 θ1 H2 F2 θ2->Now C.K C.ca H2 F2 θ2 O2->O2[k]? =some (.lst ds)->∃ys,SqL C.K H2 a ys/\aw C.K C.ca θ2 F2 ds ys:=λ{H2 F2 θ2 O2} st n e=>by
    have hk2:θ2[k]? =some a:=by
     obtain⟨r,rfl,_⟩:=st.th
     rw[List.getElem?_append_left (List.getElem?_eq_some_iff.mp hk).1]
     exact hk
    obtain⟨_,ys,w2,w3⟩:jd C.K C.ca H2 F2 θ2 a (.lst ds):=n.ce k a _ hk2 e
    exact⟨ys,SqL.of w2,w3⟩
   refine⟨λi H2 F2 θ2 O2 hi st n e=> ?_,λi d σ H2 F2 θ2 s2 x H3 hd st b e hy=> ?_,λi H2 F2 θ2 O2 hi st n e=> ?_⟩
   ·obtain⟨ys,w1,w2⟩:=cell st n e
    exact⟨ys,ys[i]'(by rw[w2.length];exact hi),w1,List.getElem?_eq_getElem _⟩
   ·obtain⟨rfl,hx⟩:=hy
    obtain⟨ys,w1,w2⟩:=cell st b.now e
    obtain⟨v,h1,h2⟩:=w2.get hd
    have:=hx ys w1
    rw[h1] at this
    cases this
    exact⟨F2,.refl,b,h2⟩
   ·obtain⟨ys,w1,w2⟩:=cell st n e
    exact⟨ys,w1,by rw[w2.length];exact hi⟩
  ·exact False.elim p1
def dw(lo hi:Int):List D:=(List.range (hi-lo).toNat).map λi=>.int (lo+(i:Nat))
theorem gr(lo hi:Int):(dw lo hi).length=(hi-lo).toNat:=by unfold dw;simp
theorem FP{lo hi:Int}{H F:Hp}{θ:List Addr}:qK C (Itr lo (hi-lo).toNat) (dw lo hi) (okC (dw lo hi) none) H F θ where
 go:=λi H2 F2 θ2 O2 h st n _=>by rw[gr] at h;exact h
 yl:=λi d σ H2 F2 θ2 s2 x H3 hd st b _ hy=>by
  obtain⟨rfl,rfl⟩:=hy
  refine⟨F2,.refl,b, ?_⟩
  unfold dw at hd
  rw[List.getElem?_map] at hd
  cases e:(List.range (hi-lo).toNat)[i]? with
  | none=>rw[e] at hd;cases hd
  | some j=>
   rw[e] at hd
   cases hd
   obtain⟨_,rfl⟩:∃h,j=i:=⟨trivial,by have:=(List.getElem?_eq_some_iff.mp e).2;simpa using this.symm⟩
   exact bj.mpr rfl
 st:=λi H2 F2 θ2 O2 h st n _=>by rw[gr] at h;exact h
def ij(ma:AM):IM:=λs=>(ma s).bind λx=>match x.1 with
 | [.int j]=>if -(2^62)<=j/\j<2^62 then .ok ((dw 0 j,none),x.2) else .bad
 | _=>.bad
theorem mS{K ca θ F i vs}(h:aw K ca θ F [.int i] vs):vs=[.int i]:=by
 unfold aw at h
 obtain⟨v,r,rfl,h1,h2⟩:=h
 unfold aw at h2
 rw[h2,bj.mp h1]
theorem BW{K ca θ F i j vs}(h:aw K ca θ F [.int i,.int j] vs):vs=[.int i,.int j]:=by
 unfold aw at h
 obtain⟨v,r,rfl,h1,h2⟩:=h
 rw[mS h2,bj.mp h1]
theorem jS{ta:TA}{m:AM}(h:RdA C ta m):RdI C (GL ta) (ij m):=by
 intro σ H F θ s R b p
 refine h σ H F θ s _ b (PoR.bind p ?_)
 rintro ⟨x,s1⟩ H1 F1 θ1 _ st1 p1 b1 v r1
 dsimp only at p1 b1 r1
 split at p1
 ·rename_i j _
  split at p1
  ·rename_i hj
   refine⟨j,mS r1,hj.1,hj.2, ?_⟩
   have:=p1 _ _ _ .refl b1 _ (FP (lo:=0) (hi:=j))
   rw[Int.sub_zero] at this
   exact this
  ·exact False.elim p1
 ·exact False.elim p1
abbrev FM:=List D->ax->Res (D×ax)
def spM(K:PySem.W.Frag)(ca:Nat->Addr)(n:Nat)(f:FM):Sp:=λvs H Q E=>∃F θ ds O,Now K ca H F θ O/\aw K ca θ F ds vs/\ds.length=n/\match f ds O with
 | .ok (d,O1)=>∀v H1 F1 θ1,Stp H F θ H1 F1 θ1->Now K ca H1 F1 θ1 O1->Rep K ca θ1 F1 d v->Q v H1
 | .exc c _ s1=>∀H1 F1 θ1,Stp H F θ H1 F1 θ1->Now K ca H1 F1 θ1 s1.o->E (.ref (ca c)) none H1
 | .bad=>False
def runM(n:Nat)(m:SM):FM:=λds O=>match m ⟨ds.map some++List.replicate (n-ds.length) none,O⟩ with
 | .next s=>.ok (.non,s.o)
 | .ret d s=>.ok (d,s.o)
 | _=>.bad
theorem E6{K:PySem.W.Frag}{ca:Nat->Addr}{N:List Str}{H F:Hp}{θ:List Addr}{O:ax}{ds:List D}{vs:List V}(n:Now K ca H F θ O)(r:aw K ca θ F ds vs):
 BS K ca (L2.start N vs) H F θ ⟨ds.map some++List.replicate (N.length-ds.length) none,O⟩:=by
 refine⟨n,by unfold L2.start;simp[r.length],λi d e=> ?_⟩
 dsimp only at e
 have hi:i<ds.length:=by
  by_cases hi:i<ds.length
  ·exact hi
  ·rw[List.getElem?_append_right (by simpa using hi),List.getElem?_replicate] at e
   split at e <;> cases e
 rw[List.getElem?_append_left (by simpa using hi),List.getElem?_map] at e
 cases e1:ds[i]? with
 | none=>rw[e1] at e;cases e
 | some d'=>
  rw[e1] at e
  cases e
  obtain⟨v,h1,h2⟩:=r.get e1
  refine⟨v, ?_,h2⟩
  unfold L2.start
  rw[List.getElem?_append_left (by simpa[r.length] using hi),List.getElem?_map,h1]
  rfl
def W0:Wsh:=λ_ _ _ _ _ _=>False
theorem bE {P:Program} {w:World} {K:PySem.W.Frag} {mg:Str->Option Value} {base:Heap} {ca:Nat->Addr} {x qual:Str} {st:Stmt} {f:Addr} {fd:FuncData} {N ps:List Str} {k n:Nat} {m:SM}
 (F:Fun K x qual st f fd) (S:bf N ps (ay st)) (hn:N.length=n)
 (hm:∀(cdv:Value) (A:Around) (outer:List Env) (s:Shared) (H:Hp) (E:XK),dY k (A.deeper (envOfC qual (ay st) s.heap.objs.size f cdv))->
  ∃t,PSs (rk (CXE P w) P w K mg base N qual (ay st) f cdv A outer s H E).nox (aY st) t/\RdS ⟨K,ca,W0⟩ t m):
 fM P w K mg base (CXE P w) (k+1) f fd ps (spM K ca ps.length (runM n m)):=by
 refine F.okE S (λvs H Q E h=> ?_) (λcdv A outer s H vs Q E hr h=> ?_)
 ·obtain⟨F,θ,ds,O,_,r,hl,_⟩:=h
  rw[r.length,hl]
 ·obtain⟨F,θ,ds,O,now,r,hl,q⟩:=h
  obtain⟨t,ht,rd⟩:=hm cdv A outer s H E hr
  refine⟨t,ht.nox,rd _ H F θ _ _ (E6 now r) ?_⟩
  subst hn
  unfold runM at q
  cases e:m ⟨ds.map some++List.replicate (N.length-ds.length) none,O⟩ with
  | next s1=>rw[e] at q;exact λσ1 H1 F1 θ1 st b=>q .non H1 F1 θ1 st b.now (fg.mpr rfl)
  | ret d s1=>rw[e] at q;exact λv σ1 H1 F1 θ1 st b rv=>q v H1 F1 θ1 st b.now rv
  | exc c a o=>rw[e] at q;exact False.elim q
  | brk s1=>rw[e] at q;exact False.elim q
  | cnt s1=>rw[e] at q;exact False.elim q
  | bad=>rw[e] at q;exact False.elim q
theorem BS.called{K:PySem.W.Frag}{ca:Nat->Addr}{σ:L2.St}{H F H1 F1:Hp}{θ θ1:List Addr}{s:S}{O1:ax}(b:BS K ca σ H F θ s)(st:Stp H F [] H1 F1 θ1)(n:Now K ca H1 F1 θ1 O1):
 Stp H F θ H1 F1 θ/\BS K ca σ H1 F1 θ s:=by
 have kp:∀b o,H b=some o->H1 b=some o:=λb o h=>st.kp b o h (by simp)
 have nf:∀b o,F1 b=some o->F b=some o\/H b=none:=λb o h=>by
  rcases st.nf b o h with z | z | z
  ·exact .inl z
  ·exact .inr z
  ·simp at z
 refine⟨⟨st.ff,⟨[],by simp,by simp⟩,λb o h _=>kp b o h,st.al,λb o h=>(nf b o h).elim .inl λz=>.inr (.inl z)⟩,⟨⟨n.fh,b.now.nd,b.now.ln,λk a c e1 e2=> ?_⟩,b.len,λi d e=> ?_⟩⟩
 ·have q:=b.now.ce k a c e1 e2
  obtain⟨u,hu⟩:=q.there
  have fn:F a=none->F1 a=none:=λh=>by
   cases e:F1 a with
   | none=>rfl
   | some o=>
    rcases nf a o e with z | z
    ·rw[h] at z;cases z
    ·rw[hu] at z;cases z
  cases c with
  | dead=>exact⟨u,kp a u hu⟩
  | lst ds=>
   obtain⟨q1,xs,q2,q3⟩:=q
   exact⟨fn q1,xs,kp _ _ q2,q3.mono st.ff ⟨[],by simp⟩⟩
  | ins c ns ds=>
   obtain⟨q1,dx,xs,q2,q3,q4⟩:=q
   exact⟨fn q1,dx,xs,kp _ _ q2,q3,q4.mono st.ff ⟨[],by simp⟩⟩
 ·obtain⟨v,h1,h2⟩:=b.sl i d e
  exact⟨v,h1,h2.mono st.ff ⟨[],by simp⟩⟩
def aO(n:Nat)(f:FM)(ma:AM):EM:=λs=>(ma s).bind λx=>if aL x.1=true/\x.1.length=n then (match f x.1 [] with
 | .ok (d,_)=>if cI d=true then .ok (d,x.2) else .bad
 | _=>.bad) else .bad
theorem aX{n:Nat}{f:FM}{ta:TA}{ma:AM}{E:XK}(ha:RdA C ta ma):RdE C (rQ (spM C.K C.ca n f) [] E ta) (aO n f ma):=by
 intro σ H F θ s Q b p
 refine ha σ H F θ s _ b (PoR.bind p ?_)
 rintro ⟨x,s1⟩ H1 F1 θ1 _ st1 p1 b1 v r1
 dsimp only at p1 b1 r1 ⊢
 split at p1
 ·rename_i hp
  rw[List.append_nil]
  refine⟨F1,[],x,[],Now.nil b1.now.fh,r1.pure hp.1,hp.2, ?_⟩
  split at p1
  ·rename_i d O1 e
   rw[e]
   intro v H2 F2 θ2 st2 n2 rv
   split at p1
   ·rename_i pd
    obtain⟨st3,b3⟩:=b1.called st2 n2
    exact p1 H2 F2 θ1 st3 b3 v (rv.pure pd)
   ·exact False.elim p1
  ·exact False.elim p1
 ·exact False.elim p1
end
end M
set_option maxRecDepth 100000
set_option maxHeartbeats 4000000
namespace M
open PySem PySem.Spec PyProof.Rows L2
section
variable {C : Ct}
theorem cX{σ:L2.St}{H F:Hp}{θ:List Addr}{s:S}{d:D}{Q:VK}(p:PoE C σ H F θ ((Res.ok d).bind λd=>.ok (d,s)) Q)(b:BS C.K C.ca σ H F θ s){v:V}(r:Rep C.K C.ca θ F d v):Q v H:=p H F θ .refl b v r
theorem qW{σ:L2.St}{H F:Hp}{θ:List Addr}{s:S}{ds:List D}{Q:VK}(p:PoE C σ H F θ ((Res.ok (D.lst ds)).bind λd=>.ok (d,s)) Q)(b:BS C.K C.ca σ H F θ s){xs:List V}(r:aw C.K C.ca θ F ds xs):
 ∀q,H q=none->Q (.ref q) (upd H q (.lst xs)):=λq hq=>by
 obtain⟨st,b2,sF,e⟩:=b.newF hq (.lst xs)
 refine p _ _ _ st b2 _ ?_
 unfold Rep
 exact⟨q,xs,rfl,SqL.of e,r.mono sF ⟨[],by simp⟩⟩
def lsD(O:ax):D->Option (List D)
 | .lst ds=>some ds
 | .ptr k=>match O[k]? with
  | some (.lst ds)=>some ds
  | _=>none
 | _=>none
@[simp] theorem nv {O:ax} {ds:List D}:lsD O (.lst ds)=some ds:=rfl
theorem fS{σ:L2.St}{H F:Hp}{θ:List Addr}{s:S}{d:D}{ds:List D}{v:V}(b:BS C.K C.ca σ H F θ s)(r:Rep C.K C.ca θ F d v)(e:lsD s.o d=some ds):∃a xs,v=.ref a/\SqL C.K H a xs/\aw C.K C.ca θ F ds xs:=by
 cases d <;> first | (simp[lsD] at e;done) | skip
 ·cases e
  unfold Rep at r
  obtain⟨a,xs,rfl,hs,hr⟩:=r
  exact⟨a,xs,rfl,b.now.fh.seq hs,hr⟩
 ·rename_i k
  unfold Rep at r
  obtain⟨a,rfl,hk⟩:=r
  unfold lsD at e
  dsimp only at e
  split at e
  ·rename_i ds' ek
   cases e
   obtain⟨_,xs,h1,h2⟩:jd C.K C.ca H F θ a (.lst ds):=b.now.ce k a _ hk ek
   exact⟨a,xs,rfl,SqL.of h1,h2⟩
  ·cases e
theorem uo{σ:L2.St}{H F:Hp}{θ:List Addr}{s:S}{ds:List D}{v:V}(b:BS C.K C.ca σ H F θ s)(r:Rep C.K C.ca θ F (.tup ds) v):∃a xs,v=.ref a/\SqT C.K H a xs/\aw C.K C.ca θ F ds xs:=by
 unfold Rep at r
 obtain⟨a,xs,rfl,hs,hr⟩:=r
 exact⟨a,xs,rfl,bF.seqT b.now.fh hs,hr⟩
def intD(g:Int->Int->Res D):Op2:=λ_ x y=>match x,y with
 | .int i,.int j=>g i j
 | _,_=>.bad
theorem uc{g:Int->Int->V}{f:Int->Int->D}(h:∀K ca θ F i j,Rep K ca θ F (f i j) (g i j)):fY C (rI0 g) (intD λi j=>.ok (f i j)):=by
 intro σ H F θ s x y v w Q b rx ry p
 unfold intD at p
 split at p
 ·rename_i i j
  exact⟨i,j,bj.mp rx,bj.mp ry,cX p b (h ..)⟩
 ·exact False.elim p
open Classical in
noncomputable def u4 (c:Int->Int->Prop)(f:Int->Int->D):Op2:=intD λi j=>if c i j then .ok (f i j) else .bad
theorem xF{c:Int->Int->Prop}{g:Int->Int->V}{f:Int->Int->D}(h:∀K ca θ F i j,Rep K ca θ F (f i j) (g i j)):fY C (rI c g) (u4 c f):=by
 intro σ H F θ s x y v w Q b rx ry p
 unfold u4 intD at p
 split at p
 ·rename_i i j
  dsimp only at p
  split at p
  ·rename_i hc
   exact⟨i,j,bj.mp rx,bj.mp ry,hc,cX p b (h ..)⟩
  ·exact False.elim p
 ·exact False.elim p
def gO:Op2:=intD λi j=>.ok (.int (i-j))
noncomputable def di:Op2:=u4 IntMulOk λi j=>.int (i*j)
noncomputable def gx:Op2:=u4 (λi j=>j≠0) λi j=>.int (i.fdiv j)
noncomputable def fb:Op2:=u4 (λ_ j=>j≠0) λi j=>.int (i.fmod j)
noncomputable def kN:Op2:=u4 EW λi j=>.int (i^j.toNat)
def ltD:Op2:=intD λi j=>.ok (.bl (decide (i<j)))
def leD:Op2:=intD λi j=>.ok (.bl (decide (i<=j)))
def gtD:Op2:=intD λi j=>.ok (.bl (decide (j<i)))
def geD:Op2:=intD λi j=>.ok (.bl (decide (j<=i)))
def kr:Op1:=λ_ x=>match x with
 | .int i=>.ok (.int (-i))
 | _=>.bad
section
variable {X : Cx}
theorem fj:OpR X (binaryOp .Mult) (rI IntMulOk λi j=>.int (i*j)):=opI λ_ _ _ _ _ _ _ hc q=>mul_int q hc
theorem mD(hd:X.A.depth+100<recursionLimit)(ht:X.prog.given.tree=none)(hs:∃env l,X.stack=env::l/\env.scope.isGenerator=false/\env.scope.isCoroutine=false/\env.builtins=builtinsNs/\env.globals=mainGlobals):
 OpR X (binaryOp .FloorDiv) (rI (λi j=>j≠0) λi j=>.int (i.fdiv j)):=by
 intro pins s σ H x y v u Q I rx ry h
 obtain⟨i,j,rfl,rfl,hc,q⟩:=h
 obtain⟨t,rfl⟩:=rx
 obtain⟨t',rfl⟩:=ry
 obtain⟨env,l,e,h1,h2,h3,h4⟩:=hs
 exact floordiv_int hc ⟨.int _,H,I.tok _,⟨_,rfl⟩,q⟩ (.inr (PylongRoom.of I.nolimit hd (SeerAt.of I.noseer ht (I.ok.frames.trans (by rw[e])) h1 h2 h3 h4)))
def BM(K:PySem.W.Frag):R2:=λx y H Q=>rI0 (λi j=>.int (i+j)) x y H Q\/(∃i j,x=.str i/\y=.str j/\i.length+j.length<=sizeLine/\Q (.str (i++j)) H)\/Gy K x y H Q
theorem du:OpR X (binaryOp .Add) (BM X.K):=I0.or (BB.or HF)
end
def LF:Op2:=intD λi j=>.ok (.int (i+j))
def bL:Op2:=λO x y=>match x,y with
 | .int i,.int j=>.ok (.int (i+j))
 | .str a,.str b=>if a.length+b.length<=16777216 then .ok (.str (a++b)) else .bad
 | x,y=>match lsD O x,lsD O y with
  | some a,some b=>if a.length+b.length<=16777216 then .ok (.lst (a++b)) else .bad
  | _,_=>.bad
theorem cP:fY C (BM C.K) bL:=by
 intro σ H F θ s x y v w Q b rx ry p
 have lists:∀{a c:List D},lsD s.o x=some a->lsD s.o y=some c->PoE C σ H F θ ((if a.length+c.length<=16777216 then Res.ok (D.lst (a++c)) else .bad).bind λd=>.ok (d,s)) Q->BM C.K v w H Q:=λ{a c} e1 e2 p=>by
  split at p
  ·rename_i hl
   obtain⟨l1,xs,rfl,s1,r1⟩:=fS b rx e1
   obtain⟨l2,ys,rfl,s2,r2⟩:=fS b ry e2
   exact .inr (.inr ⟨l1,l2,xs,ys,rfl,rfl,s1,s2,by rw[r1.length,r2.length];exact hl,qW p b (r1.append r2)⟩)
  ·exact False.elim p
 unfold bL at p
 split at p
 ·rename_i i j
  exact .inl ⟨i,j,bj.mp rx,bj.mp ry,cX p b (bj.mpr rfl)⟩
 ·rename_i i j
  split at p
  ·rename_i hl
   exact .inr (.inl ⟨i,j,dg.mp rx,dg.mp ry,hl,cX p b (dg.mpr rfl)⟩)
  ·exact False.elim p
 ·split at p
  ·rename_i a c e1 e2
   exact lists e1 e2 p
  ·exact False.elim p
theorem kO:fY C (rI0 λi j=>.int (i-j)) gO:=uc λ_ _ _ _ _ _=>bj.mpr rfl
theorem d0:fY C (rI IntMulOk λi j=>.int (i*j)) di:=xF λ_ _ _ _ _ _=>bj.mpr rfl
theorem kD:fY C (rI (λi j=>j≠0) λi j=>.int (i.fdiv j)) gx:=xF λ_ _ _ _ _ _=>bj.mpr rfl
theorem gB:fY C (rI (λ_ j=>j≠0) λi j=>.int (i.fmod j)) fb:=xF λ_ _ _ _ _ _=>bj.mpr rfl
theorem t8:fY C (rI EW λi j=>.int (i^j.toNat)) kN:=xF λ_ _ _ _ _ _=>bj.mpr rfl
theorem xI:fY C (rI0 λi j=>.bl (decide (i<j))) ltD:=uc λ_ _ _ _ _ _=>cA.mpr rfl
theorem KU:fY C (rI0 λi j=>.bl (decide (i<=j))) leD:=uc λ_ _ _ _ _ _=>cA.mpr rfl
theorem lj:fY C (rI0 λi j=>.bl (decide (j<i))) gtD:=uc λ_ _ _ _ _ _=>cA.mpr rfl
theorem nA:Ka C (rU λi=>.int (-i)) kr:=by
 intro σ H F θ s x v Q b rx p
 unfold kr at p
 split at p
 ·rename_i i
  exact⟨i,bj.mp rx,cX p b (bj.mpr rfl)⟩
 ·exact False.elim p
mutual
def toPy:D->Option PyData
 | .non=>some .none
 | .bl b=>some (.bool b)
 | .int i=>some (.int i)
 | .str x=>some (.str x)
 | .lst ds=>(iq ds).map .list
 | .tup ds=>(iq ds).map .tuple
 | .ptr _=>none
 | .obj _ _ _=>none
 | .exn _=>none
def iq:List D->Option (List PyData)
 | []=>some []
 | d::ds=>match toPy d,iq ds with
  | some a,some b=>some (a::b)
  | _,_=>none
end
mutual
def res(O:ax):D->D
 | .lst ds=>.lst (bA O ds)
 | .tup ds=>.tup (bA O ds)
 | .ptr k=>match O[k]? with
  | some (.lst ds)=>.lst ds
  | _=>.ptr k
 | .non=>.non
 | .bl b=>.bl b
 | .int i=>.int i
 | .str x=>.str x
 | .obj c ns ds=>.obj c ns ds
 | .exn c=>.exn c
def bA(O:ax):List D->List D
 | []=>[]
 | d::ds=>res O d::bA O ds
end
section
variable {K : PySem.W.Frag} {ca : Nat → Addr} {H F G : Hp} {θ : List Addr} {O : ax}
mutual
theorem vD(n:Now K ca H F θ O)(hF:bF F G)(hG:bF G H):∀{d:D} {v:V},Rep K ca θ G d v->Rep K ca θ H (res O d) v
 | .non,_,h=>by unfold res;exact h
 | .bl _,_,h=>by unfold res;exact h
 | .int _,_,h=>by unfold res;exact h
 | .str _,_,h=>by unfold res;exact h
 | .lst ds,_,h=>by
  unfold res
  unfold Rep at h ⊢
  obtain⟨a,xs,e,hs,hr⟩:=h
  exact⟨a,xs,e,hG.seq hs,kq n hF hG hr⟩
 | .tup ds,_,h=>by
  unfold res
  unfold Rep at h ⊢
  obtain⟨a,xs,e,hs,hr⟩:=h
  exact⟨a,xs,e,bF.seqT hG hs,kq n hF hG hr⟩
 | .ptr k,v,h=>by
  unfold res
  split
  ·rename_i ds e
   unfold Rep at h ⊢
   obtain⟨a,ev,hk⟩:=h
   obtain⟨_,xs,h1,h2⟩:jd K ca H F θ a (.lst ds):=n.ce k a _ hk e
   exact⟨a,xs,ev,SqL.of h1,h2.mono n.fh ⟨[],by simp⟩⟩
  ·exact h.mono hG ⟨[],by simp⟩
 | .obj c ns ds,_,h=>by unfold res;exact h.mono hG ⟨[],by simp⟩
 | .exn c,_,h=>by unfold res;exact h.mono hG ⟨[],by simp⟩
theorem kq(n:Now K ca H F θ O)(hF:bF F G)(hG:bF G H):∀{ds:List D} {xs:List V},aw K ca θ G ds xs->aw K ca θ H (bA O ds) xs
 | [],_,h=>by unfold bA;exact h
 | d::ds,_,h=>by
  unfold bA
  unfold aw at h ⊢
  obtain⟨v,r,e,h1,h2⟩:=h
  exact⟨v,r,e,vD n hF hG h1,kq n hF hG h2⟩
end
mutual
theorem vL:∀{d:D} {v:V} {p:PyData},Rep K ca θ H d v->toPy d=some p->RdV K H p v
 | .non,_,_,h,e=>by unfold toPy at e;cases e;unfold RdV;exact fg.mp h
 | .bl b,_,_,h,e=>by unfold toPy at e;cases e;unfold RdV;exact cA.mp h
 | .int b,_,_,h,e=>by unfold toPy at e;cases e;unfold RdV;exact bj.mp h
 | .str b,_,_,h,e=>by unfold toPy at e;cases e;unfold RdV;exact dg.mp h
 | .lst ds,_,_,h,e=>by
  unfold toPy at e
  cases e1:iq ds with
  | none=>rw[e1] at e;cases e
  | some ps=>
   rw[e1] at e
   cases e
   unfold Rep at h
   obtain⟨a,xs,ev,hs,hr⟩:=h
   unfold RdV
   exact⟨a,xs,ev,hs,tu hr e1⟩
 | .tup ds,_,_,h,e=>by
  unfold toPy at e
  cases e1:iq ds with
  | none=>rw[e1] at e;cases e
  | some ps=>
   rw[e1] at e
   cases e
   unfold Rep at h
   obtain⟨a,xs,ev,hs,hr⟩:=h
   unfold RdV
   exact⟨a,xs,ev,hs,tu hr e1⟩
 | .ptr _,_,_,_,e=>by unfold toPy at e;cases e
 | .obj _ _ _,_,_,_,e=>by unfold toPy at e;cases e
 | .exn _,_,_,_,e=>by unfold toPy at e;cases e
theorem tu:∀{ds:List D} {xs:List V} {ps:List PyData},aw K ca θ H ds xs->iq ds=some ps->pG K H ps xs
 | [],_,_,h,e=>by unfold iq at e;cases e;unfold pG;unfold aw at h;exact h
 | d::ds,_,_,h,e=>by
  unfold iq at e
  cases e1:toPy d with
  | none=>rw[e1] at e;cases e
  | some p=>
   cases e2:iq ds with
   | none=>rw[e1,e2] at e;cases e
   | some ps=>
    rw[e1,e2] at e
    cases e
    unfold aw at h
    obtain⟨v,r,ev,h1,h2⟩:=h
    unfold pG
    exact⟨v,r,ev,vL h1 e1,tu h2 e2⟩
end
end
def fO(O:ax)(x y:D):Option Bool:=match toPy (res O (res O x)),toPy (res O (res O y)) with
 | some a,some b=>if SeqAt.shaped a=true/\SeqAt.shaped b=true then some (PyData.eqv a b) else none
 | _,_=>none
def eqB(O:ax)(x y:D):Option Bool:=match x,y with
 | .int i,.int j=>some (decide (i=j))
 | .str i,.str j=>some (decide (i=j))
 | .bl i,.bl j=>some (decide (i=j))
 | .non,.non=>some true
 | x,y=>fO O x y
def eqD:Op2:=λO x y=>match eqB O x y with
 | some b=>.ok (.bl b)
 | none=>.bad
def neD:Op2:=λO x y=>match eqB O x y with
 | some b=>.ok (.bl (!b))
 | none=>.bad
section
variable {X : Cx}
def Jy(K:PySem.W.Frag):R2:=λx y H Q=>rEq x y H Q\/JR K x y H Q
def Js(K:PySem.W.Frag):R2:=λx y H Q=>rNe x y H Q\/JF K x y H Q
theorem qm(hu:X.A.units+64<cLine):OpR X (compareOp .Eq) (Jy X.K):=KC.or (J8 hu)
theorem oa(hu:X.A.units+64<cLine):OpR X (compareOp .NotEq) (Js X.K):=KH.or (J3 hu)
end
theorem v8{σ:L2.St}{H F:Hp}{θ:List Addr}{s:S}{x y:D}{v w:V}{k:Bool}(b:BS C.K C.ca σ H F θ s)(rx:Rep C.K C.ca θ F x v)(ry:Rep C.K C.ca θ F y w)(e:fO s.o x y=some k):
 ∃d e,RdV C.K H d v/\RdV C.K H e w/\SeqAt.shaped d=true/\SeqAt.shaped e=true/\PyData.eqv d e=k:=by
 unfold fO at e
 split at e
 ·rename_i a c e1 e2
  split at e
  ·rename_i hs
   cases e
   have rr:∀{d:D} {u:V},Rep C.K C.ca θ F d u->Rep C.K C.ca θ H (res s.o (res s.o d)) u:=λh=>vD b.now b.now.fh (bF.refl _) (vD b.now (bF.refl _) b.now.fh h)
   exact⟨a,c,vL (rr rx) e1,vL (rr ry) e2,hs.1,hs.2,rfl⟩
  ·cases e
 ·cases e
theorem mP:fY C (Jy C.K) eqD:=by
 intro σ H F θ s x y v w Q b rx ry p
 unfold eqD at p
 split at p
 ·rename_i k e
  have q:=λH' (h:H'=H)=>h▸cX p b (v:=.bl k) (cA.mpr rfl)
  have q:=q H rfl
  unfold eqB at e
  split at e
  ·rename_i i j
   cases e
   cases bj.mp rx;cases bj.mp ry
   exact .inl ⟨rfl,by rw[rZ,Bool.beq_eq_decide_eq];exact q⟩
  ·cases e
   cases dg.mp rx;cases dg.mp ry
   exact .inl ⟨rfl,by rw[sq,Bool.beq_eq_decide_eq];exact q⟩
  ·cases e
   cases cA.mp rx;cases cA.mp ry
   exact .inl ⟨rfl,by rw[uH,Bool.beq_eq_decide_eq];exact q⟩
  ·cases e
   cases fg.mp rx;cases fg.mp ry
   exact .inl ⟨rfl,by simpa using q⟩
  ·obtain⟨d,e',h1,h2,h3,h4,h5⟩:=v8 b rx ry e
   exact .inr ⟨d,e',h1,h2,h3,h4,by rw[h5];exact q⟩
 ·exact False.elim p
theorem la:fY C (Js C.K) neD:=by
 intro σ H F θ s x y v w Q b rx ry p
 unfold neD at p
 split at p
 ·rename_i k e
  have q:=cX p b (v:=.bl (!k)) (cA.mpr rfl)
  unfold eqB at e
  split at e
  ·rename_i i j
   cases e
   cases bj.mp rx;cases bj.mp ry
   exact .inl ⟨rfl,by rw[rZ,Bool.beq_eq_decide_eq];exact q⟩
  ·cases e
   cases dg.mp rx;cases dg.mp ry
   exact .inl ⟨rfl,by rw[sq,Bool.beq_eq_decide_eq];exact q⟩
  ·cases e
   cases cA.mp rx;cases cA.mp ry
   exact .inl ⟨rfl,by rw[uH,Bool.beq_eq_decide_eq];exact q⟩
  ·cases e
   cases fg.mp rx;cases fg.mp ry
   exact .inl ⟨rfl,by simpa using q⟩
  ·obtain⟨d,e',h1,h2,h3,h4,h5⟩:=v8 b rx ry e
   exact .inr ⟨d,e',h1,h2,h3,h4,by rw[h5];exact q⟩
 ·exact False.elim p
def ixD:Op2:=λO x y=>match y with
 | .int i=>match x with
  | .tup ds=>match atI ds i with
   | some d=>.ok d
   | none=>.bad
  | .str z=>if z.length<=16777216 then (match atI z.cps.toList i with
   | some c=>.ok (.str ⟨#[c]⟩)
   | none=>.bad) else .bad
  | x=>match lsD O x with
   | some ds=>match atI ds i with
    | some d=>.ok d
    | none=>.bad
   | none=>.bad
 | _=>.bad
theorem Bl{K ca θ F}{ds:List D}{xs:List V}{i:Int}{d:D}(r:aw K ca θ F ds xs)(e:atI ds i=some d):∃v,atI xs i=some v/\Rep K ca θ F d v:=by
 unfold atI at e ⊢
 rw[r.length]
 cases q:ixN ds.length i with
 | none=>rw[q] at e;cases e
 | some j=>
  rw[q] at e
  exact r.get e
theorem de:fY C (rIx C.K) ixD:=by
 intro σ H F θ s x y v w Q b rx ry p
 unfold ixD at p
 split at p
 ·rename_i i
  split at p
  ·rename_i ds
   obtain⟨a,xs,rfl,hs,hr⟩:=uo b rx
   split at p
   ·rename_i d e
    obtain⟨u,e1,r1⟩:=Bl hr e
    exact .inr (.inl ⟨a,xs,i,u,rfl,bj.mp ry,hs,e1,cX p b r1⟩)
   ·exact False.elim p
  ·rename_i z
   split at p
   ·rename_i hz
    split at p
    ·rename_i c e
     exact .inr (.inr ⟨z,i,c,dg.mp rx,bj.mp ry,hz,e,cX p b (dg.mpr rfl)⟩)
    ·exact False.elim p
   ·exact False.elim p
  ·split at p
   ·rename_i ds e0
    obtain⟨a,xs,rfl,hs,hr⟩:=fS b rx e0
    split at p
    ·rename_i d e
     obtain⟨u,e1,r1⟩:=Bl hr e
     exact .inl ⟨a,xs,i,u,rfl,bj.mp ry,hs,e1,cX p b r1⟩
    ·exact False.elim p
   ·exact False.elim p
 ·exact False.elim p
abbrev OM:=S->Res (Option Int×S)
def RdO(C:Ct)(t:TO)(m:OM):Prop:=∀σ H F θ s Q,BS C.K C.ca σ H F θ s->PoR C H F θ (m s) (λy H1 F1 θ1=>BS C.K C.ca σ H1 F1 θ1 y.2->Q y.1 H1)->t σ H Q
def iF:OM:=λs=>.ok (none,s)
def part(m:EM):OM:=λs=>(m s).bind λx=>match x.1 with
 | .int i=>.ok (some i,x.2)
 | _=>.bad
theorem mn:RdO C Bf iF:=λσ H F θ s Q b p=>p H F θ .refl b
theorem rS{t:TE}{m:EM}(h:RdE C t m):RdO C (GJ t) (part m):=by
 intro σ H F θ s Q b p
 refine h σ H F θ s _ b (PoR.bind p ?_)
 rintro ⟨x,s1⟩ H1 F1 θ1 _ st1 p1 b1 v r1
 cases x <;> first | exact False.elim p1 | skip
 rename_i i _
 exact⟨i,bj.mp r1,p1 _ _ _ .refl b1⟩
def cutD(ds:List D)(lo hi:Option Int):List D:=(ds.drop (HT.sIx ds.length 0 lo)).take (HT.sIx ds.length ds.length hi-HT.sIx ds.length 0 lo)
theorem GU{K ca θ F}{ds:List D}{xs:List V}{lo hi:Option Int}(r:aw K ca θ F ds xs):aw K ca θ F (cutD ds lo hi) (vQ xs lo hi):=by
 unfold cutD vQ
 rw[r.length]
 exact(r.drop _).take _
def slM(me:EM)(ml mh:OM):EM:=λs=>(me s).bind λx=>(ml x.2).bind λl=>(mh l.2).bind λh=>match lsD h.2.o x.1 with
 | some ds=>.ok (.lst (cutD ds l.1 h.1),h.2)
 | none=>.bad
theorem KP{te:TE}{tl th:TO}{me:EM}{ml mh:OM}(he:RdE C te me)(hl:RdO C tl ml)(hh:RdO C th mh):RdE C (tSl (JO C.K) te tl th) (slM me ml mh):=by
 intro σ H F θ s Q b p
 refine he σ H F θ s _ b (PoR.bind p ?_)
 rintro ⟨x,s1⟩ H1 F1 θ1 _ st1 p1 b1 v r1
 refine hl σ H1 F1 θ1 s1 _ b1 (PoR.bind p1 ?_)
 rintro ⟨l,s2⟩ H2 F2 θ2 _ st2 p2 b2
 refine hh σ H2 F2 θ2 s2 _ b2 (PoR.bind p2 ?_)
 rintro ⟨h,s3⟩ H3 F3 θ3 _ st3 p3 b3
 dsimp only at p3 ⊢
 split at p3
 ·rename_i ds e
  obtain⟨a,xs,rfl,hs,hr⟩:=fS b3 ((r1.mono st2.ff st2.pre).mono st3.ff st3.pre) e
  exact⟨a,xs,rfl,hs,qW (ds:=cutD ds l h) p3 b3 (GU hr)⟩
 ·exact False.elim p3
def dC:OpN:=λO xs=>match xs with
 | [.str z]=>if z.length<=16777216 then .ok (.int z.length) else .bad
 | [.tup ds]=>.ok (.int ds.length)
 | [x]=>match lsD O x with
  | some ds=>.ok (.int ds.length)
  | none=>.bad
 | _=>.bad
theorem lV{K ca θ F}{x:D}{vs:List V}(h:aw K ca θ F [x] vs):∃v,vs=[v]/\Rep K ca θ F x v:=by
 unfold aw at h
 obtain⟨v,r,rfl,h1,h2⟩:=h
 unfold aw at h2
 rw[h2]
 exact⟨v,rfl,h1⟩
theorem GR{K ca θ F}{x y:D}{vs:List V}(h:aw K ca θ F [x,y] vs):∃v w,vs=[v,w]/\Rep K ca θ F x v/\Rep K ca θ F y w:=by
 unfold aw at h
 obtain⟨v,r,rfl,h1,h2⟩:=h
 obtain⟨w,rfl,h3⟩:=lV h2
 exact⟨v,w,rfl,h1,h3⟩
theorem gG:j9 C (λxs H Q=>∃x n,xs=[x]/\Jk C.K x H n/\Q (.int n) H) dC:=by
 intro σ H F θ s xs vs Q b r p
 unfold dC at p
 split at p
 ·rename_i z
  obtain⟨v,rfl,r1⟩:=lV r
  cases dg.mp r1
  split at p
  ·rename_i hz
   exact⟨.str z,z.length,rfl,⟨hz,rfl⟩,cX p b (bj.mpr rfl)⟩
  ·exact False.elim p
 ·rename_i ds
  obtain⟨v,rfl,r1⟩:=lV r
  obtain⟨a,xs,rfl,hs,hr⟩:=uo b r1
  exact⟨.ref a,ds.length,rfl,.inr ⟨xs,hs,by rw[hr.length]⟩,cX p b (bj.mpr rfl)⟩
 ·rename_i x _ _
  obtain⟨v,rfl,r1⟩:=lV r
  split at p
  ·rename_i ds e
   obtain⟨a,xs,rfl,hs,hr⟩:=fS b r1 e
   exact⟨.ref a,ds.length,rfl,.inl ⟨xs,hs,by rw[hr.length]⟩,cX p b (bj.mpr rfl)⟩
  ·exact False.elim p
 ·exact False.elim p
def fV:OpN:=λO xs=>match xs with
 | [.tup ds]=>.ok (.lst ds)
 | [x]=>match lsD O x with
  | some ds=>.ok (.lst ds)
  | none=>.bad
 | _=>.bad
theorem kj:j9 C (λxs H Q=>∃p ys,xs=[.ref p]/\(SqL C.K H p ys\/SqT C.K H p ys)/\∀l,H l=none->Q (.ref l) (upd H l (.lst ys))) fV:=by
 intro σ H F θ s xs vs Q b r p
 unfold fV at p
 split at p
 ·rename_i ds
  obtain⟨v,rfl,r1⟩:=lV r
  obtain⟨a,xs,rfl,hs,hr⟩:=uo b r1
  exact⟨a,xs,rfl,.inr hs,qW p b hr⟩
 ·obtain⟨v,rfl,r1⟩:=lV r
  split at p
  ·rename_i ds e
   obtain⟨a,xs,rfl,hs,hr⟩:=fS b r1 e
   exact⟨a,xs,rfl,.inl hs,qW p b hr⟩
  ·exact False.elim p
 ·exact False.elim p
def rf:OpN:=λ_ xs=>match xs with
 | [.int i]=>.ok (.int (if i<0 then -i else i))
 | _=>.bad
theorem zI:j9 C (λxs H Q=>∃i,xs=[.int i]/\Q (.int (if i<0 then -i else i)) H) rf:=by
 intro σ H F θ s xs vs Q b r p
 unfold rf at p
 split at p
 ·rename_i i
  exact⟨i,mS r,cX p b (bj.mpr rfl)⟩
 ·exact False.elim p
def intOf:OpN:=λ_ xs=>match xs with
 | [.int i]=>.ok (.int i)
 | [.bl k]=>.ok (.int (if k then 1 else 0))
 | _=>.bad
theorem zm:j9 C (λxs H Q=>(∃i,xs=[.int i]/\Q (.int i) H)\/∃k,xs=[.bl k]/\Q (.int (if k then 1 else 0)) H) intOf:=by
 intro σ H F θ s xs vs Q b r p
 unfold intOf at p
 split at p
 ·rename_i i
  exact .inl ⟨i,mS r,cX p b (bj.mpr rfl)⟩
 ·rename_i k
  obtain⟨v,rfl,r1⟩:=lV r
  cases cA.mp r1
  exact .inr ⟨k,rfl,cX p b (bj.mpr rfl)⟩
 ·exact False.elim p
def tyD(O:ax):D->Option String
 | .non=>some "NoneType"
 | .bl _=>some "bool"
 | .int _=>some "int"
 | .str _=>some "str"
 | .lst _=>some "list"
 | .tup _=>some "tuple"
 | .ptr k=>match O[k]? with
  | some (.lst _)=>some "list"
  | _=>none
 | .obj _ _ _=>none
 | .exn _=>none
def eK(t c:String):Bool:=t == c||(t == "bool" &&c == "int")
def ir(c:String):Op1:=λO x=>match tyD O x with
 | some t=>.ok (.bl (eK t c))
 | none=>.bad
def r8(c:String):Prop:=∀K:PySem.W.Frag,∀t∈["NoneType","bool","int","str","list","tuple"],PySem.W.kitOne K (.type t) (.type c)=some (eK t c)
theorem ty_int:r8 "int" :=by
 intro K t ht
 simp only[List.mem_cons,List.mem_nil_iff,or_false] at ht
 rcases ht with rfl | rfl | rfl | rfl | rfl | rfl <;> rfl
theorem ty_bool:r8 "bool" :=by
 intro K t ht
 simp only[List.mem_cons,List.mem_nil_iff,or_false] at ht
 rcases ht with rfl | rfl | rfl | rfl | rfl | rfl <;> rfl
theorem ty_list:r8 "list" :=by
 intro K t ht
 simp only[List.mem_cons,List.mem_nil_iff,or_false] at ht
 rcases ht with rfl | rfl | rfl | rfl | rfl | rfl <;> rfl
theorem pb{c:String}{te:TE}{m:EM}(hc:r8 c)(h:RdE C te m):RdE C (tCB (Fc C.K) (oj te (oj (tC (.ty c)) qI))) (unM (ir c) m):=by
 intro σ H F θ s Q b p
 refine h σ H F θ s _ b (PoR.bind p ?_)
 rintro ⟨x,s1⟩ H1 F1 θ1 _ st1 p1 b1 v r1
 dsimp only at p1 b1 r1
 show Fc C.K [v,.ty c] H1 Q
 unfold ir at p1
 split at p1
 ·rename_i t e
  have q:=cX p1 b1 (v:=.bl (eK t c)) (cA.mpr rfl)
  refine⟨v,c,t,eK t c,rfl, ?_, ?_,q⟩
  ·cases x <;> first | (unfold tyD at e;cases e;done) | skip
   ·unfold tyD at e;cases e;rw[fg.mp r1];rfl
   ·unfold tyD at e;cases e;rw[cA.mp r1];rfl
   ·unfold tyD at e;cases e;rw[bj.mp r1];rfl
   ·unfold tyD at e;cases e;rw[dg.mp r1];rfl
   ·unfold tyD at e;cases e
    unfold Rep at r1
    obtain⟨a,xs,rfl,hs,hr⟩:=r1
    exact .inl ⟨rfl,xs,b1.now.fh.seq hs⟩
   ·unfold tyD at e;cases e
    unfold Rep at r1
    obtain⟨a,xs,rfl,hs,hr⟩:=r1
    exact .inr ⟨rfl,xs,bF.seqT b1.now.fh hs⟩
   ·rename_i k _
    unfold tyD at e
    dsimp only at e
    split at e
    ·rename_i ds ek
     cases e
     obtain⟨a,xs,rfl,hs,hr⟩:=fS b1 r1 (ds:=ds) (by unfold lsD;simp only[ek])
     exact .inl ⟨rfl,xs,hs⟩
    ·cases e
  ·refine hc C.K t ?_
   cases x <;> unfold tyD at e <;> dsimp only at e <;> first | (cases e;simp;done) | (cases e;done) | skip
   split at e
   ·cases e;simp
   ·cases e
 ·exact False.elim p1
theorem px{α:Type}{l:List α}(h:l.Nodup){i j:Nat}{x:α}(a:l[i]? =some x)(b:l[j]? =some x):i=j:=by
 obtain⟨h1,e1⟩:=List.getElem?_eq_some_iff.mp a
 obtain⟨h2,e2⟩:=List.getElem?_eq_some_iff.mp b
 exact(List.getElem_inj h).mp (e1.trans e2.symm)
theorem BS.setC{K:PySem.W.Frag}{ca:Nat->Addr}{σ:L2.St}{H F:Hp}{θ:List Addr}{s:S}(b:BS K ca σ H F θ s){k:Nat}{a:Addr}{c:Cell}(hk:θ[k]? =some a)(hc:s.o[k]? =some c)(hF:F a=none){ds:List D}{xs:List V}(hr:aw K ca θ F ds xs):
 Stp H F θ (upd H a (.lst xs)) F θ/\BS K ca σ (upd H a (.lst xs)) F θ ⟨s.r,s.o.set k (.lst ds)⟩:=by
 have hm:a∈θ:=List.mem_of_getElem? hk
 refine⟨⟨bF.refl _,⟨[],by simp,by simp⟩,λe o he hb=> ?_,λe o he=> ?_,λe o he=>.inl he⟩,⟨⟨λe o he=> ?_,b.now.nd,by simpa using b.now.ln,λj a' c' e1 e2=> ?_⟩,b.len,b.sl⟩⟩
 ·have ne:e≠a:=λz=>hb (by rw[z];exact hm)
  rw[aP ne];exact he
 ·by_cases z:e=a
  ·subst z;exact⟨_,cC⟩
  ·exact⟨o,by rw[aP z];exact he⟩
 ·have ne:e≠a:=λz=>by rw[z,hF] at he;cases he
  rw[aP ne]
  exact b.now.fh _ _ he
 ·by_cases hj:k=j
  ·subst hj
   rw[hk] at e1;cases e1
   have:k<s.o.length:=(List.getElem?_eq_some_iff.mp hc).1
   rw[List.getElem?_set_self this] at e2
   cases e2
   exact⟨hF,xs,cC,hr⟩
  ·rw[List.getElem?_set_ne hj] at e2
   have q:=b.now.ce j a' c' e1 e2
   have ne:a'≠a:=λz=>by
    subst z
    exact hj (px b.now.nd hk e1)
   cases c' with
   | dead=>obtain⟨o,ho⟩:=q;exact⟨o,by rw[aP ne];exact ho⟩
   | lst ds=>obtain⟨q1,ys,q2,q3⟩:=q;exact⟨q1,ys,by rw[aP ne];exact q2,q3⟩
   | ins c ns ds=>obtain⟨q1,dx,ys,q2,q3⟩:=q;exact⟨q1,dx,ys,by rw[aP ne];exact q2,q3⟩
theorem kF{σ:L2.St}{H F:Hp}{θ:List Addr}{s:S}{k:Nat}{ds:List D}{v:V}(b:BS C.K C.ca σ H F θ s)(r:Rep C.K C.ca θ F (.ptr k) v)(e:s.o[k]? =some (.lst ds)):
 ∃a xs,v=.ref a/\θ[k]? =some a/\F a=none/\H a=some (.lst xs)/\aw C.K C.ca θ F ds xs:=by
 unfold Rep at r
 obtain⟨a,rfl,hk⟩:=r
 obtain⟨h0,xs,h1,h2⟩:jd C.K C.ca H F θ a (.lst ds):=b.now.ce k a _ hk e
 exact⟨a,xs,rfl,hk,h0,h1,h2⟩
def jq(O:ax):D->Option (Nat×List D)
 | .ptr k=>match O[k]? with
  | some (.lst ds)=>some (k,ds)
  | _=>none
 | _=>none
theorem mq{O:ax}{d:D}{k:Nat}{ds:List D}(h:jq O d=some (k,ds)):d=.ptr k/\O[k]? =some (.lst ds):=by
 cases d <;> first | (simp[jq] at h;done) | skip
 rename_i j
 unfold jq at h
 dsimp only at h
 split at h
 ·rename_i es e
  cases h
  exact⟨rfl,e⟩
 ·cases h
def kn(mo me:EM):EM:=λs=>(mo s).bind λx=>match jq x.2.o x.1 with
 | some _=>(me x.2).bind λy=>match jq y.2.o x.1 with
  | some (k,ds)=>if ds.length<16777216 then .ok (.non,⟨y.2.r,y.2.o.set k (.lst (ds++[y.1]))⟩) else .bad
  | none=>.bad
 | none=>.bad
theorem j6{to te:TE}{mo me:EM}(ho:RdE C to mo)(he:RdE C te me):RdE C (tBM C.K "list" A8 to (oj te qI)) (kn mo me):=by
 intro σ H F θ s Q b p
 refine ho σ H F θ s _ b (PoR.bind p ?_)
 rintro ⟨x,s1⟩ H1 F1 θ1 _ st1 p1 b1 v r1
 dsimp only at p1 b1 r1
 split at p1
 ·rename_i kd e
  obtain⟨rfl,e'⟩:=mq (k:=kd.1) (ds:=kd.2) e
  obtain⟨a,xs,rfl,hk,_,h1,_⟩:=kF b1 r1 e'
  refine⟨.inl ⟨rfl,xs,SqL.of h1⟩,he σ H1 F1 θ1 s1 _ b1 (PoR.bind p1 ?_)⟩
  rintro ⟨y,s2⟩ H2 F2 θ2 _ st2 p2 b2 w r2
  dsimp only at p2 b2 r2
  split at p2
  ·rename_i k ds e2
   obtain⟨ek,e2⟩:=mq e2
   cases ek
   obtain⟨a',ys,ea,hk2,hF,h2,hr⟩:=kF b2 (r1.mono st2.ff st2.pre) e2
   cases ea
   split at p2
   ·rename_i hl
    obtain⟨st3,b3⟩:=b2.setC hk2 e2 hF (hr.append (aw.one r2))
    exact⟨a,ys,w,rfl,rfl,h2,by rw[hr.length];exact hl,p2 _ _ _ st3 b3 _ (fg.mpr rfl)⟩
   ·exact False.elim p2
  ·exact False.elim p2
 ·exact False.elim p1
def sm(f:List D->Option (List D×D))(mo:EM):EM:=λs=>(mo s).bind λx=>match jq x.2.o x.1 with
 | some (k,ds)=>match f ds with
  | some (es,r)=>.ok (r,⟨x.2.r,x.2.o.set k (.lst es)⟩)
  | none=>.bad
 | none=>.bad
theorem Ip {f:List D->Option (List D×D)} {r:V->List V->Hp->VK->Prop} {to:TE} {mo:EM} (ho:RdE C to mo)
 (hr:∀K ca θ F ds xs es d,aw K ca θ F ds xs->f ds=some (es,d)->∃ys v,aw K ca θ F es ys/\Rep K ca θ F d v/\∀a (H:Hp) (Q:VK),H a=some (.lst xs)->Q v (upd H a (.lst ys))->r (.ref a) [] H Q):
 RdE C (Ga C.K "list" r to) (sm f mo):=by
 intro σ H F θ s Q b p
 refine ho σ H F θ s _ b (PoR.bind p ?_)
 rintro ⟨x,s1⟩ H1 F1 θ1 _ st1 p1 b1 v r1
 dsimp only at p1 b1 r1
 split at p1
 ·rename_i k ds e
  obtain⟨rfl,e'⟩:=mq e
  obtain⟨a,xs,rfl,hk,hF,h1,h2⟩:=kF b1 r1 e'
  split at p1
  ·rename_i es d ef
   obtain⟨ys,u,q1,q2,q3⟩:=hr _ _ _ _ _ _ _ _ h2 ef
   obtain⟨st3,b3⟩:=b1.setC hk e' hF q1
   exact⟨.inl ⟨rfl,xs,SqL.of h1⟩,q3 a H1 Q h1 (p1 _ _ _ st3 b3 _ q2)⟩
  ·exact False.elim p1
 ·exact False.elim p1
def Ep:List D->Option (List D×D):=λ_=>some ([],.non)
theorem Fs{to:TE}{mo:EM}(ho:RdE C to mo):RdE C (Ga C.K "list" DL to) (sm Ep mo):=Ip ho λK ca θ F ds xs es d r e=>by
 cases e
 exact⟨[],.non,aw.nil,fg.mpr rfl,λa H Q h q=>⟨a,xs,rfl,rfl,h,q⟩⟩
def oQ(mo mi:EM):GM:=λd s=>(mo s).bind λx=>(mi x.2).bind λy=>match y.1 with
 | .int i=>match jq y.2.o x.1 with
  | some (k,ds)=>match ixN ds.length i with
   | some j=>.ok ⟨y.2.r,y.2.o.set k (.lst (ds.set j d))⟩
   | none=>.bad
  | none=>.bad
 | _=>.bad
theorem yr{to ti:TE}{mo mi:EM}(ho:RdE C to mo)(hi:RdE C ti mi):RdG C (Kb to ti GA) (oQ mo mi):=by
 intro σ H F θ s d v Q b rd p
 refine ho σ H F θ s _ b (PoR.bind p ?_)
 rintro ⟨x,s1⟩ H1 F1 θ1 _ st1 p1 b1 ov r1
 refine hi σ H1 F1 θ1 s1 _ b1 (PoR.bind p1 ?_)
 rintro ⟨y,s2⟩ H2 F2 θ2 _ st2 p2 b2 iv r2
 dsimp only at p2 b2 r2
 split at p2
 ·rename_i i _
  split at p2
  ·rename_i k ds e
   obtain⟨ek,e'⟩:=mq e
   subst ek
   obtain⟨a,xs,rfl,hk,hF,h1,h2⟩:=kF b2 (r1.mono st2.ff st2.pre) e'
   split at p2
   ·rename_i j ej
    obtain⟨st3,b3⟩:=b2.setC hk e' hF (aw.set ((rd.mono st1.ff st1.pre).mono st2.ff st2.pre) j h2)
    exact⟨a,xs,i,j,rfl,bj.mp r2,h1,by rw[h2.length];exact ej,p2 _ _ _ st3 _ b3⟩
   ·exact False.elim p2
  ·exact False.elim p2
 ·exact False.elim p2
theorem BS.frz{K:PySem.W.Frag}{ca:Nat->Addr}{σ:L2.St}{H F:Hp}{θ:List Addr}{s:S}(b:BS K ca σ H F θ s){k:Nat}{a:Addr}{ds:List D}{xs:List V}(hk:θ[k]? =some a)(hc:s.o[k]? =some (.lst ds))(hF:F a=none)(hH:H a=some (.lst xs))(hr:aw K ca θ F ds xs):
 Stp H F θ H (upd F a (.lst xs)) θ/\BS K ca σ H (upd F a (.lst xs)) θ ⟨s.r,s.o.set k .dead⟩/\Rep K ca θ (upd F a (.lst xs)) (.lst ds) (.ref a):=by
 have hm:a∈θ:=List.mem_of_getElem? hk
 have sF:bF F (upd F a (.lst xs)):=λe o he=>by
  rw[aP (λz=>by rw[z,hF] at he;cases he)];exact he
 refine⟨⟨sF,⟨[],by simp,by simp⟩,λe o he _=>he,λe o he=>⟨o,he⟩,λe o he=> ?_⟩,⟨⟨λe o he=> ?_,b.now.nd,by simpa using b.now.ln,λj a' c' e1 e2=> ?_⟩,b.len,λi d e=> ?_⟩, ?_⟩
 ·by_cases z:e=a
  ·exact .inr (.inr (by rw[z];exact hm))
  ·rw[aP z] at he;exact .inl he
 ·by_cases z:e=a
  ·subst z;rw[cC] at he;rw[hH];exact he
  ·rw[aP z] at he;exact b.now.fh _ _ he
 ·by_cases hj:k=j
  ·subst hj
   rw[hk] at e1;cases e1
   have:k<s.o.length:=(List.getElem?_eq_some_iff.mp hc).1
   rw[List.getElem?_set_self this] at e2
   cases e2
   exact⟨_,hH⟩
  ·rw[List.getElem?_set_ne hj] at e2
   have q:=b.now.ce j a' c' e1 e2
   have ne:a'≠a:=λz=>by
    subst z
    exact hj (px b.now.nd hk e1)
   cases c' with
   | dead=>exact q
   | lst ds=>obtain⟨q1,ys,q2,q3⟩:=q;exact⟨by rw[aP ne];exact q1,ys,q2,q3.mono sF ⟨[],by simp⟩⟩
   | ins c ns ds=>obtain⟨q1,dx,ys,q2,q3,q4⟩:=q;exact⟨by rw[aP ne];exact q1,dx,ys,q2,q3,q4.mono sF ⟨[],by simp⟩⟩
 ·obtain⟨v,h1,h2⟩:=b.sl i d e
  exact⟨v,h1,h2.mono sF ⟨[],by simp⟩⟩
 ·unfold Rep
  exact⟨a,xs,rfl,SqL.of cC,hr.mono sF ⟨[],by simp⟩⟩
def jx(m:EM):EM:=λs=>(m s).bind λx=>match jq x.2.o x.1 with
 | some (k,ds)=>.ok (.lst ds,⟨x.2.r,x.2.o.set k .dead⟩)
 | none=>.bad
theorem lr{t:TE}{m:EM}(h:RdE C t m):RdE C t (jx m):=by
 intro σ H F θ s Q b p
 refine h σ H F θ s _ b (PoR.bind p ?_)
 rintro ⟨x,s1⟩ H1 F1 θ1 _ st1 p1 b1 v r1
 dsimp only at p1 b1 r1
 split at p1
 ·rename_i k ds e
  obtain⟨rfl,e'⟩:=mq e
  obtain⟨a,xs,rfl,hk,hF,h1,h2⟩:=kF b1 r1 e'
  obtain⟨st2,b2,r2⟩:=b1.frz hk e' hF h1 h2
  exact p1 _ _ _ st2 b2 _ r2
 ·exact False.elim p1
def lL(m:Nat)(caps:List Nat)(r:List (Option D)):List (Option D):=List.replicate m none++caps.map λi=>(r[i]?).getD none
theorem CN{K:PySem.W.Frag}{ca:Nat->Addr}{σ:L2.St}{H F:Hp}{θ:List Addr}{s:S}(b:BS K ca σ H F θ s)(m:Nat)(caps:List Nat):BS K ca (mR m caps σ) H F θ ⟨lL m caps s.r,s.o⟩:=by
 refine⟨b.now,by unfold mR lL;simp,λi d e=> ?_⟩
 unfold lL at e
 dsimp only at e
 by_cases hi:i<m
 ·rw[List.getElem?_append_left (by simpa using hi),List.getElem?_replicate] at e
  split at e <;> cases e
 ·rw[List.getElem?_append_right (by simpa using hi)] at e
  simp only[List.length_replicate,List.getElem?_map] at e
  cases q:caps[i-m]? with
  | none=>rw[q] at e;cases e
  | some j=>
   rw[q] at e
   simp only[Option.map_some,Option.some.injEq] at e
   have e':s.r[j]? =some (some d):=by
    cases z:s.r[j]? with
    | none=>rw[z] at e;simp at e
    | some od=>rw[z] at e;simp at e;rw[e]
   obtain⟨v,h1,h2⟩:=b.sl j d e'
   refine⟨v, ?_,h2⟩
   unfold mR
   rw[List.getElem?_append_right (by simpa using hi)]
   simp only[List.length_replicate,List.getElem?_map,q,Option.map_some,h1,Option.getD_some]
def cE:TM:=λs=>.ok (true,s)
theorem cJ:RdT C GD cE:=λσ H F θ s Q b p=>p H F θ .refl b
open Classical in
noncomputable def cW (ok:ax->Prop)(g:GM)(c:TM)(e:EM):List D->List D->S->Res (List D×S)
 | [],acc,s=>if ok s.o then .ok (acc,s) else .bad
 | d::ds,acc,s=>if ok s.o/\acc.length<16777216 then (g d s).bind λs1=>(c s1).bind λx=>if x.1 then (e x.2).bind λy=>cW ok g c e ds (acc++[y.1]) y.2 else cW ok g c e ds acc x.2 else .bad
noncomputable def lP (m:Nat)(caps:List Nat)(im:IM)(g:GM)(c:TM)(e:EM):S->Res (List D×S):=λs=>(im s).bind λy=>
 (cW (okC y.1.1 y.1.2) g c e y.1.1 [] ⟨lL m caps y.2.r,y.2.o⟩).bind λz=>.ok (z.1,⟨y.2.r,z.2.o⟩)
theorem yi {m:Nat} {caps:List Nat} {wi:TI} {g:TG} {tc:TT} {te:TE} {im:IM} {gm:GM} {c:TM} {e:EM} (hi:RdI C wi im) (hg:RdG C g gm) (hc:RdT C tc c) (he:RdE C te e)
 {σ:L2.St} {H F:Hp} {θ:List Addr} {s:S} {Q:VK} (b:BS C.K C.ca σ H F θ s)
 (p:PoR C H F θ (lP m caps im gm c e s) λy H1 F1 θ1=>BS C.K C.ca σ H1 F1 θ1 y.2->∀q xs,H q=none->H1 q=some (.lst xs)->F1 q=none->q∉θ1->aw C.K C.ca θ1 F1 y.1 xs->Q (.ref q) H1):qh m caps wi g tc te σ H Q:=by
 refine hi σ H F θ s _ b (PoR.bind p ?_)
 rintro ⟨⟨ds,k⟩,s1⟩ H1 F1 θ1 _ st1 p1 b1 J it q hq
 dsimp only at p1 b1 it
 have st2:Stp H1 F1 θ1 (upd H1 q (.lst [])) F1 θ1:=by
  have nm:∀a u,H1 a=some u->a≠q:=λa u e z=>by rw[z,hq] at e;cases e
  exact⟨bF.refl _,⟨[],by simp,by simp⟩,λa u h _=>by rw[aP (nm a u h)];exact h,λa u h=>⟨u,by rw[aP (nm a u h)];exact h⟩,λa u h=>.inl h⟩
 have qθ:q∉θ1:=λh=>by obtain⟨u,hu⟩:=b1.now.there h;rw[hq] at hu;cases hu
 have qF:F1 q=none:=by
  cases e:F1 q with
  | none=>rfl
  | some u=>rw[b1.now.fh q u e] at hq;cases hq
 have hqH:H q=none:=by
  cases e:H q with
  | none=>rfl
  | some u=>obtain⟨u',e'⟩:=st1.al q u e;rw[hq] at e';cases e'
 have keep:∀{H2 F2 H3 F3:Hp} {θ2 θ3:List Addr} {o:HO},Stp H2 F2 θ2 H3 F3 θ3->H2 q=some o->F2 q=none->q∉θ2->H3 q=some o/\F3 q=none/\q∉θ3:=λ{H2 F2 H3 F3 θ2 θ3 o} st h1 h2 h3=>by
  refine⟨st.kp q o h1 h3, ?_, ?_⟩
  ·cases e:F3 q with
   | none=>rfl
   | some u=>
    rcases st.nf q u e with z | z | z
    ·rw[h2] at z;cases z
    ·rw[h1] at z;cases z
    ·exact absurd z h3
  ·obtain⟨r,rfl,hr⟩:=st.th
   intro hm
   rcases List.mem_append.mp hm with z | z
   ·exact h3 z
   ·rw[hr q z] at h1;cases h1
 have bs2:∀{σ':L2.St} {H2 F2:Hp} {θ2:List Addr} {s2:S} (o:HO),BS C.K C.ca σ' H2 F2 θ2 s2->F2 q=none->q∉θ2->BS C.K C.ca σ' (upd H2 q o) F2 θ2 s2:=λ{σ' H2 F2 θ2 s2} o b h1 h2=>by
  have ne:∀a,a∈θ2->a≠q:=λa h z=>h2 (z▸h)
  refine⟨⟨λa u h=> ?_,b.now.nd,b.now.ln,λj a c e1 e2=> ?_⟩,b.len,b.sl⟩
  ·have:a≠q:=λz=>by rw[z,h1] at h;cases h
   rw[aP this];exact b.now.fh a u h
  ·have hm:=ne a (List.mem_of_getElem? e1)
   have w:=b.now.ce j a c e1 e2
   cases c with
   | dead=>obtain⟨u,hu⟩:=w;exact⟨u,by rw[aP hm];exact hu⟩
   | lst ds=>obtain⟨q1,ys,q2,q3⟩:=w;exact⟨q1,ys,by rw[aP hm];exact q2,q3⟩
   | ins c ns ds=>obtain⟨q1,dx,ys,q2,q3,q4⟩:=w;exact⟨q1,dx,ys,by rw[aP hm];exact q2,q3,q4⟩
 have stq:∀{H2 F2:Hp} {θ2:List Addr} (o:HO),Stp H1 F1 θ1 H2 F2 θ2->Stp H1 F1 θ1 (upd H2 q o) F2 θ2:=λ{H2 F2 θ2} o st=>by
  have nm:∀a u,H1 a=some u->a≠q:=λa u e z=>by rw[z,hq] at e;cases e
  exact⟨st.ff,st.th,λa u h1 h2=>by rw[aP (nm a u h1)];exact st.kp a u h1 h2,λa u h1=>by rw[aP (nm a u h1)];exact st.al a u h1,st.nf⟩
 refine⟨λi n acc σ' H'=>n=ds.length-i/\i<=ds.length/\∃F' θ' s' as,Stp H1 F1 θ1 H' F' θ'/\H' q=some (.lst acc)/\F' q=none/\q∉θ'/\BS C.K C.ca σ' H' F' θ' s'/\aw C.K C.ca θ' F' as acc/\
  PoR C H1 F1 θ1 ((cW (okC ds k) gm c e (ds.drop i) as s').bind λz=>.ok (z.1,(⟨s1.r,z.2.o⟩:S))) (λy H1 F1 θ1=>BS C.K C.ca σ H1 F1 θ1 y.2->∀q xs,H q=none->H1 q=some (.lst xs)->F1 q=none->q∉θ1->aw C.K C.ca θ1 F1 y.1 xs->Q (.ref q) H1),
  ⟨ds.length,by simp,Nat.zero_le _,F1,θ1,⟨lL m caps s1.r,s1.o⟩,[],st2,cC,qF,qθ,bs2 _ (CN b1 m caps) qF qθ,aw.nil,by simpa using p1⟩, ?_⟩
 rintro i n acc σ' H' ⟨rfl,hil,F',θ',s',as,st,hq',qF',qθ',bs,hacc,po⟩
 by_cases lt:i<ds.length
 ·right
  rw[List.drop_eq_getElem_cons lt,cW] at po
  split at po
  ·rename_i hok
   refine⟨it.go i H' F' θ' s'.o lt st bs.now hok.1, ?_⟩
   intro x H3 hy
   obtain⟨F3,st3,b3,rp⟩:=it.yl i ds[i] σ' H' F' θ' s' x H3 (List.getElem?_eq_getElem lt) st bs hok.1 hy
   obtain⟨k1,k2,k3⟩:=keep st3 hq' qF' qθ'
   have st13:=st.trans st3
   have po3:=PoR.after st13 po
   have w1:PoG C H3 F3 θ' (gm ds[i] s') (λσ4 H4=>tc σ4 H4 λb H4=>if b=true then
    te σ4 H4 λy H5=>H5 q=some (.lst acc)/\acc.length<sizeLine/\∃k',k'<ds.length-i/\(k'=ds.length-(i+1)/\i+1<=ds.length/\∃F' θ' s' as,Stp H1 F1 θ1 (upd H5 q (.lst (acc++[y]))) F' θ'/\(upd H5 q (.lst (acc++[y]))) q=some (.lst (acc++[y]))/\F' q=none/\q∉θ'/\BS C.K C.ca σ4 (upd H5 q (.lst (acc++[y]))) F' θ' s'/\aw C.K C.ca θ' F' as (acc++[y])/\
     PoR C H1 F1 θ1 ((cW (okC ds k) gm c e (ds.drop (i+1)) as s').bind λz=>.ok (z.1,(⟨s1.r,z.2.o⟩:S))) (λy H1 F1 θ1=>BS C.K C.ca σ H1 F1 θ1 y.2->∀q xs,H q=none->H1 q=some (.lst xs)->F1 q=none->q∉θ1->aw C.K C.ca θ1 F1 y.1 xs->Q (.ref q) H1))
    else ∃k',k'<ds.length-i/\(k'=ds.length-(i+1)/\i+1<=ds.length/\∃F' θ' s' as,Stp H1 F1 θ1 H4 F' θ'/\H4 q=some (.lst acc)/\F' q=none/\q∉θ'/\BS C.K C.ca σ4 H4 F' θ' s'/\aw C.K C.ca θ' F' as acc/\
     PoR C H1 F1 θ1 ((cW (okC ds k) gm c e (ds.drop (i+1)) as s').bind λz=>.ok (z.1,(⟨s1.r,z.2.o⟩:S))) (λy H1 F1 θ1=>BS C.K C.ca σ H1 F1 θ1 y.2->∀q xs,H q=none->H1 q=some (.lst xs)->F1 q=none->q∉θ1->aw C.K C.ca θ1 F1 y.1 xs->Q (.ref q) H1))):=by
    cases e1:gm ds[i] s' with
    | bad=>rw[e1] at po3;exact po3
    | exc a1 a2 a3=>rw[e1] at po3;exact po3
    | ok s4=>
     rw[e1] at po
     intro H4 F4 θ4 st4 σ4 b4
     obtain⟨l1,l2,l3⟩:=keep st4 k1 k2 k3
     refine hc σ4 H4 F4 θ4 s4 _ b4 ?_
     cases e2:c s4 with
     | bad=>rw[ai,e2] at po;exact po
     | exc a1 a2 a3=>rw[ai,e2] at po;exact PoR.after (st13.trans st4) po
     | ok x5=>
      obtain⟨kk,s5⟩:=x5
      rw[ai,e2,ai] at po
      intro H5 F5 θ5 st5 b5
      obtain⟨m1,m2,m3⟩:=keep st5 l1 l2 l3
      have hacc5:=((hacc.mono st3.ff st3.pre).mono st4.ff st4.pre).mono st5.ff st5.pre
      cases kk with
      | false=>
       exact rH ⟨ds.length-(i+1),by omega,rfl,by omega,F5,θ5,s5,as,st13.trans (st4.trans st5),m1,m2,m3,b5,hacc5,by simpa using po⟩
      | true=>
       refine qM (he σ4 H5 F5 θ5 s5 _ b5 ?_)
       dsimp only[if_true] at po
       cases e3:e s5 with
       | bad=>rw[e3] at po;exact po
       | exc a1 a2 a3=>rw[e3] at po;exact PoR.after (st13.trans (st4.trans st5)) po
       | ok x6=>
        obtain⟨y,s6⟩:=x6
        rw[e3,ai] at po
        intro H6 F6 θ6 st6 b6 w r6
        obtain⟨n1,n2,n3⟩:=keep st6 m1 m2 m3
        exact⟨n1,by rw[hacc.length];exact hok.2,ds.length-(i+1),by omega,rfl,by omega,F6,θ6,s6,as++[y],stq _ (st13.trans (st4.trans (st5.trans st6))),cC,n2,n3,bs2 _ b6 n2 n3,(hacc5.mono st6.ff st6.pre).append (aw.one r6),po⟩
   exact hg σ' H3 F3 θ' s' ds[i] x _ b3 rp w1
  ·exact False.elim po
 ·left
  rw[List.drop_eq_nil_of_le (by omega),cW] at po
  split at po
  ·rename_i hok
   refine⟨it.st i H' F' θ' s'.o (by omega) st bs.now hok,hq', ?_⟩
   refine po H' F' θ' st ⟨bs.now,b1.len,λj d e=> ?_⟩ q acc hqH hq' qF' qθ' hacc
   obtain⟨v,h1,h2⟩:=b1.sl j d e
   exact⟨v,h1,h2.mono st.ff st.pre⟩
  ·exact False.elim po
noncomputable def cO (m:Nat)(caps:List Nat)(im:IM)(g:GM)(c:TM)(e:EM):EM:=λs=>(lP m caps im g c e s).bind λy=>.ok (.lst y.1,y.2)
theorem cY{m:Nat}{caps:List Nat}{wi:TI}{g:TG}{tc:TT}{te:TE}{im:IM}{gm:GM}{c:TM}{e:EM}(hi:RdI C wi im)(hg:RdG C g gm)(hc:RdT C tc c)(he:RdE C te e):RdE C (qh m caps wi g tc te) (cO m caps im gm c e):=by
 intro σ H F θ s Q b p
 refine yi hi hg hc he b ?_
 unfold cO at p
 cases e1:lP m caps im gm c e s with
 | bad=>rw[e1] at p;exact p
 | exc a1 a2 a3=>rw[e1] at p;exact p
 | ok y=>
  rw[e1,ai] at p
  intro H1 F1 θ1 st1 b1 q xs h0 h1 h2 h3 hr
  have sF:bF F1 (upd F1 q (.lst xs)):=λa u h=>by
   rw[aP (λz=>by rw[z,h2] at h;cases h)];exact h
  refine p H1 (upd F1 q (.lst xs)) θ1 ⟨st1.ff.trans sF,st1.th,st1.kp,st1.al,λa u h=> ?_⟩ ⟨⟨λa u h=> ?_,b1.now.nd,b1.now.ln,λj a c e2 e3=> ?_⟩,b1.len,λi d e2=> ?_⟩ (.ref q) ?_
  ·by_cases z:a=q
   ·subst z;exact .inr (.inl h0)
   ·rw[aP z] at h;exact st1.nf a u h
  ·by_cases z:a=q
   ·subst z;rw[cC] at h;rw[h1];exact h
   ·rw[aP z] at h;exact b1.now.fh a u h
  ·have ne:a≠q:=λz=>h3 (z▸List.mem_of_getElem? e2)
   have w:=b1.now.ce j a c e2 e3
   cases c with
   | dead=>exact w
   | lst ds=>obtain⟨q1,ys,q2,q3⟩:=w;exact⟨by rw[aP ne];exact q1,ys,q2,q3.mono sF ⟨[],by simp⟩⟩
   | ins c ns ds=>obtain⟨q1,dx,ys,q2,q3,q4⟩:=w;exact⟨by rw[aP ne];exact q1,dx,ys,q2,q3,q4.mono sF ⟨[],by simp⟩⟩
  ·obtain⟨v,w1,w2⟩:=b1.sl i d e2
   exact⟨v,w1,w2.mono sF ⟨[],by simp⟩⟩
  ·unfold Rep
   exact⟨q,xs,rfl,SqL.of cC,hr.mono sF ⟨[],by simp⟩⟩
noncomputable def md (m:Nat)(caps:List Nat)(im:IM)(g:GM)(c:TM)(e:EM):EM:=λs=>(lP m caps im g c e s).bind λy=>.ok (.ptr y.2.o.length,⟨y.2.r,y.2.o++[.lst y.1]⟩)
theorem og{m:Nat}{caps:List Nat}{wi:TI}{g:TG}{tc:TT}{te:TE}{im:IM}{gm:GM}{c:TM}{e:EM}(hi:RdI C wi im)(hg:RdG C g gm)(hc:RdT C tc c)(he:RdE C te e):RdE C (qh m caps wi g tc te) (md m caps im gm c e):=by
 intro σ H F θ s Q b p
 refine yi hi hg hc he b ?_
 unfold md at p
 cases e1:lP m caps im gm c e s with
 | bad=>rw[e1] at p;exact p
 | exc a1 a2 a3=>rw[e1] at p;exact p
 | ok y=>
  rw[e1,ai] at p
  intro H1 F1 θ1 st1 b1 q xs h0 h1 h2 h3 hr
  obtain⟨r,er,hr0⟩:=st1.th
  refine p H1 F1 (θ1++[q]) ⟨st1.ff,⟨r++[q],by rw[er,List.append_assoc],λa ha=> ?_⟩,st1.kp,st1.al,st1.nf⟩ ⟨⟨b1.now.fh, ?_,by simp[b1.now.ln],λk a c e2 e3=> ?_⟩,b1.len,λi d e2=> ?_⟩ (.ref q) ?_
  ·rcases List.mem_append.mp ha with z | z
   ·exact hr0 a z
   ·rw[List.mem_singleton.mp z];exact h0
  ·refine List.nodup_append.mpr ⟨b1.now.nd,by simp,λa ha x hx=> ?_⟩
   rw[List.mem_singleton.mp hx]
   rintro rfl
   exact h3 ha
  ·by_cases hk:k<θ1.length
   ·rw[List.getElem?_append_left hk] at e2
    dsimp only at e3
    rw[List.getElem?_append_left (by rw[<- b1.now.ln];exact hk)] at e3
    have w:=b1.now.ce k a c e2 e3
    cases c with
    | dead=>exact w
    | lst ds=>obtain⟨q1,ys,q2,q3⟩:=w;exact⟨q1,ys,q2,q3.mono (bF.refl _) ⟨[q],rfl⟩⟩
    | ins c ns ds=>obtain⟨q1,dx,ys,q2,q3,q4⟩:=w;exact⟨q1,dx,ys,q2,q3,q4.mono (bF.refl _) ⟨[q],rfl⟩⟩
   ·have hk1:k<(θ1++[q]).length:=(List.getElem?_eq_some_iff.mp e2).1
    have hk2:k=θ1.length:=by simp at hk1;omega
    subst hk2
    rw[List.getElem?_append_right (Nat.le_refl _)] at e2
    dsimp only at e3
    rw[List.getElem?_append_right (by rw[b1.now.ln];exact Nat.le_refl _),b1.now.ln] at e3
    simp at e2 e3
    subst e2;subst e3
    exact⟨h2,xs,h1,hr.mono (bF.refl _) ⟨[q],rfl⟩⟩
  ·obtain⟨v,w1,w2⟩:=b1.sl i d e2
   exact⟨v,w1,w2.mono (bF.refl _) ⟨[q],rfl⟩⟩
  ·unfold Rep
   exact⟨q,rfl,by rw[<- b1.now.ln];simp⟩
end
end M
set_option maxRecDepth 100000
set_option maxHeartbeats 4000000
namespace M
open PySem PySem.Spec PyProof.Rows L2
section
variable {C : Ct}
theorem zo{σ:L2.St}{H F:Hp}{θ:List Addr}{s:S}{ds:List D}{Q:VK}(p:PoE C σ H F θ (.ok (.ptr s.o.length,(⟨s.r,s.o++[.lst ds]⟩:S))) Q)(b:BS C.K C.ca σ H F θ s){xs:List V}(r:aw C.K C.ca θ F ds xs):
 ∀q,H q=none->Q (.ref q) (upd H q (.lst xs)):=λq hq=>by
 obtain⟨st,b2,rp⟩:=b.newC hq r
 exact p _ _ _ st b2 _ rp
def rW(O:ax):D->Option (List D)
 | .tup ds=>some ds
 | x=>lsD O x
def xH(m:EM):EM:=λs=>(m s).bind λx=>match rW x.2.o x.1 with
 | some ds=>.ok (.ptr x.2.o.length,⟨x.2.r,x.2.o++[.lst ds]⟩)
 | none=>.bad
theorem Fi{t:TE}{m:EM}(h:RdE C t m):RdE C (tCB (λxs H Q=>∃p ys,xs=[.ref p]/\(SqL C.K H p ys\/SqT C.K H p ys)/\∀l,H l=none->Q (.ref l) (upd H l (.lst ys))) (oj t qI)) (xH m):=by
 intro σ H F θ s Q b p
 refine h σ H F θ s _ b (PoR.bind p ?_)
 rintro ⟨x,s1⟩ H1 F1 θ1 _ st1 p1 b1 v r1
 dsimp only at p1 b1 r1
 split at p1
 ·rename_i ds e
  cases x with
  | tup es=>
   cases e
   obtain⟨a,xs,rfl,hs,hr⟩:=uo b1 r1
   exact⟨a,xs,rfl,.inr hs,zo p1 b1 hr⟩
  | _=>
   obtain⟨a,xs,rfl,hs,hr⟩:=fS b1 r1 e
   exact⟨a,xs,rfl,.inl hs,zo p1 b1 hr⟩
 ·exact False.elim p1
mutual
def shD(n:Nat):D->D
 | .lst ds=>.lst (hU n ds)
 | .tup ds=>.tup (hU n ds)
 | .ptr k=>.ptr (n+k)
 | .obj c ns ds=>.obj c ns (hU n ds)
 | .exn c=>.exn c
 | .non=>.non
 | .bl b=>.bl b
 | .int i=>.int i
 | .str x=>.str x
def hU(n:Nat):List D->List D
 | []=>[]
 | d::ds=>shD n d::hU n ds
end
def shC(n:Nat):Cell->Cell
 | .dead=>.dead
 | .lst ds=>.lst (hU n ds)
 | .ins c ns ds=>.ins c ns (hU n ds)
section
variable {K : PySem.W.Frag} {ca : Nat → Addr} {F : Hp} {θ θ1 : List Addr}
mutual
theorem DH:∀{d:D} {v:V},Rep K ca θ1 F d v->Rep K ca (θ++θ1) F (shD θ.length d) v
 | .non,_,h=>by unfold shD;exact h
 | .bl _,_,h=>by unfold shD;exact h
 | .int _,_,h=>by unfold shD;exact h
 | .str _,_,h=>by unfold shD;exact h
 | .lst ds,_,h=>by
  unfold shD
  unfold Rep at h ⊢
  obtain⟨a,xs,e,hs,hr⟩:=h
  exact⟨a,xs,e,hs,nj hr⟩
 | .tup ds,_,h=>by
  unfold shD
  unfold Rep at h ⊢
  obtain⟨a,xs,e,hs,hr⟩:=h
  exact⟨a,xs,e,hs,nj hr⟩
 | .ptr k,_,h=>by
  unfold shD
  unfold Rep at h ⊢
  obtain⟨a,e,hk⟩:=h
  exact⟨a,e,by rw[List.getElem?_append_right (Nat.le_add_right _ _),Nat.add_sub_cancel_left];exact hk⟩
 | .obj c ns ds,_,h=>by
  unfold shD
  unfold Rep at h ⊢
  obtain⟨a,dx,xs,e,ha,hl,hr⟩:=h
  exact⟨a,dx,xs,e,ha,hl,nj hr⟩
 | .exn c,_,h=>by
  unfold shD
  unfold Rep at h ⊢
  exact h
theorem nj:∀{ds:List D} {xs:List V},aw K ca θ1 F ds xs->aw K ca (θ++θ1) F (hU θ.length ds) xs
 | [],_,h=>by unfold hU;exact h
 | d::ds,_,h=>by
  unfold hU
  unfold aw at h ⊢
  obtain⟨v,r,e,h1,h2⟩:=h
  exact⟨v,r,e,DH h1,nj h2⟩
end
end
theorem BS.calledO{K:PySem.W.Frag}{ca:Nat->Addr}{σ:L2.St}{H F H1 F1:Hp}{θ θ1:List Addr}{s:S}{O1:ax}(b:BS K ca σ H F θ s)(st:Stp H F [] H1 F1 θ1)(n:Now K ca H1 F1 θ1 O1):
 Stp H F θ H1 F1 (θ++θ1)/\BS K ca σ H1 F1 (θ++θ1) ⟨s.r,s.o++O1.map (shC s.o.length)⟩:=by
 obtain⟨st0,b0⟩:=b.called st n
 obtain⟨r,er,hr⟩:=st.th
 rw[List.nil_append] at er
 subst er
 refine⟨⟨st0.ff,⟨θ1,rfl,hr⟩,st0.kp,st0.al,st0.nf⟩,⟨⟨n.fh,List.nodup_append.mpr ⟨b.now.nd,n.nd,λa ha x hx=> ?_⟩,by simp[b.now.ln,n.ln],λk a c e1 e2=> ?_⟩,b.len,λi d e=> ?_⟩⟩
 ·rintro rfl
  obtain⟨u,hu⟩:=b.now.there ha
  rw[hr a hx] at hu
  cases hu
 ·by_cases hk:k<θ.length
  ·rw[List.getElem?_append_left hk] at e1
   dsimp only at e2
   rw[List.getElem?_append_left (by rw[<- b.now.ln];exact hk)] at e2
   have w:=b0.now.ce k a c e1 e2
   cases c with
   | dead=>exact w
   | lst ds=>obtain⟨q1,ys,q2,q3⟩:=w;exact⟨q1,ys,q2,q3.mono (bF.refl _) ⟨θ1,rfl⟩⟩
   | ins c ns ds=>obtain⟨q1,dx,ys,q2,q3,q4⟩:=w;exact⟨q1,dx,ys,q2,q3,q4.mono (bF.refl _) ⟨θ1,rfl⟩⟩
  ·rw[List.getElem?_append_right (by omega)] at e1
   dsimp only at e2
   rw[List.getElem?_append_right (by rw[<- b.now.ln];omega),List.getElem?_map,<- b.now.ln] at e2
   cases e3:O1[k-θ.length]? with
   | none=>rw[e3] at e2;cases e2
   | some c'=>
    rw[e3] at e2
    cases e2
    have w:=n.ce _ a c' e1 e3
    cases c' with
    | dead=>exact w
    | lst ds=>obtain⟨q1,ys,q2,q3⟩:=w;exact⟨q1,ys,q2,nj q3⟩
    | ins c ns ds=>obtain⟨q1,dx,ys,q2,q3,q4⟩:=w;exact⟨q1,dx,ys,q2,q3,nj q4⟩
 ·obtain⟨v,h1,h2⟩:=b0.sl i d e
  exact⟨v,h1,h2.mono (bF.refl _) ⟨θ1,rfl⟩⟩
def gE(n:Nat)(f:FM)(ma:AM):EM:=λs=>(ma s).bind λx=>if aL x.1=true/\x.1.length=n then (match f x.1 [] with
 | .ok (d,O1)=>.ok (shD x.2.o.length d,⟨x.2.r,x.2.o++O1.map (shC x.2.o.length)⟩)
 | _=>.bad) else .bad
theorem jA{n:Nat}{f:FM}{ta:TA}{ma:AM}{E:XK}(ha:RdA C ta ma):RdE C (rQ (spM C.K C.ca n f) [] E ta) (gE n f ma):=by
 intro σ H F θ s Q b p
 refine ha σ H F θ s _ b (PoR.bind p ?_)
 rintro ⟨x,s1⟩ H1 F1 θ1 _ st1 p1 b1 v r1
 dsimp only at p1 b1 r1 ⊢
 split at p1
 ·rename_i hp
  rw[List.append_nil]
  refine⟨F1,[],x,[],Now.nil b1.now.fh,r1.pure hp.1,hp.2, ?_⟩
  split at p1
  ·rename_i d O1 e
   rw[e]
   intro v H2 F2 θ2 st2 n2 rv
   obtain⟨st3,b3⟩:=b1.calledO st2 n2
   refine p1 H2 F2 _ st3 b3 v ?_
   rw[<- b1.now.ln]
   exact DH rv
  ·exact False.elim p1
 ·exact False.elim p1
def ja(n:Nat)(f:FM)(ma:AM):EM:=λs=>(ma s).bind λx=>if aL (bA x.2.o (bA x.2.o x.1))=true/\x.1.length=n then (match f (bA x.2.o (bA x.2.o x.1)) [] with
 | .ok (d,_)=>if m7 d=true then .ok (d,x.2) else .bad
 | _=>.bad) else .bad
theorem j1(O:ax):∀ds:List D,(bA O ds).length=ds.length
 | []=>by unfold bA;rfl
 | d::ds=>by unfold bA;rw[List.length_cons,List.length_cons,j1 O ds]
theorem pJ{n:Nat}{f:FM}{ta:TA}{ma:AM}{E:XK}(ha:RdA C ta ma):RdE C (rQ (spM C.K C.ca n f) [] E ta) (ja n f ma):=by
 intro σ H F θ s Q b p
 refine ha σ H F θ s _ b (PoR.bind p ?_)
 rintro ⟨x,s1⟩ H1 F1 θ1 _ st1 p1 b1 v r1
 dsimp only at p1 b1 r1 ⊢
 split at p1
 ·rename_i hp
  rw[List.append_nil]
  have rr:aw C.K C.ca θ1 H1 (bA s1.o (bA s1.o x)) v:=kq b1.now b1.now.fh (bF.refl _) (kq b1.now (bF.refl _) b1.now.fh r1)
  refine⟨H1,[],bA s1.o (bA s1.o x),[],Now.nil (bF.refl _),rr.pure hp.1,by rw[j1,j1];exact hp.2, ?_⟩
  split at p1
  ·rename_i d O1 e
   rw[e]
   intro v H2 F2 θ2 st2 n2 rv
   split at p1
   ·rename_i sd
    have kp:∀a o,H1 a=some o->H2 a=some o:=λa o h=>st2.kp a o h (by simp)
    refine p1 H2 F1 θ1 ⟨bF.refl _,⟨[],by simp,by simp⟩,λa o h _=>kp a o h,st2.al,λa o h=>.inl h⟩ ⟨⟨λa o h=>kp a o (b1.now.fh a o h),b1.now.nd,b1.now.ln,λk a c e1 e2=> ?_⟩,b1.len,b1.sl⟩ v (rv.scal sd)
    have w:=b1.now.ce k a c e1 e2
    cases c with
    | dead=>obtain⟨o,ho⟩:=w;exact⟨o,kp a o ho⟩
    | lst ds=>obtain⟨q1,ys,q2,q3⟩:=w;exact⟨q1,ys,kp _ _ q2,q3⟩
    | ins c ns ds=>obtain⟨q1,dx,ys,q2,q3,q4⟩:=w;exact⟨q1,dx,ys,kp _ _ q2,q3,q4⟩
   ·exact False.elim p1
  ·exact False.elim p1
 ·exact False.elim p1
end
end M
set_option maxRecDepth 100000
set_option maxHeartbeats 4000000
namespace M
open PySem PySem.Spec PyProof.Rows L2
def bT(P:Program)(w:World)(K:PySem.W.Frag)(mg:Str->Option Value)(base:Heap)(ca:Nat->Addr)(lv:Nat)(x:Str)(ps:List Str)(f:FM)(a:Addr)(fd:FuncData):Prop:=
 fM P w K mg base (CXE P w) lv a fd ps (spM K ca ps.length f)/\mg x=some (.ref a)/\PySem.W.keepIn K (.ref a)=true/\Binds K fd ps []
def bG(P:Program)(w:World)(K:PySem.W.Frag)(mg:Str->Option Value)(base:Heap)(ca:Nat->Addr)(lv:Nat)(x:Str)(ps:List Str)(f:FM):Prop:=∃a fd,bT P w K mg base ca lv x ps f a fd
theorem bT.in{P:Program}{w:World}{K:PySem.W.Frag}{mg:Str->Option Value}{base:Heap}{ca:Nat->Addr}{lv:Nat}{x:Str}{ps:List Str}{f:FM}{a:Addr}{fd:FuncData}(h:bT P w K mg base ca lv x ps f a fd):bG P w K mg base ca lv x ps f:=⟨a,fd,h⟩
theorem wC{K:PySem.W.Frag}{ca:Nat->Addr}{θ:List Addr}{F:Hp}:∀ns:List Int,aw K ca θ F (ns.map D.int) (ns.map V.int)
 | []=>aw.nil
 | _::ns=>aw.cons (bj.mpr rfl) (wC ns)
theorem JD{K:PySem.W.Frag}{ca:Nat->Addr}{H:Hp}{a:Addr}{ns:List Int}{f:FM}{E:XK}(hS:SqL K H a (ns.map V.int))(h:∃O,f [.lst (ns.map D.int)] []=.ok (.bl true,O)):spM K ca 1 f [.ref a] H (λv _=>v=.bl true) E:=by
 obtain⟨O,h⟩:=h
 refine⟨H,[],[.lst (ns.map D.int)],[],Now.nil (bF.refl _),aw.one ?_,rfl, ?_⟩
 ·unfold Rep
  exact⟨a,ns.map V.int,rfl,hS,wC ns⟩
 ·rw[h]
  intro v H1 F1 θ1 _ _ r
  exact cA.mp r
theorem bR{k:Nat}{A:Around}(hr:dY k A)(hk:32<=k):A.depth+100<recursionLimit:=by
 have:=hr.dp
 omega
def sk(i:Nat)(s:S):Nat:=match s.r[i]? with
 | some (some (.int j))=>j.natAbs+1
 | _=>0
end M
set_option maxRecDepth 100000
set_option maxHeartbeats 4000000
namespace M
open PySem PySem.Spec PyProof.Rows L2
section
variable {C : Ct}
def lB(as bs:List D):List D:=List.zipWith (λa b=>.tup [a,b]) as bs
def rB(m:AM):IM:=λs=>(m s).bind λx=>match x.1 with
 | [.lst as,.lst bs]=>.ok ((lB as bs,none),x.2)
 | _=>.bad
theorem pL{as bs:List D}{i:Nat}{d:D}(h:(lB as bs)[i]? =some d):∃x y,as[i]? =some x/\bs[i]? =some y/\d=.tup [x,y]:=by
 unfold lB at h
 rw[List.getElem?_zipWith] at h
 cases h1:as[i]? with
 | none=>rw[h1] at h;cases h
 | some x=>
  cases h2:bs[i]? with
  | none=>rw[h1,h2] at h;cases h
  | some y=>
   rw[h1,h2] at h
   cases h
   exact⟨x,y,rfl,rfl,rfl⟩
theorem Ji{a b:Addr}{xs ys:List V}{as bs:List D}{H F:Hp}{θ:List Addr}(h1:SqL C.K F a xs)(h2:SqL C.K F b ys)(r1:aw C.K C.ca θ F as xs)(r2:aw C.K C.ca θ F bs ys):
 qK C (Itz C.K a b) (lB as bs) (okC (lB as bs) none) H F θ where
 go:=λi H2 F2 θ2 O2 hi st n _=>by
  obtain⟨x,y,e1,e2,_⟩:=pL (List.getElem?_eq_getElem hi)
  obtain⟨v,q1,_⟩:=r1.get e1
  obtain⟨w,q2,_⟩:=r2.get e2
  exact⟨xs,ys,v,w,n.fh.seq (st.ff.seq h1),n.fh.seq (st.ff.seq h2),q1,q2⟩
 yl:=λi d σ H2 F2 θ2 s2 x H3 hd st b _ hy=>by
  obtain⟨T,v,w,hT,rfl,rfl,hv,hw⟩:=hy
  obtain⟨x,y,e1,e2,rfl⟩:=pL hd
  obtain⟨v',q1,k1⟩:=r1.get e1
  obtain⟨w',q2,k2⟩:=r2.get e2
  have:=hv xs (b.now.fh.seq (st.ff.seq h1))
  rw[q1] at this
  cases this
  have:=hw ys (b.now.fh.seq (st.ff.seq h2))
  rw[q2] at this
  cases this
  obtain⟨st3,b3,sF,e3⟩:=b.newF hT (.tup [v,w])
  refine⟨_,st3,b3, ?_⟩
  unfold Rep
  exact⟨T,[v,w],rfl,SqT.of e3,aw.cons ((k1.mono st.ff st.pre).mono st3.ff st3.pre) (aw.one ((k2.mono st.ff st.pre).mono st3.ff st3.pre))⟩
 st:=λi H2 F2 θ2 O2 hi st n _=>by
  refine⟨xs,ys,n.fh.seq (st.ff.seq h1),n.fh.seq (st.ff.seq h2), ?_⟩
  unfold lB at hi
  rw[List.length_zipWith] at hi
  rw[r1.length,r2.length]
  omega
theorem yw{ta:TA}{m:AM}(h:RdA C ta m):RdI C (Fq C.K ta) (rB m):=by
 intro σ H F θ s R b p
 refine h σ H F θ s _ b (PoR.bind p ?_)
 rintro ⟨x,s1⟩ H1 F1 θ1 _ st1 p1 b1 v r1
 dsimp only at p1 b1 r1
 split at p1
 ·rename_i as bs
  obtain⟨v1,v2,rfl,k1,k2⟩:=GR r1
  unfold Rep at k1 k2
  obtain⟨a,xs,rfl,hs,hr⟩:=k1
  obtain⟨b',ys,rfl,hs',hr'⟩:=k2
  exact⟨a,b',rfl,⟨xs,b1.now.fh.seq hs⟩,⟨ys,b1.now.fh.seq hs'⟩,p1 _ _ _ .refl b1 _ (Ji hs hs' hr hr')⟩
 ·exact False.elim p1
def dq(ds:List D):List D:=ds.mapIdx λi d=>.tup [.int (i:Nat),d]
def dv(m:AM):IM:=λs=>(m s).bind λx=>match x.1 with
 | [.lst as]=>.ok ((dq as,none),x.2)
 | _=>.bad
theorem wO{as:List D}{i:Nat}{d:D}(h:(dq as)[i]? =some d):∃x,as[i]? =some x/\d=.tup [.int (i:Nat),x]:=by
 unfold dq at h
 rw[List.getElem?_mapIdx] at h
 cases h1:as[i]? with
 | none=>rw[h1] at h;cases h
 | some x=>
  rw[h1] at h
  cases h
  exact⟨x,rfl,rfl⟩
theorem Ho{a:Addr}{xs:List V}{as:List D}{H F:Hp}{θ:List Addr}(h1:SqL C.K F a xs)(r1:aw C.K C.ca θ F as xs):qK C (Ite C.K a) (dq as) (okC (dq as) none) H F θ where
 go:=λi H2 F2 θ2 O2 hi st n _=>by
  obtain⟨x,e1,_⟩:=wO (List.getElem?_eq_getElem hi)
  obtain⟨v,q1,_⟩:=r1.get e1
  exact⟨xs,v,n.fh.seq (st.ff.seq h1),q1⟩
 yl:=λi d σ H2 F2 θ2 s2 x H3 hd st b _ hy=>by
  obtain⟨T,v,hT,rfl,rfl,hv⟩:=hy
  obtain⟨x,e1,rfl⟩:=wO hd
  obtain⟨v',q1,k1⟩:=r1.get e1
  have:=hv xs (b.now.fh.seq (st.ff.seq h1))
  rw[q1] at this
  cases this
  obtain⟨st3,b3,sF,e3⟩:=b.newF hT (.tup [.int (i:Nat),v])
  refine⟨_,st3,b3, ?_⟩
  unfold Rep
  exact⟨T,[.int (i:Nat),v],rfl,SqT.of e3,aw.cons (bj.mpr rfl) (aw.one ((k1.mono st.ff st.pre).mono st3.ff st3.pre))⟩
 st:=λi H2 F2 θ2 O2 hi st n _=>by
  refine⟨xs,n.fh.seq (st.ff.seq h1), ?_⟩
  unfold dq at hi
  rw[List.length_mapIdx] at hi
  rw[r1.length]
  exact hi
theorem gS{ta:TA}{m:AM}(h:RdA C ta m):RdI C (Gq C.K ta) (dv m):=by
 intro σ H F θ s R b p
 refine h σ H F θ s _ b (PoR.bind p ?_)
 rintro ⟨x,s1⟩ H1 F1 θ1 _ st1 p1 b1 v r1
 dsimp only at p1 b1 r1
 split at p1
 ·rename_i as
  obtain⟨v1,rfl,k1⟩:=lV r1
  unfold Rep at k1
  obtain⟨a,xs,rfl,hs,hr⟩:=k1
  exact⟨a,rfl,⟨xs,b1.now.fh.seq hs⟩,p1 _ _ _ .refl b1 _ (Ho hs hr)⟩
 ·exact False.elim p1
def nH(x:Str):List D:=x.cps.toList.map λc=>.str ⟨#[c]⟩
def Ci(m:EM):IM:=λs=>(m s).bind λx=>match x.1 with
 | .str z=>.ok ((nH z,none),x.2)
 | _=>.bad
theorem Jp{z:Str}{H F:Hp}{θ:List Addr}:qK C (Its z) (nH z) (okC (nH z) none) H F θ where
 go:=λi H2 F2 θ2 O2 hi st n _=>by
  unfold nH at hi
  show i<z.cps.size
  simpa using hi
 yl:=λi d σ H2 F2 θ2 s2 x H3 hd st b _ hy=>by
  obtain⟨rfl,c,hc,rfl⟩:=hy
  refine⟨F2,.refl,b, ?_⟩
  unfold nH at hd
  rw[List.getElem?_map,Array.getElem?_toList,hc] at hd
  cases hd
  exact dg.mpr rfl
 st:=λi H2 F2 θ2 O2 hi st n _=>by
  unfold nH at hi
  show z.cps.size<=i
  simpa using hi
theorem HM{te:TE}{m:EM}(h:RdE C te m):RdI C (JS te) (Ci m):=by
 intro σ H F θ s R b p
 refine h σ H F θ s _ b (PoR.bind p ?_)
 rintro ⟨x,s1⟩ H1 F1 θ1 _ st1 p1 b1 v r1
 dsimp only at p1 b1 r1
 cases x <;> first | exact False.elim p1 | skip
 rename_i z _
 exact⟨z,dg.mp r1,p1 _ _ _ .refl b1 _ Jp⟩
def gI:List D->Option (List Int)
 | []=>some []
 | .int i::r=>(gI r).map (i:: ·)
 | _=>none
def jN:List D->Option (List Bool)
 | []=>some []
 | .bl i::r=>(jN r).map (i:: ·)
 | _=>none
theorem uu{K:PySem.W.Frag}{ca:Nat->Addr}{θ:List Addr}{F:Hp}:∀{ds:List D} {ns:List Int} {xs:List V},gI ds=some ns->aw K ca θ F ds xs->xs=ns.map V.int
 | [],ns,xs,e,r=>by cases e;unfold aw at r;rw[r];rfl
 | d::ds,ns,xs,e,r=>by
  cases d <;> first | (cases e;done) | skip
  rename_i i
  unfold gI at e
  cases e2:gI ds with
  | none=>rw[e2] at e;cases e
  | some ms=>
   rw[e2] at e
   cases e
   unfold aw at r
   obtain⟨v,w,rfl,h1,h2⟩:=r
   rw[uu e2 h2,bj.mp h1];rfl
theorem tf{K:PySem.W.Frag}{ca:Nat->Addr}{θ:List Addr}{F:Hp}:∀{ds:List D} {ns:List Bool} {xs:List V},jN ds=some ns->aw K ca θ F ds xs->xs=ns.map V.bl
 | [],ns,xs,e,r=>by cases e;unfold aw at r;rw[r];rfl
 | d::ds,ns,xs,e,r=>by
  cases d <;> first | (cases e;done) | skip
  rename_i i
  unfold jN at e
  cases e2:jN ds with
  | none=>rw[e2] at e;cases e
  | some ms=>
   rw[e2] at e
   cases e
   unfold aw at r
   obtain⟨v,w,rfl,h1,h2⟩:=r
   rw[tf e2 h2,cA.mp h1];rfl
def ofInts(f:List Int->D):OpN:=λO xs=>match xs with
 | [x]=>match lsD O x with
  | some ds=>match gI ds with
   | some ns=>.ok (f ns)
   | none=>.bad
  | none=>.bad
 | _=>.bad
def rX(f:List Bool->D):OpN:=λO xs=>match xs with
 | [x]=>match lsD O x with
  | some ds=>match jN ds with
   | some ns=>.ok (f ns)
   | none=>.bad
  | none=>.bad
 | _=>.bad
def qQ:OpN:=ofInts λns=>.int ns.sum
def vq:OpN:=rX λbs=>.bl (bs.all id)
def Ly:OpN:=rX λbs=>.bl (bs.any id)
theorem Ea{f:List Int->D}{g:List Int->V}(h:∀K ca θ F ns,Rep K ca θ F (f ns) (g ns)):j9 C (λxs H Q=>∃(p:Addr) (ns:List Int),xs=[.ref p]/\SqL C.K H p (ns.map V.int)/\Q (g ns) H) (ofInts f):=by
 intro σ H F θ s xs vs Q b r p
 unfold ofInts at p
 split at p
 ·obtain⟨v,rfl,r1⟩:=lV r
  split at p
  ·rename_i ds e
   obtain⟨a,ys,rfl,hs,hr⟩:=fS b r1 e
   split at p
   ·rename_i ns e2
    have:=uu e2 hr
    subst this
    exact⟨a,ns,rfl,hs,cX p b (h ..)⟩
   ·exact False.elim p
  ·exact False.elim p
 ·exact False.elim p
theorem Ca{f:List Bool->D}{g:List Bool->V}(h:∀K ca θ F ns,Rep K ca θ F (f ns) (g ns)):j9 C (λxs H Q=>∃(p:Addr) (ns:List Bool),xs=[.ref p]/\SqL C.K H p (ns.map V.bl)/\Q (g ns) H) (rX f):=by
 intro σ H F θ s xs vs Q b r p
 unfold rX at p
 split at p
 ·obtain⟨v,rfl,r1⟩:=lV r
  split at p
  ·rename_i ds e
   obtain⟨a,ys,rfl,hs,hr⟩:=fS b r1 e
   split at p
   ·rename_i ns e2
    have:=tf e2 hr
    subst this
    exact⟨a,ns,rfl,hs,cX p b (h ..)⟩
   ·exact False.elim p
  ·exact False.elim p
 ·exact False.elim p
theorem uh:j9 C (λxs H Q=>∃(p:Addr) (ns:List Int),xs=[.ref p]/\SqL C.K H p (ns.map V.int)/\Q (.int ns.sum) H) qQ:=Ea λ_ _ _ _ _=>bj.mpr rfl
theorem yA:j9 C (λxs H Q=>∃(p:Addr) (bs:List Bool),xs=[.ref p]/\SqL C.K H p (bs.map V.bl)/\Q (.bl (bs.all id)) H) vq:=Ca λ_ _ _ _ _=>cA.mpr rfl
def FC:D->Bool
 | .non=>true
 | _=>false
def isD:Op2:=λ_ x y=>match x,y with
 | .bl a,.bl b=>.ok (.bl (a == b))
 | x,.non=>.ok (.bl (FC x))
 | _,_=>.bad
def n9:Op2:=λ_ x y=>match y with
 | .non=>.ok (.bl (!FC x))
 | _=>.bad
theorem xY{K ca θ F}{x:D}{v:V}(r:Rep K ca θ F x v):decide (v=.non)=FC x:=by
 cases x with
 | non=>rw[fg.mp r];rfl
 | bl b=>rw[cA.mp r];rfl
 | int b=>rw[bj.mp r];rfl
 | str b=>rw[dg.mp r];rfl
 | lst ds=>unfold Rep at r;obtain⟨a,xs,rfl,_⟩:=r;rfl
 | tup ds=>unfold Rep at r;obtain⟨a,xs,rfl,_⟩:=r;rfl
 | ptr k=>unfold Rep at r;obtain⟨a,rfl,_⟩:=r;rfl
 | obj c ns ds=>unfold Rep at r;obtain⟨a,dx,xs,rfl,_⟩:=r;rfl
 | exn c=>unfold Rep at r;obtain⟨a,rfl,_⟩:=r;rfl
theorem Jb{X:Cx}:OpR X (compareOp .Is) (λx y H Q=>∃a b,x=.bl a/\y=.bl b/\Q (.bl (a == b)) H):=by
 intro pins s σ H x y v u Q I rx ry h
 obtain⟨a,b,rfl,rfl,q⟩:=h
 cases rx
 cases ry
 exact is_bool (cj I q rfl)
def Kf:R2:=λx y H Q=>(∃a b,x=.bl a/\y=.bl b/\Q (.bl (a == b)) H)\/(y=.non/\Q (.bl (decide (x=.non))) H)
theorem LB{X:Cx}:OpR X (compareOp .Is) Kf:=Jb.or Ja
theorem HJ{X:Cx}:OpR X (compareOp .IsNot) (λx y H Q=>y=.non/\Q (.bl (!decide (x=.non))) H):=Ht
theorem KD:fY C Kf isD:=by
 intro σ H F θ s x y v w Q b rx ry p
 unfold isD at p
 split at p
 ·rename_i a c
  exact .inl ⟨a,c,cA.mp rx,cA.mp ry,cX p b (cA.mpr rfl)⟩
 ·exact .inr ⟨fg.mp ry,cX p b (cA.mpr (by rw[xY rx]))⟩
 ·exact False.elim p
theorem E9:fY C (λx y H Q=>y=.non/\Q (.bl (!decide (x=.non))) H) n9:=by
 intro σ H F θ s x y v w Q b rx ry p
 unfold n9 at p
 split at p
 ·exact⟨fg.mp ry,cX p b (cA.mpr (by rw[xY rx]))⟩
 ·exact False.elim p
theorem CS{X:Cx}:OpR X (compareOp .LtE) (λx y H Q=>∃i j,x=.str i/\y=.str j/\Q (.bl (!decide (j.cps.toList<i.cps.toList))) H):=by
 intro pins s σ H x y v u Q I rx ry h
 obtain⟨i,j,rfl,rfl,q⟩:=h
 obtain⟨t,rfl⟩:=rx
 obtain⟨t',rfl⟩:=ry
 exact PySem.P.le_str (cj I q rfl)
def pF:Op2:=λ_ x y=>match x,y with
 | .str i,.str j=>.ok (.bl (!decide (j.cps.toList<i.cps.toList)))
 | _,_=>.bad
theorem CQ:fY C (λx y H Q=>∃i j,x=.str i/\y=.str j/\Q (.bl (!decide (j.cps.toList<i.cps.toList))) H) pF:=by
 intro σ H F θ s x y v w Q b rx ry p
 unfold pF at p
 split at p
 ·rename_i i j
  exact⟨i,j,dg.mp rx,dg.mp ry,cX p b (cA.mpr rfl)⟩
 ·exact False.elim p
def qN(f g:Op2)(a b c:EM):EM:=λs=>(a s).bind λx=>(b x.2).bind λy=>(f y.2.o x.1 y.1).bind λz=>match z with
 | .bl true=>(c y.2).bind λw=>(g w.2.o y.1 w.1).bind λd=>.ok (d,w.2)
 | .bl false=>.ok (.bl false,y.2)
 | _=>.bad
theorem Gk{r r':R2}{f g:Op2}{ta tb tc:TE}{ma mb mc:EM}(hf:fY C r f)(hg:fY C r' g)(ha:RdE C ta ma)(hb:RdE C tb mb)(hc:RdE C tc mc):RdE C (DV r r' ta tb tc) (qN f g ma mb mc):=by
 intro σ H F θ s Q b p
 refine ha σ H F θ s _ b (PoR.bind p ?_)
 rintro ⟨x,s1⟩ H1 F1 θ1 _ st1 p1 b1 v r1
 refine hb σ H1 F1 θ1 s1 _ b1 (PoR.bind p1 ?_)
 rintro ⟨y,s2⟩ H2 F2 θ2 _ st2 p2 b2 w r2
 dsimp only at p2
 refine hf σ H2 F2 θ2 s2 x y v w _ b2 (r1.mono st2.ff st2.pre) r2 ?_
 cases e:f s2.o x y with
 | bad=>rw[e] at p2;exact p2
 | exc a1 a2 a3=>rw[e] at p2;exact p2
 | ok z=>
  rw[e,ai] at p2
  rw[ai]
  intro H3 F3 θ3 st3 b3 u r3
  cases z <;> first | exact False.elim p2 | skip
  rename_i k
  refine⟨k,cA.mp r3, ?_⟩
  cases k with
  | false=>exact rH (PoR.after st3 p2 _ _ _ .refl b3 _ (cA.mpr rfl))
  | true=>
   refine qM (hc σ H3 F3 θ3 s2 _ b3 (PoR.bind (PoR.after st3 p2) ?_))
   rintro ⟨q,s4⟩ H4 F4 θ4 _ st4 p4 b4 w' r4
   exact hg σ H4 F4 θ4 s4 y q w w' Q b4 ((r2.mono st3.ff st3.pre).mono st4.ff st4.pre) r4 p4
def zC(mo me:EM):EM:=λs=>(mo s).bind λx=>match jq x.2.o x.1 with
 | some _=>(me x.2).bind λy=>match y.1,jq y.2.o x.1 with
  | .int i,some (k,ds)=>if -(2^63)<=i/\i<2^63 then (match seqIndex? i ds.length with
   | some j=>match ds[j]? with
    | some d=>.ok (d,⟨y.2.r,y.2.o.set k (.lst (ds.eraseIdx j))⟩)
    | none=>.bad
   | none=>.bad) else .bad
  | _,_=>.bad
 | none=>.bad
theorem aw.erase{K:PySem.W.Frag}{ca:Nat->Addr}{θ:List Addr}{F:Hp}:∀{ds:List D} {xs:List V} (i:Nat),aw K ca θ F ds xs->aw K ca θ F (ds.eraseIdx i) (xs.eraseIdx i)
 | [],_,_,k=>by unfold aw at k;rw[k];exact aw.nil
 | _::_,_,0,k=>by
  unfold aw at k
  obtain⟨v,r,rfl,h1,h2⟩:=k
  exact h2
 | _::_,_,i+1,k=>by
  unfold aw at k
  obtain⟨v,r,rfl,h1,h2⟩:=k
  exact aw.cons h1 (aw.erase i h2)
theorem JM{to te:TE}{mo me:EM}(ho:RdE C to mo)(he:RdE C te me):RdE C (tBM C.K "list" DZ to (oj te qI)) (zC mo me):=by
 intro σ H F θ s Q b p
 refine ho σ H F θ s _ b (PoR.bind p ?_)
 rintro ⟨x,s1⟩ H1 F1 θ1 _ st1 p1 b1 v r1
 dsimp only at p1 b1 r1
 split at p1
 ·rename_i kd e
  obtain⟨rfl,e'⟩:=mq (k:=kd.1) (ds:=kd.2) e
  obtain⟨a,xs,rfl,hk,_,h1,_⟩:=kF b1 r1 e'
  refine⟨.inl ⟨rfl,xs,SqL.of h1⟩,he σ H1 F1 θ1 s1 _ b1 (PoR.bind p1 ?_)⟩
  rintro ⟨y,s2⟩ H2 F2 θ2 _ st2 p2 b2 w r2
  dsimp only at p2 b2 r2
  split at p2
  ·rename_i i k ds e2 _
   obtain⟨ek,e2⟩:=mq e2
   cases ek
   obtain⟨a',ys,ea,hk2,hF,h2,hr⟩:=kF b2 (r1.mono st2.ff st2.pre) e2
   cases ea
   split at p2
   ·rename_i hl
    split at p2
    ·rename_i j hj
     split at p2
     ·rename_i d hd
      obtain⟨u,hu,ru⟩:=hr.get hd
      obtain⟨st3,b3⟩:=b2.setC hk2 e2 hF (hr.erase j)
      rw[bj.mp r2]
      exact⟨a,ys,i,j,u,rfl,rfl,h2,hl.1,hl.2,by rw[hr.length];exact hj,hu,p2 _ _ _ st3 b3 _ (ru.mono st3.ff st3.pre)⟩
     ·exact False.elim p2
    ·exact False.elim p2
   ·exact False.elim p2
  ·exact False.elim p2
 ·exact False.elim p1
def jY(n:Nat)(f:FM)(ma:AM):EM:=λs=>(ma s).bind λx=>if x.1.length=n then (match f x.1 x.2.o with
 | .ok (d,O1)=>.ok (d,⟨x.2.r,O1⟩)
 | _=>.bad) else .bad
theorem pV{n:Nat}{f:FM}{ta:TA}{ma:AM}{E:XK}(ha:RdA C ta ma):RdE C (rQ (spM C.K C.ca n f) [] E ta) (jY n f ma):=by
 intro σ H F θ s Q b p
 refine ha σ H F θ s _ b (PoR.bind p ?_)
 rintro ⟨x,s1⟩ H1 F1 θ1 _ st1 p1 b1 v r1
 dsimp only at p1 b1 r1 ⊢
 split at p1
 ·rename_i hp
  rw[List.append_nil]
  refine⟨F1,θ1,x,s1.o,b1.now,r1,hp, ?_⟩
  split at p1
  ·rename_i d O1 e
   rw[e]
   intro v H2 F2 θ2 st2 n2 rv
   exact p1 H2 F2 θ2 st2 ⟨n2,b1.len,λi d e=>by
    obtain⟨v,h1,h2⟩:=b1.sl i d e
    exact⟨v,h1,h2.mono st2.ff st2.pre⟩⟩ v rv
  ·exact False.elim p1
 ·exact False.elim p1
def BF(k:Int)(ds:List D):List D:=(List.replicate k.toNat ds).flatten
def yU(fin:S->List D->Res (D×S))(ma:AM)(mk:EM):EM:=λs=>(ma s).bind λx=>if x.1.length<=16777216 then (mk x.2).bind λy=>match y.1 with
 | .int k=>if (-(2^63)<=k/\k<2^63)/\x.1.length*k.toNat<=16777216 then fin y.2 (BF k x.1) else .bad
 | _=>.bad
 else .bad
def Cs:S->List D->Res (D×S):=λs ds=>.ok (.lst ds,s)
def Cq:S->List D->Res (D×S):=λs ds=>.ok (.ptr s.o.length,⟨s.r,s.o++[.lst ds]⟩)
theorem xZ{K ca θ F}{ds:List D}{xs:List V}(r:aw K ca θ F ds xs):∀k:Nat,aw K ca θ F (List.replicate k ds).flatten (List.replicate k xs).flatten
 | 0=>aw.nil
 | k+1=>by
  rw[List.replicate_succ,List.replicate_succ,List.flatten_cons,List.flatten_cons]
  exact r.append (xZ r k)
theorem JV {fin:S->List D->Res (D×S)} {ta:TA} {tk:TE} {ma:AM} {mk:EM} (ha:RdA C ta ma) (hk:RdE C tk mk)
 (hf:∀σ H F θ s ds xs Q,BS C.K C.ca σ H F θ s->aw C.K C.ca θ F ds xs->PoE C σ H F θ (fin s ds) Q->∀q,H q=none->Q (.ref q) (upd H q (.lst xs))):RdE C (tOp Ff (zh ta) tk) (yU fin ma mk):=by
 intro σ H F θ s Q b p
 refine ha σ H F θ s _ b (PoR.bind p ?_)
 rintro ⟨x,s1⟩ H1 F1 θ1 _ st1 p1 b1 v r1
 dsimp only at p1
 split at p1
 ·rename_i hl
  refine⟨by rw[r1.length];exact hl,λq hq=> ?_⟩
  obtain⟨st,b2,sF,e⟩:=b1.newF hq (.lst v)
  refine hk σ _ _ _ s1 _ b2 (PoR.bind (PoR.after st p1) ?_)
  rintro ⟨y,s2⟩ H2 F2 θ2 _ st2 p2 b3 w r2
  dsimp only at p2 r2
  split at p2
  ·rename_i k _
   split at p2
   ·rename_i hk
    rw[bj.mp r2]
    refine⟨q,k,v,rfl,rfl,b3.now.fh _ _ (st2.ff _ _ e),hk.1.1,hk.1.2,by rw[r1.length];exact hk.2, ?_⟩
    exact hf σ H2 F2 θ2 s2 _ _ Q b3 (xZ (((r1.mono sF ⟨[],by simp⟩).mono st2.ff st2.pre)) k.toNat) p2
   ·exact False.elim p2
  ·exact False.elim p2
 ·exact False.elim p1
theorem Hy{ta:TA}{tk:TE}{ma:AM}{mk:EM}(ha:RdA C ta ma)(hk:RdE C tk mk):RdE C (tOp Ff (zh ta) tk) (yU Cq ma mk):=JV ha hk λσ H F θ s ds xs Q b r p=>zo p b r
def LK(m:EM):TM:=λs=>(m s).bind λx=>match lsD x.2.o x.1 with
 | some ds=>.ok (!ds.isEmpty,x.2)
 | none=>.bad
end
end M
set_option maxRecDepth 100000
set_option maxHeartbeats 4000000
namespace M
open PySem PySem.Spec PyProof.Rows L2
section
variable {C : Ct}
theorem aw.places{K:PySem.W.Frag}{ca:Nat->Addr}{θ:List Addr}{F:Hp}{ds:List D}{xs:List V}(r:aw K ca θ F ds xs):∀js:List Nat,aw K ca θ F (js.filterMap (ds[·]?)) (js.filterMap (xs[·]?))
 | []=>aw.nil
 | j::js=>by
  have ih:=aw.places r js
  cases hn:ds[j]? with
  | some d=>
   obtain⟨v,hv,rv⟩:=r.get hn
   simp only[List.filterMap_cons,hn,hv]
   exact aw.cons rv ih
  | none=>
   have hv:xs[j]? =none:=by
    rw[List.getElem?_eq_none_iff] at hn ⊢
    rw[r.length];exact hn
   simp only[List.filterMap_cons,hn,hv]
   exact ih
def xP(fin:S->List D->Res (D×S))(me:EM)(ml mh ms:OM):EM:=λs=>(me s).bind λx=>(ml x.2).bind λl=>(mh l.2).bind λh=>(ms h.2).bind λt=>match lsD t.2.o x.1 with
 | some ds=>if t.1=some 0 then .bad else fin t.2 (pick ds l.1 h.1 t.1)
 | none=>.bad
theorem JC {fin:S->List D->Res (D×S)} {te:TE} {tl th ts:TO} {me:EM} {ml mh ms:OM} (he:RdE C te me) (hl:RdO C tl ml) (hh:RdO C th mh) (ht:RdO C ts ms)
 (hf:∀σ H F θ s ds xs Q,BS C.K C.ca σ H F θ s->aw C.K C.ca θ F ds xs->PoE C σ H F θ (fin s ds) Q->∀q,H q=none->Q (.ref q) (upd H q (.lst xs))):RdE C (FO C.K te tl th ts) (xP fin me ml mh ms):=by
 intro σ H F θ s Q b p
 refine he σ H F θ s _ b (PoR.bind p ?_)
 rintro ⟨x,s1⟩ H1 F1 θ1 _ st1 p1 b1 v r1
 refine hl σ H1 F1 θ1 s1 _ b1 (PoR.bind p1 ?_)
 rintro ⟨l,s2⟩ H2 F2 θ2 _ st2 p2 b2
 refine hh σ H2 F2 θ2 s2 _ b2 (PoR.bind p2 ?_)
 rintro ⟨h,s3⟩ H3 F3 θ3 _ st3 p3 b3
 refine ht σ H3 F3 θ3 s3 _ b3 (PoR.bind p3 ?_)
 rintro ⟨t,s4⟩ H4 F4 θ4 _ st4 p4 b4
 dsimp only at p4 ⊢
 split at p4
 ·rename_i ds e
  split at p4
  ·exact False.elim p4
  ·rename_i h0
   obtain⟨a,xs,rfl,hs,hr⟩:=fS b4 (((r1.mono st2.ff st2.pre).mono st3.ff st3.pre).mono st4.ff st4.pre) e
   refine⟨a,xs,rfl,hs,h0, ?_⟩
   have hp:aw C.K C.ca θ4 F4 (pick ds l h t) (pick xs l h t):=by
    unfold pick
    rw[hr.length]
    exact hr.places _
   exact hf σ H4 F4 θ4 s4 _ _ Q b4 hp p4
 ·exact False.elim p4
theorem HI{te:TE}{tl th ts:TO}{me:EM}{ml mh ms:OM}(he:RdE C te me)(hl:RdO C tl ml)(hh:RdO C th mh)(ht:RdO C ts ms):RdE C (FO C.K te tl th ts) (xP Cs me ml mh ms):=JC he hl hh ht λσ H F θ s ds xs Q b r p=>qW p b r
end
end M
set_option maxRecDepth 100000
set_option maxHeartbeats 4000000
namespace M
open PySem PySem.Spec PyProof.Rows L2
section
variable {C : Ct}
def zc(m:EM):EM:=λs=>(m s).bind λx=>match jq x.2.o x.1 with
 | some (k,ds)=>.ok (.lst ds,⟨x.2.r,x.2.o.set k .dead⟩)
 | none=>.ok x
theorem Bb(m:EM)(s:S):zc m s=(m s).bind λx=>match jq x.2.o x.1 with
 | some (k,ds)=>.ok (.lst ds,⟨x.2.r,x.2.o.set k .dead⟩)
 | none=>.ok x:=rfl
theorem HN{t:TE}{m:EM}(h:RdE C t m):RdE C t (zc m):=by
 intro σ H F θ s Q b p
 refine h σ H F θ s _ b (PoR.bind p ?_)
 rintro ⟨x,s1⟩ H1 F1 θ1 _ st1 p1 b1 v r1
 dsimp only at p1 b1 r1
 split at p1
 ·rename_i k ds e
  obtain⟨rfl,e'⟩:=mq e
  obtain⟨a,xs,rfl,hk,hF,h1,h2⟩:=kF b1 r1 e'
  obtain⟨st2,b2,r2⟩:=b1.frz hk e' hF h1 h2
  exact p1 _ _ _ st2 b2 _ r2
 ·exact p1 _ _ _ .refl b1 _ r1
end
end M
set_option maxRecDepth 100000
set_option maxHeartbeats 4000000
namespace M
open PySem PySem.Spec PyProof.Rows L2
section
variable {C : Ct}
def slS(me:EM)(ml mh:OM):EM:=λs=>(me s).bind λx=>(ml x.2).bind λl=>(mh l.2).bind λh=>match x.1 with
 | .str z=>if z.length<=16777216 then .ok (.str (kQ z l.1 h.1),h.2) else .bad
 | _=>.bad
theorem DJ{te:TE}{tl th:TO}{me:EM}{ml mh:OM}(he:RdE C te me)(hl:RdO C tl ml)(hh:RdO C th mh):RdE C (tSl GQ te tl th) (slS me ml mh):=by
 intro σ H F θ s Q b p
 refine he σ H F θ s _ b (PoR.bind p ?_)
 rintro ⟨x,s1⟩ H1 F1 θ1 _ st1 p1 b1 v r1
 refine hl σ H1 F1 θ1 s1 _ b1 (PoR.bind p1 ?_)
 rintro ⟨l,s2⟩ H2 F2 θ2 _ st2 p2 b2
 refine hh σ H2 F2 θ2 s2 _ b2 (PoR.bind p2 ?_)
 rintro ⟨h,s3⟩ H3 F3 θ3 _ st3 p3 b3
 dsimp only at p3 ⊢
 split at p3
 ·rename_i z _
  split at p3
  ·rename_i hz
   exact⟨z,dg.mp r1,by rw[sizeLine_eq];exact hz,p3 _ _ _ .refl b3 _ (dg.mpr rfl)⟩
  ·exact False.elim p3
 ·exact False.elim p3
theorem Jh(me:EM)(ml mh:OM)(s:S):slS me ml mh s=(me s).bind λx=>(ml x.2).bind λl=>(mh l.2).bind λh=>match x.1 with
 | .str z=>if z.length<=16777216 then .ok (.str (kQ z l.1 h.1),h.2) else .bad
 | _=>.bad:=rfl
end
end M
set_option maxRecDepth 100000
set_option maxHeartbeats 4000000
namespace M
open PySem PySem.Spec PyProof.Rows L2
section
variable {C : Ct}
def mz:List D->Option (List Str)
 | []=>some []
 | .str z::r=>match mz r with
  | some zs=>some (z::zs)
  | none=>none
 | _=>none
theorem vT:∀{ds:List D} {zs:List Str},mz ds=some zs->ds=zs.map D.str
 | [],zs,h=>by cases h;rfl
 | d::ds,zs,h=>by
  cases d <;> first | (simp[mz] at h;done) | skip
  rename_i z
  unfold mz at h
  cases e:mz ds with
  | none=>rw[e] at h;cases h
  | some ys=>
   rw[e] at h
   cases h
   rw[vT e];rfl
theorem p6:∀zs:List Str,mz (zs.map D.str)=some zs
 | []=>rfl
 | z::zs=>by rw[List.map_cons];unfold mz;rw[p6 zs]
def inB(O:ax)(x y:D):Option Bool:=match x with
 | .str a=>match lsD O y with
  | some ds=>match mz ds with
   | some zs=>some (zs.any (· == a))
   | none=>none
  | none=>none
 | .int a=>match lsD O y with
  | some ds=>match gI ds with
   | some zs=>some (zs.any (· == a))
   | none=>none
  | none=>none
 | _=>none
def inD:Op2:=λO x y=>match inB O x y with
 | some b=>.ok (.bl b)
 | none=>.bad
def qS:Op2:=λO x y=>match inB O x y with
 | some b=>.ok (.bl (!b))
 | none=>.bad
theorem wx{K:PySem.W.Frag}{ca:Nat->Addr}{θ:List Addr}{F:Hp}:∀{zs:List Str} {xs:List V},aw K ca θ F (zs.map D.str) xs->xs=zs.map V.str
 | [],xs,h=>by unfold aw at h;exact h
 | z::zs,xs,h=>by
  rw[List.map_cons] at h
  unfold aw at h
  obtain⟨v,r,rfl,h1,h2⟩:=h
  rw[dg.mp h1,wx h2];rfl
theorem qo{K:PySem.W.Frag}{ca:Nat->Addr}{θ:List Addr}{F:Hp}:∀{zs:List Int} {xs:List V},aw K ca θ F (zs.map D.int) xs->xs=zs.map V.int
 | [],xs,h=>by unfold aw at h;exact h
 | z::zs,xs,h=>by
  rw[List.map_cons] at h
  unfold aw at h
  obtain⟨v,r,rfl,h1,h2⟩:=h
  rw[bj.mp h1,qo h2];rfl
theorem uq:∀{ds:List D} {zs:List Int},gI ds=some zs->ds=zs.map D.int
 | [],zs,h=>by unfold gI at h;cases h;rfl
 | d::ds,zs,h=>by
  cases d <;> first | (simp[gI] at h;done) | skip
  rename_i z
  unfold gI at h
  cases e:gI ds with
  | none=>rw[e] at h;cases h
  | some ys=>
   rw[e] at h
   cases h
   rw[uq e];rfl
theorem A4{σ:L2.St}{H F:Hp}{θ:List Addr}{s:S}{x y:D}{v w:V}{q:Bool}(b:BS C.K C.ca σ H F θ s)(rx:Rep C.K C.ca θ F x v)(ry:Rep C.K C.ca θ F y w)(e:inB s.o x y=some q):
 ∃p xs,w=.ref p/\SqL C.K H p xs/\lW v=true/\xs.all lW=true/\inV v xs=q:=by
 unfold inB at e
 split at e
 ·rename_i a
  split at e
  ·rename_i ds e1
   split at e
   ·rename_i zs e2
    cases e
    obtain⟨p,xs,rfl,hs,hr⟩:=fS b ry e1
    rw[vT e2] at hr
    have hx:=wx hr
    subst hx
    rw[dg.mp rx]
    refine⟨p,_,rfl,hs,rfl, ?_, ?_⟩
    ·rw[List.all_map,List.all_eq_true];intro z _;rfl
    ·unfold inV;rw[List.any_map];rfl
   ·cases e
  ·cases e
 ·rename_i a
  split at e
  ·rename_i ds e1
   split at e
   ·rename_i zs e2
    cases e
    obtain⟨p,xs,rfl,hs,hr⟩:=fS b ry e1
    rw[uq e2] at hr
    have hx:=qo hr
    subst hx
    rw[bj.mp rx]
    refine⟨p,_,rfl,hs,rfl, ?_, ?_⟩
    ·rw[List.all_map,List.all_eq_true];intro z _;rfl
    ·unfold inV;rw[List.any_map];rfl
   ·cases e
  ·cases e
 ·cases e
theorem Gv:fY C (rIn C.K false) inD:=by
 intro σ H F θ s x y v w Q b rx ry p
 unfold inD at p
 split at p
 ·rename_i q e
  obtain⟨a,xs,rfl,h1,h2,h3,h4⟩:=A4 b rx ry e
  exact⟨a,xs,rfl,.inl h1,h2,h3,cX p b (cA.mpr (by rw[if_neg (by decide),h4]))⟩
 ·exact False.elim p
theorem EF:fY C (rIn C.K true) qS:=by
 intro σ H F θ s x y v w Q b rx ry p
 unfold qS at p
 split at p
 ·rename_i q e
  obtain⟨a,xs,rfl,h1,h2,h3,h4⟩:=A4 b rx ry e
  exact⟨a,xs,rfl,.inl h1,h2,h3,cX p b (cA.mpr (by rw[if_pos rfl,h4]))⟩
 ·exact False.elim p
def pC(f:Str):List Str->List D->Option D
 | n::ns,d::ds=>if n=f then some d else pC f ns ds
 | _,_=>none
theorem xS{K:PySem.W.Frag}{ca:Nat->Addr}{θ:List Addr}{F:Hp}{f:Str}:∀{ns:List Str} {ds:List D} {xs:List V} {d:D},aw K ca θ F ds xs->pC f ns ds=some d->∃v,(ns.zip xs).lookup f=some v/\Rep K ca θ F d v
 | [],_,_,_,_,e=>by simp[pC] at e
 | _::_,[],_,_,_,e=>by simp[pC] at e
 | n::ns,d::ds,xs,d',h,e=>by
  unfold aw at h
  obtain⟨v,r,rfl,h1,h2⟩:=h
  unfold pC at e
  rw[List.zip_cons_cons,List.lookup_cons]
  by_cases hn:n=f
  ·rw[if_pos hn] at e
   cases e
   subst hn
   exact⟨v,by simp,h1⟩
  ·rw[if_neg hn] at e
   obtain⟨u,e1,e2⟩:=xS h2 e
   refine⟨u, ?_,e2⟩
   rw[show (f == n)=false by simpa using λz=>hn z.symm]
   exact e1
def qL(c:Nat)(f:Str)(me:EM):EM:=λs=>(me s).bind λx=>match x.1 with
 | .obj c' ns ds=>if c'=c then (match pC f ns ds with
  | some d=>.ok (d,x.2)
  | none=>.bad) else .bad
 | _=>.bad
theorem zD{c:Nat}{f:Str}{ta:TE}{me:EM}(hc:Cls C.K (C.ca c))(hn:eY C.K (C.ca c) f)(h:RdE C ta me):RdE C (IZ C.K ta f) (qL c f me):=by
 intro σ H F θ s Q b p
 refine h σ H F θ s _ b (PoR.bind p ?_)
 rintro ⟨x,s1⟩ H1 F1 θ1 _ st1 p1 b1 v r1
 dsimp only at p1 b1 r1
 split at p1
 ·rename_i c' ns ds _
  split at p1
  ·rename_i hcc
   subst hcc
   split at p1
   ·rename_i d e
    unfold Rep at r1
    obtain⟨a,dx,xs,rfl,ha,hl,hr⟩:=r1
    obtain⟨u,e1,e2⟩:=xS hr e
    exact⟨a,_,dx,_,u,rfl,b1.now.fh _ _ ha,hc,hn,e1,p1 _ _ _ .refl b1 _ e2⟩
   ·exact False.elim p1
  ·exact False.elim p1
 ·exact False.elim p1
theorem HK(c:Nat)(f:Str)(me:EM)(s:S):qL c f me s=(me s).bind λx=>match x.1 with
 | .obj c' ns ds=>if c'=c then (match pC f ns ds with
  | some d=>.ok (d,x.2)
  | none=>.bad) else .bad
 | _=>.bad:=rfl
theorem lookup_none{f:Str}:∀{ns:List Str} {xs:List V},f∉ns->(ns.zip xs).lookup f=none
 | [],_,_=>rfl
 | _::_,[],_=>rfl
 | n::ns,x::xs,h=>by
  rw[List.zip_cons_cons,List.lookup_cons,show (f == n)=false by simpa using λz=>h (by simp[z])]
  exact lookup_none λz=>h (by simp[z])
theorem yP{f:Str}{y:V}:∀{ns:List Str} {xs:List V},ns.length=xs.length->f∉ns->i3 f y (ns.zip xs)=(ns++[f]).zip (xs++[y])
 | [],[],_,_=>rfl
 | n::ns,x::xs,hl,h=>by
  rw[List.zip_cons_cons]
  unfold i3
  rw[if_neg (λz=>h (by simp[z])),yP (by simpa using hl) λz=>h (by simp[z])]
  rfl
theorem BS.setI{K:PySem.W.Frag}{ca:Nat->Addr}{σ:L2.St}{H F:Hp}{θ:List Addr}{s:S}(b:BS K ca σ H F θ s){k:Nat}{a dx:Addr}{c:Cell}{cl:Nat}{ns:List Str}(hk:θ[k]? =some a)(hc:s.o[k]? =some c)(hF:F a=none){ds:List D}{xs:List V}(hl:ns.length=xs.length)(hr:aw K ca θ F ds xs):
 Stp H F θ (upd H a (.ins (ca cl) dx (ns.zip xs))) F θ/\BS K ca σ (upd H a (.ins (ca cl) dx (ns.zip xs))) F θ ⟨s.r,s.o.set k (.ins cl ns ds)⟩:=by
 have hm:a∈θ:=List.mem_of_getElem? hk
 refine⟨⟨bF.refl _,⟨[],by simp,by simp⟩,λe o he hb=> ?_,λe o he=> ?_,λe o he=>.inl he⟩,⟨⟨λe o he=> ?_,b.now.nd,by simpa using b.now.ln,λj a' c' e1 e2=> ?_⟩,b.len,b.sl⟩⟩
 ·have ne:e≠a:=λz=>hb (by rw[z];exact hm)
  rw[aP ne];exact he
 ·by_cases z:e=a
  ·subst z;exact⟨_,cC⟩
  ·exact⟨o,by rw[aP z];exact he⟩
 ·have ne:e≠a:=λz=>by rw[z,hF] at he;cases he
  rw[aP ne]
  exact b.now.fh _ _ he
 ·by_cases hj:k=j
  ·subst hj
   rw[hk] at e1;cases e1
   have:k<s.o.length:=(List.getElem?_eq_some_iff.mp hc).1
   rw[List.getElem?_set_self this] at e2
   cases e2
   exact⟨hF,dx,xs,cC,hl,hr⟩
  ·rw[List.getElem?_set_ne hj] at e2
   have q:=b.now.ce j a' c' e1 e2
   have ne:a'≠a:=λz=>by
    subst z
    exact hj (px b.now.nd hk e1)
   cases c' with
   | dead=>obtain⟨o,ho⟩:=q;exact⟨o,by rw[aP ne];exact ho⟩
   | lst ds=>obtain⟨q1,ys,q2,q3⟩:=q;exact⟨q1,ys,by rw[aP ne];exact q2,q3⟩
   | ins c ns ds=>obtain⟨q1,dx,ys,q2,q3⟩:=q;exact⟨q1,dx,ys,by rw[aP ne];exact q2,q3⟩
def pH(c:Nat)(f:Str)(mo mv:EM):SM:=λs=>(mv s).out λy=>(mo y.2).out λx=>match x.1 with
 | .ptr k=>match x.2.o[k]? with
  | some (.ins c' ns ds)=>if c'=c/\f∉ns/\ns.length<1000 then .next ⟨x.2.r,x.2.o.set k (.ins c (ns++[f]) (ds++[y.1]))⟩ else .bad
  | _=>.bad
 | _=>.bad
theorem EG(c:Nat)(f:Str)(mo mv:EM)(s:S):pH c f mo mv s=(mv s).out λy=>(mo y.2).out λx=>match x.1 with
 | .ptr k=>match x.2.o[k]? with
  | some (.ins c' ns ds)=>if c'=c/\f∉ns/\ns.length<1000 then .next ⟨x.2.r,x.2.o.set k (.ins c (ns++[f]) (ds++[y.1]))⟩ else .bad
  | _=>.bad
 | _=>.bad:=rfl
end
end M
set_option maxRecDepth 100000
set_option maxHeartbeats 4000000
namespace M
open PySem PySem.Spec PyProof.Rows L2
section
variable {C : Ct}
theorem vB{c:Nat}{f:Str}{ta tv:TE}{mo mv:EM}(hc:Cls C.K (C.ca c))(hn:eY C.K (C.ca c) f)(ho:RdE C ta mo)(hv:RdE C tv mv):RdS C (Kq C.K ta tv f) (pH c f mo mv):=by
 intro σ H F θ s Q b p
 unfold pH at p
 refine hv σ H F θ s _ b (PoS.out p ?_)
 rintro ⟨y,s1⟩ H1 F1 θ1 _ st1 p1 b1 v r1
 dsimp only at p1 b1 r1
 refine ho σ H1 F1 θ1 s1 _ b1 (PoS.out p1 ?_)
 rintro ⟨x,s2⟩ H2 F2 θ2 _ st2 p2 b2 w r2
 dsimp only at p2 b2 r2
 split at p2
 ·rename_i k _
  split at p2
  ·rename_i c' ns ds e
   split at p2
   ·rename_i hh
    obtain⟨rfl,hf,hl⟩:=hh
    unfold Rep at r2
    obtain⟨a,rfl,hk⟩:=r2
    obtain⟨h0,dx,xs,h1,h2,h3⟩:jd C.K C.ca H2 F2 θ2 a (.ins c' ns ds):=b2.now.ce k a _ hk e
    have hlen:(ns++[f]).length=(xs++[v]).length:=by simp[h2]
    obtain⟨st3,b3⟩:=b2.setI (dx:=dx) (cl:=c') (ns:=ns++[f]) hk e h0 hlen (h3.append (aw.one (r1.mono st2.ff st2.pre)))
    refine⟨a,_,dx,_,rfl,h1,hc,hn, ?_, ?_⟩
    ·rw[List.length_zip];omega
    ·rw[yP h2 hf]
     exact p2 σ _ _ _ st3 b3
   ·exact False.elim p2
  ·exact False.elim p2
 ·exact False.elim p2
def so(c n:Nat)(f:FM)(ma:AM):EM:=λs=>(ma s).bind λx=>if aL x.1=true/\x.1.length=n then (match f (.ptr 0::x.1) [.ins c [] []] with
 | .ok (.non,.ins c' ns ds::_)=>if c'=c/\aL ds=true then .ok (.obj c ns ds,x.2) else .bad
 | _=>.bad) else .bad
theorem Now.dies{K:PySem.W.Frag}{ca:Nat->Addr}{H F:Hp}{O:ax}{c:Nat}{ns:List Str}{ds:List D}{x:Addr}{r:List Addr}(n:Now K ca H F (x::r) (.ins c ns ds::O)):
 ∃dx xs,H x=some (.ins (ca c) dx (ns.zip xs))/\ns.length=xs.length/\aw K ca (x::r) F ds xs/\F x=none/\bF F (upd F x (.ins (ca c) dx (ns.zip xs)))/\Now K ca H (upd F x (.ins (ca c) dx (ns.zip xs))) (x::r) (.dead::O):=by
 obtain⟨h0,dx,xs,h1,h2,h3⟩:jd K ca H F (x::r) x (.ins c ns ds):=n.ce 0 x _ rfl rfl
 have sF:bF F (upd F x (.ins (ca c) dx (ns.zip xs))):=λe o he=>by
  rw[aP (λz=>by rw[z,h0] at he;cases he)];exact he
 refine⟨dx,xs,h1,h2,h3,h0,sF,⟨λe o he=> ?_,n.nd,n.ln,λj a' c' e1 e2=> ?_⟩⟩
 ·by_cases z:e=x
  ·subst z;rw[cC] at he;rw[h1];exact he
  ·rw[aP z] at he;exact n.fh _ _ he
 ·cases j with
  | zero=>
   cases e1
   cases e2
   exact⟨_,h1⟩
  | succ j=>
   have q:=n.ce (j+1) a' c' e1 e2
   have ne:a'≠x:=λz=>by
    subst z
    have:=px n.nd (show (a'::r)[0]? =some a' from rfl) e1
    omega
   cases c' with
   | dead=>exact q
   | lst ds=>obtain⟨q1,ys,q2,q3⟩:=q;exact⟨by rw[aP ne];exact q1,ys,q2,q3.mono sF ⟨[],by simp⟩⟩
   | ins c ns ds=>obtain⟨q1,dx,ys,q2,q3,q4⟩:=q;exact⟨by rw[aP ne];exact q1,dx,ys,q2,q3,q4.mono sF ⟨[],by simp⟩⟩
theorem Im{c n:Nat}{f:FM}{ta:TA}{ma:AM}{E:XK}(ha:RdA C ta ma):RdE C (GN (C.ca c) (spM C.K C.ca (n+1) f) [] E ta) (so c n f ma):=by
 intro σ H F θ s Q b p
 refine ha σ H F θ s _ b (PoR.bind p ?_)
 rintro ⟨x,s1⟩ H1 F1 θ1 _ st1 p1 b1 v r1
 dsimp only at p1 b1 r1 ⊢
 split at p1
 ·rename_i hp
  split at p1
  ·rename_i c' ns ds O1 e
   split at p1
   ·rename_i hh
    obtain⟨rfl,hpd⟩:=hh
    intro y dx hy hdx hne
    have nx:∀a u,H1 a=some u->a≠y:=λa u e z=>by rw[z,hy] at e;cases e
    have nd:∀a u,H1 a=some u->a≠dx:=λa u e z=>by rw[z,hdx] at e;cases e
    have Fy:F1 y=none:=by
     cases eF:F1 y with
     | none=>rfl
     | some u=>rw[b1.now.fh y u eF] at hy;cases hy
    have up:∀a u,H1 a=some u->upd (upd H1 dx (.own y)) y (.ins (C.ca c') dx []) a=some u:=λa u e=>by
     rw[aP (nx a u e),aP (nd a u e)];exact e
    have dn:∀a,upd (upd H1 dx (.own y)) y (.ins (C.ca c') dx []) a=none->H1 a=none:=λa z=>by
     cases e:H1 a with
     | none=>rfl
     | some u=>rw[up a u e] at z;cases z
    rw[List.append_nil]
    refine⟨F1,[y],.ptr 0::x,[.ins c' [] []],⟨λa u e=>up a u (b1.now.fh a u e),by simp,rfl,λk a cc e1 e2=> ?_⟩,aw.cons (by unfold Rep;exact⟨y,rfl,rfl⟩) (r1.pure hp.1),by simp[hp.2], ?_⟩
    ·cases k with
     | zero=>
      cases e1
      cases e2
      exact⟨Fy,dx,[],cC,rfl,aw.nil⟩
     | succ k=>simp at e1
    ·rw[e]
     intro w H2 F2 θ2 st2 n2 rw_
     refine⟨fg.mp rw_, ?_⟩
     obtain⟨r,rfl,hr⟩:=st2.th
     obtain⟨dx',xs,g1,g2,g3,g4,sF,n3⟩:=Now.dies n2
     have st3:Stp H1 F1 [] H2 (upd F2 y (.ins (C.ca c') dx' (ns.zip xs))) (y::r):=by
      refine⟨st2.ff.trans sF,⟨y::r,rfl,λa ha=> ?_⟩,λa o h _=> ?_,λa o h=>st2.al a o (up a o h),λa o h=> ?_⟩
      ·rcases List.mem_cons.mp ha with rfl | z
       ·exact hy
       ·exact dn a (hr a z)
      ·exact st2.kp a o (up a o h) (by simpa using nx a o h)
      ·by_cases z:a=y
       ·subst z;exact .inr (.inl hy)
       ·rw[aP z] at h
        rcases st2.nf a o h with q | q | q
        ·exact .inl q
        ·exact .inr (.inl (dn a q))
        ·exact absurd (by simpa using q) z
     obtain⟨st4,b4⟩:=b1.called st3 n3
     refine p1 H2 _ θ1 st4 b4 (.ref y) ?_
     unfold Rep
     exact⟨y,dx',xs,rfl,cC,g2,aw.mono (θ:=θ1) sF ⟨[],by simp⟩ (aw.pure hpd g3)⟩
   ·exact False.elim p1
  ·exact False.elim p1
 ·exact False.elim p1
theorem Gm{c n:Nat}{f:FM}{ma:AM}{s s':S}{args ds:List D}{ns:List Str}{O:ax}(h:ma s=.ok (args,s'))(hp:aL args=true)(hl:args.length=n)(hf:f (.ptr 0::args) [.ins c [] []]=.ok (.non,.ins c ns ds::O))(hd:aL ds=true):so c n f ma s=.ok (.obj c ns ds,s'):=by
 unfold so
 rw[h,ai]
 dsimp only
 rw[if_pos ⟨hp,hl⟩,hf]
 dsimp only
 rw[if_pos ⟨rfl,hd⟩]
def methP(c:Nat)(m:Str)(n:Nat)(f:FM)(mo:EM)(ma:AM):EM:=λs=>(mo s).bind λx=>match x.1 with
 | .obj c' ns ds=>if c'=c/\m∉ns/\aL ds=true then (ma x.2).bind λy=>if aL y.1=true/\y.1.length=n then (match f (x.1::y.1) [] with
  | .ok (d,_)=>if cI d=true then .ok (d,y.2) else .bad
  | _=>.bad) else .bad else .bad
 | _=>.bad
theorem tF{c n:Nat}{m:Str}{f:FM}{to:TE}{ta:TA}{mo:EM}{ma:AM}{E:XK}(ho:RdE C to mo)(ha:RdA C ta ma):RdE C (Bv (C.ca c) m (spM C.K C.ca (n+1) f) [] E to ta) (methP c m n f mo ma):=by
 intro σ H F θ s Q b p
 refine ho σ H F θ s _ b (PoR.bind p ?_)
 rintro ⟨x,s1⟩ H1 F1 θ1 _ st1 p1 b1 v r1
 dsimp only at p1 b1 r1 ⊢
 split at p1
 ·rename_i c' ns ds _
  split at p1
  ·rename_i hh
   obtain⟨rfl,hm,hpd⟩:=hh
   obtain⟨a,dx,xs,rfl,h1,h2,h3⟩:∃a dx xs,v=.ref a/\F1 a=some (.ins (C.ca c') dx (ns.zip xs))/\ns.length=xs.length/\aw C.K C.ca θ1 F1 ds xs:=by unfold Rep at r1;exact r1
   refine⟨a,dx,_,rfl,b1.now.fh _ _ h1,lookup_none hm,ha σ H1 F1 θ1 s1 _ b1 (PoR.bind p1 ?_)⟩
   rintro ⟨y,s2⟩ H2 F2 θ2 _ st2 p2 b2 w r2
   dsimp only at p2 b2 r2 ⊢
   split at p2
   ·rename_i hp
    rw[List.append_nil]
    refine⟨F2,[],.obj c' ns ds::y,[],Now.nil b2.now.fh,aw.cons ((r1.mono st2.ff st2.pre).pure (by unfold cI;exact hpd)) (r2.pure hp.1),by simp[hp.2], ?_⟩
    split at p2
    ·rename_i d O1 e
     rw[e]
     intro v H3 F3 θ3 st3 n3 rv
     obtain⟨st4,b4⟩:=b2.called st3 n3
     split at p2
     ·rename_i hd
      exact p2 H3 F3 _ st4 b4 v (rv.pure hd)
     ·exact False.elim p2
    ·exact False.elim p2
   ·exact False.elim p2
  ·exact False.elim p1
 ·exact False.elim p1
theorem Fl{c n:Nat}{m:Str}{f:FM}{mo:EM}{ma:AM}{s s1 s2:S}{ns:List Str}{ds args:List D}{d:D}{O:ax}(ho:mo s=.ok (.obj c ns ds,s1))(hm:m∉ns)(hd:aL ds=true)(ha:ma s1=.ok (args,s2))(hp:aL args=true)(hl:args.length=n)(hf:f (.obj c ns ds::args) []=.ok (d,O))(hr:cI d=true):
 methP c m n f mo ma s=.ok (d,s2):=by
 unfold methP
 rw[ho,ai]
 dsimp only
 rw[if_pos ⟨rfl,hm,hd⟩,ha,ai]
 dsimp only
 rw[if_pos ⟨hp,hl⟩,hf]
 dsimp only
 rw[if_pos hr]
def MethAt(P:Program)(w:World)(K:PySem.W.Frag)(mg:Str->Option Value)(base:Heap)(ca:Nat->Addr)(lv:Nat)(C:Addr)(x:Str)(ps:List Str)(f:FM):Prop:=
 ∃a fd,fM P w K mg base (CXE P w) lv a fd ps (spM K ca ps.length f)/\Meth K C x a/\Binds K fd ps []
def D1(P:Program)(w:World)(K:PySem.W.Frag)(mg:Str->Option Value)(base:Heap)(ca:Nat->Addr)(lv:Nat)(C:Addr)(x:Str)(ps:List Str)(f:FM):Prop:=
 ∃a fd,fM P w K mg base (CXE P w) lv a fd ps (spM K ca ps.length f)/\Mk K C a/\mg x=some (.ref C)/\Binds K fd ps []
end
end M
set_option maxRecDepth 100000
set_option maxHeartbeats 4000000
namespace M
open PySem PySem.Spec PyProof.Rows L2
section
variable {K : PySem.W.Frag} {ca : Nat → Addr} {θ : List Addr} {F G : Hp}
end
open Classical in
noncomputable def MU (F H:Hp)(θ:List Addr):Hp:=λa=>if a∈θ then (match H a with
 | some (.lst xs)=>some (.lst xs)
 | _=>F a) else F a
section
variable {C : Ct}
end
def clsAt(K:PySem.W.Frag)(x:Str):Addr:=match PySem.W.nsIn K mainGlobals x with
 | some (some (.ref C))=>C
 | _=>0
section
variable {C : Ct}
def lU:OpN:=λ_ xs=>match xs with
 | [.int i,.int j]=>.ok (.int (if j>i then j else i))
 | _=>.bad
theorem pk:j9 C (λxs H Q=>∃i j,xs=[.int i,.int j]/\Q (.int (if j>i then j else i)) H) lU:=by
 intro σ H F θ s xs vs Q b r p
 unfold lU at p
 split at p
 ·rename_i i j
  exact⟨i,j,BW r,cX p b (bj.mpr rfl)⟩
 ·exact False.elim p
end
end M
set_option maxRecDepth 100000
set_option maxHeartbeats 4000000
namespace M
open PySem PySem.Spec PyProof.Rows L2
section
variable {C : Ct} {Es : L2.St → XK}
end
theorem bc{P:Program}{w:World}{X:Cx}:Passes (CXE P w) X E0:=λ_ _ _ _ _ _ _ ⟨_,_,_,_,_,_,_,_,_,z⟩=>z.elim
end M
set_option maxRecDepth 100000
set_option maxHeartbeats 4000000
namespace M
open PySem PySem.Spec PyProof.Rows L2
section
variable {C : Ct}
end
end M
set_option maxRecDepth 100000
set_option maxHeartbeats 4000000
namespace M
open PySem PySem.Spec PyProof.Rows L2
def qg:D->Bool
 | .non=>true | .bl _=>true | .int _=>true | .str _=>true | .ptr _=>true | _=>false
def um:Cell->Bool
 | .dead=>true
 | .lst ds=>ds.all qg
 | _=>false
theorem ze{K:PySem.W.Frag}{ca:Nat->Addr}{F G:Hp}{θ θ1:List Addr}{d:D}{v:V}(h:qg d=true)(r:Rep K ca θ1 F d v):Rep K ca (θ++θ1) G (shD θ.length d) v:=by
 cases d with
 | non=>unfold shD;unfold Rep at r ⊢;exact r
 | bl b=>unfold shD;unfold Rep at r ⊢;exact r
 | int i=>unfold shD;unfold Rep at r ⊢;exact r
 | str z=>unfold shD;unfold Rep at r ⊢;exact r
 | ptr k=>
  unfold shD
  unfold Rep at r ⊢
  obtain⟨a,e,hk⟩:=r
  exact⟨a,e,by rw[List.getElem?_append_right (Nat.le_add_right _ _),Nat.add_sub_cancel_left];exact hk⟩
 | lst ds=>cases h
 | tup ds=>cases h
 | obj c ns ds=>cases h
 | exn c=>cases h
theorem vS{K:PySem.W.Frag}{ca:Nat->Addr}{F G:Hp}{θ θ1:List Addr}:∀{ds:List D} {xs:List V},ds.all qg=true->aw K ca θ1 F ds xs->aw K ca (θ++θ1) G (hU θ.length ds) xs
 | [],_,_,h=>by unfold hU;unfold aw at h ⊢;exact h
 | d::ds,_,hf,h=>by
  rw[List.all_cons,Bool.and_eq_true] at hf
  unfold hU
  unfold aw at h ⊢
  obtain⟨v,r,e,h1,h2⟩:=h
  exact⟨v,r,e,ze hf.1 h1,vS hf.2 h2⟩
section
variable {C : Ct}
def p7(n:Nat)(f:FM)(ma:AM):EM:=λs=>(ma s).bind λx=>if aL (bA x.2.o (bA x.2.o x.1))=true/\x.1.length=n then (match f (bA x.2.o (bA x.2.o x.1)) [] with
 | .ok (d,O1)=>if qg d=true/\O1.all um=true then .ok (shD x.2.o.length d,⟨x.2.r,x.2.o++O1.map (shC x.2.o.length)⟩) else .bad
 | _=>.bad) else .bad
theorem yE{n:Nat}{f:FM}{ta:TA}{ma:AM}{E:XK}(ha:RdA C ta ma):RdE C (rQ (spM C.K C.ca n f) [] E ta) (p7 n f ma):=by
 intro σ H F θ s Q b p
 refine ha σ H F θ s _ b (PoR.bind p ?_)
 rintro ⟨x,s1⟩ H1 F1 θ1 _ st1 p1 b1 v r1
 dsimp only at p1 b1 r1 ⊢
 split at p1
 ·rename_i hp
  rw[List.append_nil]
  have rr:aw C.K C.ca θ1 H1 (bA s1.o (bA s1.o x)) v:=kq b1.now b1.now.fh (bF.refl _) (kq b1.now (bF.refl _) b1.now.fh r1)
  refine⟨H1,[],bA s1.o (bA s1.o x),[],Now.nil (bF.refl _),rr.pure hp.1,by rw[j1,j1];exact hp.2, ?_⟩
  split at p1
  ·rename_i d O1 e
   rw[e]
   intro v H2 F2 θ2 st2 n2 rv
   split at p1
   ·rename_i sd
    have kp:∀a o,H1 a=some o->H2 a=some o:=λa o h=>st2.kp a o h (by simp)
    obtain⟨r,er,hr⟩:=st2.th
    rw[List.nil_append] at er
    subst er
    refine p1 H2 F1 (θ1++θ2) ⟨bF.refl _,⟨θ2,rfl,hr⟩,λa o h _=>kp a o h,st2.al,λa o h=>.inl h⟩ ⟨⟨λa o h=>kp a o (b1.now.fh a o h),List.nodup_append.mpr ⟨b1.now.nd,n2.nd,λa ha x hx=> ?_⟩,by simp[b1.now.ln,n2.ln],λk a c e1 e2=> ?_⟩,b1.len,λi d e=> ?_⟩ v ?_
    ·rintro rfl
     obtain⟨u,hu⟩:=b1.now.there ha
     rw[hr a hx] at hu
     cases hu
    ·by_cases hk:k<θ1.length
     ·rw[List.getElem?_append_left hk] at e1
      dsimp only at e2
      rw[List.getElem?_append_left (by rw[<- b1.now.ln];exact hk)] at e2
      have w:=b1.now.ce k a c e1 e2
      cases c with
      | dead=>obtain⟨o,ho⟩:=w;exact⟨o,kp a o ho⟩
      | lst ds=>obtain⟨q1,ys,q2,q3⟩:=w;exact⟨q1,ys,kp _ _ q2,q3.mono (bF.refl _) ⟨θ2,rfl⟩⟩
      | ins c ns ds=>obtain⟨q1,dx,ys,q2,q3,q4⟩:=w;exact⟨q1,dx,ys,kp _ _ q2,q3,q4.mono (bF.refl _) ⟨θ2,rfl⟩⟩
     ·rw[List.getElem?_append_right (by omega)] at e1
      dsimp only at e2
      rw[List.getElem?_append_right (by rw[<- b1.now.ln];omega),List.getElem?_map,<- b1.now.ln] at e2
      cases e3:O1[k-θ1.length]? with
      | none=>rw[e3] at e2;cases e2
      | some c'=>
       rw[e3] at e2
       cases e2
       have w:=n2.ce _ a c' e1 e3
       have fc:um c'=true:=(List.all_eq_true.mp sd.2) c' (List.mem_of_getElem? e3)
       have hF1:F1 a=none:=by
        cases ea:F1 a with
        | none=>rfl
        | some o=>
         have h1:=b1.now.fh a o ea
         have h2:=hr a (List.mem_of_getElem? e1)
         rw[h2] at h1;cases h1
       cases c' with
       | dead=>exact w
       | lst ds=>obtain⟨q1,ys,q2,q3⟩:=w;exact⟨hF1,ys,q2,vS fc q3⟩
       | ins c ns ds=>cases fc
    ·obtain⟨v,h1,h2⟩:=b1.sl i d e
     exact⟨v,h1,h2.mono (bF.refl _) ⟨θ2,rfl⟩⟩
    ·rw[<- b1.now.ln]
     exact ze sd.1 rv
   ·exact False.elim p1
  ·exact False.elim p1
 ·exact False.elim p1
end
end M
set_option maxRecDepth 100000
set_option maxHeartbeats 4000000
namespace M
open PySem PySem.Spec PyProof.Rows L2
section
variable {C : Ct}
theorem FJ{K:PySem.W.Frag}{H H':Hp}{a:Addr}{xs:List V}(e:bF H H')(h:SqL K H a xs):SqL K H' a xs:=by
 rcases h with(h | ⟨o,h⟩) | h
 ·exact .inl (.inl (e _ _ h))
 ·exact .inl (.inr ⟨o,e _ _ h⟩)
 ·exact .inr h
end
end M
set_option maxRecDepth 100000
set_option maxHeartbeats 4000000
namespace M
open PySem PySem.Spec PyProof.Rows L2
section
variable {C : Ct}
end
end M
set_option maxRecDepth 100000
set_option maxHeartbeats 1000000
namespace M
open PySem PySem.Spec PyProof.Rows L2
section
variable {C : Ct}
def mm:List D->Option (List Int)
 | []=>some []
 | .int i::r=>match mm r with
  | some l=>some (i::l)
  | none=>none
 | _=>none
theorem wI:∀{ds:List D} {ns:List Int},mm ds=some ns->ds=ns.map D.int
 | [],ns,h=>by cases h;rfl
 | d::ds,ns,h=>by
  cases d <;> first | (simp[mm] at h;done) | skip
  rename_i i
  unfold mm at h
  split at h
  ·rename_i l e
   cases h
   rw[wI e];rfl
  ·cases h
theorem uL:∀ns:List Int,mm (ns.map D.int)=some ns
 | []=>rfl
 | n::ns=>by
  rw[List.map_cons]
  unfold mm
  rw[uL ns]
end
end M
set_option maxRecDepth 100000
set_option maxHeartbeats 4000000
namespace M
open PySem PySem.Spec PyProof.Rows L2
section
variable {C : Ct}
end
end M
set_option maxRecDepth 100000
set_option maxHeartbeats 4000000
namespace M
open PySem PySem.Spec PyProof.Rows L2
section
variable {C : Ct}
abbrev IX:=S->Res ((List D×(ax->Prop))×S)
def Gb(C:Ct)(wi:TI)(im:IX):Prop:=∀σ H F θ s R,BS C.K C.ca σ H F θ s->
 PoR C H F θ (im s) (λy H1 F1 θ1=>BS C.K C.ca σ H1 F1 θ1 y.2->∀J,qK C J y.1.1 y.1.2 H1 F1 θ1->R J H1)->wi σ H R
theorem lsN{H F H2 F2:Hp}{θ θ2:List Addr}{O2:ax}{x:D}{ds:List D}{v:V}(st:Stp H F θ H2 F2 θ2)(n:Now C.K C.ca H2 F2 θ2 O2)(r:Rep C.K C.ca θ F x v)(e:lsD O2 x=some ds):∃a xs,v=.ref a/\SqL C.K H2 a xs/\aw C.K C.ca θ2 F2 ds xs:=by
 replace r:=r.mono st.ff st.pre
 cases x <;> first | (simp[lsD] at e;done) | skip
 ·cases e
  unfold Rep at r
  obtain⟨a,xs,rfl,hs,hr⟩:=r
  exact⟨a,xs,rfl,n.fh.seq hs,hr⟩
 ·rename_i k
  unfold Rep at r
  obtain⟨a,rfl,hk⟩:=r
  unfold lsD at e
  dsimp only at e
  split at e
  ·rename_i ds' ek
   cases e
   obtain⟨_,xs,h1,h2⟩:jd C.K C.ca H2 F2 θ2 a (.lst ds):=n.ce k a _ hk ek
   exact⟨a,xs,rfl,SqL.of h1,h2⟩
  ·cases e
def yC(m:AM):IX:=λs=>(m s).bind λx=>match x.1 with
 | [a,b]=>match lsD x.2.o a,lsD x.2.o b with
  | some as,some bs=>.ok ((lB as bs,λO=>lsD O a=some as/\lsD O b=some bs),x.2)
  | _,_=>.bad
 | _=>.bad
theorem GY{a b:Addr}{x y:D}{as bs:List D}{H F:Hp}{θ:List Addr}(r1:Rep C.K C.ca θ F x (.ref a))(r2:Rep C.K C.ca θ F y (.ref b)):
 qK C (Itz C.K a b) (lB as bs) (λO=>lsD O x=some as/\lsD O y=some bs) H F θ where
 go:=λi H2 F2 θ2 O2 hi st n ok=>by
  obtain⟨_,_,e1,e2,_⟩:=pL (List.getElem?_eq_getElem hi)
  obtain⟨_,xs,q,h1,k1⟩:=lsN st n r1 ok.1
  cases q
  obtain⟨_,ys,q,h2,k2⟩:=lsN st n r2 ok.2
  cases q
  obtain⟨v,q1,_⟩:=k1.get e1
  obtain⟨w,q2,_⟩:=k2.get e2
  exact⟨xs,ys,v,w,h1,h2,q1,q2⟩
 yl:=λi d σ H2 F2 θ2 s2 z H3 hd st b ok hy=>by
  obtain⟨T,v,w,hT,rfl,rfl,hv,hw⟩:=hy
  obtain⟨_,_,e1,e2,rfl⟩:=pL hd
  obtain⟨_,xs,q,h1,k1⟩:=lsN st b.now r1 ok.1
  cases q
  obtain⟨_,ys,q,h2,k2⟩:=lsN st b.now r2 ok.2
  cases q
  obtain⟨v',q1,k1⟩:=k1.get e1
  obtain⟨w',q2,k2⟩:=k2.get e2
  have:=hv xs h1
  rw[q1] at this
  cases this
  have:=hw ys h2
  rw[q2] at this
  cases this
  obtain⟨st3,b3,sF,e3⟩:=b.newF hT (.tup [v,w])
  refine⟨_,st3,b3, ?_⟩
  unfold Rep
  exact⟨T,[v,w],rfl,SqT.of e3,aw.cons (k1.mono st3.ff st3.pre) (aw.one (k2.mono st3.ff st3.pre))⟩
 st:=λi H2 F2 θ2 O2 hi st n ok=>by
  obtain⟨_,xs,q,h1,k1⟩:=lsN st n r1 ok.1
  cases q
  obtain⟨_,ys,q,h2,k2⟩:=lsN st n r2 ok.2
  cases q
  refine⟨xs,ys,h1,h2, ?_⟩
  unfold lB at hi
  rw[List.length_zipWith] at hi
  rw[k1.length,k2.length]
  omega
theorem II{ta:TA}{m:AM}(h:RdA C ta m):Gb C (Fq C.K ta) (yC m):=by
 intro σ H F θ s R b p
 refine h σ H F θ s _ b (PoR.bind p ?_)
 rintro ⟨x,s1⟩ H1 F1 θ1 _ st1 p1 b1 v r1
 dsimp only at p1 b1 r1
 split at p1
 ·rename_i x y
  split at p1
  ·rename_i as bs e1 e2
   obtain⟨v1,v2,rfl,k1,k2⟩:=GR r1
   obtain⟨a,xs,rfl,hs,hr⟩:=fS b1 k1 e1
   obtain⟨b',ys,rfl,hs',hr'⟩:=fS b1 k2 e2
   exact⟨a,b',rfl,⟨xs,hs⟩,⟨ys,hs'⟩,p1 _ _ _ .refl b1 _ (GY k1 k2)⟩
  ·exact False.elim p1
 ·exact False.elim p1
noncomputable def ue (m:Nat)(caps:List Nat)(im:IX)(g:GM)(c:TM)(e:EM):S->Res (List D×S):=λs=>(im s).bind λy=>
 (cW y.1.2 g c e y.1.1 [] ⟨lL m caps y.2.r,y.2.o⟩).bind λz=>.ok (z.1,⟨y.2.r,z.2.o⟩)
theorem DR {m:Nat} {caps:List Nat} {wi:TI} {g:TG} {tc:TT} {te:TE} {im:IX} {gm:GM} {c:TM} {e:EM} (hi:Gb C wi im) (hg:RdG C g gm) (hc:RdT C tc c) (he:RdE C te e)
 {σ:L2.St} {H F:Hp} {θ:List Addr} {s:S} {Q:VK} (b:BS C.K C.ca σ H F θ s)
 (p:PoR C H F θ (ue m caps im gm c e s) λy H1 F1 θ1=>BS C.K C.ca σ H1 F1 θ1 y.2->∀q xs,H q=none->H1 q=some (.lst xs)->F1 q=none->q∉θ1->aw C.K C.ca θ1 F1 y.1 xs->Q (.ref q) H1):qh m caps wi g tc te σ H Q:=by
 refine hi σ H F θ s _ b (PoR.bind p ?_)
 rintro ⟨⟨ds,k⟩,s1⟩ H1 F1 θ1 _ st1 p1 b1 J it q hq
 dsimp only at p1 b1 it
 have st2:Stp H1 F1 θ1 (upd H1 q (.lst [])) F1 θ1:=by
  have nm:∀a u,H1 a=some u->a≠q:=λa u e z=>by rw[z,hq] at e;cases e
  exact⟨bF.refl _,⟨[],by simp,by simp⟩,λa u h _=>by rw[aP (nm a u h)];exact h,λa u h=>⟨u,by rw[aP (nm a u h)];exact h⟩,λa u h=>.inl h⟩
 have qθ:q∉θ1:=λh=>by obtain⟨u,hu⟩:=b1.now.there h;rw[hq] at hu;cases hu
 have qF:F1 q=none:=by
  cases e:F1 q with
  | none=>rfl
  | some u=>rw[b1.now.fh q u e] at hq;cases hq
 have hqH:H q=none:=by
  cases e:H q with
  | none=>rfl
  | some u=>obtain⟨u',e'⟩:=st1.al q u e;rw[hq] at e';cases e'
 have keep:∀{H2 F2 H3 F3:Hp} {θ2 θ3:List Addr} {o:HO},Stp H2 F2 θ2 H3 F3 θ3->H2 q=some o->F2 q=none->q∉θ2->H3 q=some o/\F3 q=none/\q∉θ3:=λ{H2 F2 H3 F3 θ2 θ3 o} st h1 h2 h3=>by
  refine⟨st.kp q o h1 h3, ?_, ?_⟩
  ·cases e:F3 q with
   | none=>rfl
   | some u=>
    rcases st.nf q u e with z | z | z
    ·rw[h2] at z;cases z
    ·rw[h1] at z;cases z
    ·exact absurd z h3
  ·obtain⟨r,rfl,hr⟩:=st.th
   intro hm
   rcases List.mem_append.mp hm with z | z
   ·exact h3 z
   ·rw[hr q z] at h1;cases h1
 have bs2:∀{σ':L2.St} {H2 F2:Hp} {θ2:List Addr} {s2:S} (o:HO),BS C.K C.ca σ' H2 F2 θ2 s2->F2 q=none->q∉θ2->BS C.K C.ca σ' (upd H2 q o) F2 θ2 s2:=λ{σ' H2 F2 θ2 s2} o b h1 h2=>by
  have ne:∀a,a∈θ2->a≠q:=λa h z=>h2 (z▸h)
  refine⟨⟨λa u h=> ?_,b.now.nd,b.now.ln,λj a c e1 e2=> ?_⟩,b.len,b.sl⟩
  ·have:a≠q:=λz=>by rw[z,h1] at h;cases h
   rw[aP this];exact b.now.fh a u h
  ·have hm:=ne a (List.mem_of_getElem? e1)
   have w:=b.now.ce j a c e1 e2
   cases c with
   | dead=>obtain⟨u,hu⟩:=w;exact⟨u,by rw[aP hm];exact hu⟩
   | lst ds=>obtain⟨q1,ys,q2,q3⟩:=w;exact⟨q1,ys,by rw[aP hm];exact q2,q3⟩
   | ins c ns ds=>obtain⟨q1,dx,ys,q2,q3,q4⟩:=w;exact⟨q1,dx,ys,by rw[aP hm];exact q2,q3,q4⟩
 have stq:∀{H2 F2:Hp} {θ2:List Addr} (o:HO),Stp H1 F1 θ1 H2 F2 θ2->Stp H1 F1 θ1 (upd H2 q o) F2 θ2:=λ{H2 F2 θ2} o st=>by
  have nm:∀a u,H1 a=some u->a≠q:=λa u e z=>by rw[z,hq] at e;cases e
  exact⟨st.ff,st.th,λa u h1 h2=>by rw[aP (nm a u h1)];exact st.kp a u h1 h2,λa u h1=>by rw[aP (nm a u h1)];exact st.al a u h1,st.nf⟩
 refine⟨λi n acc σ' H'=>n=ds.length-i/\i<=ds.length/\∃F' θ' s' as,Stp H1 F1 θ1 H' F' θ'/\H' q=some (.lst acc)/\F' q=none/\q∉θ'/\BS C.K C.ca σ' H' F' θ' s'/\aw C.K C.ca θ' F' as acc/\
  PoR C H1 F1 θ1 ((cW (k) gm c e (ds.drop i) as s').bind λz=>.ok (z.1,(⟨s1.r,z.2.o⟩:S))) (λy H1 F1 θ1=>BS C.K C.ca σ H1 F1 θ1 y.2->∀q xs,H q=none->H1 q=some (.lst xs)->F1 q=none->q∉θ1->aw C.K C.ca θ1 F1 y.1 xs->Q (.ref q) H1),
  ⟨ds.length,by simp,Nat.zero_le _,F1,θ1,⟨lL m caps s1.r,s1.o⟩,[],st2,cC,qF,qθ,bs2 _ (CN b1 m caps) qF qθ,aw.nil,by simpa using p1⟩, ?_⟩
 rintro i n acc σ' H' ⟨rfl,hil,F',θ',s',as,st,hq',qF',qθ',bs,hacc,po⟩
 by_cases lt:i<ds.length
 ·right
  rw[List.drop_eq_getElem_cons lt,cW] at po
  split at po
  ·rename_i hok
   refine⟨it.go i H' F' θ' s'.o lt st bs.now hok.1, ?_⟩
   intro x H3 hy
   obtain⟨F3,st3,b3,rp⟩:=it.yl i ds[i] σ' H' F' θ' s' x H3 (List.getElem?_eq_getElem lt) st bs hok.1 hy
   obtain⟨k1,k2,k3⟩:=keep st3 hq' qF' qθ'
   have st13:=st.trans st3
   have po3:=PoR.after st13 po
   have w1:PoG C H3 F3 θ' (gm ds[i] s') (λσ4 H4=>tc σ4 H4 λb H4=>if b=true then
    te σ4 H4 λy H5=>H5 q=some (.lst acc)/\acc.length<sizeLine/\∃k',k'<ds.length-i/\(k'=ds.length-(i+1)/\i+1<=ds.length/\∃F' θ' s' as,Stp H1 F1 θ1 (upd H5 q (.lst (acc++[y]))) F' θ'/\(upd H5 q (.lst (acc++[y]))) q=some (.lst (acc++[y]))/\F' q=none/\q∉θ'/\BS C.K C.ca σ4 (upd H5 q (.lst (acc++[y]))) F' θ' s'/\aw C.K C.ca θ' F' as (acc++[y])/\
     PoR C H1 F1 θ1 ((cW (k) gm c e (ds.drop (i+1)) as s').bind λz=>.ok (z.1,(⟨s1.r,z.2.o⟩:S))) (λy H1 F1 θ1=>BS C.K C.ca σ H1 F1 θ1 y.2->∀q xs,H q=none->H1 q=some (.lst xs)->F1 q=none->q∉θ1->aw C.K C.ca θ1 F1 y.1 xs->Q (.ref q) H1))
    else ∃k',k'<ds.length-i/\(k'=ds.length-(i+1)/\i+1<=ds.length/\∃F' θ' s' as,Stp H1 F1 θ1 H4 F' θ'/\H4 q=some (.lst acc)/\F' q=none/\q∉θ'/\BS C.K C.ca σ4 H4 F' θ' s'/\aw C.K C.ca θ' F' as acc/\
     PoR C H1 F1 θ1 ((cW (k) gm c e (ds.drop (i+1)) as s').bind λz=>.ok (z.1,(⟨s1.r,z.2.o⟩:S))) (λy H1 F1 θ1=>BS C.K C.ca σ H1 F1 θ1 y.2->∀q xs,H q=none->H1 q=some (.lst xs)->F1 q=none->q∉θ1->aw C.K C.ca θ1 F1 y.1 xs->Q (.ref q) H1))):=by
    cases e1:gm ds[i] s' with
    | bad=>rw[e1] at po3;exact po3
    | exc a1 a2 a3=>rw[e1] at po3;exact po3
    | ok s4=>
     rw[e1] at po
     intro H4 F4 θ4 st4 σ4 b4
     obtain⟨l1,l2,l3⟩:=keep st4 k1 k2 k3
     refine hc σ4 H4 F4 θ4 s4 _ b4 ?_
     cases e2:c s4 with
     | bad=>rw[ai,e2] at po;exact po
     | exc a1 a2 a3=>rw[ai,e2] at po;exact PoR.after (st13.trans st4) po
     | ok x5=>
      obtain⟨kk,s5⟩:=x5
      rw[ai,e2,ai] at po
      intro H5 F5 θ5 st5 b5
      obtain⟨m1,m2,m3⟩:=keep st5 l1 l2 l3
      have hacc5:=((hacc.mono st3.ff st3.pre).mono st4.ff st4.pre).mono st5.ff st5.pre
      cases kk with
      | false=>
       exact rH ⟨ds.length-(i+1),by omega,rfl,by omega,F5,θ5,s5,as,st13.trans (st4.trans st5),m1,m2,m3,b5,hacc5,by simpa using po⟩
      | true=>
       refine qM (he σ4 H5 F5 θ5 s5 _ b5 ?_)
       dsimp only[if_true] at po
       cases e3:e s5 with
       | bad=>rw[e3] at po;exact po
       | exc a1 a2 a3=>rw[e3] at po;exact PoR.after (st13.trans (st4.trans st5)) po
       | ok x6=>
        obtain⟨y,s6⟩:=x6
        rw[e3,ai] at po
        intro H6 F6 θ6 st6 b6 w r6
        obtain⟨n1,n2,n3⟩:=keep st6 m1 m2 m3
        exact⟨n1,by rw[hacc.length];exact hok.2,ds.length-(i+1),by omega,rfl,by omega,F6,θ6,s6,as++[y],stq _ (st13.trans (st4.trans (st5.trans st6))),cC,n2,n3,bs2 _ b6 n2 n3,(hacc5.mono st6.ff st6.pre).append (aw.one r6),po⟩
   exact hg σ' H3 F3 θ' s' ds[i] x _ b3 rp w1
  ·exact False.elim po
 ·left
  rw[List.drop_eq_nil_of_le (by omega),cW] at po
  split at po
  ·rename_i hok
   refine⟨it.st i H' F' θ' s'.o (by omega) st bs.now hok,hq', ?_⟩
   refine po H' F' θ' st ⟨bs.now,b1.len,λj d e=> ?_⟩ q acc hqH hq' qF' qθ' hacc
   obtain⟨v,h1,h2⟩:=b1.sl j d e
   exact⟨v,h1,h2.mono st.ff st.pre⟩
  ·exact False.elim po
noncomputable def qX (m:Nat)(caps:List Nat)(im:IX)(g:GM)(c:TM)(e:EM):EM:=λs=>(ue m caps im g c e s).bind λy=>.ok (.lst y.1,y.2)
theorem C6{m:Nat}{caps:List Nat}{wi:TI}{g:TG}{tc:TT}{te:TE}{im:IX}{gm:GM}{c:TM}{e:EM}(hi:Gb C wi im)(hg:RdG C g gm)(hc:RdT C tc c)(he:RdE C te e):RdE C (qh m caps wi g tc te) (qX m caps im gm c e):=by
 intro σ H F θ s Q b p
 refine DR hi hg hc he b ?_
 unfold qX at p
 cases e1:ue m caps im gm c e s with
 | bad=>rw[e1] at p;exact p
 | exc a1 a2 a3=>rw[e1] at p;exact p
 | ok y=>
  rw[e1,ai] at p
  intro H1 F1 θ1 st1 b1 q xs h0 h1 h2 h3 hr
  have sF:bF F1 (upd F1 q (.lst xs)):=λa u h=>by
   rw[aP (λz=>by rw[z,h2] at h;cases h)];exact h
  refine p H1 (upd F1 q (.lst xs)) θ1 ⟨st1.ff.trans sF,st1.th,st1.kp,st1.al,λa u h=> ?_⟩ ⟨⟨λa u h=> ?_,b1.now.nd,b1.now.ln,λj a c e2 e3=> ?_⟩,b1.len,λi d e2=> ?_⟩ (.ref q) ?_
  ·by_cases z:a=q
   ·subst z;exact .inr (.inl h0)
   ·rw[aP z] at h;exact st1.nf a u h
  ·by_cases z:a=q
   ·subst z;rw[cC] at h;rw[h1];exact h
   ·rw[aP z] at h;exact b1.now.fh a u h
  ·have ne:a≠q:=λz=>h3 (z▸List.mem_of_getElem? e2)
   have w:=b1.now.ce j a c e2 e3
   cases c with
   | dead=>exact w
   | lst ds=>obtain⟨q1,ys,q2,q3⟩:=w;exact⟨by rw[aP ne];exact q1,ys,q2,q3.mono sF ⟨[],by simp⟩⟩
   | ins c ns ds=>obtain⟨q1,dx,ys,q2,q3,q4⟩:=w;exact⟨by rw[aP ne];exact q1,dx,ys,q2,q3,q4.mono sF ⟨[],by simp⟩⟩
  ·obtain⟨v,w1,w2⟩:=b1.sl i d e2
   exact⟨v,w1,w2.mono sF ⟨[],by simp⟩⟩
  ·unfold Rep
   exact⟨q,xs,rfl,SqL.of cC,hr.mono sF ⟨[],by simp⟩⟩
end
end M
set_option maxRecDepth 100000
set_option maxHeartbeats 1000000
namespace M
open PySem PySem.Spec PyProof.Rows L2
section
variable {C : Ct}
def oZ(mo me:EM):EM:=λs=>(mo s).bind λx=>match x.1 with
 | .lst ds=>match mm ds with
  | some ns=>(me x.2).bind λy=>match y.1 with
   | .int c=>(if ns.idxOf c<ns.length then Res.ok (.int (ns.idxOf c:Nat)) else .bad).bind λd=>.ok (d,y.2)
   | _=>.bad
  | none=>.bad
 | _=>.bad
theorem DS{to te:TE}{mo me:EM}(ho:RdE C to mo)(he:RdE C te me):RdE C (tBM C.K "list" (Bd C.K) to (oj te qI)) (oZ mo me):=by
 intro σ H F θ s Q b p
 refine ho σ H F θ s _ b (PoR.bind p ?_)
 rintro ⟨x,s1⟩ H1 F1 θ1 _ st1 p1 b1 v r1
 dsimp only at p1 b1 r1
 split at p1
 ·rename_i ds _
  split at p1
  ·rename_i ns e
   rw[wI e] at r1
   unfold Rep at r1
   obtain⟨a,xs,rfl,hs,hx⟩:=r1
   rw[qo hx] at hs
   refine⟨.inl ⟨rfl,_,b1.now.fh.seq hs⟩,he σ H1 F1 θ1 s1 _ b1 (PoR.bind p1 ?_)⟩
   rintro ⟨y,s2⟩ H2 F2 θ2 _ st2 p2 b2 w r2
   dsimp only at p2 b2 r2
   split at p2
   ·rename_i c _
    cases bj.mp r2
    split at p2
    ·rename_i hi
     exact⟨a,ns,c,rfl,rfl,b2.now.fh.seq (FJ st2.ff hs),hi,cX p2 b2 (bj.mpr rfl)⟩
    ·exact False.elim p2
   ·exact False.elim p2
  ·exact False.elim p1
 ·exact False.elim p1
theorem EN{mo me:EM}{s s1 s2:S}{ns:List Int}{c:Int}(h1:mo s=.ok (.lst (ns.map D.int),s1))(h2:me s1=.ok (.int c,s2))(hi:c∈ns):oZ mo me s=.ok (.int (ns.idxOf c:Nat),s2):=by
 unfold oZ
 rw[h1]
 show (match mm (ns.map D.int) with | some ns=>_ | none=>_)=_
 rw[uL]
 show (me s1).bind _=_
 rw[h2]
 show (if ns.idxOf c<ns.length then Res.ok (D.int (ns.idxOf c:Nat)) else Res.bad).bind _=_
 rw[if_pos (List.idxOf_lt_length_of_mem hi)]
 rfl
end
end M
set_option maxRecDepth 100000
set_option maxHeartbeats 4000000
namespace M
open PySem PySem.Spec PyProof.Rows L2
@[simp] theorem LI (ds:List D) (O:ax):okC ds none O=True:=rfl
@[simp] theorem LC (ds:List D) (k:Nat) (O:ax):okC ds (some k) O=(O[k]? =some (.lst ds)):=rfl
theorem Bc{n:Nat}{i:Int}(h:i.natAbs<2^n):Builtin.Int.intBits i<=n:=by
 unfold Builtin.Int.intBits
 split
 ·exact Nat.zero_le _
 ·rename_i h0
  have hp:i.natAbs≠0:=by
   intro z
   apply h0
   simpa using z
  have:=(Nat.log2_lt hp).mpr h
  omega
def Sz(n:Nat)(i:Int):Prop:=i.natAbs<2^n
theorem Sz.mono{m n:Nat}{i:Int}(h:Sz m i)(hmn:m<=n):Sz n i:=Nat.lt_of_lt_of_le h (Nat.pow_le_pow_right (by decide) hmn)
theorem jt{m n:Nat}(hm:m<=60000000)(hn:n<=60000000){i j:Int}(h:Sz m i)(h':Sz n j):IntMulOk i j:=by
 have h1:=Bc h
 have h2:=Bc h'
 have e:Builtin.Int.intTooBig (Builtin.Int.intBits i+Builtin.Int.intBits j)=false:=by
  unfold Builtin.Int.intTooBig
  rw[bitsLine_eq]
  exact decide_eq_false (by omega)
 unfold IntMulOk
 rw[e]
 simp
theorem fF{i j:Int}(h:i.natAbs<2^64\/j.natAbs<2^64):IntMulOk i j:=by
 rcases h with h | h
 ·exact .of_left (intBits_le_64 (by omega) (by omega))
 ·exact .of_right (intBits_le_64 (by omega) (by omega))
theorem Sz.mul{m n:Nat}{i j:Int}(h:Sz m i)(h':Sz n j):Sz (m+n) (i*j):=by
 unfold Sz at *
 rw[Int.natAbs_mul,Nat.pow_add]
 exact Nat.mul_lt_mul'' h h'
theorem Sz.add{m n:Nat}{i j:Int}(h:Sz m i)(h':Sz n j):Sz (max m n+1) (i+j):=by
 unfold Sz at *
 have h1:=Nat.lt_of_lt_of_le h (Nat.pow_le_pow_right (by decide) (Nat.le_max_left m n))
 have h2:=Nat.lt_of_lt_of_le h' (Nat.pow_le_pow_right (by decide) (Nat.le_max_right m n))
 have h3:(i+j).natAbs<=i.natAbs+j.natAbs:=Int.natAbs_add_le i j
 rw[Nat.pow_succ]
 omega
theorem tI{i j:Int}(h:0<j):i.fdiv j=i/j:=Int.fdiv_eq_ediv_of_nonneg i (Int.le_of_lt h)
theorem EU{i j:Int}(h:0<j):i.fmod j=i%j:=Int.fmod_eq_emod_of_nonneg i (Int.le_of_lt h)
section
variable {O : ax}
@[simp] theorem kc (i j:Int):gO O (.int i) (.int j)=.ok (.int (i-j)):=rfl
@[simp] theorem cD (i j:Int):bL O (.int i) (.int j)=.ok (.int (i+j)):=rfl
@[simp] theorem LN (i j:Int):LF O (.int i) (.int j)=.ok (.int (i+j)):=rfl
@[simp] theorem u5 (i j:Int):ltD O (.int i) (.int j)=.ok (.bl (decide (i<j))):=rfl
@[simp] theorem HE (i j:Int):leD O (.int i) (.int j)=.ok (.bl (decide (i<=j))):=rfl
@[simp] theorem IC (i j:Int):gtD O (.int i) (.int j)=.ok (.bl (decide (j<i))):=rfl
@[simp] theorem Mu (i j:Int):geD O (.int i) (.int j)=.ok (.bl (decide (j<=i))):=rfl
@[simp] theorem nM (i:Int):kr O (.int i)=.ok (.int (-i)):=rfl
@[simp] theorem Bn (i j:Int):eqD O (.int i) (.int j)=.ok (.bl (decide (i=j))):=rfl
@[simp] theorem ly (i j:Int):neD O (.int i) (.int j)=.ok (.bl (!decide (i=j))):=rfl
@[simp] theorem Hs (i j:Str):eqD O (.str i) (.str j)=.ok (.bl (decide (i=j))):=rfl
@[simp] theorem Mf (i j:Str):neD O (.str i) (.str j)=.ok (.bl (!decide (i=j))):=rfl
@[simp] theorem MA (i j:Bool):eqD O (.bl i) (.bl j)=.ok (.bl (decide (i=j))):=rfl
@[simp] theorem MJ (i j:Bool):neD O (.bl i) (.bl j)=.ok (.bl (!decide (i=j))):=rfl
theorem da{i j:Int}(h:IntMulOk i j):di O (.int i) (.int j)=.ok (.int (i*j)):=if_pos h
theorem rN{i j:Int}(h:j≠0):gx O (.int i) (.int j)=.ok (.int (i.fdiv j)):=if_pos h
theorem sV{i:Int}{j:Int}(h:0<j)(h2:j<1073741824):gx O (.int i) (.int j)=.ok (.int (i/j)):=by
 rw[rN (by omega),tI h]
theorem eu{i j:Int}(h:0<j):fb O (.int i) (.int j)=.ok (.int (i%j)):=by
 rw[<- EU h];exact if_pos (by omega)
theorem tO{i j:Int}(h:0<=j)(h2:j<=1000000)(h3:i.natAbs<2^64):kN O (.int i) (.int j)=.ok (.int (i^j.toNat)):=if_pos ⟨h,h2,h3⟩
@[simp] theorem FG (i:Int):rf O [.int i]=.ok (.int (i.natAbs:Int)):=by
 show Res.ok (D.int (if i<0 then -i else i))=_
 congr 2
 split <;> omega
@[simp] theorem jh (ds:List D):dC O [.lst ds]=.ok (.int ds.length):=rfl
@[simp] theorem LQ (ds:List D):dC O [.tup ds]=.ok (.int ds.length):=rfl
theorem yZ{x:Str}(h:x.length<=16777216):dC O [.str x]=.ok (.int x.length):=if_pos h
@[simp] theorem kG (ds:List D):fV O [.lst ds]=.ok (.lst ds):=rfl
@[simp] theorem La (ds:List D):fV O [.tup ds]=.ok (.lst ds):=rfl
@[simp] theorem Ll (i:Int):intOf O [.int i]=.ok (.int i):=rfl
@[simp] theorem yX (b:Bool):intOf O [.bl b]=.ok (.int (if b then 1 else 0)):=rfl
@[simp] theorem L9 (c:String) (i:Int):ir c O (.int i)=.ok (.bl (eK "int" c)):=rfl
@[simp] theorem MI (c:String) (i:Bool):ir c O (.bl i)=.ok (.bl (eK "bool" c)):=rfl
@[simp] theorem LZ (c:String) (i:Str):ir c O (.str i)=.ok (.bl (eK "str" c)):=rfl
@[simp] theorem AQ (c:String) (i:List D):ir c O (.lst i)=.ok (.bl (eK "list" c)):=rfl
@[simp] theorem Mt (c:String) (i:List D):ir c O (.tup i)=.ok (.bl (eK "tuple" c)):=rfl
@[simp] theorem L1 (c:String):ir c O .non=.ok (.bl (eK "NoneType" c)):=rfl
@[simp] theorem ME:eK "int" "int" =true:=by decide
@[simp] theorem MR:eK "int" "bool" =false:=by decide
@[simp] theorem MS:eK "bool" "bool" =true:=by decide
@[simp] theorem MO:eK "bool" "int" =true:=by decide
@[simp] theorem MH:eK "list" "list" =true:=by decide
@[simp] theorem sub_tt:eK "tuple" "tuple" =true:=by decide
@[simp] theorem sub_lt:eK "list" "tuple" =false:=by decide
@[simp] theorem MK:eK "tuple" "list" =false:=by decide
@[simp] theorem Mw:eK "str" "int" =false:=by decide
@[simp] theorem MN:eK "NoneType" "int" =false:=by decide
theorem o5{ds:List D}{i:Int}{d:D}(h:atI ds i=some d):ixD O (.lst ds) (.int i)=.ok d:=by
 show (match lsD O (D.lst ds) with
  | some ds=>match atI ds i with
   | some d=>Res.ok d
   | none=>.bad
  | none=>.bad)=_
 rw[nv]
 dsimp only
 rw[h]
theorem AN{ds:List D}{i:Int}{d:D}(h:atI ds i=some d):ixD O (.tup ds) (.int i)=.ok d:=by
 show (
  match atI ds i with
  | some d=>Res.ok d
  | none=>.bad)=_
 rw[h]
theorem ny{α:Type}{l:List α}{i:Int}(h0:0<=i)(h1:i<l.length):atI l i=some (l[i.toNat]'(by omega)):=by
 unfold atI ixN
 rw[if_pos h0,if_pos h1]
 show l[i.toNat]? =_
 exact List.getElem?_eq_getElem _
theorem m6:∀ns:List Int,iq (ns.map D.int)=some (ns.map PyData.int)
 | []=>by simp[iq]
 | n::ns=>by simp[iq,toPy,m6 ns]
theorem mF:∀ns:List Int,bA O (ns.map D.int)=ns.map D.int
 | []=>by simp[bA]
 | n::ns=>by simp[bA,res,mF ns]
theorem lX:∀ns:List Int,PyData.canLayAll0 (ns.map PyData.int)=true
 | []=>by simp[PyData.canLayAll0]
 | n::ns=>by simp[PyData.canLayAll0,PyData.canLay0,lX ns]
theorem mZ:∀ns:List Int,PyData.depthAll (ns.map PyData.int)=0
 | []=>by simp[PyData.depthAll]
 | n::ns=>by simp[PyData.depthAll,PyData.depth,mZ ns]
theorem shaped_ints(ns:List Int):SeqAt.shaped (.list (ns.map PyData.int))=true:=by
 simp[SeqAt.shaped,PyData.canLay0,lX,PyData.depth,mZ]
theorem qd:∀ns ms:List Int,PyData.eqvAll (ns.map PyData.int) (ms.map PyData.int)=decide (ns=ms)
 | [],[]=>by simp[PyData.eqvAll]
 | [],_::_=>by simp[PyData.eqvAll]
 | _::_,[]=>by simp[PyData.eqvAll]
 | a::r,b::t=>by
  simp only[List.map_cons,PyData.eqvAll,PyData.eqv,qd r t]
  by_cases h:a=b <;> by_cases h':r=t <;> simp[h,h']
theorem xX(ns ms:List Int):eqB O (.lst (ns.map D.int)) (.lst (ms.map D.int))=some (decide (ns=ms)):=by
 show fO O _ _=_
 unfold fO
 simp only[res,mF,toPy,m6,Option.map_some]
 rw[if_pos ⟨shaped_ints ns,shaped_ints ms⟩]
 simp only[PyData.eqv,qd]
@[simp] theorem Fh (ns ms:List Int):eqD O (.lst (ns.map D.int)) (.lst (ms.map D.int))=.ok (.bl (decide (ns=ms))):=by unfold eqD;rw[xX]
@[simp] theorem LP (ns ms:List Int):neD O (.lst (ns.map D.int)) (.lst (ms.map D.int))=.ok (.bl (!decide (ns=ms))):=by unfold neD;rw[xX]
theorem rM:∀ns:List Int,aL (ns.map D.int)=true
 | []=>by simp[aL]
 | n::ns=>by simp[aL,cI,rM ns]
@[simp] theorem KS (ns:List Int):cI (.lst (ns.map D.int))=true:=by simp[cI,rM]
end
end M
set_option maxRecDepth 100000
set_option maxHeartbeats 4000000
namespace M
open PySem PySem.Spec PyProof.Rows L2
noncomputable def sj:SM:=aJ (setM 2 (aj fb (aa 0) (aa 1))) (aJ (setM 0 (aa 1)) (setM 1 (aa 2)))
theorem EX{a b:Int}{x:Option D}{O:ax}(hb:0<b):sj ⟨[some (.int a),some (.int b),x],O⟩=.next ⟨[some (.int b),some (.int (a%b)),some (.int (a%b))],O⟩:=by
 simp[sj,aJ,setM,kX,aA,aj,aa,eu hb]
theorem vX{c:TM}(hc:∀(a b:Int) x O,0<=b->c ⟨[some (.int a),some (.int b),x],O⟩=.ok (decide (b≠0),⟨[some (.int a),some (.int b),x],O⟩)):
 ∀(n:Nat) (a b:Int) x O,0<=a->0<=b->b.natAbs<n->∃y,iM c sj n ⟨[some (.int a),some (.int b),x],O⟩=.next ⟨[some (.int (Nat.gcd a.natAbs b.natAbs:Nat)),some (.int 0),y],O⟩
 | 0,_,_,_,_,_,_,h=>by omega
 | n+1,a,b,x,O,ha,hb,hn=>by
  rw[iM,hc a b x O hb,gA]
  by_cases h:b=0
  ·subst h
   refine⟨x, ?_⟩
   have e:((Nat.gcd a.natAbs (0:Int).natAbs:Nat):Int)=a:=by
    rw[Int.natAbs_zero,Nat.gcd_zero_right]
    omega
   rw[e]
   simp
  ·have hb':0<b:=by omega
   have h1:0<=a%b:=Int.emod_nonneg a h
   have h2:a%b<b:=Int.emod_lt_of_pos a hb'
   obtain⟨y,e⟩:=vX hc n b (a%b) (some (.int (a%b))) O hb h1 (by omega)
   refine⟨y, ?_⟩
   simp only[h,ne_eq,not_false_eq_true,decide_true,if_true,EX hb']
   rw[e]
   have e2:(a%b).natAbs=a.natAbs%b.natAbs:=by
    have:((a%b).natAbs:Int)=((a.natAbs%b.natAbs:Nat):Int):=by
     rw[Int.natAbs_of_nonneg h1,Int.natCast_emod,Int.natAbs_of_nonneg ha,Int.natAbs_of_nonneg hb]
    omega
   rw[e2,<- Nat.gcd_rec' a.natAbs b.natAbs]
where Nat.gcd_rec' (m n:Nat):Nat.gcd m n=Nat.gcd n (m%n):=by
        rw[Nat.gcd_comm m n,Nat.gcd_rec n m,Nat.gcd_comm]
noncomputable def BL:SM:=aJ (setM 0 (bC rf (ab (aa 0) ak))) (aJ (setM 1 (bC rf (ab (aa 1) ak))) (aJ (rn (λs=>sk 1 s) (aZ (aj neD (aa 1) (ao (.int 0)))) sj) (bH (aa 0))))
theorem Fp(a b:Int)(O:ax):∃s,BL ⟨[some (.int a),some (.int b),none],O⟩=.ret (.int (Int.gcd a b:Nat)) s/\s.o=O:=by
 obtain⟨y,e⟩:=vX (c:=aZ (aj neD (aa 1) (ao (.int 0)))) (λa b x O h=>by simp[aZ,aj,aa,ao]) (b.natAbs+1) (a.natAbs:Int) (b.natAbs:Int) none O (by omega) (by omega) (by omega)
 refine⟨⟨[some (.int (Int.gcd a b:Nat)),some (.int 0),y],O⟩, ?_,rfl⟩
 simp only[Int.natAbs_natCast] at e
 simp[BL,aJ,setM,kX,aA,bC,ab,ak,aa,rn,sk,e,bH,Int.gcd]
theorem dF{n:Nat}{m:SM}{ds:List D}{O:ax}{d:D}{s:S}(h:m ⟨ds.map some++List.replicate (n-ds.length) none,O⟩=.ret d s):runM n m ds O=.ok (d,s.o):=by
 unfold runM;rw[h]
theorem C9(a b:Int):runM 3 BL [.int a,.int b] []=.ok (.int (Int.gcd a b:Nat),[]):=by
 obtain⟨s,e,eo⟩:=Fp a b []
 rw[dF (s:=s) (by exact e),eo]
def cM(ns:List Int):Nat:=ns.foldl (λc n=>Nat.gcd c n.natAbs) 0
theorem qu:∀(ns:List Int) (c:Nat),ns.foldl (λc n=>Nat.gcd c n.natAbs) c ∣ c/\∀n∈ns,ns.foldl (λc n=>Nat.gcd c n.natAbs) c ∣ n.natAbs
 | [],c=>⟨Nat.dvd_refl _,by simp⟩
 | m::ns,c=>by
  obtain⟨h1,h2⟩:=qu ns (Nat.gcd c m.natAbs)
  rw[List.foldl_cons]
  refine⟨Nat.dvd_trans h1 (Nat.gcd_dvd_left _ _),λn hn=> ?_⟩
  rcases List.mem_cons.mp hn with rfl | hn
  ·exact Nat.dvd_trans h1 (Nat.gcd_dvd_right _ _)
  ·exact h2 n hn
theorem zB{ns:List Int}{n:Int}(h:n∈ns):((cM ns:Nat):Int) ∣ n:=Int.natAbs_dvd_natAbs.mp (by rw[Int.natAbs_natCast];exact(qu ns 0).2 n h)
theorem qr(g:Nat)(hg:0<g):∀(ns:List Int) (c:Nat),g ∣ c->(∀n∈ns,(g:Int) ∣ n)->
 (ns.map (· / (g:Int))).foldl (λc n=>Nat.gcd c n.natAbs) (c/g)=ns.foldl (λc n=>Nat.gcd c n.natAbs) c/g
 | [],c,_,_=>rfl
 | m::ns,c,hc,h=>by
  have hm:g ∣ m.natAbs:=by
   have:=Int.natAbs_dvd_natAbs.mpr (h m List.mem_cons_self)
   rwa [Int.natAbs_natCast] at this
  have e:(m/(g:Int)).natAbs=m.natAbs/g:=by
   obtain⟨k,rfl⟩:=h m List.mem_cons_self
   rw[Int.mul_ediv_cancel_left _ (by omega:(g:Int)≠0),Int.natAbs_mul,Int.natAbs_natCast,Nat.mul_div_cancel_left _ hg]
  rw[List.map_cons,List.foldl_cons,List.foldl_cons,e,Nat.gcd_div hc hm]
  exact qr g hg ns _ (Nat.dvd_gcd hc hm) λn hn=>h n (List.mem_cons_of_mem _ hn)
theorem ES{ns:List Int}(h:0<cM ns):cM (ns.map (· / (cM ns:Int)))=1:=by
 have:=qr (cM ns) h ns 0 (Nat.dvd_zero _) λn hn=>zB hn
 rw[Nat.zero_div] at this
 rw[show cM (ns.map (· / (cM ns:Int)))=(ns.map (· / (cM ns:Int))).foldl (λc n=>Nat.gcd c n.natAbs) 0 from rfl,this]
 exact Nat.div_self h
end M
set_option maxRecDepth 100000
set_option maxHeartbeats 4000000
namespace M
open PySem PySem.Spec PyProof.Rows L2
section
variable {s s1 : S} {d : D}
@[simp] theorem af {i:Nat} (h:s.r[i]? =some (some d)):aa i s=.ok (d,s):=by unfold aa;rw[h]
@[simp] theorem aB (d:D) (s:S):ao d s=.ok (d,s):=rfl
@[simp] theorem d5 (f:Op2) (a b:EM) (s:S):aj f a b s=(a s).bind λx=>(b x.2).bind λy=>(f y.2.o x.1 y.1).bind λd=>.ok (d,y.2):=rfl
@[simp] theorem Kj (f:Op1) (a:EM) (s:S):unM f a s=(a s).bind λx=>(f x.2.o x.1).bind λd=>.ok (d,x.2):=rfl
@[simp] theorem aI (s:S):ak s=.ok ([],s):=rfl
@[simp] theorem bb (m:EM) (r:AM) (s:S):ab m r s=(m s).bind λx=>(r x.2).bind λy=>.ok (x.1::y.1,y.2):=rfl
@[simp] theorem jI (f:OpN) (m:AM) (s:S):bC f m s=(m s).bind λx=>(f x.2.o x.1).bind λd=>.ok (d,x.2):=rfl
@[simp] theorem AZ (m:AM) (s:S):rO m s=(m s).bind λx=>if x.1.length<=16777216 then .ok (.tup x.1,x.2) else .bad:=rfl
@[simp] theorem G1 (m:AM) (s:S):vN m s=(m s).bind λx=>if x.1.length<=16777216 then .ok (.lst x.1,x.2) else .bad:=rfl
@[simp] theorem Hh (m:AM) (s:S):jc m s=(m s).bind λx=>if x.1.length<=16777216 then .ok (.ptr x.2.o.length,⟨x.2.r,x.2.o++[.lst x.1]⟩) else .bad:=rfl
@[simp] theorem hX (m:EM) (s:S):aZ m s=(m s).bind λx=>match x.1 with
 | .bl b=>.ok (b,x.2)
 | _=>.bad:=rfl
@[simp] theorem He (a b:TM) (s:S):tw a b s=(a s).bind λx=>if x.1 then b x.2 else .ok (false,x.2):=rfl
@[simp] theorem ux (a b:TM) (s:S):orT a b s=(a s).bind λx=>if x.1 then .ok (true,x.2) else b x.2:=rfl
@[simp] theorem u6 (a:TM) (s:S):kR a s=(a s).bind λx=>.ok (!x.1,x.2):=rfl
@[simp] theorem Mi (a b:EM) (s:S):yj a b s=(a s).bind λx=>match x.1 with
 | .bl true=>b x.2
 | .bl false=>.ok (.bl false,x.2)
 | _=>.bad:=rfl
@[simp] theorem Mv (a b:EM) (s:S):orV a b s=(a s).bind λx=>match x.1 with
 | .bl true=>.ok (.bl true,x.2)
 | .bl false=>b x.2
 | _=>.bad:=rfl
@[simp] theorem Ma (a:EM) (s:S):zy a s=(a s).bind λx=>match x.1 with
 | .bl k=>.ok (.bl (!k),x.2)
 | _=>.bad:=rfl
@[simp] theorem pf (a b:SM) (s:S):aJ a b s=(a s).then b:=rfl
@[simp] theorem cR (s:S):bN s=.next s:=rfl
@[simp] theorem Lx (m:EM) (s:S):dR m s=(m s).out λx=>.next x.2:=rfl
@[simp] theorem Mq (m:EM) (s:S):bH m s=(m s).out λx=>.ret x.1 x.2:=rfl
@[simp] theorem Mb (s:S):Lr s=.ret .non s:=rfl
@[simp] theorem MQ (c:TM) (a b:SM) (s:S):ifS c a b s=(c s).out λx=>if x.1 then a x.2 else b x.2:=rfl
@[simp] theorem My (c:TM) (a b:EM) (s:S):ifM c a b s=(c s).bind λx=>if x.1 then a x.2 else b x.2:=rfl
@[simp] theorem tq (i:Nat) (d:D) (s:S):aA i d s=.ok ⟨s.r.set i (some d),s.o⟩:=rfl
@[simp] theorem AS (m:EM) (g:GM) (s:S):kX m g s=((m s).bind λx=>g x.1 x.2).out λs=>.next s:=rfl
@[simp] theorem Mp (i:Nat) (f:Op2) (m:EM) (s:S):LJ i f m s=kX (aj f (aa i) m) (aA i) s:=rfl
@[simp] theorem EH (s:S):cE s=.ok (true,s):=rfl
@[simp] theorem D7 (s:S):iF s=.ok (none,s):=rfl
@[simp] theorem Bm (m:EM) (s:S):part m s=(m s).bind λx=>match x.1 with
 | .int i=>.ok (some i,x.2)
 | _=>.bad:=rfl
@[simp] theorem Kn (me:EM) (ml mh:OM) (s:S):slM me ml mh s=(me s).bind λx=>(ml x.2).bind λl=>(mh l.2).bind λh=>match lsD h.2.o x.1 with
 | some ds=>.ok (.lst (cutD ds l.1 h.1),h.2)
 | none=>.bad:=rfl
@[simp] theorem fQ (m:EM) (s:S):listI m s=(m s).bind λx=>(itemsOf x.2.o x.1).bind λy=>.ok (y,x.2):=rfl
@[simp] theorem Kx (O:ax) (ds:List D):itemsOf O (.lst ds)=.ok (ds,none):=rfl
theorem HP(im:IM)(g:GM)(body:SM)(s:S):eG im g body s=(im s).out λy=>bS (okC y.1.1 y.1.2) g body y.1.1 y.2:=rfl
theorem qe(m:Nat)(caps:List Nat)(im:IM)(g:GM)(c:TM)(e:EM)(s:S):lP m caps im g c e s=(im s).bind λy=>
 (cW (okC y.1.1 y.1.2) g c e y.1.1 [] ⟨lL m caps y.2.r,y.2.o⟩).bind λz=>.ok (z.1,⟨y.2.r,z.2.o⟩):=rfl
theorem pT(m:Nat)(caps:List Nat)(im:IM)(g:GM)(c:TM)(e:EM)(s:S):cO m caps im g c e s=(lP m caps im g c e s).bind λy=>.ok (.lst y.1,y.2):=rfl
theorem zt(m:Nat)(caps:List Nat)(im:IM)(g:GM)(c:TM)(e:EM)(s:S):md m caps im g c e s=(lP m caps im g c e s).bind λy=>.ok (.ptr y.2.o.length,⟨y.2.r,y.2.o++[.lst y.1]⟩):=rfl
@[simp] theorem Gg (n:Nat) (f:FM) (m:AM) (s:S):aO n f m s=(m s).bind λx=>if aL x.1=true/\x.1.length=n then (match f x.1 [] with
 | .ok (d,_)=>if cI d=true then .ok (d,x.2) else .bad
 | _=>.bad) else .bad:=rfl
@[simp] theorem EO (n:Nat) (f:FM) (m:AM) (s:S):gE n f m s=(m s).bind λx=>if aL x.1=true/\x.1.length=n then (match f x.1 [] with
 | .ok (d,O1)=>.ok (shD x.2.o.length d,⟨x.2.r,x.2.o++O1.map (shC x.2.o.length)⟩)
 | _=>.bad) else .bad:=rfl
@[simp] theorem LY (n:Nat) (f:FM) (m:AM) (s:S):ja n f m s=(m s).bind λx=>if aL (bA x.2.o (bA x.2.o x.1))=true/\x.1.length=n then (match f (bA x.2.o (bA x.2.o x.1)) [] with
 | .ok (d,_)=>if m7 d=true then .ok (d,x.2) else .bad
 | _=>.bad) else .bad:=rfl
@[simp] theorem EY (m:EM) (s:S):xH m s=(m s).bind λx=>match rW x.2.o x.1 with
 | some ds=>.ok (.ptr x.2.o.length,⟨x.2.r,x.2.o++[.lst ds]⟩)
 | none=>.bad:=rfl
@[simp] theorem Ig (m:EM) (s:S):jx m s=(m s).bind λx=>match jq x.2.o x.1 with
 | some (k,ds)=>.ok (.lst ds,⟨x.2.r,x.2.o.set k .dead⟩)
 | none=>.bad:=rfl
@[simp] theorem G4 (mo me:EM) (s:S):kn mo me s=(mo s).bind λx=>match jq x.2.o x.1 with
 | some _=>(me x.2).bind λy=>match jq y.2.o x.1 with
  | some (k,ds)=>if ds.length<16777216 then .ok (.non,⟨y.2.r,y.2.o.set k (.lst (ds++[y.1]))⟩) else .bad
  | none=>.bad
 | none=>.bad:=rfl
@[simp] theorem lM {O:ax} {k:Nat} {ds:List D} (h:O[k]? =some (.lst ds)):lsD O (.ptr k)=some ds:=by unfold lsD;simp only[h]
@[simp] theorem jn {O:ax} {k:Nat} {ds:List D} (h:O[k]? =some (.lst ds)):jq O (.ptr k)=some (k,ds):=by unfold jq;simp only[h]
@[simp] theorem C7 (O:ax) (ds:List D):rW O (.lst ds)=some ds:=rfl
@[simp] theorem Lg (O:ax) (ds:List D):rW O (.tup ds)=some ds:=rfl
@[simp] theorem Lf {O:ax} {k:Nat} {ds:List D} (h:O[k]? =some (.lst ds)):rW O (.ptr k)=some ds:=by show lsD O (.ptr k)=_;exact lM h
@[simp] theorem Ao {O:ax} {k:Nat} {ds:List D} (h:O[k]? =some (.lst ds)):itemsOf O (.ptr k)=.ok (ds,some k):=by unfold itemsOf;simp only[h]
@[simp] theorem g7 (n k:Nat):shD n (.ptr k)=.ptr (n+k):=by unfold shD;rfl
@[simp] theorem KL:aL []=true:=by unfold aL;rfl
@[simp] theorem lQ (d:D) (ds:List D):aL (d::ds)=(cI d&&aL ds):=by conv=>lhs;unfold aL
@[simp] theorem Ln (i:Int):cI (.int i)=true:=by unfold cI;rfl
@[simp] theorem LM (i:Bool):cI (.bl i)=true:=by unfold cI;rfl
@[simp] theorem Lm (i:Str):cI (.str i)=true:=by unfold cI;rfl
@[simp] theorem Lb:cI .non=true:=by unfold cI;rfl
@[simp] theorem mI (ds:List D):cI (.lst ds)=aL ds:=by conv=>lhs;unfold cI
@[simp] theorem Lk (ds:List D):cI (.tup ds)=aL ds:=by conv=>lhs;unfold cI
@[simp] theorem zZ (ns:List Int):aL (ns.map D.int)=true:=rM ns
@[simp] theorem A0 (O:ax) (i:Int):res O (.int i)=.int i:=by unfold res;rfl
@[simp] theorem MM (O:ax) (i:Bool):res O (.bl i)=.bl i:=by unfold res;rfl
@[simp] theorem L3 (O:ax) (i:Str):res O (.str i)=.str i:=by unfold res;rfl
@[simp] theorem L6 (O:ax):res O .non=.non:=by unfold res;rfl
@[simp] theorem ni (O:ax) (ds:List D):res O (.lst ds)=.lst (bA O ds):=by conv=>lhs;unfold res
@[simp] theorem Hf (O:ax) (ds:List D):res O (.tup ds)=.tup (bA O ds):=by conv=>lhs;unfold res
@[simp] theorem ph {O:ax} {k:Nat} {ds:List D} (h:O[k]? =some (.lst ds)):res O (.ptr k)=.lst ds:=by conv=>lhs;unfold res;simp only[h]
@[simp] theorem nK (O:ax):bA O []=[]:=by unfold bA;rfl
@[simp] theorem fG (O:ax) (d:D) (ds:List D):bA O (d::ds)=res O d::bA O ds:=by conv=>lhs;unfold bA
@[simp] theorem B6 (O:ax) (ns:List Int):bA O (ns.map D.int)=ns.map D.int:=mF ns
@[simp] theorem Lu (b:Bool):m7 (.bl b)=true:=rfl
@[simp] theorem Lh (b:Int):m7 (.int b)=true:=rfl
@[simp] theorem Lc (b:Str):m7 (.str b)=true:=rfl
@[simp] theorem Ml {O:ax} {k:Nat} {ds:List D} (h:O[k]? =some (.lst ds)) (c:String):ir c O (.ptr k)=.ok (.bl (eK "list" c)):=by
 unfold ir tyD;simp only[h]
@[simp] theorem mj (n:Nat):∀ns:List Int,hU n (ns.map D.int)=ns.map D.int
 | []=>by simp[hU]
 | m::ns=>by simp[hU,shD,mj n ns]
@[simp] theorem pj (n:Nat) (ds:List D):shC n (.lst ds)=.lst (hU n ds):=rfl
theorem nq{n:Nat}{m:SM}{ds:List D}{O:ax}{d:D}(h:∃s,m ⟨ds.map some++List.replicate (n-ds.length) none,O⟩=.ret d s):∃O1,runM n m ds O=.ok (d,O1):=by
 obtain⟨s,h⟩:=h
 exact⟨s.o,dF h⟩
end
mutual
theorem FU{O:ax}:∀{d:D},cI d=true->res O d=d
 | .non,_=>by unfold res;rfl
 | .bl _,_=>by unfold res;rfl
 | .int _,_=>by unfold res;rfl
 | .str _,_=>by unfold res;rfl
 | .lst ds,h=>by rw[ni,om (by simpa using h)]
 | .tup ds,h=>by rw[Hf,om (by simpa using h)]
 | .ptr _,h=>by unfold cI at h;cases h
 | .obj c ns ds,h=>by unfold res;rfl
 | .exn c,h=>by unfold res;rfl
theorem om{O:ax}:∀{ds:List D},aL ds=true->bA O ds=ds
 | [],_=>nK O
 | d::ds,h=>by
  rw[lQ,Bool.and_eq_true] at h
  rw[fG,FU h.1,om h.2]
end
theorem AY{O:ax}{k:Nat}{ds:List D}(h:O[k]? =some (.lst ds))(hp:aL ds=true)(es:List D):eqB O (.ptr k) (.lst es)=eqB O (.lst ds) (.lst es):=by
 show fO O _ _=fO O _ _
 unfold fO
 simp only[ph h,ni,om hp]
@[simp] theorem Mj {O:ax} {k:Nat} {ds:List D} (h:O[k]? =some (.lst ds)) (hp:aL ds=true) (es:List D):eqD O (.ptr k) (.lst es)=eqD O (.lst ds) (.lst es):=by unfold eqD;rw[AY h hp]
@[simp] theorem Mg {O:ax} {k:Nat} {ds:List D} (h:O[k]? =some (.lst ds)) (hp:aL ds=true) (es:List D):neD O (.ptr k) (.lst es)=neD O (.lst ds) (.lst es):=by unfold neD;rw[AY h hp]
end M
set_option maxRecDepth 100000
set_option maxHeartbeats 4000000
namespace M
open PySem PySem.Spec PyProof.Rows L2
theorem qP{ok:ax->Prop}{g:GM}{body:SM}(P:S->Prop)(hok:∀s,P s->ok s.o):∀(ds:List D),
 (∀d∈ds,∀s,P s->∃s1 s2,g d s=.ok s1/\(body s1=.next s2\/body s1=.cnt s2)/\P s2)->∀s,P s->∃s',bS ok g body ds s=.next s'/\P s'
 | [],_,s,h=>⟨s,by rw[bS,if_pos (hok _ h)],h⟩
 | d::ds,step,s,h=>by
  obtain⟨s1,s2,e1,e2,h2⟩:=step d List.mem_cons_self s h
  obtain⟨s',e3,h3⟩:=qP P hok ds (λd hd=>step d (List.mem_cons_of_mem _ hd)) s2 h2
  refine⟨s', ?_,h3⟩
  rw[bS,if_pos (hok _ h),e1,gA]
  rcases e2 with e2 | e2 <;> (rw[e2];exact e3)
theorem d4{ok:ax->Prop}{g:GM}{body:SM}(P:List D->S->Prop)(hok:∀pre s,P pre s->ok s.o):∀(ds pre:List D),
 (∀pre' d rest,pre++ds=pre'++d::rest->∀s,P pre' s->∃s1 s2,g d s=.ok s1/\(body s1=.next s2\/body s1=.cnt s2)/\P (pre'++[d]) s2)->∀s,P pre s->∃s',bS ok g body ds s=.next s'/\P (pre++ds) s'
 | [],pre,_,s,h=>⟨s,by rw[bS,if_pos (hok _ _ h)],by simpa using h⟩
 | d::ds,pre,step,s,h=>by
  obtain⟨s1,s2,e1,e2,h2⟩:=step pre d ds rfl s h
  obtain⟨s',e3,h3⟩:=d4 P hok ds (pre++[d]) (λpre' d' rest e=>step pre' d' rest (by simpa using e)) s2 h2
  refine⟨s', ?_,by simpa using h3⟩
  rw[bS,if_pos (hok _ _ h),e1,gA]
  rcases e2 with e2 | e2 <;> (rw[e2];exact e3)
theorem dk{im:IM}{g:GM}{body:SM}{s s1:S}{ds:List D}{k:Option Nat}(h:im s=.ok ((ds,k),s1)):eG im g body s=bS (okC ds k) g body ds s1:=by rw[HP,h,gA]
theorem ie{m:AM}{s s1:S}{n:Nat}(h:m s=.ok ([.int (n:Int)],s1))(hn:n<=1000000):ij m s=.ok ((dw 0 (n:Int),none),s1):=by
 show (m s).bind _=_
 rw[h,ai]
 dsimp only
 rw[if_pos (by constructor <;> omega)]
section
variable {O : ax}
@[simp] theorem MV (d:D) (ds:List D):ixD O (.tup (d::ds)) (.int 0)=.ok d:=AN (by rw[ny (by decide) (by simp)];rfl)
@[simp] theorem MX (d e:D) (ds:List D):ixD O (.tup (d::e::ds)) (.int 1)=.ok e:=AN (by rw[ny (by decide) (by simp;omega)];rfl)
@[simp] theorem MW (d:D) (ds:List D):ixD O (.lst (d::ds)) (.int 0)=.ok d:=o5 (by rw[ny (by decide) (by simp)];rfl)
@[simp] theorem MY (d e:D) (ds:List D):ixD O (.lst (d::e::ds)) (.int 1)=.ok e:=o5 (by rw[ny (by decide) (by simp;omega)];rfl)
theorem rA(ns:List Int):SeqAt.shaped (.tuple (ns.map PyData.int))=true:=by
 simp[SeqAt.shaped,PyData.canLay0,lX,PyData.depth,mZ]
theorem wk(ns ms:List Int):eqB O (.tup (ns.map D.int)) (.tup (ms.map D.int))=some (decide (ns=ms)):=by
 show fO O _ _=_
 unfold fO
 simp only[res,mF,toPy,m6,Option.map_some]
 rw[if_pos ⟨rA ns,rA ms⟩]
 simp only[PyData.eqv,qd]
@[simp] theorem MG (a b c d:Int):eqD O (.tup [.int a,.int b]) (.tup [.int c,.int d])=.ok (.bl (decide (a=c/\b=d))):=by
 have:=wk (O:=O) [a,b] [c,d]
 unfold eqD
 rw[show eqB O (.tup [.int a,.int b]) (.tup [.int c,.int d])=_ from this]
 simp
@[simp] theorem MD (a b c d:Int):neD O (.tup [.int a,.int b]) (.tup [.int c,.int d])=.ok (.bl (!decide (a=c/\b=d))):=by
 have:=wk (O:=O) [a,b] [c,d]
 unfold neD
 rw[show eqB O (.tup [.int a,.int b]) (.tup [.int c,.int d])=_ from this]
 simp
end
theorem Sz.sub{m n:Nat}{i j:Int}(h:Sz m i)(h':Sz n j):Sz (max m n+1) (i-j):=by
 rw[Int.sub_eq_add_neg]
 refine Sz.add h ?_
 unfold Sz at *
 rw[Int.natAbs_neg];exact h'
theorem Sz.neg{m:Nat}{i:Int}(h:Sz m i):Sz m (-i):=by
 unfold Sz at *
 rw[Int.natAbs_neg];exact h
end M
set_option maxRecDepth 100000
set_option maxHeartbeats 4000000
namespace M
def bh:Nat->(Nat->Int)->Int
 | 0,_=>0
 | n+1,f=>bh n f+f n
theorem cg{n:Nat}{f g:Nat->Int}(h:∀i,i<n->f i=g i):bh n f=bh n g:=by
 induction n with
 | zero=>rfl
 | succ n ih=>rw[bh,bh,ih λi hi=>h i (by omega),h n (by omega)]
theorem fe{n:Nat}{f:Nat->Int}(h:∀i,i<n->f i=0):bh n f=0:=by
 induction n with
 | zero=>rfl
 | succ n ih=>rw[bh,ih λi hi=>h i (by omega),h n (by omega)];rfl
theorem pB(n:Nat)(f g:Nat->Int):bh n (λi=>f i+g i)=bh n f+bh n g:=by
 induction n with
 | zero=>rfl
 | succ n ih=>simp only[bh,ih];omega
theorem dW(n:Nat)(c:Int)(f:Nat->Int):bh n (λi=>c*f i)=c*bh n f:=by
 induction n with
 | zero=>simp[bh]
 | succ n ih=>simp only[bh,ih,Int.mul_add]
theorem je{n k:Nat}(hk:k<n){f:Nat->Int}(h:∀i,i<n->i≠k->f i=0):bh n f=f k:=by
 induction n with
 | zero=>omega
 | succ n ih=>
  rw[bh]
  by_cases e:k=n
  ·subst e
   rw[fe λi hi=>h i (by omega) (by omega)]
   omega
  ·rw[ih (by omega) λi hi=>h i (by omega),h n (by omega) (by omega)]
   omega
def nth(r:List Int)(i:Nat):Int:=r.getD i 0
def dy(n:Nat)(r:List Int)(x:Nat->Int):Int:=bh n λi=>nth r i*x i
def dU(n:Nat)(R:List (List Int))(x:Nat->Int):Prop:=∀r∈R,dy n r x=0
def low(ns:List Int):List Int:=if cM ns=0 then ns else ns.map (· / (cM ns:Int))
theorem low_length(ns:List Int):(low ns).length=ns.length:=by unfold low;split <;> simp
theorem jU{f:Int->Int}(h0:f 0=0)(r:List Int)(i:Nat):nth (r.map f) i=f (nth r i):=by
 unfold nth
 rw[List.getD_eq_getElem?_getD,List.getD_eq_getElem?_getD,List.getElem?_map]
 cases r[i]? with
 | none=>exact h0.symm
 | some a=>rfl
theorem sf{r:List Int}{i:Nat}(h:i<r.length):nth r i∈r:=by
 unfold nth
 rw[List.getD_eq_getElem?_getD,List.getElem?_eq_getElem h]
 exact List.getElem_mem h
theorem lC{r:List Int}{i:Nat}(h:r.length<=i):nth r i=0:=by
 unfold nth
 rw[List.getD_eq_getElem?_getD,List.getElem?_eq_none h]
 rfl
theorem rL(r:List Int)(i:Nat):((cM r:Nat):Int) ∣ nth r i:=by
 by_cases h:i<r.length
 ·exact zB (sf h)
 ·rw[lC (by omega)];exact Int.dvd_zero _
def uI(r:List Int):Int:=if cM r=0 then 1 else (cM r:Int)
theorem ow(r:List Int):0<uI r:=by unfold uI;split <;> omega
theorem oY(r:List Int)(i:Nat):nth r i=uI r*nth (low r) i:=by
 unfold low uI
 split
 ·omega
 ·rw[jU (by simp),Int.mul_ediv_cancel' (rL r i)]
theorem yz{r:List Int}(h:cM r=0)(i:Nat):nth r i=0:=by
 have:=rL r i
 rw[h] at this
 simpa using this
theorem AK{r:List Int}{i:Nat}(h:nth r i≠0):cM (low r)=1:=by
 have h0:cM r≠0:=λe=>h (yz e i)
 unfold low
 rw[if_neg h0]
 exact ES (Nat.pos_of_ne_zero h0)
def ko(one:List Int)(v:Int)(other:List Int)(w:Int):List Int:=List.zipWith (λa b=>a*w-b*v) one other
def dJ(one:List Int)(v:Int)(other:List Int)(w:Int):List Int:=low (ko one v other w)
theorem oP{one other:List Int}(h:one.length=other.length)(v w:Int):(ko one v other w).length=one.length:=by
 unfold ko;rw[List.length_zipWith,<- h,Nat.min_self]
theorem yY{one other:List Int}(h:one.length=other.length)(v w:Int)(i:Nat):nth (ko one v other w) i=nth one i*w-nth other i*v:=by
 by_cases hi:i<one.length
 ·unfold ko nth
  simp only[List.getD_eq_getElem?_getD,List.getElem?_zipWith,List.getElem?_eq_getElem hi,List.getElem?_eq_getElem (h▸hi:i<other.length)]
  rfl
 ·rw[lC (by rw[oP h];omega),lC (r:=one) (by omega),lC (r:=other) (by omega)]
  simp
theorem lY{one other:List Int}(h:one.length=other.length)(v w:Int):(dJ one v other w).length=one.length:=by
 unfold dJ;rw[low_length,oP h]
theorem pN{one other:List Int}(h:one.length=other.length)(v w:Int):∃g:Int,0<g/\∀i,g*nth (dJ one v other w) i=nth one i*w-nth other i*v:=by
 refine⟨uI (ko one v other w),ow _,λi=> ?_⟩
 unfold dJ
 rw[<- oY,yY h]
theorem yG{n:Nat}{a b c:List Int}{g u v:Int}(h:∀i,g*nth c i=u*nth a i+v*nth b i)(x:Nat->Int):g*dy n c x=u*dy n a x+v*dy n b x:=by
 unfold dy
 rw[<- dW,<- dW,<- dW,<- pB]
 refine cg λi _=> ?_
 have:=h i
 grind
theorem qf{n:Nat}{a c:List Int}{g:Int}(h:∀i,nth a i=g*nth c i)(x:Nat->Int):dy n a x=g*dy n c x:=by
 unfold dy
 rw[<- dW]
 refine cg λi _=> ?_
 rw[h i,Int.mul_assoc]
theorem t4{n:Nat}{one other:List Int}(h:one.length=other.length)(v w:Int)(x:Nat->Int):∃g:Int,0<g/\g*dy n (dJ one v other w) x=w*dy n one x-v*dy n other x:=by
 obtain⟨g,hg,e⟩:=pN h v w
 refine⟨g,hg, ?_⟩
 have:=yG (n:=n) (c:=dJ one v other w) (a:=one) (b:=other) (g:=g) (u:=w) (v:= -v) (λi=>by rw[e i];grind) x
 rw[this];grind
theorem tP(n:Nat)(r:List Int)(x:Nat->Int):dy n (low r) x=0↔dy n r x=0:=by
 rw[qf (λi=>oY r i) x]
 have:=ow r
 constructor
 ·intro h;rw[h];simp
 ·intro h
  rcases Int.mul_eq_zero.mp h with z | z
  ·omega
  ·exact z
end M
set_option maxRecDepth 100000
set_option maxHeartbeats 4000000
namespace M
def bU:List Int->Option Nat
 | []=>none
 | a::r=>if a≠0 then some 0 else (bU r).map (· + 1)
theorem kY:∀{l:List Int},bU l=none->∀a∈l,a=0
 | [],_,_,h=>by simp at h
 | b::r,e,a,h=>by
  unfold bU at e
  split at e
  ·cases e
  ·rename_i hb
   rcases List.mem_cons.mp h with rfl | h
   ·simpa using hb
   ·exact kY (by simpa using e) a h
theorem eU:∀{l:List Int} {k:Nat},bU l=some k->k<l.length/\nth l k≠0/\∀i,i<k->nth l i=0
 | [],_,e=>by cases e
 | b::r,k,e=>by
  unfold bU at e
  split at e
  ·rename_i hb
   cases e
   exact⟨by simp,hb,λi hi=>by omega⟩
  ·rename_i hb
   cases e2:bU r with
   | none=>rw[e2] at e;cases e
   | some j=>
    rw[e2] at e
    cases e
    obtain⟨h1,h2,h3⟩:=eU e2
    refine⟨by simp;omega,by simpa[nth] using h2,λi hi=> ?_⟩
    cases i with
    | zero=>simpa[nth] using hb
    | succ i=>simpa[nth] using h3 i (Nat.lt_of_succ_lt_succ hi)
def fo(row:List Int)(at_:Nat):List Int:=if nth row at_>0 then row else row.map (- ·)
def dX(lead:List Int)(at_:Nat)(row:List Int):List Int:=if nth row at_=0 then row else dJ row (nth row at_) lead (nth lead at_)
def cT(s:List (List Int)×List (List Int))(at_:Nat):List (List Int)×List (List Int):=
 match bU (s.1.map (nth · at_)) with
 | none=>s
 | some k=>((s.1.eraseIdx k).map (dX (fo (s.1.getD k []) at_) at_),s.2.map (dX (fo (s.1.getD k []) at_) at_)++[fo (s.1.getD k []) at_])
def bM(rows:List (List Int))(n:Nat):List (List Int):=((List.range n).foldl cT (rows.map low,[])).2
structure Good(n:Nat)(p:Nat×List Int):Prop where
 len:p.2.length=n
 lt:p.1<n
 pos:0<nth p.2 p.1
 zero:∀i,i<p.1->nth p.2 i=0
 one:cM p.2=1
structure Pl(n:Nat)(P:List (Nat×List Int)):Prop where
 good:∀p∈P,Good n p
 pw:P.Pairwise λp q=>p.1<q.1/\nth p.2 q.1=0
def rg(r:List Int):Prop:=∀i,nth r i≠0->cM r=1
theorem qc(r:List Int):rg (low r):=λi h=>AK (i:=i) λz=>by
 have:=oY r i
 rw[z] at this
 rcases Int.mul_eq_zero.mp this.symm with q | q
 ·have:=ow r;omega
 ·exact h q
theorem Gi(r:List Int):cM (r.map (- ·))=cM r:=by
 unfold cM
 have:∀(l:List Int) (c:Nat),(l.map (- ·)).foldl (λc n=>Nat.gcd c n.natAbs) c=l.foldl (λc n=>Nat.gcd c n.natAbs) c:=by
  intro l
  induction l with
  | nil=>intro c;rfl
  | cons a l ih=>intro c;simp only[List.map_cons,List.foldl_cons,Int.natAbs_neg];exact ih _
 exact this r 0
theorem sU(row:List Int)(a:Nat):(fo row a).length=row.length:=by unfold fo;split <;> simp
theorem yH(row:List Int)(a:Nat):∃g:Int,(g=1\/g= -1)/\∀i,nth (fo row a) i=g*nth row i:=by
 unfold fo
 split
 ·exact⟨1,.inl rfl,λi=>by omega⟩
 ·exact⟨-1,.inr rfl,λi=>by rw[jU (by simp)];omega⟩
theorem CV{row:List Int}{a:Nat}(h:rg row):rg (fo row a):=by
 unfold fo
 split
 ·exact h
 ·intro i hi
  rw[Gi]
  refine h i λz=>hi ?_
  rw[jU (by simp),z];rfl
theorem FZ{row:List Int}{a:Nat}(h:nth row a≠0):0<nth (fo row a) a:=by
 unfold fo
 split
 ·assumption
 ·rw[jU (by simp)];omega
theorem Ih(n:Nat)(row:List Int)(a:Nat)(x:Nat->Int):dy n (fo row a) x=0↔dy n row x=0:=by
 obtain⟨g,hg,e⟩:=yH row a
 have:=qf (n:=n) (a:=fo row a) (c:=row) e x
 rw[this]
 rcases hg with rfl | rfl <;> omega
section
variable {lead row : List Int} {a : Nat}
theorem sZ(h:row.length=lead.length):(dX lead a row).length=row.length:=by
 unfold dX;split
 ·rfl
 ·exact lY h _ _
theorem tK(hl:0<nth lead a)(h:row.length=lead.length):∃g u:Int,0<g/\0<u/\∃v:Int,(nth row a=0->v=0)/\∀i,g*nth (dX lead a row) i=u*nth row i-v*nth lead i:=by
 unfold dX
 split
 ·exact⟨1,1,by omega,by omega,0,λ_=>rfl,λi=>by omega⟩
 ·rename_i hz
  obtain⟨g,hg,e⟩:=pN h (nth row a) (nth lead a)
  exact⟨g,nth lead a,hg,hl,nth row a,λz=>absurd z hz,λi=>by rw[e i];grind⟩
theorem A3(hl:0<nth lead a)(h:row.length=lead.length):nth (dX lead a row) a=0:=by
 unfold dX
 split
 ·assumption
 ·obtain⟨g,hg,e⟩:=pN h (nth row a) (nth lead a)
  have:=e a
  have:g*nth (dJ row (nth row a) lead (nth lead a)) a=0:=by rw[this];grind
  rcases Int.mul_eq_zero.mp this with z | z
  ·omega
  ·exact z
theorem wQ(h:rg row):rg (dX lead a row):=by
 unfold dX
 split
 ·exact h
 ·exact qc _
theorem rh(hl:0<nth lead a)(h:row.length=lead.length){i:Nat}(h1:nth row i=0)(h2:nth lead i=0):nth (dX lead a row) i=0:=by
 obtain⟨g,u,hg,hu,v,_,e⟩:=tK hl h
 have:=e i
 rw[h1,h2] at this
 have:g*nth (dX lead a row) i=0:=by rw[this];grind
 rcases Int.mul_eq_zero.mp this with z | z
 ·omega
 ·exact z
theorem Ge(hl:0<nth lead a)(h:row.length=lead.length){i:Nat}(h1:0<nth row i)(h2:nth lead i=0):0<nth (dX lead a row) i:=by
 obtain⟨g,u,hg,hu,v,_,e⟩:=tK hl h
 have e':=e i
 rw[h2] at e'
 have:0<g*nth (dX lead a row) i:=by
  rw[e']
  have:=Int.mul_pos hu h1
  omega
 by_cases hn:nth (dX lead a row) i<=0
 ·have:=Int.mul_nonpos_of_nonneg_of_nonpos (show 0<=g by omega) hn
  omega
 ·omega
theorem rT(n:Nat)(hl:0<nth lead a)(h:row.length=lead.length){x:Nat->Int}(hx:dy n lead x=0):dy n (dX lead a row) x=0↔dy n row x=0:=by
 obtain⟨g,u,hg,hu,v,_,e⟩:=tK hl h
 have:=yG (n:=n) (c:=dX lead a row) (a:=row) (b:=lead) (g:=g) (u:=u) (v:= -v) (λi=>by rw[e i];grind) x
 rw[hx] at this
 constructor
 ·intro z
  rw[z] at this
  have:u*dy n row x=0:=by omega
  rcases Int.mul_eq_zero.mp this with q | q
  ·omega
  ·exact q
 ·intro z
  rw[z] at this
  have:g*dy n (dX lead a row) x=0:=by omega
  rcases Int.mul_eq_zero.mp this with q | q
  ·omega
  ·exact q
end
structure PSt(n a:Nat)(left:List (List Int))(P:List (Nat×List Int)):Prop where
 ll:∀r∈left,r.length=n
 lz:∀r∈left,∀i,i<a->nth r i=0
 lw:∀r∈left,rg r
 pl:Pl n P
 pa:∀p∈P,p.1<a
theorem z8(left:List (List Int))(a k:Nat):nth (left.map (nth · a)) k=nth (left.getD k []) a:=by
 unfold nth
 simp only[List.getD_eq_getElem?_getD,List.getElem?_map]
 cases left[k]? with
 | none=>rfl
 | some r=>rfl
theorem getD_mem{left:List (List Int)}{k:Nat}(h:k<left.length):left.getD k []∈left:=by
 rw[List.getD_eq_getElem?_getD,List.getElem?_eq_getElem h]
 exact List.getElem_mem h
theorem qa:∀{l:List (List Int)} {k:Nat} (h:k<l.length),l.Perm (l[k]::l.eraseIdx k)
 | [],k,h=>by simp at h
 | a::l,0,h=>by simp
 | a::l,k+1,h=>by
  have:=qa (l:=l) (k:=k) (by simpa using h)
  simp only[List.getElem_cons_succ,List.eraseIdx_cons_succ]
  exact(this.cons a).trans (List.Perm.swap _ _ _)
theorem Hv{n a:Nat}(ha:a<n){left:List (List Int)}{P:List (Nat×List Int)}(h:PSt n a left P):
 ∃left' P',cT (left,P.map (·.2)) a=(left',P'.map (·.2))/\PSt n (a+1) left' P'/\left'.length+P'.length=left.length+P.length/\∀x,dU n (P'.map (·.2)++left') x↔dU n (P.map (·.2)++left) x:=by
 unfold cT
 dsimp only
 split
 ·rename_i e
  refine⟨left,P,rfl,⟨h.ll,λr hr i hi=> ?_,h.lw,h.pl,λp hp=>Nat.lt_succ_of_lt (h.pa p hp)⟩,rfl,λx=>Iff.rfl⟩
  by_cases hia:i=a
  ·subst hia
   exact kY e _ (List.mem_map.mpr ⟨r,hr,rfl⟩)
  ·exact h.lz r hr i (by omega)
 ·rename_i k e
  obtain⟨k1,k2,_⟩:=eU e
  rw[List.length_map] at k1
  rw[z8] at k2
  have hm:left.getD k []∈left:=getD_mem k1
  have hperm:left.Perm (left.getD k []::left.eraseIdx k):=by
   rw[List.getD_eq_getElem?_getD,List.getElem?_eq_getElem k1]
   exact qa k1
  generalize left.getD k []=row at *
  generalize hld:fo row a=lead at *
  have ll:lead.length=n:=by rw[<- hld,sU];exact h.ll row hm
  have lp:0<nth lead a:=by rw[<- hld];exact FZ k2
  have lz:∀i,i<a->nth lead i=0:=λi hi=>by
   obtain⟨g,_,e⟩:=yH row a
   rw[<- hld,e,h.lz row hm i hi];omega
  have lw:rg lead:=by rw[<- hld];exact CV (h.lw row hm)
  have sub:∀r∈left.eraseIdx k,r∈left:=λr hr=>List.mem_of_mem_eraseIdx hr
  refine⟨(left.eraseIdx k).map (dX lead a),P.map (λp=>(p.1,dX lead a p.2))++[(a,lead)], ?_,⟨?_, ?_, ?_,⟨?_, ?_⟩, ?_⟩, ?_, ?_⟩
  ·simp[Function.comp_def]
  ·intro r hr
   obtain⟨q,hq,rfl⟩:=List.mem_map.mp hr
   rw[sZ (by rw[ll,h.ll q (sub q hq)]),h.ll q (sub q hq)]
  ·intro r hr i hi
   obtain⟨q,hq,rfl⟩:=List.mem_map.mp hr
   have hql:q.length=lead.length:=by rw[ll,h.ll q (sub q hq)]
   by_cases hia:i=a
   ·subst hia;exact A3 lp hql
   ·exact rh lp hql (h.lz q (sub q hq) i (by omega)) (lz i (by omega))
  ·intro r hr
   obtain⟨q,hq,rfl⟩:=List.mem_map.mp hr
   exact wQ (h.lw q (sub q hq))
  ·intro p hp
   rcases List.mem_append.mp hp with hp | hp
   ·obtain⟨q,hq,rfl⟩:=List.mem_map.mp hp
    have g:=h.pl.good q hq
    have hql:q.2.length=lead.length:=by rw[ll,g.len]
    have pp:=Ge lp hql g.pos (lz q.1 (h.pa q hq))
    exact⟨by rw[sZ hql];exact g.len,g.lt,pp,λi hi=>rh lp hql (g.zero i hi) (lz i (Nat.lt_trans hi (h.pa q hq))),wQ (λi _=>g.one) q.1 (by omega)⟩
   ·rw[List.mem_singleton.mp hp]
    exact⟨ll,ha,lp,lz,lw a (by omega)⟩
  ·rw[List.pairwise_append]
   refine⟨?_,by simp,λp hp q hq=> ?_⟩
   ·rw[List.pairwise_map]
    refine List.Pairwise.imp_of_mem (λ{p q} hp hq hpq=> ?_) h.pl.pw
    refine⟨hpq.1, ?_⟩
    have g:=h.pl.good p hp
    exact rh lp (by rw[ll,g.len]) hpq.2 (lz q.1 (h.pa q hq))
   ·obtain⟨p',hp',rfl⟩:=List.mem_map.mp hp
    rw[List.mem_singleton.mp hq]
    exact⟨h.pa p' hp',A3 lp (by rw[ll,(h.pl.good p' hp').len])⟩
  ·intro p hp
   rcases List.mem_append.mp hp with hp | hp
   ·obtain⟨q,hq,rfl⟩:=List.mem_map.mp hp
    exact Nat.lt_succ_of_lt (h.pa q hq)
   ·rw[List.mem_singleton.mp hp];exact Nat.lt_succ_self a
  ·have:=hperm.length_eq
   simp only[List.length_map,List.length_append,List.length_cons,List.length_nil] at *
   omega
  ·intro x
   have hlead:dy n lead x=0↔dy n row x=0:=by rw[<- hld];exact Ih n row a x
   constructor
   ·intro hx r hr
    have h0:dy n lead x=0:=hx lead (by simp)
    rcases List.mem_append.mp hr with hr | hr
    ·obtain⟨p,hp,rfl⟩:=List.mem_map.mp hr
     exact(rT n lp (by rw[ll,(h.pl.good p hp).len]) h0).mp (hx _ (List.mem_append_left _ (List.mem_map.mpr ⟨(p.1,dX lead a p.2),by simp;exact .inl ⟨p.1,p.2,hp,rfl,rfl⟩,rfl⟩)))
    ·rcases List.mem_cons.mp (hperm.mem_iff.mp hr) with rfl | hr
     ·exact hlead.mp h0
     ·exact(rT n lp (by rw[ll,h.ll r (sub r hr)]) h0).mp (hx _ (List.mem_append_right _ (List.mem_map.mpr ⟨r,hr,rfl⟩)))
   ·intro hx r hr
    have h0:dy n lead x=0:=hlead.mpr (hx row (List.mem_append_right _ hm))
    rcases List.mem_append.mp hr with hr | hr
    ·obtain⟨q,hq,rfl⟩:=List.mem_map.mp hr
     rcases List.mem_append.mp hq with hq | hq
     ·obtain⟨p,hp,rfl⟩:=List.mem_map.mp hq
      exact(rT n lp (by rw[ll,(h.pl.good p hp).len]) h0).mpr (hx _ (List.mem_append_left _ (List.mem_map.mpr ⟨p,hp,rfl⟩)))
     ·rw[List.mem_singleton.mp hq];exact h0
    ·obtain⟨q,hq,rfl⟩:=List.mem_map.mp hr
     exact(rT n lp (by rw[ll,h.ll q (sub q hq)]) h0).mpr (hx _ (List.mem_append_right _ (sub q hq)))
theorem tS{n:Nat}{left:List (List Int)}(hl:∀r∈left,r.length=n)(hw:∀r∈left,rg r):∀a,a<=n->
 ∃left' P',(List.range a).foldl cT (left,[])=(left',P'.map (·.2))/\PSt n a left' P'/\left'.length+P'.length=left.length/\∀x,dU n (P'.map (·.2)++left') x↔dU n left x
 | 0,_=>⟨left,[],rfl,⟨hl,λ_ _ i hi=>by omega,hw,⟨by simp,by simp⟩,by simp⟩,by simp,λx=>by simp⟩
 | a+1,ha=>by
  obtain⟨l1,P1,e1,s1,c1,n1⟩:=tS hl hw a (by omega)
  obtain⟨l2,P2,e2,s2,c2,n2⟩:=Hv (by omega) s1
  refine⟨l2,P2, ?_,s2,by omega,λx=>(n2 x).trans (n1 x)⟩
  rw[List.range_succ,List.foldl_append,e1]
  exact e2
theorem CY{n:Nat}{r:List Int}(h:∀i,i<n->nth r i=0)(x:Nat->Int):dy n r x=0:=fe λi hi=>by rw[h i hi];omega
theorem ig{n:Nat}{rows:List (List Int)}(hl:∀r∈rows,r.length=n):∃P,bM rows n=P.map (·.2)/\Pl n P/\P.length<=rows.length/\∀x,dU n (bM rows n) x↔dU n rows x:=by
 obtain⟨l,P,e,s,c,nu⟩:=tS (n:=n) (left:=rows.map low) (λr hr=>by
  obtain⟨q,hq,rfl⟩:=List.mem_map.mp hr
  rw[low_length];exact hl q hq) (λr hr=>by
  obtain⟨q,hq,rfl⟩:=List.mem_map.mp hr
  exact qc q) n (Nat.le_refl n)
 have e':bM rows n=P.map (·.2):=by unfold bM;rw[e]
 refine⟨P,e',s.pl,by rw[List.length_map] at c;omega,λx=> ?_⟩
 rw[e']
 have n1:dU n (P.map (·.2)++l) x↔dU n (P.map (·.2)) x:=by
  constructor
  ·exact λh r hr=>h r (List.mem_append_left _ hr)
  ·intro h r hr
   rcases List.mem_append.mp hr with hr | hr
   ·exact h r hr
   ·exact CY (s.lz r hr) x
 have n2:dU n (rows.map low) x↔dU n rows x:=by
  constructor
  ·exact λh r hr=>(tP n r x).mp (h _ (List.mem_map.mpr ⟨r,hr,rfl⟩))
  ·intro h r hr
   obtain⟨q,hq,rfl⟩:=List.mem_map.mp hr
   exact(tP n q x).mpr (h q hq)
 exact n1.symm.trans ((nu x).trans n2)
end M
set_option maxRecDepth 100000
set_option maxHeartbeats 4000000
namespace M
def bZ(n:Nat)(f g:Nat->Int):Int:=bh n λi=>f i*g i
theorem bY(n:Nat)(f g:Nat->Int):bZ n f g=bZ n g f:=cg λi _=>Int.mul_comm _ _
theorem gJ(n:Nat)(r:List Int)(x:Nat->Int):dy n r x=bZ n (nth r) x:=rfl
theorem yI{n:Nat}{a b c:Nat->Int}{g u v:Int}(h:∀i,i<n->g*c i=u*a i+v*b i)(x:Nat->Int):g*bZ n c x=u*bZ n a x+v*bZ n b x:=by
 unfold bZ
 rw[<- dW,<- dW,<- dW,<- pB]
 refine cg λi hi=> ?_
 have:=h i hi
 grind
theorem wj{n:Nat}{a b:Nat->Int}{u v:Int}(x:Nat->Int):bZ n x (λi=>u*a i+v*b i)=u*bZ n x a+v*bZ n x b:=by
 rw[bY n x a,bY n x b,bY,<- yI (g:=1) (c:=λi=>u*a i+v*b i) (λi _=>by omega) x]
 omega
theorem CF{n:Nat}{a b:Nat->Int}(h:∀i,i<n->a i=b i)(x:Nat->Int):bZ n a x=bZ n b x:=cg λi hi=>by rw[h i hi]
def fX(T:List Int)(R:List (List Int))(i:Nat):Int:=bh R.length λj=>nth T j*nth (R.getD j []) i
theorem oo(m n:Nat)(f:Nat->Nat->Int):bh m (λi=>bh n λj=>f i j)=bh n λj=>bh m λi=>f i j:=by
 induction m with
 | zero=>rw[fe (n:=n) (f:=λj=>bh 0 λi=>f i j) λ_ _=>rfl];rfl
 | succ m ih=>simp only[bh];rw[pB,ih]
theorem FI(n:Nat)(T:List Int)(R:List (List Int))(x:Nat->Int):bZ n (fX T R) x=bh R.length λj=>nth T j*dy n (R.getD j []) x:=by
 unfold bZ fX
 have:∀i,(bh R.length λj=>nth T j*nth (R.getD j []) i)*x i=bh R.length λj=>nth T j*(nth (R.getD j []) i*x i):=λi=>by
  rw[Int.mul_comm,<- dW]
  refine cg λj _=>by grind
 rw[cg λi _=>this i,oo]
 refine cg λj _=> ?_
 unfold dy
 rw[<- dW]
theorem wR{n:Nat}{T:List Int}{R:List (List Int)}{x:Nat->Int}(h:dU n R x):bZ n (fX T R) x=0:=by
 rw[FI]
 refine fe λj hj=> ?_
 rw[h _ (getD_mem hj)]
 omega
def gQ(n:Nat)(R:List (List Int))(x:Nat->Int):Prop:=∃k:Int,k≠0/\∃T:List Int,T.length=R.length/\∀i,i<n->k*x i=fX T R i
theorem gQ.dot{n:Nat}{R:List (List Int)}{x y:Nat->Int}(h:gQ n R x)(hy:dU n R y):bZ n x y=0:=by
 obtain⟨k,hk,T,_,e⟩:=h
 have h1:k*bZ n x y=1*bZ n (fX T R) y+0*bZ n x y:=yI (g:=k) (c:=x) (a:=fX T R) (b:=x) (u:=1) (v:=0) (λi hi=>by rw[e i hi];omega) y
 rw[wR hy] at h1
 have:k*bZ n x y=0:=by omega
 rcases Int.mul_eq_zero.mp this with z | z
 ·exact absurd z hk
 ·exact z
theorem pQ{T:List Int}{R:List (List Int)}(hT:T.length=R.length)(c:Int)(r:List Int)(i:Nat):fX (T++[c]) (R++[r]) i=fX T R i+c*nth r i:=by
 unfold fX
 rw[List.length_append,List.length_singleton,bh]
 congr 1
 ·refine cg λj hj=> ?_
  simp only[nth,List.getD_eq_getElem?_getD]
  rw[List.getElem?_append_left (by omega),List.getElem?_append_left hj]
 ·simp only[nth,List.getD_eq_getElem?_getD]
  rw[List.getElem?_append_right (by omega),List.getElem?_append_right (by omega),hT]
  simp
def jH(n a:Nat):List Int:=(List.replicate n 0).set a 1
theorem kI{n a:Nat}(ha:a<n)(i:Nat):nth (jH n a) i=if i=a then 1 else 0:=by
 unfold jH nth
 rw[List.getD_eq_getElem?_getD,List.getElem?_set]
 by_cases h:a=i
 ·subst h;simp[ha]
 ·rw[if_neg h,if_neg (λz=>h z.symm)]
  rw[List.getElem?_replicate]
  split <;> rfl
def dM(n:Nat):List (List Int):=(List.range n).map (jH n)
def aG(a b:List Int):Int:=(List.zipWith (· * ·) a b).sum
def d7(lists:List (List Int))(row:List Int):List (List Int):=
 match bU (lists.map (aG row)) with
 | none=>lists
 | some k=>(lists.eraseIdx k).map λone=>dJ one (aG row one) (lists.getD k []) (aG row (lists.getD k []))
def kH(rows:List (List Int))(n:Nat):List (List Int):=rows.foldl d7 (dM n)
def ba(rows:List (List Int))(n:Nat):List (List Int):=bM (kH rows n) n
theorem ye:∀(a b:List Int),aG a b=bh b.length λi=>nth a i*nth b i
 | _,[]=>by unfold aG;simp[bh]
 | [],b::r=>by
  unfold aG
  rw[fe λi _=>by unfold nth;simp]
  simp
 | a::l,b::r=>by
  have ih:=ye l r
  unfold aG at *
  rw[List.zipWith_cons_cons,List.sum_cons,ih,List.length_cons]
  have:∀(n:Nat) (f:Nat->Int),bh (n+1) f=f 0+bh n λi=>f (i+1):=by
   intro n f
   induction n with
   | zero=>simp[bh]
   | succ n ih2=>rw[bh,ih2,bh];omega
  rw[this]
  congr 1
theorem gX{n:Nat}{a b:List Int}(hb:b.length=n):aG a b=bZ n (nth a) (nth b):=by rw[ye,hb];rfl
theorem CZ{n:Nat}{a b:List Int}(ha:a.length=n)(hb:b.length=n):aG a b=aG b a:=by rw[gX hb,gX ha,bY]
structure SSt(n:Nat)(R lists:List (List Int)):Prop where
 len:∀l∈lists,l.length=n
 nul:∀r∈R,∀l∈lists,bZ n (nth r) (nth l)=0
 spn:∀x,dU n lists x->gQ n R x
theorem EA(n:Nat):SSt n [] (dM n):=by
 refine⟨λl hl=> ?_,λr hr=>by simp at hr,λx hx=>⟨1,by decide,[],rfl,λi hi=> ?_⟩⟩
 ·obtain⟨a,_,rfl⟩:=List.mem_map.mp hl
  unfold jH;simp
 ·have:=hx (jH n i) (List.mem_map.mpr ⟨i,List.mem_range.mpr hi,rfl⟩)
  unfold dy at this
  rw[je hi (λj _ hj=>by rw[kI hi,if_neg hj];omega),kI hi,if_pos rfl] at this
  rw[show fX [] [] i=0 from rfl]
  omega
theorem yc{n:Nat}{R lists:List (List Int)}{row:List Int}(hr:row.length=n)(s:SSt n R lists):SSt n (R++[row]) (d7 lists row):=by
 unfold d7
 split
 ·rename_i e
  have z:∀l∈lists,aG row l=0:=λl hl=>kY e _ (List.mem_map.mpr ⟨l,hl,rfl⟩)
  refine⟨s.len,λr hr' l hl=> ?_,λx hx=> ?_⟩
  ·rcases List.mem_append.mp hr' with q | q
   ·exact s.nul r q l hl
   ·rw[List.mem_singleton.mp q,<- gX (s.len l hl)];exact z l hl
  ·obtain⟨k,hk,T,hT,e⟩:=s.spn x hx
   exact⟨k,hk,T++[0],by simp[hT],λi hi=>by rw[pQ hT,e i hi];omega⟩
 ·rename_i k e
  obtain⟨k1,k2,_⟩:=eU e
  rw[List.length_map] at k1
  have hm:=getD_mem k1
  have hperm:lists.Perm (lists.getD k []::lists.eraseIdx k):=by
   rw[List.getD_eq_getElem?_getD,List.getElem?_eq_getElem k1]
   exact qa k1
  have hv:nth (lists.map (aG row)) k=aG row (lists.getD k []):=by
   unfold nth
   simp only[List.getD_eq_getElem?_getD,List.getElem?_map,List.getElem?_eq_getElem k1]
   rfl
  rw[hv] at k2
  generalize lists.getD k []=base at *
  have hbl:=s.len base hm
  have sub:∀l∈lists.eraseIdx k,l∈lists:=λl hl=>List.mem_of_mem_eraseIdx hl
  refine⟨λl hl=> ?_,λr hr' l hl=> ?_,λx hx=> ?_⟩
  ·obtain⟨q,hq,rfl⟩:=List.mem_map.mp hl
   rw[lY (by rw[hbl,s.len q (sub q hq)]),s.len q (sub q hq)]
  ·obtain⟨q,hq,rfl⟩:=List.mem_map.mp hl
   have hql:=s.len q (sub q hq)
   obtain⟨g,hg,e⟩:=t4 (n:=n) (one:=q) (other:=base) (by rw[hbl,hql]) (aG row q) (aG row base) (nth r)
   rw[bY]
   simp only[gJ] at e
   rw[bY n (nth q),bY n (nth base)] at e
   have z:g*bZ n (nth (dJ q (aG row q) base (aG row base))) (nth r)=0:=by
    rcases List.mem_append.mp hr' with q' | q'
    ·rw[e,s.nul r q' q (sub q hq),s.nul r q' base hm];omega
    ·rw[List.mem_singleton.mp q'] at e ⊢
     rw[e,<- gX hql,<- gX hbl]
     grind
   rcases Int.mul_eq_zero.mp z with z | z
   ·omega
   ·exact z
  ·have hc:∀l∈lists,aG row base*dy n l x=aG row l*dy n base x:=λl hl=>by
    rcases List.mem_cons.mp (hperm.mem_iff.mp hl) with rfl | hl'
    ·rfl
    ·obtain⟨g,hg,e⟩:=t4 (n:=n) (one:=l) (other:=base) (by rw[hbl,s.len l hl]) (aG row l) (aG row base) x
     rw[hx _ (List.mem_map.mpr ⟨l,hl',rfl⟩)] at e
     omega
   have hx':dU n lists (λi=>aG row base*x i+(-(dy n base x))*nth row i):=λl hl=>by
    rw[gJ,wj,<- gJ,hc l hl,bY,<- gX (s.len l hl)]
    grind
   obtain⟨k',hk',T,hT,e'⟩:=s.spn _ hx'
   refine⟨k'*aG row base,Int.mul_ne_zero hk' k2,T++[k'*dy n base x],by simp[hT],λi hi=> ?_⟩
   rw[pQ hT,<- e' i hi]
   grind
theorem uK{n:Nat}:∀{rows:List (List Int)},(∀r∈rows,r.length=n)->∀{R lists:List (List Int)},SSt n R lists->SSt n (R++rows) (rows.foldl d7 lists)
 | [],_,R,lists,s=>by simpa using s
 | row::rows,h,R,lists,s=>by
  have:=uK (rows:=rows) (λr hr=>h r (List.mem_cons_of_mem _ hr)) (yc (h row List.mem_cons_self) s)
  simpa using this
theorem nR{n:Nat}{rows:List (List Int)}(h:∀r∈rows,r.length=n):SSt n rows (kH rows n):=by
 have:=uK h (EA n)
 rw[List.nil_append] at this
 exact this
theorem ke{n:Nat}{rows:List (List Int)}(h:∀r∈rows,r.length=n):
 ∃P,ba rows n=P.map (·.2)/\Pl n P/\(∀r∈rows,∀l∈ba rows n,bZ n (nth l) (nth r)=0)/\∀x,dU n (ba rows n) x->gQ n rows x:=by
 have s:=nR h
 obtain⟨P,e,pl,_,nu⟩:=ig (n:=n) (rows:=kH rows n) s.len
 refine⟨P,e,pl,λr hr l hl=> ?_,λx hx=>s.spn x ((nu x).mp hx)⟩
 have:dU n (kH rows n) (nth r):=λl hl=>by rw[gJ,bY];exact s.nul r hr l hl
 exact(nu _).mpr this l hl
theorem m5{n:Nat}{rows:List (List Int)}(h:∀r∈rows,r.length=n)(x:Nat->Int):dU n (ba rows n) x↔gQ n rows x:=by
 obtain⟨P,_,_,h1,h2⟩:=ke h
 refine⟨h2 x,λs l hl=> ?_⟩
 rw[gJ,bY]
 exact s.dot λr hr=>by rw[gJ,bY];exact h1 r hr l hl
end M
set_option maxRecDepth 100000
set_option maxHeartbeats 4000000
namespace M
def gZ(P:List (Nat×List Int)):Int:=(P.map λp=>nth p.2 p.1).foldr (· * ·) 1
theorem uP:∀{P:List (Nat×List Int)},(∀p∈P,0<nth p.2 p.1)->0<gZ P
 | [],_=>by decide
 | p::P,h=>Int.mul_pos (h p List.mem_cons_self) (uP λq hq=>h q (List.mem_cons_of_mem _ hq))
theorem qk:∀{P:List (Nat×List Int)} {p:Nat×List Int},p∈P->nth p.2 p.1 ∣ gZ P
 | q::P,p,h=>by
  rcases List.mem_cons.mp h with rfl | h
  ·exact Int.dvd_mul_right _ _
  ·exact Int.dvd_trans (qk h) (Int.dvd_mul_left _ _)
def pE(P:List (Nat×List Int))(L:Int)(f i:Nat):Int:=(P.map λp=>if i=p.1 then nth p.2 f*(L/nth p.2 p.1) else 0).sum
def ic(P:List (Nat×List Int))(f i:Nat):Int:=(if i=f then gZ P else 0)-pE P (gZ P) f i
theorem ji{L:Int}{f i:Nat}:∀{P:List (Nat×List Int)},(∀p∈P,p.1≠i)->pE P L f i=0
 | [],_=>rfl
 | p::P,h=>by
  unfold pE
  rw[List.map_cons,List.sum_cons,if_neg (λz=>h p List.mem_cons_self z.symm)]
  have:=ji (L:=L) (f:=f) (i:=i) (P:=P) λq hq=>h q (List.mem_cons_of_mem _ hq)
  unfold pE at this
  omega
theorem tT{L:Int}{f:Nat}:∀{P:List (Nat×List Int)} {p:Nat×List Int},P.Pairwise (λp q=>p.1<q.1/\nth p.2 q.1=0)->p∈P->pE P L f p.1=nth p.2 f*(L/nth p.2 p.1)
 | q::P,p,pw,h=>by
  have h0:=List.pairwise_cons.mp pw
  rcases List.mem_cons.mp h with rfl | hp'
  ·have:=ji (L:=L) (f:=f) (i:=p.1) (P:=P) λr hr=>by have:=(h0.1 r hr).1;omega
   unfold pE at *
   rw[List.map_cons,List.sum_cons,if_pos rfl,this]
   omega
  ·have ih:=tT (L:=L) (f:=f) h0.2 hp'
   have:=(h0.1 p hp').1
   unfold pE at *
   rw[List.map_cons,List.sum_cons,if_neg (by omega),ih]
   omega
theorem Pl.other{n:Nat}{P:List (Nat×List Int)}(pl:Pl n P):∀{p q:Nat×List Int},p∈P->q∈P->p.1≠q.1->nth p.2 q.1=0:=by
 intro p q hp hq hne
 by_cases h:q.1<p.1
 ·exact(pl.good p hp).zero _ h
 ·have:∀{P:List (Nat×List Int)},P.Pairwise (λp q=>p.1<q.1/\nth p.2 q.1=0)->p∈P->q∈P->p.1<q.1->nth p.2 q.1=0:=by
   intro P pw hp hq hlt
   induction P with
   | nil=>cases hp
   | cons r P ih=>
    have h0:=List.pairwise_cons.mp pw
    rcases List.mem_cons.mp hp with rfl | hp
    ·rcases List.mem_cons.mp hq with rfl | hq
     ·omega
     ·exact(h0.1 q hq).2
    ·rcases List.mem_cons.mp hq with rfl | hq
     ·have:=(h0.1 p (by assumption)).1;omega
     ·exact ih h0.2 hp hq
  exact this pl.pw hp hq (by omega)
theorem FV{n f c:Nat}(hf:f<n)(hc:c<n)(hne:f≠c){g:Nat->Int}(h:∀i,i<n->i≠f->i≠c->g i=0):bh n g=g f+g c:=by
 have:bh n g=bh n (λi=>if i=f then g f else 0)+bh n (λi=>if i=c then g c else 0):=by
  rw[<- pB]
  refine cg λi hi=> ?_
  by_cases h1:i=f
  ·subst h1;rw[if_pos rfl,if_neg hne];omega
  ·by_cases h2:i=c
   ·subst h2;rw[if_neg h1,if_pos rfl];omega
   ·rw[if_neg h1,if_neg h2,h i hi h1 h2];rfl
 rw[this,je hf (λi _ hi=>by rw[if_neg hi]),je hc (λi _ hi=>by rw[if_neg hi]),if_pos rfl,if_pos rfl]
theorem wo{n:Nat}{P:List (Nat×List Int)}(pl:Pl n P){f:Nat}(hf:f<n)(hfree:∀p∈P,p.1≠f){p:Nat×List Int}(hp:p∈P){r:List Int}(hr:∀q∈P,q.1≠p.1->nth r q.1=0):
 dy n r (ic P f)=nth r f*gZ P-nth r p.1*(nth p.2 f*(gZ P/nth p.2 p.1)):=by
 unfold dy
 rw[FV hf (pl.good p hp).lt (λz=>hfree p hp z.symm) (λi _ h1 h2=> ?_)]
 ·have e1:ic P f f=gZ P:=by
   unfold ic;rw[if_pos rfl,ji hfree];omega
  have e2:ic P f p.1= -(nth p.2 f*(gZ P/nth p.2 p.1)):=by
   unfold ic;rw[if_neg (hfree p hp),tT pl.pw hp];omega
  rw[e1,e2];grind
 ·by_cases hq:∃q∈P,q.1=i
  ·obtain⟨q,hq,rfl⟩:=hq
   rw[hr q hq h2];omega
  ·have:ic P f i=0:=by
    unfold ic
    rw[if_neg h1,ji λq hq' z=>hq ⟨q,hq',z⟩];rfl
   rw[this];omega
theorem pM{n:Nat}{P:List (Nat×List Int)}(pl:Pl n P){f:Nat}(hf:f<n)(hfree:∀p∈P,p.1≠f):dU n (P.map (·.2)) (ic P f):=by
 intro r hr
 obtain⟨p,hp,rfl⟩:=List.mem_map.mp hr
 rw[wo pl hf hfree hp λq hq h=>pl.other hp hq λz=>h z.symm]
 have hd:=qk hp
 have hpos:=(pl.good p hp).pos
 obtain⟨k,hk⟩:=hd
 have:gZ P/nth p.2 p.1=k:=by rw[hk,Int.mul_ediv_cancel_left _ (by omega)]
 rw[this,hk];grind
theorem Cc{n:Nat}{P:List (Nat×List Int)}(pl:Pl n P){f:Nat}(hfree:∀p∈P,p.1≠f){i:Nat}(hi:f<i):ic P f i=0:=by
 unfold ic
 rw[if_neg (by omega)]
 by_cases hq:∃q∈P,q.1=i
 ·obtain⟨q,hq,rfl⟩:=hq
  rw[tT pl.pw hq,(pl.good q hq).zero f hi];omega
 ·rw[ji λq hq' z=>hq ⟨q,hq',z⟩];rfl
theorem Pl.leads_pos{n:Nat}{P:List (Nat×List Int)}(pl:Pl n P):0<gZ P:=uP λp hp=>(pl.good p hp).pos
theorem r9{n:Nat}{P Q:List (Nat×List Int)}(pl:Pl n P)(ql:Pl n Q)(h:∀x,dU n (Q.map (·.2)) x->dU n (P.map (·.2)) x){p:Nat×List Int}(hp:p∈P):∃q∈Q,q.1=p.1:=by
 apply Classical.byContradiction
 intro hn
 have hfree:∀q∈Q,q.1≠p.1:=λq hq z=>hn ⟨q,hq,z⟩
 have g:=pl.good p hp
 have:=h _ (pM ql g.lt hfree) p.2 (List.mem_map.mpr ⟨p,hp,rfl⟩)
 unfold dy at this
 rw[je g.lt λi _ hi=> ?_] at this
 ·have e:ic Q p.1 p.1=gZ Q:=by unfold ic;rw[if_pos rfl,ji hfree];omega
  rw[e] at this
  have h1:=ql.leads_pos
  have h2:=g.pos
  have:=Int.mul_pos h2 h1
  omega
 ·by_cases hlt:i<p.1
  ·rw[g.zero i hlt];omega
  ·rw[Cc ql hfree (by omega)];omega
theorem v5:∀{l m:List Nat},l.Pairwise (· < ·)->m.Pairwise (· < ·)->(∀x,x∈l↔x∈m)->l=m
 | [],[],_,_,_=>rfl
 | [],b::m,_,_,h=>by have:=(h b).mpr List.mem_cons_self;cases this
 | a::l,[],_,_,h=>by have:=(h a).mp List.mem_cons_self;cases this
 | a::l,b::m,hl,hm,h=>by
  have h1:=List.pairwise_cons.mp hl
  have h2:=List.pairwise_cons.mp hm
  have hab:a=b:=by
   rcases List.mem_cons.mp ((h a).mp List.mem_cons_self) with e | e
   ·exact e
   ·rcases List.mem_cons.mp ((h b).mpr List.mem_cons_self) with e' | e'
    ·exact e'.symm
    ·have:=h1.1 b e';have:=h2.1 a e;omega
  subst hab
  congr 1
  refine v5 h1.2 h2.2 λx=>⟨λhx=> ?_,λhx=> ?_⟩
  ·rcases List.mem_cons.mp ((h x).mp (List.mem_cons_of_mem _ hx)) with e | e
   ·have:=h1.1 x hx;omega
   ·exact e
  ·rcases List.mem_cons.mp ((h x).mpr (List.mem_cons_of_mem _ hx)) with e | e
   ·have:=h2.1 x hx;omega
   ·exact e
theorem xW(a:Int)(r:List Int):cM (r.map (a * ·))=a.natAbs*cM r:=by
 unfold cM
 have:∀(l:List Int) (c:Nat),(l.map (a * ·)).foldl (λc n=>Nat.gcd c n.natAbs) (a.natAbs*c)=a.natAbs*l.foldl (λc n=>Nat.gcd c n.natAbs) c:=by
  intro l
  induction l with
  | nil=>intro c;rfl
  | cons b l ih=>intro c;simp only[List.map_cons,List.foldl_cons,Int.natAbs_mul,Nat.gcd_mul_left];exact ih _
 exact this r 0
theorem oh{r s:List Int}(hl:r.length=s.length)(h:∀i,i<r.length->nth r i=nth s i):r=s:=by
 refine List.ext_getElem hl λi h1 h2=> ?_
 have:=h i h1
 unfold nth at this
 simpa[List.getD_eq_getElem?_getD,h1,h2] using this
theorem Bq{r s:List Int}(hl:r.length=s.length)(h1:cM r=1)(h2:cM s=1){a b:Int}(ha:0<a)(hb:0<b)(h:∀i,i<r.length->a*nth r i=b*nth s i):r=s:=by
 have e:r.map (a * ·)=s.map (b * ·):=oh (by simp[hl]) λi hi=>by
  rw[jU (by simp),jU (by simp)];exact h i (by simpa using hi)
 have e2:=xW a r
 rw[e,xW,h1,h2] at e2
 have hab:a=b:=by omega
 subst hab
 exact oh hl λi hi=>Int.eq_of_mul_eq_mul_left (by omega) (h i hi)
theorem BO{n:Nat}{P Q:List (Nat×List Int)}(pl:Pl n P)(ql:Pl n Q)(h:∀x,dU n (P.map (·.2)) x↔dU n (Q.map (·.2)) x):P=Q:=by
 have hf:P.map (·.1)=Q.map (·.1):=by
  refine v5 (List.pairwise_map.mpr (pl.pw.imp λh=>h.1)) (List.pairwise_map.mpr (ql.pw.imp λh=>h.1)) λx=>⟨λhx=> ?_,λhx=> ?_⟩
  ·obtain⟨p,hp,rfl⟩:=List.mem_map.mp hx
   obtain⟨q,hq,e⟩:=r9 pl ql (λx=>(h x).mpr) hp
   exact List.mem_map.mpr ⟨q,hq,e⟩
  ·obtain⟨p,hp,rfl⟩:=List.mem_map.mp hx
   obtain⟨q,hq,e⟩:=r9 ql pl (λx=>(h x).mp) hp
   exact List.mem_map.mpr ⟨q,hq,e⟩
 have key:∀p∈P,∀q∈Q,p.1=q.1->p.2=q.2:=λp hp q hq hpq=>by
  have gp:=pl.good p hp
  have gq:=ql.good q hq
  refine Bq (by rw[gp.len,gq.len]) gp.one gq.one (a:=nth q.2 q.1) (b:=nth p.2 p.1) gq.pos gp.pos λi hi=> ?_
  by_cases hpiv:∃p'∈P,p'.1=i
  ·obtain⟨p',hp',rfl⟩:=hpiv
   by_cases hc:p'.1=p.1
   ·rw[hc,<- hpq];grind
   ·obtain⟨q',hq',e⟩:=r9 pl ql (λx=>(h x).mpr) hp'
    rw[pl.other hp hp' (λz=>hc z.symm),<- e,ql.other hq hq' (by omega)];omega
  ·have hfree:∀p∈P,p.1≠i:=λp' hp' z=>hpiv ⟨p',hp',z⟩
   have hi':i<n:=by rw[gp.len] at hi;exact hi
   have:=(h _).mp (pM pl hi' hfree) q.2 (List.mem_map.mpr ⟨q,hq,rfl⟩)
   rw[wo pl hi' hfree hp (r:=q.2) λp' hp' hne=>by
    obtain⟨q',hq',e⟩:=r9 pl ql (λx=>(h x).mpr) hp'
    rw[<- e];exact ql.other hq hq' (by omega)] at this
   obtain⟨k,hk⟩:=qk hp
   have hpos:=gp.pos
   have e1:gZ P/nth p.2 p.1=k:=by rw[hk,Int.mul_ediv_cancel_left _ (by omega)]
   have hk0:k≠0:=λz=>by have:=pl.leads_pos;rw[hk,z] at this;omega
   rw[e1,hk,hpq] at this
   have:k*(nth q.2 q.1*nth p.2 i-nth p.2 p.1*nth q.2 i)=0:=by rw[hpq];grind
   rcases Int.mul_eq_zero.mp this with z | z
   ·exact absurd z hk0
   ·omega
 have hlen:P.length=Q.length:=by have:=congrArg List.length hf;simpa using this
 refine List.ext_getElem hlen λi h1 h2=> ?_
 have e1:P[i].1=Q[i].1:=by
  have:(P.map (·.1))[i]'(by simpa using h1)=(Q.map (·.1))[i]'(by simpa using h2):=by simp only[hf]
  simpa using this
 exact Prod.ext e1 (key _ (List.getElem_mem h1) _ (List.getElem_mem h2) e1)
theorem wM{n:Nat}{R S:List (List Int)}(hR:∀r∈R,r.length=n)(hS:∀r∈S,r.length=n)(h:∀x,dU n R x↔dU n S x):bM R n=bM S n:=by
 obtain⟨P,e1,p1,_,n1⟩:=ig hR
 obtain⟨Q,e2,p2,_,n2⟩:=ig hS
 have:P=Q:=BO p1 p2 λx=>by rw[<- e1,<- e2];exact(n1 x).trans ((h x).trans (n2 x).symm)
 rw[e1,e2,this]
theorem mT{n:Nat}{R:List (List Int)}(hR:∀r∈R,r.length=n):∀r∈bM R n,r.length=n:=by
 obtain⟨P,e1,p1,_⟩:=ig hR
 rw[e1]
 intro r hr
 obtain⟨p,hp,rfl⟩:=List.mem_map.mp hr
 exact(p1.good p hp).len
theorem sM{n:Nat}{R:List (List Int)}(hR:∀r∈R,r.length=n):bM (bM R n) n=bM R n:=by
 obtain⟨P,e1,p1,_,n1⟩:=ig hR
 exact wM (mT hR) hR n1
theorem kU{n:Nat}{R:List (List Int)}(hR:∀r∈R,r.length=n):∀r∈ba R n,r.length=n:=mT (nR hR).len
theorem oO{n:Nat}{R:List (List Int)}(hR:∀r∈R,r.length=n):ba (ba R n) n=bM R n:=by
 have hS:=kU hR
 obtain⟨P,_,_,h1,h2⟩:=ke hR
 obtain⟨Q,_,_,h3,h4⟩:=ke hS
 have hSS:=kU hS
 rw[<- sM hR]
 have:ba (ba R n) n=bM (ba (ba R n) n) n:=(sM (R:=kH (ba R n) n) (nR hS).len).symm
 rw[this]
 refine wM hSS (mT hR) λx=> ?_
 obtain⟨_,_,_,_,n1⟩:=ig hR
 rw[n1,m5 hS]
 constructor
 ·intro s r hr
  rw[gJ,bY]
  exact s.dot λl hl=>h1 r hr l hl
 ·intro hx
  refine h4 x λl hl=> ?_
  have:dU n (ba R n) (nth l):=λq hq=>by rw[gJ,bY];exact h3 q hq l hl
  exact(h2 _ this).dot hx
end M
set_option maxRecDepth 100000
set_option maxHeartbeats 4000000
namespace M
def SzL(b:Nat)(r:List Int):Prop:=∀x∈r,Sz b x
def eE(b:Nat)(R:List (List Int)):Prop:=∀r∈R,SzL b r
theorem SzL.mono{b c:Nat}{r:List Int}(h:SzL b r)(hbc:b<=c):SzL c r:=λx hx=>(h x hx).mono hbc
theorem eE.mono{b c:Nat}{r:List (List Int)}(h:eE b r)(hbc:b<=c):eE c r:=λx hx=>(h x hx).mono hbc
theorem Sz.zero(b:Nat):Sz b 0:=by unfold Sz;simp;exact Nat.two_pow_pos b
theorem SzL.nth{b:Nat}{r:List Int}(h:SzL b r)(i:Nat):Sz b (M.nth r i):=by
 by_cases hi:i<r.length
 ·exact h _ (sf hi)
 ·rw[lC (by omega)];exact Sz.zero b
theorem SzL.low{b:Nat}{r:List Int}(h:SzL b r):SzL b (M.low r):=by
 intro x hx
 unfold M.low at hx
 split at hx
 ·exact h x hx
 ·obtain⟨y,hy,rfl⟩:=List.mem_map.mp hx
  exact Nat.lt_of_le_of_lt (Int.natAbs_ediv_le_natAbs y _) (h y hy)
theorem SzL.mix{b1 b2 bv bw:Nat}{one other:List Int}{v w:Int}(h1:SzL b1 one)(h2:SzL b2 other)(hv:Sz bv v)(hw:Sz bw w):SzL (max (b1+bw) (b2+bv)+1) (ko one v other w):=by
 intro x hx
 unfold ko at hx
 obtain⟨i,hi,e⟩:=List.getElem_of_mem hx
 rw[List.getElem_zipWith] at e
 subst e
 exact Sz.sub (Sz.mul (h1 _ (List.getElem_mem _)) hw) (Sz.mul (h2 _ (List.getElem_mem _)) hv)
theorem SzL.off{b1 b2 bv bw:Nat}{one other:List Int}{v w:Int}(h1:SzL b1 one)(h2:SzL b2 other)(hv:Sz bv v)(hw:Sz bw w):SzL (max (b1+bw) (b2+bv)+1) (dJ one v other w):=(SzL.mix h1 h2 hv hw).low
theorem SzL.sgn{b:Nat}{r:List Int}(h:SzL b r)(a:Nat):SzL b (fo r a):=by
 unfold fo
 split
 ·exact h
 ·intro x hx
  obtain⟨y,hy,rfl⟩:=List.mem_map.mp hx
  exact(h y hy).neg
theorem SzL.clr{b:Nat}{row lead:List Int}(h1:SzL b row)(h2:SzL b lead)(a:Nat):SzL (2*b+1) (dX lead a row):=by
 unfold dX
 split
 ·exact h1.mono (by omega)
 ·exact(SzL.off h1 h2 (h1.nth a) (h2.nth a)).mono (by omega)
theorem qH{b a:Nat}{left done:List (List Int)}(h1:eE b left)(h2:eE b done):eE (2*b+1) (cT (left,done) a).1/\eE (2*b+1) (cT (left,done) a).2:=by
 unfold cT
 dsimp only
 split
 ·exact⟨h1.mono (by omega),h2.mono (by omega)⟩
 ·rename_i k e
  have k1:=(eU e).1
  rw[List.length_map] at k1
  have hl:SzL b (fo (left.getD k []) a):=SzL.sgn (h1 _ (getD_mem k1)) a
  refine⟨λr hr=> ?_,λr hr=> ?_⟩
  ·obtain⟨q,hq,rfl⟩:=List.mem_map.mp hr
   exact SzL.clr (h1 q (List.mem_of_mem_eraseIdx hq)) hl a
  ·rcases List.mem_append.mp hr with hr | hr
   ·obtain⟨q,hq,rfl⟩:=List.mem_map.mp hr
    exact SzL.clr (h2 q hq) hl a
   ·rw[List.mem_singleton.mp hr];exact hl.mono (by omega)
def grow(b p:Nat):Nat:=2^p*(b+1)-1
theorem DQ(b:Nat):grow b 0=b:=by unfold grow;simp
theorem v7(b p:Nat):2*grow b p+1=grow b (p+1):=by
 unfold grow
 have h:0<2^p*(b+1):=Nat.mul_pos (Nat.two_pow_pos p) (Nat.succ_pos b)
 have e:2^(p+1)*(b+1)=2*(2^p*(b+1)):=by rw[Nat.pow_succ,Nat.mul_comm (2^p) 2,Nat.mul_assoc]
 rw[e]
 omega
theorem qG{b p q:Nat}(h:p<=q):grow b p<=grow b q:=by
 unfold grow
 have:2^p*(b+1)<=2^q*(b+1):=Nat.mul_le_mul_right _ (Nat.pow_le_pow_right (by decide) h)
 omega
theorem qt{a:Nat}{left done:List (List Int)}:((cT (left,done) a)=(left,done))\/(cT (left,done) a).2.length=done.length+1:=by
 unfold cT
 dsimp only
 split
 ·exact .inl rfl
 ·exact .inr (by simp)
structure PSz(n b a:Nat)(rows:List (List Int))(left done:List (List Int)):Prop where
 eq:(List.range a).foldl cT (rows.map low,[])=(left,done)
 ll:∀r∈left,r.length=n
 dl:∀r∈done,r.length=n
 cnt:left.length+done.length=rows.length
 ls:eE (grow b done.length) left
 ds:eE (grow b done.length) done
theorem PSz.start{n b:Nat}{rows:List (List Int)}(hl:∀r∈rows,r.length=n)(hs:eE b rows):PSz n b 0 rows (rows.map low) []:=by
 refine⟨rfl,λr hr=> ?_,by simp,by simp,λr hr=> ?_,λr hr=>by cases hr⟩
 ·obtain⟨q,hq,rfl⟩:=List.mem_map.mp hr
  rw[low_length];exact hl q hq
 ·obtain⟨q,hq,rfl⟩:=List.mem_map.mp hr
  rw[List.length_nil,DQ]
  exact(hs q hq).low
theorem PSz.step{n b a:Nat}{rows left done:List (List Int)}(h:PSz n b a rows left done)(hl:∀r∈rows,r.length=n)(ha:a<n):PSz n b (a+1) rows (cT (left,done) a).1 (cT (left,done) a).2:=by
 have eq':(List.range (a+1)).foldl cT (rows.map low,[])=cT (left,done) a:=by
  rw[List.range_succ,List.foldl_append,h.eq];rfl
 obtain⟨l',P',e,s,c,_⟩:=tS (n:=n) (left:=rows.map low) (λr hr=>by
  obtain⟨q,hq,rfl⟩:=List.mem_map.mp hr
  rw[low_length];exact hl q hq) (λr hr=>by
  obtain⟨q,hq,rfl⟩:=List.mem_map.mp hr
  exact qc q) (a+1) (by omega)
 rw[eq'] at e
 refine⟨eq',λr hr=> ?_,λr hr=> ?_, ?_, ?_, ?_⟩
 ·rw[e] at hr;exact s.ll r hr
 ·rw[e] at hr
  obtain⟨p,hp,rfl⟩:=List.mem_map.mp hr
  exact(s.pl.good p hp).len
 ·rw[e];simp;simpa using c
 ·rcases qt (a:=a) (left:=left) (done:=done) with q | q
  ·rw[q];exact h.ls
  ·rw[q,<- v7];exact(qH h.ls h.ds).1
 ·rcases qt (a:=a) (left:=left) (done:=done) with q | q
  ·rw[q];exact h.ds
  ·rw[q,<- v7];exact(qH h.ls h.ds).2
theorem PSz.done{n b:Nat}{rows left done:List (List Int)}(h:PSz n b n rows left done):bM rows n=done:=by unfold bM;rw[h.eq]
theorem DK{n b:Nat}{rows:List (List Int)}(hl:∀r∈rows,r.length=n)(hs:eE b rows):eE (grow b rows.length) (bM rows n):=by
 have:∀a,a<=n->∃left done,PSz n b a rows left done:=by
  intro a
  induction a with
  | zero=>exact λ_=>⟨_,_,PSz.start hl hs⟩
  | succ a ih=>
   intro ha
   obtain⟨l,d,h⟩:=ih (by omega)
   exact⟨_,_,h.step hl (by omega)⟩
 obtain⟨l,d,h⟩:=this n (Nat.le_refl n)
 rw[h.done]
 exact h.ds.mono (qG (by have:=h.cnt;omega))
end M
set_option maxRecDepth 100000
set_option maxHeartbeats 4000000
namespace M
open PySem PySem.Spec PyProof.Rows L2
section
variable {s s1 : S} {d : D}
@[simp] theorem Mh (m:AM) (s:S):rB m s=(m s).bind λx=>match x.1 with
 | [.lst as,.lst bs]=>.ok ((lB as bs,none),x.2)
 | _=>.bad:=rfl
@[simp] theorem mJ (m:AM) (s:S):dv m s=(m s).bind λx=>match x.1 with
 | [.lst as]=>.ok ((dq as,none),x.2)
 | _=>.bad:=rfl
@[simp] theorem HU (m:EM) (s:S):Ci m s=(m s).bind λx=>match x.1 with
 | .str z=>.ok ((nH z,none),x.2)
 | _=>.bad:=rfl
@[simp] theorem Dh (f g:Op2) (a b c:EM) (s:S):qN f g a b c s=(a s).bind λx=>(b x.2).bind λy=>(f y.2.o x.1 y.1).bind λz=>match z with
 | .bl true=>(c y.2).bind λw=>(g w.2.o y.1 w.1).bind λd=>.ok (d,w.2)
 | .bl false=>.ok (.bl false,y.2)
 | _=>.bad:=rfl
@[simp] theorem Gd (n:Nat) (f:FM) (m:AM) (s:S):jY n f m s=(m s).bind λx=>if x.1.length=n then (match f x.1 x.2.o with
 | .ok (d,O1)=>.ok (d,⟨x.2.r,O1⟩)
 | _=>.bad) else .bad:=rfl
@[simp] theorem L4 (m:EM) (s:S):LK m s=(m s).bind λx=>match lsD x.2.o x.1 with
 | some ds=>.ok (!ds.isEmpty,x.2)
 | none=>.bad:=rfl
@[simp] theorem GV (fin:S->List D->Res (D×S)) (ma:AM) (mk:EM) (s:S):yU fin ma mk s=(ma s).bind λx=>if x.1.length<=16777216 then (mk x.2).bind λy=>match y.1 with
 | .int k=>if (-(2^63)<=k/\k<2^63)/\x.1.length*k.toNat<=16777216 then fin y.2 (BF k x.1) else .bad
 | _=>.bad
 else .bad:=rfl
@[simp] theorem Mc (s:S) (ds:List D):Cs s ds=.ok (.lst ds,s):=rfl
@[simp] theorem HA (s:S) (ds:List D):Cq s ds=.ok (.ptr s.o.length,⟨s.r,s.o++[.lst ds]⟩):=rfl
@[simp] theorem Mm (O:ax):isD O .non .non=.ok (.bl true):=rfl
@[simp] theorem Mo (O:ax) (i:Int):isD O (.int i) .non=.ok (.bl false):=rfl
@[simp] theorem Me (O:ax) (i:List D):isD O (.lst i) .non=.ok (.bl false):=rfl
@[simp] theorem Ms (O:ax) (i:List D):isD O (.tup i) .non=.ok (.bl false):=rfl
@[simp] theorem BH (O:ax):n9 O .non .non=.ok (.bl false):=rfl
@[simp] theorem Cn (O:ax) (i:Int):n9 O (.int i) .non=.ok (.bl true):=rfl
@[simp] theorem K9 (O:ax) (i:List D):n9 O (.lst i) .non=.ok (.bl true):=rfl
@[simp] theorem K4 (O:ax) (i:List D):n9 O (.tup i) .non=.ok (.bl true):=rfl
@[simp] theorem nF (g h:GM) (a b:D) (s:S):cH (aQ g (aQ h cN)) 2 (.tup [a,b]) s=(g a s).bind λs1=>h b s1:=by
 show (g a s).bind (λs1=>(h b s1).bind λs2=>.ok s2)=_
 congr 1
 funext s1
 cases h b s1 <;> rfl
@[simp] theorem Ar (ns:List Int):gI (ns.map D.int)=some ns:=by
 induction ns with
 | nil=>rfl
 | cons n ns ih=>rw[List.map_cons,gI,ih];rfl
@[simp] theorem sY (ns:List Bool):jN (ns.map D.bl)=some ns:=by
 induction ns with
 | nil=>rfl
 | cons n ns ih=>rw[List.map_cons,jN,ih];rfl
@[simp] theorem oA (O:ax) (ns:List Int):qQ O [.lst (ns.map D.int)]=.ok (.int ns.sum):=by
 show (match gI (ns.map D.int) with
  | some ns=>Res.ok (D.int ns.sum)
  | none=>.bad)=_
 rw[Ar]
@[simp] theorem tY (O:ax) (ns:List Bool):vq O [.lst (ns.map D.bl)]=.ok (.bl (ns.all id)):=by
 show (match jN (ns.map D.bl) with
  | some ns=>Res.ok (D.bl (ns.all id))
  | none=>.bad)=_
 rw[sY]
@[simp] theorem LU (O:ax) (ns:List Bool):Ly O [.lst (ns.map D.bl)]=.ok (.bl (ns.any id)):=by
 show (match jN (ns.map D.bl) with
  | some ns=>Res.ok (D.bl (ns.any id))
  | none=>.bad)=_
 rw[sY]
end
theorem oN {α:Type} {ok:ax->Prop} {g:GM} {c:TM} {e:EM} {O:ax} (hok:ok O) (item:α->D) (P:S->Prop) (hP:∀s,P s->s.o=O) (l:List α) (p:α->Bool) (out:α->D)
 (step:∀a∈l,∀s,P s->∃s1 s2,g (item a) s=.ok s1/\c s1=.ok (p a,s2)/\(p a=false->P s2)/\(p a=true->∃s3,e s2=.ok (out a,s3)/\P s3)):
 ∀(acc:List D) (s:S),acc.length+l.length<=16777216->P s->∃s',cW ok g c e (l.map item) acc s=.ok (acc++(l.filter p).map out,s')/\P s':=by
 induction l with
 | nil=>
  intro acc s _ h
  exact⟨s,by rw[List.map_nil,cW,if_pos (by rw[hP s h];exact hok)];simp,h⟩
 | cons a l ih=>
  intro acc s hl h
  rw[List.length_cons] at hl
  obtain⟨s1,s2,e1,e2,h2,h3⟩:=step a List.mem_cons_self s h
  rw[List.map_cons,cW,if_pos ⟨by rw[hP s h];exact hok,by omega⟩,e1,ai,e2,ai]
  cases hp:p a with
  | false=>
   obtain⟨s',e3,h4⟩:=ih (λb hb=>step b (List.mem_cons_of_mem _ hb)) acc s2 (by omega) (h2 hp)
   refine⟨s', ?_,h4⟩
   rw[List.filter_cons_of_neg (by simp[hp])]
   simpa using e3
  | true=>
   obtain⟨s3,e3,h4⟩:=h3 hp
   obtain⟨s',e5,h5⟩:=ih (λb hb=>step b (List.mem_cons_of_mem _ hb)) (acc++[out a]) s3 (by rw[List.length_append,List.length_singleton];omega) h4
   refine⟨s', ?_,h5⟩
   rw[List.filter_cons_of_pos hp]
   simp only[if_true,e3,ai,e5]
   simp
section
variable {α : Type} {caps : List Nat} {im : IM} {c : TM} {e : EM} {s : S} {k : Option Nat} {l : List α} {item out : α → D} {p : α → Bool}
theorem zx (him:im s=.ok ((l.map item,k),s)) (hok:okC (l.map item) k s.o) (hl:l.length<=16777216)
 (hc:∀a∈l,c ⟨some (item a)::caps.map (λi=>(s.r[i]?).getD none),s.o⟩=.ok (p a,⟨some (item a)::caps.map (λi=>(s.r[i]?).getD none),s.o⟩))
 (he:∀a∈l,p a=true->e ⟨some (item a)::caps.map (λi=>(s.r[i]?).getD none),s.o⟩=.ok (out a,⟨some (item a)::caps.map (λi=>(s.r[i]?).getD none),s.o⟩)):
 lP 1 caps im (aA 0) c e s=.ok ((l.filter p).map out,s):=by
 obtain⟨s',e1,x,h1⟩:=oN (ok:=okC (l.map item) k) (g:=aA 0) (c:=c) (e:=e) (O:=s.o) hok item (λs2=>∃x,s2=⟨x::caps.map (λi=>(s.r[i]?).getD none),s.o⟩) (by rintro _ ⟨_,rfl⟩;rfl) l p out (by
  rintro a ha _ ⟨x,rfl⟩
  exact⟨_,_,rfl,hc a ha,λ_=>⟨_,rfl⟩,λhp=>⟨_,he a ha hp,_,rfl⟩⟩) [] ⟨lL 1 caps s.r,s.o⟩ (by simpa using hl) ⟨none,rfl⟩
 rw[qe,him,ai]
 dsimp only
 rw[e1,ai]
 subst h1
 rfl
theorem Jn {f g:α->D} (him:im s=.ok ((l.map (λa=>D.tup [f a,g a]),k),s)) (hok:okC (l.map (λa=>D.tup [f a,g a])) k s.o) (hl:l.length<=16777216)
 (hc:∀a∈l,c ⟨some (f a)::some (g a)::caps.map (λi=>(s.r[i]?).getD none),s.o⟩=.ok (p a,⟨some (f a)::some (g a)::caps.map (λi=>(s.r[i]?).getD none),s.o⟩))
 (he:∀a∈l,p a=true->e ⟨some (f a)::some (g a)::caps.map (λi=>(s.r[i]?).getD none),s.o⟩=.ok (out a,⟨some (f a)::some (g a)::caps.map (λi=>(s.r[i]?).getD none),s.o⟩)):
 lP 2 caps im (cH (aQ (aA 0) (aQ (aA 1) cN)) 2) c e s=.ok ((l.filter p).map out,s):=by
 obtain⟨s',e1,x,y,h1⟩:=oN (ok:=okC (l.map (λa=>D.tup [f a,g a])) k) (g:=cH (aQ (aA 0) (aQ (aA 1) cN)) 2) (c:=c) (e:=e) (O:=s.o) hok (λa=>D.tup [f a,g a]) (λs2=>∃x y,s2=⟨x::y::caps.map (λi=>(s.r[i]?).getD none),s.o⟩) (by rintro _ ⟨_,_,rfl⟩;rfl) l p out (by
  rintro a ha _ ⟨x,y,rfl⟩
  exact⟨_,_,by simp,hc a ha,λ_=>⟨_,_,rfl⟩,λhp=>⟨_,he a ha hp,_,_,rfl⟩⟩) [] ⟨lL 2 caps s.r,s.o⟩ (by simpa using hl) ⟨none,none,rfl⟩
 rw[qe,him,ai]
 dsimp only
 rw[e1,ai]
 subst h1
 rfl
theorem lT(l:List α):l.filter (λ_=>true)=l:=by simp
theorem eX (him:im s=.ok ((l.map item,k),s)) (hok:okC (l.map item) k s.o) (hl:l.length<=16777216)
 (he:∀a∈l,e ⟨some (item a)::caps.map (λi=>(s.r[i]?).getD none),s.o⟩=.ok (out a,⟨some (item a)::caps.map (λi=>(s.r[i]?).getD none),s.o⟩)):
 cO 1 caps im (aA 0) cE e s=.ok (.lst (l.map out),s):=by
 rw[pT,zx (p:=λ_=>true) him hok hl (λ_ _=>rfl) (λa ha _=>he a ha),ai,lT]
theorem A7 (him:im s=.ok ((l.map item,k),s)) (hok:okC (l.map item) k s.o) (hl:l.length<=16777216)
 (hc:∀a∈l,c ⟨some (item a)::caps.map (λi=>(s.r[i]?).getD none),s.o⟩=.ok (p a,⟨some (item a)::caps.map (λi=>(s.r[i]?).getD none),s.o⟩))
 (he:∀a∈l,p a=true->e ⟨some (item a)::caps.map (λi=>(s.r[i]?).getD none),s.o⟩=.ok (out a,⟨some (item a)::caps.map (λi=>(s.r[i]?).getD none),s.o⟩)):
 cO 1 caps im (aA 0) c e s=.ok (.lst ((l.filter p).map out),s):=by
 rw[pT,zx him hok hl hc he,ai]
theorem zj {f g:α->D} (him:im s=.ok ((l.map (λa=>D.tup [f a,g a]),k),s)) (hok:okC (l.map (λa=>D.tup [f a,g a])) k s.o) (hl:l.length<=16777216)
 (he:∀a∈l,e ⟨some (f a)::some (g a)::caps.map (λi=>(s.r[i]?).getD none),s.o⟩=.ok (out a,⟨some (f a)::some (g a)::caps.map (λi=>(s.r[i]?).getD none),s.o⟩)):
 cO 2 caps im (cH (aQ (aA 0) (aQ (aA 1) cN)) 2) cE e s=.ok (.lst (l.map out),s):=by
 rw[pT,Jn (p:=λ_=>true) him hok hl (λ_ _=>rfl) (λa ha _=>he a ha),ai,lT]
theorem DI (him:im s=.ok ((l.map item,k),s)) (hok:okC (l.map item) k s.o) (hl:l.length<=16777216)
 (he:∀a∈l,e ⟨some (item a)::caps.map (λi=>(s.r[i]?).getD none),s.o⟩=.ok (out a,⟨some (item a)::caps.map (λi=>(s.r[i]?).getD none),s.o⟩)):
 md 1 caps im (aA 0) cE e s=.ok (.ptr s.o.length,⟨s.r,s.o++[.lst (l.map out)]⟩):=by
 rw[zt,zx (p:=λ_=>true) him hok hl (λ_ _=>rfl) (λa ha _=>he a ha),ai,lT]
end
abbrev vI(r:List Int):D:=.lst (r.map .int)
abbrev vII(R:List (List Int)):D:=.lst (R.map vI)
@[simp] theorem mx (R:List (List Int)):aL (R.map vI)=true:=by
 induction R with
 | nil=>rfl
 | cons r R ih=>simp[ih]
theorem ot(as bs:List Int):lB (as.map D.int) (bs.map D.int)=(as.zip bs).map λp=>.tup [.int p.1,.int p.2]:=by
 unfold lB
 rw[List.zipWith_map,List.zip_eq_zipWith,List.map_zipWith]
theorem ui(as:List Int):dq (as.map D.int)=as.zipIdx.map λp=>.tup [.int (p.2:Int),.int p.1]:=by
 unfold dq
 rw[List.mapIdx_eq_zipIdx_map,List.zipIdx_map,List.map_map]
 rfl
theorem E4(as:List (List Int)):dq (as.map vI)=as.zipIdx.map λp=>.tup [.int (p.2:Int),vI p.1]:=by
 unfold dq
 rw[List.mapIdx_eq_zipIdx_map,List.zipIdx_map,List.map_map]
 rfl
theorem mW{O:ax}{r:List Int}{i:Nat}(h:i<r.length):ixD O (vI r) (.int (i:Int))=.ok (.int (nth r i)):=by
 refine o5 ?_
 rw[ny (by omega) (by simpa using h)]
 simp[nth,List.getD_eq_getElem?_getD,h]
theorem D0{O:ax}{R:List (List Int)}{i:Nat}(h:i<R.length):ixD O (vII R) (.int (i:Int))=.ok (vI (R.getD i [])):=by
 refine o5 ?_
 rw[ny (by omega) (by simpa using h)]
 simp[List.getD_eq_getElem?_getD,h]
theorem jT(n:Nat):dw 0 (n:Int)=(List.range n).map λi=>.int (i:Int):=by
 unfold dw
 simp
theorem rR{n:Nat}(h:n<=1000000):n<=16777216:=Nat.le_trans h (by decide)
theorem zip_map{f:Int->Int->Int}:∀(a b:List Int),(a.zip b).map (λp=>f p.1 p.2)=List.zipWith f a b
 | [],_=>by simp
 | _::_,[]=>by simp
 | x::a,y::b=>by simp[zip_map a b]
theorem ID(a b:List Int):(a.zip b).map (λp=>p.1*p.2)=List.zipWith (· * ·) a b:=zip_map a b
theorem DW(n:Nat):BF (n:Int) [.int 0]=(List.replicate n (0:Int)).map D.int:=by
 unfold BF
 rw[show (n:Int).toNat=n from Int.toNat_natCast n]
 induction n with
 | zero=>rfl
 | succ n ih=>rw[List.replicate_succ,List.flatten_cons,ih];simp[List.replicate_succ]
theorem tm{mo mi:EM}{d:D}{s s1 s2:S}{k a:Nat}{ds:List D}(h1:mo s=.ok (.ptr k,s1))(h2:mi s1=.ok (.int (a:Int),s2))(h3:s2.o[k]? =some (.lst ds))(ha:a<ds.length):
 oQ mo mi d s=.ok ⟨s2.r,s2.o.set k (.lst (ds.set a d))⟩:=by
 unfold oQ
 rw[h1,ai]
 dsimp only
 rw[h2,ai]
 dsimp only
 rw[jn h3]
 dsimp only
 have e:ixN ds.length (a:Int)=some a:=by
  unfold ixN
  rw[if_pos (by omega),if_pos (by omega)]
  simp
 rw[e]
theorem iL{m:EM}{i:Nat}{s s':S}{d:D}(h:m s=.ok (d,s')):setM i m s=.next ⟨s'.r.set i (some d),s'.o⟩:=by
 show ((m s).bind _).out _=_
 rw[h];rfl
theorem bI{m:EM}{s s':S}{d:D}(h:m s=.ok (d,s')):bH m s=.ret d s':=by
 show (m s).out _=_
 rw[h];rfl
theorem BY{c:TM}{a b:SM}{s s':S}(h:c s=.ok (true,s')):ifS c a b s=a s':=by
 show (c s).out _=_
 rw[h];rfl
theorem lS{c:TM}{a b:SM}{s s':S}(h:c s=.ok (false,s')):ifS c a b s=b s':=by
 show (c s).out _=_
 rw[h];rfl
theorem cL{a b:SM}{s s':S}(h:a s=.next s'):aJ a b s=b s':=by
 show (a s).then b=_
 rw[h];rfl
theorem nV{a b:SM}{s s':S}{d:D}(h:a s=.ret d s'):aJ a b s=.ret d s':=by
 show (a s).then b=_
 rw[h];rfl
theorem K0{fin:S->List D->Res (D×S)}{mk:EM}{s:S}{n:Nat}(h:mk s=.ok (.int (n:Int),s))(hn:n<=1000000):yU fin (ab (ao (.int 0)) ak) mk s=fin s ((List.replicate n (0:Int)).map D.int):=by
 rw[GV,bb,aB,ai,aI,ai,ai]
 dsimp only
 rw[if_pos (by decide),h,ai]
 dsimp only
 rw[if_pos ⟨⟨by omega,by omega⟩,by simp;omega⟩,DW]
theorem cq{n:Nat}{f:FM}{ma:AM}{s s':S}{ds:List D}{d:D}{O:ax}(h:ma s=.ok (ds,s'))(hp:aL ds=true)(hl:ds.length=n)(hf:f ds []=.ok (d,O))(hd:cI d=true):aO n f ma s=.ok (d,s'):=by
 rw[Gg,h,ai,if_pos ⟨hp,hl⟩]
 dsimp only
 rw[hf]
 dsimp only
 rw[if_pos hd]
theorem Fe{n:Nat}{f:FM}{ma:AM}{s s':S}{ds:List D}{d:D}{O:ax}(h:ma s=.ok (ds,s'))(hl:ds.length=n)(hf:f ds s'.o=.ok (d,O)):jY n f ma s=.ok (d,⟨s'.r,O⟩):=by
 rw[Gd,h,ai,if_pos hl]
 dsimp only
 rw[hf]
theorem Hg{mo me:EM}{s s1 s2:S}{k i:Nat}{ds0 ds:List D}(h1:mo s=.ok (.ptr k,s1))(c1:s1.o[k]? =some (.lst ds0))(h2:me s1=.ok (.int (i:Int),s2))(c2:s2.o[k]? =some (.lst ds))(hi:i<ds.length)(hb:i<=1000000):
 zC mo me s=.ok (ds[i],⟨s2.r,s2.o.set k (.lst (ds.eraseIdx i))⟩):=by
 unfold zC
 rw[h1,ai]
 dsimp only
 rw[jn c1]
 dsimp only
 rw[h2,ai]
 dsimp only
 rw[jn c2]
 dsimp only
 have e:seqIndex? (i:Int) ds.length=some i:=by
  have hneg:¬((i:Int)<0):=by omega
  simp only[seqIndex?,hneg,if_false]
  simp[hi]
 rw[if_pos ⟨by omega,by omega⟩,e]
 dsimp only
 rw[List.getElem?_eq_getElem hi]
theorem vk{mo me:EM}{s s1 s2:S}{k:Nat}{ds0 ds:List D}{d:D}(h1:mo s=.ok (.ptr k,s1))(c1:s1.o[k]? =some (.lst ds0))(h2:me s1=.ok (d,s2))(c2:s2.o[k]? =some (.lst ds))(hb:ds.length<=1000000):
 kn mo me s=.ok (.non,⟨s2.r,s2.o.set k (.lst (ds++[d]))⟩):=by
 rw[G4,h1,ai]
 dsimp only
 rw[jn c1]
 dsimp only
 rw[h2,ai]
 dsimp only
 rw[jn c2]
 dsimp only
 rw[if_pos (by omega)]
theorem cZ{m:EM}{s s':S}{d:D}(h:m s=.ok (d,s')):dR m s=.next s':=by
 show (m s).out _=_
 rw[h];rfl
theorem Hi{m:EM}{s s':S}{k:Nat}{ds:List D}(h:m s=.ok (.ptr k,s'))(c:s'.o[k]? =some (.lst ds)):jx m s=.ok (.lst ds,⟨s'.r,s'.o.set k .dead⟩):=by
 rw[Ig,h,ai]
 dsimp only
 rw[jn c]
theorem jg{m:EM}{s s':S}{k:Nat}{ds:List D}(h:m s=.ok (.ptr k,s'))(c:s'.o[k]? =some (.lst ds)):listI m s=.ok ((ds,some k),s'):=by
 rw[fQ,h,ai]
 dsimp only
 rw[Ao c,ai]
theorem cB{O:ax}{k j:Nat}{c:Cell}(h:k≠j):(O.set k c)[j]? =O[j]? :=List.getElem?_set_ne h
theorem gK{O:ax}{k:Nat}{c c':Cell}(h:O[k]? =some c'):(O.set k c)[k]? =some c:=by
 rw[List.getElem?_set_self (List.getElem?_eq_some_iff.mp h).1]
theorem cy{O E:ax}{k:Nat}{c:Cell}(h:O[k]? =some c):(O++E)[k]? =some c:=by
 rw[List.getElem?_append_left (List.getElem?_eq_some_iff.mp h).1];exact h
theorem eZ{O:ax}{c:Cell}:(O++[c])[O.length]? =some c:=by simp
theorem nU{O:ax}{k:Nat}{c:Cell}(h:O[k]? =some c):k<O.length:=(List.getElem?_eq_some_iff.mp h).1
theorem yg{b:Nat}(hb:b<=60000000){x y:Int}(hx:Sz b x)(hy:Sz b y):IntMulOk x y:=jt hb hb hx hy
theorem qE{α β:Type}(f:α->β):∀(l:List α) (k:Nat),(l.map f).eraseIdx k=(l.eraseIdx k).map f
 | [],_=>rfl
 | _::_,0=>rfl
 | a::l,k+1=>by simp[qE f l k]
theorem kz(r:List Int):aL [vI r]=true:=by simp
theorem uD{α β:Type}(g:α->β)(k:Nat):∀(l:List α) (j:Nat),((l.zipIdx j).filter (λp=> !decide (p.2=j+k))).map (λp=>g p.1)=(l.eraseIdx k).map g:=by
 induction k with
 | zero=>
  intro l j
  cases l with
  | nil=>rfl
  | cons a l=>
   rw[List.zipIdx_cons,List.filter_cons_of_neg (by simp),List.eraseIdx_cons_zero]
   have:∀(l:List α) (i:Nat),j<i->((l.zipIdx i).filter (λp=> !decide (p.2=j+0))).map (λp=>g p.1)=l.map g:=by
    intro l
    induction l with
    | nil=>intro i _;rfl
    | cons b l ih=>
     intro i hi
     rw[List.zipIdx_cons,List.filter_cons_of_pos (by simp;omega),List.map_cons,List.map_cons,ih (i+1) (by omega)]
   exact this l (j+1) (by omega)
 | succ k ih=>
  intro l j
  cases l with
  | nil=>rfl
  | cons a l=>
   rw[List.zipIdx_cons,List.filter_cons_of_pos (by simp),List.eraseIdx_cons_succ,List.map_cons,List.map_cons]
   congr 1
   have:=ih l (j+1)
   rw[show j+1+k=j+(k+1) by omega] at this
   exact this
theorem yn{α β:Type}(l:List α)(k:Nat)(g:α->β):(l.zipIdx.filter (λp=> !decide (p.2=k))).map (λp=>g p.1)=(l.eraseIdx k).map g:=by
 have:=uD g k l 0
 rw[Nat.zero_add] at this
 exact this
theorem Ki{b:Nat}:∀(l:List Int) (k:Nat),(∀x∈l,x.natAbs<2^b)->l.length<=2^k->l.sum.natAbs<=l.length*2^b:=by
 intro l k h _
 induction l with
 | nil=>simp
 | cons a l ih=>
  rw[List.sum_cons,List.length_cons,Nat.succ_mul]
  have h1:=h a List.mem_cons_self
  have h2:=ih (λx hx=>h x (List.mem_cons_of_mem _ hx)) (by simp at *;omega)
  have:=Int.natAbs_add_le a l.sum
  omega
theorem zE{b c:Nat}{row l:List Int}(hr:SzL c row)(hl:SzL b l)(hn:row.length<=1000):Sz (b+c+10) (aG row l):=by
 unfold aG
 have h:∀x∈List.zipWith (· * ·) row l,x.natAbs<2^(c+b):=λx hx=>by
  obtain⟨i,hi,e⟩:=List.getElem_of_mem hx
  rw[List.getElem_zipWith] at e
  subst e
  exact Sz.mul (hr _ (List.getElem_mem _)) (hl _ (List.getElem_mem _))
 have h2:=Ki (List.zipWith (· * ·) row l) 10 h (by rw[List.length_zipWith];simp;omega)
 unfold Sz
 have h3:(List.zipWith (· * ·) row l).length<=1000:=by rw[List.length_zipWith];omega
 have h4:(List.zipWith (· * ·) row l).length*2^(c+b)<=1000*2^(c+b):=Nat.mul_le_mul_right _ h3
 have h5:2^(b+c+10)=1024*2^(c+b):=by rw[Nat.pow_add,Nat.add_comm b c,Nat.mul_comm]
 have h6:0<2^(c+b):=Nat.two_pow_pos _
 rw[h5]
 omega
theorem Jr{a b:List Int}(h:vI a=vI b):a=b:=by
 injection h with h
 exact(List.map_inj_right (λx y e=>by cases e;rfl)).mp h
theorem Fj{n:Nat}{f:FM}{ma:AM}{s s':S}{ds:List D}{d:D}{O1:ax}(h:ma s=.ok (ds,s'))(hp:aL ds=true)(hl:ds.length=n)(hf:f ds []=.ok (d,O1)):gE n f ma s=.ok (shD s'.o.length d,⟨s'.r,s'.o++O1.map (shC s'.o.length)⟩):=by
 rw[EO,h,ai,if_pos ⟨hp,hl⟩]
 dsimp only
 rw[hf]
theorem yy{O:ax}{k:Nat}{ds:List D}{i:Int}{d:D}(h:O[k]? =some (.lst ds))(hi:atI ds i=some d):ixD O (.ptr k) (.int i)=.ok d:=by
 show (match lsD O (D.ptr k) with
  | some ds=>match atI ds i with
   | some d=>Res.ok d
   | none=>.bad
  | none=>.bad)=_
 rw[lM h]
 dsimp only
 rw[hi]
theorem n4{α:Type}{l:List α}{i:Nat}(h:i<l.length):atI l (i:Int)=some l[i]:=by
 rw[ny (by omega) (by omega)]
 simp
theorem Gf{O:ax}{k:Nat}{ds:List D}(h:O[k]? =some (.lst ds)):dC O [.ptr k]=.ok (.int ds.length):=by
 unfold dC
 simp only[lM h]
theorem iT{m:EM}{s s':S}{i j:Int}(h:m s=.ok (.int i,s')):aZ (aj gtD m (ao (.int j))) s=.ok (decide (j<i),s'):=by
 rw[hX,d5,h,ai,aB,ai,IC,ai,ai]
theorem eq_test{m:EM}{s s':S}{i j:Int}(h:m s=.ok (.int i,s')):aZ (aj eqD m (ao (.int j))) s=.ok (decide (i=j),s'):=by
 rw[hX,d5,h,ai,aB,ai,Bn,ai,ai]
theorem AW{a b:TM}{s:S}{p q:Bool}(ha:a s=.ok (p,s))(hb:b s=.ok (q,s)):tw a b s=.ok (p&&q,s):=by
 rw[He,ha,ai]
 cases p with
 | true=>exact hb
 | false=>rfl
end M
set_option maxRecDepth 100000
set_option maxHeartbeats 4000000
namespace M
def tk(c e:Nat):Nat:=2^e*(c+12)-(c+11)
def ka(c n:Nat):Nat:=2^n*(c+12)
theorem B7(c e:Nat):c+12<=2^e*(c+12):=Nat.le_mul_of_pos_left _ (Nat.two_pow_pos e)
theorem IB(c:Nat):tk c 0=1:=by unfold tk;simp
theorem Ib(c e:Nat):2*tk c e+c+11=tk c (e+1):=by
 unfold tk
 have h:=B7 c e
 have e2:2^(e+1)*(c+12)=2*(2^e*(c+12)):=by rw[Nat.pow_succ,Nat.mul_comm (2^e) 2,Nat.mul_assoc]
 rw[e2]
 omega
theorem KG{c e n:Nat}(h:e<=n):tk c e+c+10<=ka c n:=by
 unfold tk ka
 have h1:=B7 c e
 have h2:2^e*(c+12)<=2^n*(c+12):=Nat.mul_le_mul_right _ (Nat.pow_le_pow_right (by decide) h)
 omega
theorem A6{c e n:Nat}(h:e<=n):grow (tk c e) (n-e)<=ka c n:=by
 unfold grow
 have h1:tk c e+1<=2^e*(c+12):=by unfold tk;have:=B7 c e;omega
 have h2:2^(n-e)*(tk c e+1)<=2^(n-e)*(2^e*(c+12)):=Nat.mul_le_mul_left _ h1
 have h3:2^(n-e)*(2^e*(c+12))=ka c n:=by
  unfold ka
  rw[<- Nat.mul_assoc,<- Nat.pow_add,Nat.sub_add_cancel h]
 omega
theorem uj{c d n m:Nat}(h:c<=d)(hn:n<=m):ka c n<=ka d m:=by
 unfold ka
 exact Nat.mul_le_mul (Nat.pow_le_pow_right (by decide) hn) (by omega)
structure nX(n c:Nat)(R lists:List (List Int))(e:Nat):Prop where
 eq:R.foldl d7 (dM n)=lists
 ll:∀l∈lists,l.length=n
 cnt:lists.length+e=n
 sz:eE (tk c e) lists
theorem Ha(n a:Nat):SzL 1 (jH n a):=by
 intro x hx
 unfold jH at hx
 rcases List.mem_or_eq_of_mem_set hx with h | h
 ·rw[List.eq_of_mem_replicate h];exact Sz.zero 1
 ·rw[h];unfold Sz;decide
theorem nX.start(n c:Nat):nX n c [] (dM n) 0:=by
 refine⟨rfl,λl hl=> ?_,by unfold dM;simp,λl hl=> ?_⟩
 ·obtain⟨a,_,rfl⟩:=List.mem_map.mp hl
  unfold jH;simp
 ·obtain⟨a,_,rfl⟩:=List.mem_map.mp hl
  rw[IB];exact Ha n a
theorem nX.step{n c e:Nat}{R lists:List (List Int)}{row:List Int}(h:nX n c R lists e)(hr:row.length=n)(hs:SzL c row)(hn:n<=1000):∃e',nX n c (R++[row]) (d7 lists row) e':=by
 have eq':(R++[row]).foldl d7 (dM n)=d7 lists row:=by rw[List.foldl_append,h.eq];rfl
 unfold d7 at *
 split
 ·rename_i e0
  rw[e0] at eq'
  exact⟨e,eq',h.ll,h.cnt,h.sz⟩
 ·rename_i k e0
  rw[e0] at eq'
  have k1:=(eU e0).1
  rw[List.length_map] at k1
  have hm:=getD_mem k1
  refine⟨e+1,eq',λl hl=> ?_, ?_,λl hl=> ?_⟩
  ·obtain⟨q,hq,rfl⟩:=List.mem_map.mp hl
   have hq':=List.mem_of_mem_eraseIdx hq
   rw[lY (by rw[h.ll q hq',h.ll _ hm]),h.ll q hq']
  ·rw[List.length_map,List.length_eraseIdx_of_lt k1]
   have:=h.cnt
   omega
  ·obtain⟨q,hq,rfl⟩:=List.mem_map.mp hl
   have hq':=List.mem_of_mem_eraseIdx hq
   have hz:∀l∈lists,Sz (tk c e+c+10) (aG row l):=λl h'=>zE hs (h.sz l h') (by rw[hr];exact hn)
   exact(SzL.off (h.sz q hq') (h.sz _ hm) (hz q hq') (hz _ hm)).mono (by rw[<- Ib];omega)
theorem Fn{n c:Nat}{rows:List (List Int)}(hn:n<=1000)(hl:∀r∈rows,r.length=n)(hs:eE c rows):∃e,nX n c rows (kH rows n) e:=by
 have:∀(S R lists:List (List Int)) (e:Nat),(∀r∈S,r.length=n)->eE c S->nX n c R lists e->∃e',nX n c (R++S) (S.foldl d7 lists) e':=by
  intro S
  induction S with
  | nil=>intro R lists e _ _ h;exact⟨e,by simpa using h⟩
  | cons r S ih=>
   intro R lists e h1 h2 h
   obtain⟨e1,h3⟩:=h.step (h1 r List.mem_cons_self) (h2 r List.mem_cons_self) hn
   obtain⟨e2,h4⟩:=ih (R++[r]) _ e1 (λq hq=>h1 q (List.mem_cons_of_mem _ hq)) (λq hq=>h2 q (List.mem_cons_of_mem _ hq)) h3
   exact⟨e2,by simpa using h4⟩
 obtain⟨e,h⟩:=this rows [] (dM n) 0 hl hs (nX.start n c)
 rw[List.nil_append] at h
 exact⟨e,h⟩
theorem Dd{n c:Nat}{rows:List (List Int)}(hn:n<=1000)(hl:∀r∈rows,r.length=n)(hs:eE c rows):eE (ka c n) (ba rows n):=by
 obtain⟨e,h⟩:=Fn hn hl hs
 have hc:=h.cnt
 have:=DK h.ll h.sz
 refine this.mono ?_
 rw[show (kH rows n).length=n-e by omega]
 exact A6 (by omega)
end M
set_option maxRecDepth 100000
set_option maxHeartbeats 4000000
namespace M
theorem hole:∀(n:Nat) (L:List Nat),L.length<n->∃f,f<n/\f∉L
 | 0,L,h=>by omega
 | n+1,L,h=>by
  by_cases hn:n∈L
  ·obtain⟨f,h1,h2⟩:=hole n (L.erase n) (by
    rw[List.length_erase_of_mem hn]
    have:=List.length_pos_of_mem hn
    omega)
   exact⟨f,by omega,λhf=>h2 ((List.mem_erase_of_ne (by omega)).mpr hf)⟩
  ·exact⟨n,by omega,hn⟩
theorem Eu{P:List (Nat×List Int)}{f:Nat}{n:Nat}(pl:Pl n P)(hfree:∀p∈P,p.1≠f):ic P f f≠0:=by
 have h1:=pl.leads_pos
 have h2:=ji (L:=gZ P) (f:=f) (i:=f) hfree
 unfold ic
 simp
 omega
theorem z6{n:Nat}{A:List (List Int)}(hA:∀r∈A,r.length=n)(h:A.length<n):∃t:Nat->Int,(∃j,j<n/\t j≠0)/\dU n A t:=by
 obtain⟨P,eP,pl,hP,nul⟩:=ig hA
 obtain⟨f,hf,hfr⟩:=hole n (P.map (·.1)) (by rw[List.length_map];omega)
 have hfree:∀p∈P,p.1≠f:=λp hp e=>hfr (List.mem_map.mpr ⟨p,hp,e⟩)
 refine⟨ic P f,⟨f,hf,Eu pl hfree⟩,(nul _).mp ?_⟩
 rw[eP]
 exact pM pl hf hfree
def Indep(n:Nat)(V:List (List Int)):Prop:=∀t:Nat->Int,(∀i,i<n->bh V.length (λj=>t j*nth (V.getD j []) i)=0)->∀j,j<V.length->t j=0
theorem yJ{n:Nat}{V W:List (List Int)}(hV:Indep n V)(h:∀v∈V,gQ n W (nth v)):V.length<=W.length:=by
 refine Classical.byContradiction λhlt=> ?_
 have ch:∀j,∃k:Int,∃T:List Int,j<V.length->k≠0/\∀i,i<n->k*nth (V.getD j []) i=fX T W i:=λj=>by
  by_cases hj:j<V.length
  ·obtain⟨k,hk,T,_,e⟩:=h (V.getD j []) (getD_mem hj)
   exact⟨k,T,λ_=>⟨hk,e⟩⟩
  ·exact⟨1,[],λz=>absurd z hj⟩
 obtain⟨kf,hkf⟩:=Classical.axiomOfChoice ch
 obtain⟨Tf,hTf⟩:=Classical.axiomOfChoice hkf
 obtain⟨t,⟨j0,hj0,ht0⟩,hn⟩:=z6 (n:=V.length) (A:=(List.range W.length).map λm=>(List.range V.length).map λj=>nth (Tf j) m) (λr hr=>by
  obtain⟨m,_,rfl⟩:=List.mem_map.mp hr
  simp) (by simp;omega)
 have hnm:∀m,m<W.length->bh V.length (λj=>nth (Tf j) m*t j)=0:=λm hm=>by
  have:=hn _ (List.mem_map.mpr ⟨m,List.mem_range.mpr hm,rfl⟩)
  rw[<- this]
  refine cg λj hj=> ?_
  congr 1
  unfold nth
  simp[List.getD_eq_getElem?_getD,List.getElem?_map,List.getElem?_range,hj]
 have hz:=hV (λj=>t j*kf j) (λi hi=> ?_) j0 hj0
 ·rcases Int.mul_eq_zero.mp hz with q | q
  ·exact ht0 q
  ·exact(hTf j0 hj0).1 q
 ·have e1:bh V.length (λj=>t j*kf j*nth (V.getD j []) i)=bh V.length (λj=>bh W.length λm=>t j*(nth (Tf j) m*nth (W.getD m []) i)):=cg λj hj=>by
   rw[Int.mul_assoc,(hTf j hj).2 i hi]
   unfold fX
   rw[dW]
  rw[e1,oo]
  refine fe λm hm=> ?_
  have e2:bh V.length (λj=>t j*(nth (Tf j) m*nth (W.getD m []) i))=nth (W.getD m []) i*bh V.length (λj=>nth (Tf j) m*t j):=by
   rw[<- dW]
   refine cg λj hj=> ?_
   rw[<- Int.mul_assoc,Int.mul_comm (nth (W.getD m []) i),Int.mul_comm (t j)]
  rw[e2,hnm m hm,Int.mul_zero]
theorem zw{n:Nat}{P:List (Nat×List Int)}(pl:Pl n P):Indep n (P.map (·.2)):=λt h j hj=>by
 rw[List.length_map] at hj
 have hg:∀j (hj:j<P.length),(P.map (·.2)).getD j []=P[j].2:=λj hj=>by simp[List.getD_eq_getElem?_getD,List.getElem?_eq_getElem hj]
 have hm:P[j]∈P:=List.getElem_mem hj
 have g:=pl.good _ hm
 have e:=h P[j].1 g.lt
 rw[List.length_map,je (k:=j) hj λm hm1 hne=> ?_,hg j hj] at e
 ·rcases Int.mul_eq_zero.mp e with q | q
  ·exact q
  ·have:=g.pos
   omega
 ·rw[hg m hm1]
  have hm2:P[m]∈P:=List.getElem_mem hm1
  have hne2:P[m].1≠P[j].1:=by
   have pw:=List.pairwise_iff_getElem.mp pl.pw
   rcases Nat.lt_or_gt_of_ne hne with q | q
   ·exact Nat.ne_of_lt (pw m j hm1 hj q).1
   ·exact Nat.ne_of_gt (pw j m hj hm1 q).1
  rw[pl.other hm2 hm hne2,Int.mul_zero]
theorem qj{n j:Nat}(hj:j<n):(dM n).getD j []=jH n j:=by
 unfold dM
 simp[List.getD_eq_getElem?_getD,List.getElem?_map,List.getElem?_range,hj]
theorem gR(n:Nat):(dM n).length=n:=by unfold dM;simp
theorem AA(n:Nat):Indep n (dM n):=λt h j hj=>by
 rw[gR] at hj
 have e:=h j hj
 rw[gR,je (k:=j) hj λm hm hne=> ?_,qj hj,kI hj,if_pos rfl,Int.mul_one] at e
 ·exact e
 ·rw[qj hm,kI hm,if_neg (λz=>hne z.symm),Int.mul_zero]
theorem xx(n:Nat)(x:Nat->Int):gQ n (dM n) x:=⟨1,by decide,(List.range n).map x,by rw[gR];simp,λi hi=>by
 unfold fX
 rw[gR,je (k:=i) hi λm hm hne=> ?_,qj hi,kI hi,if_pos rfl]
 ·unfold nth
  simp[List.getD_eq_getElem?_getD,List.getElem?_map,List.getElem?_range,hi]
 ·rw[qj hm,kI hm,if_neg (λz=>hne z.symm),Int.mul_zero]⟩
theorem sq_nonneg(a:Int):0<=a*a:=by
 rcases Int.le_total 0 a with h | h
 ·exact Int.mul_nonneg h h
 ·have:=Int.mul_nonneg (show 0<= -a by omega) (show 0<= -a by omega)
  rwa [Int.neg_mul_neg] at this
theorem qw(z:Nat->Int):∀n,0<=bh n λi=>z i*z i
 | 0=>Int.le_refl 0
 | n+1=>by
  have:=qw z n
  have:=sq_nonneg (z n)
  show 0<=bh n _+z n*z n
  omega
theorem vc{z:Nat->Int}:∀{n:Nat},(bh n λi=>z i*z i)=0->∀i,i<n->z i=0
 | 0,_,i,hi=>by omega
 | n+1,h,i,hi=>by
  have h1:=qw z n
  have h2:=sq_nonneg (z n)
  have h3:(bh n λi=>z i*z i)+z n*z n=0:=h
  rcases Nat.lt_or_ge i n with q | q
  ·exact vc (n:=n) (by omega) i q
  ·have:i=n:=by omega
   subst this
   have h4:z i*z i=0:=by omega
   rcases Int.mul_eq_zero.mp h4 with r | r <;> exact r
theorem count{n:Nat}{R:List (List Int)}(hR:∀r∈R,r.length=n):(ba R n).length+(bM R n).length=n:=by
 obtain⟨P,eP,pl,_,nul⟩:=ig hR
 have hS:=kU hR
 obtain⟨Q,eQ,ql,_,_⟩:=ke hR
 have perp:∀s∈ba R n,∀p∈bM R n,bZ n (nth s) (nth p)=0:=λs hs p hp=>by
  obtain⟨_,_,_,h3,_⟩:=ke hS
  rw[oO hR] at h3
  rw[bY]
  exact h3 s hs p hp
 have inS:∀z:Nat->Int,dU n (bM R n) z->gQ n (ba R n) z:=λz hz=>by
  refine(m5 hS z).mp ?_
  rw[oO hR]
  exact hz
 have getS:∀(t:Nat->Int) (A B:List (List Int)) (i:Nat),bh (A++B).length (λj=>t j*nth ((A++B).getD j []) i)=bh A.length (λj=>t j*nth (A.getD j []) i)+bh B.length (λj=>t (A.length+j)*nth (B.getD j []) i):=λt A B i=>by
  have split:∀(a b:Nat) (f:Nat->Int),bh (a+b) f=bh a f+bh b λj=>f (a+j):=λa b f=>by
   induction b with
   | zero=>show bh a f=bh a f+0;omega
   | succ b ih=>
    show bh (a+b) f+f (a+b)=bh a f+(bh b (λj=>f (a+j))+f (a+b))
    rw[ih];omega
  rw[List.length_append,split]
  congr 1
  ·exact cg λj hj=>by rw[List.getD_eq_getElem?_getD,List.getElem?_append_left hj,<- List.getD_eq_getElem?_getD]
  ·exact cg λj hj=>by rw[List.getD_eq_getElem?_getD,List.getElem?_append_right (by omega),Nat.add_sub_cancel_left,<- List.getD_eq_getElem?_getD]
 have lo:n<=(ba R n++bM R n).length:=by
  have:=yJ (n:=n) (V:=dM n) (W:=ba R n++bM R n) (AA n) λv _=>by
   have hA:∀r∈ba R n++bM R n,r.length=n:=λr hr=>by
    rcases List.mem_append.mp hr with q | q
    ·exact hS r q
    ·exact mT hR r q
   refine(m5 hA _).mp λz hz=> ?_
   obtain⟨_,_,_,h3,_⟩:=ke hA
   have zP:dU n (bM R n) (nth z):=λp hp=>by rw[gJ,bY];exact h3 p (by simp[hp]) z hz
   have zS:dU n (ba R n) (nth z):=λp hp=>by rw[gJ,bY];exact h3 p (by simp[hp]) z hz
   have zz:=(inS (nth z) zP).dot zS
   have z0:=vc zz
   rw[gJ]
   exact fe λi hi=>by rw[z0 i hi,Int.zero_mul]
  rwa [gR] at this
 have hi:(ba R n++bM R n).length<=n:=by
  have:=yJ (n:=n) (V:=ba R n++bM R n) (W:=dM n) (λt h=> ?_) λv _=>xx n _
  ·rwa [gR] at this
  ·have y0:∀i,i<n->bh (ba R n).length (λj=>t j*nth ((ba R n).getD j []) i)=0:=by
    refine vc (z:=λi=>bh (ba R n).length (λj=>t j*nth ((ba R n).getD j []) i)) ?_
    have e1:∀i,i<n->bh (ba R n).length (λj=>t j*nth ((ba R n).getD j []) i)= - bh (bM R n).length (λj=>t ((ba R n).length+j)*nth ((bM R n).getD j []) i):=λi hi=>by
     have:=h i hi
     rw[getS] at this
     omega
    have prod:∀(a b:Nat) (f g:Nat->Int),bh a f*bh b g=bh a λj=>bh b λm=>f j*g m:=λa b f g=>by
     rw[Int.mul_comm,<- dW]
     refine cg λj _=> ?_
     rw[Int.mul_comm,<- dW]
    have e2:(bh n λi=>(bh (ba R n).length λj=>t j*nth ((ba R n).getD j []) i)*(bh (ba R n).length λj=>t j*nth ((ba R n).getD j []) i))=bh n λi=>(-1)*((bh (ba R n).length λj=>t j*nth ((ba R n).getD j []) i)*(bh (bM R n).length λj=>t ((ba R n).length+j)*nth ((bM R n).getD j []) i)):=cg λi hi=>by
     conv=>lhs;arg 2;rw[e1 i hi]
     rw[Int.mul_neg]
     omega
    rw[e2,dW]
    have e3:(bh n λi=>(bh (ba R n).length λj=>t j*nth ((ba R n).getD j []) i)*(bh (bM R n).length λj=>t ((ba R n).length+j)*nth ((bM R n).getD j []) i))=bh n λi=>bh (ba R n).length λj=>bh (bM R n).length λm=>(t j*t ((ba R n).length+m))*(nth ((ba R n).getD j []) i*nth ((bM R n).getD m []) i):=cg λi _=>by
     rw[prod]
     refine cg λj _=>cg λm _=> ?_
     rw[Int.mul_assoc,Int.mul_assoc,Int.mul_left_comm (nth ((ba R n).getD j []) i)]
    rw[e3,oo]
    suffices q:bh (ba R n).length (λj=>bh n λi=>bh (bM R n).length λm=>(t j*t ((ba R n).length+m))*(nth ((ba R n).getD j []) i*nth ((bM R n).getD m []) i))=0 by rw[q];rfl
    refine fe λj hj=> ?_
    rw[oo]
    refine fe λm hm=> ?_
    rw[dW]
    have:=perp _ (getD_mem hj) _ (getD_mem hm)
    unfold bZ at this
    rw[this,Int.mul_zero]
   have p0:∀i,i<n->bh (bM R n).length (λj=>t ((ba R n).length+j)*nth ((bM R n).getD j []) i)=0:=λi hi=>by
    have:=h i hi
    rw[getS,y0 i hi] at this
    omega
   have iS:Indep n (ba R n):=by rw[eQ];exact zw ql
   have iP:Indep n (bM R n):=by rw[eP];exact zw pl
   intro j hj
   rw[List.length_append] at hj
   rcases Nat.lt_or_ge j (ba R n).length with q | q
   ·exact iS t y0 j q
   ·have:=iP (λm=>t ((ba R n).length+m)) p0 (j-(ba R n).length) (by omega)
    rwa [show (ba R n).length+(j-(ba R n).length)=j by omega] at this
 rw[List.length_append] at lo hi
 omega
end M
set_option maxRecDepth 100000
set_option maxHeartbeats 4000000
namespace M
structure Fit(n:Nat)(R:List (List Int))(x:List Int):Prop where
 len:x.length=n
 nn:∀i,0<=nth x i
 st:∀r∈R,bZ n (nth r) (nth x)=0
 nz:∃i,nth x i≠0
def Sub(x y:List Int):Prop:=∀i,nth x i≠0->nth y i≠0
structure ee(n:Nat)(R:List (List Int))(x:List Int):Prop where
 fit:Fit n R x
 one:cM x=1
 min:∀y,Fit n R y->Sub y x->Sub x y
theorem Sub.refl(x:List Int):Sub x x:=λ_ h=>h
theorem Sub.trans{x y z:List Int}(a:Sub x y)(b:Sub y z):Sub x z:=λi h=>b i (a i h)
theorem Fit.lt{n:Nat}{R:List (List Int)}{x:List Int}(f:Fit n R x){i:Nat}(h:nth x i≠0):i<n:=by
 by_cases hi:i<n
 ·exact hi
 ·exact absurd (lC (by rw[f.len];omega)) h
theorem Fit.low{n:Nat}{R:List (List Int)}{x:List Int}(f:Fit n R x):Fit n R (low x)/\cM (M.low x)=1/\Sub (M.low x) x/\Sub x (M.low x):=by
 have hp:=ow x
 have hi:∀i,nth (M.low x) i≠0↔nth x i≠0:=λi=>by
  rw[oY x i]
  constructor
  ·exact λh=>Int.mul_ne_zero (by omega) h
  ·intro h z;rw[z] at h;exact h (by omega)
 obtain⟨j,hj⟩:=f.nz
 refine⟨⟨by rw[low_length,f.len],λi=> ?_,λr hr=> ?_,⟨j,(hi j).mpr hj⟩⟩,AK hj,λi=>(hi i).mp,λi=>(hi i).mpr⟩
 ·have:=f.nn i
  rw[oY x i] at this
  by_cases h:0<=nth (M.low x) i
  ·exact h
  ·have:=Int.mul_neg_of_pos_of_neg hp (by omega:nth (M.low x) i<0);omega
 ·have:=f.st r hr
  rw[bY]
  rw[bY] at this
  exact(tP n x (nth r)).mpr this
theorem Ax{a b c d e f:Int}(hb:0<b)(hd:0<d)(hf:0<f)(h1:a*d<=c*b)(h2:c*f<=e*d):a*f<=e*b:=by
 have e1:a*d*f<=c*b*f:=Int.mul_le_mul_of_nonneg_right h1 (by omega)
 have e2:c*f*b<=e*d*b:=Int.mul_le_mul_of_nonneg_right h2 (by omega)
 have:(a*f)*d<=(e*b)*d:=by
  have q1:a*d*f=(a*f)*d:=by grind
  have q2:c*b*f=c*f*b:=by grind
  have q3:e*d*b=(e*b)*d:=by grind
  omega
 exact Int.le_of_mul_le_mul_right this hd
theorem DM(a b:Nat->Int)(hb:∀i,0<=b i):∀n,(∃i,i<n/\b i≠0)->∃m,m<n/\b m≠0/\∀i,i<n->b i≠0->a m*b i<=a i*b m
 | 0,h=>by obtain⟨i,hi,_⟩:=h;omega
 | n+1,h=>by
  by_cases hn:∃i,i<n/\b i≠0
  ·obtain⟨m,hm,hz,hl⟩:=DM a b hb n hn
   by_cases hbn:b n=0
   ·refine⟨m,by omega,hz,λi hi hi0=> ?_⟩
    by_cases e:i=n
    ·subst e;exact absurd hbn hi0
    ·exact hl i (by omega) hi0
   ·by_cases hc:a m*b n<=a n*b m
    ·refine⟨m,by omega,hz,λi hi hi0=> ?_⟩
     by_cases e:i=n
     ·subst e;exact hc
     ·exact hl i (by omega) hi0
    ·refine⟨n,by omega,hbn,λi hi hi0=> ?_⟩
     by_cases e:i=n
     ·subst e;omega
     ·have:=hb n;have:=hb m;have:=hb i
      exact Ax (by omega) (by omega:0<b m) (by omega) (by omega) (hl i (by omega) hi0)
  ·obtain⟨i,hi,hi0⟩:=h
   have e:i=n:=by
    by_cases e:i=n
    ·exact e
    ·exact absurd ⟨i,by omega,hi0⟩ hn
   subst e
   refine⟨i,by omega,hi0,λj hj hj0=> ?_⟩
   by_cases e:j=i
   ·subst e;omega
   ·exact absurd ⟨j,by omega,hj0⟩ hn
theorem tD{n:Nat}{R:List (List Int)}{x y:List Int}(fx:Fit n R x)(fy:Fit n R y)(hs:Sub y x):
 ∃z:List Int,z.length=n/\(∀i,0<=nth z i)/\Sub z x/\∃c d:Int,0<c/\0<d/\(∀i,nth z i=c*nth x i-d*nth y i)/\∃m,nth y m≠0/\nth z m=0:=by
 obtain⟨j,hj⟩:=fy.nz
 obtain⟨m,hm,hz,hl⟩:=DM (nth x) (nth y) fy.nn n ⟨j,fy.lt hj,hj⟩
 have hlen:x.length=y.length:=by rw[fx.len,fy.len]
 have hxm:=fx.nn m
 have hym:=fy.nn m
 have hxm0:=hs m hz
 have hnth:∀i,nth (ko x (nth x m) y (nth y m)) i=nth y m*nth x i-nth x m*nth y i:=λi=>by rw[yY hlen];grind
 refine⟨ko x (nth x m) y (nth y m),by rw[oP hlen,fx.len],λi=> ?_,λi hi=> ?_,nth y m,nth x m,by omega,by omega,hnth,m,hz,by rw[hnth];grind⟩
 ·rw[hnth]
  by_cases hy:nth y i=0
  ·rw[hy]
   have:=Int.mul_nonneg hym (fx.nn i)
   omega
  ·have:=hl i (fy.lt hy) hy
   have:nth y m*nth x i=nth x i*nth y m:=Int.mul_comm _ _
   omega
 ·rw[hnth] at hi
  intro z
  apply hi
  have:nth y i=0:=by
   by_cases hy:nth y i=0
   ·exact hy
   ·exact absurd z (hs i hy)
  rw[z,this];omega
theorem uY{n:Nat}{x y z:List Int}{c d:Int}(h:∀i,nth z i=c*nth x i-d*nth y i)(r:Nat->Int):bZ n r (nth z)=c*bZ n r (nth x)-d*bZ n r (nth y):=by
 have:=wj (n:=n) (a:=nth x) (b:=nth y) (u:=c) (v:= -d) r
 rw[bY,CF (b:=λi=>c*nth x i + -d*nth y i) (λi _=>by rw[h i];grind),bY,this]
 grind
theorem u3{n:Nat}{R:List (List Int)}{x y z:List Int}(fx:Fit n R x)(fy:Fit n R y)(hl:z.length=n)(hn:∀i,0<=nth z i){c d:Int}(h:∀i,nth z i=c*nth x i-d*nth y i)(hz:∃i,nth z i≠0):Fit n R z:=
 ⟨hl,hn,λr hr=>by rw[uY h,fx.st r hr,fy.st r hr];omega,hz⟩
theorem ee.prop{n:Nat}{R:List (List Int)}{x y:List Int}(l:ee n R x)(fy:Fit n R y)(hs:Sub y x):∃a b:Int,0<a/\0<b/\∀i,a*nth x i=b*nth y i:=by
 obtain⟨z,zl,zn,zs,c,d,hc,hd,h,m,hm,hzm⟩:=tD l.fit fy hs
 by_cases hz:∃i,nth z i≠0
 ·have fz:=u3 l.fit fy zl zn h hz
  exact absurd hzm (l.min z fz zs m (hs m hm))
 ·refine⟨c,d,hc,hd,λi=> ?_⟩
  have:nth z i=0:=by
   by_cases e:nth z i=0
   ·exact e
   ·exact absurd ⟨i,e⟩ hz
  rw[h i] at this
  omega
theorem ee.eq{n:Nat}{R:List (List Int)}{x y:List Int}(l:ee n R x)(fy:Fit n R y)(h1:cM y=1)(hs:Sub y x):x=y:=by
 obtain⟨a,b,ha,hb,h⟩:=l.prop fy hs
 exact Bq (by rw[l.fit.len,fy.len]) l.one h1 ha hb λi _=>h i
def cnt(x:List Int):Nat:=(x.filter (·≠0)).length
theorem Dg:∀{x y:List Int},x.length=y.length->Sub x y->cnt x<=cnt y
 | [],[],_,_=>Nat.le_refl _
 | a::x,b::y,hl,hs=>by
  have ih:=Dg (x:=x) (y:=y) (by simpa using hl) λi h=>hs (i+1) h
  have h0:a≠0->b≠0:=hs 0
  unfold cnt at *
  by_cases ha:a=0
  ·rw[List.filter_cons_of_neg (by simpa using ha)]
   by_cases hb:b=0
   ·rw[List.filter_cons_of_neg (by simpa using hb)];exact ih
   ·rw[List.filter_cons_of_pos (by simpa using hb),List.length_cons];omega
  ·rw[List.filter_cons_of_pos (by simpa using ha),List.filter_cons_of_pos (by simpa using h0 ha),List.length_cons,List.length_cons];omega
theorem qU:∀{x y:List Int} {m:Nat},x.length=y.length->Sub x y->nth y m≠0->nth x m=0->cnt x<cnt y
 | [],[],m,_,_,h,_=>by simp[nth] at h
 | a::x,b::y,0,hl,hs,h,h'=>by
  have ih:=Dg (x:=x) (y:=y) (by simpa using hl) λi h=>hs (i+1) h
  have ha:a=0:=h'
  have hb:b≠0:=h
  unfold cnt at *
  rw[List.filter_cons_of_neg (by simpa using ha),List.filter_cons_of_pos (by simpa using hb),List.length_cons];omega
 | a::x,b::y,m+1,hl,hs,h,h'=>by
  have ih:=qU (x:=x) (y:=y) (m:=m) (by simpa using hl) (λi h=>hs (i+1) h) h h'
  have h0:a≠0->b≠0:=hs 0
  unfold cnt at *
  by_cases ha:a=0
  ·rw[List.filter_cons_of_neg (by simpa using ha)]
   by_cases hb:b=0
   ·rw[List.filter_cons_of_neg (by simpa using hb)];exact ih
   ·rw[List.filter_cons_of_pos (by simpa using hb),List.length_cons];omega
  ·rw[List.filter_cons_of_pos (by simpa using ha),List.filter_cons_of_pos (by simpa using h0 ha),List.length_cons,List.length_cons];omega
theorem vC{n:Nat}{R:List (List Int)}:∀(k:Nat) {x:List Int},cnt x<=k->Fit n R x->∃l,ee n R l/\Sub l x:=by
 intro k
 induction k with
 | zero=>
  intro x hk f
  obtain⟨i,hi⟩:=f.nz
  have:cnt (List.replicate n (0:Int))<cnt x:=qU (m:=i) (by rw[f.len];simp) (λj h=>by
   exfalso;apply h
   unfold nth
   rw[List.getD_eq_getElem?_getD,List.getElem?_replicate]
   split <;> rfl) hi (by
   unfold nth
   rw[List.getD_eq_getElem?_getD,List.getElem?_replicate]
   split <;> rfl)
  omega
 | succ k ih=>
  intro x hk f
  by_cases h:∃y,Fit n R y/\Sub y x/\¬Sub x y
  ·obtain⟨y,fy,h1,h2⟩:=h
   have:∃m,nth x m≠0/\nth y m=0:=by
    apply Classical.byContradiction
    intro hn
    exact h2 λi hi=>λz=>hn ⟨i,hi,z⟩
   obtain⟨m,hm,hm0⟩:=this
   have:=qU (by rw[fy.len,f.len]) h1 hm hm0
   obtain⟨l,hl,hs⟩:=ih (x:=y) (by omega) fy
   exact⟨l,hl,hs.trans h1⟩
  ·obtain⟨q1,q2,q3,q4⟩:=f.low
   refine⟨low x,⟨q1,q2,λy fy hs=> ?_⟩,q3⟩
   apply Classical.byContradiction
   intro hn
   exact h ⟨y,fy,hs.trans q3,λz=>hn (q3.trans z)⟩
theorem uS{n:Nat}{R:List (List Int)}(r:List Int):∀(k:Nat) {x:List Int},cnt x<=k->Fit n R x->0<bZ n (nth r) (nth x)->∃l,ee n R l/\Sub l x/\0<bZ n (nth r) (nth l):=by
 intro k
 induction k with
 | zero=>
  intro x hk f hv
  obtain⟨l,hl,hs⟩:=vC 0 hk f
  obtain⟨i,hi⟩:=f.nz
  have:cnt (List.replicate n (0:Int))<cnt x:=qU (m:=i) (by rw[f.len];simp) (λj h=>by
   exfalso;apply h
   unfold nth
   rw[List.getD_eq_getElem?_getD,List.getElem?_replicate]
   split <;> rfl) hi (by
   unfold nth
   rw[List.getD_eq_getElem?_getD,List.getElem?_replicate]
   split <;> rfl)
  omega
 | succ k ih=>
  intro x hk f hv
  obtain⟨l,hl,hs⟩:=vC (k+1) hk f
  by_cases hp:0<bZ n (nth r) (nth l)
  ·exact⟨l,hl,hs,hp⟩
  ·obtain⟨z,zl,zn,zs,c,d,hc,hd,h,m,hm,hzm⟩:=tD f hl.fit hs
   have ev:=uY (n:=n) h (nth r)
   have h1:=Int.mul_pos hc hv
   have h2:=Int.mul_nonpos_of_nonneg_of_nonpos (show 0<=d by omega) (show bZ n (nth r) (nth l)<=0 by omega)
   have hz:∃i,nth z i≠0:=by
    apply Classical.byContradiction
    intro hn
    have:bZ n (nth r) (nth z)=0:=fe λi _=>by
     have:nth z i=0:=by
      by_cases e:nth z i=0
      ·exact e
      ·exact absurd ⟨i,e⟩ hn
     rw[this];omega
    omega
   have fz:=u3 f hl.fit zl zn h hz
   have:=qU (by rw[zl,f.len]) zs (hs m hm) hzm
   obtain⟨l',q1,q2,q3⟩:=ih (x:=z) (by omega) fz (by omega)
   exact⟨l',q1,q2.trans zs,q3⟩
theorem jZ(n:Nat)(r x:List Int):bZ n (nth (r.map (- ·))) (nth x)= -bZ n (nth r) (nth x):=by
 have:=qf (n:=n) (a:=r.map (- ·)) (c:=r) (g:= -1) (λi=>by rw[jU (by simp)];omega) (nth x)
 rw[<- gJ,this,gJ];omega
theorem Cz{n:Nat}{R:List (List Int)}(r:List Int){x:List Int}(f:Fit n R x)(hv:bZ n (nth r) (nth x)<0):∃l,ee n R l/\Sub l x/\bZ n (nth r) (nth l)<0:=by
 obtain⟨l,h1,h2,h3⟩:=uS (r.map (- ·)) _ (Nat.le_refl _) f (by rw[jZ];omega)
 rw[jZ] at h3
 exact⟨l,h1,h2,by omega⟩
theorem wL{n:Nat}{R:List (List Int)}(r:List Int){x:List Int}(f:Fit n R x)(hv:bZ n (nth r) (nth x)=0):
 (∃l,ee n R l/\Sub l x/\bZ n (nth r) (nth l)=0)\/∃h w,ee n R h/\ee n R w/\Sub h x/\Sub w x/\0<bZ n (nth r) (nth h)/\bZ n (nth r) (nth w)<0:=by
 obtain⟨l,hl,hs⟩:=vC _ (Nat.le_refl _) f
 by_cases h0:bZ n (nth r) (nth l)=0
 ·exact .inl ⟨l,hl,hs,h0⟩
 ·obtain⟨z,zl,zn,zs,c,d,hc,hd,h,m,hm,hzm⟩:=tD f hl.fit hs
  have ev:=uY (n:=n) h (nth r)
  rw[hv] at ev
  have hne:bZ n (nth r) (nth z)≠0:=by
   rw[ev]
   have:=Int.mul_ne_zero (show d≠0 by omega) h0
   omega
  have hz:∃i,nth z i≠0:=by
   apply Classical.byContradiction
   intro hn
   exact hne (fe λi _=>by
    have:nth z i=0:=by
     by_cases e:nth z i=0
     ·exact e
     ·exact absurd ⟨i,e⟩ hn
    rw[this];omega)
  have fz:=u3 f hl.fit zl zn h hz
  by_cases hp:0<bZ n (nth r) (nth l)
  ·have:=Int.mul_pos hd hp
   obtain⟨w,w1,w2,w3⟩:=Cz r fz (by omega)
   exact .inr ⟨l,w,hl,w1,hs,w2.trans zs,hp,w3⟩
  ·have:=Int.mul_neg_of_pos_of_neg hd (show bZ n (nth r) (nth l)<0 by omega)
   obtain⟨w,w1,w2,w3⟩:=uS r _ (Nat.le_refl _) fz (by omega)
   exact .inr ⟨w,l,w1,hl,w2.trans zs,hs,w3,by omega⟩
end M
set_option maxRecDepth 100000
set_option maxHeartbeats 4000000
namespace M
def subB(n:Nat)(l h w:List Int):Bool:=(List.range n).all λi=>decide (nth l i=0)||decide (nth h i≠0)||decide (nth w i≠0)
def nbB(n:Nat)(L:List (List Int))(h w:List Int):Bool:=(L.filter λl=>subB n l h w).length == 2
def lH(n:Nat)(L:List (List Int))(r:List Int):List (List Int):=
 (L.filter λl=>decide (aG r l=0))++(L.filter λl=>decide (0<aG r l)).flatMap λh=>((L.filter λl=>decide (aG r l<0)).filter λw=>nbB n L h w).map λw=>dJ w (aG r w) h (aG r h)
theorem yM{n:Nat}{l h w:List Int}(hl:l.length=n):subB n l h w=true↔∀i,nth l i≠0->nth h i≠0\/nth w i≠0:=by
 unfold subB
 rw[List.all_eq_true]
 constructor
 ·intro H i hi
  have lt:i<n:=by
   by_cases e:i<n
   ·exact e
   ·exact absurd (lC (by omega)) hi
  have:=H i (List.mem_range.mpr lt)
  simp only[Bool.or_eq_true,decide_eq_true_eq] at this
  rcases this with(z | z) | z
  ·exact absurd z hi
  ·exact .inl z
  ·exact .inr z
 ·intro H i _
  simp only[Bool.or_eq_true,decide_eq_true_eq]
  by_cases e:nth l i=0
  ·exact .inl (.inl e)
  ·rcases H i e with z | z
   ·exact .inl (.inr z)
   ·exact .inr z
theorem Bz{α:Type}{L:List α}(hd:L.Nodup)(hl:L.length=2){h w:α}(hh:h∈L)(hw:w∈L)(hne:h≠w):∀l∈L,l=h\/l=w:=by
 match L,hl with
 | [a,b],_=>
  intro l hl
  simp only[List.mem_cons,List.not_mem_nil,or_false] at hh hw hl
  rcases hh with rfl | rfl <;> rcases hw with rfl | rfl <;> rcases hl with rfl | rfl <;> first | exact .inl rfl | exact .inr rfl | exact absurd rfl hne
theorem Cf{α:Type}{L:List α}(hd:L.Nodup){h w:α}(hh:h∈L)(hw:w∈L)(hne:h≠w)(ha:∀l∈L,l=h\/l=w):L.length=2:=by
 have h1:L.length<=2:=by
  match L,hd with
  | [],_=>simp
  | [_],_=>simp
  | [_,_],_=>simp
  | a::b::c::r,hd=>
   exfalso
   have ha1:=ha a (by simp);have hb1:=ha b (by simp);have hc1:=ha c (by simp)
   simp only[List.nodup_cons,List.mem_cons,not_or] at hd
   rcases ha1 with e1 | e1 <;> rcases hb1 with e2 | e2 <;> rcases hc1 with e3 | e3 <;> simp_all
 match L,hh,hw,h1 with
 | [a],hh,hw,_=>
  simp only[List.mem_singleton] at hh hw
  exact absurd (hh.trans hw.symm) hne
 | [a,b],_,_,_=>rfl
section
variable {n : Nat} {R L : List (List Int)} {r : List Int}
structure pI(n:Nat)(R L:List (List Int)):Prop where
 all:∀x,x∈L↔ee n R x
 nd:L.Nodup
theorem pI.dot(k:pI n R L){l:List Int}(h:l∈L)(r:List Int):aG r l=bZ n (nth r) (nth l):=gX ((k.all l).mp h).fit.len
theorem uG(k:pI n R L){h w:List Int}(hh:h∈L)(hw:w∈L)(hne:h≠w):nbB n L h w=true↔∀l∈L,(∀i,nth l i≠0->nth h i≠0\/nth w i≠0)->l=h\/l=w:=by
 have mem:∀l,l∈L.filter (λl=>subB n l h w)↔l∈L/\∀i,nth l i≠0->nth h i≠0\/nth w i≠0:=λl=>by
  rw[List.mem_filter]
  constructor
  ·exact λ⟨a,b⟩=>⟨a,(yM ((k.all l).mp a).fit.len).mp b⟩
  ·exact λ⟨a,b⟩=>⟨a,(yM ((k.all l).mp a).fit.len).mpr b⟩
 have nd:(L.filter (λl=>subB n l h w)).Nodup:=k.nd.filter _
 have m1:h∈L.filter (λl=>subB n l h w):=(mem h).mpr ⟨hh,λi hi=>.inl hi⟩
 have m2:w∈L.filter (λl=>subB n l h w):=(mem w).mpr ⟨hw,λi hi=>.inr hi⟩
 unfold nbB
 rw[beq_iff_eq]
 constructor
 ·exact λhl l h1 h2=>Bz nd hl m1 m2 hne l ((mem l).mpr ⟨h1,h2⟩)
 ·exact λha=>Cf nd m1 m2 hne λl hl=>let ⟨a,b⟩:=(mem l).mp hl;ha l a b
theorem lD(hr:r.length=n){h w:List Int}(fh:Fit n R h)(fw:Fit n R w)(vh:0<aG r h)(vw:aG r w<0):
 Fit n (R++[r]) (dJ w (aG r w) h (aG r h))/\cM (dJ w (aG r w) h (aG r h))=1/\(∀i,nth (dJ w (aG r w) h (aG r h)) i≠0↔nth h i≠0\/nth w i≠0)/\
 ∃g:Int,0<g/\∀i,g*nth (dJ w (aG r w) h (aG r h)) i=nth w i*aG r h+nth h i*(-(aG r w)):=by
 have hlen:w.length=h.length:=by rw[fw.len,fh.len]
 obtain⟨g,hg,e⟩:=pN hlen (aG r w) (aG r h)
 have e':∀i,g*nth (dJ w (aG r w) h (aG r h)) i=nth w i*aG r h+nth h i*(-(aG r w)):=λi=>by rw[e i];grind
 have nz:∀i,nth (dJ w (aG r w) h (aG r h)) i≠0↔nth h i≠0\/nth w i≠0:=λi=>by
  have h1:=Int.mul_nonneg (fw.nn i) (show 0<=aG r h by omega)
  have h2:=Int.mul_nonneg (fh.nn i) (show 0<= -(aG r w) by omega)
  constructor
  ·intro hz
   apply Classical.byContradiction
   intro hn
   have q1:nth h i=0:=by
    by_cases q:nth h i=0
    ·exact q
    ·exact absurd (.inl q) hn
   have q2:nth w i=0:=by
    by_cases q:nth w i=0
    ·exact q
    ·exact absurd (.inr q) hn
   have:=e' i
   rw[q1,q2] at this
   have:g*nth (dJ w (aG r w) h (aG r h)) i=0:=by rw[this];omega
   rcases Int.mul_eq_zero.mp this with z | z
   ·omega
   ·exact hz z
  ·intro hor z
   have:=e' i
   rw[z] at this
   have hs:nth w i*aG r h+nth h i*(-(aG r w))=0:=by omega
   rcases hor with q | q
   ·have:=Int.mul_pos (show 0<nth h i by have:=fh.nn i;omega) (show 0 < -(aG r w) by omega);omega
   ·have:=Int.mul_pos (show 0<nth w i by have:=fw.nn i;omega) vh;omega
 have one:cM (dJ w (aG r w) h (aG r h))=1:=by
  obtain⟨i,hi⟩:=fh.nz
  have q:nth (dJ w (aG r w) h (aG r h)) i≠0:=(nz i).mpr (.inl hi)
  exact qc _ i q
 refine⟨⟨by rw[lY hlen,fw.len],λi=> ?_,λq hq=> ?_, ?_⟩,one,nz,g,hg,e'⟩
 ·have h1:=Int.mul_nonneg (fw.nn i) (show 0<=aG r h by omega)
  have h2:=Int.mul_nonneg (fh.nn i) (show 0<= -(aG r w) by omega)
  have:=e' i
  by_cases z:0<=nth (dJ w (aG r w) h (aG r h)) i
  ·exact z
  ·have:=Int.mul_neg_of_pos_of_neg hg (show nth (dJ w (aG r w) h (aG r h)) i<0 by omega);omega
 ·obtain⟨g',hg',ed⟩:=t4 (n:=n) hlen (aG r w) (aG r h) (nth q)
  simp only[gJ] at ed
  rw[bY]
  have z:g'*bZ n (nth (dJ w (aG r w) h (aG r h))) (nth q)=0:=by
   rw[ed,bY n (nth w),bY n (nth h)]
   rcases List.mem_append.mp hq with hq | hq
   ·rw[fw.st q hq,fh.st q hq];omega
   ·rw[List.mem_singleton.mp hq,<- gX fw.len,<- gX fh.len];grind
  rcases Int.mul_eq_zero.mp z with z | z
  ·omega
  ·exact z
 ·obtain⟨i,hi⟩:=fh.nz
  exact⟨i,(nz i).mpr (.inl hi)⟩
theorem Fit.less{R S:List (List Int)}{x:List Int}(f:Fit n (R++S) x):Fit n R x:=⟨f.len,f.nn,λr hr=>f.st r (List.mem_append_left _ hr),f.nz⟩
theorem Fit.more(f:Fit n R x)(h:bZ n (nth r) (nth x)=0):Fit n (R++[r]) x:=⟨f.len,f.nn,λq hq=>by
 rcases List.mem_append.mp hq with z | z
 ·exact f.st q z
 ·rw[List.mem_singleton.mp z];exact h,f.nz⟩
theorem ee.same{x y:List Int}(a:ee n R x)(b:ee n R y)(h:Sub y x):x=y:=a.eq b.fit b.one h
theorem sW(hr:r.length=n){h l w x:List Int}(lh:ee n R h)(ll:ee n R l)(lw:ee n R w)(lx:ee n (R++[r]) x)(vh:0<aG r h)(vl:0<aG r l)(vw:aG r w<0)(sh:Sub h x)(sl:Sub l x)(sw:Sub w x):l=h:=by
 obtain⟨f1,g1,z1,a,ha,e1⟩:=lD hr lh.fit lw.fit vh vw
 obtain⟨f2,g2,z2,b,hb,e2⟩:=lD hr ll.fit lw.fit vl vw
 have x1:=lx.eq f1 g1 λi hi=>((z1 i).mp hi).elim (sh i) (sw i)
 have x2:=lx.eq f2 g2 λi hi=>((z2 i).mp hi).elim (sl i) (sw i)
 rw[<- x1] at e1
 rw[<- x2] at e2
 have key:∀i,b*(nth h i*(-(aG r w)))+(b*aG r h-a*aG r l)*nth w i=a*(nth l i*(-(aG r w))):=λi=>by
  have q1:=e1 i
  have q2:=e2 i
  have:b*(a*nth x i)=a*(b*nth x i):=by grind
  rw[q1,q2] at this
  grind
 have hu:0 < -(aG r w):=by omega
 by_cases hm:0<=b*aG r h-a*aG r l
 ·refine(ee.same ll lh λi hi=> ?_)
  intro z
  have q:=key i
  rw[z] at q
  have h1:=Int.mul_pos hb (Int.mul_pos (show 0<nth h i by have:=lh.fit.nn i;omega) hu)
  have h2:=Int.mul_nonneg hm (lw.fit.nn i)
  have h3:a*(0*(-(aG r w)))=0:=by simp
  omega
 ·refine(ee.same lh ll λi hi=> ?_).symm
  intro z
  have q:=key i
  rw[z] at q
  have h1:=Int.mul_pos ha (Int.mul_pos (show 0<nth l i by have:=ll.fit.nn i;omega) hu)
  have h2:=Int.mul_nonpos_of_nonpos_of_nonneg (show b*aG r h-a*aG r l<=0 by omega) (lw.fit.nn i)
  have h3:b*(0*(-(aG r w)))=0:=by simp
  omega
theorem tZ{l:List Int}(hl:l.length=n):aG (r.map (- ·)) l= -(aG r l):=by rw[gX hl,gX hl,jZ]
theorem ee.neg{x:List Int}(l:ee n (R++[r]) x):ee n (R++[r.map (- ·)]) x:=by
 have tr:∀y,Fit n (R++[r]) y↔Fit n (R++[r.map (- ·)]) y:=λy=>by
  constructor
  ·refine λf=>Fit.more f.less ?_
   rw[jZ,f.st r (by simp)];rfl
  ·refine λf=>Fit.more f.less ?_
   have:=f.st (r.map (- ·)) (by simp)
   rw[jZ] at this;omega
 exact⟨(tr x).mp l.fit,l.one,λy fy=>l.min y ((tr y).mpr fy)⟩
theorem yO(hr:r.length=n){h l w x:List Int}(lh:ee n R h)(ll:ee n R l)(lw:ee n R w)(lx:ee n (R++[r]) x)(vh:0<aG r h)(vl:aG r l<0)(vw:aG r w<0)(sh:Sub h x)(sl:Sub l x)(sw:Sub w x):l=w:=
 sW (r:=r.map (- ·)) (h:=w) (l:=l) (w:=h) (by simpa using hr) lw ll lh lx.neg (by rw[tZ lw.fit.len];omega) (by rw[tZ ll.fit.len];omega) (by rw[tZ lh.fit.len];omega) sw sl sh
theorem yo{x:List Int}:x∈lH n L r↔(x∈L/\aG r x=0)\/∃h w,h∈L/\w∈L/\0<aG r h/\aG r w<0/\nbB n L h w=true/\x=dJ w (aG r w) h (aG r h):=by
 unfold lH
 rw[List.mem_append]
 constructor
 ·rintro (h | h)
  ·rw[List.mem_filter,decide_eq_true_eq] at h;exact .inl h
  ·obtain⟨h',q1,q2⟩:=List.mem_flatMap.mp h
   obtain⟨w,q3,rfl⟩:=List.mem_map.mp q2
   rw[List.mem_filter,decide_eq_true_eq] at q1
   rw[List.mem_filter,List.mem_filter,decide_eq_true_eq] at q3
   exact .inr ⟨h',w,q1.1,q3.1.1,q1.2,q3.1.2,q3.2,rfl⟩
 ·rintro (h | ⟨h',w,q1,q2,q3,q4,q5,rfl⟩)
  ·exact .inl (by rw[List.mem_filter,decide_eq_true_eq];exact h)
  ·refine .inr (List.mem_flatMap.mpr ⟨h',by rw[List.mem_filter,decide_eq_true_eq];exact⟨q1,q3⟩,List.mem_map.mpr ⟨w, ?_,rfl⟩⟩)
   rw[List.mem_filter,List.mem_filter,decide_eq_true_eq];exact⟨⟨q2,q4⟩,q5⟩
theorem zR(hr:r.length=n)(k:pI n R L)(x:List Int):x∈lH n L r↔ee n (R++[r]) x:=by
 rw[yo]
 constructor
 ·rintro (⟨hx,v⟩ | ⟨h,w,hh,hw,vh,vw,nb,rfl⟩)
  ·have l:=(k.all x).mp hx
   rw[k.dot hx] at v
   exact⟨l.fit.more v,l.one,λy fy=>l.min y fy.less⟩
  ·have lh:=(k.all h).mp hh
   have lw:=(k.all w).mp hw
   have hne:h≠w:=λe=>by rw[e] at vh;omega
   obtain⟨f1,g1,z1,_⟩:=lD hr lh.fit lw.fit vh vw
   refine⟨f1,g1,λy fy sy=> ?_⟩
   have nb':=(uG k hh hw hne).mp nb
   rcases wL r fy.less (fy.st r (by simp)) with⟨l,ll,sl,v⟩ | ⟨h',w',lh',lw',sh',sw',vh',vw'⟩
   ·have hl:=(k.all l).mpr ll
    have:=nb' l hl λi hi=>(z1 i).mp (sy i (sl i hi))
    rw[<- k.dot hl] at v
    rcases this with rfl | rfl <;> omega
   ·have hh':=(k.all h').mpr lh'
    have hw':=(k.all w').mpr lw'
    rw[<- k.dot hh'] at vh'
    rw[<- k.dot hw'] at vw'
    have e1:h'=h:=by
     rcases nb' h' hh' λi hi=>(z1 i).mp (sy i (sh' i hi)) with e | e
     ·exact e
     ·rw[e] at vh';omega
    have e2:w'=w:=by
     rcases nb' w' hw' λi hi=>(z1 i).mp (sy i (sw' i hi)) with e | e
     ·rw[e] at vw';omega
     ·exact e
    subst e1 e2
    exact λi hi=>((z1 i).mp hi).elim (sh' i) (sw' i)
 ·intro lx
  by_cases hz:∃l,ee n R l/\Sub l x/\bZ n (nth r) (nth l)=0
  ·obtain⟨l,ll,sl,v⟩:=hz
   have e:=lx.eq (ll.fit.more v) ll.one sl
   subst e
   have hl:=(k.all x).mpr ll
   exact .inl ⟨hl,by rw[k.dot hl];exact v⟩
  ·rcases wL r lx.fit.less (lx.fit.st r (by simp)) with h0 | ⟨h,w,lh,lw,sh,sw,vh,vw⟩
   ·exact absurd h0 hz
   ·have hh:=(k.all h).mpr lh
    have hw:=(k.all w).mpr lw
    rw[<- k.dot hh] at vh
    rw[<- k.dot hw] at vw
    have hne:h≠w:=λe=>by rw[e] at vh;omega
    obtain⟨f1,g1,z1,_⟩:=lD hr lh.fit lw.fit vh vw
    refine .inr ⟨h,w,hh,hw,vh,vw,(uG k hh hw hne).mpr λl hl sl=> ?_,lx.eq f1 g1 λi hi=>((z1 i).mp hi).elim (sh i) (sw i)⟩
    have ll:=(k.all l).mp hl
    have slx:Sub l x:=λi hi=>(sl i hi).elim (sh i) (sw i)
    by_cases v0:aG r l=0
    ·exact absurd ⟨l,ll,slx,by rw[<- k.dot hl];exact v0⟩ hz
    ·by_cases vp:0<aG r l
     ·exact .inl (sW hr lh ll lw lx vh vp vw sh slx sw)
     ·exact .inr (yO hr lh ll lw lx vh (by omega) vw sh slx sw)
end
end M
set_option maxRecDepth 100000
set_option maxHeartbeats 4000000
namespace M
section
variable {n : Nat} {R L : List (List Int)} {r : List Int}
theorem Bh (hr:r.length=n) (k:pI n R L) {h w h' w':List Int} (hh:h∈L) (hw:w∈L) (vh:0<aG r h) (vw:aG r w<0) (nb:nbB n L h w=true)
 (hh':h'∈L) (hw':w'∈L) (vh':0<aG r h') (vw':aG r w'<0) (e:dJ w (aG r w) h (aG r h)=dJ w' (aG r w') h' (aG r h')):h=h'/\w=w':=by
 have hne:h≠w:=λe=>by rw[e] at vh;omega
 obtain⟨_,_,z1,_⟩:=lD hr ((k.all h).mp hh).fit ((k.all w).mp hw).fit vh vw
 obtain⟨_,_,z2,_⟩:=lD hr ((k.all h').mp hh').fit ((k.all w').mp hw').fit vh' vw'
 rw[e] at z1
 have nb':=(uG k hh hw hne).mp nb
 constructor
 ·rcases nb' h' hh' λi hi=>(z1 i).mp ((z2 i).mpr (.inl hi)) with q | q
  ·exact q.symm
  ·rw[q] at vh';omega
 ·rcases nb' w' hw' λi hi=>(z1 i).mp ((z2 i).mpr (.inr hi)) with q | q
  ·rw[q] at vw';omega
  ·exact q.symm
theorem zY(hr:r.length=n)(k:pI n R L):(lH n L r).Nodup:=by
 unfold lH
 rw[List.nodup_append]
 refine⟨k.nd.filter _, ?_,λx hx y hy e=> ?_⟩
 ·unfold List.Nodup
  rw[List.pairwise_flatMap]
  constructor
  ·intro h hh
   rw[List.mem_filter,decide_eq_true_eq] at hh
   rw[List.pairwise_map]
   refine List.Pairwise.imp_of_mem (λ{w w'} hw hw' hne=> ?_) ((k.nd.filter _).filter _)
   rw[List.mem_filter,List.mem_filter,decide_eq_true_eq] at hw hw'
   exact λe=>hne (Bh hr k hh.1 hw.1.1 hh.2 hw.1.2 hw.2 hh.1 hw'.1.1 hh.2 hw'.1.2 e).2
  ·refine List.Pairwise.imp_of_mem (λ{h h'} hh hh' hne x hx y hy=> ?_) (k.nd.filter _)
   rw[List.mem_filter,decide_eq_true_eq] at hh hh'
   obtain⟨w,hw,rfl⟩:=List.mem_map.mp hx
   obtain⟨w',hw',rfl⟩:=List.mem_map.mp hy
   rw[List.mem_filter,List.mem_filter,decide_eq_true_eq] at hw hw'
   exact λe=>hne (Bh hr k hh.1 hw.1.1 hh.2 hw.1.2 hw.2 hh'.1 hw'.1.1 hh'.2 hw'.1.2 e).1
 ·subst e
  rw[List.mem_filter,decide_eq_true_eq] at hx
  obtain⟨h,hh,hy⟩:=List.mem_flatMap.mp hy
  obtain⟨w,hw,e⟩:=List.mem_map.mp hy
  rw[List.mem_filter,decide_eq_true_eq] at hh
  rw[List.mem_filter,List.mem_filter,decide_eq_true_eq] at hw
  have hne:h≠w:=λe=>by rw[e] at hh;omega
  obtain⟨_,_,z1,_⟩:=lD hr ((k.all h).mp hh.1).fit ((k.all w).mp hw.1.1).fit hh.2 hw.1.2
  rw[e] at z1
  rcases(uG k hh.1 hw.1.1 hne).mp hw.2 x hx.1 λi hi=>(z1 i).mp hi with q | q
  ·rw[q] at hx;omega
  ·rw[q] at hx;omega
theorem pI.step(hr:r.length=n)(k:pI n R L):pI n (R++[r]) (lH n L r):=⟨zR hr k,zY hr k⟩
end
end M
set_option maxRecDepth 100000
set_option maxHeartbeats 4000000
namespace M
section
variable {n : Nat} {R L : List (List Int)}
end
end M
set_option maxRecDepth 100000
set_option maxHeartbeats 1000000
namespace M
end M
set_option maxRecDepth 100000
set_option maxHeartbeats 1000000
namespace M
structure Tight(left y:List Int)(a:Nat):Prop where
 pos:0<nth y a
 min:∀i,0<nth y i->nth left a*nth y i<=nth left i*nth y a
abbrev Sh:Type:=(Int×Int)×List Int
def psS(i:Nat)(T:List Sh):Int×Int:=T.foldl (λq s=>(q.1*s.1.2,s.1.2*q.2+s.1.1*q.1*nth s.2 i)) (1,0)
structure Red(n:Nat)(left y:List Int)(bot:Int)(a:Nat)(g:Int)(l':List Int)(b':Int):Prop where
 gp:0<g
 len:l'.length=n
 lv:∀i,g*nth l' i=nth left i*nth y a-nth y i*nth left a
 bv:g*b'=bot*nth y a
structure Shr(n:Nat)(R:List (List Int))(fit:List Int)(c:Nat)(ps:List (List Int))(T:List Sh)(left:List Int)(bot:Int):Prop where
 len:left.length=n
 nn:∀i,0<=nth left i
 bp:0<bot
 st:∀r∈R,bZ n (nth r) (nth left)=0
 sub:Sub left fit
 cn:T.length+cnt left<=cnt fit
 good:∀s∈T,0<s.1.1/\0<s.1.2/\Int.gcd s.1.1 s.1.2=1/\Sub s.2 fit
 sl:(T.map (·.2)).Sublist ps
 eq:∀i,bot*(psS i T).2+(psS i T).1*nth left i=(psS i T).1*bot*nth fit i
 no:∀y∈ps,¬Sub y left
 sz:SzL (c+8001*T.length) left
 szb:Sz (c+8001*T.length) bot
 szt:∀s∈T,Sz (c+8001*T.length) s.1.1/\Sz (c+8001*T.length) s.1.2
def mkS(C:Int)(i:Nat)(m:Int)(T:List Sh):Int:=T.foldl (λm s=>m+s.1.1*(C/s.1.2)*nth s.2 i) m
end M
set_option maxRecDepth 100000
set_option maxHeartbeats 4000000
namespace M
open PySem PySem.Spec PyProof.Rows L2
abbrev pyL(r:List Int):PyData:=.list (r.map PyData.int)
theorem zk:∀A:List (List Int),iq (A.map vI)=some (A.map pyL)
 | []=>by simp[iq]
 | r::A=>by simp[iq,toPy,m6,zk A]
theorem vy{O:ax}:∀A:List (List Int),bA O (A.map vI)=A.map vI
 | []=>by simp[bA]
 | r::A=>by simp[bA,res,mF,vy A]
theorem uw:∀A:List (List Int),PyData.canLayAll0 (A.map pyL)=true
 | []=>by simp[PyData.canLayAll0]
 | r::A=>by simp[PyData.canLayAll0,PyData.canLay0,lX,uw A]
theorem v3:∀A:List (List Int),PyData.depthAll (A.map pyL)<=1
 | []=>by simp[PyData.depthAll]
 | r::A=>by
  have:=v3 A
  simp[PyData.depthAll,PyData.depth,mZ]
  omega
theorem uA(A:List (List Int)):SeqAt.shaped (.list (A.map pyL))=true:=by
 have:=v3 A
 simp[SeqAt.shaped,PyData.canLay0,uw,PyData.depth]
 omega
theorem Bo:∀A B:List (List Int),PyData.eqvAll (A.map pyL) (B.map pyL)=decide (A=B)
 | [],[]=>by simp[PyData.eqvAll]
 | [],_::_=>by simp[PyData.eqvAll]
 | _::_,[]=>by simp[PyData.eqvAll]
 | a::r,b::t=>by
  simp only[List.map_cons,PyData.eqvAll,PyData.eqv,qd,Bo r t]
  by_cases h:a=b <;> by_cases h':r=t <;> simp[h,h']
theorem HH{O:ax}(A B:List (List Int)):eqB O (vII A) (vII B)=some (decide (A=B)):=by
 show fO O _ _=_
 unfold fO
 simp only[res,vy,toPy,zk,Option.map_some]
 rw[if_pos ⟨uA A,uA B⟩]
 simp only[PyData.eqv,Bo]
theorem qb{ok:ax->Prop}{g:GM}{body:SM}{d:D}{ds:List D}{s s1 s2:S}(hok:ok s.o)(hg:g d s=.ok s1)(hb:body s1=.next s2):bS ok g body (d::ds) s=bS ok g body ds s2:=by
 rw[bS,if_pos hok,hg,gA,hb]
end M
set_option maxRecDepth 100000
set_option maxHeartbeats 4000000
namespace M
open PySem PySem.Spec PyProof.Rows L2
theorem FF{α:Type}(l:List α):pick l none none (some (-1))=l.reverse:=by
 have hb:sliceBounds none none (some (-1)) l.length=((l.length:Int)-1,-1,-1):=by
  unfold sliceBounds
  rfl
 have hr:sliceRange ((l.length:Int)-1) (-1) (-1)=(List.range l.length).map λ(k:Nat)=>((l.length:Int)-1 + -1*(k:Int)).toNat:=by
  unfold sliceRange
  have hc:(if (-1:Int)>0 then (if (l.length:Int)-1 < -1 then (-1-((l.length:Int)-1) + -1-1) / -1 else 0) else (if (l.length:Int)-1 > -1 then ((l.length:Int)-1 - -1 - -1-1) / - -1 else 0)).toNat=l.length:=by
   rw[if_neg (by decide)]
   split
   ·rw[show (- -1:Int)=1 by decide,Int.ediv_one];omega
   ·omega
  dsimp only
  rw[hc]
 unfold pick
 rw[hb]
 dsimp only
 rw[hr]
 have key:∀m,m<=l.length->((List.range m).map λ(k:Nat)=>((l.length:Int)-1 + -1*(k:Int)).toNat).filterMap (l[·]?)=(l.reverse).take m:=by
  intro m
  induction m with
  | zero=>intro _;rfl
  | succ m ih=>
   intro hm
   rw[List.range_succ,List.map_append,List.filterMap_append,ih (by omega),List.take_succ,List.getElem?_reverse (by omega)]
   congr 1
   rw[List.map_singleton,show ((l.length:Int)-1 + -1*(m:Int)).toNat=l.length-1-m by omega,List.getElem?_eq_getElem (by omega)]
   simp[List.getElem?_eq_getElem (show l.length-1-m<l.length by omega)]
 rw[key l.length (Nat.le_refl _),List.take_of_length_le (by simp)]
end M
set_option maxRecDepth 100000
set_option maxHeartbeats 4000000
namespace M
open PySem PySem.Spec PyProof.Rows L2
abbrev sg(z:Str):List Nat:=z.cps.toList
theorem uN(z:Str):(sg z).length=z.length:=by unfold Str.length;simp
theorem rE{a b:Str}(h:sg a=sg b):a=b:=Str.ext' (Array.toList_inj.mp h)
theorem yp(a b:Str):sg (a++b)=sg a++sg b:=by
 show ((a++b:Str).cps).toList=_
 rw[Str.cps_append];simp
theorem zd{z:Str}{lo hi:Option Int}{a b:Nat}(hab:a<=b)(hb:b<=z.length)(h:Builtin.Str.strSliceIndices lo hi 1 z.length=(List.range (b-a)).map (λk=>a+k)):sg (kQ z lo hi)=((sg z).drop a).take (b-a):=by
 have key:(((List.range (b-a)).map (λk=>a+k)).filterMap (λi=>(sg z)[i]?))=((sg z).drop a).take (b-a):=StrLaws.picks (sg z) (b-a) a (by rw[uN];omega)
 unfold kQ
 rw[h]
 split
 ·rename_i hl
  have hl:b-a=z.length:=by simpa using hl
  have ha:a=0:=by omega
  subst ha
  rw[List.drop_zero,List.take_of_length_le (by rw[uN];omega)]
 ·rw[<- key]
  simp[sg]
theorem KJ{n b:Nat}(h:b<=n):Builtin.Str.strSliceIndices none (some (b:Int)) 1 n=(List.range (b-0)).map (λk=>0+k):=by
 rw[<- StrLaws.strSliceIndices_plain (Nat.zero_le b) h]
 unfold Builtin.Str.strSliceIndices
 simp
 rw[show max (0:Int) (min 0 (n:Int))=0 by omega]
theorem KR{n a:Nat}(h:a<=n):Builtin.Str.strSliceIndices (some (a:Int)) none 1 n=(List.range (n-a)).map (λk=>a+k):=by
 rw[<- StrLaws.strSliceIndices_plain h (Nat.le_refl n)]
 unfold Builtin.Str.strSliceIndices
 simp
 rw[if_neg (show ¬(n:Int)<0 by omega),show max (0:Int) (min (n:Int) (n:Int))=(n:Int) by omega]
theorem GW{z:Str}{b:Nat}(h:b<=z.length):sg (kQ z none (some (b:Int)))=(sg z).take b:=by
 rw[zd (Nat.zero_le b) h (KJ h),List.drop_zero,Nat.sub_zero]
theorem Iw{z:Str}{a:Nat}(h:a<=z.length):sg (kQ z (some (a:Int)) none)=(sg z).drop a:=by
 rw[zd h (Nat.le_refl _) (KR h),List.take_of_length_le]
 rw[List.length_drop,uN];omega
end M
set_option maxRecDepth 100000
set_option maxHeartbeats 4000000
namespace M
open PySem PySem.Spec PyProof.Rows L2
section
variable {s s1 s2 : S} {R R' : List (Option D)} {O O' : ax} {d x y : D} {xs ys : List D}
theorem aK{f:Op2}{ma mb:EM}(ha:ma s=.ok (x,s1))(hb:mb s1=.ok (y,s2))(hf:f s2.o x y=.ok d):aj f ma mb s=.ok (d,s2):=by
 rw[d5,ha,ai];dsimp only;rw[hb,ai];dsimp only;rw[hf,ai]
theorem tQ{f:Op1}{ma:EM}(ha:ma s=.ok (x,s1))(hf:f s1.o x=.ok d):unM f ma s=.ok (d,s1):=by
 rw[Kj,ha,ai];dsimp only;rw[hf,ai]
theorem eM{f:OpN}{ma:AM}(ha:ma s=.ok (xs,s1))(hf:f s1.o xs=.ok d):bC f ma s=.ok (d,s1):=by
 rw[jI,ha,ai];dsimp only;rw[hf,ai]
theorem aH{m:EM}{r:AM}(ha:m s=.ok (x,s1))(hb:r s1=.ok (ys,s2)):ab m r s=.ok (x::ys,s2):=by
 rw[bb,ha,ai];dsimp only;rw[hb,ai]
theorem BG{ma:AM}(ha:ma s=.ok (xs,s1))(hl:xs.length<=16777216):rO ma s=.ok (.tup xs,s1):=by
 rw[AZ,ha,ai];dsimp only;rw[if_pos hl]
theorem Gr{ma:AM}(ha:ma s=.ok (xs,s1))(hl:xs.length<=16777216):vN ma s=.ok (.lst xs,s1):=by
 rw[G1,ha,ai];dsimp only;rw[if_pos hl]
theorem nJ{ma:AM}{n:Nat}(ha:ma s=.ok (xs,⟨R,O⟩))(hl:xs.length<=16777216)(hn:O.length=n)(hO:O++[.lst xs]=O'):jc ma s=.ok (.ptr n,⟨R,O'⟩):=by
 rw[Hh,ha,ai];dsimp only;rw[if_pos hl,hn,hO]
theorem fB{m:EM}{b:Bool}(h:m s=.ok (.bl b,s1)):aZ m s=.ok (b,s1):=by
 rw[hX,h,ai]
theorem uk{m:TM}{b:Bool}(h:m s=.ok (b,s1)):kR m s=.ok (!b,s1):=by
 rw[u6,h,ai]
theorem Fo{a b:TM}{p q:Bool}(h:a s=.ok (p,s1))(h2:b s1=.ok (q,s1)):orT a b s=.ok (p||q,s1):=by
 rw[ux,h,ai];dsimp only;cases p
 ·rw[if_neg (by decide),h2];rfl
 ·rfl
theorem GI{a b:TM}{p q:Bool}(h:a s=.ok (p,s1))(hp:p=false)(h2:b s1=.ok (q,s2)):orT a b s=.ok (q,s2):=by
 subst hp;rw[ux,h,ai];exact h2
theorem bu{m:EM}{i:Nat}(h:m s=.ok (d,⟨R,O⟩))(hR:R.set i (some d)=R'):setM i m s=.next ⟨R',O⟩:=by
 subst hR;exact iL h
theorem oy{mo me:EM}{k:Nat}{ds0 ds:List D}(h1:mo s=.ok (.ptr k,s1))(c1:s1.o[k]? =some (.lst ds0))(h2:me s1=.ok (d,⟨R,O⟩))(c2:O[k]? =some (.lst ds))(hb:ds.length<=1000000)(hO:O.set k (.lst (ds++[d]))=O'):kn mo me s=.ok (.non,⟨R,O'⟩):=by
 subst hO;exact vk (s2:=⟨R,O⟩) h1 c1 h2 c2 hb
theorem mM{m:EM}{k:Nat}{ds:List D}(h:m s=.ok (.ptr k,⟨R,O⟩))(c:O[k]? =some (.lst ds))(hO:O.set k .dead=O'):jx m s=.ok (.lst ds,⟨R,O'⟩):=by
 subst hO;exact Hi h c
theorem J7{f:List D->Option (List D×D)}{mo:EM}{k:Nat}{ds es:List D}(h:mo s=.ok (.ptr k,⟨R,O⟩))(hc:O[k]? =some (.lst ds))(hf:f ds=some (es,d))(hO:O.set k (.lst es)=O'):sm f mo s=.ok (d,⟨R,O'⟩):=by
 subst hO
 unfold sm
 rw[h,ai]
 dsimp only
 rw[jn hc]
 dsimp only
 rw[hf]
theorem Hd{m:EM}{n:Nat}{ds:List D}(h:m s=.ok (x,⟨R,O⟩))(hs:rW O x=some ds)(hn:O.length=n)(hO:O++[.lst ds]=O'):xH m s=.ok (.ptr n,⟨R,O'⟩):=by
 rw[EY,h,ai];dsimp only;rw[hs];dsimp only;rw[hn,hO]
theorem KY{c:Nat}{f:Str}{m:EM}{ns:List Str}{ds:List D}(h:m s=.ok (.obj c ns ds,s1))(hd:pC f ns ds=some d):qL c f m s=.ok (d,s1):=by
 rw[HK,h,ai]
 dsimp only
 rw[if_pos rfl,hd]
theorem va{c n:Nat}{m:Str}{f:FM}{mo:EM}{ma:AM}{ns:List Str}{ds args:List D}{O1:ax}(ho:mo s=.ok (.obj c ns ds,s1))(ha:ma s1=.ok (args,s2))(hf:f (.obj c ns ds::args) []=.ok (x,O1))(hm:m∉ns)(hd:aL ds=true)(hp:aL args=true)(hl:args.length=n)(hr:cI x=true):
 methP c m n f mo ma s=.ok (x,s2):=Fl ho hm hd ha hp hl hf hr
theorem iO{n:Nat}{f:FM}{ma:AM}{ds:List D}{O1:ax}(h:ma s=.ok (ds,s1))(hf:f ds []=.ok (d,O1))(hp:aL ds=true)(hl:ds.length=n)(hd:cI d=true):aO n f ma s=.ok (d,s1):=cq h hp hl hf hd
theorem kA{n:Nat}{f:FM}{ma:AM}{ds:List D}{O1:ax}(h:ma s=.ok (ds,⟨R,O⟩))(hf:f ds []=.ok (x,O1))(hp:aL ds=true)(hl:ds.length=n)(hx:shD O.length x=y)(hO:O++O1.map (shC O.length)=O'):gE n f ma s=.ok (y,⟨R,O'⟩):=by
 subst hx;subst hO;exact Fj h hp hl hf
theorem Ba{n:Nat}{f:FM}{ma:AM}{ds rs:List D}{O1:ax}(h:ma s=.ok (ds,s1))(hr:bA s1.o (bA s1.o ds)=rs)(hf:f rs []=.ok (d,O1))(hp:aL rs=true)(hl:ds.length=n)(hd:m7 d=true):ja n f ma s=.ok (d,s1):=by
 unfold ja
 rw[h,ai]
 dsimp only
 rw[hr,if_pos ⟨hp,hl⟩,hf]
 dsimp only
 rw[if_pos hd]
theorem u7{n:Nat}{f:FM}{ma:AM}{ds:List D}{O1:ax}(h:ma s=.ok (ds,⟨R,O⟩))(hf:f ds O=.ok (d,O1))(hl:ds.length=n):jY n f ma s=.ok (d,⟨R,O1⟩):=Fe h hl hf
theorem K5{c:TM}{A B:SM}{p:Bool}(h:c s=.ok (p,s1))(hp:p=true):ifS c A B s=A s1:=by subst hp;exact BY h
theorem K7{c:TM}{A B:SM}{p:Bool}(h:c s=.ok (p,s1))(hp:p=false):ifS c A B s=B s1:=by subst hp;exact lS h
theorem p8(s:S):iF s=.ok (none,s):=rfl
theorem yR{m:EM}{i:Int}(h:m s=.ok (.int i,s1)):part m s=.ok (some i,s1):=by rw[Bm,h,ai]
theorem Gx{m:EM}{g:GM}(h:m s=.ok (d,s1))(hg:g d s1=.ok s2):kX m g s=.next s2:=by
 rw[AS,h,ai];dsimp only;rw[hg,gA]
theorem IH{g h:GM}{a b:D}(h1:g a s=.ok s1)(h2:h b s1=.ok s2):cH (aQ g (aQ h cN)) 2 (.tup [a,b]) s=.ok s2:=by
 rw[nF,h1,ai,h2]
end
section
variable {s s1 : S} {o : Out}
theorem aU{a b:SM}(h:a s=.next s1)(k:b s1=o):aJ a b s=o:=(cL h).trans k
theorem jX{c:TM}{A B:SM}{p:Bool}(h:c s=.ok (p,s1))(hp:p=true)(k:A s1=o):ifS c A B s=o:=(K5 h hp).trans k
theorem eN{c:TM}{A B:SM}{p:Bool}(h:c s=.ok (p,s1))(hp:p=false)(k:B s1=o):ifS c A B s=o:=(K7 h hp).trans k
theorem en{n:Nat}{m:SM}{ds:List D}{O O1:ax}{d:D}{R:List (Option D)}(h:m ⟨ds.map some++List.replicate (n-ds.length) none,O⟩=.ret d ⟨R,O1⟩):runM n m ds O=.ok (d,O1):=dF h
end
end M
set_option maxRecDepth 100000
set_option maxHeartbeats 4000000
namespace M
open PySem PySem.Spec PyProof.Rows L2
section
variable {s s1 s2 : S} {c : Nat} {a : D} {o : Out}
end
end M
set_option maxRecDepth 100000
set_option maxHeartbeats 4000000
namespace M
open PySem PySem.Spec PyProof.Rows L2
theorem Bj{n:Nat}{f:FM}{ma:AM}{s:S}{R:List (Option D)}{O O1 O':ax}{x y:D}{ds rs:List D}(h:ma s=.ok (ds,⟨R,O⟩))(hr:bA O (bA O ds)=rs)(hf:f rs []=.ok (x,O1))(hp:aL rs=true)(hl:ds.length=n)(hd:qg x=true)(hO1:O1.all um=true)(hx:shD O.length x=y)(hO:O++O1.map (shC O.length)=O'):p7 n f ma s=.ok (y,⟨R,O'⟩):=by
 subst hx;subst hO
 unfold p7
 rw[h,ai]
 dsimp only
 rw[hr,if_pos ⟨hp,hl⟩,hf]
 dsimp only
 rw[if_pos ⟨hd,hO1⟩]
abbrev bt(L:List (Nat×List Int)):List D:=L.map λp=>.ptr p.1
def Sto(O:ax)(L:List (Nat×List Int)):Prop:=∀p∈L,O[p.1]? =some (.lst (p.2.map D.int))
theorem Sto.app{O:ax}{L:List (Nat×List Int)}(h:Sto O L)(E:ax):Sto (O++E) L:=λp hp=>cy (h p hp)
theorem Sto.set{O:ax}{L:List (Nat×List Int)}(h:Sto O L){k:Nat}(hk:∀p∈L,p.1≠k)(c:Cell):Sto (O.set k c) L:=λp hp=>by rw[cB λz=>hk p hp z.symm];exact h p hp
theorem Sto.lt{O:ax}{L:List (Nat×List Int)}(h:Sto O L){p:Nat×List Int}(hp:p∈L):p.1<O.length:=nU (h p hp)
theorem uQ{α:Type}{ok:ax->Prop}{e:EM}{cap:List (Option D)}{item:α->D}{f:α->List Int}{T:α->Nat->Prop}(I:ax->Prop)(hI:∀O E,I O->I (O++E))(hok:∀O,I O->ok O):
 ∀(l:List α) (acc:List D) (x:Option D) (O:ax),I O->acc.length+l.length<=16777216->
 (∀a∈l,∀O,I O->∃q E,e ⟨some (item a)::cap,O⟩=.ok (.ptr q,⟨some (item a)::cap,O++E⟩)/\(O++E)[q]? =some (.lst ((f a).map D.int))/\(T a q\/O.length<=q))->
 ∃(L:List (Nat×List Int)) (E:ax) (x':Option D),cW ok (aA 0) cE e (l.map item) acc ⟨x::cap,O⟩=.ok (acc++bt L,⟨x'::cap,O++E⟩)/\L.map (·.2)=l.map f/\Sto (O++E) L/\∀p∈L,(∃a∈l,T a p.1)\/O.length<=p.1
 | [],acc,x,O,h,_,_=>⟨[],[],x,by rw[List.map_nil,cW,if_pos (hok _ h)];simp,rfl,(λp hp=>by cases hp),(λp hp=>by cases hp)⟩
 | a::l,acc,x,O,h,hl,he=>by
  obtain⟨q,E,e1,e2,e3⟩:=he a List.mem_cons_self O h
  rw[List.length_cons] at hl
  obtain⟨L,E',x',e4,e5,e6,e7⟩:=uQ (T:=T) I hI hok l (acc++[.ptr q]) (some (item a)) (O++E) (hI O E h) (by simp;omega) (λa ha=>he a (List.mem_cons_of_mem _ ha))
  refine⟨(q,f a)::L,E++E',x', ?_,by simp[e5],λp hp=> ?_,λp hp=> ?_⟩
  ·rw[List.map_cons,cW,if_pos ⟨hok _ h,by omega⟩,tq,ai,EH,ai]
   dsimp only
   rw[if_pos rfl,show (⟨List.set (x::cap) 0 (some (item a)),O⟩:S)=⟨some (item a)::cap,O⟩ from rfl,e1,ai]
   dsimp only
   rw[e4]
   simp
  ·rw[<- List.append_assoc]
   rcases List.mem_cons.mp hp with rfl | hp
   ·exact cy e2
   ·exact e6 p hp
  ·rcases List.mem_cons.mp hp with rfl | hp
   ·rcases e3 with e3 | e3
    ·exact .inl ⟨a,List.mem_cons_self,e3⟩
    ·exact .inr e3
   ·rcases e7 p hp with⟨b,hb,z⟩ | z
    ·exact .inl ⟨b,List.mem_cons_of_mem _ hb,z⟩
    ·exact .inr (by rw[List.length_append] at z;omega)
theorem rq {α:Type} {l:List α} {item:α->D} {f:α->List Int} {T:α->Nat->Prop} {caps:List Nat} {im:IM} {e:EM} {k:Option Nat} {R:List (Option D)} {O:ax} (I:ax->Prop) (hI:∀O E,I O->I (O++E)) (h0:I O) (him:im ⟨R,O⟩=.ok ((l.map item,k),⟨R,O⟩)) (hok:∀O,I O->okC (l.map item) k O) (hl:l.length<=1000000)
 (he:∀a∈l,∀O,I O->∃q E,e ⟨some (item a)::caps.map (λi=>(R[i]?).getD none),O⟩=.ok (.ptr q,⟨some (item a)::caps.map (λi=>(R[i]?).getD none),O++E⟩)/\(O++E)[q]? =some (.lst ((f a).map D.int))/\(T a q\/O.length<=q)):
 ∃(L:List (Nat×List Int)) (E:ax),md 1 caps im (aA 0) cE e ⟨R,O⟩=.ok (.ptr (O++E).length,⟨R,O++E++[.lst (bt L)]⟩)/\L.map (·.2)=l.map f/\Sto (O++E) L/\∀p∈L,(∃a∈l,T a p.1)\/O.length<=p.1:=by
 obtain⟨L,E,x',e1,e2,e3,e4⟩:=uQ (ok:=okC (l.map item) k) (e:=e) (cap:=caps.map (λi=>(R[i]?).getD none)) (T:=T) I hI hok l [] none O h0 (by simp;omega) he
 refine⟨L,E, ?_,e2,e3,e4⟩
 rw[zt,qe,him,ai]
 dsimp only
 rw[show lL 1 caps R=none::caps.map (λi=>(R[i]?).getD none) from rfl,e1,ai,ai]
 rfl
theorem qR{α:Type}{ok:ax->Prop}{c:TM}{e:EM}{cap:List (Option D)}{f g:α->D}{p:α->Bool}{out:α->D}(I:ax->Prop)(hI:∀O E,I O->I (O++E))(hok:∀O,I O->ok O):
 ∀(l:List α) (acc:List D) (x y:Option D) (O:ax),I O->acc.length+l.length<=16777216->
 (∀a∈l,∀O,I O->c ⟨some (f a)::some (g a)::cap,O⟩=.ok (p a,⟨some (f a)::some (g a)::cap,O⟩))->
 (∀a∈l,p a=true->∀O,I O->∃E,e ⟨some (f a)::some (g a)::cap,O⟩=.ok (out a,⟨some (f a)::some (g a)::cap,O++E⟩))->
 ∃(E:ax) (x' y':Option D),cW ok (cH (aQ (aA 0) (aQ (aA 1) cN)) 2) c e (l.map λa=>.tup [f a,g a]) acc ⟨x::y::cap,O⟩=.ok (acc++(l.filter p).map out,⟨x'::y'::cap,O++E⟩)
 | [],acc,x,y,O,h,_,_,_=>⟨[],x,y,by rw[List.map_nil,cW,if_pos (hok _ h)];simp⟩
 | a::l,acc,x,y,O,h,hl,hc,he=>by
  rw[List.length_cons] at hl
  have h1:=hc a List.mem_cons_self O h
  have st:cW ok (cH (aQ (aA 0) (aQ (aA 1) cN)) 2) c e ((a::l).map λa=>.tup [f a,g a]) acc ⟨x::y::cap,O⟩=if p a=true then (e ⟨some (f a)::some (g a)::cap,O⟩).bind λz=>cW ok (cH (aQ (aA 0) (aQ (aA 1) cN)) 2) c e (l.map λa=>.tup [f a,g a]) (acc++[z.1]) z.2 else cW ok (cH (aQ (aA 0) (aQ (aA 1) cN)) 2) c e (l.map λa=>.tup [f a,g a]) acc ⟨some (f a)::some (g a)::cap,O⟩:=by
   rw[List.map_cons,cW,if_pos ⟨hok _ h,by omega⟩,IH (s1:=⟨some (f a)::y::cap,O⟩) (s2:=⟨some (f a)::some (g a)::cap,O⟩) rfl rfl,ai,h1,ai]
  rw[st]
  by_cases hp:p a=true
  ·obtain⟨E,e1⟩:=he a List.mem_cons_self hp O h
   obtain⟨E',x',y',e2⟩:=qR I hI hok l (acc++[out a]) (some (f a)) (some (g a)) (O++E) (hI O E h) (by simp;omega) (λb hb=>hc b (List.mem_cons_of_mem _ hb)) (λb hb=>he b (List.mem_cons_of_mem _ hb))
   refine⟨E++E',x',y', ?_⟩
   rw[if_pos hp,e1,ai]
   dsimp only
   rw[e2,List.filter_cons_of_pos hp,List.append_assoc,List.append_assoc]
   rfl
  ·obtain⟨E',x',y',e2⟩:=qR I hI hok l acc (some (f a)) (some (g a)) O h (by omega) (λb hb=>hc b (List.mem_cons_of_mem _ hb)) (λb hb=>he b (List.mem_cons_of_mem _ hb))
   exact⟨E',x',y',by rw[if_neg hp,e2,List.filter_cons_of_neg hp]⟩
theorem BP {α:Type} {l:List α} {f g:α->D} {p:α->Bool} {out:α->D} {caps:List Nat} {im:IM} {c:TM} {e:EM} {k:Option Nat} {R:List (Option D)} {O:ax} (I:ax->Prop) (hI:∀O E,I O->I (O++E)) (h0:I O) (him:im ⟨R,O⟩=.ok ((l.map λa=>.tup [f a,g a],k),⟨R,O⟩)) (hok:∀O,I O->okC (l.map λa=>.tup [f a,g a]) k O) (hl:l.length<=1000000)
 (hc:∀a∈l,∀O,I O->c ⟨some (f a)::some (g a)::caps.map (λi=>(R[i]?).getD none),O⟩=.ok (p a,⟨some (f a)::some (g a)::caps.map (λi=>(R[i]?).getD none),O⟩))
 (he:∀a∈l,p a=true->∀O,I O->∃E,e ⟨some (f a)::some (g a)::caps.map (λi=>(R[i]?).getD none),O⟩=.ok (out a,⟨some (f a)::some (g a)::caps.map (λi=>(R[i]?).getD none),O++E⟩)):
 ∃E,cO 2 caps im (cH (aQ (aA 0) (aQ (aA 1) cN)) 2) c e ⟨R,O⟩=.ok (.lst ((l.filter p).map out),⟨R,O++E⟩):=by
 obtain⟨E,x',y',e1⟩:=qR (ok:=okC (l.map λa=>.tup [f a,g a]) k) (cap:=caps.map (λi=>(R[i]?).getD none)) (p:=p) (out:=out) I hI hok l [] none none O h0 (by simp;omega) hc he
 refine⟨E, ?_⟩
 rw[pT,qe,him,ai]
 dsimp only
 rw[show lL 2 caps R=none::none::caps.map (λi=>(R[i]?).getD none) from rfl,e1,ai,ai]
 rfl
theorem ET(O:ax)(c d:Cell):(O++[c]).set O.length d=O++[d]:=by
 induction O with
 | nil=>rfl
 | cons a O ih=>exact congrArg (a:: ·) ih
end M
set_option maxRecDepth 100000
set_option maxHeartbeats 4000000
namespace M
open PySem PySem.Spec PyProof.Rows L2
section
variable {α β : Type} (f g : α → β)
end
end M
set_option maxRecDepth 100000
set_option maxHeartbeats 4000000
namespace Lk26
open PySem PySem.Spec PyProof.Rows L2 M
def top(i:Nat):Stmt:=PySem.Challenge.pw_modeyard_k26_kept_sums.main.body.getD i (.Pass ⟨0,0,0,0⟩)
abbrev jO:Stmt:=top 8
abbrev eJ:Stmt:=top 9
abbrev kx:Stmt:=top 10
abbrev lK:Stmt:=top 11
abbrev eC:Stmt:=top 13
abbrev oV:Stmt:=top 14
abbrev m9:Stmt:=top 15
abbrev lJ:Stmt:=top 16
abbrev lN:Stmt:=top 17
abbrev d3:Stmt:=top 18
abbrev eB:Stmt:=top 19
abbrev kB:Stmt:=top 20
abbrev nh:Stmt:=top 21
abbrev dI:Stmt:=top 22
abbrev nr:Stmt:=top 23
abbrev gv:Stmt:=inClass (top 42) 4
abbrev g6:Stmt:=inClass (top 42) 3
abbrev ky:Stmt:=top 25
abbrev hJ:Stmt:=inClass (top 42) 1
abbrev pe:Stmt:=top 26
abbrev kv:Stmt:=top 31
abbrev gP:Stmt:=top 32
abbrev gW:Stmt:=top 33
abbrev gi:Stmt:=top 34
abbrev g5:Stmt:=top 35
abbrev fI:Stmt:=top 36
abbrev gn:Stmt:=top 37
abbrev gs:Stmt:=top 38
abbrev iW:Stmt:=top 39
abbrev iQ:Stmt:=top 40
abbrev iZ:Stmt:=top 41
abbrev iV:Stmt:=inClass (top 42) 0
abbrev jG:Stmt:=top 44
abbrev jQ:Stmt:=top 45
abbrev iJ:Stmt:=top 46
abbrev jL:Stmt:=top 47
abbrev gw:Stmt:=top 48
abbrev gf:Stmt:=top 49
abbrev iN:Stmt:=top 50
abbrev g0:Stmt:=top 51
abbrev gd:Stmt:=top 52
abbrev jM:Stmt:=top 53
abbrev fK:Stmt:=top 54
abbrev iR:Stmt:=top 55
abbrev mY:Stmt:=top 56
def caK(K:PySem.W.Frag):Nat->Addr:=λn=>match n with
 | 0=>clsAt K "Yard"
 | _=>0
noncomputable def mL:SM:=
 (bH (yj (unM (ir "int") (aa 0)) (zy (unM (ir "bool") (aa 0)))))
noncomputable def jV:FM:=runM 1 mL
noncomputable def rG:SM:=
 (aJ (setM 2 (aj fb (aa 0) (aa 1)))
 (aJ (setM 0 (aa 1))
 (setM 1 (aa 2))))
noncomputable def kh:SM:=
 (aJ (setM 0 (bC rf (ab (aa 0) ak)))
 (aJ (setM 1 (bC rf (ab (aa 1) ak)))
 (aJ (rn (λs=>sk 1 s) (aZ (aj neD (aa 1) (ao (.int 0))))
 rG)
 (bH (aa 0)))))
noncomputable def fN:FM:=runM 3 kh
noncomputable def lZ:SM:=
 (setM 1 (aO 2 fN (ab (aa 1) (ab (aa 2) ak))))
noncomputable def kJ:SM:=
 (aJ (setM 1 (ao (.int 0)))
 (aJ (eG (listI (aa 0)) (aA 2)
 lZ)
 (bH (aa 1))))
noncomputable def kC:FM:=runM 3 kJ
noncomputable def ip:SM:=
 (aJ (setM 1 (aO 1 kC (ab (aa 0) ak)))
 (aJ (ifS (aZ (aj eqD (aa 1) (ao (.int 0))))
 (bH (xH (aa 0)))
 bN)
 (bH (md 1 [1] (listI (aa 0)) (aA 0) cE (aj gx (aa 0) (aa 1))))))
noncomputable def ik:FM:=runM 2 ip
noncomputable def fA:SM:=
 (bH (bC qQ (ab (cO 2 [] (rB (ab (aa 0) (ab (aa 1) ak))) (cH (aQ (aA 0) (aQ (aA 1) cN)) 2) cE (aj di (aa 0) (aa 1))) ak)))
noncomputable def dG:FM:=runM 2 fA
noncomputable def qJ:SM:=
 (aJ (setM 2 (yU Cq (ab (ao (.int 0)) ak) (aa 1)))
 (aJ (kX (ao (.int 1)) (oQ (aa 2) (aa 0)))
 (bH (jx (aa 2)))))
noncomputable def oR:FM:=runM 3 qJ
noncomputable def oS:SM:=
 (bH (cO 1 [0] (ij (ab (aa 0) ak)) (aA 0) cE (aO 2 oR (ab (aa 0) (ab (aa 1) ak)))))
noncomputable def nk:FM:=runM 1 oS
noncomputable def kl:SM:=
 (aJ (setM 4 (cO 2 [1,3] (rB (ab (aa 0) (ab (aa 2) ak))) (cH (aQ (aA 0) (aQ (aA 1) cN)) 2) cE (aj gO (aj di (aa 0) (aa 3)) (aj di (aa 1) (aa 2)))))
 (bH (gE 1 ik (ab (aa 4) ak))))
noncomputable def gN:FM:=runM 5 kl
noncomputable def n8:SM:=
 (bH (cO 1 [1] (listI (aa 0)) (aA 0) cE (aj ixD (aa 0) (aa 1))))
noncomputable def lG:FM:=runM 2 n8
noncomputable def bV:SM:=
 (ifS (aZ (aj neD (aa 2) (ao (.int 0))))
 (bH (aa 1))
 bN)
noncomputable def cQ:SM:=
 (aJ (eG (dv (ab (aa 0) ak)) (cH (aQ (aA 1) (aQ (aA 2) cN)) 2)
 bV)
 (bH (ao .non)))
noncomputable def cG:FM:=runM 3 cQ
noncomputable def dE:SM:=
 (aJ (ifS (aZ (aj gtD (aj ixD (aa 0) (aa 1)) (ao (.int 0))))
 (bH (aa 0))
 bN)
 (bH (md 1 [] (listI (aa 0)) (aA 0) cE (unM kr (aa 0)))))
noncomputable def eD:FM:=runM 2 dE
noncomputable def ib:SM:=
 (aJ (ifS (aZ (aj eqD (aj ixD (aa 0) (aa 2)) (ao (.int 0))))
 (bH (aa 0))
 bN)
 (bH (p7 4 gN (ab (aa 0) (ab (aj ixD (aa 0) (aa 2)) (ab (aa 1) (ab (aj ixD (aa 1) (aa 2)) ak)))))))
noncomputable def fH:FM:=runM 3 ib
noncomputable def jl:SM:=
 (aJ (setM 5 (aO 1 cG (ab (jY 2 lG (ab (aa 2) (ab (aa 4) ak))) ak)))
 (ifS (aZ (aj n9 (aa 5) (ao .non)))
 (aJ (setM 6 (jY 2 eD (ab (zC (aa 2) (aa 5)) (ab (aa 4) ak))))
 (aJ (setM 2 (md 1 [4,6] (listI (aa 2)) (aA 0) cE (jY 3 fH (ab (aa 0) (ab (aa 2) (ab (aa 1) ak))))))
 (aJ (setM 3 (md 1 [4,6] (listI (aa 3)) (aA 0) cE (jY 3 fH (ab (aa 0) (ab (aa 2) (ab (aa 1) ak))))))
 (dR (kn (aa 3) (aa 6))))))
 bN))
noncomputable def lI:SM:=
 (aJ (setM 2 (md 1 [] (listI (aa 0)) (aA 0) cE (gE 1 ik (ab (aa 0) ak))))
 (aJ (setM 3 (jc ak))
 (aJ (eG (ij (ab (aa 1) ak)) (aA 4)
 jl)
 (bH (aa 3)))))
noncomputable def jW:FM:=runM 7 lI
noncomputable def eH:SM:=
 (aJ (setM 2 (cO 1 [1] (listI (aa 0)) (aA 0) cE (aO 2 dG (ab (aa 1) (ab (aa 0) ak)))))
 (aJ (setM 3 (aO 1 cG (ab (aa 2) ak)))
 (aJ (ifS (aZ (aj isD (aa 3) (ao .non)))
 (bH (aa 0))
 bN)
 (aJ (setM 4 (aj ixD (aa 0) (aa 3)))
 (aJ (setM 5 (aj ixD (aa 2) (aa 3)))
 (bH (cO 2 [4,5,3,2] (dv (ab (aa 0) ak)) (cH (aQ (aA 0) (aQ (aA 1) cN)) 2) (aZ (aj neD (aa 0) (aa 4))) (jx (p7 4 gN (ab (aa 1) (ab (aj ixD (aa 5) (aa 0)) (ab (aa 2) (ab (aa 3) ak)))))))))))))
noncomputable def dH:FM:=runM 6 eH
noncomputable def oC:SM:=
 (setM 2 (aO 2 dH (ab (aa 2) (ab (aa 3) ak))))
noncomputable def pq:SM:=
 (aJ (setM 2 (aO 1 nk (ab (aa 1) ak)))
 (aJ (eG (listI (aa 0)) (aA 3)
 oC)
 (bH (gE 2 jW (ab (aa 2) (ab (aa 1) ak))))))
noncomputable def o4:FM:=runM 4 pq
noncomputable def iw:SM:=
 (bH (bC fV (ab (aj ixD (qL 0 "held_changes" (aa 0)) (aa 1)) ak)))
noncomputable def gc:FM:=runM 2 iw
noncomputable def jv:SM:=
 (bH (cO 1 [] (listI (qL 0 "held_works" (aa 0))) (aA 0) cE (aj ixD (aa 0) (ao (.int 0)))))
noncomputable def gT:FM:=runM 1 jv
noncomputable def mG:SM:=
 (bH (cO 1 [0] (ij (ab (bC dC (ab (methP 0 "names" 0 gT (aa 0) ak) ak)) ak)) (aA 0) cE (methP 0 "change" 1 gc (aa 1) (ab (aa 0) ak))))
noncomputable def mH:FM:=runM 1 mG
noncomputable def jk:SM:=
 (bH (bC fV (ab (qL 0 "held_goods" (aa 0)) ak)))
noncomputable def jz:FM:=runM 1 jk
noncomputable def o7:SM:=
 (bH (gE 2 o4 (ab (aO 1 mH (ab (aa 0) ak)) (ab (bC dC (ab (methP 0 "goods" 0 jz (aa 0) ak) ak)) ak))))
noncomputable def lg:FM:=runM 1 o7
noncomputable def my:SM:=
 (aJ (ifS (orT (aZ (aj ltD (bC dC (ab (aa 0) ak)) (ao (.int 1)))) (aZ (aj gtD (bC dC (ab (aa 0) ak)) (ao (.int 8)))))
 (bH (ao (.bl false)))
 bN)
 (bH (bC vq (ab (cO 1 [] (Ci (aa 0)) (aA 0) cE (qN pF pF (ao (.str ("a" :Str))) (aa 0) (ao (.str ("z" :Str))))) ak))))
noncomputable def kE:FM:=runM 1 my
noncomputable def jm:SM:=
 (aJ (ifS (aZ (aj gtD (bC dC (ab (aa 0) ak)) (ao (.int 10))))
 qD
 bN)
 (ifS (aZ (aj gtD (bC dC (ab (aa 1) ak)) (ao (.int 10))))
 qD
 bN))
noncomputable def hW:FM:=runM 2 jm
noncomputable def fP:SM:=
 (aJ (ifS (kR (aZ (aO 1 kE (ab (aa 0) ak))))
 qD
 bN)
 (ifS (aZ (aj inD (aa 0) (aa 1)))
 qD
 bN))
noncomputable def d9:FM:=runM 2 fP
noncomputable def i5:SM:=
 (dR (aO 2 d9 (ab (aa 2) (ab (slM (aa 0) iF (part (aa 1))) ak))))
noncomputable def iC:SM:=
 (eG (dv (ab (aa 0) ak)) (cH (aQ (aA 1) (aQ (aA 2) cN)) 2)
 i5)
noncomputable def gj:FM:=runM 3 iC
noncomputable def jy:SM:=
 (aJ (ifS (aZ (aj qS (aa 0) (aa 1)))
 qD
 bN)
 (ifS (aZ (aj inD (aa 0) (aa 2)))
 qD
 bN))
noncomputable def hC:FM:=runM 3 jy
noncomputable def hZ:SM:=
 (ifS (orT (kR (aZ (aO 1 jV (ab (aa 0) ak)))) (aZ (aj ltD (aa 0) (ao (.int 1)))))
 qD
 bN)
noncomputable def fJ:FM:=runM 1 hZ
noncomputable def i6:SM:=
 (aJ (dR (ja 3 hC (ab (aa 3) (ab (aa 1) (ab (aa 2) ak)))))
 (aJ (dR (aO 1 fJ (ab (aa 4) ak)))
 (dR (kn (aa 2) (aa 3)))))
noncomputable def fZ:SM:=
 (aJ (setM 2 (jc ak))
 (eG (listI (aa 0)) (cH (aQ (aA 3) (aQ (aA 4) cN)) 2)
 i6))
noncomputable def dS:FM:=runM 5 fZ
noncomputable def i8:SM:=
 (aJ (dR (ja 2 d9 (ab (aa 3) (ab (aa 2) ak))))
 (aJ (dR (aO 2 dS (ab (aa 4) (ab (aa 1) ak))))
 (aJ (dR (aO 2 dS (ab (aa 5) (ab (aa 1) ak))))
 (dR (kn (aa 2) (aa 3))))))
noncomputable def iH:SM:=
 (aJ (setM 2 (jc ak))
 (eG (listI (aa 0)) (cH (aQ (aA 3) (aQ (aA 4) (aQ (aA 5) cN))) 3)
 i8))
noncomputable def gb:FM:=runM 6 iH
noncomputable def j8:SM:=
 (bH (rO (ab (aj ixD (aa 0) (ao (.int 0))) (ab (bC fV (ab (aj ixD (aa 0) (ao (.int 1))) ak)) (ab (bC fV (ab (aj ixD (aa 0) (ao (.int 2))) ak)) ak)))))
noncomputable def iY:FM:=runM 1 j8
noncomputable def iX:SM:=
 (bH (bC qQ (ab (cO 1 [0] (listI (aa 1)) (aA 0) (aZ (aj eqD (aj ixD (aa 0) (ao (.int 0))) (aa 1))) (aj ixD (aa 0) (ao (.int 1)))) ak)))
noncomputable def dN:FM:=runM 2 iX
noncomputable def j3:SM:=
 (bH (cO 1 [0] (listI (aa 1)) (aA 0) cE (aj gO (aO 2 dN (ab (aa 0) (ab (aj ixD (aa 1) (ao (.int 2))) ak))) (aO 2 dN (ab (aa 0) (ab (aj ixD (aa 1) (ao (.int 1))) ak))))))
noncomputable def iK:FM:=runM 2 j3
noncomputable def j7:SM:=
 (aJ (dR (aO 2 hW (ab (aa 1) (ab (aa 2) ak))))
 (aJ (dR (aO 1 gj (ab (aa 1) ak)))
 (aJ (dR (aO 2 gb (ab (aa 2) (ab (aa 1) ak))))
 (aJ (pH 0 "held_goods" (aa 0) (bC fV (ab (aa 1) ak)))
 (aJ (pH 0 "held_works" (aa 0) (cO 1 [] (listI (aa 2)) (aA 0) cE (aO 1 iY (ab (aa 0) ak))))
 (pH 0 "held_changes" (aa 0) (cO 1 [1] (listI (aa 2)) (aA 0) cE (aO 2 iK (ab (aa 0) (ab (aa 1) ak))))))))))
noncomputable def gL:FM:=runM 3 j7
noncomputable def gC:SM:=
 (aJ (ifS (aZ (aj ltD (aa 1) (bC dC (ab (aa 0) ak))))
 (bH (aj ixD (aa 0) (aa 1)))
 bN)
 (bH (ao (.int 0))))
noncomputable def dh:FM:=runM 2 gC
noncomputable def bJ:SM:=
 (aJ (setM 3 (aj fb (aj di (aj bL (aj fb (aa 0) (ao (.int 2147483647))) (ao (.int 7))) (aj bL (ao (.int 48271)) (aj di (ao (.int 7919)) (aa 1)))) (ao (.int 2147483647))))
 (bH (aj fb (aj gx (aj fb (aj di (aa 3) (ao (.int 16807))) (ao (.int 2147483647))) (ao (.int 8))) (aa 2))))
noncomputable def aM:FM:=runM 4 bJ
noncomputable def iz:SM:=
 (setM 3 (aj bL (aa 3) (aj ixD (aa 2) (aO 3 aM (ab (aa 0) (ab (aj bL (ao (.int 2)) (aa 4)) (ab (ao (.int 26)) ak)))))))
noncomputable def iU:SM:=
 (aJ (setM 2 (ao (.str ("abcdefghijklmnopqrstuvwxyz" :Str))))
 (aJ (setM 3 (ao (.str ("" :Str))))
 (aJ (eG (ij (ab (aO 3 aM (ab (aa 0) (ab (ao (.int 1)) (ab (ao (.int 8)) ak)))) ak)) (aA 4)
 iz)
 (aJ (setM 5 (aO 3 aM (ab (aa 0) (ab (ao (.int 10)) (ab (aj bL (bC dC (ab (aa 3) ak)) (ao (.int 1))) ak)))))
 (aJ (setM 6 (aO 3 aM (ab (aa 0) (ab (ao (.int 11)) (ab (ao (.int 26)) ak)))))
 (bH (cO 1 [6,2,5,3] (ij (ab (aa 1) ak)) (aA 0) cE (aj bL (aj bL (slS (aa 4) iF (part (aa 3))) (aj ixD (aa 2) (aj fb (aj bL (aa 1) (aj di (ao (.int 5)) (aa 0))) (ao (.int 26))))) (slS (aa 4) (part (aa 3)) iF)))))))))
noncomputable def dj:FM:=runM 7 iU
noncomputable def kP:SM:=
 (aJ (setM 7 (aj gO (aO 3 aM (ab (aa 0) (ab (aj bL (ao (.int 20)) (aa 6)) (ab (ao (.int 7)) ak)))) (ao (.int 3))))
 (aJ (ifS (aZ (aa 2))
 (setM 7 (aj gO (aj bL (aj di (aa 7) (aj fb (aa 0) (aj kN (ao (.int 10)) (ao (.int 12))))) (aO 3 aM (ab (aa 0) (ab (aj bL (ao (.int 30)) (aa 6)) (ab (ao (.int 2000)) ak))))) (ao (.int 1000))))
 bN)
 (aJ (ifS (tw (aZ (aj eqD (aj fb (aa 0) (ao (.int 2))) (ao (.int 1)))) (aZ (aj gtD (aa 4) (ao (.int 0)))))
 (aJ (setM 7 (aj gO (aj fb (aa 4) (aa 5)) (aj gx (aa 5) (ao (.int 2)))))
 (setM 4 (aj gx (aa 4) (aa 5))))
 bN)
 (dR (kn (aa 3) (aa 7))))))
noncomputable def kM:SM:=
 (aJ (setM 3 (jc ak))
 (aJ (setM 4 (aj gx (aa 0) (ao (.int 2))))
 (aJ (setM 5 (aj ixD (vN (ab (ao (.int 7)) (ab (aj bL (aj di (ao (.int 2)) (aj kN (ao (.int 10)) (ao (.int 12)))) (ao (.int 1))) ak))) (bC intOf (ab (aa 2) ak))))
 (aJ (eG (ij (ab (aa 1) ak)) (aA 6)
 kP)
 (bH (aa 3))))))
noncomputable def jE:FM:=runM 8 kM
noncomputable def gz:SM:=
 (aJ (setM 6 (aj gO (aO 3 aM (ab (aa 0) (ab (aj bL (ao (.int 100)) (aa 5)) (ab (ao (.int 7)) ak)))) (ao (.int 3))))
 (aJ (ifS (aZ (aj eqD (aO 3 aM (ab (aa 0) (ab (ao (.int 110)) (ab (ao (.int 6)) ak)))) (ao (.int 0))))
 (setM 6 (aj di (aa 6) (aj fb (aa 0) (aj kN (ao (.int 10)) (ao (.int 9))))))
 bN)
 (aJ (ifS (tw (aZ (aj eqD (aj fb (aa 0) (ao (.int 2))) (ao (.int 1)))) (aZ (aj gtD (aa 4) (ao (.int 0)))))
 (aJ (setM 6 (aj gO (aj fb (aa 4) (ao (.int 7))) (ao (.int 3))))
 (setM 4 (aj gx (aa 4) (ao (.int 7)))))
 bN)
 (dR (kn (aa 3) (bC lU (ab (aa 6) (ab (aa 2) ak))))))))
noncomputable def iD:SM:=
 (aJ (setM 3 (jc ak))
 (aJ (setM 4 (aj gx (aa 0) (ao (.int 2))))
 (aJ (eG (ij (ab (aa 1) ak)) (aA 5)
 gz)
 (aJ (ifS (aZ (aj gtD (aa 1) (ao (.int 0))))
 (kX (ao (.int 1)) (oQ (aa 3) (aO 3 aM (ab (aa 0) (ab (ao (.int 111)) (ab (aa 1) ak))))))
 bN)
 (bH (jx (aa 3)))))))
noncomputable def ft:FM:=runM 7 iD
noncomputable def i9:SM:=
 (aJ (setM 8 (gE 3 jE (ab (aj bL (aO 2 dh (ab (aa 0) (ab (aj bL (aj bL (aa 1) (ao (.int 1))) (aa 7)) ak))) (aj di (ao (.int 13)) (aa 7))) (ab (aa 4) (ab (aa 6) ak)))))
 (aJ (ifS (aZ (aj gtD (aa 4) (ao (.int 0))))
 (aJ (setM 9 (oZ (aa 2) (ao (.int 1))))
 (aJ (setM 10 (bC qQ (ab (cO 1 [8,2] (ij (ab (aa 4) ak)) (aA 0) cE (aj di (aj ixD (aa 2) (aa 0)) (aj ixD (aa 1) (aa 0)))) ak)))
 (kX (aj gO (aj ixD (aa 8) (aa 9)) (aa 10)) (oQ (aa 8) (aa 9)))))
 bN)
 (dR (kn (aa 5) (jx (aa 8))))))
noncomputable def iA:SM:=
 (aJ (setM 3 (aO 2 dh (ab (aa 0) (ab (aa 1) ak))))
 (aJ (setM 4 (bC dC (ab (aa 2) ak)))
 (aJ (setM 5 (jc ak))
 (aJ (setM 6 (aj eqD (aO 3 aM (ab (aa 3) (ab (ao (.int 41)) (ab (ao (.int 6)) ak)))) (ao (.int 0))))
 (aJ (eG (ij (ab (aj fb (aO 3 aM (ab (aa 3) (ab (ao (.int 40)) (ab (ao (.int 6)) ak)))) (aj gO (ao (.int 6)) (aj di (ao (.int 2)) (bC intOf (ab (aa 6) ak))))) ak)) (aA 7)
 i9)
 (bH (jx (aa 5))))))))
noncomputable def fu:FM:=runM 11 iA
noncomputable def iy:SM:=
 (aJ (setM 11 (aj di (aj gx (aO 3 aM (ab (aj bL (aa 3) (aa 5)) (ab (aj bL (ao (.int 70)) (aa 9)) (ab (ao (.int 4)) ak)))) (ao (.int 3))) (aj bL (ao (.int 1)) (aO 3 aM (ab (aj bL (aa 3) (aa 5)) (ab (aj bL (ao (.int 80)) (aa 9)) (ab (ao (.int 9)) ak)))))))
 (aJ (ifS (aZ (aj gtD (aj bL (aa 11) (bC lU (ab (ao (.int 0)) (ab (unM kr (aa 10)) ak)))) (ao (.int 0))))
 (dR (kn (aa 7) (rO (ab (aj ixD (aa 1) (aa 9)) (ab (aj bL (aa 11) (bC lU (ab (ao (.int 0)) (ab (unM kr (aa 10)) ak)))) ak)))))
 bN)
 (ifS (aZ (aj gtD (aj bL (aa 11) (bC lU (ab (ao (.int 0)) (ab (aa 10) ak)))) (ao (.int 0))))
 (dR (kn (aa 8) (rO (ab (aj ixD (aa 1) (aa 9)) (ab (aj bL (aa 11) (bC lU (ab (ao (.int 0)) (ab (aa 10) ak)))) ak)))))
 bN)))
noncomputable def ix:SM:=
 (aJ (setM 7 (jc ak))
 (aJ (setM 8 (jc ak))
 (aJ (eG (dv (ab (aa 6) ak)) (cH (aQ (aA 9) (aQ (aA 10) cN)) 2)
 iy)
 (aJ (ifS (aZ (aj eqD (aO 3 aM (ab (aj bL (aa 3) (aa 5)) (ab (ao (.int 90)) (ab (ao (.int 2)) ak)))) (ao (.int 1))))
 (setM 7 (xP Cs (aa 7) iF iF (part (unM kr (ao (.int 1))))))
 bN)
 (dR (kn (aa 4) (rO (ab (aj ixD (aa 2) (aa 5)) (ab (zc (aa 7)) (ab (jx (aa 8)) ak))))))))))
noncomputable def j4:SM:=
 (aJ (setM 4 (jc ak))
 (aJ (eG (dv (ab (aa 0) ak)) (cH (aQ (aA 5) (aQ (aA 6) cN)) 2)
 ix)
 (bH (jx (aa 4)))))
noncomputable def fE:FM:=runM 12 j4
noncomputable def jJ:SM:=
 (aJ (setM 4 (aj fb (aa 1) (aa 3)))
 (aJ (setM 1 (aa 3))
 (setM 3 (aa 4))))
noncomputable def jR:SM:=
 (aJ (setM 3 (bC rf (ab (aa 2) ak)))
 (rn (λs=>sk 3 s) (aZ (aj gtD (aa 3) (ao (.int 0))))
 jJ))
noncomputable def jf:SM:=
 (aJ (setM 1 (ao (.int 0)))
 (aJ (eG (listI (aa 0)) (aA 2)
 jR)
 (bH (aa 1))))
noncomputable def jw:FM:=runM 5 jf
noncomputable def iI:SM:=
 (aJ (ifS (orT (kR (aZ (unM (ir "list") (aa 0)))) (aZ (aj neD (bC dC (ab (aa 0) ak)) (aa 1))))
 (bH (ao (.bl false)))
 bN)
 (bH (bC vq (ab (cO 1 [] (listI (aa 0)) (aA 0) cE (yj (unM (ir "int") (aa 0)) (zy (unM (ir "bool") (aa 0))))) ak))))
noncomputable def fm:FM:=runM 2 iI
noncomputable def eV:SM:=
 (ifS (aZ (aj neD (aa 2) (ao (.int 0))))
 (bH (aa 1))
 bN)
noncomputable def il:SM:=
 (aJ (eG (dv (ab (aa 0) ak)) (cH (aQ (aA 1) (aQ (aA 2) cN)) 2)
 eV)
 (bH (unM kr (ao (.int 1)))))
noncomputable def fC:FM:=runM 3 il
noncomputable def fR:SM:=
 (aJ (setM 4 (aO 1 fC (ab (aa 2) ak)))
 (aJ (ifS (orT (aZ (aj leD (aa 4) (aa 3))) (orT (aZ (aj ltD (aj ixD (aa 2) (aa 4)) (ao (.int 1)))) (aZ (aj neD (aO 1 jw (ab (aa 2) ak)) (ao (.int 1))))))
 (bH (ao (.bl false)))
 bN)
 (aJ (ifS (aZ (aj neD (bC dC (ab (cO 1 [4] (listI (aa 0)) (aA 0) (aZ (aj neD (aj ixD (aa 0) (aa 1)) (ao (.int 0)))) (aa 0)) ak)) (ao (.int 1))))
 (bH (ao (.bl false)))
 bN)
 (setM 3 (aa 4)))))
noncomputable def gY:SM:=
 (aJ (ifS (orT (kR (aZ (unM (ir "list") (aa 0)))) (kR (aZ (bC vq (ab (cO 1 [1] (listI (aa 0)) (aA 0) cE (aO 2 fm (ab (aa 0) (ab (aa 1) ak)))) ak)))))
 (bH (ao (.bl false)))
 bN)
 (aJ (setM 3 (unM kr (ao (.int 1))))
 (aJ (eG (listI (aa 0)) (aA 2)
 fR)
 (bH (ao (.bl true))))))
noncomputable def eI:FM:=runM 5 gY
noncomputable def iE:SM:=
 (aJ (setM 5 (aO 1 fC (ab (aa 4) ak)))
 (aJ (setM 2 (cO 2 [5,4,3,1] (rB (ab (aa 2) (ab (aa 4) ak))) (cH (aQ (aA 0) (aQ (aA 1) cN)) 2) cE (aj bL (aj di (aa 0) (aj ixD (aa 3) (aa 2))) (aj di (aj di (aj ixD (aa 5) (aa 2)) (aa 4)) (aa 1)))))
 (setM 3 (aj di (aa 3) (aj ixD (aa 4) (aa 5))))))
noncomputable def j5:SM:=
 (aJ (setM 2 (cO 1 [] (listI (aa 1)) (aA 0) cE (ao (.int 0))))
 (aJ (setM 3 (ao (.int 1)))
 (aJ (eG (listI (aa 0)) (aA 4)
 iE)
 (bH (aj eqD (aa 2) (cO 1 [3] (listI (aa 1)) (aA 0) cE (aj di (aa 0) (aa 1))))))))
noncomputable def gM:FM:=runM 6 j5
noncomputable def vK:SM:=
 (ifS (aZ (aj neD (bC qQ (ab (qX 2 [] (yC (ab (aa 9) (ab (aa 10) ak))) (cH (aQ (aA 0) (aQ (aA 1) cN)) 2) cE (aj di (aa 0) (aa 1))) ak)) (ao (.int 0))))
 (bH (ao (.bl false)))
 bN)
noncomputable def o8:SM:=
 (eG (listI (aa 5)) (aA 10)
 vK)
noncomputable def rY:SM:=
 (dR (kn (aa 9) (ao (.int 0))))
noncomputable def si:SM:=
 (aJ (setM 2 (aO 2 dh (ab (aa 0) (ab (aa 1) ak))))
 (aJ (setM 3 (aO 3 aM (ab (aa 2) (ab (ao (.int 45)) (ab (ao (.int 6)) ak)))))
 (aJ (setM 4 (aO 3 ft (ab (aa 2) (ab (aa 3) (ab (unM kr (aj kN (ao (.int 10)) (ao (.int 10)))) ak)))))
 (aJ (setM 5 (aO 3 fu (ab (aa 0) (ab (aa 1) (ab (aa 4) ak)))))
 (aJ (setM 6 (aO 2 dj (ab (aj bL (aa 2) (ao (.int 1))) (ab (aa 3) ak))))
 (aJ (setM 7 (so 0 2 gL (ab (aa 6) (ab (aO 4 fE (ab (aa 5) (ab (aa 6) (ab (aO 2 dj (ab (aa 2) (ab (bC dC (ab (aa 5) ak)) ak))) (ab (aa 2) ak))))) ak))))
 (aJ (setM 8 (gE 1 lg (ab (aa 7) ak)))
 (aJ (ifS (orT (kR (aZ (ja 2 eI (ab (aa 8) (ab (aa 3) ak))))) (kR (aZ (ja 2 gM (ab (aa 8) (ab (aa 4) ak))))))
 (bH (ao (.bl false)))
 bN)
 (aJ (eG (listI (aa 8)) (aA 9)
 o8)
 (aJ (ifS (aZ (aj neD (aj bL (bC dC (ab (aa 8) ak)) (bC dC (ab (jx (gE 2 jW (ab (cO 1 [] (listI (aa 5)) (aA 0) cE (bC fV (ab (aa 0) ak))) (ab (aa 3) ak)))) ak))) (aa 3)))
 (bH (ao (.bl false)))
 bN)
 (aJ (setM 11 (cO 1 [] (listI (aa 8)) (aA 0) cE (bC fV (ab (aa 0) ak))))
 (aJ (eG (listI (aa 8)) (aA 9)
 rY)
 (aJ (dR (sm Ep (aa 8)))
 (ifS (aZ (aj neD (jx (gE 1 lg (ab (aa 7) ak))) (aa 11)))
 (bH (ao (.bl false)))
 bN))))))))))))))
noncomputable def BC:SM:=
 (aJ (eG (listI (vN (ab (ao (.int 0)) (ab (ao (.int 6)) ak)))) (aA 1)
 si)
 (bH (ao (.bl true))))
noncomputable def xG:FM:=runM 12 BC
end Lk26
set_option maxRecDepth 100000
set_option maxHeartbeats 4000000
namespace Lk26
open PySem PySem.Spec PyProof.Rows L2 M
section
variable {P : Program} {w : World} {K : PySem.W.Frag} {mg : Str → Option Value} {base : Heap} {ca : Nat → Addr}
theorem Aq:bf ["value"] ["value"] (ay jO):=⟨rfl,rfl,rfl,by decide +kernel,rfl,by decide +kernel,by decide +kernel⟩
theorem Ai{a:Addr}{fd:FuncData}(F:Fun K "is_whole" "is_whole" jO a fd)(hm:mg "is_whole" =some (.ref a))(hpt:P.given.tree=none)(n_isinstance:mg "isinstance" =none)(n_int:mg "int" =none)(n_bool:mg "bool" =none):bT P w K mg base ca 35 "is_whole" ["value"] jV a fd:=by
 refine⟨bE F Aq rfl λcdv A outer s H E hr=> ?_,hm,F.kp,F.binds λ_ _ _ _ _ _ us hl=>match us,hl with | [_],_=>rfl⟩
 have hu:=hr.units
 have hdp:=bR hr (by decide)
 exact⟨_,(aE (bq (Eb (bx lE rfl n_isinstance Boot.«isinstance» (ag (pv 0) (ag (ng (v:=.ty "int") rfl n_int Boot.«int» rfl) aq))) (Ef (Ee (bx lE rfl n_isinstance Boot.«isinstance» (ag (pv 0) (ag (ng (v:=.ty "bool") rfl n_bool Boot.«bool» rfl) aq)))))))),
  (bo (AX (pb ty_int (ae 0)) (A1 (pb ty_bool (ae 0)))))⟩
theorem eA:bf ["one","other","rest"] ["one","other"] (ay eJ):=⟨rfl,rfl,rfl,by decide +kernel,rfl,by decide +kernel,by decide +kernel⟩
theorem su{a:Addr}{fd:FuncData}(F:Fun K "measure_of_two" "measure_of_two" eJ a fd)(hm:mg "measure_of_two" =some (.ref a))(hpt:P.given.tree=none)(n_abs:mg "abs" =none):bT P w K mg base ca 35 "measure_of_two" ["one","other"] fN a fd:=by
 refine⟨bE F eA rfl λcdv A outer s H E hr=> ?_,hm,F.kp,F.binds λ_ _ _ _ _ _ us hl=>match us,hl with | [_,_],_=>rfl⟩
 have hu:=hr.units
 have hdp:=bR hr (by decide)
 exact⟨_,(au (aW (i:=0) eA.nd rfl (Or.inl rfl) (bx tx rfl n_abs Boot.«abs» (ag (pv 0) aq)))
 (au (aW (i:=1) eA.nd rfl (Or.inl rfl) (bx tx rfl n_abs Boot.«abs» (ag (pv 1) aq)))
 (au (zb PassesOwn.never (bB (oa hu) (pv 1) aD (bQ _))
 (au (aW (i:=2) eA.nd rfl (Or.inl rfl) (aV fk (pv 0) (pv 1)))
 (au (aW (i:=0) eA.nd rfl (Or.inl rfl) (pv 1))
 (aE (aW (i:=1) eA.nd rfl (Or.inl rfl) (pv 2))))))
 (aE (bq (pv 0)))))),
  (aF (aS (br zI (ah (ae 0) av)))
 (aF (aS (br zI (ah (ae 1) av)))
 (aF (zO (bK (ar la (ae 1) (aC 0)))
 (aF (aS (ar gB (ae 0) (ae 1)))
 (aF (aS (ae 1))
 (aS (ae 2)))))
 (bo (ae 0)))))⟩
theorem mU:bf ["numbers","common","number"] ["numbers"] (ay kx):=⟨rfl,rfl,rfl,by decide +kernel,rfl,by decide +kernel,by decide +kernel⟩
theorem Cy{a:Addr}{fd:FuncData}(F:Fun K "measure" "measure" kx a fd)(hm:mg "measure" =some (.ref a))(hpt:P.given.tree=none)(tL:bG P w K mg base ca 35 "measure_of_two" ["one","other"] fN):bT P w K mg base ca 36 "measure" ["numbers"] kC a fd:=by
 obtain⟨E7,Ek,tN,kh,tV,tW⟩:=tL
 refine⟨bE F mU rfl λcdv A outer s H E hr=> ?_,hm,F.kp,F.binds λ_ _ _ _ _ _ us hl=>match us,hl with | [_],_=>rfl⟩
 have hu:=hr.units
 have hdp:=bR hr (by decide)
 exact⟨_,(au (aW (i:=1) mU.nd rfl (Or.inl rfl) aD)
 (au (dP PassesOwn.never rfl (bX (pv 0)) (aT (i:=2) mU.nd rfl (Or.inl rfl))
 (aE (aW (i:=1) mU.nd rfl (Or.inl rfl) (aR tN (hr.mono (by decide)) rfl kh tV tW .nil bc (ag (pv 1) (ag (pv 2) aq))))))
 (aE (bq (pv 1))))),
  (aF (aS (aC 0))
 (aF (dQ (bW (ae 0)) (aN 2)
 (aS (aX (n:=2) (f:=fN) (ah (ae 1) (ah (ae 2) av)))))
 (bo (ae 1))))⟩
theorem wK:bf ["numbers","common"] ["numbers"] (ay lK):=⟨rfl,rfl,rfl,by decide +kernel,rfl,by decide +kernel,by decide +kernel⟩
theorem DO{a:Addr}{fd:FuncData}(F:Fun K "lowest" "lowest" lK a fd)(hm:mg "lowest" =some (.ref a))(hpt:P.given.tree=none)(n_list:mg "list" =none)(DG:bG P w K mg base ca 36 "measure" ["numbers"] kC):bT P w K mg base ca 37 "lowest" ["numbers"] ik a fd:=by
 obtain⟨Ld,KZ,DP,kJ,D3,Ds⟩:=DG
 refine⟨bE F wK rfl λcdv A outer s H E hr=> ?_,hm,F.kp,F.binds λ_ _ _ _ _ _ us hl=>match us,hl with | [_],_=>rfl⟩
 have hu:=hr.units
 have hdp:=bR hr (by decide)
 exact⟨_,(au (aW (i:=1) wK.nd rfl (Or.inr rfl) (aR DP (hr.mono (by decide)) rfl kJ D3 Ds .nil bc (ag (pv 0) aq)))
 (au (cU (bB (qm hu) (pv 1) aD (bQ _))
 (aE (bq (fD eW rfl n_list Boot.«list» (ag (pv 0) aq))))
 bO)
 (aE (bq (df (own:=["number"]) (cap:=["common"]) (caps:=[1]) rfl ⟨rfl,by decide +kernel,by decide +kernel,by decide +kernel,⟨rfl,Or.inl rfl,rfl,trivial⟩,by decide +kernel⟩ (bX (pv 0)) (λ_ _ _=>(aT (i:=0) (show ((["number"]:List Str)++(["common"]:List Str)).Nodup from by decide +kernel) rfl (Or.inl rfl))) (λ_ _ _=>cK) (λ_ _ _=>(aV (mD hdp hpt ⟨_,_,rfl,rfl,rfl,rfl,rfl⟩) (pv 0) (pv 1)))))))),
  (aF (aS (aX (n:=1) (f:=kC) (ah (ae 0) av)))
 (aF (cV (bK (ar mP (ae 1) (aC 0)))
 (bo (Fi (ae 0)))
 bP)
 (bo (og (m:=1) (caps:=[1]) (bW (ae 0)) (aN 0) cJ (ar kD (ae 0) (ae 1))))))⟩
theorem qV:bf ["numbers","others"] ["numbers","others"] (ay eC):=⟨rfl,rfl,rfl,by decide +kernel,rfl,by decide +kernel,by decide +kernel⟩
theorem qT{a:Addr}{fd:FuncData}(F:Fun K "sum_of_products" "sum_of_products" eC a fd)(hm:mg "sum_of_products" =some (.ref a))(hpt:P.given.tree=none)(n_zip:mg "zip" =none)(n_sum:mg "sum" =none):bT P w K mg base ca 35 "sum_of_products" ["numbers","others"] dG a fd:=by
 refine⟨bE F qV rfl λcdv A outer s H E hr=> ?_,hm,F.kp,F.binds λ_ _ _ _ _ _ us hl=>match us,hl with | [_,_],_=>rfl⟩
 have hu:=hr.units
 have hdp:=bR hr (by decide)
 exact⟨_,(aE (bq (bx (oB rfl) rfl n_sum Boot.«sum» (ag (df (own:=["number","other"]) (cap:=[]) (caps:=[]) rfl ⟨rfl,by decide +kernel,by decide +kernel,by decide +kernel,trivial,by decide +kernel⟩ (ua rfl n_zip (ag (pv 0) (ag (pv 1) aq))) (λ_ _ _=>(iG rfl (cv (aT (i:=0) (show ((["number","other"]:List Str)++([]:List Str)).Nodup from by decide +kernel) rfl (Or.inl rfl)) (cv (aT (i:=1) (show ((["number","other"]:List Str)++([]:List Str)).Nodup from by decide +kernel) rfl (Or.inl rfl)) gk)))) (λ_ _ _=>cK) (λ_ _ _=>(aV fj (pv 0) (pv 1)))) aq)))),
  (bo (br uh (ah (cY (m:=2) (caps:=[]) (yw (ah (ae 0) (ah (ae 1) av))) (gh (cx (aN 0) (cx (aN 1) gu))) cJ (ar d0 (ae 0) (ae 1))) av)))⟩
theorem A2:bf ["at","many","told"] ["at","many"] (ay oV):=⟨rfl,rfl,rfl,by decide +kernel,rfl,by decide +kernel,by decide +kernel⟩
theorem HR{a:Addr}{fd:FuncData}(F:Fun K "unit" "unit" oV a fd)(hm:mg "unit" =some (.ref a))(hpt:P.given.tree=none):bT P w K mg base ca 35 "unit" ["at","many"] oR a fd:=by
 refine⟨bE F A2 rfl λcdv A outer s H E hr=> ?_,hm,F.kp,F.binds λ_ _ _ _ _ _ us hl=>match us,hl with | [_,_],_=>rfl⟩
 have hu:=hr.units
 have hdp:=bR hr (by decide)
 exact⟨_,(au (aW (i:=2) A2.nd rfl (Or.inl rfl) (aV Jv (iB (ag aD aq)) (pv 1)))
 (au (zV aD (xM (pv 2) (pv 0) set_list))
 (aE (bq (pv 2))))),
  (aF (aS (Hy (ah (aC 0) av) (ae 1)))
 (aF (uf (aC 1) (yr (ae 2) (ae 0)))
 (bo (lr (ae 2)))))⟩
theorem Gn:bf ["many"] ["many"] (ay m9):=⟨rfl,rfl,rfl,by decide +kernel,rfl,by decide +kernel,by decide +kernel⟩
theorem FY{a:Addr}{fd:FuncData}(F:Fun K "units" "units" m9 a fd)(hm:mg "units" =some (.ref a))(hpt:P.given.tree=none)(n_range:mg "range" =none)(Jw:bG P w K mg base ca 35 "unit" ["at","many"] oR):bT P w K mg base ca 36 "units" ["many"] nk a fd:=by
 obtain⟨MC,Mn,JJ,qJ,Jd,Kc⟩:=Jw
 refine⟨bE F Gn rfl λcdv A outer s H E hr=> ?_,hm,F.kp,F.binds λ_ _ _ _ _ _ us hl=>match us,hl with | [_],_=>rfl⟩
 have hu:=hr.units
 have hdp:=bR hr (by decide)
 exact⟨_,(aE (bq (df (own:=["at"]) (cap:=["many"]) (caps:=[0]) rfl ⟨rfl,by decide +kernel,by decide +kernel,by decide +kernel,⟨rfl,Or.inl rfl,rfl,trivial⟩,by decide +kernel⟩ (gy rfl n_range (ag (pv 0) aq)) (λ_ _ _=>(aT (i:=0) (show ((["at"]:List Str)++(["many"]:List Str)).Nodup from by decide +kernel) rfl (Or.inl rfl))) (λ_ _ _=>cK) (λ_ _ _=>(aR JJ (hr.mono (by decide)) rfl qJ Jd Kc .nil bc (ag (pv 0) (ag (pv 1) aq))))))),
  (bo (cY (m:=1) (caps:=[0]) (jS (ah (ae 0) av)) (aN 0) cJ (aX (n:=2) (f:=oR) (ah (ae 0) (ah (ae 1) av)))))⟩
theorem vW:bf ["one","one_value","other","other_value","mixed"] ["one","one_value","other","other_value"] (ay lJ):=⟨rfl,rfl,rfl,by decide +kernel,rfl,by decide +kernel,by decide +kernel⟩
theorem Ec{a:Addr}{fd:FuncData}(F:Fun K "offset" "offset" lJ a fd)(hm:mg "offset" =some (.ref a))(hpt:P.given.tree=none)(n_zip:mg "zip" =none)(tU:bG P w K mg base ca 37 "lowest" ["numbers"] ik):bT P w K mg base ca 38 "offset" ["one","one_value","other","other_value"] gN a fd:=by
 obtain⟨FH,C0,tH,ip,tJ,tR⟩:=tU
 refine⟨bE F vW rfl λcdv A outer s H E hr=> ?_,hm,F.kp,F.binds λ_ _ _ _ _ _ us hl=>match us,hl with | [_,_,_,_],_=>rfl⟩
 have hu:=hr.units
 have hdp:=bR hr (by decide)
 exact⟨_,(au (iu (i:=4) (own:=["number","other_number"]) (cap:=["one_value","other_value"]) (caps:=[1,3]) rfl ⟨rfl,by decide +kernel,by decide +kernel,by decide +kernel,⟨rfl,Or.inl rfl,rfl,⟨rfl,Or.inl rfl,rfl,trivial⟩⟩,by decide +kernel⟩ (ua rfl n_zip (ag (pv 0) (ag (pv 2) aq))) (λ_ _ _=>(iG rfl (cv (aT (i:=0) (show ((["number","other_number"]:List Str)++(["one_value","other_value"]:List Str)).Nodup from by decide +kernel) rfl (Or.inl rfl)) (cv (aT (i:=1) (show ((["number","other_number"]:List Str)++(["one_value","other_value"]:List Str)).Nodup from by decide +kernel) rfl (Or.inl rfl)) gk)))) (λ_ _ _=>cK) (λ_ _ _=>(aV kZ (aV fj (pv 0) (pv 3)) (aV fj (pv 1) (pv 2)))) vW.nd rfl (Or.inl rfl) rfl)
 (aE (bq (aR tH (hr.mono (by decide)) rfl ip tJ tR .nil bc (ag (pv 4) aq))))),
  (aF (aS (cY (m:=2) (caps:=[1,3]) (yw (ah (ae 0) (ah (ae 2) av))) (gh (cx (aN 0) (cx (aN 1) gu))) cJ (ar kO (ar d0 (ae 0) (ae 3)) (ar d0 (ae 1) (ae 2)))))
 (bo (jA (n:=1) (f:=ik) (ah (ae 4) av))))⟩
theorem CL:bf ["rows","at"] ["rows","at"] (ay lN):=⟨rfl,rfl,rfl,by decide +kernel,rfl,by decide +kernel,by decide +kernel⟩
theorem C1{a:Addr}{fd:FuncData}(F:Fun K "column" "column" lN a fd)(hm:mg "column" =some (.ref a))(hpt:P.given.tree=none):bT P w K mg base ca 35 "column" ["rows","at"] lG a fd:=by
 refine⟨bE F CL rfl λcdv A outer s H E hr=> ?_,hm,F.kp,F.binds λ_ _ _ _ _ _ us hl=>match us,hl with | [_,_],_=>rfl⟩
 have hu:=hr.units
 have hdp:=bR hr (by decide)
 exact⟨_,(aE (bq (df (own:=["row"]) (cap:=["at"]) (caps:=[1]) rfl ⟨rfl,by decide +kernel,by decide +kernel,by decide +kernel,⟨rfl,Or.inl rfl,rfl,trivial⟩,by decide +kernel⟩ (bX (pv 0)) (λ_ _ _=>(aT (i:=0) (show ((["row"]:List Str)++(["at"]:List Str)).Nodup from by decide +kernel) rfl (Or.inl rfl))) (λ_ _ _=>cK) (λ_ _ _=>(dc cF (pv 0) (pv 1) (λ_ _=>rfl)))))),
  (bo (cY (m:=1) (caps:=[1]) (bW (ae 0)) (aN 0) cJ (ar de (ae 0) (ae 1))))⟩
theorem i4:bf ["numbers","at","number"] ["numbers"] (ay d3):=⟨rfl,rfl,rfl,by decide +kernel,rfl,by decide +kernel,by decide +kernel⟩
theorem qx{a:Addr}{fd:FuncData}(F:Fun K "first_not_nought" "first_not_nought" d3 a fd)(hm:mg "first_not_nought" =some (.ref a))(hpt:P.given.tree=none)(n_enumerate:mg "enumerate" =none):bT P w K mg base ca 35 "first_not_nought" ["numbers"] cG a fd:=by
 refine⟨bE F i4 rfl λcdv A outer s H E hr=> ?_,hm,F.kp,F.binds λ_ _ _ _ _ _ us hl=>match us,hl with | [_],_=>rfl⟩
 have hu:=hr.units
 have hdp:=bR hr (by decide)
 exact⟨_,(au (dP PassesOwn.never rfl (nt rfl n_enumerate (ag (pv 0) aq)) (iG rfl (cv (aT (i:=1) i4.nd rfl (Or.inl rfl)) (cv (aT (i:=2) i4.nd rfl (Or.inl rfl)) gk)))
 (aE (cU (bB (oa hu) (pv 2) aD (bQ _))
 (aE (bq (pv 1)))
 bO)))
 (aE (bq zp))),
  (aF (dQ (gS (ah (ae 0) av)) (gh (cx (aN 1) (cx (aN 2) gu)))
 (cV (bK (ar la (ae 2) (aC 0)))
 (bo (ae 1))
 bP))
 (bo yK))⟩
theorem rD:bf ["row","at"] ["row","at"] (ay eB):=⟨rfl,rfl,rfl,by decide +kernel,rfl,by decide +kernel,by decide +kernel⟩
theorem rC{a:Addr}{fd:FuncData}(F:Fun K "with_sign_above" "with_sign_above" eB a fd)(hm:mg "with_sign_above" =some (.ref a))(hpt:P.given.tree=none):bT P w K mg base ca 35 "with_sign_above" ["row","at"] eD a fd:=by
 refine⟨bE F rD rfl λcdv A outer s H E hr=> ?_,hm,F.kp,F.binds λ_ _ _ _ _ _ us hl=>match us,hl with | [_,_],_=>rfl⟩
 have hu:=hr.units
 have hdp:=bR hr (by decide)
 exact⟨_,(au (cU (bB kL (dc cF (pv 0) (pv 1) (λ_ _=>rfl)) aD (bQ _))
 (aE (bq (pv 0)))
 bO)
 (aE (bq (df (own:=["number"]) (cap:=[]) (caps:=[]) rfl ⟨rfl,by decide +kernel,by decide +kernel,by decide +kernel,trivial,by decide +kernel⟩ (bX (pv 0)) (λ_ _ _=>(aT (i:=0) (show ((["number"]:List Str)++([]:List Str)).Nodup from by decide +kernel) rfl (Or.inl rfl))) (λ_ _ _=>cK) (λ_ _ _=>(pP nZ (pv 0))))))),
  (aF (cV (bK (ar lj (ar de (ae 0) (ae 1)) (aC 0)))
 (bo (ae 0))
 bP)
 (bo (og (m:=1) (caps:=[]) (bW (ae 0)) (aN 0) cJ (pZ nA (ae 0)))))⟩
theorem Ck:bf ["row","lead_row","at"] ["row","lead_row","at"] (ay kB):=⟨rfl,rfl,rfl,by decide +kernel,rfl,by decide +kernel,by decide +kernel⟩
theorem BQ{a:Addr}{fd:FuncData}(F:Fun K "cleared" "cleared" kB a fd)(hm:mg "cleared" =some (.ref a))(hpt:P.given.tree=none)(t6:bG P w K mg base ca 38 "offset" ["one","one_value","other","other_value"] gN):bT P w K mg base ca 39 "cleared" ["row","lead_row","at"] fH a fd:=by
 obtain⟨Fb,Eg,t7,kl,tG,t5⟩:=t6
 refine⟨bE F Ck rfl λcdv A outer s H E hr=> ?_,hm,F.kp,F.binds λ_ _ _ _ _ _ us hl=>match us,hl with | [_,_,_],_=>rfl⟩
 have hu:=hr.units
 have hdp:=bR hr (by decide)
 exact⟨_,(au (cU (bB (qm hu) (dc cF (pv 0) (pv 2) (λ_ _=>rfl)) aD (bQ _))
 (aE (bq (pv 0)))
 bO)
 (aE (bq (aR t7 (hr.mono (by decide)) rfl kl tG t5 .nil bc (ag (pv 0) (ag (dc cF (pv 0) (pv 2) (λ_ _=>rfl)) (ag (pv 1) (ag (dc cF (pv 1) (pv 2) (λ_ _=>rfl)) aq)))))))),
  (aF (cV (bK (ar mP (ar de (ae 0) (ae 2)) (aC 0)))
 (bo (ae 0))
 bP)
 (bo (yE (n:=4) (f:=gN) (ah (ae 0) (ah (ar de (ae 0) (ae 2)) (ah (ae 1) (ah (ar de (ae 1) (ae 2)) av)))))))⟩
theorem ju:bf ["rows","many","left","done","at","found","lead_row"] ["rows","many"] (ay nh):=⟨rfl,rfl,rfl,by decide +kernel,rfl,by decide +kernel,by decide +kernel⟩
theorem FT{a:Addr}{fd:FuncData}(F:Fun K "plain" "plain" nh a fd)(hm:mg "plain" =some (.ref a))(hpt:P.given.tree=none)(n_range:mg "range" =none)(tU:bG P w K mg base ca 37 "lowest" ["numbers"] ik)(jo:bG P w K mg base ca 35 "first_not_nought" ["numbers"] cG)(FE:bG P w K mg base ca 35 "column" ["rows","at"] lG)(sx:bG P w K mg base ca 35 "with_sign_above" ["row","at"] eD)(DB:bG P w K mg base ca 39 "cleared" ["row","lead_row","at"] fH):bT P w K mg base ca 40 "plain" ["rows","many"] jW a fd:=by
 obtain⟨FH,C0,tH,ip,tJ,tR⟩:=tU
 obtain⟨rm,qC,jB,cQ,jC,jb⟩:=jo
 obtain⟨Lp,Li,Fx,n8,Fw,Gj⟩:=FE
 obtain⟨Ei,CJ,sv,dE,sC,sA⟩:=sx
 obtain⟨Lo,K2,v9,ib,vZ,wH⟩:=DB
 refine⟨bE F ju rfl λcdv A outer s H E hr=> ?_,hm,F.kp,F.binds λ_ _ _ _ _ _ us hl=>match us,hl with | [_,_],_=>rfl⟩
 have hu:=hr.units
 have hdp:=bR hr (by decide)
 exact⟨_,(au (iu (i:=2) (own:=["row"]) (cap:=[]) (caps:=[]) rfl ⟨rfl,by decide +kernel,by decide +kernel,by decide +kernel,trivial,by decide +kernel⟩ (bX (pv 0)) (λ_ _ _=>(aT (i:=0) (show ((["row"]:List Str)++([]:List Str)).Nodup from by decide +kernel) rfl (Or.inl rfl))) (λ_ _ _=>cK) (λ_ _ _=>(aR tH (hr.mono (by decide)) rfl ip tJ tR .nil bc (ag (pv 0) aq))) ju.nd rfl (Or.inl rfl) rfl)
 (au (aW (i:=3) ju.nd rfl (Or.inl rfl) (iB aq))
 (au (dP PassesOwn.never rfl (gy rfl n_range (ag (pv 1) aq)) (aT (i:=4) ju.nd rfl (Or.inr rfl))
 (au (aW (i:=5) ju.nd rfl (Or.inl rfl) (aR jB (hr.mono (by decide)) rfl cQ jC jb .nil bc (ag (aR Fx (hr.mono (by decide)) rfl n8 Fw Gj .nil bc (ag (pv 2) (ag (pv 4) aq))) aq)))
 (aE (cU (bB HJ (pv 5) zp (bQ _))
 (au (aW (i:=6) ju.nd rfl (Or.inr rfl) (aR sv (hr.mono (by decide)) rfl dE sC sA .nil bc (ag (kb PySem.F.plainAttrs_list PySem.F.slot_list_pop PySem.F.type_list_pop FA (pv 2) (ag (pv 5) aq)) (ag (pv 4) aq))))
 (au (iu (i:=2) (own:=["row"]) (cap:=["at","lead_row"]) (caps:=[4,6]) rfl ⟨rfl,by decide +kernel,by decide +kernel,by decide +kernel,⟨rfl,Or.inl rfl,rfl,⟨rfl,Or.inl rfl,rfl,trivial⟩⟩,by decide +kernel⟩ (bX (pv 2)) (λ_ _ _=>(aT (i:=0) (show ((["row"]:List Str)++(["at","lead_row"]:List Str)).Nodup from by decide +kernel) rfl (Or.inl rfl))) (λ_ _ _=>cK) (λ_ _ _=>(aR v9 (hr.mono (by decide)) rfl ib vZ wH .nil bc (ag (pv 0) (ag (pv 2) (ag (pv 1) aq))))) ju.nd rfl (Or.inl rfl) rfl)
 (au (iu (i:=3) (own:=["row"]) (cap:=["at","lead_row"]) (caps:=[4,6]) rfl ⟨rfl,by decide +kernel,by decide +kernel,by decide +kernel,⟨rfl,Or.inl rfl,rfl,⟨rfl,Or.inl rfl,rfl,trivial⟩⟩,by decide +kernel⟩ (bX (pv 3)) (λ_ _ _=>(aT (i:=0) (show ((["row"]:List Str)++(["at","lead_row"]:List Str)).Nodup from by decide +kernel) rfl (Or.inl rfl))) (λ_ _ _=>cK) (λ_ _ _=>(aR v9 (hr.mono (by decide)) rfl ib vZ wH .nil bc (ag (pv 0) (ag (pv 2) (ag (pv 1) aq))))) ju.nd rfl (Or.inl rfl) rfl)
 (aE (dA (kb PySem.F.plainAttrs_list PySem.F.slot_list_append PySem.F.type_list_append eT (pv 3) (ag (pv 6) aq)))))))
 bO))))
 (aE (bq (pv 3)))))),
  (aF (aS (og (m:=1) (caps:=[]) (bW (ae 0)) (aN 0) cJ (jA (n:=1) (f:=ik) (ah (ae 0) av))))
 (aF (aS (jK av))
 (aF (dQ (jS (ah (ae 1) av)) (aN 4)
 (aF (aS (aX (n:=1) (f:=cG) (ah (pV (n:=2) (f:=lG) (ah (ae 2) (ah (ae 4) av))) av)))
 (cV (bK (ar E9 (ae 5) yK))
 (aF (aS (pV (n:=2) (f:=eD) (ah (JM (ae 2) (ae 5)) (ah (ae 4) av))))
 (aF (aS (og (m:=1) (caps:=[4,6]) (bW (ae 2)) (aN 0) cJ (pV (n:=3) (f:=fH) (ah (ae 0) (ah (ae 2) (ah (ae 1) av))))))
 (aF (aS (og (m:=1) (caps:=[4,6]) (bW (ae 3)) (aN 0) cJ (pV (n:=3) (f:=fH) (ah (ae 0) (ah (ae 2) (ah (ae 1) av))))))
 (dB (j6 (ae 3) (ae 6))))))
 bP)))
 (bo (ae 3)))))⟩
theorem d8:bf ["lists","row","values","found","base","base_value"] ["lists","row"] (ay dI):=⟨rfl,rfl,rfl,by decide +kernel,rfl,by decide +kernel,by decide +kernel⟩
theorem pX{a:Addr}{fd:FuncData}(F:Fun K "still_by_one_more" "still_by_one_more" dI a fd)(hm:mg "still_by_one_more" =some (.ref a))(hpt:P.given.tree=none)(n_enumerate:mg "enumerate" =none)(sG:bG P w K mg base ca 35 "sum_of_products" ["numbers","others"] dG)(jo:bG P w K mg base ca 35 "first_not_nought" ["numbers"] cG)(t6:bG P w K mg base ca 38 "offset" ["one","one_value","other","other_value"] gN):bT P w K mg base ca 39 "still_by_one_more" ["lists","row"] dH a fd:=by
 obtain⟨Ej,Ed,sr,fA,sI,sE⟩:=sG
 obtain⟨rm,qC,jB,cQ,jC,jb⟩:=jo
 obtain⟨Fb,Eg,t7,kl,tG,t5⟩:=t6
 refine⟨bE F d8 rfl λcdv A outer s H E hr=> ?_,hm,F.kp,F.binds λ_ _ _ _ _ _ us hl=>match us,hl with | [_,_],_=>rfl⟩
 have hu:=hr.units
 have hdp:=bR hr (by decide)
 exact⟨_,(au (aW (i:=2) d8.nd rfl (Or.inr rfl) (df (own:=["one"]) (cap:=["row"]) (caps:=[1]) rfl ⟨rfl,by decide +kernel,by decide +kernel,by decide +kernel,⟨rfl,Or.inl rfl,rfl,trivial⟩,by decide +kernel⟩ (bX (pv 0)) (λ_ _ _=>(aT (i:=0) (show ((["one"]:List Str)++(["row"]:List Str)).Nodup from by decide +kernel) rfl (Or.inl rfl))) (λ_ _ _=>cK) (λ_ _ _=>(aR sr (hr.mono (by decide)) rfl fA sI sE .nil bc (ag (pv 1) (ag (pv 0) aq))))))
 (au (aW (i:=3) d8.nd rfl (Or.inr rfl) (aR jB (hr.mono (by decide)) rfl cQ jC jb .nil bc (ag (pv 2) aq)))
 (au (cU (bB LB (pv 3) zp (bQ _))
 (aE (bq (pv 0)))
 bO)
 (au (aW (i:=4) d8.nd rfl (Or.inr rfl) (dc cF (pv 0) (pv 3) (λ_ _=>rfl)))
 (au (aW (i:=5) d8.nd rfl (Or.inr rfl) (dc cF (pv 2) (pv 3) (λ_ _=>rfl)))
 (aE (bq (df (own:=["at","one"]) (cap:=["base","base_value","found","values"]) (caps:=[4,5,3,2]) rfl ⟨rfl,by decide +kernel,by decide +kernel,by decide +kernel,⟨rfl,Or.inl rfl,rfl,⟨rfl,Or.inl rfl,rfl,⟨rfl,Or.inl rfl,rfl,⟨rfl,Or.inl rfl,rfl,trivial⟩⟩⟩⟩,by decide +kernel⟩ (nt rfl n_enumerate (ag (pv 0) aq)) (λ_ _ _=>(iG rfl (cv (aT (i:=0) (show ((["at","one"]:List Str)++(["base","base_value","found","values"]:List Str)).Nodup from by decide +kernel) rfl (Or.inl rfl)) (cv (aT (i:=1) (show ((["at","one"]:List Str)++(["base","base_value","found","values"]:List Str)).Nodup from by decide +kernel) rfl (Or.inl rfl)) gk)))) (λ_ _ _=>(vi (bB (oa hu) (pv 0) (pv 4) (bQ _)))) (λ_ _ _=>(aR t7 (hr.mono (by decide)) rfl kl tG t5 .nil bc (ag (pv 1) (ag (dc cF (pv 5) (pv 0) (λ_ _=>rfl)) (ag (pv 2) (ag (pv 3) aq)))))))))))))),
  (aF (aS (cY (m:=1) (caps:=[1]) (bW (ae 0)) (aN 0) cJ (aX (n:=2) (f:=dG) (ah (ae 1) (ah (ae 0) av)))))
 (aF (aS (aX (n:=1) (f:=cG) (ah (ae 2) av)))
 (aF (cV (bK (ar KD (ae 3) yK))
 (bo (ae 0))
 bP)
 (aF (aS (ar de (ae 0) (ae 3)))
 (aF (aS (ar de (ae 2) (ae 3)))
 (bo (cY (m:=2) (caps:=[4,5,3,2]) (gS (ah (ae 0) av)) (gh (cx (aN 0) (cx (aN 1) gu))) (bK (ar la (ae 0) (ae 4))) (lr (yE (n:=4) (f:=gN) (ah (ae 1) (ah (ar de (ae 5) (ae 0)) (ah (ae 2) (ah (ae 3) av)))))))))))))⟩
theorem pS:bf ["rows","many","lists","row"] ["rows","many"] (ay nr):=⟨rfl,rfl,rfl,by decide +kernel,rfl,by decide +kernel,by decide +kernel⟩
theorem El{a:Addr}{fd:FuncData}(F:Fun K "still" "still" nr a fd)(hm:mg "still" =some (.ref a))(hpt:P.given.tree=none)(Il:bG P w K mg base ca 36 "units" ["many"] nk)(qA:bG P w K mg base ca 39 "still_by_one_more" ["lists","row"] dH)(u0:bG P w K mg base ca 40 "plain" ["rows","many"] jW):bT P w K mg base ca 41 "still" ["rows","many"] o4 a fd:=by
 obtain⟨L7,Lz,Hm,oS,HQ,Iq⟩:=Il
 obtain⟨CH,BX,qz,eH,qy,qB⟩:=qA
 obtain⟨G6,fd_plain,vo,lI,vE,vM⟩:=u0
 refine⟨bE F pS rfl λcdv A outer s H E hr=> ?_,hm,F.kp,F.binds λ_ _ _ _ _ _ us hl=>match us,hl with | [_,_],_=>rfl⟩
 have hu:=hr.units
 have hdp:=bR hr (by decide)
 exact⟨_,(au (aW (i:=2) pS.nd rfl (Or.inl rfl) (aR Hm (hr.mono (by decide)) rfl oS HQ Iq .nil bc (ag (pv 1) aq)))
 (au (dP PassesOwn.never rfl (bX (pv 0)) (aT (i:=3) pS.nd rfl (Or.inl rfl))
 (aE (aW (i:=2) pS.nd rfl (Or.inl rfl) (aR qz (hr.mono (by decide)) rfl eH qy qB .nil bc (ag (pv 2) (ag (pv 3) aq))))))
 (aE (bq (aR vo (hr.mono (by decide)) rfl lI vE vM .nil bc (ag (pv 2) (ag (pv 1) aq))))))),
  (aF (aS (aX (n:=1) (f:=nk) (ah (ae 1) av)))
 (aF (dQ (bW (ae 0)) (aN 3)
 (aS (aX (n:=2) (f:=dH) (ah (ae 2) (ah (ae 3) av)))))
 (bo (jA (n:=2) (f:=jW) (ah (ae 2) (ah (ae 1) av))))))⟩
theorem vd:bf ["self","at"] ["self","at"] (ay gv):=⟨rfl,rfl,rfl,by decide +kernel,rfl,by decide +kernel,by decide +kernel⟩
theorem vR{a:Addr}{fd:FuncData}(F:Fun K "change" "Yard.change" gv a fd)(hm:Meth K (ca 0) "change" a)(hpt:P.given.tree=none)(n_list:mg "list" =none)(cl_Yard:Cls K (ca 0))(na_Yard_held_changes:eY K (ca 0) "held_changes"):MethAt P w K mg base ca 35 (ca 0) "change" ["self","at"] gc:=by
 refine⟨a,fd,bE F vd rfl λcdv A outer s H E hr=> ?_,hm,F.binds λ_ _ _ _ _ _ us hl=>match us,hl with | [_,_],_=>rfl⟩
 have hu:=hr.units
 have hdp:=bR hr (by decide)
 exact⟨_,(aE (bq (fD eW rfl n_list Boot.«list» (ag (dc cF (yQ (pv 0) rfl) (pv 1) (λ_ _=>rfl)) aq)))),
  (bo (br kj (ah (ar de (zD (c:=0) (f:="held_changes") cl_Yard na_Yard_held_changes (ae 0)) (ae 1)) av)))⟩
theorem wZ:bf ["self"] ["self"] (ay g6):=⟨rfl,rfl,rfl,by decide +kernel,rfl,by decide +kernel,by decide +kernel⟩
theorem wU{a:Addr}{fd:FuncData}(F:Fun K "names" "Yard.names" g6 a fd)(hm:Meth K (ca 0) "names" a)(hpt:P.given.tree=none)(cl_Yard:Cls K (ca 0))(na_Yard_held_works:eY K (ca 0) "held_works"):MethAt P w K mg base ca 35 (ca 0) "names" ["self"] gT:=by
 refine⟨a,fd,bE F wZ rfl λcdv A outer s H E hr=> ?_,hm,F.binds λ_ _ _ _ _ _ us hl=>match us,hl with | [_],_=>rfl⟩
 have hu:=hr.units
 have hdp:=bR hr (by decide)
 exact⟨_,(aE (bq (df (own:=["work"]) (cap:=[]) (caps:=[]) rfl ⟨rfl,by decide +kernel,by decide +kernel,by decide +kernel,trivial,by decide +kernel⟩ (bX (yQ (pv 0) rfl)) (λ_ _ _=>(aT (i:=0) (show ((["work"]:List Str)++([]:List Str)).Nodup from by decide +kernel) rfl (Or.inl rfl))) (λ_ _ _=>cK) (λ_ _ _=>(dc cF (pv 0) aD (λ_ _=>rfl)))))),
  (bo (cY (m:=1) (caps:=[]) (bW (zD (c:=0) (f:="held_works") cl_Yard na_Yard_held_works (ae 0))) (aN 0) cJ (ar de (ae 0) (aC 0))))⟩
theorem B2:bf ["yard"] ["yard"] (ay ky):=⟨rfl,rfl,rfl,by decide +kernel,rfl,by decide +kernel,by decide +kernel⟩
theorem Cw{a:Addr}{fd:FuncData}(F:Fun K "changes" "changes" ky a fd)(hm:mg "changes" =some (.ref a))(hpt:P.given.tree=none)(n_len:mg "len" =none)(n_range:mg "range" =none)(cl_Yard:Cls K (ca 0))(D_Yard_names:MethAt P w K mg base ca 35 (ca 0) "names" ["self"] gT)(D_Yard_change:MethAt P w K mg base ca 35 (ca 0) "change" ["self","at"] gc):bT P w K mg base ca 36 "changes" ["yard"] mH a fd:=by
 obtain⟨a_Yard_names,fd_Yard_names,G_Yard_names,jv,b_Yard_names⟩:=D_Yard_names
 obtain⟨a_Yard_change,fd_Yard_change,G_Yard_change,iw,b_Yard_change⟩:=D_Yard_change
 refine⟨bE F B2 rfl λcdv A outer s H E hr=> ?_,hm,F.kp,F.binds λ_ _ _ _ _ _ us hl=>match us,hl with | [_],_=>rfl⟩
 have hu:=hr.units
 have hdp:=bR hr (by decide)
 exact⟨_,(aE (bq (df (own:=["at"]) (cap:=["yard"]) (caps:=[0]) rfl ⟨rfl,by decide +kernel,by decide +kernel,by decide +kernel,⟨rfl,Or.inl rfl,rfl,trivial⟩,by decide +kernel⟩ (gy rfl n_range (ag (bx ei rfl n_len Boot.«len» (ag (yt (pv 0) cl_Yard jv G_Yard_names (hr.mono (by decide)) b_Yard_names .nil bc) aq)) aq)) (λ_ _ _=>(aT (i:=0) (show ((["at"]:List Str)++(["yard"]:List Str)).Nodup from by decide +kernel) rfl (Or.inl rfl))) (λ_ _ _=>cK) (λ_ _ _=>(Io (pv 1) cl_Yard iw G_Yard_change (hr.mono (by decide)) b_Yard_change .nil bc (ag (pv 0) aq)))))),
  (bo (cY (m:=1) (caps:=[0]) (jS (ah (br gG (ah (tF (c:=0) (m:="names") (n:=0) (f:=gT) (ae 0) av) av)) av)) (aN 0) cJ (tF (c:=0) (m:="change") (n:=1) (f:=gc) (ae 1) (ah (ae 0) av))))⟩
theorem xB:bf ["self"] ["self"] (ay hJ):=⟨rfl,rfl,rfl,by decide +kernel,rfl,by decide +kernel,by decide +kernel⟩
theorem xv{a:Addr}{fd:FuncData}(F:Fun K "goods" "Yard.goods" hJ a fd)(hm:Meth K (ca 0) "goods" a)(hpt:P.given.tree=none)(n_list:mg "list" =none)(cl_Yard:Cls K (ca 0))(na_Yard_held_goods:eY K (ca 0) "held_goods"):MethAt P w K mg base ca 35 (ca 0) "goods" ["self"] jz:=by
 refine⟨a,fd,bE F xB rfl λcdv A outer s H E hr=> ?_,hm,F.binds λ_ _ _ _ _ _ us hl=>match us,hl with | [_],_=>rfl⟩
 have hu:=hr.units
 have hdp:=bR hr (by decide)
 exact⟨_,(aE (bq (fD eW rfl n_list Boot.«list» (ag (yQ (pv 0) rfl) aq)))),
  (bo (br kj (ah (zD (c:=0) (f:="held_goods") cl_Yard na_Yard_held_goods (ae 0)) av)))⟩
theorem Hq:bf ["yard"] ["yard"] (ay pe):=⟨rfl,rfl,rfl,by decide +kernel,rfl,by decide +kernel,by decide +kernel⟩
theorem Hk{a:Addr}{fd:FuncData}(F:Fun K "kept" "kept" pe a fd)(hm:mg "kept" =some (.ref a))(hpt:P.given.tree=none)(n_len:mg "len" =none)(cl_Yard:Cls K (ca 0))(Hu:bG P w K mg base ca 41 "still" ["rows","many"] o4)(Dk:bG P w K mg base ca 36 "changes" ["yard"] mH)(D_Yard_goods:MethAt P w K mg base ca 35 (ca 0) "goods" ["self"] jz):bT P w K mg base ca 42 "kept" ["yard"] lg a fd:=by
 obtain⟨Md,LL,G8,pq,Ic,Hr⟩:=Hu
 obtain⟨Le,K8,Eh,mG,Di,DC⟩:=Dk
 obtain⟨a_Yard_goods,fd_Yard_goods,G_Yard_goods,jk,b_Yard_goods⟩:=D_Yard_goods
 refine⟨bE F Hq rfl λcdv A outer s H E hr=> ?_,hm,F.kp,F.binds λ_ _ _ _ _ _ us hl=>match us,hl with | [_],_=>rfl⟩
 have hu:=hr.units
 have hdp:=bR hr (by decide)
 exact⟨_,(aE (bq (aR G8 (hr.mono (by decide)) rfl pq Ic Hr .nil bc (ag (aR Eh (hr.mono (by decide)) rfl mG Di DC .nil bc (ag (pv 0) aq)) (ag (bx ei rfl n_len Boot.«len» (ag (yt (pv 0) cl_Yard jk G_Yard_goods (hr.mono (by decide)) b_Yard_goods .nil bc) aq)) aq))))),
  (bo (jA (n:=2) (f:=o4) (ah (aX (n:=1) (f:=mH) (ah (ae 0) av)) (ah (br gG (ah (tF (c:=0) (m:="goods") (n:=0) (f:=jz) (ae 0) av) av)) av))))⟩
theorem BV:bf ["text"] ["text"] (ay kv):=⟨rfl,rfl,rfl,by decide +kernel,rfl,by decide +kernel,by decide +kernel⟩
theorem Cd{a:Addr}{fd:FuncData}(F:Fun K "is_name" "is_name" kv a fd)(hm:mg "is_name" =some (.ref a))(hpt:P.given.tree=none)(n_len:mg "len" =none)(n_all:mg "all" =none)(c_MOST_LETTERS:∃t,mg "MOST_LETTERS" =some (.int 8 t)):bT P w K mg base ca 35 "is_name" ["text"] kE a fd:=by
 refine⟨bE F BV rfl λcdv A outer s H E hr=> ?_,hm,F.kp,F.binds λ_ _ _ _ _ _ us hl=>match us,hl with | [_],_=>rfl⟩
 have hu:=hr.units
 have hdp:=bR hr (by decide)
 exact⟨_,(au (cU (PW.pt (pw_or (bB xJ (bx ei rfl n_len Boot.«len» (ag (pv 0) aq)) aD (bQ _)) (pw_or1 (bB kL (bx ei rfl n_len Boot.«len» (ag (pv 0) aq)) (vm (v:=.int 8) rfl c_MOST_LETTERS.choose_spec ⟨_,rfl⟩) (bQ _)))))
 (aE (bq kW))
 bO)
 (aE (bq (bx (rJ rfl) rfl n_all Boot.«all» (ag (df (own:=["sign"]) (cap:=[]) (caps:=[]) rfl ⟨rfl,by decide +kernel,by decide +kernel,by decide +kernel,trivial,by decide +kernel⟩ (Kd (pv 0)) (λ_ _ _=>(aT (i:=0) (show ((["sign"]:List Str)++([]:List Str)).Nodup from by decide +kernel) rfl (Or.inl rfl))) (λ_ _ _=>cK) (λ_ _ _=>(ED CS CS ud (pv 0) ud))) aq))))),
  (aF (cV (qi (bK (ar xI (br gG (ah (ae 0) av)) (aC 1))) (bK (ar lj (br gG (ah (ae 0) av)) (aC 8))))
 (bo (kT false))
 bP)
 (bo (br yA (ah (cY (m:=1) (caps:=[]) (HM (ae 0)) (aN 0) cJ (Gk CQ CQ (uT ("a" :Str)) (ae 0) (uT ("z" :Str)))) av))))⟩
theorem xh:bf ["goods","works"] ["goods","works"] (ay gP):=⟨rfl,rfl,rfl,by decide +kernel,rfl,by decide +kernel,by decide +kernel⟩
theorem xl{a:Addr}{fd:FuncData}(F:Fun K "check_many" "check_many" gP a fd)(hm:mg "check_many" =some (.ref a))(hpt:P.given.tree=none)(n_len:mg "len" =none)(c_MOST_GOODS:∃t,mg "MOST_GOODS" =some (.int 10 t))(c_MOST_WORKS:∃t,mg "MOST_WORKS" =some (.int 10 t)):bT P w K mg base ca 35 "check_many" ["goods","works"] hW a fd:=by
 refine⟨bE F xh rfl λcdv A outer s H E hr=> ?_,hm,F.kp,F.binds λ_ _ _ _ _ _ us hl=>match us,hl with | [_,_],_=>rfl⟩
 have hu:=hr.units
 have hdp:=bR hr (by decide)
 exact⟨_,(au (cU (bB kL (bx ei rfl n_len Boot.«len» (ag (pv 0) aq)) (vm (v:=.int 10) rfl c_MOST_GOODS.choose_spec ⟨_,rfl⟩) (bQ _))
 (aE kg)
 bO)
 (aE (cU (bB kL (bx ei rfl n_len Boot.«len» (ag (pv 1) aq)) (vm (v:=.int 10) rfl c_MOST_WORKS.choose_spec ⟨_,rfl⟩) (bQ _))
 (aE kg)
 bO))),
  (aF (cV (bK (ar lj (br gG (ah (ae 0) av)) (aC 10)))
 ki
 bP)
 (cV (bK (ar lj (br gG (ah (ae 1) av)) (aC 10)))
 ki
 bP))⟩
theorem wX:bf ["text","earlier"] ["text","earlier"] (ay gW):=⟨rfl,rfl,rfl,by decide +kernel,rfl,by decide +kernel,by decide +kernel⟩
theorem xb{a:Addr}{fd:FuncData}(F:Fun K "check_name" "check_name" gW a fd)(hm:mg "check_name" =some (.ref a))(hpt:P.given.tree=none)(CW:bG P w K mg base ca 35 "is_name" ["text"] kE):bT P w K mg base ca 36 "check_name" ["text","earlier"] d9 a fd:=by
 obtain⟨Lj,K1,D8,my,CO,CK⟩:=CW
 refine⟨bE F wX rfl λcdv A outer s H E hr=> ?_,hm,F.kp,F.binds λ_ _ _ _ _ _ us hl=>match us,hl with | [_,_],_=>rfl⟩
 have hu:=hr.units
 have hdp:=bR hr (by decide)
 exact⟨_,(au (cU (nN (mr (aR D8 (hr.mono (by decide)) rfl my CO CK .nil bc (ag (pv 0) aq))))
 (aE kg)
 bO)
 (aE (cU (bB wc (pv 0) (pv 1) (by with_unfolding_all rfl))
 (aE kg)
 bO))),
  (aF (cV (nP (ou (aX (n:=1) (f:=kE) (ah (ae 0) av))))
 ki
 bP)
 (cV (bK (ar Gv (ae 0) (ae 1)))
 ki
 bP))⟩
theorem lF:bf ["goods","at","good"] ["goods"] (ay gi):=⟨rfl,rfl,rfl,by decide +kernel,rfl,by decide +kernel,by decide +kernel⟩
theorem vJ{a:Addr}{fd:FuncData}(F:Fun K "check_goods" "check_goods" gi a fd)(hm:mg "check_goods" =some (.ref a))(hpt:P.given.tree=none)(n_enumerate:mg "enumerate" =none)(nG:bG P w K mg base ca 36 "check_name" ["text","earlier"] d9):bT P w K mg base ca 37 "check_goods" ["goods"] gj a fd:=by
 obtain⟨zG,xj,nS,fP,nC,nY⟩:=nG
 refine⟨bE F lF rfl λcdv A outer s H E hr=> ?_,hm,F.kp,F.binds λ_ _ _ _ _ _ us hl=>match us,hl with | [_],_=>rfl⟩
 have hu:=hr.units
 have hdp:=bR hr (by decide)
 exact⟨_,(aE (dP PassesOwn.never rfl (nt rfl n_enumerate (ag (pv 0) aq)) (iG rfl (cv (aT (i:=1) lF.nd rfl (Or.inl rfl)) (cv (aT (i:=2) lF.nd rfl (Or.inl rfl)) gk)))
 (aE (dA (aR nS (hr.mono (by decide)) rfl fP nC nY .nil bc (ag (pv 2) (ag (tE IA (pv 0) o9 (rP (pv 1))) aq))))))),
  (dQ (gS (ah (ae 0) av)) (gh (cx (aN 1) (cx (aN 2) gu)))
 (dB (aX (n:=2) (f:=d9) (ah (ae 2) (ah (KP (ae 0) mn (rS (ae 1))) av)))))⟩
theorem xm:bf ["good","goods","earlier"] ["good","goods","earlier"] (ay g5):=⟨rfl,rfl,rfl,by decide +kernel,rfl,by decide +kernel,by decide +kernel⟩
theorem xE{a:Addr}{fd:FuncData}(F:Fun K "check_good" "check_good" g5 a fd)(hm:mg "check_good" =some (.ref a))(hpt:P.given.tree=none):bT P w K mg base ca 35 "check_good" ["good","goods","earlier"] hC a fd:=by
 refine⟨bE F xm rfl λcdv A outer s H E hr=> ?_,hm,F.kp,F.binds λ_ _ _ _ _ _ us hl=>match us,hl with | [_,_,_],_=>rfl⟩
 have hu:=hr.units
 have hdp:=bR hr (by decide)
 exact⟨_,(au (cU (bB yd (pv 0) (pv 1) (by with_unfolding_all rfl))
 (aE kg)
 bO)
 (aE (cU (bB wc (pv 0) (pv 2) (by with_unfolding_all rfl))
 (aE kg)
 bO))),
  (aF (cV (bK (ar EF (ae 0) (ae 1)))
 ki
 bP)
 (cV (bK (ar Gv (ae 0) (ae 2)))
 ki
 bP))⟩
theorem uC:bf ["amount"] ["amount"] (ay fI):=⟨rfl,rfl,rfl,by decide +kernel,rfl,by decide +kernel,by decide +kernel⟩
theorem t9{a:Addr}{fd:FuncData}(F:Fun K "check_amount" "check_amount" fI a fd)(hm:mg "check_amount" =some (.ref a))(hpt:P.given.tree=none)(CG:bG P w K mg base ca 35 "is_whole" ["value"] jV):bT P w K mg base ca 36 "check_amount" ["amount"] fJ a fd:=by
 obtain⟨K3,Kv,BZ,mL,Cb,BD⟩:=CG
 refine⟨bE F uC rfl λcdv A outer s H E hr=> ?_,hm,F.kp,F.binds λ_ _ _ _ _ _ us hl=>match us,hl with | [_],_=>rfl⟩
 have hu:=hr.units
 have hdp:=bR hr (by decide)
 exact⟨_,(aE (cU (PW.pt (pw_or (nN (mr (aR BZ (hr.mono (by decide)) rfl mL Cb BD .nil bc (ag (pv 0) aq)))) (pw_or1 (bB xJ (pv 0) aD (bQ _)))))
 (aE kg)
 bO)),
  (cV (qi (nP (ou (aX (n:=1) (f:=jV) (ah (ae 0) av)))) (bK (ar xI (ae 0) (aC 1))))
 ki
 bP)⟩
theorem jP:bf ["parts","goods","earlier","good","amount"] ["parts","goods"] (ay gn):=⟨rfl,rfl,rfl,by decide +kernel,rfl,by decide +kernel,by decide +kernel⟩
theorem vG{a:Addr}{fd:FuncData}(F:Fun K "check_parts" "check_parts" gn a fd)(hm:mg "check_parts" =some (.ref a))(hpt:P.given.tree=none)(yN:bG P w K mg base ca 35 "check_good" ["good","goods","earlier"] hC)(vb:bG P w K mg base ca 36 "check_amount" ["amount"] fJ):bT P w K mg base ca 37 "check_parts" ["parts","goods"] dS a fd:=by
 obtain⟨JX,IQ,xO,jy,zN,zF⟩:=yN
 obtain⟨Hw,Gu,uV,hZ,u2,vt⟩:=vb
 refine⟨bE F jP rfl λcdv A outer s H E hr=> ?_,hm,F.kp,F.binds λ_ _ _ _ _ _ us hl=>match us,hl with | [_,_],_=>rfl⟩
 have hu:=hr.units
 have hdp:=bR hr (by decide)
 exact⟨_,(au (aW (i:=2) jP.nd rfl (Or.inl rfl) (iB aq))
 (aE (dP PassesOwn.never rfl (bX (pv 0)) (iG rfl (cv (aT (i:=3) jP.nd rfl (Or.inl rfl)) (cv (aT (i:=4) jP.nd rfl (Or.inl rfl)) gk)))
 (au (dA (aR xO (hr.mono (by decide)) rfl jy zN zF .nil bc (ag (pv 3) (ag (pv 1) (ag (pv 2) aq)))))
 (au (dA (aR uV (hr.mono (by decide)) rfl hZ u2 vt .nil bc (ag (pv 4) aq)))
 (aE (dA (kb PySem.F.plainAttrs_list PySem.F.slot_list_append PySem.F.type_list_append eT (pv 2) (ag (pv 3) aq))))))))),
  (aF (aS (jK av))
 (dQ (bW (ae 0)) (gh (cx (aN 3) (cx (aN 4) gu)))
 (aF (dB (pJ (n:=3) (f:=hC) (ah (ae 3) (ah (ae 1) (ah (ae 2) av)))))
 (aF (dB (aX (n:=1) (f:=fJ) (ah (ae 4) av)))
 (dB (j6 (ae 2) (ae 3)))))))⟩
theorem gU:bf ["works","goods","earlier","name","uses","makes"] ["works","goods"] (ay gs):=⟨rfl,rfl,rfl,by decide +kernel,rfl,by decide +kernel,by decide +kernel⟩
theorem vn{a:Addr}{fd:FuncData}(F:Fun K "check_works" "check_works" gs a fd)(hm:mg "check_works" =some (.ref a))(hpt:P.given.tree=none)(nG:bG P w K mg base ca 36 "check_name" ["text","earlier"] d9)(xg:bG P w K mg base ca 37 "check_parts" ["parts","goods"] dS):bT P w K mg base ca 38 "check_works" ["works","goods"] gb a fd:=by
 obtain⟨zG,xj,nS,fP,nC,nY⟩:=nG
 obtain⟨IL,Ik,qq,fZ,qs,qv⟩:=xg
 refine⟨bE F gU rfl λcdv A outer s H E hr=> ?_,hm,F.kp,F.binds λ_ _ _ _ _ _ us hl=>match us,hl with | [_,_],_=>rfl⟩
 have hu:=hr.units
 have hdp:=bR hr (by decide)
 exact⟨_,(au (aW (i:=2) gU.nd rfl (Or.inl rfl) (iB aq))
 (aE (dP PassesOwn.never rfl (bX (pv 0)) (iG rfl (cv (aT (i:=3) gU.nd rfl (Or.inl rfl)) (cv (aT (i:=4) gU.nd rfl (Or.inl rfl)) (cv (aT (i:=5) gU.nd rfl (Or.inl rfl)) gk))))
 (au (dA (aR nS (hr.mono (by decide)) rfl fP nC nY .nil bc (ag (pv 3) (ag (pv 2) aq))))
 (au (dA (aR qq (hr.mono (by decide)) rfl fZ qs qv .nil bc (ag (pv 4) (ag (pv 1) aq))))
 (au (dA (aR qq (hr.mono (by decide)) rfl fZ qs qv .nil bc (ag (pv 5) (ag (pv 1) aq))))
 (aE (dA (kb PySem.F.plainAttrs_list PySem.F.slot_list_append PySem.F.type_list_append eT (pv 2) (ag (pv 3) aq)))))))))),
  (aF (aS (jK av))
 (dQ (bW (ae 0)) (gh (cx (aN 3) (cx (aN 4) (cx (aN 5) gu))))
 (aF (dB (pJ (n:=2) (f:=d9) (ah (ae 3) (ah (ae 2) av))))
 (aF (dB (aX (n:=2) (f:=dS) (ah (ae 4) (ah (ae 1) av))))
 (aF (dB (aX (n:=2) (f:=dS) (ah (ae 5) (ah (ae 1) av))))
 (dB (j6 (ae 2) (ae 3))))))))⟩
theorem yh:bf ["work"] ["work"] (ay iW):=⟨rfl,rfl,rfl,by decide +kernel,rfl,by decide +kernel,by decide +kernel⟩
theorem ym{a:Addr}{fd:FuncData}(F:Fun K "copy_work" "copy_work" iW a fd)(hm:mg "copy_work" =some (.ref a))(hpt:P.given.tree=none)(n_list:mg "list" =none):bT P w K mg base ca 35 "copy_work" ["work"] iY a fd:=by
 refine⟨bE F yh rfl λcdv A outer s H E hr=> ?_,hm,F.kp,F.binds λ_ _ _ _ _ _ us hl=>match us,hl with | [_],_=>rfl⟩
 have hu:=hr.units
 have hdp:=bR hr (by decide)
 exact⟨_,(aE (bq (uB (ag (dc cF (pv 0) aD (λ_ _=>rfl)) (ag (fD eW rfl n_list Boot.«list» (ag (dc cF (pv 0) aD (λ_ _=>rfl)) aq)) (ag (fD eW rfl n_list Boot.«list» (ag (dc cF (pv 0) aD (λ_ _=>rfl)) aq)) aq)))))),
  (bo (uv (ah (ar de (ae 0) (aC 0)) (ah (br kj (ah (ar de (ae 0) (aC 1)) av)) (ah (br kj (ah (ar de (ae 0) (aC 2)) av)) av)))))⟩
theorem zM:bf ["good","parts"] ["good","parts"] (ay iQ):=⟨rfl,rfl,rfl,by decide +kernel,rfl,by decide +kernel,by decide +kernel⟩
theorem yB{a:Addr}{fd:FuncData}(F:Fun K "amount_of" "amount_of" iQ a fd)(hm:mg "amount_of" =some (.ref a))(hpt:P.given.tree=none)(n_sum:mg "sum" =none):bT P w K mg base ca 35 "amount_of" ["good","parts"] dN a fd:=by
 refine⟨bE F zM rfl λcdv A outer s H E hr=> ?_,hm,F.kp,F.binds λ_ _ _ _ _ _ us hl=>match us,hl with | [_,_],_=>rfl⟩
 have hu:=hr.units
 have hdp:=bR hr (by decide)
 exact⟨_,(aE (bq (bx (oB rfl) rfl n_sum Boot.«sum» (ag (df (own:=["part"]) (cap:=["good"]) (caps:=[0]) rfl ⟨rfl,by decide +kernel,by decide +kernel,by decide +kernel,⟨rfl,Or.inl rfl,rfl,trivial⟩,by decide +kernel⟩ (bX (pv 1)) (λ_ _ _=>(aT (i:=0) (show ((["part"]:List Str)++(["good"]:List Str)).Nodup from by decide +kernel) rfl (Or.inl rfl))) (λ_ _ _=>(vi (bB (qm hu) (dc cF (pv 0) aD (λ_ _=>rfl)) (pv 1) (bQ _)))) (λ_ _ _=>(dc cF (pv 0) aD (λ_ _=>rfl)))) aq)))),
  (bo (br uh (ah (cY (m:=1) (caps:=[0]) (bW (ae 1)) (aN 0) (bK (ar mP (ar de (ae 0) (aC 0)) (ae 1))) (ar de (ae 0) (aC 1))) av)))⟩
theorem yS:bf ["work","goods"] ["work","goods"] (ay iZ):=⟨rfl,rfl,rfl,by decide +kernel,rfl,by decide +kernel,by decide +kernel⟩
theorem zH{a:Addr}{fd:FuncData}(F:Fun K "change_of" "change_of" iZ a fd)(hm:mg "change_of" =some (.ref a))(hpt:P.given.tree=none)(Am:bG P w K mg base ca 35 "amount_of" ["good","parts"] dN):bT P w K mg base ca 36 "change_of" ["work","goods"] iK a fd:=by
 obtain⟨KA,J5,sP,iX,sX,sN⟩:=Am
 refine⟨bE F yS rfl λcdv A outer s H E hr=> ?_,hm,F.kp,F.binds λ_ _ _ _ _ _ us hl=>match us,hl with | [_,_],_=>rfl⟩
 have hu:=hr.units
 have hdp:=bR hr (by decide)
 exact⟨_,(aE (bq (df (own:=["good"]) (cap:=["work"]) (caps:=[0]) rfl ⟨rfl,by decide +kernel,by decide +kernel,by decide +kernel,⟨rfl,Or.inl rfl,rfl,trivial⟩,by decide +kernel⟩ (bX (pv 1)) (λ_ _ _=>(aT (i:=0) (show ((["good"]:List Str)++(["work"]:List Str)).Nodup from by decide +kernel) rfl (Or.inl rfl))) (λ_ _ _=>cK) (λ_ _ _=>(aV kZ (aR sP (hr.mono (by decide)) rfl iX sX sN .nil bc (ag (pv 0) (ag (dc cF (pv 1) aD (λ_ _=>rfl)) aq))) (aR sP (hr.mono (by decide)) rfl iX sX sN .nil bc (ag (pv 0) (ag (dc cF (pv 1) aD (λ_ _=>rfl)) aq)))))))),
  (bo (cY (m:=1) (caps:=[0]) (bW (ae 1)) (aN 0) cJ (ar kO (aX (n:=2) (f:=dN) (ah (ae 0) (ah (ar de (ae 1) (aC 2)) av))) (aX (n:=2) (f:=dN) (ah (ae 0) (ah (ar de (ae 1) (aC 1)) av))))))⟩
theorem yF:bf ["self","goods","works"] ["self","goods","works"] (ay iV):=⟨rfl,rfl,rfl,by decide +kernel,rfl,by decide +kernel,by decide +kernel⟩
theorem zK{a:Addr}{fd:FuncData}(F:Fun K "__init__" "Yard.__init__" iV a fd)(hk:Mk K (ca 0) a)(hm:mg "Yard" =some (.ref (ca 0)))(hpt:P.given.tree=none)(n_list:mg "list" =none)(cl_Yard:Cls K (ca 0))(na_Yard_held_goods:eY K (ca 0) "held_goods")(na_Yard_held_works:eY K (ca 0) "held_works")(na_Yard_held_changes:eY K (ca 0) "held_changes")(xQ:bG P w K mg base ca 35 "check_many" ["goods","works"] hW)(wV:bG P w K mg base ca 37 "check_goods" ["goods"] gj)(xk:bG P w K mg base ca 38 "check_works" ["works","goods"] gb)(Ag:bG P w K mg base ca 35 "copy_work" ["work"] iY)(z7:bG P w K mg base ca 36 "change_of" ["work","goods"] iK):D1 P w K mg base ca 39 (ca 0) "Yard" ["self","goods","works"] gL:=by
 obtain⟨Kl,IU,yq,jm,zT,zu⟩:=xQ
 obtain⟨IK,Hl,xy,iC,xt,xq⟩:=wV
 obtain⟨IP,Hc,xo,iH,xn,w8⟩:=xk
 obtain⟨Kt,Jl,Al,j8,Ah,Ad⟩:=Ag
 obtain⟨Kz,J1,Ap,j3,AF,z4⟩:=z7
 refine⟨a,fd,bE F yF rfl λcdv A outer s H E hr=> ?_,hk,hm,F.binds λ_ _ _ _ _ _ us hl=>match us,hl with | [_,_,_],_=>rfl⟩
 have hu:=hr.units
 have hdp:=bR hr (by decide)
 exact⟨_,(au (dA (aR yq (hr.mono (by decide)) rfl jm zT zu .nil bc (ag (pv 1) (ag (pv 2) aq))))
 (au (dA (aR xy (hr.mono (by decide)) rfl iC xt xq .nil bc (ag (pv 1) aq)))
 (au (dA (aR xo (hr.mono (by decide)) rfl iH xn w8 .nil bc (ag (pv 2) (ag (pv 1) aq))))
 (au (zL (pv 0) (fD eW rfl n_list Boot.«list» (ag (pv 1) aq)) rfl)
 (au (zL (pv 0) (df (own:=["work"]) (cap:=[]) (caps:=[]) rfl ⟨rfl,by decide +kernel,by decide +kernel,by decide +kernel,trivial,by decide +kernel⟩ (bX (pv 2)) (λ_ _ _=>(aT (i:=0) (show ((["work"]:List Str)++([]:List Str)).Nodup from by decide +kernel) rfl (Or.inl rfl))) (λ_ _ _=>cK) (λ_ _ _=>(aR Al (hr.mono (by decide)) rfl j8 Ah Ad .nil bc (ag (pv 0) aq)))) rfl)
 (aE (zL (pv 0) (df (own:=["work"]) (cap:=["goods"]) (caps:=[1]) rfl ⟨rfl,by decide +kernel,by decide +kernel,by decide +kernel,⟨rfl,Or.inl rfl,rfl,trivial⟩,by decide +kernel⟩ (bX (pv 2)) (λ_ _ _=>(aT (i:=0) (show ((["work"]:List Str)++(["goods"]:List Str)).Nodup from by decide +kernel) rfl (Or.inl rfl))) (λ_ _ _=>cK) (λ_ _ _=>(aR Ap (hr.mono (by decide)) rfl j3 AF z4 .nil bc (ag (pv 0) (ag (pv 1) aq))))) rfl))))))),
  (aF (dB (aX (n:=2) (f:=hW) (ah (ae 1) (ah (ae 2) av))))
 (aF (dB (aX (n:=1) (f:=gj) (ah (ae 1) av)))
 (aF (dB (aX (n:=2) (f:=gb) (ah (ae 2) (ah (ae 1) av))))
 (aF (vB (c:=0) (f:="held_goods") cl_Yard na_Yard_held_goods (ae 0) (br kj (ah (ae 1) av)))
 (aF (vB (c:=0) (f:="held_works") cl_Yard na_Yard_held_works (ae 0) (cY (m:=1) (caps:=[]) (bW (ae 2)) (aN 0) cJ (aX (n:=1) (f:=iY) (ah (ae 0) av))))
 (vB (c:=0) (f:="held_changes") cl_Yard na_Yard_held_changes (ae 0) (cY (m:=1) (caps:=[1]) (bW (ae 2)) (aN 0) cJ (aX (n:=2) (f:=iK) (ah (ae 0) (ah (ae 1) av))))))))))⟩
theorem Ay:bf ["_law_script","_law_k"] ["_law_script","_law_k"] (ay jG):=⟨rfl,rfl,rfl,by decide +kernel,rfl,by decide +kernel,by decide +kernel⟩
theorem Au{a:Addr}{fd:FuncData}(F:Fun K "_law_cell" "_law_cell" jG a fd)(hm:mg "_law_cell" =some (.ref a))(hpt:P.given.tree=none)(n_len:mg "len" =none):bT P w K mg base ca 35 "_law_cell" ["_law_script","_law_k"] dh a fd:=by
 refine⟨bE F Ay rfl λcdv A outer s H E hr=> ?_,hm,F.kp,F.binds λ_ _ _ _ _ _ us hl=>match us,hl with | [_,_],_=>rfl⟩
 have hu:=hr.units
 have hdp:=bR hr (by decide)
 exact⟨_,(au (cU (bB xJ (pv 1) (bx ei rfl n_len Boot.«len» (ag (pv 0) aq)) (bQ _))
 (aE (bq (dc cF (pv 0) (pv 1) (λ_ _=>rfl))))
 bO)
 (aE (bq aD))),
  (aF (cV (bK (ar xI (ae 1) (br gG (ah (ae 0) av))))
 (bo (ar de (ae 0) (ae 1)))
 bP)
 (bo (aC 0)))⟩
theorem tj:bf ["_law_cell_here","_law_turn","_law_many","_law_blent"] ["_law_cell_here","_law_turn","_law_many"] (ay jQ):=⟨rfl,rfl,rfl,by decide +kernel,rfl,by decide +kernel,by decide +kernel⟩
theorem Av{a:Addr}{fd:FuncData}(F:Fun K "_law_pick" "_law_pick" jQ a fd)(hm:mg "_law_pick" =some (.ref a))(hpt:P.given.tree=none):bT P w K mg base ca 35 "_law_pick" ["_law_cell_here","_law_turn","_law_many"] aM a fd:=by
 refine⟨bE F tj rfl λcdv A outer s H E hr=> ?_,hm,F.kp,F.binds λ_ _ _ _ _ _ us hl=>match us,hl with | [_,_,_],_=>rfl⟩
 have hu:=hr.units
 have hdp:=bR hr (by decide)
 exact⟨_,(au (aW (i:=3) tj.nd rfl (Or.inl rfl) (aV fk (aV fj (aV du (aV fk (pv 0) aD) aD) (aV du aD (aV fj aD (pv 1)))) aD))
 (aE (bq (aV fk (aV (mD hdp hpt ⟨_,_,rfl,rfl,rfl,rfl,rfl⟩) (aV fk (aV fj (pv 3) aD) aD) aD) (pv 2))))),
  (aF (aS (ar gB (ar d0 (ar cP (ar gB (ae 0) (aC 2147483647)) (aC 7)) (ar cP (aC 48271) (ar d0 (aC 7919) (ae 1)))) (aC 2147483647)))
 (bo (ar gB (ar kD (ar gB (ar d0 (ae 3) (aC 16807)) (aC 2147483647)) (aC 8)) (ae 2))))⟩
theorem fL:bf ["_law_cell_here","_law_many","_law_letters","_law_word","_law_k","_law_spot","_law_first"] ["_law_cell_here","_law_many"] (ay iJ):=⟨rfl,rfl,rfl,by decide +kernel,rfl,by decide +kernel,by decide +kernel⟩
theorem yV{a:Addr}{fd:FuncData}(F:Fun K "_law_names" "_law_names" iJ a fd)(hm:mg "_law_names" =some (.ref a))(hpt:P.given.tree=none)(n_range:mg "range" =none)(n_len:mg "len" =none)(ey:bG P w K mg base ca 35 "_law_pick" ["_law_cell_here","_law_turn","_law_many"] aM):bT P w K mg base ca 36 "_law_names" ["_law_cell_here","_law_many"] dj a fd:=by
 obtain⟨kS,j2,cf,bJ,cb,ck⟩:=ey
 refine⟨bE F fL rfl λcdv A outer s H E hr=> ?_,hm,F.kp,F.binds λ_ _ _ _ _ _ us hl=>match us,hl with | [_,_],_=>rfl⟩
 have hu:=hr.units
 have hdp:=bR hr (by decide)
 exact⟨_,(au (aW (i:=2) fL.nd rfl (Or.inr rfl) ud)
 (au (aW (i:=3) fL.nd rfl (Or.inr rfl) ud)
 (au (dP PassesOwn.never rfl (gy rfl n_range (ag (aR cf (hr.mono (by decide)) rfl bJ cb ck .nil bc (ag (pv 0) (ag aD (ag aD aq)))) aq)) (aT (i:=4) fL.nd rfl (Or.inl rfl))
 (aE (aW (i:=3) fL.nd rfl (Or.inr rfl) (aV du (pv 3) (dc cF (pv 2) (aR cf (hr.mono (by decide)) rfl bJ cb ck .nil bc (ag (pv 0) (ag (aV du aD (pv 4)) (ag aD aq)))) (λ_ _=>rfl))))))
 (au (aW (i:=5) fL.nd rfl (Or.inr rfl) (aR cf (hr.mono (by decide)) rfl bJ cb ck .nil bc (ag (pv 0) (ag aD (ag (aV du (bx ei rfl n_len Boot.«len» (ag (pv 3) aq)) aD) aq)))))
 (au (aW (i:=6) fL.nd rfl (Or.inr rfl) (aR cf (hr.mono (by decide)) rfl bJ cb ck .nil bc (ag (pv 0) (ag aD (ag aD aq)))))
 (aE (bq (df (own:=["_law_k"]) (cap:=["_law_first","_law_letters","_law_spot","_law_word"]) (caps:=[6,2,5,3]) rfl ⟨rfl,by decide +kernel,by decide +kernel,by decide +kernel,⟨rfl,Or.inl rfl,rfl,⟨rfl,Or.inl rfl,rfl,⟨rfl,Or.inl rfl,rfl,⟨rfl,Or.inl rfl,rfl,trivial⟩⟩⟩⟩,by decide +kernel⟩ (gy rfl n_range (ag (pv 1) aq)) (λ_ _ _=>(aT (i:=0) (show ((["_law_k"]:List Str)++(["_law_first","_law_letters","_law_spot","_law_word"]:List Str)).Nodup from by decide +kernel) rfl (Or.inl rfl))) (λ_ _ _=>cK) (λ_ _ _=>(aV du (aV du (tE DA (pv 4) o9 (rP (pv 3))) (dc cF (pv 2) (aV fk (aV du (pv 1) (aV fj aD (pv 0))) aD) (λ_ _=>rfl))) (tE DA (pv 4) (rP (pv 3)) o9))))))))))),
  (aF (aS (uT ("abcdefghijklmnopqrstuvwxyz" :Str)))
 (aF (aS (uT ("" :Str)))
 (aF (dQ (jS (ah (aX (n:=3) (f:=aM) (ah (ae 0) (ah (aC 1) (ah (aC 8) av)))) av)) (aN 4)
 (aS (ar cP (ae 3) (ar de (ae 2) (aX (n:=3) (f:=aM) (ah (ae 0) (ah (ar cP (aC 2) (ae 4)) (ah (aC 26) av))))))))
 (aF (aS (aX (n:=3) (f:=aM) (ah (ae 0) (ah (aC 10) (ah (ar cP (br gG (ah (ae 3) av)) (aC 1)) av)))))
 (aF (aS (aX (n:=3) (f:=aM) (ah (ae 0) (ah (aC 11) (ah (aC 26) av)))))
 (bo (cY (m:=1) (caps:=[6,2,5,3]) (jS (ah (ae 1) av)) (aN 0) cJ (ar cP (ar cP (DJ (ae 4) mn (rS (ae 3))) (ar de (ae 2) (ar gB (ar cP (ae 1) (ar d0 (aC 5) (ae 0))) (aC 26)))) (DJ (ae 4) (rS (ae 3)) mn)))))))))⟩
theorem eL:bf ["_law_cell_here","_law_many","_law_wide","_law_made","_law_rest","_law_span","_law_g","_law_number"] ["_law_cell_here","_law_many","_law_wide"] (ay jL):=⟨rfl,rfl,rfl,by decide +kernel,rfl,by decide +kernel,by decide +kernel⟩
theorem z3{a:Addr}{fd:FuncData}(F:Fun K "_law_move" "_law_move" jL a fd)(hm:mg "_law_move" =some (.ref a))(hpt:P.given.tree=none)(n_int:mg "int" =none)(n_range:mg "range" =none)(ey:bG P w K mg base ca 35 "_law_pick" ["_law_cell_here","_law_turn","_law_many"] aM):bT P w K mg base ca 36 "_law_move" ["_law_cell_here","_law_many","_law_wide"] jE a fd:=by
 obtain⟨kS,j2,cf,bJ,cb,ck⟩:=ey
 refine⟨bE F eL rfl λcdv A outer s H E hr=> ?_,hm,F.kp,F.binds λ_ _ _ _ _ _ us hl=>match us,hl with | [_,_,_],_=>rfl⟩
 have hu:=hr.units
 have hdp:=bR hr (by decide)
 exact⟨_,(au (aW (i:=3) eL.nd rfl (Or.inl rfl) (iB aq))
 (au (aW (i:=4) eL.nd rfl (Or.inl rfl) (aV (mD hdp hpt ⟨_,_,rfl,rfl,rfl,rfl,rfl⟩) (pv 0) aD))
 (au (aW (i:=5) eL.nd rfl (Or.inl rfl) (dc cF (iB (ag aD (ag (aV du (aV fj aD (aV ub aD aD)) aD) aq))) (fD wB rfl n_int Boot.«int» (ag (pv 2) aq)) (λ_ _=>rfl)))
 (au (dP PassesOwn.never rfl (gy rfl n_range (ag (pv 1) aq)) (aT (i:=6) eL.nd rfl (Or.inl rfl))
 (au (aW (i:=7) eL.nd rfl (Or.inl rfl) (aV kZ (aR cf (hr.mono (by decide)) rfl bJ cb ck .nil bc (ag (pv 0) (ag (aV du aD (pv 6)) (ag aD aq)))) aD))
 (au (cU (mr (pv 2))
 (aE (aW (i:=7) eL.nd rfl (Or.inl rfl) (aV kZ (aV du (aV fj (pv 7) (aV fk (pv 0) (aV ub aD aD))) (aR cf (hr.mono (by decide)) rfl bJ cb ck .nil bc (ag (pv 0) (ag (aV du aD (pv 6)) (ag aD aq))))) aD)))
 bO)
 (au (cU (PW.pt (pw_and (bB (qm hu) (aV fk (pv 0) aD) aD (bQ _)) (pw_and1 (bB kL (pv 4) aD (bQ _)))))
 (au (aW (i:=7) eL.nd rfl (Or.inl rfl) (aV kZ (aV fk (pv 4) (pv 5)) (aV (mD hdp hpt ⟨_,_,rfl,rfl,rfl,rfl,rfl⟩) (pv 5) aD)))
 (aE (aW (i:=4) eL.nd rfl (Or.inl rfl) (aV (mD hdp hpt ⟨_,_,rfl,rfl,rfl,rfl,rfl⟩) (pv 4) (pv 5)))))
 bO)
 (aE (dA (kb PySem.F.plainAttrs_list PySem.F.slot_list_append PySem.F.type_list_append eT (pv 3) (ag (pv 7) aq))))))))
 (aE (bq (pv 3))))))),
  (aF (aS (jK av))
 (aF (aS (ar kD (ae 0) (aC 2)))
 (aF (aS (ar de (C5 (ah (aC 7) (ah (ar cP (ar d0 (aC 2) (ar t8 (aC 10) (aC 12))) (aC 1)) av))) (br zm (ah (ae 2) av))))
 (aF (dQ (jS (ah (ae 1) av)) (aN 6)
 (aF (aS (ar kO (aX (n:=3) (f:=aM) (ah (ae 0) (ah (ar cP (aC 20) (ae 6)) (ah (aC 7) av)))) (aC 3)))
 (aF (cV (ou (ae 2))
 (aS (ar kO (ar cP (ar d0 (ae 7) (ar gB (ae 0) (ar t8 (aC 10) (aC 12)))) (aX (n:=3) (f:=aM) (ah (ae 0) (ah (ar cP (aC 30) (ae 6)) (ah (aC 2000) av))))) (aC 1000)))
 bP)
 (aF (cV (DU (bK (ar mP (ar gB (ae 0) (aC 2)) (aC 1))) (bK (ar lj (ae 4) (aC 0))))
 (aF (aS (ar kO (ar gB (ae 4) (ae 5)) (ar kD (ae 5) (aC 2))))
 (aS (ar kD (ae 4) (ae 5))))
 bP)
 (dB (j6 (ae 3) (ae 7)))))))
 (bo (ae 3))))))⟩
theorem d6:bf ["_law_cell_here","_law_many","_law_lowest_one","_law_made","_law_rest","_law_g","_law_number"] ["_law_cell_here","_law_many","_law_lowest_one"] (ay gw):=⟨rfl,rfl,rfl,by decide +kernel,rfl,by decide +kernel,by decide +kernel⟩
theorem vH{a:Addr}{fd:FuncData}(F:Fun K "_law_weights" "_law_weights" gw a fd)(hm:mg "_law_weights" =some (.ref a))(hpt:P.given.tree=none)(n_range:mg "range" =none)(n_max:mg "max" =none)(ey:bG P w K mg base ca 35 "_law_pick" ["_law_cell_here","_law_turn","_law_many"] aM):bT P w K mg base ca 36 "_law_weights" ["_law_cell_here","_law_many","_law_lowest_one"] ft a fd:=by
 obtain⟨kS,j2,cf,bJ,cb,ck⟩:=ey
 refine⟨bE F d6 rfl λcdv A outer s H E hr=> ?_,hm,F.kp,F.binds λ_ _ _ _ _ _ us hl=>match us,hl with | [_,_,_],_=>rfl⟩
 have hu:=hr.units
 have hdp:=bR hr (by decide)
 exact⟨_,(au (aW (i:=3) d6.nd rfl (Or.inl rfl) (iB aq))
 (au (aW (i:=4) d6.nd rfl (Or.inl rfl) (aV (mD hdp hpt ⟨_,_,rfl,rfl,rfl,rfl,rfl⟩) (pv 0) aD))
 (au (dP PassesOwn.never rfl (gy rfl n_range (ag (pv 1) aq)) (aT (i:=5) d6.nd rfl (Or.inl rfl))
 (au (aW (i:=6) d6.nd rfl (Or.inl rfl) (aV kZ (aR cf (hr.mono (by decide)) rfl bJ cb ck .nil bc (ag (pv 0) (ag (aV du aD (pv 5)) (ag aD aq)))) aD))
 (au (cU (bB (qm hu) (aR cf (hr.mono (by decide)) rfl bJ cb ck .nil bc (ag (pv 0) (ag aD (ag aD aq)))) aD (bQ _))
 (aE (aW (i:=6) d6.nd rfl (Or.inl rfl) (aV fj (pv 6) (aV fk (pv 0) (aV ub aD aD)))))
 bO)
 (au (cU (PW.pt (pw_and (bB (qm hu) (aV fk (pv 0) aD) aD (bQ _)) (pw_and1 (bB kL (pv 4) aD (bQ _)))))
 (au (aW (i:=6) d6.nd rfl (Or.inl rfl) (aV kZ (aV fk (pv 4) aD) aD))
 (aE (aW (i:=4) d6.nd rfl (Or.inl rfl) (aV (mD hdp hpt ⟨_,_,rfl,rfl,rfl,rfl,rfl⟩) (pv 4) aD))))
 bO)
 (aE (dA (kb PySem.F.plainAttrs_list PySem.F.slot_list_append PySem.F.type_list_append eT (pv 3) (ag (bx (mw rfl) rfl n_max Boot.«max» (ag (pv 6) (ag (pv 2) aq))) aq))))))))
 (au (cU (bB kL (pv 1) aD (bQ _))
 (aE (zV aD (xM (pv 3) (aR cf (hr.mono (by decide)) rfl bJ cb ck .nil bc (ag (pv 0) (ag aD (ag (pv 1) aq)))) set_list)))
 bO)
 (aE (bq (pv 3))))))),
  (aF (aS (jK av))
 (aF (aS (ar kD (ae 0) (aC 2)))
 (aF (dQ (jS (ah (ae 1) av)) (aN 5)
 (aF (aS (ar kO (aX (n:=3) (f:=aM) (ah (ae 0) (ah (ar cP (aC 100) (ae 5)) (ah (aC 7) av)))) (aC 3)))
 (aF (cV (bK (ar mP (aX (n:=3) (f:=aM) (ah (ae 0) (ah (aC 110) (ah (aC 6) av)))) (aC 0)))
 (aS (ar d0 (ae 6) (ar gB (ae 0) (ar t8 (aC 10) (aC 9)))))
 bP)
 (aF (cV (DU (bK (ar mP (ar gB (ae 0) (aC 2)) (aC 1))) (bK (ar lj (ae 4) (aC 0))))
 (aF (aS (ar kO (ar gB (ae 4) (aC 7)) (aC 3)))
 (aS (ar kD (ae 4) (aC 7))))
 bP)
 (dB (j6 (ae 3) (br pk (ah (ae 6) (ah (ae 2) av)))))))))
 (aF (cV (bK (ar lj (ae 1) (aC 0)))
 (uf (aC 1) (yr (ae 3) (aX (n:=3) (f:=aM) (ah (ae 0) (ah (aC 111) (ah (ae 1) av))))))
 bP)
 (bo (lr (ae 3)))))))⟩
theorem dD:bf ["_law_script","_law_begin","_law_weights_here","_law_head","_law_many","_law_moves","_law_wide","_law_k","_law_move_here","_law_at","_law_weighs"] ["_law_script","_law_begin","_law_weights_here"] (ay gf):=⟨rfl,rfl,rfl,by decide +kernel,rfl,by decide +kernel,by decide +kernel⟩
theorem u1{a:Addr}{fd:FuncData}(F:Fun K "_law_keeping" "_law_keeping" gf a fd)(hm:mg "_law_keeping" =some (.ref a))(hpt:P.given.tree=none)(n_len:mg "len" =none)(n_int:mg "int" =none)(n_range:mg "range" =none)(n_sum:mg "sum" =none)(pY:bG P w K mg base ca 35 "_law_cell" ["_law_script","_law_k"] dh)(ey:bG P w K mg base ca 35 "_law_pick" ["_law_cell_here","_law_turn","_law_many"] aM)(BI:bG P w K mg base ca 36 "_law_move" ["_law_cell_here","_law_many","_law_wide"] jE):bT P w K mg base ca 37 "_law_keeping" ["_law_script","_law_begin","_law_weights_here"] fu a fd:=by
 obtain⟨Cm,AG,mO,gC,m8,m4⟩:=pY
 obtain⟨kS,j2,cf,bJ,cb,ck⟩:=ey
 obtain⟨KI,Kr,Cr,kM,By,CD⟩:=BI
 refine⟨bE F dD rfl λcdv A outer s H E hr=> ?_,hm,F.kp,F.binds λ_ _ _ _ _ _ us hl=>match us,hl with | [_,_,_],_=>rfl⟩
 have hu:=hr.units
 have hdp:=bR hr (by decide)
 exact⟨_,(au (aW (i:=3) dD.nd rfl (Or.inl rfl) (aR mO (hr.mono (by decide)) rfl gC m8 m4 .nil bc (ag (pv 0) (ag (pv 1) aq))))
 (au (aW (i:=4) dD.nd rfl (Or.inl rfl) (bx ei rfl n_len Boot.«len» (ag (pv 2) aq)))
 (au (aW (i:=5) dD.nd rfl (Or.inl rfl) (iB aq))
 (au (aW (i:=6) dD.nd rfl (Or.inl rfl) (Be (qm hu) (aR cf (hr.mono (by decide)) rfl bJ cb ck .nil bc (ag (pv 3) (ag aD (ag aD aq)))) aD (bQ _)))
 (au (dP PassesOwn.never rfl (gy rfl n_range (ag (aV fk (aR cf (hr.mono (by decide)) rfl bJ cb ck .nil bc (ag (pv 3) (ag aD (ag aD aq)))) (aV kZ aD (aV fj aD (fD wB rfl n_int Boot.«int» (ag (pv 6) aq))))) aq)) (aT (i:=7) dD.nd rfl (Or.inl rfl))
 (au (aW (i:=8) dD.nd rfl (Or.inr rfl) (aR Cr (hr.mono (by decide)) rfl kM By CD .nil bc (ag (aV du (aR mO (hr.mono (by decide)) rfl gC m8 m4 .nil bc (ag (pv 0) (ag (aV du (aV du (pv 1) aD) (pv 7)) aq))) (aV fj aD (pv 7))) (ag (pv 4) (ag (pv 6) aq)))))
 (au (cU (bB kL (pv 4) aD (bQ _))
 (au (aW (i:=9) dD.nd rfl (Or.inl rfl) (kb PySem.F.plainAttrs_list PySem.F.slot_list_index PySem.F.type_list_index Dv (pv 2) (ag aD aq)))
 (au (aW (i:=10) dD.nd rfl (Or.inl rfl) (bx (oB rfl) rfl n_sum Boot.«sum» (ag (df (own:=["_law_g"]) (cap:=["_law_move_here","_law_weights_here"]) (caps:=[8,2]) rfl ⟨rfl,by decide +kernel,by decide +kernel,by decide +kernel,⟨rfl,Or.inl rfl,rfl,⟨rfl,Or.inl rfl,rfl,trivial⟩⟩,by decide +kernel⟩ (gy rfl n_range (ag (pv 4) aq)) (λ_ _ _=>(aT (i:=0) (show ((["_law_g"]:List Str)++(["_law_move_here","_law_weights_here"]:List Str)).Nodup from by decide +kernel) rfl (Or.inl rfl))) (λ_ _ _=>cK) (λ_ _ _=>(aV fj (dc cF (pv 2) (pv 0) (λ_ _=>rfl)) (dc cF (pv 1) (pv 0) (λ_ _=>rfl))))) aq)))
 (aE (zV (aV kZ (dc cF (pv 8) (pv 9) (λ_ _=>rfl)) (pv 10)) (xM (pv 8) (pv 9) set_list)))))
 bO)
 (aE (dA (kb PySem.F.plainAttrs_list PySem.F.slot_list_append PySem.F.type_list_append eT (pv 5) (ag (pv 8) aq)))))))
 (aE (bq (pv 5)))))))),
  (aF (aS (aX (n:=2) (f:=dh) (ah (ae 0) (ah (ae 1) av))))
 (aF (aS (br gG (ah (ae 2) av)))
 (aF (aS (jK av))
 (aF (aS (ar mP (aX (n:=3) (f:=aM) (ah (ae 3) (ah (aC 41) (ah (aC 6) av)))) (aC 0)))
 (aF (dQ (jS (ah (ar gB (aX (n:=3) (f:=aM) (ah (ae 3) (ah (aC 40) (ah (aC 6) av)))) (ar kO (aC 6) (ar d0 (aC 2) (br zm (ah (ae 6) av))))) av)) (aN 7)
 (aF (aS (jA (n:=3) (f:=jE) (ah (ar cP (aX (n:=2) (f:=dh) (ah (ae 0) (ah (ar cP (ar cP (ae 1) (aC 1)) (ae 7)) av))) (ar d0 (aC 13) (ae 7))) (ah (ae 4) (ah (ae 6) av)))))
 (aF (cV (bK (ar lj (ae 4) (aC 0)))
 (aF (aS (DS (ae 2) (aC 1)))
 (aF (aS (br uh (ah (cY (m:=1) (caps:=[8,2]) (jS (ah (ae 4) av)) (aN 0) cJ (ar d0 (ar de (ae 2) (ae 0)) (ar de (ae 1) (ae 0)))) av)))
 (uf (ar kO (ar de (ae 8) (ae 9)) (ae 10)) (yr (ae 8) (ae 9)))))
 bP)
 (dB (j6 (ae 5) (lr (ae 8)))))))
 (bo (lr (ae 5))))))))⟩
theorem dO:bf ["_law_moves","_law_stuff","_law_called","_law_cell_here","_law_made","_law_k","_law_move_here","_law_uses","_law_makes","_law_g","_law_number","_law_more"] ["_law_moves","_law_stuff","_law_called","_law_cell_here"] (ay iN):=⟨rfl,rfl,rfl,by decide +kernel,rfl,by decide +kernel,by decide +kernel⟩
theorem yx{a:Addr}{fd:FuncData}(F:Fun K "_law_works" "_law_works" iN a fd)(hm:mg "_law_works" =some (.ref a))(hpt:P.given.tree=none)(n_enumerate:mg "enumerate" =none)(n_max:mg "max" =none)(ey:bG P w K mg base ca 35 "_law_pick" ["_law_cell_here","_law_turn","_law_many"] aM):bT P w K mg base ca 36 "_law_works" ["_law_moves","_law_stuff","_law_called","_law_cell_here"] fE a fd:=by
 obtain⟨kS,j2,cf,bJ,cb,ck⟩:=ey
 refine⟨bE F dO rfl λcdv A outer s H E hr=> ?_,hm,F.kp,F.binds λ_ _ _ _ _ _ us hl=>match us,hl with | [_,_,_,_],_=>rfl⟩
 have hu:=hr.units
 have hdp:=bR hr (by decide)
 exact⟨_,(au (aW (i:=4) dO.nd rfl (Or.inl rfl) (iB aq))
 (au (dP PassesOwn.never rfl (nt rfl n_enumerate (ag (pv 0) aq)) (iG rfl (cv (aT (i:=5) dO.nd rfl (Or.inl rfl)) (cv (aT (i:=6) dO.nd rfl (Or.inl rfl)) gk)))
 (au (aW (i:=7) dO.nd rfl (Or.inl rfl) (iB aq))
 (au (aW (i:=8) dO.nd rfl (Or.inl rfl) (iB aq))
 (au (dP PassesOwn.never rfl (nt rfl n_enumerate (ag (pv 6) aq)) (iG rfl (cv (aT (i:=9) dO.nd rfl (Or.inl rfl)) (cv (aT (i:=10) dO.nd rfl (Or.inl rfl)) gk)))
 (au (aW (i:=11) dO.nd rfl (Or.inl rfl) (aV fj (aV (mD hdp hpt ⟨_,_,rfl,rfl,rfl,rfl,rfl⟩) (aR cf (hr.mono (by decide)) rfl bJ cb ck .nil bc (ag (aV du (pv 3) (pv 5)) (ag (aV du aD (pv 9)) (ag aD aq)))) aD) (aV du aD (aR cf (hr.mono (by decide)) rfl bJ cb ck .nil bc (ag (aV du (pv 3) (pv 5)) (ag (aV du aD (pv 9)) (ag aD aq)))))))
 (au (cU (bB kL (aV du (pv 11) (bx (mw rfl) rfl n_max Boot.«max» (ag aD (ag (pP nZ (pv 10)) aq)))) aD (bQ _))
 (aE (dA (kb PySem.F.plainAttrs_list PySem.F.slot_list_append PySem.F.type_list_append eT (pv 7) (ag (uB (ag (dc cF (pv 1) (pv 9) (λ_ _=>rfl)) (ag (aV du (pv 11) (bx (mw rfl) rfl n_max Boot.«max» (ag aD (ag (pP nZ (pv 10)) aq)))) aq))) aq))))
 bO)
 (aE (cU (bB kL (aV du (pv 11) (bx (mw rfl) rfl n_max Boot.«max» (ag aD (ag (pv 10) aq)))) aD (bQ _))
 (aE (dA (kb PySem.F.plainAttrs_list PySem.F.slot_list_append PySem.F.type_list_append eT (pv 8) (ag (uB (ag (dc cF (pv 1) (pv 9) (λ_ _=>rfl)) (ag (aV du (pv 11) (bx (mw rfl) rfl n_max Boot.«max» (ag aD (ag (pv 10) aq)))) aq))) aq))))
 bO)))))
 (au (cU (bB (qm hu) (aR cf (hr.mono (by decide)) rfl bJ cb ck .nil bc (ag (aV du (pv 3) (pv 5)) (ag aD (ag aD aq)))) aD (bQ _))
 (aE (aW (i:=7) dO.nd rfl (Or.inl rfl) (Ie (pv 7) o9 o9 (rP (pP nZ aD)))))
 bO)
 (aE (dA (kb PySem.F.plainAttrs_list PySem.F.slot_list_append PySem.F.type_list_append eT (pv 4) (ag (uB (ag (dc cF (pv 2) (pv 5) (λ_ _=>rfl)) (ag (pv 7) (ag (pv 8) aq)))) aq)))))))))
 (aE (bq (pv 4))))),
  (aF (aS (jK av))
 (aF (dQ (gS (ah (ae 0) av)) (gh (cx (aN 5) (cx (aN 6) gu)))
 (aF (aS (jK av))
 (aF (aS (jK av))
 (aF (dQ (gS (ah (ae 6) av)) (gh (cx (aN 9) (cx (aN 10) gu)))
 (aF (aS (ar d0 (ar kD (aX (n:=3) (f:=aM) (ah (ar cP (ae 3) (ae 5)) (ah (ar cP (aC 70) (ae 9)) (ah (aC 4) av)))) (aC 3)) (ar cP (aC 1) (aX (n:=3) (f:=aM) (ah (ar cP (ae 3) (ae 5)) (ah (ar cP (aC 80) (ae 9)) (ah (aC 9) av)))))))
 (aF (cV (bK (ar lj (ar cP (ae 11) (br pk (ah (aC 0) (ah (pZ nA (ae 10)) av)))) (aC 0)))
 (dB (j6 (ae 7) (uv (ah (ar de (ae 1) (ae 9)) (ah (ar cP (ae 11) (br pk (ah (aC 0) (ah (pZ nA (ae 10)) av)))) av)))))
 bP)
 (cV (bK (ar lj (ar cP (ae 11) (br pk (ah (aC 0) (ah (ae 10) av)))) (aC 0)))
 (dB (j6 (ae 8) (uv (ah (ar de (ae 1) (ae 9)) (ah (ar cP (ae 11) (br pk (ah (aC 0) (ah (ae 10) av)))) av)))))
 bP))))
 (aF (cV (bK (ar mP (aX (n:=3) (f:=aM) (ah (ar cP (ae 3) (ae 5)) (ah (aC 90) (ah (aC 2) av)))) (aC 1)))
 (aS (HI (ae 7) mn mn (rS (pZ nA (aC 1)))))
 bP)
 (dB (j6 (ae 4) (uv (ah (ar de (ae 2) (ae 5)) (ah (HN (ae 7)) (ah (lr (ae 8)) av)))))))))))
 (bo (lr (ae 4)))))⟩
theorem fv:bf ["_law_numbers_here","_law_found","_law_number","_law_other","_law_rest"] ["_law_numbers_here"] (ay g0):=⟨rfl,rfl,rfl,by decide +kernel,rfl,by decide +kernel,by decide +kernel⟩
theorem wY{a:Addr}{fd:FuncData}(F:Fun K "_law_common" "_law_common" g0 a fd)(hm:mg "_law_common" =some (.ref a))(hpt:P.given.tree=none)(n_abs:mg "abs" =none):bT P w K mg base ca 35 "_law_common" ["_law_numbers_here"] jw a fd:=by
 refine⟨bE F fv rfl λcdv A outer s H E hr=> ?_,hm,F.kp,F.binds λ_ _ _ _ _ _ us hl=>match us,hl with | [_],_=>rfl⟩
 have hu:=hr.units
 have hdp:=bR hr (by decide)
 exact⟨_,(au (aW (i:=1) fv.nd rfl (Or.inl rfl) aD)
 (au (dP PassesOwn.never rfl (bX (pv 0)) (aT (i:=2) fv.nd rfl (Or.inl rfl))
 (au (aW (i:=3) fv.nd rfl (Or.inl rfl) (bx tx rfl n_abs Boot.«abs» (ag (pv 2) aq)))
 (aE (zb PassesOwn.never (bB kL (pv 3) aD (bQ _))
 (au (aW (i:=4) fv.nd rfl (Or.inl rfl) (aV fk (pv 1) (pv 3)))
 (au (aW (i:=1) fv.nd rfl (Or.inl rfl) (pv 3))
 (aE (aW (i:=3) fv.nd rfl (Or.inl rfl) (pv 4)))))))))
 (aE (bq (pv 1))))),
  (aF (aS (aC 0))
 (aF (dQ (bW (ae 0)) (aN 2)
 (aF (aS (br zI (ah (ae 2) av)))
 (zO (bK (ar lj (ae 3) (aC 0)))
 (aF (aS (ar gB (ae 1) (ae 3)))
 (aF (aS (ae 3))
 (aS (ae 4)))))))
 (bo (ae 1))))⟩
theorem ve:bf ["_law_found","_law_many"] ["_law_found","_law_many"] (ay gd):=⟨rfl,rfl,rfl,by decide +kernel,rfl,by decide +kernel,by decide +kernel⟩
theorem vj{a:Addr}{fd:FuncData}(F:Fun K "_law_numbers" "_law_numbers" gd a fd)(hm:mg "_law_numbers" =some (.ref a))(hpt:P.given.tree=none)(n_isinstance:mg "isinstance" =none)(n_list:mg "list" =none)(n_len:mg "len" =none)(n_int:mg "int" =none)(n_bool:mg "bool" =none)(n_all:mg "all" =none):bT P w K mg base ca 35 "_law_numbers" ["_law_found","_law_many"] fm a fd:=by
 refine⟨bE F ve rfl λcdv A outer s H E hr=> ?_,hm,F.kp,F.binds λ_ _ _ _ _ _ us hl=>match us,hl with | [_,_],_=>rfl⟩
 have hu:=hr.units
 have hdp:=bR hr (by decide)
 exact⟨_,(au (cU (PW.pt (pw_or (nN (mr (bx lE rfl n_isinstance Boot.«isinstance» (ag (pv 0) (ag (ng (v:=.ty "list") rfl n_list Boot.«list» rfl) aq))))) (pw_or1 (bB (oa hu) (bx ei rfl n_len Boot.«len» (ag (pv 0) aq)) (pv 1) (bQ _)))))
 (aE (bq kW))
 bO)
 (aE (bq (bx (rJ rfl) rfl n_all Boot.«all» (ag (df (own:=["_law_one"]) (cap:=[]) (caps:=[]) rfl ⟨rfl,by decide +kernel,by decide +kernel,by decide +kernel,trivial,by decide +kernel⟩ (bX (pv 0)) (λ_ _ _=>(aT (i:=0) (show ((["_law_one"]:List Str)++([]:List Str)).Nodup from by decide +kernel) rfl (Or.inl rfl))) (λ_ _ _=>cK) (λ_ _ _=>(Eb (bx lE rfl n_isinstance Boot.«isinstance» (ag (pv 0) (ag (ng (v:=.ty "int") rfl n_int Boot.«int» rfl) aq))) (Ef (Ee (bx lE rfl n_isinstance Boot.«isinstance» (ag (pv 0) (ag (ng (v:=.ty "bool") rfl n_bool Boot.«bool» rfl) aq)))))))) aq))))),
  (aF (cV (qi (nP (ou (pb ty_list (ae 0)))) (bK (ar la (br gG (ah (ae 0) av)) (ae 1))))
 (bo (kT false))
 bP)
 (bo (br yA (ah (cY (m:=1) (caps:=[]) (bW (ae 0)) (aN 0) cJ (AX (pb ty_int (ae 0)) (A1 (pb ty_bool (ae 0))))) av))))⟩
theorem oK:bf ["_law_line","_law_at","_law_number"] ["_law_line"] (ay jM):=⟨rfl,rfl,rfl,by decide +kernel,rfl,by decide +kernel,by decide +kernel⟩
theorem AE{a:Addr}{fd:FuncData}(F:Fun K "_law_lead" "_law_lead" jM a fd)(hm:mg "_law_lead" =some (.ref a))(hpt:P.given.tree=none)(n_enumerate:mg "enumerate" =none):bT P w K mg base ca 35 "_law_lead" ["_law_line"] fC a fd:=by
 refine⟨bE F oK rfl λcdv A outer s H E hr=> ?_,hm,F.kp,F.binds λ_ _ _ _ _ _ us hl=>match us,hl with | [_],_=>rfl⟩
 have hu:=hr.units
 have hdp:=bR hr (by decide)
 exact⟨_,(au (dP PassesOwn.never rfl (nt rfl n_enumerate (ag (pv 0) aq)) (iG rfl (cv (aT (i:=1) oK.nd rfl (Or.inl rfl)) (cv (aT (i:=2) oK.nd rfl (Or.inl rfl)) gk)))
 (aE (cU (bB (oa hu) (pv 2) aD (bQ _))
 (aE (bq (pv 1)))
 bO)))
 (aE (bq (pP nZ aD)))),
  (aF (dQ (gS (ah (ae 0) av)) (gh (cx (aN 1) (cx (aN 2) gu)))
 (cV (bK (ar la (ae 2) (aC 0)))
 (bo (ae 1))
 bP))
 (bo (pZ nA (aC 1))))⟩
theorem gF:bf ["_law_told","_law_many","_law_line","_law_ahead","_law_at"] ["_law_told","_law_many"] (ay fK):=⟨rfl,rfl,rfl,by decide +kernel,rfl,by decide +kernel,by decide +kernel⟩
theorem uJ{a:Addr}{fd:FuncData}(F:Fun K "_law_plain_so" "_law_plain_so" fK a fd)(hm:mg "_law_plain_so" =some (.ref a))(hpt:P.given.tree=none)(n_isinstance:mg "isinstance" =none)(n_list:mg "list" =none)(n_all:mg "all" =none)(n_len:mg "len" =none)(xA:bG P w K mg base ca 35 "_law_numbers" ["_law_found","_law_many"] fm)(pR:bG P w K mg base ca 35 "_law_lead" ["_law_line"] fC)(yb:bG P w K mg base ca 35 "_law_common" ["_law_numbers_here"] jw):bT P w K mg base ca 36 "_law_plain_so" ["_law_told","_law_many"] eI a fd:=by
 obtain⟨IJ,G3,xw,iI,xr,xD⟩:=xA
 obtain⟨Cj,Ae,pA,il,pU,pO⟩:=pR
 obtain⟨Ko,IS,zr,jf,yu,ya⟩:=yb
 refine⟨bE F gF rfl λcdv A outer s H E hr=> ?_,hm,F.kp,F.binds λ_ _ _ _ _ _ us hl=>match us,hl with | [_,_],_=>rfl⟩
 have hu:=hr.units
 have hdp:=bR hr (by decide)
 exact⟨_,(au (cU (PW.pt (pw_or (nN (mr (bx lE rfl n_isinstance Boot.«isinstance» (ag (pv 0) (ag (ng (v:=.ty "list") rfl n_list Boot.«list» rfl) aq))))) (pw_or1 (nN (mr (bx (rJ rfl) rfl n_all Boot.«all» (ag (df (own:=["_law_line"]) (cap:=["_law_many"]) (caps:=[1]) rfl ⟨rfl,by decide +kernel,by decide +kernel,by decide +kernel,⟨rfl,Or.inl rfl,rfl,trivial⟩,by decide +kernel⟩ (bX (pv 0)) (λ_ _ _=>(aT (i:=0) (show ((["_law_line"]:List Str)++(["_law_many"]:List Str)).Nodup from by decide +kernel) rfl (Or.inl rfl))) (λ_ _ _=>cK) (λ_ _ _=>(aR xw (hr.mono (by decide)) rfl iI xr xD .nil bc (ag (pv 0) (ag (pv 1) aq))))) aq)))))))
 (aE (bq kW))
 bO)
 (au (aW (i:=3) gF.nd rfl (Or.inl rfl) (pP nZ aD))
 (au (dP PassesOwn.never rfl (bX (pv 0)) (aT (i:=2) gF.nd rfl (Or.inl rfl))
 (au (aW (i:=4) gF.nd rfl (Or.inr rfl) (aR pA (hr.mono (by decide)) rfl il pU pO .nil bc (ag (pv 2) aq)))
 (au (cU (PW.pt (pw_or (bB K6 (pv 4) (pv 3) (bQ _)) (pw_or (bB xJ (dc cF (pv 2) (pv 4) (λ_ _=>rfl)) aD (bQ _)) (pw_or1 (bB (oa hu) (aR zr (hr.mono (by decide)) rfl jf yu ya .nil bc (ag (pv 2) aq)) aD (bQ _))))))
 (aE (bq kW))
 bO)
 (au (cU (bB (oa hu) (bx ei rfl n_len Boot.«len» (ag (df (own:=["_law_other"]) (cap:=["_law_at"]) (caps:=[4]) rfl ⟨rfl,by decide +kernel,by decide +kernel,by decide +kernel,⟨rfl,Or.inl rfl,rfl,trivial⟩,by decide +kernel⟩ (bX (pv 0)) (λ_ _ _=>(aT (i:=0) (show ((["_law_other"]:List Str)++(["_law_at"]:List Str)).Nodup from by decide +kernel) rfl (Or.inl rfl))) (λ_ _ _=>(vi (bB (oa hu) (dc cF (pv 0) (pv 1) (λ_ _=>rfl)) aD (bQ _)))) (λ_ _ _=>(pv 0))) aq)) aD (bQ _))
 (aE (bq kW))
 bO)
 (aE (aW (i:=3) gF.nd rfl (Or.inl rfl) (pv 4)))))))
 (aE (bq kW))))),
  (aF (cV (qi (nP (ou (pb ty_list (ae 0)))) (nP (ou (br yA (ah (cY (m:=1) (caps:=[1]) (bW (ae 0)) (aN 0) cJ (aX (n:=2) (f:=fm) (ah (ae 0) (ah (ae 1) av)))) av)))))
 (bo (kT false))
 bP)
 (aF (aS (pZ nA (aC 1)))
 (aF (dQ (bW (ae 0)) (aN 2)
 (aF (aS (aX (n:=1) (f:=fC) (ah (ae 2) av)))
 (aF (cV (qi (bK (ar KU (ae 4) (ae 3))) (qi (bK (ar xI (ar de (ae 2) (ae 4)) (aC 1))) (bK (ar la (aX (n:=1) (f:=jw) (ah (ae 2) av)) (aC 1)))))
 (bo (kT false))
 bP)
 (aF (cV (bK (ar la (br gG (ah (cY (m:=1) (caps:=[4]) (bW (ae 0)) (aN 0) (bK (ar la (ar de (ae 0) (ae 1)) (aC 0))) (ae 0)) av)) (aC 1)))
 (bo (kT false))
 bP)
 (aS (ae 4))))))
 (bo (kT true)))))⟩
theorem fT:bf ["_law_told","_law_weights_here","_law_top","_law_low","_law_line","_law_at"] ["_law_told","_law_weights_here"] (ay iR):=⟨rfl,rfl,rfl,by decide +kernel,rfl,by decide +kernel,by decide +kernel⟩
theorem yf{a:Addr}{fd:FuncData}(F:Fun K "_law_comes" "_law_comes" iR a fd)(hm:mg "_law_comes" =some (.ref a))(hpt:P.given.tree=none)(n_zip:mg "zip" =none)(pR:bG P w K mg base ca 35 "_law_lead" ["_law_line"] fC):bT P w K mg base ca 36 "_law_comes" ["_law_told","_law_weights_here"] gM a fd:=by
 obtain⟨Cj,Ae,pA,il,pU,pO⟩:=pR
 refine⟨bE F fT rfl λcdv A outer s H E hr=> ?_,hm,F.kp,F.binds λ_ _ _ _ _ _ us hl=>match us,hl with | [_,_],_=>rfl⟩
 have hu:=hr.units
 have hdp:=bR hr (by decide)
 exact⟨_,(au (iu (i:=2) (own:=["_law_number"]) (cap:=[]) (caps:=[]) rfl ⟨rfl,by decide +kernel,by decide +kernel,by decide +kernel,trivial,by decide +kernel⟩ (bX (pv 1)) (λ_ _ _=>(aT (i:=0) (show ((["_law_number"]:List Str)++([]:List Str)).Nodup from by decide +kernel) rfl (Or.inl rfl))) (λ_ _ _=>cK) (λ_ _ _=>aD) fT.nd rfl (Or.inl rfl) rfl)
 (au (aW (i:=3) fT.nd rfl (Or.inr rfl) aD)
 (au (dP PassesOwn.never rfl (bX (pv 0)) (aT (i:=4) fT.nd rfl (Or.inr rfl))
 (au (aW (i:=5) fT.nd rfl (Or.inr rfl) (aR pA (hr.mono (by decide)) rfl il pU pO .nil bc (ag (pv 4) aq)))
 (au (iu (i:=2) (own:=["_law_number","_law_one"]) (cap:=["_law_at","_law_line","_law_low","_law_weights_here"]) (caps:=[5,4,3,1]) rfl ⟨rfl,by decide +kernel,by decide +kernel,by decide +kernel,⟨rfl,Or.inl rfl,rfl,⟨rfl,Or.inl rfl,rfl,⟨rfl,Or.inl rfl,rfl,⟨rfl,Or.inl rfl,rfl,trivial⟩⟩⟩⟩,by decide +kernel⟩ (ua rfl n_zip (ag (pv 2) (ag (pv 4) aq))) (λ_ _ _=>(iG rfl (cv (aT (i:=0) (show ((["_law_number","_law_one"]:List Str)++(["_law_at","_law_line","_law_low","_law_weights_here"]:List Str)).Nodup from by decide +kernel) rfl (Or.inl rfl)) (cv (aT (i:=1) (show ((["_law_number","_law_one"]:List Str)++(["_law_at","_law_line","_law_low","_law_weights_here"]:List Str)).Nodup from by decide +kernel) rfl (Or.inl rfl)) gk)))) (λ_ _ _=>cK) (λ_ _ _=>(aV du (aV fj (pv 0) (dc cF (pv 3) (pv 2) (λ_ _=>rfl))) (aV fj (aV fj (dc cF (pv 5) (pv 2) (λ_ _=>rfl)) (pv 4)) (pv 1)))) fT.nd rfl (Or.inl rfl) rfl)
 (aE (aW (i:=3) fT.nd rfl (Or.inr rfl) (aV fj (pv 3) (dc cF (pv 4) (pv 5) (λ_ _=>rfl))))))))
 (aE (bq (Be (qm hu) (pv 2) (df (own:=["_law_number"]) (cap:=["_law_low"]) (caps:=[3]) rfl ⟨rfl,by decide +kernel,by decide +kernel,by decide +kernel,⟨rfl,Or.inl rfl,rfl,trivial⟩,by decide +kernel⟩ (bX (pv 1)) (λ_ _ _=>(aT (i:=0) (show ((["_law_number"]:List Str)++(["_law_low"]:List Str)).Nodup from by decide +kernel) rfl (Or.inl rfl))) (λ_ _ _=>cK) (λ_ _ _=>(aV fj (pv 0) (pv 1)))) (bQ _))))))),
  (aF (aS (cY (m:=1) (caps:=[]) (bW (ae 1)) (aN 0) cJ (aC 0)))
 (aF (aS (aC 1))
 (aF (dQ (bW (ae 0)) (aN 4)
 (aF (aS (aX (n:=1) (f:=fC) (ah (ae 4) av)))
 (aF (aS (cY (m:=2) (caps:=[5,4,3,1]) (yw (ah (ae 2) (ah (ae 4) av))) (gh (cx (aN 0) (cx (aN 1) gu))) cJ (ar cP (ar d0 (ae 0) (ar de (ae 3) (ae 2))) (ar d0 (ar d0 (ar de (ae 5) (ae 2)) (ae 4)) (ae 1)))))
 (aS (ar d0 (ae 3) (ar de (ae 4) (ae 5)))))))
 (bo (ar mP (ae 2) (cY (m:=1) (caps:=[3]) (bW (ae 1)) (aN 0) cJ (ar d0 (ae 0) (ae 1))))))))⟩
theorem h8:bf ["_law_script","_law_begin","_law_head","_law_many","_law_weights_here","_law_moves","_law_stuff","_law_yard","_law_told","_law_line","_law_move_here","_law_again"] ["_law_script"] (ay mY):=⟨rfl,rfl,rfl,by decide +kernel,rfl,by decide +kernel,by decide +kernel⟩
theorem JT{a:Addr}{fd:FuncData}(F:Fun K "law" "law" mY a fd)(hm:mg "law" =some (.ref a))(hpt:P.given.tree=none)(n_len:mg "len" =none)(n_zip:mg "zip" =none)(n_sum:mg "sum" =none)(n_list:mg "list" =none)(pY:bG P w K mg base ca 35 "_law_cell" ["_law_script","_law_k"] dh)(ey:bG P w K mg base ca 35 "_law_pick" ["_law_cell_here","_law_turn","_law_many"] aM)(wW:bG P w K mg base ca 36 "_law_weights" ["_law_cell_here","_law_many","_law_lowest_one"] ft)(w6:bG P w K mg base ca 37 "_law_keeping" ["_law_script","_law_begin","_law_weights_here"] fu)(Af:bG P w K mg base ca 36 "_law_names" ["_law_cell_here","_law_many"] dj)(D_Yard_init:D1 P w K mg base ca 39 (ca 0) "Yard" ["self","goods","works"] gL)(An:bG P w K mg base ca 36 "_law_works" ["_law_moves","_law_stuff","_law_called","_law_cell_here"] fE)(Jm:bG P w K mg base ca 42 "kept" ["yard"] lg)(vv:bG P w K mg base ca 36 "_law_plain_so" ["_law_told","_law_many"] eI)(As:bG P w K mg base ca 36 "_law_comes" ["_law_told","_law_weights_here"] gM)(u0:bG P w K mg base ca 40 "plain" ["rows","many"] jW):bT P w K mg base ca 43 "law" ["_law_script"] xG a fd:=by
 obtain⟨Cm,AG,mO,gC,m8,m4⟩:=pY
 obtain⟨kS,j2,cf,bJ,cb,ck⟩:=ey
 obtain⟨IV,HV,xp,iD,xc,xi⟩:=wW
 obtain⟨IT,Ir,xu,iA,w9,xa⟩:=w6
 obtain⟨Ky,JP,sR,iU,sJ,sO⟩:=Af
 obtain⟨a_Yard_init,fd_Yard_init,G_Yard_init,k_Yard_init,j7,b_Yard_init⟩:=D_Yard_init
 obtain⟨Kw,Jx,z5,j4,zX,AD⟩:=An
 obtain⟨MB,L5,D6,o7,DD,Dl⟩:=Jm
 obtain⟨GS,Gp,vz,gY,uZ,vA⟩:=vv
 obtain⟨Ku,Jj,Aj,j5,AB,Aw⟩:=As
 obtain⟨G6,fd_plain,vo,lI,vE,vM⟩:=u0
 refine⟨bE F h8 rfl λcdv A outer s H E hr=> ?_,hm,F.kp,F.binds λ_ _ _ _ _ _ us hl=>match us,hl with | [_],_=>rfl⟩
 have hu:=hr.units
 have hdp:=bR hr (by decide)
 exact⟨_,(au (dP PassesOwn.never rfl (bX (iB (ag aD (ag aD aq)))) (aT (i:=1) h8.nd rfl (Or.inl rfl))
 (au (aW (i:=2) h8.nd rfl (Or.inl rfl) (aR mO (hr.mono (by decide)) rfl gC m8 m4 .nil bc (ag (pv 0) (ag (pv 1) aq))))
 (au (aW (i:=3) h8.nd rfl (Or.inl rfl) (aR cf (hr.mono (by decide)) rfl bJ cb ck .nil bc (ag (pv 2) (ag aD (ag aD aq)))))
 (au (aW (i:=4) h8.nd rfl (Or.inl rfl) (aR xp (hr.mono (by decide)) rfl iD xc xi .nil bc (ag (pv 2) (ag (pv 3) (ag (pP nZ (aV ub aD aD)) aq)))))
 (au (aW (i:=5) h8.nd rfl (Or.inl rfl) (aR xu (hr.mono (by decide)) rfl iA w9 xa .nil bc (ag (pv 0) (ag (pv 1) (ag (pv 4) aq)))))
 (au (aW (i:=6) h8.nd rfl (Or.inl rfl) (aR sR (hr.mono (by decide)) rfl iU sJ sO .nil bc (ag (aV du (pv 2) aD) (ag (pv 3) aq))))
 (au (aW (i:=7) h8.nd rfl (Or.inl rfl) (Ii k_Yard_init G_Yard_init (hr.mono (by decide)) rfl j7 b_Yard_init .nil bc (ag (pv 6) (ag (aR z5 (hr.mono (by decide)) rfl j4 zX AD .nil bc (ag (pv 5) (ag (pv 6) (ag (aR sR (hr.mono (by decide)) rfl iU sJ sO .nil bc (ag (pv 2) (ag (bx ei rfl n_len Boot.«len» (ag (pv 5) aq)) aq))) (ag (pv 2) aq))))) aq))))
 (au (aW (i:=8) h8.nd rfl (Or.inl rfl) (aR D6 (hr.mono (by decide)) rfl o7 DD Dl .nil bc (ag (pv 7) aq)))
 (au (cU (PW.pt (pw_or (nN (mr (aR vz (hr.mono (by decide)) rfl gY uZ vA .nil bc (ag (pv 8) (ag (pv 3) aq))))) (pw_or1 (nN (mr (aR Aj (hr.mono (by decide)) rfl j5 AB Aw .nil bc (ag (pv 8) (ag (pv 4) aq))))))))
 (aE (bq kW))
 bO)
 (au (dP PassesOwn.never rfl (bX (pv 8)) (aT (i:=9) h8.nd rfl (Or.inl rfl))
 (aE (dP PassesOwn.never rfl (bX (pv 5)) (aT (i:=10) h8.nd rfl (Or.inl rfl))
 (aE (cU (bB (oa hu) (bx (oB rfl) rfl n_sum Boot.«sum» (ag (df (own:=["_law_a","_law_b"]) (cap:=[]) (caps:=[]) rfl ⟨rfl,by decide +kernel,by decide +kernel,by decide +kernel,trivial,by decide +kernel⟩ (ua rfl n_zip (ag (pv 9) (ag (pv 10) aq))) (λ_ _ _=>(iG rfl (cv (aT (i:=0) (show ((["_law_a","_law_b"]:List Str)++([]:List Str)).Nodup from by decide +kernel) rfl (Or.inl rfl)) (cv (aT (i:=1) (show ((["_law_a","_law_b"]:List Str)++([]:List Str)).Nodup from by decide +kernel) rfl (Or.inl rfl)) gk)))) (λ_ _ _=>cK) (λ_ _ _=>(aV fj (pv 0) (pv 1)))) aq)) aD (bQ _))
 (aE (bq kW))
 bO)))))
 (au (cU (bB (oa hu) (aV du (bx ei rfl n_len Boot.«len» (ag (pv 8) aq)) (bx ei rfl n_len Boot.«len» (ag (aR vo (hr.mono (by decide)) rfl lI vE vM .nil bc (ag (df (own:=["_law_move_here"]) (cap:=[]) (caps:=[]) rfl ⟨rfl,by decide +kernel,by decide +kernel,by decide +kernel,trivial,by decide +kernel⟩ (bX (pv 5)) (λ_ _ _=>(aT (i:=0) (show ((["_law_move_here"]:List Str)++([]:List Str)).Nodup from by decide +kernel) rfl (Or.inl rfl))) (λ_ _ _=>cK) (λ_ _ _=>(fD eW rfl n_list Boot.«list» (ag (pv 0) aq)))) (ag (pv 3) aq))) aq))) (pv 3) (bQ _))
 (aE (bq kW))
 bO)
 (au (iu (i:=11) (own:=["_law_line"]) (cap:=[]) (caps:=[]) rfl ⟨rfl,by decide +kernel,by decide +kernel,by decide +kernel,trivial,by decide +kernel⟩ (bX (pv 8)) (λ_ _ _=>(aT (i:=0) (show ((["_law_line"]:List Str)++([]:List Str)).Nodup from by decide +kernel) rfl (Or.inl rfl))) (λ_ _ _=>cK) (λ_ _ _=>(fD eW rfl n_list Boot.«list» (ag (pv 0) aq))) h8.nd rfl (Or.inl rfl) rfl)
 (au (dP PassesOwn.never rfl (bX (pv 8)) (aT (i:=9) h8.nd rfl (Or.inl rfl))
 (aE (dA (kb PySem.F.plainAttrs_list PySem.F.slot_list_append PySem.F.type_list_append eT (pv 9) (ag aD aq)))))
 (au (dA (Kk PySem.F.plainAttrs_list PySem.F.slot_list_clear PySem.F.type_list_clear FX (pv 8)))
 (aE (cU (bB (oa hu) (aR D6 (hr.mono (by decide)) rfl o7 DD Dl .nil bc (ag (pv 7) aq)) (pv 11) (bQ _))
 (aE (bq kW))
 bO))))))))))))))))
 (aE (bq kW))),
  (aF (dQ (bW (C5 (ah (aC 0) (ah (aC 6) av)))) (aN 1)
 (aF (aS (aX (n:=2) (f:=dh) (ah (ae 0) (ah (ae 1) av))))
 (aF (aS (aX (n:=3) (f:=aM) (ah (ae 2) (ah (aC 45) (ah (aC 6) av)))))
 (aF (aS (aX (n:=3) (f:=ft) (ah (ae 2) (ah (ae 3) (ah (pZ nA (ar t8 (aC 10) (aC 10))) av)))))
 (aF (aS (aX (n:=3) (f:=fu) (ah (ae 0) (ah (ae 1) (ah (ae 4) av)))))
 (aF (aS (aX (n:=2) (f:=dj) (ah (ar cP (ae 2) (aC 1)) (ah (ae 3) av))))
 (aF (aS (Im (c:=0) (n:=2) (f:=gL) (ah (ae 6) (ah (aX (n:=4) (f:=fE) (ah (ae 5) (ah (ae 6) (ah (aX (n:=2) (f:=dj) (ah (ae 2) (ah (br gG (ah (ae 5) av)) av))) (ah (ae 2) av))))) av))))
 (aF (aS (jA (n:=1) (f:=lg) (ah (ae 7) av)))
 (aF (cV (qi (nP (ou (pJ (n:=2) (f:=eI) (ah (ae 8) (ah (ae 3) av))))) (nP (ou (pJ (n:=2) (f:=gM) (ah (ae 8) (ah (ae 4) av))))))
 (bo (kT false))
 bP)
 (aF (dQ (bW (ae 8)) (aN 9)
 (dQ (bW (ae 5)) (aN 10)
 (cV (bK (ar la (br uh (ah (C6 (m:=2) (caps:=[]) (II (ah (ae 9) (ah (ae 10) av))) (gh (cx (aN 0) (cx (aN 1) gu))) cJ (ar d0 (ae 0) (ae 1))) av)) (aC 0)))
 (bo (kT false))
 bP)))
 (aF (cV (bK (ar la (ar cP (br gG (ah (ae 8) av)) (br gG (ah (lr (jA (n:=2) (f:=jW) (ah (cY (m:=1) (caps:=[]) (bW (ae 5)) (aN 0) cJ (br kj (ah (ae 0) av))) (ah (ae 3) av)))) av))) (ae 3)))
 (bo (kT false))
 bP)
 (aF (aS (cY (m:=1) (caps:=[]) (bW (ae 8)) (aN 0) cJ (br kj (ah (ae 0) av))))
 (aF (dQ (bW (ae 8)) (aN 9)
 (dB (j6 (ae 9) (aC 0))))
 (aF (dB (Fs (ae 8)))
 (cV (bK (ar la (lr (jA (n:=1) (f:=lg) (ah (ae 7) av))) (ae 11)))
 (bo (kT false))
 bP)))))))))))))))
 (bo (kT true)))⟩
end
end Lk26
set_option maxRecDepth 100000
set_option maxHeartbeats 4000000
namespace Lk26
open PySem PySem.Spec PyProof.Rows L2 M
theorem vf(ns:List Int)(k:Nat):∃c,dh [vI ns,.int (k:Int)] []=.ok (.int c,[])/\(k<ns.length->c=nth ns k):=by
 by_cases h:k<ns.length
 ·refine⟨nth ns k,dF (s:=⟨[some (vI ns),some (.int (k:Int))],[]⟩) ?_,λ_=>rfl⟩
  have hk:((k:Int)<(ns.length:Int)):=by omega
  simp[gC,hk,mW h]
 ·refine⟨0,dF (s:=⟨[some (vI ns),some (.int (k:Int))],[]⟩) ?_,λz=>absurd z h⟩
  have hk:¬((k:Int)<(ns.length:Int)):=by omega
  simp[gC,hk]
def azB(x:Str):Bool:= !decide (x.cps.toList<("a" :Str).cps.toList)&& !decide (("z" :Str).cps.toList<x.cps.toList)
theorem xN(O:ax)(i j:Str):pF O (.str i) (.str j)=.ok (.bl (!decide (j.cps.toList<i.cps.toList))):=rfl
theorem J0{s:S}{i:Nat}{x:Str}(h:s.r[i]? =some (some (.str x))):qN pF pF (ao (.str ("a" :Str))) (aa i) (ao (.str ("z" :Str))) s=.ok (.bl (azB x),s):=by
 rw[Dh,aB,ai,af h,ai]
 dsimp only
 rw[xN,ai]
 unfold azB
 cases (!decide (x.cps.toList<("a" :Str).cps.toList)) with
 | false=>rfl
 | true=>
  dsimp only
  rw[aB,ai]
  dsimp only
  rw[xN,ai]
  rfl
def nmB(z:Str):Bool:=decide (1<=z.length)&&decide (z.length<=8)&&z.cps.toList.all λc=>azB ⟨#[c]⟩
theorem len_list(z:Str):z.cps.toList.length=z.length:=by unfold Str.length;simp
theorem Dz{z:Str}(h:z.length<=1000000):kE [.str z] []=.ok (.bl (nmB z),[]):=by
 have hlen:bC dC (ab (aa 0) ak) ⟨[some (.str z)],[]⟩=.ok (.int (z.length:Int),⟨[some (.str z)],[]⟩):=by
  rw[jI,bb,af (i:=0) rfl,ai,aI,ai,ai]
  dsimp only
  rw[yZ (rR h),ai]
 have ht:orT (aZ (aj ltD (bC dC (ab (aa 0) ak)) (ao (.int 1)))) (aZ (aj gtD (bC dC (ab (aa 0) ak)) (ao (.int 8)))) ⟨[some (.str z)],[]⟩=.ok (decide ((z.length:Int)<1)||decide ((8:Int)<(z.length:Int)),⟨[some (.str z)],[]⟩):=by
  rw[ux,hX,d5,hlen,ai,aB,ai]
  dsimp only
  rw[u5,ai,ai]
  dsimp only
  rw[ai]
  dsimp only
  rw[iT hlen]
  cases decide ((z.length:Int)<1) <;> rfl
 have hc:=eX (l:=z.cps.toList) (item:=λc=>.str ⟨#[c]⟩) (out:=λc=>.bl (azB ⟨#[c]⟩)) (caps:=[]) (im:=Ci (aa 0)) (e:=qN pF pF (ao (.str ("a" :Str))) (aa 0) (ao (.str ("z" :Str)))) (k:=none) (s:=⟨[some (.str z)],[]⟩) (by
  rw[HU,af (i:=0) rfl,ai];rfl) trivial (by rw[len_list];exact rR h) (λc _=>J0 rfl)
 rw[show z.cps.toList.map (λc=>D.bl (azB ⟨#[c]⟩))=(z.cps.toList.map λc=>azB ⟨#[c]⟩).map D.bl by rw[List.map_map];rfl] at hc
 refine dF (s:=⟨[some (.str z)],[]⟩) ?_
 show my ⟨[some (.str z)],[]⟩=_
 rw[my]
 by_cases h1:z.length<1\/8<z.length
 ·rw[show nmB z=false by
   unfold nmB
   rcases h1 with q | q
   ·rw[decide_eq_false (by omega:¬1<=z.length),Bool.false_and,Bool.false_and]
   ·rw[decide_eq_false (by omega:¬z.length<=8),Bool.and_false,Bool.false_and]]
  refine nV (Eq.trans (BY (s':=⟨[some (.str z)],[]⟩) ?_) (bI (aB _ _)))
  rw[ht]
  rcases h1 with q | q
  ·rw[decide_eq_true (show (z.length:Int)<1 by omega),Bool.true_or]
  ·rw[decide_eq_true (show (8:Int)<(z.length:Int) by omega),Bool.or_true]
 ·refine Eq.trans (cL (Eq.trans (lS (s':=⟨[some (.str z)],[]⟩) ?_) rfl)) (bI ?_)
  ·rw[ht,decide_eq_false (show ¬(z.length:Int)<1 by omega),decide_eq_false (show ¬(8:Int)<(z.length:Int) by omega),Bool.or_false]
  ·rw[jI,bb,hc,ai,aI,ai,ai]
   dsimp only
   rw[tY,ai]
   unfold nmB
   rw[decide_eq_true (by omega:1<=z.length),decide_eq_true (by omega:z.length<=8),Bool.true_and,Bool.true_and,List.all_map]
   rfl
abbrev ABC:Str:="abcdefghijklmnopqrstuvwxyz"
theorem JQ:sg ABC=(List.range 26).map (97 + ·):=by decide
def mkS(l:List Nat):Str:=⟨l.toArray⟩
theorem gH(l:List Nat):sg (mkS l)=l:=by simp[sg,mkS]
theorem jj(l:List Nat):(mkS l).length=l.length:=by rw[<- uN,gH]
def azL(l:List Nat):Prop:=∀c∈l,97<=c/\c<=122
theorem IE(c:Nat):azB ⟨#[c]⟩=(decide (97<=c)&&decide (c<=122)):=by
 unfold azB
 rw[show ("a" :Str).cps.toList=[97] by decide,show ("z" :Str).cps.toList=[122] by decide]
 show (!decide ([c] < [97])&& !decide ([122] < [c]))=_
 rw[StrLaws.lt_cons_cons,StrLaws.lt_cons_cons,StrLaws.lt_nil_nil,Bool.and_false,Bool.or_false,Bool.and_false,Bool.or_false]
 congr 1
 ·rw[Bool.eq_iff_iff];simp
 ·rw[Bool.eq_iff_iff];simp
structure oi(z:Str):Prop where
 lo:1<=z.length
 hi:z.length<=8
 az:azL (sg z)
theorem oi.nm{z:Str}(h:oi z):nmB z=true:=by
 unfold nmB
 rw[decide_eq_true h.lo,decide_eq_true h.hi,Bool.true_and,Bool.true_and,List.all_eq_true]
 intro c hc
 have:=h.az c hc
 rw[IE,decide_eq_true this.1,decide_eq_true this.2];rfl
theorem CT{O:ax}{i:Int}(h0:0<=i)(h1:i<26):ixD O (.str ABC) (.int i)=.ok (.str (mkS [97+i.toNat])):=by
 have hl:i.toNat<ABC.cps.toList.length:=by rw[show ABC.cps.toList.length=26 by decide];omega
 have ha:=n4 hl
 rw[show ((i.toNat:Nat):Int)=i by omega] at ha
 have hv:ABC.cps.toList[i.toNat]=97+i.toNat:=by
  have:=JQ
  rw[List.getElem_of_eq this]
  simp
 rw[hv] at ha
 show (if ABC.length<=16777216 then (match atI ABC.cps.toList i with
  | some c=>Res.ok (D.str ⟨#[c]⟩)
  | none=>.bad) else .bad)=_
 rw[if_pos (by decide),ha]
 rfl
theorem mf{n:Nat}{pre rest:List D}{d:D}(h:(List.range n).map (λ(i:Nat)=>D.int (i:Int))=pre++d::rest):d=.int (pre.length:Int)/\pre.length<n:=by
 have h1:((List.range n).map (λ(i:Nat)=>D.int (i:Int)))[pre.length]? =some d:=by rw[h];simp
 have h2:pre.length<n:=by
  have:=congrArg List.length h
  simp at this
  omega
 rw[List.getElem?_map,List.getElem?_range h2] at h1
 exact⟨by simpa using h1.symm,h2⟩
def pW(q:Int)(k:Nat):Nat:=97+((q+3*(k:Int)+1)%26).toNat
def nmK(wd:List Nat)(at_:Nat)(q:Int)(B:Bool)(k:Nat):List Nat:=
 if B then (if k=0 then wd else if k=1 then wd.take (wd.length-1) else wd++[pW q k]) else wd.take at_++[pW q k]++wd.drop (at_+1)
theorem AJ{wd:List Nat}{at_ k:Nat}{q:Int}{B:Bool}(h:at_<wd.length):(nmK wd at_ q B k).length=if B then (if k=0 then wd.length else if k=1 then wd.length-1 else wd.length+1) else wd.length:=by
 unfold nmK
 cases B with
 | false=>simp;omega
 | true=>
  by_cases h0:k=0
  ·simp[h0]
  ·by_cases h1:k=1
   ·simp[h1]
   ·simp[h0,h1]
theorem MP{wd:List Nat}{at_ i j:Nat}{q:Int}{B:Bool}(h:at_<wd.length)(h2:2<=wd.length)(hij:i<j)(hj:j<8):nmK wd at_ q B i≠nmK wd at_ q B j:=by
 intro e
 have hs:pW q i≠pW q j:=by unfold pW;omega
 cases B with
 | false=>
  unfold nmK at e
  simp only[if_neg Bool.false_ne_true] at e
  have hl:(wd.take at_).length=at_:=by rw[List.length_take];omega
  have key:∀x:Nat,(wd.take at_++[x]++wd.drop (at_+1))[at_]? =some x:=λx=>by
   rw[List.append_assoc,List.getElem?_append_right (by omega),hl,Nat.sub_self];rfl
  have e1:(wd.take at_++[pW q i]++wd.drop (at_+1))[at_]? =(wd.take at_++[pW q j]++wd.drop (at_+1))[at_]? :=by rw[e]
  rw[key,key] at e1
  have e1:pW q i=pW q j:=by simpa using e1
  exact hs e1
 | true=>
  have hl:=congrArg List.length e
  rw[AJ h,AJ h] at hl
  simp only[if_true] at hl
  by_cases h0:i=0
  ·subst h0
   rw[if_pos rfl,if_neg (by omega)] at hl
   split at hl <;> omega
  ·rw[if_neg h0,if_neg (show ¬j=0 by omega)] at hl
   by_cases h1:i=1
   ·rw[if_pos h1,if_neg (by omega)] at hl;omega
   ·unfold nmK at e
    rw[if_pos rfl,if_pos rfl,if_neg h0,if_neg h1,if_neg (show ¬j=0 by omega),if_neg (show ¬j=1 by omega)] at e
    have:=List.append_cancel_left e
    simp at this
    exact hs this
abbrev sD(l:List Str):D:=.lst (l.map D.str)
theorem qO{O:ax}{a b:Str}(h:a.length+b.length<=1000000):bL O (.str a) (.str b)=.ok (.str (a++b)):=if_pos (rR h)
abbrev pD(p:Str×Int):D:=.tup [.str p.1,.int p.2]
abbrev psD(l:List (Str×Int)):D:=.lst (l.map pD)
structure Wk where
 nm:Str
 us:List (Str×Int)
 ms:List (Str×Int)
abbrev wD(w:Wk):D:=.tup [.str w.nm,psD w.us,psD w.ms]
abbrev wsD(l:List Wk):D:=.lst (l.map wD)
@[simp] theorem dm (l:List Str):aL (l.map D.str)=true:=by
 induction l with
 | nil=>rfl
 | cons a l ih=>simp[aL,cI,ih]
@[simp] theorem gD (l:List (Str×Int)):aL (l.map pD)=true:=by
 induction l with
 | nil=>rfl
 | cons a l ih=>simp[aL,cI,ih]
@[simp] theorem lb (l:List Wk):aL (l.map wD)=true:=by
 induction l with
 | nil=>rfl
 | cons a l ih=>simp[aL,cI,ih]
theorem oq(O:ax)(l:List Str):bA O (l.map D.str)=l.map D.str:=by
 induction l with
 | nil=>unfold bA;rfl
 | cons a l ih=>rw[List.map_cons];unfold bA;rw[ih];unfold res;rfl
theorem A9(z:Str)(l:List Str):aL [.str z,.lst (l.map D.str)]=true:=by
 show (true&&(aL (l.map D.str)&&true))=true
 rw[dm];rfl
theorem Er(z:Str)(l m:List Str):aL [.str z,.lst (l.map D.str),.lst (m.map D.str)]=true:=by
 show (true&&(aL (l.map D.str)&&(aL (m.map D.str)&&true)))=true
 rw[dm,dm];rfl
theorem Fv{O:ax}{k:Nat}{l:List Str}(h:O[k]? =some (.lst (l.map D.str)))(z:Str)(g:List Str):bA O (bA O [.str z,.lst (g.map D.str),.ptr k])=[.str z,.lst (g.map D.str),.lst (l.map D.str)]:=by
 have h1:bA O [.str z,.lst (g.map D.str),.ptr k]=[.str z,.lst (g.map D.str),.lst (l.map D.str)]:=by
  simp only[bA,res,oq,h]
 rw[h1]
 simp only[bA,res,oq]
theorem G7{O:ax}{k:Nat}{l:List Str}(h:O[k]? =some (.lst (l.map D.str)))(z:Str):bA O (bA O [.str z,.ptr k])=[.str z,.lst (l.map D.str)]:=by
 have h1:bA O [.str z,.ptr k]=[.str z,.lst (l.map D.str)]:=by
  simp only[bA,res,oq,h]
 rw[h1]
 simp only[bA,res,oq]
theorem mC{α:Type}(f:α->D)(l:List α):dq (l.map f)=l.zipIdx.map λp=>.tup [.int (p.2:Int),f p.1]:=by
 unfold dq
 rw[List.mapIdx_eq_zipIdx_map,List.zipIdx_map,List.map_map]
 rfl
theorem nE{α:Type}{g:α×Nat->D}{l:List α}{pre rest:List D}{d:D}(h:l.zipIdx.map g=pre++d::rest):∃(hl:pre.length<l.length),d=g (l[pre.length],pre.length):=by
 have hl:pre.length<l.length:=by
  have:=congrArg List.length h
  simp at this
  omega
 have h1:(l.zipIdx.map g)[pre.length]? =some d:=by rw[h];simp
 rw[List.getElem?_map,List.getElem?_eq_getElem (by simpa using hl)] at h1
 refine⟨hl, ?_⟩
 simpa using h1.symm
theorem wG{α:Type}{g:α->D}{l:List α}{pre rest:List D}{d:D}(h:l.map g=pre++d::rest):∃(hl:pre.length<l.length),d=g (l[pre.length]):=by
 have hl:pre.length<l.length:=by
  have:=congrArg List.length h
  simp at this
  omega
 have h1:(l.map g)[pre.length]? =some d:=by rw[h];simp
 rw[List.getElem?_map,List.getElem?_eq_getElem hl] at h1
 exact⟨hl,by simpa using h1.symm⟩
theorem kK{n:Nat}{m:SM}{ds:List D}{O:ax}{s:S}(h:m ⟨ds.map some++List.replicate (n-ds.length) none,O⟩=.next s):runM n m ds O=.ok (.non,s.o):=by
 unfold runM;rw[h]
theorem AH{O:ax}(z:Str)(l:List Str):inD O (.str z) (sD l)=.ok (.bl (l.any (· == z))):=by
 unfold inD inB
 dsimp only
 rw[nv]
 dsimp only
 rw[p6]
theorem B1{O:ax}(z:Str)(l:List Str):qS O (.str z) (sD l)=.ok (.bl (!l.any (· == z))):=by
 unfold qS inB
 dsimp only
 rw[nv]
 dsimp only
 rw[p6]
theorem J2{z:Str}{l:List Str}(h:z∈l):l.any (· == z)=true:=List.any_eq_true.mpr ⟨z,h,by simp⟩
theorem Bg{z:Str}{l:List Str}(h:z∉l):l.any (· == z)=false:=by
 rw[List.any_eq_false]
 intro y hy e
 have:y=z:=by simpa using e
 exact h (this▸hy)
theorem jD{l:List Str}(h:l.Nodup){i:Nat}(hi:i<l.length):l[i]∉l.take i:=by
 intro hm
 obtain⟨j,hj,e⟩:=List.getElem_of_mem hm
 rw[List.length_take] at hj
 rw[List.getElem_take] at e
 exact List.pairwise_iff_getElem.mp h j i (by omega) hi (by omega) e
theorem G2{goods:List Str}{works:List Wk}(h1:goods.length<=10)(h2:works.length<=10):hW [sD goods,wsD works] []=.ok (.non,[]):=by
 refine kK (s:=⟨[some (sD goods),some (wsD works)],[]⟩) ?_
 show jm ⟨[some (sD goods),some (wsD works)],[]⟩=_
 rw[jm]
 have hl:∀(i:Nat) (ds:List D),[some (sD goods),some (wsD works)][i]? =some (some (.lst ds))->bC dC (ab (aa i) ak) ⟨[some (sD goods),some (wsD works)],[]⟩=.ok (.int (ds.length:Int),⟨[some (sD goods),some (wsD works)],[]⟩):=λi ds h=>by
  rw[jI,bb,af h,ai,aI,ai,ai]
  dsimp only
  rw[jh,ai]
 refine Eq.trans (cL (Eq.trans (lS (by rw[iT (hl 0 _ rfl),List.length_map,decide_eq_false (by omega)])) rfl)) ?_
 exact Eq.trans (lS (by rw[iT (hl 1 _ rfl),List.length_map,decide_eq_false (by omega)])) rfl
theorem AU{z:Str}{l:List Str}(hz:oi z)(hl:z∉l):d9 [.str z,sD l] []=.ok (.non,[]):=by
 refine kK (s:=⟨[some (.str z),some (sD l)],[]⟩) ?_
 show fP ⟨[some (.str z),some (sD l)],[]⟩=_
 rw[fP]
 have h1:aO 1 kE (ab (aa 0) ak) ⟨[some (.str z),some (sD l)],[]⟩=.ok (.bl true,⟨[some (.str z),some (sD l)],[]⟩):=cq (ds:=[.str z]) (by rw[bb,af (i:=0) rfl];rfl) (by simp) rfl (by rw[Dz (by have:=hz.hi;omega),hz.nm]) (by simp)
 refine Eq.trans (cL (Eq.trans (lS (s':=⟨[some (.str z),some (sD l)],[]⟩) ?_) rfl)) (Eq.trans (lS (s':=⟨[some (.str z),some (sD l)],[]⟩) ?_) rfl)
 ·rw[u6,hX,h1];rfl
 ·rw[hX,d5,af (i:=0) rfl,ai,af (i:=1) rfl,ai]
  dsimp only
  rw[AH,Bg hl];rfl
theorem Et{goods:List Str}(h:∀z∈goods,oi z)(nd:goods.Nodup):∃O,gj [sD goods] []=.ok (.non,O):=by
 obtain⟨s',el,y1,y2,hs'⟩:=d4 (ok:=okC (dq (goods.map D.str)) none) (g:=cH (aQ (aA 1) (aQ (aA 2) cN)) 2) (body:=i5)
  (λ_ s=>∃y1 y2,s=⟨[some (sD goods),y1,y2],[]⟩) (λ_ _ _=>trivial) (dq (goods.map D.str)) [] (by
   rintro pre d rest ed s ⟨y1,y2,rfl⟩
   rw[List.nil_append,mC] at ed
   obtain⟨hl,rfl⟩:=nE ed
   refine⟨⟨[some (sD goods),some (.int (pre.length:Int)),some (.str (goods[pre.length]))],[]⟩,⟨[some (sD goods),some (.int (pre.length:Int)),some (.str (goods[pre.length]))],[]⟩,by rw[nF];rfl,.inl ?_,_,_,rfl⟩
   rw[i5]
   refine cZ (cq (ds:=[.str (goods[pre.length]),sD (goods.take pre.length)]) (d:=.non) ?_ (A9 _ _) rfl (AU (h _ (List.getElem_mem _)) (jD nd hl)) (by simp))
   rw[bb,af (i:=2) rfl,ai,bb,Kn,af (i:=0) rfl,ai,D7,ai,Bm,af (i:=1) rfl,ai]
   dsimp only
   rw[ai]
   dsimp only
   rw[nv]
   dsimp only
   unfold M.cutD
   rw[HT.FQ,HT.HG,List.length_map,show min pre.length goods.length=pre.length by omega,List.drop_zero,Nat.sub_zero,<- List.map_take]
   rfl) ⟨[some (sD goods),none,none],[]⟩ ⟨_,_,rfl⟩
 have hf:=dk (im:=dv (ab (aa 0) ak)) (g:=cH (aQ (aA 1) (aQ (aA 2) cN)) 2) (body:=i5) (s:=⟨[some (sD goods),none,none],[]⟩) (ds:=dq (goods.map D.str)) (k:=none) (s1:=⟨[some (sD goods),none,none],[]⟩) (by
  rw[mJ,bb,af (i:=0) rfl,ai,aI,ai,ai])
 rw[el,hs'] at hf
 exact⟨_,kK (s:=⟨[some (sD goods),y1,y2],[]⟩) (by
  show iC ⟨[some (sD goods),none,none],[]⟩=_
  rw[iC,hf])⟩
theorem HL{z:Str}{goods l:List Str}(h1:z∈goods)(h2:z∉l):hC [.str z,sD goods,sD l] []=.ok (.non,[]):=by
 refine kK (s:=⟨[some (.str z),some (sD goods),some (sD l)],[]⟩) ?_
 show jy ⟨[some (.str z),some (sD goods),some (sD l)],[]⟩=_
 rw[jy]
 refine Eq.trans (cL (Eq.trans (lS (s':=⟨[some (.str z),some (sD goods),some (sD l)],[]⟩) ?_) rfl)) (Eq.trans (lS (s':=⟨[some (.str z),some (sD goods),some (sD l)],[]⟩) ?_) rfl)
 ·rw[hX,d5,af (i:=0) rfl,ai,af (i:=1) rfl,ai]
  dsimp only
  rw[B1,J2 h1];rfl
 ·rw[hX,d5,af (i:=0) rfl,ai,af (i:=2) rfl,ai]
  dsimp only
  rw[AH,Bg h2];rfl
theorem Bu(i:Int):jV [.int i] []=.ok (.bl true,[]):=by
 refine dF (s:=⟨[some (.int i)],[]⟩) ?_
 simp[mL]
theorem Dj{i:Int}(h:1<=i):fJ [.int i] []=.ok (.non,[]):=by
 refine kK (s:=⟨[some (.int i)],[]⟩) ?_
 show hZ ⟨[some (.int i)],[]⟩=_
 rw[hZ]
 refine Eq.trans (lS (s':=⟨[some (.int i)],[]⟩) ?_) rfl
 have h1:aO 1 jV (ab (aa 0) ak) ⟨[some (.int i)],[]⟩=.ok (.bl true,⟨[some (.int i)],[]⟩):=cq (ds:=[.int i]) (by rw[bb,af (i:=0) rfl];rfl) (by simp) rfl (Bu i) (by simp)
 rw[ux,u6,hX,h1,ai,ai]
 dsimp only
 rw[ai]
 dsimp only
 rw[if_neg (by decide),hX,d5,af (i:=0) rfl,ai,aB,ai]
 dsimp only
 rw[u5,decide_eq_false (by omega)];rfl
theorem xU{n:Nat}{f:FM}{ma:AM}{s s':S}{ds rs:List D}{d:D}{O:ax}(h:ma s=.ok (ds,s'))(hr:bA s'.o (bA s'.o ds)=rs)(hp:aL rs=true)(hl:ds.length=n)(hf:f rs []=.ok (d,O))(hd:m7 d=true):ja n f ma s=.ok (d,s'):=by
 unfold ja
 rw[h,ai]
 dsimp only
 rw[hr,if_pos ⟨hp,hl⟩,hf]
 dsimp only
 rw[if_pos hd]
structure jF(goods:List Str)(l:List (Str×Int)):Prop where
 mem:∀p∈l,p.1∈goods
 pos:∀p∈l,1<=p.2
 nd:(l.map (·.1)).Nodup
theorem zJ{goods:List Str}{l:List (Str×Int)}(h:jF goods l)(hl:l.length<=1000):∃O,dS [psD l,sD goods] []=.ok (.non,O):=by
 have e2:setM 2 (jc ak) ⟨[some (psD l),some (sD goods),none,none,none],[]⟩=.next ⟨[some (psD l),some (sD goods),some (.ptr 0),none,none],[.lst []]⟩:=by simp
 obtain⟨s',el,y3,y4,hs'⟩:=d4 (ok:=okC (l.map pD) none) (g:=cH (aQ (aA 3) (aQ (aA 4) cN)) 2) (body:=i6)
  (λpre s=>∃y3 y4,s=⟨[some (psD l),some (sD goods),some (.ptr 0),y3,y4],[.lst (((l.map (·.1)).take pre.length).map D.str)]⟩) (λ_ _ _=>trivial) (l.map pD) [] (by
   rintro pre d rest ed s ⟨y3,y4,rfl⟩
   rw[List.nil_append] at ed
   obtain⟨hlt,rfl⟩:=wG ed
   have hm:l[pre.length]∈l:=List.getElem_mem _
   have hout:(l[pre.length]).1∉(l.map (·.1)).take pre.length:=by
    have:=jD h.nd (i:=pre.length) (by simpa using hlt)
    simpa using this
   generalize hx:l[pre.length]=x at hm hout
   refine⟨⟨[some (psD l),some (sD goods),some (.ptr 0),some (.str x.1),some (.int x.2)],[.lst (((l.map (·.1)).take pre.length).map D.str)]⟩,⟨[some (psD l),some (sD goods),some (.ptr 0),some (.str x.1),some (.int x.2)],[.lst (((l.map (·.1)).take (pre.length+1)).map D.str)]⟩,by rw[nF];rfl,.inl ?_,some (.str x.1),some (.int x.2),by rw[List.length_append,List.length_singleton]⟩
   rw[i6]
   have k1:=cZ (xU (n:=3) (f:=hC) (ma:=ab (aa 3) (ab (aa 1) (ab (aa 2) ak))) (s:=⟨[some (psD l),some (sD goods),some (.ptr 0),some (.str x.1),some (.int x.2)],[.lst (((l.map (·.1)).take pre.length).map D.str)]⟩) (s':=⟨[some (psD l),some (sD goods),some (.ptr 0),some (.str x.1),some (.int x.2)],[.lst (((l.map (·.1)).take pre.length).map D.str)]⟩) (ds:=[.str x.1,sD goods,.ptr 0]) (rs:=[.str x.1,sD goods,sD ((l.map (·.1)).take pre.length)]) (by
    rw[bb,af (i:=3) rfl,ai,bb,af (i:=1) rfl,ai,bb,af (i:=2) rfl];rfl) (Fv rfl _ _) (Er _ _ _) rfl (HL (h.mem x hm) hout) (by rfl))
   have k2:=cZ (cq (n:=1) (f:=fJ) (ma:=ab (aa 4) ak) (s:=⟨[some (psD l),some (sD goods),some (.ptr 0),some (.str x.1),some (.int x.2)],[.lst (((l.map (·.1)).take pre.length).map D.str)]⟩) (s':=⟨[some (psD l),some (sD goods),some (.ptr 0),some (.str x.1),some (.int x.2)],[.lst (((l.map (·.1)).take pre.length).map D.str)]⟩) (ds:=[.int x.2]) (by rw[bb,af (i:=4) rfl];rfl) (by simp) rfl (Dj (h.pos x hm)) (by simp))
   refine Eq.trans (cL k1) (Eq.trans (cL k2) ?_)
   refine Eq.trans (cZ (vk (mo:=aa 2) (me:=aa 3) (k:=0) (d:=.str x.1) (af rfl) rfl (af rfl) rfl (by simp;omega))) ?_
   have ht:(l.map (·.1)).take (pre.length+1)=(l.map (·.1)).take pre.length++[x.1]:=by
    rw[List.take_add_one,List.getElem?_map,List.getElem?_eq_getElem hlt,hx];rfl
   rw[ht,List.map_append]
   rfl) ⟨[some (psD l),some (sD goods),some (.ptr 0),none,none],[.lst []]⟩ ⟨_,_,rfl⟩
 have hf:=dk (im:=listI (aa 0)) (g:=cH (aQ (aA 3) (aQ (aA 4) cN)) 2) (body:=i6) (s:=⟨[some (psD l),some (sD goods),some (.ptr 0),none,none],[.lst []]⟩) (ds:=l.map pD) (k:=none) (s1:=⟨[some (psD l),some (sD goods),some (.ptr 0),none,none],[.lst []]⟩) (by rw[fQ,af (i:=0) rfl];rfl)
 rw[el] at hf
 exact⟨_,kK (s:=s') (by
  show fZ ⟨[some (psD l),some (sD goods),none,none,none],[]⟩=_
  rw[fZ,cL e2]
  exact hf)⟩
@[simp] theorem Gh (g h i:GM) (a b c:D) (s:S):cH (aQ g (aQ h (aQ i cN))) 3 (.tup [a,b,c]) s=(g a s).bind λs1=>(h b s1).bind λs2=>i c s2:=by
 show (g a s).bind (λs1=>(h b s1).bind λs2=>(i c s2).bind λs3=>.ok s3)=_
 congr 1
 funext s1
 congr 1
 funext s2
 cases i c s2 <;> rfl
structure uU(goods:List Str)(ws:List Wk):Prop where
 nm:∀w∈ws,oi w.nm
 nd:(ws.map (·.nm)).Nodup
 us:∀w∈ws,jF goods w.us/\w.us.length<=100
 ms:∀w∈ws,jF goods w.ms/\w.ms.length<=100
theorem Ex{goods:List Str}{ws:List Wk}(h:uU goods ws)(hl:ws.length<=1000):∃O,gb [wsD ws,sD goods] []=.ok (.non,O):=by
 have e2:setM 2 (jc ak) ⟨[some (wsD ws),some (sD goods),none,none,none,none],[]⟩=.next ⟨[some (wsD ws),some (sD goods),some (.ptr 0),none,none,none],[.lst []]⟩:=by simp
 obtain⟨s',el,y3,y4,y5,hs'⟩:=d4 (ok:=okC (ws.map wD) none) (g:=cH (aQ (aA 3) (aQ (aA 4) (aQ (aA 5) cN))) 3) (body:=i8)
  (λpre s=>∃y3 y4 y5,s=⟨[some (wsD ws),some (sD goods),some (.ptr 0),y3,y4,y5],[.lst (((ws.map (·.nm)).take pre.length).map D.str)]⟩) (λ_ _ _=>trivial) (ws.map wD) [] (by
   rintro pre d rest ed s ⟨y3,y4,y5,rfl⟩
   rw[List.nil_append] at ed
   obtain⟨hlt,rfl⟩:=wG ed
   have hm:ws[pre.length]∈ws:=List.getElem_mem _
   have hout:(ws[pre.length]).nm∉(ws.map (·.nm)).take pre.length:=by
    have:=jD h.nd (i:=pre.length) (by simpa using hlt)
    simpa using this
   generalize hx:ws[pre.length]=x at hm hout
   refine⟨⟨[some (wsD ws),some (sD goods),some (.ptr 0),some (.str x.nm),some (psD x.us),some (psD x.ms)],[.lst (((ws.map (·.nm)).take pre.length).map D.str)]⟩,⟨[some (wsD ws),some (sD goods),some (.ptr 0),some (.str x.nm),some (psD x.us),some (psD x.ms)],[.lst (((ws.map (·.nm)).take (pre.length+1)).map D.str)]⟩,by rw[Gh];rfl,.inl ?_,some (.str x.nm),some (psD x.us),some (psD x.ms),by rw[List.length_append,List.length_singleton]⟩
   rw[i8]
   obtain⟨O1,p1⟩:=zJ (h.us x hm).1 (by have:=(h.us x hm).2;omega)
   obtain⟨O2,p2⟩:=zJ (h.ms x hm).1 (by have:=(h.ms x hm).2;omega)
   have k1:=cZ (xU (n:=2) (f:=d9) (ma:=ab (aa 3) (ab (aa 2) ak)) (s:=⟨[some (wsD ws),some (sD goods),some (.ptr 0),some (.str x.nm),some (psD x.us),some (psD x.ms)],[.lst (((ws.map (·.nm)).take pre.length).map D.str)]⟩) (s':=⟨[some (wsD ws),some (sD goods),some (.ptr 0),some (.str x.nm),some (psD x.us),some (psD x.ms)],[.lst (((ws.map (·.nm)).take pre.length).map D.str)]⟩) (ds:=[.str x.nm,.ptr 0]) (by
    rw[bb,af (i:=3) rfl,ai,bb,af (i:=2) rfl];rfl) (G7 rfl _) (A9 _ _) rfl (AU (h.nm x hm) hout) (by rfl))
   have pur:∀l:List (Str×Int),aL [.lst (l.map pD),.lst (goods.map D.str)]=true:=λl=>by
    show (aL (l.map pD)&&(aL (goods.map D.str)&&true))=true
    rw[dm,gD];rfl
   have k2:=cZ (cq (n:=2) (f:=dS) (ma:=ab (aa 4) (ab (aa 1) ak)) (s:=⟨[some (wsD ws),some (sD goods),some (.ptr 0),some (.str x.nm),some (psD x.us),some (psD x.ms)],[.lst (((ws.map (·.nm)).take pre.length).map D.str)]⟩) (s':=⟨[some (wsD ws),some (sD goods),some (.ptr 0),some (.str x.nm),some (psD x.us),some (psD x.ms)],[.lst (((ws.map (·.nm)).take pre.length).map D.str)]⟩) (ds:=[psD x.us,sD goods]) (by rw[bb,af (i:=4) rfl,ai,bb,af (i:=1) rfl];rfl) (pur _) rfl p1 (by simp))
   have k3:=cZ (cq (n:=2) (f:=dS) (ma:=ab (aa 5) (ab (aa 1) ak)) (s:=⟨[some (wsD ws),some (sD goods),some (.ptr 0),some (.str x.nm),some (psD x.us),some (psD x.ms)],[.lst (((ws.map (·.nm)).take pre.length).map D.str)]⟩) (s':=⟨[some (wsD ws),some (sD goods),some (.ptr 0),some (.str x.nm),some (psD x.us),some (psD x.ms)],[.lst (((ws.map (·.nm)).take pre.length).map D.str)]⟩) (ds:=[psD x.ms,sD goods]) (by rw[bb,af (i:=5) rfl,ai,bb,af (i:=1) rfl];rfl) (pur _) rfl p2 (by simp))
   refine Eq.trans (cL k1) (Eq.trans (cL k2) (Eq.trans (cL k3) ?_))
   refine Eq.trans (cZ (vk (mo:=aa 2) (me:=aa 3) (k:=0) (d:=.str x.nm) (af rfl) rfl (af rfl) rfl (by simp;omega))) ?_
   have ht:(ws.map (·.nm)).take (pre.length+1)=(ws.map (·.nm)).take pre.length++[x.nm]:=by
    rw[List.take_add_one,List.getElem?_map,List.getElem?_eq_getElem hlt,hx];rfl
   rw[ht,List.map_append]
   rfl) ⟨[some (wsD ws),some (sD goods),some (.ptr 0),none,none,none],[.lst []]⟩ ⟨_,_,_,rfl⟩
 have hf:=dk (im:=listI (aa 0)) (g:=cH (aQ (aA 3) (aQ (aA 4) (aQ (aA 5) cN))) 3) (body:=i8) (s:=⟨[some (wsD ws),some (sD goods),some (.ptr 0),none,none,none],[.lst []]⟩) (ds:=ws.map wD) (k:=none) (s1:=⟨[some (wsD ws),some (sD goods),some (.ptr 0),none,none,none],[.lst []]⟩) (by rw[fQ,af (i:=0) rfl];rfl)
 rw[el] at hf
 exact⟨_,kK (s:=s') (by
  show iH ⟨[some (wsD ws),some (sD goods),none,none,none,none],[]⟩=_
  rw[iH,cL e2]
  exact hf)⟩
theorem HD(w:Wk):iY [wD w] []=.ok (wD w,[]):=by
 refine dF (s:=⟨[some (wD w)],[]⟩) ?_
 show j8 ⟨[some (wD w)],[]⟩=_
 rw[j8]
 refine bI ?_
 have i0:∀(k:Int) (d:D),ixD [] (wD w) (.int k)=.ok d->aj ixD (aa 0) (ao (.int k)) ⟨[some (wD w)],[]⟩=.ok (d,⟨[some (wD w)],[]⟩):=λk d h=>by
  rw[d5,af (i:=0) rfl,ai,aB,ai]
  dsimp only
  rw[h];rfl
 rw[AZ,bb,i0 0 (.str w.nm) rfl,ai,bb,jI,bb,i0 1 (psD w.us) rfl,ai,aI,ai,ai]
 dsimp only
 rw[kG,ai,ai,bb,jI,bb,i0 2 (psD w.ms) rfl,ai,aI,ai,ai]
 dsimp only
 rw[kG,ai,ai,aI,ai,ai,ai,ai]
 rfl
def sumOf(g:Str)(l:List (Str×Int)):Int:=((l.filter λp=>decide (p.1=g)).map (·.2)).sum
def chg(w:Wk)(g:Str):Int:=sumOf g w.ms-sumOf g w.us
theorem AR{g:Str}{l:List (Str×Int)}(hl:l.length<=1000):dN [.str g,psD l] []=.ok (.int (sumOf g l),[]):=by
 have hc:=A7 (l:=l) (item:=pD) (p:=λp=>decide (p.1=g)) (out:=λp=>.int p.2) (caps:=[0]) (im:=listI (aa 1)) (c:=aZ (aj eqD (aj ixD (aa 0) (ao (.int 0))) (aa 1))) (e:=aj ixD (aa 0) (ao (.int 1))) (k:=none) (s:=⟨[some (.str g),some (psD l)],[]⟩) (by rw[fQ,af (i:=1) rfl];rfl) trivial (by omega) (λp _=>by
  rw[hX,d5,d5,af (i:=0) rfl,ai,aB,ai]
  dsimp only
  rw[show ixD [] (pD p) (.int 0)=.ok (.str p.1) from rfl,ai,ai]
  dsimp only
  rw[af (i:=1) rfl,ai]
  dsimp only
  rw[Hs];rfl) (λp _ _=>by
  rw[d5,af (i:=0) rfl,ai,aB,ai]
  rfl)
 rw[show (l.filter λp=>decide (p.1=g)).map (λp=>D.int p.2)=((l.filter λp=>decide (p.1=g)).map (·.2)).map D.int by rw[List.map_map];rfl] at hc
 refine dF (s:=⟨[some (.str g),some (psD l)],[]⟩) ?_
 show iX ⟨[some (.str g),some (psD l)],[]⟩=_
 rw[iX]
 refine bI ?_
 rw[jI,bb,hc,ai,aI,ai,ai]
 dsimp only
 rw[oA,ai]
 rfl
theorem Hj{w:Wk}{goods:List Str}(h1:w.us.length<=1000)(h2:w.ms.length<=1000)(hg:goods.length<=1000):iK [wD w,sD goods] []=.ok (vI (goods.map (chg w)),[]):=by
 have hc:=eX (l:=goods) (item:=D.str) (out:=λg=>.int (chg w g)) (caps:=[0]) (im:=listI (aa 1)) (e:=aj gO (aO 2 dN (ab (aa 0) (ab (aj ixD (aa 1) (ao (.int 2))) ak))) (aO 2 dN (ab (aa 0) (ab (aj ixD (aa 1) (ao (.int 1))) ak)))) (k:=none) (s:=⟨[some (wD w),some (sD goods)],[]⟩) (by rw[fQ,af (i:=1) rfl];rfl) trivial (by omega) (λg _=>by
  have pur:∀l:List (Str×Int),aL [.str g,.lst (l.map pD)]=true:=λl=>by
   show (true&&(aL (l.map pD)&&true))=true
   rw[gD];rfl
  have c2:aO 2 dN (ab (aa 0) (ab (aj ixD (aa 1) (ao (.int 2))) ak)) ⟨some (.str g)::[0].map (λi=>([some (wD w),some (sD goods)][i]?).getD none),[]⟩=.ok (.int (sumOf g w.ms),⟨some (.str g)::[0].map (λi=>([some (wD w),some (sD goods)][i]?).getD none),[]⟩):=cq (ds:=[.str g,psD w.ms]) (by
   rw[bb,af (i:=0) rfl,ai,bb,d5,af (i:=1) rfl,ai,aB,ai];rfl) (pur _) rfl (AR h2) (by simp)
  have c1:aO 2 dN (ab (aa 0) (ab (aj ixD (aa 1) (ao (.int 1))) ak)) ⟨some (.str g)::[0].map (λi=>([some (wD w),some (sD goods)][i]?).getD none),[]⟩=.ok (.int (sumOf g w.us),⟨some (.str g)::[0].map (λi=>([some (wD w),some (sD goods)][i]?).getD none),[]⟩):=cq (ds:=[.str g,psD w.us]) (by
   rw[bb,af (i:=0) rfl,ai,bb,d5,af (i:=1) rfl,ai,aB,ai];rfl) (pur _) rfl (AR h1) (by simp)
  rw[d5,c2,ai]
  dsimp only
  rw[c1,ai]
  rfl)
 rw[show goods.map (λg=>D.int (chg w g))=(goods.map (chg w)).map D.int by rw[List.map_map];rfl] at hc
 refine dF (s:=⟨[some (wD w),some (sD goods)],[]⟩) ?_
 show j3 ⟨[some (wD w),some (sD goods)],[]⟩=_
 rw[j3]
 exact bI hc
abbrev FN:List Str:=["held_goods","held_works","held_changes"]
abbrev yDs(goods:List Str)(ws:List Wk):List D:=[sD goods,wsD ws,vII (ws.map λw=>goods.map (chg w))]
abbrev yD(goods:List Str)(ws:List Wk):D:=.obj 0 FN (yDs goods ws)
theorem o3(goods:List Str)(ws:List Wk):aL (yDs goods ws)=true:=by
 show (aL (goods.map D.str)&&(aL (ws.map wD)&&(aL ((ws.map λw=>goods.map (chg w)).map vI)&&true)))=true
 rw[dm,lb,mx];rfl
theorem vO{c:Nat}{f:Str}{mo mv:EM}{s s1 s2:S}{d:D}{k:Nat}{ns:List Str}{ds:List D}(hv:mv s=.ok (d,s1))(ho:mo s1=.ok (.ptr k,s2))(hc:s2.o[k]? =some (.ins c ns ds))(hf:f∉ns)(hl:ns.length<1000):pH c f mo mv s=.next ⟨s2.r,s2.o.set k (.ins c (ns++[f]) (ds++[d]))⟩:=by
 rw[EG,hv,gA]
 dsimp only
 rw[ho,gA]
 dsimp only
 rw[hc]
 dsimp only
 rw[if_pos ⟨rfl,hf,hl⟩]
theorem IF{goods:List Str}{ws:List Wk}(hg:∀z∈goods,oi z)(nd:goods.Nodup)(hw:uU goods ws)(h1:goods.length<=10)(h2:ws.length<=10):gL [.ptr 0,sD goods,wsD ws] [.ins 0 [] []]=.ok (.non,[.ins 0 FN (yDs goods ws)]):=by
 obtain⟨O1,k1⟩:=Et hg nd
 obtain⟨O2,k2⟩:=Ex hw (by omega)
 refine kK (s:=⟨[some (.ptr 0),some (sD goods),some (wsD ws)],[.ins 0 FN (yDs goods ws)]⟩) ?_
 show j7 ⟨[some (.ptr 0),some (sD goods),some (wsD ws)],[.ins 0 [] []]⟩=_
 rw[j7]
 have pg:aL [.lst (goods.map D.str)]=true:=by
  show (aL (goods.map D.str)&&true)=true
  rw[dm];rfl
 have pgw:aL [.lst (goods.map D.str),.lst (ws.map wD)]=true:=by
  show (aL (goods.map D.str)&&(aL (ws.map wD)&&true))=true
  rw[dm,lb];rfl
 have pwg:aL [.lst (ws.map wD),.lst (goods.map D.str)]=true:=by
  show (aL (ws.map wD)&&(aL (goods.map D.str)&&true))=true
  rw[dm,lb];rfl
 have e1:=cZ (cq (n:=2) (f:=hW) (ma:=ab (aa 1) (ab (aa 2) ak)) (s:=⟨[some (.ptr 0),some (sD goods),some (wsD ws)],[.ins 0 [] []]⟩) (s':=⟨[some (.ptr 0),some (sD goods),some (wsD ws)],[.ins 0 [] []]⟩) (ds:=[sD goods,wsD ws]) (by rw[bb,af (i:=1) rfl,ai,bb,af (i:=2) rfl];rfl) pgw rfl (G2 h1 h2) (by simp))
 have e2:=cZ (cq (n:=1) (f:=gj) (ma:=ab (aa 1) ak) (s:=⟨[some (.ptr 0),some (sD goods),some (wsD ws)],[.ins 0 [] []]⟩) (s':=⟨[some (.ptr 0),some (sD goods),some (wsD ws)],[.ins 0 [] []]⟩) (ds:=[sD goods]) (by rw[bb,af (i:=1) rfl];rfl) pg rfl k1 (by simp))
 have e3:=cZ (cq (n:=2) (f:=gb) (ma:=ab (aa 2) (ab (aa 1) ak)) (s:=⟨[some (.ptr 0),some (sD goods),some (wsD ws)],[.ins 0 [] []]⟩) (s':=⟨[some (.ptr 0),some (sD goods),some (wsD ws)],[.ins 0 [] []]⟩) (ds:=[wsD ws,sD goods]) (by rw[bb,af (i:=2) rfl,ai,bb,af (i:=1) rfl];rfl) pwg rfl k2 (by simp))
 have e4:=vO (c:=0) (f:="held_goods") (mo:=aa 0) (mv:=bC fV (ab (aa 1) ak)) (s:=⟨[some (.ptr 0),some (sD goods),some (wsD ws)],[.ins 0 [] []]⟩) (s1:=⟨[some (.ptr 0),some (sD goods),some (wsD ws)],[.ins 0 [] []]⟩) (s2:=⟨[some (.ptr 0),some (sD goods),some (wsD ws)],[.ins 0 [] []]⟩) (d:=sD goods) (k:=0) (ns:=[]) (ds:=[]) (by
  rw[jI,bb,af (i:=1) rfl,ai,aI,ai,ai]
  dsimp only
  rw[kG,ai]) (af rfl) rfl (by simp) (by simp)
 have cw:=eX (l:=ws) (item:=wD) (out:=wD) (caps:=[]) (im:=listI (aa 2)) (e:=aO 1 iY (ab (aa 0) ak)) (k:=none) (s:=⟨[some (.ptr 0),some (sD goods),some (wsD ws)],[.ins 0 ["held_goods"] [sD goods]]⟩) (by rw[fQ,af (i:=2) rfl];rfl) trivial (by omega) (λw _=>cq (ds:=[wD w]) (by rw[bb,af (i:=0) rfl];rfl) (by
  show ((true&&(aL (w.us.map pD)&&(aL (w.ms.map pD)&&true)))&&true)=true
  rw[gD,gD];rfl) rfl (HD w) (by
  show (true&&(aL (w.us.map pD)&&(aL (w.ms.map pD)&&true)))=true
  rw[gD,gD];rfl))
 have e5:=vO (c:=0) (f:="held_works") (mo:=aa 0) (k:=0) (ns:=["held_goods"]) (ds:=[sD goods]) cw (af rfl) rfl (by decide) (by simp)
 have cc:=eX (l:=ws) (item:=wD) (out:=λw=>vI (goods.map (chg w))) (caps:=[1]) (im:=listI (aa 2)) (e:=aO 2 iK (ab (aa 0) (ab (aa 1) ak))) (k:=none) (s:=⟨[some (.ptr 0),some (sD goods),some (wsD ws)],[.ins 0 ["held_goods","held_works"] [sD goods,wsD ws]]⟩) (by rw[fQ,af (i:=2) rfl];rfl) trivial (by omega) (λw hwm=>cq (ds:=[wD w,sD goods]) (by rw[bb,af (i:=0) rfl,ai,bb,af (i:=1) rfl];rfl) (by
  show ((true&&(aL (w.us.map pD)&&(aL (w.ms.map pD)&&true)))&&(aL (goods.map D.str)&&true))=true
  rw[gD,gD,dm];rfl) rfl (Hj (by have:=(hw.us w hwm).2;omega) (by have:=(hw.ms w hwm).2;omega) (by omega)) (by generalize goods.map (chg w)=r;simp))
 rw[show ws.map (λw=>vI (goods.map (chg w)))=(ws.map λw=>goods.map (chg w)).map vI by rw[List.map_map];rfl] at cc
 have e6:=vO (c:=0) (f:="held_changes") (mo:=aa 0) (k:=0) (ns:=["held_goods","held_works"]) (ds:=[sD goods,wsD ws]) cc (af rfl) rfl (by decide) (by simp)
 refine Eq.trans (cL e1) (Eq.trans (cL e2) (Eq.trans (cL e3) (Eq.trans (cL e4) (Eq.trans (cL e5) e6))))
structure Pt(goods:List Str)(i:Nat)(l:List (Str×Int)):Prop where
 mem:∀p∈l,p.1∈goods.take i
 pos:∀p∈l,1<=p.2
 nd:(l.map (·.1)).Nodup
 len:l.length<=i
theorem Pt.same{goods:List Str}{i:Nat}{l:List (Str×Int)}(h:Pt goods i l):Pt goods (i+1) l:=
 ⟨λp hp=>List.mem_of_mem_take (i:=i) (by rw[List.take_take,Nat.min_eq_left (Nat.le_succ i)];exact h.mem p hp),h.pos,h.nd,Nat.le_succ_of_le h.len⟩
theorem Pt.more{goods:List Str}(nd:goods.Nodup){i:Nat}(hi:i<goods.length){l:List (Str×Int)}(h:Pt goods i l){a:Int}(ha:1<=a):Pt goods (i+1) (l++[(goods[i],a)]):=by
 have hs:=h.same
 refine⟨λp hp=> ?_,λp hp=> ?_, ?_,by rw[List.length_append,List.length_singleton];have:=h.len;omega⟩
 ·rcases List.mem_append.mp hp with q | q
  ·exact hs.mem p q
  ·rw[List.mem_singleton.mp q,show goods.take (i+1)=goods.take i++[goods[i]] by rw[List.take_add_one,List.getElem?_eq_getElem hi];rfl]
   exact List.mem_append_right _ (List.mem_singleton.mpr rfl)
 ·rcases List.mem_append.mp hp with q | q
  ·exact h.pos p q
  ·rw[List.mem_singleton.mp q];exact ha
 ·rw[List.map_append]
  refine List.nodup_append.mpr ⟨h.nd,by simp,λx hx y hy=> ?_⟩
  obtain⟨p,hp,rfl⟩:=List.mem_map.mp hx
  have:y=goods[i]:=by simpa using hy
  subst this
  intro e
  exact jD nd hi (e▸h.mem p hp)
theorem Pt.parts{goods:List Str}{i:Nat}{l:List (Str×Int)}(h:Pt goods i l):jF goods l:=⟨λp hp=>List.mem_of_mem_take (h.mem p hp),h.pos,h.nd⟩
theorem jF.rev{goods:List Str}{l:List (Str×Int)}(h:jF goods l):jF goods l.reverse:=
 ⟨λp hp=>h.mem p (List.mem_reverse.mp hp),λp hp=>h.pos p (List.mem_reverse.mp hp),by rw[List.map_reverse];exact List.pairwise_reverse.mpr (h.nd.imp λe=>e.symm)⟩
def cS(c t m:Int):Int:=(c%2147483647+7)*(48271+7919*t)%2147483647*16807%2147483647/8%m
theorem jr{c t m:Int}(hm:0<m):0<=cS c t m:=Int.emod_nonneg _ (by omega)
theorem lu{c t m:Int}(hm:0<m):cS c t m<m:=Int.emod_lt_of_pos _ hm
theorem oz(c t:Int){m:Nat}(hm:0<m):∃r:Nat,cS c t (m:Int)=(r:Int)/\r<m:=⟨(cS c t (m:Int)).toNat,by have:=jr (c:=c) (t:=t) (m:=(m:Int)) (by omega);omega,by have:=jr (c:=c) (t:=t) (m:=(m:Int)) (by omega);have:=lu (c:=c) (t:=t) (m:=(m:Int)) (by omega);omega⟩
theorem IG{c t m:Int}(hm:0<m):aM [.int c,.int t,.int m] []=.ok (.int (cS c t m),[]):=by
 have h0:0<=c%2147483647:=Int.emod_nonneg _ (by decide)
 have h1:c%2147483647<2147483647:=Int.emod_lt_of_pos _ (by decide)
 refine en (R:=[some (.int c),some (.int t),some (.int m),some (.int ((c%2147483647+7)*(48271+7919*t)%2147483647))]) ?_
 show bJ ⟨[some (.int c),some (.int t),some (.int m),none],[]⟩=_
 rw[bJ]
 refine aU (bu (aK (aK (aK (aK (af rfl) (aB _ _) (eu (by decide))) (aB _ _) (cD _ _)) (aK (aB _ _) (aK (aB _ _) (af rfl) (da (fF (.inl (by decide))))) (cD _ _)) (da (fF (.inl (by omega))))) (aB _ _) (eu (by decide))) rfl) ?_
 exact bI (aK (aK (aK (aK (af rfl) (aB _ _) (da (fF (.inr (by decide))))) (aB _ _) (eu (by decide))) (aB _ _) (sV (by decide) (by decide))) (af rfl) (eu hm))
theorem fU{s:S}{ma mb mc:EM}{c t m:Int}(h1:ma s=.ok (.int c,s))(h2:mb s=.ok (.int t,s))(h3:mc s=.ok (.int m,s))(hm:0<m):aO 3 aM (ab ma (ab mb (ab mc ak))) s=.ok (.int (cS c t m),s):=iO (aH h1 (aH h2 (aH h3 (aI _)))) (IG hm) rfl rfl rfl
def sgP(fi:Int)(k:Nat):Nat:=97+((fi+5*(k:Int))%26).toNat
def nmP(wd:List Nat)(sp:Nat)(fi:Int)(k:Nat):List Nat:=wd.take sp++[sgP fi k]++wd.drop sp
theorem J4(fi:Int)(k:Nat):97<=sgP fi k/\sgP fi k<=122:=by unfold sgP;omega
theorem Fg{wd:List Nat}{sp k:Nat}{fi:Int}(h:sp<=wd.length)(h7:wd.length<=7)(haz:azL wd):oi (mkS (nmP wd sp fi k)):=by
 have hl:(nmP wd sp fi k).length=wd.length+1:=by unfold nmP;simp;omega
 refine⟨by rw[jj,hl];omega,by rw[jj,hl];omega, ?_⟩
 rw[gH]
 intro c hc
 unfold nmP at hc
 rcases List.mem_append.mp hc with z | z
 ·rcases List.mem_append.mp z with y | y
  ·exact haz c (List.mem_of_mem_take y)
  ·rw[List.mem_singleton.mp y];exact J4 fi k
 ·exact haz c (List.mem_of_mem_drop z)
theorem Je{wd:List Nat}{sp i j:Nat}{fi:Int}(h:sp<=wd.length)(hij:i<j)(hj:j<26):nmP wd sp fi i≠nmP wd sp fi j:=by
 intro e
 have hs:sgP fi i≠sgP fi j:=by unfold sgP;omega
 have hl:(wd.take sp).length=sp:=by rw[List.length_take];omega
 have key:∀x:Nat,(wd.take sp++[x]++wd.drop sp)[sp]? =some x:=λx=>by
  rw[List.append_assoc,List.getElem?_append_right (by omega),hl,Nat.sub_self];rfl
 have e1:(nmP wd sp fi i)[sp]? =(nmP wd sp fi j)[sp]? :=by rw[e]
 unfold nmP at e1
 rw[key,key] at e1
 have e1:sgP fi i=sgP fi j:=by simpa using e1
 exact hs e1
theorem names_nodup{wd:List Nat}{sp n:Nat}{fi:Int}(h:sp<=wd.length)(hn:n<=26):((List.range n).map λk=>mkS (nmP wd sp fi k)).Nodup:=by
 unfold List.Nodup
 rw[List.pairwise_map]
 refine List.Pairwise.imp_of_mem ?_ (List.pairwise_lt_range (n:=n))
 intro i j _ hj hij e
 have:=congrArg sg e
 rw[gH,gH] at this
 exact Je h hij (by have:=List.mem_range.mp hj;omega) this
theorem GF{me:EM}{ml mh:OM}{s s1 s2 s3:S}{z y:Str}{lo hi:Option Int}(h:me s=.ok (.str z,s1))(hl:ml s1=.ok (lo,s2))(hh:mh s2=.ok (hi,s3))(hz:z.length<=1000000)(hy:kQ z lo hi=y):slS me ml mh s=.ok (.str y,s3):=by
 rw[Jh,h,ai]
 dsimp only
 rw[hl,ai]
 dsimp only
 rw[hh,ai]
 dsimp only
 rw[if_pos (by omega),hy]
abbrev naR(c:Int)(n:Nat)(wd:List Nat)(x4 x5 x6:Option D):List (Option D):=[some (.int c),some (.int (n:Int)),some (.str ABC),some (.str (mkS wd)),x4,x5,x6]
theorem BE{c:Int}{n k:Nat}{wd:List Nat}(hl:wd.length<=1000):∃r,iz ⟨naR c n wd (some (.int (k:Int))) none none,[]⟩=.next ⟨naR c n (wd++[r]) (some (.int (k:Int))) none none,[]⟩/\97<=r/\r<=122:=by
 have p0:=jr (c:=c) (t:=2+(k:Int)) (m:=26) (by decide)
 have p1:=lu (c:=c) (t:=2+(k:Int)) (m:=26) (by decide)
 refine⟨97+(cS c (2+(k:Int)) 26).toNat, ?_,by omega,by omega⟩
 rw[iz]
 refine bu (aK (af rfl) (aK (af rfl) (fU (af rfl) (aK (aB _ _) (af rfl) (cD _ _)) (aB _ _) (by decide)) (CT p0 p1)) ?_) rfl
 rw[qO (by rw[jj,jj];simp;omega)]
 rw[show mkS wd++mkS [97+(cS c (2+(k:Int)) 26).toNat]=mkS (wd++[97+(cS c (2+(k:Int)) 26).toNat]) from rE (by rw[yp,gH,gH,gH])]
theorem zW(c:Int){n:Nat}(hn:n<=20):∃zs O,dj [.int c,.int (n:Int)] []=.ok (sD zs,O)/\zs.length=n/\(∀z∈zs,oi z)/\zs.Nodup:=by
 obtain⟨sz,hsz,sz8⟩:=oz c 1 (m:=8) (by decide)
 have hsz:cS c 1 8=(sz:Int):=hsz
 obtain⟨s',el,wd,x4,hwl,haz,hs'⟩:=d4 (ok:=okC (dw 0 (sz:Int)) none) (g:=aA 4) (body:=iz)
  (λpre s=>∃(wd:List Nat) (x4:Option D),wd.length=pre.length/\azL wd/\s=⟨naR c n wd x4 none none,[]⟩) (λ_ _ _=>trivial) (dw 0 (sz:Int)) [] (by
   rintro pre d rest ed s ⟨wd,x4,h1,h2,rfl⟩
   rw[List.nil_append,jT] at ed
   obtain⟨rfl,hlt⟩:=mf ed
   obtain⟨r,eb,r1,r2⟩:=BE (c:=c) (n:=n) (k:=pre.length) (wd:=wd) (by omega)
   refine⟨_,_,rfl,.inl eb,wd++[r],_,by simp[h1],λz hz=> ?_,rfl⟩
   rcases List.mem_append.mp hz with q | q
   ·exact h2 z q
   ·rw[List.mem_singleton.mp q];exact⟨r1,r2⟩) ⟨naR c n [] none none none,[]⟩ ⟨[],none,rfl,(λ_ h=>by cases h),rfl⟩
 rw[List.nil_append,gr] at hwl
 have hwl:wd.length=sz:=by omega
 have hf:eG (ij (ab (aO 3 aM (ab (aa 0) (ab (ao (.int 1)) (ab (ao (.int 8)) ak)))) ak)) (aA 4) iz ⟨naR c n [] none none none,[]⟩=.next ⟨naR c n wd x4 none none,[]⟩:=by
  refine(dk (ds:=dw 0 (sz:Int)) (k:=none) (s1:=⟨naR c n [] none none none,[]⟩) (ie (n:=sz) ?_ (by omega))).trans (el.trans (by rw[hs']))
  rw[<- hsz]
  exact aH (fU (af rfl) (aB _ _) (aB _ _) (by decide)) (aI _)
 obtain⟨sp,hsp,sp1⟩:=oz c 10 (m:=wd.length+1) (by omega)
 have e5:setM 5 (aO 3 aM (ab (aa 0) (ab (ao (.int 10)) (ab (aj bL (bC dC (ab (aa 3) ak)) (ao (.int 1))) ak)))) ⟨naR c n wd x4 none none,[]⟩=.next ⟨naR c n wd x4 (some (.int (sp:Int))) none,[]⟩:=by
  rw[<- hsp]
  refine bu (fU (af rfl) (aB _ _) (aK (eM (aH (af rfl) (aI _)) (yZ (by rw[jj];omega))) (aB _ _) ?_) (by omega)) rfl
  rw[cD,jj];rfl
 have e6:setM 6 (aO 3 aM (ab (aa 0) (ab (ao (.int 11)) (ab (ao (.int 26)) ak)))) ⟨naR c n wd x4 (some (.int (sp:Int))) none,[]⟩=.next ⟨naR c n wd x4 (some (.int (sp:Int))) (some (.int (cS c 11 26))),[]⟩:=bu (fU (af rfl) (aB _ _) (aB _ _) (by decide)) rfl
 generalize cS c 11 26=fi at e6
 have hwk:(mkS wd).length=wd.length:=jj wd
 have ec:=eX (l:=List.range n) (item:=λi:Nat=>D.int (i:Int)) (out:=λk=>.str (mkS (nmP wd sp fi k))) (caps:=[6,2,5,3]) (im:=ij (ab (aa 1) ak)) (e:=aj bL (aj bL (slS (aa 4) iF (part (aa 3))) (aj ixD (aa 2) (aj fb (aj bL (aa 1) (aj di (ao (.int 5)) (aa 0))) (ao (.int 26))))) (slS (aa 4) (part (aa 3)) iF)) (k:=none) (s:=⟨naR c n wd x4 (some (.int (sp:Int))) (some (.int fi)),[]⟩) (by
  rw[<- jT]
  exact ie (aH (af rfl) (aI _)) (by omega)) trivial (by simp;omega) (λk hk=>by
   have p1:kQ (mkS wd) none (some (sp:Int))=mkS (wd.take sp):=rE (by rw[GW (by omega),gH,gH])
   have p2:kQ (mkS wd) (some (sp:Int)) none=mkS (wd.drop sp):=rE (by rw[Iw (by omega),gH,gH])
   refine aK (aK (GF (af rfl) (p8 _) (yR (af rfl)) (by omega) p1) (aK (af rfl) (aK (aK (af rfl) (aK (aB _ _) (af rfl) (da (fF (.inl (by decide))))) (cD _ _)) (aB _ _) (eu (by decide))) (CT (by omega) (by omega))) (d:=.str (mkS (wd.take sp++[sgP fi k]))) ?_) (GF (af rfl) (yR (af rfl)) (p8 _) (by omega) p2) ?_
   ·rw[qO (by rw[jj,jj];simp;omega)]
    exact congrArg (λz=>Res.ok (D.str z)) (rE (by rw[yp,gH,gH,gH];rfl))
   ·rw[qO (by rw[jj,jj];simp;omega)]
    exact congrArg (λz=>Res.ok (D.str z)) (rE (by rw[yp,gH,gH,gH];rfl)))
 refine⟨(List.range n).map λk=>mkS (nmP wd sp fi k),[], ?_,by simp,λz hz=> ?_,names_nodup (by omega) (by omega)⟩
 ·refine en (R:=naR c n wd x4 (some (.int (sp:Int))) (some (.int fi))) ?_
  show iU ⟨[some (.int c),some (.int (n:Int)),none,none,none,none,none],[]⟩=_
  rw[iU]
  rw[show (List.range n).map (λk=>D.str (mkS (nmP wd sp fi k)))=((List.range n).map λk=>mkS (nmP wd sp fi k)).map D.str by rw[List.map_map];rfl] at ec
  exact aU (bu (aB _ _) rfl) (aU (bu (R':=naR c n [] none none none) (aB _ _) rfl) (aU hf (aU e5 (aU e6 (bI ec)))))
 ·obtain⟨k,_,rfl⟩:=List.mem_map.mp hz
  exact Fg (by omega) (by omega) haz
theorem wJ{O:ax}:kN O (.int 10) (.int 12)=.ok (.int 1000000000000):=tO (by decide) (by decide) (by decide)
theorem EV{O:ax}:kN O (.int 10) (.int 9)=.ok (.int 1000000000):=tO (by decide) (by decide) (by decide)
theorem D4{O:ax}:kN O (.int 10) (.int 10)=.ok (.int 10000000000):=tO (by decide) (by decide) (by decide)
theorem nI{O:ax}{i j:Int}(h:0<j):gx O (.int i) (.int j)=.ok (.int (i/j)):=by
 rw[rN (by omega),tI h]
abbrev moR(c:Int)(n:Nat)(w:Bool)(rest span:Int)(x6 x7:Option D):List (Option D):=[some (.int c),some (.int (n:Int)),some (.bl w),some (.ptr 0),some (.int rest),some (.int span),x6,x7]
theorem D5{c:Int}{n k:Nat}{w:Bool}{rest span:Int}{l:List Int}{x7:Option D}(hs:7<=span)(hs2:span<=2000000000001)(hl:l.length<=1000):
 ∃(v rest':Int),kP ⟨moR c n w rest span (some (.int (k:Int))) x7,[.lst (l.map D.int)]⟩=.next ⟨moR c n w rest' span (some (.int (k:Int))) (some (.int v)),[.lst ((l++[v]).map D.int)]⟩/\Sz 50 v:=by
 have p0:=jr (c:=c) (t:=20+(k:Int)) (m:=7) (by decide)
 have p1:=lu (c:=c) (t:=20+(k:Int)) (m:=7) (by decide)
 have q0:=jr (c:=c) (t:=30+(k:Int)) (m:=2000) (by decide)
 have q1:=lu (c:=c) (t:=30+(k:Int)) (m:=2000) (by decide)
 have e7:setM 7 (aj gO (aO 3 aM (ab (aa 0) (ab (aj bL (ao (.int 20)) (aa 6)) (ab (ao (.int 7)) ak)))) (ao (.int 3))) ⟨moR c n w rest span (some (.int (k:Int))) x7,[.lst (l.map D.int)]⟩=.next ⟨moR c n w rest span (some (.int (k:Int))) (some (.int (cS c (20+(k:Int)) 7-3))),[.lst (l.map D.int)]⟩:=bu (aK (fU (af rfl) (aK (aB _ _) (af rfl) (cD _ _)) (aB _ _) (by decide)) (aB _ _) (kc _ _)) rfl
 generalize cS c (20+(k:Int)) 7=p at e7 p0 p1
 have m0:0<=c%1000000000000:=Int.emod_nonneg _ (by decide)
 have m1:c%1000000000000<1000000000000:=Int.emod_lt_of_pos _ (by decide)
 have e8:∃v,ifS (aZ (aa 2)) (setM 7 (aj gO (aj bL (aj di (aa 7) (aj fb (aa 0) (aj kN (ao (.int 10)) (ao (.int 12))))) (aO 3 aM (ab (aa 0) (ab (aj bL (ao (.int 30)) (aa 6)) (ab (ao (.int 2000)) ak))))) (ao (.int 1000)))) bN ⟨moR c n w rest span (some (.int (k:Int))) (some (.int (p-3))),[.lst (l.map D.int)]⟩=.next ⟨moR c n w rest span (some (.int (k:Int))) (some (.int v)),[.lst (l.map D.int)]⟩/\Sz 50 v:=by
  cases w with
  | true=>
   refine⟨(p-3)*(c%1000000000000)+cS c (30+(k:Int)) 2000-1000,jX (fB (af rfl)) rfl (bu (aK (aK (aK (af rfl) (aK (af rfl) (aK (aB _ _) (aB _ _) wJ) (eu (by decide))) (da (fF (.inl (by omega))))) (fU (af rfl) (aK (aB _ _) (af rfl) (cD _ _)) (aB _ _) (by decide)) (cD _ _)) (aB _ _) (kc _ _)) rfl), ?_⟩
   generalize cS c (30+(k:Int)) 2000=q at q0 q1
   generalize c%1000000000000=m at m0 m1
   have hp:p=0\/p=1\/p=2\/p=3\/p=4\/p=5\/p=6:=by omega
   unfold Sz
   rcases hp with rfl | rfl | rfl | rfl | rfl | rfl | rfl <;> omega
  | false=>exact⟨p-3,eN (fB (af rfl)) rfl (cR _),by unfold Sz;omega⟩
 obtain⟨v,e8,zv⟩:=e8
 have e9:∃v' rest',ifS (tw (aZ (aj eqD (aj fb (aa 0) (ao (.int 2))) (ao (.int 1)))) (aZ (aj gtD (aa 4) (ao (.int 0))))) (aJ (setM 7 (aj gO (aj fb (aa 4) (aa 5)) (aj gx (aa 5) (ao (.int 2))))) (setM 4 (aj gx (aa 4) (aa 5)))) bN ⟨moR c n w rest span (some (.int (k:Int))) (some (.int v)),[.lst (l.map D.int)]⟩=.next ⟨moR c n w rest' span (some (.int (k:Int))) (some (.int v')),[.lst (l.map D.int)]⟩/\Sz 50 v':=by
  have t1:aZ (aj eqD (aj fb (aa 0) (ao (.int 2))) (ao (.int 1))) ⟨moR c n w rest span (some (.int (k:Int))) (some (.int v)),[.lst (l.map D.int)]⟩=.ok (decide (c%2=1),⟨moR c n w rest span (some (.int (k:Int))) (some (.int v)),[.lst (l.map D.int)]⟩):=eq_test (aK (af rfl) (aB _ _) (eu (by decide)))
  have t2:aZ (aj gtD (aa 4) (ao (.int 0))) ⟨moR c n w rest span (some (.int (k:Int))) (some (.int v)),[.lst (l.map D.int)]⟩=.ok (decide (0<rest),⟨moR c n w rest span (some (.int (k:Int))) (some (.int v)),[.lst (l.map D.int)]⟩):=iT (af rfl)
  have ta:=AW t1 t2
  cases hb:(decide (c%2=1)&&decide (0<rest)) with
  | true=>
   refine⟨rest%span-span/2,rest/span,jX ta hb (aU (bu (aK (aK (af rfl) (af rfl) (eu (by omega))) (aK (af rfl) (aB _ _) (nI (by decide))) (kc _ _)) rfl) (bu (aK (af rfl) (af rfl) (nI (by omega))) rfl)), ?_⟩
   have r0:0<=rest%span:=Int.emod_nonneg _ (by omega)
   have r1:rest%span<span:=Int.emod_lt_of_pos _ (by omega)
   unfold Sz
   omega
  | false=>exact⟨v,rest,eN ta hb (cR _),zv⟩
 obtain⟨v',rest',e9,zv'⟩:=e9
 refine⟨v',rest', ?_,zv'⟩
 rw[kP]
 refine aU e7 (aU e8 (aU e9 (cZ (oy (af rfl) rfl (af rfl) rfl (by simp;omega) ?_))))
 rw[List.map_append];rfl
theorem G0(c:Int){n:Nat}(w:Bool)(hn:n<=100):∃l:List Int,jE [.int c,.int (n:Int),.bl w] []=.ok (.ptr 0,[.lst (l.map D.int)])/\l.length=n/\SzL 50 l:=by
 obtain⟨span,hsp,s0,s1⟩:∃span:Int,(if w=true then 2000000000001 else 7)=span/\7<=span/\span<=2000000000001:=⟨_,rfl,by split <;> decide,by split <;> decide⟩
 have e5:setM 5 (aj ixD (vN (ab (ao (.int 7)) (ab (aj bL (aj di (ao (.int 2)) (aj kN (ao (.int 10)) (ao (.int 12)))) (ao (.int 1))) ak))) (bC intOf (ab (aa 2) ak))) ⟨[some (.int c),some (.int (n:Int)),some (.bl w),some (.ptr 0),some (.int (c/2)),none,none,none],[.lst []]⟩=.next ⟨moR c n w (c/2) span none none,[.lst []]⟩:=by
  refine bu (aK (Gr (aH (aB _ _) (aH (aK (aK (aB _ _) (aK (aB _ _) (aB _ _) wJ) (da (fF (.inl (by decide))))) (aB _ _) (cD _ _)) (aI _))) (by simp)) (eM (aH (af rfl) (aI _)) (yX _)) ?_) rfl
  subst hsp
  cases w <;> rfl
 obtain⟨s',el,l,rest,x6,x7,hl,hz,hs'⟩:=d4 (ok:=okC (dw 0 (n:Int)) none) (g:=aA 6) (body:=kP)
  (λpre s=>∃(l:List Int) (rest:Int) (x6 x7:Option D),l.length=pre.length/\SzL 50 l/\s=⟨moR c n w rest span x6 x7,[.lst (l.map D.int)]⟩) (λ_ _ _=>trivial) (dw 0 (n:Int)) [] (by
   rintro pre d rest ed s ⟨l,r,x6,x7,h1,h2,rfl⟩
   rw[List.nil_append,jT] at ed
   obtain⟨rfl,hlt⟩:=mf ed
   obtain⟨v,r',eb,zv⟩:=D5 (c:=c) (n:=n) (k:=pre.length) (w:=w) (rest:=r) (span:=span) (l:=l) (x7:=x7) s0 s1 (by omega)
   refine⟨_,_,rfl,.inl eb,l++[v],r',_,_,by simp[h1],λz hz=> ?_,rfl⟩
   rcases List.mem_append.mp hz with q | q
   ·exact h2 z q
   ·rw[List.mem_singleton.mp q];exact zv) ⟨moR c n w (c/2) span none none,[.lst []]⟩ ⟨[],_,none,none,rfl,(λ_ h=>by cases h),rfl⟩
 rw[List.nil_append,gr] at hl
 refine⟨l, ?_,by omega,hz⟩
 refine en (R:=moR c n w rest span x6 x7) ?_
 show kM ⟨[some (.int c),some (.int (n:Int)),some (.bl w),none,none,none,none,none],[]⟩=_
 rw[kM]
 refine aU (bu (nJ (aI _) (by simp) rfl rfl) rfl) (aU (bu (aK (af rfl) (aB _ _) (nI (by decide))) rfl) (aU e5 (aU ?_ (bI (af rfl)))))
 exact(dk (ds:=dw 0 (n:Int)) (k:=none) (s1:=⟨moR c n w (c/2) span none none,[.lst []]⟩) (ie (n:=n) (aH (af rfl) (aI _)) (by omega))).trans (el.trans (by rw[hs']))
theorem yT{m1 m2:EM}{s s1 s2:S}{i j:Int}(h1:m1 s=.ok (.int i,s1))(h2:m2 s1=.ok (.int j,s2)):bC lU (ab m1 (ab m2 ak)) s=.ok (.int (max i j),s2):=by
 refine eM (aH h1 (aH h2 (aI _))) ?_
 show Res.ok (D.int (if j>i then j else i))=_
 congr 2
 split <;> omega
abbrev weR(c:Int)(n:Nat)(lo rest:Int)(x5 x6:Option D):List (Option D):=[some (.int c),some (.int (n:Int)),some (.int lo),some (.ptr 0),some (.int rest),x5,x6]
theorem zi{c:Int}{n k:Nat}{lo rest:Int}{l:List Int}{x6:Option D}(hlo:Sz 40 lo)(hl:l.length<=1000):
 ∃(v rest':Int) (y6:Option D),gz ⟨weR c n lo rest (some (.int (k:Int))) x6,[.lst (l.map D.int)]⟩=.next ⟨weR c n lo rest' (some (.int (k:Int))) y6,[.lst ((l++[v]).map D.int)]⟩/\Sz 40 v/\lo<=v:=by
 have p0:=jr (c:=c) (t:=100+(k:Int)) (m:=7) (by decide)
 have p1:=lu (c:=c) (t:=100+(k:Int)) (m:=7) (by decide)
 have e6:setM 6 (aj gO (aO 3 aM (ab (aa 0) (ab (aj bL (ao (.int 100)) (aa 5)) (ab (ao (.int 7)) ak)))) (ao (.int 3))) ⟨weR c n lo rest (some (.int (k:Int))) x6,[.lst (l.map D.int)]⟩=.next ⟨weR c n lo rest (some (.int (k:Int))) (some (.int (cS c (100+(k:Int)) 7-3))),[.lst (l.map D.int)]⟩:=bu (aK (fU (af rfl) (aK (aB _ _) (af rfl) (cD _ _)) (aB _ _) (by decide)) (aB _ _) (kc _ _)) rfl
 generalize cS c (100+(k:Int)) 7=p at e6 p0 p1
 have m0:0<=c%1000000000:=Int.emod_nonneg _ (by decide)
 have m1:c%1000000000<1000000000:=Int.emod_lt_of_pos _ (by decide)
 have e8:∃v,ifS (aZ (aj eqD (aO 3 aM (ab (aa 0) (ab (ao (.int 110)) (ab (ao (.int 6)) ak)))) (ao (.int 0)))) (setM 6 (aj di (aa 6) (aj fb (aa 0) (aj kN (ao (.int 10)) (ao (.int 9)))))) bN ⟨weR c n lo rest (some (.int (k:Int))) (some (.int (p-3))),[.lst (l.map D.int)]⟩=.next ⟨weR c n lo rest (some (.int (k:Int))) (some (.int v)),[.lst (l.map D.int)]⟩/\Sz 40 v:=by
  have t:=eq_test (j:=0) (fU (s:=⟨weR c n lo rest (some (.int (k:Int))) (some (.int (p-3))),[.lst (l.map D.int)]⟩) (ma:=aa 0) (mb:=ao (.int 110)) (mc:=ao (.int 6)) (af rfl) (aB _ _) (aB _ _) (by decide))
  cases hb:decide (cS c 110 6=0) with
  | true=>
   refine⟨(p-3)*(c%1000000000),jX t hb (bu (aK (af rfl) (aK (af rfl) (aK (aB _ _) (aB _ _) EV) (eu (by decide))) (da (fF (.inl (by omega))))) rfl), ?_⟩
   generalize c%1000000000=m at m0 m1
   have hp:p=0\/p=1\/p=2\/p=3\/p=4\/p=5\/p=6:=by omega
   unfold Sz
   rcases hp with rfl | rfl | rfl | rfl | rfl | rfl | rfl <;> omega
  | false=>exact⟨p-3,eN t hb (cR _),by unfold Sz;omega⟩
 obtain⟨v,e8,zv⟩:=e8
 have e9:∃v' rest',ifS (tw (aZ (aj eqD (aj fb (aa 0) (ao (.int 2))) (ao (.int 1)))) (aZ (aj gtD (aa 4) (ao (.int 0))))) (aJ (setM 6 (aj gO (aj fb (aa 4) (ao (.int 7))) (ao (.int 3)))) (setM 4 (aj gx (aa 4) (ao (.int 7))))) bN ⟨weR c n lo rest (some (.int (k:Int))) (some (.int v)),[.lst (l.map D.int)]⟩=.next ⟨weR c n lo rest' (some (.int (k:Int))) (some (.int v')),[.lst (l.map D.int)]⟩/\Sz 40 v':=by
  have t1:aZ (aj eqD (aj fb (aa 0) (ao (.int 2))) (ao (.int 1))) ⟨weR c n lo rest (some (.int (k:Int))) (some (.int v)),[.lst (l.map D.int)]⟩=.ok (decide (c%2=1),⟨weR c n lo rest (some (.int (k:Int))) (some (.int v)),[.lst (l.map D.int)]⟩):=eq_test (aK (af rfl) (aB _ _) (eu (by decide)))
  have t2:aZ (aj gtD (aa 4) (ao (.int 0))) ⟨weR c n lo rest (some (.int (k:Int))) (some (.int v)),[.lst (l.map D.int)]⟩=.ok (decide (0<rest),⟨weR c n lo rest (some (.int (k:Int))) (some (.int v)),[.lst (l.map D.int)]⟩):=iT (af rfl)
  have ta:=AW t1 t2
  cases hb:(decide (c%2=1)&&decide (0<rest)) with
  | true=>exact⟨rest%7-3,rest/7,jX ta hb (aU (bu (aK (aK (af rfl) (aB _ _) (eu (by decide))) (aB _ _) (kc _ _)) rfl) (bu (aK (af rfl) (aB _ _) (nI (by decide))) rfl)),by unfold Sz;omega⟩
  | false=>exact⟨v,rest,eN ta hb (cR _),zv⟩
 obtain⟨v',rest',e9,zv'⟩:=e9
 refine⟨max v' lo,rest',some (.int v'), ?_, ?_,by omega⟩
 ·rw[gz]
  refine aU e6 (aU e8 (aU e9 (cZ (oy (af rfl) rfl (yT (af rfl) (af rfl)) rfl (by simp;omega) ?_))))
  rw[List.map_append];rfl
 ·have q:max v' lo=v'\/max v' lo=lo:=by omega
  rcases q with q | q
  ·rw[q];exact zv'
  ·rw[q];exact hlo
theorem B5(c:Int){n:Nat}{lo:Int}(hn:n<=100)(hlo:Sz 40 lo):∃(ws:List Int) (O:ax),ft [.int c,.int (n:Int),.int lo] []=.ok (vI ws,O)/\ws.length=n/\SzL 40 ws/\(0<n->1∈ws)/\(0<=lo->lo<=1->∀a∈ws,0<=a):=by
 obtain⟨s',el,l,rest,x5,x6,hl,hz,hm,hs'⟩:=d4 (ok:=okC (dw 0 (n:Int)) none) (g:=aA 5) (body:=gz)
  (λpre s=>∃(l:List Int) (rest:Int) (x5 x6:Option D),l.length=pre.length/\SzL 40 l/\(∀a∈l,lo<=a)/\s=⟨weR c n lo rest x5 x6,[.lst (l.map D.int)]⟩) (λ_ _ _=>trivial) (dw 0 (n:Int)) [] (by
   rintro pre d rest ed s ⟨l,r,x5,x6,h1,h2,h3,rfl⟩
   rw[List.nil_append,jT] at ed
   obtain⟨rfl,hlt⟩:=mf ed
   obtain⟨v,r',y6,eb,zv,lv⟩:=zi (c:=c) (n:=n) (k:=pre.length) (lo:=lo) (rest:=r) (l:=l) (x6:=x6) hlo (by omega)
   refine⟨_,_,rfl,.inl eb,l++[v],r',_,_,by simp[h1],λz hz=> ?_,λz hz=> ?_,rfl⟩
   ·rcases List.mem_append.mp hz with q | q
    ·exact h2 z q
    ·rw[List.mem_singleton.mp q];exact zv
   ·rcases List.mem_append.mp hz with q | q
    ·exact h3 z q
    ·rw[List.mem_singleton.mp q];exact lv) ⟨weR c n lo (c/2) none none,[.lst []]⟩ ⟨[],_,none,none,rfl,(λ_ h=>by cases h),(λ_ h=>by cases h),rfl⟩
 rw[List.nil_append,gr] at hl
 have hl:l.length=n:=by omega
 have hf:eG (ij (ab (aa 1) ak)) (aA 5) gz ⟨weR c n lo (c/2) none none,[.lst []]⟩=.next ⟨weR c n lo rest x5 x6,[.lst (l.map D.int)]⟩:=(dk (ds:=dw 0 (n:Int)) (k:=none) (s1:=⟨weR c n lo (c/2) none none,[.lst []]⟩) (ie (n:=n) (aH (af rfl) (aI _)) (by omega))).trans (el.trans (by rw[hs']))
 have ep:∃ws:List Int,ifS (aZ (aj gtD (aa 1) (ao (.int 0)))) (kX (ao (.int 1)) (oQ (aa 3) (aO 3 aM (ab (aa 0) (ab (ao (.int 111)) (ab (aa 1) ak)))))) bN ⟨weR c n lo rest x5 x6,[.lst (l.map D.int)]⟩=.next ⟨weR c n lo rest x5 x6,[.lst (ws.map D.int)]⟩/\ws.length=n/\SzL 40 ws/\(0<n->1∈ws)/\(0<=lo->lo<=1->∀a∈ws,0<=a):=by
  have t:aZ (aj gtD (aa 1) (ao (.int 0))) ⟨weR c n lo rest x5 x6,[.lst (l.map D.int)]⟩=.ok (decide ((0:Int)<(n:Int)),⟨weR c n lo rest x5 x6,[.lst (l.map D.int)]⟩):=iT (af rfl)
  by_cases h:0<n
  ·obtain⟨a,ha,an⟩:=oz c 111 h
   refine⟨l.set a 1,jX t (decide_eq_true (by omega)) (Gx (aB _ _) ?_),by rw[List.length_set];exact hl,λx hx=> ?_,λ_=>List.mem_of_getElem? (i:=a) (by rw[List.getElem?_set_self (by omega)]),λl0 _ x hx=> ?_⟩
   ·rw[List.map_set]
    refine tm (k:=0) (a:=a) (ds:=l.map D.int) (s1:=⟨weR c n lo rest x5 x6,[.lst (l.map D.int)]⟩) (s2:=⟨weR c n lo rest x5 x6,[.lst (l.map D.int)]⟩) (af rfl) ?_ rfl (by simp;omega)
    rw[<- ha]
    exact fU (af rfl) (aB _ _) (af rfl) (by omega)
   ·rcases List.mem_or_eq_of_mem_set hx with z | rfl
    ·exact hz x z
    ·unfold Sz;decide
   ·rcases List.mem_or_eq_of_mem_set hx with z | rfl
    ·have:=hm x z;omega
    ·decide
  ·exact⟨l,eN t (decide_eq_false (by omega)) (cR _),hl,hz,λq=>absurd q h,λl0 _ x hx=>by have:=hm x hx;omega⟩
 obtain⟨ws,ep,w1,w2,w3,w4⟩:=ep
 refine⟨ws,[.dead], ?_,w1,w2,w3,w4⟩
 refine en (R:=weR c n lo rest x5 x6) ?_
 show iD ⟨[some (.int c),some (.int (n:Int)),some (.int lo),none,none,none,none],[]⟩=_
 rw[iD]
 exact aU (bu (nJ (aI _) (by simp) rfl rfl) rfl) (aU (bu (aK (af rfl) (aB _ _) (nI (by decide))) rfl) (aU hf (aU ep (bI (mM (af rfl) rfl rfl)))))
theorem wq:∀(a b:List Int),a.length=b.length->((List.range b.length).map λk=>nth a k*nth b k).sum=aG a b
 | [],[],_=>rfl
 | x::a,y::b,h=>by
  have ih:=wq a b (by simpa using h)
  rw[List.length_cons,List.range_succ_eq_map,List.map_cons,List.map_map,List.sum_cons]
  show x*y+((List.range b.length).map λk=>nth a k*nth b k).sum=(x*y::List.zipWith (· * ·) a b).sum
  rw[ih,List.sum_cons]
  rfl
theorem Br:∀(w l:List Int) (a:Nat) (v:Int),a<w.length->a<l.length->aG w (l.set a v)=aG w l+nth w a*(v-nth l a)
 | x::w,y::l,0,v,_,_=>by
  show (x*v::List.zipWith (· * ·) w l).sum=(x*y::List.zipWith (· * ·) w l).sum+x*(v-y)
  rw[List.sum_cons,List.sum_cons,Int.mul_sub]
  omega
 | x::w,y::l,a+1,v,h1,h2=>by
  have ih:=Br w l a v (by simpa using h1) (by simpa using h2)
  show (x*y::List.zipWith (· * ·) w (l.set a v)).sum=(x*y::List.zipWith (· * ·) w l).sum+nth w a*(v-nth l a)
  rw[List.sum_cons,List.sum_cons,show (List.zipWith (· * ·) w (l.set a v)).sum=aG w (l.set a v) from rfl,ih]
  show x*y+(aG w l+_)=x*y+aG w l+_
  omega
structure uO(n:Nat)(ws l:List Int):Prop where
 len:l.length=n
 sz:SzL 110 l
 dot:aG ws l=0
abbrev keR(ns:List Int)(b:Nat)(ws:List Int)(hd:Int)(n:Nat)(w:Bool)(x7 x8 x9 x10:Option D):List (Option D):=[some (vI ns),some (.int (b:Int)),some (vI ws),some (.int hd),some (.int (n:Int)),some (.ptr 0),some (.bl w),x7,x8,x9,x10]
theorem Dw{ns ws:List Int}{b n k:Nat}{hd:Int}{w:Bool}{A:List (List Int)}{O:ax}{x8 x9 x10:Option D}(wl:ws.length=n)(hn:n<=100)(wz:SzL 40 ws)(w1:0<n->1∈ws)(hO:O[0]? =some (.lst (A.map vI)))(al:A.length<=1000):
 ∃l O' y8 y9 y10,i9 ⟨keR ns b ws hd n w (some (.int (k:Int))) x8 x9 x10,O⟩=.next ⟨keR ns b ws hd n w (some (.int (k:Int))) y8 y9 y10,O'⟩/\O'[0]? =some (.lst ((A++[l]).map vI))/\uO n ws l:=by
 obtain⟨c,ec,_⟩:=vf ns (b+1+k)
 have hc:aO 2 dh (ab (aa 0) (ab (aj bL (aj bL (aa 1) (ao (.int 1))) (aa 7)) ak)) ⟨keR ns b ws hd n w (some (.int (k:Int))) x8 x9 x10,O⟩=.ok (.int c,⟨keR ns b ws hd n w (some (.int (k:Int))) x8 x9 x10,O⟩):=by
  refine iO (O1:=[]) (aH (af rfl) (aH (aK (aK (af rfl) (aB _ _) (cD _ _)) (af rfl) (cD _ _)) (aI _))) ?_ (by simp) rfl rfl
  rw[show (b:Int)+1+(k:Int)=((b+1+k:Nat):Int) by omega]
  exact ec
 obtain⟨l,em,ll,lz⟩:=G0 (c+13*(k:Int)) w hn
 have e8:setM 8 (gE 3 jE (ab (aj bL (aO 2 dh (ab (aa 0) (ab (aj bL (aj bL (aa 1) (ao (.int 1))) (aa 7)) ak))) (aj di (ao (.int 13)) (aa 7))) (ab (aa 4) (ab (aa 6) ak)))) ⟨keR ns b ws hd n w (some (.int (k:Int))) x8 x9 x10,O⟩=.next ⟨keR ns b ws hd n w (some (.int (k:Int))) (some (.ptr O.length)) x9 x10,O++[.lst (l.map D.int)]⟩:=by
  refine bu (kA (aH (aK hc (aK (aB _ _) (af rfl) (da (fF (.inl (by decide))))) (cD _ _)) (aH (af rfl) (aH (af rfl) (aI _)))) em rfl rfl (g7 _ _) ?_) rfl
  simp only[List.map_cons,List.map_nil,pj,mj]
 have hk0:O.length≠0:=by have:=nU hO;omega
 have c8:(O++[Cell.lst (l.map D.int)])[O.length]? =some (.lst (l.map D.int)):=eZ
 have g8:(O++[Cell.lst (l.map D.int)])[0]? =some (.lst (A.map vI)):=cy hO
 generalize O++[Cell.lst (l.map D.int)]=O1 at e8 c8 g8
 generalize O.length=kk at e8 c8 hk0
 have e9:∃l' O2 y9 y10,ifS (aZ (aj gtD (aa 4) (ao (.int 0)))) (aJ (setM 9 (oZ (aa 2) (ao (.int 1)))) (aJ (setM 10 (bC qQ (ab (cO 1 [8,2] (ij (ab (aa 4) ak)) (aA 0) cE (aj di (aj ixD (aa 2) (aa 0)) (aj ixD (aa 1) (aa 0)))) ak))) (kX (aj gO (aj ixD (aa 8) (aa 9)) (aa 10)) (oQ (aa 8) (aa 9))))) bN ⟨keR ns b ws hd n w (some (.int (k:Int))) (some (.ptr kk)) x9 x10,O1⟩=.next ⟨keR ns b ws hd n w (some (.int (k:Int))) (some (.ptr kk)) y9 y10,O2⟩/\O2[kk]? =some (.lst (l'.map D.int))/\O2[0]? =some (.lst (A.map vI))/\uO n ws l':=by
  have t:aZ (aj gtD (aa 4) (ao (.int 0))) ⟨keR ns b ws hd n w (some (.int (k:Int))) (some (.ptr kk)) x9 x10,O1⟩=.ok (decide ((0:Int)<(n:Int)),⟨keR ns b ws hd n w (some (.int (k:Int))) (some (.ptr kk)) x9 x10,O1⟩):=iT (af rfl)
  by_cases h:0<n
  ·have m1:=w1 h
   have ia:ws.idxOf 1<ws.length:=List.idxOf_lt_length_of_mem m1
   have iv:nth ws (ws.idxOf 1)=1:=by
    unfold nth
    rw[List.getD_eq_getElem?_getD,List.getElem?_eq_getElem ia,List.getElem_idxOf ia];rfl
   have s1:=bu (i:=9) (EN (s:=⟨keR ns b ws hd n w (some (.int (k:Int))) (some (.ptr kk)) x9 x10,O1⟩) (mo:=aa 2) (me:=ao (.int 1)) (af rfl) (aB _ _) m1) (R':=keR ns b ws hd n w (some (.int (k:Int))) (some (.ptr kk)) (some (.int ((ws.idxOf 1:Nat):Int))) x10) rfl
   generalize ws.idxOf 1=a at s1 ia iv
   have hcp:=eX (l:=List.range n) (item:=λi:Nat=>D.int (i:Int)) (out:=λi=>.int (nth ws i*nth l i)) (caps:=[8,2]) (im:=ij (ab (aa 4) ak)) (e:=aj di (aj ixD (aa 2) (aa 0)) (aj ixD (aa 1) (aa 0))) (k:=none) (s:=⟨keR ns b ws hd n w (some (.int (k:Int))) (some (.ptr kk)) (some (.int (a:Int))) x10,O1⟩) (by
    rw[<- jT]
    exact ie (aH (af rfl) (aI _)) (by omega)) trivial (by simp;omega) (λi hi=>by
     have hi':=List.mem_range.mp hi
     have ex:ixD O1 (.ptr kk) (.int (i:Int))=.ok (.int (nth l i)):=by
      refine yy c8 ?_
      rw[n4 (by simp;omega)]
      simp[nth,List.getD_eq_getElem?_getD,ll,hi']
     have ew:IntMulOk (nth ws i) (nth l i):=jt (m:=40) (n:=50) (by decide) (by decide) (wz.nth _) (lz.nth _)
     exact aK (aK (af rfl) (af rfl) (mW (by omega))) (aK (af rfl) (af rfl) ex) (da ew))
   rw[show (List.range n).map (λi=>D.int (nth ws i*nth l i))=((List.range n).map λi=>nth ws i*nth l i).map D.int by rw[List.map_map];rfl] at hcp
   have hs:((List.range n).map λi=>nth ws i*nth l i).sum=aG ws l:=by
    have:=wq ws l (by omega)
    rw[ll] at this
    exact this
   have hd2:=eM (f:=qQ) (aH hcp (aI _)) (oA _ _)
   rw[hs] at hd2
   have s2:=bu (i:=10) (R':=keR ns b ws hd n w (some (.int (k:Int))) (some (.ptr kk)) (some (.int (a:Int))) (some (.int (aG ws l)))) hd2 rfl
   have dz:Sz 100 (aG ws l):=(zE (b:=50) (c:=40) wz lz (by omega)).mono (by decide)
   have s3:kX (aj gO (aj ixD (aa 8) (aa 9)) (aa 10)) (oQ (aa 8) (aa 9)) ⟨keR ns b ws hd n w (some (.int (k:Int))) (some (.ptr kk)) (some (.int (a:Int))) (some (.int (aG ws l))),O1⟩=.next ⟨keR ns b ws hd n w (some (.int (k:Int))) (some (.ptr kk)) (some (.int (a:Int))) (some (.int (aG ws l))),O1.set kk (.lst ((l.set a (nth l a-aG ws l)).map D.int))⟩:=by
    have ev:aj gO (aj ixD (aa 8) (aa 9)) (aa 10) ⟨keR ns b ws hd n w (some (.int (k:Int))) (some (.ptr kk)) (some (.int (a:Int))) (some (.int (aG ws l))),O1⟩=.ok (.int (nth l a-aG ws l),⟨keR ns b ws hd n w (some (.int (k:Int))) (some (.ptr kk)) (some (.int (a:Int))) (some (.int (aG ws l))),O1⟩):=by
     have ex:ixD O1 (.ptr kk) (.int (a:Int))=.ok (.int (nth l a)):=by
      refine yy c8 ?_
      rw[n4 (by simp;omega)]
      simp[nth,List.getD_eq_getElem?_getD,show a<l.length by omega]
     exact aK (aK (af rfl) (af rfl) ex) (af rfl) (kc _ _)
    refine Gx ev ?_
    rw[List.map_set]
    exact tm (k:=kk) (a:=a) (ds:=l.map D.int) (s1:=⟨keR ns b ws hd n w (some (.int (k:Int))) (some (.ptr kk)) (some (.int (a:Int))) (some (.int (aG ws l))),O1⟩) (s2:=⟨keR ns b ws hd n w (some (.int (k:Int))) (some (.ptr kk)) (some (.int (a:Int))) (some (.int (aG ws l))),O1⟩) (af rfl) (af rfl) c8 (by simp;omega)
   have sz:∀x∈l.set a (nth l a-aG ws l),Sz 110 x:=λx hx=>by
    rcases List.mem_or_eq_of_mem_set hx with z | rfl
    ·exact(lz x z).mono (by decide)
    ·exact(Sz.sub (lz _ (sf (by omega))) dz).mono (by decide)
   have dt:aG ws (l.set a (nth l a-aG ws l))=0:=by
    rw[Br _ _ _ _ (by omega) (by omega),iv]
    omega
   have lt:(l.set a (nth l a-aG ws l)).length=n:=by rw[List.length_set];exact ll
   generalize l.set a (nth l a-aG ws l)=l' at s3 sz dt lt
   have c9:(O1.set kk (.lst (l'.map D.int)))[kk]? =some (.lst (l'.map D.int)):=gK c8
   have g9:(O1.set kk (.lst (l'.map D.int)))[0]? =some (.lst (A.map vI)):=by rw[cB hk0];exact g8
   exact⟨l',O1.set kk (.lst (l'.map D.int)),some (.int (a:Int)),some (.int (aG ws l)),jX t (decide_eq_true (by omega)) (aU s1 (aU s2 s3)),c9,g9,⟨lt,sz,dt⟩⟩
  ·have n0:n=0:=by omega
   refine⟨l,O1,x9,x10,eN t (decide_eq_false (by omega)) (cR _),c8,g8,⟨ll,lz.mono (by decide), ?_⟩⟩
   cases l with
   | nil=>unfold aG;cases ws <;> rfl
   | cons x l=>rw[n0] at ll;cases ll
 obtain⟨l',O2,y9,y10,e9,c9,g9,kp⟩:=e9
 refine⟨l',(O2.set kk .dead).set 0 (.lst (A.map vI++[vI l'])),some (.ptr kk),y9,y10, ?_,(by rw[List.map_append];exact gK (c':=.lst (A.map vI)) (by rw[cB hk0];exact g9)),kp⟩
 rw[i9]
 exact aU e8 (aU e9 (cZ (oy (af rfl) g9 (mM (af rfl) c9 rfl) (by rw[cB hk0];exact g9) (by simp;omega) rfl)))
theorem HX(ns:List Int)(b:Nat){ws:List Int}{n:Nat}(wl:ws.length=n)(hn:n<=100)(wz:SzL 40 ws)(w1:0<n->1∈ws):∃(A:List (List Int)) (O:ax),fu [vI ns,.int (b:Int),vI ws] []=.ok (vII A,O)/\A.length<=5/\∀l∈A,uO n ws l:=by
 obtain⟨hd,eh,_⟩:=vf ns b
 have e3:setM 3 (aO 2 dh (ab (aa 0) (ab (aa 1) ak))) ⟨[some (vI ns),some (.int (b:Int)),some (vI ws),none,none,none,none,none,none,none,none],[]⟩=.next ⟨[some (vI ns),some (.int (b:Int)),some (vI ws),some (.int hd),none,none,none,none,none,none,none],[]⟩:=bu (iO (aH (af rfl) (aH (af rfl) (aI _))) eh (by simp) rfl rfl) rfl
 have e4:setM 4 (bC dC (ab (aa 2) ak)) ⟨[some (vI ns),some (.int (b:Int)),some (vI ws),some (.int hd),none,none,none,none,none,none,none],[]⟩=.next ⟨[some (vI ns),some (.int (b:Int)),some (vI ws),some (.int hd),some (.int (n:Int)),none,none,none,none,none,none],[]⟩:=by
  refine bu (eM (aH (af rfl) (aI _)) (jh _)) ?_
  rw[List.length_map,wl];rfl
 have e6:setM 6 (aj eqD (aO 3 aM (ab (aa 3) (ab (ao (.int 41)) (ab (ao (.int 6)) ak)))) (ao (.int 0))) ⟨[some (vI ns),some (.int (b:Int)),some (vI ws),some (.int hd),some (.int (n:Int)),some (.ptr 0),none,none,none,none,none],[.lst []]⟩=.next ⟨keR ns b ws hd n (decide (cS hd 41 6=0)) none none none none,[.lst []]⟩:=bu (aK (fU (af rfl) (aB _ _) (aB _ _) (by decide)) (aB _ _) (Bn _ _)) rfl
 generalize decide (cS hd 41 6=0)=w at e6
 obtain⟨cnt,hcnt,c5⟩:∃cnt:Nat,cS hd 40 6%(6-2*(if w=true then 1 else 0))=(cnt:Int)/\cnt<=5:=by
  have h0:(0:Int)<6-2*(if w=true then 1 else 0):=by split <;> decide
  have h6:(6:Int)-2*(if w=true then 1 else 0)<=6:=by split <;> decide
  generalize (6:Int)-2*(if w=true then 1 else 0)=m at h0 h6
  have r0:=Int.emod_nonneg (cS hd 40 6) (show m≠0 by omega)
  have r1:=Int.emod_lt_of_pos (cS hd 40 6) h0
  exact⟨(cS hd 40 6%m).toNat,by omega,by omega⟩
 obtain⟨s',el,A,O,x7,x8,x9,x10,hl,hk,hO,hs'⟩:=d4 (ok:=okC (dw 0 (cnt:Int)) none) (g:=aA 7) (body:=i9)
  (λpre s=>∃(A:List (List Int)) (O:ax) (x7 x8 x9 x10:Option D),A.length=pre.length/\(∀l∈A,uO n ws l)/\O[0]? =some (.lst (A.map vI))/\s=⟨keR ns b ws hd n w x7 x8 x9 x10,O⟩) (λ_ _ _=>trivial) (dw 0 (cnt:Int)) [] (by
   rintro pre d rest ed s ⟨A,O,x7,x8,x9,x10,h1,h2,h3,rfl⟩
   rw[List.nil_append,jT] at ed
   obtain⟨rfl,hlt⟩:=mf ed
   obtain⟨l,O',y8,y9,y10,eb,h3',kp⟩:=Dw (ns:=ns) (b:=b) (k:=pre.length) (hd:=hd) (w:=w) (x8:=x8) (x9:=x9) (x10:=x10) wl hn wz w1 h3 (by omega)
   refine⟨_,_,rfl,.inl eb,A++[l],O',_,_,_,_,by simp[h1],λz hz=> ?_,h3',rfl⟩
   rcases List.mem_append.mp hz with q | q
   ·exact h2 z q
   ·rw[List.mem_singleton.mp q];exact kp) ⟨keR ns b ws hd n w none none none none,[.lst []]⟩ ⟨[],[.lst []],none,none,none,none,rfl,(λ_ h=>by cases h),rfl,rfl⟩
 rw[List.nil_append,gr] at hl
 refine⟨A,O.set 0 .dead, ?_,by omega,hk⟩
 refine en (R:=keR ns b ws hd n w x7 x8 x9 x10) ?_
 show iA ⟨[some (vI ns),some (.int (b:Int)),some (vI ws),none,none,none,none,none,none,none,none],[]⟩=_
 rw[iA]
 refine aU e3 (aU e4 (aU (bu (nJ (aI _) (by simp) rfl rfl) rfl) (aU e6 (aU ?_ (bI (mM (af rfl) hO rfl))))))
 refine(dk (ds:=dw 0 (cnt:Int)) (k:=none) (s1:=⟨keR ns b ws hd n w none none none none,[.lst []]⟩) (ie (n:=cnt) ?_ (by omega))).trans (el.trans (by rw[hs']))
 rw[<- hcnt]
 refine aH (aK (fU (af rfl) (aB _ _) (aB _ _) (by decide)) (aK (aB _ _) (aK (aB _ _) (eM (aH (af rfl) (aI _)) (yX _)) (da (fF (.inl (by decide))))) (kc _ _)) (eu ?_)) (aI _)
 split <;> decide
def oF(l:List (Str×Int))(g:Str)(a:Int):List (Str×Int):=if 0<a then l++[(g,a)] else l
theorem oE(h:Str)(l r:List (Str×Int)):sumOf h (l++r)=sumOf h l+sumOf h r:=by
 unfold sumOf
 rw[List.filter_append,List.map_append,List.sum_append]
theorem Df(h:Str)(l:List (Str×Int)):sumOf h l.reverse=sumOf h l:=by
 induction l with
 | nil=>rfl
 | cons p l ih=>
  rw[List.reverse_cons,oE,ih,show p::l=[p]++l from rfl,oE,Int.add_comm]
theorem wb(h g:Str)(a:Int):sumOf h [(g,a)]=if g=h then a else 0:=by
 unfold sumOf
 by_cases e:g=h
 ·rw[if_pos e,List.filter_cons_of_pos (by simpa using e)];simp
 ·rw[if_neg e,List.filter_cons_of_neg (by simpa using e)];rfl
theorem Du{h:Str}{l:List (Str×Int)}(e:∀p∈l,p.1≠h):sumOf h l=0:=by
 unfold sumOf
 rw[List.filter_eq_nil_iff.mpr (λp hp=>by simpa using e p hp)]
 rfl
theorem Bp{goods:List Str}(nd:goods.Nodup){i:Nat}(hi:i<goods.length){l:List (Str×Int)}(h:Pt goods i l)(a:Int):Pt goods (i+1) (oF l goods[i] a):=by
 unfold oF
 split
 ·exact h.more nd hi (by omega)
 ·exact h.same
theorem wm{goods:List Str}(nd:goods.Nodup){i:Nat}(hi:i<goods.length){l:List (Str×Int)}(h:Pt goods i l){a:Int}(ha:0<=a):sumOf goods[i] (oF l goods[i] a)=a:=by
 have z:sumOf goods[i] l=0:=Du λp hp e=>by
  have:=h.mem p hp
  rw[e] at this
  exact jD nd hi this
 unfold oF
 split
 ·rw[oE,z,wb,if_pos rfl,Int.zero_add]
 ·rw[z];omega
theorem uy{goods:List Str}(nd:goods.Nodup){i j:Nat}(hi:i<goods.length)(hj:j<i)(l:List (Str×Int))(a:Int):sumOf (goods[j]'(by omega)) (oF l goods[i] a)=sumOf (goods[j]'(by omega)) l:=by
 have ne:goods[i]≠goods[j]'(by omega):=λe=>by
  have:goods[j]'(by omega)∈goods.take i:=List.mem_of_getElem? (i:=j) (by rw[List.getElem?_take_of_lt hj,List.getElem?_eq_getElem (by omega)])
  exact jD nd hi (by rw[e];exact this)
 unfold oF
 split
 ·rw[oE,wb,if_neg ne,Int.add_zero]
 ·rfl
structure WkI(goods:List Str)(mv:List Int)(i:Nat)(us ms:List (Str×Int)):Prop where
 u:Pt goods i us
 m:Pt goods i ms
 s:∀j,(hj:j<goods.length)->j<i->sumOf goods[j] ms-sumOf goods[j] us=nth mv j
abbrev woR(A:List (List Int))(goods zs:List Str)(c:Int)(x5 x6 x7 x8 x9 x10 x11:Option D):List (Option D):=[some (vII A),some (sD goods),some (sD zs),some (.int c),some (.ptr 0),x5,x6,x7,x8,x9,x10,x11]
theorem Ce{O:ax}{l:List Str}{i:Nat}(h:i<l.length):ixD O (sD l) (.int (i:Int))=.ok (.str l[i]):=by
 refine o5 ?_
 rw[n4 (by simpa using h)]
 simp
theorem za{R:List (Option D)}{O:ax}{goods:List Str}{kk slot i:Nat}{l:List (Str×Int)}{me:EM}{a:Int}(hi:i<goods.length)(h1:R[1]? =some (some (sD goods)))(h9:R[9]? =some (some (.int (i:Int))))(hs:R[slot]? =some (some (.ptr kk)))(hO:O[kk]? =some (.lst (l.map pD)))(hl:l.length<=1000)(he:me ⟨R,O⟩=.ok (.int a,⟨R,O⟩)):
 ∃O',ifS (aZ (aj gtD me (ao (.int 0)))) (dR (kn (aa slot) (rO (ab (aj ixD (aa 1) (aa 9)) (ab me ak))))) bN ⟨R,O⟩=.next ⟨R,O'⟩/\O'[kk]? =some (.lst ((oF l goods[i] a).map pD))/\∀q,q≠kk->O'[q]? =O[q]? :=by
 have t:=iT (j:=0) he
 unfold oF
 by_cases h:0<a
 ·rw[if_pos h]
  refine⟨O.set kk (.lst (l.map pD++[pD (goods[i],a)])),jX t (decide_eq_true h) (cZ (oy (af hs) hO (BG (aH (aK (af h1) (af h9) (Ce hi)) (aH he (aI _))) (by simp)) hO (by simp;omega) rfl)),by rw[gK hO,List.map_append];rfl,λq hq=>cB λz=>hq z.symm⟩
 ·rw[if_neg h]
  exact⟨O,eN t (decide_eq_false h) (cR _),hO,λ_ _=>rfl⟩
theorem HZ{A:List (List Int)}{goods zs:List Str}{c v:Int}{k i ku km:Nat}{mv:List Int}{us ms:List (Str×Int)}{O:ax}{x11:Option D}(nd:goods.Nodup)(hi:i<goods.length)(hg:goods.length<=100)(hv:nth mv i=v)(hne:ku≠km)(h:WkI goods mv i us ms)(hu:O[ku]? =some (.lst (us.map pD)))(hm:O[km]? =some (.lst (ms.map pD))):
 ∃us' ms' O' y11,iy ⟨woR A goods zs c (some (.int (k:Int))) (some (vI mv)) (some (.ptr ku)) (some (.ptr km)) (some (.int (i:Int))) (some (.int v)) x11,O⟩=.next ⟨woR A goods zs c (some (.int (k:Int))) (some (vI mv)) (some (.ptr ku)) (some (.ptr km)) (some (.int (i:Int))) (some (.int v)) y11,O'⟩/\WkI goods mv (i+1) us' ms'/\O'[ku]? =some (.lst (us'.map pD))/\O'[km]? =some (.lst (ms'.map pD))/\∀q,q≠ku->q≠km->O'[q]? =O[q]? :=by
 have p0:=jr (c:=c+(k:Int)) (t:=70+(i:Int)) (m:=4) (by decide)
 have q0:=jr (c:=c+(k:Int)) (t:=80+(i:Int)) (m:=9) (by decide)
 have p1:=lu (c:=c+(k:Int)) (t:=70+(i:Int)) (m:=4) (by decide)
 have e11:setM 11 (aj di (aj gx (aO 3 aM (ab (aj bL (aa 3) (aa 5)) (ab (aj bL (ao (.int 70)) (aa 9)) (ab (ao (.int 4)) ak)))) (ao (.int 3))) (aj bL (ao (.int 1)) (aO 3 aM (ab (aj bL (aa 3) (aa 5)) (ab (aj bL (ao (.int 80)) (aa 9)) (ab (ao (.int 9)) ak)))))) ⟨woR A goods zs c (some (.int (k:Int))) (some (vI mv)) (some (.ptr ku)) (some (.ptr km)) (some (.int (i:Int))) (some (.int v)) x11,O⟩=.next ⟨woR A goods zs c (some (.int (k:Int))) (some (vI mv)) (some (.ptr ku)) (some (.ptr km)) (some (.int (i:Int))) (some (.int v)) (some (.int (cS (c+(k:Int)) (70+(i:Int)) 4/3*(1+cS (c+(k:Int)) (80+(i:Int)) 9)))),O⟩:=
  bu (aK (aK (fU (aK (af rfl) (af rfl) (cD _ _)) (aK (aB _ _) (af rfl) (cD _ _)) (aB _ _) (by decide)) (aB _ _) (sV (by decide) (by decide))) (aK (aB _ _) (fU (aK (af rfl) (af rfl) (cD _ _)) (aK (aB _ _) (af rfl) (cD _ _)) (aB _ _) (by decide)) (cD _ _)) (da (fF (.inl (by omega))))) rfl
 have m0:0<=cS (c+(k:Int)) (70+(i:Int)) 4/3*(1+cS (c+(k:Int)) (80+(i:Int)) 9):=Int.mul_nonneg (by omega) (by omega)
 generalize cS (c+(k:Int)) (70+(i:Int)) 4/3*(1+cS (c+(k:Int)) (80+(i:Int)) 9)=m at e11 m0
 have ul:=h.u.len
 have ml:=h.m.len
 obtain⟨O1,e1,g1,k1⟩:=za (R:=woR A goods zs c (some (.int (k:Int))) (some (vI mv)) (some (.ptr ku)) (some (.ptr km)) (some (.int (i:Int))) (some (.int v)) (some (.int m))) (slot:=7) (me:=aj bL (aa 11) (bC lU (ab (ao (.int 0)) (ab (unM kr (aa 10)) ak)))) (a:=m+max 0 (-v)) hi rfl rfl rfl hu (by omega) (aK (af rfl) (yT (aB _ _) (tQ (af rfl) (nM _))) (cD _ _))
 obtain⟨O2,e2,g2,k2⟩:=za (R:=woR A goods zs c (some (.int (k:Int))) (some (vI mv)) (some (.ptr ku)) (some (.ptr km)) (some (.int (i:Int))) (some (.int v)) (some (.int m))) (O:=O1) (slot:=8) (me:=aj bL (aa 11) (bC lU (ab (ao (.int 0)) (ab (aa 10) ak)))) (a:=m+max 0 v) (l:=ms) hi rfl rfl rfl (by rw[k1 _ hne.symm];exact hm) (by omega) (aK (af rfl) (yT (aB _ _) (af rfl)) (cD _ _))
 refine⟨oF us goods[i] (m+max 0 (-v)),oF ms goods[i] (m+max 0 v),O2,some (.int m), ?_,⟨Bp nd hi h.u _,Bp nd hi h.m _,λj hj hlt=> ?_⟩,by rw[k2 _ hne];exact g1,g2,λq h1 h2=>by rw[k2 q h2,k1 q h1]⟩
 ·rw[iy]
  exact aU e11 (aU e1 e2)
 ·by_cases e:j=i
  ·subst e
   rw[wm nd hi h.m (by omega),wm nd hi h.u (by omega),hv]
   omega
  ·rw[uy nd hi (by omega),uy nd hi (by omega)]
   exact h.s j hj (by omega)
theorem FW{m:EM}{s:S}{R:List (Option D)}{O:ax}{k:Nat}{ds:List D}(h:m s=.ok (.ptr k,⟨R,O⟩))(hc:O[k]? =some (.lst ds)):zc m s=.ok (.lst ds,⟨R,O.set k .dead⟩):=by
 rw[Bb,h,ai]
 dsimp only
 rw[jn hc]
theorem En{m:EM}{s s1:S}{ds:List D}(h:m s=.ok (.lst ds,s1)):zc m s=.ok (.lst ds,s1):=by
 rw[Bb,h,ai]
 rfl
structure Bt(goods:List Str)(w:Wk):Prop where
 us:jF goods w.us/\w.us.length<=100
 ms:jF goods w.ms/\w.ms.length<=100
theorem FD{A:List (List Int)}{goods zs:List Str}{c:Int}{k:Nat}{mv:List Int}{W:List Wk}{O:ax}{x7 x8 x9 x10 x11:Option D}(nd:goods.Nodup)(hg:goods.length<=100)(hk:k<zs.length)(hl:mv.length=goods.length)(wl:W.length<=1000)(hO:O[0]? =some (.lst (W.map wD))):
 ∃w O' y7 y8 y9 y10 y11,ix ⟨woR A goods zs c (some (.int (k:Int))) (some (vI mv)) x7 x8 x9 x10 x11,O⟩=.next ⟨woR A goods zs c (some (.int (k:Int))) (some (vI mv)) y7 y8 y9 y10 y11,O'⟩/\O'[0]? =some (.lst ((W++[w]).map wD))/\w.nm=zs[k]/\Bt goods w/\goods.map (chg w)=mv:=by
 have o0:0<O.length:=nU hO
 have e7:setM 7 (jc ak) ⟨woR A goods zs c (some (.int (k:Int))) (some (vI mv)) x7 x8 x9 x10 x11,O⟩=.next ⟨woR A goods zs c (some (.int (k:Int))) (some (vI mv)) (some (.ptr O.length)) x8 x9 x10 x11,O++[.lst []]⟩:=bu (nJ (aI _) (by simp) rfl rfl) rfl
 have e8:setM 8 (jc ak) ⟨woR A goods zs c (some (.int (k:Int))) (some (vI mv)) (some (.ptr O.length)) x8 x9 x10 x11,O++[.lst []]⟩=.next ⟨woR A goods zs c (some (.int (k:Int))) (some (vI mv)) (some (.ptr O.length)) (some (.ptr (O.length+1))) x9 x10 x11,O++[.lst []]++[.lst []]⟩:=bu (nJ (aI _) (by simp) (by simp) rfl) rfl
 have cu:(O++[Cell.lst []]++[Cell.lst []])[O.length]? =some (.lst (([]:List (Str×Int)).map pD)):=cy eZ
 have cm:(O++[Cell.lst []]++[Cell.lst []])[O.length+1]? =some (.lst (([]:List (Str×Int)).map pD)):=by
  have:=eZ (O:=O++[Cell.lst []]) (c:=Cell.lst [])
  rw[List.length_append] at this
  exact this
 have c0:(O++[Cell.lst []]++[Cell.lst []])[0]? =some (.lst (W.map wD)):=cy (cy hO)
 generalize O++[Cell.lst []]++[Cell.lst []]=O1 at e8 cu cm c0
 obtain⟨ku,hku⟩:∃ku,O.length=ku:=⟨_,rfl⟩
 rw[hku] at e7 e8 cu cm o0
 have hne:ku≠ku+1:=by omega
 obtain⟨s',el,us,ms,O2,x9',x10',x11',hw,hu,hm,h0,hs'⟩:=d4 (ok:=okC (dq (mv.map D.int)) none) (g:=cH (aQ (aA 9) (aQ (aA 10) cN)) 2) (body:=iy)
  (λpre s=>∃(us ms:List (Str×Int)) (O2:ax) (x9 x10 x11:Option D),WkI goods mv pre.length us ms/\O2[ku]? =some (.lst (us.map pD))/\O2[ku+1]? =some (.lst (ms.map pD))/\O2[0]? =some (.lst (W.map wD))/\s=⟨woR A goods zs c (some (.int (k:Int))) (some (vI mv)) (some (.ptr ku)) (some (.ptr (ku+1))) x9 x10 x11,O2⟩) (λ_ _ _=>trivial) (dq (mv.map D.int)) [] (by
   rintro pre d rest ed s ⟨us,ms,O2,x9,x10,x11,h1,h2,h3,h4,rfl⟩
   rw[List.nil_append,mC] at ed
   obtain⟨hlt,rfl⟩:=nE ed
   obtain⟨us',ms',O3,y11,eb,h1',h2',h3',h4'⟩:=HZ (A:=A) (goods:=goods) (zs:=zs) (c:=c) (v:=mv[pre.length]) (k:=k) (i:=pre.length) (ku:=ku) (km:=ku+1) (mv:=mv) (us:=us) (ms:=ms) (O:=O2) (x11:=x11) nd (by omega) hg (by
    unfold nth
    rw[List.getD_eq_getElem?_getD,List.getElem?_eq_getElem hlt];rfl) hne h1 h2 h3
   refine⟨_,_,by rw[nF];rfl,.inl eb,us',ms',O3,_,_,_, ?_,h2',h3',by rw[h4' 0 (by omega) (by omega)];exact h4,rfl⟩
   rw[List.length_append,List.length_singleton];exact h1') ⟨woR A goods zs c (some (.int (k:Int))) (some (vI mv)) (some (.ptr ku)) (some (.ptr (ku+1))) x9 x10 x11,O1⟩ ⟨[],[],O1,x9,x10,x11,⟨⟨by simp,by simp,by simp,by simp⟩,⟨by simp,by simp,by simp,by simp⟩,λj _ h=>absurd h (by simp)⟩,cu,cm,c0,rfl⟩
 rw[List.nil_append,show (dq (mv.map D.int)).length=goods.length by rw[mC];simp[hl]] at hw
 have hf:eG (dv (ab (aa 6) ak)) (cH (aQ (aA 9) (aQ (aA 10) cN)) 2) iy ⟨woR A goods zs c (some (.int (k:Int))) (some (vI mv)) (some (.ptr ku)) (some (.ptr (ku+1))) x9 x10 x11,O1⟩=.next ⟨woR A goods zs c (some (.int (k:Int))) (some (vI mv)) (some (.ptr ku)) (some (.ptr (ku+1))) x9' x10' x11',O2⟩:=by
  refine(dk (ds:=dq (mv.map D.int)) (k:=none) (s1:=⟨woR A goods zs c (some (.int (k:Int))) (some (vI mv)) (some (.ptr ku)) (some (.ptr (ku+1))) x9 x10 x11,O1⟩) ?_).trans (el.trans (by rw[hs']))
  rw[mJ,aH (af rfl) (aI _),ai]
 have chgs:∀us':List (Str×Int),(∀g,sumOf g us'=sumOf g us)->goods.map (chg ⟨zs[k],us',ms⟩)=mv:=λus' hs=>by
  refine List.ext_getElem (by simp[hl]) λj h1 h2=> ?_
  have hj:j<goods.length:=by simpa using h1
  rw[List.getElem_map]
  show sumOf goods[j] ms-sumOf goods[j] us'=_
  rw[hs,hw.s j hj hj]
  unfold nth
  rw[List.getD_eq_getElem?_getD,List.getElem?_eq_getElem h2];rfl
 have ulen:=hw.u.len
 have mlen:=hw.m.len
 have t:aZ (aj eqD (aO 3 aM (ab (aj bL (aa 3) (aa 5)) (ab (ao (.int 90)) (ab (ao (.int 2)) ak)))) (ao (.int 1))) ⟨woR A goods zs c (some (.int (k:Int))) (some (vI mv)) (some (.ptr ku)) (some (.ptr (ku+1))) x9' x10' x11',O2⟩=.ok (decide (cS (c+(k:Int)) 90 2=1),⟨woR A goods zs c (some (.int (k:Int))) (some (vI mv)) (some (.ptr ku)) (some (.ptr (ku+1))) x9' x10' x11',O2⟩):=eq_test (fU (aK (af rfl) (af rfl) (cD _ _)) (aB _ _) (aB _ _) (by decide))
 generalize cS (c+(k:Int)) 90 2=p at t
 by_cases hp:p=1
 ·have er:xP Cs (aa 7) iF iF (part (unM kr (ao (.int 1)))) ⟨woR A goods zs c (some (.int (k:Int))) (some (vI mv)) (some (.ptr ku)) (some (.ptr (ku+1))) x9' x10' x11',O2⟩=.ok (psD us.reverse,⟨woR A goods zs c (some (.int (k:Int))) (some (vI mv)) (some (.ptr ku)) (some (.ptr (ku+1))) x9' x10' x11',O2⟩):=by
   unfold xP
   rw[af (i:=7) rfl,ai]
   dsimp only
   rw[p8,ai]
   dsimp only
   rw[p8,ai]
   dsimp only
   rw[yR (tQ (aB _ _) (nM _)),ai]
   dsimp only
   rw[lM hu]
   dsimp only
   rw[if_neg (by decide),FF,<- List.map_reverse]
   rfl
  refine⟨⟨zs[k],us.reverse,ms⟩,(O2.set (ku+1) .dead).set 0 (.lst (W.map wD++[wD ⟨zs[k],us.reverse,ms⟩])),some (psD us.reverse),some (.ptr (ku+1)),x9',x10',x11', ?_,(by rw[List.map_append];exact gK (c':=.lst (W.map wD)) (by rw[cB (by omega)];exact h0)),rfl,⟨⟨hw.u.parts.rev,by simp;omega⟩,⟨hw.m.parts,by show ms.length<=100;omega⟩⟩,chgs _ λg=>Df g us⟩
  rw[ix]
  refine aU e7 (aU e8 (aU hf (aU (jX t (decide_eq_true hp) (bu (R':=woR A goods zs c (some (.int (k:Int))) (some (vI mv)) (some (psD us.reverse)) (some (.ptr (ku+1))) x9' x10' x11') er rfl)) (cZ (oy (af rfl) h0 (BG (aH (aK (af rfl) (af rfl) (Ce hk)) (aH (En (af rfl)) (aH (mM (af rfl) hm rfl) (aI _)))) (by simp)) (by rw[cB (by omega)];exact h0) (by simp;omega) rfl)))))
 ·refine⟨⟨zs[k],us,ms⟩,((O2.set ku .dead).set (ku+1) .dead).set 0 (.lst (W.map wD++[wD ⟨zs[k],us,ms⟩])),some (.ptr ku),some (.ptr (ku+1)),x9',x10',x11', ?_,(by rw[List.map_append];exact gK (c':=.lst (W.map wD)) (by rw[cB (by omega),cB (by omega)];exact h0)),rfl,⟨⟨hw.u.parts,by show us.length<=100;omega⟩,⟨hw.m.parts,by show ms.length<=100;omega⟩⟩,chgs _ λg=>rfl⟩
  rw[ix]
  refine aU e7 (aU e8 (aU hf (aU (eN t (decide_eq_false hp) (cR _)) (cZ (oy (af rfl) h0 (BG (aH (aK (af rfl) (af rfl) (Ce hk)) (aH (FW (af rfl) hu) (aH (mM (af rfl) (by rw[cB (by omega)];exact hm) rfl) (aI _)))) (by simp)) (by rw[cB (by omega),cB (by omega)];exact h0) (by simp;omega) rfl)))))
theorem D2{A:List (List Int)}{goods zs:List Str}(c:Int)(nd:goods.Nodup)(hg:goods.length<=100)(ha:∀l∈A,l.length=goods.length)(hz:A.length<=zs.length)(al:A.length<=100):
 ∃ws O,fE [vII A,sD goods,sD zs,.int c] []=.ok (wsD ws,O)/\ws.map (·.nm)=zs.take A.length/\(∀w∈ws,Bt goods w)/\ws.map (λw=>goods.map (chg w))=A:=by
 obtain⟨s',el,W,O,x5,x6,x7,x8,x9,x10,x11,h1,h2,h3,hO,hs'⟩:=d4 (ok:=okC (dq (A.map vI)) none) (g:=cH (aQ (aA 5) (aQ (aA 6) cN)) 2) (body:=ix)
  (λpre s=>∃(W:List Wk) (O:ax) (x5 x6 x7 x8 x9 x10 x11:Option D),W.map (·.nm)=zs.take pre.length/\(∀w∈W,Bt goods w)/\W.map (λw=>goods.map (chg w))=A.take pre.length/\O[0]? =some (.lst (W.map wD))/\s=⟨woR A goods zs c x5 x6 x7 x8 x9 x10 x11,O⟩) (λ_ _ _=>trivial) (dq (A.map vI)) [] (by
   rintro pre d rest ed s ⟨W,O,x5,x6,x7,x8,x9,x10,x11,h1,h2,h3,h4,rfl⟩
   rw[List.nil_append,mC] at ed
   obtain⟨hlt,rfl⟩:=nE ed
   have wl:W.length<=1000:=by
    have:=congrArg List.length h3
    simp at this
    omega
   obtain⟨w,O',y7,y8,y9,y10,y11,eb,h4',n1,mk,ch⟩:=FD (A:=A) (goods:=goods) (zs:=zs) (c:=c) (k:=pre.length) (mv:=A[pre.length]) (W:=W) (O:=O) (x7:=x7) (x8:=x8) (x9:=x9) (x10:=x10) (x11:=x11) nd hg (by omega) (ha _ (List.getElem_mem _)) wl h4
   refine⟨_,_,by rw[nF];rfl,.inl eb,W++[w],O',_,_,_,_,_,_,_, ?_,λz hz'=> ?_, ?_,h4',rfl⟩
   ·rw[List.length_append,List.length_singleton,List.map_append,h1,List.map_cons,List.map_nil,n1,List.take_add_one,List.getElem?_eq_getElem (by omega)];rfl
   ·rcases List.mem_append.mp hz' with q | q
    ·exact h2 z q
    ·rw[List.mem_singleton.mp q];exact mk
   ·rw[List.length_append,List.length_singleton,List.map_append,h3,List.map_cons,List.map_nil,ch,List.take_add_one,List.getElem?_eq_getElem hlt];rfl) ⟨woR A goods zs c none none none none none none none,[.lst []]⟩ ⟨[],[.lst []],none,none,none,none,none,none,none,by simp,by simp,by simp,rfl,rfl⟩
 have len:(([]:List D)++dq (A.map vI)).length=A.length:=by rw[List.nil_append,mC];simp
 rw[len] at h1 h3
 rw[List.take_length] at h3
 refine⟨W,O.set 0 .dead, ?_,h1,h2,h3⟩
 refine en (R:=woR A goods zs c x5 x6 x7 x8 x9 x10 x11) ?_
 show j4 ⟨[some (vII A),some (sD goods),some (sD zs),some (.int c),none,none,none,none,none,none,none,none],[]⟩=_
 rw[j4]
 refine aU (bu (R':=woR A goods zs c none none none none none none none) (nJ (aI _) (by simp) rfl rfl) rfl) (aU ?_ (bI (mM (af rfl) hO rfl)))
 refine(dk (ds:=dq (A.map vI)) (k:=none) (s1:=⟨woR A goods zs c none none none none none none none,[.lst []]⟩) ?_).trans (el.trans (by rw[hs']))
 rw[mJ,aH (af rfl) (aI _),ai];rfl
theorem E1{goods:List Str}{ws:List Wk}{f:Str}{d:D}{R:List (Option D)}{O:ax}{i:Nat}(h:R[i]? =some (some (yD goods ws)))(hd:pC f FN (yDs goods ws)=some d):qL 0 f (aa i) ⟨R,O⟩=.ok (d,⟨R,O⟩):=KY (af h) hd
theorem vP(goods:List Str)(ws:List Wk):aL [yD goods ws]=true:=by
 show (aL (yDs goods ws)&&true)=true
 rw[o3];rfl
theorem D9(goods:List Str)(ws:List Wk):jz [yD goods ws] []=.ok (sD goods,[]):=by
 refine en (R:=[some (yD goods ws)]) ?_
 show jk ⟨[some (yD goods ws)],[]⟩=_
 rw[jk]
 exact bI (eM (aH (E1 rfl rfl) (aI _)) (kG _))
theorem CP(goods:List Str){ws:List Wk}(h:ws.length<=1000):gT [yD goods ws] []=.ok (sD (ws.map (·.nm)),[]):=by
 refine en (R:=[some (yD goods ws)]) ?_
 show jv ⟨[some (yD goods ws)],[]⟩=_
 rw[jv]
 have e:=eX (l:=ws) (item:=wD) (out:=λw=>.str w.nm) (caps:=[]) (im:=listI (qL 0 "held_works" (aa 0))) (e:=aj ixD (aa 0) (ao (.int 0))) (k:=none) (s:=⟨[some (yD goods ws)],[]⟩) (by rw[fQ,E1 (i:=0) rfl rfl,ai];rfl) trivial (by omega) (λw _=>aK (af rfl) (aB _ _) rfl)
 rw[show ws.map (λw=>D.str w.nm)=(ws.map (·.nm)).map D.str by rw[List.map_map];rfl] at e
 exact bI e
abbrev chL(goods:List Str)(ws:List Wk):List (List Int):=ws.map λw=>goods.map (chg w)
theorem B3(goods:List Str){ws:List Wk}{k:Nat}(h:k<ws.length):gc [yD goods ws,.int (k:Int)] []=.ok (vI ((chL goods ws).getD k []),[]):=by
 refine en (R:=[some (yD goods ws),some (.int (k:Int))]) ?_
 show iw ⟨[some (yD goods ws),some (.int (k:Int))],[]⟩=_
 rw[iw]
 exact bI (eM (aH (aK (E1 rfl rfl) (af rfl) (D0 (R:=chL goods ws) (by simpa using h))) (aI _)) (kG _))
theorem range_getD{α:Type}(l:List α)(d:α):(List.range l.length).map (λi=>l.getD i d)=l:=by
 refine List.ext_getElem (by simp) λi h1 h2=> ?_
 simp[List.getD_eq_getElem?_getD,h2]
theorem CA(goods:List Str){ws:List Wk}(h:ws.length<=1000):mH [yD goods ws] []=.ok (vII (chL goods ws),[]):=by
 refine en (R:=[some (yD goods ws)]) ?_
 show mG ⟨[some (yD goods ws)],[]⟩=_
 rw[mG]
 have e:=eX (l:=List.range ws.length) (item:=λi:Nat=>D.int (i:Int)) (out:=λi=>vI ((chL goods ws).getD i [])) (caps:=[0]) (im:=ij (ab (bC dC (ab (methP 0 "names" 0 gT (aa 0) ak) ak)) ak)) (e:=methP 0 "change" 1 gc (aa 1) (ab (aa 0) ak)) (k:=none) (s:=⟨[some (yD goods ws)],[]⟩) (by
  rw[<- jT]
  refine ie (aH (eM (aH (va (ns:=FN) (ds:=yDs goods ws) (args:=[]) (af rfl) (aI _) (CP goods h) (by decide) (o3 _ _) rfl rfl (dm _)) (aI _)) ?_) (aI _)) (by omega)
  rw[jh];simp) trivial (by simp;omega) (λi hi=>va (ns:=FN) (ds:=yDs goods ws) (args:=[.int (i:Int)]) (af rfl) (aH (af rfl) (aI _)) (B3 goods (List.mem_range.mp hi)) (by decide) (o3 _ _) rfl rfl (by simp))
 rw[show (List.range ws.length).map (λi=>vI ((chL goods ws).getD i []))=(chL goods ws).map vI by
  have:=range_getD (chL goods ws) []
  rw[List.length_map] at this
  conv=>rhs;rw[<- this]
  rw[List.map_map];rfl] at e
 exact bI e
theorem mot(a b:Int):fN [.int a,.int b] []=.ok (.int (Int.gcd a b:Nat),[]):=C9 a b
theorem Cp(ns:List Int):kC [vI ns] []=.ok (.int (cM ns:Nat),[]):=by
 obtain⟨s',e,c,x,h1,h2⟩:=d4 (ok:=okC (ns.map D.int) none) (g:=aA 2) (body:=lZ)
  (λpre s=>∃(ms:List Int) (x:Option D),pre=ms.map D.int/\s=⟨[some (vI ns),some (.int (ms.foldl (λc n=>Nat.gcd c n.natAbs) 0:Nat)),x],[]⟩) (λ_ _ _=>trivial) (ns.map D.int) [] (by
   rintro pre d rest e s ⟨ms,x,rfl,rfl⟩
   have hd:d∈ns.map D.int:=by rw[List.nil_append] at e;rw[e];simp
   obtain⟨m,_,rfl⟩:=List.mem_map.mp hd
   refine⟨_,_,rfl,.inl ?_,ms++[m],some (.int m),by simp,rfl⟩
   simp[lZ,mot,Int.gcd]) ⟨[some (vI ns),some (.int 0),none],[]⟩ ⟨[],none,rfl,rfl⟩
 rw[List.nil_append] at h1
 have hc:c=ns:=(List.map_inj_right (λa b h=>by cases h;rfl)).mp h1.symm
 subst hc
 have hf:=dk (im:=listI (aa 0)) (g:=aA 2) (body:=lZ) (s:=⟨[some (vI c),some (.int 0),none],[]⟩) (ds:=c.map D.int) (k:=none) (s1:=⟨[some (vI c),some (.int 0),none],[]⟩) (by simp)
 rw[e] at hf
 have q:=dF (n:=3) (m:=kJ) (ds:=[vI c]) (O:=[]) (d:=.int (cM c:Nat)) (s:=s') (by
  show kJ ⟨[some (vI c),none,none],[]⟩=_
  rw[kJ,pf]
  rw[show setM 1 (ao (.int 0)) ⟨[some (vI c),none,none],[]⟩=.next ⟨[some (vI c),some (.int 0),none],[]⟩ by simp]
  rw[wa,pf,hf,wa,h2]
  simp[cM])
 rw[h2] at q
 exact q
theorem Jo{a b:List Int}(hl:a.length<=1000000)(hm:∀p∈a.zip b,IntMulOk p.1 p.2):dG [vI a,vI b] []=.ok (.int (aG a b),[]):=by
 have hz:(a.zip b).length<=1000000:=by rw[List.length_zip];omega
 have hc:=zj (l:=a.zip b) (f:=λp=>.int p.1) (g:=λp=>.int p.2) (out:=λp=>.int (p.1*p.2)) (caps:=[]) (im:=rB (ab (aa 0) (ab (aa 1) ak))) (e:=aj di (aa 0) (aa 1)) (k:=none) (s:=⟨[some (vI a),some (vI b)],[]⟩) (by simp[ot]) trivial (by omega) (λp hp=>by
  simp[da (hm p hp)])
 rw[show (a.zip b).map (λp=>D.int (p.1*p.2))=(List.zipWith (· * ·) a b).map D.int by rw[<- ID];simp] at hc
 refine dF (s:=⟨[some (vI a),some (vI b)],[]⟩) ?_
 show fA ⟨[some (vI a),some (vI b)],[]⟩=_
 rw[fA]
 refine bI ?_
 rw[jI,bb,hc,ai,aI,ai,ai]
 dsimp only
 rw[oA,ai]
 rfl
theorem Hn{n a:Nat}(ha:a<n)(hn:n<=1000000):∃O,oR [.int (a:Int),.int (n:Int)] []=.ok (vI (jH n a),O):=by
 have h1:=iL (i:=2) (Eq.trans (K0 (fin:=Cq) (mk:=aa 1) (s:=⟨[some (.int (a:Int)),some (.int (n:Int)),none],[]⟩) (n:=n) (by simp) hn) (HA _ _))
 have h2:kX (ao (.int 1)) (oQ (aa 2) (aa 0)) ⟨[some (.int (a:Int)),some (.int (n:Int)),some (.ptr 0)],[.lst ((List.replicate n (0:Int)).map D.int)]⟩=.next ⟨[some (.int (a:Int)),some (.int (n:Int)),some (.ptr 0)],[.lst ((jH n a).map D.int)]⟩:=by
  rw[AS,aB,ai,tm (k:=0) (a:=a) (ds:=(List.replicate n (0:Int)).map D.int) (s1:=⟨[some (.int (a:Int)),some (.int (n:Int)),some (.ptr 0)],[.lst ((List.replicate n (0:Int)).map D.int)]⟩) (s2:=⟨[some (.int (a:Int)),some (.int (n:Int)),some (.ptr 0)],[.lst ((List.replicate n (0:Int)).map D.int)]⟩) (by simp) (by simp) rfl (by simpa using ha)]
  simp[jH,List.map_set]
 refine nq ⟨⟨[some (.int (a:Int)),some (.int (n:Int)),some (.ptr 0)],[.dead]⟩, ?_⟩
 show qJ ⟨[some (.int (a:Int)),some (.int (n:Int)),none],[]⟩=_
 rw[qJ,cL h1]
 refine Eq.trans (cL h2) ?_
 simp
theorem De{n:Nat}(hn:n<=1000000):nk [.int (n:Int)] []=.ok (vII (dM n),[]):=by
 have hc:=eX (l:=List.range n) (item:=λi=>.int (i:Int)) (out:=λi=>vI (jH n i)) (caps:=[0]) (im:=ij (ab (aa 0) ak)) (e:=aO 2 oR (ab (aa 0) (ab (aa 1) ak))) (k:=none) (s:=⟨[some (.int (n:Int))],[]⟩) (by
  rw[ie (n:=n) (s1:=⟨[some (.int (n:Int))],[]⟩) (by simp) hn,jT]) trivial (rR (by rw[List.length_range];exact hn)) (λa ha=>by
  obtain⟨O,e⟩:=Hn (List.mem_range.mp ha) hn
  exact cq (ds:=[.int (a:Int),.int (n:Int)]) (by simp) (by simp) rfl e (by simp))
 refine dF (s:=⟨[some (.int (n:Int))],[]⟩) ?_
 show oS ⟨[some (.int (n:Int))],[]⟩=_
 rw[oS,bI hc]
 simp[dM]
theorem Dy(x:Option D)(L:D):∀(ns:List Int) (k0:Nat) (x1 x2:Option D),(bU ns=none->∃y1 y2,bS (okC (dq [L]) none) (cH (aQ (aA 1) (aQ (aA 2) cN)) 2) bV ((ns.zipIdx k0).map λp=>.tup [.int (p.2:Int),.int p.1]) ⟨[some L,x1,x2],[]⟩=.next ⟨[some L,y1,y2],[]⟩)/\
 ∀j,bU ns=some j->∃y1 y2,bS (okC (dq [L]) none) (cH (aQ (aA 1) (aQ (aA 2) cN)) 2) bV ((ns.zipIdx k0).map λp=>.tup [.int (p.2:Int),.int p.1]) ⟨[some L,x1,x2],[]⟩=.ret (.int ((k0+j:Nat):Int)) ⟨[some L,y1,y2],[]⟩
 | [],k0,x1,x2=>⟨λ_=>⟨x1,x2,by simp[bS]⟩,λj h=>by cases h⟩
 | n::ns,k0,x1,x2=>by
  have ih:=Dy x L ns (k0+1) (some (.int (k0:Int))) (some (.int n))
  rw[List.zipIdx_cons,List.map_cons,bS,if_pos (show okC (dq [L]) none _ from trivial)]
  have hg:cH (aQ (aA 1) (aQ (aA 2) cN)) 2 (.tup [.int (k0:Int),.int n]) ⟨[some L,x1,x2],[]⟩=.ok ⟨[some L,some (.int (k0:Int)),some (.int n)],[]⟩:=by simp
  rw[hg,gA]
  by_cases hn:n=0
  ·have hb:bV ⟨[some L,some (.int (k0:Int)),some (.int n)],[]⟩=.next ⟨[some L,some (.int (k0:Int)),some (.int n)],[]⟩:=by simp[bV,hn]
   rw[hb]
   dsimp only
   constructor
   ·intro h
    unfold bU at h
    rw[if_neg (by simpa using hn)] at h
    exact ih.1 (by simpa using h)
   ·intro j h
    unfold bU at h
    rw[if_neg (by simpa using hn)] at h
    cases e:bU ns with
    | none=>rw[e] at h;cases h
    | some i=>
     rw[e] at h
     have hj:j=i+1:=by simpa using h.symm
     subst hj
     obtain⟨y1,y2,e2⟩:=ih.2 i e
     exact⟨y1,y2,by rw[e2,show k0+1+i=k0+(i+1) by omega]⟩
  ·have hb:bV ⟨[some L,some (.int (k0:Int)),some (.int n)],[]⟩=.ret (.int (k0:Int)) ⟨[some L,some (.int (k0:Int)),some (.int n)],[]⟩:=by simp[bV,hn]
   rw[hb]
   dsimp only
   have hs:bU (n::ns)=some 0:=by unfold bU;rw[if_pos hn]
   rw[hs]
   refine⟨λh=>(by cases h),λj h=> ?_⟩
   have hj:j=0:=by simpa using h.symm
   subst hj
   exact⟨_,_,rfl⟩
def tX:Option Nat->D
 | none=>.non
 | some k=>.int (k:Int)
theorem C2(ns:List Int):cG [vI ns] []=.ok (tX (bU ns),[]):=by
 have hf:=dk (im:=dv (ab (aa 0) ak)) (g:=cH (aQ (aA 1) (aQ (aA 2) cN)) 2) (body:=bV) (s:=⟨[some (vI ns),none,none],[]⟩) (ds:=(ns.zipIdx 0).map λp=>.tup [.int (p.2:Int),.int p.1]) (k:=none) (s1:=⟨[some (vI ns),none,none],[]⟩) (by simp[ui])
 have go:=Dy none (vI ns) ns 0 none none
 cases e:bU ns with
 | none=>
  obtain⟨y1,y2,e1⟩:=go.1 e
  refine dF (s:=⟨[some (vI ns),y1,y2],[]⟩) ?_
  show cQ ⟨[some (vI ns),none,none],[]⟩=_
  rw[cQ,pf,hf]
  rw[show bS (okC ((ns.zipIdx 0).map λp=>D.tup [.int (p.2:Int),.int p.1]) none) (cH (aQ (aA 1) (aQ (aA 2) cN)) 2) bV ((ns.zipIdx 0).map λp=>.tup [.int (p.2:Int),.int p.1]) ⟨[some (vI ns),none,none],[]⟩=.next ⟨[some (vI ns),y1,y2],[]⟩ from e1]
  rfl
 | some k=>
  obtain⟨y1,y2,e1⟩:=go.2 k e
  refine dF (s:=⟨[some (vI ns),y1,y2],[]⟩) ?_
  show cQ ⟨[some (vI ns),none,none],[]⟩=_
  rw[cQ,pf,hf]
  rw[show bS (okC ((ns.zipIdx 0).map λp=>D.tup [.int (p.2:Int),.int p.1]) none) (cH (aQ (aA 1) (aQ (aA 2) cN)) 2) bV ((ns.zipIdx 0).map λp=>.tup [.int (p.2:Int),.int p.1]) ⟨[some (vI ns),none,none],[]⟩=.ret (.int ((0+k:Nat):Int)) ⟨[some (vI ns),y1,y2],[]⟩ from e1]
  rw[Nat.zero_add];rfl
theorem wN(ns:List Int)(hl:ns.length<=1000000):ik [vI ns] []=.ok (.ptr 0,[.lst ((low ns).map D.int)]):=by
 have e1:setM 1 (aO 1 kC (ab (aa 0) ak)) ⟨[some (vI ns),none],[]⟩=.next ⟨[some (vI ns),some (.int (cM ns:Nat))],[]⟩:=bu (cq (aH (af rfl) (aI _)) (kz _) rfl (Cp ns) (by simp)) rfl
 by_cases h:cM ns=0
 ·refine en (R:=[some (vI ns),some (.int (cM ns:Nat))]) ?_
  show ip ⟨[some (vI ns),none],[]⟩=_
  rw[ip]
  refine aU e1 (nV (jX (eq_test (af rfl)) (decide_eq_true (by omega)) (bI (Hd (af rfl) (C7 _ _) rfl ?_))))
  rw[show low ns=ns by unfold low;rw[if_pos h]]
  rfl
 ·have hc:=DI (l:=ns) (item:=D.int) (out:=λn=>.int (n/(cM ns:Int))) (caps:=[1]) (im:=listI (aa 0)) (e:=aj gx (aa 0) (aa 1)) (k:=none) (s:=⟨[some (vI ns),some (.int (cM ns:Nat))],[]⟩) (by simp) trivial (by omega) (λa _=>by
   simp[rN (show (cM ns:Int)≠0 by omega),tI (show (0:Int)<cM ns by omega)])
  refine en (R:=[some (vI ns),some (.int (cM ns:Nat))]) ?_
  show ip ⟨[some (vI ns),none],[]⟩=_
  rw[ip]
  refine aU e1 (aU (eN (eq_test (af rfl)) (decide_eq_false (by omega)) (cR _)) (bI (hc.trans ?_)))
  rw[show (low ns).map D.int=ns.map λn=>.int (n/(cM ns:Int)) by unfold low;rw[if_neg h,List.map_map];rfl]
  rfl
theorem wA{one other:List Int}{v w:Int}(hl:one.length<=1000000)(h1:∀a∈one,IntMulOk a w)(h2:∀b∈other,IntMulOk b v):gN [vI one,.int v,vI other,.int w] []=.ok (.ptr 0,[.lst ((dJ one v other w).map D.int)]):=by
 have hz:(one.zip other).length<=1000000:=by rw[List.length_zip];omega
 have hc:=zj (l:=one.zip other) (f:=λp=>.int p.1) (g:=λp=>.int p.2) (out:=λp=>.int (p.1*w-p.2*v)) (caps:=[1,3]) (im:=rB (ab (aa 0) (ab (aa 2) ak))) (e:=aj gO (aj di (aa 0) (aa 3)) (aj di (aa 1) (aa 2))) (k:=none) (s:=⟨[some (vI one),some (.int v),some (vI other),some (.int w),none],[]⟩) (by simp[ot]) trivial (by omega) (λp hp=>by
  have hp':=List.of_mem_zip hp
  simp[da (h1 p.1 hp'.1),da (h2 p.2 hp'.2)])
 rw[show (one.zip other).map (λp=>D.int (p.1*w-p.2*v))=(ko one v other w).map D.int by rw[ko,<- zip_map];simp] at hc
 have hll:(ko one v other w).length<=1000000:=by unfold ko;rw[List.length_zipWith];omega
 refine en (R:=[some (vI one),some (.int v),some (vI other),some (.int w),some (vI (ko one v other w))]) ?_
 show kl ⟨[some (vI one),some (.int v),some (vI other),some (.int w),none],[]⟩=_
 rw[kl]
 exact aU (iL hc) (bI (kA (aH (af rfl) (aI _)) (wN _ hll) (kz _) rfl (g7 _ _) (by
  simp only[List.map_cons,List.map_nil,List.nil_append,pj,mj]
  rfl)))
theorem o6{O:ax}{p a:Nat}{r:List Int}(h:O[p]? =some (.lst (r.map D.int)))(ha:a<r.length):ixD O (.ptr p) (.int (a:Int))=.ok (.int (nth r a)):=by
 refine yy h ?_
 rw[n4 (by simpa using ha)]
 simp[nth,List.getD_eq_getElem?_getD,List.getElem?_eq_getElem ha]
theorem Dp{O:ax}{l a:Nat}{L:List (Nat×List Int)}(hO:O[l]? =some (.lst (bt L)))(hs:Sto O L)(hl:L.length<=1000000)(ha:∀p∈L,a<p.2.length):lG [.ptr l,.int (a:Int)] O=.ok (vI ((L.map (·.2)).map (nth · a)),O):=by
 have hc:=eX (l:=L) (item:=λp=>.ptr p.1) (out:=λp=>.int (nth p.2 a)) (caps:=[1]) (im:=listI (aa 0)) (e:=aj ixD (aa 0) (aa 1)) (k:=some l) (s:=⟨[some (.ptr l),some (.int (a:Int))],O⟩) (jg (af rfl) hO) hO (by omega) (λp hp=>aK (af rfl) (af rfl) (o6 (hs p hp) (ha p hp)))
 refine en (R:=[some (.ptr l),some (.int (a:Int))]) ?_
 show n8 ⟨[some (.ptr l),some (.int (a:Int))],O⟩=_
 rw[n8,bI hc]
 simp[List.map_map,Function.comp_def]
theorem G5{O:ax}{p a:Nat}{r:List Int}(h:O[p]? =some (.lst (r.map D.int)))(ha:a<r.length)(hl:r.length<=1000000):∃q E,eD [.ptr p,.int (a:Int)] O=.ok (.ptr q,O++E)/\(O++E)[q]? =some (.lst ((fo r a).map D.int))/\(q=p\/O.length<=q):=by
 have t:aZ (aj gtD (aj ixD (aa 0) (aa 1)) (ao (.int 0))) ⟨[some (.ptr p),some (.int (a:Int))],O⟩=.ok (decide (0<nth r a),⟨[some (.ptr p),some (.int (a:Int))],O⟩):=iT (aK (af rfl) (af rfl) (o6 h ha))
 by_cases hp:0<nth r a
 ·refine⟨p,[], ?_,by rw[List.append_nil,h,show fo r a=r by unfold fo;rw[if_pos hp]],.inl rfl⟩
  rw[List.append_nil]
  refine en (R:=[some (.ptr p),some (.int (a:Int))]) ?_
  show dE ⟨[some (.ptr p),some (.int (a:Int))],O⟩=_
  rw[dE]
  exact nV (jX t (decide_eq_true hp) (bI (af rfl)))
 ·have hc:=DI (l:=r) (item:=D.int) (out:=λn=>.int (-n)) (caps:=[]) (im:=listI (aa 0)) (e:=unM kr (aa 0)) (k:=some p) (s:=⟨[some (.ptr p),some (.int (a:Int))],O⟩) (jg (af rfl) h) h (by omega) (λn _=>tQ (af rfl) (nM _))
  refine⟨O.length,[.lst (r.map λn=>.int (-n))], ?_, ?_,.inr (Nat.le_refl _)⟩
  ·refine en (R:=[some (.ptr p),some (.int (a:Int))]) ?_
   show dE ⟨[some (.ptr p),some (.int (a:Int))],O⟩=_
   rw[dE]
   exact aU (eN t (decide_eq_false hp) (cR _)) (bI hc)
  ·rw[eZ,show fo r a=r.map (- ·) by unfold fo;rw[if_neg hp],List.map_map];rfl
theorem B8{O:ax}{p q a:Nat}{r lead:List Int}(h1:O[p]? =some (.lst (r.map D.int)))(h2:O[q]? =some (.lst (lead.map D.int)))(ha1:a<r.length)(ha2:a<lead.length)(hl:r.length<=1000000)(hm1:∀x∈r,IntMulOk x (nth lead a))(hm2:∀y∈lead,IntMulOk y (nth r a)):
 ∃z E,fH [.ptr p,.ptr q,.int (a:Int)] O=.ok (.ptr z,O++E)/\(O++E)[z]? =some (.lst ((dX lead a r).map D.int))/\(z=p\/O.length<=z):=by
 have t:aZ (aj eqD (aj ixD (aa 0) (aa 2)) (ao (.int 0))) ⟨[some (.ptr p),some (.ptr q),some (.int (a:Int))],O⟩=.ok (decide (nth r a=0),⟨[some (.ptr p),some (.ptr q),some (.int (a:Int))],O⟩):=eq_test (aK (af rfl) (af rfl) (o6 h1 ha1))
 by_cases hp:nth r a=0
 ·refine⟨p,[], ?_,by rw[List.append_nil,h1,show dX lead a r=r by unfold dX;rw[if_pos hp]],.inl rfl⟩
  rw[List.append_nil]
  refine en (R:=[some (.ptr p),some (.ptr q),some (.int (a:Int))]) ?_
  show ib ⟨[some (.ptr p),some (.ptr q),some (.int (a:Int))],O⟩=_
  rw[ib]
  exact nV (jX t (decide_eq_true hp) (bI (af rfl)))
 ·refine⟨O.length,[.lst ((dJ r (nth r a) lead (nth lead a)).map D.int)], ?_, ?_,.inr (Nat.le_refl _)⟩
  ·refine en (R:=[some (.ptr p),some (.ptr q),some (.int (a:Int))]) ?_
   show ib ⟨[some (.ptr p),some (.ptr q),some (.int (a:Int))],O⟩=_
   rw[ib]
   refine aU (eN t (decide_eq_false hp) (cR _)) (bI (Bj (rs:=[vI r,.int (nth r a),vI lead,.int (nth lead a)]) (aH (af rfl) (aH (aK (af rfl) (af rfl) (o6 h1 ha1)) (aH (af rfl) (aH (aK (af rfl) (af rfl) (o6 h2 ha2)) (aI _))))) ?_ (wA hl hm1 hm2) (by simp) rfl rfl ?_ (g7 _ _) ?_))
   ·simp[ph h1,ph h2]
   ·simp[um,qg]
   ·simp
  ·rw[eZ,show dX lead a r=dJ r (nth r a) lead (nth lead a) by unfold dX;rw[if_neg hp]]
theorem Cv(L:List (Nat×List Int))(k:Nat):(L.eraseIdx k).map (·.2)=(L.map (·.2)).eraseIdx k:=(qE _ _ _).symm
theorem Ak {n a b l d:Nat} {L Q:List (Nat×List Int)} {O:ax} {x5 x6:Option D} {X:D} (hl:O[l]? =some (.lst (bt L))) (hd:O[d]? =some (.lst (bt Q))) (hne:l≠d) (sL:Sto O L) (sQ:Sto O Q) (nL:∀p∈L,p.1≠l/\p.1≠d) (nQ:∀p∈Q,p.1≠l/\p.1≠d)
 (ll:∀r∈L.map (·.2),r.length=n) (dl:∀r∈Q.map (·.2),r.length=n) (ha:a<n) (hn:n<=1000) (c1:L.length<=1000) (c2:Q.length<=1000) (s1:eE b (L.map (·.2))) (s2:eE b (Q.map (·.2))) (hb:b<=60000000):
 ∃O' l' d' L' Q' y5 y6,jl ⟨[some X,some (.int (n:Int)),some (.ptr l),some (.ptr d),some (.int (a:Int)),x5,x6],O⟩=.next ⟨[some X,some (.int (n:Int)),some (.ptr l'),some (.ptr d'),some (.int (a:Int)),y5,y6],O'⟩/\
  O'[l']? =some (.lst (bt L'))/\O'[d']? =some (.lst (bt Q'))/\l'≠d'/\Sto O' L'/\Sto O' Q'/\(∀p∈L',p.1≠l'/\p.1≠d')/\(∀p∈Q',p.1≠l'/\p.1≠d')/\L'.map (·.2)=(cT (L.map (·.2),Q.map (·.2)) a).1/\Q'.map (·.2)=(cT (L.map (·.2),Q.map (·.2)) a).2:=by
 have mem2:∀{M:List (Nat×List Int)} {p:Nat×List Int},p∈M->p.2∈M.map (·.2):=λh=>List.mem_map.mpr ⟨_,h,rfl⟩
 have hcol:=Dp (a:=a) hl sL (by omega) λp hp=>by rw[ll _ (mem2 hp)];exact ha
 have e5:setM 5 (aO 1 cG (ab (jY 2 lG (ab (aa 2) (ab (aa 4) ak))) ak)) ⟨[some X,some (.int (n:Int)),some (.ptr l),some (.ptr d),some (.int (a:Int)),x5,x6],O⟩=.next ⟨[some X,some (.int (n:Int)),some (.ptr l),some (.ptr d),some (.int (a:Int)),some (tX (bU ((L.map (·.2)).map (nth · a)))),x6],O⟩:=
  bu (cq (aH (u7 (aH (af rfl) (aH (af rfl) (aI _))) hcol rfl) (aI _)) (kz _) rfl (C2 _) (by cases bU ((L.map (·.2)).map (nth · a)) <;> simp[tX])) rfl
 unfold cT
 dsimp only
 cases e:bU ((L.map (·.2)).map (nth · a)) with
 | none=>
  rw[e] at e5
  refine⟨O,l,d,L,Q,some .non,x6, ?_,hl,hd,hne,sL,sQ,nL,nQ,rfl,rfl⟩
  rw[jl]
  exact aU e5 (eN (fB (aK (af rfl) (aB _ _) (BH _))) rfl (cR _))
 | some k=>
  rw[e] at e5
  obtain⟨k1,k2,_⟩:=eU e
  rw[List.length_map,List.length_map] at k1
  obtain⟨p,row,hpr⟩:∃p row,L[k]=(p,row):=⟨_,_,rfl⟩
  have hmem:(p,row)∈L:=hpr▸List.getElem_mem k1
  have hrow:(L.map (·.2)).getD k []=row:=by simp[List.getD_eq_getElem?_getD,List.getElem?_eq_getElem k1,hpr]
  have hpt:(bt L)[k]'(by simpa using k1)=.ptr p:=by simp[hpr]
  have hers:(bt L).eraseIdx k=bt (L.eraseIdx k):=qE _ _ _
  have rl:row.length=n:=ll row (mem2 hmem)
  have rs:SzL b row:=s1 row (mem2 hmem)
  have lead_len:(fo row a).length=n:=by rw[sU,rl]
  have lsz:SzL b (fo row a):=rs.sgn a
  dsimp only
  rw[hrow,<- Cv]
  have sL1:Sto O (L.eraseIdx k):=λq hq=>sL q (List.mem_of_mem_eraseIdx hq)
  have nL1:∀q∈L.eraseIdx k,q.1≠l/\q.1≠d:=λq hq=>nL q (List.mem_of_mem_eraseIdx hq)
  have ll1:∀r∈(L.eraseIdx k).map (·.2),r.length=n:=λr hr=>by
   obtain⟨q,hq,rfl⟩:=List.mem_map.mp hr
   exact ll _ (mem2 (List.mem_of_mem_eraseIdx hq))
  have sz1:eE b ((L.eraseIdx k).map (·.2)):=λr hr=>by
   obtain⟨q,hq,rfl⟩:=List.mem_map.mp hr
   exact s1 _ (mem2 (List.mem_of_mem_eraseIdx hq))
  have c1':(L.eraseIdx k).length<=1000:=by have:=List.length_eraseIdx_le L k;omega
  have hO1l:(O.set l (.lst (bt (L.eraseIdx k))))[l]? =some (.lst (bt (L.eraseIdx k))):=gK hl
  have hO1d:(O.set l (.lst (bt (L.eraseIdx k))))[d]? =some (.lst (bt Q)):=by rw[cB hne];exact hd
  have sL2:=sL1.set (k:=l) (λq hq=>(nL1 q hq).1) (.lst (bt (L.eraseIdx k)))
  have sQ2:=sQ.set (k:=l) (λq hq=>(nQ q hq).1) (.lst (bt (L.eraseIdx k)))
  have hp2:(O.set l (.lst (bt (L.eraseIdx k))))[p]? =some (.lst (row.map D.int)):=by rw[cB λz=>(nL _ hmem).1 z.symm];exact sL _ hmem
  have hpop:=Hg (mo:=aa 2) (me:=aa 5) (s:=⟨[some X,some (.int (n:Int)),some (.ptr l),some (.ptr d),some (.int (a:Int)),some (.int (k:Int)),x6],O⟩) (s1:=⟨[some X,some (.int (n:Int)),some (.ptr l),some (.ptr d),some (.int (a:Int)),some (.int (k:Int)),x6],O⟩) (s2:=⟨[some X,some (.int (n:Int)),some (.ptr l),some (.ptr d),some (.int (a:Int)),some (.int (k:Int)),x6],O⟩) (k:=l) (i:=k) (af rfl) hl (af rfl) hl (by simpa using k1) (by omega)
  rw[hpt,hers] at hpop
  have hll:=nU hl
  have hdl:=nU hd
  have hO1n:(O.set l (.lst (bt (L.eraseIdx k)))).length=O.length:=List.length_set
  dsimp only at hpop
  generalize O.set l (.lst (bt (L.eraseIdx k)))=O1 at *
  obtain⟨q,E,eS,hq,hqw⟩:=G5 (a:=a) hp2 (by omega) (by omega)
  have hpl:p<O.length:=sL.lt hmem
  have q1:q<(O1++E).length:=nU hq
  have qne:q≠l/\q≠d:=by
   rcases hqw with rfl | z
   ·exact nL _ hmem
   ·omega
  have e6:setM 6 (jY 2 eD (ab (zC (aa 2) (aa 5)) (ab (aa 4) ak))) ⟨[some X,some (.int (n:Int)),some (.ptr l),some (.ptr d),some (.int (a:Int)),some (.int (k:Int)),x6],O⟩=.next ⟨[some X,some (.int (n:Int)),some (.ptr l),some (.ptr d),some (.int (a:Int)),some (.int (k:Int)),some (.ptr q)],O1++E⟩:=
   bu (u7 (aH hpop (aH (af rfl) (aI _))) eS rfl) rfl
  have hO2l:=cy (E:=E) hO1l
  have hO2d:=cy (E:=E) hO1d
  have sL3:=sL2.app E
  have sQ3:=sQ2.app E
  have hO2n:O.length<=(O1++E).length:=by rw[List.length_append];omega
  generalize O1++E=O2 at *
  generalize hlead:fo row a=lead at *
  have clr:∀(R:List (Option D)) (z:Nat×List Int) (O:ax),z.2.length=n->SzL b z.2->O[z.1]? =some (.lst (z.2.map D.int))->O[q]? =some (.lst (lead.map D.int))->R=[some (.int (a:Int)),some (.ptr q)]->∃y E,jY 3 fH (ab (aa 0) (ab (aa 2) (ab (aa 1) ak))) ⟨some (.ptr z.1)::R,O⟩=.ok (.ptr y,⟨some (.ptr z.1)::R,O++E⟩)/\(O++E)[y]? =some (.lst ((dX lead a z.2).map D.int))/\(y=z.1\/O.length<=y):=by
   rintro _ z O zl zs h1 h2 rfl
   obtain⟨y,E,ec,g1,g2⟩:=B8 (a:=a) h1 h2 (by omega) (by omega) (by omega) (λx hx=>yg hb (zs x hx) (lsz.nth a)) (λy hy=>yg hb (lsz y hy) (zs.nth a))
   exact⟨y,E,u7 (aH (af rfl) (aH (af rfl) (aH (af rfl) (aI _)))) ec rfl,g1,g2⟩
  obtain⟨L',E2,e2,m2,t2,w2⟩:=rq (l:=L.eraseIdx k) (item:=λp=>.ptr p.1) (f:=λp=>dX lead a p.2) (T:=λp z=>z=p.1) (caps:=[4,6]) (im:=listI (aa 2)) (e:=jY 3 fH (ab (aa 0) (ab (aa 2) (ab (aa 1) ak)))) (k:=some l) (R:=[some X,some (.int (n:Int)),some (.ptr l),some (.ptr d),some (.int (a:Int)),some (.int (k:Int)),some (.ptr q)]) (O:=O2)
   (λO=>O[l]? =some (.lst (bt (L.eraseIdx k)))/\Sto O (L.eraseIdx k)/\O[q]? =some (.lst (lead.map D.int))) (λO E h=>⟨cy h.1,h.2.1.app E,cy h.2.2⟩) ⟨hO2l,sL3,hq⟩ (jg (af rfl) hO2l) (λO h=>h.1) (by omega) (λz hz O h=>clr _ z O (ll1 _ (mem2 hz)) (sz1 _ (mem2 hz)) (h.2.1 z hz) h.2.2 rfl)
  have hO3d:=cy (E:=[.lst (bt L')]) (cy (E:=E2) hO2d)
  have hO3l:(O2++E2++[.lst (bt L')])[(O2++E2).length]? =some (.lst (bt L')):=eZ
  have hO3q:=cy (E:=[.lst (bt L')]) (cy (E:=E2) hq)
  have sQ4:=(sQ3.app E2).app [.lst (bt L')]
  have sL4:=t2.app [.lst (bt L')]
  have n1:O2.length<=(O2++E2).length:=by rw[List.length_append];omega
  have n2:(O2++E2++[Cell.lst (bt L')]).length=(O2++E2).length+1:=by rw[List.length_append];rfl
  have hL'lt:∀z∈L',z.1<(O2++E2).length:=λz hz=>t2.lt hz
  generalize (O2++E2).length=l' at *
  generalize O2++E2++[Cell.lst (bt L')]=O3 at *
  have w2':∀z∈L',z.1≠l/\z.1≠d:=λz hz=>by
   rcases w2 z hz with⟨y,hy,ez⟩ | ez
   ·rw[ez];exact nL1 y hy
   ·omega
  obtain⟨Q',E3,e3,m3,t3,w3⟩:=rq (l:=Q) (item:=λp=>.ptr p.1) (f:=λp=>dX lead a p.2) (T:=λp z=>z=p.1) (caps:=[4,6]) (im:=listI (aa 3)) (e:=jY 3 fH (ab (aa 0) (ab (aa 2) (ab (aa 1) ak)))) (k:=some d) (R:=[some X,some (.int (n:Int)),some (.ptr l'),some (.ptr d),some (.int (a:Int)),some (.int (k:Int)),some (.ptr q)]) (O:=O3)
   (λO=>O[d]? =some (.lst (bt Q))/\Sto O Q/\O[q]? =some (.lst (lead.map D.int))) (λO E h=>⟨cy h.1,h.2.1.app E,cy h.2.2⟩) ⟨hO3d,sQ4,hO3q⟩ (jg (af rfl) hO3d) (λO h=>h.1) (by omega) (λz hz O h=>clr _ z O (dl _ (mem2 hz)) (s2 _ (mem2 hz)) (h.2.1 z hz) h.2.2 rfl)
  have hO4l:=cy (E:=[.lst (bt Q')]) (cy (E:=E3) hO3l)
  have hO4d:(O3++E3++[.lst (bt Q')])[(O3++E3).length]? =some (.lst (bt Q')):=eZ
  have hO4q:=cy (E:=[.lst (bt Q')]) (cy (E:=E3) hO3q)
  have sQ5:=t3.app [.lst (bt Q')]
  have sL5:=(sL4.app E3).app [.lst (bt Q')]
  have n3:O3.length<=(O3++E3).length:=by rw[List.length_append];omega
  have hQ'lt:∀z∈Q',z.1<(O3++E3).length:=λz hz=>t3.lt hz
  generalize (O3++E3).length=d' at *
  generalize O3++E3++[Cell.lst (bt Q')]=O4 at *
  have w3':∀z∈Q',z.1≠l':=λz hz=>by
   rcases w3 z hz with⟨y,hy,ez⟩ | ez
   ·have:=sQ.lt hy
    omega
   ·omega
  have lq:Q'.length=Q.length:=by
   have:=congrArg List.length m3
   simpa using this
  refine⟨O4.set d' (.lst (bt Q'++[.ptr q])),l',d',L',Q'++[(q,lead)],some (.int (k:Int)),some (.ptr q), ?_, ?_, ?_,by omega, ?_, ?_, ?_, ?_, ?_, ?_⟩
  ·rw[jl]
   exact aU e5 (jX (fB (aK (af rfl) (aB _ _) (Cn _ _))) rfl (aU e6 (aU (bu e2 rfl) (aU (bu e3 rfl) (cZ (oy (af rfl) hO4d (af rfl) hO4d (by simp;omega) rfl))))))
  ·rw[cB (by omega)];exact hO4l
  ·rw[gK hO4d];simp
  ·exact sL5.set (λz hz=>by have:=hL'lt z hz;omega) _
  ·intro z hz
   rcases List.mem_append.mp hz with y | y
   ·exact(sQ5.set (k:=d') (λz hz=>by have:=hQ'lt z hz;omega) _) z y
   ·rw[List.mem_singleton.mp y]
    rw[cB (by omega)];exact hO4q
  ·intro z hz
   have:=hL'lt z hz
   omega
  ·intro z hz
   rcases List.mem_append.mp hz with y | y
   ·have:=hQ'lt z y
    exact⟨w3' z y,by omega⟩
   ·rw[List.mem_singleton.mp y]
    dsimp only
    omega
  ·rw[m2,List.map_map];rfl
  ·rw[List.map_append,m3,List.map_map];rfl
theorem ur{n b:Nat}{rows:List (List Int)}(hn:n<=1000)(hc:rows.length<=1000)(hl:∀r∈rows,r.length=n)(hs:eE b rows)(hb:grow b rows.length<=60000000):∃d O Q,jW [vII rows,.int (n:Int)] []=.ok (.ptr d,O)/\O[d]? =some (.lst (bt Q))/\Sto O Q/\(∀p∈Q,p.1≠d)/\Q.map (·.2)=bM rows n:=by
 obtain⟨L0,E0,e2,m0,t0,_⟩:=rq (l:=rows) (item:=vI) (f:=low) (T:=λ_ _=>False) (caps:=[]) (im:=listI (aa 0)) (e:=gE 1 ik (ab (aa 0) ak)) (k:=none) (R:=[some (vII rows),some (.int (n:Int)),none,none,none,none,none]) (O:=[]) (λ_=>True) (λ_ _ _=>trivial) trivial (by simp) (λ_ _=>trivial) (by omega) (λr hr O _=>by
  refine⟨O.length,[.lst ((low r).map D.int)],kA (aH (af rfl) (aI _)) (wN r (by rw[hl r hr];omega)) (kz _) rfl (g7 _ _) ?_,eZ,.inr (Nat.le_refl _)⟩
  simp)
 rw[List.nil_append] at e2 t0
 have e3:setM 3 (jc ak) ⟨[some (vII rows),some (.int (n:Int)),some (.ptr E0.length),none,none,none,none],E0++[.lst (bt L0)]⟩=.next ⟨[some (vII rows),some (.int (n:Int)),some (.ptr E0.length),some (.ptr (E0.length+1)),none,none,none],E0++[.lst (bt L0)]++[.lst []]⟩:=
  bu (nJ (aI _) (by decide) (by simp) rfl) rfl
 have loop:∀a,a<=n->∃(L Q:List (Nat×List Int)) (O:ax) (l d:Nat) (x4 x5 x6:Option D),PSz n b a rows (L.map (·.2)) (Q.map (·.2))/\O[l]? =some (.lst (bt L))/\O[d]? =some (.lst (bt Q))/\l≠d/\Sto O L/\Sto O Q/\(∀p∈L,p.1≠l/\p.1≠d)/\(∀p∈Q,p.1≠l/\p.1≠d)/\
  bS (okC (dw 0 (n:Int)) none) (aA 4) jl ((List.range n).map λ(i:Nat)=>D.int (i:Int)) ⟨[some (vII rows),some (.int (n:Int)),some (.ptr E0.length),some (.ptr (E0.length+1)),none,none,none],E0++[.lst (bt L0)]++[.lst []]⟩=
  bS (okC (dw 0 (n:Int)) none) (aA 4) jl (((List.range n).drop a).map λ(i:Nat)=>D.int (i:Int)) ⟨[some (vII rows),some (.int (n:Int)),some (.ptr l),some (.ptr d),x4,x5,x6],O⟩:=by
  intro a
  induction a with
  | zero=>
   intro _
   have st:=PSz.start hl hs
   rw[<- m0] at st
   refine⟨L0,[],_,E0.length,E0.length+1,none,none,none,st,cy eZ, ?_,by omega,(t0.app _).app _,(λp hp=>by cases hp),λp hp=> ?_,(λp hp=>by cases hp),rfl⟩
   ·have:(E0++[Cell.lst (bt L0)]).length=E0.length+1:=by simp
    rw[<- this];exact eZ
   ·have:=t0.lt hp
    omega
  | succ a ih=>
   intro ha
   obtain⟨L,Q,O,l,d,x4,x5,x6,P,h1,h2,hne,sL,sQ,nL,nQ,e⟩:=ih (by omega)
   have hcn:=P.cnt
   rw[List.length_map,List.length_map] at hcn
   have hb':grow b (Q.map (·.2)).length<=60000000:=Nat.le_trans (qG (by rw[List.length_map];omega)) hb
   obtain⟨O',l',d',L',Q',y5,y6,eb,q1,q2,q3,q4,q5,q6,q7,q8,q9⟩:=Ak (X:=vII rows) (x5:=x5) (x6:=x6) h1 h2 hne sL sQ nL nQ P.ll P.dl (show a<n by omega) hn (by omega) (by omega) P.ls P.ds hb'
   have P':=P.step hl (by omega)
   rw[<- q8,<- q9] at P'
   refine⟨L',Q',O',l',d',some (.int (a:Int)),y5,y6,P',q1,q2,q3,q4,q5,q6,q7, ?_⟩
   rw[e,List.drop_eq_getElem_cons (by rw[List.length_range];omega),List.map_cons,bS,if_pos (show okC _ none _ from trivial)]
   rw[List.getElem_range,tq,gA]
   rw[show (⟨List.set [some (vII rows),some (.int (n:Int)),some (.ptr l),some (.ptr d),x4,x5,x6] 4 (some (.int (a:Int))),O⟩:S)=⟨[some (vII rows),some (.int (n:Int)),some (.ptr l),some (.ptr d),some (.int (a:Int)),x5,x6],O⟩ from rfl,eb]
 obtain⟨L,Q,O,l,d,x4,x5,x6,P,h1,h2,hne,sL,sQ,nL,nQ,e⟩:=loop n (Nat.le_refl n)
 rw[List.drop_eq_nil_of_le (by simp),List.map_nil,bS,if_pos (show okC _ none _ from trivial)] at e
 have hf:=dk (im:=ij (ab (aa 1) ak)) (g:=aA 4) (body:=jl) (s:=⟨[some (vII rows),some (.int (n:Int)),some (.ptr E0.length),some (.ptr (E0.length+1)),none,none,none],E0++[.lst (bt L0)]++[.lst []]⟩) (ie (s1:=⟨[some (vII rows),some (.int (n:Int)),some (.ptr E0.length),some (.ptr (E0.length+1)),none,none,none],E0++[.lst (bt L0)]++[.lst []]⟩) (n:=n) (aH (af rfl) (aI _)) (by omega))
 rw[show dw 0 (n:Int)=(List.range n).map λ(i:Nat)=>D.int (i:Int) from jT n] at hf e
 rw[e] at hf
 refine⟨d,O,Q, ?_,h2,sQ,λp hp=>(nQ p hp).2,P.done.symm⟩
 refine en (R:=[some (vII rows),some (.int (n:Int)),some (.ptr l),some (.ptr d),x4,x5,x6]) ?_
 show lI ⟨[some (vII rows),some (.int (n:Int)),none,none,none,none,none],[]⟩=_
 rw[lI]
 exact aU (bu e2 rfl) (aU e3 (aU hf (bI (af rfl))))
theorem xK(A:List (List Int)){d:D}(h:cI d=true):aL [vII A,d]=true:=by
 rw[lQ,lQ,mI,mx,h]
 rfl
theorem rK{O:ax}:∀{L:List (Nat×List Int)},Sto O L->bA O (bt L)=(L.map (·.2)).map vI
 | [],_=>by simp
 | p::L,h=>by
  have e:=rK (L:=L) λq hq=>h q (List.mem_cons_of_mem _ hq)
  have hp:=h p List.mem_cons_self
  show bA O (.ptr p.1::bt L)=_
  rw[fG,e,ph hp]
  rfl
theorem zU{O:ax}{k:Nat}{L:List (Nat×List Int)}(hk:O[k]? =some (.lst (bt L)))(h:Sto O L):res O (res O (.ptr k))=vII (L.map (·.2)):=by
 rw[ph hk,ni,rK h]
theorem FK{O:ax}{L:List (Nat×List Int)}(h:Sto O L)(A:List (List Int)):eqD O (.lst (bt L)) (vII A)=.ok (.bl (decide (L.map (·.2)=A))):=by
 have e:eqB O (.lst (bt L)) (vII A)=eqB O (vII (L.map (·.2))) (vII A):=by
  show fO O _ _=fO O _ _
  unfold fO
  rw[ni,rK h]
  have q:res O (vII (L.map (·.2)))=vII (L.map (·.2)):=by rw[ni,vy]
  rw[q,q]
 unfold eqD
 rw[e,HH]
theorem AV(n:Nat):∀L:List (Nat×List Int),hU n (bt L)=bt (L.map λp=>(n+p.1,p.2))
 | []=>by simp[hU]
 | p::L=>by
  show hU n (.ptr p.1::bt L)=_
  unfold hU
  rw[AV n L,g7]
  rfl
theorem uR{O S:ax}{L:List (Nat×List Int)}(h:Sto O L):Sto (S++O.map (shC S.length)) (L.map λp=>(S.length+p.1,p.2)):=λq hq=>by
 obtain⟨p,hp,rfl⟩:=List.mem_map.mp hq
 dsimp only
 rw[List.getElem?_append_right (by omega),Nat.add_sub_cancel_left,List.getElem?_map,h p hp]
 simp
theorem oW{O S:ax}{k:Nat}{L:List (Nat×List Int)}(h:O[k]? =some (.lst (bt L))):(S++O.map (shC S.length))[S.length+k]? =some (.lst (bt (L.map λp=>(S.length+p.1,p.2)))):=by
 rw[List.getElem?_append_right (by omega),Nat.add_sub_cancel_left,List.getElem?_map,h]
 simp only[Option.map_some,pj,AV]
theorem B9{O:ax}{k:Nat}{r:List Int}(h:O[k]? =some (.lst (r.map D.int))):fV O [.ptr k]=.ok (vI r):=by
 unfold fV
 simp only[lM h]
theorem A5 {body:SM} {g:GM} (mk:Option D->ax->S) (hmk:∀x O,(mk x O).o=O) {d:Nat} {L:List (Nat×List Int)} (hd:∀p∈L,p.1≠d)
 (hg:∀y x O,g (.ptr y) (mk x O)=.ok (mk (some (.ptr y)) O)) (hb:∀y O xs,O[y]? =some (.lst xs)->xs.length<=1000000->body (mk (some (.ptr y)) O)=.next (mk (some (.ptr y)) (O.set y (.lst (xs++[.int 0]))))):
 ∀(rest:List (Nat×List Int)) (m:Nat) (x:Option D) (O:ax),(∀p∈rest,p∈L)->m+rest.length<=1000->O[d]? =some (.lst (bt L))->(∀p∈L,∃xs,O[p.1]? =some (.lst xs)/\xs.length<=1000+m)->
 ∃x' O',bS (okC (bt L) (some d)) g body (bt rest) (mk x O)=.next (mk x' O')/\O'[d]? =some (.lst (bt L))
 | [],m,x,O,_,_,h,_=>⟨x,O,by show bS _ _ _ [] _=_;rw[bS,if_pos (by rw[hmk];exact h)],h⟩
 | p::rest,m,x,O,hsub,hm,h,hc=>by
  have hp:=hsub p List.mem_cons_self
  obtain⟨xs,h1,h2⟩:=hc p hp
  rw[List.length_cons] at hm
  obtain⟨x',O',e,h3⟩:=A5 mk hmk hd hg hb rest (m+1) (some (.ptr p.1)) (O.set p.1 (.lst (xs++[.int 0]))) (λq hq=>hsub q (List.mem_cons_of_mem _ hq)) (by omega) (by rw[cB (hd p hp)];exact h) (λq hq=>by
   obtain⟨ys,g1,g2⟩:=hc q hq
   by_cases he:p.1=q.1
   ·rw[<- he,gK h1]
    exact⟨_,rfl,by simp;omega⟩
   ·rw[cB he]
    exact⟨ys,g1,by omega⟩)
  refine⟨x',O', ?_,h3⟩
  show bS _ _ _ (.ptr p.1::bt rest) _=_
  rw[bS,if_pos (by rw[hmk];exact h),hg,gA,hb _ _ _ h1 (by omega)]
  exact e
theorem G9{n b c:Nat}{lists:List (List Int)}{row:List Int}(hn:n<=1000)(hc:lists.length<=1000)(hr:row.length=n)(hl:∀l∈lists,l.length=n)(hs:eE b lists)(hrs:SzL c row)(hb:b+c+10<=60000000):∃O,dH [vII lists,vI row] []=.ok (vII (d7 lists row),O):=by
 have hdot:∀l∈lists,dG [vI row,vI l] []=.ok (.int (aG row l),[]):=λl h=>Jo (by omega) λp hp=>by
  have hp':=List.of_mem_zip hp
  exact jt (m:=c) (n:=b) (by omega) (by omega) (hrs _ hp'.1) (hs l h _ hp'.2)
 have e2:=iL (i:=2) (eX (l:=lists) (item:=vI) (out:=λl=>.int (aG row l)) (caps:=[1]) (im:=listI (aa 0)) (e:=aO 2 dG (ab (aa 1) (ab (aa 0) ak))) (k:=none) (s:=⟨[some (vII lists),some (vI row),none,none,none,none],[]⟩) (by simp) trivial (by omega) (λl h=>
  cq (ds:=[vI row,vI l]) (by simp) (by simp) rfl (hdot l h) (by simp)))
 rw[show lists.map (λl=>D.int (aG row l))=(lists.map (aG row)).map D.int by rw[List.map_map];rfl] at e2
 have e3:=iL (i:=3) (cq (n:=1) (f:=cG) (ma:=ab (aa 2) ak) (s:=⟨[some (vII lists),some (vI row),some (vI (lists.map (aG row))),none,none,none],[]⟩) (s':=⟨[some (vII lists),some (vI row),some (vI (lists.map (aG row))),none,none,none],[]⟩) (ds:=[vI (lists.map (aG row))]) (by
  rw[bb,af rfl];rfl) (kz _) rfl (C2 _) (by cases bU (lists.map (aG row)) <;> simp[tX]))
 have head:eH ⟨[some (vII lists),some (vI row),none,none,none,none],[]⟩=(aJ (ifS (aZ (aj isD (aa 3) (ao .non))) (bH (aa 0)) bN) (aJ (setM 4 (aj ixD (aa 0) (aa 3))) (aJ (setM 5 (aj ixD (aa 2) (aa 3))) (bH (cO 2 [4,5,3,2] (dv (ab (aa 0) ak)) (cH (aQ (aA 0) (aQ (aA 1) cN)) 2) (aZ (aj neD (aa 0) (aa 4))) (jx (p7 4 gN (ab (aa 1) (ab (aj ixD (aa 5) (aa 0)) (ab (aa 2) (ab (aa 3) ak)))))))))))
  ⟨[some (vII lists),some (vI row),some (vI (lists.map (aG row))),some (tX (bU (lists.map (aG row)))),none,none],[]⟩:=by
  rw[eH,cL e2]
  exact cL e3
 unfold d7
 cases e:bU (lists.map (aG row)) with
 | none=>
  rw[e] at head
  refine nq ⟨⟨[some (vII lists),some (vI row),some (vI (lists.map (aG row))),some .non,none,none],[]⟩, ?_⟩
  refine Eq.trans head (nV ?_)
  refine Eq.trans (BY (s':=⟨[some (vII lists),some (vI row),some (vI (lists.map (aG row))),some .non,none,none],[]⟩) (by simp[tX])) ?_
  exact bI (af rfl)
 | some k=>
  rw[e] at head
  obtain⟨k1,k2,_⟩:=eU e
  rw[List.length_map] at k1
  have hmem:lists.getD k []∈lists:=getD_mem k1
  have hval:nth (lists.map (aG row)) k=aG row (lists.getD k []):=by
   unfold nth
   simp only[List.getD_eq_getElem?_getD,List.getElem?_map,List.getElem?_eq_getElem k1]
   rfl
  have e4:=iL (i:=4) (m:=aj ixD (aa 0) (aa 3)) (s:=⟨[some (vII lists),some (vI row),some (vI (lists.map (aG row))),some (.int (k:Int)),none,none],[]⟩) (s':=⟨[some (vII lists),some (vI row),some (vI (lists.map (aG row))),some (.int (k:Int)),none,none],[]⟩) (d:=vI (lists.getD k [])) (by
   rw[d5,af rfl,ai,af rfl,ai,D0 k1];rfl)
  have e5:=iL (i:=5) (m:=aj ixD (aa 2) (aa 3)) (s:=⟨[some (vII lists),some (vI row),some (vI (lists.map (aG row))),some (.int (k:Int)),some (vI (lists.getD k [])),none],[]⟩) (s':=⟨[some (vII lists),some (vI row),some (vI (lists.map (aG row))),some (.int (k:Int)),some (vI (lists.getD k [])),none],[]⟩) (d:=.int (aG row (lists.getD k []))) (by
   rw[d5,af rfl,ai,af rfl,ai,mW (by simpa using k1),hval];rfl)
  generalize hbase:lists.getD k []=base at *
  have bl:=hl base hmem
  have bs:=hs base hmem
  have hdz:∀l∈lists,Sz (b+c+10) (aG row l):=λl h=>zE hrs (hs l h) (by rw[hr];exact hn)
  obtain⟨E,hcomp⟩:=BP (l:=lists.zipIdx) (f:=λp=>.int (p.2:Int)) (g:=λp=>vI p.1) (p:=λp=> !decide (p.2=k)) (out:=λp=>vI (dJ p.1 (aG row p.1) base (aG row base))) (caps:=[4,5,3,2]) (im:=dv (ab (aa 0) ak)) (c:=aZ (aj neD (aa 0) (aa 4))) (e:=jx (p7 4 gN (ab (aa 1) (ab (aj ixD (aa 5) (aa 0)) (ab (aa 2) (ab (aa 3) ak)))))) (k:=none) (R:=[some (vII lists),some (vI row),some (vI (lists.map (aG row))),some (.int (k:Int)),some (vI base),some (.int (aG row base))]) (O:=[]) (λ_=>True) (λ_ _ _=>trivial) trivial (by simp[E4]) (λ_ _=>trivial) (by simp;omega)
   (λp hp O _=>by
    have:((p.2:Int)=(k:Int))=(p.2=k):=propext ⟨λh=>by omega,λh=>by omega⟩
    simp[this])
   (λp hp _ O _=>by
    have hm:=List.mem_zipIdx hp
    have hp2:p.2<lists.length:=by omega
    have hp1:p.1=lists[p.2]:=by have:=hm.2.2;simpa using this
    have hpm:p.1∈lists:=by rw[hp1];exact List.getElem_mem _
    have hv:nth (lists.map (aG row)) p.2=aG row p.1:=by
     unfold nth
     simp only[List.getD_eq_getElem?_getD,List.getElem?_map,List.getElem?_eq_getElem hp2,hp1]
     rfl
    refine⟨[.dead],mM (k:=O.length+0) (Bj (aH (af rfl) (aH (aK (af rfl) (af rfl) (by rw[mW (by simpa using hp2),hv])) (aH (af rfl) (aH (af rfl) (aI _))))) ?_ (wA (one:=p.1) (v:=aG row p.1) (other:=base) (w:=aG row base) (by rw[hl p.1 hpm];omega) (λx hx=>jt (m:=b) (n:=b+c+10) (by omega) (by omega) (hs p.1 hpm x hx) (hdz base hmem)) (λx hx=>jt (m:=b) (n:=b+c+10) (by omega) (by omega) (bs x hx) (hdz p.1 hpm))) (by simp) rfl rfl ?_ (g7 _ _) rfl) ?_ ?_⟩
    ·simp
    ·simp[um,qg]
    ·rw[List.map_cons,List.map_nil,pj,mj]
     exact eZ
    ·rw[List.map_cons,List.map_nil,pj,mj]
     exact ET _ _ _)
  refine nq ⟨⟨[some (vII lists),some (vI row),some (vI (lists.map (aG row))),some (.int (k:Int)),some (vI base),some (.int (aG row base))],[]++E⟩, ?_⟩
  refine Eq.trans head ?_
  refine Eq.trans (cL (s':=⟨[some (vII lists),some (vI row),some (vI (lists.map (aG row))),some (.int (k:Int)),none,none],[]⟩) (Eq.trans (lS (s':=⟨[some (vII lists),some (vI row),some (vI (lists.map (aG row))),some (.int (k:Int)),none,none],[]⟩) (by simp[tX])) rfl)) ?_
  refine Eq.trans (cL e4) ?_
  refine Eq.trans (cL e5) ?_
  refine Eq.trans (bI hcomp) ?_
  dsimp only
  rw[hbase,yn lists k (λl=>vI (dJ l (aG row l) base (aG row base)))]
  show Out.ret (.lst _) _=Out.ret (.lst ((List.map _ _).map vI)) _
  rw[List.map_map]
  rfl
theorem Bx{n c:Nat}{rows:List (List Int)}(hn:n<=1000)(hc:rows.length<=1000)(hl:∀r∈rows,r.length=n)(hs:eE c rows)(hb:ka c n<=60000000):∃d O Q,o4 [vII rows,.int (n:Int)] []=.ok (.ptr d,O)/\O[d]? =some (.lst (bt Q))/\Sto O Q/\(∀p∈Q,p.1≠d)/\Q.map (·.2)=ba rows n:=by
 have e2:=iL (i:=2) (cq (n:=1) (f:=nk) (ma:=ab (aa 1) ak) (s:=⟨[some (vII rows),some (.int (n:Int)),none,none],[]⟩) (s':=⟨[some (vII rows),some (.int (n:Int)),none,none],[]⟩) (ds:=[.int (n:Int)]) (by rw[bb,af rfl];rfl) (by simp) rfl (De (by omega)) (by simp))
 obtain⟨s',e,R,lists,e0,x3,hR,hlen,P,h1⟩:=d4 (ok:=okC (rows.map vI) none) (g:=aA 3) (body:=oC)
  (λpre s=>∃(R lists:List (List Int)) (e:Nat) (x3:Option D),pre=R.map vI/\(∀r∈R,r∈rows)/\nX n c R lists e/\s=⟨[some (vII rows),some (.int (n:Int)),some (vII lists),x3],[]⟩) (λ_ _ _=>trivial) (rows.map vI) [] (by
   rintro pre d rest ed s ⟨R,lists,e,x3,rfl,hR,P,rfl⟩
   have hd:d∈rows.map vI:=by rw[List.nil_append] at ed;rw[ed];simp
   obtain⟨row,hrow,rfl⟩:=List.mem_map.mp hd
   have hcn:=P.cnt
   have hz:=KG (c:=c) (e:=e) (n:=n) (by omega)
   obtain⟨O,eo⟩:=G9 (b:=tk c e) (c:=c) hn (by omega) (hl row hrow) P.ll P.sz (hs row hrow) (by omega)
   obtain⟨e',P'⟩:=P.step (hl row hrow) (hs row hrow) hn
   refine⟨_,⟨[some (vII rows),some (.int (n:Int)),some (vII (d7 lists row)),some (vI row)],[]⟩,rfl,.inl ?_,R++[row],_,e',some (vI row),by simp, ?_,P',rfl⟩
   ·rw[oC]
    exact iL (i:=2) (cq (n:=2) (f:=dH) (ma:=ab (aa 2) (ab (aa 3) ak)) (s:=⟨[some (vII rows),some (.int (n:Int)),some (vII lists),some (vI row)],[]⟩) (s':=⟨[some (vII rows),some (.int (n:Int)),some (vII lists),some (vI row)],[]⟩) (ds:=[vII lists,vI row]) (by rw[bb,af rfl,ai,bb,af rfl];rfl) (by simp) rfl eo (by simp))
   ·intro r hr
    rcases List.mem_append.mp hr with q | q
    ·exact hR r q
    ·rw[List.mem_singleton.mp q];exact hrow) ⟨[some (vII rows),some (.int (n:Int)),some (vII (dM n)),none],[]⟩ ⟨[],dM n,0,none,rfl,by simp,nX.start n c,rfl⟩
 rw[List.nil_append] at hR
 have hRr:R=rows:=(List.map_inj_right (λa b h=>Jr h)).mp hR.symm
 subst hRr
 have hls:lists=kH R n:=P.eq.symm
 have hcn:=P.cnt
 obtain⟨d,O,Q,eo,hd,sQ,nQ,mQ⟩:=ur (n:=n) (b:=tk c e0) (rows:=lists) hn (by omega) P.ll P.sz (by
  refine Nat.le_trans ?_ hb
  rw[show lists.length=n-e0 by omega]
  exact A6 (by omega))
 have hf:=dk (im:=listI (aa 0)) (g:=aA 3) (body:=oC) (s:=⟨[some (vII R),some (.int (n:Int)),some (vII (dM n)),none],[]⟩) (ds:=R.map vI) (k:=none) (s1:=⟨[some (vII R),some (.int (n:Int)),some (vII (dM n)),none],[]⟩) (by simp)
 rw[e,h1] at hf
 have hd1:([]++O.map (shC 0))[0+d]? =some (.lst (bt (Q.map λp=>(0+p.1,p.2)))):=oW (S:=[]) hd
 have sQ1:Sto ([]++O.map (shC 0)) (Q.map λp=>(0+p.1,p.2)):=uR (S:=[]) sQ
 refine⟨0+d,[]++O.map (shC 0),Q.map λp=>(0+p.1,p.2), ?_,hd1,sQ1,λp hp=> ?_, ?_⟩
 ·refine en (R:=[some (vII R),some (.int (n:Int)),some (vII lists),x3]) ?_
  show pq ⟨[some (vII R),some (.int (n:Int)),none,none],[]⟩=_
  rw[pq,cL e2]
  refine Eq.trans (cL hf) ?_
  exact bI (kA (aH (af rfl) (aH (af rfl) (aI _))) eo (by simp) rfl (g7 _ _) rfl)
 ·obtain⟨q,hq,rfl⟩:=List.mem_map.mp hp
  have:=nQ q hq
  dsimp only
  omega
 ·rw[List.map_map,ba,<- hls]
  exact mQ
theorem vY:∀(n:Nat) (a b:Int) (L z x:Option D) (O:ax),0<=a->0<=b->b.natAbs<n->∃y,iM (aZ (aj gtD (aa 3) (ao (.int 0)))) jJ n ⟨[L,some (.int a),z,some (.int b),x],O⟩=.next ⟨[L,some (.int (Nat.gcd a.natAbs b.natAbs:Nat)),z,some (.int 0),y],O⟩
 | 0,_,_,_,_,_,_,_,_,h=>by omega
 | n+1,a,b,L,z,x,O,ha,hb,hn=>by
  have t:aZ (aj gtD (aa 3) (ao (.int 0))) ⟨[L,some (.int a),z,some (.int b),x],O⟩=.ok (decide (0<b),⟨[L,some (.int a),z,some (.int b),x],O⟩):=iT (af rfl)
  rw[iM,t,gA]
  by_cases h:b=0
  ·subst h
   refine⟨x, ?_⟩
   have e:((Nat.gcd a.natAbs (0:Int).natAbs:Nat):Int)=a:=by
    rw[Int.natAbs_zero,Nat.gcd_zero_right]
    omega
   rw[e]
   rfl
  ·have hb':0<b:=by omega
   have h1:0<=a%b:=Int.emod_nonneg a h
   have h2:a%b<b:=Int.emod_lt_of_pos a hb'
   obtain⟨y,e⟩:=vY n b (a%b) L z (some (.int (a%b))) O hb h1 (by omega)
   refine⟨y, ?_⟩
   have eb:jJ ⟨[L,some (.int a),z,some (.int b),x],O⟩=.next ⟨[L,some (.int b),z,some (.int (a%b)),some (.int (a%b))],O⟩:=by
    rw[jJ]
    exact aU (bu (aK (af rfl) (af rfl) (eu hb')) rfl) (aU (bu (af rfl) rfl) (bu (af rfl) rfl))
   rw[decide_eq_true hb',if_pos rfl,eb]
   dsimp only
   rw[e]
   have e2:(a%b).natAbs=a.natAbs%b.natAbs:=by
    have:((a%b).natAbs:Int)=((a.natAbs%b.natAbs:Nat):Int):=by
     rw[Int.natAbs_of_nonneg h1,Int.natCast_emod,Int.natAbs_of_nonneg ha,Int.natAbs_of_nonneg hb]
    omega
   rw[e2,show Nat.gcd a.natAbs b.natAbs=Nat.gcd b.natAbs (a.natAbs%b.natAbs) by rw[Nat.gcd_comm a.natAbs,Nat.gcd_rec b.natAbs,Nat.gcd_comm]]
theorem Jc(ns:List Int):jw [vI ns] []=.ok (.int (cM ns:Nat),[]):=by
 obtain⟨s',e,c,x,y,z,h1,h2⟩:=d4 (ok:=okC (ns.map D.int) none) (g:=aA 2) (body:=jR)
  (λpre s=>∃(ms:List Int) (x y z:Option D),pre=ms.map D.int/\s=⟨[some (vI ns),some (.int (ms.foldl (λc n=>Nat.gcd c n.natAbs) 0:Nat)),x,y,z],[]⟩) (λ_ _ _=>trivial) (ns.map D.int) [] (by
   rintro pre d rest e s ⟨ms,x,y,z,rfl,rfl⟩
   have hd:d∈ns.map D.int:=by rw[List.nil_append] at e;rw[e];simp
   obtain⟨m,_,rfl⟩:=List.mem_map.mp hd
   obtain⟨w,ew⟩:=vY ((m.natAbs:Int).natAbs+1) (ms.foldl (λc n=>Nat.gcd c n.natAbs) 0:Nat) (m.natAbs:Int) (some (vI ns)) (some (.int m)) z [] (by omega) (by omega) (by omega)
   refine⟨⟨[some (vI ns),some (.int (ms.foldl (λc n=>Nat.gcd c n.natAbs) 0:Nat)),some (.int m),y,z],[]⟩,⟨[some (vI ns),some (.int (Nat.gcd (ms.foldl (λc n=>Nat.gcd c n.natAbs) 0) m.natAbs:Nat)),some (.int m),some (.int 0),w],[]⟩,rfl,.inl ?_,ms++[m],some (.int m),some (.int 0),w,by simp,by rw[List.foldl_append];rfl⟩
   rw[jR]
   exact aU (bu (R:=[some (vI ns),some (.int (ms.foldl (λc n=>Nat.gcd c n.natAbs) 0:Nat)),some (.int m),y,z]) (O:=[]) (eM (aH (af rfl) (aI _)) (FG _)) rfl) (by exact ew)) ⟨[some (vI ns),some (.int 0),none,none,none],[]⟩ ⟨[],none,none,none,rfl,rfl⟩
 rw[List.nil_append] at h1
 have hc:c=ns:=(List.map_inj_right (λa b h=>by cases h;rfl)).mp h1.symm
 subst hc
 have hf:=dk (im:=listI (aa 0)) (g:=aA 2) (body:=jR) (s:=⟨[some (vI c),some (.int 0),none,none,none],[]⟩) (ds:=c.map D.int) (k:=none) (s1:=⟨[some (vI c),some (.int 0),none,none,none],[]⟩) (by simp)
 rw[e,h2] at hf
 refine en (R:=[some (vI c),some (.int (cM c:Nat)),x,y,z]) ?_
 show jf ⟨[some (vI c),none,none,none,none],[]⟩=_
 rw[jf]
 exact aU (bu (R':=[some (vI c),some (.int 0),none,none,none]) (aB _ _) rfl) (aU hf (bI (af rfl)))
theorem Bi(L:D):∀(ns:List Int) (k0 j:Nat) (x1 x2:Option D),bU ns=some j->∃y1 y2,bS (okC (dq [L]) none) (cH (aQ (aA 1) (aQ (aA 2) cN)) 2) eV ((ns.zipIdx k0).map λp=>.tup [.int (p.2:Int),.int p.1]) ⟨[some L,x1,x2],[]⟩=.ret (.int ((k0+j:Nat):Int)) ⟨[some L,y1,y2],[]⟩
 | [],k0,j,x1,x2,h=>by cases h
 | n::ns,k0,j,x1,x2,h=>by
  rw[List.zipIdx_cons,List.map_cons,bS,if_pos (show okC (dq [L]) none _ from trivial)]
  have hg:cH (aQ (aA 1) (aQ (aA 2) cN)) 2 (.tup [.int (k0:Int),.int n]) ⟨[some L,x1,x2],[]⟩=.ok ⟨[some L,some (.int (k0:Int)),some (.int n)],[]⟩:=by simp
  rw[hg,gA]
  have t:aZ (aj neD (aa 2) (ao (.int 0))) ⟨[some L,some (.int (k0:Int)),some (.int n)],[]⟩=.ok (!decide (n=0),⟨[some L,some (.int (k0:Int)),some (.int n)],[]⟩):=fB (aK (af rfl) (aB _ _) (ly _ _))
  by_cases hn:n=0
  ·have hb:eV ⟨[some L,some (.int (k0:Int)),some (.int n)],[]⟩=.next ⟨[some L,some (.int (k0:Int)),some (.int n)],[]⟩:=by
    rw[eV]
    exact eN t (by simp[hn]) (cR _)
   rw[hb]
   dsimp only
   unfold bU at h
   rw[if_neg (by simpa using hn)] at h
   cases e:bU ns with
   | none=>rw[e] at h;cases h
   | some i=>
    rw[e] at h
    have hj:j=i+1:=by simpa using h.symm
    subst hj
    obtain⟨y1,y2,e2⟩:=Bi L ns (k0+1) i (some (.int (k0:Int))) (some (.int n)) e
    exact⟨y1,y2,by rw[e2,show k0+1+i=k0+(i+1) by omega]⟩
  ·have hb:eV ⟨[some L,some (.int (k0:Int)),some (.int n)],[]⟩=.ret (.int (k0:Int)) ⟨[some L,some (.int (k0:Int)),some (.int n)],[]⟩:=by
    rw[eV]
    exact jX t (by simp[hn]) (bI (af rfl))
   rw[hb]
   dsimp only
   have hs:bU (n::ns)=some 0:=by unfold bU;rw[if_pos hn]
   rw[hs] at h
   have hj:j=0:=by simpa using h.symm
   subst hj
   exact⟨_,_,rfl⟩
theorem BJ{l:List Int}{k:Nat}(hk:k<l.length)(h0:nth l k≠0)(h:∀i,i<k->nth l i=0):bU l=some k:=by
 cases e:bU l with
 | none=>exact absurd (kY e _ (sf hk)) h0
 | some j=>
  obtain⟨h1,h2,h3⟩:=eU e
  rcases Nat.lt_trichotomy j k with q | q | q
  ·exact absurd (h j q) h2
  ·rw[q]
  ·exact absurd (h3 k q) h0
theorem AI{n:Nat}{p:Nat×List Int}(g:Good n p):fC [vI p.2] []=.ok (.int (p.1:Int),[]):=by
 have e:bU p.2=some p.1:=BJ (by rw[g.len];exact g.lt) (by have:=g.pos;omega) g.zero
 have hf:=dk (im:=dv (ab (aa 0) ak)) (g:=cH (aQ (aA 1) (aQ (aA 2) cN)) 2) (body:=eV) (s:=⟨[some (vI p.2),none,none],[]⟩) (ds:=(p.2.zipIdx 0).map λp=>.tup [.int (p.2:Int),.int p.1]) (k:=none) (s1:=⟨[some (vI p.2),none,none],[]⟩) (by simp[ui])
 obtain⟨y1,y2,e1⟩:=Bi (vI p.2) p.2 0 p.1 none none e
 refine dF (s:=⟨[some (vI p.2),y1,y2],[]⟩) ?_
 show il ⟨[some (vI p.2),none,none],[]⟩=_
 rw[il,pf,hf]
 rw[show bS (okC ((p.2.zipIdx 0).map λp=>D.tup [.int (p.2:Int),.int p.1]) none) (cH (aQ (aA 1) (aQ (aA 2) cN)) 2) eV ((p.2.zipIdx 0).map λp=>.tup [.int (p.2:Int),.int p.1]) ⟨[some (vI p.2),none,none],[]⟩=.ret (.int ((0+p.1:Nat):Int)) ⟨[some (vI p.2),y1,y2],[]⟩ from e1]
 rw[Nat.zero_add];rfl
theorem Cg{ts:List Int}{m:Nat}(h:ts.length=m)(hl:m<=1000):fm [vI ts,.int (m:Int)] []=.ok (.bl true,[]):=by
 have hc:=eX (l:=ts) (item:=D.int) (out:=λ_=>.bl true) (caps:=[]) (im:=listI (aa 0)) (e:=yj (unM (ir "int") (aa 0)) (zy (unM (ir "bool") (aa 0)))) (k:=none) (s:=⟨[some (vI ts),some (.int (m:Int))],[]⟩) (by simp) trivial (by omega) (λx _=>by simp)
 rw[show ts.map (λ_=>D.bl true)=(ts.map λ_=>true).map D.bl by rw[List.map_map];rfl] at hc
 refine en (R:=[some (vI ts),some (.int (m:Int))]) ?_
 show iI ⟨[some (vI ts),some (.int (m:Int))],[]⟩=_
 rw[iI]
 refine aU (eN (p:=(!true)|| !decide ((ts.length:Int)=(m:Int))) (Fo (uk (fB (tQ (af rfl) (AQ _ _)))) (fB (aK (eM (aH (af rfl) (aI _)) (by rw[jh,List.length_map])) (af rfl) (ly _ _)))) (by simp[h]) (cR _)) (bI (eM (aH hc (aI _)) ?_))
 rw[tY]
 simp
theorem GP{n:Nat}{P pre rest:List (Nat×List Int)}{p:Nat×List Int}(pl:Pl n P)(e:P=pre++p::rest){q:Nat×List Int}(hq:q∈pre):q.1<p.1:=by
 have:=pl.pw
 rw[e] at this
 exact((List.pairwise_append.mp this).2.2 q hq p List.mem_cons_self).1
theorem HC{n:Nat}{P pre rest:List (Nat×List Int)}{p:Nat×List Int}(pl:Pl n P)(e:P=pre++p::rest):(P.map (·.2)).filter (λr=> !decide (nth r p.1=0))=[p.2]:=by
 have hp:p∈P:=by rw[e];simp
 have h1:∀q∈pre,nth q.2 p.1=0:=λq hq=>pl.other (by rw[e];simp[hq]) hp (Nat.ne_of_lt (GP pl e hq))
 have h2:∀q∈rest,nth q.2 p.1=0:=λq hq=>pl.other (by rw[e];simp[hq]) hp (by
  have:=pl.pw
  rw[e] at this
  have:=((List.pairwise_cons.mp (List.pairwise_append.mp this).2.1).1 q hq).1
  omega)
 have h3:=(pl.good p hp).pos
 rw[e,List.map_append,List.map_cons,List.filter_append,List.filter_cons_of_pos (by simp;omega),List.filter_eq_nil_iff.mpr,List.filter_eq_nil_iff.mpr,List.nil_append]
 ·intro r hr
  obtain⟨q,hq,rfl⟩:=List.mem_map.mp hr
  simp[h2 q hq]
 ·intro r hr
  obtain⟨q,hq,rfl⟩:=List.mem_map.mp hr
  simp[h1 q hq]
theorem Ac{n:Nat}{P:List (Nat×List Int)}(pl:Pl n P)(hn:n<=1000)(hP:P.length<=1000):∃O,eI [vII (P.map (·.2)),.int (n:Int)] []=.ok (.bl true,O):=by
 have hc:=eX (l:=P.map (·.2)) (item:=vI) (out:=λ_=>.bl true) (caps:=[1]) (im:=listI (aa 0)) (e:=aO 2 fm (ab (aa 0) (ab (aa 1) ak))) (k:=none) (s:=⟨[some (vII (P.map (·.2))),some (.int (n:Int)),none,none,none],[]⟩) (by simp) trivial (by rw[List.length_map];omega) (λr hr=>by
  obtain⟨p,hp,rfl⟩:=List.mem_map.mp hr
  exact cq (aH (af rfl) (aH (af rfl) (aI _))) (by simp) rfl (Cg (pl.good p hp).len hn) (by simp))
 rw[show (P.map (·.2)).map (λ_=>D.bl true)=((P.map (·.2)).map λ_=>true).map D.bl by simp] at hc
 have e1:ifS (orT (kR (aZ (unM (ir "list") (aa 0)))) (kR (aZ (bC vq (ab (cO 1 [1] (listI (aa 0)) (aA 0) cE (aO 2 fm (ab (aa 0) (ab (aa 1) ak)))) ak))))) (bH (ao (.bl false))) bN ⟨[some (vII (P.map (·.2))),some (.int (n:Int)),none,none,none],[]⟩=.next ⟨[some (vII (P.map (·.2))),some (.int (n:Int)),none,none,none],[]⟩:=by
  refine eN (p:=(!true)||(!(((P.map (·.2)).map λ_=>true).all id))) (Fo (uk (fB (tQ (af rfl) (AQ _ _)))) (uk (fB (eM (aH hc (aI _)) (tY _ _))))) ?_ (cR _)
  simp
 have loop:∀(rest pre:List (Nat×List Int)),P=pre++rest->∀(last:Int) (x2 x4:Option D),(last= -1\/∃q∈pre,last=(q.1:Int))->∃(y2 y3 y4:Option D),bS (okC ((P.map (·.2)).map vI) none) (aA 2) fR ((rest.map (·.2)).map vI) ⟨[some (vII (P.map (·.2))),some (.int (n:Int)),x2,some (.int last),x4],[]⟩=.next ⟨[some (vII (P.map (·.2))),some (.int (n:Int)),y2,y3,y4],[]⟩:=by
  intro rest
  induction rest with
  | nil=>intro pre _ last x2 x4 _;exact⟨x2,some (.int last),x4,by rw[List.map_nil,List.map_nil,bS,if_pos (show okC _ none _ from trivial)]⟩
  | cons p rest ih=>
   intro pre eP last x2 x4 hlast
   have hp:p∈P:=by rw[eP];simp
   have g:=pl.good p hp
   obtain⟨y2,y3,y4,e⟩:=ih (pre++[p]) (by rw[eP];simp) (p.1:Int) (some (vI p.2)) (some (.int (p.1:Int))) (.inr ⟨p,by simp,rfl⟩)
   refine⟨y2,y3,y4, ?_⟩
   have a1:decide ((p.1:Int)<=last)=false:=decide_eq_false (by
    rcases hlast with rfl | ⟨q,hq,rfl⟩
    ·omega
    ·have:=GP pl eP hq
     omega)
   have a2:decide (nth p.2 p.1<1)=false:=decide_eq_false (by have:=g.pos;omega)
   have a3:(!decide (((cM p.2:Nat):Int)=1))=false:=by rw[g.one];rfl
   have hcp:=A7 (l:=P.map (·.2)) (item:=vI) (out:=vI) (p:=λr=> !decide (nth r p.1=0)) (caps:=[4]) (im:=listI (aa 0)) (c:=aZ (aj neD (aj ixD (aa 0) (aa 1)) (ao (.int 0)))) (e:=aa 0) (k:=none) (s:=⟨[some (vII (P.map (·.2))),some (.int (n:Int)),some (vI p.2),some (.int last),some (.int (p.1:Int))],[]⟩) (by simp) trivial (by rw[List.length_map];omega) (λr hr=>by
    obtain⟨q,hq,rfl⟩:=List.mem_map.mp hr
    exact fB (aK (aK (af rfl) (af rfl) (mW (by rw[(pl.good q hq).len];exact g.lt))) (aB _ _) (ly _ _))) (λ_ _ _=>af rfl)
   rw[HC pl eP] at hcp
   have eb:fR ⟨[some (vII (P.map (·.2))),some (.int (n:Int)),some (vI p.2),some (.int last),x4],[]⟩=.next ⟨[some (vII (P.map (·.2))),some (.int (n:Int)),some (vI p.2),some (.int (p.1:Int)),some (.int (p.1:Int))],[]⟩:=by
    rw[fR]
    refine aU (bu (R':=[some (vII (P.map (·.2))),some (.int (n:Int)),some (vI p.2),some (.int last),some (.int (p.1:Int))]) (cq (aH (af rfl) (aI _)) (kz _) rfl (AI g) (by simp)) rfl) ?_
    refine aU (eN (GI (fB (aK (af rfl) (af rfl) (HE _ _))) a1 (GI (fB (aK (aK (af rfl) (af rfl) (mW (by rw[g.len];exact g.lt))) (aB _ _) (u5 _ _))) a2 (fB (aK (cq (aH (af rfl) (aI _)) (kz _) rfl (Jc p.2) (by simp)) (aB _ _) (ly _ _))))) a3 (cR _)) ?_
    refine aU (eN (fB (aK (x:=.int 1) (eM (aH hcp (aI _)) (by rw[jh];simp)) (aB _ _) (ly _ _))) rfl (cR _)) ?_
    exact bu (af rfl) rfl
   rw[List.map_cons,List.map_cons]
   rw[bS,if_pos (show okC _ none _ from trivial),tq,gA]
   rw[show (⟨List.set [some (vII (P.map (·.2))),some (.int (n:Int)),x2,some (.int last),x4] 2 (some (vI p.2)),[]⟩:S)=⟨[some (vII (P.map (·.2))),some (.int (n:Int)),some (vI p.2),some (.int last),x4],[]⟩ from rfl,eb]
   exact e
 obtain⟨y2,y3,y4,ef⟩:=loop P [] rfl (-1) none none (.inl rfl)
 have hf:=dk (im:=listI (aa 0)) (g:=aA 2) (body:=fR) (s:=⟨[some (vII (P.map (·.2))),some (.int (n:Int)),none,some (.int (-1)),none],[]⟩) (ds:=(P.map (·.2)).map vI) (k:=none) (s1:=⟨[some (vII (P.map (·.2))),some (.int (n:Int)),none,some (.int (-1)),none],[]⟩) (by simp)
 rw[ef] at hf
 refine nq ⟨⟨[some (vII (P.map (·.2))),some (.int (n:Int)),y2,y3,y4],[]⟩, ?_⟩
 show gY ⟨[some (vII (P.map (·.2))),some (.int (n:Int)),none,none,none],[]⟩=_
 rw[gY]
 exact aU e1 (aU (bu (R':=[some (vII (P.map (·.2))),some (.int (n:Int)),none,some (.int (-1)),none]) (tQ (aB _ _) (nM _)) rfl) (aU hf (bI (aB _ _))))
theorem Dm{n:Nat}{R:List (List Int)}(hR:∀r∈R,r.length=n){x:Nat->Int}(hx:dU n R x):gQ n (ba R n) x:=by
 obtain⟨_,_,_,_,nul⟩:=ig hR
 refine(m5 (kU hR) x).mp ?_
 rw[oO hR]
 exact(nul x).mpr hx
theorem Hx{n:Nat}{P pre rest:List (Nat×List Int)}{p:Nat×List Int}(pl:Pl n P)(eP:P=pre++p::rest)(T:List Int):fX T (P.map (·.2)) p.1=nth T pre.length*nth p.2 p.1:=by
 subst eP
 unfold fX
 rw[je (k:=pre.length) (by simp) λj hj hne=> ?_]
 ·rw[show ((pre++p::rest).map (·.2)).getD pre.length []=p.2 by simp[List.getD_eq_getElem?_getD]]
 ·have hj':j<(pre++p::rest).length:=by simpa using hj
  have ep:(pre++p::rest)[pre.length]'(by simp)=p:=by simp
  rw[show ((pre++p::rest).map (·.2)).getD j []=((pre++p::rest)[j]).2 by rw[List.getD_eq_getElem?_getD,List.getElem?_map,List.getElem?_eq_getElem hj'];rfl]
  rw[pl.other (List.getElem_mem hj') (show p∈pre++p::rest by simp) ?_,Int.mul_zero]
  rcases Nat.lt_or_gt_of_ne hne with q | q
  ·have:=(List.pairwise_iff_getElem.mp pl.pw j pre.length hj' (by simp) q).1
   rw[ep] at this
   omega
  ·have:=(List.pairwise_iff_getElem.mp pl.pw pre.length j (by simp) hj' q).1
   rw[ep] at this
   omega
def upL(top:List Int)(b c:Int)(r:List Int):List Int:=(top.zip r).map λz=>z.1*b+c*z.2
theorem Iu{top r:List Int}{b c:Int}{i:Nat}(h1:i<top.length)(h2:i<r.length):nth (upL top b c r) i=nth top i*b+c*nth r i:=by
 have hz:i<(top.zip r).length:=by rw[List.length_zip];omega
 unfold upL nth
 rw[List.getD_eq_getElem?_getD,List.getElem?_map,List.getElem?_eq_getElem hz,List.getElem_zip]
 simp[List.getD_eq_getElem?_getD,h1,h2]
theorem GX{top r:List Int}{b c:Int}(h:r.length=top.length):(upL top b c r).length=top.length:=by
 unfold upL
 rw[List.length_map,List.length_zip,h,Nat.min_self]
abbrev coR(P:List (Nat×List Int))(ws top:List Int)(low:Int)(x4 x5:Option D):List (Option D):=[some (vII (P.map (·.2))),some (vI ws),some (vI top),some (.int low),x4,x5]
theorem uF{n:Nat}{ws:List Int}{P:List (Nat×List Int)}{k:Int}{T:List Int}(pl:Pl n P)(wl:ws.length=n)(hn:n<=1000)(hP:P.length<=10)(wz:SzL 40 ws)(pz:eE 100000 (P.map (·.2)))(hT:T.length=P.length)(hc:∀i,i<n->k*nth ws i=fX T (P.map (·.2)) i):∀(rest pre:List (Nat×List Int)) (top:List Int) (low:Int) (x4 x5:Option D),P=pre++rest->top.length=n->(∀i,i<n->k*nth top i=low*fX (T.take pre.length) (pre.map (·.2)) i)->Sz (200000*pre.length+1) low->SzL (200000*pre.length+1) top->
 ∃top' low' y4 y5,bS (okC ((P.map (·.2)).map vI) none) (aA 4) iE ((rest.map (·.2)).map vI) ⟨coR P ws top low x4 x5,[]⟩=.next ⟨coR P ws top' low' y4 y5,[]⟩/\top'.length=n/\(∀i,i<n->k*nth top' i=low'*fX T (P.map (·.2)) i)/\Sz 2000001 low'
 | [],pre,top,low,x4,x5,eP,tl,hi,lz,tz=>by
  rw[List.append_nil] at eP
  subst eP
  refine⟨top,low,x4,x5,by rw[List.map_nil,List.map_nil,bS,if_pos (show okC _ none _ from trivial)],tl,λi h=> ?_,lz.mono (by omega)⟩
  have:=hi i h
  rwa [List.take_of_length_le (by omega)] at this
 | p::rest,pre,top,low,x4,x5,eP,tl,hi,lz,tz=>by
  have hp:p∈P:=by rw[eP];simp
  have g:=pl.good p hp
  have plen:pre.length<P.length:=by rw[eP];simp
  have az:Sz 40 (nth ws p.1):=wz.nth _
  have rz:SzL 100000 p.2:=pz _ (List.mem_map.mpr ⟨p,hp,rfl⟩)
  have bz:Sz 100000 (nth p.2 p.1):=rz.nth _
  have cz:Sz (40+(200000*pre.length+1)) (nth ws p.1*low):=Sz.mul az lz
  have key:k*nth ws p.1=nth T pre.length*nth p.2 p.1:=by rw[hc _ g.lt,Hx pl eP]
  have e5:setM 5 (aO 1 fC (ab (aa 4) ak)) ⟨coR P ws top low (some (vI p.2)) x5,[]⟩=.next ⟨coR P ws top low (some (vI p.2)) (some (.int (p.1:Int))),[]⟩:=bu (cq (aH (af rfl) (aI _)) (kz _) rfl (AI g) (by simp)) rfl
  have ec:=zj (l:=top.zip p.2) (f:=λz=>.int z.1) (g:=λz=>.int z.2) (out:=λz=>.int (z.1*nth p.2 p.1+nth ws p.1*low*z.2)) (caps:=[5,4,3,1]) (im:=rB (ab (aa 2) (ab (aa 4) ak))) (e:=aj bL (aj di (aa 0) (aj ixD (aa 3) (aa 2))) (aj di (aj di (aj ixD (aa 5) (aa 2)) (aa 4)) (aa 1))) (k:=none) (s:=⟨coR P ws top low (some (vI p.2)) (some (.int (p.1:Int))),[]⟩) (by simp[ot]) trivial (by rw[List.length_zip];omega) (λz hz=>by
   have hz':=List.of_mem_zip (a:=z.1) (b:=z.2) hz
   exact aK (aK (af rfl) (aK (af rfl) (af rfl) (mW (by rw[g.len];exact g.lt))) (da (jt (m:=200000*pre.length+1) (n:=100000) (by omega) (by decide) (tz _ hz'.1) bz))) (aK (aK (aK (af rfl) (af rfl) (mW (by rw[wl];exact g.lt))) (af rfl) (da (jt (m:=40) (n:=200000*pre.length+1) (by decide) (by omega) az lz))) (af rfl) (da (jt (m:=40+(200000*pre.length+1)) (n:=100000) (by omega) (by decide) cz (rz _ hz'.2)))) (cD _ _))
  rw[show (top.zip p.2).map (λz=>D.int (z.1*nth p.2 p.1+nth ws p.1*low*z.2))=(upL top (nth p.2 p.1) (nth ws p.1*low) p.2).map D.int by unfold upL;rw[List.map_map];rfl] at ec
  have eb:iE ⟨coR P ws top low (some (vI p.2)) x5,[]⟩=.next ⟨coR P ws (upL top (nth p.2 p.1) (nth ws p.1*low) p.2) (low*nth p.2 p.1) (some (vI p.2)) (some (.int (p.1:Int))),[]⟩:=by
   rw[iE]
   exact aU e5 (aU (bu (R':=coR P ws (upL top (nth p.2 p.1) (nth ws p.1*low) p.2) low (some (vI p.2)) (some (.int (p.1:Int)))) ec rfl) (bu (aK (af rfl) (aK (af rfl) (af rfl) (mW (by rw[g.len];exact g.lt))) (da (jt (m:=200000*pre.length+1) (n:=100000) (by omega) (by decide) lz bz))) rfl))
  have ul:(upL top (nth p.2 p.1) (nth ws p.1*low) p.2).length=n:=by rw[GX (by rw[g.len,tl])];exact tl
  have pl1:(pre++[p]).length=pre.length+1:=by simp
  obtain⟨top',low',y4,y5,e,h1,h2,h3⟩:=uF pl wl hn hP wz pz hT hc rest (pre++[p]) (upL top (nth p.2 p.1) (nth ws p.1*low) p.2) (low*nth p.2 p.1) (some (vI p.2)) (some (.int (p.1:Int))) (by rw[eP];simp) ul (λi h=>by
   have tk:T.take (pre.length+1)=T.take pre.length++[nth T pre.length]:=by
    rw[List.take_add_one,List.getElem?_eq_getElem (by omega)]
    unfold nth
    rw[List.getD_eq_getElem?_getD,List.getElem?_eq_getElem (by omega)];rfl
   rw[Iu (by omega) (by rw[g.len];exact h),pl1,tk,List.map_append,List.map_cons,List.map_nil,pQ (by rw[List.length_take,List.length_map];omega)]
   have h1:=hi i h
   grind) (by rw[pl1];exact(Sz.mul lz bz).mono (by omega)) (by
   rw[pl1]
   intro x hx
   obtain⟨z,hz,rfl⟩:=List.mem_map.mp hx
   have hz':=List.of_mem_zip (a:=z.1) (b:=z.2) hz
   exact(Sz.add (Sz.mul (tz _ hz'.1) bz) (Sz.mul cz (rz _ hz'.2))).mono (by omega))
  refine⟨top',low',y4,y5, ?_,h1,h2,h3⟩
  rw[List.map_cons,List.map_cons]
  exact Eq.trans (qb (s1:=⟨coR P ws top low (some (vI p.2)) x5,[]⟩) trivial rfl eb) e
theorem Fu{n:Nat}{ws:List Int}{P:List (Nat×List Int)}(pl:Pl n P)(wl:ws.length=n)(hn:n<=1000)(hP:P.length<=10)(wz:SzL 40 ws)(pz:eE 100000 (P.map (·.2)))(sp:gQ n (P.map (·.2)) (nth ws)):∃O,gM [vII (P.map (·.2)),vI ws] []=.ok (.bl true,O):=by
 obtain⟨k,hk,T,hT,hc⟩:=sp
 rw[List.length_map] at hT
 have e2:=eX (l:=ws) (item:=D.int) (out:=λ_=>.int 0) (caps:=[]) (im:=listI (aa 1)) (e:=ao (.int 0)) (k:=none) (s:=⟨[some (vII (P.map (·.2))),some (vI ws),none,none,none,none],[]⟩) (by simp) trivial (by omega) (λ_ _=>aB _ _)
 rw[show ws.map (λ_=>D.int 0)=(ws.map λ_=>(0:Int)).map D.int by rw[List.map_map];rfl] at e2
 obtain⟨top,low,y4,y5,ef,tl,ht,lz⟩:=uF pl wl hn hP wz pz hT hc P [] (ws.map λ_=>(0:Int)) 1 none none rfl (by rw[List.length_map];exact wl) (λi _=>by
  rw[jU (f:=λ_=>0) rfl]
  show k*0=1*0
  omega) (by unfold Sz;decide) (λx hx=>by
  obtain⟨_,_,rfl⟩:=List.mem_map.mp hx
  exact Sz.zero _)
 have hf:=dk (im:=listI (aa 0)) (g:=aA 4) (body:=iE) (s:=⟨coR P ws (ws.map λ_=>(0:Int)) 1 none none,[]⟩) (ds:=(P.map (·.2)).map vI) (k:=none) (s1:=⟨coR P ws (ws.map λ_=>(0:Int)) 1 none none,[]⟩) (by simp)
 rw[ef] at hf
 have et:top=ws.map (· * low):=by
  refine oh (by rw[tl,List.length_map,wl]) λi hi=> ?_
  have h1:=ht i (by omega)
  rw[<- hc i (by omega)] at h1
  rw[jU (f:=(· * low)) (by simp)]
  refine Int.eq_of_mul_eq_mul_left hk ?_
  rw[h1]
  grind
 subst et
 have hc2:=eX (l:=ws) (item:=D.int) (out:=λx=>.int (x*low)) (caps:=[3]) (im:=listI (aa 1)) (e:=aj di (aa 0) (aa 1)) (k:=none) (s:=⟨coR P ws (ws.map (· * low)) low y4 y5,[]⟩) (by simp) trivial (by omega) (λx hx=>aK (af rfl) (af rfl) (da (jt (m:=40) (n:=2000001) (by decide) (by decide) (wz x hx) lz)))
 rw[show ws.map (λx=>D.int (x*low))=(ws.map (· * low)).map D.int by rw[List.map_map];rfl] at hc2
 refine nq ⟨⟨coR P ws (ws.map (· * low)) low y4 y5,[]⟩, ?_⟩
 show j5 ⟨[some (vII (P.map (·.2))),some (vI ws),none,none,none,none],[]⟩=_
 rw[j5]
 refine aU (bu (R':=[some (vII (P.map (·.2))),some (vI ws),some (vI (ws.map λ_=>(0:Int))),none,none,none]) e2 rfl) (aU (bu (R':=coR P ws (ws.map λ_=>(0:Int)) 1 none none) (aB _ _) rfl) (aU hf (bI (aK (af rfl) hc2 ?_))))
 rw[Fh,decide_eq_true rfl]
theorem JN{m:AM}{s s1:S}{x y:D}{as bs:List D}(h:m s=.ok ([x,y],s1))(h1:lsD s1.o x=some as)(h2:lsD s1.o y=some bs):yC m s=.ok ((lB as bs,λO=>lsD O x=some as/\lsD O y=some bs),s1):=by
 unfold yC
 rw[h,ai]
 dsimp only
 rw[h1,h2]
theorem HB {α:Type} {l:List α} {f g out:α->D} {caps:List Nat} {im:IX} {e:EM} {s:S} {ok:ax->Prop} (him:im s=.ok ((l.map (λa=>D.tup [f a,g a]),ok),s)) (hok:ok s.o) (hl:l.length<=16777216)
 (he:∀a∈l,e ⟨some (f a)::some (g a)::caps.map (λi=>(s.r[i]?).getD none),s.o⟩=.ok (out a,⟨some (f a)::some (g a)::caps.map (λi=>(s.r[i]?).getD none),s.o⟩)):
 qX 2 caps im (cH (aQ (aA 0) (aQ (aA 1) cN)) 2) cE e s=.ok (.lst (l.map out),s):=by
 obtain⟨s',e1,x,y,h1⟩:=oN (ok:=ok) (g:=cH (aQ (aA 0) (aQ (aA 1) cN)) 2) (c:=cE) (e:=e) (O:=s.o) hok (λa=>D.tup [f a,g a]) (λs2=>∃x y,s2=⟨x::y::caps.map (λi=>(s.r[i]?).getD none),s.o⟩) (by rintro _ ⟨_,_,rfl⟩;rfl) l (λ_=>true) out (by
  rintro a ha _ ⟨x,y,rfl⟩
  exact⟨_,_,by simp,rfl,λ_=>⟨_,_,rfl⟩,λ_=>⟨_,he a ha,_,_,rfl⟩⟩) [] ⟨lL 2 caps s.r,s.o⟩ (by simpa using hl) ⟨none,none,rfl⟩
 unfold qX ue
 rw[him,ai]
 dsimp only
 rw[e1,ai,ai]
 subst h1
 rw[lT]
 rfl
theorem EK{O:ax}{L:List (Nat×List Int)}(h:Sto O L)(A:List (List Int)):neD O (.lst (bt L)) (vII A)=.ok (.bl (!decide (L.map (·.2)=A))):=by
 have e:=FK h A
 unfold eqD at e
 unfold neD
 cases q:eqB O (.lst (bt L)) (vII A) with
 | none=>rw[q] at e;cases e
 | some b=>
  rw[q] at e
  have:b=decide (L.map (·.2)=A):=by
   cases e
   rfl
  rw[this]
theorem EZ{n:Nat}{goods:List Str}{ws:List Wk}(gl:goods.length=n)(n5:n<=5)(hw:ws.length<=5)(hs:eE 110 (chL goods ws)):∃d O Q,lg [yD goods ws] []=.ok (.ptr d,O)/\O[d]? =some (.lst (bt Q))/\Sto O Q/\(∀p∈Q,p.1≠d)/\Q.map (·.2)=ba (chL goods ws) n:=by
 have g1:ka 110 n<=60000000:=by
  refine Nat.le_trans (uj (d:=110) (m:=5) (Nat.le_refl _) (by omega)) ?_
  decide
 obtain⟨d,Op,Q,ep,hd,sQ,nQ,eQ⟩:=Bx (n:=n) (c:=110) (rows:=chL goods ws) (by omega) (by rw[List.length_map];omega) (λr hr=>by
  obtain⟨w,_,rfl⟩:=List.mem_map.mp hr
  rw[List.length_map];exact gl) hs g1
 refine⟨0+d,[]++Op.map (shC 0),Q.map λp=>(0+p.1,p.2), ?_,oW (S:=[]) hd,uR (S:=[]) sQ,λp hp=> ?_,by rw[List.map_map];exact eQ⟩
 ·refine en (R:=[some (yD goods ws)]) ?_
  show o7 ⟨[some (yD goods ws)],[]⟩=_
  rw[o7]
  refine bI (kA (aH (iO (aH (af rfl) (aI _)) (CA goods (by omega)) (vP _ _) rfl (by rw[mI,mx])) (aH (eM (aH (va (ns:=FN) (ds:=yDs goods ws) (args:=[]) (af rfl) (aI _) (D9 goods ws) (by decide) (o3 _ _) rfl rfl (dm _)) (aI _)) (by rw[jh,List.length_map,gl])) (aI _))) ep (xK _ rfl) rfl (g7 _ _) rfl)
 ·obtain⟨q,hq,rfl⟩:=List.mem_map.mp hp
  have:=nQ q hq
  dsimp only
  omega
abbrev lR(ns:List Int)(b:Nat)(hd:Int)(n:Nat)(we:List Int)(A:List (List Int))(goods:List Str)(ws:List Wk)(x8 x9 x10 x11:Option D):List (Option D):=[some (vI ns),some (.int (b:Int)),some (.int hd),some (.int (n:Int)),some (vI we),some (vII A),some (sD goods),some (yD goods ws),x8,x9,x10,x11]
structure Dr(n:Nat)(we:List Int)(A:List (List Int))(goods:List Str)(ws:List Wk):Prop where
 gl:goods.length=n
 n5:n<=5
 al:A.length<=5
 wl:we.length=n
 wz:SzL 40 we
 kp:∀l∈A,uO n we l
 ch:chL goods ws=A
theorem Jz{n:Nat}{we:List Int}{A:List (List Int)}{goods:List Str}{ws:List Wk}(h:Dr n we A goods ws):ws.length=A.length:=by
 have:=congrArg List.length h.ch
 simpa using this
theorem Ew(ns:List Int)(b:Nat)(x2 x3 x4 x5 x6 x7 x8 x9 x10 x11:Option D)(O:ax)(m:SM)(C:Out->Prop)(hm:∀hd n we A goods ws,Dr n we A goods ws->∃o,m ⟨lR ns b hd n we A goods ws x8 x9 x10 x11,O⟩=o/\C o):
 ∃o,aJ (setM 2 (aO 2 dh (ab (aa 0) (ab (aa 1) ak)))) (aJ (setM 3 (aO 3 aM (ab (aa 2) (ab (ao (.int 45)) (ab (ao (.int 6)) ak))))) (aJ (setM 4 (aO 3 ft (ab (aa 2) (ab (aa 3) (ab (unM kr (aj kN (ao (.int 10)) (ao (.int 10)))) ak))))) (aJ (setM 5 (aO 3 fu (ab (aa 0) (ab (aa 1) (ab (aa 4) ak))))) (aJ (setM 6 (aO 2 dj (ab (aj bL (aa 2) (ao (.int 1))) (ab (aa 3) ak)))) (aJ (setM 7 (so 0 2 gL (ab (aa 6) (ab (aO 4 fE (ab (aa 5) (ab (aa 6) (ab (aO 2 dj (ab (aa 2) (ab (bC dC (ab (aa 5) ak)) ak))) (ab (aa 2) ak))))) ak)))) m))))) ⟨[some (vI ns),some (.int (b:Int)),x2,x3,x4,x5,x6,x7,x8,x9,x10,x11],O⟩=o/\C o:=by
 obtain⟨hd,k0,_⟩:=vf ns b
 obtain⟨n,hn,n6⟩:=oz hd 45 (m:=6) (by decide)
 have hn:cS hd 45 6=(n:Int):=hn
 have e2:setM 2 (aO 2 dh (ab (aa 0) (ab (aa 1) ak))) ⟨[some (vI ns),some (.int (b:Int)),x2,x3,x4,x5,x6,x7,x8,x9,x10,x11],O⟩=.next ⟨[some (vI ns),some (.int (b:Int)),some (.int hd),x3,x4,x5,x6,x7,x8,x9,x10,x11],O⟩:=bu (iO (aH (af rfl) (aH (af rfl) (aI _))) k0 (by simp) rfl rfl) rfl
 have e3:setM 3 (aO 3 aM (ab (aa 2) (ab (ao (.int 45)) (ab (ao (.int 6)) ak)))) ⟨[some (vI ns),some (.int (b:Int)),some (.int hd),x3,x4,x5,x6,x7,x8,x9,x10,x11],O⟩=.next ⟨[some (vI ns),some (.int (b:Int)),some (.int hd),some (.int (n:Int)),x4,x5,x6,x7,x8,x9,x10,x11],O⟩:=by
  rw[<- hn]
  exact bu (fU (af rfl) (aB _ _) (aB _ _) (by decide)) rfl
 obtain⟨we,Ow,ew,wl,wz,w1,_⟩:=B5 hd (n:=n) (lo:= -10000000000) (by omega) (by unfold Sz;decide)
 have e4:setM 4 (aO 3 ft (ab (aa 2) (ab (aa 3) (ab (unM kr (aj kN (ao (.int 10)) (ao (.int 10)))) ak)))) ⟨[some (vI ns),some (.int (b:Int)),some (.int hd),some (.int (n:Int)),x4,x5,x6,x7,x8,x9,x10,x11],O⟩=.next ⟨[some (vI ns),some (.int (b:Int)),some (.int hd),some (.int (n:Int)),some (vI we),x5,x6,x7,x8,x9,x10,x11],O⟩:=bu (iO (aH (af rfl) (aH (af rfl) (aH (tQ (aK (aB _ _) (aB _ _) D4) (nM _)) (aI _)))) ew rfl rfl (by simp)) rfl
 obtain⟨A,Ok,ek,al,kp⟩:=HX ns b wl (by omega) wz w1
 have e5:setM 5 (aO 3 fu (ab (aa 0) (ab (aa 1) (ab (aa 4) ak)))) ⟨[some (vI ns),some (.int (b:Int)),some (.int hd),some (.int (n:Int)),some (vI we),x5,x6,x7,x8,x9,x10,x11],O⟩=.next ⟨[some (vI ns),some (.int (b:Int)),some (.int hd),some (.int (n:Int)),some (vI we),some (vII A),x6,x7,x8,x9,x10,x11],O⟩:=bu (iO (aH (af rfl) (aH (af rfl) (aH (af rfl) (aI _)))) ek (by simp) rfl (by rw[mI,mx])) rfl
 obtain⟨goods,Og,eg,gl,gg,gnd⟩:=zW (hd+1) (n:=n) (by omega)
 have e6:setM 6 (aO 2 dj (ab (aj bL (aa 2) (ao (.int 1))) (ab (aa 3) ak))) ⟨[some (vI ns),some (.int (b:Int)),some (.int hd),some (.int (n:Int)),some (vI we),some (vII A),x6,x7,x8,x9,x10,x11],O⟩=.next ⟨[some (vI ns),some (.int (b:Int)),some (.int hd),some (.int (n:Int)),some (vI we),some (vII A),some (sD goods),x7,x8,x9,x10,x11],O⟩:=bu (iO (aH (aK (af rfl) (aB _ _) (cD _ _)) (aH (af rfl) (aI _))) eg rfl rfl (dm _)) rfl
 obtain⟨zs,Oz,ez,zl,zg,znd⟩:=zW hd (n:=A.length) (by omega)
 obtain⟨ws,Oo,eo,wnm,wmk,wch⟩:=D2 (A:=A) (goods:=goods) (zs:=zs) hd gnd (by omega) (λl hl=>by rw[(kp l hl).len,gl]) (by omega) (by omega)
 have wnm':ws.map (·.nm)=zs:=by rw[wnm,List.take_of_length_le (by omega)]
 have wsl:ws.length=A.length:=by have:=congrArg List.length wch;simpa using this
 have wok:uU goods ws:=⟨λw hw=>zg _ (by rw[<- wnm'];exact List.mem_map_of_mem hw),by rw[wnm'];exact znd,λw hw=>(wmk w hw).us,λw hw=>(wmk w hw).ms⟩
 have pws:cI (wsD ws)=true:=lb ws
 have e7:setM 7 (so 0 2 gL (ab (aa 6) (ab (aO 4 fE (ab (aa 5) (ab (aa 6) (ab (aO 2 dj (ab (aa 2) (ab (bC dC (ab (aa 5) ak)) ak))) (ab (aa 2) ak))))) ak))) ⟨[some (vI ns),some (.int (b:Int)),some (.int hd),some (.int (n:Int)),some (vI we),some (vII A),some (sD goods),x7,x8,x9,x10,x11],O⟩=.next ⟨lR ns b hd n we A goods ws x8 x9 x10 x11,O⟩:=by
  have ecn:aO 2 dj (ab (aa 2) (ab (bC dC (ab (aa 5) ak)) ak)) ⟨[some (vI ns),some (.int (b:Int)),some (.int hd),some (.int (n:Int)),some (vI we),some (vII A),some (sD goods),x7,x8,x9,x10,x11],O⟩=.ok (sD zs,⟨[some (vI ns),some (.int (b:Int)),some (.int hd),some (.int (n:Int)),some (vI we),some (vII A),some (sD goods),x7,x8,x9,x10,x11],O⟩):=iO (aH (af rfl) (aH (eM (aH (af rfl) (aI _)) (by rw[jh,List.length_map])) (aI _))) ez rfl rfl (dm _)
  have pwk:aL [vII A,sD goods,sD zs,.int hd]=true:=by
   rw[lQ,mI,mx]
   show (true&&(aL (goods.map D.str)&&(aL (zs.map D.str)&&(true&&true))))=true
   rw[dm,dm];rfl
  have ecw:aO 4 fE (ab (aa 5) (ab (aa 6) (ab (aO 2 dj (ab (aa 2) (ab (bC dC (ab (aa 5) ak)) ak))) (ab (aa 2) ak)))) ⟨[some (vI ns),some (.int (b:Int)),some (.int hd),some (.int (n:Int)),some (vI we),some (vII A),some (sD goods),x7,x8,x9,x10,x11],O⟩=.ok (wsD ws,⟨[some (vI ns),some (.int (b:Int)),some (.int hd),some (.int (n:Int)),some (vI we),some (vII A),some (sD goods),x7,x8,x9,x10,x11],O⟩):=iO (aH (af rfl) (aH (af rfl) (aH ecn (aH (af rfl) (aI _))))) eo pwk rfl pws
  have pyd:aL [sD goods,wsD ws]=true:=by
   show (aL (goods.map D.str)&&(aL (ws.map wD)&&true))=true
   rw[dm,lb];rfl
  exact iL (i:=7) (s':=⟨[some (vI ns),some (.int (b:Int)),some (.int hd),some (.int (n:Int)),some (vI we),some (vII A),some (sD goods),x7,x8,x9,x10,x11],O⟩) (Gm (args:=[sD goods,wsD ws]) (aH (af rfl) (aH ecw (aI _))) pyd rfl (IF gg gnd wok (by omega) (by omega)) (o3 _ _))
 obtain⟨o,eo,ho⟩:=hm hd n we A goods ws ⟨gl,by omega,al,wl,wz,kp,wch⟩
 exact⟨o,aU e2 (aU e3 (aU e4 (aU e5 (aU e6 (aU e7 eo))))),ho⟩
theorem GZ{ns we:List Int}{b n:Nat}{hd:Int}{A:List (List Int)}{goods:List Str}{ws:List Wk}{d1:Nat}{Q:List (Nat×List Int)}{O:ax}{x9 x10 x11:Option D}(hd1:O[d1]? =some (.lst (bt Q)))(sQ:Sto O Q)(n5:n<=5)(len:∀p∈Q,p.2.length=n)(zA:eE 110 A)(zQ:∀p∈Q,SzL 100000 p.2)(z0:∀p∈Q,∀l∈A,aG p.2 l=0):
 ∃y9 y10,eG (listI (aa 8)) (aA 9) o8 ⟨lR ns b hd n we A goods ws (some (.ptr d1)) x9 x10 x11,O⟩=.next ⟨lR ns b hd n we A goods ws (some (.ptr d1)) y9 y10 x11,O⟩:=by
 have inner:∀p∈Q,∀y10,∃z10,o8 ⟨lR ns b hd n we A goods ws (some (.ptr d1)) (some (.ptr p.1)) y10 x11,O⟩=.next ⟨lR ns b hd n we A goods ws (some (.ptr d1)) (some (.ptr p.1)) z10 x11,O⟩:=λp hp y10=>by
  obtain⟨s',el,z10,hs'⟩:=qP (ok:=okC (A.map vI) none) (g:=aA 10) (body:=vK)
   (λs=>∃x10,s=⟨lR ns b hd n we A goods ws (some (.ptr d1)) (some (.ptr p.1)) x10 x11,O⟩) (by rintro _ ⟨_,rfl⟩;trivial) (A.map vI) (by
    rintro y hy s ⟨x10,rfl⟩
    obtain⟨l,hl,rfl⟩:=List.mem_map.mp hy
    refine⟨⟨lR ns b hd n we A goods ws (some (.ptr d1)) (some (.ptr p.1)) (some (vI l)) x11,O⟩,_,rfl,.inl ?_,some (vI l),rfl⟩
    have e:=HB (l:=p.2.zip l) (f:=λq=>.int q.1) (g:=λq=>.int q.2) (out:=λq=>.int (q.1*q.2)) (caps:=[]) (im:=yC (ab (aa 9) (ab (aa 10) ak))) (e:=aj di (aa 0) (aa 1)) (s:=⟨lR ns b hd n we A goods ws (some (.ptr d1)) (some (.ptr p.1)) (some (vI l)) x11,O⟩) (ok:=λO=>lsD O (.ptr p.1)=some (p.2.map D.int)/\lsD O (vI l)=some (l.map D.int)) (by
     rw[JN (as:=p.2.map D.int) (bs:=l.map D.int) (aH (af (i:=9) rfl) (aH (af (i:=10) rfl) (aI _))) (lM (sQ p hp)) nv,ot]) ⟨lM (sQ p hp),nv⟩ (by rw[List.length_zip,len p hp];omega) (λq hq=>by
      have hq':=List.of_mem_zip (a:=q.1) (b:=q.2) hq
      exact aK (af rfl) (af rfl) (da (jt (m:=100000) (n:=110) (by decide) (by decide) (zQ p hp _ hq'.1) (zA l hl _ hq'.2))))
    rw[show (p.2.zip l).map (λq=>D.int (q.1*q.2))=(List.zipWith (· * ·) p.2 l).map D.int by rw[<- zip_map,List.map_map];rfl] at e
    rw[vK]
    refine eN (fB (aK (eM (aH e (aI _)) (oA _ _)) (aB _ _) (ly _ _))) ?_ (cR _)
    rw[decide_eq_true (show (List.zipWith (· * ·) p.2 l).sum=0 from z0 p hp l hl)]
    rfl) ⟨lR ns b hd n we A goods ws (some (.ptr d1)) (some (.ptr p.1)) y10 x11,O⟩ ⟨y10,rfl⟩
  refine⟨z10, ?_⟩
  rw[o8]
  refine(dk (ds:=A.map vI) (k:=none) (s1:=⟨lR ns b hd n we A goods ws (some (.ptr d1)) (some (.ptr p.1)) y10 x11,O⟩) ?_).trans (el.trans (by rw[hs']))
  rw[fQ,af (i:=5) rfl,ai];rfl
 obtain⟨s',el,y9,y10,hs'⟩:=qP (ok:=okC (bt Q) (some d1)) (g:=aA 9) (body:=o8)
  (λs=>∃x9 x10,s=⟨lR ns b hd n we A goods ws (some (.ptr d1)) x9 x10 x11,O⟩) (by rintro _ ⟨_,_,rfl⟩;exact hd1) (bt Q) (by
   rintro y hy s ⟨x9,x10,rfl⟩
   obtain⟨p,hp,rfl⟩:=List.mem_map.mp hy
   obtain⟨z10,e⟩:=inner p hp x10
   exact⟨⟨lR ns b hd n we A goods ws (some (.ptr d1)) (some (.ptr p.1)) x10 x11,O⟩,_,rfl,.inl e,_,_,rfl⟩) ⟨lR ns b hd n we A goods ws (some (.ptr d1)) x9 x10 x11,O⟩ ⟨x9,x10,rfl⟩
 exact⟨y9,y10,(dk (ds:=bt Q) (k:=some d1) (s1:=⟨lR ns b hd n we A goods ws (some (.ptr d1)) x9 x10 x11,O⟩) (jg (af rfl) hd1)).trans (el.trans (by rw[hs']))⟩
theorem E8{ns we:List Int}{b n:Nat}{hd:Int}{A:List (List Int)}{goods:List Str}{ws:List Wk}{x8 x9 x10 x11:Option D}{O:ax}(al:A.length<=5):cO 1 [] (listI (aa 5)) (aA 0) cE (bC fV (ab (aa 0) ak)) ⟨lR ns b hd n we A goods ws x8 x9 x10 x11,O⟩=.ok (vII A,⟨lR ns b hd n we A goods ws x8 x9 x10 x11,O⟩):=
 eX (l:=A) (item:=vI) (out:=vI) (caps:=[]) (im:=listI (aa 5)) (e:=bC fV (ab (aa 0) ak)) (k:=none) (s:=⟨lR ns b hd n we A goods ws x8 x9 x10 x11,O⟩) (by rw[fQ,af (i:=5) rfl,ai];rfl) trivial (by omega) (λr _=>eM (aH (af rfl) (aI _)) (kG _))
theorem xV(ns:List Int)(b:Nat)(x2 x3 x4 x5 x6 x7 x8 x9 x10 x11:Option D)(O0:ax):∃O' y2 y3 y4 y5 y6 y7 y8 y9 y10 y11,si ⟨[some (vI ns),some (.int (b:Int)),x2,x3,x4,x5,x6,x7,x8,x9,x10,x11],O0⟩=.next ⟨[some (vI ns),some (.int (b:Int)),y2,y3,y4,y5,y6,y7,y8,y9,y10,y11],O'⟩:=by
 suffices main:∃o,si ⟨[some (vI ns),some (.int (b:Int)),x2,x3,x4,x5,x6,x7,x8,x9,x10,x11],O0⟩=o/\∃O' y2 y3 y4 y5 y6 y7 y8 y9 y10 y11,o=Out.next ⟨[some (vI ns),some (.int (b:Int)),y2,y3,y4,y5,y6,y7,y8,y9,y10,y11],O'⟩ by
  obtain⟨o,h,O',y2,y3,y4,y5,y6,y7,y8,y9,y10,y11,rfl⟩:=main
  exact⟨O',y2,y3,y4,y5,y6,y7,y8,y9,y10,y11,h⟩
 rw[si]
 refine Ew ns b x2 x3 x4 x5 x6 x7 x8 x9 x10 x11 O0 _ _ λhd n we A goods ws dr=> ?_
 have chA:=dr.ch
 have wsl:=Jz dr
 have zA:eE 110 A:=λl hl=>(dr.kp l hl).sz
 have lA:∀l∈A,l.length=n:=λl hl=>(dr.kp l hl).len
 have n5:=dr.n5
 have al:=dr.al
 obtain⟨d,Op,Q,ep,hd0,sQ,nQ,eQ⟩:=EZ (goods:=goods) (ws:=ws) dr.gl n5 (by omega) (by rw[chA];exact zA)
 rw[chA] at eQ
 have g1:ka 110 n<=100000:=by
  refine Nat.le_trans (uj (d:=110) (m:=5) (Nat.le_refl _) (by omega)) ?_
  decide
 have g2:grow 110 A.length<=60000000:=by
  refine Nat.le_trans (qG (q:=5) (by omega)) ?_
  decide
 obtain⟨d',Op',Q',ep',hd',sQ',nQ',eQ'⟩:=ur (n:=n) (b:=110) (rows:=A) (by omega) (by omega) lA zA g2
 have ssz:=(Dd (n:=n) (by omega) lA zA).mono g1
 obtain⟨P,eP,pl,hperp,_⟩:=ke lA
 have hcount:=count lA
 rw[<- eQ,<- eQ',List.length_map,List.length_map] at hcount
 have hQP:Q.map (·.2)=P.map (·.2):=by rw[eQ,eP]
 have plen:Q.length<=5:=by omega
 have hPl:P.length<=5:=by
  have:=congrArg List.length hQP
  simp at this
  omega
 have e8:setM 8 (gE 1 lg (ab (aa 7) ak)) ⟨lR ns b hd n we A goods ws x8 x9 x10 x11,O0⟩=.next ⟨lR ns b hd n we A goods ws (some (.ptr (O0.length+d))) x9 x10 x11,O0++Op.map (shC O0.length)⟩:=bu (kA (aH (af rfl) (aI _)) ep (vP _ _) rfl (g7 _ _) rfl) rfl
 have hd1:=oW (S:=O0) hd0
 have sQ1:=uR (S:=O0) sQ
 have nQ1:∀p∈Q.map (λp=>(O0.length+p.1,p.2)),p.1≠O0.length+d:=λp hp=>by
  obtain⟨q,hq,rfl⟩:=List.mem_map.mp hp
  have:=nQ q hq
  dsimp only
  omega
 have mQ1:(Q.map λp=>(O0.length+p.1,p.2)).map (·.2)=P.map (·.2):=by rw[List.map_map];exact hQP
 have lQ1:(Q.map λp=>(O0.length+p.1,p.2)).length=Q.length:=by simp
 generalize O0++Op.map (shC O0.length)=O1 at e8 hd1 sQ1
 generalize (Q.map λp=>(O0.length+p.1,p.2))=Q1 at hd1 sQ1 nQ1 mQ1 lQ1
 generalize O0.length+d=d1 at e8 hd1 nQ1
 have inP:∀p∈Q1,p.2∈P.map (·.2):=λp hp=>by rw[<- mQ1];exact List.mem_map.mpr ⟨p,hp,rfl⟩
 have inS:∀p∈Q1,p.2∈ba A n:=λp hp=>by rw[eP];exact inP p hp
 have len1:∀p∈Q1,p.2.length=n:=λp hp=>kU lA _ (inS p hp)
 have null:dU n A (nth we):=λl hl=>by
  have:=(dr.kp l hl).dot
  rw[CZ dr.wl (lA l hl),gX dr.wl] at this
  exact this
 have span:gQ n (P.map (·.2)) (nth we):=by rw[<- eP];exact Dm lA null
 obtain⟨Oa,ea⟩:=Ac pl (by omega) (by omega)
 obtain⟨Oc,ec⟩:=Fu pl dr.wl (by omega) (by omega) dr.wz (by rw[<- eP];exact ssz) span
 have e9:ifS (orT (kR (aZ (ja 2 eI (ab (aa 8) (ab (aa 3) ak))))) (kR (aZ (ja 2 gM (ab (aa 8) (ab (aa 4) ak)))))) (bH (ao (.bl false))) bN ⟨lR ns b hd n we A goods ws (some (.ptr d1)) x9 x10 x11,O1⟩=.next ⟨lR ns b hd n we A goods ws (some (.ptr d1)) x9 x10 x11,O1⟩:=by
  have r1:bA O1 (bA O1 [.ptr d1,.int (n:Int)])=[vII (P.map (·.2)),.int (n:Int)]:=by rw[fG,fG,fG,zU hd1 sQ1,mQ1,fG,nK,nK,A0,A0]
  have r2:bA O1 (bA O1 [.ptr d1,vI we])=[vII (P.map (·.2)),vI we]:=by
   rw[fG,fG,fG,zU hd1 sQ1,mQ1,fG,nK,nK]
   simp only[ni,B6]
  have p2:aL [vII (P.map (·.2)),vI we]=true:=xK _ (by rw[mI,zZ])
  have c1:ja 2 eI (ab (aa 8) (ab (aa 3) ak)) ⟨lR ns b hd n we A goods ws (some (.ptr d1)) x9 x10 x11,O1⟩=.ok (.bl true,⟨lR ns b hd n we A goods ws (some (.ptr d1)) x9 x10 x11,O1⟩):=Ba (ds:=[.ptr d1,.int (n:Int)]) (aH (af rfl) (aH (af rfl) (aI _))) r1 ea (xK _ rfl) rfl rfl
  have c2:ja 2 gM (ab (aa 8) (ab (aa 4) ak)) ⟨lR ns b hd n we A goods ws (some (.ptr d1)) x9 x10 x11,O1⟩=.ok (.bl true,⟨lR ns b hd n we A goods ws (some (.ptr d1)) x9 x10 x11,O1⟩):=Ba (ds:=[.ptr d1,vI we]) (aH (af rfl) (aH (af rfl) (aI _))) r2 ec p2 rfl rfl
  exact eN (Fo (uk (fB c1)) (uk (fB c2))) rfl (cR _)
 obtain⟨y9,y10,e10⟩:=GZ (ns:=ns) (we:=we) (b:=b) (hd:=hd) (goods:=goods) (ws:=ws) (x9:=x9) (x10:=x10) (x11:=x11) hd1 sQ1 n5 len1 zA (λp hp=>ssz _ (inS p hp)) (λp hp l hl=>by
  have:=hperp l hl p.2 (inS p hp)
  rw[<- gX (lA l hl)] at this
  exact this)
 have hd3':=oW (S:=O1) hd'
 have e11:ifS (aZ (aj neD (aj bL (bC dC (ab (aa 8) ak)) (bC dC (ab (jx (gE 2 jW (ab (cO 1 [] (listI (aa 5)) (aA 0) cE (bC fV (ab (aa 0) ak))) (ab (aa 3) ak)))) ak))) (aa 3))) (bH (ao (.bl false))) bN ⟨lR ns b hd n we A goods ws (some (.ptr d1)) y9 y10 x11,O1⟩=.next ⟨lR ns b hd n we A goods ws (some (.ptr d1)) y9 y10 x11,(O1++Op'.map (shC O1.length)).set (O1.length+d') .dead⟩:=by
  refine eN (p:= !decide (((bt Q1).length:Int)+((bt (Q'.map λp=>(O1.length+p.1,p.2))).length:Int)=(n:Int))) (fB (aK (aK (eM (aH (af rfl) (aI _)) (Gf hd1)) (eM (aH (mM (kA (aH (E8 al) (aH (af rfl) (aI _))) ep' (xK _ rfl) rfl (g7 _ _) rfl) hd3' rfl) (aI _)) (jh _)) (cD _ _)) (af rfl) (ly _ _))) ?_ (cR _)
  rw[decide_eq_true (by simp only[List.length_map,lQ1];omega)]
  rfl
 have d1l:=nU hd1
 have hd2:((O1++Op'.map (shC O1.length)).set (O1.length+d') .dead)[d1]? =some (.lst (bt Q1)):=by rw[cB (by omega)];exact cy hd1
 have sQ2:Sto ((O1++Op'.map (shC O1.length)).set (O1.length+d') .dead) Q1:=(sQ1.app _).set (λp hp=>by have:=sQ1.lt hp;omega) _
 generalize (O1++Op'.map (shC O1.length)).set (O1.length+d') .dead=O2 at e11 hd2 sQ2
 have e12:=eX (l:=Q1) (item:=λp=>.ptr p.1) (out:=λp=>vI p.2) (caps:=[]) (im:=listI (aa 8)) (e:=bC fV (ab (aa 0) ak)) (k:=some d1) (s:=⟨lR ns b hd n we A goods ws (some (.ptr d1)) y9 y10 x11,O2⟩) (jg (af rfl) hd2) hd2 (by omega) (λp hp=>eM (aH (af rfl) (aI _)) (B9 (sQ2 p hp)))
 rw[show Q1.map (λp=>vI p.2)=(P.map (·.2)).map vI by rw[<- mQ1,List.map_map];rfl] at e12
 obtain⟨z9,O3,eg,hd3⟩:=A5 (body:=rY) (g:=aA 9) (λx O=>⟨lR ns b hd n we A goods ws (some (.ptr d1)) x y10 (some (vII (P.map (·.2)))),O⟩) (λ_ _=>rfl) nQ1 (λ_ _ _=>rfl) (λy O xs hy hl=>by
  rw[rY]
  exact cZ (oy (af rfl) hy (aB _ _) hy hl rfl)) Q1 0 y9 O2 (λ_ h=>h) (by omega) hd2 (λp hp=>⟨_,sQ2 p hp,by
   rw[List.length_map,len1 p hp]
   omega⟩)
 have hf:=dk (im:=listI (aa 8)) (g:=aA 9) (body:=rY) (s:=⟨lR ns b hd n we A goods ws (some (.ptr d1)) y9 y10 (some (vII (P.map (·.2)))),O2⟩) (ds:=bt Q1) (k:=some d1) (s1:=⟨lR ns b hd n we A goods ws (some (.ptr d1)) y9 y10 (some (vII (P.map (·.2)))),O2⟩) (jg (af rfl) hd2)
 rw[eg] at hf
 have e14:dR (sm Ep (aa 8)) ⟨lR ns b hd n we A goods ws (some (.ptr d1)) z9 y10 (some (vII (P.map (·.2)))),O3⟩=.next ⟨lR ns b hd n we A goods ws (some (.ptr d1)) z9 y10 (some (vII (P.map (·.2)))),O3.set d1 (.lst [])⟩:=cZ (J7 (af rfl) hd3 rfl rfl)
 generalize O3.set d1 (.lst [])=O4 at e14
 have hd4:=oW (S:=O4) hd0
 have sQ4:Sto ((O4++Op.map (shC O4.length)).set (O4.length+d) .dead) (Q.map λp=>(O4.length+p.1,p.2)):=(uR (S:=O4) sQ).set (λp hp=>by
  obtain⟨q,hq,rfl⟩:=List.mem_map.mp hp
  have:=nQ q hq
  dsimp only
  omega) _
 have ne:=EK sQ4 (P.map (·.2))
 rw[show (Q.map λp=>(O4.length+p.1,p.2)).map (·.2)=P.map (·.2) by rw[List.map_map];exact hQP,decide_eq_true rfl] at ne
 have e15:ifS (aZ (aj neD (jx (gE 1 lg (ab (aa 7) ak))) (aa 11))) (bH (ao (.bl false))) bN ⟨lR ns b hd n we A goods ws (some (.ptr d1)) z9 y10 (some (vII (P.map (·.2)))),O4⟩=.next ⟨lR ns b hd n we A goods ws (some (.ptr d1)) z9 y10 (some (vII (P.map (·.2)))),(O4++Op.map (shC O4.length)).set (O4.length+d) .dead⟩:=
  eN (fB (aK (mM (kA (aH (af rfl) (aI _)) ep (vP _ _) rfl (g7 _ _) rfl) hd4 rfl) (af rfl) ne)) rfl (cR _)
 exact⟨_,aU e8 (aU e9 (aU e10 (aU e11 (aU (bu (R':=lR ns b hd n we A goods ws (some (.ptr d1)) y9 y10 (some (vII (P.map (·.2))))) e12 rfl) (aU hf (aU e14 e15)))))),_,_,_,_,_,_,_,_,_,_,_,rfl⟩
theorem ER(ns:List Int)(h:ns.length<=63):∃O,xG [.lst (ns.map D.int)] []=.ok (.bl true,O):=by
 obtain⟨O1,a2,a3,a4,a5,a6,a7,a8,a9,a10,a11,e1⟩:=xV ns 0 none none none none none none none none none none []
 obtain⟨O2,b2,b3,b4,b5,b6,b7,b8,b9,b10,b11,e2⟩:=xV ns 6 a2 a3 a4 a5 a6 a7 a8 a9 a10 a11 O1
 refine nq ⟨⟨[some (vI ns),some (.int 6),b2,b3,b4,b5,b6,b7,b8,b9,b10,b11],O2⟩, ?_⟩
 show BC ⟨[some (vI ns),none,none,none,none,none,none,none,none,none,none,none],[]⟩=_
 rw[BC]
 refine aU ?_ (bI (aB _ _))
 refine(dk (ds:=[.int 0,.int 6]) (k:=none) (s1:=⟨[some (vI ns),none,none,none,none,none,none,none,none,none,none,none],[]⟩) ?_).trans ?_
 ·rw[fQ,Gr (aH (aB _ _) (aH (aB _ _) (aI _))) (by simp),ai];rfl
 ·refine(qb (s1:=⟨[some (vI ns),some (.int 0),none,none,none,none,none,none,none,none,none,none],[]⟩) trivial rfl e1).trans ((qb (s1:=⟨[some (vI ns),some (.int 6),a2,a3,a4,a5,a6,a7,a8,a9,a10,a11],O1⟩) trivial rfl e2).trans ?_)
  rw[bS,if_pos (show okC _ none _ from trivial)];rfl
end Lk26
namespace Lk26
open PySem PySem.Spec PyProof.Rows L2 M
theorem all_mk {l:PySem.W.OpenLaw} {w:World} {K:PySem.W.Frag} {h:Heap} {mg:Str->Option Value} {fa f0 f1 f2 f3 f4 f5 f6 f7 f8 f9 f10 f11 f12 f13 f14 f15 f16 f17 f18 f19 f20 f21 f22 f23 f24 f25 f26 f27 f28 f29 f30 f31 f32 f33 f34 f35 f36 f37 f38 f39 f40 f41 f42 f43 f44 C_Yard:Addr} (X:K.In h) (G:h.Ns mainGlobals mg) (hfa:mg "law" =some (.ref fa)) (hpt:l.prog.given.tree=none)
 {od0 an0 od1 an1 od2 an2 od3 an3 od4 an4 od5 an5 od6 an6 od7 an7 od8 an8 od9 an9 od10 an10 od11 an11 od12 an12 od13 an13 od14 an14 od15 an15 od16 an16 od17 an17 od18 an18 od19 an19 od20 an20 od21 an21 od22 an22 od23 an23 od24 an24 od25 an25 od26 an26 od27 an27 od28 an28 od29 an29 od30 an30 od31 an31 od32 an32 od33 an33 od34 an34 od35 an35 od36 an36 od37 an37 od38 an38 od39 an39 od40 an40 od41 an41 od42 an42 od43 an43 od44 an44:Option Addr} {sl0 sl1 sl2 sl3 sl4 sl5 sl6 sl7 sl8 sl9 sl10 sl11 sl12 sl13 sl14 sl15 sl16 sl17 sl18 sl19 sl20 sl21 sl22 sl23 sl24 sl25 sl26 sl27 sl28 sl29 sl30 sl31 sl32 sl33 sl34 sl35 sl36 sl37 sl38 sl39 sl40 sl41 sl42 sl43 sl44:Array (Option Value)} {oc0 kV0 dc0 pm0 cd0 ct0 oc1 kV1 dc1 pm1 cd1 ct1 oc2 kV2 dc2 pm2 cd2 ct2 oc3 kV3 dc3 pm3 cd3 ct3 oc4 kV4 dc4 pm4 cd4 ct4 oc5 kV5 dc5 pm5 cd5 ct5 oc6 kV6 dc6 pm6 cd6 ct6 oc7 kV7 dc7 pm7 cd7 ct7 oc8 kV8 dc8 pm8 cd8 ct8 oc9 kV9 dc9 pm9 cd9 ct9 oc10 kV10 dc10 pm10 cd10 ct10 oc11 kV11 dc11 pm11 cd11 ct11 oc12 kV12 dc12 pm12 cd12 ct12 oc13 kV13 dc13 pm13 cd13 ct13 oc14 kV14 dc14 pm14 cd14 ct14 oc15 kV15 dc15 pm15 cd15 ct15 oc16 kV16 dc16 pm16 cd16 ct16 oc17 kV17 dc17 pm17 cd17 ct17 oc18 kV18 dc18 pm18 cd18 ct18 oc19 kV19 dc19 pm19 cd19 ct19 oc20 kV20 dc20 pm20 cd20 ct20 oc21 kV21 dc21 pm21 cd21 ct21 oc22 kV22 dc22 pm22 cd22 ct22 oc23 kV23 dc23 pm23 cd23 ct23 oc24 kV24 dc24 pm24 cd24 ct24 oc25 kV25 dc25 pm25 cd25 ct25 oc26 kV26 dc26 pm26 cd26 ct26 oc27 kV27 dc27 pm27 cd27 ct27 oc28 kV28 dc28 pm28 cd28 ct28 oc29 kV29 dc29 pm29 cd29 ct29 oc30 kV30 dc30 pm30 cd30 ct30 oc31 kV31 dc31 pm31 cd31 ct31 oc32 kV32 dc32 pm32 cd32 ct32 oc33 kV33 dc33 pm33 cd33 ct33 oc34 kV34 dc34 pm34 cd34 ct34 oc35 kV35 dc35 pm35 cd35 ct35 oc36 kV36 dc36 pm36 cd36 ct36 oc37 kV37 dc37 pm37 cd37 ct37 oc38 kV38 dc38 pm38 cd38 ct38 oc39 kV39 dc39 pm39 cd39 ct39 oc40 kV40 dc40 pm40 cd40 ct40 oc41 kV41 dc41 pm41 cd41 ct41 oc42 kV42 dc42 pm42 cd42 ct42 oc43 kV43 dc43 pm43 cd43 ct43 oc44 kV44 dc44 pm44 cd44 ct44:Value} {t_MOST_LETTERS t_MOST_GOODS t_MOST_WORKS:Tok}
 (aC_Yard:PySem.W.nsIn K mainGlobals "Yard" =some (some (.ref C_Yard)))
 (g1_Yard:PySem.W.plainGet K C_Yard Str.empty=true)
 (g2_Yard:PySem.W.hasDictIn K C_Yard=true)
 (g3_Yard:PySem.W.plainOver K C_Yard=true)
 (g4_Yard:PySem.W.findIn K (.ref C_Yard) "__setattr__" =some (some (.builtin "object.__setattr__")))
 (mk_Yard:PySem.W.makesIn K C_Yard=true)
 (kC_Yard:PySem.W.keepIn K (.ref C_Yard)=true)
 (nf_Yard_held_changes:PySem.W.findIn K (.ref C_Yard) "held_changes" =some none)
 (nf_Yard_held_works:PySem.W.findIn K (.ref C_Yard) "held_works" =some none)
 (nf_Yard_held_goods:PySem.W.findIn K (.ref C_Yard) "held_goods" =some none)
 (a0:PySem.W.nsIn K mainGlobals "is_whole" =some (some (.ref f0)))
 (l0:K.lookup f0=some ⟨oc0,od0,.func (PySem.W.fnOf "is_whole" "is_whole" (bg jO) (aY jO) (ay jO) .none kV0 dc0 pm0 an0 cd0 ct0),sl0⟩)
 (c0:PySem.W.codeIn K cd0 "is_whole" =true)
 (k0:PySem.W.keepIn K (.ref f0)=true)
 (a1:PySem.W.nsIn K mainGlobals "measure_of_two" =some (some (.ref f1)))
 (l1:K.lookup f1=some ⟨oc1,od1,.func (PySem.W.fnOf "measure_of_two" "measure_of_two" (bg eJ) (aY eJ) (ay eJ) .none kV1 dc1 pm1 an1 cd1 ct1),sl1⟩)
 (c1:PySem.W.codeIn K cd1 "measure_of_two" =true)
 (k1:PySem.W.keepIn K (.ref f1)=true)
 (a2:PySem.W.nsIn K mainGlobals "measure" =some (some (.ref f2)))
 (l2:K.lookup f2=some ⟨oc2,od2,.func (PySem.W.fnOf "measure" "measure" (bg kx) (aY kx) (ay kx) .none kV2 dc2 pm2 an2 cd2 ct2),sl2⟩)
 (c2:PySem.W.codeIn K cd2 "measure" =true)
 (k2:PySem.W.keepIn K (.ref f2)=true)
 (a3:PySem.W.nsIn K mainGlobals "lowest" =some (some (.ref f3)))
 (l3:K.lookup f3=some ⟨oc3,od3,.func (PySem.W.fnOf "lowest" "lowest" (bg lK) (aY lK) (ay lK) .none kV3 dc3 pm3 an3 cd3 ct3),sl3⟩)
 (c3:PySem.W.codeIn K cd3 "lowest" =true)
 (k3:PySem.W.keepIn K (.ref f3)=true)
 (a4:PySem.W.nsIn K mainGlobals "sum_of_products" =some (some (.ref f4)))
 (l4:K.lookup f4=some ⟨oc4,od4,.func (PySem.W.fnOf "sum_of_products" "sum_of_products" (bg eC) (aY eC) (ay eC) .none kV4 dc4 pm4 an4 cd4 ct4),sl4⟩)
 (c4:PySem.W.codeIn K cd4 "sum_of_products" =true)
 (k4:PySem.W.keepIn K (.ref f4)=true)
 (a5:PySem.W.nsIn K mainGlobals "unit" =some (some (.ref f5)))
 (l5:K.lookup f5=some ⟨oc5,od5,.func (PySem.W.fnOf "unit" "unit" (bg oV) (aY oV) (ay oV) .none kV5 dc5 pm5 an5 cd5 ct5),sl5⟩)
 (c5:PySem.W.codeIn K cd5 "unit" =true)
 (k5:PySem.W.keepIn K (.ref f5)=true)
 (a6:PySem.W.nsIn K mainGlobals "units" =some (some (.ref f6)))
 (l6:K.lookup f6=some ⟨oc6,od6,.func (PySem.W.fnOf "units" "units" (bg m9) (aY m9) (ay m9) .none kV6 dc6 pm6 an6 cd6 ct6),sl6⟩)
 (c6:PySem.W.codeIn K cd6 "units" =true)
 (k6:PySem.W.keepIn K (.ref f6)=true)
 (a7:PySem.W.nsIn K mainGlobals "offset" =some (some (.ref f7)))
 (l7:K.lookup f7=some ⟨oc7,od7,.func (PySem.W.fnOf "offset" "offset" (bg lJ) (aY lJ) (ay lJ) .none kV7 dc7 pm7 an7 cd7 ct7),sl7⟩)
 (c7:PySem.W.codeIn K cd7 "offset" =true)
 (k7:PySem.W.keepIn K (.ref f7)=true)
 (a8:PySem.W.nsIn K mainGlobals "column" =some (some (.ref f8)))
 (l8:K.lookup f8=some ⟨oc8,od8,.func (PySem.W.fnOf "column" "column" (bg lN) (aY lN) (ay lN) .none kV8 dc8 pm8 an8 cd8 ct8),sl8⟩)
 (c8:PySem.W.codeIn K cd8 "column" =true)
 (k8:PySem.W.keepIn K (.ref f8)=true)
 (a9:PySem.W.nsIn K mainGlobals "first_not_nought" =some (some (.ref f9)))
 (l9:K.lookup f9=some ⟨oc9,od9,.func (PySem.W.fnOf "first_not_nought" "first_not_nought" (bg d3) (aY d3) (ay d3) .none kV9 dc9 pm9 an9 cd9 ct9),sl9⟩)
 (c9:PySem.W.codeIn K cd9 "first_not_nought" =true)
 (k9:PySem.W.keepIn K (.ref f9)=true)
 (a10:PySem.W.nsIn K mainGlobals "with_sign_above" =some (some (.ref f10)))
 (l10:K.lookup f10=some ⟨oc10,od10,.func (PySem.W.fnOf "with_sign_above" "with_sign_above" (bg eB) (aY eB) (ay eB) .none kV10 dc10 pm10 an10 cd10 ct10),sl10⟩)
 (c10:PySem.W.codeIn K cd10 "with_sign_above" =true)
 (k10:PySem.W.keepIn K (.ref f10)=true)
 (a11:PySem.W.nsIn K mainGlobals "cleared" =some (some (.ref f11)))
 (l11:K.lookup f11=some ⟨oc11,od11,.func (PySem.W.fnOf "cleared" "cleared" (bg kB) (aY kB) (ay kB) .none kV11 dc11 pm11 an11 cd11 ct11),sl11⟩)
 (c11:PySem.W.codeIn K cd11 "cleared" =true)
 (k11:PySem.W.keepIn K (.ref f11)=true)
 (a12:PySem.W.nsIn K mainGlobals "plain" =some (some (.ref f12)))
 (l12:K.lookup f12=some ⟨oc12,od12,.func (PySem.W.fnOf "plain" "plain" (bg nh) (aY nh) (ay nh) .none kV12 dc12 pm12 an12 cd12 ct12),sl12⟩)
 (c12:PySem.W.codeIn K cd12 "plain" =true)
 (k12:PySem.W.keepIn K (.ref f12)=true)
 (a13:PySem.W.nsIn K mainGlobals "still_by_one_more" =some (some (.ref f13)))
 (l13:K.lookup f13=some ⟨oc13,od13,.func (PySem.W.fnOf "still_by_one_more" "still_by_one_more" (bg dI) (aY dI) (ay dI) .none kV13 dc13 pm13 an13 cd13 ct13),sl13⟩)
 (c13:PySem.W.codeIn K cd13 "still_by_one_more" =true)
 (k13:PySem.W.keepIn K (.ref f13)=true)
 (a14:PySem.W.nsIn K mainGlobals "still" =some (some (.ref f14)))
 (l14:K.lookup f14=some ⟨oc14,od14,.func (PySem.W.fnOf "still" "still" (bg nr) (aY nr) (ay nr) .none kV14 dc14 pm14 an14 cd14 ct14),sl14⟩)
 (c14:PySem.W.codeIn K cd14 "still" =true)
 (k14:PySem.W.keepIn K (.ref f14)=true)
 (a15:PySem.W.findIn K (.ref C_Yard) "change" =some (some (.ref f15)))
 (q15:PySem.W.isFn K (.ref f15)=true)
 (l15:K.lookup f15=some ⟨oc15,od15,.func (PySem.W.fnOf "change" "Yard.change" (bg gv) (aY gv) (ay gv) .none kV15 dc15 pm15 an15 cd15 ct15),sl15⟩)
 (c15:PySem.W.codeIn K cd15 "Yard.change" =true)
 (k15:PySem.W.keepIn K (.ref f15)=true)
 (a16:PySem.W.findIn K (.ref C_Yard) "names" =some (some (.ref f16)))
 (q16:PySem.W.isFn K (.ref f16)=true)
 (l16:K.lookup f16=some ⟨oc16,od16,.func (PySem.W.fnOf "names" "Yard.names" (bg g6) (aY g6) (ay g6) .none kV16 dc16 pm16 an16 cd16 ct16),sl16⟩)
 (c16:PySem.W.codeIn K cd16 "Yard.names" =true)
 (k16:PySem.W.keepIn K (.ref f16)=true)
 (a17:PySem.W.nsIn K mainGlobals "changes" =some (some (.ref f17)))
 (l17:K.lookup f17=some ⟨oc17,od17,.func (PySem.W.fnOf "changes" "changes" (bg ky) (aY ky) (ay ky) .none kV17 dc17 pm17 an17 cd17 ct17),sl17⟩)
 (c17:PySem.W.codeIn K cd17 "changes" =true)
 (k17:PySem.W.keepIn K (.ref f17)=true)
 (a18:PySem.W.findIn K (.ref C_Yard) "goods" =some (some (.ref f18)))
 (q18:PySem.W.isFn K (.ref f18)=true)
 (l18:K.lookup f18=some ⟨oc18,od18,.func (PySem.W.fnOf "goods" "Yard.goods" (bg hJ) (aY hJ) (ay hJ) .none kV18 dc18 pm18 an18 cd18 ct18),sl18⟩)
 (c18:PySem.W.codeIn K cd18 "Yard.goods" =true)
 (k18:PySem.W.keepIn K (.ref f18)=true)
 (a19:PySem.W.nsIn K mainGlobals "kept" =some (some (.ref f19)))
 (l19:K.lookup f19=some ⟨oc19,od19,.func (PySem.W.fnOf "kept" "kept" (bg pe) (aY pe) (ay pe) .none kV19 dc19 pm19 an19 cd19 ct19),sl19⟩)
 (c19:PySem.W.codeIn K cd19 "kept" =true)
 (k19:PySem.W.keepIn K (.ref f19)=true)
 (a20:PySem.W.nsIn K mainGlobals "is_name" =some (some (.ref f20)))
 (l20:K.lookup f20=some ⟨oc20,od20,.func (PySem.W.fnOf "is_name" "is_name" (bg kv) (aY kv) (ay kv) .none kV20 dc20 pm20 an20 cd20 ct20),sl20⟩)
 (c20:PySem.W.codeIn K cd20 "is_name" =true)
 (k20:PySem.W.keepIn K (.ref f20)=true)
 (a21:PySem.W.nsIn K mainGlobals "check_many" =some (some (.ref f21)))
 (l21:K.lookup f21=some ⟨oc21,od21,.func (PySem.W.fnOf "check_many" "check_many" (bg gP) (aY gP) (ay gP) .none kV21 dc21 pm21 an21 cd21 ct21),sl21⟩)
 (c21:PySem.W.codeIn K cd21 "check_many" =true)
 (k21:PySem.W.keepIn K (.ref f21)=true)
 (a22:PySem.W.nsIn K mainGlobals "check_name" =some (some (.ref f22)))
 (l22:K.lookup f22=some ⟨oc22,od22,.func (PySem.W.fnOf "check_name" "check_name" (bg gW) (aY gW) (ay gW) .none kV22 dc22 pm22 an22 cd22 ct22),sl22⟩)
 (c22:PySem.W.codeIn K cd22 "check_name" =true)
 (k22:PySem.W.keepIn K (.ref f22)=true)
 (a23:PySem.W.nsIn K mainGlobals "check_goods" =some (some (.ref f23)))
 (l23:K.lookup f23=some ⟨oc23,od23,.func (PySem.W.fnOf "check_goods" "check_goods" (bg gi) (aY gi) (ay gi) .none kV23 dc23 pm23 an23 cd23 ct23),sl23⟩)
 (c23:PySem.W.codeIn K cd23 "check_goods" =true)
 (k23:PySem.W.keepIn K (.ref f23)=true)
 (a24:PySem.W.nsIn K mainGlobals "check_good" =some (some (.ref f24)))
 (l24:K.lookup f24=some ⟨oc24,od24,.func (PySem.W.fnOf "check_good" "check_good" (bg g5) (aY g5) (ay g5) .none kV24 dc24 pm24 an24 cd24 ct24),sl24⟩)
 (c24:PySem.W.codeIn K cd24 "check_good" =true)
 (k24:PySem.W.keepIn K (.ref f24)=true)
 (a25:PySem.W.nsIn K mainGlobals "check_amount" =some (some (.ref f25)))
 (l25:K.lookup f25=some ⟨oc25,od25,.func (PySem.W.fnOf "check_amount" "check_amount" (bg fI) (aY fI) (ay fI) .none kV25 dc25 pm25 an25 cd25 ct25),sl25⟩)
 (c25:PySem.W.codeIn K cd25 "check_amount" =true)
 (k25:PySem.W.keepIn K (.ref f25)=true)
 (a26:PySem.W.nsIn K mainGlobals "check_parts" =some (some (.ref f26)))
 (l26:K.lookup f26=some ⟨oc26,od26,.func (PySem.W.fnOf "check_parts" "check_parts" (bg gn) (aY gn) (ay gn) .none kV26 dc26 pm26 an26 cd26 ct26),sl26⟩)
 (c26:PySem.W.codeIn K cd26 "check_parts" =true)
 (k26:PySem.W.keepIn K (.ref f26)=true)
 (a27:PySem.W.nsIn K mainGlobals "check_works" =some (some (.ref f27)))
 (l27:K.lookup f27=some ⟨oc27,od27,.func (PySem.W.fnOf "check_works" "check_works" (bg gs) (aY gs) (ay gs) .none kV27 dc27 pm27 an27 cd27 ct27),sl27⟩)
 (c27:PySem.W.codeIn K cd27 "check_works" =true)
 (k27:PySem.W.keepIn K (.ref f27)=true)
 (a28:PySem.W.nsIn K mainGlobals "copy_work" =some (some (.ref f28)))
 (l28:K.lookup f28=some ⟨oc28,od28,.func (PySem.W.fnOf "copy_work" "copy_work" (bg iW) (aY iW) (ay iW) .none kV28 dc28 pm28 an28 cd28 ct28),sl28⟩)
 (c28:PySem.W.codeIn K cd28 "copy_work" =true)
 (k28:PySem.W.keepIn K (.ref f28)=true)
 (a29:PySem.W.nsIn K mainGlobals "amount_of" =some (some (.ref f29)))
 (l29:K.lookup f29=some ⟨oc29,od29,.func (PySem.W.fnOf "amount_of" "amount_of" (bg iQ) (aY iQ) (ay iQ) .none kV29 dc29 pm29 an29 cd29 ct29),sl29⟩)
 (c29:PySem.W.codeIn K cd29 "amount_of" =true)
 (k29:PySem.W.keepIn K (.ref f29)=true)
 (a30:PySem.W.nsIn K mainGlobals "change_of" =some (some (.ref f30)))
 (l30:K.lookup f30=some ⟨oc30,od30,.func (PySem.W.fnOf "change_of" "change_of" (bg iZ) (aY iZ) (ay iZ) .none kV30 dc30 pm30 an30 cd30 ct30),sl30⟩)
 (c30:PySem.W.codeIn K cd30 "change_of" =true)
 (k30:PySem.W.keepIn K (.ref f30)=true)
 (a31:PySem.W.findIn K (.ref C_Yard) "__init__" =some (some (.ref f31)))
 (q31:PySem.W.isFn K (.ref f31)=true)
 (l31:K.lookup f31=some ⟨oc31,od31,.func (PySem.W.fnOf "__init__" "Yard.__init__" (bg iV) (aY iV) (ay iV) .none kV31 dc31 pm31 an31 cd31 ct31),sl31⟩)
 (c31:PySem.W.codeIn K cd31 "Yard.__init__" =true)
 (k31:PySem.W.keepIn K (.ref f31)=true)
 (a32:PySem.W.nsIn K mainGlobals "_law_cell" =some (some (.ref f32)))
 (l32:K.lookup f32=some ⟨oc32,od32,.func (PySem.W.fnOf "_law_cell" "_law_cell" (bg jG) (aY jG) (ay jG) .none kV32 dc32 pm32 an32 cd32 ct32),sl32⟩)
 (c32:PySem.W.codeIn K cd32 "_law_cell" =true)
 (k32:PySem.W.keepIn K (.ref f32)=true)
 (a33:PySem.W.nsIn K mainGlobals "_law_pick" =some (some (.ref f33)))
 (l33:K.lookup f33=some ⟨oc33,od33,.func (PySem.W.fnOf "_law_pick" "_law_pick" (bg jQ) (aY jQ) (ay jQ) .none kV33 dc33 pm33 an33 cd33 ct33),sl33⟩)
 (c33:PySem.W.codeIn K cd33 "_law_pick" =true)
 (k33:PySem.W.keepIn K (.ref f33)=true)
 (a34:PySem.W.nsIn K mainGlobals "_law_names" =some (some (.ref f34)))
 (l34:K.lookup f34=some ⟨oc34,od34,.func (PySem.W.fnOf "_law_names" "_law_names" (bg iJ) (aY iJ) (ay iJ) .none kV34 dc34 pm34 an34 cd34 ct34),sl34⟩)
 (c34:PySem.W.codeIn K cd34 "_law_names" =true)
 (k34:PySem.W.keepIn K (.ref f34)=true)
 (a35:PySem.W.nsIn K mainGlobals "_law_move" =some (some (.ref f35)))
 (l35:K.lookup f35=some ⟨oc35,od35,.func (PySem.W.fnOf "_law_move" "_law_move" (bg jL) (aY jL) (ay jL) .none kV35 dc35 pm35 an35 cd35 ct35),sl35⟩)
 (c35:PySem.W.codeIn K cd35 "_law_move" =true)
 (k35:PySem.W.keepIn K (.ref f35)=true)
 (a36:PySem.W.nsIn K mainGlobals "_law_weights" =some (some (.ref f36)))
 (l36:K.lookup f36=some ⟨oc36,od36,.func (PySem.W.fnOf "_law_weights" "_law_weights" (bg gw) (aY gw) (ay gw) .none kV36 dc36 pm36 an36 cd36 ct36),sl36⟩)
 (c36:PySem.W.codeIn K cd36 "_law_weights" =true)
 (k36:PySem.W.keepIn K (.ref f36)=true)
 (a37:PySem.W.nsIn K mainGlobals "_law_keeping" =some (some (.ref f37)))
 (l37:K.lookup f37=some ⟨oc37,od37,.func (PySem.W.fnOf "_law_keeping" "_law_keeping" (bg gf) (aY gf) (ay gf) .none kV37 dc37 pm37 an37 cd37 ct37),sl37⟩)
 (c37:PySem.W.codeIn K cd37 "_law_keeping" =true)
 (k37:PySem.W.keepIn K (.ref f37)=true)
 (a38:PySem.W.nsIn K mainGlobals "_law_works" =some (some (.ref f38)))
 (l38:K.lookup f38=some ⟨oc38,od38,.func (PySem.W.fnOf "_law_works" "_law_works" (bg iN) (aY iN) (ay iN) .none kV38 dc38 pm38 an38 cd38 ct38),sl38⟩)
 (c38:PySem.W.codeIn K cd38 "_law_works" =true)
 (k38:PySem.W.keepIn K (.ref f38)=true)
 (a39:PySem.W.nsIn K mainGlobals "_law_common" =some (some (.ref f39)))
 (l39:K.lookup f39=some ⟨oc39,od39,.func (PySem.W.fnOf "_law_common" "_law_common" (bg g0) (aY g0) (ay g0) .none kV39 dc39 pm39 an39 cd39 ct39),sl39⟩)
 (c39:PySem.W.codeIn K cd39 "_law_common" =true)
 (k39:PySem.W.keepIn K (.ref f39)=true)
 (a40:PySem.W.nsIn K mainGlobals "_law_numbers" =some (some (.ref f40)))
 (l40:K.lookup f40=some ⟨oc40,od40,.func (PySem.W.fnOf "_law_numbers" "_law_numbers" (bg gd) (aY gd) (ay gd) .none kV40 dc40 pm40 an40 cd40 ct40),sl40⟩)
 (c40:PySem.W.codeIn K cd40 "_law_numbers" =true)
 (k40:PySem.W.keepIn K (.ref f40)=true)
 (a41:PySem.W.nsIn K mainGlobals "_law_lead" =some (some (.ref f41)))
 (l41:K.lookup f41=some ⟨oc41,od41,.func (PySem.W.fnOf "_law_lead" "_law_lead" (bg jM) (aY jM) (ay jM) .none kV41 dc41 pm41 an41 cd41 ct41),sl41⟩)
 (c41:PySem.W.codeIn K cd41 "_law_lead" =true)
 (k41:PySem.W.keepIn K (.ref f41)=true)
 (a42:PySem.W.nsIn K mainGlobals "_law_plain_so" =some (some (.ref f42)))
 (l42:K.lookup f42=some ⟨oc42,od42,.func (PySem.W.fnOf "_law_plain_so" "_law_plain_so" (bg fK) (aY fK) (ay fK) .none kV42 dc42 pm42 an42 cd42 ct42),sl42⟩)
 (c42:PySem.W.codeIn K cd42 "_law_plain_so" =true)
 (k42:PySem.W.keepIn K (.ref f42)=true)
 (a43:PySem.W.nsIn K mainGlobals "_law_comes" =some (some (.ref f43)))
 (l43:K.lookup f43=some ⟨oc43,od43,.func (PySem.W.fnOf "_law_comes" "_law_comes" (bg iR) (aY iR) (ay iR) .none kV43 dc43 pm43 an43 cd43 ct43),sl43⟩)
 (c43:PySem.W.codeIn K cd43 "_law_comes" =true)
 (k43:PySem.W.keepIn K (.ref f43)=true)
 (a44:PySem.W.nsIn K mainGlobals "law" =some (some (.ref f44)))
 (l44:K.lookup f44=some ⟨oc44,od44,.func (PySem.W.fnOf "law" "law" (bg mY) (aY mY) (ay mY) .none kV44 dc44 pm44 an44 cd44 ct44),sl44⟩)
 (c44:PySem.W.codeIn K cd44 "law" =true)
 (k44:PySem.W.keepIn K (.ref f44)=true)
 (z_isinstance:PySem.W.nsIn K mainGlobals "isinstance" =some none)
 (z_int:PySem.W.nsIn K mainGlobals "int" =some none)
 (z_bool:PySem.W.nsIn K mainGlobals "bool" =some none)
 (z_abs:PySem.W.nsIn K mainGlobals "abs" =some none)
 (z_list:PySem.W.nsIn K mainGlobals "list" =some none)
 (z_zip:PySem.W.nsIn K mainGlobals "zip" =some none)
 (z_sum:PySem.W.nsIn K mainGlobals "sum" =some none)
 (z_range:PySem.W.nsIn K mainGlobals "range" =some none)
 (z_enumerate:PySem.W.nsIn K mainGlobals "enumerate" =some none)
 (z_len:PySem.W.nsIn K mainGlobals "len" =some none)
 (z_all:PySem.W.nsIn K mainGlobals "all" =some none)
 (z_max:PySem.W.nsIn K mainGlobals "max" =some none)
 (y_MOST_LETTERS:PySem.W.nsIn K mainGlobals "MOST_LETTERS" =some (some (.int 8 t_MOST_LETTERS)))
 (y_MOST_GOODS:PySem.W.nsIn K mainGlobals "MOST_GOODS" =some (some (.int 10 t_MOST_GOODS)))
 (y_MOST_WORKS:PySem.W.nsIn K mainGlobals "MOST_WORKS" =some (some (.int 10 t_MOST_WORKS))):
 ∃fd:FuncData,(∀(s:Shared) (v:Value),BindsTo s fd ⟨[v],[]⟩ [("_law_script",v)])/\∀base:Heap,K.In base->base.Ns mainGlobals mg->fM l.prog w K mg base (CXE l.prog w) 43 fa fd ["_law_script"] (spM K (caK K) 1 xG):=by
 have e:=hfa.symm.trans (PySem.W.mg_of X G a44)
 cases e
 have hC_Yard:caK K 0=C_Yard:=by show clsAt K "Yard" =_;unfold clsAt;rw[aC_Yard]
 have cl_Yard:Cls K (caK K 0):=by rw[hC_Yard];exact⟨g1_Yard,g2_Yard,g3_Yard,g4_Yard⟩
 have na_Yard_held_changes:eY K (caK K 0) "held_changes" :=by rw[hC_Yard];exact nf_Yard_held_changes
 have na_Yard_held_works:eY K (caK K 0) "held_works" :=by rw[hC_Yard];exact nf_Yard_held_works
 have na_Yard_held_goods:eY K (caK K 0) "held_goods" :=by rw[hC_Yard];exact nf_Yard_held_goods
 have F0:=bD (st:=jO) l0 c0 k0
 have F1:=bD (st:=eJ) l1 c1 k1
 have F2:=bD (st:=kx) l2 c2 k2
 have F3:=bD (st:=lK) l3 c3 k3
 have F4:=bD (st:=eC) l4 c4 k4
 have F5:=bD (st:=oV) l5 c5 k5
 have F6:=bD (st:=m9) l6 c6 k6
 have F7:=bD (st:=lJ) l7 c7 k7
 have F8:=bD (st:=lN) l8 c8 k8
 have F9:=bD (st:=d3) l9 c9 k9
 have F10:=bD (st:=eB) l10 c10 k10
 have F11:=bD (st:=kB) l11 c11 k11
 have F12:=bD (st:=nh) l12 c12 k12
 have F13:=bD (st:=dI) l13 c13 k13
 have F14:=bD (st:=nr) l14 c14 k14
 have F15:=bD (st:=gv) l15 c15 k15
 have F16:=bD (st:=g6) l16 c16 k16
 have F17:=bD (st:=ky) l17 c17 k17
 have F18:=bD (st:=hJ) l18 c18 k18
 have F19:=bD (st:=pe) l19 c19 k19
 have F20:=bD (st:=kv) l20 c20 k20
 have F21:=bD (st:=gP) l21 c21 k21
 have F22:=bD (st:=gW) l22 c22 k22
 have F23:=bD (st:=gi) l23 c23 k23
 have F24:=bD (st:=g5) l24 c24 k24
 have F25:=bD (st:=fI) l25 c25 k25
 have F26:=bD (st:=gn) l26 c26 k26
 have F27:=bD (st:=gs) l27 c27 k27
 have F28:=bD (st:=iW) l28 c28 k28
 have F29:=bD (st:=iQ) l29 c29 k29
 have F30:=bD (st:=iZ) l30 c30 k30
 have F31:=bD (st:=iV) l31 c31 k31
 have F32:=bD (st:=jG) l32 c32 k32
 have F33:=bD (st:=jQ) l33 c33 k33
 have F34:=bD (st:=iJ) l34 c34 k34
 have F35:=bD (st:=jL) l35 c35 k35
 have F36:=bD (st:=gw) l36 c36 k36
 have F37:=bD (st:=gf) l37 c37 k37
 have F38:=bD (st:=iN) l38 c38 k38
 have F39:=bD (st:=g0) l39 c39 k39
 have F40:=bD (st:=gd) l40 c40 k40
 have F41:=bD (st:=jM) l41 c41 k41
 have F42:=bD (st:=fK) l42 c42 k42
 have F43:=bD (st:=iR) l43 c43 k43
 have F44:=bD (st:=mY) l44 c44 k44
 refine⟨PySem.W.fnOf "law" "law" (bg mY) (aY mY) (ay mY) .none kV44 dc44 pm44 an44 cd44 ct44,λs v=>.of_eq rfl,λbase _ _=> ?_⟩
 have E_is_whole:=Ai (P:=l.prog) (w:=w) (mg:=mg) (base:=base) (ca:=caK K) F0 (PySem.W.mg_of X G a0) hpt (PySem.W.mg_none_of X G z_isinstance) (PySem.W.mg_none_of X G z_int) (PySem.W.mg_none_of X G z_bool)
 have E_measure_of_two:=su (P:=l.prog) (w:=w) (mg:=mg) (base:=base) (ca:=caK K) F1 (PySem.W.mg_of X G a1) hpt (PySem.W.mg_none_of X G z_abs)
 have E_measure:=Cy (P:=l.prog) (w:=w) (mg:=mg) (base:=base) (ca:=caK K) F2 (PySem.W.mg_of X G a2) hpt E_measure_of_two.in
 have E_lowest:=DO (P:=l.prog) (w:=w) (mg:=mg) (base:=base) (ca:=caK K) F3 (PySem.W.mg_of X G a3) hpt (PySem.W.mg_none_of X G z_list) E_measure.in
 have E_sum_of_products:=qT (P:=l.prog) (w:=w) (mg:=mg) (base:=base) (ca:=caK K) F4 (PySem.W.mg_of X G a4) hpt (PySem.W.mg_none_of X G z_zip) (PySem.W.mg_none_of X G z_sum)
 have E_unit:=HR (P:=l.prog) (w:=w) (mg:=mg) (base:=base) (ca:=caK K) F5 (PySem.W.mg_of X G a5) hpt
 have E_units:=FY (P:=l.prog) (w:=w) (mg:=mg) (base:=base) (ca:=caK K) F6 (PySem.W.mg_of X G a6) hpt (PySem.W.mg_none_of X G z_range) E_unit.in
 have E_offset:=Ec (P:=l.prog) (w:=w) (mg:=mg) (base:=base) (ca:=caK K) F7 (PySem.W.mg_of X G a7) hpt (PySem.W.mg_none_of X G z_zip) E_lowest.in
 have E_column:=C1 (P:=l.prog) (w:=w) (mg:=mg) (base:=base) (ca:=caK K) F8 (PySem.W.mg_of X G a8) hpt
 have E_first_not_nought:=qx (P:=l.prog) (w:=w) (mg:=mg) (base:=base) (ca:=caK K) F9 (PySem.W.mg_of X G a9) hpt (PySem.W.mg_none_of X G z_enumerate)
 have E_with_sign_above:=rC (P:=l.prog) (w:=w) (mg:=mg) (base:=base) (ca:=caK K) F10 (PySem.W.mg_of X G a10) hpt
 have E_cleared:=BQ (P:=l.prog) (w:=w) (mg:=mg) (base:=base) (ca:=caK K) F11 (PySem.W.mg_of X G a11) hpt E_offset.in
 have E_plain:=FT (P:=l.prog) (w:=w) (mg:=mg) (base:=base) (ca:=caK K) F12 (PySem.W.mg_of X G a12) hpt (PySem.W.mg_none_of X G z_range) E_lowest.in E_first_not_nought.in E_column.in E_with_sign_above.in E_cleared.in
 have E_still_by_one_more:=pX (P:=l.prog) (w:=w) (mg:=mg) (base:=base) (ca:=caK K) F13 (PySem.W.mg_of X G a13) hpt (PySem.W.mg_none_of X G z_enumerate) E_sum_of_products.in E_first_not_nought.in E_offset.in
 have E_still:=El (P:=l.prog) (w:=w) (mg:=mg) (base:=base) (ca:=caK K) F14 (PySem.W.mg_of X G a14) hpt E_units.in E_still_by_one_more.in E_plain.in
 have E_Yard_change:=vR (P:=l.prog) (w:=w) (mg:=mg) (base:=base) (ca:=caK K) F15 (by rw[hC_Yard];exact⟨a15,q15,k15⟩) hpt (PySem.W.mg_none_of X G z_list) cl_Yard na_Yard_held_changes
 have E_Yard_names:=wU (P:=l.prog) (w:=w) (mg:=mg) (base:=base) (ca:=caK K) F16 (by rw[hC_Yard];exact⟨a16,q16,k16⟩) hpt cl_Yard na_Yard_held_works
 have E_changes:=Cw (P:=l.prog) (w:=w) (mg:=mg) (base:=base) (ca:=caK K) F17 (PySem.W.mg_of X G a17) hpt (PySem.W.mg_none_of X G z_len) (PySem.W.mg_none_of X G z_range) cl_Yard E_Yard_names E_Yard_change
 have E_Yard_goods:=xv (P:=l.prog) (w:=w) (mg:=mg) (base:=base) (ca:=caK K) F18 (by rw[hC_Yard];exact⟨a18,q18,k18⟩) hpt (PySem.W.mg_none_of X G z_list) cl_Yard na_Yard_held_goods
 have E_kept:=Hk (P:=l.prog) (w:=w) (mg:=mg) (base:=base) (ca:=caK K) F19 (PySem.W.mg_of X G a19) hpt (PySem.W.mg_none_of X G z_len) cl_Yard E_still.in E_changes.in E_Yard_goods
 have E_is_name:=Cd (P:=l.prog) (w:=w) (mg:=mg) (base:=base) (ca:=caK K) F20 (PySem.W.mg_of X G a20) hpt (PySem.W.mg_none_of X G z_len) (PySem.W.mg_none_of X G z_all) ⟨_,PySem.W.mg_of X G y_MOST_LETTERS⟩
 have E_check_many:=xl (P:=l.prog) (w:=w) (mg:=mg) (base:=base) (ca:=caK K) F21 (PySem.W.mg_of X G a21) hpt (PySem.W.mg_none_of X G z_len) ⟨_,PySem.W.mg_of X G y_MOST_GOODS⟩ ⟨_,PySem.W.mg_of X G y_MOST_WORKS⟩
 have E_check_name:=xb (P:=l.prog) (w:=w) (mg:=mg) (base:=base) (ca:=caK K) F22 (PySem.W.mg_of X G a22) hpt E_is_name.in
 have E_check_goods:=vJ (P:=l.prog) (w:=w) (mg:=mg) (base:=base) (ca:=caK K) F23 (PySem.W.mg_of X G a23) hpt (PySem.W.mg_none_of X G z_enumerate) E_check_name.in
 have E_check_good:=xE (P:=l.prog) (w:=w) (mg:=mg) (base:=base) (ca:=caK K) F24 (PySem.W.mg_of X G a24) hpt
 have E_check_amount:=t9 (P:=l.prog) (w:=w) (mg:=mg) (base:=base) (ca:=caK K) F25 (PySem.W.mg_of X G a25) hpt E_is_whole.in
 have E_check_parts:=vG (P:=l.prog) (w:=w) (mg:=mg) (base:=base) (ca:=caK K) F26 (PySem.W.mg_of X G a26) hpt E_check_good.in E_check_amount.in
 have E_check_works:=vn (P:=l.prog) (w:=w) (mg:=mg) (base:=base) (ca:=caK K) F27 (PySem.W.mg_of X G a27) hpt E_check_name.in E_check_parts.in
 have E_copy_work:=ym (P:=l.prog) (w:=w) (mg:=mg) (base:=base) (ca:=caK K) F28 (PySem.W.mg_of X G a28) hpt (PySem.W.mg_none_of X G z_list)
 have E_amount_of:=yB (P:=l.prog) (w:=w) (mg:=mg) (base:=base) (ca:=caK K) F29 (PySem.W.mg_of X G a29) hpt (PySem.W.mg_none_of X G z_sum)
 have E_change_of:=zH (P:=l.prog) (w:=w) (mg:=mg) (base:=base) (ca:=caK K) F30 (PySem.W.mg_of X G a30) hpt E_amount_of.in
 have E_Yard_init:=zK (P:=l.prog) (w:=w) (mg:=mg) (base:=base) (ca:=caK K) F31 (by rw[hC_Yard];exact⟨mk_Yard,a31,q31,kC_Yard⟩) (by rw[hC_Yard];exact PySem.W.mg_of X G aC_Yard) hpt (PySem.W.mg_none_of X G z_list) cl_Yard na_Yard_held_goods na_Yard_held_works na_Yard_held_changes E_check_many.in E_check_goods.in E_check_works.in E_copy_work.in E_change_of.in
 have E_law_cell:=Au (P:=l.prog) (w:=w) (mg:=mg) (base:=base) (ca:=caK K) F32 (PySem.W.mg_of X G a32) hpt (PySem.W.mg_none_of X G z_len)
 have E_law_pick:=Av (P:=l.prog) (w:=w) (mg:=mg) (base:=base) (ca:=caK K) F33 (PySem.W.mg_of X G a33) hpt
 have E_law_names:=yV (P:=l.prog) (w:=w) (mg:=mg) (base:=base) (ca:=caK K) F34 (PySem.W.mg_of X G a34) hpt (PySem.W.mg_none_of X G z_range) (PySem.W.mg_none_of X G z_len) E_law_pick.in
 have E_law_move:=z3 (P:=l.prog) (w:=w) (mg:=mg) (base:=base) (ca:=caK K) F35 (PySem.W.mg_of X G a35) hpt (PySem.W.mg_none_of X G z_int) (PySem.W.mg_none_of X G z_range) E_law_pick.in
 have E_law_weights:=vH (P:=l.prog) (w:=w) (mg:=mg) (base:=base) (ca:=caK K) F36 (PySem.W.mg_of X G a36) hpt (PySem.W.mg_none_of X G z_range) (PySem.W.mg_none_of X G z_max) E_law_pick.in
 have E_law_keeping:=u1 (P:=l.prog) (w:=w) (mg:=mg) (base:=base) (ca:=caK K) F37 (PySem.W.mg_of X G a37) hpt (PySem.W.mg_none_of X G z_len) (PySem.W.mg_none_of X G z_int) (PySem.W.mg_none_of X G z_range) (PySem.W.mg_none_of X G z_sum) E_law_cell.in E_law_pick.in E_law_move.in
 have E_law_works:=yx (P:=l.prog) (w:=w) (mg:=mg) (base:=base) (ca:=caK K) F38 (PySem.W.mg_of X G a38) hpt (PySem.W.mg_none_of X G z_enumerate) (PySem.W.mg_none_of X G z_max) E_law_pick.in
 have E_law_common:=wY (P:=l.prog) (w:=w) (mg:=mg) (base:=base) (ca:=caK K) F39 (PySem.W.mg_of X G a39) hpt (PySem.W.mg_none_of X G z_abs)
 have E_law_numbers:=vj (P:=l.prog) (w:=w) (mg:=mg) (base:=base) (ca:=caK K) F40 (PySem.W.mg_of X G a40) hpt (PySem.W.mg_none_of X G z_isinstance) (PySem.W.mg_none_of X G z_list) (PySem.W.mg_none_of X G z_len) (PySem.W.mg_none_of X G z_int) (PySem.W.mg_none_of X G z_bool) (PySem.W.mg_none_of X G z_all)
 have E_law_lead:=AE (P:=l.prog) (w:=w) (mg:=mg) (base:=base) (ca:=caK K) F41 (PySem.W.mg_of X G a41) hpt (PySem.W.mg_none_of X G z_enumerate)
 have E_law_plain_so:=uJ (P:=l.prog) (w:=w) (mg:=mg) (base:=base) (ca:=caK K) F42 (PySem.W.mg_of X G a42) hpt (PySem.W.mg_none_of X G z_isinstance) (PySem.W.mg_none_of X G z_list) (PySem.W.mg_none_of X G z_all) (PySem.W.mg_none_of X G z_len) E_law_numbers.in E_law_lead.in E_law_common.in
 have E_law_comes:=yf (P:=l.prog) (w:=w) (mg:=mg) (base:=base) (ca:=caK K) F43 (PySem.W.mg_of X G a43) hpt (PySem.W.mg_none_of X G z_zip) E_law_lead.in
 have E_law:=JT (P:=l.prog) (w:=w) (mg:=mg) (base:=base) (ca:=caK K) F44 (PySem.W.mg_of X G a44) hpt (PySem.W.mg_none_of X G z_len) (PySem.W.mg_none_of X G z_zip) (PySem.W.mg_none_of X G z_sum) (PySem.W.mg_none_of X G z_list) E_law_cell.in E_law_pick.in E_law_weights.in E_law_keeping.in E_law_names.in E_Yard_init E_law_works.in E_kept.in E_law_plain_so.in E_law_comes.in E_plain.in
 exact E_law.1
end Lk26
open PySem PySem.W PyProof.Rows
theorem PySem.W.Fast.tw18250853168259047600:True:=⟨⟩
theorem PySem.W.Fast.tw11068800727847268645:True:=⟨⟩
theorem PySem.W.Fast.tw5930600386056058961:True:=⟨⟩
theorem PySem.W.Fast.tw8083573249412500569:True:=⟨⟩
theorem PySem.W.Fast.tw2994868239500886496:True:=⟨⟩
theorem PySem.W.Fast.tw11530550144723000486:True:=⟨⟩
theorem PySem.W.Fast.tw17564507174629541312:True:=⟨⟩
theorem PySem.W.Fast.tw6883580554261499808:True:=⟨⟩
theorem PySem.W.Fast.tw17222242754032328786:True:=⟨⟩
theorem PySem.W.Fast.tw3414156645873152588:True:=⟨⟩
theorem PySem.W.Fast.tw3638711526128803457:True:=⟨⟩
theorem PySem.W.Fast.tw18240606010771225267:True:=⟨⟩
theorem PySem.W.Fast.tw9491208985177890753:True:=⟨⟩
theorem PySem.W.Fast.tw17498764670978958332:True:=⟨⟩
theorem PySem.W.Fast.tw13972082614265207309:True:=⟨⟩
theorem PySem.W.Fast.tw2144992241037897966:True:=⟨⟩
theorem PySem.W.Fast.tw16913374609394155392:True:=⟨⟩
theorem PySem.W.Fast.tw16554997580852198374:True:=⟨⟩
theorem PySem.W.Fast.tw2609760543551048177:True:=⟨⟩
theorem PySem.W.Fast.tw7756650356716742059:True:=⟨⟩
theorem PySem.W.Fast.tw8627177461392470657:True:=⟨⟩
theorem PySem.W.Fast.tw12028712973068905704:True:=⟨⟩
theorem PySem.W.Fast.tw2822902285865282829:True:=⟨⟩
theorem PySem.W.Fast.tw10086512912286882990:True:=⟨⟩
theorem PySem.W.Fast.tw18057012175677626886:True:=⟨⟩
theorem PySem.W.Fast.tw15393323057231000610:True:=⟨⟩
theorem PySem.W.Fast.tw129708886132588668:True:=⟨⟩
theorem PySem.W.Fast.tw2526944303032076240:True:=⟨⟩
theorem PySem.W.Fast.tw14635202699636196009:True:=⟨⟩
theorem PySem.W.Fast.tw11013538698017739459:True:=⟨⟩
theorem PySem.W.Fast.tw17834378787700771359:True:=⟨⟩
theorem PySem.W.Fast.tw16333660466678744242:True:=⟨⟩
theorem PySem.W.Fast.tw7585999424181437015:True:=⟨⟩
theorem PySem.W.Fast.tw18051184475785422823:True:=⟨⟩
theorem PySem.W.Fast.tw13670588869947090560:True:=⟨⟩
theorem PySem.W.Fast.tw10213952162551413695:True:=⟨⟩
theorem PySem.W.Fast.tw10887844811139445870:True:=⟨⟩
theorem PySem.W.Fast.tw6188497331429549183:True:=⟨⟩
theorem PySem.W.Fast.tw3384270185829896808:True:=⟨⟩
theorem PySem.W.Fast.tw603721107429130172:True:=⟨⟩
theorem PySem.W.Fast.tw12305897633260852677:True:=⟨⟩
theorem PySem.W.Fast.tw11963500266505934760:True:=⟨⟩
theorem PySem.W.Fast.tw8353679026416498073:True:=⟨⟩
theorem PySem.W.Fast.tw7077694359471280070:True:=⟨⟩
theorem PySem.W.Fast.tw601417666227167811:True:=⟨⟩
theorem PySem.W.Fast.tw1149466997665099506:True:=⟨⟩
theorem PySem.W.Fast.tw2797977905369424306:True:=⟨⟩
theorem PySem.W.Fast.tw3299853414055878023:True:=⟨⟩
theorem PySem.W.Fast.tw7852571462716015012:True:=⟨⟩
theorem PySem.W.Fast.tw11701119463373990416:True:=⟨⟩
theorem PySem.W.Fast.tw10119163965152087942:True:=⟨⟩
theorem PySem.W.Fast.tw2227610543722006407:True:=⟨⟩
theorem PySem.W.Fast.tw11909635832318569733:True:=⟨⟩
theorem PySem.W.Fast.tw1286670124063919431:True:=⟨⟩
theorem PySem.W.Fast.tw2945787694383433970:True:=⟨⟩
theorem PySem.W.Fast.tw13500929863886025361:True:=⟨⟩
theorem PySem.W.Fast.tw4368001512054819851:True:=⟨⟩
theorem PySem.W.Fast.tw2030794128010732772:True:=⟨⟩
theorem PySem.W.Fast.tw1636588308302052388:True:=⟨⟩
theorem PySem.W.Fast.tw1489529725906921569:True:=⟨⟩
set_option maxRecDepth 100000 in
set_option maxHeartbeats 0 in
theorem PySem.Challenge.cw_modeyard_k26_kept_sums_holds : PySem.Challenge.rw_modeyard_k26_kept_sums.Holds := by
 w_on;o_law;k_head;(case hw=>w_witness2)
 k_fill
 refine L2.FL (l:=PySem.Challenge.rw_modeyard_k26_kept_sums) (n:=63) (k:=43) (x:="_law_script") (sp:=λK=>M.spM K (Lk26.caK K) 1 Lk26.xG) rfl (by decide) rfl ⟨rfl,by decide,by decide⟩ (by decide +kernel) (λw h Y=>PySem.W.kIn_of Y) ?F ?S
 case F=>
  intro w mg fa h KX G hmg
  refine' Lk26.all_mk KX G hmg rfl ?aC_Yard ?g1_Yard ?g2_Yard ?g3_Yard ?g4_Yard ?mk_Yard ?kC_Yard ?nf_Yard_held_changes ?nf_Yard_held_works ?nf_Yard_held_goods ?a0 ?l0 ?c0 ?k0 ?a1 ?l1 ?c1 ?k1 ?a2 ?l2 ?c2 ?k2 ?a3 ?l3 ?c3 ?k3 ?a4 ?l4 ?c4 ?k4 ?a5 ?l5 ?c5 ?k5 ?a6 ?l6 ?c6 ?k6 ?a7 ?l7 ?c7 ?k7 ?a8 ?l8 ?c8 ?k8 ?a9 ?l9 ?c9 ?k9 ?a10 ?l10 ?c10 ?k10 ?a11 ?l11 ?c11 ?k11 ?a12 ?l12 ?c12 ?k12 ?a13 ?l13 ?c13 ?k13 ?a14 ?l14 ?c14 ?k14 ?a15 ?q15 ?l15 ?c15 ?k15 ?a16 ?q16 ?l16 ?c16 ?k16 ?a17 ?l17 ?c17 ?k17 ?a18 ?q18 ?l18 ?c18 ?k18 ?a19 ?l19 ?c19 ?k19 ?a20 ?l20 ?c20 ?k20 ?a21 ?l21 ?c21 ?k21 ?a22 ?l22 ?c22 ?k22 ?a23 ?l23 ?c23 ?k23 ?a24 ?l24 ?c24 ?k24 ?a25 ?l25 ?c25 ?k25 ?a26 ?l26 ?c26 ?k26 ?a27 ?l27 ?c27 ?k27 ?a28 ?l28 ?c28 ?k28 ?a29 ?l29 ?c29 ?k29 ?a30 ?l30 ?c30 ?k30 ?a31 ?q31 ?l31 ?c31 ?k31 ?a32 ?l32 ?c32 ?k32 ?a33 ?l33 ?c33 ?k33 ?a34 ?l34 ?c34 ?k34 ?a35 ?l35 ?c35 ?k35 ?a36 ?l36 ?c36 ?k36 ?a37 ?l37 ?c37 ?k37 ?a38 ?l38 ?c38 ?k38 ?a39 ?l39 ?c39 ?k39 ?a40 ?l40 ?c40 ?k40 ?a41 ?l41 ?c41 ?k41 ?a42 ?l42 ?c42 ?k42 ?a43 ?l43 ?c43 ?k43 ?a44 ?l44 ?c44 ?k44 ?z_isinstance ?z_int ?z_bool ?z_abs ?z_list ?z_zip ?z_sum ?z_range ?z_enumerate ?z_len ?z_all ?z_max ?y_MOST_LETTERS ?y_MOST_GOODS ?y_MOST_WORKS
  (case aC_Yard=>k_is)
  (case g1_Yard=>k_is)
  (case g2_Yard=>k_is)
  (case g3_Yard=>k_is)
  (case g4_Yard=>k_is)
  (case mk_Yard=>k_is)
  (case kC_Yard=>k_is)
  (case nf_Yard_held_changes=>k_is)
  (case nf_Yard_held_works=>k_is)
  (case nf_Yard_held_goods=>k_is)
  (case a0=>k_is)
  (case l0=>k_is)
  (case c0=>k_is)
  (case k0=>k_is)
  (case a1=>k_is)
  (case l1=>k_is)
  (case c1=>k_is)
  (case k1=>k_is)
  (case a2=>k_is)
  (case l2=>k_is)
  (case c2=>k_is)
  (case k2=>k_is)
  (case a3=>k_is)
  (case l3=>k_is)
  (case c3=>k_is)
  (case k3=>k_is)
  (case a4=>k_is)
  (case l4=>k_is)
  (case c4=>k_is)
  (case k4=>k_is)
  (case a5=>k_is)
  (case l5=>k_is)
  (case c5=>k_is)
  (case k5=>k_is)
  (case a6=>k_is)
  (case l6=>k_is)
  (case c6=>k_is)
  (case k6=>k_is)
  (case a7=>k_is)
  (case l7=>k_is)
  (case c7=>k_is)
  (case k7=>k_is)
  (case a8=>k_is)
  (case l8=>k_is)
  (case c8=>k_is)
  (case k8=>k_is)
  (case a9=>k_is)
  (case l9=>k_is)
  (case c9=>k_is)
  (case k9=>k_is)
  (case a10=>k_is)
  (case l10=>k_is)
  (case c10=>k_is)
  (case k10=>k_is)
  (case a11=>k_is)
  (case l11=>k_is)
  (case c11=>k_is)
  (case k11=>k_is)
  (case a12=>k_is)
  (case l12=>k_is)
  (case c12=>k_is)
  (case k12=>k_is)
  (case a13=>k_is)
  (case l13=>k_is)
  (case c13=>k_is)
  (case k13=>k_is)
  (case a14=>k_is)
  (case l14=>k_is)
  (case c14=>k_is)
  (case k14=>k_is)
  (case a15=>k_is)
  (case q15=>k_is)
  (case l15=>k_is)
  (case c15=>k_is)
  (case k15=>k_is)
  (case a16=>k_is)
  (case q16=>k_is)
  (case l16=>k_is)
  (case c16=>k_is)
  (case k16=>k_is)
  (case a17=>k_is)
  (case l17=>k_is)
  (case c17=>k_is)
  (case k17=>k_is)
  (case a18=>k_is)
  (case q18=>k_is)
  (case l18=>k_is)
  (case c18=>k_is)
  (case k18=>k_is)
  (case a19=>k_is)
  (case l19=>k_is)
  (case c19=>k_is)
  (case k19=>k_is)
  (case a20=>k_is)
  (case l20=>k_is)
  (case c20=>k_is)
  (case k20=>k_is)
  (case a21=>k_is)
  (case l21=>k_is)
  (case c21=>k_is)
  (case k21=>k_is)
  (case a22=>k_is)
  (case l22=>k_is)
  (case c22=>k_is)
  (case k22=>k_is)
  (case a23=>k_is)
  (case l23=>k_is)
  (case c23=>k_is)
  (case k23=>k_is)
  (case a24=>k_is)
  (case l24=>k_is)
  (case c24=>k_is)
  (case k24=>k_is)
  (case a25=>k_is)
  (case l25=>k_is)
  (case c25=>k_is)
  (case k25=>k_is)
  (case a26=>k_is)
  (case l26=>k_is)
  (case c26=>k_is)
  (case k26=>k_is)
  (case a27=>k_is)
  (case l27=>k_is)
  (case c27=>k_is)
  (case k27=>k_is)
  (case a28=>k_is)
  (case l28=>k_is)
  (case c28=>k_is)
  (case k28=>k_is)
  (case a29=>k_is)
  (case l29=>k_is)
  (case c29=>k_is)
  (case k29=>k_is)
  (case a30=>k_is)
  (case l30=>k_is)
  (case c30=>k_is)
  (case k30=>k_is)
  (case a31=>k_is)
  (case q31=>k_is)
  (case l31=>k_is)
  (case c31=>k_is)
  (case k31=>k_is)
  (case a32=>k_is)
  (case l32=>k_is)
  (case c32=>k_is)
  (case k32=>k_is)
  (case a33=>k_is)
  (case l33=>k_is)
  (case c33=>k_is)
  (case k33=>k_is)
  (case a34=>k_is)
  (case l34=>k_is)
  (case c34=>k_is)
  (case k34=>k_is)
  (case a35=>k_is)
  (case l35=>k_is)
  (case c35=>k_is)
  (case k35=>k_is)
  (case a36=>k_is)
  (case l36=>k_is)
  (case c36=>k_is)
  (case k36=>k_is)
  (case a37=>k_is)
  (case l37=>k_is)
  (case c37=>k_is)
  (case k37=>k_is)
  (case a38=>k_is)
  (case l38=>k_is)
  (case c38=>k_is)
  (case k38=>k_is)
  (case a39=>k_is)
  (case l39=>k_is)
  (case c39=>k_is)
  (case k39=>k_is)
  (case a40=>k_is)
  (case l40=>k_is)
  (case c40=>k_is)
  (case k40=>k_is)
  (case a41=>k_is)
  (case l41=>k_is)
  (case c41=>k_is)
  (case k41=>k_is)
  (case a42=>k_is)
  (case l42=>k_is)
  (case c42=>k_is)
  (case k42=>k_is)
  (case a43=>k_is)
  (case l43=>k_is)
  (case c43=>k_is)
  (case k43=>k_is)
  (case a44=>k_is)
  (case l44=>k_is)
  (case c44=>k_is)
  (case k44=>k_is)
  (case z_isinstance=>k_is)
  (case z_int=>k_is)
  (case z_bool=>k_is)
  (case z_abs=>k_is)
  (case z_list=>k_is)
  (case z_zip=>k_is)
  (case z_sum=>k_is)
  (case z_range=>k_is)
  (case z_enumerate=>k_is)
  (case z_len=>k_is)
  (case z_all=>k_is)
  (case z_max=>k_is)
  (case y_MOST_LETTERS=>k_is)
  (case y_MOST_GOODS=>k_is)
  (case y_MOST_WORKS=>k_is)
 case S=>exact λK H a ns hl _ hS=>M.JD hS (Lk26.ER ns hl)