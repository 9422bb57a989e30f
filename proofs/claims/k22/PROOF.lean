import PyProof.Rows.All
import Wide.All
import OpenK.AllK
import Wide.FinOn
import Lean
import PyProof.EqAt
import PyProof.EqKinds
import PyProof.TupleCall
import PySem.Challenge.RW_modeyard_k22_balanced_ways_parted
set_option Elab.async false
set_option linter.all false
set_option maxRecDepth 100000
open Array renaming getD_eq_getD_getElem?→T7,getElem?_toList→Up,length_toList→UX,perm_iff_toList_perm→U9,toList_inj→Vq,getElem_toList→VH,toList_map→V9,toList→WB
open Bool renaming false_ne_true→SD,and_eq_true→To,beq_eq_decide_eq→TC,eq_iff_iff→TK,true_and→Uy,or_eq_true→UU,false_and→U0,or_false→U8,and_false→VF,false_eq_true→VQ,eq_false_iff→V4,true_or→WG
open Classical renaming byContradiction→TH,propDecidable→Vx
open Eq renaming trans→SR
open False renaming elim→R5
open ForInStep renaming yield→Uh
open Function renaming comp_def→V0
open Iff renaming rfl→Ws
open Int renaming gcd→SW,emod_lt_of_pos→Tf,emod_nonneg→Tw,natAbs_natCast→TD,mul_nonneg→TF,natAbs_of_nonneg→TQ,mul_comm→TR,zero_mul→TU,mul_pos→T4,mul_eq_zero→Ua,mul_fdiv_cancel_left→Ue,toNat_natCast→Ul,eq_of_mul_eq_mul_left→UA,mul_neg_of_pos_of_neg→UC,mul_nonpos_of_nonneg_of_nonpos→UH,natAbs_dvd_natAbs→UQ,neg_mul_neg→US,mul_le_mul_of_nonneg_right→UT,natAbs_mul→U2,gcd_pos_of_ne_zero_right→U4,mul_zero→Vu,mul_ne_zero→VC,natAbs_neg→VE,le_of_lt→VR,add_zero→VU,natAbs_add_le→V1,natCast_emod→Wa,natAbs_zero→Wi,mul_assoc→Ww
open List renaming getD_eq_getElem?_getD→R6,length_map→R9,getElem?_eq_getElem→Sa,replicate→Sb,range→Sg,getElem?_append_right→Sj,mem_cons_of_mem→Sl,map_cons→Sm,map_map→So,size_toArray→Sq,mem_cons_self→Sr,length_cons→Ss,mem_map→Su,mem_singleton→Sv,getElem?_append_left→Sw,getElem?_eq_some_iff→Sx,mem_append→Sy,mem_cons→SA,nil_append→SE,getElem?_map→SF,map_append→SG,length_append→SH,mem_filter→SK,length_singleton→SN,mem_map_of_mem→SU,getElem?_replicate→SV,mem_of_getElem?→SY,mem_append_right→S0,filter_cons_of_pos→S2,mem_range→S3,map_nil→S5,getElem_mem→S6,append_assoc→S7,filter_cons_of_neg→S9,of_mem_zip→Ta,getElem?_set_self→Tb,drop_eq_getElem_cons→Tc,replicate_succ→Td,getElem?_set_ne→Tg,lookup_cons→Th,take_of_length_le→Ti,getElem_of_mem→Tk,toArray→Tp,zipWith→Tq,append_nil→Tu,nodup_cons→Tv,filterMap_cons→Tx,length_zipWith→Tz,pairwise_cons→TB,length_zip→TN,flatten_cons→TV,nodup_append→TW,length_take→TX,not_mem_nil→TY,all_eq_true→TZ,length→T3,map_inj_right→T8,foldl_cons→T9,filter_map→Ub,ext_getElem→Ud,lookup→Uj,take_add_one→Um,length_replicate→Uo,any_map→Uq,getElem?_eq_none→Ur,length_filter_le→Us,mem_append_left→Ut,getElem_map→Uv,any_cons→Ux,map_congr_left→Uz,mapIdx_eq_zipIdx_map→UB,all_map→UD,mem_replicate→UE,map_replicate→UF,length_range→UI,range_succ_eq_map→UJ,drop_eq_nil_of_le→UK,all_cons→UL,mem_nil_iff→UM,getElem?_zipWith→UP,mem_of_mem_take→UV,map_const'→UW,drop_zero→U3,lookup_append→U6,zip_cons_cons→U7,sum_cons→Va,any_eq_false→Vc,pairwise_map→Ve,foldl_append→Vf,getElem?_eq_none_iff→Vg,pairwise_iff_getElem→Vh,getElem?_take_of_lt→Vm,drop_length→Vp,mem_flatMap→Vs,any_eq_true→Vv,zipIdx_cons→Vw,zipIdx_map→VB,getElem_zipWith→VI,getD_cons_succ→VL,getD_cons_zero→VM,getElem?_range→VN,mem_filterMap→VP,filter_congr→V2,getElem_inj→V5,length_drop→V7,zipWith_map→Wb,mem_reverse→Wc,map_reverse→Wd,flatMap_map→We,foldl→Wf,Nodup→Wm,range_succ→Wn,sum_append→Wo,zipIdx_nil→Wp,nodup_nil→Wr,map_take→Wv
open List.Pairwise renaming imp_of_mem→Uf,nil→VX
open Nat renaming le_refl→Si,lt_of_lt_of_le→SJ,ne_of_lt→SX,zero_le→S1,le_trans→S4,add_sub_cancel_left→S8,gcd→Te,lt_irrefl→Tr,le_of_lt→T5,testBit_or→Uc,pow_le_pow_right→Uw,testBit_two_pow→UZ,lt_succ_self→Vk,le_add_right→Vo,gcd_comm→Vr,sub_self→Vt,le_succ→VD,eq_of_testBit_eq→VJ,gcd_zero_right→VS,sub_zero→VT,add_zero→VV,lt_succ_of_lt→VZ,lt_trichotomy→V3,not_lt→Wh,min_eq_left→Wj,two_pow_pos→Wl,dvd_trans→Wu
open Ne renaming symm→UN
open Option renaming map_some→Tn,isSome_iff_exists→Vl,getD_some→Vn,getD_none→V8
open Option.some renaming inj→Tt,injEq→VY
open Or renaming inl→R8,inr→Ts
open PyProof.Rows renaming callWith_type1→T6
open PySem renaming mem_of_lookup→Ug,Within→VO,call→Wg
open PySem.EqMixed renaming eq_bool_str→Wx,eq_str_bool→Wy,ne_bool_str→Wz,ne_str_bool→WA,eq_int_str→WC,eq_str_int→WD,ne_int_str→WE,ne_str_int→WF
open PySem.F renaming plainAttrs_list→SI,slot_list_append→SO,type_list_append→SQ,slot_list_lt→VG
open PySem.W renaming Frag→R4,mg_none_of→R7,keepIn→Sd,nsIn→Se,codeIn→Sf,fnOf→Sk,mg_of→Sn,findIn→SS,emptyDict→Tj,instObj→TJ,isFn→TL,kia_one→Ui,cellsFrom_some→Uk,plainGet→Uu,hasDictIn→UG,methodCall_KW→UO,plainGet_of→UY,lookIn→U1,callWith_K→U5,methodObj→Vb,plainOver→Vd,takerIn→Vy,makesIn→Vz,OpenLaw→VA,specialIn→VW,handedIn→V6,kitOne→Wq,WalkO→Wt
open PySem.W.Looks renaming here→WH
open Sum renaming inl→Vi,inr→Vj
open True renaming intro→UR
namespace L2
open PySem PySem.Spec PyProof.Rows
abbrev Key:=Sum Int Str
def Kl:Key->Value->Bool
 | .inl k,v=>Value.isInt k v
 | .inr x,v=>Value.isStrOf x v
def Pn(w:World):Key->Int
 | .inl k=>hashInt k
 | .inr x=>hashStr w x
theorem gj:∀{k:Key} {v:Value},Kl k v=true->(∃i t,k=Vi i/\v=Value.int i t)\/(∃x t,k=Vj x/\v=Value.str x t)
 | .inl i,v,h=>by
  obtain⟨t,e⟩:=Value.isInt_shape (k:=i) (v:=v) h
  exact .inl ⟨i,t,rfl,e⟩
 | .inr x,v,h=>by
  obtain⟨t,e⟩:=Value.isStrOf_shape (x:=x) (v:=v) h
  exact .inr ⟨x,t,rfl,e⟩
theorem M6(a b:Int):decide ((Vi a:Key)=Vi b)=(a == b):=by
 by_cases e:a=b
 ·subst e;simp
 ·have h:¬(Vi a:Key)=Vi b:=λq=>e (Sum.inl.inj q)
  rw[decide_eq_false h]
  exact(beq_eq_false_iff_ne.mpr e).symm
theorem My(a b:Str):decide ((Vj a:Key)=Vj b)=decide (a=b):=by
 by_cases e:a=b
 ·subst e;simp
 ·have h:¬(Vj a:Key)=Vj b:=λq=>e (Sum.inr.inj q)
  rw[decide_eq_false h,decide_eq_false e]
theorem Np(a:Int)(b:Str):decide ((Vi a:Key)=Vj b)=false:=decide_eq_false (λq=>nomatch q)
theorem MU(a:Str)(b:Int):decide ((Vj a:Key)=Vi b)=false:=decide_eq_false (λq=>nomatch q)
def xU(prog:Program)(w:World):PySem.KeyKind prog w Key where
 is:=Kl
 hash:=Pn w
 inj:=λv a b ha hb=>by
  rcases gj ha with⟨i,t,rfl,rfl⟩ | ⟨x,t,rfl,rfl⟩
  ·rcases gj hb with⟨j,u,rfl,e⟩ | ⟨y,u,rfl,e⟩
   ·injection e with e1 _;rw[e1]
   ·exact nomatch e
  ·rcases gj hb with⟨j,u,rfl,e⟩ | ⟨y,u,rfl,e⟩
   ·exact nomatch e
   ·injection e with e1 _;rw[e1]
 byValue:=λk v h=>by
  rcases gj h with⟨i,t,rfl,rfl⟩ | ⟨x,t,rfl,rfl⟩ <;> rfl
 pyHash:=λhv h=>by
  rcases gj hv with⟨i,t,rfl,rfl⟩ | ⟨x,t,rfl,rfl⟩
  ·exact wpAny_pyHash_int h
  ·exact wpAny_pyHash_str h
 eqBool:=λhu hv h=>by
  rcases gj hu with⟨i,t,rfl,rfl⟩ | ⟨x,t,rfl,rfl⟩
  ·rcases gj hv with⟨j,u,rfl,rfl⟩ | ⟨y,u,rfl,rfl⟩
   ·rw[M6] at h;exact wpAny_eqBool_int h
   ·rw[Np] at h;exact SeqAt.EqAt.int_str i t y u _ _ _ _ h
  ·rcases gj hv with⟨j,u,rfl,rfl⟩ | ⟨y,u,rfl,rfl⟩
   ·rw[MU] at h;exact SeqAt.EqAt.str_int x t j u _ _ _ _ h
   ·rw[My] at h;exact wpAny_eqBool_str h
 «strs»:=λk x t v h=>by
  rcases gj h with⟨i,u,rfl,e⟩ | ⟨y,u,rfl,e⟩
  ·exact nomatch e
  ·injection e with e1 _
   subst e1
   cases v <;> rfl
inductive V where
 | non | bl (b:Bool) | int (i:Int) | str (x:Str) | byt (b:Array UInt8) | flt (b:UInt64) | ref (a:Addr) | ty (n:String)
 deriving DecidableEq
def RelV:V->Value->Prop
 | .non,u=>u=Value.none
 | .bl b,u=>u=Value.bool b
 | .int i,u=>∃t,u=Value.int i t
 | .str x,u=>∃t,u=Value.str x t
 | .byt b,u=>∃t,u=Value.bytes b t
 | .flt b,u=>∃t,u=Value.float b t
 | .ref a,u=>u=Value.ref a
 | .ty n,u=>u=Value.type n
abbrev Vals:List V->List Value->Prop:=Paired RelV
theorem Vals.length{xs:List V}{us:List Value}(r:Vals xs us):xs.length=us.length:=Paired.length r
theorem Vals.get:∀{xs:List V} {us:List Value} {i:Nat} {x:V},Vals xs us->xs[i]? =some x->∃u,us[i]? =some u/\RelV x u
 | _,_,_,_,.nil,e=>by simp at e
 | _,_,0,_,.cons r _,e=>by simp at e;subst e;exact⟨_,rfl,r⟩
 | _,_,i+1,x,.cons _ t,e=>by
  obtain⟨u,h1,h2⟩:=Vals.get (i:=i) (x:=x) t (by simpa using e)
  exact⟨u,by simpa using h1,h2⟩
theorem Vals.set{x:V}{u:Value}(r:RelV x u):∀{xs:List V} {us:List Value} (i:Nat),Vals xs us->Vals (xs.set i x) (us.set i u)
 | _,_,_,.nil=>.nil
 | _,_,0,.cons _ t=>.cons r t
 | _,_,i+1,.cons q t=>.cons q (Vals.set r i t)
theorem Vals.append:∀{xs ys:List V} {us ws:List Value},Vals xs us->Vals ys ws->Vals (xs++ys) (us++ws)
 | _,_,_,_,.nil,s=>s
 | _,_,_,_,.cons r t,s=>.cons r (Vals.append t s)
theorem Vals.take:∀{xs:List V} {us:List Value} (n:Nat),Vals xs us->Vals (xs.take n) (us.take n)
 | _,_,0,_=>.nil
 | _,_,_+1,.nil=>.nil
 | _,_,n+1,.cons r t=>.cons r (Vals.take n t)
theorem Vals.drop:∀{xs:List V} {us:List Value} (n:Nat),Vals xs us->Vals (xs.drop n) (us.drop n)
 | _,_,0,r=>r
 | _,_,_+1,.nil=>.nil
 | _,_,n+1,.cons _ t=>Vals.drop n t
def qL:Option V->Option Value->Prop
 | some v,some u=>RelV v u
 | none,none=>True
 | _,_=>False
def KV{κ:Type}:List (κ×V)->List (κ×Value)->Prop:=Paired λ(p:κ×V) (q:κ×Value)=>p.1=q.1/\RelV p.2 q.2
def kV:Key->V
 | .inl i=>.int i
 | .inr x=>.str x
inductive HO where
 | lst (xs:List V)
 | tup (xs:List V)
 | dK (kvs:List (Key×V)) | dT (kvs:List (List Key×V))
 | set (S:Int->Bool) (n:Nat)
 | ins (C dx:Addr) (fs:List (Str×V))
 | own (x:Addr)
 | xd (fs:List (Str×V))
 | met (f x:Addr)
 | rng (lo hi:Int)
 | frz (o:Obj) (u:HO)
 | tbl (ps:Array Value)
 | ext (φ:Heap->Prop)
abbrev Hp:=Addr->Option HO
def upd(H:Hp)(a:Addr)(o:HO):Hp:=λb=>if b=a then some o else H b
theorem cU{H:Hp}{a:Addr}{o:HO}:upd H a o a=some o:=by unfold upd;rw[if_pos rfl]
theorem aV{H:Hp}{a b:Addr}{o:HO}(h:b≠a):upd H a o b=H b:=by unfold upd;rw[if_neg h]
theorem gi{H:Hp}{a b:Addr}{o:HO}(h:H a=some o)(h':H b=none):a≠b:=by
 intro e;subst e;rw[h] at h';cases h'
section
variable (P : Program) (w : World)
def iY(H:Hp)(h:Heap)(a:Addr):HO->Prop
 | .lst xs=>xs.length<=sizeLine/\∃(J:List Value) (n:Nat),Vals xs J/\h.get? a=some {cls:=.type "list",data:=.seq J.toArray n}
 | .tup xs=>xs.length<=sizeLine/\∃J:List Value,Vals xs J/\IsTup h a J.toArray
 | .dK Y=>Y.length<=sizeLine/\(a == sysModules)=false/\∃vs,KV Y vs/\h.DictOf (xU P w) a vs
 | .dT Y=>Y.length<=sizeLine/\(a == sysModules)=false/\∃xs:List (List Key×Addr×Value),
  Paired (λ(p:List Key×V) (q:List Key×Addr×Value)=>p.1=q.1/\H q.2.1=some (.tup (p.1.map kV))/\RelV p.2 q.2.2) Y xs/\
  ∃o es ep,h.get? a=some o/\o.ExactDict/\o.data=.dict es ep/\es.toList=xs.map (entryOfKey (tupleKind (xU P w)))/\(xs.map (·.1)).Nodup
 | .set S n=>h.SetOf (intKind P w) a S n
 | .ins C dx fs=>H dx=some (.own a)/\fs.length<=1000/\dx≠a/\h.get? a=some (TJ C dx)/\
  ∃mA,h.Ns1 dx mA/\(∀f,qL (fs.lookup f) (mA f))/\VO mA (fs.map (·.1))
 | .own _=>∃o,h.get? a=some o
 | .xd fs=>∃mA,h.Ns1 a mA/\∀f,qL (fs.lookup f) (mA f)
 | .rng lo hi=>∃t u v,h.get? a=some {cls:=.type "range",data:=.fields #[.int lo t,.int hi u,.int 1 v]}
 | .frz o u=>h.get? a=some o/\iY H h a u
 | .tbl ps=>h.get? a=some {cls:=.none,data:=.fields ps}
 | .met f x=>h.get? a=some (Vb (.ref f) (.ref x))
 | .ext φ=>φ h/\(∃o,h.get? a=some o)/\∀h1 h2:Heap,φ h1->(∀o,h1.get? a=some o->h2.get? a=some o)->φ h2
def HOk(H:Hp)(h:Heap):Prop:=∀a o,H a=some o->iY P w H h a o
end
section
variable {P : Program} {w : World} {H H' : Hp} {h h' : Heap} {a : Addr} {o : HO}
theorem iY.lt(x:iY P w H h a o):a<h.objs.size:=by
 cases o with
 | lst xs=>obtain⟨_,_,_,_,e⟩:=x;exact Heap.lt_size e
 | tup xs=>obtain⟨_,_,_,p⟩:=x;exact p.lt
 | dK J=>obtain⟨_,_,_,_,o,_,_,e,_⟩:=x;exact Heap.lt_size e
 | dT J=>obtain⟨_,_,_,_,o,_,_,e,_⟩:=x;exact Heap.lt_size e
 | set S n=>obtain⟨o,_,_,_,e,_⟩:=x;exact Heap.lt_size e
 | ins C dx fs=>obtain⟨_,_,_,e,_⟩:=x;exact Heap.lt_size e
 | own y=>obtain⟨_,e⟩:=x;exact Heap.lt_size e
 | xd fs=>obtain⟨_,⟨_,_,_,e,_⟩,_⟩:=x;exact Heap.lt_size e
 | rng lo hi=>obtain⟨_,_,_,e⟩:=x;exact Heap.lt_size e
 | frz Y u=>obtain⟨e,_⟩:=x;exact Heap.lt_size e
 | tbl ps=>exact Heap.lt_size (show h.get? a=some _ from x)
 | met f y=>exact Heap.lt_size (show h.get? a=some _ from x)
 | ext φ=>obtain⟨_,⟨_,e⟩,_⟩:=x;exact Heap.lt_size e
theorem Paired.mapP{α β:Type}{F G:α->β->Prop}:∀{J:List α} {Y:List β},Paired F J Y->(∀a b,F a b->G a b)->Paired G J Y
 | _,_,.nil,_=>.nil
 | _,_,.cons r t,f=>.cons (f _ _ r) (Paired.mapP t f)
theorem iY.stay (x:iY P w H h a o) (k:∀b u,(b=a\/H b=some (.own a))->h.get? b=some u->h'.get? b=some u)
 (ho:∀b,H b=some (.own a)->H' b=some (.own a)) (ht:∀b xs,H b=some (.tup xs)->H' b=some (.tup xs)):iY P w H' h' a o:=by
 induction o with
 | lst xs=>obtain⟨z,ab,n,r,e⟩:=x;exact⟨z,ab,n,r,k _ _ (.inl rfl) e⟩
 | tup xs=>obtain⟨z,ab,r,J,e,c⟩:=x;exact⟨z,ab,r,J,k _ _ (.inl rfl) e,c⟩
 | dK ac=>obtain⟨z,y,vs,r,J,es,Y,e,c⟩:=x;exact⟨z,y,vs,r,J,es,Y,k _ _ (.inl rfl) e,c⟩
 | dT ac=>
  obtain⟨z,y,xs,r,J,es,Y,e,c⟩:=x
  exact⟨z,y,xs,Paired.mapP r λp q z=>⟨z.1,ht _ _ z.2.1,z.2.2⟩,J,es,Y,k _ _ (.inl rfl) e,c⟩
 | set S n=>obtain⟨J,es,Y,t,e,c⟩:=x;exact⟨J,es,Y,t,k _ _ (.inl rfl) e,c⟩
 | ins C dx fs=>
  obtain⟨d,z,ne,e,mA,⟨od,es,Y,e2,c⟩,r⟩:=x
  exact⟨ho _ d,z,ne,k _ _ (.inl rfl) e,mA,⟨od,es,Y,k _ _ (.inr d) e2,c⟩,r⟩
 | own y=>obtain⟨J,e⟩:=x;exact⟨J,k _ _ (.inl rfl) e⟩
 | xd fs=>obtain⟨mA,⟨od,es,Y,e,c⟩,r⟩:=x;exact⟨mA,⟨od,es,Y,k _ _ (.inl rfl) e,c⟩,r⟩
 | rng lo hi=>obtain⟨t,u,v,e⟩:=x;exact⟨t,u,v,k _ _ (.inl rfl) e⟩
 | frz J u ih=>obtain⟨e,q⟩:=x;exact⟨k _ _ (.inl rfl) e,ih q⟩
 | tbl ps=>
  have e:h.get? a=some {cls:=.none,data:=.fields ps}:=x
  show h'.get? a=some {cls:=.none,data:=.fields ps}
  exact k a _ (.inl rfl) e
 | met f y=>
  have e:h.get? a=some (Vb (.ref f) (.ref y)):=x
  show h'.get? a=some (Vb (.ref f) (.ref y))
  exact k a _ (.inl rfl) e
 | ext φ=>obtain⟨p,⟨o,e⟩,st⟩:=x;exact⟨st _ _ p λo q=>k _ _ (.inl rfl) q,⟨o,k _ _ (.inl rfl) e⟩,st⟩
theorem HOk.lt(x:HOk P w H h)(e:H a=some o):a<h.objs.size:=(x a o e).lt
theorem HOk.fresh(x:HOk P w H h)(e:h.objs.size<=a):H a=none:=by
 cases q:H a with
 | none=>rfl
 | some u=>exact absurd (SJ (x.lt q) e) (Tr _)
theorem HOk.kept(x:HOk P w H h)(k:∀b u,h.get? b=some u->h'.get? b=some u):HOk P w H h':=λa o e=>
 (x a o e).stay (λb u _ q=>k b u q) (λ_ q=>q) λ_ _ q=>q
theorem HOk.laid(x:HOk P w H h)(k:∀b u,h.get? b=some u->h'.get? b=some u)(hp:h.objs.size<=a)(J:iY P w (upd H a o) h' a o):HOk P w (upd H a o) h':=λb u e=>by
 have hn:=x.fresh hp
 by_cases hb:b=a
 ·subst hb;rw[cU] at e;cases e;exact J
 ·rw[aV hb] at e
  exact(x b u e).stay (λc v _ q=>k c v q) (λc q=>by rw[aV (gi q hn)];exact q) λc xs q=>by rw[aV (gi q hn)];exact q
end
def Rd(H:Hp)(a:Addr)(u:HO):Prop:=H a=some u\/∃o,H a=some (.frz o u)
theorem Rd.ok{P:Program}{w:World}{H:Hp}{h:Heap}{a:Addr}{u:HO}(r:Rd H a u)(x:HOk P w H h):iY P w H h a u:=by
 rcases r with r | ⟨o,r⟩
 ·exact x a u r
 ·obtain⟨_,q⟩:=x a _ r
  exact q
def Mut:Option HO->Prop
 | some (.lst _)=>True
 | some (.dK _)=>True
 | some (.dT _)=>True
 | some (.set _ _)=>True
 | some (.ins _ _ _)=>True
 | some (.ext _)=>True
 | _=>False
section
variable {P : Program} {w : World} {H : Hp} {h h' : Heap} {x e : Addr} {o' : HO}
theorem HOk.write (ok:HOk P w H h) (mu:Mut (H x)) (he:e=x\/H e=some (.own x)) (k:∀b u,b≠e->h.get? b=some u->h'.get? b=some u) (am:∃u,h'.get? e=some u)
 (an:iY P w (upd H x o') h' x o'):HOk P w (upd H x o') h':=λb u q=>by
 have Y:∀c y,H c=some (.own y)->c≠x:=λc y r z=>by subst z;rw[r] at mu;exact mu
 have ab:∀c xs,H c=some (.tup xs)->c≠x:=λc xs r z=>by subst z;rw[r] at mu;exact mu
 by_cases hb:b=x
 ·subst hb;rw[cU] at q;cases q;exact an
 ·rw[aV hb] at q
  by_cases J:b=e
  ·have q':H b=some (.own x):=by
    rcases he with z | z
    ·exact absurd (J.trans z) hb
    ·rw[J];exact z
   rw[q] at q';cases q'
   obtain⟨v,hv⟩:=am
   exact⟨v,by rw[J];exact hv⟩
  ·refine(ok b u q).stay (λc v hc r=>k c v ?_ r) (λc r=>by rw[aV (Y c b r)];exact r) λc xs r=>by rw[aV (ab c xs r)];exact r
   rcases hc with rfl | hc
   ·exact J
   ·rintro rfl
    rcases he with z | z
    ·exact Y c b hc z
    ·rw[hc] at z;cases z;exact hb rfl
end
structure Un(fs ex:List Addr)(H H':Hp)(h h':Heap):Prop where
 keep:∀b o,h.get? b=some o->H b=none->b∉fs->b∉ex->h'.get? b=some o
 slot:∀b o,h.get? b=some o->H b=none->b∈fs->b∉ex->∃sl,h'.get? b=some {o with slots:=sl}
 free:∀b o,h.get? b=some o->H b=none->b∉ex->H' b=none
 there:∀b o,h.get? b=some o->b∉ex->∃o',h'.get? b=some o'
 tups:∀b xs,H b=some (.tup xs)->H' b=some (.tup xs)
 frzs:∀b o u,H b=some (.frz o u)->H' b=some (.frz o u)
 tbls:∀b ps,H b=some (.tbl ps)->∃more,H' b=some (.tbl (ps++more))
section
variable {fs fs' ex ex' : List Addr} {H H1 H2 : Hp} {h h1 h2 h' : Heap} {a x e : Addr} {o : HO}
theorem Un.any(u:Un fs ex H H1 h h1){b:Addr}{J:Obj}(q:h.get? b=some J)(n:H b=none)(hx:b∉ex):∃Y,h1.get? b=some {J with slots:=Y}:=by
 by_cases hb:b∈fs
 ·exact u.slot b J q n hb hx
 ·exact⟨J.slots,u.keep b J q n hb hx⟩
theorem Un.kept(k:∀b u,h.get? b=some u->h'.get? b=some u):Un fs ex H H h h':=
 ⟨λb J q _ _ _=>k b J q,λb J q _ _ _=>⟨J.slots,k b J q⟩,λ_ _ _ n _=>n,λb J q _=>⟨J,k b J q⟩,λ_ _ q=>q,λ_ _ _ q=>q,λ_ ps q=>⟨#[],by rw[q];simp⟩⟩
theorem Un.refl:Un fs ex H H h h:=Un.kept λ_ _ q=>q
theorem Un.laid(k:∀b u,h.get? b=some u->h'.get? b=some u)(hp:h.objs.size<=a)(hn:H a=none):Un fs ex H (upd H a o) h h' where
 keep:=λb u q _ _ _=>k b u q
 slot:=λb u q _ _ _=>⟨u.slots,k b u q⟩
 free:=λb u q n _=>by rw[aV (SX (SJ (Heap.lt_size q) hp))];exact n
 there:=λb u q _=>⟨u,k b u q⟩
 tups:=λb xs q=>by rw[aV (gi q hn)];exact q
 frzs:=λb u xs q=>by rw[aV (gi q hn)];exact q
 tbls:=λb ps q=>⟨#[],by rw[aV (gi q hn),q];simp⟩
theorem Un.write(Y:Mut (H x))(he:e=x\/H e=some (.own x))(k:∀b u,b≠e->h.get? b=some u->h'.get? b=some u)(ab:∃u,h'.get? e=some u):Un fs ex H (upd H x o) h h':=by
 have hx:∀b,H b=none->b≠x:=λb n z=>by subst z;rw[n] at Y;exact Y
 have hb:∀b,H b=none->b≠e:=λb n z=>by
  subst z
  rcases he with r | r
  ·exact hx b n r
  ·rw[n] at r;cases r
 have hm:∀b u,H b=some u->¬Mut (some u)->b≠x:=λb u q nm z=>by subst z;rw[q] at Y;exact nm Y
 refine⟨λb u q n _ _=>k b u (hb b n) q,λb u q n _ _=>⟨u.slots,k b u (hb b n) q⟩,λb u q n _=>by rw[aV (hx b n)];exact n,λb u q _=> ?_,
  λb xs q=>by rw[aV (hm b _ q λz=>z)];exact q,λb u xs q=>by rw[aV (hm b _ q λz=>z)];exact q,λb ps q=>⟨#[],by rw[aV (hm b _ q λz=>z),q];simp⟩⟩
 by_cases J:b=e
 ·subst J;exact ab
 ·exact⟨u,k b u J q⟩
end
def trk(h:Heap)(H:Hp):List Addr:=(Sg h.objs.size).filter λa=>(H a).isSome
def qP(h:Heap)(H:Hp):Heap:=PySem.W.hideAll h (trk h H)
theorem GA(h:Heap)(H:Hp):(qP h H).objs.size=h.objs.size:=PySem.W.hideAll_size _ _
theorem Iy{h:Heap}{H:Hp}{b:Addr}{o:Obj}(e:h.get? b=some o)(n:H b=none):(qP h H).get? b=some o:=
 PySem.W.hideAll_get _ e λhm=>by
  have q:(H b).isSome=true:=(SK.mp hm).2
  rw[n] at q;simp at q
theorem K8{h:Heap}{H:Hp}{b:Addr}{o:Obj}(e:(qP h H).get? b=some o):h.get? b=some o/\H b=none:=by
 have J:h.get? b=some o:=PySem.W.of_hideAll (trk h H) e
 refine⟨J, ?_⟩
 cases q:H b with
 | none=>rfl
 | some x=>
  have hm:b∈trk h H:=SK.mpr ⟨S3.mpr (Heap.lt_size J),by simp[q]⟩
  have z:(qP h H).get? b=none:=PySem.W.hideAll_none (trk h H) hm
  rw[z] at e;cases e
def LW(g h:Heap)(L:Addr):List (Addr×Obj):=(Sg h.objs.size).filterMap λa=>if a=L\/(g.get? a).isSome=true then none else (h.get? a).map λo=>(a,o)
def rest(g h:Heap)(L d:Addr):List (Addr×Obj):=(LW g h L).filter λp=>decide (p.1≠d)
structure Mod(K:R4)(mg:Str->Option Value)(base:Heap):Prop where
 kin:K.In base
 glob:base.Ns mainGlobals mg
 blt:∃mb,base.Ns builtinsNs mb/\∀x:Str,x≠"__name__" ->mb x=bootBuiltins x
 nolimit:base.NoLimit
 seer:base.NoSeer
structure Cx where
 prog:Program
 w:World
 K:R4
 mg:Str->Option Value
 base:Heap
 A:Around
 N:List Str
 s₀:Shared
 H₀:Hp
 env:Env
 outer:List Env
 stack:List Env
 ex:List Addr
 fn:Str->Bool
 calm:Bool
 pn:List (Addr×Obj)
 xe:Value->Shared->Prop
def frs(l:List Env):List Addr:=l.filterMap (·.frame)
abbrev Cx.fs(X:Cx):List Addr:=frs X.outer
def Vis(J:Scope)(x:Str):Prop:=J.names.lookup x=some .local\/J.names.lookup x=some .cell\/J.names.lookup x=some .free
def Loc(J:Scope)(x:Str):Prop:=J.names.lookup x=some .local\/J.names.lookup x=some .cell
def Look(env:Env)(h:Heap)(m:Str->Option Value)(x:Str)(u:Value):Prop:=
 (env.kindOf x=some .local/\m x=some u)\/((env.kindOf x=some .cell\/env.kindOf x=some .free)/\∃c,env.cells.lookup x=some c/\h.IsCell c (some u))
structure Cx.Ok(X:Cx):Prop where
 mod:Mod X.K X.mg X.base
 kind:X.env.scope.kind=.function
 glob:X.env.globals=mainGlobals
 blt:X.env.builtins=builtinsNs
 above:X.s₀.heap.objs.size<=X.env.locals
 inj:∀x y c,X.env.cells.lookup x=some c->X.env.cells.lookup y=some c->x=y
 has:∀x,(X.env.kindOf x=some .cell\/X.env.kindOf x=some .free)->∃c,X.env.cells.lookup x=some c
 cab:∀x c,X.fn x=true->X.env.cells.lookup x=some c->X.s₀.heap.objs.size<=c
 hd:X.calm=true->X.A.handled=none
 frames:X.A.frames=some X.stack
 stk:X.stack=X.outer\/(X.stack=X.env::X.outer/\X.env.frame=some X.env.locals)
 exf:∀b∈X.ex,b≠X.env.locals/\∀x c,X.env.cells.lookup x=some c->c≠b
 bs:∀b o,X.base.get? b=some o->X.s₀.heap.get? b=some o/\X.H₀ b=none
 bsz:X.base.objs.size<=X.s₀.heap.objs.size
 noex:∀b o,X.base.get? b=some o->b∉X.ex
 exfs:∀b∈X.ex,b∉X.fs
 funs:X.s₀.heap.FunFrames X.base X.outer
 frf:∀b∈X.fs,X.H₀ b=none
structure Inv(X:Cx)(pins:List (Addr×Obj))(σ:List (Option V))(H:Hp)(s:Shared):Prop where
 ok:X.Ok
 os:s.os=X.s₀.os
 bare:AllBare s.gens
 base:Un X.fs X.ex X.H₀ H X.s₀.heap s.heap
 loc:∃m,s.heap.Ns X.env.locals m/\∀(i:Nat) (x:Str) (v:V),X.N[i]? =some x->σ[i]? =some (some v)->Vis X.env.scope x->∃u,RelV v u/\Look X.env s.heap m x u
 cell:∀x c,X.env.cells.lookup x=some c->∃v,s.heap.IsCell c v
 free:H X.env.locals=none
 freeC:∀x c,X.env.cells.lookup x=some c->H c=none
 pin:∀p∈X.pn++pins,s.heap.get? p.1=some p.2/\H p.1=none/\p.1≠X.env.locals/\p.1∉X.fs/\∀v,p.2.data≠ .cell v
 hok:HOk X.prog X.w H s.heap
 len:σ.length=X.N.length
section
variable {X : Cx} {pins : List (Addr × Obj)} {σ : List (Option V)} {H H' : Hp} {s : Shared} {h' : Heap}
theorem Cx.Ok.nofr(ok:X.Ok){b:Addr}{o:Obj}(e:X.base.get? b=some o):b∉X.fs:=λhb=>by
 have:=(ok.funs.mem hb).1
 rw[e] at this;cases this
theorem Inv.bs(I:Inv X pins σ H s):∀b o,X.base.get? b=some o->s.heap.get? b=some o/\H b=none:=λb o e=>
 ⟨I.base.keep b o (I.ok.bs b o e).1 (I.ok.bs b o e).2 (I.ok.nofr e) (I.ok.noex b o e),I.base.free b o (I.ok.bs b o e).1 (I.ok.bs b o e).2 (I.ok.noex b o e)⟩
theorem Inv.bk(I:Inv X pins σ H s):∀b o,X.base.get? b=some o->s.heap.get? b=some o:=λb o e=>(I.bs b o e).1
theorem Inv.mod(I:Inv X pins σ H s):Mod X.K X.mg X.base:=I.ok.mod
theorem Inv.kIn(I:Inv X pins σ H s):X.K.In s.heap:=I.ok.mod.kin.keeps I.bk
theorem Inv.nolimit(I:Inv X pins σ H s):s.heap.NoLimit:=I.ok.mod.nolimit.keeps I.bk
theorem Inv.noseer(I:Inv X pins σ H s):s.heap.NoSeer:=I.ok.mod.seer.keeps I.bk
theorem Inv.lt(I:Inv X pins σ H s):X.env.locals<s.heap.objs.size:=let ⟨_,hn,_⟩:=I.loc;hn.lt
theorem Inv.sz(I:Inv X pins σ H s):X.s₀.heap.objs.size<=s.heap.objs.size:=S4 I.ok.above (T5 I.lt)
theorem Inv.nofs(I:Inv X pins σ H s){a:Addr}(h:s.heap.objs.size<=a):a∉X.fs:=λhb=>by
 obtain⟨_,o,J,_⟩:=I.ok.funs.mem hb
 exact absurd (SJ (Heap.lt_size J) (S4 I.sz h)) (Tr _)
theorem Inv.cne(I:Inv X pins σ H s):∀x c,X.env.cells.lookup x=some c->c≠X.env.locals:=λx c e z=>by
 obtain⟨v,o,ho,hd⟩:=I.cell x c e
 obtain⟨m,⟨o',es,ep,J,Y,_⟩,_⟩:=I.loc
 rw[z,J] at ho;cases ho;rw[Y] at hd;cases hd
theorem Inv.funs(I:Inv X pins σ H s):s.heap.FunFrames X.base X.outer:=by
 have all:∀(l:List Env),(∀b∈frs l,b∈X.fs)->X.s₀.heap.FunFrames X.base l->s.heap.FunFrames X.base l:=by
  intro l
  induction l with
  | nil=>intro _ _;trivial
  | cons env r ih=>
   intro hs hl
   obtain⟨hk,⟨L,o,J,hn,ho,hd⟩,hr⟩:=hl
   have Y:L∈X.fs:=hs L (by unfold frs;rw[Tx,J];exact Sr)
   obtain⟨sl,e⟩:=I.base.slot L o ho (I.ok.frf L Y) Y λz=>I.ok.exfs L z Y
   exact⟨hk,⟨L,_,J,hn,e,hd⟩,ih (λb hb=>hs b (by unfold frs;rw[Tx,J];exact Sl _ hb)) hr⟩
 exact all X.outer (λ_ hb=>hb) I.ok.funs
theorem Inv.stack(I:Inv X pins σ H s):s.heap.FunFrames X.base X.stack:=by
 rcases I.ok.stk with e | ⟨e,J⟩
 ·rw[e];exact I.funs
 ·rw[e]
  obtain⟨m,hn,_⟩:=I.loc
  refine .cons (by rw[I.ok.kind];decide) J hn ?_ I.funs
  exact Heap.get?_none_of_le (S4 I.ok.bsz I.ok.above)
theorem Inv.stkSub(I:Inv X pins σ H s):∀b∈frs X.stack,b∈X.env.locals::X.fs:=λb hb=>by
 rcases I.ok.stk with e | ⟨e,J⟩
 ·rw[e] at hb;exact Sl _ hb
 ·rw[e] at hb
  unfold frs at hb
  rw[Tx,J] at hb
  exact hb
theorem Inv.stkFree(I:Inv X pins σ H s):∀b∈frs X.stack,H b=none:=λb hb=>by
 rcases SA.mp (I.stkSub b hb) with e | hb
 ·rw[e];exact I.free
 ·obtain⟨_,o,J,_⟩:=I.ok.funs.mem hb
  exact I.base.free b o J (I.ok.frf b hb) λz=>I.ok.exfs b z hb
theorem Inv.step {g':Array GenState} {t':Nat} {d':Drawn} {ch:List Addr} (I:Inv X pins σ H s)
 (J:∀b∈ch,(b∈X.ex\/X.s₀.heap.objs.size<=b)/\b≠X.env.locals/\(∀x c,X.env.cells.lookup x=some c->c≠b)/\∀p∈X.pn++pins,p.1≠b)
 (keep:∀b o,b≠X.env.locals->b∉X.fs->b∉ch->s.heap.get? b=some o->H b=none->h'.get? b=some o)
 (slot:∀b o,b≠X.env.locals->b∈X.fs->b∉ch->s.heap.get? b=some o->H b=none->∃sl,h'.get? b=some {o with slots:=sl}) (free:∀b o,b∉ch->s.heap.get? b=some o->H b=none->H' b=none)
 (there:∀b o,b∉ch->s.heap.get? b=some o->∃o',h'.get? b=some o')
 (tups:∀b xs,H b=some (.tup xs)->H' b=some (.tup xs)) (frzs:∀b o u,H b=some (.frz o u)->H' b=some (.frz o u)) (tbls:∀b ps,H b=some (.tbl ps)->∃more,H' b=some (.tbl (ps++more)))
 (ns:∀m,s.heap.Ns X.env.locals m->h'.Ns X.env.locals m) (as:HOk X.prog X.w H' h') (hg:AllBare g'):
 Inv X pins σ H' {s with heap:=h',gens:=g',drawn:=d',toks:=t'}:=by
 have an:∀b o,X.s₀.heap.get? b=some o->b≠X.env.locals:=λb o e=>SX (SJ (Heap.lt_size e) I.ok.above)
 have ac:∀b o,X.s₀.heap.get? b=some o->b∉X.ex->b∉ch:=λb o e hx hb=>by
  rcases(J b hb).1 with z | z
  ·exact hx z
  ·exact absurd (SJ (Heap.lt_size e) z) (Tr _)
 have Y:∀x c,X.env.cells.lookup x=some c->∀v,s.heap.IsCell c v->h'.IsCell c v:=λx c e v ⟨o,ho,hd⟩=>by
  have ab:c∉ch:=λz=>(J c z).2.2.1 x c e rfl
  by_cases hc:c∈X.fs
  ·obtain⟨sl,q⟩:=slot c o (I.cne x c e) hc ab ho (I.freeC x c e)
   exact⟨_,q,hd⟩
  ·exact⟨o,keep c o (I.cne x c e) hc ab ho (I.freeC x c e),hd⟩
 refine⟨I.ok,I.os,hg,⟨λb o e n hb hx=> ?_,λb o e n hb hx=> ?_,λb o e n hx=> ?_,λb o e hx=> ?_,λb xs e=>tups b xs (I.base.tups b xs e),λb o xs e=>frzs b o xs (I.base.frzs b o xs e),λb ps e=> ?_⟩, ?_,λx c e=> ?_, ?_,λx c e=> ?_,λp hp=> ?_,as,I.len⟩
 ·exact keep b o (an b o e) hb (ac b o e hx) (I.base.keep b o e n hb hx) (I.base.free b o e n hx)
 ·obtain⟨sl,e1⟩:=I.base.slot b o e n hb hx
  obtain⟨az,e2⟩:=slot b _ (an b o e) hb (ac b o e hx) e1 (I.base.free b o e n hx)
  exact⟨az,e2⟩
 ·obtain⟨o',e1⟩:=I.base.there b o e hx
  exact free b o' (ac b o e hx) e1 (I.base.free b o e n hx)
 ·obtain⟨o',e1⟩:=I.base.there b o e hx
  exact there b o' (ac b o e hx) e1
 ·obtain⟨m1,e1⟩:=I.base.tbls b ps e
  obtain⟨m2,e2⟩:=tbls b _ e1
  exact⟨m1++m2,by rw[e2,Array.append_assoc]⟩
 ·obtain⟨m,hn,hl⟩:=I.loc
  refine⟨m,ns m hn,λi x v e1 e2 e3=> ?_⟩
  obtain⟨u,r,l⟩:=hl i x v e1 e2 e3
  refine⟨u,r, ?_⟩
  rcases l with l | ⟨k,c,e,z⟩
  ·exact .inl l
  ·exact .inr ⟨k,c,e,Y x c e _ z⟩
 ·obtain⟨v,z⟩:=I.cell x c e
  exact⟨v,Y x c e v z⟩
 ·obtain⟨m,⟨o,_,_,ho,_⟩,_⟩:=I.loc
  exact free _ o (λz=>(J _ z).2.1 rfl) ho I.free
 ·obtain⟨v,o,ho,hd⟩:=I.cell x c e
  exact free c o (λz=>(J c z).2.2.1 x c e rfl) ho (I.freeC x c e)
 ·obtain⟨e,n,ne,nf,d⟩:=I.pin p hp
  have ab:p.1∉ch:=λz=>(J p.1 z).2.2.2 p hp rfl
  exact⟨keep p.1 p.2 ne nf ab e n,free p.1 p.2 ab e n,ne,nf,d⟩
theorem Inv.un{t':Nat}(I:Inv X pins σ H s)(u:Un X.fs [] H H' s.heap h')(Y:HOk X.prog X.w H' h'):Inv X pins σ H' {s with heap:=h',toks:=t'}:=by
 obtain⟨m,⟨o,es,ep,ho,r⟩,_⟩:=id I.loc
 obtain⟨sl,hL⟩:=u.any ho I.free (by simp)
 exact I.step (g':=s.gens) (d':=s.drawn) (ch:=[]) (λ_ z=>nomatch z) (λb o _ hb _ e n=>u.keep b o e n hb (by simp)) (λb o _ hb _ e n=>u.slot b o e n hb (by simp)) (λb o _ e n=>u.free b o e n (by simp)) (λb o _ e=>u.there b o e (by simp)) u.tups u.frzs u.tbls (λm' hm=>by
  obtain⟨o',ab,ac,J,r'⟩:=hm
  rw[ho] at J;cases J
  exact⟨_,ab,ac,hL,r'⟩) Y I.bare
theorem Inv.call {g':Array GenState} {t':Nat} {d':Drawn} {ch:List Addr} (I:Inv X pins σ H s) (u:Un (frs X.stack) ch H H' s.heap h') (ab:HOk X.prog X.w H' h') (hg:AllBare g')
 (J:∀b∈ch,(b∈X.ex\/X.s₀.heap.objs.size<=b)/\b≠X.env.locals/\(∀x c,X.env.cells.lookup x=some c->c≠b)/\∀p∈X.pn++pins,p.1≠b):
 Inv X pins σ H' {s with heap:=h',gens:=g',drawn:=d',toks:=t'}:=by
 obtain⟨m,⟨o,es,ep,ho,r⟩,_⟩:=id I.loc
 obtain⟨sl,hL⟩:=u.any ho I.free λz=>(J _ z).2.1 rfl
 exact I.step (ch:=ch) J (λb o hL hb hc e n=>u.keep b o e n (λz=>(SA.mp (I.stkSub b z)).elim hL hb) hc) (λb o _ _ hc e n=>u.any e n hc) (λb o hc e n=>u.free b o e n hc) (λb o hc e=>u.there b o e hc) u.tups u.frzs u.tbls (λm' hm=>by
  obtain⟨o',am,an,Y,r'⟩:=hm
  rw[ho] at Y;cases Y
  exact⟨_,am,an,hL,r'⟩) ab hg
theorem Inv.turned {t':Nat} {it:Addr} (I:Inv X pins σ H s) (k:∀b o,b≠it->s.heap.get? b=some o->h'.get? b=some o) (hn:H it=none) (Y:it≠X.env.locals)
 (h1:it∈X.ex\/X.s₀.heap.objs.size<=it) (h2:∀x c,X.env.cells.lookup x=some c->c≠it) (h3:∀p∈X.pn++pins,p.1≠it):Inv X pins σ H {s with heap:=h',toks:=t'}:=by
 have J:∀b u,H b=some u->b≠it:=λb u e z=>by rw[z,hn] at e;cases e
 refine I.step (g':=s.gens) (d':=s.drawn) (ch:=[it]) (λb hb=> ?_) (λb o _ _ hc e _=>k b o (λz=>hc (by simp[z])) e) (λb o _ _ hc e _=>⟨o.slots,k b o (λz=>hc (by simp[z])) e⟩) (λ_ _ _ _ n=>n)
  (λb o hc e=>⟨o,k b o (λz=>hc (by simp[z])) e⟩) (λ_ _ e=>e) (λ_ _ _ e=>e) (λb ps e=>⟨#[],by rw[e];simp⟩) (λm hm=> ?_) (λb u e=> ?_) I.bare
 ·have e:b=it:=by simpa using hb
  subst e
  exact⟨h1,Y,h2,h3⟩
 ·obtain⟨o,es,ep,ho,r⟩:=hm
  exact⟨o,es,ep,k _ o (UN Y) ho,r⟩
 ·refine(I.hok b u e).stay (λc v hc q=>k c v ?_ q) (λ_ q=>q) λ_ _ q=>q
  rcases hc with z | z
  ·rw[z];exact J b u e
  ·exact J c _ z
theorem Inv.tok(I:Inv X pins σ H s)(t:Nat):Inv X pins σ H {s with toks:=t}:=I.un (h':=s.heap) (t':=t) Un.refl I.hok
theorem Inv.kept{t':Nat}(I:Inv X pins σ H s)(k:∀b u,s.heap.get? b=some u->h'.get? b=some u):Inv X pins σ H {s with heap:=h',toks:=t'}:=I.un (Un.kept k) (I.hok.kept k)
theorem Inv.laid{a:Addr}{o:HO}{t':Nat}(I:Inv X pins σ H s)(k:∀b u,s.heap.get? b=some u->h'.get? b=some u)(hp:s.heap.objs.size<=a)(J:iY X.prog X.w (upd H a o) h' a o):
 Inv X pins σ (upd H a o) {s with heap:=h',toks:=t'}:=I.un (Un.laid k hp (I.hok.fresh hp)) (I.hok.laid k hp J)
theorem Inv.write {x e:Addr} {o:HO} {t':Nat} (I:Inv X pins σ H s) (mu:Mut (H x)) (he:e=x\/H e=some (.own x)) (k:∀b u,b≠e->s.heap.get? b=some u->h'.get? b=some u) (J:∃u,h'.get? e=some u)
 (Y:iY X.prog X.w (upd H x o) h' x o):Inv X pins σ (upd H x o) {s with heap:=h',toks:=t'}:=I.un (Un.write mu he k J) (I.hok.write mu he k J Y)
theorem Inv.pins_of{J:List (Addr×Obj)}(I:Inv X pins σ H s)(h:∀p∈J,s.heap.get? p.1=some p.2/\H p.1=none/\p.1≠X.env.locals/\p.1∉X.fs/\∀v,p.2.data≠ .cell v):Inv X J σ H s:=
 ⟨I.ok,I.os,I.bare,I.base,I.loc,I.cell,I.free,I.freeC,λp hp=>(Sy.mp hp).elim (λz=>I.pin p (Ut _ z)) (h p),I.hok,I.len⟩
theorem AE{N:List Str}(J:N.Nodup){i j:Nat}{x:Str}(a:N[i]? =some x)(b:N[j]? =some x):i=j:=by
 obtain⟨h1,e1⟩:=Sx.mp a
 obtain⟨h2,e2⟩:=Sx.mp b
 exact(V5 J).mp (e1.trans e2.symm)
theorem zM {M:Model} {A:Around} {E:Value->Shared->Prop} {i:Nat} {x:Str} {v:V} {u:Value} {Q:Unit->Shared->Prop} (I:Inv X pins σ H s) (hN:X.N.Nodup) (hi:X.N[i]? =some x) (hx:Loc X.env.scope x) (r:RelV v u)
 (h:∀s',Inv X pins (σ.set i (some v)) H s'->(∃a,Heap.SameBut a s.heap s'.heap/\(a=X.env.locals\/X.env.cells.lookup x=some a))->Q () s') (hf:X.fn x=true\/X.env.scope.names.lookup x=some .local:=by first | exact .inl rfl | exact .inr rfl | assumption):wpAny M A (storeName X.env x u) Q E s:=by
 obtain⟨m,hn,hl⟩:=id I.loc
 have an:(X.env.scope.kind == .class||(X.env.scope.kind == .module&&X.env.locals != X.env.globals))=false:=by rw[I.ok.kind];rfl
 have ap:i<σ.length:=by rw[I.len];exact(Sx.mp hi).1
 have cne:=I.cne
 have Y:∀{a:Addr} {h':Heap},(∃o,s.heap.get? a=some o/\H a=none)->Heap.SameBut a s.heap h'->HOk X.prog X.w H h':=λ{a h'} ha J b ob e=>by
  obtain⟨_,_,ab⟩:=ha
  refine(I.hok b ob e).stay (λc w' hc q=>(J.2 c ?_).trans q) (λ_ q=>q) λ_ _ q=>q
  rintro rfl
  rcases hc with rfl | hc
  ·rw[ab] at e;cases e
  ·rw[ab] at hc;cases hc
 rcases hx with hk | hk
 ·refine wpAny_storeName_local hk hn (λh' a4 J=> ?_) an
  obtain⟨oL,_,_,a5,_⟩:=id hn
  refine h _ ⟨I.ok,I.os,I.bare,⟨λb o e n hb hx=> ?_,λb o e n hb hx=> ?_,I.base.free,λb o e hx=> ?_,I.base.tups,I.base.frzs,I.base.tbls⟩,⟨_,a4,λj y v' e1 e2 e3=> ?_⟩,λy c e=> ?_,I.free,I.freeC,λp hp=> ?_,Y ⟨oL,a5,I.free⟩ J,by simpa using I.len⟩ ⟨_,J,.inl rfl⟩
  ·exact(J.2 b (SX (SJ (Heap.lt_size e) I.ok.above))).trans (I.base.keep b o e n hb hx)
  ·obtain⟨sl,e1⟩:=I.base.slot b o e n hb hx
   exact⟨sl,(J.2 b (SX (SJ (Heap.lt_size e) I.ok.above))).trans e1⟩
  ·obtain⟨o',e1⟩:=I.base.there b o e hx
   exact⟨o',(J.2 b (SX (SJ (Heap.lt_size e) I.ok.above))).trans e1⟩
  ·by_cases hj:j=i
   ·subst hj
    rw[hi] at e1;cases e1
    rw[Tb ap] at e2
    cases e2
    exact⟨u,r,.inl ⟨hk,by simp⟩⟩
   ·rw[Tg (UN hj)] at e2
    obtain⟨u',r',q⟩:=hl j y v' e1 e2 e3
    refine⟨u',r', ?_⟩
    rcases q with⟨k,e⟩ | ⟨k,c,e,z⟩
    ·refine .inl ⟨k, ?_⟩
     have:y≠x:=λe=>hj (AE hN e1 (e▸hi))
     simp[this,e]
    ·exact .inr ⟨k,c,e,z.sameBut J (cne y c e)⟩
  ·obtain⟨w',z⟩:=I.cell y c e
   exact⟨w',z.sameBut J (cne y c e)⟩
  ·obtain⟨e,n,ne,nf,d⟩:=I.pin p hp
   exact⟨(J.2 p.1 ne).trans e,n,ne,nf,d⟩
 ·have am:X.fn x=true:=by
   rcases hf with z | z
   ·exact z
   ·rw[z] at hk;cases hk
  obtain⟨c,hc⟩:=I.ok.has x (.inl hk)
  obtain⟨w',z⟩:=I.cell x c hc
  refine wpAny_storeName_cell I.ok.kind hk hc z (λh' as J=> ?_)
  obtain⟨oc,az,a0⟩:=id z
  refine h {s with heap:=h'} ⟨I.ok,I.os,I.bare,⟨λb o e n hb hx=> ?_,λb o e n hb hx=> ?_,I.base.free,λb o e hx=> ?_,I.base.tups,I.base.frzs,I.base.tbls⟩,⟨m,hn.sameBut J (UN (cne x c hc)),λj y v' e1 e2 e3=> ?_⟩,λy c' e=> ?_,I.free,I.freeC,λp hp=> ?_,Y ⟨oc,az,I.freeC x c hc⟩ J,by simpa using I.len⟩ ⟨c,J,.inr hc⟩
  ·exact(J.2 b (SX (SJ (Heap.lt_size e) (I.ok.cab x c am hc)))).trans (I.base.keep b o e n hb hx)
  ·obtain⟨sl,e1⟩:=I.base.slot b o e n hb hx
   exact⟨sl,(J.2 b (SX (SJ (Heap.lt_size e) (I.ok.cab x c am hc)))).trans e1⟩
  ·obtain⟨o',e1⟩:=I.base.there b o e hx
   exact⟨o',(J.2 b (SX (SJ (Heap.lt_size e) (I.ok.cab x c am hc)))).trans e1⟩
  ·by_cases hj:j=i
   ·subst hj
    rw[hi] at e1;cases e1
    rw[Tb ap] at e2
    cases e2
    exact⟨u,r,.inr ⟨.inl hk,c,hc,as⟩⟩
   ·rw[Tg (UN hj)] at e2
    obtain⟨u',r',q⟩:=hl j y v' e1 e2 e3
    refine⟨u',r', ?_⟩
    rcases q with q | ⟨k,c',e,z'⟩
    ·exact .inl q
    ·refine .inr ⟨k,c',e,z'.sameBut J ?_⟩
     rintro rfl
     exact hj (AE hN e1 (I.ok.inj _ _ _ e hc▸hi))
  ·by_cases a1:c'=c
   ·subst a1;exact⟨_,as⟩
   ·obtain⟨w2,z2⟩:=I.cell y c' e
    exact⟨w2,z2.sameBut J a1⟩
  ·obtain⟨e,n,ne,nf,d⟩:=I.pin p hp
   refine⟨(J.2 p.1 ?_).trans e,n,ne,nf,d⟩
   intro q
   rw[q,az] at e
   have q':oc=p.2:=Tt e
   exact d w' (by rw[<- q'];exact a0)
theorem Bw {M:Model} {A:Around} {E:Value->Shared->Prop} {i:Nat} {x:Str} {v:V} {u:Value} {Q:Unit->Shared->Prop} (I:Inv X pins σ H s) (J:X.N.Nodup) (hi:X.N[i]? =some x) (hx:Loc X.env.scope x) (r:RelV v u)
 (h:∀s',Inv X pins (σ.set i (some v)) H s'->Q () s') (Y:X.fn x=true\/X.env.scope.names.lookup x=some .local:=by first | exact .inl rfl | exact .inr rfl | assumption):wpAny M A (storeName X.env x u) Q E s:=
 zM I J hi hx r (λs' I' _=>h s' I') Y
theorem Inv.call' {s':Shared} {ch:List Addr} (I:Inv X pins σ H s) (ho:s'.os=s.os) (u:Un (frs X.stack) ch H H' s.heap s'.heap) (J:HOk X.prog X.w H' s'.heap) (hg:AllBare s'.gens)
 (Y:∀b∈ch,(b∈X.ex\/X.s₀.heap.objs.size<=b)/\b≠X.env.locals/\(∀x c,X.env.cells.lookup x=some c->c≠b)/\∀p∈X.pn++pins,p.1≠b):Inv X pins σ H' s':=by
 obtain⟨h',g',d',t',o'⟩:=s'
 have e:o'=s.os:=ho
 subst e
 exact I.call (g':=g') (t':=t') (d':=d') u J hg Y
end
abbrev XK:=Value->Option Addr->Hp->Prop
abbrev St:=List (Option V)
abbrev VK:=V->Hp->Prop
abbrev TE:=St->Hp->VK->Prop
abbrev TT:=St->Hp->(Bool->Hp->Prop)->Prop
abbrev TA:=St->Hp->(List V->Hp->Prop)->Prop
structure Ends where
 nx:St->Hp->Prop
 rt:VK
 bk:St->Hp->Prop:=λ_ _=>False
 ct:St->Hp->Prop:=λ_ _=>False
abbrev TS:=Ends->St->Hp->Prop
def EP(X:Cx)(pins:List (Addr×Obj))(σ:St)(Q:VK)(u:Value)(s':Shared):Prop:=∃v H',Inv X pins σ H' s'/\RelV v u/\Q v H'
def TP(X:Cx)(pins:List (Addr×Obj))(σ:St)(Q:Bool->Hp->Prop)(b:Bool)(s':Shared):Prop:=∃H',Inv X pins σ H' s'/\Q b H'
def AP(X:Cx)(pins:List (Addr×Obj))(σ:St)(Q:List V->Hp->Prop)(us:List Value)(s':Shared):Prop:=∃vs H',Inv X pins σ H' s'/\Vals vs us/\Q vs H'
def SP(X:Cx)(pins:List (Addr×Obj))(D:Ends)(f:Flow)(s':Shared):Prop:=
 match f with
 | .next=>∃J H',Inv X pins J H' s'/\D.nx J H'
 | .brk=>∃J H',Inv X pins J H' s'/\D.bk J H'
 | .cont=>∃J H',Inv X pins J H' s'/\D.ct J H'
 | .ret u=>∃v J H',Inv X pins J H' s'/\RelV v u/\D.rt v H'
def PE(X:Cx)(e:Expr)(t:TE):Prop:=
 ∀(pins:List (Addr×Obj)) (s:Shared) (σ:St) (H:Hp) (Q:VK),Inv X pins σ H s->t σ H Q->wpAny (model X.prog X.w) X.A (eval e X.env) (EP X pins σ Q) X.xe s
def PT(X:Cx)(e:Expr)(t:TT):Prop:=
 ∀(pins:List (Addr×Obj)) (s:Shared) (σ:St) (H:Hp) (Q:Bool->Hp->Prop),Inv X pins σ H s->t σ H Q->wpAny (model X.prog X.w) X.A (isTrue e X.env (eval e X.env)) (TP X pins σ Q) X.xe s
def PW(X:Cx)(e:Expr)(t:TT):Prop:=
 ∀(J:Sem Value) (pins:List (Addr×Obj)) (s:Shared) (σ:St) (H:Hp) (Q:Bool->Hp->Prop),Inv X pins σ H s->t σ H Q->wpAny (model X.prog X.w) X.A (isTrue e X.env J) (TP X pins σ Q) X.xe s
theorem PW.pt{X:Cx}{e:Expr}{t:TT}(h:PW X e t):PT X e t:=h _
def PA(X:Cx)(es:List Expr)(t:TA):Prop:=
 ∀(pos:Pos) (pins:List (Addr×Obj)) (s:Shared) (σ:St) (H:Hp) (Q:List V->Hp->Prop),Inv X pins σ H s->t σ H Q->wpAny (model X.prog X.w) X.A (spliced (backTo pos (starEach es X.env))) (AP X pins σ Q) X.xe s
def PS(X:Cx)(st:Stmt)(t:TS):Prop:=
 ∀(pins:List (Addr×Obj)) (s:Shared) (σ:St) (H:Hp) (D:Ends),Inv X pins σ H s->t D σ H->wpAny (model X.prog X.w) X.A (exec st X.env) (SP X pins D) X.xe s
def PSs(X:Cx)(st:List Stmt)(t:TS):Prop:=
 ∀(pins:List (Addr×Obj)) (s:Shared) (σ:St) (H:Hp) (D:Ends),Inv X pins σ H s->t D σ H->wpAny (model X.prog X.w) X.A (execs st X.env) (SP X pins D) X.xe s
theorem thn{α:Type}{t:Sem α}{Q J:α->Shared->Prop}{M:Model}{A:Around}{E:Value->Shared->Prop}{s:Shared}(h:wpAny M A t Q E s)(Y:∀a s,Q a s->J a s):wpAny M A t J E s:=wpAny_mono h Y λ_ _ x=>x
section
variable {X : Cx}
theorem bin {a b:Expr} {ta tb:TE} (ha:PE X a ta) (hb:PE X b tb) {pins:List (Addr×Obj)} {s:Shared} {σ:St} {H:Hp} {R:V->V->Hp->Prop} (I:Inv X pins σ H s) (h:ta σ H λx H1=>tb σ H1 λy H2=>R x y H2)
 {α:Type} {Q:α->Shared->Prop} {f:Value->Value->Sem α}
 (J:∀v u s2 x y H2,Inv X pins σ H2 s2->RelV x v->RelV y u->R x y H2->wpAny (model X.prog X.w) X.A (f v u) Q X.xe s2):
 wpAny (model X.prog X.w) X.A (eval a X.env) (λv Y=>wpAny (model X.prog X.w) X.A (eval b X.env) (λu s₂=>wpAny (model X.prog X.w) X.A (f v u) Q X.xe s₂) X.xe Y) X.xe s:=by
 refine thn (ha pins s σ H _ I h) λv s1 ⟨x,H1,I1,r1,q1⟩=> ?_
 refine thn (hb pins s1 σ H1 _ I1 q1) λu s2 ⟨y,H2,I2,r2,q2⟩=> ?_
 exact J v u s2 x y H2 I2 r1 r2 q2
def Iw(i:Nat):TE:=λσ H Q=>∃v,σ[i]? =some (some v)/\Q v H
def tC(v:V):TE:=λ_ H Q=>Q v H
theorem MR{i:Nat}{x:Str}{pos:Pos}(hN:X.N[i]? =some x)(hv:Vis X.env.scope x)(hd:(x == ("__debug__" :Str))=false:=by decide)(ab:(x == ("__classdict__" :Str))=false:=by decide):PE X (.Name x pos) (Iw i):=by
 intro pins s σ H Q I h
 obtain⟨v,e,h⟩:=h
 obtain⟨m,hn,hl⟩:=I.loc
 obtain⟨u,r,l⟩:=hl i x v hN e hv
 have Y:EP X pins σ Q u s:=⟨v,H,I,r,h⟩
 rcases l with⟨hk,hm⟩ | ⟨hk,c,hc,J⟩
 ·exact wpAny_Name (wpAny_loadName_local I.ok.kind hk hn hm Y) hd
 ·rcases hk with hk | hk
  ·exact wpAny_Name (wpAny_loadName_cell I.ok.kind hk hc J Y) hd
  ·exact wpAny_Name (wpAny_loadName_free I.ok.kind hk hc J Y ab) hd
theorem aB{i j pos}:PE X (.Constant (.int i) j pos) (tC (.int i)):=λ_ _ _ H _ I h=>wpAny_Constant_int ⟨.int i,H,I.tok _,⟨_,rfl⟩,h⟩
theorem nR{b j pos}:PE X (.Constant (.bool b) j pos) (tC (.bl b)):=λ_ _ _ H _ I h=>Constant_bool ⟨.bl b,H,I,rfl,h⟩
theorem NL{j pos}:PE X (.Constant .none j pos) (tC .non):=λ_ _ _ H _ I h=>Constant_none ⟨.non,H,I,rfl,h⟩
theorem xf{x j pos}:PE X (.Constant (.str x) j pos) (tC (.str x)):=λ_ _ _ H _ I h=>Calls.Constant_str ⟨.str x,H,I.tok _,⟨_,rfl⟩,h⟩
def Gl(X:Cx)(x:Str):Prop:=X.env.kindOf x=some .globalImplicit
theorem yx {E:Value->Shared->Prop} {pins:List (Addr×Obj)} {s:Shared} {σ:St} {H:Hp} {x:Str} {u:Value} {pos:Pos} {Q:Value->Shared->Prop} (I:Inv X pins σ H s) (J:Gl X x) (hm:X.mg x=some u) (h:Q u s)
 (hd:(x == ("__debug__" :Str))=false:=by decide):wpAny (model X.prog X.w) X.A (eval (.Name x pos) X.env) Q E s:=
 Calls.Name_function_global I.ok.kind J (Calls.loadGlobal_global (by rw[I.ok.glob];exact I.mod.glob.keeps I.bk) hm h) hd
theorem rC {E:Value->Shared->Prop} {pins:List (Addr×Obj)} {s:Shared} {σ:St} {H:Hp} {x:Str} {u:Value} {pos:Pos} {Q:Value->Shared->Prop} (I:Inv X pins σ H s) (J:Gl X x) (hm:X.mg x=none) (Y:bootBuiltins x=some u) (h:Q u s)
 (hn:x≠"__name__" :=by decide) (hd:(x == ("__debug__" :Str))=false:=by decide):wpAny (model X.prog X.w) X.A (eval (.Name x pos) X.env) Q E s:=by
 obtain⟨mb,h1,h2⟩:=I.mod.blt
 exact Calls.Name_function_global I.ok.kind J (Calls.loadGlobal_builtin (by rw[I.ok.glob];exact I.mod.glob.keeps I.bk) hm (by rw[I.ok.blt];exact h1.keeps I.bk) ((h2 x hn).trans Y) h) hd
theorem yC{x:Str}{v:V}{u:Value}{pos:Pos}(J:Gl X x)(hm:X.mg x=some u)(r:RelV v u)(hd:(x == ("__debug__" :Str))=false:=by decide):PE X (.Name x pos) (tC v):=
 λ_ _ _ H _ I h=>yx I J hm ⟨v,H,I,r,h⟩ hd
theorem mP{x:Str}{v:V}{u:Value}{pos:Pos}(J:Gl X x)(hm:X.mg x=none)(Y:bootBuiltins x=some u)(r:RelV v u)(hn:x≠"__name__" :=by decide)(hd:(x == ("__debug__" :Str))=false:=by decide):PE X (.Name x pos) (tC v):=
 λ_ _ _ H _ I h=>rC I J hm Y ⟨v,H,I,r,h⟩ hn hd
variable {a b : Expr} {ta tb : TE} {pos : Pos}
def PC(X:Cx)(J:CmpOp)(a b:Expr)(t:TE):Prop:=
 ∀(pins:List (Addr×Obj)) (s:Shared) (σ:St) (H:Hp) (Q:VK),Inv X pins σ H s->t σ H Q->
  wpAny (model X.prog X.w) X.A (eval a X.env) (λv Y=>wpAny (model X.prog X.w) X.A (eval b X.env) (λu s₂=>wpAny (model X.prog X.w) X.A (compareOp J v u) (EP X pins σ Q) X.xe s₂) X.xe Y) X.xe s
theorem Jo(b:Expr){J:CmpOp}(h:J≠ .In)(h2:J≠ .NotIn):behindInMarks J b=false:=by
 have e1:(J == CmpOp.In)=false:=by cases J <;> first | rfl | exact absurd rfl h
 have e2:(J == CmpOp.NotIn)=false:=by cases J <;> first | rfl | exact absurd rfl h2
 cases b <;> simp[behindInMarks,e1,e2]
def tB(t:TE):TT:=λσ H Q=>t σ H λx H1=>∃c,x=.bl c/\Q c H1
theorem QQ{J:CmpOp}{t:TE}(h:PC X J a b t)(h1:behindInMarks J b=false:=by first | exact Jo _ (by decide) (by decide) | rfl):PT X (.Compare a [J] [b] pos) (tB t):=by
 intro pins s σ H Q I Y
 refine wpAny_isTrue_Compare1 (thn (h pins s σ H _ I Y) λv s1 h1=>thn h1 λu s2 h2=>thn h2 λc s3 ⟨x,H1,I1,r1,q1⟩=> ?_) h1
 obtain⟨d,rfl,q⟩:=q1
 cases r1
 exact wpAny_truthy_bool ⟨H1,I1,q⟩
theorem fE{e:Expr}{t:TE}(h:PE X e t)(Y:∀J,isTrue e X.env J=(do let v <- J;standAt e.pos;holding [v] (truthy v)):=by intro _;rfl):PT X e (tB t):=by
 intro pins s σ H Q I hw
 refine isTrue_plain (thn (h pins s σ H _ I hw) λv s1 ⟨x,H1,I1,r1,q1⟩=> ?_) (Y _)
 obtain⟨d,rfl,q⟩:=q1
 cases r1
 exact wpAny_truthy_bool ⟨H1,I1,q⟩
variable {tA tB' : TT} {rest : List Expr}
def NZ(t u:TT):TT:=λσ H Q=>t σ H λc H1=>if c=true then u σ H1 Q else Q false H1
def tOr(t u:TT):TT:=λσ H Q=>t σ H λc H1=>if c=true then Q true H1 else u σ H1 Q
def M4(t:TT):TT:=λσ H Q=>t σ H λc H1=>Q (!c) H1
theorem pw_and1(ha:PT X a tA):PW X (.BoolOp .And [a] pos) tA:=by
 intro J pins s σ H Q I h
 refine isTrue_and (thn (ha pins s σ H Q I h) λc s1 e=> ?_)
 cases c with
 | true=>exact isTrue_and_nil e
 | false=>exact e
theorem pw_or1(ha:PT X a tA):PW X (.BoolOp .Or [a] pos) tA:=by
 intro J pins s σ H Q I h
 refine isTrue_or (thn (ha pins s σ H Q I h) λc s1 e=> ?_)
 cases c with
 | false=>exact isTrue_or_nil e
 | true=>exact e
theorem pw_and(ha:PT X a tA)(hb:PW X (.BoolOp .And (b::rest) pos) tB'):PW X (.BoolOp .And (a::b::rest) pos) (NZ tA tB'):=by
 intro J pins s σ H Q I h
 refine isTrue_and (thn (ha pins s σ H _ I h) λc s1 ⟨H1,I1,q1⟩=> ?_)
 cases c with
 | true=>exact hb J pins s1 σ H1 Q I1 q1
 | false=>exact⟨H1,I1,q1⟩
theorem pw_or(ha:PT X a tA)(hb:PW X (.BoolOp .Or (b::rest) pos) tB'):PW X (.BoolOp .Or (a::b::rest) pos) (tOr tA tB'):=by
 intro J pins s σ H Q I h
 refine isTrue_or (thn (ha pins s σ H _ I h) λc s1 ⟨H1,I1,q1⟩=> ?_)
 cases c with
 | true=>exact⟨H1,I1,q1⟩
 | false=>exact hb J pins s1 σ H1 Q I1 q1
theorem jT(ha:PT X a tA):PT X (.UnaryOp .Not a pos) (M4 tA):=by
 intro pins s σ H Q I h
 exact isTrue_not (ha pins s σ H (λc H1=>Q (!c) H1) I h)
def Ku(ta tb:TE):TE:=λσ H Q=>ta σ H λx H1=>∃c,x=.bl c/\if c=true then tb σ H1 Q else Q (.bl false) H1
def Kk(ta:TE):TE:=λσ H Q=>ta σ H λx H1=>∃c,x=.bl c/\Q (.bl (!c)) H1
theorem Ga{op}{t:TE}(h:PE X a t):PE X (.BoolOp op [a] pos) t:=λpins s σ H Q I J=>BoolOp_one (h pins s σ H Q I J)
theorem Hj(ha:PE X a ta)(hb:PE X (.BoolOp .And (b::rest) pos) tb):PE X (.BoolOp .And (a::b::rest) pos) (Ku ta tb):=by
 intro pins s σ H Q I h
 refine BoolOp_and (thn (ha pins s σ H _ I h) λv s1 ⟨x,H1,I1,r1,q1⟩=> ?_)
 obtain⟨c,rfl,q1⟩:=q1
 cases r1
 refine wpAny_truthy_bool ?_
 cases c with
 | true=>exact hb pins s1 σ H1 Q I1 q1
 | false=>exact⟨.bl false,H1,I1,rfl,q1⟩
theorem G9(ha:PE X a ta):PE X (.UnaryOp .Not a pos) (Kk ta):=by
 intro pins s σ H Q I h
 refine UnaryOp_ (thn (ha pins s σ H _ I h) λv s1 ⟨x,H1,I1,r1,q1⟩=> ?_)
 obtain⟨c,rfl,q1⟩:=q1
 cases r1
 exact not_of (wpAny_truthy_bool ⟨.bl (!c),H1,I1,rfl,q1⟩)
end
def SqL(K:R4)(H:Hp)(a:Addr)(xs:List V):Prop:=
 Rd H a (.lst xs)\/
  ∃(o:Obj) (J:Array Value) (n:Nat),K.lookup a=some o/\o.cls=.type "list" /\o.dict=none/\o.data=.seq J n/\J.size<=sizeLine/\Vals xs J.toList
def SqT(K:R4)(H:Hp)(a:Addr)(xs:List V):Prop:=
 Rd H a (.tup xs)\/
  ∃(o:Obj) (J:Array Value) (n:Nat),K.lookup a=some o/\o.cls=.type "tuple" /\o.data=.seq J n/\J.size<=sizeLine/\Vals xs J.toList
def Qb:Value->Option V
 | .none=>some .non
 | .bool b=>some (.bl b)
 | .int i _=>some (.int i)
 | .str x _=>some (.str x)
 | .bytes b _=>some (.byt b)
 | .float b _=>some (.flt b)
 | .ref a=>some (.ref a)
 | .type n=>some (.ty n)
 | _=>none
theorem RelV.abs{x:V}{u:Value}(r:RelV x u):Qb u=some x:=by
 cases x with
 | non=>cases r;rfl
 | bl _=>cases r;rfl
 | int _=>obtain⟨t,rfl⟩:=r;rfl
 | str _=>obtain⟨t,rfl⟩:=r;rfl
 | byt _=>obtain⟨t,rfl⟩:=r;rfl
 | flt _=>obtain⟨t,rfl⟩:=r;rfl
 | ref _=>cases r;rfl
 | ty _=>cases r;rfl
theorem RelV.inj{x y:V}{u:Value}(r:RelV x u)(q:RelV y u):x=y:=Tt (r.abs.symm.trans q.abs)
theorem Vals.inj:∀{xs ys:List V} {us:List Value},Vals xs us->Vals ys us->xs=ys
 | _,_,_,.nil,.nil=>rfl
 | _,_,_,.cons r t,.cons r' t'=>by rw[r.inj r',Vals.inj t t']
section
variable {X : Cx} {pins : List (Addr × Obj)} {σ : St} {H : Hp} {s : Shared} {a : Addr} {xs ys : List V}
theorem SqL.of{K:R4}(h:H a=some (.lst xs)):SqL K H a xs:=.inl (.inl h)
theorem SqT.of{K:R4}(h:H a=some (.tup xs)):SqT K H a xs:=.inl (.inl h)
theorem Inv.list(I:Inv X pins σ H s)(h:SqL X.K H a xs):∃J:List Value,Vals xs J/\PlainL s.heap a J.toArray/\xs.length<=sizeLine:=by
 rcases h with h | ⟨o,J,n,hk,hc,hd,Y,hz,r⟩
 ·obtain⟨z,J,n,r,e⟩:=h.ok I.hok
  exact⟨J,r,⟨_,n,e,rfl,rfl,rfl⟩,z⟩
 ·refine⟨J.toList,r,⟨o,n,I.kIn a o hk,hc,hd,by simpa using Y⟩, ?_⟩
  have e:=r.length
  simp only[UX] at e
  omega
theorem Inv.tuple(I:Inv X pins σ H s)(h:SqT X.K H a xs):∃J:List Value,Vals xs J/\IsTup s.heap a J.toArray/\xs.length<=sizeLine:=by
 rcases h with h | ⟨o,J,n,hk,hc,Y,hz,r⟩
 ·obtain⟨z,J,r,p⟩:=h.ok I.hok
  exact⟨J,r,p,z⟩
 ·refine⟨J.toList,r,⟨o,I.kIn a o hk,hc,n,by simpa using Y⟩, ?_⟩
  have e:=r.length
  simp only[UX] at e
  omega
theorem Inv.list_inj(I:Inv X pins σ H s)(h:SqL X.K H a xs)(h':SqL X.K H a ys):xs=ys:=by
 obtain⟨Y,r,⟨o,n,e,_,_,d⟩,_⟩:=I.list h
 obtain⟨J,r',⟨o',n',e',_,_,d'⟩,_⟩:=I.list h'
 rw[e] at e';cases e'
 rw[d] at d'
 injection d' with d1 _
 have:Y=J:=by simpa using congrArg WB d1
 subst this
 exact r.inj r'
theorem Inv.tuple_inj(I:Inv X pins σ H s)(h:SqT X.K H a xs)(h':SqT X.K H a ys):xs=ys:=by
 obtain⟨Y,r,⟨o,e,_,n,d⟩,_⟩:=I.tuple h
 obtain⟨J,r',⟨o',e',_,n',d'⟩,_⟩:=I.tuple h'
 rw[e] at e';cases e'
 rw[d] at d'
 injection d' with d1 _
 have:Y=J:=by simpa using congrArg WB d1
 subst this
 exact r.inj r'
end
abbrev Cx.wish(X:Cx)(E:Value->Shared->Prop):Cx:={X with xe:=E}
abbrev Cx.nox(X:Cx):Cx:=X.wish λ_ _=>False
theorem Cx.Ok.wish{X:Cx}(ok:X.Ok)(E:Value->Shared->Prop):(X.wish E).Ok:=
 ⟨ok.mod,ok.kind,ok.glob,ok.blt,ok.above,ok.inj,ok.has,ok.cab,ok.hd,ok.frames,ok.stk,ok.exf,ok.bs,ok.bsz,ok.noex,ok.exfs,ok.funs,ok.frf⟩
theorem Cx.Ok.unwish{X:Cx}{E:Value->Shared->Prop}(ok:(X.wish E).Ok):X.Ok:=
 ⟨ok.mod,ok.kind,ok.glob,ok.blt,ok.above,ok.inj,ok.has,ok.cab,ok.hd,ok.frames,ok.stk,ok.exf,ok.bs,ok.bsz,ok.noex,ok.exfs,ok.funs,ok.frf⟩
section
variable {X : Cx} {pins : List (Addr × Obj)} {σ : St} {H : Hp} {s : Shared} {E : Value → Shared → Prop}
theorem Inv.wish(I:Inv X pins σ H s)(E:Value->Shared->Prop):Inv (X.wish E) pins σ H s:=⟨I.ok.wish E,I.os,I.bare,I.base,I.loc,I.cell,I.free,I.freeC,I.pin,I.hok,I.len⟩
theorem Inv.unwish(I:Inv (X.wish E) pins σ H s):Inv X pins σ H s:=⟨I.ok.unwish,I.os,I.bare,I.base,I.loc,I.cell,I.free,I.freeC,I.pin,I.hok,I.len⟩
theorem SP.unwish{D:Ends}{f:Flow}{s':Shared}(h:SP (X.wish E) pins D f s'):SP X pins D f s':=by
 cases f with
 | next=>obtain⟨J,H',I,q⟩:=h;exact⟨J,H',I.unwish,q⟩
 | brk=>obtain⟨J,H',I,q⟩:=h;exact⟨J,H',I.unwish,q⟩
 | cont=>obtain⟨J,H',I,q⟩:=h;exact⟨J,H',I.unwish,q⟩
 | ret u=>obtain⟨v,J,H',I,r,q⟩:=h;exact⟨v,J,H',I.unwish,r,q⟩
theorem PSs.nox{st:List Stmt}{t:TS}(h:PSs X.nox st t):PSs X st t:=λpins s σ H D I J=>
 wpAny_mono (h pins s σ H D (I.wish _) J) (λ_ _ q=>q.unwish) λ_ _ z=>R5 z
end
section
variable {X : Cx} {st : Stmt} {rest : List Stmt} {t u : TS} {e : Expr} {te : TE} {pos : Pos}
def Kg:TS:=λD σ H=>D.nx σ H
def MF(t u:TS):TS:=λD σ H=>t {D with nx:=u D} σ H
theorem bL:PSs X [] Kg:=λ_ _ σ H _ I h=>wpAny_execs_nil ⟨σ,H,I,h⟩
theorem aw(h1:PS X st t)(h2:PSs X rest u):PSs X (st::rest) (MF t u):=by
 intro pins s σ H D I h
 refine wpAny_execs_cons (thn (h1 pins s σ H {D with nx:=u D} I h) λf s1 q=> ?_)
 cases f with
 | next=>
  obtain⟨J,H',Y,q⟩:=q
  exact h2 pins s1 J H' D Y q
 | ret v=>exact q
 | brk=>exact q
 | cont=>exact q
theorem aH(h1:PS X st t):PSs X [st] t:=by
 intro pins s σ H D I h
 refine wpAny_execs_cons (thn (h1 pins s σ H D I h) λf s1 q=> ?_)
 cases f with
 | next=>exact wpAny_execs_nil q
 | ret v=>exact q
 | brk=>exact q
 | cont=>exact q
theorem Inv.quiet{pins:List (Addr×Obj)}{σ:St}{H:Hp}{s:Shared}(I:Inv X pins σ H s):interactive X.env=false:=by simp[interactive,I.ok.kind]
def Kb(te:TE):TS:=λD σ H=>te σ H λ_ H1=>D.nx σ H1
theorem cY(J:PE X e te)(Y:swapsWith e none pos.line X.env=pure false:=by rfl):PS X (.Expr e pos) (Kb te):=by
 intro pins s σ H D I h
 exact wpAny_Expr_any (thn (J pins s σ H _ I h) λv s1 ⟨x,H1,I1,r1,q1⟩=>⟨σ,H1,I1,q1⟩) I.quiet Y
def M8(te:TE):TS:=λD σ H=>te σ H D.rt
theorem bA(J:PE X e te):PS X (.Return (some e) pos) (M8 te):=by
 intro pins s σ H D I h
 exact wpAny_Return_some (thn (J pins s σ H _ I h) λv s1 ⟨x,H1,I1,r1,q1⟩=>⟨x,σ,H1,I1,r1,q1⟩)
def Nb(c:TT)(t u:TS):TS:=λD σ H=>c σ H λb H1=>if b=true then t D σ H1 else u D σ H1
theorem cQ{c:Expr}{a b:List Stmt}{tc:TT}(hc:PT X c tc)(ha:PSs X a t)(hb:PSs X b u):PS X (.If c a b pos) (Nb tc t u):=by
 intro pins s σ H D I h
 refine wpAny_If (thn (hc pins s σ H _ I h) λd s1 ⟨H1,I1,q1⟩=> ?_)
 cases d with
 | true=>exact ha pins s1 σ H1 D I1 q1
 | false=>exact hb pins s1 σ H1 D I1 q1
def GL:TS:=λ_ _ _=>False
theorem fe:PS X st GL:=λ_ _ _ _ _ _ h=>h.elim
end
abbrev TG:=V->St->Hp->(St->Hp->Prop)->Prop
abbrev TGs:=List V->St->Hp->(St->Hp->Prop)->Prop
def PG(X:Cx)(J:Expr)(t:TG):Prop:=
 ∀(pins:List (Addr×Obj)) (s:Shared) (σ:St) (H:Hp) (v:V) (u:Value) (Q:St->Hp->Prop),Inv X pins σ H s->RelV v u->t v σ H Q->
  wpAny (model X.prog X.w) X.A (assign J X.env u) (λ_ s'=>∃Y H',Inv X pins Y H' s'/\Q Y H') X.xe s
def PGs(X:Cx)(ts:List Expr)(t:TGs):Prop:=
 ∀(pins:List (Addr×Obj)) (s:Shared) (σ:St) (H:Hp) (vs:List V) (us:List Value) (Q:St->Hp->Prop),Inv X pins σ H s->Vals vs us->t vs σ H Q->
  wpAny (model X.prog X.w) X.A (assignInOrder ((assignEach ts X.env).map (·.2)) us) (λ_ s'=>∃J H',Inv X pins J H' s'/\Q J H') X.xe s
abbrev IW:=V->V->V->Hp->(Hp->Prop)->Prop
def MG(X:Cx)(t:IW):Prop:=
 ∀(pins:List (Addr×Obj)) (s:Shared) (σ:St) (H:Hp) (o i v:V) (J Y u:Value) (Q:Hp->Prop),Inv X pins σ H s->RelV o J->RelV i Y->RelV v u->t o i v H Q->
  wpAny (model X.prog X.w) X.A (setItem J Y u) (λ_ s'=>∃H',Inv X pins σ H' s'/\Q H') X.xe s
section
variable {X : Cx} {pos : Pos}
def u0(i:Nat):TG:=λv σ H Q=>Q (σ.set i (some v)) H
theorem aM{i:Nat}{x:Str}(J:X.N.Nodup)(hi:X.N[i]? =some x)(hx:Loc X.env.scope x)(Y:X.fn x=true\/X.env.scope.names.lookup x=some .local:=by first | exact .inl rfl | exact .inr rfl | assumption):PG X (.Name x pos) (u0 i):=by
 intro pins s σ H v u Q I r h
 exact wpAny_assign_Name (Bw I J hi hx r (λs' I'=>⟨_,H,I',h⟩) Y)
def M7:TGs:=λvs σ H Q=>vs=[]/\Q σ H
def Kf(t:TG)(u:TGs):TGs:=λvs σ H Q=>∃v r,vs=v::r/\t v σ H λJ H'=>u r J H' Q
theorem eE:PGs X [] M7:=by
 intro pins s σ H vs us Q I r h
 obtain⟨e,h⟩:=h
 subst e
 cases r
 exact assignInOrder_nil ⟨σ,H,I,h⟩
theorem bE {e:Expr} {es:List Expr} {t:TG} {u:TGs} (h1:PG X e t) (h2:PGs X es u)
 (J:(assignEach (e::es) X.env).map (·.2)=assign e X.env::(assignEach es X.env).map (·.2):=by rfl):PGs X (e::es) (Kf t u):=by
 intro pins s σ H vs us Q I r h
 obtain⟨v,vr,e1,h⟩:=h
 subst e1
 cases r with
 | cons r Y=>
  rw[J]
  refine assignInOrder_cons (thn (h1 pins s σ H _ _ _ I r h) λ_ s1 ⟨σ1,H1,I1,q1⟩=> ?_)
  exact h2 pins s1 σ1 H1 _ _ Q I1 Y q1
def NA(K:R4)(n:Nat)(t:TGs):TG:=λv σ H Q=>∃a xs,v=.ref a/\SqT K H a xs/\xs.length=n/\t xs σ H Q
theorem fG {es:List Expr} {k:Nat} {t:TGs} {n:Nat} (hc:X.calm=true) (h:PGs X es t)
 (hn:(assignEach es X.env).length=n:=by rfl) (J:(assignEach es X.env).findIdx? (·.1)=none:=by rfl):PG X (.Tuple es k pos) (NA X.K n t):=by
 intro pins s σ H v u Q I r Y
 obtain⟨a,xs,e1,hq,hl,Y⟩:=Y
 subst e1
 cases r
 obtain⟨am,rv,ht,hz⟩:=I.tuple hq
 refine assign_Tuple_tuple (I.ok.hd hc) ht (by simp[hn,<- hl,rv.length]) J λh' hx=> ?_
 have I1:Inv X pins σ H {s with heap:=h'}:=I.kept (t':=s.toks) λb o e=>hx b o (SX (Heap.lt_size e)) e
 exact h pins _ σ H xs _ Q I1 (by simpa using rv) Y
def MT(to J:TE)(t:IW):TG:=λv σ H Q=>to σ H λo H1=>J σ H1 λi H2=>t o i v H2 λY=>Q σ Y
theorem Hb {o i:Expr} {to ti:TE} {t:IW} (ho:PE X o to) (hi:PE X i ti) (hs:MG X t)
 (ha:∀v,assign (.Subscript o i pos) X.env v=(do
  let J <- holding [v] (eval o X.env)
  let Y <- holding [v,J] (eval i X.env)
  standAt pos
  holding [v,J,Y] (setItem J Y v)
  release [v,J,Y] []):=by intro _;rfl):PG X (.Subscript o i pos) (MT to ti t):=by
 intro pins s σ H v u Q I r h
 rw[ha]
 refine wpAny_bind (wpAny_holding (thn (ho pins s σ H _ I h) λJ s1 ⟨x,H1,I1,r1,q1⟩=> ?_))
 refine wpAny_bind (wpAny_holding (thn (hi pins s1 σ H1 _ I1 q1) λY s2 ⟨y,H2,I2,r2,q2⟩=> ?_))
 refine wpAny_bind (wpAny_standAt (wpAny_bind (wpAny_holding (thn (hs pins s2 σ H2 x y v J Y u _ I2 r1 r2 r q2) λ_ s3 ⟨H3,I3,q3⟩=> ?_))))
 exact wpAny_release ⟨σ,H3,I3,q3⟩
def AW(te:TE)(g:TG):TS:=λD σ H=>te σ H λx H1=>g x σ H1 D.nx
theorem w9 {tg e:Expr} {te:TE} {g:TG} (J:PE X e te) (Y:PG X tg g) (hs:swapsWithSole [tg] e pos.line X.env=pure false:=by rfl) (hw:swappedStores [tg] e X.env=pure none:=by rfl)
 (h1:(assignEach [tg] X.env).map (·.2)=[assign tg X.env]:=by rfl):PS X (.Assign [tg] e pos) (AW te g):=by
 intro pins s σ H D I h
 refine wpAny_Assign_stores (thn (J pins s σ H _ I h) λv s1 ⟨x,H1,I1,r1,q1⟩=> ?_) hs hw
 rw[h1]
 exact thn (Y pins s1 σ H1 x v _ I1 r1 q1) λ_ s2 q=>q
theorem bg{i:Nat}{x:Str}{e:Expr}{te:TE}{pos':Pos}(J:X.N.Nodup)(hi:X.N[i]? =some x)(hx:Loc X.env.scope x)(Y:PE X e te)(hs:swapsWith e (some (.Name x pos')) pos.line X.env=pure false:=by rfl)(hf:X.fn x=true\/X.env.scope.names.lookup x=some .local:=by first | exact .inl rfl | exact .inr rfl | assumption):
 PS X (.Assign [.Name x pos'] e pos) (AW te (u0 i)):=by
 intro pins s σ H D I h
 refine wpAny_Assign_Name (thn (Y pins s σ H _ I h) λv s1 ⟨y,H1,I1,r1,q1⟩=> ?_) hs
 exact Bw I1 J hi hx r1 (λs2 I2=>⟨_,H1,I2,q1⟩) hf
end
section
variable {X : Cx} {pos : Pos}
def FQ(c:TT)(tb:TS):TS:=λD σ H=>∃W:Nat->St->Hp->Prop,(∃m,W m σ H)/\∀m σ H,W m σ H->
 c σ H λb H1=>if b=true then ∃N:St->Hp->Prop,(∀J H',N J H'->∃Y,Y<m/\W Y J H')/\tb {D with nx:=N,ct:=N,bk:=D.nx} σ H1 else D.nx σ H1
theorem CA{c:Expr}{body:List Stmt}{tc:TT}{tb:TS}(hp:PassesOwn (model X.prog X.w) X.A X.env X.xe)(hc:PT X c tc)(hb:PSs X body tb):PS X (.While c body [] pos) (FQ tc tb):=by
 intro pins s σ H D I h
 obtain⟨W,⟨m0,w0⟩,J⟩:=h
 refine wpAny_While (codeAny_whileLoop (λn s'=>∃σ' H',Inv X pins σ' H' s'/\W n σ' H') ?_ m0 ⟨σ,H,I,w0⟩)
 rintro n s1 ⟨σ1,H1,I1,w1⟩
 refine wpAny_passesOwn hp (thn (hc pins s1 σ1 H1 _ I1 (J n σ1 H1 w1)) λb s2 ⟨H2,I2,q2⟩=> ?_)
 cases b with
 | true=>
  obtain⟨N,hN,q2⟩:=q2
  rw[if_pos rfl]
  refine wpAny_passesOwn hp (thn (hb pins s2 σ1 H2 _ I2 q2) λf s3 q3=> ?_)
  cases f with
  | next=>
   obtain⟨Y,H3,I3,n3⟩:=q3
   obtain⟨m',hm,w3⟩:=hN Y H3 n3
   exact⟨m',hm,Y,H3,I3,w3⟩
  | cont=>
   obtain⟨Y,H3,I3,n3⟩:=q3
   obtain⟨m',hm,w3⟩:=hN Y H3 n3
   exact⟨m',hm,Y,H3,I3,w3⟩
  | brk=>exact q3
  | ret v=>exact q3
 | false=>
  rw[if_neg SD]
  exact wpAny_execs_nil ⟨σ1,H2,I2,q2⟩
end
structure It where
 go:Nat->Hp->Prop
 yld:Nat->Hp->V->Hp->Prop
 stop:Nat->Hp->Prop
def om(X:Cx)(pins:List (Addr×Obj))(H:Hp)(b:Addr):Prop:=
 H b=none/\b≠X.env.locals/\b∉X.fs/\(b∈X.ex\/X.s₀.heap.objs.size<=b)/\(∀x c,X.env.cells.lookup x=some c->c≠b)/\∀p∈X.pn++pins,p.1≠b
theorem Inv.fpOk{X:Cx}{pins:List (Addr×Obj)}{σ:St}{H H':Hp}{s:Shared}{b:Addr}(I:Inv X pins σ H s)(hb:s.heap.objs.size<=b)(hn:H' b=none):om X pins H' b:=by
 refine⟨hn,Nat.ne_of_gt (SJ I.lt hb),I.nofs hb,.inr (S4 I.sz hb),λx c e z=> ?_,λp hp z=> ?_⟩
 ·obtain⟨v,q⟩:=I.cell x c e
  exact absurd (SJ q.lt (by rw[z];exact hb)) (Tr _)
 ·exact absurd (SJ (Heap.lt_size (I.pin p hp).1) (by rw[z];exact hb)) (Tr _)
structure Turn(P:Program)(w:World)(K:R4)(tg:Expr)(J:It)(fp:List Addr)(it:Addr)(tn:Nat->Heap->Prop):Prop where
 mem:it∈fp
 obj:∀i h,tn i h->∀b∈fp,∃o,h.get? b=some o/\∀v,o.data≠ .cell v
 keep:∀i h h',tn i h->(∀b∈fp,∀o,h.get? b=some o->h'.get? b=some o)->tn i h'
 item:∀(X:Cx),X.prog=P->X.w=w->X.K=K->X.calm=true->∀(i:Nat) (pins:List (Addr×Obj)) (s:Shared) (σ:St) (H:Hp) (E:Value->Shared->Prop),Inv X pins σ H s->(∀b∈fp,om X pins H b)->tn i s.heap->J.go i H->
  wpAny (model P w) X.A (pyNext (.ref it)) (λr s1=>∃u,r=some u/\
   wpAny (model P w) X.A (letOwnedTupleGo tg (.ref it) u) (λ_ s2=>∃x H',Inv X pins σ H' s2/\RelV x u/\J.yld i H x H'/\tn (i+1) s2.heap/\∀b∈fp,H' b=none) E s1) E s
 done:∀(X:Cx),X.prog=P->X.w=w->X.K=K->X.calm=true->∀(i:Nat) (pins:List (Addr×Obj)) (s:Shared) (σ:St) (H:Hp) (E:Value->Shared->Prop),Inv X pins σ H s->(∀b∈fp,om X pins H b)->tn i s.heap->J.stop i H->
  wpAny (model P w) X.A (pyNext (.ref it)) (λr s1=>r=none/\Inv X pins σ H s1) E s
 self:∀(A:Around) (i:Nat) (s:Shared) (Q:Value->Shared->Prop) (E:Value->Shared->Prop),tn i s.heap->Q (.ref it) s->wpAny (model P w) A (pyIter (.ref it)) Q E s
abbrev TI:=St->Hp->(It->Hp->Prop)->Prop
def PIE(X:Cx)(pins:List (Addr×Obj))(σ:St)(tg:Expr)(R:It->Hp->Prop)(Y:Value)(s2:Shared):Prop:=
 ∃(it:Addr) (fp:List Addr) (tn:Nat->Heap->Prop) (J:It) (H':Hp),Y=.ref it/\Inv X pins σ H' s2/\Turn X.prog X.w X.K tg J fp it tn/\tn 0 s2.heap/\(∀b∈fp,om X pins H' b)/\R J H'
def PI(X:Cx)(tg J:Expr)(Y:TI):Prop:=
 ∀(pins:List (Addr×Obj)) (s:Shared) (σ:St) (H:Hp) (R:It->Hp->Prop),Inv X pins σ H s->Y σ H R->
  wpAny (model X.prog X.w) X.A (eval J X.env) (λv s1=>wpAny (model X.prog X.w) X.A (pyIter v) (PIE X pins σ tg R) X.xe s1) X.xe s
theorem Aq {M:Model} {A:Around} {E:Value->Shared->Prop} {s:Shared} {tg:Expr} {it:Addr} {u:Value} {o:Obj} {n:String} {vs:Array Value} {Q:Unit->Shared->Prop} (Y:s.heap.get? it=some o) (hc:o.cls=.type n) (hd:o.data=.fields vs)
 (hn:["enumerate","zip","dict_itemiterator","dict_reverseitemiterator","odict_iterator","itertools.zip_longest","itertools.pairwise"].contains n=false) (J:Q () s):wpAny M A (letOwnedTupleGo tg (.ref it) u) Q E s:=by
 unfold letOwnedTupleGo
 cases tg <;> first
  | exact wpAny_pure J
  | (cases u <;> first
   | exact wpAny_pure J
   | (
    refine wpAny_bind (wpAny_load Y ?_)
    rw[hc,hd]
    show wpAny M A (if (["enumerate","zip","dict_itemiterator","dict_reverseitemiterator","odict_iterator","itertools.zip_longest","itertools.pairwise"].contains n&&vs[0]? == some (rawInt _))=true then _ else _) Q E s
    rw[if_neg (by intro h;rw[hn,U0] at h;cases h)]
    exact wpAny_pure J))
def Itl(K:R4)(a:Addr):It:=
 ⟨λi H=>∃xs x,SqL K H a xs/\xs[i]? =some x,λi H x H'=>H'=H/\∀xs,SqL K H a xs->xs[i]? =some x,λi H=>∃xs,SqL K H a xs/\xs.length<=i⟩
def Itt(K:R4)(a:Addr):It:=
 ⟨λi H=>∃xs x,SqT K H a xs/\xs[i]? =some x,λi H x H'=>H'=H/\∀xs,SqT K H a xs->xs[i]? =some x,λi H=>∃xs,SqT K H a xs/\xs.length<=i⟩
def Itr(lo:Int)(n:Nat):It:=⟨λi _=>i<n,λi H x H'=>H'=H/\x=.int (lo+i),λi _=>n<=i⟩
theorem Gy{P:Program}{w:World}{K:R4}{tg:Expr}(a it:Addr):Turn P w K tg (Itl K a) [it] it (λi h=>h.IsListIter it a i) where
 mem:=by simp
 obj:=λi h st b hb=>by
  have e:b=it:=by simpa using hb
  subst e
  obtain⟨o,e,c,d⟩:=st
  exact⟨o,e,λv z=>by rw[d] at z;cases z⟩
 keep:=λi h h' st k=>st.at λo e=>k it (by simp) o e
 item:=by
  intro X hP hw hK hc i pins s σ H E I hf st hg
  subst hP hw hK
  obtain⟨xs,x,hq,hx⟩:=hg
  obtain⟨its,rv,p,hz⟩:=I.list hq
  obtain⟨u,hu,ru⟩:=rv.get hx
  obtain⟨f0,f1,f2,f3,f4,f5⟩:=hf it (by simp)
  refine wpAny_pyNext_list_item st p.isList (x:=u) (by simpa using hu) λh' st' sb=> ?_
  have I1:Inv X pins σ H {s with heap:=h'}:=I.turned (t':=s.toks) (λb o hb e=>(sb.2 b hb).trans e) f0 f1 f3 f4 f5
  obtain⟨o,e,c,d⟩:=id st'
  exact⟨u,rfl,Aq (s:={s with heap:=h'}) e c d (by decide) ⟨x,H,I1,ru,⟨rfl,λys hy=>by rw[I.list_inj hy hq];exact hx⟩,st',λb hb=>(hf b hb).1⟩⟩
 done:=by
  intro X hP hw hK hc i pins s σ H E I hf st hg
  subst hP hw hK
  obtain⟨xs,hq,hx⟩:=hg
  obtain⟨its,rv,p,hz⟩:=I.list hq
  obtain⟨f0,f1,f2,f3,f4,f5⟩:=hf it (by simp)
  have hl:=rv.length
  exact wpAny_pyNext_list_end (I.ok.hd hc) st p.isList (by simp;omega) λh' eb=>⟨rfl,I.turned (t':=s.toks) (λb o hb e=>eb b o hb e) f0 f1 f3 f4 f5⟩
 self:=λ_ _ _ _ _ st h=>wpAny_pyIter_listiter st h
theorem Fu{P:Program}{w:World}{K:R4}{tg:Expr}(a it:Addr):Turn P w K tg (Itt K a) [it] it (λi h=>h.IsTupleIter it a i) where
 mem:=by simp
 obj:=λi h st b hb=>by
  have e:b=it:=by simpa using hb
  subst e
  obtain⟨o,e,c,d⟩:=st
  exact⟨o,e,λv z=>by rw[d] at z;cases z⟩
 keep:=λi h h' st k=>st.at λo e=>k it (by simp) o e
 item:=by
  intro X hP hw hK hc i pins s σ H E I hf st hg
  subst hP hw hK
  obtain⟨xs,x,hq,hx⟩:=hg
  obtain⟨its,rv,p,hz⟩:=I.tuple hq
  obtain⟨u,hu,ru⟩:=rv.get hx
  obtain⟨f0,f1,f2,f3,f4,f5⟩:=hf it (by simp)
  refine wpAny_pyNext_tuple_item st (show s.heap.IsTuple a its.toArray from p) (x:=u) (by simpa using hu) λh' st' sb=> ?_
  have I1:Inv X pins σ H {s with heap:=h'}:=I.turned (t':=s.toks) (λb o hb e=>(sb.2 b hb).trans e) f0 f1 f3 f4 f5
  obtain⟨o,e,c,d⟩:=id st'
  exact⟨u,rfl,Aq (s:={s with heap:=h'}) e c d (by decide) ⟨x,H,I1,ru,⟨rfl,λys hy=>by rw[I.tuple_inj hy hq];exact hx⟩,st',λb hb=>(hf b hb).1⟩⟩
 done:=by
  intro X hP hw hK hc i pins s σ H E I hf st hg
  subst hP hw hK
  obtain⟨xs,hq,hx⟩:=hg
  obtain⟨its,rv,p,hz⟩:=I.tuple hq
  obtain⟨f0,f1,f2,f3,f4,f5⟩:=hf it (by simp)
  have hl:=rv.length
  exact wpAny_pyNext_tuple_end (I.ok.hd hc) st (show s.heap.IsTuple a its.toArray from p) (by simp;omega) λh' eb=>⟨rfl,I.turned (t':=s.toks) (λb o hb e=>eb b o hb e) f0 f1 f3 f4 f5⟩
 self:=λ_ _ _ _ _ st h=>wpAny_pyIter_tupleiter st h
theorem E9{P:Program}{w:World}{K:R4}{tg:Expr}(it:Addr)(lo:Int)(n:Nat):Turn P w K tg (Itr lo n) [it] it (λi h=>IsRangeIter h it (lo+(i:Nat)*1) ((n:Int)-(i:Nat)) 1) where
 mem:=by simp
 obj:=λi h st b hb=>by
  have e:b=it:=by simpa using hb
  subst e
  exact⟨_,st,λv z=>by
   have z':Data.fields _=Data.cell v:=z
   cases z'⟩
 keep:=λi h h' st k=>k it (by simp) _ st
 item:=by
  intro X hP hw hK hc i pins s σ H E I hf st hg
  subst hP hw hK
  obtain⟨f0,f1,f2,f3,f4,f5⟩:=hf it (by simp)
  have W:=Walks.range (prog:=X.prog) (w:=X.w) (I.ok.hd hc) it lo 1 n
  refine W.item i s _ _ hg st λv h' tk hv st' kk=> ?_
  obtain⟨t,rfl⟩:=hv
  have I1:Inv X pins σ H {s with heap:=h',toks:=tk}:=I.turned (λb o hb e=>kk b o (by simpa using hb) e) f0 f1 f3 f4 f5
  refine⟨_,rfl,Aq (s:={s with heap:=h',toks:=tk}) (n:="range_iterator") st' rfl rfl (by decide) ⟨.int (lo+i),H,I1,⟨t, ?_⟩,⟨rfl,rfl⟩,st',λb hb=>(hf b hb).1⟩⟩
  rw[Int.mul_one]
 done:=by
  intro X hP hw hK hc i pins s σ H E I hf st hg
  subst hP hw hK
  obtain⟨f0,f1,f2,f3,f4,f5⟩:=hf it (by simp)
  exact wpAny_pyNext_range_end (I.ok.hd hc) st (by have:n<=i:=hg;omega) λh' eb=>⟨rfl,I.turned (t':=s.toks) (λb o hb e=>eb b o hb e) f0 f1 f3 f4 f5⟩
 self:=λ_ _ _ _ _ st h=>wpAny_pyIter_rangeiter st h
section
variable {X : Cx} {tg : Expr}
def Kq(K:R4)(tl:TE):TI:=λσ H R=>tl σ H λx H1=>∃a,x=.ref a/\(∃xs,SqL K H1 a xs)/\R (Itl K a) H1
def Nh(K:R4)(tl:TE):TI:=λσ H R=>tl σ H λx H1=>∃a,x=.ref a/\(∃xs,SqT K H1 a xs)/\R (Itt K a) H1
theorem cG{l:Expr}{tl:TE}(J:PE X l tl):PI X tg l (Kq X.K tl):=by
 intro pins s σ H R I h
 refine thn (J pins s σ H _ I h) λv s1 ⟨x,H1,I1,r1,q1⟩=> ?_
 obtain⟨a,e,⟨xs,hq⟩,q⟩:=q1
 subst e
 cases r1
 obtain⟨Y,rv,p,hz⟩:=I1.list hq
 refine wpAny_pyIter_list p.isList ?_
 refine⟨s1.heap.objs.size,[s1.heap.objs.size],_,_,H1,rfl,I1.kept (t':=s1.toks) λb o e=>Heap.get?_push_of_some _ e,Gy a _,⟨_,Heap.get?_push_size _ rfl,rfl,rfl⟩,λb hb=> ?_,q⟩
 have e:b=s1.heap.objs.size:=by simpa using hb
 subst e
 exact I1.fpOk (Si _) (I1.hok.fresh (Si _))
theorem NJ{l:Expr}{tl:TE}(Y:PE X l tl):PI X tg l (Nh X.K tl):=by
 intro pins s σ H R I h
 refine thn (Y pins s σ H _ I h) λv s1 ⟨x,H1,I1,r1,q1⟩=> ?_
 obtain⟨a,e,⟨xs,hq⟩,q⟩:=q1
 subst e
 cases r1
 obtain⟨J,rv,p,hz⟩:=I1.tuple hq
 refine wpAny_pyIter_tuple (show s1.heap.IsTuple a J.toArray from p) ?_
 refine⟨s1.heap.objs.size,[s1.heap.objs.size],_,_,H1,rfl,I1.kept (t':=s1.toks) λb o e=>Heap.get?_push_of_some _ e,Fu a _,⟨_,Heap.get?_push_size _ rfl,rfl,rfl⟩,λb hb=> ?_,q⟩
 have e:b=s1.heap.objs.size:=by simpa using hb
 subst e
 exact I1.fpOk (Si _) (I1.hok.fresh (Si _))
theorem JD {pins:List (Addr×Obj)} {σ:St} {H:Hp} {s:Shared} {R:It->Hp->Prop} {E:Value->Shared->Prop} {lo hi:Int} {t u v:Tok} {tk:Nat} (I:Inv X pins σ H s) (h1: -(2^62)<=lo) (h2:lo<2^62) (Y: -(2^62)<=hi) (h4:hi<2^62)
 (q:R (Itr lo (hi-lo).toNat) H):wpAny (model X.prog X.w) X.A (pyIter (.ref s.heap.objs.size)) (PIE X pins σ tg R) E {s with heap:=s.heap.push {cls:=.type "range",data:=.fields #[.int lo t,.int hi u,.int 1 v]},toks:=tk}:=by
 refine wpAny_pyIter_range (IsRange.new ..) (small_one h1 h2 Y h4) ?_
 have J:Inv X pins σ H {s with heap:=s.heap.push {cls:=.type "range",data:=.fields #[.int lo t,.int hi u,.int 1 v]},toks:=tk}:=I.kept λb o e=>Heap.get?_push_of_some _ e
 refine⟨(s.heap.push {cls:=.type "range",data:=.fields #[.int lo t,.int hi u,.int 1 v]}).objs.size,[(s.heap.push {cls:=.type "range",data:=.fields #[.int lo t,.int hi u,.int 1 v]}).objs.size],_,_,H,rfl,
  J.kept (t':=tk) λb o e=>Heap.get?_push_of_some _ e,E9 _ lo (hi-lo).toNat, ?_,λb hb=> ?_,q⟩
 ·have e1:lo+((0:Nat):Int)*1=lo:=by simp
  have e2:(((hi-lo).toNat:Nat):Int)-((0:Nat):Int)=Builtin.Range.rangeSize lo hi 1:=by rw[rangeSize_one];split <;> omega
  show IsRangeIter _ _ (lo+((0:Nat):Int)*1) ((((hi-lo).toNat:Nat):Int)-((0:Nat):Int)) 1
  rw[e1,e2]
  exact Heap.get?_push_size _ rfl
 ·have e:b=(s.heap.push {cls:=.type "range",data:=.fields #[.int lo t,.int hi u,.int 1 v]}).objs.size:=by simpa using hb
  subst e
  exact J.fpOk (Si _) (J.hok.fresh (Si _))
def Ko(ta:TA):TI:=λσ H R=>ta σ H λvs H1=>∃j:Int,vs=[.int j]/\ -(2^62)<=j/\j<2^62/\R (Itr 0 j.toNat) H1
theorem dy{a:Expr}{ta:TA}{p pos:Pos}(J:Gl X "range")(hm:X.mg "range" =none)(ha:PA X [a] ta)(Y:starEach [a] X.env=[(false,eval a X.env)]:=by rfl):PI X tg (.Call (.Name "range" p) [a] [] pos) (Ko ta):=by
 intro pins s σ H R I h
 refine Call_ (rC I J hm boot_range (T6 (thn (ha pos pins s σ H _ I h) λus s1 ⟨vs,H1,I1,r1,q1⟩=> ?_) Y rfl))
 obtain⟨j,e,q1,q2,q⟩:=q1
 subst e
 cases r1 with
 | cons r rr=>
  cases rr
  obtain⟨t,rfl⟩:=r
  exact call_range_1 (JD I1 (by omega) (by omega) q1 q2 (by simpa using q))
def NO(wi:TI)(g:TG)(tb:TS):TS:=λD σ H=>wi σ H λJ H1=>∃W:Nat->Nat->St->Hp->Prop,(∃m,W 0 m σ H1)/\∀i m σ H,W i m σ H->
 (J.stop i H/\D.nx σ H)\/(J.go i H/\∃N:St->Hp->Prop,(∀Y H',N Y H'->∃m',m'<m/\W (i+1) m' Y H')/\∀x H',J.yld i H x H'->g x σ H' λσ2 H2=>tb {D with nx:=N,ct:=N,bk:=D.nx} σ2 H2)
def tF(fp:List Addr)(h:Heap):List (Addr×Obj):=fp.filterMap λb=>(h.get? b).map λo=>(b,o)
theorem pj{fp:List Addr}{h:Heap}{b:Addr}{o:Obj}(hb:b∈fp)(e:h.get? b=some o):(b,o)∈tF fp h:=VP.mpr ⟨b,hb,by rw[e];rfl⟩
theorem GU{fp:List Addr}{h:Heap}{p:Addr×Obj}(hp:p∈tF fp h):p.1∈fp/\h.get? p.1=some p.2:=by
 obtain⟨b,hb,e⟩:=VP.mp hp
 cases q:h.get? b with
 | none=>rw[q] at e;cases e
 | some o=>
  rw[q] at e
  have J:(b,o)=p:=Tt e
  subst J
  exact⟨hb,q⟩
theorem Inv.pinned{pins:List (Addr×Obj)}{σ:St}{H:Hp}{s:Shared}{fp:List Addr}(I:Inv X pins σ H s)(Y:∀b∈fp,om X pins H b)(ho:∀b∈fp,∃o,s.heap.get? b=some o/\∀v,o.data≠ .cell v):Inv X (pins++tF fp s.heap) σ H s:=
 I.pins_of λp hp=>(Sy.mp hp).elim (λz=>I.pin p (S0 _ z)) λz=>by
  obtain⟨hb,e⟩:=GU z
  obtain⟨f0,f1,f2,_⟩:=Y p.1 hb
  obtain⟨o,J,d⟩:=ho p.1 hb
  rw[e] at J;cases J
  exact⟨e,f0,f1,f2,d⟩
theorem Inv.unpinned{pins pl:List (Addr×Obj)}{σ:St}{H:Hp}{s:Shared}(I:Inv X (pins++pl) σ H s):Inv X pins σ H s:=I.pins_of λp hp=>I.pin p (S0 _ (Ut _ hp))
theorem dI {Y:Expr} {body:List Stmt} {wi:TI} {g:TG} {tb:TS} {pos:Pos} (hp:PassesOwn (model X.prog X.w) X.A X.env X.xe) (hc:X.calm=true) (hi:PI X tg Y wi) (hg:PG X tg g) (hb:PSs X body tb)
 (hs:∀x,foldedSetIterable Y X.env x=pure x:=by intro _;rfl):PS X (.For tg Y body [] pos) (NO wi g tb):=by
 intro pins s σ H D I h
 refine wpAny_For (thn (hi pins s σ H _ I h) λv s1 h1=>thn h1 λbn s2 h2=> ?_) hs
 obtain⟨it,fp,tn,J,H2,e,I2,T,a5,f2,W,⟨m0,w0⟩,as⟩:=h2
 subst e
 have ab:∀{H':Hp},(∀b∈fp,H' b=none)->∀b∈fp,om X pins H' b:=λhn b hb=>⟨hn b hb,(f2 b hb).2⟩
 refine codeAny_forLoop_any (λn s'=>∃i σ' H',Inv X pins σ' H' s'/\tn i s'.heap/\(∀b∈fp,H' b=none)/\W i n σ' H') ?_ m0 ⟨0,σ,H2,I2,a5,λb hb=>(f2 b hb).1,w0⟩
 rintro n s3 ⟨i,σ3,H3,I3,a1,a2,w3⟩
 rcases as i n σ3 H3 w3 with⟨a3,qn⟩ | ⟨go,N,hN,step⟩
 ·refine wpAny_passesOwn hp (thn (T.done X rfl rfl rfl hc i pins s3 σ3 H3 X.xe I3 (ab a2) a1 a3) λr s4 ⟨hr,I4⟩=> ?_)
  subst hr
  exact wpAny_execs_nil ⟨σ3,H3,I4,qn⟩
 ·refine wpAny_passesOwn hp (thn (T.item X rfl rfl rfl hc i pins s3 σ3 H3 X.xe I3 (ab a2) a1 go) λr s4 ⟨u,hr,h4⟩=> ?_)
  subst hr
  refine wpAny_passesOwn hp (thn h4 λ_ s5 ⟨x,H5,I5,r5,y5,st5,fr5⟩=> ?_)
  have a6:=I5.pinned (ab fr5) (T.obj _ _ st5)
  refine wpAny_passesOwn hp (thn (hg _ s5 σ3 H5 x u _ a6 r5 (step x H5 y5)) λ_ s6 ⟨σ6,H6,I6,q6⟩=> ?_)
  refine wpAny_passesOwn hp (thn (hb _ s6 σ6 H6 _ I6 q6) λf s7 q7=> ?_)
  have again:∀{σ7:St} {H7:Hp},Inv X (pins++tF fp s5.heap) σ7 H7 s7->N σ7 H7->∃m,m<n/\∃i σ' H',Inv X pins σ' H' s7/\tn i s7.heap/\(∀b∈fp,H' b=none)/\W i m σ' H':=λ{σ7 H7} I7 n7=>by
   obtain⟨m',hm,w7⟩:=hN σ7 H7 n7
   refine⟨m',hm,i+1,σ7,H7,I7.unpinned,T.keep _ _ _ st5 λb hb o e=>(I7.pin (b,o) (S0 _ (S0 _ (pj hb e)))).1,λb hb=> ?_,w7⟩
   obtain⟨o,e,d⟩:=T.obj _ _ st5 b hb
   exact(I7.pin (b,o) (S0 _ (S0 _ (pj hb e)))).2.1
  cases f with
  | next=>obtain⟨σ7,H7,I7,n7⟩:=q7;exact again I7 n7
  | cont=>obtain⟨σ7,H7,I7,n7⟩:=q7;exact again I7 n7
  | brk=>obtain⟨σ7,H7,I7,q7⟩:=q7;exact⟨σ7,H7,I7.unpinned,q7⟩
  | ret v=>obtain⟨x7,σ7,H7,I7,r7,q7⟩:=q7;exact⟨x7,σ7,H7,I7.unpinned,r7,q7⟩
end
abbrev R2:=V->V->Hp->VK->Prop
def OpR(X:Cx)(f:Value->Value->Sem Value)(r:R2):Prop:=
 ∀(pins:List (Addr×Obj)) (s:Shared) (σ:St) (H:Hp) (x y:V) (v u:Value) (Q:VK),Inv X pins σ H s->RelV x v->RelV y u->r x y H Q->
  wpAny (model X.prog X.w) X.A (f v u) (EP X pins σ Q) X.xe s
def UnR(X:Cx)(f:Value->Sem Value)(r:V->Hp->VK->Prop):Prop:=
 ∀(pins:List (Addr×Obj)) (s:Shared) (σ:St) (H:Hp) (x:V) (v:Value) (Q:VK),Inv X pins σ H s->RelV x v->r x H Q->
  wpAny (model X.prog X.w) X.A (f v) (EP X pins σ Q) X.xe s
def my(X:Cx)(f:Value)(r:List V->Hp->VK->Prop):Prop:=
 ∀(pins:List (Addr×Obj)) (s:Shared) (σ:St) (H:Hp) (xs:List V) (us:List Value) (Q:VK),Inv X pins σ H s->Vals xs us->r xs H Q->
  wpAny (model X.prog X.w) X.A (call f us) (EP X pins σ Q) X.xe s
def Pz(X:Cx)(r:V->Hp->(Bool->Hp->Prop)->Prop):Prop:=
 ∀(pins:List (Addr×Obj)) (s:Shared) (σ:St) (H:Hp) (x:V) (v:Value) (Q:Bool->Hp->Prop),Inv X pins σ H s->RelV x v->r x H Q->
  wpAny (model X.prog X.w) X.A (truthy v) (TP X pins σ Q) X.xe s
def tOp(r:R2)(ta tb:TE):TE:=λσ H Q=>ta σ H λx H1=>tb σ H1 λy H2=>r x y H2 Q
def tUn(r:V->Hp->VK->Prop)(ta:TE):TE:=λσ H Q=>ta σ H λx H1=>r x H1 Q
def rI(C:Int->Int->Prop)(g:Int->Int->V):R2:=λx y H Q=>∃i j,x=.int i/\y=.int j/\C i j/\Q (g i j) H
def rI0(g:Int->Int->V):R2:=λx y H Q=>∃i j,x=.int i/\y=.int j/\Q (g i j) H
def rU(g:Int->V):V->Hp->VK->Prop:=λx H Q=>∃i,x=.int i/\Q (g i) H
section
variable {X : Cx} {a b c : Expr} {ta tb tc : TE} {pos : Pos}
theorem IS (ha:PE X a ta) (hb:PE X b tb) {pins:List (Addr×Obj)} {s:Shared} {σ:St} {H:Hp} {R:V->V->Hp->Prop} (I:Inv X pins σ H s)
 (h:ta σ H λx H1=>tb σ H1 λy H2=>R x y H2) {Q:Value->Shared->Prop} {f:Value->Value->Sem Value}
 (J:∀v u s2 x y H2,Inv X pins σ H2 s2->RelV x v->RelV y u->R x y H2->wpAny (model X.prog X.w) X.A (f v u) Q X.xe s2):
 wpAny (model X.prog X.w) X.A (eval a X.env) (λv Y=>wpAny (model X.prog X.w) X.A (eval b X.env) (λu s₂=>wpAny (model X.prog X.w) X.A (f v u) Q X.xe s₂) X.xe Y) X.xe s:=by
 refine thn (ha pins s σ H _ I h) λv s1 ⟨x,H1,I1,r1,q1⟩=> ?_
 refine thn (hb pins s1 σ H1 _ I1 q1) λu s2 ⟨y,H2,I2,r2,q2⟩=> ?_
 exact J v u s2 x y H2 I2 r1 r2 q2
theorem aU{J:Operator}{r:R2}(Y:OpR X (binaryOp J) r)(ha:PE X a ta)(hb:PE X b tb):PE X (.BinOp a J b pos) (tOp r ta tb):=by
 intro pins s σ H Q I h
 exact wpAny_BinOp (IS ha hb I h λv u s2 x y H2 I2 rx ry q=>Y pins s2 σ H2 x y v u Q I2 rx ry q)
theorem u7{J:UnaryOp}{r:V->Hp->VK->Prop}(Y:UnR X (unaryOp J) r)(ha:PE X a ta):PE X (.UnaryOp J a pos) (tUn r ta):=by
 intro pins s σ H Q I h
 exact UnaryOp_ (thn (ha pins s σ H _ I h) λv s1 ⟨x,H1,I1,r1,q1⟩=>Y pins s1 σ H1 x v Q I1 r1 q1)
theorem opI {f:Value->Value->Sem Value} {C:Int->Int->Prop} {g:Int->Int->Int}
 (rule:∀(i j:Int) (t u:Tok) (s:Shared) (Q:Value->Shared->Prop) (E:Value->Shared->Prop),C i j->Q (.int (g i j) s.toks) {s with toks:=s.toks+1}->wpAny (model X.prog X.w) X.A (f (.int i t) (.int j u)) Q E s):
 OpR X f (rI C λi j=>.int (g i j)):=by
 intro pins s σ H x y v u Q I J Y h
 obtain⟨i,j,rfl,rfl,hc,q⟩:=h
 obtain⟨t,rfl⟩:=J
 obtain⟨t',rfl⟩:=Y
 exact rule i j t t' s _ _ hc ⟨.int (g i j),H,I.tok _,⟨_,rfl⟩,q⟩
theorem Fz {f:Value->Value->Sem Value} {g:Int->Int->Int}
 (rule:∀(i j:Int) (t u:Tok) (s:Shared) (Q:Value->Shared->Prop) (E:Value->Shared->Prop),Q (.int (g i j) s.toks) {s with toks:=s.toks+1}->wpAny (model X.prog X.w) X.A (f (.int i t) (.int j u)) Q E s):
 OpR X f (rI0 λi j=>.int (g i j)):=by
 intro pins s σ H x y v u Q I J Y h
 obtain⟨i,j,rfl,rfl,q⟩:=h
 obtain⟨t,rfl⟩:=J
 obtain⟨t',rfl⟩:=Y
 exact rule i j t t' s _ _ ⟨.int (g i j),H,I.tok _,⟨_,rfl⟩,q⟩
theorem M0 {f:Value->Value->Sem Value} {g:Int->Int->Bool}
 (rule:∀(i j:Int) (t u:Tok) (s:Shared) (Q:Value->Shared->Prop) (E:Value->Shared->Prop),Q (.bool (g i j)) s->wpAny (model X.prog X.w) X.A (f (.int i t) (.int j u)) Q E s):
 OpR X f (rI0 λi j=>.bl (g i j)):=by
 intro pins s σ H x y v u Q I J Y h
 obtain⟨i,j,rfl,rfl,q⟩:=h
 obtain⟨t,rfl⟩:=J
 obtain⟨t',rfl⟩:=Y
 exact rule i j t t' s _ _ ⟨.bl (g i j),H,I,rfl,q⟩
def ye(i j:Int):Prop:=0<=j/\j<=1000000/\i.natAbs<2^64
theorem Nd:OpR X (binaryOp .Add) (rI0 λi j=>.int (i+j)):=Fz λ_ _ _ _ _ _ _ q=>add_int q
theorem oP:OpR X (binaryOp .Sub) (rI0 λi j=>.int (i-j)):=Fz λ_ _ _ _ _ _ _ q=>sub_int q
theorem g6:OpR X (binaryOp .Mod) (rI (λ_ j=>j≠0) λi j=>.int (i.fmod j)):=opI λ_ _ _ _ _ _ _ hc q=>mod_int' hc q
theorem AA:OpR X (binaryOp .Pow) (rI ye λi j=>.int (i^j.toNat)):=opI λ_ _ _ _ _ _ _ hc q=>pow_int_small hc.1 hc.2.1 hc.2.2 q
theorem Oh:OpR X (binaryOp .LShift) (rI ye λi j=>.int (i*2^j.toNat)):=opI λ_ _ _ _ _ _ _ hc q=>lshift_int_small hc.1 hc.2.1 hc.2.2 q
theorem NG:OpR X (binaryOp .BitAnd) (rI0 λi j=>.int (Builtin.bitAnd i j)):=Fz λ_ _ _ _ _ _ _ q=>and_int q
theorem Fw:OpR X (binaryOp .BitOr) (rI0 λi j=>.int (Builtin.bitOr i j)):=Fz λ_ _ _ _ _ _ _ q=>or_int q
theorem unI {f:Value->Sem Value} {g:Int->Int}
 (rule:∀(i:Int) (t:Tok) (s:Shared) (Q:Value->Shared->Prop) (E:Value->Shared->Prop),Q (.int (g i) s.toks) {s with toks:=s.toks+1}->wpAny (model X.prog X.w) X.A (f (.int i t)) Q E s):
 UnR X f (rU λi=>.int (g i)):=by
 intro pins s σ H x v Q I J h
 obtain⟨i,rfl,q⟩:=h
 obtain⟨t,rfl⟩:=J
 exact rule i t s _ _ ⟨.int (g i),H,I.tok _,⟨_,rfl⟩,q⟩
theorem qY:UnR X (unaryOp .USub) (rU λi=>.int (-i)):=unI λ_ _ _ _ _ q=>neg_int q
end
def Nl:V->V->Bool
 | .non,.non=>true | .non,.int _=>true | .int _,.non=>true | .non,.bl _=>true | .bl _,.non=>true | .non,.str _=>true | .str _,.non=>true
 | .int _,.int _=>true | .bl _,.bl _=>true | .str _,.str _=>true | .byt _,.byt _=>true
 | .int _,.str _=>true | .str _,.int _=>true | .bl _,.str _=>true | .str _,.bl _=>true
 | _,_=>false
def rEq:R2:=λx y H Q=>Nl x y=true/\Q (.bl (decide (x=y))) H
def rNe:R2:=λx y H Q=>Nl x y=true/\Q (.bl (!decide (x=y))) H
theorem ve{i j:Int}:decide (V.int i=V.int j)=(i == j):=by
 rw[TK]
 simp
theorem xK{i j:Bool}:decide (V.bl i=V.bl j)=(i == j):=by
 rw[TK]
 simp
theorem u3{i j:Str}:decide (V.str i=V.str j)=(i == j):=by
 rw[TK]
 simp
theorem En{i j:Array UInt8}:decide (V.byt i=V.byt j)=(i.toList == j.toList):=by
 rw[TK]
 cases i
 cases j
 simp
section
variable {X : Cx} {a b c : Expr} {ta tb tc : TE} {pos : Pos}
theorem dc{pins:List (Addr×Obj)}{σ:St}{H:Hp}{s:Shared}{Q:VK}{k J:Bool}(I:Inv X pins σ H s)(q:Q (.bl k) H)(e:k=J):EP X pins σ Q (.bool J) s:=by
 subst e
 exact⟨.bl k,H,I,rfl,q⟩
theorem OV:OpR X (compareOp .Eq) rEq:=by
 intro pins s σ H x y v u Q I rx J h
 obtain⟨hs,q⟩:=h
 cases x with
 | non=>
  cases rx
  cases y with
  | non=>cases J;exact PySem.EqNone.eq_none_none (dc I q (by simp))
  | bl j=>cases J;exact PySem.EqNone.eq_none_bool (dc I q (by simp))
  | int j=>obtain⟨Y,rfl⟩:=J;exact PySem.EqNone.eq_none_int (dc I q (by simp))
  | str j=>obtain⟨Y,rfl⟩:=J;exact PySem.EqNone.eq_none_str (dc I q (by simp))
  | _=>exact absurd (show false=true from hs) SD
 | bl i=>
  cases rx
  cases y with
  | non=>cases J;exact PySem.EqNone.eq_bool_none (dc I q (by simp))
  | bl j=>cases J;exact eq_bool (dc I q xK)
  | str j=>obtain⟨Y,rfl⟩:=J;exact Wx (dc I q (by simp))
  | _=>exact absurd (show false=true from hs) SD
 | int i=>
  obtain⟨t,rfl⟩:=rx
  cases y with
  | non=>cases J;exact PySem.EqNone.eq_int_none (dc I q (by simp))
  | int j=>obtain⟨Y,rfl⟩:=J;exact eq_int (dc I q ve)
  | str j=>obtain⟨Y,rfl⟩:=J;exact WC (dc I q (by simp))
  | _=>exact absurd (show false=true from hs) SD
 | str i=>
  obtain⟨t,rfl⟩:=rx
  cases y with
  | non=>cases J;exact PySem.EqNone.eq_str_none (dc I q (by simp))
  | bl j=>cases J;exact Wy (dc I q (by simp))
  | int j=>obtain⟨Y,rfl⟩:=J;exact WD (dc I q (by simp))
  | str j=>obtain⟨Y,rfl⟩:=J;exact eq_str (dc I q u3)
  | _=>exact absurd (show false=true from hs) SD
 | byt i=>
  obtain⟨t,rfl⟩:=rx
  cases y with
  | byt j=>obtain⟨Y,rfl⟩:=J;exact PySem.W.eq_bytes (dc I q En)
  | _=>exact absurd (show false=true from hs) SD
 | _=>cases y <;> exact absurd (show false=true from hs) SD
theorem OL:OpR X (compareOp .NotEq) rNe:=by
 intro pins s σ H x y v u Q I rx J h
 obtain⟨hs,q⟩:=h
 cases x with
 | non=>
  cases rx
  cases y with
  | non=>cases J;exact PySem.EqNone.ne_none_none (dc I q (by simp))
  | bl j=>cases J;exact PySem.EqNone.ne_none_bool (dc I q (by simp))
  | int j=>obtain⟨Y,rfl⟩:=J;exact PySem.EqNone.ne_none_int (dc I q (by simp))
  | str j=>obtain⟨Y,rfl⟩:=J;exact PySem.EqNone.ne_none_str (dc I q (by simp))
  | _=>exact absurd (show false=true from hs) SD
 | bl i=>
  cases rx
  cases y with
  | non=>cases J;exact PySem.EqNone.ne_bool_none (dc I q (by simp))
  | bl j=>cases J;exact ne_bool (dc I q (congrArg not xK))
  | str j=>obtain⟨Y,rfl⟩:=J;exact Wz (dc I q (by simp))
  | _=>exact absurd (show false=true from hs) SD
 | int i=>
  obtain⟨t,rfl⟩:=rx
  cases y with
  | non=>cases J;exact PySem.EqNone.ne_int_none (dc I q (by simp))
  | int j=>obtain⟨Y,rfl⟩:=J;exact ne_int (dc I q (congrArg not ve))
  | str j=>obtain⟨Y,rfl⟩:=J;exact WE (dc I q (by simp))
  | _=>exact absurd (show false=true from hs) SD
 | str i=>
  obtain⟨t,rfl⟩:=rx
  cases y with
  | non=>cases J;exact PySem.EqNone.ne_str_none (dc I q (by simp))
  | bl j=>cases J;exact WA (dc I q (by simp))
  | int j=>obtain⟨Y,rfl⟩:=J;exact WF (dc I q (by simp))
  | str j=>obtain⟨Y,rfl⟩:=J;exact ne_str (dc I q (congrArg not u3))
  | _=>exact absurd (show false=true from hs) SD
 | byt i=>
  obtain⟨t,rfl⟩:=rx
  cases y with
  | byt j=>obtain⟨Y,rfl⟩:=J;exact PySem.W.ne_bytes (dc I q (congrArg not En))
  | _=>exact absurd (show false=true from hs) SD
 | _=>cases y <;> exact absurd (show false=true from hs) SD
theorem kT:OpR X (compareOp .Lt) (rI0 λi j=>.bl (decide (i<j))):=M0 λ_ _ _ _ _ _ _ q=>lt_int q
theorem kS:OpR X (compareOp .Gt) (rI0 λi j=>.bl (decide (j<i))):=M0 λ_ _ _ _ _ _ _ q=>gt_int q
theorem OpR.or{f:Value->Value->Sem Value}{r J:R2}(h:OpR X f r)(h':OpR X f J):OpR X f (λx y H Q=>r x y H Q\/J x y H Q):=by
 intro pins s σ H x y v u Q I Y ry q
 rcases q with q | q
 ·exact h pins s σ H x y v u Q I Y ry q
 ·exact h' pins s σ H x y v u Q I Y ry q
theorem bG(b:Expr){J:CmpOp}(h:J≠ .In:=by decide)(h2:J≠ .NotIn:=by decide):behindInMarks J b=false:=by
 have e1:(J == CmpOp.In)=false:=by cases J <;> first | rfl | exact absurd rfl h
 have e2:(J == CmpOp.NotIn)=false:=by cases J <;> first | rfl | exact absurd rfl h2
 cases b <;> simp[behindInMarks,e1,e2]
theorem m4{J:CmpOp}{r:R2}(Y:OpR X (compareOp J) r)(ha:PE X a ta)(hb:PE X b tb)(hm:behindInMarks J b=false):PE X (.Compare a [J] [b] pos) (tOp r ta tb):=by
 intro pins s σ H Q I h
 exact wpAny_Compare1 (IS ha hb I h λv u s2 x y H2 I2 rx ry q=>Y pins s2 σ H2 x y v u Q I2 rx ry q) hm
def FA(t:TE):TT:=λσ H Q=>t σ H λx H'=>∃k,x=.bl k/\Q k H'
theorem bx{J:CmpOp}{r:R2}(Y:OpR X (compareOp J) r)(ha:PE X a ta)(hb:PE X b tb)(hm:behindInMarks J b=false):PT X (.Compare a [J] [b] pos) (FA (tOp r ta tb)):=by
 intro pins s σ H Q I h
 refine wpAny_isTrue_Compare1 (thn (ha pins s σ H _ I h) λv s1 ⟨x,H1,I1,r1,q1⟩=>thn (hb pins s1 σ H1 _ I1 q1) λu s2 ⟨y,H2,I2,r2,q2⟩=>
  thn (Y pins s2 σ H2 x y v u _ I2 r1 r2 q2) λc s3 ⟨z,H3,I3,r3,k,e,q3⟩=> ?_) hm
 subst e
 cases r3
 exact wpAny_truthy_bool ⟨H3,I3,q3⟩
def Cz(r Y:R2)(ta tb tc:TE):TE:=λσ H Q=>ta σ H λx H1=>tb σ H1 λy H2=>r x y H2 λz J=>∃k,z=.bl k/\
 (if k=true then tc σ J λw' H4=>Y y w' H4 Q else Q (.bl false) J)
theorem JK {Y J:CmpOp} {r r':R2} (ho:OpR X (compareOp Y) r) (ab:OpR X (compareOp J) r') (ha:PE X a ta) (hb:PE X b tb) (hc:PE X c tc)
 (hm:lastMarks [Y,J] [b,c]=false:=by with_unfolding_all rfl):PE X (.Compare a [Y,J] [b,c] pos) (Cz r r' ta tb tc):=by
 intro pins s σ H Q I h
 refine Compare_chain (thn (ha pins s σ H _ I h) λv s1 ⟨x,H1,I1,r1,q1⟩=>chain_link (thn (hb pins s1 σ H1 _ I1 q1) λu s2 ⟨y,H2,I2,r2,q2⟩=>
  thn (ho pins s2 σ H2 x y v u _ I2 r1 r2 q2) λd s3 ⟨z,H3,I3,r3,k,e,q3⟩=> ?_)) hm
 subst e
 cases r3
 refine wpAny_truthy_bool ?_
 cases k with
 | false=>exact ite_ff ⟨.bl false,H3,I3,rfl,q3⟩
 | true=>exact ite_tt (chain_last (thn (hc pins s3 σ H3 _ I3 q3) λw' s4 ⟨z',H4,I4,r4,q4⟩=>ab pins s4 σ H4 y z' u w' Q I4 r2 r4 q4))
theorem HW {Y J:CmpOp} {r r':R2} (ho:OpR X (compareOp Y) r) (ab:OpR X (compareOp J) r') (ha:PE X a ta) (hb:PE X b tb) (hc:PE X c tc)
 (hm:lastMarks [Y,J] [b,c]=false:=by with_unfolding_all rfl):PT X (.Compare a [Y,J] [b,c] pos) (FA (Cz r r' ta tb tc)):=by
 intro pins s σ H Q I h
 refine isTrue_chain (thn (ha pins s σ H _ I h) λv s1 ⟨x,H1,I1,r1,q1⟩=>test_link (thn (hb pins s1 σ H1 _ I1 q1) λu s2 ⟨y,H2,I2,r2,q2⟩=>
  thn (ho pins s2 σ H2 x y v u _ I2 r1 r2 q2) λd s3 ⟨z,H3,I3,r3,k,e,q3⟩=> ?_)) hm
 subst e
 cases r3
 refine wpAny_truthy_bool ?_
 cases k with
 | false=>
  obtain⟨k',e',q'⟩:=q3
  cases e'
  exact ite_ff ⟨H3,I3,q'⟩
 | true=>
  refine ite_tt (test_last (thn (hc pins s3 σ H3 _ I3 q3) λw' s4 ⟨z',H4,I4,r4,q4⟩=>thn (ab pins s4 σ H4 y z' u w' _ I4 r2 r4 q4) λd' s5 ⟨z2,H5,I5,r5,k2,e2,q5⟩=> ?_))
  subst e2
  cases r5
  exact wpAny_truthy_bool ⟨H5,I5,q5⟩
def Px(K:R4)(x:V)(H:Hp)(k:Bool):Prop:=
 match x with
 | .non=>k=false
 | .bl b=>k=b
 | .int i=>k=(i != 0)
 | .str y=>y.length<=sizeLine/\k=((y.length:Int) != 0)
 | .byt y=>y.size<=sizeLine/\k=((y.size:Int) != 0)
 | .ref p=>(∃xs,SqL K H p xs/\k= !xs.isEmpty)\/(∃xs,SqT K H p xs/\k= !xs.isEmpty)\/∃J,H p=some (.dK J)/\k= !J.isEmpty
 | _=>False
theorem FI{κ:Type}{J:List (κ×V)}{vs:List (κ×Value)}(r:KV J vs):(!vs.isEmpty)= !J.isEmpty:=by
 cases r <;> rfl
theorem wV{xs:List V}{J:List Value}(r:Vals xs J):(!J.toArray.isEmpty)= !xs.isEmpty:=by
 cases r <;> simp
theorem rg:(sizeLine:Nat)<2^63:=by rw[sizeLine_eq];decide
theorem QE:Pz X (λx H Q=>∃k,Px X.K x H k/\Q k H):=by
 intro pins s σ H x v Q I rx h
 obtain⟨k,e,q⟩:=h
 have hl:=rg
 have hs:sizeLine=16777216:=sizeLine_eq
 cases x with
 | non=>
  cases rx
  have J:k=false:=e
  subst J
  exact truthy_none ⟨H,I,q⟩
 | bl b=>
  cases rx
  have J:k=b:=e
  subst J
  exact wpAny_truthy_bool ⟨H,I,q⟩
 | int i=>
  obtain⟨t,rfl⟩:=rx
  have J:k=(i != 0):=e
  subst J
  exact PySem.P.truthy_int ⟨H,I,q⟩
 | str y=>
  obtain⟨t,rfl⟩:=rx
  obtain⟨hy,J⟩:y.length<=sizeLine/\k=((y.length:Int) != 0):=e
  subst J
  exact PySem.P.truthy_str (by omega) ⟨H,I.tok _,q⟩
 | byt y=>
  obtain⟨t,rfl⟩:=rx
  obtain⟨hy,J⟩:y.size<=sizeLine/\k=((y.size:Int) != 0):=e
  subst J
  exact PySem.W.truthy_bytes (by omega) ⟨H,I.tok _,q⟩
 | ref p=>
  cases rx
  have J:(∃xs,SqL X.K H p xs/\k= !xs.isEmpty)\/(∃xs,SqT X.K H p xs/\k= !xs.isEmpty)\/∃Y,H p=some (.dK Y)/\k= !Y.isEmpty:=e
  rcases J with⟨xs,hx,J⟩ | ⟨xs,hx,J⟩ | ⟨Y,hx,J⟩
  ·subst J
   obtain⟨am,r,pl,hz⟩:=I.list hx
   have ab:=r.length
   exact wpAny_truthy_list pl.isList (by simp only[Sq];omega) ⟨H,I.tok _,by rw[wV r];exact q⟩
  ·subst J
   obtain⟨am,r,pl,hz⟩:=I.tuple hx
   have ab:=r.length
   exact truthy_tuple pl (by simp only[Sq];omega) ⟨H,I.tok _,by rw[wV r];exact q⟩
  ·subst J
   obtain⟨hz,hS,vs,r,m⟩:Y.length<=sizeLine/\(p == sysModules)=false/\∃vs,KV Y vs/\s.heap.DictOf (xU X.prog X.w) p vs:=I.hok p _ hx
   have ab:Y.length=vs.length:=Paired.length r
   exact wpAny_truthy_dict hS m (by omega) ⟨H,I.tok _,by rw[FI r];exact q⟩
 | _=>exact(show False from e).elim
theorem Fh:OpR X (binaryOp .Add) (λx y H Q=>∃i j,x=.str i/\y=.str j/\i.length+j.length<=sizeLine/\Q (.str (i++j)) H):=by
 intro pins s σ H x y v u Q I J Y h
 obtain⟨i,j,rfl,rfl,hz,q⟩:=h
 obtain⟨t,rfl⟩:=J
 obtain⟨t',rfl⟩:=Y
 exact add_str (λt' tk=>⟨.str (i++j),H,I.tok _,⟨_,rfl⟩,q⟩) hz
theorem vals1{x:V}{us:List Value}(r:Vals [x] us):∃u,us=[u]/\RelV x u:=by
 cases r with
 | cons J Y=>cases Y;exact⟨_,rfl,J⟩
theorem vals2{x y:V}{us:List Value}(r:Vals [x,y] us):∃u J,us=[u,J]/\RelV x u/\RelV y J:=by
 cases r with
 | cons Y r2=>
  cases r2 with
  | cons r3 r4=>cases r4;exact⟨_,_,rfl,Y,r3⟩
theorem we:my X (.builtin "abs") (λxs H Q=>∃i,xs=[.int i]/\Q (.int (if i<0 then -i else i)) H):=by
 intro pins s σ H xs us Q I r h
 obtain⟨i,rfl,q⟩:=h
 obtain⟨u,rfl,t,rfl⟩:=vals1 r
 exact call_abs_int λu tk=>⟨.int (if i<0 then -i else i),H,I.tok _,⟨_,rfl⟩,q⟩
theorem qA(hc:X.calm=true):my X (.builtin "max") (λxs H Q=>∃i j,xs=[.int i,.int j]/\Q (.int (if j>i then j else i)) H):=by
 intro pins s σ H xs us Q I r h
 obtain⟨i,j,rfl,q⟩:=h
 obtain⟨u,Y,rfl,⟨t,rfl⟩,⟨t',rfl⟩⟩:=vals2 r
 refine max_two_ints (I.ok.hd hc) λh' tk k=>⟨_,H,I.kept k, ?_,q⟩
 by_cases J:j>i
 ·rw[if_pos J,if_pos J];exact⟨_,rfl⟩
 ·rw[if_neg J,if_neg J];exact⟨_,rfl⟩
theorem uF:my X (.type "int") (λxs H Q=>(∃i,xs=[.int i]/\Q (.int i) H)\/∃k,xs=[.bl k]/\Q (.int (if k then 1 else 0)) H):=by
 intro pins s σ H xs us Q I r h
 rcases h with⟨i,rfl,q⟩ | ⟨k,rfl,q⟩
 ·obtain⟨u,rfl,t,rfl⟩:=vals1 r
  exact call_int_int ⟨.int i,H,I,⟨_,rfl⟩,q⟩
 ·obtain⟨u,rfl,J⟩:=vals1 r
  cases J
  exact call_int_bool ⟨.int (if k then 1 else 0),H,I.tok _,⟨_,rfl⟩,q⟩
def NR(K:R4)(x:V)(H:Hp)(n:Nat):Prop:=
 match x with
 | .str y=>y.length<=sizeLine/\n=y.length
 | .byt y=>y.size<=sizeLine/\n=y.size
 | .ref p=>(∃xs,SqL K H p xs/\n=xs.length)\/∃xs,SqT K H p xs/\n=xs.length
 | _=>False
theorem cg:my X (.builtin "len") (λxs H Q=>∃x n,xs=[x]/\NR X.K x H n/\Q (.int n) H):=by
 intro pins s σ H xs us Q I r h
 obtain⟨x,n,rfl,e,q⟩:=h
 obtain⟨u,rfl,rx⟩:=vals1 r
 have hl:=rg
 have hs:sizeLine=16777216:=sizeLine_eq
 cases x with
 | str y=>
  obtain⟨t,rfl⟩:=rx
  obtain⟨hy,Y⟩:y.length<=sizeLine/\n=y.length:=e
  subst Y
  exact len_str (by omega) ⟨.int _,H,I.tok _,⟨_,rfl⟩,q⟩
 | byt y=>
  obtain⟨t,rfl⟩:=rx
  obtain⟨hy,Y⟩:y.size<=sizeLine/\n=y.size:=e
  subst Y
  exact PySem.W.len_bytes (by omega) ⟨.int _,H,I.tok _,⟨_,rfl⟩,q⟩
 | ref p=>
  cases rx
  have Y:(∃xs,SqL X.K H p xs/\n=xs.length)\/∃xs,SqT X.K H p xs/\n=xs.length:=e
  rcases Y with⟨xs,hx,Y⟩ | ⟨xs,hx,Y⟩
  ·subst Y
   obtain⟨ac,r',pl,hz⟩:=I.list hx
   have J:=r'.length
   exact Calls.call_len_list pl.isList (by simp only[Sq];omega) ⟨.int xs.length,H,I.tok _,⟨_,by simp only[Sq];rw[J]⟩,q⟩
  ·subst Y
   obtain⟨ac,r',pl,hz⟩:=I.tuple hx
   have J:=r'.length
   exact len_tuple pl (by simp only[Sq];omega) ⟨.int xs.length,H,I.tok _,⟨_,by simp only[Sq];rw[J]⟩,q⟩
 | _=>exact(show False from e).elim
end
structure wz(h:Heap)(x dx C:Addr)(mA:Str->Option Value):Prop where
 obj:h.get? x=some (TJ C dx)
 ns:h.Ns1 dx mA
 ne:dx≠x
theorem Gr{h:Heap}{dx:Addr}{mA:Str->Option Value}(n:h.Ns1 dx mA):∃Y,h.get? dx=some Y/\∀name,U1 name Y=some (mA name):=by
 obtain⟨o,es,ep,ho,hd,hk,_,hm⟩:=n
 refine⟨o,ho,λname=> ?_⟩
 have e:=hm name
 unfold nsFind findBy at e
 rw[<- Array.find?_toList] at e
 unfold U1
 rw[hd]
 dsimp only
 split
 ·rename_i y q
  rw[q] at e
  exact congrArg some e
 ·rename_i q
  rw[q] at e
  have a:es.toList.any (·.refKey)=false:=by
   rw[Vc]
   intro y hy
   obtain⟨z,t,J⟩:=hk y (Array.mem_toList_iff.mp hy)
   simp[DictEntry.refKey,J]
  have a':¬es.toList.any (·.refKey)=true:=by rw[a];exact SD
  rw[if_neg a']
  exact congrArg some e
theorem wz.look{h:Heap}{x dx C:Addr}{mA:Str->Option Value}(I:wz h x dx C mA):∃J,PySem.W.InstAt h x (TJ C dx) C (some J)/\∀name,U1 name J=some (mA name):=
 let ⟨J,ho,hl⟩:=Gr I.ns
 ⟨J,⟨I.obj,rfl,rfl,ho⟩,hl⟩
section
variable {prog : Program} {w : World} {A : Around} {E : Value → Shared → Prop} {s : Shared} {K : R4} {x dx C f : Addr} {mA : Str → Option Value} {name : Str} {v : Value}
theorem get_map {Y:Bool} {Q:Value->Shared->Prop} (X:K.In s.heap) (I:wz s.heap x dx C mA) (hg:Uu K C name=true) (hh:UG K C=true)
 (ha:SS K (.ref C) name=some none) (hv:mA name=some v) (ab:V6 v=true) (h:Q v {s with toks:=s.toks+1}):
 wpAny (model prog w) A (getAttr (.ref x) name Y) Q E s:=by
 obtain⟨od,J,hl⟩:=I.look
 exact PySem.W.get_value X J (UY hg).1 (PySem.W.findObj_own hh ha rfl (by rw[hl,hv])) ab h
theorem HS {pl:Sem Bool} {Q:Value×List Value->Shared->Prop} (X:K.In s.heap) (I:wz s.heap x dx C mA) (Y:Uu K C name=true)
 (hf:SS K (.ref C) name=some (some (.ref f))) (ht:TL K (.ref f)=true) (hv:mA name=none) (h:Q (.ref f,[.ref x]) s):
 wpAny (model prog w) A (getMethod (.ref x) name pl) Q E s:=by
 obtain⟨od,J,hl⟩:=I.look
 exact PySem.W.method_fn X J (UY Y).1 (UY Y).2 hf (beq_iff_eq.mp ht) (by show (U1 name od).map (·.isSome)=some false;rw[hl,hv];rfl) h
theorem K3 {ns:List Str} {Q:Unit->Shared->Prop} (X:K.In s.heap) (I:wz s.heap x dx C mA)
 (hs:SS K (.ref C) "__setattr__" =some (some (.builtin "object.__setattr__"))) (hp:Vd K C=true) (ht:Vy K C name=some none) (hh:UG K C=true)
 (hw:VO mA ns) (a2:ns.length<=sizeLine)
 (h:∀h',wz h' x dx C (λy=>if y=name then some v else mA y)->Heap.SameBut dx s.heap h'->Q () {s with heap:=h',toks:=s.toks+2}):
 wpAny (model prog w) A (setAttr (.ref x) name v) Q E s:=by
 obtain⟨od,J,hl⟩:=I.look
 refine PySem.W.set_plain X J hs (PySem.W.osa_open (s:={s with toks:=s.toks+1}) (r:=none) X J hp ht λb=> ?_)
 obtain⟨cd,hc,ac⟩:=PySem.W.any_some hh
 have hx:s.heap.get? x=some ⟨.ref C,some dx,.plain,#[]⟩:=I.obj
 refine wpAny_bind (wpAny_pure (wpAny_bind (wpAny_bind (wpAny_loadPart hx (wpAny_bind (WH (s:={s with toks:=s.toks+1}) (PySem.W.looks_clsIn X hc) ?_))))))
 rw[ac]
 refine wpAny_pure (a:=some dx) (wpAny_bind (wpAny_pure (wpAny_bind ?_)))
 refine wpAny_nsSet1 (s:={s with toks:=s.toks+1}) I.ns λh' Y ab=> ?_
 obtain⟨oD,a3,a4,am,an,ap⟩:=Y.count (PySem.Within.cons name v hw)
 refine wpAny_bind (wpAny_lookBehind am (by rw[an];exact pastItsLine_dict (S4 ap (by rw[Ss];omega))) ?_)
 exact wpAny_pure (h _ ⟨(ab.2 _ (UN I.ne)).trans I.obj,Y,I.ne⟩ ab)
theorem Jm {R:Result->Shared->Prop} {vs:List Value} {kw:List (Str×Value)} (X:K.In s.heap) (hm:Vz K C=true)
 (hi:SS K (.ref C) "__init__" =some (some (.ref f))) (J:PySem.W.typeIn K (.ref f)=some (.type "function"))
 (h:codeAny (model prog w) (A.under (.builtin "type.__call__" ⟨.ref C::vs,kw⟩)) (.call (.ref f) ⟨.ref (s.heap.objs.size+1)::vs,kw⟩) (PySem.W.InitBack (s.heap.objs.size+1) R)
  {s with heap:=(s.heap.push Tj).push (TJ C s.heap.objs.size)}):
 codeAny (model prog w) A (.call (.ref C) ⟨vs,kw⟩) R s:=by
 obtain⟨Y,g,d,t,os⟩:=s
 exact PySem.W.make_core (PySem.W.makes_of X hm) (PySem.W.looks_findIn X hi) (λself=>PySem.W.bind_fn X self J) (.inl rfl) h
end
def kq(f:Str)(v:V):List (Str×V)->List (Str×V)
 | []=>[(f,v)]
 | (g,x)::r=>if g=f then (g,v)::r else (g,x)::kq f v r
theorem vH(f g:Str)(v:V):∀fs:List (Str×V),(kq f v fs).lookup g=if g=f then some v else fs.lookup g
 | []=>by
  show Uj g [(f,v)]=_
  by_cases h:g=f
  ·have hb:(g == f)=true:=beq_iff_eq.mpr h
   simp only[Uj,hb,if_pos h]
  ·have hb:(g == f)=false:=beq_eq_false_iff_ne.mpr h
   simp only[Uj,hb,if_neg h]
 | (k,x)::r=>by
  have J:=vH f g v r
  rw[show kq f v ((k,x)::r)=(if k=f then (k,v)::r else (k,x)::kq f v r) from rfl]
  by_cases hk:k=f
  ·rw[if_pos hk]
   by_cases h:g=k
   ·have hb:(g == k)=true:=beq_iff_eq.mpr h
    simp only[Uj,hb,if_pos (h.trans hk)]
   ·have hb:(g == k)=false:=beq_eq_false_iff_ne.mpr h
    simp only[Uj,hb,if_neg (λe:g=f=>h (e.trans hk.symm))]
  ·rw[if_neg hk]
   by_cases h:g=k
   ·have hb:(g == k)=true:=beq_iff_eq.mpr h
    simp only[Uj,hb,if_neg (λe:g=f=>hk (h.symm.trans e))]
   ·have hb:(g == k)=false:=beq_eq_false_iff_ne.mpr h
    simp only[Uj,hb]
    exact J
theorem uf(f:Str)(v:V):∀fs:List (Str×V),f∈(kq f v fs).map (·.1)/\∀g,g∈fs.map (·.1)->g∈(kq f v fs).map (·.1)
 | []=>⟨by simp[kq],λg h=>by simp at h⟩
 | (k,x)::r=>by
  obtain⟨J,Y⟩:=uf f v r
  rw[show kq f v ((k,x)::r)=(if k=f then (k,v)::r else (k,x)::kq f v r) from rfl]
  by_cases hk:k=f
  ·rw[if_pos hk]
   subst hk
   exact⟨by simp,λg h=>by simpa using h⟩
  ·rw[if_neg hk]
   refine⟨?_,λg h=> ?_⟩
   ·rw[Sm]
    exact Sl _ J
   ·rw[Sm] at h ⊢
    rcases SA.mp h with e | e
    ·exact SA.mpr (.inl e)
    ·exact Sl _ (Y g e)
theorem vD(f:Str)(v:V):∀fs:List (Str×V),(kq f v fs).length<=fs.length+1
 | []=>by simp[kq]
 | (k,x)::r=>by
  have J:=vD f v r
  rw[show kq f v ((k,x)::r)=(if k=f then (k,v)::r else (k,x)::kq f v r) from rfl]
  by_cases hk:k=f
  ·rw[if_pos hk,Ss,Ss];omega
  ·rw[if_neg hk,Ss,Ss];omega
theorem qL.some_of{v:V}{o:Option Value}(r:qL (some v) o):∃u,o=some u/\RelV v u:=by
 cases o with
 | none=>exact(show False from r).elim
 | some u=>exact⟨u,rfl,r⟩
theorem qL.none_of{o:Option Value}(r:qL none o):o=none:=by
 cases o with
 | none=>rfl
 | some u=>exact(show False from r).elim
theorem GP{v:V}{u:Value}(r:RelV v u):V6 u=true:=by
 cases v with
 | non=>cases (show u=Value.none from r);rfl
 | bl b=>cases (show u=Value.bool b from r);rfl
 | int i=>obtain⟨t,e⟩:=(show ∃t,u=Value.int i t from r);cases e;rfl
 | str x=>obtain⟨t,e⟩:=(show ∃t,u=Value.str x t from r);cases e;rfl
 | byt b=>obtain⟨t,e⟩:=(show ∃t,u=Value.bytes b t from r);cases e;rfl
 | flt b=>obtain⟨t,e⟩:=(show ∃t,u=Value.float b t from r);cases e;rfl
 | ref a=>cases (show u=Value.ref a from r);rfl
 | ty n=>cases (show u=Value.type n from r);rfl
section
variable {P : Program} {w : World} {H H' : Hp} {h h' : Heap} {a C dx : Addr} {fs fs' : List (Str × V)}
theorem yu(J:HOk P w H h)(e:H a=some (.ins C dx fs)):∃mA,wz h a dx C mA/\(∀f,qL (fs.lookup f) (mA f))/\VO mA (fs.map (·.1))/\fs.length<=1000/\H dx=some (.own a):=by
 obtain⟨d,z,ne,Y,mA,n,r,q⟩:=(show iY P w H h a (.ins C dx fs) from J a _ e)
 exact⟨mA,⟨Y,n,ne⟩,r,q,z,d⟩
end
structure Cls(K:R4)(C:Addr):Prop where
 pg:Uu K C Str.empty=true
 hd:UG K C=true
 po:Vd K C=true
 sa:SS K (.ref C) "__setattr__" =some (some (.builtin "object.__setattr__"))
theorem Cls.get{K:R4}{C:Addr}(c:Cls K C)(f:Str):Uu K C f=true:=c.pg
def fS(K:R4)(C:Addr)(f:Str):Prop:=SS K (.ref C) f=some none
theorem fS.taker{K:R4}{C:Addr}{f:Str}(n:fS K C f):Vy K C f=some none:=by
 unfold Vy
 rw[show SS K (.ref C) f=some none from n]
 rfl
structure Con(K:R4)(C:Addr)(f:Str)(v:V)(u:Value):Prop where
 at_:SS K (.ref C) f=some (some u)
 rel:RelV v u
 get:VW K u "__get__" =some none
 cp:PySem.W.copiedNames.contains f=false
structure Meth(K:R4)(C:Addr)(m:Str)(f:Addr):Prop where
 at_:SS K (.ref C) m=some (some (.ref f))
 fn:TL K (.ref f)=true
 kp:Sd K (.ref f)=true
section
variable {X : Cx} {pins : List (Addr × Obj)} {σ : St} {H : Hp} {s : Shared} {a C dx : Addr} {fs : List (Str × V)} {f : Str} {v : V} {A : Around} {E : Value → Shared → Prop}
theorem FC {b:Bool} {Q:Value->Shared->Prop} (I:Inv X pins σ H s) (e:H a=some (.ins C dx fs)) (c:Cls X.K C) (n:fS X.K C f) (l:fs.lookup f=some v)
 (h:∀u s',Inv X pins σ H s'->RelV v u->Q u s'):wpAny (model X.prog X.w) A (getAttr (.ref a) f b) Q E s:=by
 obtain⟨mA,O,r,_,_,_⟩:=yu I.hok e
 obtain⟨u,hu,J⟩:=qL.some_of (v:=v) (o:=mA f) (by rw[<- l];exact r f)
 exact get_map I.kIn O (c.get f) c.hd n hu (GP J) (h u _ (I.tok _) J)
theorem sN {m:Str} {g:Addr} {pl:Sem Bool} {Q:Value×List Value->Shared->Prop} (I:Inv X pins σ H s) (e:H a=some (.ins C dx fs)) (c:Cls X.K C) (k:Meth X.K C m g) (l:fs.lookup m=none)
 (h:Q (.ref g,[.ref a]) s):wpAny (model X.prog X.w) A (getMethod (.ref a) m pl) Q E s:=by
 obtain⟨mA,O,r,_,_,_⟩:=yu I.hok e
 have hn:mA m=none:=qL.none_of (by rw[<- l];exact r m)
 exact HS I.kIn O (c.get m) k.at_ k.fn hn h
theorem ES {y:V} {u:Value} {Q:Unit->Shared->Prop} (I:Inv X pins σ H s) (e:H a=some (.ins C dx fs)) (c:Cls X.K C) (n:fS X.K C f) (hl:fs.length<1000) (ry:RelV y u)
 (h:∀s',Inv X pins σ (upd H a (.ins C dx (kq f y fs))) s'->Q () s'):wpAny (model X.prog X.w) A (setAttr (.ref a) f u) Q E s:=by
 obtain⟨mA,O,r,J,_,Y⟩:=yu I.hok e
 have hz:(fs.map (·.1)).length<=sizeLine:=by rw[R9,sizeLine_eq];omega
 refine K3 I.kIn O c.sa c.po n.taker c.hd J hz λh' O' sb=>h _ ?_
 have hd:∃o,h'.get? dx=some o:=let ⟨o,_,_,e',_⟩:=O'.ns;⟨o,e'⟩
 refine I.write (x:=a) (e:=dx) (by rw[e];exact UR) (.inr Y) (λb q hb z=>(sb.2 b hb).trans z) hd ?_
 refine⟨by rw[aV O.ne];exact Y, ?_,O.ne,O'.obj,_,O'.ns,λg=> ?_,λg hg=> ?_⟩
 ·have:=vD f y fs;omega
 ·show qL ((kq f y fs).lookup g) (if g=f then some u else mA g)
  rw[vH]
  by_cases q:g=f
  ·rw[if_pos q,if_pos q];exact ry
  ·rw[if_neg q,if_neg q];exact r g
 ·by_cases q:g=f
  ·rw[q];exact(uf f y fs).1
  ·refine(uf f y fs).2 g (J g λz=>hg ?_)
   show (if g=f then some u else mA g)=none
   rw[if_neg q];exact z
theorem Inv.made(I:Inv X pins σ H s):Inv X pins σ (upd (upd H s.heap.objs.size (.own (s.heap.objs.size+1))) (s.heap.objs.size+1) (.ins C s.heap.objs.size []))
 {s with heap:=(s.heap.push Tj).push (TJ C s.heap.objs.size)}:=by
 have e1:(s.heap.push Tj).get? s.heap.objs.size=some Tj:=Heap.get?_push_size s.heap rfl
 have e2:((s.heap.push Tj).push (TJ C s.heap.objs.size)).get? (s.heap.objs.size+1)=some (TJ C s.heap.objs.size):=by
  have:=Heap.get?_push_size (s.heap.push Tj) (o:=TJ C s.heap.objs.size) rfl
  rwa [Heap.size_push] at this
 have e3:(s.heap.push Tj).Ns s.heap.objs.size (λ_=>none):=⟨Tj,#[],_,e1,rfl,(λe J=>absurd J (by simp)),λ_=>rfl⟩
 have Y:=I.laid (a:=s.heap.objs.size) (o:=.own (s.heap.objs.size+1)) (h':=s.heap.push Tj) (t':=s.toks) (λb u q=>Heap.get?_push_of_some _ q) (Si _) ⟨_,e1⟩
 refine Y.laid (a:=s.heap.objs.size+1) (o:=.ins C s.heap.objs.size []) (t':=s.toks) (λb u q=>Heap.get?_push_of_some _ q) (Nat.le_of_eq (Heap.size_push _ _)) ?_
 have ne:s.heap.objs.size≠s.heap.objs.size+1:=SX (Vk _)
 refine⟨by rw[aV ne,cU],S1 _,ne,e2,λ_=>none,(Heap.Ns1.of_empty e3).at λo q=>Heap.get?_push_of_some _ q,λ_=>UR,λy hy=>absurd rfl hy⟩
theorem Lj {prog:Program} {w:World} {env:Env} {e:Expr} {f:Str} {pos:Pos} {s:Shared} {Q:Value->Shared->Prop} (hb:attributeBase e f env (eval e env)=eval e env)
 (h:wpAny (model prog w) A (eval e env) (λo J=>wpAny (model prog w) A (getAttr o f true) Q E J) E s):wpAny (model prog w) A (eval (.Attribute e f pos) env) Q E s:=
 Attribute_any_ h (by rw[arm_eval_Attribute,hb])
end
def Ob(K:R4)(ta:TE)(f:Str):TE:=λσ H Q=>ta σ H λx H1=>∃a C dx fs v,x=.ref a/\H1 a=some (.ins C dx fs)/\Cls K C/\fS K C f/\fs.lookup f=some v/\Q v H1
def MB(K:R4)(ta tv:TE)(f:Str):TS:=λD σ H=>tv σ H λy H1=>ta σ H1 λx H2=>∃a C dx fs,x=.ref a/\H2 a=some (.ins C dx fs)/\Cls K C/\fS K C f/\fs.length<1000/\
 D.nx σ (upd H2 a (.ins C dx (kq f y fs)))
section
variable {X : Cx} {o e value : Expr} {f : Str} {pos pos' tpos : Pos} {ta tv : TE}
theorem xG(J:PE X e ta)(hb:attributeBase e f X.env (eval e X.env)=eval e X.env):PE X (.Attribute e f pos) (Ob X.K ta f):=by
 intro pins s σ H Q I h
 refine Lj hb (thn (J pins s σ H _ I h) λu s1 ⟨x,H1,I1,rx,a,C,dx,fs,v,ex,ea,c,n,l,q⟩=> ?_)
 subst ex
 obtain rfl:u=Value.ref a:=rx
 exact FC I1 ea c n l λu' s2 Y ru=>⟨v,H1,Y,ru,q⟩
theorem Bg(ha:PE X o ta)(J:PE X value tv)(Y:swapsWith value (some (.Attribute o f pos')) pos.line X.env=pure false):PS X (.Assign [.Attribute o f pos'] value pos) (MB X.K ta tv f):=by
 intro pins s σ H D I h
 refine plainObj_wpAny_Assign_Attribute (thn (J pins s σ H _ I h) λu s1 ⟨y,H1,I1,ry,q⟩=>thn (ha pins s1 σ H1 _ I1 q) λov s2 ⟨x,H2,I2,rx,a,C,dx,fs,ex,ea,c,n,l,q2⟩=> ?_) Y
 subst ex
 obtain rfl:ov=Value.ref a:=rx
 exact ES I2 ea c n l ry λs3 I3=>⟨σ,_,I3,q2⟩
theorem OC {pl:Sem Bool} {m:Str} {apos:Pos} {args:List Expr} {pins:List (Addr×Obj)} {s:Shared} {σ:St} {H:Hp} {Q:Value->Shared->Prop} {te:TE} (Y:PE X e te) (I:Inv X pins σ H s)
 (h:te σ H λx H1=>∃a C dx fs g,x=.ref a/\H1 a=some (.ins C dx fs)/\Cls X.K C/\Meth X.K C m g/\fs.lookup m=none/\
  ∀s1,Inv X pins σ H1 s1->wpAny (model X.prog X.w) X.A (callWith pos (.ref g) [.ref a] (backTo pos (starEach args X.env)) (backToKw pos (keywordEach [] X.env))) Q X.xe s1)
 (ht:eval (.Call (.Attribute e m apos) args [] pos) X.env=(do
  let J <- eval e X.env
  standAt apos.atName
  let (f,first) <- holding [J] (getMethod J m pl)
  callWith pos f first (backTo pos (starEach args X.env)) (backToKw pos (keywordEach [] X.env)))):
 wpAny (model X.prog X.w) X.A (eval (.Call (.Attribute e m apos) args [] pos) X.env) Q X.xe s:=by
 refine UO (pl:=pl) (thn (Y pins s σ H _ I h) λu s1 ⟨x,H1,I1,rx,a,C,dx,fs,g,ex,ea,c,k,l,q⟩=> ?_) ht
 subst ex
 obtain rfl:u=Value.ref a:=rx
 exact sN I1 ea c k l (q s1 I1)
end
section
variable {X : Cx} {pins : List (Addr × Obj)} {σ : St} {H : Hp} {s : Shared} {A : Around} {E : Value → Shared → Prop} {Q : Value → Shared → Prop} {c : Value} {b : Bool}
inductive qk (K:R4) (H:Hp):V->Value->Prop where
 | non:qk K H .non (.type "NoneType")
 | bl (x:Bool):qk K H (.bl x) (.type "bool")
 | int (i:Int):qk K H (.int i) (.type "int")
 | str (x:Str):qk K H (.str x) (.type "str")
 | flt (x:UInt64):qk K H (.flt x) (.type "float")
 | lst {a:Addr} {xs:List V} (e:H a=some (.lst xs)):qk K H (.ref a) (.type "list")
 | frz {a:Addr} {o:Obj} {xs:List V} (e:H a=some (.frz o (.lst xs))):qk K H (.ref a) (.type "list")
 | tup {a:Addr} {xs:List V} (e:H a=some (.tup xs)):qk K H (.ref a) (.type "tuple")
 | dK {a:Addr} {kvs:List (Key×V)} (e:H a=some (.dK kvs)):qk K H (.ref a) (.type "dict")
 | dT {a:Addr} {kvs:List (List Key×V)} (e:H a=some (.dT kvs)):qk K H (.ref a) (.type "dict")
 | ins {a C dx:Addr} {fs:List (Str×V)} (e:H a=some (.ins C dx fs)) (cl:Cls K C) (ha:SS K (.ref C) "__class__" =some (some (.builtin "object.__class__")))
  (hn:VW K (.builtin "object.__class__") "__get__" =some (some (.builtin "getset_descriptor.__get__"))) (htk:PySem.W.takesIn K (.builtin "object.__class__")=some true)
  (hm:PySem.W.mroIn K C (.type "object")=some true):qk K H (.ref a) (.ref C)
end
structure fX(k:Nat)(A:Around):Prop where
 hd:A.handled=none
 dp:A.depth+3*k+5<recursionLimit
 un:A.units+16*k+200<cLine
theorem fX.mono{j k:Nat}{A:Around}(r:fX k A)(h:j<=k):fX j A:=⟨r.hd,by have:=r.dp;omega,by have:=r.un;omega⟩
theorem fX.deeper{k:Nat}{A:Around}(r:fX (k+1) A)(env:Env):fX k (A.deeper env):=
 ⟨r.hd,by have:=r.dp;show A.depth+1+3*k+5<_;omega,by have:=r.un;show A.units+3+16*k+200<_;omega⟩
theorem FG{A:Around}{C:Addr}{us:List Value}{kw:List (Str×Value)}:(A.under (.builtin "type.__call__" ⟨.ref C::us,kw⟩)).depth=A.depth+1:=by
 first | rfl | simp[Around.under,Code.weight,Code.isCreation,Code.isGuard,Code.isCaller,Code.frames,Code.isFrame,guardIds]
theorem FJ{A:Around}{C:Addr}{us:List Value}{kw:List (Str×Value)}:(A.under (.builtin "type.__call__" ⟨.ref C::us,kw⟩)).units=A.units+1:=by
 first | rfl | simp[Around.under,Code.cUnits,Code.frames,Code.isFrame]
theorem fX.make{k:Nat}{A:Around}(r:fX (k+1) A)(C:Addr)(us:List Value)(kw:List (Str×Value)):fX k (A.under (.builtin "type.__call__" ⟨.ref C::us,kw⟩)):=
 ⟨r.hd,by have:=r.dp;rw[FG];omega,by have:=r.un;rw[FJ];omega⟩
theorem fX.depth{k:Nat}{A:Around}(r:fX k A):A.depth<recursionLimit:=by have:=r.dp;omega
theorem fX.units{k:Nat}{A:Around}(r:fX k A):A.units+64<cLine:=by have:=r.un;omega
def sf:TA:=λ_ H Q=>Q [] H
def oH(ta:TE)(J:TA):TA:=λσ H Q=>ta σ H λx H1=>J σ H1 λxs H2=>Q (x::xs) H2
section
variable {X : Cx} {e : Expr} {es : List Expr} {te : TE} {t : TA} {pos : Pos}
theorem ar:PA X [] sf:=λ_ _ _ _ H Q I h=>Calls.spliced_nil ⟨[],H,I,.nil,h⟩
theorem ah(ha:PE X e te)(J:PA X es t)(Y:starEach (e::es) X.env=(false,eval e X.env)::starEach es X.env:=by rfl):PA X (e::es) (oH te t):=by
 intro pos pins s σ H Q I h
 rw[Y]
 show wpAny _ _ (spliced ((false,eval e X.env)::backTo pos (starEach es X.env))) _ _ s
 refine Calls.spliced_cons (thn (ha pins s σ H _ I h) λu s1 ⟨x,H1,I1,r1,q1⟩=> ?_)
 exact thn (J pos pins s1 σ H1 _ I1 q1) λus s2 ⟨xs,H2,I2,r2,q2⟩=>⟨x::xs,H2,I2,.cons r1 r2,q2⟩
def MX(t:TA):TE:=λσ H Q=>t σ H λxs H1=>xs.length<=sizeLine/\∀p,H1 p=none->Q (.ref p) (upd H1 p (.tup xs))
def B8(t:TA):TE:=λσ H Q=>t σ H λxs H1=>xs.length<=sizeLine/\∀p,H1 p=none->Q (.ref p) (upd H1 p (.lst xs))
theorem nE{x1}(h:PA X es t):PE X (.Tuple es x1 pos) (MX t):=by
 intro pins s σ H Q I hq
 refine wpAny_Tuple_spliced (thn (h pos pins s σ H _ I hq) λus s1 ⟨xs,H1,I1,r,z,q⟩=>⟨by rw[<- r.length];exact z, ?_⟩)
 have J:H1 s1.heap.objs.size=none:=I1.hok.fresh (Si _)
 refine⟨.ref s1.heap.objs.size,upd H1 s1.heap.objs.size (.tup xs),I1.laid (t':=s1.toks) (λb u e=>Heap.get?_push_of_some _ e) (Si _) ?_,rfl,q _ J⟩
 exact⟨z,us,r,⟨_,Heap.get?_push_size _ rfl,rfl,_,rfl⟩⟩
theorem fu(h:PA X es t):PE X (.List es pos) (B8 t):=by
 intro pins s σ H Q I hq
 refine wpAny_List_spliced (thn (h pos pins s σ H _ I hq) λus s1 ⟨xs,H1,I1,r,z,q⟩=>⟨by rw[<- r.length];exact z, ?_⟩)
 have J:H1 s1.heap.objs.size=none:=I1.hok.fresh (Si _)
 refine⟨.ref s1.heap.objs.size,upd H1 s1.heap.objs.size (.lst xs),I1.laid (t':=s1.toks) (λb u e=>Heap.get?_push_of_some _ e) (Si _) ?_,rfl,q _ J⟩
 exact⟨z,us,0,r,Heap.get?_push_size _ rfl⟩
end
abbrev Sp:=List V->Hp->VK->XK->Prop
abbrev CXT:=List Env->Hp->Shared->XK->Value->Shared->Prop
structure ug(P:Program)(w:World)(K:R4)(mg:Str->Option Value)(base:Heap)(A:Around)(outer:List Env)(s:Shared)(H:Hp):Prop where
 frames:A.frames=some outer
 mod:Mod K mg base
 bs:∀b o,base.get? b=some o->s.heap.get? b=some o/\H b=none
 bsz:base.objs.size<=s.heap.objs.size
 funs:s.heap.FunFrames base outer
 frf:∀b∈frs outer,H b=none
 hok:HOk P w H s.heap
 bare:AllBare s.gens
def CE(outer:List Env)(P:Program)(w:World)(H:Hp)(s:Shared)(Q:VK)(u:Value)(s':Shared):Prop:=
 ∃v H',s'.os=s.os/\AllBare s'.gens/\Un (frs outer) [] H H' s.heap s'.heap/\HOk P w H' s'.heap/\RelV v u/\Q v H'
def CR(CX:CXT)(outer:List Env)(P:Program)(w:World)(H:Hp)(s:Shared)(Q:VK)(E:XK)(r:Result)(s':Shared):Prop:=
 match r with
 | .ok (.ret u)=>CE outer P w H s Q u s'
 | .ok _=>False
 | .error e=>CX outer H s E e s'
structure lM(P:Program)(w:World)(K:R4)(mg:Str->Option Value)(base:Heap)(CX:CXT)(k:Nat)(f:Addr)(fd:FuncData)(ps:List Str)(sp:Sp):Prop where
 len:∀vs H Q E,sp vs H Q E->vs.length=ps.length
 run:∀(A:Around) (outer:List Env) (s:Shared) (H:Hp) (args:Args) (us:List Value) (vs:List V) (Q:VK) (E:XK),fX k A->ug P w K mg base A outer s H->BindsTo s fd args (ps.zip us)->Vals vs us->sp vs H Q E->
  codeAny (model P w) A (.call (.ref f) args) (CR CX outer P w H s Q E) s
theorem ug.make{P:Program}{w:World}{K:R4}{mg:Str->Option Value}{base:Heap}{A:Around}{outer:List Env}{s:Shared}{H:Hp}(e:ug P w K mg base A outer s H)(C:Addr)(us:List Value)(kw:List (Str×Value)):
 ug P w K mg base (A.under (.builtin "type.__call__" ⟨.ref C::us,kw⟩)) outer s H:=⟨by first | exact e.frames | (simpa[Around.under,Code.envs,Code.isFrame,pushEnvs] using e.frames),e.mod,e.bs,e.bsz,e.funs,e.frf,e.hok,e.bare⟩
section
variable {X : Cx} {pins : List (Addr × Obj)} {σ : St} {H : Hp} {s s' : Shared}
theorem Inv.env0(I:Inv X pins σ H s):ug X.prog X.w X.K X.mg X.base X.A X.stack s H:=
 ⟨I.ok.frames,I.ok.mod,I.bs,S4 I.ok.bsz I.sz,I.stack,I.stkFree,I.hok,I.bare⟩
theorem Inv.after{Q:VK}{u:Value}(I:Inv X pins σ H s)(h:CE X.stack X.prog X.w H s Q u s'):EP X pins σ Q u s':=by
 obtain⟨v,H',os,J,un,Y,r,q⟩:=h
 obtain⟨hh,g,d,t,ab⟩:=s'
 obtain rfl:ab=s.os:=os
 exact⟨v,H',I.call (h':=hh) (g':=g) (d':=d) (t':=t) (ch:=[]) un Y J (λb z=>absurd z (by simp)),r,q⟩
end
def uV(sp:Sp)(dvs:List V)(E:XK)(t:TA):TE:=λσ H Q=>t σ H λvs H1=>sp (vs++dvs) H1 Q E
def EK(C:Addr)(m:Str)(sp:Sp)(dvs:List V)(E:XK)(ta:TE)(t:TA):TE:=λσ H Q=>ta σ H λx H1=>∃a dx fs,x=.ref a/\H1 a=some (.ins C dx fs)/\fs.lookup m=none/\
 t σ H1 λvs H2=>sp (x::(vs++dvs)) H2 Q E
def Ke(C:Addr)(sp:Sp)(dvs:List V)(E:XK)(t:TA):TE:=λσ H Q=>t σ H λvs H1=>∀x dx,H1 x=none->H1 dx=none->dx≠x->
 sp (.ref x::(vs++dvs)) (upd (upd H1 dx (.own x)) x (.ins C dx [])) (λv H2=>v=.non/\Q (.ref x) H2) E
def Binds(K:R4)(fd:FuncData)(ps:List Str)(ds:List Value):Prop:=
 ∀(s:Shared) (us:List Value),K.In s.heap->(us++ds).length=ps.length->BindsTo s fd ⟨us,[]⟩ (ps.zip (us++ds))
theorem Binds.all{K:R4}{fd:FuncData}{ps:List Str}(h:∀us:List Value,us.length=ps.length->bindArgs fd ⟨us,[]⟩=pure (ps.zip us)):Binds K fd ps []:=λs us _ J=>by
 rw[Tu] at J ⊢
 exact .of_eq (h us J)
def Passes(CX:CXT)(X:Cx)(E:XK):Prop:=∀(pins:List (Addr×Obj)) (σ:St) (H:Hp) (s:Shared) (e:Value) (s':Shared),Inv X pins σ H s->CX X.stack H s E e s'->X.xe e s'
section
variable {X : Cx} {CX : CXT} {k : Nat} {f C : Addr} {fd : FuncData} {ps : List Str} {sp : Sp} {dvs : List V} {ds : List Value} {E : XK} {x m : Str} {p pos apos : Pos} {e o : Expr} {es : List Expr} {ta : TE} {t : TA}
theorem BA {pins:List (Addr×Obj)} {σ:St} {H:Hp} {s:Shared} {Q:VK} {us:List Value} {vs:List V} (F:lM X.prog X.w X.K X.mg X.base CX k f fd ps sp) (Y:fX k X.A) (hb:Binds X.K fd ps ds) (hd:Vals dvs ds) (hx:Passes CX X E)
 (I:Inv X pins σ H s) (r:Vals vs us) (h:sp (vs++dvs) H Q E):wpAny (model X.prog X.w) X.A (call (.ref f) us) (EP X pins σ Q) X.xe s:=by
 have J:Vals (vs++dvs) (us++ds):=r.append hd
 have hl:(us++ds).length=ps.length:=by rw[<- J.length];exact F.len _ _ _ _ h
 refine wpAny_call (codeAny_mono (F.run X.A X.stack s H ⟨us,[]⟩ (us++ds) (vs++dvs) Q E Y I.env0 (hb s us I.kIn hl) J h) λr s' hq=> ?_)
 cases r with
 | error e=>exact hx pins σ H s e s' I hq
 | ok fl=>
  cases fl with
  | ret u=>exact I.after hq
  | next=>exact R5 hq
  | brk=>exact R5 hq
  | cont=>exact R5 hq
theorem aR (F:lM X.prog X.w X.K X.mg X.base CX k f fd ps sp) (hr:fX k X.A) (hg:Gl X x) (hm:X.mg x=some (.ref f)) (hk:Sd X.K (.ref f)=true) (hb:Binds X.K fd ps ds) (hd:Vals dvs ds) (hx:Passes CX X E)
 (ha:PA X (e::es) t) (J:(x == ("__debug__" :Str))=false:=by decide) (he:starEach (e::es) X.env=(false,eval e X.env)::starEach es X.env:=by rfl) (Y:(backTo pos (starEach es X.env)).any (·.1)=false:=by rfl):
 PE X (.Call (.Name x p) (e::es) [] pos) (uV sp dvs E t):=by
 intro pins s σ H Q I h
 refine wpAny_Call_Name_kw (yx I hg hm ?_ J)
 refine U5 (h₀:=X.base) I.ok.mod.kin hk (thn (ha pos pins s σ H _ I h) λus s1 ⟨vs,H1,I1,r,q⟩=>⟨I1.kIn, ?_⟩) he Y
 exact BA F hr hb hd hx I1 r q
theorem uH {pl:Sem Bool} (he:PE X o ta) (c:Cls X.K C) (hm:Meth X.K C m f) (F:lM X.prog X.w X.K X.mg X.base CX k f fd ps sp) (hr:fX k X.A) (hb:Binds X.K fd ps ds) (hd:Vals dvs ds) (hx:Passes CX X E) (ha:PA X (e::es) t)
 (J:starEach (e::es) X.env=(false,eval e X.env)::starEach es X.env:=by rfl) (Y:(backTo pos (starEach es X.env)).any (·.1)=false:=by rfl)
 (ht:eval (.Call (.Attribute o m apos) (e::es) [] pos) X.env=(do
  let ov <- eval o X.env
  standAt apos.atName
  let (f,first) <- holding [ov] (getMethod ov m pl)
  callWith pos f first (backTo pos (starEach (e::es) X.env)) (backToKw pos (keywordEach [] X.env))):=by rfl):
 PE X (.Call (.Attribute o m apos) (e::es) [] pos) (EK C m sp dvs E ta t):=by
 intro pins s σ H Q I h
 refine UO (pl:=pl) (thn (he pins s σ H _ I h) λu s1 ⟨x,H1,I1,rx,a,dx,fs,ex,ea,l,q⟩=> ?_) ht
 subst ex
 obtain rfl:u=Value.ref a:=rx
 refine sN I1 ea c hm l ?_
 refine U5 (first:=[.ref a]) (h₀:=X.base) I.ok.mod.kin hm.kp (thn (ha pos pins s1 σ H1 _ I1 q) λus s2 ⟨vs,H2,I2,r,q2⟩=>⟨I2.kIn, ?_⟩) J Y
 exact BA (us:=.ref a::us) (vs:=.ref a::vs) F hr hb hd hx I2 (.cons rfl r) q2
theorem qg {pl:Sem Bool} (Y:PE X o ta) (c:Cls X.K C) (hm:Meth X.K C m f) (F:lM X.prog X.w X.K X.mg X.base CX k f fd ps sp) (hr:fX k X.A) (hb:Binds X.K fd ps ds) (hd:Vals dvs ds) (hx:Passes CX X E)
 (ht:eval (.Call (.Attribute o m apos) [] [] pos) X.env=(do
  let J <- eval o X.env
  standAt apos.atName
  let (f,first) <- holding [J] (getMethod J m pl)
  callWith pos f first (backTo pos (starEach [] X.env)) (backToKw pos (keywordEach [] X.env))):=by rfl):
 PE X (.Call (.Attribute o m apos) [] [] pos) (EK C m sp dvs E ta sf):=by
 intro pins s σ H Q I h
 refine UO (pl:=pl) (thn (Y pins s σ H _ I h) λu s1 ⟨x,H1,I1,rx,a,dx,fs,ex,ea,l,q⟩=> ?_) ht
 subst ex
 obtain rfl:u=Value.ref a:=rx
 refine sN I1 ea c hm l ?_
 exact PySem.W.callWith_K0 (first:=[.ref a]) I1.kIn hm.kp (BA (us:=[.ref a]) (vs:=[.ref a]) F hr hb hd hx I1 (.cons rfl .nil) q)
structure Mk(K:R4)(C f:Addr):Prop where
 makes:Vz K C=true
 init:SS K (.ref C) "__init__" =some (some (.ref f))
 fn:TL K (.ref f)=true
 kp:Sd K (.ref C)=true
theorem HU {pins:List (Addr×Obj)} {σ:St} {H:Hp} {s:Shared} {Q:VK} {us:List Value} {vs:List V} (M:Mk X.K C f) (F:lM X.prog X.w X.K X.mg X.base CX k f fd ps sp) (hr:fX (k+1) X.A) (hb:Binds X.K fd ps ds) (hd:Vals dvs ds)
 (hx:Passes CX X E) (I:Inv X pins σ H s) (r:Vals vs us)
 (h:∀x dx,H x=none->H dx=none->dx≠x->sp (.ref x::(vs++dvs)) (upd (upd H dx (.own x)) x (.ins C dx [])) (λv H2=>v=.non/\Q (.ref x) H2) E):
 wpAny (model X.prog X.w) X.A (call (.ref C) us) (EP X pins σ Q) X.xe s:=by
 have hq:=h (s.heap.objs.size+1) s.heap.objs.size (I.hok.fresh (VD _)) (I.hok.fresh (Si _)) (SX (Vk _))
 have Y:=Inv.made (C:=C) I
 have r2:Vals (V.ref (s.heap.objs.size+1)::(vs++dvs)) (Value.ref (s.heap.objs.size+1)::(us++ds)):=.cons rfl (r.append hd)
 have hl:(Value.ref (s.heap.objs.size+1)::us++ds).length=ps.length:=by
  have e:=r2.length
  rw[F.len _ _ _ _ hq] at e
  exact e.symm
 refine wpAny_call (Jm (f:=f) I.kIn M.makes M.init (beq_iff_eq.mp M.fn) (codeAny_mono (F.run _ X.stack _ _ ⟨Value.ref (s.heap.objs.size+1)::us,[]⟩ (Value.ref (s.heap.objs.size+1)::(us++ds)) _ _ E (hr.make C us [])
  (Y.env0.make C us []) (hb _ (Value.ref (s.heap.objs.size+1)::us) Y.kIn hl) r2 hq) λr s' J=> ?_))
 cases r with
 | error e=>exact hx pins σ _ _ e s' Y J
 | ok fl=>
  cases fl with
  | ret u=>
   obtain⟨v,H',I3,rv,ev,q3⟩:=Y.after J
   subst ev
   exact⟨rv,⟨V.ref (s.heap.objs.size+1),H',I3,rfl,q3⟩⟩
  | next=>exact R5 J
  | brk=>exact R5 J
  | cont=>exact R5 J
theorem KN (M:Mk X.K C f) (F:lM X.prog X.w X.K X.mg X.base CX k f fd ps sp) (hr:fX (k+1) X.A) (hg:Gl X x) (hm:X.mg x=some (.ref C)) (hb:Binds X.K fd ps ds) (hd:Vals dvs ds) (hx:Passes CX X E)
 (ha:PA X (e::es) t) (J:(x == ("__debug__" :Str))=false:=by decide) (he:starEach (e::es) X.env=(false,eval e X.env)::starEach es X.env:=by rfl) (Y:(backTo pos (starEach es X.env)).any (·.1)=false:=by rfl):
 PE X (.Call (.Name x p) (e::es) [] pos) (Ke C sp dvs E t):=by
 intro pins s σ H Q I h
 refine wpAny_Call_Name_kw (yx I hg hm ?_ J)
 refine U5 (h₀:=X.base) I.ok.mod.kin M.kp (thn (ha pos pins s σ H _ I h) λus s1 ⟨vs,H1,I1,r,q⟩=>⟨I1.kIn, ?_⟩) he Y
 exact HU M F hr hb hd hx I1 r q
end
section
variable {X : Cx} {CX : CXT} {k : Nat} {f C : Addr} {fd : FuncData} {ps ks : List Str} {sp : Sp} {E : XK} {x m : Str} {p pos apos kpos : Pos} {e o : Expr} {es : List Expr} {kws : List Keyword} {te ta : TE} {t tk : TA} {nm : Option Str}
structure QS(K:R4)(fd:FuncData)(ps ks:List Str)(g:List Value->List Value->List Value)(gV:List V->List V->List V):Prop where
 to:∀(s:Shared) (us ws:List Value),K.In s.heap->(g us ws).length=ps.length->BindsTo s fd ⟨us,ks.zip ws⟩ (ps.zip (g us ws))
 rel:∀{vs:List V} {us:List Value} {zs:List V} {ws:List Value},Vals vs us->Vals zs ws->Vals (gV vs zs) (g us ws)
variable {g : List Value → List Value → List Value} {gV : List V → List V → List V}
end
structure bq(N P:List Str)(sc:Scope):Prop where
 kind:sc.kind=.function
 co:sc.isCoroutine=false
 gen:sc.isGenerator=false
 nd:N.Nodup
 pre:N.take P.length=P
 par:∀x∈P,sc.names.lookup x=some .local\/sc.names.lookup x=some .cell
 nofree:∀y∈sc.names,y.2≠ .free
theorem yL{kindOf:Str->Option NameKind}{x:Str}:∀{binds:List (Str×Value)} {m:Str->Option Value},(∀v,(x,v)∉binds)->bindL kindOf binds m x=m x
 | [],_,_=>rfl
 | (n,v)::r,m,h=>by
  unfold bindL
  rw[yL λw J=>h w (Sl _ J)]
  split
  ·have:x≠n:=by rintro rfl;exact h v Sr
   simp[this]
  ·rfl
theorem yR{kindOf:Str->Option NameKind}{x:Str}:∀{binds:List (Str×Value)} {m:Str->Option Value},(∀v,(x,v)∉binds)->bindC kindOf binds m x=m x
 | [],_,_=>rfl
 | (n,v)::r,m,h=>by
  unfold bindC
  rw[yR λw J=>h w (Sl _ J)]
  split
  ·rfl
  ·have:x≠n:=by rintro rfl;exact h v Sr
   simp[this]
theorem yP{kindOf:Str->Option NameKind}{x:Str}{v:Value}:∀{P:List Str} {vs:List Value} {i:Nat} {m:Str->Option Value},P.Nodup->P[i]? =some x->vs[i]? =some v->kindOf x=some .local->
 bindL kindOf (P.zip vs) m x=some v
 | [],_,_,_,_,h,_,_=>by simp at h
 | _::_,[],_,_,_,_,h,_=>by simp at h
 | p::P,w::vs,0,m,nd,h1,h2,hk=>by
  simp at h1 h2;subst h1;subst h2
  show bindL kindOf ((p,w)::P.zip vs) m p=_
  unfold bindL
  rw[yL λv J=>(Tv.mp nd).1 (Ta J).1,if_pos hk]
  simp
 | p::P,w::vs,i+1,m,nd,h1,h2,hk=>by
  show bindL kindOf ((p,w)::P.zip vs) m x=_
  unfold bindL
  exact yP (i:=i) (Tv.mp nd).2 (by simpa using h1) (by simpa using h2) hk
theorem yQ{kindOf:Str->Option NameKind}{x:Str}{v:Value}:∀{P:List Str} {vs:List Value} {i:Nat} {m:Str->Option Value},P.Nodup->P[i]? =some x->vs[i]? =some v->kindOf x≠some .local->
 bindC kindOf (P.zip vs) m x=some v
 | [],_,_,_,_,h,_,_=>by simp at h
 | _::_,[],_,_,_,_,h,_=>by simp at h
 | p::P,w::vs,0,m,nd,h1,h2,hk=>by
  simp at h1 h2;subst h1;subst h2
  show bindC kindOf ((p,w)::P.zip vs) m p=_
  unfold bindC
  rw[yR λv J=>(Tv.mp nd).1 (Ta J).1,if_neg hk]
  simp
 | p::P,w::vs,i+1,m,nd,h1,h2,hk=>by
  show bindC kindOf ((p,w)::P.zip vs) m x=_
  unfold bindC
  exact yQ (i:=i) (Tv.mp nd).2 (by simpa using h1) (by simpa using h2) hk
def start(N:List Str)(vs:List V):St:=vs.map some++Sb (N.length-vs.length) none
def vS(CX:CXT)(P:Program)(w:World)(K:R4)(mg:Str->Option Value)(base:Heap)(N:List Str)(qual:Str)(scope:Scope)(f:Addr)(cd:Value)(A:Around)(outer:List Env)(s:Shared)(H:Hp)(E:XK):Cx where
 prog:=P
 w:=w
 K:=K
 mg:=mg
 base:=base
 A:=A.deeper (envOfC qual scope s.heap.objs.size f cd)
 N:=N
 s₀:=s
 H₀:=H
 env:=envOfC qual scope s.heap.objs.size f cd
 outer:=outer
 stack:=envOfC qual scope s.heap.objs.size f cd::outer
 ex:=[]
 calm:=true
 fn:=λ_=>true
 pn:=[]
 xe:=λe s'=>wpAny (model P w) (A.deeper (envOfC qual scope s.heap.objs.size f cd)) (leaving (envOfC qual scope s.heap.objs.size f cd) e) (λ_ s''=>CX outer H s E e s'') (λe' s''=>CX outer H s E e' s'') s'
theorem B7{J:Scope}{n:Nat}{x:Str}(h:J.names.lookup x=some .cell):∃c,(cellsFrom n J.names []).lookup x=some c:=by
 have q:=Uk J.names n [] (.inl h)
 exact Vl.mp q
theorem Gk {CX:CXT} {P:Program} {w:World} {K:R4} {mg:Str->Option Value} {base:Heap} {N ps:List Str} {qual:Str} {scope:Scope} {f:Addr} {cd:Value} {A:Around} {outer:List Env} {s s1:Shared} {H:Hp} {E:XK} {us:List Value} {vs:List V}
 (S:bq N ps scope) (hd:A.handled=none) (J:ug P w K mg base A outer s H) (hl:vs.length=ps.length) (r:Vals vs us)
 (x:InCallC s s.heap.objs.size (bindL (envOfC qual scope s.heap.objs.size f cd).kindOf (ps.zip us) λ_=>none) (cellsFrom (s.heap.objs.size+1) scope.names []) (bindC (envOfC qual scope s.heap.objs.size f cd).kindOf (ps.zip us) λ_=>none) s1):
 Inv (vS CX P w K mg base N qual scope f cd A outer s H E) [] (start N vs) H s1:=by
 have ac:ps.length<=N.length:=by have:=congrArg T3 S.pre;rw[TX] at this;omega
 obtain⟨h1,tk,rfl,hk⟩:=x.done
 have Y:∀b:Addr,b∉(vS CX P w K mg base N qual scope f cd A outer s H E).ex:=λb z=>absurd (show b∈([]:List Addr) from z) (by simp)
 refine⟨⟨J.mod,S.kind,rfl,rfl,Si _,λy z c h1 h2=> ?_,λy hy=> ?_,λy c _ h=> ?_,λ_=>hd,Around.frames_deeper J.frames,.inr ⟨rfl,rfl⟩,λb z=>absurd z (Y b),J.bs,J.bsz,λb _ _=>Y b,λb z=>absurd z (Y b),J.funs,J.frf⟩,
  rfl,J.bare,Un.kept hk,⟨_,x.toInCall.ns,λi y v h1 h2 h3=> ?_⟩,λy c h=>⟨_,x.cell y c h⟩,J.hok.fresh (Si _),λy c h=> ?_,λp hp=>absurd (show p∈([]:List (Addr×Obj)) from hp) (by simp),J.hok.kept hk, ?_⟩
 ·exact name_of_addr x.apart (Ug h1) (Ug h2)
 ·have hy:scope.names.lookup y=some .cell\/scope.names.lookup y=some .free:=hy
  rcases hy with hy | hy
  ·exact B7 hy
  ·exact absurd rfl (S.nofree _ (Ug hy))
 ·exact T5 (x.above y c (Ug h))
 ·have hi:i<vs.length:=by
   unfold start at h2
   by_cases hi:i<vs.length
   ·exact hi
   ·rw[Sj (by simpa using hi)] at h2
    rw[SV] at h2
    split at h2 <;> cases h2
  have ha:vs[i]? =some v:=by
   unfold start at h2
   rw[Sw (by simpa using hi),SF] at h2
   cases e:vs[i]? with
   | none=>rw[e] at h2;cases h2
   | some a=>rw[e] at h2;cases h2;rfl
  obtain⟨u,hu,rv⟩:=r.get ha
  have hp:ps[i]? =some y:=by
   rw[<- S.pre,Vm (by omega)];exact h1
  have ab:ps.Nodup:=by rw[<- S.pre];exact S.nd.sublist (List.take_sublist _ _)
  refine⟨u,rv, ?_⟩
  rcases S.par y (SY hp) with k | k
  ·exact .inl ⟨k,yP ab hp hu k⟩
  ·obtain⟨c,e⟩:=B7 (n:=s.heap.objs.size+1) k
   refine .inr ⟨.inl k,c,e, ?_⟩
   have q:=x.cell y c e
   rw[yQ ab hp hu (by show scope.names.lookup y≠_;rw[k];decide)] at q
   exact q
 ·exact J.hok.fresh (T5 (x.above y c (Ug h)))
 ·unfold start
  show _=N.length
  rw[SH,R9,Uo]
  omega
theorem O6 {CX:CXT} {P:Program} {w:World} {K:R4} {mg:Str->Option Value} {base:Heap} {k:Nat} {f:Addr} {name qual:Str} {ab:Arguments} {body:List Stmt} {scope:Scope} {dV kV as pm Y ct oc:Value} {an od:Option Addr}
 {a4:Array (Option Value)} {N ps:List Str} {sp:Sp} (lk:K.lookup f=some ⟨oc,od,.func (Sk name qual ab body scope dV kV as pm an Y ct),a4⟩) (a5:Sf K Y qual=true) (S:bq N ps scope)
 (az:∀vs H Q E,sp vs H Q E->vs.length=ps.length)
 (ac:∀(A:Around) (outer:List Env) (s:Shared) (H:Hp) (vs:List V) (Q:VK) (E:XK),fX k (A.deeper (envOfC qual scope s.heap.objs.size f Y))->sp vs H Q E->
  ∃t,PSs (vS CX P w K mg base N qual scope f Y A outer s H E) body t/\t {nx:=λ_ H'=>Q .non H',rt:=Q} (start N vs) H):
 lM P w K mg base CX (k+1) f (Sk name qual ab body scope dV kV as pm an Y ct) ps sp:=by
 refine⟨az,λA outer s H args us vs Q E hr e0 hb r a1=> ?_⟩
 have hl:=az _ _ _ _ a1
 have KX:K.In s.heap:=e0.mod.kin.keeps λb o e=>(e0.bs b o e).1
 have a7:s.heap.NoLimit:=e0.mod.nolimit.keeps λb o e=>(e0.bs b o e).1
 have am:∀y∈ps.zip us,scope.names.lookup y.1=some .local\/(scope.names.lookup y.1=some .cell/\((cellsFrom (s.heap.objs.size+1) scope.names []).lookup y.1).isSome=true):=λ⟨n,v⟩ hy=>by
  rcases S.par n (Ta hy).1 with q | q
  ·exact .inl q
  ·exact .inr ⟨q,Uk _ _ _ (.inl q)⟩
 refine codeAny_call_function hr.depth (KX _ _ lk) rfl S.co S.gen rfl (PySem.W.codeRec_of KX a5) (hb _ _ _ _ ?_)
 refine wpAny_newFunctionEnv_cells S.kind am λenv he s1 x=> ?_
 subst he
 refine⟨a7.keeps x.toInCall.keep,codeAny_func ?_⟩
 obtain⟨t,ht,hq⟩:=ac A outer s H vs Q E (hr.deeper _) a1
 have I:Inv (vS CX P w K mg base N qual scope f Y A outer s H E) [] (start N vs) H s1:=Gk S hr.hd e0 hl r x
 refine wpAny_mono (ht [] s1 (start N vs) H _ I hq) (λfl s' hs=> ?_) λe s' hs=>hs
 have a2:∀{σ':St} {H':Hp} {v:V} {u:Value},Inv (vS CX P w K mg base N qual scope f Y A outer s H E) [] σ' H' s'->RelV v u->Q v H'->CE outer P w H s Q u s':=
  λ{σ' H' v u} J rv q=>⟨v,H',J.os,J.bare,J.base,J.hok,rv,q⟩
 cases fl with
 | ret u=>
  obtain⟨v,σ',H',J,rv,q⟩:=hs
  exact a2 J rv q
 | next=>
  obtain⟨σ',H',J,q⟩:=hs
  exact a2 (v:=V.non) (u:=Value.none) J rfl q
 | brk=>
  obtain⟨_,_,_,q⟩:=hs
  exact R5 q
 | cont=>
  obtain⟨_,_,_,q⟩:=hs
  exact R5 q
section
variable {X : Cx} {x : Str} {p pos : Pos} {e : Expr} {es : List Expr} {t : TA} {id T : String} {r : List V → Hp → VK → Prop}
def tCB(r:List V->Hp->VK->Prop)(t:TA):TE:=λσ H Q=>t σ H λvs H1=>r vs H1 Q
theorem ba (hc:my X (.builtin id) r) (hg:Gl X x) (hm:X.mg x=none) (hv:bootBuiltins x=some (.builtin id)) (ha:PA X (e::es) t) (hn:x≠"__name__" :=by decide) (J:(x == ("__debug__" :Str))=false:=by decide)
 (he:starEach (e::es) X.env=(false,eval e X.env)::starEach es X.env:=by rfl) (Y:(backTo pos (starEach es X.env)).any (·.1)=false:=by rfl):PE X (.Call (.Name x p) (e::es) [] pos) (tCB r t):=by
 intro pins s σ H Q I h
 refine wpAny_Call_Name_kw (rC I hg hm hv ?_ hn J)
 exact PyProof.Rows.callWith_builtin1 (thn (ha pos pins s σ H _ I h) λus s1 ⟨vs,H1,I1,r1,q1⟩=>hc pins s1 σ H1 vs us Q I1 r1 q1) he Y
theorem gx (hc:my X (.type T) r) (hg:Gl X x) (hm:X.mg x=none) (hv:bootBuiltins x=some (.type T)) (ha:PA X (e::es) t) (hn:x≠"__name__" :=by decide) (J:(x == ("__debug__" :Str))=false:=by decide)
 (he:starEach (e::es) X.env=(false,eval e X.env)::starEach es X.env:=by rfl) (Y:(backTo pos (starEach es X.env)).any (·.1)=false:=by rfl):PE X (.Call (.Name x p) (e::es) [] pos) (tCB r t):=by
 intro pins s σ H Q I h
 refine wpAny_Call_Name_kw (rC I hg hm hv ?_ hn J)
 exact T6 (thn (ha pos pins s σ H _ I h) λus s1 ⟨vs,H1,I1,r1,q1⟩=>hc pins s1 σ H1 vs us Q I1 r1 q1) he Y
end
end L2
namespace HT
open PySem PyProof.Rows
def lexLt:List Int->List Int->Bool
 | [],[]=>false
 | [],_::_=>true
 | _::_,[]=>false
 | x::xs,y::ys=>if x=y then lexLt xs ys else decide (x<y)
theorem pz(x y:Int)(xs ys:List Int):lexLt (x::xs) (y::ys)=if x=y then lexLt xs ys else decide (x<y):=rfl
theorem Jb(A:Around)(s:Shared)(a:Int)(t:Tok)(c:Int)(u:Tok):∃e,SeqAt.EqAt A s (.int a t) (.int c u) e/\(e=true↔a=c):=
 ⟨(a == c),SeqAt.EqAt.int_int a t c u,by simp⟩
theorem IE(A:Around)(s:Shared)(a:Int)(t:Tok)(c:Int)(u:Tok)(prog:Program)(w:World)(E:Value->Shared->Prop)(Q:Value->Shared->Prop)(h:Q (.bool (decide (a<c))) s):
 wpAny (model prog w) A (richCompare .Lt (.int a t) (.int c u)) Q E s:=
 (PyProof.Rows.lt_int h:wpAny (model prog w) A (compareOp .Lt (.int a t) (.int c u)) Q E s)
section
open PySem.SeqAt
open PySem.AutoSeq1 (wpAny_loadPart')
open PySem.MeetsSeq PySem.MeetsSeq2 PySem.MeetsSeq3
end
section
variable {prog : Program} {w : World} {A : Around} {E : Value → Shared → Prop} {s : Shared}
def sIx(n d:Nat):Option Int->Nat
 | none=>d
 | some v=>if v<0 then (v+(n:Int)).toNat else min v.toNat n
theorem Cu(n d:Nat):sIx n d none=d:=rfl
theorem DV(n d k:Nat):sIx n d (some (k:Int))=min k n:=by
 show (if (k:Int)<0 then ((k:Int)+(n:Int)).toNat else min (k:Int).toNat n)=min k n
 rw[if_neg (by omega),Ul]
end
end HT
namespace L2
open PySem PySem.Spec PyProof.Rows
abbrev TO:=St->Hp->(Option Int->Hp->Prop)->Prop
def PO(X:Cx)(e:Option Expr)(t:TO):Prop:=
 ∀(pins:List (Addr×Obj)) (s:Shared) (σ:St) (H:Hp) (Q:Option Int->Hp->Prop),Inv X pins σ H s->t σ H Q->
  wpAny (model X.prog X.w) X.A (evalPart e X.env) (λu s'=>∃o H',Inv X pins σ H' s'/\IsPart u o/\Q o H') X.xe s
def Ec:TO:=λ_ H Q=>Q none H
def Kv(t:TE):TO:=λσ H Q=>t σ H λx H1=>∃i,x=.int i/\Q (some i) H1
section
variable {X : Cx} {e : Expr} {te : TE} {lo hi : Option Expr} {tl th : TO} {pos p2 : Pos}
theorem pV:PO X none Ec:=by
 intro pins s σ H Q I h
 rw[evalPart_none]
 exact wpAny_pure ⟨none,H,I,.none,h⟩
theorem rh(h:PE X e te):PO X (some e) (Kv te):=by
 intro pins s σ H Q I J
 rw[evalPart_some]
 refine thn (h pins s σ H _ I J) λu s1 ⟨x,H1,I1,r1,q1⟩=> ?_
 obtain⟨i,rfl,q⟩:=q1
 obtain⟨t,rfl⟩:=r1
 exact⟨some i,H1,I1,.int i t,q⟩
def SlR(X:Cx)(r:V->Option Int->Option Int->Hp->VK->Prop):Prop:=
 ∀(pins:List (Addr×Obj)) (s:Shared) (σ:St) (H:Hp) (x:V) (v J Y:Value) (lo hi:Option Int) (sl:Addr) (Q:VK),Inv X pins σ H s->RelV x v->s.heap.IsSliceOf sl J Y .none->IsPart J lo->IsPart Y hi->r x lo hi H Q->
  ∃T id,typeLookup (.type T) "__getitem__" =pure (some (.builtin id))/\s.TypeIs v T/\wpAny (model X.prog X.w) X.A (getItem v (.ref sl)) (EP X pins σ Q) X.xe s
def tSl(r:V->Option Int->Option Int->Hp->VK->Prop)(te:TE)(tl th:TO):TE:=λσ H Q=>te σ H λx H1=>tl σ H1 λl H2=>th σ H2 λu J=>r x l u J Q
theorem sI{r:V->Option Int->Option Int->Hp->VK->Prop}(J:SlR X r)(Y:PE X e te)(hl:PO X lo tl)(hu:PO X hi th):PE X (.Subscript e (.Slice lo hi none p2) pos) (tSl r te tl th):=by
 intro pins s σ H Q I h
 refine Subscript_ (thn (Y pins s σ H _ I h) λv s1 ⟨x,H1,I1,r1,q1⟩=> ?_)
 refine wpAny_Slice (thn (hl pins s1 σ H1 _ I1 q1) λvl s2 ⟨l,H2,I2,pl,q2⟩=>thn (hu pins s2 σ H2 _ I2 q2) λvu s3 ⟨u,H3,I3,pu,q3⟩=> ?_)
 rw[evalPart_none]
 refine wpAny_pure ?_
 have I4:Inv X pins σ H3 {s3 with heap:=s3.heap.push {cls:=.type "slice",data:=.fields #[vl,vu,.none]}}:=I3.kept (t':=s3.toks) λb ob q=>Heap.get?_push_of_some _ q
 obtain⟨T,id,hT,ht,hg⟩:=J pins {s3 with heap:=s3.heap.push {cls:=.type "slice",data:=.fields #[vl,vu,.none]}} σ H3 x v vl vu l u s3.heap.objs.size Q I4 r1 (Heap.IsSliceOf.new ..) pl pu q3
 show wpAny (model X.prog X.w) X.A (subscriptTail e (.Slice lo hi none p2) v (.ref s3.heap.objs.size)) (EP X pins σ Q) X.xe {s3 with heap:=s3.heap.push {cls:=.type "slice",data:=.fields #[vl,vu,.none]}}
 exact tail_any (ops:=[.ref s3.heap.objs.size,v]) ht hT hg (by with_unfolding_all rfl)
def yf(xs:List V)(lo hi:Option Int):List V:=(xs.drop (HT.sIx xs.length 0 lo)).take (HT.sIx xs.length xs.length hi-HT.sIx xs.length 0 lo)
theorem CV(xs:List V)(lo hi:Option Int):(yf xs lo hi).length<=xs.length:=by
 unfold yf
 rw[TX,V7]
 omega
end
def ixN(n:Nat)(i:Int):Option Nat:=if 0<=i then (if i<n then some i.toNat else none) else if -(n:Int)<=i then some (i+n).toNat else none
def atI{α:Type}(xs:List α)(i:Int):Option α:=(ixN xs.length i).bind λj=>xs[j]?
theorem Eb{n:Nat}{i:Int}{j:Nat}(h:ixN n i=some j):seqIndex? i n=some j/\j<n/\ -(n:Int)<=i/\i<n:=by
 unfold ixN at h
 by_cases J:0<=i
 ·rw[if_pos J] at h
  by_cases h1:i<n
  ·rw[if_pos h1] at h
   have e:i.toNat=j:=Tt h
   exact⟨by rw[seqIndex_of J h1,e],by omega,by omega,h1⟩
  ·rw[if_neg h1] at h;cases h
 ·rw[if_neg J] at h
  by_cases h1: -(n:Int)<=i
  ·rw[if_pos h1] at h
   have e:(i+n).toNat=j:=Tt h
   exact⟨by rw[seqIndex_neg (by omega) h1,e],by omega,h1,by omega⟩
  ·rw[if_neg h1] at h;cases h
theorem yt{α:Type}{xs:List α}{i:Int}{v:α}(h:atI xs i=some v):∃j,seqIndex? i xs.length=some j/\xs[j]? =some v/\j<xs.length/\ -(xs.length:Int)<=i/\i<xs.length:=by
 unfold atI at h
 cases e:ixN xs.length i with
 | none=>rw[e] at h;cases h
 | some j=>
  rw[e] at h
  obtain⟨h1,h2,J,Y⟩:=Eb e
  exact⟨j,h1,h,h2,J,Y⟩
def Lm(b:Expr):Prop:=∀o i,subscripted b false o i=operate [o,i] (getItem o i)
def IxR(X:Cx)(r:R2):Prop:=
 ∀(value J:Expr) (pins:List (Addr×Obj)) (s:Shared) (σ:St) (H:Hp) (x y:V) (v u:Value) (Q:VK),Inv X pins σ H s->RelV x v->RelV y u->r x y H Q->
  subscripted J false v u=operate [v,u] (getItem v u)->wpAny (model X.prog X.w) X.A (subscriptTail value J v u) (EP X pins σ Q) X.xe s
def MtR(X:Cx)(id:String)(r:V->List V->Hp->VK->Prop):Prop:=
 ∀(pins:List (Addr×Obj)) (s:Shared) (σ:St) (H:Hp) (x:V) (xs:List V) (v:Value) (us:List Value) (Q:VK),Inv X pins σ H s->RelV x v->Vals xs us->r x xs H Q->
  wpAny (model X.prog X.w) X.A (call (.builtin id) (v::us)) (EP X pins σ Q) X.xe s
section
variable {X : Cx} {a b : Expr} {ta tb : TE} {pos : Pos}
theorem IxR.or{r Y:R2}(h:IxR X r)(h':IxR X Y):IxR X (λx y H Q=>r x y H Q\/Y x y H Q):=by
 intro value J pins s σ H x y v u Q I rx ry q hs
 rcases q with q | q
 ·exact h value J pins s σ H x y v u Q I rx ry q hs
 ·exact h' value J pins s σ H x y v u Q I rx ry q hs
theorem bD{r:R2}(J:IxR X r)(ha:PE X a ta)(hb:PE X b tb)(Y:Lm b):PE X (.Subscript a b pos) (tOp r ta tb):=by
 intro pins s σ H Q I h
 exact Subscript_ (IS ha hb I h λv u s2 x y H2 I2 rx ry q=>J a b pins s2 σ H2 x y v u Q I2 rx ry q (Y _ _))
def Nx(K:R4):R2:=λx y H Q=>∃p xs i v,x=.ref p/\y=.int i/\SqL K H p xs/\atI xs i=some v/\Q v H
def NK(K:R4):R2:=λx y H Q=>∃p xs i v,x=.ref p/\y=.int i/\SqT K H p xs/\atI xs i=some v/\Q v H
def MH:R2:=λx y H Q=>∃z i c,x=.str z/\y=.int i/\z.length<=sizeLine/\atI z.cps.toList i=some c/\Q (.str ⟨#[c]⟩) H
theorem KO:IxR X (Nx X.K):=by
 intro value Y pins s σ H x y v u Q I rx ry h hs
 obtain⟨p,xs,i,z,rfl,rfl,hq,he,q⟩:=h
 cases rx
 obtain⟨t,rfl⟩:=ry
 obtain⟨ab,r,pl,hz⟩:=I.list hq
 obtain⟨j,h1,h2,h3,h4,h5⟩:=yt he
 obtain⟨w,ew,ac⟩:=r.get h2
 have hl:=r.length
 have hn:=rg
 have J:EP X pins σ Q w s:=⟨z,H,I,ac,q⟩
 by_cases h0:0<=i
 ·have hj:i.toNat=j:=by
   rw[seqIndex_of h0 h5] at h1
   exact Tt h1
  exact item_listR pl.isList h0 (by omega) (by rw[hj];simpa using ew) J hs
 ·have hj:(i+(ab.toArray.size:Int)).toNat=j:=by
   rw[seqIndex_neg (by omega) h4] at h1
   rw[Sq,<- hl]
   exact Tt h1
  exact subscriptTail_builtinR (x:=w) pl.isList.typeIs slot_list_getitem.lookup
   (wpAny_getItem_list_neg (Q:=λr s'=>r=w/\EP X pins σ Q r s') pl.isList (by omega) (by rw[Sq] <;> omega) (by omega) (by rw[hj];simpa using ew) ⟨rfl,J⟩) hs
theorem Nn:IxR X (NK X.K):=by
 intro value J pins s σ H x y v u Q I rx ry h hs
 obtain⟨p,xs,i,z,rfl,rfl,hq,he,q⟩:=h
 cases rx
 obtain⟨t,rfl⟩:=ry
 obtain⟨as,r,pl,hz⟩:=I.tuple hq
 obtain⟨j,h1,h2,h3,h4,h5⟩:=yt he
 obtain⟨w,ew,Y⟩:=r.get h2
 have hl:=r.length
 have hn:=rg
 have ab:EP X pins σ Q w s:=⟨z,H,I,Y,q⟩
 exact subscriptTail_builtinR (x:=w) pl.typeIs slot_tuple_getitem.lookup
  (getItem_tuple (j:=j) (Q:=λr s'=>r=w/\EP X pins σ Q r s') pl (by omega) (by omega) (by rw[Sq,<- hl];exact h1) (by simpa using ew) ⟨rfl,ab⟩) hs
theorem NP:IxR X MH:=by
 intro value J pins s σ H x y v u Q I Y ry h hs
 obtain⟨z,i,c,rfl,rfl,hz,he,q⟩:=h
 obtain⟨t,rfl⟩:=Y
 obtain⟨t',rfl⟩:=ry
 obtain⟨j,h1,h2,h3,h4,h5⟩:=yt he
 have hl:z.cps.toList.length=z.length:=by simp[Str.length]
 rw[hl] at h1 h4 h5
 have hn:=rg
 exact tail_any (typeIs_str s z t) slot_str_getitem.lookup (getItem_str (c:=c) (by
  have e1:decide (i < -(2^63:Int))=false:=decide_eq_false (by omega)
  have e2:decide (i ≥ 2^63)=false:=decide_eq_false (by omega)
  rw[e1,e2,U8]) (by rw[h1];simpa using h2) ⟨.str ⟨#[c]⟩,H,I.tok _,⟨_,rfl⟩,q⟩) hs
def rIx(K:R4):R2:=λx y H Q=>Nx K x y H Q\/NK K x y H Q\/MH x y H Q
theorem br:IxR X (rIx X.K):=KO.or (Nn.or NP)
theorem Fq(J:List Value)(n j:Nat)(u:Value):Obj.mapSeq (·.setIfInBounds j u) {cls:=.type "list",data:=.seq J.toArray n}={cls:=.type "list",data:=.seq (J.set j u).toArray n}:=by
 simp[Obj.mapSeq]
theorem Inv.lst{pins:List (Addr×Obj)}{σ:St}{H:Hp}{s:Shared}{p:Addr}{xs:List V}(I:Inv X pins σ H s)(h:H p=some (.lst xs)):
 ∃(J:List Value) (n:Nat),Vals xs J/\s.heap.get? p=some {cls:=.type "list",data:=.seq J.toArray n}/\xs.length<=sizeLine:=by
 obtain⟨z,J,n,r,e⟩:=I.hok p _ h
 exact⟨J,n,r,e,z⟩
theorem Inv.lstUpd {pins:List (Addr×Obj)} {σ:St} {H:Hp} {s:Shared} {p:Addr} {xs ys:List V} {J its':List Value} {n Y:Nat} {f:Obj->Obj} (I:Inv X pins σ H s) (h:H p=some (.lst xs))
 (ho:s.heap.get? p=some {cls:=.type "list",data:=.seq J.toArray n}) (hf:f {cls:=.type "list",data:=.seq J.toArray n}={cls:=.type "list",data:=.seq its'.toArray Y}) (r:Vals ys its') (hz:ys.length<=sizeLine) (t:Nat):
 Inv X pins σ (upd H p (.lst ys)) {s with heap:=s.heap.update p f,toks:=t}:=by
 have e:(s.heap.update p f).get? p=some {cls:=.type "list",data:=.seq its'.toArray Y}:=by
  rw[Heap.get?_update_self f ho (by rw[hf] <;> rfl),hf]
 refine I.write (x:=p) (e:=p) (by rw[h];trivial) (.inl rfl) (λb u hb q=>(Heap.get?_update_other _ _ (UN hb)).trans q) ⟨_,e⟩ ?_
 exact⟨hz,its',Y,r,e⟩
def Kx:V->V->V->Hp->(Hp->Prop)->Prop:=λo i v H Q=>∃p xs k j,o=.ref p/\i=.int k/\H p=some (.lst xs)/\ixN xs.length k=some j/\Q (upd H p (.lst (xs.set j v)))
theorem set_list:MG X Kx:=by
 intro pins s σ H o i v ov iv u Q I ro ri rv h
 obtain⟨p,xs,k,j,rfl,rfl,hp,hj,q⟩:=h
 cases ro
 obtain⟨t,rfl⟩:=ri
 obtain⟨J,n,r,Y,hz⟩:=I.lst hp
 obtain⟨h1,h2,h3,h4⟩:=Eb hj
 have hl:=r.length
 have hn:=rg
 have I':Inv X pins σ (upd H p (.lst (xs.set j v))) {s with heap:=s.heap.update p (Obj.mapSeq (·.setIfInBounds j u))}:=
  I.lstUpd hp Y (Fq J n j u) (r.set rv j) (by rw[List.length_set];exact hz) s.toks
 by_cases h0:0<=k
 ·have hk:k.toNat=j:=by
   rw[seqIndex_of h0 h4] at h1
   exact Tt h1
  exact PySem.W.ki_setAt Y h0 (by omega) (by rw[Sq,<- hl];exact h4) (by rw[hk];exact⟨_,I',q⟩)
 ·have hk:(k+(J.toArray.size:Int)).toNat=j:=by
   rw[seqIndex_neg (by omega) h3] at h1
   rw[Sq,<- hl]
   exact Tt h1
  exact PySem.W.ki_setBack Y (by omega) (by rw[Sq,<- hl];exact h3) (by omega) (by rw[hk];exact⟨_,I',q⟩)
theorem Bm(lo hi:Option Int)(n:Nat):(sliceBounds lo hi none n).1=((HT.sIx n 0 lo:Nat):Int)/\(sliceBounds lo hi none n).2.1=((HT.sIx n n hi:Nat):Int)/\(sliceBounds lo hi none n).2.2=1:=by
 refine⟨?_, ?_,rfl⟩
 ·cases lo with
  | none=>simp[sliceBounds,HT.sIx]
  | some i=>
   simp only[sliceBounds,HT.sIx,V8,show (1:Int)>0 by decide,if_true]
   by_cases h:i<0
   ·simp only[h,if_true] <;> omega
   ·simp only[h,if_false] <;> omega
 ·cases hi with
  | none=>simp[sliceBounds,HT.sIx]
  | some i=>
   simp only[sliceBounds,HT.sIx,V8,show (1:Int)>0 by decide,if_true]
   by_cases h:i<0
   ·simp only[h,if_true] <;> omega
   ·simp only[h,if_false] <;> omega
theorem Ak(J:List Value)(lo hi:Option Int):slicePick J.toArray lo hi none=((J.drop (HT.sIx J.length 0 lo)).take (HT.sIx J.length J.length hi-HT.sIx J.length 0 lo)).toArray:=by
 obtain⟨h1,h2,Y⟩:=Bm lo hi J.toArray.size
 unfold slicePick
 rw[h1,h2,Y]
 simp only[sliceRange_one,pick_run,Sq] <;> rfl
def NX(K:R4):V->Option Int->Option Int->Hp->VK->Prop:=λx lo hi H Q=>∃a xs,x=.ref a/\SqL K H a xs/\∀p,H p=none->Q (.ref p) (upd H p (.lst (yf xs lo hi)))
theorem D3:SlR X (NX X.K):=by
 intro pins s σ H x v vl vu lo hi sl Q I rx hs pl pu h
 obtain⟨a,xs,rfl,hx,q⟩:=h
 cases rx
 obtain⟨an,r,Y,hz⟩:=I.list hx
 have J:=r.length
 refine⟨"list",_,slot_list_getitem.lookup,Y.isList.typeIs, ?_⟩
 refine wpAny_getItem_list_slice Y.isList hs pl pu .none (by simp) ?_ (by rw[Sq] <;> omega)
 rw[Ak,<- J]
 refine⟨.ref s.heap.objs.size,_,I.laid (t':=s.toks) (o:=.lst (yf xs lo hi)) (λb ob q=>Heap.get?_push_of_some _ q) (Si _) ?_,rfl,q _ (I.hok.fresh (Si _))⟩
 exact⟨S4 (CV xs lo hi) hz,_,0,(r.drop (HT.sIx xs.length 0 lo)).take (HT.sIx xs.length xs.length hi-HT.sIx xs.length 0 lo),Heap.get?_push_size _ rfl⟩
def ow:V->Bool
 | .non=>true
 | .bl _=>true
 | .int _=>true
 | .str _=>true
 | _=>false
def eqV:V->V->Bool
 | .non,.non=>true
 | .bl a,.bl b=>a == b
 | .bl a,.int b=>(if a then 1 else 0) == b
 | .int a,.bl b=>a == (if b then 1 else 0)
 | .int a,.int b=>a == b
 | .str a,.str b=>a == b
 | _,_=>false
theorem NY{A:Around}{s:Shared}{y x:V}{u v:Value}(ry:RelV y u)(J:RelV x v)(fy:ow y=true)(fx:ow x=true):SeqAt.EqAt A s u v (eqV y x):=by
 cases y with
 | non=>
  cases ry
  cases x with
  | non=>cases J;exact SeqAt.EqAt.same _
  | bl b=>cases J;exact SeqAt.EqAt.none_bool b
  | int b=>obtain⟨t,rfl⟩:=J;exact SeqAt.EqAt.none_int b t
  | str b=>obtain⟨t,rfl⟩:=J;exact SeqAt.EqAt.none_str b t
  | _=>exact absurd (show false=true from fx) SD
 | bl a=>
  cases ry
  cases x with
  | non=>cases J;exact SeqAt.EqAt.bool_none a
  | bl b=>cases J;exact SeqAt.EqAt.bool_bool a b
  | int b=>obtain⟨t,rfl⟩:=J;exact SeqAt.EqAt.bool_int a b t
  | str b=>obtain⟨t,rfl⟩:=J;exact SeqAt.EqAt.bool_str a b t
  | _=>exact absurd (show false=true from fx) SD
 | int a=>
  obtain⟨Y,rfl⟩:=ry
  cases x with
  | non=>cases J;exact SeqAt.EqAt.int_none a Y
  | bl b=>cases J;exact SeqAt.EqAt.int_bool a Y b
  | int b=>obtain⟨t,rfl⟩:=J;exact SeqAt.EqAt.int_int a Y b t
  | str b=>obtain⟨t,rfl⟩:=J;exact SeqAt.EqAt.int_str a Y b t
  | _=>exact absurd (show false=true from fx) SD
 | str a=>
  obtain⟨Y,rfl⟩:=ry
  cases x with
  | non=>cases J;exact SeqAt.EqAt.str_none a Y
  | bl b=>cases J;exact SeqAt.EqAt.str_bool a Y b
  | int b=>obtain⟨t,rfl⟩:=J;exact SeqAt.EqAt.str_int a Y b t
  | str b=>obtain⟨t,rfl⟩:=J;exact SeqAt.EqAt.str_str a Y b t
  | _=>exact absurd (show false=true from fx) SD
 | _=>exact absurd (show false=true from fy) SD
def eqU(x:V)(u:Value):Bool:=match u with
 | .none=>eqV .non x
 | .bool b=>eqV (.bl b) x
 | .int i _=>eqV (.int i) x
 | .str z _=>eqV (.str z) x
 | _=>false
theorem Gp{x y:V}{u:Value}(r:RelV y u)(f:ow y=true):eqU x u=eqV y x:=by
 cases y with
 | non=>cases r;rfl
 | bl b=>cases r;rfl
 | int i=>obtain⟨t,rfl⟩:=r;rfl
 | str z=>obtain⟨t,rfl⟩:=r;rfl
 | _=>exact absurd (show false=true from f) SD
theorem rk{x:V}:∀{xs:List V} {us:List Value},Vals xs us->xs.all ow=true->us.any (eqU x)=xs.any λy=>eqV y x
 | _,_,.nil,_=>rfl
 | y::xs,u::us,.cons r t,f=>by
  rw[UL,To] at f
  rw[Ux,Ux,Gp r f.1,rk t f.2]
theorem p9{A:Around}{s:Shared}{x:V}{v:Value}(J:RelV x v)(Y:ow x=true):∀{xs:List V} {us:List Value},Vals xs us->xs.all ow=true->∀u∈us,SeqAt.EqAt A s u v (eqU x u)
 | _,_,.nil,_=>λu hu=>by cases hu
 | y::xs,u::us,.cons r t,f=>λu' hu=>by
  rw[UL,To] at f
  rcases SA.mp hu with rfl | hu
  ·rw[Gp r f.1];exact NY r J f.1 Y
  ·exact p9 J Y t f.2 u' hu
def inV(x:V)(xs:List V):Bool:=xs.any λy=>eqV y x
def rIn(K:R4)(neg:Bool):R2:=λx y H Q=>∃p xs,y=.ref p/\(SqL K H p xs\/SqT K H p xs)/\ow x=true/\xs.all ow=true/\Q (.bl (if neg then !inV x xs else inV x xs)) H
theorem yX:OpR X (compareOp .In) (rIn X.K false):=by
 intro pins s σ H x y v u Q I rx ry h
 obtain⟨p,xs,rfl,hq,fx,fs,q⟩:=h
 cases ry
 rcases hq with hq | hq
 ·obtain⟨J,r,pl,hz⟩:=I.list hq
  refine SeqAt.in_listAt (eqU x) pl.isList (λw Y=>p9 rx fx r fs w (by simpa using Y)) ⟨.bl _,H,I,rfl, ?_⟩
  rw[show J.toArray.any (eqU x)=J.any (eqU x) by simp,rk r fs]
  exact q
 ·obtain⟨J,r,pl,hz⟩:=I.tuple hq
  refine SeqAt.in_tupleAt (eqU x) pl (λw Y=>p9 rx fx r fs w (by simpa using Y)) ⟨.bl _,H,I,rfl, ?_⟩
  rw[show J.toArray.any (eqU x)=J.any (eqU x) by simp,rk r fs]
  exact q
theorem BZ:OpR X (compareOp .NotIn) (rIn X.K true):=by
 intro pins s σ H x y v u Q I rx ry h
 obtain⟨p,xs,rfl,hq,fx,fs,q⟩:=h
 cases ry
 rcases hq with hq | hq
 ·obtain⟨J,r,pl,hz⟩:=I.list hq
  refine SeqAt.notIn_listAt (eqU x) pl.isList (λw Y=>p9 rx fx r fs w (by simpa using Y)) ⟨.bl _,H,I,rfl, ?_⟩
  rw[show J.toArray.any (eqU x)=J.any (eqU x) by simp,rk r fs]
  exact q
 ·obtain⟨J,r,pl,hz⟩:=I.tuple hq
  refine SeqAt.notIn_tupleAt (eqU x) pl (λw Y=>p9 rx fx r fs w (by simpa using Y)) ⟨.bl _,H,I,rfl, ?_⟩
  rw[show J.toArray.any (eqU x)=J.any (eqU x) by simp,rk r fs]
  exact q
theorem gv:my X (.type "list") (λxs H Q=>∃p ys,xs=[.ref p]/\(SqL X.K H p ys\/SqT X.K H p ys)/\∀l,H l=none->Q (.ref l) (upd H l (.lst ys))):=by
 intro pins s σ H xs us Q I r h
 obtain⟨p,ys,rfl,hq,q⟩:=h
 obtain⟨u,rfl,rx⟩:=vals1 r
 cases rx
 have ac:∀(J:List Value),Vals ys J->ys.length<=sizeLine->∀(h':Heap) (Y:Nat),(∀b o',s.heap.get? b=some o'->h'.get? b=some o')->
  h'.get? s.heap.objs.size=some {cls:=.type "list",dict:=none,data:=.seq J.toArray Y,slots:= #[]}->EP X pins σ Q (.ref s.heap.objs.size) {s with heap:=h'}:=λJ r' hz h' Y kp e=>
  ⟨.ref s.heap.objs.size,_,I.laid (t':=s.toks) kp (Si _) (show iY X.prog X.w _ h' _ (.lst ys) from ⟨hz,J,Y,r',e⟩),rfl,q _ (I.hok.fresh (Si _))⟩
 rcases hq with hq | hq
 ·obtain⟨J,r',pl,hz⟩:=I.list hq
  have am:=r'.length
  obtain⟨o,ho,hc,n,hd⟩:=pl.isList
  exact call_list_seq p (.inl rfl) ho hc hd (λh' Y kp e=>ac J r' hz h' Y kp e) (by simp only[Sq] <;> omega)
 ·obtain⟨J,r',pl,hz⟩:=I.tuple hq
  have am:=r'.length
  obtain⟨o,ho,hc,n,hd⟩:=pl
  exact call_list_seq p (.inr rfl) ho hc hd (λh' Y kp e=>ac J r' hz h' Y kp e) (by simp only[Sq] <;> omega)
def tyV(K:R4)(T:String)(x:V)(H:Hp):Prop:=match x with
 | .str _=>T="str"
 | .int _=>T="int"
 | .ref p=>(T="list" /\∃xs,SqL K H p xs)\/(T="tuple" /\∃o,K.lookup p=some o/\o.cls=.type "tuple" /\o.dict=none)\/
  (T="dict" /\((∃J,H p=some (.dK J))\/∃J,H p=some (.dT J)))\/(T="set" /\∃S n,H p=some (.set S n))
 | _=>False
theorem GX{pins:List (Addr×Obj)}{σ:St}{H:Hp}{s:Shared}{T:String}{x:V}{v:Value}(I:Inv X pins σ H s)(r:RelV x v)(ty:tyV X.K T x H):
 s.TypeIs v T/\∀a,v=.ref a->∃Y,s.heap.get? a=some Y/\Y.dict=none:=by
 cases x with
 | str z=>
  obtain⟨t,rfl⟩:=r
  cases (show T="str" from ty)
  exact⟨typeIs_str s z t,λ_ e=>nomatch e⟩
 | int i=>
  obtain⟨t,rfl⟩:=r
  cases (show T="int" from ty)
  exact⟨typeIs_int s i t,λ_ e=>nomatch e⟩
 | ref p=>
  cases r
  rcases ty with⟨rfl,xs,hq⟩ | ⟨rfl,o,hk,hc,hd⟩ | ⟨rfl,hk⟩ | ⟨rfl,S,n,hk⟩
  ·obtain⟨ab,_,pl,_⟩:=I.list hq
   refine⟨pl.isList.typeIs,λa e=> ?_⟩
   cases e
   obtain⟨o,n,e,c,hd,_⟩:=pl
   exact⟨o,e,hd⟩
  ·refine⟨⟨o,I.kIn p o hk,hc⟩,λa e=> ?_⟩
   cases e
   exact⟨o,I.kIn _ o hk,hd⟩
  ·have z:∃o,s.heap.get? p=some o/\o.ExactDict:=by
    rcases hk with⟨J,hk⟩ | ⟨J,hk⟩
    ·obtain⟨_,_,_,_,o,_,_,e,ex,_⟩:=I.hok p _ hk
     exact⟨o,e,ex⟩
    ·obtain⟨_,_,_,_,o,_,_,e,ex,_⟩:=I.hok p _ hk
     exact⟨o,e,ex⟩
   obtain⟨o,e,ex⟩:=z
   refine⟨⟨o,e,ex.1⟩,λa e2=> ?_⟩
   cases e2
   exact⟨o,e,ex.2.1⟩
  ·obtain⟨o,_,_,_,e,ex,_⟩:=I.hok p _ hk
   refine⟨⟨o,e,ex.1⟩,λa e2=> ?_⟩
   cases e2
   exact⟨o,e,ex.2.1⟩
 | _=>exact R5 ty
def IV(K:R4)(T:String)(r:V->List V->Hp->VK->Prop)(to:TE):TE:=λσ H Q=>to σ H λx H1=>tyV K T x H1/\r x [] H1 Q
def tBM(K:R4)(T:String)(r:V->List V->Hp->VK->Prop)(to:TE)(t:TA):TE:=λσ H Q=>to σ H λx H1=>tyV K T x H1/\t σ H1 λxs H2=>r x xs H2 Q
variable {o e : Expr} {es : List Expr} {to : TE} {t : TA} {name : Str} {apos cpos : Pos} {T id : String} {r : V → List V → Hp → VK → Prop}
theorem MY (pa:PlainAttrs T) (slot:Slot T name id) (ab:typeOf (.builtin id)=pure (.type "method_descriptor")) (hm:MtR X id r) (ho:PE X o to)
 (J:attributeBase o name X.env (eval o X.env)=eval o X.env:=by rfl) (Y:(apos.endLine == cpos.line)=true:=by rfl):PE X (.Call (.Attribute o name apos) [] [] cpos) (IV X.K T r to):=by
 intro pins s σ H Q I h
 refine wpAny_Call_method0_late J Y (thn (ho pins s σ H _ I h) λv s1 ⟨x,H1,I1,r1,ty,q1⟩=> ?_)
 obtain⟨h1,h2⟩:=GX I1 r1 ty
 exact⟨T,id,pa,slot,ab,h1,h2,Calls.callWith_builtin rfl (PySem.evalArgs_none (hm pins s1 σ H1 x [] v [] Q I1 r1 .nil q1))⟩
theorem jH (pa:PlainAttrs T) (slot:Slot T name id) (am:typeOf (.builtin id)=pure (.type "method_descriptor")) (hm:MtR X id r) (ho:PE X o to) (ha:PA X (e::es) t)
 (Y:attributeBase o name X.env (eval o X.env)=eval o X.env:=by rfl)
 (ac:((backTo cpos (starEach (e::es) X.env)).all (λx=> !x.1)&&(backToKw cpos (keywordEach [] X.env)).all (λx=>x.1.isSome)
  &&decide ((e::es).length+([]:List Keyword).length+(if ([]:List Keyword).isEmpty then 0 else 1)<30))=true:=by rfl)
 (ab:(apos.endLine == cpos.line)=true:=by rfl) (hs:starEach (e::es) X.env=(false,eval e X.env)::starEach es X.env:=by rfl) (J:(backTo cpos (starEach es X.env)).any (·.1)=false:=by rfl):
 PE X (.Call (.Attribute o name apos) (e::es) [] cpos) (tBM X.K T r to t):=by
 intro pins s σ H Q I h
 refine wpAny_Call_method_late Y ac ab rfl (thn (ho pins s σ H _ I h) λv s1 ⟨x,H1,I1,r1,ty,q1⟩=> ?_)
 obtain⟨h1,h2⟩:=GX I1 r1 ty
 refine⟨T,id,pa,slot,am,h1,h2, ?_⟩
 have hA:=ha cpos pins s1 σ H1 _ I1 q1
 rw[hs] at hA ⊢
 refine Calls.callWith_builtin (by show (false||(backTo cpos (starEach es X.env)).any (·.1))=false;rw[J] <;> rfl) (Calls.evalArgs_plain ?_)
 exact thn hA λus s2 ⟨vs,H2,I2,r2,q2⟩=>hm pins s2 σ H2 x vs v us Q I2 r1 r2 q2
end
def MtM(X:Cx)(id:String)(r:V->List V->Hp->VK->Prop):Prop:=
 ∀(pins:List (Addr×Obj)) (s:Shared) (σ:St) (H:Hp) (x:V) (xs:List V) (v:Value) (us:List Value) (Q:VK),Inv X pins σ H s->RelV x v->Vals xs us->r x xs H Q->
  wpAny (model X.prog X.w) X.A (call (.builtin id) (v::us)) (EP X pins σ Q) X.xe s
theorem Vals.one:∀{x:V} {us:List Value},Vals [x] us->∃u,us=[u]/\RelV x u
 | _,_,.cons r .nil=>⟨_,rfl,r⟩
theorem Vals.zero:∀{us:List Value},Vals [] us->us=[]
 | _,.nil=>rfl
theorem Vals.dropLast{xs:List V}{us:List Value}(h:Vals xs us):Vals xs.dropLast us.dropLast:=by
 induction h with
 | nil=>exact .nil
 | cons r t J=>
  cases t with
  | nil=>exact .nil
  | cons q Y=>exact .cons r J
theorem Vals.rep{xs:List V}{us:List Value}(h:Vals xs us):∀k:Nat,Vals (Sb k xs).flatten (Sb k us).flatten
 | 0=>.nil
 | k+1=>by
  rw[Td,Td,TV,TV]
  exact Vals.append h (Vals.rep h k)
theorem Fv{α:Type}(l:List α):l.eraseIdx (l.length-1)=l.dropLast:=by
 induction l with
 | nil=>rfl
 | cons a r J=>
  cases r with
  | nil=>rfl
  | cons b r=>
   have e:(a::b::r).length-1=((b::r).length-1)+1:=by
    have h1:(a::b::r).length=r.length+2:=rfl
    have h2:(b::r).length=r.length+1:=rfl
    omega
   rw[e,List.eraseIdx_cons_succ,J]
   all_goals rfl
theorem foldl_rep(J:List Value):∀(k:Nat) (Y:List Value),
 Wf (λx1 x2=>x1++x2) Y.toArray (Sb k J.toArray)=(Y++(Sb k J).flatten).toArray
 | 0,Y=>by simp
 | k+1,Y=>by
  have e:Y.toArray++J.toArray=(Y++J).toArray:=by simp
  have e2:(Y++J)++(Sb k J).flatten=Y++(Sb (k+1) J).flatten:=by
   rw[Td,TV,S7]
  rw[<- e2,<- foldl_rep J k (Y++J),<- e,Td,T9]
section
variable {X : Cx} {pins : List (Addr × Obj)} {σ : St} {H : Hp} {s : Shared} {l b : Addr} {xs ys zs : List V}
theorem Inv.lset {J its':List Value} {n:Nat} {f:Array Value->Array Value} {t':Nat} (I:Inv X pins σ H s) (Y:H l=some (.lst xs))
 (e:s.heap.get? l=some {cls:=.type "list",data:=.seq J.toArray n}) (hf:f J.toArray=its'.toArray) (hv:Vals ys its') (hz:ys.length<=sizeLine):
 Inv X pins σ (upd H l (.lst ys)) {s with heap:=s.heap.update l (Obj.mapSeq f),toks:=t'}:=by
 have q:=PySem.IsL.update e f
 rw[hf] at q
 refine I.write (x:=l) (e:=l) (by rw[Y];exact trivial) (.inl rfl) (λb' u hb hu=>(Heap.get?_update_other s.heap (Obj.mapSeq f) (UN hb)).trans hu) ⟨_,q⟩ ?_
 exact⟨hz,its',_,hv,q⟩
theorem Inv.lnew{J:List Value}{t':Nat}(I:Inv X pins σ H s)(Y:Vals ys J)(hz:ys.length<=sizeLine):
 Inv X pins σ (upd H s.heap.objs.size (.lst ys)) {s with heap:=s.heap.push {cls:=.type "list",data:=.seq J.toArray},toks:=t'}:=
 I.laid (λ_ _ q=>Heap.get?_push_of_some _ q) (Si _) ⟨hz,J,0,Y,Heap.get?_push_size _ rfl⟩
theorem Inv.fresh(I:Inv X pins σ H s):H s.heap.objs.size=none:=I.hok.fresh (Si _)
theorem Inv.lstM(I:Inv X pins σ H s)(Y:H l=some (.lst xs)):xs.length<=sizeLine/\∃(J:List Value) (n:Nat),Vals xs J/\xs.length=J.length/\s.heap.get? l=some {cls:=.type "list",data:=.seq J.toArray n}:=by
 obtain⟨z,J,n,r,e⟩:=I.hok l _ Y
 exact⟨z,J,n,r,r.length,e⟩
theorem Jc{n:Nat}(h:n<=sizeLine):Builtin.List.listTooLong n=false:=by
 unfold Builtin.List.listTooLong
 exact decide_eq_false (by omega)
end
section
variable {X : Cx}
def D1:V->List V->Hp->VK->Prop:=λx vs H Q=>∃l xs y,x=.ref l/\vs=[y]/\H l=some (.lst xs)/\xs.length<sizeLine/\Q .non (upd H l (.lst (xs++[y])))
theorem d5:MtM X "list.append" D1:=by
 intro pins s σ H x vs v us Q I rx rv h
 obtain⟨l,xs,y,rfl,rfl,Y,hz,q⟩:=h
 cases rx
 obtain⟨u,rfl,ru⟩:=rv.one
 obtain⟨z,J,n,r,hl,e⟩:=I.lstM Y
 refine call_meets F.slot_list_append ⟨_,e,rfl⟩ F.entry_list_append (F.args_list_append_2 _ _) (PySem.list_append l J.toArray n u (by rw[Sq];omega)) ⟨e, ?_⟩
 refine⟨.non,_,I.lset (its':=J++[u]) Y e (by simp) (r.append (.cons ru .nil)) ?_,rfl,q⟩
 rw[SH,SN]
 omega
def P4:V->List V->Hp->VK->Prop:=λx vs H Q=>∃l xs y,x=.ref l/\vs=[]/\H l=some (.lst xs)/\xs[xs.length-1]? =some y/\Q y (upd H l (.lst xs.dropLast))
theorem QX:MtM X "list.pop" P4:=by
 intro pins s σ H x vs v us Q I rx rv h
 obtain⟨l,xs,y,rfl,rfl,hH,hy,q⟩:=h
 cases rx
 have Y:=rv.zero
 subst Y
 obtain⟨z,J,n,r,hl,e⟩:=I.lstM hH
 obtain⟨u,hu,ru⟩:=r.get hy
 have ab:J.toArray[J.toArray.size-1]? =some u:=by
  show J.toArray[J.length-1]? =some u
  rw[<- Up,<- hl]
  exact hu
 refine call_meets F.slot_list_pop ⟨_,e,rfl⟩ F.entry_list_pop (F.args_list_pop_1 _) (MeetsSeq.list_pop_last l J.toArray n u ab (by rw[Sq];omega)) ⟨e, ?_⟩
 refine⟨y,_,I.lset (its':=J.dropLast) hH e ?_ r.dropLast ?_,ru,q⟩
 ·show J.toArray.eraseIdxIfInBounds (J.toArray.size-1)=J.dropLast.toArray
  rw[Sq,List.eraseIdxIfInBounds_toArray,Fv]
 ·rw[List.length_dropLast]
  omega
def GQ:V->List V->Hp->VK->Prop:=λx vs H Q=>∃l xs,x=.ref l/\vs=[]/\H l=some (.lst xs)/\Q .non (upd H l (.lst []))
theorem IF:MtM X "list.clear" GQ:=by
 intro pins s σ H x vs v us Q I rx rv h
 obtain⟨l,xs,rfl,rfl,hH,q⟩:=h
 cases rx
 have J:=rv.zero
 subst J
 obtain⟨z,Y,n,r,hl,e⟩:=I.lstM hH
 refine call_meets F.slot_list_clear ⟨_,e,rfl⟩ F.entry_list_clear (F.args_list_clear_1 _) (AutoSeq1.list_clear_list_0 l Y.toArray n (by rw[Sq];omega)) ⟨e, ?_⟩
 exact⟨.non,_,I.lset (its':=[]) (ys:=[]) hH e rfl .nil (S1 _),rfl,q⟩
def IP:R2:=λx y H Q=>∃l k xs,x=.ref l/\y=.int k/\H l=some (.lst xs)/\ -(2^63)<=k/\k<2^63/\xs.length*k.toNat<=sizeLine/\
 ∀p,H p=none->Q (.ref p) (upd H p (.lst (Sb k.toNat xs).flatten))
theorem len_rep{α:Type}(xs:List α)(k:Nat):(Sb k xs).flatten.length=k*xs.length:=by
 induction k with
 | zero=>simp
 | succ k J=>rw[Td,TV,SH,J,Nat.succ_mul,Nat.add_comm]
theorem N4:OpR X (binaryOp .Mult) IP:=by
 intro pins s σ H x y v u Q I rx ry h
 obtain⟨l,k,xs,rfl,rfl,hH,h1,h2,hz,q⟩:=h
 cases rx
 obtain⟨t,rfl⟩:=ry
 obtain⟨z,J,n,r,hl,e⟩:=I.lstM hH
 have ab:J.toArray.size*k.toNat<=sizeLine:=by rw[Sq,<- hl];exact hz
 have ac:¬J.toArray.size*k.toNat>(2^63-1)/8:=by
  have:(sizeLine:Nat)<=(2^63-1)/8:=by decide
  omega
 have am:¬(!Builtin.List.listFitsIndex k)=true:=by
  rw[fitsIndex_both h1 h2]
  exact SD
 have Y:¬Builtin.List.listTooLong (J.toArray.size*k.toNat)=true:=by
  rw[Jc ab]
  exact SD
 have an:Wf (λx1 x2=>x1++x2) #[] (Sb (if J.toArray.isEmpty=true then 0 else k.toNat) J.toArray)=(Sb k.toNat J).flatten.toArray:=by
  have f0:∀m:Nat,Wf (λx1 x2=>x1++x2) #[] (Sb m J.toArray)=(Sb m J).flatten.toArray:=λm=>by
   have:=foldl_rep J m []
   rw[SE] at this
   exact this
  rw[f0]
  cases J with
  | nil=>simp
  | cons a r'=>rw[if_neg (by simp)]
 refine wpAny_binaryOp_repeat_ref (T:="list") (U:="int") (by decide) ⟨_,e,rfl⟩ (λs'=>typeIs_int s' k t) noFill_list_mul F.fills_int_mul F.slot_int_rmul repeat_list F.slot_int_index.lookup
  (call_meets F.slot_int_rmul (typeIs_int s k t) F.entry_int_rmul (F.args_int_rmul_2 _ _) (int___rmul___int_list k t l J.toArray n)
   ⟨e,rfl,⟨_,e,rfl⟩,call_meets F.slot_list_mul ⟨_,e,rfl⟩ F.entry_list_mul (F.args_list_mul_2 _ _) (AutoListH.list___mul___list_int_3 l J.toArray n k t am ac Y) ⟨e, ?_⟩⟩)
 rw[an]
 exact⟨.ref _,_,I.lnew (t':=s.toks) (r.rep k.toNat) (by rw[len_rep,Nat.mul_comm];exact hz),rfl,q _ I.fresh⟩
end
section
variable {prog : Program} {w : World} {A : Around} {E : Value → Shared → Prop} {s : Shared}
end
section
variable {X : Cx}
end
end L2
namespace Att
open PySem PySem.W PySem.Calls PyProof.Rows
theorem wZ{P:Params}{h:Heap}:∀(ns:List Int) (vs:List Value),WellAll P h vs (ns.map WData.int)->IntsAre vs ns:=by
 intro ns
 induction ns with
 | nil=>
  intro vs w
  rw[S5] at w
  cases w
  exact .nil
 | cons n ns J=>
  intro vs w
  rw[Sm] at w
  cases w with
  | cons a b=>
   cases a
   exact .cons _ _ (J _ b)
theorem GN {l:OpenLaw} {n:Nat} (hn:l.most=some n) {P:Params} {h:Heap} {args:List WData} {J:List Value}
 (Y:l.row.toRowW.claim.pre args=true) (ap:WellAll P h J args):
 ∃a vs ns,J=[Value.ref a]/\args=[WData.list (ns.map WData.int)]/\h.get? a=some {cls:=.type "list",data:=.seq vs.toArray}/\IntsAre vs ns/\ns.length<=n:=by
 have as:WShape.hasAll [] args [.list .int]=true:=(pre_splitW Y).1
 have hc:l.pre.holds [] {args:=args}=true:=(pre_splitW Y).2
 obtain⟨d,r,rfl,h1,h2⟩:=hasAllW_cons as
 obtain rfl:=hasAllW_nil h2
 obtain⟨xs,rfl,h3⟩:=hasW_list h1
 obtain⟨ns,rfl⟩:=items_int h3
 have ab:ns.length<=n:=by
  unfold OpenLaw.pre at hc
  have h4:(WTm.not (.lt (.lit (.int (n:Int))) (.len (.arg 0)))).holds [] {args:=[.list (ns.map .int)]}=true:=by
   have h4:=(holds_andW hc).1
   rw[hn] at h4
   exact h4
  have h5:=condW_of h4 (w_not (w_lt w_lit (w_len_list (w_arg rfl))))
  rw[R9] at h5
  refine Nat.le_of_not_lt λq=> ?_
  have q':(n:Int)<((ns.length:Nat):Int):=by omega
  first
   | (rw[decide_eq_true q'] at h5;exact absurd h5 (by decide))
   | (simp at h5;omega)
 cases ap with
 | cons w1 w2=>
  cases w2
  cases w1 with
  | list ho ac=>exact⟨_,_,ns,rfl,rfl,ho,wZ ns _ ac,ab⟩
theorem FY(l:OpenLaw)(args:List WData):l.row.toRowW.claim.post args (.bool true) args=true:=
 postW_of (r:=l.row.toRowW) (X:=(true == true))
  (show WShape.has [] (.bool true) .bool=true by first | rfl | decide | simp[WShape.has,WShape.arms,WShape.armsAll])
  (show (WTm.eq .res (.lit (.bool true))).value [] {args:=args,res:=some (.bool true),after:=args}=some (.bool (true == true)) from w_eq_bool (w_res rfl) w_lit) rfl
theorem Dk {l:OpenLaw} {n:Nat} {q:Program} {J:List Str} {XP:(Str->Option Value)->Heap->Prop} {YP:World->Heap->Prop} {d:DefRec}
 (hn:l.most=some n) (a1:d.params.defaults=[])
 (call:∀(w:World) (s₀ s₁:Shared) (mg mb:Str->Option Value) (fa:Addr) (o:Obj) (pm cd ac:Value) (a:Addr) (vs:List Value) (ns:List Int),
  Ground q J [] XP w s₀ mg mb s₁.heap->YP w s₁.heap->
  s₁.heap.get? fa=some o->o.data=.func (docDef d.name d.params d.body d.scope pm cd ac)->s₁.heap.CodeRec cd d.name->mg d.name=some (.ref fa)->
  s₁.heap.get? a=some {cls:=.type "list",data:=.seq vs.toArray}->IntsAre vs ns->ns.length<=n->s₁.gens= #[]->
  codeAny (model l.prog w) callerA (.call (.ref fa) ⟨[.ref a],[]⟩) (λr s'=>r=.ok (.ret (.bool true))/\OldK s₁.heap s'.heap/\s'.os=s₁.os/\AllBare s'.gens) s₁):
 WalkO q J XP YP l.row.toRowW d [] (λf vs=>Wg f vs):=by
 intro w s₀ s₁ mg mb G Y fa o pm cd ac dV kV ho hd a3 hD a4 hg args a9 as ap bb bm a5 bn
 obtain rfl:dV=.none:=Dflts.none hD a1
 obtain rfl:kV=.none:=Dflts.noKw hD
 obtain⟨a,vs,ns,rfl,rfl,az,am,a0⟩:=GN hn ap a5
 refine enter_call (codeAny_mono (call w s₀ s₁ mg mb fa o pm cd ac a vs ns G Y ho (fd_plain hd) a3 a4 az am a0 hg) λr s' hq=> ?_)
 obtain⟨rfl,h2,h3,h4⟩:=hq
 exact⟨.inl ⟨.bool true,.bool true,[],rfl,λ_=>rfl,.bool true,FY l _,λ_=>⟨VX,λ_ hm=>(nomatch hm)⟩⟩,h2,h3,h4⟩
section
variable {prog : Program} {w : World} {A : Around} {E : Value → Shared → Prop} {s : Shared} {K : Frag}
end
end Att
namespace L2
open PySem PySem.Spec PyProof.Rows
theorem zP:∀{vs:List Value} {ns:List Int},IntsAre vs ns->Vals (ns.map V.int) vs
 | _,_,.nil=>.nil
 | _,_,.cons n t h=>.cons ⟨t,rfl⟩ (zP h)
def EV(H:Hp):Prop:=∀b,H b=none\/∃o xs,H b=some (.frz o (.lst xs))
theorem JG {P:Program} {w:World} {K:R4} {mg mb:Str->Option Value} {CX:CXT} {k:Nat} {fa a:Addr} {fd:FuncData} {x:Str} {sp:Sp} {J:Shared} {vs:List Value} {ns:List Int}
 (KX:K.In J.heap) (ap:J.heap.Ns mainGlobals mg) (hb:J.heap.Ns builtinsNs mb) (a8:∀x:Str,x≠"__name__" ->mb x=bootBuiltins x) (as:J.heap.NoLimit) (ab:J.heap.NoSeer) (hg:J.gens= #[])
 (ha:J.heap.get? a=some {cls:=.type "list",data:=.seq vs.toArray}) (hi:IntsAre vs ns) (hl:ns.length<=sizeLine) (hr:fX k callerA)
 (F:∀base:Heap,K.In base->base.Ns mainGlobals mg->lM P w K mg base CX k fa fd [x] sp) (an:∀(s:Shared) (u:Value),BindsTo s fd ⟨[u],[]⟩ [(x,u)])
 (a9:∀H:Hp,EV H->SqL K H a (ns.map V.int)->sp [.ref a] H (λv _=>v=.bl true) λ_ _ _=>False)
 (bb:∀H e s',CX [] H J (λ_ _ _=>False) e s'->False):
 codeAny (model P w) callerA (.call (.ref fa) ⟨[.ref a],[]⟩) (λr s'=>r=.ok (.ret (.bool true))/\OldK J.heap s'.heap/\s'.os=J.os/\AllBare s'.gens) J:=by
 have rv:=zP hi
 have az:=hi.length
 have am:∀H:Hp,EV H->SqL K H a (ns.map V.int)->HOk P w H J.heap->(∀b,H b≠none->b=a)->(H a≠none->K.lookup a=none)->
  codeAny (model P w) callerA (.call (.ref fa) ⟨[.ref a],[]⟩) (λr s'=>r=.ok (.ret (.bool true))/\OldK J.heap s'.heap/\s'.os=J.os/\AllBare s'.gens) J:=by
  intro H hO hS a0 hA hK
  have Y:∀{b:Addr} {o:Obj},J.heap.get? b=some o->H b=none->(qP J.heap H).get? b=some o:=λe n=>Iy e n
  have be:∀{b:Addr} {o:Obj} {es:Array DictEntry} {ep:Nat},J.heap.get? b=some o->o.data=.dict es ep->H b=none:=λ{b o es ep} e d=>by
   cases q:H b with
   | none=>rfl
   | some u=>
    have e':b=a:=hA b (by rw[q];simp)
    subst e'
    rw[ha] at e;cases e
    have d':Data.seq vs.toArray _=Data.dict es ep:=d
    cases d'
  have ac:∀{b:Addr} {m:Str->Option Value},J.heap.Ns b m->(qP J.heap H).Ns b m:=λ{b m} ⟨o,es,ep,e,d,r⟩=>⟨o,es,ep,Y e (be e d),d,r⟩
  have a3:K.In (qP J.heap H):=λb o e=>Y (KX b o e) (by
   cases q:H b with
   | none=>rfl
   | some u=>
    have e':b=a:=hA b (by rw[q];simp)
    subst e'
    rw[hK (by rw[q];simp)] at e;cases e)
  have bi:∀{b:Addr} {o:Obj},J.heap.get? b=some o->o.cls=.type "module" ->H b=none:=λ{b o} e d=>by
   cases q:H b with
   | none=>rfl
   | some u=>
    have e':b=a:=hA b (by rw[q];simp)
    subst e'
    rw[ha] at e;cases e
    exact absurd (show Value.type "list" =Value.type "module" from d) (by decide)
  have hN:(qP J.heap H).NoSeer:=⟨let ⟨mc,x,y⟩:=ab.statics;⟨mc,ac x,y⟩,let ⟨mc,x,y⟩:=ab.mods;⟨mc,ac x,y⟩,let ⟨mc,x,y⟩:=ab.imp;⟨mc,ac x,y⟩,let ⟨mg',bm,ob,x,y,z,u,v⟩:=ab.main;⟨mg',bm,ob,ac x,y,Y z (bi z u),u,v⟩⟩
  have hM:Mod K mg (qP J.heap H):=⟨a3,ac ap,⟨mb,ac hb,a8⟩,(let ⟨mc,h1,h2⟩:=as;⟨mc,ac h1,h2⟩),hN⟩
  have e0:ug P w K mg (qP J.heap H) callerA [] J H:=⟨rfl,hM,λb o e=>K8 e,Nat.le_of_eq (GA _ _),trivial,λb hb=>absurd (show b∈([]:List Addr) from hb) (by simp),a0,.of_eq hg⟩
  refine codeAny_mono ((F _ a3 (ac ap)).run callerA [] J H ⟨[.ref a],[]⟩ [.ref a] [.ref a] _ _ hr e0 (an J (.ref a)) (.cons rfl .nil) (a9 H hO hS)) λr s' h=> ?_
  cases r with
  | error e=>exact(bb H e s' h).elim
  | ok fl=>
   cases fl with
   | next=>exact R5 h
   | brk=>exact R5 h
   | cont=>exact R5 h
   | ret u=>
    obtain⟨v,H',os,a4,un,a5,r',q⟩:=h
    have q':v=.bl true:=q
    subst q'
    obtain rfl:u=Value.bool true:=r'
    refine⟨rfl,OldK.of_keep λb o e=> ?_,os,a4⟩
    cases q:H b with
    | none=>exact un.keep b o e q (by intro z;exact absurd (show b∈([]:List Addr) from z) (by simp)) (by simp)
    | some u=>
     rcases hO b with z | ⟨ob,xs,z⟩
     ·rw[q] at z;cases z
     ·have z2:=un.frzs b ob _ z
      obtain⟨e1,_⟩:=a0 b _ z
      obtain⟨e2,_⟩:=a5 b _ z2
      rw[e] at e1;cases e1
      exact e2
 cases hk:K.lookup a with
 | some o=>
  have e:=KX a o hk
  rw[ha] at e
  cases e
  refine am (λ_=>none) (λ_=>.inl rfl) (.inr ⟨_,vs.toArray,_,hk,rfl,rfl,rfl,by rw[Sq,az];exact hl,by simpa using rv⟩) (λb u z=>by have z':(none:Option HO)=some u:=z;cases z') (λb z=>absurd rfl z) λz=>absurd rfl z
 | none=>
  refine am (λb=>if b=a then some (.frz {cls:=.type "list",data:=.seq vs.toArray} (.lst (ns.map V.int))) else none) (λb=> ?_) (.inl (.inr ⟨{cls:=.type "list",data:=.seq vs.toArray},if_pos rfl⟩)) (λb u z=> ?_) (λb z=> ?_) λ_=>hk
  ·by_cases hb:b=a
   ·exact .inr ⟨_,_,if_pos hb⟩
   ·exact .inl (if_neg hb)
  ·by_cases hb:b=a
   ·have z':=(if_pos hb).symm.trans z
    cases z'
    subst hb
    exact⟨ha,by rw[R9];exact hl,vs,_,rv,ha⟩
   ·have z':=(if_neg hb).symm.trans z
    cases z'
  ·by_cases hb:b=a
   ·exact hb
   ·exact absurd (if_neg hb) z
theorem Lg {l:VA} {n k:Nat} {q:Program} {ab:List Str} {XP:(Str->Option Value)->Heap->Prop} {YP:World->Heap->Prop} {d:DefRec} {K:Params->R4} {CX:World->CXT} {sp:World->Sp} {x:Str}
 (hn:l.most=some n) (ap:n<=sizeLine) (as:d.params.defaults=[]) (hr:fX k callerA) (hi:importsNone q=true)
 (hY:∀(w:World) (h:Heap),YP w h->(K w.params).In h)
 (F:∀(w:World) (mg:Str->Option Value) (fa:Addr) (h:Heap),(K w.params).In h->h.Ns mainGlobals mg->mg d.name=some (.ref fa)->
  ∃fd:FuncData,(∀(s:Shared) (u:Value),BindsTo s fd ⟨[u],[]⟩ [(x,u)])/\
   ∀base:Heap,(K w.params).In base->base.Ns mainGlobals mg->lM l.prog w (K w.params) mg base (CX w) k fa fd [x] (sp w))
 (az:∀(w:World) (H:Hp) (a:Addr) (ns:List Int),ns.length<=n->EV H->SqL (K w.params) H a (ns.map V.int)->sp w [.ref a] H (λv _=>v=.bl true) λ_ _ _=>False)
 (a0:∀(w:World) (H:Hp) (s:Shared) (e:Value) (s':Shared),CX w [] H s (λ_ _ _=>False) e s'->False):
 Wt q ab XP YP l.row.toRowW d [] (λf vs=>Wg f vs):=by
 refine Att.Dk hn as λw s₀ s₁ mg mb fa o pm cd a8 a vs ns G Y ho hd a9 a1 am ac J hg=> ?_
 have KX:=hY w _ Y
 obtain⟨fd,hb,hF⟩:=F w mg fa _ KX G.T.g a1
 exact JG KX G.T.g G.T.b G.T.builtins G.T.nolimit (G.T.seer hi) hg am ac (S4 J ap) hr hF hb (λH hO hS=>az w H a ns J hO hS) λH e s'=>a0 w H s₁ e s'
def inClass(s:Stmt)(j:Nat):Stmt:=match s with
 | .ClassDef _ _ _ body _ _ _ _ _ _ _=>body.getD j (.Pass ⟨0,0,0,0⟩)
 | _=>.Pass ⟨0,0,0,0⟩
def bo(s:Stmt):Arguments:=match s with
 | .FunctionDef _ a _ _ _ _ _ _ _ _=>a
 | _=>{posonlyargs:=[],args:=[],vararg:=none,kwonlyargs:=[],kw_defaults:=[],kwarg:=none,defaults:=[]}
def bj(s:Stmt):List Stmt:=match s with
 | .FunctionDef _ _ b _ _ _ _ _ _ _=>b
 | _=>[]
def aF(s:Stmt):Scope:=match s with
 | .FunctionDef _ _ _ _ _ _ J _ _ _=>J
 | _=>{kind:=.function,names:=[],isGenerator:=false,isCoroutine:=false}
abbrev E0:XK:=λ_ _ _=>False
structure Fun(K:R4)(x qual:Str)(st:Stmt)(f:Addr)(fd:FuncData):Prop where
 ex:∃(oc:Value) (od:Option Addr) (kV doc pm:Value) (an:Option Addr) (cdv ct:Value) (osl:Array (Option Value)),
  fd=Sk x qual (bo st) (bj st) (aF st) .none kV doc pm an cdv ct/\K.lookup f=some ⟨oc,od,.func fd,osl⟩/\Sf K cdv qual=true
 kp:Sd K (.ref f)=true
section
variable {P : Program} {w : World} {K : R4} {mg : Str → Option Value} {base : Heap}
theorem Fun.binds {x qual:Str} {st:Stmt} {f:Addr} {fd:FuncData} {ps:List Str} (F:Fun K x qual st f fd)
 (h:∀(kV J pm:Value) (an:Option Addr) (Y ct:Value) (us:List Value),us.length=ps.length->bindArgs (Sk x qual (bo st) (bj st) (aF st) .none kV J pm an Y ct) ⟨us,[]⟩=pure (ps.zip us)):Binds K fd ps []:=by
 obtain⟨oc,od,kV,J,pm,an,Y,ct,am,rfl,lk,ap⟩:=F.ex
 exact .all (h kV J pm an Y ct)
theorem bI {x qual:Str} {st:Stmt} {f:Addr} {oc:Value} {od an:Option Addr} {ab:Array (Option Value)} {kV Y pm J ct:Value} (l:K.lookup f=some ⟨oc,od,.func (Sk x qual (bo st) (bj st) (aF st) .none kV Y pm an J ct),ab⟩)
 (c:Sf K J qual=true) (k:Sd K (.ref f)=true):Fun K x qual st f (Sk x qual (bo st) (bj st) (aF st) .none kV Y pm an J ct):=⟨⟨oc,od,kV,Y,pm,an,J,ct,ab,rfl,l,c⟩,k⟩
end
section
variable {X : Cx}
theorem pv (i:Nat) {x:Str} {pos:Pos} (Y:X.N[i]? =some x:=by rfl) (hv:Vis X.env.scope x:=by first | exact R8 rfl | exact Ts (R8 rfl) | exact Ts (Ts rfl)) (hd:(x == ("__debug__" :Str))=false:=by decide)
 (J:(x == ("__classdict__" :Str))=false:=by decide):PE X (.Name x pos) (Iw i):=MR Y hv hd J
end
theorem tK{A B:Prop}(h:B):if false=true then A else B:=by
 rw[if_neg SD]
 exact h
theorem tR{A B:Prop}(h:A):if true=true then A else B:=by
 rw[if_pos rfl]
 exact h
def bN(H H':Hp):Prop:=∀b o,H b=some o->H' b=some o
theorem bN.refl(H:Hp):bN H H:=λ_ _ h=>h
theorem bN.trans{H H1 H2:Hp}(a:bN H H1)(b:bN H1 H2):bN H H2:=λc o h=>b c o (a c o h)
theorem bN.seq{K:R4}{H H':Hp}{a:Addr}{xs:List V}(e:bN H H')(h:SqL K H a xs):SqL K H' a xs:=by
 rcases h with(h | ⟨o,h⟩) | h
 ·exact .inl (.inl (e _ _ h))
 ·exact .inl (.inr ⟨o,e _ _ h⟩)
 ·exact .inr h
end L2
set_option maxHeartbeats 4000000
namespace L2
open PySem PySem.Spec PyProof.Rows
def fk(env:Env):List (Str×NameKind)->List (Str×Addr)->List (Str×Addr)
 | [],cs=>cs
 | (n,k)::r,cs=>if k == .free then fk env r ((n,(env.cells.lookup n).getD 0)::cs) else fk env r cs
theorem yk{env:Env}:∀(names:List (Str×NameKind)) (J:List (Str×Addr)),(∀n,(n,NameKind.free)∈names->∃c,env.cells.lookup n=some c)->
 (forIn names J λ(x:Str×NameKind) (r:List (Str×Addr))=>(if (x.2 == NameKind.free)=true then do
  let a <- cellOf env x.1
  pure (Uh ((x.1,a)::r)) else pure (Uh r):Sem (ForInStep (List (Str×Addr)))))=pure (fk env names J)
 | [],J,_=>rfl
 | (n,k)::r,J,h=>by
  rw[List.forIn_cons]
  by_cases hk:(k == NameKind.free)=true
  ·have Y:k=.free:=by simpa using hk
   subst Y
   obtain⟨c,hc⟩:=h n Sr
   simp only[hk,if_true,fk,cellOf,hc,pure_bind,Vn]
   exact yk r _ λm hm=>h m (Sl _ hm)
  ·simp only[hk,if_false,fk,pure_bind]
   exact yk r J λm hm=>h m (Sl _ hm)
theorem Ac{scope:Scope}{env:Env}(h:∀n,(n,NameKind.free)∈scope.names->∃c,env.cells.lookup n=some c):closureFor scope env=pure (fk env scope.names []):=by
 have:=yk scope.names [] h
 simp only[closureFor]
 rw[<- this]
 exact bind_pure _
theorem sG{env:Env}:∀(names:List (Str×NameKind)) (J:List (Str×Addr)),(∀n,(n,NameKind.free)∈names->∃c,env.cells.lookup n=some c)->
 (∀x c,J.lookup x=some c->env.cells.lookup x=some c)->∀x c,(fk env names J).lookup x=some c->env.cells.lookup x=some c
 | [],J,_,h,x,c,e=>h x c e
 | (n,k)::r,J,hf,h,x,c,e=>by
  unfold fk at e
  by_cases hk:(k == NameKind.free)=true
  ·rw[if_pos hk] at e
   have ab:k=.free:=by simpa using hk
   subst ab
   refine sG r _ (λm hm=>hf m (Sl _ hm)) (λy d q=> ?_) x c e
   obtain⟨c',Y⟩:=hf n Sr
   rw[Th] at q
   split at q
   ·rename_i hy
    have:y=n:=by simpa using hy
    subst this
    rw[Y,Vn] at q
    rw[Y];exact q
   ·exact h y d q
  ·rw[if_neg hk] at e
   exact sG r J (λm hm=>hf m (Sl _ hm)) h x c e
theorem qN{env:Env}:∀(names:List (Str×NameKind)) (J:List (Str×Addr)) (x:Str),(∃c,J.lookup x=some c)->∃c,(fk env names J).lookup x=some c
 | [],J,_,h=>h
 | (n,k)::r,J,x,h=>by
  unfold fk
  by_cases hk:(k == NameKind.free)=true
  ·rw[if_pos hk]
   refine qN r _ x ?_
   rw[Th]
   split
   ·exact⟨_,rfl⟩
   ·exact h
  ·rw[if_neg hk]
   exact qN r J x h
theorem pK{env:Env}:∀(names:List (Str×NameKind)) (J:List (Str×Addr)) (x:Str),(x,NameKind.free)∈names->∃c,(fk env names J).lookup x=some c
 | (n,k)::r,J,x,h=>by
  unfold fk
  rcases SA.mp h with e | h
  ·cases e
   rw[if_pos (by rfl)]
   refine qN r _ n ?_
   exact⟨_,by rw[Th];simp;rfl⟩
  ·by_cases hk:(k == NameKind.free)=true
   ·rw[if_pos hk];exact pK r _ x h
   ·rw[if_neg hk];exact pK r J x h
theorem gB:∀(names:List (Str×NameKind)) (n:Nat) (J:List (Str×Addr)),cellsFrom n names J=cellsFrom n names []++J
 | [],_,_=>rfl
 | (x,k)::r,n,J=>by
  unfold cellsFrom
  split
  ·rw[gB r (n+1) ((x,n)::J),gB r (n+1) [(x,n)],S7];rfl
  ·exact gB r n J
theorem o5:∀(names:List (Str×NameKind)) (n:Nat) {x:Str} {c:Addr},(x,c)∈cellsFrom n names []->(x,NameKind.cell)∈names
 | [],_,_,_,h=>nomatch h
 | (y,k)::r,n,x,c,h=>by
  unfold cellsFrom at h
  split at h
  ·rename_i hk
   have J:k=.cell:=by simpa using hk
   rw[gB] at h
   rcases Sy.mp h with q | q
   ·exact Sl _ (o5 r _ q)
   ·cases Sv.mp q
    rw[J]
    exact Sr
  ·exact Sl _ (o5 r _ h)
theorem E1{l m:List (Str×Addr)}{x:Str}{c:Addr}(h:(l++m).lookup x=some c):l.lookup x=some c\/(l.lookup x=none/\m.lookup x=some c):=by
 rw[U6] at h
 cases e:l.lookup x with
 | none=>rw[e] at h;exact .inr ⟨rfl,h⟩
 | some d=>rw[e] at h;exact .inl h
theorem uC{l m:List (Str×Addr)}{x:Str}(h:l.lookup x=none):(l++m).lookup x=m.lookup x:=by rw[U6,h];rfl
theorem CH{l m:List (Str×Addr)}{x:Str}(h:∃c,m.lookup x=some c):∃c,(l++m).lookup x=some c:=by
 cases e:l.lookup x with
 | none=>rw[uC e];exact h
 | some c=>exact⟨c,by rw[U6,e];rfl⟩
theorem G7(h:Heap)(names:List (Str×NameKind)):CellsOk (pushCells (h.push {cls:=.type "dict",data:=.dict #[]}) names) (h.objs.size+1) (cellsFrom (h.objs.size+1) names []):=by
 have:=cellsFrom_ok names (h.push {cls:=.type "dict",data:=.dict #[]}) (h.objs.size+1) [] ⟨λ_ _ hm=>(nomatch hm),VX⟩ (by rw[Heap.size_push];exact Si _)
 rwa [Heap.size_push] at this
theorem C6 {M:Model} {A:Around} {E:Value->Shared->Prop} {s:Shared} {scope:Scope} {globals:Addr} {J:List (Str×Addr)} {qual:Str} {func:Option Addr} {code:Value} {outer:Env} {builtins:Addr} {Q:Env->Shared->Prop}
 (Y:Q {scope:=scope,locals:=s.heap.objs.size,globals:=globals,cells:=cellsFrom (s.heap.objs.size+1) scope.names J,qual:=qual,func:=func,code:=outer.code,frame:=outer.frame,builtins:=outer.builtins} {s with heap:=pushCells (s.heap.push {cls:=.type "dict",data:=.dict #[]}) scope.names}):
 wpAny M A (newFunctionEnv scope globals J [] qual func code (some outer) builtins) Q E s:=by
 simp only[newFunctionEnv,Option.isSome_some,if_true]
 refine wpAny_bind (wpAny_alloc ?_)
 refine wpAny_bind (wpAny_layCells _ (λname kind cells=>by cases hkc:kind == NameKind.cell <;> simp[hkc]) _ _ _ _ ?_)
 rw[show ({s with heap:=s.heap.push {cls:=.type "dict",data:=.dict #[]}}:Shared).heap.objs.size=s.heap.objs.size+1 from Heap.size_push ..]
 refine wpAny_bind ?_
 rw[List.forIn_nil]
 exact wpAny_pure (wpAny_pure Y)
def cxC(X:Cx)(scope:Scope)(N':List Str)(fp:List Addr)(s:Shared)(H:Hp):Cx where
 prog:=X.prog
 w:=X.w
 K:=X.K
 mg:=X.mg
 base:=X.base
 A:=X.A
 N:=N'
 s₀:=s
 H₀:=H
 env:=compEnvC scope (cellsFrom (s.heap.objs.size+1) scope.names (fk X.env scope.names [])) s.heap.objs.size X.env
 outer:=X.stack
 stack:=X.stack
 ex:=fp
 calm:=X.calm
 fn:=λx=>scope.names.lookup x == some .cell
 pn:=[]
 xe:=λ_ _=>False
def oK(X:Cx)(scope:Scope):List Str->List Nat->Prop
 | [],[]=>True
 | x::xs,j::js=>X.N[j]? =some x/\(X.env.scope.names.lookup x=some .cell\/X.env.scope.names.lookup x=some .free)/\scope.names.lookup x=some .free/\oK X scope xs js
 | _,_=>False
theorem oK.get{X:Cx}{scope:Scope}:∀{xs:List Str} {J:List Nat} {i:Nat} {x:Str},oK X scope xs J->xs[i]? =some x->
 ∃j,J[i]? =some j/\X.N[j]? =some x/\(X.env.scope.names.lookup x=some .cell\/X.env.scope.names.lookup x=some .free)/\scope.names.lookup x=some .free
 | [],_,_,_,_,e=>by simp at e
 | _::_,[],_,_,h,_=>h.elim
 | y::ys,j::J,0,x,h,e=>by
  simp at e;subst e
  exact⟨j,rfl,h.1,h.2.1,h.2.2.1⟩
 | y::ys,j::J,i+1,x,h,e=>by
  obtain⟨Y,e1,r⟩:=oK.get (i:=i) (x:=x) h.2.2.2 (by simpa using e)
  exact⟨Y,by simpa using e1,r⟩
theorem oK.length{X:Cx}{scope:Scope}:∀{xs:List Str} {J:List Nat},oK X scope xs J->xs.length=J.length
 | [],[],_=>rfl
 | [],_::_,h=>h.elim
 | _::_,[],h=>h.elim
 | _::_,_::_,h=>by rw[Ss,Ss,oK.length h.2.2.2]
def ph(m:Nat)(caps:List Nat)(σ:St):St:=Sb m none++caps.map λi=>(σ[i]?).getD none
theorem lookup_mem{α β:Type}[BEq α][LawfulBEq α]:∀{l:List (α×β)} {x:α} {b:β},l.lookup x=some b->(x,b)∈l
 | [],_,_,h=>by simp at h
 | (a,c)::r,x,b,h=>by
  rw[Th] at h
  split at h
  ·rename_i q
   have:x=a:=by simpa using q
   subst this
   cases h
   exact Sr
  ·exact Sl _ (lookup_mem h)
section
variable {X : Cx}
theorem jj{scope:Scope}{env:Env}:∀{names:List (Str×NameKind)} {x:Str} {k:NameKind},(names.map λ(n,k)=>if (k == NameKind.free&&env.scope.kind == .function&&env.kindOf n == some .cell) then (n,NameKind.cell) else (n,k)).lookup x=some k->
 ∃J,names.lookup x=some J/\(J=k\/(J=.free/\k=.cell))
 | [],_,_,h=>by simp at h
 | (n,k0)::r,x,k,h=>by
  have h':Uj x ((if (k0 == NameKind.free&&env.scope.kind == .function&&env.kindOf n == some .cell)=true then (n,NameKind.cell) else (n,k0))::r.map _)=some k:=h
  by_cases hc:(k0 == NameKind.free&&env.scope.kind == .function&&env.kindOf n == some .cell)=true
  ·rw[if_pos hc,Th] at h'
   rw[Th]
   split at h'
   ·rename_i q
    cases h'
    have hk:k0=.free:=by simp only[To] at hc;simpa using hc.1.1
    exact⟨k0,rfl,.inr ⟨hk,rfl⟩⟩
   ·rename_i q
    exact jj (scope:=scope) h'
  ·rw[if_neg hc,Th] at h'
   rw[Th]
   split at h'
   ·rename_i q
    cases h'
    exact⟨k0,rfl,.inl rfl⟩
   ·rename_i q
    exact jj (scope:=scope) h'
structure qj(X:Cx)(scope:Scope)(own cap:List Str)(caps:List Nat):Prop where
 kind:scope.kind=.function
 cell:∀y∈scope.names,y.2=.cell->scope.names.lookup y.1=some .cell
 nm:∀y∈scope.names,y.2=.local->scope.names.lookup y.1=some .local
 fr:∀y∈scope.names,y.2=.free->y.1∈cap
 caps:oK X scope cap caps
 nd:(own++cap).Nodup
theorem qj.out{X:Cx}{scope:Scope}{own cap:List Str}{caps:List Nat}(S:qj X scope own cap caps){n:Str}(h:(n,NameKind.free)∈scope.names):X.env.scope.names.lookup n=some .cell\/X.env.scope.names.lookup n=some .free:=by
 obtain⟨i,hi,e⟩:=Tk (S.fr _ h rfl)
 obtain⟨_,_,_,k,_⟩:=S.caps.get (i:=i) (x:=n) (by rw[Sa hi,e])
 exact k
theorem J3 {scope:Scope} {own cap:List Str} {caps:List Nat} {pins:List (Addr×Obj)} {σ:St} {H:Hp} {s:Shared} {fp:List Addr} {h1:Heap} {tk:Nat} (Sc:qj X scope own cap caps) (I:Inv X pins σ H s)
 (ab:∀b∈fp,om X pins H b) (az:∀b∈fp,∃o,s.heap.get? b=some o) (a4:h1.Ns s.heap.objs.size λ_=>none)
 (hk:∀b o,s.heap.get? b=some o->h1.get? b=some o) (Y:CellsOk h1 (s.heap.objs.size+1) (cellsFrom (s.heap.objs.size+1) scope.names [])):
 Inv (cxC X scope (own++cap) fp s H) [] (ph own.length caps σ) H {s with heap:=h1,toks:=tk}:=by
 have a5:∀n,(n,NameKind.free)∈scope.names->∃c,X.env.cells.lookup n=some c:=λn hn=>I.ok.has n (Sc.out hn)
 have sub:∀x c,(fk X.env scope.names []).lookup x=some c->X.env.cells.lookup x=some c:=sG scope.names [] a5 (λx c e=>by simp at e)
 have fresh:H s.heap.objs.size=none:=I.hok.fresh (Si _)
 have J:∀x c,(cellsFrom (s.heap.objs.size+1) scope.names (fk X.env scope.names [])).lookup x=some c->((x,c)∈cellsFrom (s.heap.objs.size+1) scope.names []/\s.heap.objs.size<c)\/((cellsFrom (s.heap.objs.size+1) scope.names []).lookup x=none/\X.env.cells.lookup x=some c/\c<s.heap.objs.size):=λx c e=>by
  rw[gB] at e
  rcases E1 e with q | ⟨q0,q⟩
  ·exact .inl ⟨mem_of_lookup q,(Y.empty x c (mem_of_lookup q)).2⟩
  ·have q':=sub x c q
   obtain⟨v,o,ho,_⟩:=I.cell x c q'
   exact .inr ⟨q0,q',Heap.lt_size ho⟩
 have ac:∀x,scope.names.lookup x=some .free->(cellsFrom (s.heap.objs.size+1) scope.names []).lookup x=none:=λx hx=>by
  cases e:(cellsFrom (s.heap.objs.size+1) scope.names []).lookup x with
  | none=>rfl
  | some c=>
   have:=Sc.cell _ (o5 _ _ (mem_of_lookup e)) rfl
   dsimp only at this
   rw[hx] at this
   cases this
 refine⟨⟨I.ok.mod,Sc.kind,I.ok.glob,I.ok.blt,Si _,λx y c e1 e2=> ?_,λx hx=> ?_,λx c h e=> ?_,I.ok.hd,I.ok.frames,.inl rfl,λb hb=>⟨?_,λx c e=> ?_⟩,I.bs,S4 I.ok.bsz I.sz,λb o e hb=> ?_,λb hb hs=> ?_,I.stack,I.stkFree⟩,
  rfl,I.bare,Un.kept hk,⟨_,a4,λi x v e1 e2 e3=> ?_⟩,λx c e=> ?_,fresh,λx c e=> ?_,λp hp=>absurd (show p∈([]:List (Addr×Obj)) from hp) (by simp),I.hok.kept hk, ?_⟩
 ·rcases J x c e1 with⟨p1,p2⟩ | ⟨_,p1,p2⟩ <;> rcases J y c e2 with⟨q1,q2⟩ | ⟨_,q1,q2⟩
  ·exact name_of_addr Y.apart p1 q1
  ·exact absurd p2 (Wh.mpr (T5 q2))
  ·exact absurd q2 (Wh.mpr (T5 p2))
  ·exact I.ok.inj x y c p1 q1
 ·have a6:(relabel scope X.env).names.lookup x=some .cell\/(relabel scope X.env).names.lookup x=some .free:=hx
  have:(x,NameKind.free)∈scope.names\/scope.names.lookup x=some .cell:=by
   rcases a6 with q | q
   ·obtain⟨k',e1,e2⟩:=jj (scope:=scope) q
    rcases e2 with rfl | ⟨rfl,_⟩
    ·exact .inr e1
    ·exact .inl (lookup_mem e1)
   ·obtain⟨k',e1,e2⟩:=jj (scope:=scope) q
    rcases e2 with rfl | ⟨rfl,z⟩
    ·exact .inl (lookup_mem e1)
    ·cases z
  rcases this with q | q
  ·show ∃c,(cellsFrom (s.heap.objs.size+1) scope.names (fk X.env scope.names [])).lookup x=some c
   rw[gB]
   exact CH (pK scope.names [] x q)
  ·exact Vl.mp (Uk scope.names _ _ (.inl q))
 ·have h':scope.names.lookup x=some .cell:=by
   have:(scope.names.lookup x == some NameKind.cell)=true:=h
   simpa using this
  rcases J x c e with⟨_,p⟩ | ⟨p,_⟩
  ·exact T5 p
  ·have:=Uk scope.names (s.heap.objs.size+1) [] (.inl h')
   rw[p] at this
   cases this
 ·obtain⟨o,ho⟩:=az b hb
  exact SX (Heap.lt_size ho)
 ·rcases J x c e with⟨_,p⟩ | ⟨_,p,_⟩
  ·obtain⟨o,ho⟩:=az b hb
   exact λz=>absurd (Heap.lt_size ho) (Wh.mpr (T5 (z▸p)))
  ·exact(ab b hb).2.2.2.2.1 x c p
 ·rcases(ab b hb).2.2.2.1 with z | z
  ·exact I.ok.noex b o e z
  ·exact absurd (SJ (Heap.lt_size e) (S4 I.ok.bsz z)) (Tr _)
 ·rcases SA.mp (I.stkSub b hs) with z | z
  ·exact(ab b hb).2.1 z
  ·exact(ab b hb).2.2.1 z
 ·have a1:(own++cap)[i]? =some x:=e1
  have hi:own.length<=i:=by
   by_cases q:i<own.length
   ·unfold ph at e2
    rw[Sw (by simpa using q),SV] at e2
    split at e2 <;> cases e2
   ·omega
  rw[Sj hi] at a1
  obtain⟨j,hj,hN,a2,am⟩:=Sc.caps.get a1
  unfold ph at e2
  rw[Sj (by simpa using hi)] at e2
  simp only[Uo,SF,hj,Tn,VY] at e2
  have a7:σ[j]? =some (some v):=by
   cases q:σ[j]? with
   | none=>rw[q] at e2;simp at e2
   | some ov=>rw[q] at e2;simp at e2;rw[e2]
  obtain⟨m,hm,hl⟩:=I.loc
  obtain⟨u,ru,lk⟩:=hl j x v hN a7 (a2.elim (λz=>.inr (.inl z)) λz=>.inr (.inr z))
  refine⟨u,ru,.inr ⟨?_, ?_⟩⟩
  ·rcases e3 with q | q | q
   ·obtain⟨k',w1,w2⟩:=jj (scope:=scope) (show (relabel scope X.env).names.lookup x=some .local from q)
    rw[am] at w1
    cases w1
    rcases w2 with w | ⟨_,w⟩ <;> cases w
   ·exact .inl q
   ·exact .inr q
  ·rcases lk with⟨z,_⟩ | ⟨_,c,ec,hc⟩
   ·have z':X.env.scope.names.lookup x=some .local:=z
    rcases a2 with q | q <;> (rw[q] at z';cases z')
   ·obtain⟨c',a3⟩:=pK (env:=X.env) scope.names [] x (lookup_mem am)
    have:=sub x c' a3
    rw[ec] at this
    cases this
    obtain⟨oc,an,ap⟩:=hc
    refine⟨c, ?_,oc,hk _ _ an,ap⟩
    show (cellsFrom (s.heap.objs.size+1) scope.names (fk X.env scope.names [])).lookup x=some c
    rw[gB,uC (ac x am)]
    exact a3
 ·rcases J x c e with⟨p,_⟩ | ⟨_,p,_⟩
  ·exact⟨none,(Y.empty x c p).1⟩
  ·obtain⟨v,oc,an,ap⟩:=I.cell x c p
   exact⟨v,oc,hk _ _ an,ap⟩
 ·rcases J x c e with⟨_,p⟩ | ⟨_,p,_⟩
  ·exact I.hok.fresh (T5 p)
  ·exact I.freeC x c p
 ·unfold ph
  have:=Sc.caps.length
  simp[cxC,this]
theorem Hg {prog:Program} {w:World} {A:Around} {R:Result->Shared->Prop} {s:Shared} {ab J Y:Expr} {ac:List Expr} {scope:Scope} {pos:Pos} {it am:Value} {env:Env} (I:Nat->Shared->Prop)
 (an:∀n s,I n s->wpAny (model prog w) A (pyNext it) (λr s₁=>match r with
  | none=>R (.ok .next) s₁
  | some v=>wpAny (model prog w) A (letOwnedTupleGo J it v) (λ_ ap=>wpAny (model prog w) A (assign J env v) (λ_ s₂=>
   wpAny (model prog w) A (forIn ac true λc r=>if r=true then do let ok <- isTrue c env (eval c env);pure (Uh ok) else pure (Uh r)) (λok s₃=>
    if ok=true then wpAny (model prog w) A (eval ab env) (λx s₄=>
     wpAny (model prog w) A (call (.builtin "list.append") [am,x]) (λ_ s₅=>∃m,m<n/\I m s₅) (λ_ _=>False) s₄) (λ_ _=>False) s₃
    else ∃m,m<n/\I m s₃) (λ_ _=>False) s₂) (λ_ _=>False) ap) (λ_ _=>False) s₁) (λ_ _=>False) s)
 (n:Nat) (h:I n s):
 codeAny (model prog w) A (.compLoop (.ListComp ab [⟨J,Y,ac,0⟩] scope pos) 0 it am env) R s:=by
 refine codeAny_loop rfl I (λn s hI=> ?_) n h
 show wpAny _ A ((compTurn (.ListComp ab [⟨J,Y,ac,0⟩] scope pos) 0 it am env).onRaise (λx=>do noteFrame x env;theTreesLotGoes x)) _ _ s
 refine wpAny_noted ?_
 rw[compTurn_list]
 refine wpAny_bind (wpAny_standAt (wpAny_bind (wpAny_mono (an n s hI) (λr s₁ h₁=> ?_) λ_ _ h'=>h'.elim)))
 cases r with
 | none=>exact wpAny_pure h₁
 | some v=>
  refine wpAny_bind (wpAny_mono h₁ (λ_ ap a0=>wpAny_bind (wpAny_mono a0 (λ_ s₂ h₂=>wpAny_bind (wpAny_mono h₂ (λok s₃ h₃=> ?_) λ_ _ h'=>h'.elim)) λ_ _ h'=>h'.elim)) λ_ _ h'=>h'.elim)
  cases ok with
  | false=>exact wpAny_pure ⟨rfl,h₃⟩
  | true=>
   exact wpAny_bind (wpAny_bind (wpAny_mono h₃ (λx s₄ h₄=>wpAny_bind (wpAny_mono h₄ (λ_ s₅ h₅=>wpAny_pure (wpAny_pure ⟨rfl,h₅⟩)) λ_ _ h'=>h'.elim)) λ_ _ h'=>h'.elim))
def PTs(X:Cx)(J:List Expr)(t:TT):Prop:=
 ∀(pins:List (Addr×Obj)) (s:Shared) (σ:St) (H:Hp) (Q:Bool->Hp->Prop),Inv X pins σ H s->t σ H Q->
  wpAny (model X.prog X.w) X.A (forIn J true λc r=>if r=true then do let ok <- isTrue c X.env (eval c X.env);pure (Uh ok) else pure (Uh r)) (TP X pins σ Q) X.xe s
def Kc:TT:=λ_ H Q=>Q true H
theorem cv:PTs X [] Kc:=λ_ _ _ H _ I h=>wpAny_tests_nil ⟨H,I,h⟩
theorem pX{c:Expr}{t:TT}(h:PT X c t):PTs X [c] t:=λpins s σ H Q I q=>wpAny_tests_one (h pins s σ H Q I q)
def sL(m:Nat)(caps:List Nat)(wi:TI)(g:TG)(tc:TT)(te:TE):TE:=λσ H Q=>wi σ H λJ H1=>∀p,H1 p=none->
 ∃W:Nat->Nat->List V->St->Hp->Prop,(∃k,W 0 k [] (ph m caps σ) (upd H1 p (.lst [])))/\∀i k Y σ' H',W i k Y σ' H'->
  (J.stop i H'/\H' p=some (.lst Y)/\Q (.ref p) H')\/(J.go i H'/\∀x H2,J.yld i H' x H2->g x σ' H2 λσ2 H3=>tc σ2 H3 λb H4=>if b=true then
   te σ2 H4 λy H5=>H5 p=some (.lst Y)/\Y.length<sizeLine/\∃k',k'<k/\W (i+1) k' (Y++[y]) σ2 (upd H5 p (.lst (Y++[y])))
   else ∃k',k'<k/\W (i+1) k' Y σ2 H4)
theorem IY{scope:Scope}{N':List Str}{fp:List Addr}{pins Y:List (Addr×Obj)}{σ σ':St}{H3 H':Hp}{s3 s':Shared}(I3:Inv X pins σ H3 s3)(I':Inv (cxC X scope N' fp s3 H3) Y σ' H' s')(J:∀b∈fp,om X pins H3 b):Inv X pins σ H' s':=
 I3.call' (ch:=fp) I'.os I'.base I'.hok I'.bare λb hb=>⟨(J b hb).2.2.2.1,(J b hb).2.1,(J b hb).2.2.2.2.1,(J b hb).2.2.2.2.2⟩
theorem xm {ac a4 a8:Expr} {a9:List Expr} {scope:Scope} {pos:Pos} {own cap:List Str} {caps:List Nat} {g:TG} {tc:TT} {te:TE} {pins:List (Addr×Obj)} {σ:St} {H2:Hp} {s₂:Shared} {it:Addr} {fp:List Addr} {tn:Nat->Heap->Prop} {J:It} {E:Value->Shared->Prop}
 {RR:Value->Addr->Result->Shared->Prop} {Q:VK}
 (hc:X.calm=true) (Sc:qj X scope own cap caps)
 (hg:∀s H,PG (cxC X scope (own++cap) fp s H) ac g) (ht:∀s H,PTs (cxC X scope (own++cap) fp s H) a9 tc) (he:∀s H,PE (cxC X scope (own++cap) fp s H) a8 te)
 (I:Inv X pins σ H2 s₂) (T:Turn X.prog X.w X.K ac J fp it tn) (t0:tn 0 s₂.heap) (bn:∀b∈fp,om X pins H2 b)
 (hQ:∀p,H2 p=none->∃W:Nat->Nat->List V->St->Hp->Prop,(∃k,W 0 k [] (ph own.length caps σ) (upd H2 p (.lst [])))/\∀i k Y σ' H',W i k Y σ' H'->
  (J.stop i H'/\H' p=some (.lst Y)/\Q (.ref p) H')\/(J.go i H'/\∀x H2,J.yld i H' x H2->g x σ' H2 λσ2 H3=>tc σ2 H3 λb H4=>if b=true then
   te σ2 H4 λy H5=>H5 p=some (.lst Y)/\Y.length<sizeLine/\∃k',k'<k/\W (i+1) k' (Y++[y]) σ2 (upd H5 p (.lst (Y++[y])))
   else ∃k',k'<k/\W (i+1) k' Y σ2 H4))
 (cn:∀C p H' s' m,X.s₀.heap.objs.size<=C->C≠X.env.locals->(∀x c,X.env.cells.lookup x=some c->c≠C)->(∀q∈X.pn++pins,q.1≠C)->H' C=none->s'.heap.Ns C m->Inv X pins σ H' s'->Q (.ref p) H'->RR (.ref p) C (.ok .next) s'):
 wpAny (model X.prog X.w) X.A (newList []) (λY s₃=>wpAny (model X.prog X.w) X.A (newFunctionEnv scope X.env.globals (fk X.env scope.names []) [] X.env.qual none .none (some X.env)) (λa5 s₄=>
  codeAny (model X.prog X.w) X.A (.compStart (.ListComp a8 [⟨ac,a4,a9,0⟩] scope pos) 0 (.ref it) Y {a5 with scope:=relabel scope X.env}) (RR Y a5.locals) s₄) E s₃) E s₂:=by
 refine wpAny_newObj_type (C6 ?_)
 dsimp only
 have co:H2 s₂.heap.objs.size=none:=I.hok.fresh (Si _)
 have I3:Inv X pins σ (upd H2 s₂.heap.objs.size (.lst [])) {s₂ with heap:=s₂.heap.push {cls:=.type "list",dict:=none,data:=.seq ([]:List Value).toArray}}:=I.lnew (t':=s₂.toks) .nil (S1 _)
 obtain⟨W,⟨k0,w0⟩,bw⟩:=hQ s₂.heap.objs.size co
 have b1:∀b o,s₂.heap.get? b=some o->(s₂.heap.push {cls:=.type "list",dict:=none,data:=.seq ([]:List Value).toArray}).get? b=some o:=λb o e=>Heap.get?_push_of_some _ e
 have cp:∀b∈fp,b≠s₂.heap.objs.size:=λb hb=>by
  obtain⟨o,ho,_⟩:=T.obj 0 s₂.heap t0 b hb
  exact SX (Heap.lt_size ho)
 have ap:∀b∈fp,om X pins (upd H2 s₂.heap.objs.size (.lst [])) b:=λb hb=>⟨by rw[aV (cp b hb)];exact(bn b hb).1,(bn b hb).2⟩
 have b3:∀b∈fp,∃o,(s₂.heap.push {cls:=.type "list",dict:=none,data:=.seq ([]:List Value).toArray}).get? b=some o:=λb hb=>by
  obtain⟨o,ho,_⟩:=T.obj 0 s₂.heap t0 b hb
  exact⟨o,b1 b o ho⟩
 generalize a0:pushCells ((s₂.heap.push {cls:=.type "list",dict:=none,data:=.seq ([]:List Value).toArray}).push {cls:=.type "dict",data:=.dict #[]}) scope.names=h₁
 have a6:h₁.Ns (s₂.heap.push {cls:=.type "list",dict:=none,data:=.seq ([]:List Value).toArray}).objs.size λ_=>none:=by rw[<- a0];exact(Heap.Ns.new _ (.type "dict")).keeps (pushCells_keeps _ _)
 have hk:∀b o,(s₂.heap.push {cls:=.type "list",dict:=none,data:=.seq ([]:List Value).toArray}).get? b=some o->h₁.get? b=some o:=λb o e=>by rw[<- a0];exact pushCells_keeps _ _ b o (Heap.get?_push_of_some _ e)
 have a7:CellsOk h₁ ((s₂.heap.push {cls:=.type "list",dict:=none,data:=.seq ([]:List Value).toArray}).objs.size+1) (cellsFrom ((s₂.heap.push {cls:=.type "list",dict:=none,data:=.seq ([]:List Value).toArray}).objs.size+1) scope.names []):=by rw[<- a0];exact G7 _ _
 clear a0
 have b5:tn 0 h₁:=T.keep 0 _ _ t0 λb hb o e=>hk b o (b1 b o e)
 generalize b6:({s₂ with heap:=s₂.heap.push {cls:=.type "list",dict:=none,data:=.seq ([]:List Value).toArray}}:Shared)=s3 at I3
 have cr:s3.heap=s₂.heap.push {cls:=.type "list",dict:=none,data:=.seq ([]:List Value).toArray}:=by rw[<- b6]
 rw[<- cr] at a6 b3 hk a7 ⊢
 generalize s₂.heap.objs.size=D at *
 generalize db:upd H2 D (.lst [])=H3 at *
 have b7:∀s₄:Shared,s₄={s3 with heap:=h₁}->
  codeAny (model X.prog X.w) X.A (.compLoop (.ListComp a8 [⟨ac,a4,a9,0⟩] scope pos) 0 (.ref it) (.ref D) (compEnvC scope (cellsFrom (s3.heap.objs.size+1) scope.names (fk X.env scope.names [])) s3.heap.objs.size X.env)) (RR (.ref D) s3.heap.objs.size) s₄:=by
  rintro s₄ rfl
  have I4:=J3 (tk:=s3.toks) Sc I3 ap b3 a6 hk a7
  have as:∀{H':Hp},(∀b∈fp,H' b=none)->∀b∈fp,om (cxC X scope (own++cap) fp s3 H3) [] H' b:=λhn b hb=>by
   refine⟨hn b hb,(I4.ok.exf b hb).1,I4.ok.exfs b hb,.inl hb,(I4.ok.exf b hb).2,λp hp=>absurd (show p∈([]:List (Addr×Obj)) from hp) (by simp)⟩
  refine Hg (λn s'=>∃i Y σ' H',Inv (cxC X scope (own++cap) fp s3 H3) [] σ' H' s'/\tn i s'.heap/\(∀b∈fp,H' b=none)/\W i n Y σ' H') ?_ k0 ⟨0,[],_,_,I4,b5,λb hb=>(ap b hb).1,w0⟩
  rintro n s5 ⟨i,Y,σ5,H5,I5,b8,b9,w5⟩
  rcases bw i n Y σ5 H5 w5 with⟨cb,hp,q⟩ | ⟨go,step⟩
  ·refine thn (T.done (cxC X scope (own++cap) fp s3 H3) rfl rfl rfl hc i [] s5 σ5 H5 _ I5 (as b9) b8 cb) λr s6 ⟨hr,I6⟩=> ?_
   subst hr
   obtain⟨m,hm,_⟩:=I6.loc
   refine cn s3.heap.objs.size D H5 s6 m I3.sz (Nat.ne_of_gt I3.lt) (λx c e=> ?_) (λp hp=> ?_) I6.free hm (IY I3 I6 ap) q
   ·obtain⟨v,o,ho,_⟩:=I3.cell x c e
    exact SX (Heap.lt_size ho)
   ·exact SX (Heap.lt_size (I3.pin p hp).1)
  ·refine thn (T.item (cxC X scope (own++cap) fp s3 H3) rfl rfl rfl hc i [] s5 σ5 H5 _ I5 (as b9) b8 go) λr s6 ⟨u,hr,h6⟩=> ?_
   subst hr
   refine thn h6 λ_ s7 ⟨x,H7,I7,r7,y7,st7,fr7⟩=> ?_
   have cs:=I7.pinned (as fr7) (T.obj _ _ st7)
   refine thn (hg s3 H3 _ s7 σ5 H7 x u _ cs r7 (step x H7 y7)) λ_ s8 ⟨σ8,H8,I8,q8⟩=> ?_
   refine thn (ht s3 H3 _ s8 σ8 H8 _ I8 q8) λb s9 ⟨H9,I9,q9⟩=> ?_
   have again:∀{σz:St} {Hz:Hp} {sz:Shared},Inv (cxC X scope (own++cap) fp s3 H3) ([]++tF fp s7.heap) σz Hz sz->Inv (cxC X scope (own++cap) fp s3 H3) [] σz Hz sz/\tn (i+1) sz.heap/\∀b∈fp,Hz b=none:=λ{σz Hz sz} Iz=>by
    refine⟨Iz.unpinned,T.keep _ _ _ st7 λb hb o e=>(Iz.pin (b,o) (S0 _ (S0 _ (pj hb e)))).1,λb hb=> ?_⟩
    obtain⟨o,e,d⟩:=T.obj _ _ st7 b hb
    exact(Iz.pin (b,o) (S0 _ (S0 _ (pj hb e)))).2.1
   cases b with
   | false=>
    rw[if_neg SD] at q9 ⊢
    obtain⟨k',be,w'⟩:=q9
    obtain⟨a1,a2,a3⟩:=again I9
    exact⟨k',be,i+1,Y,σ8,H9,a1,a2,a3,w'⟩
   | true=>
    rw[if_pos rfl] at q9 ⊢
    refine thn (he s3 H3 _ s9 σ8 H9 _ I9 q9) λyv s10 ⟨y,H10,I10,r10,hp,hl,k',be,w'⟩=> ?_
    refine thn (d5 _ s10 σ8 H10 (.ref D) [y] (.ref D) [yv] (λv Hz=>Hz=upd H10 D (.lst (Y++[y]))) I10 rfl (.cons r10 .nil) ⟨D,Y,y,rfl,rfl,hp,hl,rfl⟩) λ_ s11 ⟨_,H11,I11,_,e11⟩=> ?_
    subst e11
    obtain⟨a1,a2,a3⟩:=again I11
    exact⟨k',be,i+1,Y++[y],σ8,_,a1,a2,a3,w'⟩
 have cc:=b7 _ rfl
 subst b6
 exact codeAny_compStart_list cc (T.self _ _ _ _ _ b5 cc)
theorem PTs.ok{X:Cx}{scope:Scope}{own cap:List Str}{caps:List Nat}{pins:List (Addr×Obj)}{σ:St}{H:Hp}{s:Shared}(I:Inv X pins σ H s)(J:qj X scope own cap caps):closureFor scope X.env=pure (fk X.env scope.names []):=
 Ac λn hn=>I.ok.has n (J.out hn)
theorem cR {Y ab ac:Expr} {am:List Expr} {scope:Scope} {pos:Pos} {own cap:List Str} {caps:List Nat} {wi:TI} {g:TG} {tc:TT} {te:TE} (hc:X.calm=true) (Sc:qj X scope own cap caps) (hi:PI X Y ab wi)
 (hg:∀fp s H,PG (cxC X scope (own++cap) fp s H) Y g) (ht:∀fp s H,PTs (cxC X scope (own++cap) fp s H) am tc) (he:∀fp s H,PE (cxC X scope (own++cap) fp s H) ac te)
 (hs:∀x,foldedSetIterable ab X.env x=pure x:=by intro _;rfl):PE X (.ListComp ac [⟨Y,ab,am,0⟩] scope pos) (sL own.length caps wi g tc te):=by
 intro pins s σ H Q I h
 rw[eval_ListComp]
 refine wpAny_comprehension_free (use:=none) rfl hs (PTs.ok I Sc) Sc.kind Sc.nm (thn (hi pins s σ H _ I h) λv s1 h1=>thn h1 λa5 s2 h2=> ?_)
 obtain⟨it,fp,tn,J,H2,e,I2,T,ap,f2,q⟩:=h2
 subst e
 refine xm (Q:=Q) (RR:=λas C=>compPost (model X.prog X.w) X.A X.xe none (EP X pins σ Q) as C) hc Sc (hg fp) (ht fp) (he fp) I2 T ap f2 q ?_
 intro C p H' s' m h1 h2 h3 h4 h5 hn I' q'
 exact⟨m,hn,λh' az=>⟨.ref p,H',I'.turned (it:=C) (t':=s'.toks) (λb o hb e=>az.extBut b o hb e) h5 (UN h2.symm) (.inr h1) h3 h4,rfl,q'⟩⟩
theorem fA {Y ab ac:Expr} {am:List Expr} {scope:Scope} {pos an py:Pos} {own cap:List Str} {caps:List Nat} {wi:TI} {g:TG} {tc:TT} {te:TE} {i:Nat} {y:Str} (hc:X.calm=true) (Sc:qj X scope own cap caps) (hi:PI X Y ab wi)
 (hg:∀fp s H,PG (cxC X scope (own++cap) fp s H) Y g) (ht:∀fp s H,PTs (cxC X scope (own++cap) fp s H) am tc) (he:∀fp s H,PE (cxC X scope (own++cap) fp s H) ac te)
 (hN:X.N.Nodup) (hx:X.N[i]? =some y) (hl:Loc X.env.scope y)
 (az:swapsWith (.ListComp ac [⟨Y,ab,am,0⟩] scope pos) (some (.Name y py)) an.line X.env=pure true)
 (hs:∀x,foldedSetIterable ab X.env x=pure x:=by intro _;rfl) (hf:X.fn y=true\/X.env.scope.names.lookup y=some .local:=by first | exact .inl rfl | exact .inr rfl | assumption):
 PS X (.Assign [.Name y py] (.ListComp ac [⟨Y,ab,am,0⟩] scope pos) an) (AW (sL own.length caps wi g tc te) (u0 i)):=by
 intro pins s σ H D I h
 rw[exec_Assign_Name_used _ _ _ _ az]
 refine wpAny_bind (wpAny_standAt (wpAny_bind ?_))
 show wpAny _ _ (do let _ <- comprehension (.ListComp ac [⟨Y,ab,am,0⟩] scope pos) scope X.env _ (newList []) false (eval ab X.env) (some (assign (.Name y py) X.env))) _ _ s
 refine wpAny_bind (wpAny_mono (wpAny_comprehension_free (use:=some (assign (.Name y py) X.env)) (Q:=λ_ s'=>SP X pins D .next s') rfl hs (PTs.ok I Sc) Sc.kind Sc.nm
  (thn (hi pins s σ H _ I h) λv s1 h1=>thn h1 λbi s2 h2=> ?_)) (λ_ s' hq=>wpAny_pure (wpAny_pure hq)) λ_ _ e=>e)
 obtain⟨it,fp,tn,J,H2,e,I2,T,a0,f2,q⟩:=h2
 subst e
 refine xm (Q:=λv H'=>u0 i v σ H' D.nx) (RR:=λa1 C=>compPost (model X.prog X.w) X.A X.xe (some (assign (.Name y py) X.env)) (λ_ s'=>SP X pins D .next s') a1 C) hc Sc (hg fp) (ht fp) (he fp) I2 T a0 f2 q ?_
 intro C p H' s' m h1 h2 h3 h4 h5 hn I' q'
 show wpAny _ _ (assign (.Name y py) X.env (.ref p)) _ _ _
 refine wpAny_assign_Name (zM I' hN hx hl (show RelV (.ref p) (.ref p) from rfl) (λs'' I'' ⟨a,hsb,ha⟩=> ?_) hf)
 have a2:C≠a:=by
  rcases ha with rfl | ha
  ·exact h2
  ·exact(h3 _ _ ha).symm
 exact⟨m,hn.sameBut hsb a2,λh' a3=>⟨_,H',I''.turned (it:=C) (t':=s''.toks) (λb o hb e=>a3.extBut b o hb e) h5 h2 (.inr h1) h3 h4,q'⟩⟩
end
section
variable {X : Cx}
def J9(K:R4):R2:=λx y H Q=>∃l b xs zs,x=.ref l/\y=.ref b/\SqL K H l xs/\SqL K H b zs/\xs.length+zs.length<=sizeLine/\∀p,H p=none->Q (.ref p) (upd H p (.lst (xs++zs)))
theorem KA:OpR X (binaryOp .Add) (J9 X.K):=by
 intro pins s σ H x y v u Q I rx ry h
 obtain⟨l,b,xs,zs,rfl,rfl,hH,hB,hz,q⟩:=h
 cases rx
 cases ry
 obtain⟨Y,r,pl,_⟩:=I.list hH
 obtain⟨J,r2,an,_⟩:=I.list hB
 obtain⟨⟨cls,dd,data,sl⟩,ho,hc,n,hd⟩:=pl.isList
 obtain⟨⟨a1,ap,data2,as⟩,ab,ac,n2,am⟩:=an.isList
 simp only at hc hd ac am
 subst hc hd ac am
 have e:Y.toArray++J.toArray=(Y++J).toArray:=by simp
 have a9:=r.length
 have bb:=r2.length
 refine concat_meets ⟨_,ho,rfl⟩ ⟨_,ab,rfl⟩ noFill_list_add seq_list_add PySem.F.slot_list_add PySem.F.entry_list_add (PySem.F.args_list_add_2 _ _) (list_addW l b Y.toArray J.toArray n n2 dd ap sl as (by simp only[Sq];omega)) ⟨ho,ab, ?_⟩
 rw[e]
 exact⟨.ref _,_,I.lnew (t':=s.toks) (r.append r2) (by rw[SH];omega),rfl,q _ I.fresh⟩
mutual
def RdV(K:R4)(H:Hp):PyData->V->Prop
 | .none,v=>v=.non
 | .bool b,v=>v=.bl b
 | .int i,v=>v=.int i
 | .str x,v=>v=.str x
 | .list ds,v=>∃a xs,v=.ref a/\SqL K H a xs/\o4 K H ds xs
 | .tuple ds,v=>∃a xs,v=.ref a/\SqT K H a xs/\o4 K H ds xs
 | .dict _,_=>False
def o4(K:R4)(H:Hp):List PyData->List V->Prop
 | [],xs=>xs=[]
 | d::ds,xs=>∃v r,xs=v::r/\RdV K H d v/\o4 K H ds r
end
mutual
theorem mU{pins:List (Addr×Obj)}{σ:St}{H:Hp}{s:Shared}(I:Inv X pins σ H s):∀{d:PyData} {v:V} {u:Value},RdV X.K H d v->RelV v u->∃J,Reads s.heap u d J
 | .none,v,u,h,r=>by
  unfold RdV at h;subst h
  cases (show u=Value.none from r);exact⟨_,.none⟩
 | .bool b,v,u,h,r=>by
  unfold RdV at h;subst h
  cases (show u=Value.bool b from r);exact⟨_,.bool b⟩
 | .int i,v,u,h,r=>by
  unfold RdV at h;subst h
  obtain⟨t,rfl⟩:=(show ∃t,u=Value.int i t from r);exact⟨_,.int i t⟩
 | .str x,v,u,h,r=>by
  unfold RdV at h;subst h
  obtain⟨t,rfl⟩:=(show ∃t,u=Value.str x t from r);exact⟨_,.str x t⟩
 | .list ds,v,u,h,r=>by
  unfold RdV at h
  obtain⟨a,xs,rfl,Y,hr⟩:=h
  cases (show u=Value.ref a from r)
  obtain⟨ac,rv,pl,_⟩:=I.list Y
  obtain⟨o,ho,hc,n,hd⟩:=pl.isList
  obtain⟨J,ra⟩:=rK I hr rv
  exact⟨_,.list ho hc hd (by simpa using ra)⟩
 | .tuple ds,v,u,h,r=>by
  unfold RdV at h
  obtain⟨a,xs,rfl,Y,hr⟩:=h
  cases (show u=Value.ref a from r)
  obtain⟨ac,rv,⟨o,ho,hc,n,hd⟩,_⟩:=I.tuple Y
  obtain⟨J,ra⟩:=rK I hr rv
  exact⟨_,.tuple ho hc hd (by simpa using ra)⟩
 | .dict _,v,u,h,r=>by unfold RdV at h;exact h.elim
theorem rK{pins:List (Addr×Obj)}{σ:St}{H:Hp}{s:Shared}(I:Inv X pins σ H s):∀{ds:List PyData} {xs:List V} {us:List Value},o4 X.K H ds xs->Vals xs us->∃J,ReadsAll s.heap us ds J
 | [],xs,us,h,r=>by
  unfold o4 at h;subst h
  cases r;exact⟨_,.nil⟩
 | d::ds,xs,us,h,r=>by
  unfold o4 at h
  obtain⟨v,w,rfl,h1,h2⟩:=h
  cases r with
  | cons Y r2=>
   obtain⟨J,a1⟩:=mU I h1 Y
   obtain⟨bs,a2⟩:=rK I h2 r2
   exact⟨_,.cons a1 a2⟩
end
def Oq(K:R4):R2:=λx y H Q=>∃d e,RdV K H d x/\RdV K H e y/\SeqAt.shaped d=true/\SeqAt.shaped e=true/\Q (.bl (PyData.eqv d e)) H
def Oi(K:R4):R2:=λx y H Q=>∃d e,RdV K H d x/\RdV K H e y/\SeqAt.shaped d=true/\SeqAt.shaped e=true/\Q (.bl (!PyData.eqv d e)) H
theorem NV(hu:X.A.units+64<cLine):OpR X (compareOp .Eq) (Oq X.K):=by
 intro pins s σ H x y v u Q I J Y h
 obtain⟨d,e,h1,h2,s1,s2,q⟩:=h
 obtain⟨as,ra⟩:=mU I h1 J
 obtain⟨bs,rb⟩:=mU I h2 Y
 exact SeqAt.compareEq_shaped ra rb s1 s2 hu ⟨.bl _,H,I,rfl,q⟩
theorem N0(hu:X.A.units+64<cLine):OpR X (compareOp .NotEq) (Oi X.K):=by
 intro pins s σ H x y v u Q I J Y h
 obtain⟨d,e,h1,h2,s1,s2,q⟩:=h
 obtain⟨as,ra⟩:=mU I h1 J
 obtain⟨bs,rb⟩:=mU I h2 Y
 exact SeqAt.compareNe_shaped ra rb s1 s2 hu ⟨.bl _,H,I,rfl,q⟩
def OO(K:R4)(H:Hp)(x:V)(T:String):Prop:=match x with
 | .non=>T="NoneType"
 | .bl _=>T="bool"
 | .int _=>T="int"
 | .str _=>T="str"
 | .ref a=>(T="list" /\∃xs,SqL K H a xs)\/(T="tuple" /\∃xs,SqT K H a xs)
 | _=>False
def JU(K:R4):List V->Hp->VK->Prop:=λxs H Q=>∃x c T b,xs=[x,.ty c]/\OO K H x T/\Wq K (.type T) (.type c)=some b/\Q (.bl b) H
theorem kM:my X (.builtin "isinstance") (JU X.K):=by
 intro pins s σ H xs us Q I r h
 obtain⟨x,c,T,b,rfl,Y,hk,q⟩:=h
 obtain⟨u,w,rfl,r1,r2⟩:=vals2 r
 cases (show w=Value.type c from r2)
 have J:∀tk,EP X pins σ Q (.bool b) {s with toks:=tk}:=λtk=>⟨.bl b,H,I.tok tk,rfl,q⟩
 cases x with
 | non=>cases (show u=Value.none from r1);cases (show T="NoneType" from Y);exact Ui PySem.W.kitx_none I.kIn UR hk (λz=>nomatch z) J
 | bl y=>cases (show u=Value.bool y from r1);cases (show T="bool" from Y);exact Ui PySem.W.kitx_bool I.kIn UR hk (λz=>nomatch z) J
 | int i=>obtain⟨t,e⟩:=(show ∃t,u=Value.int i t from r1);cases e;cases (show T="int" from Y);exact Ui PySem.W.kitx_int I.kIn UR hk (λz=>nomatch z) J
 | str y=>obtain⟨t,e⟩:=(show ∃t,u=Value.str y t from r1);cases e;cases (show T="str" from Y);exact Ui PySem.W.kitx_str I.kIn UR hk (λz=>nomatch z) J
 | ref a=>
  cases (show u=Value.ref a from r1)
  rcases Y with⟨rfl,xs,hs⟩ | ⟨rfl,xs,hs⟩
  ·obtain⟨am,rv,⟨o,n,ho,hc,_⟩,_⟩:=I.list hs
   exact Ui PySem.W.kitx_list I.kIn ⟨o,ho,hc⟩ hk (λz=>nomatch z) J
  ·obtain⟨am,rv,⟨o,ho,hc,_⟩,_⟩:=I.tuple hs
   exact Ui PySem.W.kitx_tuple I.kIn ⟨o,ho,hc⟩ hk (λz=>nomatch z) J
 | byt y=>exact R5 Y
 | flt y=>exact R5 Y
 | ty y=>exact R5 Y
end
structure Q6(S:List Addr)(e:Addr)(oe:Obj)(h h':Heap)(T:Addr):Prop where
 keep:∀b o,h.get? b=some o->b∉S->b≠e->h'.get? b=some o
 slot:∀b o,h.get? b=some o->b∈S->∃sl,h'.get? b=some {o with slots:=sl}
 new:h.objs.size<=T
 ne:T≠e
 exc:∃oe' vs,h'.get? e=some oe'/\oe'.cls=oe.cls/\oe'.dict=oe.dict/\oe'.data=.fields vs/\vs[1]? =some (.ref T)
 trc:∃oT ts,h'.get? T=some oT/\oT.data=.fields ts/\ts[3]? =some .none
section
variable {M : Model} {A : Around} {E : Value → Shared → Prop} {s : Shared}
structure Trc(h:Heap)(e:Addr)(oe:Obj)(T:Addr):Prop where
 exc:h.get? e=some oe
 dat:∃vs,oe.data=.fields vs/\vs[1]? =some (.ref T)
 ne:T≠e
 trc:∃oT ts,h.get? T=some oT/\oT.data=.fields ts/\ts[3]? =some .none
end
structure OI(P:Program)(w:World)(fs:List Addr)(H:Hp)(h:Heap)(x:Addr)(H':Hp)(h':Heap)(oe:Obj)(T C:Addr):Prop where
 un:Un fs [] H H' h h'
 hok:HOk P w H' h'
 nx:h.get? x=none
 nT:h.get? T=none
 hx:H' x=none
 hT:H' T=none
 tr:Trc h' x oe T
 cls:oe.cls=.ref C
def CXE(P:Program)(w:World):CXT:=λouter H s E e s'=>∃x J T H' C,e=.ref x/\s'.os=s.os/\AllBare s'.gens/\OI P w (frs outer) H s.heap x H' s'.heap J T C/\E (.ref C) J.dict H'
section
variable {X : Cx} {pins : List (Addr × Obj)} {σ : St} {H : Hp} {s : Shared}
end
section
variable {P : Program} {w : World} {K : R4} {mg : Str → Option Value} {base : Heap} {N : List Str} {qual : Str} {scope : Scope} {f : Addr} {cd : Value} {A : Around} {outer : List Env} {s0 : Shared} {H0 : Hp} {E : XK}
end
section
variable {X : Cx} {E : XK} {c : Str} {C : Addr} {np cpos pos : Pos} {e : Expr} {es : List Expr} {t : TA} {B newId initId : String} {bmB : List Value}
end
section
variable {P : Program} {w : World} {K : R4} {mg : Str → Option Value} {base : Heap}
theorem Fun.okE {CX:CXT} {x qual:Str} {st:Stmt} {f:Addr} {fd:FuncData} {N ps:List Str} {k:Nat} {sp:Sp} (F:Fun K x qual st f fd) (S:bq N ps (aF st)) (Y:∀vs H Q E,sp vs H Q E->vs.length=ps.length)
 (hb:∀(J:Value) (A:Around) (outer:List Env) (s:Shared) (H:Hp) (vs:List V) (Q:VK) (E:XK),fX k (A.deeper (envOfC qual (aF st) s.heap.objs.size f J))->sp vs H Q E->
  ∃t,PSs (vS CX P w K mg base N qual (aF st) f J A outer s H E) (bj st) t/\t {nx:=λ_ H'=>Q .non H',rt:=Q} (start N vs) H):lM P w K mg base CX (k+1) f fd ps sp:=by
 obtain⟨oc,od,kV,ac,pm,an,J,ct,am,rfl,look,ab⟩:=F.ex
 exact O6 look ab S Y (hb J)
end
theorem Ia {l:VA} {n k:Nat} {q:Program} {J:List Str} {XP:(Str->Option Value)->Heap->Prop} {YP:World->Heap->Prop} {d:DefRec} {K:Params->R4} {sp:R4->Sp} {x:Str} (hn:l.most=some n) (Y:n<=sizeLine)
 (ab:d.params.defaults=[]) (hr:fX k callerA) (hi:importsNone q=true) (hY:∀(w:World) (h:Heap),YP w h->(K w.params).In h) (F:∀(w:World) (mg:Str->Option Value) (fa:Addr) (h:Heap),(K w.params).In h->h.Ns mainGlobals mg->mg d.name=some (.ref fa)->
  ∃fd:FuncData,(∀(s:Shared) (u:Value),BindsTo s fd ⟨[u],[]⟩ [(x,u)])/\∀base:Heap,(K w.params).In base->base.Ns mainGlobals mg->lM l.prog w (K w.params) mg base (CXE l.prog w) k fa fd [x] (sp (K w.params)))
 (ac:∀(K:R4) (H:Hp) (a:Addr) (ns:List Int),ns.length<=n->EV H->SqL K H a (ns.map V.int)->sp K [.ref a] H (λv _=>v=.bl true) λ_ _ _=>False):Wt q J XP YP l.row.toRowW d [] (λf vs=>Wg f vs):=
 Lg (K:=K) (CX:=λw=>CXE l.prog w) (sp:=λw=>sp (K w.params)) hn Y ab hr hi hY F (λw H a ns h1 h2 h3=>ac (K w.params) H a ns h1 h2 h3) λ_ _ _ _ _ ⟨_,_,_,_,_,_,_,_,_,z⟩=>z
section
variable {X : Cx} {CX : CXT} {k : Nat} {f C : Addr} {fd : FuncData} {ps : List Str} {sp : Sp} {dvs : List V} {ds : List Value} {Es : St → XK} {x m : Str} {p pos apos : Pos} {e o : Expr} {es : List Expr} {ta : TE} {t : TA}
end
section
variable {X : Cx} {pins : List (Addr × Obj)} {σ : St} {H : Hp} {s : Shared} {E : Value → Shared → Prop}
end
def exO(a C:Addr):HO:=.ext λh=>∃o,h.get? a=some o/\o.cls=.ref C/\o.dict=none/\(∀cd,o.data≠ .cls cd)
section
variable {X : Cx} {pins : List (Addr × Obj)} {σ : St} {H : Hp} {s : Shared} {v : Value}
end
structure QV(X:Cx)(pins:List (Addr×Obj))(H:Hp)(s:Shared)(x C:Addr):Prop where
 tr:∃oe T,Trc s.heap x oe T/\oe.cls=.ref C/\oe.dict=none
 hx:H x=none
 h0:X.s₀.heap.get? x=none
 nl:x≠X.env.locals
 nc:∀y c,X.env.cells.lookup y=some c->c≠x
 np:∀p∈X.pn++pins,p.1≠x
section
variable {X : Cx} {c : Str} {Dc : Addr} {np pos : Pos} {b0 : Stmt} {suite : List Stmt} {rest : List ExceptHandler} {sub : Addr → Option Bool} {tb : TS} {th : Addr → TS}
end
open PySem PySem.Spec PyProof.Rows PySem.W
structure ExK(K:R4)(D:Addr):Prop where
 ga:findIn K (.ref D) "__getattribute__" =some (some (.builtin "BaseException.__getattribute__"))
 hk:findIn K (.ref D) "__getattr__" =some none
 cl:findIn K (.ref D) "__class__" =some (some (.builtin "object.__class__"))
 gt:specialIn K (.builtin "object.__class__") "__get__" =some (some (.builtin "getset_descriptor.__get__"))
 tk:takesIn K (.builtin "object.__class__")=some true
 ob:mroIn K D (.type "object")=some true
 be:mroIn K D (.type "BaseException")=some true
section
variable {prog : Program} {w : World} {A : Around} {E : Value → Shared → Prop} {s : Shared} {K : R4} {x D : Addr} {ox : Obj}
end
open PySem PySem.Spec PyProof.Rows
section
variable {X : Cx} {pins : List (Addr × Obj)} {σ : List (Option V)} {H : Hp} {s : Shared} {h' : Heap}
theorem Inv.turnedL{t':Nat}{ch:List Addr}(I:Inv X pins σ H s)(k:∀b o,b∉ch->s.heap.get? b=some o->h'.get? b=some o)(Y:∀b∈ch,om X pins H b):Inv X pins σ H {s with heap:=h',toks:=t'}:=by
 have J:∀b u,H b=some u->b∉ch:=λb u e z=>by rw[(Y b z).1] at e;cases e
 refine I.step (g':=s.gens) (d':=s.drawn) (ch:=ch) (λb hb=> ?_) (λb o _ _ hc e _=>k b o hc e) (λb o _ _ hc e _=>⟨o.slots,k b o hc e⟩) (λ_ _ _ _ n=>n)
  (λb o hc e=>⟨o,k b o hc e⟩) (λ_ _ e=>e) (λ_ _ _ e=>e) (λb ps e=>⟨#[],by rw[e];simp⟩) (λm hm=> ?_) (λb u e=> ?_) I.bare
 ·obtain⟨f0,f1,f2,f3,f4,f5⟩:=Y b hb
  exact⟨f3,f1,f4,f5⟩
 ·obtain⟨o,es,ep,ho,r⟩:=hm
  exact⟨o,es,ep,k _ o (λz=>(Y _ z).2.1 rfl) ho,r⟩
 ·refine(I.hok b u e).stay (λc v hc q=>k c v ?_ q) (λ_ q=>q) λ_ _ q=>q
  rcases hc with z | z
  ·rw[z];exact J b u e
  ·exact J c _ z
theorem Inv.turnedT {t':Nat} {ch:List Addr} {T:Addr} {xs:List V} (I:Inv X pins σ H s) (k:∀b o,b∉ch->s.heap.get? b=some o->h'.get? b=some o) (Y:∀b∈ch,om X pins H b) (hT:s.heap.objs.size<=T)
 (ab:iY X.prog X.w (upd H T (.tup xs)) h' T (.tup xs)):Inv X pins σ (upd H T (.tup xs)) {s with heap:=h',toks:=t'}:=by
 have hn:H T=none:=I.hok.fresh hT
 have J:∀b u,H b=some u->b∉ch:=λb u e z=>by rw[(Y b z).1] at e;cases e
 refine I.step (g':=s.gens) (d':=s.drawn) (ch:=ch) (λb hb=> ?_) (λb o _ _ hc e _=>k b o hc e) (λb o _ _ hc e _=>⟨o.slots,k b o hc e⟩) (λb o _ e n=> ?_)
  (λb o hc e=>⟨o,k b o hc e⟩) (λb xs e=>by rw[aV (gi e hn)];exact e) (λb o u e=>by rw[aV (gi e hn)];exact e) (λb ps e=>⟨#[],by rw[aV (gi e hn),e];simp⟩) (λm hm=> ?_) (λb u e=> ?_) I.bare
 ·obtain⟨f0,f1,f2,f3,f4,f5⟩:=Y b hb
  exact⟨f3,f1,f4,f5⟩
 ·have hb:b≠T:=λz=>by
   subst z
   exact absurd (SJ (Heap.lt_size e) hT) (Tr _)
  rw[aV hb];exact n
 ·obtain⟨o,es,ep,ho,r⟩:=hm
  exact⟨o,es,ep,k _ o (λz=>(Y _ z).2.1 rfl) ho,r⟩
 ·by_cases hb:b=T
  ·subst hb;rw[cU] at e;cases e;exact ab
  ·rw[aV hb] at e
   refine(I.hok b u e).stay (λc v hc q=>k c v ?_ q) (λc q=>by rw[aV (gi q hn)];exact q) λc xs q=>by rw[aV (gi q hn)];exact q
   rcases hc with z | z
   ·rw[z];exact J b u e
   ·exact J c _ z
end
def Itz(K:R4)(a b:Addr):It:=
 ⟨λi H=>∃xs ys x y,SqL K H a xs/\SqL K H b ys/\xs[i]? =some x/\ys[i]? =some y,
  λi H v H'=>∃T x y,H T=none/\v=.ref T/\H'=upd H T (.tup [x,y])/\(∀xs,SqL K H a xs->xs[i]? =some x)/\∀ys,SqL K H b ys->ys[i]? =some y,
  λi H=>∃xs ys,SqL K H a xs/\SqL K H b ys/\(xs.length<=i\/ys.length<=i)⟩
def Ite(K:R4)(a:Addr):It:=
 ⟨λi H=>∃xs x,SqL K H a xs/\xs[i]? =some x,
  λi H v H'=>∃T x,H T=none/\v=.ref T/\H'=upd H T (.tup [.int i,x])/\∀xs,SqL K H a xs->xs[i]? =some x,
  λi H=>∃xs,SqL K H a xs/\xs.length<=i⟩
def Its(x:Str):It:=⟨λi _=>i<x.cps.size,λi H v H'=>H'=H/\∃c,x.cps[i]? =some c/\v=.str ⟨#[c]⟩,λi _=>x.cps.size<=i⟩
theorem Gu{P:Program}{w:World}{H:Hp}{h:Heap}{T:Addr}{x y:V}{u v:Value}(J:RelV x u)(Y:RelV y v)(hT:h.IsTuple T #[u,v]):iY P w H h T (.tup [x,y]):=by
 refine⟨by simp only[Ss,List.length_nil];rw[sizeLine_eq];decide,[u,v],.cons J (.cons Y .nil), ?_⟩
 exact hT
theorem Ik{P:Program}{w:World}{K:R4}{elts:List Expr}{kk:Nat}{tp:Pos}{z TI TO i1 i2 a b:Addr}(D:ZipApart z TI TO i1 i2 a b):
 Turn P w K (.Tuple elts kk tp) (Itz K a b) [z,TI,TO,i1,i2] z (λi h=>IsZip h z TI TO .none/\IsPair h TI (.ref i1) (.ref i2)/\(∃u v,IsPair h TO u v)/\h.IsListIter i1 a i/\h.IsListIter i2 b i) where
 mem:=by simp
 obj:=λi h st c hc=>by
  obtain⟨q1,q2,⟨u,v,q3⟩,⟨o1,e1,c1,d1⟩,⟨o2,e2,c2,d2⟩⟩:=st
  simp only[SA,TY,or_false] at hc
  rcases hc with rfl | rfl | rfl | rfl | rfl
  ·exact⟨_,q1,λv z=>by have z':Data.fields _=Data.cell v:=z;cases z'⟩
  ·exact⟨_,q2,λv z=>by have z':Data.seq _ _=Data.cell v:=z;cases z'⟩
  ·exact⟨_,q3,λv z=>by have z':Data.seq _ _=Data.cell v:=z;cases z'⟩
  ·exact⟨o1,e1,λv z=>by rw[d1] at z;cases z⟩
  ·exact⟨o2,e2,λv z=>by rw[d2] at z;cases z⟩
 keep:=λi h h' st k=>by
  obtain⟨q1,q2,⟨u,v,q3⟩,q4,q5⟩:=st
  exact⟨k z (by simp) _ q1,k TI (by simp) _ q2,⟨u,v,k TO (by simp) _ q3⟩,q4.at λo e=>k i1 (by simp) o e,q5.at λo e=>k i2 (by simp) o e⟩
 item:=by
  intro X hP hw hK hc i pins s σ H E I hf st hg
  subst hP hw hK
  obtain⟨xs,ys,x,y,hq1,hq2,hx,hy⟩:=hg
  obtain⟨its1,rv1,p1,hz1⟩:=I.list hq1
  obtain⟨its2,rv2,p2,hz2⟩:=I.list hq2
  obtain⟨u,hu,ru⟩:=rv1.get hx
  obtain⟨v,hv,rv⟩:=rv2.get hy
  obtain⟨q1,q2,q3,q4,q5⟩:=id st
  have W:=WalksT.zip2 (prog:=X.prog) (w:=X.w) (A:=X.A) (I.ok.hd hc) z TI TO i1 i2 a b D its1.toArray its2.toArray
  have hi1:i<its1.length:=(Sx.mp hu).1
  have hi2:i<its2.length:=(Sx.mp hv).1
  refine W.item i s _ _ (by simp;omega) ⟨q1,q2,q3,q4,q5,p1.isList,p2.isList⟩ λT vals h1 tk hP hT isT mid kk1=>⟨.ref T,rfl,W.go elts _ tp i T _ _ _ mid λh2 st2 kk2=> ?_⟩
  obtain⟨u',v',e1,e2,rfl⟩:=hP
  rw[show its1.toArray[i]? =its1[i]? by simp,hu] at e1
  rw[show its2.toArray[i]? =its2[i]? by simp,hv] at e2
  cases e1;cases e2
  have nT:T∉([z,TO,i1,i2]:List Addr):=W.apart i T _ mid
  have sub:∀c,c∈([z,TO,i1,i2]:List Addr)->c∈([z,TI,TO,i1,i2]:List Addr):=λc hc=>by
   simp only[SA,TY,or_false] at hc ⊢
   rcases hc with h | h | h | h <;> simp[h]
  have kk:∀c o,c∉([z,TO,i1,i2]:List Addr)->s.heap.get? c=some o->h2.get? c=some o:=λc o hc e=>kk2 c o hc (kk1 c o hc e)
  have isT2:h2.IsTuple T #[u,v]:=by
   obtain⟨o,e,c,d⟩:=isT
   exact⟨o,kk2 T o nT e,c,d⟩
  have I2:Inv X pins σ (upd H T (.tup [x,y])) {s with heap:=h2,toks:=tk}:=I.turnedT kk (λc hc=>hf c (sub c hc)) hT (Gu ru rv isT2)
  refine⟨.ref T,_,I2,rfl,⟨T,x,y,I.hok.fresh hT,rfl,rfl,λxs' h=>by rw[I.list_inj h hq1];exact hx,λys' h=>by rw[I.list_inj h hq2];exact hy⟩,⟨st2.1,st2.2.1,st2.2.2.1,st2.2.2.2.1,st2.2.2.2.2.1⟩,λc hc=> ?_⟩
  have hc0:=(hf c hc).1
  rw[aV (λe=> ?_)]
  ·exact hc0
  ·subst e
   simp only[SA,TY,or_false] at hc
   rcases hc with h | h | h | h | h
   ·exact nT (by simp[h])
   ·have:TI<s.heap.objs.size:=Heap.lt_size q2
    rw[<- h] at this
    exact absurd (SJ this hT) (Tr _)
   ·exact nT (by simp[h])
   ·exact nT (by simp[h])
   ·exact nT (by simp[h])
 done:=by
  intro X hP hw hK hc i pins s σ H E I hf st hg
  subst hP hw hK
  obtain⟨xs,ys,hq1,hq2,hx⟩:=hg
  obtain⟨its1,rv1,p1,hz1⟩:=I.list hq1
  obtain⟨its2,rv2,p2,hz2⟩:=I.list hq2
  have l1:=rv1.length
  have l2:=rv2.length
  obtain⟨q1,q2,⟨u,v,q3⟩,q4,q5⟩:=id st
  refine wpAny_pyNext_zip_end (I.ok.hd hc) D q1 q2 q3 q4 q5 p1.isList p2.isList (by
   rcases hx with h | h
   ·left;simp;omega
   ·right;simp;omega) λh' hk=>⟨rfl, ?_⟩
  exact I.turnedL (t':=s.toks) (ch:=[z,TI,TO,i1,i2]) (λc o hc e=>hk c o (λx=>hc (by simp[x])) (λx=>hc (by simp[x])) (λx=>hc (by simp[x])) (λx=>hc (by simp[x])) e) hf
 self:=λ_ _ _ _ _ st h=>wpAny_pyIter_zip st.1 h
theorem G2{P:Program}{w:World}{K:R4}{elts:List Expr}{kk:Nat}{tp:Pos}{e it a:Addr}(hei:e≠it)(hle:a≠e)(hli:a≠it):
 Turn P w K (.Tuple elts kk tp) (Ite K a) [e,it] e (λi h=>(∃old,IsEnum h e it i old)/\h.IsListIter it a i) where
 mem:=by simp
 obj:=λi h st c hc=>by
  obtain⟨⟨old,q1⟩,⟨o1,e1,c1,d1⟩⟩:=st
  simp only[SA,TY,or_false] at hc
  rcases hc with rfl | rfl
  ·exact⟨_,q1,λv z=>by have z':Data.fields _=Data.cell v:=z;cases z'⟩
  ·exact⟨o1,e1,λv z=>by rw[d1] at z;cases z⟩
 keep:=λi h h' st k=>by
  obtain⟨⟨old,q1⟩,q4⟩:=st
  exact⟨⟨old,k e (by simp) _ q1⟩,q4.at λo e'=>k it (by simp) o e'⟩
 item:=by
  intro X hP hw hK hc i pins s σ H E I hf st hg
  subst hP hw hK
  obtain⟨xs,x,hq1,hx⟩:=hg
  obtain⟨its1,rv1,p1,hz1⟩:=I.list hq1
  obtain⟨u,hu,ru⟩:=rv1.get hx
  obtain⟨q1,q4⟩:=id st
  have W:=WalksT.enumerate (prog:=X.prog) (w:=X.w) (A:=X.A) (I.ok.hd hc) e it a hei hle hli its1.toArray
  have hi1:i<its1.length:=(Sx.mp hu).1
  refine W.item i s _ _ (by simpa using hi1) ⟨q1,q4,p1.isList⟩ λT vals h1 tk hP hT isT mid kk1=>⟨.ref T,rfl,W.go elts _ tp i T _ _ _ mid λh2 st2 kk2=> ?_⟩
  obtain⟨t,u',e1,rfl⟩:=hP
  rw[show its1.toArray[i]? =its1[i]? by simp,hu] at e1
  cases e1
  have nT:T∉([e,it]:List Addr):=W.apart i T _ mid
  have kk:∀c o,c∉([e,it]:List Addr)->s.heap.get? c=some o->h2.get? c=some o:=λc o hc e=>kk2 c o hc (kk1 c o hc e)
  have isT2:h2.IsTuple T #[.int i t,u]:=by
   obtain⟨o,e,c,d⟩:=isT
   exact⟨o,kk2 T o nT e,c,d⟩
  have I2:Inv X pins σ (upd H T (.tup [.int i,x])) {s with heap:=h2,toks:=tk}:=I.turnedT kk hf hT (Gu ⟨t,rfl⟩ ru isT2)
  refine⟨.ref T,_,I2,rfl,⟨T,x,I.hok.fresh hT,rfl,rfl,λxs' h=>by rw[I.list_inj h hq1];exact hx⟩,⟨st2.1,st2.2.1⟩,λc hc=> ?_⟩
  have hcT:c≠T:=λz=>by
   subst z
   exact nT hc
  rw[aV hcT]
  exact(hf c hc).1
 done:=by
  intro X hP hw hK hc i pins s σ H E I hf st hg
  subst hP hw hK
  obtain⟨xs,hq1,hx⟩:=hg
  obtain⟨its1,rv1,p1,hz1⟩:=I.list hq1
  have l1:=rv1.length
  obtain⟨⟨old,q1⟩,q4⟩:=id st
  refine wpAny_pyNext_enum_end (I.ok.hd hc) q1 q4 p1.isList (by simp;omega) λh' hk=>⟨rfl, ?_⟩
  exact I.turnedL (t':=s.toks) (ch:=[e,it]) (λc o hc e'=>hk c o (λx=>hc (by simp[x])) e') hf
 self:=λ_ _ _ _ _ st h=>let ⟨_,q⟩:=st.1;wpAny_pyIter_enum q h
theorem HY{P:Program}{w:World}{K:R4}{tg:Expr}(it:Addr)(x:Str)(t:Tok)(ty:String)(hty:ty="str_ascii_iterator" \/ty="str_iterator"):Turn P w K tg (Its x) [it] it (λi h=>h.IsStrIter it ty x t i) where
 mem:=by simp
 obj:=λi h st b hb=>by
  have e:b=it:=by simpa using hb
  subst e
  obtain⟨o,e,c,d⟩:=st
  exact⟨o,e,λv z=>by rw[d] at z;cases z⟩
 keep:=λi h h' st k=>let ⟨o,ho,r⟩:=st;⟨o,k it (by simp) o ho,r⟩
 item:=by
  intro X hP hw hK hc i pins s σ H E I hf st hg
  subst hP hw hK
  have hg:i<x.cps.size:=hg
  have W:Walks X.prog X.w X.A it [it] [it] x.cps.size (SignAt x) (λi h=>h.IsStrIter it ty x t i):=by
   rcases hty with rfl | rfl
   ·exact Walks.strAscii (I.ok.hd hc) it x t
   ·exact Walks.strWide (I.ok.hd hc) it x t
  refine W.item i s _ _ hg st λv h' tk hv st' kk=> ?_
  obtain⟨c,u,hc',rfl⟩:=hv
  have I1:Inv X pins σ H {s with heap:=h',toks:=tk}:=I.turnedL kk hf
  obtain⟨o,e,hc1,d⟩:=id st'
  exact⟨_,rfl,Aq (s:={s with heap:=h',toks:=tk}) (n:=ty) e hc1 d (by rcases hty with rfl | rfl <;> decide) ⟨.str ⟨#[c]⟩,H,I1,⟨u,rfl⟩,⟨rfl,c,hc',rfl⟩,st',λb hb=>(hf b hb).1⟩⟩
 done:=by
  intro X hP hw hK hc i pins s σ H E I hf st hg
  subst hP hw hK
  have hg:x.cps.size<=i:=hg
  rcases hty with rfl | rfl
  ·exact wpAny_pyNext_ascii_end (I.ok.hd hc) st (by simp;omega) λh' eb=>⟨rfl,I.turnedL (t':=s.toks) (ch:=[it]) (λb o hb e=>eb b o (λz=>hb (by simp[z])) e) hf⟩
  ·exact wpAny_pyNext_wide_end (I.ok.hd hc) st (by simp;omega) λh' eb=>⟨rfl,I.turnedL (t':=s.toks) (ch:=[it]) (λb o hb e=>eb b o (λz=>hb (by simp[z])) e) hf⟩
 self:=λ_ _ _ _ _ st h=>by
  rcases hty with rfl | rfl
  ·exact wpAny_pyIter_striter_ascii st h
  ·exact wpAny_pyIter_striter_wide st h
section
variable {X : Cx} {tg : Expr}
def Ih(K:R4)(ta:TA):TI:=λσ H R=>ta σ H λvs H1=>∃a b,vs=[.ref a,.ref b]/\(∃xs,SqL K H1 a xs)/\(∃ys,SqL K H1 b ys)/\R (Itz K a b) H1
def Kh(K:R4)(ta:TA):TI:=λσ H R=>ta σ H λvs H1=>∃a,vs=[.ref a]/\(∃xs,SqL K H1 a xs)/\R (Ite K a) H1
def MV(te:TE):TI:=λσ H R=>te σ H λx H1=>∃z,x=.str z/\R (Its z) H1
theorem uA{J:List Expr}{kk:Nat}{tp:Pos}{a b:Expr}{ta:TA}{p pos:Pos}(hg:Gl X "zip")(hm:X.mg "zip" =none)(ha:PA X [a,b] ta)(hs:starEach [a,b] X.env=[(false,eval a X.env),(false,eval b X.env)]:=by rfl)(Y:starEach [b] X.env=[(false,eval b X.env)]:=by rfl):
 PI X (.Tuple J kk tp) (.Call (.Name "zip" p) [a,b] [] pos) (Ih X.K ta):=by
 intro pins s σ H R I h
 refine Call_ (rC I hg hm Boot.«zip» (T6 (thn (ha pos pins s σ H _ I h) λus s1 ⟨vs,H1,I1,r1,q1⟩=> ?_) (by rw[hs,Y]) (by rw[Y];rfl)))
 obtain⟨l1,l2,e,⟨xs,ab⟩,⟨ys,ac⟩,q⟩:=q1
 subst e
 obtain⟨u,v,rfl,r,r'⟩:=vals2 r1
 cases r
 cases r'
 obtain⟨az,bb,p1,bd⟩:=I1.list ab
 obtain⟨a0,be,p2,bi⟩:=I1.list ac
 refine call_zip_2 p1.isList p2.isList λh' hz am an ap as bm hk=> ?_
 have a1:l1<s1.heap.objs.size:=by obtain⟨_,e,_⟩:=p1.isList;exact Heap.lt_size e
 have a2:l2<s1.heap.objs.size:=by obtain⟨_,e,_⟩:=p2.isList;exact Heap.lt_size e
 refine wpAny_pyIter_zip hz ⟨_,_,_,_,H1,rfl,I1.kept (t':=s1.toks) hk,Ik (zipApart_new a1 a2),⟨hz,am,⟨_,_,an⟩,ap,as⟩,λb hb=> ?_,q⟩
 have:s1.heap.objs.size<=b:=by
  simp only[SA,TY,or_false] at hb
  rcases hb with rfl | rfl | rfl | rfl | rfl <;> omega
 exact I1.fpOk this (I1.hok.fresh this)
theorem kR{J:List Expr}{kk:Nat}{tp:Pos}{a:Expr}{ta:TA}{p pos:Pos}(hg:Gl X "enumerate")(hm:X.mg "enumerate" =none)(ha:PA X [a] ta)(hs:starEach [a] X.env=[(false,eval a X.env)]:=by rfl):
 PI X (.Tuple J kk tp) (.Call (.Name "enumerate" p) [a] [] pos) (Kh X.K ta):=by
 intro pins s σ H R I h
 refine Call_ (rC I hg hm Boot.«enumerate» (T6 (thn (ha pos pins s σ H _ I h) λus s1 ⟨vs,H1,I1,r1,q1⟩=> ?_) hs rfl))
 obtain⟨l1,e,⟨xs,Y⟩,q⟩:=q1
 subst e
 obtain⟨u,rfl,ru⟩:=vals1 r1
 cases ru
 obtain⟨am,a3,p1,a4⟩:=I1.list Y
 refine call_enumerate_list p1.isList λh' hz ab a5 hk=> ?_
 have a1:l1<s1.heap.objs.size:=by obtain⟨_,e,_⟩:=p1.isList;exact Heap.lt_size e
 refine wpAny_pyIter_enum hz ⟨_,_,_,_,H1,rfl,I1.kept (t':=s1.toks) hk,G2 (e:=s1.heap.objs.size+1) (it:=s1.heap.objs.size) (a:=l1) (Nat.succ_ne_self _) (SX (VZ a1)) (SX a1),⟨⟨_,hz⟩,ab⟩,λb hb=> ?_,q⟩
 have:s1.heap.objs.size<=b:=by
  simp only[SA,TY,or_false] at hb
  rcases hb with rfl | rfl <;> omega
 exact I1.fpOk this (I1.hok.fresh this)
theorem M1{l:Expr}{tl:TE}(hl:PE X l tl):PI X tg l (MV tl):=by
 intro pins s σ H R I h
 refine thn (hl pins s σ H _ I h) λv s1 ⟨x,H1,I1,r1,q1⟩=> ?_
 obtain⟨z,e,q⟩:=q1
 subst e
 obtain⟨t,rfl⟩:=r1
 have J:∀(ty:String),(ty="str_ascii_iterator" \/ty="str_iterator")->PIE X pins σ tg R (.ref s1.heap.objs.size) {s1 with heap:=s1.heap.push {cls:=.type ty,data:=.fields #[.str z t,.int 0 0]}}:=λty Y=>by
  refine⟨s1.heap.objs.size,[s1.heap.objs.size],_,_,H1,rfl,I1.kept (t':=s1.toks) λb o e=>Heap.get?_push_of_some _ e,HY _ z t ty Y,⟨_,Heap.get?_push_size _ rfl,rfl,rfl⟩,λb hb=> ?_,q⟩
  have e:b=s1.heap.objs.size:=by simpa using hb
  subst e
  exact I1.fpOk (Si _) (I1.hok.fresh (Si _))
 cases ha:z.cps.all (· < 128)
 ·exact wpAny_pyIter_wide ha (J _ (.inr rfl))
 ·exact wpAny_pyIter_ascii ha (J _ (.inl rfl))
theorem rP:∀{ns:List Int} {J:List Value},Vals (ns.map V.int) J->IntsAre J ns
 | [],_,r=>by cases r;exact .nil
 | n::ns,_,r=>by
  cases r with
  | cons Y r2=>
   obtain⟨t,rfl⟩:=Y
   exact .cons _ _ (rP r2)
theorem um(hc:X.calm=true:=by rfl):my X (.builtin "sum") (λxs H Q=>∃(p:Addr) (ns:List Int),xs=[.ref p]/\SqL X.K H p (ns.map V.int)/\Q (.int ns.sum) H):=by
 intro pins s σ H xs us Q I r h
 obtain⟨p,ns,rfl,hq,q⟩:=h
 obtain⟨u,rfl,ru⟩:=vals1 r
 cases ru
 obtain⟨J,rv,pl,hz⟩:=I.list hq
 have hI:=rP rv
 obtain⟨xs,Y⟩:=hI.allInts.items
 have hn:numsOf J=ns:=hI.numsOf
 rw[show J=J.toArray.toList by simp,Y,nums_intItems] at hn
 refine sum_intListG (I.ok.hd hc) (Y▸pl.isList) λh' tk t' hk=> ?_
 rw[preSum_eq,Ti (by simp),hn]
 exact⟨.int ns.sum,H,I.kept (t':=tk) hk,⟨t',rfl⟩,q⟩
theorem Kn{bs:List Bool}{J:List Value}(Y:Vals (bs.map V.bl) J){i:Nat}{v:Value}(h:J.toArray[i]? =some v):v=.bool (bs.getD i false):=by
 have hi:i<J.length:=by
  have:=(Array.getElem?_eq_some_iff.mp h).1
  simpa using this
 have hb:i<bs.length:=by have:=Y.length;rw[R9] at this;omega
 obtain⟨u,hu,ru⟩:=Y.get (i:=i) (x:=.bl bs[i]) (by simp[hb])
 rw[show J.toArray[i]? =J[i]? by simp,hu] at h
 cases h
 cases ru
 simp[R6,hb]
theorem all_range(bs:List Bool):(Sg bs.length).all (λi=>bs.getD i false)=bs.all id:=by
 induction bs with
 | nil=>rfl
 | cons b bs J=>
  rw[Ss,UJ,UL,UD,UL]
  simp only[V0,VL,VM,id]
  rw[J]
theorem any_range(bs:List Bool):(Sg bs.length).any (λi=>bs.getD i false)=bs.any id:=by
 induction bs with
 | nil=>rfl
 | cons b bs J=>
  rw[Ss,UJ,Ux,Uq,Ux]
  simp only[V0,VL,VM,id]
  rw[J]
theorem qt(hc:X.calm=true:=by rfl):my X (.builtin "all") (λxs H Q=>∃(p:Addr) (bs:List Bool),xs=[.ref p]/\SqL X.K H p (bs.map V.bl)/\Q (.bl (bs.all id)) H):=by
 intro pins s σ H xs us Q I r h
 obtain⟨p,bs,rfl,hq,q⟩:=h
 obtain⟨u,rfl,ru⟩:=vals1 r
 cases ru
 obtain⟨J,rv,pl,hz⟩:=I.list hq
 have hl:=pl.isList
 have lt:p<s.heap.objs.size:=by obtain⟨_,e,_⟩:=hl;exact Heap.lt_size e
 have Y:J.toArray.size=bs.length:=by have:=rv.length;rw[R9] at this;simp;omega
 refine call_all_walk (wpAny_pyIter_list hl ?_)
 refine⟨_,_,_,_,_,_,λi=>bs.getD i false,rfl,Walks.list (A:=X.A.in1) (I.ok.hd hc) s.heap.objs.size p (SX lt) J.toArray,⟨⟨_,Heap.get?_push_size _ rfl,rfl,rfl⟩,hl.push _⟩,λi v s' Q' E' hP hQ=> ?_,λh' tk hk=> ?_⟩
 ·rw[Kn rv hP]
  exact wpAny_truthy_bool hQ
 ·rw[Y,all_range]
  refine⟨.bl (bs.all id),H,I.kept (t':=tk) λb o e=>hk b o (λz=> ?_) (Heap.get?_push_of_some _ e),rfl,q⟩
  have hb:=Heap.lt_size e
  rw[Sv.mp z] at hb
  exact absurd hb (Tr _)
theorem uw(hc:X.calm=true:=by rfl):my X (.builtin "any") (λxs H Q=>∃(p:Addr) (bs:List Bool),xs=[.ref p]/\SqL X.K H p (bs.map V.bl)/\Q (.bl (bs.any id)) H):=by
 intro pins s σ H xs us Q I r h
 obtain⟨p,bs,rfl,hq,q⟩:=h
 obtain⟨u,rfl,ru⟩:=vals1 r
 cases ru
 obtain⟨J,rv,pl,hz⟩:=I.list hq
 have hl:=pl.isList
 have lt:p<s.heap.objs.size:=by obtain⟨_,e,_⟩:=hl;exact Heap.lt_size e
 have Y:J.toArray.size=bs.length:=by have:=rv.length;rw[R9] at this;simp;omega
 refine call_any_walk (wpAny_pyIter_list hl ?_)
 refine⟨_,_,_,_,_,_,λi=>bs.getD i false,rfl,Walks.list (A:=X.A.in1) (I.ok.hd hc) s.heap.objs.size p (SX lt) J.toArray,⟨⟨_,Heap.get?_push_size _ rfl,rfl,rfl⟩,hl.push _⟩,λi v s' Q' E' hP hQ=> ?_,λh' tk hk=> ?_⟩
 ·rw[Kn rv hP]
  exact wpAny_truthy_bool hQ
 ·rw[Y,any_range]
  refine⟨.bl (bs.any id),H,I.kept (t':=tk) λb o e=>hk b o (λz=> ?_) (Heap.get?_push_of_some _ e),rfl,q⟩
  have hb:=Heap.lt_size e
  rw[Sv.mp z] at hb
  exact absurd hb (Tr _)
end
def pick{α:Type}(xs:List α)(lo hi st:Option Int):List α:=(sliceRange (sliceBounds lo hi st xs.length).1 (sliceBounds lo hi st xs.length).2.1 (sliceBounds lo hi st xs.length).2.2).filterMap (xs[·]?)
theorem qM{xs:List V}{us:List Value}(r:Vals xs us):∀J:List Nat,Vals (J.filterMap (xs[·]?)) (J.filterMap (us[·]?))
 | []=>.nil
 | j::J=>by
  have Y:=qM r J
  cases hn:xs[j]? with
  | some x=>
   obtain⟨u,hu,ru⟩:=r.get hn
   simp only[Tx,hn,hu]
   exact .cons ru Y
  | none=>
   have hv:us[j]? =none:=by
    rw[Vg] at hn ⊢
    rw[<- r.length];exact hn
   simp only[Tx,hn,hv]
   exact Y
def Qa(K:R4):V->Option Int->Option Int->Option Int->Hp->VK->Prop:=λx lo hi st H Q=>∃a xs,x=.ref a/\SqL K H a xs/\st≠some 0/\∀p,H p=none->Q (.ref p) (upd H p (.lst (pick xs lo hi st)))
def HV(K:R4)(te:TE)(tl th ts:TO):TE:=λσ H Q=>te σ H λx H1=>tl σ H1 λl H2=>th σ H2 λu J=>ts σ J λst Y=>Qa K x l u st Y Q
section
variable {X : Cx} {e se : Expr} {te : TE} {lo hi : Option Expr} {tl th ts : TO} {pos p2 : Pos}
theorem La(he:PE X e te)(hl:PO X lo tl)(hu:PO X hi th)(hs:PO X (some se) ts):PE X (.Subscript e (.Slice lo hi (some se) p2) pos) (HV X.K te tl th ts):=by
 intro pins s σ H Q I h
 refine Subscript_ (thn (he pins s σ H _ I h) λv s1 ⟨x,H1,I1,r1,q1⟩=> ?_)
 refine wpAny_Slice (thn (hl pins s1 σ H1 _ I1 q1) λvl s2 ⟨l,H2,I2,pl,q2⟩=>thn (hu pins s2 σ H2 _ I2 q2) λvu s3 ⟨u,H3,I3,pu,q3⟩=>thn (hs pins s3 σ H3 _ I3 q3) λvs s4 ⟨st,H4,I4,ps,q4⟩=> ?_)
 have I5:Inv X pins σ H4 {s4 with heap:=s4.heap.push {cls:=.type "slice",data:=.fields #[vl,vu,vs]}}:=I4.kept (t':=s4.toks) λb ob q=>Heap.get?_push_of_some _ q
 obtain⟨a,xs,rfl,hx,h0,q⟩:=q4
 cases r1
 obtain⟨Y,r,ht,hz⟩:=I5.list hx
 have J:=r.length
 show wpAny (model X.prog X.w) X.A (subscriptTail e (.Slice lo hi (some se) p2) (.ref a) (.ref s4.heap.objs.size)) (EP X pins σ Q) X.xe {s4 with heap:=s4.heap.push {cls:=.type "slice",data:=.fields #[vl,vu,vs]}}
 refine tail_any (ops:=[.ref a,.ref s4.heap.objs.size]) ht.isList.typeIs slot_list_getitem.lookup ?_ (by with_unfolding_all rfl)
 refine wpAny_getItem_list_slice ht.isList (Heap.IsSliceOf.new ..) pl pu ps h0 ?_ (by rw[Sq] <;> omega)
 have hp:slicePick Y.toArray l u st=((sliceRange (sliceBounds l u st xs.length).1 (sliceBounds l u st xs.length).2.1 (sliceBounds l u st xs.length).2.2).filterMap (Y[·]?)).toArray:=by
  unfold slicePick
  rw[Sq,<- J]
  simp
 have ac:(pick xs l u st).length<=xs.length:=by
  have h1:=slicePick_size_le Y.toArray l u st
  rw[hp,Sq,Sq,<- J] at h1
  have h2:=(qM r (sliceRange (sliceBounds l u st xs.length).1 (sliceBounds l u st xs.length).2.1 (sliceBounds l u st xs.length).2.2)).length
  show (List.filterMap (xs[·]?) _).length<=_
  rw[h2];exact h1
 rw[hp]
 refine⟨.ref _,_,I5.laid (t':=s4.toks) (o:=.lst (pick xs l u st)) (λb ob q=>Heap.get?_push_of_some _ q) (Si _) ?_,rfl,q _ (I5.hok.fresh (Si _))⟩
 exact⟨S4 ac hz,_,0,qM r _,Heap.get?_push_size _ rfl⟩
end
section
variable {X : Cx} {tg : Expr}
end
def nL(x:Str)(lo hi:Option Int):Str:=
 if ((Builtin.Str.strSliceIndices lo hi 1 x.length).length == x.length)=true then x else ⟨((Builtin.Str.strSliceIndices lo hi 1 x.length).filterMap (x.cps[·]?)).toArray⟩
section
variable {X : Cx}
def Km:V->Option Int->Option Int->Hp->VK->Prop:=λx lo hi H Q=>∃z,x=.str z/\z.length<=sizeLine/\Q (.str (nL z lo hi)) H
theorem GY:SlR X Km:=by
 intro pins s σ H x v vl vu lo hi sl Q I J Y pl pu h
 obtain⟨z,rfl,hz,q⟩:=h
 obtain⟨t,rfl⟩:=J
 refine⟨"str",_,F.slot_str_getitem.lookup,typeIs_str _ _ _, ?_⟩
 have part:∀{v:Value} {o:Option Int},IsPart v o->∃p:Option (Int×Tok),v=partValue p/\p.map (·.1)=o:=λh=>by
  cases h with
  | none=>exact⟨none,rfl,rfl⟩
  | int i t=>exact⟨some (i,t),rfl,rfl⟩
 obtain⟨l,rfl,rfl⟩:=part pl
 obtain⟨u,rfl,rfl⟩:=part pu
 refine wpAny_getItem_str_slice (l:=l) (u:=u) (st:=none) Y rfl ?_
 unfold sliceMade
 show Made.post (if (true&&((Builtin.Str.strSliceIndices (l.map (·.1)) (u.map (·.1)) 1 z.length).length == z.length))=true then _ else _) _ _
 unfold nL at q
 rw[Uy]
 by_cases hc:((Builtin.Str.strSliceIndices (l.map (·.1)) (u.map (·.1)) 1 z.length).length == z.length)=true
 ·rw[if_pos hc] at q ⊢
  exact⟨.str z,H,I,⟨t,rfl⟩,q⟩
 ·rw[if_neg hc] at q ⊢
  refine⟨?_,⟨.str _,H,I.tok _,⟨_,rfl⟩,q⟩⟩
  show (Tp _).size<=_
  rw[Sq]
  exact S4 (S4 (List.length_filterMap_le _ _) (sliceIndices_le _ _ _)) hz
end
section
variable {X : Cx}
end
section
variable {X : Cx}
end
section
variable {X : Cx}
def isT(y:Str):Value->Bool
 | .str a _=>a == y
 | _=>false
end
section
variable {prog : Program} {w : World} {A : Around} {R : Result → Shared → Prop} {I : Addr} {fp wr : List Addr} {G : Array GenState → Array GenState → Prop} {n : Nat} {P : Nat → Value → Prop} {St : Nat → Shared → Prop}
end
section
variable {prog : Program} {w : World} {A : Around} {E : Value → Shared → Prop} {s : Shared}
end
section
variable {X : Cx} {e : Expr} {te : TE} {x y : Str} {p1 p2 q1 q2 : Pos}
end
open PySem PySem.Spec PyProof.Rows PySem.W
def ki{α:Type}(lt:Nat->Nat->Bool):KasT α->α
 | .ret a=>a
 | .ask i j k=>ki lt (k (lt i j))
theorem mV{α β:Type}(lt:Nat->Nat->Bool)(f:α->KasT β):∀t:KasT α,ki lt (t.bind f)=ki lt (f (ki lt t))
 | .ret _=>rfl
 | .ask i j k=>mV lt f (k (lt i j))
section
variable {O : KeyOrd} (key : Nat → O.α)
def kAt(p:Array Nat)(i:Nat):O.α:=key (p.getD i 0)
abbrev ltK:Nat->Nat->Bool:=λi j=>O.blt (key i) (key j)
def fg(p:Array Nat)(m:Nat):Prop:=∀i j,i<=j->j<m->O.kle (kAt key p i) (kAt key p j)
def mn(p:Array Nat)(m:Nat):Prop:=∀i j,i<=j->j<m->O.kle (kAt key p j) (kAt key p i)
def xp(p:Array Nat)(n q:Nat):Prop:=∀i,n<=i+(q+1)->i<n->kAt key p i=kAt key p (n-1)
variable {key}
theorem tN{p J:Array Nat}{i j:Nat}(h:J[i]? =p[j]?):kAt key J i=kAt key p j:=by
 unfold kAt
 rw[T7,T7,h]
theorem uU{p:Array Nat}{i j:Nat}(J:j<=p.size)(k:Nat):kAt key (kas_rev p i j) k=if i<=k/\k<j then kAt key p (i+j-1-k) else kAt key p k:=by
 have h:=getElem?_mirror_all (xs:=p) (i:=i) J k
 split at h
 ·rename_i c
  rw[if_pos c];exact tN h
 ·rename_i c
  rw[if_neg c];exact tN h
theorem sk(p:Array Nat)(i j:Nat):(kas_rev p i j).Perm p:=mirror_perm _ _ _ _
theorem hJ(p:Array Nat)(i j:Nat):(kas_rev p i j).size=p.size:=mirror_size _ _ _ _
theorem AF{p:Array Nat}{n q:Nat}(hn:n<=p.size)(hq:q+1<=n)(h:xp key p n q)(k:Nat):kAt key (kas_rev p (n-(q+1)) n) k=kAt key p k:=by
 rw[uU hn]
 split
 ·rename_i c
  rw[h _ (by omega) (by omega),h k (by omega) (by omega)]
 ·rfl
theorem fg.more{p:Array Nat}{n:Nat}(h1:1<=n)(h:fg key p n)(hn:O.kle (kAt key p (n-1)) (kAt key p n)):fg key p (n+1):=by
 intro i j J hj
 by_cases Y:j=n
 ·subst Y
  by_cases hi:i=j
  ·subst hi;exact KeyOrd.kle_refl _
  ·exact KeyOrd.kle_trans (h i (j-1) (by omega) (by omega)) hn
 ·exact h i j J (by omega)
theorem mn.more{p:Array Nat}{n:Nat}(h1:1<=n)(h:mn key p n)(hn:O.kle (kAt key p n) (kAt key p (n-1))):mn key p (n+1):=by
 intro i j J hj
 by_cases Y:j=n
 ·subst Y
  by_cases hi:i=j
  ·subst hi;exact KeyOrd.kle_refl _
  ·exact KeyOrd.kle_trans hn (h i (j-1) (by omega) (by omega))
 ·exact h i j J (by omega)
theorem yn{p:Array Nat}:∀(f n:Nat),1<=n->fg key p n->∃m,ki (ltK key) (kas_asc p f n)=m/\n<=m/\m<=n+f/\fg key p m/\(m<n+f->O.blt (kAt key p m) (kAt key p (m-1))=true)
 | 0,n,_,h=>⟨n,rfl,Si _,Si _,h,λz=>absurd z (Tr _)⟩
 | f+1,n,h1,h=>by
  show ∃m,ki (ltK key) (if O.blt (kAt key p n) (kAt key p (n-1))=true then KasT.ret n else kas_asc p f (n+1))=m/\_
  cases hc:O.blt (kAt key p n) (kAt key p (n-1)) with
  | true=>exact⟨n,rfl,Si _,by omega,h,λ_=>hc⟩
  | false=>
   obtain⟨m,e,a1,a2,J,Y⟩:=yn f (n+1) (by omega) (h.more h1 hc)
   exact⟨m,e,by omega,by omega,J,λz=>Y (by omega)⟩
theorem rV:∀(f:Nat) (p:Array Nat) (n q:Nat),1<=n->n+f<=p.size->q+1<=n->mn key p n->xp key p n q->
 ∃Y J q',ki (ltK key) (kas_desc f p n q)=(Y,J,q')/\Y.Perm p/\Y.size=p.size/\n<=J/\J<=n+f/\q'+1<=J/\mn key Y J/\xp key Y J q'
 | 0,p,n,q,_,_,hq,h,he=>⟨p,n,q,rfl,.refl _,rfl,Si _,Si _,hq,h,he⟩
 | f+1,p,n,q,h1,hs,hq,h,he=>by
  have ac:∀p:Array Nat,xp key p (n+1) 0:=λp i a b=>by rw[show i=n by omega];rfl
  show ∃Y J q',ki (ltK key) (if O.blt (kAt key p n) (kAt key p (n-1))=true then (if q>0 then kas_desc f (kas_rev p (n-(q+1)) n) (n+1) 0 else kas_desc f p (n+1) 0)
   else .ask (p.getD (n-1) 0) (p.getD n 0) λd=>if d=true then .ret (p,n,q) else kas_desc f p (n+1) (q+1))=(Y,J,q')/\_
  cases hc:O.blt (kAt key p n) (kAt key p (n-1)) with
  | true=>
   rw[if_pos rfl]
   have a1:O.kle (kAt key p n) (kAt key p (n-1)):=KeyOrd.kle_of_klt hc
   have hf:=h.more h1 a1
   by_cases am:q>0
   ·rw[if_pos am]
    have keep:=AF (key:=key) (p:=p) (n:=n) (q:=q) (by omega) hq he
    have a2:mn key (kas_rev p (n-(q+1)) n) (n+1):=λi j a b=>by rw[keep,keep];exact hf i j a b
    obtain⟨Y,J,q',e,b1,b2,b3,b4,b5,b6,b7⟩:=rV f (kas_rev p (n-(q+1)) n) (n+1) 0 (by omega) (by rw[hJ];omega) (by omega) a2 (ac _)
    exact⟨Y,J,q',e,b1.trans (sk _ _ _),b2.trans (hJ _ _ _),by omega,by omega,b5,b6,b7⟩
   ·rw[if_neg am]
    obtain⟨Y,J,q',e,b1,b2,b3,b4,b5,b6,b7⟩:=rV f p (n+1) 0 (by omega) (by omega) (by omega) hf (ac _)
    exact⟨Y,J,q',e,b1,b2,by omega,by omega,b5,b6,b7⟩
  | false=>
   rw[if_neg (by simp)]
   show ∃Y J q',ki (ltK key) (if O.blt (kAt key p (n-1)) (kAt key p n)=true then KasT.ret (p,n,q) else kas_desc f p (n+1) (q+1))=(Y,J,q')/\_
   cases hd:O.blt (kAt key p (n-1)) (kAt key p n) with
   | true=>exact⟨p,n,q,rfl,.refl _,rfl,Si _,by omega,hq,h,he⟩
   | false=>
    rw[if_neg (by simp)]
    have eq:kAt key p n=kAt key p (n-1):=O.total _ _ hc hd
    have a3:xp key p (n+1) (q+1):=λi a b=>by
     show kAt key p i=kAt key p n
     by_cases hi:i=n
     ·rw[hi]
     ·rw[eq];exact he i (by omega) (by omega)
    obtain⟨Y,J,q',e,b1,b2,b3,b4,b5,b6,b7⟩:=rV f p (n+1) (q+1) (by omega) (by omega) (by omega) (h.more h1 (by rw[eq];exact KeyOrd.kle_refl _)) a3
    exact⟨Y,J,q',e,b1,b2,by omega,by omega,b5,b6,b7⟩
theorem BY{p:Array Nat}{n nrem:Nat}(h1:1<=n)(hn:n<=nrem)(hs:nrem<=p.size)(h:mn key p n):
 ∃m J,ki (ltK key) (kas_tail3 n nrem p)=(m,J)/\J.Perm p/\J.size=p.size/\1<=m/\m<=nrem/\fg key J m:=by
 have Y:fg key (kas_rev p 0 n) n:=λi j a b=>by
  rw[uU (by omega),uU (by omega),if_pos ⟨S1 _,by omega⟩,if_pos ⟨S1 _,b⟩]
  exact h _ _ (by omega) (by omega)
 obtain⟨m,e,a1,a2,a3,_⟩:=yn (nrem-n) n h1 Y
 refine⟨m,kas_rev p 0 n, ?_,sk _ _ _,hJ _ _ _,by omega,by omega,a3⟩
 unfold kas_tail3
 rw[mV,e]
 rfl
theorem za{p:Array Nat}{n nrem:Nat}(h1:1<=n)(hn:n+1<=nrem)(hs:nrem<=p.size)(h:mn key p (n+1)):
 ∃m J,ki (ltK key) (kas_descPart n nrem p)=(m,J)/\J.Perm p/\J.size=p.size/\1<=m/\m<=nrem/\fg key J m:=by
 obtain⟨p1,Y,q1,e,b1,b2,b3,b4,b5,b6,b7⟩:=rV (key:=key) (nrem-(n+1)) p (n+1) 0 (by omega) (by omega) (by omega) h (λi a b=>by rw[show i=n by omega];rfl)
 unfold kas_descPart
 rw[mV,e]
 dsimp only
 by_cases hq:q1>0
 ·rw[if_pos hq]
  have keep:=AF (key:=key) (p:=p1) (n:=Y) (q:=q1) (by omega) b5 b7
  obtain⟨m,J,e2,c1,c2,c3,c4,c5⟩:=BY (key:=key) (p:=kas_rev p1 (Y-(q1+1)) Y) (n:=Y) (nrem:=nrem) (by omega) (by omega) (by rw[hJ];omega) (λi j a b=>by rw[keep,keep];exact b6 i j a b)
  exact⟨m,J,e2,c1.trans ((sk _ _ _).trans b1),c2.trans ((hJ _ _ _).trans b2),c3,c4,c5⟩
 ·rw[if_neg hq]
  obtain⟨m,J,e2,c1,c2,c3,c4,c5⟩:=BY (key:=key) (p:=p1) (n:=Y) (nrem:=nrem) (by omega) (by omega) (by omega) b6
  exact⟨m,J,e2,c1.trans b1,c2.trans b2,c3,c4,c5⟩
theorem Gw{p:Array Nat}{nrem:Nat}(h1:1<=nrem)(hs:nrem<=p.size):
 ∃m p',ki (ltK key) (kas_count nrem p)=(m,p')/\p'.Perm p/\p'.size=p.size/\1<=m/\m<=nrem/\fg key p' m:=by
 have s1:fg key p 1:=λi j a b=>by rw[show i=j by omega];exact KeyOrd.kle_refl _
 obtain⟨n,e,a1,a2,a3,a4⟩:=yn (key:=key) (p:=p) (nrem-1) 1 (Si _) s1
 unfold kas_count
 rw[mV,e]
 by_cases hn:n=nrem
 ·rw[if_pos (by simpa using hn)]
  exact⟨n,p,rfl,.refl _,rfl,a1,by omega,a3⟩
 ·rw[if_neg (by simpa using hn)]
  have ac:=a4 (by omega)
  by_cases h2:n>1
  ·rw[if_pos h2]
   show ∃m p',ki (ltK key) (if O.blt (kAt key p 0) (kAt key p (n-1))=true then KasT.ret (n,p) else kas_descPart n nrem (kas_rev p 0 n))=(m,p')/\_
   cases hc:O.blt (kAt key p 0) (kAt key p (n-1)) with
   | true=>exact⟨n,p,rfl,.refl _,rfl,a1,by omega,a3⟩
   | false=>
    rw[if_neg (by simp)]
    have same:∀i,i<n->kAt key p i=kAt key p (n-1):=λi hi=>by
     refine KeyOrd.kle_antisymm (a3 i (n-1) (by omega) (by omega)) ?_
     exact KeyOrd.kle_trans (show O.kle (kAt key p (n-1)) (kAt key p 0) from hc) (a3 0 i (S1 _) hi)
    have J:∀i,i<=n->kAt key (kas_rev p 0 n) i=kAt key p i:=λi hi=>by
     rw[uU (by omega)]
     split
     ·rename_i c
      rw[same _ (by omega),same i (by omega)]
     ·rfl
    have Y:mn key (kas_rev p 0 n) (n+1):=by
     refine mn.more (by omega) (λi j a b=> ?_) ?_
     ·rw[J i (by omega),J j (by omega),same i (by omega),same j (by omega)];exact KeyOrd.kle_refl _
     ·rw[J n (Si _),J (n-1) (by omega)];exact KeyOrd.kle_of_klt ac
    obtain⟨m,p',e2,c1,c2,c3,c4,c5⟩:=za (key:=key) (p:=kas_rev p 0 n) (n:=n) (nrem:=nrem) (by omega) (by omega) (by rw[hJ];omega) Y
    exact⟨m,p',e2,c1.trans (sk _ _ _),c2.trans (hJ _ _ _),c3,c4,c5⟩
  ·rw[if_neg h2]
   obtain rfl:n=1:=by omega
   have Y:mn key p (1+1):=mn.more (Si _) (λi j a b=>by rw[show i=j by omega];exact KeyOrd.kle_refl _) (KeyOrd.kle_of_klt ac)
   exact za (by omega) (by omega) hs Y
theorem tH{p:Array Nat}{k:Nat}(J:fg key p k):∀(f l r:Nat),l<=r->r<=k->r-l<=f->(∀i,i<l->O.kle (kAt key p i) (kAt key p k))->(∀i,r<=i->i<k->O.kle (kAt key p k) (kAt key p i))->
 ∃m,ki (ltK key) (kas_place p k f l r)=m/\m<=k/\(∀i,i<m->O.kle (kAt key p i) (kAt key p k))/\(∀i,m<=i->i<k->O.kle (kAt key p k) (kAt key p i))
 | 0,l,r,a,b,c,h1,h2=>⟨l,rfl,by omega,h1,λi hi hk=>h2 i (by omega) hk⟩
 | f+1,l,r,a,b,c,h1,h2=>by
  unfold kas_place
  by_cases Y:l ≥ r
  ·rw[if_pos Y]
   exact⟨l,rfl,by omega,h1,λi hi hk=>h2 i (by omega) hk⟩
  ·rw[if_neg Y]
   show ∃m,ki (ltK key) (if O.blt (kAt key p k) (kAt key p ((l+r)/2))=true then kas_place p k f l ((l+r)/2) else kas_place p k f ((l+r)/2+1) r)=m/\_
   cases hc:O.blt (kAt key p k) (kAt key p ((l+r)/2)) with
   | true=>
    rw[if_pos rfl]
    exact tH J f l ((l+r)/2) (by omega) (by omega) (by omega) h1 λi hi hk=>KeyOrd.kle_trans (KeyOrd.kle_of_klt hc) (J _ _ hi hk)
   | false=>
    rw[if_neg (by simp)]
    exact tH J f ((l+r)/2+1) r (by omega) b (by omega) (λi hi=>KeyOrd.kle_trans (J i ((l+r)/2) (by omega) (by omega)) hc) h2
theorem ED:∀(f:Nat) (p:Array Nat) (k:Nat),k+f<=p.size->fg key p k->∃J,ki (ltK key) (kas_bin f p k)=J/\J.Perm p/\J.size=p.size/\fg key J (k+f)
 | 0,p,k,_,h=>⟨p,rfl,.refl _,rfl,h⟩
 | f+1,p,k,hk,h=>by
  obtain⟨m,e,m1,m2,m3⟩:=tH h k 0 k (S1 _) (Si _) (by omega) (λi hi=>absurd hi (by omega)) (λi a b=>absurd b (by omega))
  have at_:∀i,kAt key (bubble p k (k-m)) i=if i=m then kAt key p k else if m<i/\i<=k then kAt key p (i-1) else kAt key p i:=λi=>by
   have g:=getElem?_bubble (xs:=p) (src:=k) (by omega) (k-m) (by omega) i
   rw[show k-(k-m)=m by omega] at g
   split at g
   ·rename_i c;rw[if_pos c];exact tN g
   ·rename_i c
    rw[if_neg c]
    split at g
    ·rename_i d;rw[if_pos d];exact tN g
    ·rename_i d;rw[if_neg d];exact tN g
  have so:fg key (bubble p k (k-m)) (k+1):=λi j a b=>by
   rw[at_,at_]
   by_cases hi:i=m
   ·rw[if_pos hi]
    by_cases Y:j=m
    ·rw[if_pos Y];exact KeyOrd.kle_refl _
    ·rw[if_neg Y,if_pos (by omega)];exact m3 _ (by omega) (by omega)
   ·rw[if_neg hi]
    by_cases ab:m<i/\i<=k
    ·rw[if_pos ab,if_neg (by omega),if_pos (by omega)]
     exact h _ _ (by omega) (by omega)
    ·rw[if_neg ab]
     by_cases Y:j=m
     ·rw[if_pos Y];exact m2 i (by omega)
     ·rw[if_neg Y]
      by_cases ac:m<j/\j<=k
      ·rw[if_pos ac];exact h _ _ (by omega) (by omega)
      ·rw[if_neg ac];exact h _ _ a (by omega)
  obtain⟨J,e2,c1,c2,c3⟩:=ED f (bubble p k (k-m)) (k+1) (by rw[bubble_size];omega) so
  refine⟨J, ?_,c1.trans (bubble_perm _ _ _),c2.trans (bubble_size _ _ _), ?_⟩
  ·unfold kas_bin
   rw[mV,e]
   exact e2
  ·rw[show k+(f+1)=k+1+f by omega];exact c3
theorem wR{n:Nat}(h1:1<=n):∃p,ki (ltK key) (kas_sort n)=p/\p.Perm (Tp (Sg n))/\p.size=n/\fg key p n:=by
 have sz:(Tp (Sg n)).size=n:=by simp
 obtain⟨m,p1,e,J,a2,a3,a4,Y⟩:=Gw (key:=key) (p:=Tp (Sg n)) (nrem:=n) h1 (by omega)
 unfold kas_sort
 rw[mV,e]
 dsimp only
 by_cases hm:m<n
 ·rw[if_pos hm,Nat.max_eq_left a3]
  obtain⟨p2,e2,b1,b2,b3⟩:=ED (key:=key) (n-m) p1 m (by omega) Y
  exact⟨p2,e2,b1.trans J,by omega,by rw[show m+(n-m)=n by omega] at b3;exact b3⟩
 ·rw[if_neg hm]
  obtain rfl:m=n:=by omega
  exact⟨p1,rfl,J,by omega,Y⟩
end
theorem lex_irrefl:∀a:List Int,HT.lexLt a a=false
 | []=>rfl
 | x::a=>by rw[HT.pz,if_pos rfl];exact lex_irrefl a
theorem lex_trans:∀a b c:List Int,HT.lexLt a b=true->HT.lexLt b c=true->HT.lexLt a c=true
 | [],[],_,h,_=>by cases h
 | [],_::_,[],_,h=>by cases h
 | [],_::_,_::_,_,_=>rfl
 | _::_,[],_,h,_=>by cases h
 | _::_,_::_,[],_,h=>by cases h
 | x::a,y::b,z::c,h1,h2=>by
  rw[HT.pz] at h1 h2 ⊢
  by_cases e1:x=y
  ·by_cases e2:y=z
   ·rw[if_pos e1] at h1
    rw[if_pos e2] at h2
    rw[if_pos (e1.trans e2)]
    exact lex_trans a b c h1 h2
   ·rw[if_neg e2] at h2
    rw[e1,if_neg e2];exact h2
  ·rw[if_neg e1] at h1
   have J:=of_decide_eq_true h1
   by_cases e2:y=z
   ·rw[<- e2,if_neg e1];exact h1
   ·rw[if_neg e2] at h2
    have Y:=of_decide_eq_true h2
    rw[if_neg (by omega)];exact decide_eq_true (by omega)
theorem qB:∀a b:List Int,HT.lexLt a b=false->HT.lexLt b a=false->a=b
 | [],[],_,_=>rfl
 | [],_::_,h,_=>by cases h
 | _::_,[],_,h=>by cases h
 | x::a,y::b,h1,h2=>by
  rw[HT.pz] at h1 h2
  by_cases e:x=y
  ·rw[if_pos e] at h1
   rw[if_pos e.symm] at h2
   rw[e,qB a b h1 h2]
  ·rw[if_neg e] at h1
   rw[if_neg (UN e)] at h2
   have J:=of_decide_eq_false h1
   have Y:=of_decide_eq_false h2
   omega
def ND:KeyOrd where
 α:=List Int
 blt:=HT.lexLt
 irrefl:=lex_irrefl
 trans:=lex_trans
 negTrans:=λa b c h=>by
  cases h1:HT.lexLt a b with
  | true=>exact .inl rfl
  | false=>
   right
   cases h2:HT.lexLt b c with
   | true=>rfl
   | false=>
    cases h3:HT.lexLt b a with
    | true=>
     have:=lex_trans b a c h3 h
     rw[h2] at this;cases this
    | false=>
     have:=qB a b h1 h3
     subst this
     rw[h] at h2;cases h2
 total:=qB
def Lv{α:Type}(N:Nat)(P:α->Prop):KasT α->Prop
 | .ret a=>P a
 | .ask i j k=>i<N/\j<N/\∀b,Lv N P (k b)
theorem Lv.bind{α β:Type}{N:Nat}{P:α->Prop}{P':β->Prop}{f:α->KasT β}(J:∀a,P a->Lv N P' (f a)):∀{t:KasT α},Lv N P t->Lv N P' (t.bind f)
 | .ret a,h=>J a h
 | .ask i j k,h=>⟨h.1,h.2.1,λb=>Lv.bind J (h.2.2 b)⟩
def Und(N:Nat)(p:Array Nat):Prop:=∀i,p.getD i 0<N
theorem Und.of{N:Nat}{p J:Array Nat}(h:Und N p)(hp:∀i:Nat,∃j:Nat,J[i]? =p[j]?):Und N J:=λi=>by
 obtain⟨j,e⟩:=hp i
 have:=h j
 rw[T7] at this ⊢
 rw[e];exact this
theorem Und.rev{N:Nat}{p:Array Nat}(h:Und N p){i j:Nat}(J:j<=p.size):Und N (kas_rev p i j):=h.of λk=>by
 have g:=getElem?_mirror_all (xs:=p) (i:=i) J k
 split at g
 ·exact⟨_,g⟩
 ·exact⟨_,g⟩
theorem Und.bub{N:Nat}{p:Array Nat}(h:Und N p){k d:Nat}(hk:k<p.size)(hd:d<=k):Und N (bubble p k d):=h.of λi=>by
 have g:=getElem?_bubble (xs:=p) hk d hd i
 split at g
 ·exact⟨_,g⟩
 ·split at g
  ·exact⟨_,g⟩
  ·exact⟨_,g⟩
theorem A9{N:Nat}{p:Array Nat}(h:Und N p):∀(f n:Nat),Lv N (λm=>n<=m/\m<=n+f) (kas_asc p f n)
 | 0,n=>⟨Si _,Si _⟩
 | f+1,n=>⟨h _,h _,λb=>by
  cases b with
  | true=>exact⟨Si _,by omega⟩
  | false=>
   have:=Lv.bind (f:=KasT.ret) (P':=λm=>n<=m/\m<=n+(f+1)) (λa ha=>(⟨by omega,by omega⟩:n<=a/\a<=n+(f+1))) (A9 h f (n+1))
   rw[show (kas_asc p f (n+1)).bind KasT.ret=kas_asc p f (n+1) from bind_ret _] at this
   exact this⟩
where bind_ret {α:Type}:∀t:KasT α,t.bind KasT.ret=t
  | .ret _=>rfl
  | .ask i j k=>congrArg (KasT.ask i j) (funext λb=>bind_ret (k b))
theorem Lv.mono{α:Type}{N:Nat}{P P':α->Prop}(h:∀a,P a->P' a):∀{t:KasT α},Lv N P t->Lv N P' t
 | .ret a,x=>h a x
 | .ask i j k,x=>⟨x.1,x.2.1,λb=>Lv.mono h (x.2.2 b)⟩
theorem uI{N S:Nat}:∀(f:Nat) (p:Array Nat) (n q:Nat),p.size=S->n+f<=S->Und N p->Lv N (λr:Array Nat×Nat×Nat=>r.1.size=S/\Und N r.1/\n<=r.2.1/\r.2.1<=n+f) (kas_desc f p n q)
 | 0,p,n,q,hz,_,h=>⟨hz,h,Si _,Si _⟩
 | f+1,p,n,q,hz,hs,h=>⟨h _,h _,λc=>by
  have J:∀{t:KasT (Array Nat×Nat×Nat)},Lv N (λr:Array Nat×Nat×Nat=>r.1.size=S/\Und N r.1/\n+1<=r.2.1/\r.2.1<=n+1+f) t->Lv N (λr:Array Nat×Nat×Nat=>r.1.size=S/\Und N r.1/\n<=r.2.1/\r.2.1<=n+(f+1)) t:=
   Lv.mono λr ⟨a,b,c,d⟩=>⟨a,b,by omega,by omega⟩
  cases c with
  | true=>
   show Lv N _ (if q>0 then kas_desc f (kas_rev p (n-(q+1)) n) (n+1) 0 else kas_desc f p (n+1) 0)
   split
   ·exact J (uI f _ (n+1) 0 (by rw[hJ];exact hz) (by omega) (h.rev (by omega)))
   ·exact J (uI f p (n+1) 0 hz (by omega) h)
  | false=>
   refine⟨h _,h _,λd=> ?_⟩
   cases d with
   | true=>exact⟨hz,h,Si _,Vo _ _⟩
   | false=>exact J (uI f p (n+1) (q+1) hz (by omega) h)⟩
theorem Ei{N S n nrem:Nat}{p:Array Nat}(hz:p.size=S)(hn:n<=nrem)(J:nrem<=S)(h:Und N p):Lv N (λr:Nat×Array Nat=>r.2.size=S/\Und N r.2/\r.1<=nrem) (kas_tail3 n nrem p):=by
 have h':Und N (kas_rev p 0 n):=h.rev (by omega)
 exact Lv.bind (f:=λm=>KasT.ret (m,kas_rev p 0 n)) (P':=λr:Nat×Array Nat=>r.2.size=S/\Und N r.2/\r.1<=nrem) (λm hm=>(⟨by rw[hJ];exact hz,h',by have:=hm.2;show m<=nrem;omega⟩:(kas_rev p 0 n).size=S/\Und N (kas_rev p 0 n)/\m<=nrem)) (A9 h' (nrem-n) n)
theorem Ci{N S n nrem:Nat}{p:Array Nat}(hz:p.size=S)(hn:n+1<=nrem)(J:nrem<=S)(h:Und N p):Lv N (λr:Nat×Array Nat=>r.2.size=S/\Und N r.2/\r.1<=nrem) (kas_descPart n nrem p):=by
 refine Lv.bind (λr Y=> ?_) (uI (nrem-(n+1)) p (n+1) 0 hz (by omega) h)
 obtain⟨a,b,c,d⟩:=Y
 split
 ·exact Ei (by rw[hJ];exact a) (by omega) J (b.rev (by omega))
 ·exact Ei a (by omega) J b
theorem JM{N S nrem:Nat}{p:Array Nat}(hz:p.size=S)(h1:1<=nrem)(Y:nrem<=S)(h:Und N p):Lv N (λr:Nat×Array Nat=>r.2.size=S/\Und N r.2/\r.1<=nrem) (kas_count nrem p):=by
 refine Lv.bind (λn hn=> ?_) (A9 h (nrem-1) 1)
 split
 ·exact⟨hz,h,by omega⟩
 ·rename_i J
  have J:¬n=nrem:=by simpa using J
  split
  ·refine⟨h _,h _,λc=> ?_⟩
   cases c with
   | true=>exact⟨hz,h,by omega⟩
   | false=>exact Ci (by rw[hJ];exact hz) (by omega) Y (h.rev (by omega))
  ·exact Ci hz (by omega) Y h
theorem vX{N:Nat}{p:Array Nat}{k:Nat}(h:Und N p):∀(f l r:Nat),l<=k->r<=k->Lv N (λm=>m<=k) (kas_place p k f l r)
 | 0,l,r,a,b=>a
 | f+1,l,r,a,b=>by
  unfold kas_place
  split
  ·exact a
  ·refine⟨h _,h _,λc=> ?_⟩
   cases c with
   | true=>exact vX h f l ((l+r)/2) a (by omega)
   | false=>exact vX h f ((l+r)/2+1) r (by omega) b
theorem Hk{N S:Nat}:∀(f:Nat) (p:Array Nat) (k:Nat),p.size=S->k+f<=S->Und N p->Lv N (λJ:Array Nat=>J.size=S) (kas_bin f p k)
 | 0,p,k,hz,_,_=>hz
 | f+1,p,k,hz,hk,h=>Lv.bind (λm hm=>Hk f _ (k+1) (by rw[bubble_size];exact hz) (by omega) (h.bub (by omega) (by omega))) (vX h k 0 k (S1 _) (Si _))
theorem K0{n:Nat}(h1:1<=n):Lv n (λp:Array Nat=>p.size=n) (kas_sort n):=by
 have sz:(Tp (Sg n)).size=n:=by simp
 have J:Und n (Tp (Sg n)):=λi=>by
  rw[T7,List.getElem?_toArray]
  by_cases hi:i<n
  ·simp[hi]
  ·rw[Ur (by simpa using hi)];exact h1
 refine Lv.bind (λr Y=> ?_) (JM sz h1 (Si _) J)
 obtain⟨a,b,c⟩:=Y
 split
 ·exact Hk _ _ _ a (by omega) b
 ·exact a
theorem AB{α:Type}{N:Nat}{P:α->Prop}{lt:Nat->Nat->Bool}{J:Nat->Nat->(Bool->Shared->Prop)->Shared->Prop}{Q:α->Shared->Prop}{s:Shared}(hc:∀i j C,i<N->j<N->C (lt i j) s->J i j C s):
 ∀(t:KasT α),Lv N P t->Q (ki lt t) s->t.kasWp J Q s
 | .ret a,_,h=>h
 | .ask i j k,l,h=>hc i j _ l.1 l.2.1 (AB hc (k (lt i j)) (l.2.2 _) h)
section
open PySem.SeqAt
open PySem.AutoSeq1 (wpAny_loadPart')
open PySem.MeetsSeq PySem.MeetsSeq2 PySem.MeetsSeq3
theorem ints_get{vs:List Value}{ns:List Int}(h:IntsAre vs ns){i:Nat}(hi:i<ns.length):∃t,vs[i]? =some (.int ns[i] t):=by
 have J:=h.length
 have e:vs[i]? =some vs[i]:=Sa (by omega)
 obtain⟨t,q⟩:=h.int_at i _ e
 refine⟨t, ?_⟩
 rw[e,q]
 simp[R6,hi]
theorem Io(l b:Addr)(Y J:Array Value)(n n2:Nat)(dd a0:Option Addr)(sl a1:Array (Option Value))(ns ms:List Int)(hi:IntsAre Y.toList ns)(hj:IntsAre J.toList ms)(k:Nat):
 ∀i:Nat,ns.length-i=k->i<=ns.length->i<=ms.length->Meets (Builtin.«list.__eq__.loop» ⟨[.ref l,.ref b,rawInt i,rawInt 0],[]⟩)
  (λ_ R s=>s.heap.get? l=some {cls:=.type "list",dict:=dd,data:=.seq Y n,slots:=sl}/\s.heap.get? b=some {cls:=.type "list",dict:=a0,data:=.seq J n2,slots:=a1}/\
   R (.ok (.ret (.bool (HT.lexLt (ns.drop i) (ms.drop i))))) s):=by
 have z1:Y.size=ns.length:=by rw[<- hi.length];simp
 have z2:J.size=ms.length:=by rw[<- hj.length];simp
 have am:∀i:Nat,i<=ns.length->i<=ms.length->(i=ns.length\/i=ms.length)->HT.lexLt (ns.drop i) (ms.drop i)=decide (Y.size<J.size):=by
  intro i h1 h2 h3
  by_cases e1:i=ns.length
  ·rw[e1,Vp]
   by_cases e2:ns.length=ms.length
   ·rw[e2,Vp];exact(decide_eq_false (by omega)).symm
   ·rw[Tc (by omega)];exact(decide_eq_true (by omega)).symm
  ·have e2:i=ms.length:=by omega
   rw[e2,Vp,Tc (by omega)];exact(decide_eq_false (by omega)).symm
 induction k with
 | zero=>
  intro i hk h1 h2 prog w A R s h
  obtain⟨hp,g,d,tk,os⟩:=s;obtain⟨hl,hb,h⟩:=h
  have a2:i=ns.length:=by omega
  wp_walk using wpAny_loadPart' hl,wpAny_loadPart' hb
  have ab:Y[((i:Nat):Int).toNat]? =none:=by simp;omega
  rw[ab]
  rw[am i h1 h2 (.inl a2)] at h
  wp_walk using wpAny_loadPart' hl,wpAny_loadPart' hb
  exact h
 | succ k ih=>
  intro i hk h1 h2 prog w A R s h
  obtain⟨hp,g,d,tk,os⟩:=s;obtain⟨hl,hb,h⟩:=h
  have as:i<ns.length:=by omega
  obtain⟨t,et⟩:=ints_get hi as
  have ab:Y[((i:Nat):Int).toNat]? =some (.int ns[i] t):=by rw[Up] at et;simpa using et
  by_cases az:i<ms.length
  ·obtain⟨u,eu⟩:=ints_get hj az
   have ac:J[((i:Nat):Int).toNat]? =some (.int ms[i] u):=by rw[Up] at eu;simpa using eu
   wp_walk using wpAny_loadPart' hl,wpAny_loadPart' hb
   rw[ab,ac]
   rw[Tc as,Tc az,HT.pz] at h
   have hc:((i:Int)+1)=((i+1:Nat):Int):=by push_cast;rfl
   obtain⟨e,he,ap⟩:=HT.Jb A.in1 ⟨hp,g,d,tk,os⟩ ns[i] t ms[i] u
   refine wpAny_bind (he prog w _ _ ?_)
   cases e with
   | true=>
    rw[if_pos (ap.mp rfl)] at h
    wp_walk
    rw[hc]
    exact⟨plainId_quiet plain_eq_loop _,codeAny_builtin entry_eq_loop (by
     rw[Around.under_plainId plain_eq_loop _]
     exact ih (i+1) (by omega) (by omega) (by omega) prog w A R _ ⟨hl,hb,h⟩)⟩
   | false=>
    rw[if_neg (λq=>absurd (ap.mpr q) SD)] at h
    have a3:=HT.IE A.in1 ⟨hp,g,d,tk,os⟩ ns[i] t ms[i] u prog w
    wp_walk using wpAny_loadPart' hl,wpAny_loadPart' hb
    rw[ab,ac]
    wp_walk using a3
    exact h
  ·have ac:J[((i:Nat):Int).toNat]? =none:=by simp;omega
   wp_walk using wpAny_loadPart' hl,wpAny_loadPart' hb
   rw[ab,ac]
   rw[am i h1 h2 (.inr (by omega))] at h
   wp_walk using wpAny_loadPart' hl,wpAny_loadPart' hb
   exact h
theorem JA(l b:Addr)(Y J:Array Value)(n n2:Nat)(dd ab:Option Addr)(sl ac:Array (Option Value))(ns ms:List Int)(hi:IntsAre Y.toList ns)(hj:IntsAre J.toList ms):
 Meets (Builtin.«list.__lt__» ⟨[.ref l,.ref b],[]⟩)
  (λ_ R s=>s.heap.get? l=some {cls:=.type "list",dict:=dd,data:=.seq Y n,slots:=sl}/\s.heap.get? b=some {cls:=.type "list",dict:=ab,data:=.seq J n2,slots:=ac}/\
   R (.ok (.ret (.bool (HT.lexLt ns ms)))) s):=by
 intro prog w A R s h
 obtain⟨hp,g,d,tk,os⟩:=s;obtain⟨hl,hb,h⟩:=h
 have f2:=AutoSeq1.sub_list_list
 wp_walk using wpAny_loadPart' hl,wpAny_loadPart' hb
 exact⟨plainId_quiet plain_eq_loop _,codeAny_builtin entry_eq_loop (by
  rw[Around.under_plainId plain_eq_loop _]
  exact Io l b Y J n n2 dd ab sl ac ns ms hi hj _ 0 rfl (S1 _) (S1 _) prog w A R _ ⟨hl,hb,by simpa using h⟩)⟩
end
section
variable {prog : Program} {w : World} {A : Around} {E : Value → Shared → Prop} {s : Shared}
theorem Ds {l b:Addr} {Y J:Array Value} {ns ms:List Int} {Q:Bool->Shared->Prop} (hl:s.heap.IsList l Y) (hb:s.heap.IsList b J) (hi:IntsAre Y.toList ns) (hj:IntsAre J.toList ms) (hu:A.units<cLine)
 (h:Q (HT.lexLt ns ms) s):wpAny (model prog w) A (keyLt' oneType' (.ref l) (.ref b)) Q E s:=by
 obtain⟨⟨cls,dd,data,sl⟩,ho,hc,n,hd⟩:=id hl
 obtain⟨⟨az,an,data2,ap⟩,as,ab,n2,ac⟩:=id hb
 dsimp only at hc hd ab ac
 subst hc hd ab ac
 rw[keyLt'_oneType,oneLt'_eq]
 simp only[if_true]
 refine wpAny_bind (wpAny_cRoomFor hu ?_)
 refine wpAny_bind (wpAny_callSpecialIfBound?_slot ⟨_,ho,rfl⟩ VG (call_meets VG ⟨_,ho,rfl⟩ PySem.F.entry_list_lt (PySem.F.args_list_lt_2 _ _) (JA l b Y J n n2 dd an sl ap ns ms hi hj) ⟨ho,as, ?_⟩))
 exact wpAny_truthy_bool h
end
section
variable {prog : Program} {w : World} {A : Around} {E : Value → Shared → Prop} {s : Shared}
abbrev BW(nss:List (List Int)):Nat->ND.α:=λi=>nss.getD i []
def qC(vs:List Value)(p:Array Nat):Array Value:=(p.toList.map λi=>vs.getD i Value.none).toArray
def OG(h:Heap)(vs:List Value)(nss:List (List Int))(a:Addr):Prop:=∀i,i<vs.length->∃(l:Addr) (J:Array Value),vs.getD i Value.none=.ref l/\l≠a/\h.IsList l J/\IntsAre J.toList (nss.getD i [])
theorem C3(vs:List Value):qC vs (Tp (Sg vs.length))=vs.toArray:=by
 unfold qC
 congr 1
 refine Ud (by simp) λi h1 h2=> ?_
 simp[R6,h2]
theorem N9 {a:Addr} {vs:List Value} {nss:List (List Int)} {n:Nat} {P:PySem.Fin->Shared->Prop} (ho:s.heap.get? a=some (seqObj "list" vs.toArray n)) (a5:vs.length<64) (hu:A.units<cLine) (ab:OG s.heap vs nss a)
 (h:∀p:Array Nat,p.Perm (Tp (Sg vs.length))->fg (BW nss) p vs.length->P (.done (.ret .none)) {s with heap:=sortedHeap s.heap a vs (qC vs p)}):
 wpAny (model prog w) A (Builtin.«list.sort» ⟨[.ref a],[]⟩) P E s:=by
 rw[list_sort_plain]
 have ha:a<s.heap.objs.size:=Heap.lt_size ho
 have ac:vs.length<=sizeLine:=by rw[sizeLine_eq];omega
 refine wpAny_bind (listItems_at ho rfl ?_)
 refine wpAny_bind (listUpdate_at ho rfl ?_ (by rw[Sq];exact ac) (S1 _))
 obtain⟨e1,ho1⟩:∃e1,(s.heap.update a (Obj.mapSeq λ_=> #[])).get? a=some (seqObj "list" #[] e1):=⟨_,get?_update_seq ho (λ_=> #[])⟩
 refine wpAny_bind (seqEpoch_at ho1 rfl ?_)
 refine wpAny_bind (wpAny_newTuple ?_ ac)
 refine wpAny_bind (wpAny_newList ?_ (S1 _))
 refine wpAny_holding ?_
 have am:∀b o,b≠a->s.heap.get? b=some o->(((s.heap.update a (Obj.mapSeq λ_=> #[])).push (seqObj "tuple" vs.toArray 0)).push (seqObj "list" #[] 0)).get? b=some o:=λb o hb e=>
  Heap.get?_push_of_some _ (Heap.get?_push_of_some _ ((Heap.get?_update_ne _ _ _ _ hb).trans e))
 have Y:(((s.heap.update a (Obj.mapSeq λ_=> #[])).push (seqObj "tuple" vs.toArray 0)).push (seqObj "list" #[] 0)).get? a=some (seqObj "list" #[] e1):=Heap.get?_push_of_some _ (Heap.get?_push_of_some _ ho1)
 show wpAny (model prog w) A _ P E {s with heap:=((s.heap.update a (Obj.mapSeq λ_=> #[])).push (seqObj "tuple" vs.toArray 0)).push (seqObj "list" #[] 0)}
 dsimp only
 by_cases h2:vs.toArray.size<2
 ·have an:=h (Tp (Sg vs.length)) (Array.Perm.refl _) λi j bv hj=>by
   have:i=j:=by rw[Sq] at h2;omega
   subst this;exact KeyOrd.kle_refl _
  rw[C3] at an
  rw[if_pos h2,if_pos h2]
  refine wpAny_bind (wpAny_pure ?_)
  rw[StateT.run_pure]
  refine wpAny_bind (wpAny_pure ?_)
  dsimp only
  have hz:(Array.map (λx:Keyed=>x.2) (vs.toArray.zip vs.toArray))=vs.toArray:=by
   apply Vq.mp
   rw[V9,Array.toList_zip]
   exact List.map_snd_zip (Si _)
  refine wpAny_bind (seqEpoch_at Y rfl ?_)
  show wpAny (model prog w) A (Builtin.List.listUpdate (.ref a) (λ_=>Array.map (λx:Keyed=>x.2) (vs.toArray.zip vs.toArray)) >>= _) P E _
  rw[hz]
  refine wpAny_bind (listUpdate_at Y rfl ?_ (S1 _) (by rw[Sq];omega))
  simp only[bne_self_eq_false,VQ,if_false]
  exact wpAny_pure an
 ·rw[if_neg h2,if_neg h2]
  have l2:2<=vs.length:=by rw[Sq] at h2;omega
  obtain⟨p0,e0,q1,q2,q3⟩:=wR (key:=BW nss) (n:=vs.length) (by omega)
  refine wpAny_bind (kas_kind (T:=.type "list") l2 (λv hv=> ?_) (by decide) (by decide) ?_)
  ·obtain⟨i,hi,rfl⟩:=Tk hv
   obtain⟨l,a6,el,la,il,_⟩:=ab i hi
   rw[R6,Sa hi] at el
   rw[show vs[i]=.ref l from el]
   intro A Q E s' k q
   obtain⟨o,a9,hc,_⟩:=il
   exact wpAny_typeOf (T:="list") ⟨o,k _ _ (am _ _ la a9),hc⟩ q
  have bb:SortSt.mk' oneType' (vs.toArray.zip vs.toArray) #[] 7 none=kas_st oneType' (pairsOf vs) (Tp (Sg vs.length)):=by
   have e:=kas_range (pairsOf vs)
   rw[pairsOf_size] at e
   show SortSt.mk' oneType' (pairsOf vs) #[] 7 none=SortSt.mk' oneType' ((Tp (Sg vs.length)).map (kas_item (pairsOf vs))) #[] 7 none
   rw[e]
  have ask:(kas_sort vs.length).kasWp (kas_ask prog w A oneType' vs) (λp s'=>p=p0/\s'={s with heap:=((s.heap.update a (Obj.mapSeq λ_=> #[])).push (seqObj "tuple" vs.toArray 0)).push (seqObj "list" #[] 0)})
   {s with heap:=((s.heap.update a (Obj.mapSeq λ_=> #[])).push (seqObj "tuple" vs.toArray 0)).push (seqObj "list" #[] 0)}:=by
   refine AB (lt:=ltK (BW nss)) (λi j C hi hj hC=> ?_) _ (K0 (by omega)) ⟨e0,rfl⟩
   obtain⟨l,a6,el,la,il,ii⟩:=ab i hi
   obtain⟨m,bm,em,ma,im,ij⟩:=ab j hj
   unfold kas_ask
   rw[el,em]
   have up:∀{x:Addr} {xs:Array Value},x≠a->s.heap.IsList x xs->(((s.heap.update a (Obj.mapSeq λ_=> #[])).push (seqObj "tuple" vs.toArray 0)).push (seqObj "list" #[] 0)).IsList x xs:=λhx ⟨o,e,r⟩=>⟨o,am _ _ hx e,r⟩
   exact Ds (up la il) (up ma im) ii ij hu hC
  rw[kas_ask_eq] at ask
  have run:=kas_runs (E:=E) (Q:=λ_ J s'=>arrOf J=p0.map (kas_item (pairsOf vs))/\failedOf J=none/\s'={s with heap:=((s.heap.update a (Obj.mapSeq λ_=> #[])).push (seqObj "tuple" vs.toArray 0)).push (seqObj "list" #[] 0)})
   l2 a5 (λp' J s' a1 a2 a3 a4=>⟨by rw[a2,a4.1],a3,a4.2⟩) ask
  rw[<- bb] at run
  refine wpAny_bind (wpAny_mono run ?_ λ_ _ e=>e)
  rintro ⟨⟨⟩,J⟩ s' ⟨bd,hf,rfl⟩
  dsimp only
  have ap:(arrOf J).map (·.2)=qC vs p0:=by
   apply Vq.mp
   rw[bd,Array.map_map,V9]
   exact Uz λi _=>by show (kas_item (pairsOf vs) i).2=_;rw[kas_item_eq]
  rw[ap]
  refine wpAny_bind (seqEpoch_at Y rfl ?_)
  refine wpAny_bind (listUpdate_at Y rfl ?_ (S1 _) (by unfold qC;rw[Sq,R9,UX,q2];omega))
  rw[hf]
  simp only[bne_self_eq_false,VQ,if_false]
  exact wpAny_pure (h p0 q1 q3)
theorem KD {l:Addr} {vs:List Value} {nss:List (List Int)} {Q:Value->Shared->Prop} (hl:s.heap.IsList l vs.toArray) (am:vs.length<64) (hu:A.units+64<cLine)
 (an:∀i,i<vs.length->∃(l:Addr) (J:Array Value),vs.getD i Value.none=.ref l/\s.heap.IsList l J/\IntsAre J.toList (nss.getD i []))
 (h:∀p:Array Nat,p.Perm (Tp (Sg vs.length))->fg (BW nss) p vs.length->Q (.ref (s.heap.objs.size+1)) {s with heap:=sortedAll s.heap vs (qC vs p)}):
 wpAny (model prog w) A (call (.builtin "sorted") [.ref l]) Q E s:=by
 have Y:vs.length<=sizeLine:=by rw[sizeLine_eq];omega
 refine Calls.call_function_entry kind_sorted plain_sorted entry_sorted (args_sorted1 _) ?_
 unfold Builtin.«sorted»
 refine wpAny_bind (m:=checkCount "sorted" 1 1 _) (wpAny_pure ?_)
 refine wpAny_bind (collect_list hl ?_ Y)
 refine wpAny_bind (wpAny_newList ?_ Y)
 have ab:((s.heap.push (seqObj "list" #[] 0)).update s.heap.objs.size (Obj.mapSeq (·++vs.toArray))).objs.size=s.heap.objs.size+1:=by
  rw[Heap.size_update,size_push']
 have ac:(((s.heap.push (seqObj "list" #[] 0)).update s.heap.objs.size (Obj.mapSeq (·++vs.toArray))).push (seqObj "list" vs.toArray 0)).get? (s.heap.objs.size+1)=some (seqObj "list" vs.toArray 0):=by
  rw[<- ab];exact Heap.get?_push_size _ rfl
 have keep:∀b o,s.heap.get? b=some o->(((s.heap.push (seqObj "list" #[] 0)).update s.heap.objs.size (Obj.mapSeq (·++vs.toArray))).push (seqObj "list" vs.toArray 0)).get? b=some o:=λb o q=>by
  have ap:b<s.heap.objs.size:=Heap.lt_size q
  exact Heap.get?_push_of_some _ ((Heap.get?_update_ne _ _ _ _ (SX ap)).trans (Heap.get?_push_of_some _ q))
 show wpAny _ _ _ _ _ {s with heap:=((s.heap.push (seqObj "list" #[] 0)).update s.heap.objs.size (Obj.mapSeq (·++vs.toArray))).push (seqObj "list" vs.toArray 0)}
 rw[ab]
 refine wpAny_bind (wpAny_holding (wpAny_call_entry slot_list_sort ⟨_,ac,rfl⟩ entry_list_sort (N9 (nss:=nss) ac am ?_ (λi hi=> ?_) λp a1 a2=>⟨_,rfl, ?_⟩) (args_list_sort _)))
 ·simp only[units_in1];omega
 ·obtain⟨x,J,e,il,ii⟩:=an i hi
  obtain⟨o,ho,r⟩:=il
  exact⟨x,J,e,SX (VZ (Heap.lt_size ho)),⟨o,keep _ _ ho,r⟩,ii⟩
 ·exact wpAny_pure ⟨_,rfl,h p a1 a2⟩
end
section
variable {α β : Type}
def rZ(x:α×List Int):List (α×List Int)->List (α×List Int)
 | []=>[x]
 | y::l=>if HT.lexLt x.2 y.2=true then x::y::l else y::rZ x l
def eZ:List (α×List Int)->List (α×List Int)
 | []=>[]
 | x::l=>rZ x (eZ l)
theorem BG{g:α×List Int->β×List Int}(J:∀x,(g x).2=x.2)(x:α×List Int):∀l,rZ (g x) (l.map g)=(rZ x l).map g
 | []=>rfl
 | y::l=>by
  rw[Sm]
  unfold rZ
  rw[J,J]
  split
  ·rfl
  ·rw[Sm,BG J x l]
theorem oY{g:α×List Int->β×List Int}(J:∀x,(g x).2=x.2):∀l,eZ (l.map g)=(eZ l).map g
 | []=>rfl
 | x::l=>by
  rw[Sm]
  unfold eZ
  rw[oY J l,BG J]
theorem tY(x:α×List Int):∀l,(rZ x l).Perm (x::l)
 | []=>.refl _
 | y::l=>by
  unfold rZ
  split
  ·exact .refl _
  ·exact((tY x l).cons y).trans (List.Perm.swap x y l)
theorem iP:∀l:List (α×List Int),(eZ l).Perm l
 | []=>.refl _
 | x::l=>(tY x _).trans ((iP l).cons x)
abbrev yG(l:List (α×List Int)):Prop:=l.Pairwise λa b=>HT.lexLt b.2 a.2=false
theorem lex_asymm{a b:List Int}(h:HT.lexLt a b=true):HT.lexLt b a=false:=by
 cases h2:HT.lexLt b a with
 | false=>rfl
 | true=>
  have:=lex_trans a b a h h2
  rw[lex_irrefl] at this;cases this
theorem Fj{a b c:List Int}(h1:HT.lexLt b a=false)(h2:HT.lexLt c b=false):HT.lexLt c a=false:=KeyOrd.kle_trans (O:=ND) (a:=a) (b:=b) (c:=c) h1 h2
theorem zd(x:α×List Int):∀{l},yG l->yG (rZ x l)
 | [],_=>List.pairwise_singleton _ _
 | y::l,h=>by
  unfold rZ
  have hy:=TB.mp h
  split
  ·rename_i c
   refine TB.mpr ⟨λz hz=> ?_,h⟩
   rcases SA.mp hz with rfl | hz
   ·exact lex_asymm c
   ·exact Fj (lex_asymm c) (hy.1 z hz)
  ·rename_i c
   refine TB.mpr ⟨λz hz=> ?_,zd x hy.2⟩
   rcases SA.mp ((tY x l).mem_iff.mp hz) with rfl | hz
   ·exact eq_false_of_ne_true c
   ·exact hy.1 z hz
theorem pe:∀l:List (α×List Int),yG (eZ l)
 | []=>.nil
 | x::l=>zd x (pe l)
theorem Mp{l:List (α×List Int)}(J:(l.map (·.2)).Nodup){a b:α×List Int}(ha:a∈l)(hb:b∈l)(h:a.2=b.2):a=b:=by
 induction l with
 | nil=>cases ha
 | cons x l Y=>
  rw[Sm,Tv] at J
  rcases SA.mp ha with rfl | ha'
  ·rcases SA.mp hb with rfl | hb
   ·rfl
   ·have q:b.2∈l.map (·.2):=SU hb
    rw[<- h] at q
    exact absurd q J.1
  ·rcases SA.mp hb with rfl | hb
   ·have q:a.2∈l.map (·.2):=SU ha'
    rw[h] at q
    exact absurd q J.1
   ·exact Y J.2 ha' hb
theorem wJ:∀{l m:List (α×List Int)},l.Perm m->(l.map (·.2)).Nodup->yG l->yG m->l=m
 | [],m,h,_,_,_=>(List.nil_perm.mp h).symm
 | a::l,[],h,_,_,_=>absurd h.symm (by simp)
 | a::l,b::m,h,nd,hl,hm=>by
  have e:a=b:=by
   have ha:a∈b::m:=h.mem_iff.mp Sr
   have hb:b∈a::l:=h.mem_iff.mpr Sr
   rcases SA.mp ha with e | ha
   ·exact e
   ·rcases SA.mp hb with e | hb'
    ·exact e.symm
    ·refine Mp nd Sr hb (qB _ _ ((TB.mp hm).1 a ha) ((TB.mp hl).1 b hb'))
  subst e
  rw[wJ (List.Perm.cons_inv h) (Tv.mp nd).2 (TB.mp hl).2 (TB.mp hm).2]
end
section
variable {X : Cx}
def vT(K:R4):List V->Hp->VK->Prop:=λxs H Q=>∃(p:Addr) (ls:List (Addr×List Int)),xs=[.ref p]/\SqL K H p (ls.map λx=>V.ref x.1)/\(∀x∈ls,SqL K H x.1 (x.2.map V.int))/\ls.length<64/\(ls.map (·.2)).Nodup/\
 ∀d,H d=none->Q (.ref d) (upd H d (.lst ((eZ ls).map λx=>V.ref x.1)))
theorem xx:∀{ls:List (Addr×List Int)} {J:List Value},Vals (ls.map λx=>V.ref x.1) J->J=ls.map λx=>Value.ref x.1
 | [],_,h=>by cases h;rfl
 | x::ls,_,h=>by
  cases h with
  | cons r Y=>cases r;rw[xx Y];rfl
theorem xn:∀(ls:List (Addr×List Int)),Vals (ls.map λx=>V.ref x.1) (ls.map λx=>Value.ref x.1)
 | []=>.nil
 | x::ls=>.cons rfl (xn ls)
theorem Bz(hu:X.A.units+64<cLine):my X (.builtin "sorted") (vT X.K):=by
 intro pins s σ H xs us Q I r h
 obtain⟨p,ls,rfl,hq,hi,am,nd,q⟩:=h
 obtain⟨u,rfl,ru⟩:=vals1 r
 cases ru
 obtain⟨a6,rv,pl,hz⟩:=I.list hq
 obtain rfl:=xx rv
 have ln:(ls.map λx=>Value.ref x.1).length=ls.length:=R9 _
 refine KD (nss:=ls.map (·.2)) pl.isList (by rw[ln];exact am) hu (λi Y=> ?_) λJ a1 a2=> ?_
 ·rw[ln] at Y
  obtain⟨ab,r2,ap,_⟩:=I.list (hi ls[i] (S6 _))
  refine⟨ls[i].1,ab.toArray,by simp[R6,Y],ap.isList, ?_⟩
  rw[show (ls.map (·.2)).getD i []=ls[i].2 by simp[R6,Y]]
  simpa using rP r2
 ·rw[ln] at a1 a2
  have hm:∀i∈J.toList,i<ls.length:=λi hi=>by
   have:=(U9.mp a1).mem_iff.mp hi
   simpa using this
  have e1:qC (ls.map λx=>Value.ref x.1) J=((J.toList.map λi=>ls.getD i (0,[])).map λx=>Value.ref x.1).toArray:=by
   unfold qC
   congr 1
   rw[So]
   refine Uz λi hi=> ?_
   have:=hm i hi
   simp[R6,this]
  have e2:(J.toList.map λi=>ls.getD i (0,[])).Perm ls:=by
   have:=(U9.mp a1).map λi=>ls.getD i (0,[])
   refine this.trans (List.Perm.of_eq ?_)
   refine Ud (by simp) λi h1 h2=> ?_
   simp[R6,h2]
  have sz:J.size=ls.length:=by have:=a1.size_eq;simpa using this
  have e3:yG (J.toList.map λi=>ls.getD i (0,[])):=by
   refine Vh.mpr ?_
   intro i j hi hj as
   have Y:i<J.size:=by simpa using hi
   have az:j<J.size:=by simpa using hj
   have:=a2 i j (T5 as) (by omega)
   have k1:∀(i:Nat) (h:i<J.size),kAt (BW (ls.map (·.2))) J i=(ls.getD J[i] (0,[])).2:=λi h=>by
    have hb:=hm J[i] (by simp)
    have e:J.getD i 0=J[i]:=by simp[Array.getD,h]
    unfold kAt
    rw[e]
    show (ls.map (·.2)).getD J[i] []=_
    rw[R6,SF,R6,Sa hb]
    rfl
   rw[k1 i Y,k1 j az] at this
   rw[Uv,Uv,VH,VH]
   exact this
  have e4:(J.toList.map λi=>ls.getD i (0,[]))=eZ ls:=wJ (e2.trans (iP ls).symm) ((e2.map (·.2)).nodup_iff.mpr nd) e3 (pe ls)
  rw[e1,e4]
  obtain⟨e,he⟩:=sortedAll_at s.heap (ls.map λx=>Value.ref x.1) ((eZ ls).map λx=>Value.ref x.1).toArray
  have fresh:H (s.heap.objs.size+1)=none:=I.hok.fresh (VD _)
  refine⟨.ref (s.heap.objs.size+1),_,I.laid (t':=s.toks) (o:=.lst ((eZ ls).map λx=>V.ref x.1)) (λb o q=>sortedAll_old q) (VD _) ?_,rfl,q _ fresh⟩
  exact⟨by rw[R9,(iP ls).length_eq];rw[R9] at hz;exact hz,_,e,xn _,he⟩
end
open PySem PySem.Spec PyProof.Rows
section
variable {prog : Program} {w : World} {A : Around} {R : Result → Shared → Prop} {I : Addr} {fp wr : List Addr} {n : Nat} {P : Nat → Value → Prop} {St : Nat → Heap → Prop} {kw : List (Str × Value)}
end
section
variable {prog : Program} {w : World} {A : Around} {E : Value → Shared → Prop} {s : Shared}
end
section
variable {X : Cx} {e d : Expr} {te td : TE} {p q kp : Pos}
end
theorem sT{h:Heap}:∀{vs:List Value} {ms ns:List Int} {J bs:List Addr},ReadsAll h vs (ms.map PyData.int) J->ReadsAll h vs (ns.map PyData.int) bs->ms=ns
 | [],ms,ns,J,bs,r,t=>by
  cases ms with
  | nil=>
   cases ns with
   | nil=>rfl
   | cons b ns=>cases t
  | cons a ms=>cases r
 | v::vs,ms,ns,J,bs,r,t=>by
  cases ms with
  | nil=>cases r
  | cons a ms=>
   cases ns with
   | nil=>cases t
   | cons b ns=>
    rw[Sm] at r t
    cases r with
    | cons Y r2=>
     cases t with
     | cons t1 t2=>
      cases Y
      cases t1
      rw[sT r2 t2]
theorem zY{h:Heap}{a:Addr}{ms ns:List Int}{as bs:List Addr}(r:Reads h (.ref a) (.list (ms.map PyData.int)) as)(t:Reads h (.ref a) (.list (ns.map PyData.int)) bs):ms=ns:=by
 cases r with
 | list r1 r2 r3 r4=>
  cases t with
  | list J t2 Y t4=>
   rw[r1] at J
   cases J
   rw[r3] at Y
   cases Y
   exact sT r4 t4
theorem Ek:∀ns ms:List Int,PyData.eqvAll (ns.map PyData.int) (ms.map PyData.int)=(ns == ms)
 | [],[]=>by simp[PyData.eqvAll]
 | [],_::_=>by simp[PyData.eqvAll]
 | _::_,[]=>by simp[PyData.eqvAll]
 | a::r,b::t=>by
  simp only[Sm,PyData.eqvAll,PyData.eqv,Ek r t]
  rfl
theorem tG:∀ns:List Int,PyData.depthAll (ns.map PyData.int)=0
 | []=>by simp[PyData.depthAll]
 | n::ns=>by simp[PyData.depthAll,PyData.depth,tG ns]
theorem sC:∀ns:List Int,PyData.canLayAll0 (ns.map PyData.int)=true
 | []=>by simp[PyData.canLayAll0]
 | n::ns=>by simp[PyData.canLayAll0,PyData.canLay0,sC ns]
section
variable {X : Cx}
theorem zr{K:R4}{H:Hp}:∀ns:List Int,o4 K H (ns.map PyData.int) (ns.map V.int)
 | []=>by rw[S5];unfold o4;rfl
 | n::ns=>by
  rw[Sm]
  unfold o4
  exact⟨.int n,ns.map V.int,rfl,by unfold RdV;rfl,zr ns⟩
theorem sP{pins:List (Addr×Obj)}{σ:St}{H:Hp}{s:Shared}(I:Inv X pins σ H s){a:Addr}{ns:List Int}(h:SqL X.K H a (ns.map V.int)):∃J,Reads s.heap (.ref a) (.list (ns.map PyData.int)) J:=
 mU I (d:=.list (ns.map PyData.int)) (v:=.ref a) (by unfold RdV;exact⟨a,_,rfl,h,zr ns⟩) rfl
def FF(K:R4)(neg:Bool):R2:=λx y H Q=>∃a p,∃(ns:List Int) (l:List (Addr×List Int)),x=.ref a/\y=.ref p/\SqL K H a (ns.map V.int)/\SqL K H p (l.map λq=>.ref q.1)/\(∀q∈l,SqL K H q.1 (q.2.map V.int))/\
 Q (.bl (if neg then !(l.any λq=>q.2 == ns) else l.any λq=>q.2 == ns)) H
open Classical in
noncomputable def eIn (h:Heap)(ns:List Int)(y:Value):Bool:=decide (∃bs,Reads h y (.list (ns.map PyData.int)) bs)
theorem MZ{h:Heap}{a:Addr}{ms ns:List Int}{as:List Addr}(r:Reads h (.ref a) (.list (ms.map PyData.int)) as):eIn h ns (.ref a)=(ms == ns):=by
 unfold eIn
 by_cases e:ms=ns
 ·subst e
  rw[beq_self_eq_true]
  exact @decide_eq_true _ (Vx _) ⟨as,r⟩
 ·rw[beq_eq_false_iff_ne.mpr e]
  exact @decide_eq_false _ (Vx _) λ⟨bs,t⟩=>e (zY r t)
theorem yy{pins:List (Addr×Obj)}{σ:St}{H:Hp}{s:Shared}(I:Inv X pins σ H s)(hu:X.A.units+64<cLine){a:Addr}{ns:List Int}{as:List Addr}(Y:Reads s.heap (.ref a) (.list (ns.map PyData.int)) as):∀{l:List (Addr×List Int)} {J:List Value},Vals (l.map λq=>V.ref q.1) J->(∀q∈l,SqL X.K H q.1 (q.2.map V.int))->
 (∀y∈J,SeqAt.EqAt X.A.in1 s y (.ref a) (eIn s.heap ns y))/\J.any (eIn s.heap ns)=l.any λq=>q.2 == ns
 | [],J,r,_=>by
  cases r
  exact⟨λy hy=>(by cases hy),rfl⟩
 | q::l,J,r,h=>by
  rw[Sm] at r
  cases r with
  | cons r1 r2=>
   cases r1
   obtain⟨g1,g2⟩:=yy I hu Y r2 λz hz=>h z (Sl _ hz)
   obtain⟨bs,rb⟩:=sP I (h q Sr)
   have e:=MZ (ns:=ns) rb
   refine⟨λy hy=> ?_, ?_⟩
   ·rcases SA.mp hy with rfl | hy
    ·rw[e]
     have:=SeqAt.eqAt_reads (.list (q.2.map PyData.int)) (.list (ns.map PyData.int)) X.A.in1 s _ _ bs as rb Y (by rw[PyData.canLay0];exact sC _) (by rw[PyData.canLay0];exact sC _) (by
      rw[PyData.depth,PyData.depth,tG,tG,Around.in1_units];omega)
     rw[PyData.eqv,Ek] at this
     exact this
    ·exact g1 y hy
   ·rw[Ux,Ux,e,g2]
theorem MN(hu:X.A.units+64<cLine):OpR X (compareOp .In) (FF X.K false):=by
 intro pins s σ H x y v u Q I Y ry h
 obtain⟨a,p,ns,l,rfl,rfl,ha,hp,hl,q⟩:=h
 cases Y
 cases ry
 obtain⟨J,r,pl,hz⟩:=I.list hp
 obtain⟨as,ra⟩:=sP I ha
 obtain⟨g1,g2⟩:=yy I hu ra r hl
 refine SeqAt.in_listAt (eIn s.heap ns) pl.isList (λw hw=>g1 w (by simpa using hw)) ⟨.bl _,H,I,rfl, ?_⟩
 rw[show J.toArray.any (eIn s.heap ns)=J.any (eIn s.heap ns) by simp,g2]
 exact q
theorem HD(hu:X.A.units+64<cLine):OpR X (compareOp .NotIn) (FF X.K true):=by
 intro pins s σ H x y v u Q I Y ry h
 obtain⟨a,p,ns,l,rfl,rfl,ha,hp,hl,q⟩:=h
 cases Y
 cases ry
 obtain⟨J,r,pl,hz⟩:=I.list hp
 obtain⟨as,ra⟩:=sP I ha
 obtain⟨g1,g2⟩:=yy I hu ra r hl
 refine SeqAt.notIn_listAt (eIn s.heap ns) pl.isList (λw hw=>g1 w (by simpa using hw)) ⟨.bl _,H,I,rfl, ?_⟩
 rw[show J.toArray.any (eIn s.heap ns)=J.any (eIn s.heap ns) by simp,g2]
 exact q
end
section
variable {X : Cx}
end
section
variable {X : Cx}
def Ky:V->List V->Hp->VK->Prop:=λx vs H Q=>∃l xs y,x=.ref l/\vs=[.int 0,y]/\H l=some (.lst xs)/\xs.length<sizeLine/\Q .non (upd H l (.lst (y::xs)))
theorem KR:MtM X "list.insert" Ky:=by
 intro pins s σ H x vs v us Q I rx Y h
 obtain⟨l,xs,y,rfl,rfl,hH,hz,q⟩:=h
 cases rx
 cases Y with
 | cons r0 Y=>
  obtain⟨u,rfl,ru⟩:=Vals.one (show Vals [y] _ from Y)
  obtain⟨t,rfl⟩:=r0
  obtain⟨z,J,n,r,hl,e⟩:=I.lstM hH
  refine call_meets F.slot_list_insert ⟨_,e,rfl⟩ F.entry_list_insert (F.args_list_insert_3 _ _ _) (AutoSeq1.list_insert_list_int_val_1 l J.toArray n 0 t u (by decide) (by rw[Sq];omega)) ⟨e, ?_⟩
  refine⟨.non,_,I.lset (its':=u::J) hH e (by simp) (.cons ru r) ?_,rfl,q⟩
  rw[Ss]
  omega
end
end L2
namespace M
open PySem L2
inductive D where
 | non | bl (b:Bool) | int (i:Int) | str (x:Str) | lst (xs:List D) | tup (xs:List D) | ptr (k:Nat) | obj (c:Nat) (ns:List Str) (ds:List D) | exn (c:Nat)
inductive Cell where
 | dead | lst (xs:List D) | ins (c:Nat) (ns:List Str) (ds:List D)
abbrev aC:=List Cell
structure S where
 r:List (Option D)
 o:aC
inductive Res (α:Type) where
 | ok (a:α) | exc (c:Nat) (a:D) (o:S) | bad
def Res.bind{α β:Type}(x:Res α)(f:α->Res β):Res β:=match x with
 | .ok a=>f a
 | .exc c a o=>.exc c a o
 | .bad=>.bad
@[simp] theorem aj {α β:Type} (a:α) (f:α->Res β):(Res.ok a).bind f=f a:=rfl
@[simp] theorem P6 {α β:Type} (c:Nat) (a:D) (o:S) (f:α->Res β):(Res.exc c a o:Res α).bind f=.exc c a o:=rfl
@[simp] theorem P7 {α β:Type} (f:α->Res β):(Res.bad:Res α).bind f=.bad:=rfl
abbrev Wsh:=Nat->D->S->Hp->Hp->List Addr->Prop
structure Ct where
 K:R4
 ca:Nat->Addr
 W:Wsh
mutual
def Rep(K:R4)(ca:Nat->Addr)(θ:List Addr)(F:Hp):D->V->Prop
 | .non,v=>v=.non
 | .bl b,v=>v=.bl b
 | .int i,v=>v=.int i
 | .str x,v=>v=.str x
 | .lst ds,v=>∃a xs,v=.ref a/\SqL K F a xs/\aG K ca θ F ds xs
 | .tup ds,v=>∃a xs,v=.ref a/\SqT K F a xs/\aG K ca θ F ds xs
 | .ptr k,v=>∃a,v=.ref a/\θ[k]? =some a
 | .obj c ns ds,v=>∃a dx xs,v=.ref a/\F a=some (.ins (ca c) dx (ns.zip xs))/\ns.length=xs.length/\aG K ca θ F ds xs
 | .exn c,v=>∃a,v=.ref a/\F a=some (exO a (ca c))
def aG(K:R4)(ca:Nat->Addr)(θ:List Addr)(F:Hp):List D->List V->Prop
 | [],xs=>xs=[]
 | d::ds,xs=>∃v r,xs=v::r/\Rep K ca θ F d v/\aG K ca θ F ds r
end
mutual
def df:D->Bool
 | .lst ds=>aP ds
 | .tup ds=>aP ds
 | .ptr _=>false
 | .obj _ _ ds=>aP ds
 | _=>true
def aP:List D->Bool
 | []=>true
 | d::ds=>df d&&aP ds
end
def pC:D->Bool
 | .non=>true | .bl _=>true | .int _=>true | .str _=>true | _=>false
theorem bN.seqT{K:R4}{H H':Hp}{a:Addr}{xs:List V}(e:bN H H')(h:SqT K H a xs):SqT K H' a xs:=by
 rcases h with(h | ⟨o,h⟩) | h
 ·exact .inl (.inl (e _ _ h))
 ·exact .inl (.inr ⟨o,e _ _ h⟩)
 ·exact .inr h
section
variable {K : R4} {ca : Nat → Addr} {θ θ1 : List Addr} {F F1 : Hp}
mutual
theorem Rep.mono(J:bN F F1)(hθ:∃r,θ1=θ++r):∀{d:D} {v:V},Rep K ca θ F d v->Rep K ca θ1 F1 d v
 | .non,_,h=>h
 | .bl _,_,h=>h
 | .int _,_,h=>h
 | .str _,_,h=>h
 | .lst ds,_,h=>by
  unfold Rep at h ⊢
  obtain⟨a,xs,e,hs,Y⟩:=h
  exact⟨a,xs,e,J.seq hs,aG.mono J hθ Y⟩
 | .tup ds,_,h=>by
  unfold Rep at h ⊢
  obtain⟨a,xs,e,hs,Y⟩:=h
  exact⟨a,xs,e,bN.seqT J hs,aG.mono J hθ Y⟩
 | .ptr k,_,h=>by
  unfold Rep at h ⊢
  obtain⟨a,e,hk⟩:=h
  obtain⟨r,rfl⟩:=hθ
  refine⟨a,e, ?_⟩
  rw[Sw (Sx.mp hk).1]
  exact hk
 | .obj c ns ds,_,h=>by
  unfold Rep at h ⊢
  obtain⟨a,dx,xs,e,ha,hl,Y⟩:=h
  exact⟨a,dx,xs,e,J _ _ ha,hl,aG.mono J hθ Y⟩
 | .exn c,_,h=>by
  unfold Rep at h ⊢
  obtain⟨a,e,ha⟩:=h
  exact⟨a,e,J _ _ ha⟩
theorem aG.mono(J:bN F F1)(Y:∃r,θ1=θ++r):∀{ds:List D} {xs:List V},aG K ca θ F ds xs->aG K ca θ1 F1 ds xs
 | [],_,h=>h
 | d::ds,_,h=>by
  unfold aG at h ⊢
  obtain⟨v,r,e,h1,h2⟩:=h
  exact⟨v,r,e,Rep.mono J Y h1,aG.mono J Y h2⟩
end
mutual
theorem Rep.pure:∀{d:D} {v:V},df d=true->Rep K ca θ F d v->Rep K ca θ1 F d v
 | .non,_,_,h=>h
 | .bl _,_,_,h=>h
 | .int _,_,_,h=>h
 | .str _,_,_,h=>h
 | .lst ds,_,p,h=>by
  unfold Rep at h ⊢
  obtain⟨a,xs,e,Y,J⟩:=h
  exact⟨a,xs,e,Y,aG.pure (by simpa[df] using p) J⟩
 | .tup ds,_,p,h=>by
  unfold Rep at h ⊢
  obtain⟨a,xs,e,Y,J⟩:=h
  exact⟨a,xs,e,Y,aG.pure (by simpa[df] using p) J⟩
 | .ptr k,_,p,h=>by simp[df] at p
 | .obj c ns ds,_,p,h=>by
  unfold Rep at h ⊢
  obtain⟨a,dx,xs,e,ha,hl,J⟩:=h
  exact⟨a,dx,xs,e,ha,hl,aG.pure (by simpa[df] using p) J⟩
 | .exn c,_,_,h=>by
  unfold Rep at h ⊢
  exact h
theorem aG.pure:∀{ds:List D} {xs:List V},aP ds=true->aG K ca θ F ds xs->aG K ca θ1 F ds xs
 | [],_,_,h=>h
 | d::ds,_,p,h=>by
  unfold aG at h ⊢
  obtain⟨v,r,e,h1,h2⟩:=h
  simp only[aP,To] at p
  exact⟨v,r,e,Rep.pure p.1 h1,aG.pure p.2 h2⟩
end
theorem Rep.scal{d:D}{v:V}(p:pC d=true)(h:Rep K ca θ F d v):Rep K ca θ1 F1 d v:=by
 cases d <;> first | exact h | (simp[pC] at p)
theorem aG.length:∀{ds:List D} {xs:List V},aG K ca θ F ds xs->xs.length=ds.length
 | [],_,h=>by unfold aG at h;rw[h];rfl
 | d::ds,_,h=>by
  unfold aG at h
  obtain⟨v,r,rfl,_,h2⟩:=h
  rw[Ss,Ss,aG.length h2]
theorem aG.get:∀{ds:List D} {xs:List V} {i:Nat} {d:D},aG K ca θ F ds xs->ds[i]? =some d->∃v,xs[i]? =some v/\Rep K ca θ F d v
 | [],_,_,_,_,e=>by simp at e
 | d::ds,_,0,_,h,e=>by
  unfold aG at h
  obtain⟨v,r,rfl,h1,_⟩:=h
  simp at e
  subst e
  exact⟨v,rfl,h1⟩
 | d::ds,_,i+1,x,h,e=>by
  unfold aG at h
  obtain⟨v,r,rfl,_,h2⟩:=h
  obtain⟨u,e1,e2⟩:=aG.get (i:=i) (d:=x) h2 (by simpa using e)
  exact⟨u,by simpa using e1,e2⟩
theorem aG.append:∀{ds es:List D} {xs ys:List V},aG K ca θ F ds xs->aG K ca θ F es ys->aG K ca θ F (ds++es) (xs++ys)
 | [],_,_,_,h,k=>by unfold aG at h;rw[h];exact k
 | d::ds,_,_,_,h,k=>by
  unfold aG at h
  obtain⟨v,r,rfl,h1,h2⟩:=h
  show aG K ca θ F (d::(ds++_)) (v::(r++_))
  unfold aG
  exact⟨v,_,rfl,h1,aG.append h2 k⟩
theorem aG.one{d:D}{v:V}(h:Rep K ca θ F d v):aG K ca θ F [d] [v]:=by
 unfold aG
 exact⟨v,[],rfl,h,by unfold aG;rfl⟩
theorem aG.nil:aG K ca θ F [] []:=by unfold aG;rfl
theorem aG.cons{d:D}{v:V}{ds:List D}{xs:List V}(h:Rep K ca θ F d v)(k:aG K ca θ F ds xs):aG K ca θ F (d::ds) (v::xs):=by
 unfold aG
 exact⟨v,xs,rfl,h,k⟩
theorem aG.take:∀{ds:List D} {xs:List V} (n:Nat),aG K ca θ F ds xs->aG K ca θ F (ds.take n) (xs.take n)
 | _,_,0,_=>by simp;exact aG.nil
 | [],_,n+1,h=>by unfold aG at h;rw[h];exact aG.nil
 | d::ds,_,n+1,h=>by
  unfold aG at h
  obtain⟨v,r,rfl,h1,h2⟩:=h
  exact aG.cons h1 (aG.take n h2)
theorem aG.drop:∀{ds:List D} {xs:List V} (n:Nat),aG K ca θ F ds xs->aG K ca θ F (ds.drop n) (xs.drop n)
 | _,_,0,h=>h
 | [],_,n+1,h=>by unfold aG at h;rw[h];exact aG.nil
 | d::ds,_,n+1,h=>by
  unfold aG at h
  obtain⟨v,r,rfl,h1,h2⟩:=h
  exact aG.drop n h2
theorem aG.set{d:D}{v:V}(h:Rep K ca θ F d v):∀{ds:List D} {xs:List V} (i:Nat),aG K ca θ F ds xs->aG K ca θ F (ds.set i d) (xs.set i v)
 | [],_,_,k=>by unfold aG at k;rw[k];exact aG.nil
 | _::_,_,0,k=>by
  unfold aG at k
  obtain⟨v,r,rfl,h1,h2⟩:=k
  exact aG.cons h h2
 | _::_,_,i+1,k=>by
  unfold aG at k
  obtain⟨v,r,rfl,h1,h2⟩:=k
  exact aG.cons h1 (aG.set h i h2)
end
structure Stp(H F:Hp)(θ:List Addr)(H1 F1:Hp)(θ1:List Addr):Prop where
 ff:bN F F1
 th:∃r,θ1=θ++r/\∀a∈r,H a=none
 kp:∀b o,H b=some o->b∉θ->H1 b=some o
 al:∀b o,H b=some o->∃o',H1 b=some o'
 nf:∀b o,F1 b=some o->F b=some o\/H b=none\/b∈θ
theorem Stp.refl{H F:Hp}{θ:List Addr}:Stp H F θ H F θ:=⟨bN.refl _,⟨[],by simp,by simp⟩,λ_ _ h _=>h,λ_ o h=>⟨o,h⟩,λ_ _ h=>.inl h⟩
theorem Stp.pre{H F H1 F1:Hp}{θ θ1:List Addr}(x:Stp H F θ H1 F1 θ1):∃r,θ1=θ++r:=let ⟨r,e,_⟩:=x.th;⟨r,e⟩
theorem Stp.trans{H F H1 F1 H2 F2:Hp}{θ θ1 θ2:List Addr}(x:Stp H F θ H1 F1 θ1)(y:Stp H1 F1 θ1 H2 F2 θ2):Stp H F θ H2 F2 θ2:=by
 obtain⟨r,rfl,Y⟩:=x.th
 obtain⟨r2,rfl,ab⟩:=y.th
 refine⟨x.ff.trans y.ff,⟨r++r2,by rw[S7],λa ha=> ?_⟩,λb o h hb=> ?_,λb o h=> ?_,λb o h=> ?_⟩
 ·rcases Sy.mp ha with z | z
  ·exact Y a z
  ·cases e:H a with
   | none=>rfl
   | some o=>
    obtain⟨o',J⟩:=x.al a o e
    rw[ab a z] at J
    cases J
 ·refine y.kp b o (x.kp b o h hb) λhm=> ?_
  rcases Sy.mp hm with z | z
  ·exact hb z
  ·rw[Y b z] at h
   cases h
 ·obtain⟨o',J⟩:=x.al b o h
  exact y.al b o' J
 ·rcases y.nf b o h with z | z | z
  ·exact x.nf b o z
  ·refine .inr (.inl ?_)
   cases e:H b with
   | none=>rfl
   | some o'=>
    obtain⟨o2,e2⟩:=x.al b o' e
    rw[z] at e2
    cases e2
  ·rcases Sy.mp z with q | q
   ·exact .inr (.inr q)
   ·exact .inr (.inl (Y b q))
def kG(K:R4)(ca:Nat->Addr)(H F:Hp)(θ:List Addr)(a:Addr):Cell->Prop
 | .dead=>∃o,H a=some o
 | .lst ds=>F a=none/\∃xs,H a=some (.lst xs)/\aG K ca θ F ds xs
 | .ins c ns ds=>F a=none/\∃dx xs,H a=some (.ins (ca c) dx (ns.zip xs))/\ns.length=xs.length/\aG K ca θ F ds xs
theorem kG.there{K:R4}{ca:Nat->Addr}{H F:Hp}{θ:List Addr}{a:Addr}{c:Cell}(h:kG K ca H F θ a c):∃o,H a=some o:=by
 cases c with
 | dead=>exact h
 | lst ds=>obtain⟨_,xs,e,_⟩:=h;exact⟨_,e⟩
 | ins c ns ds=>obtain⟨_,dx,xs,e,_⟩:=h;exact⟨_,e⟩
structure Now(K:R4)(ca:Nat->Addr)(H F:Hp)(θ:List Addr)(O:aC):Prop where
 fh:bN F H
 nd:θ.Nodup
 ln:θ.length=O.length
 ce:∀(k:Nat) a c,θ[k]? =some a->O[k]? =some c->kG K ca H F θ a c
theorem Now.there{K:R4}{ca:Nat->Addr}{H F:Hp}{θ:List Addr}{O:aC}(n:Now K ca H F θ O){a:Addr}(h:a∈θ):∃o,H a=some o:=by
 obtain⟨k,hk,e⟩:=Tk h
 have h1:θ[k]? =some a:=by rw[Sa hk,e]
 have h2:∃c,O[k]? =some c:=⟨O[k]'(by rw[<- n.ln];exact hk),Sa _⟩
 obtain⟨c,h2⟩:=h2
 exact(n.ce k a c h1 h2).there
theorem Now.nil{K:R4}{ca:Nat->Addr}{H F:Hp}(h:bN F H):Now K ca H F [] []:=⟨h,Wr,rfl,λk a c e _=>by simp at e⟩
structure BS(K:R4)(ca:Nat->Addr)(σ:St)(H F:Hp)(θ:List Addr)(s:S):Prop where
 now:Now K ca H F θ s.o
 len:σ.length=s.r.length
 sl:∀(i:Nat) d,s.r[i]? =some (some d)->∃v,σ[i]? =some (some v)/\Rep K ca θ F d v
theorem BS.newF{K:R4}{ca:Nat->Addr}{σ:St}{H F:Hp}{θ:List Addr}{s:S}(b:BS K ca σ H F θ s){p:Addr}(hp:H p=none)(o:HO):
 Stp H F θ (upd H p o) (upd F p o) θ/\BS K ca σ (upd H p o) (upd F p o) θ s/\bN F (upd F p o)/\upd F p o p=some o:=by
 have nm:∀a u,H a=some u->a≠p:=λa u e z=>by rw[z,hp] at e;cases e
 have fp:F p=none:=by
  cases e:F p with
  | none=>rfl
  | some u=>rw[b.now.fh p u e] at hp;cases hp
 have J:bN F (upd F p o):=λa u e=>by rw[aV (nm a u (b.now.fh a u e))];exact e
 have Y:bN H (upd H p o):=λa u e=>by rw[aV (nm a u e)];exact e
 refine⟨⟨J,⟨[],by simp,by simp⟩,λa u e _=>Y a u e,λa u e=>⟨u,Y a u e⟩,λa u e=> ?_⟩,⟨⟨λa u e=> ?_,b.now.nd,b.now.ln,λk a c e1 e2=> ?_⟩,b.len,λi d e=> ?_⟩,J,cU⟩
 ·by_cases h:a=p
  ·subst h;exact .inr (.inl hp)
  ·rw[aV h] at e;exact .inl e
 ·by_cases h:a=p
  ·subst h;rw[cU] at e ⊢;exact e
  ·rw[aV h] at e ⊢;exact b.now.fh a u e
 ·have q:=b.now.ce k a c e1 e2
  obtain⟨u,hu⟩:=q.there
  have ne:=nm a u hu
  cases c with
  | dead=>exact⟨u,Y a u hu⟩
  | lst ds=>
   obtain⟨q1,xs,q2,q3⟩:=q
   exact⟨by rw[aV ne];exact q1,xs,Y _ _ q2,q3.mono J ⟨[],by simp⟩⟩
  | ins c ns ds=>
   obtain⟨q1,dx,xs,q2,q3,q4⟩:=q
   exact⟨by rw[aV ne];exact q1,dx,xs,Y _ _ q2,q3,q4.mono J ⟨[],by simp⟩⟩
 ·obtain⟨v,h1,h2⟩:=b.sl i d e
  exact⟨v,h1,h2.mono J ⟨[],by simp⟩⟩
theorem BS.newC{K:R4}{ca:Nat->Addr}{σ:St}{H F:Hp}{θ:List Addr}{s:S}(b:BS K ca σ H F θ s){p:Addr}(hp:H p=none){ds:List D}{xs:List V}(hr:aG K ca θ F ds xs):
 Stp H F θ (upd H p (.lst xs)) F (θ++[p])/\BS K ca σ (upd H p (.lst xs)) F (θ++[p]) ⟨s.r,s.o++[.lst ds]⟩/\Rep K ca (θ++[p]) F (.ptr s.o.length) (.ref p):=by
 have nm:∀a u,H a=some u->a≠p:=λa u e z=>by rw[z,hp] at e;cases e
 have fp:F p=none:=by
  cases e:F p with
  | none=>rfl
  | some u=>rw[b.now.fh p u e] at hp;cases hp
 have J:bN H (upd H p (.lst xs)):=λa u e=>by rw[aV (nm a u e)];exact e
 have pt:p∉θ:=λh=>by obtain⟨u,hu⟩:=b.now.there h;rw[hp] at hu;cases hu
 refine⟨⟨bN.refl _,⟨[p],rfl,by simpa using hp⟩,λa u e _=>J a u e,λa u e=>⟨u,J a u e⟩,λa u e=>.inl e⟩,⟨⟨b.now.fh.trans J, ?_, ?_,λk a c e1 e2=> ?_⟩,b.len,λi d e=> ?_⟩, ?_⟩
 ·refine TW.mpr ⟨b.now.nd,by simp,λa ha x hx=> ?_⟩
  rw[Sv.mp hx]
  rintro rfl
  exact pt ha
 ·simp[b.now.ln]
 ·by_cases hk:k<θ.length
  ·rw[Sw hk] at e1
   rw[Sw (by rw[<- b.now.ln];exact hk)] at e2
   have q:=b.now.ce k a c e1 e2
   obtain⟨u,hu⟩:=q.there
   cases c with
   | dead=>exact⟨u,J a u hu⟩
   | lst ds=>
    obtain⟨q1,ys,q2,Y⟩:=q
    exact⟨q1,ys,J _ _ q2,Y.mono (bN.refl _) ⟨[p],rfl⟩⟩
   | ins c ns ds=>
    obtain⟨q1,dx,ys,q2,Y,q4⟩:=q
    exact⟨q1,dx,ys,J _ _ q2,Y,q4.mono (bN.refl _) ⟨[p],rfl⟩⟩
  ·have ab:k<(θ++[p]).length:=(Sx.mp e1).1
   have ac:k=θ.length:=by simp at ab;omega
   subst ac
   rw[Sj (Si _)] at e1
   rw[Sj (by rw[b.now.ln];exact Si _),b.now.ln] at e2
   simp at e1 e2
   subst e1;subst e2
   exact⟨fp,xs,cU,hr.mono (bN.refl _) ⟨[p],rfl⟩⟩
 ·obtain⟨v,h1,h2⟩:=b.sl i d e
  exact⟨v,h1,h2.mono (bN.refl _) ⟨[p],rfl⟩⟩
 ·unfold Rep
  exact⟨p,rfl,by rw[<- b.now.ln];simp⟩
theorem BS.set{K:R4}{ca:Nat->Addr}{σ:St}{H F:Hp}{θ:List Addr}{s:S}(b:BS K ca σ H F θ s){d:D}{v:V}(h:Rep K ca θ F d v)(i:Nat):BS K ca (σ.set i (some v)) H F θ ⟨s.r.set i (some d),s.o⟩:=by
 refine⟨b.now,by simp[b.len],λj e Y=> ?_⟩
 by_cases J:i=j
 ·subst J
  have ab:i<s.r.length:=by
   have:=(Sx.mp Y).1
   simpa using this
  rw[Tb ab] at Y
  cases Y
  exact⟨v,Tb (by rw[b.len];exact ab),h⟩
 ·rw[Tg J] at Y
  obtain⟨u,h1,h2⟩:=b.sl j e Y
  exact⟨u,by rw[Tg J];exact h1,h2⟩
abbrev EM:=S->Res (D×S)
abbrev AM:=S->Res (List D×S)
inductive Out where
 | next (s:S) | ret (d:D) (s:S) | brk (s:S) | cnt (s:S) | exc (c:Nat) (a:D) (o:S) | bad
abbrev SM:=S->Out
def PoR{α:Type}(C:Ct)(H F:Hp)(θ:List Addr)(x:Res α)(k:α->Hp->Hp->List Addr->Prop):Prop:=match x with
 | .ok a=>∀H1 F1 θ1,Stp H F θ H1 F1 θ1->k a H1 F1 θ1
 | .exc c a o=>∀H1 F1 θ1,Stp H F θ H1 F1 θ1->Now C.K C.ca H1 F1 θ1 o.o->C.W c a o H1 F1 θ1
 | .bad=>False
abbrev PoE(C:Ct)(σ:St)(H F:Hp)(θ:List Addr)(x:Res (D×S))(Q:VK):Prop:=
 PoR C H F θ x λy H1 F1 θ1=>BS C.K C.ca σ H1 F1 θ1 y.2->∀v,Rep C.K C.ca θ1 F1 y.1 v->Q v H1
abbrev PoA(C:Ct)(σ:St)(H F:Hp)(θ:List Addr)(x:Res (List D×S))(Q:List V->Hp->Prop):Prop:=
 PoR C H F θ x λy H1 F1 θ1=>BS C.K C.ca σ H1 F1 θ1 y.2->∀v,aG C.K C.ca θ1 F1 y.1 v->Q v H1
abbrev PoT(C:Ct)(σ:St)(H F:Hp)(θ:List Addr)(x:Res (Bool×S))(Q:Bool->Hp->Prop):Prop:=
 PoR C H F θ x λy H1 F1 θ1=>BS C.K C.ca σ H1 F1 θ1 y.2->Q y.1 H1
abbrev PoG(C:Ct)(H F:Hp)(θ:List Addr)(x:Res S)(Q:St->Hp->Prop):Prop:=
 PoR C H F θ x λy H1 F1 θ1=>∀J,BS C.K C.ca J H1 F1 θ1 y->Q J H1
def PoS(C:Ct)(H F:Hp)(θ:List Addr)(x:Out)(Q:Ends):Prop:=match x with
 | .next s1=>∀J H1 F1 θ1,Stp H F θ H1 F1 θ1->BS C.K C.ca J H1 F1 θ1 s1->Q.nx J H1
 | .ret d s1=>∀v J H1 F1 θ1,Stp H F θ H1 F1 θ1->BS C.K C.ca J H1 F1 θ1 s1->Rep C.K C.ca θ1 F1 d v->Q.rt v H1
 | .brk s1=>∀J H1 F1 θ1,Stp H F θ H1 F1 θ1->BS C.K C.ca J H1 F1 θ1 s1->Q.bk J H1
 | .cnt s1=>∀J H1 F1 θ1,Stp H F θ H1 F1 θ1->BS C.K C.ca J H1 F1 θ1 s1->Q.ct J H1
 | .exc c a o=>∀H1 F1 θ1,Stp H F θ H1 F1 θ1->Now C.K C.ca H1 F1 θ1 o.o->C.W c a o H1 F1 θ1
 | .bad=>False
theorem PoR.after{α:Type}{C:Ct}{H F H1 F1:Hp}{θ θ1:List Addr}{x:Res α}{k:α->Hp->Hp->List Addr->Prop}(st:Stp H F θ H1 F1 θ1)(p:PoR C H F θ x k):PoR C H1 F1 θ1 x k:=by
 unfold PoR at p ⊢
 cases x with
 | ok a=>exact λH2 F2 θ2 s2=>p H2 F2 θ2 (st.trans s2)
 | exc c a o=>exact λH2 F2 θ2 s2 n=>p H2 F2 θ2 (st.trans s2) n
 | bad=>exact p
theorem PoR.bind {α β:Type} {C:Ct} {H F:Hp} {θ:List Addr} {x:Res α} {f:α->Res β} {k:α->Hp->Hp->List Addr->Prop} {j:β->Hp->Hp->List Addr->Prop}
 (p:PoR C H F θ (x.bind f) j) (h:∀a H1 F1 θ1,x=.ok a->Stp H F θ H1 F1 θ1->PoR C H1 F1 θ1 (f a) j->k a H1 F1 θ1):PoR C H F θ x k:=by
 cases x with
 | ok a=>exact λH1 F1 θ1 st=>h a H1 F1 θ1 rfl st (PoR.after st p)
 | exc c a o=>exact p
 | bad=>exact p
theorem PoS.after{C:Ct}{H F H1 F1:Hp}{θ θ1:List Addr}{x:Out}{Q:Ends}(st:Stp H F θ H1 F1 θ1)(p:PoS C H F θ x Q):PoS C H1 F1 θ1 x Q:=by
 unfold PoS at p ⊢
 cases x with
 | next s=>exact λv H2 F2 θ2 s2 b=>p v H2 F2 θ2 (st.trans s2) b
 | ret d s=>exact λv J H2 F2 θ2 s2 b r=>p v J H2 F2 θ2 (st.trans s2) b r
 | brk s=>exact λv H2 F2 θ2 s2 b=>p v H2 F2 θ2 (st.trans s2) b
 | cnt s=>exact λv H2 F2 θ2 s2 b=>p v H2 F2 θ2 (st.trans s2) b
 | exc c a o=>exact λH2 F2 θ2 s2 n=>p H2 F2 θ2 (st.trans s2) n
 | bad=>exact p
def Res.out{α:Type}(x:Res α)(f:α->Out):Out:=match x with
 | .ok a=>f a
 | .exc c a o=>.exc c a o
 | .bad=>.bad
@[simp] theorem nu {α:Type} (a:α) (f:α->Out):(Res.ok a).out f=f a:=rfl
@[simp] theorem Qe {α:Type} (c:Nat) (a:D) (o:S) (f:α->Out):(Res.exc c a o:Res α).out f=.exc c a o:=rfl
@[simp] theorem Qy {α:Type} (f:α->Out):(Res.bad:Res α).out f=.bad:=rfl
theorem PoS.out {α:Type} {C:Ct} {H F:Hp} {θ:List Addr} {x:Res α} {f:α->Out} {k:α->Hp->Hp->List Addr->Prop} {Q:Ends}
 (p:PoS C H F θ (x.out f) Q) (h:∀a H1 F1 θ1,x=.ok a->Stp H F θ H1 F1 θ1->PoS C H1 F1 θ1 (f a) Q->k a H1 F1 θ1):PoR C H F θ x k:=by
 cases x with
 | ok a=>exact λH1 F1 θ1 st=>h a H1 F1 θ1 rfl st (PoS.after st p)
 | exc c a o=>exact p
 | bad=>exact p
def RdE(C:Ct)(t:TE)(m:EM):Prop:=∀σ H F θ s Q,BS C.K C.ca σ H F θ s->PoE C σ H F θ (m s) Q->t σ H Q
def RdA(C:Ct)(t:TA)(m:AM):Prop:=∀σ H F θ s Q,BS C.K C.ca σ H F θ s->PoA C σ H F θ (m s) Q->t σ H Q
abbrev TM:=S->Res (Bool×S)
def RdT(C:Ct)(t:TT)(m:TM):Prop:=∀σ H F θ s Q,BS C.K C.ca σ H F θ s->PoT C σ H F θ (m s) Q->t σ H Q
abbrev GM:=D->S->Res S
def RdG(C:Ct)(t:TG)(m:GM):Prop:=∀σ H F θ s d v Q,BS C.K C.ca σ H F θ s->Rep C.K C.ca θ F d v->PoG C H F θ (m d s) Q->t v σ H Q
def RdS(C:Ct)(t:TS)(m:SM):Prop:=∀σ H F θ s Q,BS C.K C.ca σ H F θ s->PoS C H F θ (m s) Q->t Q σ H
section
variable {C : Ct}
@[simp] theorem iL {K ca θ F v}:Rep K ca θ F .non v↔v=.non:=by unfold Rep;exact Ws
@[simp] theorem dt {K ca θ F v b}:Rep K ca θ F (.bl b) v↔v=.bl b:=by unfold Rep;exact Ws
@[simp] theorem bz {K ca θ F v i}:Rep K ca θ F (.int i) v↔v=.int i:=by unfold Rep;exact Ws
@[simp] theorem dP {K ca θ F v x}:Rep K ca θ F (.str x) v↔v=.str x:=by unfold Rep;exact Ws
def aa(i:Nat):EM:=λs=>match s.r[i]? with
 | some (some d)=>.ok (d,s)
 | _=>.bad
theorem af(i:Nat):RdE C (Iw i) (aa i):=by
 intro σ H F θ s Q b p
 unfold aa at p
 split at p
 ·rename_i d e
  obtain⟨v,h1,h2⟩:=b.sl i d e
  exact⟨v,h1,p H F θ .refl b v h2⟩
 ·exact p.elim
def aq(d:D):EM:=λs=>.ok (d,s)
theorem aA(i:Int):RdE C (tC (.int i)) (aq (.int i)):=λσ H F θ s Q b p=>p H F θ .refl b (.int i) (bz.mpr rfl)
theorem nU(i:Bool):RdE C (tC (.bl i)) (aq (.bl i)):=λσ H F θ s Q b p=>p H F θ .refl b (.bl i) (dt.mpr rfl)
theorem xI(i:Str):RdE C (tC (.str i)) (aq (.str i)):=λσ H F θ s Q b p=>p H F θ .refl b (.str i) (dP.mpr rfl)
theorem Nj:RdE C (tC .non) (aq .non):=λσ H F θ s Q b p=>p H F θ .refl b .non (iL.mpr rfl)
abbrev Op2:=aC->D->D->Res D
abbrev Op1:=aC->D->Res D
def gQ(C:Ct)(r:R2)(f:Op2):Prop:=∀σ H F θ s x y v w Q,BS C.K C.ca σ H F θ s->Rep C.K C.ca θ F x v->Rep C.K C.ca θ F y w->
 PoE C σ H F θ ((f s.o x y).bind λd=>.ok (d,s)) Q->r v w H Q
def ak(f:Op2)(ma mb:EM):EM:=λs=>(ma s).bind λx=>(mb x.2).bind λy=>(f y.2.o x.1 y.1).bind λd=>.ok (d,y.2)
theorem au{r:R2}{f:Op2}{ta tb:TE}{ma mb:EM}(Y:gQ C r f)(ha:RdE C ta ma)(hb:RdE C tb mb):RdE C (tOp r ta tb) (ak f ma mb):=by
 intro σ H F θ s Q b p
 refine ha σ H F θ s _ b (PoR.bind p ?_)
 rintro ⟨x,s1⟩ H1 F1 θ1 _ ab p1 b1 v r1
 refine hb σ H1 F1 θ1 s1 _ b1 (PoR.bind p1 ?_)
 rintro ⟨y,s2⟩ H2 F2 θ2 _ J p2 b2 w r2
 exact Y σ H2 F2 θ2 s2 x y v w Q b2 (r1.mono J.ff J.pre) r2 p2
def Nv(C:Ct)(r:V->Hp->VK->Prop)(f:Op1):Prop:=∀σ H F θ s x v Q,BS C.K C.ca σ H F θ s->Rep C.K C.ca θ F x v->
 PoE C σ H F θ ((f s.o x).bind λd=>.ok (d,s)) Q->r v H Q
def unM(f:Op1)(ma:EM):EM:=λs=>(ma s).bind λx=>(f x.2.o x.1).bind λd=>.ok (d,x.2)
theorem u9{r:V->Hp->VK->Prop}{f:Op1}{ta:TE}{ma:EM}(J:Nv C r f)(ha:RdE C ta ma):RdE C (tUn r ta) (unM f ma):=by
 intro σ H F θ s Q b p
 refine ha σ H F θ s _ b (PoR.bind p ?_)
 rintro ⟨x,s1⟩ H1 F1 θ1 _ Y p1 b1 v r1
 exact J σ H1 F1 θ1 s1 x v Q b1 r1 p1
def ao:AM:=λs=>.ok ([],s)
def ae(m:EM)(r:AM):AM:=λs=>(m s).bind λx=>(r x.2).bind λy=>.ok (x.1::y.1,y.2)
theorem av:RdA C sf ao:=λσ H F θ s Q b p=>p H F θ .refl b [] aG.nil
theorem ai{te:TE}{ta:TA}{m:EM}{r:AM}(Y:RdE C te m)(ha:RdA C ta r):RdA C (oH te ta) (ae m r):=by
 intro σ H F θ s Q b p
 refine Y σ H F θ s _ b (PoR.bind p ?_)
 rintro ⟨x,s1⟩ H1 F1 θ1 _ ab p1 b1 v r1
 refine ha σ H1 F1 θ1 s1 _ b1 (PoR.bind p1 ?_)
 rintro ⟨y,s2⟩ H2 F2 θ2 _ J p2 b2 w r2
 exact p2 H2 F2 θ2 .refl b2 (v::w) (aG.cons (r1.mono J.ff J.pre) r2)
abbrev OpN:=aC->List D->Res D
def kK(C:Ct)(r:List V->Hp->VK->Prop)(f:OpN):Prop:=∀σ H F θ s xs vs Q,BS C.K C.ca σ H F θ s->aG C.K C.ca θ F xs vs->
 PoE C σ H F θ ((f s.o xs).bind λd=>.ok (d,s)) Q->r vs H Q
def bf(f:OpN)(ma:AM):EM:=λs=>(ma s).bind λx=>(f x.2.o x.1).bind λd=>.ok (d,x.2)
theorem aY{r:List V->Hp->VK->Prop}{f:OpN}{ta:TA}{ma:AM}(hc:kK C r f)(ha:RdA C ta ma):RdE C (tCB r ta) (bf f ma):=by
 intro σ H F θ s Q b p
 refine ha σ H F θ s _ b (PoR.bind p ?_)
 rintro ⟨x,s1⟩ H1 F1 θ1 _ J p1 Y v r1
 exact hc σ H1 F1 θ1 s1 x v Q Y r1 p1
def kC(ma:AM):EM:=λs=>(ma s).bind λx=>if x.1.length<=16777216 then .ok (.tup x.1,x.2) else .bad
theorem nB{ta:TA}{ma:AM}(ha:RdA C ta ma):RdE C (MX ta) (kC ma):=by
 intro σ H F θ s Q b p
 refine ha σ H F θ s _ b (PoR.bind p ?_)
 rintro ⟨x,s1⟩ H1 F1 θ1 _ Y p1 b1 v J
 dsimp only at p1
 split at p1
 ·rename_i hl
  refine⟨by rw[J.length];exact hl,λq hq=> ?_⟩
  obtain⟨st,b2,sF,e⟩:=b1.newF hq (.tup v)
  refine p1 _ _ _ st b2 _ ?_
  unfold Rep
  exact⟨q,v,rfl,SqT.of e,J.mono sF ⟨[],by simp⟩⟩
 ·exact p1.elim
def jy(ma:AM):EM:=λs=>(ma s).bind λx=>if x.1.length<=16777216 then .ok (.lst x.1,x.2) else .bad
theorem oW{ta:TA}{ma:AM}(ha:RdA C ta ma):RdE C (B8 ta) (jy ma):=by
 intro σ H F θ s Q b p
 refine ha σ H F θ s _ b (PoR.bind p ?_)
 rintro ⟨x,s1⟩ H1 F1 θ1 _ Y p1 b1 v J
 dsimp only at p1
 split at p1
 ·rename_i hl
  refine⟨by rw[J.length];exact hl,λq hq=> ?_⟩
  obtain⟨st,b2,sF,e⟩:=b1.newF hq (.lst v)
  refine p1 _ _ _ st b2 _ ?_
  unfold Rep
  exact⟨q,v,rfl,SqL.of e,J.mono sF ⟨[],by simp⟩⟩
 ·exact p1.elim
def jG(ma:AM):EM:=λs=>(ma s).bind λx=>if x.1.length<=16777216 then .ok (.ptr x.2.o.length,⟨x.2.r,x.2.o++[.lst x.1]⟩) else .bad
theorem j3{ta:TA}{ma:AM}(ha:RdA C ta ma):RdE C (B8 ta) (jG ma):=by
 intro σ H F θ s Q b p
 refine ha σ H F θ s _ b (PoR.bind p ?_)
 rintro ⟨x,s1⟩ H1 F1 θ1 _ Y p1 b1 v J
 dsimp only at p1
 split at p1
 ·rename_i hl
  refine⟨by rw[J.length];exact hl,λq hq=> ?_⟩
  obtain⟨st,b2,rp⟩:=b1.newC hq J
  exact p1 _ _ _ st b2 _ rp
 ·exact p1.elim
def bc(m:EM):TM:=λs=>(m s).bind λx=>match x.1 with
 | .bl b=>.ok (b,x.2)
 | _=>.bad
theorem bH{t:TE}{m:EM}(h:RdE C t m):RdT C (FA t) (bc m):=by
 intro σ H F θ s Q b p
 refine h σ H F θ s _ b (PoR.bind p ?_)
 rintro ⟨x,s1⟩ H1 F1 θ1 _ J p1 Y v r1
 cases x <;> first | exact R5 p1 | skip
 rename_i k _
 exact⟨k,dt.mp r1,p1 _ _ _ .refl Y⟩
theorem gO{t:TE}{m:EM}(h:RdE C t m):RdT C (tB t) (bc m):=bH h
def o8(a b:TM):TM:=λs=>(a s).bind λx=>if x.1 then b x.2 else .ok (false,x.2)
def orT(a b:TM):TM:=λs=>(a s).bind λx=>if x.1 then .ok (true,x.2) else b x.2
def kB(a:TM):TM:=λs=>(a s).bind λx=>.ok (!x.1,x.2)
theorem xa{t u:TT}{a b:TM}(ha:RdT C t a)(hb:RdT C u b):RdT C (NZ t u) (o8 a b):=by
 intro σ H F θ s Q bs p
 refine ha σ H F θ s _ bs (PoR.bind p ?_)
 rintro ⟨x,s1⟩ H1 F1 θ1 _ Y p1 J
 cases x with
 | true=>exact tR (hb σ H1 F1 θ1 s1 Q J p1)
 | false=>exact tK (p1 _ _ _ .refl J)
theorem kv{t u:TT}{a b:TM}(ha:RdT C t a)(hb:RdT C u b):RdT C (tOr t u) (orT a b):=by
 intro σ H F θ s Q bs p
 refine ha σ H F θ s _ bs (PoR.bind p ?_)
 rintro ⟨x,s1⟩ H1 F1 θ1 _ Y p1 J
 cases x with
 | true=>exact tR (p1 _ _ _ .refl J)
 | false=>exact tK (hb σ H1 F1 θ1 s1 Q J p1)
theorem jK{t:TT}{a:TM}(ha:RdT C t a):RdT C (M4 t) (kB a):=by
 intro σ H F θ s Q bs p
 refine ha σ H F θ s _ bs (PoR.bind p ?_)
 rintro ⟨x,s1⟩ H1 F1 θ1 _ J p1 Y
 exact p1 _ _ _ .refl Y
def AV(a b:EM):EM:=λs=>(a s).bind λx=>match x.1 with
 | .bl true=>b x.2
 | .bl false=>.ok (.bl false,x.2)
 | _=>.bad
def orV(a b:EM):EM:=λs=>(a s).bind λx=>match x.1 with
 | .bl true=>.ok (.bl true,x.2)
 | .bl false=>b x.2
 | _=>.bad
def BX(a:EM):EM:=λs=>(a s).bind λx=>match x.1 with
 | .bl k=>.ok (.bl (!k),x.2)
 | _=>.bad
theorem EE{t u:TE}{a b:EM}(ha:RdE C t a)(hb:RdE C u b):RdE C (Ku t u) (AV a b):=by
 intro σ H F θ s Q bs p
 refine ha σ H F θ s _ bs (PoR.bind p ?_)
 rintro ⟨x,s1⟩ H1 F1 θ1 _ Y p1 J v r1
 cases x <;> first | exact R5 p1 | skip
 rename_i k _
 refine⟨k,dt.mp r1, ?_⟩
 cases k with
 | true=>exact tR (hb σ H1 F1 θ1 s1 Q J p1)
 | false=>exact tK (p1 _ _ _ .refl J _ (dt.mpr rfl))
theorem DT{t:TE}{a:EM}(ha:RdE C t a):RdE C (Kk t) (BX a):=by
 intro σ H F θ s Q bs p
 refine ha σ H F θ s _ bs (PoR.bind p ?_)
 rintro ⟨x,s1⟩ H1 F1 θ1 _ J p1 Y v r1
 cases x <;> first | exact R5 p1 | skip
 rename_i k _
 exact⟨k,dt.mp r1,p1 _ _ _ .refl Y _ (dt.mpr rfl)⟩
def ifM(c:TM)(a b:EM):EM:=λs=>(c s).bind λx=>if x.1 then a x.2 else b x.2
def Out.then(x:Out)(f:S->Out):Out:=match x with
 | .next s=>f s
 | o=>o
@[simp] theorem zD (s:S) (f:S->Out):(Out.next s).then f=f s:=rfl
@[simp] theorem PR (d:D) (s:S) (f:S->Out):(Out.ret d s).then f=.ret d s:=rfl
@[simp] theorem PY (s:S) (f:S->Out):(Out.brk s).then f=.brk s:=rfl
@[simp] theorem PL (s:S) (f:S->Out):(Out.cnt s).then f=.cnt s:=rfl
@[simp] theorem Pq (c:Nat) (a:D) (o:S) (f:S->Out):(Out.exc c a o).then f=.exc c a o:=rfl
@[simp] theorem P0 (f:S->Out):Out.bad.then f=.bad:=rfl
def aN(a b:SM):SM:=λs=>(a s).then b
def bU:SM:=λs=>.next s
theorem bK:RdS C Kg bU:=λσ H F θ s Q b p=>p σ H F θ .refl b
theorem aJ{t u:TS}{a b:SM}(ha:RdS C t a)(hb:RdS C u b):RdS C (MF t u) (aN a b):=by
 intro σ H F θ s Q bs p
 refine ha σ H F θ s _ bs ?_
 unfold aN at p
 cases e:a s with
 | next s1=>
  rw[e] at p
  intro Y H1 F1 θ1 J b1
  exact hb Y H1 F1 θ1 s1 Q b1 (PoS.after J p)
 | ret d s1=>rw[e] at p;exact p
 | brk s1=>rw[e] at p;exact p
 | cnt s1=>rw[e] at p;exact p
 | exc c a o=>rw[e] at p;exact p
 | bad=>rw[e] at p;exact p
def de(m:EM):SM:=λs=>(m s).out λx=>.next x.2
theorem cX{t:TE}{m:EM}(h:RdE C t m):RdS C (Kb t) (de m):=by
 intro σ H F θ s Q b p
 refine h σ H F θ s _ b (PoS.out p ?_)
 rintro ⟨x,s1⟩ H1 F1 θ1 _ J p1 Y v r1
 exact p1 σ H1 F1 θ1 .refl Y
def cq(m:EM):SM:=λs=>(m s).out λx=>.ret x.1 x.2
theorem bB{t:TE}{m:EM}(h:RdE C t m):RdS C (M8 t) (cq m):=by
 intro σ H F θ s Q b p
 refine h σ H F θ s _ b (PoS.out p ?_)
 rintro ⟨x,s1⟩ H1 F1 θ1 _ J p1 Y v r1
 exact p1 v σ H1 F1 θ1 .refl Y r1
def PM:SM:=λs=>.ret .non s
def ifS(c:TM)(a b:SM):SM:=λs=>(c s).out λx=>if x.1 then a x.2 else b x.2
theorem cP{t:TT}{u w:TS}{c:TM}{a b:SM}(hc:RdT C t c)(ha:RdS C u a)(hb:RdS C w b):RdS C (Nb t u w) (ifS c a b):=by
 intro σ H F θ s Q bs p
 refine hc σ H F θ s _ bs (PoS.out p ?_)
 rintro ⟨x,s1⟩ H1 F1 θ1 _ Y p1 J
 cases x with
 | true=>exact tR (ha σ H1 F1 θ1 s1 Q J p1)
 | false=>exact tK (hb σ H1 F1 θ1 s1 Q J p1)
def lO:SM:=λ_=>.bad
theorem fb:RdS C GL lO:=λσ H F θ s Q b p=>p
def aE(i:Nat):GM:=λd s=>.ok ⟨s.r.set i (some d),s.o⟩
theorem aK(i:Nat):RdG C (u0 i) (aE i):=λσ H F θ s d v Q b r p=>p H F θ .refl _ (b.set r i)
def Fx(C:Ct)(t:TGs)(m:List D->S->Res S):Prop:=∀σ H F θ s ds vs Q,BS C.K C.ca σ H F θ s->aG C.K C.ca θ F ds vs->PoG C H F θ (m ds s) Q->t vs σ H Q
def cL:List D->S->Res S:=λds s=>match ds with
 | []=>.ok s
 | _=>.bad
def aS(g:GM)(r:List D->S->Res S):List D->S->Res S:=λds s=>match ds with
 | d::ds=>(g d s).bind λs1=>r ds s1
 | []=>.bad
theorem eG:Fx C M7 cL:=by
 intro σ H F θ s ds vs Q b r p
 cases ds with
 | nil=>exact⟨by unfold aG at r;exact r,p H F θ .refl σ b⟩
 | cons d ds=>exact R5 p
theorem bF{t:TG}{u:TGs}{g:GM}{m:List D->S->Res S}(Y:RdG C t g)(hr:Fx C u m):Fx C (Kf t u) (aS g m):=by
 intro σ H F θ s ds vs Q b r p
 cases ds with
 | nil=>exact R5 p
 | cons d ds=>
  unfold aG at r
  obtain⟨v,w,rfl,r1,r2⟩:=r
  refine⟨v,w,rfl,Y σ H F θ s d v _ b r1 (PoR.bind p ?_)⟩
  intro s1 H1 F1 θ1 _ J p1 σ1 b1
  exact hr σ1 H1 F1 θ1 s1 ds w Q b1 (r2.mono J.ff J.pre) p1
def cI(m:List D->S->Res S)(n:Nat):GM:=λd s=>match d with
 | .tup ds=>if ds.length=n then m ds s else .bad
 | _=>.bad
theorem ey{n:Nat}{t:TGs}{m:List D->S->Res S}(h:Fx C t m):RdG C (NA C.K n t) (cI m n):=by
 intro σ H F θ s d v Q b r p
 cases d <;> first | exact R5 p | skip
 rename_i ds
 unfold Rep at r
 obtain⟨a,xs,rfl,Y,J⟩:=r
 unfold cI at p
 dsimp only at p
 split at p
 ·rename_i hl
  exact⟨a,xs,rfl,bN.seqT b.now.fh Y,by rw[J.length];exact hl,h σ H F θ s ds xs Q b J p⟩
 ·exact R5 p
def lN(m:EM)(g:GM):SM:=λs=>((m s).bind λx=>g x.1 x.2).out λs=>.next s
theorem ux{t:TE}{m:EM}{g:TG}{J:GM}(h:RdE C t m)(hg:RdG C g J):RdS C (AW t g) (lN m J):=by
 intro σ H F θ s Q b p
 have p':PoG C H F θ ((m s).bind λx=>J x.1 x.2) Q.nx:=PoS.out p λs1 H1 F1 θ1 _ Y p1 σ1 b1=>p1 σ1 H1 F1 θ1 .refl b1
 refine h σ H F θ s _ b (PoR.bind p' ?_)
 rintro ⟨x,s1⟩ H1 F1 θ1 _ Y p1 b1 v r1
 exact hg σ H1 F1 θ1 s1 x v Q.nx b1 r1 p1
abbrev setM(i:Nat)(m:EM):SM:=lN m (aE i)
theorem aW{t:TE}{m:EM}{i:Nat}(h:RdE C t m):RdS C (AW t (u0 i)) (setM i m):=ux h (aK i)
def PJ(i:Nat)(f:Op2)(m:EM):SM:=setM i (ak f (aa i) m)
end
open PySem PySem.Spec PyProof.Rows L2
section
variable {C : Ct}
structure tJ(C:Ct)(J:It)(ds:List D)(ok:aC->Prop)(H F:Hp)(θ:List Addr):Prop where
 go:∀(i:Nat) H2 F2 θ2 O2,i<ds.length->Stp H F θ H2 F2 θ2->Now C.K C.ca H2 F2 θ2 O2->ok O2->J.go i H2
 yl:∀(i:Nat) d σ H2 F2 θ2 s2 x H3,ds[i]? =some d->Stp H F θ H2 F2 θ2->BS C.K C.ca σ H2 F2 θ2 s2->ok s2.o->J.yld i H2 x H3->∃F3,Stp H2 F2 θ2 H3 F3 θ2/\BS C.K C.ca σ H3 F3 θ2 s2/\Rep C.K C.ca θ2 F3 d x
 st:∀(i:Nat) H2 F2 θ2 O2,ds.length<=i->Stp H F θ H2 F2 θ2->Now C.K C.ca H2 F2 θ2 O2->ok O2->J.stop i H2
def okC(ds:List D):Option Nat->aC->Prop
 | none,_=>True
 | some k,O=>O[k]? =some (.lst ds)
abbrev IM:=S->Res ((List D×Option Nat)×S)
def RdI(C:Ct)(Y:TI)(im:IM):Prop:=∀σ H F θ s R,BS C.K C.ca σ H F θ s->
 PoR C H F θ (im s) (λy H1 F1 θ1=>BS C.K C.ca σ H1 F1 θ1 y.2->∀J,tJ C J y.1.1 (okC y.1.1 y.1.2) H1 F1 θ1->R J H1)->Y σ H R
open Classical in
noncomputable def cx (ok:aC->Prop)(g:GM)(body:SM):List D->S->Out
 | [],s=>if ok s.o then .next s else .bad
 | d::ds,s=>if ok s.o then (g d s).out λs1=>match body s1 with
  | .next s2=>cx ok g body ds s2
  | .cnt s2=>cx ok g body ds s2
  | .brk s2=>.next s2
  | o=>o
  else .bad
noncomputable def eC (im:IM)(g:GM)(body:SM):SM:=λs=>(im s).out λy=>cx (okC y.1.1 y.1.2) g body y.1.1 y.2
theorem dH{wi:TI}{g:TG}{tb:TS}{im:IM}{gm:GM}{bm:SM}(hi:RdI C wi im)(hg:RdG C g gm)(hb:RdS C tb bm):RdS C (NO wi g tb) (eC im gm bm):=by
 intro σ H F θ s Q b p
 refine hi σ H F θ s _ b (PoS.out p ?_)
 rintro ⟨⟨ds,k⟩,s1⟩ H1 F1 θ1 _ b2 p1 b1 J it
 dsimp only at p1 it b1
 refine⟨λi m σ' H'=>m=ds.length-i/\i<=ds.length/\∃F' θ' s',Stp H1 F1 θ1 H' F' θ'/\BS C.K C.ca σ' H' F' θ' s'/\PoS C H' F' θ' (cx (okC ds k) gm bm (ds.drop i) s') Q,⟨ds.length,by simp,S1 _,F1,θ1,s1,.refl,b1,by simpa using p1⟩, ?_⟩
 rintro i m σ' H' ⟨rfl,b6,F',θ',s',st,bs,po⟩
 by_cases lt:i<ds.length
 ·right
  rw[Tc lt,cx] at po
  split at po
  ·rename_i am
   refine⟨it.go i H' F' θ' s'.o lt st bs.now am,λσ2 H2=>i+1<=ds.length/\∃F2 θ2 s2,Stp H1 F1 θ1 H2 F2 θ2/\BS C.K C.ca σ2 H2 F2 θ2 s2/\PoS C H2 F2 θ2 (cx (okC ds k) gm bm (ds.drop (i+1)) s2) Q,λσ2 H2 n=>⟨ds.length-(i+1),by omega,rfl,n⟩, ?_⟩
   intro x H3 hy
   obtain⟨F3,a2,b3,rp⟩:=it.yl i ds[i] σ' H' F' θ' s' x H3 (Sa lt) st bs am hy
   refine hg σ' H3 F3 θ' s' ds[i] x _ b3 rp (PoS.out (PoS.after a2 po) ?_)
   intro s4 H4 F4 θ4 _ bb Y σ4 b4
   refine hb σ4 H4 F4 θ4 s4 _ b4 ?_
   have a3:∀s5,PoS C H4 F4 θ4 (cx (okC ds k) gm bm (ds.drop (i+1)) s5) Q->∀σ5 H5 F5 θ5,Stp H4 F4 θ4 H5 F5 θ5->BS C.K C.ca σ5 H5 F5 θ5 s5->i+1<=ds.length/\∃F2 θ2 s2,Stp H1 F1 θ1 H5 F2 θ2/\BS C.K C.ca σ5 H5 F2 θ2 s2/\PoS C H5 F2 θ2 (cx (okC ds k) gm bm (ds.drop (i+1)) s2) Q:=
    λs5 p5 σ5 H5 F5 θ5 a4 b5=>⟨lt,F5,θ5,s5,st.trans (a2.trans (bb.trans a4)),b5,PoS.after a4 p5⟩
   cases e:bm s4 with
   | next s5=>rw[e] at Y;exact a3 s5 Y
   | cnt s5=>rw[e] at Y;exact a3 s5 Y
   | brk s5=>rw[e] at Y;exact Y
   | ret d s5=>rw[e] at Y;exact Y
   | exc c a o=>rw[e] at Y;exact Y
   | bad=>rw[e] at Y;exact Y
  ·exact R5 po
 ·left
  rw[UK (by omega),cx] at po
  split at po
  ·rename_i am
   exact⟨it.st i H' F' θ' s'.o (by omega) st bs.now am,po σ' H' F' θ' .refl bs⟩
  ·exact R5 po
def j4(c:TM)(b:SM):Nat->S->Out
 | 0,_=>.bad
 | n+1,s=>(c s).out λx=>if x.1 then (match b x.2 with
  | .next s2=>j4 c b n s2
  | .cnt s2=>j4 c b n s2
  | .brk s2=>.next s2
  | o=>o) else .next x.2
def ue(φ:S->Nat)(c:TM)(b:SM):SM:=λs=>j4 c b (φ s) s
theorem B9{tc:TT}{tb:TS}{φ:S->Nat}{c:TM}{b:SM}(hc:RdT C tc c)(hb:RdS C tb b):RdS C (FQ tc tb) (ue φ c b):=by
 intro σ H F θ s Q bs p
 refine⟨λm Y H'=>∃F' θ' s',BS C.K C.ca Y H' F' θ' s'/\PoS C H' F' θ' (j4 c b m s') Q,⟨φ s,F,θ,s,bs,p⟩, ?_⟩
 rintro m Y H' ⟨F',θ',s',b',po⟩
 cases m with
 | zero=>exact R5 po
 | succ m=>
  rw[j4] at po
  refine hc Y H' F' θ' s' _ b' (PoS.out po ?_)
  rintro ⟨x,s1⟩ H1 F1 θ1 _ a2 p1 b1
  cases x with
  | false=>exact tK (p1 Y H1 F1 θ1 .refl b1)
  | true=>
   refine tR ⟨λσ2 H2=>∃F2 θ2 s2,BS C.K C.ca σ2 H2 F2 θ2 s2/\PoS C H2 F2 θ2 (j4 c b m s2) Q,λσ2 H2 n=>⟨m,Vk _,n⟩, ?_⟩
   refine hb Y H1 F1 θ1 s1 _ b1 ?_
   dsimp only[if_true] at p1
   cases e:b s1 with
   | next s5=>rw[e] at p1;exact λσ5 H5 F5 θ5 J b5=>⟨F5,θ5,s5,b5,PoS.after J p1⟩
   | cnt s5=>rw[e] at p1;exact λσ5 H5 F5 θ5 J b5=>⟨F5,θ5,s5,b5,PoS.after J p1⟩
   | brk s5=>rw[e] at p1;exact p1
   | ret d s5=>rw[e] at p1;exact p1
   | exc c a o=>rw[e] at p1;exact p1
   | bad=>rw[e] at p1;exact p1
def itemsOf(O:aC):D->Res (List D×Option Nat)
 | .lst ds=>.ok (ds,none)
 | .ptr k=>match O[k]? with
  | some (.lst ds)=>.ok (ds,some k)
  | _=>.bad
 | _=>.bad
def listI(m:EM):IM:=λs=>(m s).bind λx=>(itemsOf x.2.o x.1).bind λy=>.ok (y,x.2)
theorem Ni{a:Addr}{xs:List V}{ds:List D}{H F:Hp}{θ:List Addr}(hs:SqL C.K F a xs)(hr:aG C.K C.ca θ F ds xs)(inj:∀{σ H2 F2 θ2 s2},Stp H F θ H2 F2 θ2->BS C.K C.ca σ H2 F2 θ2 s2->SqL C.K H2 a xs):
 tJ C (Itl C.K a) ds (okC ds none) H F θ where
 go:=λi H2 F2 θ2 O2 hi st n _=>by
  obtain⟨x,hx⟩:∃x,xs[i]? =some x:=⟨xs[i]'(by rw[hr.length];exact hi),Sa _⟩
  exact⟨xs,x,n.fh.seq (st.ff.seq hs),hx⟩
 yl:=λi d σ H2 F2 θ2 s2 x H3 hd st b _ hy=>by
  obtain⟨rfl,hx⟩:=hy
  refine⟨F2,.refl,b, ?_⟩
  obtain⟨v,h1,h2⟩:=hr.get hd
  have:=hx xs (b.now.fh.seq (st.ff.seq hs))
  rw[h1] at this
  cases this
  exact h2.mono st.ff st.pre
 st:=λi H2 F2 θ2 O2 hi st n _=>⟨xs,n.fh.seq (st.ff.seq hs),by rw[hr.length];exact hi⟩
theorem cH{tl:TE}{m:EM}(h:RdE C tl m):RdI C (Kq C.K tl) (listI m):=by
 intro σ H F θ s R b p
 refine h σ H F θ s _ b (PoR.bind p ?_)
 rintro ⟨x,s1⟩ H1 F1 θ1 _ as p1 Y v r1
 dsimp only at p1 Y r1
 cases x <;> first | exact R5 p1 | skip
 ·rename_i ds _
  unfold Rep at r1
  obtain⟨a,xs,rfl,hs,hr⟩:=r1
  exact⟨a,rfl,⟨xs,Y.now.fh.seq hs⟩,p1 _ _ _ .refl Y _ (Ni hs hr λst b=>b.now.fh.seq (st.ff.seq hs))⟩
 ·rename_i k _
  unfold Rep at r1
  obtain⟨a,rfl,hk⟩:=r1
  unfold itemsOf at p1
  dsimp only at p1
  split at p1
  ·rename_i ds ek
   obtain⟨q1,xs,q2,q3⟩:kG C.K C.ca H1 F1 θ1 a (.lst ds):=Y.now.ce k a _ hk ek
   refine⟨a,rfl,⟨xs,SqL.of q2⟩,p1 _ _ _ .refl Y _ ?_⟩
   have cell:∀{H2 F2:Hp} {θ2:List Addr} {O2:aC},Stp H1 F1 θ1 H2 F2 θ2->Now C.K C.ca H2 F2 θ2 O2->O2[k]? =some (.lst ds)->∃ys,SqL C.K H2 a ys/\aG C.K C.ca θ2 F2 ds ys:=λ{H2 F2 θ2 O2} st n e=>by
    have ap:θ2[k]? =some a:=by
     obtain⟨r,rfl,_⟩:=st.th
     rw[Sw (Sx.mp hk).1]
     exact hk
    obtain⟨_,ys,J,w3⟩:kG C.K C.ca H2 F2 θ2 a (.lst ds):=n.ce k a _ ap e
    exact⟨ys,SqL.of J,w3⟩
   refine⟨λi H2 F2 θ2 O2 hi st n e=> ?_,λi d σ H2 F2 θ2 s2 x H3 hd st b e hy=> ?_,λi H2 F2 θ2 O2 hi st n e=> ?_⟩
   ·obtain⟨ys,w1,J⟩:=cell st n e
    exact⟨ys,ys[i]'(by rw[J.length];exact hi),w1,Sa _⟩
   ·obtain⟨rfl,hx⟩:=hy
    obtain⟨ys,w1,J⟩:=cell st b.now e
    obtain⟨v,h1,h2⟩:=J.get hd
    have:=hx ys w1
    rw[h1] at this
    cases this
    exact⟨F2,.refl,b,h2⟩
   ·obtain⟨ys,w1,J⟩:=cell st n e
    exact⟨ys,w1,by rw[J.length];exact hi⟩
  ·exact R5 p1
def MS:D->Res (List D)
 | .tup ds=>.ok ds
 | _=>.bad
def tupI(m:EM):IM:=λs=>(m s).bind λx=>(MS x.1).bind λy=>.ok ((y,none),x.2)
theorem LQ{tl:TE}{m:EM}(h:RdE C tl m):RdI C (Nh C.K tl) (tupI m):=by
 intro σ H F θ s R b p
 refine h σ H F θ s _ b (PoR.bind p ?_)
 rintro ⟨x,s1⟩ H1 F1 θ1 _ am p1 Y v r1
 dsimp only at p1 Y r1
 cases x <;> first | exact R5 p1 | skip
 rename_i ds _
 unfold Rep at r1
 obtain⟨a,xs,rfl,J,hr⟩:=r1
 refine⟨a,rfl,⟨xs,bN.seqT Y.now.fh J⟩,p1 _ _ _ .refl Y _ ⟨λi H2 F2 θ2 O2 hi st n _=> ?_,λi d σ H2 F2 θ2 s2 x H3 hd st b _ hy=> ?_,λi H2 F2 θ2 O2 hi st n _=> ?_⟩⟩
 ·exact⟨xs,xs[i]'(by rw[hr.length];exact hi),bN.seqT n.fh (bN.seqT st.ff J),Sa _⟩
 ·obtain⟨rfl,hx⟩:=hy
  obtain⟨v,h1,h2⟩:=hr.get hd
  have:=hx xs (bN.seqT b.now.fh (bN.seqT st.ff J))
  rw[h1] at this
  cases this
  exact⟨F2,.refl,b,h2.mono st.ff st.pre⟩
 ·exact⟨xs,bN.seqT n.fh (bN.seqT st.ff J),by rw[hr.length];exact hi⟩
def dw(lo hi:Int):List D:=(Sg (hi-lo).toNat).map λi=>.int (lo+(i:Nat))
theorem iA(lo hi:Int):(dw lo hi).length=(hi-lo).toNat:=by unfold dw;simp
theorem Ir{lo hi:Int}{H F:Hp}{θ:List Addr}:tJ C (Itr lo (hi-lo).toNat) (dw lo hi) (okC (dw lo hi) none) H F θ where
 go:=λi H2 F2 θ2 O2 h st n _=>by rw[iA] at h;exact h
 yl:=λi d σ H2 F2 θ2 s2 x H3 hd st b _ hy=>by
  obtain⟨rfl,rfl⟩:=hy
  refine⟨F2,.refl,b, ?_⟩
  unfold dw at hd
  rw[SF] at hd
  cases e:(Sg (hi-lo).toNat)[i]? with
  | none=>rw[e] at hd;cases hd
  | some j=>
   rw[e] at hd
   cases hd
   obtain⟨_,rfl⟩:∃h,j=i:=⟨trivial,by have:=(Sx.mp e).2;simpa using this.symm⟩
   exact bz.mpr rfl
 st:=λi H2 F2 θ2 O2 h st n _=>by rw[iA] at h;exact h
def du(ma:AM):IM:=λs=>(ma s).bind λx=>match x.1 with
 | [.int j]=>if -(2^62)<=j/\j<2^62 then .ok ((dw 0 j,none),x.2) else .bad
 | _=>.bad
theorem pN{K ca θ F i vs}(h:aG K ca θ F [.int i] vs):vs=[.int i]:=by
 unfold aG at h
 obtain⟨v,r,rfl,h1,h2⟩:=h
 unfold aG at h2
 rw[h2,bz.mp h1]
theorem E5{K ca θ F i j vs}(h:aG K ca θ F [.int i,.int j] vs):vs=[.int i,.int j]:=by
 unfold aG at h
 obtain⟨v,r,rfl,h1,h2⟩:=h
 rw[pN h2,bz.mp h1]
theorem eR{ta:TA}{m:AM}(h:RdA C ta m):RdI C (Ko ta) (du m):=by
 intro σ H F θ s R b p
 refine h σ H F θ s _ b (PoR.bind p ?_)
 rintro ⟨x,s1⟩ H1 F1 θ1 _ ac p1 J v Y
 dsimp only at p1 J Y
 split at p1
 ·rename_i j _
  split at p1
  ·rename_i hj
   refine⟨j,pN Y,hj.1,hj.2, ?_⟩
   have:=p1 _ _ _ .refl J _ (Ir (lo:=0) (hi:=j))
   rw[Int.sub_zero] at this
   exact this
  ·exact R5 p1
 ·exact R5 p1
abbrev FM:=List D->aC->Res (D×aC)
def spM(K:R4)(ca:Nat->Addr)(n:Nat)(f:FM):Sp:=λvs H Q E=>∃F θ ds O,Now K ca H F θ O/\aG K ca θ F ds vs/\ds.length=n/\match f ds O with
 | .ok (d,O1)=>∀v H1 F1 θ1,Stp H F θ H1 F1 θ1->Now K ca H1 F1 θ1 O1->Rep K ca θ1 F1 d v->Q v H1
 | .exc c _ s1=>∀H1 F1 θ1,Stp H F θ H1 F1 θ1->Now K ca H1 F1 θ1 s1.o->E (.ref (ca c)) none H1
 | .bad=>False
def runM(n:Nat)(m:SM):FM:=λds O=>match m ⟨ds.map some++Sb (n-ds.length) none,O⟩ with
 | .next s=>.ok (.non,s.o)
 | .ret d s=>.ok (d,s.o)
 | _=>.bad
theorem JJ{K:R4}{ca:Nat->Addr}{N:List Str}{H F:Hp}{θ:List Addr}{O:aC}{ds:List D}{vs:List V}(n:Now K ca H F θ O)(r:aG K ca θ F ds vs):
 BS K ca (L2.start N vs) H F θ ⟨ds.map some++Sb (N.length-ds.length) none,O⟩:=by
 refine⟨n,by unfold L2.start;simp[r.length],λi d e=> ?_⟩
 dsimp only at e
 have hi:i<ds.length:=by
  by_cases hi:i<ds.length
  ·exact hi
  ·rw[Sj (by simpa using hi),SV] at e
   split at e <;> cases e
 rw[Sw (by simpa using hi),SF] at e
 cases e1:ds[i]? with
 | none=>rw[e1] at e;cases e
 | some J=>
  rw[e1] at e
  cases e
  obtain⟨v,h1,h2⟩:=r.get e1
  refine⟨v, ?_,h2⟩
  unfold L2.start
  rw[Sw (by simpa[r.length] using hi),SF,h1]
  rfl
def W0:Wsh:=λ_ _ _ _ _ _=>False
theorem bJ {P:Program} {w:World} {K:R4} {mg:Str->Option Value} {base:Heap} {ca:Nat->Addr} {x qual:Str} {st:Stmt} {f:Addr} {fd:FuncData} {N ps:List Str} {k n:Nat} {m:SM}
 (F:Fun K x qual st f fd) (S:bq N ps (aF st)) (hn:N.length=n)
 (hm:∀(J:Value) (A:Around) (outer:List Env) (s:Shared) (H:Hp) (E:XK),fX k (A.deeper (envOfC qual (aF st) s.heap.objs.size f J))->
  ∃t,PSs (vS (CXE P w) P w K mg base N qual (aF st) f J A outer s H E).nox (bj st) t/\RdS ⟨K,ca,W0⟩ t m):
 lM P w K mg base (CXE P w) (k+1) f fd ps (spM K ca ps.length (runM n m)):=by
 refine F.okE S (λvs H Q E h=> ?_) (λJ A outer s H vs Q E hr h=> ?_)
 ·obtain⟨F,θ,ds,O,_,r,hl,_⟩:=h
  rw[r.length,hl]
 ·obtain⟨F,θ,ds,O,Y,r,hl,q⟩:=h
  obtain⟨t,ht,rd⟩:=hm J A outer s H E hr
  refine⟨t,ht.nox,rd _ H F θ _ _ (JJ Y r) ?_⟩
  subst hn
  unfold runM at q
  cases e:m ⟨ds.map some++Sb (N.length-ds.length) none,O⟩ with
  | next s1=>rw[e] at q;exact λσ1 H1 F1 θ1 st b=>q .non H1 F1 θ1 st b.now (iL.mpr rfl)
  | ret d s1=>rw[e] at q;exact λv σ1 H1 F1 θ1 st b rv=>q v H1 F1 θ1 st b.now rv
  | exc c a o=>rw[e] at q;exact R5 q
  | brk s1=>rw[e] at q;exact R5 q
  | cnt s1=>rw[e] at q;exact R5 q
  | bad=>rw[e] at q;exact R5 q
theorem BS.called{K:R4}{ca:Nat->Addr}{σ:L2.St}{H F H1 F1:Hp}{θ θ1:List Addr}{s:S}{O1:aC}(b:BS K ca σ H F θ s)(st:Stp H F [] H1 F1 θ1)(n:Now K ca H1 F1 θ1 O1):
 Stp H F θ H1 F1 θ/\BS K ca σ H1 F1 θ s:=by
 have kp:∀b o,H b=some o->H1 b=some o:=λb o h=>st.kp b o h (by simp)
 have Y:∀b o,F1 b=some o->F b=some o\/H b=none:=λb o h=>by
  rcases st.nf b o h with z | z | z
  ·exact .inl z
  ·exact .inr z
  ·simp at z
 refine⟨⟨st.ff,⟨[],by simp,by simp⟩,λb o h _=>kp b o h,st.al,λb o h=>(Y b o h).elim .inl λz=>.inr (.inl z)⟩,⟨⟨n.fh,b.now.nd,b.now.ln,λk a c e1 e2=> ?_⟩,b.len,λi d e=> ?_⟩⟩
 ·have q:=b.now.ce k a c e1 e2
  obtain⟨u,hu⟩:=q.there
  have fn:F a=none->F1 a=none:=λh=>by
   cases e:F1 a with
   | none=>rfl
   | some o=>
    rcases Y a o e with z | z
    ·rw[h] at z;cases z
    ·rw[hu] at z;cases z
  cases c with
  | dead=>exact⟨u,kp a u hu⟩
  | lst ds=>
   obtain⟨q1,xs,q2,J⟩:=q
   exact⟨fn q1,xs,kp _ _ q2,J.mono st.ff ⟨[],by simp⟩⟩
  | ins c ns ds=>
   obtain⟨q1,dx,xs,q2,J,q4⟩:=q
   exact⟨fn q1,dx,xs,kp _ _ q2,J,q4.mono st.ff ⟨[],by simp⟩⟩
 ·obtain⟨v,h1,h2⟩:=b.sl i d e
  exact⟨v,h1,h2.mono st.ff ⟨[],by simp⟩⟩
def aQ(n:Nat)(f:FM)(ma:AM):EM:=λs=>(ma s).bind λx=>if aP x.1=true/\x.1.length=n then (match f x.1 [] with
 | .ok (d,_)=>if df d=true then .ok (d,x.2) else .bad
 | _=>.bad) else .bad
theorem aX{n:Nat}{f:FM}{ta:TA}{ma:AM}{E:XK}(ha:RdA C ta ma):RdE C (uV (spM C.K C.ca n f) [] E ta) (aQ n f ma):=by
 intro σ H F θ s Q b p
 refine ha σ H F θ s _ b (PoR.bind p ?_)
 rintro ⟨x,s1⟩ H1 F1 θ1 _ am p1 J v r1
 dsimp only at p1 J r1 ⊢
 split at p1
 ·rename_i hp
  rw[Tu]
  refine⟨F1,[],x,[],Now.nil J.now.fh,r1.pure hp.1,hp.2, ?_⟩
  split at p1
  ·rename_i d O1 e
   rw[e]
   intro v H2 F2 θ2 Y n2 rv
   split at p1
   ·rename_i pd
    obtain⟨ab,b3⟩:=J.called Y n2
    exact p1 H2 F2 θ1 ab b3 v (rv.pure pd)
   ·exact R5 p1
  ·exact R5 p1
 ·exact R5 p1
end
section
variable {C : Ct}
theorem dM{σ:L2.St}{H F:Hp}{θ:List Addr}{s:S}{d:D}{Q:VK}(p:PoE C σ H F θ ((Res.ok d).bind λd=>.ok (d,s)) Q)(b:BS C.K C.ca σ H F θ s){v:V}(r:Rep C.K C.ca θ F d v):Q v H:=p H F θ .refl b v r
theorem uk{σ:L2.St}{H F:Hp}{θ:List Addr}{s:S}{ds:List D}{Q:VK}(p:PoE C σ H F θ ((Res.ok (D.lst ds)).bind λd=>.ok (d,s)) Q)(b:BS C.K C.ca σ H F θ s){xs:List V}(r:aG C.K C.ca θ F ds xs):
 ∀q,H q=none->Q (.ref q) (upd H q (.lst xs)):=λq hq=>by
 obtain⟨st,J,Y,e⟩:=b.newF hq (.lst xs)
 refine p _ _ _ st J _ ?_
 unfold Rep
 exact⟨q,xs,rfl,SqL.of e,r.mono Y ⟨[],by simp⟩⟩
def lsD(O:aC):D->Option (List D)
 | .lst ds=>some ds
 | .ptr k=>match O[k]? with
  | some (.lst ds)=>some ds
  | _=>none
 | _=>none
@[simp] theorem lE {O:aC} {ds:List D}:lsD O (.lst ds)=some ds:=rfl
theorem fm{σ:L2.St}{H F:Hp}{θ:List Addr}{s:S}{d:D}{ds:List D}{v:V}(b:BS C.K C.ca σ H F θ s)(r:Rep C.K C.ca θ F d v)(e:lsD s.o d=some ds):∃a xs,v=.ref a/\SqL C.K H a xs/\aG C.K C.ca θ F ds xs:=by
 cases d <;> first | (simp[lsD] at e;done) | skip
 ·cases e
  unfold Rep at r
  obtain⟨a,xs,rfl,J,Y⟩:=r
  exact⟨a,xs,rfl,b.now.fh.seq J,Y⟩
 ·rename_i k
  unfold Rep at r
  obtain⟨a,rfl,hk⟩:=r
  unfold lsD at e
  dsimp only at e
  split at e
  ·rename_i ab ek
   cases e
   obtain⟨_,xs,h1,h2⟩:kG C.K C.ca H F θ a (.lst ds):=b.now.ce k a _ hk ek
   exact⟨a,xs,rfl,SqL.of h1,h2⟩
  ·cases e
theorem wU{σ:L2.St}{H F:Hp}{θ:List Addr}{s:S}{ds:List D}{v:V}(b:BS C.K C.ca σ H F θ s)(r:Rep C.K C.ca θ F (.tup ds) v):∃a xs,v=.ref a/\SqT C.K H a xs/\aG C.K C.ca θ F ds xs:=by
 unfold Rep at r
 obtain⟨a,xs,rfl,J,Y⟩:=r
 exact⟨a,xs,rfl,bN.seqT b.now.fh J,Y⟩
def intD(g:Int->Int->Res D):Op2:=λ_ x y=>match x,y with
 | .int i,.int j=>g i j
 | _,_=>.bad
theorem tW{g:Int->Int->V}{f:Int->Int->D}(h:∀K ca θ F i j,Rep K ca θ F (f i j) (g i j)):gQ C (rI0 g) (intD λi j=>.ok (f i j)):=by
 intro σ H F θ s x y v w Q b J Y p
 unfold intD at p
 split at p
 ·rename_i i j
  exact⟨i,j,bz.mp J,bz.mp Y,dM p b (h ..)⟩
 ·exact R5 p
open Classical in
noncomputable def wy (c:Int->Int->Prop)(f:Int->Int->D):Op2:=intD λi j=>if c i j then .ok (f i j) else .bad
theorem xo{c:Int->Int->Prop}{g:Int->Int->V}{f:Int->Int->D}(h:∀K ca θ F i j,Rep K ca θ F (f i j) (g i j)):gQ C (rI c g) (wy c f):=by
 intro σ H F θ s x y v w Q b J Y p
 unfold wy intD at p
 split at p
 ·rename_i i j
  dsimp only at p
  split at p
  ·rename_i hc
   exact⟨i,j,bz.mp J,bz.mp Y,hc,dM p b (h ..)⟩
  ·exact R5 p
 ·exact R5 p
def jA:Op2:=intD λi j=>.ok (.int (i-j))
noncomputable def cF:Op2:=wy IntMulOk λi j=>.int (i*j)
noncomputable def iy:Op2:=wy (λi j=>j≠0) λi j=>.int (i.fdiv j)
noncomputable def gM:Op2:=wy (λ_ j=>j≠0) λi j=>.int (i.fmod j)
noncomputable def sr:Op2:=wy ye λi j=>.int (i^j.toNat)
def ltD:Op2:=intD λi j=>.ok (.bl (decide (i<j)))
def leD:Op2:=intD λi j=>.ok (.bl (decide (i<=j)))
def gtD:Op2:=intD λi j=>.ok (.bl (decide (j<i)))
def geD:Op2:=intD λi j=>.ok (.bl (decide (j<=i)))
def mI:Op1:=λ_ x=>match x with
 | .int i=>.ok (.int (-i))
 | _=>.bad
section
variable {X : Cx}
theorem eI:OpR X (binaryOp .Mult) (rI IntMulOk λi j=>.int (i*j)):=opI λ_ _ _ _ _ _ _ hc q=>mul_int q hc
theorem nJ(hd:X.A.depth+100<recursionLimit)(J:X.prog.given.tree=none)(Y:∃env l,X.stack=env::l/\env.scope.isGenerator=false/\env.scope.isCoroutine=false/\env.builtins=builtinsNs/\env.globals=mainGlobals):
 OpR X (binaryOp .FloorDiv) (rI (λi j=>j≠0) λi j=>.int (i.fdiv j)):=by
 intro pins s σ H x y v u Q I rx ry h
 obtain⟨i,j,rfl,rfl,hc,q⟩:=h
 obtain⟨t,rfl⟩:=rx
 obtain⟨t',rfl⟩:=ry
 obtain⟨env,l,e,h1,h2,h3,h4⟩:=Y
 exact floordiv_int hc ⟨.int _,H,I.tok _,⟨_,rfl⟩,q⟩ (.inr (PylongRoom.of I.nolimit hd (SeerAt.of I.noseer J (I.ok.frames.trans (by rw[e])) h1 h2 h3 h4)))
def Am(K:R4):R2:=λx y H Q=>rI0 (λi j=>.int (i+j)) x y H Q\/(∃i j,x=.str i/\y=.str j/\i.length+j.length<=sizeLine/\Q (.str (i++j)) H)\/J9 K x y H Q
theorem cM:OpR X (binaryOp .Add) (Am X.K):=Nd.or (Fh.or KA)
end
def PF:Op2:=intD λi j=>.ok (.int (i+j))
def bt:Op2:=λO x y=>match x,y with
 | .int i,.int j=>.ok (.int (i+j))
 | .str a,.str b=>if a.length+b.length<=16777216 then .ok (.str (a++b)) else .bad
 | x,y=>match lsD O x,lsD O y with
  | some a,some b=>if a.length+b.length<=16777216 then .ok (.lst (a++b)) else .bad
  | _,_=>.bad
theorem bX:gQ C (Am C.K) bt:=by
 intro σ H F θ s x y v w Q b Y ry p
 have J:∀{a c:List D},lsD s.o x=some a->lsD s.o y=some c->PoE C σ H F θ ((if a.length+c.length<=16777216 then Res.ok (D.lst (a++c)) else .bad).bind λd=>.ok (d,s)) Q->Am C.K v w H Q:=λ{a c} e1 e2 p=>by
  split at p
  ·rename_i hl
   obtain⟨l1,xs,rfl,s1,r1⟩:=fm b Y e1
   obtain⟨l2,ys,rfl,s2,r2⟩:=fm b ry e2
   exact .inr (.inr ⟨l1,l2,xs,ys,rfl,rfl,s1,s2,by rw[r1.length,r2.length];exact hl,uk p b (r1.append r2)⟩)
  ·exact R5 p
 unfold bt at p
 split at p
 ·rename_i i j
  exact .inl ⟨i,j,bz.mp Y,bz.mp ry,dM p b (bz.mpr rfl)⟩
 ·rename_i i j
  split at p
  ·rename_i hl
   exact .inr (.inl ⟨i,j,dP.mp Y,dP.mp ry,hl,dM p b (dP.mpr rfl)⟩)
  ·exact R5 p
 ·split at p
  ·rename_i a c e1 e2
   exact J e1 e2 p
  ·exact R5 p
theorem oV:gQ C (rI0 λi j=>.int (i-j)) jA:=tW λ_ _ _ _ _ _=>bz.mpr rfl
theorem dG:gQ C (rI IntMulOk λi j=>.int (i*j)) cF:=xo λ_ _ _ _ _ _=>bz.mpr rfl
theorem kY:gQ C (rI (λi j=>j≠0) λi j=>.int (i.fdiv j)) iy:=xo λ_ _ _ _ _ _=>bz.mpr rfl
theorem i8:gQ C (rI (λ_ j=>j≠0) λi j=>.int (i.fmod j)) gM:=xo λ_ _ _ _ _ _=>bz.mpr rfl
theorem Bf:gQ C (rI ye λi j=>.int (i^j.toNat)) sr:=xo λ_ _ _ _ _ _=>bz.mpr rfl
theorem kP:gQ C (rI0 λi j=>.bl (decide (i<j))) ltD:=tW λ_ _ _ _ _ _=>dt.mpr rfl
theorem lH:gQ C (rI0 λi j=>.bl (decide (j<i))) gtD:=tW λ_ _ _ _ _ _=>dt.mpr rfl
theorem rB:Nv C (rU λi=>.int (-i)) mI:=by
 intro σ H F θ s x v Q b J p
 unfold mI at p
 split at p
 ·rename_i i
  exact⟨i,bz.mp J,dM p b (bz.mpr rfl)⟩
 ·exact R5 p
mutual
def toPy:D->Option PyData
 | .non=>some .none
 | .bl b=>some (.bool b)
 | .int i=>some (.int i)
 | .str x=>some (.str x)
 | .lst ds=>(jD ds).map .list
 | .tup ds=>(jD ds).map .tuple
 | .ptr _=>none
 | .obj _ _ _=>none
 | .exn _=>none
def jD:List D->Option (List PyData)
 | []=>some []
 | d::ds=>match toPy d,jD ds with
  | some a,some b=>some (a::b)
  | _,_=>none
end
mutual
def res(O:aC):D->D
 | .lst ds=>.lst (bP O ds)
 | .tup ds=>.tup (bP O ds)
 | .ptr k=>match O[k]? with
  | some (.lst ds)=>.lst ds
  | _=>.ptr k
 | .non=>.non
 | .bl b=>.bl b
 | .int i=>.int i
 | .str x=>.str x
 | .obj c ns ds=>.obj c ns ds
 | .exn c=>.exn c
def bP(O:aC):List D->List D
 | []=>[]
 | d::ds=>res O d::bP O ds
end
section
variable {K : R4} {ca : Nat → Addr} {H F G : Hp} {θ : List Addr} {O : aC}
mutual
theorem yr(n:Now K ca H F θ O)(hF:bN F G)(J:bN G H):∀{d:D} {v:V},Rep K ca θ G d v->Rep K ca θ H (res O d) v
 | .non,_,h=>by unfold res;exact h
 | .bl _,_,h=>by unfold res;exact h
 | .int _,_,h=>by unfold res;exact h
 | .str _,_,h=>by unfold res;exact h
 | .lst ds,_,h=>by
  unfold res
  unfold Rep at h ⊢
  obtain⟨a,xs,e,Y,hr⟩:=h
  exact⟨a,xs,e,J.seq Y,mH n hF J hr⟩
 | .tup ds,_,h=>by
  unfold res
  unfold Rep at h ⊢
  obtain⟨a,xs,e,Y,hr⟩:=h
  exact⟨a,xs,e,bN.seqT J Y,mH n hF J hr⟩
 | .ptr k,v,h=>by
  unfold res
  split
  ·rename_i ds e
   unfold Rep at h ⊢
   obtain⟨a,ev,hk⟩:=h
   obtain⟨_,xs,h1,h2⟩:kG K ca H F θ a (.lst ds):=n.ce k a _ hk e
   exact⟨a,xs,ev,SqL.of h1,h2.mono n.fh ⟨[],by simp⟩⟩
  ·exact h.mono J ⟨[],by simp⟩
 | .obj c ns ds,_,h=>by unfold res;exact h.mono J ⟨[],by simp⟩
 | .exn c,_,h=>by unfold res;exact h.mono J ⟨[],by simp⟩
theorem mH(n:Now K ca H F θ O)(J:bN F G)(Y:bN G H):∀{ds:List D} {xs:List V},aG K ca θ G ds xs->aG K ca θ H (bP O ds) xs
 | [],_,h=>by unfold bP;exact h
 | d::ds,_,h=>by
  unfold bP
  unfold aG at h ⊢
  obtain⟨v,r,e,h1,h2⟩:=h
  exact⟨v,r,e,yr n J Y h1,mH n J Y h2⟩
end
mutual
theorem yJ:∀{d:D} {v:V} {p:PyData},Rep K ca θ H d v->toPy d=some p->RdV K H p v
 | .non,_,_,h,e=>by unfold toPy at e;cases e;unfold RdV;exact iL.mp h
 | .bl b,_,_,h,e=>by unfold toPy at e;cases e;unfold RdV;exact dt.mp h
 | .int b,_,_,h,e=>by unfold toPy at e;cases e;unfold RdV;exact bz.mp h
 | .str b,_,_,h,e=>by unfold toPy at e;cases e;unfold RdV;exact dP.mp h
 | .lst ds,_,_,h,e=>by
  unfold toPy at e
  cases e1:jD ds with
  | none=>rw[e1] at e;cases e
  | some ps=>
   rw[e1] at e
   cases e
   unfold Rep at h
   obtain⟨a,xs,J,Y,hr⟩:=h
   unfold RdV
   exact⟨a,xs,J,Y,v7 hr e1⟩
 | .tup ds,_,_,h,e=>by
  unfold toPy at e
  cases e1:jD ds with
  | none=>rw[e1] at e;cases e
  | some ps=>
   rw[e1] at e
   cases e
   unfold Rep at h
   obtain⟨a,xs,J,Y,hr⟩:=h
   unfold RdV
   exact⟨a,xs,J,Y,v7 hr e1⟩
 | .ptr _,_,_,_,e=>by unfold toPy at e;cases e
 | .obj _ _ _,_,_,_,e=>by unfold toPy at e;cases e
 | .exn _,_,_,_,e=>by unfold toPy at e;cases e
theorem v7:∀{ds:List D} {xs:List V} {ps:List PyData},aG K ca θ H ds xs->jD ds=some ps->o4 K H ps xs
 | [],_,_,h,e=>by unfold jD at e;cases e;unfold o4;unfold aG at h;exact h
 | d::ds,_,_,h,e=>by
  unfold jD at e
  cases e1:toPy d with
  | none=>rw[e1] at e;cases e
  | some p=>
   cases e2:jD ds with
   | none=>rw[e1,e2] at e;cases e
   | some ps=>
    rw[e1,e2] at e
    cases e
    unfold aG at h
    obtain⟨v,r,J,h1,h2⟩:=h
    unfold o4
    exact⟨v,r,J,yJ h1 e1,v7 h2 e2⟩
end
end
def iu(O:aC)(x y:D):Option Bool:=match toPy (res O (res O x)),toPy (res O (res O y)) with
 | some a,some b=>if SeqAt.shaped a=true/\SeqAt.shaped b=true then some (PyData.eqv a b) else none
 | _,_=>none
def eqB(O:aC)(x y:D):Option Bool:=match x,y with
 | .int i,.int j=>some (decide (i=j))
 | .str i,.str j=>some (decide (i=j))
 | .bl i,.bl j=>some (decide (i=j))
 | .non,.non=>some true
 | x,y=>iu O x y
def eqD:Op2:=λO x y=>match eqB O x y with
 | some b=>.ok (.bl b)
 | none=>.bad
def neD:Op2:=λO x y=>match eqB O x y with
 | some b=>.ok (.bl (!b))
 | none=>.bad
section
variable {X : Cx}
def Na(K:R4):R2:=λx y H Q=>rEq x y H Q\/Oq K x y H Q
def Nq(K:R4):R2:=λx y H Q=>rNe x y H Q\/Oi K x y H Q
theorem nv(hu:X.A.units+64<cLine):OpR X (compareOp .Eq) (Na X.K):=OV.or (NV hu)
theorem oj(hu:X.A.units+64<cLine):OpR X (compareOp .NotEq) (Nq X.K):=OL.or (N0 hu)
end
theorem zi{σ:L2.St}{H F:Hp}{θ:List Addr}{s:S}{x y:D}{v w:V}{k:Bool}(b:BS C.K C.ca σ H F θ s)(rx:Rep C.K C.ca θ F x v)(ry:Rep C.K C.ca θ F y w)(e:iu s.o x y=some k):
 ∃d e,RdV C.K H d v/\RdV C.K H e w/\SeqAt.shaped d=true/\SeqAt.shaped e=true/\PyData.eqv d e=k:=by
 unfold iu at e
 split at e
 ·rename_i a c e1 e2
  split at e
  ·rename_i J
   cases e
   have Y:∀{d:D} {u:V},Rep C.K C.ca θ F d u->Rep C.K C.ca θ H (res s.o (res s.o d)) u:=λh=>yr b.now b.now.fh (bN.refl _) (yr b.now (bN.refl _) b.now.fh h)
   exact⟨a,c,yJ (Y rx) e1,yJ (Y ry) e2,J.1,J.2,rfl⟩
  ·cases e
 ·cases e
theorem kr:gQ C (Na C.K) eqD:=by
 intro σ H F θ s x y v w Q b J Y p
 unfold eqD at p
 split at p
 ·rename_i k e
  have q:=λH' (h:H'=H)=>h▸dM p b (v:=.bl k) (dt.mpr rfl)
  have q:=q H rfl
  unfold eqB at e
  split at e
  ·rename_i i j
   cases e
   cases bz.mp J;cases bz.mp Y
   exact .inl ⟨rfl,by rw[ve,TC];exact q⟩
  ·cases e
   cases dP.mp J;cases dP.mp Y
   exact .inl ⟨rfl,by rw[u3,TC];exact q⟩
  ·cases e
   cases dt.mp J;cases dt.mp Y
   exact .inl ⟨rfl,by rw[xK,TC];exact q⟩
  ·cases e
   cases iL.mp J;cases iL.mp Y
   exact .inl ⟨rfl,by simpa using q⟩
  ·obtain⟨d,e',h1,h2,h3,h4,h5⟩:=zi b J Y e
   exact .inr ⟨d,e',h1,h2,h3,h4,by rw[h5];exact q⟩
 ·exact R5 p
theorem kZ:gQ C (Nq C.K) neD:=by
 intro σ H F θ s x y v w Q b J Y p
 unfold neD at p
 split at p
 ·rename_i k e
  have q:=dM p b (v:=.bl (!k)) (dt.mpr rfl)
  unfold eqB at e
  split at e
  ·rename_i i j
   cases e
   cases bz.mp J;cases bz.mp Y
   exact .inl ⟨rfl,by rw[ve,TC];exact q⟩
  ·cases e
   cases dP.mp J;cases dP.mp Y
   exact .inl ⟨rfl,by rw[u3,TC];exact q⟩
  ·cases e
   cases dt.mp J;cases dt.mp Y
   exact .inl ⟨rfl,by rw[xK,TC];exact q⟩
  ·cases e
   cases iL.mp J;cases iL.mp Y
   exact .inl ⟨rfl,by simpa using q⟩
  ·obtain⟨d,e',h1,h2,h3,h4,h5⟩:=zi b J Y e
   exact .inr ⟨d,e',h1,h2,h3,h4,by rw[h5];exact q⟩
 ·exact R5 p
def ixD:Op2:=λO x y=>match y with
 | .int i=>match x with
  | .tup ds=>match atI ds i with
   | some d=>.ok d
   | none=>.bad
  | .str z=>if z.length<=16777216 then (match atI z.cps.toList i with
   | some c=>.ok (.str ⟨#[c]⟩)
   | none=>.bad) else .bad
  | x=>match lsD O x with
   | some ds=>match atI ds i with
    | some d=>.ok d
    | none=>.bad
   | none=>.bad
 | _=>.bad
theorem Ew{K ca θ F}{ds:List D}{xs:List V}{i:Int}{d:D}(r:aG K ca θ F ds xs)(e:atI ds i=some d):∃v,atI xs i=some v/\Rep K ca θ F d v:=by
 unfold atI at e ⊢
 rw[r.length]
 cases q:ixN ds.length i with
 | none=>rw[q] at e;cases e
 | some j=>
  rw[q] at e
  exact r.get e
theorem bC:gQ C (rIx C.K) ixD:=by
 intro σ H F θ s x y v w Q b J Y p
 unfold ixD at p
 split at p
 ·rename_i i
  split at p
  ·rename_i ds
   obtain⟨a,xs,rfl,hs,hr⟩:=wU b J
   split at p
   ·rename_i d e
    obtain⟨u,e1,r1⟩:=Ew hr e
    exact .inr (.inl ⟨a,xs,i,u,rfl,bz.mp Y,hs,e1,dM p b r1⟩)
   ·exact R5 p
  ·rename_i z
   split at p
   ·rename_i hz
    split at p
    ·rename_i c e
     exact .inr (.inr ⟨z,i,c,dP.mp J,bz.mp Y,hz,e,dM p b (dP.mpr rfl)⟩)
    ·exact R5 p
   ·exact R5 p
  ·split at p
   ·rename_i ds e0
    obtain⟨a,xs,rfl,hs,hr⟩:=fm b J e0
    split at p
    ·rename_i d e
     obtain⟨u,e1,r1⟩:=Ew hr e
     exact .inl ⟨a,xs,i,u,rfl,bz.mp Y,hs,e1,dM p b r1⟩
    ·exact R5 p
   ·exact R5 p
 ·exact R5 p
abbrev OM:=S->Res (Option Int×S)
def RdO(C:Ct)(t:TO)(m:OM):Prop:=∀σ H F θ s Q,BS C.K C.ca σ H F θ s->PoR C H F θ (m s) (λy H1 F1 θ1=>BS C.K C.ca σ H1 F1 θ1 y.2->Q y.1 H1)->t σ H Q
def iO:OM:=λs=>.ok (none,s)
def part(m:EM):OM:=λs=>(m s).bind λx=>match x.1 with
 | .int i=>.ok (some i,x.2)
 | _=>.bad
theorem m5:RdO C Ec iO:=λσ H F θ s Q b p=>p H F θ .refl b
theorem qU{t:TE}{m:EM}(h:RdE C t m):RdO C (Kv t) (part m):=by
 intro σ H F θ s Q b p
 refine h σ H F θ s _ b (PoR.bind p ?_)
 rintro ⟨x,s1⟩ H1 F1 θ1 _ J p1 Y v r1
 cases x <;> first | exact R5 p1 | skip
 rename_i i _
 exact⟨i,bz.mp r1,p1 _ _ _ .refl Y⟩
def cutD(ds:List D)(lo hi:Option Int):List D:=(ds.drop (HT.sIx ds.length 0 lo)).take (HT.sIx ds.length ds.length hi-HT.sIx ds.length 0 lo)
theorem Ly{K ca θ F}{ds:List D}{xs:List V}{lo hi:Option Int}(r:aG K ca θ F ds xs):aG K ca θ F (cutD ds lo hi) (yf xs lo hi):=by
 unfold cutD yf
 rw[r.length]
 exact(r.drop _).take _
def slM(me:EM)(J Y:OM):EM:=λs=>(me s).bind λx=>(J x.2).bind λl=>(Y l.2).bind λh=>match lsD h.2.o x.1 with
 | some ds=>.ok (.lst (cutD ds l.1 h.1),h.2)
 | none=>.bad
theorem Kt{te:TE}{tl th:TO}{me:EM}{ml mh:OM}(he:RdE C te me)(hl:RdO C tl ml)(hh:RdO C th mh):RdE C (tSl (NX C.K) te tl th) (slM me ml mh):=by
 intro σ H F θ s Q b p
 refine he σ H F θ s _ b (PoR.bind p ?_)
 rintro ⟨x,s1⟩ H1 F1 θ1 _ a0 p1 b1 v r1
 refine hl σ H1 F1 θ1 s1 _ b1 (PoR.bind p1 ?_)
 rintro ⟨l,s2⟩ H2 F2 θ2 _ J p2 b2
 refine hh σ H2 F2 θ2 s2 _ b2 (PoR.bind p2 ?_)
 rintro ⟨h,s3⟩ H3 F3 θ3 _ Y p3 b3
 dsimp only at p3 ⊢
 split at p3
 ·rename_i ds e
  obtain⟨a,xs,rfl,hs,hr⟩:=fm b3 ((r1.mono J.ff J.pre).mono Y.ff Y.pre) e
  exact⟨a,xs,rfl,hs,uk (ds:=cutD ds l h) p3 b3 (Ly hr)⟩
 ·exact R5 p3
def bO:OpN:=λO xs=>match xs with
 | [.str z]=>if z.length<=16777216 then .ok (.int z.length) else .bad
 | [.tup ds]=>.ok (.int ds.length)
 | [x]=>match lsD O x with
  | some ds=>.ok (.int ds.length)
  | none=>.bad
 | _=>.bad
theorem oE{K ca θ F}{x:D}{vs:List V}(h:aG K ca θ F [x] vs):∃v,vs=[v]/\Rep K ca θ F x v:=by
 unfold aG at h
 obtain⟨v,r,rfl,h1,h2⟩:=h
 unfold aG at h2
 rw[h2]
 exact⟨v,rfl,h1⟩
theorem Kw{K ca θ F}{x y:D}{vs:List V}(h:aG K ca θ F [x,y] vs):∃v w,vs=[v,w]/\Rep K ca θ F x v/\Rep K ca θ F y w:=by
 unfold aG at h
 obtain⟨v,r,rfl,h1,h2⟩:=h
 obtain⟨w,rfl,J⟩:=oE h2
 exact⟨v,w,rfl,h1,J⟩
theorem dk:kK C (λxs H Q=>∃x n,xs=[x]/\NR C.K x H n/\Q (.int n) H) bO:=by
 intro σ H F θ s xs vs Q b r p
 unfold bO at p
 split at p
 ·rename_i z
  obtain⟨v,rfl,J⟩:=oE r
  cases dP.mp J
  split at p
  ·rename_i hz
   exact⟨.str z,z.length,rfl,⟨hz,rfl⟩,dM p b (bz.mpr rfl)⟩
  ·exact R5 p
 ·rename_i ds
  obtain⟨v,rfl,J⟩:=oE r
  obtain⟨a,xs,rfl,Y,hr⟩:=wU b J
  exact⟨.ref a,ds.length,rfl,.inr ⟨xs,Y,by rw[hr.length]⟩,dM p b (bz.mpr rfl)⟩
 ·rename_i x _ _
  obtain⟨v,rfl,J⟩:=oE r
  split at p
  ·rename_i ds e
   obtain⟨a,xs,rfl,Y,hr⟩:=fm b J e
   exact⟨.ref a,ds.length,rfl,.inl ⟨xs,Y,by rw[hr.length]⟩,dM p b (bz.mpr rfl)⟩
  ·exact R5 p
 ·exact R5 p
def ju:OpN:=λO xs=>match xs with
 | [.tup ds]=>.ok (.lst ds)
 | [x]=>match lsD O x with
  | some ds=>.ok (.lst ds)
  | none=>.bad
 | _=>.bad
theorem mN:kK C (λxs H Q=>∃p ys,xs=[.ref p]/\(SqL C.K H p ys\/SqT C.K H p ys)/\∀l,H l=none->Q (.ref l) (upd H l (.lst ys))) ju:=by
 intro σ H F θ s xs vs Q b r p
 unfold ju at p
 split at p
 ·rename_i ds
  obtain⟨v,rfl,J⟩:=oE r
  obtain⟨a,xs,rfl,Y,hr⟩:=wU b J
  exact⟨a,xs,rfl,.inr Y,uk p b hr⟩
 ·obtain⟨v,rfl,J⟩:=oE r
  split at p
  ·rename_i ds e
   obtain⟨a,xs,rfl,Y,hr⟩:=fm b J e
   exact⟨a,xs,rfl,.inl Y,uk p b hr⟩
  ·exact R5 p
 ·exact R5 p
def tT:OpN:=λ_ xs=>match xs with
 | [.int i]=>.ok (.int (if i<0 then -i else i))
 | _=>.bad
theorem AX:kK C (λxs H Q=>∃i,xs=[.int i]/\Q (.int (if i<0 then -i else i)) H) tT:=by
 intro σ H F θ s xs vs Q b r p
 unfold tT at p
 split at p
 ·rename_i i
  exact⟨i,pN r,dM p b (bz.mpr rfl)⟩
 ·exact R5 p
def intOf:OpN:=λ_ xs=>match xs with
 | [.int i]=>.ok (.int i)
 | [.bl k]=>.ok (.int (if k then 1 else 0))
 | _=>.bad
theorem wC:kK C (λxs H Q=>(∃i,xs=[.int i]/\Q (.int i) H)\/∃k,xs=[.bl k]/\Q (.int (if k then 1 else 0)) H) intOf:=by
 intro σ H F θ s xs vs Q b r p
 unfold intOf at p
 split at p
 ·rename_i i
  exact .inl ⟨i,pN r,dM p b (bz.mpr rfl)⟩
 ·rename_i k
  obtain⟨v,rfl,J⟩:=oE r
  cases dt.mp J
  exact .inr ⟨k,rfl,dM p b (bz.mpr rfl)⟩
 ·exact R5 p
def tyD(O:aC):D->Option String
 | .non=>some "NoneType"
 | .bl _=>some "bool"
 | .int _=>some "int"
 | .str _=>some "str"
 | .lst _=>some "list"
 | .tup _=>some "tuple"
 | .ptr k=>match O[k]? with
  | some (.lst _)=>some "list"
  | _=>none
 | .obj _ _ _=>none
 | .exn _=>none
def gh(t c:String):Bool:=t == c||(t == "bool" &&c == "int")
def iX(c:String):Op1:=λO x=>match tyD O x with
 | some t=>.ok (.bl (gh t c))
 | none=>.bad
def rF(c:String):Prop:=∀K:R4,∀t∈["NoneType","bool","int","str","list","tuple"],Wq K (.type t) (.type c)=some (gh t c)
theorem ty_int:rF "int" :=by
 intro K t J
 simp only[SA,UM,or_false] at J
 rcases J with rfl | rfl | rfl | rfl | rfl | rfl <;> rfl
theorem ty_bool:rF "bool" :=by
 intro K t J
 simp only[SA,UM,or_false] at J
 rcases J with rfl | rfl | rfl | rfl | rfl | rfl <;> rfl
theorem ty_list:rF "list" :=by
 intro K t J
 simp only[SA,UM,or_false] at J
 rcases J with rfl | rfl | rfl | rfl | rfl | rfl <;> rfl
theorem ty_tuple:rF "tuple" :=by
 intro K t J
 simp only[SA,UM,or_false] at J
 rcases J with rfl | rfl | rfl | rfl | rfl | rfl <;> rfl
theorem oU{c:String}{te:TE}{m:EM}(hc:rF c)(h:RdE C te m):RdE C (tCB (JU C.K) (oH te (oH (tC (.ty c)) sf))) (unM (iX c) m):=by
 intro σ H F θ s Q b p
 refine h σ H F θ s _ b (PoR.bind p ?_)
 rintro ⟨x,s1⟩ H1 F1 θ1 _ am p1 Y v J
 dsimp only at p1 Y J
 show JU C.K [v,.ty c] H1 Q
 unfold iX at p1
 split at p1
 ·rename_i t e
  have q:=dM p1 Y (v:=.bl (gh t c)) (dt.mpr rfl)
  refine⟨v,c,t,gh t c,rfl, ?_, ?_,q⟩
  ·cases x <;> first | (unfold tyD at e;cases e;done) | skip
   ·unfold tyD at e;cases e;rw[iL.mp J];rfl
   ·unfold tyD at e;cases e;rw[dt.mp J];rfl
   ·unfold tyD at e;cases e;rw[bz.mp J];rfl
   ·unfold tyD at e;cases e;rw[dP.mp J];rfl
   ·unfold tyD at e;cases e
    unfold Rep at J
    obtain⟨a,xs,rfl,hs,hr⟩:=J
    exact .inl ⟨rfl,xs,Y.now.fh.seq hs⟩
   ·unfold tyD at e;cases e
    unfold Rep at J
    obtain⟨a,xs,rfl,hs,hr⟩:=J
    exact .inr ⟨rfl,xs,bN.seqT Y.now.fh hs⟩
   ·rename_i k _
    unfold tyD at e
    dsimp only at e
    split at e
    ·rename_i ds ek
     cases e
     obtain⟨a,xs,rfl,hs,hr⟩:=fm Y J (ds:=ds) (by unfold lsD;simp only[ek])
     exact .inl ⟨rfl,xs,hs⟩
    ·cases e
  ·refine hc C.K t ?_
   cases x <;> unfold tyD at e <;> dsimp only at e <;> first | (cases e;simp;done) | (cases e;done) | skip
   split at e
   ·cases e;simp
   ·cases e
 ·exact R5 p1
theorem sx{α:Type}{l:List α}(h:l.Nodup){i j:Nat}{x:α}(a:l[i]? =some x)(b:l[j]? =some x):i=j:=by
 obtain⟨h1,e1⟩:=Sx.mp a
 obtain⟨h2,e2⟩:=Sx.mp b
 exact(V5 h).mp (e1.trans e2.symm)
theorem BS.setC{K:R4}{ca:Nat->Addr}{σ:L2.St}{H F:Hp}{θ:List Addr}{s:S}(b:BS K ca σ H F θ s){k:Nat}{a:Addr}{c:Cell}(hk:θ[k]? =some a)(hc:s.o[k]? =some c)(hF:F a=none){ds:List D}{xs:List V}(hr:aG K ca θ F ds xs):
 Stp H F θ (upd H a (.lst xs)) F θ/\BS K ca σ (upd H a (.lst xs)) F θ ⟨s.r,s.o.set k (.lst ds)⟩:=by
 have hm:a∈θ:=SY hk
 refine⟨⟨bN.refl _,⟨[],by simp,by simp⟩,λe o J hb=> ?_,λe o J=> ?_,λe o J=>.inl J⟩,⟨⟨λe o J=> ?_,b.now.nd,by simpa using b.now.ln,λj a' c' e1 e2=> ?_⟩,b.len,b.sl⟩⟩
 ·have ne:e≠a:=λz=>hb (by rw[z];exact hm)
  rw[aV ne];exact J
 ·by_cases z:e=a
  ·subst z;exact⟨_,cU⟩
  ·exact⟨o,by rw[aV z];exact J⟩
 ·have ne:e≠a:=λz=>by rw[z,hF] at J;cases J
  rw[aV ne]
  exact b.now.fh _ _ J
 ·by_cases Y:k=j
  ·subst Y
   rw[hk] at e1;cases e1
   have:k<s.o.length:=(Sx.mp hc).1
   rw[Tb this] at e2
   cases e2
   exact⟨hF,xs,cU,hr⟩
  ·rw[Tg Y] at e2
   have q:=b.now.ce j a' c' e1 e2
   have ne:a'≠a:=λz=>by
    subst z
    exact Y (sx b.now.nd hk e1)
   cases c' with
   | dead=>obtain⟨o,ho⟩:=q;exact⟨o,by rw[aV ne];exact ho⟩
   | lst ds=>obtain⟨q1,ys,q2,q3⟩:=q;exact⟨q1,ys,by rw[aV ne];exact q2,q3⟩
   | ins c ns ds=>obtain⟨q1,dx,ys,q2,q3⟩:=q;exact⟨q1,dx,ys,by rw[aV ne];exact q2,q3⟩
theorem lL{σ:L2.St}{H F:Hp}{θ:List Addr}{s:S}{k:Nat}{ds:List D}{v:V}(b:BS C.K C.ca σ H F θ s)(r:Rep C.K C.ca θ F (.ptr k) v)(e:s.o[k]? =some (.lst ds)):
 ∃a xs,v=.ref a/\θ[k]? =some a/\F a=none/\H a=some (.lst xs)/\aG C.K C.ca θ F ds xs:=by
 unfold Rep at r
 obtain⟨a,rfl,hk⟩:=r
 obtain⟨h0,xs,h1,h2⟩:kG C.K C.ca H F θ a (.lst ds):=b.now.ce k a _ hk e
 exact⟨a,xs,rfl,hk,h0,h1,h2⟩
def hZ(O:aC):D->Option (Nat×List D)
 | .ptr k=>match O[k]? with
  | some (.lst ds)=>some (k,ds)
  | _=>none
 | _=>none
theorem oJ{O:aC}{d:D}{k:Nat}{ds:List D}(h:hZ O d=some (k,ds)):d=.ptr k/\O[k]? =some (.lst ds):=by
 cases d <;> first | (simp[hZ] at h;done) | skip
 rename_i j
 unfold hZ at h
 dsimp only at h
 split at h
 ·rename_i es e
  cases h
  exact⟨rfl,e⟩
 ·cases h
def ip(mo me:EM):EM:=λs=>(mo s).bind λx=>match hZ x.2.o x.1 with
 | some _=>(me x.2).bind λy=>match hZ y.2.o x.1 with
  | some (k,ds)=>if ds.length<16777216 then .ok (.non,⟨y.2.r,y.2.o.set k (.lst (ds++[y.1]))⟩) else .bad
  | none=>.bad
 | none=>.bad
theorem iU{to te:TE}{mo me:EM}(ho:RdE C to mo)(he:RdE C te me):RdE C (tBM C.K "list" D1 to (oH te sf)) (ip mo me):=by
 intro σ H F θ s Q b p
 refine ho σ H F θ s _ b (PoR.bind p ?_)
 rintro ⟨x,s1⟩ H1 F1 θ1 _ a2 p1 Y v r1
 dsimp only at p1 Y r1
 split at p1
 ·rename_i kd e
  obtain⟨rfl,e'⟩:=oJ (k:=kd.1) (ds:=kd.2) e
  obtain⟨a,xs,rfl,hk,_,h1,_⟩:=lL Y r1 e'
  refine⟨.inl ⟨rfl,xs,SqL.of h1⟩,he σ H1 F1 θ1 s1 _ Y (PoR.bind p1 ?_)⟩
  rintro ⟨y,s2⟩ H2 F2 θ2 _ J p2 b2 w r2
  dsimp only at p2 b2 r2
  split at p2
  ·rename_i k ds e2
   obtain⟨ek,e2⟩:=oJ e2
   cases ek
   obtain⟨a',ys,ea,am,hF,h2,hr⟩:=lL b2 (r1.mono J.ff J.pre) e2
   cases ea
   split at p2
   ·rename_i hl
    obtain⟨an,b3⟩:=b2.setC am e2 hF (hr.append (aG.one r2))
    exact⟨a,ys,w,rfl,rfl,h2,by rw[hr.length];exact hl,p2 _ _ _ an b3 _ (iL.mpr rfl)⟩
   ·exact R5 p2
  ·exact R5 p2
 ·exact R5 p1
def xt(f:List D->Option (List D×D))(mo:EM):EM:=λs=>(mo s).bind λx=>match hZ x.2.o x.1 with
 | some (k,ds)=>match f ds with
  | some (es,r)=>.ok (r,⟨x.2.r,x.2.o.set k (.lst es)⟩)
  | none=>.bad
 | none=>.bad
theorem Ln {f:List D->Option (List D×D)} {r:V->List V->Hp->VK->Prop} {to:TE} {mo:EM} (ho:RdE C to mo)
 (hr:∀K ca θ F ds xs es d,aG K ca θ F ds xs->f ds=some (es,d)->∃ys v,aG K ca θ F es ys/\Rep K ca θ F d v/\∀a (H:Hp) (Q:VK),H a=some (.lst xs)->Q v (upd H a (.lst ys))->r (.ref a) [] H Q):
 RdE C (IV C.K "list" r to) (xt f mo):=by
 intro σ H F θ s Q b p
 refine ho σ H F θ s _ b (PoR.bind p ?_)
 rintro ⟨x,s1⟩ H1 F1 θ1 _ ap p1 J v r1
 dsimp only at p1 J r1
 split at p1
 ·rename_i k ds e
  obtain⟨rfl,e'⟩:=oJ e
  obtain⟨a,xs,rfl,hk,hF,h1,h2⟩:=lL J r1 e'
  split at p1
  ·rename_i es d ef
   obtain⟨ys,u,q1,q2,q3⟩:=hr _ _ _ _ _ _ _ _ h2 ef
   obtain⟨Y,b3⟩:=J.setC hk e' hF q1
   exact⟨.inl ⟨rfl,xs,SqL.of h1⟩,q3 a H1 Q h1 (p1 _ _ _ Y b3 _ q2)⟩
  ·exact R5 p1
 ·exact R5 p1
def MA:List D->Option (List D×D):=λ_=>some ([],.non)
theorem JQ{to:TE}{mo:EM}(J:RdE C to mo):RdE C (IV C.K "list" GQ to) (xt MA mo):=Ln J λK ca θ F ds xs es d r e=>by
 cases e
 exact⟨[],.non,aG.nil,iL.mpr rfl,λa H Q h q=>⟨a,xs,rfl,rfl,h,q⟩⟩
def wN(mo J:EM):GM:=λd s=>(mo s).bind λx=>(J x.2).bind λy=>match y.1 with
 | .int i=>match hZ y.2.o x.1 with
  | some (k,ds)=>match ixN ds.length i with
   | some j=>.ok ⟨y.2.r,y.2.o.set k (.lst (ds.set j d))⟩
   | none=>.bad
  | none=>.bad
 | _=>.bad
theorem Ge{to ti:TE}{mo mi:EM}(ho:RdE C to mo)(hi:RdE C ti mi):RdG C (MT to ti Kx) (wN mo mi):=by
 intro σ H F θ s d v Q b rd p
 refine ho σ H F θ s _ b (PoR.bind p ?_)
 rintro ⟨x,s1⟩ H1 F1 θ1 _ Y p1 b1 ov r1
 refine hi σ H1 F1 θ1 s1 _ b1 (PoR.bind p1 ?_)
 rintro ⟨y,s2⟩ H2 F2 θ2 _ J p2 b2 iv r2
 dsimp only at p2 b2 r2
 split at p2
 ·rename_i i _
  split at p2
  ·rename_i k ds e
   obtain⟨ek,e'⟩:=oJ e
   subst ek
   obtain⟨a,xs,rfl,hk,hF,h1,h2⟩:=lL b2 (r1.mono J.ff J.pre) e'
   split at p2
   ·rename_i j ej
    obtain⟨ac,b3⟩:=b2.setC hk e' hF (aG.set ((rd.mono Y.ff Y.pre).mono J.ff J.pre) j h2)
    exact⟨a,xs,i,j,rfl,bz.mp r2,h1,by rw[h2.length];exact ej,p2 _ _ _ ac _ b3⟩
   ·exact R5 p2
  ·exact R5 p2
 ·exact R5 p2
theorem BS.frz{K:R4}{ca:Nat->Addr}{σ:L2.St}{H F:Hp}{θ:List Addr}{s:S}(b:BS K ca σ H F θ s){k:Nat}{a:Addr}{ds:List D}{xs:List V}(hk:θ[k]? =some a)(hc:s.o[k]? =some (.lst ds))(hF:F a=none)(hH:H a=some (.lst xs))(hr:aG K ca θ F ds xs):
 Stp H F θ H (upd F a (.lst xs)) θ/\BS K ca σ H (upd F a (.lst xs)) θ ⟨s.r,s.o.set k .dead⟩/\Rep K ca θ (upd F a (.lst xs)) (.lst ds) (.ref a):=by
 have hm:a∈θ:=SY hk
 have Y:bN F (upd F a (.lst xs)):=λe o J=>by
  rw[aV (λz=>by rw[z,hF] at J;cases J)];exact J
 refine⟨⟨Y,⟨[],by simp,by simp⟩,λe o J _=>J,λe o J=>⟨o,J⟩,λe o J=> ?_⟩,⟨⟨λe o J=> ?_,b.now.nd,by simpa using b.now.ln,λj a' c' e1 e2=> ?_⟩,b.len,λi d e=> ?_⟩, ?_⟩
 ·by_cases z:e=a
  ·exact .inr (.inr (by rw[z];exact hm))
  ·rw[aV z] at J;exact .inl J
 ·by_cases z:e=a
  ·subst z;rw[cU] at J;rw[hH];exact J
  ·rw[aV z] at J;exact b.now.fh _ _ J
 ·by_cases hj:k=j
  ·subst hj
   rw[hk] at e1;cases e1
   have:k<s.o.length:=(Sx.mp hc).1
   rw[Tb this] at e2
   cases e2
   exact⟨_,hH⟩
  ·rw[Tg hj] at e2
   have q:=b.now.ce j a' c' e1 e2
   have ne:a'≠a:=λz=>by
    subst z
    exact hj (sx b.now.nd hk e1)
   cases c' with
   | dead=>exact q
   | lst ds=>obtain⟨q1,ys,q2,q3⟩:=q;exact⟨by rw[aV ne];exact q1,ys,q2,q3.mono Y ⟨[],by simp⟩⟩
   | ins c ns ds=>obtain⟨q1,dx,ys,q2,q3,q4⟩:=q;exact⟨by rw[aV ne];exact q1,dx,ys,q2,q3,q4.mono Y ⟨[],by simp⟩⟩
 ·obtain⟨v,h1,h2⟩:=b.sl i d e
  exact⟨v,h1,h2.mono Y ⟨[],by simp⟩⟩
 ·unfold Rep
  exact⟨a,xs,rfl,SqL.of cU,hr.mono Y ⟨[],by simp⟩⟩
def jw(m:EM):EM:=λs=>(m s).bind λx=>match hZ x.2.o x.1 with
 | some (k,ds)=>.ok (.lst ds,⟨x.2.r,x.2.o.set k .dead⟩)
 | none=>.bad
theorem nD{t:TE}{m:EM}(h:RdE C t m):RdE C t (jw m):=by
 intro σ H F θ s Q b p
 refine h σ H F θ s _ b (PoR.bind p ?_)
 rintro ⟨x,s1⟩ H1 F1 θ1 _ am p1 J v r1
 dsimp only at p1 J r1
 split at p1
 ·rename_i k ds e
  obtain⟨rfl,e'⟩:=oJ e
  obtain⟨a,xs,rfl,hk,hF,h1,h2⟩:=lL J r1 e'
  obtain⟨Y,b2,r2⟩:=J.frz hk e' hF h1 h2
  exact p1 _ _ _ Y b2 _ r2
 ·exact R5 p1
def o3(m:Nat)(caps:List Nat)(r:List (Option D)):List (Option D):=Sb m none++caps.map λi=>(r[i]?).getD none
theorem GI{K:R4}{ca:Nat->Addr}{σ:L2.St}{H F:Hp}{θ:List Addr}{s:S}(b:BS K ca σ H F θ s)(m:Nat)(caps:List Nat):BS K ca (ph m caps σ) H F θ ⟨o3 m caps s.r,s.o⟩:=by
 refine⟨b.now,by unfold ph o3;simp,λi d e=> ?_⟩
 unfold o3 at e
 dsimp only at e
 by_cases hi:i<m
 ·rw[Sw (by simpa using hi),SV] at e
  split at e <;> cases e
 ·rw[Sj (by simpa using hi)] at e
  simp only[Uo,SF] at e
  cases q:caps[i-m]? with
  | none=>rw[q] at e;cases e
  | some j=>
   rw[q] at e
   simp only[Tn,VY] at e
   have J:s.r[j]? =some (some d):=by
    cases z:s.r[j]? with
    | none=>rw[z] at e;simp at e
    | some Y=>rw[z] at e;simp at e;rw[e]
   obtain⟨v,h1,h2⟩:=b.sl j d J
   refine⟨v, ?_,h2⟩
   unfold ph
   rw[Sj (by simpa using hi)]
   simp only[Uo,SF,q,Tn,h1,Vn]
def bV:TM:=λs=>.ok (true,s)
theorem cy:RdT C Kc bV:=λσ H F θ s Q b p=>p H F θ .refl b
open Classical in
noncomputable def eV (ok:aC->Prop)(g:GM)(c:TM)(e:EM):List D->List D->S->Res (List D×S)
 | [],acc,s=>if ok s.o then .ok (acc,s) else .bad
 | d::ds,acc,s=>if ok s.o/\acc.length<16777216 then (g d s).bind λs1=>(c s1).bind λx=>if x.1 then (e x.2).bind λy=>eV ok g c e ds (acc++[y.1]) y.2 else eV ok g c e ds acc x.2 else .bad
noncomputable def oy (m:Nat)(caps:List Nat)(im:IM)(g:GM)(c:TM)(e:EM):S->Res (List D×S):=λs=>(im s).bind λy=>
 (eV (okC y.1.1 y.1.2) g c e y.1.1 [] ⟨o3 m caps y.2.r,y.2.o⟩).bind λz=>.ok (z.1,⟨y.2.r,z.2.o⟩)
theorem A2 {m:Nat} {caps:List Nat} {wi:TI} {g:TG} {tc:TT} {te:TE} {im:IM} {gm:GM} {c:TM} {e:EM} (hi:RdI C wi im) (hg:RdG C g gm) (hc:RdT C tc c) (he:RdE C te e)
 {σ:L2.St} {H F:Hp} {θ:List Addr} {s:S} {Q:VK} (b:BS C.K C.ca σ H F θ s)
 (p:PoR C H F θ (oy m caps im gm c e s) λy H1 F1 θ1=>BS C.K C.ca σ H1 F1 θ1 y.2->∀q xs,H q=none->H1 q=some (.lst xs)->F1 q=none->q∉θ1->aG C.K C.ca θ1 F1 y.1 xs->Q (.ref q) H1):sL m caps wi g tc te σ H Q:=by
 refine hi σ H F θ s _ b (PoR.bind p ?_)
 rintro ⟨⟨ds,k⟩,s1⟩ H1 F1 θ1 _ b9 p1 b1 J it q hq
 dsimp only at p1 b1 it
 have cb:Stp H1 F1 θ1 (upd H1 q (.lst [])) F1 θ1:=by
  have nm:∀a u,H1 a=some u->a≠q:=λa u e z=>by rw[z,hq] at e;cases e
  exact⟨bN.refl _,⟨[],by simp,by simp⟩,λa u h _=>by rw[aV (nm a u h)];exact h,λa u h=>⟨u,by rw[aV (nm a u h)];exact h⟩,λa u h=>.inl h⟩
 have qθ:q∉θ1:=λh=>by obtain⟨u,hu⟩:=b1.now.there h;rw[hq] at hu;cases hu
 have qF:F1 q=none:=by
  cases e:F1 q with
  | none=>rfl
  | some u=>rw[b1.now.fh q u e] at hq;cases hq
 have cc:H q=none:=by
  cases e:H q with
  | none=>rfl
  | some u=>obtain⟨u',e'⟩:=b9.al q u e;rw[hq] at e';cases e'
 have keep:∀{H2 F2 H3 F3:Hp} {θ2 θ3:List Addr} {o:HO},Stp H2 F2 θ2 H3 F3 θ3->H2 q=some o->F2 q=none->q∉θ2->H3 q=some o/\F3 q=none/\q∉θ3:=λ{H2 F2 H3 F3 θ2 θ3 o} st h1 h2 h3=>by
  refine⟨st.kp q o h1 h3, ?_, ?_⟩
  ·cases e:F3 q with
   | none=>rfl
   | some u=>
    rcases st.nf q u e with z | z | z
    ·rw[h2] at z;cases z
    ·rw[h1] at z;cases z
    ·exact absurd z h3
  ·obtain⟨r,rfl,hr⟩:=st.th
   intro hm
   rcases Sy.mp hm with z | z
   ·exact h3 z
   ·rw[hr q z] at h1;cases h1
 have bw:∀{σ':L2.St} {H2 F2:Hp} {θ2:List Addr} {s2:S} (o:HO),BS C.K C.ca σ' H2 F2 θ2 s2->F2 q=none->q∉θ2->BS C.K C.ca σ' (upd H2 q o) F2 θ2 s2:=λ{σ' H2 F2 θ2 s2} o b h1 h2=>by
  have ne:∀a,a∈θ2->a≠q:=λa h z=>h2 (z▸h)
  refine⟨⟨λa u h=> ?_,b.now.nd,b.now.ln,λj a c e1 e2=> ?_⟩,b.len,b.sl⟩
  ·have:a≠q:=λz=>by rw[z,h1] at h;cases h
   rw[aV this];exact b.now.fh a u h
  ·have hm:=ne a (SY e1)
   have w:=b.now.ce j a c e1 e2
   cases c with
   | dead=>obtain⟨u,hu⟩:=w;exact⟨u,by rw[aV hm];exact hu⟩
   | lst ds=>obtain⟨q1,ys,q2,q3⟩:=w;exact⟨q1,ys,by rw[aV hm];exact q2,q3⟩
   | ins c ns ds=>obtain⟨q1,dx,ys,q2,q3,q4⟩:=w;exact⟨q1,dx,ys,by rw[aV hm];exact q2,q3,q4⟩
 have cm:∀{H2 F2:Hp} {θ2:List Addr} (o:HO),Stp H1 F1 θ1 H2 F2 θ2->Stp H1 F1 θ1 (upd H2 q o) F2 θ2:=λ{H2 F2 θ2} o st=>by
  have nm:∀a u,H1 a=some u->a≠q:=λa u e z=>by rw[z,hq] at e;cases e
  exact⟨st.ff,st.th,λa u h1 h2=>by rw[aV (nm a u h1)];exact st.kp a u h1 h2,λa u h1=>by rw[aV (nm a u h1)];exact st.al a u h1,st.nf⟩
 refine⟨λi n Y σ' H'=>n=ds.length-i/\i<=ds.length/\∃F' θ' s' as,Stp H1 F1 θ1 H' F' θ'/\H' q=some (.lst Y)/\F' q=none/\q∉θ'/\BS C.K C.ca σ' H' F' θ' s'/\aG C.K C.ca θ' F' as Y/\
  PoR C H1 F1 θ1 ((eV (okC ds k) gm c e (ds.drop i) as s').bind λz=>.ok (z.1,(⟨s1.r,z.2.o⟩:S))) (λy H1 F1 θ1=>BS C.K C.ca σ H1 F1 θ1 y.2->∀q xs,H q=none->H1 q=some (.lst xs)->F1 q=none->q∉θ1->aG C.K C.ca θ1 F1 y.1 xs->Q (.ref q) H1),
  ⟨ds.length,by simp,S1 _,F1,θ1,⟨o3 m caps s1.r,s1.o⟩,[],cb,cU,qF,qθ,bw _ (GI b1 m caps) qF qθ,aG.nil,by simpa using p1⟩, ?_⟩
 rintro i n Y σ' H' ⟨rfl,db,F',θ',s',as,st,bm,b2,b7,bs,a4,po⟩
 by_cases lt:i<ds.length
 ·right
  rw[Tc lt,eV] at po
  split at po
  ·rename_i a5
   refine⟨it.go i H' F' θ' s'.o lt st bs.now a5.1, ?_⟩
   intro x H3 hy
   obtain⟨F3,a7,b3,rp⟩:=it.yl i ds[i] σ' H' F' θ' s' x H3 (Sa lt) st bs a5.1 hy
   obtain⟨k1,k2,k3⟩:=keep a7 bm b2 b7
   have an:=st.trans a7
   have a8:=PoR.after an po
   have w1:PoG C H3 F3 θ' (gm ds[i] s') (λσ4 H4=>tc σ4 H4 λb H4=>if b=true then
    te σ4 H4 λy H5=>H5 q=some (.lst Y)/\Y.length<sizeLine/\∃k',k'<ds.length-i/\(k'=ds.length-(i+1)/\i+1<=ds.length/\∃F' θ' s' as,Stp H1 F1 θ1 (upd H5 q (.lst (Y++[y]))) F' θ'/\(upd H5 q (.lst (Y++[y]))) q=some (.lst (Y++[y]))/\F' q=none/\q∉θ'/\BS C.K C.ca σ4 (upd H5 q (.lst (Y++[y]))) F' θ' s'/\aG C.K C.ca θ' F' as (Y++[y])/\
     PoR C H1 F1 θ1 ((eV (okC ds k) gm c e (ds.drop (i+1)) as s').bind λz=>.ok (z.1,(⟨s1.r,z.2.o⟩:S))) (λy H1 F1 θ1=>BS C.K C.ca σ H1 F1 θ1 y.2->∀q xs,H q=none->H1 q=some (.lst xs)->F1 q=none->q∉θ1->aG C.K C.ca θ1 F1 y.1 xs->Q (.ref q) H1))
    else ∃k',k'<ds.length-i/\(k'=ds.length-(i+1)/\i+1<=ds.length/\∃F' θ' s' as,Stp H1 F1 θ1 H4 F' θ'/\H4 q=some (.lst Y)/\F' q=none/\q∉θ'/\BS C.K C.ca σ4 H4 F' θ' s'/\aG C.K C.ca θ' F' as Y/\
     PoR C H1 F1 θ1 ((eV (okC ds k) gm c e (ds.drop (i+1)) as s').bind λz=>.ok (z.1,(⟨s1.r,z.2.o⟩:S))) (λy H1 F1 θ1=>BS C.K C.ca σ H1 F1 θ1 y.2->∀q xs,H q=none->H1 q=some (.lst xs)->F1 q=none->q∉θ1->aG C.K C.ca θ1 F1 y.1 xs->Q (.ref q) H1))):=by
    cases e1:gm ds[i] s' with
    | bad=>rw[e1] at a8;exact a8
    | exc a1 a2 a3=>rw[e1] at a8;exact a8
    | ok s4=>
     rw[e1] at po
     intro H4 F4 θ4 ap σ4 b4
     obtain⟨l1,l2,l3⟩:=keep ap k1 k2 k3
     refine hc σ4 H4 F4 θ4 s4 _ b4 ?_
     cases e2:c s4 with
     | bad=>rw[aj,e2] at po;exact po
     | exc a1 a2 a3=>rw[aj,e2] at po;exact PoR.after (an.trans ap) po
     | ok x5=>
      obtain⟨kk,s5⟩:=x5
      rw[aj,e2,aj] at po
      intro H5 F5 θ5 az b5
      obtain⟨m1,m2,m3⟩:=keep az l1 l2 l3
      have a6:=((a4.mono a7.ff a7.pre).mono ap.ff ap.pre).mono az.ff az.pre
      cases kk with
      | false=>
       exact tK ⟨ds.length-(i+1),by omega,rfl,by omega,F5,θ5,s5,as,an.trans (ap.trans az),m1,m2,m3,b5,a6,by simpa using po⟩
      | true=>
       refine tR (he σ4 H5 F5 θ5 s5 _ b5 ?_)
       dsimp only[if_true] at po
       cases e3:e s5 with
       | bad=>rw[e3] at po;exact po
       | exc a1 a2 a3=>rw[e3] at po;exact PoR.after (an.trans (ap.trans az)) po
       | ok x6=>
        obtain⟨y,s6⟩:=x6
        rw[e3,aj] at po
        intro H6 F6 θ6 a9 b6 w r6
        obtain⟨n1,n2,n3⟩:=keep a9 m1 m2 m3
        exact⟨n1,by rw[a4.length];exact a5.2,ds.length-(i+1),by omega,rfl,by omega,F6,θ6,s6,as++[y],cm _ (an.trans (ap.trans (az.trans a9))),cU,n2,n3,bw _ b6 n2 n3,(a6.mono a9.ff a9.pre).append (aG.one r6),po⟩
   exact hg σ' H3 F3 θ' s' ds[i] x _ b3 rp w1
  ·exact R5 po
 ·left
  rw[UK (by omega),eV] at po
  split at po
  ·rename_i a5
   refine⟨it.st i H' F' θ' s'.o (by omega) st bs.now a5,bm, ?_⟩
   refine po H' F' θ' st ⟨bs.now,b1.len,λj d e=> ?_⟩ q Y cc bm b2 b7 a4
   obtain⟨v,h1,h2⟩:=b1.sl j d e
   exact⟨v,h1,h2.mono st.ff st.pre⟩
  ·exact R5 po
noncomputable def bR (m:Nat)(caps:List Nat)(im:IM)(g:GM)(c:TM)(e:EM):EM:=λs=>(oy m caps im g c e s).bind λy=>.ok (.lst y.1,y.2)
theorem bZ{m:Nat}{caps:List Nat}{wi:TI}{g:TG}{tc:TT}{te:TE}{im:IM}{gm:GM}{c:TM}{e:EM}(hi:RdI C wi im)(hg:RdG C g gm)(hc:RdT C tc c)(he:RdE C te e):RdE C (sL m caps wi g tc te) (bR m caps im gm c e):=by
 intro σ H F θ s Q b p
 refine A2 hi hg hc he b ?_
 unfold bR at p
 cases e1:oy m caps im gm c e s with
 | bad=>rw[e1] at p;exact p
 | exc a1 a2 a3=>rw[e1] at p;exact p
 | ok y=>
  rw[e1,aj] at p
  intro H1 F1 θ1 J Y q xs h0 h1 h2 h3 hr
  have sF:bN F1 (upd F1 q (.lst xs)):=λa u h=>by
   rw[aV (λz=>by rw[z,h2] at h;cases h)];exact h
  refine p H1 (upd F1 q (.lst xs)) θ1 ⟨J.ff.trans sF,J.th,J.kp,J.al,λa u h=> ?_⟩ ⟨⟨λa u h=> ?_,Y.now.nd,Y.now.ln,λj a c e2 e3=> ?_⟩,Y.len,λi d e2=> ?_⟩ (.ref q) ?_
  ·by_cases z:a=q
   ·subst z;exact .inr (.inl h0)
   ·rw[aV z] at h;exact J.nf a u h
  ·by_cases z:a=q
   ·subst z;rw[cU] at h;rw[h1];exact h
   ·rw[aV z] at h;exact Y.now.fh a u h
  ·have ne:a≠q:=λz=>h3 (z▸SY e2)
   have w:=Y.now.ce j a c e2 e3
   cases c with
   | dead=>exact w
   | lst ds=>obtain⟨q1,ys,q2,q3⟩:=w;exact⟨by rw[aV ne];exact q1,ys,q2,q3.mono sF ⟨[],by simp⟩⟩
   | ins c ns ds=>obtain⟨q1,dx,ys,q2,q3,q4⟩:=w;exact⟨by rw[aV ne];exact q1,dx,ys,q2,q3,q4.mono sF ⟨[],by simp⟩⟩
  ·obtain⟨v,w1,w2⟩:=Y.sl i d e2
   exact⟨v,w1,w2.mono sF ⟨[],by simp⟩⟩
  ·unfold Rep
   exact⟨q,xs,rfl,SqL.of cU,hr.mono sF ⟨[],by simp⟩⟩
noncomputable def pG (m:Nat)(caps:List Nat)(im:IM)(g:GM)(c:TM)(e:EM):EM:=λs=>(oy m caps im g c e s).bind λy=>.ok (.ptr y.2.o.length,⟨y.2.r,y.2.o++[.lst y.1]⟩)
theorem sj{m:Nat}{caps:List Nat}{wi:TI}{g:TG}{tc:TT}{te:TE}{im:IM}{gm:GM}{c:TM}{e:EM}(hi:RdI C wi im)(hg:RdG C g gm)(hc:RdT C tc c)(he:RdE C te e):RdE C (sL m caps wi g tc te) (pG m caps im gm c e):=by
 intro σ H F θ s Q b p
 refine A2 hi hg hc he b ?_
 unfold pG at p
 cases e1:oy m caps im gm c e s with
 | bad=>rw[e1] at p;exact p
 | exc a1 a2 a3=>rw[e1] at p;exact p
 | ok y=>
  rw[e1,aj] at p
  intro H1 F1 θ1 J Y q xs h0 h1 h2 h3 hr
  obtain⟨r,er,ac⟩:=J.th
  refine p H1 F1 (θ1++[q]) ⟨J.ff,⟨r++[q],by rw[er,S7],λa ha=> ?_⟩,J.kp,J.al,J.nf⟩ ⟨⟨Y.now.fh, ?_,by simp[Y.now.ln],λk a c e2 e3=> ?_⟩,Y.len,λi d e2=> ?_⟩ (.ref q) ?_
  ·rcases Sy.mp ha with z | z
   ·exact ac a z
   ·rw[Sv.mp z];exact h0
  ·refine TW.mpr ⟨Y.now.nd,by simp,λa ha x hx=> ?_⟩
   rw[Sv.mp hx]
   rintro rfl
   exact h3 ha
  ·by_cases hk:k<θ1.length
   ·rw[Sw hk] at e2
    dsimp only at e3
    rw[Sw (by rw[<- Y.now.ln];exact hk)] at e3
    have w:=Y.now.ce k a c e2 e3
    cases c with
    | dead=>exact w
    | lst ds=>obtain⟨q1,ys,q2,q3⟩:=w;exact⟨q1,ys,q2,q3.mono (bN.refl _) ⟨[q],rfl⟩⟩
    | ins c ns ds=>obtain⟨q1,dx,ys,q2,q3,q4⟩:=w;exact⟨q1,dx,ys,q2,q3,q4.mono (bN.refl _) ⟨[q],rfl⟩⟩
   ·have an:k<(θ1++[q]).length:=(Sx.mp e2).1
    have ap:k=θ1.length:=by simp at an;omega
    subst ap
    rw[Sj (Si _)] at e2
    dsimp only at e3
    rw[Sj (by rw[Y.now.ln];exact Si _),Y.now.ln] at e3
    simp at e2 e3
    subst e2;subst e3
    exact⟨h2,xs,h1,hr.mono (bN.refl _) ⟨[q],rfl⟩⟩
  ·obtain⟨v,w1,w2⟩:=Y.sl i d e2
   exact⟨v,w1,w2.mono (bN.refl _) ⟨[q],rfl⟩⟩
  ·unfold Rep
   exact⟨q,rfl,by rw[<- Y.now.ln];simp⟩
end
section
variable {C : Ct}
theorem ur{σ:L2.St}{H F:Hp}{θ:List Addr}{s:S}{ds:List D}{Q:VK}(p:PoE C σ H F θ (.ok (.ptr s.o.length,(⟨s.r,s.o++[.lst ds]⟩:S))) Q)(b:BS C.K C.ca σ H F θ s){xs:List V}(r:aG C.K C.ca θ F ds xs):
 ∀q,H q=none->Q (.ref q) (upd H q (.lst xs)):=λq hq=>by
 obtain⟨st,J,Y⟩:=b.newC hq r
 exact p _ _ _ st J _ Y
def uO(O:aC):D->Option (List D)
 | .tup ds=>some ds
 | x=>lsD O x
def An(m:EM):EM:=λs=>(m s).bind λx=>match uO x.2.o x.1 with
 | some ds=>.ok (.ptr x.2.o.length,⟨x.2.r,x.2.o++[.lst ds]⟩)
 | none=>.bad
theorem J1{t:TE}{m:EM}(h:RdE C t m):RdE C (tCB (λxs H Q=>∃p ys,xs=[.ref p]/\(SqL C.K H p ys\/SqT C.K H p ys)/\∀l,H l=none->Q (.ref l) (upd H l (.lst ys))) (oH t sf)) (An m):=by
 intro σ H F θ s Q b p
 refine h σ H F θ s _ b (PoR.bind p ?_)
 rintro ⟨x,s1⟩ H1 F1 θ1 _ am p1 J v Y
 dsimp only at p1 J Y
 split at p1
 ·rename_i ds e
  cases x with
  | tup es=>
   cases e
   obtain⟨a,xs,rfl,hs,hr⟩:=wU J Y
   exact⟨a,xs,rfl,.inr hs,ur p1 J hr⟩
  | _=>
   obtain⟨a,xs,rfl,hs,hr⟩:=fm J Y e
   exact⟨a,xs,rfl,.inl hs,ur p1 J hr⟩
 ·exact R5 p1
mutual
def shD(n:Nat):D->D
 | .lst ds=>.lst (fP n ds)
 | .tup ds=>.tup (fP n ds)
 | .ptr k=>.ptr (n+k)
 | .obj c ns ds=>.obj c ns (fP n ds)
 | .exn c=>.exn c
 | .non=>.non
 | .bl b=>.bl b
 | .int i=>.int i
 | .str x=>.str x
def fP(n:Nat):List D->List D
 | []=>[]
 | d::ds=>shD n d::fP n ds
end
def shC(n:Nat):Cell->Cell
 | .dead=>.dead
 | .lst ds=>.lst (fP n ds)
 | .ins c ns ds=>.ins c ns (fP n ds)
section
variable {K : R4} {ca : Nat → Addr} {F : Hp} {θ θ1 : List Addr}
mutual
theorem Gs:∀{d:D} {v:V},Rep K ca θ1 F d v->Rep K ca (θ++θ1) F (shD θ.length d) v
 | .non,_,h=>by unfold shD;exact h
 | .bl _,_,h=>by unfold shD;exact h
 | .int _,_,h=>by unfold shD;exact h
 | .str _,_,h=>by unfold shD;exact h
 | .lst ds,_,h=>by
  unfold shD
  unfold Rep at h ⊢
  obtain⟨a,xs,e,Y,J⟩:=h
  exact⟨a,xs,e,Y,pP J⟩
 | .tup ds,_,h=>by
  unfold shD
  unfold Rep at h ⊢
  obtain⟨a,xs,e,Y,J⟩:=h
  exact⟨a,xs,e,Y,pP J⟩
 | .ptr k,_,h=>by
  unfold shD
  unfold Rep at h ⊢
  obtain⟨a,e,hk⟩:=h
  exact⟨a,e,by rw[Sj (Vo _ _),S8];exact hk⟩
 | .obj c ns ds,_,h=>by
  unfold shD
  unfold Rep at h ⊢
  obtain⟨a,dx,xs,e,ha,hl,J⟩:=h
  exact⟨a,dx,xs,e,ha,hl,pP J⟩
 | .exn c,_,h=>by
  unfold shD
  unfold Rep at h ⊢
  exact h
theorem pP:∀{ds:List D} {xs:List V},aG K ca θ1 F ds xs->aG K ca (θ++θ1) F (fP θ.length ds) xs
 | [],_,h=>by unfold fP;exact h
 | d::ds,_,h=>by
  unfold fP
  unfold aG at h ⊢
  obtain⟨v,r,e,h1,h2⟩:=h
  exact⟨v,r,e,Gs h1,pP h2⟩
end
end
theorem BS.calledO{K:R4}{ca:Nat->Addr}{σ:L2.St}{H F H1 F1:Hp}{θ θ1:List Addr}{s:S}{O1:aC}(b:BS K ca σ H F θ s)(st:Stp H F [] H1 F1 θ1)(n:Now K ca H1 F1 θ1 O1):
 Stp H F θ H1 F1 (θ++θ1)/\BS K ca σ H1 F1 (θ++θ1) ⟨s.r,s.o++O1.map (shC s.o.length)⟩:=by
 obtain⟨J,b0⟩:=b.called st n
 obtain⟨r,er,hr⟩:=st.th
 rw[SE] at er
 subst er
 refine⟨⟨J.ff,⟨θ1,rfl,hr⟩,J.kp,J.al,J.nf⟩,⟨⟨n.fh,TW.mpr ⟨b.now.nd,n.nd,λa ha x hx=> ?_⟩,by simp[b.now.ln,n.ln],λk a c e1 e2=> ?_⟩,b.len,λi d e=> ?_⟩⟩
 ·rintro rfl
  obtain⟨u,hu⟩:=b.now.there ha
  rw[hr a hx] at hu
  cases hu
 ·by_cases hk:k<θ.length
  ·rw[Sw hk] at e1
   dsimp only at e2
   rw[Sw (by rw[<- b.now.ln];exact hk)] at e2
   have w:=b0.now.ce k a c e1 e2
   cases c with
   | dead=>exact w
   | lst ds=>obtain⟨q1,ys,q2,Y⟩:=w;exact⟨q1,ys,q2,Y.mono (bN.refl _) ⟨θ1,rfl⟩⟩
   | ins c ns ds=>obtain⟨q1,dx,ys,q2,Y,q4⟩:=w;exact⟨q1,dx,ys,q2,Y,q4.mono (bN.refl _) ⟨θ1,rfl⟩⟩
  ·rw[Sj (by omega)] at e1
   dsimp only at e2
   rw[Sj (by rw[<- b.now.ln];omega),SF,<- b.now.ln] at e2
   cases e3:O1[k-θ.length]? with
   | none=>rw[e3] at e2;cases e2
   | some c'=>
    rw[e3] at e2
    cases e2
    have w:=n.ce _ a c' e1 e3
    cases c' with
    | dead=>exact w
    | lst ds=>obtain⟨q1,ys,q2,Y⟩:=w;exact⟨q1,ys,q2,pP Y⟩
    | ins c ns ds=>obtain⟨q1,dx,ys,q2,Y,q4⟩:=w;exact⟨q1,dx,ys,q2,Y,pP q4⟩
 ·obtain⟨v,h1,h2⟩:=b0.sl i d e
  exact⟨v,h1,h2.mono (bN.refl _) ⟨θ1,rfl⟩⟩
def dY(n:Nat)(f:FM)(ma:AM):EM:=λs=>(ma s).bind λx=>if aP x.1=true/\x.1.length=n then (match f x.1 [] with
 | .ok (d,O1)=>.ok (shD x.2.o.length d,⟨x.2.r,x.2.o++O1.map (shC x.2.o.length)⟩)
 | _=>.bad) else .bad
theorem gE{n:Nat}{f:FM}{ta:TA}{ma:AM}{E:XK}(ha:RdA C ta ma):RdE C (uV (spM C.K C.ca n f) [] E ta) (dY n f ma):=by
 intro σ H F θ s Q b p
 refine ha σ H F θ s _ b (PoR.bind p ?_)
 rintro ⟨x,s1⟩ H1 F1 θ1 _ am p1 J v r1
 dsimp only at p1 J r1 ⊢
 split at p1
 ·rename_i hp
  rw[Tu]
  refine⟨F1,[],x,[],Now.nil J.now.fh,r1.pure hp.1,hp.2, ?_⟩
  split at p1
  ·rename_i d O1 e
   rw[e]
   intro v H2 F2 θ2 Y n2 rv
   obtain⟨ab,b3⟩:=J.calledO Y n2
   refine p1 H2 F2 _ ab b3 v ?_
   rw[<- J.now.ln]
   exact Gs rv
  ·exact R5 p1
 ·exact R5 p1
def fQ(n:Nat)(f:FM)(ma:AM):EM:=λs=>(ma s).bind λx=>if aP (bP x.2.o (bP x.2.o x.1))=true/\x.1.length=n then (match f (bP x.2.o (bP x.2.o x.1)) [] with
 | .ok (d,_)=>if pC d=true then .ok (d,x.2) else .bad
 | _=>.bad) else .bad
theorem lQ(O:aC):∀ds:List D,(bP O ds).length=ds.length
 | []=>by unfold bP;rfl
 | d::ds=>by unfold bP;rw[Ss,Ss,lQ O ds]
theorem kJ{n:Nat}{f:FM}{ta:TA}{ma:AM}{E:XK}(ha:RdA C ta ma):RdE C (uV (spM C.K C.ca n f) [] E ta) (fQ n f ma):=by
 intro σ H F θ s Q b p
 refine ha σ H F θ s _ b (PoR.bind p ?_)
 rintro ⟨x,s1⟩ H1 F1 θ1 _ am p1 J v r1
 dsimp only at p1 J r1 ⊢
 split at p1
 ·rename_i hp
  rw[Tu]
  have rr:aG C.K C.ca θ1 H1 (bP s1.o (bP s1.o x)) v:=mH J.now J.now.fh (bN.refl _) (mH J.now (bN.refl _) J.now.fh r1)
  refine⟨H1,[],bP s1.o (bP s1.o x),[],Now.nil (bN.refl _),rr.pure hp.1,by rw[lQ,lQ];exact hp.2, ?_⟩
  split at p1
  ·rename_i d O1 e
   rw[e]
   intro v H2 F2 θ2 Y n2 rv
   split at p1
   ·rename_i sd
    have kp:∀a o,H1 a=some o->H2 a=some o:=λa o h=>Y.kp a o h (by simp)
    refine p1 H2 F1 θ1 ⟨bN.refl _,⟨[],by simp,by simp⟩,λa o h _=>kp a o h,Y.al,λa o h=>.inl h⟩ ⟨⟨λa o h=>kp a o (J.now.fh a o h),J.now.nd,J.now.ln,λk a c e1 e2=> ?_⟩,J.len,J.sl⟩ v (rv.scal sd)
    have w:=J.now.ce k a c e1 e2
    cases c with
    | dead=>obtain⟨o,ho⟩:=w;exact⟨o,kp a o ho⟩
    | lst ds=>obtain⟨q1,ys,q2,q3⟩:=w;exact⟨q1,ys,kp _ _ q2,q3⟩
    | ins c ns ds=>obtain⟨q1,dx,ys,q2,q3,q4⟩:=w;exact⟨q1,dx,ys,kp _ _ q2,q3,q4⟩
   ·exact R5 p1
  ·exact R5 p1
 ·exact R5 p1
end
def cE(P:Program)(w:World)(K:R4)(mg:Str->Option Value)(base:Heap)(ca:Nat->Addr)(J:Nat)(x:Str)(ps:List Str)(f:FM)(a:Addr)(fd:FuncData):Prop:=
 lM P w K mg base (CXE P w) J a fd ps (spM K ca ps.length f)/\mg x=some (.ref a)/\Sd K (.ref a)=true/\Binds K fd ps []
def bM(P:Program)(w:World)(K:R4)(mg:Str->Option Value)(base:Heap)(ca:Nat->Addr)(J:Nat)(x:Str)(ps:List Str)(f:FM):Prop:=∃a fd,cE P w K mg base ca J x ps f a fd
theorem cE.in{P:Program}{w:World}{K:R4}{mg:Str->Option Value}{base:Heap}{ca:Nat->Addr}{J:Nat}{x:Str}{ps:List Str}{f:FM}{a:Addr}{fd:FuncData}(h:cE P w K mg base ca J x ps f a fd):bM P w K mg base ca J x ps f:=⟨a,fd,h⟩
theorem zL{K:R4}{ca:Nat->Addr}{θ:List Addr}{F:Hp}:∀ns:List Int,aG K ca θ F (ns.map D.int) (ns.map V.int)
 | []=>aG.nil
 | _::ns=>aG.cons (bz.mpr rfl) (zL ns)
theorem M5{K:R4}{ca:Nat->Addr}{H:Hp}{a:Addr}{ns:List Int}{f:FM}{E:XK}(J:SqL K H a (ns.map V.int))(h:∃O,f [.lst (ns.map D.int)] []=.ok (.bl true,O)):spM K ca 1 f [.ref a] H (λv _=>v=.bl true) E:=by
 obtain⟨O,h⟩:=h
 refine⟨H,[],[.lst (ns.map D.int)],[],Now.nil (bN.refl _),aG.one ?_,rfl, ?_⟩
 ·unfold Rep
  exact⟨a,ns.map V.int,rfl,J,zL ns⟩
 ·rw[h]
  intro v H1 F1 θ1 _ _ r
  exact dt.mp r
theorem bY{k:Nat}{A:Around}(J:fX k A)(hk:32<=k):A.depth+100<recursionLimit:=by
 have:=J.dp
 omega
def u4(i:Nat)(s:S):Nat:=match s.r[i]? with
 | some (some (.int j))=>j.natAbs+1
 | _=>0
section
variable {C : Ct}
def mK(as bs:List D):List D:=Tq (λa b=>.tup [a,b]) as bs
def qQ(m:AM):IM:=λs=>(m s).bind λx=>match x.1 with
 | [.lst as,.lst bs]=>.ok ((mK as bs,none),x.2)
 | _=>.bad
theorem sA{as bs:List D}{i:Nat}{d:D}(h:(mK as bs)[i]? =some d):∃x y,as[i]? =some x/\bs[i]? =some y/\d=.tup [x,y]:=by
 unfold mK at h
 rw[UP] at h
 cases h1:as[i]? with
 | none=>rw[h1] at h;cases h
 | some x=>
  cases h2:bs[i]? with
  | none=>rw[h1,h2] at h;cases h
  | some y=>
   rw[h1,h2] at h
   cases h
   exact⟨x,y,rfl,rfl,rfl⟩
theorem NS{a b:Addr}{xs ys:List V}{as bs:List D}{H F:Hp}{θ:List Addr}(h1:SqL C.K F a xs)(h2:SqL C.K F b ys)(r1:aG C.K C.ca θ F as xs)(r2:aG C.K C.ca θ F bs ys):
 tJ C (Itz C.K a b) (mK as bs) (okC (mK as bs) none) H F θ where
 go:=λi H2 F2 θ2 O2 hi st n _=>by
  obtain⟨x,y,e1,e2,_⟩:=sA (Sa hi)
  obtain⟨v,q1,_⟩:=r1.get e1
  obtain⟨w,q2,_⟩:=r2.get e2
  exact⟨xs,ys,v,w,n.fh.seq (st.ff.seq h1),n.fh.seq (st.ff.seq h2),q1,q2⟩
 yl:=λi d σ H2 F2 θ2 s2 x H3 hd st b _ hy=>by
  obtain⟨T,v,w,hT,rfl,rfl,hv,hw⟩:=hy
  obtain⟨x,y,e1,e2,rfl⟩:=sA hd
  obtain⟨v',q1,k1⟩:=r1.get e1
  obtain⟨w',q2,k2⟩:=r2.get e2
  have:=hv xs (b.now.fh.seq (st.ff.seq h1))
  rw[q1] at this
  cases this
  have:=hw ys (b.now.fh.seq (st.ff.seq h2))
  rw[q2] at this
  cases this
  obtain⟨st3,b3,sF,e3⟩:=b.newF hT (.tup [v,w])
  refine⟨_,st3,b3, ?_⟩
  unfold Rep
  exact⟨T,[v,w],rfl,SqT.of e3,aG.cons ((k1.mono st.ff st.pre).mono st3.ff st3.pre) (aG.one ((k2.mono st.ff st.pre).mono st3.ff st3.pre))⟩
 st:=λi H2 F2 θ2 O2 hi st n _=>by
  refine⟨xs,ys,n.fh.seq (st.ff.seq h1),n.fh.seq (st.ff.seq h2), ?_⟩
  unfold mK at hi
  rw[Tz] at hi
  rw[r1.length,r2.length]
  omega
theorem xH{ta:TA}{m:AM}(h:RdA C ta m):RdI C (Ih C.K ta) (qQ m):=by
 intro σ H F θ s R b p
 refine h σ H F θ s _ b (PoR.bind p ?_)
 rintro ⟨x,s1⟩ H1 F1 θ1 _ az p1 Y v r1
 dsimp only at p1 Y r1
 split at p1
 ·rename_i as bs
  obtain⟨v1,v2,rfl,k1,k2⟩:=Kw r1
  unfold Rep at k1 k2
  obtain⟨a,xs,rfl,hs,hr⟩:=k1
  obtain⟨b',ys,rfl,J,ab⟩:=k2
  exact⟨a,b',rfl,⟨xs,Y.now.fh.seq hs⟩,⟨ys,Y.now.fh.seq J⟩,p1 _ _ _ .refl Y _ (NS hs J hr ab)⟩
 ·exact R5 p1
def dD(ds:List D):List D:=ds.mapIdx λi d=>.tup [.int (i:Nat),d]
def cT(m:AM):IM:=λs=>(m s).bind λx=>match x.1 with
 | [.lst as]=>.ok ((dD as,none),x.2)
 | _=>.bad
theorem yN{as:List D}{i:Nat}{d:D}(h:(dD as)[i]? =some d):∃x,as[i]? =some x/\d=.tup [.int (i:Nat),x]:=by
 unfold dD at h
 rw[List.getElem?_mapIdx] at h
 cases h1:as[i]? with
 | none=>rw[h1] at h;cases h
 | some x=>
  rw[h1] at h
  cases h
  exact⟨x,rfl,rfl⟩
theorem K7{a:Addr}{xs:List V}{as:List D}{H F:Hp}{θ:List Addr}(h1:SqL C.K F a xs)(r1:aG C.K C.ca θ F as xs):tJ C (Ite C.K a) (dD as) (okC (dD as) none) H F θ where
 go:=λi H2 F2 θ2 O2 hi st n _=>by
  obtain⟨x,e1,_⟩:=yN (Sa hi)
  obtain⟨v,q1,_⟩:=r1.get e1
  exact⟨xs,v,n.fh.seq (st.ff.seq h1),q1⟩
 yl:=λi d σ H2 F2 θ2 s2 x H3 hd st b _ hy=>by
  obtain⟨T,v,hT,rfl,rfl,hv⟩:=hy
  obtain⟨x,e1,rfl⟩:=yN hd
  obtain⟨v',q1,k1⟩:=r1.get e1
  have:=hv xs (b.now.fh.seq (st.ff.seq h1))
  rw[q1] at this
  cases this
  obtain⟨st3,b3,sF,e3⟩:=b.newF hT (.tup [.int (i:Nat),v])
  refine⟨_,st3,b3, ?_⟩
  unfold Rep
  exact⟨T,[.int (i:Nat),v],rfl,SqT.of e3,aG.cons (bz.mpr rfl) (aG.one ((k1.mono st.ff st.pre).mono st3.ff st3.pre))⟩
 st:=λi H2 F2 θ2 O2 hi st n _=>by
  refine⟨xs,n.fh.seq (st.ff.seq h1), ?_⟩
  unfold dD at hi
  rw[List.length_mapIdx] at hi
  rw[r1.length]
  exact hi
theorem fB{ta:TA}{m:AM}(h:RdA C ta m):RdI C (Kh C.K ta) (cT m):=by
 intro σ H F θ s R b p
 refine h σ H F θ s _ b (PoR.bind p ?_)
 rintro ⟨x,s1⟩ H1 F1 θ1 _ am p1 J v Y
 dsimp only at p1 J Y
 split at p1
 ·rename_i as
  obtain⟨v1,rfl,k1⟩:=oE Y
  unfold Rep at k1
  obtain⟨a,xs,rfl,hs,hr⟩:=k1
  exact⟨a,rfl,⟨xs,J.now.fh.seq hs⟩,p1 _ _ _ .refl J _ (K7 hs hr)⟩
 ·exact R5 p1
def p7(x:Str):List D:=x.cps.toList.map λc=>.str ⟨#[c]⟩
def E2(m:EM):IM:=λs=>(m s).bind λx=>match x.1 with
 | .str z=>.ok ((p7 z,none),x.2)
 | _=>.bad
theorem N5{z:Str}{H F:Hp}{θ:List Addr}:tJ C (Its z) (p7 z) (okC (p7 z) none) H F θ where
 go:=λi H2 F2 θ2 O2 hi st n _=>by
  unfold p7 at hi
  show i<z.cps.size
  simpa using hi
 yl:=λi d σ H2 F2 θ2 s2 x H3 hd st b _ hy=>by
  obtain⟨rfl,c,hc,rfl⟩:=hy
  refine⟨F2,.refl,b, ?_⟩
  unfold p7 at hd
  rw[SF,Up,hc] at hd
  cases hd
  exact dP.mpr rfl
 st:=λi H2 F2 θ2 O2 hi st n _=>by
  unfold p7 at hi
  show z.cps.size<=i
  simpa using hi
theorem KH{te:TE}{m:EM}(h:RdE C te m):RdI C (MV te) (E2 m):=by
 intro σ H F θ s R b p
 refine h σ H F θ s _ b (PoR.bind p ?_)
 rintro ⟨x,s1⟩ H1 F1 θ1 _ ab p1 J v Y
 dsimp only at p1 J Y
 cases x <;> first | exact R5 p1 | skip
 rename_i z _
 exact⟨z,dP.mp Y,p1 _ _ _ .refl J _ N5⟩
def iQ:List D->Option (List Int)
 | []=>some []
 | .int i::r=>(iQ r).map (i:: ·)
 | _=>none
def kU:List D->Option (List Bool)
 | []=>some []
 | .bl i::r=>(kU r).map (i:: ·)
 | _=>none
theorem xl{K:R4}{ca:Nat->Addr}{θ:List Addr}{F:Hp}:∀{ds:List D} {ns:List Int} {xs:List V},iQ ds=some ns->aG K ca θ F ds xs->xs=ns.map V.int
 | [],ns,xs,e,r=>by cases e;unfold aG at r;rw[r];rfl
 | d::ds,ns,xs,e,r=>by
  cases d <;> first | (cases e;done) | skip
  rename_i i
  unfold iQ at e
  cases e2:iQ ds with
  | none=>rw[e2] at e;cases e
  | some ms=>
   rw[e2] at e
   cases e
   unfold aG at r
   obtain⟨v,w,rfl,h1,h2⟩:=r
   rw[xl e2 h2,bz.mp h1];rfl
theorem vL{K:R4}{ca:Nat->Addr}{θ:List Addr}{F:Hp}:∀{ds:List D} {ns:List Bool} {xs:List V},kU ds=some ns->aG K ca θ F ds xs->xs=ns.map V.bl
 | [],ns,xs,e,r=>by cases e;unfold aG at r;rw[r];rfl
 | d::ds,ns,xs,e,r=>by
  cases d <;> first | (cases e;done) | skip
  rename_i i
  unfold kU at e
  cases e2:kU ds with
  | none=>rw[e2] at e;cases e
  | some ms=>
   rw[e2] at e
   cases e
   unfold aG at r
   obtain⟨v,w,rfl,h1,h2⟩:=r
   rw[vL e2 h2,dt.mp h1];rfl
def ofInts(f:List Int->D):OpN:=λO xs=>match xs with
 | [x]=>match lsD O x with
  | some ds=>match iQ ds with
   | some ns=>.ok (f ns)
   | none=>.bad
  | none=>.bad
 | _=>.bad
def uX(f:List Bool->D):OpN:=λO xs=>match xs with
 | [x]=>match lsD O x with
  | some ds=>match kU ds with
   | some ns=>.ok (f ns)
   | none=>.bad
  | none=>.bad
 | _=>.bad
def ui:OpN:=ofInts λns=>.int ns.sum
def yo:OpN:=uX λbs=>.bl (bs.all id)
def AO:OpN:=uX λbs=>.bl (bs.any id)
theorem FP{f:List Int->D}{g:List Int->V}(h:∀K ca θ F ns,Rep K ca θ F (f ns) (g ns)):kK C (λxs H Q=>∃(p:Addr) (ns:List Int),xs=[.ref p]/\SqL C.K H p (ns.map V.int)/\Q (g ns) H) (ofInts f):=by
 intro σ H F θ s xs vs Q b r p
 unfold ofInts at p
 split at p
 ·obtain⟨v,rfl,J⟩:=oE r
  split at p
  ·rename_i ds e
   obtain⟨a,ys,rfl,Y,hr⟩:=fm b J e
   split at p
   ·rename_i ns e2
    have:=xl e2 hr
    subst this
    exact⟨a,ns,rfl,Y,dM p b (h ..)⟩
   ·exact R5 p
  ·exact R5 p
 ·exact R5 p
theorem xD{f:List Bool->D}{g:List Bool->V}(h:∀K ca θ F ns,Rep K ca θ F (f ns) (g ns)):kK C (λxs H Q=>∃(p:Addr) (ns:List Bool),xs=[.ref p]/\SqL C.K H p (ns.map V.bl)/\Q (g ns) H) (uX f):=by
 intro σ H F θ s xs vs Q b r p
 unfold uX at p
 split at p
 ·obtain⟨v,rfl,J⟩:=oE r
  split at p
  ·rename_i ds e
   obtain⟨a,ys,rfl,Y,hr⟩:=fm b J e
   split at p
   ·rename_i ns e2
    have:=vL e2 hr
    subst this
    exact⟨a,ns,rfl,Y,dM p b (h ..)⟩
   ·exact R5 p
  ·exact R5 p
 ·exact R5 p
theorem Cd:kK C (λxs H Q=>∃(p:Addr) (ns:List Int),xs=[.ref p]/\SqL C.K H p (ns.map V.int)/\Q (.int ns.sum) H) ui:=FP λ_ _ _ _ _=>bz.mpr rfl
theorem xi:kK C (λxs H Q=>∃(p:Addr) (bs:List Bool),xs=[.ref p]/\SqL C.K H p (bs.map V.bl)/\Q (.bl (bs.all id)) H) yo:=xD λ_ _ _ _ _=>dt.mpr rfl
theorem Cw:kK C (λxs H Q=>∃(p:Addr) (bs:List Bool),xs=[.ref p]/\SqL C.K H p (bs.map V.bl)/\Q (.bl (bs.any id)) H) AO:=xD λ_ _ _ _ _=>dt.mpr rfl
def MP:D->Bool
 | .non=>true
 | _=>false
def isD:Op2:=λ_ x y=>match x,y with
 | .bl a,.bl b=>.ok (.bl (a == b))
 | x,.non=>.ok (.bl (MP x))
 | _,_=>.bad
def xN:Op2:=λ_ x y=>match y with
 | .non=>.ok (.bl (!MP x))
 | _=>.bad
theorem Hf{X:Cx}:OpR X (compareOp .LtE) (λx y H Q=>∃i j,x=.str i/\y=.str j/\Q (.bl (!decide (j.cps.toList<i.cps.toList))) H):=by
 intro pins s σ H x y v u Q I J Y h
 obtain⟨i,j,rfl,rfl,q⟩:=h
 obtain⟨t,rfl⟩:=J
 obtain⟨t',rfl⟩:=Y
 exact PySem.P.le_str (dc I q rfl)
def sO:Op2:=λ_ x y=>match x,y with
 | .str i,.str j=>.ok (.bl (!decide (j.cps.toList<i.cps.toList)))
 | _,_=>.bad
theorem Gd:gQ C (λx y H Q=>∃i j,x=.str i/\y=.str j/\Q (.bl (!decide (j.cps.toList<i.cps.toList))) H) sO:=by
 intro σ H F θ s x y v w Q b J Y p
 unfold sO at p
 split at p
 ·rename_i i j
  exact⟨i,j,dP.mp J,dP.mp Y,dM p b (dt.mpr rfl)⟩
 ·exact R5 p
def nH(f g:Op2)(a b c:EM):EM:=λs=>(a s).bind λx=>(b x.2).bind λy=>(f y.2.o x.1 y.1).bind λz=>match z with
 | .bl true=>(c y.2).bind λw=>(g w.2.o y.1 w.1).bind λd=>.ok (d,w.2)
 | .bl false=>.ok (.bl false,y.2)
 | _=>.bad
theorem CM{r r':R2}{f g:Op2}{ta tb tc:TE}{ma mb mc:EM}(hf:gQ C r f)(hg:gQ C r' g)(ha:RdE C ta ma)(hb:RdE C tb mb)(hc:RdE C tc mc):RdE C (Cz r r' ta tb tc) (nH f g ma mb mc):=by
 intro σ H F θ s Q b p
 refine ha σ H F θ s _ b (PoR.bind p ?_)
 rintro ⟨x,s1⟩ H1 F1 θ1 _ az p1 b1 v r1
 refine hb σ H1 F1 θ1 s1 _ b1 (PoR.bind p1 ?_)
 rintro ⟨y,s2⟩ H2 F2 θ2 _ Y p2 b2 w r2
 dsimp only at p2
 refine hf σ H2 F2 θ2 s2 x y v w _ b2 (r1.mono Y.ff Y.pre) r2 ?_
 cases e:f s2.o x y with
 | bad=>rw[e] at p2;exact p2
 | exc a1 a2 a3=>rw[e] at p2;exact p2
 | ok z=>
  rw[e,aj] at p2
  rw[aj]
  intro H3 F3 θ3 J b3 u r3
  cases z <;> first | exact R5 p2 | skip
  rename_i k
  refine⟨k,dt.mp r3, ?_⟩
  cases k with
  | false=>exact tK (PoR.after J p2 _ _ _ .refl b3 _ (dt.mpr rfl))
  | true=>
   refine tR (hc σ H3 F3 θ3 s2 _ b3 (PoR.bind (PoR.after J p2) ?_))
   rintro ⟨q,s4⟩ H4 F4 θ4 _ ab p4 b4 w' r4
   exact hg σ H4 F4 θ4 s4 y q w w' Q b4 ((r2.mono J.ff J.pre).mono ab.ff ab.pre) r4 p4
def orD:Op2:=intD λi j=>.ok (.int (Builtin.bitOr i j))
theorem AH:gQ C (rI0 λi j=>.int (Builtin.bitOr i j)) orD:=tW λ_ _ _ _ _ _=>bz.mpr rfl
def uG(n:Nat)(f:FM)(ma:AM):EM:=λs=>(ma s).bind λx=>if x.1.length=n then (match f x.1 x.2.o with
 | .ok (d,O1)=>.ok (d,⟨x.2.r,O1⟩)
 | _=>.bad) else .bad
theorem AQ{n:Nat}{f:FM}{ta:TA}{ma:AM}{E:XK}(ha:RdA C ta ma):RdE C (uV (spM C.K C.ca n f) [] E ta) (uG n f ma):=by
 intro σ H F θ s Q b p
 refine ha σ H F θ s _ b (PoR.bind p ?_)
 rintro ⟨x,s1⟩ H1 F1 θ1 _ ac p1 Y v r1
 dsimp only at p1 Y r1 ⊢
 split at p1
 ·rename_i hp
  rw[Tu]
  refine⟨F1,θ1,x,s1.o,Y.now,r1,hp, ?_⟩
  split at p1
  ·rename_i d O1 e
   rw[e]
   intro v H2 F2 θ2 J n2 rv
   exact p1 H2 F2 θ2 J ⟨n2,Y.len,λi d e=>by
    obtain⟨v,h1,h2⟩:=Y.sl i d e
    exact⟨v,h1,h2.mono J.ff J.pre⟩⟩ v rv
  ·exact R5 p1
 ·exact R5 p1
def Fp(k:Int)(ds:List D):List D:=(Sb k.toNat ds).flatten
def BM(fin:S->List D->Res (D×S))(ma:AM)(mk:EM):EM:=λs=>(ma s).bind λx=>if x.1.length<=16777216 then (mk x.2).bind λy=>match y.1 with
 | .int k=>if (-(2^63)<=k/\k<2^63)/\x.1.length*k.toNat<=16777216 then fin y.2 (Fp k x.1) else .bad
 | _=>.bad
 else .bad
def EX:S->List D->Res (D×S):=λs ds=>.ok (.lst ds,s)
def t7:S->List D->Res (D×S):=λs ds=>.ok (.ptr s.o.length,⟨s.r,s.o++[.lst ds]⟩)
theorem Bd{K ca θ F}{ds:List D}{xs:List V}(r:aG K ca θ F ds xs):∀k:Nat,aG K ca θ F (Sb k ds).flatten (Sb k xs).flatten
 | 0=>aG.nil
 | k+1=>by
  rw[Td,Td,TV,TV]
  exact r.append (Bd r k)
theorem N7 {fin:S->List D->Res (D×S)} {ta:TA} {tk:TE} {ma:AM} {mk:EM} (ha:RdA C ta ma) (hk:RdE C tk mk)
 (hf:∀σ H F θ s ds xs Q,BS C.K C.ca σ H F θ s->aG C.K C.ca θ F ds xs->PoE C σ H F θ (fin s ds) Q->∀q,H q=none->Q (.ref q) (upd H q (.lst xs))):RdE C (tOp IP (B8 ta) tk) (BM fin ma mk):=by
 intro σ H F θ s Q b p
 refine ha σ H F θ s _ b (PoR.bind p ?_)
 rintro ⟨x,s1⟩ H1 F1 θ1 _ an p1 b1 v Y
 dsimp only at p1
 split at p1
 ·rename_i hl
  refine⟨by rw[Y.length];exact hl,λq hq=> ?_⟩
  obtain⟨st,b2,sF,e⟩:=b1.newF hq (.lst v)
  refine hk σ _ _ _ s1 _ b2 (PoR.bind (PoR.after st p1) ?_)
  rintro ⟨y,s2⟩ H2 F2 θ2 _ J p2 b3 w r2
  dsimp only at p2 r2
  split at p2
  ·rename_i k _
   split at p2
   ·rename_i hk
    rw[bz.mp r2]
    refine⟨q,k,v,rfl,rfl,b3.now.fh _ _ (J.ff _ _ e),hk.1.1,hk.1.2,by rw[Y.length];exact hk.2, ?_⟩
    exact hf σ H2 F2 θ2 s2 _ _ Q b3 (Bd (((Y.mono sF ⟨[],by simp⟩).mono J.ff J.pre)) k.toNat) p2
   ·exact R5 p2
  ·exact R5 p2
 ·exact R5 p1
theorem L5{ta:TA}{tk:TE}{ma:AM}{mk:EM}(ha:RdA C ta ma)(hk:RdE C tk mk):RdE C (tOp IP (B8 ta) tk) (BM t7 ma mk):=N7 ha hk λσ H F θ s ds xs Q b r p=>ur p b r
def Py(m:EM):TM:=λs=>(m s).bind λx=>match lsD x.2.o x.1 with
 | some ds=>.ok (!ds.isEmpty,x.2)
 | none=>.bad
end
section
variable {C : Ct}
theorem aG.places{K:R4}{ca:Nat->Addr}{θ:List Addr}{F:Hp}{ds:List D}{xs:List V}(r:aG K ca θ F ds xs):∀J:List Nat,aG K ca θ F (J.filterMap (ds[·]?)) (J.filterMap (xs[·]?))
 | []=>aG.nil
 | j::J=>by
  have ih:=aG.places r J
  cases hn:ds[j]? with
  | some d=>
   obtain⟨v,Y,rv⟩:=r.get hn
   simp only[Tx,hn,Y]
   exact aG.cons rv ih
  | none=>
   have Y:xs[j]? =none:=by
    rw[Vg] at hn ⊢
    rw[r.length];exact hn
   simp only[Tx,hn,Y]
   exact ih
def Bi(fin:S->List D->Res (D×S))(me:EM)(J Y ms:OM):EM:=λs=>(me s).bind λx=>(J x.2).bind λl=>(Y l.2).bind λh=>(ms h.2).bind λt=>match lsD t.2.o x.1 with
 | some ds=>if t.1=some 0 then .bad else fin t.2 (pick ds l.1 h.1 t.1)
 | none=>.bad
theorem Of {fin:S->List D->Res (D×S)} {te:TE} {tl th ts:TO} {me:EM} {ml mh ms:OM} (he:RdE C te me) (hl:RdO C tl ml) (hh:RdO C th mh) (ht:RdO C ts ms)
 (hf:∀σ H F θ s ds xs Q,BS C.K C.ca σ H F θ s->aG C.K C.ca θ F ds xs->PoE C σ H F θ (fin s ds) Q->∀q,H q=none->Q (.ref q) (upd H q (.lst xs))):RdE C (HV C.K te tl th ts) (Bi fin me ml mh ms):=by
 intro σ H F θ s Q b p
 refine he σ H F θ s _ b (PoR.bind p ?_)
 rintro ⟨x,s1⟩ H1 F1 θ1 _ a6 p1 b1 v r1
 refine hl σ H1 F1 θ1 s1 _ b1 (PoR.bind p1 ?_)
 rintro ⟨l,s2⟩ H2 F2 θ2 _ Y p2 b2
 refine hh σ H2 F2 θ2 s2 _ b2 (PoR.bind p2 ?_)
 rintro ⟨h,s3⟩ H3 F3 θ3 _ ab p3 b3
 refine ht σ H3 F3 θ3 s3 _ b3 (PoR.bind p3 ?_)
 rintro ⟨t,s4⟩ H4 F4 θ4 _ ac J b4
 dsimp only at J ⊢
 split at J
 ·rename_i ds e
  split at J
  ·exact R5 J
  ·rename_i h0
   obtain⟨a,xs,rfl,hs,hr⟩:=fm b4 (((r1.mono Y.ff Y.pre).mono ab.ff ab.pre).mono ac.ff ac.pre) e
   refine⟨a,xs,rfl,hs,h0, ?_⟩
   have hp:aG C.K C.ca θ4 F4 (pick ds l h t) (pick xs l h t):=by
    unfold pick
    rw[hr.length]
    exact hr.places _
   exact hf σ H4 F4 θ4 s4 _ _ Q b4 hp J
 ·exact R5 J
theorem L7{te:TE}{tl th ts:TO}{me:EM}{J Y ms:OM}(he:RdE C te me)(hl:RdO C tl J)(hh:RdO C th Y)(ht:RdO C ts ms):RdE C (HV C.K te tl th ts) (Bi EX me J Y ms):=Of he hl hh ht λσ H F θ s ds xs Q b r p=>uk p b r
end
section
variable {C : Ct}
def BJ(m:EM):EM:=λs=>(m s).bind λx=>match hZ x.2.o x.1 with
 | some (k,ds)=>.ok (.lst ds,⟨x.2.r,x.2.o.set k .dead⟩)
 | none=>.ok x
theorem Eg(m:EM)(s:S):BJ m s=(m s).bind λx=>match hZ x.2.o x.1 with
 | some (k,ds)=>.ok (.lst ds,⟨x.2.r,x.2.o.set k .dead⟩)
 | none=>.ok x:=rfl
theorem K9{t:TE}{m:EM}(h:RdE C t m):RdE C t (BJ m):=by
 intro σ H F θ s Q b p
 refine h σ H F θ s _ b (PoR.bind p ?_)
 rintro ⟨x,s1⟩ H1 F1 θ1 _ am p1 J v Y
 dsimp only at p1 J Y
 split at p1
 ·rename_i k ds e
  obtain⟨rfl,e'⟩:=oJ e
  obtain⟨a,xs,rfl,hk,hF,h1,h2⟩:=lL J Y e'
  obtain⟨ab,b2,r2⟩:=J.frz hk e' hF h1 h2
  exact p1 _ _ _ ab b2 _ r2
 ·exact p1 _ _ _ .refl J _ Y
end
section
variable {C : Ct}
def slS(me:EM)(J Y:OM):EM:=λs=>(me s).bind λx=>(J x.2).bind λl=>(Y l.2).bind λh=>match x.1 with
 | .str z=>if z.length<=16777216 then .ok (.str (nL z l.1 h.1),h.2) else .bad
 | _=>.bad
theorem Gf{te:TE}{tl th:TO}{me:EM}{Y mh:OM}(he:RdE C te me)(hl:RdO C tl Y)(hh:RdO C th mh):RdE C (tSl Km te tl th) (slS me Y mh):=by
 intro σ H F θ s Q b p
 refine he σ H F θ s _ b (PoR.bind p ?_)
 rintro ⟨x,s1⟩ H1 F1 θ1 _ ap p1 b1 v r1
 refine hl σ H1 F1 θ1 s1 _ b1 (PoR.bind p1 ?_)
 rintro ⟨l,s2⟩ H2 F2 θ2 _ a0 p2 b2
 refine hh σ H2 F2 θ2 s2 _ b2 (PoR.bind p2 ?_)
 rintro ⟨h,s3⟩ H3 F3 θ3 _ a2 J b3
 dsimp only at J ⊢
 split at J
 ·rename_i z _
  split at J
  ·rename_i hz
   exact⟨z,dP.mp r1,by rw[sizeLine_eq];exact hz,J _ _ _ .refl b3 _ (dP.mpr rfl)⟩
  ·exact R5 J
 ·exact R5 J
theorem N1(me:EM)(J Y:OM)(s:S):slS me J Y s=(me s).bind λx=>(J x.2).bind λl=>(Y l.2).bind λh=>match x.1 with
 | .str z=>if z.length<=16777216 then .ok (.str (nL z l.1 h.1),h.2) else .bad
 | _=>.bad:=rfl
end
section
variable {C : Ct}
def oR:List D->Option (List Str)
 | []=>some []
 | .str z::r=>match oR r with
  | some zs=>some (z::zs)
  | none=>none
 | _=>none
theorem zF:∀{ds:List D} {zs:List Str},oR ds=some zs->ds=zs.map D.str
 | [],zs,h=>by cases h;rfl
 | d::ds,zs,h=>by
  cases d <;> first | (simp[oR] at h;done) | skip
  rename_i z
  unfold oR at h
  cases e:oR ds with
  | none=>rw[e] at h;cases h
  | some ys=>
   rw[e] at h
   cases h
   rw[zF e];rfl
theorem r8:∀zs:List Str,oR (zs.map D.str)=some zs
 | []=>rfl
 | z::zs=>by rw[Sm];unfold oR;rw[r8 zs]
def inB(O:aC)(x y:D):Option Bool:=match x with
 | .str a=>match lsD O y with
  | some ds=>match oR ds with
   | some zs=>some (zs.any (· == a))
   | none=>none
  | none=>none
 | .int a=>match lsD O y with
  | some ds=>match iQ ds with
   | some zs=>some (zs.any (· == a))
   | none=>none
  | none=>none
 | _=>none
def inD:Op2:=λO x y=>match inB O x y with
 | some b=>.ok (.bl b)
 | none=>.bad
def uq:Op2:=λO x y=>match inB O x y with
 | some b=>.ok (.bl (!b))
 | none=>.bad
theorem zf{K:R4}{ca:Nat->Addr}{θ:List Addr}{F:Hp}:∀{zs:List Str} {xs:List V},aG K ca θ F (zs.map D.str) xs->xs=zs.map V.str
 | [],xs,h=>by unfold aG at h;exact h
 | z::zs,xs,h=>by
  rw[Sm] at h
  unfold aG at h
  obtain⟨v,r,rfl,h1,h2⟩:=h
  rw[dP.mp h1,zf h2];rfl
theorem rX{K:R4}{ca:Nat->Addr}{θ:List Addr}{F:Hp}:∀{zs:List Int} {xs:List V},aG K ca θ F (zs.map D.int) xs->xs=zs.map V.int
 | [],xs,h=>by unfold aG at h;exact h
 | z::zs,xs,h=>by
  rw[Sm] at h
  unfold aG at h
  obtain⟨v,r,rfl,h1,h2⟩:=h
  rw[bz.mp h1,rX h2];rfl
theorem xh:∀{ds:List D} {zs:List Int},iQ ds=some zs->ds=zs.map D.int
 | [],zs,h=>by unfold iQ at h;cases h;rfl
 | d::ds,zs,h=>by
  cases d <;> first | (simp[iQ] at h;done) | skip
  rename_i z
  unfold iQ at h
  cases e:iQ ds with
  | none=>rw[e] at h;cases h
  | some ys=>
   rw[e] at h
   cases h
   rw[xh e];rfl
theorem D5{σ:L2.St}{H F:Hp}{θ:List Addr}{s:S}{x y:D}{v w:V}{q:Bool}(b:BS C.K C.ca σ H F θ s)(rx:Rep C.K C.ca θ F x v)(ry:Rep C.K C.ca θ F y w)(e:inB s.o x y=some q):
 ∃p xs,w=.ref p/\SqL C.K H p xs/\ow v=true/\xs.all ow=true/\inV v xs=q:=by
 unfold inB at e
 split at e
 ·rename_i a
  split at e
  ·rename_i ds e1
   split at e
   ·rename_i zs e2
    cases e
    obtain⟨p,xs,rfl,Y,J⟩:=fm b ry e1
    rw[zF e2] at J
    have hx:=zf J
    subst hx
    rw[dP.mp rx]
    refine⟨p,_,rfl,Y,rfl, ?_, ?_⟩
    ·rw[UD,TZ];intro z _;rfl
    ·unfold inV;rw[Uq];rfl
   ·cases e
  ·cases e
 ·rename_i a
  split at e
  ·rename_i ds e1
   split at e
   ·rename_i zs e2
    cases e
    obtain⟨p,xs,rfl,Y,J⟩:=fm b ry e1
    rw[xh e2] at J
    have hx:=rX J
    subst hx
    rw[bz.mp rx]
    refine⟨p,_,rfl,Y,rfl, ?_, ?_⟩
    ·rw[UD,TZ];intro z _;rfl
    ·unfold inV;rw[Uq];rfl
   ·cases e
  ·cases e
 ·cases e
theorem Ki:gQ C (rIn C.K false) inD:=by
 intro σ H F θ s x y v w Q b J Y p
 unfold inD at p
 split at p
 ·rename_i q e
  obtain⟨a,xs,rfl,h1,h2,h3,h4⟩:=D5 b J Y e
  exact⟨a,xs,rfl,.inl h1,h2,h3,dM p b (dt.mpr (by rw[if_neg (by decide),h4]))⟩
 ·exact R5 p
theorem Ju:gQ C (rIn C.K true) uq:=by
 intro σ H F θ s x y v w Q b J Y p
 unfold uq at p
 split at p
 ·rename_i q e
  obtain⟨a,xs,rfl,h1,h2,h3,h4⟩:=D5 b J Y e
  exact⟨a,xs,rfl,.inl h1,h2,h3,dM p b (dt.mpr (by rw[if_pos rfl,h4]))⟩
 ·exact R5 p
def qO(f:Str):List Str->List D->Option D
 | n::ns,d::ds=>if n=f then some d else qO f ns ds
 | _,_=>none
theorem Be{K:R4}{ca:Nat->Addr}{θ:List Addr}{F:Hp}{f:Str}:∀{ns:List Str} {ds:List D} {xs:List V} {d:D},aG K ca θ F ds xs->qO f ns ds=some d->∃v,(ns.zip xs).lookup f=some v/\Rep K ca θ F d v
 | [],_,_,_,_,e=>by simp[qO] at e
 | _::_,[],_,_,_,e=>by simp[qO] at e
 | n::ns,d::ds,xs,d',h,e=>by
  unfold aG at h
  obtain⟨v,r,rfl,h1,h2⟩:=h
  unfold qO at e
  rw[U7,Th]
  by_cases hn:n=f
  ·rw[if_pos hn] at e
   cases e
   subst hn
   exact⟨v,by simp,h1⟩
  ·rw[if_neg hn] at e
   obtain⟨u,e1,e2⟩:=Be h2 e
   refine⟨u, ?_,e2⟩
   rw[show (f == n)=false by simpa using λz=>hn z.symm]
   exact e1
def o7(c:Nat)(f:Str)(me:EM):EM:=λs=>(me s).bind λx=>match x.1 with
 | .obj J ns ds=>if J=c then (match qO f ns ds with
  | some d=>.ok (d,x.2)
  | none=>.bad) else .bad
 | _=>.bad
theorem xJ{c:Nat}{f:Str}{ta:TE}{me:EM}(hc:Cls C.K (C.ca c))(hn:fS C.K (C.ca c) f)(h:RdE C ta me):RdE C (Ob C.K ta f) (o7 c f me):=by
 intro σ H F θ s Q b p
 refine h σ H F θ s _ b (PoR.bind p ?_)
 rintro ⟨x,s1⟩ H1 F1 θ1 _ ac p1 J v Y
 dsimp only at p1 J Y
 split at p1
 ·rename_i c' ns ds _
  split at p1
  ·rename_i ab
   subst ab
   split at p1
   ·rename_i d e
    unfold Rep at Y
    obtain⟨a,dx,xs,rfl,ha,hl,hr⟩:=Y
    obtain⟨u,e1,e2⟩:=Be hr e
    exact⟨a,_,dx,_,u,rfl,J.now.fh _ _ ha,hc,hn,e1,p1 _ _ _ .refl J _ e2⟩
   ·exact R5 p1
  ·exact R5 p1
 ·exact R5 p1
theorem Ej(c:Nat)(f:Str)(me:EM)(s:S):o7 c f me s=(me s).bind λx=>match x.1 with
 | .obj J ns ds=>if J=c then (match qO f ns ds with
  | some d=>.ok (d,x.2)
  | none=>.bad) else .bad
 | _=>.bad:=rfl
theorem lookup_none{f:Str}:∀{ns:List Str} {xs:List V},f∉ns->(ns.zip xs).lookup f=none
 | [],_,_=>rfl
 | _::_,[],_=>rfl
 | n::ns,x::xs,h=>by
  rw[U7,Th,show (f == n)=false by simpa using λz=>h (by simp[z])]
  exact lookup_none λz=>h (by simp[z])
theorem BE{f:Str}{y:V}:∀{ns:List Str} {xs:List V},ns.length=xs.length->f∉ns->kq f y (ns.zip xs)=(ns++[f]).zip (xs++[y])
 | [],[],_,_=>rfl
 | n::ns,x::xs,hl,h=>by
  rw[U7]
  unfold kq
  rw[if_neg (λz=>h (by simp[z])),BE (by simpa using hl) λz=>h (by simp[z])]
  rfl
theorem BS.setI{K:R4}{ca:Nat->Addr}{σ:L2.St}{H F:Hp}{θ:List Addr}{s:S}(b:BS K ca σ H F θ s){k:Nat}{a dx:Addr}{c:Cell}{cl:Nat}{ns:List Str}(hk:θ[k]? =some a)(hc:s.o[k]? =some c)(hF:F a=none){ds:List D}{xs:List V}(hl:ns.length=xs.length)(hr:aG K ca θ F ds xs):
 Stp H F θ (upd H a (.ins (ca cl) dx (ns.zip xs))) F θ/\BS K ca σ (upd H a (.ins (ca cl) dx (ns.zip xs))) F θ ⟨s.r,s.o.set k (.ins cl ns ds)⟩:=by
 have hm:a∈θ:=SY hk
 refine⟨⟨bN.refl _,⟨[],by simp,by simp⟩,λe o J hb=> ?_,λe o J=> ?_,λe o J=>.inl J⟩,⟨⟨λe o J=> ?_,b.now.nd,by simpa using b.now.ln,λj a' c' e1 e2=> ?_⟩,b.len,b.sl⟩⟩
 ·have ne:e≠a:=λz=>hb (by rw[z];exact hm)
  rw[aV ne];exact J
 ·by_cases z:e=a
  ·subst z;exact⟨_,cU⟩
  ·exact⟨o,by rw[aV z];exact J⟩
 ·have ne:e≠a:=λz=>by rw[z,hF] at J;cases J
  rw[aV ne]
  exact b.now.fh _ _ J
 ·by_cases Y:k=j
  ·subst Y
   rw[hk] at e1;cases e1
   have:k<s.o.length:=(Sx.mp hc).1
   rw[Tb this] at e2
   cases e2
   exact⟨hF,dx,xs,cU,hl,hr⟩
  ·rw[Tg Y] at e2
   have q:=b.now.ce j a' c' e1 e2
   have ne:a'≠a:=λz=>by
    subst z
    exact Y (sx b.now.nd hk e1)
   cases c' with
   | dead=>obtain⟨o,ho⟩:=q;exact⟨o,by rw[aV ne];exact ho⟩
   | lst ds=>obtain⟨q1,ys,q2,q3⟩:=q;exact⟨q1,ys,by rw[aV ne];exact q2,q3⟩
   | ins c ns ds=>obtain⟨q1,dx,ys,q2,q3⟩:=q;exact⟨q1,dx,ys,by rw[aV ne];exact q2,q3⟩
def rQ(c:Nat)(f:Str)(mo mv:EM):SM:=λs=>(mv s).out λy=>(mo y.2).out λx=>match x.1 with
 | .ptr k=>match x.2.o[k]? with
  | some (.ins c' ns ds)=>if c'=c/\f∉ns/\ns.length<1000 then .next ⟨x.2.r,x.2.o.set k (.ins c (ns++[f]) (ds++[y.1]))⟩ else .bad
  | _=>.bad
 | _=>.bad
theorem Jx(c:Nat)(f:Str)(mo mv:EM)(s:S):rQ c f mo mv s=(mv s).out λy=>(mo y.2).out λx=>match x.1 with
 | .ptr k=>match x.2.o[k]? with
  | some (.ins c' ns ds)=>if c'=c/\f∉ns/\ns.length<1000 then .next ⟨x.2.r,x.2.o.set k (.ins c (ns++[f]) (ds++[y.1]))⟩ else .bad
  | _=>.bad
 | _=>.bad:=rfl
end
section
variable {C : Ct}
theorem yI{c:Nat}{f:Str}{ta tv:TE}{mo mv:EM}(hc:Cls C.K (C.ca c))(hn:fS C.K (C.ca c) f)(ho:RdE C ta mo)(hv:RdE C tv mv):RdS C (MB C.K ta tv f) (rQ c f mo mv):=by
 intro σ H F θ s Q b p
 unfold rQ at p
 refine hv σ H F θ s _ b (PoS.out p ?_)
 rintro ⟨y,s1⟩ H1 F1 θ1 _ a1 p1 b1 v r1
 dsimp only at p1 b1 r1
 refine ho σ H1 F1 θ1 s1 _ b1 (PoS.out p1 ?_)
 rintro ⟨x,s2⟩ H2 F2 θ2 _ J p2 b2 w r2
 dsimp only at p2 b2 r2
 split at p2
 ·rename_i k _
  split at p2
  ·rename_i c' ns ds e
   split at p2
   ·rename_i hh
    obtain⟨rfl,hf,hl⟩:=hh
    unfold Rep at r2
    obtain⟨a,rfl,hk⟩:=r2
    obtain⟨h0,dx,xs,h1,h2,h3⟩:kG C.K C.ca H2 F2 θ2 a (.ins c' ns ds):=b2.now.ce k a _ hk e
    have Y:(ns++[f]).length=(xs++[v]).length:=by simp[h2]
    obtain⟨am,b3⟩:=b2.setI (dx:=dx) (cl:=c') (ns:=ns++[f]) hk e h0 Y (h3.append (aG.one (r1.mono J.ff J.pre)))
    refine⟨a,_,dx,_,rfl,h1,hc,hn, ?_, ?_⟩
    ·rw[TN];omega
    ·rw[BE h2 hf]
     exact p2 σ _ _ _ am b3
   ·exact R5 p2
  ·exact R5 p2
 ·exact R5 p2
def uR(c n:Nat)(f:FM)(ma:AM):EM:=λs=>(ma s).bind λx=>if aP x.1=true/\x.1.length=n then (match f (.ptr 0::x.1) [.ins c [] []] with
 | .ok (.non,.ins c' ns ds::_)=>if c'=c/\aP ds=true then .ok (.obj c ns ds,x.2) else .bad
 | _=>.bad) else .bad
theorem Now.dies{K:R4}{ca:Nat->Addr}{H F:Hp}{O:aC}{c:Nat}{ns:List Str}{ds:List D}{x:Addr}{r:List Addr}(n:Now K ca H F (x::r) (.ins c ns ds::O)):
 ∃dx xs,H x=some (.ins (ca c) dx (ns.zip xs))/\ns.length=xs.length/\aG K ca (x::r) F ds xs/\F x=none/\bN F (upd F x (.ins (ca c) dx (ns.zip xs)))/\Now K ca H (upd F x (.ins (ca c) dx (ns.zip xs))) (x::r) (.dead::O):=by
 obtain⟨h0,dx,xs,h1,h2,h3⟩:kG K ca H F (x::r) x (.ins c ns ds):=n.ce 0 x _ rfl rfl
 have sF:bN F (upd F x (.ins (ca c) dx (ns.zip xs))):=λe o J=>by
  rw[aV (λz=>by rw[z,h0] at J;cases J)];exact J
 refine⟨dx,xs,h1,h2,h3,h0,sF,⟨λe o J=> ?_,n.nd,n.ln,λj Y c' e1 e2=> ?_⟩⟩
 ·by_cases z:e=x
  ·subst z;rw[cU] at J;rw[h1];exact J
  ·rw[aV z] at J;exact n.fh _ _ J
 ·cases j with
  | zero=>
   cases e1
   cases e2
   exact⟨_,h1⟩
  | succ j=>
   have q:=n.ce (j+1) Y c' e1 e2
   have ne:Y≠x:=λz=>by
    subst z
    have:=sx n.nd (show (Y::r)[0]? =some Y from rfl) e1
    omega
   cases c' with
   | dead=>exact q
   | lst ds=>obtain⟨q1,ys,q2,q3⟩:=q;exact⟨by rw[aV ne];exact q1,ys,q2,q3.mono sF ⟨[],by simp⟩⟩
   | ins c ns ds=>obtain⟨q1,dx,ys,q2,q3,q4⟩:=q;exact⟨by rw[aV ne];exact q1,dx,ys,q2,q3,q4.mono sF ⟨[],by simp⟩⟩
theorem KJ{c n:Nat}{f:FM}{ta:TA}{ma:AM}{E:XK}(ha:RdA C ta ma):RdE C (Ke (C.ca c) (spM C.K C.ca (n+1) f) [] E ta) (uR c n f ma):=by
 intro σ H F θ s Q b p
 refine ha σ H F θ s _ b (PoR.bind p ?_)
 rintro ⟨x,s1⟩ H1 F1 θ1 _ a4 p1 b1 v r1
 dsimp only at p1 b1 r1 ⊢
 split at p1
 ·rename_i hp
  split at p1
  ·rename_i c' ns ds O1 e
   split at p1
   ·rename_i hh
    obtain⟨rfl,an⟩:=hh
    intro y dx hy ap a6
    have nx:∀a u,H1 a=some u->a≠y:=λa u e z=>by rw[z,hy] at e;cases e
    have nd:∀a u,H1 a=some u->a≠dx:=λa u e z=>by rw[z,ap] at e;cases e
    have Fy:F1 y=none:=by
     cases eF:F1 y with
     | none=>rfl
     | some u=>rw[b1.now.fh y u eF] at hy;cases hy
    have up:∀a u,H1 a=some u->upd (upd H1 dx (.own y)) y (.ins (C.ca c') dx []) a=some u:=λa u e=>by
     rw[aV (nx a u e),aV (nd a u e)];exact e
    have dn:∀a,upd (upd H1 dx (.own y)) y (.ins (C.ca c') dx []) a=none->H1 a=none:=λa z=>by
     cases e:H1 a with
     | none=>rfl
     | some u=>rw[up a u e] at z;cases z
    rw[Tu]
    refine⟨F1,[y],.ptr 0::x,[.ins c' [] []],⟨λa u e=>up a u (b1.now.fh a u e),by simp,rfl,λk a cc e1 e2=> ?_⟩,aG.cons (by unfold Rep;exact⟨y,rfl,rfl⟩) (r1.pure hp.1),by simp[hp.2], ?_⟩
    ·cases k with
     | zero=>
      cases e1
      cases e2
      exact⟨Fy,dx,[],cU,rfl,aG.nil⟩
     | succ k=>simp at e1
    ·rw[e]
     intro w H2 F2 θ2 J n2 as
     refine⟨iL.mp as, ?_⟩
     obtain⟨r,rfl,hr⟩:=J.th
     obtain⟨Y,xs,g1,g2,g3,g4,sF,n3⟩:=Now.dies n2
     have az:Stp H1 F1 [] H2 (upd F2 y (.ins (C.ca c') Y (ns.zip xs))) (y::r):=by
      refine⟨J.ff.trans sF,⟨y::r,rfl,λa ha=> ?_⟩,λa o h _=> ?_,λa o h=>J.al a o (up a o h),λa o h=> ?_⟩
      ·rcases SA.mp ha with rfl | z
       ·exact hy
       ·exact dn a (hr a z)
      ·exact J.kp a o (up a o h) (by simpa using nx a o h)
      ·by_cases z:a=y
       ·subst z;exact .inr (.inl hy)
       ·rw[aV z] at h
        rcases J.nf a o h with q | q | q
        ·exact .inl q
        ·exact .inr (.inl (dn a q))
        ·exact absurd (by simpa using q) z
     obtain⟨a0,b4⟩:=b1.called az n3
     refine p1 H2 _ θ1 a0 b4 (.ref y) ?_
     unfold Rep
     exact⟨y,Y,xs,rfl,cU,g2,aG.mono (θ:=θ1) sF ⟨[],by simp⟩ (aG.pure an g3)⟩
   ·exact R5 p1
  ·exact R5 p1
 ·exact R5 p1
theorem HR{c n:Nat}{f:FM}{ma:AM}{s s':S}{args ds:List D}{ns:List Str}{O:aC}(h:ma s=.ok (args,s'))(hp:aP args=true)(J:args.length=n)(Y:f (.ptr 0::args) [.ins c [] []]=.ok (.non,.ins c ns ds::O))(hd:aP ds=true):uR c n f ma s=.ok (.obj c ns ds,s'):=by
 unfold uR
 rw[h,aj]
 dsimp only
 rw[if_pos ⟨hp,J⟩,Y]
 dsimp only
 rw[if_pos ⟨rfl,hd⟩]
def methP(c:Nat)(m:Str)(n:Nat)(f:FM)(mo:EM)(ma:AM):EM:=λs=>(mo s).bind λx=>match x.1 with
 | .obj J ns ds=>if J=c/\m∉ns/\aP ds=true then (ma x.2).bind λy=>if aP y.1=true/\y.1.length=n then (match f (x.1::y.1) [] with
  | .ok (d,_)=>if df d=true then .ok (d,y.2) else .bad
  | _=>.bad) else .bad else .bad
 | _=>.bad
theorem jF{c n:Nat}{m:Str}{f:FM}{to:TE}{ta:TA}{mo:EM}{ma:AM}{E:XK}(ho:RdE C to mo)(ha:RdA C ta ma):RdE C (EK (C.ca c) m (spM C.K C.ca (n+1) f) [] E to ta) (methP c m n f mo ma):=by
 intro σ H F θ s Q b p
 refine ho σ H F θ s _ b (PoR.bind p ?_)
 rintro ⟨x,s1⟩ H1 F1 θ1 _ a1 p1 b1 v Y
 dsimp only at p1 b1 Y ⊢
 split at p1
 ·rename_i c' ns ds _
  split at p1
  ·rename_i hh
   obtain⟨rfl,hm,ac⟩:=hh
   obtain⟨a,dx,xs,rfl,h1,h2,h3⟩:∃a dx xs,v=.ref a/\F1 a=some (.ins (C.ca c') dx (ns.zip xs))/\ns.length=xs.length/\aG C.K C.ca θ1 F1 ds xs:=by unfold Rep at Y;exact Y
   refine⟨a,dx,_,rfl,b1.now.fh _ _ h1,lookup_none hm,ha σ H1 F1 θ1 s1 _ b1 (PoR.bind p1 ?_)⟩
   rintro ⟨y,s2⟩ H2 F2 θ2 _ J p2 b2 w r2
   dsimp only at p2 b2 r2 ⊢
   split at p2
   ·rename_i hp
    rw[Tu]
    refine⟨F2,[],.obj c' ns ds::y,[],Now.nil b2.now.fh,aG.cons ((Y.mono J.ff J.pre).pure (by unfold df;exact ac)) (r2.pure hp.1),by simp[hp.2], ?_⟩
    split at p2
    ·rename_i d O1 e
     rw[e]
     intro v H3 F3 θ3 an n3 rv
     obtain⟨ap,b4⟩:=b2.called an n3
     split at p2
     ·rename_i hd
      exact p2 H3 F3 _ ap b4 v (rv.pure hd)
     ·exact R5 p2
    ·exact R5 p2
   ·exact R5 p2
  ·exact R5 p1
 ·exact R5 p1
theorem sv{c n:Nat}{m:Str}{f:FM}{mo:EM}{ma:AM}{s s1 s2:S}{ns:List Str}{ds args:List D}{d:D}{O:aC}(J:mo s=.ok (.obj c ns ds,s1))(hm:m∉ns)(hd:aP ds=true)(ha:ma s1=.ok (args,s2))(hp:aP args=true)(Y:args.length=n)(hf:f (.obj c ns ds::args) []=.ok (d,O))(hr:df d=true):
 methP c m n f mo ma s=.ok (d,s2):=by
 unfold methP
 rw[J,aj]
 dsimp only
 rw[if_pos ⟨rfl,hm,hd⟩,ha,aj]
 dsimp only
 rw[if_pos ⟨hp,Y⟩,hf]
 dsimp only
 rw[if_pos hr]
def MethAt(P:Program)(w:World)(K:R4)(mg:Str->Option Value)(base:Heap)(ca:Nat->Addr)(J:Nat)(C:Addr)(x:Str)(ps:List Str)(f:FM):Prop:=
 ∃a fd,lM P w K mg base (CXE P w) J a fd ps (spM K ca ps.length f)/\Meth K C x a/\Binds K fd ps []
def HC(P:Program)(w:World)(K:R4)(mg:Str->Option Value)(base:Heap)(ca:Nat->Addr)(J:Nat)(C:Addr)(x:Str)(ps:List Str)(f:FM):Prop:=
 ∃a fd,lM P w K mg base (CXE P w) J a fd ps (spM K ca ps.length f)/\Mk K C a/\mg x=some (.ref C)/\Binds K fd ps []
end
section
variable {K : R4} {ca : Nat → Addr} {θ : List Addr} {F G : Hp}
end
open Classical in
noncomputable def Q5 (F H:Hp)(θ:List Addr):Hp:=λa=>if a∈θ then (match H a with
 | some (.lst xs)=>some (.lst xs)
 | _=>F a) else F a
section
variable {C : Ct}
def qJ:List D->aC->Option (List D×aC)
 | [],O=>some ([],O)
 | .ptr k::ds,O=>match O[k]? with
  | some (.lst es)=>match qJ ds (O.set k .dead) with
   | some (rs,O1)=>some (.lst es::rs,O1)
   | none=>none
  | _=>none
 | d::ds,O=>match qJ ds O with
  | some (rs,O1)=>some (d::rs,O1)
  | none=>none
theorem v8{σ:L2.St}{H:Hp}{θ:List Addr}{r:List (Option D)}:∀{ds J:List D} {O Y:aC} {F:Hp} {xs:List V},BS C.K C.ca σ H F θ ⟨r,O⟩->aG C.K C.ca θ F ds xs->qJ ds O=some (J,Y)->
 ∃F1,Stp H F θ H F1 θ/\BS C.K C.ca σ H F1 θ ⟨r,Y⟩/\aG C.K C.ca θ F1 J xs
 | [],J,O,Y,F,xs,b,hr,e=>by
  cases e
  exact⟨F,.refl,b,hr⟩
 | d::ds,J,O,Y,F,xs,b,hr,e=>by
  have a1:=hr
  unfold aG at hr
  obtain⟨v,q,rfl,h1,h2⟩:=hr
  have ab:(match qJ ds O with
   | some (J,Y)=>some (d::J,Y)
   | none=>none)=some (J,Y)->∃F1,Stp H F θ H F1 θ/\BS C.K C.ca σ H F1 θ ⟨r,Y⟩/\aG C.K C.ca θ F1 J (v::q):=λe=>by
   split at e
   ·rename_i am an e'
    cases e
    obtain⟨F1,st,b1,r1⟩:=v8 b h2 e'
    exact⟨F1,st,b1,aG.cons (h1.mono st.ff st.pre) r1⟩
   ·cases e
  cases d with
  | ptr k=>
   unfold qJ at e
   split at e
   ·rename_i es ek
    split at e
    ·rename_i am an e'
     cases e
     obtain⟨a,ys,rfl,hk,hF,g1,g2⟩:=lL b h1 ek
     obtain⟨ac,b2,r2⟩:=b.frz hk ek hF g1 g2
     obtain⟨F1,st,b1,r1⟩:=v8 b2 (h2.mono ac.ff ac.pre) e'
     exact⟨F1,ac.trans st,b1,aG.cons (r2.mono st.ff st.pre) r1⟩
    ·cases e
   ·cases e
  | _=>exact ab e
def yz(m:EM):EM:=λs=>(m s).bind λx=>match x.1 with
 | .tup ds=>match qJ ds x.2.o with
  | some (rs,O1)=>.ok (.tup rs,⟨x.2.r,O1⟩)
  | none=>.bad
 | _=>.bad
theorem KS{t:TE}{m:EM}(h:RdE C t m):RdE C t (yz m):=by
 intro σ H F θ s Q b p
 refine h σ H F θ s _ b (PoR.bind p ?_)
 rintro ⟨x,s1⟩ H1 F1 θ1 _ ac p1 b1 v Y
 dsimp only at p1 b1 Y
 split at p1
 ·rename_i ds _
  split at p1
  ·rename_i rs O1 e
   unfold Rep at Y
   obtain⟨a,xs,rfl,hs,hr⟩:=Y
   obtain⟨F2,J,b2,r2⟩:=v8 b1 hr e
   refine p1 _ _ _ J b2 _ ?_
   unfold Rep
   exact⟨a,xs,rfl,bN.seqT J.ff hs,r2⟩
  ·exact R5 p1
 ·exact R5 p1
theorem Ld{m:EM}{s s':S}{ds rs:List D}{O1:aC}(h:m s=.ok (.tup ds,s'))(J:qJ ds s'.o=some (rs,O1)):yz m s=.ok (.tup rs,⟨s'.r,O1⟩):=by
 unfold yz
 rw[h,aj]
 dsimp only
 rw[J]
end
def clsAt(K:R4)(x:Str):Addr:=match Se K mainGlobals x with
 | some (some (.ref C))=>C
 | _=>0
section
variable {C : Ct}
def pB:OpN:=λ_ xs=>match xs with
 | [.int i,.int j]=>.ok (.int (if j>i then j else i))
 | _=>.bad
theorem uW:kK C (λxs H Q=>∃i j,xs=[.int i,.int j]/\Q (.int (if j>i then j else i)) H) pB:=by
 intro σ H F θ s xs vs Q b r p
 unfold pB at p
 split at p
 ·rename_i i j
  exact⟨i,j,E5 r,dM p b (bz.mpr rfl)⟩
 ·exact R5 p
end
section
variable {C : Ct} {Es : L2.St → XK}
end
theorem aZ{P:Program}{w:World}{X:Cx}:Passes (CXE P w) X E0:=λ_ _ _ _ _ _ _ ⟨_,_,_,_,_,_,_,_,_,z⟩=>z.elim
section
variable {C : Ct}
def A6(ma mb:EM):EM:=λs=>(ma s).bind λx=>(mb x.2).bind λy=>match lsD y.2.o x.1,lsD y.2.o y.1 with
 | some a,some b=>if a.length+b.length<=16777216 then .ok (.ptr y.2.o.length,⟨y.2.r,y.2.o++[.lst (a++b)]⟩) else .bad
 | _,_=>.bad
theorem KG{ta tb:TE}{ma mb:EM}(ha:RdE C ta ma)(hb:RdE C tb mb):RdE C (tOp (Am C.K) ta tb) (A6 ma mb):=by
 intro σ H F θ s Q b p
 refine ha σ H F θ s _ b (PoR.bind p ?_)
 rintro ⟨x,s1⟩ H1 F1 θ1 _ as p1 b1 v r1
 dsimp only at p1 b1 r1
 refine hb σ H1 F1 θ1 s1 _ b1 (PoR.bind p1 ?_)
 rintro ⟨y,s2⟩ H2 F2 θ2 _ J p2 Y w r2
 dsimp only at p2 Y r2
 split at p2
 ·rename_i a c e1 e2
  split at p2
  ·rename_i hl
   obtain⟨l1,xs,rfl,q1,g1⟩:=fm Y (r1.mono J.ff J.pre) e1
   obtain⟨l2,ys,rfl,q2,g2⟩:=fm Y r2 e2
   exact .inr (.inr ⟨l1,l2,xs,ys,rfl,rfl,q1,q2,by rw[g1.length,g2.length];exact hl,ur p2 Y (g1.append g2)⟩)
  ·exact R5 p2
 ·exact R5 p2
end
def uT:D->Bool
 | .non=>true | .bl _=>true | .int _=>true | .str _=>true | .ptr _=>true | _=>false
def Ao:Cell->Bool
 | .dead=>true
 | .lst ds=>ds.all uT
 | _=>false
theorem AU{K:R4}{ca:Nat->Addr}{F G:Hp}{θ θ1:List Addr}{d:D}{v:V}(h:uT d=true)(r:Rep K ca θ1 F d v):Rep K ca (θ++θ1) G (shD θ.length d) v:=by
 cases d with
 | non=>unfold shD;unfold Rep at r ⊢;exact r
 | bl b=>unfold shD;unfold Rep at r ⊢;exact r
 | int i=>unfold shD;unfold Rep at r ⊢;exact r
 | str z=>unfold shD;unfold Rep at r ⊢;exact r
 | ptr k=>
  unfold shD
  unfold Rep at r ⊢
  obtain⟨a,e,hk⟩:=r
  exact⟨a,e,by rw[Sj (Vo _ _),S8];exact hk⟩
 | lst ds=>cases h
 | tup ds=>cases h
 | obj c ns ds=>cases h
 | exn c=>cases h
theorem zN{K:R4}{ca:Nat->Addr}{F G:Hp}{θ θ1:List Addr}:∀{ds:List D} {xs:List V},ds.all uT=true->aG K ca θ1 F ds xs->aG K ca (θ++θ1) G (fP θ.length ds) xs
 | [],_,_,h=>by unfold fP;unfold aG at h ⊢;exact h
 | d::ds,_,hf,h=>by
  rw[UL,To] at hf
  unfold fP
  unfold aG at h ⊢
  obtain⟨v,r,e,h1,h2⟩:=h
  exact⟨v,r,e,AU hf.1 h1,zN hf.2 h2⟩
section
variable {C : Ct}
def xA(n:Nat)(f:FM)(ma:AM):EM:=λs=>(ma s).bind λx=>if aP (bP x.2.o (bP x.2.o x.1))=true/\x.1.length=n then (match f (bP x.2.o (bP x.2.o x.1)) [] with
 | .ok (d,O1)=>if uT d=true/\O1.all Ao=true then .ok (shD x.2.o.length d,⟨x.2.r,x.2.o++O1.map (shC x.2.o.length)⟩) else .bad
 | _=>.bad) else .bad
theorem JL{n:Nat}{f:FM}{ta:TA}{ma:AM}{E:XK}(ha:RdA C ta ma):RdE C (uV (spM C.K C.ca n f) [] E ta) (xA n f ma):=by
 intro σ H F θ s Q b p
 refine ha σ H F θ s _ b (PoR.bind p ?_)
 rintro ⟨x,s1⟩ H1 F1 θ1 _ a2 p1 J v r1
 dsimp only at p1 J r1 ⊢
 split at p1
 ·rename_i hp
  rw[Tu]
  have rr:aG C.K C.ca θ1 H1 (bP s1.o (bP s1.o x)) v:=mH J.now J.now.fh (bN.refl _) (mH J.now (bN.refl _) J.now.fh r1)
  refine⟨H1,[],bP s1.o (bP s1.o x),[],Now.nil (bN.refl _),rr.pure hp.1,by rw[lQ,lQ];exact hp.2, ?_⟩
  split at p1
  ·rename_i d O1 e
   rw[e]
   intro v H2 F2 θ2 Y n2 rv
   split at p1
   ·rename_i sd
    have kp:∀a o,H1 a=some o->H2 a=some o:=λa o h=>Y.kp a o h (by simp)
    obtain⟨r,er,hr⟩:=Y.th
    rw[SE] at er
    subst er
    refine p1 H2 F1 (θ1++θ2) ⟨bN.refl _,⟨θ2,rfl,hr⟩,λa o h _=>kp a o h,Y.al,λa o h=>.inl h⟩ ⟨⟨λa o h=>kp a o (J.now.fh a o h),TW.mpr ⟨J.now.nd,n2.nd,λa ha x hx=> ?_⟩,by simp[J.now.ln,n2.ln],λk a c e1 e2=> ?_⟩,J.len,λi d e=> ?_⟩ v ?_
    ·rintro rfl
     obtain⟨u,hu⟩:=J.now.there ha
     rw[hr a hx] at hu
     cases hu
    ·by_cases hk:k<θ1.length
     ·rw[Sw hk] at e1
      dsimp only at e2
      rw[Sw (by rw[<- J.now.ln];exact hk)] at e2
      have w:=J.now.ce k a c e1 e2
      cases c with
      | dead=>obtain⟨o,ho⟩:=w;exact⟨o,kp a o ho⟩
      | lst ds=>obtain⟨q1,ys,q2,q3⟩:=w;exact⟨q1,ys,kp _ _ q2,q3.mono (bN.refl _) ⟨θ2,rfl⟩⟩
      | ins c ns ds=>obtain⟨q1,dx,ys,q2,q3,q4⟩:=w;exact⟨q1,dx,ys,kp _ _ q2,q3,q4.mono (bN.refl _) ⟨θ2,rfl⟩⟩
     ·rw[Sj (by omega)] at e1
      dsimp only at e2
      rw[Sj (by rw[<- J.now.ln];omega),SF,<- J.now.ln] at e2
      cases e3:O1[k-θ1.length]? with
      | none=>rw[e3] at e2;cases e2
      | some c'=>
       rw[e3] at e2
       cases e2
       have w:=n2.ce _ a c' e1 e3
       have fc:Ao c'=true:=(TZ.mp sd.2) c' (SY e3)
       have ap:F1 a=none:=by
        cases ea:F1 a with
        | none=>rfl
        | some o=>
         have h1:=J.now.fh a o ea
         have h2:=hr a (SY e1)
         rw[h2] at h1;cases h1
       cases c' with
       | dead=>exact w
       | lst ds=>obtain⟨q1,ys,q2,q3⟩:=w;exact⟨ap,ys,q2,zN fc q3⟩
       | ins c ns ds=>cases fc
    ·obtain⟨v,h1,h2⟩:=J.sl i d e
     exact⟨v,h1,h2.mono (bN.refl _) ⟨θ2,rfl⟩⟩
    ·rw[<- J.now.ln]
     exact AU sd.1 rv
   ·exact R5 p1
  ·exact R5 p1
 ·exact R5 p1
end
section
variable {C : Ct}
end
section
variable {C : Ct}
end
section
variable {C : Ct}
def oS:List D->Option (List Int)
 | []=>some []
 | .int i::r=>match oS r with
  | some l=>some (i::l)
  | none=>none
 | _=>none
theorem yZ:∀{ds:List D} {ns:List Int},oS ds=some ns->ds=ns.map D.int
 | [],ns,h=>by cases h;rfl
 | d::ds,ns,h=>by
  cases d <;> first | (simp[oS] at h;done) | skip
  rename_i i
  unfold oS at h
  split at h
  ·rename_i l e
   cases h
   rw[yZ e];rfl
  ·cases h
theorem pM:∀ns:List Int,oS (ns.map D.int)=some ns
 | []=>rfl
 | n::ns=>by
  rw[Sm]
  unfold oS
  rw[pM ns]
def oA(O:aC)(d:D):Option (List Int):=match lsD O d with
 | some ds=>oS ds
 | none=>none
theorem yU{σ:L2.St}{H F:Hp}{θ:List Addr}{s:S}{d:D}{ns:List Int}{v:V}(b:BS C.K C.ca σ H F θ s)(r:Rep C.K C.ca θ F d v)(e:oA s.o d=some ns):∃a,v=.ref a/\SqL C.K H a (ns.map V.int):=by
 unfold oA at e
 split at e
 ·rename_i ds el
  obtain⟨a,xs,rfl,J,Y⟩:=fm b r el
  rw[yZ e] at Y
  rw[rX Y] at J
  exact⟨a,rfl,J⟩
 ·cases e
def keyed(O:aC):List D->Option (List (D×List Int))
 | []=>some []
 | d::ds=>match oA O d,keyed O ds with
  | some ns,some r=>some ((d,ns)::r)
  | _,_=>none
theorem t5{σ:L2.St}{H F:Hp}{θ:List Addr}{s:S}(b:BS C.K C.ca σ H F θ s):∀{ds:List D} {Y:List (D×List Int)} {xs:List V},keyed s.o ds=some Y->aG C.K C.ca θ F ds xs->
 ∃J:List ((Addr×D)×List Int),Y=J.map (λx=>(x.1.2,x.2))/\xs=J.map (λx=>V.ref x.1.1)/\∀x∈J,SqL C.K H x.1.1 (x.2.map V.int)/\Rep C.K C.ca θ F x.1.2 (.ref x.1.1)
 | [],Y,xs,e,r=>by
  cases e
  unfold aG at r
  subst r
  exact⟨[],rfl,rfl,λx hx=>by cases hx⟩
 | d::ds,Y,xs,e,r=>by
  unfold keyed at e
  split at e
  ·rename_i ns k2 e1 e2
   cases e
   unfold aG at r
   obtain⟨v,ab,rfl,h1,h2⟩:=r
   obtain⟨a,rfl,hs⟩:=yU b h1 e1
   obtain⟨J,q1,q2,q3⟩:=t5 b e2 h2
   refine⟨((a,d),ns)::J,by rw[q1];rfl,by rw[q2];rfl,λx hx=> ?_⟩
   rcases SA.mp hx with rfl | hx
   ·exact⟨hs,h1⟩
   ·exact q3 x hx
  ·cases e
theorem D6{K:R4}{ca:Nat->Addr}{θ:List Addr}{F:Hp}:∀{J:List ((Addr×D)×List Int)},(∀x∈J,Rep K ca θ F x.1.2 (.ref x.1.1))->aG K ca θ F (J.map λx=>x.1.2) (J.map λx=>V.ref x.1.1)
 | [],_=>aG.nil
 | x::J,h=>aG.cons (h x Sr) (D6 λy hy=>h y (Sl _ hy))
def uQ(fin:S->List D->Res (D×S))(me:EM):EM:=λs=>(me s).bind λx=>match lsD x.2.o x.1 with
 | some ds=>match keyed x.2.o ds with
  | some J=>if J.length<64/\(J.map (·.2)).Nodup then fin x.2 ((eZ J).map (·.1)) else .bad
  | none=>.bad
 | none=>.bad
theorem Me {fin:S->List D->Res (D×S)} {te:TE} {me:EM} (he:RdE C te me)
 (hf:∀σ H F θ s ds xs Q,BS C.K C.ca σ H F θ s->aG C.K C.ca θ F ds xs->PoE C σ H F θ (fin s ds) Q->∀q,H q=none->Q (.ref q) (upd H q (.lst xs))):RdE C (tCB (vT C.K) (oH te sf)) (uQ fin me):=by
 intro σ H F θ s Q b p
 refine he σ H F θ s _ b (PoR.bind p ?_)
 rintro ⟨x,s1⟩ H1 F1 θ1 _ ap p1 J v Y
 dsimp only at p1 J Y
 split at p1
 ·rename_i ds el
  split at p1
  ·rename_i kd ek
   split at p1
   ·rename_i hc
    obtain⟨a,xs,rfl,hs,hr⟩:=fm J Y el
    obtain⟨l3,rfl,rfl,q3⟩:=t5 J ek hr
    have n1:∀l:List ((Addr×D)×List Int),eZ (l.map λx=>(x.1.1,x.2))=(eZ l).map λx=>(x.1.1,x.2):=oY λ_=>rfl
    have n2:∀l:List ((Addr×D)×List Int),eZ (l.map λx=>(x.1.2,x.2))=(eZ l).map λx=>(x.1.2,x.2):=oY λ_=>rfl
    refine⟨a,l3.map λx=>(x.1.1,x.2),rfl,by rw[So];exact hs,λy hy=> ?_,by have:=hc.1;rw[R9] at this ⊢;exact this,by have:=hc.2;rw[So] at this ⊢;exact this, ?_⟩
    ·obtain⟨x,hx,rfl⟩:=Su.mp hy
     exact(q3 x hx).1
    ·rw[n2,So] at p1
     rw[n1,So]
     exact hf σ H1 F1 θ1 s1 _ _ Q J (D6 λx hx=>(q3 x ((iP l3).mem_iff.mp hx)).2) p1
   ·exact R5 p1
  ·exact R5 p1
 ·exact R5 p1
theorem JV{te:TE}{me:EM}(J:RdE C te me):RdE C (tCB (vT C.K) (oH te sf)) (uQ t7 me):=Me J λσ H F θ s ds xs Q b r p=>ur p b r
end
section
variable {C : Ct}
def xQ(O:aC)(x y:D):Option Bool:=match oA O x,lsD O y with
 | some ns,some ds=>match keyed O ds with
  | some J=>some (J.any λq=>q.2 == ns)
  | none=>none
 | _,_=>none
def Bt:Op2:=λO x y=>match xQ O x y with
 | some b=>.ok (.bl b)
 | none=>.bad
def qW:Op2:=λO x y=>match xQ O x y with
 | some b=>.ok (.bl (!b))
 | none=>.bad
theorem BV{σ:L2.St}{H F:Hp}{θ:List Addr}{s:S}{x y:D}{v w:V}{q:Bool}(b:BS C.K C.ca σ H F θ s)(J:Rep C.K C.ca θ F x v)(Y:Rep C.K C.ca θ F y w)(e:xQ s.o x y=some q):
 ∃a p,∃(ns:List Int) (l:List (Addr×List Int)),v=.ref a/\w=.ref p/\SqL C.K H a (ns.map V.int)/\SqL C.K H p (l.map λq=>.ref q.1)/\(∀q∈l,SqL C.K H q.1 (q.2.map V.int))/\(l.any λq=>q.2 == ns)=q:=by
 unfold xQ at e
 split at e
 ·rename_i ns ds e1 e2
  split at e
  ·rename_i kd e3
   cases e
   obtain⟨a,rfl,ha⟩:=yU b J e1
   obtain⟨p,xs,rfl,hs,hr⟩:=fm b Y e2
   obtain⟨l3,rfl,rfl,q3⟩:=t5 b e3 hr
   refine⟨a,p,ns,l3.map λx=>(x.1.1,x.2),rfl,rfl,ha,by rw[So];exact hs,λz hz=> ?_, ?_⟩
   ·obtain⟨x,hx,rfl⟩:=Su.mp hz
    exact(q3 x hx).1
   ·rw[Uq,Uq];rfl
  ·cases e
 ·cases e
theorem MI:gQ C (FF C.K false) Bt:=by
 intro σ H F θ s x y v w Q b J Y p
 unfold Bt at p
 split at p
 ·rename_i q e
  obtain⟨a,c,ns,l,rfl,rfl,h1,h2,h3,h4⟩:=BV b J Y e
  exact⟨a,c,ns,l,rfl,rfl,h1,h2,h3,dM p b (dt.mpr (by rw[if_neg (by decide),h4]))⟩
 ·exact R5 p
theorem G5:gQ C (FF C.K true) qW:=by
 intro σ H F θ s x y v w Q b J Y p
 unfold qW at p
 split at p
 ·rename_i q e
  obtain⟨a,c,ns,l,rfl,rfl,h1,h2,h3,h4⟩:=BV b J Y e
  exact⟨a,c,ns,l,rfl,rfl,h1,h2,h3,dM p b (dt.mpr (by rw[if_pos rfl,h4]))⟩
 ·exact R5 p
end
section
variable {C : Ct}
abbrev IX:=S->Res ((List D×(aC->Prop))×S)
def IH(C:Ct)(Y:TI)(im:IX):Prop:=∀σ H F θ s R,BS C.K C.ca σ H F θ s->
 PoR C H F θ (im s) (λy H1 F1 θ1=>BS C.K C.ca σ H1 F1 θ1 y.2->∀J,tJ C J y.1.1 y.1.2 H1 F1 θ1->R J H1)->Y σ H R
theorem lsN{H F H2 F2:Hp}{θ θ2:List Addr}{J:aC}{x:D}{ds:List D}{v:V}(st:Stp H F θ H2 F2 θ2)(n:Now C.K C.ca H2 F2 θ2 J)(r:Rep C.K C.ca θ F x v)(e:lsD J x=some ds):∃a xs,v=.ref a/\SqL C.K H2 a xs/\aG C.K C.ca θ2 F2 ds xs:=by
 replace r:=r.mono st.ff st.pre
 cases x <;> first | (simp[lsD] at e;done) | skip
 ·cases e
  unfold Rep at r
  obtain⟨a,xs,rfl,Y,hr⟩:=r
  exact⟨a,xs,rfl,n.fh.seq Y,hr⟩
 ·rename_i k
  unfold Rep at r
  obtain⟨a,rfl,hk⟩:=r
  unfold lsD at e
  dsimp only at e
  split at e
  ·rename_i ac ek
   cases e
   obtain⟨_,xs,h1,h2⟩:kG C.K C.ca H2 F2 θ2 a (.lst ds):=n.ce k a _ hk ek
   exact⟨a,xs,rfl,SqL.of h1,h2⟩
  ·cases e
def AG(m:AM):IX:=λs=>(m s).bind λx=>match x.1 with
 | [a,b]=>match lsD x.2.o a,lsD x.2.o b with
  | some as,some bs=>.ok ((mK as bs,λO=>lsD O a=some as/\lsD O b=some bs),x.2)
  | _,_=>.bad
 | _=>.bad
theorem LG{a b:Addr}{x y:D}{as bs:List D}{H F:Hp}{θ:List Addr}(r1:Rep C.K C.ca θ F x (.ref a))(r2:Rep C.K C.ca θ F y (.ref b)):
 tJ C (Itz C.K a b) (mK as bs) (λO=>lsD O x=some as/\lsD O y=some bs) H F θ where
 go:=λi H2 F2 θ2 O2 hi st n ok=>by
  obtain⟨_,_,e1,e2,_⟩:=sA (Sa hi)
  obtain⟨_,xs,q,h1,k1⟩:=lsN st n r1 ok.1
  cases q
  obtain⟨_,ys,q,h2,k2⟩:=lsN st n r2 ok.2
  cases q
  obtain⟨v,q1,_⟩:=k1.get e1
  obtain⟨w,q2,_⟩:=k2.get e2
  exact⟨xs,ys,v,w,h1,h2,q1,q2⟩
 yl:=λi d σ H2 F2 θ2 s2 z H3 hd st b ok hy=>by
  obtain⟨T,v,w,hT,rfl,rfl,hv,hw⟩:=hy
  obtain⟨_,_,e1,e2,rfl⟩:=sA hd
  obtain⟨_,xs,q,h1,k1⟩:=lsN st b.now r1 ok.1
  cases q
  obtain⟨_,ys,q,h2,k2⟩:=lsN st b.now r2 ok.2
  cases q
  obtain⟨v',q1,k1⟩:=k1.get e1
  obtain⟨w',q2,k2⟩:=k2.get e2
  have:=hv xs h1
  rw[q1] at this
  cases this
  have:=hw ys h2
  rw[q2] at this
  cases this
  obtain⟨st3,b3,sF,e3⟩:=b.newF hT (.tup [v,w])
  refine⟨_,st3,b3, ?_⟩
  unfold Rep
  exact⟨T,[v,w],rfl,SqT.of e3,aG.cons (k1.mono st3.ff st3.pre) (aG.one (k2.mono st3.ff st3.pre))⟩
 st:=λi H2 F2 θ2 O2 hi st n ok=>by
  obtain⟨_,xs,q,h1,k1⟩:=lsN st n r1 ok.1
  cases q
  obtain⟨_,ys,q,h2,k2⟩:=lsN st n r2 ok.2
  cases q
  refine⟨xs,ys,h1,h2, ?_⟩
  unfold mK at hi
  rw[Tz] at hi
  rw[k1.length,k2.length]
  omega
theorem LM{ta:TA}{m:AM}(h:RdA C ta m):IH C (Ih C.K ta) (AG m):=by
 intro σ H F θ s R b p
 refine h σ H F θ s _ b (PoR.bind p ?_)
 rintro ⟨x,s1⟩ H1 F1 θ1 _ an p1 J v r1
 dsimp only at p1 J r1
 split at p1
 ·rename_i x y
  split at p1
  ·rename_i as bs e1 e2
   obtain⟨v1,v2,rfl,k1,k2⟩:=Kw r1
   obtain⟨a,xs,rfl,hs,hr⟩:=fm J k1 e1
   obtain⟨b',ys,rfl,Y,az⟩:=fm J k2 e2
   exact⟨a,b',rfl,⟨xs,hs⟩,⟨ys,Y⟩,p1 _ _ _ .refl J _ (LG k1 k2)⟩
  ·exact R5 p1
 ·exact R5 p1
noncomputable def xw (m:Nat)(caps:List Nat)(im:IX)(g:GM)(c:TM)(e:EM):S->Res (List D×S):=λs=>(im s).bind λy=>
 (eV y.1.2 g c e y.1.1 [] ⟨o3 m caps y.2.r,y.2.o⟩).bind λz=>.ok (z.1,⟨y.2.r,z.2.o⟩)
theorem GO {m:Nat} {caps:List Nat} {wi:TI} {g:TG} {tc:TT} {te:TE} {im:IX} {gm:GM} {c:TM} {e:EM} (hi:IH C wi im) (hg:RdG C g gm) (hc:RdT C tc c) (he:RdE C te e)
 {σ:L2.St} {H F:Hp} {θ:List Addr} {s:S} {Q:VK} (b:BS C.K C.ca σ H F θ s)
 (p:PoR C H F θ (xw m caps im gm c e s) λy H1 F1 θ1=>BS C.K C.ca σ H1 F1 θ1 y.2->∀q xs,H q=none->H1 q=some (.lst xs)->F1 q=none->q∉θ1->aG C.K C.ca θ1 F1 y.1 xs->Q (.ref q) H1):sL m caps wi g tc te σ H Q:=by
 refine hi σ H F θ s _ b (PoR.bind p ?_)
 rintro ⟨⟨ds,k⟩,s1⟩ H1 F1 θ1 _ b9 p1 b1 J it q hq
 dsimp only at p1 b1 it
 have cb:Stp H1 F1 θ1 (upd H1 q (.lst [])) F1 θ1:=by
  have nm:∀a u,H1 a=some u->a≠q:=λa u e z=>by rw[z,hq] at e;cases e
  exact⟨bN.refl _,⟨[],by simp,by simp⟩,λa u h _=>by rw[aV (nm a u h)];exact h,λa u h=>⟨u,by rw[aV (nm a u h)];exact h⟩,λa u h=>.inl h⟩
 have qθ:q∉θ1:=λh=>by obtain⟨u,hu⟩:=b1.now.there h;rw[hq] at hu;cases hu
 have qF:F1 q=none:=by
  cases e:F1 q with
  | none=>rfl
  | some u=>rw[b1.now.fh q u e] at hq;cases hq
 have cc:H q=none:=by
  cases e:H q with
  | none=>rfl
  | some u=>obtain⟨u',e'⟩:=b9.al q u e;rw[hq] at e';cases e'
 have keep:∀{H2 F2 H3 F3:Hp} {θ2 θ3:List Addr} {o:HO},Stp H2 F2 θ2 H3 F3 θ3->H2 q=some o->F2 q=none->q∉θ2->H3 q=some o/\F3 q=none/\q∉θ3:=λ{H2 F2 H3 F3 θ2 θ3 o} st h1 h2 h3=>by
  refine⟨st.kp q o h1 h3, ?_, ?_⟩
  ·cases e:F3 q with
   | none=>rfl
   | some u=>
    rcases st.nf q u e with z | z | z
    ·rw[h2] at z;cases z
    ·rw[h1] at z;cases z
    ·exact absurd z h3
  ·obtain⟨r,rfl,hr⟩:=st.th
   intro hm
   rcases Sy.mp hm with z | z
   ·exact h3 z
   ·rw[hr q z] at h1;cases h1
 have bw:∀{σ':L2.St} {H2 F2:Hp} {θ2:List Addr} {s2:S} (o:HO),BS C.K C.ca σ' H2 F2 θ2 s2->F2 q=none->q∉θ2->BS C.K C.ca σ' (upd H2 q o) F2 θ2 s2:=λ{σ' H2 F2 θ2 s2} o b h1 h2=>by
  have ne:∀a,a∈θ2->a≠q:=λa h z=>h2 (z▸h)
  refine⟨⟨λa u h=> ?_,b.now.nd,b.now.ln,λj a c e1 e2=> ?_⟩,b.len,b.sl⟩
  ·have:a≠q:=λz=>by rw[z,h1] at h;cases h
   rw[aV this];exact b.now.fh a u h
  ·have hm:=ne a (SY e1)
   have w:=b.now.ce j a c e1 e2
   cases c with
   | dead=>obtain⟨u,hu⟩:=w;exact⟨u,by rw[aV hm];exact hu⟩
   | lst ds=>obtain⟨q1,ys,q2,q3⟩:=w;exact⟨q1,ys,by rw[aV hm];exact q2,q3⟩
   | ins c ns ds=>obtain⟨q1,dx,ys,q2,q3,q4⟩:=w;exact⟨q1,dx,ys,by rw[aV hm];exact q2,q3,q4⟩
 have cm:∀{H2 F2:Hp} {θ2:List Addr} (o:HO),Stp H1 F1 θ1 H2 F2 θ2->Stp H1 F1 θ1 (upd H2 q o) F2 θ2:=λ{H2 F2 θ2} o st=>by
  have nm:∀a u,H1 a=some u->a≠q:=λa u e z=>by rw[z,hq] at e;cases e
  exact⟨st.ff,st.th,λa u h1 h2=>by rw[aV (nm a u h1)];exact st.kp a u h1 h2,λa u h1=>by rw[aV (nm a u h1)];exact st.al a u h1,st.nf⟩
 refine⟨λi n Y σ' H'=>n=ds.length-i/\i<=ds.length/\∃F' θ' s' as,Stp H1 F1 θ1 H' F' θ'/\H' q=some (.lst Y)/\F' q=none/\q∉θ'/\BS C.K C.ca σ' H' F' θ' s'/\aG C.K C.ca θ' F' as Y/\
  PoR C H1 F1 θ1 ((eV (k) gm c e (ds.drop i) as s').bind λz=>.ok (z.1,(⟨s1.r,z.2.o⟩:S))) (λy H1 F1 θ1=>BS C.K C.ca σ H1 F1 θ1 y.2->∀q xs,H q=none->H1 q=some (.lst xs)->F1 q=none->q∉θ1->aG C.K C.ca θ1 F1 y.1 xs->Q (.ref q) H1),
  ⟨ds.length,by simp,S1 _,F1,θ1,⟨o3 m caps s1.r,s1.o⟩,[],cb,cU,qF,qθ,bw _ (GI b1 m caps) qF qθ,aG.nil,by simpa using p1⟩, ?_⟩
 rintro i n Y σ' H' ⟨rfl,db,F',θ',s',as,st,bm,b2,b7,bs,a4,po⟩
 by_cases lt:i<ds.length
 ·right
  rw[Tc lt,eV] at po
  split at po
  ·rename_i a5
   refine⟨it.go i H' F' θ' s'.o lt st bs.now a5.1, ?_⟩
   intro x H3 hy
   obtain⟨F3,a7,b3,rp⟩:=it.yl i ds[i] σ' H' F' θ' s' x H3 (Sa lt) st bs a5.1 hy
   obtain⟨k1,k2,k3⟩:=keep a7 bm b2 b7
   have an:=st.trans a7
   have a8:=PoR.after an po
   have w1:PoG C H3 F3 θ' (gm ds[i] s') (λσ4 H4=>tc σ4 H4 λb H4=>if b=true then
    te σ4 H4 λy H5=>H5 q=some (.lst Y)/\Y.length<sizeLine/\∃k',k'<ds.length-i/\(k'=ds.length-(i+1)/\i+1<=ds.length/\∃F' θ' s' as,Stp H1 F1 θ1 (upd H5 q (.lst (Y++[y]))) F' θ'/\(upd H5 q (.lst (Y++[y]))) q=some (.lst (Y++[y]))/\F' q=none/\q∉θ'/\BS C.K C.ca σ4 (upd H5 q (.lst (Y++[y]))) F' θ' s'/\aG C.K C.ca θ' F' as (Y++[y])/\
     PoR C H1 F1 θ1 ((eV (k) gm c e (ds.drop (i+1)) as s').bind λz=>.ok (z.1,(⟨s1.r,z.2.o⟩:S))) (λy H1 F1 θ1=>BS C.K C.ca σ H1 F1 θ1 y.2->∀q xs,H q=none->H1 q=some (.lst xs)->F1 q=none->q∉θ1->aG C.K C.ca θ1 F1 y.1 xs->Q (.ref q) H1))
    else ∃k',k'<ds.length-i/\(k'=ds.length-(i+1)/\i+1<=ds.length/\∃F' θ' s' as,Stp H1 F1 θ1 H4 F' θ'/\H4 q=some (.lst Y)/\F' q=none/\q∉θ'/\BS C.K C.ca σ4 H4 F' θ' s'/\aG C.K C.ca θ' F' as Y/\
     PoR C H1 F1 θ1 ((eV (k) gm c e (ds.drop (i+1)) as s').bind λz=>.ok (z.1,(⟨s1.r,z.2.o⟩:S))) (λy H1 F1 θ1=>BS C.K C.ca σ H1 F1 θ1 y.2->∀q xs,H q=none->H1 q=some (.lst xs)->F1 q=none->q∉θ1->aG C.K C.ca θ1 F1 y.1 xs->Q (.ref q) H1))):=by
    cases e1:gm ds[i] s' with
    | bad=>rw[e1] at a8;exact a8
    | exc a1 a2 a3=>rw[e1] at a8;exact a8
    | ok s4=>
     rw[e1] at po
     intro H4 F4 θ4 ap σ4 b4
     obtain⟨l1,l2,l3⟩:=keep ap k1 k2 k3
     refine hc σ4 H4 F4 θ4 s4 _ b4 ?_
     cases e2:c s4 with
     | bad=>rw[aj,e2] at po;exact po
     | exc a1 a2 a3=>rw[aj,e2] at po;exact PoR.after (an.trans ap) po
     | ok x5=>
      obtain⟨kk,s5⟩:=x5
      rw[aj,e2,aj] at po
      intro H5 F5 θ5 az b5
      obtain⟨m1,m2,m3⟩:=keep az l1 l2 l3
      have a6:=((a4.mono a7.ff a7.pre).mono ap.ff ap.pre).mono az.ff az.pre
      cases kk with
      | false=>
       exact tK ⟨ds.length-(i+1),by omega,rfl,by omega,F5,θ5,s5,as,an.trans (ap.trans az),m1,m2,m3,b5,a6,by simpa using po⟩
      | true=>
       refine tR (he σ4 H5 F5 θ5 s5 _ b5 ?_)
       dsimp only[if_true] at po
       cases e3:e s5 with
       | bad=>rw[e3] at po;exact po
       | exc a1 a2 a3=>rw[e3] at po;exact PoR.after (an.trans (ap.trans az)) po
       | ok x6=>
        obtain⟨y,s6⟩:=x6
        rw[e3,aj] at po
        intro H6 F6 θ6 a9 b6 w r6
        obtain⟨n1,n2,n3⟩:=keep a9 m1 m2 m3
        exact⟨n1,by rw[a4.length];exact a5.2,ds.length-(i+1),by omega,rfl,by omega,F6,θ6,s6,as++[y],cm _ (an.trans (ap.trans (az.trans a9))),cU,n2,n3,bw _ b6 n2 n3,(a6.mono a9.ff a9.pre).append (aG.one r6),po⟩
   exact hg σ' H3 F3 θ' s' ds[i] x _ b3 rp w1
  ·exact R5 po
 ·left
  rw[UK (by omega),eV] at po
  split at po
  ·rename_i a5
   refine⟨it.st i H' F' θ' s'.o (by omega) st bs.now a5,bm, ?_⟩
   refine po H' F' θ' st ⟨bs.now,b1.len,λj d e=> ?_⟩ q Y cc bm b2 b7 a4
   obtain⟨v,h1,h2⟩:=b1.sl j d e
   exact⟨v,h1,h2.mono st.ff st.pre⟩
  ·exact R5 po
noncomputable def tx (m:Nat)(caps:List Nat)(im:IX)(g:GM)(c:TM)(e:EM):EM:=λs=>(xw m caps im g c e s).bind λy=>.ok (.lst y.1,y.2)
theorem FR{m:Nat}{caps:List Nat}{wi:TI}{g:TG}{tc:TT}{te:TE}{im:IX}{gm:GM}{c:TM}{e:EM}(hi:IH C wi im)(hg:RdG C g gm)(hc:RdT C tc c)(he:RdE C te e):RdE C (sL m caps wi g tc te) (tx m caps im gm c e):=by
 intro σ H F θ s Q b p
 refine GO hi hg hc he b ?_
 unfold tx at p
 cases e1:xw m caps im gm c e s with
 | bad=>rw[e1] at p;exact p
 | exc a1 a2 a3=>rw[e1] at p;exact p
 | ok y=>
  rw[e1,aj] at p
  intro H1 F1 θ1 J Y q xs h0 h1 h2 h3 hr
  have sF:bN F1 (upd F1 q (.lst xs)):=λa u h=>by
   rw[aV (λz=>by rw[z,h2] at h;cases h)];exact h
  refine p H1 (upd F1 q (.lst xs)) θ1 ⟨J.ff.trans sF,J.th,J.kp,J.al,λa u h=> ?_⟩ ⟨⟨λa u h=> ?_,Y.now.nd,Y.now.ln,λj a c e2 e3=> ?_⟩,Y.len,λi d e2=> ?_⟩ (.ref q) ?_
  ·by_cases z:a=q
   ·subst z;exact .inr (.inl h0)
   ·rw[aV z] at h;exact J.nf a u h
  ·by_cases z:a=q
   ·subst z;rw[cU] at h;rw[h1];exact h
   ·rw[aV z] at h;exact Y.now.fh a u h
  ·have ne:a≠q:=λz=>h3 (z▸SY e2)
   have w:=Y.now.ce j a c e2 e3
   cases c with
   | dead=>exact w
   | lst ds=>obtain⟨q1,ys,q2,q3⟩:=w;exact⟨by rw[aV ne];exact q1,ys,q2,q3.mono sF ⟨[],by simp⟩⟩
   | ins c ns ds=>obtain⟨q1,dx,ys,q2,q3,q4⟩:=w;exact⟨by rw[aV ne];exact q1,dx,ys,q2,q3,q4.mono sF ⟨[],by simp⟩⟩
  ·obtain⟨v,w1,w2⟩:=Y.sl i d e2
   exact⟨v,w1,w2.mono sF ⟨[],by simp⟩⟩
  ·unfold Rep
   exact⟨q,xs,rfl,SqL.of cU,hr.mono sF ⟨[],by simp⟩⟩
end
section
variable {C : Ct}
end
end M
namespace L2
open PySem PySem.Spec PyProof.Rows
structure ON(k:Nat)(A:Around):Prop where
 dp:A.depth+3*k+5<recursionLimit
 un:A.units+16*k+200<cLine
structure Q4(P:Program)(w:World)(K:R4)(mg:Str->Option Value)(base:Heap)(CX:CXT)(k:Nat)(f:Addr)(fd:FuncData)(ps:List Str)(sp:Sp):Prop where
 len:∀vs H Q E,sp vs H Q E->vs.length=ps.length
 run:∀(A:Around) (outer:List Env) (s:Shared) (H:Hp) (args:Args) (us:List Value) (vs:List V) (Q:VK) (E:XK),ON k A->ug P w K mg base A outer s H->BindsTo s fd args (ps.zip us)->Vals vs us->sp vs H Q E->
  codeAny (model P w) A (.call (.ref f) args) (CR CX outer P w H s Q E) s
section
variable {X : Cx} {CX : CXT} {k : Nat} {f C : Addr} {fd : FuncData} {ps : List Str} {sp : Sp} {dvs : List V} {ds : List Value} {E : XK} {x m : Str} {p pos apos : Pos} {e o : Expr} {es : List Expr} {ta : TE} {t : TA}
end
section
variable {P : Program} {w : World} {K : R4} {mg : Str → Option Value} {base : Heap}
end
end L2
namespace M
open PySem PySem.Spec PyProof.Rows L2
section
variable {C : Ct}
def ER:Op2:=intD λi j=>.ok (.int (Builtin.bitAnd i j))
theorem KP:gQ C (rI0 λi j=>.int (Builtin.bitAnd i j)) ER:=tW λ_ _ _ _ _ _=>bz.mpr rfl
noncomputable def FD:Op2:=wy ye λi j=>.int (i*2^j.toNat)
theorem Nk:gQ C (rI ye λi j=>.int (i*2^j.toNat)) FD:=xo λ_ _ _ _ _ _=>bz.mpr rfl
def u6(mo me:EM):EM:=λs=>(mo s).bind λx=>match hZ x.2.o x.1 with
 | some _=>(me x.2).bind λy=>match hZ y.2.o x.1 with
  | some (k,ds)=>if ds.length<16777216 then .ok (.non,⟨y.2.r,y.2.o.set k (.lst (y.1::ds))⟩) else .bad
  | none=>.bad
 | none=>.bad
theorem LR{to te:TE}{mo me:EM}(ho:RdE C to mo)(he:RdE C te me):RdE C (tBM C.K "list" Ky to (oH (tC (.int 0)) (oH te sf))) (u6 mo me):=by
 intro σ H F θ s Q b p
 refine ho σ H F θ s _ b (PoR.bind p ?_)
 rintro ⟨x,s1⟩ H1 F1 θ1 _ a2 p1 Y v r1
 dsimp only at p1 Y r1
 split at p1
 ·rename_i kd e
  obtain⟨rfl,e'⟩:=oJ (k:=kd.1) (ds:=kd.2) e
  obtain⟨a,xs,rfl,hk,_,h1,_⟩:=lL Y r1 e'
  refine⟨.inl ⟨rfl,xs,SqL.of h1⟩,he σ H1 F1 θ1 s1 _ Y (PoR.bind p1 ?_)⟩
  rintro ⟨y,s2⟩ H2 F2 θ2 _ J p2 b2 w r2
  dsimp only at p2 b2 r2
  split at p2
  ·rename_i k ds e2
   obtain⟨ek,e2⟩:=oJ e2
   cases ek
   obtain⟨a',ys,ea,am,hF,h2,hr⟩:=lL b2 (r1.mono J.ff J.pre) e2
   cases ea
   split at p2
   ·rename_i hl
    obtain⟨an,b3⟩:=b2.setC am e2 hF (aG.cons r2 hr)
    exact⟨a,ys,w,rfl,rfl,h2,by rw[hr.length];exact hl,p2 _ _ _ an b3 _ (iL.mpr rfl)⟩
   ·exact R5 p2
  ·exact R5 p2
 ·exact R5 p1
end
theorem Nf{mo me:EM}{s s1:S}{R:List (Option D)}{O O':aC}{k:Nat}{d:D}{J ds:List D}(h1:mo s=.ok (.ptr k,s1))(c1:s1.o[k]? =some (.lst J))(h2:me s1=.ok (d,⟨R,O⟩))(Y:O[k]? =some (.lst ds))(hb:ds.length<=1000000)(hO:O.set k (.lst (d::ds))=O'):u6 mo me s=.ok (.non,⟨R,O'⟩):=by
 subst hO
 unfold u6
 rw[h1]
 show (match hZ s1.o (.ptr k) with | some _=>_ | none=>_)=_
 have e1:hZ s1.o (.ptr k)=some (k,J):=by unfold hZ;simp only[c1]
 have e2:hZ O (.ptr k)=some (k,ds):=by unfold hZ;simp only[Y]
 rw[e1]
 show (me s1).bind _=_
 rw[h2]
 show (match hZ O (.ptr k) with | some (k,ds)=>_ | none=>_)=_
 rw[e2]
 show (if ds.length<16777216 then _ else _)=_
 rw[if_pos (by omega)]
@[simp] theorem PD (ds:List D) (O:aC):okC ds none O=True:=rfl
@[simp] theorem Pu (ds:List D) (k:Nat) (O:aC):okC ds (some k) O=(O[k]? =some (.lst ds)):=rfl
theorem D7{n:Nat}{i:Int}(h:i.natAbs<2^n):Builtin.Int.intBits i<=n:=by
 unfold Builtin.Int.intBits
 split
 ·exact S1 _
 ·rename_i J
  have hp:i.natAbs≠0:=by
   intro z
   apply J
   simpa using z
  have:=(Nat.log2_lt hp).mpr h
  omega
def Sz(n:Nat)(i:Int):Prop:=i.natAbs<2^n
theorem Sz.mono{m n:Nat}{i:Int}(h:Sz m i)(J:m<=n):Sz n i:=SJ h (Uw (by decide) J)
theorem ig{m n:Nat}(hm:m<=60000000)(hn:n<=60000000){i j:Int}(h:Sz m i)(h':Sz n j):IntMulOk i j:=by
 have h1:=D7 h
 have h2:=D7 h'
 have e:Builtin.Int.intTooBig (Builtin.Int.intBits i+Builtin.Int.intBits j)=false:=by
  unfold Builtin.Int.intTooBig
  rw[bitsLine_eq]
  exact decide_eq_false (by omega)
 unfold IntMulOk
 rw[e]
 simp
theorem fj{i j:Int}(h:i.natAbs<2^64\/j.natAbs<2^64):IntMulOk i j:=by
 rcases h with h | h
 ·exact .of_left (intBits_le_64 (by omega) (by omega))
 ·exact .of_right (intBits_le_64 (by omega) (by omega))
theorem Sz.mul{m n:Nat}{i j:Int}(h:Sz m i)(h':Sz n j):Sz (m+n) (i*j):=by
 unfold Sz at *
 rw[U2,Nat.pow_add]
 exact Nat.mul_lt_mul'' h h'
theorem Sz.add{m n:Nat}{i j:Int}(h:Sz m i)(h':Sz n j):Sz (max m n+1) (i+j):=by
 unfold Sz at *
 have h1:=SJ h (Uw (by decide) (Nat.le_max_left m n))
 have h2:=SJ h' (Uw (by decide) (Nat.le_max_right m n))
 have J:(i+j).natAbs<=i.natAbs+j.natAbs:=V1 i j
 rw[Nat.pow_succ]
 omega
theorem wx{i j:Int}(h:0<j):i.fdiv j=i/j:=Int.fdiv_eq_ediv_of_nonneg i (VR h)
theorem Jz{i j:Int}(h:0<j):i.fmod j=i%j:=Int.fmod_eq_emod_of_nonneg i (VR h)
section
variable {O : aC}
@[simp] theorem nW (i j:Int):jA O (.int i) (.int j)=.ok (.int (i-j)):=rfl
@[simp] theorem bT (i j:Int):bt O (.int i) (.int j)=.ok (.int (i+j)):=rfl
@[simp] theorem PN (i j:Int):PF O (.int i) (.int j)=.ok (.int (i+j)):=rfl
@[simp] theorem ji (i j:Int):ltD O (.int i) (.int j)=.ok (.bl (decide (i<j))):=rfl
@[simp] theorem QD (i j:Int):leD O (.int i) (.int j)=.ok (.bl (decide (i<=j))):=rfl
@[simp] theorem yE (i j:Int):gtD O (.int i) (.int j)=.ok (.bl (decide (j<i))):=rfl
@[simp] theorem Qx (i j:Int):geD O (.int i) (.int j)=.ok (.bl (decide (j<=i))):=rfl
@[simp] theorem sE (i:Int):mI O (.int i)=.ok (.int (-i)):=rfl
@[simp] theorem nX (i j:Int):eqD O (.int i) (.int j)=.ok (.bl (decide (i=j))):=rfl
@[simp] theorem mW (i j:Int):neD O (.int i) (.int j)=.ok (.bl (!decide (i=j))):=rfl
@[simp] theorem Lz (i j:Str):eqD O (.str i) (.str j)=.ok (.bl (decide (i=j))):=rfl
@[simp] theorem Qz (i j:Str):neD O (.str i) (.str j)=.ok (.bl (!decide (i=j))):=rfl
@[simp] theorem QH (i j:Bool):eqD O (.bl i) (.bl j)=.ok (.bl (decide (i=j))):=rfl
@[simp] theorem QY (i j:Bool):neD O (.bl i) (.bl j)=.ok (.bl (!decide (i=j))):=rfl
theorem cO{i j:Int}(h:IntMulOk i j):cF O (.int i) (.int j)=.ok (.int (i*j)):=if_pos h
theorem oZ{i j:Int}(h:j≠0):iy O (.int i) (.int j)=.ok (.int (i.fdiv j)):=if_pos h
theorem vM{i:Int}{j:Int}(h:0<j)(h2:j<1073741824):iy O (.int i) (.int j)=.ok (.int (i/j)):=by
 rw[oZ (by omega),wx h]
theorem gc{i j:Int}(h:0<j):gM O (.int i) (.int j)=.ok (.int (i%j)):=by
 rw[<- Jz h];exact if_pos (by omega)
theorem Jr{i j:Int}(h:0<=j)(h2:j<=1000000)(J:i.natAbs<2^64):sr O (.int i) (.int j)=.ok (.int (i^j.toNat)):=if_pos ⟨h,h2,J⟩
@[simp] theorem IT (i:Int):tT O [.int i]=.ok (.int (i.natAbs:Int)):=by
 show Res.ok (D.int (if i<0 then -i else i))=_
 congr 2
 split <;> omega
@[simp] theorem d9 (ds:List D):bO O [.lst ds]=.ok (.int ds.length):=rfl
@[simp] theorem BO (ds:List D):bO O [.tup ds]=.ok (.int ds.length):=rfl
theorem Ce{x:Str}(h:x.length<=16777216):bO O [.str x]=.ok (.int x.length):=if_pos h
@[simp] theorem mO (ds:List D):ju O [.lst ds]=.ok (.lst ds):=rfl
@[simp] theorem GR (ds:List D):ju O [.tup ds]=.ok (.lst ds):=rfl
@[simp] theorem O8 (i:Int):intOf O [.int i]=.ok (.int i):=rfl
@[simp] theorem wQ (b:Bool):intOf O [.bl b]=.ok (.int (if b then 1 else 0)):=rfl
@[simp] theorem Qd (c:String) (i:Int):iX c O (.int i)=.ok (.bl (gh "int" c)):=rfl
@[simp] theorem QI (c:String) (i:Bool):iX c O (.bl i)=.ok (.bl (gh "bool" c)):=rfl
@[simp] theorem Qh (c:String) (i:Str):iX c O (.str i)=.ok (.bl (gh "str" c)):=rfl
@[simp] theorem D9 (c:String) (i:List D):iX c O (.lst i)=.ok (.bl (gh "list" c)):=rfl
@[simp] theorem EC (c:String) (i:List D):iX c O (.tup i)=.ok (.bl (gh "tuple" c)):=rfl
@[simp] theorem Qw (c:String):iX c O .non=.ok (.bl (gh "NoneType" c)):=rfl
@[simp] theorem Q0:gh "int" "int" =true:=by decide
@[simp] theorem QJ:gh "int" "bool" =false:=by decide
@[simp] theorem QU:gh "bool" "bool" =true:=by decide
@[simp] theorem Q3:gh "bool" "int" =true:=by decide
@[simp] theorem QW:gh "list" "list" =true:=by decide
@[simp] theorem sub_tt:gh "tuple" "tuple" =true:=by decide
@[simp] theorem sub_lt:gh "list" "tuple" =false:=by decide
@[simp] theorem QO:gh "tuple" "list" =false:=by decide
@[simp] theorem QF:gh "str" "int" =false:=by decide
@[simp] theorem QM:gh "NoneType" "int" =false:=by decide
theorem rH{ds:List D}{i:Int}{d:D}(h:atI ds i=some d):ixD O (.lst ds) (.int i)=.ok d:=by
 show (match lsD O (D.lst ds) with
  | some ds=>match atI ds i with
   | some d=>Res.ok d
   | none=>.bad
  | none=>.bad)=_
 rw[lE]
 dsimp only
 rw[h]
theorem iN{ds:List D}{i:Int}{d:D}(h:atI ds i=some d):ixD O (.tup ds) (.int i)=.ok d:=by
 show (
  match atI ds i with
  | some d=>Res.ok d
  | none=>.bad)=_
 rw[h]
theorem qX{α:Type}{l:List α}{i:Int}(J:0<=i)(h1:i<l.length):atI l i=some (l[i.toNat]'(by omega)):=by
 unfold atI ixN
 rw[if_pos J,if_pos h1]
 show l[i.toNat]? =_
 exact Sa _
theorem pA:∀ns:List Int,jD (ns.map D.int)=some (ns.map PyData.int)
 | []=>by simp[jD]
 | n::ns=>by simp[jD,toPy,pA ns]
theorem oM:∀ns:List Int,bP O (ns.map D.int)=ns.map D.int
 | []=>by simp[bP]
 | n::ns=>by simp[bP,res,oM ns]
theorem oB:∀ns:List Int,PyData.canLayAll0 (ns.map PyData.int)=true
 | []=>by simp[PyData.canLayAll0]
 | n::ns=>by simp[PyData.canLayAll0,PyData.canLay0,oB ns]
theorem pI:∀ns:List Int,PyData.depthAll (ns.map PyData.int)=0
 | []=>by simp[PyData.depthAll]
 | n::ns=>by simp[PyData.depthAll,PyData.depth,pI ns]
theorem shaped_ints(ns:List Int):SeqAt.shaped (.list (ns.map PyData.int))=true:=by
 simp[SeqAt.shaped,PyData.canLay0,oB,PyData.depth,pI]
theorem rY:∀ns ms:List Int,PyData.eqvAll (ns.map PyData.int) (ms.map PyData.int)=decide (ns=ms)
 | [],[]=>by simp[PyData.eqvAll]
 | [],_::_=>by simp[PyData.eqvAll]
 | _::_,[]=>by simp[PyData.eqvAll]
 | a::r,b::t=>by
  simp only[Sm,PyData.eqvAll,PyData.eqv,rY r t]
  by_cases h:a=b <;> by_cases h':r=t <;> simp[h,h']
theorem Ca(ns ms:List Int):eqB O (.lst (ns.map D.int)) (.lst (ms.map D.int))=some (decide (ns=ms)):=by
 show iu O _ _=_
 unfold iu
 simp only[res,oM,toPy,pA,Tn]
 rw[if_pos ⟨shaped_ints ns,shaped_ints ms⟩]
 simp only[PyData.eqv,rY]
@[simp] theorem PV (ns ms:List Int):eqD O (.lst (ns.map D.int)) (.lst (ms.map D.int))=.ok (.bl (decide (ns=ms))):=by unfold eqD;rw[Ca]
@[simp] theorem CB (ns ms:List Int):neD O (.lst (ns.map D.int)) (.lst (ms.map D.int))=.ok (.bl (!decide (ns=ms))):=by unfold neD;rw[Ca]
theorem t6:∀ns:List Int,aP (ns.map D.int)=true
 | []=>by simp[aP]
 | n::ns=>by simp[aP,df,t6 ns]
@[simp] theorem OS (ns:List Int):df (.lst (ns.map D.int))=true:=by simp[df,t6]
end
noncomputable def u1:SM:=aN (setM 2 (ak gM (aa 0) (aa 1))) (aN (setM 0 (aa 1)) (setM 1 (aa 2)))
theorem Jw{a b:Int}{x:Option D}{O:aC}(hb:0<b):u1 ⟨[some (.int a),some (.int b),x],O⟩=.next ⟨[some (.int b),some (.int (a%b)),some (.int (a%b))],O⟩:=by
 simp[u1,aN,setM,lN,aE,ak,aa,gc hb]
theorem zk{c:TM}(hc:∀(a b:Int) x O,0<=b->c ⟨[some (.int a),some (.int b),x],O⟩=.ok (decide (b≠0),⟨[some (.int a),some (.int b),x],O⟩)):
 ∀(n:Nat) (a b:Int) x O,0<=a->0<=b->b.natAbs<n->∃y,j4 c u1 n ⟨[some (.int a),some (.int b),x],O⟩=.next ⟨[some (.int (Te a.natAbs b.natAbs:Nat)),some (.int 0),y],O⟩
 | 0,_,_,_,_,_,_,h=>by omega
 | n+1,a,b,x,O,ha,hb,hn=>by
  rw[j4,hc a b x O hb,nu]
  by_cases h:b=0
  ·subst h
   refine⟨x, ?_⟩
   have e:((Te a.natAbs (0:Int).natAbs:Nat):Int)=a:=by
    rw[Wi,VS]
    omega
   rw[e]
   simp
  ·have hb':0<b:=by omega
   have h1:0<=a%b:=Tw a h
   have h2:a%b<b:=Tf a hb'
   obtain⟨y,e⟩:=zk hc n b (a%b) (some (.int (a%b))) O hb h1 (by omega)
   refine⟨y, ?_⟩
   simp only[h,ne_eq,not_false_eq_true,decide_true,if_true,Jw hb']
   rw[e]
   have e2:(a%b).natAbs=a.natAbs%b.natAbs:=by
    have:((a%b).natAbs:Int)=((a.natAbs%b.natAbs:Nat):Int):=by
     rw[TQ h1,Wa,TQ ha,TQ hb]
    omega
   rw[e2,<- Nat.gcd_rec' a.natAbs b.natAbs]
where Nat.gcd_rec' (m n:Nat):Te m n=Te n (m%n):=by
        rw[Vr m n,Nat.gcd_rec n m,Vr]
noncomputable def E4:SM:=aN (setM 0 (bf tT (ae (aa 0) ao))) (aN (setM 1 (bf tT (ae (aa 1) ao))) (aN (ue (λs=>u4 1 s) (bc (ak neD (aa 1) (aq (.int 0)))) u1) (cq (aa 0))))
theorem Jn(a b:Int)(O:aC):∃s,E4 ⟨[some (.int a),some (.int b),none],O⟩=.ret (.int (SW a b:Nat)) s/\s.o=O:=by
 obtain⟨y,e⟩:=zk (c:=bc (ak neD (aa 1) (aq (.int 0)))) (λa b x O h=>by simp[bc,ak,aa,aq]) (b.natAbs+1) (a.natAbs:Int) (b.natAbs:Int) none O (by omega) (by omega) (by omega)
 refine⟨⟨[some (.int (SW a b:Nat)),some (.int 0),y],O⟩, ?_,rfl⟩
 simp only[TD] at e
 simp[E4,aN,setM,lN,aE,bf,ae,ao,aa,ue,u4,e,cq,SW]
theorem dZ{n:Nat}{m:SM}{ds:List D}{O:aC}{d:D}{s:S}(h:m ⟨ds.map some++Sb (n-ds.length) none,O⟩=.ret d s):runM n m ds O=.ok (d,s.o):=by
 unfold runM;rw[h]
theorem GZ(a b:Int):runM 3 E4 [.int a,.int b] []=.ok (.int (SW a b:Nat),[]):=by
 obtain⟨s,e,J⟩:=Jn a b []
 rw[dZ (s:=s) (by exact e),J]
def dj(ns:List Int):Nat:=ns.foldl (λc n=>Te c n.natAbs) 0
theorem tm:∀(ns:List Int) (c:Nat),ns.foldl (λc n=>Te c n.natAbs) c ∣ c/\∀n∈ns,ns.foldl (λc n=>Te c n.natAbs) c ∣ n.natAbs
 | [],c=>⟨Nat.dvd_refl _,by simp⟩
 | m::ns,c=>by
  obtain⟨h1,h2⟩:=tm ns (Te c m.natAbs)
  rw[T9]
  refine⟨Wu h1 (Nat.gcd_dvd_left _ _),λn hn=> ?_⟩
  rcases SA.mp hn with rfl | hn
  ·exact Wu h1 (Nat.gcd_dvd_right _ _)
  ·exact h2 n hn
theorem A8{ns:List Int}{n:Int}(h:n∈ns):((dj ns:Nat):Int) ∣ n:=UQ.mp (by rw[TD];exact(tm ns 0).2 n h)
theorem sX(g:Nat)(J:0<g):∀(ns:List Int) (c:Nat),g ∣ c->(∀n∈ns,(g:Int) ∣ n)->
 (ns.map (· / (g:Int))).foldl (λc n=>Te c n.natAbs) (c/g)=ns.foldl (λc n=>Te c n.natAbs) c/g
 | [],c,_,_=>rfl
 | m::ns,c,hc,h=>by
  have hm:g ∣ m.natAbs:=by
   have:=UQ.mpr (h m Sr)
   rwa [TD] at this
  have e:(m/(g:Int)).natAbs=m.natAbs/g:=by
   obtain⟨k,rfl⟩:=h m Sr
   rw[Int.mul_ediv_cancel_left _ (by omega:(g:Int)≠0),U2,TD,Nat.mul_div_cancel_left _ J]
  rw[Sm,T9,T9,e,Nat.gcd_div hc hm]
  exact sX g J ns _ (Nat.dvd_gcd hc hm) λn hn=>h n (Sl _ hn)
theorem J8{ns:List Int}(h:0<dj ns):dj (ns.map (· / (dj ns:Int)))=1:=by
 have:=sX (dj ns) h ns 0 (Nat.dvd_zero _) λn hn=>A8 hn
 rw[Nat.zero_div] at this
 rw[show dj (ns.map (· / (dj ns:Int)))=(ns.map (· / (dj ns:Int))).foldl (λc n=>Te c n.natAbs) 0 from rfl,this]
 exact Nat.div_self h
section
variable {s s1 : S} {d : D}
@[simp] theorem ag {i:Nat} (h:s.r[i]? =some (some d)):aa i s=.ok (d,s):=by unfold aa;rw[h]
@[simp] theorem aD (d:D) (s:S):aq d s=.ok (d,s):=rfl
@[simp] theorem eO (f:Op2) (a b:EM) (s:S):ak f a b s=(a s).bind λx=>(b x.2).bind λy=>(f y.2.o x.1 y.1).bind λd=>.ok (d,y.2):=rfl
@[simp] theorem Oj (f:Op1) (a:EM) (s:S):unM f a s=(a s).bind λx=>(f x.2.o x.1).bind λd=>.ok (d,x.2):=rfl
@[simp] theorem ay (s:S):ao s=.ok ([],s):=rfl
@[simp] theorem bh (m:EM) (r:AM) (s:S):ae m r s=(m s).bind λx=>(r x.2).bind λy=>.ok (x.1::y.1,y.2):=rfl
@[simp] theorem g7 (f:OpN) (m:AM) (s:S):bf f m s=(m s).bind λx=>(f x.2.o x.1).bind λd=>.ok (d,x.2):=rfl
@[simp] theorem D2 (m:AM) (s:S):kC m s=(m s).bind λx=>if x.1.length<=16777216 then .ok (.tup x.1,x.2) else .bad:=rfl
@[simp] theorem LC (m:AM) (s:S):jy m s=(m s).bind λx=>if x.1.length<=16777216 then .ok (.lst x.1,x.2) else .bad:=rfl
@[simp] theorem LY (m:AM) (s:S):jG m s=(m s).bind λx=>if x.1.length<=16777216 then .ok (.ptr x.2.o.length,⟨x.2.r,x.2.o++[.lst x.1]⟩) else .bad:=rfl
@[simp] theorem g9 (m:EM) (s:S):bc m s=(m s).bind λx=>match x.1 with
 | .bl b=>.ok (b,x.2)
 | _=>.bad:=rfl
@[simp] theorem yi (a b:TM) (s:S):o8 a b s=(a s).bind λx=>if x.1 then b x.2 else .ok (false,x.2):=rfl
@[simp] theorem xk (a b:TM) (s:S):orT a b s=(a s).bind λx=>if x.1 then .ok (true,x.2) else b x.2:=rfl
@[simp] theorem xT (a:TM) (s:S):kB a s=(a s).bind λx=>.ok (!x.1,x.2):=rfl
@[simp] theorem Qq (a b:EM) (s:S):AV a b s=(a s).bind λx=>match x.1 with
 | .bl true=>b x.2
 | .bl false=>.ok (.bl false,x.2)
 | _=>.bad:=rfl
@[simp] theorem Q2 (a b:EM) (s:S):orV a b s=(a s).bind λx=>match x.1 with
 | .bl true=>.ok (.bl true,x.2)
 | .bl false=>b x.2
 | _=>.bad:=rfl
@[simp] theorem Qm (a:EM) (s:S):BX a s=(a s).bind λx=>match x.1 with
 | .bl k=>.ok (.bl (!k),x.2)
 | _=>.bad:=rfl
@[simp] theorem vc (a b:SM) (s:S):aN a b s=(a s).then b:=rfl
@[simp] theorem cj (s:S):bU s=.next s:=rfl
@[simp] theorem P2 (m:EM) (s:S):de m s=(m s).out λx=>.next x.2:=rfl
@[simp] theorem Qt (m:EM) (s:S):cq m s=(m s).out λx=>.ret x.1 x.2:=rfl
@[simp] theorem Qk (s:S):PM s=.ret .non s:=rfl
@[simp] theorem QL (c:TM) (a b:SM) (s:S):ifS c a b s=(c s).out λx=>if x.1 then a x.2 else b x.2:=rfl
@[simp] theorem QG (c:TM) (a b:EM) (s:S):ifM c a b s=(c s).bind λx=>if x.1 then a x.2 else b x.2:=rfl
@[simp] theorem J4 (i:Nat) (d:D) (s:S):aE i d s=.ok ⟨s.r.set i (some d),s.o⟩:=rfl
@[simp] theorem DU (m:EM) (g:GM) (s:S):lN m g s=((m s).bind λx=>g x.1 x.2).out λs=>.next s:=rfl
@[simp] theorem Qr (i:Nat) (f:Op2) (m:EM) (s:S):PJ i f m s=lN (ak f (aa i) m) (aE i) s:=rfl
@[simp] theorem Ii (s:S):bV s=.ok (true,s):=rfl
@[simp] theorem Ha (s:S):iO s=.ok (none,s):=rfl
@[simp] theorem Et (m:EM) (s:S):part m s=(m s).bind λx=>match x.1 with
 | .int i=>.ok (some i,x.2)
 | _=>.bad:=rfl
@[simp] theorem Hl (me:EM) (J Y:OM) (s:S):slM me J Y s=(me s).bind λx=>(J x.2).bind λl=>(Y l.2).bind λh=>match lsD h.2.o x.1 with
 | some ds=>.ok (.lst (cutD ds l.1 h.1),h.2)
 | none=>.bad:=rfl
@[simp] theorem cJ (m:EM) (s:S):listI m s=(m s).bind λx=>(itemsOf x.2.o x.1).bind λy=>.ok (y,x.2):=rfl
@[simp] theorem OE (O:aC) (ds:List D):itemsOf O (.lst ds)=.ok (ds,none):=rfl
theorem Lx(im:IM)(g:GM)(body:SM)(s:S):eC im g body s=(im s).out λy=>cx (okC y.1.1 y.1.2) g body y.1.1 y.2:=rfl
theorem wA(m:Nat)(caps:List Nat)(im:IM)(g:GM)(c:TM)(e:EM)(s:S):oy m caps im g c e s=(im s).bind λy=>
 (eV (okC y.1.1 y.1.2) g c e y.1.1 [] ⟨o3 m caps y.2.r,y.2.o⟩).bind λz=>.ok (z.1,⟨y.2.r,z.2.o⟩):=rfl
theorem p6(m:Nat)(caps:List Nat)(im:IM)(g:GM)(c:TM)(e:EM)(s:S):bR m caps im g c e s=(oy m caps im g c e s).bind λy=>.ok (.lst y.1,y.2):=rfl
theorem BL(m:Nat)(caps:List Nat)(im:IM)(g:GM)(c:TM)(e:EM)(s:S):pG m caps im g c e s=(oy m caps im g c e s).bind λy=>.ok (.ptr y.2.o.length,⟨y.2.r,y.2.o++[.lst y.1]⟩):=rfl
@[simp] theorem Ig (n:Nat) (f:FM) (m:AM) (s:S):aQ n f m s=(m s).bind λx=>if aP x.1=true/\x.1.length=n then (match f x.1 [] with
 | .ok (d,_)=>if df d=true then .ok (d,x.2) else .bad
 | _=>.bad) else .bad:=rfl
@[simp] theorem JH (n:Nat) (f:FM) (m:AM) (s:S):dY n f m s=(m s).bind λx=>if aP x.1=true/\x.1.length=n then (match f x.1 [] with
 | .ok (d,O1)=>.ok (shD x.2.o.length d,⟨x.2.r,x.2.o++O1.map (shC x.2.o.length)⟩)
 | _=>.bad) else .bad:=rfl
@[simp] theorem PU (n:Nat) (f:FM) (m:AM) (s:S):fQ n f m s=(m s).bind λx=>if aP (bP x.2.o (bP x.2.o x.1))=true/\x.1.length=n then (match f (bP x.2.o (bP x.2.o x.1)) [] with
 | .ok (d,_)=>if pC d=true then .ok (d,x.2) else .bad
 | _=>.bad) else .bad:=rfl
@[simp] theorem IA (m:EM) (s:S):An m s=(m s).bind λx=>match uO x.2.o x.1 with
 | some ds=>.ok (.ptr x.2.o.length,⟨x.2.r,x.2.o++[.lst ds]⟩)
 | none=>.bad:=rfl
@[simp] theorem L9 (m:EM) (s:S):jw m s=(m s).bind λx=>match hZ x.2.o x.1 with
 | some (k,ds)=>.ok (.lst ds,⟨x.2.r,x.2.o.set k .dead⟩)
 | none=>.bad:=rfl
@[simp] theorem LX (mo me:EM) (s:S):ip mo me s=(mo s).bind λx=>match hZ x.2.o x.1 with
 | some _=>(me x.2).bind λy=>match hZ y.2.o x.1 with
  | some (k,ds)=>if ds.length<16777216 then .ok (.non,⟨y.2.r,y.2.o.set k (.lst (ds++[y.1]))⟩) else .bad
  | none=>.bad
 | none=>.bad:=rfl
@[simp] theorem mY {O:aC} {k:Nat} {ds:List D} (h:O[k]? =some (.lst ds)):lsD O (.ptr k)=some ds:=by unfold lsD;simp only[h]
@[simp] theorem oq {O:aC} {k:Nat} {ds:List D} (h:O[k]? =some (.lst ds)):hZ O (.ptr k)=some (k,ds):=by unfold hZ;simp only[h]
@[simp] theorem HE (O:aC) (ds:List D):uO O (.lst ds)=some ds:=rfl
@[simp] theorem Pm (O:aC) (ds:List D):uO O (.tup ds)=some ds:=rfl
@[simp] theorem Ph {O:aC} {k:Nat} {ds:List D} (h:O[k]? =some (.lst ds)):uO O (.ptr k)=some ds:=by show lsD O (.ptr k)=_;exact mY h
@[simp] theorem C0 {O:aC} {k:Nat} {ds:List D} (h:O[k]? =some (.lst ds)):itemsOf O (.ptr k)=.ok (ds,some k):=by unfold itemsOf;simp only[h]
@[simp] theorem iD (n k:Nat):shD n (.ptr k)=.ptr (n+k):=by unfold shD;rfl
@[simp] theorem Fd:aP []=true:=by unfold aP;rfl
@[simp] theorem dQ (d:D) (ds:List D):aP (d::ds)=(df d&&aP ds):=by conv=>lhs;unfold aP
@[simp] theorem yT (i:Int):df (.int i)=true:=by unfold df;rfl
@[simp] theorem PK (i:Bool):df (.bl i)=true:=by unfold df;rfl
@[simp] theorem Pk (i:Str):df (.str i)=true:=by unfold df;rfl
@[simp] theorem Pf:df .non=true:=by unfold df;rfl
@[simp] theorem gW (ds:List D):df (.lst ds)=aP ds:=by conv=>lhs;unfold df
@[simp] theorem Pc (ds:List D):df (.tup ds)=aP ds:=by conv=>lhs;unfold df
@[simp] theorem Dj (ns:List Int):aP (ns.map D.int)=true:=t6 ns
@[simp] theorem Mc (O:aC) (i:Int):res O (.int i)=.int i:=by unfold res;rfl
@[simp] theorem QT (O:aC) (i:Bool):res O (.bl i)=.bl i:=by unfold res;rfl
@[simp] theorem Qj (O:aC) (i:Str):res O (.str i)=.str i:=by unfold res;rfl
@[simp] theorem Qu (O:aC):res O .non=.non:=by unfold res;rfl
@[simp] theorem gA (O:aC) (ds:List D):res O (.lst ds)=.lst (bP O ds):=by conv=>lhs;unfold res
@[simp] theorem KW (O:aC) (ds:List D):res O (.tup ds)=.tup (bP O ds):=by conv=>lhs;unfold res
@[simp] theorem lC {O:aC} {k:Nat} {ds:List D} (h:O[k]? =some (.lst ds)):res O (.ptr k)=.lst ds:=by conv=>lhs;unfold res;simp only[h]
@[simp] theorem jr (O:aC):bP O []=[]:=by unfold bP;rfl
@[simp] theorem d4 (O:aC) (d:D) (ds:List D):bP O (d::ds)=res O d::bP O ds:=by conv=>lhs;unfold bP
@[simp] theorem jt (O:aC) (ns:List Int):bP O (ns.map D.int)=ns.map D.int:=oM ns
@[simp] theorem P9 (b:Bool):pC (.bl b)=true:=rfl
@[simp] theorem Pb (b:Int):pC (.int b)=true:=rfl
@[simp] theorem Pe (b:Str):pC (.str b)=true:=rfl
@[simp] theorem Qs {O:aC} {k:Nat} {ds:List D} (h:O[k]? =some (.lst ds)) (c:String):iX c O (.ptr k)=.ok (.bl (gh "list" c)):=by
 unfold iX tyD;simp only[h]
@[simp] theorem qE (n:Nat):∀ns:List Int,fP n (ns.map D.int)=ns.map D.int
 | []=>by simp[fP]
 | m::ns=>by simp[fP,shD,qE n ns]
@[simp] theorem pS (n:Nat) (ds:List D):shC n (.lst ds)=.lst (fP n ds):=rfl
theorem DR{n:Nat}{m:SM}{ds:List D}{O:aC}{d:D}(h:∃s,m ⟨ds.map some++Sb (n-ds.length) none,O⟩=.ret d s):∃J,runM n m ds O=.ok (d,J):=by
 obtain⟨s,h⟩:=h
 exact⟨s.o,dZ h⟩
end
mutual
theorem IG{O:aC}:∀{d:D},df d=true->res O d=d
 | .non,_=>by unfold res;rfl
 | .bl _,_=>by unfold res;rfl
 | .int _,_=>by unfold res;rfl
 | .str _,_=>by unfold res;rfl
 | .lst ds,h=>by rw[gA,qw (by simpa using h)]
 | .tup ds,h=>by rw[KW,qw (by simpa using h)]
 | .ptr _,h=>by unfold df at h;cases h
 | .obj c ns ds,h=>by unfold res;rfl
 | .exn c,h=>by unfold res;rfl
theorem qw{O:aC}:∀{ds:List D},aP ds=true->bP O ds=ds
 | [],_=>jr O
 | d::ds,h=>by
  rw[dQ,To] at h
  rw[d4,IG h.1,qw h.2]
end
theorem EF{O:aC}{k:Nat}{ds:List D}(h:O[k]? =some (.lst ds))(hp:aP ds=true)(es:List D):eqB O (.ptr k) (.lst es)=eqB O (.lst ds) (.lst es):=by
 show iu O _ _=iu O _ _
 unfold iu
 simp only[lC h,gA,qw hp]
@[simp] theorem QC {O:aC} {k:Nat} {ds:List D} (h:O[k]? =some (.lst ds)) (hp:aP ds=true) (es:List D):eqD O (.ptr k) (.lst es)=eqD O (.lst ds) (.lst es):=by unfold eqD;rw[EF h hp]
@[simp] theorem Qo {O:aC} {k:Nat} {ds:List D} (h:O[k]? =some (.lst ds)) (hp:aP ds=true) (es:List D):neD O (.ptr k) (.lst es)=neD O (.lst ds) (.lst es):=by unfold neD;rw[EF h hp]
theorem Gj{ms:List Int}{n:Nat}:cutD (ms.map D.int) none (some (n:Int))=(ms.take n).map D.int:=by
 unfold cutD
 rw[HT.Cu,HT.DV,U3,VT,R9,<- Wv]
 congr 1
 by_cases h:n<=ms.length
 ·rw[Wj h]
 ·rw[Nat.min_eq_right (by omega),Ti (Si _),Ti (by omega)]
def rat(a b:Int):Int×Int:=(a.fdiv (if b<0 then -(SW a b:Int) else SW a b),b.fdiv (if b<0 then -(SW a b:Int) else SW a b))
theorem Ic{a b:Int}(h:b≠0):∃g:Int,g≠0/\g.natAbs=SW a b/\a=g*(rat a b).1/\b=g*(rat a b).2/\0<(rat a b).2/\SW (rat a b).1 (rat a b).2=1:=by
 have Y:0<SW a b:=U4 a h
 have ha:(SW a b:Int) ∣ a:=Int.gcd_dvd_left a b
 have hb:(SW a b:Int) ∣ b:=Int.gcd_dvd_right a b
 obtain⟨x,hx⟩:=ha
 obtain⟨y,hy⟩:=hb
 have one:SW x y=1:=by
  have e:SW a b=SW a b*SW x y:=by
   have J:SW ((SW a b:Int)*x) ((SW a b:Int)*y)=SW a b*SW x y:=by rw[Int.gcd_mul_left,TD]
   rw[<- hx,<- hy] at J
   exact J
  have:SW a b*1=SW a b*SW x y:=by rw[Nat.mul_one];exact e
  exact(Nat.eq_of_mul_eq_mul_left Y this).symm
 by_cases hn:b<0
 ·have hc:(-(SW a b:Int))≠0:=by omega
  have e1:(rat a b).1= -x:=by
   unfold rat
   rw[if_pos hn]
   show a.fdiv _=_
   conv=>lhs;lhs;rw[hx,<- US]
   exact Ue _ hc
  have e2:(rat a b).2= -y:=by
   unfold rat
   rw[if_pos hn]
   show b.fdiv _=_
   conv=>lhs;lhs;rw[hy,<- US]
   exact Ue _ hc
  refine⟨-(SW a b:Int),hc,by rw[VE,TD],by rw[e1,US];exact hx,by rw[e2,US];exact hy, ?_, ?_⟩
  ·rw[e2]
   have:¬0<=y:=λz=>by
    have:=TF (show (0:Int)<=(SW a b:Int) by omega) z
    omega
   omega
  ·rw[e1,e2,Int.neg_gcd,Int.gcd_neg];exact one
 ·have hc:(SW a b:Int)≠0:=by omega
  have e1:(rat a b).1=x:=by
   unfold rat
   rw[if_neg hn]
   show a.fdiv _=_
   conv=>lhs;lhs;rw[hx]
   exact Ue _ hc
  have e2:(rat a b).2=y:=by
   unfold rat
   rw[if_neg hn]
   show b.fdiv _=_
   conv=>lhs;lhs;rw[hy]
   exact Ue _ hc
  refine⟨(SW a b:Int),hc,by rw[TD],by rw[e1];exact hx,by rw[e2];exact hy, ?_, ?_⟩
  ·rw[e2]
   have ab:0<b:=by omega
   have:¬y<=0:=λz=>by
    have:=UH (show (0:Int)<=(SW a b:Int) by omega) z
    omega
   omega
  ·rw[e1,e2];exact one
theorem eN{ok:aC->Prop}{g:GM}{body:SM}(P:List D->S->Prop)(Y:∀pre s,P pre s->ok s.o):∀(ds pre:List D),
 (∀J d rest,pre++ds=J++d::rest->∀s,P J s->∃s1 s2,g d s=.ok s1/\(body s1=.next s2\/body s1=.cnt s2)/\P (J++[d]) s2)->∀s,P pre s->∃s',cx ok g body ds s=.next s'/\P (pre++ds) s'
 | [],pre,_,s,h=>⟨s,by rw[cx,if_pos (Y _ _ h)],by simpa using h⟩
 | d::ds,pre,step,s,h=>by
  obtain⟨s1,s2,e1,e2,h2⟩:=step pre d ds rfl s h
  obtain⟨s',e3,h3⟩:=eN P Y ds (pre++[d]) (λJ d' rest e=>step J d' rest (by simpa using e)) s2 h2
  refine⟨s', ?_,by simpa using h3⟩
  rw[cx,if_pos (Y _ _ h),e1,nu]
  rcases e2 with e2 | e2 <;> (rw[e2];exact e3)
theorem dh{im:IM}{g:GM}{body:SM}{s s1:S}{ds:List D}{k:Option Nat}(h:im s=.ok ((ds,k),s1)):eC im g body s=cx (okC ds k) g body ds s1:=by rw[Lx,h,nu]
theorem dW{m:AM}{s s1:S}{n:Nat}(h:m s=.ok ([.int (n:Int)],s1))(hn:n<=1000000):du m s=.ok ((dw 0 (n:Int),none),s1):=by
 show (m s).bind _=_
 rw[h,aj]
 dsimp only
 rw[if_pos (by constructor <;> omega)]
section
variable {O : aC}
@[simp] theorem Q8 (d:D) (ds:List D):ixD O (.tup (d::ds)) (.int 0)=.ok d:=iN (by rw[qX (by decide) (by simp)];rfl)
@[simp] theorem Ra (d e:D) (ds:List D):ixD O (.tup (d::e::ds)) (.int 1)=.ok e:=iN (by rw[qX (by decide) (by simp;omega)];rfl)
@[simp] theorem Rb (d:D) (ds:List D):ixD O (.lst (d::ds)) (.int 0)=.ok d:=rH (by rw[qX (by decide) (by simp)];rfl)
@[simp] theorem Q7 (d e:D) (ds:List D):ixD O (.lst (d::e::ds)) (.int 1)=.ok e:=rH (by rw[qX (by decide) (by simp;omega)];rfl)
theorem uE(ns:List Int):SeqAt.shaped (.tuple (ns.map PyData.int))=true:=by
 simp[SeqAt.shaped,PyData.canLay0,oB,PyData.depth,pI]
theorem zx(ns ms:List Int):eqB O (.tup (ns.map D.int)) (.tup (ms.map D.int))=some (decide (ns=ms)):=by
 show iu O _ _=_
 unfold iu
 simp only[res,oM,toPy,pA,Tn]
 rw[if_pos ⟨uE ns,uE ms⟩]
 simp only[PyData.eqv,rY]
@[simp] theorem QZ (a b c d:Int):eqD O (.tup [.int a,.int b]) (.tup [.int c,.int d])=.ok (.bl (decide (a=c/\b=d))):=by
 have:=zx (O:=O) [a,b] [c,d]
 unfold eqD
 rw[show eqB O (.tup [.int a,.int b]) (.tup [.int c,.int d])=_ from this]
 simp
@[simp] theorem QP (a b c d:Int):neD O (.tup [.int a,.int b]) (.tup [.int c,.int d])=.ok (.bl (!decide (a=c/\b=d))):=by
 have:=zx (O:=O) [a,b] [c,d]
 unfold neD
 rw[show eqB O (.tup [.int a,.int b]) (.tup [.int c,.int d])=_ from this]
 simp
end
theorem Sz.sub{m n:Nat}{i j:Int}(h:Sz m i)(h':Sz n j):Sz (max m n+1) (i-j):=by
 rw[Int.sub_eq_add_neg]
 refine Sz.add h ?_
 unfold Sz at *
 rw[VE];exact h'
theorem Sz.neg{m:Nat}{i:Int}(h:Sz m i):Sz m (-i):=by
 unfold Sz at *
 rw[VE];exact h
def eH:Nat->(Nat->Int)->Int
 | 0,_=>0
 | n+1,f=>eH n f+f n
theorem fF{n:Nat}{f g:Nat->Int}(h:∀i,i<n->f i=g i):eH n f=eH n g:=by
 induction n with
 | zero=>rfl
 | succ n J=>rw[eH,eH,J λi hi=>h i (by omega),h n (by omega)]
theorem mS{n:Nat}{f:Nat->Int}(h:∀i,i<n->f i=0):eH n f=0:=by
 induction n with
 | zero=>rfl
 | succ n J=>rw[eH,J λi hi=>h i (by omega),h n (by omega)];rfl
theorem wq(n:Nat)(f g:Nat->Int):eH n (λi=>f i+g i)=eH n f+eH n g:=by
 induction n with
 | zero=>rfl
 | succ n J=>simp only[eH,J];omega
theorem jz(n:Nat)(c:Int)(f:Nat->Int):eH n (λi=>c*f i)=c*eH n f:=by
 induction n with
 | zero=>simp[eH]
 | succ n J=>simp only[eH,J,Int.mul_add]
def nth(r:List Int)(i:Nat):Int:=r.getD i 0
def nM(n:Nat)(r:List Int)(x:Nat->Int):Int:=eH n λi=>nth r i*x i
def P8(n:Nat)(R:List (List Int))(x:Nat->Int):Prop:=∀r∈R,nM n r x=0
def low(ns:List Int):List Int:=if dj ns=0 then ns else ns.map (· / (dj ns:Int))
theorem low_length(ns:List Int):(low ns).length=ns.length:=by unfold low;split <;> simp
theorem rm{f:Int->Int}(J:f 0=0)(r:List Int)(i:Nat):nth (r.map f) i=f (nth r i):=by
 unfold nth
 rw[R6,R6,SF]
 cases r[i]? with
 | none=>exact J.symm
 | some a=>rfl
theorem eP{r:List Int}{i:Nat}(h:i<r.length):nth r i∈r:=by
 unfold nth
 rw[R6,Sa h]
 exact S6 h
theorem dO{r:List Int}{i:Nat}(h:r.length<=i):nth r i=0:=by
 unfold nth
 rw[R6,Ur h]
 rfl
theorem qc(r:List Int)(i:Nat):((dj r:Nat):Int) ∣ nth r i:=by
 by_cases h:i<r.length
 ·exact A8 (eP h)
 ·rw[dO (by omega)];exact Int.dvd_zero _
def u2(r:List Int):Int:=if dj r=0 then 1 else (dj r:Int)
theorem oN(r:List Int):0<u2 r:=by unfold u2;split <;> omega
theorem oo(r:List Int)(i:Nat):nth r i=u2 r*nth (low r) i:=by
 unfold low u2
 split
 ·omega
 ·rw[rm (by simp),Int.mul_ediv_cancel' (qc r i)]
theorem CP{r:List Int}(h:dj r=0)(i:Nat):nth r i=0:=by
 have:=qc r i
 rw[h] at this
 simpa using this
theorem Ea{r:List Int}{i:Nat}(h:nth r i≠0):dj (low r)=1:=by
 have J:dj r≠0:=λe=>h (CP e i)
 unfold low
 rw[if_neg J]
 exact J8 (Nat.pos_of_ne_zero J)
def mL(one:List Int)(v:Int)(other:List Int)(w:Int):List Int:=Tq (λa b=>a*w-b*v) one other
def d0(one:List Int)(v:Int)(other:List Int)(w:Int):List Int:=low (mL one v other w)
theorem qI{one other:List Int}(h:one.length=other.length)(v w:Int):(mL one v other w).length=one.length:=by
 unfold mL;rw[Tz,<- h,Nat.min_self]
theorem BU{one other:List Int}(h:one.length=other.length)(v w:Int)(i:Nat):nth (mL one v other w) i=nth one i*w-nth other i*v:=by
 by_cases hi:i<one.length
 ·unfold mL nth
  simp only[R6,UP,Sa hi,Sa (h▸hi:i<other.length)]
  rfl
 ·rw[dO (by rw[qI h];omega),dO (r:=one) (by omega),dO (r:=other) (by omega)]
  simp
theorem Dq{one other:List Int}(h:one.length=other.length)(v w:Int):(d0 one v other w).length=one.length:=by
 unfold d0;rw[low_length,qI h]
theorem Cg{one other:List Int}(h:one.length=other.length)(v w:Int):∃g:Int,0<g/\∀i,g*nth (d0 one v other w) i=nth one i*w-nth other i*v:=by
 refine⟨u2 (mL one v other w),oN _,λi=> ?_⟩
 unfold d0
 rw[<- oo,BU h]
theorem HX{n:Nat}{a b c:List Int}{g u v:Int}(h:∀i,g*nth c i=u*nth a i+v*nth b i)(x:Nat->Int):g*nM n c x=u*nM n a x+v*nM n b x:=by
 unfold nM
 rw[<- jz,<- jz,<- jz,<- wq]
 refine fF λi _=> ?_
 have:=h i
 grind
theorem xb{n:Nat}{a c:List Int}{g:Int}(h:∀i,nth a i=g*nth c i)(x:Nat->Int):nM n a x=g*nM n c x:=by
 unfold nM
 rw[<- jz]
 refine fF λi _=> ?_
 rw[h i,Ww]
theorem Jv{n:Nat}{one other:List Int}(h:one.length=other.length)(v w:Int)(x:Nat->Int):∃g:Int,0<g/\g*nM n (d0 one v other w) x=w*nM n one x-v*nM n other x:=by
 obtain⟨g,J,e⟩:=Cg h v w
 refine⟨g,J, ?_⟩
 have:=HX (n:=n) (c:=d0 one v other w) (a:=one) (b:=other) (g:=g) (u:=w) (v:= -v) (λi=>by rw[e i];grind) x
 rw[this];grind
theorem IL(n:Nat)(r:List Int)(x:Nat->Int):nM n (low r) x=0↔nM n r x=0:=by
 rw[xb (λi=>oo r i) x]
 have:=oN r
 constructor
 ·intro h;rw[h];simp
 ·intro h
  rcases Ua.mp h with z | z
  ·omega
  ·exact z
def eD:List Int->Option Nat
 | []=>none
 | a::r=>if a≠0 then some 0 else (eD r).map (· + 1)
theorem uv:∀{l:List Int},eD l=none->∀a∈l,a=0
 | [],_,_,h=>by simp at h
 | b::r,e,a,h=>by
  unfold eD at e
  split at e
  ·cases e
  ·rename_i hb
   rcases SA.mp h with rfl | h
   ·simpa using hb
   ·exact uv (by simpa using e) a h
theorem tP:∀{l:List Int} {k:Nat},eD l=some k->k<l.length/\nth l k≠0/\∀i,i<k->nth l i=0
 | [],_,e=>by cases e
 | b::r,k,e=>by
  unfold eD at e
  split at e
  ·rename_i hb
   cases e
   exact⟨by simp,hb,λi hi=>by omega⟩
  ·rename_i hb
   cases e2:eD r with
   | none=>rw[e2] at e;cases e
   | some j=>
    rw[e2] at e
    cases e
    obtain⟨h1,h2,J⟩:=tP e2
    refine⟨by simp;omega,by simpa[nth] using h2,λi hi=> ?_⟩
    cases i with
    | zero=>simpa[nth] using hb
    | succ i=>simpa[nth] using J i (Nat.lt_of_succ_lt_succ hi)
def JW(row:List Int)(at_:Nat):List Int:=if nth row at_>0 then row else row.map (- ·)
def NW(lead:List Int)(at_:Nat)(row:List Int):List Int:=if nth row at_=0 then row else d0 row (nth row at_) lead (nth lead at_)
def G0(s:List (List Int)×List (List Int))(at_:Nat):List (List Int)×List (List Int):=
 match eD (s.1.map (nth · at_)) with
 | none=>s
 | some k=>((s.1.eraseIdx k).map (NW (JW (s.1.getD k []) at_) at_),s.2.map (NW (JW (s.1.getD k []) at_) at_)++[JW (s.1.getD k []) at_])
structure Good(n:Nat)(p:Nat×List Int):Prop where
 len:p.2.length=n
 lt:p.1<n
 pos:0<nth p.2 p.1
 zero:∀i,i<p.1->nth p.2 i=0
 one:dj p.2=1
structure Pl(n:Nat)(P:List (Nat×List Int)):Prop where
 good:∀p∈P,Good n p
 pw:P.Pairwise λp q=>p.1<q.1/\nth p.2 q.1=0
def MO(r:List Int):Prop:=∀i,nth r i≠0->dj r=1
theorem HQ(r:List Int):MO (low r):=λi h=>Ea (i:=i) λz=>by
 have:=oo r i
 rw[z] at this
 rcases Ua.mp this.symm with q | q
 ·have:=oN r;omega
 ·exact h q
section
variable {lead row : List Int} {a : Nat}
end
structure PSt(n a:Nat)(left:List (List Int))(P:List (Nat×List Int)):Prop where
 ll:∀r∈left,r.length=n
 lz:∀r∈left,∀i,i<a->nth r i=0
 lw:∀r∈left,MO r
 pl:Pl n P
 pa:∀p∈P,p.1<a
theorem vO(left:List (List Int))(a k:Nat):nth (left.map (nth · a)) k=nth (left.getD k []) a:=by
 unfold nth
 simp only[R6,SF]
 cases left[k]? with
 | none=>rfl
 | some r=>rfl
theorem getD_mem{left:List (List Int)}{k:Nat}(h:k<left.length):left.getD k []∈left:=by
 rw[R6,Sa h]
 exact S6 h
def di(n:Nat)(f g:Nat->Int):Int:=eH n λi=>f i*g i
theorem gU(n:Nat)(f g:Nat->Int):di n f g=di n g f:=fF λi _=>TR _ _
theorem Aw(n:Nat)(r:List Int)(x:Nat->Int):nM n r x=di n (nth r) x:=rfl
theorem Il{n:Nat}{a b c:Nat->Int}{g u v:Int}(h:∀i,i<n->g*c i=u*a i+v*b i)(x:Nat->Int):g*di n c x=u*di n a x+v*di n b x:=by
 unfold di
 rw[<- jz,<- jz,<- jz,<- wq]
 refine fF λi hi=> ?_
 have:=h i hi
 grind
theorem HB{n:Nat}{a b:Nat->Int}{u v:Int}(x:Nat->Int):di n x (λi=>u*a i+v*b i)=u*di n x a+v*di n x b:=by
 rw[gU n x a,gU n x b,gU,<- Il (g:=1) (c:=λi=>u*a i+v*b i) (λi _=>by omega) x]
 omega
theorem E7{n:Nat}{a b:Nat->Int}(h:∀i,i<n->a i=b i)(x:Nat->Int):di n a x=di n b x:=fF λi hi=>by rw[h i hi]
def eW(T:List Int)(R:List (List Int))(i:Nat):Int:=eH R.length λj=>nth T j*nth (R.getD j []) i
def K6(n:Nat)(R:List (List Int))(x:Nat->Int):Prop:=∃k:Int,k≠0/\∃T:List Int,T.length=R.length/\∀i,i<n->k*x i=eW T R i
theorem EU{T:List Int}{R:List (List Int)}(J:T.length=R.length)(c:Int)(r:List Int)(i:Nat):eW (T++[c]) (R++[r]) i=eW T R i+c*nth r i:=by
 unfold eW
 rw[SH,SN,eH]
 congr 1
 ·refine fF λj Y=> ?_
  simp only[nth,R6]
  rw[Sw (by omega),Sw Y]
 ·simp only[nth,R6]
  rw[Sj (by omega),Sj (by omega),J]
  simp
def iZ(n a:Nat):List Int:=(Sb n 0).set a 1
theorem jn{n a:Nat}(ha:a<n)(i:Nat):nth (iZ n a) i=if i=a then 1 else 0:=by
 unfold iZ nth
 rw[R6,List.getElem?_set]
 by_cases h:a=i
 ·subst h;simp[ha]
 ·rw[if_neg h,if_neg (λz=>h z.symm)]
  rw[SV]
  split <;> rfl
def kH(n:Nat):List (List Int):=(Sg n).map (iZ n)
def aO(a b:List Int):Int:=(Tq (· * ·) a b).sum
def Hx(J:List (List Int))(row:List Int):List (List Int):=
 match eD (J.map (aO row)) with
 | none=>J
 | some k=>(J.eraseIdx k).map λone=>d0 one (aO row one) (J.getD k []) (aO row (J.getD k []))
theorem Cp:∀(a b:List Int),aO a b=eH b.length λi=>nth a i*nth b i
 | _,[]=>by unfold aO;simp[eH]
 | [],b::r=>by
  unfold aO
  rw[mS λi _=>by unfold nth;simp]
  simp
 | a::l,b::r=>by
  have Y:=Cp l r
  unfold aO at *
  rw[List.zipWith_cons_cons,Va,Y,Ss]
  have:∀(n:Nat) (f:Nat->Int),eH (n+1) f=f 0+eH n λi=>f (i+1):=by
   intro n f
   induction n with
   | zero=>simp[eH]
   | succ n J=>rw[eH,J,eH];omega
  rw[this]
  congr 1
theorem qq{n:Nat}{a b:List Int}(hb:b.length=n):aO a b=di n (nth a) (nth b):=by rw[Cp,hb];rfl
structure SSt(n:Nat)(R lists:List (List Int)):Prop where
 len:∀l∈lists,l.length=n
 nul:∀r∈R,∀l∈lists,di n (nth r) (nth l)=0
 spn:∀x,P8 n lists x->K6 n R x
theorem Hu(n:Nat)(f:Nat->Int):eH (n+1) f=f 0+eH n λi=>f (i+1):=by
 induction n with
 | zero=>simp[eH]
 | succ n J=>rw[eH,J,eH];omega
theorem Br(a:Int)(r:List Int):dj (r.map (a * ·))=a.natAbs*dj r:=by
 unfold dj
 have:∀(l:List Int) (c:Nat),(l.map (a * ·)).foldl (λc n=>Te c n.natAbs) (a.natAbs*c)=a.natAbs*l.foldl (λc n=>Te c n.natAbs) c:=by
  intro l
  induction l with
  | nil=>intro c;rfl
  | cons b l J=>intro c;simp only[Sm,T9,U2,Nat.gcd_mul_left];exact J _
 exact this r 0
theorem ub{r s:List Int}(J:r.length=s.length)(h:∀i,i<r.length->nth r i=nth s i):r=s:=by
 refine Ud J λi h1 h2=> ?_
 have:=h i h1
 unfold nth at this
 simpa[R6,h1,h2] using this
theorem L3{r s:List Int}(Y:r.length=s.length)(h1:dj r=1)(h2:dj s=1){a b:Int}(ha:0<a)(hb:0<b)(h:∀i,i<r.length->a*nth r i=b*nth s i):r=s:=by
 have e:r.map (a * ·)=s.map (b * ·):=ub (by simp[Y]) λi hi=>by
  rw[rm (by simp),rm (by simp)];exact h i (by simpa using hi)
 have e2:=Br a r
 rw[e,Br,h1,h2] at e2
 have J:a=b:=by omega
 subst J
 exact ub Y λi hi=>UA (by omega) (h i hi)
def SzL(b:Nat)(r:List Int):Prop:=∀x∈r,Sz b x
def gP(b:Nat)(R:List (List Int)):Prop:=∀r∈R,SzL b r
theorem SzL.mono{b c:Nat}{r:List Int}(h:SzL b r)(J:b<=c):SzL c r:=λx hx=>(h x hx).mono J
theorem gP.mono{b c:Nat}{r:List (List Int)}(h:gP b r)(J:b<=c):gP c r:=λx hx=>(h x hx).mono J
theorem Sz.zero(b:Nat):Sz b 0:=by unfold Sz;simp;exact Wl b
theorem SzL.nth{b:Nat}{r:List Int}(h:SzL b r)(i:Nat):Sz b (M.nth r i):=by
 by_cases hi:i<r.length
 ·exact h _ (eP hi)
 ·rw[dO (by omega)];exact Sz.zero b
theorem SzL.low{b:Nat}{r:List Int}(h:SzL b r):SzL b (M.low r):=by
 intro x hx
 unfold M.low at hx
 split at hx
 ·exact h x hx
 ·obtain⟨y,hy,rfl⟩:=Su.mp hx
  exact Nat.lt_of_le_of_lt (Int.natAbs_ediv_le_natAbs y _) (h y hy)
theorem SzL.mix{J Y bv bw:Nat}{one other:List Int}{v w:Int}(h1:SzL J one)(h2:SzL Y other)(hv:Sz bv v)(hw:Sz bw w):SzL (max (J+bw) (Y+bv)+1) (mL one v other w):=by
 intro x hx
 unfold mL at hx
 obtain⟨i,hi,e⟩:=Tk hx
 rw[VI] at e
 subst e
 exact Sz.sub (Sz.mul (h1 _ (S6 _)) hw) (Sz.mul (h2 _ (S6 _)) hv)
theorem SzL.off{J Y bv bw:Nat}{one other:List Int}{v w:Int}(h1:SzL J one)(h2:SzL Y other)(hv:Sz bv v)(hw:Sz bw w):SzL (max (J+bw) (Y+bv)+1) (d0 one v other w):=(SzL.mix h1 h2 hv hw).low
def grow(b p:Nat):Nat:=2^p*(b+1)-1
structure PSz(n b a:Nat)(rows:List (List Int))(left done:List (List Int)):Prop where
 eq:(Sg a).foldl G0 (rows.map low,[])=(left,done)
 ll:∀r∈left,r.length=n
 dl:∀r∈done,r.length=n
 cnt:left.length+done.length=rows.length
 ls:gP (grow b done.length) left
 ds:gP (grow b done.length) done
section
variable {s s1 : S} {d : D}
@[simp] theorem Ml (m:AM) (s:S):qQ m s=(m s).bind λx=>match x.1 with
 | [.lst as,.lst bs]=>.ok ((mK as bs,none),x.2)
 | _=>.bad:=rfl
@[simp] theorem iB (m:AM) (s:S):cT m s=(m s).bind λx=>match x.1 with
 | [.lst as]=>.ok ((dD as,none),x.2)
 | _=>.bad:=rfl
@[simp] theorem Mm (m:EM) (s:S):E2 m s=(m s).bind λx=>match x.1 with
 | .str z=>.ok ((p7 z,none),x.2)
 | _=>.bad:=rfl
@[simp] theorem yW (f g:Op2) (a b c:EM) (s:S):nH f g a b c s=(a s).bind λx=>(b x.2).bind λy=>(f y.2.o x.1 y.1).bind λz=>match z with
 | .bl true=>(c y.2).bind λw=>(g w.2.o y.1 w.1).bind λd=>.ok (d,w.2)
 | .bl false=>.ok (.bl false,y.2)
 | _=>.bad:=rfl
@[simp] theorem JI (n:Nat) (f:FM) (m:AM) (s:S):uG n f m s=(m s).bind λx=>if x.1.length=n then (match f x.1 x.2.o with
 | .ok (d,O1)=>.ok (d,⟨x.2.r,O1⟩)
 | _=>.bad) else .bad:=rfl
@[simp] theorem Qg (m:EM) (s:S):Py m s=(m s).bind λx=>match lsD x.2.o x.1 with
 | some ds=>.ok (!ds.isEmpty,x.2)
 | none=>.bad:=rfl
@[simp] theorem KU (fin:S->List D->Res (D×S)) (ma:AM) (mk:EM) (s:S):BM fin ma mk s=(ma s).bind λx=>if x.1.length<=16777216 then (mk x.2).bind λy=>match y.1 with
 | .int k=>if (-(2^63)<=k/\k<2^63)/\x.1.length*k.toNat<=16777216 then fin y.2 (Fp k x.1) else .bad
 | _=>.bad
 else .bad:=rfl
@[simp] theorem Qn (s:S) (ds:List D):EX s ds=.ok (.lst ds,s):=rfl
@[simp] theorem EH (s:S) (ds:List D):t7 s ds=.ok (.ptr s.o.length,⟨s.r,s.o++[.lst ds]⟩):=rfl
@[simp] theorem Qi (O:aC):isD O .non .non=.ok (.bl true):=rfl
@[simp] theorem QA (O:aC) (i:Int):isD O (.int i) .non=.ok (.bl false):=rfl
@[simp] theorem Ql (O:aC) (i:List D):isD O (.lst i) .non=.ok (.bl false):=rfl
@[simp] theorem Qc (O:aC) (i:List D):isD O (.tup i) .non=.ok (.bl false):=rfl
@[simp] theorem O7 (O:aC):xN O .non .non=.ok (.bl false):=rfl
@[simp] theorem OH (O:aC) (i:Int):xN O (.int i) .non=.ok (.bl true):=rfl
@[simp] theorem OX (O:aC) (i:List D):xN O (.lst i) .non=.ok (.bl true):=rfl
@[simp] theorem OP (O:aC) (i:List D):xN O (.tup i) .non=.ok (.bl true):=rfl
@[simp] theorem iW (g h:GM) (a b:D) (s:S):cI (aS g (aS h cL)) 2 (.tup [a,b]) s=(g a s).bind λs1=>h b s1:=by
 show (g a s).bind (λs1=>(h b s1).bind λs2=>.ok s2)=_
 congr 1
 funext s1
 cases h b s1 <;> rfl
@[simp] theorem Di (ns:List Int):iQ (ns.map D.int)=some ns:=by
 induction ns with
 | nil=>rfl
 | cons n ns J=>rw[Sm,iQ,J];rfl
@[simp] theorem vz (ns:List Bool):kU (ns.map D.bl)=some ns:=by
 induction ns with
 | nil=>rfl
 | cons n ns J=>rw[Sm,kU,J];rfl
@[simp] theorem uh (O:aC) (ns:List Int):ui O [.lst (ns.map D.int)]=.ok (.int ns.sum):=by
 show (match iQ (ns.map D.int) with
  | some ns=>Res.ok (D.int ns.sum)
  | none=>.bad)=_
 rw[Di]
@[simp] theorem rL (O:aC) (ns:List Bool):yo O [.lst (ns.map D.bl)]=.ok (.bl (ns.all id)):=by
 show (match kU (ns.map D.bl) with
  | some ns=>Res.ok (D.bl (ns.all id))
  | none=>.bad)=_
 rw[vz]
@[simp] theorem wM (O:aC) (ns:List Bool):AO O [.lst (ns.map D.bl)]=.ok (.bl (ns.any id)):=by
 show (match kU (ns.map D.bl) with
  | some ns=>Res.ok (D.bl (ns.any id))
  | none=>.bad)=_
 rw[vz]
end
theorem qK {α:Type} {ok:aC->Prop} {g:GM} {c:TM} {e:EM} {O:aC} (Y:ok O) (item:α->D) (P:S->Prop) (hP:∀s,P s->s.o=O) (l:List α) (p:α->Bool) (out:α->D)
 (step:∀a∈l,∀s,P s->∃s1 s2,g (item a) s=.ok s1/\c s1=.ok (p a,s2)/\(p a=false->P s2)/\(p a=true->∃s3,e s2=.ok (out a,s3)/\P s3)):
 ∀(J:List D) (s:S),J.length+l.length<=16777216->P s->∃s',eV ok g c e (l.map item) J s=.ok (J++(l.filter p).map out,s')/\P s':=by
 induction l with
 | nil=>
  intro J s _ h
  exact⟨s,by rw[S5,eV,if_pos (by rw[hP s h];exact Y)];simp,h⟩
 | cons a l ih=>
  intro J s hl h
  rw[Ss] at hl
  obtain⟨s1,s2,e1,e2,h2,h3⟩:=step a Sr s h
  rw[Sm,eV,if_pos ⟨by rw[hP s h];exact Y,by omega⟩,e1,aj,e2,aj]
  cases hp:p a with
  | false=>
   obtain⟨s',e3,h4⟩:=ih (λb hb=>step b (Sl _ hb)) J s2 (by omega) (h2 hp)
   refine⟨s', ?_,h4⟩
   rw[S9 (by simp[hp])]
   simpa using e3
  | true=>
   obtain⟨s3,e3,h4⟩:=h3 hp
   obtain⟨s',e5,h5⟩:=ih (λb hb=>step b (Sl _ hb)) (J++[out a]) s3 (by rw[SH,SN];omega) h4
   refine⟨s', ?_,h5⟩
   rw[S2 hp]
   simp only[if_true,e3,aj,e5]
   simp
section
variable {α : Type} {caps : List Nat} {im : IM} {c : TM} {e : EM} {s : S} {k : Option Nat} {l : List α} {item out : α → D} {p : α → Bool}
theorem CC (J:im s=.ok ((l.map item,k),s)) (Y:okC (l.map item) k s.o) (hl:l.length<=16777216)
 (hc:∀a∈l,c ⟨some (item a)::caps.map (λi=>(s.r[i]?).getD none),s.o⟩=.ok (p a,⟨some (item a)::caps.map (λi=>(s.r[i]?).getD none),s.o⟩))
 (he:∀a∈l,p a=true->e ⟨some (item a)::caps.map (λi=>(s.r[i]?).getD none),s.o⟩=.ok (out a,⟨some (item a)::caps.map (λi=>(s.r[i]?).getD none),s.o⟩)):
 oy 1 caps im (aE 0) c e s=.ok ((l.filter p).map out,s):=by
 obtain⟨s',e1,x,h1⟩:=qK (ok:=okC (l.map item) k) (g:=aE 0) (c:=c) (e:=e) (O:=s.o) Y item (λs2=>∃x,s2=⟨x::caps.map (λi=>(s.r[i]?).getD none),s.o⟩) (by rintro _ ⟨_,rfl⟩;rfl) l p out (by
  rintro a ha _ ⟨x,rfl⟩
  exact⟨_,_,rfl,hc a ha,λ_=>⟨_,rfl⟩,λhp=>⟨_,he a ha hp,_,rfl⟩⟩) [] ⟨o3 1 caps s.r,s.o⟩ (by simpa using hl) ⟨none,rfl⟩
 rw[wA,J,aj]
 dsimp only
 rw[e1,aj]
 subst h1
 rfl
theorem B2 {f g:α->D} (J:im s=.ok ((l.map (λa=>D.tup [f a,g a]),k),s)) (Y:okC (l.map (λa=>D.tup [f a,g a])) k s.o) (hl:l.length<=16777216)
 (hc:∀a∈l,c ⟨some (f a)::some (g a)::caps.map (λi=>(s.r[i]?).getD none),s.o⟩=.ok (p a,⟨some (f a)::some (g a)::caps.map (λi=>(s.r[i]?).getD none),s.o⟩))
 (he:∀a∈l,p a=true->e ⟨some (f a)::some (g a)::caps.map (λi=>(s.r[i]?).getD none),s.o⟩=.ok (out a,⟨some (f a)::some (g a)::caps.map (λi=>(s.r[i]?).getD none),s.o⟩)):
 oy 2 caps im (cI (aS (aE 0) (aS (aE 1) cL)) 2) c e s=.ok ((l.filter p).map out,s):=by
 obtain⟨s',e1,x,y,h1⟩:=qK (ok:=okC (l.map (λa=>D.tup [f a,g a])) k) (g:=cI (aS (aE 0) (aS (aE 1) cL)) 2) (c:=c) (e:=e) (O:=s.o) Y (λa=>D.tup [f a,g a]) (λs2=>∃x y,s2=⟨x::y::caps.map (λi=>(s.r[i]?).getD none),s.o⟩) (by rintro _ ⟨_,_,rfl⟩;rfl) l p out (by
  rintro a ha _ ⟨x,y,rfl⟩
  exact⟨_,_,by simp,hc a ha,λ_=>⟨_,_,rfl⟩,λhp=>⟨_,he a ha hp,_,_,rfl⟩⟩) [] ⟨o3 2 caps s.r,s.o⟩ (by simpa using hl) ⟨none,none,rfl⟩
 rw[wA,J,aj]
 dsimp only
 rw[e1,aj]
 subst h1
 rfl
theorem ot(l:List α):l.filter (λ_=>true)=l:=by simp
theorem dJ (J:im s=.ok ((l.map item,k),s)) (Y:okC (l.map item) k s.o) (hl:l.length<=16777216)
 (he:∀a∈l,e ⟨some (item a)::caps.map (λi=>(s.r[i]?).getD none),s.o⟩=.ok (out a,⟨some (item a)::caps.map (λi=>(s.r[i]?).getD none),s.o⟩)):
 bR 1 caps im (aE 0) bV e s=.ok (.lst (l.map out),s):=by
 rw[p6,CC (p:=λ_=>true) J Y hl (λ_ _=>rfl) (λa ha _=>he a ha),aj,ot]
theorem xV (J:im s=.ok ((l.map item,k),s)) (Y:okC (l.map item) k s.o) (hl:l.length<=16777216)
 (hc:∀a∈l,c ⟨some (item a)::caps.map (λi=>(s.r[i]?).getD none),s.o⟩=.ok (p a,⟨some (item a)::caps.map (λi=>(s.r[i]?).getD none),s.o⟩))
 (he:∀a∈l,p a=true->e ⟨some (item a)::caps.map (λi=>(s.r[i]?).getD none),s.o⟩=.ok (out a,⟨some (item a)::caps.map (λi=>(s.r[i]?).getD none),s.o⟩)):
 bR 1 caps im (aE 0) c e s=.ok (.lst ((l.filter p).map out),s):=by
 rw[p6,CC J Y hl hc he,aj]
theorem Cr {f g:α->D} (J:im s=.ok ((l.map (λa=>D.tup [f a,g a]),k),s)) (Y:okC (l.map (λa=>D.tup [f a,g a])) k s.o) (hl:l.length<=16777216)
 (he:∀a∈l,e ⟨some (f a)::some (g a)::caps.map (λi=>(s.r[i]?).getD none),s.o⟩=.ok (out a,⟨some (f a)::some (g a)::caps.map (λi=>(s.r[i]?).getD none),s.o⟩)):
 bR 2 caps im (cI (aS (aE 0) (aS (aE 1) cL)) 2) bV e s=.ok (.lst (l.map out),s):=by
 rw[p6,B2 (p:=λ_=>true) J Y hl (λ_ _=>rfl) (λa ha _=>he a ha),aj,ot]
theorem Ez {f g:α->D} (J:im s=.ok ((l.map (λa=>D.tup [f a,g a]),k),s)) (Y:okC (l.map (λa=>D.tup [f a,g a])) k s.o) (hl:l.length<=16777216)
 (hc:∀a∈l,c ⟨some (f a)::some (g a)::caps.map (λi=>(s.r[i]?).getD none),s.o⟩=.ok (p a,⟨some (f a)::some (g a)::caps.map (λi=>(s.r[i]?).getD none),s.o⟩))
 (he:∀a∈l,p a=true->e ⟨some (f a)::some (g a)::caps.map (λi=>(s.r[i]?).getD none),s.o⟩=.ok (out a,⟨some (f a)::some (g a)::caps.map (λi=>(s.r[i]?).getD none),s.o⟩)):
 bR 2 caps im (cI (aS (aE 0) (aS (aE 1) cL)) 2) c e s=.ok (.lst ((l.filter p).map out),s):=by
 rw[p6,B2 J Y hl hc he,aj]
theorem BH (J:im s=.ok ((l.map item,k),s)) (Y:okC (l.map item) k s.o) (hl:l.length<=16777216)
 (he:∀a∈l,e ⟨some (item a)::caps.map (λi=>(s.r[i]?).getD none),s.o⟩=.ok (out a,⟨some (item a)::caps.map (λi=>(s.r[i]?).getD none),s.o⟩)):
 pG 1 caps im (aE 0) bV e s=.ok (.ptr s.o.length,⟨s.r,s.o++[.lst (l.map out)]⟩):=by
 rw[BL,CC (p:=λ_=>true) J Y hl (λ_ _=>rfl) (λa ha _=>he a ha),aj,ot]
end
abbrev vI(r:List Int):D:=.lst (r.map .int)
abbrev vII(R:List (List Int)):D:=.lst (R.map vI)
@[simp] theorem jm (R:List (List Int)):aP (R.map vI)=true:=by
 induction R with
 | nil=>rfl
 | cons r R J=>simp[J]
theorem qz(as bs:List Int):mK (as.map D.int) (bs.map D.int)=(as.zip bs).map λp=>.tup [.int p.1,.int p.2]:=by
 unfold mK
 rw[Wb,List.zip_eq_zipWith,List.map_zipWith]
theorem sm(as:List Int):dD (as.map D.int)=as.zipIdx.map λp=>.tup [.int (p.2:Int),.int p.1]:=by
 unfold dD
 rw[UB,VB,So]
 rfl
theorem mr{O:aC}{r:List Int}{i:Nat}(h:i<r.length):ixD O (vI r) (.int (i:Int))=.ok (.int (nth r i)):=by
 refine rH ?_
 rw[qX (by omega) (by simpa using h)]
 simp[nth,R6,h]
theorem fL(n:Nat):dw 0 (n:Int)=(Sg n).map λi=>.int (i:Int):=by
 unfold dw
 simp
theorem rG{n:Nat}(h:n<=1000000):n<=16777216:=S4 h (by decide)
theorem zip_map{f:Int->Int->Int}:∀(a b:List Int),(a.zip b).map (λp=>f p.1 p.2)=Tq f a b
 | [],_=>by simp
 | _::_,[]=>by simp
 | x::a,y::b=>by simp[zip_map a b]
theorem KC(a b:List Int):(a.zip b).map (λp=>p.1*p.2)=Tq (· * ·) a b:=zip_map a b
theorem Gm(n:Nat):Fp (n:Int) [.int 0]=(Sb n (0:Int)).map D.int:=by
 unfold Fp
 rw[show (n:Int).toNat=n from Ul n]
 induction n with
 | zero=>rfl
 | succ n J=>rw[Td,TV,J];simp[Td]
theorem By{mo J:EM}{d:D}{s s1 s2:S}{k a:Nat}{ds:List D}(h1:mo s=.ok (.ptr k,s1))(h2:J s1=.ok (.int (a:Int),s2))(Y:s2.o[k]? =some (.lst ds))(ha:a<ds.length):
 wN mo J d s=.ok ⟨s2.r,s2.o.set k (.lst (ds.set a d))⟩:=by
 unfold wN
 rw[h1,aj]
 dsimp only
 rw[h2,aj]
 dsimp only
 rw[oq Y]
 dsimp only
 have e:ixN ds.length (a:Int)=some a:=by
  unfold ixN
  rw[if_pos (by omega),if_pos (by omega)]
  simp
 rw[e]
theorem uK{m:EM}{i:Nat}{s s':S}{d:D}(h:m s=.ok (d,s')):setM i m s=.next ⟨s'.r.set i (some d),s'.o⟩:=by
 show ((m s).bind _).out _=_
 rw[h];rfl
theorem bW{m:EM}{s s':S}{d:D}(h:m s=.ok (d,s')):cq m s=.ret d s':=by
 show (m s).out _=_
 rw[h];rfl
theorem Ka{c:TM}{a b:SM}{s s':S}(h:c s=.ok (true,s')):ifS c a b s=a s':=by
 show (c s).out _=_
 rw[h];rfl
theorem nS{c:TM}{a b:SM}{s s':S}(h:c s=.ok (false,s')):ifS c a b s=b s':=by
 show (c s).out _=_
 rw[h];rfl
theorem dX{a b:SM}{s s':S}(h:a s=.next s'):aN a b s=b s':=by
 show (a s).then b=_
 rw[h];rfl
theorem Az{a b:SM}{s s':S}{d:D}(h:a s=.ret d s'):aN a b s=.ret d s':=by
 show (a s).then b=_
 rw[h];rfl
theorem OQ{fin:S->List D->Res (D×S)}{mk:EM}{s:S}{n:Nat}(h:mk s=.ok (.int (n:Int),s))(hn:n<=1000000):BM fin (ae (aq (.int 0)) ao) mk s=fin s ((Sb n (0:Int)).map D.int):=by
 rw[KU,bh,aD,aj,ay,aj,aj]
 dsimp only
 rw[if_pos (by decide),h,aj]
 dsimp only
 rw[if_pos ⟨⟨by omega,by omega⟩,by simp;omega⟩,Gm]
theorem eJ{n:Nat}{f:FM}{ma:AM}{s s':S}{ds:List D}{d:D}{O:aC}(h:ma s=.ok (ds,s'))(hp:aP ds=true)(J:ds.length=n)(Y:f ds []=.ok (d,O))(hd:df d=true):aQ n f ma s=.ok (d,s'):=by
 rw[Ig,h,aj,if_pos ⟨hp,J⟩]
 dsimp only
 rw[Y]
 dsimp only
 rw[if_pos hd]
theorem Jq{n:Nat}{f:FM}{ma:AM}{s s':S}{ds:List D}{d:D}{O:aC}(h:ma s=.ok (ds,s'))(J:ds.length=n)(Y:f ds s'.o=.ok (d,O)):uG n f ma s=.ok (d,⟨s'.r,O⟩):=by
 rw[JI,h,aj,if_pos J]
 dsimp only
 rw[Y]
theorem xR{mo me:EM}{s s1 s2:S}{k:Nat}{J ds:List D}{d:D}(h1:mo s=.ok (.ptr k,s1))(c1:s1.o[k]? =some (.lst J))(h2:me s1=.ok (d,s2))(Y:s2.o[k]? =some (.lst ds))(hb:ds.length<=1000000):
 ip mo me s=.ok (.non,⟨s2.r,s2.o.set k (.lst (ds++[d]))⟩):=by
 rw[LX,h1,aj]
 dsimp only
 rw[oq c1]
 dsimp only
 rw[h2,aj]
 dsimp only
 rw[oq Y]
 dsimp only
 rw[if_pos (by omega)]
theorem cK{m:EM}{s s':S}{d:D}(h:m s=.ok (d,s')):de m s=.next s':=by
 show (m s).out _=_
 rw[h];rfl
theorem Le{m:EM}{s s':S}{k:Nat}{ds:List D}(h:m s=.ok (.ptr k,s'))(c:s'.o[k]? =some (.lst ds)):jw m s=.ok (.lst ds,⟨s'.r,s'.o.set k .dead⟩):=by
 rw[L9,h,aj]
 dsimp only
 rw[oq c]
theorem t8{m:EM}{s s':S}{k:Nat}{ds:List D}(h:m s=.ok (.ptr k,s'))(c:s'.o[k]? =some (.lst ds)):listI m s=.ok ((ds,some k),s'):=by
 rw[cJ,h,aj]
 dsimp only
 rw[C0 c,aj]
theorem cS{O:aC}{k j:Nat}{c:Cell}(h:k≠j):(O.set k c)[j]? =O[j]? :=Tg h
theorem fH{O:aC}{k:Nat}{c c':Cell}(h:O[k]? =some c'):(O.set k c)[k]? =some c:=by
 rw[Tb (Sx.mp h).1]
theorem fO{O E:aC}{k:Nat}{c:Cell}(h:O[k]? =some c):(O++E)[k]? =some c:=by
 rw[Sw (Sx.mp h).1];exact h
theorem mT{O:aC}{c:Cell}:(O++[c])[O.length]? =some c:=by simp
theorem qf{O:aC}{k:Nat}{c:Cell}(h:O[k]? =some c):k<O.length:=(Sx.mp h).1
theorem lG(r:List Int):aP [vI r]=true:=by simp
theorem NQ{b:Nat}:∀(l:List Int) (k:Nat),(∀x∈l,x.natAbs<2^b)->l.length<=2^k->l.sum.natAbs<=l.length*2^b:=by
 intro l k h _
 induction l with
 | nil=>simp
 | cons a l J=>
  rw[Va,Ss,Nat.succ_mul]
  have h1:=h a Sr
  have h2:=J (λx hx=>h x (Sl _ hx)) (by simp at *;omega)
  have:=V1 a l.sum
  omega
theorem xO{b c:Nat}{row l:List Int}(J:SzL c row)(Y:SzL b l)(hn:row.length<=1000):Sz (b+c+10) (aO row l):=by
 unfold aO
 have h:∀x∈Tq (· * ·) row l,x.natAbs<2^(c+b):=λx hx=>by
  obtain⟨i,hi,e⟩:=Tk hx
  rw[VI] at e
  subst e
  exact Sz.mul (J _ (S6 _)) (Y _ (S6 _))
 have h2:=NQ (Tq (· * ·) row l) 10 h (by rw[Tz];simp;omega)
 unfold Sz
 have h3:(Tq (· * ·) row l).length<=1000:=by rw[Tz];omega
 have h4:(Tq (· * ·) row l).length*2^(c+b)<=1000*2^(c+b):=Nat.mul_le_mul_right _ h3
 have h5:2^(b+c+10)=1024*2^(c+b):=by rw[Nat.pow_add,Nat.add_comm b c,Nat.mul_comm]
 have h6:0<2^(c+b):=Wl _
 rw[h5]
 omega
theorem Js{n:Nat}{f:FM}{ma:AM}{s s':S}{ds:List D}{d:D}{O1:aC}(h:ma s=.ok (ds,s'))(hp:aP ds=true)(J:ds.length=n)(Y:f ds []=.ok (d,O1)):dY n f ma s=.ok (shD s'.o.length d,⟨s'.r,s'.o++O1.map (shC s'.o.length)⟩):=by
 rw[JH,h,aj,if_pos ⟨hp,J⟩]
 dsimp only
 rw[Y]
theorem uo{O:aC}{k:Nat}{ds:List D}{i:Int}{d:D}(h:O[k]? =some (.lst ds))(hi:atI ds i=some d):ixD O (.ptr k) (.int i)=.ok d:=by
 show (match lsD O (D.ptr k) with
  | some ds=>match atI ds i with
   | some d=>Res.ok d
   | none=>.bad
  | none=>.bad)=_
 rw[mY h]
 dsimp only
 rw[hi]
theorem n5{α:Type}{l:List α}{i:Nat}(h:i<l.length):atI l (i:Int)=some l[i]:=by
 rw[qX (by omega) (by omega)]
 simp
theorem su{O:aC}{k:Nat}{ds:List D}(h:O[k]? =some (.lst ds)):bO O [.ptr k]=.ok (.int ds.length):=by
 unfold bO
 simp only[mY h]
theorem i6{m:EM}{s s':S}{i j:Int}(h:m s=.ok (.int i,s')):bc (ak gtD m (aq (.int j))) s=.ok (decide (j<i),s'):=by
 rw[g9,eO,h,aj,aD,aj,yE,aj,aj]
theorem eq_test{m:EM}{s s':S}{i j:Int}(h:m s=.ok (.int i,s')):bc (ak eqD m (aq (.int j))) s=.ok (decide (i=j),s'):=by
 rw[g9,eO,h,aj,aD,aj,nX,aj,aj]
theorem yj{a b:TM}{s:S}{p q:Bool}(ha:a s=.ok (p,s))(hb:b s=.ok (q,s)):o8 a b s=.ok (p&&q,s):=by
 rw[yi,ha,aj]
 cases p with
 | true=>exact hb
 | false=>rfl
theorem sJ{O:aC}{a b:List D}(h:a.length+b.length<=1000000):bt O (.lst a) (.lst b)=.ok (.lst (a++b)):=by
 show (if a.length+b.length<=16777216 then Res.ok (D.lst (a++b)) else .bad)=_
 rw[if_pos (rG h)]
def tk(c e:Nat):Nat:=2^e*(c+12)-(c+11)
structure Q9(n c:Nat)(R lists:List (List Int))(e:Nat):Prop where
 eq:R.foldl Hx (kH n)=lists
 ll:∀l∈lists,l.length=n
 cnt:lists.length+e=n
 sz:gP (tk c e) lists
theorem Ll(n a:Nat):SzL 1 (iZ n a):=by
 intro x hx
 unfold iZ at hx
 rcases List.mem_or_eq_of_mem_set hx with h | h
 ·rw[List.eq_of_mem_replicate h];exact Sz.zero 1
 ·rw[h];unfold Sz;decide
structure Fit(n:Nat)(R:List (List Int))(x:List Int):Prop where
 len:x.length=n
 nn:∀i,0<=nth x i
 st:∀r∈R,di n (nth r) (nth x)=0
 nz:∃i,nth x i≠0
def Sub(x y:List Int):Prop:=∀i,nth x i≠0->nth y i≠0
structure cV(n:Nat)(R:List (List Int))(x:List Int):Prop where
 fit:Fit n R x
 one:dj x=1
 min:∀y,Fit n R y->Sub y x->Sub x y
theorem Sub.refl(x:List Int):Sub x x:=λ_ h=>h
theorem Sub.trans{x y z:List Int}(a:Sub x y)(b:Sub y z):Sub x z:=λi h=>b i (a i h)
theorem Fit.lt{n:Nat}{R:List (List Int)}{x:List Int}(f:Fit n R x){i:Nat}(h:nth x i≠0):i<n:=by
 by_cases hi:i<n
 ·exact hi
 ·exact absurd (dO (by rw[f.len];omega)) h
theorem Fit.low{n:Nat}{R:List (List Int)}{x:List Int}(f:Fit n R x):Fit n R (low x)/\dj (M.low x)=1/\Sub (M.low x) x/\Sub x (M.low x):=by
 have hp:=oN x
 have hi:∀i,nth (M.low x) i≠0↔nth x i≠0:=λi=>by
  rw[oo x i]
  constructor
  ·exact λh=>VC (by omega) h
  ·intro h z;rw[z] at h;exact h (by omega)
 obtain⟨j,J⟩:=f.nz
 refine⟨⟨by rw[low_length,f.len],λi=> ?_,λr Y=> ?_,⟨j,(hi j).mpr J⟩⟩,Ea J,λi=>(hi i).mp,λi=>(hi i).mpr⟩
 ·have:=f.nn i
  rw[oo x i] at this
  by_cases h:0<=nth (M.low x) i
  ·exact h
  ·have:=UC hp (by omega:nth (M.low x) i<0);omega
 ·have:=f.st r Y
  rw[gU]
  rw[gU] at this
  exact(IL n x (nth r)).mpr this
theorem vB{a b c d e f:Int}(hb:0<b)(hd:0<d)(J:0<f)(h1:a*d<=c*b)(h2:c*f<=e*d):a*f<=e*b:=by
 have e1:a*d*f<=c*b*f:=UT h1 (by omega)
 have e2:c*f*b<=e*d*b:=UT h2 (by omega)
 have:(a*f)*d<=(e*b)*d:=by
  have q1:a*d*f=(a*f)*d:=by grind
  have q2:c*b*f=c*f*b:=by grind
  have Y:e*d*b=(e*b)*d:=by grind
  omega
 exact Int.le_of_mul_le_mul_right this hd
theorem Hh(a b:Nat->Int)(hb:∀i,0<=b i):∀n,(∃i,i<n/\b i≠0)->∃m,m<n/\b m≠0/\∀i,i<n->b i≠0->a m*b i<=a i*b m
 | 0,h=>by obtain⟨i,hi,_⟩:=h;omega
 | n+1,h=>by
  by_cases hn:∃i,i<n/\b i≠0
  ·obtain⟨m,hm,hz,hl⟩:=Hh a b hb n hn
   by_cases Y:b n=0
   ·refine⟨m,by omega,hz,λi hi J=> ?_⟩
    by_cases e:i=n
    ·subst e;exact absurd Y J
    ·exact hl i (by omega) J
   ·by_cases hc:a m*b n<=a n*b m
    ·refine⟨m,by omega,hz,λi hi J=> ?_⟩
     by_cases e:i=n
     ·subst e;exact hc
     ·exact hl i (by omega) J
    ·refine⟨n,by omega,Y,λi hi J=> ?_⟩
     by_cases e:i=n
     ·subst e;omega
     ·have:=hb n;have:=hb m;have:=hb i
      exact vB (by omega) (by omega:0<b m) (by omega) (by omega) (hl i (by omega) J)
  ·obtain⟨i,hi,J⟩:=h
   have e:i=n:=by
    by_cases e:i=n
    ·exact e
    ·exact absurd ⟨i,by omega,J⟩ hn
   subst e
   refine⟨i,by omega,J,λj hj ac=> ?_⟩
   by_cases e:j=i
   ·subst e;omega
   ·exact absurd ⟨j,by omega,ac⟩ hn
theorem wc{n:Nat}{R:List (List Int)}{x y:List Int}(fx:Fit n R x)(fy:Fit n R y)(hs:Sub y x):
 ∃z:List Int,z.length=n/\(∀i,0<=nth z i)/\Sub z x/\∃c d:Int,0<c/\0<d/\(∀i,nth z i=c*nth x i-d*nth y i)/\∃m,nth y m≠0/\nth z m=0:=by
 obtain⟨j,hj⟩:=fy.nz
 obtain⟨m,hm,hz,hl⟩:=Hh (nth x) (nth y) fy.nn n ⟨j,fy.lt hj,hj⟩
 have Y:x.length=y.length:=by rw[fx.len,fy.len]
 have a0:=fx.nn m
 have am:=fy.nn m
 have as:=hs m hz
 have J:∀i,nth (mL x (nth x m) y (nth y m)) i=nth y m*nth x i-nth x m*nth y i:=λi=>by rw[BU Y];grind
 refine⟨mL x (nth x m) y (nth y m),by rw[qI Y,fx.len],λi=> ?_,λi hi=> ?_,nth y m,nth x m,by omega,by omega,J,m,hz,by rw[J];grind⟩
 ·rw[J]
  by_cases hy:nth y i=0
  ·rw[hy]
   have:=TF am (fx.nn i)
   omega
  ·have:=hl i (fy.lt hy) hy
   have:nth y m*nth x i=nth x i*nth y m:=TR _ _
   omega
 ·rw[J] at hi
  intro z
  apply hi
  have:nth y i=0:=by
   by_cases hy:nth y i=0
   ·exact hy
   ·exact absurd z (hs i hy)
  rw[z,this];omega
theorem vd{n:Nat}{x y z:List Int}{c d:Int}(h:∀i,nth z i=c*nth x i-d*nth y i)(r:Nat->Int):di n r (nth z)=c*di n r (nth x)-d*di n r (nth y):=by
 have:=HB (n:=n) (a:=nth x) (b:=nth y) (u:=c) (v:= -d) r
 rw[gU,E7 (b:=λi=>c*nth x i + -d*nth y i) (λi _=>by rw[h i];grind),gU,this]
 grind
theorem yA{n:Nat}{R:List (List Int)}{x y z:List Int}(Y:Fit n R x)(fy:Fit n R y)(hl:z.length=n)(hn:∀i,0<=nth z i){c d:Int}(h:∀i,nth z i=c*nth x i-d*nth y i)(hz:∃i,nth z i≠0):Fit n R z:=
 ⟨hl,hn,λr J=>by rw[vd h,Y.st r J,fy.st r J];omega,hz⟩
theorem cV.prop{n:Nat}{R:List (List Int)}{x y:List Int}(l:cV n R x)(Y:Fit n R y)(hs:Sub y x):∃a b:Int,0<a/\0<b/\∀i,a*nth x i=b*nth y i:=by
 obtain⟨z,zl,zn,zs,c,d,hc,hd,h,m,hm,J⟩:=wc l.fit Y hs
 by_cases hz:∃i,nth z i≠0
 ·have fz:=yA l.fit Y zl zn h hz
  exact absurd J (l.min z fz zs m (hs m hm))
 ·refine⟨c,d,hc,hd,λi=> ?_⟩
  have:nth z i=0:=by
   by_cases e:nth z i=0
   ·exact e
   ·exact absurd ⟨i,e⟩ hz
  rw[h i] at this
  omega
theorem cV.eq{n:Nat}{R:List (List Int)}{x y:List Int}(l:cV n R x)(J:Fit n R y)(h1:dj y=1)(Y:Sub y x):x=y:=by
 obtain⟨a,b,ha,hb,h⟩:=l.prop J Y
 exact L3 (by rw[l.fit.len,J.len]) l.one h1 ha hb λi _=>h i
def cnt(x:List Int):Nat:=(x.filter (·≠0)).length
theorem GS:∀{x y:List Int},x.length=y.length->Sub x y->cnt x<=cnt y
 | [],[],_,_=>Si _
 | a::x,b::y,hl,hs=>by
  have J:=GS (x:=x) (y:=y) (by simpa using hl) λi h=>hs (i+1) h
  have Y:a≠0->b≠0:=hs 0
  unfold cnt at *
  by_cases ha:a=0
  ·rw[S9 (by simpa using ha)]
   by_cases hb:b=0
   ·rw[S9 (by simpa using hb)];exact J
   ·rw[S2 (by simpa using hb),Ss];omega
  ·rw[S2 (by simpa using ha),S2 (by simpa using Y ha),Ss,Ss];omega
theorem rE:∀{x y:List Int} {m:Nat},x.length=y.length->Sub x y->nth y m≠0->nth x m=0->cnt x<cnt y
 | [],[],m,_,_,h,_=>by simp[nth] at h
 | a::x,b::y,0,hl,hs,h,h'=>by
  have J:=GS (x:=x) (y:=y) (by simpa using hl) λi h=>hs (i+1) h
  have ha:a=0:=h'
  have hb:b≠0:=h
  unfold cnt at *
  rw[S9 (by simpa using ha),S2 (by simpa using hb),Ss];omega
 | a::x,b::y,m+1,hl,hs,h,h'=>by
  have J:=rE (x:=x) (y:=y) (m:=m) (by simpa using hl) (λi h=>hs (i+1) h) h h'
  have Y:a≠0->b≠0:=hs 0
  unfold cnt at *
  by_cases ha:a=0
  ·rw[S9 (by simpa using ha)]
   by_cases hb:b=0
   ·rw[S9 (by simpa using hb)];exact J
   ·rw[S2 (by simpa using hb),Ss];omega
  ·rw[S2 (by simpa using ha),S2 (by simpa using Y ha),Ss,Ss];omega
theorem va{n:Nat}{R:List (List Int)}:∀(k:Nat) {x:List Int},cnt x<=k->Fit n R x->∃l,cV n R l/\Sub l x:=by
 intro k
 induction k with
 | zero=>
  intro x hk f
  obtain⟨i,hi⟩:=f.nz
  have:cnt (Sb n (0:Int))<cnt x:=rE (m:=i) (by rw[f.len];simp) (λj h=>by
   exfalso;apply h
   unfold nth
   rw[R6,SV]
   split <;> rfl) hi (by
   unfold nth
   rw[R6,SV]
   split <;> rfl)
  omega
 | succ k ih=>
  intro x hk f
  by_cases h:∃y,Fit n R y/\Sub y x/\¬Sub x y
  ·obtain⟨y,J,h1,h2⟩:=h
   have:∃m,nth x m≠0/\nth y m=0:=by
    apply TH
    intro hn
    exact h2 λi hi=>λz=>hn ⟨i,hi,z⟩
   obtain⟨m,hm,Y⟩:=this
   have:=rE (by rw[J.len,f.len]) h1 hm Y
   obtain⟨l,hl,hs⟩:=ih (x:=y) (by omega) J
   exact⟨l,hl,hs.trans h1⟩
  ·obtain⟨q1,q2,q3,q4⟩:=f.low
   refine⟨low x,⟨q1,q2,λy J hs=> ?_⟩,q3⟩
   apply TH
   intro hn
   exact h ⟨y,J,hs.trans q3,λz=>hn (q3.trans z)⟩
theorem xB{n:Nat}{R:List (List Int)}(r:List Int):∀(k:Nat) {x:List Int},cnt x<=k->Fit n R x->0<di n (nth r) (nth x)->∃l,cV n R l/\Sub l x/\0<di n (nth r) (nth l):=by
 intro k
 induction k with
 | zero=>
  intro x hk f hv
  obtain⟨l,J,Y⟩:=va 0 hk f
  obtain⟨i,hi⟩:=f.nz
  have:cnt (Sb n (0:Int))<cnt x:=rE (m:=i) (by rw[f.len];simp) (λj h=>by
   exfalso;apply h
   unfold nth
   rw[R6,SV]
   split <;> rfl) hi (by
   unfold nth
   rw[R6,SV]
   split <;> rfl)
  omega
 | succ k ih=>
  intro x hk f hv
  obtain⟨l,J,Y⟩:=va (k+1) hk f
  by_cases hp:0<di n (nth r) (nth l)
  ·exact⟨l,J,Y,hp⟩
  ·obtain⟨z,zl,zn,zs,c,d,hc,hd,h,m,hm,ab⟩:=wc f J.fit Y
   have ev:=vd (n:=n) h (nth r)
   have h1:=T4 hc hv
   have h2:=UH (show 0<=d by omega) (show di n (nth r) (nth l)<=0 by omega)
   have hz:∃i,nth z i≠0:=by
    apply TH
    intro hn
    have:di n (nth r) (nth z)=0:=mS λi _=>by
     have:nth z i=0:=by
      by_cases e:nth z i=0
      ·exact e
      ·exact absurd ⟨i,e⟩ hn
     rw[this];omega
    omega
   have fz:=yA f J.fit zl zn h hz
   have:=rE (by rw[zl,f.len]) zs (Y m hm) ab
   obtain⟨l',q1,q2,q3⟩:=ih (x:=z) (by omega) fz (by omega)
   exact⟨l',q1,q2.trans zs,q3⟩
theorem md(n:Nat)(r x:List Int):di n (nth (r.map (- ·))) (nth x)= -di n (nth r) (nth x):=by
 have:=xb (n:=n) (a:=r.map (- ·)) (c:=r) (g:= -1) (λi=>by rw[rm (by simp)];omega) (nth x)
 rw[<- Aw,this,Aw];omega
theorem Ff{n:Nat}{R:List (List Int)}(r:List Int){x:List Int}(f:Fit n R x)(Y:di n (nth r) (nth x)<0):∃l,cV n R l/\Sub l x/\di n (nth r) (nth l)<0:=by
 obtain⟨l,h1,h2,J⟩:=xB (r.map (- ·)) _ (Si _) f (by rw[md];omega)
 rw[md] at J
 exact⟨l,h1,h2,by omega⟩
theorem zH{n:Nat}{R:List (List Int)}(r:List Int){x:List Int}(f:Fit n R x)(hv:di n (nth r) (nth x)=0):
 (∃l,cV n R l/\Sub l x/\di n (nth r) (nth l)=0)\/∃h w,cV n R h/\cV n R w/\Sub h x/\Sub w x/\0<di n (nth r) (nth h)/\di n (nth r) (nth w)<0:=by
 obtain⟨l,J,Y⟩:=va _ (Si _) f
 by_cases h0:di n (nth r) (nth l)=0
 ·exact .inl ⟨l,J,Y,h0⟩
 ·obtain⟨z,zl,zn,zs,c,d,hc,hd,h,m,hm,a3⟩:=wc f J.fit Y
  have ev:=vd (n:=n) h (nth r)
  rw[hv] at ev
  have ab:di n (nth r) (nth z)≠0:=by
   rw[ev]
   have:=VC (show d≠0 by omega) h0
   omega
  have hz:∃i,nth z i≠0:=by
   apply TH
   intro hn
   exact ab (mS λi _=>by
    have:nth z i=0:=by
     by_cases e:nth z i=0
     ·exact e
     ·exact absurd ⟨i,e⟩ hn
    rw[this];omega)
  have fz:=yA f J.fit zl zn h hz
  by_cases hp:0<di n (nth r) (nth l)
  ·have:=T4 hd hp
   obtain⟨w,w1,w2,w3⟩:=Ff r fz (by omega)
   exact .inr ⟨l,w,J,w1,Y,w2.trans zs,hp,w3⟩
  ·have:=UC hd (show di n (nth r) (nth l)<0 by omega)
   obtain⟨w,w1,w2,w3⟩:=xB r _ (Si _) fz (by omega)
   exact .inr ⟨w,l,w1,J,w2.trans zs,Y,w3,by omega⟩
def subB(n:Nat)(l h w:List Int):Bool:=(Sg n).all λi=>decide (nth l i=0)||decide (nth h i≠0)||decide (nth w i≠0)
def nbB(n:Nat)(L:List (List Int))(h w:List Int):Bool:=(L.filter λl=>subB n l h w).length == 2
def eK(n:Nat)(L:List (List Int))(r:List Int):List (List Int):=
 (L.filter λl=>decide (aO r l=0))++(L.filter λl=>decide (0<aO r l)).flatMap λh=>((L.filter λl=>decide (aO r l<0)).filter λw=>nbB n L h w).map λw=>d0 w (aO r w) h (aO r h)
theorem sq{n:Nat}{l h w:List Int}(J:l.length=n):subB n l h w=true↔∀i,nth l i≠0->nth h i≠0\/nth w i≠0:=by
 unfold subB
 rw[TZ]
 constructor
 ·intro H i hi
  have lt:i<n:=by
   by_cases e:i<n
   ·exact e
   ·exact absurd (dO (by omega)) hi
  have:=H i (S3.mpr lt)
  simp only[UU,decide_eq_true_eq] at this
  rcases this with(z | z) | z
  ·exact absurd z hi
  ·exact .inl z
  ·exact .inr z
 ·intro H i _
  simp only[UU,decide_eq_true_eq]
  by_cases e:nth l i=0
  ·exact .inl (.inl e)
  ·rcases H i e with z | z
   ·exact .inl (.inr z)
   ·exact .inr z
theorem EO{α:Type}{L:List α}(hd:L.Nodup)(J:L.length=2){h w:α}(hh:h∈L)(hw:w∈L)(Y:h≠w):∀l∈L,l=h\/l=w:=by
 match L,J with
 | [a,b],_=>
  intro l J
  simp only[SA,TY,or_false] at hh hw J
  rcases hh with rfl | rfl <;> rcases hw with rfl | rfl <;> rcases J with rfl | rfl <;> first | exact .inl rfl | exact .inr rfl | exact absurd rfl Y
theorem Ft{α:Type}{L:List α}(hd:L.Nodup){h w:α}(J:h∈L)(Y:w∈L)(ab:h≠w)(ha:∀l∈L,l=h\/l=w):L.length=2:=by
 have h1:L.length<=2:=by
  match L,hd with
  | [],_=>simp
  | [_],_=>simp
  | [_,_],_=>simp
  | a::b::c::r,hd=>
   exfalso
   have ac:=ha a (by simp);have am:=ha b (by simp);have an:=ha c (by simp)
   simp only[Tv,SA,not_or] at hd
   rcases ac with e1 | e1 <;> rcases am with e2 | e2 <;> rcases an with e3 | e3 <;> simp_all
 match L,J,Y,h1 with
 | [a],J,Y,_=>
  simp only[Sv] at J Y
  exact absurd (J.trans Y.symm) ab
 | [a,b],_,_,_=>rfl
section
variable {n : Nat} {R L : List (List Int)} {r : List Int}
structure kh(n:Nat)(R L:List (List Int)):Prop where
 all:∀x,x∈L↔cV n R x
 nd:L.Nodup
theorem kh.dot(k:kh n R L){l:List Int}(h:l∈L)(r:List Int):aO r l=di n (nth r) (nth l):=qq ((k.all l).mp h).fit.len
theorem xE(k:kh n R L){h w:List Int}(hh:h∈L)(hw:w∈L)(J:h≠w):nbB n L h w=true↔∀l∈L,(∀i,nth l i≠0->nth h i≠0\/nth w i≠0)->l=h\/l=w:=by
 have mem:∀l,l∈L.filter (λl=>subB n l h w)↔l∈L/\∀i,nth l i≠0->nth h i≠0\/nth w i≠0:=λl=>by
  rw[SK]
  constructor
  ·exact λ⟨a,b⟩=>⟨a,(sq ((k.all l).mp a).fit.len).mp b⟩
  ·exact λ⟨a,b⟩=>⟨a,(sq ((k.all l).mp a).fit.len).mpr b⟩
 have nd:(L.filter (λl=>subB n l h w)).Nodup:=k.nd.filter _
 have m1:h∈L.filter (λl=>subB n l h w):=(mem h).mpr ⟨hh,λi hi=>.inl hi⟩
 have m2:w∈L.filter (λl=>subB n l h w):=(mem w).mpr ⟨hw,λi hi=>.inr hi⟩
 unfold nbB
 rw[beq_iff_eq]
 constructor
 ·exact λY l h1 h2=>EO nd Y m1 m2 J l ((mem l).mpr ⟨h1,h2⟩)
 ·exact λha=>Ft nd m1 m2 J λl Y=>let ⟨a,b⟩:=(mem l).mp Y;ha l a b
theorem oa(hr:r.length=n){h w:List Int}(Y:Fit n R h)(fw:Fit n R w)(vh:0<aO r h)(vw:aO r w<0):
 Fit n (R++[r]) (d0 w (aO r w) h (aO r h))/\dj (d0 w (aO r w) h (aO r h))=1/\(∀i,nth (d0 w (aO r w) h (aO r h)) i≠0↔nth h i≠0\/nth w i≠0)/\
 ∃g:Int,0<g/\∀i,g*nth (d0 w (aO r w) h (aO r h)) i=nth w i*aO r h+nth h i*(-(aO r w)):=by
 have J:w.length=h.length:=by rw[fw.len,Y.len]
 obtain⟨g,hg,e⟩:=Cg J (aO r w) (aO r h)
 have e':∀i,g*nth (d0 w (aO r w) h (aO r h)) i=nth w i*aO r h+nth h i*(-(aO r w)):=λi=>by rw[e i];grind
 have nz:∀i,nth (d0 w (aO r w) h (aO r h)) i≠0↔nth h i≠0\/nth w i≠0:=λi=>by
  have h1:=TF (fw.nn i) (show 0<=aO r h by omega)
  have h2:=TF (Y.nn i) (show 0<= -(aO r w) by omega)
  constructor
  ·intro hz
   apply TH
   intro hn
   have q1:nth h i=0:=by
    by_cases q:nth h i=0
    ·exact q
    ·exact absurd (.inl q) hn
   have q2:nth w i=0:=by
    by_cases q:nth w i=0
    ·exact q
    ·exact absurd (.inr q) hn
   have:=e' i
   rw[q1,q2] at this
   have:g*nth (d0 w (aO r w) h (aO r h)) i=0:=by rw[this];omega
   rcases Ua.mp this with z | z
   ·omega
   ·exact hz z
  ·intro an z
   have:=e' i
   rw[z] at this
   have hs:nth w i*aO r h+nth h i*(-(aO r w))=0:=by omega
   rcases an with q | q
   ·have:=T4 (show 0<nth h i by have:=Y.nn i;omega) (show 0 < -(aO r w) by omega);omega
   ·have:=T4 (show 0<nth w i by have:=fw.nn i;omega) vh;omega
 have one:dj (d0 w (aO r w) h (aO r h))=1:=by
  obtain⟨i,hi⟩:=Y.nz
  have q:nth (d0 w (aO r w) h (aO r h)) i≠0:=(nz i).mpr (.inl hi)
  exact HQ _ i q
 refine⟨⟨by rw[Dq J,fw.len],λi=> ?_,λq hq=> ?_, ?_⟩,one,nz,g,hg,e'⟩
 ·have h1:=TF (fw.nn i) (show 0<=aO r h by omega)
  have h2:=TF (Y.nn i) (show 0<= -(aO r w) by omega)
  have:=e' i
  by_cases z:0<=nth (d0 w (aO r w) h (aO r h)) i
  ·exact z
  ·have:=UC hg (show nth (d0 w (aO r w) h (aO r h)) i<0 by omega);omega
 ·obtain⟨g',a1,ed⟩:=Jv (n:=n) J (aO r w) (aO r h) (nth q)
  simp only[Aw] at ed
  rw[gU]
  have z:g'*di n (nth (d0 w (aO r w) h (aO r h))) (nth q)=0:=by
   rw[ed,gU n (nth w),gU n (nth h)]
   rcases Sy.mp hq with hq | hq
   ·rw[fw.st q hq,Y.st q hq];omega
   ·rw[Sv.mp hq,<- qq fw.len,<- qq Y.len];grind
  rcases Ua.mp z with z | z
  ·omega
  ·exact z
 ·obtain⟨i,hi⟩:=Y.nz
  exact⟨i,(nz i).mpr (.inl hi)⟩
theorem Fit.less{R S:List (List Int)}{x:List Int}(f:Fit n (R++S) x):Fit n R x:=⟨f.len,f.nn,λr J=>f.st r (Ut _ J),f.nz⟩
theorem Fit.more(f:Fit n R x)(h:di n (nth r) (nth x)=0):Fit n (R++[r]) x:=⟨f.len,f.nn,λq hq=>by
 rcases Sy.mp hq with z | z
 ·exact f.st q z
 ·rw[Sv.mp z];exact h,f.nz⟩
theorem cV.same{x y:List Int}(a:cV n R x)(b:cV n R y)(h:Sub y x):x=y:=a.eq b.fit b.one h
theorem vC(Y:r.length=n){h l w x:List Int}(J:cV n R h)(ll:cV n R l)(lw:cV n R w)(lx:cV n (R++[r]) x)(vh:0<aO r h)(vl:0<aO r l)(vw:aO r w<0)(sh:Sub h x)(sl:Sub l x)(sw:Sub w x):l=h:=by
 obtain⟨f1,g1,z1,a,ha,e1⟩:=oa Y J.fit lw.fit vh vw
 obtain⟨f2,g2,z2,b,hb,e2⟩:=oa Y ll.fit lw.fit vl vw
 have x1:=lx.eq f1 g1 λi hi=>((z1 i).mp hi).elim (sh i) (sw i)
 have x2:=lx.eq f2 g2 λi hi=>((z2 i).mp hi).elim (sl i) (sw i)
 rw[<- x1] at e1
 rw[<- x2] at e2
 have key:∀i,b*(nth h i*(-(aO r w)))+(b*aO r h-a*aO r l)*nth w i=a*(nth l i*(-(aO r w))):=λi=>by
  have q1:=e1 i
  have q2:=e2 i
  have:b*(a*nth x i)=a*(b*nth x i):=by grind
  rw[q1,q2] at this
  grind
 have hu:0 < -(aO r w):=by omega
 by_cases hm:0<=b*aO r h-a*aO r l
 ·refine(cV.same ll J λi hi=> ?_)
  intro z
  have q:=key i
  rw[z] at q
  have h1:=T4 hb (T4 (show 0<nth h i by have:=J.fit.nn i;omega) hu)
  have h2:=TF hm (lw.fit.nn i)
  have h3:a*(0*(-(aO r w)))=0:=by simp
  omega
 ·refine(cV.same J ll λi hi=> ?_).symm
  intro z
  have q:=key i
  rw[z] at q
  have h1:=T4 ha (T4 (show 0<nth l i by have:=ll.fit.nn i;omega) hu)
  have h2:=Int.mul_nonpos_of_nonpos_of_nonneg (show b*aO r h-a*aO r l<=0 by omega) (lw.fit.nn i)
  have h3:b*(0*(-(aO r w)))=0:=by simp
  omega
theorem vW{l:List Int}(J:l.length=n):aO (r.map (- ·)) l= -(aO r l):=by rw[qq J,qq J,md]
theorem cV.neg{x:List Int}(l:cV n (R++[r]) x):cV n (R++[r.map (- ·)]) x:=by
 have J:∀y,Fit n (R++[r]) y↔Fit n (R++[r.map (- ·)]) y:=λy=>by
  constructor
  ·refine λf=>Fit.more f.less ?_
   rw[md,f.st r (by simp)];rfl
  ·refine λf=>Fit.more f.less ?_
   have:=f.st (r.map (- ·)) (by simp)
   rw[md] at this;omega
 exact⟨(J x).mp l.fit,l.one,λy Y=>l.min y ((J y).mpr Y)⟩
theorem BC(Y:r.length=n){h l w x:List Int}(J:cV n R h)(ll:cV n R l)(lw:cV n R w)(lx:cV n (R++[r]) x)(vh:0<aO r h)(vl:aO r l<0)(vw:aO r w<0)(sh:Sub h x)(sl:Sub l x)(sw:Sub w x):l=w:=
 vC (r:=r.map (- ·)) (h:=w) (l:=l) (w:=h) (by simpa using Y) lw ll J lx.neg (by rw[vW lw.fit.len];omega) (by rw[vW ll.fit.len];omega) (by rw[vW J.fit.len];omega) sw sl sh
theorem tE{x:List Int}:x∈eK n L r↔(x∈L/\aO r x=0)\/∃h w,h∈L/\w∈L/\0<aO r h/\aO r w<0/\nbB n L h w=true/\x=d0 w (aO r w) h (aO r h):=by
 unfold eK
 rw[Sy]
 constructor
 ·rintro (h | h)
  ·rw[SK,decide_eq_true_eq] at h;exact .inl h
  ·obtain⟨h',q1,q2⟩:=Vs.mp h
   obtain⟨w,J,rfl⟩:=Su.mp q2
   rw[SK,decide_eq_true_eq] at q1
   rw[SK,SK,decide_eq_true_eq] at J
   exact .inr ⟨h',w,q1.1,J.1.1,q1.2,J.1.2,J.2,rfl⟩
 ·rintro (h | ⟨h',w,q1,q2,J,Y,q5,rfl⟩)
  ·exact .inl (by rw[SK,decide_eq_true_eq];exact h)
  ·refine .inr (Vs.mpr ⟨h',by rw[SK,decide_eq_true_eq];exact⟨q1,J⟩,Su.mpr ⟨w, ?_,rfl⟩⟩)
   rw[SK,SK,decide_eq_true_eq];exact⟨⟨q2,Y⟩,q5⟩
theorem Bc(hr:r.length=n)(k:kh n R L)(x:List Int):x∈eK n L r↔cV n (R++[r]) x:=by
 rw[tE]
 constructor
 ·rintro (⟨hx,v⟩ | ⟨h,w,hh,hw,J,vw,nb,rfl⟩)
  ·have l:=(k.all x).mp hx
   rw[k.dot hx] at v
   exact⟨l.fit.more v,l.one,λy fy=>l.min y fy.less⟩
  ·have lh:=(k.all h).mp hh
   have lw:=(k.all w).mp hw
   have ac:h≠w:=λe=>by rw[e] at J;omega
   obtain⟨f1,g1,z1,_⟩:=oa hr lh.fit lw.fit J vw
   refine⟨f1,g1,λy fy sy=> ?_⟩
   have am:=(xE k hh hw ac).mp nb
   rcases zH r fy.less (fy.st r (by simp)) with⟨l,ll,sl,v⟩ | ⟨h',w',bv,bw,a3,a4,a5,a6⟩
   ·have Y:=(k.all l).mpr ll
    have:=am l Y λi hi=>(z1 i).mp (sy i (sl i hi))
    rw[<- k.dot Y] at v
    rcases this with rfl | rfl <;> omega
   ·have a7:=(k.all h').mpr bv
    have a8:=(k.all w').mpr bw
    rw[<- k.dot a7] at a5
    rw[<- k.dot a8] at a6
    have e1:h'=h:=by
     rcases am h' a7 λi hi=>(z1 i).mp (sy i (a3 i hi)) with e | e
     ·exact e
     ·rw[e] at a5;omega
    have e2:w'=w:=by
     rcases am w' a8 λi hi=>(z1 i).mp (sy i (a4 i hi)) with e | e
     ·rw[e] at a6;omega
     ·exact e
    subst e1 e2
    exact λi hi=>((z1 i).mp hi).elim (a3 i) (a4 i)
 ·intro lx
  by_cases hz:∃l,cV n R l/\Sub l x/\di n (nth r) (nth l)=0
  ·obtain⟨l,ll,sl,v⟩:=hz
   have e:=lx.eq (ll.fit.more v) ll.one sl
   subst e
   have Y:=(k.all x).mpr ll
   exact .inl ⟨Y,by rw[k.dot Y];exact v⟩
  ·rcases zH r lx.fit.less (lx.fit.st r (by simp)) with h0 | ⟨h,w,lh,lw,sh,sw,J,vw⟩
   ·exact absurd h0 hz
   ·have hh:=(k.all h).mpr lh
    have hw:=(k.all w).mpr lw
    rw[<- k.dot hh] at J
    rw[<- k.dot hw] at vw
    have ac:h≠w:=λe=>by rw[e] at J;omega
    obtain⟨f1,g1,z1,_⟩:=oa hr lh.fit lw.fit J vw
    refine .inr ⟨h,w,hh,hw,J,vw,(xE k hh hw ac).mpr λl Y sl=> ?_,lx.eq f1 g1 λi hi=>((z1 i).mp hi).elim (sh i) (sw i)⟩
    have ll:=(k.all l).mp Y
    have an:Sub l x:=λi hi=>(sl i hi).elim (sh i) (sw i)
    by_cases v0:aO r l=0
    ·exact absurd ⟨l,ll,an,by rw[<- k.dot Y];exact v0⟩ hz
    ·by_cases vp:0<aO r l
     ·exact .inl (vC hr lh ll lw lx J vp vw sh an sw)
     ·exact .inr (BC hr lh ll lw lx J (by omega) vw sh an sw)
end
section
variable {n : Nat} {R L : List (List Int)} {r : List Int}
theorem El (hr:r.length=n) (k:kh n R L) {h w h' J:List Int} (hh:h∈L) (hw:w∈L) (vh:0<aO r h) (vw:aO r w<0) (nb:nbB n L h w=true)
 (Y:h'∈L) (ab:J∈L) (ac:0<aO r h') (am:aO r J<0) (e:d0 w (aO r w) h (aO r h)=d0 J (aO r J) h' (aO r h')):h=h'/\w=J:=by
 have ap:h≠w:=λe=>by rw[e] at vh;omega
 obtain⟨_,_,z1,_⟩:=oa hr ((k.all h).mp hh).fit ((k.all w).mp hw).fit vh vw
 obtain⟨_,_,z2,_⟩:=oa hr ((k.all h').mp Y).fit ((k.all J).mp ab).fit ac am
 rw[e] at z1
 have an:=(xE k hh hw ap).mp nb
 constructor
 ·rcases an h' Y λi hi=>(z1 i).mp ((z2 i).mpr (.inl hi)) with q | q
  ·exact q.symm
  ·rw[q] at ac;omega
 ·rcases an J ab λi hi=>(z1 i).mp ((z2 i).mpr (.inr hi)) with q | q
  ·rw[q] at am;omega
  ·exact q.symm
theorem Dt(hr:r.length=n)(k:kh n R L):(eK n L r).Nodup:=by
 unfold eK
 rw[TW]
 refine⟨k.nd.filter _, ?_,λx hx y hy e=> ?_⟩
 ·unfold Wm
  rw[List.pairwise_flatMap]
  constructor
  ·intro h J
   rw[SK,decide_eq_true_eq] at J
   rw[Ve]
   refine Uf (λ{w w'} Y ab ac=> ?_) ((k.nd.filter _).filter _)
   rw[SK,SK,decide_eq_true_eq] at Y ab
   exact λe=>ac (El hr k J.1 Y.1.1 J.2 Y.1.2 Y.2 J.1 ab.1.1 J.2 ab.1.2 e).2
  ·refine Uf (λ{h h'} J hh' ac x hx y hy=> ?_) (k.nd.filter _)
   rw[SK,decide_eq_true_eq] at J hh'
   obtain⟨w,Y,rfl⟩:=Su.mp hx
   obtain⟨w',ab,rfl⟩:=Su.mp hy
   rw[SK,SK,decide_eq_true_eq] at Y ab
   exact λe=>ac (El hr k J.1 Y.1.1 J.2 Y.1.2 Y.2 hh'.1 ab.1.1 hh'.2 ab.1.2 e).1
 ·subst e
  rw[SK,decide_eq_true_eq] at hx
  obtain⟨h,J,hy⟩:=Vs.mp hy
  obtain⟨w,Y,e⟩:=Su.mp hy
  rw[SK,decide_eq_true_eq] at J
  rw[SK,SK,decide_eq_true_eq] at Y
  have ac:h≠w:=λe=>by rw[e] at J;omega
  obtain⟨_,_,z1,_⟩:=oa hr ((k.all h).mp J.1).fit ((k.all w).mp Y.1.1).fit J.2 Y.1.2
  rw[e] at z1
  rcases(xE k J.1 Y.1.1 ac).mp Y.2 x hx.1 λi hi=>(z1 i).mp hi with q | q
  ·rw[q] at hx;omega
  ·rw[q] at hx;omega
theorem kh.step(J:r.length=n)(k:kh n R L):kh n (R++[r]) (eK n L r):=⟨Bc J k,Dt J k⟩
theorem ze{a:Nat}(ha:a<n):dj (iZ n a)=1:=by
 have:=qc (iZ n a) a
 rw[jn ha,if_pos rfl] at this
 have:(dj (iZ n a):Int).natAbs ∣ (1:Int).natAbs:=UQ.mpr this
 simpa using this
theorem Cv{a:Nat}(ha:a<n):Fit n [] (iZ n a):=by
 refine⟨by unfold iZ;simp,λi=> ?_,by simp,⟨a, ?_⟩⟩
 ·rw[jn ha];split <;> omega
 ·rw[jn ha,if_pos rfl];decide
theorem Gz{a:Nat}(ha:a<n):cV n [] (iZ n a):=by
 refine⟨Cv ha,ze ha,λy Y sy=>λi hi=> ?_⟩
 rw[jn ha] at hi
 by_cases e:i=a
 ·subst e
  obtain⟨j,J⟩:=Y.nz
  have:=sy j J
  rw[jn ha] at this
  by_cases e:j=i
  ·rw[<- e];exact J
  ·rw[if_neg e] at this;exact absurd rfl this
 ·rw[if_neg e] at hi;exact absurd rfl hi
theorem EN(n:Nat):kh n [] (kH n):=by
 refine⟨λx=>⟨λhx=> ?_,λl=> ?_⟩, ?_⟩
 ·obtain⟨a,ha,rfl⟩:=Su.mp hx
  exact Gz (S3.mp ha)
 ·obtain⟨i,hi⟩:=l.fit.nz
  have lt:=l.fit.lt hi
  have:=l.eq (Cv lt) (ze lt) λj J=>by
   rw[jn lt] at J
   by_cases e:j=i
   ·rw[e];exact hi
   ·rw[if_neg e] at J;exact absurd rfl J
  rw[this]
  exact Su.mpr ⟨i,S3.mpr lt,rfl⟩
 ·unfold kH Wm
  rw[Ve]
  refine Uf (λ{a b} ha hb hne e=>hne ?_) List.nodup_range
  have h1:=jn (S3.mp ha) a
  rw[e,jn (S3.mp hb),if_pos rfl] at h1
  by_cases q:a=b
  ·exact q
  ·rw[if_neg q] at h1;cases h1
theorem zJ:∀{rows:List (List Int)},(∀r∈rows,r.length=n)->∀{R L:List (List Int)},kh n R L->kh n (R++rows) (rows.foldl (eK n) L)
 | [],_,R,L,k=>by simpa using k
 | row::rows,h,R,L,k=>by
  have:=zJ (rows:=rows) (λr J=>h r (Sl _ J)) (k.step (h row Sr))
  simpa using this
def nA(rows:List (List Int))(n:Nat):List (List Int):=rows.foldl (eK n) (kH n)
theorem qG{rows:List (List Int)}(h:∀r∈rows,r.length=n):kh n rows (nA rows n):=by
 have:=zJ h (EN n)
 rw[SE] at this
 exact this
end
section
variable {n : Nat} {R L : List (List Int)}
end
theorem wb:∀(N:Nat) (l:List Nat),l.Nodup->(∀x∈l,x<N)->l.length<=N
 | 0,l,_,h=>by
  cases l with
  | nil=>exact Si _
  | cons a l=>exact absurd (h a Sr) (by omega)
 | N+1,l,nd,h=>by
  by_cases hm:N∈l
  ·have:=wb N (l.erase N) (nd.erase N) (λx hx=>by
    have h1:=(nd.mem_erase_iff.mp hx)
    have:=h x h1.2
    have:=h1.1
    omega)
   rw[List.length_erase_of_mem hm] at this
   omega
  ·have:=wb N l nd (λx hx=>by
    have h1:=h x hx
    have:x≠N:=λe=>hm (e▸hx)
    omega)
   omega
def at0(x:List Int)(i:Nat):Bool:=decide (nth x i≠0)
def cl3(a b c:Bool):Nat:=match a,b,c with
 | false,true,_=>1
 | false,false,true=>2
 | true,false,true=>2
 | _,_,_=>0
theorem Bk(a b c:Bool):cl3 a b c<=2:=by revert a b c;decide
theorem FV:∀a b c J b' Y:Bool,cl3 a b c=cl3 J b' Y->((a=true->J=true)/\(b=true->b'=true)/\(c=true->Y=true))\/((J=true->a=true)/\(b'=true->b=true)/\(Y=true->c=true)):=by decide
def yB(x:List Int):Nat:=3*((at0 x 3).toNat+2*(at0 x 4).toNat+4*(at0 x 5).toNat+8*(at0 x 6).toNat)+cl3 (at0 x 0) (at0 x 1) (at0 x 2)
theorem toNat_le(b:Bool):b.toNat<=1:=by cases b <;> decide
theorem toNat_inj{a b:Bool}(h:a.toNat=b.toNat):a=b:=by revert a b;decide
theorem Lq(x:List Int):yB x<48:=by
 have:=Bk (at0 x 0) (at0 x 1) (at0 x 2)
 have:=toNat_le (at0 x 3)
 have:=toNat_le (at0 x 4)
 have:=toNat_le (at0 x 5)
 have:=toNat_le (at0 x 6)
 unfold yB
 omega
theorem G1{x y:List Int}(hx:x.length<=7)(h:∀i,i<7->at0 x i=true->at0 y i=true):Sub x y:=λi hi=>by
 by_cases J:i<7
 ·exact of_decide_eq_true (h i J (decide_eq_true hi))
 ·exact absurd (dO (by omega)) hi
theorem L6{n:Nat}{R:List (List Int)}{x y:List Int}(hn:n<=7)(lx:cV n R x)(ly:cV n R y)(h:yB x=yB y):x=y:=by
 have a1:=Bk (at0 x 0) (at0 x 1) (at0 x 2)
 have a2:=Bk (at0 y 0) (at0 y 1) (at0 y 2)
 have b3:=toNat_le (at0 x 3);have c3:=toNat_le (at0 y 3)
 have b4:=toNat_le (at0 x 4);have c4:=toNat_le (at0 y 4)
 have b5:=toNat_le (at0 x 5);have c5:=toNat_le (at0 y 5)
 have b6:=toNat_le (at0 x 6);have c6:=toNat_le (at0 y 6)
 unfold yB at h
 have e3:at0 x 3=at0 y 3:=toNat_inj (by omega)
 have e4:at0 x 4=at0 y 4:=toNat_inj (by omega)
 have e5:at0 x 5=at0 y 5:=toNat_inj (by omega)
 have e6:at0 x 6=at0 y 6:=toNat_inj (by omega)
 have e:cl3 (at0 x 0) (at0 x 1) (at0 x 2)=cl3 (at0 y 0) (at0 y 1) (at0 y 2):=by omega
 have Y:x.length<=7:=by rw[lx.fit.len];exact hn
 have ab:y.length<=7:=by rw[ly.fit.len];exact hn
 rcases FV _ _ _ _ _ _ e with⟨q0,q1,q2⟩ | ⟨q0,q1,q2⟩
 ·refine(ly.same lx (G1 Y λi hi J=> ?_)).symm
  have:i=0\/i=1\/i=2\/i=3\/i=4\/i=5\/i=6:=by omega
  rcases this with rfl | rfl | rfl | rfl | rfl | rfl | rfl
  ·exact q0 J
  ·exact q1 J
  ·exact q2 J
  ·rw[<- e3];exact J
  ·rw[<- e4];exact J
  ·rw[<- e5];exact J
  ·rw[<- e6];exact J
 ·refine lx.same ly (G1 ab λi hi J=> ?_)
  have:i=0\/i=1\/i=2\/i=3\/i=4\/i=5\/i=6:=by omega
  rcases this with rfl | rfl | rfl | rfl | rfl | rfl | rfl
  ·exact q0 J
  ·exact q1 J
  ·exact q2 J
  ·rw[e3];exact J
  ·rw[e4];exact J
  ·rw[e5];exact J
  ·rw[e6];exact J
theorem zC{α β:Type}{f:α->β}:∀{l:List α},l.Nodup->(∀x∈l,∀y∈l,f x=f y->x=y)->(l.map f).Nodup
 | [],_,_=>Wr
 | a::l,nd,h=>by
  rw[Sm,Tv]
  rw[Tv] at nd
  refine⟨λhm=> ?_,zC nd.2 λx hx y hy=>h x (Sl _ hx) y (Sl _ hy)⟩
  obtain⟨b,hb,e⟩:=Su.mp hm
  exact nd.1 (h b (Sl _ hb) a Sr e▸hb)
theorem kh.few{n:Nat}{R L:List (List Int)}(k:kh n R L)(hn:n<=7):L.length<64:=by
 have:=wb 48 (L.map yB) (zC k.nd λx hx y hy e=>L6 hn ((k.all x).mp hx) ((k.all y).mp hy) e) λc hc=>by
  obtain⟨x,_,rfl⟩:=Su.mp hc
  exact Lq x
 rw[R9] at this
 omega
theorem JX{n b c:Nat}{L:List (List Int)}{r:List Int}(Y:SzL c r)(hl:r.length<=1000)(J:gP b L):gP (2*b+c+12) (eK n L r):=by
 intro x hx
 rcases tE.mp hx with⟨h,_⟩ | ⟨h,w,hh,hw,_,_,_,rfl⟩
 ·exact(J x h).mono (by omega)
 ·exact(SzL.off (J w hw) (J h hh) (xO Y (J w hw) hl) (xO Y (J h hh) hl)).mono (by omega)
def uY(c:Nat):Nat->Nat->Nat
 | 0,b=>b
 | m+1,b=>uY c m (2*b+c+12)
theorem BP{n c:Nat}:∀(rows:List (List Int)) (b:Nat) (L:List (List Int)),(∀r∈rows,SzL c r/\r.length<=1000)->gP b L->gP (uY c rows.length b) (rows.foldl (eK n) L)
 | [],b,L,_,h=>h
 | r::rows,b,L,hr,h=>BP rows _ _ (λq hq=>hr q (Sl _ hq)) (JX (hr r Sr).1 (hr r Sr).2 h)
theorem Bq(c:Nat):∀(m b:Nat),b<=uY c m b
 | 0,_=>Si _
 | m+1,b=>S4 (by omega) (Bq c m (2*b+c+12))
theorem yO(c:Nat):∀(m J b:Nat),m<=J->uY c m b<=uY c J b
 | 0,J,b,_=>Bq c J b
 | m+1,0,b,h=>absurd h (by omega)
 | m+1,J+1,b,h=>yO c m J _ (by omega)
def da(x:List Int):Nat:=x.foldl (λb y=>b*2+if 0<y then 1 else 0) 0
theorem D8:∀(x:List Int) (b i:Nat),(x.foldl (λb y=>b*2+if 0<y then 1 else 0) b).testBit i=if i<x.length then decide (0<nth x (x.length-1-i)) else b.testBit (i-x.length)
 | [],b,i=>by simp
 | y::x,b,i=>by
  rw[T9,D8 x]
  have c1:(if 0<y then 1 else 0:Nat)<=1:=by split <;> omega
  have J:decide ((if 0<y then 1 else 0:Nat)=1)=decide (0<y):=by
   by_cases hy:0<y
   ·rw[if_pos hy,decide_eq_true hy];rfl
   ·rw[if_neg hy,decide_eq_false hy];rfl
  generalize (if 0<y then 1 else 0:Nat)=c at c1 J
  by_cases h:i<x.length
  ·rw[if_pos h,if_pos (by simp;omega)]
   congr 2
   show nth x (x.length-1-i)=nth (y::x) (x.length+1-1-i)
   rw[show x.length+1-1-i=(x.length-1-i)+1 by omega]
   rfl
  ·rw[if_neg h]
   by_cases h2:i=x.length
   ·subst h2
    rw[if_pos (by simp),Vt,Nat.testBit_zero]
    show _=decide (0<nth (y::x) (x.length+1-1-x.length))
    rw[show x.length+1-1-x.length=0 by omega]
    show _=decide (0<y)
    rw[<- J]
    congr 1
    rw[eq_iff_iff]
    omega
   ·rw[if_neg (by simp;omega),Ss,show i-x.length=(i-(x.length+1))+1 by omega,Nat.testBit_succ]
    congr 1
    omega
theorem pY(x:List Int)(i:Nat):(da x).testBit i=decide (i<x.length/\0<nth x (x.length-1-i)):=by
 unfold da
 rw[D8]
 by_cases h:i<x.length
 ·rw[if_pos h]
  by_cases h2:0<nth x (x.length-1-i)
  ·rw[decide_eq_true h2,decide_eq_true ⟨h,h2⟩]
  ·rw[decide_eq_false h2,decide_eq_false (λz=>h2 z.2)]
 ·rw[if_neg h,decide_eq_false (λz=>h z.1),Nat.zero_testBit]
theorem G8{a b:Nat}:a|||b=b↔∀i,a.testBit i=true->b.testBit i=true:=by
 constructor
 ·intro h i hi
  rw[<- h,Uc,hi,WG]
 ·intro h
  refine VJ λi=> ?_
  rw[Uc]
  cases ha:a.testBit i with
  | true=>rw[h i ha];rfl
  | false=>rw[Bool.false_or]
theorem bits_sub{n:Nat}{l h w:List Int}(J:l.length=n)(Y:h.length=n)(hw:w.length=n)(nl:∀i,0<=nth l i)(nh:∀i,0<=nth h i)(nw:∀i,0<=nth w i):decide (da l|||(da h|||da w)=da h|||da w)=subB n l h w:=by
 rw[TK,decide_eq_true_eq,G8,sq J]
 constructor
 ·intro H i hi
  have lt:i<n:=by
   by_cases e:i<n
   ·exact e
   ·exact absurd (dO (by omega)) hi
  have:=H (n-1-i) (by
   rw[pY]
   refine decide_eq_true ⟨by omega, ?_⟩
   rw[J,show n-1-(n-1-i)=i by omega]
   have:=nl i
   omega)
  rw[Uc,UU,pY,pY,decide_eq_true_eq,decide_eq_true_eq,Y,hw,show n-1-(n-1-i)=i by omega] at this
  rcases this with z | z
  ·exact .inl (by omega)
  ·exact .inr (by omega)
 ·intro H i hi
  rw[pY,decide_eq_true_eq,J] at hi
  rw[Uc,UU,pY,pY,decide_eq_true_eq,decide_eq_true_eq,Y,hw]
  rcases H (n-1-i) (by omega) with z | z
  ·have:=nh (n-1-i)
   exact .inl ⟨hi.1,by omega⟩
  ·have:=nw (n-1-i)
   exact .inr ⟨hi.1,by omega⟩
structure Tight(left y:List Int)(a:Nat):Prop where
 pos:0<nth y a
 min:∀i,0<nth y i->nth left a*nth y i<=nth left i*nth y a
def fD(left y:List Int)(a:Nat):List Int:=(left.zip y).map λp=>p.1*nth y a-p.2*nth left a
def ja(left y:List Int)(bot:Int)(a:Nat):List Int:=low (fD left y a++[bot*nth y a])
abbrev Sh:Type:=(Int×Int)×List Int
def psS(i:Nat)(T:List Sh):Int×Int:=T.foldl (λq s=>(q.1*s.1.2,s.1.2*q.2+s.1.1*q.1*nth s.2 i)) (1,0)
theorem Cn(i:Nat)(T:List Sh)(s:Sh):psS i (T++[s])=((psS i T).1*s.1.2,s.1.2*(psS i T).2+s.1.1*(psS i T).1*nth s.2 i):=by
 unfold psS
 rw[Vf]
 rfl
theorem rT{left y:List Int}{n a:Nat}(J:left.length=n)(hy:y.length=n)(i:Nat):nth (fD left y a) i=nth left i*nth y a-nth y i*nth left a:=by
 have ll:(fD left y a).length=n:=by unfold fD;rw[R9,TN];omega
 by_cases h:i<n
 ·unfold fD nth
  simp[R6,Sa (show i<left.length by omega),Sa (show i<y.length by omega),Sa (show i<(left.zip y).length by rw[TN];omega)]
 ·rw[dO (r:=fD left y a) (i:=i) (by omega),dO (r:=left) (i:=i) (by omega),dO (r:=y) (i:=i) (by omega),TU,TU]
  rfl
theorem Bh{left y:List Int}{n a:Nat}(J:left.length=n)(hy:y.length=n):(fD left y a).length=n:=by
 unfold fD;rw[R9,TN];omega
theorem G6{x y:List Int}{i:Nat}(h:i<x.length):nth (x++y) i=nth x i:=by
 unfold nth
 rw[R6,R6,Sw h]
theorem Hv{x:List Int}{b:Int}:nth (x++[b]) x.length=b:=by
 unfold nth
 rw[R6]
 simp
theorem Ib{x:List Int}{n i:Nat}(h:i<n):nth (x.take n) i=nth x i:=by
 unfold nth
 rw[R6,R6,List.getElem?_take,if_pos h]
structure Red(n:Nat)(left y:List Int)(bot:Int)(a:Nat)(g:Int)(l':List Int)(b':Int):Prop where
 gp:0<g
 len:l'.length=n
 lv:∀i,g*nth l' i=nth left i*nth y a-nth y i*nth left a
 bv:g*b'=bot*nth y a
theorem N2{n:Nat}{left y:List Int}{bot:Int}{a:Nat}(J:left.length=n)(hy:y.length=n):Red n left y bot a (u2 (fD left y a++[bot*nth y a])) ((ja left y bot a).take n) (nth (ja left y bot a) n):=by
 have rl:=Bh (a:=a) J hy
 have Y:(ja left y bot a).length=n+1:=by unfold ja;rw[low_length];simp[rl]
 refine⟨oN _,by rw[TX,Y];omega,λi=> ?_, ?_⟩
 ·by_cases h:i<n
  ·rw[Ib h]
   unfold ja
   rw[<- oo,G6 (by omega),rT J hy]
  ·rw[dO (r:=(ja left y bot a).take n) (by rw[TX];omega),<- rT (a:=a) J hy,dO (r:=fD left y a) (by omega)]
   omega
 ·unfold ja
  rw[<- oo]
  conv=>lhs;rw[<- rl]
  exact Hv
structure Shr(n:Nat)(R:List (List Int))(fit:List Int)(c:Nat)(ps:List (List Int))(T:List Sh)(left:List Int)(bot:Int):Prop where
 len:left.length=n
 nn:∀i,0<=nth left i
 bp:0<bot
 st:∀r∈R,di n (nth r) (nth left)=0
 sub:Sub left fit
 cn:T.length+cnt left<=cnt fit
 good:∀s∈T,0<s.1.1/\0<s.1.2/\SW s.1.1 s.1.2=1/\Sub s.2 fit
 sl:(T.map (·.2)).Sublist ps
 eq:∀i,bot*(psS i T).2+(psS i T).1*nth left i=(psS i T).1*bot*nth fit i
 no:∀y∈ps,¬Sub y left
 sz:SzL (c+8001*T.length) left
 szb:Sz (c+8001*T.length) bot
 szt:∀s∈T,Sz (c+8001*T.length) s.1.1/\Sz (c+8001*T.length) s.1.2
theorem J5{n:Nat}{R:List (List Int)}{fit:List Int}{c:Nat}(J:fit.length=n)(hn:∀i,0<=nth fit i)(Y:∀r∈R,di n (nth r) (nth fit)=0)(hz:SzL c fit)(hc:1<=c):Shr n R fit c [] [] fit 1:=
 ⟨J,hn,by decide,Y,Sub.refl _,by simp,by simp,by simp,λi=>by simp[psS],by simp,λx hx=>(hz x hx).mono (by simp),by
  unfold Sz
  have:2^1<=2^(c+8001*([]:List Sh).length):=Uw (by decide) (by simp;omega)
  omega,by simp⟩
theorem Ij{n:Nat}{R:List (List Int)}{fit:List Int}{c:Nat}{ps:List (List Int)}{T:List Sh}{left y:List Int}{bot:Int}(h:Shr n R fit c ps T left bot)(hy:¬Sub y left):Shr n R fit c (ps++[y]) T left bot:=
 ⟨h.len,h.nn,h.bp,h.st,h.sub,h.cn,h.good,h.sl.trans (List.sublist_append_left _ _),h.eq,λz hz=>by
  rcases Sy.mp hz with q | q
  ·exact h.no z q
  ·rw[Sv.mp q];exact hy,h.sz,h.szb,h.szt⟩
theorem uL{m:Nat}{g x z:Int}(J:0<g)(e:g*x=z)(hz:Sz m z):Sz m x:=by
 unfold Sz at *
 have:x.natAbs<=z.natAbs:=by
  rw[<- e,U2]
  exact Nat.le_mul_of_pos_left _ (by omega)
 omega
theorem EL{g x:Int}(J:0<g)(h:0<g*x):0<x:=Int.lt_of_mul_lt_mul_left (a:=g) (by rw[Vu];exact h) (VR J)
theorem PB{g x:Int}(J:0<g)(h:0<=g*x):0<=x:=Int.le_of_mul_le_mul_left (a:=g) (by rw[Vu];exact h) J
theorem Hc(g h B S P l J y la t b bot f Y b':Int)(hg:g≠0)(hh:h≠0)(e1:la=h*t)(e2:bot*J=h*b)(e3:g*Y=l*J-y*la)(e4:g*b'=bot*J)(hi:bot*S+P*l=P*bot*f):
 b'*(b*S+t*P*y)+P*b*Y=P*b*b'*f:=by
 have k:g*h*(b'*(b*S+t*P*y)+P*b*Y)=g*h*(P*b*b'*f):=by grind
 exact UA (VC hg hh) k
theorem JZ{n:Nat}{R:List (List Int)}{fit:List Int}{c:Nat}{ps:List (List Int)}{T:List Sh}{left y Y:List Int}{bot b' g:Int}{a:Nat}(h:Shr n R fit c ps T left bot)(ly:cV n R y)(hs:Sub y left)(hz:SzL 8000 y)(t:Tight left y a)(r:Red n left y bot a g Y b'):
 Shr n R fit c (ps++[y]) (T++[(rat (nth left a) (bot*nth y a),y)]) Y b':=by
 have yl:=ly.fit.len
 have an:a<n:=ly.fit.lt (i:=a) (by have:=t.pos;omega)
 have ya:=t.pos
 have la:0<nth left a:=by
  have h1:=hs a (by omega)
  have h2:=h.nn a
  omega
 have Bp:0<bot*nth y a:=T4 h.bp ya
 obtain⟨k,k0,_,k1,k2,k3,k4⟩:=Ic (a:=nth left a) (b:=bot*nth y a) (by omega)
 have kp:0<k:=by
  have:0<k*(rat (nth left a) (bot*nth y a)).2:=by rw[<- k2];exact Bp
  exact EL (g:=(rat (nth left a) (bot*nth y a)).2) k3 (by rw[TR];exact this)
 have k5:0<(rat (nth left a) (bot*nth y a)).1:=by
  have:0<k*(rat (nth left a) (bot*nth y a)).1:=by rw[<- k1];exact la
  exact EL kp this
 have y0:=ly.fit.nn
 have J:Sub Y left:=λi hi hz=>by
  have a1:nth y i=0:=by
   by_cases q:nth y i=0
   ·exact q
   ·exact absurd hz (hs i q)
  have:=r.lv i
  rw[hz,a1,TU,TU,Int.sub_self] at this
  rcases Ua.mp this with q | q
  ·have:=r.gp;omega
  ·exact hi q
 have at0:nth Y a=0:=by
  have:=r.lv a
  rw[TR (nth left a),Int.sub_self] at this
  rcases Ua.mp this with q | q
  ·have:=r.gp;omega
  ·exact q
 have am:∀i,Sz (c+8001*T.length+8001) (nth left i*nth y a-nth y i*nth left a):=λi=>by
  have z1:∀j,Sz (c+8001*T.length) (nth left j):=λj=>by
   by_cases q:j<left.length
   ·exact h.sz _ (eP q)
   ·rw[dO (by omega)];exact Sz.zero _
  have z2:∀j,Sz 8000 (nth y j):=λj=>by
   by_cases q:j<y.length
   ·exact hz _ (eP q)
   ·rw[dO (by omega)];exact Sz.zero _
  have:=Sz.sub (Sz.mul (z1 i) (z2 a)) (Sz.mul (z2 i) (z1 a))
  exact this.mono (by omega)
 have zb:Sz (c+8001*T.length+8001) (bot*nth y a):=(Sz.mul h.szb (hz _ (eP (show a<y.length by omega)))).mono (by omega)
 have zl:Sz (c+8001*T.length) (nth left a):=h.sz _ (eP (by rw[h.len];exact an))
 have tl:(T++[((rat (nth left a) (bot*nth y a),y):Sh)]).length=T.length+1:=by simp
 refine⟨r.len,λi=> ?_, ?_,λq hq=> ?_,λi hi=>h.sub i (J i hi), ?_,λs ab=> ?_, ?_,λi=> ?_,λz a2=> ?_,λx hx=> ?_, ?_,λs ab=> ?_⟩
 ·have e:=r.lv i
  have:0<=g*nth Y i:=by
   rw[e]
   by_cases q:0<nth y i
   ·have:=t.min i q
    rw[TR (nth y i)]
    omega
   ·have:nth y i=0:=by have:=y0 i;omega
    rw[this,TU,Int.sub_zero]
    exact TF (h.nn i) (by omega)
  exact PB r.gp this
 ·have:0<g*b':=by rw[r.bv];exact Bp
  exact EL r.gp this
 ·have e1:=h.st q hq
  have e2:=ly.fit.st q hq
  have e3:di n (nth q) (nth (fD left y a))=0:=by
   rw[vd (c:=nth y a) (d:=nth left a) (x:=left) (y:=y) (λi=>by rw[rT h.len yl,TR (nth left i),TR (nth y i)]),e1,e2]
   omega
  have e4:di n (nth q) (nth (fD left y a))=g*di n (nth q) (nth Y):=by
   unfold di
   rw[<- jz]
   refine fF λi _=> ?_
   rw[rT h.len yl,<- r.lv i,Int.mul_left_comm]
  rw[e4] at e3
  rcases Ua.mp e3 with z | z
  ·have:=r.gp;omega
  ·exact z
 ·have:=rE (x:=Y) (y:=left) (m:=a) (by rw[r.len,h.len]) J (by omega) at0
  have:=h.cn
  omega
 ·rcases Sy.mp ab with q | q
  ·exact h.good s q
  ·rw[Sv.mp q]
   exact⟨k5,k3,k4,λi hi=>h.sub i (hs i hi)⟩
 ·rw[SG]
  exact h.sl.append (List.Sublist.refl _)
 ·rw[Cn]
  exact Hc g k (bot*nth y a) (psS i T).2 (psS i T).1 (nth left i) (nth y a) (nth y i) (nth left a) _ _ bot (nth fit i) (nth Y i) b' (by have:=r.gp;omega) k0 k1 k2 (r.lv i) r.bv (h.eq i)
 ·rcases Sy.mp a2 with q | q
  ·exact λz2=>h.no z q λi hi=>J i (z2 i hi)
  ·rw[Sv.mp q]
   exact λz2=>z2 a (by omega) at0
 ·obtain⟨i,hi,rfl⟩:=Tk hx
  have e:Y[i]=nth Y i:=by unfold nth;rw[R6,Sa hi];rfl
  rw[e,tl]
  exact(uL r.gp (r.lv i) (am i)).mono (by omega)
 ·rw[tl]
  exact(uL r.gp r.bv zb).mono (by omega)
 ·rw[tl]
  rcases Sy.mp ab with q | q
  ·exact⟨(h.szt s q).1.mono (by omega),(h.szt s q).2.mono (by omega)⟩
  ·rw[Sv.mp q]
   exact⟨(uL kp k1.symm zl).mono (by omega),(uL kp k2.symm zb).mono (by omega)⟩
theorem Mg{n:Nat}{R:List (List Int)}{fit:List Int}{c:Nat}{ps:List (List Int)}{T:List Sh}{left:List Int}{bot:Int}(h:Shr n R fit c ps T left bot)(all:∀l,cV n R l->l∈ps)(i:Nat):(psS i T).2=(psS i T).1*nth fit i:=by
 have z:∀i,nth left i=0:=λi=>by
  by_cases q:nth left i=0
  ·exact q
  ·obtain⟨l,h1,h2⟩:=va (cnt left) (Si _) (⟨h.len,h.nn,h.st,i,q⟩:Fit n R left)
   exact absurd h2 (h.no l (all l h1))
 have e:=h.eq i
 rw[z i,Vu,VU,TR (psS i T).1 bot,Ww] at e
 exact UA (by have:=h.bp;omega) e
def mkS(C:Int)(i:Nat)(m:Int)(T:List Sh):Int:=T.foldl (λm s=>m+s.1.1*(C/s.1.2)*nth s.2 i) m
abbrev pyL(r:List Int):PyData:=.list (r.map PyData.int)
theorem Au:∀A:List (List Int),jD (A.map vI)=some (A.map pyL)
 | []=>by simp[jD]
 | r::A=>by simp[jD,toPy,pA,Au A]
theorem uJ{O:aC}:∀A:List (List Int),bP O (A.map vI)=A.map vI
 | []=>by simp[bP]
 | r::A=>by simp[bP,res,oM,uJ A]
theorem xj:∀A:List (List Int),PyData.canLayAll0 (A.map pyL)=true
 | []=>by simp[PyData.canLayAll0]
 | r::A=>by simp[PyData.canLayAll0,PyData.canLay0,oB,xj A]
theorem zI:∀A:List (List Int),PyData.depthAll (A.map pyL)<=1
 | []=>by simp[PyData.depthAll]
 | r::A=>by
  have:=zI A
  simp[PyData.depthAll,PyData.depth,pI]
  omega
theorem xF(A:List (List Int)):SeqAt.shaped (.list (A.map pyL))=true:=by
 have:=zI A
 simp[SeqAt.shaped,PyData.canLay0,xj,PyData.depth]
 omega
theorem DY:∀A B:List (List Int),PyData.eqvAll (A.map pyL) (B.map pyL)=decide (A=B)
 | [],[]=>by simp[PyData.eqvAll]
 | [],_::_=>by simp[PyData.eqvAll]
 | _::_,[]=>by simp[PyData.eqvAll]
 | a::r,b::t=>by
  simp only[Sm,PyData.eqvAll,PyData.eqv,rY,DY r t]
  by_cases h:a=b <;> by_cases h':r=t <;> simp[h,h']
theorem LL{O:aC}(A B:List (List Int)):eqB O (vII A) (vII B)=some (decide (A=B)):=by
 show iu O _ _=_
 unfold iu
 simp only[res,uJ,toPy,Au,Tn]
 rw[if_pos ⟨xF A,xF B⟩]
 simp only[PyData.eqv,DY]
def jL(made:List Int)(t:Int)(row:List Int):List Int:=Tq (λx y=>x+t*y) made row
theorem ET{made row:List Int}(h:made.length=row.length)(t:Int):(jL made t row).length=made.length:=by unfold jL;rw[Tz,<- h,Nat.min_self]
theorem dB{ok:aC->Prop}{g:GM}{body:SM}{d:D}{ds:List D}{s s1 s2:S}(J:ok s.o)(Y:g d s=.ok s1)(hb:body s1=.next s2):cx ok g body (d::ds) s=cx ok g body ds s2:=by
 rw[cx,if_pos J,Y,nu,hb]
theorem Jt{α:Type}(l:List α):pick l none none (some (-1))=l.reverse:=by
 have hb:sliceBounds none none (some (-1)) l.length=((l.length:Int)-1,-1,-1):=by
  unfold sliceBounds
  rfl
 have J:sliceRange ((l.length:Int)-1) (-1) (-1)=(Sg l.length).map λ(k:Nat)=>((l.length:Int)-1 + -1*(k:Int)).toNat:=by
  unfold sliceRange
  have hc:(if (-1:Int)>0 then (if (l.length:Int)-1 < -1 then (-1-((l.length:Int)-1) + -1-1) / -1 else 0) else (if (l.length:Int)-1 > -1 then ((l.length:Int)-1 - -1 - -1-1) / - -1 else 0)).toNat=l.length:=by
   rw[if_neg (by decide)]
   split
   ·rw[show (- -1:Int)=1 by decide,Int.ediv_one];omega
   ·omega
  dsimp only
  rw[hc]
 unfold pick
 rw[hb]
 dsimp only
 rw[J]
 have key:∀m,m<=l.length->((Sg m).map λ(k:Nat)=>((l.length:Int)-1 + -1*(k:Int)).toNat).filterMap (l[·]?)=(l.reverse).take m:=by
  intro m
  induction m with
  | zero=>intro _;rfl
  | succ m Y=>
   intro hm
   rw[Wn,SG,List.filterMap_append,Y (by omega),List.take_succ,List.getElem?_reverse (by omega)]
   congr 1
   rw[List.map_singleton,show ((l.length:Int)-1 + -1*(m:Int)).toNat=l.length-1-m by omega,Sa (by omega)]
   simp[Sa (show l.length-1-m<l.length by omega)]
 rw[key l.length (Si _),Ti (by simp)]
abbrev sg(z:Str):List Nat:=z.cps.toList
theorem xc(z:Str):(sg z).length=z.length:=by unfold Str.length;simp
theorem tI{a b:Str}(h:sg a=sg b):a=b:=Str.ext' (Vq.mp h)
theorem AY(a b:Str):sg (a++b)=sg a++sg b:=by
 show ((a++b:Str).cps).toList=_
 rw[Str.cps_append];simp
theorem BF{z:Str}{lo hi:Option Int}{a b:Nat}(Y:a<=b)(hb:b<=z.length)(h:Builtin.Str.strSliceIndices lo hi 1 z.length=(Sg (b-a)).map (λk=>a+k)):sg (nL z lo hi)=((sg z).drop a).take (b-a):=by
 have key:(((Sg (b-a)).map (λk=>a+k)).filterMap (λi=>(sg z)[i]?))=((sg z).drop a).take (b-a):=StrLaws.picks (sg z) (b-a) a (by rw[xc];omega)
 unfold nL
 rw[h]
 split
 ·rename_i J
  have J:b-a=z.length:=by simpa using J
  have ha:a=0:=by omega
  subst ha
  rw[U3,Ti (by rw[xc];omega)]
 ·rw[<- key]
  simp[sg]
theorem OU{n b:Nat}(h:b<=n):Builtin.Str.strSliceIndices none (some (b:Int)) 1 n=(Sg (b-0)).map (λk=>0+k):=by
 rw[<- StrLaws.strSliceIndices_plain (S1 b) h]
 unfold Builtin.Str.strSliceIndices
 simp
 rw[show max (0:Int) (min 0 (n:Int))=0 by omega]
theorem OJ{n a:Nat}(h:a<=n):Builtin.Str.strSliceIndices (some (a:Int)) none 1 n=(Sg (n-a)).map (λk=>a+k):=by
 rw[<- StrLaws.strSliceIndices_plain h (Si n)]
 unfold Builtin.Str.strSliceIndices
 simp
 rw[if_neg (show ¬(n:Int)<0 by omega),show max (0:Int) (min (n:Int) (n:Int))=(n:Int) by omega]
theorem LZ{z:Str}{b:Nat}(h:b<=z.length):sg (nL z none (some (b:Int)))=(sg z).take b:=by
 rw[BF (S1 b) h (OU h),U3,VT]
theorem Lb{z:Str}{a:Nat}(h:a<=z.length):sg (nL z (some (a:Int)) none)=(sg z).drop a:=by
 rw[BF h (Si _) (OJ h),Ti]
 rw[V7,xc];omega
section
variable {s s1 s2 : S} {R R' : List (Option D)} {O O' : aC} {d x y : D} {xs ys : List D}
theorem aI{f:Op2}{ma mb:EM}(ha:ma s=.ok (x,s1))(hb:mb s1=.ok (y,s2))(J:f s2.o x y=.ok d):ak f ma mb s=.ok (d,s2):=by
 rw[eO,ha,aj];dsimp only;rw[hb,aj];dsimp only;rw[J,aj]
theorem uc{f:Op1}{ma:EM}(ha:ma s=.ok (x,s1))(J:f s1.o x=.ok d):unM f ma s=.ok (d,s1):=by
 rw[Oj,ha,aj];dsimp only;rw[J,aj]
theorem dq{f:OpN}{ma:AM}(ha:ma s=.ok (xs,s1))(J:f s1.o xs=.ok d):bf f ma s=.ok (d,s1):=by
 rw[g7,ha,aj];dsimp only;rw[J,aj]
theorem ax{m:EM}{r:AM}(ha:m s=.ok (x,s1))(hb:r s1=.ok (ys,s2)):ae m r s=.ok (x::ys,s2):=by
 rw[bh,ha,aj];dsimp only;rw[hb,aj]
theorem qx{ma:AM}(ha:ma s=.ok (xs,s1))(J:xs.length<=16777216):kC ma s=.ok (.tup xs,s1):=by
 rw[D2,ha,aj];dsimp only;rw[if_pos J]
theorem qD{ma:AM}(ha:ma s=.ok (xs,s1))(J:xs.length<=16777216):jy ma s=.ok (.lst xs,s1):=by
 rw[LC,ha,aj];dsimp only;rw[if_pos J]
theorem oQ{ma:AM}{n:Nat}(ha:ma s=.ok (xs,⟨R,O⟩))(J:xs.length<=16777216)(hn:O.length=n)(Y:O++[.lst xs]=O'):jG ma s=.ok (.ptr n,⟨R,O'⟩):=by
 rw[LY,ha,aj];dsimp only;rw[if_pos J,hn,Y]
theorem cZ{m:EM}{b:Bool}(h:m s=.ok (.bl b,s1)):bc m s=.ok (b,s1):=by
 rw[g9,h,aj]
theorem oC{m:TM}{b:Bool}(h:m s=.ok (b,s1)):kB m s=.ok (!b,s1):=by
 rw[xT,h,aj]
theorem Pp{a b:TM}{p q:Bool}(h:a s=.ok (p,s1))(h2:b s1=.ok (q,s1)):orT a b s=.ok (p||q,s1):=by
 rw[xk,h,aj];dsimp only;cases p
 ·rw[if_neg (by decide),h2];rfl
 ·rfl
theorem ni{a b:TM}{p q:Bool}(h:a s=.ok (p,s1))(hp:p=false)(h2:b s1=.ok (q,s2)):orT a b s=.ok (q,s2):=by
 subst hp;rw[xk,h,aj];exact h2
theorem FU{a b:TM}{p q:Bool}(h:a s=.ok (p,s1))(hp:p=true)(h2:b s1=.ok (q,s2)):o8 a b s=.ok (q,s2):=by
 subst hp;rw[yi,h,aj];exact h2
theorem MJ{a b:TM}{p:Bool}(h:a s=.ok (p,s1))(hp:p=false):o8 a b s=.ok (false,s1):=by
 subst hp;rw[yi,h,aj];rfl
theorem bu{m:EM}{i:Nat}(h:m s=.ok (d,⟨R,O⟩))(J:R.set i (some d)=R'):setM i m s=.next ⟨R',O⟩:=by
 subst J;exact uK h
theorem mz{mo me:EM}{k:Nat}{J ds:List D}(h1:mo s=.ok (.ptr k,s1))(c1:s1.o[k]? =some (.lst J))(h2:me s1=.ok (d,⟨R,O⟩))(Y:O[k]? =some (.lst ds))(hb:ds.length<=1000000)(hO:O.set k (.lst (ds++[d]))=O'):ip mo me s=.ok (.non,⟨R,O'⟩):=by
 subst hO;exact xR (s2:=⟨R,O⟩) h1 c1 h2 Y hb
theorem pJ{m:EM}{k:Nat}{ds:List D}(h:m s=.ok (.ptr k,⟨R,O⟩))(c:O[k]? =some (.lst ds))(J:O.set k .dead=O'):jw m s=.ok (.lst ds,⟨R,O'⟩):=by
 subst J;exact Le h c
theorem NC{f:List D->Option (List D×D)}{mo:EM}{k:Nat}{ds es:List D}(h:mo s=.ok (.ptr k,⟨R,O⟩))(hc:O[k]? =some (.lst ds))(J:f ds=some (es,d))(Y:O.set k (.lst es)=O'):xt f mo s=.ok (d,⟨R,O'⟩):=by
 subst Y
 unfold xt
 rw[h,aj]
 dsimp only
 rw[oq hc]
 dsimp only
 rw[J]
theorem LV{m:EM}{n:Nat}{ds:List D}(h:m s=.ok (x,⟨R,O⟩))(J:uO O x=some ds)(hn:O.length=n)(Y:O++[.lst ds]=O'):An m s=.ok (.ptr n,⟨R,O'⟩):=by
 rw[IA,h,aj];dsimp only;rw[J];dsimp only;rw[hn,Y]
theorem OR{c:Nat}{f:Str}{m:EM}{ns:List Str}{ds:List D}(h:m s=.ok (.obj c ns ds,s1))(hd:qO f ns ds=some d):o7 c f m s=.ok (d,s1):=by
 rw[Ej,h,aj]
 dsimp only
 rw[if_pos rfl,hd]
theorem pU{c n:Nat}{m:Str}{f:FM}{mo:EM}{ma:AM}{ns:List Str}{ds args:List D}{O1:aC}(J:mo s=.ok (.obj c ns ds,s1))(ha:ma s1=.ok (args,s2))(Y:f (.obj c ns ds::args) []=.ok (x,O1))(hm:m∉ns)(hd:aP ds=true)(hp:aP args=true)(hl:args.length=n)(hr:df x=true):
 methP c m n f mo ma s=.ok (x,s2):=sv J hm hd ha hp hl Y hr
theorem dE{n:Nat}{f:FM}{ma:AM}{ds:List D}{O1:aC}(h:ma s=.ok (ds,s1))(J:f ds []=.ok (d,O1))(hp:aP ds=true)(Y:ds.length=n)(hd:df d=true):aQ n f ma s=.ok (d,s1):=eJ h hp Y J hd
theorem i3{n:Nat}{f:FM}{ma:AM}{ds:List D}{O1:aC}(h:ma s=.ok (ds,⟨R,O⟩))(J:f ds []=.ok (x,O1))(hp:aP ds=true)(Y:ds.length=n)(hx:shD O.length x=y)(hO:O++O1.map (shC O.length)=O'):dY n f ma s=.ok (y,⟨R,O'⟩):=by
 subst hx;subst hO;exact Js h hp Y J
theorem pQ{n:Nat}{f:FM}{ma:AM}{ds rs:List D}{O1:aC}(h:ma s=.ok (ds,s1))(J:bP s1.o (bP s1.o ds)=rs)(Y:f rs []=.ok (d,O1))(hp:aP rs=true)(hl:ds.length=n)(hd:pC d=true):fQ n f ma s=.ok (d,s1):=by
 unfold fQ
 rw[h,aj]
 dsimp only
 rw[J,if_pos ⟨hp,hl⟩,Y]
 dsimp only
 rw[if_pos hd]
theorem DW{n:Nat}{f:FM}{ma:AM}{ds:List D}{O1:aC}(h:ma s=.ok (ds,⟨R,O⟩))(J:f ds O=.ok (d,O1))(Y:ds.length=n):uG n f ma s=.ok (d,⟨R,O1⟩):=Jq h Y J
theorem OW{c:TM}{A B:SM}{p:Bool}(h:c s=.ok (p,s1))(hp:p=true):ifS c A B s=A s1:=by subst hp;exact Ka h
theorem OF{c:TM}{A B:SM}{p:Bool}(h:c s=.ok (p,s1))(hp:p=false):ifS c A B s=B s1:=by subst hp;exact nS h
theorem qa(s:S):iO s=.ok (none,s):=rfl
theorem xC{m:EM}{i:Int}(h:m s=.ok (.int i,s1)):part m s=.ok (some i,s1):=by rw[Et,h,aj]
theorem PX{me:EM}{Y mh:OM}{lo hi:Option Int}{J:S}{ds es:List D}(h:me s=.ok (x,s1))(hl:Y s1=.ok (lo,s2))(hh:mh s2=.ok (hi,J))(hd:lsD J.o x=some ds)(he:cutD ds lo hi=es):slM me Y mh s=.ok (.lst es,J):=by
 rw[Hl,h,aj];dsimp only;rw[hl,aj];dsimp only;rw[hh,aj];dsimp only;rw[hd];dsimp only;rw[he]
theorem Fb{m:EM}{g:GM}(h:m s=.ok (d,s1))(J:g d s1=.ok s2):lN m g s=.next s2:=by
 rw[DU,h,aj];dsimp only;rw[J,nu]
theorem Ef{i:Nat}(J:R.set i (some d)=R'):aE i d ⟨R,O⟩=.ok ⟨R',O⟩:=by subst J;rfl
theorem Lh{g h:GM}{a b:D}(h1:g a s=.ok s1)(h2:h b s1=.ok s2):cI (aS g (aS h cL)) 2 (.tup [a,b]) s=.ok s2:=by
 rw[iW,h1,aj,h2]
end
section
variable {s s1 : S} {o : Out}
theorem aT{a b:SM}(h:a s=.next s1)(k:b s1=o):aN a b s=o:=(dX h).trans k
theorem lu{c:TM}{A B:SM}{p:Bool}(h:c s=.ok (p,s1))(hp:p=true)(k:A s1=o):ifS c A B s=o:=(OW h hp).trans k
theorem dN{c:TM}{A B:SM}{p:Bool}(h:c s=.ok (p,s1))(hp:p=false)(k:B s1=o):ifS c A B s=o:=(OF h hp).trans k
theorem eM{n:Nat}{m:SM}{ds:List D}{O O1:aC}{d:D}{R:List (Option D)}(h:m ⟨ds.map some++Sb (n-ds.length) none,O⟩=.ret d ⟨R,O1⟩):runM n m ds O=.ok (d,O1):=dZ h
theorem ME{n:Nat}{m:SM}{ds:List D}{O O1:aC}{R:List (Option D)}(h:m ⟨ds.map some++Sb (n-ds.length) none,O⟩=.next ⟨R,O1⟩):runM n m ds O=.ok (.non,O1):=by unfold runM;rw[h]
end
section
variable {s s1 s2 : S} {c : Nat} {a : D} {o : Out}
end
theorem KY{n:Nat}{f:FM}{ma:AM}{s:S}{R:List (Option D)}{O O1 O':aC}{x y:D}{ds rs:List D}(h:ma s=.ok (ds,⟨R,O⟩))(Y:bP O (bP O ds)=rs)(hf:f rs []=.ok (x,O1))(hp:aP rs=true)(hl:ds.length=n)(hd:uT x=true)(J:O1.all Ao=true)(hx:shD O.length x=y)(hO:O++O1.map (shC O.length)=O'):xA n f ma s=.ok (y,⟨R,O'⟩):=by
 subst hx;subst hO
 unfold xA
 rw[h,aj]
 dsimp only
 rw[Y,if_pos ⟨hp,hl⟩,hf]
 dsimp only
 rw[if_pos ⟨hd,J⟩]
abbrev cD(L:List (Nat×List Int)):List D:=L.map λp=>.ptr p.1
def Sto(O:aC)(L:List (Nat×List Int)):Prop:=∀p∈L,O[p.1]? =some (.lst (p.2.map D.int))
theorem Sto.app{O:aC}{L:List (Nat×List Int)}(h:Sto O L)(E:aC):Sto (O++E) L:=λp hp=>fO (h p hp)
theorem Sto.set{O:aC}{L:List (Nat×List Int)}(h:Sto O L){k:Nat}(hk:∀p∈L,p.1≠k)(c:Cell):Sto (O.set k c) L:=λp hp=>by rw[cS λz=>hk p hp z.symm];exact h p hp
theorem Sto.lt{O:aC}{L:List (Nat×List Int)}(h:Sto O L){p:Nat×List Int}(hp:p∈L):p.1<O.length:=qf (h p hp)
theorem xq{α:Type}{ok:aC->Prop}{e:EM}{cap:List (Option D)}{item:α->D}{f:α->List Int}{T:α->Nat->Prop}(I:aC->Prop)(hI:∀O E,I O->I (O++E))(Y:∀O,I O->ok O):
 ∀(l:List α) (J:List D) (x:Option D) (O:aC),I O->J.length+l.length<=16777216->
 (∀a∈l,∀O,I O->∃q E,e ⟨some (item a)::cap,O⟩=.ok (.ptr q,⟨some (item a)::cap,O++E⟩)/\(O++E)[q]? =some (.lst ((f a).map D.int))/\(T a q\/O.length<=q))->
 ∃(L:List (Nat×List Int)) (E:aC) (x':Option D),eV ok (aE 0) bV e (l.map item) J ⟨x::cap,O⟩=.ok (J++cD L,⟨x'::cap,O++E⟩)/\L.map (·.2)=l.map f/\Sto (O++E) L/\∀p∈L,(∃a∈l,T a p.1)\/O.length<=p.1
 | [],J,x,O,h,_,_=>⟨[],[],x,by rw[S5,eV,if_pos (Y _ h)];simp,rfl,(λp hp=>by cases hp),(λp hp=>by cases hp)⟩
 | a::l,J,x,O,h,hl,he=>by
  obtain⟨q,E,e1,e2,e3⟩:=he a Sr O h
  rw[Ss] at hl
  obtain⟨L,E',x',e4,e5,e6,e7⟩:=xq (T:=T) I hI Y l (J++[.ptr q]) (some (item a)) (O++E) (hI O E h) (by simp;omega) (λa ha=>he a (Sl _ ha))
  refine⟨(q,f a)::L,E++E',x', ?_,by simp[e5],λp hp=> ?_,λp hp=> ?_⟩
  ·rw[Sm,eV,if_pos ⟨Y _ h,by omega⟩,J4,aj,Ii,aj]
   dsimp only
   rw[if_pos rfl,show (⟨List.set (x::cap) 0 (some (item a)),O⟩:S)=⟨some (item a)::cap,O⟩ from rfl,e1,aj]
   dsimp only
   rw[e4]
   simp
  ·rw[<- S7]
   rcases SA.mp hp with rfl | hp
   ·exact fO e2
   ·exact e6 p hp
  ·rcases SA.mp hp with rfl | hp
   ·rcases e3 with e3 | e3
    ·exact .inl ⟨a,Sr,e3⟩
    ·exact .inr e3
   ·rcases e7 p hp with⟨b,hb,z⟩ | z
    ·exact .inl ⟨b,Sl _ hb,z⟩
    ·exact .inr (by rw[SH] at z;omega)
theorem JR(O:aC)(c d:Cell):(O++[c]).set O.length d=O++[d]:=by
 induction O with
 | nil=>rfl
 | cons a O J=>exact congrArg (a:: ·) J
section
variable {α β : Type} (f g : α → β)
end
end M
namespace Lk22
open PySem PySem.Spec PyProof.Rows L2 M
def top(i:Nat):Stmt:=PySem.Challenge.pw_modeyard_k22_balanced_ways_parted.main.body.getD i (.Pass ⟨0,0,0,0⟩)
abbrev lg:Stmt:=top 11
abbrev gb:Stmt:=top 12
abbrev m9:Stmt:=top 13
abbrev oi:Stmt:=top 14
abbrev pT:Stmt:=top 15
abbrev fI:Stmt:=top 17
abbrev rJ:Stmt:=top 18
abbrev pW:Stmt:=top 19
abbrev nZ:Stmt:=top 20
abbrev fq:Stmt:=top 21
abbrev kb:Stmt:=top 23
abbrev kO:Stmt:=top 24
abbrev fY:Stmt:=top 25
abbrev fo:Stmt:=top 26
abbrev rn:Stmt:=top 27
abbrev ke:Stmt:=top 28
abbrev fZ:Stmt:=top 29
abbrev oh:Stmt:=top 30
abbrev lK:Stmt:=inClass (top 49) 5
abbrev j1:Stmt:=inClass (top 49) 6
abbrev jl:Stmt:=inClass (top 49) 3
abbrev rA:Stmt:=top 32
abbrev fV:Stmt:=inClass (top 49) 7
abbrev iE:Stmt:=inClass (top 49) 8
abbrev gy:Stmt:=inClass (top 49) 9
abbrev og:Stmt:=top 33
abbrev mZ:Stmt:=top 38
abbrev jk:Stmt:=top 39
abbrev je:Stmt:=top 40
abbrev iJ:Stmt:=top 41
abbrev jb:Stmt:=top 42
abbrev gZ:Stmt:=top 43
abbrev iI:Stmt:=top 44
abbrev iC:Stmt:=top 45
abbrev jV:Stmt:=top 46
abbrev j9:Stmt:=top 47
abbrev j2:Stmt:=top 48
abbrev jZ:Stmt:=inClass (top 49) 0
abbrev lr:Stmt:=top 51
abbrev kW:Stmt:=top 52
abbrev jX:Stmt:=top 53
abbrev lF:Stmt:=top 54
abbrev jY:Stmt:=top 55
abbrev j7:Stmt:=top 56
abbrev i9:Stmt:=top 57
abbrev i5:Stmt:=top 58
abbrev iH:Stmt:=top 59
abbrev fM:Stmt:=top 60
abbrev j5:Stmt:=top 61
abbrev pL:Stmt:=top 62
def caK(K:R4):Nat->Addr:=λn=>match n with
 | 0=>clsAt K "Yard"
 | _=>0
noncomputable def jx:SM:=
 (cq (AV (unM (iX "int") (aa 0)) (BX (unM (iX "bool") (aa 0)))))
noncomputable def eX:FM:=runM 1 jx
noncomputable def uy:SM:=
 (aN (setM 2 (ak gM (aa 0) (aa 1)))
 (aN (setM 0 (aa 1))
 (setM 1 (aa 2))))
noncomputable def ir:SM:=
 (aN (setM 0 (bf tT (ae (aa 0) ao)))
 (aN (setM 1 (bf tT (ae (aa 1) ao)))
 (aN (ue (λs=>u4 1 s) (bc (ak neD (aa 1) (aq (.int 0))))
 uy)
 (cq (aa 0)))))
noncomputable def d8:FM:=runM 3 ir
noncomputable def oG:SM:=
 (setM 1 (aQ 2 d8 (ae (aa 1) (ae (aa 2) ao))))
noncomputable def ng:SM:=
 (aN (setM 1 (aq (.int 0)))
 (aN (eC (listI (aa 0)) (aE 2)
 oG)
 (cq (aa 1))))
noncomputable def mX:FM:=runM 3 ng
noncomputable def jB:SM:=
 (aN (setM 1 (aQ 1 mX (ae (aa 0) ao)))
 (aN (ifS (bc (ak eqD (aa 1) (aq (.int 0))))
 (cq (An (aa 0)))
 bU)
 (cq (pG 1 [1] (listI (aa 0)) (aE 0) bV (ak iy (aa 0) (aa 1))))))
noncomputable def jq:FM:=runM 2 jB
noncomputable def rq:SM:=
 (aN (ifS (orT (kB (bc (aQ 1 eX (ae (aa 0) ao)))) (kB (bc (aQ 1 eX (ae (aa 1) ao)))))
 lO
 bU)
 (aN (ifS (bc (ak eqD (aa 1) (aq (.int 0))))
 lO
 bU)
 (aN (setM 2 (aQ 2 d8 (ae (aa 0) (ae (aa 1) ao))))
 (aN (ifS (bc (ak ltD (aa 1) (aq (.int 0))))
 (setM 2 (unM mI (aa 2)))
 bU)
 (cq (kC (ae (ak iy (aa 0) (aa 2)) (ae (ak iy (aa 1) (aa 2)) ao))))))))
noncomputable def nY:FM:=runM 3 rq
noncomputable def dC:SM:=
 (cq (bf ui (ae (bR 2 [] (qQ (ae (aa 0) (ae (aa 1) ao))) (cI (aS (aE 0) (aS (aE 1) cL)) 2) bV (ak cF (aa 0) (aa 1))) ao)))
noncomputable def bS:FM:=runM 2 dC
noncomputable def tO:SM:=
 (aN (setM 2 (BM t7 (ae (aq (.int 0)) ao) (aa 1)))
 (aN (lN (aq (.int 1)) (wN (aa 2) (aa 0)))
 (cq (aa 2))))
noncomputable def rf:FM:=runM 3 tO
noncomputable def rj:SM:=
 (cq (bR 1 [0] (du (ae (aa 0) ao)) (aE 0) bV (dY 2 rf (ae (aa 0) (ae (aa 1) ao)))))
noncomputable def qZ:FM:=runM 1 rj
noncomputable def qm:SM:=
 (aN (setM 4 (bR 2 [1,3] (qQ (ae (aa 0) (ae (aa 2) ao))) (cI (aS (aE 0) (aS (aE 1) cL)) 2) bV (ak jA (ak cF (aa 0) (aa 3)) (ak cF (aa 1) (aa 2)))))
 (cq (dY 1 jq (ae (aa 4) ao))))
noncomputable def n9:FM:=runM 5 qm
noncomputable def cN:SM:=
 (ifS (bc (ak neD (aa 2) (aq (.int 0))))
 (cq (aa 1))
 bU)
noncomputable def d7:SM:=
 (aN (eC (cT (ae (aa 0) ao)) (cI (aS (aE 1) (aS (aE 2) cL)) 2)
 cN)
 (cq (aq .non)))
noncomputable def gw:FM:=runM 3 d7
noncomputable def o6:SM:=
 (aN (setM 1 (ak cF (aa 1) (aq (.int 2))))
 (ifS (bc (ak gtD (aa 2) (aq (.int 0))))
 (setM 1 (ak bt (aa 1) (aq (.int 1))))
 bU))
noncomputable def gT:SM:=
 (aN (setM 1 (aq (.int 0)))
 (aN (eC (listI (aa 0)) (aE 2)
 o6)
 (cq (aa 1))))
noncomputable def dv:FM:=runM 3 gT
noncomputable def jE:SM:=
 (cq (ak eqD (ak orD (aa 0) (aa 1)) (aa 1)))
noncomputable def gd:FM:=runM 2 jE
noncomputable def iq:SM:=
 (aN (setM 3 (ak orD (aa 0) (aa 1)))
 (cq (ak eqD (bf bO (ae (bR 1 [3] (listI (aa 2)) (aE 0) (bc (aQ 2 gd (ae (aa 0) (ae (aa 1) ao)))) (aa 0)) ao)) (aq (.int 2)))))
noncomputable def fU:FM:=runM 4 iq
noncomputable def gN:SM:=
 (ifS (bc (aQ 3 fU (ae (ak ixD (aa 3) (aa 7)) (ae (ak ixD (aa 3) (aa 8)) (ae (aa 3) ao)))))
 (de (ip (aa 4) (xA 4 n9 (ae (ak ixD (aa 0) (aa 8)) (ae (ak ixD (aa 2) (aa 8)) (ae (ak ixD (aa 0) (aa 7)) (ae (ak ixD (aa 2) (aa 7)) ao)))))))
 bU)
noncomputable def jo:SM:=
 (eC (listI (aa 6)) (aE 8)
 gN)
noncomputable def gr:SM:=
 (aN (setM 2 (bR 1 [1] (listI (aa 0)) (aE 0) bV (fQ 2 bS (ae (aa 1) (ae (aa 0) ao)))))
 (aN (setM 3 (bR 1 [] (listI (aa 0)) (aE 0) bV (fQ 1 dv (ae (aa 0) ao))))
 (aN (setM 4 (pG 2 [] (qQ (ae (aa 0) (ae (aa 2) ao))) (cI (aS (aE 0) (aS (aE 1) cL)) 2) (bc (ak eqD (aa 1) (aq (.int 0)))) (aa 0)))
 (aN (setM 5 (bR 2 [] (cT (ae (aa 2) ao)) (cI (aS (aE 0) (aS (aE 1) cL)) 2) (bc (ak gtD (aa 1) (aq (.int 0)))) (aa 0)))
 (aN (setM 6 (bR 2 [] (cT (ae (aa 2) ao)) (cI (aS (aE 0) (aS (aE 1) cL)) 2) (bc (ak ltD (aa 1) (aq (.int 0)))) (aa 0)))
 (aN (eC (listI (aa 5)) (aE 7)
 jo)
 (cq (jw (aa 4)))))))))
noncomputable def gq:FM:=runM 9 gr
noncomputable def wG:SM:=
 (setM 2 (uG 2 gq (ae (aa 2) (ae (aa 3) ao))))
noncomputable def qe:SM:=
 (aN (setM 2 (uG 1 qZ (ae (aa 1) ao)))
 (aN (eC (listI (aa 0)) (aE 3)
 wG)
 (cq (uQ t7 (aa 2)))))
noncomputable def mf:FM:=runM 4 qe
noncomputable def lX:SM:=
 (aN (ifS (bc (ak neD (bf bO (ae (aa 2) ao)) (aa 1)))
 lO
 bU)
 (aN (ifS (bc (bf AO (ae (bR 1 [] (listI (aa 2)) (aE 0) bV (ak ltD (aa 0) (aq (.int 0)))) ao)))
 lO
 bU)
 (ifS (bc (bf AO (ae (bR 1 [2] (listI (aa 0)) (aE 0) bV (ak neD (aQ 2 bS (ae (aa 0) (ae (aa 1) ao))) (aq (.int 0)))) ao)))
 lO
 bU)))
noncomputable def lW:FM:=runM 3 lX
noncomputable def ee:SM:=
 (ifS (o8 (bc (ak gtD (aa 4) (aq (.int 0)))) (bc (ak ltD (ak cF (ak ixD (aa 0) (aa 3)) (ak ixD (aa 1) (aa 2))) (ak cF (ak ixD (aa 0) (aa 2)) (aa 4)))))
 (setM 2 (aa 3))
 bU)
noncomputable def hX:SM:=
 (aN (setM 2 (aQ 1 gw (ae (aa 1) ao)))
 (aN (eC (cT (ae (aa 1) ao)) (cI (aS (aE 3) (aS (aE 4) cL)) 2)
 ee)
 (cq (aa 2))))
noncomputable def fT:FM:=runM 5 hX
noncomputable def nG:SM:=
 (ifS (bc (aQ 2 gd (ae (fQ 1 dv (ae (aa 6) ao)) (ae (fQ 1 dv (ae (aa 4) ao)) ao))))
 (aN (setM 7 (fQ 2 fT (ae (aa 4) (ae (aa 6) ao))))
 (aN (de (ip (aa 3) (kC (ae (aQ 2 nY (ae (ak ixD (aa 4) (aa 7)) (ae (ak cF (aa 5) (ak ixD (aa 6) (aa 7))) ao))) (ae (aa 6) ao)))))
 (aN (setM 8 (tx 2 [7,4,6] (AG (ae (aa 4) (ae (aa 6) ao))) (cI (aS (aE 0) (aS (aE 1) cL)) 2) bV (ak jA (ak cF (aa 0) (ak ixD (aa 4) (aa 2))) (ak cF (aa 1) (ak ixD (aa 3) (aa 2))))))
 (aN (setM 9 (jw (dY 1 jq (ae (ak bt (aa 8) (jy (ae (ak cF (aa 5) (ak ixD (aa 6) (aa 7))) ao))) ao))))
 (aN (setM 4 (slM (aa 9) iO (part (aa 1))))
 (setM 5 (ak ixD (aa 9) (aa 1))))))))
 bU)
noncomputable def qb:SM:=
 (aN (de (aQ 3 lW (ae (aa 0) (ae (aa 1) (ae (aa 2) ao)))))
 (aN (setM 3 (jG ao))
 (aN (setM 4 (bf ju (ae (aa 2) ao)))
 (aN (setM 5 (aq (.int 1)))
 (aN (eC (listI (jw (dY 2 mf (ae (aa 0) (ae (aa 1) ao))))) (aE 6)
 nG)
 (cq (aa 3)))))))
noncomputable def qo:FM:=runM 10 qb
noncomputable def nI:SM:=
 (cq (bR 1 [1] (listI (o7 0 "held_changes" (aa 0))) (aE 0) bV (ak ixD (aa 0) (aa 1))))
noncomputable def kN:FM:=runM 2 nI
noncomputable def gk:SM:=
 (cq (bR 1 [0] (du (ae (bf bO (ae (o7 0 "held_goods" (aa 0)) ao)) ao)) (aE 0) bV (methP 0 "row" 1 kN (aa 1) (ae (aa 0) ao))))
noncomputable def dR:FM:=runM 1 gk
noncomputable def hU:SM:=
 (cq (bR 1 [] (listI (o7 0 "held_works" (aa 0))) (aE 0) bV (ak ixD (aa 0) (aq (.int 0)))))
noncomputable def gn:FM:=runM 1 hU
noncomputable def rD:SM:=
 (cq (dY 2 mf (ae (methP 0 "rows" 0 dR (aa 0) ao) (ae (bf bO (ae (methP 0 "names" 0 gn (aa 0) ao) ao)) ao))))
noncomputable def nF:FM:=runM 1 rD
noncomputable def hE:SM:=
 (aN (ifS (bc (ak neD (bf bO (ae (aa 1) ao)) (bf bO (ae (o7 0 "held_works" (aa 0)) ao))))
 lO
 bU)
 (ifS (bc (bf AO (ae (bR 1 [] (listI (aa 1)) (aE 0) bV (ak ltD (aa 0) (aq (.int 0)))) ao)))
 lO
 bU))
noncomputable def fW:FM:=runM 2 hE
noncomputable def jS:SM:=
 (aN (de (methP 0 "check_way" 1 fW (aa 0) (ae (aa 1) ao)))
 (cq (bR 1 [1] (listI (methP 0 "rows" 0 dR (aa 0) ao)) (aE 0) bV (aQ 2 bS (ae (aa 0) (ae (aa 1) ao))))))
noncomputable def gD:FM:=runM 2 jS
noncomputable def iR:SM:=
 (cq (bf yo (ae (bR 1 [] (listI (methP 0 "leaves" 1 gD (aa 0) (ae (aa 1) ao))) (aE 0) bV (ak eqD (aa 0) (aq (.int 0)))) ao)))
noncomputable def gz:FM:=runM 2 iR
noncomputable def nV:SM:=
 (aN (ifS (kB (bc (methP 0 "balanced" 1 gz (aa 0) (ae (aa 1) ao))))
 lO
 bU)
 (cq (dY 3 qo (ae (methP 0 "rows" 0 dR (aa 0) ao) (ae (bf bO (ae (methP 0 "names" 0 gn (aa 0) ao) ao)) (ae (aa 1) ao))))))
noncomputable def jC:FM:=runM 2 nV
noncomputable def oO:SM:=
 (aN (ifS (orT (bc (ak ltD (bf bO (ae (aa 0) ao)) (aq (.int 1)))) (bc (ak gtD (bf bO (ae (aa 0) ao)) (aq (.int 8)))))
 (cq (aq (.bl false)))
 bU)
 (cq (bf yo (ae (bR 1 [] (E2 (aa 0)) (aE 0) bV (nH sO sO (aq (.str ("a" :Str))) (aa 0) (aq (.str ("z" :Str))))) ao))))
noncomputable def m8:FM:=runM 1 oO
noncomputable def kD:SM:=
 (aN (ifS (bc (ak gtD (bf bO (ae (aa 0) ao)) (aq (.int 10))))
 lO
 bU)
 (ifS (bc (ak gtD (bf bO (ae (aa 1) ao)) (aq (.int 10))))
 lO
 bU))
noncomputable def jg:FM:=runM 2 kD
noncomputable def ie:SM:=
 (aN (ifS (kB (bc (aQ 1 m8 (ae (aa 0) ao))))
 lO
 bU)
 (ifS (bc (ak inD (aa 0) (aa 1)))
 lO
 bU))
noncomputable def fC:FM:=runM 2 ie
noncomputable def kz:SM:=
 (de (aQ 2 fC (ae (aa 2) (ae (slM (aa 0) iO (part (aa 1))) ao))))
noncomputable def jN:SM:=
 (eC (cT (ae (aa 0) ao)) (cI (aS (aE 1) (aS (aE 2) cL)) 2)
 kz)
noncomputable def iK:FM:=runM 3 jN
noncomputable def kE:SM:=
 (aN (ifS (bc (ak uq (aa 0) (aa 1)))
 lO
 bU)
 (ifS (bc (ak inD (aa 0) (aa 2)))
 lO
 bU))
noncomputable def jc:FM:=runM 3 kE
noncomputable def jh:SM:=
 (ifS (orT (kB (bc (aQ 1 eX (ae (aa 0) ao)))) (bc (ak ltD (aa 0) (aq (.int 1)))))
 lO
 bU)
noncomputable def g5:FM:=runM 1 jh
noncomputable def ky:SM:=
 (aN (de (fQ 3 jc (ae (aa 3) (ae (aa 1) (ae (aa 2) ao)))))
 (aN (de (aQ 1 g5 (ae (aa 4) ao)))
 (de (ip (aa 2) (aa 3)))))
noncomputable def iM:SM:=
 (aN (setM 2 (jG ao))
 (eC (listI (aa 0)) (cI (aS (aE 3) (aS (aE 4) cL)) 2)
 ky))
noncomputable def eY:FM:=runM 5 iM
noncomputable def kx:SM:=
 (aN (de (fQ 2 fC (ae (aa 3) (ae (aa 2) ao))))
 (aN (de (aQ 2 eY (ae (aa 4) (ae (aa 1) ao))))
 (aN (de (aQ 2 eY (ae (aa 5) (ae (aa 1) ao))))
 (de (ip (aa 2) (aa 3))))))
noncomputable def jR:SM:=
 (aN (setM 2 (jG ao))
 (eC (listI (aa 0)) (cI (aS (aE 3) (aS (aE 4) (aS (aE 5) cL))) 3)
 kx))
noncomputable def iG:FM:=runM 6 jR
noncomputable def lY:SM:=
 (cq (kC (ae (ak ixD (aa 0) (aq (.int 0))) (ae (bf ju (ae (ak ixD (aa 0) (aq (.int 1))) ao)) (ae (bf ju (ae (ak ixD (aa 0) (aq (.int 2))) ao)) ao)))))
noncomputable def j6:FM:=runM 1 lY
noncomputable def jW:SM:=
 (cq (bf ui (ae (bR 1 [0] (listI (aa 1)) (aE 0) (bc (ak eqD (ak ixD (aa 0) (aq (.int 0))) (aa 1))) (ak ixD (aa 0) (aq (.int 1)))) ao)))
noncomputable def eU:FM:=runM 2 jW
noncomputable def lV:SM:=
 (cq (bR 1 [0] (listI (aa 1)) (aE 0) bV (ak jA (aQ 2 eU (ae (aa 0) (ae (ak ixD (aa 1) (aq (.int 2))) ao))) (aQ 2 eU (ae (aa 0) (ae (ak ixD (aa 1) (aq (.int 1))) ao))))))
noncomputable def j8:FM:=runM 2 lV
noncomputable def lZ:SM:=
 (aN (de (aQ 2 jg (ae (aa 1) (ae (aa 2) ao))))
 (aN (de (aQ 1 iK (ae (aa 1) ao)))
 (aN (de (aQ 2 iG (ae (aa 2) (ae (aa 1) ao))))
 (aN (rQ 0 "held_goods" (aa 0) (bf ju (ae (aa 1) ao)))
 (aN (rQ 0 "held_works" (aa 0) (bR 1 [] (listI (aa 2)) (aE 0) bV (aQ 1 j6 (ae (aa 0) ao))))
 (rQ 0 "held_changes" (aa 0) (bR 1 [1] (listI (aa 2)) (aE 0) bV (aQ 2 j8 (ae (aa 0) (ae (aa 1) ao))))))))))
noncomputable def iV:FM:=runM 3 lZ
noncomputable def gR:SM:=
 (aN (ifS (bc (ak ltD (aa 1) (bf bO (ae (aa 0) ao))))
 (cq (ak ixD (aa 0) (aa 1)))
 bU)
 (cq (aq (.int 0))))
noncomputable def dg:FM:=runM 2 gR
noncomputable def bQ:SM:=
 (aN (setM 3 (ak gM (ak cF (ak bt (ak gM (aa 0) (aq (.int 2147483647))) (aq (.int 7))) (ak bt (aq (.int 48271)) (ak cF (aq (.int 7919)) (aa 1)))) (aq (.int 2147483647))))
 (cq (ak gM (ak iy (ak gM (ak cF (aa 3) (aq (.int 16807))) (aq (.int 2147483647))) (aq (.int 8))) (aa 2))))
noncomputable def aL:FM:=runM 4 bQ
noncomputable def jQ:SM:=
 (setM 3 (ak bt (aa 3) (ak ixD (aa 2) (aQ 3 aL (ae (aa 0) (ae (ak bt (aq (.int 2)) (aa 4)) (ae (aq (.int 26)) ao)))))))
noncomputable def j0:SM:=
 (aN (setM 2 (aq (.str ("abcdefghijklmnopqrstuvwxyz" :Str))))
 (aN (setM 3 (aq (.str ("" :Str))))
 (aN (eC (du (ae (aQ 3 aL (ae (aa 0) (ae (aq (.int 1)) (ae (aq (.int 8)) ao)))) ao)) (aE 4)
 jQ)
 (aN (setM 5 (aQ 3 aL (ae (aa 0) (ae (aq (.int 10)) (ae (ak bt (bf bO (ae (aa 3) ao)) (aq (.int 1))) ao)))))
 (aN (setM 6 (aQ 3 aL (ae (aa 0) (ae (aq (.int 11)) (ae (aq (.int 26)) ao)))))
 (cq (bR 1 [6,2,5,3] (du (ae (aa 1) ao)) (aE 0) bV (ak bt (ak bt (slS (aa 4) iO (part (aa 3))) (ak ixD (aa 2) (ak gM (ak bt (aa 1) (ak cF (aq (.int 5)) (aa 0))) (aq (.int 26))))) (slS (aa 4) (part (aa 3)) iO)))))))))
noncomputable def dS:FM:=runM 7 j0
noncomputable def nk:SM:=
 (aN (setM 7 (ak jA (aQ 3 aL (ae (aa 0) (ae (ak bt (aq (.int 20)) (aa 6)) (ae (aq (.int 7)) ao)))) (aq (.int 3))))
 (aN (ifS (bc (aa 2))
 (setM 7 (ak jA (ak bt (ak cF (aa 7) (ak gM (aa 0) (ak sr (aq (.int 10)) (aq (.int 12))))) (aQ 3 aL (ae (aa 0) (ae (ak bt (aq (.int 30)) (aa 6)) (ae (aq (.int 2000)) ao))))) (aq (.int 1000))))
 bU)
 (aN (ifS (o8 (bc (ak eqD (ak gM (aa 0) (aq (.int 2))) (aq (.int 1)))) (bc (ak gtD (aa 4) (aq (.int 0)))))
 (aN (setM 7 (ak jA (ak gM (aa 4) (aa 5)) (ak iy (aa 5) (aq (.int 2)))))
 (setM 4 (ak iy (aa 4) (aa 5))))
 bU)
 (de (ip (aa 3) (aa 7))))))
noncomputable def nj:SM:=
 (aN (setM 3 (jG ao))
 (aN (setM 4 (ak iy (aa 0) (aq (.int 2))))
 (aN (setM 5 (ak ixD (jy (ae (aq (.int 7)) (ae (ak bt (ak cF (aq (.int 2)) (ak sr (aq (.int 10)) (aq (.int 12)))) (aq (.int 1))) ao))) (bf intOf (ae (aa 2) ao))))
 (aN (eC (du (ae (aa 1) ao)) (aE 6)
 nk)
 (cq (aa 3))))))
noncomputable def lJ:FM:=runM 8 nj
noncomputable def jJ:SM:=
 (de (ip (aa 4) (jw (dY 3 lJ (ae (ak bt (aQ 2 dg (ae (aa 0) (ae (ak bt (ak bt (aa 1) (aq (.int 1))) (aa 6)) ao))) (ak cF (aq (.int 13)) (aa 6))) (ae (aa 2) (ae (aa 5) ao)))))))
noncomputable def jM:SM:=
 (aN (setM 8 (bR 1 [3,6] (du (ae (bf bO (ae (aa 4) ao)) ao)) (aE 0) bV (ak gM (aQ 3 aL (ae (aa 1) (ae (ak bt (ak bt (aq (.int 50)) (ak cF (aq (.int 7)) (aa 2))) (aa 0)) (ae (aq (.int 4)) ao)))) (aq (.int 3)))))
 (aN (setM 9 (bR 1 [4,8] (du (ae (aa 2) ao)) (aE 0) bV (bf ui (ae (bR 1 [0,1,2] (du (ae (bf bO (ae (aa 1) ao)) ao)) (aE 0) bV (ak cF (ak ixD (aa 3) (aa 0)) (ak ixD (ak ixD (aa 2) (aa 0)) (aa 1)))) ao))))
 (aN (de (ip (aa 4) (bR 1 [] (listI (aa 9)) (aE 0) bV (unM mI (aa 0)))))
 (de (ip (aa 7) (ak bt (aa 8) (jy (ae (aq (.int 1)) ao))))))))
noncomputable def mj:SM:=
 (aN (setM 3 (aQ 2 dg (ae (aa 0) (ae (aa 1) ao))))
 (aN (setM 4 (jG ao))
 (aN (setM 5 (ak eqD (aQ 3 aL (ae (aa 3) (ae (aq (.int 41)) (ae (aq (.int 6)) ao)))) (aq (.int 0))))
 (aN (eC (du (ae (ak gM (aQ 3 aL (ae (aa 3) (ae (aq (.int 40)) (ae (aq (.int 5)) ao)))) (ak jA (aq (.int 5)) (ak cF (aq (.int 2)) (bf intOf (ae (aa 5) ao))))) ao)) (aE 6)
 jJ)
 (aN (setM 7 (jG ao))
 (aN (eC (du (ae (ak iy (aQ 3 aL (ae (aa 3) (ae (aq (.int 42)) (ae (aq (.int 3)) ao)))) (ak bt (aq (.int 1)) (bf intOf (ae (aa 5) ao)))) ao)) (aE 6)
 jM)
 (aN (ifS (o8 (bc (ak eqD (aQ 3 aL (ae (aa 3) (ae (aq (.int 43)) (ae (aq (.int 5)) ao)))) (aq (.int 0)))) (bc (ak ltD (bf bO (ae (aa 4) ao)) (aq (.int 6)))))
 (aN (de (u6 (aa 4) (bR 1 [] (du (ae (aa 2) ao)) (aE 0) bV (aq (.int 0)))))
 (setM 7 (A6 (bR 1 [] (listI (aa 7)) (aE 0) bV (ak bt (jy (ae (aq (.int 0)) ao)) (aa 0))) (jy (ae (jy (ae (aq (.int 1)) ao)) ao)))))
 bU)
 (aN (ifS (o8 (bc (ak eqD (aQ 3 aL (ae (aa 3) (ae (aq (.int 44)) (ae (aq (.int 5)) ao)))) (aq (.int 0)))) (bc (nH ltD ltD (aq (.int 0)) (bf bO (ae (aa 4) ao)) (aq (.int 6)))))
 (de (ip (aa 4) (bf ju (ae (ak ixD (aa 4) (unM mI (aq (.int 1)))) ao))))
 bU)
 (cq (kC (ae (aa 4) (ae (pG 1 [4] (listI (aa 7)) (aE 0) bV (ak bt (aa 0) (bR 1 [] (du (ae (ak jA (bf bO (ae (aa 1) ao)) (bf bO (ae (aa 0) ao))) ao)) (aE 0) bV (aq (.int 0))))) ao))))))))))))
noncomputable def gY:FM:=runM 10 mj
noncomputable def jP:SM:=
 (aN (setM 11 (ak cF (ak iy (aQ 3 aL (ae (ak bt (aa 3) (aa 5)) (ae (ak bt (aq (.int 70)) (aa 9)) (ae (aq (.int 4)) ao)))) (aq (.int 3))) (ak bt (aq (.int 1)) (aQ 3 aL (ae (ak bt (aa 3) (aa 5)) (ae (ak bt (aq (.int 80)) (aa 9)) (ae (aq (.int 9)) ao)))))))
 (aN (ifS (bc (ak gtD (ak bt (aa 11) (bf pB (ae (aq (.int 0)) (ae (unM mI (aa 10)) ao)))) (aq (.int 0))))
 (de (ip (aa 7) (kC (ae (ak ixD (aa 1) (aa 9)) (ae (ak bt (aa 11) (bf pB (ae (aq (.int 0)) (ae (unM mI (aa 10)) ao)))) ao)))))
 bU)
 (ifS (bc (ak gtD (ak bt (aa 11) (bf pB (ae (aq (.int 0)) (ae (aa 10) ao)))) (aq (.int 0))))
 (de (ip (aa 8) (kC (ae (ak ixD (aa 1) (aa 9)) (ae (ak bt (aa 11) (bf pB (ae (aq (.int 0)) (ae (aa 10) ao)))) ao)))))
 bU)))
noncomputable def jI:SM:=
 (aN (setM 7 (jG ao))
 (aN (setM 8 (jG ao))
 (aN (eC (cT (ae (aa 6) ao)) (cI (aS (aE 9) (aS (aE 10) cL)) 2)
 jP)
 (aN (ifS (bc (ak eqD (aQ 3 aL (ae (ak bt (aa 3) (aa 5)) (ae (aq (.int 90)) (ae (aq (.int 2)) ao)))) (aq (.int 1))))
 (setM 7 (Bi EX (aa 7) iO iO (part (unM mI (aq (.int 1))))))
 bU)
 (de (ip (aa 4) (kC (ae (ak ixD (aa 2) (aa 5)) (ae (BJ (aa 7)) (ae (jw (aa 8)) ao))))))))))
noncomputable def lP:SM:=
 (aN (setM 4 (jG ao))
 (aN (eC (cT (ae (aa 0) ao)) (cI (aS (aE 5) (aS (aE 6) cL)) 2)
 jI)
 (cq (jw (aa 4)))))
noncomputable def gS:FM:=runM 12 lP
noncomputable def lD:SM:=
 (aN (setM 4 (ak gM (aa 1) (aa 3)))
 (aN (setM 1 (aa 3))
 (setM 3 (aa 4))))
noncomputable def lb:SM:=
 (aN (setM 3 (bf tT (ae (aa 2) ao)))
 (ue (λs=>u4 3 s) (bc (ak gtD (aa 3) (aq (.int 0))))
 lD))
noncomputable def kL:SM:=
 (aN (setM 1 (aq (.int 0)))
 (aN (eC (tupI (aa 0)) (aE 2)
 lb)
 (cq (aa 1))))
noncomputable def i4:FM:=runM 5 kL
noncomputable def jf:SM:=
 (ifS (bc (ak gtD (aa 3) (aq (.int 0))))
 (setM 1 (ak orD (aa 1) (ak FD (aq (.int 1)) (aa 2))))
 bU)
noncomputable def ic:SM:=
 (aN (setM 1 (aq (.int 0)))
 (aN (eC (cT (ae (aa 0) ao)) (cI (aS (aE 2) (aS (aE 3) cL)) 2)
 jf)
 (cq (aa 1))))
noncomputable def d6:FM:=runM 4 ic
noncomputable def iF:SM:=
 (aN (ifS (orT (kB (bc (unM (iX "list") (aa 0)))) (bc (ak neD (bf bO (ae (aa 0) ao)) (aa 1))))
 (cq (aq (.bl false)))
 bU)
 (cq (bf yo (ae (bR 1 [] (listI (aa 0)) (aE 0) bV (AV (unM (iX "int") (aa 0)) (BX (unM (iX "bool") (aa 0))))) ao))))
noncomputable def fN:FM:=runM 2 iF
noncomputable def kj:SM:=
 (aN (lN (ak ixD (aa 3) (aa 6)) (cI (aS (aE 7) (aS (aE 8) cL)) 2))
 (lN (kC (ae (ak bt (ak cF (aa 7) (ak ixD (ak ixD (aa 5) (aq (.int 0))) (aq (.int 1)))) (ak cF (ak cF (ak ixD (ak ixD (aa 5) (aq (.int 0))) (aq (.int 0))) (ak ixD (ak ixD (aa 5) (aq (.int 1))) (aa 6))) (aa 8))) (ae (ak cF (aa 8) (ak ixD (ak ixD (aa 5) (aq (.int 0))) (aq (.int 1)))) ao))) (wN (aa 3) (aa 6))))
noncomputable def fR:SM:=
 (aN (ifS (orT (kB (bc (unM (iX "tuple") (aa 5)))) (orT (bc (ak neD (bf bO (ae (aa 5) ao)) (aq (.int 2)))) (orT (kB (bc (unM (iX "tuple") (ak ixD (aa 5) (aq (.int 0)))))) (bc (ak neD (bf bO (ae (ak ixD (aa 5) (aq (.int 0))) ao)) (aq (.int 2)))))))
 (cq (aq (.bl false)))
 bU)
 (aN (ifS (orT (kB (bc (aQ 2 fN (ae (bf ju (ae (ak ixD (aa 5) (aq (.int 0))) ao)) (ae (aq (.int 2)) ao))))) (orT (bc (ak ltD (ak ixD (ak ixD (aa 5) (aq (.int 0))) (aq (.int 0))) (aq (.int 1)))) (orT (bc (ak ltD (ak ixD (ak ixD (aa 5) (aq (.int 0))) (aq (.int 1))) (aq (.int 1)))) (bc (ak neD (aQ 1 i4 (ae (ak ixD (aa 5) (aq (.int 0))) ao)) (aq (.int 1)))))))
 (cq (aq (.bl false)))
 bU)
 (aN (ifS (orT (bc (ak qW (ak ixD (aa 5) (aq (.int 1))) (aa 1))) (orT (bc (ak Bt (ak ixD (aa 5) (aq (.int 1))) (aa 4))) (kB (bc (aQ 2 fN (ae (ak ixD (aa 5) (aq (.int 1))) (ae (bf bO (ae (aa 2) ao)) ao)))))))
 (cq (aq (.bl false)))
 bU)
 (aN (ifS (bc (ak neD (ak ER (aQ 1 d6 (ae (ak ixD (aa 5) (aq (.int 1))) ao)) (aQ 1 d6 (ae (aa 2) ao))) (aQ 1 d6 (ae (ak ixD (aa 5) (aq (.int 1))) ao))))
 (cq (aq (.bl false)))
 bU)
 (aN (de (ip (aa 4) (ak ixD (aa 5) (aq (.int 1)))))
 (eC (du (ae (bf bO (ae (aa 2) ao)) ao)) (aE 6)
 kj))))))
noncomputable def gI:SM:=
 (aN (ifS (orT (kB (bc (unM (iX "list") (aa 0)))) (bc (ak gtD (bf bO (ae (aa 0) ao)) (bf bO (ae (bR 1 [] (listI (aa 2)) (aE 0) (bc (ak gtD (aa 0) (aq (.int 0)))) (aa 0)) ao)))))
 (cq (aq (.bl false)))
 bU)
 (aN (setM 3 (pG 1 [] (listI (aa 2)) (aE 0) bV (kC (ae (aq (.int 0)) (ae (aq (.int 1)) ao)))))
 (aN (setM 4 (jG ao))
 (aN (eC (listI (aa 0)) (aE 5)
 fR)
 (cq (bf yo (ae (bR 1 [2,3] (du (ae (bf bO (ae (aa 2) ao)) ao)) (aE 0) bV (ak eqD (ak ixD (ak ixD (aa 2) (aa 0)) (aq (.int 0))) (ak cF (ak ixD (aa 1) (aa 0)) (ak ixD (ak ixD (aa 2) (aa 0)) (aq (.int 1)))))) ao)))))))
noncomputable def fK:FM:=runM 9 gI
noncomputable def mC:SM:=
 (aN (setM 6 (aQ 3 aL (ae (aa 2) (ae (ak bt (aq (.int 100)) (aa 4)) (ae (aq (.int 4)) ao)))))
 (aN (ifS (bc (ak eqD (aQ 3 aL (ae (aa 2) (ae (ak bt (aq (.int 110)) (aa 4)) (ae (aq (.int 4)) ao)))) (aq (.int 0))))
 (setM 6 (ak gM (aa 2) (ak sr (aq (.int 10)) (aq (.int 12)))))
 bU)
 (setM 3 (bR 2 [6] (qQ (ae (aa 3) (ae (aa 5) ao))) (cI (aS (aE 0) (aS (aE 1) cL)) 2) bV (ak bt (aa 0) (ak cF (aa 2) (aa 1)))))))
noncomputable def lU:SM:=
 (aN (setM 3 (bR 1 [] (du (ae (aa 1) ao)) (aE 0) bV (aq (.int 0))))
 (aN (eC (cT (ae (aa 0) ao)) (cI (aS (aE 4) (aS (aE 5) cL)) 2)
 mC)
 (cq (aa 3))))
noncomputable def jU:FM:=runM 7 lU
noncomputable def u5:SM:=
 (de (ip (aa 16) (aq (.int 1))))
noncomputable def xP:SM:=
 (aN (setM 14 (dY 2 jC (ae (aa 7) (ae (aa 12) ao))))
 (aN (ifS (orT (kB (bc (fQ 3 fK (ae (aa 14) (ae (aa 8) (ae (aa 11) ao)))))) (bc (ak neD (aa 12) (aa 11))))
 (cq (aq (.bl false)))
 bU)
 (aN (eC (listI (aa 14)) (cI (aS (aE 15) (aS (aE 16) cL)) 2)
 u5)
 (de (xt MA (aa 14))))))
noncomputable def vg:SM:=
 (aN (setM 11 (aQ 3 jU (ae (aa 5) (ae (bf bO (ae (aa 4) ao)) (ae (ak bt (aa 2) (aQ 2 dg (ae (aa 0) (ae (ak bt (ak bt (aa 1) (aq (.int 1))) (aa 10)) ao)))) ao)))))
 (aN (setM 12 (bf ju (ae (aa 11) ao)))
 (eC (du (ae (aq (.int 2)) ao)) (aE 13)
 xP)))
noncomputable def uS:SM:=
 (aN (setM 2 (aQ 2 dg (ae (aa 0) (ae (aa 1) ao))))
 (aN (setM 3 (ak bt (aq (.int 1)) (aQ 3 aL (ae (aa 2) (ae (aq (.int 45)) (ae (aq (.int 4)) ao))))))
 (aN (lN (yz (dY 3 gY (ae (aa 0) (ae (aa 1) (ae (aa 3) ao))))) (cI (aS (aE 4) (aS (aE 5) cL)) 2))
 (aN (setM 6 (aQ 2 dS (ae (ak bt (aa 2) (aq (.int 1))) (ae (aa 3) ao))))
 (aN (setM 7 (uR 0 2 iV (ae (aa 6) (ae (aQ 4 gS (ae (aa 4) (ae (aa 6) (ae (aQ 2 dS (ae (aa 2) (ae (bf bO (ae (aa 4) ao)) ao))) (ae (aa 2) ao))))) ao))))
 (aN (setM 8 (jw (dY 1 nF (ae (aa 7) ao))))
 (aN (setM 9 (bR 1 [] (du (ae (bf bO (ae (aa 4) ao)) ao)) (aE 0) bV (aq (.int 0))))
 (aN (ifS (bc (ak neD (jw (dY 2 jC (ae (aa 7) (ae (aa 9) ao)))) (jy ao)))
 (cq (aq (.bl false)))
 bU)
 (aN (eC (du (ae (aq (.int 2)) ao)) (aE 10)
 vg)
 (ifS (bc (ak neD (jw (dY 1 nF (ae (aa 7) ao))) (aa 8)))
 (cq (aq (.bl false)))
 bU))))))))))
noncomputable def EY:SM:=
 (aN (eC (listI (jy (ae (aq (.int 0)) (ae (aq (.int 5)) ao)))) (aE 1)
 uS)
 (cq (aq (.bl true))))
noncomputable def Ap:FM:=runM 17 EY
section
variable {P : Program} {w : World} {K : R4} {mg : Str → Option Value} {base : Heap} {ca : Nat → Addr}
theorem Dv:bq ["value"] ["value"] (aF lg):=⟨rfl,rfl,rfl,by decide +kernel,rfl,by decide +kernel,by decide +kernel⟩
theorem De{a:Addr}{fd:FuncData}(F:Fun K "is_whole" "is_whole" lg a fd)(hm:mg "is_whole" =some (.ref a))(am:P.given.tree=none)(J:mg "isinstance" =none)(ab:mg "int" =none)(Y:mg "bool" =none):cE P w K mg base ca 35 "is_whole" ["value"] eX a fd:=by
 refine⟨bJ F Dv rfl λan A outer s H E hr=> ?_,hm,F.kp,F.binds λ_ _ _ _ _ _ us hl=>match us,hl with | [_],_=>rfl⟩
 have hu:=hr.units
 have as:=bY hr (by decide)
 exact⟨_,(aH (bA (Hj (ba kM rfl J Boot.«isinstance» (ah (pv 0) (ah (mP (v:=.ty "int") rfl ab Boot.«int» rfl) ar))) (Ga (G9 (ba kM rfl J Boot.«isinstance» (ah (pv 0) (ah (mP (v:=.ty "bool") rfl Y Boot.«bool» rfl) ar)))))))),
  (bB (EE (oU ty_int (af 0)) (DT (oU ty_bool (af 0)))))⟩
theorem fJ:bq ["one","other","rest"] ["one","other"] (aF gb):=⟨rfl,rfl,rfl,by decide +kernel,rfl,by decide +kernel,by decide +kernel⟩
theorem vq{a:Addr}{fd:FuncData}(F:Fun K "measure_of_two" "measure_of_two" gb a fd)(hm:mg "measure_of_two" =some (.ref a))(ab:P.given.tree=none)(J:mg "abs" =none):cE P w K mg base ca 35 "measure_of_two" ["one","other"] d8 a fd:=by
 refine⟨bJ F fJ rfl λac A outer s H E Y=> ?_,hm,F.kp,F.binds λ_ _ _ _ _ _ us hl=>match us,hl with | [_,_],_=>rfl⟩
 have hu:=Y.units
 have an:=bY Y (by decide)
 exact⟨_,(aw (bg (i:=0) fJ.nd rfl (R8 rfl) (ba we rfl J Boot.«abs» (ah (pv 0) ar)))
 (aw (bg (i:=1) fJ.nd rfl (R8 rfl) (ba we rfl J Boot.«abs» (ah (pv 1) ar)))
 (aw (CA PassesOwn.never (bx (oj hu) (pv 1) aB (bG _))
 (aw (bg (i:=2) fJ.nd rfl (R8 rfl) (aU g6 (pv 0) (pv 1)))
 (aw (bg (i:=0) fJ.nd rfl (R8 rfl) (pv 1))
 (aH (bg (i:=1) fJ.nd rfl (R8 rfl) (pv 2))))))
 (aH (bA (pv 0)))))),
  (aJ (aW (aY AX (ai (af 0) av)))
 (aJ (aW (aY AX (ai (af 1) av)))
 (aJ (B9 (bH (au kZ (af 1) (aA 0)))
 (aJ (aW (au i8 (af 0) (af 1)))
 (aJ (aW (af 1))
 (aW (af 2)))))
 (bB (af 0)))))⟩
theorem pF:bq ["numbers","common","number"] ["numbers"] (aF m9):=⟨rfl,rfl,rfl,by decide +kernel,rfl,by decide +kernel,by decide +kernel⟩
theorem EZ{a:Addr}{fd:FuncData}(F:Fun K "measure" "measure" m9 a fd)(hm:mg "measure" =some (.ref a))(Y:P.given.tree=none)(mJ:bM P w K mg base ca 35 "measure_of_two" ["one","other"] d8):cE P w K mg base ca 36 "measure" ["numbers"] mX a fd:=by
 obtain⟨v9,vy,mE,ir,mM,mD⟩:=mJ
 refine⟨bJ F pF rfl λap A outer s H E J=> ?_,hm,F.kp,F.binds λ_ _ _ _ _ _ us hl=>match us,hl with | [_],_=>rfl⟩
 have hu:=J.units
 have az:=bY J (by decide)
 exact⟨_,(aw (bg (i:=1) pF.nd rfl (R8 rfl) aB)
 (aw (dI PassesOwn.never rfl (cG (pv 0)) (aM (i:=2) pF.nd rfl (R8 rfl))
 (aH (bg (i:=1) pF.nd rfl (R8 rfl) (aR mE (J.mono (by decide)) rfl ir mM mD .nil aZ (ah (pv 1) (ah (pv 2) ar))))))
 (aH (bA (pv 1))))),
  (aJ (aW (aA 0))
 (aJ (dH (cH (af 0)) (aK 2)
 (aW (aX (n:=2) (f:=d8) (ai (af 1) (ai (af 2) av)))))
 (bB (af 1))))⟩
theorem zj:bq ["numbers","common"] ["numbers"] (aF oi):=⟨rfl,rfl,rfl,by decide +kernel,rfl,by decide +kernel,by decide +kernel⟩
theorem Hy{a:Addr}{fd:FuncData}(F:Fun K "lowest" "lowest" oi a fd)(hm:mg "lowest" =some (.ref a))(Y:P.given.tree=none)(J:mg "list" =none)(Hr:bM P w K mg base ca 36 "measure" ["numbers"] mX):cE P w K mg base ca 37 "lowest" ["numbers"] jq a fd:=by
 obtain⟨Pg,OY,GG,ng,HH,HF⟩:=Hr
 refine⟨bJ F zj rfl λaz A outer s H E hr=> ?_,hm,F.kp,F.binds λ_ _ _ _ _ _ us hl=>match us,hl with | [_],_=>rfl⟩
 have hu:=hr.units
 have ac:=bY hr (by decide)
 exact⟨_,(aw (bg (i:=1) zj.nd rfl (Ts rfl) (aR GG (hr.mono (by decide)) rfl ng HH HF .nil aZ (ah (pv 0) ar)))
 (aw (cQ (bx (nv hu) (pv 1) aB (bG _))
 (aH (bA (gx gv rfl J Boot.«list» (ah (pv 0) ar))))
 bL)
 (aH (bA (cR (own:=["number"]) (cap:=["common"]) (caps:=[1]) rfl ⟨rfl,by decide +kernel,by decide +kernel,by decide +kernel,⟨rfl,R8 rfl,rfl,trivial⟩,by decide +kernel⟩ (cG (pv 0)) (λ_ _ _=>(aM (i:=0) (show ((["number"]:List Str)++(["common"]:List Str)).Nodup from by decide +kernel) rfl (R8 rfl))) (λ_ _ _=>cv) (λ_ _ _=>(aU (nJ ac Y ⟨_,_,rfl,rfl,rfl,rfl,rfl⟩) (pv 0) (pv 1)))))))),
  (aJ (aW (aX (n:=1) (f:=mX) (ai (af 0) av)))
 (aJ (cP (bH (au kr (af 1) (aA 0)))
 (bB (J1 (af 0)))
 bK)
 (bB (sj (m:=1) (caps:=[1]) (cH (af 0)) (aK 0) cy (au kY (af 0) (af 1))))))⟩
theorem wO:bq ["top","bottom","common"] ["top","bottom"] (aF pT):=⟨rfl,rfl,rfl,by decide +kernel,rfl,by decide +kernel,by decide +kernel⟩
theorem Ji{a:Addr}{fd:FuncData}(F:Fun K "ratio" "ratio" pT a fd)(hm:mg "ratio" =some (.ref a))(J:P.given.tree=none)(rW:bM P w K mg base ca 35 "is_whole" ["value"] eX)(mJ:bM P w K mg base ca 35 "measure_of_two" ["one","other"] d8):cE P w K mg base ca 36 "ratio" ["top","bottom"] nY a fd:=by
 obtain⟨Fs,Du,pq,jx,px,pH⟩:=rW
 obtain⟨v9,vy,mE,ir,mM,mD⟩:=mJ
 refine⟨bJ F wO rfl λa2 A outer s H E Y=> ?_,hm,F.kp,F.binds λ_ _ _ _ _ _ us hl=>match us,hl with | [_,_],_=>rfl⟩
 have hu:=Y.units
 have ab:=bY Y (by decide)
 exact⟨_,(aw (cQ (PW.pt (pw_or (jT (fE (aR pq (Y.mono (by decide)) rfl jx px pH .nil aZ (ah (pv 0) ar)))) (pw_or1 (jT (fE (aR pq (Y.mono (by decide)) rfl jx px pH .nil aZ (ah (pv 1) ar)))))))
 (aH fe)
 bL)
 (aw (cQ (bx (nv hu) (pv 1) aB (bG _))
 (aH fe)
 bL)
 (aw (bg (i:=2) wO.nd rfl (R8 rfl) (aR mE (Y.mono (by decide)) rfl ir mM mD .nil aZ (ah (pv 0) (ah (pv 1) ar))))
 (aw (cQ (bx kT (pv 1) aB (bG _))
 (aH (bg (i:=2) wO.nd rfl (R8 rfl) (u7 qY (pv 2))))
 bL)
 (aH (bA (nE (ah (aU (nJ ab J ⟨_,_,rfl,rfl,rfl,rfl,rfl⟩) (pv 0) (pv 2)) (ah (aU (nJ ab J ⟨_,_,rfl,rfl,rfl,rfl,rfl⟩) (pv 1) (pv 2)) ar))))))))),
  (aJ (cP (kv (jK (gO (aX (n:=1) (f:=eX) (ai (af 0) av)))) (jK (gO (aX (n:=1) (f:=eX) (ai (af 1) av)))))
 fb
 bK)
 (aJ (cP (bH (au kr (af 1) (aA 0)))
 fb
 bK)
 (aJ (aW (aX (n:=2) (f:=d8) (ai (af 0) (ai (af 1) av))))
 (aJ (cP (bH (au kP (af 1) (aA 0)))
 (aW (u9 rB (af 2)))
 bK)
 (bB (nB (ai (au kY (af 0) (af 2)) (ai (au kY (af 1) (af 2)) av))))))))⟩
theorem tZ:bq ["numbers","others"] ["numbers","others"] (aF fI):=⟨rfl,rfl,rfl,by decide +kernel,rfl,by decide +kernel,by decide +kernel⟩
theorem uj{a:Addr}{fd:FuncData}(F:Fun K "sum_of_products" "sum_of_products" fI a fd)(hm:mg "sum_of_products" =some (.ref a))(ac:P.given.tree=none)(J:mg "zip" =none)(Y:mg "sum" =none):cE P w K mg base ca 35 "sum_of_products" ["numbers","others"] bS a fd:=by
 refine⟨bJ F tZ rfl λam A outer s H E hr=> ?_,hm,F.kp,F.binds λ_ _ _ _ _ _ us hl=>match us,hl with | [_,_],_=>rfl⟩
 have hu:=hr.units
 have ap:=bY hr (by decide)
 exact⟨_,(aH (bA (ba (um rfl) rfl Y Boot.«sum» (ah (cR (own:=["number","other"]) (cap:=[]) (caps:=[]) rfl ⟨rfl,by decide +kernel,by decide +kernel,by decide +kernel,trivial,by decide +kernel⟩ (uA rfl J (ah (pv 0) (ah (pv 1) ar))) (λ_ _ _=>(fG rfl (bE (aM (i:=0) (show ((["number","other"]:List Str)++([]:List Str)).Nodup from by decide +kernel) rfl (R8 rfl)) (bE (aM (i:=1) (show ((["number","other"]:List Str)++([]:List Str)).Nodup from by decide +kernel) rfl (R8 rfl)) eE)))) (λ_ _ _=>cv) (λ_ _ _=>(aU eI (pv 0) (pv 1)))) ar)))),
  (bB (aY Cd (ai (bZ (m:=2) (caps:=[]) (xH (ai (af 0) (ai (af 1) av))) (ey (bF (aK 0) (bF (aK 1) eG))) cy (au dG (af 0) (af 1))) av)))⟩
theorem Ed:bq ["at","many","told"] ["at","many"] (aF rJ):=⟨rfl,rfl,rfl,by decide +kernel,rfl,by decide +kernel,by decide +kernel⟩
theorem Mn{a:Addr}{fd:FuncData}(F:Fun K "unit" "unit" rJ a fd)(hm:mg "unit" =some (.ref a))(Y:P.given.tree=none):cE P w K mg base ca 35 "unit" ["at","many"] rf a fd:=by
 refine⟨bJ F Ed rfl λab A outer s H E J=> ?_,hm,F.kp,F.binds λ_ _ _ _ _ _ us hl=>match us,hl with | [_,_],_=>rfl⟩
 have hu:=J.units
 have am:=bY J (by decide)
 exact⟨_,(aw (bg (i:=2) Ed.nd rfl (R8 rfl) (aU N4 (fu (ah aB ar)) (pv 1)))
 (aw (w9 aB (Hb (pv 2) (pv 0) set_list))
 (aH (bA (pv 2))))),
  (aJ (aW (L5 (ai (aA 0) av) (af 1)))
 (aJ (ux (aA 1) (Ge (af 2) (af 0)))
 (bB (af 2))))⟩
theorem I0:bq ["many"] ["many"] (aF pW):=⟨rfl,rfl,rfl,by decide +kernel,rfl,by decide +kernel,by decide +kernel⟩
theorem J7{a:Addr}{fd:FuncData}(F:Fun K "units" "units" pW a fd)(hm:mg "units" =some (.ref a))(ab:P.given.tree=none)(J:mg "range" =none)(NN:bM P w K mg base ca 35 "unit" ["at","many"] rf):cE P w K mg base ca 36 "units" ["many"] qZ a fd:=by
 obtain⟨QR,Qf,NU,tO,Ng,MM⟩:=NN
 refine⟨bJ F I0 rfl λas A outer s H E Y=> ?_,hm,F.kp,F.binds λ_ _ _ _ _ _ us hl=>match us,hl with | [_],_=>rfl⟩
 have hu:=Y.units
 have a0:=bY Y (by decide)
 exact⟨_,(aH (bA (cR (own:=["at"]) (cap:=["many"]) (caps:=[0]) rfl ⟨rfl,by decide +kernel,by decide +kernel,by decide +kernel,⟨rfl,R8 rfl,rfl,trivial⟩,by decide +kernel⟩ (dy rfl J (ah (pv 0) ar)) (λ_ _ _=>(aM (i:=0) (show ((["at"]:List Str)++(["many"]:List Str)).Nodup from by decide +kernel) rfl (R8 rfl))) (λ_ _ _=>cv) (λ_ _ _=>(aR NU (Y.mono (by decide)) rfl tO Ng MM .nil aZ (ah (pv 0) (ah (pv 1) ar))))))),
  (bB (bZ (m:=1) (caps:=[0]) (eR (ai (af 0) av)) (aK 0) cy (gE (n:=2) (f:=rf) (ai (af 0) (ai (af 1) av)))))⟩
theorem zc:bq ["one","one_value","other","other_value","mixed"] ["one","one_value","other","other_value"] (aF nZ):=⟨rfl,rfl,rfl,by decide +kernel,rfl,by decide +kernel,by decide +kernel⟩
theorem GB{a:Addr}{fd:FuncData}(F:Fun K "offset" "offset" nZ a fd)(hm:mg "offset" =some (.ref a))(ab:P.given.tree=none)(J:mg "zip" =none)(wj:bM P w K mg base ca 37 "lowest" ["numbers"] jq):cE P w K mg base ca 38 "offset" ["one","one_value","other","other_value"] n9 a fd:=by
 obtain⟨Jd,FT,wI,jB,wt,wg⟩:=wj
 refine⟨bJ F zc rfl λas A outer s H E Y=> ?_,hm,F.kp,F.binds λ_ _ _ _ _ _ us hl=>match us,hl with | [_,_,_,_],_=>rfl⟩
 have hu:=Y.units
 have a0:=bY Y (by decide)
 exact⟨_,(aw (fA (i:=4) (own:=["number","other_number"]) (cap:=["one_value","other_value"]) (caps:=[1,3]) rfl ⟨rfl,by decide +kernel,by decide +kernel,by decide +kernel,⟨rfl,R8 rfl,rfl,⟨rfl,R8 rfl,rfl,trivial⟩⟩,by decide +kernel⟩ (uA rfl J (ah (pv 0) (ah (pv 2) ar))) (λ_ _ _=>(fG rfl (bE (aM (i:=0) (show ((["number","other_number"]:List Str)++(["one_value","other_value"]:List Str)).Nodup from by decide +kernel) rfl (R8 rfl)) (bE (aM (i:=1) (show ((["number","other_number"]:List Str)++(["one_value","other_value"]:List Str)).Nodup from by decide +kernel) rfl (R8 rfl)) eE)))) (λ_ _ _=>cv) (λ_ _ _=>(aU oP (aU eI (pv 0) (pv 3)) (aU eI (pv 1) (pv 2)))) zc.nd rfl (R8 rfl) rfl)
 (aH (bA (aR wI (Y.mono (by decide)) rfl jB wt wg .nil aZ (ah (pv 4) ar))))),
  (aJ (aW (bZ (m:=2) (caps:=[1,3]) (xH (ai (af 0) (ai (af 2) av))) (ey (bF (aK 0) (bF (aK 1) eG))) cy (au oV (au dG (af 0) (af 3)) (au dG (af 1) (af 2)))))
 (bB (gE (n:=1) (f:=jq) (ai (af 4) av))))⟩
theorem ko:bq ["numbers","at","number"] ["numbers"] (aF fq):=⟨rfl,rfl,rfl,by decide +kernel,rfl,by decide +kernel,by decide +kernel⟩
theorem tq{a:Addr}{fd:FuncData}(F:Fun K "first_not_nought" "first_not_nought" fq a fd)(hm:mg "first_not_nought" =some (.ref a))(ab:P.given.tree=none)(J:mg "enumerate" =none):cE P w K mg base ca 35 "first_not_nought" ["numbers"] gw a fd:=by
 refine⟨bJ F ko rfl λac A outer s H E Y=> ?_,hm,F.kp,F.binds λ_ _ _ _ _ _ us hl=>match us,hl with | [_],_=>rfl⟩
 have hu:=Y.units
 have an:=bY Y (by decide)
 exact⟨_,(aw (dI PassesOwn.never rfl (kR rfl J (ah (pv 0) ar)) (fG rfl (bE (aM (i:=1) ko.nd rfl (R8 rfl)) (bE (aM (i:=2) ko.nd rfl (R8 rfl)) eE)))
 (aH (cQ (bx (oj hu) (pv 2) aB (bG _))
 (aH (bA (pv 1)))
 bL)))
 (aH (bA NL))),
  (aJ (dH (fB (ai (af 0) av)) (ey (bF (aK 1) (bF (aK 2) eG)))
 (cP (bH (au kZ (af 2) (aA 0)))
 (bB (af 1))
 bK))
 (bB Nj))⟩
theorem kI:bq ["numbers","bits","number"] ["numbers"] (aF kb):=⟨rfl,rfl,rfl,by decide +kernel,rfl,by decide +kernel,by decide +kernel⟩
theorem Cf{a:Addr}{fd:FuncData}(F:Fun K "places_of" "places_of" kb a fd)(hm:mg "places_of" =some (.ref a))(Y:P.given.tree=none):cE P w K mg base ca 35 "places_of" ["numbers"] dv a fd:=by
 refine⟨bJ F kI rfl λab A outer s H E J=> ?_,hm,F.kp,F.binds λ_ _ _ _ _ _ us hl=>match us,hl with | [_],_=>rfl⟩
 have hu:=J.units
 have am:=bY J (by decide)
 exact⟨_,(aw (bg (i:=1) kI.nd rfl (R8 rfl) aB)
 (aw (dI PassesOwn.never rfl (cG (pv 0)) (aM (i:=2) kI.nd rfl (R8 rfl))
 (aw (bg (i:=1) kI.nd rfl (R8 rfl) (aU eI (pv 1) aB))
 (aH (cQ (bx kS (pv 2) aB (bG _))
 (aH (bg (i:=1) kI.nd rfl (R8 rfl) (aU cM (pv 1) aB)))
 bL))))
 (aH (bA (pv 1))))),
  (aJ (aW (aA 0))
 (aJ (dH (cH (af 0)) (aK 2)
 (aJ (aW (au dG (af 1) (aA 2)))
 (cP (bH (au lH (af 2) (aA 0)))
 (aW (au bX (af 1) (aA 1)))
 bK)))
 (bB (af 1))))⟩
theorem Df:bq ["places","others"] ["places","others"] (aF kO):=⟨rfl,rfl,rfl,by decide +kernel,rfl,by decide +kernel,by decide +kernel⟩
theorem Dh{a:Addr}{fd:FuncData}(F:Fun K "is_among" "is_among" kO a fd)(hm:mg "is_among" =some (.ref a))(Y:P.given.tree=none):cE P w K mg base ca 35 "is_among" ["places","others"] gd a fd:=by
 refine⟨bJ F Df rfl λab A outer s H E J=> ?_,hm,F.kp,F.binds λ_ _ _ _ _ _ us hl=>match us,hl with | [_,_],_=>rfl⟩
 have hu:=J.units
 have am:=bY J (by decide)
 exact⟨_,(aH (bA (m4 (nv hu) (aU Fw (pv 0) (pv 1)) (pv 1) (bG _)))),
  (bB (au kr (au AH (af 0) (af 1)) (af 1)))⟩
theorem pb:bq ["one","other","all_places","both"] ["one","other","all_places"] (aF fY):=⟨rfl,rfl,rfl,by decide +kernel,rfl,by decide +kernel,by decide +kernel⟩
theorem vj{a:Addr}{fd:FuncData}(F:Fun K "are_neighbours" "are_neighbours" fY a fd)(hm:mg "are_neighbours" =some (.ref a))(ab:P.given.tree=none)(J:mg "len" =none)(rM:bM P w K mg base ca 35 "is_among" ["places","others"] gd):cE P w K mg base ca 36 "are_neighbours" ["one","other","all_places"] fU a fd:=by
 obtain⟨Fe,Dp,sM,jE,rO,si⟩:=rM
 refine⟨bJ F pb rfl λas A outer s H E Y=> ?_,hm,F.kp,F.binds λ_ _ _ _ _ _ us hl=>match us,hl with | [_,_,_],_=>rfl⟩
 have hu:=Y.units
 have a0:=bY Y (by decide)
 exact⟨_,(aw (bg (i:=3) pb.nd rfl (Ts rfl) (aU Fw (pv 0) (pv 1)))
 (aH (bA (m4 (nv hu) (ba cg rfl J Boot.«len» (ah (cR (own:=["places"]) (cap:=["both"]) (caps:=[3]) rfl ⟨rfl,by decide +kernel,by decide +kernel,by decide +kernel,⟨rfl,R8 rfl,rfl,trivial⟩,by decide +kernel⟩ (cG (pv 2)) (λ_ _ _=>(aM (i:=0) (show ((["places"]:List Str)++(["both"]:List Str)).Nodup from by decide +kernel) rfl (R8 rfl))) (λ_ _ _=>(pX (fE (aR sM (Y.mono (by decide)) rfl jE rO si .nil aZ (ah (pv 0) (ah (pv 1) ar)))))) (λ_ _ _=>(pv 0))) ar)) aB (bG _))))),
  (aJ (aW (au AH (af 0) (af 1)))
 (bB (au kr (aY dk (ai (bZ (m:=1) (caps:=[3]) (cH (af 2)) (aK 0) (gO (aX (n:=2) (f:=gd) (ai (af 0) (ai (af 1) av)))) (af 0)) av)) (aA 2))))⟩
theorem dA:bq ["lists","row","values","places","told","above","below","high","low"] ["lists","row"] (aF fo):=⟨rfl,rfl,rfl,by decide +kernel,rfl,by decide +kernel,by decide +kernel⟩
theorem tu{a:Addr}{fd:FuncData}(F:Fun K "lone_by_one_more" "lone_by_one_more" fo a fd)(hm:mg "lone_by_one_more" =some (.ref a))(ac:P.given.tree=none)(Y:mg "zip" =none)(J:mg "enumerate" =none)(gH:bM P w K mg base ca 35 "sum_of_products" ["numbers","others"] bS)(qH:bM P w K mg base ca 35 "places_of" ["numbers"] dv)(vY:bM P w K mg base ca 36 "are_neighbours" ["one","other","all_places"] fU)(JY:bM P w K mg base ca 38 "offset" ["one","one_value","other","other_value"] n9):cE P w K mg base ca 39 "lone_by_one_more" ["lists","row"] gq a fd:=by
 obtain⟨o9,oX,gL,dC,gK,gJ⟩:=gH
 obtain⟨DA,AD,ou,gT,oF,oz⟩:=qH
 obtain⟨IB,HN,wL,iq,wF,vZ⟩:=vY
 obtain⟨P5,O9,JC,qm,JE,Jf⟩:=JY
 refine⟨bJ F dA rfl λbd A outer s H E hr=> ?_,hm,F.kp,F.binds λ_ _ _ _ _ _ us hl=>match us,hl with | [_,_],_=>rfl⟩
 have hu:=hr.units
 have bi:=bY hr (by decide)
 exact⟨_,(aw (fA (i:=2) (own:=["one"]) (cap:=["row"]) (caps:=[1]) rfl ⟨rfl,by decide +kernel,by decide +kernel,by decide +kernel,⟨rfl,R8 rfl,rfl,trivial⟩,by decide +kernel⟩ (cG (pv 0)) (λ_ _ _=>(aM (i:=0) (show ((["one"]:List Str)++(["row"]:List Str)).Nodup from by decide +kernel) rfl (R8 rfl))) (λ_ _ _=>cv) (λ_ _ _=>(aR gL (hr.mono (by decide)) rfl dC gK gJ .nil aZ (ah (pv 1) (ah (pv 0) ar)))) dA.nd rfl (R8 rfl) rfl)
 (aw (fA (i:=3) (own:=["one"]) (cap:=[]) (caps:=[]) rfl ⟨rfl,by decide +kernel,by decide +kernel,by decide +kernel,trivial,by decide +kernel⟩ (cG (pv 0)) (λ_ _ _=>(aM (i:=0) (show ((["one"]:List Str)++([]:List Str)).Nodup from by decide +kernel) rfl (R8 rfl))) (λ_ _ _=>cv) (λ_ _ _=>(aR ou (hr.mono (by decide)) rfl gT oF oz .nil aZ (ah (pv 0) ar))) dA.nd rfl (R8 rfl) rfl)
 (aw (fA (i:=4) (own:=["one","value"]) (cap:=[]) (caps:=[]) rfl ⟨rfl,by decide +kernel,by decide +kernel,by decide +kernel,trivial,by decide +kernel⟩ (uA rfl Y (ah (pv 0) (ah (pv 2) ar))) (λ_ _ _=>(fG rfl (bE (aM (i:=0) (show ((["one","value"]:List Str)++([]:List Str)).Nodup from by decide +kernel) rfl (R8 rfl)) (bE (aM (i:=1) (show ((["one","value"]:List Str)++([]:List Str)).Nodup from by decide +kernel) rfl (R8 rfl)) eE)))) (λ_ _ _=>(pX (bx (nv hu) (pv 1) aB (bG _)))) (λ_ _ _=>(pv 0)) dA.nd rfl (R8 rfl) rfl)
 (aw (fA (i:=5) (own:=["at","value"]) (cap:=[]) (caps:=[]) rfl ⟨rfl,by decide +kernel,by decide +kernel,by decide +kernel,trivial,by decide +kernel⟩ (kR rfl J (ah (pv 2) ar)) (λ_ _ _=>(fG rfl (bE (aM (i:=0) (show ((["at","value"]:List Str)++([]:List Str)).Nodup from by decide +kernel) rfl (R8 rfl)) (bE (aM (i:=1) (show ((["at","value"]:List Str)++([]:List Str)).Nodup from by decide +kernel) rfl (R8 rfl)) eE)))) (λ_ _ _=>(pX (bx kS (pv 1) aB (bG _)))) (λ_ _ _=>(pv 0)) dA.nd rfl (R8 rfl) rfl)
 (aw (fA (i:=6) (own:=["at","value"]) (cap:=[]) (caps:=[]) rfl ⟨rfl,by decide +kernel,by decide +kernel,by decide +kernel,trivial,by decide +kernel⟩ (kR rfl J (ah (pv 2) ar)) (λ_ _ _=>(fG rfl (bE (aM (i:=0) (show ((["at","value"]:List Str)++([]:List Str)).Nodup from by decide +kernel) rfl (R8 rfl)) (bE (aM (i:=1) (show ((["at","value"]:List Str)++([]:List Str)).Nodup from by decide +kernel) rfl (R8 rfl)) eE)))) (λ_ _ _=>(pX (bx kT (pv 1) aB (bG _)))) (λ_ _ _=>(pv 0)) dA.nd rfl (R8 rfl) rfl)
 (aw (dI PassesOwn.never rfl (cG (pv 5)) (aM (i:=7) dA.nd rfl (R8 rfl))
 (aH (dI PassesOwn.never rfl (cG (pv 6)) (aM (i:=8) dA.nd rfl (R8 rfl))
 (aH (cQ (fE (aR wL (hr.mono (by decide)) rfl iq wF vZ .nil aZ (ah (bD br (pv 3) (pv 7) (λ_ _=>rfl)) (ah (bD br (pv 3) (pv 8) (λ_ _=>rfl)) (ah (pv 3) ar)))))
 (aH (cY (jH SI SO SQ d5 (pv 4) (ah (aR JC (hr.mono (by decide)) rfl qm JE Jf .nil aZ (ah (bD br (pv 0) (pv 8) (λ_ _=>rfl)) (ah (bD br (pv 2) (pv 8) (λ_ _=>rfl)) (ah (bD br (pv 0) (pv 7) (λ_ _=>rfl)) (ah (bD br (pv 2) (pv 7) (λ_ _=>rfl)) ar))))) ar))))
 bL)))))
 (aH (bA (pv 4))))))))),
  (aJ (aW (bZ (m:=1) (caps:=[1]) (cH (af 0)) (aK 0) cy (kJ (n:=2) (f:=bS) (ai (af 1) (ai (af 0) av)))))
 (aJ (aW (bZ (m:=1) (caps:=[]) (cH (af 0)) (aK 0) cy (kJ (n:=1) (f:=dv) (ai (af 0) av))))
 (aJ (aW (sj (m:=2) (caps:=[]) (xH (ai (af 0) (ai (af 2) av))) (ey (bF (aK 0) (bF (aK 1) eG))) (bH (au kr (af 1) (aA 0))) (af 0)))
 (aJ (aW (bZ (m:=2) (caps:=[]) (fB (ai (af 2) av)) (ey (bF (aK 0) (bF (aK 1) eG))) (bH (au lH (af 1) (aA 0))) (af 0)))
 (aJ (aW (bZ (m:=2) (caps:=[]) (fB (ai (af 2) av)) (ey (bF (aK 0) (bF (aK 1) eG))) (bH (au kP (af 1) (aA 0))) (af 0)))
 (aJ (dH (cH (af 5)) (aK 7)
 (dH (cH (af 6)) (aK 8)
 (cP (gO (aX (n:=3) (f:=fU) (ai (au bC (af 3) (af 7)) (ai (au bC (af 3) (af 8)) (ai (af 3) av)))))
 (cX (iU (af 4) (JL (n:=4) (f:=n9) (ai (au bC (af 0) (af 8)) (ai (au bC (af 2) (af 8)) (ai (au bC (af 0) (af 7)) (ai (au bC (af 2) (af 7)) av)))))))
 bK)))
 (bB (nD (af 4)))))))))⟩
theorem uN:bq ["rows","many","lists","row"] ["rows","many"] (aF rn):=⟨rfl,rfl,rfl,by decide +kernel,rfl,by decide +kernel,by decide +kernel⟩
theorem Lk{a:Addr}{fd:FuncData}(F:Fun K "lone" "lone" rn a fd)(hm:mg "lone" =some (.ref a))(ab:P.given.tree=none)(J:mg "sorted" =none)(KI:bM P w K mg base ca 36 "units" ["many"] qZ)(tS:bM P w K mg base ca 39 "lone_by_one_more" ["lists","row"] gq):cE P w K mg base ca 40 "lone" ["rows","many"] mf a fd:=by
 obtain⟨Qp,PZ,LH,rj,L1,Mj⟩:=KI
 obtain⟨Hs,FL,uD,gr,uu,tX⟩:=tS
 refine⟨bJ F uN rfl λa2 A outer s H E Y=> ?_,hm,F.kp,F.binds λ_ _ _ _ _ _ us hl=>match us,hl with | [_,_],_=>rfl⟩
 have hu:=Y.units
 have a4:=bY Y (by decide)
 exact⟨_,(aw (bg (i:=2) uN.nd rfl (R8 rfl) (aR LH (Y.mono (by decide)) rfl rj L1 Mj .nil aZ (ah (pv 1) ar)))
 (aw (dI PassesOwn.never rfl (cG (pv 0)) (aM (i:=3) uN.nd rfl (R8 rfl))
 (aH (bg (i:=2) uN.nd rfl (R8 rfl) (aR uD (Y.mono (by decide)) rfl gr uu tX .nil aZ (ah (pv 2) (ah (pv 3) ar))))))
 (aH (bA (ba (Bz hu) rfl J Boot.«sorted» (ah (pv 2) ar)))))),
  (aJ (aW (AQ (n:=1) (f:=qZ) (ai (af 1) av)))
 (aJ (dH (cH (af 0)) (aK 3)
 (aW (AQ (n:=2) (f:=gq) (ai (af 2) (ai (af 3) av)))))
 (bB (JV (af 2)))))⟩
theorem Cb:bq ["rows","many","fit"] ["rows","many","fit"] (aF ke):=⟨rfl,rfl,rfl,by decide +kernel,rfl,by decide +kernel,by decide +kernel⟩
theorem Ar{a:Addr}{fd:FuncData}(F:Fun K "check_fit" "check_fit" ke a fd)(hm:mg "check_fit" =some (.ref a))(ac:P.given.tree=none)(Y:mg "len" =none)(J:mg "any" =none)(gH:bM P w K mg base ca 35 "sum_of_products" ["numbers","others"] bS):cE P w K mg base ca 36 "check_fit" ["rows","many","fit"] lW a fd:=by
 obtain⟨o9,oX,gL,dC,gK,gJ⟩:=gH
 refine⟨bJ F Cb rfl λaz A outer s H E hr=> ?_,hm,F.kp,F.binds λ_ _ _ _ _ _ us hl=>match us,hl with | [_,_,_],_=>rfl⟩
 have hu:=hr.units
 have a1:=bY hr (by decide)
 exact⟨_,(aw (cQ (bx (oj hu) (ba cg rfl Y Boot.«len» (ah (pv 2) ar)) (pv 1) (bG _))
 (aH fe)
 bL)
 (aw (cQ (fE (ba (uw rfl) rfl J Boot.«any» (ah (cR (own:=["number"]) (cap:=[]) (caps:=[]) rfl ⟨rfl,by decide +kernel,by decide +kernel,by decide +kernel,trivial,by decide +kernel⟩ (cG (pv 2)) (λ_ _ _=>(aM (i:=0) (show ((["number"]:List Str)++([]:List Str)).Nodup from by decide +kernel) rfl (R8 rfl))) (λ_ _ _=>cv) (λ_ _ _=>(m4 kT (pv 0) aB (bG _)))) ar)))
 (aH fe)
 bL)
 (aH (cQ (fE (ba (uw rfl) rfl J Boot.«any» (ah (cR (own:=["row"]) (cap:=["fit"]) (caps:=[2]) rfl ⟨rfl,by decide +kernel,by decide +kernel,by decide +kernel,⟨rfl,R8 rfl,rfl,trivial⟩,by decide +kernel⟩ (cG (pv 0)) (λ_ _ _=>(aM (i:=0) (show ((["row"]:List Str)++(["fit"]:List Str)).Nodup from by decide +kernel) rfl (R8 rfl))) (λ_ _ _=>cv) (λ_ _ _=>(m4 (oj hu) (aR gL (hr.mono (by decide)) rfl dC gK gJ .nil aZ (ah (pv 0) (ah (pv 1) ar))) aB (bG _)))) ar)))
 (aH fe)
 bL)))),
  (aJ (cP (bH (au kZ (aY dk (ai (af 2) av)) (af 1)))
 fb
 bK)
 (aJ (cP (gO (aY Cw (ai (bZ (m:=1) (caps:=[]) (cH (af 2)) (aK 0) cy (au kP (af 0) (aA 0))) av)))
 fb
 bK)
 (cP (gO (aY Cw (ai (bZ (m:=1) (caps:=[2]) (cH (af 0)) (aK 0) cy (au kZ (aX (n:=2) (f:=bS) (ai (af 0) (ai (af 1) av))) (aA 0))) av)))
 fb
 bK)))⟩
theorem gG:bq ["left","one","best","at","number"] ["left","one"] (aF fZ):=⟨rfl,rfl,rfl,by decide +kernel,rfl,by decide +kernel,by decide +kernel⟩
theorem vo{a:Addr}{fd:FuncData}(F:Fun K "tightest_place" "tightest_place" fZ a fd)(hm:mg "tightest_place" =some (.ref a))(ab:P.given.tree=none)(J:mg "enumerate" =none)(uz:bM P w K mg base ca 35 "first_not_nought" ["numbers"] gw):cE P w K mg base ca 36 "tightest_place" ["left","one"] fT a fd:=by
 obtain⟨FW,FK,t9,d7,tL,tV⟩:=uz
 refine⟨bJ F gG rfl λas A outer s H E Y=> ?_,hm,F.kp,F.binds λ_ _ _ _ _ _ us hl=>match us,hl with | [_,_],_=>rfl⟩
 have hu:=Y.units
 have a0:=bY Y (by decide)
 exact⟨_,(aw (bg (i:=2) gG.nd rfl (R8 rfl) (aR t9 (Y.mono (by decide)) rfl d7 tL tV .nil aZ (ah (pv 1) ar)))
 (aw (dI PassesOwn.never rfl (kR rfl J (ah (pv 1) ar)) (fG rfl (bE (aM (i:=3) gG.nd rfl (R8 rfl)) (bE (aM (i:=4) gG.nd rfl (R8 rfl)) eE)))
 (aH (cQ (PW.pt (pw_and (bx kS (pv 4) aB (bG _)) (pw_and1 (bx kT (aU eI (bD br (pv 0) (pv 3) (λ_ _=>rfl)) (bD br (pv 1) (pv 2) (λ_ _=>rfl))) (aU eI (bD br (pv 0) (pv 2) (λ_ _=>rfl)) (pv 4)) (bG _)))))
 (aH (bg (i:=2) gG.nd rfl (R8 rfl) (pv 3)))
 bL)))
 (aH (bA (pv 2))))),
  (aJ (aW (aX (n:=1) (f:=gw) (ai (af 1) av)))
 (aJ (dH (fB (ai (af 1) av)) (ey (bF (aK 3) (bF (aK 4) eG)))
 (cP (xa (bH (au lH (af 4) (aA 0))) (bH (au kP (au dG (au bC (af 0) (af 3)) (au bC (af 1) (af 2))) (au dG (au bC (af 0) (af 2)) (af 4)))))
 (aW (af 3))
 bK))
 (bB (af 2))))⟩
theorem gX:bq ["rows","many","fit","told","left","bottom","one","at","rest","reduced"] ["rows","many","fit"] (aF oh):=⟨rfl,rfl,rfl,by decide +kernel,rfl,by decide +kernel,by decide +kernel⟩
theorem Gi{a:Addr}{fd:FuncData}(F:Fun K "shares" "shares" oh a fd)(hm:mg "shares" =some (.ref a))(ap:P.given.tree=none)(Y:mg "list" =none)(ab:mg "zip" =none)(C8:bM P w K mg base ca 36 "check_fit" ["rows","many","fit"] lW)(CL:bM P w K mg base ca 40 "lone" ["rows","many"] mf)(rM:bM P w K mg base ca 35 "is_among" ["places","others"] gd)(qH:bM P w K mg base ca 35 "places_of" ["numbers"] dv)(vV:bM P w K mg base ca 36 "tightest_place" ["left","one"] fT)(K1:bM P w K mg base ca 36 "ratio" ["top","bottom"] nY)(wj:bM P w K mg base ca 37 "lowest" ["numbers"] jq):cE P w K mg base ca 41 "shares" ["rows","many","fit"] qo a fd:=by
 obtain⟨Ou,N3,DE,lX,DH,CY⟩:=C8
 obtain⟨NF,L4,BK,qe,AK,CK⟩:=CL
 obtain⟨Fe,Dp,sM,jE,rO,si⟩:=rM
 obtain⟨DA,AD,ou,gT,oF,oz⟩:=qH
 obtain⟨JP,HM,vU,hX,vR,wm⟩:=vV
 obtain⟨Qv,PQ,LJ,rq,Mo,Lf⟩:=K1
 obtain⟨Jd,FT,wI,jB,wt,wg⟩:=wj
 refine⟨bJ F gX rfl λb5 A outer s H E J=> ?_,hm,F.kp,F.binds λ_ _ _ _ _ _ us hl=>match us,hl with | [_,_,_],_=>rfl⟩
 have hu:=J.units
 have b7:=bY J (by decide)
 exact⟨_,(aw (cY (aR DE (J.mono (by decide)) rfl lX DH CY .nil aZ (ah (pv 0) (ah (pv 1) (ah (pv 2) ar)))))
 (aw (bg (i:=3) gX.nd rfl (R8 rfl) (fu ar))
 (aw (bg (i:=4) gX.nd rfl (Ts rfl) (gx gv rfl Y Boot.«list» (ah (pv 2) ar)))
 (aw (bg (i:=5) gX.nd rfl (R8 rfl) aB)
 (aw (dI PassesOwn.never rfl (cG (aR BK (J.mono (by decide)) rfl qe AK CK .nil aZ (ah (pv 0) (ah (pv 1) ar)))) (aM (i:=6) gX.nd rfl (Ts rfl))
 (aH (cQ (fE (aR sM (J.mono (by decide)) rfl jE rO si .nil aZ (ah (aR ou (J.mono (by decide)) rfl gT oF oz .nil aZ (ah (pv 6) ar)) (ah (aR ou (J.mono (by decide)) rfl gT oF oz .nil aZ (ah (pv 4) ar)) ar))))
 (aw (bg (i:=7) gX.nd rfl (Ts rfl) (aR vU (J.mono (by decide)) rfl hX vR wm .nil aZ (ah (pv 4) (ah (pv 6) ar))))
 (aw (cY (jH SI SO SQ d5 (pv 3) (ah (nE (ah (aR LJ (J.mono (by decide)) rfl rq Mo Lf .nil aZ (ah (bD br (pv 4) (pv 7) (λ_ _=>rfl)) (ah (aU eI (pv 5) (bD br (pv 6) (pv 7) (λ_ _=>rfl))) ar))) (ah (pv 6) ar))) ar)))
 (aw (fA (i:=8) (own:=["number","other"]) (cap:=["at","left","one"]) (caps:=[7,4,6]) rfl ⟨rfl,by decide +kernel,by decide +kernel,by decide +kernel,⟨rfl,R8 rfl,rfl,⟨rfl,R8 rfl,rfl,⟨rfl,R8 rfl,rfl,trivial⟩⟩⟩,by decide +kernel⟩ (uA rfl ab (ah (pv 4) (ah (pv 6) ar))) (λ_ _ _=>(fG rfl (bE (aM (i:=0) (show ((["number","other"]:List Str)++(["at","left","one"]:List Str)).Nodup from by decide +kernel) rfl (R8 rfl)) (bE (aM (i:=1) (show ((["number","other"]:List Str)++(["at","left","one"]:List Str)).Nodup from by decide +kernel) rfl (R8 rfl)) eE)))) (λ_ _ _=>cv) (λ_ _ _=>(aU oP (aU eI (pv 0) (bD br (pv 4) (pv 2) (λ_ _=>rfl))) (aU eI (pv 1) (bD br (pv 3) (pv 2) (λ_ _=>rfl))))) gX.nd rfl (R8 rfl) rfl)
 (aw (bg (i:=9) gX.nd rfl (R8 rfl) (aR wI (J.mono (by decide)) rfl jB wt wg .nil aZ (ah (aU cM (pv 8) (fu (ah (aU eI (pv 5) (bD br (pv 6) (pv 7) (λ_ _=>rfl))) ar))) ar)))
 (aw (bg (i:=4) gX.nd rfl (Ts rfl) (sI D3 (pv 9) pV (rh (pv 1))))
 (aH (bg (i:=5) gX.nd rfl (R8 rfl) (bD br (pv 9) (pv 1) (λ_ _=>rfl)))))))))
 bL)))
 (aH (bA (pv 3)))))))),
  (aJ (cX (aX (n:=3) (f:=lW) (ai (af 0) (ai (af 1) (ai (af 2) av)))))
 (aJ (aW (j3 av))
 (aJ (aW (aY mN (ai (af 2) av)))
 (aJ (aW (aA 1))
 (aJ (dH (cH (nD (gE (n:=2) (f:=mf) (ai (af 0) (ai (af 1) av))))) (aK 6)
 (cP (gO (aX (n:=2) (f:=gd) (ai (kJ (n:=1) (f:=dv) (ai (af 6) av)) (ai (kJ (n:=1) (f:=dv) (ai (af 4) av)) av))))
 (aJ (aW (kJ (n:=2) (f:=fT) (ai (af 4) (ai (af 6) av))))
 (aJ (cX (iU (af 3) (nB (ai (aX (n:=2) (f:=nY) (ai (au bC (af 4) (af 7)) (ai (au dG (af 5) (au bC (af 6) (af 7))) av))) (ai (af 6) av)))))
 (aJ (aW (FR (m:=2) (caps:=[7,4,6]) (LM (ai (af 4) (ai (af 6) av))) (ey (bF (aK 0) (bF (aK 1) eG))) cy (au oV (au dG (af 0) (au bC (af 4) (af 2))) (au dG (af 1) (au bC (af 3) (af 2))))))
 (aJ (aW (nD (gE (n:=1) (f:=jq) (ai (au bX (af 8) (oW (ai (au dG (af 5) (au bC (af 6) (af 7))) av))) av))))
 (aJ (aW (Kt (af 9) m5 (qU (af 1))))
 (aW (au bC (af 9) (af 1))))))))
 bK))
 (bB (af 3)))))))⟩
theorem CS:bq ["self","at"] ["self","at"] (aF lK):=⟨rfl,rfl,rfl,by decide +kernel,rfl,by decide +kernel,by decide +kernel⟩
theorem DK{a:Addr}{fd:FuncData}(F:Fun K "row" "Yard.row" lK a fd)(hm:Meth K (ca 0) "row" a)(ac:P.given.tree=none)(Y:Cls K (ca 0))(J:fS K (ca 0) "held_changes"):MethAt P w K mg base ca 35 (ca 0) "row" ["self","at"] kN:=by
 refine⟨a,fd,bJ F CS rfl λam A outer s H E hr=> ?_,hm,F.binds λ_ _ _ _ _ _ us hl=>match us,hl with | [_,_],_=>rfl⟩
 have hu:=hr.units
 have ap:=bY hr (by decide)
 exact⟨_,(aH (bA (cR (own:=["change"]) (cap:=["at"]) (caps:=[1]) rfl ⟨rfl,by decide +kernel,by decide +kernel,by decide +kernel,⟨rfl,R8 rfl,rfl,trivial⟩,by decide +kernel⟩ (cG (xG (pv 0) rfl)) (λ_ _ _=>(aM (i:=0) (show ((["change"]:List Str)++(["at"]:List Str)).Nodup from by decide +kernel) rfl (R8 rfl))) (λ_ _ _=>cv) (λ_ _ _=>(bD br (pv 0) (pv 1) (λ_ _=>rfl)))))),
  (bB (bZ (m:=1) (caps:=[1]) (cH (xJ (c:=0) (f:="held_changes") Y J (af 0))) (aK 0) cy (au bC (af 0) (af 1))))⟩
theorem CG:bq ["self"] ["self"] (aF j1):=⟨rfl,rfl,rfl,by decide +kernel,rfl,by decide +kernel,by decide +kernel⟩
theorem Bn{a:Addr}{fd:FuncData}(F:Fun K "rows" "Yard.rows" j1 a fd)(hm:Meth K (ca 0) "rows" a)(a1:P.given.tree=none)(az:mg "len" =none)(an:mg "range" =none)(Y:Cls K (ca 0))(J:fS K (ca 0) "held_goods")(ab:MethAt P w K mg base ca 35 (ca 0) "row" ["self","at"] kN):MethAt P w K mg base ca 36 (ca 0) "rows" ["self"] dR:=by
 obtain⟨as,ap,ac,nI,am⟩:=ab
 refine⟨a,fd,bJ F CG rfl λa2 A outer s H E hr=> ?_,hm,F.binds λ_ _ _ _ _ _ us hl=>match us,hl with | [_],_=>rfl⟩
 have hu:=hr.units
 have a4:=bY hr (by decide)
 exact⟨_,(aH (bA (cR (own:=["at"]) (cap:=["self"]) (caps:=[0]) rfl ⟨rfl,by decide +kernel,by decide +kernel,by decide +kernel,⟨rfl,R8 rfl,rfl,trivial⟩,by decide +kernel⟩ (dy rfl an (ah (ba cg rfl az Boot.«len» (ah (xG (pv 0) rfl) ar)) ar)) (λ_ _ _=>(aM (i:=0) (show ((["at"]:List Str)++(["self"]:List Str)).Nodup from by decide +kernel) rfl (R8 rfl))) (λ_ _ _=>cv) (λ_ _ _=>(uH (pv 1) Y nI ac (hr.mono (by decide)) am .nil aZ (ah (pv 0) ar)))))),
  (bB (bZ (m:=1) (caps:=[0]) (eR (ai (aY dk (ai (xJ (c:=0) (f:="held_goods") Y J (af 0)) av)) av)) (aK 0) cy (jF (c:=0) (m:="row") (n:=1) (f:=kN) (af 1) (ai (af 0) av))))⟩
theorem zU:bq ["self"] ["self"] (aF jl):=⟨rfl,rfl,rfl,by decide +kernel,rfl,by decide +kernel,by decide +kernel⟩
theorem zR{a:Addr}{fd:FuncData}(F:Fun K "names" "Yard.names" jl a fd)(hm:Meth K (ca 0) "names" a)(ac:P.given.tree=none)(Y:Cls K (ca 0))(J:fS K (ca 0) "held_works"):MethAt P w K mg base ca 35 (ca 0) "names" ["self"] gn:=by
 refine⟨a,fd,bJ F zU rfl λam A outer s H E hr=> ?_,hm,F.binds λ_ _ _ _ _ _ us hl=>match us,hl with | [_],_=>rfl⟩
 have hu:=hr.units
 have ap:=bY hr (by decide)
 exact⟨_,(aH (bA (cR (own:=["work"]) (cap:=[]) (caps:=[]) rfl ⟨rfl,by decide +kernel,by decide +kernel,by decide +kernel,trivial,by decide +kernel⟩ (cG (xG (pv 0) rfl)) (λ_ _ _=>(aM (i:=0) (show ((["work"]:List Str)++([]:List Str)).Nodup from by decide +kernel) rfl (R8 rfl))) (λ_ _ _=>cv) (λ_ _ _=>(bD br (pv 0) aB (λ_ _=>rfl)))))),
  (bB (bZ (m:=1) (caps:=[]) (cH (xJ (c:=0) (f:="held_works") Y J (af 0))) (aK 0) cy (au bC (af 0) (aA 0))))⟩
theorem LK:bq ["yard"] ["yard"] (aF rA):=⟨rfl,rfl,rfl,by decide +kernel,rfl,by decide +kernel,by decide +kernel⟩
theorem KQ{a:Addr}{fd:FuncData}(F:Fun K "ways" "ways" rA a fd)(hm:mg "ways" =some (.ref a))(a4:P.given.tree=none)(a2:mg "len" =none)(ap:Cls K (ca 0))(CL:bM P w K mg base ca 40 "lone" ["rows","many"] mf)(ac:MethAt P w K mg base ca 36 (ca 0) "rows" ["self"] dR)(J:MethAt P w K mg base ca 35 (ca 0) "names" ["self"] gn):cE P w K mg base ca 41 "ways" ["yard"] nF a fd:=by
 obtain⟨NF,L4,BK,qe,AK,CK⟩:=CL
 obtain⟨a1,az,am,gk,an⟩:=ac
 obtain⟨a0,as,Y,hU,ab⟩:=J
 refine⟨bJ F LK rfl λa9 A outer s H E hr=> ?_,hm,F.kp,F.binds λ_ _ _ _ _ _ us hl=>match us,hl with | [_],_=>rfl⟩
 have hu:=hr.units
 have bd:=bY hr (by decide)
 exact⟨_,(aH (bA (aR BK (hr.mono (by decide)) rfl qe AK CK .nil aZ (ah (qg (pv 0) ap gk am (hr.mono (by decide)) an .nil aZ) (ah (ba cg rfl a2 Boot.«len» (ah (qg (pv 0) ap hU Y (hr.mono (by decide)) ab .nil aZ) ar)) ar))))),
  (bB (gE (n:=2) (f:=mf) (ai (jF (c:=0) (m:="rows") (n:=0) (f:=dR) (af 0) av) (ai (aY dk (ai (jF (c:=0) (m:="names") (n:=0) (f:=gn) (af 0) av) av)) av))))⟩
theorem vi:bq ["self","way"] ["self","way"] (aF fV):=⟨rfl,rfl,rfl,by decide +kernel,rfl,by decide +kernel,by decide +kernel⟩
theorem vt{a:Addr}{fd:FuncData}(F:Fun K "check_way" "Yard.check_way" fV a fd)(hm:Meth K (ca 0) "check_way" a)(an:P.given.tree=none)(Y:mg "len" =none)(ac:mg "any" =none)(ab:Cls K (ca 0))(J:fS K (ca 0) "held_works"):MethAt P w K mg base ca 35 (ca 0) "check_way" ["self","way"] fW:=by
 refine⟨a,fd,bJ F vi rfl λap A outer s H E hr=> ?_,hm,F.binds λ_ _ _ _ _ _ us hl=>match us,hl with | [_,_],_=>rfl⟩
 have hu:=hr.units
 have az:=bY hr (by decide)
 exact⟨_,(aw (cQ (bx (oj hu) (ba cg rfl Y Boot.«len» (ah (pv 1) ar)) (ba cg rfl Y Boot.«len» (ah (xG (pv 0) rfl) ar)) (bG _))
 (aH fe)
 bL)
 (aH (cQ (fE (ba (uw rfl) rfl ac Boot.«any» (ah (cR (own:=["often"]) (cap:=[]) (caps:=[]) rfl ⟨rfl,by decide +kernel,by decide +kernel,by decide +kernel,trivial,by decide +kernel⟩ (cG (pv 1)) (λ_ _ _=>(aM (i:=0) (show ((["often"]:List Str)++([]:List Str)).Nodup from by decide +kernel) rfl (R8 rfl))) (λ_ _ _=>cv) (λ_ _ _=>(m4 kT (pv 0) aB (bG _)))) ar)))
 (aH fe)
 bL))),
  (aJ (cP (bH (au kZ (aY dk (ai (af 1) av)) (aY dk (ai (xJ (c:=0) (f:="held_works") ab J (af 0)) av))))
 fb
 bK)
 (cP (gO (aY Cw (ai (bZ (m:=1) (caps:=[]) (cH (af 1)) (aK 0) cy (au kP (af 0) (aA 0))) av)))
 fb
 bK))⟩
theorem yb:bq ["self","way"] ["self","way"] (aF iE):=⟨rfl,rfl,rfl,by decide +kernel,rfl,by decide +kernel,by decide +kernel⟩
theorem xX{a:Addr}{fd:FuncData}(F:Fun K "leaves" "Yard.leaves" iE a fd)(hm:Meth K (ca 0) "leaves" a)(a3:P.given.tree=none)(ap:Cls K (ca 0))(J:MethAt P w K mg base ca 35 (ca 0) "check_way" ["self","way"] fW)(ac:MethAt P w K mg base ca 36 (ca 0) "rows" ["self"] dR)(gH:bM P w K mg base ca 35 "sum_of_products" ["numbers","others"] bS):MethAt P w K mg base ca 37 (ca 0) "leaves" ["self","way"] gD:=by
 obtain⟨az,as,Y,hE,ab⟩:=J
 obtain⟨a1,a0,am,gk,an⟩:=ac
 obtain⟨o9,oX,gL,dC,gK,gJ⟩:=gH
 refine⟨a,fd,bJ F yb rfl λa8 A outer s H E hr=> ?_,hm,F.binds λ_ _ _ _ _ _ us hl=>match us,hl with | [_,_],_=>rfl⟩
 have hu:=hr.units
 have bb:=bY hr (by decide)
 exact⟨_,(aw (cY (uH (pv 0) ap hE Y (hr.mono (by decide)) ab .nil aZ (ah (pv 1) ar)))
 (aH (bA (cR (own:=["row"]) (cap:=["way"]) (caps:=[1]) rfl ⟨rfl,by decide +kernel,by decide +kernel,by decide +kernel,⟨rfl,R8 rfl,rfl,trivial⟩,by decide +kernel⟩ (cG (qg (pv 0) ap gk am (hr.mono (by decide)) an .nil aZ)) (λ_ _ _=>(aM (i:=0) (show ((["row"]:List Str)++(["way"]:List Str)).Nodup from by decide +kernel) rfl (R8 rfl))) (λ_ _ _=>cv) (λ_ _ _=>(aR gL (hr.mono (by decide)) rfl dC gK gJ .nil aZ (ah (pv 0) (ah (pv 1) ar)))))))),
  (aJ (cX (jF (c:=0) (m:="check_way") (n:=1) (f:=fW) (af 0) (ai (af 1) av)))
 (bB (bZ (m:=1) (caps:=[1]) (cH (jF (c:=0) (m:="rows") (n:=0) (f:=dR) (af 0) av)) (aK 0) cy (aX (n:=2) (f:=bS) (ai (af 0) (ai (af 1) av))))))⟩
theorem wH:bq ["self","way"] ["self","way"] (aF gy):=⟨rfl,rfl,rfl,by decide +kernel,rfl,by decide +kernel,by decide +kernel⟩
theorem wa{a:Addr}{fd:FuncData}(F:Fun K "balanced" "Yard.balanced" gy a fd)(hm:Meth K (ca 0) "balanced" a)(az:P.given.tree=none)(ap:mg "all" =none)(am:Cls K (ca 0))(J:MethAt P w K mg base ca 37 (ca 0) "leaves" ["self","way"] gD):MethAt P w K mg base ca 38 (ca 0) "balanced" ["self","way"] gz:=by
 obtain⟨an,ac,Y,jS,ab⟩:=J
 refine⟨a,fd,bJ F wH rfl λa0 A outer s H E hr=> ?_,hm,F.binds λ_ _ _ _ _ _ us hl=>match us,hl with | [_,_],_=>rfl⟩
 have hu:=hr.units
 have a2:=bY hr (by decide)
 exact⟨_,(aH (bA (ba (qt rfl) rfl ap Boot.«all» (ah (cR (own:=["left"]) (cap:=[]) (caps:=[]) rfl ⟨rfl,by decide +kernel,by decide +kernel,by decide +kernel,trivial,by decide +kernel⟩ (cG (uH (pv 0) am jS Y (hr.mono (by decide)) ab .nil aZ (ah (pv 1) ar))) (λ_ _ _=>(aM (i:=0) (show ((["left"]:List Str)++([]:List Str)).Nodup from by decide +kernel) rfl (R8 rfl))) (λ_ _ _=>cv) (λ_ _ _=>(m4 (nv hu) (pv 0) aB (bG _)))) ar)))),
  (bB (aY xi (ai (bZ (m:=1) (caps:=[]) (cH (jF (c:=0) (m:="leaves") (n:=1) (f:=gD) (af 0) (ai (af 1) av))) (aK 0) cy (au kr (af 0) (aA 0))) av)))⟩
theorem Gb:bq ["yard","way"] ["yard","way"] (aF og):=⟨rfl,rfl,rfl,by decide +kernel,rfl,by decide +kernel,by decide +kernel⟩
theorem GF{a:Addr}{fd:FuncData}(F:Fun K "parted" "parted" og a fd)(hm:mg "parted" =some (.ref a))(a9:P.given.tree=none)(a7:mg "len" =none)(ac:Cls K (ca 0))(J:MethAt P w K mg base ca 38 (ca 0) "balanced" ["self","way"] gz)(JF:bM P w K mg base ca 41 "shares" ["rows","many","fit"] qo)(as:MethAt P w K mg base ca 36 (ca 0) "rows" ["self"] dR)(am:MethAt P w K mg base ca 35 (ca 0) "names" ["self"] gn):cE P w K mg base ca 42 "parted" ["yard","way"] jC a fd:=by
 obtain⟨a2,a1,Y,iR,ab⟩:=J
 obtain⟨PH,Pa,J0,qb,IJ,Jp⟩:=JF
 obtain⟨a6,a4,az,gk,a0⟩:=as
 obtain⟨a5,a3,an,hU,ap⟩:=am
 refine⟨bJ F Gb rfl λbm A outer s H E hr=> ?_,hm,F.kp,F.binds λ_ _ _ _ _ _ us hl=>match us,hl with | [_,_],_=>rfl⟩
 have hu:=hr.units
 have bp:=bY hr (by decide)
 exact⟨_,(aw (cQ (jT (fE (uH (pv 0) ac iR Y (hr.mono (by decide)) ab .nil aZ (ah (pv 1) ar))))
 (aH fe)
 bL)
 (aH (bA (aR J0 (hr.mono (by decide)) rfl qb IJ Jp .nil aZ (ah (qg (pv 0) ac gk az (hr.mono (by decide)) a0 .nil aZ) (ah (ba cg rfl a7 Boot.«len» (ah (qg (pv 0) ac hU an (hr.mono (by decide)) ap .nil aZ) ar)) (ah (pv 1) ar))))))),
  (aJ (cP (jK (gO (jF (c:=0) (m:="balanced") (n:=1) (f:=gz) (af 0) (ai (af 1) av))))
 fb
 bK)
 (bB (gE (n:=3) (f:=qo) (ai (jF (c:=0) (m:="rows") (n:=0) (f:=dR) (af 0) av) (ai (aY dk (ai (jF (c:=0) (m:="names") (n:=0) (f:=gn) (af 0) av) av)) (ai (af 1) av))))))⟩
theorem Fn:bq ["text"] ["text"] (aF mZ):=⟨rfl,rfl,rfl,by decide +kernel,rfl,by decide +kernel,by decide +kernel⟩
theorem Fg{a:Addr}{fd:FuncData}(F:Fun K "is_name" "is_name" mZ a fd)(hm:mg "is_name" =some (.ref a))(am:P.given.tree=none)(Y:mg "len" =none)(ab:mg "all" =none)(J:∃t,mg "MOST_LETTERS" =some (.int 8 t)):cE P w K mg base ca 35 "is_name" ["text"] m8 a fd:=by
 refine⟨bJ F Fn rfl λan A outer s H E hr=> ?_,hm,F.kp,F.binds λ_ _ _ _ _ _ us hl=>match us,hl with | [_],_=>rfl⟩
 have hu:=hr.units
 have as:=bY hr (by decide)
 exact⟨_,(aw (cQ (PW.pt (pw_or (bx kT (ba cg rfl Y Boot.«len» (ah (pv 0) ar)) aB (bG _)) (pw_or1 (bx kS (ba cg rfl Y Boot.«len» (ah (pv 0) ar)) (yC (v:=.int 8) rfl J.choose_spec ⟨_,rfl⟩) (bG _)))))
 (aH (bA nR))
 bL)
 (aH (bA (ba (qt rfl) rfl ab Boot.«all» (ah (cR (own:=["sign"]) (cap:=[]) (caps:=[]) rfl ⟨rfl,by decide +kernel,by decide +kernel,by decide +kernel,trivial,by decide +kernel⟩ (M1 (pv 0)) (λ_ _ _=>(aM (i:=0) (show ((["sign"]:List Str)++([]:List Str)).Nodup from by decide +kernel) rfl (R8 rfl))) (λ_ _ _=>cv) (λ_ _ _=>(JK Hf Hf xf (pv 0) xf))) ar))))),
  (aJ (cP (kv (bH (au kP (aY dk (ai (af 0) av)) (aA 1))) (bH (au lH (aY dk (ai (af 0) av)) (aA 8))))
 (bB (nU false))
 bK)
 (bB (aY xi (ai (bZ (m:=1) (caps:=[]) (KH (af 0)) (aK 0) cy (CM Gd Gd (xI ("a" :Str)) (af 0) (xI ("z" :Str)))) av))))⟩
theorem zS:bq ["goods","works"] ["goods","works"] (aF jk):=⟨rfl,rfl,rfl,by decide +kernel,rfl,by decide +kernel,by decide +kernel⟩
theorem Ab{a:Addr}{fd:FuncData}(F:Fun K "check_many" "check_many" jk a fd)(hm:mg "check_many" =some (.ref a))(am:P.given.tree=none)(ab:mg "len" =none)(J:∃t,mg "MOST_GOODS" =some (.int 10 t))(Y:∃t,mg "MOST_WORKS" =some (.int 10 t)):cE P w K mg base ca 35 "check_many" ["goods","works"] jg a fd:=by
 refine⟨bJ F zS rfl λan A outer s H E hr=> ?_,hm,F.kp,F.binds λ_ _ _ _ _ _ us hl=>match us,hl with | [_,_],_=>rfl⟩
 have hu:=hr.units
 have as:=bY hr (by decide)
 exact⟨_,(aw (cQ (bx kS (ba cg rfl ab Boot.«len» (ah (pv 0) ar)) (yC (v:=.int 10) rfl J.choose_spec ⟨_,rfl⟩) (bG _))
 (aH fe)
 bL)
 (aH (cQ (bx kS (ba cg rfl ab Boot.«len» (ah (pv 1) ar)) (yC (v:=.int 10) rfl Y.choose_spec ⟨_,rfl⟩) (bG _))
 (aH fe)
 bL))),
  (aJ (cP (bH (au lH (aY dk (ai (af 0) av)) (aA 10)))
 fb
 bK)
 (cP (bH (au lH (aY dk (ai (af 1) av)) (aA 10)))
 fb
 bK))⟩
theorem zZ:bq ["text","earlier"] ["text","earlier"] (aF je):=⟨rfl,rfl,rfl,by decide +kernel,rfl,by decide +kernel,by decide +kernel⟩
theorem Aa{a:Addr}{fd:FuncData}(F:Fun K "check_name" "check_name" je a fd)(hm:mg "check_name" =some (.ref a))(Y:P.given.tree=none)(Hd:bM P w K mg base ca 35 "is_name" ["text"] m8):cE P w K mg base ca 36 "check_name" ["text","earlier"] fC a fd:=by
 obtain⟨Pj,OK,Ht,oO,Hw,FX⟩:=Hd
 refine⟨bJ F zZ rfl λap A outer s H E J=> ?_,hm,F.kp,F.binds λ_ _ _ _ _ _ us hl=>match us,hl with | [_,_],_=>rfl⟩
 have hu:=J.units
 have az:=bY J (by decide)
 exact⟨_,(aw (cQ (jT (fE (aR Ht (J.mono (by decide)) rfl oO Hw FX .nil aZ (ah (pv 0) ar))))
 (aH fe)
 bL)
 (aH (cQ (bx yX (pv 0) (pv 1) (by with_unfolding_all rfl))
 (aH fe)
 bL))),
  (aJ (cP (jK (gO (aX (n:=1) (f:=m8) (ai (af 0) av))))
 fb
 bK)
 (cP (bH (au Ki (af 0) (af 1)))
 fb
 bK))⟩
theorem n8:bq ["goods","at","good"] ["goods"] (aF iJ):=⟨rfl,rfl,rfl,by decide +kernel,rfl,by decide +kernel,by decide +kernel⟩
theorem xW{a:Addr}{fd:FuncData}(F:Fun K "check_goods" "check_goods" iJ a fd)(hm:mg "check_goods" =some (.ref a))(ab:P.given.tree=none)(J:mg "enumerate" =none)(qp:bM P w K mg base ca 36 "check_name" ["text","earlier"] fC):cE P w K mg base ca 37 "check_goods" ["goods"] iK a fd:=by
 obtain⟨AZ,z5,p8,ie,ql,qi⟩:=qp
 refine⟨bJ F n8 rfl λas A outer s H E Y=> ?_,hm,F.kp,F.binds λ_ _ _ _ _ _ us hl=>match us,hl with | [_],_=>rfl⟩
 have hu:=Y.units
 have a0:=bY Y (by decide)
 exact⟨_,(aH (dI PassesOwn.never rfl (kR rfl J (ah (pv 0) ar)) (fG rfl (bE (aM (i:=1) n8.nd rfl (R8 rfl)) (bE (aM (i:=2) n8.nd rfl (R8 rfl)) eE)))
 (aH (cY (aR p8 (Y.mono (by decide)) rfl ie ql qi .nil aZ (ah (pv 2) (ah (sI D3 (pv 0) pV (rh (pv 1))) ar))))))),
  (dH (fB (ai (af 0) av)) (ey (bF (aK 1) (bF (aK 2) eG)))
 (cX (aX (n:=2) (f:=fC) (ai (af 2) (ai (Kt (af 0) m5 (qU (af 1))) av)))))⟩
theorem Ae:bq ["good","goods","earlier"] ["good","goods","earlier"] (aF jb):=⟨rfl,rfl,rfl,by decide +kernel,rfl,by decide +kernel,by decide +kernel⟩
theorem Ai{a:Addr}{fd:FuncData}(F:Fun K "check_good" "check_good" jb a fd)(hm:mg "check_good" =some (.ref a))(Y:P.given.tree=none):cE P w K mg base ca 35 "check_good" ["good","goods","earlier"] jc a fd:=by
 refine⟨bJ F Ae rfl λab A outer s H E J=> ?_,hm,F.kp,F.binds λ_ _ _ _ _ _ us hl=>match us,hl with | [_,_,_],_=>rfl⟩
 have hu:=J.units
 have am:=bY J (by decide)
 exact⟨_,(aw (cQ (bx BZ (pv 0) (pv 1) (by with_unfolding_all rfl))
 (aH fe)
 bL)
 (aH (cQ (bx yX (pv 0) (pv 2) (by with_unfolding_all rfl))
 (aH fe)
 bL))),
  (aJ (cP (bH (au Ju (af 0) (af 1)))
 fb
 bK)
 (cP (bH (au Ki (af 0) (af 2)))
 fb
 bK))⟩
theorem xr:bq ["amount"] ["amount"] (aF gZ):=⟨rfl,rfl,rfl,by decide +kernel,rfl,by decide +kernel,by decide +kernel⟩
theorem xv{a:Addr}{fd:FuncData}(F:Fun K "check_amount" "check_amount" gZ a fd)(hm:mg "check_amount" =some (.ref a))(Y:P.given.tree=none)(rW:bM P w K mg base ca 35 "is_whole" ["value"] eX):cE P w K mg base ca 36 "check_amount" ["amount"] g5 a fd:=by
 obtain⟨Fs,Du,pq,jx,px,pH⟩:=rW
 refine⟨bJ F xr rfl λap A outer s H E J=> ?_,hm,F.kp,F.binds λ_ _ _ _ _ _ us hl=>match us,hl with | [_],_=>rfl⟩
 have hu:=J.units
 have az:=bY J (by decide)
 exact⟨_,(aH (cQ (PW.pt (pw_or (jT (fE (aR pq (J.mono (by decide)) rfl jx px pH .nil aZ (ah (pv 0) ar)))) (pw_or1 (bx kT (pv 0) aB (bG _)))))
 (aH fe)
 bL)),
  (cP (kv (jK (gO (aX (n:=1) (f:=eX) (ai (af 0) av)))) (bH (au kP (af 0) (aA 1))))
 fb
 bK)⟩
theorem kQ:bq ["parts","goods","earlier","good","amount"] ["parts","goods"] (aF iI):=⟨rfl,rfl,rfl,by decide +kernel,rfl,by decide +kernel,by decide +kernel⟩
theorem yh{a:Addr}{fd:FuncData}(F:Fun K "check_parts" "check_parts" iI a fd)(hm:mg "check_parts" =some (.ref a))(Y:P.given.tree=none)(BQ:bM P w K mg base ca 35 "check_good" ["good","goods","earlier"] jc)(xS:bM P w K mg base ca 36 "check_amount" ["amount"] g5):cE P w K mg base ca 37 "check_parts" ["parts","goods"] eY a fd:=by
 obtain⟨MQ,Mt,B0,kE,Cs,Ck⟩:=BQ
 obtain⟨Lw,Kj,yg,jh,ym,yw⟩:=xS
 refine⟨bJ F kQ rfl λa1 A outer s H E J=> ?_,hm,F.kp,F.binds λ_ _ _ _ _ _ us hl=>match us,hl with | [_,_],_=>rfl⟩
 have hu:=J.units
 have a3:=bY J (by decide)
 exact⟨_,(aw (bg (i:=2) kQ.nd rfl (R8 rfl) (fu ar))
 (aH (dI PassesOwn.never rfl (cG (pv 0)) (fG rfl (bE (aM (i:=3) kQ.nd rfl (R8 rfl)) (bE (aM (i:=4) kQ.nd rfl (R8 rfl)) eE)))
 (aw (cY (aR B0 (J.mono (by decide)) rfl kE Cs Ck .nil aZ (ah (pv 3) (ah (pv 1) (ah (pv 2) ar)))))
 (aw (cY (aR yg (J.mono (by decide)) rfl jh ym yw .nil aZ (ah (pv 4) ar)))
 (aH (cY (jH SI SO SQ d5 (pv 2) (ah (pv 3) ar))))))))),
  (aJ (aW (j3 av))
 (dH (cH (af 0)) (ey (bF (aK 3) (bF (aK 4) eG)))
 (aJ (cX (kJ (n:=3) (f:=jc) (ai (af 3) (ai (af 1) (ai (af 2) av)))))
 (aJ (cX (aX (n:=1) (f:=g5) (ai (af 4) av)))
 (cX (iU (af 2) (af 3)))))))⟩
theorem jd:bq ["works","goods","earlier","name","uses","makes"] ["works","goods"] (aF iC):=⟨rfl,rfl,rfl,by decide +kernel,rfl,by decide +kernel,by decide +kernel⟩
theorem yp{a:Addr}{fd:FuncData}(F:Fun K "check_works" "check_works" iC a fd)(hm:mg "check_works" =some (.ref a))(am:P.given.tree=none)(qp:bM P w K mg base ca 36 "check_name" ["text","earlier"] fC)(zW:bM P w K mg base ca 37 "check_parts" ["parts","goods"] eY):cE P w K mg base ca 38 "check_works" ["works","goods"] iG a fd:=by
 obtain⟨AZ,z5,p8,ie,ql,qi⟩:=qp
 obtain⟨Mq,KZ,Y,iM,tf,sZ⟩:=zW
 refine⟨bJ F jd rfl λa1 A outer s H E J=> ?_,hm,F.kp,F.binds λ_ _ _ _ _ _ us hl=>match us,hl with | [_,_],_=>rfl⟩
 have hu:=J.units
 have a3:=bY J (by decide)
 exact⟨_,(aw (bg (i:=2) jd.nd rfl (R8 rfl) (fu ar))
 (aH (dI PassesOwn.never rfl (cG (pv 0)) (fG rfl (bE (aM (i:=3) jd.nd rfl (R8 rfl)) (bE (aM (i:=4) jd.nd rfl (R8 rfl)) (bE (aM (i:=5) jd.nd rfl (R8 rfl)) eE))))
 (aw (cY (aR p8 (J.mono (by decide)) rfl ie ql qi .nil aZ (ah (pv 3) (ah (pv 2) ar))))
 (aw (cY (aR Y (J.mono (by decide)) rfl iM tf sZ .nil aZ (ah (pv 4) (ah (pv 1) ar))))
 (aw (cY (aR Y (J.mono (by decide)) rfl iM tf sZ .nil aZ (ah (pv 5) (ah (pv 1) ar))))
 (aH (cY (jH SI SO SQ d5 (pv 2) (ah (pv 3) ar)))))))))),
  (aJ (aW (j3 av))
 (dH (cH (af 0)) (ey (bF (aK 3) (bF (aK 4) (bF (aK 5) eG))))
 (aJ (cX (kJ (n:=2) (f:=fC) (ai (af 3) (ai (af 2) av))))
 (aJ (cX (aX (n:=2) (f:=eY) (ai (af 4) (ai (af 1) av))))
 (aJ (cX (aX (n:=2) (f:=eY) (ai (af 5) (ai (af 1) av))))
 (cX (iU (af 2) (af 3))))))))⟩
theorem BR:bq ["work"] ["work"] (aF jV):=⟨rfl,rfl,rfl,by decide +kernel,rfl,by decide +kernel,by decide +kernel⟩
theorem CQ{a:Addr}{fd:FuncData}(F:Fun K "copy_work" "copy_work" jV a fd)(hm:mg "copy_work" =some (.ref a))(ab:P.given.tree=none)(J:mg "list" =none):cE P w K mg base ca 35 "copy_work" ["work"] j6 a fd:=by
 refine⟨bJ F BR rfl λac A outer s H E Y=> ?_,hm,F.kp,F.binds λ_ _ _ _ _ _ us hl=>match us,hl with | [_],_=>rfl⟩
 have hu:=Y.units
 have an:=bY Y (by decide)
 exact⟨_,(aH (bA (nE (ah (bD br (pv 0) aB (λ_ _=>rfl)) (ah (gx gv rfl J Boot.«list» (ah (bD br (pv 0) aB (λ_ _=>rfl)) ar)) (ah (gx gv rfl J Boot.«list» (ah (bD br (pv 0) aB (λ_ _=>rfl)) ar)) ar)))))),
  (bB (nB (ai (au bC (af 0) (aA 0)) (ai (aY mN (ai (au bC (af 0) (aA 1)) av)) (ai (aY mN (ai (au bC (af 0) (aA 2)) av)) av)))))⟩
theorem Bo:bq ["good","parts"] ["good","parts"] (aF j9):=⟨rfl,rfl,rfl,by decide +kernel,rfl,by decide +kernel,by decide +kernel⟩
theorem Co{a:Addr}{fd:FuncData}(F:Fun K "amount_of" "amount_of" j9 a fd)(hm:mg "amount_of" =some (.ref a))(ab:P.given.tree=none)(J:mg "sum" =none):cE P w K mg base ca 35 "amount_of" ["good","parts"] eU a fd:=by
 refine⟨bJ F Bo rfl λac A outer s H E Y=> ?_,hm,F.kp,F.binds λ_ _ _ _ _ _ us hl=>match us,hl with | [_,_],_=>rfl⟩
 have hu:=Y.units
 have an:=bY Y (by decide)
 exact⟨_,(aH (bA (ba (um rfl) rfl J Boot.«sum» (ah (cR (own:=["part"]) (cap:=["good"]) (caps:=[0]) rfl ⟨rfl,by decide +kernel,by decide +kernel,by decide +kernel,⟨rfl,R8 rfl,rfl,trivial⟩,by decide +kernel⟩ (cG (pv 1)) (λ_ _ _=>(aM (i:=0) (show ((["part"]:List Str)++(["good"]:List Str)).Nodup from by decide +kernel) rfl (R8 rfl))) (λ_ _ _=>(pX (bx (nv hu) (bD br (pv 0) aB (λ_ _=>rfl)) (pv 1) (bG _)))) (λ_ _ _=>(bD br (pv 0) aB (λ_ _=>rfl)))) ar)))),
  (bB (aY Cd (ai (bZ (m:=1) (caps:=[0]) (cH (af 1)) (aK 0) (bH (au kr (au bC (af 0) (aA 0)) (af 1))) (au bC (af 0) (aA 1))) av)))⟩
theorem Bb:bq ["work","goods"] ["work","goods"] (aF j2):=⟨rfl,rfl,rfl,by decide +kernel,rfl,by decide +kernel,by decide +kernel⟩
theorem CO{a:Addr}{fd:FuncData}(F:Fun K "change_of" "change_of" j2 a fd)(hm:mg "change_of" =some (.ref a))(am:P.given.tree=none)(C1:bM P w K mg base ca 35 "amount_of" ["good","parts"] eU):cE P w K mg base ca 36 "change_of" ["work","goods"] j8 a fd:=by
 obtain⟨Ox,ML,Y,jW,vK,vQ⟩:=C1
 refine⟨bJ F Bb rfl λap A outer s H E J=> ?_,hm,F.kp,F.binds λ_ _ _ _ _ _ us hl=>match us,hl with | [_,_],_=>rfl⟩
 have hu:=J.units
 have az:=bY J (by decide)
 exact⟨_,(aH (bA (cR (own:=["good"]) (cap:=["work"]) (caps:=[0]) rfl ⟨rfl,by decide +kernel,by decide +kernel,by decide +kernel,⟨rfl,R8 rfl,rfl,trivial⟩,by decide +kernel⟩ (cG (pv 1)) (λ_ _ _=>(aM (i:=0) (show ((["good"]:List Str)++(["work"]:List Str)).Nodup from by decide +kernel) rfl (R8 rfl))) (λ_ _ _=>cv) (λ_ _ _=>(aU oP (aR Y (J.mono (by decide)) rfl jW vK vQ .nil aZ (ah (pv 0) (ah (bD br (pv 1) aB (λ_ _=>rfl)) ar))) (aR Y (J.mono (by decide)) rfl jW vK vQ .nil aZ (ah (pv 0) (ah (bD br (pv 1) aB (λ_ _=>rfl)) ar)))))))),
  (bB (bZ (m:=1) (caps:=[0]) (cH (af 1)) (aK 0) cy (au oV (aX (n:=2) (f:=eU) (ai (af 0) (ai (au bC (af 1) (aA 2)) av))) (aX (n:=2) (f:=eU) (ai (af 0) (ai (au bC (af 1) (aA 1)) av))))))⟩
theorem Bl:bq ["self","goods","works"] ["self","goods","works"] (aF jZ):=⟨rfl,rfl,rfl,by decide +kernel,rfl,by decide +kernel,by decide +kernel⟩
theorem CD{a:Addr}{fd:FuncData}(F:Fun K "__init__" "Yard.__init__" jZ a fd)(hk:Mk K (ca 0) a)(hm:mg "Yard" =some (.ref (ca 0)))(ap:P.given.tree=none)(am:mg "list" =none)(ac:Cls K (ca 0))(Y:fS K (ca 0) "held_goods")(ab:fS K (ca 0) "held_works")(J:fS K (ca 0) "held_changes")(A7:bM P w K mg base ca 35 "check_many" ["goods","works"] jg)(Al:bM P w K mg base ca 37 "check_goods" ["goods"] iK)(zX:bM P w K mg base ca 38 "check_works" ["works","goods"] iG)(C4:bM P w K mg base ca 35 "copy_work" ["work"] j6)(Dn:bM P w K mg base ca 36 "change_of" ["work","goods"] j8):HC P w K mg base ca 39 (ca 0) "Yard" ["self","goods","works"] iV:=by
 obtain⟨Ny,Mv,AR,kD,AS,AI⟩:=A7
 obtain⟨Mw,Li,Ah,jN,z3,Af⟩:=Al
 obtain⟨Mr,LI,Aj,jR,z4,Ad⟩:=zX
 obtain⟨Ov,NT,DI,lY,CT,C5⟩:=C4
 obtain⟨Oy,Nr,DN,lV,DJ,DM⟩:=Dn
 refine⟨a,fd,bJ F Bl rfl λbw A outer s H E hr=> ?_,hk,hm,F.binds λ_ _ _ _ _ _ us hl=>match us,hl with | [_,_,_],_=>rfl⟩
 have hu:=hr.units
 have b2:=bY hr (by decide)
 exact⟨_,(aw (cY (aR AR (hr.mono (by decide)) rfl kD AS AI .nil aZ (ah (pv 1) (ah (pv 2) ar))))
 (aw (cY (aR Ah (hr.mono (by decide)) rfl jN z3 Af .nil aZ (ah (pv 1) ar)))
 (aw (cY (aR Aj (hr.mono (by decide)) rfl jR z4 Ad .nil aZ (ah (pv 2) (ah (pv 1) ar))))
 (aw (Bg (pv 0) (gx gv rfl am Boot.«list» (ah (pv 1) ar)) rfl)
 (aw (Bg (pv 0) (cR (own:=["work"]) (cap:=[]) (caps:=[]) rfl ⟨rfl,by decide +kernel,by decide +kernel,by decide +kernel,trivial,by decide +kernel⟩ (cG (pv 2)) (λ_ _ _=>(aM (i:=0) (show ((["work"]:List Str)++([]:List Str)).Nodup from by decide +kernel) rfl (R8 rfl))) (λ_ _ _=>cv) (λ_ _ _=>(aR DI (hr.mono (by decide)) rfl lY CT C5 .nil aZ (ah (pv 0) ar)))) rfl)
 (aH (Bg (pv 0) (cR (own:=["work"]) (cap:=["goods"]) (caps:=[1]) rfl ⟨rfl,by decide +kernel,by decide +kernel,by decide +kernel,⟨rfl,R8 rfl,rfl,trivial⟩,by decide +kernel⟩ (cG (pv 2)) (λ_ _ _=>(aM (i:=0) (show ((["work"]:List Str)++(["goods"]:List Str)).Nodup from by decide +kernel) rfl (R8 rfl))) (λ_ _ _=>cv) (λ_ _ _=>(aR DN (hr.mono (by decide)) rfl lV DJ DM .nil aZ (ah (pv 0) (ah (pv 1) ar))))) rfl))))))),
  (aJ (cX (aX (n:=2) (f:=jg) (ai (af 1) (ai (af 2) av))))
 (aJ (cX (aX (n:=1) (f:=iK) (ai (af 1) av)))
 (aJ (cX (aX (n:=2) (f:=iG) (ai (af 2) (ai (af 1) av))))
 (aJ (yI (c:=0) (f:="held_goods") ac Y (af 0) (aY mN (ai (af 1) av)))
 (aJ (yI (c:=0) (f:="held_works") ac ab (af 0) (bZ (m:=1) (caps:=[]) (cH (af 2)) (aK 0) cy (aX (n:=1) (f:=j6) (ai (af 0) av))))
 (yI (c:=0) (f:="held_changes") ac J (af 0) (bZ (m:=1) (caps:=[1]) (cH (af 2)) (aK 0) cy (aX (n:=2) (f:=j8) (ai (af 0) (ai (af 1) av))))))))))⟩
theorem Dz:bq ["_law_script","_law_k"] ["_law_script","_law_k"] (aF lr):=⟨rfl,rfl,rfl,by decide +kernel,rfl,by decide +kernel,by decide +kernel⟩
theorem Dw{a:Addr}{fd:FuncData}(F:Fun K "_law_cell" "_law_cell" lr a fd)(hm:mg "_law_cell" =some (.ref a))(ab:P.given.tree=none)(J:mg "len" =none):cE P w K mg base ca 35 "_law_cell" ["_law_script","_law_k"] dg a fd:=by
 refine⟨bJ F Dz rfl λac A outer s H E Y=> ?_,hm,F.kp,F.binds λ_ _ _ _ _ _ us hl=>match us,hl with | [_,_],_=>rfl⟩
 have hu:=Y.units
 have an:=bY Y (by decide)
 exact⟨_,(aw (cQ (bx kT (pv 1) (ba cg rfl J Boot.«len» (ah (pv 0) ar)) (bG _))
 (aH (bA (bD br (pv 0) (pv 1) (λ_ _=>rfl))))
 bL)
 (aH (bA aB))),
  (aJ (cP (bH (au kP (af 1) (aY dk (ai (af 0) av))))
 (bB (au bC (af 0) (af 1)))
 bK)
 (bB (aA 0)))⟩
theorem vF:bq ["_law_cell_here","_law_turn","_law_many","_law_blent"] ["_law_cell_here","_law_turn","_law_many"] (aF kW):=⟨rfl,rfl,rfl,by decide +kernel,rfl,by decide +kernel,by decide +kernel⟩
theorem Dm{a:Addr}{fd:FuncData}(F:Fun K "_law_pick" "_law_pick" kW a fd)(hm:mg "_law_pick" =some (.ref a))(J:P.given.tree=none):cE P w K mg base ca 35 "_law_pick" ["_law_cell_here","_law_turn","_law_many"] aL a fd:=by
 refine⟨bJ F vF rfl λac A outer s H E hr=> ?_,hm,F.kp,F.binds λ_ _ _ _ _ _ us hl=>match us,hl with | [_,_,_],_=>rfl⟩
 have hu:=hr.units
 have Y:=bY hr (by decide)
 exact⟨_,(aw (bg (i:=3) vF.nd rfl (R8 rfl) (aU g6 (aU eI (aU cM (aU g6 (pv 0) aB) aB) (aU cM aB (aU eI aB (pv 1)))) aB))
 (aH (bA (aU g6 (aU (nJ Y J ⟨_,_,rfl,rfl,rfl,rfl,rfl⟩) (aU g6 (aU eI (pv 3) aB) aB) aB) (pv 2))))),
  (aJ (aW (au i8 (au dG (au bX (au i8 (af 0) (aA 2147483647)) (aA 7)) (au bX (aA 48271) (au dG (aA 7919) (af 1)))) (aA 2147483647)))
 (bB (au i8 (au kY (au i8 (au dG (af 3) (aA 16807)) (aA 2147483647)) (aA 8)) (af 2))))⟩
theorem ik:bq ["_law_cell_here","_law_many","_law_letters","_law_word","_law_k","_law_spot","_law_first"] ["_law_cell_here","_law_many"] (aF jX):=⟨rfl,rfl,rfl,by decide +kernel,rfl,by decide +kernel,by decide +kernel⟩
theorem B5{a:Addr}{fd:FuncData}(F:Fun K "_law_names" "_law_names" jX a fd)(hm:mg "_law_names" =some (.ref a))(ap:P.given.tree=none)(J:mg "range" =none)(Y:mg "len" =none)(fv:bM P w K mg base ca 35 "_law_pick" ["_law_cell_here","_law_turn","_law_many"] aL):cE P w K mg base ca 36 "_law_names" ["_law_cell_here","_law_many"] dS a fd:=by
 obtain⟨nK,lS,cC,bQ,cz,cB⟩:=fv
 refine⟨bJ F ik rfl λaz A outer s H E hr=> ?_,hm,F.kp,F.binds λ_ _ _ _ _ _ us hl=>match us,hl with | [_,_],_=>rfl⟩
 have hu:=hr.units
 have a1:=bY hr (by decide)
 exact⟨_,(aw (bg (i:=2) ik.nd rfl (Ts rfl) xf)
 (aw (bg (i:=3) ik.nd rfl (Ts rfl) xf)
 (aw (dI PassesOwn.never rfl (dy rfl J (ah (aR cC (hr.mono (by decide)) rfl bQ cz cB .nil aZ (ah (pv 0) (ah aB (ah aB ar)))) ar)) (aM (i:=4) ik.nd rfl (R8 rfl))
 (aH (bg (i:=3) ik.nd rfl (Ts rfl) (aU cM (pv 3) (bD br (pv 2) (aR cC (hr.mono (by decide)) rfl bQ cz cB .nil aZ (ah (pv 0) (ah (aU cM aB (pv 4)) (ah aB ar)))) (λ_ _=>rfl))))))
 (aw (bg (i:=5) ik.nd rfl (Ts rfl) (aR cC (hr.mono (by decide)) rfl bQ cz cB .nil aZ (ah (pv 0) (ah aB (ah (aU cM (ba cg rfl Y Boot.«len» (ah (pv 3) ar)) aB) ar)))))
 (aw (bg (i:=6) ik.nd rfl (Ts rfl) (aR cC (hr.mono (by decide)) rfl bQ cz cB .nil aZ (ah (pv 0) (ah aB (ah aB ar)))))
 (aH (bA (cR (own:=["_law_k"]) (cap:=["_law_first","_law_letters","_law_spot","_law_word"]) (caps:=[6,2,5,3]) rfl ⟨rfl,by decide +kernel,by decide +kernel,by decide +kernel,⟨rfl,R8 rfl,rfl,⟨rfl,R8 rfl,rfl,⟨rfl,R8 rfl,rfl,⟨rfl,R8 rfl,rfl,trivial⟩⟩⟩⟩,by decide +kernel⟩ (dy rfl J (ah (pv 1) ar)) (λ_ _ _=>(aM (i:=0) (show ((["_law_k"]:List Str)++(["_law_first","_law_letters","_law_spot","_law_word"]:List Str)).Nodup from by decide +kernel) rfl (R8 rfl))) (λ_ _ _=>cv) (λ_ _ _=>(aU cM (aU cM (sI GY (pv 4) pV (rh (pv 3))) (bD br (pv 2) (aU g6 (aU cM (pv 1) (aU eI aB (pv 0))) aB) (λ_ _=>rfl))) (sI GY (pv 4) (rh (pv 3)) pV))))))))))),
  (aJ (aW (xI ("abcdefghijklmnopqrstuvwxyz" :Str)))
 (aJ (aW (xI ("" :Str)))
 (aJ (dH (eR (ai (aX (n:=3) (f:=aL) (ai (af 0) (ai (aA 1) (ai (aA 8) av)))) av)) (aK 4)
 (aW (au bX (af 3) (au bC (af 2) (aX (n:=3) (f:=aL) (ai (af 0) (ai (au bX (aA 2) (af 4)) (ai (aA 26) av))))))))
 (aJ (aW (aX (n:=3) (f:=aL) (ai (af 0) (ai (aA 10) (ai (au bX (aY dk (ai (af 3) av)) (aA 1)) av)))))
 (aJ (aW (aX (n:=3) (f:=aL) (ai (af 0) (ai (aA 11) (ai (aA 26) av)))))
 (bB (bZ (m:=1) (caps:=[6,2,5,3]) (eR (ai (af 1) av)) (aK 0) cy (au bX (au bX (Gf (af 4) m5 (qU (af 3))) (au bC (af 2) (au i8 (au bX (af 1) (au dG (aA 5) (af 0))) (aA 26)))) (Gf (af 4) (qU (af 3)) m5)))))))))⟩
theorem gf:bq ["_law_cell_here","_law_many","_law_wide","_law_made","_law_rest","_law_span","_law_g","_law_number"] ["_law_cell_here","_law_many","_law_wide"] (aF lF):=⟨rfl,rfl,rfl,by decide +kernel,rfl,by decide +kernel,by decide +kernel⟩
theorem DB{a:Addr}{fd:FuncData}(F:Fun K "_law_move" "_law_move" lF a fd)(hm:mg "_law_move" =some (.ref a))(Y:P.given.tree=none)(ab:mg "int" =none)(J:mg "range" =none)(fv:bM P w K mg base ca 35 "_law_pick" ["_law_cell_here","_law_turn","_law_many"] aL):cE P w K mg base ca 36 "_law_move" ["_law_cell_here","_law_many","_law_wide"] lJ a fd:=by
 obtain⟨nK,lS,cC,bQ,cz,cB⟩:=fv
 refine⟨bJ F gf rfl λa0 A outer s H E hr=> ?_,hm,F.kp,F.binds λ_ _ _ _ _ _ us hl=>match us,hl with | [_,_,_],_=>rfl⟩
 have hu:=hr.units
 have ac:=bY hr (by decide)
 exact⟨_,(aw (bg (i:=3) gf.nd rfl (R8 rfl) (fu ar))
 (aw (bg (i:=4) gf.nd rfl (R8 rfl) (aU (nJ ac Y ⟨_,_,rfl,rfl,rfl,rfl,rfl⟩) (pv 0) aB))
 (aw (bg (i:=5) gf.nd rfl (R8 rfl) (bD br (fu (ah aB (ah (aU cM (aU eI aB (aU AA aB aB)) aB) ar))) (gx uF rfl ab Boot.«int» (ah (pv 2) ar)) (λ_ _=>rfl)))
 (aw (dI PassesOwn.never rfl (dy rfl J (ah (pv 1) ar)) (aM (i:=6) gf.nd rfl (R8 rfl))
 (aw (bg (i:=7) gf.nd rfl (R8 rfl) (aU oP (aR cC (hr.mono (by decide)) rfl bQ cz cB .nil aZ (ah (pv 0) (ah (aU cM aB (pv 6)) (ah aB ar)))) aB))
 (aw (cQ (fE (pv 2))
 (aH (bg (i:=7) gf.nd rfl (R8 rfl) (aU oP (aU cM (aU eI (pv 7) (aU g6 (pv 0) (aU AA aB aB))) (aR cC (hr.mono (by decide)) rfl bQ cz cB .nil aZ (ah (pv 0) (ah (aU cM aB (pv 6)) (ah aB ar))))) aB)))
 bL)
 (aw (cQ (PW.pt (pw_and (bx (nv hu) (aU g6 (pv 0) aB) aB (bG _)) (pw_and1 (bx kS (pv 4) aB (bG _)))))
 (aw (bg (i:=7) gf.nd rfl (R8 rfl) (aU oP (aU g6 (pv 4) (pv 5)) (aU (nJ ac Y ⟨_,_,rfl,rfl,rfl,rfl,rfl⟩) (pv 5) aB)))
 (aH (bg (i:=4) gf.nd rfl (R8 rfl) (aU (nJ ac Y ⟨_,_,rfl,rfl,rfl,rfl,rfl⟩) (pv 4) (pv 5)))))
 bL)
 (aH (cY (jH SI SO SQ d5 (pv 3) (ah (pv 7) ar))))))))
 (aH (bA (pv 3))))))),
  (aJ (aW (j3 av))
 (aJ (aW (au kY (af 0) (aA 2)))
 (aJ (aW (au bC (oW (ai (aA 7) (ai (au bX (au dG (aA 2) (au Bf (aA 10) (aA 12))) (aA 1)) av))) (aY wC (ai (af 2) av))))
 (aJ (dH (eR (ai (af 1) av)) (aK 6)
 (aJ (aW (au oV (aX (n:=3) (f:=aL) (ai (af 0) (ai (au bX (aA 20) (af 6)) (ai (aA 7) av)))) (aA 3)))
 (aJ (cP (gO (af 2))
 (aW (au oV (au bX (au dG (af 7) (au i8 (af 0) (au Bf (aA 10) (aA 12)))) (aX (n:=3) (f:=aL) (ai (af 0) (ai (au bX (aA 30) (af 6)) (ai (aA 2000) av))))) (aA 1000)))
 bK)
 (aJ (cP (xa (bH (au kr (au i8 (af 0) (aA 2)) (aA 1))) (bH (au lH (af 4) (aA 0))))
 (aJ (aW (au oV (au i8 (af 4) (af 5)) (au kY (af 5) (aA 2))))
 (aW (au kY (af 4) (af 5))))
 bK)
 (cX (iU (af 3) (af 7)))))))
 (bB (af 3))))))⟩
theorem eT:bq ["_law_script","_law_begin","_law_many","_law_head","_law_moves_here","_law_wide","_law_k","_law_found","_law_way","_law_left"] ["_law_script","_law_begin","_law_many"] (aF jY):=⟨rfl,rfl,rfl,by decide +kernel,rfl,by decide +kernel,by decide +kernel⟩
theorem BD{a:Addr}{fd:FuncData}(F:Fun K "_law_moves" "_law_moves" jY a fd)(hm:mg "_law_moves" =some (.ref a))(a0:P.given.tree=none)(ab:mg "int" =none)(J:mg "range" =none)(Y:mg "len" =none)(an:mg "sum" =none)(am:mg "list" =none)(rN:bM P w K mg base ca 35 "_law_cell" ["_law_script","_law_k"] dg)(fv:bM P w K mg base ca 35 "_law_pick" ["_law_cell_here","_law_turn","_law_many"] aL)(Fi:bM P w K mg base ca 36 "_law_move" ["_law_cell_here","_law_many","_law_wide"] lJ):cE P w K mg base ca 37 "_law_moves" ["_law_script","_law_begin","_law_many"] gY a fd:=by
 obtain⟨Fo,Dd,nt,gR,nr,nN⟩:=rN
 obtain⟨nK,lS,cC,bQ,cz,cB⟩:=fv
 obtain⟨OT,Ot,E6,nj,Fm,E3⟩:=Fi
 refine⟨bJ F eT rfl λbd A outer s H E hr=> ?_,hm,F.kp,F.binds λ_ _ _ _ _ _ us hl=>match us,hl with | [_,_,_],_=>rfl⟩
 have hu:=hr.units
 have a1:=bY hr (by decide)
 exact⟨_,(aw (bg (i:=3) eT.nd rfl (Ts rfl) (aR nt (hr.mono (by decide)) rfl gR nr nN .nil aZ (ah (pv 0) (ah (pv 1) ar))))
 (aw (bg (i:=4) eT.nd rfl (Ts rfl) (fu ar))
 (aw (bg (i:=5) eT.nd rfl (R8 rfl) (m4 (nv hu) (aR cC (hr.mono (by decide)) rfl bQ cz cB .nil aZ (ah (pv 3) (ah aB (ah aB ar)))) aB (bG _)))
 (aw (dI PassesOwn.never rfl (dy rfl J (ah (aU g6 (aR cC (hr.mono (by decide)) rfl bQ cz cB .nil aZ (ah (pv 3) (ah aB (ah aB ar)))) (aU oP aB (aU eI aB (gx uF rfl ab Boot.«int» (ah (pv 5) ar))))) ar)) (aM (i:=6) eT.nd rfl (Ts rfl))
 (aH (cY (jH SI SO SQ d5 (pv 4) (ah (aR E6 (hr.mono (by decide)) rfl nj Fm E3 .nil aZ (ah (aU cM (aR nt (hr.mono (by decide)) rfl gR nr nN .nil aZ (ah (pv 0) (ah (aU cM (aU cM (pv 1) aB) (pv 6)) ar))) (aU eI aB (pv 6))) (ah (pv 2) (ah (pv 5) ar)))) ar)))))
 (aw (bg (i:=7) eT.nd rfl (R8 rfl) (fu ar))
 (aw (dI PassesOwn.never rfl (dy rfl J (ah (aU (nJ a1 a0 ⟨_,_,rfl,rfl,rfl,rfl,rfl⟩) (aR cC (hr.mono (by decide)) rfl bQ cz cB .nil aZ (ah (pv 3) (ah aB (ah aB ar)))) (aU cM aB (gx uF rfl ab Boot.«int» (ah (pv 5) ar)))) ar)) (aM (i:=6) eT.nd rfl (Ts rfl))
 (aw (bg (i:=8) eT.nd rfl (Ts rfl) (cR (own:=["_law_at"]) (cap:=["_law_head","_law_k"]) (caps:=[3,6]) rfl ⟨rfl,by decide +kernel,by decide +kernel,by decide +kernel,⟨rfl,R8 rfl,rfl,⟨rfl,R8 rfl,rfl,trivial⟩⟩,by decide +kernel⟩ (dy rfl J (ah (ba cg rfl Y Boot.«len» (ah (pv 4) ar)) ar)) (λ_ _ _=>(aM (i:=0) (show ((["_law_at"]:List Str)++(["_law_head","_law_k"]:List Str)).Nodup from by decide +kernel) rfl (R8 rfl))) (λ_ _ _=>cv) (λ_ _ _=>(aU g6 (aR cC (hr.mono (by decide)) rfl bQ cz cB .nil aZ (ah (pv 1) (ah (aU cM (aU cM aB (aU eI aB (pv 2))) (pv 0)) (ah aB ar)))) aB))))
 (aw (fA (i:=9) (own:=["_law_g"]) (cap:=["_law_moves_here","_law_way"]) (caps:=[4,8]) rfl ⟨rfl,by decide +kernel,by decide +kernel,by decide +kernel,⟨rfl,R8 rfl,rfl,⟨rfl,R8 rfl,rfl,trivial⟩⟩,by decide +kernel⟩ (dy rfl J (ah (pv 2) ar)) (λ_ _ _=>(aM (i:=0) (show ((["_law_g"]:List Str)++(["_law_moves_here","_law_way"]:List Str)).Nodup from by decide +kernel) rfl (Ts rfl))) (λ_ _ _=>cv) (λ_ _ _=>(ba (um rfl) rfl an Boot.«sum» (ah (cR (own:=["_law_at"]) (cap:=["_law_g","_law_moves_here","_law_way"]) (caps:=[0,1,2]) rfl ⟨rfl,by decide +kernel,by decide +kernel,by decide +kernel,⟨rfl,R8 rfl,rfl,⟨rfl,R8 rfl,rfl,⟨rfl,R8 rfl,rfl,trivial⟩⟩⟩,by decide +kernel⟩ (dy rfl J (ah (ba cg rfl Y Boot.«len» (ah (pv 1) ar)) ar)) (λ_ _ _=>(aM (i:=0) (show ((["_law_at"]:List Str)++(["_law_g","_law_moves_here","_law_way"]:List Str)).Nodup from by decide +kernel) rfl (R8 rfl))) (λ_ _ _=>cv) (λ_ _ _=>(aU eI (bD br (pv 3) (pv 0) (λ_ _=>rfl)) (bD br (bD br (pv 2) (pv 0) (λ_ _=>rfl)) (pv 1) (λ_ _=>rfl))))) ar))) eT.nd rfl (R8 rfl) rfl)
 (aw (cY (jH SI SO SQ d5 (pv 4) (ah (cR (own:=["_law_number"]) (cap:=[]) (caps:=[]) rfl ⟨rfl,by decide +kernel,by decide +kernel,by decide +kernel,trivial,by decide +kernel⟩ (cG (pv 9)) (λ_ _ _=>(aM (i:=0) (show ((["_law_number"]:List Str)++([]:List Str)).Nodup from by decide +kernel) rfl (R8 rfl))) (λ_ _ _=>cv) (λ_ _ _=>(u7 qY (pv 0)))) ar)))
 (aH (cY (jH SI SO SQ d5 (pv 7) (ah (aU cM (pv 8) (fu (ah aB ar))) ar))))))))
 (aw (cQ (PW.pt (pw_and (bx (nv hu) (aR cC (hr.mono (by decide)) rfl bQ cz cB .nil aZ (ah (pv 3) (ah aB (ah aB ar)))) aB (bG _)) (pw_and1 (bx kT (ba cg rfl Y Boot.«len» (ah (pv 4) ar)) aB (bG _)))))
 (aw (cY (jH SI PySem.F.slot_list_insert PySem.F.type_list_insert KR (pv 4) (ah aB (ah (cR (own:=["_law_g"]) (cap:=[]) (caps:=[]) rfl ⟨rfl,by decide +kernel,by decide +kernel,by decide +kernel,trivial,by decide +kernel⟩ (dy rfl J (ah (pv 2) ar)) (λ_ _ _=>(aM (i:=0) (show ((["_law_g"]:List Str)++([]:List Str)).Nodup from by decide +kernel) rfl (R8 rfl))) (λ_ _ _=>cv) (λ_ _ _=>aB)) ar))))
 (aH (bg (i:=7) eT.nd rfl (R8 rfl) (aU cM (cR (own:=["_law_way"]) (cap:=[]) (caps:=[]) rfl ⟨rfl,by decide +kernel,by decide +kernel,by decide +kernel,trivial,by decide +kernel⟩ (cG (pv 7)) (λ_ _ _=>(aM (i:=0) (show ((["_law_way"]:List Str)++([]:List Str)).Nodup from by decide +kernel) rfl (R8 rfl))) (λ_ _ _=>cv) (λ_ _ _=>(aU cM (fu (ah aB ar)) (pv 0)))) (fu (ah (fu (ah aB ar)) ar))))))
 bL)
 (aw (cQ (PW.pt (pw_and (bx (nv hu) (aR cC (hr.mono (by decide)) rfl bQ cz cB .nil aZ (ah (pv 3) (ah aB (ah aB ar)))) aB (bG _)) (pw_and1 (HW kT kT aB (ba cg rfl Y Boot.«len» (ah (pv 4) ar)) aB))))
 (aH (cY (jH SI SO SQ d5 (pv 4) (ah (gx gv rfl am Boot.«list» (ah (bD br (pv 4) (u7 qY aB) (λ_ _=>rfl)) ar)) ar))))
 bL)
 (aH (bA (nE (ah (pv 4) (ah (cR (own:=["_law_way"]) (cap:=["_law_moves_here"]) (caps:=[4]) rfl ⟨rfl,by decide +kernel,by decide +kernel,by decide +kernel,⟨rfl,R8 rfl,rfl,trivial⟩,by decide +kernel⟩ (cG (pv 7)) (λ_ _ _=>(aM (i:=0) (show ((["_law_way"]:List Str)++(["_law_moves_here"]:List Str)).Nodup from by decide +kernel) rfl (R8 rfl))) (λ_ _ _=>cv) (λ_ _ _=>(aU cM (pv 0) (cR (own:=["_law_k"]) (cap:=[]) (caps:=[]) rfl ⟨rfl,by decide +kernel,by decide +kernel,by decide +kernel,trivial,by decide +kernel⟩ (dy rfl J (ah (aU oP (ba cg rfl Y Boot.«len» (ah (pv 1) ar)) (ba cg rfl Y Boot.«len» (ah (pv 0) ar))) ar)) (λ_ _ _=>(aM (i:=0) (show ((["_law_k"]:List Str)++([]:List Str)).Nodup from by decide +kernel) rfl (R8 rfl))) (λ_ _ _=>cv) (λ_ _ _=>aB))))) ar))))))))))))),
  (aJ (aW (aX (n:=2) (f:=dg) (ai (af 0) (ai (af 1) av))))
 (aJ (aW (j3 av))
 (aJ (aW (au kr (aX (n:=3) (f:=aL) (ai (af 3) (ai (aA 41) (ai (aA 6) av)))) (aA 0)))
 (aJ (dH (eR (ai (au i8 (aX (n:=3) (f:=aL) (ai (af 3) (ai (aA 40) (ai (aA 5) av)))) (au oV (aA 5) (au dG (aA 2) (aY wC (ai (af 5) av))))) av)) (aK 6)
 (cX (iU (af 4) (nD (gE (n:=3) (f:=lJ) (ai (au bX (aX (n:=2) (f:=dg) (ai (af 0) (ai (au bX (au bX (af 1) (aA 1)) (af 6)) av))) (au dG (aA 13) (af 6))) (ai (af 2) (ai (af 5) av))))))))
 (aJ (aW (j3 av))
 (aJ (dH (eR (ai (au kY (aX (n:=3) (f:=aL) (ai (af 3) (ai (aA 42) (ai (aA 3) av)))) (au bX (aA 1) (aY wC (ai (af 5) av)))) av)) (aK 6)
 (aJ (aW (bZ (m:=1) (caps:=[3,6]) (eR (ai (aY dk (ai (af 4) av)) av)) (aK 0) cy (au i8 (aX (n:=3) (f:=aL) (ai (af 1) (ai (au bX (au bX (aA 50) (au dG (aA 7) (af 2))) (af 0)) (ai (aA 4) av)))) (aA 3))))
 (aJ (aW (bZ (m:=1) (caps:=[4,8]) (eR (ai (af 2) av)) (aK 0) cy (aY Cd (ai (bZ (m:=1) (caps:=[0,1,2]) (eR (ai (aY dk (ai (af 1) av)) av)) (aK 0) cy (au dG (au bC (af 3) (af 0)) (au bC (au bC (af 2) (af 0)) (af 1)))) av))))
 (aJ (cX (iU (af 4) (bZ (m:=1) (caps:=[]) (cH (af 9)) (aK 0) cy (u9 rB (af 0)))))
 (cX (iU (af 7) (au bX (af 8) (oW (ai (aA 1) av)))))))))
 (aJ (cP (xa (bH (au kr (aX (n:=3) (f:=aL) (ai (af 3) (ai (aA 43) (ai (aA 5) av)))) (aA 0))) (bH (au kP (aY dk (ai (af 4) av)) (aA 6))))
 (aJ (cX (LR (af 4) (bZ (m:=1) (caps:=[]) (eR (ai (af 2) av)) (aK 0) cy (aA 0))))
 (aW (KG (bZ (m:=1) (caps:=[]) (cH (af 7)) (aK 0) cy (au bX (oW (ai (aA 0) av)) (af 0))) (oW (ai (oW (ai (aA 1) av)) av)))))
 bK)
 (aJ (cP (xa (bH (au kr (aX (n:=3) (f:=aL) (ai (af 3) (ai (aA 44) (ai (aA 5) av)))) (aA 0))) (bH (CM kP kP (aA 0) (aY dk (ai (af 4) av)) (aA 6))))
 (cX (iU (af 4) (aY mN (ai (au bC (af 4) (u9 rB (aA 1))) av))))
 bK)
 (bB (nB (ai (af 4) (ai (sj (m:=1) (caps:=[4]) (cH (af 7)) (aK 0) cy (au bX (af 0) (bZ (m:=1) (caps:=[]) (eR (ai (au oV (aY dk (ai (af 1) av)) (aY dk (ai (af 0) av))) av)) (aK 0) cy (aA 0)))) av))))))))))))⟩
theorem eS:bq ["_law_moves_here","_law_stuff","_law_called","_law_cell_here","_law_made","_law_k","_law_move_here","_law_uses","_law_makes","_law_g","_law_number","_law_more"] ["_law_moves_here","_law_stuff","_law_called","_law_cell_here"] (aF j7):=⟨rfl,rfl,rfl,by decide +kernel,rfl,by decide +kernel,by decide +kernel⟩
theorem BI{a:Addr}{fd:FuncData}(F:Fun K "_law_works" "_law_works" j7 a fd)(hm:mg "_law_works" =some (.ref a))(ac:P.given.tree=none)(J:mg "enumerate" =none)(Y:mg "max" =none)(fv:bM P w K mg base ca 35 "_law_pick" ["_law_cell_here","_law_turn","_law_many"] aL):cE P w K mg base ca 36 "_law_works" ["_law_moves_here","_law_stuff","_law_called","_law_cell_here"] gS a fd:=by
 obtain⟨nK,lS,cC,bQ,cz,cB⟩:=fv
 refine⟨bJ F eS rfl λa0 A outer s H E hr=> ?_,hm,F.kp,F.binds λ_ _ _ _ _ _ us hl=>match us,hl with | [_,_,_,_],_=>rfl⟩
 have hu:=hr.units
 have as:=bY hr (by decide)
 exact⟨_,(aw (bg (i:=4) eS.nd rfl (R8 rfl) (fu ar))
 (aw (dI PassesOwn.never rfl (kR rfl J (ah (pv 0) ar)) (fG rfl (bE (aM (i:=5) eS.nd rfl (R8 rfl)) (bE (aM (i:=6) eS.nd rfl (R8 rfl)) eE)))
 (aw (bg (i:=7) eS.nd rfl (R8 rfl) (fu ar))
 (aw (bg (i:=8) eS.nd rfl (R8 rfl) (fu ar))
 (aw (dI PassesOwn.never rfl (kR rfl J (ah (pv 6) ar)) (fG rfl (bE (aM (i:=9) eS.nd rfl (R8 rfl)) (bE (aM (i:=10) eS.nd rfl (R8 rfl)) eE)))
 (aw (bg (i:=11) eS.nd rfl (R8 rfl) (aU eI (aU (nJ as ac ⟨_,_,rfl,rfl,rfl,rfl,rfl⟩) (aR cC (hr.mono (by decide)) rfl bQ cz cB .nil aZ (ah (aU cM (pv 3) (pv 5)) (ah (aU cM aB (pv 9)) (ah aB ar)))) aB) (aU cM aB (aR cC (hr.mono (by decide)) rfl bQ cz cB .nil aZ (ah (aU cM (pv 3) (pv 5)) (ah (aU cM aB (pv 9)) (ah aB ar)))))))
 (aw (cQ (bx kS (aU cM (pv 11) (ba (qA rfl) rfl Y Boot.«max» (ah aB (ah (u7 qY (pv 10)) ar)))) aB (bG _))
 (aH (cY (jH SI SO SQ d5 (pv 7) (ah (nE (ah (bD br (pv 1) (pv 9) (λ_ _=>rfl)) (ah (aU cM (pv 11) (ba (qA rfl) rfl Y Boot.«max» (ah aB (ah (u7 qY (pv 10)) ar)))) ar))) ar))))
 bL)
 (aH (cQ (bx kS (aU cM (pv 11) (ba (qA rfl) rfl Y Boot.«max» (ah aB (ah (pv 10) ar)))) aB (bG _))
 (aH (cY (jH SI SO SQ d5 (pv 8) (ah (nE (ah (bD br (pv 1) (pv 9) (λ_ _=>rfl)) (ah (aU cM (pv 11) (ba (qA rfl) rfl Y Boot.«max» (ah aB (ah (pv 10) ar)))) ar))) ar))))
 bL)))))
 (aw (cQ (bx (nv hu) (aR cC (hr.mono (by decide)) rfl bQ cz cB .nil aZ (ah (aU cM (pv 3) (pv 5)) (ah aB (ah aB ar)))) aB (bG _))
 (aH (bg (i:=7) eS.nd rfl (R8 rfl) (La (pv 7) pV pV (rh (u7 qY aB)))))
 bL)
 (aH (cY (jH SI SO SQ d5 (pv 4) (ah (nE (ah (bD br (pv 2) (pv 5) (λ_ _=>rfl)) (ah (pv 7) (ah (pv 8) ar)))) ar)))))))))
 (aH (bA (pv 4))))),
  (aJ (aW (j3 av))
 (aJ (dH (fB (ai (af 0) av)) (ey (bF (aK 5) (bF (aK 6) eG)))
 (aJ (aW (j3 av))
 (aJ (aW (j3 av))
 (aJ (dH (fB (ai (af 6) av)) (ey (bF (aK 9) (bF (aK 10) eG)))
 (aJ (aW (au dG (au kY (aX (n:=3) (f:=aL) (ai (au bX (af 3) (af 5)) (ai (au bX (aA 70) (af 9)) (ai (aA 4) av)))) (aA 3)) (au bX (aA 1) (aX (n:=3) (f:=aL) (ai (au bX (af 3) (af 5)) (ai (au bX (aA 80) (af 9)) (ai (aA 9) av)))))))
 (aJ (cP (bH (au lH (au bX (af 11) (aY uW (ai (aA 0) (ai (u9 rB (af 10)) av)))) (aA 0)))
 (cX (iU (af 7) (nB (ai (au bC (af 1) (af 9)) (ai (au bX (af 11) (aY uW (ai (aA 0) (ai (u9 rB (af 10)) av)))) av)))))
 bK)
 (cP (bH (au lH (au bX (af 11) (aY uW (ai (aA 0) (ai (af 10) av)))) (aA 0)))
 (cX (iU (af 8) (nB (ai (au bC (af 1) (af 9)) (ai (au bX (af 11) (aY uW (ai (aA 0) (ai (af 10) av)))) av)))))
 bK))))
 (aJ (cP (bH (au kr (aX (n:=3) (f:=aL) (ai (au bX (af 3) (af 5)) (ai (aA 90) (ai (aA 2) av)))) (aA 1)))
 (aW (L7 (af 7) m5 m5 (qU (u9 rB (aA 1)))))
 bK)
 (cX (iU (af 4) (nB (ai (au bC (af 2) (af 5)) (ai (K9 (af 7)) (ai (nD (af 8)) av)))))))))))
 (bB (nD (af 4)))))⟩
theorem gC:bq ["_law_numbers_here","_law_found","_law_number","_law_other","_law_rest"] ["_law_numbers_here"] (aF i9):=⟨rfl,rfl,rfl,by decide +kernel,rfl,by decide +kernel,by decide +kernel⟩
theorem zV{a:Addr}{fd:FuncData}(F:Fun K "_law_common" "_law_common" i9 a fd)(hm:mg "_law_common" =some (.ref a))(ab:P.given.tree=none)(J:mg "abs" =none):cE P w K mg base ca 35 "_law_common" ["_law_numbers_here"] i4 a fd:=by
 refine⟨bJ F gC rfl λac A outer s H E Y=> ?_,hm,F.kp,F.binds λ_ _ _ _ _ _ us hl=>match us,hl with | [_],_=>rfl⟩
 have hu:=Y.units
 have an:=bY Y (by decide)
 exact⟨_,(aw (bg (i:=1) gC.nd rfl (R8 rfl) aB)
 (aw (dI PassesOwn.never rfl (NJ (pv 0)) (aM (i:=2) gC.nd rfl (R8 rfl))
 (aw (bg (i:=3) gC.nd rfl (R8 rfl) (ba we rfl J Boot.«abs» (ah (pv 2) ar)))
 (aH (CA PassesOwn.never (bx kS (pv 3) aB (bG _))
 (aw (bg (i:=4) gC.nd rfl (R8 rfl) (aU g6 (pv 1) (pv 3)))
 (aw (bg (i:=1) gC.nd rfl (R8 rfl) (pv 3))
 (aH (bg (i:=3) gC.nd rfl (R8 rfl) (pv 4)))))))))
 (aH (bA (pv 1))))),
  (aJ (aW (aA 0))
 (aJ (dH (LQ (af 0)) (aK 2)
 (aJ (aW (aY AX (ai (af 2) av)))
 (B9 (bH (au lH (af 3) (aA 0)))
 (aJ (aW (au i8 (af 1) (af 3)))
 (aJ (aW (af 3))
 (aW (af 4)))))))
 (bB (af 1))))⟩
theorem jO:bq ["_law_numbers_here","_law_mask","_law_at","_law_number"] ["_law_numbers_here"] (aF i5):=⟨rfl,rfl,rfl,by decide +kernel,rfl,by decide +kernel,by decide +kernel⟩
theorem Ag{a:Addr}{fd:FuncData}(F:Fun K "_law_places" "_law_places" i5 a fd)(hm:mg "_law_places" =some (.ref a))(ab:P.given.tree=none)(J:mg "enumerate" =none):cE P w K mg base ca 35 "_law_places" ["_law_numbers_here"] d6 a fd:=by
 refine⟨bJ F jO rfl λac A outer s H E Y=> ?_,hm,F.kp,F.binds λ_ _ _ _ _ _ us hl=>match us,hl with | [_],_=>rfl⟩
 have hu:=Y.units
 have an:=bY Y (by decide)
 exact⟨_,(aw (bg (i:=1) jO.nd rfl (R8 rfl) aB)
 (aw (dI PassesOwn.never rfl (kR rfl J (ah (pv 0) ar)) (fG rfl (bE (aM (i:=2) jO.nd rfl (R8 rfl)) (bE (aM (i:=3) jO.nd rfl (R8 rfl)) eE)))
 (aH (cQ (bx kS (pv 3) aB (bG _))
 (aH (bg (i:=1) jO.nd rfl (R8 rfl) (aU Fw (pv 1) (aU Oh aB (pv 2)))))
 bL)))
 (aH (bA (pv 1))))),
  (aJ (aW (aA 0))
 (aJ (dH (fB (ai (af 0) av)) (ey (bF (aK 2) (bF (aK 3) eG)))
 (cP (bH (au lH (af 3) (aA 0)))
 (aW (au AH (af 1) (au Nk (aA 1) (af 2))))
 bK))
 (bB (af 1))))⟩
theorem xZ:bq ["_law_found","_law_many"] ["_law_found","_law_many"] (aF iH):=⟨rfl,rfl,rfl,by decide +kernel,rfl,by decide +kernel,by decide +kernel⟩
theorem yc{a:Addr}{fd:FuncData}(F:Fun K "_law_numbers" "_law_numbers" iH a fd)(hm:mg "_law_numbers" =some (.ref a))(as:P.given.tree=none)(J:mg "isinstance" =none)(Y:mg "list" =none)(ac:mg "len" =none)(am:mg "int" =none)(ab:mg "bool" =none)(an:mg "all" =none):cE P w K mg base ca 35 "_law_numbers" ["_law_found","_law_many"] fN a fd:=by
 refine⟨bJ F xZ rfl λaz A outer s H E hr=> ?_,hm,F.kp,F.binds λ_ _ _ _ _ _ us hl=>match us,hl with | [_,_],_=>rfl⟩
 have hu:=hr.units
 have a1:=bY hr (by decide)
 exact⟨_,(aw (cQ (PW.pt (pw_or (jT (fE (ba kM rfl J Boot.«isinstance» (ah (pv 0) (ah (mP (v:=.ty "list") rfl Y Boot.«list» rfl) ar))))) (pw_or1 (bx (oj hu) (ba cg rfl ac Boot.«len» (ah (pv 0) ar)) (pv 1) (bG _)))))
 (aH (bA nR))
 bL)
 (aH (bA (ba (qt rfl) rfl an Boot.«all» (ah (cR (own:=["_law_one"]) (cap:=[]) (caps:=[]) rfl ⟨rfl,by decide +kernel,by decide +kernel,by decide +kernel,trivial,by decide +kernel⟩ (cG (pv 0)) (λ_ _ _=>(aM (i:=0) (show ((["_law_one"]:List Str)++([]:List Str)).Nodup from by decide +kernel) rfl (R8 rfl))) (λ_ _ _=>cv) (λ_ _ _=>(Hj (ba kM rfl J Boot.«isinstance» (ah (pv 0) (ah (mP (v:=.ty "int") rfl am Boot.«int» rfl) ar))) (Ga (G9 (ba kM rfl J Boot.«isinstance» (ah (pv 0) (ah (mP (v:=.ty "bool") rfl ab Boot.«bool» rfl) ar)))))))) ar))))),
  (aJ (cP (kv (jK (gO (oU ty_list (af 0)))) (bH (au kZ (aY dk (ai (af 0) av)) (af 1))))
 (bB (nU false))
 bK)
 (bB (aY xi (ai (bZ (m:=1) (caps:=[]) (cH (af 0)) (aK 0) cy (EE (oU ty_int (af 0)) (DT (oU ty_bool (af 0))))) av))))⟩
theorem d3:bq ["_law_found","_law_told","_law_due","_law_sums","_law_seen_so_far","_law_one","_law_at","_law_top","_law_low"] ["_law_found","_law_told","_law_due"] (aF fM):=⟨rfl,rfl,rfl,by decide +kernel,rfl,by decide +kernel,by decide +kernel⟩
theorem tQ{a:Addr}{fd:FuncData}(F:Fun K "_law_shares_come" "_law_shares_come" fM a fd)(hm:mg "_law_shares_come" =some (.ref a))(a4:P.given.tree=none)(J:mg "isinstance" =none)(am:mg "list" =none)(Y:mg "len" =none)(ab:mg "tuple" =none)(ac:mg "range" =none)(ap:mg "all" =none)(zT:bM P w K mg base ca 35 "_law_numbers" ["_law_found","_law_many"] fN)(Bu:bM P w K mg base ca 35 "_law_common" ["_law_numbers_here"] i4)(CI:bM P w K mg base ca 35 "_law_places" ["_law_numbers_here"] d6):cE P w K mg base ca 36 "_law_shares_come" ["_law_found","_law_told","_law_due"] fK a fd:=by
 obtain⟨Mu,LB,sV,iF,tj,sW⟩:=zT
 obtain⟨Nu,Mx,AJ,kL,B6,Ba⟩:=Bu
 obtain⟨NM,Ms,qr,ic,pZ,qs⟩:=CI
 refine⟨bJ F d3 rfl λbd A outer s H E hr=> ?_,hm,F.kp,F.binds λ_ _ _ _ _ _ us hl=>match us,hl with | [_,_,_],_=>rfl⟩
 have hu:=hr.units
 have bi:=bY hr (by decide)
 exact⟨_,(aw (cQ (PW.pt (pw_or (jT (fE (ba kM rfl J Boot.«isinstance» (ah (pv 0) (ah (mP (v:=.ty "list") rfl am Boot.«list» rfl) ar))))) (pw_or1 (bx kS (ba cg rfl Y Boot.«len» (ah (pv 0) ar)) (ba cg rfl Y Boot.«len» (ah (cR (own:=["_law_number"]) (cap:=[]) (caps:=[]) rfl ⟨rfl,by decide +kernel,by decide +kernel,by decide +kernel,trivial,by decide +kernel⟩ (cG (pv 2)) (λ_ _ _=>(aM (i:=0) (show ((["_law_number"]:List Str)++([]:List Str)).Nodup from by decide +kernel) rfl (R8 rfl))) (λ_ _ _=>(pX (bx kS (pv 0) aB (bG _)))) (λ_ _ _=>(pv 0))) ar)) (bG _)))))
 (aH (bA nR))
 bL)
 (aw (bg (i:=3) d3.nd rfl (Ts rfl) (cR (own:=["_law_number"]) (cap:=[]) (caps:=[]) rfl ⟨rfl,by decide +kernel,by decide +kernel,by decide +kernel,trivial,by decide +kernel⟩ (cG (pv 2)) (λ_ _ _=>(aM (i:=0) (show ((["_law_number"]:List Str)++([]:List Str)).Nodup from by decide +kernel) rfl (R8 rfl))) (λ_ _ _=>cv) (λ_ _ _=>(nE (ah aB (ah aB ar))))))
 (aw (bg (i:=4) d3.nd rfl (R8 rfl) (fu ar))
 (aw (dI PassesOwn.never rfl (cG (pv 0)) (aM (i:=5) d3.nd rfl (R8 rfl))
 (aw (cQ (PW.pt (pw_or (jT (fE (ba kM rfl J Boot.«isinstance» (ah (pv 5) (ah (mP (v:=.ty "tuple") rfl ab Boot.«tuple» rfl) ar))))) (pw_or (bx (oj hu) (ba cg rfl Y Boot.«len» (ah (pv 5) ar)) aB (bG _)) (pw_or (jT (fE (ba kM rfl J Boot.«isinstance» (ah (bD br (pv 5) aB (λ_ _=>rfl)) (ah (mP (v:=.ty "tuple") rfl ab Boot.«tuple» rfl) ar))))) (pw_or1 (bx (oj hu) (ba cg rfl Y Boot.«len» (ah (bD br (pv 5) aB (λ_ _=>rfl)) ar)) aB (bG _)))))))
 (aH (bA nR))
 bL)
 (aw (cQ (PW.pt (pw_or (jT (fE (aR sV (hr.mono (by decide)) rfl iF tj sW .nil aZ (ah (gx gv rfl am Boot.«list» (ah (bD br (pv 5) aB (λ_ _=>rfl)) ar)) (ah aB ar))))) (pw_or (bx kT (bD br (bD br (pv 5) aB (λ_ _=>rfl)) aB (λ_ _=>rfl)) aB (bG _)) (pw_or (bx kT (bD br (bD br (pv 5) aB (λ_ _=>rfl)) aB (λ_ _=>rfl)) aB (bG _)) (pw_or1 (bx (oj hu) (aR AJ (hr.mono (by decide)) rfl kL B6 Ba .nil aZ (ah (bD br (pv 5) aB (λ_ _=>rfl)) ar)) aB (bG _)))))))
 (aH (bA nR))
 bL)
 (aw (cQ (PW.pt (pw_or (bx (HD hu) (bD br (pv 5) aB (λ_ _=>rfl)) (pv 1) (by with_unfolding_all rfl)) (pw_or (bx (MN hu) (bD br (pv 5) aB (λ_ _=>rfl)) (pv 4) (by with_unfolding_all rfl)) (pw_or1 (jT (fE (aR sV (hr.mono (by decide)) rfl iF tj sW .nil aZ (ah (bD br (pv 5) aB (λ_ _=>rfl)) (ah (ba cg rfl Y Boot.«len» (ah (pv 2) ar)) ar)))))))))
 (aH (bA nR))
 bL)
 (aw (cQ (bx (oj hu) (aU NG (aR qr (hr.mono (by decide)) rfl ic pZ qs .nil aZ (ah (bD br (pv 5) aB (λ_ _=>rfl)) ar)) (aR qr (hr.mono (by decide)) rfl ic pZ qs .nil aZ (ah (pv 2) ar))) (aR qr (hr.mono (by decide)) rfl ic pZ qs .nil aZ (ah (bD br (pv 5) aB (λ_ _=>rfl)) ar)) (bG _))
 (aH (bA nR))
 bL)
 (aw (cY (jH SI SO SQ d5 (pv 4) (ah (bD br (pv 5) aB (λ_ _=>rfl)) ar)))
 (aH (dI PassesOwn.never rfl (dy rfl ac (ah (ba cg rfl Y Boot.«len» (ah (pv 2) ar)) ar)) (aM (i:=6) d3.nd rfl (R8 rfl))
 (aw (w9 (bD br (pv 3) (pv 6) (λ_ _=>rfl)) (fG rfl (bE (aM (i:=7) d3.nd rfl (R8 rfl)) (bE (aM (i:=8) d3.nd rfl (R8 rfl)) eE))))
 (aH (w9 (nE (ah (aU cM (aU eI (pv 7) (bD br (bD br (pv 5) aB (λ_ _=>rfl)) aB (λ_ _=>rfl))) (aU eI (aU eI (bD br (bD br (pv 5) aB (λ_ _=>rfl)) aB (λ_ _=>rfl)) (bD br (bD br (pv 5) aB (λ_ _=>rfl)) (pv 6) (λ_ _=>rfl))) (pv 8))) (ah (aU eI (pv 8) (bD br (bD br (pv 5) aB (λ_ _=>rfl)) aB (λ_ _=>rfl))) ar))) (Hb (pv 3) (pv 6) set_list))))))))))))
 (aH (bA (ba (qt rfl) rfl ap Boot.«all» (ah (cR (own:=["_law_at"]) (cap:=["_law_due","_law_sums"]) (caps:=[2,3]) rfl ⟨rfl,by decide +kernel,by decide +kernel,by decide +kernel,⟨rfl,R8 rfl,rfl,⟨rfl,R8 rfl,rfl,trivial⟩⟩,by decide +kernel⟩ (dy rfl ac (ah (ba cg rfl Y Boot.«len» (ah (pv 2) ar)) ar)) (λ_ _ _=>(aM (i:=0) (show ((["_law_at"]:List Str)++(["_law_due","_law_sums"]:List Str)).Nodup from by decide +kernel) rfl (R8 rfl))) (λ_ _ _=>cv) (λ_ _ _=>(m4 (nv hu) (bD br (bD br (pv 2) (pv 0) (λ_ _=>rfl)) aB (λ_ _=>rfl)) (aU eI (bD br (pv 1) (pv 0) (λ_ _=>rfl)) (bD br (bD br (pv 2) (pv 0) (λ_ _=>rfl)) aB (λ_ _=>rfl))) (bG _)))) ar)))))))),
  (aJ (cP (kv (jK (gO (oU ty_list (af 0)))) (bH (au lH (aY dk (ai (af 0) av)) (aY dk (ai (bZ (m:=1) (caps:=[]) (cH (af 2)) (aK 0) (bH (au lH (af 0) (aA 0))) (af 0)) av)))))
 (bB (nU false))
 bK)
 (aJ (aW (sj (m:=1) (caps:=[]) (cH (af 2)) (aK 0) cy (nB (ai (aA 0) (ai (aA 1) av)))))
 (aJ (aW (j3 av))
 (aJ (dH (cH (af 0)) (aK 5)
 (aJ (cP (kv (jK (gO (oU ty_tuple (af 5)))) (kv (bH (au kZ (aY dk (ai (af 5) av)) (aA 2))) (kv (jK (gO (oU ty_tuple (au bC (af 5) (aA 0))))) (bH (au kZ (aY dk (ai (au bC (af 5) (aA 0)) av)) (aA 2))))))
 (bB (nU false))
 bK)
 (aJ (cP (kv (jK (gO (aX (n:=2) (f:=fN) (ai (aY mN (ai (au bC (af 5) (aA 0)) av)) (ai (aA 2) av))))) (kv (bH (au kP (au bC (au bC (af 5) (aA 0)) (aA 0)) (aA 1))) (kv (bH (au kP (au bC (au bC (af 5) (aA 0)) (aA 1)) (aA 1))) (bH (au kZ (aX (n:=1) (f:=i4) (ai (au bC (af 5) (aA 0)) av)) (aA 1))))))
 (bB (nU false))
 bK)
 (aJ (cP (kv (bH (au G5 (au bC (af 5) (aA 1)) (af 1))) (kv (bH (au MI (au bC (af 5) (aA 1)) (af 4))) (jK (gO (aX (n:=2) (f:=fN) (ai (au bC (af 5) (aA 1)) (ai (aY dk (ai (af 2) av)) av)))))))
 (bB (nU false))
 bK)
 (aJ (cP (bH (au kZ (au KP (aX (n:=1) (f:=d6) (ai (au bC (af 5) (aA 1)) av)) (aX (n:=1) (f:=d6) (ai (af 2) av))) (aX (n:=1) (f:=d6) (ai (au bC (af 5) (aA 1)) av))))
 (bB (nU false))
 bK)
 (aJ (cX (iU (af 4) (au bC (af 5) (aA 1))))
 (dH (eR (ai (aY dk (ai (af 2) av)) av)) (aK 6)
 (aJ (ux (au bC (af 3) (af 6)) (ey (bF (aK 7) (bF (aK 8) eG))))
 (ux (nB (ai (au bX (au dG (af 7) (au bC (au bC (af 5) (aA 0)) (aA 1))) (au dG (au dG (au bC (au bC (af 5) (aA 0)) (aA 0)) (au bC (au bC (af 5) (aA 1)) (af 6))) (af 8))) (ai (au dG (af 8) (au bC (au bC (af 5) (aA 0)) (aA 1))) av))) (Ge (af 3) (af 6)))))))))))
 (bB (aY xi (ai (bZ (m:=1) (caps:=[2,3]) (eR (ai (aY dk (ai (af 2) av)) av)) (aK 0) cy (au kr (au bC (au bC (af 2) (af 0)) (aA 0)) (au dG (au bC (af 1) (af 0)) (au bC (au bC (af 2) (af 0)) (aA 1))))) av)))))))⟩
theorem hV:bq ["_law_known","_law_many","_law_cell_here","_law_made","_law_k","_law_way","_law_often"] ["_law_known","_law_many","_law_cell_here"] (aF j5):=⟨rfl,rfl,rfl,by decide +kernel,rfl,by decide +kernel,by decide +kernel⟩
theorem AN{a:Addr}{fd:FuncData}(F:Fun K "_law_drawn" "_law_drawn" j5 a fd)(hm:mg "_law_drawn" =some (.ref a))(as:P.given.tree=none)(Y:mg "range" =none)(J:mg "enumerate" =none)(ab:mg "zip" =none)(fv:bM P w K mg base ca 35 "_law_pick" ["_law_cell_here","_law_turn","_law_many"] aL):cE P w K mg base ca 36 "_law_drawn" ["_law_known","_law_many","_law_cell_here"] jU a fd:=by
 obtain⟨nK,lS,cC,bQ,cz,cB⟩:=fv
 refine⟨bJ F hV rfl λa0 A outer s H E hr=> ?_,hm,F.kp,F.binds λ_ _ _ _ _ _ us hl=>match us,hl with | [_,_,_],_=>rfl⟩
 have hu:=hr.units
 have a2:=bY hr (by decide)
 exact⟨_,(aw (fA (i:=3) (own:=["_law_at"]) (cap:=[]) (caps:=[]) rfl ⟨rfl,by decide +kernel,by decide +kernel,by decide +kernel,trivial,by decide +kernel⟩ (dy rfl Y (ah (pv 1) ar)) (λ_ _ _=>(aM (i:=0) (show ((["_law_at"]:List Str)++([]:List Str)).Nodup from by decide +kernel) rfl (R8 rfl))) (λ_ _ _=>cv) (λ_ _ _=>aB) hV.nd rfl (R8 rfl) rfl)
 (aw (dI PassesOwn.never rfl (kR rfl J (ah (pv 0) ar)) (fG rfl (bE (aM (i:=4) hV.nd rfl (R8 rfl)) (bE (aM (i:=5) hV.nd rfl (R8 rfl)) eE)))
 (aw (bg (i:=6) hV.nd rfl (Ts rfl) (aR cC (hr.mono (by decide)) rfl bQ cz cB .nil aZ (ah (pv 2) (ah (aU cM aB (pv 4)) (ah aB ar)))))
 (aw (cQ (bx (nv hu) (aR cC (hr.mono (by decide)) rfl bQ cz cB .nil aZ (ah (pv 2) (ah (aU cM aB (pv 4)) (ah aB ar)))) aB (bG _))
 (aH (bg (i:=6) hV.nd rfl (Ts rfl) (aU g6 (pv 2) (aU AA aB aB))))
 bL)
 (aH (fA (i:=3) (own:=["_law_number","_law_one"]) (cap:=["_law_often"]) (caps:=[6]) rfl ⟨rfl,by decide +kernel,by decide +kernel,by decide +kernel,⟨rfl,R8 rfl,rfl,trivial⟩,by decide +kernel⟩ (uA rfl ab (ah (pv 3) (ah (pv 5) ar))) (λ_ _ _=>(fG rfl (bE (aM (i:=0) (show ((["_law_number","_law_one"]:List Str)++(["_law_often"]:List Str)).Nodup from by decide +kernel) rfl (R8 rfl)) (bE (aM (i:=1) (show ((["_law_number","_law_one"]:List Str)++(["_law_often"]:List Str)).Nodup from by decide +kernel) rfl (R8 rfl)) eE)))) (λ_ _ _=>cv) (λ_ _ _=>(aU cM (pv 0) (aU eI (pv 2) (pv 1)))) hV.nd rfl (R8 rfl) rfl)))))
 (aH (bA (pv 3))))),
  (aJ (aW (bZ (m:=1) (caps:=[]) (eR (ai (af 1) av)) (aK 0) cy (aA 0)))
 (aJ (dH (fB (ai (af 0) av)) (ey (bF (aK 4) (bF (aK 5) eG)))
 (aJ (aW (aX (n:=3) (f:=aL) (ai (af 2) (ai (au bX (aA 100) (af 4)) (ai (aA 4) av)))))
 (aJ (cP (bH (au kr (aX (n:=3) (f:=aL) (ai (af 2) (ai (au bX (aA 110) (af 4)) (ai (aA 4) av)))) (aA 0)))
 (aW (au i8 (af 2) (au Bf (aA 10) (aA 12))))
 bK)
 (aW (bZ (m:=2) (caps:=[6]) (xH (ai (af 3) (ai (af 5) av))) (ey (bF (aK 0) (bF (aK 1) eG))) cy (au bX (af 0) (au dG (af 2) (af 1))))))))
 (bB (af 3))))⟩
theorem gu:bq ["_law_script","_law_begin","_law_head","_law_many","_law_moves_here","_law_known","_law_stuff","_law_yard","_law_told","_law_nothing","_law_k","_law_due","_law_handed","_law_turn","_law_found","_law_share","_law_way"] ["_law_script"] (aF pL):=⟨rfl,rfl,rfl,by decide +kernel,rfl,by decide +kernel,by decide +kernel⟩
theorem MK{a:Addr}{fd:FuncData}(F:Fun K "law" "law" pL a fd)(hm:mg "law" =some (.ref a))(bi:P.given.tree=none)(ap:mg "len" =none)(J:mg "range" =none)(az:mg "list" =none)(rN:bM P w K mg base ca 35 "_law_cell" ["_law_script","_law_k"] dg)(fv:bM P w K mg base ca 35 "_law_pick" ["_law_cell_here","_law_turn","_law_many"] aL)(DC:bM P w K mg base ca 37 "_law_moves" ["_law_script","_law_begin","_law_many"] gY)(Dy:bM P w K mg base ca 36 "_law_names" ["_law_cell_here","_law_many"] dS)(Y:HC P w K mg base ca 39 (ca 0) "Yard" ["self","goods","works"] iV)(DG:bM P w K mg base ca 36 "_law_works" ["_law_moves_here","_law_stuff","_law_called","_law_cell_here"] gS)(NH:bM P w K mg base ca 41 "ways" ["yard"] nF)(Jk:bM P w K mg base ca 42 "parted" ["yard","way"] jC)(DO:bM P w K mg base ca 36 "_law_drawn" ["_law_known","_law_many","_law_cell_here"] jU)(vm:bM P w K mg base ca 36 "_law_shares_come" ["_law_found","_law_told","_law_due"] fK):cE P w K mg base ca 43 "law" ["_law_script"] Ap a fd:=by
 obtain⟨Fo,Dd,nt,gR,nr,nN⟩:=rN
 obtain⟨nK,lS,cC,bQ,cz,cB⟩:=fv
 obtain⟨OA,Nw,CU,mj,DF,Dg⟩:=DC
 obtain⟨OD,Oe,vJ,j0,vE,vP⟩:=Dy
 obtain⟨a0,as,ab,ac,lZ,am⟩:=Y
 obtain⟨OB,MW,C9,lP,DQ,CZ⟩:=DG
 obtain⟨QK,QB,GH,rD,GK,Gx⟩:=NH
 obtain⟨Pr,Pd,Cy,nV,Ay,Ax⟩:=Jk
 obtain⟨Ow,NI,Dx,lU,C2,DP⟩:=DO
 obtain⟨HL,GV,vv,gI,vk,vx⟩:=vm
 refine⟨bJ F gu rfl λcs A outer s H E hr=> ?_,hm,F.kp,F.binds λ_ _ _ _ _ _ us hl=>match us,hl with | [_],_=>rfl⟩
 have hu:=hr.units
 have cw:=bY hr (by decide)
 exact⟨_,(aw (dI PassesOwn.never rfl (cG (fu (ah aB (ah aB ar)))) (aM (i:=1) gu.nd rfl (R8 rfl))
 (aw (bg (i:=2) gu.nd rfl (R8 rfl) (aR nt (hr.mono (by decide)) rfl gR nr nN .nil aZ (ah (pv 0) (ah (pv 1) ar))))
 (aw (bg (i:=3) gu.nd rfl (R8 rfl) (aU cM aB (aR cC (hr.mono (by decide)) rfl bQ cz cB .nil aZ (ah (pv 2) (ah aB (ah aB ar))))))
 (aw (w9 (aR CU (hr.mono (by decide)) rfl mj DF Dg .nil aZ (ah (pv 0) (ah (pv 1) (ah (pv 3) ar)))) (fG rfl (bE (aM (i:=4) gu.nd rfl (R8 rfl)) (bE (aM (i:=5) gu.nd rfl (R8 rfl)) eE))))
 (aw (bg (i:=6) gu.nd rfl (R8 rfl) (aR vJ (hr.mono (by decide)) rfl j0 vE vP .nil aZ (ah (aU cM (pv 2) aB) (ah (pv 3) ar))))
 (aw (bg (i:=7) gu.nd rfl (R8 rfl) (KN ac ab (hr.mono (by decide)) rfl lZ am .nil aZ (ah (pv 6) (ah (aR C9 (hr.mono (by decide)) rfl lP DQ CZ .nil aZ (ah (pv 4) (ah (pv 6) (ah (aR vJ (hr.mono (by decide)) rfl j0 vE vP .nil aZ (ah (pv 2) (ah (ba cg rfl ap Boot.«len» (ah (pv 4) ar)) ar))) (ah (pv 2) ar))))) ar))))
 (aw (bg (i:=8) gu.nd rfl (R8 rfl) (aR GH (hr.mono (by decide)) rfl rD GK Gx .nil aZ (ah (pv 7) ar)))
 (aw (fA (i:=9) (own:=["_law_at"]) (cap:=[]) (caps:=[]) rfl ⟨rfl,by decide +kernel,by decide +kernel,by decide +kernel,trivial,by decide +kernel⟩ (dy rfl J (ah (ba cg rfl ap Boot.«len» (ah (pv 4) ar)) ar)) (λ_ _ _=>(aM (i:=0) (show ((["_law_at"]:List Str)++([]:List Str)).Nodup from by decide +kernel) rfl (R8 rfl))) (λ_ _ _=>cv) (λ_ _ _=>aB) gu.nd rfl (R8 rfl) rfl)
 (aw (cQ (bx (oj hu) (aR Cy (hr.mono (by decide)) rfl nV Ay Ax .nil aZ (ah (pv 7) (ah (pv 9) ar))) (fu ar) (bG _))
 (aH (bA nR))
 bL)
 (aw (dI PassesOwn.never rfl (dy rfl J (ah aB ar)) (aM (i:=10) gu.nd rfl (R8 rfl))
 (aw (bg (i:=11) gu.nd rfl (R8 rfl) (aR Dx (hr.mono (by decide)) rfl lU C2 DP .nil aZ (ah (pv 5) (ah (ba cg rfl ap Boot.«len» (ah (pv 4) ar)) (ah (aU cM (pv 2) (aR nt (hr.mono (by decide)) rfl gR nr nN .nil aZ (ah (pv 0) (ah (aU cM (aU cM (pv 1) aB) (pv 10)) ar)))) ar)))))
 (aw (bg (i:=12) gu.nd rfl (R8 rfl) (gx gv rfl az Boot.«list» (ah (pv 11) ar)))
 (aH (dI PassesOwn.never rfl (dy rfl J (ah aB ar)) (aM (i:=13) gu.nd rfl (R8 rfl))
 (aw (bg (i:=14) gu.nd rfl (R8 rfl) (aR Cy (hr.mono (by decide)) rfl nV Ay Ax .nil aZ (ah (pv 7) (ah (pv 12) ar))))
 (aw (cQ (PW.pt (pw_or (jT (fE (aR vv (hr.mono (by decide)) rfl gI vk vx .nil aZ (ah (pv 14) (ah (pv 8) (ah (pv 11) ar)))))) (pw_or1 (bx (oj hu) (pv 12) (pv 11) (bG _)))))
 (aH (bA nR))
 bL)
 (aw (dI PassesOwn.never rfl (cG (pv 14)) (fG rfl (bE (aM (i:=15) gu.nd rfl (R8 rfl)) (bE (aM (i:=16) gu.nd rfl (R8 rfl)) eE)))
 (aH (cY (jH SI SO SQ d5 (pv 16) (ah aB ar)))))
 (aH (cY (MY SI PySem.F.slot_list_clear PySem.F.type_list_clear IF (pv 14))))))))))))
 (aH (cQ (bx (oj hu) (aR GH (hr.mono (by decide)) rfl rD GK Gx .nil aZ (ah (pv 7) ar)) (pv 8) (bG _))
 (aH (bA nR))
 bL))))))))))))
 (aH (bA nR))),
  (aJ (dH (cH (oW (ai (aA 0) (ai (aA 5) av)))) (aK 1)
 (aJ (aW (aX (n:=2) (f:=dg) (ai (af 0) (ai (af 1) av))))
 (aJ (aW (au bX (aA 1) (aX (n:=3) (f:=aL) (ai (af 2) (ai (aA 45) (ai (aA 4) av))))))
 (aJ (ux (KS (gE (n:=3) (f:=gY) (ai (af 0) (ai (af 1) (ai (af 3) av))))) (ey (bF (aK 4) (bF (aK 5) eG))))
 (aJ (aW (aX (n:=2) (f:=dS) (ai (au bX (af 2) (aA 1)) (ai (af 3) av))))
 (aJ (aW (KJ (c:=0) (n:=2) (f:=iV) (ai (af 6) (ai (aX (n:=4) (f:=gS) (ai (af 4) (ai (af 6) (ai (aX (n:=2) (f:=dS) (ai (af 2) (ai (aY dk (ai (af 4) av)) av))) (ai (af 2) av))))) av))))
 (aJ (aW (nD (gE (n:=1) (f:=nF) (ai (af 7) av))))
 (aJ (aW (bZ (m:=1) (caps:=[]) (eR (ai (aY dk (ai (af 4) av)) av)) (aK 0) cy (aA 0)))
 (aJ (cP (bH (au kZ (nD (gE (n:=2) (f:=jC) (ai (af 7) (ai (af 9) av)))) (oW av)))
 (bB (nU false))
 bK)
 (aJ (dH (eR (ai (aA 2) av)) (aK 10)
 (aJ (aW (aX (n:=3) (f:=jU) (ai (af 5) (ai (aY dk (ai (af 4) av)) (ai (au bX (af 2) (aX (n:=2) (f:=dg) (ai (af 0) (ai (au bX (au bX (af 1) (aA 1)) (af 10)) av)))) av)))))
 (aJ (aW (aY mN (ai (af 11) av)))
 (dH (eR (ai (aA 2) av)) (aK 13)
 (aJ (aW (gE (n:=2) (f:=jC) (ai (af 7) (ai (af 12) av))))
 (aJ (cP (kv (jK (gO (kJ (n:=3) (f:=fK) (ai (af 14) (ai (af 8) (ai (af 11) av)))))) (bH (au kZ (af 12) (af 11))))
 (bB (nU false))
 bK)
 (aJ (dH (cH (af 14)) (ey (bF (aK 15) (bF (aK 16) eG)))
 (cX (iU (af 16) (aA 1))))
 (cX (JQ (af 14))))))))))
 (cP (bH (au kZ (nD (gE (n:=1) (f:=nF) (ai (af 7) av))) (af 8)))
 (bB (nU false))
 bK)))))))))))
 (bB (nU true)))⟩
end
theorem vf(ns:List Int)(k:Nat):∃c,dg [vI ns,.int (k:Int)] []=.ok (.int c,[])/\(k<ns.length->c=nth ns k):=by
 by_cases h:k<ns.length
 ·refine⟨nth ns k,dZ (s:=⟨[some (vI ns),some (.int (k:Int))],[]⟩) ?_,λ_=>rfl⟩
  have hk:((k:Int)<(ns.length:Int)):=by omega
  simp[gR,hk,mr h]
 ·refine⟨0,dZ (s:=⟨[some (vI ns),some (.int (k:Int))],[]⟩) ?_,λz=>absurd z h⟩
  have hk:¬((k:Int)<(ns.length:Int)):=by omega
  simp[gR,hk]
def azB(x:Str):Bool:= !decide (x.cps.toList<("a" :Str).cps.toList)&& !decide (("z" :Str).cps.toList<x.cps.toList)
theorem Cc(O:aC)(i j:Str):sO O (.str i) (.str j)=.ok (.bl (!decide (j.cps.toList<i.cps.toList))):=rfl
theorem Mz{s:S}{i:Nat}{x:Str}(h:s.r[i]? =some (some (.str x))):nH sO sO (aq (.str ("a" :Str))) (aa i) (aq (.str ("z" :Str))) s=.ok (.bl (azB x),s):=by
 rw[yW,aD,aj,ag h,aj]
 dsimp only
 rw[Cc,aj]
 unfold azB
 cases (!decide (x.cps.toList<("a" :Str).cps.toList)) with
 | false=>rfl
 | true=>
  dsimp only
  rw[aD,aj]
  dsimp only
  rw[Cc,aj]
  rfl
def nmB(z:Str):Bool:=decide (1<=z.length)&&decide (z.length<=8)&&z.cps.toList.all λc=>azB ⟨#[c]⟩
theorem len_list(z:Str):z.cps.toList.length=z.length:=by unfold Str.length;simp
theorem Hm{z:Str}(h:z.length<=1000000):m8 [.str z] []=.ok (.bl (nmB z),[]):=by
 have J:bf bO (ae (aa 0) ao) ⟨[some (.str z)],[]⟩=.ok (.int (z.length:Int),⟨[some (.str z)],[]⟩):=by
  rw[g7,bh,ag (i:=0) rfl,aj,ay,aj,aj]
  dsimp only
  rw[Ce (rG h),aj]
 have Y:orT (bc (ak ltD (bf bO (ae (aa 0) ao)) (aq (.int 1)))) (bc (ak gtD (bf bO (ae (aa 0) ao)) (aq (.int 8)))) ⟨[some (.str z)],[]⟩=.ok (decide ((z.length:Int)<1)||decide ((8:Int)<(z.length:Int)),⟨[some (.str z)],[]⟩):=by
  rw[xk,g9,eO,J,aj,aD,aj]
  dsimp only
  rw[ji,aj,aj]
  dsimp only
  rw[aj]
  dsimp only
  rw[i6 J]
  cases decide ((z.length:Int)<1) <;> rfl
 have hc:=dJ (l:=z.cps.toList) (item:=λc=>.str ⟨#[c]⟩) (out:=λc=>.bl (azB ⟨#[c]⟩)) (caps:=[]) (im:=E2 (aa 0)) (e:=nH sO sO (aq (.str ("a" :Str))) (aa 0) (aq (.str ("z" :Str)))) (k:=none) (s:=⟨[some (.str z)],[]⟩) (by
  rw[Mm,ag (i:=0) rfl,aj];rfl) trivial (by rw[len_list];exact rG h) (λc _=>Mz rfl)
 rw[show z.cps.toList.map (λc=>D.bl (azB ⟨#[c]⟩))=(z.cps.toList.map λc=>azB ⟨#[c]⟩).map D.bl by rw[So];rfl] at hc
 refine dZ (s:=⟨[some (.str z)],[]⟩) ?_
 show oO ⟨[some (.str z)],[]⟩=_
 rw[oO]
 by_cases h1:z.length<1\/8<z.length
 ·rw[show nmB z=false by
   unfold nmB
   rcases h1 with q | q
   ·rw[decide_eq_false (by omega:¬1<=z.length),U0,U0]
   ·rw[decide_eq_false (by omega:¬z.length<=8),VF,U0]]
  refine Az (SR (Ka (s':=⟨[some (.str z)],[]⟩) ?_) (bW (aD _ _)))
  rw[Y]
  rcases h1 with q | q
  ·rw[decide_eq_true (show (z.length:Int)<1 by omega),WG]
  ·rw[decide_eq_true (show (8:Int)<(z.length:Int) by omega),Bool.or_true]
 ·refine SR (dX (SR (nS (s':=⟨[some (.str z)],[]⟩) ?_) rfl)) (bW ?_)
  ·rw[Y,decide_eq_false (show ¬(z.length:Int)<1 by omega),decide_eq_false (show ¬(8:Int)<(z.length:Int) by omega),U8]
  ·rw[g7,bh,hc,aj,ay,aj,aj]
   dsimp only
   rw[rL,aj]
   unfold nmB
   rw[decide_eq_true (by omega:1<=z.length),decide_eq_true (by omega:z.length<=8),Uy,Uy,UD]
   rfl
abbrev ABC:Str:="abcdefghijklmnopqrstuvwxyz"
theorem Nt:sg ABC=(Sg 26).map (97 + ·):=by decide
def mkS(l:List Nat):Str:=⟨l.toArray⟩
theorem iS(l:List Nat):sg (mkS l)=l:=by simp[sg,mkS]
theorem kF(l:List Nat):(mkS l).length=l.length:=by rw[<- xc,iS]
def azL(l:List Nat):Prop:=∀c∈l,97<=c/\c<=122
theorem Mf(c:Nat):azB ⟨#[c]⟩=(decide (97<=c)&&decide (c<=122)):=by
 unfold azB
 rw[show ("a" :Str).cps.toList=[97] by decide,show ("z" :Str).cps.toList=[122] by decide]
 show (!decide ([c] < [97])&& !decide ([122] < [c]))=_
 rw[StrLaws.lt_cons_cons,StrLaws.lt_cons_cons,StrLaws.lt_nil_nil,VF,U8,VF,U8]
 congr 1
 ·rw[TK];simp
 ·rw[TK];simp
structure qy(z:Str):Prop where
 lo:1<=z.length
 hi:z.length<=8
 az:azL (sg z)
theorem qy.nm{z:Str}(h:qy z):nmB z=true:=by
 unfold nmB
 rw[decide_eq_true h.lo,decide_eq_true h.hi,Uy,Uy,TZ]
 intro c hc
 have:=h.az c hc
 rw[Mf,decide_eq_true this.1,decide_eq_true this.2];rfl
theorem Gv{O:aC}{i:Int}(h0:0<=i)(h1:i<26):ixD O (.str ABC) (.int i)=.ok (.str (mkS [97+i.toNat])):=by
 have J:i.toNat<ABC.cps.toList.length:=by rw[show ABC.cps.toList.length=26 by decide];omega
 have ha:=n5 J
 rw[show ((i.toNat:Nat):Int)=i by omega] at ha
 have Y:ABC.cps.toList[i.toNat]=97+i.toNat:=by
  have:=Nt
  rw[List.getElem_of_eq this]
  simp
 rw[Y] at ha
 show (if ABC.length<=16777216 then (match atI ABC.cps.toList i with
  | some c=>Res.ok (D.str ⟨#[c]⟩)
  | none=>.bad) else .bad)=_
 rw[if_pos (by decide),ha]
 rfl
theorem oI{n:Nat}{pre rest:List D}{d:D}(h:(Sg n).map (λ(i:Nat)=>D.int (i:Int))=pre++d::rest):d=.int (pre.length:Int)/\pre.length<n:=by
 have h1:((Sg n).map (λ(i:Nat)=>D.int (i:Int)))[pre.length]? =some d:=by rw[h];simp
 have h2:pre.length<n:=by
  have:=congrArg T3 h
  simp at this
  omega
 rw[SF,VN h2] at h1
 exact⟨by simpa using h1.symm,h2⟩
def rS(q:Int)(k:Nat):Nat:=97+((q+3*(k:Int)+1)%26).toNat
def nmK(wd:List Nat)(at_:Nat)(q:Int)(B:Bool)(k:Nat):List Nat:=
 if B then (if k=0 then wd else if k=1 then wd.take (wd.length-1) else wd++[rS q k]) else wd.take at_++[rS q k]++wd.drop (at_+1)
theorem Eu{wd:List Nat}{at_ k:Nat}{q:Int}{B:Bool}(h:at_<wd.length):(nmK wd at_ q B k).length=if B then (if k=0 then wd.length else if k=1 then wd.length-1 else wd.length+1) else wd.length:=by
 unfold nmK
 cases B with
 | false=>simp;omega
 | true=>
  by_cases J:k=0
  ·simp[J]
  ·by_cases h1:k=1
   ·simp[h1]
   ·simp[J,h1]
theorem QN{wd:List Nat}{at_ i j:Nat}{q:Int}{B:Bool}(h:at_<wd.length)(h2:2<=wd.length)(ac:i<j)(hj:j<8):nmK wd at_ q B i≠nmK wd at_ q B j:=by
 intro e
 have hs:rS q i≠rS q j:=by unfold rS;omega
 cases B with
 | false=>
  unfold nmK at e
  simp only[if_neg SD] at e
  have J:(wd.take at_).length=at_:=by rw[TX];omega
  have key:∀x:Nat,(wd.take at_++[x]++wd.drop (at_+1))[at_]? =some x:=λx=>by
   rw[S7,Sj (by omega),J,Vt];rfl
  have e1:(wd.take at_++[rS q i]++wd.drop (at_+1))[at_]? =(wd.take at_++[rS q j]++wd.drop (at_+1))[at_]? :=by rw[e]
  rw[key,key] at e1
  have e1:rS q i=rS q j:=by simpa using e1
  exact hs e1
 | true=>
  have J:=congrArg T3 e
  rw[Eu h,Eu h] at J
  simp only[if_true] at J
  by_cases Y:i=0
  ·subst Y
   rw[if_pos rfl,if_neg (by omega)] at J
   split at J <;> omega
  ·rw[if_neg Y,if_neg (show ¬j=0 by omega)] at J
   by_cases h1:i=1
   ·rw[if_pos h1,if_neg (by omega)] at J;omega
   ·unfold nmK at e
    rw[if_pos rfl,if_pos rfl,if_neg Y,if_neg h1,if_neg (show ¬j=0 by omega),if_neg (show ¬j=1 by omega)] at e
    have:=List.append_cancel_left e
    simp at this
    exact hs this
abbrev sD(l:List Str):D:=.lst (l.map D.str)
theorem ua{O:aC}{a b:Str}(h:a.length+b.length<=1000000):bt O (.str a) (.str b)=.ok (.str (a++b)):=if_pos (rG h)
abbrev pD(p:Str×Int):D:=.tup [.str p.1,.int p.2]
abbrev psD(l:List (Str×Int)):D:=.lst (l.map pD)
structure Wk where
 nm:Str
 us:List (Str×Int)
 ms:List (Str×Int)
abbrev wD(w:Wk):D:=.tup [.str w.nm,psD w.us,psD w.ms]
abbrev wsD(l:List Wk):D:=.lst (l.map wD)
@[simp] theorem dU (l:List Str):aP (l.map D.str)=true:=by
 induction l with
 | nil=>rfl
 | cons a l J=>simp[aP,df,J]
@[simp] theorem iT (l:List (Str×Int)):aP (l.map pD)=true:=by
 induction l with
 | nil=>rfl
 | cons a l J=>simp[aP,df,J]
@[simp] theorem nq (l:List Wk):aP (l.map wD)=true:=by
 induction l with
 | nil=>rfl
 | cons a l J=>simp[aP,df,J]
theorem qv(O:aC)(l:List Str):bP O (l.map D.str)=l.map D.str:=by
 induction l with
 | nil=>unfold bP;rfl
 | cons a l J=>rw[Sm];unfold bP;rw[J];unfold res;rfl
theorem DZ(z:Str)(l:List Str):aP [.str z,.lst (l.map D.str)]=true:=by
 show (true&&(aP (l.map D.str)&&true))=true
 rw[dU];rfl
theorem IC(z:Str)(l m:List Str):aP [.str z,.lst (l.map D.str),.lst (m.map D.str)]=true:=by
 show (true&&(aP (l.map D.str)&&(aP (m.map D.str)&&true)))=true
 rw[dU,dU];rfl
theorem Iu{O:aC}{k:Nat}{l:List Str}(h:O[k]? =some (.lst (l.map D.str)))(z:Str)(g:List Str):bP O (bP O [.str z,.lst (g.map D.str),.ptr k])=[.str z,.lst (g.map D.str),.lst (l.map D.str)]:=by
 have h1:bP O [.str z,.lst (g.map D.str),.ptr k]=[.str z,.lst (g.map D.str),.lst (l.map D.str)]:=by
  simp only[bP,res,qv,h]
 rw[h1]
 simp only[bP,res,qv]
theorem K2{O:aC}{k:Nat}{l:List Str}(h:O[k]? =some (.lst (l.map D.str)))(z:Str):bP O (bP O [.str z,.ptr k])=[.str z,.lst (l.map D.str)]:=by
 have h1:bP O [.str z,.ptr k]=[.str z,.lst (l.map D.str)]:=by
  simp only[bP,res,qv,h]
 rw[h1]
 simp only[bP,res,qv]
theorem kA{α:Type}(f:α->D)(l:List α):dD (l.map f)=l.zipIdx.map λp=>.tup [.int (p.2:Int),f p.1]:=by
 unfold dD
 rw[UB,VB,So]
 rfl
theorem nO{α:Type}{g:α×Nat->D}{l:List α}{pre rest:List D}{d:D}(h:l.zipIdx.map g=pre++d::rest):∃(J:pre.length<l.length),d=g (l[pre.length],pre.length):=by
 have J:pre.length<l.length:=by
  have:=congrArg T3 h
  simp at this
  omega
 have h1:(l.zipIdx.map g)[pre.length]? =some d:=by rw[h];simp
 rw[SF,Sa (by simpa using J)] at h1
 refine⟨J, ?_⟩
 simpa using h1.symm
theorem zu{α:Type}{g:α->D}{l:List α}{pre rest:List D}{d:D}(h:l.map g=pre++d::rest):∃(J:pre.length<l.length),d=g (l[pre.length]):=by
 have J:pre.length<l.length:=by
  have:=congrArg T3 h
  simp at this
  omega
 have h1:(l.map g)[pre.length]? =some d:=by rw[h];simp
 rw[SF,Sa J] at h1
 exact⟨J,by simpa using h1.symm⟩
theorem lI{n:Nat}{m:SM}{ds:List D}{O:aC}{s:S}(h:m ⟨ds.map some++Sb (n-ds.length) none,O⟩=.next s):runM n m ds O=.ok (.non,s.o):=by
 unfold runM;rw[h]
theorem Ee{O:aC}(z:Str)(l:List Str):inD O (.str z) (sD l)=.ok (.bl (l.any (· == z))):=by
 unfold inD inB
 dsimp only
 rw[lE]
 dsimp only
 rw[r8]
theorem FH{O:aC}(z:Str)(l:List Str):uq O (.str z) (sD l)=.ok (.bl (!l.any (· == z))):=by
 unfold uq inB
 dsimp only
 rw[lE]
 dsimp only
 rw[r8]
theorem Oa{z:Str}{l:List Str}(h:z∈l):l.any (· == z)=true:=Vv.mpr ⟨z,h,by simp⟩
theorem Eo{z:Str}{l:List Str}(h:z∉l):l.any (· == z)=false:=by
 rw[Vc]
 intro y hy e
 have:y=z:=by simpa using e
 exact h (this▸hy)
theorem lj{l:List Str}(h:l.Nodup){i:Nat}(hi:i<l.length):l[i]∉l.take i:=by
 intro hm
 obtain⟨j,J,e⟩:=Tk hm
 rw[TX] at J
 rw[List.getElem_take] at e
 exact Vh.mp h j i (by omega) hi (by omega) e
theorem Lp{goods:List Str}{J:List Wk}(h1:goods.length<=10)(h2:J.length<=10):jg [sD goods,wsD J] []=.ok (.non,[]):=by
 refine lI (s:=⟨[some (sD goods),some (wsD J)],[]⟩) ?_
 show kD ⟨[some (sD goods),some (wsD J)],[]⟩=_
 rw[kD]
 have Y:∀(i:Nat) (ds:List D),[some (sD goods),some (wsD J)][i]? =some (some (.lst ds))->bf bO (ae (aa i) ao) ⟨[some (sD goods),some (wsD J)],[]⟩=.ok (.int (ds.length:Int),⟨[some (sD goods),some (wsD J)],[]⟩):=λi ds h=>by
  rw[g7,bh,ag h,aj,ay,aj,aj]
  dsimp only
  rw[d9,aj]
 refine SR (dX (SR (nS (by rw[i6 (Y 0 _ rfl),R9,decide_eq_false (by omega)])) rfl)) ?_
 exact SR (nS (by rw[i6 (Y 1 _ rfl),R9,decide_eq_false (by omega)])) rfl
theorem D4{z:Str}{l:List Str}(hz:qy z)(J:z∉l):fC [.str z,sD l] []=.ok (.non,[]):=by
 refine lI (s:=⟨[some (.str z),some (sD l)],[]⟩) ?_
 show ie ⟨[some (.str z),some (sD l)],[]⟩=_
 rw[ie]
 have h1:aQ 1 m8 (ae (aa 0) ao) ⟨[some (.str z),some (sD l)],[]⟩=.ok (.bl true,⟨[some (.str z),some (sD l)],[]⟩):=eJ (ds:=[.str z]) (by rw[bh,ag (i:=0) rfl];rfl) (by simp) rfl (by rw[Hm (by have:=hz.hi;omega),hz.nm]) (by simp)
 refine SR (dX (SR (nS (s':=⟨[some (.str z),some (sD l)],[]⟩) ?_) rfl)) (SR (nS (s':=⟨[some (.str z),some (sD l)],[]⟩) ?_) rfl)
 ·rw[xT,g9,h1];rfl
 ·rw[g9,eO,ag (i:=0) rfl,aj,ag (i:=1) rfl,aj]
  dsimp only
  rw[Ee,Eo J];rfl
theorem Iq{goods:List Str}(h:∀z∈goods,qy z)(nd:goods.Nodup):∃O,iK [sD goods] []=.ok (.non,O):=by
 obtain⟨s',el,J,Y,ab⟩:=eN (ok:=okC (dD (goods.map D.str)) none) (g:=cI (aS (aE 1) (aS (aE 2) cL)) 2) (body:=kz)
  (λ_ s=>∃J Y,s=⟨[some (sD goods),J,Y],[]⟩) (λ_ _ _=>trivial) (dD (goods.map D.str)) [] (by
   rintro pre d rest ed s ⟨J,Y,rfl⟩
   rw[SE,kA] at ed
   obtain⟨hl,rfl⟩:=nO ed
   refine⟨⟨[some (sD goods),some (.int (pre.length:Int)),some (.str (goods[pre.length]))],[]⟩,⟨[some (sD goods),some (.int (pre.length:Int)),some (.str (goods[pre.length]))],[]⟩,by rw[iW];rfl,.inl ?_,_,_,rfl⟩
   rw[kz]
   refine cK (eJ (ds:=[.str (goods[pre.length]),sD (goods.take pre.length)]) (d:=.non) ?_ (DZ _ _) rfl (D4 (h _ (S6 _)) (lj nd hl)) (by simp))
   rw[bh,ag (i:=2) rfl,aj,bh,Hl,ag (i:=0) rfl,aj,Ha,aj,Et,ag (i:=1) rfl,aj]
   dsimp only
   rw[aj]
   dsimp only
   rw[lE]
   dsimp only
   unfold M.cutD
   rw[HT.Cu,HT.DV,R9,show min pre.length goods.length=pre.length by omega,U3,VT,<- Wv]
   rfl) ⟨[some (sD goods),none,none],[]⟩ ⟨_,_,rfl⟩
 have hf:=dh (im:=cT (ae (aa 0) ao)) (g:=cI (aS (aE 1) (aS (aE 2) cL)) 2) (body:=kz) (s:=⟨[some (sD goods),none,none],[]⟩) (ds:=dD (goods.map D.str)) (k:=none) (s1:=⟨[some (sD goods),none,none],[]⟩) (by
  rw[iB,bh,ag (i:=0) rfl,aj,ay,aj,aj])
 rw[el,ab] at hf
 exact⟨_,lI (s:=⟨[some (sD goods),J,Y],[]⟩) (by
  show jN ⟨[some (sD goods),none,none],[]⟩=_
  rw[jN,hf])⟩
theorem KL{z:Str}{goods l:List Str}(h1:z∈goods)(h2:z∉l):jc [.str z,sD goods,sD l] []=.ok (.non,[]):=by
 refine lI (s:=⟨[some (.str z),some (sD goods),some (sD l)],[]⟩) ?_
 show kE ⟨[some (.str z),some (sD goods),some (sD l)],[]⟩=_
 rw[kE]
 refine SR (dX (SR (nS (s':=⟨[some (.str z),some (sD goods),some (sD l)],[]⟩) ?_) rfl)) (SR (nS (s':=⟨[some (.str z),some (sD goods),some (sD l)],[]⟩) ?_) rfl)
 ·rw[g9,eO,ag (i:=0) rfl,aj,ag (i:=1) rfl,aj]
  dsimp only
  rw[FH,Oa h1];rfl
 ·rw[g9,eO,ag (i:=0) rfl,aj,ag (i:=2) rfl,aj]
  dsimp only
  rw[Ee,Eo h2];rfl
theorem xg(i:Int):eX [.int i] []=.ok (.bl true,[]):=by
 refine dZ (s:=⟨[some (.int i)],[]⟩) ?_
 simp[jx]
theorem HA{i:Int}(h:1<=i):g5 [.int i] []=.ok (.non,[]):=by
 refine lI (s:=⟨[some (.int i)],[]⟩) ?_
 show jh ⟨[some (.int i)],[]⟩=_
 rw[jh]
 refine SR (nS (s':=⟨[some (.int i)],[]⟩) ?_) rfl
 have h1:aQ 1 eX (ae (aa 0) ao) ⟨[some (.int i)],[]⟩=.ok (.bl true,⟨[some (.int i)],[]⟩):=eJ (ds:=[.int i]) (by rw[bh,ag (i:=0) rfl];rfl) (by simp) rfl (xg i) (by simp)
 rw[xk,xT,g9,h1,aj,aj]
 dsimp only
 rw[aj]
 dsimp only
 rw[if_neg (by decide),g9,eO,ag (i:=0) rfl,aj,aD,aj]
 dsimp only
 rw[ji,decide_eq_false (by omega)];rfl
theorem A0{n:Nat}{f:FM}{ma:AM}{s s':S}{ds rs:List D}{d:D}{O:aC}(h:ma s=.ok (ds,s'))(J:bP s'.o (bP s'.o ds)=rs)(hp:aP rs=true)(Y:ds.length=n)(hf:f rs []=.ok (d,O))(hd:pC d=true):fQ n f ma s=.ok (d,s'):=by
 unfold fQ
 rw[h,aj]
 dsimp only
 rw[J,if_pos ⟨hp,Y⟩,hf]
 dsimp only
 rw[if_pos hd]
structure kX(goods:List Str)(l:List (Str×Int)):Prop where
 mem:∀p∈l,p.1∈goods
 pos:∀p∈l,1<=p.2
 nd:(l.map (·.1)).Nodup
theorem CN{goods:List Str}{l:List (Str×Int)}(h:kX goods l)(hl:l.length<=1000):∃O,eY [psD l,sD goods] []=.ok (.non,O):=by
 have e2:setM 2 (jG ao) ⟨[some (psD l),some (sD goods),none,none,none],[]⟩=.next ⟨[some (psD l),some (sD goods),some (.ptr 0),none,none],[.lst []]⟩:=by simp
 obtain⟨s',el,y3,y4,as⟩:=eN (ok:=okC (l.map pD) none) (g:=cI (aS (aE 3) (aS (aE 4) cL)) 2) (body:=ky)
  (λpre s=>∃y3 y4,s=⟨[some (psD l),some (sD goods),some (.ptr 0),y3,y4],[.lst (((l.map (·.1)).take pre.length).map D.str)]⟩) (λ_ _ _=>trivial) (l.map pD) [] (by
   rintro pre d rest ed s ⟨y3,y4,rfl⟩
   rw[SE] at ed
   obtain⟨Y,rfl⟩:=zu ed
   have hm:l[pre.length]∈l:=S6 _
   have J:(l[pre.length]).1∉(l.map (·.1)).take pre.length:=by
    have:=lj h.nd (i:=pre.length) (by simpa using Y)
    simpa using this
   generalize hx:l[pre.length]=x at hm J
   refine⟨⟨[some (psD l),some (sD goods),some (.ptr 0),some (.str x.1),some (.int x.2)],[.lst (((l.map (·.1)).take pre.length).map D.str)]⟩,⟨[some (psD l),some (sD goods),some (.ptr 0),some (.str x.1),some (.int x.2)],[.lst (((l.map (·.1)).take (pre.length+1)).map D.str)]⟩,by rw[iW];rfl,.inl ?_,some (.str x.1),some (.int x.2),by rw[SH,SN]⟩
   rw[ky]
   have k1:=cK (A0 (n:=3) (f:=jc) (ma:=ae (aa 3) (ae (aa 1) (ae (aa 2) ao))) (s:=⟨[some (psD l),some (sD goods),some (.ptr 0),some (.str x.1),some (.int x.2)],[.lst (((l.map (·.1)).take pre.length).map D.str)]⟩) (s':=⟨[some (psD l),some (sD goods),some (.ptr 0),some (.str x.1),some (.int x.2)],[.lst (((l.map (·.1)).take pre.length).map D.str)]⟩) (ds:=[.str x.1,sD goods,.ptr 0]) (rs:=[.str x.1,sD goods,sD ((l.map (·.1)).take pre.length)]) (by
    rw[bh,ag (i:=3) rfl,aj,bh,ag (i:=1) rfl,aj,bh,ag (i:=2) rfl];rfl) (Iu rfl _ _) (IC _ _ _) rfl (KL (h.mem x hm) J) (by rfl))
   have k2:=cK (eJ (n:=1) (f:=g5) (ma:=ae (aa 4) ao) (s:=⟨[some (psD l),some (sD goods),some (.ptr 0),some (.str x.1),some (.int x.2)],[.lst (((l.map (·.1)).take pre.length).map D.str)]⟩) (s':=⟨[some (psD l),some (sD goods),some (.ptr 0),some (.str x.1),some (.int x.2)],[.lst (((l.map (·.1)).take pre.length).map D.str)]⟩) (ds:=[.int x.2]) (by rw[bh,ag (i:=4) rfl];rfl) (by simp) rfl (HA (h.pos x hm)) (by simp))
   refine SR (dX k1) (SR (dX k2) ?_)
   refine SR (cK (xR (mo:=aa 2) (me:=aa 3) (k:=0) (d:=.str x.1) (ag rfl) rfl (ag rfl) rfl (by simp;omega))) ?_
   have ht:(l.map (·.1)).take (pre.length+1)=(l.map (·.1)).take pre.length++[x.1]:=by
    rw[Um,SF,Sa Y,hx];rfl
   rw[ht,SG]
   rfl) ⟨[some (psD l),some (sD goods),some (.ptr 0),none,none],[.lst []]⟩ ⟨_,_,rfl⟩
 have hf:=dh (im:=listI (aa 0)) (g:=cI (aS (aE 3) (aS (aE 4) cL)) 2) (body:=ky) (s:=⟨[some (psD l),some (sD goods),some (.ptr 0),none,none],[.lst []]⟩) (ds:=l.map pD) (k:=none) (s1:=⟨[some (psD l),some (sD goods),some (.ptr 0),none,none],[.lst []]⟩) (by rw[cJ,ag (i:=0) rfl];rfl)
 rw[el] at hf
 exact⟨_,lI (s:=s') (by
  show iM ⟨[some (psD l),some (sD goods),none,none,none],[]⟩=_
  rw[iM,dX e2]
  exact hf)⟩
@[simp] theorem Ip (g h i:GM) (a b c:D) (s:S):cI (aS g (aS h (aS i cL))) 3 (.tup [a,b,c]) s=(g a s).bind λs1=>(h b s1).bind λs2=>i c s2:=by
 show (g a s).bind (λs1=>(h b s1).bind λs2=>(i c s2).bind λJ=>.ok J)=_
 congr 1
 funext s1
 congr 1
 funext s2
 cases i c s2 <;> rfl
structure xY(goods:List Str)(ws:List Wk):Prop where
 nm:∀w∈ws,qy w.nm
 nd:(ws.map (·.nm)).Nodup
 us:∀w∈ws,kX goods w.us/\w.us.length<=100
 ms:∀w∈ws,kX goods w.ms/\w.ms.length<=100
theorem Jg{goods:List Str}{ws:List Wk}(h:xY goods ws)(hl:ws.length<=1000):∃O,iG [wsD ws,sD goods] []=.ok (.non,O):=by
 have e2:setM 2 (jG ao) ⟨[some (wsD ws),some (sD goods),none,none,none,none],[]⟩=.next ⟨[some (wsD ws),some (sD goods),some (.ptr 0),none,none,none],[.lst []]⟩:=by simp
 obtain⟨s',el,y3,y4,y5,a0⟩:=eN (ok:=okC (ws.map wD) none) (g:=cI (aS (aE 3) (aS (aE 4) (aS (aE 5) cL))) 3) (body:=kx)
  (λpre s=>∃y3 y4 y5,s=⟨[some (wsD ws),some (sD goods),some (.ptr 0),y3,y4,y5],[.lst (((ws.map (·.nm)).take pre.length).map D.str)]⟩) (λ_ _ _=>trivial) (ws.map wD) [] (by
   rintro pre d rest ed s ⟨y3,y4,y5,rfl⟩
   rw[SE] at ed
   obtain⟨Y,rfl⟩:=zu ed
   have hm:ws[pre.length]∈ws:=S6 _
   have J:(ws[pre.length]).nm∉(ws.map (·.nm)).take pre.length:=by
    have:=lj h.nd (i:=pre.length) (by simpa using Y)
    simpa using this
   generalize hx:ws[pre.length]=x at hm J
   refine⟨⟨[some (wsD ws),some (sD goods),some (.ptr 0),some (.str x.nm),some (psD x.us),some (psD x.ms)],[.lst (((ws.map (·.nm)).take pre.length).map D.str)]⟩,⟨[some (wsD ws),some (sD goods),some (.ptr 0),some (.str x.nm),some (psD x.us),some (psD x.ms)],[.lst (((ws.map (·.nm)).take (pre.length+1)).map D.str)]⟩,by rw[Ip];rfl,.inl ?_,some (.str x.nm),some (psD x.us),some (psD x.ms),by rw[SH,SN]⟩
   rw[kx]
   obtain⟨O1,p1⟩:=CN (h.us x hm).1 (by have:=(h.us x hm).2;omega)
   obtain⟨O2,p2⟩:=CN (h.ms x hm).1 (by have:=(h.ms x hm).2;omega)
   have k1:=cK (A0 (n:=2) (f:=fC) (ma:=ae (aa 3) (ae (aa 2) ao)) (s:=⟨[some (wsD ws),some (sD goods),some (.ptr 0),some (.str x.nm),some (psD x.us),some (psD x.ms)],[.lst (((ws.map (·.nm)).take pre.length).map D.str)]⟩) (s':=⟨[some (wsD ws),some (sD goods),some (.ptr 0),some (.str x.nm),some (psD x.us),some (psD x.ms)],[.lst (((ws.map (·.nm)).take pre.length).map D.str)]⟩) (ds:=[.str x.nm,.ptr 0]) (by
    rw[bh,ag (i:=3) rfl,aj,bh,ag (i:=2) rfl];rfl) (K2 rfl _) (DZ _ _) rfl (D4 (h.nm x hm) J) (by rfl))
   have ab:∀l:List (Str×Int),aP [.lst (l.map pD),.lst (goods.map D.str)]=true:=λl=>by
    show (aP (l.map pD)&&(aP (goods.map D.str)&&true))=true
    rw[dU,iT];rfl
   have k2:=cK (eJ (n:=2) (f:=eY) (ma:=ae (aa 4) (ae (aa 1) ao)) (s:=⟨[some (wsD ws),some (sD goods),some (.ptr 0),some (.str x.nm),some (psD x.us),some (psD x.ms)],[.lst (((ws.map (·.nm)).take pre.length).map D.str)]⟩) (s':=⟨[some (wsD ws),some (sD goods),some (.ptr 0),some (.str x.nm),some (psD x.us),some (psD x.ms)],[.lst (((ws.map (·.nm)).take pre.length).map D.str)]⟩) (ds:=[psD x.us,sD goods]) (by rw[bh,ag (i:=4) rfl,aj,bh,ag (i:=1) rfl];rfl) (ab _) rfl p1 (by simp))
   have k3:=cK (eJ (n:=2) (f:=eY) (ma:=ae (aa 5) (ae (aa 1) ao)) (s:=⟨[some (wsD ws),some (sD goods),some (.ptr 0),some (.str x.nm),some (psD x.us),some (psD x.ms)],[.lst (((ws.map (·.nm)).take pre.length).map D.str)]⟩) (s':=⟨[some (wsD ws),some (sD goods),some (.ptr 0),some (.str x.nm),some (psD x.us),some (psD x.ms)],[.lst (((ws.map (·.nm)).take pre.length).map D.str)]⟩) (ds:=[psD x.ms,sD goods]) (by rw[bh,ag (i:=5) rfl,aj,bh,ag (i:=1) rfl];rfl) (ab _) rfl p2 (by simp))
   refine SR (dX k1) (SR (dX k2) (SR (dX k3) ?_))
   refine SR (cK (xR (mo:=aa 2) (me:=aa 3) (k:=0) (d:=.str x.nm) (ag rfl) rfl (ag rfl) rfl (by simp;omega))) ?_
   have ht:(ws.map (·.nm)).take (pre.length+1)=(ws.map (·.nm)).take pre.length++[x.nm]:=by
    rw[Um,SF,Sa Y,hx];rfl
   rw[ht,SG]
   rfl) ⟨[some (wsD ws),some (sD goods),some (.ptr 0),none,none,none],[.lst []]⟩ ⟨_,_,_,rfl⟩
 have hf:=dh (im:=listI (aa 0)) (g:=cI (aS (aE 3) (aS (aE 4) (aS (aE 5) cL))) 3) (body:=kx) (s:=⟨[some (wsD ws),some (sD goods),some (.ptr 0),none,none,none],[.lst []]⟩) (ds:=ws.map wD) (k:=none) (s1:=⟨[some (wsD ws),some (sD goods),some (.ptr 0),none,none,none],[.lst []]⟩) (by rw[cJ,ag (i:=0) rfl];rfl)
 rw[el] at hf
 exact⟨_,lI (s:=s') (by
  show jR ⟨[some (wsD ws),some (sD goods),none,none,none,none],[]⟩=_
  rw[jR,dX e2]
  exact hf)⟩
theorem Lr(w:Wk):j6 [wD w] []=.ok (wD w,[]):=by
 refine dZ (s:=⟨[some (wD w)],[]⟩) ?_
 show lY ⟨[some (wD w)],[]⟩=_
 rw[lY]
 refine bW ?_
 have J:∀(k:Int) (d:D),ixD [] (wD w) (.int k)=.ok d->ak ixD (aa 0) (aq (.int k)) ⟨[some (wD w)],[]⟩=.ok (d,⟨[some (wD w)],[]⟩):=λk d h=>by
  rw[eO,ag (i:=0) rfl,aj,aD,aj]
  dsimp only
  rw[h];rfl
 rw[D2,bh,J 0 (.str w.nm) rfl,aj,bh,g7,bh,J 1 (psD w.us) rfl,aj,ay,aj,aj]
 dsimp only
 rw[mO,aj,aj,bh,g7,bh,J 2 (psD w.ms) rfl,aj,ay,aj,aj]
 dsimp only
 rw[mO,aj,aj,ay,aj,aj,aj,aj]
 rfl
def sumOf(g:Str)(l:List (Str×Int)):Int:=((l.filter λp=>decide (p.1=g)).map (·.2)).sum
def chg(w:Wk)(g:Str):Int:=sumOf g w.ms-sumOf g w.us
theorem EA{g:Str}{l:List (Str×Int)}(J:l.length<=1000):eU [.str g,psD l] []=.ok (.int (sumOf g l),[]):=by
 have hc:=xV (l:=l) (item:=pD) (p:=λp=>decide (p.1=g)) (out:=λp=>.int p.2) (caps:=[0]) (im:=listI (aa 1)) (c:=bc (ak eqD (ak ixD (aa 0) (aq (.int 0))) (aa 1))) (e:=ak ixD (aa 0) (aq (.int 1))) (k:=none) (s:=⟨[some (.str g),some (psD l)],[]⟩) (by rw[cJ,ag (i:=1) rfl];rfl) trivial (by omega) (λp _=>by
  rw[g9,eO,eO,ag (i:=0) rfl,aj,aD,aj]
  dsimp only
  rw[show ixD [] (pD p) (.int 0)=.ok (.str p.1) from rfl,aj,aj]
  dsimp only
  rw[ag (i:=1) rfl,aj]
  dsimp only
  rw[Lz];rfl) (λp _ _=>by
  rw[eO,ag (i:=0) rfl,aj,aD,aj]
  rfl)
 rw[show (l.filter λp=>decide (p.1=g)).map (λp=>D.int p.2)=((l.filter λp=>decide (p.1=g)).map (·.2)).map D.int by rw[So];rfl] at hc
 refine dZ (s:=⟨[some (.str g),some (psD l)],[]⟩) ?_
 show jW ⟨[some (.str g),some (psD l)],[]⟩=_
 rw[jW]
 refine bW ?_
 rw[g7,bh,hc,aj,ay,aj,aj]
 dsimp only
 rw[uh,aj]
 rfl
theorem K4{w:Wk}{goods:List Str}(h1:w.us.length<=1000)(h2:w.ms.length<=1000)(hg:goods.length<=1000):j8 [wD w,sD goods] []=.ok (vI (goods.map (chg w)),[]):=by
 have hc:=dJ (l:=goods) (item:=D.str) (out:=λg=>.int (chg w g)) (caps:=[0]) (im:=listI (aa 1)) (e:=ak jA (aQ 2 eU (ae (aa 0) (ae (ak ixD (aa 1) (aq (.int 2))) ao))) (aQ 2 eU (ae (aa 0) (ae (ak ixD (aa 1) (aq (.int 1))) ao)))) (k:=none) (s:=⟨[some (wD w),some (sD goods)],[]⟩) (by rw[cJ,ag (i:=1) rfl];rfl) trivial (by omega) (λg _=>by
  have J:∀l:List (Str×Int),aP [.str g,.lst (l.map pD)]=true:=λl=>by
   show (true&&(aP (l.map pD)&&true))=true
   rw[iT];rfl
  have Y:aQ 2 eU (ae (aa 0) (ae (ak ixD (aa 1) (aq (.int 2))) ao)) ⟨some (.str g)::[0].map (λi=>([some (wD w),some (sD goods)][i]?).getD none),[]⟩=.ok (.int (sumOf g w.ms),⟨some (.str g)::[0].map (λi=>([some (wD w),some (sD goods)][i]?).getD none),[]⟩):=eJ (ds:=[.str g,psD w.ms]) (by
   rw[bh,ag (i:=0) rfl,aj,bh,eO,ag (i:=1) rfl,aj,aD,aj];rfl) (J _) rfl (EA h2) (by simp)
  have c1:aQ 2 eU (ae (aa 0) (ae (ak ixD (aa 1) (aq (.int 1))) ao)) ⟨some (.str g)::[0].map (λi=>([some (wD w),some (sD goods)][i]?).getD none),[]⟩=.ok (.int (sumOf g w.us),⟨some (.str g)::[0].map (λi=>([some (wD w),some (sD goods)][i]?).getD none),[]⟩):=eJ (ds:=[.str g,psD w.us]) (by
   rw[bh,ag (i:=0) rfl,aj,bh,eO,ag (i:=1) rfl,aj,aD,aj];rfl) (J _) rfl (EA h1) (by simp)
  rw[eO,Y,aj]
  dsimp only
  rw[c1,aj]
  rfl)
 rw[show goods.map (λg=>D.int (chg w g))=(goods.map (chg w)).map D.int by rw[So];rfl] at hc
 refine dZ (s:=⟨[some (wD w),some (sD goods)],[]⟩) ?_
 show lV ⟨[some (wD w),some (sD goods)],[]⟩=_
 rw[lV]
 exact bW hc
abbrev FN:List Str:=["held_goods","held_works","held_changes"]
abbrev yDs(goods:List Str)(ws:List Wk):List D:=[sD goods,wsD ws,vII (ws.map λw=>goods.map (chg w))]
abbrev yD(goods:List Str)(ws:List Wk):D:=.obj 0 FN (yDs goods ws)
theorem iz(goods:List Str)(ws:List Wk):aP (yDs goods ws)=true:=by
 show (aP (goods.map D.str)&&(aP (ws.map wD)&&(aP ((ws.map λw=>goods.map (chg w)).map vI)&&true)))=true
 rw[dU,nq,jm];rfl
theorem yH{c:Nat}{f:Str}{mo mv:EM}{s s1 s2:S}{d:D}{k:Nat}{ns:List Str}{ds:List D}(J:mv s=.ok (d,s1))(Y:mo s1=.ok (.ptr k,s2))(hc:s2.o[k]? =some (.ins c ns ds))(hf:f∉ns)(hl:ns.length<1000):rQ c f mo mv s=.next ⟨s2.r,s2.o.set k (.ins c (ns++[f]) (ds++[d]))⟩:=by
 rw[Jx,J,nu]
 dsimp only
 rw[Y,nu]
 dsimp only
 rw[hc]
 dsimp only
 rw[if_pos ⟨rfl,hf,hl⟩]
theorem LD{goods:List Str}{ws:List Wk}(hg:∀z∈goods,qy z)(nd:goods.Nodup)(Y:xY goods ws)(h1:goods.length<=10)(h2:ws.length<=10):iV [.ptr 0,sD goods,wsD ws] [.ins 0 [] []]=.ok (.non,[.ins 0 FN (yDs goods ws)]):=by
 obtain⟨O1,k1⟩:=Iq hg nd
 obtain⟨O2,k2⟩:=Jg Y (by omega)
 refine lI (s:=⟨[some (.ptr 0),some (sD goods),some (wsD ws)],[.ins 0 FN (yDs goods ws)]⟩) ?_
 show lZ ⟨[some (.ptr 0),some (sD goods),some (wsD ws)],[.ins 0 [] []]⟩=_
 rw[lZ]
 have pg:aP [.lst (goods.map D.str)]=true:=by
  show (aP (goods.map D.str)&&true)=true
  rw[dU];rfl
 have ab:aP [.lst (goods.map D.str),.lst (ws.map wD)]=true:=by
  show (aP (goods.map D.str)&&(aP (ws.map wD)&&true))=true
  rw[dU,nq];rfl
 have ac:aP [.lst (ws.map wD),.lst (goods.map D.str)]=true:=by
  show (aP (ws.map wD)&&(aP (goods.map D.str)&&true))=true
  rw[dU,nq];rfl
 have e1:=cK (eJ (n:=2) (f:=jg) (ma:=ae (aa 1) (ae (aa 2) ao)) (s:=⟨[some (.ptr 0),some (sD goods),some (wsD ws)],[.ins 0 [] []]⟩) (s':=⟨[some (.ptr 0),some (sD goods),some (wsD ws)],[.ins 0 [] []]⟩) (ds:=[sD goods,wsD ws]) (by rw[bh,ag (i:=1) rfl,aj,bh,ag (i:=2) rfl];rfl) ab rfl (Lp h1 h2) (by simp))
 have e2:=cK (eJ (n:=1) (f:=iK) (ma:=ae (aa 1) ao) (s:=⟨[some (.ptr 0),some (sD goods),some (wsD ws)],[.ins 0 [] []]⟩) (s':=⟨[some (.ptr 0),some (sD goods),some (wsD ws)],[.ins 0 [] []]⟩) (ds:=[sD goods]) (by rw[bh,ag (i:=1) rfl];rfl) pg rfl k1 (by simp))
 have e3:=cK (eJ (n:=2) (f:=iG) (ma:=ae (aa 2) (ae (aa 1) ao)) (s:=⟨[some (.ptr 0),some (sD goods),some (wsD ws)],[.ins 0 [] []]⟩) (s':=⟨[some (.ptr 0),some (sD goods),some (wsD ws)],[.ins 0 [] []]⟩) (ds:=[wsD ws,sD goods]) (by rw[bh,ag (i:=2) rfl,aj,bh,ag (i:=1) rfl];rfl) ac rfl k2 (by simp))
 have e4:=yH (c:=0) (f:="held_goods") (mo:=aa 0) (mv:=bf ju (ae (aa 1) ao)) (s:=⟨[some (.ptr 0),some (sD goods),some (wsD ws)],[.ins 0 [] []]⟩) (s1:=⟨[some (.ptr 0),some (sD goods),some (wsD ws)],[.ins 0 [] []]⟩) (s2:=⟨[some (.ptr 0),some (sD goods),some (wsD ws)],[.ins 0 [] []]⟩) (d:=sD goods) (k:=0) (ns:=[]) (ds:=[]) (by
  rw[g7,bh,ag (i:=1) rfl,aj,ay,aj,aj]
  dsimp only
  rw[mO,aj]) (ag rfl) rfl (by simp) (by simp)
 have cw:=dJ (l:=ws) (item:=wD) (out:=wD) (caps:=[]) (im:=listI (aa 2)) (e:=aQ 1 j6 (ae (aa 0) ao)) (k:=none) (s:=⟨[some (.ptr 0),some (sD goods),some (wsD ws)],[.ins 0 ["held_goods"] [sD goods]]⟩) (by rw[cJ,ag (i:=2) rfl];rfl) trivial (by omega) (λw _=>eJ (ds:=[wD w]) (by rw[bh,ag (i:=0) rfl];rfl) (by
  show ((true&&(aP (w.us.map pD)&&(aP (w.ms.map pD)&&true)))&&true)=true
  rw[iT,iT];rfl) rfl (Lr w) (by
  show (true&&(aP (w.us.map pD)&&(aP (w.ms.map pD)&&true)))=true
  rw[iT,iT];rfl))
 have e5:=yH (c:=0) (f:="held_works") (mo:=aa 0) (k:=0) (ns:=["held_goods"]) (ds:=[sD goods]) cw (ag rfl) rfl (by decide) (by simp)
 have cc:=dJ (l:=ws) (item:=wD) (out:=λw=>vI (goods.map (chg w))) (caps:=[1]) (im:=listI (aa 2)) (e:=aQ 2 j8 (ae (aa 0) (ae (aa 1) ao))) (k:=none) (s:=⟨[some (.ptr 0),some (sD goods),some (wsD ws)],[.ins 0 ["held_goods","held_works"] [sD goods,wsD ws]]⟩) (by rw[cJ,ag (i:=2) rfl];rfl) trivial (by omega) (λw J=>eJ (ds:=[wD w,sD goods]) (by rw[bh,ag (i:=0) rfl,aj,bh,ag (i:=1) rfl];rfl) (by
  show ((true&&(aP (w.us.map pD)&&(aP (w.ms.map pD)&&true)))&&(aP (goods.map D.str)&&true))=true
  rw[iT,iT,dU];rfl) rfl (K4 (by have:=(Y.us w J).2;omega) (by have:=(Y.ms w J).2;omega) (by omega)) (by generalize goods.map (chg w)=r;simp))
 rw[show ws.map (λw=>vI (goods.map (chg w)))=(ws.map λw=>goods.map (chg w)).map vI by rw[So];rfl] at cc
 have e6:=yH (c:=0) (f:="held_changes") (mo:=aa 0) (k:=0) (ns:=["held_goods","held_works"]) (ds:=[sD goods,wsD ws]) cc (ag rfl) rfl (by decide) (by simp)
 refine SR (dX e1) (SR (dX e2) (SR (dX e3) (SR (dX e4) (SR (dX e5) e6))))
structure Pt(goods:List Str)(i:Nat)(l:List (Str×Int)):Prop where
 mem:∀p∈l,p.1∈goods.take i
 pos:∀p∈l,1<=p.2
 nd:(l.map (·.1)).Nodup
 len:l.length<=i
theorem Pt.same{goods:List Str}{i:Nat}{l:List (Str×Int)}(h:Pt goods i l):Pt goods (i+1) l:=
 ⟨λp hp=>UV (i:=i) (by rw[List.take_take,Wj (VD i)];exact h.mem p hp),h.pos,h.nd,Nat.le_succ_of_le h.len⟩
theorem Pt.more{goods:List Str}(J:goods.Nodup){i:Nat}(hi:i<goods.length){l:List (Str×Int)}(h:Pt goods i l){a:Int}(ha:1<=a):Pt goods (i+1) (l++[(goods[i],a)]):=by
 have Y:=h.same
 refine⟨λp hp=> ?_,λp hp=> ?_, ?_,by rw[SH,SN];have:=h.len;omega⟩
 ·rcases Sy.mp hp with q | q
  ·exact Y.mem p q
  ·rw[Sv.mp q,show goods.take (i+1)=goods.take i++[goods[i]] by rw[Um,Sa hi];rfl]
   exact S0 _ (Sv.mpr rfl)
 ·rcases Sy.mp hp with q | q
  ·exact h.pos p q
  ·rw[Sv.mp q];exact ha
 ·rw[SG]
  refine TW.mpr ⟨h.nd,by simp,λx hx y hy=> ?_⟩
  obtain⟨p,hp,rfl⟩:=Su.mp hx
  have:y=goods[i]:=by simpa using hy
  subst this
  intro e
  exact lj J hi (e▸h.mem p hp)
theorem Pt.parts{goods:List Str}{i:Nat}{l:List (Str×Int)}(h:Pt goods i l):kX goods l:=⟨λp hp=>UV (h.mem p hp),h.pos,h.nd⟩
theorem kX.rev{goods:List Str}{l:List (Str×Int)}(h:kX goods l):kX goods l.reverse:=
 ⟨λp hp=>h.mem p (Wc.mp hp),λp hp=>h.pos p (Wc.mp hp),by rw[Wd];exact List.pairwise_reverse.mpr (h.nd.imp λe=>e.symm)⟩
def cf(c t m:Int):Int:=(c%2147483647+7)*(48271+7919*t)%2147483647*16807%2147483647/8%m
theorem jv{c t m:Int}(hm:0<m):0<=cf c t m:=Tw _ (by omega)
theorem mF{c t m:Int}(hm:0<m):cf c t m<m:=Tf _ hm
theorem tw(c t:Int){m:Nat}(hm:0<m):∃r:Nat,cf c t (m:Int)=(r:Int)/\r<m:=⟨(cf c t (m:Int)).toNat,by have:=jv (c:=c) (t:=t) (m:=(m:Int)) (by omega);omega,by have:=jv (c:=c) (t:=t) (m:=(m:Int)) (by omega);have:=mF (c:=c) (t:=t) (m:=(m:Int)) (by omega);omega⟩
theorem Mh{c t m:Int}(hm:0<m):aL [.int c,.int t,.int m] []=.ok (.int (cf c t m),[]):=by
 have J:0<=c%2147483647:=Tw _ (by decide)
 have h1:c%2147483647<2147483647:=Tf _ (by decide)
 refine eM (R:=[some (.int c),some (.int t),some (.int m),some (.int ((c%2147483647+7)*(48271+7919*t)%2147483647))]) ?_
 show bQ ⟨[some (.int c),some (.int t),some (.int m),none],[]⟩=_
 rw[bQ]
 refine aT (bu (aI (aI (aI (aI (ag rfl) (aD _ _) (gc (by decide))) (aD _ _) (bT _ _)) (aI (aD _ _) (aI (aD _ _) (ag rfl) (cO (fj (.inl (by decide))))) (bT _ _)) (cO (fj (.inl (by omega))))) (aD _ _) (gc (by decide))) rfl) ?_
 exact bW (aI (aI (aI (aI (ag rfl) (aD _ _) (cO (fj (.inr (by decide))))) (aD _ _) (gc (by decide))) (aD _ _) (vM (by decide) (by decide))) (ag rfl) (gc hm))
theorem gs{s:S}{ma mb mc:EM}{c t m:Int}(h1:ma s=.ok (.int c,s))(h2:mb s=.ok (.int t,s))(J:mc s=.ok (.int m,s))(hm:0<m):aQ 3 aL (ae ma (ae mb (ae mc ao))) s=.ok (.int (cf c t m),s):=dE (ax h1 (ax h2 (ax J (ay _)))) (Mh hm) rfl rfl rfl
def sgP(J:Int)(k:Nat):Nat:=97+((J+5*(k:Int))%26).toNat
def nmP(wd:List Nat)(sp:Nat)(J:Int)(k:Nat):List Nat:=wd.take sp++[sgP J k]++wd.drop sp
theorem N8(J:Int)(k:Nat):97<=sgP J k/\sgP J k<=122:=by unfold sgP;omega
theorem J6{wd:List Nat}{sp k:Nat}{Y:Int}(h:sp<=wd.length)(h7:wd.length<=7)(J:azL wd):qy (mkS (nmP wd sp Y k)):=by
 have hl:(nmP wd sp Y k).length=wd.length+1:=by unfold nmP;simp;omega
 refine⟨by rw[kF,hl];omega,by rw[kF,hl];omega, ?_⟩
 rw[iS]
 intro c hc
 unfold nmP at hc
 rcases Sy.mp hc with z | z
 ·rcases Sy.mp z with y | y
  ·exact J c (UV y)
  ·rw[Sv.mp y];exact N8 Y k
 ·exact J c (List.mem_of_mem_drop z)
theorem Nc{wd:List Nat}{sp i j:Nat}{J:Int}(h:sp<=wd.length)(Y:i<j)(hj:j<26):nmP wd sp J i≠nmP wd sp J j:=by
 intro e
 have hs:sgP J i≠sgP J j:=by unfold sgP;omega
 have hl:(wd.take sp).length=sp:=by rw[TX];omega
 have key:∀x:Nat,(wd.take sp++[x]++wd.drop sp)[sp]? =some x:=λx=>by
  rw[S7,Sj (by omega),hl,Vt];rfl
 have e1:(nmP wd sp J i)[sp]? =(nmP wd sp J j)[sp]? :=by rw[e]
 unfold nmP at e1
 rw[key,key] at e1
 have e1:sgP J i=sgP J j:=by simpa using e1
 exact hs e1
theorem names_nodup{wd:List Nat}{sp n:Nat}{Y:Int}(h:sp<=wd.length)(hn:n<=26):((Sg n).map λk=>mkS (nmP wd sp Y k)).Nodup:=by
 unfold Wm
 rw[Ve]
 refine Uf ?_ (List.pairwise_lt_range (n:=n))
 intro i j _ hj J e
 have:=congrArg sg e
 rw[iS,iS] at this
 exact Nc h J (by have:=S3.mp hj;omega) this
theorem Ks{me:EM}{J Y:OM}{s s1 s2 s3:S}{z y:Str}{lo hi:Option Int}(h:me s=.ok (.str z,s1))(hl:J s1=.ok (lo,s2))(hh:Y s2=.ok (hi,s3))(hz:z.length<=1000000)(hy:nL z lo hi=y):slS me J Y s=.ok (.str y,s3):=by
 rw[N1,h,aj]
 dsimp only
 rw[hl,aj]
 dsimp only
 rw[hh,aj]
 dsimp only
 rw[if_pos (by omega),hy]
abbrev naR(c:Int)(n:Nat)(wd:List Nat)(J Y x6:Option D):List (Option D):=[some (.int c),some (.int (n:Int)),some (.str ABC),some (.str (mkS wd)),J,Y,x6]
theorem EJ{c:Int}{n k:Nat}{wd:List Nat}(Y:wd.length<=1000):∃r,jQ ⟨naR c n wd (some (.int (k:Int))) none none,[]⟩=.next ⟨naR c n (wd++[r]) (some (.int (k:Int))) none none,[]⟩/\97<=r/\r<=122:=by
 have J:=jv (c:=c) (t:=2+(k:Int)) (m:=26) (by decide)
 have p1:=mF (c:=c) (t:=2+(k:Int)) (m:=26) (by decide)
 refine⟨97+(cf c (2+(k:Int)) 26).toNat, ?_,by omega,by omega⟩
 rw[jQ]
 refine bu (aI (ag rfl) (aI (ag rfl) (gs (ag rfl) (aI (aD _ _) (ag rfl) (bT _ _)) (aD _ _) (by decide)) (Gv J p1)) ?_) rfl
 rw[ua (by rw[kF,kF];simp;omega)]
 rw[show mkS wd++mkS [97+(cf c (2+(k:Int)) 26).toNat]=mkS (wd++[97+(cf c (2+(k:Int)) 26).toNat]) from tI (by rw[AY,iS,iS,iS])]
theorem Bj(c:Int){n:Nat}(hn:n<=20):∃zs O,dS [.int c,.int (n:Int)] []=.ok (sD zs,O)/\zs.length=n/\(∀z∈zs,qy z)/\zs.Nodup:=by
 obtain⟨sz,ab,a2⟩:=tw c 1 (m:=8) (by decide)
 have ab:cf c 1 8=(sz:Int):=ab
 obtain⟨s',el,J,Y,am,an,ap⟩:=eN (ok:=okC (dw 0 (sz:Int)) none) (g:=aE 4) (body:=jQ)
  (λpre s=>∃(J:List Nat) (Y:Option D),J.length=pre.length/\azL J/\s=⟨naR c n J Y none none,[]⟩) (λ_ _ _=>trivial) (dw 0 (sz:Int)) [] (by
   rintro pre d rest ed s ⟨J,Y,h1,h2,rfl⟩
   rw[SE,fL] at ed
   obtain⟨rfl,a4⟩:=oI ed
   obtain⟨r,eb,r1,r2⟩:=EJ (c:=c) (n:=n) (k:=pre.length) (wd:=J) (by omega)
   refine⟨_,_,rfl,.inl eb,J++[r],_,by simp[h1],λz hz=> ?_,rfl⟩
   rcases Sy.mp hz with q | q
   ·exact h2 z q
   ·rw[Sv.mp q];exact⟨r1,r2⟩) ⟨naR c n [] none none none,[]⟩ ⟨[],none,rfl,(λ_ h=>by cases h),rfl⟩
 rw[SE,iA] at am
 have am:J.length=sz:=by omega
 have hf:eC (du (ae (aQ 3 aL (ae (aa 0) (ae (aq (.int 1)) (ae (aq (.int 8)) ao)))) ao)) (aE 4) jQ ⟨naR c n [] none none none,[]⟩=.next ⟨naR c n J Y none none,[]⟩:=by
  refine(dh (ds:=dw 0 (sz:Int)) (k:=none) (s1:=⟨naR c n [] none none none,[]⟩) (dW (n:=sz) ?_ (by omega))).trans (el.trans (by rw[ap]))
  rw[<- ab]
  exact ax (gs (ag rfl) (aD _ _) (aD _ _) (by decide)) (ay _)
 obtain⟨sp,as,a9⟩:=tw c 10 (m:=J.length+1) (by omega)
 have e5:setM 5 (aQ 3 aL (ae (aa 0) (ae (aq (.int 10)) (ae (ak bt (bf bO (ae (aa 3) ao)) (aq (.int 1))) ao)))) ⟨naR c n J Y none none,[]⟩=.next ⟨naR c n J Y (some (.int (sp:Int))) none,[]⟩:=by
  rw[<- as]
  refine bu (gs (ag rfl) (aD _ _) (aI (dq (ax (ag rfl) (ay _)) (Ce (by rw[kF];omega))) (aD _ _) ?_) (by omega)) rfl
  rw[bT,kF];rfl
 have e6:setM 6 (aQ 3 aL (ae (aa 0) (ae (aq (.int 11)) (ae (aq (.int 26)) ao)))) ⟨naR c n J Y (some (.int (sp:Int))) none,[]⟩=.next ⟨naR c n J Y (some (.int (sp:Int))) (some (.int (cf c 11 26))),[]⟩:=bu (gs (ag rfl) (aD _ _) (aD _ _) (by decide)) rfl
 generalize cf c 11 26=fi at e6
 have bd:(mkS J).length=J.length:=kF J
 have ec:=dJ (l:=Sg n) (item:=λi:Nat=>D.int (i:Int)) (out:=λk=>.str (mkS (nmP J sp fi k))) (caps:=[6,2,5,3]) (im:=du (ae (aa 1) ao)) (e:=ak bt (ak bt (slS (aa 4) iO (part (aa 3))) (ak ixD (aa 2) (ak gM (ak bt (aa 1) (ak cF (aq (.int 5)) (aa 0))) (aq (.int 26))))) (slS (aa 4) (part (aa 3)) iO)) (k:=none) (s:=⟨naR c n J Y (some (.int (sp:Int))) (some (.int fi)),[]⟩) (by
  rw[<- fL]
  exact dW (ax (ag rfl) (ay _)) (by omega)) trivial (by simp;omega) (λk hk=>by
   have p1:nL (mkS J) none (some (sp:Int))=mkS (J.take sp):=tI (by rw[LZ (by omega),iS,iS])
   have p2:nL (mkS J) (some (sp:Int)) none=mkS (J.drop sp):=tI (by rw[Lb (by omega),iS,iS])
   refine aI (aI (Ks (ag rfl) (qa _) (xC (ag rfl)) (by omega) p1) (aI (ag rfl) (aI (aI (ag rfl) (aI (aD _ _) (ag rfl) (cO (fj (.inl (by decide))))) (bT _ _)) (aD _ _) (gc (by decide))) (Gv (by omega) (by omega))) (d:=.str (mkS (J.take sp++[sgP fi k]))) ?_) (Ks (ag rfl) (xC (ag rfl)) (qa _) (by omega) p2) ?_
   ·rw[ua (by rw[kF,kF];simp;omega)]
    exact congrArg (λz=>Res.ok (D.str z)) (tI (by rw[AY,iS,iS,iS];rfl))
   ·rw[ua (by rw[kF,kF];simp;omega)]
    exact congrArg (λz=>Res.ok (D.str z)) (tI (by rw[AY,iS,iS,iS];rfl)))
 refine⟨(Sg n).map λk=>mkS (nmP J sp fi k),[], ?_,by simp,λz hz=> ?_,names_nodup (by omega) (by omega)⟩
 ·refine eM (R:=naR c n J Y (some (.int (sp:Int))) (some (.int fi))) ?_
  show j0 ⟨[some (.int c),some (.int (n:Int)),none,none,none,none,none],[]⟩=_
  rw[j0]
  rw[show (Sg n).map (λk=>D.str (mkS (nmP J sp fi k)))=((Sg n).map λk=>mkS (nmP J sp fi k)).map D.str by rw[So];rfl] at ec
  exact aT (bu (aD _ _) rfl) (aT (bu (R':=naR c n [] none none none) (aD _ _) rfl) (aT hf (aT e5 (aT e6 (bW ec)))))
 ·obtain⟨k,_,rfl⟩:=Su.mp hz
  exact J6 (by omega) (by omega) an
theorem ud{O:aC}:sr O (.int 10) (.int 12)=.ok (.int 1000000000000):=Jr (by decide) (by decide) (by decide)
theorem r9{O:aC}{i j:Int}(h:0<j):iy O (.int i) (.int j)=.ok (.int (i/j)):=by
 rw[oZ (by omega),wx h]
abbrev moR(c:Int)(n:Nat)(w:Bool)(rest span:Int)(x6 x7:Option D):List (Option D):=[some (.int c),some (.int (n:Int)),some (.bl w),some (.ptr 0),some (.int rest),some (.int span),x6,x7]
theorem HI{c:Int}{n k:Nat}{w:Bool}{rest span:Int}{l:List Int}{x7:Option D}(hs:7<=span)(ap:span<=2000000000001)(hl:l.length<=1000):
 ∃(v J:Int),nk ⟨moR c n w rest span (some (.int (k:Int))) x7,[.lst (l.map D.int)]⟩=.next ⟨moR c n w J span (some (.int (k:Int))) (some (.int v)),[.lst ((l++[v]).map D.int)]⟩/\Sz 50 v:=by
 have p0:=jv (c:=c) (t:=20+(k:Int)) (m:=7) (by decide)
 have p1:=mF (c:=c) (t:=20+(k:Int)) (m:=7) (by decide)
 have q0:=jv (c:=c) (t:=30+(k:Int)) (m:=2000) (by decide)
 have q1:=mF (c:=c) (t:=30+(k:Int)) (m:=2000) (by decide)
 have e7:setM 7 (ak jA (aQ 3 aL (ae (aa 0) (ae (ak bt (aq (.int 20)) (aa 6)) (ae (aq (.int 7)) ao)))) (aq (.int 3))) ⟨moR c n w rest span (some (.int (k:Int))) x7,[.lst (l.map D.int)]⟩=.next ⟨moR c n w rest span (some (.int (k:Int))) (some (.int (cf c (20+(k:Int)) 7-3))),[.lst (l.map D.int)]⟩:=bu (aI (gs (ag rfl) (aI (aD _ _) (ag rfl) (bT _ _)) (aD _ _) (by decide)) (aD _ _) (nW _ _)) rfl
 generalize cf c (20+(k:Int)) 7=p at e7 p0 p1
 have m0:0<=c%1000000000000:=Tw _ (by decide)
 have m1:c%1000000000000<1000000000000:=Tf _ (by decide)
 have e8:∃v,ifS (bc (aa 2)) (setM 7 (ak jA (ak bt (ak cF (aa 7) (ak gM (aa 0) (ak sr (aq (.int 10)) (aq (.int 12))))) (aQ 3 aL (ae (aa 0) (ae (ak bt (aq (.int 30)) (aa 6)) (ae (aq (.int 2000)) ao))))) (aq (.int 1000)))) bU ⟨moR c n w rest span (some (.int (k:Int))) (some (.int (p-3))),[.lst (l.map D.int)]⟩=.next ⟨moR c n w rest span (some (.int (k:Int))) (some (.int v)),[.lst (l.map D.int)]⟩/\Sz 50 v:=by
  cases w with
  | true=>
   refine⟨(p-3)*(c%1000000000000)+cf c (30+(k:Int)) 2000-1000,lu (cZ (ag rfl)) rfl (bu (aI (aI (aI (ag rfl) (aI (ag rfl) (aI (aD _ _) (aD _ _) ud) (gc (by decide))) (cO (fj (.inl (by omega))))) (gs (ag rfl) (aI (aD _ _) (ag rfl) (bT _ _)) (aD _ _) (by decide)) (bT _ _)) (aD _ _) (nW _ _)) rfl), ?_⟩
   generalize cf c (30+(k:Int)) 2000=q at q0 q1
   generalize c%1000000000000=m at m0 m1
   have hp:p=0\/p=1\/p=2\/p=3\/p=4\/p=5\/p=6:=by omega
   unfold Sz
   rcases hp with rfl | rfl | rfl | rfl | rfl | rfl | rfl <;> omega
  | false=>exact⟨p-3,dN (cZ (ag rfl)) rfl (cj _),by unfold Sz;omega⟩
 obtain⟨v,e8,zv⟩:=e8
 have e9:∃Y J,ifS (o8 (bc (ak eqD (ak gM (aa 0) (aq (.int 2))) (aq (.int 1)))) (bc (ak gtD (aa 4) (aq (.int 0))))) (aN (setM 7 (ak jA (ak gM (aa 4) (aa 5)) (ak iy (aa 5) (aq (.int 2))))) (setM 4 (ak iy (aa 4) (aa 5)))) bU ⟨moR c n w rest span (some (.int (k:Int))) (some (.int v)),[.lst (l.map D.int)]⟩=.next ⟨moR c n w J span (some (.int (k:Int))) (some (.int Y)),[.lst (l.map D.int)]⟩/\Sz 50 Y:=by
  have t1:bc (ak eqD (ak gM (aa 0) (aq (.int 2))) (aq (.int 1))) ⟨moR c n w rest span (some (.int (k:Int))) (some (.int v)),[.lst (l.map D.int)]⟩=.ok (decide (c%2=1),⟨moR c n w rest span (some (.int (k:Int))) (some (.int v)),[.lst (l.map D.int)]⟩):=eq_test (aI (ag rfl) (aD _ _) (gc (by decide)))
  have t2:bc (ak gtD (aa 4) (aq (.int 0))) ⟨moR c n w rest span (some (.int (k:Int))) (some (.int v)),[.lst (l.map D.int)]⟩=.ok (decide (0<rest),⟨moR c n w rest span (some (.int (k:Int))) (some (.int v)),[.lst (l.map D.int)]⟩):=i6 (ag rfl)
  have ta:=yj t1 t2
  cases hb:(decide (c%2=1)&&decide (0<rest)) with
  | true=>
   refine⟨rest%span-span/2,rest/span,lu ta hb (aT (bu (aI (aI (ag rfl) (ag rfl) (gc (by omega))) (aI (ag rfl) (aD _ _) (r9 (by decide))) (nW _ _)) rfl) (bu (aI (ag rfl) (ag rfl) (r9 (by omega))) rfl)), ?_⟩
   have r0:0<=rest%span:=Tw _ (by omega)
   have r1:rest%span<span:=Tf _ (by omega)
   unfold Sz
   omega
  | false=>exact⟨v,rest,dN ta hb (cj _),zv⟩
 obtain⟨Y,J,e9,am⟩:=e9
 refine⟨Y,J, ?_,am⟩
 rw[nk]
 refine aT e7 (aT e8 (aT e9 (cK (mz (ag rfl) rfl (ag rfl) rfl (by simp;omega) ?_))))
 rw[SG];rfl
theorem LN(c:Int){n:Nat}(w:Bool)(hn:n<=100):∃l:List Int,lJ [.int c,.int (n:Int),.bl w] []=.ok (.ptr 0,[.lst (l.map D.int)])/\l.length=n/\SzL 50 l:=by
 obtain⟨J,hsp,s0,s1⟩:∃J:Int,(if w=true then 2000000000001 else 7)=J/\7<=J/\J<=2000000000001:=⟨_,rfl,by split <;> decide,by split <;> decide⟩
 have e5:setM 5 (ak ixD (jy (ae (aq (.int 7)) (ae (ak bt (ak cF (aq (.int 2)) (ak sr (aq (.int 10)) (aq (.int 12)))) (aq (.int 1))) ao))) (bf intOf (ae (aa 2) ao))) ⟨[some (.int c),some (.int (n:Int)),some (.bl w),some (.ptr 0),some (.int (c/2)),none,none,none],[.lst []]⟩=.next ⟨moR c n w (c/2) J none none,[.lst []]⟩:=by
  refine bu (aI (qD (ax (aD _ _) (ax (aI (aI (aD _ _) (aI (aD _ _) (aD _ _) ud) (cO (fj (.inl (by decide))))) (aD _ _) (bT _ _)) (ay _))) (by simp)) (dq (ax (ag rfl) (ay _)) (wQ _)) ?_) rfl
  subst hsp
  cases w <;> rfl
 obtain⟨s',el,l,rest,x6,Y,hl,hz,ac⟩:=eN (ok:=okC (dw 0 (n:Int)) none) (g:=aE 6) (body:=nk)
  (λpre s=>∃(l:List Int) (rest:Int) (x6 Y:Option D),l.length=pre.length/\SzL 50 l/\s=⟨moR c n w rest J x6 Y,[.lst (l.map D.int)]⟩) (λ_ _ _=>trivial) (dw 0 (n:Int)) [] (by
   rintro pre d rest ed s ⟨l,r,x6,Y,h1,h2,rfl⟩
   rw[SE,fL] at ed
   obtain⟨rfl,az⟩:=oI ed
   obtain⟨v,r',eb,zv⟩:=HI (c:=c) (n:=n) (k:=pre.length) (w:=w) (rest:=r) (span:=J) (l:=l) (x7:=Y) s0 s1 (by omega)
   refine⟨_,_,rfl,.inl eb,l++[v],r',_,_,by simp[h1],λz hz=> ?_,rfl⟩
   rcases Sy.mp hz with q | q
   ·exact h2 z q
   ·rw[Sv.mp q];exact zv) ⟨moR c n w (c/2) J none none,[.lst []]⟩ ⟨[],_,none,none,rfl,(λ_ h=>by cases h),rfl⟩
 rw[SE,iA] at hl
 refine⟨l, ?_,by omega,hz⟩
 refine eM (R:=moR c n w rest J x6 Y) ?_
 show nj ⟨[some (.int c),some (.int (n:Int)),some (.bl w),none,none,none,none,none],[]⟩=_
 rw[nj]
 refine aT (bu (oQ (ay _) (by simp) rfl rfl) rfl) (aT (bu (aI (ag rfl) (aD _ _) (r9 (by decide))) rfl) (aT e5 (aT ?_ (bW (ag rfl)))))
 exact(dh (ds:=dw 0 (n:Int)) (k:=none) (s1:=⟨moR c n w (c/2) J none none,[.lst []]⟩) (dW (n:=n) (ax (ag rfl) (ay _)) (by omega))).trans (el.trans (by rw[ac]))
theorem yV:∀(a b:List Int),a.length=b.length->((Sg b.length).map λk=>nth a k*nth b k).sum=aO a b
 | [],[],_=>rfl
 | x::a,y::b,h=>by
  have J:=yV a b (by simpa using h)
  rw[Ss,UJ,Sm,So,Va]
  show x*y+((Sg b.length).map λk=>nth a k*nth b k).sum=(x*y::Tq (· * ·) a b).sum
  rw[J,Va]
  rfl
theorem M3{ma mb:EM}{s s1:S}{R:List (Option D)}{O O':aC}{x y:D}{a b:List D}{k:Nat}(h1:ma s=.ok (x,s1))(h2:mb s1=.ok (y,⟨R,O⟩))(ha:lsD O x=some a)(hb:lsD O y=some b)(Y:a.length+b.length<=1000000)(hk:O.length=k)(J:O++[.lst (a++b)]=O'):A6 ma mb s=.ok (.ptr k,⟨R,O'⟩):=by
 unfold A6
 rw[h1,aj]
 dsimp only
 rw[h2,aj]
 dsimp only
 rw[ha,hb]
 dsimp only
 rw[if_pos (by omega),hk,J]
def mx(A:List (List Int))(way:List Int)(n:Nat):List Int:=(Sg n).map λg=>((Sg A.length).map λk=>nth way k*nth (A.getD k []) g).sum
theorem FO(n:Nat)(f:Nat->Int):((Sg n).map f).sum=eH n f:=by
 induction n with
 | zero=>rfl
 | succ n J=>rw[Wn,SG,Wo,J];simp[eH]
theorem IZ{A:List (List Int)}{way:List Int}{n g:Nat}(J:g<n):nth (mx A way n) g=eW way A g:=by
 unfold mx eW
 rw[<- FO]
 unfold nth
 rw[R6,SF,VN J]
 rfl
theorem BN(A:List (List Int))(way:List Int)(n:Nat):(mx A way n).length=n:=by unfold mx;simp
theorem Jy{A:List (List Int)}{way:List Int}{n c:Nat}(ha:A.length<=1000)(lw:way.length=A.length)(J:SzL 2 way)(Y:gP c A):SzL (c+12) (mx A way n):=λx hx=>by
 unfold mx at hx
 obtain⟨g,_,rfl⟩:=Su.mp hx
 have l1:way.length=(A.map (nth · g)).length:=by simp[lw]
 have:=yV way (A.map (nth · g)) l1
 rw[show (A.map (nth · g)).length=A.length by simp] at this
 rw[show (Sg A.length).map (λk=>nth way k*nth (A.getD k []) g)=(Sg A.length).map (λk=>nth way k*nth (A.map (nth · g)) k) from Uz λk _=>by rw[vO],this]
 refine(xO (b:=c) (c:=2) J (λz hz=> ?_) (by omega)).mono (by omega)
 obtain⟨l,hl,rfl⟩:=Su.mp hz
 exact(Y l hl).nth _
theorem He{A:List (List Int)}{way:List Int}{n c ia iw i2:Nat}{s:S}{dm:D}(h4:s.r[ia]? =some (some dm))(h8:s.r[iw]? =some (some (vI way)))(h2:s.r[i2]? =some (some (.int (n:Int))))(ix:∀k,k<A.length->ixD s.o dm (.int (k:Int))=.ok (vI (A.getD k [])))(ln:bO s.o [dm]=.ok (.int (A.length:Int)))(hn:n<=1000)(ha:A.length<=1000)(la:∀l∈A,l.length=n)(lw:way.length=A.length)(zw:SzL 2 way)(zA:gP c A)(hc:c<=60000000):
 bR 1 [ia,iw] (du (ae (aa i2) ao)) (aE 0) bV (bf ui (ae (bR 1 [0,1,2] (du (ae (bf bO (ae (aa 1) ao)) ao)) (aE 0) bV (ak cF (ak ixD (aa 3) (aa 0)) (ak ixD (ak ixD (aa 2) (aa 0)) (aa 1)))) ao)) s=.ok (vI (mx A way n),s):=by
 have J:∀g,g<n->bf ui (ae (bR 1 [0,1,2] (du (ae (bf bO (ae (aa 1) ao)) ao)) (aE 0) bV (ak cF (ak ixD (aa 3) (aa 0)) (ak ixD (ak ixD (aa 2) (aa 0)) (aa 1)))) ao) ⟨[some (.int (g:Int)),some dm,some (vI way)],s.o⟩=.ok (.int ((Sg A.length).map λk=>nth way k*nth (A.getD k []) g).sum,⟨[some (.int (g:Int)),some dm,some (vI way)],s.o⟩):=λg hg=>by
  have e:=dJ (l:=Sg A.length) (item:=λi:Nat=>D.int (i:Int)) (out:=λk=>.int (nth way k*nth (A.getD k []) g)) (caps:=[0,1,2]) (im:=du (ae (bf bO (ae (aa 1) ao)) ao)) (e:=ak cF (ak ixD (aa 3) (aa 0)) (ak ixD (ak ixD (aa 2) (aa 0)) (aa 1))) (k:=none) (s:=⟨[some (.int (g:Int)),some dm,some (vI way)],s.o⟩) (by
   rw[<- fL]
   exact dW (ax (dq (ax (ag rfl) (ay _)) ln) (ay _)) (by omega)) trivial (by simp;omega) (λk hk=>by
    have Y:=S3.mp hk
    have hm:A.getD k []∈A:=getD_mem Y
    exact aI (aI (ag rfl) (ag rfl) (mr (by omega))) (aI (aI (ag rfl) (ag rfl) (ix k Y)) (ag rfl) (mr (by rw[la _ hm];exact hg))) (cO (ig (m:=2) (n:=c) (by decide) hc (zw.nth _) ((zA _ hm).nth _))))
  rw[show (Sg A.length).map (λk=>D.int (nth way k*nth (A.getD k []) g))=((Sg A.length).map λk=>nth way k*nth (A.getD k []) g).map D.int by rw[So];rfl] at e
  exact dq (ax e (ay _)) (uh _ _)
 have e:=dJ (l:=Sg n) (item:=λi:Nat=>D.int (i:Int)) (out:=λg=>.int ((Sg A.length).map λk=>nth way k*nth (A.getD k []) g).sum) (caps:=[ia,iw]) (im:=du (ae (aa i2) ao)) (e:=bf ui (ae (bR 1 [0,1,2] (du (ae (bf bO (ae (aa 1) ao)) ao)) (aE 0) bV (ak cF (ak ixD (aa 3) (aa 0)) (ak ixD (ak ixD (aa 2) (aa 0)) (aa 1)))) ao)) (k:=none) (s:=s) (by
  rw[<- fL]
  exact dW (ax (ag h2) (ay _)) (by omega)) trivial (by simp;omega) (λg hg=>by
   rw[show [ia,iw].map (λi=>(s.r[i]?).getD none)=[some dm,some (vI way)] by simp[h4,h8]]
   exact J g (S3.mp hg))
 rw[show (Sg n).map (λg=>D.int ((Sg A.length).map λk=>nth way k*nth (A.getD k []) g).sum)=(mx A way n).map D.int by unfold mx;rw[So];rfl] at e
 exact e
theorem Ja{w:List Int}{A:List (List Int)}{m:List Int}{g:Nat}(h:w.length<=A.length):eW w (A++[m]) g=eW w A g:=by
 unfold eW
 rw[SH,SN]
 show eH A.length _+_=_
 dsimp only
 rw[dO h,TU,VU]
 exact fF λj J=>by rw[R6,Sw J,<- R6]
theorem yK(a:Int)(w:List Int)(z:List Int)(A:List (List Int))(g:Nat):eW (a::w) (z::A) g=a*nth z g+eW w A g:=by
 unfold eW
 rw[Ss,Hu]
 rfl
theorem Jh{w v:List Int}{A:List (List Int)}{g:Nat}(h:∀j,nth v j=nth w j):eW v A g=eW w A g:=by
 unfold eW
 exact fF λj _=>by rw[h j]
theorem LF(w:List Int)(m j:Nat):nth (w++Sb m 0) j=nth w j:=by
 unfold nth
 rw[R6,R6]
 rcases Nat.lt_or_ge j w.length with h | h
 ·rw[Sw h]
 ·rw[Sj h,Ur h,SV]
  split <;> rfl
structure Kp(n:Nat)(A:List (List Int))(w:List Int):Prop where
 le:w.length<=A.length
 lo:∀t∈w,0<=t/\t<=2
 bal:∀g,g<n->eW w A g=0
structure MvI(n c:Nat)(A W:List (List Int)):Prop where
 len:∀l∈A,l.length=n
 sz:gP c A
 ws:∀w∈W,Kp n A w
theorem MvI.more{n c c':Nat}{A W:List (List Int)}{m:List Int}(h:MvI n c A W)(hm:m.length=n)(zm:SzL c' m)(hc:c<=c'):MvI n c' (A++[m]) W:=
 ⟨λl Y=>by
  rcases Sy.mp Y with q | q
  ·exact h.len l q
  ·rw[Sv.mp q];exact hm,λl Y=>by
  rcases Sy.mp Y with q | q
  ·exact(h.sz l q).mono hc
  ·rw[Sv.mp q];exact zm,λw J=>⟨by have:=(h.ws w J).le;simp;omega,(h.ws w J).lo,λg hg=>by rw[Ja (h.ws w J).le];exact(h.ws w J).bal g hg⟩⟩
theorem MvI.close{n c:Nat}{A W:List (List Int)}{way:List Int}(h:MvI n c A W)(lw:way.length=A.length)(Y:∀t∈way,0<=t/\t<=2)(ha:A.length<=1000):MvI n (c+12) (A++[(mx A way n).map (- ·)]) (W++[way++[1]]):=by
 have zw:SzL 2 way:=λt J=>by have:=Y t J;unfold Sz;omega
 have base:=h.more (m:=(mx A way n).map (- ·)) (c':=c+12) (by rw[R9,BN]) (λx hx=>by
  obtain⟨y,hy,rfl⟩:=Su.mp hx
  exact(Jy ha lw zw h.sz y hy).neg) (by omega)
 refine⟨base.len,base.sz,λw hw=> ?_⟩
 rcases Sy.mp hw with q | q
 ·exact base.ws w q
 ·rw[Sv.mp q]
  refine⟨by simp[lw],λt J=> ?_,λg hg=> ?_⟩
  ·rcases Sy.mp J with z | z
   ·exact Y t z
   ·rw[Sv.mp z];decide
  ·rw[EU lw,rm (f:=(- ·)) (by simp),IZ hg]
   omega
theorem MvI.zero{n c:Nat}{A W:List (List Int)}(h:MvI n c A W):MvI n c (Sb n 0::A) (W.map (0:: ·)++[[1]]):=by
 have z0:∀g,nth (Sb n (0:Int)) g=0:=λg=>by
  unfold nth
  rw[R6,SV]
  split <;> rfl
 refine⟨λl Y=> ?_,λl Y=> ?_,λw hw=> ?_⟩
 ·rcases SA.mp Y with rfl | q
  ·simp
  ·exact h.len l q
 ·rcases SA.mp Y with rfl | q
  ·intro x hx
   rw[(UE.mp hx).2]
   exact Sz.zero _
  ·exact h.sz l q
 ·rcases Sy.mp hw with q | q
  ·obtain⟨v,hv,rfl⟩:=Su.mp q
   have J:=h.ws v hv
   refine⟨by have:=J.le;simp;omega,λt ht=> ?_,λg hg=> ?_⟩
   ·rcases SA.mp ht with rfl | z
    ·decide
    ·exact J.lo t z
   ·rw[yK,TU,J.bal g hg];rfl
  ·rw[Sv.mp q]
   refine⟨by simp,λt ht=>by rw[Sv.mp ht];decide,λg hg=> ?_⟩
   rw[yK,z0,Vu]
   unfold eW
   rw[mS λj _=> ?_]
   ·rfl
   ·rw[dO (by simp),TU]
abbrev mvR(ns:List Int)(b n:Nat)(hd:Int)(w:Bool)(x6 x7 x8 x9:Option D):List (Option D):=[some (vI ns),some (.int (b:Int)),some (.int (n:Int)),some (.int hd),some (.ptr 0),some (.bl w),x6,x7,x8,x9]
theorem Je{ns:List Int}{b n k:Nat}{hd:Int}{w:Bool}{A:List (List Int)}{O:aC}{x7 x8 x9:Option D}(hn:n<=100)(Y:O[0]? =some (.lst (A.map vI)))(al:A.length<=1000):
 ∃l O',jJ ⟨mvR ns b n hd w (some (.int (k:Int))) x7 x8 x9,O⟩=.next ⟨mvR ns b n hd w (some (.int (k:Int))) x7 x8 x9,O'⟩/\O'[0]? =some (.lst ((A++[l]).map vI))/\l.length=n/\SzL 50 l:=by
 obtain⟨c,ec,_⟩:=vf ns (b+1+k)
 have hc:aQ 2 dg (ae (aa 0) (ae (ak bt (ak bt (aa 1) (aq (.int 1))) (aa 6)) ao)) ⟨mvR ns b n hd w (some (.int (k:Int))) x7 x8 x9,O⟩=.ok (.int c,⟨mvR ns b n hd w (some (.int (k:Int))) x7 x8 x9,O⟩):=by
  refine dE (O1:=[]) (ax (ag rfl) (ax (aI (aI (ag rfl) (aD _ _) (bT _ _)) (ag rfl) (bT _ _)) (ay _))) ?_ (by simp) rfl rfl
  rw[show (b:Int)+1+(k:Int)=((b+1+k:Nat):Int) by omega]
  exact ec
 obtain⟨l,em,ll,lz⟩:=LN (c+13*(k:Int)) w hn
 have e8:dY 3 lJ (ae (ak bt (aQ 2 dg (ae (aa 0) (ae (ak bt (ak bt (aa 1) (aq (.int 1))) (aa 6)) ao))) (ak cF (aq (.int 13)) (aa 6))) (ae (aa 2) (ae (aa 5) ao))) ⟨mvR ns b n hd w (some (.int (k:Int))) x7 x8 x9,O⟩=.ok (.ptr O.length,⟨mvR ns b n hd w (some (.int (k:Int))) x7 x8 x9,O++[.lst (l.map D.int)]⟩):=by
  refine i3 (ax (aI hc (aI (aD _ _) (ag rfl) (cO (fj (.inl (by decide))))) (bT _ _)) (ax (ag rfl) (ax (ag rfl) (ay _)))) em rfl rfl (iD _ _) ?_
  simp only[Sm,S5,pS,qE]
 have J:O.length≠0:=by have:=qf Y;omega
 have c8:(O++[Cell.lst (l.map D.int)])[O.length]? =some (.lst (l.map D.int)):=mT
 have g8:(O++[Cell.lst (l.map D.int)])[0]? =some (.lst (A.map vI)):=fO Y
 generalize O++[Cell.lst (l.map D.int)]=O1 at e8 c8 g8
 generalize O.length=kk at e8 c8 J
 refine⟨l,(O1.set kk .dead).set 0 (.lst (A.map vI++[vI l])), ?_,(by rw[SG];exact fH (c':=.lst (A.map vI)) (by rw[cS J];exact g8)),ll,lz⟩
 rw[jJ]
 exact cK (mz (ag rfl) Y (pJ e8 c8 rfl) (by rw[cS J];exact g8) (by simp;omega) rfl)
theorem Jj{O:aC}{k:Nat}{A:List (List Int)}(h:O[k]? =some (.lst (A.map vI))){i:Nat}(hi:i<A.length):ixD O (.ptr k) (.int (i:Int))=.ok (vI (A.getD i [])):=by
 refine uo h ?_
 rw[n5 (by simpa using hi)]
 simp[R6,hi]
theorem Ie{ns:List Int}{b n k J c:Nat}{hd:Int}{w:Bool}{A W:List (List Int)}{O:aC}{x8 x9:Option D}(hn:n<=100)(al:A.length<=100)(wl:W.length<=100)(hc:c<=1000)(h:MvI n c A W)(hO:O[0]? =some (.lst (A.map vI)))(hF:O[J]? =some (.lst (W.map vI)))(k0:J≠0):
 ∃m v O' y8 y9,jM ⟨mvR ns b n hd w (some (.int (k:Int))) (some (.ptr J)) x8 x9,O⟩=.next ⟨mvR ns b n hd w (some (.int (k:Int))) (some (.ptr J)) y8 y9,O'⟩/\MvI n (c+12) (A++[m]) (W++[v])/\O'[0]? =some (.lst ((A++[m]).map vI))/\O'[J]? =some (.lst ((W++[v]).map vI)):=by
 have ln:bO O [.ptr 0]=.ok (.int (A.length:Int)):=by rw[su hO,R9]
 have ew:=dJ (l:=Sg A.length) (item:=λi:Nat=>D.int (i:Int)) (out:=λi=>.int (cf hd (50+7*(k:Int)+(i:Int)) 4%3)) (caps:=[3,6]) (im:=du (ae (bf bO (ae (aa 4) ao)) ao)) (e:=ak gM (aQ 3 aL (ae (aa 1) (ae (ak bt (ak bt (aq (.int 50)) (ak cF (aq (.int 7)) (aa 2))) (aa 0)) (ae (aq (.int 4)) ao)))) (aq (.int 3))) (k:=none) (s:=⟨mvR ns b n hd w (some (.int (k:Int))) (some (.ptr J)) x8 x9,O⟩) (by
  rw[<- fL]
  exact dW (ax (dq (ax (ag rfl) (ay _)) ln) (ay _)) (by omega)) trivial (by simp;omega) (λi _=>aI (gs (ag rfl) (aI (aI (aD _ _) (aI (aD _ _) (ag rfl) (cO (fj (.inl (by decide))))) (bT _ _)) (ag rfl) (bT _ _)) (aD _ _) (by decide)) (aD _ _) (gc (by decide)))
 rw[show (Sg A.length).map (λi:Nat=>D.int (cf hd (50+7*(k:Int)+(i:Int)) 4%3))=((Sg A.length).map λi:Nat=>cf hd (50+7*(k:Int)+(i:Int)) 4%3).map D.int by rw[So];rfl] at ew
 have lw:((Sg A.length).map λi:Nat=>cf hd (50+7*(k:Int)+(i:Int)) 4%3).length=A.length:=by simp
 have w0:∀t∈(Sg A.length).map (λi:Nat=>cf hd (50+7*(k:Int)+(i:Int)) 4%3),0<=t/\t<=2:=λt ht=>by
  obtain⟨i,_,rfl⟩:=Su.mp ht
  have h1:=Tw (cf hd (50+7*(k:Int)+(i:Int)) 4) (show (3:Int)≠0 by decide)
  have h2:=Tf (cf hd (50+7*(k:Int)+(i:Int)) 4) (show (0:Int)<3 by decide)
  exact⟨h1,by omega⟩
 generalize (Sg A.length).map (λi:Nat=>cf hd (50+7*(k:Int)+(i:Int)) 4%3)=way at ew lw w0
 have zw:SzL 2 way:=λt ht=>by have:=w0 t ht;unfold Sz;omega
 have el:=He (A:=A) (way:=way) (n:=n) (c:=c) (ia:=4) (iw:=8) (i2:=2) (s:=⟨mvR ns b n hd w (some (.int (k:Int))) (some (.ptr J)) (some (vI way)) x9,O⟩) (dm:=.ptr 0) rfl rfl rfl (λi hi=>Jj hO hi) ln (by omega) (by omega) h.len lw zw h.sz (by omega)
 have cl:=h.close lw w0 (by omega)
 have ll:=BN A way n
 generalize mx A way n=Y at el cl ll
 have en:=dJ (l:=Y) (item:=D.int) (out:=λx=>.int (-x)) (caps:=[]) (im:=listI (aa 9)) (e:=unM mI (aa 0)) (k:=none) (s:=⟨mvR ns b n hd w (some (.int (k:Int))) (some (.ptr J)) (some (vI way)) (some (vI Y)),O⟩) (by rw[cJ,ag (i:=9) rfl,aj];rfl) trivial (by omega) (λx _=>uc (ag rfl) (sE _))
 rw[show Y.map (λx=>D.int (-x))=(Y.map (- ·)).map D.int by rw[So];rfl] at en
 have gF:(O.set 0 (.lst (A.map vI++[vI (Y.map (- ·))])))[J]? =some (.lst (W.map vI)):=by rw[cS (λz=>k0 z.symm)];exact hF
 have g0:(O.set 0 (.lst (A.map vI++[vI (Y.map (- ·))])))[0]? =some (.lst ((A++[Y.map (- ·)]).map vI)):=by rw[SG];exact fH hO
 have ea:de (ip (aa 4) (bR 1 [] (listI (aa 9)) (aE 0) bV (unM mI (aa 0)))) ⟨mvR ns b n hd w (some (.int (k:Int))) (some (.ptr J)) (some (vI way)) (some (vI Y)),O⟩=.next ⟨mvR ns b n hd w (some (.int (k:Int))) (some (.ptr J)) (some (vI way)) (some (vI Y)),O.set 0 (.lst (A.map vI++[vI (Y.map (- ·))]))⟩:=cK (mz (ag rfl) hO en hO (by simp;omega) rfl)
 generalize O.set 0 (.lst (A.map vI++[vI (Y.map (- ·))]))=O1 at ea gF g0
 have ef:de (ip (aa 7) (ak bt (aa 8) (jy (ae (aq (.int 1)) ao)))) ⟨mvR ns b n hd w (some (.int (k:Int))) (some (.ptr J)) (some (vI way)) (some (vI Y)),O1⟩=.next ⟨mvR ns b n hd w (some (.int (k:Int))) (some (.ptr J)) (some (vI way)) (some (vI Y)),O1.set J (.lst (W.map vI++[vI (way++[1])]))⟩:=by
  refine cK (mz (ag rfl) gF (aI (ag rfl) (qD (ax (aD _ _) (ay _)) (by simp)) (d:=vI (way++[1])) ?_) gF (by simp;omega) rfl)
  rw[sJ (by simp;omega)]
  exact congrArg (λz=>Res.ok (D.lst z)) (by rw[SG];rfl)
 refine⟨Y.map (- ·),way++[1],O1.set J (.lst (W.map vI++[vI (way++[1])])),some (vI way),some (vI Y), ?_,cl,by rw[cS k0];exact g0,by rw[SG];exact fH gF⟩
 rw[jM]
 exact aT (bu (R':=mvR ns b n hd w (some (.int (k:Int))) (some (.ptr J)) (some (vI way)) x9) ew rfl) (aT (bu (R':=mvR ns b n hd w (some (.int (k:Int))) (some (.ptr J)) (some (vI way)) (some (vI Y))) el rfl) (aT ea ef))
theorem Ho{R:List (Option D)}{O:aC}{i k:Nat}{ds:List D}(J:R[i]? =some (some (.ptr k)))(Y:O[k]? =some (.lst ds)):bc (nH ltD ltD (aq (.int 0)) (bf bO (ae (aa i) ao)) (aq (.int 6))) ⟨R,O⟩=.ok (decide (0<ds.length)&&decide (ds.length<6),⟨R,O⟩):=by
 have el:bf bO (ae (aa i) ao) ⟨R,O⟩=.ok (.int (ds.length:Int),⟨R,O⟩):=dq (ax (ag J) (ay _)) (su Y)
 have e:nH ltD ltD (aq (.int 0)) (bf bO (ae (aa i) ao)) (aq (.int 6)) ⟨R,O⟩=.ok (.bl (decide (0<ds.length)&&decide (ds.length<6)),⟨R,O⟩):=by
  rw[yW,aD,aj]
  dsimp only
  rw[el,aj]
  dsimp only
  rw[ji,aj]
  by_cases h:0<ds.length
  ·rw[decide_eq_true (show (0:Int)<(ds.length:Int) by omega),decide_eq_true h]
   dsimp only
   rw[aD,aj]
   dsimp only
   rw[ji,aj,Uy]
   congr 3
   exact decide_eq_decide.mpr (by omega)
  ·rw[decide_eq_false (show ¬(0:Int)<(ds.length:Int) by omega),decide_eq_false h]
   rfl
 exact cZ e
theorem HP(ns:List Int)(b:Nat){n:Nat}(hn:n<=100):∃(A W:List (List Int)) (O:aC) (Y:Nat),gY [vI ns,.int (b:Int),.int (n:Int)] []=.ok (.tup [.ptr 0,.ptr Y],O)/\O[0]? =some (.lst (A.map vI))/\O[Y]? =some (.lst (W.map vI))/\Y≠0/\MvI n 90 A W/\A.length<=6/\(∀w∈W,w.length=A.length)/\W.length<=4:=by
 obtain⟨hd,eh,_⟩:=vf ns b
 have e3:setM 3 (aQ 2 dg (ae (aa 0) (ae (aa 1) ao))) ⟨[some (vI ns),some (.int (b:Int)),some (.int (n:Int)),none,none,none,none,none,none,none],[]⟩=.next ⟨[some (vI ns),some (.int (b:Int)),some (.int (n:Int)),some (.int hd),none,none,none,none,none,none],[]⟩:=bu (dE (ax (ag rfl) (ax (ag rfl) (ay _))) eh (by simp) rfl rfl) rfl
 have e5:setM 5 (ak eqD (aQ 3 aL (ae (aa 3) (ae (aq (.int 41)) (ae (aq (.int 6)) ao)))) (aq (.int 0))) ⟨[some (vI ns),some (.int (b:Int)),some (.int (n:Int)),some (.int hd),some (.ptr 0),none,none,none,none,none],[.lst []]⟩=.next ⟨mvR ns b n hd (decide (cf hd 41 6=0)) none none none none,[.lst []]⟩:=bu (aI (gs (ag rfl) (aD _ _) (aD _ _) (by decide)) (aD _ _) (nX _ _)) rfl
 generalize decide (cf hd 41 6=0)=w at e5
 obtain⟨cnt,hcnt,c4⟩:∃cnt:Nat,cf hd 40 5%(5-2*(if w=true then 1 else 0))=(cnt:Int)/\cnt<=4:=by
  have h0:(0:Int)<5-2*(if w=true then 1 else 0):=by split <;> decide
  have h6:(5:Int)-2*(if w=true then 1 else 0)<=5:=by split <;> decide
  generalize (5:Int)-2*(if w=true then 1 else 0)=m at h0 h6
  have r0:=Tw (cf hd 40 5) (show m≠0 by omega)
  have r1:=Tf (cf hd 40 5) h0
  exact⟨(cf hd 40 5%m).toNat,by omega,by omega⟩
 obtain⟨s1,cm,A1,O1,x6,bn,b5,b6,co⟩:=eN (ok:=okC (dw 0 (cnt:Int)) none) (g:=aE 6) (body:=jJ)
  (λpre s=>∃(A:List (List Int)) (O:aC) (x6:Option D),A.length=pre.length/\(∀l∈A,l.length=n/\SzL 50 l)/\O[0]? =some (.lst (A.map vI))/\s=⟨mvR ns b n hd w x6 none none none,O⟩) (λ_ _ _=>trivial) (dw 0 (cnt:Int)) [] (by
   rintro pre d rest ed s ⟨A,O,x6,h1,h2,h3,rfl⟩
   rw[SE,fL] at ed
   obtain⟨rfl,as⟩:=oI ed
   obtain⟨l,O',eb,cs,ll,lz⟩:=Je (ns:=ns) (b:=b) (k:=pre.length) (hd:=hd) (w:=w) (x7:=none) (x8:=none) (x9:=none) hn h3 (by omega)
   refine⟨_,_,rfl,.inl eb,A++[l],O',_,by simp[h1],λz hz=> ?_,cs,rfl⟩
   rcases Sy.mp hz with q | q
   ·exact h2 z q
   ·rw[Sv.mp q];exact⟨ll,lz⟩) ⟨mvR ns b n hd w none none none none,[.lst []]⟩ ⟨[],[.lst []],none,rfl,(λ_ h=>by cases h),rfl,rfl⟩
 rw[SE,iA] at bn
 have bn:A1.length=cnt:=by omega
 have cu:eC (du (ae (ak gM (aQ 3 aL (ae (aa 3) (ae (aq (.int 40)) (ae (aq (.int 5)) ao)))) (ak jA (aq (.int 5)) (ak cF (aq (.int 2)) (bf intOf (ae (aa 5) ao))))) ao)) (aE 6) jJ ⟨mvR ns b n hd w none none none none,[.lst []]⟩=.next ⟨mvR ns b n hd w x6 none none none,O1⟩:=by
  refine(dh (ds:=dw 0 (cnt:Int)) (k:=none) (s1:=⟨mvR ns b n hd w none none none none,[.lst []]⟩) (dW (n:=cnt) ?_ (by omega))).trans (cm.trans (by rw[co]))
  rw[<- hcnt]
  refine ax (aI (gs (ag rfl) (aD _ _) (aD _ _) (by decide)) (aI (aD _ _) (aI (aD _ _) (dq (ax (ag rfl) (ay _)) (wQ _)) (cO (fj (.inl (by decide))))) (nW _ _)) (gc ?_)) (ay _)
  split <;> decide
 have e7:setM 7 (jG ao) ⟨mvR ns b n hd w x6 none none none,O1⟩=.next ⟨mvR ns b n hd w x6 (some (.ptr O1.length)) none none,O1++[.lst []]⟩:=bu (oQ (ay _) (by simp) rfl rfl) rfl
 have k0:O1.length≠0:=by have:=qf b6;omega
 have g0:(O1++[Cell.lst []])[0]? =some (.lst (A1.map vI)):=fO b6
 have gF:(O1++[Cell.lst []])[O1.length]? =some (.lst (([]:List (List Int)).map vI)):=mT
 generalize O1++[Cell.lst []]=O2 at e7 g0 gF
 generalize O1.length=Y at e7 gF k0
 obtain⟨J,hcnt2,c2⟩:∃J:Nat,cf hd 42 3/(1+(if w=true then 1 else 0))=(J:Int)/\J<=2:=by
  have p0:=jv (c:=hd) (t:=42) (m:=3) (by decide)
  have p1:=mF (c:=hd) (t:=42) (m:=3) (by decide)
  cases w with
  | true=>exact⟨(cf hd 42 3/(1+1)).toNat,by simp;omega,by omega⟩
  | false=>exact⟨(cf hd 42 3/(1+0)).toNat,by simp;omega,by omega⟩
 obtain⟨s3,cA,A3,W3,O3,y6,y8,y9,cB,cC,an,a6,b8,cW⟩:=eN (ok:=okC (dw 0 (J:Int)) none) (g:=aE 6) (body:=jM)
  (λpre s=>∃(A W:List (List Int)) (O:aC) (x6 x8 x9:Option D),A.length=cnt+pre.length/\W.length=pre.length/\MvI n (50+12*pre.length) A W/\O[0]? =some (.lst (A.map vI))/\O[Y]? =some (.lst (W.map vI))/\s=⟨mvR ns b n hd w x6 (some (.ptr Y)) x8 x9,O⟩) (λ_ _ _=>trivial) (dw 0 (J:Int)) [] (by
   rintro pre d rest ed s ⟨A,W,O,x6,x8,x9,h1,h2,h3,h4,h5,rfl⟩
   rw[SE,fL] at ed
   obtain⟨rfl,as⟩:=oI ed
   obtain⟨m,v,O',y8,y9,eb,mv,c0,c3⟩:=Ie (ns:=ns) (b:=b) (k:=pre.length) (hd:=hd) (w:=w) (x8:=x8) (x9:=x9) hn (by omega) (by omega) (by omega) h3 h4 h5 k0
   refine⟨_,_,rfl,.inl eb,A++[m],W++[v],O',_,_,_,by simp[h1];omega,by simp[h2], ?_,c0,c3,rfl⟩
   rw[SH,SN]
   exact mv) ⟨mvR ns b n hd w x6 (some (.ptr Y)) none none,O2⟩ ⟨A1,[],O2,_,_,_,by simp[bn],rfl,⟨λl hl=>(b5 l hl).1,λl hl=>(b5 l hl).2,λ_ h=>by cases h⟩,g0,gF,rfl⟩
 rw[SE,iA] at cB cC an
 have an:MvI n 90 A3 W3:=⟨an.len,λl hl=>(an.sz l hl).mono (by omega),an.ws⟩
 have c5:eC (du (ae (ak iy (aQ 3 aL (ae (aa 3) (ae (aq (.int 42)) (ae (aq (.int 3)) ao)))) (ak bt (aq (.int 1)) (bf intOf (ae (aa 5) ao)))) ao)) (aE 6) jM ⟨mvR ns b n hd w x6 (some (.ptr Y)) none none,O2⟩=.next ⟨mvR ns b n hd w y6 (some (.ptr Y)) y8 y9,O3⟩:=by
  refine(dh (ds:=dw 0 (J:Int)) (k:=none) (s1:=⟨mvR ns b n hd w x6 (some (.ptr Y)) none none,O2⟩) (dW (n:=J) ?_ (by omega))).trans (cA.trans (by rw[cW]))
  rw[<- hcnt2]
  refine ax (aI (gs (ag rfl) (aD _ _) (aD _ _) (by decide)) (aI (aD _ _) (dq (ax (ag rfl) (ay _)) (wQ _)) (bT _ _)) (r9 ?_)) (ay _)
  split <;> decide
 have a3:A3.length<=6:=by omega
 have w3:W3.length<=3:=by omega
 have pk:∀(t:Int) (x7 x8 x9:Option D) (O:aC),bc (ak eqD (aQ 3 aL (ae (aa 3) (ae (aq (.int t)) (ae (aq (.int 5)) ao)))) (aq (.int 0))) ⟨mvR ns b n hd w y6 x7 x8 x9,O⟩=.ok (decide (cf hd t 5=0),⟨mvR ns b n hd w y6 x7 x8 x9,O⟩):=λt x7 x8 x9 O=>eq_test (gs (ag rfl) (aD _ _) (aD _ _) (by decide))
 have c7:∃(A W:List (List Int)) (O:aC) (kg:Nat),ifS (o8 (bc (ak eqD (aQ 3 aL (ae (aa 3) (ae (aq (.int 43)) (ae (aq (.int 5)) ao)))) (aq (.int 0)))) (bc (ak ltD (bf bO (ae (aa 4) ao)) (aq (.int 6))))) (aN (de (u6 (aa 4) (bR 1 [] (du (ae (aa 2) ao)) (aE 0) bV (aq (.int 0))))) (setM 7 (A6 (bR 1 [] (listI (aa 7)) (aE 0) bV (ak bt (jy (ae (aq (.int 0)) ao)) (aa 0))) (jy (ae (jy (ae (aq (.int 1)) ao)) ao))))) bU ⟨mvR ns b n hd w y6 (some (.ptr Y)) y8 y9,O3⟩=.next ⟨mvR ns b n hd w y6 (some (.ptr kg)) y8 y9,O⟩/\MvI n 90 A W/\A.length<=6/\W.length<=4/\O[0]? =some (.lst (A.map vI))/\O[kg]? =some (.lst (W.map vI))/\kg≠0:=by
  have t2:bc (ak ltD (bf bO (ae (aa 4) ao)) (aq (.int 6))) ⟨mvR ns b n hd w y6 (some (.ptr Y)) y8 y9,O3⟩=.ok (decide (((A3.map vI).length:Int)<6),⟨mvR ns b n hd w y6 (some (.ptr Y)) y8 y9,O3⟩):=cZ (aI (dq (ax (ag rfl) (ay _)) (su a6)) (aD _ _) (ji _ _))
  have ta:=yj (pk 43 (some (.ptr Y)) y8 y9 O3) t2
  cases hb:(decide (cf hd 43 5=0)&&decide (((A3.map vI).length:Int)<6)) with
  | false=>exact⟨A3,W3,O3,Y,dN ta hb (cj _),an,a3,by omega,a6,b8,k0⟩
  | true=>
   have as:A3.length<6:=by
    have:=(To _ _▸hb).2
    rw[R9] at this
    have:=of_decide_eq_true this
    omega
   have ez:=dJ (l:=Sg n) (item:=λi:Nat=>D.int (i:Int)) (out:=λ_=>.int 0) (caps:=[]) (im:=du (ae (aa 2) ao)) (e:=aq (.int 0)) (k:=none) (s:=⟨mvR ns b n hd w y6 (some (.ptr Y)) y8 y9,O3⟩) (by
    rw[<- fL]
    exact dW (ax (ag rfl) (ay _)) (by omega)) trivial (by simp;omega) (λ_ _=>aD _ _)
   rw[show (Sg n).map (λ_=>D.int 0)=(Sb n (0:Int)).map D.int by rw[UF];simp[UW]] at ez
   have ei:de (u6 (aa 4) (bR 1 [] (du (ae (aa 2) ao)) (aE 0) bV (aq (.int 0)))) ⟨mvR ns b n hd w y6 (some (.ptr Y)) y8 y9,O3⟩=.next ⟨mvR ns b n hd w y6 (some (.ptr Y)) y8 y9,O3.set 0 (.lst (vI (Sb n (0:Int))::A3.map vI))⟩:=cK (Nf (ag rfl) a6 ez a6 (by simp;omega) rfl)
   have h0:(O3.set 0 (.lst (vI (Sb n (0:Int))::A3.map vI)))[0]? =some (.lst ((Sb n 0::A3).map vI)):=fH a6
   have hF:(O3.set 0 (.lst (vI (Sb n (0:Int))::A3.map vI)))[Y]? =some (.lst (W3.map vI)):=by rw[cS (λz=>k0 z.symm)];exact b8
   generalize O3.set 0 (.lst (vI (Sb n (0:Int))::A3.map vI))=O4 at ei h0 hF
   have ew:=dJ (l:=W3) (item:=vI) (out:=λv=>vI (0::v)) (caps:=[]) (im:=listI (aa 7)) (e:=ak bt (jy (ae (aq (.int 0)) ao)) (aa 0)) (k:=some Y) (s:=⟨mvR ns b n hd w y6 (some (.ptr Y)) y8 y9,O4⟩) (t8 (ag rfl) hF) hF (by omega) (λv hv=>by
    refine aI (qD (ax (aD _ _) (ay _)) (by simp)) (ag rfl) ?_
    rw[sJ (by have:=(an.ws v hv).le;simp;omega)]
    rfl)
   have el:=qf h0
   refine⟨Sb n 0::A3,W3.map (0:: ·)++[[1]],O4++[.lst ((W3.map (0:: ·)++[[1]]).map vI)],O4.length,lu ta hb (aT ei (bu (M3 (a:=W3.map λv=>vI (0::v)) (b:=[vI [1]]) ew (qD (ax (qD (ax (aD _ _) (ay _)) (by simp)) (ay _)) (by simp)) rfl rfl (by simp;omega) rfl ?_) rfl)),an.zero,by simp;omega,by simp;omega,fO h0,mT,by omega⟩
   rw[SG,So]
   rfl
 obtain⟨A4,W4,O4,kg,c9,bd,a4,w4,az,cb,db⟩:=c7
 have dd:∃(A:List (List Int)) (O:aC),ifS (o8 (bc (ak eqD (aQ 3 aL (ae (aa 3) (ae (aq (.int 44)) (ae (aq (.int 5)) ao)))) (aq (.int 0)))) (bc (nH ltD ltD (aq (.int 0)) (bf bO (ae (aa 4) ao)) (aq (.int 6))))) (de (ip (aa 4) (bf ju (ae (ak ixD (aa 4) (unM mI (aq (.int 1)))) ao)))) bU ⟨mvR ns b n hd w y6 (some (.ptr kg)) y8 y9,O4⟩=.next ⟨mvR ns b n hd w y6 (some (.ptr kg)) y8 y9,O⟩/\MvI n 90 A W4/\A.length<=6/\O[0]? =some (.lst (A.map vI))/\O[kg]? =some (.lst (W4.map vI)):=by
  have ta:=yj (pk 44 (some (.ptr kg)) y8 y9 O4) (Ho (i:=4) (R:=mvR ns b n hd w y6 (some (.ptr kg)) y8 y9) rfl az)
  cases hb:(decide (cf hd 44 5=0)&&(decide (0<(A4.map vI).length)&&decide ((A4.map vI).length<6))) with
  | false=>exact⟨A4,O4,dN ta hb (cj _),bd,a4,az,cb⟩
  | true=>
   have as:0<A4.length/\A4.length<6:=by
    have h1:=(To _ _▸hb).2
    have h2:=To _ _▸h1
    rw[R9] at h2
    exact⟨of_decide_eq_true h2.1,of_decide_eq_true h2.2⟩
   obtain⟨A',m,rfl⟩:∃A' m,A4=A'++[m]:=⟨A4.dropLast,A4.getLast (by intro z;rw[z] at as;simp at as),(List.dropLast_concat_getLast _).symm⟩
   have hm:m∈A'++[m]:=by simp
   have ex:ixD O4 (.ptr 0) (.int (-1))=.ok (vI m):=by
    refine uo az ?_
    rw[SG]
    unfold atI
    have hx:ixN (A'.map vI++[m].map vI).length (-1)=some A'.length:=by
     have hl:(A'.map vI++[m].map vI).length=A'.length+1:=by simp
     rw[hl]
     unfold ixN
     rw[if_neg (by decide),if_pos (by omega)]
     congr 1
     omega
    rw[hx]
    simp
   have eL:bf ju (ae (ak ixD (aa 4) (unM mI (aq (.int 1)))) ao) ⟨mvR ns b n hd w y6 (some (.ptr kg)) y8 y9,O4⟩=.ok (vI m,⟨mvR ns b n hd w y6 (some (.ptr kg)) y8 y9,O4⟩):=dq (ax (aI (ag rfl) (uc (aD _ _) (sE _)) ex) (ay _)) (mO _)
   refine⟨A'++[m]++[m],O4.set 0 (.lst ((A'++[m]).map vI++[vI m])),lu ta hb (cK (mz (ag rfl) az eL az (by rw[R9];omega) rfl)),bd.more (bd.len m hm) (bd.sz m hm) (Si _),by have:=as.2;simp at this ⊢;omega,(by have q:(A'++[m]++[m]).map vI=(A'++[m]).map vI++[vI m]:=SG;rw[q];exact fH az),by rw[cS (λz=>db z.symm)];exact cb⟩
 obtain⟨A5,O5,dm,a9,a5,b3,cc⟩:=dd
 have ep:=BH (l:=W4) (item:=vI) (out:=λv=>vI (v++Sb (A5.length-v.length) 0)) (caps:=[4]) (im:=listI (aa 7)) (e:=ak bt (aa 0) (bR 1 [] (du (ae (ak jA (bf bO (ae (aa 1) ao)) (bf bO (ae (aa 0) ao))) ao)) (aE 0) bV (aq (.int 0)))) (k:=some kg) (s:=⟨mvR ns b n hd w y6 (some (.ptr kg)) y8 y9,O5⟩) (t8 (ag rfl) cc) cc (by omega) (λv hv=>by
  have le:=(a9.ws v hv).le
  have ez:=dJ (l:=Sg (A5.length-v.length)) (item:=λi:Nat=>D.int (i:Int)) (out:=λ_=>.int 0) (caps:=[]) (im:=du (ae (ak jA (bf bO (ae (aa 1) ao)) (bf bO (ae (aa 0) ao))) ao)) (e:=aq (.int 0)) (k:=none) (s:=⟨[some (vI v),some (.ptr 0)],O5⟩) (by
   rw[<- fL]
   refine dW (ax (aI (dq (ax (ag rfl) (ay _)) (su b3)) (dq (ax (ag rfl) (ay _)) (d9 _)) ?_) (ay _)) (by omega)
   rw[nW,R9,R9]
   congr 2
   omega) trivial (by simp;omega) (λ_ _=>aD _ _)
  rw[show (Sg (A5.length-v.length)).map (λ_=>D.int 0)=(Sb (A5.length-v.length) (0:Int)).map D.int by rw[UF];simp[UW]] at ez
  refine aI (ag rfl) ez ?_
  rw[sJ (by simp;omega)]
  exact congrArg (λz=>Res.ok (D.lst z)) SG.symm)
 have et:=qf b3
 refine⟨A5,W4.map λv=>v++Sb (A5.length-v.length) 0,O5++[.lst ((W4.map λv=>v++Sb (A5.length-v.length) 0).map vI)],O5.length, ?_,fO b3,mT,by omega,⟨a9.len,a9.sz,λv hv=> ?_⟩,a5,λv hv=> ?_,by rw[R9];exact w4⟩
 ·refine eM (R:=mvR ns b n hd w y6 (some (.ptr kg)) y8 y9) ?_
  show mj ⟨[some (vI ns),some (.int (b:Int)),some (.int (n:Int)),none,none,none,none,none,none,none],[]⟩=_
  rw[mj]
  rw[show W4.map (λv=>vI (v++Sb (A5.length-v.length) 0))=(W4.map λv=>v++Sb (A5.length-v.length) 0).map vI by rw[So];rfl] at ep
  exact aT e3 (aT (bu (oQ (ay _) (by simp) rfl rfl) rfl) (aT e5 (aT cu (aT e7 (aT c5 (aT c9 (aT dm (bW (qx (ax (ag rfl) (ax ep (ay _))) (by simp))))))))))
 ·obtain⟨u,hu,rfl⟩:=Su.mp hv
  have:=a9.ws u hu
  refine⟨by have:=this.le;simp;omega,λt ht=> ?_,λg hg=>by rw[Jh (LF u _)];exact this.bal g hg⟩
  rcases Sy.mp ht with q | q
  ·exact this.lo t q
  ·rw[(UE.mp q).2];decide
 ·obtain⟨u,hu,rfl⟩:=Su.mp hv
  have:=(a9.ws u hu).le
  simp;omega
theorem mot(a b:Int):d8 [.int a,.int b] []=.ok (.int (SW a b:Nat),[]):=GZ a b
theorem Fc(ns:List Int):mX [vI ns] []=.ok (.int (dj ns:Nat),[]):=by
 obtain⟨s',e,c,x,h1,h2⟩:=eN (ok:=okC (ns.map D.int) none) (g:=aE 2) (body:=oG)
  (λpre s=>∃(ms:List Int) (x:Option D),pre=ms.map D.int/\s=⟨[some (vI ns),some (.int (ms.foldl (λc n=>Te c n.natAbs) 0:Nat)),x],[]⟩) (λ_ _ _=>trivial) (ns.map D.int) [] (by
   rintro pre d rest e s ⟨ms,x,rfl,rfl⟩
   have hd:d∈ns.map D.int:=by rw[SE] at e;rw[e];simp
   obtain⟨m,_,rfl⟩:=Su.mp hd
   refine⟨_,_,rfl,.inl ?_,ms++[m],some (.int m),by simp,rfl⟩
   simp[oG,mot,SW]) ⟨[some (vI ns),some (.int 0),none],[]⟩ ⟨[],none,rfl,rfl⟩
 rw[SE] at h1
 have hc:c=ns:=(T8 (λa b h=>by cases h;rfl)).mp h1.symm
 subst hc
 have J:=dh (im:=listI (aa 0)) (g:=aE 2) (body:=oG) (s:=⟨[some (vI c),some (.int 0),none],[]⟩) (ds:=c.map D.int) (k:=none) (s1:=⟨[some (vI c),some (.int 0),none],[]⟩) (by simp)
 rw[e] at J
 have q:=dZ (n:=3) (m:=ng) (ds:=[vI c]) (O:=[]) (d:=.int (dj c:Nat)) (s:=s') (by
  show ng ⟨[some (vI c),none,none],[]⟩=_
  rw[ng,vc]
  rw[show setM 1 (aq (.int 0)) ⟨[some (vI c),none,none],[]⟩=.next ⟨[some (vI c),some (.int 0),none],[]⟩ by simp]
  rw[zD,vc,J,zD,h2]
  simp[dj])
 rw[h2] at q
 exact q
theorem Cj{a b:List Int}(J:a.length<=1000000)(hm:∀p∈a.zip b,IntMulOk p.1 p.2):bS [vI a,vI b] []=.ok (.int (aO a b),[]):=by
 have hz:(a.zip b).length<=1000000:=by rw[TN];omega
 have hc:=Cr (l:=a.zip b) (f:=λp=>.int p.1) (g:=λp=>.int p.2) (out:=λp=>.int (p.1*p.2)) (caps:=[]) (im:=qQ (ae (aa 0) (ae (aa 1) ao))) (e:=ak cF (aa 0) (aa 1)) (k:=none) (s:=⟨[some (vI a),some (vI b)],[]⟩) (by simp[qz]) trivial (by omega) (λp hp=>by
  simp[cO (hm p hp)])
 rw[show (a.zip b).map (λp=>D.int (p.1*p.2))=(Tq (· * ·) a b).map D.int by rw[<- KC];simp] at hc
 refine dZ (s:=⟨[some (vI a),some (vI b)],[]⟩) ?_
 show dC ⟨[some (vI a),some (vI b)],[]⟩=_
 rw[dC]
 refine bW ?_
 rw[g7,bh,hc,aj,ay,aj,aj]
 dsimp only
 rw[uh,aj]
 rfl
theorem zQ(ns:List Int)(J:ns.length<=1000000):jq [vI ns] []=.ok (.ptr 0,[.lst ((low ns).map D.int)]):=by
 have e1:setM 1 (aQ 1 mX (ae (aa 0) ao)) ⟨[some (vI ns),none],[]⟩=.next ⟨[some (vI ns),some (.int (dj ns:Nat))],[]⟩:=bu (eJ (ax (ag rfl) (ay _)) (lG _) rfl (Fc ns) (by simp)) rfl
 by_cases h:dj ns=0
 ·refine eM (R:=[some (vI ns),some (.int (dj ns:Nat))]) ?_
  show jB ⟨[some (vI ns),none],[]⟩=_
  rw[jB]
  refine aT e1 (Az (lu (eq_test (ag rfl)) (decide_eq_true (by omega)) (bW (LV (ag rfl) (HE _ _) rfl ?_))))
  rw[show low ns=ns by unfold low;rw[if_pos h]]
  rfl
 ·have hc:=BH (l:=ns) (item:=D.int) (out:=λn=>.int (n/(dj ns:Int))) (caps:=[1]) (im:=listI (aa 0)) (e:=ak iy (aa 0) (aa 1)) (k:=none) (s:=⟨[some (vI ns),some (.int (dj ns:Nat))],[]⟩) (by simp) trivial (by omega) (λa _=>by
   simp[oZ (show (dj ns:Int)≠0 by omega),wx (show (0:Int)<dj ns by omega)])
  refine eM (R:=[some (vI ns),some (.int (dj ns:Nat))]) ?_
  show jB ⟨[some (vI ns),none],[]⟩=_
  rw[jB]
  refine aT e1 (aT (dN (eq_test (ag rfl)) (decide_eq_false (by omega)) (cj _)) (bW (hc.trans ?_)))
  rw[show (low ns).map D.int=ns.map λn=>.int (n/(dj ns:Int)) by unfold low;rw[if_neg h,So];rfl]
  rfl
theorem G3{one other:List Int}{v w:Int}(hl:one.length<=1000000)(h1:∀a∈one,IntMulOk a w)(h2:∀b∈other,IntMulOk b v):n9 [vI one,.int v,vI other,.int w] []=.ok (.ptr 0,[.lst ((d0 one v other w).map D.int)]):=by
 have hz:(one.zip other).length<=1000000:=by rw[TN];omega
 have hc:=Cr (l:=one.zip other) (f:=λp=>.int p.1) (g:=λp=>.int p.2) (out:=λp=>.int (p.1*w-p.2*v)) (caps:=[1,3]) (im:=qQ (ae (aa 0) (ae (aa 2) ao))) (e:=ak jA (ak cF (aa 0) (aa 3)) (ak cF (aa 1) (aa 2))) (k:=none) (s:=⟨[some (vI one),some (.int v),some (vI other),some (.int w),none],[]⟩) (by simp[qz]) trivial (by omega) (λp hp=>by
  have J:=Ta hp
  simp[cO (h1 p.1 J.1),cO (h2 p.2 J.2)])
 rw[show (one.zip other).map (λp=>D.int (p.1*w-p.2*v))=(mL one v other w).map D.int by rw[mL,<- zip_map];simp] at hc
 have Y:(mL one v other w).length<=1000000:=by unfold mL;rw[Tz];omega
 refine eM (R:=[some (vI one),some (.int v),some (vI other),some (.int w),some (vI (mL one v other w))]) ?_
 show qm ⟨[some (vI one),some (.int v),some (vI other),some (.int w),none],[]⟩=_
 rw[qm]
 exact aT (uK hc) (bW (i3 (ax (ag rfl) (ay _)) (zQ _ Y) (lG _) rfl (iD _ _) (by
  simp only[Sm,S5,SE,pS,qE]
  rfl)))
theorem Bv{O:aC}(a b:Nat):orD O (.int (a:Int)) (.int (b:Int))=.ok (.int ((a|||b:Nat):Int)):=by
 have e:Builtin.bitOr (a:Int) (b:Int)=((a|||b:Nat):Int):=by
  unfold Builtin.bitOr Builtin.bitAnd Builtin.bitNot
  rw[decide_eq_false (show ¬(0:Int)<= -(a:Int)-1 by omega),decide_eq_false (show ¬(0:Int)<= -(b:Int)-1 by omega)]
  dsimp only
  rw[show (-(-(a:Int)-1)-1).toNat=a by omega,show (-(-(b:Int)-1)-1).toNat=b by omega]
  omega
 show Res.ok (D.int (Builtin.bitOr (a:Int) (b:Int)))=_
 rw[e]
theorem B3(a b:Nat):gd [.int (a:Int),.int (b:Int)] []=.ok (.bl (decide (a|||b=b)),[]):=by
 refine eM (R:=[some (.int (a:Int)),some (.int (b:Int))]) ?_
 show jE ⟨[some (.int (a:Int)),some (.int (b:Int))],[]⟩=_
 rw[jE]
 refine bW (aI (aI (ag rfl) (ag rfl) (Bv a b)) (ag rfl) ?_)
 rw[nX]
 congr 3
 rw[eq_iff_iff]
 omega
abbrev vN(l:List Nat):D:=.lst (l.map λx:Nat=>D.int (x:Int))
theorem Mb(l:List Nat):aP (l.map λx:Nat=>D.int (x:Int))=true:=by
 induction l with
 | nil=>simp
 | cons a l J=>simp[J]
theorem IU{a b:Nat}{pl:List Nat}(J:pl.length<=1000):fU [.int (a:Int),.int (b:Int),vN pl] []=.ok (.bl ((pl.filter λx=>decide (x|||(a|||b)=a|||b)).length == 2),[]):=by
 have hc:=xV (l:=pl) (item:=λx:Nat=>D.int (x:Int)) (out:=λx:Nat=>D.int (x:Int)) (p:=λx=>decide (x|||(a|||b)=a|||b)) (caps:=[3]) (im:=listI (aa 2)) (c:=bc (aQ 2 gd (ae (aa 0) (ae (aa 1) ao)))) (e:=aa 0) (k:=none) (s:=⟨[some (.int (a:Int)),some (.int (b:Int)),some (vN pl),some (.int ((a|||b:Nat):Int))],[]⟩) (by
  rw[cJ,ag (i:=2) rfl,aj];rfl) trivial (by omega) (λx _=>cZ (dE (ax (ag rfl) (ax (ag rfl) (ay _))) (B3 x (a|||b)) (by simp) rfl (by simp))) (λx _ _=>ag rfl)
 refine eM (R:=[some (.int (a:Int)),some (.int (b:Int)),some (vN pl),some (.int ((a|||b:Nat):Int))]) ?_
 show iq ⟨[some (.int (a:Int)),some (.int (b:Int)),some (vN pl),none],[]⟩=_
 rw[iq]
 refine aT (bu (aI (ag rfl) (ag rfl) (Bv a b)) rfl) (bW (aI (dq (ax hc (ay _)) (d9 _)) (aD _ _) ?_))
 rw[nX,R9]
 congr 2
 rw[TK,decide_eq_true_eq,beq_iff_eq]
 omega
theorem tM{x:List Int}:dv [vI x] []=.ok (.int (da x:Nat),[]):=by
 have go:∀(l:List Int) (b:Nat) (z:Option D),∃J,cx (okC (x.map D.int) none) (aE 2) o6 (l.map D.int) ⟨[some (vI x),some (.int (b:Int)),z],[]⟩=.next ⟨[some (vI x),some (.int ((l.foldl (λb y=>b*2+if 0<y then 1 else 0) b:Nat):Int)),J],[]⟩:=by
  intro l
  induction l with
  | nil=>intro b z;exact⟨z,by rw[S5,cx,if_pos (show okC (x.map D.int) none _ from trivial)];rfl⟩
  | cons y l Y=>
   intro b z
   obtain⟨J,e⟩:=Y (b*2+if 0<y then 1 else 0) (some (.int y))
   refine⟨J, ?_⟩
   rw[Sm,T9]
   refine SR (dB (s1:=⟨[some (vI x),some (.int (b:Int)),some (.int y)],[]⟩) (s2:=⟨[some (vI x),some (.int ((b*2+if 0<y then 1 else 0:Nat):Int)),some (.int y)],[]⟩) trivial rfl ?_) e
   rw[o6]
   refine aT (bu (R':=[some (vI x),some (.int ((b:Int)*2)),some (.int y)]) (aI (ag rfl) (aD _ _) (cO (fj (.inr (by decide))))) rfl) ?_
   by_cases hy:0<y
   ·refine lu (i6 (ag rfl)) (decide_eq_true hy) (bu (d:=.int ((b*2+if 0<y then 1 else 0:Nat):Int)) (R:=[some (vI x),some (.int ((b:Int)*2)),some (.int y)]) (aI (ag rfl) (aD _ _) ?_) rfl)
    rw[bT,if_pos hy]
    congr 2
   ·refine dN (i6 (ag rfl)) (decide_eq_false hy) ((cj _).trans ?_)
    rw[if_neg hy,show ((b*2+0:Nat):Int)=(b:Int)*2 by omega]
 obtain⟨J,e⟩:=go x 0 none
 refine eM (R:=[some (vI x),some (.int (da x:Nat)),J]) ?_
 show gT ⟨[some (vI x),none,none],[]⟩=_
 rw[gT]
 refine aT (bu (R':=[some (vI x),some (.int ((0:Nat):Int)),none]) (aD _ _) rfl) (aT ?_ (bW (ag rfl)))
 exact(dh (im:=listI (aa 0)) (ds:=x.map D.int) (k:=none) (s1:=⟨[some (vI x),some (.int ((0:Nat):Int)),none],[]⟩) (by rw[cJ,ag (i:=0) rfl,aj];rfl)).trans e
theorem uM{α:Type}{O:aC}{f:α->D}{l:List α}{i:Nat}{a:α}(h:l[i]? =some a):ixD O (.lst (l.map f)) (.int (i:Int))=.ok (f a):=by
 have hi:i<l.length:=by
  by_cases z:i<l.length
  ·exact z
  ·rw[Ur (by omega)] at h;cases h
 refine rH ?_
 rw[n5 (by simpa using hi)]
 rw[Sa hi] at h
 cases h
 simp
structure Wrk(n:Nat)(L:List (Nat×List Int))(row:List Int)(b:Nat):Prop where
 len:∀p∈L,p.2.length=n
 nn:∀p∈L,∀i,0<=nth p.2 i
 few:L.length<64
 rl:row.length=n
 n7:n<=1000
 sz:gP b (L.map (·.2))
 rz:SzL b row
 bb:2*b+20<=60000000
theorem Wrk.dz{n:Nat}{L:List (Nat×List Int)}{row:List Int}{b:Nat}(h:Wrk n L row b){p:Nat×List Int}(hp:p∈L):Sz (b+b+10) (aO row p.2):=xO h.rz (h.sz _ (SU hp)) (by rw[h.rl];exact h.n7)
theorem OZ{n:Nat}{L:List (Nat×List Int)}{row:List Int}{b:Nat}(h:Wrk n L row b){p q:Nat×List Int}(hp:p∈L)(hq:q∈L):(((L.map λx=>da x.2).filter λx=>decide (x|||(da p.2|||da q.2)=da p.2|||da q.2)).length == 2)=nbB n (L.map (·.2)) p.2 q.2:=by
 unfold nbB
 rw[Ub,R9,Ub,R9]
 congr 2
 refine V2 λx hx=> ?_
 show decide (da x.2|||(da p.2|||da q.2)=da p.2|||da q.2)=subB n x.2 p.2 q.2
 exact bits_sub (h.len x hx) (h.len p hp) (h.len q hq) (h.nn x hx) (h.nn p hp) (h.nn q hq)
structure Iv(L T:List (Nat×List Int))(t:Nat)(O:aC):Prop where
 told:O[t]? =some (.lst (cD T))
 l:Sto O L
 s:Sto O T
 tn:∀p∈T,p.1≠t
 ln:∀p∈L,p.1≠t
abbrev mR(L:List (Nat×List Int))(row:List Int)(t:Nat)(ab bl:List Nat)(x7 x8:Option D):List (Option D):=[some (.lst (cD L)),some (vI row),some (.lst (L.map λp=>.int (aO row p.2))),some (vN (L.map λp=>da p.2)),some (.ptr t),some (vN ab),some (vN bl),x7,x8]
theorem Cm{n:Nat}{L:List (Nat×List Int)}{row:List Int}{b t:Nat}{ab bl:List Nat}(h:Wrk n L row b){J:(Nat×List Int)×Nat}(hh:L[J.2]? =some J.1)(K:List D):∀(Y:List ((Nat×List Int)×Nat)) (T:List (Nat×List Int)) (O:aC) (x8:Option D),(∀q∈Y,L[q.2]? =some q.1)->T.length+Y.length<=100000->Iv L T t O->
 ∃T' O' y8,cx (okC K none) (aE 8) gN (Y.map λq=>D.int (q.2:Int)) ⟨mR L row t ab bl (some (.int (J.2:Int))) x8,O⟩=.next ⟨mR L row t ab bl (some (.int (J.2:Int))) y8,O'⟩/\Iv L T' t O'/\T'.length<=T.length+Y.length/\
  T'.map (·.2)=T.map (·.2)++((Y.filter λq=>nbB n (L.map (·.2)) J.1.2 q.1.2).map λq=>d0 q.1.2 (aO row q.1.2) J.1.2 (aO row J.1.2))
 | [],T,O,x8,_,_,iv=>⟨T,O,x8,by rw[S5,cx,if_pos (show okC K none _ from trivial)],iv,by simp,by simp⟩
 | q::Y,T,O,x8,hb,hl,iv=>by
  have hq:=hb q Sr
  have mh:J.1∈L:=SY hh
  have mq:q.1∈L:=SY hq
  have hb':=λz hz=>hb z (Sl _ hz)
  rw[Ss] at hl
  have az:bc (aQ 3 fU (ae (ak ixD (aa 3) (aa 7)) (ae (ak ixD (aa 3) (aa 8)) (ae (aa 3) ao)))) ⟨mR L row t ab bl (some (.int (J.2:Int))) (some (.int (q.2:Int))),O⟩=.ok (nbB n (L.map (·.2)) J.1.2 q.1.2,⟨mR L row t ab bl (some (.int (J.2:Int))) (some (.int (q.2:Int))),O⟩):=by
   rw[<- OZ h mh mq]
   refine cZ (dE (ax (aI (ag rfl) (ag rfl) (uM (f:=λx:Nat=>D.int (x:Int)) (l:=L.map λp=>da p.2) (a:=da J.1.2) (by rw[SF,hh];rfl))) (ax (aI (ag rfl) (ag rfl) (uM (f:=λx:Nat=>D.int (x:Int)) (l:=L.map λp=>da p.2) (a:=da q.1.2) (by rw[SF,hq];rfl))) (ax (ag rfl) (ay _)))) (IU (by rw[R9];have:=h.few;omega)) ?_ rfl (by simp))
   rw[dQ,dQ,dQ,Fd,yT,yT,gW,Mb];rfl
  rw[Sm]
  cases hn:nbB n (L.map (·.2)) J.1.2 q.1.2 with
  | false=>
   obtain⟨T',O',y8,e,a1,a2,a3⟩:=Cm h hh K Y T O (some (.int (q.2:Int))) hb' (by omega) iv
   refine⟨T',O',y8, ?_,a1,by rw[Ss];omega,by rw[a3,S9 (by rw[hn];decide)]⟩
   refine SR (dB (s1:=⟨mR L row t ab bl (some (.int (J.2:Int))) (some (.int (q.2:Int))),O⟩) (s2:=⟨mR L row t ab bl (some (.int (J.2:Int))) (some (.int (q.2:Int))),O⟩) trivial rfl ?_) e
   rw[gN]
   exact dN az hn (cj _)
  | true=>
   have zq:=h.sz _ (SU (f:=(·.2)) mq)
   have zh:=h.sz _ (SU (f:=(·.2)) mh)
   have off:=G3 (one:=q.1.2) (other:=J.1.2) (v:=aO row q.1.2) (w:=aO row J.1.2) (by rw[h.len _ mq];have:=h.n7;omega) (λa ha=>ig (by have:=h.bb;omega) (by have:=h.bb;omega) (zq a ha) (h.dz mh)) (λa ha=>ig (by have:=h.bb;omega) (by have:=h.bb;omega) (zh a ha) (h.dz mq))
   have call:xA 4 n9 (ae (ak ixD (aa 0) (aa 8)) (ae (ak ixD (aa 2) (aa 8)) (ae (ak ixD (aa 0) (aa 7)) (ae (ak ixD (aa 2) (aa 7)) ao)))) ⟨mR L row t ab bl (some (.int (J.2:Int))) (some (.int (q.2:Int))),O⟩=.ok (.ptr O.length,⟨mR L row t ab bl (some (.int (J.2:Int))) (some (.int (q.2:Int))),O++[.lst ((d0 q.1.2 (aO row q.1.2) J.1.2 (aO row J.1.2)).map D.int)]⟩):=by
    refine KY (ax (aI (ag rfl) (ag rfl) (uM (f:=λp:Nat×List Int=>D.ptr p.1) hq)) (ax (aI (ag rfl) (ag rfl) (uM (f:=λp:Nat×List Int=>D.int (aO row p.2)) hq)) (ax (aI (ag rfl) (ag rfl) (uM (f:=λp:Nat×List Int=>D.ptr p.1) hh)) (ax (aI (ag rfl) (ag rfl) (uM (f:=λp:Nat×List Int=>D.int (aO row p.2)) hh)) (ay _))))) (rs:=[vI q.1.2,.int (aO row q.1.2),vI J.1.2,.int (aO row J.1.2)]) ?_ off (by simp) rfl rfl ?_ (iD _ _) ?_
    ·simp only[d4,jr,lC (iv.l _ mq),lC (iv.l _ mh),Mc,gA,jt]
    ·simp[Ao,uT]
    ·simp
   have a7:Iv L (T++[(O.length,d0 q.1.2 (aO row q.1.2) J.1.2 (aO row J.1.2))]) t ((O++[Cell.lst ((d0 q.1.2 (aO row q.1.2) J.1.2 (aO row J.1.2)).map D.int)]).set t (Cell.lst (cD T++[D.ptr O.length]))):=by
    have tl:=qf iv.told
    have am:(O++[Cell.lst ((d0 q.1.2 (aO row q.1.2) J.1.2 (aO row J.1.2)).map D.int)])[t]? =some (.lst (cD T)):=fO iv.told
    refine⟨by rw[fH am];simp[cD],(iv.l.app _).set iv.ln _,λp hp=> ?_,λp hp=> ?_,iv.ln⟩
    ·rcases Sy.mp hp with hp | hp
     ·exact((iv.s.app _).set iv.tn _) p hp
     ·rw[Sv.mp hp]
      dsimp only
      rw[cS (by omega)]
      simp
    ·rcases Sy.mp hp with hp | hp
     ·exact iv.tn p hp
     ·rw[Sv.mp hp];dsimp only;omega
   obtain⟨T',O',y8,e,a1,a2,a3⟩:=Cm h hh K Y (T++[(O.length,d0 q.1.2 (aO row q.1.2) J.1.2 (aO row J.1.2))]) _ (some (.int (q.2:Int))) hb' (by rw[SH,SN];omega) a7
   refine⟨T',O',y8, ?_,a1,by rw[SH,SN] at a2;rw[Ss];omega,by rw[a3,S2 (p:=λq:(Nat×List Int)×Nat=>nbB n (L.map (·.2)) J.1.2 q.1.2) (a:=q) (l:=Y) hn,SG,Sm,S7];rfl⟩
   refine SR (dB (s1:=⟨mR L row t ab bl (some (.int (J.2:Int))) (some (.int (q.2:Int))),O⟩) (s2:=⟨mR L row t ab bl (some (.int (J.2:Int))) (some (.int (q.2:Int))),(O++[Cell.lst ((d0 q.1.2 (aO row q.1.2) J.1.2 (aO row J.1.2)).map D.int)]).set t (Cell.lst (cD T++[D.ptr O.length]))⟩) trivial rfl ?_) e
   rw[gN]
   exact lu az hn (cK (mz (ag rfl) iv.told call (fO iv.told) (by rw[R9];omega) rfl))
theorem Em{n:Nat}{L:List (Nat×List Int)}{row:List Int}{b t:Nat}{ab:List Nat}{J:List ((Nat×List Int)×Nat)}(h:Wrk n L row b)(hB:∀q∈J,L[q.2]? =some q.1)(ap:J.length<=64)(K:List D):∀(As:List ((Nat×List Int)×Nat)) (T:List (Nat×List Int)) (O:aC) (x7 Y:Option D),(∀q∈As,L[q.2]? =some q.1)->T.length+As.length*64<=10000->Iv L T t O->
 ∃T' O' y7 y8,cx (okC K none) (aE 7) jo (As.map λq=>D.int (q.2:Int)) ⟨mR L row t ab (J.map (·.2)) x7 Y,O⟩=.next ⟨mR L row t ab (J.map (·.2)) y7 y8,O'⟩/\Iv L T' t O'/\
  T'.map (·.2)=T.map (·.2)++As.flatMap λa=>(J.filter λq=>nbB n (L.map (·.2)) a.1.2 q.1.2).map λq=>d0 q.1.2 (aO row q.1.2) a.1.2 (aO row a.1.2)
 | [],T,O,x7,Y,_,_,iv=>⟨T,O,x7,Y,by rw[S5,cx,if_pos (show okC K none _ from trivial)],iv,by simp⟩
 | a::As,T,O,x7,Y,hA,hl,iv=>by
  rw[Ss] at hl
  obtain⟨T1,O1,y8,e1,i1,l1,m1⟩:=Cm (ab:=ab) (bl:=J.map (·.2)) h (hA a Sr) ((J.map (·.2)).map λx:Nat=>D.int (x:Int)) J T O Y hB (by omega) iv
  obtain⟨T2,O2,z7,z8,e2,i2,m2⟩:=Em (ab:=ab) h hB ap K As T1 O1 (some (.int (a.2:Int))) y8 (λq hq=>hA q (Sl _ hq)) (by omega) i1
  refine⟨T2,O2,z7,z8, ?_,i2,by rw[m2,m1,List.flatMap_cons,S7]⟩
  rw[Sm]
  refine SR (dB (s1:=⟨mR L row t ab (J.map (·.2)) (some (.int (a.2:Int))) Y,O⟩) (s2:=⟨mR L row t ab (J.map (·.2)) (some (.int (a.2:Int))) y8,O1⟩) trivial rfl ?_) e2
  rw[jo]
  refine(dh (im:=listI (aa 6)) (ds:=(J.map (·.2)).map λx:Nat=>D.int (x:Int)) (k:=none) (s1:=⟨mR L row t ab (J.map (·.2)) (some (.int (a.2:Int))) Y,O⟩) (by rw[cJ,ag (i:=6) rfl,aj];rfl)).trans ?_
  rw[So] at e1 ⊢
  exact e1
theorem LA {α:Type} {caps:List Nat} {im:IM} {c:TM} {e:EM} {s:S} {k:Option Nat} {l:List α} {p:α->Bool} {out:α->D} {f g:α->D} (J:im s=.ok ((l.map (λa=>D.tup [f a,g a]),k),s)) (Y:okC (l.map (λa=>D.tup [f a,g a])) k s.o) (hl:l.length<=16777216)
 (hc:∀a∈l,c ⟨some (f a)::some (g a)::caps.map (λi=>(s.r[i]?).getD none),s.o⟩=.ok (p a,⟨some (f a)::some (g a)::caps.map (λi=>(s.r[i]?).getD none),s.o⟩))
 (he:∀a∈l,p a=true->e ⟨some (f a)::some (g a)::caps.map (λi=>(s.r[i]?).getD none),s.o⟩=.ok (out a,⟨some (f a)::some (g a)::caps.map (λi=>(s.r[i]?).getD none),s.o⟩)):
 pG 2 caps im (cI (aS (aE 0) (aS (aE 1) cL)) 2) c e s=.ok (.ptr s.o.length,⟨s.r,s.o++[.lst ((l.filter p).map out)]⟩):=by
 rw[BL,B2 J Y hl hc he,aj]
theorem IQ{α:Type}(f g:α->D):∀l:List α,mK (l.map f) (l.map g)=l.map λa=>.tup [f a,g a]:=λl=>by
 unfold mK
 rw[Wb,List.zipWith_self]
theorem Bx{α:Type}(p:α->Bool)(l:List α):(l.zipIdx.filter λq=>p q.1).map (·.1)=l.filter p:=by
 have h:(l.zipIdx.map (·.1))=l:=by simp
 conv=>rhs;rw[<- h,Ub]
 rfl
theorem Ma{n:Nat}{L:List (Nat×List Int)}{row:List Int}{b:Nat}{O:aC}(h:Wrk n L row b)(hs:Sto O L):∃L' O',gq [.lst (cD L),vI row] O=.ok (.lst (cD L'),O')/\L'.map (·.2)=eK n (L.map (·.2)) row/\Sto O' L':=by
 have few:=h.few
 have dz:∀p∈L,bS [vI row,vI p.2] []=.ok (.int (aO row p.2),[]):=λp hp=>Cj (by rw[h.rl];have:=h.n7;omega) λq hq=>ig (by have:=h.bb;omega) (by have:=h.bb;omega) (h.rz _ (Ta hq).1) (h.sz _ (SU hp) _ (Ta hq).2)
 have v2:=dJ (l:=L) (item:=λp=>.ptr p.1) (out:=λp=>.int (aO row p.2)) (caps:=[1]) (im:=listI (aa 0)) (e:=fQ 2 bS (ae (aa 1) (ae (aa 0) ao))) (k:=none) (s:=⟨[some (.lst (cD L)),some (vI row),none,none,none,none,none,none,none],O⟩) (by rw[cJ,ag (i:=0) rfl,aj];rfl) trivial (by omega)
  (λp hp=>pQ (ax (ag rfl) (ax (ag rfl) (ay _))) (rs:=[vI row,vI p.2]) (by simp only[d4,jr,lC (hs p hp),gA,jt]) (dz p hp) (by simp) rfl rfl)
 have v3:=dJ (l:=L) (item:=λp=>.ptr p.1) (out:=λp=>.int (da p.2:Nat)) (caps:=[]) (im:=listI (aa 0)) (e:=fQ 1 dv (ae (aa 0) ao)) (k:=none) (s:=⟨[some (.lst (cD L)),some (vI row),some (.lst (L.map λp=>.int (aO row p.2))),none,none,none,none,none,none],O⟩) (by rw[cJ,ag (i:=0) rfl,aj];rfl) trivial (by omega)
  (λp hp=>pQ (ax (ag rfl) (ay _)) (rs:=[vI p.2]) (by simp only[d4,jr,lC (hs p hp),gA,jt]) tM (by simp) rfl rfl)
 rw[show (L.map λp=>D.int (da p.2:Nat))=(L.map λp=>da p.2).map (λx:Nat=>D.int (x:Int)) by rw[So];rfl] at v3
 have v4:=LA (l:=L) (f:=λp=>.ptr p.1) (g:=λp=>.int (aO row p.2)) (p:=λp=>decide (aO row p.2=0)) (out:=λp=>.ptr p.1) (caps:=[]) (im:=qQ (ae (aa 0) (ae (aa 2) ao))) (c:=bc (ak eqD (aa 1) (aq (.int 0)))) (e:=aa 0) (k:=none) (s:=⟨[some (.lst (cD L)),some (vI row),some (.lst (L.map λp=>.int (aO row p.2))),some (vN (L.map λp=>da p.2)),none,none,none,none,none],O⟩) (by
  rw[Ml,bh,ag (i:=0) rfl,aj]
  dsimp only
  rw[bh,ag (i:=2) rfl,aj]
  dsimp only
  rw[ay,aj,aj,aj]
  dsimp only
  rw[IQ]) trivial (by omega) (λp _=>cZ (aI (ag rfl) (aD _ _) (nX _ _))) (λp _ _=>ag rfl)
 have Y:∀(R:List (Option D)) (P:aC),R[2]? =some (some (.lst (L.map λp=>.int (aO row p.2))))->cT (ae (aa 2) ao) ⟨R,P⟩=.ok ((L.zipIdx.map λq=>D.tup [.int (q.2:Int),.int (aO row q.1.2)],none),⟨R,P⟩):=λR P hR=>by
  rw[iB,bh,ag (i:=2) hR,aj]
  dsimp only
  rw[ay,aj,aj]
  dsimp only
  rw[show dD (L.map λp=>D.int (aO row p.2))=L.zipIdx.map λq=>D.tup [.int (q.2:Int),.int (aO row q.1.2)] by
   unfold dD
   rw[UB,VB,So]
   rfl]
 have zl:L.zipIdx.length=L.length:=by simp
 have vn:∀Z:List ((Nat×List Int)×Nat),(Z.map λq=>D.int (q.2:Int))=(Z.map (·.2)).map λx:Nat=>D.int (x:Int):=λZ=>by rw[So];rfl
 have v5:=Ez (l:=L.zipIdx) (f:=λq=>.int (q.2:Int)) (g:=λq=>.int (aO row q.1.2)) (p:=λq=>decide (0<aO row q.1.2)) (out:=λq=>.int (q.2:Int)) (caps:=[]) (im:=cT (ae (aa 2) ao)) (c:=bc (ak gtD (aa 1) (aq (.int 0)))) (e:=aa 0) (k:=none) (s:=⟨[some (.lst (cD L)),some (vI row),some (.lst (L.map λp=>.int (aO row p.2))),some (vN (L.map λp=>da p.2)),some (.ptr O.length),none,none,none,none],O++[.lst ((L.filter λp=>decide (aO row p.2=0)).map λp=>.ptr p.1)]⟩) (Y _ _ rfl) trivial (by omega) (λq _=>cZ (aI (ag rfl) (aD _ _) (yE _ _))) (λq _ _=>ag rfl)
 generalize hA:(L.zipIdx.filter λq=>decide (0<aO row q.1.2))=J at v5
 rw[vn] at v5
 have v6:=Ez (l:=L.zipIdx) (f:=λq=>.int (q.2:Int)) (g:=λq=>.int (aO row q.1.2)) (p:=λq=>decide (aO row q.1.2<0)) (out:=λq=>.int (q.2:Int)) (caps:=[]) (im:=cT (ae (aa 2) ao)) (c:=bc (ak ltD (aa 1) (aq (.int 0)))) (e:=aa 0) (k:=none) (s:=⟨[some (.lst (cD L)),some (vI row),some (.lst (L.map λp=>.int (aO row p.2))),some (vN (L.map λp=>da p.2)),some (.ptr O.length),some (vN (J.map (·.2))),none,none,none],O++[.lst ((L.filter λp=>decide (aO row p.2=0)).map λp=>.ptr p.1)]⟩) (Y _ _ rfl) trivial (by omega) (λq _=>cZ (aI (ag rfl) (aD _ _) (ji _ _))) (λq _ _=>ag rfl)
 generalize hB:(L.zipIdx.filter λq=>decide (aO row q.1.2<0))=Bs at v6
 rw[vn] at v6
 have at_:∀q∈L.zipIdx,L[q.2]? =some q.1:=λq hq=>List.mem_zipIdx_iff_getElem?.mp hq
 have mA:∀q∈J,L[q.2]? =some q.1:=λq hq=>at_ q (by rw[<- hA] at hq;exact(SK.mp hq).1)
 have mB:∀q∈Bs,L[q.2]? =some q.1:=λq hq=>at_ q (by rw[<- hB] at hq;exact(SK.mp hq).1)
 have lA:J.length<=L.length:=by rw[<- hA,<- zl];exact Us _ _
 have lB:Bs.length<=L.length:=by rw[<- hB,<- zl];exact Us _ _
 have sub:∀p∈L.filter (λp=>decide (aO row p.2=0)),p∈L:=λp hp=>(SK.mp hp).1
 have lT:(L.filter λp=>decide (aO row p.2=0)).length<=L.length:=Us _ _
 have iv:Iv L (L.filter λp=>decide (aO row p.2=0)) O.length (O++[.lst ((L.filter λp=>decide (aO row p.2=0)).map λp=>.ptr p.1)]):=⟨by simp,hs.app _,λp hp=>(hs.app _) p (sub p hp),λp hp=>SX (hs.lt (sub p hp)),λp hp=>SX (hs.lt hp)⟩
 obtain⟨T',O',y7,y8,e7,i7,m7⟩:=Em (ab:=J.map (·.2)) h mB (by omega) ((J.map (·.2)).map λx:Nat=>D.int (x:Int)) J _ _ none none mA (by omega) iv
 refine⟨T',O'.set O.length .dead, ?_, ?_,i7.s.set i7.tn _⟩
 ·refine eM (R:=mR L row O.length (J.map (·.2)) (Bs.map (·.2)) y7 y8) ?_
  show gr ⟨[some (.lst (cD L)),some (vI row),none,none,none,none,none,none,none],O⟩=_
  rw[gr]
  refine aT (bu v2 rfl) (aT (bu v3 rfl) (aT (bu v4 rfl) (aT (bu v5 rfl) (aT (bu v6 rfl) (aT ?_ (bW (pJ (ag rfl) i7.told rfl)))))))
  refine(dh (im:=listI (aa 5)) (ds:=(J.map (·.2)).map λx:Nat=>D.int (x:Int)) (k:=none) (s1:=⟨mR L row O.length (J.map (·.2)) (Bs.map (·.2)) none none,O++[.lst ((L.filter λp=>decide (aO row p.2=0)).map λp=>.ptr p.1)]⟩) (by rw[cJ,ag (i:=5) rfl,aj];rfl)).trans ?_
  rw[<- vn]
  exact e7
 ·rw[m7]
  unfold eK
  rw[Ub,Ub,Ub]
  have eA:=Bx (λp:Nat×List Int=>decide (0<aO row p.2)) L
  have eB:=Bx (λp:Nat×List Int=>decide (aO row p.2<0)) L
  rw[hA] at eA
  rw[hB] at eB
  show _=(L.filter λp=>decide (aO row p.2=0)).map (·.2)++((L.filter λp:Nat×List Int=>decide (0<aO row p.2)).map (·.2)).flatMap λh=>(((L.filter λp:Nat×List Int=>decide (aO row p.2<0)).map (·.2)).filter λw=>nbB n (L.map (·.2)) h w).map λw=>d0 w (aO row w) h (aO row h)
  rw[<- eA,<- eB]
  congr 1
  rw[We,We]
  refine congrArg (λF=>J.flatMap F) (funext λa=> ?_)
  rw[So,Ub,So]
  rfl
theorem GW {α:Type} {l:List α} {item:α->D} {f:α->List Int} {T:α->Nat->Prop} {caps:List Nat} {im:IM} {e:EM} {k:Option Nat} {R:List (Option D)} {O:aC} (I:aC->Prop) (hI:∀O E,I O->I (O++E)) (h0:I O) (J:im ⟨R,O⟩=.ok ((l.map item,k),⟨R,O⟩)) (Y:∀O,I O->okC (l.map item) k O) (hl:l.length<=1000000)
 (he:∀a∈l,∀O,I O->∃q E,e ⟨some (item a)::caps.map (λi=>(R[i]?).getD none),O⟩=.ok (.ptr q,⟨some (item a)::caps.map (λi=>(R[i]?).getD none),O++E⟩)/\(O++E)[q]? =some (.lst ((f a).map D.int))/\(T a q\/O.length<=q)):
 ∃(L:List (Nat×List Int)) (E:aC),bR 1 caps im (aE 0) bV e ⟨R,O⟩=.ok (.lst (cD L),⟨R,O++E⟩)/\L.map (·.2)=l.map f/\Sto (O++E) L:=by
 obtain⟨L,E,x',e1,e2,e3,e4⟩:=xq (ok:=okC (l.map item) k) (e:=e) (cap:=caps.map (λi=>(R[i]?).getD none)) (T:=T) I hI Y l [] none O h0 (by simp;omega) he
 refine⟨L,E, ?_,e2,e3⟩
 rw[p6,wA,J,aj]
 dsimp only
 rw[show o3 1 caps R=none::caps.map (λi=>(R[i]?).getD none) from rfl,e1,aj,aj]
 rfl
theorem LU{n a:Nat}(ha:a<n)(hn:n<=1000000):rf [.int (a:Int),.int (n:Int)] []=.ok (.ptr 0,[.lst ((iZ n a).map D.int)]):=by
 have h1:=uK (i:=2) (SR (OQ (fin:=t7) (mk:=aa 1) (s:=⟨[some (.int (a:Int)),some (.int (n:Int)),none],[]⟩) (n:=n) (by simp) hn) (EH _ _))
 have h2:lN (aq (.int 1)) (wN (aa 2) (aa 0)) ⟨[some (.int (a:Int)),some (.int (n:Int)),some (.ptr 0)],[.lst ((Sb n (0:Int)).map D.int)]⟩=.next ⟨[some (.int (a:Int)),some (.int (n:Int)),some (.ptr 0)],[.lst ((iZ n a).map D.int)]⟩:=by
  rw[DU,aD,aj,By (k:=0) (a:=a) (ds:=(Sb n (0:Int)).map D.int) (s1:=⟨[some (.int (a:Int)),some (.int (n:Int)),some (.ptr 0)],[.lst ((Sb n (0:Int)).map D.int)]⟩) (s2:=⟨[some (.int (a:Int)),some (.int (n:Int)),some (.ptr 0)],[.lst ((Sb n (0:Int)).map D.int)]⟩) (by simp) (by simp) rfl (by simpa using ha)]
  simp[iZ,List.map_set]
 refine eM (R:=[some (.int (a:Int)),some (.int (n:Int)),some (.ptr 0)]) ?_
 show tO ⟨[some (.int (a:Int)),some (.int (n:Int)),none],[]⟩=_
 rw[tO,dX h1]
 exact aT h2 (bW (ag rfl))
theorem JO{n:Nat}(hn:n<=1000)(O:aC):∃L E,qZ [.int (n:Int)] O=.ok (.lst (cD L),O++E)/\L.map (·.2)=kH n/\Sto (O++E) L:=by
 obtain⟨L,E,e,h1,h2⟩:=GW (l:=Sg n) (item:=λi:Nat=>D.int (i:Int)) (f:=iZ n) (T:=λ_ _=>False) (caps:=[0]) (im:=du (ae (aa 0) ao)) (e:=dY 2 rf (ae (aa 0) (ae (aa 1) ao))) (k:=none) (R:=[some (.int (n:Int))]) (O:=O) (λ_=>True) (λ_ _ _=>trivial) trivial (by
  rw[dW (n:=n) (s1:=⟨[some (.int (n:Int))],O⟩) (ax (ag rfl) (ay _)) (by omega),fL]) (λ_ _=>trivial) (by rw[UI];omega) (λa ha P _=>
  ⟨P.length,[.lst ((iZ n a).map D.int)],i3 (ax (ag rfl) (ax (ag rfl) (ay _))) (LU (S3.mp ha) (by omega)) (by simp) rfl (iD _ _) (by simp),by simp,.inr (Si _)⟩)
 refine⟨L,E, ?_,h1,h2⟩
 refine eM (R:=[some (.int (n:Int))]) ?_
 show rj ⟨[some (.int (n:Int))],O⟩=_
 rw[rj]
 exact bW e
theorem xy{O:aC}:∀{L:List (Nat×List Int)},Sto O L->keyed O (cD L)=some (L.map λp=>(.ptr p.1,p.2))
 | [],_=>rfl
 | p::L,h=>by
  have e:=xy (L:=L) λq hq=>h q (Sl _ hq)
  have c:oA O (.ptr p.1)=some p.2:=by
   unfold oA
   rw[mY (h p Sr)]
   exact pM _
  show keyed O (.ptr p.1::cD L)=_
  unfold keyed
  rw[c,e]
  rfl
theorem Gh(L:List (Nat×List Int)):(eZ (L.map λp=>(D.ptr p.1,p.2))).map (·.1)=cD (eZ L):=by
 rw[oY (g:=λp:Nat×List Int=>(D.ptr p.1,p.2)) λ_=>rfl,So]
 rfl
theorem wR{O:aC}{L:List (Nat×List Int)}{fin:S->List D->Res (D×S)}{me:EM}{s s1:S}{d:D}(J:me s=.ok (d,s1))(hd:lsD s1.o d=some (cD L))(Y:Sto s1.o L)(hl:L.length<64)(nd:(L.map (·.2)).Nodup):uQ fin me s=fin s1 (cD (eZ L)):=by
 unfold uQ
 rw[J,aj]
 dsimp only
 rw[hd]
 dsimp only
 rw[xy Y]
 dsimp only
 rw[if_pos ⟨by rw[R9];exact hl,by rw[So];exact nd⟩,Gh]
def sS(V:List (List Int)):List (List Int):=(eZ (V.map λx=>((),x))).map (·.2)
theorem yS(L:List (Nat×List Int)):(eZ L).map (·.2)=sS (L.map (·.2)):=by
 unfold sS
 rw[So,show ((λx:List Int=>((),x))∘λx:Nat×List Int=>x.2)=λp:Nat×List Int=>((),p.2) from rfl,oY (g:=λp:Nat×List Int=>((),p.2)) λ_=>rfl,So]
 rfl
theorem HG(n:Nat):gP 1 (kH n):=λx hx=>by
 unfold kH at hx
 obtain⟨a,_,rfl⟩:=Su.mp hx
 exact Ll n a
structure tU(n:Nat)(rows:List (List Int)):Prop where
 len:∀r∈rows,r.length=n
 sz:gP 200 rows
 cnt:rows.length<=5
 n7:n<=7
theorem big:uY 200 5 1<=8000:=by decide
theorem wB{n:Nat}{rows:List (List Int)}(h:tU n rows){rs:List (List Int)}(Y:∀r∈rs,r∈rows)(hl:rs.length<=5):gP 8000 (rs.foldl (eK n) (kH n)):=by
 refine(BP rs 1 _ (λr J=>⟨h.sz r (Y r J),by rw[h.len r (Y r J)];have:=h.n7;omega⟩) (HG n)).mono ?_
 exact S4 (yO 200 rs.length 5 1 hl) big
theorem Ex{n:Nat}{rows:List (List Int)}(h:tU n rows):∃k O Ls,mf [vII rows,.int (n:Int)] []=.ok (.ptr k,O)/\O[k]? =some (.lst (cD Ls))/\Sto O Ls/\(∀p∈Ls,p.1≠k)/\Ls=eZ Ls/\Ls.map (·.2)=sS (nA rows n):=by
 have n7:=h.n7
 obtain⟨L0,E0,e0,m0,s0⟩:=JO (n:=n) (by omega) []
 rw[SE] at e0 s0
 obtain⟨s',el,rs,L,O,x3,ab,a0,J,ml⟩:=eN (ok:=okC (rows.map vI) none) (g:=aE 3) (body:=wG)
  (λpre s=>∃(rs:List (List Int)) (L:List (Nat×List Int)) (O:aC) (x3:Option D),pre=rs.map vI/\s=⟨[some (vII rows),some (.int (n:Int)),some (.lst (cD L)),x3],O⟩/\Sto O L/\L.map (·.2)=rs.foldl (eK n) (kH n)) (λ_ _ _=>trivial) (rows.map vI) [] (by
   rintro pre d rest ed s ⟨rs,L,O,x3,rfl,rfl,J,ml⟩
   rw[SE] at ed
   obtain⟨Y,l2,e1,e2,e3⟩:=List.map_eq_append_iff.mp ed
   cases l2 with
   | nil=>cases e3
   | cons r l2=>
    rw[Sm] at e3
    injection e3 with e3 e4
    subst e3
    have e5:Y=rs:=(T8 (λa b h=>by
     have:a.map D.int=b.map D.int:=by injection h
     exact(T8 (λx y q=>by cases q;rfl)).mp this)).mp e2
    subst e5
    have inR:∀q∈Y,q∈rows:=λq hq=>by rw[e1];exact Ut _ hq
    have rR:r∈rows:=by rw[e1];simp
    have k:kh n Y (nA Y n):=qG λq hq=>h.len q (inR q hq)
    have cl:Y.length<=5:=by have:=h.cnt;rw[e1,SH] at this;omega
    have mem:∀p∈L,cV n Y p.2:=λp hp=>(k.all p.2).mp (by
     show p.2∈Y.foldl (eK n) (kH n)
     rw[<- ml];exact SU hp)
    have wk:Wrk n L r 8000:=⟨λp hp=>(mem p hp).fit.len,λp hp=>(mem p hp).fit.nn,by
     have:=k.few n7
     have e:L.length=(nA Y n).length:=by show _=(Y.foldl (eK n) (kH n)).length;rw[<- ml,R9]
     omega,h.len r rR,by omega,by rw[ml];exact wB h inR cl,(h.sz r rR).mono (by decide),by decide⟩
    obtain⟨L',O',e6,m6,s6⟩:=Ma wk J
    refine⟨⟨[some (vII rows),some (.int (n:Int)),some (.lst (cD L)),some (vI r)],O⟩,⟨[some (vII rows),some (.int (n:Int)),some (.lst (cD L')),some (vI r)],O'⟩,rfl,.inl ?_,Y++[r],L',O',_,by simp,rfl,s6,by rw[m6,ml,Vf];rfl⟩
    rw[wG]
    exact bu (DW (ax (ag rfl) (ax (ag rfl) (ay _))) e6 rfl) rfl) ⟨[some (vII rows),some (.int (n:Int)),some (.lst (cD L0)),none],E0⟩ ⟨[],L0,E0,none,rfl,rfl,s0,m0⟩
 rw[SE] at ab
 have e5:rows=rs:=(T8 (λa b h=>by
  have:a.map D.int=b.map D.int:=by injection h
  exact(T8 (λx y q=>by cases q;rfl)).mp this)).mp ab
 subst e5
 subst a0
 have k:kh n rows (nA rows n):=qG h.len
 have ac:L.map (·.2)=nA rows n:=ml
 have nd:(L.map (·.2)).Nodup:=by rw[ac];exact k.nd
 have few:L.length<64:=by have:=k.few n7;rw[<- ac,R9] at this;exact this
 have so:uQ t7 (aa 2) ⟨[some (vII rows),some (.int (n:Int)),some (.lst (cD L)),x3],O⟩=.ok (.ptr O.length,⟨[some (vII rows),some (.int (n:Int)),some (.lst (cD L)),x3],O++[.lst (cD (eZ L))]⟩):=(wR (O:=O) (fin:=t7) (ag rfl) rfl J few nd).trans (EH _ _)
 have mem:∀p∈eZ L,p∈L:=λp hp=>(iP L).mem_iff.mp hp
 refine⟨O.length,O++[.lst (cD (eZ L))],eZ L, ?_,by simp,λp hp=>(J.app _) p (mem p hp),λp hp=>SX (J.lt (mem p hp)), ?_,by rw[yS,ac]⟩
 ·refine eM (R:=[some (vII rows),some (.int (n:Int)),some (.lst (cD L)),x3]) ?_
  show qe ⟨[some (vII rows),some (.int (n:Int)),none,none],[]⟩=_
  rw[qe]
  refine aT (bu (DW (ax (ag rfl) (ay _)) e0 rfl) rfl) (aT ?_ (bW so))
  exact(dh (im:=listI (aa 0)) (ds:=rows.map vI) (k:=none) (s1:=⟨[some (vII rows),some (.int (n:Int)),some (.lst (cD L0)),none],E0⟩) (by rw[cJ,ag (i:=0) rfl,aj];rfl)).trans el
 ·refine wJ (iP _).symm ?_ (pe L) (pe _)
  exact((iP L).map (·.2)).nodup_iff.mpr nd
theorem Kr(A:List (List Int)){d:D}(h:df d=true):aP [vII A,d]=true:=by
 rw[dQ,dQ,gW,jm,h]
 rfl
theorem uB{O:aC}:∀{L:List (Nat×List Int)},Sto O L->bP O (cD L)=(L.map (·.2)).map vI
 | [],_=>by simp
 | p::L,h=>by
  have e:=uB (L:=L) λq hq=>h q (Sl _ hq)
  have hp:=h p Sr
  show bP O (.ptr p.1::cD L)=_
  rw[d4,e,lC hp]
  rfl
theorem DS(n:Nat):∀L:List (Nat×List Int),fP n (cD L)=cD (L.map λp=>(n+p.1,p.2))
 | []=>by simp[fP]
 | p::L=>by
  show fP n (.ptr p.1::cD L)=_
  unfold fP
  rw[DS n L,iD]
  rfl
theorem Av{O S:aC}{L:List (Nat×List Int)}(h:Sto O L):Sto (S++O.map (shC S.length)) (L.map λp=>(S.length+p.1,p.2)):=λq hq=>by
 obtain⟨p,hp,rfl⟩:=Su.mp hq
 dsimp only
 rw[Sj (by omega),S8,SF,h p hp]
 simp
theorem yF{O S:aC}{k:Nat}{L:List (Nat×List Int)}(h:O[k]? =some (.lst (cD L))):(S++O.map (shC S.length))[S.length+k]? =some (.lst (cD (L.map λp=>(S.length+p.1,p.2)))):=by
 rw[Sj (by omega),S8,SF,h]
 simp only[Tn,pS,DS]
theorem zO:∀(n:Nat) (a b:Int) (L z x:Option D) (O:aC),0<=a->0<=b->b.natAbs<n->∃y,j4 (bc (ak gtD (aa 3) (aq (.int 0)))) lD n ⟨[L,some (.int a),z,some (.int b),x],O⟩=.next ⟨[L,some (.int (Te a.natAbs b.natAbs:Nat)),z,some (.int 0),y],O⟩
 | 0,_,_,_,_,_,_,_,_,h=>by omega
 | n+1,a,b,L,z,x,O,ha,hb,hn=>by
  have t:bc (ak gtD (aa 3) (aq (.int 0))) ⟨[L,some (.int a),z,some (.int b),x],O⟩=.ok (decide (0<b),⟨[L,some (.int a),z,some (.int b),x],O⟩):=i6 (ag rfl)
  rw[j4,t,nu]
  by_cases h:b=0
  ·subst h
   refine⟨x, ?_⟩
   have e:((Te a.natAbs (0:Int).natAbs:Nat):Int)=a:=by
    rw[Wi,VS]
    omega
   rw[e]
   rfl
  ·have hb':0<b:=by omega
   have h1:0<=a%b:=Tw a h
   have h2:a%b<b:=Tf a hb'
   obtain⟨y,e⟩:=zO n b (a%b) L z (some (.int (a%b))) O hb h1 (by omega)
   refine⟨y, ?_⟩
   have J:lD ⟨[L,some (.int a),z,some (.int b),x],O⟩=.next ⟨[L,some (.int b),z,some (.int (a%b)),some (.int (a%b))],O⟩:=by
    rw[lD]
    exact aT (bu (aI (ag rfl) (ag rfl) (gc hb')) rfl) (aT (bu (ag rfl) rfl) (bu (ag rfl) rfl))
   rw[decide_eq_true hb',if_pos rfl,J]
   dsimp only
   rw[e]
   have e2:(a%b).natAbs=a.natAbs%b.natAbs:=by
    have:((a%b).natAbs:Int)=((a.natAbs%b.natAbs:Nat):Int):=by
     rw[TQ h1,Wa,TQ ha,TQ hb]
    omega
   rw[e2,show Te a.natAbs b.natAbs=Te b.natAbs (a.natAbs%b.natAbs) by rw[Vr a.natAbs,Nat.gcd_rec b.natAbs,Vr]]
theorem Lo(ns:List Int):i4 [.tup (ns.map D.int)] []=.ok (.int (dj ns:Nat),[]):=by
 obtain⟨s',e,c,x,y,z,h1,h2⟩:=eN (ok:=okC (ns.map D.int) none) (g:=aE 2) (body:=lb)
  (λpre s=>∃(ms:List Int) (x y z:Option D),pre=ms.map D.int/\s=⟨[some (.tup (ns.map D.int)),some (.int (ms.foldl (λc n=>Te c n.natAbs) 0:Nat)),x,y,z],[]⟩) (λ_ _ _=>trivial) (ns.map D.int) [] (by
   rintro pre d rest e s ⟨ms,x,y,z,rfl,rfl⟩
   have hd:d∈ns.map D.int:=by rw[SE] at e;rw[e];simp
   obtain⟨m,_,rfl⟩:=Su.mp hd
   obtain⟨w,Y⟩:=zO ((m.natAbs:Int).natAbs+1) (ms.foldl (λc n=>Te c n.natAbs) 0:Nat) (m.natAbs:Int) (some (.tup (ns.map D.int))) (some (.int m)) z [] (by omega) (by omega) (by omega)
   refine⟨⟨[some (.tup (ns.map D.int)),some (.int (ms.foldl (λc n=>Te c n.natAbs) 0:Nat)),some (.int m),y,z],[]⟩,⟨[some (.tup (ns.map D.int)),some (.int (Te (ms.foldl (λc n=>Te c n.natAbs) 0) m.natAbs:Nat)),some (.int m),some (.int 0),w],[]⟩,rfl,.inl ?_,ms++[m],some (.int m),some (.int 0),w,by simp,by rw[Vf];rfl⟩
   rw[lb]
   exact aT (bu (R:=[some (.tup (ns.map D.int)),some (.int (ms.foldl (λc n=>Te c n.natAbs) 0:Nat)),some (.int m),y,z]) (O:=[]) (dq (ax (ag rfl) (ay _)) (IT _)) rfl) (by exact Y)) ⟨[some (.tup (ns.map D.int)),some (.int 0),none,none,none],[]⟩ ⟨[],none,none,none,rfl,rfl⟩
 rw[SE] at h1
 have hc:c=ns:=(T8 (λa b h=>by cases h;rfl)).mp h1.symm
 subst hc
 have J:=dh (im:=tupI (aa 0)) (g:=aE 2) (body:=lb) (s:=⟨[some (.tup (c.map D.int)),some (.int 0),none,none,none],[]⟩) (ds:=c.map D.int) (k:=none) (s1:=⟨[some (.tup (c.map D.int)),some (.int 0),none,none,none],[]⟩) (by show Res.bind (aa 0 _) _=_;rw[ag (i:=0) rfl,aj];rfl)
 rw[e,h2] at J
 refine eM (R:=[some (.tup (c.map D.int)),some (.int (dj c:Nat)),x,y,z]) ?_
 show kL ⟨[some (.tup (c.map D.int)),none,none,none,none],[]⟩=_
 rw[kL]
 exact aT (bu (R':=[some (.tup (c.map D.int)),some (.int 0),none,none,none]) (aD _ _) rfl) (aT J (bW (ag rfl)))
theorem wY{ts:List Int}{m:Nat}(h:ts.length=m)(J:m<=1000):fN [vI ts,.int (m:Int)] []=.ok (.bl true,[]):=by
 have hc:=dJ (l:=ts) (item:=D.int) (out:=λ_=>.bl true) (caps:=[]) (im:=listI (aa 0)) (e:=AV (unM (iX "int") (aa 0)) (BX (unM (iX "bool") (aa 0)))) (k:=none) (s:=⟨[some (vI ts),some (.int (m:Int))],[]⟩) (by simp) trivial (by omega) (λx _=>by simp)
 rw[show ts.map (λ_=>D.bl true)=(ts.map λ_=>true).map D.bl by rw[So];rfl] at hc
 refine eM (R:=[some (vI ts),some (.int (m:Int))]) ?_
 show iF ⟨[some (vI ts),some (.int (m:Int))],[]⟩=_
 rw[iF]
 refine aT (dN (p:=(!true)|| !decide ((ts.length:Int)=(m:Int))) (Pp (oC (cZ (uc (ag rfl) (D9 _ _)))) (cZ (aI (dq (ax (ag rfl) (ay _)) (by rw[d9,R9])) (ag rfl) (mW _ _)))) (by simp[h]) (cj _)) (bW (dq (ax hc (ay _)) ?_))
 rw[rL]
 simp
theorem Im{O:aC}(a b:Nat):ER O (.int (a:Int)) (.int (b:Int))=.ok (.int ((a&&&b:Nat):Int)):=by
 have e:Builtin.bitAnd (a:Int) (b:Int)=((a&&&b:Nat):Int):=by
  unfold Builtin.bitAnd
  rw[decide_eq_true (show (0:Int)<=(a:Int) by omega),decide_eq_true (show (0:Int)<=(b:Int) by omega)]
  dsimp only
  rw[Ul,Ul]
 show Res.ok (D.int (Builtin.bitAnd (a:Int) (b:Int)))=_
 rw[e]
theorem LO{O:aC}{i:Nat}(h:i<=1000):FD O (.int 1) (.int (i:Int))=.ok (.int ((2^i:Nat):Int)):=by
 have:FD O (.int 1) (.int (i:Int))=.ok (.int (1*2^((i:Int)).toNat)):=if_pos ⟨by omega,by omega,by decide⟩
 rw[this,Int.one_mul,Ul,Int.natCast_pow]
 rfl
def uP:List Int->Nat->Nat->Nat
 | [],_,m=>m
 | a::x,i,m=>uP x (i+1) (if 0<a then m|||2^i else m)
def pO(x:List Int):Nat:=uP x 0 0
theorem zz:∀(x:List Int) (i m j:Nat),(uP x i m).testBit j=(m.testBit j||(decide (i<=j)&&decide (0<nth x (j-i))))
 | [],i,m,j=>by
  have:nth ([]:List Int) (j-i)=0:=rfl
  unfold uP
  rw[this];simp
 | a::x,i,m,j=>by
  unfold uP
  rw[zz x (i+1) _ j]
  rcases V3 j i with h | h | h
  ·have h1:decide (i+1<=j)=false:=decide_eq_false (by omega)
   have h2:decide (i<=j)=false:=decide_eq_false (by omega)
   rw[h1,h2]
   split
   ·rw[Uc,UZ,decide_eq_false (show ¬i=j by omega)];simp
   ·simp
  ·subst h
   have h1:decide (j+1<=j)=false:=decide_eq_false (by omega)
   have h2:nth (a::x) (j-j)=a:=by rw[Vt];rfl
   rw[h1,h2]
   split
   ·rename_i q
    rw[Uc,UZ];simp[q]
   ·rename_i q
    simp[q]
  ·have h1:decide (i+1<=j)=true:=decide_eq_true (by omega)
   have h2:decide (i<=j)=true:=decide_eq_true (by omega)
   have J:nth (a::x) (j-i)=nth x (j-(i+1)):=by
    rw[show j-i=(j-(i+1))+1 by omega];rfl
   rw[h1,h2,J]
   split
   ·rw[Uc,UZ,decide_eq_false (show ¬i=j by omega)];simp
   ·rfl
theorem yM(x:List Int)(j:Nat):(pO x).testBit j=decide (0<nth x j):=by
 unfold pO
 rw[zz]
 simp
theorem zE(L:D):∀(x:List Int) (i m:Nat) (J Y:Option D),i+x.length<=1000->∃y2 y3,cx (okC (dD [L]) none) (cI (aS (aE 2) (aS (aE 3) cL)) 2) jf ((x.zipIdx i).map λp=>.tup [.int (p.2:Int),.int p.1]) ⟨[some L,some (.int (m:Int)),J,Y],[]⟩=.next ⟨[some L,some (.int (uP x i m:Int)),y2,y3],[]⟩
 | [],i,m,J,Y,_=>⟨J,Y,by rw[Wp,S5,cx,if_pos (show okC (dD [L]) none _ from trivial)];rfl⟩
 | a::x,i,m,J,Y,h=>by
  have t:bc (ak gtD (aa 3) (aq (.int 0))) ⟨[some L,some (.int (m:Int)),some (.int (i:Int)),some (.int a)],[]⟩=.ok (decide (0<a),⟨[some L,some (.int (m:Int)),some (.int (i:Int)),some (.int a)],[]⟩):=i6 (ag rfl)
  have hb:jf ⟨[some L,some (.int (m:Int)),some (.int (i:Int)),some (.int a)],[]⟩=.next ⟨[some L,some (.int ((if 0<a then m|||2^i else m:Nat):Int)),some (.int (i:Int)),some (.int a)],[]⟩:=by
   rw[jf]
   by_cases ha:0<a
   ·rw[if_pos ha]
    exact lu t (decide_eq_true ha) (bu (aI (ag rfl) (aI (aD _ _) (ag rfl) (LO (by simp at h;omega))) (Bv _ _)) rfl)
   ·rw[if_neg ha]
    exact dN t (decide_eq_false ha) (cj _)
  obtain⟨y2,y3,e⟩:=zE L x (i+1) (if 0<a then m|||2^i else m) (some (.int (i:Int))) (some (.int a)) (by simp at h;omega)
  refine⟨y2,y3, ?_⟩
  rw[Vw,Sm]
  exact(dB (s1:=⟨[some L,some (.int (m:Int)),some (.int (i:Int)),some (.int a)],[]⟩) trivial (by rw[iW];rfl) hb).trans e
theorem xu{x:List Int}(h:x.length<=1000):d6 [vI x] []=.ok (.int (pO x:Int),[]):=by
 obtain⟨J,Y,e⟩:=zE (vI x) x 0 0 none none (by omega)
 have hf:=dh (im:=cT (ae (aa 0) ao)) (g:=cI (aS (aE 2) (aS (aE 3) cL)) 2) (body:=jf) (s:=⟨[some (vI x),some (.int 0),none,none],[]⟩) (ds:=(x.zipIdx 0).map λp=>.tup [.int (p.2:Int),.int p.1]) (k:=none) (s1:=⟨[some (vI x),some (.int 0),none,none],[]⟩) (by simp[sm])
 refine eM (R:=[some (vI x),some (.int (pO x:Int)),J,Y]) ?_
 show ic ⟨[some (vI x),none,none,none],[]⟩=_
 rw[ic]
 exact aT (bu (R':=[some (vI x),some (.int 0),none,none]) (aD _ _) rfl) (aT (hf.trans e) (bW (ag rfl)))
theorem wW{O:aC}:∀L:List (List Int),keyed O (L.map vI)=some (L.map λx=>(vI x,x))
 | []=>rfl
 | x::L=>by
  have c:oA O (vI x)=some x:=by
   unfold oA
   show oS (x.map D.int)=some x
   exact pM _
  show keyed O (vI x::L.map vI)=_
  unfold keyed
  rw[c,wW L]
  rfl
theorem G4{J Y:EM}{s s1 s2:S}{i j:Int}(h1:J s=.ok (.int i,s1))(h2:Y s1=.ok (.int j,s2)):bf pB (ae J (ae Y ao)) s=.ok (.int (max i j),s2):=by
 refine dq (ax h1 (ax h2 (ay _))) ?_
 show Res.ok (D.int (if j>i then j else i))=_
 congr 2
 split <;> omega
def qR(l:List (Str×Int))(g:Str)(a:Int):List (Str×Int):=if 0<a then l++[(g,a)] else l
theorem qu(h:Str)(l r:List (Str×Int)):sumOf h (l++r)=sumOf h l+sumOf h r:=by
 unfold sumOf
 rw[List.filter_append,SG,Wo]
theorem HJ(h:Str)(l:List (Str×Int)):sumOf h l.reverse=sumOf h l:=by
 induction l with
 | nil=>rfl
 | cons p l J=>
  rw[List.reverse_cons,qu,J,show p::l=[p]++l from rfl,qu,Int.add_comm]
theorem yY(h g:Str)(a:Int):sumOf h [(g,a)]=if g=h then a else 0:=by
 unfold sumOf
 by_cases e:g=h
 ·rw[if_pos e,S2 (by simpa using e)];simp
 ·rw[if_neg e,S9 (by simpa using e)];rfl
theorem Hn{h:Str}{l:List (Str×Int)}(e:∀p∈l,p.1≠h):sumOf h l=0:=by
 unfold sumOf
 rw[List.filter_eq_nil_iff.mpr (λp hp=>by simpa using e p hp)]
 rfl
theorem Eh{goods:List Str}(J:goods.Nodup){i:Nat}(hi:i<goods.length){l:List (Str×Int)}(h:Pt goods i l)(a:Int):Pt goods (i+1) (qR l goods[i] a):=by
 unfold qR
 split
 ·exact h.more J hi (by omega)
 ·exact h.same
theorem zK{goods:List Str}(J:goods.Nodup){i:Nat}(hi:i<goods.length){l:List (Str×Int)}(h:Pt goods i l){a:Int}(ha:0<=a):sumOf goods[i] (qR l goods[i] a)=a:=by
 have z:sumOf goods[i] l=0:=Hn λp hp e=>by
  have:=h.mem p hp
  rw[e] at this
  exact lj J hi this
 unfold qR
 split
 ·rw[qu,z,yY,if_pos rfl,Int.zero_add]
 ·rw[z];omega
theorem xM{goods:List Str}(J:goods.Nodup){i j:Nat}(hi:i<goods.length)(Y:j<i)(l:List (Str×Int))(a:Int):sumOf (goods[j]'(by omega)) (qR l goods[i] a)=sumOf (goods[j]'(by omega)) l:=by
 have ne:goods[i]≠goods[j]'(by omega):=λe=>by
  have:goods[j]'(by omega)∈goods.take i:=SY (i:=j) (by rw[Vm Y,Sa (by omega)])
  exact lj J hi (by rw[e];exact this)
 unfold qR
 split
 ·rw[qu,yY,if_neg ne,VU]
 ·rfl
structure WkI(goods:List Str)(mv:List Int)(i:Nat)(us ms:List (Str×Int)):Prop where
 u:Pt goods i us
 m:Pt goods i ms
 s:∀j,(hj:j<goods.length)->j<i->sumOf goods[j] ms-sumOf goods[j] us=nth mv j
abbrev woR(A:List (List Int))(goods zs:List Str)(c:Int)(J x6 x7 x8 x9 x10 x11:Option D):List (Option D):=[some (vII A),some (sD goods),some (sD zs),some (.int c),some (.ptr 0),J,x6,x7,x8,x9,x10,x11]
theorem Fl{O:aC}{l:List Str}{i:Nat}(h:i<l.length):ixD O (sD l) (.int (i:Int))=.ok (.str l[i]):=by
 refine rH ?_
 rw[n5 (by simpa using h)]
 simp
theorem CF{R:List (Option D)}{O:aC}{goods:List Str}{J slot i:Nat}{l:List (Str×Int)}{me:EM}{a:Int}(hi:i<goods.length)(h1:R[1]? =some (some (sD goods)))(h9:R[9]? =some (some (.int (i:Int))))(hs:R[slot]? =some (some (.ptr J)))(Y:O[J]? =some (.lst (l.map pD)))(hl:l.length<=1000)(he:me ⟨R,O⟩=.ok (.int a,⟨R,O⟩)):
 ∃O',ifS (bc (ak gtD me (aq (.int 0)))) (de (ip (aa slot) (kC (ae (ak ixD (aa 1) (aa 9)) (ae me ao))))) bU ⟨R,O⟩=.next ⟨R,O'⟩/\O'[J]? =some (.lst ((qR l goods[i] a).map pD))/\∀q,q≠J->O'[q]? =O[q]? :=by
 have t:=i6 (j:=0) he
 unfold qR
 by_cases h:0<a
 ·rw[if_pos h]
  refine⟨O.set J (.lst (l.map pD++[pD (goods[i],a)])),lu t (decide_eq_true h) (cK (mz (ag hs) Y (qx (ax (aI (ag h1) (ag h9) (Fl hi)) (ax he (ay _))) (by simp)) Y (by simp;omega) rfl)),by rw[fH Y,SG];rfl,λq hq=>cS λz=>hq z.symm⟩
 ·rw[if_neg h]
  exact⟨O,dN t (decide_eq_false h) (cj _),Y,λ_ _=>rfl⟩
theorem Kz{A:List (List Int)}{goods zs:List Str}{c v:Int}{k i ku km:Nat}{mv:List Int}{us ms:List (Str×Int)}{O:aC}{x11:Option D}(J:goods.Nodup)(hi:i<goods.length)(hg:goods.length<=100)(hv:nth mv i=v)(Y:ku≠km)(h:WkI goods mv i us ms)(hu:O[ku]? =some (.lst (us.map pD)))(hm:O[km]? =some (.lst (ms.map pD))):
 ∃ab ac O' an,jP ⟨woR A goods zs c (some (.int (k:Int))) (some (vI mv)) (some (.ptr ku)) (some (.ptr km)) (some (.int (i:Int))) (some (.int v)) x11,O⟩=.next ⟨woR A goods zs c (some (.int (k:Int))) (some (vI mv)) (some (.ptr ku)) (some (.ptr km)) (some (.int (i:Int))) (some (.int v)) an,O'⟩/\WkI goods mv (i+1) ab ac/\O'[ku]? =some (.lst (ab.map pD))/\O'[km]? =some (.lst (ac.map pD))/\∀q,q≠ku->q≠km->O'[q]? =O[q]? :=by
 have p0:=jv (c:=c+(k:Int)) (t:=70+(i:Int)) (m:=4) (by decide)
 have q0:=jv (c:=c+(k:Int)) (t:=80+(i:Int)) (m:=9) (by decide)
 have p1:=mF (c:=c+(k:Int)) (t:=70+(i:Int)) (m:=4) (by decide)
 have am:setM 11 (ak cF (ak iy (aQ 3 aL (ae (ak bt (aa 3) (aa 5)) (ae (ak bt (aq (.int 70)) (aa 9)) (ae (aq (.int 4)) ao)))) (aq (.int 3))) (ak bt (aq (.int 1)) (aQ 3 aL (ae (ak bt (aa 3) (aa 5)) (ae (ak bt (aq (.int 80)) (aa 9)) (ae (aq (.int 9)) ao)))))) ⟨woR A goods zs c (some (.int (k:Int))) (some (vI mv)) (some (.ptr ku)) (some (.ptr km)) (some (.int (i:Int))) (some (.int v)) x11,O⟩=.next ⟨woR A goods zs c (some (.int (k:Int))) (some (vI mv)) (some (.ptr ku)) (some (.ptr km)) (some (.int (i:Int))) (some (.int v)) (some (.int (cf (c+(k:Int)) (70+(i:Int)) 4/3*(1+cf (c+(k:Int)) (80+(i:Int)) 9)))),O⟩:=
  bu (aI (aI (gs (aI (ag rfl) (ag rfl) (bT _ _)) (aI (aD _ _) (ag rfl) (bT _ _)) (aD _ _) (by decide)) (aD _ _) (vM (by decide) (by decide))) (aI (aD _ _) (gs (aI (ag rfl) (ag rfl) (bT _ _)) (aI (aD _ _) (ag rfl) (bT _ _)) (aD _ _) (by decide)) (bT _ _)) (cO (fj (.inl (by omega))))) rfl
 have m0:0<=cf (c+(k:Int)) (70+(i:Int)) 4/3*(1+cf (c+(k:Int)) (80+(i:Int)) 9):=TF (by omega) (by omega)
 generalize cf (c+(k:Int)) (70+(i:Int)) 4/3*(1+cf (c+(k:Int)) (80+(i:Int)) 9)=m at am m0
 have ul:=h.u.len
 have ml:=h.m.len
 obtain⟨O1,e1,g1,k1⟩:=CF (R:=woR A goods zs c (some (.int (k:Int))) (some (vI mv)) (some (.ptr ku)) (some (.ptr km)) (some (.int (i:Int))) (some (.int v)) (some (.int m))) (slot:=7) (me:=ak bt (aa 11) (bf pB (ae (aq (.int 0)) (ae (unM mI (aa 10)) ao)))) (a:=m+max 0 (-v)) hi rfl rfl rfl hu (by omega) (aI (ag rfl) (G4 (aD _ _) (uc (ag rfl) (sE _))) (bT _ _))
 obtain⟨O2,e2,g2,k2⟩:=CF (R:=woR A goods zs c (some (.int (k:Int))) (some (vI mv)) (some (.ptr ku)) (some (.ptr km)) (some (.int (i:Int))) (some (.int v)) (some (.int m))) (O:=O1) (slot:=8) (me:=ak bt (aa 11) (bf pB (ae (aq (.int 0)) (ae (aa 10) ao)))) (a:=m+max 0 v) (l:=ms) hi rfl rfl rfl (by rw[k1 _ Y.symm];exact hm) (by omega) (aI (ag rfl) (G4 (aD _ _) (ag rfl)) (bT _ _))
 refine⟨qR us goods[i] (m+max 0 (-v)),qR ms goods[i] (m+max 0 v),O2,some (.int m), ?_,⟨Eh J hi h.u _,Eh J hi h.m _,λj hj a6=> ?_⟩,by rw[k2 _ Y];exact g1,g2,λq h1 h2=>by rw[k2 q h2,k1 q h1]⟩
 ·rw[jP]
  exact aT am (aT e1 e2)
 ·by_cases e:j=i
  ·subst e
   rw[zK J hi h.m (by omega),zK J hi h.u (by omega),hv]
   omega
  ·rw[xM J hi (by omega),xM J hi (by omega)]
   exact h.s j hj (by omega)
theorem Jl{m:EM}{s:S}{R:List (Option D)}{O:aC}{k:Nat}{ds:List D}(h:m s=.ok (.ptr k,⟨R,O⟩))(hc:O[k]? =some (.lst ds)):BJ m s=.ok (.lst ds,⟨R,O.set k .dead⟩):=by
 rw[Eg,h,aj]
 dsimp only
 rw[oq hc]
theorem II{m:EM}{s s1:S}{ds:List D}(h:m s=.ok (.lst ds,s1)):BJ m s=.ok (.lst ds,s1):=by
 rw[Eg,h,aj]
 rfl
structure E8(goods:List Str)(w:Wk):Prop where
 us:kX goods w.us/\w.us.length<=100
 ms:kX goods w.ms/\w.ms.length<=100
theorem JB{A:List (List Int)}{goods zs:List Str}{c:Int}{k:Nat}{mv:List Int}{W:List Wk}{O:aC}{x7 x8 x9 x10 x11:Option D}(nd:goods.Nodup)(hg:goods.length<=100)(hk:k<zs.length)(hl:mv.length=goods.length)(wl:W.length<=1000)(hO:O[0]? =some (.lst (W.map wD))):
 ∃w O' y7 y8 y9 a3 a0,jI ⟨woR A goods zs c (some (.int (k:Int))) (some (vI mv)) x7 x8 x9 x10 x11,O⟩=.next ⟨woR A goods zs c (some (.int (k:Int))) (some (vI mv)) y7 y8 y9 a3 a0,O'⟩/\O'[0]? =some (.lst ((W++[w]).map wD))/\w.nm=zs[k]/\E8 goods w/\goods.map (chg w)=mv:=by
 have o0:0<O.length:=qf hO
 have e7:setM 7 (jG ao) ⟨woR A goods zs c (some (.int (k:Int))) (some (vI mv)) x7 x8 x9 x10 x11,O⟩=.next ⟨woR A goods zs c (some (.int (k:Int))) (some (vI mv)) (some (.ptr O.length)) x8 x9 x10 x11,O++[.lst []]⟩:=bu (oQ (ay _) (by simp) rfl rfl) rfl
 have e8:setM 8 (jG ao) ⟨woR A goods zs c (some (.int (k:Int))) (some (vI mv)) (some (.ptr O.length)) x8 x9 x10 x11,O++[.lst []]⟩=.next ⟨woR A goods zs c (some (.int (k:Int))) (some (vI mv)) (some (.ptr O.length)) (some (.ptr (O.length+1))) x9 x10 x11,O++[.lst []]++[.lst []]⟩:=bu (oQ (ay _) (by simp) (by simp) rfl) rfl
 have cu:(O++[Cell.lst []]++[Cell.lst []])[O.length]? =some (.lst (([]:List (Str×Int)).map pD)):=fO mT
 have cm:(O++[Cell.lst []]++[Cell.lst []])[O.length+1]? =some (.lst (([]:List (Str×Int)).map pD)):=by
  have:=mT (O:=O++[Cell.lst []]) (c:=Cell.lst [])
  rw[SH] at this
  exact this
 have c0:(O++[Cell.lst []]++[Cell.lst []])[0]? =some (.lst (W.map wD)):=fO (fO hO)
 generalize O++[Cell.lst []]++[Cell.lst []]=O1 at e8 cu cm c0
 obtain⟨J,hku⟩:∃J,O.length=J:=⟨_,rfl⟩
 rw[hku] at e7 e8 cu cm o0
 have a7:J≠J+1:=by omega
 obtain⟨s',el,us,ms,O2,ac,Y,ab,hw,hu,hm,h0,a8⟩:=eN (ok:=okC (dD (mv.map D.int)) none) (g:=cI (aS (aE 9) (aS (aE 10) cL)) 2) (body:=jP)
  (λpre s=>∃(us ms:List (Str×Int)) (O2:aC) (x9 x10 x11:Option D),WkI goods mv pre.length us ms/\O2[J]? =some (.lst (us.map pD))/\O2[J+1]? =some (.lst (ms.map pD))/\O2[0]? =some (.lst (W.map wD))/\s=⟨woR A goods zs c (some (.int (k:Int))) (some (vI mv)) (some (.ptr J)) (some (.ptr (J+1))) x9 x10 x11,O2⟩) (λ_ _ _=>trivial) (dD (mv.map D.int)) [] (by
   rintro pre d rest ed s ⟨us,ms,O2,x9,x10,x11,h1,h2,h3,h4,rfl⟩
   rw[SE,kA] at ed
   obtain⟨a9,rfl⟩:=nO ed
   obtain⟨an,bb,O3,a0,eb,bd,be,bi,bm⟩:=Kz (A:=A) (goods:=goods) (zs:=zs) (c:=c) (v:=mv[pre.length]) (k:=k) (i:=pre.length) (ku:=J) (km:=J+1) (mv:=mv) (us:=us) (ms:=ms) (O:=O2) (x11:=x11) nd (by omega) hg (by
    unfold nth
    rw[R6,Sa a9];rfl) a7 h1 h2 h3
   refine⟨_,_,by rw[iW];rfl,.inl eb,an,bb,O3,_,_,_, ?_,be,bi,by rw[bm 0 (by omega) (by omega)];exact h4,rfl⟩
   rw[SH,SN];exact bd) ⟨woR A goods zs c (some (.int (k:Int))) (some (vI mv)) (some (.ptr J)) (some (.ptr (J+1))) x9 x10 x11,O1⟩ ⟨[],[],O1,x9,x10,x11,⟨⟨by simp,by simp,by simp,by simp⟩,⟨by simp,by simp,by simp,by simp⟩,λj _ h=>absurd h (by simp)⟩,cu,cm,c0,rfl⟩
 rw[SE,show (dD (mv.map D.int)).length=goods.length by rw[kA];simp[hl]] at hw
 have hf:eC (cT (ae (aa 6) ao)) (cI (aS (aE 9) (aS (aE 10) cL)) 2) jP ⟨woR A goods zs c (some (.int (k:Int))) (some (vI mv)) (some (.ptr J)) (some (.ptr (J+1))) x9 x10 x11,O1⟩=.next ⟨woR A goods zs c (some (.int (k:Int))) (some (vI mv)) (some (.ptr J)) (some (.ptr (J+1))) ac Y ab,O2⟩:=by
  refine(dh (ds:=dD (mv.map D.int)) (k:=none) (s1:=⟨woR A goods zs c (some (.int (k:Int))) (some (vI mv)) (some (.ptr J)) (some (.ptr (J+1))) x9 x10 x11,O1⟩) ?_).trans (el.trans (by rw[a8]))
  rw[iB,ax (ag rfl) (ay _),aj]
 have as:∀an:List (Str×Int),(∀g,sumOf g an=sumOf g us)->goods.map (chg ⟨zs[k],an,ms⟩)=mv:=λan hs=>by
  refine Ud (by simp[hl]) λj h1 h2=> ?_
  have hj:j<goods.length:=by simpa using h1
  rw[Uv]
  show sumOf goods[j] ms-sumOf goods[j] an=_
  rw[hs,hw.s j hj hj]
  unfold nth
  rw[R6,Sa h2];rfl
 have b3:=hw.u.len
 have b4:=hw.m.len
 have t:bc (ak eqD (aQ 3 aL (ae (ak bt (aa 3) (aa 5)) (ae (aq (.int 90)) (ae (aq (.int 2)) ao)))) (aq (.int 1))) ⟨woR A goods zs c (some (.int (k:Int))) (some (vI mv)) (some (.ptr J)) (some (.ptr (J+1))) ac Y ab,O2⟩=.ok (decide (cf (c+(k:Int)) 90 2=1),⟨woR A goods zs c (some (.int (k:Int))) (some (vI mv)) (some (.ptr J)) (some (.ptr (J+1))) ac Y ab,O2⟩):=eq_test (gs (aI (ag rfl) (ag rfl) (bT _ _)) (aD _ _) (aD _ _) (by decide))
 generalize cf (c+(k:Int)) 90 2=p at t
 by_cases hp:p=1
 ·have er:Bi EX (aa 7) iO iO (part (unM mI (aq (.int 1)))) ⟨woR A goods zs c (some (.int (k:Int))) (some (vI mv)) (some (.ptr J)) (some (.ptr (J+1))) ac Y ab,O2⟩=.ok (psD us.reverse,⟨woR A goods zs c (some (.int (k:Int))) (some (vI mv)) (some (.ptr J)) (some (.ptr (J+1))) ac Y ab,O2⟩):=by
   unfold Bi
   rw[ag (i:=7) rfl,aj]
   dsimp only
   rw[qa,aj]
   dsimp only
   rw[qa,aj]
   dsimp only
   rw[xC (uc (aD _ _) (sE _)),aj]
   dsimp only
   rw[mY hu]
   dsimp only
   rw[if_neg (by decide),Jt,<- Wd]
   rfl
  refine⟨⟨zs[k],us.reverse,ms⟩,(O2.set (J+1) .dead).set 0 (.lst (W.map wD++[wD ⟨zs[k],us.reverse,ms⟩])),some (psD us.reverse),some (.ptr (J+1)),ac,Y,ab, ?_,(by rw[SG];exact fH (c':=.lst (W.map wD)) (by rw[cS (by omega)];exact h0)),rfl,⟨⟨hw.u.parts.rev,by simp;omega⟩,⟨hw.m.parts,by show ms.length<=100;omega⟩⟩,as _ λg=>HJ g us⟩
  rw[jI]
  refine aT e7 (aT e8 (aT hf (aT (lu t (decide_eq_true hp) (bu (R':=woR A goods zs c (some (.int (k:Int))) (some (vI mv)) (some (psD us.reverse)) (some (.ptr (J+1))) ac Y ab) er rfl)) (cK (mz (ag rfl) h0 (qx (ax (aI (ag rfl) (ag rfl) (Fl hk)) (ax (II (ag rfl)) (ax (pJ (ag rfl) hm rfl) (ay _)))) (by simp)) (by rw[cS (by omega)];exact h0) (by simp;omega) rfl)))))
 ·refine⟨⟨zs[k],us,ms⟩,((O2.set J .dead).set (J+1) .dead).set 0 (.lst (W.map wD++[wD ⟨zs[k],us,ms⟩])),some (.ptr J),some (.ptr (J+1)),ac,Y,ab, ?_,(by rw[SG];exact fH (c':=.lst (W.map wD)) (by rw[cS (by omega),cS (by omega)];exact h0)),rfl,⟨⟨hw.u.parts,by show us.length<=100;omega⟩,⟨hw.m.parts,by show ms.length<=100;omega⟩⟩,as _ λg=>rfl⟩
  rw[jI]
  refine aT e7 (aT e8 (aT hf (aT (dN t (decide_eq_false hp) (cj _)) (cK (mz (ag rfl) h0 (qx (ax (aI (ag rfl) (ag rfl) (Fl hk)) (ax (Jl (ag rfl) hu) (ax (pJ (ag rfl) (by rw[cS (by omega)];exact hm) rfl) (ay _)))) (by simp)) (by rw[cS (by omega),cS (by omega)];exact h0) (by simp;omega) rfl)))))
theorem Gn{A:List (List Int)}{goods zs:List Str}(c:Int)(nd:goods.Nodup)(hg:goods.length<=100)(ha:∀l∈A,l.length=goods.length)(hz:A.length<=zs.length)(al:A.length<=100):
 ∃ws O,gS [vII A,sD goods,sD zs,.int c] []=.ok (wsD ws,O)/\ws.map (·.nm)=zs.take A.length/\(∀w∈ws,E8 goods w)/\ws.map (λw=>goods.map (chg w))=A:=by
 obtain⟨s',el,W,O,x5,x6,x7,x8,x9,J,Y,h1,h2,h3,hO,az⟩:=eN (ok:=okC (dD (A.map vI)) none) (g:=cI (aS (aE 5) (aS (aE 6) cL)) 2) (body:=jI)
  (λpre s=>∃(W:List Wk) (O:aC) (x5 x6 x7 x8 x9 J Y:Option D),W.map (·.nm)=zs.take pre.length/\(∀w∈W,E8 goods w)/\W.map (λw=>goods.map (chg w))=A.take pre.length/\O[0]? =some (.lst (W.map wD))/\s=⟨woR A goods zs c x5 x6 x7 x8 x9 J Y,O⟩) (λ_ _ _=>trivial) (dD (A.map vI)) [] (by
   rintro pre d rest ed s ⟨W,O,x5,x6,x7,x8,x9,J,Y,h1,h2,h3,h4,rfl⟩
   rw[SE,kA] at ed
   obtain⟨a0,rfl⟩:=nO ed
   have wl:W.length<=1000:=by
    have:=congrArg T3 h3
    simp at this
    omega
   obtain⟨w,O',y7,y8,y9,bd,be,eb,a1,n1,mk,ch⟩:=JB (A:=A) (goods:=goods) (zs:=zs) (c:=c) (k:=pre.length) (mv:=A[pre.length]) (W:=W) (O:=O) (x7:=x7) (x8:=x8) (x9:=x9) (x10:=J) (x11:=Y) nd hg (by omega) (ha _ (S6 _)) wl h4
   refine⟨_,_,by rw[iW];rfl,.inl eb,W++[w],O',_,_,_,_,_,_,_, ?_,λz a2=> ?_, ?_,a1,rfl⟩
   ·rw[SH,SN,SG,h1,Sm,S5,n1,Um,Sa (by omega)];rfl
   ·rcases Sy.mp a2 with q | q
    ·exact h2 z q
    ·rw[Sv.mp q];exact mk
   ·rw[SH,SN,SG,h3,Sm,S5,ch,Um,Sa a0];rfl) ⟨woR A goods zs c none none none none none none none,[.lst []]⟩ ⟨[],[.lst []],none,none,none,none,none,none,none,by simp,by simp,by simp,rfl,rfl⟩
 have a3:(([]:List D)++dD (A.map vI)).length=A.length:=by rw[SE,kA];simp
 rw[a3] at h1 h3
 rw[List.take_length] at h3
 refine⟨W,O.set 0 .dead, ?_,h1,h2,h3⟩
 refine eM (R:=woR A goods zs c x5 x6 x7 x8 x9 J Y) ?_
 show lP ⟨[some (vII A),some (sD goods),some (sD zs),some (.int c),none,none,none,none,none,none,none,none],[]⟩=_
 rw[lP]
 refine aT (bu (R':=woR A goods zs c none none none none none none none) (oQ (ay _) (by simp) rfl rfl) rfl) (aT ?_ (bW (pJ (ag rfl) hO rfl)))
 refine(dh (ds:=dD (A.map vI)) (k:=none) (s1:=⟨woR A goods zs c none none none none none none none,[.lst []]⟩) ?_).trans (el.trans (by rw[az]))
 rw[iB,ax (ag rfl) (ay _),aj];rfl
theorem Pw{goods:List Str}{ws:List Wk}{f:Str}{d:D}{R:List (Option D)}{O:aC}{i:Nat}(h:R[i]? =some (some (yD goods ws)))(hd:qO f FN (yDs goods ws)=some d):o7 0 f (aa i) ⟨R,O⟩=.ok (d,⟨R,O⟩):=OR (ag h) hd
theorem K5(goods:List Str)(ws:List Wk):aP [yD goods ws]=true:=by
 show (aP (yDs goods ws)&&true)=true
 rw[iz];rfl
theorem Ep(goods:List Str)(ws:List Wk){ds:List D}(h:aP ds=true):aP (yD goods ws::ds)=true:=by
 show (aP (yDs goods ws)&&aP ds)=true
 rw[iz,h];rfl
theorem zB(goods:List Str){ws:List Wk}(h:ws.length<=1000):gn [yD goods ws] []=.ok (sD (ws.map (·.nm)),[]):=by
 refine eM (R:=[some (yD goods ws)]) ?_
 show hU ⟨[some (yD goods ws)],[]⟩=_
 rw[hU]
 have e:=dJ (l:=ws) (item:=wD) (out:=λw=>.str w.nm) (caps:=[]) (im:=listI (o7 0 "held_works" (aa 0))) (e:=ak ixD (aa 0) (aq (.int 0))) (k:=none) (s:=⟨[some (yD goods ws)],[]⟩) (by rw[cJ,Pw (i:=0) rfl rfl,aj];rfl) trivial (by omega) (λw _=>aI (ag rfl) (aD _ _) rfl)
 rw[show ws.map (λw=>D.str w.nm)=(ws.map (·.nm)).map D.str by rw[So];rfl] at e
 exact bW e
abbrev chL(goods:List Str)(ws:List Wk):List (List Int):=ws.map λw=>goods.map (chg w)
theorem AL{goods:List Str}{ws:List Wk}{f:Str}{d:D}{R:List (Option D)}{O:aC}{i:Nat}(h:R[i]? =some (some (yD goods ws)))(hd:qO f FN (yDs goods ws)=some d):o7 0 f (aa i) ⟨R,O⟩=.ok (d,⟨R,O⟩):=by
 rw[Ej,ag h,aj]
 dsimp only
 rw[if_pos rfl,hd]
def mG(goods:List Str)(ws:List Wk)(k:Nat):List Int:=ws.map λw=>nth (goods.map (chg w)) k
theorem NB{goods:List Str}{ws:List Wk}{k:Nat}(hk:k<goods.length)(h2:ws.length<=1000):kN [yD goods ws,.int (k:Int)] []=.ok (vI (mG goods ws k),[]):=by
 have hc:=dJ (l:=ws.map λw=>goods.map (chg w)) (item:=vI) (out:=λr=>.int (nth r k)) (caps:=[1]) (im:=listI (o7 0 "held_changes" (aa 0))) (e:=ak ixD (aa 0) (aa 1)) (k:=none) (s:=⟨[some (yD goods ws),some (.int (k:Int))],[]⟩) (by
  rw[cJ,AL (d:=vII (ws.map λw=>goods.map (chg w))) rfl (by rfl)];rfl) trivial (by rw[R9];omega) (λr J=>by
  obtain⟨w,_,rfl⟩:=Su.mp J
  rw[eO,ag (i:=0) rfl,aj,ag (i:=1) rfl,aj]
  dsimp only
  rw[mr (by rw[R9];exact hk)];rfl)
 rw[show (ws.map λw=>goods.map (chg w)).map (λr=>D.int (nth r k))=(mG goods ws k).map D.int by unfold mG;rw[So,So];rfl] at hc
 refine dZ (s:=⟨[some (yD goods ws),some (.int (k:Int))],[]⟩) ?_
 show nI ⟨[some (yD goods ws),some (.int (k:Int))],[]⟩=_
 rw[nI]
 exact bW hc
def ft(goods:List Str)(ws:List Wk):List (List Int):=(Sg goods.length).map (mG goods ws)
theorem yq{goods:List Str}{ws:List Wk}(h1:goods.length<=1000)(h2:ws.length<=1000):dR [yD goods ws] []=.ok (vII (ft goods ws),[]):=by
 have hc:=dJ (l:=Sg goods.length) (item:=λ(i:Nat)=>D.int (i:Int)) (out:=λk=>vI (mG goods ws k)) (caps:=[0]) (im:=du (ae (bf bO (ae (o7 0 "held_goods" (aa 0)) ao)) ao)) (e:=methP 0 "row" 1 kN (aa 1) (ae (aa 0) ao)) (k:=none) (s:=⟨[some (yD goods ws)],[]⟩) (by
  rw[dW (n:=goods.length) (s1:=⟨[some (yD goods ws)],[]⟩) (by
   rw[bh,g7,bh,AL (d:=sD goods) rfl (by rfl),aj,ay,aj,aj]
   dsimp only
   rw[d9,R9];rfl) (by omega),fL]) trivial (rG (by rw[UI];omega)) (λk hk=>
  sv (ns:=FN) (ds:=yDs goods ws) (args:=[.int (k:Int)]) (ag rfl) (by decide) (iz _ _) (by rw[bh,ag (i:=0) rfl];rfl) (by simp) rfl (NB (S3.mp hk) h2) (by generalize mG goods ws k=r;simp))
 rw[show (Sg goods.length).map (λk=>vI (mG goods ws k))=(ft goods ws).map vI by unfold ft;rw[So];rfl] at hc
 refine dZ (s:=⟨[some (yD goods ws)],[]⟩) ?_
 show gk ⟨[some (yD goods ws)],[]⟩=_
 rw[gk]
 exact bW hc
theorem MC{goods:List Str}{ws:List Wk}{way:List Int}(J:way.length=ws.length)(h2:ws.length<=1000)(Y:∀t∈way,0<=t):fW [yD goods ws,vI way] []=.ok (.non,[]):=by
 refine lI (s:=⟨[some (yD goods ws),some (vI way)],[]⟩) ?_
 show hE ⟨[some (yD goods ws),some (vI way)],[]⟩=_
 rw[hE]
 have hc:=dJ (l:=way) (item:=D.int) (out:=λt=>.bl (decide (t<0))) (caps:=[]) (im:=listI (aa 1)) (e:=ak ltD (aa 0) (aq (.int 0))) (k:=none) (s:=⟨[some (yD goods ws),some (vI way)],[]⟩) (by rw[cJ,ag (i:=1) rfl];rfl) trivial (by omega) (λt _=>by
  rw[eO,ag (i:=0) rfl,aj,aD,aj];rfl)
 rw[show way.map (λt=>D.bl (decide (t<0)))=(way.map λt=>decide (t<0)).map D.bl by rw[So];rfl] at hc
 refine SR (dX (SR (nS (s':=⟨[some (yD goods ws),some (vI way)],[]⟩) ?_) rfl)) (SR (nS (s':=⟨[some (yD goods ws),some (vI way)],[]⟩) ?_) rfl)
 ·rw[g9,eO,g7,bh,ag (i:=1) rfl,aj,ay,aj,aj]
  dsimp only
  rw[d9,aj,aj,g7,bh,AL (d:=wsD ws) rfl (by rfl),aj,ay,aj,aj]
  dsimp only
  rw[d9,aj,aj]
  dsimp only
  rw[R9,R9,mW,J,decide_eq_true rfl];rfl
 ·rw[g9,g7,bh,hc,aj,ay,aj,aj]
  dsimp only
  rw[wM,show (way.map λt=>decide (t<0)).any id=false by
   rw[Uq,Vc]
   intro t ht
   simp[Y t ht]]
  rfl
def lvL(goods:List Str)(ws:List Wk)(way:List Int):List Int:=(ft goods ws).map λr=>aO r way
structure M9(goods:List Str)(ws:List Wk)(way:List Int):Prop where
 ok:∀w∈ws,∀g∈goods,∀t∈way,IntMulOk (chg w g) t
theorem D0{goods:List Str}{ws:List Wk}{k:Nat}(hk:k<goods.length){x:Int}(h:x∈mG goods ws k):∃w∈ws,∃g∈goods,x=chg w g:=by
 unfold mG at h
 obtain⟨w,J,rfl⟩:=Su.mp h
 have hm:=eP (r:=goods.map (chg w)) (i:=k) (by rw[R9];exact hk)
 obtain⟨g,Y,e⟩:=Su.mp hm
 exact⟨w,J,g,Y,e.symm⟩
theorem EW{goods:List Str}{ws:List Wk}{way:List Int}(hl:way.length=ws.length)(h1:goods.length<=1000)(h2:ws.length<=1000)(h0:∀t∈way,0<=t)(hm:M9 goods ws way):gD [yD goods ws,vI way] []=.ok (vI (lvL goods ws way),[]):=by
 have pv:aP [vI way]=true:=lG way
 have e1:=cK (sv (c:=0) (m:="check_way") (n:=1) (f:=fW) (mo:=aa 0) (ma:=ae (aa 1) ao) (s:=⟨[some (yD goods ws),some (vI way)],[]⟩) (s1:=⟨[some (yD goods ws),some (vI way)],[]⟩) (s2:=⟨[some (yD goods ws),some (vI way)],[]⟩) (ns:=FN) (ds:=yDs goods ws) (args:=[vI way]) (ag rfl) (by decide) (iz _ _) (by rw[bh,ag (i:=1) rfl];rfl) pv rfl (MC hl h2 h0) (by simp))
 have hr:=sv (c:=0) (m:="rows") (n:=0) (f:=dR) (mo:=aa 0) (ma:=ao) (s:=⟨[some (yD goods ws),some (vI way)],[]⟩) (s1:=⟨[some (yD goods ws),some (vI way)],[]⟩) (s2:=⟨[some (yD goods ws),some (vI way)],[]⟩) (ns:=FN) (ds:=yDs goods ws) (args:=[]) (ag rfl) (by decide) (iz _ _) rfl rfl rfl (yq h1 h2) (by generalize ft goods ws=r;simp)
 have hc:=dJ (l:=ft goods ws) (item:=vI) (out:=λr=>.int (aO r way)) (caps:=[1]) (im:=listI (methP 0 "rows" 0 dR (aa 0) ao)) (e:=aQ 2 bS (ae (aa 0) (ae (aa 1) ao))) (k:=none) (s:=⟨[some (yD goods ws),some (vI way)],[]⟩) (by rw[cJ,hr];rfl) trivial (by unfold ft;rw[R9,UI];omega) (λr J=>by
  unfold ft at J
  obtain⟨k,hk,rfl⟩:=Su.mp J
  refine eJ (ds:=[vI (mG goods ws k),vI way]) (by rw[bh,ag (i:=0) rfl,aj,bh,ag (i:=1) rfl];rfl) (by generalize mG goods ws k=r;simp) rfl (Cj (by unfold mG;rw[R9];omega) λp hp=> ?_) (by simp)
  have Y:=Ta hp
  obtain⟨w,hw,g,hg,e⟩:=D0 (S3.mp hk) Y.1
  rw[e]
  exact hm.ok w hw g hg p.2 Y.2)
 rw[show (ft goods ws).map (λr=>D.int (aO r way))=(lvL goods ws way).map D.int by unfold lvL;rw[So];rfl] at hc
 refine dZ (s:=⟨[some (yD goods ws),some (vI way)],[]⟩) ?_
 show jS ⟨[some (yD goods ws),some (vI way)],[]⟩=_
 rw[jS,dX e1]
 exact bW hc
theorem GJ(x:Option D)(L:D):∀(ns:List Int) (J:Nat) (Y x2:Option D),(eD ns=none->∃y1 y2,cx (okC (dD [L]) none) (cI (aS (aE 1) (aS (aE 2) cL)) 2) cN ((ns.zipIdx J).map λp=>.tup [.int (p.2:Int),.int p.1]) ⟨[some L,Y,x2],[]⟩=.next ⟨[some L,y1,y2],[]⟩)/\
 ∀j,eD ns=some j->∃y1 y2,cx (okC (dD [L]) none) (cI (aS (aE 1) (aS (aE 2) cL)) 2) cN ((ns.zipIdx J).map λp=>.tup [.int (p.2:Int),.int p.1]) ⟨[some L,Y,x2],[]⟩=.ret (.int ((J+j:Nat):Int)) ⟨[some L,y1,y2],[]⟩
 | [],J,Y,x2=>⟨λ_=>⟨Y,x2,by simp[cx]⟩,λj h=>by cases h⟩
 | n::ns,J,Y,x2=>by
  have ih:=GJ x L ns (J+1) (some (.int (J:Int))) (some (.int n))
  rw[Vw,Sm,cx,if_pos (show okC (dD [L]) none _ from trivial)]
  have hg:cI (aS (aE 1) (aS (aE 2) cL)) 2 (.tup [.int (J:Int),.int n]) ⟨[some L,Y,x2],[]⟩=.ok ⟨[some L,some (.int (J:Int)),some (.int n)],[]⟩:=by simp
  rw[hg,nu]
  by_cases hn:n=0
  ·have hb:cN ⟨[some L,some (.int (J:Int)),some (.int n)],[]⟩=.next ⟨[some L,some (.int (J:Int)),some (.int n)],[]⟩:=by simp[cN,hn]
   rw[hb]
   dsimp only
   constructor
   ·intro h
    unfold eD at h
    rw[if_neg (by simpa using hn)] at h
    exact ih.1 (by simpa using h)
   ·intro j h
    unfold eD at h
    rw[if_neg (by simpa using hn)] at h
    cases e:eD ns with
    | none=>rw[e] at h;cases h
    | some i=>
     rw[e] at h
     have hj:j=i+1:=by simpa using h.symm
     subst hj
     obtain⟨y1,y2,e2⟩:=ih.2 i e
     exact⟨y1,y2,by rw[e2,show J+1+i=J+(i+1) by omega]⟩
  ·have hb:cN ⟨[some L,some (.int (J:Int)),some (.int n)],[]⟩=.ret (.int (J:Int)) ⟨[some L,some (.int (J:Int)),some (.int n)],[]⟩:=by simp[cN,hn]
   rw[hb]
   dsimp only
   have hs:eD (n::ns)=some 0:=by unfold eD;rw[if_pos hn]
   rw[hs]
   refine⟨λh=>(by cases h),λj h=> ?_⟩
   have hj:j=0:=by simpa using h.symm
   subst hj
   exact⟨_,_,rfl⟩
def P1:Option Nat->D
 | none=>.non
 | some k=>.int (k:Int)
theorem N6(ns:List Int):gw [vI ns] []=.ok (P1 (eD ns),[]):=by
 have hf:=dh (im:=cT (ae (aa 0) ao)) (g:=cI (aS (aE 1) (aS (aE 2) cL)) 2) (body:=cN) (s:=⟨[some (vI ns),none,none],[]⟩) (ds:=(ns.zipIdx 0).map λp=>.tup [.int (p.2:Int),.int p.1]) (k:=none) (s1:=⟨[some (vI ns),none,none],[]⟩) (by simp[sm])
 have go:=GJ none (vI ns) ns 0 none none
 cases e:eD ns with
 | none=>
  obtain⟨J,Y,e1⟩:=go.1 e
  refine dZ (s:=⟨[some (vI ns),J,Y],[]⟩) ?_
  show d7 ⟨[some (vI ns),none,none],[]⟩=_
  rw[d7,vc,hf]
  rw[show cx (okC ((ns.zipIdx 0).map λp=>D.tup [.int (p.2:Int),.int p.1]) none) (cI (aS (aE 1) (aS (aE 2) cL)) 2) cN ((ns.zipIdx 0).map λp=>.tup [.int (p.2:Int),.int p.1]) ⟨[some (vI ns),none,none],[]⟩=.next ⟨[some (vI ns),J,Y],[]⟩ from e1]
  rfl
 | some k=>
  obtain⟨J,Y,e1⟩:=go.2 k e
  refine dZ (s:=⟨[some (vI ns),J,Y],[]⟩) ?_
  show d7 ⟨[some (vI ns),none,none],[]⟩=_
  rw[d7,vc,hf]
  rw[show cx (okC ((ns.zipIdx 0).map λp=>D.tup [.int (p.2:Int),.int p.1]) none) (cI (aS (aE 1) (aS (aE 2) cL)) 2) cN ((ns.zipIdx 0).map λp=>.tup [.int (p.2:Int),.int p.1]) ⟨[some (vI ns),none,none],[]⟩=.ret (.int ((0+k:Nat):Int)) ⟨[some (vI ns),J,Y],[]⟩ from e1]
  rw[Nat.zero_add];rfl
theorem J2{a b:Int}(hb:0<b):nY [.int a,.int b] []=.ok (.tup [.int (rat a b).1,.int (rat a b).2],[]):=by
 have hg:0<SW a b:=U4 a (by omega)
 have J:¬b<0:=by omega
 have c1:∀(i:Nat) (x:Int) {R:List (Option D)},R[i]? =some (some (.int x))->aQ 1 eX (ae (aa i) ao) ⟨R,[]⟩=.ok (.bl true,⟨R,[]⟩):=λi x R Y=>dE (ax (ag Y) (ay _)) (xg x) (by simp) rfl rfl
 refine eM (R:=[some (.int a),some (.int b),some (.int (SW a b:Nat))]) ?_
 show rq ⟨[some (.int a),some (.int b),none],[]⟩=_
 rw[rq]
 refine aT (dN (ni (oC (cZ (c1 0 a rfl))) rfl (oC (cZ (c1 1 b rfl)))) rfl (cj _)) (aT (dN (eq_test (ag rfl)) (decide_eq_false (by omega)) (cj _)) (aT (bu (dE (ax (ag rfl) (ax (ag rfl) (ay _))) (mot a b) (by simp) rfl rfl) rfl) (aT (dN (cZ (aI (ag rfl) (aD _ _) (ji _ _))) (decide_eq_false J) (cj _)) ?_)))
 refine bW (qx (ax (aI (ag rfl) (ag rfl) (d:=.int (rat a b).1) ?_) (ax (aI (ag rfl) (ag rfl) (d:=.int (rat a b).2) ?_) (ay _))) (by simp))
 ·rw[oZ (by omega)]
  unfold rat
  rw[if_neg J]
 ·rw[oZ (by omega)]
  unfold rat
  rw[if_neg J]
theorem IK{n:Nat}{rows:List (List Int)}{fit:List Int}(h:tU n rows)(Y:fit.length=n)(h0:∀a∈fit,0<=a)(hs:∀r∈rows,aO r fit=0){c:Nat}(hz:SzL c fit)(hc:c<=1000000):lW [vII rows,.int (n:Int),vI fit] []=.ok (.non,[]):=by
 have n7:=h.n7
 have e1:=dJ (l:=fit) (item:=D.int) (out:=λ_=>.bl false) (caps:=[]) (im:=listI (aa 2)) (e:=ak ltD (aa 0) (aq (.int 0))) (k:=none) (s:=⟨[some (vII rows),some (.int (n:Int)),some (vI fit)],[]⟩) (by rw[cJ,ag (i:=2) rfl,aj];rfl) trivial (by omega) (λa ha=>by
  refine aI (ag rfl) (aD _ _) ?_
  rw[ji,decide_eq_false (by have:=h0 a ha;omega)])
 rw[show fit.map (λ_=>D.bl false)=(fit.map λ_=>false).map D.bl by rw[So];rfl] at e1
 have e2:=dJ (l:=rows) (item:=vI) (out:=λ_=>.bl false) (caps:=[2]) (im:=listI (aa 0)) (e:=ak neD (aQ 2 bS (ae (aa 0) (ae (aa 1) ao))) (aq (.int 0))) (k:=none) (s:=⟨[some (vII rows),some (.int (n:Int)),some (vI fit)],[]⟩) (by rw[cJ,ag (i:=0) rfl,aj];rfl) trivial (by have:=h.cnt;omega) (λr J=>by
  have rl:=h.len r J
  refine aI (dE (ax (ag rfl) (ax (ag rfl) (ay _))) (Cj (a:=r) (b:=fit) (by omega) (λp hp=>ig (m:=200) (n:=c) (by decide) (by omega) (h.sz r J _ (Ta (a:=p.1) (b:=p.2) hp).1) (hz _ (Ta (a:=p.1) (b:=p.2) hp).2))) (by simp) rfl rfl) (aD _ _) ?_
  rw[mW,hs r J];rfl)
 rw[show rows.map (λ_=>D.bl false)=(rows.map λ_=>false).map D.bl by rw[So];rfl] at e2
 refine ME (R:=[some (vII rows),some (.int (n:Int)),some (vI fit)]) ?_
 show lX ⟨[some (vII rows),some (.int (n:Int)),some (vI fit)],[]⟩=_
 rw[lX]
 refine aT (dN (cZ (aI (dq (ax (ag rfl) (ay _)) (d9 _)) (ag rfl) (mW _ _))) ?_ (cj _)) (aT (dN (cZ (dq (ax e1 (ay _)) (wM _ _))) ?_ (cj _)) (dN (cZ (dq (ax e2 (ay _)) (wM _ _))) ?_ (cj _)))
 ·rw[R9,Y];simp
 ·simp
 ·simp
abbrev tiR(left y:List Int)(b:Nat)(J Y:Option D):List (Option D):=[some (vI left),some (vI y),some (.int (b:Int)),J,Y]
theorem Cq{left y:List Int}{c:Nat}(hl:left.length=y.length)(hz:SzL c left)(hy:SzL 8000 y)(hc:c<=1000000)(K:List D):∀(l:List Int) (k b:Nat) (x3 x4:Option D),(∀i,i<l.length->nth y (k+i)=nth l i)->k+l.length=y.length->b<y.length->0<nth y b->(∀i,i<k->0<nth y i->nth left b*nth y i<=nth left i*nth y b)->
 ∃b' y3 y4,cx (okC K none) (cI (aS (aE 3) (aS (aE 4) cL)) 2) ee ((l.zipIdx k).map λp=>.tup [.int (p.2:Int),.int p.1]) ⟨tiR left y b x3 x4,[]⟩=.next ⟨tiR left y b' y3 y4,[]⟩/\b'<y.length/\0<nth y b'/\∀i,i<y.length->0<nth y i->nth left b'*nth y i<=nth left i*nth y b'
 | [],k,b,x3,x4,_,hk,hb,hp,hm=>⟨b,x3,x4,by rw[Wp,S5,cx,if_pos (show okC K none _ from trivial)],hb,hp,λi hi=>hm i (by simp at hk;omega)⟩
 | v::l,k,b,x3,x4,hv,hk,hb,hp,hm=>by
  rw[Ss] at hk
  have ev:nth y k=v:=by
   have:=hv 0 (by simp)
   rw[VV] at this
   exact this
  have as:∀i,i<l.length->nth y (k+1+i)=nth l i:=λi hi=>by
   have:=hv (i+1) (by simp;omega)
   rw[show k+1+i=k+(i+1) by omega,this];rfl
  have kl:k<y.length:=by omega
  have t1:bc (ak gtD (aa 4) (aq (.int 0))) ⟨tiR left y b (some (.int (k:Int))) (some (.int v)),[]⟩=.ok (decide (0<v),⟨tiR left y b (some (.int (k:Int))) (some (.int v)),[]⟩):=i6 (ag rfl)
  have t2:bc (ak ltD (ak cF (ak ixD (aa 0) (aa 3)) (ak ixD (aa 1) (aa 2))) (ak cF (ak ixD (aa 0) (aa 2)) (aa 4))) ⟨tiR left y b (some (.int (k:Int))) (some (.int v)),[]⟩=.ok (decide (nth left k*nth y b<nth left b*v),⟨tiR left y b (some (.int (k:Int))) (some (.int v)),[]⟩):=by
   refine cZ (aI (aI (aI (ag rfl) (ag rfl) (mr (by omega))) (aI (ag rfl) (ag rfl) (mr hb)) (cO ?_)) (aI (aI (ag rfl) (ag rfl) (mr (by omega))) (ag rfl) (cO ?_)) (ji _ _))
   ·exact ig (m:=c) (n:=8000) (by omega) (by decide) (hz _ (eP (by omega))) (hy _ (eP hb))
   ·exact ig (m:=c) (n:=8000) (by omega) (by decide) (hz _ (eP (by omega))) (by rw[<- ev];exact hy _ (eP kl))
  rw[Vw,Sm]
  have step:∀Y:Nat,ee ⟨tiR left y b (some (.int (k:Int))) (some (.int v)),[]⟩=.next ⟨tiR left y Y (some (.int (k:Int))) (some (.int v)),[]⟩->Y<y.length->0<nth y Y->(∀i,i<k+1->0<nth y i->nth left Y*nth y i<=nth left i*nth y Y)->(∃b' y3 y4,cx (okC K none) (cI (aS (aE 3) (aS (aE 4) cL)) 2) ee (D.tup [.int (k:Int),.int v]::((l.zipIdx (k+1)).map λp=>.tup [.int (p.2:Int),.int p.1])) ⟨tiR left y b x3 x4,[]⟩=.next ⟨tiR left y b' y3 y4,[]⟩/\b'<y.length/\0<nth y b'/\∀i,i<y.length->0<nth y i->nth left b'*nth y i<=nth left i*nth y b'):=λY e h1 h2 h3=>by
   obtain⟨b',y3,y4,e',q1,q2,q3⟩:=Cq hl hz hy hc K l (k+1) Y (some (.int (k:Int))) (some (.int v)) as (by omega) h1 h2 h3
   exact⟨b',y3,y4,SR (dB (s1:=⟨tiR left y b (some (.int (k:Int))) (some (.int v)),[]⟩) (s2:=⟨tiR left y Y (some (.int (k:Int))) (some (.int v)),[]⟩) trivial (by rw[iW];rfl) e) e',q1,q2,q3⟩
  have split:∀i,i<k+1->i<k\/i=k:=λi hi=>by omega
  by_cases h1:0<v
  ·by_cases h2:nth left k*nth y b<nth left b*v
   ·refine step k ?_ kl (by rw[ev];exact h1) λi hi J=> ?_
    ·rw[ee]
     exact lu (FU t1 (decide_eq_true h1) t2) (decide_eq_true h2) (bu (ag rfl) rfl)
    ·rcases split i hi with q | rfl
     ·rw[ev]
      exact vB (a:=nth left k) (b:=v) (c:=nth left b) (d:=nth y b) (e:=nth left i) (f:=nth y i) h1 hp J (by omega) (hm i q J)
     ·exact Int.le_refl _
   ·refine step b ?_ hb hp λi hi J=> ?_
    ·rw[ee]
     exact dN (FU t1 (decide_eq_true h1) t2) (decide_eq_false h2) (cj _)
    ·rcases split i hi with q | rfl
     ·exact hm i q J
     ·rw[ev];omega
  ·refine step b ?_ hb hp λi hi J=> ?_
   ·rw[ee]
    exact dN (MJ t1 (decide_eq_false h1)) rfl (cj _)
   ·rcases split i hi with q | rfl
    ·exact hm i q J
    ·rw[ev] at J;omega
theorem HZ{left y:List Int}{c:Nat}(Y:left.length=y.length)(hz:SzL c left)(hy:SzL 8000 y)(hc:c<=1000000)(h0:∀i,0<=nth y i)(J:∃i,nth y i≠0)(ac:y.length<=1000):∃a:Nat,fT [vI left,vI y] []=.ok (.int (a:Int),[])/\a<y.length/\Tight left y a:=by
 obtain⟨b,eb⟩:∃b,eD y=some b:=by
  cases e:eD y with
  | some b=>exact⟨b,rfl⟩
  | none=>
   obtain⟨i,hi⟩:=J
   have:=uv e (nth y i) (eP (by
    by_cases q:i<y.length
    ·exact q
    ·exact absurd (dO (by omega)) hi))
   exact absurd this hi
 obtain⟨b1,b2,_⟩:=tP eb
 have fn:=N6 y
 rw[eb] at fn
 obtain⟨b',y3,y4,e,q1,q2,q3⟩:=Cq Y hz hy hc ((y.zipIdx 0).map λp=>.tup [.int (p.2:Int),.int p.1]) y 0 b none none (λi _=>by rw[Nat.zero_add]) (by omega) b1 (by have:=h0 b;omega) (λi hi=>absurd hi (by omega))
 refine⟨b', ?_,q1,q2,λi hi=>q3 i (by
  by_cases q:i<y.length
  ·exact q
  ·rw[dO (by omega)] at hi;omega) hi⟩
 refine eM (R:=tiR left y b' y3 y4) ?_
 show hX ⟨[some (vI left),some (vI y),none,none,none],[]⟩=_
 rw[hX]
 refine aT (bu (R':=tiR left y b none none) (dE (ax (ag rfl) (ay _)) fn (by simp) rfl rfl) rfl) (aT ?_ (bW (ag rfl)))
 refine(dh (im:=cT (ae (aa 1) ao)) (ds:=(y.zipIdx 0).map λp=>.tup [.int (p.2:Int),.int p.1]) (k:=none) (s1:=⟨tiR left y b none none,[]⟩) ?_).trans e
 rw[iB,bh,ag (i:=1) rfl,aj,ay,aj,aj]
 dsimp only
 rw[sm]
theorem Hq{n:Nat}{y l:List Int}(hy:y.length=n)(J:l.length=n)(ny:∀i,0<=nth y i)(Y:∀i,0<=nth l i):decide (da y|||da l=da l)=true↔Sub y l:=by
 have:=bits_sub hy J J ny Y Y
 rw[Nat.or_self] at this
 rw[this,sq hy]
 exact⟨λh i hi=>(h i hi).elim id id,λh i hi=>.inl (h i hi)⟩
theorem nP(V:List (List Int)):(sS V).Perm V:=by
 unfold sS
 have:=(iP (V.map λx=>((),x))).map (·.2)
 rw[So,show ((λx:Unit×List Int=>x.2)∘λx=>((),x))=id from rfl,List.map_id] at this
 exact this
theorem MD{m:AM}{s s1:S}{x y:D}{as bs:List D}(h:m s=.ok ([x,y],s1))(h1:lsD s1.o x=some as)(h2:lsD s1.o y=some bs):AG m s=.ok ((mK as bs,λO=>lsD O x=some as/\lsD O y=some bs),s1):=by
 unfold AG
 rw[h,aj]
 dsimp only
 rw[h1,h2]
theorem Mi {α:Type} {l:List α} {f g out:α->D} {caps:List Nat} {im:IX} {e:EM} {s:S} {ok:aC->Prop} (J:im s=.ok ((l.map (λa=>D.tup [f a,g a]),ok),s)) (Y:ok s.o) (hl:l.length<=16777216)
 (he:∀a∈l,e ⟨some (f a)::some (g a)::caps.map (λi=>(s.r[i]?).getD none),s.o⟩=.ok (out a,⟨some (f a)::some (g a)::caps.map (λi=>(s.r[i]?).getD none),s.o⟩)):
 tx 2 caps im (cI (aS (aE 0) (aS (aE 1) cL)) 2) bV e s=.ok (.lst (l.map out),s):=by
 obtain⟨s',e1,x,y,h1⟩:=qK (ok:=ok) (g:=cI (aS (aE 0) (aS (aE 1) cL)) 2) (c:=bV) (e:=e) (O:=s.o) Y (λa=>D.tup [f a,g a]) (λs2=>∃x y,s2=⟨x::y::caps.map (λi=>(s.r[i]?).getD none),s.o⟩) (by rintro _ ⟨_,_,rfl⟩;rfl) l (λ_=>true) out (by
  rintro a ha _ ⟨x,y,rfl⟩
  exact⟨_,_,by simp,rfl,λ_=>⟨_,_,rfl⟩,λ_=>⟨_,he a ha,_,_,rfl⟩⟩) [] ⟨o3 2 caps s.r,s.o⟩ (by simpa using hl) ⟨none,none,rfl⟩
 unfold tx xw
 rw[J,aj]
 dsimp only
 rw[e1,aj,aj]
 subst h1
 rw[ot]
 rfl
abbrev Tl:Type:=(Int×Int)×(Nat×List Int)
def tD(s:Tl):D:=.tup [.tup [.int s.1.1,.int s.1.2],.ptr s.2.1]
def unp(s:Tl):Sh:=(s.1,s.2.2)
abbrev sR(rows:List (List Int))(n:Nat)(fit left:List Int)(bot:Int)(x6 x7 x8 x9:Option D):List (Option D):=[some (vII rows),some (.int (n:Int)),some (vI fit),some (.ptr 0),some (vI left),some (.int bot),x6,x7,x8,x9]
structure SIv(Q:List (Nat×List Int))(T:List Tl)(O:aC):Prop where
 told:O[0]? =some (.lst (T.map tD))
 s:Sto O Q
 n0:∀p∈Q,p.1≠0
 m:∀s∈T,s.2∈Q
theorem Er{O:aC}{k i:Nat}{y:List Int}(h:O[k]? =some (.lst (y.map D.int)))(hi:i<y.length):ixD O (.ptr k) (.int (i:Int))=.ok (.int (nth y i)):=by
 refine uo h ?_
 rw[n5 (by simpa using hi)]
 simp[nth,R6,hi]
theorem vb(x:List Int):cnt x<=x.length:=Us _ _
theorem C7 {n:Nat} {rows:List (List Int)} {fit:List Int} {c:Nat} {Q:List (Nat×List Int)} {pre:List (List Int)} {T:List Tl} {left:List Int} {bot:Int} {O:aC} {p:Nat×List Int} {x7 x8 x9:Option D}
 (hn:n<=7) (hf:fit.length=n) (hc:c<=20000) (hp:p∈Q) (lp:cV n rows p.2) (zp:SzL 8000 p.2) (Y:Shr n rows fit c pre (T.map unp) left bot) (iv:SIv Q T O):
 ∃T' ac an O' y7 y8 y9,nG ⟨sR rows n fit left bot (some (.ptr p.1)) x7 x8 x9,O⟩=.next ⟨sR rows n fit ac an (some (.ptr p.1)) y7 y8 y9,O'⟩/\Shr n rows fit c (pre++[p.2]) (T'.map unp) ac an/\SIv Q T' O':=by
 have yl:=lp.fit.len
 have tl:T.length<=7:=by
  have h1:=Y.cn
  have h2:=vb fit
  rw[R9] at h1
  omega
 have cb:c+8001*(T.map unp).length<=80000:=by rw[R9];omega
 have a5:fQ 1 dv (ae (aa 6) ao) ⟨sR rows n fit left bot (some (.ptr p.1)) x7 x8 x9,O⟩=.ok (.int (da p.2:Nat),⟨sR rows n fit left bot (some (.ptr p.1)) x7 x8 x9,O⟩):=pQ (ax (ag rfl) (ay _)) (rs:=[vI p.2]) (by simp only[d4,jr,lC (iv.s p hp),gA,jt]) tM (by simp) rfl rfl
 have a6:fQ 1 dv (ae (aa 4) ao) ⟨sR rows n fit left bot (some (.ptr p.1)) x7 x8 x9,O⟩=.ok (.int (da left:Nat),⟨sR rows n fit left bot (some (.ptr p.1)) x7 x8 x9,O⟩):=pQ (ax (ag rfl) (ay _)) (rs:=[vI left]) (by simp only[d4,jr,gA,jt]) tM (by simp) rfl rfl
 have a1:bc (aQ 2 gd (ae (fQ 1 dv (ae (aa 6) ao)) (ae (fQ 1 dv (ae (aa 4) ao)) ao))) ⟨sR rows n fit left bot (some (.ptr p.1)) x7 x8 x9,O⟩=.ok (decide (da p.2|||da left=da left),⟨sR rows n fit left bot (some (.ptr p.1)) x7 x8 x9,O⟩):=cZ (dE (ax a5 (ax a6 (ay _))) (B3 _ _) (by simp) rfl rfl)
 have a2:=Hq yl Y.len lp.fit.nn Y.nn
 by_cases hs:Sub p.2 left
 ·obtain⟨a,ea,al,ti⟩:=HZ (c:=80000) (left:=left) (y:=p.2) (by rw[Y.len,yl]) (λx hx=>(Y.sz x hx).mono cb) zp (by decide) lp.fit.nn lp.fit.nz (by omega)
  have ll:=Y.len
  have e7:setM 7 (fQ 2 fT (ae (aa 4) (ae (aa 6) ao))) ⟨sR rows n fit left bot (some (.ptr p.1)) x7 x8 x9,O⟩=.next ⟨sR rows n fit left bot (some (.ptr p.1)) (some (.int (a:Int))) x8 x9,O⟩:=bu (pQ (ax (ag rfl) (ax (ag rfl) (ay _))) (rs:=[vI left,vI p.2]) (by simp only[d4,jr,lC (iv.s p hp),gA,jt]) ea (by simp) rfl rfl) rfl
  have zb:IntMulOk bot (nth p.2 a):=ig (m:=80000) (n:=8000) (by decide) (by decide) (Y.szb.mono cb) (zp _ (eP al))
  have Bp:0<bot*nth p.2 a:=T4 Y.bp ti.pos
  have eB:∀{O':aC} {x8 x9:Option D},Sto O' Q->ak cF (aa 5) (ak ixD (aa 6) (aa 7)) ⟨sR rows n fit left bot (some (.ptr p.1)) (some (.int (a:Int))) x8 x9,O'⟩=.ok (.int (bot*nth p.2 a),⟨sR rows n fit left bot (some (.ptr p.1)) (some (.int (a:Int))) x8 x9,O'⟩):=λs'=>aI (ag rfl) (aI (ag rfl) (ag rfl) (Er (s' p hp) al)) (cO zb)
  have en:kC (ae (aQ 2 nY (ae (ak ixD (aa 4) (aa 7)) (ae (ak cF (aa 5) (ak ixD (aa 6) (aa 7))) ao))) (ae (aa 6) ao)) ⟨sR rows n fit left bot (some (.ptr p.1)) (some (.int (a:Int))) x8 x9,O⟩=.ok (tD (rat (nth left a) (bot*nth p.2 a),p),⟨sR rows n fit left bot (some (.ptr p.1)) (some (.int (a:Int))) x8 x9,O⟩):=qx (ax (dE (ax (aI (ag rfl) (ag rfl) (mr (by omega))) (ax (eB iv.s) (ay _))) (J2 Bp) (by simp) rfl (by simp)) (ax (ag rfl) (ay _))) (by simp)
  generalize ap:O.set 0 (.lst (T.map tD++[tD (rat (nth left a) (bot*nth p.2 a),p)]))=O1
  have e8:de (ip (aa 3) (kC (ae (aQ 2 nY (ae (ak ixD (aa 4) (aa 7)) (ae (ak cF (aa 5) (ak ixD (aa 6) (aa 7))) ao))) (ae (aa 6) ao)))) ⟨sR rows n fit left bot (some (.ptr p.1)) (some (.int (a:Int))) x8 x9,O⟩=.next ⟨sR rows n fit left bot (some (.ptr p.1)) (some (.int (a:Int))) x8 x9,O1⟩:=cK (mz (ag rfl) iv.told en iv.told (by rw[R9];omega) ap)
  have as:O1[0]? =some (.lst ((T++[(rat (nth left a) (bot*nth p.2 a),p)]).map tD)):=by rw[<- ap,fH iv.told,SG];rfl
  have J:Sto O1 Q:=by rw[<- ap];exact iv.s.set iv.n0 _
  have zl:∀x∈left,Sz 80000 x:=λx hx=>(Y.sz x hx).mono cb
  have e9:=Mi (l:=left.zip p.2) (f:=λq=>.int q.1) (g:=λq=>.int q.2) (out:=λq=>.int (q.1*nth p.2 a-q.2*nth left a)) (caps:=[7,4,6]) (im:=AG (ae (aa 4) (ae (aa 6) ao))) (e:=ak jA (ak cF (aa 0) (ak ixD (aa 4) (aa 2))) (ak cF (aa 1) (ak ixD (aa 3) (aa 2)))) (s:=⟨sR rows n fit left bot (some (.ptr p.1)) (some (.int (a:Int))) x8 x9,O1⟩) (ok:=λO=>lsD O (vI left)=some (left.map D.int)/\lsD O (.ptr p.1)=some (p.2.map D.int)) (by
   rw[MD (as:=left.map D.int) (bs:=p.2.map D.int) (ax (ag (i:=4) rfl) (ax (ag (i:=6) rfl) (ay _))) lE (mY (J p hp)),qz]) ⟨lE,mY (J p hp)⟩ (by rw[TN];omega) (λq hq=>by
    have m1:=(Ta (a:=q.1) (b:=q.2) hq).1
    have m2:=(Ta (a:=q.1) (b:=q.2) hq).2
    exact aI (aI (ag rfl) (aI (ag rfl) (ag rfl) (Er (J p hp) al)) (cO (ig (m:=80000) (n:=8000) (by decide) (by decide) (zl _ m1) (zp _ (eP al))))) (aI (ag rfl) (aI (ag rfl) (ag rfl) (mr (by omega))) (cO (ig (m:=8000) (n:=80000) (by decide) (by decide) (zp _ m2) (zl _ (eP (by omega)))))) (nW _ _))
  rw[show (left.zip p.2).map (λq=>D.int (q.1*nth p.2 a-q.2*nth left a))=(fD left p.2 a).map D.int by unfold fD;rw[So];rfl] at e9
  have rl:=Bh (a:=a) Y.len yl
  have a7:setM 9 (jw (dY 1 jq (ae (ak bt (aa 8) (jy (ae (ak cF (aa 5) (ak ixD (aa 6) (aa 7))) ao))) ao))) ⟨sR rows n fit left bot (some (.ptr p.1)) (some (.int (a:Int))) (some (vI (fD left p.2 a))) x9,O1⟩=.next ⟨sR rows n fit left bot (some (.ptr p.1)) (some (.int (a:Int))) (some (vI (fD left p.2 a))) (some (vI (ja left p.2 bot a))),O1++[.dead]⟩:=by
   refine bu (pJ (i3 (ax (aI (ag rfl) (qD (ax (eB J) (ay _)) (by simp)) (d:=vI (fD left p.2 a++[bot*nth p.2 a])) ?_) (ay _)) (zQ _ (by simp;omega)) (by rw[dQ,gW,Dj];rfl) rfl (iD _ _) rfl) (ds:=(ja left p.2 bot a).map D.int) ?_ ?_) rfl
   ·rw[sJ (by simp;omega)]
    show _=Res.ok (D.lst ((fD left p.2 a++[bot*nth p.2 a]).map D.int))
    rw[SG]
    rfl
   ·rw[VV]
    simp
    rfl
   ·rw[VV,Sm,S5,JR]
  have a8:=N2 (bot:=bot) (a:=a) Y.len yl
  have ce:(ja left p.2 bot a).length=n+1:=by unfold ja;rw[low_length];simp[rl]
  have a9:setM 4 (slM (aa 9) iO (part (aa 1))) ⟨sR rows n fit left bot (some (.ptr p.1)) (some (.int (a:Int))) (some (vI (fD left p.2 a))) (some (vI (ja left p.2 bot a))),O1++[.dead]⟩=.next ⟨sR rows n fit ((ja left p.2 bot a).take n) bot (some (.ptr p.1)) (some (.int (a:Int))) (some (vI (fD left p.2 a))) (some (vI (ja left p.2 bot a))),O1++[.dead]⟩:=bu (PX (ag rfl) (qa _) (xC (ag rfl)) lE Gj) rfl
  have bb:setM 5 (ak ixD (aa 9) (aa 1)) ⟨sR rows n fit ((ja left p.2 bot a).take n) bot (some (.ptr p.1)) (some (.int (a:Int))) (some (vI (fD left p.2 a))) (some (vI (ja left p.2 bot a))),O1++[.dead]⟩=.next ⟨sR rows n fit ((ja left p.2 bot a).take n) (nth (ja left p.2 bot a) n) (some (.ptr p.1)) (some (.int (a:Int))) (some (vI (fD left p.2 a))) (some (vI (ja left p.2 bot a))),O1++[.dead]⟩:=bu (aI (ag rfl) (ag rfl) (mr (by omega))) rfl
  refine⟨T++[(rat (nth left a) (bot*nth p.2 a),p)],_,_,O1++[.dead],some (.int (a:Int)),some (vI (fD left p.2 a)),some (vI (ja left p.2 bot a)), ?_,by rw[SG];exact JZ Y lp hs zp ti a8,fO as,J.app _,iv.n0,λs bd=> ?_⟩
  ·rw[nG]
   exact lu a1 (a2.mpr hs) (aT e7 (aT e8 (aT (bu e9 rfl) (aT a7 (aT a9 bb)))))
  ·rcases Sy.mp bd with q | q
   ·exact iv.m s q
   ·rw[Sv.mp q];exact hp
 ·refine⟨T,left,bot,O,x7,x8,x9, ?_,Ij Y hs,iv⟩
  rw[nG]
  exact dN a1 (by rw[V4];exact λz=>hs (a2.mp z)) (cj _)
theorem zo{n:Nat}{rows:List (List Int)}{fit:List Int}{c:Nat}{Q:List (Nat×List Int)}(hn:n<=7)(hf:fit.length=n)(hc:c<=20000)(lo:∀p∈Q,cV n rows p.2)(z:∀p∈Q,SzL 8000 p.2)(K:List D):
 ∀(rest:List (Nat×List Int)) (pre:List (List Int)) (T:List Tl) (left:List Int) (bot:Int) (O:aC) (x6 x7 x8 x9:Option D),(∀p∈rest,p∈Q)->Shr n rows fit c pre (T.map unp) left bot->SIv Q T O->
 ∃T' J ab O' y6 y7 y8 y9,cx (okC K none) (aE 6) nG (cD rest) ⟨sR rows n fit left bot x6 x7 x8 x9,O⟩=.next ⟨sR rows n fit J ab y6 y7 y8 y9,O'⟩/\Shr n rows fit c (pre++rest.map (·.2)) (T'.map unp) J ab/\SIv Q T' O'
 | [],pre,T,left,bot,O,x6,x7,x8,x9,_,sh,iv=>⟨T,left,bot,O,x6,x7,x8,x9,by show cx _ _ _ [] _=_;rw[cx,if_pos (show okC K none _ from trivial)],by simpa using sh,iv⟩
 | p::rest,pre,T,left,bot,O,x6,x7,x8,x9,hr,sh,iv=>by
  have hp:=hr p Sr
  obtain⟨T1,Y,ac,O1,y7,y8,y9,e1,a5,a6⟩:=C7 (x7:=x7) (x8:=x8) (x9:=x9) hn hf hc hp (lo p hp) (z p hp) sh iv
  obtain⟨T2,am,az,O2,z6,z7,z8,z9,e2,a0,a7⟩:=zo hn hf hc lo z K rest (pre++[p.2]) T1 Y ac O1 (some (.ptr p.1)) y7 y8 y9 (λq hq=>hr q (Sl _ hq)) a5 a6
  refine⟨T2,am,az,O2,z6,z7,z8,z9, ?_,by rw[S7] at a0;exact a0,a7⟩
  show cx _ _ _ (.ptr p.1::cD rest) _=_
  exact SR (dB (s1:=⟨sR rows n fit left bot (some (.ptr p.1)) x7 x8 x9,O⟩) (s2:=⟨sR rows n fit Y ac (some (.ptr p.1)) y7 y8 y9,O1⟩) trivial rfl e1) e2
structure Nz(n:Nat)(rows:List (List Int))(fit:List Int)(T:List Tl)(O:aC):Prop where
 told:O[0]? =some (.lst (T.map tD))
 s:∀s∈T,O[s.2.1]? =some (.lst (s.2.2.map D.int))
 n0:∀s∈T,s.2.1≠0
 good:∀s∈T,0<s.1.1/\0<s.1.2/\SW s.1.1 s.1.2=1/\Sub s.2.2 fit
 lo:∀s∈T,cV n rows s.2.2
 nd:(T.map λs=>s.2.2).Nodup
 cn:T.length<=cnt fit
 eq:∀i,(psS i (T.map unp)).2=(psS i (T.map unp)).1*nth fit i
 zt:∀s∈T,Sz 80000 s.1.1/\Sz 80000 s.1.2/\SzL 8000 s.2.2
structure uZ(n:Nat)(rows:List (List Int))(fit:List Int)(c:Nat):Prop where
 len:fit.length=n
 nn:∀i,0<=nth fit i
 st:∀r∈rows,di n (nth r) (nth fit)=0
 sz:SzL c fit
 c1:1<=c
 c2:c<=20000
theorem uZ.all{n:Nat}{rows:List (List Int)}{fit:List Int}{c:Nat}(h:uZ n rows fit c):∀a∈fit,0<=a:=λa ha=>by
 obtain⟨i,hi,rfl⟩:=Tk ha
 have:=h.nn i
 unfold nth at this
 simpa[R6,Sa hi] using this
theorem HK{n:Nat}{rows:List (List Int)}{fit:List Int}{c:Nat}(h:tU n rows)(f:uZ n rows fit c):∃T O,qo [vII rows,.int (n:Int),vI fit] []=.ok (.ptr 0,O)/\Nz n rows fit T O:=by
 have n7:=h.n7
 obtain⟨k,Op,Q,ep,hd,sQ,nQ,qS,qV⟩:=Ex h
 have Y:kh n rows (nA rows n):=qG h.len
 have J:(Q.map (·.2)).Perm (nA rows n):=by rw[qV];exact nP _
 have pa:aP [vII rows,.int (n:Int)]=true:=Kr _ rfl
 have a0:=yF (S:=[Cell.lst []]) hd
 have a1:=Av (S:=[Cell.lst []]) sQ
 have a2:∀p∈Q.map (λp=>(1+p.1,p.2)),p.1≠1+k:=λp hp=>by
  obtain⟨q,hq,rfl⟩:=Su.mp hp
  have:=nQ q hq
  dsimp only
  omega
 have a3:∀p∈Q.map (λp=>(1+p.1,p.2)),p.1≠0:=λp hp=>by
  obtain⟨q,hq,rfl⟩:=Su.mp hp
  dsimp only
  omega
 have ac:(Q.map λp=>(1+p.1,p.2)).map (·.2)=Q.map (·.2):=by rw[So];rfl
 have z0:([Cell.lst []]++Op.map (shC 1))[0]? =some (Cell.lst []):=rfl
 have fr:jw (dY 2 mf (ae (aa 0) (ae (aa 1) ao))) ⟨sR rows n fit fit 1 none none none none,[.lst []]⟩=.ok (.lst (cD (Q.map λp=>(1+p.1,p.2))),⟨sR rows n fit fit 1 none none none none,([Cell.lst []]++Op.map (shC 1)).set (1+k) .dead⟩):=pJ (i3 (ax (ag rfl) (ax (ag rfl) (ay _))) ep pa rfl (iD _ _) rfl) a0 rfl
 have as:Sto (([Cell.lst []]++Op.map (shC 1)).set (1+k) .dead) (Q.map λp=>(1+p.1,p.2)):=a1.set a2 _
 have z2:(([Cell.lst []]++Op.map (shC 1)).set (1+k) Cell.dead)[0]? =some (Cell.lst []):=by rw[cS (by omega)];exact z0
 generalize ([Cell.lst []]++Op.map (shC 1)).set (1+k) Cell.dead=O2 at fr as z2
 generalize (Q.map λp=>(1+p.1,p.2))=Q1 at *
 have lo:∀p∈Q1,cV n rows p.2:=λp hp=>(Y.all _).mp (J.mem_iff.mp (by rw[<- ac];exact SU hp))
 have sz:∀p∈Q1,SzL 8000 p.2:=λp hp=>wB h (rs:=rows) (λ_ q=>q) h.cnt _ (J.mem_iff.mp (by rw[<- ac];exact SU hp))
 obtain⟨T,left,bot,O3,y6,y7,y8,y9,el,sh,iv⟩:=zo n7 f.len f.c2 lo sz (cD Q1) Q1 [] [] fit 1 O2 none none none none (λ_ q=>q) (J5 f.len f.nn f.st f.sz f.c1) ⟨z2,as,a3,by simp⟩
 rw[SE] at sh
 have ck:=IK h f.len f.all (λr hr=>by rw[qq f.len];exact f.st r hr) f.sz (by have:=f.c2;omega)
 refine⟨T,O3, ?_,iv.told,λs hs=>iv.s _ (iv.m s hs),λs hs=>iv.n0 _ (iv.m s hs),λs hs=>sh.good (unp s) (SU hs),λs hs=>lo _ (iv.m s hs), ?_,by have:=sh.cn;rw[R9] at this;omega,Mg sh λl hl=>by rw[ac];exact J.mem_iff.mpr ((Y.all l).mpr hl),λs hs=> ?_⟩
 ·refine eM (R:=sR rows n fit left bot y6 y7 y8 y9) ?_
  show qb ⟨[some (vII rows),some (.int (n:Int)),some (vI fit),none,none,none,none,none,none,none],[]⟩=_
  rw[qb]
  refine aT (cK (dE (ax (ag rfl) (ax (ag rfl) (ax (ag rfl) (ay _)))) ck (by simp) rfl rfl)) (aT (bu (oQ (ay _) (by simp) rfl rfl) rfl) (aT (bu (dq (ax (ag rfl) (ay _)) (mO _)) rfl) (aT (bu (R':=sR rows n fit fit 1 none none none none) (aD _ _) rfl) (aT ?_ (bW (ag rfl))))))
  refine(dh (im:=listI (jw (dY 2 mf (ae (aa 0) (ae (aa 1) ao))))) (ds:=cD Q1) (k:=none) (s1:=⟨sR rows n fit fit 1 none none none none,O2⟩) ?_).trans el
  rw[cJ]
  exact(congrArg (λr=>Res.bind r _) fr).trans rfl
 ·have:=sh.sl
  rw[So] at this
  refine List.Sublist.nodup this ?_
  rw[ac]
  exact J.nodup_iff.mpr Y.nd
 ·have cb:c+8001*(T.map unp).length<=80000:=by
   have h1:=sh.cn
   have h2:=vb fit
   have h3:=f.len
   have h4:=f.c2
   rw[R9] at h1 ⊢
   omega
  obtain⟨q1,q2⟩:=sh.szt (unp s) (SU hs)
  exact⟨q1.mono cb,q2.mono cb,sz _ (iv.m s hs)⟩
theorem DL{v w:List Int}{c:Int}{A:List (List Int)}{g:Nat}(h:∀j,j<A.length->nth (jL v c w) j=nth v j+c*nth w j):eW (jL v c w) A g=eW v A g+c*eW w A g:=by
 unfold eW
 rw[<- jz,<- wq]
 exact fF λj J=>by rw[h j J];grind
structure wu(n:Nat)(A:List (List Int))(B:Int)(way:List Int):Prop where
 len:way.length=A.length
 lo:∀t∈way,0<=t/\t<=B
 bal:∀g,g<n->eW way A g=0
abbrev dwR(W:List (List Int))(m:Nat)(c:Int)(way:List Int)(J Y x6:Option D):List (Option D):=[some (vII W),some (.int (m:Int)),some (.int c),some (vI way),J,Y,x6]
theorem DD{v w:List Int}{c:Int}{j:Nat}(h1:j<v.length)(h2:j<w.length):nth (jL v c w) j=nth v j+c*nth w j:=by
 unfold jL nth
 rw[R6,UP]
 simp[R6,h1,h2]
theorem CW{n m k:Nat}{A W:List (List Int)}{c B:Int}{way w:List Int}{x6:Option D}(hA:A.length=m)(m6:m<=100)(b:wu n A B way)(wl:w.length=m)(wo:Kp n A w)(hB:0<=B/\B<=1000000000000000):
 ∃J y6,mC ⟨dwR W m c way (some (.int (k:Int))) (some (vI w)) x6,[]⟩=.next ⟨dwR W m c J (some (.int (k:Int))) (some (vI w)) y6,[]⟩/\wu n A (B+2000000000000) J:=by
 have p0:=jv (c:=c) (t:=100+(k:Int)) (m:=4) (by decide)
 have p1:=mF (c:=c) (t:=100+(k:Int)) (m:=4) (by decide)
 have e6:setM 6 (aQ 3 aL (ae (aa 2) (ae (ak bt (aq (.int 100)) (aa 4)) (ae (aq (.int 4)) ao)))) ⟨dwR W m c way (some (.int (k:Int))) (some (vI w)) x6,[]⟩=.next ⟨dwR W m c way (some (.int (k:Int))) (some (vI w)) (some (.int (cf c (100+(k:Int)) 4))),[]⟩:=bu (gs (ag rfl) (aI (aD _ _) (ag rfl) (bT _ _)) (aD _ _) (by decide)) rfl
 generalize cf c (100+(k:Int)) 4=p at e6 p0 p1
 have m0:0<=c%1000000000000:=Tw _ (by decide)
 have m1:c%1000000000000<1000000000000:=Tf _ (by decide)
 have e7:∃o:Int,ifS (bc (ak eqD (aQ 3 aL (ae (aa 2) (ae (ak bt (aq (.int 110)) (aa 4)) (ae (aq (.int 4)) ao)))) (aq (.int 0)))) (setM 6 (ak gM (aa 2) (ak sr (aq (.int 10)) (aq (.int 12))))) bU ⟨dwR W m c way (some (.int (k:Int))) (some (vI w)) (some (.int p)),[]⟩=.next ⟨dwR W m c way (some (.int (k:Int))) (some (vI w)) (some (.int o)),[]⟩/\0<=o/\o<1000000000000:=by
  have t:=eq_test (j:=0) (gs (s:=⟨dwR W m c way (some (.int (k:Int))) (some (vI w)) (some (.int p)),[]⟩) (ma:=aa 2) (mb:=ak bt (aq (.int 110)) (aa 4)) (mc:=aq (.int 4)) (ag rfl) (aI (aD _ _) (ag rfl) (bT _ _)) (aD _ _) (by decide))
  cases hb:decide (cf c (110+(k:Int)) 4=0) with
  | true=>exact⟨c%1000000000000,lu t hb (bu (aI (ag rfl) (aI (aD _ _) (aD _ _) ud) (gc (by decide))) rfl),m0,m1⟩
  | false=>exact⟨p,dN t hb (cj _),p0,by omega⟩
 obtain⟨o,e7,o0,o1⟩:=e7
 have ec:=Cr (l:=way.zip w) (f:=λz=>.int z.1) (g:=λz=>.int z.2) (out:=λz=>.int (z.1+o*z.2)) (caps:=[6]) (im:=qQ (ae (aa 3) (ae (aa 5) ao))) (e:=ak bt (aa 0) (ak cF (aa 2) (aa 1))) (k:=none) (s:=⟨dwR W m c way (some (.int (k:Int))) (some (vI w)) (some (.int o)),[]⟩) (by simp[qz]) trivial (by rw[TN,b.len];omega) (λz _=>aI (ag rfl) (aI (ag rfl) (ag rfl) (cO (fj (.inl (by omega))))) (bT _ _))
 rw[show (way.zip w).map (λz=>D.int (z.1+o*z.2))=(jL way o w).map D.int by rw[jL,<- zip_map];simp] at ec
 have ln:(jL way o w).length=A.length:=by rw[ET (by rw[b.len,wl,hA])];exact b.len
 refine⟨jL way o w,some (.int o), ?_,⟨ln,λt ht=> ?_,λg hg=> ?_⟩⟩
 ·rw[mC]
  exact aT e6 (aT e7 (bu (R':=dwR W m c (jL way o w) (some (.int (k:Int))) (some (vI w)) (some (.int o))) ec rfl))
 ·unfold jL at ht
  rw[<- zip_map] at ht
  obtain⟨z,hz,rfl⟩:=Su.mp ht
  have Y:=Ta (a:=z.1) (b:=z.2) hz
  have h1:=b.lo _ Y.1
  have h2:=wo.lo _ Y.2
  have q:z.2=0\/z.2=1\/z.2=2:=by omega
  rcases q with q | q | q <;> rw[q] <;> omega
 ·rw[DL λj hj=>DD (by rw[b.len];exact hj) (by rw[wl,<- hA];exact hj),b.bal g hg,wo.bal g hg]
  simp
theorem GC{n m:Nat}{A W:List (List Int)}(mv:MvI n 90 A W)(hA:A.length=m)(m6:m<=100)(wl:∀w∈W,w.length=m)(lw:W.length<=10)(c:Int):∃way O,jU [vII W,.int (m:Int),.int c] []=.ok (vI way,O)/\wu n A 100000000000000 way:=by
 have e3:=dJ (l:=Sg m) (item:=λi:Nat=>D.int (i:Int)) (out:=λ_=>.int 0) (caps:=[]) (im:=du (ae (aa 1) ao)) (e:=aq (.int 0)) (k:=none) (s:=⟨[some (vII W),some (.int (m:Int)),some (.int c),none,none,none,none],[]⟩) (by
  rw[<- fL]
  exact dW (ax (ag rfl) (ay _)) (by omega)) trivial (by simp;omega) (λ_ _=>aD _ _)
 rw[show (Sg m).map (λ_=>D.int 0)=(Sb m (0:Int)).map D.int by rw[UF];simp[UW]] at e3
 have b0:wu n A 0 (Sb m 0):=⟨by simp[hA],λt J=>by rw[(UE.mp J).2];decide,λg _=>by
  unfold eW
  refine mS λj _=> ?_
  have:nth (Sb m (0:Int)) j=0:=by
   unfold nth
   rw[R6,SV]
   split <;> rfl
  rw[this,TU]⟩
 obtain⟨s',el,way,x4,x5,Y,bw,ap⟩:=eN (ok:=okC (dD (W.map vI)) none) (g:=cI (aS (aE 4) (aS (aE 5) cL)) 2) (body:=mC)
  (λpre s=>∃(way:List Int) (x4 x5 Y:Option D),wu n A (2000000000000*(pre.length:Int)) way/\s=⟨dwR W m c way x4 x5 Y,[]⟩) (λ_ _ _=>trivial) (dD (W.map vI)) [] (by
   rintro pre d rest ed s ⟨way,x4,x5,Y,b,rfl⟩
   rw[SE,kA] at ed
   obtain⟨as,rfl⟩:=nO ed
   have hw:W[pre.length]∈W:=S6 as
   obtain⟨ab,y6,eb,b'⟩:=CW (n:=n) (m:=m) (k:=pre.length) (A:=A) (W:=W) (c:=c) (way:=way) (w:=W[pre.length]) (x6:=Y) hA m6 b (wl _ hw) (mv.ws _ hw) ⟨by omega,by omega⟩
   refine⟨_,_,by rw[iW];rfl,.inl eb,ab,_,_,_, ?_,rfl⟩
   rw[SH,SN]
   refine⟨b'.len,λt J=> ?_,b'.bal⟩
   have:=b'.lo t J
   omega) ⟨dwR W m c (Sb m 0) none none none,[]⟩ ⟨_,none,none,none,(by rw[show (2000000000000:Int)*(([]:List D).length:Int)=0 by simp];exact b0),rfl⟩
 have az:(([]:List D)++dD (W.map vI)).length=W.length:=by rw[SE,kA];simp
 rw[az] at bw
 refine⟨way,[], ?_,bw.len,λt J=>by have:=bw.lo t J;omega,bw.bal⟩
 refine eM (R:=dwR W m c way x4 x5 Y) ?_
 show lU ⟨[some (vII W),some (.int (m:Int)),some (.int c),none,none,none,none],[]⟩=_
 rw[lU]
 refine aT (bu (R':=dwR W m c (Sb m 0) none none none) e3 rfl) (aT ?_ (bW (ag rfl)))
 refine(dh (ds:=dD (W.map vI)) (k:=none) (s1:=⟨dwR W m c (Sb m 0) none none none,[]⟩) ?_).trans (el.trans (by rw[ap]))
 rw[iB,ax (ag rfl) (ay _),aj]
theorem Gg{O:aC}{L J:List (Nat×List Int)}(h:Sto O L)(h':Sto O J):neD O (.lst (cD L)) (.lst (cD J))=.ok (.bl (!decide (L.map (·.2)=J.map (·.2)))):=by
 have q:∀A:List (List Int),M.res O (vII A)=vII A:=λA=>by rw[gA,uJ]
 have r:∀{L:List (Nat×List Int)},Sto O L->M.res O (.lst (cD L))=vII (L.map (·.2)):=λh=>by rw[gA,uB h]
 have e:eqB O (.lst (cD L)) (.lst (cD J))=eqB O (vII (L.map (·.2))) (vII (J.map (·.2))):=by
  show iu O _ _=iu O _ _
  unfold iu
  rw[r h,r h',q,q,q,q]
 unfold neD
 rw[e,LL]
abbrev CJ(goods:List Str)(ws:List Wk)(way:List Int):Prop:=uZ ws.length (ft goods ws) way 50
theorem BB{goods:List Str}{ws:List Wk}:∀r∈ft goods ws,r.length=ws.length:=λr J=>by
 unfold ft at J
 obtain⟨k,_,rfl⟩:=Su.mp J
 unfold mG;simp
theorem vG{goods:List Str}{ws:List Wk}(g4:goods.length<=5)(Y:ws.length<=7)(hs:gP 90 (chL goods ws)):tU ws.length (ft goods ws):=⟨BB,λr J x hx=>by
 unfold ft at J
 obtain⟨k,hk,rfl⟩:=Su.mp J
 obtain⟨w,hw,g,hg,rfl⟩:=D0 (S3.mp hk) hx
 exact(hs (goods.map (chg w)) (Su.mpr ⟨w,hw,rfl⟩) _ (SU hg)).mono (by decide),by unfold ft;simp;omega,Y⟩
theorem EG{n:Nat}{A:List (List Int)}{goods:List Str}{ws:List Wk}{way:List Int}(ch:chL goods ws=A)(gl:goods.length=n)(b:wu n A 100000000000000 way):CJ goods ws way:=by
 have Y:ws.length=A.length:=by have:=congrArg T3 ch;simpa using this
 refine⟨by rw[b.len,Y],λi=> ?_,λr J=> ?_,λx hx=> ?_,by decide,by decide⟩
 ·by_cases h:i<way.length
  ·exact(b.lo _ (eP h)).1
  ·rw[dO (by omega)];decide
 ·unfold ft at J
  obtain⟨g,hg,rfl⟩:=Su.mp J
  have e:mG goods ws g=(chL goods ws).map (nth · g):=by unfold mG chL;rw[So];rfl
  have h:=b.bal g (by rw[<- gl];exact S3.mp hg)
  rw[<- ch] at h
  unfold eW at h
  rw[show (chL goods ws).length=ws.length by simp] at h
  rw[e,<- h]
  exact fF λj _=>by rw[vO,TR]
 ·have:=b.lo x hx
  unfold Sz
  omega
theorem Lc{goods:List Str}{ws:List Wk}{way:List Int}(f:CJ goods ws way):∀x∈lvL goods ws way,x=0:=λx hx=>by
 unfold lvL at hx
 obtain⟨r,J,rfl⟩:=Su.mp hx
 rw[qq f.len]
 exact f.st r J
theorem Dl{goods:List Str}{ws:List Wk}{way:List Int}(h1:goods.length<=1000)(h2:ws.length<=1000)(Y:gP 90 (chL goods ws))(f:CJ goods ws way):gz [yD goods ws,vI way] []=.ok (.bl true,[]):=by
 have mw:M9 goods ws way:=⟨λw hw g hg t ht=>ig (m:=90) (n:=50) (by decide) (by decide) (Y (goods.map (chg w)) (Su.mpr ⟨w,hw,rfl⟩) _ (SU hg)) (f.sz t ht)⟩
 have J:=pU (c:=0) (m:="leaves") (n:=1) (f:=gD) (mo:=aa 0) (ma:=ae (aa 1) ao) (s:=⟨[some (yD goods ws),some (vI way)],[]⟩) (ns:=FN) (ds:=yDs goods ws) (args:=[vI way]) (ag rfl) (ax (ag rfl) (ay _)) (EW f.len h1 h2 f.all mw) (by decide) (iz _ _) (lG way) rfl (by generalize lvL goods ws way=r;simp)
 have z:=Lc f
 have ll:(lvL goods ws way).length=goods.length:=by unfold lvL ft;simp
 generalize lvL goods ws way=L at J z ll
 have hc:=dJ (l:=L) (item:=D.int) (out:=λx=>.bl (decide (x=0))) (caps:=[]) (im:=listI (methP 0 "leaves" 1 gD (aa 0) (ae (aa 1) ao))) (e:=ak eqD (aa 0) (aq (.int 0))) (k:=none) (s:=⟨[some (yD goods ws),some (vI way)],[]⟩) (by rw[cJ,J];rfl) trivial (by omega) (λx _=>aI (ag rfl) (aD _ _) (nX _ _))
 rw[show L.map (λx=>D.bl (decide (x=0)))=(L.map λx=>decide (x=0)).map D.bl by rw[So];rfl] at hc
 refine eM (R:=[some (yD goods ws),some (vI way)]) ?_
 show iR ⟨[some (yD goods ws),some (vI way)],[]⟩=_
 rw[iR]
 refine bW (dq (ax hc (ay _)) ?_)
 rw[rL,show (L.map λx=>decide (x=0)).all id=true by
  rw[UD,TZ]
  intro x hx
  exact decide_eq_true (z x hx)]
structure PT(n:Nat)(rows:List (List Int))(fit:List Int)(U:List Sh):Prop where
 good:∀s∈U,0<s.1.1/\0<s.1.2/\SW s.1.1 s.1.2=1/\Sub s.2 fit
 lo:∀s∈U,cV n rows s.2
 nd:(U.map (·.2)).Nodup
 cn:U.length<=cnt fit
 eq:∀i,(psS i U).2=(psS i U).1*nth fit i
 zt:∀s∈U,Sz 80000 s.1.1/\Sz 80000 s.1.2/\SzL 8000 s.2
theorem Nm{n:Nat}{rows:List (List Int)}{fit:List Int}{T:List Tl}{O:aC}(o:Nz n rows fit T O):PT n rows fit (T.map unp):=
 ⟨λs J=>by
  obtain⟨p,hp,rfl⟩:=Su.mp J
  exact o.good p hp,λs J=>by
  obtain⟨p,hp,rfl⟩:=Su.mp J
  exact o.lo p hp,by rw[So];exact o.nd,by rw[R9];exact o.cn,o.eq,λs J=>by
  obtain⟨p,hp,rfl⟩:=Su.mp J
  exact o.zt p hp⟩
def shT(n:Nat)(s:Tl):Tl:=(s.1,(n+s.2.1,s.2.2))
structure At(d:Nat)(T:List Tl)(O:aC):Prop where
 told:O[d]? =some (.lst (T.map tD))
 s:∀s∈T,O[s.2.1]? =some (.lst (s.2.2.map D.int))
 n0:∀s∈T,s.2.1≠d
theorem Hi(n:Nat):∀T:List Tl,fP n (T.map tD)=(T.map (shT n)).map tD
 | []=>by simp[fP]
 | s::T=>by
  rw[Sm,Sm,Sm,<- Hi n T]
  conv=>lhs;unfold fP
  congr 1
theorem FE{T:List Tl}{O:aC}{d:Nat}(S:aC)(h:At d T O):At (S.length+d) (T.map (shT S.length)) (S++O.map (shC S.length)):=by
 refine⟨?_,λs J=> ?_,λs J=> ?_⟩
 ·rw[Sj (by omega),S8,SF,h.told]
  simp only[Tn,pS,Hi]
 ·obtain⟨p,hp,rfl⟩:=Su.mp J
  show (S++O.map (shC S.length))[S.length+p.2.1]? =some (.lst (p.2.2.map D.int))
  rw[Sj (by omega),S8,SF,h.s p hp]
  simp
 ·obtain⟨p,hp,rfl⟩:=Su.mp J
  have:=h.n0 p hp
  show S.length+p.2.1≠S.length+d
  omega
theorem GD(n:Nat)(T:List Tl):(T.map (shT n)).map unp=T.map unp:=by rw[So];rfl
theorem wX{goods:List Str}{ws:List Wk}{way:List Int}(g4:goods.length<=5)(w6:ws.length<=7)(Y:gP 90 (chL goods ws))(f:CJ goods ws way):∃d T O,jC [yD goods ws,vI way] []=.ok (.ptr d,O)/\At d T O/\PT ws.length (ft goods ws) way (T.map unp):=by
 obtain⟨T,O,es,o⟩:=HK (vG g4 w6 Y) f
 have J:=FE [] (⟨o.told,o.s,o.n0⟩:At 0 T O)
 refine⟨_,_,_, ?_,J,by rw[GD];exact Nm o⟩
 refine eM (R:=[some (yD goods ws),some (vI way)]) ?_
 show nV ⟨[some (yD goods ws),some (vI way)],[]⟩=_
 rw[nV]
 have eb:=pU (c:=0) (m:="balanced") (n:=1) (f:=gz) (mo:=aa 0) (ma:=ae (aa 1) ao) (s:=⟨[some (yD goods ws),some (vI way)],[]⟩) (ns:=FN) (ds:=yDs goods ws) (args:=[vI way]) (ag rfl) (ax (ag rfl) (ay _)) (Dl (by omega) (by omega) Y f) (by decide) (iz _ _) (lG way) rfl rfl
 refine aT (dN (oC (cZ eb)) rfl (cj _)) (bW (i3 (ax (pU (ns:=FN) (ds:=yDs goods ws) (args:=[]) (ag rfl) (ay _) (yq (by omega) (by omega)) (by decide) (iz _ _) rfl rfl (by rw[gW,jm])) (ax (dq (ax (pU (ns:=FN) (ds:=yDs goods ws) (args:=[]) (ag rfl) (ay _) (zB goods (by omega)) (by decide) (iz _ _) rfl rfl (dU _)) (ay _)) (by rw[d9,R9,R9])) (ax (ag rfl) (ay _)))) es (by rw[dQ,gW,jm];simp) rfl (iD _ _) rfl))
def wS(s:Sh):D:=.tup [.tup [.int s.1.1,.int s.1.2],vI s.2]
theorem L8(U:List Sh):aP (U.map wS)=true:=by
 induction U with
 | nil=>rfl
 | cons s U J=>
  rw[Sm,dQ,J]
  simp[wS]
theorem Ey{O:aC}:∀{T:List Tl},(∀s∈T,O[s.2.1]? =some (.lst (s.2.2.map D.int)))->bP O (T.map tD)=(T.map unp).map wS
 | [],_=>by simp
 | s::T,h=>by
  have e:=Ey (T:=T) λq hq=>h q (Sl _ hq)
  rw[Sm,Sm,Sm,d4,e]
  congr 1
  have:=h s Sr
  simp[tD,wS,unp,res,bP,this]
theorem Po(t b:Int):dj [t,b]=SW t b:=by
 unfold dj
 simp[SW]
theorem Md{n:Nat}{rows:List (List Int)}{fit:List Int}{c:Nat}(f:uZ n rows fit c):(fit.filter λx=>decide (0<x)).length=cnt fit:=by
 unfold M.cnt
 congr 1
 refine V2 λx hx=> ?_
 have:=f.all x hx
 rw[decide_eq_decide]
 omega
def dF(n:Nat)(G:Nat->Int×Int):List D:=(Sg n).map λi=>.tup [.int (G i).2,.int (G i).1]
theorem wK(n:Nat)(G:Nat->Int×Int):(dF n G).length=n:=by simp[dF]
theorem DX{n a:Nat}{G:Nat->Int×Int}(h:a<n):atI (dF n G) (a:Int)=some (.tup [.int (G a).2,.int (G a).1]):=by
 rw[n5 (by rw[wK];exact h)]
 simp[dF]
theorem JN{n a:Nat}{G:Nat->Int×Int}{v:Int×Int}:(dF n G).set a (.tup [.int v.2,.int v.1])=dF n λi=>if i=a then v else G i:=by
 refine Ud (by simp[dF]) λi h1 h2=> ?_
 simp only[dF,List.getElem_set,Uv,List.getElem_range]
 by_cases e:a=i
 ·subst e
  rw[if_pos rfl,if_pos rfl]
 ·rw[if_neg e,if_neg (λz:i=a=>e z.symm)]
theorem pE{n:Nat}{G H:Nat->Int×Int}(h:∀i,i<n->G i=H i):dF n G=dF n H:=by
 unfold dF
 exact Uz λi hi=>by rw[h i (S3.mp hi)]
def nC(s:Sh)(i:Nat)(q:Int×Int):Int×Int:=(q.1*s.1.2,q.2*s.1.2+s.1.1*nth s.2 i*q.1)
theorem Gq(s:Sh)(i:Nat)(U:List Sh):nC s i (psS i U)=psS i (U++[s]):=by
 rw[Cn]
 unfold nC
 congr 1
 grind
abbrev scR(U:List Sh)(known:List (List Int))(fit:List Int)(J x6 x7 x8:Option D):List (Option D):=[some (.lst (U.map wS)),some (vII known),some (vI fit),some (.ptr 0),some (.ptr 1),J,x6,x7,x8]
structure ShZ(n:Nat)(s:Sh):Prop where
 t:Sz 80000 s.1.1
 b:Sz 80000 s.1.2
 y:SzL 8000 s.2
 l:s.2.length=n
theorem B4{n:Nat}{U:List Sh}{known:List (List Int)}{fit:List Int}{s:Sh}{c1:Cell}(z:ShZ n s)(K:List D):∀(m a:Nat) (G:Nat->Int×Int) (x6 J Y:Option D),a+m=n->(∀i,a<=i->i<n->Sz 700000 (G i).1/\Sz 700000 (G i).2)->
 ∃y6 y7 y8,cx (okC K none) (aE 6) kj ((List.range' a m).map λi:Nat=>D.int (i:Int)) ⟨scR U known fit (some (wS s)) x6 J Y,[.lst (dF n G),c1]⟩=.next ⟨scR U known fit (some (wS s)) y6 y7 y8,[.lst (dF n λi=>if a<=i then nC s i (G i) else G i),c1]⟩
 | 0,a,G,x6,J,Y,ha,_=>⟨x6,J,Y,by
  show cx _ _ _ [] _=_
  rw[cx,if_pos (show okC K none _ from trivial),pE (G:=λi=>if a<=i then nC s i (G i) else G i) (H:=G) λi hi=>if_neg (by omega)]⟩
 | m+1,a,G,x6,J,Y,ha,hz=>by
  have an:a<n:=by omega
  obtain⟨am,a0⟩:=hz a (Si _) an
  have i0:∀{x6 J Y:Option D} {O:aC},ak ixD (aa 5) (aq (.int 0)) ⟨scR U known fit (some (wS s)) x6 J Y,O⟩=.ok (.tup [.int s.1.1,.int s.1.2],⟨scR U known fit (some (wS s)) x6 J Y,O⟩):=aI (ag rfl) (aD _ _) (iN rfl)
  have i1:∀{x6 J Y:Option D} {O:aC},ak ixD (aa 5) (aq (.int 1)) ⟨scR U known fit (some (wS s)) x6 J Y,O⟩=.ok (vI s.2,⟨scR U known fit (some (wS s)) x6 J Y,O⟩):=aI (ag rfl) (aD _ _) (iN rfl)
  have it:∀{x6 J Y:Option D} {O:aC},ak ixD (ak ixD (aa 5) (aq (.int 0))) (aq (.int 0)) ⟨scR U known fit (some (wS s)) x6 J Y,O⟩=.ok (.int s.1.1,⟨scR U known fit (some (wS s)) x6 J Y,O⟩):=aI i0 (aD _ _) (iN rfl)
  have ib:∀{x6 J Y:Option D} {O:aC},ak ixD (ak ixD (aa 5) (aq (.int 0))) (aq (.int 1)) ⟨scR U known fit (some (wS s)) x6 J Y,O⟩=.ok (.int s.1.2,⟨scR U known fit (some (wS s)) x6 J Y,O⟩):=aI i0 (aD _ _) (iN rfl)
  have zy:Sz 8000 (nth s.2 a):=z.y _ (eP (by rw[z.l];exact an))
  have e1:lN (ak ixD (aa 3) (aa 6)) (cI (aS (aE 7) (aS (aE 8) cL)) 2) ⟨scR U known fit (some (wS s)) (some (.int (a:Int))) J Y,[.lst (dF n G),c1]⟩=.next ⟨scR U known fit (some (wS s)) (some (.int (a:Int))) (some (.int (G a).2)) (some (.int (G a).1)),[.lst (dF n G),c1]⟩:=Fb (aI (ag rfl) (ag rfl) (uo rfl (DX an))) (Lh (Ef rfl) (Ef rfl))
  have e2:lN (kC (ae (ak bt (ak cF (aa 7) (ak ixD (ak ixD (aa 5) (aq (.int 0))) (aq (.int 1)))) (ak cF (ak cF (ak ixD (ak ixD (aa 5) (aq (.int 0))) (aq (.int 0))) (ak ixD (ak ixD (aa 5) (aq (.int 1))) (aa 6))) (aa 8))) (ae (ak cF (aa 8) (ak ixD (ak ixD (aa 5) (aq (.int 0))) (aq (.int 1)))) ao))) (wN (aa 3) (aa 6)) ⟨scR U known fit (some (wS s)) (some (.int (a:Int))) (some (.int (G a).2)) (some (.int (G a).1)),[.lst (dF n G),c1]⟩=.next ⟨scR U known fit (some (wS s)) (some (.int (a:Int))) (some (.int (G a).2)) (some (.int (G a).1)),[.lst (dF n λi=>if i=a then nC s a (G a) else G i),c1]⟩:=by
   rw[<- JN]
   exact Fb (qx (ax (aI (aI (ag rfl) ib (cO (ig (m:=700000) (n:=80000) (by decide) (by decide) a0 z.b))) (aI (aI it (aI i1 (ag rfl) (mr (by rw[z.l];exact an))) (cO (ig (m:=80000) (n:=8000) (by decide) (by decide) z.t zy))) (ag rfl) (cO (ig (m:=88000) (n:=700000) (by decide) (by decide) ((Sz.mul z.t zy).mono (by decide)) am))) (bT _ _)) (ax (aI (ag rfl) ib (cO (ig (m:=700000) (n:=80000) (by decide) (by decide) am z.b))) (ay _))) (by simp)) (By (k:=0) (a:=a) (ds:=dF n G) (s1:=⟨scR U known fit (some (wS s)) (some (.int (a:Int))) (some (.int (G a).2)) (some (.int (G a).1)),[.lst (dF n G),c1]⟩) (s2:=⟨scR U known fit (some (wS s)) (some (.int (a:Int))) (some (.int (G a).2)) (some (.int (G a).1)),[.lst (dF n G),c1]⟩) (ag rfl) (ag rfl) rfl (by rw[wK];exact an))
  obtain⟨y6,y7,y8,e3⟩:=B4 (U:=U) (known:=known) (fit:=fit) (c1:=c1) z K m (a+1) (λi=>if i=a then nC s a (G a) else G i) (some (.int (a:Int))) (some (.int (G a).2)) (some (.int (G a).1)) (by omega) (λi h1 h2=>by
   rw[if_neg (by omega)]
   exact hz i (by omega) h2)
  refine⟨y6,y7,y8, ?_⟩
  rw[pE (G:=λi=>if a<=i then nC s i (G i) else G i) (H:=λi=>if a+1<=i then nC s i (if i=a then nC s a (G a) else G i) else if i=a then nC s a (G a) else G i) λi _=>by
   rcases V3 i a with h | h | h
   ·rw[if_neg (by omega),if_neg (by omega),if_neg (by omega)]
   ·subst h
    rw[if_pos (Si _),if_neg (by omega),if_pos rfl]
   ·rw[if_pos (by omega),if_pos (by omega),if_neg (by omega)]]
  rw[List.range'_succ,Sm]
  refine SR (dB (s1:=⟨scR U known fit (some (wS s)) (some (.int (a:Int))) J Y,[.lst (dF n G),c1]⟩) trivial rfl ?_) e3
  rw[kj]
  exact aT e1 e2
theorem LS{y fit:List Int}(Y:∀i,0<=nth y i)(J:∀i,0<=nth fit i)(h:Sub y fit):pO y&&&pO fit=pO y:=by
 refine VJ λj=> ?_
 rw[Nat.testBit_and,yM,yM]
 by_cases q:0<nth y j
 ·have h1:=h j (by omega)
  have h2:=J j
  rw[decide_eq_true q,decide_eq_true (show 0<nth fit j by omega)];rfl
 ·rw[decide_eq_false q];rfl
theorem EI{O:aC}{y:List Int}{d:D}{A:List (List Int)}(hd:lsD O d=some (A.map vI)):xQ O (vI y) d=some (A.any (· == y)):=by
 have c:oA O (vI y)=some y:=by
  unfold oA
  rw[lE]
  exact pM _
 unfold xQ
 rw[c,hd]
 dsimp only
 rw[wW]
 dsimp only
 rw[Uq]
 rfl
theorem Lu{n:Nat}{rows:List (List Int)}{U:List Sh}{known done:List (List Int)}{fit:List Int}{s:Sh}{G:Nat->Int×Int}{x6 x7 x8:Option D}(n7:n<=7)(hf:fit.length=n)(nf:∀i,0<=nth fit i)(hg:0<s.1.1/\0<s.1.2/\SW s.1.1 s.1.2=1/\Sub s.2 fit)(lo:cV n rows s.2)(hk:s.2∈known)(hn:s.2∉done)(dl:done.length<=1000)(z:ShZ n s)(zG:∀i,i<n->Sz 700000 (G i).1/\Sz 700000 (G i).2):
 ∃y6 y7 y8,fR ⟨scR U known fit (some (wS s)) x6 x7 x8,[.lst (dF n G),.lst (done.map vI)]⟩=.next ⟨scR U known fit (some (wS s)) y6 y7 y8,[.lst (dF n λi=>nC s i (G i)),.lst ((done++[s.2]).map vI)]⟩:=by
 obtain⟨h1,h2,h3,h4⟩:=hg
 have J:∀{x6 x7 x8:Option D} {O:aC},ak ixD (aa 5) (aq (.int 0)) ⟨scR U known fit (some (wS s)) x6 x7 x8,O⟩=.ok (.tup [.int s.1.1,.int s.1.2],⟨scR U known fit (some (wS s)) x6 x7 x8,O⟩):=aI (ag rfl) (aD _ _) (iN rfl)
 have Y:∀{x6 x7 x8:Option D} {O:aC},ak ixD (aa 5) (aq (.int 1)) ⟨scR U known fit (some (wS s)) x6 x7 x8,O⟩=.ok (vI s.2,⟨scR U known fit (some (wS s)) x6 x7 x8,O⟩):=aI (ag rfl) (aD _ _) (iN rfl)
 have lf:∀{x6 x7 x8:Option D} {O:aC},bf bO (ae (aa 2) ao) ⟨scR U known fit (some (wS s)) x6 x7 x8,O⟩=.ok (.int (n:Int),⟨scR U known fit (some (wS s)) x6 x7 x8,O⟩):=dq (ax (ag rfl) (ay _)) (by rw[d9,R9,hf])
 have nb:fN [.lst [.int s.1.1,.int s.1.2],.int 2] []=.ok (.bl true,[]):=wY (ts:=[s.1.1,s.1.2]) (m:=2) rfl (by decide)
 have cm:i4 [.tup [.int s.1.1,.int s.1.2]] []=.ok (.int ((1:Nat):Int),[]):=by
  have:=Lo [s.1.1,s.1.2]
  rw[Po,h3] at this
  exact this
 have n1:qW [.lst (dF n G),.lst (done.map vI)] (vI s.2) (vII known)=.ok (.bl false):=by
  unfold qW
  rw[EI lE]
  dsimp only
  rw[show known.any (· == s.2)=true from Vv.mpr ⟨s.2,hk,beq_self_eq_true _⟩]
  rfl
 have n2:Bt [.lst (dF n G),.lst (done.map vI)] (vI s.2) (.ptr 1)=.ok (.bl false):=by
  unfold Bt
  rw[EI (A:=done) (mY rfl)]
  dsimp only
  rw[show done.any (· == s.2)=false by
   rw[V4]
   intro z
   obtain⟨w,hw,e⟩:=Vv.mp z
   exact hn (by rw[<- eq_of_beq e];exact hw)]
 have pl:∀{x6 x7 x8:Option D} {O:aC},aQ 1 d6 (ae (ak ixD (aa 5) (aq (.int 1))) ao) ⟨scR U known fit (some (wS s)) x6 x7 x8,O⟩=.ok (.int (pO s.2:Int),⟨scR U known fit (some (wS s)) x6 x7 x8,O⟩):=dE (ax Y (ay _)) (xu (by rw[z.l];omega)) (lG _) rfl rfl
 have pf:∀{x6 x7 x8:Option D} {O:aC},aQ 1 d6 (ae (aa 2) ao) ⟨scR U known fit (some (wS s)) x6 x7 x8,O⟩=.ok (.int (pO fit:Int),⟨scR U known fit (some (wS s)) x6 x7 x8,O⟩):=dE (ax (ag rfl) (ay _)) (xu (by rw[hf];omega)) (lG _) rfl rfl
 obtain⟨y6,y7,y8,e6⟩:=B4 (U:=U) (known:=known) (fit:=fit) (c1:=.lst ((done++[s.2]).map vI)) z (dw 0 (n:Int)) n 0 G x6 x7 x8 (by omega) (λi _ hi=>zG i hi)
 refine⟨y6,y7,y8, ?_⟩
 rw[fR]
 refine aT (dN (ni (oC (cZ (uc (ag rfl) (EC _ _)))) (by decide) (ni (cZ (aI (dq (ax (ag rfl) (ay _)) (BO _)) (aD _ _) (mW _ _))) (by simp) (ni (oC (cZ (uc J (EC _ _)))) (by decide) (cZ (aI (dq (ax J (ay _)) (BO _)) (aD _ _) (mW _ _)))))) (by simp) (cj _)) ?_
 refine aT (dN (ni (oC (cZ (dE (ax (dq (ax J (ay _)) (GR _)) (ax (aD _ _) (ay _))) nb (by simp) rfl rfl))) rfl (ni (cZ (aI (aI J (aD _ _) (iN rfl)) (aD _ _) (ji _ _))) (decide_eq_false (by omega)) (ni (cZ (aI (aI J (aD _ _) (iN rfl)) (aD _ _) (ji _ _))) (decide_eq_false (by omega)) (cZ (aI (dE (ax J (ay _)) cm (by simp) rfl rfl) (aD _ _) (mW _ _)))))) (by decide) (cj _)) ?_
 refine aT (dN (ni (cZ (aI Y (ag rfl) n1)) rfl (ni (cZ (aI Y (ag rfl) n2)) rfl (oC (cZ (dE (ax Y (ax lf (ay _))) (wY z.l (by omega)) (by simp) rfl rfl))))) rfl (cj _)) ?_
 refine aT (dN (cZ (aI (aI pl pf (Im _ _)) pl (mW _ _))) (by rw[LS lo.fit.nn nf h4];simp) (cj _)) ?_
 refine aT (cK (mz (O':=[.lst (dF n G),.lst ((done++[s.2]).map vI)]) (ag rfl) rfl Y rfl (by rw[R9];omega) (by rw[SG];rfl))) ?_
 refine(dh (ds:=dw 0 (n:Int)) (k:=none) (s1:=⟨scR U known fit (some (wS s)) x6 x7 x8,[.lst (dF n G),.lst ((done++[s.2]).map vI)]⟩) (dW (ax lf (ay _)) (by omega))).trans ?_
 have er:dw 0 (n:Int)=(List.range' 0 n).map λi:Nat=>D.int (i:Int):=by rw[fL,List.range_eq_range']
 conv=>lhs;arg 4;rw[er]
 rw[e6,pE (G:=λi=>if 0<=i then nC s i (G i) else G i) (H:=λi=>nC s i (G i)) λi _=>if_pos (S1 _)]
theorem Kd{n:Nat}{rows:List (List Int)}{U:List Sh}{known:List (List Int)}{fit:List Int}(n7:n<=7)(hf:fit.length=n)(nf:∀i,0<=nth fit i)(hg:∀s∈U,0<s.1.1/\0<s.1.2/\SW s.1.1 s.1.2=1/\Sub s.2 fit)(lo:∀s∈U,cV n rows s.2)(hk:∀s∈U,s.2∈known)(z:∀s∈U,ShZ n s)(K:List D):
 ∀(rest pre:List Sh) (x5 J Y x8:Option D),(∀s∈rest,s∈U)->((pre++rest).map (·.2)).Nodup->pre.length+rest.length<=7->(∀i,Sz (1+80000*pre.length) (psS i pre).1/\Sz (8010+80010*pre.length) (psS i pre).2)->
 ∃y5 y6 y7 y8,cx (okC K none) (aE 5) fR (rest.map wS) ⟨scR U known fit x5 J Y x8,[.lst (dF n λi=>psS i pre),.lst ((pre.map (·.2)).map vI)]⟩=.next ⟨scR U known fit y5 y6 y7 y8,[.lst (dF n λi=>psS i (pre++rest)),.lst (((pre++rest).map (·.2)).map vI)]⟩
 | [],pre,x5,J,Y,x8,_,_,_,_=>⟨x5,J,Y,x8,by rw[S5,cx,if_pos (show okC K none _ from trivial),Tu]⟩
 | s::rest,pre,x5,J,Y,x8,hr,nd,hl,hz=>by
  have sU:=hr s Sr
  rw[Ss] at hl
  have zs:=z s sU
  obtain⟨y6,y7,y8,e1⟩:=Lu (U:=U) (known:=known) (done:=pre.map (·.2)) (G:=λi=>psS i pre) (x6:=J) (x7:=Y) (x8:=x8) n7 hf nf (hg s sU) (lo s sU) (hk s sU) (λq=>by
   rw[SG,Sm] at nd
   exact(TW.mp nd).2.2 _ q _ Sr rfl) (by rw[R9];omega) zs (λi _=>⟨(hz i).1.mono (by omega),(hz i).2.mono (by omega)⟩)
  obtain⟨w5,w6,w7,w8,e2⟩:=Kd n7 hf nf hg lo hk z K rest (pre++[s]) (some (wS s)) y6 y7 y8 (λq hq=>hr q (Sl _ hq)) (by rw[S7];exact nd) (by rw[SH,SN];omega) (λi=>by
   rw[<- Gq,SH,SN]
   obtain⟨a1,a2⟩:=hz i
   have zy:Sz 8000 (nth s.2 i):=zs.y.nth i
   exact⟨(Sz.mul a1 zs.b).mono (by omega),(Sz.add (Sz.mul a2 zs.b) (Sz.mul (Sz.mul zs.t zy) a1)).mono (by omega)⟩)
  have az:fR ⟨scR U known fit (some (wS s)) J Y x8,[.lst (dF n λi=>psS i pre),.lst ((pre.map (·.2)).map vI)]⟩=.next ⟨scR U known fit (some (wS s)) y6 y7 y8,[.lst (dF n λi=>psS i (pre++[s])),.lst (((pre++[s]).map (·.2)).map vI)]⟩:=by
   rw[pE (G:=λi=>psS i (pre++[s])) (H:=λi=>nC s i (psS i pre)) λi _=>(Gq s i pre).symm,SG (l₁:=pre)]
   exact e1
  refine⟨w5,w6,w7,w8, ?_⟩
  rw[show pre++s::rest=(pre++[s])++rest by simp,Sm]
  exact(dB (s1:=⟨scR U known fit (some (wS s)) J Y x8,[.lst (dF n λi=>psS i pre),.lst ((pre.map (·.2)).map vI)]⟩) trivial rfl az).trans e2
theorem LP{n:Nat}{rows:List (List Int)}{U:List Sh}{known:List (List Int)}{fit:List Int}(n7:n<=7)(f:uZ n rows fit 50)(p:PT n rows fit U)(hk:∀x,cV n rows x->x∈known):∃O,fK [.lst (U.map wS),vII known,vI fit] []=.ok (.bl true,O):=by
 have Y:=f.len
 have ul:U.length<=7:=by
  have h1:=p.cn
  have h2:=vb fit
  omega
 have ab:=xV (l:=fit) (item:=D.int) (out:=D.int) (p:=λx=>decide (0<x)) (caps:=[]) (im:=listI (aa 2)) (c:=bc (ak gtD (aa 0) (aq (.int 0)))) (e:=aa 0) (k:=none) (s:=⟨[some (.lst (U.map wS)),some (vII known),some (vI fit),none,none,none,none,none,none],[]⟩) (by rw[cJ,ag (i:=2) rfl,aj];rfl) trivial (by omega) (λx _=>i6 (ag rfl)) (λx _ _=>ag rfl)
 have e0:ifS (orT (kB (bc (unM (iX "list") (aa 0)))) (bc (ak gtD (bf bO (ae (aa 0) ao)) (bf bO (ae (bR 1 [] (listI (aa 2)) (aE 0) (bc (ak gtD (aa 0) (aq (.int 0)))) (aa 0)) ao))))) (cq (aq (.bl false))) bU ⟨[some (.lst (U.map wS)),some (vII known),some (vI fit),none,none,none,none,none,none],[]⟩=.next ⟨[some (.lst (U.map wS)),some (vII known),some (vI fit),none,none,none,none,none,none],[]⟩:=by
  refine dN (ni (oC (cZ (uc (ag rfl) (D9 _ _)))) (by decide) (cZ (aI (dq (ax (ag rfl) (ay _)) (d9 _)) (dq (ax ab (ay _)) (d9 _)) (yE _ _)))) ?_ (cj _)
  rw[R9,R9,Md f]
  have:=p.cn
  exact decide_eq_false (by omega)
 have e3:=BH (l:=fit) (item:=D.int) (out:=λ_=>.tup [.int 0,.int 1]) (caps:=[]) (im:=listI (aa 2)) (e:=kC (ae (aq (.int 0)) (ae (aq (.int 1)) ao))) (k:=none) (s:=⟨[some (.lst (U.map wS)),some (vII known),some (vI fit),none,none,none,none,none,none],[]⟩) (by rw[cJ,ag (i:=2) rfl,aj];rfl) trivial (by omega) (λx _=>qx (ax (aD _ _) (ax (aD _ _) (ay _))) (by simp))
 rw[show fit.map (λ_=>D.tup [.int 0,.int 1])=dF n λi=>psS i [] from Ud (by rw[wK,R9,Y]) λi h1 h2=>by
  simp only[dF,Uv]
  rfl] at e3
 have e4:setM 4 (jG ao) ⟨[some (.lst (U.map wS)),some (vII known),some (vI fit),some (.ptr 0),none,none,none,none,none],[.lst (dF n λi=>psS i [])]⟩=.next ⟨scR U known fit none none none none,[.lst (dF n λi=>psS i []),.lst ((([]:List Sh).map (·.2)).map vI)]⟩:=bu (oQ (ay _) (by simp) rfl rfl) rfl
 obtain⟨y5,y6,y7,y8,e5⟩:=Kd (U:=U) (known:=known) n7 Y f.nn p.good p.lo (λs J=>hk _ (p.lo s J)) (λs J=>⟨(p.zt s J).1,(p.zt s J).2.1,(p.zt s J).2.2,(p.lo s J).fit.len⟩) (U.map wS) U [] none none none none (λ_ q=>q) p.nd (by simp;omega) (λi=>⟨(show Sz 1 (1:Int) by unfold Sz;decide).mono (by omega),Sz.zero _⟩)
 rw[SE] at e5
 have ef:=dJ (l:=Sg n) (item:=λi:Nat=>D.int (i:Int)) (out:=λi=>.bl (decide ((psS i U).2=nth fit i*(psS i U).1))) (caps:=[2,3]) (im:=du (ae (bf bO (ae (aa 2) ao)) ao)) (e:=ak eqD (ak ixD (ak ixD (aa 2) (aa 0)) (aq (.int 0))) (ak cF (ak ixD (aa 1) (aa 0)) (ak ixD (ak ixD (aa 2) (aa 0)) (aq (.int 1))))) (k:=none) (s:=⟨scR U known fit y5 y6 y7 y8,[.lst (dF n λi=>psS i U),.lst ((U.map (·.2)).map vI)]⟩) (by
  rw[<- fL]
  exact dW (ax (dq (ax (ag rfl) (ay _)) (by rw[d9,R9,Y])) (ay _)) (by omega)) trivial (by rw[UI];omega) (λi hi=>by
   have ac:=S3.mp hi
   have g2:∀{x0:Option D},ak ixD (aa 2) (aa 0) ⟨[some (.int (i:Int)),some (vI fit),some (.ptr 0)],[.lst (dF n λi=>psS i U),.lst ((U.map (·.2)).map vI)]⟩=.ok (.tup [.int (psS i U).2,.int (psS i U).1],⟨[some (.int (i:Int)),some (vI fit),some (.ptr 0)],[.lst (dF n λi=>psS i U),.lst ((U.map (·.2)).map vI)]⟩):=aI (ag rfl) (ag rfl) (uo rfl (DX ac))
   exact aI (aI (g2 (x0:=none)) (aD _ _) (iN rfl)) (aI (aI (ag rfl) (ag rfl) (mr (by omega))) (aI (g2 (x0:=none)) (aD _ _) (iN rfl)) (cO (fj (.inl (by
    have:=f.sz _ (eP (r:=fit) (i:=i) (by omega))
    unfold Sz at this
    omega))))) (nX _ _))
 rw[show (Sg n).map (λi=>D.bl (decide ((psS i U).2=nth fit i*(psS i U).1)))=((Sg n).map λi=>decide ((psS i U).2=nth fit i*(psS i U).1)).map D.bl by rw[So];rfl] at ef
 refine DR ⟨⟨scR U known fit y5 y6 y7 y8,[.lst (dF n λi=>psS i U),.lst ((U.map (·.2)).map vI)]⟩, ?_⟩
 show gI ⟨[some (.lst (U.map wS)),some (vII known),some (vI fit),none,none,none,none,none,none],[]⟩=_
 rw[gI]
 refine aT e0 (aT (bu e3 rfl) (aT e4 (aT ?_ (bW (dq (ax ef (ay _)) ?_)))))
 ·exact(dh (im:=listI (aa 0)) (ds:=U.map wS) (k:=none) (s1:=⟨scR U known fit none none none none,[.lst (dF n λi=>psS i []),.lst ((([]:List Sh).map (·.2)).map vI)]⟩) (by rw[cJ,ag (i:=0) rfl,aj];rfl)).trans e5
 ·rw[rL,show ((Sg n).map λi=>decide ((psS i U).2=nth fit i*(psS i U).1)).all id=true by
   rw[UD,TZ]
   intro i _
   exact decide_eq_true (by rw[p.eq i,TR])]
theorem yd(n:Nat):∀A:List (List Int),fP n (A.map vI)=A.map vI
 | []=>by simp[fP]
 | x::A=>by
  show fP n (vI x::A.map vI)=_
  unfold fP
  rw[yd n A]
  have:shD n (vI x)=vI x:=by unfold shD;rw[qE]
  rw[this];rfl
abbrev lR(ns:List Int)(b:Nat)(hd:Int)(n:Nat)(A W:List (List Int))(goods:List Str)(ws:List Wk)(X:List (Option D)):List (Option D):=some (vI ns)::some (.int (b:Int))::some (.int hd)::some (.int (n:Int))::some (vII A)::some (vII W)::some (sD goods)::some (yD goods ws)::X
structure Dr(n:Nat)(A W:List (List Int))(goods:List Str)(ws:List Wk):Prop where
 wl:∀w∈W,w.length=A.length
 w4:W.length<=4
 gl:goods.length=n
 n4:n<=4
 al:A.length<=6
 mv:MvI n 90 A W
 ch:chL goods ws=A
theorem JT(ns:List Int)(b:Nat)(x2 x3 Y x5 x6 x7:Option D)(X:List (Option D))(O:aC)(m:SM)(C:Out->Prop)(hm:∀hd n A W goods ws O',Dr n A W goods ws->∃o,m ⟨lR ns b hd n A W goods ws X,O'⟩=o/\C o):
 ∃o,aN (setM 2 (aQ 2 dg (ae (aa 0) (ae (aa 1) ao)))) (aN (setM 3 (ak bt (aq (.int 1)) (aQ 3 aL (ae (aa 2) (ae (aq (.int 45)) (ae (aq (.int 4)) ao)))))) (aN (lN (yz (dY 3 gY (ae (aa 0) (ae (aa 1) (ae (aa 3) ao))))) (cI (aS (aE 4) (aS (aE 5) cL)) 2)) (aN (setM 6 (aQ 2 dS (ae (ak bt (aa 2) (aq (.int 1))) (ae (aa 3) ao)))) (aN (setM 7 (uR 0 2 iV (ae (aa 6) (ae (aQ 4 gS (ae (aa 4) (ae (aa 6) (ae (aQ 2 dS (ae (aa 2) (ae (bf bO (ae (aa 4) ao)) ao))) (ae (aa 2) ao))))) ao)))) m)))) ⟨some (vI ns)::some (.int (b:Int))::x2::x3::Y::x5::x6::x7::X,O⟩=o/\C o:=by
 obtain⟨hd,k0,_⟩:=vf ns b
 obtain⟨n0,hn,n6⟩:=tw hd 45 (m:=4) (by decide)
 have hn:cf hd 45 4=(n0:Int):=hn
 obtain⟨n,en⟩:∃n,n=1+n0:=⟨_,rfl⟩
 have e2:setM 2 (aQ 2 dg (ae (aa 0) (ae (aa 1) ao))) ⟨some (vI ns)::some (.int (b:Int))::x2::x3::Y::x5::x6::x7::X,O⟩=.next ⟨some (vI ns)::some (.int (b:Int))::some (.int hd)::x3::Y::x5::x6::x7::X,O⟩:=bu (dE (ax (ag rfl) (ax (ag rfl) (ay _))) k0 (by simp) rfl rfl) rfl
 have e3:setM 3 (ak bt (aq (.int 1)) (aQ 3 aL (ae (aa 2) (ae (aq (.int 45)) (ae (aq (.int 4)) ao))))) ⟨some (vI ns)::some (.int (b:Int))::some (.int hd)::x3::Y::x5::x6::x7::X,O⟩=.next ⟨some (vI ns)::some (.int (b:Int))::some (.int hd)::some (.int (n:Int))::Y::x5::x6::x7::X,O⟩:=by
  have:(n:Int)=1+cf hd 45 4:=by rw[hn,en];omega
  rw[this]
  exact bu (aI (aD _ _) (gs (ag rfl) (aD _ _) (aD _ _) (by decide)) (bT _ _)) rfl
 obtain⟨A,W,Om,kf,em,hA,hW,k1,mv,al,wl,w4⟩:=HP ns b (n:=n) (by omega)
 have cA:(O++Om.map (shC O.length))[O.length+0]? =some (.lst (A.map vI)):=by
  rw[Sj (by omega),S8,SF,hA]
  simp only[Tn,pS,yd]
 have cW:(O++Om.map (shC O.length))[O.length+kf]? =some (.lst (W.map vI)):=by
  rw[Sj (by omega),S8,SF,hW]
  simp only[Tn,pS,yd]
 have ec:dY 3 gY (ae (aa 0) (ae (aa 1) (ae (aa 3) ao))) ⟨some (vI ns)::some (.int (b:Int))::some (.int hd)::some (.int (n:Int))::Y::x5::x6::x7::X,O⟩=.ok (.tup [.ptr (O.length+0),.ptr (O.length+kf)],⟨some (vI ns)::some (.int (b:Int))::some (.int hd)::some (.int (n:Int))::Y::x5::x6::x7::X,O++Om.map (shC O.length)⟩):=i3 (ax (ag rfl) (ax (ag rfl) (ax (ag rfl) (ay _)))) em (by simp) rfl (by simp[shD,fP]) rfl
 generalize O++Om.map (shC O.length)=O1 at cA cW ec
 have ne:O.length+0≠O.length+kf:=by omega
 generalize O.length+0=ka at cA ec ne
 generalize O.length+kf=kw at cW ec ne
 have fz:qJ [.ptr ka,.ptr kw] O1=some ([vII A,vII W],(O1.set ka .dead).set kw .dead):=by
  unfold qJ
  rw[cA]
  dsimp only
  unfold qJ
  rw[cS ne,cW]
  rfl
 have e4:lN (yz (dY 3 gY (ae (aa 0) (ae (aa 1) (ae (aa 3) ao))))) (cI (aS (aE 4) (aS (aE 5) cL)) 2) ⟨some (vI ns)::some (.int (b:Int))::some (.int hd)::some (.int (n:Int))::Y::x5::x6::x7::X,O⟩=.next ⟨some (vI ns)::some (.int (b:Int))::some (.int hd)::some (.int (n:Int))::some (vII A)::some (vII W)::x6::x7::X,(O1.set ka .dead).set kw .dead⟩:=Fb (Ld ec fz) (by rw[iW];rfl)
 generalize (O1.set ka Cell.dead).set kw Cell.dead=J at e4
 obtain⟨goods,Og,eg,gl,gg,am⟩:=Bj (hd+1) (n:=n) (by omega)
 have e6:setM 6 (aQ 2 dS (ae (ak bt (aa 2) (aq (.int 1))) (ae (aa 3) ao))) ⟨some (vI ns)::some (.int (b:Int))::some (.int hd)::some (.int (n:Int))::some (vII A)::some (vII W)::x6::x7::X,J⟩=.next ⟨some (vI ns)::some (.int (b:Int))::some (.int hd)::some (.int (n:Int))::some (vII A)::some (vII W)::some (sD goods)::x7::X,J⟩:=bu (dE (ax (aI (ag rfl) (aD _ _) (bT _ _)) (ax (ag rfl) (ay _))) eg rfl rfl (dU _)) rfl
 obtain⟨zs,Oz,ez,zl,zg,a7⟩:=Bj hd (n:=A.length) (by omega)
 obtain⟨ws,Oo,eo,a8,an,ap⟩:=Gn (A:=A) (goods:=goods) (zs:=zs) hd am (by omega) (λl hl=>by rw[mv.len l hl,gl]) (by omega) (by omega)
 have ac:ws.map (·.nm)=zs:=by rw[a8,Ti (by omega)]
 have ck:ws.length=A.length:=by have:=congrArg T3 ap;simpa using this
 have a9:xY goods ws:=⟨λw hw=>zg _ (by rw[<- ac];exact SU hw),by rw[ac];exact a7,λw hw=>(an w hw).us,λw hw=>(an w hw).ms⟩
 have bb:df (wsD ws)=true:=nq ws
 have e7:setM 7 (uR 0 2 iV (ae (aa 6) (ae (aQ 4 gS (ae (aa 4) (ae (aa 6) (ae (aQ 2 dS (ae (aa 2) (ae (bf bO (ae (aa 4) ao)) ao))) (ae (aa 2) ao))))) ao))) ⟨some (vI ns)::some (.int (b:Int))::some (.int hd)::some (.int (n:Int))::some (vII A)::some (vII W)::some (sD goods)::x7::X,J⟩=.next ⟨lR ns b hd n A W goods ws X,J⟩:=by
  have bd:aQ 2 dS (ae (aa 2) (ae (bf bO (ae (aa 4) ao)) ao)) ⟨some (vI ns)::some (.int (b:Int))::some (.int hd)::some (.int (n:Int))::some (vII A)::some (vII W)::some (sD goods)::x7::X,J⟩=.ok (sD zs,⟨some (vI ns)::some (.int (b:Int))::some (.int hd)::some (.int (n:Int))::some (vII A)::some (vII W)::some (sD goods)::x7::X,J⟩):=dE (ax (ag rfl) (ax (dq (ax (ag rfl) (ay _)) (by rw[d9,R9])) (ay _))) ez rfl rfl (dU _)
  have be:aP [vII A,sD goods,sD zs,.int hd]=true:=by
   rw[dQ,gW,jm]
   show (true&&(aP (goods.map D.str)&&(aP (zs.map D.str)&&(true&&true))))=true
   rw[dU,dU];rfl
  have bi:aQ 4 gS (ae (aa 4) (ae (aa 6) (ae (aQ 2 dS (ae (aa 2) (ae (bf bO (ae (aa 4) ao)) ao))) (ae (aa 2) ao)))) ⟨some (vI ns)::some (.int (b:Int))::some (.int hd)::some (.int (n:Int))::some (vII A)::some (vII W)::some (sD goods)::x7::X,J⟩=.ok (wsD ws,⟨some (vI ns)::some (.int (b:Int))::some (.int hd)::some (.int (n:Int))::some (vII A)::some (vII W)::some (sD goods)::x7::X,J⟩):=dE (ax (ag rfl) (ax (ag rfl) (ax bd (ax (ag rfl) (ay _))))) eo be rfl bb
  have bm:aP [sD goods,wsD ws]=true:=by
   show (aP (goods.map D.str)&&(aP (ws.map wD)&&true))=true
   rw[dU,nq];rfl
  exact uK (i:=7) (s':=⟨some (vI ns)::some (.int (b:Int))::some (.int hd)::some (.int (n:Int))::some (vII A)::some (vII W)::some (sD goods)::x7::X,J⟩) (HR (args:=[sD goods,wsD ws]) (ax (ag rfl) (ax bi (ay _))) bm rfl (LD gg am a9 (by omega) (by omega)) (iz _ _))
 obtain⟨o,bn,ho⟩:=hm hd n A W goods ws J ⟨wl,w4,gl,by omega,al,mv,ap⟩
 exact⟨o,aT e2 (aT e3 (aT e4 (aT e6 (aT e7 bn)))),ho⟩
theorem JS{goods:List Str}{ws:List Wk}(g4:goods.length<=5)(w6:ws.length<=7)(hs:gP 90 (chL goods ws)):∃d O Q,nF [yD goods ws] []=.ok (.ptr d,O)/\O[d]? =some (.lst (cD Q))/\Sto O Q/\(∀p∈Q,p.1≠d)/\Q.length<64/\(Q.map (·.2)).Nodup/\sS (Q.map (·.2))=Q.map (·.2)/\(∀p∈Q,cV ws.length (ft goods ws) p.2/\SzL 8000 p.2)/\∀x,cV ws.length (ft goods ws) x->x∈Q.map (·.2):=by
 have lR:=BB (goods:=goods) (ws:=ws)
 have ro:=vG g4 w6 hs
 obtain⟨d,Op,Q,ep,hd,sQ,nQ,so,Y⟩:=Ex ro
 have kn:=qG lR
 have lq:Q.length<64:=by
  have:=kn.few w6
  have e:=congrArg T3 Y
  rw[R9,(nP _).length_eq] at e
  omega
 have J:∀p∈Q,p.2∈nA (ft goods ws) ws.length:=λp hp=>(nP _).mem_iff.mp (by rw[<- Y];exact SU hp)
 have nd:(Q.map (·.2)).Nodup:=by rw[Y];exact(nP _).nodup_iff.mpr kn.nd
 have am:sS (Q.map (·.2))=Q.map (·.2):=by rw[<- yS,<- so]
 have mm:(Q.map λp=>(0+p.1,p.2)).map (·.2)=Q.map (·.2):=by rw[So];rfl
 refine⟨0+d,[]++Op.map (shC 0),Q.map λp=>(0+p.1,p.2), ?_,yF (S:=[]) hd,Av (S:=[]) sQ,λp hp=> ?_,by rw[R9];exact lq,by rw[mm];exact nd,by rw[mm];exact am,λp hp=> ?_,λx hx=>by rw[mm,Y];exact(nP _).mem_iff.mpr ((kn.all x).mpr hx)⟩
 ·refine eM (R:=[some (yD goods ws)]) ?_
  show rD ⟨[some (yD goods ws)],[]⟩=_
  rw[rD]
  refine bW (i3 (ax (pU (ns:=FN) (ds:=yDs goods ws) (args:=[]) (ag rfl) (ay _) (yq (by omega) (by omega)) (by decide) (iz _ _) rfl rfl (by rw[gW,jm])) (ax (dq (ax (pU (ns:=FN) (ds:=yDs goods ws) (args:=[]) (ag rfl) (ay _) (zB goods (by omega)) (by decide) (iz _ _) rfl rfl (dU _)) (ay _)) (by rw[d9,R9,R9])) (ay _))) ep (Kr _ rfl) rfl (iD _ _) rfl)
 ·obtain⟨q,hq,rfl⟩:=Su.mp hp
  have:=nQ q hq
  dsimp only
  omega
 ·obtain⟨q,hq,rfl⟩:=Su.mp hp
  exact⟨(kn.all _).mp (J q hq),wB ro (λr hr=>hr) ro.cnt _ (J q hq)⟩
abbrev pR(ns:List Int)(b:Nat)(hd:Int)(n:Nat)(A W:List (List Int))(goods:List Str)(ws:List Wk)(Q:List (Nat×List Int))(m:Nat)(x10 x11 x12 x13 x14 x15 x16:Option D):List (Option D):=lR ns b hd n A W goods ws [some (.lst (cD Q)),some (vI (Sb m 0)),x10,x11,x12,x13,x14,x15,x16]
theorem FZ{ns:List Int}{b:Nat}{hd:Int}{n:Nat}{A W:List (List Int)}{goods:List Str}{ws:List Wk}{Q:List (Nat×List Int)}{m0:Nat}{x10 x11 x12 x13:Option D}{d:Nat}{T:List Tl}(hT:∀s∈T,s.2.1≠d)(hQ:∀p∈Q,∀s∈T,p.1≠s.2.1):
 ∀(rest:List Tl) (m:Nat) (J Y:Option D) (O:aC),(∀s∈rest,s∈T)->m+rest.length<=1000->O[d]? =some (.lst (T.map tD))->Sto O Q->(∀s∈T,∃xs,O[s.2.1]? =some (.lst xs)/\xs.length<=1000+m)->
 ∃ab ac O',cx (okC (T.map tD) (some d)) (cI (aS (aE 15) (aS (aE 16) cL)) 2) u5 (rest.map tD) ⟨pR ns b hd n A W goods ws Q m0 x10 x11 x12 x13 (some (.ptr d)) J Y,O⟩=.next ⟨pR ns b hd n A W goods ws Q m0 x10 x11 x12 x13 (some (.ptr d)) ab ac,O'⟩/\O'[d]? =some (.lst (T.map tD))/\Sto O' Q
 | [],m,J,Y,O,_,_,h,hs,_=>⟨J,Y,O,by rw[S5,cx,if_pos (show okC (T.map tD) (some d) _ from h)],h,hs⟩
 | s::rest,m,J,Y,O,hr,hm,h,hs,hc=>by
  have hp:=hr s Sr
  obtain⟨xs,h1,h2⟩:=hc s hp
  rw[Ss] at hm
  obtain⟨ab,ac,O',e,h3,h4⟩:=FZ (ns:=ns) (b:=b) (hd:=hd) (n:=n) (A:=A) (W:=W) (goods:=goods) (ws:=ws) (m0:=m0) (x10:=x10) (x11:=x11) (x12:=x12) (x13:=x13) hT hQ rest (m+1) (some (.tup [.int s.1.1,.int s.1.2])) (some (.ptr s.2.1)) (O.set s.2.1 (.lst (xs++[.int 1]))) (λz hz=>hr z (Sl _ hz)) (by omega) (by rw[cS (hT s hp)];exact h) (hs.set (λp am=>hQ p am s hp) _) (λz hz=>by
   obtain⟨ys,g1,g2⟩:=hc z hz
   by_cases he:s.2.1=z.2.1
   ·rw[<- he,fH h1]
    exact⟨_,rfl,by simp;omega⟩
   ·rw[cS he]
    exact⟨ys,g1,by omega⟩)
  refine⟨ab,ac,O', ?_,h3,h4⟩
  rw[Sm]
  refine SR (dB (s1:=⟨pR ns b hd n A W goods ws Q m0 x10 x11 x12 x13 (some (.ptr d)) (some (.tup [.int s.1.1,.int s.1.2])) (some (.ptr s.2.1)),O⟩) (s2:=⟨pR ns b hd n A W goods ws Q m0 x10 x11 x12 x13 (some (.ptr d)) (some (.tup [.int s.1.1,.int s.1.2])) (some (.ptr s.2.1)),O.set s.2.1 (.lst (xs++[.int 1]))⟩) (show okC (T.map tD) (some d) _ from h) (by rw[tD,iW];rfl) ?_) e
  rw[u5]
  exact cK (mz (ag rfl) h1 (aD _ _) h1 (by omega) rfl)
theorem EB{ns:List Int}{b:Nat}{hd:Int}{n:Nat}{A W:List (List Int)}{goods:List Str}{ws:List Wk}{Q:List (Nat×List Int)}{m0:Nat}{x10 x13 x14 x15 x16:Option D}{way:List Int}{O:aC}(g4:goods.length<=5)(w6:ws.length<=7)(hs:gP 90 (chL goods ws))(f:CJ goods ws way)(sQ:Sto O Q)(hk:∀x,cV ws.length (ft goods ws) x->x∈Q.map (·.2)):
 ∃a0 am an O',xP ⟨pR ns b hd n A W goods ws Q m0 x10 (some (vI way)) (some (vI way)) x13 x14 x15 x16,O⟩=.next ⟨pR ns b hd n A W goods ws Q m0 x10 (some (vI way)) (some (vI way)) x13 a0 am an,O'⟩/\Sto O' Q:=by
 obtain⟨d,T,Op,ep,at0,pt⟩:=wX g4 w6 hs f
 have J:=FE O at0
 have e1:setM 14 (dY 2 jC (ae (aa 7) (ae (aa 12) ao))) ⟨pR ns b hd n A W goods ws Q m0 x10 (some (vI way)) (some (vI way)) x13 x14 x15 x16,O⟩=.next ⟨pR ns b hd n A W goods ws Q m0 x10 (some (vI way)) (some (vI way)) x13 (some (.ptr (O.length+d))) x15 x16,O++Op.map (shC O.length)⟩:=bu (i3 (ax (ag rfl) (ax (ag rfl) (ay _))) ep (Ep _ _ (lG way)) rfl (iD _ _) rfl) rfl
 have ap:Sto (O++Op.map (shC O.length)) Q:=sQ.app _
 have qT:∀p∈Q,∀s∈T.map (shT O.length),p.1≠s.2.1:=λp hp s Y=>by
  obtain⟨q,hq,rfl⟩:=Su.mp Y
  have:=sQ.lt hp
  show p.1≠O.length+q.2.1
  omega
 have qd:∀p∈Q,p.1≠O.length+d:=λp hp=>by have:=sQ.lt hp;omega
 rw[<- GD O.length T] at pt
 have lT:∀s∈T.map (shT O.length),s.2.2.length=ws.length:=λs Y=>(pt.lo (unp s) (SU Y)).fit.len
 generalize O++Op.map (shC O.length)=O1 at e1 J ap
 generalize O.length+d=d1 at e1 J qd
 generalize T.map (shT O.length)=T1 at J qT pt lT
 obtain⟨Oc,ec⟩:=LP (known:=Q.map (·.2)) w6 f pt hk
 have tl:T1.length<=7:=by
  have h1:=pt.cn
  have h2:=vb way
  have h3:=f.len
  rw[R9] at h1
  omega
 have e2:ifS (orT (kB (bc (fQ 3 fK (ae (aa 14) (ae (aa 8) (ae (aa 11) ao)))))) (bc (ak neD (aa 12) (aa 11)))) (cq (aq (.bl false))) bU ⟨pR ns b hd n A W goods ws Q m0 x10 (some (vI way)) (some (vI way)) x13 (some (.ptr d1)) x15 x16,O1⟩=.next ⟨pR ns b hd n A W goods ws Q m0 x10 (some (vI way)) (some (vI way)) x13 (some (.ptr d1)) x15 x16,O1⟩:=by
  have q:∀A:List (List Int),M.res O1 (vII A)=vII A:=λA=>by rw[gA,uJ]
  have r:M.res O1 (.lst (cD Q))=vII (Q.map (·.2)):=by rw[gA,uB ap]
  have ra:bP O1 (bP O1 [.ptr d1,.lst (cD Q),vI way])=[.lst ((T1.map unp).map wS),vII (Q.map (·.2)),vI way]:=by
   rw[d4,d4,d4,d4,d4,d4,jr,jr,r,q,lC J.told,gA,Ey J.s]
   simp only[gA,jt]
  refine dN (ni (oC (cZ (pQ (ax (ag rfl) (ax (ag rfl) (ax (ag rfl) (ay _)))) ra ec ?_ rfl rfl))) rfl (cZ (aI (ag rfl) (ag rfl) (CB _ _)))) (by simp) (cj _)
  rw[dQ,gW,L8,dQ,gW,jm]
  simp
 obtain⟨am,an,O2,el,h2,a2⟩:=FZ (ns:=ns) (b:=b) (hd:=hd) (n:=n) (A:=A) (W:=W) (goods:=goods) (ws:=ws) (m0:=m0) (x10:=x10) (x11:=some (vI way)) (x12:=some (vI way)) (x13:=x13) J.n0 qT T1 0 x15 x16 O1 (λ_ q=>q) (by omega) J.told ap (λs Y=>⟨_,J.s s Y,by rw[R9,lT s Y];omega⟩)
 have hf:=dh (im:=listI (aa 14)) (g:=cI (aS (aE 15) (aS (aE 16) cL)) 2) (body:=u5) (s:=⟨pR ns b hd n A W goods ws Q m0 x10 (some (vI way)) (some (vI way)) x13 (some (.ptr d1)) x15 x16,O1⟩) (ds:=T1.map tD) (k:=some d1) (s1:=⟨pR ns b hd n A W goods ws Q m0 x10 (some (vI way)) (some (vI way)) x13 (some (.ptr d1)) x15 x16,O1⟩) (t8 (ag rfl) J.told)
 rw[el] at hf
 refine⟨some (.ptr d1),am,an,O2.set d1 (.lst []), ?_,a2.set qd _⟩
 rw[xP]
 exact aT e1 (aT e2 (aT hf (cK (NC (ag rfl) h2 rfl rfl))))
theorem Ol{ns:List Int}{b:Nat}{hd:Int}{n:Nat}{A W:List (List Int)}{goods:List Str}{ws:List Wk}{Q:List (Nat×List Int)}{m0 k:Nat}{x11 x12 x13 x14 x15 x16:Option D}{O:aC}(J:Dr n A W goods ws)(w6:ws.length<=7)(sQ:Sto O Q)(hk:∀x,cV ws.length (ft goods ws) x->x∈Q.map (·.2)):
 ∃am an ap Y ab ac O',vg ⟨pR ns b hd n A W goods ws Q m0 (some (.int (k:Int))) x11 x12 x13 x14 x15 x16,O⟩=.next ⟨pR ns b hd n A W goods ws Q m0 (some (.int (k:Int))) am an ap Y ab ac,O'⟩/\Sto O' Q:=by
 have n4:=J.n4
 have al:=J.al
 have gl:=J.gl
 have hs:gP 90 (chL goods ws):=by rw[J.ch];exact J.mv.sz
 obtain⟨c,kc,_⟩:=vf ns (b+1+k)
 rw[show ((b+1+k:Nat):Int)=(b:Int)+1+(k:Int) by omega] at kc
 obtain⟨way,Od,ed,bw⟩:=GC J.mv (m:=A.length) rfl (by omega) J.wl (by have:=J.w4;omega) (hd+c)
 have f:=EG J.ch gl bw
 have as:setM 11 (aQ 3 jU (ae (aa 5) (ae (bf bO (ae (aa 4) ao)) (ae (ak bt (aa 2) (aQ 2 dg (ae (aa 0) (ae (ak bt (ak bt (aa 1) (aq (.int 1))) (aa 10)) ao)))) ao)))) ⟨pR ns b hd n A W goods ws Q m0 (some (.int (k:Int))) x11 x12 x13 x14 x15 x16,O⟩=.next ⟨pR ns b hd n A W goods ws Q m0 (some (.int (k:Int))) (some (vI way)) x12 x13 x14 x15 x16,O⟩:=bu (dE (ax (ag rfl) (ax (dq (ax (ag rfl) (ay _)) (by rw[d9,R9])) (ax (aI (ag rfl) (dE (ax (ag rfl) (ax (aI (aI (ag rfl) (aD _ _) (bT _ _)) (ag rfl) (bT _ _)) (ay _))) kc (by simp) rfl rfl) (bT _ _)) (ay _)))) ed (by rw[dQ,gW,jm];simp) rfl (by simp)) rfl
 have az:setM 12 (bf ju (ae (aa 11) ao)) ⟨pR ns b hd n A W goods ws Q m0 (some (.int (k:Int))) (some (vI way)) x12 x13 x14 x15 x16,O⟩=.next ⟨pR ns b hd n A W goods ws Q m0 (some (.int (k:Int))) (some (vI way)) (some (vI way)) x13 x14 x15 x16,O⟩:=bu (dq (ax (ag rfl) (ay _)) (mO _)) rfl
 obtain⟨Y,ab,ac,O1,t1,a0⟩:=EB (ns:=ns) (b:=b) (hd:=hd) (n:=n) (A:=A) (W:=W) (m0:=m0) (x10:=some (.int (k:Int))) (x13:=some (.int 0)) (x14:=x14) (x15:=x15) (x16:=x16) (by omega) w6 hs f sQ hk
 obtain⟨a1,a2,a3,O2,t2,a4⟩:=EB (ns:=ns) (b:=b) (hd:=hd) (n:=n) (A:=A) (W:=W) (m0:=m0) (x10:=some (.int (k:Int))) (x13:=some (.int 1)) (x14:=Y) (x15:=ab) (x16:=ac) (by omega) w6 hs f a0 hk
 refine⟨some (vI way),some (vI way),some (.int 1),a1,a2,a3,O2, ?_,a4⟩
 rw[vg]
 refine aT as (aT az ((dh (ds:=dw 0 ((2:Nat):Int)) (k:=none) (s1:=⟨pR ns b hd n A W goods ws Q m0 (some (.int (k:Int))) (some (vI way)) (some (vI way)) x13 x14 x15 x16,O⟩) (dW (n:=2) (ax (aD _ _) (ay _)) (by decide))).trans ?_))
 rw[show (dw 0 ((2:Nat):Int))=[D.int 0,D.int 1] from rfl]
 refine SR (dB (s1:=⟨pR ns b hd n A W goods ws Q m0 (some (.int (k:Int))) (some (vI way)) (some (vI way)) (some (.int 0)) x14 x15 x16,O⟩) trivial rfl t1) ?_
 refine SR (dB (s1:=⟨pR ns b hd n A W goods ws Q m0 (some (.int (k:Int))) (some (vI way)) (some (vI way)) (some (.int 1)) Y ab ac,O1⟩) trivial rfl t2) ?_
 rw[cx,if_pos (show okC _ none _ from trivial)]
theorem B1(ns:List Int)(b:Nat)(x2 x3 x4 x5 x6 x7 x8 x9 x10 x11 x12 x13 x14 x15 x16:Option D)(O0:aC):∃O' y2 y3 y4 y5 y6 y7 y8 y9 a0 Y ab ac am an ap,uS ⟨[some (vI ns),some (.int (b:Int)),x2,x3,x4,x5,x6,x7,x8,x9,x10,x11,x12,x13,x14,x15,x16],O0⟩=.next ⟨[some (vI ns),some (.int (b:Int)),y2,y3,y4,y5,y6,y7,y8,y9,a0,Y,ab,ac,am,an,ap],O'⟩:=by
 suffices main:∃o,uS ⟨[some (vI ns),some (.int (b:Int)),x2,x3,x4,x5,x6,x7,x8,x9,x10,x11,x12,x13,x14,x15,x16],O0⟩=o/\∃O' y2 y3 y4 y5 y6 y7 y8 y9 a0 Y ab ac am an ap,o=Out.next ⟨[some (vI ns),some (.int (b:Int)),y2,y3,y4,y5,y6,y7,y8,y9,a0,Y,ab,ac,am,an,ap],O'⟩ by
  obtain⟨o,h,O',y2,y3,y4,y5,y6,y7,y8,y9,a0,Y,ab,ac,am,an,ap,rfl⟩:=main
  exact⟨O',y2,y3,y4,y5,y6,y7,y8,y9,a0,Y,ab,ac,am,an,ap,h⟩
 rw[uS]
 refine JT ns b x2 x3 x4 x5 x6 x7 [x8,x9,x10,x11,x12,x13,x14,x15,x16] O0 _ _ λhd n A W goods ws J dr=> ?_
 have be:=dr.ch
 have cz:ws.length=A.length:=by have:=congrArg T3 be;simpa using this
 have n4:=dr.n4
 have al:=dr.al
 have gl:=dr.gl
 have hs:gP 90 (chL goods ws):=by rw[dr.ch];exact dr.mv.sz
 obtain⟨d,Op,Q,ep,b5,sQ,nQ,few,nd,so,lo,all⟩:=JS (goods:=goods) (ws:=ws) (by omega) (by omega) hs
 have run:∀{R:List (Option D)} {O:aC},R[7]? =some (some (yD goods ws))->jw (dY 1 nF (ae (aa 7) ao)) ⟨R,O⟩=.ok (.lst (cD (Q.map λp=>(O.length+p.1,p.2))),⟨R,(O++Op.map (shC O.length)).set (O.length+d) .dead⟩):=λ{R O} hR=>pJ (i3 (ax (ag hR) (ay _)) ep (K5 _ _) rfl (iD _ _) rfl) (yF (S:=O) b5) rfl
 have st:∀O:aC,Sto ((O++Op.map (shC O.length)).set (O.length+d) .dead) (Q.map λp=>(O.length+p.1,p.2)):=λO=>(Av (S:=O) sQ).set (λp hp=>by
  obtain⟨q,hq,rfl⟩:=Su.mp hp
  have:=nQ q hq
  dsimp only
  omega) _
 have mQ:∀N:Nat,(Q.map λp=>(N+p.1,p.2)).map (·.2)=Q.map (·.2):=λN=>by rw[So];rfl
 have e8:setM 8 (jw (dY 1 nF (ae (aa 7) ao))) ⟨lR ns b hd n A W goods ws [x8,x9,x10,x11,x12,x13,x14,x15,x16],J⟩=.next ⟨lR ns b hd n A W goods ws [some (.lst (cD (Q.map λp=>(J.length+p.1,p.2)))),x9,x10,x11,x12,x13,x14,x15,x16],(J++Op.map (shC J.length)).set (J.length+d) .dead⟩:=bu (run rfl) rfl
 have a1:=st J
 have a3:=mQ J.length
 generalize (J++Op.map (shC J.length)).set (J.length+d) Cell.dead=O1 at e8 a1
 generalize (Q.map λp=>(J.length+p.1,p.2))=Q1 at e8 a1 a3
 have all1:∀x,cV ws.length (ft goods ws) x->x∈Q1.map (·.2):=λx hx=>by rw[a3];exact all x hx
 have ez:=dJ (l:=Sg A.length) (item:=λi:Nat=>D.int (i:Int)) (out:=λ_=>.int 0) (caps:=[]) (im:=du (ae (bf bO (ae (aa 4) ao)) ao)) (e:=aq (.int 0)) (k:=none) (s:=⟨lR ns b hd n A W goods ws [some (.lst (cD Q1)),x9,x10,x11,x12,x13,x14,x15,x16],O1⟩) (by
  rw[<- fL]
  exact dW (ax (dq (ax (ag rfl) (ay _)) (by rw[d9,R9])) (ay _)) (by omega)) trivial (by simp;omega) (λ_ _=>aD _ _)
 rw[show (Sg A.length).map (λ_=>D.int 0)=(Sb A.length (0:Int)).map D.int by rw[UF];simp[UW]] at ez
 have e9:setM 9 (bR 1 [] (du (ae (bf bO (ae (aa 4) ao)) ao)) (aE 0) bV (aq (.int 0))) ⟨lR ns b hd n A W goods ws [some (.lst (cD Q1)),x9,x10,x11,x12,x13,x14,x15,x16],O1⟩=.next ⟨pR ns b hd n A W goods ws Q1 A.length x10 x11 x12 x13 x14 x15 x16,O1⟩:=bu ez rfl
 have b0:wu n A 100000000000000 (Sb A.length 0):=⟨by simp,λt ht=>by rw[(UE.mp ht).2];decide,λg _=>by
  unfold eW
  refine mS λj _=> ?_
  have:nth (Sb A.length (0:Int)) j=0:=by
   unfold nth
   rw[R6,SV]
   split <;> rfl
  rw[this,TU]⟩
 obtain⟨dp,T,Os,es,at0,pt⟩:=wX (by omega) (by omega) hs (EG be gl b0)
 have T0:T=[]:=by
  have h1:=pt.cn
  have h2:cnt (Sb A.length (0:Int))=0:=by
   unfold M.cnt
   simp
  rw[R9] at h1
  exact List.eq_nil_of_length_eq_zero (by omega)
 subst T0
 have b8:=FE O1 at0
 have bm:ifS (bc (ak neD (jw (dY 2 jC (ae (aa 7) (ae (aa 9) ao)))) (jy ao))) (cq (aq (.bl false))) bU ⟨pR ns b hd n A W goods ws Q1 A.length x10 x11 x12 x13 x14 x15 x16,O1⟩=.next ⟨pR ns b hd n A W goods ws Q1 A.length x10 x11 x12 x13 x14 x15 x16,(O1++Os.map (shC O1.length)).set (O1.length+dp) .dead⟩:=dN (cZ (aI (pJ (i3 (ax (ag rfl) (ax (ag rfl) (ay _))) es (Ep _ _ (lG _)) rfl (iD _ _) rfl) b8.told rfl) (qD (ay _) (by simp)) (CB [] []))) rfl (cj _)
 have bn:Sto ((O1++Os.map (shC O1.length)).set (O1.length+dp) .dead) Q1:=(a1.app _).set (λp hp=>by have:=a1.lt hp;omega) _
 generalize (O1++Os.map (shC O1.length)).set (O1.length+dp) Cell.dead=O2 at bm bn
 obtain⟨Y,ab,ac,am,an,ap,O3,k1,cb⟩:=Ol (ns:=ns) (b:=b) (hd:=hd) (m0:=A.length) (k:=0) (x11:=x11) (x12:=x12) (x13:=x13) (x14:=x14) (x15:=x15) (x16:=x16) dr (by omega) bn all1
 obtain⟨cc,ce,ci,ck,cm,co,O4,k2,bv⟩:=Ol (ns:=ns) (b:=b) (hd:=hd) (m0:=A.length) (k:=1) (x11:=Y) (x12:=ab) (x13:=ac) (x14:=am) (x15:=an) (x16:=ap) dr (by omega) cb all1
 have cp:eC (du (ae (aq (.int 2)) ao)) (aE 10) vg ⟨pR ns b hd n A W goods ws Q1 A.length x10 x11 x12 x13 x14 x15 x16,O2⟩=.next ⟨pR ns b hd n A W goods ws Q1 A.length (some (.int ((1:Nat):Int))) cc ce ci ck cm co,O4⟩:=by
  refine(dh (ds:=dw 0 ((2:Nat):Int)) (k:=none) (s1:=⟨pR ns b hd n A W goods ws Q1 A.length x10 x11 x12 x13 x14 x15 x16,O2⟩) (dW (n:=2) (ax (aD _ _) (ay _)) (by decide))).trans ?_
  rw[show (dw 0 ((2:Nat):Int))=[D.int ((0:Nat):Int),D.int ((1:Nat):Int)] from rfl]
  refine SR (dB (s1:=⟨pR ns b hd n A W goods ws Q1 A.length (some (.int ((0:Nat):Int))) x11 x12 x13 x14 x15 x16,O2⟩) trivial rfl k1) ?_
  refine SR (dB (s1:=⟨pR ns b hd n A W goods ws Q1 A.length (some (.int ((1:Nat):Int))) Y ab ac am an ap,O3⟩) trivial rfl k2) ?_
  rw[cx,if_pos (show okC _ none _ from trivial)]
 have cr:Sto ((O4++Op.map (shC O4.length)).set (O4.length+d) .dead) Q1:=(bv.app _).set (λp hp=>by have:=bv.lt hp;omega) _
 have ne:=Gg (st O4) cr
 rw[mQ,a3,decide_eq_true rfl] at ne
 exact⟨_,aT e8 (aT e9 (aT bm (aT cp (dN (cZ (aI (run rfl) (ag rfl) ne)) rfl (cj _))))),_,_,_,_,_,_,_,_,_,_,_,_,_,_,_,_,rfl⟩
theorem ID(ns:List Int)(h:ns.length<=63):∃O,Ap [.lst (ns.map D.int)] []=.ok (.bl true,O):=by
 obtain⟨O1,a2,a3,a4,a5,a6,a7,a8,a9,J,Y,ab,ac,am,an,ap,e1⟩:=B1 ns 0 none none none none none none none none none none none none none none none []
 obtain⟨O2,b2,b3,b4,b5,b6,b7,b8,b9,as,az,a0,a1,bb,bd,be,e2⟩:=B1 ns 5 a2 a3 a4 a5 a6 a7 a8 a9 J Y ab ac am an ap O1
 refine DR ⟨⟨[some (vI ns),some (.int 5),b2,b3,b4,b5,b6,b7,b8,b9,as,az,a0,a1,bb,bd,be],O2⟩, ?_⟩
 show EY ⟨[some (vI ns),none,none,none,none,none,none,none,none,none,none,none,none,none,none,none,none],[]⟩=_
 rw[EY]
 refine aT ?_ (bW (aD _ _))
 refine(dh (ds:=[.int 0,.int 5]) (k:=none) (s1:=⟨[some (vI ns),none,none,none,none,none,none,none,none,none,none,none,none,none,none,none,none],[]⟩) ?_).trans ?_
 ·rw[cJ,qD (ax (aD _ _) (ax (aD _ _) (ay _))) (by simp),aj];rfl
 ·refine(dB (s1:=⟨[some (vI ns),some (.int 0),none,none,none,none,none,none,none,none,none,none,none,none,none,none,none],[]⟩) trivial rfl e1).trans ((dB (s1:=⟨[some (vI ns),some (.int 5),a2,a3,a4,a5,a6,a7,a8,a9,J,Y,ab,ac,am,an,ap],O1⟩) trivial rfl e2).trans ?_)
  rw[cx,if_pos (show okC _ none _ from trivial)];rfl
theorem all_mk {l:VA} {w:World} {K:R4} {h:Heap} {mg:Str->Option Value} {fa f0 f1 f2 f3 f4 f5 f6 f7 f8 f9 hM hN hO hP hQ hR hS hT e7 e8 e9 hW fc ff fh hY h0 h3 h4 h5 h6 h7 h8 h9 ia ib ih fi ii ij il io is iv iw ix i0 i1 i2 i7 Y:Addr} (X:K.In h) (G:h.Ns mainGlobals mg) (Al:mg "law" =some (.ref fa)) (J:l.prog.given.tree=none)
 {As Ax Ay AC AD AI AJ AK AR AS AT AZ A1 A3 A4 A5 A7 Ba Bp Bs ka kc kd kf kg kk kl km kn kt ku la lc lf lh li lk lm ln lp lq lv lx ly lz lA lB lS lT ma mc me mh mi mk ml mm mo mp mq mu mw mB mD mE mJ mM mQ m0 m1 m2 m3 m6 m7 na nb nc nd nf nh nl nn no nr nt nw ny nz nK nN nQ nT n1 n2 n3 n6 ob oc od fv:Option Addr} {Bu BK BQ B0 B6 Ch Ck Cs Cy CI oe ol on op ou ov oz oD oF oL oT oX o0 o1 o2 o9 pa pc pd pf pg pi pk pm po pp pq pr pu pw px py pH pZ p0 p3 p4 p5 p8 qd:Array (Option Value)} {CK CL CT CU qh CY CZ C1 C2 C4 qi C5 C8 C9 Db Dd ql Dg Dn Do Dp Du qn Dx Dy DA DC DE qp DF DG DH DI DJ qr DM DN DO DP DQ qs Ev EQ E3 E6 Fa qF Fe Fi Fk Fm Fo qH Fs Fy FK FL FS qS FT qT qV q0 q3 fw q4 q5 q6 q7 q8 fx q9 ra rb rc rd fy re ri ro rp rr fz rs ru rv rx ry ga rz rM rN rO rR ge rW r0 r1 r2 r3 gg r4 r5 r6 r7 sa gm sb sc sd sh si gp sl sn so ss sw gt sy sB sF sH sK gF sM sQ sU sV sW gH sY sZ s3 s4 s5 gJ s6 s7 s8 s9 tf gK ti tj tn tp tr gL tt tz tL tS tV g0 tX t0 t1 t2 t3 g1 t4 t9 ul up ut g2 uu uz uD u8 vh g3 vk vl vm vn vp g4 vr vu vv vw vx g8 vy vA vE vJ vK he vP vQ vR vU vV hf vY vZ v0 v1 v2 hg v3 v4 v5 v6 v9 hh wd wf wg wh wi hj wj wk wl wm wn hl wo wp wt wv ww ho wE wF wI wL wP hr wT w0 w1 w2 w3 hs w4 w5 w6 w7 w8 ht xz xL xS x0 x1 hv x2 x3 x4 x5 x6 hw x7 x8 x9 ya yg hA ym yv yw y0 y1 hB y2 y3 y4 y5 y6 hC y7 y8 y9 zb zg hD zh zl zm zn zp hF zq zt zv zw zy hG zA zG hH hI hK ev hL:Value} {cm cA cB:Tok}
 (eh:Se K mainGlobals "Yard" =some (some (.ref Y)))
 (ew:Uu K Y Str.empty=true)
 (ez:UG K Y=true)
 (eA:Vd K Y=true)
 (eB:SS K (.ref Y) "__setattr__" =some (some (.builtin "object.__setattr__")))
 (eF:Vz K Y=true)
 (eL:Sd K (.ref Y)=true)
 (bv:SS K (.ref Y) "held_changes" =some none)
 (bw:SS K (.ref Y) "held_goods" =some none)
 (b1:SS K (.ref Y) "held_works" =some none)
 (a0:Se K mainGlobals "is_whole" =some (some (.ref f0)))
 (l0:K.lookup f0=some ⟨CK,As,.func (Sk "is_whole" "is_whole" (bo lg) (bj lg) (aF lg) .none CL CT CU Ax qh CY),Bu⟩)
 (c0:Sf K qh "is_whole" =true)
 (k0:Sd K (.ref f0)=true)
 (a1:Se K mainGlobals "measure_of_two" =some (some (.ref f1)))
 (l1:K.lookup f1=some ⟨CZ,Ay,.func (Sk "measure_of_two" "measure_of_two" (bo gb) (bj gb) (aF gb) .none C1 C2 C4 AC qi C5),BK⟩)
 (c1:Sf K qi "measure_of_two" =true)
 (k1:Sd K (.ref f1)=true)
 (a2:Se K mainGlobals "measure" =some (some (.ref f2)))
 (l2:K.lookup f2=some ⟨C8,AD,.func (Sk "measure" "measure" (bo m9) (bj m9) (aF m9) .none C9 Db Dd AI ql Dg),BQ⟩)
 (c2:Sf K ql "measure" =true)
 (k2:Sd K (.ref f2)=true)
 (a3:Se K mainGlobals "lowest" =some (some (.ref f3)))
 (l3:K.lookup f3=some ⟨Dn,AJ,.func (Sk "lowest" "lowest" (bo oi) (bj oi) (aF oi) .none Do Dp Du AK qn Dx),B0⟩)
 (c3:Sf K qn "lowest" =true)
 (k3:Sd K (.ref f3)=true)
 (a4:Se K mainGlobals "ratio" =some (some (.ref f4)))
 (l4:K.lookup f4=some ⟨Dy,AR,.func (Sk "ratio" "ratio" (bo pT) (bj pT) (aF pT) .none DA DC DE AS qp DF),B6⟩)
 (c4:Sf K qp "ratio" =true)
 (k4:Sd K (.ref f4)=true)
 (a5:Se K mainGlobals "sum_of_products" =some (some (.ref f5)))
 (l5:K.lookup f5=some ⟨DG,AT,.func (Sk "sum_of_products" "sum_of_products" (bo fI) (bj fI) (aF fI) .none DH DI DJ AZ qr DM),Ch⟩)
 (c5:Sf K qr "sum_of_products" =true)
 (k5:Sd K (.ref f5)=true)
 (a6:Se K mainGlobals "unit" =some (some (.ref f6)))
 (l6:K.lookup f6=some ⟨DN,A1,.func (Sk "unit" "unit" (bo rJ) (bj rJ) (aF rJ) .none DO DP DQ A3 qs Ev),Ck⟩)
 (c6:Sf K qs "unit" =true)
 (k6:Sd K (.ref f6)=true)
 (a7:Se K mainGlobals "units" =some (some (.ref f7)))
 (l7:K.lookup f7=some ⟨EQ,A4,.func (Sk "units" "units" (bo pW) (bj pW) (aF pW) .none E3 E6 Fa A5 qF Fe),Cs⟩)
 (c7:Sf K qF "units" =true)
 (k7:Sd K (.ref f7)=true)
 (a8:Se K mainGlobals "offset" =some (some (.ref f8)))
 (l8:K.lookup f8=some ⟨Fi,A7,.func (Sk "offset" "offset" (bo nZ) (bj nZ) (aF nZ) .none Fk Fm Fo Ba qH Fs),Cy⟩)
 (c8:Sf K qH "offset" =true)
 (k8:Sd K (.ref f8)=true)
 (a9:Se K mainGlobals "first_not_nought" =some (some (.ref f9)))
 (l9:K.lookup f9=some ⟨Fy,Bp,.func (Sk "first_not_nought" "first_not_nought" (bo fq) (bj fq) (aF fq) .none FK FL FS Bs qS FT),CI⟩)
 (c9:Sf K qS "first_not_nought" =true)
 (k9:Sd K (.ref f9)=true)
 (FW:Se K mainGlobals "places_of" =some (some (.ref hM)))
 (FX:K.lookup hM=some ⟨qT,ka,.func (Sk "places_of" "places_of" (bo kb) (bj kb) (aF kb) .none qV q0 q3 kc fw q4),oe⟩)
 (Gc:Sf K fw "places_of" =true)
 (Go:Sd K (.ref hM)=true)
 (Gt:Se K mainGlobals "is_among" =some (some (.ref hN)))
 (Gx:K.lookup hN=some ⟨q5,kd,.func (Sk "is_among" "is_among" (bo kO) (bj kO) (aF kO) .none q6 q7 q8 kf fx q9),ol⟩)
 (GG:Sf K fx "is_among" =true)
 (GH:Sd K (.ref hN)=true)
 (GK:Se K mainGlobals "are_neighbours" =some (some (.ref hO)))
 (GV:K.lookup hO=some ⟨ra,kg,.func (Sk "are_neighbours" "are_neighbours" (bo fY) (bj fY) (aF fY) .none rb rc rd kk fy re),on⟩)
 (Hd:Sf K fy "are_neighbours" =true)
 (Hr:Sd K (.ref hO)=true)
 (Hs:Se K mainGlobals "lone_by_one_more" =some (some (.ref hP)))
 (Ht:K.lookup hP=some ⟨ri,kl,.func (Sk "lone_by_one_more" "lone_by_one_more" (bo fo) (bj fo) (aF fo) .none ro rp rr km fz rs),op⟩)
 (Hw:Sf K fz "lone_by_one_more" =true)
 (Hz:Sd K (.ref hP)=true)
 (HF:Se K mainGlobals "lone" =some (some (.ref hQ)))
 (HH:K.lookup hQ=some ⟨ru,kn,.func (Sk "lone" "lone" (bo rn) (bj rn) (aF rn) .none rv rx ry kt ga rz),ou⟩)
 (HL:Sf K ga "lone" =true)
 (HM:Sd K (.ref hQ)=true)
 (HN:Se K mainGlobals "check_fit" =some (some (.ref hR)))
 (H3:K.lookup hR=some ⟨rM,ku,.func (Sk "check_fit" "check_fit" (bo ke) (bj ke) (aF ke) .none rN rO rR la ge rW),ov⟩)
 (H4:Sf K ge "check_fit" =true)
 (H5:Sd K (.ref hR)=true)
 (H6:Se K mainGlobals "tightest_place" =some (some (.ref hS)))
 (H7:K.lookup hS=some ⟨r0,lc,.func (Sk "tightest_place" "tightest_place" (bo fZ) (bj fZ) (aF fZ) .none r1 r2 r3 lf gg r4),oz⟩)
 (H8:Sf K gg "tightest_place" =true)
 (H9:Sd K (.ref hS)=true)
 (If:Se K mainGlobals "shares" =some (some (.ref hT)))
 (Is:K.lookup hT=some ⟨r5,lh,.func (Sk "shares" "shares" (bo oh) (bj oh) (aF oh) .none r6 r7 sa li gm sb),oD⟩)
 (Ix:Sf K gm "shares" =true)
 (Iz:Sd K (.ref hT)=true)
 (IB:SS K (.ref Y) "row" =some (some (.ref e7)))
 (IJ:TL K (.ref e7)=true)
 (IN:K.lookup e7=some ⟨sc,lk,.func (Sk "row" "Yard.row" (bo lK) (bj lK) (aF lK) .none sd sh si lm gp sl),oF⟩)
 (IR:Sf K gp "Yard.row" =true)
 (zT:Sd K (.ref e7)=true)
 (I1:SS K (.ref Y) "rows" =some (some (.ref e8)))
 (I2:TL K (.ref e8)=true)
 (I3:K.lookup e8=some ⟨sn,ln,.func (Sk "rows" "Yard.rows" (bo j1) (bj j1) (aF j1) .none so ss sw lp gt sy),oL⟩)
 (I4:Sf K gt "Yard.rows" =true)
 (zW:Sd K (.ref e8)=true)
 (I5:SS K (.ref Y) "names" =some (some (.ref e9)))
 (I6:TL K (.ref e9)=true)
 (I7:K.lookup e9=some ⟨sB,lq,.func (Sk "names" "Yard.names" (bo jl) (bj jl) (aF jl) .none sF sH sK lv gF sM),oT⟩)
 (I8:Sf K gF "Yard.names" =true)
 (zX:Sd K (.ref e9)=true)
 (I9:Se K mainGlobals "ways" =some (some (.ref hW)))
 (Jd:K.lookup hW=some ⟨sQ,lx,.func (Sk "ways" "ways" (bo rA) (bj rA) (aF rA) .none sU sV sW ly gH sY),oX⟩)
 (Jf:Sf K gH "ways" =true)
 (Jk:Sd K (.ref hW)=true)
 (Jp:SS K (.ref Y) "check_way" =some (some (.ref fc)))
 (JC:TL K (.ref fc)=true)
 (JE:K.lookup fc=some ⟨sZ,lz,.func (Sk "check_way" "Yard.check_way" (bo fV) (bj fV) (aF fV) .none s3 s4 s5 lA gJ s6),o0⟩)
 (JF:Sf K gJ "Yard.check_way" =true)
 (z0:Sd K (.ref fc)=true)
 (JP:SS K (.ref Y) "leaves" =some (some (.ref ff)))
 (JY:TL K (.ref ff)=true)
 (J0:K.lookup ff=some ⟨s7,lB,.func (Sk "leaves" "Yard.leaves" (bo iE) (bj iE) (aF iE) .none s8 s9 tf lS gK ti),o1⟩)
 (Kj:Sf K gK "Yard.leaves" =true)
 (z1:Sd K (.ref ff)=true)
 (KE:SS K (.ref Y) "balanced" =some (some (.ref fh)))
 (KI:TL K (.ref fh)=true)
 (KX:K.lookup fh=some ⟨tj,lT,.func (Sk "balanced" "Yard.balanced" (bo gy) (bj gy) (aF gy) .none tn tp tr ma gL tt),o2⟩)
 (KZ:Sf K gL "Yard.balanced" =true)
 (z2:Sd K (.ref fh)=true)
 (K1:Se K mainGlobals "parted" =some (some (.ref hY)))
 (Lf:K.lookup hY=some ⟨tz,mc,.func (Sk "parted" "parted" (bo og) (bj og) (aF og) .none tL tS tV me g0 tX),o9⟩)
 (Li:Sf K g0 "parted" =true)
 (Ls:Sd K (.ref hY)=true)
 (Lt:Se K mainGlobals "is_name" =some (some (.ref h0)))
 (Lw:K.lookup h0=some ⟨t0,mh,.func (Sk "is_name" "is_name" (bo mZ) (bj mZ) (aF mZ) .none t1 t2 t3 mi g1 t4),pa⟩)
 (LB:Sf K g1 "is_name" =true)
 (LH:Sd K (.ref h0)=true)
 (LI:Se K mainGlobals "check_many" =some (some (.ref h3)))
 (LJ:K.lookup h3=some ⟨t9,mk,.func (Sk "check_many" "check_many" (bo jk) (bj jk) (aF jk) .none ul up ut ml g2 uu),pc⟩)
 (L0:Sf K g2 "check_many" =true)
 (L1:Sd K (.ref h3)=true)
 (L4:Se K mainGlobals "check_name" =some (some (.ref h4)))
 (Mj:K.lookup h4=some ⟨uz,mm,.func (Sk "check_name" "check_name" (bo je) (bj je) (aF je) .none uD u8 vh mo g3 vk),pd⟩)
 (Mo:Sf K g3 "check_name" =true)
 (Mq:Sd K (.ref h4)=true)
 (Mr:Se K mainGlobals "check_goods" =some (some (.ref h5)))
 (Ms:K.lookup h5=some ⟨vl,mp,.func (Sk "check_goods" "check_goods" (bo iJ) (bj iJ) (aF iJ) .none vm vn vp mq g4 vr),pf⟩)
 (Mt:Sf K g4 "check_goods" =true)
 (Mu:Sd K (.ref h5)=true)
 (Mv:Se K mainGlobals "check_good" =some (some (.ref h6)))
 (Mw:K.lookup h6=some ⟨vu,mu,.func (Sk "check_good" "check_good" (bo jb) (bj jb) (aF jb) .none vv vw vx mw g8 vy),pg⟩)
 (Mx:Sf K g8 "check_good" =true)
 (ML:Sd K (.ref h6)=true)
 (MM:Se K mainGlobals "check_amount" =some (some (.ref h7)))
 (MQ:K.lookup h7=some ⟨vA,mB,.func (Sk "check_amount" "check_amount" (bo gZ) (bj gZ) (aF gZ) .none vE vJ vK mD he vP),pi⟩)
 (MW:Sf K he "check_amount" =true)
 (M2:Sd K (.ref h7)=true)
 (Ng:Se K mainGlobals "check_parts" =some (some (.ref h8)))
 (No:K.lookup h8=some ⟨vQ,mE,.func (Sk "check_parts" "check_parts" (bo iI) (bj iI) (aF iI) .none vR vU vV mJ hf vY),pk⟩)
 (Nr:Sf K hf "check_parts" =true)
 (Nu:Sd K (.ref h8)=true)
 (Nw:Se K mainGlobals "check_works" =some (some (.ref h9)))
 (Ny:K.lookup h9=some ⟨vZ,mM,.func (Sk "check_works" "check_works" (bo iC) (bj iC) (aF iC) .none v0 v1 v2 mQ hg v3),pm⟩)
 (NE:Sf K hg "check_works" =true)
 (NF:Sd K (.ref h9)=true)
 (NH:Se K mainGlobals "copy_work" =some (some (.ref ia)))
 (NI:K.lookup ia=some ⟨v4,m0,.func (Sk "copy_work" "copy_work" (bo jV) (bj jV) (aF jV) .none v5 v6 v9 m1 hh wd),po⟩)
 (NM:Sf K hh "copy_work" =true)
 (NN:Sd K (.ref ia)=true)
 (NT:Se K mainGlobals "amount_of" =some (some (.ref ib)))
 (NU:K.lookup ib=some ⟨wf,m2,.func (Sk "amount_of" "amount_of" (bo j9) (bj j9) (aF j9) .none wg wh wi m3 hj wj),pp⟩)
 (N3:Sf K hj "amount_of" =true)
 (Oc:Sd K (.ref ib)=true)
 (Od:Se K mainGlobals "change_of" =some (some (.ref ih)))
 (Oe:K.lookup ih=some ⟨wk,m6,.func (Sk "change_of" "change_of" (bo j2) (bj j2) (aF j2) .none wl wm wn m7 hl wo),pq⟩)
 (Og:Sf K hl "change_of" =true)
 (Om:Sd K (.ref ih)=true)
 (Oo:SS K (.ref Y) "__init__" =some (some (.ref fi)))
 (Op:TL K (.ref fi)=true)
 (Ot:K.lookup fi=some ⟨wp,na,.func (Sk "__init__" "Yard.__init__" (bo jZ) (bj jZ) (aF jZ) .none wt wv ww nb ho wE),pr⟩)
 (Ou:Sf K ho "Yard.__init__" =true)
 (Ov:Sd K (.ref fi)=true)
 (Ow:Se K mainGlobals "_law_cell" =some (some (.ref ii)))
 (Ox:K.lookup ii=some ⟨wF,nc,.func (Sk "_law_cell" "_law_cell" (bo lr) (bj lr) (aF lr) .none wI wL wP nd hr wT),pu⟩)
 (Oy:Sf K hr "_law_cell" =true)
 (Oz:Sd K (.ref ii)=true)
 (OA:Se K mainGlobals "_law_pick" =some (some (.ref ij)))
 (OB:K.lookup ij=some ⟨w0,nf,.func (Sk "_law_pick" "_law_pick" (bo kW) (bj kW) (aF kW) .none w1 w2 w3 nh hs w4),pw⟩)
 (OD:Sf K hs "_law_pick" =true)
 (OK:Sd K (.ref ij)=true)
 (OT:Se K mainGlobals "_law_names" =some (some (.ref il)))
 (OY:K.lookup il=some ⟨w5,nl,.func (Sk "_law_names" "_law_names" (bo jX) (bj jX) (aF jX) .none w6 w7 w8 nn ht xz),px⟩)
 (O0:Sf K ht "_law_names" =true)
 (O1:Sd K (.ref il)=true)
 (O2:Se K mainGlobals "_law_move" =some (some (.ref io)))
 (O3:K.lookup io=some ⟨xL,no,.func (Sk "_law_move" "_law_move" (bo lF) (bj lF) (aF lF) .none xS x0 x1 nr hv x2),py⟩)
 (O4:Sf K hv "_law_move" =true)
 (O5:Sd K (.ref io)=true)
 (O9:Se K mainGlobals "_law_moves" =some (some (.ref is)))
 (Pa:K.lookup is=some ⟨x3,nt,.func (Sk "_law_moves" "_law_moves" (bo jY) (bj jY) (aF jY) .none x4 x5 x6 nw hw x7),pH⟩)
 (Pd:Sf K hw "_law_moves" =true)
 (Pg:Sd K (.ref is)=true)
 (Pj:Se K mainGlobals "_law_works" =some (some (.ref iv)))
 (Pr:K.lookup iv=some ⟨x8,ny,.func (Sk "_law_works" "_law_works" (bo j7) (bj j7) (aF j7) .none x9 ya yg nz hA ym),pZ⟩)
 (Ps:Sf K hA "_law_works" =true)
 (PH:Sd K (.ref iv)=true)
 (PP:Se K mainGlobals "_law_common" =some (some (.ref iw)))
 (PQ:K.lookup iw=some ⟨yv,nK,.func (Sk "_law_common" "_law_common" (bo i9) (bj i9) (aF i9) .none yw y0 y1 nN hB y2),p0⟩)
 (PZ:Sf K hB "_law_common" =true)
 (P5:Sd K (.ref iw)=true)
 (Qf:Se K mainGlobals "_law_places" =some (some (.ref ix)))
 (Qp:K.lookup ix=some ⟨y3,nQ,.func (Sk "_law_places" "_law_places" (bo i5) (bj i5) (aF i5) .none y4 y5 y6 nT hC y7),p3⟩)
 (Qv:Sf K hC "_law_places" =true)
 (QB:Sd K (.ref ix)=true)
 (QK:Se K mainGlobals "_law_numbers" =some (some (.ref i0)))
 (QR:K.lookup i0=some ⟨y8,n1,.func (Sk "_law_numbers" "_law_numbers" (bo iH) (bj iH) (aF iH) .none y9 zb zg n2 hD zh),p4⟩)
 (Q1:Sf K hD "_law_numbers" =true)
 (Rc:Sd K (.ref i0)=true)
 (Re:Se K mainGlobals "_law_shares_come" =some (some (.ref i1)))
 (Rf:K.lookup i1=some ⟨zl,n3,.func (Sk "_law_shares_come" "_law_shares_come" (bo fM) (bj fM) (aF fM) .none zm zn zp n6 hF zq),p5⟩)
 (Rg:Sf K hF "_law_shares_come" =true)
 (Rh:Sd K (.ref i1)=true)
 (Ri:Se K mainGlobals "_law_drawn" =some (some (.ref i2)))
 (Rj:K.lookup i2=some ⟨zt,ob,.func (Sk "_law_drawn" "_law_drawn" (bo j5) (bj j5) (aF j5) .none zv zw zy oc hG zA),p8⟩)
 (Rk:Sf K hG "_law_drawn" =true)
 (Rl:Sd K (.ref i2)=true)
 (z3:Se K mainGlobals "law" =some (some (.ref i7)))
 (Rm:K.lookup i7=some ⟨zG,od,.func (Sk "law" "law" (bo pL) (bj pL) (aF pL) .none hH hI hK fv ev hL),qd⟩)
 (Rn:Sf K ev "law" =true)
 (Ro:Sd K (.ref i7)=true)
 (bn:Se K mainGlobals "isinstance" =some none)
 (dr:Se K mainGlobals "int" =some none)
 (en:Se K mainGlobals "bool" =some none)
 (eQ:Se K mainGlobals "abs" =some none)
 (bi:Se K mainGlobals "list" =some none)
 (cp:Se K mainGlobals "zip" =some none)
 (ek:Se K mainGlobals "sum" =some none)
 (bd:Se K mainGlobals "range" =some none)
 (ab:Se K mainGlobals "enumerate" =some none)
 (as:Se K mainGlobals "len" =some none)
 (ep:Se K mainGlobals "sorted" =some none)
 (e0:Se K mainGlobals "any" =some none)
 (dL:Se K mainGlobals "all" =some none)
 (jp:Se K mainGlobals "max" =some none)
 (e4:Se K mainGlobals "tuple" =some none)
 (cn:Se K mainGlobals "MOST_LETTERS" =some (some (.int 8 cm)))
 (cC:Se K mainGlobals "MOST_GOODS" =some (some (.int 10 cA)))
 (cW:Se K mainGlobals "MOST_WORKS" =some (some (.int 10 cB))):
 ∃fd:FuncData,(∀(s:Shared) (v:Value),BindsTo s fd ⟨[v],[]⟩ [("_law_script",v)])/\∀base:Heap,K.In base->base.Ns mainGlobals mg->lM l.prog w K mg base (CXE l.prog w) 43 fa fd ["_law_script"] (spM K (caK K) 1 Ap):=by
 have e:=Al.symm.trans (Sn X G z3)
 cases e
 have ac:caK K 0=Y:=by show clsAt K "Yard" =_;unfold clsAt;rw[eh]
 have az:Cls K (caK K 0):=by rw[ac];exact⟨ew,ez,eA,eB⟩
 have bb:fS K (caK K 0) "held_changes" :=by rw[ac];exact bv
 have be:fS K (caK K 0) "held_goods" :=by rw[ac];exact bw
 have am:fS K (caK K 0) "held_works" :=by rw[ac];exact b1
 have F0:=bI (st:=lg) l0 c0 k0
 have F1:=bI (st:=gb) l1 c1 k1
 have F2:=bI (st:=m9) l2 c2 k2
 have F3:=bI (st:=oi) l3 c3 k3
 have F4:=bI (st:=pT) l4 c4 k4
 have F5:=bI (st:=fI) l5 c5 k5
 have F6:=bI (st:=rJ) l6 c6 k6
 have F7:=bI (st:=pW) l7 c7 k7
 have F8:=bI (st:=nZ) l8 c8 k8
 have F9:=bI (st:=fq) l9 c9 k9
 have Rp:=bI (st:=kb) FX Gc Go
 have Rq:=bI (st:=kO) Gx GG GH
 have Rr:=bI (st:=fY) GV Hd Hr
 have Rs:=bI (st:=fo) Ht Hw Hz
 have Rt:=bI (st:=rn) HH HL HM
 have Ru:=bI (st:=ke) H3 H4 H5
 have Rv:=bI (st:=fZ) H7 H8 H9
 have Rw:=bI (st:=oh) Is Ix Iz
 have Rx:=bI (st:=lK) IN IR zT
 have Ry:=bI (st:=j1) I3 I4 zW
 have Rz:=bI (st:=jl) I7 I8 zX
 have RA:=bI (st:=rA) Jd Jf Jk
 have RB:=bI (st:=fV) JE JF z0
 have RC:=bI (st:=iE) J0 Kj z1
 have RD:=bI (st:=gy) KX KZ z2
 have RE:=bI (st:=og) Lf Li Ls
 have RF:=bI (st:=mZ) Lw LB LH
 have RG:=bI (st:=jk) LJ L0 L1
 have RH:=bI (st:=je) Mj Mo Mq
 have RI:=bI (st:=iJ) Ms Mt Mu
 have RJ:=bI (st:=jb) Mw Mx ML
 have RK:=bI (st:=gZ) MQ MW M2
 have RL:=bI (st:=iI) No Nr Nu
 have RM:=bI (st:=iC) Ny NE NF
 have RN:=bI (st:=jV) NI NM NN
 have RO:=bI (st:=j9) NU N3 Oc
 have RP:=bI (st:=j2) Oe Og Om
 have RQ:=bI (st:=jZ) Ot Ou Ov
 have RR:=bI (st:=lr) Ox Oy Oz
 have RS:=bI (st:=kW) OB OD OK
 have RT:=bI (st:=jX) OY O0 O1
 have RU:=bI (st:=lF) O3 O4 O5
 have RV:=bI (st:=jY) Pa Pd Pg
 have RW:=bI (st:=j7) Pr Ps PH
 have RX:=bI (st:=i9) PQ PZ P5
 have RY:=bI (st:=i5) Qp Qv QB
 have RZ:=bI (st:=iH) QR Q1 Rc
 have R0:=bI (st:=fM) Rf Rg Rh
 have R1:=bI (st:=j5) Rj Rk Rl
 have R3:=bI (st:=pL) Rm Rn Ro
 refine⟨Sk "law" "law" (bo pL) (bj pL) (aF pL) .none hH hI hK fv ev hL,λs v=>.of_eq rfl,λbase _ _=> ?_⟩
 have ce:=De (P:=l.prog) (w:=w) (mg:=mg) (base:=base) (ca:=caK K) F0 (Sn X G a0) J (R7 X G bn) (R7 X G dr) (R7 X G en)
 have bm:=vq (P:=l.prog) (w:=w) (mg:=mg) (base:=base) (ca:=caK K) F1 (Sn X G a1) J (R7 X G eQ)
 have el:=EZ (P:=l.prog) (w:=w) (mg:=mg) (base:=base) (ca:=caK K) F2 (Sn X G a2) J bm.in
 have dp:=Hy (P:=l.prog) (w:=w) (mg:=mg) (base:=base) (ca:=caK K) F3 (Sn X G a3) J (R7 X G bi) el.in
 have e5:=Ji (P:=l.prog) (w:=w) (mg:=mg) (base:=base) (ca:=caK K) F4 (Sn X G a4) J ce.in bm.in
 have an:=uj (P:=l.prog) (w:=w) (mg:=mg) (base:=base) (ca:=caK K) F5 (Sn X G a5) J (R7 X G cp) (R7 X G ek)
 have fl:=Mn (P:=l.prog) (w:=w) (mg:=mg) (base:=base) (ca:=caK K) F6 (Sn X G a6) J
 have e6:=J7 (P:=l.prog) (w:=w) (mg:=mg) (base:=base) (ca:=caK K) F7 (Sn X G a7) J (R7 X G bd) fl.in
 have er:=GB (P:=l.prog) (w:=w) (mg:=mg) (base:=base) (ca:=caK K) F8 (Sn X G a8) J (R7 X G cp) dp.in
 have b2:=tq (P:=l.prog) (w:=w) (mg:=mg) (base:=base) (ca:=caK K) F9 (Sn X G a9) J (R7 X G ab)
 have b7:=Cf (P:=l.prog) (w:=w) (mg:=mg) (base:=base) (ca:=caK K) Rp (Sn X G FW) J
 have ci:=Dh (P:=l.prog) (w:=w) (mg:=mg) (base:=base) (ca:=caK K) Rq (Sn X G Gt) J
 have b8:=vj (P:=l.prog) (w:=w) (mg:=mg) (base:=base) (ca:=caK K) Rr (Sn X G GK) J (R7 X G as) ci.in
 have b3:=tu (P:=l.prog) (w:=w) (mg:=mg) (base:=base) (ca:=caK K) Rs (Sn X G Hs) J (R7 X G cp) (R7 X G ab) an.in b7.in b8.in er.in
 have eo:=Lk (P:=l.prog) (w:=w) (mg:=mg) (base:=base) (ca:=caK K) Rt (Sn X G HF) J (R7 X G ep) e6.in b3.in
 have dV:=Ar (P:=l.prog) (w:=w) (mg:=mg) (base:=base) (ca:=caK K) Ru (Sn X G HN) J (R7 X G as) (R7 X G e0) an.in
 have b9:=vo (P:=l.prog) (w:=w) (mg:=mg) (base:=base) (ca:=caK K) Rv (Sn X G H6) J (R7 X G ab) b2.in
 have et:=Gi (P:=l.prog) (w:=w) (mg:=mg) (base:=base) (ca:=caK K) Rw (Sn X G If) J (R7 X G bi) (R7 X G cp) dV.in eo.in ci.in b7.in b9.in e5.in dp.in
 have ei:=DK (P:=l.prog) (w:=w) (mg:=mg) (base:=base) (ca:=caK K) Rx (by rw[ac];exact⟨IB,IJ,zT⟩) J az bb
 have bp:=Bn (P:=l.prog) (w:=w) (mg:=mg) (base:=base) (ca:=caK K) Ry (by rw[ac];exact⟨I1,I2,zW⟩) J (R7 X G as) (R7 X G bd) az be ei
 have b4:=zR (P:=l.prog) (w:=w) (mg:=mg) (base:=base) (ca:=caK K) Rz (by rw[ac];exact⟨I5,I6,zX⟩) J az am
 have fr:=KQ (P:=l.prog) (w:=w) (mg:=mg) (base:=base) (ca:=caK K) RA (Sn X G I9) J (R7 X G as) az eo.in bp b4
 have cb:=vt (P:=l.prog) (w:=w) (mg:=mg) (base:=base) (ca:=caK K) RB (by rw[ac];exact⟨Jp,JC,z0⟩) J (R7 X G as) (R7 X G e0) az am
 have cr:=xX (P:=l.prog) (w:=w) (mg:=mg) (base:=base) (ca:=caK K) RC (by rw[ac];exact⟨JP,JY,z1⟩) J az cb bp an.in
 have cc:=wa (P:=l.prog) (w:=w) (mg:=mg) (base:=base) (ca:=caK K) RD (by rw[ac];exact⟨KE,KI,z2⟩) J (R7 X G dL) az cr
 have eu:=GF (P:=l.prog) (w:=w) (mg:=mg) (base:=base) (ca:=caK K) RE (Sn X G K1) J (R7 X G as) az cc et.in bp b4
 have em:=Fg (P:=l.prog) (w:=w) (mg:=mg) (base:=base) (ca:=caK K) RF (Sn X G Lt) J (R7 X G as) (R7 X G dL) ⟨_,Sn X G cn⟩
 have db:=Ab (P:=l.prog) (w:=w) (mg:=mg) (base:=base) (ca:=caK K) RG (Sn X G LI) J (R7 X G as) ⟨_,Sn X G cC⟩ ⟨_,Sn X G cW⟩
 have b5:=Aa (P:=l.prog) (w:=w) (mg:=mg) (base:=base) (ca:=caK K) RH (Sn X G L4) J em.in
 have cs:=xW (P:=l.prog) (w:=w) (mg:=mg) (base:=base) (ca:=caK K) RI (Sn X G Mr) J (R7 X G ab) b5.in
 have dd:=Ai (P:=l.prog) (w:=w) (mg:=mg) (base:=base) (ca:=caK K) RJ (Sn X G Mv) J
 have co:=xv (P:=l.prog) (w:=w) (mg:=mg) (base:=base) (ca:=caK K) RK (Sn X G MM) J ce.in
 have cu:=yh (P:=l.prog) (w:=w) (mg:=mg) (base:=base) (ca:=caK K) RL (Sn X G Ng) J dd.in co.in
 have cw:=yp (P:=l.prog) (w:=w) (mg:=mg) (base:=base) (ca:=caK K) RM (Sn X G Nw) J b5.in cu.in
 have d1:=CQ (P:=l.prog) (w:=w) (mg:=mg) (base:=base) (ca:=caK K) RN (Sn X G NH) J (R7 X G bi)
 have d2:=Co (P:=l.prog) (w:=w) (mg:=mg) (base:=base) (ca:=caK K) RO (Sn X G NT) J (R7 X G ek)
 have ea:=CO (P:=l.prog) (w:=w) (mg:=mg) (base:=base) (ca:=caK K) RP (Sn X G Od) J d2.in
 have eb:=CD (P:=l.prog) (w:=w) (mg:=mg) (base:=base) (ca:=caK K) RQ (by rw[ac];exact⟨eF,Oo,Op,eL⟩) (by rw[ac];exact Sn X G eh) J (R7 X G bi) az be am bb db.in cs.in cw.in d1.in ea.in
 have ck:=Dw (P:=l.prog) (w:=w) (mg:=mg) (base:=base) (ca:=caK K) RR (Sn X G Ow) J (R7 X G as)
 have ap:=Dm (P:=l.prog) (w:=w) (mg:=mg) (base:=base) (ca:=caK K) RS (Sn X G OA) J
 have ec:=B5 (P:=l.prog) (w:=w) (mg:=mg) (base:=base) (ca:=caK K) RT (Sn X G OT) J (R7 X G bd) (R7 X G as) ap.in
 have ej:=DB (P:=l.prog) (w:=w) (mg:=mg) (base:=base) (ca:=caK K) RU (Sn X G O2) J (R7 X G dr) (R7 X G bd) ap.in
 have ed:=BD (P:=l.prog) (w:=w) (mg:=mg) (base:=base) (ca:=caK K) RV (Sn X G O9) J (R7 X G dr) (R7 X G bd) (R7 X G as) (R7 X G ek) (R7 X G bi) ck.in ap.in ej.in
 have ef:=BI (P:=l.prog) (w:=w) (mg:=mg) (base:=base) (ca:=caK K) RW (Sn X G Pj) J (R7 X G ab) (R7 X G jp) ap.in
 have dm:=zV (P:=l.prog) (w:=w) (mg:=mg) (base:=base) (ca:=caK K) RX (Sn X G PP) J (R7 X G eQ)
 have dn:=Ag (P:=l.prog) (w:=w) (mg:=mg) (base:=base) (ca:=caK K) RY (Sn X G Qf) J (R7 X G ab)
 have cz:=yc (P:=l.prog) (w:=w) (mg:=mg) (base:=base) (ca:=caK K) RZ (Sn X G QK) J (R7 X G bn) (R7 X G bi) (R7 X G as) (R7 X G dr) (R7 X G en) (R7 X G dL)
 have b6:=tQ (P:=l.prog) (w:=w) (mg:=mg) (base:=base) (ca:=caK K) R0 (Sn X G Re) J (R7 X G bn) (R7 X G bi) (R7 X G as) (R7 X G e4) (R7 X G bd) (R7 X G dL) cz.in dm.in dn.in
 have eg:=AN (P:=l.prog) (w:=w) (mg:=mg) (base:=base) (ca:=caK K) R1 (Sn X G Ri) J (R7 X G bd) (R7 X G ab) (R7 X G cp) ap.in
 have js:=MK (P:=l.prog) (w:=w) (mg:=mg) (base:=base) (ca:=caK K) R3 (Sn X G z3) J (R7 X G as) (R7 X G bd) (R7 X G bi) ck.in ap.in ed.in ec.in eb ef.in fr.in eu.in eg.in b6.in
 exact js.1
end Lk22
open PySem PySem.W PyProof.Rows
theorem PySem.W.Fast.tw15097130076770312783:True:=⟨⟩
theorem PySem.W.Fast.tw4804626430843565838:True:=⟨⟩
theorem PySem.W.Fast.tw120505452804809523:True:=⟨⟩
theorem PySem.W.Fast.tw15130882390187536115:True:=⟨⟩
theorem PySem.W.Fast.tw431574569864636212:True:=⟨⟩
theorem PySem.W.Fast.tw16642607841121129959:True:=⟨⟩
theorem PySem.W.Fast.tw26309049767979491:True:=⟨⟩
theorem PySem.W.Fast.tw3462732237403520719:True:=⟨⟩
theorem PySem.W.Fast.tw4731876717033306203:True:=⟨⟩
theorem PySem.W.Fast.tw2686661813912081092:True:=⟨⟩
theorem PySem.W.Fast.tw8309490957916543309:True:=⟨⟩
theorem PySem.W.Fast.tw1766304733316118312:True:=⟨⟩
theorem PySem.W.Fast.tw10038963881776447958:True:=⟨⟩
theorem PySem.W.Fast.tw8848365991478005775:True:=⟨⟩
theorem PySem.W.Fast.tw8948161102716282724:True:=⟨⟩
theorem PySem.W.Fast.tw14841276473511703132:True:=⟨⟩
theorem PySem.W.Fast.tw11966407648174280269:True:=⟨⟩
theorem PySem.W.Fast.tw13180426792178320212:True:=⟨⟩
theorem PySem.W.Fast.tw2020145425746099187:True:=⟨⟩
theorem PySem.W.Fast.tw13850305089911520496:True:=⟨⟩
theorem PySem.W.Fast.tw2816960434770075904:True:=⟨⟩
theorem PySem.W.Fast.tw16767008445144632500:True:=⟨⟩
theorem PySem.W.Fast.tw13694177348705084061:True:=⟨⟩
theorem PySem.W.Fast.tw12152497250893972547:True:=⟨⟩
theorem PySem.W.Fast.tw12457534343344600507:True:=⟨⟩
theorem PySem.W.Fast.tw16006246072688379552:True:=⟨⟩
theorem PySem.W.Fast.tw5726992946936798885:True:=⟨⟩
theorem PySem.W.Fast.tw4602173164124822265:True:=⟨⟩
theorem PySem.W.Fast.tw13234805113860116322:True:=⟨⟩
theorem PySem.W.Fast.tw7046040148199905493:True:=⟨⟩
theorem PySem.W.Fast.tw8955341859762362930:True:=⟨⟩
theorem PySem.W.Fast.tw11395037744549952558:True:=⟨⟩
theorem PySem.W.Fast.tw10104852680599069133:True:=⟨⟩
theorem PySem.W.Fast.tw3855706090339538002:True:=⟨⟩
theorem PySem.W.Fast.tw14228581894408836926:True:=⟨⟩
theorem PySem.W.Fast.tw16974543193055668042:True:=⟨⟩
theorem PySem.W.Fast.tw11107286192290667238:True:=⟨⟩
theorem PySem.W.Fast.tw14417279350386381340:True:=⟨⟩
theorem PySem.W.Fast.tw13325150740269945778:True:=⟨⟩
theorem PySem.W.Fast.tw6608288636051830784:True:=⟨⟩
theorem PySem.W.Fast.tw139414231640592070:True:=⟨⟩
theorem PySem.W.Fast.tw2510420639346880660:True:=⟨⟩
theorem PySem.W.Fast.tw17872794942676223959:True:=⟨⟩
theorem PySem.W.Fast.tw14094591618852388565:True:=⟨⟩
theorem PySem.W.Fast.tw5419782966694387703:True:=⟨⟩
theorem PySem.W.Fast.tw13886634007701247313:True:=⟨⟩
theorem PySem.W.Fast.tw6285479317270748222:True:=⟨⟩
theorem PySem.W.Fast.tw3641465344779526637:True:=⟨⟩
theorem PySem.W.Fast.tw13461069709994239733:True:=⟨⟩
theorem PySem.W.Fast.tw335944244183398798:True:=⟨⟩
theorem PySem.W.Fast.tw8864749302153883903:True:=⟨⟩
theorem PySem.W.Fast.tw10939934431655144668:True:=⟨⟩
theorem PySem.W.Fast.tw3396128502112506368:True:=⟨⟩
theorem PySem.W.Fast.tw7769746108272335652:True:=⟨⟩
theorem PySem.W.Fast.tw3794272799825891404:True:=⟨⟩
theorem PySem.W.Fast.tw13148546459407516117:True:=⟨⟩
theorem PySem.W.Fast.tw9919478320790755107:True:=⟨⟩
theorem PySem.W.Fast.tw3330342933652209132:True:=⟨⟩
theorem PySem.W.Fast.tw4236218865651033226:True:=⟨⟩
theorem PySem.W.Fast.tw11794373626184756869:True:=⟨⟩
set_option maxRecDepth 100000 in
set_option maxHeartbeats 0 in
theorem PySem.Challenge.cw_modeyard_k22_balanced_ways_parted_holds : PySem.Challenge.rw_modeyard_k22_balanced_ways_parted.Holds := by
 w_on;o_law;k_head;(case hw=>w_witness2)
 k_fill
 refine L2.Ia (l:=PySem.Challenge.rw_modeyard_k22_balanced_ways_parted) (n:=63) (k:=43) (x:="_law_script") (sp:=λK=>M.spM K (Lk22.caK K) 1 Lk22.Ap) rfl (by decide) rfl ⟨rfl,by decide,by decide⟩ (by decide +kernel) (λw h Y=>PySem.W.kIn_of Y) ?F ?S
 case F=>
  intro w mg fa h KX G hmg
  refine' Lk22.all_mk KX G hmg rfl ?_ ?_ ?_ ?_ ?_ ?_ ?_ ?_ ?_ ?_ ?_ ?_ ?_ ?_ ?_ ?_ ?_ ?_ ?_ ?_ ?_ ?_ ?_ ?_ ?_ ?_ ?_ ?_ ?_ ?_ ?_ ?_ ?_ ?_ ?_ ?_ ?_ ?_ ?_ ?_ ?_ ?_ ?_ ?_ ?_ ?_ ?_ ?_ ?_ ?_ ?_ ?_ ?_ ?_ ?_ ?_ ?_ ?_ ?_ ?_ ?_ ?_ ?_ ?_ ?_ ?_ ?_ ?_ ?_ ?_ ?_ ?_ ?_ ?_ ?_ ?_ ?_ ?_ ?_ ?_ ?_ ?_ ?_ ?_ ?_ ?_ ?_ ?_ ?_ ?_ ?_ ?_ ?_ ?_ ?_ ?_ ?_ ?_ ?_ ?_ ?_ ?_ ?_ ?_ ?_ ?_ ?_ ?_ ?_ ?_ ?_ ?_ ?_ ?_ ?_ ?_ ?_ ?_ ?_ ?_ ?_ ?_ ?_ ?_ ?_ ?_ ?_ ?_ ?_ ?_ ?_ ?_ ?_ ?_ ?_ ?_ ?_ ?_ ?_ ?_ ?_ ?_ ?_ ?_ ?_ ?_ ?_ ?_ ?_ ?_ ?_ ?_ ?_ ?_ ?_ ?_ ?_ ?_ ?_ ?_ ?_ ?_ ?_ ?_ ?_ ?_ ?_ ?_ ?_ ?_ ?_ ?_ ?_ ?_ ?_ ?_ ?_ ?_ ?_ ?_ ?_ ?_ ?_ ?_ ?_ ?_ ?_ ?_ ?_ ?_ ?_ ?_ ?_ ?_ ?_ ?_ ?_ ?_ ?_ ?_ ?_ ?_ ?_ ?_ ?_ ?_ ?_ ?_ ?_ ?_ ?_ ?_ ?_ ?_ ?_ ?_ ?_ ?_ ?_ ?_ ?_ ?_ ?_ ?_ ?_ ?_ ?_ ?_ ?_ ?_ ?_ ?_ ?_ ?_ ?_
  all_goals try k_is
 case S=>exact λK H a ns hl _ hS=>M.M5 hS (Lk22.ID ns hl)