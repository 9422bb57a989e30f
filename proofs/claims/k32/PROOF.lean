import PyProof.Rows.All
import Wide.All
import OpenK.AllK
import Wide.FinOn
import Lean
import PyProof.EqAt
import PyProof.EqKinds
import PyProof.TupleCall
import PySem.Challenge.RW_modeyard_k32_idle_works
set_option Elab.async false
set_option linter.all false
set_option maxRecDepth 100000
set_option maxHeartbeats 4000000
open Array renaming getD_eq_getD_getElem?→PU,getElem?_toList→Qj,length_toList→QT,perm_iff_toList_perm→Q5,toList_inj→Rl,getElem_toList→RG,toList_map→R7
open Bool renaming false_ne_true→ut,eq_iff_iff→Fk,and_eq_true→IN,beq_eq_decide_eq→Pw,true_and→Qo,false_eq_true→Qr,false_and→Qx,or_eq_true→QR,and_false→QY,or_false→Q4,eq_false_iff→R1,true_or→SH
open Classical renaming byContradiction→E9,axiomOfChoice→Rs,propDecidable→Rt
open Eq renaming trans→vr
open False renaming elim→lc
open ForInStep renaming yield→P9
open Function renaming comp_def→Qf
open Iff renaming rfl→RU
open Int renaming mul_eq_zero→AT,mul_nonneg→Fh,mul_pos→MH,emod_lt_of_pos→Px,mul_comm→PH,emod_nonneg→PX,mul_le_mul_of_nonneg_right→Qb,mul_neg_of_pos_of_neg→Qq,natAbs_natCast→Qs,mul_ediv_cancel_left→Qt,mul_zero→Qu,zero_mul→Qv,mul_nonpos_of_nonneg_of_nonpos→QA,mul_assoc→QD,natAbs_dvd_natAbs→QJ,natAbs_of_nonneg→QM,gcd→Rb,mul_ne_zero→Ry,natAbs_mul→RC,natAbs_neg→RD,le_of_lt→RO,toNat_natCast→RX,natAbs_add_le→R0
open List renaming getD_eq_getElem?_getD→kt,mem_map→li,getElem?_eq_getElem→na,length_map→nW,mem_cons_of_mem→ol,range→pc,mem_cons_self→pi,replicate→pr,getElem?_append_right→re,mem_cons→sn,map_map→ss,mem_singleton→sB,mem_append→sE,map_cons→sH,getElem?_map→sI,size_toArray→sK,getElem?_append_left→tt,length_cons→tz,getElem?_eq_some_iff→t3,mem_filter→u0,length_append→u8,nil_append→vG,mem_range→wn,map_append→wp,getElem?_replicate→wE,filter_cons_of_pos→wI,mem_append_right→wP,getElem_mem→wT,length_singleton→xz,mem_of_getElem?→x0,filter_cons_of_neg→Aj,mem_map_of_mem→As,pairwise_cons→AC,drop_eq_getElem_cons→Ch,of_mem_zip→CK,getElem?_set_self→EX,replicate_succ→Fa,mem_append_left→FS,getElem?_set_ne→Gc,lookup_cons→Go,append_assoc→Ix,map_nil→IR,toArray→Kg,mem_of_mem_eraseIdx→KE,nodup_cons→NE,filterMap_cons→Pm,getElem_of_mem→Pn,length_zipWith→Po,getElem?_range→Pp,take_of_length_le→Pq,zipWith→Pr,map_inj_right→Py,append_nil→PB,foldl_cons→PD,flatten_cons→PJ,not_mem_nil→PK,ext_getElem→PL,all_eq_true→PM,length→PP,length_zip→PV,filter_map→PY,nodup_append→PZ,pairwise_map→P0,length_range→P4,mapIdx_eq_zipIdx_map→P5,sum_cons→P8,lookup→Qc,drop_eq_nil_of_le→Qe,take_add_one→Qg,length_replicate→Qi,getElem?_eq_none→Qk,length_filter_le→Ql,length_take→Qn,pairwise_iff_getElem→Qp,foldl_append→QB,all_cons→QC,length_drop→QF,zipIdx_cons→QG,all_map→QL,range_succ→QN,zipIdx_map→QQ,mem_of_mem_take→QS,map_congr_left→QV,lookup_append→Q1,zip_cons_cons→Q2,find?_eq_none→Q3,getElem?_eq_none_iff→Q8,getElem?_take_of_lt→Rf,drop_length→Rk,getElem_map→Rm,mem_nil_iff→Rn,length_erase_of_mem→Ro,mem_flatMap→Rp,any_eq_true→Rq,eraseIdx_cons_succ→Rr,length_nil→Rx,range_succ_eq_map→RA,getElem?_zipWith→RB,drop_zero→RE,getElem_zipWith→RH,mem_of_mem_drop→RI,mem_filterMap→RM,mem_replicate→RS,map_replicate→RT,any_eq_false→RV,getElem_inj→R4,zipWith_map→R8,mem_reverse→R9,map_reverse→Sa,flatMap_map→Sb,foldl→Sd,Nodup→Si,sum_append→Sj,map_const'→Sk,find?_cons→Sm,nodup_nil→Sq,any_cons→Sr,any_map→SG,map_set→SI
open List.Nodup renaming idxOf_getElem→Qw
open List.Pairwise renaming imp_of_mem→PF,nil→RY
open List.Perm renaming swap→So
open Nat renaming le_refl→qh,lt_of_lt_of_le→wh,ne_of_lt→wS,le_trans→yB,zero_le→Bs,add_sub_cancel_left→Db,pow_le_pow_right→M2,lt_irrefl→Ps,gcd→PN,le_of_lt→PQ,lt_succ_of_lt→Qz,lt_succ_self→QE,two_pow_pos→QO,mul_le_mul_right→QP,testBit_or→QX,le_succ→QZ,add_comm→Rg,mul_comm→Rh,le_add_right→Rj,mul_assoc→RJ,ne_of_gt→RL,pow_succ→RN,lt_or_ge→RP,sub_self→RQ,pow_add→R3,not_lt→Sf,min_eq_left→Sg,dvd_trans→Su
open Ne renaming symm→QH
open Option renaming map_some→IH,isSome_iff_exists→Re,getD_some→Ri,getD_none→R6
open Option.some renaming inj→No,injEq→RZ
open Or renaming inl→nu,inr→EQ
open PyProof.Rows renaming callWith_type1→PR
open PySem renaming mem_of_lookup→P6,Within→RK,call→Se
open PySem.EqMixed renaming eq_bool_str→Sv,eq_str_bool→Sw,ne_bool_str→Sx,ne_str_bool→Sy,eq_int_str→SA,eq_str_int→SD,ne_int_str→SE,ne_str_int→SF
open PySem.F renaming plainAttrs_list→wf,slot_list_append→wv,type_list_append→ww,slot_list_lt→RF
open PySem.W renaming Frag→lm,mg_none_of→on,findIn→xL,nsIn→zm,fnOf→At,keepIn→Do,emptyDict→GK,codeIn→Pu,instObj→Pz,mg_of→P7,kia_one→Qa,cellsFrom_some→Qd,isFn→Qh,plainGet→Qm,hasDictIn→Qy,methodCall_KW→QI,plainGet_of→QU,lookIn→QW,callWith_K→Q0,methodObj→Q6,plainOver→Q7,takerIn→Ru,makesIn→Rv,OpenLaw→Rw,specialIn→RW,handedIn→R5,kitOne→Sn,WalkO→Ss
open PySem.W.Looks renaming here→SJ
open Sum renaming inl→Q9,inr→Ra
open True renaming intro→QK
namespace L2
open PySem PySem.Spec PyProof.Rows
variable {us : List Value} {u : Value} {H : Hp} {a b C : Addr} {P : Program} {w : World} {h base : Heap} {o : Obj} {t' i k : Nat} {ch fp : List Addr} {x : Str} {M : Model} {A : Around} {E Q : Value → Shared → Prop} {v : V} {X : Cx} {e tg : Expr} {s : Shared} {pins : List (Addr × Obj)} {σ : St} {pos : Pos} {op : CmpOp} {t te : TE} {K : lm} {body : List Stmt} {r r' : R2} {f : Value → Value → Sem Value} {kw : List (Str × Value)} {mg : Str → Option Value}
abbrev Key:=Sum Int Str
def JP:Key->Value->Bool
 | .inl k,v=>Value.isInt k v
 | .inr x,v=>Value.isStrOf x v
def ND(w:World):Key->Int
 | .inl k=>hashInt k
 | .inr x=>hashStr w x
theorem fE:∀{k:Key} {v:Value},JP k v=true->(∃i t,k=Q9 i/\v=Value.int i t)\/(∃x t,k=Ra x/\v=Value.str x t)
 | .inl i,v,h=>by
  obtain⟨t,e⟩:=Value.isInt_shape (k:=i) (v:=v) h
  exact .inl ⟨i,t,rfl,e⟩
 | .inr x,v,h=>by
  obtain⟨t,e⟩:=Value.isStrOf_shape (x:=x) (v:=v) h
  exact .inr ⟨x,t,rfl,e⟩
theorem Mg(a b:Int):decide ((Q9 a:Key)=Q9 b)=(a == b):=by
 by_cases e:a=b
 ·subst e;simp
 ·have h:¬(Q9 a:Key)=Q9 b:=λq=>e (Sum.inl.inj q)
  rw[decide_eq_false h]
  exact(beq_eq_false_iff_ne.mpr e).symm
theorem Mn(a b:Str):decide ((Ra a:Key)=Ra b)=decide (a=b):=by
 by_cases e:a=b
 ·subst e;simp
 ·have h:¬(Ra a:Key)=Ra b:=λq=>e (Sum.inr.inj q)
  rw[decide_eq_false h,decide_eq_false e]
theorem MT(a:Int)(b:Str):decide ((Q9 a:Key)=Ra b)=false:=decide_eq_false (λq=>nomatch q)
theorem MS(a:Str)(b:Int):decide ((Ra a:Key)=Q9 b)=false:=decide_eq_false (λq=>nomatch q)
def yO(prog:Program)(w:World):PySem.KeyKind prog w Key where
 is:=JP
 hash:=ND w
 inj:=λv a b ha hb=>by
  rcases fE ha with⟨i,t,rfl,rfl⟩ | ⟨x,t,rfl,rfl⟩
  ·rcases fE hb with⟨j,u,rfl,e⟩ | ⟨y,u,rfl,e⟩
   ·injection e with e1 _;rw[e1]
   ·exact nomatch e
  ·rcases fE hb with⟨j,u,rfl,e⟩ | ⟨y,u,rfl,e⟩
   ·exact nomatch e
   ·injection e with e1 _;rw[e1]
 byValue:=λk v h=>by
  rcases fE h with⟨i,t,rfl,rfl⟩ | ⟨x,t,rfl,rfl⟩ <;> rfl
 pyHash:=λhv h=>by
  rcases fE hv with⟨i,t,rfl,rfl⟩ | ⟨x,t,rfl,rfl⟩
  ·exact wpAny_pyHash_int h
  ·exact wpAny_pyHash_str h
 eqBool:=λhu hv h=>by
  rcases fE hu with⟨i,t,rfl,rfl⟩ | ⟨x,t,rfl,rfl⟩
  ·rcases fE hv with⟨j,u,rfl,rfl⟩ | ⟨y,u,rfl,rfl⟩
   ·rw[Mg] at h;exact wpAny_eqBool_int h
   ·rw[MT] at h;exact SeqAt.EqAt.int_str i t y u _ _ _ _ h
  ·rcases fE hv with⟨j,u,rfl,rfl⟩ | ⟨y,u,rfl,rfl⟩
   ·rw[MS] at h;exact SeqAt.EqAt.str_int x t j u _ _ _ _ h
   ·rw[Mn] at h;exact wpAny_eqBool_str h
 «strs»:=λk x t v h=>by
  rcases fE h with⟨i,u,rfl,e⟩ | ⟨y,u,rfl,e⟩
  ·exact nomatch e
  ·injection e with e1 _
   subst e1
   cases v <;> rfl
inductive V where
 | non | bl (b:Bool) | int (i:Int) | str (x:Str) | byt (b:Array UInt8) | flt (b:UInt64) | ref (a:Addr) | ty (n:String)
 deriving DecidableEq
def RelV:V->Value->Prop
 | .non,u=>u=Value.none
 | .bl b,u=>u=Value.bool b
 | .int i,u=>∃t,u=Value.int i t
 | .str x,u=>∃t,u=Value.str x t
 | .byt b,u=>∃t,u=Value.bytes b t
 | .flt b,u=>∃t,u=Value.float b t
 | .ref a,u=>u=Value.ref a
 | .ty n,u=>u=Value.type n
abbrev Vals:List V->List Value->Prop:=Paired RelV
theorem Vals.length{xs:List V}(r:Vals xs us):xs.length=us.length:=Paired.length r
theorem Vals.get:∀{xs:List V} {us:List Value} {i:Nat} {x:V},Vals xs us->xs[i]? =some x->∃u,us[i]? =some u/\RelV x u
 | _,_,_,_,.nil,e=>by simp at e
 | _,_,0,_,.cons r _,e=>by simp at e;subst e;exact⟨_,rfl,r⟩
 | _,_,i+1,x,.cons _ t,e=>by
  obtain⟨u,h1,h2⟩:=Vals.get (i:=i) (x:=x) t (by simpa using e)
  exact⟨u,by simpa using h1,h2⟩
theorem Vals.set{x:V}{u:Value}(r:RelV x u):∀{xs:List V} {us:List Value} (i:Nat),Vals xs us->Vals (xs.set i x) (us.set i u)
 | _,_,_,.nil=>.nil
 | _,_,0,.cons _ t=>.cons r t
 | _,_,i+1,.cons q t=>.cons q (Vals.set r i t)
theorem Vals.append:∀{xs ys:List V} {us ws:List Value},Vals xs us->Vals ys ws->Vals (xs++ys) (us++ws)
 | _,_,_,_,.nil,s=>s
 | _,_,_,_,.cons r t,s=>.cons r (Vals.append t s)
theorem Vals.take:∀{xs:List V} {us:List Value} (n:Nat),Vals xs us->Vals (xs.take n) (us.take n)
 | _,_,0,_=>.nil
 | _,_,_+1,.nil=>.nil
 | _,_,n+1,.cons r t=>.cons r (Vals.take n t)
theorem Vals.drop:∀{xs:List V} {us:List Value} (n:Nat),Vals xs us->Vals (xs.drop n) (us.drop n)
 | _,_,0,r=>r
 | _,_,_+1,.nil=>.nil
 | _,_,n+1,.cons _ t=>Vals.drop n t
def pJ:Option V->Option Value->Prop
 | some v,some u=>RelV v u
 | none,none=>True
 | _,_=>False
def KV{κ:Type}:List (κ×V)->List (κ×Value)->Prop:=Paired λ(p:κ×V) (q:κ×Value)=>p.1=q.1/\RelV p.2 q.2
def kV:Key->V
 | .inl i=>.int i
 | .inr x=>.str x
inductive HO where
 | lst (xs:List V)
 | tup (xs:List V)
 | dK (kvs:List (Key×V)) | dT (kvs:List (List Key×V))
 | set (S:Int->Bool) (n:Nat)
 | ins (C dx:Addr) (fs:List (Str×V))
 | own (x:Addr)
 | xd (fs:List (Str×V))
 | met (f x:Addr)
 | rng (lo hi:Int)
 | frz (o:Obj) (u:HO)
 | tbl (ps:Array Value)
 | ext (φ:Heap->Prop)
abbrev Hp:=Addr->Option HO
def upd(H:Hp)(a:Addr)(o:HO):Hp:=λb=>if b=a then some o else H b
theorem cO{o:HO}:upd H a o a=some o:=by unfold upd;rw[if_pos rfl]
theorem aT{o:HO}(h:b≠a):upd H a o b=H b:=by unfold upd;rw[if_neg h]
theorem fD{o:HO}(h:H a=some o)(h':H b=none):a≠b:=by
 intro e;subst e;rw[h] at h';cases h'
section
variable (P : Program) (w : World)
def gR(H:Hp)(h:Heap)(a:Addr):HO->Prop
 | .lst xs=>xs.length<=sizeLine/\∃(J:List Value) (n:Nat),Vals xs J/\h.get? a=some {cls:=.type "list",data:=.seq J.toArray n}
 | .tup xs=>xs.length<=sizeLine/\∃J:List Value,Vals xs J/\IsTup h a J.toArray
 | .dK U=>U.length<=sizeLine/\(a == sysModules)=false/\∃vs,KV U vs/\h.DictOf (yO P w) a vs
 | .dT U=>U.length<=sizeLine/\(a == sysModules)=false/\∃xs:List (List Key×Addr×Value),
  Paired (λ(p:List Key×V) (q:List Key×Addr×Value)=>p.1=q.1/\H q.2.1=some (.tup (p.1.map kV))/\RelV p.2 q.2.2) U xs/\
  ∃o es Y,h.get? a=some o/\o.ExactDict/\o.data=.dict es Y/\es.toList=xs.map (entryOfKey (tupleKind (yO P w)))/\(xs.map (·.1)).Nodup
 | .set S n=>h.SetOf (intKind P w) a S n
 | .ins C dx fs=>H dx=some (.own a)/\fs.length<=1000/\dx≠a/\h.get? a=some (Pz C dx)/\
  ∃mA,h.Ns1 dx mA/\(∀f,pJ (fs.lookup f) (mA f))/\RK mA (fs.map (·.1))
 | .own _=>∃o,h.get? a=some o
 | .xd fs=>∃mA,h.Ns1 a mA/\∀f,pJ (fs.lookup f) (mA f)
 | .rng lo hi=>∃t u v,h.get? a=some {cls:=.type "range",data:=.fields #[.int lo t,.int hi u,.int 1 v]}
 | .frz o u=>h.get? a=some o/\gR H h a u
 | .tbl ps=>h.get? a=some {cls:=.none,data:=.fields ps}
 | .met f x=>h.get? a=some (Q6 (.ref f) (.ref x))
 | .ext φ=>φ h/\(∃o,h.get? a=some o)/\∀h1 h2:Heap,φ h1->(∀o,h1.get? a=some o->h2.get? a=some o)->φ h2
def HOk(H:Hp)(h:Heap):Prop:=∀a o,H a=some o->gR P w H h a o
end
section
variable {P : Program} {w : World} {H H' : Hp} {h h' : Heap} {a : Addr} {o : HO}
theorem gR.lt(x:gR P w H h a o):a<h.objs.size:=by
 cases o with
 | lst xs=>obtain⟨_,_,_,_,e⟩:=x;exact Heap.lt_size e
 | tup xs=>obtain⟨_,_,_,p⟩:=x;exact p.lt
 | dK J=>obtain⟨_,_,_,_,o,_,_,e,_⟩:=x;exact Heap.lt_size e
 | dT J=>obtain⟨_,_,_,_,o,_,_,e,_⟩:=x;exact Heap.lt_size e
 | set S n=>obtain⟨o,_,_,_,e,_⟩:=x;exact Heap.lt_size e
 | ins C dx fs=>obtain⟨_,_,_,e,_⟩:=x;exact Heap.lt_size e
 | own y=>obtain⟨_,e⟩:=x;exact Heap.lt_size e
 | xd fs=>obtain⟨_,⟨_,_,_,e,_⟩,_⟩:=x;exact Heap.lt_size e
 | rng lo hi=>obtain⟨_,_,_,e⟩:=x;exact Heap.lt_size e
 | frz U u=>obtain⟨e,_⟩:=x;exact Heap.lt_size e
 | tbl ps=>exact Heap.lt_size (show h.get? a=some _ from x)
 | met f y=>exact Heap.lt_size (show h.get? a=some _ from x)
 | ext φ=>obtain⟨_,⟨_,e⟩,_⟩:=x;exact Heap.lt_size e
theorem Paired.mapP{α β:Type}{F G:α->β->Prop}:∀{J:List α} {U:List β},Paired F J U->(∀a b,F a b->G a b)->Paired G J U
 | _,_,.nil,_=>.nil
 | _,_,.cons r t,f=>.cons (f _ _ r) (Paired.mapP t f)
theorem gR.stay (x:gR P w H h a o) (k:∀b u,(b=a\/H b=some (.own a))->h.get? b=some u->h'.get? b=some u)
 (ho:∀b,H b=some (.own a)->H' b=some (.own a)) (ht:∀b xs,H b=some (.tup xs)->H' b=some (.tup xs)):gR P w H' h' a o:=by
 induction o with
 | lst xs=>obtain⟨z,Y,n,r,e⟩:=x;exact⟨z,Y,n,r,k _ _ (.inl rfl) e⟩
 | tup xs=>obtain⟨z,Y,r,J,e,c⟩:=x;exact⟨z,Y,r,J,k _ _ (.inl rfl) e,c⟩
 | dK ab=>obtain⟨z,y,vs,r,J,es,U,e,c⟩:=x;exact⟨z,y,vs,r,J,es,U,k _ _ (.inl rfl) e,c⟩
 | dT ab=>
  obtain⟨z,y,xs,r,J,es,U,e,c⟩:=x
  exact⟨z,y,xs,Paired.mapP r λp q z=>⟨z.1,ht _ _ z.2.1,z.2.2⟩,J,es,U,k _ _ (.inl rfl) e,c⟩
 | set S n=>obtain⟨J,es,U,t,e,c⟩:=x;exact⟨J,es,U,t,k _ _ (.inl rfl) e,c⟩
 | ins C dx fs=>
  obtain⟨d,z,ne,e,mA,⟨od,es,U,e2,c⟩,r⟩:=x
  exact⟨ho _ d,z,ne,k _ _ (.inl rfl) e,mA,⟨od,es,U,k _ _ (.inr d) e2,c⟩,r⟩
 | own y=>obtain⟨J,e⟩:=x;exact⟨J,k _ _ (.inl rfl) e⟩
 | xd fs=>obtain⟨mA,⟨od,es,U,e,c⟩,r⟩:=x;exact⟨mA,⟨od,es,U,k _ _ (.inl rfl) e,c⟩,r⟩
 | rng lo hi=>obtain⟨t,u,v,e⟩:=x;exact⟨t,u,v,k _ _ (.inl rfl) e⟩
 | frz J u ih=>obtain⟨e,q⟩:=x;exact⟨k _ _ (.inl rfl) e,ih q⟩
 | tbl ps=>
  have e:h.get? a=some {cls:=.none,data:=.fields ps}:=x
  show h'.get? a=some {cls:=.none,data:=.fields ps}
  exact k a _ (.inl rfl) e
 | met f y=>
  have e:h.get? a=some (Q6 (.ref f) (.ref y)):=x
  show h'.get? a=some (Q6 (.ref f) (.ref y))
  exact k a _ (.inl rfl) e
 | ext φ=>obtain⟨p,⟨o,e⟩,st⟩:=x;exact⟨st _ _ p λo q=>k _ _ (.inl rfl) q,⟨o,k _ _ (.inl rfl) e⟩,st⟩
theorem HOk.lt(x:HOk P w H h)(e:H a=some o):a<h.objs.size:=(x a o e).lt
theorem HOk.fresh(x:HOk P w H h)(e:h.objs.size<=a):H a=none:=by
 cases q:H a with
 | none=>rfl
 | some u=>exact absurd (wh (x.lt q) e) (Ps _)
theorem HOk.kept(x:HOk P w H h)(k:∀b u,h.get? b=some u->h'.get? b=some u):HOk P w H h':=λa o e=>
 (x a o e).stay (λb u _ q=>k b u q) (λ_ q=>q) λ_ _ q=>q
theorem HOk.laid(x:HOk P w H h)(k:∀b u,h.get? b=some u->h'.get? b=some u)(hp:h.objs.size<=a)(J:gR P w (upd H a o) h' a o):HOk P w (upd H a o) h':=λb u e=>by
 have hn:=x.fresh hp
 by_cases hb:b=a
 ·subst hb;rw[cO] at e;cases e;exact J
 ·rw[aT hb] at e
  exact(x b u e).stay (λc v _ q=>k c v q) (λc q=>by rw[aT (fD q hn)];exact q) λc xs q=>by rw[aT (fD q hn)];exact q
end
def Rd(H:Hp)(a:Addr)(u:HO):Prop:=H a=some u\/∃o,H a=some (.frz o u)
theorem Rd.ok{u:HO}(r:Rd H a u)(x:HOk P w H h):gR P w H h a u:=by
 rcases r with r | ⟨o,r⟩
 ·exact x a u r
 ·obtain⟨_,q⟩:=x a _ r
  exact q
def Mut:Option HO->Prop
 | some (.lst _)=>True
 | some (.dK _)=>True
 | some (.dT _)=>True
 | some (.set _ _)=>True
 | some (.ins _ _ _)=>True
 | some (.ext _)=>True
 | _=>False
section
variable {P : Program} {w : World} {H : Hp} {h h' : Heap} {x e : Addr} {o' : HO}
theorem HOk.write (ok:HOk P w H h) (mu:Mut (H x)) (he:e=x\/H e=some (.own x)) (k:∀b u,b≠e->h.get? b=some u->h'.get? b=some u) (ac:∃u,h'.get? e=some u)
 (am:gR P w (upd H x o') h' x o'):HOk P w (upd H x o') h':=λb u q=>by
 have U:∀c y,H c=some (.own y)->c≠x:=λc y r z=>by subst z;rw[r] at mu;exact mu
 have Y:∀c xs,H c=some (.tup xs)->c≠x:=λc xs r z=>by subst z;rw[r] at mu;exact mu
 by_cases hb:b=x
 ·subst hb;rw[cO] at q;cases q;exact am
 ·rw[aT hb] at q
  by_cases J:b=e
  ·have q':H b=some (.own x):=by
    rcases he with z | z
    ·exact absurd (J.trans z) hb
    ·rw[J];exact z
   rw[q] at q';cases q'
   obtain⟨v,hv⟩:=ac
   exact⟨v,by rw[J];exact hv⟩
  ·refine(ok b u q).stay (λc v hc r=>k c v ?_ r) (λc r=>by rw[aT (U c b r)];exact r) λc xs r=>by rw[aT (Y c xs r)];exact r
   rcases hc with rfl | hc
   ·exact J
   ·rintro rfl
    rcases he with z | z
    ·exact U c b hc z
    ·rw[hc] at z;cases z;exact hb rfl
end
structure Un(fs ex:List Addr)(H H':Hp)(h h':Heap):Prop where
 keep:∀b o,h.get? b=some o->H b=none->b∉fs->b∉ex->h'.get? b=some o
 slot:∀b o,h.get? b=some o->H b=none->b∈fs->b∉ex->∃sl,h'.get? b=some {o with slots:=sl}
 free:∀b o,h.get? b=some o->H b=none->b∉ex->H' b=none
 there:∀b o,h.get? b=some o->b∉ex->∃o',h'.get? b=some o'
 tups:∀b xs,H b=some (.tup xs)->H' b=some (.tup xs)
 frzs:∀b o u,H b=some (.frz o u)->H' b=some (.frz o u)
 tbls:∀b ps,H b=some (.tbl ps)->∃more,H' b=some (.tbl (ps++more))
section
variable {fs fs' ex ex' : List Addr} {H H1 H2 : Hp} {h h1 h2 h' : Heap} {a x e : Addr} {o : HO}
theorem Un.any(u:Un fs ex H H1 h h1){J:Obj}(q:h.get? b=some J)(n:H b=none)(hx:b∉ex):∃sl,h1.get? b=some {J with slots:=sl}:=by
 by_cases hb:b∈fs
 ·exact u.slot b J q n hb hx
 ·exact⟨J.slots,u.keep b J q n hb hx⟩
theorem Un.kept(k:∀b u,h.get? b=some u->h'.get? b=some u):Un fs ex H H h h':=
 ⟨λb J q _ _ _=>k b J q,λb J q _ _ _=>⟨J.slots,k b J q⟩,λ_ _ _ n _=>n,λb J q _=>⟨J,k b J q⟩,λ_ _ q=>q,λ_ _ _ q=>q,λ_ ps q=>⟨#[],by rw[q];simp⟩⟩
theorem Un.refl:Un fs ex H H h h:=Un.kept λ_ _ q=>q
theorem Un.laid(k:∀b u,h.get? b=some u->h'.get? b=some u)(hp:h.objs.size<=a)(hn:H a=none):Un fs ex H (upd H a o) h h' where
 keep:=λb u q _ _ _=>k b u q
 slot:=λb u q _ _ _=>⟨u.slots,k b u q⟩
 free:=λb u q n _=>by rw[aT (wS (wh (Heap.lt_size q) hp))];exact n
 there:=λb u q _=>⟨u,k b u q⟩
 tups:=λb xs q=>by rw[aT (fD q hn)];exact q
 frzs:=λb u xs q=>by rw[aT (fD q hn)];exact q
 tbls:=λb ps q=>⟨#[],by rw[aT (fD q hn),q];simp⟩
theorem Un.write(U:Mut (H x))(he:e=x\/H e=some (.own x))(k:∀b u,b≠e->h.get? b=some u->h'.get? b=some u)(Y:∃u,h'.get? e=some u):Un fs ex H (upd H x o) h h':=by
 have hx:∀b,H b=none->b≠x:=λb n z=>by subst z;rw[n] at U;exact U
 have hb:∀b,H b=none->b≠e:=λb n z=>by
  subst z
  rcases he with r | r
  ·exact hx b n r
  ·rw[n] at r;cases r
 have hm:∀b u,H b=some u->¬Mut (some u)->b≠x:=λb u q nm z=>by subst z;rw[q] at U;exact nm U
 refine⟨λb u q n _ _=>k b u (hb b n) q,λb u q n _ _=>⟨u.slots,k b u (hb b n) q⟩,λb u q n _=>by rw[aT (hx b n)];exact n,λb u q _=> ?_,
  λb xs q=>by rw[aT (hm b _ q λz=>z)];exact q,λb u xs q=>by rw[aT (hm b _ q λz=>z)];exact q,λb ps q=>⟨#[],by rw[aT (hm b _ q λz=>z),q];simp⟩⟩
 by_cases J:b=e
 ·subst J;exact Y
 ·exact⟨u,k b u J q⟩
end
def trk(h:Heap)(H:Hp):List Addr:=(pc h.objs.size).filter λa=>(H a).isSome
def pT(h:Heap)(H:Hp):Heap:=PySem.W.hideAll h (trk h H)
theorem GR(h:Heap)(H:Hp):(pT h H).objs.size=h.objs.size:=PySem.W.hideAll_size _ _
theorem IW(e:h.get? b=some o)(n:H b=none):(pT h H).get? b=some o:=
 PySem.W.hideAll_get _ e λhm=>by
  have q:(H b).isSome=true:=(u0.mp hm).2
  rw[n] at q;simp at q
theorem K9(e:(pT h H).get? b=some o):h.get? b=some o/\H b=none:=by
 have e':h.get? b=some o:=PySem.W.of_hideAll (trk h H) e
 refine⟨e', ?_⟩
 cases q:H b with
 | none=>rfl
 | some x=>
  have hm:b∈trk h H:=u0.mpr ⟨wn.mpr (Heap.lt_size e'),by simp[q]⟩
  have z:(pT h H).get? b=none:=PySem.W.hideAll_none (trk h H) hm
  rw[z] at e;cases e
def KS(g h:Heap)(L:Addr):List (Addr×Obj):=(pc h.objs.size).filterMap λa=>if a=L\/(g.get? a).isSome=true then none else (h.get? a).map λo=>(a,o)
def rest(g h:Heap)(L d:Addr):List (Addr×Obj):=(KS g h L).filter λp=>decide (p.1≠d)
structure Mod(K:lm)(mg:Str->Option Value)(base:Heap):Prop where
 kin:K.In base
 glob:base.Ns mainGlobals mg
 blt:∃mb,base.Ns builtinsNs mb/\∀x:Str,x≠"__name__" ->mb x=bootBuiltins x
 nolimit:base.NoLimit
 seer:base.NoSeer
structure Cx where
 prog:Program
 w:World
 K:lm
 mg:Str->Option Value
 base:Heap
 A:Around
 N:List Str
 s₀:Shared
 H₀:Hp
 env:Env
 outer:List Env
 stack:List Env
 ex:List Addr
 fn:Str->Bool
 calm:Bool
 pn:List (Addr×Obj)
 xe:Value->Shared->Prop
def frs(l:List Env):List Addr:=l.filterMap (·.frame)
abbrev Cx.fs(X:Cx):List Addr:=frs X.outer
def Vis(sc:Scope)(x:Str):Prop:=sc.names.lookup x=some .local\/sc.names.lookup x=some .cell\/sc.names.lookup x=some .free
def Loc(sc:Scope)(x:Str):Prop:=sc.names.lookup x=some .local\/sc.names.lookup x=some .cell
def Look(env:Env)(h:Heap)(m:Str->Option Value)(x:Str)(u:Value):Prop:=
 (env.kindOf x=some .local/\m x=some u)\/((env.kindOf x=some .cell\/env.kindOf x=some .free)/\∃c,env.cells.lookup x=some c/\h.IsCell c (some u))
structure Cx.Ok(X:Cx):Prop where
 mod:Mod X.K X.mg X.base
 kind:X.env.scope.kind=.function
 glob:X.env.globals=mainGlobals
 blt:X.env.builtins=builtinsNs
 above:X.s₀.heap.objs.size<=X.env.locals
 inj:∀x y c,X.env.cells.lookup x=some c->X.env.cells.lookup y=some c->x=y
 has:∀x,(X.env.kindOf x=some .cell\/X.env.kindOf x=some .free)->∃c,X.env.cells.lookup x=some c
 cab:∀x c,X.fn x=true->X.env.cells.lookup x=some c->X.s₀.heap.objs.size<=c
 hd:X.calm=true->X.A.handled=none
 frames:X.A.frames=some X.stack
 stk:X.stack=X.outer\/(X.stack=X.env::X.outer/\X.env.frame=some X.env.locals)
 exf:∀b∈X.ex,b≠X.env.locals/\∀x c,X.env.cells.lookup x=some c->c≠b
 bs:∀b o,X.base.get? b=some o->X.s₀.heap.get? b=some o/\X.H₀ b=none
 bsz:X.base.objs.size<=X.s₀.heap.objs.size
 noex:∀b o,X.base.get? b=some o->b∉X.ex
 exfs:∀b∈X.ex,b∉X.fs
 funs:X.s₀.heap.FunFrames X.base X.outer
 frf:∀b∈X.fs,X.H₀ b=none
structure Inv(X:Cx)(pins:List (Addr×Obj))(σ:List (Option V))(H:Hp)(s:Shared):Prop where
 ok:X.Ok
 os:s.os=X.s₀.os
 bare:AllBare s.gens
 base:Un X.fs X.ex X.H₀ H X.s₀.heap s.heap
 loc:∃m,s.heap.Ns X.env.locals m/\∀(i:Nat) (x:Str) (v:V),X.N[i]? =some x->σ[i]? =some (some v)->Vis X.env.scope x->∃u,RelV v u/\Look X.env s.heap m x u
 cell:∀x c,X.env.cells.lookup x=some c->∃v,s.heap.IsCell c v
 free:H X.env.locals=none
 freeC:∀x c,X.env.cells.lookup x=some c->H c=none
 pin:∀p∈X.pn++pins,s.heap.get? p.1=some p.2/\H p.1=none/\p.1≠X.env.locals/\p.1∉X.fs/\∀v,p.2.data≠ .cell v
 hok:HOk X.prog X.w H s.heap
 len:σ.length=X.N.length
section
variable {X : Cx} {pins : List (Addr × Obj)} {σ : List (Option V)} {H H' : Hp} {s : Shared} {h' : Heap}
theorem Cx.Ok.nofr(ok:X.Ok)(e:X.base.get? b=some o):b∉X.fs:=λhb=>by
 have:=(ok.funs.mem hb).1
 rw[e] at this;cases this
theorem Inv.bs(I:Inv X pins σ H s):∀b o,X.base.get? b=some o->s.heap.get? b=some o/\H b=none:=λb o e=>
 ⟨I.base.keep b o (I.ok.bs b o e).1 (I.ok.bs b o e).2 (I.ok.nofr e) (I.ok.noex b o e),I.base.free b o (I.ok.bs b o e).1 (I.ok.bs b o e).2 (I.ok.noex b o e)⟩
theorem Inv.bk(I:Inv X pins σ H s):∀b o,X.base.get? b=some o->s.heap.get? b=some o:=λb o e=>(I.bs b o e).1
theorem Inv.mod(I:Inv X pins σ H s):Mod X.K X.mg X.base:=I.ok.mod
theorem Inv.kIn(I:Inv X pins σ H s):X.K.In s.heap:=I.ok.mod.kin.keeps I.bk
theorem Inv.nolimit(I:Inv X pins σ H s):s.heap.NoLimit:=I.ok.mod.nolimit.keeps I.bk
theorem Inv.noseer(I:Inv X pins σ H s):s.heap.NoSeer:=I.ok.mod.seer.keeps I.bk
theorem Inv.lt(I:Inv X pins σ H s):X.env.locals<s.heap.objs.size:=let ⟨_,hn,_⟩:=I.loc;hn.lt
theorem Inv.sz(I:Inv X pins σ H s):X.s₀.heap.objs.size<=s.heap.objs.size:=yB I.ok.above (PQ I.lt)
theorem Inv.nofs(I:Inv X pins σ H s)(h:s.heap.objs.size<=a):a∉X.fs:=λhb=>by
 obtain⟨_,o,J,_⟩:=I.ok.funs.mem hb
 exact absurd (wh (Heap.lt_size J) (yB I.sz h)) (Ps _)
theorem Inv.cne(I:Inv X pins σ H s):∀x c,X.env.cells.lookup x=some c->c≠X.env.locals:=λx c e z=>by
 obtain⟨v,o,Y,hd⟩:=I.cell x c e
 obtain⟨m,⟨o',es,ep,J,U,_⟩,_⟩:=I.loc
 rw[z,J] at Y;cases Y;rw[U] at hd;cases hd
theorem Inv.funs(I:Inv X pins σ H s):s.heap.FunFrames X.base X.outer:=by
 have all:∀(l:List Env),(∀b∈frs l,b∈X.fs)->X.s₀.heap.FunFrames X.base l->s.heap.FunFrames X.base l:=by
  intro l
  induction l with
  | nil=>intro _ _;trivial
  | cons env r Y=>
   intro hs hl
   obtain⟨hk,⟨L,o,J,hn,ho,hd⟩,hr⟩:=hl
   have U:L∈X.fs:=hs L (by unfold frs;rw[Pm,J];exact pi)
   obtain⟨sl,e⟩:=I.base.slot L o ho (I.ok.frf L U) U λz=>I.ok.exfs L z U
   exact⟨hk,⟨L,_,J,hn,e,hd⟩,Y (λb hb=>hs b (by unfold frs;rw[Pm,J];exact ol _ hb)) hr⟩
 exact all X.outer (λ_ hb=>hb) I.ok.funs
theorem Inv.stack(I:Inv X pins σ H s):s.heap.FunFrames X.base X.stack:=by
 rcases I.ok.stk with e | ⟨e,J⟩
 ·rw[e];exact I.funs
 ·rw[e]
  obtain⟨m,hn,_⟩:=I.loc
  refine .cons (by rw[I.ok.kind];decide) J hn ?_ I.funs
  exact Heap.get?_none_of_le (yB I.ok.bsz I.ok.above)
theorem Inv.stkSub(I:Inv X pins σ H s):∀b∈frs X.stack,b∈X.env.locals::X.fs:=λb hb=>by
 rcases I.ok.stk with e | ⟨e,J⟩
 ·rw[e] at hb;exact ol _ hb
 ·rw[e] at hb
  unfold frs at hb
  rw[Pm,J] at hb
  exact hb
theorem Inv.stkFree(I:Inv X pins σ H s):∀b∈frs X.stack,H b=none:=λb hb=>by
 rcases sn.mp (I.stkSub b hb) with e | hb
 ·rw[e];exact I.free
 ·obtain⟨_,o,J,_⟩:=I.ok.funs.mem hb
  exact I.base.free b o J (I.ok.frf b hb) λz=>I.ok.exfs b z hb
theorem Inv.step {g':Array GenState} {t':Nat} {d':Drawn} {ch:List Addr} (I:Inv X pins σ H s)
 (J:∀b∈ch,(b∈X.ex\/X.s₀.heap.objs.size<=b)/\b≠X.env.locals/\(∀x c,X.env.cells.lookup x=some c->c≠b)/\∀p∈X.pn++pins,p.1≠b)
 (keep:∀b o,b≠X.env.locals->b∉X.fs->b∉ch->s.heap.get? b=some o->H b=none->h'.get? b=some o)
 (slot:∀b o,b≠X.env.locals->b∈X.fs->b∉ch->s.heap.get? b=some o->H b=none->∃sl,h'.get? b=some {o with slots:=sl}) (free:∀b o,b∉ch->s.heap.get? b=some o->H b=none->H' b=none)
 (there:∀b o,b∉ch->s.heap.get? b=some o->∃o',h'.get? b=some o')
 (tups:∀b xs,H b=some (.tup xs)->H' b=some (.tup xs)) (frzs:∀b o u,H b=some (.frz o u)->H' b=some (.frz o u)) (tbls:∀b ps,H b=some (.tbl ps)->∃more,H' b=some (.tbl (ps++more)))
 (ns:∀m,s.heap.Ns X.env.locals m->h'.Ns X.env.locals m) (an:HOk X.prog X.w H' h') (hg:AllBare g'):
 Inv X pins σ H' {s with heap:=h',gens:=g',drawn:=d',toks:=t'}:=by
 have am:∀b o,X.s₀.heap.get? b=some o->b≠X.env.locals:=λb o e=>wS (wh (Heap.lt_size e) I.ok.above)
 have ab:∀b o,X.s₀.heap.get? b=some o->b∉X.ex->b∉ch:=λb o e hx hb=>by
  rcases(J b hb).1 with z | z
  ·exact hx z
  ·exact absurd (wh (Heap.lt_size e) z) (Ps _)
 have U:∀x c,X.env.cells.lookup x=some c->∀v,s.heap.IsCell c v->h'.IsCell c v:=λx c e v ⟨o,ho,hd⟩=>by
  have Y:c∉ch:=λz=>(J c z).2.2.1 x c e rfl
  by_cases hc:c∈X.fs
  ·obtain⟨sl,q⟩:=slot c o (I.cne x c e) hc Y ho (I.freeC x c e)
   exact⟨_,q,hd⟩
  ·exact⟨o,keep c o (I.cne x c e) hc Y ho (I.freeC x c e),hd⟩
 refine⟨I.ok,I.os,hg,⟨λb o e n hb hx=> ?_,λb o e n hb hx=> ?_,λb o e n hx=> ?_,λb o e hx=> ?_,λb xs e=>tups b xs (I.base.tups b xs e),λb o xs e=>frzs b o xs (I.base.frzs b o xs e),λb ps e=> ?_⟩, ?_,λx c e=> ?_, ?_,λx c e=> ?_,λp hp=> ?_,an,I.len⟩
 ·exact keep b o (am b o e) hb (ab b o e hx) (I.base.keep b o e n hb hx) (I.base.free b o e n hx)
 ·obtain⟨sl,e1⟩:=I.base.slot b o e n hb hx
  obtain⟨ap,e2⟩:=slot b _ (am b o e) hb (ab b o e hx) e1 (I.base.free b o e n hx)
  exact⟨ap,e2⟩
 ·obtain⟨o',e1⟩:=I.base.there b o e hx
  exact free b o' (ab b o e hx) e1 (I.base.free b o e n hx)
 ·obtain⟨o',e1⟩:=I.base.there b o e hx
  exact there b o' (ab b o e hx) e1
 ·obtain⟨m1,e1⟩:=I.base.tbls b ps e
  obtain⟨m2,e2⟩:=tbls b _ e1
  exact⟨m1++m2,by rw[e2,Array.append_assoc]⟩
 ·obtain⟨m,hn,hl⟩:=I.loc
  refine⟨m,ns m hn,λi x v e1 e2 e3=> ?_⟩
  obtain⟨u,r,l⟩:=hl i x v e1 e2 e3
  refine⟨u,r, ?_⟩
  rcases l with l | ⟨k,c,e,z⟩
  ·exact .inl l
  ·exact .inr ⟨k,c,e,U x c e _ z⟩
 ·obtain⟨v,z⟩:=I.cell x c e
  exact⟨v,U x c e v z⟩
 ·obtain⟨m,⟨o,_,_,ho,_⟩,_⟩:=I.loc
  exact free _ o (λz=>(J _ z).2.1 rfl) ho I.free
 ·obtain⟨v,o,ho,hd⟩:=I.cell x c e
  exact free c o (λz=>(J c z).2.2.1 x c e rfl) ho (I.freeC x c e)
 ·obtain⟨e,n,ne,nf,d⟩:=I.pin p hp
  have Y:p.1∉ch:=λz=>(J p.1 z).2.2.2 p hp rfl
  exact⟨keep p.1 p.2 ne nf Y e n,free p.1 p.2 Y e n,ne,nf,d⟩
theorem Inv.un(I:Inv X pins σ H s)(u:Un X.fs [] H H' s.heap h')(U:HOk X.prog X.w H' h'):Inv X pins σ H' {s with heap:=h',toks:=t'}:=by
 obtain⟨m,⟨o,es,ep,ho,r⟩,_⟩:=id I.loc
 obtain⟨sl,hL⟩:=u.any ho I.free (by simp)
 exact I.step (g':=s.gens) (d':=s.drawn) (ch:=[]) (λ_ z=>nomatch z) (λb o _ hb _ e n=>u.keep b o e n hb (by simp)) (λb o _ hb _ e n=>u.slot b o e n hb (by simp)) (λb o _ e n=>u.free b o e n (by simp)) (λb o _ e=>u.there b o e (by simp)) u.tups u.frzs u.tbls (λm' hm=>by
  obtain⟨o',Y,ab,J,r'⟩:=hm
  rw[ho] at J;cases J
  exact⟨_,Y,ab,hL,r'⟩) U I.bare
theorem Inv.call {g':Array GenState} {t':Nat} {d':Drawn} (I:Inv X pins σ H s) (u:Un (frs X.stack) ch H H' s.heap h') (Y:HOk X.prog X.w H' h') (hg:AllBare g')
 (J:∀b∈ch,(b∈X.ex\/X.s₀.heap.objs.size<=b)/\b≠X.env.locals/\(∀x c,X.env.cells.lookup x=some c->c≠b)/\∀p∈X.pn++pins,p.1≠b):
 Inv X pins σ H' {s with heap:=h',gens:=g',drawn:=d',toks:=t'}:=by
 obtain⟨m,⟨o,es,ep,ho,r⟩,_⟩:=id I.loc
 obtain⟨sl,hL⟩:=u.any ho I.free λz=>(J _ z).2.1 rfl
 exact I.step (ch:=ch) J (λb o hL hb hc e n=>u.keep b o e n (λz=>(sn.mp (I.stkSub b z)).elim hL hb) hc) (λb o _ _ hc e n=>u.any e n hc) (λb o hc e n=>u.free b o e n hc) (λb o hc e=>u.there b o e hc) u.tups u.frzs u.tbls (λm' hm=>by
  obtain⟨o',ac,am,U,r'⟩:=hm
  rw[ho] at U;cases U
  exact⟨_,ac,am,hL,r'⟩) Y hg
theorem Inv.turned {t':Nat} {it:Addr} (I:Inv X pins σ H s) (k:∀b o,b≠it->s.heap.get? b=some o->h'.get? b=some o) (hn:H it=none) (U:it≠X.env.locals)
 (h1:it∈X.ex\/X.s₀.heap.objs.size<=it) (h2:∀x c,X.env.cells.lookup x=some c->c≠it) (Y:∀p∈X.pn++pins,p.1≠it):Inv X pins σ H {s with heap:=h',toks:=t'}:=by
 have J:∀b u,H b=some u->b≠it:=λb u e z=>by rw[z,hn] at e;cases e
 refine I.step (g':=s.gens) (d':=s.drawn) (ch:=[it]) (λb hb=> ?_) (λb o _ _ hc e _=>k b o (λz=>hc (by simp[z])) e) (λb o _ _ hc e _=>⟨o.slots,k b o (λz=>hc (by simp[z])) e⟩) (λ_ _ _ _ n=>n)
  (λb o hc e=>⟨o,k b o (λz=>hc (by simp[z])) e⟩) (λ_ _ e=>e) (λ_ _ _ e=>e) (λb ps e=>⟨#[],by rw[e];simp⟩) (λm hm=> ?_) (λb u e=> ?_) I.bare
 ·have e:b=it:=by simpa using hb
  subst e
  exact⟨h1,U,h2,Y⟩
 ·obtain⟨o,es,ep,ho,r⟩:=hm
  exact⟨o,es,ep,k _ o (QH U) ho,r⟩
 ·refine(I.hok b u e).stay (λc v hc q=>k c v ?_ q) (λ_ q=>q) λ_ _ q=>q
  rcases hc with z | z
  ·rw[z];exact J b u e
  ·exact J c _ z
theorem Inv.tok(I:Inv X pins σ H s)(t:Nat):Inv X pins σ H {s with toks:=t}:=I.un (h':=s.heap) (t':=t) Un.refl I.hok
theorem Inv.kept(I:Inv X pins σ H s)(k:∀b u,s.heap.get? b=some u->h'.get? b=some u):Inv X pins σ H {s with heap:=h',toks:=t'}:=I.un (Un.kept k) (I.hok.kept k)
theorem Inv.laid{o:HO}{t':Nat}(I:Inv X pins σ H s)(k:∀b u,s.heap.get? b=some u->h'.get? b=some u)(hp:s.heap.objs.size<=a)(J:gR X.prog X.w (upd H a o) h' a o):
 Inv X pins σ (upd H a o) {s with heap:=h',toks:=t'}:=I.un (Un.laid k hp (I.hok.fresh hp)) (I.hok.laid k hp J)
theorem Inv.write {x e:Addr} {o:HO} {t':Nat} (I:Inv X pins σ H s) (Y:Mut (H x)) (he:e=x\/H e=some (.own x)) (k:∀b u,b≠e->s.heap.get? b=some u->h'.get? b=some u) (J:∃u,h'.get? e=some u)
 (U:gR X.prog X.w (upd H x o) h' x o):Inv X pins σ (upd H x o) {s with heap:=h',toks:=t'}:=I.un (Un.write Y he k J) (I.hok.write Y he k J U)
theorem Inv.pins_of{J:List (Addr×Obj)}(I:Inv X pins σ H s)(h:∀p∈J,s.heap.get? p.1=some p.2/\H p.1=none/\p.1≠X.env.locals/\p.1∉X.fs/\∀v,p.2.data≠ .cell v):Inv X J σ H s:=
 ⟨I.ok,I.os,I.bare,I.base,I.loc,I.cell,I.free,I.freeC,λp hp=>(sE.mp hp).elim (λz=>I.pin p (FS _ z)) (h p),I.hok,I.len⟩
theorem B9{N:List Str}(J:N.Nodup){i j:Nat}(a:N[i]? =some x)(b:N[j]? =some x):i=j:=by
 obtain⟨h1,e1⟩:=t3.mp a
 obtain⟨h2,e2⟩:=t3.mp b
 exact(R4 J).mp (e1.trans e2.symm)
theorem z9 {M:Model} {A:Around} {E:Value->Shared->Prop} {Q:Unit->Shared->Prop} (I:Inv X pins σ H s) (hN:X.N.Nodup) (hi:X.N[i]? =some x) (hx:Loc X.env.scope x) (r:RelV v u)
 (h:∀s',Inv X pins (σ.set i (some v)) H s'->(∃a,Heap.SameBut a s.heap s'.heap/\(a=X.env.locals\/X.env.cells.lookup x=some a))->Q () s') (hf:X.fn x=true\/X.env.scope.names.lookup x=some .local:=by first | exact .inl rfl | exact .inr rfl | assumption):wpAny M A (storeName X.env x u) Q E s:=by
 obtain⟨m,hn,hl⟩:=id I.loc
 have ac:(X.env.scope.kind == .class||(X.env.scope.kind == .module&&X.env.locals != X.env.globals))=false:=by rw[I.ok.kind];rfl
 have am:i<σ.length:=by rw[I.len];exact(t3.mp hi).1
 have cne:=I.cne
 have J:∀{a:Addr} {h':Heap},(∃o,s.heap.get? a=some o/\H a=none)->Heap.SameBut a s.heap h'->HOk X.prog X.w H h':=λ{a h'} ha hs b ob e=>by
  obtain⟨_,_,U⟩:=ha
  refine(I.hok b ob e).stay (λc w' hc q=>(hs.2 c ?_).trans q) (λ_ q=>q) λ_ _ q=>q
  rintro rfl
  rcases hc with rfl | hc
  ·rw[U] at e;cases e
  ·rw[U] at hc;cases hc
 rcases hx with hk | hk
 ·refine wpAny_storeName_local hk hn (λh' a3 hs=> ?_) ac
  obtain⟨oL,_,_,a4,_⟩:=id hn
  refine h _ ⟨I.ok,I.os,I.bare,⟨λb o e n hb hx=> ?_,λb o e n hb hx=> ?_,I.base.free,λb o e hx=> ?_,I.base.tups,I.base.frzs,I.base.tbls⟩,⟨_,a3,λj y v' e1 e2 e3=> ?_⟩,λy c e=> ?_,I.free,I.freeC,λp hp=> ?_,J ⟨oL,a4,I.free⟩ hs,by simpa using I.len⟩ ⟨_,hs,.inl rfl⟩
  ·exact(hs.2 b (wS (wh (Heap.lt_size e) I.ok.above))).trans (I.base.keep b o e n hb hx)
  ·obtain⟨sl,e1⟩:=I.base.slot b o e n hb hx
   exact⟨sl,(hs.2 b (wS (wh (Heap.lt_size e) I.ok.above))).trans e1⟩
  ·obtain⟨o',e1⟩:=I.base.there b o e hx
   exact⟨o',(hs.2 b (wS (wh (Heap.lt_size e) I.ok.above))).trans e1⟩
  ·by_cases Y:j=i
   ·subst Y
    rw[hi] at e1;cases e1
    rw[EX am] at e2
    cases e2
    exact⟨u,r,.inl ⟨hk,by simp⟩⟩
   ·rw[Gc (QH Y)] at e2
    obtain⟨u',r',q⟩:=hl j y v' e1 e2 e3
    refine⟨u',r', ?_⟩
    rcases q with⟨k,e⟩ | ⟨k,c,e,z⟩
    ·refine .inl ⟨k, ?_⟩
     have:y≠x:=λe=>Y (B9 hN e1 (e▸hi))
     simp[this,e]
    ·exact .inr ⟨k,c,e,z.sameBut hs (cne y c e)⟩
  ·obtain⟨w',z⟩:=I.cell y c e
   exact⟨w',z.sameBut hs (cne y c e)⟩
  ·obtain⟨e,n,ne,nf,d⟩:=I.pin p hp
   exact⟨(hs.2 p.1 ne).trans e,n,ne,nf,d⟩
 ·have ab:X.fn x=true:=by
   rcases hf with z | z
   ·exact z
   ·rw[z] at hk;cases hk
  obtain⟨c,hc⟩:=I.ok.has x (.inl hk)
  obtain⟨w',z⟩:=I.cell x c hc
  refine wpAny_storeName_cell I.ok.kind hk hc z (λh' an hs=> ?_)
  obtain⟨oc,ap,as⟩:=id z
  refine h {s with heap:=h'} ⟨I.ok,I.os,I.bare,⟨λb o e n hb hx=> ?_,λb o e n hb hx=> ?_,I.base.free,λb o e hx=> ?_,I.base.tups,I.base.frzs,I.base.tbls⟩,⟨m,hn.sameBut hs (QH (cne x c hc)),λj y v' e1 e2 e3=> ?_⟩,λy c' e=> ?_,I.free,I.freeC,λp hp=> ?_,J ⟨oc,ap,I.freeC x c hc⟩ hs,by simpa using I.len⟩ ⟨c,hs,.inr hc⟩
  ·exact(hs.2 b (wS (wh (Heap.lt_size e) (I.ok.cab x c ab hc)))).trans (I.base.keep b o e n hb hx)
  ·obtain⟨sl,e1⟩:=I.base.slot b o e n hb hx
   exact⟨sl,(hs.2 b (wS (wh (Heap.lt_size e) (I.ok.cab x c ab hc)))).trans e1⟩
  ·obtain⟨o',e1⟩:=I.base.there b o e hx
   exact⟨o',(hs.2 b (wS (wh (Heap.lt_size e) (I.ok.cab x c ab hc)))).trans e1⟩
  ·by_cases Y:j=i
   ·subst Y
    rw[hi] at e1;cases e1
    rw[EX am] at e2
    cases e2
    exact⟨u,r,.inr ⟨.inl hk,c,hc,an⟩⟩
   ·rw[Gc (QH Y)] at e2
    obtain⟨u',r',q⟩:=hl j y v' e1 e2 e3
    refine⟨u',r', ?_⟩
    rcases q with q | ⟨k,c',e,z'⟩
    ·exact .inl q
    ·refine .inr ⟨k,c',e,z'.sameBut hs ?_⟩
     rintro rfl
     exact Y (B9 hN e1 (I.ok.inj _ _ _ e hc▸hi))
  ·by_cases az:c'=c
   ·subst az;exact⟨_,an⟩
   ·obtain⟨w2,z2⟩:=I.cell y c' e
    exact⟨w2,z2.sameBut hs az⟩
  ·obtain⟨e,n,ne,nf,d⟩:=I.pin p hp
   refine⟨(hs.2 p.1 ?_).trans e,n,ne,nf,d⟩
   intro q
   rw[q,ap] at e
   have q':oc=p.2:=No e
   exact d w' (by rw[<- q'];exact as)
theorem BM {M:Model} {A:Around} {E:Value->Shared->Prop} {Q:Unit->Shared->Prop} (I:Inv X pins σ H s) (J:X.N.Nodup) (hi:X.N[i]? =some x) (hx:Loc X.env.scope x) (r:RelV v u)
 (h:∀s',Inv X pins (σ.set i (some v)) H s'->Q () s') (U:X.fn x=true\/X.env.scope.names.lookup x=some .local:=by first | exact .inl rfl | exact .inr rfl | assumption):wpAny M A (storeName X.env x u) Q E s:=
 z9 I J hi hx r (λs' Y _=>h s' Y) U
theorem Inv.call' {s':Shared} (I:Inv X pins σ H s) (Y:s'.os=s.os) (u:Un (frs X.stack) ch H H' s.heap s'.heap) (J:HOk X.prog X.w H' s'.heap) (hg:AllBare s'.gens)
 (U:∀b∈ch,(b∈X.ex\/X.s₀.heap.objs.size<=b)/\b≠X.env.locals/\(∀x c,X.env.cells.lookup x=some c->c≠b)/\∀p∈X.pn++pins,p.1≠b):Inv X pins σ H' s':=by
 obtain⟨h',g',d',t',o'⟩:=s'
 have e:o'=s.os:=Y
 subst e
 exact I.call (g':=g') (t':=t') (d':=d') u J hg U
end
abbrev XK:=Value->Option Addr->Hp->Prop
abbrev St:=List (Option V)
abbrev VK:=V->Hp->Prop
abbrev TE:=St->Hp->VK->Prop
abbrev TT:=St->Hp->(Bool->Hp->Prop)->Prop
abbrev TA:=St->Hp->(List V->Hp->Prop)->Prop
structure Ends where
 nx:St->Hp->Prop
 rt:VK
 bk:St->Hp->Prop:=λ_ _=>False
 ct:St->Hp->Prop:=λ_ _=>False
abbrev TS:=Ends->St->Hp->Prop
def EP(X:Cx)(pins:List (Addr×Obj))(σ:St)(Q:VK)(u:Value)(s':Shared):Prop:=∃v H',Inv X pins σ H' s'/\RelV v u/\Q v H'
def TP(X:Cx)(pins:List (Addr×Obj))(σ:St)(Q:Bool->Hp->Prop)(b:Bool)(s':Shared):Prop:=∃H',Inv X pins σ H' s'/\Q b H'
def AP(X:Cx)(pins:List (Addr×Obj))(σ:St)(Q:List V->Hp->Prop)(us:List Value)(s':Shared):Prop:=∃vs H',Inv X pins σ H' s'/\Vals vs us/\Q vs H'
def SP(X:Cx)(pins:List (Addr×Obj))(D:Ends)(f:Flow)(s':Shared):Prop:=
 match f with
 | .next=>∃J H',Inv X pins J H' s'/\D.nx J H'
 | .brk=>∃J H',Inv X pins J H' s'/\D.bk J H'
 | .cont=>∃J H',Inv X pins J H' s'/\D.ct J H'
 | .ret u=>∃v J H',Inv X pins J H' s'/\RelV v u/\D.rt v H'
def PE(X:Cx)(e:Expr)(t:TE):Prop:=
 ∀(pins:List (Addr×Obj)) (s:Shared) (σ:St) (H:Hp) (Q:VK),Inv X pins σ H s->t σ H Q->wpAny (model X.prog X.w) X.A (eval e X.env) (EP X pins σ Q) X.xe s
def PT(X:Cx)(e:Expr)(t:TT):Prop:=
 ∀(pins:List (Addr×Obj)) (s:Shared) (σ:St) (H:Hp) (Q:Bool->Hp->Prop),Inv X pins σ H s->t σ H Q->wpAny (model X.prog X.w) X.A (isTrue e X.env (eval e X.env)) (TP X pins σ Q) X.xe s
def PW(X:Cx)(e:Expr)(t:TT):Prop:=
 ∀(J:Sem Value) (pins:List (Addr×Obj)) (s:Shared) (σ:St) (H:Hp) (Q:Bool->Hp->Prop),Inv X pins σ H s->t σ H Q->wpAny (model X.prog X.w) X.A (isTrue e X.env J) (TP X pins σ Q) X.xe s
theorem PW.pt{t:TT}(h:PW X e t):PT X e t:=h _
def PA(X:Cx)(es:List Expr)(t:TA):Prop:=
 ∀(pos:Pos) (pins:List (Addr×Obj)) (s:Shared) (σ:St) (H:Hp) (Q:List V->Hp->Prop),Inv X pins σ H s->t σ H Q->wpAny (model X.prog X.w) X.A (spliced (backTo pos (starEach es X.env))) (AP X pins σ Q) X.xe s
def PS(X:Cx)(st:Stmt)(t:TS):Prop:=
 ∀(pins:List (Addr×Obj)) (s:Shared) (σ:St) (H:Hp) (D:Ends),Inv X pins σ H s->t D σ H->wpAny (model X.prog X.w) X.A (exec st X.env) (SP X pins D) X.xe s
def PSs(X:Cx)(st:List Stmt)(t:TS):Prop:=
 ∀(pins:List (Addr×Obj)) (s:Shared) (σ:St) (H:Hp) (D:Ends),Inv X pins σ H s->t D σ H->wpAny (model X.prog X.w) X.A (execs st X.env) (SP X pins D) X.xe s
theorem thn{α:Type}{t:Sem α}{Q J:α->Shared->Prop}(h:wpAny M A t Q E s)(U:∀a s,Q a s->J a s):wpAny M A t J E s:=wpAny_mono h U λ_ _ x=>x
section
variable {X : Cx}
theorem bin {a b:Expr} {ta tb:TE} (ha:PE X a ta) (hb:PE X b tb) {R:V->V->Hp->Prop} (I:Inv X pins σ H s) (h:ta σ H λx H1=>tb σ H1 λy H2=>R x y H2)
 {α:Type} {Q:α->Shared->Prop} {f:Value->Value->Sem α}
 (J:∀v u s2 x y H2,Inv X pins σ H2 s2->RelV x v->RelV y u->R x y H2->wpAny (model X.prog X.w) X.A (f v u) Q X.xe s2):
 wpAny (model X.prog X.w) X.A (eval a X.env) (λv U=>wpAny (model X.prog X.w) X.A (eval b X.env) (λu Y=>wpAny (model X.prog X.w) X.A (f v u) Q X.xe Y) X.xe U) X.xe s:=by
 refine thn (ha pins s σ H _ I h) λv s1 ⟨x,H1,I1,r1,q1⟩=> ?_
 refine thn (hb pins s1 σ H1 _ I1 q1) λu s2 ⟨y,H2,I2,r2,q2⟩=> ?_
 exact J v u s2 x y H2 I2 r1 r2 q2
def HN(i:Nat):TE:=λσ H Q=>∃v,σ[i]? =some (some v)/\Q v H
def tC(v:V):TE:=λ_ H Q=>Q v H
theorem Md(hN:X.N[i]? =some x)(hv:Vis X.env.scope x)(hd:(x == ("__debug__" :Str))=false:=by decide)(Y:(x == ("__classdict__" :Str))=false:=by decide):PE X (.Name x pos) (HN i):=by
 intro pins s σ H Q I h
 obtain⟨v,e,h⟩:=h
 obtain⟨m,hn,hl⟩:=I.loc
 obtain⟨u,r,l⟩:=hl i x v hN e hv
 have U:EP X pins σ Q u s:=⟨v,H,I,r,h⟩
 rcases l with⟨hk,hm⟩ | ⟨hk,c,hc,J⟩
 ·exact wpAny_Name (wpAny_loadName_local I.ok.kind hk hn hm U) hd
 ·rcases hk with hk | hk
  ·exact wpAny_Name (wpAny_loadName_cell I.ok.kind hk hc J U) hd
  ·exact wpAny_Name (wpAny_loadName_free I.ok.kind hk hc J U Y) hd
theorem aF{i j pos}:PE X (.Constant (.int i) j pos) (tC (.int i)):=λ_ _ _ H _ I h=>wpAny_Constant_int ⟨.int i,H,I.tok _,⟨_,rfl⟩,h⟩
theorem u5{b j pos}:PE X (.Constant (.bool b) j pos) (tC (.bl b)):=λ_ _ _ H _ I h=>Constant_bool ⟨.bl b,H,I,rfl,h⟩
theorem oG{j pos}:PE X (.Constant .none j pos) (tC .non):=λ_ _ _ H _ I h=>Constant_none ⟨.non,H,I,rfl,h⟩
theorem mL{x j pos}:PE X (.Constant (.str x) j pos) (tC (.str x)):=λ_ _ _ H _ I h=>Calls.Constant_str ⟨.str x,H,I.tok _,⟨_,rfl⟩,h⟩
def Gl(X:Cx)(x:Str):Prop:=X.env.kindOf x=some .globalImplicit
theorem yQ {E:Value->Shared->Prop} {pos:Pos} (I:Inv X pins σ H s) (J:Gl X x) (hm:X.mg x=some u) (h:Q u s)
 (hd:(x == ("__debug__" :Str))=false:=by decide):wpAny (model X.prog X.w) X.A (eval (.Name x pos) X.env) Q E s:=
 Calls.Name_function_global I.ok.kind J (Calls.loadGlobal_global (by rw[I.ok.glob];exact I.mod.glob.keeps I.bk) hm h) hd
theorem qo {E:Value->Shared->Prop} {pos:Pos} (I:Inv X pins σ H s) (J:Gl X x) (hm:X.mg x=none) (U:bootBuiltins x=some u) (h:Q u s)
 (hn:x≠"__name__" :=by decide) (hd:(x == ("__debug__" :Str))=false:=by decide):wpAny (model X.prog X.w) X.A (eval (.Name x pos) X.env) Q E s:=by
 obtain⟨Y,h1,h2⟩:=I.mod.blt
 exact Calls.Name_function_global I.ok.kind J (Calls.loadGlobal_builtin (by rw[I.ok.glob];exact I.mod.glob.keeps I.bk) hm (by rw[I.ok.blt];exact h1.keeps I.bk) ((h2 x hn).trans U) h) hd
theorem yz(J:Gl X x)(hm:X.mg x=some u)(r:RelV v u)(hd:(x == ("__debug__" :Str))=false:=by decide):PE X (.Name x pos) (tC v):=
 λ_ _ _ H _ I h=>yQ I J hm ⟨v,H,I,r,h⟩ hd
theorem yN(J:Gl X x)(hm:X.mg x=none)(U:bootBuiltins x=some u)(r:RelV v u)(hn:x≠"__name__" :=by decide)(hd:(x == ("__debug__" :Str))=false:=by decide):PE X (.Name x pos) (tC v):=
 λ_ _ _ H _ I h=>qo I J hm U ⟨v,H,I,r,h⟩ hn hd
variable {a b : Expr} {ta tb : TE} {pos : Pos}
def PC(X:Cx)(op:CmpOp)(a b:Expr)(t:TE):Prop:=
 ∀(pins:List (Addr×Obj)) (s:Shared) (σ:St) (H:Hp) (Q:VK),Inv X pins σ H s->t σ H Q->
  wpAny (model X.prog X.w) X.A (eval a X.env) (λv J=>wpAny (model X.prog X.w) X.A (eval b X.env) (λu U=>wpAny (model X.prog X.w) X.A (compareOp op v u) (EP X pins σ Q) X.xe U) X.xe J) X.xe s
theorem Iy(b:Expr)(h:op≠ .In)(h2:op≠ .NotIn):behindInMarks op b=false:=by
 have e1:(op == CmpOp.In)=false:=by cases op <;> first | rfl | exact absurd rfl h
 have e2:(op == CmpOp.NotIn)=false:=by cases op <;> first | rfl | exact absurd rfl h2
 cases b <;> simp[behindInMarks,e1,e2]
def tB(t:TE):TT:=λσ H Q=>t σ H λx H1=>∃c,x=.bl c/\Q c H1
theorem Pb(h:PC X op a b t)(h1:behindInMarks op b=false:=by first | exact Iy _ (by decide) (by decide) | rfl):PT X (.Compare a [op] [b] pos) (tB t):=by
 intro pins s σ H Q I J
 refine wpAny_isTrue_Compare1 (thn (h pins s σ H _ I J) λv s1 h1=>thn h1 λu s2 h2=>thn h2 λc s3 ⟨x,H1,I1,r1,q1⟩=> ?_) h1
 obtain⟨d,rfl,q⟩:=q1
 cases r1
 exact wpAny_truthy_bool ⟨H1,I1,q⟩
theorem oi(h:PE X e t)(U:∀J,isTrue e X.env J=(do let v <- J;standAt e.pos;holding [v] (truthy v)):=by intro _;rfl):PT X e (tB t):=by
 intro pins s σ H Q I Y
 refine isTrue_plain (thn (h pins s σ H _ I Y) λv s1 ⟨x,H1,I1,r1,q1⟩=> ?_) (U _)
 obtain⟨d,rfl,q⟩:=q1
 cases r1
 exact wpAny_truthy_bool ⟨H1,I1,q⟩
variable {tA tB' : TT} {rest : List Expr}
def MC(t u:TT):TT:=λσ H Q=>t σ H λc H1=>if c=true then u σ H1 Q else Q false H1
def tOr(t u:TT):TT:=λσ H Q=>t σ H λc H1=>if c=true then Q true H1 else u σ H1 Q
def MO(t:TT):TT:=λσ H Q=>t σ H λc H1=>Q (!c) H1
theorem pw_and1(ha:PT X a tA):PW X (.BoolOp .And [a] pos) tA:=by
 intro J pins s σ H Q I h
 refine isTrue_and (thn (ha pins s σ H Q I h) λc s1 e=> ?_)
 cases c with
 | true=>exact isTrue_and_nil e
 | false=>exact e
theorem pw_or1(ha:PT X a tA):PW X (.BoolOp .Or [a] pos) tA:=by
 intro J pins s σ H Q I h
 refine isTrue_or (thn (ha pins s σ H Q I h) λc s1 e=> ?_)
 cases c with
 | false=>exact isTrue_or_nil e
 | true=>exact e
theorem pw_and(ha:PT X a tA)(hb:PW X (.BoolOp .And (b::rest) pos) tB'):PW X (.BoolOp .And (a::b::rest) pos) (MC tA tB'):=by
 intro J pins s σ H Q I h
 refine isTrue_and (thn (ha pins s σ H _ I h) λc s1 ⟨H1,I1,q1⟩=> ?_)
 cases c with
 | true=>exact hb J pins s1 σ H1 Q I1 q1
 | false=>exact⟨H1,I1,q1⟩
theorem pw_or(ha:PT X a tA)(hb:PW X (.BoolOp .Or (b::rest) pos) tB'):PW X (.BoolOp .Or (a::b::rest) pos) (tOr tA tB'):=by
 intro J pins s σ H Q I h
 refine isTrue_or (thn (ha pins s σ H _ I h) λc s1 ⟨H1,I1,q1⟩=> ?_)
 cases c with
 | true=>exact⟨H1,I1,q1⟩
 | false=>exact hb J pins s1 σ H1 Q I1 q1
theorem xZ(ha:PT X a tA):PT X (.UnaryOp .Not a pos) (MO tA):=by
 intro pins s σ H Q I h
 exact isTrue_not (ha pins s σ H (λc H1=>Q (!c) H1) I h)
def JT(ta tb:TE):TE:=λσ H Q=>ta σ H λx H1=>∃c,x=.bl c/\if c=true then tb σ H1 Q else Q (.bl false) H1
def JH(ta:TE):TE:=λσ H Q=>ta σ H λx H1=>∃c,x=.bl c/\Q (.bl (!c)) H1
theorem LR{op}(h:PE X a t):PE X (.BoolOp op [a] pos) t:=λpins s σ H Q I J=>BoolOp_one (h pins s σ H Q I J)
theorem Mw(ha:PE X a ta)(hb:PE X (.BoolOp .And (b::rest) pos) tb):PE X (.BoolOp .And (a::b::rest) pos) (JT ta tb):=by
 intro pins s σ H Q I h
 refine BoolOp_and (thn (ha pins s σ H _ I h) λv s1 ⟨x,H1,I1,r1,q1⟩=> ?_)
 obtain⟨c,rfl,q1⟩:=q1
 cases r1
 refine wpAny_truthy_bool ?_
 cases c with
 | true=>exact hb pins s1 σ H1 Q I1 q1
 | false=>exact⟨.bl false,H1,I1,rfl,q1⟩
theorem Mo(ha:PE X a ta):PE X (.UnaryOp .Not a pos) (JH ta):=by
 intro pins s σ H Q I h
 refine UnaryOp_ (thn (ha pins s σ H _ I h) λv s1 ⟨x,H1,I1,r1,q1⟩=> ?_)
 obtain⟨c,rfl,q1⟩:=q1
 cases r1
 exact not_of (wpAny_truthy_bool ⟨.bl (!c),H1,I1,rfl,q1⟩)
end
def SqL(K:lm)(H:Hp)(a:Addr)(xs:List V):Prop:=
 Rd H a (.lst xs)\/
  ∃(o:Obj) (J:Array Value) (n:Nat),K.lookup a=some o/\o.cls=.type "list" /\o.dict=none/\o.data=.seq J n/\J.size<=sizeLine/\Vals xs J.toList
def SqT(K:lm)(H:Hp)(a:Addr)(xs:List V):Prop:=
 Rd H a (.tup xs)\/
  ∃(o:Obj) (J:Array Value) (n:Nat),K.lookup a=some o/\o.cls=.type "tuple" /\o.data=.seq J n/\J.size<=sizeLine/\Vals xs J.toList
def NV:Value->Option V
 | .none=>some .non
 | .bool b=>some (.bl b)
 | .int i _=>some (.int i)
 | .str x _=>some (.str x)
 | .bytes b _=>some (.byt b)
 | .float b _=>some (.flt b)
 | .ref a=>some (.ref a)
 | .type n=>some (.ty n)
 | _=>none
theorem RelV.abs{x:V}(r:RelV x u):NV u=some x:=by
 cases x with
 | non=>cases r;rfl
 | bl _=>cases r;rfl
 | int _=>obtain⟨t,rfl⟩:=r;rfl
 | str _=>obtain⟨t,rfl⟩:=r;rfl
 | byt _=>obtain⟨t,rfl⟩:=r;rfl
 | flt _=>obtain⟨t,rfl⟩:=r;rfl
 | ref _=>cases r;rfl
 | ty _=>cases r;rfl
theorem RelV.inj{x y:V}(r:RelV x u)(q:RelV y u):x=y:=No (r.abs.symm.trans q.abs)
theorem Vals.inj:∀{xs ys:List V} {us:List Value},Vals xs us->Vals ys us->xs=ys
 | _,_,_,.nil,.nil=>rfl
 | _,_,_,.cons r t,.cons r' t'=>by rw[r.inj r',Vals.inj t t']
section
variable {X : Cx} {pins : List (Addr × Obj)} {σ : St} {H : Hp} {s : Shared} {a : Addr} {xs ys : List V}
theorem SqL.of(h:H a=some (.lst xs)):SqL K H a xs:=.inl (.inl h)
theorem SqT.of(h:H a=some (.tup xs)):SqT K H a xs:=.inl (.inl h)
theorem Inv.list(I:Inv X pins σ H s)(h:SqL X.K H a xs):∃J:List Value,Vals xs J/\PlainL s.heap a J.toArray/\xs.length<=sizeLine:=by
 rcases h with h | ⟨o,J,n,hk,hc,hd,hs,hz,r⟩
 ·obtain⟨z,J,n,r,e⟩:=h.ok I.hok
  exact⟨J,r,⟨_,n,e,rfl,rfl,rfl⟩,z⟩
 ·refine⟨J.toList,r,⟨o,n,I.kIn a o hk,hc,hd,by simpa using hs⟩, ?_⟩
  have e:=r.length
  simp only[QT] at e
  omega
theorem Inv.tuple(I:Inv X pins σ H s)(h:SqT X.K H a xs):∃J:List Value,Vals xs J/\IsTup s.heap a J.toArray/\xs.length<=sizeLine:=by
 rcases h with h | ⟨o,J,n,hk,hc,hs,hz,r⟩
 ·obtain⟨z,J,r,p⟩:=h.ok I.hok
  exact⟨J,r,p,z⟩
 ·refine⟨J.toList,r,⟨o,I.kIn a o hk,hc,n,by simpa using hs⟩, ?_⟩
  have e:=r.length
  simp only[QT] at e
  omega
theorem Inv.list_inj(I:Inv X pins σ H s)(h:SqL X.K H a xs)(h':SqL X.K H a ys):xs=ys:=by
 obtain⟨U,r,⟨o,n,e,_,_,d⟩,_⟩:=I.list h
 obtain⟨J,r',⟨o',n',e',_,_,Y⟩,_⟩:=I.list h'
 rw[e] at e';cases e'
 rw[d] at Y
 injection Y with d1 _
 have:U=J:=by simpa using congrArg Array.toList d1
 subst this
 exact r.inj r'
end
abbrev Cx.wish(X:Cx)(E:Value->Shared->Prop):Cx:={X with xe:=E}
abbrev Cx.nox(X:Cx):Cx:=X.wish λ_ _=>False
theorem Cx.Ok.wish(ok:X.Ok)(E:Value->Shared->Prop):(X.wish E).Ok:=
 ⟨ok.mod,ok.kind,ok.glob,ok.blt,ok.above,ok.inj,ok.has,ok.cab,ok.hd,ok.frames,ok.stk,ok.exf,ok.bs,ok.bsz,ok.noex,ok.exfs,ok.funs,ok.frf⟩
theorem Cx.Ok.unwish(ok:(X.wish E).Ok):X.Ok:=
 ⟨ok.mod,ok.kind,ok.glob,ok.blt,ok.above,ok.inj,ok.has,ok.cab,ok.hd,ok.frames,ok.stk,ok.exf,ok.bs,ok.bsz,ok.noex,ok.exfs,ok.funs,ok.frf⟩
section
variable {X : Cx} {pins : List (Addr × Obj)} {σ : St} {H : Hp} {s : Shared} {E : Value → Shared → Prop}
theorem Inv.wish(I:Inv X pins σ H s)(E:Value->Shared->Prop):Inv (X.wish E) pins σ H s:=⟨I.ok.wish E,I.os,I.bare,I.base,I.loc,I.cell,I.free,I.freeC,I.pin,I.hok,I.len⟩
theorem Inv.unwish(I:Inv (X.wish E) pins σ H s):Inv X pins σ H s:=⟨I.ok.unwish,I.os,I.bare,I.base,I.loc,I.cell,I.free,I.freeC,I.pin,I.hok,I.len⟩
theorem SP.unwish{D:Ends}{f:Flow}{s':Shared}(h:SP (X.wish E) pins D f s'):SP X pins D f s':=by
 cases f with
 | next=>obtain⟨J,H',I,q⟩:=h;exact⟨J,H',I.unwish,q⟩
 | brk=>obtain⟨J,H',I,q⟩:=h;exact⟨J,H',I.unwish,q⟩
 | cont=>obtain⟨J,H',I,q⟩:=h;exact⟨J,H',I.unwish,q⟩
 | ret u=>obtain⟨v,J,H',I,r,q⟩:=h;exact⟨v,J,H',I.unwish,r,q⟩
theorem PSs.nox{st:List Stmt}{t:TS}(h:PSs X.nox st t):PSs X st t:=λpins s σ H D I J=>
 wpAny_mono (h pins s σ H D (I.wish _) J) (λ_ _ q=>q.unwish) λ_ _ z=>lc z
end
section
variable {X : Cx} {st : Stmt} {rest : List Stmt} {t u : TS} {e : Expr} {te : TE} {pos : Pos}
def JN:TS:=λD σ H=>D.nx σ H
def L1(t u:TS):TS:=λD σ H=>t {D with nx:=u D} σ H
theorem cj:PSs X [] JN:=λ_ _ σ H _ I h=>wpAny_execs_nil ⟨σ,H,I,h⟩
theorem aw(h1:PS X st t)(h2:PSs X rest u):PSs X (st::rest) (L1 t u):=by
 intro pins s σ H D I h
 refine wpAny_execs_cons (thn (h1 pins s σ H {D with nx:=u D} I h) λf s1 q=> ?_)
 cases f with
 | next=>
  obtain⟨J,H',U,q⟩:=q
  exact h2 pins s1 J H' D U q
 | ret v=>exact q
 | brk=>exact q
 | cont=>exact q
theorem aI(h1:PS X st t):PSs X [st] t:=by
 intro pins s σ H D I h
 refine wpAny_execs_cons (thn (h1 pins s σ H D I h) λf s1 q=> ?_)
 cases f with
 | next=>exact wpAny_execs_nil q
 | ret v=>exact q
 | brk=>exact q
 | cont=>exact q
theorem Inv.quiet(I:Inv X pins σ H s):interactive X.env=false:=by simp[interactive,I.ok.kind]
def JE(te:TE):TS:=λD σ H=>te σ H λ_ H1=>D.nx σ H1
theorem dB(J:PE X e te)(hs:swapsWith e none pos.line X.env=pure false:=by rfl):PS X (.Expr e pos) (JE te):=by
 intro pins s σ H D I h
 exact wpAny_Expr_any (thn (J pins s σ H _ I h) λv s1 ⟨x,H1,I1,r1,q1⟩=>⟨σ,H1,I1,q1⟩) I.quiet hs
def MK(te:TE):TS:=λD σ H=>te σ H D.rt
theorem bh(J:PE X e te):PS X (.Return (some e) pos) (MK te):=by
 intro pins s σ H D I h
 exact wpAny_Return_some (thn (J pins s σ H _ I h) λv s1 ⟨x,H1,I1,r1,q1⟩=>⟨x,σ,H1,I1,r1,q1⟩)
def LQ(c:TT)(t u:TS):TS:=λD σ H=>c σ H λb H1=>if b=true then t D σ H1 else u D σ H1
theorem dq{c:Expr}{a b:List Stmt}{tc:TT}(hc:PT X c tc)(ha:PSs X a t)(hb:PSs X b u):PS X (.If c a b pos) (LQ tc t u):=by
 intro pins s σ H D I h
 refine wpAny_If (thn (hc pins s σ H _ I h) λd s1 ⟨H1,I1,q1⟩=> ?_)
 cases d with
 | true=>exact ha pins s1 σ H1 D I1 q1
 | false=>exact hb pins s1 σ H1 D I1 q1
def G5:TS:=λ_ _ _=>False
theorem ji:PS X st G5:=λ_ _ _ _ _ _ h=>h.elim
end
abbrev TG:=V->St->Hp->(St->Hp->Prop)->Prop
abbrev TGs:=List V->St->Hp->(St->Hp->Prop)->Prop
def PG(X:Cx)(J:Expr)(t:TG):Prop:=
 ∀(pins:List (Addr×Obj)) (s:Shared) (σ:St) (H:Hp) (v:V) (u:Value) (Q:St->Hp->Prop),Inv X pins σ H s->RelV v u->t v σ H Q->
  wpAny (model X.prog X.w) X.A (assign J X.env u) (λ_ s'=>∃U H',Inv X pins U H' s'/\Q U H') X.xe s
def PGs(X:Cx)(ts:List Expr)(t:TGs):Prop:=
 ∀(pins:List (Addr×Obj)) (s:Shared) (σ:St) (H:Hp) (vs:List V) (us:List Value) (Q:St->Hp->Prop),Inv X pins σ H s->Vals vs us->t vs σ H Q->
  wpAny (model X.prog X.w) X.A (assignInOrder ((assignEach ts X.env).map (·.2)) us) (λ_ s'=>∃J H',Inv X pins J H' s'/\Q J H') X.xe s
abbrev JB:=V->V->V->Hp->(Hp->Prop)->Prop
def MW(X:Cx)(t:JB):Prop:=
 ∀(pins:List (Addr×Obj)) (s:Shared) (σ:St) (H:Hp) (o i v:V) (J U u:Value) (Q:Hp->Prop),Inv X pins σ H s->RelV o J->RelV i U->RelV v u->t o i v H Q->
  wpAny (model X.prog X.w) X.A (setItem J U u) (λ_ s'=>∃H',Inv X pins σ H' s'/\Q H') X.xe s
section
variable {X : Cx} {pos : Pos}
def uC(i:Nat):TG:=λv σ H Q=>Q (σ.set i (some v)) H
theorem aP(J:X.N.Nodup)(hi:X.N[i]? =some x)(hx:Loc X.env.scope x)(U:X.fn x=true\/X.env.scope.names.lookup x=some .local:=by first | exact .inl rfl | exact .inr rfl | assumption):PG X (.Name x pos) (uC i):=by
 intro pins s σ H v u Q I r h
 exact wpAny_assign_Name (BM I J hi hx r (λs' Y=>⟨_,H,Y,h⟩) U)
def MR:TGs:=λvs σ H Q=>vs=[]/\Q σ H
def JC(t:TG)(u:TGs):TGs:=λvs σ H Q=>∃v r,vs=v::r/\t v σ H λJ H'=>u r J H' Q
theorem fm:PGs X [] MR:=by
 intro pins s σ H vs us Q I r h
 obtain⟨e,h⟩:=h
 subst e
 cases r
 exact assignInOrder_nil ⟨σ,H,I,h⟩
theorem bN {es:List Expr} {t:TG} {u:TGs} (h1:PG X e t) (h2:PGs X es u)
 (hs:(assignEach (e::es) X.env).map (·.2)=assign e X.env::(assignEach es X.env).map (·.2):=by rfl):PGs X (e::es) (JC t u):=by
 intro pins s σ H vs us Q I r h
 obtain⟨v,U,e1,h⟩:=h
 subst e1
 cases r with
 | cons r J=>
  rw[hs]
  refine assignInOrder_cons (thn (h1 pins s σ H _ _ _ I r h) λ_ s1 ⟨σ1,H1,I1,q1⟩=> ?_)
  exact h2 pins s1 σ1 H1 _ _ Q I1 J q1
def LF(K:lm)(n:Nat)(t:TGs):TG:=λv σ H Q=>∃a xs,v=.ref a/\SqT K H a xs/\xs.length=n/\t xs σ H Q
theorem fQ {es:List Expr} {k:Nat} {t:TGs} {n:Nat} (hc:X.calm=true) (h:PGs X es t)
 (hn:(assignEach es X.env).length=n:=by rfl) (J:(assignEach es X.env).findIdx? (·.1)=none:=by rfl):PG X (.Tuple es k pos) (LF X.K n t):=by
 intro pins s σ H v u Q I r U
 obtain⟨a,xs,e1,hq,hl,U⟩:=U
 subst e1
 cases r
 obtain⟨ac,Y,ht,hz⟩:=I.tuple hq
 refine assign_Tuple_tuple (I.ok.hd hc) ht (by simp[hn,<- hl,Y.length]) J λh' hx=> ?_
 have I1:Inv X pins σ H {s with heap:=h'}:=I.kept (t':=s.toks) λb o e=>hx b o (wS (Heap.lt_size e)) e
 exact h pins _ σ H xs _ Q I1 (by simpa using Y) U
def Mq(to J:TE)(t:JB):TG:=λv σ H Q=>to σ H λo H1=>J σ H1 λi H2=>t o i v H2 λU=>Q σ U
theorem G7 {o i:Expr} {to Y:TE} {t:JB} (ho:PE X o to) (hi:PE X i Y) (hs:MW X t)
 (ha:∀v,assign (.Subscript o i pos) X.env v=(do
  let J <- holding [v] (eval o X.env)
  let U <- holding [v,J] (eval i X.env)
  standAt pos
  holding [v,J,U] (setItem J U v)
  release [v,J,U] []):=by intro _;rfl):PG X (.Subscript o i pos) (Mq to Y t):=by
 intro pins s σ H v u Q I r h
 rw[ha]
 refine wpAny_bind (wpAny_holding (thn (ho pins s σ H _ I h) λJ s1 ⟨x,H1,I1,r1,q1⟩=> ?_))
 refine wpAny_bind (wpAny_holding (thn (hi pins s1 σ H1 _ I1 q1) λU s2 ⟨y,H2,I2,r2,q2⟩=> ?_))
 refine wpAny_bind (wpAny_standAt (wpAny_bind (wpAny_holding (thn (hs pins s2 σ H2 x y v J U u _ I2 r1 r2 r q2) λ_ s3 ⟨H3,I3,q3⟩=> ?_))))
 exact wpAny_release ⟨σ,H3,I3,q3⟩
def CG(te:TE)(g:TG):TS:=λD σ H=>te σ H λx H1=>g x σ H1 D.nx
theorem Bq {g:TG} (J:PE X e te) (U:PG X tg g) (hs:swapsWithSole [tg] e pos.line X.env=pure false:=by rfl) (Y:swappedStores [tg] e X.env=pure none:=by rfl)
 (h1:(assignEach [tg] X.env).map (·.2)=[assign tg X.env]:=by rfl):PS X (.Assign [tg] e pos) (CG te g):=by
 intro pins s σ H D I h
 refine wpAny_Assign_stores (thn (J pins s σ H _ I h) λv s1 ⟨x,H1,I1,r1,q1⟩=> ?_) hs Y
 rw[h1]
 exact thn (U pins s1 σ H1 x v _ I1 r1 q1) λ_ s2 q=>q
theorem a0{pos':Pos}(J:X.N.Nodup)(hi:X.N[i]? =some x)(hx:Loc X.env.scope x)(U:PE X e te)(hs:swapsWith e (some (.Name x pos')) pos.line X.env=pure false:=by rfl)(Y:X.fn x=true\/X.env.scope.names.lookup x=some .local:=by first | exact .inl rfl | exact .inr rfl | assumption):
 PS X (.Assign [.Name x pos'] e pos) (CG te (uC i)):=by
 intro pins s σ H D I h
 refine wpAny_Assign_Name (thn (U pins s σ H _ I h) λv s1 ⟨y,H1,I1,r1,q1⟩=> ?_) hs
 exact BM I1 J hi hx r1 (λs2 I2=>⟨_,H1,I2,q1⟩) Y
end
section
variable {X : Cx} {pos : Pos}
def FP(c:TT)(tb:TS):TS:=λD σ H=>∃W:Nat->St->Hp->Prop,(∃m,W m σ H)/\∀m σ H,W m σ H->
 c σ H λb H1=>if b=true then ∃N:St->Hp->Prop,(∀J H',N J H'->∃U,U<m/\W U J H')/\tb {D with nx:=N,ct:=N,bk:=D.nx} σ H1 else D.nx σ H1
theorem HA{c:Expr}{tc:TT}{tb:TS}(hp:PassesOwn (model X.prog X.w) X.A X.env X.xe)(hc:PT X c tc)(hb:PSs X body tb):PS X (.While c body [] pos) (FP tc tb):=by
 intro pins s σ H D I h
 obtain⟨W,⟨m0,w0⟩,J⟩:=h
 refine wpAny_While (codeAny_whileLoop (λn s'=>∃σ' H',Inv X pins σ' H' s'/\W n σ' H') ?_ m0 ⟨σ,H,I,w0⟩)
 rintro n s1 ⟨σ1,H1,I1,w1⟩
 refine wpAny_passesOwn hp (thn (hc pins s1 σ1 H1 _ I1 (J n σ1 H1 w1)) λb s2 ⟨H2,I2,q2⟩=> ?_)
 cases b with
 | true=>
  obtain⟨N,hN,q2⟩:=q2
  rw[if_pos rfl]
  refine wpAny_passesOwn hp (thn (hb pins s2 σ1 H2 _ I2 q2) λf s3 q3=> ?_)
  cases f with
  | next=>
   obtain⟨U,Y,I3,n3⟩:=q3
   obtain⟨m',hm,w3⟩:=hN U Y n3
   exact⟨m',hm,U,Y,I3,w3⟩
  | cont=>
   obtain⟨U,Y,I3,n3⟩:=q3
   obtain⟨m',hm,w3⟩:=hN U Y n3
   exact⟨m',hm,U,Y,I3,w3⟩
  | brk=>exact q3
  | ret v=>exact q3
 | false=>
  rw[if_neg ut]
  exact wpAny_execs_nil ⟨σ1,H2,I2,q2⟩
end
structure It where
 go:Nat->Hp->Prop
 yld:Nat->Hp->V->Hp->Prop
 stop:Nat->Hp->Prop
def lW(X:Cx)(pins:List (Addr×Obj))(H:Hp)(b:Addr):Prop:=
 H b=none/\b≠X.env.locals/\b∉X.fs/\(b∈X.ex\/X.s₀.heap.objs.size<=b)/\(∀x c,X.env.cells.lookup x=some c->c≠b)/\∀p∈X.pn++pins,p.1≠b
theorem Inv.fpOk{H H':Hp}(I:Inv X pins σ H s)(hb:s.heap.objs.size<=b)(hn:H' b=none):lW X pins H' b:=by
 refine⟨hn,RL (wh I.lt hb),I.nofs hb,.inr (yB I.sz hb),λx c e z=> ?_,λp hp z=> ?_⟩
 ·obtain⟨v,q⟩:=I.cell x c e
  exact absurd (wh q.lt (by rw[z];exact hb)) (Ps _)
 ·exact absurd (wh (Heap.lt_size (I.pin p hp).1) (by rw[z];exact hb)) (Ps _)
structure Turn(P:Program)(w:World)(K:lm)(tg:Expr)(J:It)(fp:List Addr)(it:Addr)(tn:Nat->Heap->Prop):Prop where
 mem:it∈fp
 obj:∀i h,tn i h->∀b∈fp,∃o,h.get? b=some o/\∀v,o.data≠ .cell v
 keep:∀i h h',tn i h->(∀b∈fp,∀o,h.get? b=some o->h'.get? b=some o)->tn i h'
 item:∀(X:Cx),X.prog=P->X.w=w->X.K=K->X.calm=true->∀(i:Nat) (pins:List (Addr×Obj)) (s:Shared) (σ:St) (H:Hp) (E:Value->Shared->Prop),Inv X pins σ H s->(∀b∈fp,lW X pins H b)->tn i s.heap->J.go i H->
  wpAny (model P w) X.A (pyNext (.ref it)) (λr s1=>∃u,r=some u/\
   wpAny (model P w) X.A (letOwnedTupleGo tg (.ref it) u) (λ_ s2=>∃x H',Inv X pins σ H' s2/\RelV x u/\J.yld i H x H'/\tn (i+1) s2.heap/\∀b∈fp,H' b=none) E s1) E s
 done:∀(X:Cx),X.prog=P->X.w=w->X.K=K->X.calm=true->∀(i:Nat) (pins:List (Addr×Obj)) (s:Shared) (σ:St) (H:Hp) (E:Value->Shared->Prop),Inv X pins σ H s->(∀b∈fp,lW X pins H b)->tn i s.heap->J.stop i H->
  wpAny (model P w) X.A (pyNext (.ref it)) (λr s1=>r=none/\Inv X pins σ H s1) E s
 self:∀(A:Around) (i:Nat) (s:Shared) (Q:Value->Shared->Prop) (E:Value->Shared->Prop),tn i s.heap->Q (.ref it) s->wpAny (model P w) A (pyIter (.ref it)) Q E s
abbrev TI:=St->Hp->(It->Hp->Prop)->Prop
def PIE(X:Cx)(pins:List (Addr×Obj))(σ:St)(tg:Expr)(R:It->Hp->Prop)(U:Value)(s2:Shared):Prop:=
 ∃(it:Addr) (fp:List Addr) (Y:Nat->Heap->Prop) (J:It) (H':Hp),U=.ref it/\Inv X pins σ H' s2/\Turn X.prog X.w X.K tg J fp it Y/\Y 0 s2.heap/\(∀b∈fp,lW X pins H' b)/\R J H'
def PI(X:Cx)(tg J:Expr)(wi:TI):Prop:=
 ∀(pins:List (Addr×Obj)) (s:Shared) (σ:St) (H:Hp) (R:It->Hp->Prop),Inv X pins σ H s->wi σ H R->
  wpAny (model X.prog X.w) X.A (eval J X.env) (λv s1=>wpAny (model X.prog X.w) X.A (pyIter v) (PIE X pins σ tg R) X.xe s1) X.xe s
theorem EV {M:Model} {A:Around} {E:Value->Shared->Prop} {tg:Expr} {it:Addr} {u:Value} {n:String} {vs:Array Value} {Q:Unit->Shared->Prop} (U:s.heap.get? it=some o) (hc:o.cls=.type n) (hd:o.data=.fields vs)
 (hn:["enumerate","zip","dict_itemiterator","dict_reverseitemiterator","odict_iterator","itertools.zip_longest","itertools.pairwise"].contains n=false) (J:Q () s):wpAny M A (letOwnedTupleGo tg (.ref it) u) Q E s:=by
 unfold letOwnedTupleGo
 cases tg <;> first
  | exact wpAny_pure J
  | (cases u <;> first
   | exact wpAny_pure J
   | (
    refine wpAny_bind (wpAny_load U ?_)
    rw[hc,hd]
    show wpAny M A (if (["enumerate","zip","dict_itemiterator","dict_reverseitemiterator","odict_iterator","itertools.zip_longest","itertools.pairwise"].contains n&&vs[0]? == some (rawInt _))=true then _ else _) Q E s
    rw[if_neg (by intro h;rw[hn,Qx] at h;cases h)]
    exact wpAny_pure J))
def Itl(K:lm)(a:Addr):It:=
 ⟨λi H=>∃xs x,SqL K H a xs/\xs[i]? =some x,λi H x H'=>H'=H/\∀xs,SqL K H a xs->xs[i]? =some x,λi H=>∃xs,SqL K H a xs/\xs.length<=i⟩
def Itr(lo:Int)(n:Nat):It:=⟨λi _=>i<n,λi H x H'=>H'=H/\x=.int (lo+i),λi _=>n<=i⟩
theorem Gv(a it:Addr):Turn P w K tg (Itl K a) [it] it (λi h=>h.IsListIter it a i) where
 mem:=by simp
 obj:=λi h st b hb=>by
  have e:b=it:=by simpa using hb
  subst e
  obtain⟨o,e,c,d⟩:=st
  exact⟨o,e,λv z=>by rw[d] at z;cases z⟩
 keep:=λi h h' st k=>st.at λo e=>k it (by simp) o e
 item:=by
  intro X hP hw hK hc i pins s σ H E I hf st hg
  subst hP hw hK
  obtain⟨xs,x,hq,hx⟩:=hg
  obtain⟨its,rv,p,hz⟩:=I.list hq
  obtain⟨u,hu,ru⟩:=rv.get hx
  obtain⟨f0,f1,f2,f3,f4,f5⟩:=hf it (by simp)
  refine wpAny_pyNext_list_item st p.isList (x:=u) (by simpa using hu) λh' st' sb=> ?_
  have I1:Inv X pins σ H {s with heap:=h'}:=I.turned (t':=s.toks) (λb o hb e=>(sb.2 b hb).trans e) f0 f1 f3 f4 f5
  obtain⟨o,e,c,d⟩:=id st'
  exact⟨u,rfl,EV (s:={s with heap:=h'}) e c d (by decide) ⟨x,H,I1,ru,⟨rfl,λys hy=>by rw[I.list_inj hy hq];exact hx⟩,st',λb hb=>(hf b hb).1⟩⟩
 done:=by
  intro X hP hw hK hc i pins s σ H E I hf st hg
  subst hP hw hK
  obtain⟨xs,hq,hx⟩:=hg
  obtain⟨its,rv,p,hz⟩:=I.list hq
  obtain⟨f0,f1,f2,f3,f4,f5⟩:=hf it (by simp)
  have hl:=rv.length
  exact wpAny_pyNext_list_end (I.ok.hd hc) st p.isList (by simp;omega) λh' eb=>⟨rfl,I.turned (t':=s.toks) (λb o hb e=>eb b o hb e) f0 f1 f3 f4 f5⟩
 self:=λ_ _ _ _ _ st h=>wpAny_pyIter_listiter st h
theorem EC(it:Addr)(lo:Int)(n:Nat):Turn P w K tg (Itr lo n) [it] it (λi h=>IsRangeIter h it (lo+(i:Nat)*1) ((n:Int)-(i:Nat)) 1) where
 mem:=by simp
 obj:=λi h st b hb=>by
  have e:b=it:=by simpa using hb
  subst e
  exact⟨_,st,λv z=>by
   have z':Data.fields _=Data.cell v:=z
   cases z'⟩
 keep:=λi h h' st k=>k it (by simp) _ st
 item:=by
  intro X hP hw hK hc i pins s σ H E I hf st hg
  subst hP hw hK
  obtain⟨f0,f1,f2,f3,f4,f5⟩:=hf it (by simp)
  have W:=Walks.range (prog:=X.prog) (w:=X.w) (I.ok.hd hc) it lo 1 n
  refine W.item i s _ _ hg st λv h' tk hv st' kk=> ?_
  obtain⟨t,rfl⟩:=hv
  have I1:Inv X pins σ H {s with heap:=h',toks:=tk}:=I.turned (λb o hb e=>kk b o (by simpa using hb) e) f0 f1 f3 f4 f5
  refine⟨_,rfl,EV (s:={s with heap:=h',toks:=tk}) (n:="range_iterator") st' rfl rfl (by decide) ⟨.int (lo+i),H,I1,⟨t, ?_⟩,⟨rfl,rfl⟩,st',λb hb=>(hf b hb).1⟩⟩
  rw[Int.mul_one]
 done:=by
  intro X hP hw hK hc i pins s σ H E I hf st hg
  subst hP hw hK
  obtain⟨f0,f1,f2,f3,f4,f5⟩:=hf it (by simp)
  exact wpAny_pyNext_range_end (I.ok.hd hc) st (by have:n<=i:=hg;omega) λh' eb=>⟨rfl,I.turned (t':=s.toks) (λb o hb e=>eb b o hb e) f0 f1 f3 f4 f5⟩
 self:=λ_ _ _ _ _ st h=>wpAny_pyIter_rangeiter st h
section
variable {X : Cx} {tg : Expr}
def JJ(K:lm)(tl:TE):TI:=λσ H R=>tl σ H λx H1=>∃a,x=.ref a/\(∃xs,SqL K H1 a xs)/\R (Itl K a) H1
theorem bX{l:Expr}{tl:TE}(J:PE X l tl):PI X tg l (JJ X.K tl):=by
 intro pins s σ H R I h
 refine thn (J pins s σ H _ I h) λv s1 ⟨x,H1,I1,r1,q1⟩=> ?_
 obtain⟨a,e,⟨xs,hq⟩,q⟩:=q1
 subst e
 cases r1
 obtain⟨U,Y,p,hz⟩:=I1.list hq
 refine wpAny_pyIter_list p.isList ?_
 refine⟨s1.heap.objs.size,[s1.heap.objs.size],_,_,H1,rfl,I1.kept (t':=s1.toks) λb o e=>Heap.get?_push_of_some _ e,Gv a _,⟨_,Heap.get?_push_size _ rfl,rfl,rfl⟩,λb hb=> ?_,q⟩
 have e:b=s1.heap.objs.size:=by simpa using hb
 subst e
 exact I1.fpOk (qh _) (I1.hok.fresh (qh _))
theorem Hk {R:It->Hp->Prop} {E:Value->Shared->Prop} {lo hi:Int} {t u v:Tok} {tk:Nat} (I:Inv X pins σ H s) (h1: -(2^62)<=lo) (h2:lo<2^62) (U: -(2^62)<=hi) (Y:hi<2^62)
 (q:R (Itr lo (hi-lo).toNat) H):wpAny (model X.prog X.w) X.A (pyIter (.ref s.heap.objs.size)) (PIE X pins σ tg R) E {s with heap:=s.heap.push {cls:=.type "range",data:=.fields #[.int lo t,.int hi u,.int 1 v]},toks:=tk}:=by
 refine wpAny_pyIter_range (IsRange.new ..) (small_one h1 h2 U Y) ?_
 have J:Inv X pins σ H {s with heap:=s.heap.push {cls:=.type "range",data:=.fields #[.int lo t,.int hi u,.int 1 v]},toks:=tk}:=I.kept λb o e=>Heap.get?_push_of_some _ e
 refine⟨(s.heap.push {cls:=.type "range",data:=.fields #[.int lo t,.int hi u,.int 1 v]}).objs.size,[(s.heap.push {cls:=.type "range",data:=.fields #[.int lo t,.int hi u,.int 1 v]}).objs.size],_,_,H,rfl,
  J.kept (t':=tk) λb o e=>Heap.get?_push_of_some _ e,EC _ lo (hi-lo).toNat, ?_,λb hb=> ?_,q⟩
 ·have e1:lo+((0:Nat):Int)*1=lo:=by simp
  have e2:(((hi-lo).toNat:Nat):Int)-((0:Nat):Int)=Builtin.Range.rangeSize lo hi 1:=by rw[rangeSize_one];split <;> omega
  show IsRangeIter _ _ (lo+((0:Nat):Int)*1) ((((hi-lo).toNat:Nat):Int)-((0:Nat):Int)) 1
  rw[e1,e2]
  exact Heap.get?_push_size _ rfl
 ·have e:b=(s.heap.push {cls:=.type "range",data:=.fields #[.int lo t,.int hi u,.int 1 v]}).objs.size:=by simpa using hb
  subst e
  exact J.fpOk (qh _) (J.hok.fresh (qh _))
def JF(ta:TA):TI:=λσ H R=>ta σ H λvs H1=>∃j:Int,vs=[.int j]/\ -(2^62)<=j/\j<2^62/\R (Itr 0 j.toNat) H1
theorem dF{a:Expr}{ta:TA}{p pos:Pos}(J:Gl X "range")(hm:X.mg "range" =none)(ha:PA X [a] ta)(hs:starEach [a] X.env=[(false,eval a X.env)]:=by rfl):PI X tg (.Call (.Name "range" p) [a] [] pos) (JF ta):=by
 intro pins s σ H R I h
 refine Call_ (qo I J hm boot_range (PR (thn (ha pos pins s σ H _ I h) λus s1 ⟨vs,H1,I1,r1,q1⟩=> ?_) hs rfl))
 obtain⟨j,e,q1,q2,q⟩:=q1
 subst e
 cases r1 with
 | cons r U=>
  cases U
  obtain⟨t,rfl⟩:=r
  exact call_range_1 (Hk I1 (by omega) (by omega) q1 q2 (by simpa using q))
def LN(wi:TI)(g:TG)(tb:TS):TS:=λD σ H=>wi σ H λJ H1=>∃W:Nat->Nat->St->Hp->Prop,(∃m,W 0 m σ H1)/\∀i m σ H,W i m σ H->
 (J.stop i H/\D.nx σ H)\/(J.go i H/\∃N:St->Hp->Prop,(∀U H',N U H'->∃Y,Y<m/\W (i+1) Y U H')/\∀x H',J.yld i H x H'->g x σ H' λσ2 H2=>tb {D with nx:=N,ct:=N,bk:=D.nx} σ2 H2)
def uk(fp:List Addr)(h:Heap):List (Addr×Obj):=fp.filterMap λb=>(h.get? b).map λo=>(b,o)
theorem nt(hb:b∈fp)(e:h.get? b=some o):(b,o)∈uk fp h:=RM.mpr ⟨b,hb,by rw[e];rfl⟩
theorem FR{p:Addr×Obj}(hp:p∈uk fp h):p.1∈fp/\h.get? p.1=some p.2:=by
 obtain⟨b,hb,e⟩:=RM.mp hp
 cases q:h.get? b with
 | none=>rw[q] at e;cases e
 | some o=>
  rw[q] at e
  have e':(b,o)=p:=No e
  subst e'
  exact⟨hb,q⟩
theorem Inv.pinned(I:Inv X pins σ H s)(J:∀b∈fp,lW X pins H b)(U:∀b∈fp,∃o,s.heap.get? b=some o/\∀v,o.data≠ .cell v):Inv X (pins++uk fp s.heap) σ H s:=
 I.pins_of λp hp=>(sE.mp hp).elim (λz=>I.pin p (wP _ z)) λz=>by
  obtain⟨hb,e⟩:=FR z
  obtain⟨Y,f1,f2,_⟩:=J p.1 hb
  obtain⟨o,e',d⟩:=U p.1 hb
  rw[e] at e';cases e'
  exact⟨e,Y,f1,f2,d⟩
theorem Inv.unpinned{pins pl:List (Addr×Obj)}(I:Inv X (pins++pl) σ H s):Inv X pins σ H s:=I.pins_of λp hp=>I.pin p (wP _ (FS _ hp))
theorem eG {U:Expr} {wi:TI} {g:TG} {tb:TS} {pos:Pos} (hp:PassesOwn (model X.prog X.w) X.A X.env X.xe) (hc:X.calm=true) (hi:PI X tg U wi) (hg:PG X tg g) (hb:PSs X body tb)
 (hs:∀x,foldedSetIterable U X.env x=pure x:=by intro _;rfl):PS X (.For tg U body [] pos) (LN wi g tb):=by
 intro pins s σ H D I h
 refine wpAny_For (thn (hi pins s σ H _ I h) λv s1 h1=>thn h1 λbi s2 h2=> ?_) hs
 obtain⟨it,fp,tn,J,H2,e,I2,T,a5,f2,W,⟨m0,w0⟩,ap⟩:=h2
 subst e
 have Y:∀{H':Hp},(∀b∈fp,H' b=none)->∀b∈fp,lW X pins H' b:=λhn b hb=>⟨hn b hb,(f2 b hb).2⟩
 refine codeAny_forLoop_any (λn s'=>∃i σ' H',Inv X pins σ' H' s'/\tn i s'.heap/\(∀b∈fp,H' b=none)/\W i n σ' H') ?_ m0 ⟨0,σ,H2,I2,a5,λb hb=>(f2 b hb).1,w0⟩
 rintro n s3 ⟨i,σ3,H3,I3,a1,a2,w3⟩
 rcases ap i n σ3 H3 w3 with⟨a3,qn⟩ | ⟨go,N,hN,step⟩
 ·refine wpAny_passesOwn hp (thn (T.done X rfl rfl rfl hc i pins s3 σ3 H3 X.xe I3 (Y a2) a1 a3) λr s4 ⟨hr,I4⟩=> ?_)
  subst hr
  exact wpAny_execs_nil ⟨σ3,H3,I4,qn⟩
 ·refine wpAny_passesOwn hp (thn (T.item X rfl rfl rfl hc i pins s3 σ3 H3 X.xe I3 (Y a2) a1 go) λr s4 ⟨u,hr,h4⟩=> ?_)
  subst hr
  refine wpAny_passesOwn hp (thn h4 λ_ s5 ⟨x,H5,I5,r5,y5,st5,fr5⟩=> ?_)
  have a6:=I5.pinned (Y fr5) (T.obj _ _ st5)
  refine wpAny_passesOwn hp (thn (hg _ s5 σ3 H5 x u _ a6 r5 (step x H5 y5)) λ_ s6 ⟨σ6,H6,I6,q6⟩=> ?_)
  refine wpAny_passesOwn hp (thn (hb _ s6 σ6 H6 _ I6 q6) λf s7 q7=> ?_)
  have again:∀{σ7:St} {H7:Hp},Inv X (pins++uk fp s5.heap) σ7 H7 s7->N σ7 H7->∃m,m<n/\∃i σ' H',Inv X pins σ' H' s7/\tn i s7.heap/\(∀b∈fp,H' b=none)/\W i m σ' H':=λ{σ7 H7} I7 n7=>by
   obtain⟨m',hm,w7⟩:=hN σ7 H7 n7
   refine⟨m',hm,i+1,σ7,H7,I7.unpinned,T.keep _ _ _ st5 λb hb o e=>(I7.pin (b,o) (wP _ (wP _ (nt hb e)))).1,λb hb=> ?_,w7⟩
   obtain⟨o,e,d⟩:=T.obj _ _ st5 b hb
   exact(I7.pin (b,o) (wP _ (wP _ (nt hb e)))).2.1
  cases f with
  | next=>obtain⟨σ7,H7,I7,n7⟩:=q7;exact again I7 n7
  | cont=>obtain⟨σ7,H7,I7,n7⟩:=q7;exact again I7 n7
  | brk=>obtain⟨σ7,H7,I7,q7⟩:=q7;exact⟨σ7,H7,I7.unpinned,q7⟩
  | ret v=>obtain⟨x7,σ7,H7,I7,r7,q7⟩:=q7;exact⟨x7,σ7,H7,I7.unpinned,r7,q7⟩
end
abbrev R2:=V->V->Hp->VK->Prop
def OpR(X:Cx)(f:Value->Value->Sem Value)(r:R2):Prop:=
 ∀(pins:List (Addr×Obj)) (s:Shared) (σ:St) (H:Hp) (x y:V) (v u:Value) (Q:VK),Inv X pins σ H s->RelV x v->RelV y u->r x y H Q->
  wpAny (model X.prog X.w) X.A (f v u) (EP X pins σ Q) X.xe s
def UnR(X:Cx)(f:Value->Sem Value)(r:V->Hp->VK->Prop):Prop:=
 ∀(pins:List (Addr×Obj)) (s:Shared) (σ:St) (H:Hp) (x:V) (v:Value) (Q:VK),Inv X pins σ H s->RelV x v->r x H Q->
  wpAny (model X.prog X.w) X.A (f v) (EP X pins σ Q) X.xe s
def kQ(X:Cx)(f:Value)(r:List V->Hp->VK->Prop):Prop:=
 ∀(pins:List (Addr×Obj)) (s:Shared) (σ:St) (H:Hp) (xs:List V) (us:List Value) (Q:VK),Inv X pins σ H s->Vals xs us->r xs H Q->
  wpAny (model X.prog X.w) X.A (call f us) (EP X pins σ Q) X.xe s
def NZ(X:Cx)(r:V->Hp->(Bool->Hp->Prop)->Prop):Prop:=
 ∀(pins:List (Addr×Obj)) (s:Shared) (σ:St) (H:Hp) (x:V) (v:Value) (Q:Bool->Hp->Prop),Inv X pins σ H s->RelV x v->r x H Q->
  wpAny (model X.prog X.w) X.A (truthy v) (TP X pins σ Q) X.xe s
def tOp(r:R2)(ta tb:TE):TE:=λσ H Q=>ta σ H λx H1=>tb σ H1 λy H2=>r x y H2 Q
def tUn(r:V->Hp->VK->Prop)(ta:TE):TE:=λσ H Q=>ta σ H λx H1=>r x H1 Q
def rI(C:Int->Int->Prop)(g:Int->Int->V):R2:=λx y H Q=>∃i j,x=.int i/\y=.int j/\C i j/\Q (g i j) H
def rI0(g:Int->Int->V):R2:=λx y H Q=>∃i j,x=.int i/\y=.int j/\Q (g i j) H
def rU(g:Int->V):V->Hp->VK->Prop:=λx H Q=>∃i,x=.int i/\Q (g i) H
section
variable {X : Cx} {a b c : Expr} {ta tb tc : TE} {pos : Pos}
theorem HC (ha:PE X a ta) (hb:PE X b tb) {R:V->V->Hp->Prop} (I:Inv X pins σ H s)
 (h:ta σ H λx H1=>tb σ H1 λy H2=>R x y H2) {Q:Value->Shared->Prop} {f:Value->Value->Sem Value}
 (J:∀v u s2 x y H2,Inv X pins σ H2 s2->RelV x v->RelV y u->R x y H2->wpAny (model X.prog X.w) X.A (f v u) Q X.xe s2):
 wpAny (model X.prog X.w) X.A (eval a X.env) (λv U=>wpAny (model X.prog X.w) X.A (eval b X.env) (λu Y=>wpAny (model X.prog X.w) X.A (f v u) Q X.xe Y) X.xe U) X.xe s:=by
 refine thn (ha pins s σ H _ I h) λv s1 ⟨x,H1,I1,r1,q1⟩=> ?_
 refine thn (hb pins s1 σ H1 _ I1 q1) λu s2 ⟨y,H2,I2,r2,q2⟩=> ?_
 exact J v u s2 x y H2 I2 r1 r2 q2
theorem aW{op:Operator}(J:OpR X (binaryOp op) r)(ha:PE X a ta)(hb:PE X b tb):PE X (.BinOp a op b pos) (tOp r ta tb):=by
 intro pins s σ H Q I h
 exact wpAny_BinOp (HC ha hb I h λv u s2 x y H2 U Y ry q=>J pins s2 σ H2 x y v u Q U Y ry q)
theorem rq{op:UnaryOp}{r:V->Hp->VK->Prop}(J:UnR X (unaryOp op) r)(ha:PE X a ta):PE X (.UnaryOp op a pos) (tUn r ta):=by
 intro pins s σ H Q I h
 exact UnaryOp_ (thn (ha pins s σ H _ I h) λv s1 ⟨x,H1,I1,r1,q1⟩=>J pins s1 σ H1 x v Q I1 r1 q1)
theorem opI {f:Value->Value->Sem Value} {C:Int->Int->Prop} {g:Int->Int->Int}
 (rule:∀(i j:Int) (t u:Tok) (s:Shared) (Q:Value->Shared->Prop) (E:Value->Shared->Prop),C i j->Q (.int (g i j) s.toks) {s with toks:=s.toks+1}->wpAny (model X.prog X.w) X.A (f (.int i t) (.int j u)) Q E s):
 OpR X f (rI C λi j=>.int (g i j)):=by
 intro pins s σ H x y v u Q I J U h
 obtain⟨i,j,rfl,rfl,hc,q⟩:=h
 obtain⟨t,rfl⟩:=J
 obtain⟨t',rfl⟩:=U
 exact rule i j t t' s _ _ hc ⟨.int (g i j),H,I.tok _,⟨_,rfl⟩,q⟩
theorem Ho {f:Value->Value->Sem Value} {g:Int->Int->Int}
 (rule:∀(i j:Int) (t u:Tok) (s:Shared) (Q:Value->Shared->Prop) (E:Value->Shared->Prop),Q (.int (g i j) s.toks) {s with toks:=s.toks+1}->wpAny (model X.prog X.w) X.A (f (.int i t) (.int j u)) Q E s):
 OpR X f (rI0 λi j=>.int (g i j)):=by
 intro pins s σ H x y v u Q I J U h
 obtain⟨i,j,rfl,rfl,q⟩:=h
 obtain⟨t,rfl⟩:=J
 obtain⟨t',rfl⟩:=U
 exact rule i j t t' s _ _ ⟨.int (g i j),H,I.tok _,⟨_,rfl⟩,q⟩
theorem LP {f:Value->Value->Sem Value} {g:Int->Int->Bool}
 (rule:∀(i j:Int) (t u:Tok) (s:Shared) (Q:Value->Shared->Prop) (E:Value->Shared->Prop),Q (.bool (g i j)) s->wpAny (model X.prog X.w) X.A (f (.int i t) (.int j u)) Q E s):
 OpR X f (rI0 λi j=>.bl (g i j)):=by
 intro pins s σ H x y v u Q I J U h
 obtain⟨i,j,rfl,rfl,q⟩:=h
 obtain⟨t,rfl⟩:=J
 obtain⟨t',rfl⟩:=U
 exact rule i j t t' s _ _ ⟨.bl (g i j),H,I,rfl,q⟩
def Jx(i j:Int):Prop:=0<=j/\j<=1000000/\i.natAbs<2^64
theorem My:OpR X (binaryOp .Add) (rI0 λi j=>.int (i+j)):=Ho λ_ _ _ _ _ _ _ q=>add_int q
theorem mM:OpR X (binaryOp .Sub) (rI0 λi j=>.int (i-j)):=Ho λ_ _ _ _ _ _ _ q=>sub_int q
theorem ik:OpR X (binaryOp .Mod) (rI (λ_ j=>j≠0) λi j=>.int (i.fmod j)):=opI λ_ _ _ _ _ _ _ hc q=>mod_int' hc q
theorem GO:OpR X (binaryOp .Pow) (rI Jx λi j=>.int (i^j.toNat)):=opI λ_ _ _ _ _ _ _ hc q=>pow_int_small hc.1 hc.2.1 hc.2.2 q
theorem JV:OpR X (binaryOp .BitOr) (rI0 λi j=>.int (Builtin.bitOr i j)):=Ho λ_ _ _ _ _ _ _ q=>or_int q
theorem unI {f:Value->Sem Value} {g:Int->Int}
 (rule:∀(i:Int) (t:Tok) (s:Shared) (Q:Value->Shared->Prop) (E:Value->Shared->Prop),Q (.int (g i) s.toks) {s with toks:=s.toks+1}->wpAny (model X.prog X.w) X.A (f (.int i t)) Q E s):
 UnR X f (rU λi=>.int (g i)):=by
 intro pins s σ H x v Q I J h
 obtain⟨i,rfl,q⟩:=h
 obtain⟨t,rfl⟩:=J
 exact rule i t s _ _ ⟨.int (g i),H,I.tok _,⟨_,rfl⟩,q⟩
theorem og:UnR X (unaryOp .USub) (rU λi=>.int (-i)):=unI λ_ _ _ _ _ q=>neg_int q
end
def Me:V->V->Bool
 | .non,.non=>true | .non,.int _=>true | .int _,.non=>true | .non,.bl _=>true | .bl _,.non=>true | .non,.str _=>true | .str _,.non=>true
 | .int _,.int _=>true | .bl _,.bl _=>true | .str _,.str _=>true | .byt _,.byt _=>true
 | .int _,.str _=>true | .str _,.int _=>true | .bl _,.str _=>true | .str _,.bl _=>true
 | _,_=>false
def rEq:R2:=λx y H Q=>Me x y=true/\Q (.bl (decide (x=y))) H
def rNe:R2:=λx y H Q=>Me x y=true/\Q (.bl (!decide (x=y))) H
theorem uM{i j:Int}:decide (V.int i=V.int j)=(i == j):=by
 rw[Fk]
 simp
theorem w9{i j:Bool}:decide (V.bl i=V.bl j)=(i == j):=by
 rw[Fk]
 simp
theorem uZ{i j:Str}:decide (V.str i=V.str j)=(i == j):=by
 rw[Fk]
 simp
theorem Ej{i j:Array UInt8}:decide (V.byt i=V.byt j)=(i.toList == j.toList):=by
 rw[Fk]
 cases i
 cases j
 simp
section
variable {X : Cx} {a b c : Expr} {ta tb tc : TE} {pos : Pos}
theorem cH{Q:VK}{k J:Bool}(I:Inv X pins σ H s)(q:Q (.bl k) H)(e:k=J):EP X pins σ Q (.bool J) s:=by
 subst e
 exact⟨.bl k,H,I,rfl,q⟩
theorem Nh:OpR X (compareOp .Eq) rEq:=by
 intro pins s σ H x y v u Q I U J h
 obtain⟨hs,q⟩:=h
 cases x with
 | non=>
  cases U
  cases y with
  | non=>cases J;exact PySem.EqNone.eq_none_none (cH I q (by simp))
  | bl j=>cases J;exact PySem.EqNone.eq_none_bool (cH I q (by simp))
  | int j=>obtain⟨t',rfl⟩:=J;exact PySem.EqNone.eq_none_int (cH I q (by simp))
  | str j=>obtain⟨t',rfl⟩:=J;exact PySem.EqNone.eq_none_str (cH I q (by simp))
  | _=>exact absurd (show false=true from hs) ut
 | bl i=>
  cases U
  cases y with
  | non=>cases J;exact PySem.EqNone.eq_bool_none (cH I q (by simp))
  | bl j=>cases J;exact eq_bool (cH I q w9)
  | str j=>obtain⟨t',rfl⟩:=J;exact Sv (cH I q (by simp))
  | _=>exact absurd (show false=true from hs) ut
 | int i=>
  obtain⟨t,rfl⟩:=U
  cases y with
  | non=>cases J;exact PySem.EqNone.eq_int_none (cH I q (by simp))
  | int j=>obtain⟨t',rfl⟩:=J;exact eq_int (cH I q uM)
  | str j=>obtain⟨t',rfl⟩:=J;exact SA (cH I q (by simp))
  | _=>exact absurd (show false=true from hs) ut
 | str i=>
  obtain⟨t,rfl⟩:=U
  cases y with
  | non=>cases J;exact PySem.EqNone.eq_str_none (cH I q (by simp))
  | bl j=>cases J;exact Sw (cH I q (by simp))
  | int j=>obtain⟨t',rfl⟩:=J;exact SD (cH I q (by simp))
  | str j=>obtain⟨t',rfl⟩:=J;exact eq_str (cH I q uZ)
  | _=>exact absurd (show false=true from hs) ut
 | byt i=>
  obtain⟨t,rfl⟩:=U
  cases y with
  | byt j=>obtain⟨t',rfl⟩:=J;exact PySem.W.eq_bytes (cH I q Ej)
  | _=>exact absurd (show false=true from hs) ut
 | _=>cases y <;> exact absurd (show false=true from hs) ut
theorem Nt:OpR X (compareOp .NotEq) rNe:=by
 intro pins s σ H x y v u Q I U J h
 obtain⟨hs,q⟩:=h
 cases x with
 | non=>
  cases U
  cases y with
  | non=>cases J;exact PySem.EqNone.ne_none_none (cH I q (by simp))
  | bl j=>cases J;exact PySem.EqNone.ne_none_bool (cH I q (by simp))
  | int j=>obtain⟨t',rfl⟩:=J;exact PySem.EqNone.ne_none_int (cH I q (by simp))
  | str j=>obtain⟨t',rfl⟩:=J;exact PySem.EqNone.ne_none_str (cH I q (by simp))
  | _=>exact absurd (show false=true from hs) ut
 | bl i=>
  cases U
  cases y with
  | non=>cases J;exact PySem.EqNone.ne_bool_none (cH I q (by simp))
  | bl j=>cases J;exact ne_bool (cH I q (congrArg not w9))
  | str j=>obtain⟨t',rfl⟩:=J;exact Sx (cH I q (by simp))
  | _=>exact absurd (show false=true from hs) ut
 | int i=>
  obtain⟨t,rfl⟩:=U
  cases y with
  | non=>cases J;exact PySem.EqNone.ne_int_none (cH I q (by simp))
  | int j=>obtain⟨t',rfl⟩:=J;exact ne_int (cH I q (congrArg not uM))
  | str j=>obtain⟨t',rfl⟩:=J;exact SE (cH I q (by simp))
  | _=>exact absurd (show false=true from hs) ut
 | str i=>
  obtain⟨t,rfl⟩:=U
  cases y with
  | non=>cases J;exact PySem.EqNone.ne_str_none (cH I q (by simp))
  | bl j=>cases J;exact Sy (cH I q (by simp))
  | int j=>obtain⟨t',rfl⟩:=J;exact SF (cH I q (by simp))
  | str j=>obtain⟨t',rfl⟩:=J;exact ne_str (cH I q (congrArg not uZ))
  | _=>exact absurd (show false=true from hs) ut
 | byt i=>
  obtain⟨t,rfl⟩:=U
  cases y with
  | byt j=>obtain⟨t',rfl⟩:=J;exact PySem.W.ne_bytes (cH I q (congrArg not Ej))
  | _=>exact absurd (show false=true from hs) ut
 | _=>cases y <;> exact absurd (show false=true from hs) ut
theorem qN:OpR X (compareOp .Lt) (rI0 λi j=>.bl (decide (i<j))):=LP λ_ _ _ _ _ _ _ q=>lt_int q
theorem lu:OpR X (compareOp .Gt) (rI0 λi j=>.bl (decide (j<i))):=LP λ_ _ _ _ _ _ _ q=>gt_int q
theorem Mi:OpR X (compareOp .Is) (λx y H Q=>y=.non/\Q (.bl (decide (x=.non))) H):=by
 intro pins s σ H x y v u Q I J U h
 obtain⟨rfl,q⟩:=h
 cases U
 refine is_none_gen (cH I q ?_)
 cases x <;> first
  | (cases J;rfl)
  | (obtain⟨t,rfl⟩:=J;rfl)
theorem Lf:OpR X (compareOp .IsNot) (λx y H Q=>y=.non/\Q (.bl (!decide (x=.non))) H):=by
 intro pins s σ H x y v u Q I J U h
 obtain⟨rfl,q⟩:=h
 cases U
 refine isnot_none_gen (cH I q ?_)
 cases x <;> first
  | (cases J;rfl)
  | (obtain⟨t,rfl⟩:=J;rfl)
theorem OpR.or(h:OpR X f r)(h':OpR X f r'):OpR X f (λx y H Q=>r x y H Q\/r' x y H Q):=by
 intro pins s σ H x y v u Q I J U q
 rcases q with q | q
 ·exact h pins s σ H x y v u Q I J U q
 ·exact h' pins s σ H x y v u Q I J U q
theorem bY(b:Expr)(h:op≠ .In:=by decide)(h2:op≠ .NotIn:=by decide):behindInMarks op b=false:=by
 have e1:(op == CmpOp.In)=false:=by cases op <;> first | rfl | exact absurd rfl h
 have e2:(op == CmpOp.NotIn)=false:=by cases op <;> first | rfl | exact absurd rfl h2
 cases b <;> simp[behindInMarks,e1,e2]
theorem uK(J:OpR X (compareOp op) r)(ha:PE X a ta)(hb:PE X b tb)(hm:behindInMarks op b=false):PE X (.Compare a [op] [b] pos) (tOp r ta tb):=by
 intro pins s σ H Q I h
 exact wpAny_Compare1 (HC ha hb I h λv u s2 x y H2 U Y ry q=>J pins s2 σ H2 x y v u Q U Y ry q) hm
def EG(t:TE):TT:=λσ H Q=>t σ H λx H'=>∃k,x=.bl k/\Q k H'
theorem bC(J:OpR X (compareOp op) r)(ha:PE X a ta)(hb:PE X b tb)(hm:behindInMarks op b=false):PT X (.Compare a [op] [b] pos) (EG (tOp r ta tb)):=by
 intro pins s σ H Q I h
 refine wpAny_isTrue_Compare1 (thn (ha pins s σ H _ I h) λv s1 ⟨x,H1,I1,r1,q1⟩=>thn (hb pins s1 σ H1 _ I1 q1) λu s2 ⟨y,H2,I2,r2,q2⟩=>
  thn (J pins s2 σ H2 x y v u _ I2 r1 r2 q2) λc s3 ⟨z,H3,I3,r3,k,e,q3⟩=> ?_) hm
 subst e
 cases r3
 exact wpAny_truthy_bool ⟨H3,I3,q3⟩
def BV(r r':R2)(ta tb tc:TE):TE:=λσ H Q=>ta σ H λx H1=>tb σ H1 λy H2=>r x y H2 λz J=>∃k,z=.bl k/\
 (if k=true then tc σ J λU Y=>r' y U Y Q else Q (.bl false) J)
theorem HR {op J:CmpOp} (Y:OpR X (compareOp op) r) (U:OpR X (compareOp J) r') (ha:PE X a ta) (hb:PE X b tb) (hc:PE X c tc)
 (hm:lastMarks [op,J] [b,c]=false:=by with_unfolding_all rfl):PE X (.Compare a [op,J] [b,c] pos) (BV r r' ta tb tc):=by
 intro pins s σ H Q I h
 refine Compare_chain (thn (ha pins s σ H _ I h) λv s1 ⟨x,H1,I1,r1,q1⟩=>chain_link (thn (hb pins s1 σ H1 _ I1 q1) λu s2 ⟨y,H2,I2,r2,q2⟩=>
  thn (Y pins s2 σ H2 x y v u _ I2 r1 r2 q2) λd s3 ⟨z,H3,I3,r3,k,e,q3⟩=> ?_)) hm
 subst e
 cases r3
 refine wpAny_truthy_bool ?_
 cases k with
 | false=>exact ite_ff ⟨.bl false,H3,I3,rfl,q3⟩
 | true=>exact ite_tt (chain_last (thn (hc pins s3 σ H3 _ I3 q3) λw' s4 ⟨z',H4,I4,r4,q4⟩=>U pins s4 σ H4 y z' u w' Q I4 r2 r4 q4))
theorem IY {op J:CmpOp} (Y:OpR X (compareOp op) r) (U:OpR X (compareOp J) r') (ha:PE X a ta) (hb:PE X b tb) (hc:PE X c tc)
 (hm:lastMarks [op,J] [b,c]=false:=by with_unfolding_all rfl):PT X (.Compare a [op,J] [b,c] pos) (EG (BV r r' ta tb tc)):=by
 intro pins s σ H Q I h
 refine isTrue_chain (thn (ha pins s σ H _ I h) λv s1 ⟨x,H1,I1,r1,q1⟩=>test_link (thn (hb pins s1 σ H1 _ I1 q1) λu s2 ⟨y,H2,I2,r2,q2⟩=>
  thn (Y pins s2 σ H2 x y v u _ I2 r1 r2 q2) λd s3 ⟨z,H3,I3,r3,k,e,q3⟩=> ?_)) hm
 subst e
 cases r3
 refine wpAny_truthy_bool ?_
 cases k with
 | false=>
  obtain⟨k',e',q'⟩:=q3
  cases e'
  exact ite_ff ⟨H3,I3,q'⟩
 | true=>
  refine ite_tt (test_last (thn (hc pins s3 σ H3 _ I3 q3) λw' s4 ⟨z',H4,I4,r4,q4⟩=>thn (U pins s4 σ H4 y z' u w' _ I4 r2 r4 q4) λd' s5 ⟨z2,H5,I5,r5,k2,e2,q5⟩=> ?_))
  subst e2
  cases r5
  exact wpAny_truthy_bool ⟨H5,I5,q5⟩
def Hr(K:lm)(x:V)(H:Hp)(k:Bool):Prop:=
 match x with
 | .non=>k=false
 | .bl b=>k=b
 | .int i=>k=(i != 0)
 | .str y=>y.length<=sizeLine/\k=((y.length:Int) != 0)
 | .byt y=>y.size<=sizeLine/\k=((y.size:Int) != 0)
 | .ref p=>(∃xs,SqL K H p xs/\k= !xs.isEmpty)\/(∃xs,SqT K H p xs/\k= !xs.isEmpty)\/∃J,H p=some (.dK J)/\k= !J.isEmpty
 | _=>False
theorem EZ{κ:Type}{J:List (κ×V)}{vs:List (κ×Value)}(r:KV J vs):(!vs.isEmpty)= !J.isEmpty:=by
 cases r <;> rfl
theorem xQ{xs:List V}{J:List Value}(r:Vals xs J):(!J.toArray.isEmpty)= !xs.isEmpty:=by
 cases r <;> simp
theorem nY:(sizeLine:Nat)<2^63:=by rw[sizeLine_eq];decide
theorem MF:NZ X (λx H Q=>∃k,Hr X.K x H k/\Q k H):=by
 intro pins s σ H x v Q I Y h
 obtain⟨k,e,q⟩:=h
 have hl:=nY
 have hs:sizeLine=16777216:=sizeLine_eq
 cases x with
 | non=>
  cases Y
  have e':k=false:=e
  subst e'
  exact truthy_none ⟨H,I,q⟩
 | bl b=>
  cases Y
  have e':k=b:=e
  subst e'
  exact wpAny_truthy_bool ⟨H,I,q⟩
 | int i=>
  obtain⟨t,rfl⟩:=Y
  have e':k=(i != 0):=e
  subst e'
  exact PySem.P.truthy_int ⟨H,I,q⟩
 | str y=>
  obtain⟨t,rfl⟩:=Y
  obtain⟨hy,e'⟩:y.length<=sizeLine/\k=((y.length:Int) != 0):=e
  subst e'
  exact PySem.P.truthy_str (by omega) ⟨H,I.tok _,q⟩
 | byt y=>
  obtain⟨t,rfl⟩:=Y
  obtain⟨hy,e'⟩:y.size<=sizeLine/\k=((y.size:Int) != 0):=e
  subst e'
  exact PySem.W.truthy_bytes (by omega) ⟨H,I.tok _,q⟩
 | ref p=>
  cases Y
  have e':(∃xs,SqL X.K H p xs/\k= !xs.isEmpty)\/(∃xs,SqT X.K H p xs/\k= !xs.isEmpty)\/∃J,H p=some (.dK J)/\k= !J.isEmpty:=e
  rcases e' with⟨xs,hx,e'⟩ | ⟨xs,hx,e'⟩ | ⟨J,hx,e'⟩
  ·subst e'
   obtain⟨ab,r,pl,hz⟩:=I.list hx
   have U:=r.length
   exact wpAny_truthy_list pl.isList (by simp only[sK];omega) ⟨H,I.tok _,by rw[xQ r];exact q⟩
  ·subst e'
   obtain⟨ab,r,pl,hz⟩:=I.tuple hx
   have U:=r.length
   exact truthy_tuple pl (by simp only[sK];omega) ⟨H,I.tok _,by rw[xQ r];exact q⟩
  ·subst e'
   obtain⟨hz,hS,vs,r,m⟩:J.length<=sizeLine/\(p == sysModules)=false/\∃vs,KV J vs/\s.heap.DictOf (yO X.prog X.w) p vs:=I.hok p _ hx
   have U:J.length=vs.length:=Paired.length r
   exact wpAny_truthy_dict hS m (by omega) ⟨H,I.tok _,by rw[EZ r];exact q⟩
 | _=>exact(show False from e).elim
theorem Jt(ha:PE X a ta)(U:∀J,isTrue a X.env J=(do let v <- J;standAt a.pos;holding [v] (truthy v))):
 PT X a (λσ H Q=>ta σ H λx H'=>∃k,Hr X.K x H' k/\Q k H'):=by
 intro pins s σ H Q I h
 exact isTrue_plain (thn (ha pins s σ H _ I h) λv s1 ⟨x,H1,I1,r1,q1⟩=>MF pins s1 σ H1 x v Q I1 r1 q1) (U _)
theorem ED:OpR X (binaryOp .Add) (λx y H Q=>∃i j,x=.str i/\y=.str j/\i.length+j.length<=sizeLine/\Q (.str (i++j)) H):=by
 intro pins s σ H x y v u Q I J U h
 obtain⟨i,j,rfl,rfl,hz,q⟩:=h
 obtain⟨t,rfl⟩:=J
 obtain⟨t',rfl⟩:=U
 exact add_str (λt' tk=>⟨.str (i++j),H,I.tok _,⟨_,rfl⟩,q⟩) hz
theorem vals1{x:V}(r:Vals [x] us):∃u,us=[u]/\RelV x u:=by
 cases r with
 | cons J U=>cases U;exact⟨_,rfl,J⟩
theorem vals2{x y:V}(r:Vals [x,y] us):∃u J,us=[u,J]/\RelV x u/\RelV y J:=by
 cases r with
 | cons U Y=>
  cases Y with
  | cons r3 r4=>cases r4;exact⟨_,_,rfl,U,r3⟩
theorem BO:kQ X (.builtin "abs") (λxs H Q=>∃i,xs=[.int i]/\Q (.int (if i<0 then -i else i)) H):=by
 intro pins s σ H xs us Q I r h
 obtain⟨i,rfl,q⟩:=h
 obtain⟨u,rfl,t,rfl⟩:=vals1 r
 exact call_abs_int λu tk=>⟨.int (if i<0 then -i else i),H,I.tok _,⟨_,rfl⟩,q⟩
theorem o3(hc:X.calm=true):kQ X (.builtin "max") (λxs H Q=>∃i j,xs=[.int i,.int j]/\Q (.int (if j>i then j else i)) H):=by
 intro pins s σ H xs us Q I r h
 obtain⟨i,j,rfl,q⟩:=h
 obtain⟨u,U,rfl,⟨t,rfl⟩,⟨t',rfl⟩⟩:=vals2 r
 refine max_two_ints (I.ok.hd hc) λh' tk k=>⟨_,H,I.kept k, ?_,q⟩
 by_cases J:j>i
 ·rw[if_pos J,if_pos J];exact⟨_,rfl⟩
 ·rw[if_neg J,if_neg J];exact⟨_,rfl⟩
theorem tX:kQ X (.type "int") (λxs H Q=>(∃i,xs=[.int i]/\Q (.int i) H)\/∃k,xs=[.bl k]/\Q (.int (if k then 1 else 0)) H):=by
 intro pins s σ H xs us Q I r h
 rcases h with⟨i,rfl,q⟩ | ⟨k,rfl,q⟩
 ·obtain⟨u,rfl,t,rfl⟩:=vals1 r
  exact call_int_int ⟨.int i,H,I,⟨_,rfl⟩,q⟩
 ·obtain⟨u,rfl,J⟩:=vals1 r
  cases J
  exact call_int_bool ⟨.int (if k then 1 else 0),H,I.tok _,⟨_,rfl⟩,q⟩
def LA(K:lm)(x:V)(H:Hp)(n:Nat):Prop:=
 match x with
 | .str y=>y.length<=sizeLine/\n=y.length
 | .byt y=>y.size<=sizeLine/\n=y.size
 | .ref p=>(∃xs,SqL K H p xs/\n=xs.length)\/∃xs,SqT K H p xs/\n=xs.length
 | _=>False
theorem cX:kQ X (.builtin "len") (λxs H Q=>∃x n,xs=[x]/\LA X.K x H n/\Q (.int n) H):=by
 intro pins s σ H xs us Q I r h
 obtain⟨x,n,rfl,e,q⟩:=h
 obtain⟨u,rfl,U⟩:=vals1 r
 have hl:=nY
 have hs:sizeLine=16777216:=sizeLine_eq
 cases x with
 | str y=>
  obtain⟨t,rfl⟩:=U
  obtain⟨hy,e'⟩:y.length<=sizeLine/\n=y.length:=e
  subst e'
  exact len_str (by omega) ⟨.int _,H,I.tok _,⟨_,rfl⟩,q⟩
 | byt y=>
  obtain⟨t,rfl⟩:=U
  obtain⟨hy,e'⟩:y.size<=sizeLine/\n=y.size:=e
  subst e'
  exact PySem.W.len_bytes (by omega) ⟨.int _,H,I.tok _,⟨_,rfl⟩,q⟩
 | ref p=>
  cases U
  have e':(∃xs,SqL X.K H p xs/\n=xs.length)\/∃xs,SqT X.K H p xs/\n=xs.length:=e
  rcases e' with⟨xs,hx,e'⟩ | ⟨xs,hx,e'⟩
  ·subst e'
   obtain⟨Y,r',pl,hz⟩:=I.list hx
   have J:=r'.length
   exact Calls.call_len_list pl.isList (by simp only[sK];omega) ⟨.int xs.length,H,I.tok _,⟨_,by simp only[sK];rw[J]⟩,q⟩
  ·subst e'
   obtain⟨Y,r',pl,hz⟩:=I.tuple hx
   have J:=r'.length
   exact len_tuple pl (by simp only[sK];omega) ⟨.int xs.length,H,I.tok _,⟨_,by simp only[sK];rw[J]⟩,q⟩
 | _=>exact(show False from e).elim
end
structure wx(h:Heap)(x dx C:Addr)(mA:Str->Option Value):Prop where
 obj:h.get? x=some (Pz C dx)
 ns:h.Ns1 dx mA
 ne:dx≠x
theorem GD{dx:Addr}{mA:Str->Option Value}(n:h.Ns1 dx mA):∃U,h.get? dx=some U/\∀name,QW name U=some (mA name):=by
 obtain⟨o,es,ep,Y,hd,hk,_,hm⟩:=n
 refine⟨o,Y,λname=> ?_⟩
 have e:=hm name
 unfold nsFind findBy at e
 rw[<- Array.find?_toList] at e
 unfold QW
 rw[hd]
 dsimp only
 split
 ·rename_i y q
  rw[q] at e
  exact congrArg some e
 ·rename_i q
  rw[q] at e
  have a:es.toList.any (·.refKey)=false:=by
   rw[RV]
   intro y hy
   obtain⟨z,t,J⟩:=hk y (Array.mem_toList_iff.mp hy)
   simp[DictEntry.refKey,J]
  have a':¬es.toList.any (·.refKey)=true:=by rw[a];exact ut
  rw[if_neg a']
  exact congrArg some e
theorem wx.look{x dx C:Addr}{mA:Str->Option Value}(I:wx h x dx C mA):∃J,PySem.W.InstAt h x (Pz C dx) C (some J)/\∀name,QW name J=some (mA name):=
 let ⟨J,ho,hl⟩:=GD I.ns
 ⟨J,⟨I.obj,rfl,rfl,ho⟩,hl⟩
section
variable {prog : Program} {w : World} {A : Around} {E : Value → Shared → Prop} {s : Shared} {K : lm} {x dx C f : Addr} {mA : Str → Option Value} {name : Str} {v : Value}
theorem get_map {U:Bool} {Q:Value->Shared->Prop} (X:K.In s.heap) (I:wx s.heap x dx C mA) (hg:Qm K C name=true) (hh:Qy K C=true)
 (ha:xL K (.ref C) name=some none) (hv:mA name=some v) (Y:R5 v=true) (h:Q v {s with toks:=s.toks+1}):
 wpAny (model prog w) A (getAttr (.ref x) name U) Q E s:=by
 obtain⟨od,J,hl⟩:=I.look
 exact PySem.W.get_value X J (QU hg).1 (PySem.W.findObj_own hh ha rfl (by rw[hl,hv])) Y h
theorem IG {pl:Sem Bool} {Q:Value×List Value->Shared->Prop} (X:K.In s.heap) (I:wx s.heap x dx C mA) (U:Qm K C name=true)
 (Y:xL K (.ref C) name=some (some (.ref f))) (ht:Qh K (.ref f)=true) (hv:mA name=none) (h:Q (.ref f,[.ref x]) s):
 wpAny (model prog w) A (getMethod (.ref x) name pl) Q E s:=by
 obtain⟨od,J,hl⟩:=I.look
 exact PySem.W.method_fn X J (QU U).1 (QU U).2 Y (beq_iff_eq.mp ht) (by show (QW name od).map (·.isSome)=some false;rw[hl,hv];rfl) h
theorem Kp {ns:List Str} {Q:Unit->Shared->Prop} (X:K.In s.heap) (I:wx s.heap x dx C mA)
 (hs:xL K (.ref C) "__setattr__" =some (some (.builtin "object.__setattr__"))) (hp:Q7 K C=true) (ht:Ru K C name=some none) (hh:Qy K C=true)
 (hw:RK mA ns) (a1:ns.length<=sizeLine)
 (h:∀h',wx h' x dx C (λy=>if y=name then some v else mA y)->Heap.SameBut dx s.heap h'->Q () {s with heap:=h',toks:=s.toks+2}):
 wpAny (model prog w) A (setAttr (.ref x) name v) Q E s:=by
 obtain⟨od,J,hl⟩:=I.look
 refine PySem.W.set_plain X J hs (PySem.W.osa_open (s:={s with toks:=s.toks+1}) (r:=none) X J hp ht λb=> ?_)
 obtain⟨cd,hc,ab⟩:=PySem.W.any_some hh
 have hx:s.heap.get? x=some ⟨.ref C,some dx,.plain,#[]⟩:=I.obj
 refine wpAny_bind (wpAny_pure (wpAny_bind (wpAny_bind (wpAny_loadPart hx (wpAny_bind (SJ (s:={s with toks:=s.toks+1}) (PySem.W.looks_clsIn X hc) ?_))))))
 rw[ab]
 refine wpAny_pure (a:=some dx) (wpAny_bind (wpAny_pure (wpAny_bind ?_)))
 refine wpAny_nsSet1 (s:={s with toks:=s.toks+1}) I.ns λh' U Y=> ?_
 obtain⟨oD,a2,a3,ac,am,an⟩:=U.count (PySem.Within.cons name v hw)
 refine wpAny_bind (wpAny_lookBehind ac (by rw[am];exact pastItsLine_dict (yB an (by rw[tz];omega))) ?_)
 exact wpAny_pure (h _ ⟨(Y.2 _ (QH I.ne)).trans I.obj,U,I.ne⟩ Y)
theorem Jy {R:Result->Shared->Prop} {vs:List Value} {kw:List (Str×Value)} (X:K.In s.heap) (hm:Rv K C=true)
 (hi:xL K (.ref C) "__init__" =some (some (.ref f))) (J:PySem.W.typeIn K (.ref f)=some (.type "function"))
 (h:codeAny (model prog w) (A.under (.builtin "type.__call__" ⟨.ref C::vs,kw⟩)) (.call (.ref f) ⟨.ref (s.heap.objs.size+1)::vs,kw⟩) (PySem.W.InitBack (s.heap.objs.size+1) R)
  {s with heap:=(s.heap.push GK).push (Pz C s.heap.objs.size)}):
 codeAny (model prog w) A (.call (.ref C) ⟨vs,kw⟩) R s:=by
 obtain⟨U,g,d,t,os⟩:=s
 exact PySem.W.make_core (PySem.W.makes_of X hm) (PySem.W.looks_findIn X hi) (λself=>PySem.W.bind_fn X self J) (.inl rfl) h
end
def i3(f:Str)(v:V):List (Str×V)->List (Str×V)
 | []=>[(f,v)]
 | (g,x)::r=>if g=f then (g,v)::r else (g,x)::i3 f v r
theorem vy(f g:Str)(v:V):∀fs:List (Str×V),(i3 f v fs).lookup g=if g=f then some v else fs.lookup g
 | []=>by
  show Qc g [(f,v)]=_
  by_cases h:g=f
  ·have hb:(g == f)=true:=beq_iff_eq.mpr h
   simp only[Qc,hb,if_pos h]
  ·have hb:(g == f)=false:=beq_eq_false_iff_ne.mpr h
   simp only[Qc,hb,if_neg h]
 | (k,x)::r=>by
  have J:=vy f g v r
  rw[show i3 f v ((k,x)::r)=(if k=f then (k,v)::r else (k,x)::i3 f v r) from rfl]
  by_cases hk:k=f
  ·rw[if_pos hk]
   by_cases h:g=k
   ·have hb:(g == k)=true:=beq_iff_eq.mpr h
    simp only[Qc,hb,if_pos (h.trans hk)]
   ·have hb:(g == k)=false:=beq_eq_false_iff_ne.mpr h
    simp only[Qc,hb,if_neg (λe:g=f=>h (e.trans hk.symm))]
  ·rw[if_neg hk]
   by_cases h:g=k
   ·have hb:(g == k)=true:=beq_iff_eq.mpr h
    simp only[Qc,hb,if_neg (λe:g=f=>hk (h.symm.trans e))]
   ·have hb:(g == k)=false:=beq_eq_false_iff_ne.mpr h
    simp only[Qc,hb]
    exact J
theorem tw(f:Str)(v:V):∀fs:List (Str×V),f∈(i3 f v fs).map (·.1)/\∀g,g∈fs.map (·.1)->g∈(i3 f v fs).map (·.1)
 | []=>⟨by simp[i3],λg h=>by simp at h⟩
 | (k,x)::r=>by
  obtain⟨J,U⟩:=tw f v r
  rw[show i3 f v ((k,x)::r)=(if k=f then (k,v)::r else (k,x)::i3 f v r) from rfl]
  by_cases hk:k=f
  ·rw[if_pos hk]
   subst hk
   exact⟨by simp,λg h=>by simpa using h⟩
  ·rw[if_neg hk]
   refine⟨?_,λg h=> ?_⟩
   ·rw[sH]
    exact ol _ J
   ·rw[sH] at h ⊢
    rcases sn.mp h with e | e
    ·exact sn.mpr (.inl e)
    ·exact ol _ (U g e)
theorem vO(f:Str)(v:V):∀fs:List (Str×V),(i3 f v fs).length<=fs.length+1
 | []=>by simp[i3]
 | (k,x)::r=>by
  have J:=vO f v r
  rw[show i3 f v ((k,x)::r)=(if k=f then (k,v)::r else (k,x)::i3 f v r) from rfl]
  by_cases hk:k=f
  ·rw[if_pos hk,tz,tz];omega
  ·rw[if_neg hk,tz,tz];omega
theorem pJ.some_of{o:Option Value}(r:pJ (some v) o):∃u,o=some u/\RelV v u:=by
 cases o with
 | none=>exact(show False from r).elim
 | some u=>exact⟨u,rfl,r⟩
theorem pJ.none_of{o:Option Value}(r:pJ none o):o=none:=by
 cases o with
 | none=>rfl
 | some u=>exact(show False from r).elim
theorem FF(r:RelV v u):R5 u=true:=by
 cases v with
 | non=>cases (show u=Value.none from r);rfl
 | bl b=>cases (show u=Value.bool b from r);rfl
 | int i=>obtain⟨t,e⟩:=(show ∃t,u=Value.int i t from r);cases e;rfl
 | str x=>obtain⟨t,e⟩:=(show ∃t,u=Value.str x t from r);cases e;rfl
 | byt b=>obtain⟨t,e⟩:=(show ∃t,u=Value.bytes b t from r);cases e;rfl
 | flt b=>obtain⟨t,e⟩:=(show ∃t,u=Value.float b t from r);cases e;rfl
 | ref a=>cases (show u=Value.ref a from r);rfl
 | ty n=>cases (show u=Value.type n from r);rfl
section
variable {P : Program} {w : World} {H H' : Hp} {h h' : Heap} {a C dx : Addr} {fs fs' : List (Str × V)}
theorem yu(J:HOk P w H h)(e:H a=some (.ins C dx fs)):∃mA,wx h a dx C mA/\(∀f,pJ (fs.lookup f) (mA f))/\RK mA (fs.map (·.1))/\fs.length<=1000/\H dx=some (.own a):=by
 obtain⟨d,z,ne,U,mA,n,r,q⟩:=(show gR P w H h a (.ins C dx fs) from J a _ e)
 exact⟨mA,⟨U,n,ne⟩,r,q,z,d⟩
end
structure Cls(K:lm)(C:Addr):Prop where
 pg:Qm K C Str.empty=true
 hd:Qy K C=true
 po:Q7 K C=true
 sa:xL K (.ref C) "__setattr__" =some (some (.builtin "object.__setattr__"))
theorem Cls.get(c:Cls K C)(f:Str):Qm K C f=true:=c.pg
def fK(K:lm)(C:Addr)(f:Str):Prop:=xL K (.ref C) f=some none
theorem fK.taker{f:Str}(n:fK K C f):Ru K C f=some none:=by
 unfold Ru
 rw[show xL K (.ref C) f=some none from n]
 rfl
structure Con(K:lm)(C:Addr)(f:Str)(v:V)(u:Value):Prop where
 at_:xL K (.ref C) f=some (some u)
 rel:RelV v u
 get:RW K u "__get__" =some none
 cp:PySem.W.copiedNames.contains f=false
structure Meth(K:lm)(C:Addr)(m:Str)(f:Addr):Prop where
 at_:xL K (.ref C) m=some (some (.ref f))
 fn:Qh K (.ref f)=true
 kp:Do K (.ref f)=true
section
variable {X : Cx} {pins : List (Addr × Obj)} {σ : St} {H : Hp} {s : Shared} {a C dx : Addr} {fs : List (Str × V)} {f : Str} {v : V} {A : Around} {E : Value → Shared → Prop}
theorem Fs {b:Bool} {Q:Value->Shared->Prop} (I:Inv X pins σ H s) (e:H a=some (.ins C dx fs)) (c:Cls X.K C) (n:fK X.K C f) (l:fs.lookup f=some v)
 (h:∀u s',Inv X pins σ H s'->RelV v u->Q u s'):wpAny (model X.prog X.w) A (getAttr (.ref a) f b) Q E s:=by
 obtain⟨mA,O,r,_,_,_⟩:=yu I.hok e
 obtain⟨u,hu,J⟩:=pJ.some_of (v:=v) (o:=mA f) (by rw[<- l];exact r f)
 exact get_map I.kIn O (c.get f) c.hd n hu (FF J) (h u _ (I.tok _) J)
theorem rC {m:Str} {g:Addr} {pl:Sem Bool} {Q:Value×List Value->Shared->Prop} (I:Inv X pins σ H s) (e:H a=some (.ins C dx fs)) (c:Cls X.K C) (k:Meth X.K C m g) (l:fs.lookup m=none)
 (h:Q (.ref g,[.ref a]) s):wpAny (model X.prog X.w) A (getMethod (.ref a) m pl) Q E s:=by
 obtain⟨mA,O,r,_,_,_⟩:=yu I.hok e
 have hn:mA m=none:=pJ.none_of (by rw[<- l];exact r m)
 exact IG I.kIn O (c.get m) k.at_ k.fn hn h
theorem EJ {y:V} {Q:Unit->Shared->Prop} (I:Inv X pins σ H s) (e:H a=some (.ins C dx fs)) (c:Cls X.K C) (n:fK X.K C f) (hl:fs.length<1000) (U:RelV y u)
 (h:∀s',Inv X pins σ (upd H a (.ins C dx (i3 f y fs))) s'->Q () s'):wpAny (model X.prog X.w) A (setAttr (.ref a) f u) Q E s:=by
 obtain⟨mA,O,r,wi,_,J⟩:=yu I.hok e
 have hz:(fs.map (·.1)).length<=sizeLine:=by rw[nW,sizeLine_eq];omega
 refine Kp I.kIn O c.sa c.po n.taker c.hd wi hz λh' O' Y=>h _ ?_
 have hd:∃o,h'.get? dx=some o:=let ⟨o,_,_,e',_⟩:=O'.ns;⟨o,e'⟩
 refine I.write (x:=a) (e:=dx) (by rw[e];exact QK) (.inr J) (λb q hb z=>(Y.2 b hb).trans z) hd ?_
 refine⟨by rw[aT O.ne];exact J, ?_,O.ne,O'.obj,_,O'.ns,λg=> ?_,λg hg=> ?_⟩
 ·have:=vO f y fs;omega
 ·show pJ ((i3 f y fs).lookup g) (if g=f then some u else mA g)
  rw[vy]
  by_cases q:g=f
  ·rw[if_pos q,if_pos q];exact U
  ·rw[if_neg q,if_neg q];exact r g
 ·by_cases q:g=f
  ·rw[q];exact(tw f y fs).1
  ·refine(tw f y fs).2 g (wi g λz=>hg ?_)
   show (if g=f then some u else mA g)=none
   rw[if_neg q];exact z
theorem Inv.made(I:Inv X pins σ H s):Inv X pins σ (upd (upd H s.heap.objs.size (.own (s.heap.objs.size+1))) (s.heap.objs.size+1) (.ins C s.heap.objs.size []))
 {s with heap:=(s.heap.push GK).push (Pz C s.heap.objs.size)}:=by
 have e1:(s.heap.push GK).get? s.heap.objs.size=some GK:=Heap.get?_push_size s.heap rfl
 have e2:((s.heap.push GK).push (Pz C s.heap.objs.size)).get? (s.heap.objs.size+1)=some (Pz C s.heap.objs.size):=by
  have:=Heap.get?_push_size (s.heap.push GK) (o:=Pz C s.heap.objs.size) rfl
  rwa [Heap.size_push] at this
 have e3:(s.heap.push GK).Ns s.heap.objs.size (λ_=>none):=⟨GK,#[],_,e1,rfl,(λe J=>absurd J (by simp)),λ_=>rfl⟩
 have U:=I.laid (a:=s.heap.objs.size) (o:=.own (s.heap.objs.size+1)) (h':=s.heap.push GK) (t':=s.toks) (λb u q=>Heap.get?_push_of_some _ q) (qh _) ⟨_,e1⟩
 refine U.laid (a:=s.heap.objs.size+1) (o:=.ins C s.heap.objs.size []) (t':=s.toks) (λb u q=>Heap.get?_push_of_some _ q) (Nat.le_of_eq (Heap.size_push _ _)) ?_
 have ne:s.heap.objs.size≠s.heap.objs.size+1:=wS (QE _)
 refine⟨by rw[aT ne,cO],Bs _,ne,e2,λ_=>none,(Heap.Ns1.of_empty e3).at λo q=>Heap.get?_push_of_some _ q,λ_=>QK,λy hy=>absurd rfl hy⟩
theorem Kf {prog:Program} {w:World} {env:Env} {f:Str} {pos:Pos} {s:Shared} {Q:Value->Shared->Prop} (hb:attributeBase e f env (eval e env)=eval e env)
 (h:wpAny (model prog w) A (eval e env) (λo J=>wpAny (model prog w) A (getAttr o f true) Q E J) E s):wpAny (model prog w) A (eval (.Attribute e f pos) env) Q E s:=
 Attribute_any_ h (by rw[arm_eval_Attribute,hb])
end
def LB(K:lm)(ta:TE)(f:Str):TE:=λσ H Q=>ta σ H λx H1=>∃a C dx fs v,x=.ref a/\H1 a=some (.ins C dx fs)/\Cls K C/\fK K C f/\fs.lookup f=some v/\Q v H1
def MB(K:lm)(ta tv:TE)(f:Str):TS:=λD σ H=>tv σ H λy H1=>ta σ H1 λx H2=>∃a C dx fs,x=.ref a/\H2 a=some (.ins C dx fs)/\Cls K C/\fK K C f/\fs.length<1000/\
 D.nx σ (upd H2 a (.ins C dx (i3 f y fs)))
section
variable {X : Cx} {o e value : Expr} {f : Str} {pos pos' tpos : Pos} {ta tv : TE}
theorem Cs(J:PE X e ta)(hb:attributeBase e f X.env (eval e X.env)=eval e X.env):PE X (.Attribute e f pos) (LB X.K ta f):=by
 intro pins s σ H Q I h
 refine Kf hb (thn (J pins s σ H _ I h) λu s1 ⟨x,H1,I1,rx,a,C,dx,fs,v,ex,ea,c,n,l,q⟩=> ?_)
 subst ex
 obtain rfl:u=Value.ref a:=rx
 exact Fs I1 ea c n l λu' s2 U Y=>⟨v,H1,U,Y,q⟩
theorem Cy(ha:PE X o ta)(J:PE X value tv)(hs:swapsWith value (some (.Attribute o f pos')) pos.line X.env=pure false):PS X (.Assign [.Attribute o f pos'] value pos) (MB X.K ta tv f):=by
 intro pins s σ H D I h
 refine plainObj_wpAny_Assign_Attribute (thn (J pins s σ H _ I h) λu s1 ⟨y,H1,I1,ry,q⟩=>thn (ha pins s1 σ H1 _ I1 q) λov s2 ⟨x,H2,I2,rx,a,C,dx,fs,ex,ea,c,n,l,q2⟩=> ?_) hs
 subst ex
 obtain rfl:ov=Value.ref a:=rx
 exact EJ I2 ea c n l ry λY U=>⟨σ,_,U,q2⟩
theorem MY {pl:Sem Bool} {m:Str} {apos:Pos} {args:List Expr} {Q:Value->Shared->Prop} (U:PE X e te) (I:Inv X pins σ H s)
 (h:te σ H λx H1=>∃a C dx fs g,x=.ref a/\H1 a=some (.ins C dx fs)/\Cls X.K C/\Meth X.K C m g/\fs.lookup m=none/\
  ∀s1,Inv X pins σ H1 s1->wpAny (model X.prog X.w) X.A (callWith pos (.ref g) [.ref a] (backTo pos (starEach args X.env)) (backToKw pos (keywordEach [] X.env))) Q X.xe s1)
 (Y:eval (.Call (.Attribute e m apos) args [] pos) X.env=(do
  let J <- eval e X.env
  standAt apos.atName
  let (f,first) <- holding [J] (getMethod J m pl)
  callWith pos f first (backTo pos (starEach args X.env)) (backToKw pos (keywordEach [] X.env)))):
 wpAny (model X.prog X.w) X.A (eval (.Call (.Attribute e m apos) args [] pos) X.env) Q X.xe s:=by
 refine QI (pl:=pl) (thn (U pins s σ H _ I h) λu s1 ⟨x,H1,I1,rx,a,C,dx,fs,g,ex,ea,c,k,l,q⟩=> ?_) Y
 subst ex
 obtain rfl:u=Value.ref a:=rx
 exact rC I1 ea c k l (q s1 I1)
end
section
variable {X : Cx} {pins : List (Addr × Obj)} {σ : St} {H : Hp} {s : Shared} {A : Around} {E : Value → Shared → Prop} {Q : Value → Shared → Prop} {c : Value} {b : Bool}
inductive oF (K:lm) (H:Hp):V->Value->Prop where
 | non:oF K H .non (.type "NoneType")
 | bl (x:Bool):oF K H (.bl x) (.type "bool")
 | int (i:Int):oF K H (.int i) (.type "int")
 | str (x:Str):oF K H (.str x) (.type "str")
 | flt (x:UInt64):oF K H (.flt x) (.type "float")
 | lst {a:Addr} {xs:List V} (e:H a=some (.lst xs)):oF K H (.ref a) (.type "list")
 | frz {a:Addr} {o:Obj} {xs:List V} (e:H a=some (.frz o (.lst xs))):oF K H (.ref a) (.type "list")
 | tup {a:Addr} {xs:List V} (e:H a=some (.tup xs)):oF K H (.ref a) (.type "tuple")
 | dK {a:Addr} {kvs:List (Key×V)} (e:H a=some (.dK kvs)):oF K H (.ref a) (.type "dict")
 | dT {a:Addr} {kvs:List (List Key×V)} (e:H a=some (.dT kvs)):oF K H (.ref a) (.type "dict")
 | ins {a C dx:Addr} {fs:List (Str×V)} (e:H a=some (.ins C dx fs)) (cl:Cls K C) (ha:xL K (.ref C) "__class__" =some (some (.builtin "object.__class__")))
  (hn:RW K (.builtin "object.__class__") "__get__" =some (some (.builtin "getset_descriptor.__get__"))) (htk:PySem.W.takesIn K (.builtin "object.__class__")=some true)
  (hm:PySem.W.mroIn K C (.type "object")=some true):oF K H (.ref a) (.ref C)
end
structure fb(k:Nat)(A:Around):Prop where
 hd:A.handled=none
 dp:A.depth+3*k+5<recursionLimit
 un:A.units+16*k+200<cLine
theorem fb.mono{j k:Nat}(r:fb k A)(h:j<=k):fb j A:=⟨r.hd,by have:=r.dp;omega,by have:=r.un;omega⟩
theorem fb.deeper(r:fb (k+1) A)(env:Env):fb k (A.deeper env):=
 ⟨r.hd,by have:=r.dp;show A.depth+1+3*k+5<_;omega,by have:=r.un;show A.units+3+16*k+200<_;omega⟩
theorem EE:(A.under (.builtin "type.__call__" ⟨.ref C::us,kw⟩)).depth=A.depth+1:=by
 first | rfl | simp[Around.under,Code.weight,Code.isCreation,Code.isGuard,Code.isCaller,Code.frames,Code.isFrame,guardIds]
theorem Fb:(A.under (.builtin "type.__call__" ⟨.ref C::us,kw⟩)).units=A.units+1:=by
 first | rfl | simp[Around.under,Code.cUnits,Code.frames,Code.isFrame]
theorem fb.make(r:fb (k+1) A)(C:Addr)(us:List Value)(kw:List (Str×Value)):fb k (A.under (.builtin "type.__call__" ⟨.ref C::us,kw⟩)):=
 ⟨r.hd,by have:=r.dp;rw[EE];omega,by have:=r.un;rw[Fb];omega⟩
theorem fb.depth(r:fb k A):A.depth<recursionLimit:=by have:=r.dp;omega
theorem fb.units(r:fb k A):A.units+64<cLine:=by have:=r.un;omega
def mX:TA:=λ_ H Q=>Q [] H
def jT(ta:TE)(J:TA):TA:=λσ H Q=>ta σ H λx H1=>J σ H1 λxs H2=>Q (x::xs) H2
section
variable {X : Cx} {e : Expr} {es : List Expr} {te : TE} {t : TA} {pos : Pos}
theorem ar:PA X [] mX:=λ_ _ _ _ H Q I h=>Calls.spliced_nil ⟨[],H,I,.nil,h⟩
theorem ah(ha:PE X e te)(hr:PA X es t)(hs:starEach (e::es) X.env=(false,eval e X.env)::starEach es X.env:=by rfl):PA X (e::es) (jT te t):=by
 intro pos pins s σ H Q I h
 rw[hs]
 show wpAny _ _ (spliced ((false,eval e X.env)::backTo pos (starEach es X.env))) _ _ s
 refine Calls.spliced_cons (thn (ha pins s σ H _ I h) λu s1 ⟨x,H1,I1,r1,q1⟩=> ?_)
 exact thn (hr pos pins s1 σ H1 _ I1 q1) λus s2 ⟨xs,H2,I2,r2,q2⟩=>⟨x::xs,H2,I2,.cons r1 r2,q2⟩
def LJ(t:TA):TE:=λσ H Q=>t σ H λxs H1=>xs.length<=sizeLine/\∀p,H1 p=none->Q (.ref p) (upd H1 p (.tup xs))
def Cw(t:TA):TE:=λσ H Q=>t σ H λxs H1=>xs.length<=sizeLine/\∀p,H1 p=none->Q (.ref p) (upd H1 p (.lst xs))
theorem lG{x1}(h:PA X es t):PE X (.Tuple es x1 pos) (LJ t):=by
 intro pins s σ H Q I hq
 refine wpAny_Tuple_spliced (thn (h pos pins s σ H _ I hq) λus s1 ⟨xs,H1,I1,r,z,q⟩=>⟨by rw[<- r.length];exact z, ?_⟩)
 have J:H1 s1.heap.objs.size=none:=I1.hok.fresh (qh _)
 refine⟨.ref s1.heap.objs.size,upd H1 s1.heap.objs.size (.tup xs),I1.laid (t':=s1.toks) (λb u e=>Heap.get?_push_of_some _ e) (qh _) ?_,rfl,q _ J⟩
 exact⟨z,us,r,⟨_,Heap.get?_push_size _ rfl,rfl,_,rfl⟩⟩
theorem eZ(h:PA X es t):PE X (.List es pos) (Cw t):=by
 intro pins s σ H Q I hq
 refine wpAny_List_spliced (thn (h pos pins s σ H _ I hq) λus s1 ⟨xs,H1,I1,r,z,q⟩=>⟨by rw[<- r.length];exact z, ?_⟩)
 have J:H1 s1.heap.objs.size=none:=I1.hok.fresh (qh _)
 refine⟨.ref s1.heap.objs.size,upd H1 s1.heap.objs.size (.lst xs),I1.laid (t':=s1.toks) (λb u e=>Heap.get?_push_of_some _ e) (qh _) ?_,rfl,q _ J⟩
 exact⟨z,us,0,r,Heap.get?_push_size _ rfl⟩
end
abbrev Sp:=List V->Hp->VK->XK->Prop
abbrev CXT:=List Env->Hp->Shared->XK->Value->Shared->Prop
structure sV(P:Program)(w:World)(K:lm)(mg:Str->Option Value)(base:Heap)(A:Around)(outer:List Env)(s:Shared)(H:Hp):Prop where
 frames:A.frames=some outer
 mod:Mod K mg base
 bs:∀b o,base.get? b=some o->s.heap.get? b=some o/\H b=none
 bsz:base.objs.size<=s.heap.objs.size
 funs:s.heap.FunFrames base outer
 frf:∀b∈frs outer,H b=none
 hok:HOk P w H s.heap
 bare:AllBare s.gens
def CE(outer:List Env)(P:Program)(w:World)(H:Hp)(s:Shared)(Q:VK)(u:Value)(s':Shared):Prop:=
 ∃v H',s'.os=s.os/\AllBare s'.gens/\Un (frs outer) [] H H' s.heap s'.heap/\HOk P w H' s'.heap/\RelV v u/\Q v H'
def CR(CX:CXT)(outer:List Env)(P:Program)(w:World)(H:Hp)(s:Shared)(Q:VK)(E:XK)(r:Result)(s':Shared):Prop:=
 match r with
 | .ok (.ret u)=>CE outer P w H s Q u s'
 | .ok _=>False
 | .error e=>CX outer H s E e s'
structure jX(P:Program)(w:World)(K:lm)(mg:Str->Option Value)(base:Heap)(CX:CXT)(k:Nat)(f:Addr)(fd:FuncData)(ps:List Str)(sp:Sp):Prop where
 len:∀vs H Q E,sp vs H Q E->vs.length=ps.length
 run:∀(A:Around) (outer:List Env) (s:Shared) (H:Hp) (args:Args) (us:List Value) (vs:List V) (Q:VK) (E:XK),fb k A->sV P w K mg base A outer s H->BindsTo s fd args (ps.zip us)->Vals vs us->sp vs H Q E->
  codeAny (model P w) A (.call (.ref f) args) (CR CX outer P w H s Q E) s
theorem sV.make{outer:List Env}(e:sV P w K mg base A outer s H)(C:Addr)(us:List Value)(kw:List (Str×Value)):
 sV P w K mg base (A.under (.builtin "type.__call__" ⟨.ref C::us,kw⟩)) outer s H:=⟨by first | exact e.frames | (simpa[Around.under,Code.envs,Code.isFrame,pushEnvs] using e.frames),e.mod,e.bs,e.bsz,e.funs,e.frf,e.hok,e.bare⟩
section
variable {X : Cx} {pins : List (Addr × Obj)} {σ : St} {H : Hp} {s s' : Shared}
theorem Inv.env0(I:Inv X pins σ H s):sV X.prog X.w X.K X.mg X.base X.A X.stack s H:=
 ⟨I.ok.frames,I.ok.mod,I.bs,yB I.ok.bsz I.sz,I.stack,I.stkFree,I.hok,I.bare⟩
theorem Inv.after{Q:VK}(I:Inv X pins σ H s)(h:CE X.stack X.prog X.w H s Q u s'):EP X pins σ Q u s':=by
 obtain⟨v,H',os,J,un,U,r,q⟩:=h
 obtain⟨hh,g,d,t,Y⟩:=s'
 obtain rfl:Y=s.os:=os
 exact⟨v,H',I.call (h':=hh) (g':=g) (d':=d) (t':=t) (ch:=[]) un U J (λb z=>absurd z (by simp)),r,q⟩
end
def sm(sp:Sp)(dvs:List V)(E:XK)(t:TA):TE:=λσ H Q=>t σ H λvs H1=>sp (vs++dvs) H1 Q E
def Fm(C:Addr)(m:Str)(sp:Sp)(dvs:List V)(E:XK)(ta:TE)(t:TA):TE:=λσ H Q=>ta σ H λx H1=>∃a dx fs,x=.ref a/\H1 a=some (.ins C dx fs)/\fs.lookup m=none/\
 t σ H1 λvs H2=>sp (x::(vs++dvs)) H2 Q E
def JK(C:Addr)(sp:Sp)(dvs:List V)(E:XK)(t:TA):TE:=λσ H Q=>t σ H λvs H1=>∀x dx,H1 x=none->H1 dx=none->dx≠x->
 sp (.ref x::(vs++dvs)) (upd (upd H1 dx (.own x)) x (.ins C dx [])) (λv H2=>v=.non/\Q (.ref x) H2) E
def Binds(K:lm)(fd:FuncData)(ps:List Str)(ds:List Value):Prop:=
 ∀(s:Shared) (us:List Value),K.In s.heap->(us++ds).length=ps.length->BindsTo s fd ⟨us,[]⟩ (ps.zip (us++ds))
theorem Binds.all{fd:FuncData}{ps:List Str}(h:∀us:List Value,us.length=ps.length->bindArgs fd ⟨us,[]⟩=pure (ps.zip us)):Binds K fd ps []:=λs us _ J=>by
 rw[PB] at J ⊢
 exact .of_eq (h us J)
def Passes(CX:CXT)(X:Cx)(E:XK):Prop:=∀(pins:List (Addr×Obj)) (σ:St) (H:Hp) (s:Shared) (e:Value) (s':Shared),Inv X pins σ H s->CX X.stack H s E e s'->X.xe e s'
section
variable {X : Cx} {CX : CXT} {k : Nat} {f C : Addr} {fd : FuncData} {ps : List Str} {sp : Sp} {dvs : List V} {ds : List Value} {E : XK} {x m : Str} {p pos apos : Pos} {e o : Expr} {es : List Expr} {ta : TE} {t : TA}
theorem A7 {pins:List (Addr×Obj)} {σ:St} {H:Hp} {s:Shared} {Q:VK} {us:List Value} {vs:List V} (F:jX X.prog X.w X.K X.mg X.base CX k f fd ps sp) (hr:fb k X.A) (hb:Binds X.K fd ps ds) (hd:Vals dvs ds) (hx:Passes CX X E)
 (I:Inv X pins σ H s) (r:Vals vs us) (h:sp (vs++dvs) H Q E):wpAny (model X.prog X.w) X.A (call (.ref f) us) (EP X pins σ Q) X.xe s:=by
 have J:Vals (vs++dvs) (us++ds):=r.append hd
 have U:(us++ds).length=ps.length:=by rw[<- J.length];exact F.len _ _ _ _ h
 refine wpAny_call (codeAny_mono (F.run X.A X.stack s H ⟨us,[]⟩ (us++ds) (vs++dvs) Q E hr I.env0 (hb s us I.kIn U) J h) λr s' hq=> ?_)
 cases r with
 | error e=>exact hx pins σ H s e s' I hq
 | ok Y=>
  cases Y with
  | ret u=>exact I.after hq
  | next=>exact lc hq
  | brk=>exact lc hq
  | cont=>exact lc hq
theorem Lc (F:jX X.prog X.w X.K X.mg X.base CX k f fd ps sp) (hr:fb k X.A) (Y:Gl X x) (hm:X.mg x=some (.ref f)) (hk:Do X.K (.ref f)=true) (hb:Binds X.K fd ps ds) (hd:Vals dvs ds) (hx:Passes CX X E)
 (ha:PA X (e::es) t) (J:(x == ("__debug__" :Str))=false:=by decide) (he:starEach (e::es) X.env=(false,eval e X.env)::starEach es X.env:=by rfl) (U:(backTo pos (starEach es X.env)).any (·.1)=false:=by rfl):
 PE X (.Call (.Name x p) (e::es) [] pos) (sm sp dvs E t):=by
 intro pins s σ H Q I h
 refine wpAny_Call_Name_kw (yQ I Y hm ?_ J)
 refine Q0 (h₀:=X.base) I.ok.mod.kin hk (thn (ha pos pins s σ H _ I h) λus s1 ⟨vs,H1,I1,r,q⟩=>⟨I1.kIn, ?_⟩) he U
 exact A7 F hr hb hd hx I1 r q
theorem Kj {pl:Sem Bool} (he:PE X o ta) (c:Cls X.K C) (hm:Meth X.K C m f) (F:jX X.prog X.w X.K X.mg X.base CX k f fd ps sp) (hr:fb k X.A) (hb:Binds X.K fd ps ds) (hd:Vals dvs ds) (hx:Passes CX X E) (ha:PA X (e::es) t)
 (J:starEach (e::es) X.env=(false,eval e X.env)::starEach es X.env:=by rfl) (U:(backTo pos (starEach es X.env)).any (·.1)=false:=by rfl)
 (ht:eval (.Call (.Attribute o m apos) (e::es) [] pos) X.env=(do
  let Y <- eval o X.env
  standAt apos.atName
  let (f,first) <- holding [Y] (getMethod Y m pl)
  callWith pos f first (backTo pos (starEach (e::es) X.env)) (backToKw pos (keywordEach [] X.env))):=by rfl):
 PE X (.Call (.Attribute o m apos) (e::es) [] pos) (Fm C m sp dvs E ta t):=by
 intro pins s σ H Q I h
 refine QI (pl:=pl) (thn (he pins s σ H _ I h) λu s1 ⟨x,H1,I1,rx,a,dx,fs,ex,ea,l,q⟩=> ?_) ht
 subst ex
 obtain rfl:u=Value.ref a:=rx
 refine rC I1 ea c hm l ?_
 refine Q0 (first:=[.ref a]) (h₀:=X.base) I.ok.mod.kin hm.kp (thn (ha pos pins s1 σ H1 _ I1 q) λus s2 ⟨vs,H2,I2,r,q2⟩=>⟨I2.kIn, ?_⟩) J U
 exact A7 (us:=.ref a::us) (vs:=.ref a::vs) F hr hb hd hx I2 (.cons rfl r) q2
theorem lV {pl:Sem Bool} (U:PE X o ta) (c:Cls X.K C) (hm:Meth X.K C m f) (F:jX X.prog X.w X.K X.mg X.base CX k f fd ps sp) (hr:fb k X.A) (hb:Binds X.K fd ps ds) (hd:Vals dvs ds) (hx:Passes CX X E)
 (Y:eval (.Call (.Attribute o m apos) [] [] pos) X.env=(do
  let J <- eval o X.env
  standAt apos.atName
  let (f,first) <- holding [J] (getMethod J m pl)
  callWith pos f first (backTo pos (starEach [] X.env)) (backToKw pos (keywordEach [] X.env))):=by rfl):
 PE X (.Call (.Attribute o m apos) [] [] pos) (Fm C m sp dvs E ta mX):=by
 intro pins s σ H Q I h
 refine QI (pl:=pl) (thn (U pins s σ H _ I h) λu s1 ⟨x,H1,I1,rx,a,dx,fs,ex,ea,l,q⟩=> ?_) Y
 subst ex
 obtain rfl:u=Value.ref a:=rx
 refine rC I1 ea c hm l ?_
 exact PySem.W.callWith_K0 (first:=[.ref a]) I1.kIn hm.kp (A7 (us:=[.ref a]) (vs:=[.ref a]) F hr hb hd hx I1 (.cons rfl .nil) q)
structure Mk(K:lm)(C f:Addr):Prop where
 makes:Rv K C=true
 init:xL K (.ref C) "__init__" =some (some (.ref f))
 fn:Qh K (.ref f)=true
 kp:Do K (.ref C)=true
theorem Jn {pins:List (Addr×Obj)} {σ:St} {H:Hp} {s:Shared} {Q:VK} {us:List Value} {vs:List V} (M:Mk X.K C f) (F:jX X.prog X.w X.K X.mg X.base CX k f fd ps sp) (hr:fb (k+1) X.A) (hb:Binds X.K fd ps ds) (hd:Vals dvs ds)
 (hx:Passes CX X E) (I:Inv X pins σ H s) (r:Vals vs us)
 (h:∀x dx,H x=none->H dx=none->dx≠x->sp (.ref x::(vs++dvs)) (upd (upd H dx (.own x)) x (.ins C dx [])) (λv H2=>v=.non/\Q (.ref x) H2) E):
 wpAny (model X.prog X.w) X.A (call (.ref C) us) (EP X pins σ Q) X.xe s:=by
 have hq:=h (s.heap.objs.size+1) s.heap.objs.size (I.hok.fresh (QZ _)) (I.hok.fresh (qh _)) (wS (QE _))
 have J:=Inv.made (C:=C) I
 have U:Vals (V.ref (s.heap.objs.size+1)::(vs++dvs)) (Value.ref (s.heap.objs.size+1)::(us++ds)):=.cons rfl (r.append hd)
 have Y:(Value.ref (s.heap.objs.size+1)::us++ds).length=ps.length:=by
  have e:=U.length
  rw[F.len _ _ _ _ hq] at e
  exact e.symm
 refine wpAny_call (Jy (f:=f) I.kIn M.makes M.init (beq_iff_eq.mp M.fn) (codeAny_mono (F.run _ X.stack _ _ ⟨Value.ref (s.heap.objs.size+1)::us,[]⟩ (Value.ref (s.heap.objs.size+1)::(us++ds)) _ _ E (hr.make C us [])
  (J.env0.make C us []) (hb _ (Value.ref (s.heap.objs.size+1)::us) J.kIn Y) U hq) λr s' hq'=> ?_))
 cases r with
 | error e=>exact hx pins σ _ _ e s' J hq'
 | ok fl=>
  cases fl with
  | ret u=>
   obtain⟨v,H',I3,rv,ev,q3⟩:=J.after hq'
   subst ev
   exact⟨rv,⟨V.ref (s.heap.objs.size+1),H',I3,rfl,q3⟩⟩
  | next=>exact lc hq'
  | brk=>exact lc hq'
  | cont=>exact lc hq'
theorem Ke (M:Mk X.K C f) (F:jX X.prog X.w X.K X.mg X.base CX k f fd ps sp) (hr:fb (k+1) X.A) (Y:Gl X x) (hm:X.mg x=some (.ref C)) (hb:Binds X.K fd ps ds) (hd:Vals dvs ds) (hx:Passes CX X E)
 (ha:PA X (e::es) t) (J:(x == ("__debug__" :Str))=false:=by decide) (he:starEach (e::es) X.env=(false,eval e X.env)::starEach es X.env:=by rfl) (U:(backTo pos (starEach es X.env)).any (·.1)=false:=by rfl):
 PE X (.Call (.Name x p) (e::es) [] pos) (JK C sp dvs E t):=by
 intro pins s σ H Q I h
 refine wpAny_Call_Name_kw (yQ I Y hm ?_ J)
 refine Q0 (h₀:=X.base) I.ok.mod.kin M.kp (thn (ha pos pins s σ H _ I h) λus s1 ⟨vs,H1,I1,r,q⟩=>⟨I1.kIn, ?_⟩) he U
 exact Jn M F hr hb hd hx I1 r q
end
section
variable {X : Cx} {CX : CXT} {k : Nat} {f C : Addr} {fd : FuncData} {ps ks : List Str} {sp : Sp} {E : XK} {x m : Str} {p pos apos kpos : Pos} {e o : Expr} {es : List Expr} {kws : List Keyword} {te ta : TE} {t tk : TA} {nm : Option Str}
structure OR(K:lm)(fd:FuncData)(ps ks:List Str)(g:List Value->List Value->List Value)(gV:List V->List V->List V):Prop where
 to:∀(s:Shared) (us ws:List Value),K.In s.heap->(g us ws).length=ps.length->BindsTo s fd ⟨us,ks.zip ws⟩ (ps.zip (g us ws))
 rel:∀{vs:List V} {us:List Value} {zs:List V} {ws:List Value},Vals vs us->Vals zs ws->Vals (gV vs zs) (g us ws)
variable {g : List Value → List Value → List Value} {gV : List V → List V → List V}
end
structure ba(N P:List Str)(sc:Scope):Prop where
 kind:sc.kind=.function
 co:sc.isCoroutine=false
 gen:sc.isGenerator=false
 nd:N.Nodup
 pre:N.take P.length=P
 par:∀x∈P,sc.names.lookup x=some .local\/sc.names.lookup x=some .cell
 nofree:∀y∈sc.names,y.2≠ .free
theorem Ae{kindOf:Str->Option NameKind}{x:Str}:∀{binds:List (Str×Value)} {m:Str->Option Value},(∀v,(x,v)∉binds)->bindL kindOf binds m x=m x
 | [],_,_=>rfl
 | (n,v)::r,m,h=>by
  unfold bindL
  rw[Ae λw J=>h w (ol _ J)]
  split
  ·have:x≠n:=by rintro rfl;exact h v pi
   simp[this]
  ·rfl
theorem zK{kindOf:Str->Option NameKind}{x:Str}:∀{binds:List (Str×Value)} {m:Str->Option Value},(∀v,(x,v)∉binds)->bindC kindOf binds m x=m x
 | [],_,_=>rfl
 | (n,v)::r,m,h=>by
  unfold bindC
  rw[zK λw J=>h w (ol _ J)]
  split
  ·rfl
  ·have:x≠n:=by rintro rfl;exact h v pi
   simp[this]
theorem zO{kindOf:Str->Option NameKind}{x:Str}{v:Value}:∀{P:List Str} {vs:List Value} {i:Nat} {m:Str->Option Value},P.Nodup->P[i]? =some x->vs[i]? =some v->kindOf x=some .local->
 bindL kindOf (P.zip vs) m x=some v
 | [],_,_,_,_,h,_,_=>by simp at h
 | _::_,[],_,_,_,_,h,_=>by simp at h
 | p::P,w::vs,0,m,nd,h1,h2,hk=>by
  simp at h1 h2;subst h1;subst h2
  show bindL kindOf ((p,w)::P.zip vs) m p=_
  unfold bindL
  rw[Ae λv J=>(NE.mp nd).1 (CK J).1,if_pos hk]
  simp
 | p::P,w::vs,i+1,m,nd,h1,h2,hk=>by
  show bindL kindOf ((p,w)::P.zip vs) m x=_
  unfold bindL
  exact zO (i:=i) (NE.mp nd).2 (by simpa using h1) (by simpa using h2) hk
theorem An{kindOf:Str->Option NameKind}{x:Str}{v:Value}:∀{P:List Str} {vs:List Value} {i:Nat} {m:Str->Option Value},P.Nodup->P[i]? =some x->vs[i]? =some v->kindOf x≠some .local->
 bindC kindOf (P.zip vs) m x=some v
 | [],_,_,_,_,h,_,_=>by simp at h
 | _::_,[],_,_,_,_,h,_=>by simp at h
 | p::P,w::vs,0,m,nd,h1,h2,hk=>by
  simp at h1 h2;subst h1;subst h2
  show bindC kindOf ((p,w)::P.zip vs) m p=_
  unfold bindC
  rw[zK λv J=>(NE.mp nd).1 (CK J).1,if_neg hk]
  simp
 | p::P,w::vs,i+1,m,nd,h1,h2,hk=>by
  show bindC kindOf ((p,w)::P.zip vs) m x=_
  unfold bindC
  exact An (i:=i) (NE.mp nd).2 (by simpa using h1) (by simpa using h2) hk
def start(N:List Str)(vs:List V):St:=vs.map some++pr (N.length-vs.length) none
def ua(CX:CXT)(P:Program)(w:World)(K:lm)(mg:Str->Option Value)(base:Heap)(N:List Str)(qual:Str)(scope:Scope)(f:Addr)(cd:Value)(A:Around)(outer:List Env)(s:Shared)(H:Hp)(E:XK):Cx where
 prog:=P
 w:=w
 K:=K
 mg:=mg
 base:=base
 A:=A.deeper (envOfC qual scope s.heap.objs.size f cd)
 N:=N
 s₀:=s
 H₀:=H
 env:=envOfC qual scope s.heap.objs.size f cd
 outer:=outer
 stack:=envOfC qual scope s.heap.objs.size f cd::outer
 ex:=[]
 calm:=true
 fn:=λ_=>true
 pn:=[]
 xe:=λe s'=>wpAny (model P w) (A.deeper (envOfC qual scope s.heap.objs.size f cd)) (leaving (envOfC qual scope s.heap.objs.size f cd) e) (λ_ s''=>CX outer H s E e s'') (λe' s''=>CX outer H s E e' s'') s'
theorem C2{sc:Scope}{n:Nat}(h:sc.names.lookup x=some .cell):∃c,(cellsFrom n sc.names []).lookup x=some c:=by
 have q:=Qd sc.names n [] (.inl h)
 exact Re.mp q
theorem GN {CX:CXT} {P:Program} {w:World} {K:lm} {mg:Str->Option Value} {base:Heap} {N ps:List Str} {qual:Str} {scope:Scope} {f:Addr} {cd:Value} {A:Around} {outer:List Env} {s s1:Shared} {H:Hp} {E:XK} {us:List Value} {vs:List V}
 (S:ba N ps scope) (hd:A.handled=none) (J:sV P w K mg base A outer s H) (hl:vs.length=ps.length) (r:Vals vs us)
 (x:InCallC s s.heap.objs.size (bindL (envOfC qual scope s.heap.objs.size f cd).kindOf (ps.zip us) λ_=>none) (cellsFrom (s.heap.objs.size+1) scope.names []) (bindC (envOfC qual scope s.heap.objs.size f cd).kindOf (ps.zip us) λ_=>none) s1):
 Inv (ua CX P w K mg base N qual scope f cd A outer s H E) [] (start N vs) H s1:=by
 have ab:ps.length<=N.length:=by have:=congrArg PP S.pre;rw[Qn] at this;omega
 obtain⟨h1,tk,rfl,hk⟩:=x.done
 have U:∀b:Addr,b∉(ua CX P w K mg base N qual scope f cd A outer s H E).ex:=λb z=>absurd (show b∈([]:List Addr) from z) (by simp)
 refine⟨⟨J.mod,S.kind,rfl,rfl,qh _,λy z c h1 h2=> ?_,λy hy=> ?_,λy c _ h=> ?_,λ_=>hd,Around.frames_deeper J.frames,.inr ⟨rfl,rfl⟩,λb z=>absurd z (U b),J.bs,J.bsz,λb _ _=>U b,λb z=>absurd z (U b),J.funs,J.frf⟩,
  rfl,J.bare,Un.kept hk,⟨_,x.toInCall.ns,λi y v h1 h2 h3=> ?_⟩,λy c h=>⟨_,x.cell y c h⟩,J.hok.fresh (qh _),λy c h=> ?_,λp hp=>absurd (show p∈([]:List (Addr×Obj)) from hp) (by simp),J.hok.kept hk, ?_⟩
 ·exact name_of_addr x.apart (P6 h1) (P6 h2)
 ·have hy:scope.names.lookup y=some .cell\/scope.names.lookup y=some .free:=hy
  rcases hy with hy | hy
  ·exact C2 hy
  ·exact absurd rfl (S.nofree _ (P6 hy))
 ·exact PQ (x.above y c (P6 h))
 ·have hi:i<vs.length:=by
   unfold start at h2
   by_cases hi:i<vs.length
   ·exact hi
   ·rw[re (by simpa using hi)] at h2
    rw[wE] at h2
    split at h2 <;> cases h2
  have ha:vs[i]? =some v:=by
   unfold start at h2
   rw[tt (by simpa using hi),sI] at h2
   cases e:vs[i]? with
   | none=>rw[e] at h2;cases h2
   | some a=>rw[e] at h2;cases h2;rfl
  obtain⟨u,hu,rv⟩:=r.get ha
  have hp:ps[i]? =some y:=by
   rw[<- S.pre,Rf (by omega)];exact h1
  have Y:ps.Nodup:=by rw[<- S.pre];exact S.nd.sublist (List.take_sublist _ _)
  refine⟨u,rv, ?_⟩
  rcases S.par y (x0 hp) with k | k
  ·exact .inl ⟨k,zO Y hp hu k⟩
  ·obtain⟨c,e⟩:=C2 (n:=s.heap.objs.size+1) k
   refine .inr ⟨.inl k,c,e, ?_⟩
   have q:=x.cell y c e
   rw[An Y hp hu (by show scope.names.lookup y≠_;rw[k];decide)] at q
   exact q
 ·exact J.hok.fresh (PQ (x.above y c (P6 h)))
 ·unfold start
  show _=N.length
  rw[u8,nW,Qi]
  omega
theorem M8 {CX:CXT} {P:Program} {w:World} {K:lm} {mg:Str->Option Value} {base:Heap} {k:Nat} {f:Addr} {name qual:Str} {Y:Arguments} {body:List Stmt} {scope:Scope} {dV kV am pm U ct oc:Value} {an od:Option Addr}
 {a3:Array (Option Value)} {N ps:List Str} {sp:Sp} (lk:K.lookup f=some ⟨oc,od,.func (At name qual Y body scope dV kV am pm an U ct),a3⟩) (a4:Pu K U qual=true) (S:ba N ps scope)
 (ap:∀vs H Q E,sp vs H Q E->vs.length=ps.length)
 (ab:∀(A:Around) (outer:List Env) (s:Shared) (H:Hp) (vs:List V) (Q:VK) (E:XK),fb k (A.deeper (envOfC qual scope s.heap.objs.size f U))->sp vs H Q E->
  ∃t,PSs (ua CX P w K mg base N qual scope f U A outer s H E) body t/\t {nx:=λ_ H'=>Q .non H',rt:=Q} (start N vs) H):
 jX P w K mg base CX (k+1) f (At name qual Y body scope dV kV am pm an U ct) ps sp:=by
 refine⟨ap,λA outer s H args us vs Q E hr e0 hb r az=> ?_⟩
 have hl:=ap _ _ _ _ az
 have KX:K.In s.heap:=e0.mod.kin.keeps λb o e=>(e0.bs b o e).1
 have a5:s.heap.NoLimit:=e0.mod.nolimit.keeps λb o e=>(e0.bs b o e).1
 have ac:∀y∈ps.zip us,scope.names.lookup y.1=some .local\/(scope.names.lookup y.1=some .cell/\((cellsFrom (s.heap.objs.size+1) scope.names []).lookup y.1).isSome=true):=λ⟨n,v⟩ hy=>by
  rcases S.par n (CK hy).1 with q | q
  ·exact .inl q
  ·exact .inr ⟨q,Qd _ _ _ (.inl q)⟩
 refine codeAny_call_function hr.depth (KX _ _ lk) rfl S.co S.gen rfl (PySem.W.codeRec_of KX a4) (hb _ _ _ _ ?_)
 refine wpAny_newFunctionEnv_cells S.kind ac λenv he s1 x=> ?_
 subst he
 refine⟨a5.keeps x.toInCall.keep,codeAny_func ?_⟩
 obtain⟨t,ht,hq⟩:=ab A outer s H vs Q E (hr.deeper _) az
 have I:Inv (ua CX P w K mg base N qual scope f U A outer s H E) [] (start N vs) H s1:=GN S hr.hd e0 hl r x
 refine wpAny_mono (ht [] s1 (start N vs) H _ I hq) (λfl s' hs=> ?_) λe s' hs=>hs
 have a1:∀{σ':St} {H':Hp} {v:V} {u:Value},Inv (ua CX P w K mg base N qual scope f U A outer s H E) [] σ' H' s'->RelV v u->Q v H'->CE outer P w H s Q u s':=
  λ{σ' H' v u} J rv q=>⟨v,H',J.os,J.bare,J.base,J.hok,rv,q⟩
 cases fl with
 | ret u=>
  obtain⟨v,σ',H',J,rv,q⟩:=hs
  exact a1 J rv q
 | next=>
  obtain⟨σ',H',J,q⟩:=hs
  exact a1 (v:=V.non) (u:=Value.none) J rfl q
 | brk=>
  obtain⟨_,_,_,q⟩:=hs
  exact lc q
 | cont=>
  obtain⟨_,_,_,q⟩:=hs
  exact lc q
section
variable {X : Cx} {x : Str} {p pos : Pos} {e : Expr} {es : List Expr} {t : TA} {id T : String} {r : List V → Hp → VK → Prop}
def tCB(r:List V->Hp->VK->Prop)(t:TA):TE:=λσ H Q=>t σ H λvs H1=>r vs H1 Q
theorem bB (hc:kQ X (.builtin id) r) (Y:Gl X x) (hm:X.mg x=none) (hv:bootBuiltins x=some (.builtin id)) (ha:PA X (e::es) t) (hn:x≠"__name__" :=by decide) (J:(x == ("__debug__" :Str))=false:=by decide)
 (he:starEach (e::es) X.env=(false,eval e X.env)::starEach es X.env:=by rfl) (U:(backTo pos (starEach es X.env)).any (·.1)=false:=by rfl):PE X (.Call (.Name x p) (e::es) [] pos) (tCB r t):=by
 intro pins s σ H Q I h
 refine wpAny_Call_Name_kw (qo I Y hm hv ?_ hn J)
 exact PyProof.Rows.callWith_builtin1 (thn (ha pos pins s σ H _ I h) λus s1 ⟨vs,H1,I1,r1,q1⟩=>hc pins s1 σ H1 vs us Q I1 r1 q1) he U
theorem gy (hc:kQ X (.type T) r) (Y:Gl X x) (hm:X.mg x=none) (hv:bootBuiltins x=some (.type T)) (ha:PA X (e::es) t) (hn:x≠"__name__" :=by decide) (J:(x == ("__debug__" :Str))=false:=by decide)
 (he:starEach (e::es) X.env=(false,eval e X.env)::starEach es X.env:=by rfl) (U:(backTo pos (starEach es X.env)).any (·.1)=false:=by rfl):PE X (.Call (.Name x p) (e::es) [] pos) (tCB r t):=by
 intro pins s σ H Q I h
 refine wpAny_Call_Name_kw (qo I Y hm hv ?_ hn J)
 exact PR (thn (ha pos pins s σ H _ I h) λus s1 ⟨vs,H1,I1,r1,q1⟩=>hc pins s1 σ H1 vs us Q I1 r1 q1) he U
end
end L2
namespace HT
open PySem PyProof.Rows
def lexLt:List Int->List Int->Bool
 | [],[]=>false
 | [],_::_=>true
 | _::_,[]=>false
 | x::xs,y::ys=>if x=y then lexLt xs ys else decide (x<y)
theorem nF(x y:Int)(xs ys:List Int):lexLt (x::xs) (y::ys)=if x=y then lexLt xs ys else decide (x<y):=rfl
theorem HP(A:Around)(s:Shared)(a:Int)(t:Tok)(c:Int)(u:Tok):∃e,SeqAt.EqAt A s (.int a t) (.int c u) e/\(e=true↔a=c):=
 ⟨(a == c),SeqAt.EqAt.int_int a t c u,by simp⟩
theorem HD(A:Around)(s:Shared)(a:Int)(t:Tok)(c:Int)(u:Tok)(prog:Program)(w:World)(E:Value->Shared->Prop)(Q:Value->Shared->Prop)(h:Q (.bool (decide (a<c))) s):
 wpAny (model prog w) A (richCompare .Lt (.int a t) (.int c u)) Q E s:=
 (PyProof.Rows.lt_int h:wpAny (model prog w) A (compareOp .Lt (.int a t) (.int c u)) Q E s)
section
open PySem.SeqAt
open PySem.AutoSeq1 (wpAny_loadPart')
open PySem.MeetsSeq PySem.MeetsSeq2 PySem.MeetsSeq3
end
section
variable {prog : Program} {w : World} {A : Around} {E : Value → Shared → Prop} {s : Shared}
def sIx(n d:Nat):Option Int->Nat
 | none=>d
 | some v=>if v<0 then (v+(n:Int)).toNat else min v.toNat n
theorem Cr(n d:Nat):sIx n d none=d:=rfl
theorem Eh(n d k:Nat):sIx n d (some (k:Int))=min k n:=by
 show (if (k:Int)<0 then ((k:Int)+(n:Int)).toNat else min (k:Int).toNat n)=min k n
 rw[if_neg (by omega),RX]
end
end HT
namespace L2
open PySem PySem.Spec PyProof.Rows
variable {n : Nat} {pins : List (Addr × Obj)} {σ : St} {H : Hp} {s : Shared} {xs : List V} {x : V}
abbrev TO:=St->Hp->(Option Int->Hp->Prop)->Prop
def PO(X:Cx)(e:Option Expr)(t:TO):Prop:=
 ∀(pins:List (Addr×Obj)) (s:Shared) (σ:St) (H:Hp) (Q:Option Int->Hp->Prop),Inv X pins σ H s->t σ H Q->
  wpAny (model X.prog X.w) X.A (evalPart e X.env) (λu s'=>∃o H',Inv X pins σ H' s'/\IsPart u o/\Q o H') X.xe s
def D7:TO:=λ_ H Q=>Q none H
def JZ(t:TE):TO:=λσ H Q=>t σ H λx H1=>∃i,x=.int i/\Q (some i) H1
section
variable {X : Cx} {e : Expr} {te : TE} {lo hi : Option Expr} {tl th : TO} {pos p2 : Pos}
theorem nJ:PO X none D7:=by
 intro pins s σ H Q I h
 rw[evalPart_none]
 exact wpAny_pure ⟨none,H,I,.none,h⟩
theorem qv(h:PE X e te):PO X (some e) (JZ te):=by
 intro pins s σ H Q I J
 rw[evalPart_some]
 refine thn (h pins s σ H _ I J) λu s1 ⟨x,H1,I1,r1,q1⟩=> ?_
 obtain⟨i,rfl,q⟩:=q1
 obtain⟨t,rfl⟩:=r1
 exact⟨some i,H1,I1,.int i t,q⟩
def SlR(X:Cx)(r:V->Option Int->Option Int->Hp->VK->Prop):Prop:=
 ∀(pins:List (Addr×Obj)) (s:Shared) (σ:St) (H:Hp) (x:V) (v J U:Value) (lo hi:Option Int) (sl:Addr) (Q:VK),Inv X pins σ H s->RelV x v->s.heap.IsSliceOf sl J U .none->IsPart J lo->IsPart U hi->r x lo hi H Q->
  ∃T id,typeLookup (.type T) "__getitem__" =pure (some (.builtin id))/\s.TypeIs v T/\wpAny (model X.prog X.w) X.A (getItem v (.ref sl)) (EP X pins σ Q) X.xe s
def tSl(r:V->Option Int->Option Int->Hp->VK->Prop)(te:TE)(tl th:TO):TE:=λσ H Q=>te σ H λx H1=>tl σ H1 λl H2=>th σ H2 λu J=>r x l u J Q
theorem rO{r:V->Option Int->Option Int->Hp->VK->Prop}(hr:SlR X r)(J:PE X e te)(U:PO X lo tl)(hu:PO X hi th):PE X (.Subscript e (.Slice lo hi none p2) pos) (tSl r te tl th):=by
 intro pins s σ H Q I h
 refine Subscript_ (thn (J pins s σ H _ I h) λv s1 ⟨x,H1,I1,r1,q1⟩=> ?_)
 refine wpAny_Slice (thn (U pins s1 σ H1 _ I1 q1) λvl s2 ⟨l,H2,I2,pl,q2⟩=>thn (hu pins s2 σ H2 _ I2 q2) λvu s3 ⟨u,H3,I3,pu,q3⟩=> ?_)
 rw[evalPart_none]
 refine wpAny_pure ?_
 have Y:Inv X pins σ H3 {s3 with heap:=s3.heap.push {cls:=.type "slice",data:=.fields #[vl,vu,.none]}}:=I3.kept (t':=s3.toks) λb ob q=>Heap.get?_push_of_some _ q
 obtain⟨T,id,hT,ht,hg⟩:=hr pins {s3 with heap:=s3.heap.push {cls:=.type "slice",data:=.fields #[vl,vu,.none]}} σ H3 x v vl vu l u s3.heap.objs.size Q Y r1 (Heap.IsSliceOf.new ..) pl pu q3
 show wpAny (model X.prog X.w) X.A (subscriptTail e (.Slice lo hi none p2) v (.ref s3.heap.objs.size)) (EP X pins σ Q) X.xe {s3 with heap:=s3.heap.push {cls:=.type "slice",data:=.fields #[vl,vu,.none]}}
 exact tail_any (ops:=[.ref s3.heap.objs.size,v]) ht hT hg (by with_unfolding_all rfl)
def ya(xs:List V)(lo hi:Option Int):List V:=(xs.drop (HT.sIx xs.length 0 lo)).take (HT.sIx xs.length xs.length hi-HT.sIx xs.length 0 lo)
theorem C8(xs:List V)(lo hi:Option Int):(ya xs lo hi).length<=xs.length:=by
 unfold ya
 rw[Qn,QF]
 omega
end
def ixN(n:Nat)(i:Int):Option Nat:=if 0<=i then (if i<n then some i.toNat else none) else if -(n:Int)<=i then some (i+n).toNat else none
def atI{α:Type}(xs:List α)(i:Int):Option α:=(ixN xs.length i).bind λj=>xs[j]?
theorem D1{i:Int}{j:Nat}(h:ixN n i=some j):seqIndex? i n=some j/\j<n/\ -(n:Int)<=i/\i<n:=by
 unfold ixN at h
 by_cases h0:0<=i
 ·rw[if_pos h0] at h
  by_cases h1:i<n
  ·rw[if_pos h1] at h
   have e:i.toNat=j:=No h
   exact⟨by rw[seqIndex_of h0 h1,e],by omega,by omega,h1⟩
  ·rw[if_neg h1] at h;cases h
 ·rw[if_neg h0] at h
  by_cases h1: -(n:Int)<=i
  ·rw[if_pos h1] at h
   have e:(i+n).toNat=j:=No h
   exact⟨by rw[seqIndex_neg (by omega) h1,e],by omega,h1,by omega⟩
  ·rw[if_neg h1] at h;cases h
theorem yn{α:Type}{xs:List α}{i:Int}{v:α}(h:atI xs i=some v):∃j,seqIndex? i xs.length=some j/\xs[j]? =some v/\j<xs.length/\ -(xs.length:Int)<=i/\i<xs.length:=by
 unfold atI at h
 cases e:ixN xs.length i with
 | none=>rw[e] at h;cases h
 | some j=>
  rw[e] at h
  obtain⟨h1,h2,J,U⟩:=D1 e
  exact⟨j,h1,h,h2,J,U⟩
def KG(b:Expr):Prop:=∀o i,subscripted b false o i=operate [o,i] (getItem o i)
def IxR(X:Cx)(r:R2):Prop:=
 ∀(value J:Expr) (pins:List (Addr×Obj)) (s:Shared) (σ:St) (H:Hp) (x y:V) (v u:Value) (Q:VK),Inv X pins σ H s->RelV x v->RelV y u->r x y H Q->
  subscripted J false v u=operate [v,u] (getItem v u)->wpAny (model X.prog X.w) X.A (subscriptTail value J v u) (EP X pins σ Q) X.xe s
def MtR(X:Cx)(id:String)(r:V->List V->Hp->VK->Prop):Prop:=
 ∀(pins:List (Addr×Obj)) (s:Shared) (σ:St) (H:Hp) (x:V) (xs:List V) (v:Value) (us:List Value) (Q:VK),Inv X pins σ H s->RelV x v->Vals xs us->r x xs H Q->
  wpAny (model X.prog X.w) X.A (call (.builtin id) (v::us)) (EP X pins σ Q) X.xe s
section
variable {X : Cx} {a b : Expr} {ta tb : TE} {pos : Pos}
theorem IxR.or{r r':R2}(h:IxR X r)(h':IxR X r'):IxR X (λx y H Q=>r x y H Q\/r' x y H Q):=by
 intro value J pins s σ H x y v u Q I U Y q hs
 rcases q with q | q
 ·exact h value J pins s σ H x y v u Q I U Y q hs
 ·exact h' value J pins s σ H x y v u Q I U Y q hs
theorem bU{r:R2}(hr:IxR X r)(ha:PE X a ta)(hb:PE X b tb)(hs:KG b):PE X (.Subscript a b pos) (tOp r ta tb):=by
 intro pins s σ H Q I h
 exact Subscript_ (HC ha hb I h λv u s2 x y H2 J U Y q=>hr a b pins s2 σ H2 x y v u Q J U Y q (hs _ _))
def Mt(K:lm):R2:=λx y H Q=>∃p xs i v,x=.ref p/\y=.int i/\SqL K H p xs/\atI xs i=some v/\Q v H
def Ma(K:lm):R2:=λx y H Q=>∃p xs i v,x=.ref p/\y=.int i/\SqT K H p xs/\atI xs i=some v/\Q v H
def MM:R2:=λx y H Q=>∃z i c,x=.str z/\y=.int i/\z.length<=sizeLine/\atI z.cps.toList i=some c/\Q (.str ⟨#[c]⟩) H
theorem Lh:IxR X (Mt X.K):=by
 intro value U pins s σ H x y v u Q I rx ry h hs
 obtain⟨p,xs,i,z,rfl,rfl,hq,he,q⟩:=h
 cases rx
 obtain⟨t,rfl⟩:=ry
 obtain⟨Y,r,pl,hz⟩:=I.list hq
 obtain⟨j,h1,h2,h3,h4,h5⟩:=yn he
 obtain⟨w,ew,ab⟩:=r.get h2
 have hl:=r.length
 have hn:=nY
 have J:EP X pins σ Q w s:=⟨z,H,I,ab,q⟩
 by_cases h0:0<=i
 ·have hj:i.toNat=j:=by
   rw[seqIndex_of h0 h5] at h1
   exact No h1
  exact item_listR pl.isList h0 (by omega) (by rw[hj];simpa using ew) J hs
 ·have hj:(i+(Y.toArray.size:Int)).toNat=j:=by
   rw[seqIndex_neg (by omega) h4] at h1
   rw[sK,<- hl]
   exact No h1
  exact subscriptTail_builtinR (x:=w) pl.isList.typeIs slot_list_getitem.lookup
   (wpAny_getItem_list_neg (Q:=λr s'=>r=w/\EP X pins σ Q r s') pl.isList (by omega) (by rw[sK] <;> omega) (by omega) (by rw[hj];simpa using ew) ⟨rfl,J⟩) hs
theorem Mc:IxR X (Ma X.K):=by
 intro value J pins s σ H x y v u Q I rx ry h hs
 obtain⟨p,xs,i,z,rfl,rfl,hq,he,q⟩:=h
 cases rx
 obtain⟨t,rfl⟩:=ry
 obtain⟨an,r,pl,hz⟩:=I.tuple hq
 obtain⟨j,h1,h2,h3,h4,h5⟩:=yn he
 obtain⟨w,ew,U⟩:=r.get h2
 have hl:=r.length
 have hn:=nY
 have Y:EP X pins σ Q w s:=⟨z,H,I,U,q⟩
 exact subscriptTail_builtinR (x:=w) pl.typeIs slot_tuple_getitem.lookup
  (getItem_tuple (j:=j) (Q:=λr s'=>r=w/\EP X pins σ Q r s') pl (by omega) (by omega) (by rw[sK,<- hl];exact h1) (by simpa using ew) ⟨rfl,Y⟩) hs
theorem LY:IxR X MM:=by
 intro value J pins s σ H x y v u Q I U Y h hs
 obtain⟨z,i,c,rfl,rfl,hz,he,q⟩:=h
 obtain⟨t,rfl⟩:=U
 obtain⟨t',rfl⟩:=Y
 obtain⟨j,h1,h2,h3,h4,h5⟩:=yn he
 have hl:z.cps.toList.length=z.length:=by simp[Str.length]
 rw[hl] at h1 h4 h5
 have hn:=nY
 exact tail_any (typeIs_str s z t) slot_str_getitem.lookup (getItem_str (c:=c) (by
  have e1:decide (i < -(2^63:Int))=false:=decide_eq_false (by omega)
  have e2:decide (i ≥ 2^63)=false:=decide_eq_false (by omega)
  rw[e1,e2,Q4]) (by rw[h1];simpa using h2) ⟨.str ⟨#[c]⟩,H,I.tok _,⟨_,rfl⟩,q⟩) hs
def rIx(K:lm):R2:=λx y H Q=>Mt K x y H Q\/Ma K x y H Q\/MM x y H Q
theorem bA:IxR X (rIx X.K):=Lh.or (Mc.or LY)
theorem Fo(J:List Value)(n j:Nat)(u:Value):Obj.mapSeq (·.setIfInBounds j u) {cls:=.type "list",data:=.seq J.toArray n}={cls:=.type "list",data:=.seq (J.set j u).toArray n}:=by
 simp[Obj.mapSeq]
theorem Inv.lst{p:Addr}(I:Inv X pins σ H s)(h:H p=some (.lst xs)):
 ∃(J:List Value) (n:Nat),Vals xs J/\s.heap.get? p=some {cls:=.type "list",data:=.seq J.toArray n}/\xs.length<=sizeLine:=by
 obtain⟨z,J,n,r,e⟩:=I.hok p _ h
 exact⟨J,n,r,e,z⟩
theorem Inv.lstUpd {p:Addr} {xs ys:List V} {J its':List Value} {n U:Nat} {f:Obj->Obj} (I:Inv X pins σ H s) (h:H p=some (.lst xs))
 (ho:s.heap.get? p=some {cls:=.type "list",data:=.seq J.toArray n}) (Y:f {cls:=.type "list",data:=.seq J.toArray n}={cls:=.type "list",data:=.seq its'.toArray U}) (r:Vals ys its') (hz:ys.length<=sizeLine) (t:Nat):
 Inv X pins σ (upd H p (.lst ys)) {s with heap:=s.heap.update p f,toks:=t}:=by
 have e:(s.heap.update p f).get? p=some {cls:=.type "list",data:=.seq its'.toArray U}:=by
  rw[Heap.get?_update_self f ho (by rw[Y] <;> rfl),Y]
 refine I.write (x:=p) (e:=p) (by rw[h];trivial) (.inl rfl) (λb u hb q=>(Heap.get?_update_other _ _ (QH hb)).trans q) ⟨_,e⟩ ?_
 exact⟨hz,its',U,r,e⟩
def J0:V->V->V->Hp->(Hp->Prop)->Prop:=λo i v H Q=>∃p xs k j,o=.ref p/\i=.int k/\H p=some (.lst xs)/\ixN xs.length k=some j/\Q (upd H p (.lst (xs.set j v)))
theorem set_list:MW X J0:=by
 intro pins s σ H o i v ov iv u Q I ro ri rv h
 obtain⟨p,xs,k,j,rfl,rfl,hp,hj,q⟩:=h
 cases ro
 obtain⟨t,rfl⟩:=ri
 obtain⟨J,n,r,U,hz⟩:=I.lst hp
 obtain⟨h1,h2,h3,h4⟩:=D1 hj
 have Y:=r.length
 have hn:=nY
 have I':Inv X pins σ (upd H p (.lst (xs.set j v))) {s with heap:=s.heap.update p (Obj.mapSeq (·.setIfInBounds j u))}:=
  I.lstUpd hp U (Fo J n j u) (r.set rv j) (by rw[List.length_set];exact hz) s.toks
 by_cases h0:0<=k
 ·have hk:k.toNat=j:=by
   rw[seqIndex_of h0 h4] at h1
   exact No h1
  exact PySem.W.ki_setAt U h0 (by omega) (by rw[sK,<- Y];exact h4) (by rw[hk];exact⟨_,I',q⟩)
 ·have hk:(k+(J.toArray.size:Int)).toNat=j:=by
   rw[seqIndex_neg (by omega) h3] at h1
   rw[sK,<- Y]
   exact No h1
  exact PySem.W.ki_setBack U (by omega) (by rw[sK,<- Y];exact h3) (by omega) (by rw[hk];exact⟨_,I',q⟩)
theorem AX(lo hi:Option Int)(n:Nat):(sliceBounds lo hi none n).1=((HT.sIx n 0 lo:Nat):Int)/\(sliceBounds lo hi none n).2.1=((HT.sIx n n hi:Nat):Int)/\(sliceBounds lo hi none n).2.2=1:=by
 refine⟨?_, ?_,rfl⟩
 ·cases lo with
  | none=>simp[sliceBounds,HT.sIx]
  | some i=>
   simp only[sliceBounds,HT.sIx,R6,show (1:Int)>0 by decide,if_true]
   by_cases h:i<0
   ·simp only[h,if_true] <;> omega
   ·simp only[h,if_false] <;> omega
 ·cases hi with
  | none=>simp[sliceBounds,HT.sIx]
  | some i=>
   simp only[sliceBounds,HT.sIx,R6,show (1:Int)>0 by decide,if_true]
   by_cases h:i<0
   ·simp only[h,if_true] <;> omega
   ·simp only[h,if_false] <;> omega
theorem Aw(J:List Value)(lo hi:Option Int):slicePick J.toArray lo hi none=((J.drop (HT.sIx J.length 0 lo)).take (HT.sIx J.length J.length hi-HT.sIx J.length 0 lo)).toArray:=by
 obtain⟨h1,h2,U⟩:=AX lo hi J.toArray.size
 unfold slicePick
 rw[h1,h2,U]
 simp only[sliceRange_one,pick_run,sK] <;> rfl
def LM(K:lm):V->Option Int->Option Int->Hp->VK->Prop:=λx lo hi H Q=>∃a xs,x=.ref a/\SqL K H a xs/\∀p,H p=none->Q (.ref p) (upd H p (.lst (ya xs lo hi)))
theorem Ek:SlR X (LM X.K):=by
 intro pins s σ H x v vl vu lo hi sl Q I Y hs pl pu h
 obtain⟨a,xs,rfl,hx,q⟩:=h
 cases Y
 obtain⟨ac,r,U,hz⟩:=I.list hx
 have J:=r.length
 refine⟨"list",_,slot_list_getitem.lookup,U.isList.typeIs, ?_⟩
 refine wpAny_getItem_list_slice U.isList hs pl pu .none (by simp) ?_ (by rw[sK] <;> omega)
 rw[Aw,<- J]
 refine⟨.ref s.heap.objs.size,_,I.laid (t':=s.toks) (o:=.lst (ya xs lo hi)) (λb ob q=>Heap.get?_push_of_some _ q) (qh _) ?_,rfl,q _ (I.hok.fresh (qh _))⟩
 exact⟨yB (C8 xs lo hi) hz,_,0,(r.drop (HT.sIx xs.length 0 lo)).take (HT.sIx xs.length xs.length hi-HT.sIx xs.length 0 lo),Heap.get?_push_size _ rfl⟩
def lY:V->Bool
 | .non=>true
 | .bl _=>true
 | .int _=>true
 | .str _=>true
 | _=>false
def eqV:V->V->Bool
 | .non,.non=>true
 | .bl a,.bl b=>a == b
 | .bl a,.int b=>(if a then 1 else 0) == b
 | .int a,.bl b=>a == (if b then 1 else 0)
 | .int a,.int b=>a == b
 | .str a,.str b=>a == b
 | _,_=>false
theorem Mb{A:Around}{y x:V}{u v:Value}(U:RelV y u)(J:RelV x v)(fy:lY y=true)(Y:lY x=true):SeqAt.EqAt A s u v (eqV y x):=by
 cases y with
 | non=>
  cases U
  cases x with
  | non=>cases J;exact SeqAt.EqAt.same _
  | bl b=>cases J;exact SeqAt.EqAt.none_bool b
  | int b=>obtain⟨t,rfl⟩:=J;exact SeqAt.EqAt.none_int b t
  | str b=>obtain⟨t,rfl⟩:=J;exact SeqAt.EqAt.none_str b t
  | _=>exact absurd (show false=true from Y) ut
 | bl a=>
  cases U
  cases x with
  | non=>cases J;exact SeqAt.EqAt.bool_none a
  | bl b=>cases J;exact SeqAt.EqAt.bool_bool a b
  | int b=>obtain⟨t,rfl⟩:=J;exact SeqAt.EqAt.bool_int a b t
  | str b=>obtain⟨t,rfl⟩:=J;exact SeqAt.EqAt.bool_str a b t
  | _=>exact absurd (show false=true from Y) ut
 | int a=>
  obtain⟨t',rfl⟩:=U
  cases x with
  | non=>cases J;exact SeqAt.EqAt.int_none a t'
  | bl b=>cases J;exact SeqAt.EqAt.int_bool a t' b
  | int b=>obtain⟨t,rfl⟩:=J;exact SeqAt.EqAt.int_int a t' b t
  | str b=>obtain⟨t,rfl⟩:=J;exact SeqAt.EqAt.int_str a t' b t
  | _=>exact absurd (show false=true from Y) ut
 | str a=>
  obtain⟨t',rfl⟩:=U
  cases x with
  | non=>cases J;exact SeqAt.EqAt.str_none a t'
  | bl b=>cases J;exact SeqAt.EqAt.str_bool a t' b
  | int b=>obtain⟨t,rfl⟩:=J;exact SeqAt.EqAt.str_int a t' b t
  | str b=>obtain⟨t,rfl⟩:=J;exact SeqAt.EqAt.str_str a t' b t
  | _=>exact absurd (show false=true from Y) ut
 | _=>exact absurd (show false=true from fy) ut
def eqU(x:V)(u:Value):Bool:=match u with
 | .none=>eqV .non x
 | .bool b=>eqV (.bl b) x
 | .int i _=>eqV (.int i) x
 | .str z _=>eqV (.str z) x
 | _=>false
theorem FQ{x y:V}{u:Value}(r:RelV y u)(f:lY y=true):eqU x u=eqV y x:=by
 cases y with
 | non=>cases r;rfl
 | bl b=>cases r;rfl
 | int i=>obtain⟨t,rfl⟩:=r;rfl
 | str z=>obtain⟨t,rfl⟩:=r;rfl
 | _=>exact absurd (show false=true from f) ut
theorem qq{x:V}:∀{xs:List V} {us:List Value},Vals xs us->xs.all lY=true->us.any (eqU x)=xs.any λy=>eqV y x
 | _,_,.nil,_=>rfl
 | y::xs,u::us,.cons r t,f=>by
  rw[QC,IN] at f
  rw[Sr,Sr,FQ r f.1,qq t f.2]
theorem oP{A:Around}{s:Shared}{x:V}{v:Value}(J:RelV x v)(U:lY x=true):∀{xs:List V} {us:List Value},Vals xs us->xs.all lY=true->∀u∈us,SeqAt.EqAt A s u v (eqU x u)
 | _,_,.nil,_=>λu hu=>by cases hu
 | y::xs,u::us,.cons r t,f=>λY hu=>by
  rw[QC,IN] at f
  rcases sn.mp hu with rfl | hu
  ·rw[FQ r f.1];exact Mb r J f.1 U
  ·exact oP J U t f.2 Y hu
def inV(x:V)(xs:List V):Bool:=xs.any λy=>eqV y x
def rIn(K:lm)(neg:Bool):R2:=λx y H Q=>∃p xs,y=.ref p/\(SqL K H p xs\/SqT K H p xs)/\lY x=true/\xs.all lY=true/\Q (.bl (if neg then !inV x xs else inV x xs)) H
theorem uf:OpR X (compareOp .In) (rIn X.K false):=by
 intro pins s σ H x y v u Q I Y ry h
 obtain⟨p,xs,rfl,hq,fx,fs,q⟩:=h
 cases ry
 rcases hq with hq | hq
 ·obtain⟨J,r,pl,hz⟩:=I.list hq
  refine SeqAt.in_listAt (eqU x) pl.isList (λw U=>oP Y fx r fs w (by simpa using U)) ⟨.bl _,H,I,rfl, ?_⟩
  rw[show J.toArray.any (eqU x)=J.any (eqU x) by simp,qq r fs]
  exact q
 ·obtain⟨J,r,pl,hz⟩:=I.tuple hq
  refine SeqAt.in_tupleAt (eqU x) pl (λw U=>oP Y fx r fs w (by simpa using U)) ⟨.bl _,H,I,rfl, ?_⟩
  rw[show J.toArray.any (eqU x)=J.any (eqU x) by simp,qq r fs]
  exact q
theorem uu:OpR X (compareOp .NotIn) (rIn X.K true):=by
 intro pins s σ H x y v u Q I Y ry h
 obtain⟨p,xs,rfl,hq,fx,fs,q⟩:=h
 cases ry
 rcases hq with hq | hq
 ·obtain⟨J,r,pl,hz⟩:=I.list hq
  refine SeqAt.notIn_listAt (eqU x) pl.isList (λw U=>oP Y fx r fs w (by simpa using U)) ⟨.bl _,H,I,rfl, ?_⟩
  rw[show J.toArray.any (eqU x)=J.any (eqU x) by simp,qq r fs]
  exact q
 ·obtain⟨J,r,pl,hz⟩:=I.tuple hq
  refine SeqAt.notIn_tupleAt (eqU x) pl (λw U=>oP Y fx r fs w (by simpa using U)) ⟨.bl _,H,I,rfl, ?_⟩
  rw[show J.toArray.any (eqU x)=J.any (eqU x) by simp,qq r fs]
  exact q
theorem gZ:kQ X (.type "list") (λxs H Q=>∃p ys,xs=[.ref p]/\(SqL X.K H p ys\/SqT X.K H p ys)/\∀l,H l=none->Q (.ref l) (upd H l (.lst ys))):=by
 intro pins s σ H xs us Q I r h
 obtain⟨p,ys,rfl,hq,q⟩:=h
 obtain⟨u,rfl,rx⟩:=vals1 r
 cases rx
 have Y:∀(J:List Value),Vals ys J->ys.length<=sizeLine->∀(h':Heap) (U:Nat),(∀b o',s.heap.get? b=some o'->h'.get? b=some o')->
  h'.get? s.heap.objs.size=some {cls:=.type "list",dict:=none,data:=.seq J.toArray U,slots:= #[]}->EP X pins σ Q (.ref s.heap.objs.size) {s with heap:=h'}:=λJ r' hz h' U kp e=>
  ⟨.ref s.heap.objs.size,_,I.laid (t':=s.toks) kp (qh _) (show gR X.prog X.w _ h' _ (.lst ys) from ⟨hz,J,U,r',e⟩),rfl,q _ (I.hok.fresh (qh _))⟩
 rcases hq with hq | hq
 ·obtain⟨J,r',pl,hz⟩:=I.list hq
  have ab:=r'.length
  obtain⟨o,ho,hc,n,hd⟩:=pl.isList
  exact call_list_seq p (.inl rfl) ho hc hd (λh' U kp e=>Y J r' hz h' U kp e) (by simp only[sK] <;> omega)
 ·obtain⟨J,r',pl,hz⟩:=I.tuple hq
  have ab:=r'.length
  obtain⟨o,ho,hc,n,hd⟩:=pl
  exact call_list_seq p (.inr rfl) ho hc hd (λh' U kp e=>Y J r' hz h' U kp e) (by simp only[sK] <;> omega)
def tyV(K:lm)(T:String)(x:V)(H:Hp):Prop:=match x with
 | .str _=>T="str"
 | .int _=>T="int"
 | .ref p=>(T="list" /\∃xs,SqL K H p xs)\/(T="tuple" /\∃o,K.lookup p=some o/\o.cls=.type "tuple" /\o.dict=none)\/
  (T="dict" /\((∃J,H p=some (.dK J))\/∃J,H p=some (.dT J)))\/(T="set" /\∃S n,H p=some (.set S n))
 | _=>False
theorem MA{T:String}{v:Value}(I:Inv X pins σ H s)(r:RelV x v)(ty:tyV X.K T x H):
 s.TypeIs v T/\∀a,v=.ref a->∃U,s.heap.get? a=some U/\U.dict=none:=by
 cases x with
 | str z=>
  obtain⟨t,rfl⟩:=r
  cases (show T="str" from ty)
  exact⟨typeIs_str s z t,λ_ e=>nomatch e⟩
 | int i=>
  obtain⟨t,rfl⟩:=r
  cases (show T="int" from ty)
  exact⟨typeIs_int s i t,λ_ e=>nomatch e⟩
 | ref p=>
  cases r
  rcases ty with⟨rfl,xs,hq⟩ | ⟨rfl,o,hk,hc,hd⟩ | ⟨rfl,hk⟩ | ⟨rfl,S,n,hk⟩
  ·obtain⟨Y,_,pl,_⟩:=I.list hq
   refine⟨pl.isList.typeIs,λa e=> ?_⟩
   cases e
   obtain⟨o,n,e,c,hd,_⟩:=pl
   exact⟨o,e,hd⟩
  ·refine⟨⟨o,I.kIn p o hk,hc⟩,λa e=> ?_⟩
   cases e
   exact⟨o,I.kIn _ o hk,hd⟩
  ·have z:∃o,s.heap.get? p=some o/\o.ExactDict:=by
    rcases hk with⟨J,hk⟩ | ⟨J,hk⟩
    ·obtain⟨_,_,_,_,o,_,_,e,ex,_⟩:=I.hok p _ hk
     exact⟨o,e,ex⟩
    ·obtain⟨_,_,_,_,o,_,_,e,ex,_⟩:=I.hok p _ hk
     exact⟨o,e,ex⟩
   obtain⟨o,e,ex⟩:=z
   refine⟨⟨o,e,ex.1⟩,λa e2=> ?_⟩
   cases e2
   exact⟨o,e,ex.2.1⟩
  ·obtain⟨o,_,_,_,e,ex,_⟩:=I.hok p _ hk
   refine⟨⟨o,e,ex.1⟩,λa e2=> ?_⟩
   cases e2
   exact⟨o,e,ex.2.1⟩
 | _=>exact lc ty
def tBM(K:lm)(T:String)(r:V->List V->Hp->VK->Prop)(to:TE)(t:TA):TE:=λσ H Q=>to σ H λx H1=>tyV K T x H1/\t σ H1 λxs H2=>r x xs H2 Q
variable {o e : Expr} {es : List Expr} {to : TE} {t : TA} {name : Str} {apos cpos : Pos} {T id : String} {r : V → List V → Hp → VK → Prop}
theorem gW (pa:PlainAttrs T) (slot:Slot T name id) (ac:typeOf (.builtin id)=pure (.type "method_descriptor")) (hm:MtR X id r) (ho:PE X o to) (ha:PA X (e::es) t)
 (U:attributeBase o name X.env (eval o X.env)=eval o X.env:=by rfl)
 (ab:((backTo cpos (starEach (e::es) X.env)).all (λx=> !x.1)&&(backToKw cpos (keywordEach [] X.env)).all (λx=>x.1.isSome)
  &&decide ((e::es).length+([]:List Keyword).length+(if ([]:List Keyword).isEmpty then 0 else 1)<30))=true:=by rfl)
 (Y:(apos.endLine == cpos.line)=true:=by rfl) (hs:starEach (e::es) X.env=(false,eval e X.env)::starEach es X.env:=by rfl) (J:(backTo cpos (starEach es X.env)).any (·.1)=false:=by rfl):
 PE X (.Call (.Attribute o name apos) (e::es) [] cpos) (tBM X.K T r to t):=by
 intro pins s σ H Q I h
 refine wpAny_Call_method_late U ab Y rfl (thn (ho pins s σ H _ I h) λv s1 ⟨x,H1,I1,r1,ty,q1⟩=> ?_)
 obtain⟨h1,h2⟩:=MA I1 r1 ty
 refine⟨T,id,pa,slot,ac,h1,h2, ?_⟩
 have hA:=ha cpos pins s1 σ H1 _ I1 q1
 rw[hs] at hA ⊢
 refine Calls.callWith_builtin (by show (false||(backTo cpos (starEach es X.env)).any (·.1))=false;rw[J] <;> rfl) (Calls.evalArgs_plain ?_)
 exact thn hA λus s2 ⟨vs,H2,I2,r2,q2⟩=>hm pins s2 σ H2 x vs v us Q I2 r1 r2 q2
end
def MtM(X:Cx)(id:String)(r:V->List V->Hp->VK->Prop):Prop:=
 ∀(pins:List (Addr×Obj)) (s:Shared) (σ:St) (H:Hp) (x:V) (xs:List V) (v:Value) (us:List Value) (Q:VK),Inv X pins σ H s->RelV x v->Vals xs us->r x xs H Q->
  wpAny (model X.prog X.w) X.A (call (.builtin id) (v::us)) (EP X pins σ Q) X.xe s
theorem Vals.one:∀{x:V} {us:List Value},Vals [x] us->∃u,us=[u]/\RelV x u
 | _,_,.cons r .nil=>⟨_,rfl,r⟩
theorem Vals.dropLast{us:List Value}(h:Vals xs us):Vals xs.dropLast us.dropLast:=by
 induction h with
 | nil=>exact .nil
 | cons r t J=>
  cases t with
  | nil=>exact .nil
  | cons q t'=>exact .cons r J
theorem Vals.eraseIdx:∀{xs:List V} {us:List Value} (i:Nat),Vals xs us->Vals (xs.eraseIdx i) (us.eraseIdx i)
 | _,_,_,.nil=>.nil
 | _,_,0,.cons _ t=>t
 | _,_,i+1,.cons r t=>.cons r (Vals.eraseIdx i t)
theorem Vals.rep{xs:List V}{us:List Value}(h:Vals xs us):∀k:Nat,Vals (pr k xs).flatten (pr k us).flatten
 | 0=>.nil
 | k+1=>by
  rw[Fa,Fa,PJ,PJ]
  exact Vals.append h (Vals.rep h k)
theorem zQ{α:Type}:∀(l:List α) (i:Nat),(l.eraseIdx i).length<=l.length
 | [],_=>qh _
 | _::_,0=>QZ _
 | _::r,i+1=>Nat.succ_le_succ (zQ r i)
theorem foldl_rep(J:List Value):∀(k:Nat) (U:List Value),
 Sd (λY x2=>Y++x2) U.toArray (pr k J.toArray)=(U++(pr k J).flatten).toArray
 | 0,U=>by simp
 | k+1,U=>by
  have e:U.toArray++J.toArray=(U++J).toArray:=by simp
  have e2:(U++J)++(pr k J).flatten=U++(pr (k+1) J).flatten:=by
   rw[Fa,PJ,Ix]
  rw[<- e2,<- foldl_rep J k (U++J),<- e,Fa,PD]
section
variable {X : Cx} {pins : List (Addr × Obj)} {σ : St} {H : Hp} {s : Shared} {l b : Addr} {xs ys zs : List V}
theorem Inv.lset {J its':List Value} {n:Nat} {f:Array Value->Array Value} {t':Nat} (I:Inv X pins σ H s) (U:H l=some (.lst xs))
 (e:s.heap.get? l=some {cls:=.type "list",data:=.seq J.toArray n}) (Y:f J.toArray=its'.toArray) (hv:Vals ys its') (hz:ys.length<=sizeLine):
 Inv X pins σ (upd H l (.lst ys)) {s with heap:=s.heap.update l (Obj.mapSeq f),toks:=t'}:=by
 have q:=PySem.IsL.update e f
 rw[Y] at q
 refine I.write (x:=l) (e:=l) (by rw[U];exact trivial) (.inl rfl) (λb' u hb hu=>(Heap.get?_update_other s.heap (Obj.mapSeq f) (QH hb)).trans hu) ⟨_,q⟩ ?_
 exact⟨hz,its',_,hv,q⟩
theorem Inv.lnew{J:List Value}{t':Nat}(I:Inv X pins σ H s)(U:Vals ys J)(hz:ys.length<=sizeLine):
 Inv X pins σ (upd H s.heap.objs.size (.lst ys)) {s with heap:=s.heap.push {cls:=.type "list",data:=.seq J.toArray},toks:=t'}:=
 I.laid (λ_ _ q=>Heap.get?_push_of_some _ q) (qh _) ⟨hz,J,0,U,Heap.get?_push_size _ rfl⟩
theorem Inv.fresh(I:Inv X pins σ H s):H s.heap.objs.size=none:=I.hok.fresh (qh _)
theorem Inv.lstM(I:Inv X pins σ H s)(U:H l=some (.lst xs)):xs.length<=sizeLine/\∃(J:List Value) (n:Nat),Vals xs J/\xs.length=J.length/\s.heap.get? l=some {cls:=.type "list",data:=.seq J.toArray n}:=by
 obtain⟨z,J,n,r,e⟩:=I.hok l _ U
 exact⟨z,J,n,r,r.length,e⟩
theorem Jp(h:n<=sizeLine):Builtin.List.listTooLong n=false:=by
 unfold Builtin.List.listTooLong
 exact decide_eq_false (by omega)
end
section
variable {X : Cx}
def DP:V->List V->Hp->VK->Prop:=λx vs H Q=>∃l xs y,x=.ref l/\vs=[y]/\H l=some (.lst xs)/\xs.length<sizeLine/\Q .non (upd H l (.lst (xs++[y])))
theorem ee:MtM X "list.append" DP:=by
 intro pins s σ H x vs v us Q I Y rv h
 obtain⟨l,xs,y,rfl,rfl,U,hz,q⟩:=h
 cases Y
 obtain⟨u,rfl,ru⟩:=rv.one
 obtain⟨z,J,n,r,hl,e⟩:=I.lstM U
 refine call_meets F.slot_list_append ⟨_,e,rfl⟩ F.entry_list_append (F.args_list_append_2 _ _) (PySem.list_append l J.toArray n u (by rw[sK];omega)) ⟨e, ?_⟩
 refine⟨.non,_,I.lset (its':=J++[u]) U e (by simp) (r.append (.cons ru .nil)) ?_,rfl,q⟩
 rw[u8,xz]
 omega
def Fz:V->List V->Hp->VK->Prop:=λx vs H Q=>∃l xs i k y,x=.ref l/\vs=[.int i]/\H l=some (.lst xs)/\ -(2^63)<=i/\i<2^63/\seqIndex? i xs.length=some k/\xs[k]? =some y/\Q y (upd H l (.lst (xs.eraseIdx k)))
theorem IK:MtM X "list.pop" Fz:=by
 intro pins s σ H x vs v us Q I rx rv h
 obtain⟨l,xs,i,k,y,rfl,rfl,Y,h1,h2,hk,hy,q⟩:=h
 cases rx
 obtain⟨u,rfl,ru⟩:=rv.one
 obtain⟨t,rfl⟩:=ru
 obtain⟨z,J,n,r,hl,e⟩:=I.lstM Y
 obtain⟨w,hw,U⟩:=r.get hy
 refine call_meets F.slot_list_pop ⟨_,e,rfl⟩ F.entry_list_pop (F.args_list_pop_2 _ _)
  (MeetsSeq.list_pop_at l J.toArray n i t k w (fitsIndex_both h1 h2) (by rw[sK,<- hl];exact hk) (by rw[<- Qj];exact hw) (by rw[sK];omega)) ⟨e, ?_⟩
 refine⟨y,_,I.lset (its':=J.eraseIdx k) Y e ?_ (r.eraseIdx k) ?_,U,q⟩
 ·show J.toArray.eraseIdxIfInBounds k=(J.eraseIdx k).toArray
  rw[List.eraseIdxIfInBounds_toArray]
 ·have:=zQ xs k
  omega
def Ji:R2:=λx y H Q=>∃l k xs,x=.ref l/\y=.int k/\H l=some (.lst xs)/\ -(2^63)<=k/\k<2^63/\xs.length*k.toNat<=sizeLine/\
 ∀p,H p=none->Q (.ref p) (upd H p (.lst (pr k.toNat xs).flatten))
theorem len_rep{α:Type}(xs:List α)(k:Nat):(pr k xs).flatten.length=k*xs.length:=by
 induction k with
 | zero=>simp
 | succ k J=>rw[Fa,PJ,u8,J,Nat.succ_mul,Rg]
theorem FW:OpR X (binaryOp .Mult) Ji:=by
 intro pins s σ H x y v u Q I rx ry h
 obtain⟨l,k,xs,rfl,rfl,hH,h1,h2,hz,q⟩:=h
 cases rx
 obtain⟨t,rfl⟩:=ry
 obtain⟨z,J,n,r,hl,e⟩:=I.lstM hH
 have Y:J.toArray.size*k.toNat<=sizeLine:=by rw[sK,<- hl];exact hz
 have ab:¬J.toArray.size*k.toNat>(2^63-1)/8:=by
  have:(sizeLine:Nat)<=(2^63-1)/8:=by decide
  omega
 have ac:¬(!Builtin.List.listFitsIndex k)=true:=by
  rw[fitsIndex_both h1 h2]
  exact ut
 have U:¬Builtin.List.listTooLong (J.toArray.size*k.toNat)=true:=by
  rw[Jp Y]
  exact ut
 have am:Sd (λx1 x2=>x1++x2) #[] (pr (if J.toArray.isEmpty=true then 0 else k.toNat) J.toArray)=(pr k.toNat J).flatten.toArray:=by
  have f0:∀m:Nat,Sd (λx1 x2=>x1++x2) #[] (pr m J.toArray)=(pr m J).flatten.toArray:=λm=>by
   have:=foldl_rep J m []
   rw[vG] at this
   exact this
  rw[f0]
  cases J with
  | nil=>simp
  | cons a r'=>rw[if_neg (by simp)]
 refine wpAny_binaryOp_repeat_ref (T:="list") (U:="int") (by decide) ⟨_,e,rfl⟩ (λs'=>typeIs_int s' k t) noFill_list_mul F.fills_int_mul F.slot_int_rmul repeat_list F.slot_int_index.lookup
  (call_meets F.slot_int_rmul (typeIs_int s k t) F.entry_int_rmul (F.args_int_rmul_2 _ _) (int___rmul___int_list k t l J.toArray n)
   ⟨e,rfl,⟨_,e,rfl⟩,call_meets F.slot_list_mul ⟨_,e,rfl⟩ F.entry_list_mul (F.args_list_mul_2 _ _) (AutoListH.list___mul___list_int_3 l J.toArray n k t ac ab U) ⟨e, ?_⟩⟩)
 rw[am]
 exact⟨.ref _,_,I.lnew (t':=s.toks) (r.rep k.toNat) (by rw[len_rep,Rh];exact hz),rfl,q _ I.fresh⟩
end
section
variable {prog : Program} {w : World} {A : Around} {E : Value → Shared → Prop} {s : Shared}
end
section
variable {X : Cx}
end
end L2
namespace Att
open PySem PySem.W PySem.Calls PyProof.Rows
theorem xT{P:Params}{h:Heap}:∀(ns:List Int) (vs:List Value),WellAll P h vs (ns.map WData.int)->IntsAre vs ns:=by
 intro ns
 induction ns with
 | nil=>
  intro vs w
  rw[IR] at w
  cases w
  exact .nil
 | cons n ns J=>
  intro vs w
  rw[sH] at w
  cases w with
  | cons a b=>
   cases a
   exact .cons _ _ (J _ b)
theorem Gu {l:OpenLaw} {n:Nat} (hn:l.most=some n) {P:Params} {h:Heap} {args:List WData} {J:List Value}
 (U:l.row.toRowW.claim.pre args=true) (an:WellAll P h J args):
 ∃a vs ns,J=[Value.ref a]/\args=[WData.list (ns.map WData.int)]/\h.get? a=some {cls:=.type "list",data:=.seq vs.toArray}/\IntsAre vs ns/\ns.length<=n:=by
 have ap:WShape.hasAll [] args [.list .int]=true:=(pre_splitW U).1
 have hc:l.pre.holds [] {args:=args}=true:=(pre_splitW U).2
 obtain⟨d,r,rfl,h1,h2⟩:=hasAllW_cons ap
 obtain rfl:=hasAllW_nil h2
 obtain⟨xs,rfl,h3⟩:=hasW_list h1
 obtain⟨ns,rfl⟩:=items_int h3
 have Y:ns.length<=n:=by
  unfold OpenLaw.pre at hc
  have h4:(WTm.not (.lt (.lit (.int (n:Int))) (.len (.arg 0)))).holds [] {args:=[.list (ns.map .int)]}=true:=by
   have h4:=(holds_andW hc).1
   rw[hn] at h4
   exact h4
  have h5:=condW_of h4 (w_not (w_lt w_lit (w_len_list (w_arg rfl))))
  rw[nW] at h5
  refine Nat.le_of_not_lt λq=> ?_
  have q':(n:Int)<((ns.length:Nat):Int):=by omega
  first
   | (rw[decide_eq_true q'] at h5;exact absurd h5 (by decide))
   | (simp at h5;omega)
 cases an with
 | cons w1 w2=>
  cases w2
  cases w1 with
  | list ho ab=>exact⟨_,_,ns,rfl,rfl,ho,xT ns _ ab,Y⟩
theorem GS(l:OpenLaw)(args:List WData):l.row.toRowW.claim.post args (.bool true) args=true:=
 postW_of (r:=l.row.toRowW) (X:=(true == true))
  (show WShape.has [] (.bool true) .bool=true by first | rfl | decide | simp[WShape.has,WShape.arms,WShape.armsAll])
  (show (WTm.eq .res (.lit (.bool true))).value [] {args:=args,res:=some (.bool true),after:=args}=some (.bool (true == true)) from w_eq_bool (w_res rfl) w_lit) rfl
theorem De {l:OpenLaw} {n:Nat} {q:Program} {J:List Str} {XP:(Str->Option Value)->Heap->Prop} {YP:World->Heap->Prop} {d:DefRec}
 (hn:l.most=some n) (az:d.params.defaults=[])
 (call:∀(w:World) (s₀ U:Shared) (mg mb:Str->Option Value) (fa:Addr) (o:Obj) (pm cd ab:Value) (a:Addr) (vs:List Value) (ns:List Int),
  Ground q J [] XP w s₀ mg mb U.heap->YP w U.heap->
  U.heap.get? fa=some o->o.data=.func (docDef d.name d.params d.body d.scope pm cd ab)->U.heap.CodeRec cd d.name->mg d.name=some (.ref fa)->
  U.heap.get? a=some {cls:=.type "list",data:=.seq vs.toArray}->IntsAre vs ns->ns.length<=n->U.gens= #[]->
  codeAny (model l.prog w) callerA (.call (.ref fa) ⟨[.ref a],[]⟩) (λr s'=>r=.ok (.ret (.bool true))/\OldK U.heap s'.heap/\s'.os=U.os/\AllBare s'.gens) U):
 WalkO q J XP YP l.row.toRowW d [] (λf vs=>Se f vs):=by
 intro w s₀ U mg mb G Y fa o pm cd ab dV kV ho hd a3 hD a4 hg args a9 as am bb bm a5 bn
 obtain rfl:dV=.none:=Dflts.none hD az
 obtain rfl:kV=.none:=Dflts.noKw hD
 obtain⟨a,vs,ns,rfl,rfl,an,ac,ap⟩:=Gu hn am a5
 refine enter_call (codeAny_mono (call w s₀ U mg mb fa o pm cd ab a vs ns G Y ho (fd_plain hd) a3 a4 an ac ap hg) λr s' hq=> ?_)
 obtain⟨rfl,h2,h3,h4⟩:=hq
 exact⟨.inl ⟨.bool true,.bool true,[],rfl,λ_=>rfl,.bool true,GS l _,λ_=>⟨RY,λ_ hm=>(nomatch hm)⟩⟩,h2,h3,h4⟩
section
variable {prog : Program} {w : World} {A : Around} {E : Value → Shared → Prop} {s : Shared} {K : Frag}
end
end Att
namespace L2
open PySem PySem.Spec PyProof.Rows
variable {P : Program} {w : World} {K : lm} {fd : FuncData} {x qual : Str} {vs : List Value} {st : Stmt} {f : Addr} {xs : List V} {scope : Scope} {l m : List (Str × Addr)} {s : Shared} {own cap : List Str} {caps : List Nat} {pins : List (Addr × Obj)} {σ : St} {H : Hp} {fp : List Addr} {i j n nrem N : Nat} {p : Array Nat}
theorem zc:∀{vs:List Value} {ns:List Int},IntsAre vs ns->Vals (ns.map V.int) vs
 | _,_,.nil=>.nil
 | _,_,.cons n t h=>.cons ⟨t,rfl⟩ (zc h)
def EY(H:Hp):Prop:=∀b,H b=none\/∃o xs,H b=some (.frz o (.lst xs))
theorem Iu {P:Program} {w:World} {K:lm} {mg mb:Str->Option Value} {CX:CXT} {k:Nat} {fa a:Addr} {fd:FuncData} {x:Str} {sp:Sp} {J:Shared} {vs:List Value} {ns:List Int}
 (KX:K.In J.heap) (an:J.heap.Ns mainGlobals mg) (hb:J.heap.Ns builtinsNs mb) (a7:∀x:Str,x≠"__name__" ->mb x=bootBuiltins x) (ap:J.heap.NoLimit) (Y:J.heap.NoSeer) (hg:J.gens= #[])
 (ha:J.heap.get? a=some {cls:=.type "list",data:=.seq vs.toArray}) (hi:IntsAre vs ns) (hl:ns.length<=sizeLine) (hr:fb k callerA)
 (F:∀base:Heap,K.In base->base.Ns mainGlobals mg->jX P w K mg base CX k fa fd [x] sp) (am:∀(s:Shared) (u:Value),BindsTo s fd ⟨[u],[]⟩ [(x,u)])
 (a8:∀H:Hp,EY H->SqL K H a (ns.map V.int)->sp [.ref a] H (λv _=>v=.bl true) λ_ _ _=>False)
 (a9:∀H e s',CX [] H J (λ_ _ _=>False) e s'->False):
 codeAny (model P w) callerA (.call (.ref fa) ⟨[.ref a],[]⟩) (λr s'=>r=.ok (.ret (.bool true))/\OldK J.heap s'.heap/\s'.os=J.os/\AllBare s'.gens) J:=by
 have rv:=zc hi
 have as:=hi.length
 have ac:∀H:Hp,EY H->SqL K H a (ns.map V.int)->HOk P w H J.heap->(∀b,H b≠none->b=a)->(H a≠none->K.lookup a=none)->
  codeAny (model P w) callerA (.call (.ref fa) ⟨[.ref a],[]⟩) (λr s'=>r=.ok (.ret (.bool true))/\OldK J.heap s'.heap/\s'.os=J.os/\AllBare s'.gens) J:=by
  intro H hO hS az hA hK
  have U:∀{b:Addr} {o:Obj},J.heap.get? b=some o->H b=none->(pT J.heap H).get? b=some o:=λe n=>IW e n
  have bd:∀{b:Addr} {o:Obj} {es:Array DictEntry} {ep:Nat},J.heap.get? b=some o->o.data=.dict es ep->H b=none:=λ{b o es ep} e d=>by
   cases q:H b with
   | none=>rfl
   | some u=>
    have e':b=a:=hA b (by rw[q];simp)
    subst e'
    rw[ha] at e;cases e
    have d':Data.seq vs.toArray _=Data.dict es ep:=d
    cases d'
  have ab:∀{b:Addr} {m:Str->Option Value},J.heap.Ns b m->(pT J.heap H).Ns b m:=λ{b m} ⟨o,es,ep,e,d,r⟩=>⟨o,es,ep,U e (bd e d),d,r⟩
  have a2:K.In (pT J.heap H):=λb o e=>U (KX b o e) (by
   cases q:H b with
   | none=>rfl
   | some u=>
    have e':b=a:=hA b (by rw[q];simp)
    subst e'
    rw[hK (by rw[q];simp)] at e;cases e)
  have be:∀{b:Addr} {o:Obj},J.heap.get? b=some o->o.cls=.type "module" ->H b=none:=λ{b o} e d=>by
   cases q:H b with
   | none=>rfl
   | some u=>
    have e':b=a:=hA b (by rw[q];simp)
    subst e'
    rw[ha] at e;cases e
    exact absurd (show Value.type "list" =Value.type "module" from d) (by decide)
  have hN:(pT J.heap H).NoSeer:=⟨let ⟨mc,x,y⟩:=Y.statics;⟨mc,ab x,y⟩,let ⟨mc,x,y⟩:=Y.mods;⟨mc,ab x,y⟩,let ⟨mc,x,y⟩:=Y.imp;⟨mc,ab x,y⟩,let ⟨mg',bm,ob,x,y,z,u,v⟩:=Y.main;⟨mg',bm,ob,ab x,y,U z (be z u),u,v⟩⟩
  have hM:Mod K mg (pT J.heap H):=⟨a2,ab an,⟨mb,ab hb,a7⟩,(let ⟨mc,h1,h2⟩:=ap;⟨mc,ab h1,h2⟩),hN⟩
  have e0:sV P w K mg (pT J.heap H) callerA [] J H:=⟨rfl,hM,λb o e=>K9 e,Nat.le_of_eq (GR _ _),trivial,λb hb=>absurd (show b∈([]:List Addr) from hb) (by simp),az,.of_eq hg⟩
  refine codeAny_mono ((F _ a2 (ab an)).run callerA [] J H ⟨[.ref a],[]⟩ [.ref a] [.ref a] _ _ hr e0 (am J (.ref a)) (.cons rfl .nil) (a8 H hO hS)) λr s' h=> ?_
  cases r with
  | error e=>exact(a9 H e s' h).elim
  | ok fl=>
   cases fl with
   | next=>exact lc h
   | brk=>exact lc h
   | cont=>exact lc h
   | ret u=>
    obtain⟨v,H',os,a3,un,a4,r',q⟩:=h
    have q':v=.bl true:=q
    subst q'
    obtain rfl:u=Value.bool true:=r'
    refine⟨rfl,OldK.of_keep λb o e=> ?_,os,a3⟩
    cases q:H b with
    | none=>exact un.keep b o e q (by intro z;exact absurd (show b∈([]:List Addr) from z) (by simp)) (by simp)
    | some u=>
     rcases hO b with z | ⟨ob,xs,z⟩
     ·rw[q] at z;cases z
     ·have z2:=un.frzs b ob _ z
      obtain⟨e1,_⟩:=az b _ z
      obtain⟨e2,_⟩:=a4 b _ z2
      rw[e] at e1;cases e1
      exact e2
 cases hk:K.lookup a with
 | some o=>
  have e:=KX a o hk
  rw[ha] at e
  cases e
  refine ac (λ_=>none) (λ_=>.inl rfl) (.inr ⟨_,vs.toArray,_,hk,rfl,rfl,rfl,by rw[sK,as];exact hl,by simpa using rv⟩) (λb u z=>by have z':(none:Option HO)=some u:=z;cases z') (λb z=>absurd rfl z) λz=>absurd rfl z
 | none=>
  refine ac (λb=>if b=a then some (.frz {cls:=.type "list",data:=.seq vs.toArray} (.lst (ns.map V.int))) else none) (λb=> ?_) (.inl (.inr ⟨{cls:=.type "list",data:=.seq vs.toArray},if_pos rfl⟩)) (λb u z=> ?_) (λb z=> ?_) λ_=>hk
  ·by_cases hb:b=a
   ·exact .inr ⟨_,_,if_pos hb⟩
   ·exact .inl (if_neg hb)
  ·by_cases hb:b=a
   ·have z':=(if_pos hb).symm.trans z
    cases z'
    subst hb
    exact⟨ha,by rw[nW];exact hl,vs,_,rv,ha⟩
   ·have z':=(if_neg hb).symm.trans z
    cases z'
  ·by_cases hb:b=a
   ·exact hb
   ·exact absurd (if_neg hb) z
theorem Lp {l:Rw} {n k:Nat} {q:Program} {U:List Str} {XP:(Str->Option Value)->Heap->Prop} {YP:World->Heap->Prop} {d:DefRec} {K:Params->lm} {CX:World->CXT} {sp:World->Sp} {x:Str}
 (hn:l.most=some n) (am:n<=sizeLine) (an:d.params.defaults=[]) (hr:fb k callerA) (hi:importsNone q=true)
 (hY:∀(w:World) (h:Heap),YP w h->(K w.params).In h)
 (F:∀(w:World) (mg:Str->Option Value) (fa:Addr) (h:Heap),(K w.params).In h->h.Ns mainGlobals mg->mg d.name=some (.ref fa)->
  ∃fd:FuncData,(∀(s:Shared) (u:Value),BindsTo s fd ⟨[u],[]⟩ [(x,u)])/\
   ∀base:Heap,(K w.params).In base->base.Ns mainGlobals mg->jX l.prog w (K w.params) mg base (CX w) k fa fd [x] (sp w))
 (ap:∀(w:World) (H:Hp) (a:Addr) (ns:List Int),ns.length<=n->EY H->SqL (K w.params) H a (ns.map V.int)->sp w [.ref a] H (λv _=>v=.bl true) λ_ _ _=>False)
 (as:∀(w:World) (H:Hp) (s:Shared) (e:Value) (s':Shared),CX w [] H s (λ_ _ _=>False) e s'->False):
 Ss q U XP YP l.row.toRowW d [] (λf vs=>Se f vs):=by
 refine Att.De hn an λw s₀ s₁ mg mb fa o pm cd a6 a vs ns G Y ho hd a7 az ac ab J hg=> ?_
 have KX:=hY w _ Y
 obtain⟨fd,hb,hF⟩:=F w mg fa _ KX G.T.g az
 exact Iu KX G.T.g G.T.b G.T.builtins G.T.nolimit (G.T.seer hi) hg ac ab (yB J am) hr hF hb (λH hO hS=>ap w H a ns J hO hS) λH e s'=>as w H s₁ e s'
def inClass(s:Stmt)(j:Nat):Stmt:=match s with
 | .ClassDef _ _ _ body _ _ _ _ _ _ _=>body.getD j (.Pass ⟨0,0,0,0⟩)
 | _=>.Pass ⟨0,0,0,0⟩
def fj(s:Stmt):Arguments:=match s with
 | .FunctionDef _ a _ _ _ _ _ _ _ _=>a
 | _=>{posonlyargs:=[],args:=[],vararg:=none,kwonlyargs:=[],kw_defaults:=[],kwarg:=none,defaults:=[]}
def d3(s:Stmt):List Stmt:=match s with
 | .FunctionDef _ _ b _ _ _ _ _ _ _=>b
 | _=>[]
def aL(s:Stmt):Scope:=match s with
 | .FunctionDef _ _ _ _ _ _ sc _ _ _=>sc
 | _=>{kind:=.function,names:=[],isGenerator:=false,isCoroutine:=false}
abbrev E0:XK:=λ_ _ _=>False
structure Fun(K:lm)(x qual:Str)(st:Stmt)(f:Addr)(fd:FuncData):Prop where
 ex:∃(oc:Value) (od:Option Addr) (kV doc pm:Value) (an:Option Addr) (cdv ct:Value) (osl:Array (Option Value)),
  fd=At x qual (fj st) (d3 st) (aL st) .none kV doc pm an cdv ct/\K.lookup f=some ⟨oc,od,.func fd,osl⟩/\Pu K cdv qual=true
 kp:Do K (.ref f)=true
section
variable {P : Program} {w : World} {K : lm} {mg : Str → Option Value} {base : Heap}
theorem Fun.binds {ps:List Str} (F:Fun K x qual st f fd)
 (h:∀(kV J Y:Value) (an:Option Addr) (U ct:Value) (us:List Value),us.length=ps.length->bindArgs (At x qual (fj st) (d3 st) (aL st) .none kV J Y an U ct) ⟨us,[]⟩=pure (ps.zip us)):Binds K fd ps []:=by
 obtain⟨oc,od,kV,J,Y,an,U,ct,ac,rfl,lk,am⟩:=F.ex
 exact .all (h kV J Y an U ct)
theorem qg {oc:Value} {od an:Option Addr} {Y:Array (Option Value)} {kV U pm J ct:Value} (l:K.lookup f=some ⟨oc,od,.func (At x qual (fj st) (d3 st) (aL st) .none kV U pm an J ct),Y⟩)
 (c:Pu K J qual=true) (k:Do K (.ref f)=true):Fun K x qual st f (At x qual (fj st) (d3 st) (aL st) .none kV U pm an J ct):=⟨⟨oc,od,kV,U,pm,an,J,ct,Y,rfl,l,c⟩,k⟩
end
section
variable {X : Cx}
theorem pv (i:Nat) {pos:Pos} (U:X.N[i]? =some x:=by rfl) (Y:Vis X.env.scope x:=by first | exact nu rfl | exact EQ (nu rfl) | exact EQ (EQ rfl)) (hd:(x == ("__debug__" :Str))=false:=by decide)
 (J:(x == ("__classdict__" :Str))=false:=by decide):PE X (.Name x pos) (HN i):=Md U Y hd J
end
theorem tD{A B:Prop}(h:B):if false=true then A else B:=by
 rw[if_neg ut]
 exact h
theorem t6{A B:Prop}(h:A):if true=true then A else B:=by
 rw[if_pos rfl]
 exact h
def bP(H H':Hp):Prop:=∀b o,H b=some o->H' b=some o
theorem bP.refl(H:Hp):bP H H:=λ_ _ h=>h
theorem bP.trans{H H1 H2:Hp}(a:bP H H1)(b:bP H1 H2):bP H H2:=λc o h=>b c o (a c o h)
theorem bP.seq{H H':Hp}{a:Addr}(e:bP H H')(h:SqL K H a xs):SqL K H' a xs:=by
 rcases h with(h | ⟨o,h⟩) | h
 ·exact .inl (.inl (e _ _ h))
 ·exact .inl (.inr ⟨o,e _ _ h⟩)
 ·exact .inr h
def eT(env:Env):List (Str×NameKind)->List (Str×Addr)->List (Str×Addr)
 | [],cs=>cs
 | (n,k)::r,cs=>if k == .free then eT env r ((n,(env.cells.lookup n).getD 0)::cs) else eT env r cs
theorem yi{env:Env}:∀(names:List (Str×NameKind)) (J:List (Str×Addr)),(∀n,(n,NameKind.free)∈names->∃c,env.cells.lookup n=some c)->
 (forIn names J λ(x:Str×NameKind) (r:List (Str×Addr))=>(if (x.2 == NameKind.free)=true then do
  let a <- cellOf env x.1
  pure (P9 ((x.1,a)::r)) else pure (P9 r):Sem (ForInStep (List (Str×Addr)))))=pure (eT env names J)
 | [],J,_=>rfl
 | (n,k)::r,J,h=>by
  rw[List.forIn_cons]
  by_cases hk:(k == NameKind.free)=true
  ·have U:k=.free:=by simpa using hk
   subst U
   obtain⟨c,hc⟩:=h n pi
   simp only[hk,if_true,eT,cellOf,hc,pure_bind,Ri]
   exact yi r _ λm hm=>h m (ol _ hm)
  ·simp only[hk,if_false,eT,pure_bind]
   exact yi r J λm hm=>h m (ol _ hm)
theorem AD{scope:Scope}{env:Env}(h:∀n,(n,NameKind.free)∈scope.names->∃c,env.cells.lookup n=some c):closureFor scope env=pure (eT env scope.names []):=by
 have:=yi scope.names [] h
 simp only[closureFor]
 rw[<- this]
 exact bind_pure _
theorem rg{env:Env}:∀(names:List (Str×NameKind)) (J:List (Str×Addr)),(∀n,(n,NameKind.free)∈names->∃c,env.cells.lookup n=some c)->
 (∀x c,J.lookup x=some c->env.cells.lookup x=some c)->∀x c,(eT env names J).lookup x=some c->env.cells.lookup x=some c
 | [],J,_,h,x,c,e=>h x c e
 | (n,k)::r,J,hf,h,x,c,e=>by
  unfold eT at e
  by_cases hk:(k == NameKind.free)=true
  ·rw[if_pos hk] at e
   have Y:k=.free:=by simpa using hk
   subst Y
   refine rg r _ (λm hm=>hf m (ol _ hm)) (λy d q=> ?_) x c e
   obtain⟨c',U⟩:=hf n pi
   rw[Go] at q
   split at q
   ·rename_i hy
    have:y=n:=by simpa using hy
    subst this
    rw[U,Ri] at q
    rw[U];exact q
   ·exact h y d q
  ·rw[if_neg hk] at e
   exact rg r J (λm hm=>hf m (ol _ hm)) h x c e
theorem p6{env:Env}:∀(names:List (Str×NameKind)) (J:List (Str×Addr)) (x:Str),(∃c,J.lookup x=some c)->∃c,(eT env names J).lookup x=some c
 | [],J,_,h=>h
 | (n,k)::r,J,x,h=>by
  unfold eT
  by_cases hk:(k == NameKind.free)=true
  ·rw[if_pos hk]
   refine p6 r _ x ?_
   rw[Go]
   split
   ·exact⟨_,rfl⟩
   ·exact h
  ·rw[if_neg hk]
   exact p6 r J x h
theorem nC{env:Env}:∀(names:List (Str×NameKind)) (J:List (Str×Addr)) (x:Str),(x,NameKind.free)∈names->∃c,(eT env names J).lookup x=some c
 | (n,k)::r,J,x,h=>by
  unfold eT
  rcases sn.mp h with e | h
  ·cases e
   rw[if_pos (by rfl)]
   refine p6 r _ n ?_
   exact⟨_,by rw[Go];simp;rfl⟩
  ·by_cases hk:(k == NameKind.free)=true
   ·rw[if_pos hk];exact nC r _ x h
   ·rw[if_neg hk];exact nC r J x h
theorem fP:∀(names:List (Str×NameKind)) (n:Nat) (J:List (Str×Addr)),cellsFrom n names J=cellsFrom n names []++J
 | [],_,_=>rfl
 | (x,k)::r,n,J=>by
  unfold cellsFrom
  split
  ·rw[fP r (n+1) ((x,n)::J),fP r (n+1) [(x,n)],Ix];rfl
  ·exact fP r n J
theorem mS:∀(names:List (Str×NameKind)) (n:Nat) {x:Str} {c:Addr},(x,c)∈cellsFrom n names []->(x,NameKind.cell)∈names
 | [],_,_,_,h=>nomatch h
 | (y,k)::r,n,x,c,h=>by
  unfold cellsFrom at h
  split at h
  ·rename_i hk
   have J:k=.cell:=by simpa using hk
   rw[fP] at h
   rcases sE.mp h with q | q
   ·exact ol _ (mS r _ q)
   ·cases sB.mp q
    rw[J]
    exact pi
  ·exact ol _ (mS r _ h)
theorem Eu{c:Addr}(h:(l++m).lookup x=some c):l.lookup x=some c\/(l.lookup x=none/\m.lookup x=some c):=by
 rw[Q1] at h
 cases e:l.lookup x with
 | none=>rw[e] at h;exact .inr ⟨rfl,h⟩
 | some d=>rw[e] at h;exact .inl h
theorem uw(h:l.lookup x=none):(l++m).lookup x=m.lookup x:=by rw[Q1,h];rfl
theorem BF(h:∃c,m.lookup x=some c):∃c,(l++m).lookup x=some c:=by
 cases e:l.lookup x with
 | none=>rw[uw e];exact h
 | some c=>exact⟨c,by rw[Q1,e];rfl⟩
theorem Gw(h:Heap)(names:List (Str×NameKind)):CellsOk (pushCells (h.push {cls:=.type "dict",data:=.dict #[]}) names) (h.objs.size+1) (cellsFrom (h.objs.size+1) names []):=by
 have:=cellsFrom_ok names (h.push {cls:=.type "dict",data:=.dict #[]}) (h.objs.size+1) [] ⟨λ_ _ hm=>(nomatch hm),RY⟩ (by rw[Heap.size_push];exact qh _)
 rwa [Heap.size_push] at this
theorem Dm {M:Model} {A:Around} {E:Value->Shared->Prop} {s:Shared} {scope:Scope} {globals:Addr} {J:List (Str×Addr)} {qual:Str} {func:Option Addr} {code:Value} {outer:Env} {builtins:Addr} {Q:Env->Shared->Prop}
 (U:Q {scope:=scope,locals:=s.heap.objs.size,globals:=globals,cells:=cellsFrom (s.heap.objs.size+1) scope.names J,qual:=qual,func:=func,code:=outer.code,frame:=outer.frame,builtins:=outer.builtins} {s with heap:=pushCells (s.heap.push {cls:=.type "dict",data:=.dict #[]}) scope.names}):
 wpAny M A (newFunctionEnv scope globals J [] qual func code (some outer) builtins) Q E s:=by
 simp only[newFunctionEnv,Option.isSome_some,if_true]
 refine wpAny_bind (wpAny_alloc ?_)
 refine wpAny_bind (wpAny_layCells _ (λname kind cells=>by cases hkc:kind == NameKind.cell <;> simp[hkc]) _ _ _ _ ?_)
 rw[show ({s with heap:=s.heap.push {cls:=.type "dict",data:=.dict #[]}}:Shared).heap.objs.size=s.heap.objs.size+1 from Heap.size_push ..]
 refine wpAny_bind ?_
 rw[List.forIn_nil]
 exact wpAny_pure (wpAny_pure U)
def cxC(X:Cx)(scope:Scope)(N':List Str)(fp:List Addr)(s:Shared)(H:Hp):Cx where
 prog:=X.prog
 w:=X.w
 K:=X.K
 mg:=X.mg
 base:=X.base
 A:=X.A
 N:=N'
 s₀:=s
 H₀:=H
 env:=compEnvC scope (cellsFrom (s.heap.objs.size+1) scope.names (eT X.env scope.names [])) s.heap.objs.size X.env
 outer:=X.stack
 stack:=X.stack
 ex:=fp
 calm:=X.calm
 fn:=λx=>scope.names.lookup x == some .cell
 pn:=[]
 xe:=λ_ _=>False
def kT(X:Cx)(scope:Scope):List Str->List Nat->Prop
 | [],[]=>True
 | x::xs,j::js=>X.N[j]? =some x/\(X.env.scope.names.lookup x=some .cell\/X.env.scope.names.lookup x=some .free)/\scope.names.lookup x=some .free/\kT X scope xs js
 | _,_=>False
theorem kT.get{X:Cx}{scope:Scope}:∀{xs:List Str} {J:List Nat} {i:Nat} {x:Str},kT X scope xs J->xs[i]? =some x->
 ∃j,J[i]? =some j/\X.N[j]? =some x/\(X.env.scope.names.lookup x=some .cell\/X.env.scope.names.lookup x=some .free)/\scope.names.lookup x=some .free
 | [],_,_,_,_,e=>by simp at e
 | _::_,[],_,_,h,_=>h.elim
 | y::ys,j::J,0,x,h,e=>by
  simp at e;subst e
  exact⟨j,rfl,h.1,h.2.1,h.2.2.1⟩
 | y::ys,j::J,i+1,x,h,e=>by
  obtain⟨U,e1,r⟩:=kT.get (i:=i) (x:=x) h.2.2.2 (by simpa using e)
  exact⟨U,by simpa using e1,r⟩
theorem kT.length{X:Cx}{scope:Scope}:∀{xs:List Str} {J:List Nat},kT X scope xs J->xs.length=J.length
 | [],[],_=>rfl
 | [],_::_,h=>h.elim
 | _::_,[],h=>h.elim
 | _::_,_::_,h=>by rw[tz,tz,kT.length h.2.2.2]
def nv(m:Nat)(caps:List Nat)(σ:St):St:=pr m none++caps.map λi=>(σ[i]?).getD none
theorem lookup_mem{α β:Type}[BEq α][LawfulBEq α]:∀{l:List (α×β)} {x:α} {b:β},l.lookup x=some b->(x,b)∈l
 | [],_,_,h=>by simp at h
 | (a,c)::r,x,b,h=>by
  rw[Go] at h
  split at h
  ·rename_i q
   have:x=a:=by simpa using q
   subst this
   cases h
   exact pi
  ·exact ol _ (lookup_mem h)
section
variable {X : Cx}
theorem ic{scope:Scope}{env:Env}:∀{names:List (Str×NameKind)} {x:Str} {k:NameKind},(names.map λ(n,k)=>if (k == NameKind.free&&env.scope.kind == .function&&env.kindOf n == some .cell) then (n,NameKind.cell) else (n,k)).lookup x=some k->
 ∃J,names.lookup x=some J/\(J=k\/(J=.free/\k=.cell))
 | [],_,_,h=>by simp at h
 | (n,k0)::r,x,k,h=>by
  have h':Qc x ((if (k0 == NameKind.free&&env.scope.kind == .function&&env.kindOf n == some .cell)=true then (n,NameKind.cell) else (n,k0))::r.map _)=some k:=h
  by_cases hc:(k0 == NameKind.free&&env.scope.kind == .function&&env.kindOf n == some .cell)=true
  ·rw[if_pos hc,Go] at h'
   rw[Go]
   split at h'
   ·rename_i q
    cases h'
    have hk:k0=.free:=by simp only[IN] at hc;simpa using hc.1.1
    exact⟨k0,rfl,.inr ⟨hk,rfl⟩⟩
   ·rename_i q
    exact ic (scope:=scope) h'
  ·rw[if_neg hc,Go] at h'
   rw[Go]
   split at h'
   ·rename_i q
    cases h'
    exact⟨k0,rfl,.inl rfl⟩
   ·rename_i q
    exact ic (scope:=scope) h'
structure mO(X:Cx)(scope:Scope)(own cap:List Str)(caps:List Nat):Prop where
 kind:scope.kind=.function
 cell:∀y∈scope.names,y.2=.cell->scope.names.lookup y.1=some .cell
 nm:∀y∈scope.names,y.2=.local->scope.names.lookup y.1=some .local
 fr:∀y∈scope.names,y.2=.free->y.1∈cap
 caps:kT X scope cap caps
 nd:(own++cap).Nodup
theorem mO.out{X:Cx}(S:mO X scope own cap caps){n:Str}(h:(n,NameKind.free)∈scope.names):X.env.scope.names.lookup n=some .cell\/X.env.scope.names.lookup n=some .free:=by
 obtain⟨i,hi,e⟩:=Pn (S.fr _ h rfl)
 obtain⟨_,_,_,k,_⟩:=S.caps.get (i:=i) (x:=n) (by rw[na hi,e])
 exact k
theorem HS {fp:List Addr} {h1:Heap} {tk:Nat} (Sc:mO X scope own cap caps) (I:Inv X pins σ H s)
 (Y:∀b∈fp,lW X pins H b) (as:∀b∈fp,∃o,s.heap.get? b=some o) (a4:h1.Ns s.heap.objs.size λ_=>none)
 (hk:∀b o,s.heap.get? b=some o->h1.get? b=some o) (U:CellsOk h1 (s.heap.objs.size+1) (cellsFrom (s.heap.objs.size+1) scope.names [])):
 Inv (cxC X scope (own++cap) fp s H) [] (nv own.length caps σ) H {s with heap:=h1,toks:=tk}:=by
 have a5:∀n,(n,NameKind.free)∈scope.names->∃c,X.env.cells.lookup n=some c:=λn hn=>I.ok.has n (Sc.out hn)
 have sub:∀x c,(eT X.env scope.names []).lookup x=some c->X.env.cells.lookup x=some c:=rg scope.names [] a5 (λx c e=>by simp at e)
 have fresh:H s.heap.objs.size=none:=I.hok.fresh (qh _)
 have J:∀x c,(cellsFrom (s.heap.objs.size+1) scope.names (eT X.env scope.names [])).lookup x=some c->((x,c)∈cellsFrom (s.heap.objs.size+1) scope.names []/\s.heap.objs.size<c)\/((cellsFrom (s.heap.objs.size+1) scope.names []).lookup x=none/\X.env.cells.lookup x=some c/\c<s.heap.objs.size):=λx c e=>by
  rw[fP] at e
  rcases Eu e with q | ⟨q0,q⟩
  ·exact .inl ⟨mem_of_lookup q,(U.empty x c (mem_of_lookup q)).2⟩
  ·have q':=sub x c q
   obtain⟨v,o,ho,_⟩:=I.cell x c q'
   exact .inr ⟨q0,q',Heap.lt_size ho⟩
 have ab:∀x,scope.names.lookup x=some .free->(cellsFrom (s.heap.objs.size+1) scope.names []).lookup x=none:=λx hx=>by
  cases e:(cellsFrom (s.heap.objs.size+1) scope.names []).lookup x with
  | none=>rfl
  | some c=>
   have:=Sc.cell _ (mS _ _ (mem_of_lookup e)) rfl
   dsimp only at this
   rw[hx] at this
   cases this
 refine⟨⟨I.ok.mod,Sc.kind,I.ok.glob,I.ok.blt,qh _,λx y c e1 e2=> ?_,λx hx=> ?_,λx c h e=> ?_,I.ok.hd,I.ok.frames,.inl rfl,λb hb=>⟨?_,λx c e=> ?_⟩,I.bs,yB I.ok.bsz I.sz,λb o e hb=> ?_,λb hb hs=> ?_,I.stack,I.stkFree⟩,
  rfl,I.bare,Un.kept hk,⟨_,a4,λi x v e1 e2 e3=> ?_⟩,λx c e=> ?_,fresh,λx c e=> ?_,λp hp=>absurd (show p∈([]:List (Addr×Obj)) from hp) (by simp),I.hok.kept hk, ?_⟩
 ·rcases J x c e1 with⟨p1,p2⟩ | ⟨_,p1,p2⟩ <;> rcases J y c e2 with⟨q1,q2⟩ | ⟨_,q1,q2⟩
  ·exact name_of_addr U.apart p1 q1
  ·exact absurd p2 (Sf.mpr (PQ q2))
  ·exact absurd q2 (Sf.mpr (PQ p2))
  ·exact I.ok.inj x y c p1 q1
 ·have a6:(relabel scope X.env).names.lookup x=some .cell\/(relabel scope X.env).names.lookup x=some .free:=hx
  have:(x,NameKind.free)∈scope.names\/scope.names.lookup x=some .cell:=by
   rcases a6 with q | q
   ·obtain⟨k',e1,e2⟩:=ic (scope:=scope) q
    rcases e2 with rfl | ⟨rfl,_⟩
    ·exact .inr e1
    ·exact .inl (lookup_mem e1)
   ·obtain⟨k',e1,e2⟩:=ic (scope:=scope) q
    rcases e2 with rfl | ⟨rfl,z⟩
    ·exact .inl (lookup_mem e1)
    ·cases z
  rcases this with q | q
  ·show ∃c,(cellsFrom (s.heap.objs.size+1) scope.names (eT X.env scope.names [])).lookup x=some c
   rw[fP]
   exact BF (nC scope.names [] x q)
  ·exact Re.mp (Qd scope.names _ _ (.inl q))
 ·have h':scope.names.lookup x=some .cell:=by
   have:(scope.names.lookup x == some NameKind.cell)=true:=h
   simpa using this
  rcases J x c e with⟨_,p⟩ | ⟨p,_⟩
  ·exact PQ p
  ·have:=Qd scope.names (s.heap.objs.size+1) [] (.inl h')
   rw[p] at this
   cases this
 ·obtain⟨o,ho⟩:=as b hb
  exact wS (Heap.lt_size ho)
 ·rcases J x c e with⟨_,p⟩ | ⟨_,p,_⟩
  ·obtain⟨o,ho⟩:=as b hb
   exact λz=>absurd (Heap.lt_size ho) (Sf.mpr (PQ (z▸p)))
  ·exact(Y b hb).2.2.2.2.1 x c p
 ·rcases(Y b hb).2.2.2.1 with z | z
  ·exact I.ok.noex b o e z
  ·exact absurd (wh (Heap.lt_size e) (yB I.ok.bsz z)) (Ps _)
 ·rcases sn.mp (I.stkSub b hs) with z | z
  ·exact(Y b hb).2.1 z
  ·exact(Y b hb).2.2.1 z
 ·have a1:(own++cap)[i]? =some x:=e1
  have hi:own.length<=i:=by
   by_cases q:i<own.length
   ·unfold nv at e2
    rw[tt (by simpa using q),wE] at e2
    split at e2 <;> cases e2
   ·omega
  rw[re hi] at a1
  obtain⟨j,hj,hN,a2,ac⟩:=Sc.caps.get a1
  unfold nv at e2
  rw[re (by simpa using hi)] at e2
  simp only[Qi,sI,hj,IH,RZ] at e2
  have a7:σ[j]? =some (some v):=by
   cases q:σ[j]? with
   | none=>rw[q] at e2;simp at e2
   | some ov=>rw[q] at e2;simp at e2;rw[e2]
  obtain⟨m,hm,hl⟩:=I.loc
  obtain⟨u,ru,lk⟩:=hl j x v hN a7 (a2.elim (λz=>.inr (.inl z)) λz=>.inr (.inr z))
  refine⟨u,ru,.inr ⟨?_, ?_⟩⟩
  ·rcases e3 with q | q | q
   ·obtain⟨k',w1,w2⟩:=ic (scope:=scope) (show (relabel scope X.env).names.lookup x=some .local from q)
    rw[ac] at w1
    cases w1
    rcases w2 with w | ⟨_,w⟩ <;> cases w
   ·exact .inl q
   ·exact .inr q
  ·rcases lk with⟨z,_⟩ | ⟨_,c,ec,hc⟩
   ·have z':X.env.scope.names.lookup x=some .local:=z
    rcases a2 with q | q <;> (rw[q] at z';cases z')
   ·obtain⟨c',a3⟩:=nC (env:=X.env) scope.names [] x (lookup_mem ac)
    have:=sub x c' a3
    rw[ec] at this
    cases this
    obtain⟨oc,am,an⟩:=hc
    refine⟨c, ?_,oc,hk _ _ am,an⟩
    show (cellsFrom (s.heap.objs.size+1) scope.names (eT X.env scope.names [])).lookup x=some c
    rw[fP,uw (ab x ac)]
    exact a3
 ·rcases J x c e with⟨p,_⟩ | ⟨_,p,_⟩
  ·exact⟨none,(U.empty x c p).1⟩
  ·obtain⟨v,oc,am,an⟩:=I.cell x c p
   exact⟨v,oc,hk _ _ am,an⟩
 ·rcases J x c e with⟨_,p⟩ | ⟨_,p,_⟩
  ·exact I.hok.fresh (PQ p)
  ·exact I.freeC x c p
 ·unfold nv
  have:=Sc.caps.length
  simp[cxC,this]
theorem Gn {prog:Program} {w:World} {A:Around} {R:Result->Shared->Prop} {s:Shared} {Y J U:Expr} {ab:List Expr} {scope:Scope} {pos:Pos} {it ac:Value} {env:Env} (I:Nat->Shared->Prop)
 (am:∀n s,I n s->wpAny (model prog w) A (pyNext it) (λr s₁=>match r with
  | none=>R (.ok .next) s₁
  | some v=>wpAny (model prog w) A (letOwnedTupleGo J it v) (λ_ an=>wpAny (model prog w) A (assign J env v) (λ_ s₂=>
   wpAny (model prog w) A (forIn ab true λc r=>if r=true then do let ok <- isTrue c env (eval c env);pure (P9 ok) else pure (P9 r)) (λok s₃=>
    if ok=true then wpAny (model prog w) A (eval Y env) (λx s₄=>
     wpAny (model prog w) A (call (.builtin "list.append") [ac,x]) (λ_ s₅=>∃m,m<n/\I m s₅) (λ_ _=>False) s₄) (λ_ _=>False) s₃
    else ∃m,m<n/\I m s₃) (λ_ _=>False) s₂) (λ_ _=>False) an) (λ_ _=>False) s₁) (λ_ _=>False) s)
 (n:Nat) (h:I n s):
 codeAny (model prog w) A (.compLoop (.ListComp Y [⟨J,U,ab,0⟩] scope pos) 0 it ac env) R s:=by
 refine codeAny_loop rfl I (λn s hI=> ?_) n h
 show wpAny _ A ((compTurn (.ListComp Y [⟨J,U,ab,0⟩] scope pos) 0 it ac env).onRaise (λx=>do noteFrame x env;theTreesLotGoes x)) _ _ s
 refine wpAny_noted ?_
 rw[compTurn_list]
 refine wpAny_bind (wpAny_standAt (wpAny_bind (wpAny_mono (am n s hI) (λr s₁ h₁=> ?_) λ_ _ h'=>h'.elim)))
 cases r with
 | none=>exact wpAny_pure h₁
 | some v=>
  refine wpAny_bind (wpAny_mono h₁ (λ_ an az=>wpAny_bind (wpAny_mono az (λ_ s₂ h₂=>wpAny_bind (wpAny_mono h₂ (λok s₃ h₃=> ?_) λ_ _ h'=>h'.elim)) λ_ _ h'=>h'.elim)) λ_ _ h'=>h'.elim)
  cases ok with
  | false=>exact wpAny_pure ⟨rfl,h₃⟩
  | true=>
   exact wpAny_bind (wpAny_bind (wpAny_mono h₃ (λx s₄ h₄=>wpAny_bind (wpAny_mono h₄ (λ_ s₅ h₅=>wpAny_pure (wpAny_pure ⟨rfl,h₅⟩)) λ_ _ h'=>h'.elim)) λ_ _ h'=>h'.elim))
def PTs(X:Cx)(J:List Expr)(t:TT):Prop:=
 ∀(pins:List (Addr×Obj)) (s:Shared) (σ:St) (H:Hp) (Q:Bool->Hp->Prop),Inv X pins σ H s->t σ H Q->
  wpAny (model X.prog X.w) X.A (forIn J true λc r=>if r=true then do let ok <- isTrue c X.env (eval c X.env);pure (P9 ok) else pure (P9 r)) (TP X pins σ Q) X.xe s
def JO:TT:=λ_ H Q=>Q true H
theorem bS:PTs X [] JO:=λ_ _ _ H _ I h=>wpAny_tests_nil ⟨H,I,h⟩
theorem jR{c:Expr}{t:TT}(h:PT X c t):PTs X [c] t:=λpins s σ H Q I q=>wpAny_tests_one (h pins s σ H Q I q)
def qQ(m:Nat)(caps:List Nat)(wi:TI)(g:TG)(tc:TT)(te:TE):TE:=λσ H Q=>wi σ H λJ H1=>∀p,H1 p=none->
 ∃W:Nat->Nat->List V->St->Hp->Prop,(∃k,W 0 k [] (nv m caps σ) (upd H1 p (.lst [])))/\∀i k U σ' H',W i k U σ' H'->
  (J.stop i H'/\H' p=some (.lst U)/\Q (.ref p) H')\/(J.go i H'/\∀x H2,J.yld i H' x H2->g x σ' H2 λσ2 H3=>tc σ2 H3 λb H4=>if b=true then
   te σ2 H4 λy H5=>H5 p=some (.lst U)/\U.length<sizeLine/\∃Y,Y<k/\W (i+1) Y (U++[y]) σ2 (upd H5 p (.lst (U++[y])))
   else ∃Y,Y<k/\W (i+1) Y U σ2 H4)
theorem II{N':List Str}{pins U:List (Addr×Obj)}{σ σ':St}{H3 H':Hp}{s3 s':Shared}(I3:Inv X pins σ H3 s3)(Y:Inv (cxC X scope N' fp s3 H3) U σ' H' s')(J:∀b∈fp,lW X pins H3 b):Inv X pins σ H' s':=
 I3.call' (ch:=fp) Y.os Y.base Y.hok Y.bare λb hb=>⟨(J b hb).2.2.2.1,(J b hb).2.1,(J b hb).2.2.2.2.1,(J b hb).2.2.2.2.2⟩
theorem xj {ab a4 a8:Expr} {a9:List Expr} {scope:Scope} {pos:Pos} {own cap:List Str} {caps:List Nat} {g:TG} {tc:TT} {te:TE} {pins:List (Addr×Obj)} {σ:St} {H2:Hp} {Y:Shared} {it:Addr} {fp:List Addr} {tn:Nat->Heap->Prop} {J:It} {E:Value->Shared->Prop}
 {RR:Value->Addr->Result->Shared->Prop} {Q:VK}
 (hc:X.calm=true) (Sc:mO X scope own cap caps)
 (hg:∀s H,PG (cxC X scope (own++cap) fp s H) ab g) (ht:∀s H,PTs (cxC X scope (own++cap) fp s H) a9 tc) (he:∀s H,PE (cxC X scope (own++cap) fp s H) a8 te)
 (I:Inv X pins σ H2 Y) (T:Turn X.prog X.w X.K ab J fp it tn) (t0:tn 0 Y.heap) (bn:∀b∈fp,lW X pins H2 b)
 (hQ:∀p,H2 p=none->∃W:Nat->Nat->List V->St->Hp->Prop,(∃k,W 0 k [] (nv own.length caps σ) (upd H2 p (.lst [])))/\∀i k U σ' H',W i k U σ' H'->
  (J.stop i H'/\H' p=some (.lst U)/\Q (.ref p) H')\/(J.go i H'/\∀x H2,J.yld i H' x H2->g x σ' H2 λσ2 H3=>tc σ2 H3 λb H4=>if b=true then
   te σ2 H4 λy H5=>H5 p=some (.lst U)/\U.length<sizeLine/\∃k',k'<k/\W (i+1) k' (U++[y]) σ2 (upd H5 p (.lst (U++[y])))
   else ∃k',k'<k/\W (i+1) k' U σ2 H4))
 (co:∀C p H' s' m,X.s₀.heap.objs.size<=C->C≠X.env.locals->(∀x c,X.env.cells.lookup x=some c->c≠C)->(∀q∈X.pn++pins,q.1≠C)->H' C=none->s'.heap.Ns C m->Inv X pins σ H' s'->Q (.ref p) H'->RR (.ref p) C (.ok .next) s'):
 wpAny (model X.prog X.w) X.A (newList []) (λU s₃=>wpAny (model X.prog X.w) X.A (newFunctionEnv scope X.env.globals (eT X.env scope.names []) [] X.env.qual none .none (some X.env)) (λa5 s₄=>
  codeAny (model X.prog X.w) X.A (.compStart (.ListComp a8 [⟨ab,a4,a9,0⟩] scope pos) 0 (.ref it) U {a5 with scope:=relabel scope X.env}) (RR U a5.locals) s₄) E s₃) E Y:=by
 refine wpAny_newObj_type (Dm ?_)
 dsimp only
 have cp:H2 Y.heap.objs.size=none:=I.hok.fresh (qh _)
 have I3:Inv X pins σ (upd H2 Y.heap.objs.size (.lst [])) {Y with heap:=Y.heap.push {cls:=.type "list",dict:=none,data:=.seq ([]:List Value).toArray}}:=I.lnew (t':=Y.toks) .nil (Bs _)
 obtain⟨W,⟨k0,w0⟩,bw⟩:=hQ Y.heap.objs.size cp
 have bz:∀b o,Y.heap.get? b=some o->(Y.heap.push {cls:=.type "list",dict:=none,data:=.seq ([]:List Value).toArray}).get? b=some o:=λb o e=>Heap.get?_push_of_some _ e
 have cr:∀b∈fp,b≠Y.heap.objs.size:=λb hb=>by
  obtain⟨o,ho,_⟩:=T.obj 0 Y.heap t0 b hb
  exact wS (Heap.lt_size ho)
 have an:∀b∈fp,lW X pins (upd H2 Y.heap.objs.size (.lst [])) b:=λb hb=>⟨by rw[aT (cr b hb)];exact(bn b hb).1,(bn b hb).2⟩
 have b2:∀b∈fp,∃o,(Y.heap.push {cls:=.type "list",dict:=none,data:=.seq ([]:List Value).toArray}).get? b=some o:=λb hb=>by
  obtain⟨o,ho,_⟩:=T.obj 0 Y.heap t0 b hb
  exact⟨o,bz b o ho⟩
 generalize az:pushCells ((Y.heap.push {cls:=.type "list",dict:=none,data:=.seq ([]:List Value).toArray}).push {cls:=.type "dict",data:=.dict #[]}) scope.names=h₁
 have a6:h₁.Ns (Y.heap.push {cls:=.type "list",dict:=none,data:=.seq ([]:List Value).toArray}).objs.size λ_=>none:=by rw[<- az];exact(Heap.Ns.new _ (.type "dict")).keeps (pushCells_keeps _ _)
 have hk:∀b o,(Y.heap.push {cls:=.type "list",dict:=none,data:=.seq ([]:List Value).toArray}).get? b=some o->h₁.get? b=some o:=λb o e=>by rw[<- az];exact pushCells_keeps _ _ b o (Heap.get?_push_of_some _ e)
 have a7:CellsOk h₁ ((Y.heap.push {cls:=.type "list",dict:=none,data:=.seq ([]:List Value).toArray}).objs.size+1) (cellsFrom ((Y.heap.push {cls:=.type "list",dict:=none,data:=.seq ([]:List Value).toArray}).objs.size+1) scope.names []):=by rw[<- az];exact Gw _ _
 clear az
 have b4:tn 0 h₁:=T.keep 0 _ _ t0 λb hb o e=>hk b o (bz b o e)
 generalize b5:({Y with heap:=Y.heap.push {cls:=.type "list",dict:=none,data:=.seq ([]:List Value).toArray}}:Shared)=s3 at I3
 have cs:s3.heap=Y.heap.push {cls:=.type "list",dict:=none,data:=.seq ([]:List Value).toArray}:=by rw[<- b5]
 rw[<- cs] at a6 b2 hk a7 ⊢
 generalize Y.heap.objs.size=D at *
 generalize dg:upd H2 D (.lst [])=H3 at *
 have b6:∀s₄:Shared,s₄={s3 with heap:=h₁}->
  codeAny (model X.prog X.w) X.A (.compLoop (.ListComp a8 [⟨ab,a4,a9,0⟩] scope pos) 0 (.ref it) (.ref D) (compEnvC scope (cellsFrom (s3.heap.objs.size+1) scope.names (eT X.env scope.names [])) s3.heap.objs.size X.env)) (RR (.ref D) s3.heap.objs.size) s₄:=by
  rintro s₄ rfl
  have I4:=HS (tk:=s3.toks) Sc I3 an b2 a6 hk a7
  have ap:∀{H':Hp},(∀b∈fp,H' b=none)->∀b∈fp,lW (cxC X scope (own++cap) fp s3 H3) [] H' b:=λhn b hb=>by
   refine⟨hn b hb,(I4.ok.exf b hb).1,I4.ok.exfs b hb,.inl hb,(I4.ok.exf b hb).2,λp hp=>absurd (show p∈([]:List (Addr×Obj)) from hp) (by simp)⟩
  refine Gn (λn s'=>∃i U σ' H',Inv (cxC X scope (own++cap) fp s3 H3) [] σ' H' s'/\tn i s'.heap/\(∀b∈fp,H' b=none)/\W i n U σ' H') ?_ k0 ⟨0,[],_,_,I4,b4,λb hb=>(an b hb).1,w0⟩
  rintro n s5 ⟨i,U,σ5,H5,I5,b7,b8,w5⟩
  rcases bw i n U σ5 H5 w5 with⟨b9,hp,q⟩ | ⟨go,step⟩
  ·refine thn (T.done (cxC X scope (own++cap) fp s3 H3) rfl rfl rfl hc i [] s5 σ5 H5 _ I5 (ap b8) b7 b9) λr s6 ⟨hr,I6⟩=> ?_
   subst hr
   obtain⟨m,hm,_⟩:=I6.loc
   refine co s3.heap.objs.size D H5 s6 m I3.sz (RL I3.lt) (λx c e=> ?_) (λp hp=> ?_) I6.free hm (II I3 I6 an) q
   ·obtain⟨v,o,ho,_⟩:=I3.cell x c e
    exact wS (Heap.lt_size ho)
   ·exact wS (Heap.lt_size (I3.pin p hp).1)
  ·refine thn (T.item (cxC X scope (own++cap) fp s3 H3) rfl rfl rfl hc i [] s5 σ5 H5 _ I5 (ap b8) b7 go) λr s6 ⟨u,hr,h6⟩=> ?_
   subst hr
   refine thn h6 λ_ s7 ⟨x,H7,I7,r7,y7,st7,fr7⟩=> ?_
   have cu:=I7.pinned (ap fr7) (T.obj _ _ st7)
   refine thn (hg s3 H3 _ s7 σ5 H7 x u _ cu r7 (step x H7 y7)) λ_ s8 ⟨σ8,H8,I8,q8⟩=> ?_
   refine thn (ht s3 H3 _ s8 σ8 H8 _ I8 q8) λb s9 ⟨H9,I9,q9⟩=> ?_
   have again:∀{σz:St} {Hz:Hp} {sz:Shared},Inv (cxC X scope (own++cap) fp s3 H3) ([]++uk fp s7.heap) σz Hz sz->Inv (cxC X scope (own++cap) fp s3 H3) [] σz Hz sz/\tn (i+1) sz.heap/\∀b∈fp,Hz b=none:=λ{σz Hz sz} Iz=>by
    refine⟨Iz.unpinned,T.keep _ _ _ st7 λb hb o e=>(Iz.pin (b,o) (wP _ (wP _ (nt hb e)))).1,λb hb=> ?_⟩
    obtain⟨o,e,d⟩:=T.obj _ _ st7 b hb
    exact(Iz.pin (b,o) (wP _ (wP _ (nt hb e)))).2.1
   cases b with
   | false=>
    rw[if_neg ut] at q9 ⊢
    obtain⟨k',be,w'⟩:=q9
    obtain⟨a1,a2,a3⟩:=again I9
    exact⟨k',be,i+1,U,σ8,H9,a1,a2,a3,w'⟩
   | true=>
    rw[if_pos rfl] at q9 ⊢
    refine thn (he s3 H3 _ s9 σ8 H9 _ I9 q9) λyv s10 ⟨y,H10,I10,r10,hp,hl,k',be,w'⟩=> ?_
    refine thn (ee _ s10 σ8 H10 (.ref D) [y] (.ref D) [yv] (λv Hz=>Hz=upd H10 D (.lst (U++[y]))) I10 rfl (.cons r10 .nil) ⟨D,U,y,rfl,rfl,hp,hl,rfl⟩) λ_ s11 ⟨_,H11,I11,_,e11⟩=> ?_
    subst e11
    obtain⟨a1,a2,a3⟩:=again I11
    exact⟨k',be,i+1,U++[y],σ8,_,a1,a2,a3,w'⟩
 have cc:=b6 _ rfl
 subst b5
 exact codeAny_compStart_list cc (T.self _ _ _ _ _ b4 cc)
theorem PTs.ok{X:Cx}(I:Inv X pins σ H s)(J:mO X scope own cap caps):closureFor scope X.env=pure (eT X.env scope.names []):=
 AD λn hn=>I.ok.has n (J.out hn)
theorem cD {U Y ab:Expr} {ac:List Expr} {pos:Pos} {wi:TI} {g:TG} {tc:TT} {te:TE} (hc:X.calm=true) (Sc:mO X scope own cap caps) (hi:PI X U Y wi)
 (hg:∀fp s H,PG (cxC X scope (own++cap) fp s H) U g) (ht:∀fp s H,PTs (cxC X scope (own++cap) fp s H) ac tc) (he:∀fp s H,PE (cxC X scope (own++cap) fp s H) ab te)
 (hs:∀x,foldedSetIterable Y X.env x=pure x:=by intro _;rfl):PE X (.ListComp ab [⟨U,Y,ac,0⟩] scope pos) (qQ own.length caps wi g tc te):=by
 intro pins s σ H Q I h
 rw[eval_ListComp]
 refine wpAny_comprehension_free (use:=none) rfl hs (PTs.ok I Sc) Sc.kind Sc.nm (thn (hi pins s σ H _ I h) λv s1 h1=>thn h1 λa3 s2 h2=> ?_)
 obtain⟨it,fp,tn,J,H2,e,I2,T,an,f2,q⟩:=h2
 subst e
 refine xj (Q:=Q) (RR:=λap C=>compPost (model X.prog X.w) X.A X.xe none (EP X pins σ Q) ap C) hc Sc (hg fp) (ht fp) (he fp) I2 T an f2 q ?_
 intro C p H' s' m h1 h2 h3 h4 h5 hn I' q'
 exact⟨m,hn,λh' as=>⟨.ref p,H',I'.turned (it:=C) (t':=s'.toks) (λb o hb e=>as.extBut b o hb e) h5 (QH h2.symm) (.inr h1) h3 h4,rfl,q'⟩⟩
theorem dI {U Y ab:Expr} {ac:List Expr} {pos am py:Pos} {wi:TI} {g:TG} {tc:TT} {te:TE} {i:Nat} {y:Str} (hc:X.calm=true) (Sc:mO X scope own cap caps) (hi:PI X U Y wi)
 (hg:∀fp s H,PG (cxC X scope (own++cap) fp s H) U g) (ht:∀fp s H,PTs (cxC X scope (own++cap) fp s H) ac tc) (he:∀fp s H,PE (cxC X scope (own++cap) fp s H) ab te)
 (hN:X.N.Nodup) (hx:X.N[i]? =some y) (hl:Loc X.env.scope y)
 (as:swapsWith (.ListComp ab [⟨U,Y,ac,0⟩] scope pos) (some (.Name y py)) am.line X.env=pure true)
 (hs:∀x,foldedSetIterable Y X.env x=pure x:=by intro _;rfl) (hf:X.fn y=true\/X.env.scope.names.lookup y=some .local:=by first | exact .inl rfl | exact .inr rfl | assumption):
 PS X (.Assign [.Name y py] (.ListComp ab [⟨U,Y,ac,0⟩] scope pos) am) (CG (qQ own.length caps wi g tc te) (uC i)):=by
 intro pins s σ H D I h
 rw[exec_Assign_Name_used _ _ _ _ as]
 refine wpAny_bind (wpAny_standAt (wpAny_bind ?_))
 show wpAny _ _ (do let _ <- comprehension (.ListComp ab [⟨U,Y,ac,0⟩] scope pos) scope X.env _ (newList []) false (eval Y X.env) (some (assign (.Name y py) X.env))) _ _ s
 refine wpAny_bind (wpAny_mono (wpAny_comprehension_free (use:=some (assign (.Name y py) X.env)) (Q:=λ_ s'=>SP X pins D .next s') rfl hs (PTs.ok I Sc) Sc.kind Sc.nm
  (thn (hi pins s σ H _ I h) λv s1 h1=>thn h1 λbd s2 h2=> ?_)) (λ_ s' hq=>wpAny_pure (wpAny_pure hq)) λ_ _ e=>e)
 obtain⟨it,fp,tn,J,H2,e,I2,T,az,f2,q⟩:=h2
 subst e
 refine xj (Q:=λv H'=>uC i v σ H' D.nx) (RR:=λa1 C=>compPost (model X.prog X.w) X.A X.xe (some (assign (.Name y py) X.env)) (λ_ s'=>SP X pins D .next s') a1 C) hc Sc (hg fp) (ht fp) (he fp) I2 T az f2 q ?_
 intro C p H' s' m h1 h2 h3 h4 h5 hn I' q'
 show wpAny _ _ (assign (.Name y py) X.env (.ref p)) _ _ _
 refine wpAny_assign_Name (z9 I' hN hx hl (show RelV (.ref p) (.ref p) from rfl) (λs'' I'' ⟨a,hsb,ha⟩=> ?_) hf)
 have a2:C≠a:=by
  rcases ha with rfl | ha
  ·exact h2
  ·exact(h3 _ _ ha).symm
 exact⟨m,hn.sameBut hsb a2,λh' a3=>⟨_,H',I''.turned (it:=C) (t':=s''.toks) (λb o hb e=>a3.extBut b o hb e) h5 h2 (.inr h1) h3 h4,q'⟩⟩
end
section
variable {X : Cx}
def JQ(K:lm):R2:=λx y H Q=>∃l b xs zs,x=.ref l/\y=.ref b/\SqL K H l xs/\SqL K H b zs/\xs.length+zs.length<=sizeLine/\∀p,H p=none->Q (.ref p) (upd H p (.lst (xs++zs)))
theorem Lx:OpR X (binaryOp .Add) (JQ X.K):=by
 intro pins s σ H x y v u Q I rx ry h
 obtain⟨l,b,xs,zs,rfl,rfl,hH,hB,hz,q⟩:=h
 cases rx
 cases ry
 obtain⟨U,r,pl,_⟩:=I.list hH
 obtain⟨J,r2,am,_⟩:=I.list hB
 obtain⟨⟨cls,dd,data,sl⟩,ho,hc,n,hd⟩:=pl.isList
 obtain⟨⟨a1,an,data2,ap⟩,Y,ab,n2,ac⟩:=am.isList
 simp only at hc hd ab ac
 subst hc hd ab ac
 have e:U.toArray++J.toArray=(U++J).toArray:=by simp
 have a8:=r.length
 have a9:=r2.length
 refine concat_meets ⟨_,ho,rfl⟩ ⟨_,Y,rfl⟩ noFill_list_add seq_list_add PySem.F.slot_list_add PySem.F.entry_list_add (PySem.F.args_list_add_2 _ _) (list_addW l b U.toArray J.toArray n n2 dd an sl ap (by simp only[sK];omega)) ⟨ho,Y, ?_⟩
 rw[e]
 exact⟨.ref _,_,I.lnew (t':=s.toks) (r.append r2) (by rw[u8];omega),rfl,q _ I.fresh⟩
mutual
def RdV(K:lm)(H:Hp):PyData->V->Prop
 | .none,v=>v=.non
 | .bool b,v=>v=.bl b
 | .int i,v=>v=.int i
 | .str x,v=>v=.str x
 | .list ds,v=>∃a xs,v=.ref a/\SqL K H a xs/\rF K H ds xs
 | .tuple ds,v=>∃a xs,v=.ref a/\SqT K H a xs/\rF K H ds xs
 | .dict _,_=>False
def rF(K:lm)(H:Hp):List PyData->List V->Prop
 | [],xs=>xs=[]
 | d::ds,xs=>∃v r,xs=v::r/\RdV K H d v/\rF K H ds r
end
mutual
theorem mH{pins:List (Addr×Obj)}{σ:St}{H:Hp}{s:Shared}(I:Inv X pins σ H s):∀{d:PyData} {v:V} {u:Value},RdV X.K H d v->RelV v u->∃J,Reads s.heap u d J
 | .none,v,u,h,r=>by
  unfold RdV at h;subst h
  cases (show u=Value.none from r);exact⟨_,.none⟩
 | .bool b,v,u,h,r=>by
  unfold RdV at h;subst h
  cases (show u=Value.bool b from r);exact⟨_,.bool b⟩
 | .int i,v,u,h,r=>by
  unfold RdV at h;subst h
  obtain⟨t,rfl⟩:=(show ∃t,u=Value.int i t from r);exact⟨_,.int i t⟩
 | .str x,v,u,h,r=>by
  unfold RdV at h;subst h
  obtain⟨t,rfl⟩:=(show ∃t,u=Value.str x t from r);exact⟨_,.str x t⟩
 | .list ds,v,u,h,r=>by
  unfold RdV at h
  obtain⟨a,xs,rfl,hs,hr⟩:=h
  cases (show u=Value.ref a from r)
  obtain⟨U,Y,pl,_⟩:=I.list hs
  obtain⟨o,ho,hc,n,hd⟩:=pl.isList
  obtain⟨J,ra⟩:=qX I hr Y
  exact⟨_,.list ho hc hd (by simpa using ra)⟩
 | .tuple ds,v,u,h,r=>by
  unfold RdV at h
  obtain⟨a,xs,rfl,hs,hr⟩:=h
  cases (show u=Value.ref a from r)
  obtain⟨U,Y,⟨o,ho,hc,n,hd⟩,_⟩:=I.tuple hs
  obtain⟨J,ra⟩:=qX I hr Y
  exact⟨_,.tuple ho hc hd (by simpa using ra)⟩
 | .dict _,v,u,h,r=>by unfold RdV at h;exact h.elim
theorem qX{pins:List (Addr×Obj)}{σ:St}{H:Hp}{s:Shared}(I:Inv X pins σ H s):∀{ds:List PyData} {xs:List V} {us:List Value},rF X.K H ds xs->Vals xs us->∃J,ReadsAll s.heap us ds J
 | [],xs,us,h,r=>by
  unfold rF at h;subst h
  cases r;exact⟨_,.nil⟩
 | d::ds,xs,us,h,r=>by
  unfold rF at h
  obtain⟨v,w,rfl,h1,h2⟩:=h
  cases r with
  | cons U Y=>
   obtain⟨J,a1⟩:=mH I h1 U
   obtain⟨bs,a2⟩:=qX I h2 Y
   exact⟨_,.cons a1 a2⟩
end
def L8(K:lm):R2:=λx y H Q=>∃d e,RdV K H d x/\RdV K H e y/\SeqAt.shaped d=true/\SeqAt.shaped e=true/\Q (.bl (PyData.eqv d e)) H
def LZ(K:lm):R2:=λx y H Q=>∃d e,RdV K H d x/\RdV K H e y/\SeqAt.shaped d=true/\SeqAt.shaped e=true/\Q (.bl (!PyData.eqv d e)) H
theorem LU(hu:X.A.units+64<cLine):OpR X (compareOp .Eq) (L8 X.K):=by
 intro pins s σ H x y v u Q I J U h
 obtain⟨d,e,h1,h2,s1,s2,q⟩:=h
 obtain⟨as,Y⟩:=mH I h1 J
 obtain⟨bs,rb⟩:=mH I h2 U
 exact SeqAt.compareEq_shaped Y rb s1 s2 hu ⟨.bl _,H,I,rfl,q⟩
theorem L7(hu:X.A.units+64<cLine):OpR X (compareOp .NotEq) (LZ X.K):=by
 intro pins s σ H x y v u Q I J U h
 obtain⟨d,e,h1,h2,s1,s2,q⟩:=h
 obtain⟨as,Y⟩:=mH I h1 J
 obtain⟨bs,rb⟩:=mH I h2 U
 exact SeqAt.compareNe_shaped Y rb s1 s2 hu ⟨.bl _,H,I,rfl,q⟩
def M5(K:lm)(H:Hp)(x:V)(T:String):Prop:=match x with
 | .non=>T="NoneType"
 | .bl _=>T="bool"
 | .int _=>T="int"
 | .str _=>T="str"
 | .ref a=>(T="list" /\∃xs,SqL K H a xs)\/(T="tuple" /\∃xs,SqT K H a xs)
 | _=>False
def Jl(K:lm):List V->Hp->VK->Prop:=λxs H Q=>∃x c T b,xs=[x,.ty c]/\M5 K H x T/\Sn K (.type T) (.type c)=some b/\Q (.bl b) H
theorem vU:kQ X (.builtin "isinstance") (Jl X.K):=by
 intro pins s σ H xs us Q I r h
 obtain⟨x,c,T,b,rfl,U,hk,q⟩:=h
 obtain⟨u,w,rfl,Y,r2⟩:=vals2 r
 cases (show w=Value.type c from r2)
 have J:∀tk,EP X pins σ Q (.bool b) {s with toks:=tk}:=λtk=>⟨.bl b,H,I.tok tk,rfl,q⟩
 cases x with
 | non=>cases (show u=Value.none from Y);cases (show T="NoneType" from U);exact Qa PySem.W.kitx_none I.kIn QK hk (λz=>nomatch z) J
 | bl y=>cases (show u=Value.bool y from Y);cases (show T="bool" from U);exact Qa PySem.W.kitx_bool I.kIn QK hk (λz=>nomatch z) J
 | int i=>obtain⟨t,e⟩:=(show ∃t,u=Value.int i t from Y);cases e;cases (show T="int" from U);exact Qa PySem.W.kitx_int I.kIn QK hk (λz=>nomatch z) J
 | str y=>obtain⟨t,e⟩:=(show ∃t,u=Value.str y t from Y);cases e;cases (show T="str" from U);exact Qa PySem.W.kitx_str I.kIn QK hk (λz=>nomatch z) J
 | ref a=>
  cases (show u=Value.ref a from Y)
  rcases U with⟨rfl,xs,hs⟩ | ⟨rfl,xs,hs⟩
  ·obtain⟨ab,rv,⟨o,n,ho,hc,_⟩,_⟩:=I.list hs
   exact Qa PySem.W.kitx_list I.kIn ⟨o,ho,hc⟩ hk (λz=>nomatch z) J
  ·obtain⟨ab,rv,⟨o,ho,hc,_⟩,_⟩:=I.tuple hs
   exact Qa PySem.W.kitx_tuple I.kIn ⟨o,ho,hc⟩ hk (λz=>nomatch z) J
 | byt y=>exact lc U
 | flt y=>exact lc U
 | ty y=>exact lc U
end
structure Pf(S:List Addr)(e:Addr)(oe:Obj)(h h':Heap)(T:Addr):Prop where
 keep:∀b o,h.get? b=some o->b∉S->b≠e->h'.get? b=some o
 slot:∀b o,h.get? b=some o->b∈S->∃sl,h'.get? b=some {o with slots:=sl}
 new:h.objs.size<=T
 ne:T≠e
 exc:∃oe' vs,h'.get? e=some oe'/\oe'.cls=oe.cls/\oe'.dict=oe.dict/\oe'.data=.fields vs/\vs[1]? =some (.ref T)
 trc:∃oT ts,h'.get? T=some oT/\oT.data=.fields ts/\ts[3]? =some .none
section
variable {M : Model} {A : Around} {E : Value → Shared → Prop} {s : Shared}
structure Trc(h:Heap)(e:Addr)(oe:Obj)(T:Addr):Prop where
 exc:h.get? e=some oe
 dat:∃vs,oe.data=.fields vs/\vs[1]? =some (.ref T)
 ne:T≠e
 trc:∃oT ts,h.get? T=some oT/\oT.data=.fields ts/\ts[3]? =some .none
end
structure Ni(P:Program)(w:World)(fs:List Addr)(H:Hp)(h:Heap)(x:Addr)(H':Hp)(h':Heap)(oe:Obj)(T C:Addr):Prop where
 un:Un fs [] H H' h h'
 hok:HOk P w H' h'
 nx:h.get? x=none
 nT:h.get? T=none
 hx:H' x=none
 hT:H' T=none
 tr:Trc h' x oe T
 cls:oe.cls=.ref C
def CXE(P:Program)(w:World):CXT:=λouter H s E e s'=>∃x J T H' C,e=.ref x/\s'.os=s.os/\AllBare s'.gens/\Ni P w (frs outer) H s.heap x H' s'.heap J T C/\E (.ref C) J.dict H'
section
variable {X : Cx} {pins : List (Addr × Obj)} {σ : St} {H : Hp} {s : Shared}
end
section
variable {P : Program} {w : World} {K : lm} {mg : Str → Option Value} {base : Heap} {N : List Str} {qual : Str} {scope : Scope} {f : Addr} {cd : Value} {A : Around} {outer : List Env} {s0 : Shared} {H0 : Hp} {E : XK}
end
section
variable {X : Cx} {E : XK} {c : Str} {C : Addr} {np cpos pos : Pos} {e : Expr} {es : List Expr} {t : TA} {B newId initId : String} {bmB : List Value}
end
section
variable {P : Program} {w : World} {K : lm} {mg : Str → Option Value} {base : Heap}
theorem Fun.okE {CX:CXT} {N ps:List Str} {k:Nat} {sp:Sp} (F:Fun K x qual st f fd) (S:ba N ps (aL st)) (U:∀vs H Q E,sp vs H Q E->vs.length=ps.length)
 (hb:∀(J:Value) (A:Around) (outer:List Env) (s:Shared) (H:Hp) (vs:List V) (Q:VK) (E:XK),fb k (A.deeper (envOfC qual (aL st) s.heap.objs.size f J))->sp vs H Q E->
  ∃t,PSs (ua CX P w K mg base N qual (aL st) f J A outer s H E) (d3 st) t/\t {nx:=λ_ H'=>Q .non H',rt:=Q} (start N vs) H):jX P w K mg base CX (k+1) f fd ps sp:=by
 obtain⟨oc,od,kV,ab,pm,an,J,ct,ac,rfl,look,Y⟩:=F.ex
 exact M8 look Y S U (hb J)
end
theorem Iq {l:Rw} {n k:Nat} {q:Program} {J:List Str} {XP:(Str->Option Value)->Heap->Prop} {YP:World->Heap->Prop} {d:DefRec} {K:Params->lm} {sp:lm->Sp} {x:Str} (hn:l.most=some n) (U:n<=sizeLine)
 (Y:d.params.defaults=[]) (hr:fb k callerA) (hi:importsNone q=true) (hY:∀(w:World) (h:Heap),YP w h->(K w.params).In h) (F:∀(w:World) (mg:Str->Option Value) (fa:Addr) (h:Heap),(K w.params).In h->h.Ns mainGlobals mg->mg d.name=some (.ref fa)->
  ∃fd:FuncData,(∀(s:Shared) (u:Value),BindsTo s fd ⟨[u],[]⟩ [(x,u)])/\∀base:Heap,(K w.params).In base->base.Ns mainGlobals mg->jX l.prog w (K w.params) mg base (CXE l.prog w) k fa fd [x] (sp (K w.params)))
 (ab:∀(K:lm) (H:Hp) (a:Addr) (ns:List Int),ns.length<=n->EY H->SqL K H a (ns.map V.int)->sp K [.ref a] H (λv _=>v=.bl true) λ_ _ _=>False):Ss q J XP YP l.row.toRowW d [] (λf vs=>Se f vs):=
 Lp (K:=K) (CX:=λw=>CXE l.prog w) (sp:=λw=>sp (K w.params)) hn U Y hr hi hY F (λw H a ns h1 h2 h3=>ab (K w.params) H a ns h1 h2 h3) λ_ _ _ _ _ ⟨_,_,_,_,_,_,_,_,_,z⟩=>z
section
variable {X : Cx} {CX : CXT} {k : Nat} {f C : Addr} {fd : FuncData} {ps : List Str} {sp : Sp} {dvs : List V} {ds : List Value} {Es : St → XK} {x m : Str} {p pos apos : Pos} {e o : Expr} {es : List Expr} {ta : TE} {t : TA}
end
section
variable {X : Cx} {pins : List (Addr × Obj)} {σ : St} {H : Hp} {s : Shared} {E : Value → Shared → Prop}
end
def exO(a C:Addr):HO:=.ext λh=>∃o,h.get? a=some o/\o.cls=.ref C/\o.dict=none/\(∀cd,o.data≠ .cls cd)
section
variable {X : Cx} {pins : List (Addr × Obj)} {σ : St} {H : Hp} {s : Shared} {v : Value}
end
structure OQ(X:Cx)(pins:List (Addr×Obj))(H:Hp)(s:Shared)(x C:Addr):Prop where
 tr:∃oe T,Trc s.heap x oe T/\oe.cls=.ref C/\oe.dict=none
 hx:H x=none
 h0:X.s₀.heap.get? x=none
 nl:x≠X.env.locals
 nc:∀y c,X.env.cells.lookup y=some c->c≠x
 np:∀p∈X.pn++pins,p.1≠x
section
variable {X : Cx} {c : Str} {Dc : Addr} {np pos : Pos} {b0 : Stmt} {suite : List Stmt} {rest : List ExceptHandler} {sub : Addr → Option Bool} {tb : TS} {th : Addr → TS}
end
open PySem PySem.Spec PyProof.Rows PySem.W
structure ExK(K:lm)(D:Addr):Prop where
 ga:findIn K (.ref D) "__getattribute__" =some (some (.builtin "BaseException.__getattribute__"))
 hk:findIn K (.ref D) "__getattr__" =some none
 cl:findIn K (.ref D) "__class__" =some (some (.builtin "object.__class__"))
 gt:specialIn K (.builtin "object.__class__") "__get__" =some (some (.builtin "getset_descriptor.__get__"))
 tk:takesIn K (.builtin "object.__class__")=some true
 ob:mroIn K D (.type "object")=some true
 be:mroIn K D (.type "BaseException")=some true
section
variable {prog : Program} {w : World} {A : Around} {E : Value → Shared → Prop} {s : Shared} {K : lm} {x D : Addr} {ox : Obj}
end
open PySem PySem.Spec PyProof.Rows
section
variable {X : Cx} {pins : List (Addr × Obj)} {σ : List (Option V)} {H : Hp} {s : Shared} {h' : Heap}
theorem Inv.turnedL{t':Nat}{ch:List Addr}(I:Inv X pins σ H s)(k:∀b o,b∉ch->s.heap.get? b=some o->h'.get? b=some o)(U:∀b∈ch,lW X pins H b):Inv X pins σ H {s with heap:=h',toks:=t'}:=by
 have J:∀b u,H b=some u->b∉ch:=λb u e z=>by rw[(U b z).1] at e;cases e
 refine I.step (g':=s.gens) (d':=s.drawn) (ch:=ch) (λb hb=> ?_) (λb o _ _ hc e _=>k b o hc e) (λb o _ _ hc e _=>⟨o.slots,k b o hc e⟩) (λ_ _ _ _ n=>n)
  (λb o hc e=>⟨o,k b o hc e⟩) (λ_ _ e=>e) (λ_ _ _ e=>e) (λb ps e=>⟨#[],by rw[e];simp⟩) (λm hm=> ?_) (λb u e=> ?_) I.bare
 ·obtain⟨f0,Y,f2,f3,f4,f5⟩:=U b hb
  exact⟨f3,Y,f4,f5⟩
 ·obtain⟨o,es,ep,ho,r⟩:=hm
  exact⟨o,es,ep,k _ o (λz=>(U _ z).2.1 rfl) ho,r⟩
 ·refine(I.hok b u e).stay (λc v hc q=>k c v ?_ q) (λ_ q=>q) λ_ _ q=>q
  rcases hc with z | z
  ·rw[z];exact J b u e
  ·exact J c _ z
theorem Inv.turnedT {t':Nat} {ch:List Addr} {T:Addr} {xs:List V} (I:Inv X pins σ H s) (k:∀b o,b∉ch->s.heap.get? b=some o->h'.get? b=some o) (U:∀b∈ch,lW X pins H b) (hT:s.heap.objs.size<=T)
 (Y:gR X.prog X.w (upd H T (.tup xs)) h' T (.tup xs)):Inv X pins σ (upd H T (.tup xs)) {s with heap:=h',toks:=t'}:=by
 have hn:H T=none:=I.hok.fresh hT
 have J:∀b u,H b=some u->b∉ch:=λb u e z=>by rw[(U b z).1] at e;cases e
 refine I.step (g':=s.gens) (d':=s.drawn) (ch:=ch) (λb hb=> ?_) (λb o _ _ hc e _=>k b o hc e) (λb o _ _ hc e _=>⟨o.slots,k b o hc e⟩) (λb o _ e n=> ?_)
  (λb o hc e=>⟨o,k b o hc e⟩) (λb xs e=>by rw[aT (fD e hn)];exact e) (λb o u e=>by rw[aT (fD e hn)];exact e) (λb ps e=>⟨#[],by rw[aT (fD e hn),e];simp⟩) (λm hm=> ?_) (λb u e=> ?_) I.bare
 ·obtain⟨f0,f1,f2,f3,f4,f5⟩:=U b hb
  exact⟨f3,f1,f4,f5⟩
 ·have hb:b≠T:=λz=>by
   subst z
   exact absurd (wh (Heap.lt_size e) hT) (Ps _)
  rw[aT hb];exact n
 ·obtain⟨o,es,ep,ho,r⟩:=hm
  exact⟨o,es,ep,k _ o (λz=>(U _ z).2.1 rfl) ho,r⟩
 ·by_cases hb:b=T
  ·subst hb;rw[cO] at e;cases e;exact Y
  ·rw[aT hb] at e
   refine(I.hok b u e).stay (λc v hc q=>k c v ?_ q) (λc q=>by rw[aT (fD q hn)];exact q) λc xs q=>by rw[aT (fD q hn)];exact q
   rcases hc with z | z
   ·rw[z];exact J b u e
   ·exact J c _ z
end
def Itz(K:lm)(a b:Addr):It:=
 ⟨λi H=>∃xs ys x y,SqL K H a xs/\SqL K H b ys/\xs[i]? =some x/\ys[i]? =some y,
  λi H v H'=>∃T x y,H T=none/\v=.ref T/\H'=upd H T (.tup [x,y])/\(∀xs,SqL K H a xs->xs[i]? =some x)/\∀ys,SqL K H b ys->ys[i]? =some y,
  λi H=>∃xs ys,SqL K H a xs/\SqL K H b ys/\(xs.length<=i\/ys.length<=i)⟩
def Ite(K:lm)(a:Addr):It:=
 ⟨λi H=>∃xs x,SqL K H a xs/\xs[i]? =some x,
  λi H v H'=>∃T x,H T=none/\v=.ref T/\H'=upd H T (.tup [.int i,x])/\∀xs,SqL K H a xs->xs[i]? =some x,
  λi H=>∃xs,SqL K H a xs/\xs.length<=i⟩
def Its(x:Str):It:=⟨λi _=>i<x.cps.size,λi H v H'=>H'=H/\∃c,x.cps[i]? =some c/\v=.str ⟨#[c]⟩,λi _=>x.cps.size<=i⟩
theorem Gm{h:Heap}{T:Addr}{x y:V}{u v:Value}(J:RelV x u)(U:RelV y v)(Y:h.IsTuple T #[u,v]):gR P w H h T (.tup [x,y]):=by
 refine⟨by simp only[tz,Rx];rw[sizeLine_eq];decide,[u,v],.cons J (.cons U .nil), ?_⟩
 exact Y
theorem HU{P:Program}{w:World}{K:lm}{elts:List Expr}{kk:Nat}{tp:Pos}{z TI TO i1 i2 a b:Addr}(D:ZipApart z TI TO i1 i2 a b):
 Turn P w K (.Tuple elts kk tp) (Itz K a b) [z,TI,TO,i1,i2] z (λi h=>IsZip h z TI TO .none/\IsPair h TI (.ref i1) (.ref i2)/\(∃u v,IsPair h TO u v)/\h.IsListIter i1 a i/\h.IsListIter i2 b i) where
 mem:=by simp
 obj:=λi h st c hc=>by
  obtain⟨q1,q2,⟨u,v,q3⟩,⟨o1,e1,c1,d1⟩,⟨o2,e2,c2,d2⟩⟩:=st
  simp only[sn,PK,or_false] at hc
  rcases hc with rfl | rfl | rfl | rfl | rfl
  ·exact⟨_,q1,λv z=>by have z':Data.fields _=Data.cell v:=z;cases z'⟩
  ·exact⟨_,q2,λv z=>by have z':Data.seq _ _=Data.cell v:=z;cases z'⟩
  ·exact⟨_,q3,λv z=>by have z':Data.seq _ _=Data.cell v:=z;cases z'⟩
  ·exact⟨o1,e1,λv z=>by rw[d1] at z;cases z⟩
  ·exact⟨o2,e2,λv z=>by rw[d2] at z;cases z⟩
 keep:=λi h h' st k=>by
  obtain⟨q1,q2,⟨u,v,q3⟩,q4,q5⟩:=st
  exact⟨k z (by simp) _ q1,k TI (by simp) _ q2,⟨u,v,k TO (by simp) _ q3⟩,q4.at λo e=>k i1 (by simp) o e,q5.at λo e=>k i2 (by simp) o e⟩
 item:=by
  intro X hP hw hK hc i pins s σ H E I hf st hg
  subst hP hw hK
  obtain⟨xs,ys,x,y,hq1,hq2,hx,hy⟩:=hg
  obtain⟨its1,rv1,p1,hz1⟩:=I.list hq1
  obtain⟨its2,rv2,p2,hz2⟩:=I.list hq2
  obtain⟨u,hu,ru⟩:=rv1.get hx
  obtain⟨v,hv,rv⟩:=rv2.get hy
  obtain⟨q1,q2,q3,q4,q5⟩:=id st
  have W:=WalksT.zip2 (prog:=X.prog) (w:=X.w) (A:=X.A) (I.ok.hd hc) z TI TO i1 i2 a b D its1.toArray its2.toArray
  have hi1:i<its1.length:=(t3.mp hu).1
  have hi2:i<its2.length:=(t3.mp hv).1
  refine W.item i s _ _ (by simp;omega) ⟨q1,q2,q3,q4,q5,p1.isList,p2.isList⟩ λT vals h1 tk hP hT isT mid kk1=>⟨.ref T,rfl,W.go elts _ tp i T _ _ _ mid λh2 st2 kk2=> ?_⟩
  obtain⟨u',v',e1,e2,rfl⟩:=hP
  rw[show its1.toArray[i]? =its1[i]? by simp,hu] at e1
  rw[show its2.toArray[i]? =its2[i]? by simp,hv] at e2
  cases e1;cases e2
  have nT:T∉([z,TO,i1,i2]:List Addr):=W.apart i T _ mid
  have sub:∀c,c∈([z,TO,i1,i2]:List Addr)->c∈([z,TI,TO,i1,i2]:List Addr):=λc hc=>by
   simp only[sn,PK,or_false] at hc ⊢
   rcases hc with h | h | h | h <;> simp[h]
  have kk:∀c o,c∉([z,TO,i1,i2]:List Addr)->s.heap.get? c=some o->h2.get? c=some o:=λc o hc e=>kk2 c o hc (kk1 c o hc e)
  have isT2:h2.IsTuple T #[u,v]:=by
   obtain⟨o,e,c,d⟩:=isT
   exact⟨o,kk2 T o nT e,c,d⟩
  have I2:Inv X pins σ (upd H T (.tup [x,y])) {s with heap:=h2,toks:=tk}:=I.turnedT kk (λc hc=>hf c (sub c hc)) hT (Gm ru rv isT2)
  refine⟨.ref T,_,I2,rfl,⟨T,x,y,I.hok.fresh hT,rfl,rfl,λxs' h=>by rw[I.list_inj h hq1];exact hx,λys' h=>by rw[I.list_inj h hq2];exact hy⟩,⟨st2.1,st2.2.1,st2.2.2.1,st2.2.2.2.1,st2.2.2.2.2.1⟩,λc hc=> ?_⟩
  have hc0:=(hf c hc).1
  rw[aT (λe=> ?_)]
  ·exact hc0
  ·subst e
   simp only[sn,PK,or_false] at hc
   rcases hc with h | h | h | h | h
   ·exact nT (by simp[h])
   ·have:TI<s.heap.objs.size:=Heap.lt_size q2
    rw[<- h] at this
    exact absurd (wh this hT) (Ps _)
   ·exact nT (by simp[h])
   ·exact nT (by simp[h])
   ·exact nT (by simp[h])
 done:=by
  intro X hP hw hK hc i pins s σ H E I hf st hg
  subst hP hw hK
  obtain⟨xs,ys,hq1,hq2,hx⟩:=hg
  obtain⟨its1,rv1,p1,hz1⟩:=I.list hq1
  obtain⟨its2,rv2,p2,hz2⟩:=I.list hq2
  have l1:=rv1.length
  have l2:=rv2.length
  obtain⟨q1,q2,⟨u,v,q3⟩,q4,q5⟩:=id st
  refine wpAny_pyNext_zip_end (I.ok.hd hc) D q1 q2 q3 q4 q5 p1.isList p2.isList (by
   rcases hx with h | h
   ·left;simp;omega
   ·right;simp;omega) λh' hk=>⟨rfl, ?_⟩
  exact I.turnedL (t':=s.toks) (ch:=[z,TI,TO,i1,i2]) (λc o hc e=>hk c o (λx=>hc (by simp[x])) (λx=>hc (by simp[x])) (λx=>hc (by simp[x])) (λx=>hc (by simp[x])) e) hf
 self:=λ_ _ _ _ _ st h=>wpAny_pyIter_zip st.1 h
theorem GP{P:Program}{w:World}{K:lm}{elts:List Expr}{kk:Nat}{tp:Pos}{e it a:Addr}(hei:e≠it)(hle:a≠e)(hli:a≠it):
 Turn P w K (.Tuple elts kk tp) (Ite K a) [e,it] e (λi h=>(∃old,IsEnum h e it i old)/\h.IsListIter it a i) where
 mem:=by simp
 obj:=λi h st c hc=>by
  obtain⟨⟨old,q1⟩,⟨o1,e1,c1,d1⟩⟩:=st
  simp only[sn,PK,or_false] at hc
  rcases hc with rfl | rfl
  ·exact⟨_,q1,λv z=>by have z':Data.fields _=Data.cell v:=z;cases z'⟩
  ·exact⟨o1,e1,λv z=>by rw[d1] at z;cases z⟩
 keep:=λi h h' st k=>by
  obtain⟨⟨old,q1⟩,q4⟩:=st
  exact⟨⟨old,k e (by simp) _ q1⟩,q4.at λo e'=>k it (by simp) o e'⟩
 item:=by
  intro X hP hw hK hc i pins s σ H E I hf st hg
  subst hP hw hK
  obtain⟨xs,x,hq1,hx⟩:=hg
  obtain⟨its1,rv1,p1,hz1⟩:=I.list hq1
  obtain⟨u,hu,ru⟩:=rv1.get hx
  obtain⟨q1,q4⟩:=id st
  have W:=WalksT.enumerate (prog:=X.prog) (w:=X.w) (A:=X.A) (I.ok.hd hc) e it a hei hle hli its1.toArray
  have hi1:i<its1.length:=(t3.mp hu).1
  refine W.item i s _ _ (by simpa using hi1) ⟨q1,q4,p1.isList⟩ λT vals h1 tk hP hT isT mid kk1=>⟨.ref T,rfl,W.go elts _ tp i T _ _ _ mid λh2 st2 kk2=> ?_⟩
  obtain⟨t,u',e1,rfl⟩:=hP
  rw[show its1.toArray[i]? =its1[i]? by simp,hu] at e1
  cases e1
  have nT:T∉([e,it]:List Addr):=W.apart i T _ mid
  have kk:∀c o,c∉([e,it]:List Addr)->s.heap.get? c=some o->h2.get? c=some o:=λc o hc e=>kk2 c o hc (kk1 c o hc e)
  have isT2:h2.IsTuple T #[.int i t,u]:=by
   obtain⟨o,e,c,d⟩:=isT
   exact⟨o,kk2 T o nT e,c,d⟩
  have I2:Inv X pins σ (upd H T (.tup [.int i,x])) {s with heap:=h2,toks:=tk}:=I.turnedT kk hf hT (Gm ⟨t,rfl⟩ ru isT2)
  refine⟨.ref T,_,I2,rfl,⟨T,x,I.hok.fresh hT,rfl,rfl,λxs' h=>by rw[I.list_inj h hq1];exact hx⟩,⟨st2.1,st2.2.1⟩,λc hc=> ?_⟩
  have hcT:c≠T:=λz=>by
   subst z
   exact nT hc
  rw[aT hcT]
  exact(hf c hc).1
 done:=by
  intro X hP hw hK hc i pins s σ H E I hf st hg
  subst hP hw hK
  obtain⟨xs,hq1,hx⟩:=hg
  obtain⟨its1,rv1,p1,hz1⟩:=I.list hq1
  have l1:=rv1.length
  obtain⟨⟨old,q1⟩,q4⟩:=id st
  refine wpAny_pyNext_enum_end (I.ok.hd hc) q1 q4 p1.isList (by simp;omega) λh' hk=>⟨rfl, ?_⟩
  exact I.turnedL (t':=s.toks) (ch:=[e,it]) (λc o hc e'=>hk c o (λx=>hc (by simp[x])) e') hf
 self:=λ_ _ _ _ _ st h=>let ⟨_,q⟩:=st.1;wpAny_pyIter_enum q h
theorem Ij{tg:Expr}(it:Addr)(x:Str)(t:Tok)(ty:String)(hty:ty="str_ascii_iterator" \/ty="str_iterator"):Turn P w K tg (Its x) [it] it (λi h=>h.IsStrIter it ty x t i) where
 mem:=by simp
 obj:=λi h st b hb=>by
  have e:b=it:=by simpa using hb
  subst e
  obtain⟨o,e,c,d⟩:=st
  exact⟨o,e,λv z=>by rw[d] at z;cases z⟩
 keep:=λi h h' st k=>let ⟨o,ho,r⟩:=st;⟨o,k it (by simp) o ho,r⟩
 item:=by
  intro X hP hw hK hc i pins s σ H E I hf st hg
  subst hP hw hK
  have hg:i<x.cps.size:=hg
  have W:Walks X.prog X.w X.A it [it] [it] x.cps.size (SignAt x) (λi h=>h.IsStrIter it ty x t i):=by
   rcases hty with rfl | rfl
   ·exact Walks.strAscii (I.ok.hd hc) it x t
   ·exact Walks.strWide (I.ok.hd hc) it x t
  refine W.item i s _ _ hg st λv h' tk hv st' kk=> ?_
  obtain⟨c,u,hc',rfl⟩:=hv
  have I1:Inv X pins σ H {s with heap:=h',toks:=tk}:=I.turnedL kk hf
  obtain⟨o,e,hc1,d⟩:=id st'
  exact⟨_,rfl,EV (s:={s with heap:=h',toks:=tk}) (n:=ty) e hc1 d (by rcases hty with rfl | rfl <;> decide) ⟨.str ⟨#[c]⟩,H,I1,⟨u,rfl⟩,⟨rfl,c,hc',rfl⟩,st',λb hb=>(hf b hb).1⟩⟩
 done:=by
  intro X hP hw hK hc i pins s σ H E I hf st hg
  subst hP hw hK
  have hg:x.cps.size<=i:=hg
  rcases hty with rfl | rfl
  ·exact wpAny_pyNext_ascii_end (I.ok.hd hc) st (by simp;omega) λh' eb=>⟨rfl,I.turnedL (t':=s.toks) (ch:=[it]) (λb o hb e=>eb b o (λz=>hb (by simp[z])) e) hf⟩
  ·exact wpAny_pyNext_wide_end (I.ok.hd hc) st (by simp;omega) λh' eb=>⟨rfl,I.turnedL (t':=s.toks) (ch:=[it]) (λb o hb e=>eb b o (λz=>hb (by simp[z])) e) hf⟩
 self:=λ_ _ _ _ _ st h=>by
  rcases hty with rfl | rfl
  ·exact wpAny_pyIter_striter_ascii st h
  ·exact wpAny_pyIter_striter_wide st h
section
variable {X : Cx} {tg : Expr}
def Ih(K:lm)(ta:TA):TI:=λσ H R=>ta σ H λvs H1=>∃a b,vs=[.ref a,.ref b]/\(∃xs,SqL K H1 a xs)/\(∃ys,SqL K H1 b ys)/\R (Itz K a b) H1
def JD(K:lm)(ta:TA):TI:=λσ H R=>ta σ H λvs H1=>∃a,vs=[.ref a]/\(∃xs,SqL K H1 a xs)/\R (Ite K a) H1
def MX(te:TE):TI:=λσ H R=>te σ H λx H1=>∃z,x=.str z/\R (Its z) H1
theorem sS{J:List Expr}{kk:Nat}{tp:Pos}{a b:Expr}{ta:TA}{p pos:Pos}(hg:Gl X "zip")(hm:X.mg "zip" =none)(ha:PA X [a,b] ta)(hs:starEach [a,b] X.env=[(false,eval a X.env),(false,eval b X.env)]:=by rfl)(U:starEach [b] X.env=[(false,eval b X.env)]:=by rfl):
 PI X (.Tuple J kk tp) (.Call (.Name "zip" p) [a,b] [] pos) (Ih X.K ta):=by
 intro pins s σ H R I h
 refine Call_ (qo I hg hm Boot.«zip» (PR (thn (ha pos pins s σ H _ I h) λus s1 ⟨vs,H1,I1,r1,q1⟩=> ?_) (by rw[hs,U]) (by rw[U];rfl)))
 obtain⟨l1,l2,e,⟨xs,Y⟩,⟨ys,ab⟩,q⟩:=q1
 subst e
 obtain⟨u,v,rfl,r,r'⟩:=vals2 r1
 cases r
 cases r'
 obtain⟨as,a8,p1,a9⟩:=I1.list Y
 obtain⟨az,bb,p2,bd⟩:=I1.list ab
 refine call_zip_2 p1.isList p2.isList λh' hz ac am an ap be hk=> ?_
 have a1:l1<s1.heap.objs.size:=by obtain⟨_,e,_⟩:=p1.isList;exact Heap.lt_size e
 have a2:l2<s1.heap.objs.size:=by obtain⟨_,e,_⟩:=p2.isList;exact Heap.lt_size e
 refine wpAny_pyIter_zip hz ⟨_,_,_,_,H1,rfl,I1.kept (t':=s1.toks) hk,HU (zipApart_new a1 a2),⟨hz,ac,⟨_,_,am⟩,an,ap⟩,λb hb=> ?_,q⟩
 have:s1.heap.objs.size<=b:=by
  simp only[sn,PK,or_false] at hb
  rcases hb with rfl | rfl | rfl | rfl | rfl <;> omega
 exact I1.fpOk this (I1.hok.fresh this)
theorem kG{J:List Expr}{kk:Nat}{tp:Pos}{a:Expr}{ta:TA}{p pos:Pos}(hg:Gl X "enumerate")(hm:X.mg "enumerate" =none)(ha:PA X [a] ta)(hs:starEach [a] X.env=[(false,eval a X.env)]:=by rfl):
 PI X (.Tuple J kk tp) (.Call (.Name "enumerate" p) [a] [] pos) (JD X.K ta):=by
 intro pins s σ H R I h
 refine Call_ (qo I hg hm Boot.«enumerate» (PR (thn (ha pos pins s σ H _ I h) λus s1 ⟨vs,H1,I1,r1,q1⟩=> ?_) hs rfl))
 obtain⟨l1,e,⟨xs,U⟩,q⟩:=q1
 subst e
 obtain⟨u,rfl,ru⟩:=vals1 r1
 cases ru
 obtain⟨ac,a2,p1,a3⟩:=I1.list U
 refine call_enumerate_list p1.isList λh' hz Y a4 hk=> ?_
 have a1:l1<s1.heap.objs.size:=by obtain⟨_,e,_⟩:=p1.isList;exact Heap.lt_size e
 refine wpAny_pyIter_enum hz ⟨_,_,_,_,H1,rfl,I1.kept (t':=s1.toks) hk,GP (e:=s1.heap.objs.size+1) (it:=s1.heap.objs.size) (a:=l1) (Nat.succ_ne_self _) (wS (Qz a1)) (wS a1),⟨⟨_,hz⟩,Y⟩,λb hb=> ?_,q⟩
 have:s1.heap.objs.size<=b:=by
  simp only[sn,PK,or_false] at hb
  rcases hb with rfl | rfl <;> omega
 exact I1.fpOk this (I1.hok.fresh this)
theorem LD{l:Expr}{tl:TE}(Y:PE X l tl):PI X tg l (MX tl):=by
 intro pins s σ H R I h
 refine thn (Y pins s σ H _ I h) λv s1 ⟨x,H1,I1,r1,q1⟩=> ?_
 obtain⟨z,e,q⟩:=q1
 subst e
 obtain⟨t,rfl⟩:=r1
 have J:∀(ty:String),(ty="str_ascii_iterator" \/ty="str_iterator")->PIE X pins σ tg R (.ref s1.heap.objs.size) {s1 with heap:=s1.heap.push {cls:=.type ty,data:=.fields #[.str z t,.int 0 0]}}:=λty U=>by
  refine⟨s1.heap.objs.size,[s1.heap.objs.size],_,_,H1,rfl,I1.kept (t':=s1.toks) λb o e=>Heap.get?_push_of_some _ e,Ij _ z t ty U,⟨_,Heap.get?_push_size _ rfl,rfl,rfl⟩,λb hb=> ?_,q⟩
  have e:b=s1.heap.objs.size:=by simpa using hb
  subst e
  exact I1.fpOk (qh _) (I1.hok.fresh (qh _))
 cases ha:z.cps.all (· < 128)
 ·exact wpAny_pyIter_wide ha (J _ (.inr rfl))
 ·exact wpAny_pyIter_ascii ha (J _ (.inl rfl))
theorem rA:∀{ns:List Int} {J:List Value},Vals (ns.map V.int) J->IntsAre J ns
 | [],_,r=>by cases r;exact .nil
 | n::ns,_,r=>by
  cases r with
  | cons U Y=>
   obtain⟨t,rfl⟩:=U
   exact .cons _ _ (rA Y)
theorem tQ(hc:X.calm=true:=by rfl):kQ X (.builtin "sum") (λxs H Q=>∃(p:Addr) (ns:List Int),xs=[.ref p]/\SqL X.K H p (ns.map V.int)/\Q (.int ns.sum) H):=by
 intro pins s σ H xs us Q I r h
 obtain⟨p,ns,rfl,hq,q⟩:=h
 obtain⟨u,rfl,ru⟩:=vals1 r
 cases ru
 obtain⟨J,rv,pl,hz⟩:=I.list hq
 have Y:=rA rv
 obtain⟨xs,U⟩:=Y.allInts.items
 have hn:numsOf J=ns:=Y.numsOf
 rw[show J=J.toArray.toList by simp,U,nums_intItems] at hn
 refine sum_intListG (I.ok.hd hc) (U▸pl.isList) λh' tk t' hk=> ?_
 rw[preSum_eq,Pq (by simp),hn]
 exact⟨.int ns.sum,H,I.kept (t':=tk) hk,⟨t',rfl⟩,q⟩
theorem Nm{bs:List Bool}{J:List Value}(U:Vals (bs.map V.bl) J){v:Value}(h:J.toArray[i]? =some v):v=.bool (bs.getD i false):=by
 have hi:i<J.length:=by
  have:=(Array.getElem?_eq_some_iff.mp h).1
  simpa using this
 have hb:i<bs.length:=by have:=U.length;rw[nW] at this;omega
 obtain⟨u,hu,Y⟩:=U.get (i:=i) (x:=.bl bs[i]) (by simp[hb])
 rw[show J.toArray[i]? =J[i]? by simp,hu] at h
 cases h
 cases Y
 simp[kt,hb]
theorem all_range(bs:List Bool):(pc bs.length).all (λi=>bs.getD i false)=bs.all id:=by
 induction bs with
 | nil=>rfl
 | cons b bs J=>
  rw[tz,RA,QC,QL,QC]
  simp only[Qf,List.getD_cons_succ,List.getD_cons_zero,id]
  rw[J]
theorem zJ(hc:X.calm=true:=by rfl):kQ X (.builtin "all") (λxs H Q=>∃(p:Addr) (bs:List Bool),xs=[.ref p]/\SqL X.K H p (bs.map V.bl)/\Q (.bl (bs.all id)) H):=by
 intro pins s σ H xs us Q I r h
 obtain⟨p,bs,rfl,hq,q⟩:=h
 obtain⟨u,rfl,ru⟩:=vals1 r
 cases ru
 obtain⟨J,rv,pl,hz⟩:=I.list hq
 have Y:=pl.isList
 have lt:p<s.heap.objs.size:=by obtain⟨_,e,_⟩:=Y;exact Heap.lt_size e
 have U:J.toArray.size=bs.length:=by have:=rv.length;rw[nW] at this;simp;omega
 refine call_all_walk (wpAny_pyIter_list Y ?_)
 refine⟨_,_,_,_,_,_,λi=>bs.getD i false,rfl,Walks.list (A:=X.A.in1) (I.ok.hd hc) s.heap.objs.size p (wS lt) J.toArray,⟨⟨_,Heap.get?_push_size _ rfl,rfl,rfl⟩,Y.push _⟩,λi v s' Q' E' hP hQ=> ?_,λh' tk hk=> ?_⟩
 ·rw[Nm rv hP]
  exact wpAny_truthy_bool hQ
 ·rw[U,all_range]
  refine⟨.bl (bs.all id),H,I.kept (t':=tk) λb o e=>hk b o (λz=> ?_) (Heap.get?_push_of_some _ e),rfl,q⟩
  have hb:=Heap.lt_size e
  rw[sB.mp z] at hb
  exact absurd hb (Ps _)
end
def pick{α:Type}(xs:List α)(lo hi st:Option Int):List α:=(sliceRange (sliceBounds lo hi st xs.length).1 (sliceBounds lo hi st xs.length).2.1 (sliceBounds lo hi st xs.length).2.2).filterMap (xs[·]?)
theorem qc{xs:List V}{us:List Value}(r:Vals xs us):∀J:List Nat,Vals (J.filterMap (xs[·]?)) (J.filterMap (us[·]?))
 | []=>.nil
 | j::J=>by
  have U:=qc r J
  cases hn:xs[j]? with
  | some x=>
   obtain⟨u,hu,Y⟩:=r.get hn
   simp only[Pm,hn,hu]
   exact .cons Y U
  | none=>
   have hv:us[j]? =none:=by
    rw[Q8] at hn ⊢
    rw[<- r.length];exact hn
   simp only[Pm,hn,hv]
   exact U
def N1(K:lm):V->Option Int->Option Int->Option Int->Hp->VK->Prop:=λx lo hi st H Q=>∃a xs,x=.ref a/\SqL K H a xs/\st≠some 0/\∀p,H p=none->Q (.ref p) (upd H p (.lst (pick xs lo hi st)))
def Jz(K:lm)(te:TE)(tl th ts:TO):TE:=λσ H Q=>te σ H λx H1=>tl σ H1 λl H2=>th σ H2 λu J=>ts σ J λst U=>N1 K x l u st U Q
section
variable {X : Cx} {e se : Expr} {te : TE} {lo hi : Option Expr} {tl th ts : TO} {pos p2 : Pos}
theorem Lj(he:PE X e te)(hl:PO X lo tl)(hu:PO X hi th)(hs:PO X (some se) ts):PE X (.Subscript e (.Slice lo hi (some se) p2) pos) (Jz X.K te tl th ts):=by
 intro pins s σ H Q I h
 refine Subscript_ (thn (he pins s σ H _ I h) λv s1 ⟨x,H1,I1,r1,q1⟩=> ?_)
 refine wpAny_Slice (thn (hl pins s1 σ H1 _ I1 q1) λvl s2 ⟨l,H2,I2,pl,q2⟩=>thn (hu pins s2 σ H2 _ I2 q2) λvu s3 ⟨u,H3,I3,pu,q3⟩=>thn (hs pins s3 σ H3 _ I3 q3) λvs s4 ⟨st,H4,I4,ps,q4⟩=> ?_)
 have Y:Inv X pins σ H4 {s4 with heap:=s4.heap.push {cls:=.type "slice",data:=.fields #[vl,vu,vs]}}:=I4.kept (t':=s4.toks) λb ob q=>Heap.get?_push_of_some _ q
 obtain⟨a,xs,rfl,hx,h0,q⟩:=q4
 cases r1
 obtain⟨U,r,ht,hz⟩:=Y.list hx
 have J:=r.length
 show wpAny (model X.prog X.w) X.A (subscriptTail e (.Slice lo hi (some se) p2) (.ref a) (.ref s4.heap.objs.size)) (EP X pins σ Q) X.xe {s4 with heap:=s4.heap.push {cls:=.type "slice",data:=.fields #[vl,vu,vs]}}
 refine tail_any (ops:=[.ref a,.ref s4.heap.objs.size]) ht.isList.typeIs slot_list_getitem.lookup ?_ (by with_unfolding_all rfl)
 refine wpAny_getItem_list_slice ht.isList (Heap.IsSliceOf.new ..) pl pu ps h0 ?_ (by rw[sK] <;> omega)
 have hp:slicePick U.toArray l u st=((sliceRange (sliceBounds l u st xs.length).1 (sliceBounds l u st xs.length).2.1 (sliceBounds l u st xs.length).2.2).filterMap (U[·]?)).toArray:=by
  unfold slicePick
  rw[sK,<- J]
  simp
 have ab:(pick xs l u st).length<=xs.length:=by
  have h1:=slicePick_size_le U.toArray l u st
  rw[hp,sK,sK,<- J] at h1
  have h2:=(qc r (sliceRange (sliceBounds l u st xs.length).1 (sliceBounds l u st xs.length).2.1 (sliceBounds l u st xs.length).2.2)).length
  show (List.filterMap (xs[·]?) _).length<=_
  rw[h2];exact h1
 rw[hp]
 refine⟨.ref _,_,Y.laid (t':=s4.toks) (o:=.lst (pick xs l u st)) (λb ob q=>Heap.get?_push_of_some _ q) (qh _) ?_,rfl,q _ (Y.hok.fresh (qh _))⟩
 exact⟨yB ab hz,_,0,qc r _,Heap.get?_push_size _ rfl⟩
end
section
variable {X : Cx} {tg : Expr}
end
def k9(x:Str)(lo hi:Option Int):Str:=
 if ((Builtin.Str.strSliceIndices lo hi 1 x.length).length == x.length)=true then x else ⟨((Builtin.Str.strSliceIndices lo hi 1 x.length).filterMap (x.cps[·]?)).toArray⟩
section
variable {X : Cx}
def JY:V->Option Int->Option Int->Hp->VK->Prop:=λx lo hi H Q=>∃z,x=.str z/\z.length<=sizeLine/\Q (.str (k9 z lo hi)) H
theorem FC:SlR X JY:=by
 intro pins s σ H x v Y vu lo hi sl Q I J hs pl U h
 obtain⟨z,rfl,hz,q⟩:=h
 obtain⟨t,rfl⟩:=J
 refine⟨"str",_,F.slot_str_getitem.lookup,typeIs_str _ _ _, ?_⟩
 have part:∀{v:Value} {o:Option Int},IsPart v o->∃p:Option (Int×Tok),v=partValue p/\p.map (·.1)=o:=λh=>by
  cases h with
  | none=>exact⟨none,rfl,rfl⟩
  | int i t=>exact⟨some (i,t),rfl,rfl⟩
 obtain⟨l,rfl,rfl⟩:=part pl
 obtain⟨u,rfl,rfl⟩:=part U
 refine wpAny_getItem_str_slice (l:=l) (u:=u) (st:=none) hs rfl ?_
 unfold sliceMade
 show Made.post (if (true&&((Builtin.Str.strSliceIndices (l.map (·.1)) (u.map (·.1)) 1 z.length).length == z.length))=true then _ else _) _ _
 unfold k9 at q
 rw[Qo]
 by_cases hc:((Builtin.Str.strSliceIndices (l.map (·.1)) (u.map (·.1)) 1 z.length).length == z.length)=true
 ·rw[if_pos hc] at q ⊢
  exact⟨.str z,H,I,⟨t,rfl⟩,q⟩
 ·rw[if_neg hc] at q ⊢
  refine⟨?_,⟨.str _,H,I.tok _,⟨_,rfl⟩,q⟩⟩
  show (Kg _).size<=_
  rw[sK]
  exact yB (yB (List.length_filterMap_le _ _) (sliceIndices_le _ _ _)) hz
end
section
variable {X : Cx}
end
section
variable {X : Cx}
theorem DZ:∀{J:List Str} {U:List Value},Vals (J.map V.str) U->∃l:List (Str×Tok),strValues l=U/\l.map (·.1)=J
 | [],_,h=>by cases h;exact⟨[],rfl,rfl⟩
 | x::J,_,h=>by
  cases h with
  | cons r Y=>
   obtain⟨t,rfl⟩:=r
   obtain⟨l,rfl,e⟩:=DZ Y
   exact⟨(x,t)::l,rfl,by rw[sH,e]⟩
end
section
variable {X : Cx}
def isT(y:Str):Value->Bool
 | .str a _=>a == y
 | _=>false
theorem MQ{y:Str}{t:Tok}{l:List (Str×Tok)}(A:Around)(s:Shared):∀v,v∈(strValues l).toArray->SeqAt.EqAt A s v (.str y t) (isT y v):=by
 intro v U
 have J:v∈strValues l:=by simpa using U
 obtain⟨p,_,rfl⟩:=li.mp J
 exact(eqGives_str p.1 y p.2 t).at A s
theorem M1{b:Addr}{J:List Str}(I:Inv X pins σ H s)(hs:SqL X.K H b (J.map V.str)):
 ∃(l:List (Str×Tok)) (U:Option Addr) (n:Nat) (sl:Array (Option Value)),l.map (·.1)=J/\s.heap.get? b=some {cls:=.type "list",dict:=U,data:=.seq (strValues l).toArray n,slots:=sl}/\l.length<=sizeLine:=by
 obtain⟨Y,r',pl,hz⟩:=I.list hs
 obtain⟨l,rfl,e⟩:=DZ r'
 obtain⟨o,ho,hc,n,hd⟩:=pl.isList
 obtain⟨oc,od,am,os⟩:=o
 dsimp only at hc hd
 subst hc hd
 refine⟨l,od,n,os,e,ho, ?_⟩
 rw[<- e,nW,nW] at hz
 exact hz
def GZ(K:lm):V->List V->Hp->VK->Prop:=λx vs H Q=>∃(b:Addr) (J:List Str) (y:Str),x=.ref b/\vs=[.str y]/\SqL K H b (J.map V.str)/\J.idxOf y<J.length/\Q (.int (J.idxOf y:Nat)) H
theorem Hu:MtR X "list.index" (GZ X.K):=by
 intro pins s σ H x vs v us Q I rx rv h
 obtain⟨b,J,y,rfl,rfl,hs,U,q⟩:=h
 cases rx
 obtain⟨u,rfl,t2,rfl⟩:=rv.one
 obtain⟨l,dd,n,sl,rfl,Y,hz⟩:=M1 I hs
 have hn:=nY
 have hl:(strValues l).toArray.size=(l.map (·.1)).length:=by simp[strValues]
 have at_:∀(m:Nat) (hm:m<(strValues l).toArray.size),isT y ((strValues l).toArray[m])=((l.map (·.1))[m]'(by rw[<- hl];exact hm) == y):=by
  intro m hm
  simp[strValues,isT]
 refine call_meets F.slot_list_index ⟨_,Y,rfl⟩ F.entry_list_index (F.args_list_index_2 _ _) (SeqAt.list_indexAt b _ n dd sl _ (isT y) ((l.map (·.1)).idxOf y) (by rw[hl];exact U) (by rw[nW] at U;omega) ?_ ?_) ⟨Y,MQ _ _, ?_⟩
 ·rw[at_]
  have:=List.getElem_idxOf U
  rw[this]
  exact beq_self_eq_true y
 ·intro m hm h2
  rw[at_]
  exact List.not_of_lt_findIdx (p:=λa=>a == y) h2
 ·exact⟨.int _,H,I.tok _,⟨_,rfl⟩,q⟩
end
section
variable {prog : Program} {w : World} {A : Around} {R : Result → Shared → Prop} {I : Addr} {fp wr : List Addr} {G : Array GenState → Array GenState → Prop} {n : Nat} {P : Nat → Value → Prop} {St : Nat → Shared → Prop}
end
section
variable {prog : Program} {w : World} {A : Around} {E : Value → Shared → Prop} {s : Shared}
end
section
variable {X : Cx} {e : Expr} {te : TE} {x y : Str} {p1 p2 q1 q2 : Pos}
end
open PySem PySem.Spec PyProof.Rows PySem.W
def iY{α:Type}(lt:Nat->Nat->Bool):KasT α->α
 | .ret a=>a
 | .ask i j k=>iY lt (k (lt i j))
theorem kN{α β:Type}(lt:Nat->Nat->Bool)(f:α->KasT β):∀t:KasT α,iY lt (t.bind f)=iY lt (f (iY lt t))
 | .ret _=>rfl
 | .ask i j k=>kN lt f (k (lt i j))
section
variable {O : KeyOrd} (key : Nat → O.α)
def kAt(p:Array Nat)(i:Nat):O.α:=key (p.getD i 0)
abbrev ltK:Nat->Nat->Bool:=λi j=>O.blt (key i) (key j)
def eR(p:Array Nat)(m:Nat):Prop:=∀i j,i<=j->j<m->O.kle (kAt key p i) (kAt key p j)
def ke(p:Array Nat)(m:Nat):Prop:=∀i j,i<=j->j<m->O.kle (kAt key p j) (kAt key p i)
def xt(p:Array Nat)(n q:Nat):Prop:=∀i,n<=i+(q+1)->i<n->kAt key p i=kAt key p (n-1)
variable {key}
theorem uc{p J:Array Nat}(h:J[i]? =p[j]?):kAt key J i=kAt key p j:=by
 unfold kAt
 rw[PU,PU,h]
theorem uF(J:j<=p.size)(k:Nat):kAt key (kas_rev p i j) k=if i<=k/\k<j then kAt key p (i+j-1-k) else kAt key p k:=by
 have h:=getElem?_mirror_all (xs:=p) (i:=i) J k
 split at h
 ·rename_i c
  rw[if_pos c];exact uc h
 ·rename_i c
  rw[if_neg c];exact uc h
theorem rX(p:Array Nat)(i j:Nat):(kas_rev p i j).Perm p:=mirror_perm _ _ _ _
theorem fY(p:Array Nat)(i j:Nat):(kas_rev p i j).size=p.size:=mirror_size _ _ _ _
theorem AU{n q:Nat}(hn:n<=p.size)(hq:q+1<=n)(h:xt key p n q)(k:Nat):kAt key (kas_rev p (n-(q+1)) n) k=kAt key p k:=by
 rw[uF hn]
 split
 ·rename_i c
  rw[h _ (by omega) (by omega),h k (by omega) (by omega)]
 ·rfl
theorem eR.more(h1:1<=n)(h:eR key p n)(hn:O.kle (kAt key p (n-1)) (kAt key p n)):eR key p (n+1):=by
 intro i j J Y
 by_cases U:j=n
 ·subst U
  by_cases hi:i=j
  ·subst hi;exact KeyOrd.kle_refl _
  ·exact KeyOrd.kle_trans (h i (j-1) (by omega) (by omega)) hn
 ·exact h i j J (by omega)
theorem ke.more(h1:1<=n)(h:ke key p n)(hn:O.kle (kAt key p n) (kAt key p (n-1))):ke key p (n+1):=by
 intro i j J Y
 by_cases U:j=n
 ·subst U
  by_cases hi:i=j
  ·subst hi;exact KeyOrd.kle_refl _
  ·exact KeyOrd.kle_trans hn (h i (j-1) (by omega) (by omega))
 ·exact h i j J (by omega)
theorem yg{p:Array Nat}:∀(f n:Nat),1<=n->eR key p n->∃m,iY (ltK key) (kas_asc p f n)=m/\n<=m/\m<=n+f/\eR key p m/\(m<n+f->O.blt (kAt key p m) (kAt key p (m-1))=true)
 | 0,n,_,h=>⟨n,rfl,qh _,qh _,h,λz=>absurd z (Ps _)⟩
 | f+1,n,h1,h=>by
  show ∃m,iY (ltK key) (if O.blt (kAt key p n) (kAt key p (n-1))=true then KasT.ret n else kas_asc p f (n+1))=m/\_
  cases hc:O.blt (kAt key p n) (kAt key p (n-1)) with
  | true=>exact⟨n,rfl,qh _,by omega,h,λ_=>hc⟩
  | false=>
   obtain⟨m,e,Y,a2,J,U⟩:=yg f (n+1) (by omega) (h.more h1 hc)
   exact⟨m,e,by omega,by omega,J,λz=>U (by omega)⟩
theorem qP:∀(f:Nat) (p:Array Nat) (n q:Nat),1<=n->n+f<=p.size->q+1<=n->ke key p n->xt key p n q->
 ∃U J q',iY (ltK key) (kas_desc f p n q)=(U,J,q')/\U.Perm p/\U.size=p.size/\n<=J/\J<=n+f/\q'+1<=J/\ke key U J/\xt key U J q'
 | 0,p,n,q,_,_,hq,h,he=>⟨p,n,q,rfl,.refl _,rfl,qh _,qh _,hq,h,he⟩
 | f+1,p,n,q,h1,hs,hq,h,he=>by
  have Y:∀p:Array Nat,xt key p (n+1) 0:=λp i a b=>by rw[show i=n by omega];rfl
  show ∃U J q',iY (ltK key) (if O.blt (kAt key p n) (kAt key p (n-1))=true then (if q>0 then kas_desc f (kas_rev p (n-(q+1)) n) (n+1) 0 else kas_desc f p (n+1) 0)
   else .ask (p.getD (n-1) 0) (p.getD n 0) λd=>if d=true then .ret (p,n,q) else kas_desc f p (n+1) (q+1))=(U,J,q')/\_
  cases hc:O.blt (kAt key p n) (kAt key p (n-1)) with
  | true=>
   rw[if_pos rfl]
   have az:O.kle (kAt key p n) (kAt key p (n-1)):=KeyOrd.kle_of_klt hc
   have hf:=h.more h1 az
   by_cases ab:q>0
   ·rw[if_pos ab]
    have keep:=AU (key:=key) (p:=p) (n:=n) (q:=q) (by omega) hq he
    have a1:ke key (kas_rev p (n-(q+1)) n) (n+1):=λi j a b=>by rw[keep,keep];exact hf i j a b
    obtain⟨U,J,q',e,b1,b2,b3,b4,b5,b6,b7⟩:=qP f (kas_rev p (n-(q+1)) n) (n+1) 0 (by omega) (by rw[fY];omega) (by omega) a1 (Y _)
    exact⟨U,J,q',e,b1.trans (rX _ _ _),b2.trans (fY _ _ _),by omega,by omega,b5,b6,b7⟩
   ·rw[if_neg ab]
    obtain⟨U,J,q',e,b1,b2,b3,b4,b5,b6,b7⟩:=qP f p (n+1) 0 (by omega) (by omega) (by omega) hf (Y _)
    exact⟨U,J,q',e,b1,b2,by omega,by omega,b5,b6,b7⟩
  | false=>
   rw[if_neg (by simp)]
   show ∃U J q',iY (ltK key) (if O.blt (kAt key p (n-1)) (kAt key p n)=true then KasT.ret (p,n,q) else kas_desc f p (n+1) (q+1))=(U,J,q')/\_
   cases hd:O.blt (kAt key p (n-1)) (kAt key p n) with
   | true=>exact⟨p,n,q,rfl,.refl _,rfl,qh _,by omega,hq,h,he⟩
   | false=>
    rw[if_neg (by simp)]
    have eq:kAt key p n=kAt key p (n-1):=O.total _ _ hc hd
    have a2:xt key p (n+1) (q+1):=λi a b=>by
     show kAt key p i=kAt key p n
     by_cases hi:i=n
     ·rw[hi]
     ·rw[eq];exact he i (by omega) (by omega)
    obtain⟨U,J,q',e,b1,b2,b3,b4,b5,b6,b7⟩:=qP f p (n+1) (q+1) (by omega) (by omega) (by omega) (h.more h1 (by rw[eq];exact KeyOrd.kle_refl _)) a2
    exact⟨U,J,q',e,b1,b2,by omega,by omega,b5,b6,b7⟩
theorem Bv(h1:1<=n)(hn:n<=nrem)(hs:nrem<=p.size)(h:ke key p n):
 ∃m J,iY (ltK key) (kas_tail3 n nrem p)=(m,J)/\J.Perm p/\J.size=p.size/\1<=m/\m<=nrem/\eR key J m:=by
 have U:eR key (kas_rev p 0 n) n:=λi j a b=>by
  rw[uF (by omega),uF (by omega),if_pos ⟨Bs _,by omega⟩,if_pos ⟨Bs _,b⟩]
  exact h _ _ (by omega) (by omega)
 obtain⟨m,e,a1,a2,Y,_⟩:=yg (nrem-n) n h1 U
 refine⟨m,kas_rev p 0 n, ?_,rX _ _ _,fY _ _ _,by omega,by omega,Y⟩
 unfold kas_tail3
 rw[kN,e]
 rfl
theorem Ai(h1:1<=n)(hn:n+1<=nrem)(hs:nrem<=p.size)(h:ke key p (n+1)):
 ∃m J,iY (ltK key) (kas_descPart n nrem p)=(m,J)/\J.Perm p/\J.size=p.size/\1<=m/\m<=nrem/\eR key J m:=by
 obtain⟨p1,U,q1,e,b1,b2,b3,b4,b5,b6,b7⟩:=qP (key:=key) (nrem-(n+1)) p (n+1) 0 (by omega) (by omega) (by omega) h (λi a b=>by rw[show i=n by omega];rfl)
 unfold kas_descPart
 rw[kN,e]
 dsimp only
 by_cases hq:q1>0
 ·rw[if_pos hq]
  have keep:=AU (key:=key) (p:=p1) (n:=U) (q:=q1) (by omega) b5 b7
  obtain⟨m,J,e2,Y,c2,c3,c4,c5⟩:=Bv (key:=key) (p:=kas_rev p1 (U-(q1+1)) U) (n:=U) (nrem:=nrem) (by omega) (by omega) (by rw[fY];omega) (λi j a b=>by rw[keep,keep];exact b6 i j a b)
  exact⟨m,J,e2,Y.trans ((rX _ _ _).trans b1),c2.trans ((fY _ _ _).trans b2),c3,c4,c5⟩
 ·rw[if_neg hq]
  obtain⟨m,J,e2,Y,c2,c3,c4,c5⟩:=Bv (key:=key) (p:=p1) (n:=U) (nrem:=nrem) (by omega) (by omega) (by omega) b6
  exact⟨m,J,e2,Y.trans b1,c2.trans b2,c3,c4,c5⟩
theorem FU(h1:1<=nrem)(hs:nrem<=p.size):
 ∃m Y,iY (ltK key) (kas_count nrem p)=(m,Y)/\Y.Perm p/\Y.size=p.size/\1<=m/\m<=nrem/\eR key Y m:=by
 have s1:eR key p 1:=λi j a b=>by rw[show i=j by omega];exact KeyOrd.kle_refl _
 obtain⟨n,e,a1,a2,a3,a4⟩:=yg (key:=key) (p:=p) (nrem-1) 1 (qh _) s1
 unfold kas_count
 rw[kN,e]
 by_cases hn:n=nrem
 ·rw[if_pos (by simpa using hn)]
  exact⟨n,p,rfl,.refl _,rfl,a1,by omega,a3⟩
 ·rw[if_neg (by simpa using hn)]
  have ab:=a4 (by omega)
  by_cases h2:n>1
  ·rw[if_pos h2]
   show ∃m Y,iY (ltK key) (if O.blt (kAt key p 0) (kAt key p (n-1))=true then KasT.ret (n,p) else kas_descPart n nrem (kas_rev p 0 n))=(m,Y)/\_
   cases hc:O.blt (kAt key p 0) (kAt key p (n-1)) with
   | true=>exact⟨n,p,rfl,.refl _,rfl,a1,by omega,a3⟩
   | false=>
    rw[if_neg (by simp)]
    have same:∀i,i<n->kAt key p i=kAt key p (n-1):=λi hi=>by
     refine KeyOrd.kle_antisymm (a3 i (n-1) (by omega) (by omega)) ?_
     exact KeyOrd.kle_trans (show O.kle (kAt key p (n-1)) (kAt key p 0) from hc) (a3 0 i (Bs _) hi)
    have J:∀i,i<=n->kAt key (kas_rev p 0 n) i=kAt key p i:=λi hi=>by
     rw[uF (by omega)]
     split
     ·rename_i c
      rw[same _ (by omega),same i (by omega)]
     ·rfl
    have U:ke key (kas_rev p 0 n) (n+1):=by
     refine ke.more (by omega) (λi j a b=> ?_) ?_
     ·rw[J i (by omega),J j (by omega),same i (by omega),same j (by omega)];exact KeyOrd.kle_refl _
     ·rw[J n (qh _),J (n-1) (by omega)];exact KeyOrd.kle_of_klt ab
    obtain⟨m,Y,e2,c1,c2,c3,c4,c5⟩:=Ai (key:=key) (p:=kas_rev p 0 n) (n:=n) (nrem:=nrem) (by omega) (by omega) (by rw[fY];omega) U
    exact⟨m,Y,e2,c1.trans (rX _ _ _),c2.trans (fY _ _ _),c3,c4,c5⟩
  ·rw[if_neg h2]
   obtain rfl:n=1:=by omega
   have U:ke key p (1+1):=ke.more (qh _) (λi j a b=>by rw[show i=j by omega];exact KeyOrd.kle_refl _) (KeyOrd.kle_of_klt ab)
   exact Ai (by omega) (by omega) hs U
theorem uo{p:Array Nat}{k:Nat}(hs:eR key p k):∀(f l r:Nat),l<=r->r<=k->r-l<=f->(∀i,i<l->O.kle (kAt key p i) (kAt key p k))->(∀i,r<=i->i<k->O.kle (kAt key p k) (kAt key p i))->
 ∃m,iY (ltK key) (kas_place p k f l r)=m/\m<=k/\(∀i,i<m->O.kle (kAt key p i) (kAt key p k))/\(∀i,m<=i->i<k->O.kle (kAt key p k) (kAt key p i))
 | 0,l,r,a,b,c,h1,h2=>⟨l,rfl,by omega,h1,λi hi hk=>h2 i (by omega) hk⟩
 | f+1,l,r,a,b,c,h1,h2=>by
  unfold kas_place
  by_cases J:l ≥ r
  ·rw[if_pos J]
   exact⟨l,rfl,by omega,h1,λi hi hk=>h2 i (by omega) hk⟩
  ·rw[if_neg J]
   show ∃m,iY (ltK key) (if O.blt (kAt key p k) (kAt key p ((l+r)/2))=true then kas_place p k f l ((l+r)/2) else kas_place p k f ((l+r)/2+1) r)=m/\_
   cases hc:O.blt (kAt key p k) (kAt key p ((l+r)/2)) with
   | true=>
    rw[if_pos rfl]
    exact uo hs f l ((l+r)/2) (by omega) (by omega) (by omega) h1 λi hi hk=>KeyOrd.kle_trans (KeyOrd.kle_of_klt hc) (hs _ _ hi hk)
   | false=>
    rw[if_neg (by simp)]
    exact uo hs f ((l+r)/2+1) r (by omega) b (by omega) (λi hi=>KeyOrd.kle_trans (hs i ((l+r)/2) (by omega) (by omega)) hc) h2
theorem Ea:∀(f:Nat) (p:Array Nat) (k:Nat),k+f<=p.size->eR key p k->∃J,iY (ltK key) (kas_bin f p k)=J/\J.Perm p/\J.size=p.size/\eR key J (k+f)
 | 0,p,k,_,h=>⟨p,rfl,.refl _,rfl,h⟩
 | f+1,p,k,hk,h=>by
  obtain⟨m,e,m1,m2,m3⟩:=uo h k 0 k (Bs _) (qh _) (by omega) (λi hi=>absurd hi (by omega)) (λi a b=>absurd b (by omega))
  have at_:∀i,kAt key (bubble p k (k-m)) i=if i=m then kAt key p k else if m<i/\i<=k then kAt key p (i-1) else kAt key p i:=λi=>by
   have g:=getElem?_bubble (xs:=p) (src:=k) (by omega) (k-m) (by omega) i
   rw[show k-(k-m)=m by omega] at g
   split at g
   ·rename_i c;rw[if_pos c];exact uc g
   ·rename_i c
    rw[if_neg c]
    split at g
    ·rename_i d;rw[if_pos d];exact uc g
    ·rename_i d;rw[if_neg d];exact uc g
  have so:eR key (bubble p k (k-m)) (k+1):=λi j a b=>by
   rw[at_,at_]
   by_cases hi:i=m
   ·rw[if_pos hi]
    by_cases U:j=m
    ·rw[if_pos U];exact KeyOrd.kle_refl _
    ·rw[if_neg U,if_pos (by omega)];exact m3 _ (by omega) (by omega)
   ·rw[if_neg hi]
    by_cases Y:m<i/\i<=k
    ·rw[if_pos Y,if_neg (by omega),if_pos (by omega)]
     exact h _ _ (by omega) (by omega)
    ·rw[if_neg Y]
     by_cases U:j=m
     ·rw[if_pos U];exact m2 i (by omega)
     ·rw[if_neg U]
      by_cases ab:m<j/\j<=k
      ·rw[if_pos ab];exact h _ _ (by omega) (by omega)
      ·rw[if_neg ab];exact h _ _ a (by omega)
  obtain⟨J,e2,c1,c2,c3⟩:=Ea f (bubble p k (k-m)) (k+1) (by rw[bubble_size];omega) so
  refine⟨J, ?_,c1.trans (bubble_perm _ _ _),c2.trans (bubble_size _ _ _), ?_⟩
  ·unfold kas_bin
   rw[kN,e]
   exact e2
  ·rw[show k+(f+1)=k+1+f by omega];exact c3
theorem vT(h1:1<=n):∃p,iY (ltK key) (kas_sort n)=p/\p.Perm (Kg (pc n))/\p.size=n/\eR key p n:=by
 have sz:(Kg (pc n)).size=n:=by simp
 obtain⟨m,p1,e,J,a2,a3,a4,U⟩:=FU (key:=key) (p:=Kg (pc n)) (nrem:=n) h1 (by omega)
 unfold kas_sort
 rw[kN,e]
 dsimp only
 by_cases hm:m<n
 ·rw[if_pos hm,Nat.max_eq_left a3]
  obtain⟨p2,e2,b1,b2,Y⟩:=Ea (key:=key) (n-m) p1 m (by omega) U
  exact⟨p2,e2,b1.trans J,by omega,by rw[show m+(n-m)=n by omega] at Y;exact Y⟩
 ·rw[if_neg hm]
  obtain rfl:m=n:=by omega
  exact⟨p1,rfl,J,by omega,U⟩
end
theorem lex_irrefl:∀a:List Int,HT.lexLt a a=false
 | []=>rfl
 | x::a=>by rw[HT.nF,if_pos rfl];exact lex_irrefl a
theorem lex_trans:∀a b c:List Int,HT.lexLt a b=true->HT.lexLt b c=true->HT.lexLt a c=true
 | [],[],_,h,_=>by cases h
 | [],_::_,[],_,h=>by cases h
 | [],_::_,_::_,_,_=>rfl
 | _::_,[],_,h,_=>by cases h
 | _::_,_::_,[],_,h=>by cases h
 | x::a,y::b,z::c,h1,h2=>by
  rw[HT.nF] at h1 h2 ⊢
  by_cases e1:x=y
  ·by_cases e2:y=z
   ·rw[if_pos e1] at h1
    rw[if_pos e2] at h2
    rw[if_pos (e1.trans e2)]
    exact lex_trans a b c h1 h2
   ·rw[if_neg e2] at h2
    rw[e1,if_neg e2];exact h2
  ·rw[if_neg e1] at h1
   have J:=of_decide_eq_true h1
   by_cases e2:y=z
   ·rw[<- e2,if_neg e1];exact h1
   ·rw[if_neg e2] at h2
    have U:=of_decide_eq_true h2
    rw[if_neg (by omega)];exact decide_eq_true (by omega)
theorem o5:∀a b:List Int,HT.lexLt a b=false->HT.lexLt b a=false->a=b
 | [],[],_,_=>rfl
 | [],_::_,h,_=>by cases h
 | _::_,[],_,h=>by cases h
 | x::a,y::b,h1,h2=>by
  rw[HT.nF] at h1 h2
  by_cases e:x=y
  ·rw[if_pos e] at h1
   rw[if_pos e.symm] at h2
   rw[e,o5 a b h1 h2]
  ·rw[if_neg e] at h1
   rw[if_neg (QH e)] at h2
   have J:=of_decide_eq_false h1
   have U:=of_decide_eq_false h2
   omega
def MN:KeyOrd where
 α:=List Int
 blt:=HT.lexLt
 irrefl:=lex_irrefl
 trans:=lex_trans
 negTrans:=λa b c h=>by
  cases h1:HT.lexLt a b with
  | true=>exact .inl rfl
  | false=>
   right
   cases h2:HT.lexLt b c with
   | true=>rfl
   | false=>
    cases h3:HT.lexLt b a with
    | true=>
     have:=lex_trans b a c h3 h
     rw[h2] at this;cases this
    | false=>
     have:=o5 a b h1 h3
     subst this
     rw[h] at h2;cases h2
 total:=o5
def Lv{α:Type}(N:Nat)(P:α->Prop):KasT α->Prop
 | .ret a=>P a
 | .ask i j k=>i<N/\j<N/\∀b,Lv N P (k b)
theorem Lv.bind{α β:Type}{N:Nat}{P:α->Prop}{P':β->Prop}{f:α->KasT β}(J:∀a,P a->Lv N P' (f a)):∀{t:KasT α},Lv N P t->Lv N P' (t.bind f)
 | .ret a,h=>J a h
 | .ask i j k,h=>⟨h.1,h.2.1,λb=>Lv.bind J (h.2.2 b)⟩
def Und(N:Nat)(p:Array Nat):Prop:=∀i,p.getD i 0<N
theorem Und.of{p J:Array Nat}(h:Und N p)(hp:∀i:Nat,∃j:Nat,J[i]? =p[j]?):Und N J:=λi=>by
 obtain⟨j,e⟩:=hp i
 have:=h j
 rw[PU] at this ⊢
 rw[e];exact this
theorem Und.rev(h:Und N p)(J:j<=p.size):Und N (kas_rev p i j):=h.of λk=>by
 have g:=getElem?_mirror_all (xs:=p) (i:=i) J k
 split at g
 ·exact⟨_,g⟩
 ·exact⟨_,g⟩
theorem Und.bub(h:Und N p){k d:Nat}(hk:k<p.size)(hd:d<=k):Und N (bubble p k d):=h.of λi=>by
 have g:=getElem?_bubble (xs:=p) hk d hd i
 split at g
 ·exact⟨_,g⟩
 ·split at g
  ·exact⟨_,g⟩
  ·exact⟨_,g⟩
theorem C5{N:Nat}{p:Array Nat}(h:Und N p):∀(f n:Nat),Lv N (λm=>n<=m/\m<=n+f) (kas_asc p f n)
 | 0,n=>⟨qh _,qh _⟩
 | f+1,n=>⟨h _,h _,λb=>by
  cases b with
  | true=>exact⟨qh _,by omega⟩
  | false=>
   have:=Lv.bind (f:=KasT.ret) (P':=λm=>n<=m/\m<=n+(f+1)) (λa ha=>(⟨by omega,by omega⟩:n<=a/\a<=n+(f+1))) (C5 h f (n+1))
   rw[show (kas_asc p f (n+1)).bind KasT.ret=kas_asc p f (n+1) from bind_ret _] at this
   exact this⟩
where bind_ret {α:Type}:∀t:KasT α,t.bind KasT.ret=t
  | .ret _=>rfl
  | .ask i j k=>congrArg (KasT.ask i j) (funext λb=>bind_ret (k b))
theorem Lv.mono{α:Type}{N:Nat}{P P':α->Prop}(h:∀a,P a->P' a):∀{t:KasT α},Lv N P t->Lv N P' t
 | .ret a,x=>h a x
 | .ask i j k,x=>⟨x.1,x.2.1,λb=>Lv.mono h (x.2.2 b)⟩
theorem uS{N S:Nat}:∀(f:Nat) (p:Array Nat) (n q:Nat),p.size=S->n+f<=S->Und N p->Lv N (λr:Array Nat×Nat×Nat=>r.1.size=S/\Und N r.1/\n<=r.2.1/\r.2.1<=n+f) (kas_desc f p n q)
 | 0,p,n,q,hz,_,h=>⟨hz,h,qh _,qh _⟩
 | f+1,p,n,q,hz,hs,h=>⟨h _,h _,λc=>by
  have J:∀{t:KasT (Array Nat×Nat×Nat)},Lv N (λr:Array Nat×Nat×Nat=>r.1.size=S/\Und N r.1/\n+1<=r.2.1/\r.2.1<=n+1+f) t->Lv N (λr:Array Nat×Nat×Nat=>r.1.size=S/\Und N r.1/\n<=r.2.1/\r.2.1<=n+(f+1)) t:=
   Lv.mono λr ⟨a,b,c,d⟩=>⟨a,b,by omega,by omega⟩
  cases c with
  | true=>
   show Lv N _ (if q>0 then kas_desc f (kas_rev p (n-(q+1)) n) (n+1) 0 else kas_desc f p (n+1) 0)
   split
   ·exact J (uS f _ (n+1) 0 (by rw[fY];exact hz) (by omega) (h.rev (by omega)))
   ·exact J (uS f p (n+1) 0 hz (by omega) h)
  | false=>
   refine⟨h _,h _,λd=> ?_⟩
   cases d with
   | true=>exact⟨hz,h,qh _,Rj _ _⟩
   | false=>exact J (uS f p (n+1) (q+1) hz (by omega) h)⟩
theorem DQ{N S n nrem:Nat}(hz:p.size=S)(hn:n<=nrem)(hs:nrem<=S)(h:Und N p):Lv N (λr:Nat×Array Nat=>r.2.size=S/\Und N r.2/\r.1<=nrem) (kas_tail3 n nrem p):=by
 have h':Und N (kas_rev p 0 n):=h.rev (by omega)
 exact Lv.bind (f:=λm=>KasT.ret (m,kas_rev p 0 n)) (P':=λr:Nat×Array Nat=>r.2.size=S/\Und N r.2/\r.1<=nrem) (λm hm=>(⟨by rw[fY];exact hz,h',by have:=hm.2;show m<=nrem;omega⟩:(kas_rev p 0 n).size=S/\Und N (kas_rev p 0 n)/\m<=nrem)) (C5 h' (nrem-n) n)
theorem Cu{N S n nrem:Nat}(hz:p.size=S)(hn:n+1<=nrem)(hs:nrem<=S)(h:Und N p):Lv N (λr:Nat×Array Nat=>r.2.size=S/\Und N r.2/\r.1<=nrem) (kas_descPart n nrem p):=by
 refine Lv.bind (λr hr=> ?_) (uS (nrem-(n+1)) p (n+1) 0 hz (by omega) h)
 obtain⟨a,b,c,d⟩:=hr
 split
 ·exact DQ (by rw[fY];exact a) (by omega) hs (b.rev (by omega))
 ·exact DQ a (by omega) hs b
theorem Jh{N S nrem:Nat}(hz:p.size=S)(h1:1<=nrem)(hs:nrem<=S)(h:Und N p):Lv N (λr:Nat×Array Nat=>r.2.size=S/\Und N r.2/\r.1<=nrem) (kas_count nrem p):=by
 refine Lv.bind (λn hn=> ?_) (C5 h (nrem-1) 1)
 split
 ·exact⟨hz,h,by omega⟩
 ·rename_i J
  have J:¬n=nrem:=by simpa using J
  split
  ·refine⟨h _,h _,λc=> ?_⟩
   cases c with
   | true=>exact⟨hz,h,by omega⟩
   | false=>exact Cu (by rw[fY];exact hz) (by omega) hs (h.rev (by omega))
  ·exact Cu hz (by omega) hs h
theorem vR{N:Nat}{p:Array Nat}{k:Nat}(h:Und N p):∀(f l r:Nat),l<=k->r<=k->Lv N (λm=>m<=k) (kas_place p k f l r)
 | 0,l,r,a,b=>a
 | f+1,l,r,a,b=>by
  unfold kas_place
  split
  ·exact a
  ·refine⟨h _,h _,λc=> ?_⟩
   cases c with
   | true=>exact vR h f l ((l+r)/2) a (by omega)
   | false=>exact vR h f ((l+r)/2+1) r (by omega) b
theorem Ge{N S:Nat}:∀(f:Nat) (p:Array Nat) (k:Nat),p.size=S->k+f<=S->Und N p->Lv N (λJ:Array Nat=>J.size=S) (kas_bin f p k)
 | 0,p,k,hz,_,_=>hz
 | f+1,p,k,hz,hk,h=>Lv.bind (λm hm=>Ge f _ (k+1) (by rw[bubble_size];exact hz) (by omega) (h.bub (by omega) (by omega))) (vR h k 0 k (Bs _) (qh _))
theorem J4(h1:1<=n):Lv n (λp:Array Nat=>p.size=n) (kas_sort n):=by
 have sz:(Kg (pc n)).size=n:=by simp
 have J:Und n (Kg (pc n)):=λi=>by
  rw[PU,List.getElem?_toArray]
  by_cases hi:i<n
  ·simp[hi]
  ·rw[Qk (by simpa using hi)];exact h1
 refine Lv.bind (λr hr=> ?_) (Jh sz h1 (qh _) J)
 obtain⟨a,b,c⟩:=hr
 split
 ·exact Ge _ _ _ a (by omega) b
 ·exact a
theorem Cp{α:Type}{N:Nat}{P:α->Prop}{lt:Nat->Nat->Bool}{J:Nat->Nat->(Bool->Shared->Prop)->Shared->Prop}{Q:α->Shared->Prop}{s:Shared}(hc:∀i j C,i<N->j<N->C (lt i j) s->J i j C s):
 ∀(t:KasT α),Lv N P t->Q (iY lt t) s->t.kasWp J Q s
 | .ret a,_,h=>h
 | .ask i j k,l,h=>hc i j _ l.1 l.2.1 (Cp hc (k (lt i j)) (l.2.2 _) h)
section
open PySem.SeqAt
open PySem.AutoSeq1 (wpAny_loadPart')
open PySem.MeetsSeq PySem.MeetsSeq2 PySem.MeetsSeq3
theorem ints_get{ns:List Int}(h:IntsAre vs ns)(hi:i<ns.length):∃t,vs[i]? =some (.int ns[i] t):=by
 have J:=h.length
 have e:vs[i]? =some vs[i]:=na (by omega)
 obtain⟨t,q⟩:=h.int_at i _ e
 refine⟨t, ?_⟩
 rw[e,q]
 simp[kt,hi]
theorem Jf(l b:Addr)(U J:Array Value)(n n2:Nat)(dd az:Option Addr)(sl a1:Array (Option Value))(ns ms:List Int)(hi:IntsAre U.toList ns)(hj:IntsAre J.toList ms)(k:Nat):
 ∀i:Nat,ns.length-i=k->i<=ns.length->i<=ms.length->Meets (Builtin.«list.__eq__.loop» ⟨[.ref l,.ref b,rawInt i,rawInt 0],[]⟩)
  (λ_ R s=>s.heap.get? l=some {cls:=.type "list",dict:=dd,data:=.seq U n,slots:=sl}/\s.heap.get? b=some {cls:=.type "list",dict:=az,data:=.seq J n2,slots:=a1}/\
   R (.ok (.ret (.bool (HT.lexLt (ns.drop i) (ms.drop i))))) s):=by
 have z1:U.size=ns.length:=by rw[<- hi.length];simp
 have z2:J.size=ms.length:=by rw[<- hj.length];simp
 have ac:∀i:Nat,i<=ns.length->i<=ms.length->(i=ns.length\/i=ms.length)->HT.lexLt (ns.drop i) (ms.drop i)=decide (U.size<J.size):=by
  intro i h1 h2 h3
  by_cases e1:i=ns.length
  ·rw[e1,Rk]
   by_cases e2:ns.length=ms.length
   ·rw[e2,Rk];exact(decide_eq_false (by omega)).symm
   ·rw[Ch (by omega)];exact(decide_eq_true (by omega)).symm
  ·have e2:i=ms.length:=by omega
   rw[e2,Rk,Ch (by omega)];exact(decide_eq_false (by omega)).symm
 induction k with
 | zero=>
  intro i hk h1 h2 prog w A R s h
  obtain⟨hp,g,d,tk,os⟩:=s;obtain⟨hl,hb,h⟩:=h
  have a2:i=ns.length:=by omega
  wp_walk using wpAny_loadPart' hl,wpAny_loadPart' hb
  have Y:U[((i:Nat):Int).toNat]? =none:=by simp;omega
  rw[Y]
  rw[ac i h1 h2 (.inl a2)] at h
  wp_walk using wpAny_loadPart' hl,wpAny_loadPart' hb
  exact h
 | succ k ih=>
  intro i hk h1 h2 prog w A R s h
  obtain⟨hp,g,d,tk,os⟩:=s;obtain⟨hl,hb,h⟩:=h
  have ap:i<ns.length:=by omega
  obtain⟨t,et⟩:=ints_get hi ap
  have Y:U[((i:Nat):Int).toNat]? =some (.int ns[i] t):=by rw[Qj] at et;simpa using et
  by_cases as:i<ms.length
  ·obtain⟨u,eu⟩:=ints_get hj as
   have ab:J[((i:Nat):Int).toNat]? =some (.int ms[i] u):=by rw[Qj] at eu;simpa using eu
   wp_walk using wpAny_loadPart' hl,wpAny_loadPart' hb
   rw[Y,ab]
   rw[Ch ap,Ch as,HT.nF] at h
   have hc:((i:Int)+1)=((i+1:Nat):Int):=by push_cast;rfl
   obtain⟨e,he,an⟩:=HT.HP A.in1 ⟨hp,g,d,tk,os⟩ ns[i] t ms[i] u
   refine wpAny_bind (he prog w _ _ ?_)
   cases e with
   | true=>
    rw[if_pos (an.mp rfl)] at h
    wp_walk
    rw[hc]
    exact⟨plainId_quiet plain_eq_loop _,codeAny_builtin entry_eq_loop (by
     rw[Around.under_plainId plain_eq_loop _]
     exact ih (i+1) (by omega) (by omega) (by omega) prog w A R _ ⟨hl,hb,h⟩)⟩
   | false=>
    rw[if_neg (λq=>absurd (an.mpr q) ut)] at h
    have a3:=HT.HD A.in1 ⟨hp,g,d,tk,os⟩ ns[i] t ms[i] u prog w
    wp_walk using wpAny_loadPart' hl,wpAny_loadPart' hb
    rw[Y,ab]
    wp_walk using a3
    exact h
  ·have ab:J[((i:Nat):Int).toNat]? =none:=by simp;omega
   wp_walk using wpAny_loadPart' hl,wpAny_loadPart' hb
   rw[Y,ab]
   rw[ac i h1 h2 (.inr (by omega))] at h
   wp_walk using wpAny_loadPart' hl,wpAny_loadPart' hb
   exact h
theorem HZ(l b:Addr)(U J:Array Value)(n n2:Nat)(dd Y:Option Addr)(sl ab:Array (Option Value))(ns ms:List Int)(hi:IntsAre U.toList ns)(hj:IntsAre J.toList ms):
 Meets (Builtin.«list.__lt__» ⟨[.ref l,.ref b],[]⟩)
  (λ_ R s=>s.heap.get? l=some {cls:=.type "list",dict:=dd,data:=.seq U n,slots:=sl}/\s.heap.get? b=some {cls:=.type "list",dict:=Y,data:=.seq J n2,slots:=ab}/\
   R (.ok (.ret (.bool (HT.lexLt ns ms)))) s):=by
 intro prog w A R s h
 obtain⟨hp,g,d,tk,os⟩:=s;obtain⟨hl,hb,h⟩:=h
 have f2:=AutoSeq1.sub_list_list
 wp_walk using wpAny_loadPart' hl,wpAny_loadPart' hb
 exact⟨plainId_quiet plain_eq_loop _,codeAny_builtin entry_eq_loop (by
  rw[Around.under_plainId plain_eq_loop _]
  exact Jf l b U J n n2 dd Y sl ab ns ms hi hj _ 0 rfl (Bs _) (Bs _) prog w A R _ ⟨hl,hb,by simpa using h⟩)⟩
end
section
variable {prog : Program} {w : World} {A : Around} {E : Value → Shared → Prop} {s : Shared}
theorem C7 {l b:Addr} {U J:Array Value} {ns ms:List Int} {Q:Bool->Shared->Prop} (hl:s.heap.IsList l U) (hb:s.heap.IsList b J) (hi:IntsAre U.toList ns) (hj:IntsAre J.toList ms) (hu:A.units<cLine)
 (h:Q (HT.lexLt ns ms) s):wpAny (model prog w) A (keyLt' oneType' (.ref l) (.ref b)) Q E s:=by
 obtain⟨⟨cls,dd,data,sl⟩,ho,hc,n,hd⟩:=id hl
 obtain⟨⟨as,am,data2,an⟩,ap,Y,n2,ab⟩:=id hb
 dsimp only at hc hd Y ab
 subst hc hd Y ab
 rw[keyLt'_oneType,oneLt'_eq]
 simp only[if_true]
 refine wpAny_bind (wpAny_cRoomFor hu ?_)
 refine wpAny_bind (wpAny_callSpecialIfBound?_slot ⟨_,ho,rfl⟩ RF (call_meets RF ⟨_,ho,rfl⟩ PySem.F.entry_list_lt (PySem.F.args_list_lt_2 _ _) (HZ l b U J n n2 dd am sl an ns ms hi hj) ⟨ho,ap, ?_⟩))
 exact wpAny_truthy_bool h
end
section
variable {prog : Program} {w : World} {A : Around} {E : Value → Shared → Prop} {s : Shared}
abbrev Co(nss:List (List Int)):Nat->MN.α:=λi=>nss.getD i []
def o4(vs:List Value)(p:Array Nat):Array Value:=(p.toList.map λi=>vs.getD i Value.none).toArray
def M7(h:Heap)(vs:List Value)(nss:List (List Int))(a:Addr):Prop:=∀i,i<vs.length->∃(l:Addr) (J:Array Value),vs.getD i Value.none=.ref l/\l≠a/\h.IsList l J/\IntsAre J.toList (nss.getD i [])
theorem Dk(vs:List Value):o4 vs (Kg (pc vs.length))=vs.toArray:=by
 unfold o4
 congr 1
 refine PL (by simp) λi h1 h2=> ?_
 simp[kt,h2]
theorem Mf {a:Addr} {nss:List (List Int)} {P:PySem.Fin->Shared->Prop} (ho:s.heap.get? a=some (seqObj "list" vs.toArray n)) (a5:vs.length<64) (hu:A.units<cLine) (Y:M7 s.heap vs nss a)
 (h:∀p:Array Nat,p.Perm (Kg (pc vs.length))->eR (Co nss) p vs.length->P (.done (.ret .none)) {s with heap:=sortedHeap s.heap a vs (o4 vs p)}):
 wpAny (model prog w) A (Builtin.«list.sort» ⟨[.ref a],[]⟩) P E s:=by
 rw[list_sort_plain]
 have ha:a<s.heap.objs.size:=Heap.lt_size ho
 have ab:vs.length<=sizeLine:=by rw[sizeLine_eq];omega
 refine wpAny_bind (listItems_at ho rfl ?_)
 refine wpAny_bind (listUpdate_at ho rfl ?_ (by rw[sK];exact ab) (Bs _))
 obtain⟨e1,ho1⟩:∃e1,(s.heap.update a (Obj.mapSeq λ_=> #[])).get? a=some (seqObj "list" #[] e1):=⟨_,get?_update_seq ho (λ_=> #[])⟩
 refine wpAny_bind (seqEpoch_at ho1 rfl ?_)
 refine wpAny_bind (wpAny_newTuple ?_ ab)
 refine wpAny_bind (wpAny_newList ?_ (Bs _))
 refine wpAny_holding ?_
 have ac:∀b o,b≠a->s.heap.get? b=some o->(((s.heap.update a (Obj.mapSeq λ_=> #[])).push (seqObj "tuple" vs.toArray 0)).push (seqObj "list" #[] 0)).get? b=some o:=λb o hb e=>
  Heap.get?_push_of_some _ (Heap.get?_push_of_some _ ((Heap.get?_update_ne _ _ _ _ hb).trans e))
 have U:(((s.heap.update a (Obj.mapSeq λ_=> #[])).push (seqObj "tuple" vs.toArray 0)).push (seqObj "list" #[] 0)).get? a=some (seqObj "list" #[] e1):=Heap.get?_push_of_some _ (Heap.get?_push_of_some _ ho1)
 show wpAny (model prog w) A _ P E {s with heap:=((s.heap.update a (Obj.mapSeq λ_=> #[])).push (seqObj "tuple" vs.toArray 0)).push (seqObj "list" #[] 0)}
 dsimp only
 by_cases h2:vs.toArray.size<2
 ·have am:=h (Kg (pc vs.length)) (Array.Perm.refl _) λi j bv hj=>by
   have:i=j:=by rw[sK] at h2;omega
   subst this;exact KeyOrd.kle_refl _
  rw[Dk] at am
  rw[if_pos h2,if_pos h2]
  refine wpAny_bind (wpAny_pure ?_)
  rw[StateT.run_pure]
  refine wpAny_bind (wpAny_pure ?_)
  dsimp only
  have hz:(Array.map (λx:Keyed=>x.2) (vs.toArray.zip vs.toArray))=vs.toArray:=by
   apply Rl.mp
   rw[R7,Array.toList_zip]
   exact List.map_snd_zip (qh _)
  refine wpAny_bind (seqEpoch_at U rfl ?_)
  show wpAny (model prog w) A (Builtin.List.listUpdate (.ref a) (λ_=>Array.map (λx:Keyed=>x.2) (vs.toArray.zip vs.toArray)) >>= _) P E _
  rw[hz]
  refine wpAny_bind (listUpdate_at U rfl ?_ (Bs _) (by rw[sK];omega))
  simp only[bne_self_eq_false,Qr,if_false]
  exact wpAny_pure am
 ·rw[if_neg h2,if_neg h2]
  have l2:2<=vs.length:=by rw[sK] at h2;omega
  obtain⟨p0,e0,q1,q2,q3⟩:=vT (key:=Co nss) (n:=vs.length) (by omega)
  refine wpAny_bind (kas_kind (T:=.type "list") l2 (λv hv=> ?_) (by decide) (by decide) ?_)
  ·obtain⟨i,hi,rfl⟩:=Pn hv
   obtain⟨l,a6,el,la,il,_⟩:=Y i hi
   rw[kt,na hi] at el
   rw[show vs[i]=.ref l from el]
   intro A Q E s' k q
   obtain⟨o,a9,hc,_⟩:=il
   exact wpAny_typeOf (T:="list") ⟨o,k _ _ (ac _ _ la a9),hc⟩ q
  have bb:SortSt.mk' oneType' (vs.toArray.zip vs.toArray) #[] 7 none=kas_st oneType' (pairsOf vs) (Kg (pc vs.length)):=by
   have e:=kas_range (pairsOf vs)
   rw[pairsOf_size] at e
   show SortSt.mk' oneType' (pairsOf vs) #[] 7 none=SortSt.mk' oneType' ((Kg (pc vs.length)).map (kas_item (pairsOf vs))) #[] 7 none
   rw[e]
  have ask:(kas_sort vs.length).kasWp (kas_ask prog w A oneType' vs) (λp s'=>p=p0/\s'={s with heap:=((s.heap.update a (Obj.mapSeq λ_=> #[])).push (seqObj "tuple" vs.toArray 0)).push (seqObj "list" #[] 0)})
   {s with heap:=((s.heap.update a (Obj.mapSeq λ_=> #[])).push (seqObj "tuple" vs.toArray 0)).push (seqObj "list" #[] 0)}:=by
   refine Cp (lt:=ltK (Co nss)) (λi j C hi hj hC=> ?_) _ (J4 (by omega)) ⟨e0,rfl⟩
   obtain⟨l,a6,el,la,il,ii⟩:=Y i hi
   obtain⟨m,bm,em,ma,im,ij⟩:=Y j hj
   unfold kas_ask
   rw[el,em]
   have up:∀{x:Addr} {xs:Array Value},x≠a->s.heap.IsList x xs->(((s.heap.update a (Obj.mapSeq λ_=> #[])).push (seqObj "tuple" vs.toArray 0)).push (seqObj "list" #[] 0)).IsList x xs:=λhx ⟨o,e,r⟩=>⟨o,ac _ _ hx e,r⟩
   exact C7 (up la il) (up ma im) ii ij hu hC
  rw[kas_ask_eq] at ask
  have run:=kas_runs (E:=E) (Q:=λ_ J s'=>arrOf J=p0.map (kas_item (pairsOf vs))/\failedOf J=none/\s'={s with heap:=((s.heap.update a (Obj.mapSeq λ_=> #[])).push (seqObj "tuple" vs.toArray 0)).push (seqObj "list" #[] 0)})
   l2 a5 (λp' J s' a1 a2 a3 a4=>⟨by rw[a2,a4.1],a3,a4.2⟩) ask
  rw[<- bb] at run
  refine wpAny_bind (wpAny_mono run ?_ λ_ _ e=>e)
  rintro ⟨⟨⟩,J⟩ s' ⟨bd,hf,rfl⟩
  dsimp only
  have an:(arrOf J).map (·.2)=o4 vs p0:=by
   apply Rl.mp
   rw[bd,Array.map_map,R7]
   exact QV λi _=>by show (kas_item (pairsOf vs) i).2=_;rw[kas_item_eq]
  rw[an]
  refine wpAny_bind (seqEpoch_at U rfl ?_)
  refine wpAny_bind (listUpdate_at U rfl ?_ (Bs _) (by unfold o4;rw[sK,nW,QT,q2];omega))
  rw[hf]
  simp only[bne_self_eq_false,Qr,if_false]
  exact wpAny_pure (h p0 q1 q3)
theorem K5 {l:Addr} {nss:List (List Int)} {Q:Value->Shared->Prop} (hl:s.heap.IsList l vs.toArray) (ac:vs.length<64) (hu:A.units+64<cLine)
 (am:∀i,i<vs.length->∃(l:Addr) (J:Array Value),vs.getD i Value.none=.ref l/\s.heap.IsList l J/\IntsAre J.toList (nss.getD i []))
 (h:∀p:Array Nat,p.Perm (Kg (pc vs.length))->eR (Co nss) p vs.length->Q (.ref (s.heap.objs.size+1)) {s with heap:=sortedAll s.heap vs (o4 vs p)}):
 wpAny (model prog w) A (call (.builtin "sorted") [.ref l]) Q E s:=by
 have U:vs.length<=sizeLine:=by rw[sizeLine_eq];omega
 refine Calls.call_function_entry kind_sorted plain_sorted entry_sorted (args_sorted1 _) ?_
 unfold Builtin.«sorted»
 refine wpAny_bind (m:=checkCount "sorted" 1 1 _) (wpAny_pure ?_)
 refine wpAny_bind (collect_list hl ?_ U)
 refine wpAny_bind (wpAny_newList ?_ U)
 have Y:((s.heap.push (seqObj "list" #[] 0)).update s.heap.objs.size (Obj.mapSeq (·++vs.toArray))).objs.size=s.heap.objs.size+1:=by
  rw[Heap.size_update,size_push']
 have ab:(((s.heap.push (seqObj "list" #[] 0)).update s.heap.objs.size (Obj.mapSeq (·++vs.toArray))).push (seqObj "list" vs.toArray 0)).get? (s.heap.objs.size+1)=some (seqObj "list" vs.toArray 0):=by
  rw[<- Y];exact Heap.get?_push_size _ rfl
 have keep:∀b o,s.heap.get? b=some o->(((s.heap.push (seqObj "list" #[] 0)).update s.heap.objs.size (Obj.mapSeq (·++vs.toArray))).push (seqObj "list" vs.toArray 0)).get? b=some o:=λb o q=>by
  have an:b<s.heap.objs.size:=Heap.lt_size q
  exact Heap.get?_push_of_some _ ((Heap.get?_update_ne _ _ _ _ (wS an)).trans (Heap.get?_push_of_some _ q))
 show wpAny _ _ _ _ _ {s with heap:=((s.heap.push (seqObj "list" #[] 0)).update s.heap.objs.size (Obj.mapSeq (·++vs.toArray))).push (seqObj "list" vs.toArray 0)}
 rw[Y]
 refine wpAny_bind (wpAny_holding (wpAny_call_entry slot_list_sort ⟨_,ab,rfl⟩ entry_list_sort (Mf (nss:=nss) ab ac ?_ (λi hi=> ?_) λp a1 a2=>⟨_,rfl, ?_⟩) (args_list_sort _)))
 ·simp only[units_in1];omega
 ·obtain⟨x,J,e,il,ii⟩:=am i hi
  obtain⟨o,ho,r⟩:=il
  exact⟨x,J,e,wS (Qz (Heap.lt_size ho)),⟨o,keep _ _ ho,r⟩,ii⟩
 ·exact wpAny_pure ⟨_,rfl,h p a1 a2⟩
end
section
variable {α β : Type}
def rN(x:α×List Int):List (α×List Int)->List (α×List Int)
 | []=>[x]
 | y::l=>if HT.lexLt x.2 y.2=true then x::y::l else y::rN x l
def ey:List (α×List Int)->List (α×List Int)
 | []=>[]
 | x::l=>rN x (ey l)
theorem BN{g:α×List Int->β×List Int}(J:∀x,(g x).2=x.2)(x:α×List Int):∀l,rN (g x) (l.map g)=(rN x l).map g
 | []=>rfl
 | y::l=>by
  rw[sH]
  unfold rN
  rw[J,J]
  split
  ·rfl
  ·rw[sH,BN J x l]
theorem mD{g:α×List Int->β×List Int}(J:∀x,(g x).2=x.2):∀l,ey (l.map g)=(ey l).map g
 | []=>rfl
 | x::l=>by
  rw[sH]
  unfold ey
  rw[mD J l,BN J]
theorem tq(x:α×List Int):∀l,(rN x l).Perm (x::l)
 | []=>.refl _
 | y::l=>by
  unfold rN
  split
  ·exact .refl _
  ·exact((tq x l).cons y).trans (So x y l)
theorem gu:∀l:List (α×List Int),(ey l).Perm l
 | []=>.refl _
 | x::l=>(tq x _).trans ((gu l).cons x)
abbrev yq(l:List (α×List Int)):Prop:=l.Pairwise λa b=>HT.lexLt b.2 a.2=false
theorem lex_asymm{a b:List Int}(h:HT.lexLt a b=true):HT.lexLt b a=false:=by
 cases h2:HT.lexLt b a with
 | false=>rfl
 | true=>
  have:=lex_trans a b a h h2
  rw[lex_irrefl] at this;cases this
theorem EH{a b c:List Int}(h1:HT.lexLt b a=false)(h2:HT.lexLt c b=false):HT.lexLt c a=false:=KeyOrd.kle_trans (O:=MN) (a:=a) (b:=b) (c:=c) h1 h2
theorem z3(x:α×List Int):∀{l},yq l->yq (rN x l)
 | [],_=>List.pairwise_singleton _ _
 | y::l,h=>by
  unfold rN
  have hy:=AC.mp h
  split
  ·rename_i c
   refine AC.mpr ⟨λz hz=> ?_,h⟩
   rcases sn.mp hz with rfl | hz
   ·exact lex_asymm c
   ·exact EH (lex_asymm c) (hy.1 z hz)
  ·rename_i c
   refine AC.mpr ⟨λz hz=> ?_,z3 x hy.2⟩
   rcases sn.mp ((tq x l).mem_iff.mp hz) with rfl | hz
   ·exact eq_false_of_ne_true c
   ·exact hy.1 z hz
theorem m9:∀l:List (α×List Int),yq (ey l)
 | []=>.nil
 | x::l=>z3 x (m9 l)
theorem Ky{l:List (α×List Int)}(J:(l.map (·.2)).Nodup){a b:α×List Int}(ha:a∈l)(hb:b∈l)(h:a.2=b.2):a=b:=by
 induction l with
 | nil=>cases ha
 | cons x l U=>
  rw[sH,NE] at J
  rcases sn.mp ha with rfl | ha'
  ·rcases sn.mp hb with rfl | hb
   ·rfl
   ·have q:b.2∈l.map (·.2):=As hb
    rw[<- h] at q
    exact absurd q J.1
  ·rcases sn.mp hb with rfl | hb
   ·have q:a.2∈l.map (·.2):=As ha'
    rw[h] at q
    exact absurd q J.1
   ·exact U J.2 ha' hb
theorem wu:∀{l m:List (α×List Int)},l.Perm m->(l.map (·.2)).Nodup->yq l->yq m->l=m
 | [],m,h,_,_,_=>(List.nil_perm.mp h).symm
 | a::l,[],h,_,_,_=>absurd h.symm (by simp)
 | a::l,b::m,h,nd,hl,hm=>by
  have e:a=b:=by
   have ha:a∈b::m:=h.mem_iff.mp pi
   have hb:b∈a::l:=h.mem_iff.mpr pi
   rcases sn.mp ha with e | ha
   ·exact e
   ·rcases sn.mp hb with e | hb'
    ·exact e.symm
    ·refine Ky nd pi hb (o5 _ _ ((AC.mp hm).1 a ha) ((AC.mp hl).1 b hb'))
  subst e
  rw[wu (List.Perm.cons_inv h) (NE.mp nd).2 (AC.mp hl).2 (AC.mp hm).2]
end
section
variable {X : Cx}
def wg(K:lm):List V->Hp->VK->Prop:=λxs H Q=>∃(p:Addr) (ls:List (Addr×List Int)),xs=[.ref p]/\SqL K H p (ls.map λx=>V.ref x.1)/\(∀x∈ls,SqL K H x.1 (x.2.map V.int))/\ls.length<64/\(ls.map (·.2)).Nodup/\
 ∀d,H d=none->Q (.ref d) (upd H d (.lst ((ey ls).map λx=>V.ref x.1)))
theorem xi:∀{ls:List (Addr×List Int)} {J:List Value},Vals (ls.map λx=>V.ref x.1) J->J=ls.map λx=>Value.ref x.1
 | [],_,h=>by cases h;rfl
 | x::ls,_,h=>by
  cases h with
  | cons r U=>cases r;rw[xi U];rfl
theorem xm:∀(ls:List (Addr×List Int)),Vals (ls.map λx=>V.ref x.1) (ls.map λx=>Value.ref x.1)
 | []=>.nil
 | x::ls=>.cons rfl (xm ls)
theorem Br(hu:X.A.units+64<cLine):kQ X (.builtin "sorted") (wg X.K):=by
 intro pins s σ H xs us Q I r h
 obtain⟨p,ls,rfl,hq,hi,ac,nd,q⟩:=h
 obtain⟨u,rfl,ru⟩:=vals1 r
 cases ru
 obtain⟨a6,rv,pl,hz⟩:=I.list hq
 obtain rfl:=xi rv
 have ln:(ls.map λx=>Value.ref x.1).length=ls.length:=nW _
 refine K5 (nss:=ls.map (·.2)) pl.isList (by rw[ln];exact ac) hu (λi U=> ?_) λJ a1 a2=> ?_
 ·rw[ln] at U
  obtain⟨Y,r2,an,_⟩:=I.list (hi ls[i] (wT _))
  refine⟨ls[i].1,Y.toArray,by simp[kt,U],an.isList, ?_⟩
  rw[show (ls.map (·.2)).getD i []=ls[i].2 by simp[kt,U]]
  simpa using rA r2
 ·rw[ln] at a1 a2
  have hm:∀i∈J.toList,i<ls.length:=λi hi=>by
   have:=(Q5.mp a1).mem_iff.mp hi
   simpa using this
  have e1:o4 (ls.map λx=>Value.ref x.1) J=((J.toList.map λi=>ls.getD i (0,[])).map λx=>Value.ref x.1).toArray:=by
   unfold o4
   congr 1
   rw[ss]
   refine QV λi hi=> ?_
   have:=hm i hi
   simp[kt,this]
  have e2:(J.toList.map λi=>ls.getD i (0,[])).Perm ls:=by
   have:=(Q5.mp a1).map λi=>ls.getD i (0,[])
   refine this.trans (List.Perm.of_eq ?_)
   refine PL (by simp) λi h1 h2=> ?_
   simp[kt,h2]
  have sz:J.size=ls.length:=by have:=a1.size_eq;simpa using this
  have e3:yq (J.toList.map λi=>ls.getD i (0,[])):=by
   refine Qp.mpr ?_
   intro i j hi hj ap
   have U:i<J.size:=by simpa using hi
   have as:j<J.size:=by simpa using hj
   have:=a2 i j (PQ ap) (by omega)
   have k1:∀(i:Nat) (h:i<J.size),kAt (Co (ls.map (·.2))) J i=(ls.getD J[i] (0,[])).2:=λi h=>by
    have hb:=hm J[i] (by simp)
    have e:J.getD i 0=J[i]:=by simp[Array.getD,h]
    unfold kAt
    rw[e]
    show (ls.map (·.2)).getD J[i] []=_
    rw[kt,sI,kt,na hb]
    rfl
   rw[k1 i U,k1 j as] at this
   rw[Rm,Rm,RG,RG]
   exact this
  have e4:(J.toList.map λi=>ls.getD i (0,[]))=ey ls:=wu (e2.trans (gu ls).symm) ((e2.map (·.2)).nodup_iff.mpr nd) e3 (m9 ls)
  rw[e1,e4]
  obtain⟨e,he⟩:=sortedAll_at s.heap (ls.map λx=>Value.ref x.1) ((ey ls).map λx=>Value.ref x.1).toArray
  have fresh:H (s.heap.objs.size+1)=none:=I.hok.fresh (QZ _)
  refine⟨.ref (s.heap.objs.size+1),_,I.laid (t':=s.toks) (o:=.lst ((ey ls).map λx=>V.ref x.1)) (λb o q=>sortedAll_old q) (QZ _) ?_,rfl,q _ fresh⟩
  exact⟨by rw[nW,(gu ls).length_eq];rw[nW] at hz;exact hz,_,e,xm _,he⟩
end
open PySem PySem.Spec PyProof.Rows
section
variable {prog : Program} {w : World} {A : Around} {R : Result → Shared → Prop} {I : Addr} {fp wr : List Addr} {n : Nat} {P : Nat → Value → Prop} {St : Nat → Heap → Prop} {kw : List (Str × Value)}
end
section
variable {prog : Program} {w : World} {A : Around} {E : Value → Shared → Prop} {s : Shared}
end
section
variable {X : Cx} {e d : Expr} {te td : TE} {p q kp : Pos}
end
section
variable {X : Cx}
end
section
variable {X : Cx}
end
section
variable {X : Cx}
def JS:V->List V->Hp->VK->Prop:=λx vs H Q=>∃l xs y,x=.ref l/\vs=[.int 0,y]/\H l=some (.lst xs)/\xs.length<sizeLine/\Q .non (upd H l (.lst (y::xs)))
theorem J8:MtM X "list.insert" JS:=by
 intro pins s σ H x vs v us Q I rx U h
 obtain⟨l,xs,y,rfl,rfl,Y,hz,q⟩:=h
 cases rx
 cases U with
 | cons r0 U=>
  obtain⟨u,rfl,ru⟩:=Vals.one (show Vals [y] _ from U)
  obtain⟨t,rfl⟩:=r0
  obtain⟨z,J,n,r,hl,e⟩:=I.lstM Y
  refine call_meets F.slot_list_insert ⟨_,e,rfl⟩ F.entry_list_insert (F.args_list_insert_3 _ _ _) (AutoSeq1.list_insert_list_int_val_1 l J.toArray n 0 t u (by decide) (by rw[sK];omega)) ⟨e, ?_⟩
  refine⟨.non,_,I.lset (its':=u::J) Y e (by simp) (.cons ru r) ?_,rfl,q⟩
  rw[tz]
  omega
end
section
variable {prog : Program} {w : World} {A : Around} {E : Value → Shared → Prop} {s : Shared}
end
section
variable {X : Cx} {e d : Expr} {te td : TE} {p q kp : Pos}
end
section
variable {prog : Program} {w : World} {A : Around} {E : Value → Shared → Prop} {s : Shared}
end
section
variable {X : Cx}
end
end L2
namespace M
open PySem L2
variable {K : lm} {a : Addr} {xs vs : List V} {d x y : D} {v : V} {ds : List D} {H F H1 F1 : Hp} {θ θ1 : List Addr} {ca : Nat → Addr} {O O1 : ay} {s : S} {C : Ct} {te t to : TE} {ta : TA} {m me mo e : EM} {ma : AM} {n i k c : Nat} {g : TG} {gm : GM} {wi : TI} {im : IM} {tc : TT} {σ : L2.St} {f : FM} {E : XK} {Q : VK} {caps : List Nat} {X : Cx} {ns : List Str}
inductive D where
 | non | bl (b:Bool) | int (i:Int) | str (x:Str) | lst (xs:List D) | tup (xs:List D) | ptr (k:Nat) | obj (c:Nat) (ns:List Str) (ds:List D) | exn (c:Nat)
inductive Cell where
 | dead | lst (xs:List D) | ins (c:Nat) (ns:List Str) (ds:List D)
abbrev ay:=List Cell
structure S where
 r:List (Option D)
 o:ay
inductive Res (α:Type) where
 | ok (a:α) | exc (c:Nat) (a:D) (o:S) | bad
def Res.bind{α β:Type}(x:Res α)(f:α->Res β):Res β:=match x with
 | .ok a=>f a
 | .exc c a o=>.exc c a o
 | .bad=>.bad
@[simp] theorem aj {α β:Type} (a:α) (f:α->Res β):(Res.ok a).bind f=f a:=rfl
@[simp] theorem NH {α β:Type} (c:Nat) (a:D) (o:S) (f:α->Res β):(Res.exc c a o:Res α).bind f=.exc c a o:=rfl
@[simp] theorem N3 {α β:Type} (f:α->Res β):(Res.bad:Res α).bind f=.bad:=rfl
abbrev Wsh:=Nat->D->S->Hp->Hp->List Addr->Prop
structure Ct where
 K:lm
 ca:Nat->Addr
 W:Wsh
mutual
def Rep(K:lm)(ca:Nat->Addr)(θ:List Addr)(F:Hp):D->V->Prop
 | .non,v=>v=.non
 | .bl b,v=>v=.bl b
 | .int i,v=>v=.int i
 | .str x,v=>v=.str x
 | .lst ds,v=>∃a xs,v=.ref a/\SqL K F a xs/\aA K ca θ F ds xs
 | .tup ds,v=>∃a xs,v=.ref a/\SqT K F a xs/\aA K ca θ F ds xs
 | .ptr k,v=>∃a,v=.ref a/\θ[k]? =some a
 | .obj c ns ds,v=>∃a dx xs,v=.ref a/\F a=some (.ins (ca c) dx (ns.zip xs))/\ns.length=xs.length/\aA K ca θ F ds xs
 | .exn c,v=>∃a,v=.ref a/\F a=some (exO a (ca c))
def aA(K:lm)(ca:Nat->Addr)(θ:List Addr)(F:Hp):List D->List V->Prop
 | [],xs=>xs=[]
 | d::ds,xs=>∃v r,xs=v::r/\Rep K ca θ F d v/\aA K ca θ F ds r
end
mutual
def cU:D->Bool
 | .lst ds=>aQ ds
 | .tup ds=>aQ ds
 | .ptr _=>false
 | .obj _ _ ds=>aQ ds
 | _=>true
def aQ:List D->Bool
 | []=>true
 | d::ds=>cU d&&aQ ds
end
def nk:D->Bool
 | .non=>true | .bl _=>true | .int _=>true | .str _=>true | _=>false
theorem bP.seqT{H H':Hp}(e:bP H H')(h:SqT K H a xs):SqT K H' a xs:=by
 rcases h with(h | ⟨o,h⟩) | h
 ·exact .inl (.inl (e _ _ h))
 ·exact .inl (.inr ⟨o,e _ _ h⟩)
 ·exact .inr h
section
variable {K : lm} {ca : Nat → Addr} {θ θ1 : List Addr} {F F1 : Hp}
mutual
theorem Rep.mono(J:bP F F1)(U:∃r,θ1=θ++r):∀{d:D} {v:V},Rep K ca θ F d v->Rep K ca θ1 F1 d v
 | .non,_,h=>h
 | .bl _,_,h=>h
 | .int _,_,h=>h
 | .str _,_,h=>h
 | .lst ds,_,h=>by
  unfold Rep at h ⊢
  obtain⟨a,xs,e,hs,hr⟩:=h
  exact⟨a,xs,e,J.seq hs,aA.mono J U hr⟩
 | .tup ds,_,h=>by
  unfold Rep at h ⊢
  obtain⟨a,xs,e,hs,hr⟩:=h
  exact⟨a,xs,e,bP.seqT J hs,aA.mono J U hr⟩
 | .ptr k,_,h=>by
  unfold Rep at h ⊢
  obtain⟨a,e,hk⟩:=h
  obtain⟨r,rfl⟩:=U
  refine⟨a,e, ?_⟩
  rw[tt (t3.mp hk).1]
  exact hk
 | .obj c ns ds,_,h=>by
  unfold Rep at h ⊢
  obtain⟨a,dx,xs,e,ha,Y,hr⟩:=h
  exact⟨a,dx,xs,e,J _ _ ha,Y,aA.mono J U hr⟩
 | .exn c,_,h=>by
  unfold Rep at h ⊢
  obtain⟨a,e,ha⟩:=h
  exact⟨a,e,J _ _ ha⟩
theorem aA.mono(J:bP F F1)(U:∃r,θ1=θ++r):∀{ds:List D} {xs:List V},aA K ca θ F ds xs->aA K ca θ1 F1 ds xs
 | [],_,h=>h
 | d::ds,_,h=>by
  unfold aA at h ⊢
  obtain⟨v,r,e,h1,h2⟩:=h
  exact⟨v,r,e,Rep.mono J U h1,aA.mono J U h2⟩
end
mutual
theorem Rep.pure:∀{d:D} {v:V},cU d=true->Rep K ca θ F d v->Rep K ca θ1 F d v
 | .non,_,_,h=>h
 | .bl _,_,_,h=>h
 | .int _,_,_,h=>h
 | .str _,_,_,h=>h
 | .lst ds,_,p,h=>by
  unfold Rep at h ⊢
  obtain⟨a,xs,e,hs,hr⟩:=h
  exact⟨a,xs,e,hs,aA.pure (by simpa[cU] using p) hr⟩
 | .tup ds,_,p,h=>by
  unfold Rep at h ⊢
  obtain⟨a,xs,e,hs,hr⟩:=h
  exact⟨a,xs,e,hs,aA.pure (by simpa[cU] using p) hr⟩
 | .ptr k,_,p,h=>by simp[cU] at p
 | .obj c ns ds,_,p,h=>by
  unfold Rep at h ⊢
  obtain⟨a,dx,xs,e,ha,J,hr⟩:=h
  exact⟨a,dx,xs,e,ha,J,aA.pure (by simpa[cU] using p) hr⟩
 | .exn c,_,_,h=>by
  unfold Rep at h ⊢
  exact h
theorem aA.pure:∀{ds:List D} {xs:List V},aQ ds=true->aA K ca θ F ds xs->aA K ca θ1 F ds xs
 | [],_,_,h=>h
 | d::ds,_,p,h=>by
  unfold aA at h ⊢
  obtain⟨v,r,e,h1,h2⟩:=h
  simp only[aQ,IN] at p
  exact⟨v,r,e,Rep.pure p.1 h1,aA.pure p.2 h2⟩
end
theorem Rep.scal(p:nk d=true)(h:Rep K ca θ F d v):Rep K ca θ1 F1 d v:=by
 cases d <;> first | exact h | (simp[nk] at p)
theorem aA.length:∀{ds:List D} {xs:List V},aA K ca θ F ds xs->xs.length=ds.length
 | [],_,h=>by unfold aA at h;rw[h];rfl
 | d::ds,_,h=>by
  unfold aA at h
  obtain⟨v,r,rfl,_,h2⟩:=h
  rw[tz,tz,aA.length h2]
theorem aA.get:∀{ds:List D} {xs:List V} {i:Nat} {d:D},aA K ca θ F ds xs->ds[i]? =some d->∃v,xs[i]? =some v/\Rep K ca θ F d v
 | [],_,_,_,_,e=>by simp at e
 | d::ds,_,0,_,h,e=>by
  unfold aA at h
  obtain⟨v,r,rfl,h1,_⟩:=h
  simp at e
  subst e
  exact⟨v,rfl,h1⟩
 | d::ds,_,i+1,x,h,e=>by
  unfold aA at h
  obtain⟨v,r,rfl,_,h2⟩:=h
  obtain⟨u,e1,e2⟩:=aA.get (i:=i) (d:=x) h2 (by simpa using e)
  exact⟨u,by simpa using e1,e2⟩
theorem aA.append:∀{ds es:List D} {xs ys:List V},aA K ca θ F ds xs->aA K ca θ F es ys->aA K ca θ F (ds++es) (xs++ys)
 | [],_,_,_,h,k=>by unfold aA at h;rw[h];exact k
 | d::ds,_,_,_,h,k=>by
  unfold aA at h
  obtain⟨v,r,rfl,h1,h2⟩:=h
  show aA K ca θ F (d::(ds++_)) (v::(r++_))
  unfold aA
  exact⟨v,_,rfl,h1,aA.append h2 k⟩
theorem aA.one(h:Rep K ca θ F d v):aA K ca θ F [d] [v]:=by
 unfold aA
 exact⟨v,[],rfl,h,by unfold aA;rfl⟩
theorem aA.nil:aA K ca θ F [] []:=by unfold aA;rfl
theorem aA.cons(h:Rep K ca θ F d v)(k:aA K ca θ F ds xs):aA K ca θ F (d::ds) (v::xs):=by
 unfold aA
 exact⟨v,xs,rfl,h,k⟩
theorem aA.take:∀{ds:List D} {xs:List V} (n:Nat),aA K ca θ F ds xs->aA K ca θ F (ds.take n) (xs.take n)
 | _,_,0,_=>by simp;exact aA.nil
 | [],_,n+1,h=>by unfold aA at h;rw[h];exact aA.nil
 | d::ds,_,n+1,h=>by
  unfold aA at h
  obtain⟨v,r,rfl,h1,h2⟩:=h
  exact aA.cons h1 (aA.take n h2)
theorem aA.drop:∀{ds:List D} {xs:List V} (n:Nat),aA K ca θ F ds xs->aA K ca θ F (ds.drop n) (xs.drop n)
 | _,_,0,h=>h
 | [],_,n+1,h=>by unfold aA at h;rw[h];exact aA.nil
 | d::ds,_,n+1,h=>by
  unfold aA at h
  obtain⟨v,r,rfl,h1,h2⟩:=h
  exact aA.drop n h2
theorem aA.set{d:D}{v:V}(h:Rep K ca θ F d v):∀{ds:List D} {xs:List V} (i:Nat),aA K ca θ F ds xs->aA K ca θ F (ds.set i d) (xs.set i v)
 | [],_,_,k=>by unfold aA at k;rw[k];exact aA.nil
 | _::_,_,0,k=>by
  unfold aA at k
  obtain⟨v,r,rfl,h1,h2⟩:=k
  exact aA.cons h h2
 | _::_,_,i+1,k=>by
  unfold aA at k
  obtain⟨v,r,rfl,h1,h2⟩:=k
  exact aA.cons h1 (aA.set h i h2)
end
structure Stp(H F:Hp)(θ:List Addr)(H1 F1:Hp)(θ1:List Addr):Prop where
 ff:bP F F1
 th:∃r,θ1=θ++r/\∀a∈r,H a=none
 kp:∀b o,H b=some o->b∉θ->H1 b=some o
 al:∀b o,H b=some o->∃o',H1 b=some o'
 nf:∀b o,F1 b=some o->F b=some o\/H b=none\/b∈θ
theorem Stp.refl:Stp H F θ H F θ:=⟨bP.refl _,⟨[],by simp,by simp⟩,λ_ _ h _=>h,λ_ o h=>⟨o,h⟩,λ_ _ h=>.inl h⟩
theorem Stp.pre(x:Stp H F θ H1 F1 θ1):∃r,θ1=θ++r:=let ⟨r,e,_⟩:=x.th;⟨r,e⟩
theorem Stp.trans{H F H1 F1 H2 U:Hp}{θ θ1 θ2:List Addr}(x:Stp H F θ H1 F1 θ1)(y:Stp H1 F1 θ1 H2 U θ2):Stp H F θ H2 U θ2:=by
 obtain⟨r,rfl,hr⟩:=x.th
 obtain⟨Y,rfl,J⟩:=y.th
 refine⟨x.ff.trans y.ff,⟨r++Y,by rw[Ix],λa ha=> ?_⟩,λb o h hb=> ?_,λb o h=> ?_,λb o h=> ?_⟩
 ·rcases sE.mp ha with z | z
  ·exact hr a z
  ·cases e:H a with
   | none=>rfl
   | some o=>
    obtain⟨o',e'⟩:=x.al a o e
    rw[J a z] at e'
    cases e'
 ·refine y.kp b o (x.kp b o h hb) λhm=> ?_
  rcases sE.mp hm with z | z
  ·exact hb z
  ·rw[hr b z] at h
   cases h
 ·obtain⟨o',e'⟩:=x.al b o h
  exact y.al b o' e'
 ·rcases y.nf b o h with z | z | z
  ·exact x.nf b o z
  ·refine .inr (.inl ?_)
   cases e:H b with
   | none=>rfl
   | some o'=>
    obtain⟨o2,e2⟩:=x.al b o' e
    rw[z] at e2
    cases e2
  ·rcases sE.mp z with q | q
   ·exact .inr (.inr q)
   ·exact .inr (.inl (hr b q))
def jo(K:lm)(ca:Nat->Addr)(H F:Hp)(θ:List Addr)(a:Addr):Cell->Prop
 | .dead=>∃o,H a=some o
 | .lst ds=>F a=none/\∃xs,H a=some (.lst xs)/\aA K ca θ F ds xs
 | .ins c ns ds=>F a=none/\∃dx xs,H a=some (.ins (ca c) dx (ns.zip xs))/\ns.length=xs.length/\aA K ca θ F ds xs
theorem jo.there{c:Cell}(h:jo K ca H F θ a c):∃o,H a=some o:=by
 cases c with
 | dead=>exact h
 | lst ds=>obtain⟨_,xs,e,_⟩:=h;exact⟨_,e⟩
 | ins c ns ds=>obtain⟨_,dx,xs,e,_⟩:=h;exact⟨_,e⟩
structure Now(K:lm)(ca:Nat->Addr)(H F:Hp)(θ:List Addr)(O:ay):Prop where
 fh:bP F H
 nd:θ.Nodup
 ln:θ.length=O.length
 ce:∀(k:Nat) a c,θ[k]? =some a->O[k]? =some c->jo K ca H F θ a c
theorem Now.there(n:Now K ca H F θ O)(h:a∈θ):∃o,H a=some o:=by
 obtain⟨k,hk,e⟩:=Pn h
 have h1:θ[k]? =some a:=by rw[na hk,e]
 have h2:∃c,O[k]? =some c:=⟨O[k]'(by rw[<- n.ln];exact hk),na _⟩
 obtain⟨c,h2⟩:=h2
 exact(n.ce k a c h1 h2).there
theorem Now.nil(h:bP F H):Now K ca H F [] []:=⟨h,Sq,rfl,λk a c e _=>by simp at e⟩
structure BS(K:lm)(ca:Nat->Addr)(σ:St)(H F:Hp)(θ:List Addr)(s:S):Prop where
 now:Now K ca H F θ s.o
 len:σ.length=s.r.length
 sl:∀(i:Nat) d,s.r[i]? =some (some d)->∃v,σ[i]? =some (some v)/\Rep K ca θ F d v
theorem BS.newF{σ:St}(b:BS K ca σ H F θ s){p:Addr}(hp:H p=none)(o:HO):
 Stp H F θ (upd H p o) (upd F p o) θ/\BS K ca σ (upd H p o) (upd F p o) θ s/\bP F (upd F p o)/\upd F p o p=some o:=by
 have nm:∀a u,H a=some u->a≠p:=λa u e z=>by rw[z,hp] at e;cases e
 have fp:F p=none:=by
  cases e:F p with
  | none=>rfl
  | some u=>rw[b.now.fh p u e] at hp;cases hp
 have J:bP F (upd F p o):=λa u e=>by rw[aT (nm a u (b.now.fh a u e))];exact e
 have U:bP H (upd H p o):=λa u e=>by rw[aT (nm a u e)];exact e
 refine⟨⟨J,⟨[],by simp,by simp⟩,λa u e _=>U a u e,λa u e=>⟨u,U a u e⟩,λa u e=> ?_⟩,⟨⟨λa u e=> ?_,b.now.nd,b.now.ln,λk a c e1 e2=> ?_⟩,b.len,λi d e=> ?_⟩,J,cO⟩
 ·by_cases h:a=p
  ·subst h;exact .inr (.inl hp)
  ·rw[aT h] at e;exact .inl e
 ·by_cases h:a=p
  ·subst h;rw[cO] at e ⊢;exact e
  ·rw[aT h] at e ⊢;exact b.now.fh a u e
 ·have q:=b.now.ce k a c e1 e2
  obtain⟨u,hu⟩:=q.there
  have ne:=nm a u hu
  cases c with
  | dead=>exact⟨u,U a u hu⟩
  | lst ds=>
   obtain⟨q1,xs,q2,Y⟩:=q
   exact⟨by rw[aT ne];exact q1,xs,U _ _ q2,Y.mono J ⟨[],by simp⟩⟩
  | ins c ns ds=>
   obtain⟨q1,dx,xs,q2,Y,q4⟩:=q
   exact⟨by rw[aT ne];exact q1,dx,xs,U _ _ q2,Y,q4.mono J ⟨[],by simp⟩⟩
 ·obtain⟨v,h1,h2⟩:=b.sl i d e
  exact⟨v,h1,h2.mono J ⟨[],by simp⟩⟩
theorem BS.newC{σ:St}(b:BS K ca σ H F θ s){p:Addr}(hp:H p=none)(hr:aA K ca θ F ds xs):
 Stp H F θ (upd H p (.lst xs)) F (θ++[p])/\BS K ca σ (upd H p (.lst xs)) F (θ++[p]) ⟨s.r,s.o++[.lst ds]⟩/\Rep K ca (θ++[p]) F (.ptr s.o.length) (.ref p):=by
 have nm:∀a u,H a=some u->a≠p:=λa u e z=>by rw[z,hp] at e;cases e
 have fp:F p=none:=by
  cases e:F p with
  | none=>rfl
  | some u=>rw[b.now.fh p u e] at hp;cases hp
 have J:bP H (upd H p (.lst xs)):=λa u e=>by rw[aT (nm a u e)];exact e
 have pt:p∉θ:=λh=>by obtain⟨u,hu⟩:=b.now.there h;rw[hp] at hu;cases hu
 refine⟨⟨bP.refl _,⟨[p],rfl,by simpa using hp⟩,λa u e _=>J a u e,λa u e=>⟨u,J a u e⟩,λa u e=>.inl e⟩,⟨⟨b.now.fh.trans J, ?_, ?_,λk a c e1 e2=> ?_⟩,b.len,λi d e=> ?_⟩, ?_⟩
 ·refine PZ.mpr ⟨b.now.nd,by simp,λa ha x hx=> ?_⟩
  rw[sB.mp hx]
  rintro rfl
  exact pt ha
 ·simp[b.now.ln]
 ·by_cases hk:k<θ.length
  ·rw[tt hk] at e1
   rw[tt (by rw[<- b.now.ln];exact hk)] at e2
   have q:=b.now.ce k a c e1 e2
   obtain⟨u,hu⟩:=q.there
   cases c with
   | dead=>exact⟨u,J a u hu⟩
   | lst ds=>
    obtain⟨q1,ys,q2,U⟩:=q
    exact⟨q1,ys,J _ _ q2,U.mono (bP.refl _) ⟨[p],rfl⟩⟩
   | ins c ns ds=>
    obtain⟨q1,dx,ys,q2,U,q4⟩:=q
    exact⟨q1,dx,ys,J _ _ q2,U,q4.mono (bP.refl _) ⟨[p],rfl⟩⟩
  ·have Y:k<(θ++[p]).length:=(t3.mp e1).1
   have ab:k=θ.length:=by simp at Y;omega
   subst ab
   rw[re (qh _)] at e1
   rw[re (by rw[b.now.ln];exact qh _),b.now.ln] at e2
   simp at e1 e2
   subst e1;subst e2
   exact⟨fp,xs,cO,hr.mono (bP.refl _) ⟨[p],rfl⟩⟩
 ·obtain⟨v,h1,h2⟩:=b.sl i d e
  exact⟨v,h1,h2.mono (bP.refl _) ⟨[p],rfl⟩⟩
 ·unfold Rep
  exact⟨p,rfl,by rw[<- b.now.ln];simp⟩
theorem BS.set{σ:St}(b:BS K ca σ H F θ s)(h:Rep K ca θ F d v)(i:Nat):BS K ca (σ.set i (some v)) H F θ ⟨s.r.set i (some d),s.o⟩:=by
 refine⟨b.now,by simp[b.len],λj e U=> ?_⟩
 by_cases J:i=j
 ·subst J
  have Y:i<s.r.length:=by
   have:=(t3.mp U).1
   simpa using this
  rw[EX Y] at U
  cases U
  exact⟨v,EX (by rw[b.len];exact Y),h⟩
 ·rw[Gc J] at U
  obtain⟨u,h1,h2⟩:=b.sl j e U
  exact⟨u,by rw[Gc J];exact h1,h2⟩
abbrev EM:=S->Res (D×S)
abbrev AM:=S->Res (List D×S)
inductive Out where
 | next (s:S) | ret (d:D) (s:S) | brk (s:S) | cnt (s:S) | exc (c:Nat) (a:D) (o:S) | bad
abbrev SM:=S->Out
def PoR{α:Type}(C:Ct)(H F:Hp)(θ:List Addr)(x:Res α)(k:α->Hp->Hp->List Addr->Prop):Prop:=match x with
 | .ok a=>∀H1 F1 θ1,Stp H F θ H1 F1 θ1->k a H1 F1 θ1
 | .exc c a o=>∀H1 F1 θ1,Stp H F θ H1 F1 θ1->Now C.K C.ca H1 F1 θ1 o.o->C.W c a o H1 F1 θ1
 | .bad=>False
abbrev PoE(C:Ct)(σ:St)(H F:Hp)(θ:List Addr)(x:Res (D×S))(Q:VK):Prop:=
 PoR C H F θ x λy H1 F1 θ1=>BS C.K C.ca σ H1 F1 θ1 y.2->∀v,Rep C.K C.ca θ1 F1 y.1 v->Q v H1
abbrev PoA(C:Ct)(σ:St)(H F:Hp)(θ:List Addr)(x:Res (List D×S))(Q:List V->Hp->Prop):Prop:=
 PoR C H F θ x λy H1 F1 θ1=>BS C.K C.ca σ H1 F1 θ1 y.2->∀v,aA C.K C.ca θ1 F1 y.1 v->Q v H1
abbrev PoT(C:Ct)(σ:St)(H F:Hp)(θ:List Addr)(x:Res (Bool×S))(Q:Bool->Hp->Prop):Prop:=
 PoR C H F θ x λy H1 F1 θ1=>BS C.K C.ca σ H1 F1 θ1 y.2->Q y.1 H1
abbrev PoG(C:Ct)(H F:Hp)(θ:List Addr)(x:Res S)(Q:St->Hp->Prop):Prop:=
 PoR C H F θ x λy H1 F1 θ1=>∀J,BS C.K C.ca J H1 F1 θ1 y->Q J H1
def PoS(C:Ct)(H F:Hp)(θ:List Addr)(x:Out)(Q:Ends):Prop:=match x with
 | .next s1=>∀J H1 F1 θ1,Stp H F θ H1 F1 θ1->BS C.K C.ca J H1 F1 θ1 s1->Q.nx J H1
 | .ret d s1=>∀v J H1 F1 θ1,Stp H F θ H1 F1 θ1->BS C.K C.ca J H1 F1 θ1 s1->Rep C.K C.ca θ1 F1 d v->Q.rt v H1
 | .brk s1=>∀J H1 F1 θ1,Stp H F θ H1 F1 θ1->BS C.K C.ca J H1 F1 θ1 s1->Q.bk J H1
 | .cnt s1=>∀J H1 F1 θ1,Stp H F θ H1 F1 θ1->BS C.K C.ca J H1 F1 θ1 s1->Q.ct J H1
 | .exc c a o=>∀H1 F1 θ1,Stp H F θ H1 F1 θ1->Now C.K C.ca H1 F1 θ1 o.o->C.W c a o H1 F1 θ1
 | .bad=>False
theorem PoR.after{α:Type}{x:Res α}{k:α->Hp->Hp->List Addr->Prop}(st:Stp H F θ H1 F1 θ1)(p:PoR C H F θ x k):PoR C H1 F1 θ1 x k:=by
 unfold PoR at p ⊢
 cases x with
 | ok a=>exact λH2 J θ2 s2=>p H2 J θ2 (st.trans s2)
 | exc c a o=>exact λH2 J θ2 s2 n=>p H2 J θ2 (st.trans s2) n
 | bad=>exact p
theorem PoR.bind {α β:Type} {C:Ct} {H F:Hp} {θ:List Addr} {x:Res α} {f:α->Res β} {k:α->Hp->Hp->List Addr->Prop} {j:β->Hp->Hp->List Addr->Prop}
 (p:PoR C H F θ (x.bind f) j) (h:∀a H1 F1 θ1,x=.ok a->Stp H F θ H1 F1 θ1->PoR C H1 F1 θ1 (f a) j->k a H1 F1 θ1):PoR C H F θ x k:=by
 cases x with
 | ok a=>exact λH1 F1 θ1 st=>h a H1 F1 θ1 rfl st (PoR.after st p)
 | exc c a o=>exact p
 | bad=>exact p
theorem PoS.after{x:Out}{Q:Ends}(st:Stp H F θ H1 F1 θ1)(p:PoS C H F θ x Q):PoS C H1 F1 θ1 x Q:=by
 unfold PoS at p ⊢
 cases x with
 | next s=>exact λv H2 J θ2 s2 b=>p v H2 J θ2 (st.trans s2) b
 | ret d s=>exact λv U H2 J θ2 s2 b r=>p v U H2 J θ2 (st.trans s2) b r
 | brk s=>exact λv H2 J θ2 s2 b=>p v H2 J θ2 (st.trans s2) b
 | cnt s=>exact λv H2 J θ2 s2 b=>p v H2 J θ2 (st.trans s2) b
 | exc c a o=>exact λH2 J θ2 s2 n=>p H2 J θ2 (st.trans s2) n
 | bad=>exact p
def Res.out{α:Type}(x:Res α)(f:α->Out):Out:=match x with
 | .ok a=>f a
 | .exc c a o=>.exc c a o
 | .bad=>.bad
@[simp] theorem kb {α:Type} (a:α) (f:α->Out):(Res.ok a).out f=f a:=rfl
@[simp] theorem Ow {α:Type} (c:Nat) (a:D) (o:S) (f:α->Out):(Res.exc c a o:Res α).out f=.exc c a o:=rfl
@[simp] theorem Oq {α:Type} (f:α->Out):(Res.bad:Res α).out f=.bad:=rfl
theorem PoS.out {α:Type} {C:Ct} {H F:Hp} {θ:List Addr} {x:Res α} {f:α->Out} {k:α->Hp->Hp->List Addr->Prop} {Q:Ends}
 (p:PoS C H F θ (x.out f) Q) (h:∀a H1 F1 θ1,x=.ok a->Stp H F θ H1 F1 θ1->PoS C H1 F1 θ1 (f a) Q->k a H1 F1 θ1):PoR C H F θ x k:=by
 cases x with
 | ok a=>exact λH1 F1 θ1 st=>h a H1 F1 θ1 rfl st (PoS.after st p)
 | exc c a o=>exact p
 | bad=>exact p
def RdE(C:Ct)(t:TE)(m:EM):Prop:=∀σ H F θ s Q,BS C.K C.ca σ H F θ s->PoE C σ H F θ (m s) Q->t σ H Q
def RdA(C:Ct)(t:TA)(m:AM):Prop:=∀σ H F θ s Q,BS C.K C.ca σ H F θ s->PoA C σ H F θ (m s) Q->t σ H Q
abbrev TM:=S->Res (Bool×S)
def RdT(C:Ct)(t:TT)(m:TM):Prop:=∀σ H F θ s Q,BS C.K C.ca σ H F θ s->PoT C σ H F θ (m s) Q->t σ H Q
abbrev GM:=D->S->Res S
def RdG(C:Ct)(t:TG)(m:GM):Prop:=∀σ H F θ s d v Q,BS C.K C.ca σ H F θ s->Rep C.K C.ca θ F d v->PoG C H F θ (m d s) Q->t v σ H Q
def RdS(C:Ct)(t:TS)(m:SM):Prop:=∀σ H F θ s Q,BS C.K C.ca σ H F θ s->PoS C H F θ (m s) Q->t Q σ H
section
variable {C : Ct}
@[simp] theorem fN {K ca θ F v}:Rep K ca θ F .non v↔v=.non:=by unfold Rep;exact RU
@[simp] theorem cQ {K ca θ F v b}:Rep K ca θ F (.bl b) v↔v=.bl b:=by unfold Rep;exact RU
@[simp] theorem bu {K ca θ F v i}:Rep K ca θ F (.int i) v↔v=.int i:=by unfold Rep;exact RU
@[simp] theorem c9 {K ca θ F v x}:Rep K ca θ F (.str x) v↔v=.str x:=by unfold Rep;exact RU
def aa(i:Nat):EM:=λs=>match s.r[i]? with
 | some (some d)=>.ok (d,s)
 | _=>.bad
theorem af(i:Nat):RdE C (HN i) (aa i):=by
 intro σ H F θ s Q b p
 unfold aa at p
 split at p
 ·rename_i d e
  obtain⟨v,h1,h2⟩:=b.sl i d e
  exact⟨v,h1,p H F θ .refl b v h2⟩
 ·exact p.elim
def aq(d:D):EM:=λs=>.ok (d,s)
theorem aD(i:Int):RdE C (tC (.int i)) (aq (.int i)):=λσ H F θ s Q b p=>p H F θ .refl b (.int i) (bu.mpr rfl)
theorem uR(i:Bool):RdE C (tC (.bl i)) (aq (.bl i)):=λσ H F θ s Q b p=>p H F θ .refl b (.bl i) (cQ.mpr rfl)
theorem mN(i:Str):RdE C (tC (.str i)) (aq (.str i)):=λσ H F θ s Q b p=>p H F θ .refl b (.str i) (c9.mpr rfl)
theorem ou:RdE C (tC .non) (aq .non):=λσ H F θ s Q b p=>p H F θ .refl b .non (fN.mpr rfl)
abbrev Op2:=ay->D->D->Res D
abbrev Op1:=ay->D->Res D
def gk(C:Ct)(r:R2)(f:Op2):Prop:=∀σ H F θ s x y v w Q,BS C.K C.ca σ H F θ s->Rep C.K C.ca θ F x v->Rep C.K C.ca θ F y w->
 PoE C σ H F θ ((f s.o x y).bind λd=>.ok (d,s)) Q->r v w H Q
def ao(f:Op2)(ma J:EM):EM:=λs=>(ma s).bind λx=>(J x.2).bind λy=>(f y.2.o x.1 y.1).bind λd=>.ok (d,y.2)
theorem av{r:R2}{f:Op2}{ta tb:TE}{ma U:EM}(Y:gk C r f)(ha:RdE C ta ma)(hb:RdE C tb U):RdE C (tOp r ta tb) (ao f ma U):=by
 intro σ H F θ s Q b p
 refine ha σ H F θ s _ b (PoR.bind p ?_)
 rintro ⟨x,s1⟩ H1 F1 θ1 _ ab p1 b1 v r1
 refine hb σ H1 F1 θ1 s1 _ b1 (PoR.bind p1 ?_)
 rintro ⟨y,s2⟩ H2 F2 θ2 _ J p2 b2 w r2
 exact Y σ H2 F2 θ2 s2 x y v w Q b2 (r1.mono J.ff J.pre) r2 p2
def MV(C:Ct)(r:V->Hp->VK->Prop)(f:Op1):Prop:=∀σ H F θ s x v Q,BS C.K C.ca σ H F θ s->Rep C.K C.ca θ F x v->
 PoE C σ H F θ ((f s.o x).bind λd=>.ok (d,s)) Q->r v H Q
def unM(f:Op1)(ma:EM):EM:=λs=>(ma s).bind λx=>(f x.2.o x.1).bind λd=>.ok (d,x.2)
theorem qJ{r:V->Hp->VK->Prop}{f:Op1}{ta:TE}{ma:EM}(J:MV C r f)(ha:RdE C ta ma):RdE C (tUn r ta) (unM f ma):=by
 intro σ H F θ s Q b p
 refine ha σ H F θ s _ b (PoR.bind p ?_)
 rintro ⟨x,s1⟩ H1 F1 θ1 _ U p1 Y v r1
 exact J σ H1 F1 θ1 s1 x v Q Y r1 p1
def ak:AM:=λs=>.ok ([],s)
def ae(m:EM)(r:AM):AM:=λs=>(m s).bind λx=>(r x.2).bind λy=>.ok (x.1::y.1,y.2)
theorem au:RdA C mX ak:=λσ H F θ s Q b p=>p H F θ .refl b [] aA.nil
theorem ai{r:AM}(U:RdE C te m)(ha:RdA C ta r):RdA C (jT te ta) (ae m r):=by
 intro σ H F θ s Q b p
 refine U σ H F θ s _ b (PoR.bind p ?_)
 rintro ⟨x,s1⟩ H1 F1 θ1 _ Y p1 b1 v r1
 refine ha σ H1 F1 θ1 s1 _ b1 (PoR.bind p1 ?_)
 rintro ⟨y,s2⟩ H2 F2 θ2 _ J p2 b2 w r2
 exact p2 H2 F2 θ2 .refl b2 (v::w) (aA.cons (r1.mono J.ff J.pre) r2)
abbrev OpN:=ay->List D->Res D
def j7(C:Ct)(r:List V->Hp->VK->Prop)(f:OpN):Prop:=∀σ H F θ s xs vs Q,BS C.K C.ca σ H F θ s->aA C.K C.ca θ F xs vs->
 PoE C σ H F θ ((f s.o xs).bind λd=>.ok (d,s)) Q->r vs H Q
def bo(f:OpN)(ma:AM):EM:=λs=>(ma s).bind λx=>(f x.2.o x.1).bind λd=>.ok (d,x.2)
theorem bt{r:List V->Hp->VK->Prop}{f:OpN}(hc:j7 C r f)(ha:RdA C ta ma):RdE C (tCB r ta) (bo f ma):=by
 intro σ H F θ s Q b p
 refine ha σ H F θ s _ b (PoR.bind p ?_)
 rintro ⟨x,s1⟩ H1 F1 θ1 _ J p1 U v Y
 exact hc σ H1 F1 θ1 s1 x v Q U Y p1
def k5(ma:AM):EM:=λs=>(ma s).bind λx=>if x.1.length<=16777216 then .ok (.tup x.1,x.2) else .bad
theorem kY(ha:RdA C ta ma):RdE C (LJ ta) (k5 ma):=by
 intro σ H F θ s Q b p
 refine ha σ H F θ s _ b (PoR.bind p ?_)
 rintro ⟨x,s1⟩ H1 F1 θ1 _ U p1 Y v J
 dsimp only at p1
 split at p1
 ·rename_i hl
  refine⟨by rw[J.length];exact hl,λq hq=> ?_⟩
  obtain⟨st,b2,sF,e⟩:=Y.newF hq (.tup v)
  refine p1 _ _ _ st b2 _ ?_
  unfold Rep
  exact⟨q,v,rfl,SqT.of e,J.mono sF ⟨[],by simp⟩⟩
 ·exact p1.elim
def g6(ma:AM):EM:=λs=>(ma s).bind λx=>if x.1.length<=16777216 then .ok (.lst x.1,x.2) else .bad
theorem mE(ha:RdA C ta ma):RdE C (Cw ta) (g6 ma):=by
 intro σ H F θ s Q b p
 refine ha σ H F θ s _ b (PoR.bind p ?_)
 rintro ⟨x,s1⟩ H1 F1 θ1 _ U p1 Y v J
 dsimp only at p1
 split at p1
 ·rename_i hl
  refine⟨by rw[J.length];exact hl,λq hq=> ?_⟩
  obtain⟨st,b2,sF,e⟩:=Y.newF hq (.lst v)
  refine p1 _ _ _ st b2 _ ?_
  unfold Rep
  exact⟨q,v,rfl,SqL.of e,J.mono sF ⟨[],by simp⟩⟩
 ·exact p1.elim
def iZ(ma:AM):EM:=λs=>(ma s).bind λx=>if x.1.length<=16777216 then .ok (.ptr x.2.o.length,⟨x.2.r,x.2.o++[.lst x.1]⟩) else .bad
theorem jH(ha:RdA C ta ma):RdE C (Cw ta) (iZ ma):=by
 intro σ H F θ s Q b p
 refine ha σ H F θ s _ b (PoR.bind p ?_)
 rintro ⟨x,s1⟩ H1 F1 θ1 _ U p1 Y v J
 dsimp only at p1
 split at p1
 ·rename_i hl
  refine⟨by rw[J.length];exact hl,λq hq=> ?_⟩
  obtain⟨st,b2,rp⟩:=Y.newC hq J
  exact p1 _ _ _ st b2 _ rp
 ·exact p1.elim
def bg(m:EM):TM:=λs=>(m s).bind λx=>match x.1 with
 | .bl b=>.ok (b,x.2)
 | _=>.bad
theorem bO(h:RdE C t m):RdT C (EG t) (bg m):=by
 intro σ H F θ s Q b p
 refine h σ H F θ s _ b (PoR.bind p ?_)
 rintro ⟨x,s1⟩ H1 F1 θ1 _ J p1 U v Y
 cases x <;> first | exact lc p1 | skip
 rename_i k _
 exact⟨k,cQ.mp Y,p1 _ _ _ .refl U⟩
theorem qI(h:RdE C t m):RdT C (tB t) (bg m):=bO h
def pH(a b:TM):TM:=λs=>(a s).bind λx=>if x.1 then b x.2 else .ok (false,x.2)
def orT(a b:TM):TM:=λs=>(a s).bind λx=>if x.1 then .ok (true,x.2) else b x.2
def qB(a:TM):TM:=λs=>(a s).bind λx=>.ok (!x.1,x.2)
theorem xG{t u:TT}{a b:TM}(ha:RdT C t a)(hb:RdT C u b):RdT C (MC t u) (pH a b):=by
 intro σ H F θ s Q bs p
 refine ha σ H F θ s _ bs (PoR.bind p ?_)
 rintro ⟨x,s1⟩ H1 F1 θ1 _ U p1 J
 cases x with
 | true=>exact t6 (hb σ H1 F1 θ1 s1 Q J p1)
 | false=>exact tD (p1 _ _ _ .refl J)
theorem AJ{t u:TT}{a b:TM}(ha:RdT C t a)(hb:RdT C u b):RdT C (tOr t u) (orT a b):=by
 intro σ H F θ s Q bs p
 refine ha σ H F θ s _ bs (PoR.bind p ?_)
 rintro ⟨x,s1⟩ H1 F1 θ1 _ U p1 J
 cases x with
 | true=>exact t6 (p1 _ _ _ .refl J)
 | false=>exact tD (hb σ H1 F1 θ1 s1 Q J p1)
theorem xR{t:TT}{a:TM}(ha:RdT C t a):RdT C (MO t) (qB a):=by
 intro σ H F θ s Q bs p
 refine ha σ H F θ s _ bs (PoR.bind p ?_)
 rintro ⟨x,s1⟩ H1 F1 θ1 _ J p1 U
 exact p1 _ _ _ .refl U
def Ib(a b:EM):EM:=λs=>(a s).bind λx=>match x.1 with
 | .bl true=>b x.2
 | .bl false=>.ok (.bl false,x.2)
 | _=>.bad
def orV(a b:EM):EM:=λs=>(a s).bind λx=>match x.1 with
 | .bl true=>.ok (.bl true,x.2)
 | .bl false=>b x.2
 | _=>.bad
def HF(a:EM):EM:=λs=>(a s).bind λx=>match x.1 with
 | .bl k=>.ok (.bl (!k),x.2)
 | _=>.bad
theorem Kt{t u:TE}{a b:EM}(ha:RdE C t a)(hb:RdE C u b):RdE C (JT t u) (Ib a b):=by
 intro σ H F θ s Q bs p
 refine ha σ H F θ s _ bs (PoR.bind p ?_)
 rintro ⟨x,s1⟩ H1 F1 θ1 _ U p1 J v Y
 cases x <;> first | exact lc p1 | skip
 rename_i k _
 refine⟨k,cQ.mp Y, ?_⟩
 cases k with
 | true=>exact t6 (hb σ H1 F1 θ1 s1 Q J p1)
 | false=>exact tD (p1 _ _ _ .refl J _ (cQ.mpr rfl))
theorem J9{a:EM}(ha:RdE C t a):RdE C (JH t) (HF a):=by
 intro σ H F θ s Q bs p
 refine ha σ H F θ s _ bs (PoR.bind p ?_)
 rintro ⟨x,s1⟩ H1 F1 θ1 _ J p1 U v Y
 cases x <;> first | exact lc p1 | skip
 rename_i k _
 exact⟨k,cQ.mp Y,p1 _ _ _ .refl U _ (cQ.mpr rfl)⟩
def ifM(c:TM)(a b:EM):EM:=λs=>(c s).bind λx=>if x.1 then a x.2 else b x.2
def Out.then(x:Out)(f:S->Out):Out:=match x with
 | .next s=>f s
 | o=>o
@[simp] theorem zC (s:S) (f:S->Out):(Out.next s).then f=f s:=rfl
@[simp] theorem N4 (d:D) (s:S) (f:S->Out):(Out.ret d s).then f=.ret d s:=rfl
@[simp] theorem N7 (s:S) (f:S->Out):(Out.brk s).then f=.brk s:=rfl
@[simp] theorem NG (s:S) (f:S->Out):(Out.cnt s).then f=.cnt s:=rfl
@[simp] theorem NI (c:Nat) (a:D) (o:S) (f:S->Out):(Out.exc c a o).then f=.exc c a o:=rfl
@[simp] theorem NL (f:S->Out):Out.bad.then f=.bad:=rfl
def aM(a b:SM):SM:=λs=>(a s).then b
def cF:SM:=λs=>.next s
theorem ck:RdS C JN cF:=λσ H F θ s Q b p=>p σ H F θ .refl b
theorem aH{t u:TS}{a b:SM}(ha:RdS C t a)(hb:RdS C u b):RdS C (L1 t u) (aM a b):=by
 intro σ H F θ s Q bs p
 refine ha σ H F θ s _ bs ?_
 unfold aM at p
 cases e:a s with
 | next s1=>
  rw[e] at p
  intro U H1 F1 θ1 J Y
  exact hb U H1 F1 θ1 s1 Q Y (PoS.after J p)
 | ret d s1=>rw[e] at p;exact p
 | brk s1=>rw[e] at p;exact p
 | cnt s1=>rw[e] at p;exact p
 | exc c a o=>rw[e] at p;exact p
 | bad=>rw[e] at p;exact p
def dk(m:EM):SM:=λs=>(m s).out λx=>.next x.2
theorem dy(h:RdE C t m):RdS C (JE t) (dk m):=by
 intro σ H F θ s Q b p
 refine h σ H F θ s _ b (PoS.out p ?_)
 rintro ⟨x,s1⟩ H1 F1 θ1 _ J p1 U v Y
 exact p1 σ H1 F1 θ1 .refl U
def bJ(m:EM):SM:=λs=>(m s).out λx=>.ret x.1 x.2
theorem bj(h:RdE C t m):RdS C (MK t) (bJ m):=by
 intro σ H F θ s Q b p
 refine h σ H F θ s _ b (PoS.out p ?_)
 rintro ⟨x,s1⟩ H1 F1 θ1 _ J p1 U v Y
 exact p1 v σ H1 F1 θ1 .refl U Y
def NT:SM:=λs=>.ret .non s
def ifS(c:TM)(a b:SM):SM:=λs=>(c s).out λx=>if x.1 then a x.2 else b x.2
theorem dj{t:TT}{u w:TS}{c:TM}{a b:SM}(hc:RdT C t c)(ha:RdS C u a)(hb:RdS C w b):RdS C (LQ t u w) (ifS c a b):=by
 intro σ H F θ s Q bs p
 refine hc σ H F θ s _ bs (PoS.out p ?_)
 rintro ⟨x,s1⟩ H1 F1 θ1 _ U p1 J
 cases x with
 | true=>exact t6 (ha σ H1 F1 θ1 s1 Q J p1)
 | false=>exact tD (hb σ H1 F1 θ1 s1 Q J p1)
def rM:SM:=λ_=>.bad
theorem jx:RdS C G5 rM:=λσ H F θ s Q b p=>p
def ax(i:Nat):GM:=λd s=>.ok ⟨s.r.set i (some d),s.o⟩
theorem aJ(i:Nat):RdG C (uC i) (ax i):=λσ H F θ s d v Q b r p=>p H F θ .refl _ (b.set r i)
def Ew(C:Ct)(t:TGs)(m:List D->S->Res S):Prop:=∀σ H F θ s ds vs Q,BS C.K C.ca σ H F θ s->aA C.K C.ca θ F ds vs->PoG C H F θ (m ds s) Q->t vs σ H Q
def cZ:List D->S->Res S:=λds s=>match ds with
 | []=>.ok s
 | _=>.bad
def aX(g:GM)(r:List D->S->Res S):List D->S->Res S:=λds s=>match ds with
 | d::ds=>(g d s).bind λs1=>r ds s1
 | []=>.bad
theorem fo:Ew C MR cZ:=by
 intro σ H F θ s ds vs Q b r p
 cases ds with
 | nil=>exact⟨by unfold aA at r;exact r,p H F θ .refl σ b⟩
 | cons d ds=>exact lc p
theorem bM{t:TG}{u:TGs}{g:GM}{m:List D->S->Res S}(U:RdG C t g)(hr:Ew C u m):Ew C (JC t u) (aX g m):=by
 intro σ H F θ s ds vs Q b r p
 cases ds with
 | nil=>exact lc p
 | cons d ds=>
  unfold aA at r
  obtain⟨v,w,rfl,Y,r2⟩:=r
  refine⟨v,w,rfl,U σ H F θ s d v _ b Y (PoR.bind p ?_)⟩
  intro s1 H1 F1 θ1 _ J p1 σ1 b1
  exact hr σ1 H1 F1 θ1 s1 ds w Q b1 (r2.mono J.ff J.pre) p1
def cV(m:List D->S->Res S)(n:Nat):GM:=λd s=>match d with
 | .tup ds=>if ds.length=n then m ds s else .bad
 | _=>.bad
theorem fq{t:TGs}{m:List D->S->Res S}(h:Ew C t m):RdG C (LF C.K n t) (cV m n):=by
 intro σ H F θ s d v Q b r p
 cases d <;> first | exact lc p | skip
 rename_i ds
 unfold Rep at r
 obtain⟨a,xs,rfl,hs,hr⟩:=r
 unfold cV at p
 dsimp only at p
 split at p
 ·rename_i J
  exact⟨a,xs,rfl,bP.seqT b.now.fh hs,by rw[hr.length];exact J,h σ H F θ s ds xs Q b hr p⟩
 ·exact lc p
def lb(m:EM)(g:GM):SM:=λs=>((m s).bind λx=>g x.1 x.2).out λs=>.next s
theorem xI(h:RdE C t m)(Y:RdG C g gm):RdS C (CG t g) (lb m gm):=by
 intro σ H F θ s Q b p
 have p':PoG C H F θ ((m s).bind λx=>gm x.1 x.2) Q.nx:=PoS.out p λs1 H1 F1 θ1 _ J p1 σ1 U=>p1 σ1 H1 F1 θ1 .refl U
 refine h σ H F θ s _ b (PoR.bind p' ?_)
 rintro ⟨x,s1⟩ H1 F1 θ1 _ J p1 U v r1
 exact Y σ H1 F1 θ1 s1 x v Q.nx U r1 p1
abbrev setM(i:Nat)(m:EM):SM:=lb m (ax i)
theorem aS(h:RdE C t m):RdS C (CG t (uC i)) (setM i m):=xI h (aJ i)
def NO(i:Nat)(f:Op2)(m:EM):SM:=setM i (ao f (aa i) m)
end
open PySem PySem.Spec PyProof.Rows L2
section
variable {C : Ct}
structure sN(C:Ct)(J:It)(ds:List D)(ok:ay->Prop)(H F:Hp)(θ:List Addr):Prop where
 go:∀(i:Nat) H2 F2 θ2 O2,i<ds.length->Stp H F θ H2 F2 θ2->Now C.K C.ca H2 F2 θ2 O2->ok O2->J.go i H2
 yl:∀(i:Nat) d σ H2 F2 θ2 s2 x H3,ds[i]? =some d->Stp H F θ H2 F2 θ2->BS C.K C.ca σ H2 F2 θ2 s2->ok s2.o->J.yld i H2 x H3->∃F3,Stp H2 F2 θ2 H3 F3 θ2/\BS C.K C.ca σ H3 F3 θ2 s2/\Rep C.K C.ca θ2 F3 d x
 st:∀(i:Nat) H2 F2 θ2 O2,ds.length<=i->Stp H F θ H2 F2 θ2->Now C.K C.ca H2 F2 θ2 O2->ok O2->J.stop i H2
def okC(ds:List D):Option Nat->ay->Prop
 | none,_=>True
 | some k,O=>O[k]? =some (.lst ds)
abbrev IM:=S->Res ((List D×Option Nat)×S)
def RdI(C:Ct)(wi:TI)(im:IM):Prop:=∀σ H F θ s R,BS C.K C.ca σ H F θ s->
 PoR C H F θ (im s) (λy H1 F1 θ1=>BS C.K C.ca σ H1 F1 θ1 y.2->∀J,sN C J y.1.1 (okC y.1.1 y.1.2) H1 F1 θ1->R J H1)->wi σ H R
open Classical in
noncomputable def cv (ok:ay->Prop)(g:GM)(body:SM):List D->S->Out
 | [],s=>if ok s.o then .next s else .bad
 | d::ds,s=>if ok s.o then (g d s).out λs1=>match body s1 with
  | .next s2=>cv ok g body ds s2
  | .cnt s2=>cv ok g body ds s2
  | .brk s2=>.next s2
  | o=>o
  else .bad
noncomputable def fv (im:IM)(g:GM)(body:SM):SM:=λs=>(im s).out λy=>cv (okC y.1.1 y.1.2) g body y.1.1 y.2
theorem eE{tb:TS}{bm:SM}(hi:RdI C wi im)(hg:RdG C g gm)(hb:RdS C tb bm):RdS C (LN wi g tb) (fv im gm bm):=by
 intro σ H F θ s Q b p
 refine hi σ H F θ s _ b (PoS.out p ?_)
 rintro ⟨⟨ds,k⟩,s1⟩ H1 F1 θ1 _ bw p1 b1 J it
 dsimp only at p1 it b1
 refine⟨λi m σ' H'=>m=ds.length-i/\i<=ds.length/\∃F' θ' s',Stp H1 F1 θ1 H' F' θ'/\BS C.K C.ca σ' H' F' θ' s'/\PoS C H' F' θ' (cv (okC ds k) gm bm (ds.drop i) s') Q,⟨ds.length,by simp,Bs _,F1,θ1,s1,.refl,b1,by simpa using p1⟩, ?_⟩
 rintro i m σ' H' ⟨rfl,bz,F',θ',s',st,bs,po⟩
 by_cases lt:i<ds.length
 ·right
  rw[Ch lt,cv] at po
  split at po
  ·rename_i ac
   refine⟨it.go i H' F' θ' s'.o lt st bs.now ac,λσ2 H2=>i+1<=ds.length/\∃F2 θ2 s2,Stp H1 F1 θ1 H2 F2 θ2/\BS C.K C.ca σ2 H2 F2 θ2 s2/\PoS C H2 F2 θ2 (cv (okC ds k) gm bm (ds.drop (i+1)) s2) Q,λσ2 H2 n=>⟨ds.length-(i+1),by omega,rfl,n⟩, ?_⟩
   intro x H3 hy
   obtain⟨F3,a2,b3,rp⟩:=it.yl i ds[i] σ' H' F' θ' s' x H3 (na lt) st bs ac hy
   refine hg σ' H3 F3 θ' s' ds[i] x _ b3 rp (PoS.out (PoS.after a2 po) ?_)
   intro s4 H4 F4 θ4 _ bb U σ4 b4
   refine hb σ4 H4 F4 θ4 s4 _ b4 ?_
   have a3:∀Y,PoS C H4 F4 θ4 (cv (okC ds k) gm bm (ds.drop (i+1)) Y) Q->∀σ5 H5 F5 θ5,Stp H4 F4 θ4 H5 F5 θ5->BS C.K C.ca σ5 H5 F5 θ5 Y->i+1<=ds.length/\∃F2 θ2 s2,Stp H1 F1 θ1 H5 F2 θ2/\BS C.K C.ca σ5 H5 F2 θ2 s2/\PoS C H5 F2 θ2 (cv (okC ds k) gm bm (ds.drop (i+1)) s2) Q:=
    λY p5 σ5 H5 F5 θ5 a4 b5=>⟨lt,F5,θ5,Y,st.trans (a2.trans (bb.trans a4)),b5,PoS.after a4 p5⟩
   cases e:bm s4 with
   | next Y=>rw[e] at U;exact a3 Y U
   | cnt Y=>rw[e] at U;exact a3 Y U
   | brk Y=>rw[e] at U;exact U
   | ret d Y=>rw[e] at U;exact U
   | exc c a o=>rw[e] at U;exact U
   | bad=>rw[e] at U;exact U
  ·exact lc po
 ·left
  rw[Qe (by omega),cv] at po
  split at po
  ·rename_i ac
   exact⟨it.st i H' F' θ' s'.o (by omega) st bs.now ac,po σ' H' F' θ' .refl bs⟩
  ·exact lc po
def kF(c:TM)(b:SM):Nat->S->Out
 | 0,_=>.bad
 | n+1,s=>(c s).out λx=>if x.1 then (match b x.2 with
  | .next s2=>kF c b n s2
  | .cnt s2=>kF c b n s2
  | .brk s2=>.next s2
  | o=>o) else .next x.2
def xv(φ:S->Nat)(c:TM)(b:SM):SM:=λs=>kF c b (φ s) s
theorem IE{tb:TS}{φ:S->Nat}{c:TM}{b:SM}(hc:RdT C tc c)(hb:RdS C tb b):RdS C (FP tc tb) (xv φ c b):=by
 intro σ H F θ s Q bs p
 refine⟨λm U H'=>∃F' θ' s',BS C.K C.ca U H' F' θ' s'/\PoS C H' F' θ' (kF c b m s') Q,⟨φ s,F,θ,s,bs,p⟩, ?_⟩
 rintro m U H' ⟨F',θ',s',b',po⟩
 cases m with
 | zero=>exact lc po
 | succ m=>
  rw[kF] at po
  refine hc U H' F' θ' s' _ b' (PoS.out po ?_)
  rintro ⟨x,s1⟩ H1 F1 θ1 _ a4 p1 b1
  cases x with
  | false=>exact tD (p1 U H1 F1 θ1 .refl b1)
  | true=>
   refine t6 ⟨λσ2 H2=>∃F2 θ2 s2,BS C.K C.ca σ2 H2 F2 θ2 s2/\PoS C H2 F2 θ2 (kF c b m s2) Q,λσ2 H2 n=>⟨m,QE _,n⟩, ?_⟩
   refine hb U H1 F1 θ1 s1 _ b1 ?_
   dsimp only[if_true] at p1
   cases e:b s1 with
   | next Y=>rw[e] at p1;exact λσ5 H5 F5 θ5 J b5=>⟨F5,θ5,Y,b5,PoS.after J p1⟩
   | cnt Y=>rw[e] at p1;exact λσ5 H5 F5 θ5 J b5=>⟨F5,θ5,Y,b5,PoS.after J p1⟩
   | brk Y=>rw[e] at p1;exact p1
   | ret d Y=>rw[e] at p1;exact p1
   | exc c a o=>rw[e] at p1;exact p1
   | bad=>rw[e] at p1;exact p1
def itemsOf(O:ay):D->Res (List D×Option Nat)
 | .lst ds=>.ok (ds,none)
 | .ptr k=>match O[k]? with
  | some (.lst ds)=>.ok (ds,some k)
  | _=>.bad
 | _=>.bad
def listI(m:EM):IM:=λs=>(m s).bind λx=>(itemsOf x.2.o x.1).bind λy=>.ok (y,x.2)
theorem ML(hs:SqL C.K F a xs)(hr:aA C.K C.ca θ F ds xs)(inj:∀{σ H2 F2 θ2 s2},Stp H F θ H2 F2 θ2->BS C.K C.ca σ H2 F2 θ2 s2->SqL C.K H2 a xs):
 sN C (Itl C.K a) ds (okC ds none) H F θ where
 go:=λi H2 F2 θ2 O2 hi st n _=>by
  obtain⟨x,hx⟩:∃x,xs[i]? =some x:=⟨xs[i]'(by rw[hr.length];exact hi),na _⟩
  exact⟨xs,x,n.fh.seq (st.ff.seq hs),hx⟩
 yl:=λi d σ H2 F2 θ2 s2 x H3 hd st b _ hy=>by
  obtain⟨rfl,hx⟩:=hy
  refine⟨F2,.refl,b, ?_⟩
  obtain⟨v,h1,h2⟩:=hr.get hd
  have:=hx xs (b.now.fh.seq (st.ff.seq hs))
  rw[h1] at this
  cases this
  exact h2.mono st.ff st.pre
 st:=λi H2 F2 θ2 O2 hi st n _=>⟨xs,n.fh.seq (st.ff.seq hs),by rw[hr.length];exact hi⟩
theorem bW{tl:TE}(h:RdE C tl m):RdI C (JJ C.K tl) (listI m):=by
 intro σ H F θ s R b p
 refine h σ H F θ s _ b (PoR.bind p ?_)
 rintro ⟨x,s1⟩ H1 F1 θ1 _ ap p1 Y v r1
 dsimp only at p1 Y r1
 cases x <;> first | exact lc p1 | skip
 ·rename_i ds _
  unfold Rep at r1
  obtain⟨a,xs,rfl,hs,hr⟩:=r1
  exact⟨a,rfl,⟨xs,Y.now.fh.seq hs⟩,p1 _ _ _ .refl Y _ (ML hs hr λst b=>b.now.fh.seq (st.ff.seq hs))⟩
 ·rename_i k _
  unfold Rep at r1
  obtain⟨a,rfl,hk⟩:=r1
  unfold itemsOf at p1
  dsimp only at p1
  split at p1
  ·rename_i ds ek
   obtain⟨q1,xs,q2,q3⟩:jo C.K C.ca H1 F1 θ1 a (.lst ds):=Y.now.ce k a _ hk ek
   refine⟨a,rfl,⟨xs,SqL.of q2⟩,p1 _ _ _ .refl Y _ ?_⟩
   have cell:∀{H2 J:Hp} {θ2:List Addr} {O2:ay},Stp H1 F1 θ1 H2 J θ2->Now C.K C.ca H2 J θ2 O2->O2[k]? =some (.lst ds)->∃ys,SqL C.K H2 a ys/\aA C.K C.ca θ2 J ds ys:=λ{H2 J θ2 O2} st n e=>by
    have an:θ2[k]? =some a:=by
     obtain⟨r,rfl,_⟩:=st.th
     rw[tt (t3.mp hk).1]
     exact hk
    obtain⟨_,ys,U,w3⟩:jo C.K C.ca H2 J θ2 a (.lst ds):=n.ce k a _ an e
    exact⟨ys,SqL.of U,w3⟩
   refine⟨λi H2 J θ2 O2 hi st n e=> ?_,λi d σ H2 J θ2 s2 x H3 hd st b e hy=> ?_,λi H2 J θ2 O2 hi st n e=> ?_⟩
   ·obtain⟨ys,w1,U⟩:=cell st n e
    exact⟨ys,ys[i]'(by rw[U.length];exact hi),w1,na _⟩
   ·obtain⟨rfl,hx⟩:=hy
    obtain⟨ys,w1,U⟩:=cell st b.now e
    obtain⟨v,h1,h2⟩:=U.get hd
    have:=hx ys w1
    rw[h1] at this
    cases this
    exact⟨J,.refl,b,h2⟩
   ·obtain⟨ys,w1,U⟩:=cell st n e
    exact⟨ys,w1,by rw[U.length];exact hi⟩
  ·exact lc p1
def dt(lo hi:Int):List D:=(pc (hi-lo).toNat).map λi=>.int (lo+(i:Nat))
theorem gs(lo hi:Int):(dt lo hi).length=(hi-lo).toNat:=by unfold dt;simp
theorem Jm{lo hi:Int}:sN C (Itr lo (hi-lo).toNat) (dt lo hi) (okC (dt lo hi) none) H F θ where
 go:=λi H2 F2 θ2 O2 h st n _=>by rw[gs] at h;exact h
 yl:=λi d σ H2 F2 θ2 s2 x H3 hd st b _ hy=>by
  obtain⟨rfl,rfl⟩:=hy
  refine⟨F2,.refl,b, ?_⟩
  unfold dt at hd
  rw[sI] at hd
  cases e:(pc (hi-lo).toNat)[i]? with
  | none=>rw[e] at hd;cases hd
  | some j=>
   rw[e] at hd
   cases hd
   obtain⟨_,rfl⟩:∃h,j=i:=⟨trivial,by have:=(t3.mp e).2;simpa using this.symm⟩
   exact bu.mpr rfl
 st:=λi H2 F2 θ2 O2 h st n _=>by rw[gs] at h;exact h
def dA(ma:AM):IM:=λs=>(ma s).bind λx=>match x.1 with
 | [.int j]=>if -(2^62)<=j/\j<2^62 then .ok ((dt 0 j,none),x.2) else .bad
 | _=>.bad
theorem nG{K ca θ F i vs}(h:aA K ca θ F [.int i] vs):vs=[.int i]:=by
 unfold aA at h
 obtain⟨v,r,rfl,h1,h2⟩:=h
 unfold aA at h2
 rw[h2,bu.mp h1]
theorem Ez{K ca θ F i j vs}(h:aA K ca θ F [.int i,.int j] vs):vs=[.int i,.int j]:=by
 unfold aA at h
 obtain⟨v,r,rfl,h1,h2⟩:=h
 rw[nG h2,bu.mp h1]
theorem eS{m:AM}(h:RdA C ta m):RdI C (JF ta) (dA m):=by
 intro σ H F θ s R b p
 refine h σ H F θ s _ b (PoR.bind p ?_)
 rintro ⟨x,s1⟩ H1 F1 θ1 _ ab p1 J v U
 dsimp only at p1 J U
 split at p1
 ·rename_i j _
  split at p1
  ·rename_i Y
   refine⟨j,nG U,Y.1,Y.2, ?_⟩
   have:=p1 _ _ _ .refl J _ (Jm (lo:=0) (hi:=j))
   rw[Int.sub_zero] at this
   exact this
  ·exact lc p1
 ·exact lc p1
abbrev FM:=List D->ay->Res (D×ay)
def spM(K:lm)(ca:Nat->Addr)(n:Nat)(f:FM):Sp:=λvs H Q E=>∃F θ ds O,Now K ca H F θ O/\aA K ca θ F ds vs/\ds.length=n/\match f ds O with
 | .ok (d,O1)=>∀v H1 F1 θ1,Stp H F θ H1 F1 θ1->Now K ca H1 F1 θ1 O1->Rep K ca θ1 F1 d v->Q v H1
 | .exc c _ s1=>∀H1 F1 θ1,Stp H F θ H1 F1 θ1->Now K ca H1 F1 θ1 s1.o->E (.ref (ca c)) none H1
 | .bad=>False
def runM(n:Nat)(m:SM):FM:=λds O=>match m ⟨ds.map some++pr (n-ds.length) none,O⟩ with
 | .next s=>.ok (.non,s.o)
 | .ret d s=>.ok (d,s.o)
 | _=>.bad
theorem Hj{N:List Str}(n:Now K ca H F θ O)(r:aA K ca θ F ds vs):
 BS K ca (L2.start N vs) H F θ ⟨ds.map some++pr (N.length-ds.length) none,O⟩:=by
 refine⟨n,by unfold L2.start;simp[r.length],λi d e=> ?_⟩
 dsimp only at e
 have hi:i<ds.length:=by
  by_cases hi:i<ds.length
  ·exact hi
  ·rw[re (by simpa using hi),wE] at e
   split at e <;> cases e
 rw[tt (by simpa using hi),sI] at e
 cases e1:ds[i]? with
 | none=>rw[e1] at e;cases e
 | some J=>
  rw[e1] at e
  cases e
  obtain⟨v,h1,h2⟩:=r.get e1
  refine⟨v, ?_,h2⟩
  unfold L2.start
  rw[tt (by simpa[r.length] using hi),sI,h1]
  rfl
def W0:Wsh:=λ_ _ _ _ _ _=>False
theorem qu {P:Program} {w:World} {K:lm} {mg:Str->Option Value} {base:Heap} {ca:Nat->Addr} {x qual:Str} {st:Stmt} {f:Addr} {fd:FuncData} {N ps:List Str} {k n:Nat} {m:SM}
 (F:Fun K x qual st f fd) (S:ba N ps (aL st)) (hn:N.length=n)
 (hm:∀(J:Value) (A:Around) (outer:List Env) (s:Shared) (H:Hp) (E:XK),fb k (A.deeper (envOfC qual (aL st) s.heap.objs.size f J))->
  ∃t,PSs (ua (CXE P w) P w K mg base N qual (aL st) f J A outer s H E).nox (d3 st) t/\RdS ⟨K,ca,W0⟩ t m):
 jX P w K mg base (CXE P w) (k+1) f fd ps (spM K ca ps.length (runM n m)):=by
 refine F.okE S (λvs H Q E h=> ?_) (λJ A outer s H vs Q E hr h=> ?_)
 ·obtain⟨F,θ,ds,O,_,r,Y,_⟩:=h
  rw[r.length,Y]
 ·obtain⟨F,θ,ds,O,U,r,Y,q⟩:=h
  obtain⟨t,ht,rd⟩:=hm J A outer s H E hr
  refine⟨t,ht.nox,rd _ H F θ _ _ (Hj U r) ?_⟩
  subst hn
  unfold runM at q
  cases e:m ⟨ds.map some++pr (N.length-ds.length) none,O⟩ with
  | next s1=>rw[e] at q;exact λσ1 H1 F1 θ1 st b=>q .non H1 F1 θ1 st b.now (fN.mpr rfl)
  | ret d s1=>rw[e] at q;exact λv σ1 H1 F1 θ1 st b rv=>q v H1 F1 θ1 st b.now rv
  | exc c a o=>rw[e] at q;exact lc q
  | brk s1=>rw[e] at q;exact lc q
  | cnt s1=>rw[e] at q;exact lc q
  | bad=>rw[e] at q;exact lc q
theorem BS.called(b:BS K ca σ H F θ s)(st:Stp H F [] H1 F1 θ1)(n:Now K ca H1 F1 θ1 O1):
 Stp H F θ H1 F1 θ/\BS K ca σ H1 F1 θ s:=by
 have kp:∀b o,H b=some o->H1 b=some o:=λb o h=>st.kp b o h (by simp)
 have U:∀b o,F1 b=some o->F b=some o\/H b=none:=λb o h=>by
  rcases st.nf b o h with z | z | z
  ·exact .inl z
  ·exact .inr z
  ·simp at z
 refine⟨⟨st.ff,⟨[],by simp,by simp⟩,λb o h _=>kp b o h,st.al,λb o h=>(U b o h).elim .inl λz=>.inr (.inl z)⟩,⟨⟨n.fh,b.now.nd,b.now.ln,λk a c e1 e2=> ?_⟩,b.len,λi d e=> ?_⟩⟩
 ·have q:=b.now.ce k a c e1 e2
  obtain⟨u,hu⟩:=q.there
  have fn:F a=none->F1 a=none:=λh=>by
   cases e:F1 a with
   | none=>rfl
   | some o=>
    rcases U a o e with z | z
    ·rw[h] at z;cases z
    ·rw[hu] at z;cases z
  cases c with
  | dead=>exact⟨u,kp a u hu⟩
  | lst ds=>
   obtain⟨q1,xs,q2,J⟩:=q
   exact⟨fn q1,xs,kp _ _ q2,J.mono st.ff ⟨[],by simp⟩⟩
  | ins c ns ds=>
   obtain⟨q1,dx,xs,q2,J,Y⟩:=q
   exact⟨fn q1,dx,xs,kp _ _ q2,J,Y.mono st.ff ⟨[],by simp⟩⟩
 ·obtain⟨v,h1,h2⟩:=b.sl i d e
  exact⟨v,h1,h2.mono st.ff ⟨[],by simp⟩⟩
def aN(n:Nat)(f:FM)(ma:AM):EM:=λs=>(ma s).bind λx=>if aQ x.1=true/\x.1.length=n then (match f x.1 [] with
 | .ok (d,_)=>if cU d=true then .ok (d,x.2) else .bad
 | _=>.bad) else .bad
theorem aU(ha:RdA C ta ma):RdE C (sm (spM C.K C.ca n f) [] E ta) (aN n f ma):=by
 intro σ H F θ s Q b p
 refine ha σ H F θ s _ b (PoR.bind p ?_)
 rintro ⟨x,s1⟩ H1 F1 θ1 _ ac p1 J v r1
 dsimp only at p1 J r1 ⊢
 split at p1
 ·rename_i hp
  rw[PB]
  refine⟨F1,[],x,[],Now.nil J.now.fh,r1.pure hp.1,hp.2, ?_⟩
  split at p1
  ·rename_i d O1 e
   rw[e]
   intro v H2 F2 θ2 U n2 rv
   split at p1
   ·rename_i pd
    obtain⟨Y,b3⟩:=J.called U n2
    exact p1 H2 F2 θ1 Y b3 v (rv.pure pd)
   ·exact lc p1
  ·exact lc p1
 ·exact lc p1
end
section
variable {C : Ct}
theorem du(p:PoE C σ H F θ ((Res.ok d).bind λd=>.ok (d,s)) Q)(b:BS C.K C.ca σ H F θ s)(r:Rep C.K C.ca θ F d v):Q v H:=p H F θ .refl b v r
theorem tU(p:PoE C σ H F θ ((Res.ok (D.lst ds)).bind λd=>.ok (d,s)) Q)(b:BS C.K C.ca σ H F θ s)(r:aA C.K C.ca θ F ds xs):
 ∀q,H q=none->Q (.ref q) (upd H q (.lst xs)):=λq hq=>by
 obtain⟨st,J,U,e⟩:=b.newF hq (.lst xs)
 refine p _ _ _ st J _ ?_
 unfold Rep
 exact⟨q,xs,rfl,SqL.of e,r.mono U ⟨[],by simp⟩⟩
def lsD(O:ay):D->Option (List D)
 | .lst ds=>some ds
 | .ptr k=>match O[k]? with
  | some (.lst ds)=>some ds
  | _=>none
 | _=>none
@[simp] theorem lO:lsD O (.lst ds)=some ds:=rfl
theorem eM(b:BS C.K C.ca σ H F θ s)(r:Rep C.K C.ca θ F d v)(e:lsD s.o d=some ds):∃a xs,v=.ref a/\SqL C.K H a xs/\aA C.K C.ca θ F ds xs:=by
 cases d <;> first | (simp[lsD] at e;done) | skip
 ·cases e
  unfold Rep at r
  obtain⟨a,xs,rfl,hs,hr⟩:=r
  exact⟨a,xs,rfl,b.now.fh.seq hs,hr⟩
 ·rename_i k
  unfold Rep at r
  obtain⟨a,rfl,hk⟩:=r
  unfold lsD at e
  dsimp only at e
  split at e
  ·rename_i J U
   cases e
   obtain⟨_,xs,h1,h2⟩:jo C.K C.ca H F θ a (.lst ds):=b.now.ce k a _ hk U
   exact⟨a,xs,rfl,SqL.of h1,h2⟩
  ·cases e
theorem xf(b:BS C.K C.ca σ H F θ s)(r:Rep C.K C.ca θ F (.tup ds) v):∃a xs,v=.ref a/\SqT C.K H a xs/\aA C.K C.ca θ F ds xs:=by
 unfold Rep at r
 obtain⟨a,xs,rfl,hs,hr⟩:=r
 exact⟨a,xs,rfl,bP.seqT b.now.fh hs,hr⟩
def intD(g:Int->Int->Res D):Op2:=λ_ x y=>match x,y with
 | .int i,.int j=>g i j
 | _,_=>.bad
theorem xY{g:Int->Int->V}{f:Int->Int->D}(h:∀K ca θ F i j,Rep K ca θ F (f i j) (g i j)):gk C (rI0 g) (intD λi j=>.ok (f i j)):=by
 intro σ H F θ s x y v w Q b J U p
 unfold intD at p
 split at p
 ·rename_i i j
  exact⟨i,j,bu.mp J,bu.mp U,du p b (h ..)⟩
 ·exact lc p
open Classical in
noncomputable def yA (c:Int->Int->Prop)(f:Int->Int->D):Op2:=intD λi j=>if c i j then .ok (f i j) else .bad
theorem AO{c:Int->Int->Prop}{g:Int->Int->V}{f:Int->Int->D}(h:∀K ca θ F i j,Rep K ca θ F (f i j) (g i j)):gk C (rI c g) (yA c f):=by
 intro σ H F θ s x y v w Q b J U p
 unfold yA intD at p
 split at p
 ·rename_i i j
  dsimp only at p
  split at p
  ·rename_i hc
   exact⟨i,j,bu.mp J,bu.mp U,hc,du p b (h ..)⟩
  ·exact lc p
 ·exact lc p
def iB:Op2:=intD λi j=>.ok (.int (i-j))
noncomputable def dM:Op2:=yA IntMulOk λi j=>.int (i*j)
noncomputable def gj:Op2:=yA (λi j=>j≠0) λi j=>.int (i.fdiv j)
noncomputable def gO:Op2:=yA (λ_ j=>j≠0) λi j=>.int (i.fmod j)
noncomputable def wW:Op2:=yA Jx λi j=>.int (i^j.toNat)
def ltD:Op2:=intD λi j=>.ok (.bl (decide (i<j)))
def leD:Op2:=intD λi j=>.ok (.bl (decide (i<=j)))
def gtD:Op2:=intD λi j=>.ok (.bl (decide (j<i)))
def geD:Op2:=intD λi j=>.ok (.bl (decide (j<=i)))
def ir:Op1:=λ_ x=>match x with
 | .int i=>.ok (.int (-i))
 | _=>.bad
section
variable {X : Cx}
theorem fU:OpR X (binaryOp .Mult) (rI IntMulOk λi j=>.int (i*j)):=opI λ_ _ _ _ _ _ _ hc q=>mul_int q hc
theorem mz(hd:X.A.depth+100<recursionLimit)(J:X.prog.given.tree=none)(hs:∃env l,X.stack=env::l/\env.scope.isGenerator=false/\env.scope.isCoroutine=false/\env.builtins=builtinsNs/\env.globals=mainGlobals):
 OpR X (binaryOp .FloorDiv) (rI (λi j=>j≠0) λi j=>.int (i.fdiv j)):=by
 intro pins s σ H x y v u Q I U Y h
 obtain⟨i,j,rfl,rfl,hc,q⟩:=h
 obtain⟨t,rfl⟩:=U
 obtain⟨t',rfl⟩:=Y
 obtain⟨env,l,e,h1,h2,h3,h4⟩:=hs
 exact floordiv_int hc ⟨.int _,H,I.tok _,⟨_,rfl⟩,q⟩ (.inr (PylongRoom.of I.nolimit hd (SeerAt.of I.noseer J (I.ok.frames.trans (by rw[e])) h1 h2 h3 h4)))
def AL(K:lm):R2:=λx y H Q=>rI0 (λi j=>.int (i+j)) x y H Q\/(∃i j,x=.str i/\y=.str j/\i.length+j.length<=sizeLine/\Q (.str (i++j)) H)\/JQ K x y H Q
theorem cK:OpR X (binaryOp .Add) (AL X.K):=My.or (ED.or Lx)
end
def NK:Op2:=intD λi j=>.ok (.int (i+j))
def br:Op2:=λO x y=>match x,y with
 | .int i,.int j=>.ok (.int (i+j))
 | .str a,.str b=>if a.length+b.length<=16777216 then .ok (.str (a++b)) else .bad
 | x,y=>match lsD O x,lsD O y with
  | some a,some b=>if a.length+b.length<=16777216 then .ok (.lst (a++b)) else .bad
  | _,_=>.bad
theorem cg:gk C (AL C.K) br:=by
 intro σ H F θ s x y v w Q b J U p
 have lists:∀{a c:List D},lsD s.o x=some a->lsD s.o y=some c->PoE C σ H F θ ((if a.length+c.length<=16777216 then Res.ok (D.lst (a++c)) else .bad).bind λd=>.ok (d,s)) Q->AL C.K v w H Q:=λ{a c} e1 e2 p=>by
  split at p
  ·rename_i Y
   obtain⟨l1,xs,rfl,s1,r1⟩:=eM b J e1
   obtain⟨l2,ys,rfl,s2,r2⟩:=eM b U e2
   exact .inr (.inr ⟨l1,l2,xs,ys,rfl,rfl,s1,s2,by rw[r1.length,r2.length];exact Y,tU p b (r1.append r2)⟩)
  ·exact lc p
 unfold br at p
 split at p
 ·rename_i i j
  exact .inl ⟨i,j,bu.mp J,bu.mp U,du p b (bu.mpr rfl)⟩
 ·rename_i i j
  split at p
  ·rename_i Y
   exact .inr (.inl ⟨i,j,c9.mp J,c9.mp U,Y,du p b (c9.mpr rfl)⟩)
  ·exact lc p
 ·split at p
  ·rename_i a c e1 e2
   exact lists e1 e2 p
  ·exact lc p
theorem mP:gk C (rI0 λi j=>.int (i-j)) iB:=xY λ_ _ _ _ _ _=>bu.mpr rfl
theorem eY:gk C (rI IntMulOk λi j=>.int (i*j)) dM:=AO λ_ _ _ _ _ _=>bu.mpr rfl
theorem kK:gk C (rI (λi j=>j≠0) λi j=>.int (i.fdiv j)) gj:=AO λ_ _ _ _ _ _=>bu.mpr rfl
theorem jC:gk C (rI (λ_ j=>j≠0) λi j=>.int (i.fmod j)) gO:=AO λ_ _ _ _ _ _=>bu.mpr rfl
theorem FT:gk C (rI Jx λi j=>.int (i^j.toNat)) wW:=AO λ_ _ _ _ _ _=>bu.mpr rfl
theorem rk:gk C (rI0 λi j=>.bl (decide (i<j))) ltD:=xY λ_ _ _ _ _ _=>cQ.mpr rfl
theorem kW:gk C (rI0 λi j=>.bl (decide (j<i))) gtD:=xY λ_ _ _ _ _ _=>cQ.mpr rfl
theorem oH:MV C (rU λi=>.int (-i)) ir:=by
 intro σ H F θ s x v Q b J p
 unfold ir at p
 split at p
 ·rename_i i
  exact⟨i,bu.mp J,du p b (bu.mpr rfl)⟩
 ·exact lc p
mutual
def toPy:D->Option PyData
 | .non=>some .none
 | .bl b=>some (.bool b)
 | .int i=>some (.int i)
 | .str x=>some (.str x)
 | .lst ds=>(iq ds).map .list
 | .tup ds=>(iq ds).map .tuple
 | .ptr _=>none
 | .obj _ _ _=>none
 | .exn _=>none
def iq:List D->Option (List PyData)
 | []=>some []
 | d::ds=>match toPy d,iq ds with
  | some a,some b=>some (a::b)
  | _,_=>none
end
mutual
def res(O:ay):D->D
 | .lst ds=>.lst (bZ O ds)
 | .tup ds=>.tup (bZ O ds)
 | .ptr k=>match O[k]? with
  | some (.lst ds)=>.lst ds
  | _=>.ptr k
 | .non=>.non
 | .bl b=>.bl b
 | .int i=>.int i
 | .str x=>.str x
 | .obj c ns ds=>.obj c ns ds
 | .exn c=>.exn c
def bZ(O:ay):List D->List D
 | []=>[]
 | d::ds=>res O d::bZ O ds
end
section
variable {K : lm} {ca : Nat → Addr} {H F G : Hp} {θ : List Addr} {O : ay}
mutual
theorem yS(n:Now K ca H F θ O)(U:bP F G)(J:bP G H):∀{d:D} {v:V},Rep K ca θ G d v->Rep K ca θ H (res O d) v
 | .non,_,h=>by unfold res;exact h
 | .bl _,_,h=>by unfold res;exact h
 | .int _,_,h=>by unfold res;exact h
 | .str _,_,h=>by unfold res;exact h
 | .lst ds,_,h=>by
  unfold res
  unfold Rep at h ⊢
  obtain⟨a,xs,e,hs,hr⟩:=h
  exact⟨a,xs,e,J.seq hs,kD n U J hr⟩
 | .tup ds,_,h=>by
  unfold res
  unfold Rep at h ⊢
  obtain⟨a,xs,e,hs,hr⟩:=h
  exact⟨a,xs,e,bP.seqT J hs,kD n U J hr⟩
 | .ptr k,v,h=>by
  unfold res
  split
  ·rename_i ds e
   unfold Rep at h ⊢
   obtain⟨a,Y,hk⟩:=h
   obtain⟨_,xs,h1,h2⟩:jo K ca H F θ a (.lst ds):=n.ce k a _ hk e
   exact⟨a,xs,Y,SqL.of h1,h2.mono n.fh ⟨[],by simp⟩⟩
  ·exact h.mono J ⟨[],by simp⟩
 | .obj c ns ds,_,h=>by unfold res;exact h.mono J ⟨[],by simp⟩
 | .exn c,_,h=>by unfold res;exact h.mono J ⟨[],by simp⟩
theorem kD(n:Now K ca H F θ O)(J:bP F G)(U:bP G H):∀{ds:List D} {xs:List V},aA K ca θ G ds xs->aA K ca θ H (bZ O ds) xs
 | [],_,h=>by unfold bZ;exact h
 | d::ds,_,h=>by
  unfold bZ
  unfold aA at h ⊢
  obtain⟨v,r,e,h1,h2⟩:=h
  exact⟨v,r,e,yS n J U h1,kD n J U h2⟩
end
mutual
theorem yd:∀{d:D} {v:V} {p:PyData},Rep K ca θ H d v->toPy d=some p->RdV K H p v
 | .non,_,_,h,e=>by unfold toPy at e;cases e;unfold RdV;exact fN.mp h
 | .bl b,_,_,h,e=>by unfold toPy at e;cases e;unfold RdV;exact cQ.mp h
 | .int b,_,_,h,e=>by unfold toPy at e;cases e;unfold RdV;exact bu.mp h
 | .str b,_,_,h,e=>by unfold toPy at e;cases e;unfold RdV;exact c9.mp h
 | .lst ds,_,_,h,e=>by
  unfold toPy at e
  cases e1:iq ds with
  | none=>rw[e1] at e;cases e
  | some ps=>
   rw[e1] at e
   cases e
   unfold Rep at h
   obtain⟨a,xs,J,hs,hr⟩:=h
   unfold RdV
   exact⟨a,xs,J,hs,wy hr e1⟩
 | .tup ds,_,_,h,e=>by
  unfold toPy at e
  cases e1:iq ds with
  | none=>rw[e1] at e;cases e
  | some ps=>
   rw[e1] at e
   cases e
   unfold Rep at h
   obtain⟨a,xs,J,hs,hr⟩:=h
   unfold RdV
   exact⟨a,xs,J,hs,wy hr e1⟩
 | .ptr _,_,_,_,e=>by unfold toPy at e;cases e
 | .obj _ _ _,_,_,_,e=>by unfold toPy at e;cases e
 | .exn _,_,_,_,e=>by unfold toPy at e;cases e
theorem wy:∀{ds:List D} {xs:List V} {ps:List PyData},aA K ca θ H ds xs->iq ds=some ps->rF K H ps xs
 | [],_,_,h,e=>by unfold iq at e;cases e;unfold rF;unfold aA at h;exact h
 | d::ds,_,_,h,e=>by
  unfold iq at e
  cases e1:toPy d with
  | none=>rw[e1] at e;cases e
  | some p=>
   cases e2:iq ds with
   | none=>rw[e1,e2] at e;cases e
   | some ps=>
    rw[e1,e2] at e
    cases e
    unfold aA at h
    obtain⟨v,r,J,h1,h2⟩:=h
    unfold rF
    exact⟨v,r,J,yd h1 e1,wy h2 e2⟩
end
end
def gv(O:ay)(x y:D):Option Bool:=match toPy (res O (res O x)),toPy (res O (res O y)) with
 | some a,some b=>if SeqAt.shaped a=true/\SeqAt.shaped b=true then some (PyData.eqv a b) else none
 | _,_=>none
def eqB(O:ay)(x y:D):Option Bool:=match x,y with
 | .int i,.int j=>some (decide (i=j))
 | .str i,.str j=>some (decide (i=j))
 | .bl i,.bl j=>some (decide (i=j))
 | .non,.non=>some true
 | x,y=>gv O x y
def eqD:Op2:=λO x y=>match eqB O x y with
 | some b=>.ok (.bl b)
 | none=>.bad
def neD:Op2:=λO x y=>match eqB O x y with
 | some b=>.ok (.bl (!b))
 | none=>.bad
section
variable {X : Cx}
def Mx(K:lm):R2:=λx y H Q=>rEq x y H Q\/L8 K x y H Q
def LL(K:lm):R2:=λx y H Q=>rNe x y H Q\/LZ K x y H Q
theorem kz(hu:X.A.units+64<cLine):OpR X (compareOp .Eq) (Mx X.K):=Nh.or (LU hu)
theorem yE(hu:X.A.units+64<cLine):OpR X (compareOp .NotEq) (LL X.K):=Nt.or (L7 hu)
end
theorem zr{v w:V}{k:Bool}(b:BS C.K C.ca σ H F θ s)(U:Rep C.K C.ca θ F x v)(Y:Rep C.K C.ca θ F y w)(e:gv s.o x y=some k):
 ∃d e,RdV C.K H d v/\RdV C.K H e w/\SeqAt.shaped d=true/\SeqAt.shaped e=true/\PyData.eqv d e=k:=by
 unfold gv at e
 split at e
 ·rename_i a c e1 e2
  split at e
  ·rename_i hs
   cases e
   have J:∀{d:D} {u:V},Rep C.K C.ca θ F d u->Rep C.K C.ca θ H (res s.o (res s.o d)) u:=λh=>yS b.now b.now.fh (bP.refl _) (yS b.now (bP.refl _) b.now.fh h)
   exact⟨a,c,yd (J U) e1,yd (J Y) e2,hs.1,hs.2,rfl⟩
  ·cases e
 ·cases e
theorem iu:gk C (Mx C.K) eqD:=by
 intro σ H F θ s x y v w Q b J U p
 unfold eqD at p
 split at p
 ·rename_i k e
  have q:=λH' (h:H'=H)=>h▸du p b (v:=.bl k) (cQ.mpr rfl)
  have q:=q H rfl
  unfold eqB at e
  split at e
  ·rename_i i j
   cases e
   cases bu.mp J;cases bu.mp U
   exact .inl ⟨rfl,by rw[uM,Pw];exact q⟩
  ·cases e
   cases c9.mp J;cases c9.mp U
   exact .inl ⟨rfl,by rw[uZ,Pw];exact q⟩
  ·cases e
   cases cQ.mp J;cases cQ.mp U
   exact .inl ⟨rfl,by rw[w9,Pw];exact q⟩
  ·cases e
   cases fN.mp J;cases fN.mp U
   exact .inl ⟨rfl,by simpa using q⟩
  ·obtain⟨d,e',h1,h2,Y,h4,h5⟩:=zr b J U e
   exact .inr ⟨d,e',h1,h2,Y,h4,by rw[h5];exact q⟩
 ·exact lc p
theorem uG:gk C (LL C.K) neD:=by
 intro σ H F θ s x y v w Q b J U p
 unfold neD at p
 split at p
 ·rename_i k e
  have q:=du p b (v:=.bl (!k)) (cQ.mpr rfl)
  unfold eqB at e
  split at e
  ·rename_i i j
   cases e
   cases bu.mp J;cases bu.mp U
   exact .inl ⟨rfl,by rw[uM,Pw];exact q⟩
  ·cases e
   cases c9.mp J;cases c9.mp U
   exact .inl ⟨rfl,by rw[uZ,Pw];exact q⟩
  ·cases e
   cases cQ.mp J;cases cQ.mp U
   exact .inl ⟨rfl,by rw[w9,Pw];exact q⟩
  ·cases e
   cases fN.mp J;cases fN.mp U
   exact .inl ⟨rfl,by simpa using q⟩
  ·obtain⟨d,e',h1,h2,Y,h4,h5⟩:=zr b J U e
   exact .inr ⟨d,e',h1,h2,Y,h4,by rw[h5];exact q⟩
 ·exact lc p
def ixD:Op2:=λO x y=>match y with
 | .int i=>match x with
  | .tup ds=>match atI ds i with
   | some d=>.ok d
   | none=>.bad
  | .str z=>if z.length<=16777216 then (match atI z.cps.toList i with
   | some c=>.ok (.str ⟨#[c]⟩)
   | none=>.bad) else .bad
  | x=>match lsD O x with
   | some ds=>match atI ds i with
    | some d=>.ok d
    | none=>.bad
   | none=>.bad
 | _=>.bad
theorem D5{K ca θ F}{i:Int}(r:aA K ca θ F ds xs)(e:atI ds i=some d):∃v,atI xs i=some v/\Rep K ca θ F d v:=by
 unfold atI at e ⊢
 rw[r.length]
 cases q:ixN ds.length i with
 | none=>rw[q] at e;cases e
 | some j=>
  rw[q] at e
  exact r.get e
theorem bT:gk C (rIx C.K) ixD:=by
 intro σ H F θ s x y v w Q b J U p
 unfold ixD at p
 split at p
 ·rename_i i
  split at p
  ·rename_i ds
   obtain⟨a,xs,rfl,hs,hr⟩:=xf b J
   split at p
   ·rename_i d e
    obtain⟨u,e1,Y⟩:=D5 hr e
    exact .inr (.inl ⟨a,xs,i,u,rfl,bu.mp U,hs,e1,du p b Y⟩)
   ·exact lc p
  ·rename_i z
   split at p
   ·rename_i hz
    split at p
    ·rename_i c e
     exact .inr (.inr ⟨z,i,c,c9.mp J,bu.mp U,hz,e,du p b (c9.mpr rfl)⟩)
    ·exact lc p
   ·exact lc p
  ·split at p
   ·rename_i ds e0
    obtain⟨a,xs,rfl,hs,hr⟩:=eM b J e0
    split at p
    ·rename_i d e
     obtain⟨u,e1,Y⟩:=D5 hr e
     exact .inl ⟨a,xs,i,u,rfl,bu.mp U,hs,e1,du p b Y⟩
    ·exact lc p
   ·exact lc p
 ·exact lc p
abbrev OM:=S->Res (Option Int×S)
def RdO(C:Ct)(t:TO)(m:OM):Prop:=∀σ H F θ s Q,BS C.K C.ca σ H F θ s->PoR C H F θ (m s) (λy H1 F1 θ1=>BS C.K C.ca σ H1 F1 θ1 y.2->Q y.1 H1)->t σ H Q
def gc:OM:=λs=>.ok (none,s)
def part(m:EM):OM:=λs=>(m s).bind λx=>match x.1 with
 | .int i=>.ok (some i,x.2)
 | _=>.bad
theorem kI:RdO C D7 gc:=λσ H F θ s Q b p=>p H F θ .refl b
theorem qr(h:RdE C t m):RdO C (JZ t) (part m):=by
 intro σ H F θ s Q b p
 refine h σ H F θ s _ b (PoR.bind p ?_)
 rintro ⟨x,s1⟩ H1 F1 θ1 _ J p1 U v Y
 cases x <;> first | exact lc p1 | skip
 rename_i i _
 exact⟨i,bu.mp Y,p1 _ _ _ .refl U⟩
def cutD(ds:List D)(lo hi:Option Int):List D:=(ds.drop (HT.sIx ds.length 0 lo)).take (HT.sIx ds.length ds.length hi-HT.sIx ds.length 0 lo)
theorem Kc{K ca θ F}{lo hi:Option Int}(r:aA K ca θ F ds xs):aA K ca θ F (cutD ds lo hi) (ya xs lo hi):=by
 unfold cutD ya
 rw[r.length]
 exact(r.drop _).take _
def slM(me:EM)(J U:OM):EM:=λs=>(me s).bind λx=>(J x.2).bind λl=>(U l.2).bind λh=>match lsD h.2.o x.1 with
 | some ds=>.ok (.lst (cutD ds l.1 h.1),h.2)
 | none=>.bad
theorem JL{tl th:TO}{ml mh:OM}(he:RdE C te me)(hl:RdO C tl ml)(hh:RdO C th mh):RdE C (tSl (LM C.K) te tl th) (slM me ml mh):=by
 intro σ H F θ s Q b p
 refine he σ H F θ s _ b (PoR.bind p ?_)
 rintro ⟨x,s1⟩ H1 F1 θ1 _ az p1 b1 v r1
 refine hl σ H1 F1 θ1 s1 _ b1 (PoR.bind p1 ?_)
 rintro ⟨l,s2⟩ H2 F2 θ2 _ J p2 b2
 refine hh σ H2 F2 θ2 s2 _ b2 (PoR.bind p2 ?_)
 rintro ⟨h,s3⟩ H3 F3 θ3 _ U Y b3
 dsimp only at Y ⊢
 split at Y
 ·rename_i ds e
  obtain⟨a,xs,rfl,hs,hr⟩:=eM b3 ((r1.mono J.ff J.pre).mono U.ff U.pre) e
  exact⟨a,xs,rfl,hs,tU (ds:=cutD ds l h) Y b3 (Kc hr)⟩
 ·exact lc Y
def cf:OpN:=λO xs=>match xs with
 | [.str z]=>if z.length<=16777216 then .ok (.int z.length) else .bad
 | [.tup ds]=>.ok (.int ds.length)
 | [x]=>match lsD O x with
  | some ds=>.ok (.int ds.length)
  | none=>.bad
 | _=>.bad
theorem mj{K ca θ F}(h:aA K ca θ F [x] vs):∃v,vs=[v]/\Rep K ca θ F x v:=by
 unfold aA at h
 obtain⟨v,r,rfl,h1,h2⟩:=h
 unfold aA at h2
 rw[h2]
 exact⟨v,rfl,h1⟩
theorem JW{K ca θ F}(h:aA K ca θ F [x,y] vs):∃v w,vs=[v,w]/\Rep K ca θ F x v/\Rep K ca θ F y w:=by
 unfold aA at h
 obtain⟨v,r,rfl,h1,h2⟩:=h
 obtain⟨w,rfl,J⟩:=mj h2
 exact⟨v,w,rfl,h1,J⟩
theorem d7:j7 C (λxs H Q=>∃x n,xs=[x]/\LA C.K x H n/\Q (.int n) H) cf:=by
 intro σ H F θ s xs vs Q b r p
 unfold cf at p
 split at p
 ·rename_i z
  obtain⟨v,rfl,J⟩:=mj r
  cases c9.mp J
  split at p
  ·rename_i hz
   exact⟨.str z,z.length,rfl,⟨hz,rfl⟩,du p b (bu.mpr rfl)⟩
  ·exact lc p
 ·rename_i ds
  obtain⟨v,rfl,J⟩:=mj r
  obtain⟨a,xs,rfl,hs,hr⟩:=xf b J
  exact⟨.ref a,ds.length,rfl,.inr ⟨xs,hs,by rw[hr.length]⟩,du p b (bu.mpr rfl)⟩
 ·rename_i x _ _
  obtain⟨v,rfl,J⟩:=mj r
  split at p
  ·rename_i ds e
   obtain⟨a,xs,rfl,hs,hr⟩:=eM b J e
   exact⟨.ref a,ds.length,rfl,.inl ⟨xs,hs,by rw[hr.length]⟩,du p b (bu.mpr rfl)⟩
  ·exact lc p
 ·exact lc p
def kj:OpN:=λO xs=>match xs with
 | [.tup ds]=>.ok (.lst ds)
 | [x]=>match lsD O x with
  | some ds=>.ok (.lst ds)
  | none=>.bad
 | _=>.bad
theorem oQ:j7 C (λxs H Q=>∃p ys,xs=[.ref p]/\(SqL C.K H p ys\/SqT C.K H p ys)/\∀l,H l=none->Q (.ref l) (upd H l (.lst ys))) kj:=by
 intro σ H F θ s xs vs Q b r p
 unfold kj at p
 split at p
 ·rename_i ds
  obtain⟨v,rfl,J⟩:=mj r
  obtain⟨a,xs,rfl,hs,hr⟩:=xf b J
  exact⟨a,xs,rfl,.inr hs,tU p b hr⟩
 ·obtain⟨v,rfl,J⟩:=mj r
  split at p
  ·rename_i ds e
   obtain⟨a,xs,rfl,hs,hr⟩:=eM b J e
   exact⟨a,xs,rfl,.inl hs,tU p b hr⟩
  ·exact lc p
 ·exact lc p
def vX:OpN:=λ_ xs=>match xs with
 | [.int i]=>.ok (.int (if i<0 then -i else i))
 | _=>.bad
theorem Gx:j7 C (λxs H Q=>∃i,xs=[.int i]/\Q (.int (if i<0 then -i else i)) H) vX:=by
 intro σ H F θ s xs vs Q b r p
 unfold vX at p
 split at p
 ·rename_i i
  exact⟨i,nG r,du p b (bu.mpr rfl)⟩
 ·exact lc p
def intOf:OpN:=λ_ xs=>match xs with
 | [.int i]=>.ok (.int i)
 | [.bl k]=>.ok (.int (if k then 1 else 0))
 | _=>.bad
theorem wR:j7 C (λxs H Q=>(∃i,xs=[.int i]/\Q (.int i) H)\/∃k,xs=[.bl k]/\Q (.int (if k then 1 else 0)) H) intOf:=by
 intro σ H F θ s xs vs Q b r p
 unfold intOf at p
 split at p
 ·rename_i i
  exact .inl ⟨i,nG r,du p b (bu.mpr rfl)⟩
 ·rename_i k
  obtain⟨v,rfl,J⟩:=mj r
  cases cQ.mp J
  exact .inr ⟨k,rfl,du p b (bu.mpr rfl)⟩
 ·exact lc p
def tyD(O:ay):D->Option String
 | .non=>some "NoneType"
 | .bl _=>some "bool"
 | .int _=>some "int"
 | .str _=>some "str"
 | .lst _=>some "list"
 | .tup _=>some "tuple"
 | .ptr k=>match O[k]? with
  | some (.lst _)=>some "list"
  | _=>none
 | .obj _ _ _=>none
 | .exn _=>none
def fF(t c:String):Bool:=t == c||(t == "bool" &&c == "int")
def lN(c:String):Op1:=λO x=>match tyD O x with
 | some t=>.ok (.bl (fF t c))
 | none=>.bad
def uQ(c:String):Prop:=∀K:lm,∀t∈["NoneType","bool","int","str","list","tuple"],Sn K (.type t) (.type c)=some (fF t c)
theorem ty_int:uQ "int" :=by
 intro K t J
 simp only[sn,Rn,or_false] at J
 rcases J with rfl | rfl | rfl | rfl | rfl | rfl <;> rfl
theorem ty_bool:uQ "bool" :=by
 intro K t J
 simp only[sn,Rn,or_false] at J
 rcases J with rfl | rfl | rfl | rfl | rfl | rfl <;> rfl
theorem ty_list:uQ "list" :=by
 intro K t J
 simp only[sn,Rn,or_false] at J
 rcases J with rfl | rfl | rfl | rfl | rfl | rfl <;> rfl
theorem BG{c:String}(hc:uQ c)(h:RdE C te m):RdE C (tCB (Jl C.K) (jT te (jT (tC (.ty c)) mX))) (unM (lN c) m):=by
 intro σ H F θ s Q b p
 refine h σ H F θ s _ b (PoR.bind p ?_)
 rintro ⟨x,s1⟩ H1 F1 θ1 _ Y p1 U v J
 dsimp only at p1 U J
 show Jl C.K [v,.ty c] H1 Q
 unfold lN at p1
 split at p1
 ·rename_i t e
  have q:=du p1 U (v:=.bl (fF t c)) (cQ.mpr rfl)
  refine⟨v,c,t,fF t c,rfl, ?_, ?_,q⟩
  ·cases x <;> first | (unfold tyD at e;cases e;done) | skip
   ·unfold tyD at e;cases e;rw[fN.mp J];rfl
   ·unfold tyD at e;cases e;rw[cQ.mp J];rfl
   ·unfold tyD at e;cases e;rw[bu.mp J];rfl
   ·unfold tyD at e;cases e;rw[c9.mp J];rfl
   ·unfold tyD at e;cases e
    unfold Rep at J
    obtain⟨a,xs,rfl,hs,hr⟩:=J
    exact .inl ⟨rfl,xs,U.now.fh.seq hs⟩
   ·unfold tyD at e;cases e
    unfold Rep at J
    obtain⟨a,xs,rfl,hs,hr⟩:=J
    exact .inr ⟨rfl,xs,bP.seqT U.now.fh hs⟩
   ·rename_i k _
    unfold tyD at e
    dsimp only at e
    split at e
    ·rename_i ds ek
     cases e
     obtain⟨a,xs,rfl,hs,hr⟩:=eM U J (ds:=ds) (by unfold lsD;simp only[ek])
     exact .inl ⟨rfl,xs,hs⟩
    ·cases e
  ·refine hc C.K t ?_
   cases x <;> unfold tyD at e <;> dsimp only at e <;> first | (cases e;simp;done) | (cases e;done) | skip
   split at e
   ·cases e;simp
   ·cases e
 ·exact lc p1
theorem qy{α:Type}{l:List α}(h:l.Nodup){i j:Nat}{x:α}(a:l[i]? =some x)(b:l[j]? =some x):i=j:=by
 obtain⟨h1,e1⟩:=t3.mp a
 obtain⟨h2,e2⟩:=t3.mp b
 exact(R4 h).mp (e1.trans e2.symm)
theorem BS.setC(b:BS K ca σ H F θ s){c:Cell}(hk:θ[k]? =some a)(hc:s.o[k]? =some c)(hF:F a=none)(hr:aA K ca θ F ds xs):
 Stp H F θ (upd H a (.lst xs)) F θ/\BS K ca σ (upd H a (.lst xs)) F θ ⟨s.r,s.o.set k (.lst ds)⟩:=by
 have hm:a∈θ:=x0 hk
 refine⟨⟨bP.refl _,⟨[],by simp,by simp⟩,λe o J hb=> ?_,λe o J=> ?_,λe o J=>.inl J⟩,⟨⟨λe o J=> ?_,b.now.nd,by simpa using b.now.ln,λj a' c' e1 e2=> ?_⟩,b.len,b.sl⟩⟩
 ·have ne:e≠a:=λz=>hb (by rw[z];exact hm)
  rw[aT ne];exact J
 ·by_cases z:e=a
  ·subst z;exact⟨_,cO⟩
  ·exact⟨o,by rw[aT z];exact J⟩
 ·have ne:e≠a:=λz=>by rw[z,hF] at J;cases J
  rw[aT ne]
  exact b.now.fh _ _ J
 ·by_cases U:k=j
  ·subst U
   rw[hk] at e1;cases e1
   have:k<s.o.length:=(t3.mp hc).1
   rw[EX this] at e2
   cases e2
   exact⟨hF,xs,cO,hr⟩
  ·rw[Gc U] at e2
   have q:=b.now.ce j a' c' e1 e2
   have ne:a'≠a:=λz=>by
    subst z
    exact U (qy b.now.nd hk e1)
   cases c' with
   | dead=>obtain⟨o,ho⟩:=q;exact⟨o,by rw[aT ne];exact ho⟩
   | lst ds=>obtain⟨q1,ys,q2,Y⟩:=q;exact⟨q1,ys,by rw[aT ne];exact q2,Y⟩
   | ins c ns ds=>obtain⟨q1,dx,ys,q2,Y⟩:=q;exact⟨q1,dx,ys,by rw[aT ne];exact q2,Y⟩
theorem iU(b:BS C.K C.ca σ H F θ s)(r:Rep C.K C.ca θ F (.ptr k) v)(e:s.o[k]? =some (.lst ds)):
 ∃a xs,v=.ref a/\θ[k]? =some a/\F a=none/\H a=some (.lst xs)/\aA C.K C.ca θ F ds xs:=by
 unfold Rep at r
 obtain⟨a,rfl,hk⟩:=r
 obtain⟨h0,xs,h1,h2⟩:jo C.K C.ca H F θ a (.lst ds):=b.now.ce k a _ hk e
 exact⟨a,xs,rfl,hk,h0,h1,h2⟩
def fT(O:ay):D->Option (Nat×List D)
 | .ptr k=>match O[k]? with
  | some (.lst ds)=>some (k,ds)
  | _=>none
 | _=>none
theorem kR(h:fT O d=some (k,ds)):d=.ptr k/\O[k]? =some (.lst ds):=by
 cases d <;> first | (simp[fT] at h;done) | skip
 rename_i j
 unfold fT at h
 dsimp only at h
 split at h
 ·rename_i es e
  cases h
  exact⟨rfl,e⟩
 ·cases h
def gr(mo me:EM):EM:=λs=>(mo s).bind λx=>match fT x.2.o x.1 with
 | some _=>(me x.2).bind λy=>match fT y.2.o x.1 with
  | some (k,ds)=>if ds.length<16777216 then .ok (.non,⟨y.2.r,y.2.o.set k (.lst (ds++[y.1]))⟩) else .bad
  | none=>.bad
 | none=>.bad
theorem g5(ho:RdE C to mo)(he:RdE C te me):RdE C (tBM C.K "list" DP to (jT te mX)) (gr mo me):=by
 intro σ H F θ s Q b p
 refine ho σ H F θ s _ b (PoR.bind p ?_)
 rintro ⟨x,s1⟩ H1 F1 θ1 _ a1 p1 U v Y
 dsimp only at p1 U Y
 split at p1
 ·rename_i kd e
  obtain⟨rfl,e'⟩:=kR (k:=kd.1) (ds:=kd.2) e
  obtain⟨a,xs,rfl,hk,_,h1,_⟩:=iU U Y e'
  refine⟨.inl ⟨rfl,xs,SqL.of h1⟩,he σ H1 F1 θ1 s1 _ U (PoR.bind p1 ?_)⟩
  rintro ⟨y,s2⟩ H2 F2 θ2 _ J p2 b2 w r2
  dsimp only at p2 b2 r2
  split at p2
  ·rename_i k ds e2
   obtain⟨ek,e2⟩:=kR e2
   cases ek
   obtain⟨a',ys,ea,ac,hF,h2,hr⟩:=iU b2 (Y.mono J.ff J.pre) e2
   cases ea
   split at p2
   ·rename_i hl
    obtain⟨am,b3⟩:=b2.setC ac e2 hF (hr.append (aA.one r2))
    exact⟨a,ys,w,rfl,rfl,h2,by rw[hr.length];exact hl,p2 _ _ _ am b3 _ (fN.mpr rfl)⟩
   ·exact lc p2
  ·exact lc p2
 ·exact lc p1
def vY(mo J:EM):GM:=λd s=>(mo s).bind λx=>(J x.2).bind λy=>match y.1 with
 | .int i=>match fT y.2.o x.1 with
  | some (k,ds)=>match ixN ds.length i with
   | some j=>.ok ⟨y.2.r,y.2.o.set k (.lst (ds.set j d))⟩
   | none=>.bad
  | none=>.bad
 | _=>.bad
theorem FV{to ti:TE}{mo mi:EM}(ho:RdE C to mo)(hi:RdE C ti mi):RdG C (Mq to ti J0) (vY mo mi):=by
 intro σ H F θ s d v Q b rd p
 refine ho σ H F θ s _ b (PoR.bind p ?_)
 rintro ⟨x,s1⟩ H1 F1 θ1 _ U p1 b1 ov r1
 refine hi σ H1 F1 θ1 s1 _ b1 (PoR.bind p1 ?_)
 rintro ⟨y,s2⟩ H2 F2 θ2 _ J p2 Y iv r2
 dsimp only at p2 Y r2
 split at p2
 ·rename_i i _
  split at p2
  ·rename_i k ds e
   obtain⟨ek,e'⟩:=kR e
   subst ek
   obtain⟨a,xs,rfl,hk,hF,h1,h2⟩:=iU Y (r1.mono J.ff J.pre) e'
   split at p2
   ·rename_i j ej
    obtain⟨ab,b3⟩:=Y.setC hk e' hF (aA.set ((rd.mono U.ff U.pre).mono J.ff J.pre) j h2)
    exact⟨a,xs,i,j,rfl,bu.mp r2,h1,by rw[h2.length];exact ej,p2 _ _ _ ab _ b3⟩
   ·exact lc p2
  ·exact lc p2
 ·exact lc p2
theorem BS.frz(b:BS K ca σ H F θ s)(hk:θ[k]? =some a)(hc:s.o[k]? =some (.lst ds))(hF:F a=none)(hH:H a=some (.lst xs))(hr:aA K ca θ F ds xs):
 Stp H F θ H (upd F a (.lst xs)) θ/\BS K ca σ H (upd F a (.lst xs)) θ ⟨s.r,s.o.set k .dead⟩/\Rep K ca θ (upd F a (.lst xs)) (.lst ds) (.ref a):=by
 have hm:a∈θ:=x0 hk
 have U:bP F (upd F a (.lst xs)):=λe o J=>by
  rw[aT (λz=>by rw[z,hF] at J;cases J)];exact J
 refine⟨⟨U,⟨[],by simp,by simp⟩,λe o J _=>J,λe o J=>⟨o,J⟩,λe o J=> ?_⟩,⟨⟨λe o J=> ?_,b.now.nd,by simpa using b.now.ln,λj a' c' e1 e2=> ?_⟩,b.len,λi d e=> ?_⟩, ?_⟩
 ·by_cases z:e=a
  ·exact .inr (.inr (by rw[z];exact hm))
  ·rw[aT z] at J;exact .inl J
 ·by_cases z:e=a
  ·subst z;rw[cO] at J;rw[hH];exact J
  ·rw[aT z] at J;exact b.now.fh _ _ J
 ·by_cases Y:k=j
  ·subst Y
   rw[hk] at e1;cases e1
   have:k<s.o.length:=(t3.mp hc).1
   rw[EX this] at e2
   cases e2
   exact⟨_,hH⟩
  ·rw[Gc Y] at e2
   have q:=b.now.ce j a' c' e1 e2
   have ne:a'≠a:=λz=>by
    subst z
    exact Y (qy b.now.nd hk e1)
   cases c' with
   | dead=>exact q
   | lst ds=>obtain⟨q1,ys,q2,q3⟩:=q;exact⟨by rw[aT ne];exact q1,ys,q2,q3.mono U ⟨[],by simp⟩⟩
   | ins c ns ds=>obtain⟨q1,dx,ys,q2,q3,q4⟩:=q;exact⟨by rw[aT ne];exact q1,dx,ys,q2,q3,q4.mono U ⟨[],by simp⟩⟩
 ·obtain⟨v,h1,h2⟩:=b.sl i d e
  exact⟨v,h1,h2.mono U ⟨[],by simp⟩⟩
 ·unfold Rep
  exact⟨a,xs,rfl,SqL.of cO,hr.mono U ⟨[],by simp⟩⟩
def hU(m:EM):EM:=λs=>(m s).bind λx=>match fT x.2.o x.1 with
 | some (k,ds)=>.ok (.lst ds,⟨x.2.r,x.2.o.set k .dead⟩)
 | none=>.bad
theorem jm(h:RdE C t m):RdE C t (hU m):=by
 intro σ H F θ s Q b p
 refine h σ H F θ s _ b (PoR.bind p ?_)
 rintro ⟨x,s1⟩ H1 F1 θ1 _ ab p1 J v Y
 dsimp only at p1 J Y
 split at p1
 ·rename_i k ds e
  obtain⟨rfl,e'⟩:=kR e
  obtain⟨a,xs,rfl,hk,hF,h1,h2⟩:=iU J Y e'
  obtain⟨U,b2,r2⟩:=J.frz hk e' hF h1 h2
  exact p1 _ _ _ U b2 _ r2
 ·exact lc p1
def lL(m:Nat)(caps:List Nat)(r:List (Option D)):List (Option D):=pr m none++caps.map λi=>(r[i]?).getD none
theorem Hf(b:BS K ca σ H F θ s)(m:Nat)(caps:List Nat):BS K ca (nv m caps σ) H F θ ⟨lL m caps s.r,s.o⟩:=by
 refine⟨b.now,by unfold nv lL;simp,λi d e=> ?_⟩
 unfold lL at e
 dsimp only at e
 by_cases hi:i<m
 ·rw[tt (by simpa using hi),wE] at e
  split at e <;> cases e
 ·rw[re (by simpa using hi)] at e
  simp only[Qi,sI] at e
  cases q:caps[i-m]? with
  | none=>rw[q] at e;cases e
  | some j=>
   rw[q] at e
   simp only[IH,RZ] at e
   have e':s.r[j]? =some (some d):=by
    cases z:s.r[j]? with
    | none=>rw[z] at e;simp at e
    | some J=>rw[z] at e;simp at e;rw[e]
   obtain⟨v,h1,h2⟩:=b.sl j d e'
   refine⟨v, ?_,h2⟩
   unfold nv
   rw[re (by simpa using hi)]
   simp only[Qi,sI,q,IH,h1,Ri]
def bF:TM:=λs=>.ok (true,s)
theorem bR:RdT C JO bF:=λσ H F θ s Q b p=>p H F θ .refl b
open Classical in
noncomputable def dv (ok:ay->Prop)(g:GM)(c:TM)(e:EM):List D->List D->S->Res (List D×S)
 | [],acc,s=>if ok s.o then .ok (acc,s) else .bad
 | d::ds,acc,s=>if ok s.o/\acc.length<16777216 then (g d s).bind λs1=>(c s1).bind λx=>if x.1 then (e x.2).bind λy=>dv ok g c e ds (acc++[y.1]) y.2 else dv ok g c e ds acc x.2 else .bad
noncomputable def lZ (m:Nat)(caps:List Nat)(im:IM)(g:GM)(c:TM)(e:EM):S->Res (List D×S):=λs=>(im s).bind λy=>
 (dv (okC y.1.1 y.1.2) g c e y.1.1 [] ⟨lL m caps y.2.r,y.2.o⟩).bind λz=>.ok (z.1,⟨y.2.r,z.2.o⟩)
theorem B0 {m:Nat} {caps:List Nat} {c:TM} (hi:RdI C wi im) (hg:RdG C g gm) (hc:RdT C tc c) (he:RdE C te e)
 {σ:L2.St} {H F:Hp} {θ:List Addr} {s:S} {Q:VK} (b:BS C.K C.ca σ H F θ s)
 (p:PoR C H F θ (lZ m caps im gm c e s) λy H1 F1 θ1=>BS C.K C.ca σ H1 F1 θ1 y.2->∀q xs,H q=none->H1 q=some (.lst xs)->F1 q=none->q∉θ1->aA C.K C.ca θ1 F1 y.1 xs->Q (.ref q) H1):qQ m caps wi g tc te σ H Q:=by
 refine hi σ H F θ s _ b (PoR.bind p ?_)
 rintro ⟨⟨ds,k⟩,s1⟩ H1 F1 θ1 _ b8 p1 b1 J it q hq
 dsimp only at p1 b1 it
 have b9:Stp H1 F1 θ1 (upd H1 q (.lst [])) F1 θ1:=by
  have nm:∀a u,H1 a=some u->a≠q:=λa u e z=>by rw[z,hq] at e;cases e
  exact⟨bP.refl _,⟨[],by simp,by simp⟩,λa u h _=>by rw[aT (nm a u h)];exact h,λa u h=>⟨u,by rw[aT (nm a u h)];exact h⟩,λa u h=>.inl h⟩
 have qθ:q∉θ1:=λh=>by obtain⟨u,hu⟩:=b1.now.there h;rw[hq] at hu;cases hu
 have qF:F1 q=none:=by
  cases e:F1 q with
  | none=>rfl
  | some u=>rw[b1.now.fh q u e] at hq;cases hq
 have cc:H q=none:=by
  cases e:H q with
  | none=>rfl
  | some u=>obtain⟨u',e'⟩:=b8.al q u e;rw[hq] at e';cases e'
 have keep:∀{H2 F2 H3 F3:Hp} {θ2 θ3:List Addr} {o:HO},Stp H2 F2 θ2 H3 F3 θ3->H2 q=some o->F2 q=none->q∉θ2->H3 q=some o/\F3 q=none/\q∉θ3:=λ{H2 F2 H3 F3 θ2 θ3 o} st h1 h2 h3=>by
  refine⟨st.kp q o h1 h3, ?_, ?_⟩
  ·cases e:F3 q with
   | none=>rfl
   | some u=>
    rcases st.nf q u e with z | z | z
    ·rw[h2] at z;cases z
    ·rw[h1] at z;cases z
    ·exact absurd z h3
  ·obtain⟨r,rfl,hr⟩:=st.th
   intro hm
   rcases sE.mp hm with z | z
   ·exact h3 z
   ·rw[hr q z] at h1;cases h1
 have bw:∀{σ':L2.St} {H2 F2:Hp} {θ2:List Addr} {s2:S} (o:HO),BS C.K C.ca σ' H2 F2 θ2 s2->F2 q=none->q∉θ2->BS C.K C.ca σ' (upd H2 q o) F2 θ2 s2:=λ{σ' H2 F2 θ2 s2} o b h1 h2=>by
  have ne:∀a,a∈θ2->a≠q:=λa h z=>h2 (z▸h)
  refine⟨⟨λa u h=> ?_,b.now.nd,b.now.ln,λj a c e1 e2=> ?_⟩,b.len,b.sl⟩
  ·have:a≠q:=λz=>by rw[z,h1] at h;cases h
   rw[aT this];exact b.now.fh a u h
  ·have hm:=ne a (x0 e1)
   have w:=b.now.ce j a c e1 e2
   cases c with
   | dead=>obtain⟨u,hu⟩:=w;exact⟨u,by rw[aT hm];exact hu⟩
   | lst ds=>obtain⟨q1,ys,q2,q3⟩:=w;exact⟨q1,ys,by rw[aT hm];exact q2,q3⟩
   | ins c ns ds=>obtain⟨q1,dx,ys,q2,q3,q4⟩:=w;exact⟨q1,dx,ys,by rw[aT hm];exact q2,q3,q4⟩
 have cn:∀{H2 F2:Hp} {θ2:List Addr} (o:HO),Stp H1 F1 θ1 H2 F2 θ2->Stp H1 F1 θ1 (upd H2 q o) F2 θ2:=λ{H2 F2 θ2} o st=>by
  have nm:∀a u,H1 a=some u->a≠q:=λa u e z=>by rw[z,hq] at e;cases e
  exact⟨st.ff,st.th,λa u h1 h2=>by rw[aT (nm a u h1)];exact st.kp a u h1 h2,λa u h1=>by rw[aT (nm a u h1)];exact st.al a u h1,st.nf⟩
 refine⟨λi n U σ' H'=>n=ds.length-i/\i<=ds.length/\∃F' θ' s' as,Stp H1 F1 θ1 H' F' θ'/\H' q=some (.lst U)/\F' q=none/\q∉θ'/\BS C.K C.ca σ' H' F' θ' s'/\aA C.K C.ca θ' F' as U/\
  PoR C H1 F1 θ1 ((dv (okC ds k) gm c e (ds.drop i) as s').bind λz=>.ok (z.1,(⟨s1.r,z.2.o⟩:S))) (λy H1 F1 θ1=>BS C.K C.ca σ H1 F1 θ1 y.2->∀q xs,H q=none->H1 q=some (.lst xs)->F1 q=none->q∉θ1->aA C.K C.ca θ1 F1 y.1 xs->Q (.ref q) H1),
  ⟨ds.length,by simp,Bs _,F1,θ1,⟨lL m caps s1.r,s1.o⟩,[],b9,cO,qF,qθ,bw _ (Hf b1 m caps) qF qθ,aA.nil,by simpa using p1⟩, ?_⟩
 rintro i n U σ' H' ⟨rfl,db,F',θ',s',as,st,hq',bz,b2,bs,a5,Y⟩
 by_cases lt:i<ds.length
 ·right
  rw[Ch lt,dv] at Y
  split at Y
  ·rename_i a6
   refine⟨it.go i H' F' θ' s'.o lt st bs.now a6.1, ?_⟩
   intro x H3 hy
   obtain⟨F3,a8,b3,rp⟩:=it.yl i ds[i] σ' H' F' θ' s' x H3 (na lt) st bs a6.1 hy
   obtain⟨k1,k2,k3⟩:=keep a8 hq' bz b2
   have am:=st.trans a8
   have a9:=PoR.after am Y
   have w1:PoG C H3 F3 θ' (gm ds[i] s') (λσ4 H4=>tc σ4 H4 λb H4=>if b=true then
    te σ4 H4 λy H5=>H5 q=some (.lst U)/\U.length<sizeLine/\∃k',k'<ds.length-i/\(k'=ds.length-(i+1)/\i+1<=ds.length/\∃F' θ' s' as,Stp H1 F1 θ1 (upd H5 q (.lst (U++[y]))) F' θ'/\(upd H5 q (.lst (U++[y]))) q=some (.lst (U++[y]))/\F' q=none/\q∉θ'/\BS C.K C.ca σ4 (upd H5 q (.lst (U++[y]))) F' θ' s'/\aA C.K C.ca θ' F' as (U++[y])/\
     PoR C H1 F1 θ1 ((dv (okC ds k) gm c e (ds.drop (i+1)) as s').bind λz=>.ok (z.1,(⟨s1.r,z.2.o⟩:S))) (λy H1 F1 θ1=>BS C.K C.ca σ H1 F1 θ1 y.2->∀q xs,H q=none->H1 q=some (.lst xs)->F1 q=none->q∉θ1->aA C.K C.ca θ1 F1 y.1 xs->Q (.ref q) H1))
    else ∃k',k'<ds.length-i/\(k'=ds.length-(i+1)/\i+1<=ds.length/\∃F' θ' s' as,Stp H1 F1 θ1 H4 F' θ'/\H4 q=some (.lst U)/\F' q=none/\q∉θ'/\BS C.K C.ca σ4 H4 F' θ' s'/\aA C.K C.ca θ' F' as U/\
     PoR C H1 F1 θ1 ((dv (okC ds k) gm c e (ds.drop (i+1)) as s').bind λz=>.ok (z.1,(⟨s1.r,z.2.o⟩:S))) (λy H1 F1 θ1=>BS C.K C.ca σ H1 F1 θ1 y.2->∀q xs,H q=none->H1 q=some (.lst xs)->F1 q=none->q∉θ1->aA C.K C.ca θ1 F1 y.1 xs->Q (.ref q) H1))):=by
    cases e1:gm ds[i] s' with
    | bad=>rw[e1] at a9;exact a9
    | exc a1 a2 a3=>rw[e1] at a9;exact a9
    | ok s4=>
     rw[e1] at Y
     intro H4 F4 θ4 an σ4 b4
     obtain⟨l1,l2,l3⟩:=keep an k1 k2 k3
     refine hc σ4 H4 F4 θ4 s4 _ b4 ?_
     cases e2:c s4 with
     | bad=>rw[aj,e2] at Y;exact Y
     | exc a1 a2 a3=>rw[aj,e2] at Y;exact PoR.after (am.trans an) Y
     | ok x5=>
      obtain⟨kk,s5⟩:=x5
      rw[aj,e2,aj] at Y
      intro H5 F5 θ5 ap b5
      obtain⟨m1,m2,m3⟩:=keep ap l1 l2 l3
      have a7:=((a5.mono a8.ff a8.pre).mono an.ff an.pre).mono ap.ff ap.pre
      cases kk with
      | false=>
       exact tD ⟨ds.length-(i+1),by omega,rfl,by omega,F5,θ5,s5,as,am.trans (an.trans ap),m1,m2,m3,b5,a7,by simpa using Y⟩
      | true=>
       refine t6 (he σ4 H5 F5 θ5 s5 _ b5 ?_)
       dsimp only[if_true] at Y
       cases e3:e s5 with
       | bad=>rw[e3] at Y;exact Y
       | exc a1 a2 a3=>rw[e3] at Y;exact PoR.after (am.trans (an.trans ap)) Y
       | ok x6=>
        obtain⟨y,s6⟩:=x6
        rw[e3,aj] at Y
        intro H6 F6 θ6 bb b6 w r6
        obtain⟨n1,n2,n3⟩:=keep bb m1 m2 m3
        exact⟨n1,by rw[a5.length];exact a6.2,ds.length-(i+1),by omega,rfl,by omega,F6,θ6,s6,as++[y],cn _ (am.trans (an.trans (ap.trans bb))),cO,n2,n3,bw _ b6 n2 n3,(a7.mono bb.ff bb.pre).append (aA.one r6),Y⟩
   exact hg σ' H3 F3 θ' s' ds[i] x _ b3 rp w1
  ·exact lc Y
 ·left
  rw[Qe (by omega),dv] at Y
  split at Y
  ·rename_i a6
   refine⟨it.st i H' F' θ' s'.o (by omega) st bs.now a6,hq', ?_⟩
   refine Y H' F' θ' st ⟨bs.now,b1.len,λj d e=> ?_⟩ q U cc hq' bz b2 a5
   obtain⟨v,h1,h2⟩:=b1.sl j d e
   exact⟨v,h1,h2.mono st.ff st.pre⟩
  ·exact lc Y
noncomputable def bD (m:Nat)(caps:List Nat)(im:IM)(g:GM)(c:TM)(e:EM):EM:=λs=>(lZ m caps im g c e s).bind λy=>.ok (.lst y.1,y.2)
theorem bQ{m:Nat}{c:TM}(hi:RdI C wi im)(hg:RdG C g gm)(hc:RdT C tc c)(he:RdE C te e):RdE C (qQ m caps wi g tc te) (bD m caps im gm c e):=by
 intro σ H F θ s Q b p
 refine B0 hi hg hc he b ?_
 unfold bD at p
 cases e1:lZ m caps im gm c e s with
 | bad=>rw[e1] at p;exact p
 | exc a1 a2 a3=>rw[e1] at p;exact p
 | ok y=>
  rw[e1,aj] at p
  intro H1 F1 θ1 J U q xs h0 h1 h2 h3 hr
  have Y:bP F1 (upd F1 q (.lst xs)):=λa u h=>by
   rw[aT (λz=>by rw[z,h2] at h;cases h)];exact h
  refine p H1 (upd F1 q (.lst xs)) θ1 ⟨J.ff.trans Y,J.th,J.kp,J.al,λa u h=> ?_⟩ ⟨⟨λa u h=> ?_,U.now.nd,U.now.ln,λj a c e2 e3=> ?_⟩,U.len,λi d e2=> ?_⟩ (.ref q) ?_
  ·by_cases z:a=q
   ·subst z;exact .inr (.inl h0)
   ·rw[aT z] at h;exact J.nf a u h
  ·by_cases z:a=q
   ·subst z;rw[cO] at h;rw[h1];exact h
   ·rw[aT z] at h;exact U.now.fh a u h
  ·have ne:a≠q:=λz=>h3 (z▸x0 e2)
   have w:=U.now.ce j a c e2 e3
   cases c with
   | dead=>exact w
   | lst ds=>obtain⟨q1,ys,q2,q3⟩:=w;exact⟨by rw[aT ne];exact q1,ys,q2,q3.mono Y ⟨[],by simp⟩⟩
   | ins c ns ds=>obtain⟨q1,dx,ys,q2,q3,q4⟩:=w;exact⟨by rw[aT ne];exact q1,dx,ys,q2,q3,q4.mono Y ⟨[],by simp⟩⟩
  ·obtain⟨v,w1,w2⟩:=U.sl i d e2
   exact⟨v,w1,w2.mono Y ⟨[],by simp⟩⟩
  ·unfold Rep
   exact⟨q,xs,rfl,SqL.of cO,hr.mono Y ⟨[],by simp⟩⟩
noncomputable def kh (m:Nat)(caps:List Nat)(im:IM)(g:GM)(c:TM)(e:EM):EM:=λs=>(lZ m caps im g c e s).bind λy=>.ok (.ptr y.2.o.length,⟨y.2.r,y.2.o++[.lst y.1]⟩)
theorem kv{m:Nat}{c:TM}(hi:RdI C wi im)(hg:RdG C g gm)(hc:RdT C tc c)(he:RdE C te e):RdE C (qQ m caps wi g tc te) (kh m caps im gm c e):=by
 intro σ H F θ s Q b p
 refine B0 hi hg hc he b ?_
 unfold kh at p
 cases e1:lZ m caps im gm c e s with
 | bad=>rw[e1] at p;exact p
 | exc a1 a2 a3=>rw[e1] at p;exact p
 | ok y=>
  rw[e1,aj] at p
  intro H1 F1 θ1 J U q xs h0 h1 h2 h3 hr
  obtain⟨r,er,Y⟩:=J.th
  refine p H1 F1 (θ1++[q]) ⟨J.ff,⟨r++[q],by rw[er,Ix],λa ha=> ?_⟩,J.kp,J.al,J.nf⟩ ⟨⟨U.now.fh, ?_,by simp[U.now.ln],λk a c e2 e3=> ?_⟩,U.len,λi d e2=> ?_⟩ (.ref q) ?_
  ·rcases sE.mp ha with z | z
   ·exact Y a z
   ·rw[sB.mp z];exact h0
  ·refine PZ.mpr ⟨U.now.nd,by simp,λa ha x hx=> ?_⟩
   rw[sB.mp hx]
   rintro rfl
   exact h3 ha
  ·by_cases hk:k<θ1.length
   ·rw[tt hk] at e2
    dsimp only at e3
    rw[tt (by rw[<- U.now.ln];exact hk)] at e3
    have w:=U.now.ce k a c e2 e3
    cases c with
    | dead=>exact w
    | lst ds=>obtain⟨q1,ys,q2,q3⟩:=w;exact⟨q1,ys,q2,q3.mono (bP.refl _) ⟨[q],rfl⟩⟩
    | ins c ns ds=>obtain⟨q1,dx,ys,q2,q3,q4⟩:=w;exact⟨q1,dx,ys,q2,q3,q4.mono (bP.refl _) ⟨[q],rfl⟩⟩
   ·have ac:k<(θ1++[q]).length:=(t3.mp e2).1
    have am:k=θ1.length:=by simp at ac;omega
    subst am
    rw[re (qh _)] at e2
    dsimp only at e3
    rw[re (by rw[U.now.ln];exact qh _),U.now.ln] at e3
    simp at e2 e3
    subst e2;subst e3
    exact⟨h2,xs,h1,hr.mono (bP.refl _) ⟨[q],rfl⟩⟩
  ·obtain⟨v,w1,w2⟩:=U.sl i d e2
   exact⟨v,w1,w2.mono (bP.refl _) ⟨[q],rfl⟩⟩
  ·unfold Rep
   exact⟨q,rfl,by rw[<- U.now.ln];simp⟩
end
section
variable {C : Ct}
theorem t9(p:PoE C σ H F θ (.ok (.ptr s.o.length,(⟨s.r,s.o++[.lst ds]⟩:S))) Q)(b:BS C.K C.ca σ H F θ s)(r:aA C.K C.ca θ F ds xs):
 ∀q,H q=none->Q (.ref q) (upd H q (.lst xs)):=λq hq=>by
 obtain⟨st,J,U⟩:=b.newC hq r
 exact p _ _ _ st J _ U
def uW(O:ay):D->Option (List D)
 | .tup ds=>some ds
 | x=>lsD O x
def AR(m:EM):EM:=λs=>(m s).bind λx=>match uW x.2.o x.1 with
 | some ds=>.ok (.ptr x.2.o.length,⟨x.2.r,x.2.o++[.lst ds]⟩)
 | none=>.bad
theorem HJ(h:RdE C t m):RdE C (tCB (λxs H Q=>∃p ys,xs=[.ref p]/\(SqL C.K H p ys\/SqT C.K H p ys)/\∀l,H l=none->Q (.ref l) (upd H l (.lst ys))) (jT t mX)) (AR m):=by
 intro σ H F θ s Q b p
 refine h σ H F θ s _ b (PoR.bind p ?_)
 rintro ⟨x,s1⟩ H1 F1 θ1 _ Y p1 J v U
 dsimp only at p1 J U
 split at p1
 ·rename_i ds e
  cases x with
  | tup es=>
   cases e
   obtain⟨a,xs,rfl,hs,hr⟩:=xf J U
   exact⟨a,xs,rfl,.inr hs,t9 p1 J hr⟩
  | _=>
   obtain⟨a,xs,rfl,hs,hr⟩:=eM J U e
   exact⟨a,xs,rfl,.inl hs,t9 p1 J hr⟩
 ·exact lc p1
mutual
def shD(n:Nat):D->D
 | .lst ds=>.lst (fu n ds)
 | .tup ds=>.tup (fu n ds)
 | .ptr k=>.ptr (n+k)
 | .obj c ns ds=>.obj c ns (fu n ds)
 | .exn c=>.exn c
 | .non=>.non
 | .bl b=>.bl b
 | .int i=>.int i
 | .str x=>.str x
def fu(n:Nat):List D->List D
 | []=>[]
 | d::ds=>shD n d::fu n ds
end
def shC(n:Nat):Cell->Cell
 | .dead=>.dead
 | .lst ds=>.lst (fu n ds)
 | .ins c ns ds=>.ins c ns (fu n ds)
section
variable {K : lm} {ca : Nat → Addr} {F : Hp} {θ θ1 : List Addr}
mutual
theorem G2:∀{d:D} {v:V},Rep K ca θ1 F d v->Rep K ca (θ++θ1) F (shD θ.length d) v
 | .non,_,h=>by unfold shD;exact h
 | .bl _,_,h=>by unfold shD;exact h
 | .int _,_,h=>by unfold shD;exact h
 | .str _,_,h=>by unfold shD;exact h
 | .lst ds,_,h=>by
  unfold shD
  unfold Rep at h ⊢
  obtain⟨a,xs,e,hs,hr⟩:=h
  exact⟨a,xs,e,hs,nS hr⟩
 | .tup ds,_,h=>by
  unfold shD
  unfold Rep at h ⊢
  obtain⟨a,xs,e,hs,hr⟩:=h
  exact⟨a,xs,e,hs,nS hr⟩
 | .ptr k,_,h=>by
  unfold shD
  unfold Rep at h ⊢
  obtain⟨a,e,hk⟩:=h
  exact⟨a,e,by rw[re (Rj _ _),Db];exact hk⟩
 | .obj c ns ds,_,h=>by
  unfold shD
  unfold Rep at h ⊢
  obtain⟨a,dx,xs,e,ha,J,hr⟩:=h
  exact⟨a,dx,xs,e,ha,J,nS hr⟩
 | .exn c,_,h=>by
  unfold shD
  unfold Rep at h ⊢
  exact h
theorem nS:∀{ds:List D} {xs:List V},aA K ca θ1 F ds xs->aA K ca (θ++θ1) F (fu θ.length ds) xs
 | [],_,h=>by unfold fu;exact h
 | d::ds,_,h=>by
  unfold fu
  unfold aA at h ⊢
  obtain⟨v,r,e,h1,h2⟩:=h
  exact⟨v,r,e,G2 h1,nS h2⟩
end
end
theorem BS.calledO(b:BS K ca σ H F θ s)(st:Stp H F [] H1 F1 θ1)(n:Now K ca H1 F1 θ1 O1):
 Stp H F θ H1 F1 (θ++θ1)/\BS K ca σ H1 F1 (θ++θ1) ⟨s.r,s.o++O1.map (shC s.o.length)⟩:=by
 obtain⟨J,b0⟩:=b.called st n
 obtain⟨r,er,hr⟩:=st.th
 rw[vG] at er
 subst er
 refine⟨⟨J.ff,⟨θ1,rfl,hr⟩,J.kp,J.al,J.nf⟩,⟨⟨n.fh,PZ.mpr ⟨b.now.nd,n.nd,λa ha x hx=> ?_⟩,by simp[b.now.ln,n.ln],λk a c e1 e2=> ?_⟩,b.len,λi d e=> ?_⟩⟩
 ·rintro rfl
  obtain⟨u,hu⟩:=b.now.there ha
  rw[hr a hx] at hu
  cases hu
 ·by_cases hk:k<θ.length
  ·rw[tt hk] at e1
   dsimp only at e2
   rw[tt (by rw[<- b.now.ln];exact hk)] at e2
   have w:=b0.now.ce k a c e1 e2
   cases c with
   | dead=>exact w
   | lst ds=>obtain⟨q1,ys,q2,U⟩:=w;exact⟨q1,ys,q2,U.mono (bP.refl _) ⟨θ1,rfl⟩⟩
   | ins c ns ds=>obtain⟨q1,dx,ys,q2,U,Y⟩:=w;exact⟨q1,dx,ys,q2,U,Y.mono (bP.refl _) ⟨θ1,rfl⟩⟩
  ·rw[re (by omega)] at e1
   dsimp only at e2
   rw[re (by rw[<- b.now.ln];omega),sI,<- b.now.ln] at e2
   cases e3:O1[k-θ.length]? with
   | none=>rw[e3] at e2;cases e2
   | some c'=>
    rw[e3] at e2
    cases e2
    have w:=n.ce _ a c' e1 e3
    cases c' with
    | dead=>exact w
    | lst ds=>obtain⟨q1,ys,q2,U⟩:=w;exact⟨q1,ys,q2,nS U⟩
    | ins c ns ds=>obtain⟨q1,dx,ys,q2,U,Y⟩:=w;exact⟨q1,dx,ys,q2,U,nS Y⟩
 ·obtain⟨v,h1,h2⟩:=b0.sl i d e
  exact⟨v,h1,h2.mono (bP.refl _) ⟨θ1,rfl⟩⟩
def dU(n:Nat)(f:FM)(ma:AM):EM:=λs=>(ma s).bind λx=>if aQ x.1=true/\x.1.length=n then (match f x.1 [] with
 | .ok (d,O1)=>.ok (shD x.2.o.length d,⟨x.2.r,x.2.o++O1.map (shC x.2.o.length)⟩)
 | _=>.bad) else .bad
theorem fO(ha:RdA C ta ma):RdE C (sm (spM C.K C.ca n f) [] E ta) (dU n f ma):=by
 intro σ H F θ s Q b p
 refine ha σ H F θ s _ b (PoR.bind p ?_)
 rintro ⟨x,s1⟩ H1 F1 θ1 _ ac p1 J v r1
 dsimp only at p1 J r1 ⊢
 split at p1
 ·rename_i hp
  rw[PB]
  refine⟨F1,[],x,[],Now.nil J.now.fh,r1.pure hp.1,hp.2, ?_⟩
  split at p1
  ·rename_i d O1 e
   rw[e]
   intro v H2 F2 θ2 U n2 rv
   obtain⟨Y,b3⟩:=J.calledO U n2
   refine p1 H2 F2 _ Y b3 v ?_
   rw[<- J.now.ln]
   exact G2 rv
  ·exact lc p1
 ·exact lc p1
def kc(n:Nat)(f:FM)(ma:AM):EM:=λs=>(ma s).bind λx=>if aQ (bZ x.2.o (bZ x.2.o x.1))=true/\x.1.length=n then (match f (bZ x.2.o (bZ x.2.o x.1)) [] with
 | .ok (d,_)=>if nk d=true then .ok (d,x.2) else .bad
 | _=>.bad) else .bad
theorem j3(O:ay):∀ds:List D,(bZ O ds).length=ds.length
 | []=>by unfold bZ;rfl
 | d::ds=>by unfold bZ;rw[tz,tz,j3 O ds]
theorem rP(ha:RdA C ta ma):RdE C (sm (spM C.K C.ca n f) [] E ta) (kc n f ma):=by
 intro σ H F θ s Q b p
 refine ha σ H F θ s _ b (PoR.bind p ?_)
 rintro ⟨x,s1⟩ H1 F1 θ1 _ ac p1 J v r1
 dsimp only at p1 J r1 ⊢
 split at p1
 ·rename_i hp
  rw[PB]
  have rr:aA C.K C.ca θ1 H1 (bZ s1.o (bZ s1.o x)) v:=kD J.now J.now.fh (bP.refl _) (kD J.now (bP.refl _) J.now.fh r1)
  refine⟨H1,[],bZ s1.o (bZ s1.o x),[],Now.nil (bP.refl _),rr.pure hp.1,by rw[j3,j3];exact hp.2, ?_⟩
  split at p1
  ·rename_i d O1 e
   rw[e]
   intro v H2 F2 θ2 U n2 rv
   split at p1
   ·rename_i sd
    have kp:∀a o,H1 a=some o->H2 a=some o:=λa o h=>U.kp a o h (by simp)
    refine p1 H2 F1 θ1 ⟨bP.refl _,⟨[],by simp,by simp⟩,λa o h _=>kp a o h,U.al,λa o h=>.inl h⟩ ⟨⟨λa o h=>kp a o (J.now.fh a o h),J.now.nd,J.now.ln,λk a c e1 e2=> ?_⟩,J.len,J.sl⟩ v (rv.scal sd)
    have w:=J.now.ce k a c e1 e2
    cases c with
    | dead=>obtain⟨o,ho⟩:=w;exact⟨o,kp a o ho⟩
    | lst ds=>obtain⟨q1,ys,q2,Y⟩:=w;exact⟨q1,ys,kp _ _ q2,Y⟩
    | ins c ns ds=>obtain⟨q1,dx,ys,q2,Y,q4⟩:=w;exact⟨q1,dx,ys,kp _ _ q2,Y,q4⟩
   ·exact lc p1
  ·exact lc p1
 ·exact lc p1
end
def JG(P:Program)(w:World)(K:lm)(mg:Str->Option Value)(base:Heap)(ca:Nat->Addr)(J:Nat)(x:Str)(ps:List Str)(f:FM)(a:Addr)(fd:FuncData):Prop:=
 jX P w K mg base (CXE P w) J a fd ps (spM K ca ps.length f)/\mg x=some (.ref a)/\Do K (.ref a)=true/\Binds K fd ps []
def JX(P:Program)(w:World)(K:lm)(mg:Str->Option Value)(base:Heap)(ca:Nat->Addr)(J:Nat)(x:Str)(ps:List Str)(f:FM):Prop:=∃a fd,JG P w K mg base ca J x ps f a fd
theorem z4{K:lm}{ca:Nat->Addr}{θ:List Addr}{F:Hp}:∀ns:List Int,aA K ca θ F (ns.map D.int) (ns.map V.int)
 | []=>aA.nil
 | _::ns=>aA.cons (bu.mpr rfl) (z4 ns)
theorem ME{ns:List Int}(J:SqL K H a (ns.map V.int))(h:∃O,f [.lst (ns.map D.int)] []=.ok (.bl true,O)):spM K ca 1 f [.ref a] H (λv _=>v=.bl true) E:=by
 obtain⟨O,h⟩:=h
 refine⟨H,[],[.lst (ns.map D.int)],[],Now.nil (bP.refl _),aA.one ?_,rfl, ?_⟩
 ·unfold Rep
  exact⟨a,ns.map V.int,rfl,J,z4 ns⟩
 ·rw[h]
  intro v H1 F1 θ1 _ _ r
  exact cQ.mp r
theorem va{A:Around}(hr:fb k A)(hk:32<=k):A.depth+100<recursionLimit:=by
 have:=hr.dp
 omega
def yU(i:Nat)(s:S):Nat:=match s.r[i]? with
 | some (some (.int j))=>j.natAbs+1
 | _=>0
section
variable {C : Ct}
def kB(as bs:List D):List D:=Pr (λa b=>.tup [a,b]) as bs
def pA(m:AM):IM:=λs=>(m s).bind λx=>match x.1 with
 | [.lst as,.lst bs]=>.ok ((kB as bs,none),x.2)
 | _=>.bad
theorem rB{as bs:List D}(h:(kB as bs)[i]? =some d):∃x y,as[i]? =some x/\bs[i]? =some y/\d=.tup [x,y]:=by
 unfold kB at h
 rw[RB] at h
 cases h1:as[i]? with
 | none=>rw[h1] at h;cases h
 | some x=>
  cases h2:bs[i]? with
  | none=>rw[h1,h2] at h;cases h
  | some y=>
   rw[h1,h2] at h
   cases h
   exact⟨x,y,rfl,rfl,rfl⟩
theorem L4{a b:Addr}{xs ys:List V}{as bs:List D}{H F:Hp}(h1:SqL C.K F a xs)(h2:SqL C.K F b ys)(r1:aA C.K C.ca θ F as xs)(r2:aA C.K C.ca θ F bs ys):
 sN C (Itz C.K a b) (kB as bs) (okC (kB as bs) none) H F θ where
 go:=λi H2 F2 θ2 O2 hi st n _=>by
  obtain⟨x,y,e1,e2,_⟩:=rB (na hi)
  obtain⟨v,q1,_⟩:=r1.get e1
  obtain⟨w,q2,_⟩:=r2.get e2
  exact⟨xs,ys,v,w,n.fh.seq (st.ff.seq h1),n.fh.seq (st.ff.seq h2),q1,q2⟩
 yl:=λi d σ H2 F2 θ2 s2 x H3 hd st b _ hy=>by
  obtain⟨T,v,w,hT,rfl,rfl,hv,hw⟩:=hy
  obtain⟨x,y,e1,e2,rfl⟩:=rB hd
  obtain⟨v',q1,k1⟩:=r1.get e1
  obtain⟨w',q2,k2⟩:=r2.get e2
  have:=hv xs (b.now.fh.seq (st.ff.seq h1))
  rw[q1] at this
  cases this
  have:=hw ys (b.now.fh.seq (st.ff.seq h2))
  rw[q2] at this
  cases this
  obtain⟨st3,b3,sF,e3⟩:=b.newF hT (.tup [v,w])
  refine⟨_,st3,b3, ?_⟩
  unfold Rep
  exact⟨T,[v,w],rfl,SqT.of e3,aA.cons ((k1.mono st.ff st.pre).mono st3.ff st3.pre) (aA.one ((k2.mono st.ff st.pre).mono st3.ff st3.pre))⟩
 st:=λi H2 F2 θ2 O2 hi st n _=>by
  refine⟨xs,ys,n.fh.seq (st.ff.seq h1),n.fh.seq (st.ff.seq h2), ?_⟩
  unfold kB at hi
  rw[Po] at hi
  rw[r1.length,r2.length]
  omega
theorem w8{m:AM}(h:RdA C ta m):RdI C (Ih C.K ta) (pA m):=by
 intro σ H F θ s R b p
 refine h σ H F θ s _ b (PoR.bind p ?_)
 rintro ⟨x,s1⟩ H1 F1 θ1 _ an p1 U v r1
 dsimp only at p1 U r1
 split at p1
 ·rename_i as bs
  obtain⟨v1,v2,rfl,k1,k2⟩:=JW r1
  unfold Rep at k1 k2
  obtain⟨a,xs,rfl,hs,hr⟩:=k1
  obtain⟨b',ys,rfl,J,Y⟩:=k2
  exact⟨a,b',rfl,⟨xs,U.now.fh.seq hs⟩,⟨ys,U.now.fh.seq J⟩,p1 _ _ _ .refl U _ (L4 hs J hr Y)⟩
 ·exact lc p1
def dO(ds:List D):List D:=ds.mapIdx λi d=>.tup [.int (i:Nat),d]
def cP(m:AM):IM:=λs=>(m s).bind λx=>match x.1 with
 | [.lst as]=>.ok ((dO as,none),x.2)
 | _=>.bad
theorem zi{as:List D}(h:(dO as)[i]? =some d):∃x,as[i]? =some x/\d=.tup [.int (i:Nat),x]:=by
 unfold dO at h
 rw[List.getElem?_mapIdx] at h
 cases h1:as[i]? with
 | none=>rw[h1] at h;cases h
 | some x=>
  rw[h1] at h
  cases h
  exact⟨x,rfl,rfl⟩
theorem K0{as:List D}(h1:SqL C.K F a xs)(r1:aA C.K C.ca θ F as xs):sN C (Ite C.K a) (dO as) (okC (dO as) none) H F θ where
 go:=λi H2 F2 θ2 O2 hi st n _=>by
  obtain⟨x,e1,_⟩:=zi (na hi)
  obtain⟨v,q1,_⟩:=r1.get e1
  exact⟨xs,v,n.fh.seq (st.ff.seq h1),q1⟩
 yl:=λi d σ H2 F2 θ2 s2 x H3 hd st b _ hy=>by
  obtain⟨T,v,hT,rfl,rfl,hv⟩:=hy
  obtain⟨x,e1,rfl⟩:=zi hd
  obtain⟨v',q1,k1⟩:=r1.get e1
  have:=hv xs (b.now.fh.seq (st.ff.seq h1))
  rw[q1] at this
  cases this
  obtain⟨st3,b3,sF,e3⟩:=b.newF hT (.tup [.int (i:Nat),v])
  refine⟨_,st3,b3, ?_⟩
  unfold Rep
  exact⟨T,[.int (i:Nat),v],rfl,SqT.of e3,aA.cons (bu.mpr rfl) (aA.one ((k1.mono st.ff st.pre).mono st3.ff st3.pre))⟩
 st:=λi H2 F2 θ2 O2 hi st n _=>by
  refine⟨xs,n.fh.seq (st.ff.seq h1), ?_⟩
  unfold dO at hi
  rw[List.length_mapIdx] at hi
  rw[r1.length]
  exact hi
theorem fH{m:AM}(h:RdA C ta m):RdI C (JD C.K ta) (cP m):=by
 intro σ H F θ s R b p
 refine h σ H F θ s _ b (PoR.bind p ?_)
 rintro ⟨x,s1⟩ H1 F1 θ1 _ ab p1 J v U
 dsimp only at p1 J U
 split at p1
 ·rename_i as
  obtain⟨v1,rfl,Y⟩:=mj U
  unfold Rep at Y
  obtain⟨a,xs,rfl,hs,hr⟩:=Y
  exact⟨a,rfl,⟨xs,J.now.fh.seq hs⟩,p1 _ _ _ .refl J _ (K0 hs hr)⟩
 ·exact lc p1
def oj(x:Str):List D:=x.cps.toList.map λc=>.str ⟨#[c]⟩
def EA(m:EM):IM:=λs=>(m s).bind λx=>match x.1 with
 | .str z=>.ok ((oj z,none),x.2)
 | _=>.bad
theorem MU{z:Str}:sN C (Its z) (oj z) (okC (oj z) none) H F θ where
 go:=λi H2 F2 θ2 O2 hi st n _=>by
  unfold oj at hi
  show i<z.cps.size
  simpa using hi
 yl:=λi d σ H2 F2 θ2 s2 x H3 hd st b _ hy=>by
  obtain⟨rfl,c,hc,rfl⟩:=hy
  refine⟨F2,.refl,b, ?_⟩
  unfold oj at hd
  rw[sI,Qj,hc] at hd
  cases hd
  exact c9.mpr rfl
 st:=λi H2 F2 θ2 O2 hi st n _=>by
  unfold oj at hi
  show z.cps.size<=i
  simpa using hi
theorem KH(h:RdE C te m):RdI C (MX te) (EA m):=by
 intro σ H F θ s R b p
 refine h σ H F θ s _ b (PoR.bind p ?_)
 rintro ⟨x,s1⟩ H1 F1 θ1 _ Y p1 J v U
 dsimp only at p1 J U
 cases x <;> first | exact lc p1 | skip
 rename_i z _
 exact⟨z,c9.mp U,p1 _ _ _ .refl J _ MU⟩
def gH:List D->Option (List Int)
 | []=>some []
 | .int i::r=>(gH r).map (i:: ·)
 | _=>none
def jM:List D->Option (List Bool)
 | []=>some []
 | .bl i::r=>(jM r).map (i:: ·)
 | _=>none
theorem xy{K:lm}{ca:Nat->Addr}{θ:List Addr}{F:Hp}:∀{ds:List D} {ns:List Int} {xs:List V},gH ds=some ns->aA K ca θ F ds xs->xs=ns.map V.int
 | [],ns,xs,e,r=>by cases e;unfold aA at r;rw[r];rfl
 | d::ds,ns,xs,e,r=>by
  cases d <;> first | (cases e;done) | skip
  rename_i i
  unfold gH at e
  cases e2:gH ds with
  | none=>rw[e2] at e;cases e
  | some ms=>
   rw[e2] at e
   cases e
   unfold aA at r
   obtain⟨v,w,rfl,h1,h2⟩:=r
   rw[xy e2 h2,bu.mp h1];rfl
theorem vt{K:lm}{ca:Nat->Addr}{θ:List Addr}{F:Hp}:∀{ds:List D} {ns:List Bool} {xs:List V},jM ds=some ns->aA K ca θ F ds xs->xs=ns.map V.bl
 | [],ns,xs,e,r=>by cases e;unfold aA at r;rw[r];rfl
 | d::ds,ns,xs,e,r=>by
  cases d <;> first | (cases e;done) | skip
  rename_i i
  unfold jM at e
  cases e2:jM ds with
  | none=>rw[e2] at e;cases e
  | some ms=>
   rw[e2] at e
   cases e
   unfold aA at r
   obtain⟨v,w,rfl,h1,h2⟩:=r
   rw[vt e2 h2,cQ.mp h1];rfl
def ofInts(f:List Int->D):OpN:=λO xs=>match xs with
 | [x]=>match lsD O x with
  | some ds=>match gH ds with
   | some ns=>.ok (f ns)
   | none=>.bad
  | none=>.bad
 | _=>.bad
def u9(f:List Bool->D):OpN:=λO xs=>match xs with
 | [x]=>match lsD O x with
  | some ds=>match jM ds with
   | some ns=>.ok (f ns)
   | none=>.bad
  | none=>.bad
 | _=>.bad
def tm:OpN:=ofInts λns=>.int ns.sum
def Cg:OpN:=u9 λbs=>.bl (bs.all id)
def N2:OpN:=u9 λbs=>.bl (bs.any id)
theorem FY{f:List Int->D}{g:List Int->V}(h:∀K ca θ F ns,Rep K ca θ F (f ns) (g ns)):j7 C (λxs H Q=>∃(p:Addr) (ns:List Int),xs=[.ref p]/\SqL C.K H p (ns.map V.int)/\Q (g ns) H) (ofInts f):=by
 intro σ H F θ s xs vs Q b r p
 unfold ofInts at p
 split at p
 ·obtain⟨v,rfl,J⟩:=mj r
  split at p
  ·rename_i ds e
   obtain⟨a,ys,rfl,hs,hr⟩:=eM b J e
   split at p
   ·rename_i ns e2
    have:=xy e2 hr
    subst this
    exact⟨a,ns,rfl,hs,du p b (h ..)⟩
   ·exact lc p
  ·exact lc p
 ·exact lc p
theorem Ex{f:List Bool->D}{g:List Bool->V}(h:∀K ca θ F ns,Rep K ca θ F (f ns) (g ns)):j7 C (λxs H Q=>∃(p:Addr) (ns:List Bool),xs=[.ref p]/\SqL C.K H p (ns.map V.bl)/\Q (g ns) H) (u9 f):=by
 intro σ H F θ s xs vs Q b r p
 unfold u9 at p
 split at p
 ·obtain⟨v,rfl,J⟩:=mj r
  split at p
  ·rename_i ds e
   obtain⟨a,ys,rfl,hs,hr⟩:=eM b J e
   split at p
   ·rename_i ns e2
    have:=vt e2 hr
    subst this
    exact⟨a,ns,rfl,hs,du p b (h ..)⟩
   ·exact lc p
  ·exact lc p
 ·exact lc p
theorem CY:j7 C (λxs H Q=>∃(p:Addr) (ns:List Int),xs=[.ref p]/\SqL C.K H p (ns.map V.int)/\Q (.int ns.sum) H) tm:=FY λ_ _ _ _ _=>bu.mpr rfl
theorem Fu:j7 C (λxs H Q=>∃(p:Addr) (bs:List Bool),xs=[.ref p]/\SqL C.K H p (bs.map V.bl)/\Q (.bl (bs.all id)) H) Cg:=Ex λ_ _ _ _ _=>cQ.mpr rfl
def Jq:D->Bool
 | .non=>true
 | _=>false
def isD:Op2:=λ_ x y=>match x,y with
 | .bl a,.bl b=>.ok (.bl (a == b))
 | x,.non=>.ok (.bl (Jq x))
 | _,_=>.bad
def mJ:Op2:=λ_ x y=>match y with
 | .non=>.ok (.bl (!Jq x))
 | _=>.bad
theorem CL{K ca θ F}(r:Rep K ca θ F x v):decide (v=.non)=Jq x:=by
 cases x with
 | non=>rw[fN.mp r];rfl
 | bl b=>rw[cQ.mp r];rfl
 | int b=>rw[bu.mp r];rfl
 | str b=>rw[c9.mp r];rfl
 | lst ds=>unfold Rep at r;obtain⟨a,xs,rfl,_⟩:=r;rfl
 | tup ds=>unfold Rep at r;obtain⟨a,xs,rfl,_⟩:=r;rfl
 | ptr k=>unfold Rep at r;obtain⟨a,rfl,_⟩:=r;rfl
 | obj c ns ds=>unfold Rep at r;obtain⟨a,dx,xs,rfl,_⟩:=r;rfl
 | exn c=>unfold Rep at r;obtain⟨a,rfl,_⟩:=r;rfl
theorem LI:OpR X (compareOp .Is) (λx y H Q=>∃a b,x=.bl a/\y=.bl b/\Q (.bl (a == b)) H):=by
 intro pins s σ H x y v u Q I J U h
 obtain⟨a,b,rfl,rfl,q⟩:=h
 cases J
 cases U
 exact is_bool (cH I q rfl)
def LS:R2:=λx y H Q=>(∃a b,x=.bl a/\y=.bl b/\Q (.bl (a == b)) H)\/(y=.non/\Q (.bl (decide (x=.non))) H)
theorem LH:OpR X (compareOp .Is) LS:=LI.or Mi
theorem DR:OpR X (compareOp .IsNot) (λx y H Q=>y=.non/\Q (.bl (!decide (x=.non))) H):=Lf
theorem JR:gk C LS isD:=by
 intro σ H F θ s x y v w Q b J U p
 unfold isD at p
 split at p
 ·rename_i a c
  exact .inl ⟨a,c,cQ.mp J,cQ.mp U,du p b (cQ.mpr rfl)⟩
 ·exact .inr ⟨fN.mp U,du p b (cQ.mpr (by rw[CL J]))⟩
 ·exact lc p
theorem B7:gk C (λx y H Q=>y=.non/\Q (.bl (!decide (x=.non))) H) mJ:=by
 intro σ H F θ s x y v w Q b J U p
 unfold mJ at p
 split at p
 ·exact⟨fN.mp U,du p b (cQ.mpr (by rw[CL J]))⟩
 ·exact lc p
theorem GY:OpR X (compareOp .LtE) (λx y H Q=>∃i j,x=.str i/\y=.str j/\Q (.bl (!decide (j.cps.toList<i.cps.toList))) H):=by
 intro pins s σ H x y v u Q I J U h
 obtain⟨i,j,rfl,rfl,q⟩:=h
 obtain⟨t,rfl⟩:=J
 obtain⟨t',rfl⟩:=U
 exact PySem.P.le_str (cH I q rfl)
def sk:Op2:=λ_ x y=>match x,y with
 | .str i,.str j=>.ok (.bl (!decide (j.cps.toList<i.cps.toList)))
 | _,_=>.bad
theorem GF:gk C (λx y H Q=>∃i j,x=.str i/\y=.str j/\Q (.bl (!decide (j.cps.toList<i.cps.toList))) H) sk:=by
 intro σ H F θ s x y v w Q b J U p
 unfold sk at p
 split at p
 ·rename_i i j
  exact⟨i,j,c9.mp J,c9.mp U,du p b (cQ.mpr rfl)⟩
 ·exact lc p
def lg(f g:Op2)(a b c:EM):EM:=λs=>(a s).bind λx=>(b x.2).bind λy=>(f y.2.o x.1 y.1).bind λz=>match z with
 | .bl true=>(c y.2).bind λw=>(g w.2.o y.1 w.1).bind λd=>.ok (d,w.2)
 | .bl false=>.ok (.bl false,y.2)
 | _=>.bad
theorem BI{r r':R2}{f g:Op2}{ta tb tc:TE}{ma mb mc:EM}(hf:gk C r f)(hg:gk C r' g)(ha:RdE C ta ma)(hb:RdE C tb mb)(hc:RdE C tc mc):RdE C (BV r r' ta tb tc) (lg f g ma mb mc):=by
 intro σ H F θ s Q b p
 refine ha σ H F θ s _ b (PoR.bind p ?_)
 rintro ⟨x,s1⟩ H1 F1 θ1 _ az p1 b1 v r1
 refine hb σ H1 F1 θ1 s1 _ b1 (PoR.bind p1 ?_)
 rintro ⟨y,s2⟩ H2 F2 θ2 _ U p2 b2 w r2
 dsimp only at p2
 refine hf σ H2 F2 θ2 s2 x y v w _ b2 (r1.mono U.ff U.pre) r2 ?_
 cases e:f s2.o x y with
 | bad=>rw[e] at p2;exact p2
 | exc a1 a2 a3=>rw[e] at p2;exact p2
 | ok z=>
  rw[e,aj] at p2
  rw[aj]
  intro H3 F3 θ3 J b3 u r3
  cases z <;> first | exact lc p2 | skip
  rename_i k
  refine⟨k,cQ.mp r3, ?_⟩
  cases k with
  | false=>exact tD (PoR.after J p2 _ _ _ .refl b3 _ (cQ.mpr rfl))
  | true=>
   refine t6 (hc σ H3 F3 θ3 s2 _ b3 (PoR.bind (PoR.after J p2) ?_))
   rintro ⟨q,s4⟩ H4 F4 θ4 _ Y p4 b4 w' r4
   exact hg σ H4 F4 θ4 s4 y q w w' Q b4 ((r2.mono J.ff J.pre).mono Y.ff Y.pre) r4 p4
def orD:Op2:=intD λi j=>.ok (.int (Builtin.bitOr i j))
theorem GB:gk C (rI0 λi j=>.int (Builtin.bitOr i j)) orD:=xY λ_ _ _ _ _ _=>bu.mpr rfl
def Cv(mo me:EM):EM:=λs=>(mo s).bind λx=>match fT x.2.o x.1 with
 | some _=>(me x.2).bind λy=>match y.1,fT y.2.o x.1 with
  | .int i,some (k,ds)=>if -(2^63)<=i/\i<2^63 then (match seqIndex? i ds.length with
   | some j=>match ds[j]? with
    | some d=>.ok (d,⟨y.2.r,y.2.o.set k (.lst (ds.eraseIdx j))⟩)
    | none=>.bad
   | none=>.bad) else .bad
  | _,_=>.bad
 | none=>.bad
theorem aA.erase{K:lm}{ca:Nat->Addr}{θ:List Addr}{F:Hp}:∀{ds:List D} {xs:List V} (i:Nat),aA K ca θ F ds xs->aA K ca θ F (ds.eraseIdx i) (xs.eraseIdx i)
 | [],_,_,k=>by unfold aA at k;rw[k];exact aA.nil
 | _::_,_,0,k=>by
  unfold aA at k
  obtain⟨v,r,rfl,h1,h2⟩:=k
  exact h2
 | _::_,_,i+1,k=>by
  unfold aA at k
  obtain⟨v,r,rfl,h1,h2⟩:=k
  exact aA.cons h1 (aA.erase i h2)
theorem Mr(ho:RdE C to mo)(he:RdE C te me):RdE C (tBM C.K "list" Fz to (jT te mX)) (Cv mo me):=by
 intro σ H F θ s Q b p
 refine ho σ H F θ s _ b (PoR.bind p ?_)
 rintro ⟨x,s1⟩ H1 F1 θ1 _ a2 p1 Y v r1
 dsimp only at p1 Y r1
 split at p1
 ·rename_i kd e
  obtain⟨rfl,e'⟩:=kR (k:=kd.1) (ds:=kd.2) e
  obtain⟨a,xs,rfl,hk,_,h1,_⟩:=iU Y r1 e'
  refine⟨.inl ⟨rfl,xs,SqL.of h1⟩,he σ H1 F1 θ1 s1 _ Y (PoR.bind p1 ?_)⟩
  rintro ⟨y,s2⟩ H2 F2 θ2 _ U p2 b2 w r2
  dsimp only at p2 b2 r2
  split at p2
  ·rename_i i k ds e2 _
   obtain⟨ek,e2⟩:=kR e2
   cases ek
   obtain⟨a',ys,ea,am,hF,h2,hr⟩:=iU b2 (r1.mono U.ff U.pre) e2
   cases ea
   split at p2
   ·rename_i hl
    split at p2
    ·rename_i j hj
     split at p2
     ·rename_i d hd
      obtain⟨u,hu,ru⟩:=hr.get hd
      obtain⟨J,b3⟩:=b2.setC am e2 hF (hr.erase j)
      rw[bu.mp r2]
      exact⟨a,ys,i,j,u,rfl,rfl,h2,hl.1,hl.2,by rw[hr.length];exact hj,hu,p2 _ _ _ J b3 _ (ru.mono J.ff J.pre)⟩
     ·exact lc p2
    ·exact lc p2
   ·exact lc p2
  ·exact lc p2
 ·exact lc p1
def gU(n:Nat)(f:FM)(ma:AM):EM:=λs=>(ma s).bind λx=>if x.1.length=n then (match f x.1 x.2.o with
 | .ok (d,O1)=>.ok (d,⟨x.2.r,O1⟩)
 | _=>.bad) else .bad
theorem kr(ha:RdA C ta ma):RdE C (sm (spM C.K C.ca n f) [] E ta) (gU n f ma):=by
 intro σ H F θ s Q b p
 refine ha σ H F θ s _ b (PoR.bind p ?_)
 rintro ⟨x,s1⟩ H1 F1 θ1 _ ab p1 U v Y
 dsimp only at p1 U Y ⊢
 split at p1
 ·rename_i hp
  rw[PB]
  refine⟨F1,θ1,x,s1.o,U.now,Y,hp, ?_⟩
  split at p1
  ·rename_i d O1 e
   rw[e]
   intro v H2 F2 θ2 J n2 rv
   exact p1 H2 F2 θ2 J ⟨n2,U.len,λi d e=>by
    obtain⟨v,h1,h2⟩:=U.sl i d e
    exact⟨v,h1,h2.mono J.ff J.pre⟩⟩ v rv
  ·exact lc p1
 ·exact lc p1
def E1(k:Int)(ds:List D):List D:=(pr k.toNat ds).flatten
def yp(fin:S->List D->Res (D×S))(ma:AM)(mk:EM):EM:=λs=>(ma s).bind λx=>if x.1.length<=16777216 then (mk x.2).bind λy=>match y.1 with
 | .int k=>if (-(2^63)<=k/\k<2^63)/\x.1.length*k.toNat<=16777216 then fin y.2 (E1 k x.1) else .bad
 | _=>.bad
 else .bad
def Fp:S->List D->Res (D×S):=λs ds=>.ok (.lst ds,s)
def pR:S->List D->Res (D×S):=λs ds=>.ok (.ptr s.o.length,⟨s.r,s.o++[.lst ds]⟩)
theorem A8{K ca θ F}{ds:List D}{xs:List V}(r:aA K ca θ F ds xs):∀k:Nat,aA K ca θ F (pr k ds).flatten (pr k xs).flatten
 | 0=>aA.nil
 | k+1=>by
  rw[Fa,Fa,PJ,PJ]
  exact r.append (A8 r k)
theorem LG {fin:S->List D->Res (D×S)} {tk:TE} {mk:EM} (ha:RdA C ta ma) (hk:RdE C tk mk)
 (hf:∀σ H F θ s ds xs Q,BS C.K C.ca σ H F θ s->aA C.K C.ca θ F ds xs->PoE C σ H F θ (fin s ds) Q->∀q,H q=none->Q (.ref q) (upd H q (.lst xs))):RdE C (tOp Ji (Cw ta) tk) (yp fin ma mk):=by
 intro σ H F θ s Q b p
 refine ha σ H F θ s _ b (PoR.bind p ?_)
 rintro ⟨x,s1⟩ H1 F1 θ1 _ am p1 b1 v U
 dsimp only at p1
 split at p1
 ·rename_i hl
  refine⟨by rw[U.length];exact hl,λq hq=> ?_⟩
  obtain⟨st,b2,sF,e⟩:=b1.newF hq (.lst v)
  refine hk σ _ _ _ s1 _ b2 (PoR.bind (PoR.after st p1) ?_)
  rintro ⟨y,s2⟩ H2 F2 θ2 _ J p2 Y w r2
  dsimp only at p2 r2
  split at p2
  ·rename_i k _
   split at p2
   ·rename_i hk
    rw[bu.mp r2]
    refine⟨q,k,v,rfl,rfl,Y.now.fh _ _ (J.ff _ _ e),hk.1.1,hk.1.2,by rw[U.length];exact hk.2, ?_⟩
    exact hf σ H2 F2 θ2 s2 _ _ Q Y (A8 (((U.mono sF ⟨[],by simp⟩).mono J.ff J.pre)) k.toNat) p2
   ·exact lc p2
  ·exact lc p2
 ·exact lc p1
theorem Ep{tk:TE}{mk:EM}(ha:RdA C ta ma)(hk:RdE C tk mk):RdE C (tOp Ji (Cw ta) tk) (yp pR ma mk):=LG ha hk λσ H F θ s ds xs Q b r p=>t9 p b r
def B5(m:EM):TM:=λs=>(m s).bind λx=>match lsD x.2.o x.1 with
 | some ds=>.ok (!ds.isEmpty,x.2)
 | none=>.bad
theorem MG(h:RdE C t m):RdT C (λσ H Q=>t σ H λx H'=>∃k,Hr C.K x H' k/\Q k H') (B5 m):=by
 intro σ H F θ s Q b p
 refine h σ H F θ s _ b (PoR.bind p ?_)
 rintro ⟨x,s1⟩ H1 F1 θ1 _ Y p1 J v U
 dsimp only at p1 J U
 split at p1
 ·rename_i ds e
  obtain⟨a,xs,rfl,hs,hr⟩:=eM J U e
  refine⟨!ds.isEmpty, ?_,p1 _ _ _ .refl J⟩
  refine nu ⟨xs,hs, ?_⟩
  have:=hr.length
  cases ds <;> cases xs <;> first | rfl | (simp at this)
 ·exact lc p1
end
section
variable {C : Ct}
theorem aA.places{K:lm}{ca:Nat->Addr}{θ:List Addr}{F:Hp}{ds:List D}{xs:List V}(r:aA K ca θ F ds xs):∀J:List Nat,aA K ca θ F (J.filterMap (ds[·]?)) (J.filterMap (xs[·]?))
 | []=>aA.nil
 | j::J=>by
  have Y:=aA.places r J
  cases hn:ds[j]? with
  | some d=>
   obtain⟨v,U,rv⟩:=r.get hn
   simp only[Pm,hn,U]
   exact aA.cons rv Y
  | none=>
   have U:xs[j]? =none:=by
    rw[Q8] at hn ⊢
    rw[r.length];exact hn
   simp only[Pm,hn,U]
   exact Y
def BC(fin:S->List D->Res (D×S))(me:EM)(J U ms:OM):EM:=λs=>(me s).bind λx=>(J x.2).bind λl=>(U l.2).bind λh=>(ms h.2).bind λt=>match lsD t.2.o x.1 with
 | some ds=>if t.1=some 0 then .bad else fin t.2 (pick ds l.1 h.1 t.1)
 | none=>.bad
theorem L9 {fin:S->List D->Res (D×S)} {tl th ts:TO} {ml mh ms:OM} (he:RdE C te me) (hl:RdO C tl ml) (hh:RdO C th mh) (ht:RdO C ts ms)
 (hf:∀σ H F θ s ds xs Q,BS C.K C.ca σ H F θ s->aA C.K C.ca θ F ds xs->PoE C σ H F θ (fin s ds) Q->∀q,H q=none->Q (.ref q) (upd H q (.lst xs))):RdE C (Jz C.K te tl th ts) (BC fin me ml mh ms):=by
 intro σ H F θ s Q b p
 refine he σ H F θ s _ b (PoR.bind p ?_)
 rintro ⟨x,s1⟩ H1 F1 θ1 _ a5 p1 b1 v r1
 refine hl σ H1 F1 θ1 s1 _ b1 (PoR.bind p1 ?_)
 rintro ⟨l,s2⟩ H2 F2 θ2 _ U p2 b2
 refine hh σ H2 F2 θ2 s2 _ b2 (PoR.bind p2 ?_)
 rintro ⟨h,s3⟩ H3 F3 θ3 _ Y p3 b3
 refine ht σ H3 F3 θ3 s3 _ b3 (PoR.bind p3 ?_)
 rintro ⟨t,s4⟩ H4 F4 θ4 _ ab J b4
 dsimp only at J ⊢
 split at J
 ·rename_i ds e
  split at J
  ·exact lc J
  ·rename_i h0
   obtain⟨a,xs,rfl,hs,hr⟩:=eM b4 (((r1.mono U.ff U.pre).mono Y.ff Y.pre).mono ab.ff ab.pre) e
   refine⟨a,xs,rfl,hs,h0, ?_⟩
   have hp:aA C.K C.ca θ4 F4 (pick ds l h t) (pick xs l h t):=by
    unfold pick
    rw[hr.length]
    exact hr.places _
   exact hf σ H4 F4 θ4 s4 _ _ Q b4 hp J
 ·exact lc J
theorem KQ{tl th ts:TO}{J U ms:OM}(Y:RdE C te me)(hl:RdO C tl J)(hh:RdO C th U)(ht:RdO C ts ms):RdE C (Jz C.K te tl th ts) (BC Fp me J U ms):=L9 Y hl hh ht λσ H F θ s ds xs Q b r p=>tU p b r
end
section
variable {C : Ct}
def Bp(m:EM):EM:=λs=>(m s).bind λx=>match fT x.2.o x.1 with
 | some (k,ds)=>.ok (.lst ds,⟨x.2.r,x.2.o.set k .dead⟩)
 | none=>.ok x
theorem Eo(m:EM)(s:S):Bp m s=(m s).bind λx=>match fT x.2.o x.1 with
 | some (k,ds)=>.ok (.lst ds,⟨x.2.r,x.2.o.set k .dead⟩)
 | none=>.ok x:=rfl
theorem K4(h:RdE C t m):RdE C t (Bp m):=by
 intro σ H F θ s Q b p
 refine h σ H F θ s _ b (PoR.bind p ?_)
 rintro ⟨x,s1⟩ H1 F1 θ1 _ ab p1 J v U
 dsimp only at p1 J U
 split at p1
 ·rename_i k ds e
  obtain⟨rfl,e'⟩:=kR e
  obtain⟨a,xs,rfl,hk,hF,h1,h2⟩:=iU J U e'
  obtain⟨Y,b2,r2⟩:=J.frz hk e' hF h1 h2
  exact p1 _ _ _ Y b2 _ r2
 ·exact p1 _ _ _ .refl J _ U
end
section
variable {C : Ct}
def slS(me:EM)(J U:OM):EM:=λs=>(me s).bind λx=>(J x.2).bind λl=>(U l.2).bind λh=>match x.1 with
 | .str z=>if z.length<=16777216 then .ok (.str (k9 z l.1 h.1),h.2) else .bad
 | _=>.bad
theorem Gp{tl th:TO}{U Y:OM}(he:RdE C te me)(hl:RdO C tl U)(hh:RdO C th Y):RdE C (tSl JY te tl th) (slS me U Y):=by
 intro σ H F θ s Q b p
 refine he σ H F θ s _ b (PoR.bind p ?_)
 rintro ⟨x,s1⟩ H1 F1 θ1 _ an p1 b1 v r1
 refine hl σ H1 F1 θ1 s1 _ b1 (PoR.bind p1 ?_)
 rintro ⟨l,s2⟩ H2 F2 θ2 _ a1 p2 b2
 refine hh σ H2 F2 θ2 s2 _ b2 (PoR.bind p2 ?_)
 rintro ⟨h,s3⟩ H3 F3 θ3 _ a3 J b3
 dsimp only at J ⊢
 split at J
 ·rename_i z _
  split at J
  ·rename_i hz
   exact⟨z,c9.mp r1,by rw[sizeLine_eq];exact hz,J _ _ _ .refl b3 _ (c9.mpr rfl)⟩
  ·exact lc J
 ·exact lc J
theorem L6(me:EM)(J U:OM)(s:S):slS me J U s=(me s).bind λx=>(J x.2).bind λl=>(U l.2).bind λh=>match x.1 with
 | .str z=>if z.length<=16777216 then .ok (.str (k9 z l.1 h.1),h.2) else .bad
 | _=>.bad:=rfl
end
section
variable {C : Ct}
def k6:List D->Option (List Str)
 | []=>some []
 | .str z::r=>match k6 r with
  | some zs=>some (z::zs)
  | none=>none
 | _=>none
theorem tE:∀{ds:List D} {zs:List Str},k6 ds=some zs->ds=zs.map D.str
 | [],zs,h=>by cases h;rfl
 | d::ds,zs,h=>by
  cases d <;> first | (simp[k6] at h;done) | skip
  rename_i z
  unfold k6 at h
  cases e:k6 ds with
  | none=>rw[e] at h;cases h
  | some ys=>
   rw[e] at h
   cases h
   rw[tE e];rfl
theorem ni:∀zs:List Str,k6 (zs.map D.str)=some zs
 | []=>rfl
 | z::zs=>by rw[sH];unfold k6;rw[ni zs]
def inB(O:ay)(x y:D):Option Bool:=match x with
 | .str a=>match lsD O y with
  | some ds=>match k6 ds with
   | some zs=>some (zs.any (· == a))
   | none=>none
  | none=>none
 | .int a=>match lsD O y with
  | some ds=>match gH ds with
   | some zs=>some (zs.any (· == a))
   | none=>none
  | none=>none
 | _=>none
def inD:Op2:=λO x y=>match inB O x y with
 | some b=>.ok (.bl b)
 | none=>.bad
def qk:Op2:=λO x y=>match inB O x y with
 | some b=>.ok (.bl (!b))
 | none=>.bad
theorem zf{K:lm}{ca:Nat->Addr}{θ:List Addr}{F:Hp}:∀{zs:List Str} {xs:List V},aA K ca θ F (zs.map D.str) xs->xs=zs.map V.str
 | [],xs,h=>by unfold aA at h;exact h
 | z::zs,xs,h=>by
  rw[sH] at h
  unfold aA at h
  obtain⟨v,r,rfl,h1,h2⟩:=h
  rw[c9.mp h1,zf h2];rfl
theorem qU{K:lm}{ca:Nat->Addr}{θ:List Addr}{F:Hp}:∀{zs:List Int} {xs:List V},aA K ca θ F (zs.map D.int) xs->xs=zs.map V.int
 | [],xs,h=>by unfold aA at h;exact h
 | z::zs,xs,h=>by
  rw[sH] at h
  unfold aA at h
  obtain⟨v,r,rfl,h1,h2⟩:=h
  rw[bu.mp h1,qU h2];rfl
theorem xB:∀{ds:List D} {zs:List Int},gH ds=some zs->ds=zs.map D.int
 | [],zs,h=>by unfold gH at h;cases h;rfl
 | d::ds,zs,h=>by
  cases d <;> first | (simp[gH] at h;done) | skip
  rename_i z
  unfold gH at h
  cases e:gH ds with
  | none=>rw[e] at h;cases h
  | some ys=>
   rw[e] at h
   cases h
   rw[xB e];rfl
theorem Et{v w:V}{q:Bool}(b:BS C.K C.ca σ H F θ s)(J:Rep C.K C.ca θ F x v)(U:Rep C.K C.ca θ F y w)(e:inB s.o x y=some q):
 ∃p xs,w=.ref p/\SqL C.K H p xs/\lY v=true/\xs.all lY=true/\inV v xs=q:=by
 unfold inB at e
 split at e
 ·rename_i a
  split at e
  ·rename_i ds e1
   split at e
   ·rename_i zs e2
    cases e
    obtain⟨p,xs,rfl,hs,hr⟩:=eM b U e1
    rw[tE e2] at hr
    have hx:=zf hr
    subst hx
    rw[c9.mp J]
    refine⟨p,_,rfl,hs,rfl, ?_, ?_⟩
    ·rw[QL,PM];intro z _;rfl
    ·unfold inV;rw[SG];rfl
   ·cases e
  ·cases e
 ·rename_i a
  split at e
  ·rename_i ds e1
   split at e
   ·rename_i zs e2
    cases e
    obtain⟨p,xs,rfl,hs,hr⟩:=eM b U e1
    rw[xB e2] at hr
    have hx:=qU hr
    subst hx
    rw[bu.mp J]
    refine⟨p,_,rfl,hs,rfl, ?_, ?_⟩
    ·rw[QL,PM];intro z _;rfl
    ·unfold inV;rw[SG];rfl
   ·cases e
  ·cases e
 ·cases e
theorem EI:gk C (rIn C.K false) inD:=by
 intro σ H F θ s x y v w Q b J U p
 unfold inD at p
 split at p
 ·rename_i q e
  obtain⟨a,xs,rfl,h1,h2,Y,h4⟩:=Et b J U e
  exact⟨a,xs,rfl,.inl h1,h2,Y,du p b (cQ.mpr (by rw[if_neg (by decide),h4]))⟩
 ·exact lc p
theorem B3:gk C (rIn C.K true) qk:=by
 intro σ H F θ s x y v w Q b J U p
 unfold qk at p
 split at p
 ·rename_i q e
  obtain⟨a,xs,rfl,h1,h2,Y,h4⟩:=Et b J U e
  exact⟨a,xs,rfl,.inl h1,h2,Y,du p b (cQ.mpr (by rw[if_pos rfl,h4]))⟩
 ·exact lc p
def pF(f:Str):List Str->List D->Option D
 | n::ns,d::ds=>if n=f then some d else pF f ns ds
 | _,_=>none
theorem Ba{K:lm}{ca:Nat->Addr}{θ:List Addr}{F:Hp}{f:Str}:∀{ns:List Str} {ds:List D} {xs:List V} {d:D},aA K ca θ F ds xs->pF f ns ds=some d->∃v,(ns.zip xs).lookup f=some v/\Rep K ca θ F d v
 | [],_,_,_,_,e=>by simp[pF] at e
 | _::_,[],_,_,_,e=>by simp[pF] at e
 | n::ns,d::ds,xs,d',h,e=>by
  unfold aA at h
  obtain⟨v,r,rfl,h1,h2⟩:=h
  unfold pF at e
  rw[Q2,Go]
  by_cases hn:n=f
  ·rw[if_pos hn] at e
   cases e
   subst hn
   exact⟨v,by simp,h1⟩
  ·rw[if_neg hn] at e
   obtain⟨u,e1,e2⟩:=Ba h2 e
   refine⟨u, ?_,e2⟩
   rw[show (f == n)=false by simpa using λz=>hn z.symm]
   exact e1
def oo(c:Nat)(f:Str)(me:EM):EM:=λs=>(me s).bind λx=>match x.1 with
 | .obj J ns ds=>if J=c then (match pF f ns ds with
  | some d=>.ok (d,x.2)
  | none=>.bad) else .bad
 | _=>.bad
theorem BL{f:Str}{ta:TE}(hc:Cls C.K (C.ca c))(hn:fK C.K (C.ca c) f)(h:RdE C ta me):RdE C (LB C.K ta f) (oo c f me):=by
 intro σ H F θ s Q b p
 refine h σ H F θ s _ b (PoR.bind p ?_)
 rintro ⟨x,s1⟩ H1 F1 θ1 _ ab p1 J v U
 dsimp only at p1 J U
 split at p1
 ·rename_i c' ns ds _
  split at p1
  ·rename_i Y
   subst Y
   split at p1
   ·rename_i d e
    unfold Rep at U
    obtain⟨a,dx,xs,rfl,ha,hl,hr⟩:=U
    obtain⟨u,e1,e2⟩:=Ba hr e
    exact⟨a,_,dx,_,u,rfl,J.now.fh _ _ ha,hc,hn,e1,p1 _ _ _ .refl J _ e2⟩
   ·exact lc p1
  ·exact lc p1
 ·exact lc p1
theorem DO(c:Nat)(f:Str)(me:EM)(s:S):oo c f me s=(me s).bind λx=>match x.1 with
 | .obj J ns ds=>if J=c then (match pF f ns ds with
  | some d=>.ok (d,x.2)
  | none=>.bad) else .bad
 | _=>.bad:=rfl
theorem lookup_none{f:Str}:∀{ns:List Str} {xs:List V},f∉ns->(ns.zip xs).lookup f=none
 | [],_,_=>rfl
 | _::_,[],_=>rfl
 | n::ns,x::xs,h=>by
  rw[Q2,Go,show (f == n)=false by simpa using λz=>h (by simp[z])]
  exact lookup_none λz=>h (by simp[z])
theorem AZ{f:Str}{y:V}:∀{ns:List Str} {xs:List V},ns.length=xs.length->f∉ns->i3 f y (ns.zip xs)=(ns++[f]).zip (xs++[y])
 | [],[],_,_=>rfl
 | n::ns,x::xs,hl,h=>by
  rw[Q2]
  unfold i3
  rw[if_neg (λz=>h (by simp[z])),AZ (by simpa using hl) λz=>h (by simp[z])]
  rfl
theorem BS.setI(b:BS K ca σ H F θ s){a dx:Addr}{c:Cell}{cl:Nat}(hk:θ[k]? =some a)(hc:s.o[k]? =some c)(hF:F a=none)(hl:ns.length=xs.length)(hr:aA K ca θ F ds xs):
 Stp H F θ (upd H a (.ins (ca cl) dx (ns.zip xs))) F θ/\BS K ca σ (upd H a (.ins (ca cl) dx (ns.zip xs))) F θ ⟨s.r,s.o.set k (.ins cl ns ds)⟩:=by
 have hm:a∈θ:=x0 hk
 refine⟨⟨bP.refl _,⟨[],by simp,by simp⟩,λe o J hb=> ?_,λe o J=> ?_,λe o J=>.inl J⟩,⟨⟨λe o J=> ?_,b.now.nd,by simpa using b.now.ln,λj a' c' e1 e2=> ?_⟩,b.len,b.sl⟩⟩
 ·have ne:e≠a:=λz=>hb (by rw[z];exact hm)
  rw[aT ne];exact J
 ·by_cases z:e=a
  ·subst z;exact⟨_,cO⟩
  ·exact⟨o,by rw[aT z];exact J⟩
 ·have ne:e≠a:=λz=>by rw[z,hF] at J;cases J
  rw[aT ne]
  exact b.now.fh _ _ J
 ·by_cases U:k=j
  ·subst U
   rw[hk] at e1;cases e1
   have:k<s.o.length:=(t3.mp hc).1
   rw[EX this] at e2
   cases e2
   exact⟨hF,dx,xs,cO,hl,hr⟩
  ·rw[Gc U] at e2
   have q:=b.now.ce j a' c' e1 e2
   have ne:a'≠a:=λz=>by
    subst z
    exact U (qy b.now.nd hk e1)
   cases c' with
   | dead=>obtain⟨o,ho⟩:=q;exact⟨o,by rw[aT ne];exact ho⟩
   | lst ds=>obtain⟨q1,ys,q2,Y⟩:=q;exact⟨q1,ys,by rw[aT ne];exact q2,Y⟩
   | ins c ns ds=>obtain⟨q1,dx,ys,q2,Y⟩:=q;exact⟨q1,dx,ys,by rw[aT ne];exact q2,Y⟩
def rJ(c:Nat)(f:Str)(mo mv:EM):SM:=λs=>(mv s).out λy=>(mo y.2).out λx=>match x.1 with
 | .ptr k=>match x.2.o[k]? with
  | some (.ins c' ns ds)=>if c'=c/\f∉ns/\ns.length<1000 then .next ⟨x.2.r,x.2.o.set k (.ins c (ns++[f]) (ds++[y.1]))⟩ else .bad
  | _=>.bad
 | _=>.bad
theorem Ik(c:Nat)(f:Str)(mo mv:EM)(s:S):rJ c f mo mv s=(mv s).out λy=>(mo y.2).out λx=>match x.1 with
 | .ptr k=>match x.2.o[k]? with
  | some (.ins c' ns ds)=>if c'=c/\f∉ns/\ns.length<1000 then .next ⟨x.2.r,x.2.o.set k (.ins c (ns++[f]) (ds++[y.1]))⟩ else .bad
  | _=>.bad
 | _=>.bad:=rfl
end
section
variable {C : Ct}
theorem yM{f:Str}{ta tv:TE}{mo mv:EM}(hc:Cls C.K (C.ca c))(hn:fK C.K (C.ca c) f)(ho:RdE C ta mo)(hv:RdE C tv mv):RdS C (MB C.K ta tv f) (rJ c f mo mv):=by
 intro σ H F θ s Q b p
 unfold rJ at p
 refine hv σ H F θ s _ b (PoS.out p ?_)
 rintro ⟨y,s1⟩ H1 F1 θ1 _ a1 p1 b1 v r1
 dsimp only at p1 b1 r1
 refine ho σ H1 F1 θ1 s1 _ b1 (PoS.out p1 ?_)
 rintro ⟨x,s2⟩ H2 F2 θ2 _ J p2 Y w r2
 dsimp only at p2 Y r2
 split at p2
 ·rename_i k _
  split at p2
  ·rename_i c' ns ds e
   split at p2
   ·rename_i hh
    obtain⟨rfl,hf,hl⟩:=hh
    unfold Rep at r2
    obtain⟨a,rfl,hk⟩:=r2
    obtain⟨h0,dx,xs,h1,h2,h3⟩:jo C.K C.ca H2 F2 θ2 a (.ins c' ns ds):=Y.now.ce k a _ hk e
    have U:(ns++[f]).length=(xs++[v]).length:=by simp[h2]
    obtain⟨ac,b3⟩:=Y.setI (dx:=dx) (cl:=c') (ns:=ns++[f]) hk e h0 U (h3.append (aA.one (r1.mono J.ff J.pre)))
    refine⟨a,_,dx,_,rfl,h1,hc,hn, ?_, ?_⟩
    ·rw[PV];omega
    ·rw[AZ h2 hf]
     exact p2 σ _ _ _ ac b3
   ·exact lc p2
  ·exact lc p2
 ·exact lc p2
def u6(c n:Nat)(f:FM)(ma:AM):EM:=λs=>(ma s).bind λx=>if aQ x.1=true/\x.1.length=n then (match f (.ptr 0::x.1) [.ins c [] []] with
 | .ok (.non,.ins c' ns ds::_)=>if c'=c/\aQ ds=true then .ok (.obj c ns ds,x.2) else .bad
 | _=>.bad) else .bad
theorem Now.dies{x:Addr}{r:List Addr}(n:Now K ca H F (x::r) (.ins c ns ds::O)):
 ∃dx xs,H x=some (.ins (ca c) dx (ns.zip xs))/\ns.length=xs.length/\aA K ca (x::r) F ds xs/\F x=none/\bP F (upd F x (.ins (ca c) dx (ns.zip xs)))/\Now K ca H (upd F x (.ins (ca c) dx (ns.zip xs))) (x::r) (.dead::O):=by
 obtain⟨h0,dx,xs,h1,h2,h3⟩:jo K ca H F (x::r) x (.ins c ns ds):=n.ce 0 x _ rfl rfl
 have Y:bP F (upd F x (.ins (ca c) dx (ns.zip xs))):=λe o J=>by
  rw[aT (λz=>by rw[z,h0] at J;cases J)];exact J
 refine⟨dx,xs,h1,h2,h3,h0,Y,⟨λe o J=> ?_,n.nd,n.ln,λj U c' e1 e2=> ?_⟩⟩
 ·by_cases z:e=x
  ·subst z;rw[cO] at J;rw[h1];exact J
  ·rw[aT z] at J;exact n.fh _ _ J
 ·cases j with
  | zero=>
   cases e1
   cases e2
   exact⟨_,h1⟩
  | succ j=>
   have q:=n.ce (j+1) U c' e1 e2
   have ne:U≠x:=λz=>by
    subst z
    have:=qy n.nd (show (U::r)[0]? =some U from rfl) e1
    omega
   cases c' with
   | dead=>exact q
   | lst ds=>obtain⟨q1,ys,q2,q3⟩:=q;exact⟨by rw[aT ne];exact q1,ys,q2,q3.mono Y ⟨[],by simp⟩⟩
   | ins c ns ds=>obtain⟨q1,dx,ys,q2,q3,q4⟩:=q;exact⟨by rw[aT ne];exact q1,dx,ys,q2,q3,q4.mono Y ⟨[],by simp⟩⟩
theorem Lq(ha:RdA C ta ma):RdE C (JK (C.ca c) (spM C.K C.ca (n+1) f) [] E ta) (u6 c n f ma):=by
 intro σ H F θ s Q b p
 refine ha σ H F θ s _ b (PoR.bind p ?_)
 rintro ⟨x,s1⟩ H1 F1 θ1 _ a4 p1 Y v r1
 dsimp only at p1 Y r1 ⊢
 split at p1
 ·rename_i hp
  split at p1
  ·rename_i c' ns ds O1 e
   split at p1
   ·rename_i hh
    obtain⟨rfl,am⟩:=hh
    intro y dx hy an a6
    have nx:∀a u,H1 a=some u->a≠y:=λa u e z=>by rw[z,hy] at e;cases e
    have nd:∀a u,H1 a=some u->a≠dx:=λa u e z=>by rw[z,an] at e;cases e
    have Fy:F1 y=none:=by
     cases eF:F1 y with
     | none=>rfl
     | some u=>rw[Y.now.fh y u eF] at hy;cases hy
    have up:∀a u,H1 a=some u->upd (upd H1 dx (.own y)) y (.ins (C.ca c') dx []) a=some u:=λa u e=>by
     rw[aT (nx a u e),aT (nd a u e)];exact e
    have dn:∀a,upd (upd H1 dx (.own y)) y (.ins (C.ca c') dx []) a=none->H1 a=none:=λa z=>by
     cases e:H1 a with
     | none=>rfl
     | some u=>rw[up a u e] at z;cases z
    rw[PB]
    refine⟨F1,[y],.ptr 0::x,[.ins c' [] []],⟨λa u e=>up a u (Y.now.fh a u e),by simp,rfl,λk a cc e1 e2=> ?_⟩,aA.cons (by unfold Rep;exact⟨y,rfl,rfl⟩) (r1.pure hp.1),by simp[hp.2], ?_⟩
    ·cases k with
     | zero=>
      cases e1
      cases e2
      exact⟨Fy,dx,[],cO,rfl,aA.nil⟩
     | succ k=>simp at e1
    ·rw[e]
     intro w H2 F2 θ2 J n2 ap
     refine⟨fN.mp ap, ?_⟩
     obtain⟨r,rfl,hr⟩:=J.th
     obtain⟨U,xs,g1,g2,g3,g4,sF,n3⟩:=Now.dies n2
     have as:Stp H1 F1 [] H2 (upd F2 y (.ins (C.ca c') U (ns.zip xs))) (y::r):=by
      refine⟨J.ff.trans sF,⟨y::r,rfl,λa ha=> ?_⟩,λa o h _=> ?_,λa o h=>J.al a o (up a o h),λa o h=> ?_⟩
      ·rcases sn.mp ha with rfl | z
       ·exact hy
       ·exact dn a (hr a z)
      ·exact J.kp a o (up a o h) (by simpa using nx a o h)
      ·by_cases z:a=y
       ·subst z;exact .inr (.inl hy)
       ·rw[aT z] at h
        rcases J.nf a o h with q | q | q
        ·exact .inl q
        ·exact .inr (.inl (dn a q))
        ·exact absurd (by simpa using q) z
     obtain⟨az,b4⟩:=Y.called as n3
     refine p1 H2 _ θ1 az b4 (.ref y) ?_
     unfold Rep
     exact⟨y,U,xs,rfl,cO,g2,aA.mono (θ:=θ1) sF ⟨[],by simp⟩ (aA.pure am g3)⟩
   ·exact lc p1
  ·exact lc p1
 ·exact lc p1
theorem Ju{s s':S}{args ds:List D}(h:ma s=.ok (args,s'))(hp:aQ args=true)(J:args.length=n)(U:f (.ptr 0::args) [.ins c [] []]=.ok (.non,.ins c ns ds::O))(hd:aQ ds=true):u6 c n f ma s=.ok (.obj c ns ds,s'):=by
 unfold u6
 rw[h,aj]
 dsimp only
 rw[if_pos ⟨hp,J⟩,U]
 dsimp only
 rw[if_pos ⟨rfl,hd⟩]
def methP(c:Nat)(m:Str)(n:Nat)(f:FM)(mo:EM)(ma:AM):EM:=λs=>(mo s).bind λx=>match x.1 with
 | .obj J ns ds=>if J=c/\m∉ns/\aQ ds=true then (ma x.2).bind λy=>if aQ y.1=true/\y.1.length=n then (match f (x.1::y.1) [] with
  | .ok (d,_)=>if cU d=true then .ok (d,y.2) else .bad
  | _=>.bad) else .bad else .bad
 | _=>.bad
theorem kA{m:Str}(ho:RdE C to mo)(ha:RdA C ta ma):RdE C (Fm (C.ca c) m (spM C.K C.ca (n+1) f) [] E to ta) (methP c m n f mo ma):=by
 intro σ H F θ s Q b p
 refine ho σ H F θ s _ b (PoR.bind p ?_)
 rintro ⟨x,s1⟩ H1 F1 θ1 _ a1 p1 Y v U
 dsimp only at p1 Y U ⊢
 split at p1
 ·rename_i c' ns ds _
  split at p1
  ·rename_i hh
   obtain⟨rfl,hm,ab⟩:=hh
   obtain⟨a,dx,xs,rfl,h1,h2,h3⟩:∃a dx xs,v=.ref a/\F1 a=some (.ins (C.ca c') dx (ns.zip xs))/\ns.length=xs.length/\aA C.K C.ca θ1 F1 ds xs:=by unfold Rep at U;exact U
   refine⟨a,dx,_,rfl,Y.now.fh _ _ h1,lookup_none hm,ha σ H1 F1 θ1 s1 _ Y (PoR.bind p1 ?_)⟩
   rintro ⟨y,s2⟩ H2 F2 θ2 _ J p2 b2 w r2
   dsimp only at p2 b2 r2 ⊢
   split at p2
   ·rename_i hp
    rw[PB]
    refine⟨F2,[],.obj c' ns ds::y,[],Now.nil b2.now.fh,aA.cons ((U.mono J.ff J.pre).pure (by unfold cU;exact ab)) (r2.pure hp.1),by simp[hp.2], ?_⟩
    split at p2
    ·rename_i d O1 e
     rw[e]
     intro v H3 F3 θ3 am n3 rv
     obtain⟨an,b4⟩:=b2.called am n3
     split at p2
     ·rename_i hd
      exact p2 H3 F3 _ an b4 v (rv.pure hd)
     ·exact lc p2
    ·exact lc p2
   ·exact lc p2
  ·exact lc p1
 ·exact lc p1
theorem C1{m:Str}{s s1 s2:S}{ds args:List D}(J:mo s=.ok (.obj c ns ds,s1))(hm:m∉ns)(hd:aQ ds=true)(ha:ma s1=.ok (args,s2))(hp:aQ args=true)(U:args.length=n)(Y:f (.obj c ns ds::args) []=.ok (d,O))(hr:cU d=true):
 methP c m n f mo ma s=.ok (d,s2):=by
 unfold methP
 rw[J,aj]
 dsimp only
 rw[if_pos ⟨rfl,hm,hd⟩,ha,aj]
 dsimp only
 rw[if_pos ⟨hp,U⟩,Y]
 dsimp only
 rw[if_pos hr]
def MethAt(P:Program)(w:World)(K:lm)(mg:Str->Option Value)(base:Heap)(ca:Nat->Addr)(J:Nat)(C:Addr)(x:Str)(ps:List Str)(f:FM):Prop:=
 ∃a fd,jX P w K mg base (CXE P w) J a fd ps (spM K ca ps.length f)/\Meth K C x a/\Binds K fd ps []
def Ml(P:Program)(w:World)(K:lm)(mg:Str->Option Value)(base:Heap)(ca:Nat->Addr)(J:Nat)(C:Addr)(x:Str)(ps:List Str)(f:FM):Prop:=
 ∃a fd,jX P w K mg base (CXE P w) J a fd ps (spM K ca ps.length f)/\Mk K C a/\mg x=some (.ref C)/\Binds K fd ps []
end
section
variable {K : lm} {ca : Nat → Addr} {θ : List Addr} {F G : Hp}
end
open Classical in
noncomputable def Pd (F H:Hp)(θ:List Addr):Hp:=λa=>if a∈θ then (match H a with
 | some (.lst xs)=>some (.lst xs)
 | _=>F a) else F a
section
variable {C : Ct}
def pO:List D->ay->Option (List D×ay)
 | [],O=>some ([],O)
 | .ptr k::ds,O=>match O[k]? with
  | some (.lst es)=>match pO ds (O.set k .dead) with
   | some (rs,O1)=>some (.lst es::rs,O1)
   | none=>none
  | _=>none
 | d::ds,O=>match pO ds O with
  | some (rs,O1)=>some (d::rs,O1)
  | none=>none
theorem vZ{σ:L2.St}{H:Hp}{θ:List Addr}{r:List (Option D)}:∀{ds J:List D} {O O1:ay} {F:Hp} {xs:List V},BS C.K C.ca σ H F θ ⟨r,O⟩->aA C.K C.ca θ F ds xs->pO ds O=some (J,O1)->
 ∃F1,Stp H F θ H F1 θ/\BS C.K C.ca σ H F1 θ ⟨r,O1⟩/\aA C.K C.ca θ F1 J xs
 | [],J,O,O1,F,xs,b,hr,e=>by
  cases e
  exact⟨F,.refl,b,hr⟩
 | d::ds,J,O,O1,F,xs,b,hr,e=>by
  have ap:=hr
  unfold aA at hr
  obtain⟨v,q,rfl,h1,h2⟩:=hr
  have other:(match pO ds O with
   | some (J,O1)=>some (d::J,O1)
   | none=>none)=some (J,O1)->∃F1,Stp H F θ H F1 θ/\BS C.K C.ca σ H F1 θ ⟨r,O1⟩/\aA C.K C.ca θ F1 J (v::q):=λe=>by
   split at e
   ·rename_i Y ab e'
    cases e
    obtain⟨F1,st,b1,r1⟩:=vZ b h2 e'
    exact⟨F1,st,b1,aA.cons (h1.mono st.ff st.pre) r1⟩
   ·cases e
  cases d with
  | ptr k=>
   unfold pO at e
   split at e
   ·rename_i es ek
    split at e
    ·rename_i Y ab e'
     cases e
     obtain⟨a,ys,rfl,hk,hF,g1,g2⟩:=iU b h1 ek
     obtain⟨U,b2,r2⟩:=b.frz hk ek hF g1 g2
     obtain⟨F1,st,b1,r1⟩:=vZ b2 (h2.mono U.ff U.pre) e'
     exact⟨F1,U.trans st,b1,aA.cons (r2.mono st.ff st.pre) r1⟩
    ·cases e
   ·cases e
  | _=>exact other e
def yT(m:EM):EM:=λs=>(m s).bind λx=>match x.1 with
 | .tup ds=>match pO ds x.2.o with
  | some (rs,O1)=>.ok (.tup rs,⟨x.2.r,O1⟩)
  | none=>.bad
 | _=>.bad
theorem K6(h:RdE C t m):RdE C t (yT m):=by
 intro σ H F θ s Q b p
 refine h σ H F θ s _ b (PoR.bind p ?_)
 rintro ⟨x,s1⟩ H1 F1 θ1 _ ab p1 Y v U
 dsimp only at p1 Y U
 split at p1
 ·rename_i ds _
  split at p1
  ·rename_i rs O1 e
   unfold Rep at U
   obtain⟨a,xs,rfl,hs,hr⟩:=U
   obtain⟨F2,J,b2,r2⟩:=vZ Y hr e
   refine p1 _ _ _ J b2 _ ?_
   unfold Rep
   exact⟨a,xs,rfl,bP.seqT J.ff hs,r2⟩
  ·exact lc p1
 ·exact lc p1
theorem Lw{s s':S}{ds rs:List D}(h:m s=.ok (.tup ds,s'))(J:pO ds s'.o=some (rs,O1)):yT m s=.ok (.tup rs,⟨s'.r,O1⟩):=by
 unfold yT
 rw[h,aj]
 dsimp only
 rw[J]
end
def clsAt(K:lm)(x:Str):Addr:=match zm K mainGlobals x with
 | some (some (.ref C))=>C
 | _=>0
section
variable {C : Ct}
def nA:OpN:=λ_ xs=>match xs with
 | [.int i,.int j]=>.ok (.int (if j>i then j else i))
 | _=>.bad
theorem uP:j7 C (λxs H Q=>∃i j,xs=[.int i,.int j]/\Q (.int (if j>i then j else i)) H) nA:=by
 intro σ H F θ s xs vs Q b r p
 unfold nA at p
 split at p
 ·rename_i i j
  exact⟨i,j,Ez r,du p b (bu.mpr rfl)⟩
 ·exact lc p
end
section
variable {C : Ct} {Es : L2.St → XK}
end
theorem nr{P:Program}{w:World}:Passes (CXE P w) X E0:=λ_ _ _ _ _ _ _ ⟨_,_,_,_,_,_,_,_,_,z⟩=>z.elim
section
variable {C : Ct}
def Cc(ma J:EM):EM:=λs=>(ma s).bind λx=>(J x.2).bind λy=>match lsD y.2.o x.1,lsD y.2.o y.1 with
 | some a,some b=>if a.length+b.length<=16777216 then .ok (.ptr y.2.o.length,⟨y.2.r,y.2.o++[.lst (a++b)]⟩) else .bad
 | _,_=>.bad
theorem Ll{ta tb:TE}{ma Y:EM}(ha:RdE C ta ma)(hb:RdE C tb Y):RdE C (tOp (AL C.K) ta tb) (Cc ma Y):=by
 intro σ H F θ s Q b p
 refine ha σ H F θ s _ b (PoR.bind p ?_)
 rintro ⟨x,s1⟩ H1 F1 θ1 _ as p1 b1 v r1
 dsimp only at p1 b1 r1
 refine hb σ H1 F1 θ1 s1 _ b1 (PoR.bind p1 ?_)
 rintro ⟨y,s2⟩ H2 F2 θ2 _ J p2 U w r2
 dsimp only at p2 U r2
 split at p2
 ·rename_i a c e1 e2
  split at p2
  ·rename_i hl
   obtain⟨l1,xs,rfl,q1,g1⟩:=eM U (r1.mono J.ff J.pre) e1
   obtain⟨l2,ys,rfl,q2,g2⟩:=eM U r2 e2
   exact .inr (.inr ⟨l1,l2,xs,ys,rfl,rfl,q1,q2,by rw[g1.length,g2.length];exact hl,t9 p2 U (g1.append g2)⟩)
  ·exact lc p2
 ·exact lc p2
end
def uJ:D->Bool
 | .non=>true | .bl _=>true | .int _=>true | .str _=>true | .ptr _=>true | _=>false
def AI:Cell->Bool
 | .dead=>true
 | .lst ds=>ds.all uJ
 | _=>false
theorem Bg{F G:Hp}(h:uJ d=true)(r:Rep K ca θ1 F d v):Rep K ca (θ++θ1) G (shD θ.length d) v:=by
 cases d with
 | non=>unfold shD;unfold Rep at r ⊢;exact r
 | bl b=>unfold shD;unfold Rep at r ⊢;exact r
 | int i=>unfold shD;unfold Rep at r ⊢;exact r
 | str z=>unfold shD;unfold Rep at r ⊢;exact r
 | ptr k=>
  unfold shD
  unfold Rep at r ⊢
  obtain⟨a,e,hk⟩:=r
  exact⟨a,e,by rw[re (Rj _ _),Db];exact hk⟩
 | lst ds=>cases h
 | tup ds=>cases h
 | obj c ns ds=>cases h
 | exn c=>cases h
theorem zM{K:lm}{ca:Nat->Addr}{F G:Hp}{θ θ1:List Addr}:∀{ds:List D} {xs:List V},ds.all uJ=true->aA K ca θ1 F ds xs->aA K ca (θ++θ1) G (fu θ.length ds) xs
 | [],_,_,h=>by unfold fu;unfold aA at h ⊢;exact h
 | d::ds,_,hf,h=>by
  rw[QC,IN] at hf
  unfold fu
  unfold aA at h ⊢
  obtain⟨v,r,e,h1,h2⟩:=h
  exact⟨v,r,e,Bg hf.1 h1,zM hf.2 h2⟩
section
variable {C : Ct}
def xW(n:Nat)(f:FM)(ma:AM):EM:=λs=>(ma s).bind λx=>if aQ (bZ x.2.o (bZ x.2.o x.1))=true/\x.1.length=n then (match f (bZ x.2.o (bZ x.2.o x.1)) [] with
 | .ok (d,O1)=>if uJ d=true/\O1.all AI=true then .ok (shD x.2.o.length d,⟨x.2.r,x.2.o++O1.map (shC x.2.o.length)⟩) else .bad
 | _=>.bad) else .bad
theorem Jc(ha:RdA C ta ma):RdE C (sm (spM C.K C.ca n f) [] E ta) (xW n f ma):=by
 intro σ H F θ s Q b p
 refine ha σ H F θ s _ b (PoR.bind p ?_)
 rintro ⟨x,s1⟩ H1 F1 θ1 _ a1 p1 J v r1
 dsimp only at p1 J r1 ⊢
 split at p1
 ·rename_i hp
  rw[PB]
  have rr:aA C.K C.ca θ1 H1 (bZ s1.o (bZ s1.o x)) v:=kD J.now J.now.fh (bP.refl _) (kD J.now (bP.refl _) J.now.fh r1)
  refine⟨H1,[],bZ s1.o (bZ s1.o x),[],Now.nil (bP.refl _),rr.pure hp.1,by rw[j3,j3];exact hp.2, ?_⟩
  split at p1
  ·rename_i d O1 e
   rw[e]
   intro v H2 F2 θ2 U n2 rv
   split at p1
   ·rename_i sd
    have kp:∀a o,H1 a=some o->H2 a=some o:=λa o h=>U.kp a o h (by simp)
    obtain⟨r,er,hr⟩:=U.th
    rw[vG] at er
    subst er
    refine p1 H2 F1 (θ1++θ2) ⟨bP.refl _,⟨θ2,rfl,hr⟩,λa o h _=>kp a o h,U.al,λa o h=>.inl h⟩ ⟨⟨λa o h=>kp a o (J.now.fh a o h),PZ.mpr ⟨J.now.nd,n2.nd,λa ha x hx=> ?_⟩,by simp[J.now.ln,n2.ln],λk a c e1 e2=> ?_⟩,J.len,λi d e=> ?_⟩ v ?_
    ·rintro rfl
     obtain⟨u,hu⟩:=J.now.there ha
     rw[hr a hx] at hu
     cases hu
    ·by_cases hk:k<θ1.length
     ·rw[tt hk] at e1
      dsimp only at e2
      rw[tt (by rw[<- J.now.ln];exact hk)] at e2
      have w:=J.now.ce k a c e1 e2
      cases c with
      | dead=>obtain⟨o,ho⟩:=w;exact⟨o,kp a o ho⟩
      | lst ds=>obtain⟨q1,ys,q2,Y⟩:=w;exact⟨q1,ys,kp _ _ q2,Y.mono (bP.refl _) ⟨θ2,rfl⟩⟩
      | ins c ns ds=>obtain⟨q1,dx,ys,q2,Y,q4⟩:=w;exact⟨q1,dx,ys,kp _ _ q2,Y,q4.mono (bP.refl _) ⟨θ2,rfl⟩⟩
     ·rw[re (by omega)] at e1
      dsimp only at e2
      rw[re (by rw[<- J.now.ln];omega),sI,<- J.now.ln] at e2
      cases e3:O1[k-θ1.length]? with
      | none=>rw[e3] at e2;cases e2
      | some c'=>
       rw[e3] at e2
       cases e2
       have w:=n2.ce _ a c' e1 e3
       have fc:AI c'=true:=(PM.mp sd.2) c' (x0 e3)
       have am:F1 a=none:=by
        cases ea:F1 a with
        | none=>rfl
        | some o=>
         have h1:=J.now.fh a o ea
         have h2:=hr a (x0 e1)
         rw[h2] at h1;cases h1
       cases c' with
       | dead=>exact w
       | lst ds=>obtain⟨q1,ys,q2,Y⟩:=w;exact⟨am,ys,q2,zM fc Y⟩
       | ins c ns ds=>cases fc
    ·obtain⟨v,h1,h2⟩:=J.sl i d e
     exact⟨v,h1,h2.mono (bP.refl _) ⟨θ2,rfl⟩⟩
    ·rw[<- J.now.ln]
     exact Bg sd.1 rv
   ·exact lc p1
  ·exact lc p1
 ·exact lc p1
end
section
variable {C : Ct}
theorem xJ{K:lm}{ca:Nat->Addr}{θ:List Addr}{F:Hp}:∀{zs:List Str} {xs:List V},aA K ca θ F (zs.map D.str) xs->xs=zs.map V.str
 | [],xs,h=>by unfold aA at h;exact h
 | z::zs,xs,h=>by
  rw[sH] at h
  unfold aA at h
  obtain⟨v,r,rfl,h1,h2⟩:=h
  rw[c9.mp h1,xJ h2];rfl
theorem IZ{H H':Hp}(e:bP H H')(h:SqL K H a xs):SqL K H' a xs:=by
 rcases h with(h | ⟨o,h⟩) | h
 ·exact .inl (.inl (e _ _ h))
 ·exact .inl (.inr ⟨o,e _ _ h⟩)
 ·exact .inr h
end
section
variable {C : Ct}
def Pj(f:Str->Str->Res D)(ms me:EM):EM:=λs=>(ms s).bind λx=>match x.1 with
 | .str z=>(me x.2).bind λy=>match y.1 with
  | .str c=>(f z c).bind λd=>.ok (d,y.2)
  | _=>.bad
 | _=>.bad
def IQ(f:List Str->Str->Res D)(mo me:EM):EM:=λs=>(mo s).bind λx=>match x.1 with
 | .lst ds=>match k6 ds with
  | some zs=>(me x.2).bind λy=>match y.1 with
   | .str c=>(f zs c).bind λd=>.ok (d,y.2)
   | _=>.bad
  | none=>.bad
 | _=>.bad
def AW:List Str->Str->Res D:=λzs c=>if zs.idxOf c<zs.length then .ok (.int (zs.idxOf c:Nat)) else .bad
def CO(mo me:EM):EM:=IQ AW mo me
theorem Mv {f:List Str->Str->Res D} {r:V->List V->Hp->VK->Prop} (ho:RdE C to mo) (he:RdE C te me)
 (hr:∀{σ:L2.St} {H F:Hp} {θ:List Addr} {s:S} {a:Addr} {zs:List Str} {c:Str} {Q:VK},BS C.K C.ca σ H F θ s->SqL C.K H a (zs.map V.str)->PoE C σ H F θ ((f zs c).bind λd=>.ok (d,s)) Q->r (.ref a) [.str c] H Q):
 RdE C (tBM C.K "list" r to (jT te mX)) (IQ f mo me):=by
 intro σ H F θ s Q b p
 refine ho σ H F θ s _ b (PoR.bind p ?_)
 rintro ⟨x,s1⟩ H1 F1 θ1 _ ap p1 U v J
 dsimp only at p1 U J
 split at p1
 ·rename_i ds _
  split at p1
  ·rename_i zs e
   rw[tE e] at J
   unfold Rep at J
   obtain⟨a,xs,rfl,hs,hx⟩:=J
   rw[xJ hx] at hs
   refine⟨.inl ⟨rfl,_,U.now.fh.seq hs⟩,he σ H1 F1 θ1 s1 _ U (PoR.bind p1 ?_)⟩
   rintro ⟨y,s2⟩ H2 F2 θ2 _ Y p2 b2 w r2
   dsimp only at p2 b2 r2
   split at p2
   ·rename_i c _
    cases c9.mp r2
    exact hr b2 (b2.now.fh.seq (IZ Y.ff hs)) p2
   ·exact lc p2
  ·exact lc p1
 ·exact lc p1
theorem IC(J:RdE C to mo)(U:RdE C te me):RdE C (tBM C.K "list" (GZ C.K) to (jT te mX)) (CO mo me):=Mv J U λ{σ H F θ s a zs c Q} b hs p=>by
 unfold AW at p
 split at p
 ·rename_i h
  exact⟨a,zs,c,rfl,rfl,hs,h,du p b (bu.mpr rfl)⟩
 ·exact lc p
end
section
variable {C : Ct}
def n8:List D->Option (List Int)
 | []=>some []
 | .int i::r=>match n8 r with
  | some l=>some (i::l)
  | none=>none
 | _=>none
theorem zF:∀{ds:List D} {ns:List Int},n8 ds=some ns->ds=ns.map D.int
 | [],ns,h=>by cases h;rfl
 | d::ds,ns,h=>by
  cases d <;> first | (simp[n8] at h;done) | skip
  rename_i i
  unfold n8 at h
  split at h
  ·rename_i l e
   cases h
   rw[zF e];rfl
  ·cases h
theorem xS:∀ns:List Int,n8 (ns.map D.int)=some ns
 | []=>rfl
 | n::ns=>by
  rw[sH]
  unfold n8
  rw[xS ns]
def xr(O:ay)(d:D):Option (List Int):=match lsD O d with
 | some ds=>n8 ds
 | none=>none
theorem Gk{ns:List Int}(b:BS C.K C.ca σ H F θ s)(r:Rep C.K C.ca θ F d v)(e:xr s.o d=some ns):∃a,v=.ref a/\SqL C.K H a (ns.map V.int):=by
 unfold xr at e
 split at e
 ·rename_i ds J
  obtain⟨a,xs,rfl,hs,hr⟩:=eM b r J
  rw[zF e] at hr
  rw[qU hr] at hs
  exact⟨a,rfl,hs⟩
 ·cases e
def keyed(O:ay):List D->Option (List (D×List Int))
 | []=>some []
 | d::ds=>match xr O d,keyed O ds with
  | some ns,some r=>some ((d,ns)::r)
  | _,_=>none
theorem Ac{σ:L2.St}{H F:Hp}{θ:List Addr}{s:S}(b:BS C.K C.ca σ H F θ s):∀{ds:List D} {U:List (D×List Int)} {xs:List V},keyed s.o ds=some U->aA C.K C.ca θ F ds xs->
 ∃J:List ((Addr×D)×List Int),U=J.map (λx=>(x.1.2,x.2))/\xs=J.map (λx=>V.ref x.1.1)/\∀x∈J,SqL C.K H x.1.1 (x.2.map V.int)/\Rep C.K C.ca θ F x.1.2 (.ref x.1.1)
 | [],U,xs,e,r=>by
  cases e
  unfold aA at r
  subst r
  exact⟨[],rfl,rfl,λx hx=>by cases hx⟩
 | d::ds,U,xs,e,r=>by
  unfold keyed at e
  split at e
  ·rename_i ns k2 e1 e2
   cases e
   unfold aA at r
   obtain⟨v,Y,rfl,h1,h2⟩:=r
   obtain⟨a,rfl,hs⟩:=Gk b h1 e1
   obtain⟨J,q1,q2,q3⟩:=Ac b e2 h2
   refine⟨((a,d),ns)::J,by rw[q1];rfl,by rw[q2];rfl,λx hx=> ?_⟩
   rcases sn.mp hx with rfl | hx
   ·exact⟨hs,h1⟩
   ·exact q3 x hx
  ·cases e
theorem D0{K:lm}{ca:Nat->Addr}{θ:List Addr}{F:Hp}:∀{J:List ((Addr×D)×List Int)},(∀x∈J,Rep K ca θ F x.1.2 (.ref x.1.1))->aA K ca θ F (J.map λx=>x.1.2) (J.map λx=>V.ref x.1.1)
 | [],_=>aA.nil
 | x::J,h=>aA.cons (h x pi) (D0 λy hy=>h y (ol _ hy))
def uE(fin:S->List D->Res (D×S))(me:EM):EM:=λs=>(me s).bind λx=>match lsD x.2.o x.1 with
 | some ds=>match keyed x.2.o ds with
  | some J=>if J.length<64/\(J.map (·.2)).Nodup then fin x.2 ((ey J).map (·.1)) else .bad
  | none=>.bad
 | none=>.bad
theorem Kz {fin:S->List D->Res (D×S)} (he:RdE C te me)
 (hf:∀σ H F θ s ds xs Q,BS C.K C.ca σ H F θ s->aA C.K C.ca θ F ds xs->PoE C σ H F θ (fin s ds) Q->∀q,H q=none->Q (.ref q) (upd H q (.lst xs))):RdE C (tCB (wg C.K) (jT te mX)) (uE fin me):=by
 intro σ H F θ s Q b p
 refine he σ H F θ s _ b (PoR.bind p ?_)
 rintro ⟨x,s1⟩ H1 F1 θ1 _ an p1 J v U
 dsimp only at p1 J U
 split at p1
 ·rename_i ds el
  split at p1
  ·rename_i kd ek
   split at p1
   ·rename_i hc
    obtain⟨a,xs,rfl,hs,hr⟩:=eM J U el
    obtain⟨Y,rfl,rfl,q3⟩:=Ac J ek hr
    have n1:∀l:List ((Addr×D)×List Int),ey (l.map λx=>(x.1.1,x.2))=(ey l).map λx=>(x.1.1,x.2):=mD λ_=>rfl
    have n2:∀l:List ((Addr×D)×List Int),ey (l.map λx=>(x.1.2,x.2))=(ey l).map λx=>(x.1.2,x.2):=mD λ_=>rfl
    refine⟨a,Y.map λx=>(x.1.1,x.2),rfl,by rw[ss];exact hs,λy hy=> ?_,by have:=hc.1;rw[nW] at this ⊢;exact this,by have:=hc.2;rw[ss] at this ⊢;exact this, ?_⟩
    ·obtain⟨x,hx,rfl⟩:=li.mp hy
     exact(q3 x hx).1
    ·rw[n2,ss] at p1
     rw[n1,ss]
     exact hf σ H1 F1 θ1 s1 _ _ Q J (D0 λx hx=>(q3 x ((gu Y).mem_iff.mp hx)).2) p1
   ·exact lc p1
  ·exact lc p1
 ·exact lc p1
theorem Ht(J:RdE C te me):RdE C (tCB (wg C.K) (jT te mX)) (uE pR me):=Kz J λσ H F θ s ds xs Q b r p=>t9 p b r
end
section
variable {C : Ct}
end
section
variable {C : Ct}
abbrev IX:=S->Res ((List D×(ay->Prop))×S)
def HH(C:Ct)(wi:TI)(im:IX):Prop:=∀σ H F θ s R,BS C.K C.ca σ H F θ s->
 PoR C H F θ (im s) (λy H1 F1 θ1=>BS C.K C.ca σ H1 F1 θ1 y.2->∀J,sN C J y.1.1 y.1.2 H1 F1 θ1->R J H1)->wi σ H R
theorem lsN{H F H2 J:Hp}{θ θ2:List Addr}{U:ay}(st:Stp H F θ H2 J θ2)(n:Now C.K C.ca H2 J θ2 U)(r:Rep C.K C.ca θ F x v)(e:lsD U x=some ds):∃a xs,v=.ref a/\SqL C.K H2 a xs/\aA C.K C.ca θ2 J ds xs:=by
 replace r:=r.mono st.ff st.pre
 cases x <;> first | (simp[lsD] at e;done) | skip
 ·cases e
  unfold Rep at r
  obtain⟨a,xs,rfl,hs,hr⟩:=r
  exact⟨a,xs,rfl,n.fh.seq hs,hr⟩
 ·rename_i k
  unfold Rep at r
  obtain⟨a,rfl,hk⟩:=r
  unfold lsD at e
  dsimp only at e
  split at e
  ·rename_i Y ek
   cases e
   obtain⟨_,xs,h1,h2⟩:jo C.K C.ca H2 J θ2 a (.lst ds):=n.ce k a _ hk ek
   exact⟨a,xs,rfl,SqL.of h1,h2⟩
  ·cases e
def Bj(m:AM):IX:=λs=>(m s).bind λx=>match x.1 with
 | [a,b]=>match lsD x.2.o a,lsD x.2.o b with
  | some as,some bs=>.ok ((kB as bs,λO=>lsD O a=some as/\lsD O b=some bs),x.2)
  | _,_=>.bad
 | _=>.bad
theorem Kd{a b:Addr}{as bs:List D}{H F:Hp}(r1:Rep C.K C.ca θ F x (.ref a))(r2:Rep C.K C.ca θ F y (.ref b)):
 sN C (Itz C.K a b) (kB as bs) (λO=>lsD O x=some as/\lsD O y=some bs) H F θ where
 go:=λi H2 F2 θ2 O2 hi st n ok=>by
  obtain⟨_,_,e1,e2,_⟩:=rB (na hi)
  obtain⟨_,xs,q,h1,k1⟩:=lsN st n r1 ok.1
  cases q
  obtain⟨_,ys,q,h2,k2⟩:=lsN st n r2 ok.2
  cases q
  obtain⟨v,q1,_⟩:=k1.get e1
  obtain⟨w,q2,_⟩:=k2.get e2
  exact⟨xs,ys,v,w,h1,h2,q1,q2⟩
 yl:=λi d σ H2 F2 θ2 s2 z H3 hd st b ok hy=>by
  obtain⟨T,v,w,hT,rfl,rfl,hv,hw⟩:=hy
  obtain⟨_,_,e1,e2,rfl⟩:=rB hd
  obtain⟨_,xs,q,h1,k1⟩:=lsN st b.now r1 ok.1
  cases q
  obtain⟨_,ys,q,h2,k2⟩:=lsN st b.now r2 ok.2
  cases q
  obtain⟨v',q1,k1⟩:=k1.get e1
  obtain⟨w',q2,k2⟩:=k2.get e2
  have:=hv xs h1
  rw[q1] at this
  cases this
  have:=hw ys h2
  rw[q2] at this
  cases this
  obtain⟨st3,b3,sF,e3⟩:=b.newF hT (.tup [v,w])
  refine⟨_,st3,b3, ?_⟩
  unfold Rep
  exact⟨T,[v,w],rfl,SqT.of e3,aA.cons (k1.mono st3.ff st3.pre) (aA.one (k2.mono st3.ff st3.pre))⟩
 st:=λi H2 F2 θ2 O2 hi st n ok=>by
  obtain⟨_,xs,q,h1,k1⟩:=lsN st n r1 ok.1
  cases q
  obtain⟨_,ys,q,h2,k2⟩:=lsN st n r2 ok.2
  cases q
  refine⟨xs,ys,h1,h2, ?_⟩
  unfold kB at hi
  rw[Po] at hi
  rw[k1.length,k2.length]
  omega
theorem KR{m:AM}(h:RdA C ta m):HH C (Ih C.K ta) (Bj m):=by
 intro σ H F θ s R b p
 refine h σ H F θ s _ b (PoR.bind p ?_)
 rintro ⟨x,s1⟩ H1 F1 θ1 _ am p1 J v Y
 dsimp only at p1 J Y
 split at p1
 ·rename_i x y
  split at p1
  ·rename_i as bs e1 e2
   obtain⟨v1,v2,rfl,k1,k2⟩:=JW Y
   obtain⟨a,xs,rfl,hs,hr⟩:=eM J k1 e1
   obtain⟨b',ys,rfl,U,ap⟩:=eM J k2 e2
   exact⟨a,b',rfl,⟨xs,hs⟩,⟨ys,U⟩,p1 _ _ _ .refl J _ (Kd k1 k2)⟩
  ·exact lc p1
 ·exact lc p1
noncomputable def xb (m:Nat)(caps:List Nat)(im:IX)(g:GM)(c:TM)(e:EM):S->Res (List D×S):=λs=>(im s).bind λy=>
 (dv y.1.2 g c e y.1.1 [] ⟨lL m caps y.2.r,y.2.o⟩).bind λz=>.ok (z.1,⟨y.2.r,z.2.o⟩)
theorem He {m:Nat} {caps:List Nat} {im:IX} {c:TM} (hi:HH C wi im) (hg:RdG C g gm) (hc:RdT C tc c) (he:RdE C te e)
 {σ:L2.St} {H F:Hp} {θ:List Addr} {s:S} {Q:VK} (b:BS C.K C.ca σ H F θ s)
 (p:PoR C H F θ (xb m caps im gm c e s) λy H1 F1 θ1=>BS C.K C.ca σ H1 F1 θ1 y.2->∀q xs,H q=none->H1 q=some (.lst xs)->F1 q=none->q∉θ1->aA C.K C.ca θ1 F1 y.1 xs->Q (.ref q) H1):qQ m caps wi g tc te σ H Q:=by
 refine hi σ H F θ s _ b (PoR.bind p ?_)
 rintro ⟨⟨ds,k⟩,s1⟩ H1 F1 θ1 _ b8 p1 b1 J it q hq
 dsimp only at p1 b1 it
 have b9:Stp H1 F1 θ1 (upd H1 q (.lst [])) F1 θ1:=by
  have nm:∀a u,H1 a=some u->a≠q:=λa u e z=>by rw[z,hq] at e;cases e
  exact⟨bP.refl _,⟨[],by simp,by simp⟩,λa u h _=>by rw[aT (nm a u h)];exact h,λa u h=>⟨u,by rw[aT (nm a u h)];exact h⟩,λa u h=>.inl h⟩
 have qθ:q∉θ1:=λh=>by obtain⟨u,hu⟩:=b1.now.there h;rw[hq] at hu;cases hu
 have qF:F1 q=none:=by
  cases e:F1 q with
  | none=>rfl
  | some u=>rw[b1.now.fh q u e] at hq;cases hq
 have cc:H q=none:=by
  cases e:H q with
  | none=>rfl
  | some u=>obtain⟨u',e'⟩:=b8.al q u e;rw[hq] at e';cases e'
 have keep:∀{H2 F2 H3 F3:Hp} {θ2 θ3:List Addr} {o:HO},Stp H2 F2 θ2 H3 F3 θ3->H2 q=some o->F2 q=none->q∉θ2->H3 q=some o/\F3 q=none/\q∉θ3:=λ{H2 F2 H3 F3 θ2 θ3 o} st h1 h2 h3=>by
  refine⟨st.kp q o h1 h3, ?_, ?_⟩
  ·cases e:F3 q with
   | none=>rfl
   | some u=>
    rcases st.nf q u e with z | z | z
    ·rw[h2] at z;cases z
    ·rw[h1] at z;cases z
    ·exact absurd z h3
  ·obtain⟨r,rfl,hr⟩:=st.th
   intro hm
   rcases sE.mp hm with z | z
   ·exact h3 z
   ·rw[hr q z] at h1;cases h1
 have bw:∀{σ':L2.St} {H2 F2:Hp} {θ2:List Addr} {s2:S} (o:HO),BS C.K C.ca σ' H2 F2 θ2 s2->F2 q=none->q∉θ2->BS C.K C.ca σ' (upd H2 q o) F2 θ2 s2:=λ{σ' H2 F2 θ2 s2} o b h1 h2=>by
  have ne:∀a,a∈θ2->a≠q:=λa h z=>h2 (z▸h)
  refine⟨⟨λa u h=> ?_,b.now.nd,b.now.ln,λj a c e1 e2=> ?_⟩,b.len,b.sl⟩
  ·have:a≠q:=λz=>by rw[z,h1] at h;cases h
   rw[aT this];exact b.now.fh a u h
  ·have hm:=ne a (x0 e1)
   have w:=b.now.ce j a c e1 e2
   cases c with
   | dead=>obtain⟨u,hu⟩:=w;exact⟨u,by rw[aT hm];exact hu⟩
   | lst ds=>obtain⟨q1,ys,q2,q3⟩:=w;exact⟨q1,ys,by rw[aT hm];exact q2,q3⟩
   | ins c ns ds=>obtain⟨q1,dx,ys,q2,q3,q4⟩:=w;exact⟨q1,dx,ys,by rw[aT hm];exact q2,q3,q4⟩
 have cn:∀{H2 F2:Hp} {θ2:List Addr} (o:HO),Stp H1 F1 θ1 H2 F2 θ2->Stp H1 F1 θ1 (upd H2 q o) F2 θ2:=λ{H2 F2 θ2} o st=>by
  have nm:∀a u,H1 a=some u->a≠q:=λa u e z=>by rw[z,hq] at e;cases e
  exact⟨st.ff,st.th,λa u h1 h2=>by rw[aT (nm a u h1)];exact st.kp a u h1 h2,λa u h1=>by rw[aT (nm a u h1)];exact st.al a u h1,st.nf⟩
 refine⟨λi n U σ' H'=>n=ds.length-i/\i<=ds.length/\∃F' θ' s' as,Stp H1 F1 θ1 H' F' θ'/\H' q=some (.lst U)/\F' q=none/\q∉θ'/\BS C.K C.ca σ' H' F' θ' s'/\aA C.K C.ca θ' F' as U/\
  PoR C H1 F1 θ1 ((dv (k) gm c e (ds.drop i) as s').bind λz=>.ok (z.1,(⟨s1.r,z.2.o⟩:S))) (λy H1 F1 θ1=>BS C.K C.ca σ H1 F1 θ1 y.2->∀q xs,H q=none->H1 q=some (.lst xs)->F1 q=none->q∉θ1->aA C.K C.ca θ1 F1 y.1 xs->Q (.ref q) H1),
  ⟨ds.length,by simp,Bs _,F1,θ1,⟨lL m caps s1.r,s1.o⟩,[],b9,cO,qF,qθ,bw _ (Hf b1 m caps) qF qθ,aA.nil,by simpa using p1⟩, ?_⟩
 rintro i n U σ' H' ⟨rfl,db,F',θ',s',as,st,hq',bz,b2,bs,a5,Y⟩
 by_cases lt:i<ds.length
 ·right
  rw[Ch lt,dv] at Y
  split at Y
  ·rename_i a6
   refine⟨it.go i H' F' θ' s'.o lt st bs.now a6.1, ?_⟩
   intro x H3 hy
   obtain⟨F3,a8,b3,rp⟩:=it.yl i ds[i] σ' H' F' θ' s' x H3 (na lt) st bs a6.1 hy
   obtain⟨k1,k2,k3⟩:=keep a8 hq' bz b2
   have am:=st.trans a8
   have a9:=PoR.after am Y
   have w1:PoG C H3 F3 θ' (gm ds[i] s') (λσ4 H4=>tc σ4 H4 λb H4=>if b=true then
    te σ4 H4 λy H5=>H5 q=some (.lst U)/\U.length<sizeLine/\∃k',k'<ds.length-i/\(k'=ds.length-(i+1)/\i+1<=ds.length/\∃F' θ' s' as,Stp H1 F1 θ1 (upd H5 q (.lst (U++[y]))) F' θ'/\(upd H5 q (.lst (U++[y]))) q=some (.lst (U++[y]))/\F' q=none/\q∉θ'/\BS C.K C.ca σ4 (upd H5 q (.lst (U++[y]))) F' θ' s'/\aA C.K C.ca θ' F' as (U++[y])/\
     PoR C H1 F1 θ1 ((dv (k) gm c e (ds.drop (i+1)) as s').bind λz=>.ok (z.1,(⟨s1.r,z.2.o⟩:S))) (λy H1 F1 θ1=>BS C.K C.ca σ H1 F1 θ1 y.2->∀q xs,H q=none->H1 q=some (.lst xs)->F1 q=none->q∉θ1->aA C.K C.ca θ1 F1 y.1 xs->Q (.ref q) H1))
    else ∃k',k'<ds.length-i/\(k'=ds.length-(i+1)/\i+1<=ds.length/\∃F' θ' s' as,Stp H1 F1 θ1 H4 F' θ'/\H4 q=some (.lst U)/\F' q=none/\q∉θ'/\BS C.K C.ca σ4 H4 F' θ' s'/\aA C.K C.ca θ' F' as U/\
     PoR C H1 F1 θ1 ((dv (k) gm c e (ds.drop (i+1)) as s').bind λz=>.ok (z.1,(⟨s1.r,z.2.o⟩:S))) (λy H1 F1 θ1=>BS C.K C.ca σ H1 F1 θ1 y.2->∀q xs,H q=none->H1 q=some (.lst xs)->F1 q=none->q∉θ1->aA C.K C.ca θ1 F1 y.1 xs->Q (.ref q) H1))):=by
    cases e1:gm ds[i] s' with
    | bad=>rw[e1] at a9;exact a9
    | exc a1 a2 a3=>rw[e1] at a9;exact a9
    | ok s4=>
     rw[e1] at Y
     intro H4 F4 θ4 an σ4 b4
     obtain⟨l1,l2,l3⟩:=keep an k1 k2 k3
     refine hc σ4 H4 F4 θ4 s4 _ b4 ?_
     cases e2:c s4 with
     | bad=>rw[aj,e2] at Y;exact Y
     | exc a1 a2 a3=>rw[aj,e2] at Y;exact PoR.after (am.trans an) Y
     | ok x5=>
      obtain⟨kk,s5⟩:=x5
      rw[aj,e2,aj] at Y
      intro H5 F5 θ5 ap b5
      obtain⟨m1,m2,m3⟩:=keep ap l1 l2 l3
      have a7:=((a5.mono a8.ff a8.pre).mono an.ff an.pre).mono ap.ff ap.pre
      cases kk with
      | false=>
       exact tD ⟨ds.length-(i+1),by omega,rfl,by omega,F5,θ5,s5,as,am.trans (an.trans ap),m1,m2,m3,b5,a7,by simpa using Y⟩
      | true=>
       refine t6 (he σ4 H5 F5 θ5 s5 _ b5 ?_)
       dsimp only[if_true] at Y
       cases e3:e s5 with
       | bad=>rw[e3] at Y;exact Y
       | exc a1 a2 a3=>rw[e3] at Y;exact PoR.after (am.trans (an.trans ap)) Y
       | ok x6=>
        obtain⟨y,s6⟩:=x6
        rw[e3,aj] at Y
        intro H6 F6 θ6 bb b6 w r6
        obtain⟨n1,n2,n3⟩:=keep bb m1 m2 m3
        exact⟨n1,by rw[a5.length];exact a6.2,ds.length-(i+1),by omega,rfl,by omega,F6,θ6,s6,as++[y],cn _ (am.trans (an.trans (ap.trans bb))),cO,n2,n3,bw _ b6 n2 n3,(a7.mono bb.ff bb.pre).append (aA.one r6),Y⟩
   exact hg σ' H3 F3 θ' s' ds[i] x _ b3 rp w1
  ·exact lc Y
 ·left
  rw[Qe (by omega),dv] at Y
  split at Y
  ·rename_i a6
   refine⟨it.st i H' F' θ' s'.o (by omega) st bs.now a6,hq', ?_⟩
   refine Y H' F' θ' st ⟨bs.now,b1.len,λj d e=> ?_⟩ q U cc hq' bz b2 a5
   obtain⟨v,h1,h2⟩:=b1.sl j d e
   exact⟨v,h1,h2.mono st.ff st.pre⟩
  ·exact lc Y
noncomputable def tF (m:Nat)(caps:List Nat)(im:IX)(g:GM)(c:TM)(e:EM):EM:=λs=>(xb m caps im g c e s).bind λy=>.ok (.lst y.1,y.2)
theorem FG{m:Nat}{im:IX}{c:TM}(hi:HH C wi im)(hg:RdG C g gm)(hc:RdT C tc c)(he:RdE C te e):RdE C (qQ m caps wi g tc te) (tF m caps im gm c e):=by
 intro σ H F θ s Q b p
 refine He hi hg hc he b ?_
 unfold tF at p
 cases e1:xb m caps im gm c e s with
 | bad=>rw[e1] at p;exact p
 | exc a1 a2 a3=>rw[e1] at p;exact p
 | ok y=>
  rw[e1,aj] at p
  intro H1 F1 θ1 J U q xs h0 h1 h2 h3 hr
  have Y:bP F1 (upd F1 q (.lst xs)):=λa u h=>by
   rw[aT (λz=>by rw[z,h2] at h;cases h)];exact h
  refine p H1 (upd F1 q (.lst xs)) θ1 ⟨J.ff.trans Y,J.th,J.kp,J.al,λa u h=> ?_⟩ ⟨⟨λa u h=> ?_,U.now.nd,U.now.ln,λj a c e2 e3=> ?_⟩,U.len,λi d e2=> ?_⟩ (.ref q) ?_
  ·by_cases z:a=q
   ·subst z;exact .inr (.inl h0)
   ·rw[aT z] at h;exact J.nf a u h
  ·by_cases z:a=q
   ·subst z;rw[cO] at h;rw[h1];exact h
   ·rw[aT z] at h;exact U.now.fh a u h
  ·have ne:a≠q:=λz=>h3 (z▸x0 e2)
   have w:=U.now.ce j a c e2 e3
   cases c with
   | dead=>exact w
   | lst ds=>obtain⟨q1,ys,q2,q3⟩:=w;exact⟨by rw[aT ne];exact q1,ys,q2,q3.mono Y ⟨[],by simp⟩⟩
   | ins c ns ds=>obtain⟨q1,dx,ys,q2,q3,q4⟩:=w;exact⟨by rw[aT ne];exact q1,dx,ys,q2,q3,q4.mono Y ⟨[],by simp⟩⟩
  ·obtain⟨v,w1,w2⟩:=U.sl i d e2
   exact⟨v,w1,w2.mono Y ⟨[],by simp⟩⟩
  ·unfold Rep
   exact⟨q,xs,rfl,SqL.of cO,hr.mono Y ⟨[],by simp⟩⟩
end
section
variable {C : Ct}
end
end M
namespace L2
open PySem PySem.Spec PyProof.Rows
structure Np(k:Nat)(A:Around):Prop where
 dp:A.depth+3*k+5<recursionLimit
 un:A.units+16*k+200<cLine
structure Pe(P:Program)(w:World)(K:lm)(mg:Str->Option Value)(base:Heap)(CX:CXT)(k:Nat)(f:Addr)(fd:FuncData)(ps:List Str)(sp:Sp):Prop where
 len:∀vs H Q E,sp vs H Q E->vs.length=ps.length
 run:∀(A:Around) (outer:List Env) (s:Shared) (H:Hp) (args:Args) (us:List Value) (vs:List V) (Q:VK) (E:XK),Np k A->sV P w K mg base A outer s H->BindsTo s fd args (ps.zip us)->Vals vs us->sp vs H Q E->
  codeAny (model P w) A (.call (.ref f) args) (CR CX outer P w H s Q E) s
section
variable {X : Cx} {CX : CXT} {k : Nat} {f C : Addr} {fd : FuncData} {ps : List Str} {sp : Sp} {dvs : List V} {ds : List Value} {E : XK} {x m : Str} {p pos apos : Pos} {e o : Expr} {es : List Expr} {ta : TE} {t : TA}
end
section
variable {P : Program} {w : World} {K : lm} {mg : Str → Option Value} {base : Heap}
end
end L2
namespace M
open PySem PySem.Spec PyProof.Rows L2
variable {mo me m : EM} {k n a b c e : Nat} {d : D} {ds0 ds : List D} {st : Stmt} {i j : Int} {O O1 : ay} {g : GM} {body A B : SM} {r row goal s l x y z h w : List Int} {left rows R : List (List Int)} {P L : List (Nat × List Int)} {p : Nat × List Int} {ma : AM}
section
variable {C : Ct}
def ux(mo me:EM):EM:=λs=>(mo s).bind λx=>match fT x.2.o x.1 with
 | some _=>(me x.2).bind λy=>match fT y.2.o x.1 with
  | some (k,ds)=>if ds.length<16777216 then .ok (.non,⟨y.2.r,y.2.o.set k (.lst (y.1::ds))⟩) else .bad
  | none=>.bad
 | none=>.bad
theorem J5{to te:TE}(ho:RdE C to mo)(he:RdE C te me):RdE C (tBM C.K "list" JS to (jT (tC (.int 0)) (jT te mX))) (ux mo me):=by
 intro σ H F θ s Q b p
 refine ho σ H F θ s _ b (PoR.bind p ?_)
 rintro ⟨x,s1⟩ H1 F1 θ1 _ a1 p1 U v Y
 dsimp only at p1 U Y
 split at p1
 ·rename_i kd e
  obtain⟨rfl,e'⟩:=kR (k:=kd.1) (ds:=kd.2) e
  obtain⟨a,xs,rfl,hk,_,h1,_⟩:=iU U Y e'
  refine⟨.inl ⟨rfl,xs,SqL.of h1⟩,he σ H1 F1 θ1 s1 _ U (PoR.bind p1 ?_)⟩
  rintro ⟨y,s2⟩ H2 F2 θ2 _ J p2 b2 w r2
  dsimp only at p2 b2 r2
  split at p2
  ·rename_i k ds e2
   obtain⟨ek,e2⟩:=kR e2
   cases ek
   obtain⟨a',ys,ea,ac,hF,h2,hr⟩:=iU b2 (Y.mono J.ff J.pre) e2
   cases ea
   split at p2
   ·rename_i hl
    obtain⟨am,b3⟩:=b2.setC ac e2 hF (aA.cons r2 hr)
    exact⟨a,ys,w,rfl,rfl,h2,by rw[hr.length];exact hl,p2 _ _ _ am b3 _ (fN.mpr rfl)⟩
   ·exact lc p2
  ·exact lc p2
 ·exact lc p1
end
theorem Mh{s s1:S}{R:List (Option D)}{O O':ay}(h1:mo s=.ok (.ptr k,s1))(J:s1.o[k]? =some (.lst ds0))(h2:me s1=.ok (d,⟨R,O⟩))(U:O[k]? =some (.lst ds))(hb:ds.length<=1000000)(Y:O.set k (.lst (d::ds))=O'):ux mo me s=.ok (.non,⟨R,O'⟩):=by
 subst Y
 unfold ux
 rw[h1]
 show (match fT s1.o (.ptr k) with | some _=>_ | none=>_)=_
 have e1:fT s1.o (.ptr k)=some (k,ds0):=by unfold fT;simp only[J]
 have e2:fT O (.ptr k)=some (k,ds):=by unfold fT;simp only[U]
 rw[e1]
 show (me s1).bind _=_
 rw[h2]
 show (match fT O (.ptr k) with | some (k,ds)=>_ | none=>_)=_
 rw[e2]
 show (if ds.length<16777216 then _ else _)=_
 rw[if_pos (by omega)]
section
variable {C : Ct} {Es : L2.St → XK}
end
structure Ev where
 P:Program
 w:World
 K:lm
 mg:Str->Option Value
 base:Heap
 ca:Nat->Addr
abbrev DIn(e:Ev)(J:Nat)(x:Str)(ps:List Str)(f:FM):Prop:=JX e.P e.w e.K e.mg e.base e.ca J x ps f
abbrev N0(e:Ev)(x:Str):Prop:=e.mg x=none
def FA(e:Ev)(x:Str)(st:Stmt):Prop:=∃a fd,Fun e.K x x st a fd/\e.mg x=some (.ref a)
def FK(K:lm)(x:Str)(st:Stmt):Prop:=∃(f:Addr) (J:Value) (U:Option Addr) (kV Y pm:Value) (an:Option Addr) (cd ct:Value) (sl:Array (Option Value)),zm K mainGlobals x=some (some (.ref f))/\
 K.lookup f=some ⟨J,U,.func (At x x (fj st) (d3 st) (aL st) .none kV Y pm an cd ct),sl⟩/\Pu K cd x=true/\Do K (.ref f)=true
theorem FK.fa{e:Ev}{h:Heap}{x:Str}(X:e.K.In h)(G:h.Ns mainGlobals e.mg)(k:FK e.K x st):FA e x st:=by
 obtain⟨f,J,U,kV,Y,pm,an,cd,ct,sl,a,l,c,kp⟩:=k
 exact⟨f,_,qg l c kp,P7 X G a⟩
abbrev tY(x:Str)(ps:List Str)(st:Stmt):Prop:=∀(kV J Y:Value) (an:Option Addr) (U ct:Value) (us:List Value),us.length=ps.length->bindArgs (At x x (fj st) (d3 st) (aL st) .none kV J Y an U ct) ⟨us,[]⟩=pure (ps.zip us)
theorem bd1{x p0:Str}(h:∀(kV J pm:Value) (an:Option Addr) (U ct Y:Value),bindArgs (At x x (fj st) (d3 st) (aL st) .none kV J pm an U ct) ⟨[Y],[]⟩=pure [(p0,Y)]):tY x [p0] st:=λkV J pm an U ct us hl=>match us,hl with | [Y],_=>h kV J pm an U ct Y
theorem bd2{x p0 p1:Str}(h:∀(kV J pm:Value) (an:Option Addr) (U ct Y u1:Value),bindArgs (At x x (fj st) (d3 st) (aL st) .none kV J pm an U ct) ⟨[Y,u1],[]⟩=pure [(p0,Y),(p1,u1)]):tY x [p0,p1] st:=λkV J pm an U ct us hl=>match us,hl with | [Y,u1],_=>h kV J pm an U ct Y u1
theorem bd3{x p0 p1 p2:Str}(h:∀(kV J pm:Value) (an:Option Addr) (U ct Y u1 u2:Value),bindArgs (At x x (fj st) (d3 st) (aL st) .none kV J pm an U ct) ⟨[Y,u1,u2],[]⟩=pure [(p0,Y),(p1,u1),(p2,u2)]):tY x [p0,p1,p2] st:=λkV J pm an U ct us hl=>match us,hl with | [Y,u1,u2],_=>h kV J pm an U ct Y u1 u2
theorem bd4{x p0 p1 p2 p3:Str}(h:∀(kV J pm:Value) (an:Option Addr) (U ct Y u1 u2 u3:Value),bindArgs (At x x (fj st) (d3 st) (aL st) .none kV J pm an U ct) ⟨[Y,u1,u2,u3],[]⟩=pure [(p0,Y),(p1,u1),(p2,u2),(p3,u3)]):tY x [p0,p1,p2,p3] st:=λkV J pm an U ct us hl=>match us,hl with | [Y,u1,u2,u3],_=>h kV J pm an U ct Y u1 u2 u3
theorem bE {e:Ev} {x:Str} {N ps:List Str} {m:SM} (F:FA e x st) (S:ba N ps (aL st)) (hn:N.length=n) (hk:32<=k) (hb:tY x ps st)
 (hm:∀(f:Addr) (J:Value) (A:Around) (outer:List Env) (s:Shared) (H:Hp) (E:XK),fb k (A.deeper (envOfC x (aL st) s.heap.objs.size f J))->(A.deeper (envOfC x (aL st) s.heap.objs.size f J)).units+64<cLine->(A.deeper (envOfC x (aL st) s.heap.objs.size f J)).depth+100<recursionLimit->
  ∃t,PSs (ua (CXE e.P e.w) e.P e.w e.K e.mg e.base N x (aL st) f J A outer s H E).nox (d3 st) t/\RdS ⟨e.K,e.ca,W0⟩ t m):DIn e (k+1) x ps (runM n m):=by
 obtain⟨a,fd,F,U⟩:=F
 exact⟨a,fd,qu F S hn λJ A outer s H E hr=>hm a J A outer s H E hr hr.units (va hr hk),U,F.kp,F.binds hb⟩
def N6(X:Cx)(P:Program)(w:World)(K:lm)(mg:Str->Option Value)(base:Heap):Prop:=X.prog=P/\X.w=w/\X.K=K/\X.mg=mg/\X.base=base
theorem cE{N P:List Str}{sc:Scope}(J:N.Nodup:=by decide +kernel)(U:N.take P.length=P:=by rfl)(Y:∀x∈P,sc.names.lookup x=some .local\/sc.names.lookup x=some .cell:=by decide +kernel)(h7:∀y∈sc.names,y.2≠ .free:=by decide +kernel)(h1:sc.kind=.function:=by rfl)(h2:sc.isCoroutine=false:=by rfl)(h3:sc.isGenerator=false:=by rfl):ba N P sc:=⟨h1,h2,h3,J,U,Y,h7⟩
theorem ndL(a b:List Str)(h:(a++b).Nodup:=by decide +kernel):(a++b).Nodup:=h
theorem scC{X:Cx}{scope:Scope}{own cap:List Str}{caps:List Nat}(J:kT X scope cap caps)(h1:scope.kind=.function:=by rfl)(h2:∀y∈scope.names,y.2=.cell->scope.names.lookup y.1=some .cell:=by decide +kernel)(U:∀y∈scope.names,y.2=.local->scope.names.lookup y.1=some .local:=by decide +kernel)(Y:∀y∈scope.names,y.2=.free->y.1∈cap:=by decide +kernel)(h6:(own++cap).Nodup:=by decide +kernel):mO X scope own cap caps:=⟨h1,h2,U,Y,J,h6⟩
section
variable {X : Cx} {P : Program} {w : World} {K : lm} {mg : Str → Option Value} {base : Heap} {ca : Nat → Addr} {k j : Nat} {x : Str} {ps : List Str} {f : FM} {e : Expr} {es : List Expr} {t : TA} {p pos : Pos} {Es : L2.St → XK}
theorem aK(D:JX P w K mg base ca k x ps f)(hr:fb j X.A)(ha:PA X (e::es) t)(Y:k<=j:=by decide)(hX:N6 X P w K mg base:=by exact⟨rfl,rfl,rfl,rfl,rfl⟩)(hg:Gl X x:=by rfl)(J:(x == ("__debug__" :Str))=false:=by decide)(he:starEach (e::es) X.env=(false,eval e X.env)::starEach es X.env:=by rfl)(U:(backTo pos (starEach es X.env)).any (·.1)=false:=by rfl):
 PE X (.Call (.Name x p) (e::es) [] pos) (sm (spM K ca ps.length f) [] E0 t):=by
 obtain⟨rfl,rfl,rfl,rfl,rfl⟩:=hX
 obtain⟨a,fd,G,m,k,b⟩:=D
 exact Lc G (hr.mono Y) hg m k b .nil nr ha J he U
end
section
variable {C : Ct}
end
section
variable {C : Ct}
end
@[simp] theorem NF (ds:List D) (O:ay):okC ds none O=True:=rfl
@[simp] theorem NR (ds:List D) (k:Nat) (O:ay):okC ds (some k) O=(O[k]? =some (.lst ds)):=rfl
theorem D2(h:i.natAbs<2^n):Builtin.Int.intBits i<=n:=by
 unfold Builtin.Int.intBits
 split
 ·exact Bs _
 ·rename_i h0
  have hp:i.natAbs≠0:=by
   intro z
   apply h0
   simpa using z
  have:=(Nat.log2_lt hp).mpr h
  omega
def Sz(n:Nat)(i:Int):Prop:=i.natAbs<2^n
theorem Sz.mono{m n:Nat}(h:Sz m i)(J:m<=n):Sz n i:=wh h (M2 (by decide) J)
theorem jk{m n:Nat}(hm:m<=60000000)(hn:n<=60000000)(h:Sz m i)(h':Sz n j):IntMulOk i j:=by
 have h1:=D2 h
 have h2:=D2 h'
 have e:Builtin.Int.intTooBig (Builtin.Int.intBits i+Builtin.Int.intBits j)=false:=by
  unfold Builtin.Int.intTooBig
  rw[bitsLine_eq]
  exact decide_eq_false (by omega)
 unfold IntMulOk
 rw[e]
 simp
theorem fJ(h:i.natAbs<2^64\/j.natAbs<2^64):IntMulOk i j:=by
 rcases h with h | h
 ·exact .of_left (intBits_le_64 (by omega) (by omega))
 ·exact .of_right (intBits_le_64 (by omega) (by omega))
theorem Sz.mul{m n:Nat}(h:Sz m i)(h':Sz n j):Sz (m+n) (i*j):=by
 unfold Sz at *
 rw[RC,R3]
 exact Nat.mul_lt_mul'' h h'
theorem Sz.add{m n:Nat}(h:Sz m i)(h':Sz n j):Sz (max m n+1) (i+j):=by
 unfold Sz at *
 have h1:=wh h (M2 (by decide) (Nat.le_max_left m n))
 have h2:=wh h' (M2 (by decide) (Nat.le_max_right m n))
 have J:(i+j).natAbs<=i.natAbs+j.natAbs:=R0 i j
 rw[RN]
 omega
theorem rV(h:0<j):i.fdiv j=i/j:=Int.fdiv_eq_ediv_of_nonneg i (RO h)
theorem HY(h:0<j):i.fmod j=i%j:=Int.fmod_eq_emod_of_nonneg i (RO h)
section
variable {O : ay}
@[simp] theorem nV (i j:Int):iB O (.int i) (.int j)=.ok (.int (i-j)):=rfl
@[simp] theorem cy (i j:Int):br O (.int i) (.int j)=.ok (.int (i+j)):=rfl
@[simp] theorem N5 (i j:Int):NK O (.int i) (.int j)=.ok (.int (i+j)):=rfl
@[simp] theorem nM (i j:Int):ltD O (.int i) (.int j)=.ok (.bl (decide (i<j))):=rfl
@[simp] theorem Oh (i j:Int):leD O (.int i) (.int j)=.ok (.bl (decide (i<=j))):=rfl
@[simp] theorem DT (i j:Int):gtD O (.int i) (.int j)=.ok (.bl (decide (j<i))):=rfl
@[simp] theorem OK (i j:Int):geD O (.int i) (.int j)=.ok (.bl (decide (j<=i))):=rfl
@[simp] theorem qW (i:Int):ir O (.int i)=.ok (.int (-i)):=rfl
@[simp] theorem nK (i j:Int):eqD O (.int i) (.int j)=.ok (.bl (decide (i=j))):=rfl
@[simp] theorem OC (i j:Int):neD O (.int i) (.int j)=.ok (.bl (!decide (i=j))):=rfl
@[simp] theorem Ks (i j:Str):eqD O (.str i) (.str j)=.ok (.bl (decide (i=j))):=rfl
@[simp] theorem Ox (i j:Str):neD O (.str i) (.str j)=.ok (.bl (!decide (i=j))):=rfl
@[simp] theorem O7 (i j:Bool):eqD O (.bl i) (.bl j)=.ok (.bl (decide (i=j))):=rfl
@[simp] theorem OL (i j:Bool):neD O (.bl i) (.bl j)=.ok (.bl (!decide (i=j))):=rfl
theorem dJ(h:IntMulOk i j):dM O (.int i) (.int j)=.ok (.int (i*j)):=if_pos h
theorem pf(h:j≠0):gj O (.int i) (.int j)=.ok (.int (i.fdiv j)):=if_pos h
theorem vE(h:0<j)(h2:j<1073741824):gj O (.int i) (.int j)=.ok (.int (i/j)):=by
 rw[pf (by omega),rV h]
theorem f7(h:0<j):gO O (.int i) (.int j)=.ok (.int (i%j)):=by
 rw[<- HY h];exact if_pos (by omega)
theorem Ip(h:0<=j)(h2:j<=1000000)(J:i.natAbs<2^64):wW O (.int i) (.int j)=.ok (.int (i^j.toNat)):=if_pos ⟨h,h2,J⟩
@[simp] theorem NY (i:Int):vX O [.int i]=.ok (.int (i.natAbs:Int)):=by
 show Res.ok (D.int (if i<0 then -i else i))=_
 congr 2
 split <;> omega
@[simp] theorem gL (ds:List D):cf O [.lst ds]=.ok (.int ds.length):=rfl
@[simp] theorem NW (ds:List D):cf O [.tup ds]=.ok (.int ds.length):=rfl
theorem Cz{x:Str}(h:x.length<=16777216):cf O [.str x]=.ok (.int x.length):=if_pos h
@[simp] theorem oS (ds:List D):kj O [.lst ds]=.ok (.lst ds):=rfl
@[simp] theorem Ny (ds:List D):kj O [.tup ds]=.ok (.lst ds):=rfl
@[simp] theorem NB (i:Int):intOf O [.int i]=.ok (.int i):=rfl
@[simp] theorem wN (b:Bool):intOf O [.bl b]=.ok (.int (if b then 1 else 0)):=rfl
@[simp] theorem OJ (c:String) (i:Int):lN c O (.int i)=.ok (.bl (fF "int" c)):=rfl
@[simp] theorem OT (c:String) (i:Bool):lN c O (.bl i)=.ok (.bl (fF "bool" c)):=rfl
@[simp] theorem Of (c:String) (i:Str):lN c O (.str i)=.ok (.bl (fF "str" c)):=rfl
@[simp] theorem Ob (c:String) (i:List D):lN c O (.lst i)=.ok (.bl (fF "list" c)):=rfl
@[simp] theorem Oc (c:String) (i:List D):lN c O (.tup i)=.ok (.bl (fF "tuple" c)):=rfl
@[simp] theorem OF (c:String):lN c O .non=.ok (.bl (fF "NoneType" c)):=rfl
@[simp] theorem Pc:fF "int" "int" =true:=by decide
@[simp] theorem ON:fF "int" "bool" =false:=by decide
@[simp] theorem OZ:fF "bool" "bool" =true:=by decide
@[simp] theorem OW:fF "bool" "int" =true:=by decide
@[simp] theorem O6:fF "list" "list" =true:=by decide
@[simp] theorem sub_tt:fF "tuple" "tuple" =true:=by decide
@[simp] theorem sub_lt:fF "list" "tuple" =false:=by decide
@[simp] theorem OS:fF "tuple" "list" =false:=by decide
@[simp] theorem Pa:fF "str" "int" =false:=by decide
@[simp] theorem OV:fF "NoneType" "int" =false:=by decide
theorem nP(h:atI ds i=some d):ixD O (.lst ds) (.int i)=.ok d:=by
 show (match lsD O (D.lst ds) with
  | some ds=>match atI ds i with
   | some d=>Res.ok d
   | none=>.bad
  | none=>.bad)=_
 rw[lO]
 dsimp only
 rw[h]
theorem nH(h:atI ds i=some d):ixD O (.tup ds) (.int i)=.ok d:=by
 show (
  match atI ds i with
  | some d=>Res.ok d
  | none=>.bad)=_
 rw[h]
theorem ot{α:Type}{l:List α}(h0:0<=i)(h1:i<l.length):atI l i=some (l[i.toNat]'(by omega)):=by
 unfold atI ixN
 rw[if_pos h0,if_pos h1]
 show l[i.toNat]? =_
 exact na _
theorem qO:∀ns:List Int,iq (ns.map D.int)=some (ns.map PyData.int)
 | []=>by simp[iq]
 | n::ns=>by simp[iq,toPy,qO ns]
theorem pq:∀ns:List Int,bZ O (ns.map D.int)=ns.map D.int
 | []=>by simp[bZ]
 | n::ns=>by simp[bZ,res,pq ns]
theorem pY:∀ns:List Int,PyData.canLayAll0 (ns.map PyData.int)=true
 | []=>by simp[PyData.canLayAll0]
 | n::ns=>by simp[PyData.canLayAll0,PyData.canLay0,pY ns]
theorem rH:∀ns:List Int,PyData.depthAll (ns.map PyData.int)=0
 | []=>by simp[PyData.depthAll]
 | n::ns=>by simp[PyData.depthAll,PyData.depth,rH ns]
theorem shaped_ints(ns:List Int):SeqAt.shaped (.list (ns.map PyData.int))=true:=by
 simp[SeqAt.shaped,PyData.canLay0,pY,PyData.depth,rH]
theorem wL:∀ns ms:List Int,PyData.eqvAll (ns.map PyData.int) (ms.map PyData.int)=decide (ns=ms)
 | [],[]=>by simp[PyData.eqvAll]
 | [],_::_=>by simp[PyData.eqvAll]
 | _::_,[]=>by simp[PyData.eqvAll]
 | a::r,b::t=>by
  simp only[sH,PyData.eqvAll,PyData.eqv,wL r t]
  by_cases h:a=b <;> by_cases h':r=t <;> simp[h,h']
theorem B4(ns ms:List Int):eqB O (.lst (ns.map D.int)) (.lst (ms.map D.int))=some (decide (ns=ms)):=by
 show gv O _ _=_
 unfold gv
 simp only[res,pq,toPy,qO,IH]
 rw[if_pos ⟨shaped_ints ns,shaped_ints ms⟩]
 simp only[PyData.eqv,wL]
@[simp] theorem NJ (ns ms:List Int):eqD O (.lst (ns.map D.int)) (.lst (ms.map D.int))=.ok (.bl (decide (ns=ms))):=by unfold eqD;rw[B4]
@[simp] theorem NM (ns ms:List Int):neD O (.lst (ns.map D.int)) (.lst (ms.map D.int))=.ok (.bl (!decide (ns=ms))):=by unfold neD;rw[B4]
theorem tu:∀ns:List Int,aQ (ns.map D.int)=true
 | []=>by simp[aQ]
 | n::ns=>by simp[aQ,cU,tu ns]
@[simp] theorem M3 (ns:List Int):cU (.lst (ns.map D.int))=true:=by simp[cU,tu]
end
noncomputable def uX:SM:=aM (setM 2 (ao gO (aa 0) (aa 1))) (aM (setM 0 (aa 1)) (setM 1 (aa 2)))
theorem Hl{a b:Int}{x:Option D}(hb:0<b):uX ⟨[some (.int a),some (.int b),x],O⟩=.next ⟨[some (.int b),some (.int (a%b)),some (.int (a%b))],O⟩:=by
 simp[uX,aM,setM,lb,ax,ao,aa,f7 hb]
theorem zk{c:TM}(hc:∀(a b:Int) x O,0<=b->c ⟨[some (.int a),some (.int b),x],O⟩=.ok (decide (b≠0),⟨[some (.int a),some (.int b),x],O⟩)):
 ∀(n:Nat) (a b:Int) x O,0<=a->0<=b->b.natAbs<n->∃y,kF c uX n ⟨[some (.int a),some (.int b),x],O⟩=.next ⟨[some (.int (PN a.natAbs b.natAbs:Nat)),some (.int 0),y],O⟩
 | 0,_,_,_,_,_,_,h=>by omega
 | n+1,a,b,x,O,ha,hb,hn=>by
  rw[kF,hc a b x O hb,kb]
  by_cases h:b=0
  ·subst h
   refine⟨x, ?_⟩
   have e:((PN a.natAbs (0:Int).natAbs:Nat):Int)=a:=by
    rw[Int.natAbs_zero,Nat.gcd_zero_right]
    omega
   rw[e]
   simp
  ·have hb':0<b:=by omega
   have h1:0<=a%b:=PX a h
   have h2:a%b<b:=Px a hb'
   obtain⟨y,e⟩:=zk hc n b (a%b) (some (.int (a%b))) O hb h1 (by omega)
   refine⟨y, ?_⟩
   simp only[h,ne_eq,not_false_eq_true,decide_true,if_true,Hl hb']
   rw[e]
   have e2:(a%b).natAbs=a.natAbs%b.natAbs:=by
    have:((a%b).natAbs:Int)=((a.natAbs%b.natAbs:Nat):Int):=by
     rw[QM h1,Int.natCast_emod,QM ha,QM hb]
    omega
   rw[e2,<- Nat.gcd_rec' a.natAbs b.natAbs]
where Nat.gcd_rec' (m n:Nat):PN m n=PN n (m%n):=by
        rw[Nat.gcd_comm m n,Nat.gcd_rec n m,Nat.gcd_comm]
noncomputable def EO:SM:=aM (setM 0 (bo vX (ae (aa 0) ak))) (aM (setM 1 (bo vX (ae (aa 1) ak))) (aM (xv (λs=>yU 1 s) (bg (ao neD (aa 1) (aq (.int 0)))) uX) (bJ (aa 0))))
theorem I0(a b:Int)(O:ay):∃s,EO ⟨[some (.int a),some (.int b),none],O⟩=.ret (.int (Rb a b:Nat)) s/\s.o=O:=by
 obtain⟨y,e⟩:=zk (c:=bg (ao neD (aa 1) (aq (.int 0)))) (λa b x O h=>by simp[bg,ao,aa,aq]) (b.natAbs+1) (a.natAbs:Int) (b.natAbs:Int) none O (by omega) (by omega) (by omega)
 refine⟨⟨[some (.int (Rb a b:Nat)),some (.int 0),y],O⟩, ?_,rfl⟩
 simp only[Qs] at e
 simp[EO,aM,setM,lb,ax,bo,ae,ak,aa,xv,yU,e,bJ,Rb]
theorem cS{m:SM}{s:S}(h:m ⟨ds.map some++pr (n-ds.length) none,O⟩=.ret d s):runM n m ds O=.ok (d,s.o):=by
 unfold runM;rw[h]
theorem Gd(a b:Int):runM 3 EO [.int a,.int b] []=.ok (.int (Rb a b:Nat),[]):=by
 obtain⟨s,e,J⟩:=I0 a b []
 rw[cS (s:=s) (by exact e),J]
def cI(ns:List Int):Nat:=ns.foldl (λc n=>PN c n.natAbs) 0
theorem sG:∀(ns:List Int) (c:Nat),ns.foldl (λc n=>PN c n.natAbs) c ∣ c/\∀n∈ns,ns.foldl (λc n=>PN c n.natAbs) c ∣ n.natAbs
 | [],c=>⟨Nat.dvd_refl _,by simp⟩
 | m::ns,c=>by
  obtain⟨h1,h2⟩:=sG ns (PN c m.natAbs)
  rw[PD]
  refine⟨Su h1 (Nat.gcd_dvd_left _ _),λn hn=> ?_⟩
  rcases sn.mp hn with rfl | hn
  ·exact Su h1 (Nat.gcd_dvd_right _ _)
  ·exact h2 n hn
theorem Bu{ns:List Int}{n:Int}(h:n∈ns):((cI ns:Nat):Int) ∣ n:=QJ.mp (by rw[Qs];exact(sG ns 0).2 n h)
theorem sv(g:Nat)(J:0<g):∀(ns:List Int) (c:Nat),g ∣ c->(∀n∈ns,(g:Int) ∣ n)->
 (ns.map (· / (g:Int))).foldl (λc n=>PN c n.natAbs) (c/g)=ns.foldl (λc n=>PN c n.natAbs) c/g
 | [],c,_,_=>rfl
 | m::ns,c,hc,h=>by
  have hm:g ∣ m.natAbs:=by
   have:=QJ.mpr (h m pi)
   rwa [Qs] at this
  have e:(m/(g:Int)).natAbs=m.natAbs/g:=by
   obtain⟨k,rfl⟩:=h m pi
   rw[Qt _ (by omega:(g:Int)≠0),RC,Qs,Nat.mul_div_cancel_left _ J]
  rw[sH,PD,PD,e,Nat.gcd_div hc hm]
  exact sv g J ns _ (Nat.dvd_gcd hc hm) λn hn=>h n (ol _ hn)
theorem IT{ns:List Int}(h:0<cI ns):cI (ns.map (· / (cI ns:Int)))=1:=by
 have:=sv (cI ns) h ns 0 (Nat.dvd_zero _) λn hn=>Bu hn
 rw[Nat.zero_div] at this
 rw[show cI (ns.map (· / (cI ns:Int)))=(ns.map (· / (cI ns:Int))).foldl (λc n=>PN c n.natAbs) 0 from rfl,this]
 exact Nat.div_self h
section
variable {s s1 : S} {d : D}
@[simp] theorem ag {i:Nat} (h:s.r[i]? =some (some d)):aa i s=.ok (d,s):=by unfold aa;rw[h]
@[simp] theorem aC (d:D) (s:S):aq d s=.ok (d,s):=rfl
@[simp] theorem dH (f:Op2) (a b:EM) (s:S):ao f a b s=(a s).bind λx=>(b x.2).bind λy=>(f y.2.o x.1 y.1).bind λd=>.ok (d,y.2):=rfl
@[simp] theorem Mj (f:Op1) (a:EM) (s:S):unM f a s=(a s).bind λx=>(f x.2.o x.1).bind λd=>.ok (d,x.2):=rfl
@[simp] theorem aG (s:S):ak s=.ok ([],s):=rfl
@[simp] theorem aV (m:EM) (r:AM) (s:S):ae m r s=(m s).bind λx=>(r x.2).bind λy=>.ok (x.1::y.1,y.2):=rfl
@[simp] theorem iV (f:OpN) (m:AM) (s:S):bo f m s=(m s).bind λx=>(f x.2.o x.1).bind λd=>.ok (d,x.2):=rfl
@[simp] theorem yH (m:AM) (s:S):k5 m s=(m s).bind λx=>if x.1.length<=16777216 then .ok (.tup x.1,x.2) else .bad:=rfl
@[simp] theorem D9 (m:AM) (s:S):g6 m s=(m s).bind λx=>if x.1.length<=16777216 then .ok (.lst x.1,x.2) else .bad:=rfl
@[simp] theorem KD (m:AM) (s:S):iZ m s=(m s).bind λx=>if x.1.length<=16777216 then .ok (.ptr x.2.o.length,⟨x.2.r,x.2.o++[.lst x.1]⟩) else .bad:=rfl
@[simp] theorem hE (m:EM) (s:S):bg m s=(m s).bind λx=>match x.1 with
 | .bl b=>.ok (b,x.2)
 | _=>.bad:=rfl
@[simp] theorem Ly (a b:TM) (s:S):pH a b s=(a s).bind λx=>if x.1 then b x.2 else .ok (false,x.2):=rfl
@[simp] theorem um (a b:TM) (s:S):orT a b s=(a s).bind λx=>if x.1 then .ok (true,x.2) else b x.2:=rfl
@[simp] theorem qj (a:TM) (s:S):qB a s=(a s).bind λx=>.ok (!x.1,x.2):=rfl
@[simp] theorem Od (a b:EM) (s:S):Ib a b s=(a s).bind λx=>match x.1 with
 | .bl true=>b x.2
 | .bl false=>.ok (.bl false,x.2)
 | _=>.bad:=rfl
@[simp] theorem OX (a b:EM) (s:S):orV a b s=(a s).bind λx=>match x.1 with
 | .bl true=>.ok (.bl true,x.2)
 | .bl false=>b x.2
 | _=>.bad:=rfl
@[simp] theorem OD (a:EM) (s:S):HF a s=(a s).bind λx=>match x.1 with
 | .bl k=>.ok (.bl (!k),x.2)
 | _=>.bad:=rfl
@[simp] theorem uB (a b:SM) (s:S):aM a b s=(a s).then b:=rfl
@[simp] theorem d8 (s:S):cF s=.next s:=rfl
@[simp] theorem NU (m:EM) (s:S):dk m s=(m s).out λx=>.next x.2:=rfl
@[simp] theorem Oj (m:EM) (s:S):bJ m s=(m s).out λx=>.ret x.1 x.2:=rfl
@[simp] theorem Oy (s:S):NT s=.ret .non s:=rfl
@[simp] theorem OP (c:TM) (a b:SM) (s:S):ifS c a b s=(c s).out λx=>if x.1 then a x.2 else b x.2:=rfl
@[simp] theorem O9 (c:TM) (a b:EM) (s:S):ifM c a b s=(c s).bind λx=>if x.1 then a x.2 else b x.2:=rfl
@[simp] theorem CD (i:Nat) (d:D) (s:S):ax i d s=.ok ⟨s.r.set i (some d),s.o⟩:=rfl
@[simp] theorem yt (m:EM) (g:GM) (s:S):lb m g s=((m s).bind λx=>g x.1 x.2).out λs=>.next s:=rfl
@[simp] theorem OE (i:Nat) (f:Op2) (m:EM) (s:S):NO i f m s=lb (ao f (aa i) m) (ax i) s:=rfl
@[simp] theorem HI (s:S):bF s=.ok (true,s):=rfl
@[simp] theorem zB (s:S):gc s=.ok (none,s):=rfl
@[simp] theorem yV (m:EM) (s:S):part m s=(m s).bind λx=>match x.1 with
 | .int i=>.ok (some i,x.2)
 | _=>.bad:=rfl
@[simp] theorem FL (me:EM) (J U:OM) (s:S):slM me J U s=(me s).bind λx=>(J x.2).bind λl=>(U l.2).bind λh=>match lsD h.2.o x.1 with
 | some ds=>.ok (.lst (cutD ds l.1 h.1),h.2)
 | none=>.bad:=rfl
@[simp] theorem cM (m:EM) (s:S):listI m s=(m s).bind λx=>(itemsOf x.2.o x.1).bind λy=>.ok (y,x.2):=rfl
@[simp] theorem MZ (O:ay) (ds:List D):itemsOf O (.lst ds)=.ok (ds,none):=rfl
theorem K8(im:IM)(g:GM)(body:SM)(s:S):fv im g body s=(im s).out λy=>cv (okC y.1.1 y.1.2) g body y.1.1 y.2:=rfl
theorem qZ(m:Nat)(caps:List Nat)(im:IM)(g:GM)(c:TM)(e:EM)(s:S):lZ m caps im g c e s=(im s).bind λy=>
 (dv (okC y.1.1 y.1.2) g c e y.1.1 [] ⟨lL m caps y.2.r,y.2.o⟩).bind λz=>.ok (z.1,⟨y.2.r,z.2.o⟩):=rfl
theorem lK(m:Nat)(caps:List Nat)(im:IM)(g:GM)(c:TM)(e:EM)(s:S):bD m caps im g c e s=(lZ m caps im g c e s).bind λy=>.ok (.lst y.1,y.2):=rfl
theorem Bn(m:Nat)(caps:List Nat)(im:IM)(g:GM)(c:TM)(e:EM)(s:S):kh m caps im g c e s=(lZ m caps im g c e s).bind λy=>.ok (.ptr y.2.o.length,⟨y.2.r,y.2.o++[.lst y.1]⟩):=rfl
@[simp] theorem IJ (n:Nat) (f:FM) (m:AM) (s:S):aN n f m s=(m s).bind λx=>if aQ x.1=true/\x.1.length=n then (match f x.1 [] with
 | .ok (d,_)=>if cU d=true then .ok (d,x.2) else .bad
 | _=>.bad) else .bad:=rfl
@[simp] theorem Ig (n:Nat) (f:FM) (m:AM) (s:S):dU n f m s=(m s).bind λx=>if aQ x.1=true/\x.1.length=n then (match f x.1 [] with
 | .ok (d,O1)=>.ok (shD x.2.o.length d,⟨x.2.r,x.2.o++O1.map (shC x.2.o.length)⟩)
 | _=>.bad) else .bad:=rfl
@[simp] theorem NN (n:Nat) (f:FM) (m:AM) (s:S):kc n f m s=(m s).bind λx=>if aQ (bZ x.2.o (bZ x.2.o x.1))=true/\x.1.length=n then (match f (bZ x.2.o (bZ x.2.o x.1)) [] with
 | .ok (d,_)=>if nk d=true then .ok (d,x.2) else .bad
 | _=>.bad) else .bad:=rfl
@[simp] theorem Je (m:EM) (s:S):AR m s=(m s).bind λx=>match uW x.2.o x.1 with
 | some ds=>.ok (.ptr x.2.o.length,⟨x.2.r,x.2.o++[.lst ds]⟩)
 | none=>.bad:=rfl
@[simp] theorem KL (m:EM) (s:S):hU m s=(m s).bind λx=>match fT x.2.o x.1 with
 | some (k,ds)=>.ok (.lst ds,⟨x.2.r,x.2.o.set k .dead⟩)
 | none=>.bad:=rfl
@[simp] theorem Ka (mo me:EM) (s:S):gr mo me s=(mo s).bind λx=>match fT x.2.o x.1 with
 | some _=>(me x.2).bind λy=>match fT y.2.o x.1 with
  | some (k,ds)=>if ds.length<16777216 then .ok (.non,⟨y.2.r,y.2.o.set k (.lst (ds++[y.1]))⟩) else .bad
  | none=>.bad
 | none=>.bad:=rfl
@[simp] theorem lQ (h:O[k]? =some (.lst ds)):lsD O (.ptr k)=some ds:=by unfold lsD;simp only[h]
@[simp] theorem kx (h:O[k]? =some (.lst ds)):fT O (.ptr k)=some (k,ds):=by unfold fT;simp only[h]
@[simp] theorem FE (O:ay) (ds:List D):uW O (.lst ds)=some ds:=rfl
@[simp] theorem NA (O:ay) (ds:List D):uW O (.tup ds)=some ds:=rfl
@[simp] theorem Nx (h:O[k]? =some (.lst ds)):uW O (.ptr k)=some ds:=by show lsD O (.ptr k)=_;exact lQ h
@[simp] theorem vx (h:O[k]? =some (.lst ds)):itemsOf O (.ptr k)=.ok (ds,some k):=by unfold itemsOf;simp only[h]
@[simp] theorem ib (n k:Nat):shD n (.ptr k)=.ptr (n+k):=by unfold shD;rfl
@[simp] theorem Fn:aQ []=true:=by unfold aQ;rfl
@[simp] theorem gN (d:D) (ds:List D):aQ (d::ds)=(cU d&&aQ ds):=by conv=>lhs;unfold aQ
@[simp] theorem zN (i:Int):cU (.int i)=true:=by unfold cU;rfl
@[simp] theorem NX (i:Bool):cU (.bl i)=true:=by unfold cU;rfl
@[simp] theorem Nz (i:Str):cU (.str i)=true:=by unfold cU;rfl
@[simp] theorem Nv:cU .non=true:=by unfold cU;rfl
@[simp] theorem kH (ds:List D):cU (.lst ds)=aQ ds:=by conv=>lhs;unfold cU
@[simp] theorem NC (ds:List D):cU (.tup ds)=aQ ds:=by conv=>lhs;unfold cU
@[simp] theorem M0 (ns:List Int):aQ (ns.map D.int)=true:=tu ns
@[simp] theorem KP (O:ay) (i:Int):res O (.int i)=.int i:=by unfold res;rfl
@[simp] theorem OU (O:ay) (i:Bool):res O (.bl i)=.bl i:=by unfold res;rfl
@[simp] theorem OA (O:ay) (i:Str):res O (.str i)=.str i:=by unfold res;rfl
@[simp] theorem OG (O:ay):res O .non=.non:=by unfold res;rfl
@[simp] theorem jW (O:ay) (ds:List D):res O (.lst ds)=.lst (bZ O ds):=by conv=>lhs;unfold res
@[simp] theorem J6 (O:ay) (ds:List D):res O (.tup ds)=.tup (bZ O ds):=by conv=>lhs;unfold res
@[simp] theorem nN (h:O[k]? =some (.lst ds)):res O (.ptr k)=.lst ds:=by conv=>lhs;unfold res;simp only[h]
@[simp] theorem qL (O:ay):bZ O []=[]:=by unfold bZ;rfl
@[simp] theorem oX (O:ay) (d:D) (ds:List D):bZ O (d::ds)=res O d::bZ O ds:=by conv=>lhs;unfold bZ
@[simp] theorem qT (O:ay) (ns:List Int):bZ O (ns.map D.int)=ns.map D.int:=pq ns
@[simp] theorem N8 (b:Bool):nk (.bl b)=true:=rfl
@[simp] theorem Nu (b:Int):nk (.int b)=true:=rfl
@[simp] theorem Nw (b:Str):nk (.str b)=true:=rfl
@[simp] theorem K7 (h:O[k]? =some (.lst ds)) (c:String):lN c O (.ptr k)=.ok (.bl (fF "list" c)):=by
 unfold lN tyD;simp only[h]
@[simp] theorem o6 (n:Nat):∀ns:List Int,fu n (ns.map D.int)=ns.map D.int
 | []=>by simp[fu]
 | m::ns=>by simp[fu,shD,o6 n ns]
@[simp] theorem nO (n:Nat) (ds:List D):shC n (.lst ds)=.lst (fu n ds):=rfl
theorem jI{m:SM}{d:D}(h:∃s,m ⟨ds.map some++pr (n-ds.length) none,O⟩=.ret d s):∃O1,runM n m ds O=.ok (d,O1):=by
 obtain⟨s,h⟩:=h
 exact⟨s.o,cS h⟩
end
mutual
theorem Hi{O:ay}:∀{d:D},cU d=true->res O d=d
 | .non,_=>by unfold res;rfl
 | .bl _,_=>by unfold res;rfl
 | .int _,_=>by unfold res;rfl
 | .str _,_=>by unfold res;rfl
 | .lst ds,h=>by rw[jW,pe (by simpa using h)]
 | .tup ds,h=>by rw[J6,pe (by simpa using h)]
 | .ptr _,h=>by unfold cU at h;cases h
 | .obj c ns ds,h=>by unfold res;rfl
 | .exn c,h=>by unfold res;rfl
theorem pe{O:ay}:∀{ds:List D},aQ ds=true->bZ O ds=ds
 | [],_=>qL O
 | d::ds,h=>by
  rw[gN,IN] at h
  rw[oX,Hi h.1,pe h.2]
end
theorem DF(h:O[k]? =some (.lst ds))(hp:aQ ds=true)(es:List D):eqB O (.ptr k) (.lst es)=eqB O (.lst ds) (.lst es):=by
 show gv O _ _=gv O _ _
 unfold gv
 simp only[nN h,jW,pe hp]
@[simp] theorem OI (h:O[k]? =some (.lst ds)) (hp:aQ ds=true) (es:List D):eqD O (.ptr k) (.lst es)=eqD O (.lst ds) (.lst es):=by unfold eqD;rw[DF h hp]
@[simp] theorem OB (h:O[k]? =some (.lst ds)) (hp:aQ ds=true) (es:List D):neD O (.ptr k) (.lst es)=neD O (.lst ds) (.lst es):=by unfold neD;rw[DF h hp]
theorem tj{ok:ay->Prop}{g:GM}{body:SM}(P:S->Prop)(J:∀s,P s->ok s.o):∀(ds:List D),
 (∀d∈ds,∀s,P s->∃s1 s2,g d s=.ok s1/\(body s1=.next s2\/body s1=.cnt s2)/\P s2)->∀s,P s->∃s',cv ok g body ds s=.next s'/\P s'
 | [],_,s,h=>⟨s,by rw[cv,if_pos (J _ h)],h⟩
 | d::ds,step,s,h=>by
  obtain⟨s1,s2,e1,e2,h2⟩:=step d pi s h
  obtain⟨s',e3,U⟩:=tj P J ds (λd hd=>step d (ol _ hd)) s2 h2
  refine⟨s', ?_,U⟩
  rw[cv,if_pos (J _ h),e1,kb]
  rcases e2 with e2 | e2 <;> (rw[e2];exact e3)
theorem eU{ok:ay->Prop}{g:GM}{body:SM}(P:List D->S->Prop)(U:∀pre s,P pre s->ok s.o):∀(ds pre:List D),
 (∀J d rest,pre++ds=J++d::rest->∀s,P J s->∃s1 s2,g d s=.ok s1/\(body s1=.next s2\/body s1=.cnt s2)/\P (J++[d]) s2)->∀s,P pre s->∃s',cv ok g body ds s=.next s'/\P (pre++ds) s'
 | [],pre,_,s,h=>⟨s,by rw[cv,if_pos (U _ _ h)],by simpa using h⟩
 | d::ds,pre,step,s,h=>by
  obtain⟨s1,s2,e1,e2,h2⟩:=step pre d ds rfl s h
  obtain⟨s',e3,Y⟩:=eU P U ds (pre++[d]) (λJ d' rest e=>step J d' rest (by simpa using e)) s2 h2
  refine⟨s', ?_,by simpa using Y⟩
  rw[cv,if_pos (U _ _ h),e1,kb]
  rcases e2 with e2 | e2 <;> (rw[e2];exact e3)
theorem dQ{im:IM}{s s1:S}{k:Option Nat}(h:im s=.ok ((ds,k),s1)):fv im g body s=cv (okC ds k) g body ds s1:=by rw[K8,h,kb]
theorem dY{m:AM}{s s1:S}(h:m s=.ok ([.int (n:Int)],s1))(hn:n<=1000000):dA m s=.ok ((dt 0 (n:Int),none),s1):=by
 show (m s).bind _=_
 rw[h,aj]
 dsimp only
 rw[if_pos (by constructor <;> omega)]
section
variable {O : ay}
@[simp] theorem Pk (d:D) (ds:List D):ixD O (.tup (d::ds)) (.int 0)=.ok d:=nH (by rw[ot (by decide) (by simp)];rfl)
@[simp] theorem Ph (d e:D) (ds:List D):ixD O (.tup (d::e::ds)) (.int 1)=.ok e:=nH (by rw[ot (by decide) (by simp;omega)];rfl)
@[simp] theorem NS (d:D) (ds:List D):ixD O (.lst (d::ds)) (.int 0)=.ok d:=nP (by rw[ot (by decide) (by simp)];rfl)
@[simp] theorem Pg (d e:D) (ds:List D):ixD O (.lst (d::e::ds)) (.int 1)=.ok e:=nP (by rw[ot (by decide) (by simp;omega)];rfl)
theorem t4(ns:List Int):SeqAt.shaped (.tuple (ns.map PyData.int))=true:=by
 simp[SeqAt.shaped,PyData.canLay0,pY,PyData.depth,rH]
theorem Ab(ns ms:List Int):eqB O (.tup (ns.map D.int)) (.tup (ms.map D.int))=some (decide (ns=ms)):=by
 show gv O _ _=_
 unfold gv
 simp only[res,pq,toPy,qO,IH]
 rw[if_pos ⟨t4 ns,t4 ms⟩]
 simp only[PyData.eqv,wL]
@[simp] theorem O8 (a b c d:Int):eqD O (.tup [.int a,.int b]) (.tup [.int c,.int d])=.ok (.bl (decide (a=c/\b=d))):=by
 have:=Ab (O:=O) [a,b] [c,d]
 unfold eqD
 rw[show eqB O (.tup [.int a,.int b]) (.tup [.int c,.int d])=_ from this]
 simp
@[simp] theorem OO (a b c d:Int):neD O (.tup [.int a,.int b]) (.tup [.int c,.int d])=.ok (.bl (!decide (a=c/\b=d))):=by
 have:=Ab (O:=O) [a,b] [c,d]
 unfold neD
 rw[show eqB O (.tup [.int a,.int b]) (.tup [.int c,.int d])=_ from this]
 simp
end
theorem Sz.sub{m n:Nat}(h:Sz m i)(h':Sz n j):Sz (max m n+1) (i-j):=by
 rw[Int.sub_eq_add_neg]
 refine Sz.add h ?_
 unfold Sz at *
 rw[RD];exact h'
theorem Sz.neg{m:Nat}(h:Sz m i):Sz m (-i):=by
 unfold Sz at *
 rw[RD];exact h
def bf:Nat->(Nat->Int)->Int
 | 0,_=>0
 | n+1,f=>bf n f+f n
theorem bG{n:Nat}{f g:Nat->Int}(h:∀i,i<n->f i=g i):bf n f=bf n g:=by
 induction n with
 | zero=>rfl
 | succ n J=>rw[bf,bf,J λi hi=>h i (by omega),h n (by omega)]
theorem eD{n:Nat}{f:Nat->Int}(h:∀i,i<n->f i=0):bf n f=0:=by
 induction n with
 | zero=>rfl
 | succ n J=>rw[bf,J λi hi=>h i (by omega),h n (by omega)];rfl
theorem rS(n:Nat)(f g:Nat->Int):bf n (λi=>f i+g i)=bf n f+bf n g:=by
 induction n with
 | zero=>rfl
 | succ n J=>simp only[bf,J];omega
theorem d9(n:Nat)(c:Int)(f:Nat->Int):bf n (λi=>c*f i)=c*bf n f:=by
 induction n with
 | zero=>simp[bf]
 | succ n J=>simp only[bf,J,Int.mul_add]
theorem gd{n k:Nat}(hk:k<n){f:Nat->Int}(h:∀i,i<n->i≠k->f i=0):bf n f=f k:=by
 induction n with
 | zero=>omega
 | succ n J=>
  rw[bf]
  by_cases e:k=n
  ·subst e
   rw[eD λi hi=>h i (by omega) (by omega)]
   omega
  ·rw[J (by omega) λi hi=>h i (by omega),h n (by omega) (by omega)]
   omega
def nth(r:List Int)(i:Nat):Int:=r.getD i 0
def dR(n:Nat)(r:List Int)(x:Nat->Int):Int:=bf n λi=>nth r i*x i
def eI(n:Nat)(R:List (List Int))(x:Nat->Int):Prop:=∀r∈R,dR n r x=0
def low(ns:List Int):List Int:=if cI ns=0 then ns else ns.map (· / (cI ns:Int))
theorem low_length(ns:List Int):(low ns).length=ns.length:=by unfold low;split <;> simp
theorem g9{f:Int->Int}(h0:f 0=0)(r:List Int)(i:Nat):nth (r.map f) i=f (nth r i):=by
 unfold nth
 rw[kt,kt,sI]
 cases r[i]? with
 | none=>exact h0.symm
 | some a=>rfl
theorem qf{i:Nat}(h:i<r.length):nth r i∈r:=by
 unfold nth
 rw[kt,na h]
 exact wT h
theorem fX{i:Nat}(h:r.length<=i):nth r i=0:=by
 unfold nth
 rw[kt,Qk h]
 rfl
theorem oa(r:List Int)(i:Nat):((cI r:Nat):Int) ∣ nth r i:=by
 by_cases h:i<r.length
 ·exact Bu (qf h)
 ·rw[fX (by omega)];exact Int.dvd_zero _
def xP(r:List Int):Int:=if cI r=0 then 1 else (cI r:Int)
theorem o8(r:List Int):0<xP r:=by unfold xP;split <;> omega
theorem qe(r:List Int)(i:Nat):nth r i=xP r*nth (low r) i:=by
 unfold low xP
 split
 ·omega
 ·rw[g9 (by simp),Int.mul_ediv_cancel' (oa r i)]
theorem Bh(h:cI r=0)(i:Nat):nth r i=0:=by
 have:=oa r i
 rw[h] at this
 simpa using this
theorem Em{i:Nat}(h:nth r i≠0):cI (low r)=1:=by
 have h0:cI r≠0:=λe=>h (Bh e i)
 unfold low
 rw[if_neg h0]
 exact IT (Nat.pos_of_ne_zero h0)
def gf(one:List Int)(v:Int)(other:List Int)(w:Int):List Int:=Pr (λa b=>a*w-b*v) one other
def c7(one:List Int)(v:Int)(other:List Int)(w:Int):List Int:=low (gf one v other w)
theorem mn{one other:List Int}(h:one.length=other.length)(v w:Int):(gf one v other w).length=one.length:=by
 unfold gf;rw[Po,<- h,Nat.min_self]
theorem qE{one other:List Int}(h:one.length=other.length)(v w:Int)(i:Nat):nth (gf one v other w) i=nth one i*w-nth other i*v:=by
 by_cases hi:i<one.length
 ·unfold gf nth
  simp only[kt,RB,na hi,na (h▸hi:i<other.length)]
  rfl
 ·rw[fX (by rw[mn h];omega),fX (r:=one) (by omega),fX (r:=other) (by omega)]
  simp
theorem mx{one other:List Int}(h:one.length=other.length)(v w:Int):(c7 one v other w).length=one.length:=by
 unfold c7;rw[low_length,mn h]
theorem qR{one other:List Int}(h:one.length=other.length)(v w:Int):∃g:Int,0<g/\∀i,g*nth (c7 one v other w) i=nth one i*w-nth other i*v:=by
 refine⟨xP (gf one v other w),o8 _,λi=> ?_⟩
 unfold c7
 rw[<- qe,qE h]
theorem BZ{a b c:List Int}{g u v:Int}(h:∀i,g*nth c i=u*nth a i+v*nth b i)(x:Nat->Int):g*dR n c x=u*dR n a x+v*dR n b x:=by
 unfold dR
 rw[<- d9,<- d9,<- d9,<- rS]
 refine bG λi _=> ?_
 have:=h i
 grind
theorem rT{a c:List Int}{g:Int}(h:∀i,nth a i=g*nth c i)(x:Nat->Int):dR n a x=g*dR n c x:=by
 unfold dR
 rw[<- d9]
 refine bG λi _=> ?_
 rw[h i,QD]
theorem wK{one other:List Int}(h:one.length=other.length)(v w:Int)(x:Nat->Int):∃g:Int,0<g/\g*dR n (c7 one v other w) x=w*dR n one x-v*dR n other x:=by
 obtain⟨g,J,e⟩:=qR h v w
 refine⟨g,J, ?_⟩
 have:=BZ (n:=n) (c:=c7 one v other w) (a:=one) (b:=other) (g:=g) (u:=w) (v:= -v) (λi=>by rw[e i];grind) x
 rw[this];grind
theorem wF(n:Nat)(r:List Int)(x:Nat->Int):dR n (low r) x=0↔dR n r x=0:=by
 rw[rT (λi=>qe r i) x]
 have:=o8 r
 constructor
 ·intro h;rw[h];simp
 ·intro h
  rcases AT.mp h with z | z
  ·omega
  ·exact z
def dG:List Int->Option Nat
 | []=>none
 | a::r=>if a≠0 then some 0 else (dG r).map (· + 1)
theorem oN:∀{l:List Int},dG l=none->∀a∈l,a=0
 | [],_,_,h=>by simp at h
 | b::r,e,a,h=>by
  unfold dG at e
  split at e
  ·cases e
  ·rename_i hb
   rcases sn.mp h with rfl | h
   ·simpa using hb
   ·exact oN (by simpa using e) a h
theorem gb:∀{l:List Int} {k:Nat},dG l=some k->k<l.length/\nth l k≠0/\∀i,i<k->nth l i=0
 | [],_,e=>by cases e
 | b::r,k,e=>by
  unfold dG at e
  split at e
  ·rename_i hb
   cases e
   exact⟨by simp,hb,λi hi=>by omega⟩
  ·rename_i hb
   cases e2:dG r with
   | none=>rw[e2] at e;cases e
   | some j=>
    rw[e2] at e
    cases e
    obtain⟨h1,h2,J⟩:=gb e2
    refine⟨by simp;omega,by simpa[nth] using h2,λi hi=> ?_⟩
    cases i with
    | zero=>simpa[nth] using hb
    | succ i=>simpa[nth] using J i (Nat.lt_of_succ_lt_succ hi)
def gi(row:List Int)(at_:Nat):List Int:=if nth row at_>0 then row else row.map (- ·)
def dC(lead:List Int)(at_:Nat)(row:List Int):List Int:=if nth row at_=0 then row else c7 row (nth row at_) lead (nth lead at_)
def df(s:List (List Int)×List (List Int))(at_:Nat):List (List Int)×List (List Int):=
 match dG (s.1.map (nth · at_)) with
 | none=>s
 | some k=>((s.1.eraseIdx k).map (dC (gi (s.1.getD k []) at_) at_),s.2.map (dC (gi (s.1.getD k []) at_) at_)++[gi (s.1.getD k []) at_])
def cb(rows:List (List Int))(n:Nat):List (List Int):=((pc n).foldl df (rows.map low,[])).2
structure Good(n:Nat)(p:Nat×List Int):Prop where
 len:p.2.length=n
 lt:p.1<n
 pos:0<nth p.2 p.1
 zero:∀i,i<p.1->nth p.2 i=0
 one:cI p.2=1
structure Pl(n:Nat)(P:List (Nat×List Int)):Prop where
 good:∀p∈P,Good n p
 pw:P.Pairwise λp q=>p.1<q.1/\nth p.2 q.1=0
def ue(r:List Int):Prop:=∀i,nth r i≠0->cI r=1
theorem rj(r:List Int):ue (low r):=λi h=>Em (i:=i) λz=>by
 have:=qe r i
 rw[z] at this
 rcases AT.mp this.symm with q | q
 ·have:=o8 r;omega
 ·exact h q
theorem HW(r:List Int):cI (r.map (- ·))=cI r:=by
 unfold cI
 have:∀(l:List Int) (c:Nat),(l.map (- ·)).foldl (λc n=>PN c n.natAbs) c=l.foldl (λc n=>PN c n.natAbs) c:=by
  intro l
  induction l with
  | nil=>intro c;rfl
  | cons a l J=>intro c;simp only[sH,PD,RD];exact J _
 exact this r 0
theorem vA(row:List Int)(a:Nat):(gi row a).length=row.length:=by unfold gi;split <;> simp
theorem BX(row:List Int)(a:Nat):∃g:Int,(g=1\/g= -1)/\∀i,nth (gi row a) i=g*nth row i:=by
 unfold gi
 split
 ·exact⟨1,.inl rfl,λi=>by omega⟩
 ·exact⟨-1,.inr rfl,λi=>by rw[g9 (by simp)];omega⟩
theorem G8(h:ue row):ue (gi row a):=by
 unfold gi
 split
 ·exact h
 ·intro i hi
  rw[HW]
  refine h i λz=>hi ?_
  rw[g9 (by simp),z];rfl
theorem HM(h:nth row a≠0):0<nth (gi row a) a:=by
 unfold gi
 split
 ·assumption
 ·rw[g9 (by simp)];omega
theorem KN(n:Nat)(row:List Int)(a:Nat)(x:Nat->Int):dR n (gi row a) x=0↔dR n row x=0:=by
 obtain⟨g,J,e⟩:=BX row a
 have:=rT (n:=n) (a:=gi row a) (c:=row) e x
 rw[this]
 rcases J with rfl | rfl <;> omega
section
variable {lead row : List Int} {a : Nat}
theorem vH(h:row.length=lead.length):(dC lead a row).length=row.length:=by
 unfold dC;split
 ·rfl
 ·exact mx h _ _
theorem wq(J:0<nth lead a)(h:row.length=lead.length):∃g u:Int,0<g/\0<u/\∃v:Int,(nth row a=0->v=0)/\∀i,g*nth (dC lead a row) i=u*nth row i-v*nth lead i:=by
 unfold dC
 split
 ·exact⟨1,1,by omega,by omega,0,λ_=>rfl,λi=>by omega⟩
 ·rename_i hz
  obtain⟨g,U,e⟩:=qR h (nth row a) (nth lead a)
  exact⟨g,nth lead a,U,J,nth row a,λz=>absurd z hz,λi=>by rw[e i];grind⟩
theorem DY(J:0<nth lead a)(h:row.length=lead.length):nth (dC lead a row) a=0:=by
 unfold dC
 split
 ·assumption
 ·obtain⟨g,U,e⟩:=qR h (nth row a) (nth lead a)
  have:=e a
  have:g*nth (c7 row (nth row a) lead (nth lead a)) a=0:=by rw[this];grind
  rcases AT.mp this with z | z
  ·omega
  ·exact z
theorem zZ(h:ue row):ue (dC lead a row):=by
 unfold dC
 split
 ·exact h
 ·exact rj _
theorem tI(J:0<nth lead a)(h:row.length=lead.length){i:Nat}(h1:nth row i=0)(h2:nth lead i=0):nth (dC lead a row) i=0:=by
 obtain⟨g,u,U,hu,v,_,e⟩:=wq J h
 have:=e i
 rw[h1,h2] at this
 have:g*nth (dC lead a row) i=0:=by rw[this];grind
 rcases AT.mp this with z | z
 ·omega
 ·exact z
theorem IB(J:0<nth lead a)(h:row.length=lead.length){i:Nat}(h1:0<nth row i)(h2:nth lead i=0):0<nth (dC lead a row) i:=by
 obtain⟨g,u,U,hu,v,_,e⟩:=wq J h
 have e':=e i
 rw[h2] at e'
 have:0<g*nth (dC lead a row) i:=by
  rw[e']
  have:=MH hu h1
  omega
 by_cases hn:nth (dC lead a row) i<=0
 ·have:=QA (show 0<=g by omega) hn
  omega
 ·omega
theorem uN(n:Nat)(J:0<nth lead a)(h:row.length=lead.length){x:Nat->Int}(hx:dR n lead x=0):dR n (dC lead a row) x=0↔dR n row x=0:=by
 obtain⟨g,u,U,hu,v,_,e⟩:=wq J h
 have:=BZ (n:=n) (c:=dC lead a row) (a:=row) (b:=lead) (g:=g) (u:=u) (v:= -v) (λi=>by rw[e i];grind) x
 rw[hx] at this
 constructor
 ·intro z
  rw[z] at this
  have:u*dR n row x=0:=by omega
  rcases AT.mp this with q | q
  ·omega
  ·exact q
 ·intro z
  rw[z] at this
  have:g*dR n (dC lead a row) x=0:=by omega
  rcases AT.mp this with q | q
  ·omega
  ·exact q
end
structure PSt(n a:Nat)(left:List (List Int))(P:List (Nat×List Int)):Prop where
 ll:∀r∈left,r.length=n
 lz:∀r∈left,∀i,i<a->nth r i=0
 lw:∀r∈left,ue r
 pl:Pl n P
 pa:∀p∈P,p.1<a
theorem md(left:List (List Int))(a k:Nat):nth (left.map (nth · a)) k=nth (left.getD k []) a:=by
 unfold nth
 simp only[kt,sI]
 cases left[k]? with
 | none=>rfl
 | some r=>rfl
theorem getD_mem(h:k<left.length):left.getD k []∈left:=by
 rw[kt,na h]
 exact wT h
theorem qG:∀{l:List (List Int)} {k:Nat} (h:k<l.length),l.Perm (l[k]::l.eraseIdx k)
 | [],k,h=>by simp at h
 | a::l,0,h=>by simp
 | a::l,k+1,h=>by
  have:=qG (l:=l) (k:=k) (by simpa using h)
  simp only[List.getElem_cons_succ,Rr]
  exact(this.cons a).trans (So _ _ _)
theorem La(ha:a<n)(h:PSt n a left P):
 ∃J P',df (left,P.map (·.2)) a=(J,P'.map (·.2))/\PSt n (a+1) J P'/\J.length+P'.length=left.length+P.length/\∀x,eI n (P'.map (·.2)++J) x↔eI n (P.map (·.2)++left) x:=by
 unfold df
 dsimp only
 split
 ·rename_i e
  refine⟨left,P,rfl,⟨h.ll,λr hr i hi=> ?_,h.lw,h.pl,λp hp=>Qz (h.pa p hp)⟩,rfl,λx=>RU⟩
  by_cases an:i=a
  ·subst an
   exact oN e _ (li.mpr ⟨r,hr,rfl⟩)
  ·exact h.lz r hr i (by omega)
 ·rename_i k e
  obtain⟨k1,k2,_⟩:=gb e
  rw[nW] at k1
  rw[md] at k2
  have hm:left.getD k []∈left:=getD_mem k1
  have Y:left.Perm (left.getD k []::left.eraseIdx k):=by
   rw[kt,na k1]
   exact qG k1
  generalize left.getD k []=row at *
  generalize ab:gi row a=lead at *
  have ll:lead.length=n:=by rw[<- ab,vA];exact h.ll row hm
  have lp:0<nth lead a:=by rw[<- ab];exact HM k2
  have lz:∀i,i<a->nth lead i=0:=λi hi=>by
   obtain⟨g,_,e⟩:=BX row a
   rw[<- ab,e,h.lz row hm i hi];omega
  have lw:ue lead:=by rw[<- ab];exact G8 (h.lw row hm)
  have sub:∀r∈left.eraseIdx k,r∈left:=λr hr=>KE hr
  refine⟨(left.eraseIdx k).map (dC lead a),P.map (λp=>(p.1,dC lead a p.2))++[(a,lead)], ?_,⟨?_, ?_, ?_,⟨?_, ?_⟩, ?_⟩, ?_, ?_⟩
  ·simp[Qf]
  ·intro r hr
   obtain⟨q,hq,rfl⟩:=li.mp hr
   rw[vH (by rw[ll,h.ll q (sub q hq)]),h.ll q (sub q hq)]
  ·intro r hr i hi
   obtain⟨q,hq,rfl⟩:=li.mp hr
   have U:q.length=lead.length:=by rw[ll,h.ll q (sub q hq)]
   by_cases an:i=a
   ·subst an;exact DY lp U
   ·exact tI lp U (h.lz q (sub q hq) i (by omega)) (lz i (by omega))
  ·intro r hr
   obtain⟨q,hq,rfl⟩:=li.mp hr
   exact zZ (h.lw q (sub q hq))
  ·intro p hp
   rcases sE.mp hp with hp | hp
   ·obtain⟨q,hq,rfl⟩:=li.mp hp
    have g:=h.pl.good q hq
    have U:q.2.length=lead.length:=by rw[ll,g.len]
    have pp:=IB lp U g.pos (lz q.1 (h.pa q hq))
    exact⟨by rw[vH U];exact g.len,g.lt,pp,λi hi=>tI lp U (g.zero i hi) (lz i (Nat.lt_trans hi (h.pa q hq))),zZ (λi _=>g.one) q.1 (by omega)⟩
   ·rw[sB.mp hp]
    exact⟨ll,ha,lp,lz,lw a (by omega)⟩
  ·rw[List.pairwise_append]
   refine⟨?_,by simp,λp hp q hq=> ?_⟩
   ·rw[P0]
    refine PF (λ{p q} hp hq hpq=> ?_) h.pl.pw
    refine⟨hpq.1, ?_⟩
    have g:=h.pl.good p hp
    exact tI lp (by rw[ll,g.len]) hpq.2 (lz q.1 (h.pa q hq))
   ·obtain⟨p',hp',rfl⟩:=li.mp hp
    rw[sB.mp hq]
    exact⟨h.pa p' hp',DY lp (by rw[ll,(h.pl.good p' hp').len])⟩
  ·intro p hp
   rcases sE.mp hp with hp | hp
   ·obtain⟨q,hq,rfl⟩:=li.mp hp
    exact Qz (h.pa q hq)
   ·rw[sB.mp hp];exact QE a
  ·have:=Y.length_eq
   simp only[nW,u8,tz,Rx] at *
   omega
  ·intro x
   have am:dR n lead x=0↔dR n row x=0:=by rw[<- ab];exact KN n row a x
   constructor
   ·intro hx r hr
    have h0:dR n lead x=0:=hx lead (by simp)
    rcases sE.mp hr with hr | hr
    ·obtain⟨p,hp,rfl⟩:=li.mp hr
     exact(uN n lp (by rw[ll,(h.pl.good p hp).len]) h0).mp (hx _ (FS _ (li.mpr ⟨(p.1,dC lead a p.2),by simp;exact .inl ⟨p.1,p.2,hp,rfl,rfl⟩,rfl⟩)))
    ·rcases sn.mp (Y.mem_iff.mp hr) with rfl | hr
     ·exact am.mp h0
     ·exact(uN n lp (by rw[ll,h.ll r (sub r hr)]) h0).mp (hx _ (wP _ (li.mpr ⟨r,hr,rfl⟩)))
   ·intro hx r hr
    have h0:dR n lead x=0:=am.mpr (hx row (wP _ hm))
    rcases sE.mp hr with hr | hr
    ·obtain⟨q,hq,rfl⟩:=li.mp hr
     rcases sE.mp hq with hq | hq
     ·obtain⟨p,hp,rfl⟩:=li.mp hq
      exact(uN n lp (by rw[ll,(h.pl.good p hp).len]) h0).mpr (hx _ (FS _ (li.mpr ⟨p,hp,rfl⟩)))
     ·rw[sB.mp hq];exact h0
    ·obtain⟨q,hq,rfl⟩:=li.mp hr
     exact(uN n lp (by rw[ll,h.ll q (sub q hq)]) h0).mpr (hx _ (wP _ (sub q hq)))
theorem wA{n:Nat}{left:List (List Int)}(Y:∀r∈left,r.length=n)(hw:∀r∈left,ue r):∀a,a<=n->
 ∃J U,(pc a).foldl df (left,[])=(J,U.map (·.2))/\PSt n a J U/\J.length+U.length=left.length/\∀x,eI n (U.map (·.2)++J) x↔eI n left x
 | 0,_=>⟨left,[],rfl,⟨Y,λ_ _ i hi=>by omega,hw,⟨by simp,by simp⟩,by simp⟩,by simp,λx=>by simp⟩
 | a+1,ha=>by
  obtain⟨l1,P1,e1,s1,c1,n1⟩:=wA Y hw a (by omega)
  obtain⟨l2,P2,e2,s2,c2,n2⟩:=La (by omega) s1
  refine⟨l2,P2, ?_,s2,by omega,λx=>(n2 x).trans (n1 x)⟩
  rw[QN,QB,e1]
  exact e2
theorem Hb(h:∀i,i<n->nth r i=0)(x:Nat->Int):dR n r x=0:=eD λi hi=>by rw[h i hi];omega
theorem jd(J:∀r∈rows,r.length=n):∃P,cb rows n=P.map (·.2)/\Pl n P/\P.length<=rows.length/\∀x,eI n (cb rows n) x↔eI n rows x:=by
 obtain⟨l,P,e,s,c,U⟩:=wA (n:=n) (left:=rows.map low) (λr hr=>by
  obtain⟨q,hq,rfl⟩:=li.mp hr
  rw[low_length];exact J q hq) (λr hr=>by
  obtain⟨q,hq,rfl⟩:=li.mp hr
  exact rj q) n (qh n)
 have e':cb rows n=P.map (·.2):=by unfold cb;rw[e]
 refine⟨P,e',s.pl,by rw[nW] at c;omega,λx=> ?_⟩
 rw[e']
 have Y:eI n (P.map (·.2)++l) x↔eI n (P.map (·.2)) x:=by
  constructor
  ·exact λh r hr=>h r (FS _ hr)
  ·intro h r hr
   rcases sE.mp hr with hr | hr
   ·exact h r hr
   ·exact Hb (s.lz r hr) x
 have n2:eI n (rows.map low) x↔eI n rows x:=by
  constructor
  ·exact λh r hr=>(wF n r x).mp (h _ (li.mpr ⟨r,hr,rfl⟩))
  ·intro h r hr
   obtain⟨q,hq,rfl⟩:=li.mp hr
   exact(wF n q x).mpr (h q hq)
 exact Y.symm.trans ((U x).trans n2)
def aZ(n:Nat)(f g:Nat->Int):Int:=bf n λi=>f i*g i
theorem bH(n:Nat)(f g:Nat->Int):aZ n f g=aZ n g f:=bG λi _=>PH _ _
theorem fI(n:Nat)(r:List Int)(x:Nat->Int):dR n r x=aZ n (nth r) x:=rfl
theorem kq{a b c:Nat->Int}{g u v:Int}(h:∀i,i<n->g*c i=u*a i+v*b i)(x:Nat->Int):g*aZ n c x=u*aZ n a x+v*aZ n b x:=by
 unfold aZ
 rw[<- d9,<- d9,<- d9,<- rS]
 refine bG λi hi=> ?_
 have:=h i hi
 grind
theorem zX{a b:Nat->Int}{u v:Int}(x:Nat->Int):aZ n x (λi=>u*a i+v*b i)=u*aZ n x a+v*aZ n x b:=by
 rw[bH n x a,bH n x b,bH,<- kq (g:=1) (c:=λi=>u*a i+v*b i) (λi _=>by omega) x]
 omega
theorem EF{n:Nat}{a b:Nat->Int}(h:∀i,i<n->a i=b i)(x:Nat->Int):aZ n a x=aZ n b x:=bG λi hi=>by rw[h i hi]
def cz(T:List Int)(R:List (List Int))(i:Nat):Int:=bf R.length λj=>nth T j*nth (R.getD j []) i
theorem pj(m n:Nat)(f:Nat->Nat->Int):bf m (λi=>bf n λj=>f i j)=bf n λj=>bf m λi=>f i j:=by
 induction m with
 | zero=>rw[eD (n:=n) (f:=λj=>bf 0 λi=>f i j) λ_ _=>rfl];rfl
 | succ m J=>simp only[bf];rw[rS,J]
theorem HG(n:Nat)(T:List Int)(R:List (List Int))(x:Nat->Int):aZ n (cz T R) x=bf R.length λj=>nth T j*dR n (R.getD j []) x:=by
 unfold aZ cz
 have:∀i,(bf R.length λj=>nth T j*nth (R.getD j []) i)*x i=bf R.length λj=>nth T j*(nth (R.getD j []) i*x i):=λi=>by
  rw[PH,<- d9]
  refine bG λj _=>by grind
 rw[bG λi _=>this i,pj]
 refine bG λj _=> ?_
 unfold dR
 rw[<- d9]
theorem Ay{T:List Int}{x:Nat->Int}(h:eI n R x):aZ n (cz T R) x=0:=by
 rw[HG]
 refine eD λj J=> ?_
 rw[h _ (getD_mem J)]
 omega
def gX(n:Nat)(R:List (List Int))(x:Nat->Int):Prop:=∃k:Int,k≠0/\∃T:List Int,T.length=R.length/\∀i,i<n->k*x i=cz T R i
theorem gX.dot{x y:Nat->Int}(h:gX n R x)(hy:eI n R y):aZ n x y=0:=by
 obtain⟨k,hk,T,_,e⟩:=h
 have h1:k*aZ n x y=1*aZ n (cz T R) y+0*aZ n x y:=kq (g:=k) (c:=x) (a:=cz T R) (b:=x) (u:=1) (v:=0) (λi hi=>by rw[e i hi];omega) y
 rw[Ay hy] at h1
 have:k*aZ n x y=0:=by omega
 rcases AT.mp this with z | z
 ·exact absurd z hk
 ·exact z
theorem nB{T:List Int}(J:T.length=R.length)(c:Int)(r:List Int)(i:Nat):cz (T++[c]) (R++[r]) i=cz T R i+c*nth r i:=by
 unfold cz
 rw[u8,xz,bf]
 congr 1
 ·refine bG λj U=> ?_
  simp only[nth,kt]
  rw[tt (by omega),tt U]
 ·simp only[nth,kt]
  rw[re (by omega),re (by omega),J]
  simp
def dS(n a:Nat):List Int:=(pr n 0).set a 1
theorem dh(ha:a<n)(i:Nat):nth (dS n a) i=if i=a then 1 else 0:=by
 unfold dS nth
 rw[kt,List.getElem?_set]
 by_cases h:a=i
 ·subst h;simp[ha]
 ·rw[if_neg h,if_neg (λz=>h z.symm)]
  rw[wE]
  split <;> rfl
def cR(n:Nat):List (List Int):=(pc n).map (dS n)
def aB(a b:List Int):Int:=(Pr (· * ·) a b).sum
def eN(lists:List (List Int))(row:List Int):List (List Int):=
 match dG (lists.map (aB row)) with
 | none=>lists
 | some k=>(lists.eraseIdx k).map λone=>c7 one (aB row one) (lists.getD k []) (aB row (lists.getD k []))
def kO(rows:List (List Int))(n:Nat):List (List Int):=rows.foldl eN (cR n)
def bc(rows:List (List Int))(n:Nat):List (List Int):=cb (kO rows n) n
theorem BP:∀(a b:List Int),aB a b=bf b.length λi=>nth a i*nth b i
 | _,[]=>by unfold aB;simp[bf]
 | [],b::r=>by
  unfold aB
  rw[eD λi _=>by unfold nth;simp]
  simp
 | a::l,b::r=>by
  have U:=BP l r
  unfold aB at *
  rw[List.zipWith_cons_cons,P8,U,tz]
  have:∀(n:Nat) (f:Nat->Int),bf (n+1) f=f 0+bf n λi=>f (i+1):=by
   intro n f
   induction n with
   | zero=>simp[bf]
   | succ n J=>rw[bf,J,bf];omega
  rw[this]
  congr 1
theorem jf{a b:List Int}(hb:b.length=n):aB a b=aZ n (nth a) (nth b):=by rw[BP,hb];rfl
structure SSt(n:Nat)(R lists:List (List Int)):Prop where
 len:∀l∈lists,l.length=n
 nul:∀r∈R,∀l∈lists,aZ n (nth r) (nth l)=0
 spn:∀x,eI n lists x->gX n R x
theorem HV(n:Nat):SSt n [] (cR n):=by
 refine⟨λl J=> ?_,λr hr=>by simp at hr,λx hx=>⟨1,by decide,[],rfl,λi hi=> ?_⟩⟩
 ·obtain⟨a,_,rfl⟩:=li.mp J
  unfold dS;simp
 ·have:=hx (dS n i) (li.mpr ⟨i,wn.mpr hi,rfl⟩)
  unfold dR at this
  rw[gd hi (λj _ U=>by rw[dh hi,if_neg U];omega),dh hi,if_pos rfl] at this
  rw[show cz [] [] i=0 from rfl]
  omega
theorem C4{R lists:List (List Int)}(hr:row.length=n)(s:SSt n R lists):SSt n (R++[row]) (eN lists row):=by
 unfold eN
 split
 ·rename_i e
  have z:∀l∈lists,aB row l=0:=λl J=>oN e _ (li.mpr ⟨l,J,rfl⟩)
  refine⟨s.len,λr Y l J=> ?_,λx hx=> ?_⟩
  ·rcases sE.mp Y with q | q
   ·exact s.nul r q l J
   ·rw[sB.mp q,<- jf (s.len l J)];exact z l J
  ·obtain⟨k,hk,T,hT,e⟩:=s.spn x hx
   exact⟨k,hk,T++[0],by simp[hT],λi hi=>by rw[nB hT,e i hi];omega⟩
 ·rename_i k e
  obtain⟨k1,k2,_⟩:=gb e
  rw[nW] at k1
  have hm:=getD_mem k1
  have ab:lists.Perm (lists.getD k []::lists.eraseIdx k):=by
   rw[kt,na k1]
   exact qG k1
  have hv:nth (lists.map (aB row)) k=aB row (lists.getD k []):=by
   unfold nth
   simp only[kt,sI,na k1]
   rfl
  rw[hv] at k2
  generalize lists.getD k []=base at *
  have U:=s.len base hm
  have sub:∀l∈lists.eraseIdx k,l∈lists:=λl J=>KE J
  refine⟨λl J=> ?_,λr Y l J=> ?_,λx hx=> ?_⟩
  ·obtain⟨q,hq,rfl⟩:=li.mp J
   rw[mx (by rw[U,s.len q (sub q hq)]),s.len q (sub q hq)]
  ·obtain⟨q,hq,rfl⟩:=li.mp J
   have an:=s.len q (sub q hq)
   obtain⟨g,hg,e⟩:=wK (n:=n) (one:=q) (other:=base) (by rw[U,an]) (aB row q) (aB row base) (nth r)
   rw[bH]
   simp only[fI] at e
   rw[bH n (nth q),bH n (nth base)] at e
   have z:g*aZ n (nth (c7 q (aB row q) base (aB row base))) (nth r)=0:=by
    rcases sE.mp Y with q' | q'
    ·rw[e,s.nul r q' q (sub q hq),s.nul r q' base hm];omega
    ·rw[sB.mp q'] at e ⊢
     rw[e,<- jf an,<- jf U]
     grind
   rcases AT.mp z with z | z
   ·omega
   ·exact z
  ·have hc:∀l∈lists,aB row base*dR n l x=aB row l*dR n base x:=λl J=>by
    rcases sn.mp (ab.mem_iff.mp J) with rfl | hl'
    ·rfl
    ·obtain⟨g,hg,e⟩:=wK (n:=n) (one:=l) (other:=base) (by rw[U,s.len l J]) (aB row l) (aB row base) x
     rw[hx _ (li.mpr ⟨l,hl',rfl⟩)] at e
     omega
   have ap:eI n lists (λi=>aB row base*x i+(-(dR n base x))*nth row i):=λl J=>by
    rw[fI,zX,<- fI,hc l J,bH,<- jf (s.len l J)]
    grind
   obtain⟨k',as,T,hT,e'⟩:=s.spn _ ap
   refine⟨k'*aB row base,Ry as k2,T++[k'*dR n base x],by simp[hT],λi hi=> ?_⟩
   rw[nB hT,<- e' i hi]
   grind
theorem xH{n:Nat}:∀{rows:List (List Int)},(∀r∈rows,r.length=n)->∀{R lists:List (List Int)},SSt n R lists->SSt n (R++rows) (rows.foldl eN lists)
 | [],_,R,lists,s=>by simpa using s
 | row::rows,h,R,lists,s=>by
  have:=xH (rows:=rows) (λr hr=>h r (ol _ hr)) (C4 (h row pi) s)
  simpa using this
theorem nZ(h:∀r∈rows,r.length=n):SSt n rows (kO rows n):=by
 have:=xH h (HV n)
 rw[vG] at this
 exact this
theorem gI(h:∀r∈rows,r.length=n):
 ∃P,bc rows n=P.map (·.2)/\Pl n P/\(∀r∈rows,∀l∈bc rows n,aZ n (nth l) (nth r)=0)/\∀x,eI n (bc rows n) x->gX n rows x:=by
 have s:=nZ h
 obtain⟨P,e,pl,_,U⟩:=jd (n:=n) (rows:=kO rows n) s.len
 refine⟨P,e,pl,λr hr l J=> ?_,λx hx=>s.spn x ((U x).mp hx)⟩
 have:eI n (kO rows n) (nth r):=λl J=>by rw[fI,bH];exact s.nul r hr l J
 exact(U _).mpr this l J
theorem ng(h:∀r∈rows,r.length=n)(x:Nat->Int):eI n (bc rows n) x↔gX n rows x:=by
 obtain⟨P,_,_,h1,h2⟩:=gI h
 refine⟨h2 x,λs l J=> ?_⟩
 rw[fI,bH]
 exact s.dot λr hr=>by rw[fI,bH];exact h1 r hr l J
theorem zR(n:Nat)(f:Nat->Int):bf (n+1) f=f 0+bf n λi=>f (i+1):=by
 induction n with
 | zero=>simp[bf]
 | succ n J=>rw[bf,J,bf];omega
theorem FO(r:List Int)(i:Nat):nth (r.drop 1) i=nth r (i+1):=by
 unfold nth
 rw[kt,kt,List.getElem?_drop,Rg]
def bq(rows:List (List Int))(goal:List Int):List (List Int):=(pc goal.length).map λa=>(goal::rows).map (nth · a)
def jN(rows:List (List Int))(goal:List Int):Option (Int×List Int):=match bc (bq rows goal) (1+rows.length) with
 | []=>none
 | s::_=>if nth s 0=0 then none else some (nth s 0,(s.drop 1).map (- ·))
theorem gx:∀r∈bq rows goal,r.length=1+rows.length:=by
 intro r hr
 obtain⟨a,_,rfl⟩:=li.mp hr
 simp;omega
theorem rK(rows:List (List Int))(goal:List Int)(h:a<goal.length)(j:Nat):nth ((bq rows goal).getD a []) j=nth ((goal::rows).getD j []) a:=by
 have:(bq rows goal).getD a []=(goal::rows).map (nth · a):=by
  unfold bq
  rw[kt,sI,Pp h]
  rfl
 rw[this,md]
theorem GC(U:goal.length=n){b:Int}{ts:List Int}(e:jN rows goal=some (b,ts)):
 0<b/\ts.length=rows.length/\∀i,i<n->b*nth goal i=cz ts rows i:=by
 obtain⟨P,J,pl,h1,_⟩:=gI (n:=1+rows.length) (rows:=bq rows goal) gx
 unfold jN at e
 split at e
 ·cases e
 ·rename_i s rest es
  split at e
  ·cases e
  ·rename_i hz
   cases e
   have hs:s∈bc (bq rows goal) (1+rows.length):=by rw[es];exact pi
   rw[J] at hs
   obtain⟨p,hp,rfl⟩:=li.mp hs
   have g:=pl.good p hp
   have h0:p.1=0:=by
    by_cases h:p.1=0
    ·exact h
    ·exact absurd (g.zero 0 (by omega)) hz
   have gp:=g.pos
   rw[h0] at gp
   refine⟨gp,by rw[nW,QF,g.len];omega,λi hi=> ?_⟩
   have hd:=h1 ((bq rows goal).getD i []) (getD_mem (by unfold bq;simp;omega)) p.2 (by rw[J];exact hs)
   unfold aZ at hd
   rw[Rg 1,zR] at hd
   rw[rK rows goal (by omega)] at hd
   unfold cz
   have e2:(bf rows.length λj=>nth ((p.2.drop 1).map (- ·)) j*nth (rows.getD j []) i)=(-1)*bf rows.length λj=>nth p.2 (j+1)*nth ((bq rows goal).getD i []) (j+1):=by
    rw[<- d9]
    refine bG λj _=> ?_
    rw[g9 (by simp),FO,rK rows goal (by omega)]
    show _= -1*(nth p.2 (j+1)*nth (rows.getD j []) i)
    grind
   rw[e2]
   have:nth ((goal::rows).getD 0 []) i=nth goal i:=rfl
   rw[this] at hd
   omega
theorem F9(hg:goal.length=n)(e:jN rows goal=none):∃t,eI n rows t/\aZ n (nth goal) t≠0:=by
 obtain⟨P,eP,pl,_,h2⟩:=gI (n:=1+rows.length) (rows:=bq rows goal) gx
 have hz:∀l∈bc (bq rows goal) (1+rows.length),nth l 0=0:=by
  unfold jN at e
  split at e
  ·rename_i es;rw[es];simp
  ·rename_i s rest es
   split at e
   ·rename_i hz
    rw[eP] at es ⊢
    cases P with
    | nil=>simp
    | cons p P=>
     rw[sH] at es
     injection es with e1 e2
     intro l J
     obtain⟨q,hq,rfl⟩:=li.mp J
     rcases sn.mp hq with rfl | hq'
     ·rw[e1];exact hz
     ·have:=(AC.mp pl.pw).1 q hq'
      exact(pl.good q hq).zero 0 (by omega)
   ·cases e
 have hx:eI (1+rows.length) (bc (bq rows goal) (1+rows.length)) (λi=>if i=0 then 1 else 0):=λl J=>by
  unfold dR
  rw[gd (k:=0) (by omega) (λi _ hi=>by dsimp only;rw[if_neg hi];omega)]
  dsimp only
  rw[if_pos rfl,hz l J]
  rfl
 obtain⟨k,hk,T,hT,e3⟩:=h2 _ hx
 have J:(bq rows goal).length=n:=by unfold bq;simp[hg]
 have Y:∀j,cz T (bq rows goal) j=aZ n (nth ((goal::rows).getD j [])) (nth T):=λj=>by
  unfold cz aZ
  rw[J]
  refine bG λi hi=> ?_
  rw[rK rows goal (by omega),PH]
 refine⟨nth T,λr hr=> ?_, ?_⟩
 ·obtain⟨j,hj,rfl⟩:=Pn hr
  have:=e3 (j+1) (by omega)
  dsimp only at this
  rw[Y,if_neg (by omega)] at this
  rw[fI]
  have U:(goal::rows).getD (j+1) []=rows[j]:=by simp[kt,hj]
  rw[U] at this
  omega
 ·have:=e3 0 (by omega)
  dsimp only at this
  rw[Y,if_pos rfl] at this
  have U:(goal::rows).getD 0 []=goal:=rfl
  rw[U] at this
  omega
theorem Bc(J:goal.length=n)(h:gX n rows (nth goal)):∃b ts,jN rows goal=some (b,ts):=by
 cases e:jN rows goal with
 | some x=>exact⟨x.1,x.2,rfl⟩
 | none=>
  obtain⟨t,h1,h2⟩:=F9 J e
  exact absurd (h.dot h1) h2
def ie(P:List (Nat×List Int)):Int:=(P.map λp=>nth p.2 p.1).foldr (· * ·) 1
theorem xq:∀{P:List (Nat×List Int)},(∀p∈P,0<nth p.2 p.1)->0<ie P
 | [],_=>by decide
 | p::P,h=>MH (h p pi) (xq λq hq=>h q (ol _ hq))
theorem rG:∀{P:List (Nat×List Int)} {p:Nat×List Int},p∈P->nth p.2 p.1 ∣ ie P
 | q::P,p,h=>by
  rcases sn.mp h with rfl | h
  ·exact Int.dvd_mul_right _ _
  ·exact Int.dvd_trans (rG h) (Int.dvd_mul_left _ _)
def qK(P:List (Nat×List Int))(L:Int)(f i:Nat):Int:=(P.map λp=>if i=p.1 then nth p.2 f*(L/nth p.2 p.1) else 0).sum
def iD(P:List (Nat×List Int))(f i:Nat):Int:=(if i=f then ie P else 0)-qK P (ie P) f i
theorem je{L:Int}{f i:Nat}:∀{P:List (Nat×List Int)},(∀p∈P,p.1≠i)->qK P L f i=0
 | [],_=>rfl
 | p::P,h=>by
  unfold qK
  rw[sH,P8,if_neg (λz=>h p pi z.symm)]
  have:=je (L:=L) (f:=f) (i:=i) (P:=P) λq hq=>h q (ol _ hq)
  unfold qK at this
  omega
theorem we{L:Int}{f:Nat}:∀{P:List (Nat×List Int)} {p:Nat×List Int},P.Pairwise (λp q=>p.1<q.1/\nth p.2 q.1=0)->p∈P->qK P L f p.1=nth p.2 f*(L/nth p.2 p.1)
 | q::P,p,pw,h=>by
  have h0:=AC.mp pw
  rcases sn.mp h with rfl | hp'
  ·have:=je (L:=L) (f:=f) (i:=p.1) (P:=P) λr hr=>by have:=(h0.1 r hr).1;omega
   unfold qK at *
   rw[sH,P8,if_pos rfl,this]
   omega
  ·have J:=we (L:=L) (f:=f) h0.2 hp'
   have:=(h0.1 p hp').1
   unfold qK at *
   rw[sH,P8,if_neg (by omega),J]
   omega
theorem Pl.other(pl:Pl n P):∀{p q:Nat×List Int},p∈P->q∈P->p.1≠q.1->nth p.2 q.1=0:=by
 intro p q hp hq J
 by_cases h:q.1<p.1
 ·exact(pl.good p hp).zero _ h
 ·have:∀{P:List (Nat×List Int)},P.Pairwise (λp q=>p.1<q.1/\nth p.2 q.1=0)->p∈P->q∈P->p.1<q.1->nth p.2 q.1=0:=by
   intro P pw hp hq U
   induction P with
   | nil=>cases hp
   | cons r P Y=>
    have h0:=AC.mp pw
    rcases sn.mp hp with rfl | hp
    ·rcases sn.mp hq with rfl | hq
     ·omega
     ·exact(h0.1 q hq).2
    ·rcases sn.mp hq with rfl | hq
     ·have:=(h0.1 p (by assumption)).1;omega
     ·exact Y h0.2 hp hq
  exact this pl.pw hp hq (by omega)
theorem Ia{n f c:Nat}(U:f<n)(hc:c<n)(J:f≠c){g:Nat->Int}(h:∀i,i<n->i≠f->i≠c->g i=0):bf n g=g f+g c:=by
 have:bf n g=bf n (λi=>if i=f then g f else 0)+bf n (λi=>if i=c then g c else 0):=by
  rw[<- rS]
  refine bG λi hi=> ?_
  by_cases h1:i=f
  ·subst h1;rw[if_pos rfl,if_neg J];omega
  ·by_cases h2:i=c
   ·subst h2;rw[if_neg h1,if_pos rfl];omega
   ·rw[if_neg h1,if_neg h2,h i hi h1 h2];rfl
 rw[this,gd U (λi _ hi=>by rw[if_neg hi]),gd hc (λi _ hi=>by rw[if_neg hi]),if_pos rfl,if_pos rfl]
theorem Al(pl:Pl n P){f:Nat}(U:f<n)(J:∀p∈P,p.1≠f)(hp:p∈P)(hr:∀q∈P,q.1≠p.1->nth r q.1=0):
 dR n r (iD P f)=nth r f*ie P-nth r p.1*(nth p.2 f*(ie P/nth p.2 p.1)):=by
 unfold dR
 rw[Ia U (pl.good p hp).lt (λz=>J p hp z.symm) (λi _ h1 h2=> ?_)]
 ·have e1:iD P f f=ie P:=by
   unfold iD;rw[if_pos rfl,je J];omega
  have e2:iD P f p.1= -(nth p.2 f*(ie P/nth p.2 p.1)):=by
   unfold iD;rw[if_neg (J p hp),we pl.pw hp];omega
  rw[e1,e2];grind
 ·by_cases hq:∃q∈P,q.1=i
  ·obtain⟨q,hq,rfl⟩:=hq
   rw[hr q hq h2];omega
  ·have:iD P f i=0:=by
    unfold iD
    rw[if_neg h1,je λq hq' z=>hq ⟨q,hq',z⟩];rfl
   rw[this];omega
theorem qM(pl:Pl n P){f:Nat}(Y:f<n)(J:∀p∈P,p.1≠f):eI n (P.map (·.2)) (iD P f):=by
 intro r hr
 obtain⟨p,hp,rfl⟩:=li.mp hr
 rw[Al pl Y J hp λq hq h=>pl.other hp hq λz=>h z.symm]
 have hd:=rG hp
 have U:=(pl.good p hp).pos
 obtain⟨k,hk⟩:=hd
 have:ie P/nth p.2 p.1=k:=by rw[hk,Qt _ (by omega)]
 rw[this,hk];grind
theorem E4(pl:Pl n P){f:Nat}(J:∀p∈P,p.1≠f){i:Nat}(hi:f<i):iD P f i=0:=by
 unfold iD
 rw[if_neg (by omega)]
 by_cases hq:∃q∈P,q.1=i
 ·obtain⟨q,hq,rfl⟩:=hq
  rw[we pl.pw hq,(pl.good q hq).zero f hi];omega
 ·rw[je λq hq' z=>hq ⟨q,hq',z⟩];rfl
theorem Pl.leads_pos(pl:Pl n P):0<ie P:=xq λp hp=>(pl.good p hp).pos
theorem uD{P Q:List (Nat×List Int)}(pl:Pl n P)(U:Pl n Q)(h:∀x,eI n (Q.map (·.2)) x->eI n (P.map (·.2)) x)(hp:p∈P):∃q∈Q,q.1=p.1:=by
 apply E9
 intro hn
 have J:∀q∈Q,q.1≠p.1:=λq hq z=>hn ⟨q,hq,z⟩
 have g:=pl.good p hp
 have:=h _ (qM U g.lt J) p.2 (li.mpr ⟨p,hp,rfl⟩)
 unfold dR at this
 rw[gd g.lt λi _ hi=> ?_] at this
 ·have e:iD Q p.1 p.1=ie Q:=by unfold iD;rw[if_pos rfl,je J];omega
  rw[e] at this
  have h1:=U.leads_pos
  have h2:=g.pos
  have:=MH h2 h1
  omega
 ·by_cases Y:i<p.1
  ·rw[g.zero i Y];omega
  ·rw[E4 U J (by omega)];omega
theorem zo:∀{l m:List Nat},l.Pairwise (· < ·)->m.Pairwise (· < ·)->(∀x,x∈l↔x∈m)->l=m
 | [],[],_,_,_=>rfl
 | [],b::m,_,_,h=>by have:=(h b).mpr pi;cases this
 | a::l,[],_,_,h=>by have:=(h a).mp pi;cases this
 | a::l,b::m,hl,hm,h=>by
  have h1:=AC.mp hl
  have h2:=AC.mp hm
  have J:a=b:=by
   rcases sn.mp ((h a).mp pi) with e | e
   ·exact e
   ·rcases sn.mp ((h b).mpr pi) with e' | e'
    ·exact e'.symm
    ·have:=h1.1 b e';have:=h2.1 a e;omega
  subst J
  congr 1
  refine zo h1.2 h2.2 λx=>⟨λhx=> ?_,λhx=> ?_⟩
  ·rcases sn.mp ((h x).mp (ol _ hx)) with e | e
   ·have:=h1.1 x hx;omega
   ·exact e
  ·rcases sn.mp ((h x).mpr (ol _ hx)) with e | e
   ·have:=h2.1 x hx;omega
   ·exact e
theorem BQ(a:Int)(r:List Int):cI (r.map (a * ·))=a.natAbs*cI r:=by
 unfold cI
 have:∀(l:List Int) (c:Nat),(l.map (a * ·)).foldl (λc n=>PN c n.natAbs) (a.natAbs*c)=a.natAbs*l.foldl (λc n=>PN c n.natAbs) c:=by
  intro l
  induction l with
  | nil=>intro c;rfl
  | cons b l J=>intro c;simp only[sH,PD,RC,Nat.gcd_mul_left];exact J _
 exact this r 0
theorem tV(J:r.length=s.length)(h:∀i,i<r.length->nth r i=nth s i):r=s:=by
 refine PL J λi h1 h2=> ?_
 have:=h i h1
 unfold nth at this
 simpa[kt,h1,h2] using this
theorem D8(U:r.length=s.length)(h1:cI r=1)(h2:cI s=1){a b:Int}(ha:0<a)(hb:0<b)(h:∀i,i<r.length->a*nth r i=b*nth s i):r=s:=by
 have e:r.map (a * ·)=s.map (b * ·):=tV (by simp[U]) λi hi=>by
  rw[g9 (by simp),g9 (by simp)];exact h i (by simpa using hi)
 have e2:=BQ a r
 rw[e,BQ,h1,h2] at e2
 have J:a=b:=by omega
 subst J
 exact tV U λi hi=>Int.eq_of_mul_eq_mul_left (by omega) (h i hi)
theorem Fj{P Q:List (Nat×List Int)}(pl:Pl n P)(U:Pl n Q)(h:∀x,eI n (P.map (·.2)) x↔eI n (Q.map (·.2)) x):P=Q:=by
 have hf:P.map (·.1)=Q.map (·.1):=by
  refine zo (P0.mpr (pl.pw.imp λh=>h.1)) (P0.mpr (U.pw.imp λh=>h.1)) λx=>⟨λhx=> ?_,λhx=> ?_⟩
  ·obtain⟨p,hp,rfl⟩:=li.mp hx
   obtain⟨q,hq,e⟩:=uD pl U (λx=>(h x).mpr) hp
   exact li.mpr ⟨q,hq,e⟩
  ·obtain⟨p,hp,rfl⟩:=li.mp hx
   obtain⟨q,hq,e⟩:=uD U pl (λx=>(h x).mp) hp
   exact li.mpr ⟨q,hq,e⟩
 have key:∀p∈P,∀q∈Q,p.1=q.1->p.2=q.2:=λp hp q hq ab=>by
  have gp:=pl.good p hp
  have gq:=U.good q hq
  refine D8 (by rw[gp.len,gq.len]) gp.one gq.one (a:=nth q.2 q.1) (b:=nth p.2 p.1) gq.pos gp.pos λi hi=> ?_
  by_cases Y:∃p'∈P,p'.1=i
  ·obtain⟨p',hp',rfl⟩:=Y
   by_cases hc:p'.1=p.1
   ·rw[hc,<- ab];grind
   ·obtain⟨q',hq',e⟩:=uD pl U (λx=>(h x).mpr) hp'
    rw[pl.other hp hp' (λz=>hc z.symm),<- e,U.other hq hq' (by omega)];omega
  ·have J:∀p∈P,p.1≠i:=λp' hp' z=>Y ⟨p',hp',z⟩
   have am:i<n:=by rw[gp.len] at hi;exact hi
   have:=(h _).mp (qM pl am J) q.2 (li.mpr ⟨q,hq,rfl⟩)
   rw[Al pl am J hp (r:=q.2) λp' hp' a2=>by
    obtain⟨q',hq',e⟩:=uD pl U (λx=>(h x).mpr) hp'
    rw[<- e];exact U.other hq hq' (by omega)] at this
   obtain⟨k,hk⟩:=rG hp
   have a1:=gp.pos
   have e1:ie P/nth p.2 p.1=k:=by rw[hk,Qt _ (by omega)]
   have as:k≠0:=λz=>by have:=pl.leads_pos;rw[hk,z] at this;omega
   rw[e1,hk,ab] at this
   have:k*(nth q.2 q.1*nth p.2 i-nth p.2 p.1*nth q.2 i)=0:=by rw[ab];grind
   rcases AT.mp this with z | z
   ·exact absurd z as
   ·omega
 have an:P.length=Q.length:=by have:=congrArg PP hf;simpa using this
 refine PL an λi h1 h2=> ?_
 have e1:P[i].1=Q[i].1:=by
  have:(P.map (·.1))[i]'(by simpa using h1)=(Q.map (·.1))[i]'(by simpa using h2):=by simp only[hf]
  simpa using this
 exact Prod.ext e1 (key _ (wT h1) _ (wT h2) e1)
theorem zW{R S:List (List Int)}(J:∀r∈R,r.length=n)(U:∀r∈S,r.length=n)(h:∀x,eI n R x↔eI n S x):cb R n=cb S n:=by
 obtain⟨P,e1,p1,_,Y⟩:=jd J
 obtain⟨Q,e2,p2,_,n2⟩:=jd U
 have:P=Q:=Fj p1 p2 λx=>by rw[<- e1,<- e2];exact(Y x).trans ((h x).trans (n2 x).symm)
 rw[e1,e2,this]
theorem nq(J:∀r∈R,r.length=n):∀r∈cb R n,r.length=n:=by
 obtain⟨P,e1,p1,_⟩:=jd J
 rw[e1]
 intro r hr
 obtain⟨p,hp,rfl⟩:=li.mp hr
 exact(p1.good p hp).len
theorem vD(J:∀r∈R,r.length=n):cb (cb R n) n=cb R n:=by
 obtain⟨P,e1,p1,_,U⟩:=jd J
 exact zW (nq J) J U
theorem gA(J:∀r∈R,r.length=n):∀r∈bc R n,r.length=n:=nq (nZ J).len
theorem vB(J:∀r∈R,r.length=n):bc (bc R n) n=cb R n:=by
 have U:=gA J
 obtain⟨P,_,_,h1,h2⟩:=gI J
 obtain⟨Q,_,_,h3,h4⟩:=gI U
 have Y:=gA U
 rw[<- vD J]
 have:bc (bc R n) n=cb (bc (bc R n) n) n:=(vD (R:=kO (bc R n) n) (nZ U).len).symm
 rw[this]
 refine zW Y (nq J) λx=> ?_
 obtain⟨_,_,_,_,n1⟩:=jd J
 rw[n1,ng U]
 constructor
 ·intro s r hr
  rw[fI,bH]
  exact s.dot λl hl=>h1 r hr l hl
 ·intro hx
  refine h4 x λl hl=> ?_
  have:eI n (bc R n) (nth l):=λq hq=>by rw[fI,bH];exact h3 q hq l hl
  exact(h2 _ this).dot hx
def SzL(b:Nat)(r:List Int):Prop:=∀x∈r,Sz b x
def cL(b:Nat)(R:List (List Int)):Prop:=∀r∈R,SzL b r
theorem SzL.mono(h:SzL b r)(J:b<=c):SzL c r:=λx hx=>(h x hx).mono J
theorem cL.mono{r:List (List Int)}(h:cL b r)(J:b<=c):cL c r:=λx hx=>(h x hx).mono J
theorem Sz.zero(b:Nat):Sz b 0:=by unfold Sz;simp;exact QO b
theorem SzL.nth(h:SzL b r)(i:Nat):Sz b (M.nth r i):=by
 by_cases hi:i<r.length
 ·exact h _ (qf hi)
 ·rw[fX (by omega)];exact Sz.zero b
theorem SzL.low(h:SzL b r):SzL b (M.low r):=by
 intro x hx
 unfold M.low at hx
 split at hx
 ·exact h x hx
 ·obtain⟨y,hy,rfl⟩:=li.mp hx
  exact Nat.lt_of_le_of_lt (Int.natAbs_ediv_le_natAbs y _) (h y hy)
theorem SzL.mix{J U Y bw:Nat}{one other:List Int}{v w:Int}(h1:SzL J one)(h2:SzL U other)(hv:Sz Y v)(hw:Sz bw w):SzL (max (J+bw) (U+Y)+1) (gf one v other w):=by
 intro x hx
 unfold gf at hx
 obtain⟨i,hi,e⟩:=Pn hx
 rw[RH] at e
 subst e
 exact Sz.sub (Sz.mul (h1 _ (wT _)) hw) (Sz.mul (h2 _ (wT _)) hv)
theorem SzL.off{J U Y bw:Nat}{one other:List Int}{v w:Int}(h1:SzL J one)(h2:SzL U other)(hv:Sz Y v)(hw:Sz bw w):SzL (max (J+bw) (U+Y)+1) (c7 one v other w):=(SzL.mix h1 h2 hv hw).low
theorem SzL.sgn(h:SzL b r)(a:Nat):SzL b (gi r a):=by
 unfold gi
 split
 ·exact h
 ·intro x hx
  obtain⟨y,hy,rfl⟩:=li.mp hx
  exact(h y hy).neg
theorem SzL.clr{row lead:List Int}(h1:SzL b row)(h2:SzL b lead)(a:Nat):SzL (2*b+1) (dC lead a row):=by
 unfold dC
 split
 ·exact h1.mono (by omega)
 ·exact(SzL.off h1 h2 (h1.nth a) (h2.nth a)).mono (by omega)
theorem sR{left done:List (List Int)}(h1:cL b left)(h2:cL b done):cL (2*b+1) (df (left,done) a).1/\cL (2*b+1) (df (left,done) a).2:=by
 unfold df
 dsimp only
 split
 ·exact⟨h1.mono (by omega),h2.mono (by omega)⟩
 ·rename_i k e
  have U:=(gb e).1
  rw[nW] at U
  have J:SzL b (gi (left.getD k []) a):=SzL.sgn (h1 _ (getD_mem U)) a
  refine⟨λr hr=> ?_,λr hr=> ?_⟩
  ·obtain⟨q,hq,rfl⟩:=li.mp hr
   exact SzL.clr (h1 q (KE hq)) J a
  ·rcases sE.mp hr with hr | hr
   ·obtain⟨q,hq,rfl⟩:=li.mp hr
    exact SzL.clr (h2 q hq) J a
   ·rw[sB.mp hr];exact J.mono (by omega)
def grow(b p:Nat):Nat:=2^p*(b+1)-1
theorem FD(b:Nat):grow b 0=b:=by unfold grow;simp
theorem Ad(b p:Nat):2*grow b p+1=grow b (p+1):=by
 unfold grow
 have h:0<2^p*(b+1):=Nat.mul_pos (QO p) (Nat.succ_pos b)
 have e:2^(p+1)*(b+1)=2*(2^p*(b+1)):=by rw[RN,Rh (2^p) 2,RJ]
 rw[e]
 omega
theorem Am{b p q:Nat}(h:p<=q):grow b p<=grow b q:=by
 unfold grow
 have:2^p*(b+1)<=2^q*(b+1):=QP _ (M2 (by decide) h)
 omega
theorem sr{left done:List (List Int)}:((df (left,done) a)=(left,done))\/(df (left,done) a).2.length=done.length+1:=by
 unfold df
 dsimp only
 split
 ·exact .inl rfl
 ·exact .inr (by simp)
structure PSz(n b a:Nat)(rows:List (List Int))(left done:List (List Int)):Prop where
 eq:(pc a).foldl df (rows.map low,[])=(left,done)
 ll:∀r∈left,r.length=n
 dl:∀r∈done,r.length=n
 cnt:left.length+done.length=rows.length
 ls:cL (grow b done.length) left
 ds:cL (grow b done.length) done
theorem PSz.start(J:∀r∈rows,r.length=n)(hs:cL b rows):PSz n b 0 rows (rows.map low) []:=by
 refine⟨rfl,λr hr=> ?_,by simp,by simp,λr hr=> ?_,λr hr=>by cases hr⟩
 ·obtain⟨q,hq,rfl⟩:=li.mp hr
  rw[low_length];exact J q hq
 ·obtain⟨q,hq,rfl⟩:=li.mp hr
  rw[Rx,FD]
  exact(hs q hq).low
theorem PSz.step{rows left done:List (List Int)}(h:PSz n b a rows left done)(U:∀r∈rows,r.length=n)(ha:a<n):PSz n b (a+1) rows (df (left,done) a).1 (df (left,done) a).2:=by
 have J:(pc (a+1)).foldl df (rows.map low,[])=df (left,done) a:=by
  rw[QN,QB,h.eq];rfl
 obtain⟨Y,P',e,s,c,_⟩:=wA (n:=n) (left:=rows.map low) (λr hr=>by
  obtain⟨q,hq,rfl⟩:=li.mp hr
  rw[low_length];exact U q hq) (λr hr=>by
  obtain⟨q,hq,rfl⟩:=li.mp hr
  exact rj q) (a+1) (by omega)
 rw[J] at e
 refine⟨J,λr hr=> ?_,λr hr=> ?_, ?_, ?_, ?_⟩
 ·rw[e] at hr;exact s.ll r hr
 ·rw[e] at hr
  obtain⟨p,hp,rfl⟩:=li.mp hr
  exact(s.pl.good p hp).len
 ·rw[e];simp;simpa using c
 ·rcases sr (a:=a) (left:=left) (done:=done) with q | q
  ·rw[q];exact h.ls
  ·rw[q,<- Ad];exact(sR h.ls h.ds).1
 ·rcases sr (a:=a) (left:=left) (done:=done) with q | q
  ·rw[q];exact h.ds
  ·rw[q,<- Ad];exact(sR h.ls h.ds).2
theorem PSz.done{rows left done:List (List Int)}(h:PSz n b n rows left done):cb rows n=done:=by unfold cb;rw[h.eq]
theorem Gb(J:∀r∈rows,r.length=n)(hs:cL b rows):cL (grow b rows.length) (cb rows n):=by
 have:∀a,a<=n->∃left done,PSz n b a rows left done:=by
  intro a
  induction a with
  | zero=>exact λ_=>⟨_,_,PSz.start J hs⟩
  | succ a U=>
   intro ha
   obtain⟨l,d,h⟩:=U (by omega)
   exact⟨_,_,h.step J (by omega)⟩
 obtain⟨l,d,h⟩:=this n (qh n)
 rw[h.done]
 exact h.ds.mono (Am (by have:=h.cnt;omega))
section
variable {s s1 : S} {d : D}
@[simp] theorem Lk (m:AM) (s:S):pA m s=(m s).bind λx=>match x.1 with
 | [.lst as,.lst bs]=>.ok ((kB as bs,none),x.2)
 | _=>.bad:=rfl
@[simp] theorem iH (m:AM) (s:S):cP m s=(m s).bind λx=>match x.1 with
 | [.lst as]=>.ok ((dO as,none),x.2)
 | _=>.bad:=rfl
@[simp] theorem KW (m:EM) (s:S):EA m s=(m s).bind λx=>match x.1 with
 | .str z=>.ok ((oj z,none),x.2)
 | _=>.bad:=rfl
@[simp] theorem zj (f g:Op2) (a b c:EM) (s:S):lg f g a b c s=(a s).bind λx=>(b x.2).bind λy=>(f y.2.o x.1 y.1).bind λz=>match z with
 | .bl true=>(c y.2).bind λw=>(g w.2.o y.1 w.1).bind λd=>.ok (d,w.2)
 | .bl false=>.ok (.bl false,y.2)
 | _=>.bad:=rfl
@[simp] theorem Io (n:Nat) (f:FM) (m:AM) (s:S):gU n f m s=(m s).bind λx=>if x.1.length=n then (match f x.1 x.2.o with
 | .ok (d,O1)=>.ok (d,⟨x.2.r,O1⟩)
 | _=>.bad) else .bad:=rfl
@[simp] theorem DL (m:EM) (s:S):B5 m s=(m s).bind λx=>match lsD x.2.o x.1 with
 | some ds=>.ok (!ds.isEmpty,x.2)
 | none=>.bad:=rfl
@[simp] theorem Lb (fin:S->List D->Res (D×S)) (ma:AM) (mk:EM) (s:S):yp fin ma mk s=(ma s).bind λx=>if x.1.length<=16777216 then (mk x.2).bind λy=>match y.1 with
 | .int k=>if (-(2^63)<=k/\k<2^63)/\x.1.length*k.toNat<=16777216 then fin y.2 (E1 k x.1) else .bad
 | _=>.bad
 else .bad:=rfl
@[simp] theorem N9 (s:S) (ds:List D):Fp s ds=.ok (.lst ds,s):=rfl
@[simp] theorem yh (s:S) (ds:List D):pR s ds=.ok (.ptr s.o.length,⟨s.r,s.o++[.lst ds]⟩):=rfl
@[simp] theorem Ot (O:ay):isD O .non .non=.ok (.bl true):=rfl
@[simp] theorem Ov (O:ay) (i:Int):isD O (.int i) .non=.ok (.bl false):=rfl
@[simp] theorem Oe (O:ay) (i:List D):isD O (.lst i) .non=.ok (.bl false):=rfl
@[simp] theorem OH (O:ay) (i:List D):isD O (.tup i) .non=.ok (.bl false):=rfl
@[simp] theorem Na (O:ay):mJ O .non .non=.ok (.bl false):=rfl
@[simp] theorem M6 (O:ay) (i:Int):mJ O (.int i) .non=.ok (.bl true):=rfl
@[simp] theorem M9 (O:ay) (i:List D):mJ O (.lst i) .non=.ok (.bl true):=rfl
@[simp] theorem Nl (O:ay) (i:List D):mJ O (.tup i) .non=.ok (.bl true):=rfl
@[simp] theorem ow (g h:GM) (a b:D) (s:S):cV (aX g (aX h cZ)) 2 (.tup [a,b]) s=(g a s).bind λs1=>h b s1:=by
 show (g a s).bind (λs1=>(h b s1).bind λs2=>.ok s2)=_
 congr 1
 funext s1
 cases h b s1 <;> rfl
@[simp] theorem DC (ns:List Int):gH (ns.map D.int)=some ns:=by
 induction ns with
 | nil=>rfl
 | cons n ns J=>rw[sH,gH,J];rfl
@[simp] theorem vP (ns:List Bool):jM (ns.map D.bl)=some ns:=by
 induction ns with
 | nil=>rfl
 | cons n ns J=>rw[sH,jM,J];rfl
@[simp] theorem tR (O:ay) (ns:List Int):tm O [.lst (ns.map D.int)]=.ok (.int ns.sum):=by
 show (match gH (ns.map D.int) with
  | some ns=>Res.ok (D.int ns.sum)
  | none=>.bad)=_
 rw[DC]
@[simp] theorem Bk (O:ay) (ns:List Bool):Cg O [.lst (ns.map D.bl)]=.ok (.bl (ns.all id)):=by
 show (match jM (ns.map D.bl) with
  | some ns=>Res.ok (D.bl (ns.all id))
  | none=>.bad)=_
 rw[vP]
@[simp] theorem NQ (O:ay) (ns:List Bool):N2 O [.lst (ns.map D.bl)]=.ok (.bl (ns.any id)):=by
 show (match jM (ns.map D.bl) with
  | some ns=>Res.ok (D.bl (ns.any id))
  | none=>.bad)=_
 rw[vP]
end
theorem px {α:Type} {ok:ay->Prop} {g:GM} {c:TM} {e:EM} {O:ay} (U:ok O) (item:α->D) (P:S->Prop) (hP:∀s,P s->s.o=O) (l:List α) (p:α->Bool) (out:α->D)
 (step:∀a∈l,∀s,P s->∃s1 s2,g (item a) s=.ok s1/\c s1=.ok (p a,s2)/\(p a=false->P s2)/\(p a=true->∃Y,e s2=.ok (out a,Y)/\P Y)):
 ∀(J:List D) (s:S),J.length+l.length<=16777216->P s->∃s',dv ok g c e (l.map item) J s=.ok (J++(l.filter p).map out,s')/\P s':=by
 induction l with
 | nil=>
  intro J s _ h
  exact⟨s,by rw[IR,dv,if_pos (by rw[hP s h];exact U)];simp,h⟩
 | cons a l ih=>
  intro J s hl h
  rw[tz] at hl
  obtain⟨s1,s2,e1,e2,h2,h3⟩:=step a pi s h
  rw[sH,dv,if_pos ⟨by rw[hP s h];exact U,by omega⟩,e1,aj,e2,aj]
  cases hp:p a with
  | false=>
   obtain⟨s',e3,h4⟩:=ih (λb hb=>step b (ol _ hb)) J s2 (by omega) (h2 hp)
   refine⟨s', ?_,h4⟩
   rw[Aj (by simp[hp])]
   simpa using e3
  | true=>
   obtain⟨Y,e3,h4⟩:=h3 hp
   obtain⟨s',e5,h5⟩:=ih (λb hb=>step b (ol _ hb)) (J++[out a]) Y (by rw[u8,xz];omega) h4
   refine⟨s', ?_,h5⟩
   rw[wI hp]
   simp only[if_true,e3,aj,e5]
   simp
section
variable {α : Type} {caps : List Nat} {im : IM} {c : TM} {e : EM} {s : S} {k : Option Nat} {l : List α} {item out : α → D} {p : α → Bool}
theorem CQ (J:im s=.ok ((l.map item,k),s)) (U:okC (l.map item) k s.o) (Y:l.length<=16777216)
 (hc:∀a∈l,c ⟨some (item a)::caps.map (λi=>(s.r[i]?).getD none),s.o⟩=.ok (p a,⟨some (item a)::caps.map (λi=>(s.r[i]?).getD none),s.o⟩))
 (he:∀a∈l,p a=true->e ⟨some (item a)::caps.map (λi=>(s.r[i]?).getD none),s.o⟩=.ok (out a,⟨some (item a)::caps.map (λi=>(s.r[i]?).getD none),s.o⟩)):
 lZ 1 caps im (ax 0) c e s=.ok ((l.filter p).map out,s):=by
 obtain⟨s',e1,x,h1⟩:=px (ok:=okC (l.map item) k) (g:=ax 0) (c:=c) (e:=e) (O:=s.o) U item (λs2=>∃x,s2=⟨x::caps.map (λi=>(s.r[i]?).getD none),s.o⟩) (by rintro _ ⟨_,rfl⟩;rfl) l p out (by
  rintro a ha _ ⟨x,rfl⟩
  exact⟨_,_,rfl,hc a ha,λ_=>⟨_,rfl⟩,λhp=>⟨_,he a ha hp,_,rfl⟩⟩) [] ⟨lL 1 caps s.r,s.o⟩ (by simpa using Y) ⟨none,rfl⟩
 rw[qZ,J,aj]
 dsimp only
 rw[e1,aj]
 subst h1
 rfl
theorem A0 {f g:α->D} (J:im s=.ok ((l.map (λa=>D.tup [f a,g a]),k),s)) (U:okC (l.map (λa=>D.tup [f a,g a])) k s.o) (Y:l.length<=16777216)
 (hc:∀a∈l,c ⟨some (f a)::some (g a)::caps.map (λi=>(s.r[i]?).getD none),s.o⟩=.ok (p a,⟨some (f a)::some (g a)::caps.map (λi=>(s.r[i]?).getD none),s.o⟩))
 (he:∀a∈l,p a=true->e ⟨some (f a)::some (g a)::caps.map (λi=>(s.r[i]?).getD none),s.o⟩=.ok (out a,⟨some (f a)::some (g a)::caps.map (λi=>(s.r[i]?).getD none),s.o⟩)):
 lZ 2 caps im (cV (aX (ax 0) (aX (ax 1) cZ)) 2) c e s=.ok ((l.filter p).map out,s):=by
 obtain⟨s',e1,x,y,h1⟩:=px (ok:=okC (l.map (λa=>D.tup [f a,g a])) k) (g:=cV (aX (ax 0) (aX (ax 1) cZ)) 2) (c:=c) (e:=e) (O:=s.o) U (λa=>D.tup [f a,g a]) (λs2=>∃x y,s2=⟨x::y::caps.map (λi=>(s.r[i]?).getD none),s.o⟩) (by rintro _ ⟨_,_,rfl⟩;rfl) l p out (by
  rintro a ha _ ⟨x,y,rfl⟩
  exact⟨_,_,by simp,hc a ha,λ_=>⟨_,_,rfl⟩,λhp=>⟨_,he a ha hp,_,_,rfl⟩⟩) [] ⟨lL 2 caps s.r,s.o⟩ (by simpa using Y) ⟨none,none,rfl⟩
 rw[qZ,J,aj]
 dsimp only
 rw[e1,aj]
 subst h1
 rfl
theorem mf(l:List α):l.filter (λ_=>true)=l:=by simp
theorem dE (J:im s=.ok ((l.map item,k),s)) (U:okC (l.map item) k s.o) (Y:l.length<=16777216)
 (he:∀a∈l,e ⟨some (item a)::caps.map (λi=>(s.r[i]?).getD none),s.o⟩=.ok (out a,⟨some (item a)::caps.map (λi=>(s.r[i]?).getD none),s.o⟩)):
 bD 1 caps im (ax 0) bF e s=.ok (.lst (l.map out),s):=by
 rw[lK,CQ (p:=λ_=>true) J U Y (λ_ _=>rfl) (λa ha _=>he a ha),aj,mf]
theorem yK (J:im s=.ok ((l.map item,k),s)) (U:okC (l.map item) k s.o) (Y:l.length<=16777216)
 (hc:∀a∈l,c ⟨some (item a)::caps.map (λi=>(s.r[i]?).getD none),s.o⟩=.ok (p a,⟨some (item a)::caps.map (λi=>(s.r[i]?).getD none),s.o⟩))
 (he:∀a∈l,p a=true->e ⟨some (item a)::caps.map (λi=>(s.r[i]?).getD none),s.o⟩=.ok (out a,⟨some (item a)::caps.map (λi=>(s.r[i]?).getD none),s.o⟩)):
 bD 1 caps im (ax 0) c e s=.ok (.lst ((l.filter p).map out),s):=by
 rw[lK,CQ J U Y hc he,aj]
theorem Bx {f g:α->D} (J:im s=.ok ((l.map (λa=>D.tup [f a,g a]),k),s)) (U:okC (l.map (λa=>D.tup [f a,g a])) k s.o) (Y:l.length<=16777216)
 (he:∀a∈l,e ⟨some (f a)::some (g a)::caps.map (λi=>(s.r[i]?).getD none),s.o⟩=.ok (out a,⟨some (f a)::some (g a)::caps.map (λi=>(s.r[i]?).getD none),s.o⟩)):
 bD 2 caps im (cV (aX (ax 0) (aX (ax 1) cZ)) 2) bF e s=.ok (.lst (l.map out),s):=by
 rw[lK,A0 (p:=λ_=>true) J U Y (λ_ _=>rfl) (λa ha _=>he a ha),aj,mf]
theorem yf {f g:α->D} (J:im s=.ok ((l.map (λa=>D.tup [f a,g a]),k),s)) (U:okC (l.map (λa=>D.tup [f a,g a])) k s.o) (Y:l.length<=16777216)
 (hc:∀a∈l,c ⟨some (f a)::some (g a)::caps.map (λi=>(s.r[i]?).getD none),s.o⟩=.ok (p a,⟨some (f a)::some (g a)::caps.map (λi=>(s.r[i]?).getD none),s.o⟩))
 (he:∀a∈l,p a=true->e ⟨some (f a)::some (g a)::caps.map (λi=>(s.r[i]?).getD none),s.o⟩=.ok (out a,⟨some (f a)::some (g a)::caps.map (λi=>(s.r[i]?).getD none),s.o⟩)):
 bD 2 caps im (cV (aX (ax 0) (aX (ax 1) cZ)) 2) c e s=.ok (.lst ((l.filter p).map out),s):=by
 rw[lK,A0 J U Y hc he,aj]
theorem tJ (J:im s=.ok ((l.map item,k),s)) (U:okC (l.map item) k s.o) (Y:l.length<=16777216)
 (he:∀a∈l,e ⟨some (item a)::caps.map (λi=>(s.r[i]?).getD none),s.o⟩=.ok (out a,⟨some (item a)::caps.map (λi=>(s.r[i]?).getD none),s.o⟩)):
 kh 1 caps im (ax 0) bF e s=.ok (.ptr s.o.length,⟨s.r,s.o++[.lst (l.map out)]⟩):=by
 rw[Bn,CQ (p:=λ_=>true) J U Y (λ_ _=>rfl) (λa ha _=>he a ha),aj,mf]
end
abbrev vI(r:List Int):D:=.lst (r.map .int)
abbrev vII(R:List (List Int)):D:=.lst (R.map vI)
@[simp] theorem kJ (R:List (List Int)):aQ (R.map vI)=true:=by
 induction R with
 | nil=>rfl
 | cons r R J=>simp[J]
theorem o9(as bs:List Int):kB (as.map D.int) (bs.map D.int)=(as.zip bs).map λp=>.tup [.int p.1,.int p.2]:=by
 unfold kB
 rw[R8,List.zip_eq_zipWith,List.map_zipWith]
theorem EB(as:List Int):dO (as.map D.int)=as.zipIdx.map λp=>.tup [.int (p.2:Int),.int p.1]:=by
 unfold dO
 rw[P5,QQ,ss]
 rfl
theorem Hx(as:List (List Int)):dO (as.map vI)=as.zipIdx.map λp=>.tup [.int (p.2:Int),vI p.1]:=by
 unfold dO
 rw[P5,QQ,ss]
 rfl
theorem i6{i:Nat}(h:i<r.length):ixD O (vI r) (.int (i:Int))=.ok (.int (nth r i)):=by
 refine nP ?_
 rw[ot (by omega) (by simpa using h)]
 simp[nth,kt,h]
theorem Mu{i:Nat}(h:i<R.length):ixD O (vII R) (.int (i:Int))=.ok (vI (R.getD i [])):=by
 refine nP ?_
 rw[ot (by omega) (by simpa using h)]
 simp[kt,h]
theorem eO(n:Nat):dt 0 (n:Int)=(pc n).map λi=>.int (i:Int):=by
 unfold dt
 simp
theorem lU(h:n<=1000000):n<=16777216:=yB h (by decide)
theorem zip_map{f:Int->Int->Int}:∀(a b:List Int),(a.zip b).map (λp=>f p.1 p.2)=Pr f a b
 | [],_=>by simp
 | _::_,[]=>by simp
 | x::a,y::b=>by simp[zip_map a b]
theorem J3(a b:List Int):(a.zip b).map (λp=>p.1*p.2)=Pr (· * ·) a b:=zip_map a b
theorem G6(n:Nat):E1 (n:Int) [.int 0]=(pr n (0:Int)).map D.int:=by
 unfold E1
 rw[show (n:Int).toNat=n from RX n]
 induction n with
 | zero=>rfl
 | succ n J=>rw[Fa,PJ,J];simp[Fa]
theorem BW{mo J:EM}{d:D}{s s1 s2:S}(h1:mo s=.ok (.ptr k,s1))(h2:J s1=.ok (.int (a:Int),s2))(U:s2.o[k]? =some (.lst ds))(ha:a<ds.length):
 vY mo J d s=.ok ⟨s2.r,s2.o.set k (.lst (ds.set a d))⟩:=by
 unfold vY
 rw[h1,aj]
 dsimp only
 rw[h2,aj]
 dsimp only
 rw[kx U]
 dsimp only
 have e:ixN ds.length (a:Int)=some a:=by
  unfold ixN
  rw[if_pos (by omega),if_pos (by omega)]
  simp
 rw[e]
theorem d0{i:Nat}{s s':S}(h:m s=.ok (d,s')):setM i m s=.next ⟨s'.r.set i (some d),s'.o⟩:=by
 show ((m s).bind _).out _=_
 rw[h];rfl
theorem bI{s s':S}(h:m s=.ok (d,s')):bJ m s=.ret d s':=by
 show (m s).out _=_
 rw[h];rfl
theorem u7{c:TM}{a b:SM}{s s':S}(h:c s=.ok (true,s')):ifS c a b s=a s':=by
 show (c s).out _=_
 rw[h];rfl
theorem ki{c:TM}{a b:SM}{s s':S}(h:c s=.ok (false,s')):ifS c a b s=b s':=by
 show (c s).out _=_
 rw[h];rfl
theorem bL{a b:SM}{s s':S}(h:a s=.next s'):aM a b s=b s':=by
 show (a s).then b=_
 rw[h];rfl
theorem ky{a b:SM}{s s':S}(h:a s=.ret d s'):aM a b s=.ret d s':=by
 show (a s).then b=_
 rw[h];rfl
theorem JM{fin:S->List D->Res (D×S)}{mk:EM}{s:S}(h:mk s=.ok (.int (n:Int),s))(hn:n<=1000000):yp fin (ae (aq (.int 0)) ak) mk s=fin s ((pr n (0:Int)).map D.int):=by
 rw[Lb,aV,aC,aj,aG,aj,aj]
 dsimp only
 rw[if_pos (by decide),h,aj]
 dsimp only
 rw[if_pos ⟨⟨by omega,by omega⟩,by simp;omega⟩,G6]
theorem cx{f:FM}{s s':S}(h:ma s=.ok (ds,s'))(hp:aQ ds=true)(J:ds.length=n)(U:f ds []=.ok (d,O))(hd:cU d=true):aN n f ma s=.ok (d,s'):=by
 rw[IJ,h,aj,if_pos ⟨hp,J⟩]
 dsimp only
 rw[U]
 dsimp only
 rw[if_pos hd]
theorem wt{f:FM}{s s':S}(h:ma s=.ok (ds,s'))(J:ds.length=n)(U:f ds s'.o=.ok (d,O)):gU n f ma s=.ok (d,⟨s'.r,O⟩):=by
 rw[Io,h,aj,if_pos J]
 dsimp only
 rw[U]
theorem Kh{s s1 s2:S}{k i:Nat}(h1:mo s=.ok (.ptr k,s1))(U:s1.o[k]? =some (.lst ds0))(h2:me s1=.ok (.int (i:Int),s2))(Y:s2.o[k]? =some (.lst ds))(hi:i<ds.length)(hb:i<=1000000):
 Cv mo me s=.ok (ds[i],⟨s2.r,s2.o.set k (.lst (ds.eraseIdx i))⟩):=by
 unfold Cv
 rw[h1,aj]
 dsimp only
 rw[kx U]
 dsimp only
 rw[h2,aj]
 dsimp only
 rw[kx Y]
 dsimp only
 have e:seqIndex? (i:Int) ds.length=some i:=by
  have J:¬((i:Int)<0):=by omega
  simp only[seqIndex?,J,if_false]
  simp[hi]
 rw[if_pos ⟨by omega,by omega⟩,e]
 dsimp only
 rw[na hi]
theorem uT{s s1 s2:S}(h1:mo s=.ok (.ptr k,s1))(J:s1.o[k]? =some (.lst ds0))(h2:me s1=.ok (d,s2))(U:s2.o[k]? =some (.lst ds))(hb:ds.length<=1000000):
 gr mo me s=.ok (.non,⟨s2.r,s2.o.set k (.lst (ds++[d]))⟩):=by
 rw[Ka,h1,aj]
 dsimp only
 rw[kx J]
 dsimp only
 rw[h2,aj]
 dsimp only
 rw[kx U]
 dsimp only
 rw[if_pos (by omega)]
theorem cT{s s':S}(h:m s=.ok (d,s')):dk m s=.next s':=by
 show (m s).out _=_
 rw[h];rfl
theorem Ei{s s':S}(h:m s=.ok (.ptr k,s'))(c:s'.o[k]? =some (.lst ds)):hU m s=.ok (.lst ds,⟨s'.r,s'.o.set k .dead⟩):=by
 rw[KL,h,aj]
 dsimp only
 rw[kx c]
theorem o7{s s':S}(h:m s=.ok (.ptr k,s'))(c:s'.o[k]? =some (.lst ds)):listI m s=.ok ((ds,some k),s'):=by
 rw[cM,h,aj]
 dsimp only
 rw[vx c,aj]
theorem cN{k j:Nat}{c:Cell}(h:k≠j):(O.set k c)[j]? =O[j]? :=Gc h
theorem fg{c c':Cell}(h:O[k]? =some c'):(O.set k c)[k]? =some c:=by
 rw[EX (t3.mp h).1]
theorem eC{O E:ay}{c:Cell}(h:O[k]? =some c):(O++E)[k]? =some c:=by
 rw[tt (t3.mp h).1];exact h
theorem gB{c:Cell}:(O++[c])[O.length]? =some c:=by simp
theorem my{c:Cell}(h:O[k]? =some c):k<O.length:=(t3.mp h).1
theorem Bb(hb:b<=60000000){x y:Int}(hx:Sz b x)(hy:Sz b y):IntMulOk x y:=jk hb hb hx hy
theorem zu{α β:Type}(f:α->β):∀(l:List α) (k:Nat),(l.map f).eraseIdx k=(l.eraseIdx k).map f
 | [],_=>rfl
 | _::_,0=>rfl
 | a::l,k+1=>by simp[zu f l k]
theorem qs(r:List Int):aQ [vI r]=true:=by simp
theorem xp{α β:Type}(g:α->β)(k:Nat):∀(l:List α) (j:Nat),((l.zipIdx j).filter (λp=> !decide (p.2=j+k))).map (λp=>g p.1)=(l.eraseIdx k).map g:=by
 induction k with
 | zero=>
  intro l j
  cases l with
  | nil=>rfl
  | cons a l=>
   rw[QG,Aj (by simp),List.eraseIdx_cons_zero]
   have:∀(l:List α) (i:Nat),j<i->((l.zipIdx i).filter (λp=> !decide (p.2=j+0))).map (λp=>g p.1)=l.map g:=by
    intro l
    induction l with
    | nil=>intro i _;rfl
    | cons b l J=>
     intro i hi
     rw[QG,wI (by simp;omega),sH,sH,J (i+1) (by omega)]
   exact this l (j+1) (by omega)
 | succ k J=>
  intro l j
  cases l with
  | nil=>rfl
  | cons a l=>
   rw[QG,wI (by simp),Rr,sH,sH]
   congr 1
   have:=J l (j+1)
   rw[show j+1+k=j+(k+1) by omega] at this
   exact this
theorem A6{α β:Type}(l:List α)(k:Nat)(g:α->β):(l.zipIdx.filter (λp=> !decide (p.2=k))).map (λp=>g p.1)=(l.eraseIdx k).map g:=by
 have:=xp g k l 0
 rw[Nat.zero_add] at this
 exact this
theorem LK{b:Nat}:∀(l:List Int) (k:Nat),(∀x∈l,x.natAbs<2^b)->l.length<=2^k->l.sum.natAbs<=l.length*2^b:=by
 intro l k h _
 induction l with
 | nil=>simp
 | cons a l J=>
  rw[P8,tz,Nat.succ_mul]
  have h1:=h a pi
  have h2:=J (λx hx=>h x (ol _ hx)) (by simp at *;omega)
  have:=R0 a l.sum
  omega
theorem oJ(hr:SzL c row)(J:SzL b l)(hn:row.length<=1000):Sz (b+c+10) (aB row l):=by
 unfold aB
 have h:∀x∈Pr (· * ·) row l,x.natAbs<2^(c+b):=λx hx=>by
  obtain⟨i,hi,e⟩:=Pn hx
  rw[RH] at e
  subst e
  exact Sz.mul (hr _ (wT _)) (J _ (wT _))
 have h2:=LK (Pr (· * ·) row l) 10 h (by rw[Po];simp;omega)
 unfold Sz
 have U:(Pr (· * ·) row l).length<=1000:=by rw[Po];omega
 have h4:(Pr (· * ·) row l).length*2^(c+b)<=1000*2^(c+b):=QP _ U
 have Y:2^(b+c+10)=1024*2^(c+b):=by rw[R3,Rg b c,Rh]
 have h6:0<2^(c+b):=QO _
 rw[Y]
 omega
theorem L3{a b:List Int}(h:vI a=vI b):a=b:=by
 injection h with h
 exact(Py (λx y e=>by cases e;rfl)).mp h
theorem Jo{f:FM}{s s':S}(h:ma s=.ok (ds,s'))(hp:aQ ds=true)(J:ds.length=n)(U:f ds []=.ok (d,O1)):dU n f ma s=.ok (shD s'.o.length d,⟨s'.r,s'.o++O1.map (shC s'.o.length)⟩):=by
 rw[Ig,h,aj,if_pos ⟨hp,J⟩]
 dsimp only
 rw[U]
theorem CM(h:O[k]? =some (.lst ds))(hi:atI ds i=some d):ixD O (.ptr k) (.int i)=.ok d:=by
 show (match lsD O (D.ptr k) with
  | some ds=>match atI ds i with
   | some d=>Res.ok d
   | none=>.bad
  | none=>.bad)=_
 rw[lQ h]
 dsimp only
 rw[hi]
theorem n9{α:Type}{l:List α}{i:Nat}(h:i<l.length):atI l (i:Int)=some l[i]:=by
 rw[ot (by omega) (by omega)]
 simp
theorem rm(h:O[k]? =some (.lst ds)):cf O [.ptr k]=.ok (.int ds.length):=by
 unfold cf
 simp only[lQ h]
theorem jJ{s s':S}(h:m s=.ok (.int i,s')):bg (ao gtD m (aq (.int j))) s=.ok (decide (j<i),s'):=by
 rw[hE,dH,h,aj,aC,aj,DT,aj,aj]
theorem eq_test{s s':S}(h:m s=.ok (.int i,s')):bg (ao eqD m (aq (.int j))) s=.ok (decide (i=j),s'):=by
 rw[hE,dH,h,aj,aC,aj,nK,aj,aj]
theorem uy{a b:TM}{s:S}{p q:Bool}(ha:a s=.ok (p,s))(hb:b s=.ok (q,s)):pH a b s=.ok (p&&q,s):=by
 rw[Ly,ha,aj]
 cases p with
 | true=>exact hb
 | false=>rfl
theorem oI{a b:List D}(h:a.length+b.length<=1000000):br O (.lst a) (.lst b)=.ok (.lst (a++b)):=by
 show (if a.length+b.length<=16777216 then Res.ok (D.lst (a++b)) else .bad)=_
 rw[if_pos (lU h)]
theorem GH{ms:List Int}(h:n<=ms.length):cutD (ms.map D.int) (some (n:Int)) none=(ms.drop n).map D.int:=by
 unfold cutD
 rw[HT.Cr,HT.Eh,nW,Sg h,<- List.map_drop,Pq (by simp)]
def tk(c e:Nat):Nat:=2^e*(c+12)-(c+11)
def iz(c n:Nat):Nat:=2^n*(c+12)
theorem E6(c e:Nat):c+12<=2^e*(c+12):=Nat.le_mul_of_pos_left _ (QO e)
theorem Kl(c:Nat):tk c 0=1:=by unfold tk;simp
theorem Ln(c e:Nat):2*tk c e+c+11=tk c (e+1):=by
 unfold tk
 have h:=E6 c e
 have e2:2^(e+1)*(c+12)=2*(2^e*(c+12)):=by rw[RN,Rh (2^e) 2,RJ]
 rw[e2]
 omega
theorem Nd(h:e<=n):tk c e+c+10<=iz c n:=by
 unfold tk iz
 have h1:=E6 c e
 have h2:2^e*(c+12)<=2^n*(c+12):=QP _ (M2 (by decide) h)
 omega
theorem Ed(h:e<=n):grow (tk c e) (n-e)<=iz c n:=by
 unfold grow
 have h1:tk c e+1<=2^e*(c+12):=by unfold tk;have:=E6 c e;omega
 have h2:2^(n-e)*(tk c e+1)<=2^(n-e)*(2^e*(c+12)):=Nat.mul_le_mul_left _ h1
 have J:2^(n-e)*(2^e*(c+12))=iz c n:=by
  unfold iz
  rw[<- RJ,<- R3,Nat.sub_add_cancel h]
 omega
structure oM(n c:Nat)(R lists:List (List Int))(e:Nat):Prop where
 eq:R.foldl eN (cR n)=lists
 ll:∀l∈lists,l.length=n
 cnt:lists.length+e=n
 sz:cL (tk c e) lists
theorem yR(n a:Nat):SzL 1 (dS n a):=by
 intro x hx
 unfold dS at hx
 rcases List.mem_or_eq_of_mem_set hx with h | h
 ·rw[List.eq_of_mem_replicate h];exact Sz.zero 1
 ·rw[h];unfold Sz;decide
theorem oM.start(n c:Nat):oM n c [] (cR n) 0:=by
 refine⟨rfl,λl J=> ?_,by unfold cR;simp,λl J=> ?_⟩
 ·obtain⟨a,_,rfl⟩:=li.mp J
  unfold dS;simp
 ·obtain⟨a,_,rfl⟩:=li.mp J
  rw[Kl];exact yR n a
theorem oM.step{R lists:List (List Int)}(h:oM n c R lists e)(hr:row.length=n)(hs:SzL c row)(hn:n<=1000):∃e',oM n c (R++[row]) (eN lists row) e':=by
 have J:(R++[row]).foldl eN (cR n)=eN lists row:=by rw[QB,h.eq];rfl
 unfold eN at *
 split
 ·rename_i U
  rw[U] at J
  exact⟨e,J,h.ll,h.cnt,h.sz⟩
 ·rename_i k U
  rw[U] at J
  have Y:=(gb U).1
  rw[nW] at Y
  have hm:=getD_mem Y
  refine⟨e+1,J,λl hl=> ?_, ?_,λl hl=> ?_⟩
  ·obtain⟨q,hq,rfl⟩:=li.mp hl
   have hq':=KE hq
   rw[mx (by rw[h.ll q hq',h.ll _ hm]),h.ll q hq']
  ·rw[nW,List.length_eraseIdx_of_lt Y]
   have:=h.cnt
   omega
  ·obtain⟨q,hq,rfl⟩:=li.mp hl
   have hq':=KE hq
   have hz:∀l∈lists,Sz (tk c e+c+10) (aB row l):=λl h'=>oJ hs (h.sz l h') (by rw[hr];exact hn)
   exact(SzL.off (h.sz q hq') (h.sz _ hm) (hz q hq') (hz _ hm)).mono (by rw[<- Ln];omega)
theorem Jr(hn:n<=1000)(J:∀r∈rows,r.length=n)(hs:cL c rows):∃e,oM n c rows (kO rows n) e:=by
 have:∀(S R lists:List (List Int)) (e:Nat),(∀r∈S,r.length=n)->cL c S->oM n c R lists e->∃e',oM n c (R++S) (S.foldl eN lists) e':=by
  intro S
  induction S with
  | nil=>intro R lists e _ _ h;exact⟨e,by simpa using h⟩
  | cons r S U=>
   intro R lists e h1 h2 h
   obtain⟨e1,Y⟩:=h.step (h1 r pi) (h2 r pi) hn
   obtain⟨e2,h4⟩:=U (R++[r]) _ e1 (λq hq=>h1 q (ol _ hq)) (λq hq=>h2 q (ol _ hq)) Y
   exact⟨e2,by simpa using h4⟩
 obtain⟨e,h⟩:=this rows [] (cR n) 0 J hs (oM.start n c)
 rw[vG] at h
 exact⟨e,h⟩
theorem oW(hn:n<=1000)(J:∀r∈rows,r.length=n)(hs:cL c rows):cL (iz c n) (bc rows n):=by
 obtain⟨e,h⟩:=Jr hn J hs
 have hc:=h.cnt
 have:=Gb h.ll h.sz
 refine this.mono ?_
 rw[show (kO rows n).length=n-e by omega]
 exact Ed (by omega)
theorem hole:∀(n:Nat) (L:List Nat),L.length<n->∃f,f<n/\f∉L
 | 0,L,h=>by omega
 | n+1,L,h=>by
  by_cases hn:n∈L
  ·obtain⟨f,h1,h2⟩:=hole n (L.erase n) (by
    rw[Ro hn]
    have:=List.length_pos_of_mem hn
    omega)
   exact⟨f,by omega,λJ=>h2 ((List.mem_erase_of_ne (by omega)).mpr J)⟩
  ·exact⟨n,by omega,hn⟩
theorem HB{f:Nat}(pl:Pl n P)(J:∀p∈P,p.1≠f):iD P f f≠0:=by
 have h1:=pl.leads_pos
 have h2:=je (L:=ie P) (f:=f) (i:=f) J
 unfold iD
 simp
 omega
theorem Dz{A:List (List Int)}(hA:∀r∈A,r.length=n)(h:A.length<n):∃t:Nat->Int,(∃j,j<n/\t j≠0)/\eI n A t:=by
 obtain⟨P,eP,pl,hP,U⟩:=jd hA
 obtain⟨f,hf,Y⟩:=hole n (P.map (·.1)) (by rw[nW];omega)
 have J:∀p∈P,p.1≠f:=λp hp e=>Y (li.mpr ⟨p,hp,e⟩)
 refine⟨iD P f,⟨f,hf,HB pl J⟩,(U _).mp ?_⟩
 rw[eP]
 exact qM pl hf J
def Indep(n:Nat)(V:List (List Int)):Prop:=∀t:Nat->Int,(∀i,i<n->bf V.length (λj=>t j*nth (V.getD j []) i)=0)->∀j,j<V.length->t j=0
theorem AV{V W:List (List Int)}(hV:Indep n V)(h:∀v∈V,gX n W (nth v)):V.length<=W.length:=by
 refine E9 λa1=> ?_
 have ch:∀j,∃k:Int,∃T:List Int,j<V.length->k≠0/\∀i,i<n->k*nth (V.getD j []) i=cz T W i:=λj=>by
  by_cases J:j<V.length
  ·obtain⟨k,hk,T,_,e⟩:=h (V.getD j []) (getD_mem J)
   exact⟨k,T,λ_=>⟨hk,e⟩⟩
  ·exact⟨1,[],λz=>absurd z J⟩
 obtain⟨kf,ac⟩:=Rs ch
 obtain⟨U,Y⟩:=Rs ac
 obtain⟨t,⟨j0,ab,am⟩,hn⟩:=Dz (n:=V.length) (A:=(pc W.length).map λm=>(pc V.length).map λj=>nth (U j) m) (λr hr=>by
  obtain⟨m,_,rfl⟩:=li.mp hr
  simp) (by simp;omega)
 have an:∀m,m<W.length->bf V.length (λj=>nth (U j) m*t j)=0:=λm hm=>by
  have:=hn _ (li.mpr ⟨m,wn.mpr hm,rfl⟩)
  rw[<- this]
  refine bG λj J=> ?_
  congr 1
  unfold nth
  simp[kt,sI,Pp,J]
 have hz:=hV (λj=>t j*kf j) (λi hi=> ?_) j0 ab
 ·rcases AT.mp hz with q | q
  ·exact am q
  ·exact(Y j0 ab).1 q
 ·have e1:bf V.length (λj=>t j*kf j*nth (V.getD j []) i)=bf V.length (λj=>bf W.length λm=>t j*(nth (U j) m*nth (W.getD m []) i)):=bG λj J=>by
   rw[QD,(Y j J).2 i hi]
   unfold cz
   rw[d9]
  rw[e1,pj]
  refine eD λm hm=> ?_
  have e2:bf V.length (λj=>t j*(nth (U j) m*nth (W.getD m []) i))=nth (W.getD m []) i*bf V.length (λj=>nth (U j) m*t j):=by
   rw[<- d9]
   refine bG λj J=> ?_
   rw[<- QD,PH (nth (W.getD m []) i),PH (t j)]
  rw[e2,an m hm,Qu]
theorem AY(pl:Pl n P):Indep n (P.map (·.2)):=λt h j J=>by
 rw[nW] at J
 have hg:∀j (J:j<P.length),(P.map (·.2)).getD j []=P[j].2:=λj J=>by simp[kt,na J]
 have hm:P[j]∈P:=wT J
 have g:=pl.good _ hm
 have e:=h P[j].1 g.lt
 rw[nW,gd (k:=j) J λm U ab=> ?_,hg j J] at e
 ·rcases AT.mp e with q | q
  ·exact q
  ·have:=g.pos
   omega
 ·rw[hg m U]
  have ac:P[m]∈P:=wT U
  have Y:P[m].1≠P[j].1:=by
   have pw:=Qp.mp pl.pw
   rcases Nat.lt_or_gt_of_ne ab with q | q
   ·exact wS (pw m j U J q).1
   ·exact RL (pw j m J U q).1
  rw[pl.other ac hm Y,Qu]
theorem si{n j:Nat}(J:j<n):(cR n).getD j []=dS n j:=by
 unfold cR
 simp[kt,sI,Pp,J]
theorem gY(n:Nat):(cR n).length=n:=by unfold cR;simp
theorem Dt(n:Nat):Indep n (cR n):=λt h j J=>by
 rw[gY] at J
 have e:=h j J
 rw[gY,gd (k:=j) J λm hm U=> ?_,si J,dh J,if_pos rfl,Int.mul_one] at e
 ·exact e
 ·rw[si hm,dh hm,if_neg (λz=>U z.symm),Qu]
theorem Ar(n:Nat)(x:Nat->Int):gX n (cR n) x:=⟨1,by decide,(pc n).map x,by rw[gY];simp,λi hi=>by
 unfold cz
 rw[gY,gd (k:=i) hi λm hm J=> ?_,si hi,dh hi,if_pos rfl]
 ·unfold nth
  simp[kt,sI,Pp,hi]
 ·rw[si hm,dh hm,if_neg (λz=>J z.symm),Qu]⟩
theorem sq_nonneg(a:Int):0<=a*a:=by
 rcases Int.le_total 0 a with h | h
 ·exact Fh h h
 ·have:=Fh (show 0<= -a by omega) (show 0<= -a by omega)
  rwa [Int.neg_mul_neg] at this
theorem sx(z:Nat->Int):∀n,0<=bf n λi=>z i*z i
 | 0=>Int.le_refl 0
 | n+1=>by
  have:=sx z n
  have:=sq_nonneg (z n)
  show 0<=bf n _+z n*z n
  omega
theorem ye{z:Nat->Int}:∀{n:Nat},(bf n λi=>z i*z i)=0->∀i,i<n->z i=0
 | 0,_,i,hi=>by omega
 | n+1,h,i,hi=>by
  have h1:=sx z n
  have h2:=sq_nonneg (z n)
  have U:(bf n λi=>z i*z i)+z n*z n=0:=h
  rcases RP i n with q | q
  ·exact ye (n:=n) (by omega) i q
  ·have:i=n:=by omega
   subst this
   have J:z i*z i=0:=by omega
   rcases AT.mp J with r | r <;> exact r
theorem count(U:∀r∈R,r.length=n):(bc R n).length+(cb R n).length=n:=by
 obtain⟨P,eP,pl,_,a2⟩:=jd U
 have hS:=gA U
 obtain⟨Q,eQ,ql,_,_⟩:=gI U
 have ab:∀s∈bc R n,∀p∈cb R n,aZ n (nth s) (nth p)=0:=λs hs p hp=>by
  obtain⟨_,_,_,h3,_⟩:=gI hS
  rw[vB U] at h3
  rw[bH]
  exact h3 s hs p hp
 have ap:∀z:Nat->Int,eI n (cb R n) z->gX n (bc R n) z:=λz hz=>by
  refine(ng hS z).mp ?_
  rw[vB U]
  exact hz
 have J:∀(t:Nat->Int) (A B:List (List Int)) (i:Nat),bf (A++B).length (λj=>t j*nth ((A++B).getD j []) i)=bf A.length (λj=>t j*nth (A.getD j []) i)+bf B.length (λj=>t (A.length+j)*nth (B.getD j []) i):=λt A B i=>by
  have split:∀(a b:Nat) (f:Nat->Int),bf (a+b) f=bf a f+bf b λj=>f (a+j):=λa b f=>by
   induction b with
   | zero=>show bf a f=bf a f+0;omega
   | succ b ih=>
    show bf (a+b) f+f (a+b)=bf a f+(bf b (λj=>f (a+j))+f (a+b))
    rw[ih];omega
  rw[u8,split]
  congr 1
  ·exact bG λj Y=>by rw[kt,tt Y,<- kt]
  ·exact bG λj Y=>by rw[kt,re (by omega),Db,<- kt]
 have lo:n<=(bc R n++cb R n).length:=by
  have:=AV (n:=n) (V:=cR n) (W:=bc R n++cb R n) (Dt n) λv _=>by
   have hA:∀r∈bc R n++cb R n,r.length=n:=λr hr=>by
    rcases sE.mp hr with q | q
    ·exact hS r q
    ·exact nq U r q
   refine(ng hA _).mp λz hz=> ?_
   obtain⟨_,_,_,h3,_⟩:=gI hA
   have zP:eI n (cb R n) (nth z):=λp hp=>by rw[fI,bH];exact h3 p (by simp[hp]) z hz
   have zS:eI n (bc R n) (nth z):=λp hp=>by rw[fI,bH];exact h3 p (by simp[hp]) z hz
   have zz:=(ap (nth z) zP).dot zS
   have z0:=ye zz
   rw[fI]
   exact eD λi hi=>by rw[z0 i hi,Qv]
  rwa [gY] at this
 have hi:(bc R n++cb R n).length<=n:=by
  have:=AV (n:=n) (V:=bc R n++cb R n) (W:=cR n) (λt h=> ?_) λv _=>Ar n _
  ·rwa [gY] at this
  ·have y0:∀i,i<n->bf (bc R n).length (λj=>t j*nth ((bc R n).getD j []) i)=0:=by
    refine ye (z:=λi=>bf (bc R n).length (λj=>t j*nth ((bc R n).getD j []) i)) ?_
    have e1:∀i,i<n->bf (bc R n).length (λj=>t j*nth ((bc R n).getD j []) i)= - bf (cb R n).length (λj=>t ((bc R n).length+j)*nth ((cb R n).getD j []) i):=λi hi=>by
     have:=h i hi
     rw[J] at this
     omega
    have am:∀(a b:Nat) (f g:Nat->Int),bf a f*bf b g=bf a λj=>bf b λm=>f j*g m:=λa b f g=>by
     rw[PH,<- d9]
     refine bG λj _=> ?_
     rw[PH,<- d9]
    have e2:(bf n λi=>(bf (bc R n).length λj=>t j*nth ((bc R n).getD j []) i)*(bf (bc R n).length λj=>t j*nth ((bc R n).getD j []) i))=bf n λi=>(-1)*((bf (bc R n).length λj=>t j*nth ((bc R n).getD j []) i)*(bf (cb R n).length λj=>t ((bc R n).length+j)*nth ((cb R n).getD j []) i)):=bG λi hi=>by
     conv=>lhs;arg 2;rw[e1 i hi]
     rw[Int.mul_neg]
     omega
    rw[e2,d9]
    have e3:(bf n λi=>(bf (bc R n).length λj=>t j*nth ((bc R n).getD j []) i)*(bf (cb R n).length λj=>t ((bc R n).length+j)*nth ((cb R n).getD j []) i))=bf n λi=>bf (bc R n).length λj=>bf (cb R n).length λm=>(t j*t ((bc R n).length+m))*(nth ((bc R n).getD j []) i*nth ((cb R n).getD m []) i):=bG λi _=>by
     rw[am]
     refine bG λj _=>bG λm _=> ?_
     rw[QD,QD,Int.mul_left_comm (nth ((bc R n).getD j []) i)]
    rw[e3,pj]
    suffices q:bf (bc R n).length (λj=>bf n λi=>bf (cb R n).length λm=>(t j*t ((bc R n).length+m))*(nth ((bc R n).getD j []) i*nth ((cb R n).getD m []) i))=0 by rw[q];rfl
    refine eD λj Y=> ?_
    rw[pj]
    refine eD λm hm=> ?_
    rw[d9]
    have:=ab _ (getD_mem Y) _ (getD_mem hm)
    unfold aZ at this
    rw[this,Qu]
   have p0:∀i,i<n->bf (cb R n).length (λj=>t ((bc R n).length+j)*nth ((cb R n).getD j []) i)=0:=λi hi=>by
    have:=h i hi
    rw[J,y0 i hi] at this
    omega
   have iS:Indep n (bc R n):=by rw[eQ];exact AY ql
   have iP:Indep n (cb R n):=by rw[eP];exact AY pl
   intro j Y
   rw[u8] at Y
   rcases RP j (bc R n).length with q | q
   ·exact iS t y0 j q
   ·have:=iP (λm=>t ((bc R n).length+m)) p0 (j-(bc R n).length) (by omega)
    rwa [show (bc R n).length+(j-(bc R n).length)=j by omega] at this
 rw[u8] at lo hi
 omega
structure Fit(n:Nat)(R:List (List Int))(x:List Int):Prop where
 len:x.length=n
 nn:∀i,0<=nth x i
 st:∀r∈R,aZ n (nth r) (nth x)=0
 nz:∃i,nth x i≠0
def Sub(x y:List Int):Prop:=∀i,nth x i≠0->nth y i≠0
structure cJ(n:Nat)(R:List (List Int))(x:List Int):Prop where
 fit:Fit n R x
 one:cI x=1
 min:∀y,Fit n R y->Sub y x->Sub x y
theorem Sub.trans(a:Sub x y)(b:Sub y z):Sub x z:=λi h=>b i (a i h)
theorem Fit.lt(f:Fit n R x){i:Nat}(h:nth x i≠0):i<n:=by
 by_cases hi:i<n
 ·exact hi
 ·exact absurd (fX (by rw[f.len];omega)) h
theorem Fit.low(f:Fit n R x):Fit n R (low x)/\cI (M.low x)=1/\Sub (M.low x) x/\Sub x (M.low x):=by
 have hp:=o8 x
 have hi:∀i,nth (M.low x) i≠0↔nth x i≠0:=λi=>by
  rw[qe x i]
  constructor
  ·exact λh=>Ry (by omega) h
  ·intro h z;rw[z] at h;exact h (by omega)
 obtain⟨j,J⟩:=f.nz
 refine⟨⟨by rw[low_length,f.len],λi=> ?_,λr hr=> ?_,⟨j,(hi j).mpr J⟩⟩,Em J,λi=>(hi i).mp,λi=>(hi i).mpr⟩
 ·have:=f.nn i
  rw[qe x i] at this
  by_cases h:0<=nth (M.low x) i
  ·exact h
  ·have:=Qq hp (by omega:nth (M.low x) i<0);omega
 ·have:=f.st r hr
  rw[bH]
  rw[bH] at this
  exact(wF n x (nth r)).mpr this
theorem vC{a b c d e f:Int}(hb:0<b)(hd:0<d)(J:0<f)(h1:a*d<=c*b)(h2:c*f<=e*d):a*f<=e*b:=by
 have e1:a*d*f<=c*b*f:=Qb h1 (by omega)
 have e2:c*f*b<=e*d*b:=Qb h2 (by omega)
 have:(a*f)*d<=(e*b)*d:=by
  have q1:a*d*f=(a*f)*d:=by grind
  have q2:c*b*f=c*f*b:=by grind
  have U:e*d*b=(e*b)*d:=by grind
  omega
 exact Int.le_of_mul_le_mul_right this hd
theorem Gs(a b:Nat->Int)(hb:∀i,0<=b i):∀n,(∃i,i<n/\b i≠0)->∃m,m<n/\b m≠0/\∀i,i<n->b i≠0->a m*b i<=a i*b m
 | 0,h=>by obtain⟨i,hi,_⟩:=h;omega
 | n+1,h=>by
  by_cases hn:∃i,i<n/\b i≠0
  ·obtain⟨m,hm,hz,Y⟩:=Gs a b hb n hn
   by_cases U:b n=0
   ·refine⟨m,by omega,hz,λi hi J=> ?_⟩
    by_cases e:i=n
    ·subst e;exact absurd U J
    ·exact Y i (by omega) J
   ·by_cases hc:a m*b n<=a n*b m
    ·refine⟨m,by omega,hz,λi hi J=> ?_⟩
     by_cases e:i=n
     ·subst e;exact hc
     ·exact Y i (by omega) J
    ·refine⟨n,by omega,U,λi hi J=> ?_⟩
     by_cases e:i=n
     ·subst e;omega
     ·have:=hb n;have:=hb m;have:=hb i
      exact vC (by omega) (by omega:0<b m) (by omega) (by omega) (Y i (by omega) J)
  ·obtain⟨i,hi,J⟩:=h
   have e:i=n:=by
    by_cases e:i=n
    ·exact e
    ·exact absurd ⟨i,by omega,J⟩ hn
   subst e
   refine⟨i,by omega,J,λj hj ab=> ?_⟩
   by_cases e:j=i
   ·subst e;omega
   ·exact absurd ⟨j,by omega,ab⟩ hn
theorem v9(fx:Fit n R x)(Y:Fit n R y)(hs:Sub y x):
 ∃z:List Int,z.length=n/\(∀i,0<=nth z i)/\Sub z x/\∃c d:Int,0<c/\0<d/\(∀i,nth z i=c*nth x i-d*nth y i)/\∃m,nth y m≠0/\nth z m=0:=by
 obtain⟨j,hj⟩:=Y.nz
 obtain⟨m,hm,hz,hl⟩:=Gs (nth x) (nth y) Y.nn n ⟨j,Y.lt hj,hj⟩
 have U:x.length=y.length:=by rw[fx.len,Y.len]
 have as:=fx.nn m
 have ac:=Y.nn m
 have an:=hs m hz
 have J:∀i,nth (gf x (nth x m) y (nth y m)) i=nth y m*nth x i-nth x m*nth y i:=λi=>by rw[qE U];grind
 refine⟨gf x (nth x m) y (nth y m),by rw[mn U,fx.len],λi=> ?_,λi hi=> ?_,nth y m,nth x m,by omega,by omega,J,m,hz,by rw[J];grind⟩
 ·rw[J]
  by_cases hy:nth y i=0
  ·rw[hy]
   have:=Fh ac (fx.nn i)
   omega
  ·have:=hl i (Y.lt hy) hy
   have:nth y m*nth x i=nth x i*nth y m:=PH _ _
   omega
 ·rw[J] at hi
  intro z
  apply hi
  have:nth y i=0:=by
   by_cases hy:nth y i=0
   ·exact hy
   ·exact absurd z (hs i hy)
  rw[z,this];omega
theorem zb{c d:Int}(h:∀i,nth z i=c*nth x i-d*nth y i)(r:Nat->Int):aZ n r (nth z)=c*aZ n r (nth x)-d*aZ n r (nth y):=by
 have:=zX (n:=n) (a:=nth x) (b:=nth y) (u:=c) (v:= -d) r
 rw[bH,EF (b:=λi=>c*nth x i + -d*nth y i) (λi _=>by rw[h i];grind),bH,this]
 grind
theorem yJ(J:Fit n R x)(U:Fit n R y)(Y:z.length=n)(hn:∀i,0<=nth z i){c d:Int}(h:∀i,nth z i=c*nth x i-d*nth y i)(hz:∃i,nth z i≠0):Fit n R z:=
 ⟨Y,hn,λr hr=>by rw[zb h,J.st r hr,U.st r hr];omega,hz⟩
theorem cJ.prop(l:cJ n R x)(U:Fit n R y)(hs:Sub y x):∃a b:Int,0<a/\0<b/\∀i,a*nth x i=b*nth y i:=by
 obtain⟨z,zl,Y,zs,c,d,hc,hd,h,m,hm,J⟩:=v9 l.fit U hs
 by_cases hz:∃i,nth z i≠0
 ·have fz:=yJ l.fit U zl Y h hz
  exact absurd J (l.min z fz zs m (hs m hm))
 ·refine⟨c,d,hc,hd,λi=> ?_⟩
  have:nth z i=0:=by
   by_cases e:nth z i=0
   ·exact e
   ·exact absurd ⟨i,e⟩ hz
  rw[h i] at this
  omega
theorem cJ.eq(l:cJ n R x)(J:Fit n R y)(h1:cI y=1)(hs:Sub y x):x=y:=by
 obtain⟨a,b,ha,hb,h⟩:=l.prop J hs
 exact D8 (by rw[l.fit.len,J.len]) l.one h1 ha hb λi _=>h i
def cnt(x:List Int):Nat:=(x.filter (·≠0)).length
theorem Gj:∀{x y:List Int},x.length=y.length->Sub x y->cnt x<=cnt y
 | [],[],_,_=>qh _
 | a::x,b::y,hl,hs=>by
  have J:=Gj (x:=x) (y:=y) (by simpa using hl) λi h=>hs (i+1) h
  have h0:a≠0->b≠0:=hs 0
  unfold cnt at *
  by_cases ha:a=0
  ·rw[Aj (by simpa using ha)]
   by_cases hb:b=0
   ·rw[Aj (by simpa using hb)];exact J
   ·rw[wI (by simpa using hb),tz];omega
  ·rw[wI (by simpa using ha),wI (by simpa using h0 ha),tz,tz];omega
theorem tG:∀{x y:List Int} {m:Nat},x.length=y.length->Sub x y->nth y m≠0->nth x m=0->cnt x<cnt y
 | [],[],m,_,_,h,_=>by simp[nth] at h
 | a::x,b::y,0,hl,hs,h,h'=>by
  have J:=Gj (x:=x) (y:=y) (by simpa using hl) λi h=>hs (i+1) h
  have ha:a=0:=h'
  have hb:b≠0:=h
  unfold cnt at *
  rw[Aj (by simpa using ha),wI (by simpa using hb),tz];omega
 | a::x,b::y,m+1,hl,hs,h,h'=>by
  have J:=tG (x:=x) (y:=y) (m:=m) (by simpa using hl) (λi h=>hs (i+1) h) h h'
  have h0:a≠0->b≠0:=hs 0
  unfold cnt at *
  by_cases ha:a=0
  ·rw[Aj (by simpa using ha)]
   by_cases hb:b=0
   ·rw[Aj (by simpa using hb)];exact J
   ·rw[wI (by simpa using hb),tz];omega
  ·rw[wI (by simpa using ha),wI (by simpa using h0 ha),tz,tz];omega
theorem yG{n:Nat}{R:List (List Int)}:∀(k:Nat) {x:List Int},cnt x<=k->Fit n R x->∃l,cJ n R l/\Sub l x:=by
 intro k
 induction k with
 | zero=>
  intro x hk f
  obtain⟨i,hi⟩:=f.nz
  have:cnt (pr n (0:Int))<cnt x:=tG (m:=i) (by rw[f.len];simp) (λj h=>by
   exfalso;apply h
   unfold nth
   rw[kt,wE]
   split <;> rfl) hi (by
   unfold nth
   rw[kt,wE]
   split <;> rfl)
  omega
 | succ k ih=>
  intro x hk f
  by_cases h:∃y,Fit n R y/\Sub y x/\¬Sub x y
  ·obtain⟨y,J,h1,h2⟩:=h
   have:∃m,nth x m≠0/\nth y m=0:=by
    apply E9
    intro hn
    exact h2 λi hi=>λz=>hn ⟨i,hi,z⟩
   obtain⟨m,hm,U⟩:=this
   have:=tG (by rw[J.len,f.len]) h1 hm U
   obtain⟨l,hl,hs⟩:=ih (x:=y) (by omega) J
   exact⟨l,hl,hs.trans h1⟩
  ·obtain⟨q1,q2,Y,q4⟩:=f.low
   refine⟨low x,⟨q1,q2,λy J hs=> ?_⟩,Y⟩
   apply E9
   intro hn
   exact h ⟨y,J,hs.trans Y,λz=>hn (Y.trans z)⟩
theorem xF{n:Nat}{R:List (List Int)}(r:List Int):∀(k:Nat) {x:List Int},cnt x<=k->Fit n R x->0<aZ n (nth r) (nth x)->∃l,cJ n R l/\Sub l x/\0<aZ n (nth r) (nth l):=by
 intro k
 induction k with
 | zero=>
  intro x hk f Y
  obtain⟨l,J,hs⟩:=yG 0 hk f
  obtain⟨i,hi⟩:=f.nz
  have:cnt (pr n (0:Int))<cnt x:=tG (m:=i) (by rw[f.len];simp) (λj h=>by
   exfalso;apply h
   unfold nth
   rw[kt,wE]
   split <;> rfl) hi (by
   unfold nth
   rw[kt,wE]
   split <;> rfl)
  omega
 | succ k ih=>
  intro x hk f Y
  obtain⟨l,J,hs⟩:=yG (k+1) hk f
  by_cases hp:0<aZ n (nth r) (nth l)
  ·exact⟨l,J,hs,hp⟩
  ·obtain⟨z,zl,zn,zs,c,d,hc,hd,h,m,hm,U⟩:=v9 f J.fit hs
   have ev:=zb (n:=n) h (nth r)
   have h1:=MH hc Y
   have h2:=QA (show 0<=d by omega) (show aZ n (nth r) (nth l)<=0 by omega)
   have hz:∃i,nth z i≠0:=by
    apply E9
    intro hn
    have:aZ n (nth r) (nth z)=0:=eD λi _=>by
     have:nth z i=0:=by
      by_cases e:nth z i=0
      ·exact e
      ·exact absurd ⟨i,e⟩ hn
     rw[this];omega
    omega
   have fz:=yJ f J.fit zl zn h hz
   have:=tG (by rw[zl,f.len]) zs (hs m hm) U
   obtain⟨l',q1,q2,q3⟩:=ih (x:=z) (by omega) fz (by omega)
   exact⟨l',q1,q2.trans zs,q3⟩
theorem j5(n:Nat)(r x:List Int):aZ n (nth (r.map (- ·))) (nth x)= -aZ n (nth r) (nth x):=by
 have:=rT (n:=n) (a:=r.map (- ·)) (c:=r) (g:= -1) (λi=>by rw[g9 (by simp)];omega) (nth x)
 rw[<- fI,this,fI];omega
theorem xU(r:List Int)(f:Fit n R x)(U:aZ n (nth r) (nth x)<0):∃l,cJ n R l/\Sub l x/\aZ n (nth r) (nth l)<0:=by
 obtain⟨l,h1,h2,J⟩:=xF (r.map (- ·)) _ (qh _) f (by rw[j5];omega)
 rw[j5] at J
 exact⟨l,h1,h2,by omega⟩
theorem z5(r:List Int)(f:Fit n R x)(hv:aZ n (nth r) (nth x)=0):
 (∃l,cJ n R l/\Sub l x/\aZ n (nth r) (nth l)=0)\/∃h w,cJ n R h/\cJ n R w/\Sub h x/\Sub w x/\0<aZ n (nth r) (nth h)/\aZ n (nth r) (nth w)<0:=by
 obtain⟨l,J,hs⟩:=yG _ (qh _) f
 by_cases h0:aZ n (nth r) (nth l)=0
 ·exact .inl ⟨l,J,hs,h0⟩
 ·obtain⟨z,zl,zn,zs,c,d,hc,hd,h,m,hm,az⟩:=v9 f J.fit hs
  have ev:=zb (n:=n) h (nth r)
  rw[hv] at ev
  have U:aZ n (nth r) (nth z)≠0:=by
   rw[ev]
   have:=Ry (show d≠0 by omega) h0
   omega
  have hz:∃i,nth z i≠0:=by
   apply E9
   intro hn
   exact U (eD λi _=>by
    have:nth z i=0:=by
     by_cases e:nth z i=0
     ·exact e
     ·exact absurd ⟨i,e⟩ hn
    rw[this];omega)
  have fz:=yJ f J.fit zl zn h hz
  by_cases hp:0<aZ n (nth r) (nth l)
  ·have:=MH hd hp
   obtain⟨w,Y,w2,w3⟩:=xU r fz (by omega)
   exact .inr ⟨l,w,J,Y,hs,w2.trans zs,hp,w3⟩
  ·have:=Qq hd (show aZ n (nth r) (nth l)<0 by omega)
   obtain⟨w,Y,w2,w3⟩:=xF r _ (qh _) fz (by omega)
   exact .inr ⟨w,l,Y,J,w2.trans zs,hs,w3,by omega⟩
def subB(n:Nat)(l h w:List Int):Bool:=(pc n).all λi=>decide (nth l i=0)||decide (nth h i≠0)||decide (nth w i≠0)
def nbB(n:Nat)(L:List (List Int))(h w:List Int):Bool:=(L.filter λl=>subB n l h w).length == 2
def dZ(n:Nat)(L:List (List Int))(r:List Int):List (List Int):=
 (L.filter λl=>decide (aB r l=0))++(L.filter λl=>decide (0<aB r l)).flatMap λh=>((L.filter λl=>decide (aB r l<0)).filter λw=>nbB n L h w).map λw=>c7 w (aB r w) h (aB r h)
theorem wG(J:l.length=n):subB n l h w=true↔∀i,nth l i≠0->nth h i≠0\/nth w i≠0:=by
 unfold subB
 rw[PM]
 constructor
 ·intro H i hi
  have lt:i<n:=by
   by_cases e:i<n
   ·exact e
   ·exact absurd (fX (by omega)) hi
  have:=H i (wn.mpr lt)
  simp only[QR,decide_eq_true_eq] at this
  rcases this with(z | z) | z
  ·exact absurd z hi
  ·exact .inl z
  ·exact .inr z
 ·intro H i _
  simp only[QR,decide_eq_true_eq]
  by_cases e:nth l i=0
  ·exact .inl (.inl e)
  ·rcases H i e with z | z
   ·exact .inl (.inr z)
   ·exact .inr z
theorem E8{α:Type}{L:List α}(hd:L.Nodup)(J:L.length=2){h w:α}(Y:h∈L)(hw:w∈L)(U:h≠w):∀l∈L,l=h\/l=w:=by
 match L,J with
 | [a,b],_=>
  intro l J
  simp only[sn,PK,or_false] at Y hw J
  rcases Y with rfl | rfl <;> rcases hw with rfl | rfl <;> rcases J with rfl | rfl <;> first | exact .inl rfl | exact .inr rfl | exact absurd rfl U
theorem Fi{α:Type}{L:List α}(hd:L.Nodup){h w:α}(J:h∈L)(U:w∈L)(Y:h≠w)(ha:∀l∈L,l=h\/l=w):L.length=2:=by
 have h1:L.length<=2:=by
  match L,hd with
  | [],_=>simp
  | [_],_=>simp
  | [_,_],_=>simp
  | a::b::c::r,hd=>
   exfalso
   have ab:=ha a (by simp);have ac:=ha b (by simp);have am:=ha c (by simp)
   simp only[NE,sn,not_or] at hd
   rcases ab with e1 | e1 <;> rcases ac with e2 | e2 <;> rcases am with e3 | e3 <;> simp_all
 match L,J,U,h1 with
 | [a],J,U,_=>
  simp only[sB] at J U
  exact absurd (J.trans U.symm) Y
 | [a,b],_,_,_=>rfl
section
variable {n : Nat} {R L : List (List Int)} {r : List Int}
structure jq(n:Nat)(R L:List (List Int)):Prop where
 all:∀x,x∈L↔cJ n R x
 nd:L.Nodup
theorem jq.dot(k:jq n R L)(h:l∈L)(r:List Int):aB r l=aZ n (nth r) (nth l):=jf ((k.all l).mp h).fit.len
theorem xX(k:jq n R L)(hh:h∈L)(hw:w∈L)(J:h≠w):nbB n L h w=true↔∀l∈L,(∀i,nth l i≠0->nth h i≠0\/nth w i≠0)->l=h\/l=w:=by
 have mem:∀l,l∈L.filter (λl=>subB n l h w)↔l∈L/\∀i,nth l i≠0->nth h i≠0\/nth w i≠0:=λl=>by
  rw[u0]
  constructor
  ·exact λ⟨a,b⟩=>⟨a,(wG ((k.all l).mp a).fit.len).mp b⟩
  ·exact λ⟨a,b⟩=>⟨a,(wG ((k.all l).mp a).fit.len).mpr b⟩
 have Y:(L.filter (λl=>subB n l h w)).Nodup:=k.nd.filter _
 have m1:h∈L.filter (λl=>subB n l h w):=(mem h).mpr ⟨hh,λi hi=>.inl hi⟩
 have m2:w∈L.filter (λl=>subB n l h w):=(mem w).mpr ⟨hw,λi hi=>.inr hi⟩
 unfold nbB
 rw[beq_iff_eq]
 constructor
 ·exact λU l h1 h2=>E8 Y U m1 m2 J l ((mem l).mpr ⟨h1,h2⟩)
 ·exact λha=>Fi Y m1 m2 J λl U=>let ⟨a,b⟩:=(mem l).mp U;ha l a b
theorem kM(hr:r.length=n)(U:Fit n R h)(Y:Fit n R w)(vh:0<aB r h)(vw:aB r w<0):
 Fit n (R++[r]) (c7 w (aB r w) h (aB r h))/\cI (c7 w (aB r w) h (aB r h))=1/\(∀i,nth (c7 w (aB r w) h (aB r h)) i≠0↔nth h i≠0\/nth w i≠0)/\
 ∃g:Int,0<g/\∀i,g*nth (c7 w (aB r w) h (aB r h)) i=nth w i*aB r h+nth h i*(-(aB r w)):=by
 have J:w.length=h.length:=by rw[Y.len,U.len]
 obtain⟨g,hg,e⟩:=qR J (aB r w) (aB r h)
 have e':∀i,g*nth (c7 w (aB r w) h (aB r h)) i=nth w i*aB r h+nth h i*(-(aB r w)):=λi=>by rw[e i];grind
 have nz:∀i,nth (c7 w (aB r w) h (aB r h)) i≠0↔nth h i≠0\/nth w i≠0:=λi=>by
  have h1:=Fh (Y.nn i) (show 0<=aB r h by omega)
  have h2:=Fh (U.nn i) (show 0<= -(aB r w) by omega)
  constructor
  ·intro hz
   apply E9
   intro hn
   have q1:nth h i=0:=by
    by_cases q:nth h i=0
    ·exact q
    ·exact absurd (.inl q) hn
   have q2:nth w i=0:=by
    by_cases q:nth w i=0
    ·exact q
    ·exact absurd (.inr q) hn
   have:=e' i
   rw[q1,q2] at this
   have:g*nth (c7 w (aB r w) h (aB r h)) i=0:=by rw[this];omega
   rcases AT.mp this with z | z
   ·omega
   ·exact hz z
  ·intro ac z
   have:=e' i
   rw[z] at this
   have hs:nth w i*aB r h+nth h i*(-(aB r w))=0:=by omega
   rcases ac with q | q
   ·have:=MH (show 0<nth h i by have:=U.nn i;omega) (show 0 < -(aB r w) by omega);omega
   ·have:=MH (show 0<nth w i by have:=Y.nn i;omega) vh;omega
 have one:cI (c7 w (aB r w) h (aB r h))=1:=by
  obtain⟨i,hi⟩:=U.nz
  have q:nth (c7 w (aB r w) h (aB r h)) i≠0:=(nz i).mpr (.inl hi)
  exact rj _ i q
 refine⟨⟨by rw[mx J,Y.len],λi=> ?_,λq hq=> ?_, ?_⟩,one,nz,g,hg,e'⟩
 ·have h1:=Fh (Y.nn i) (show 0<=aB r h by omega)
  have h2:=Fh (U.nn i) (show 0<= -(aB r w) by omega)
  have:=e' i
  by_cases z:0<=nth (c7 w (aB r w) h (aB r h)) i
  ·exact z
  ·have:=Qq hg (show nth (c7 w (aB r w) h (aB r h)) i<0 by omega);omega
 ·obtain⟨g',az,ed⟩:=wK (n:=n) J (aB r w) (aB r h) (nth q)
  simp only[fI] at ed
  rw[bH]
  have z:g'*aZ n (nth (c7 w (aB r w) h (aB r h))) (nth q)=0:=by
   rw[ed,bH n (nth w),bH n (nth h)]
   rcases sE.mp hq with hq | hq
   ·rw[Y.st q hq,U.st q hq];omega
   ·rw[sB.mp hq,<- jf Y.len,<- jf U.len];grind
  rcases AT.mp z with z | z
  ·omega
  ·exact z
 ·obtain⟨i,hi⟩:=U.nz
  exact⟨i,(nz i).mpr (.inl hi)⟩
theorem Fit.less{R S:List (List Int)}(f:Fit n (R++S) x):Fit n R x:=⟨f.len,f.nn,λr hr=>f.st r (FS _ hr),f.nz⟩
theorem Fit.more(f:Fit n R x)(h:aZ n (nth r) (nth x)=0):Fit n (R++[r]) x:=⟨f.len,f.nn,λq hq=>by
 rcases sE.mp hq with z | z
 ·exact f.st q z
 ·rw[sB.mp z];exact h,f.nz⟩
theorem cJ.same(a:cJ n R x)(b:cJ n R y)(h:Sub y x):x=y:=a.eq b.fit b.one h
theorem vm(hr:r.length=n)(J:cJ n R h)(ll:cJ n R l)(lw:cJ n R w)(U:cJ n (R++[r]) x)(vh:0<aB r h)(vl:0<aB r l)(Y:aB r w<0)(sh:Sub h x)(sl:Sub l x)(sw:Sub w x):l=h:=by
 obtain⟨f1,g1,z1,a,ha,e1⟩:=kM hr J.fit lw.fit vh Y
 obtain⟨f2,g2,z2,b,hb,e2⟩:=kM hr ll.fit lw.fit vl Y
 have x1:=U.eq f1 g1 λi hi=>((z1 i).mp hi).elim (sh i) (sw i)
 have x2:=U.eq f2 g2 λi hi=>((z2 i).mp hi).elim (sl i) (sw i)
 rw[<- x1] at e1
 rw[<- x2] at e2
 have key:∀i,b*(nth h i*(-(aB r w)))+(b*aB r h-a*aB r l)*nth w i=a*(nth l i*(-(aB r w))):=λi=>by
  have q1:=e1 i
  have q2:=e2 i
  have:b*(a*nth x i)=a*(b*nth x i):=by grind
  rw[q1,q2] at this
  grind
 have hu:0 < -(aB r w):=by omega
 by_cases hm:0<=b*aB r h-a*aB r l
 ·refine(cJ.same ll J λi hi=> ?_)
  intro z
  have q:=key i
  rw[z] at q
  have h1:=MH hb (MH (show 0<nth h i by have:=J.fit.nn i;omega) hu)
  have h2:=Fh hm (lw.fit.nn i)
  have h3:a*(0*(-(aB r w)))=0:=by simp
  omega
 ·refine(cJ.same J ll λi hi=> ?_).symm
  intro z
  have q:=key i
  rw[z] at q
  have h1:=MH ha (MH (show 0<nth l i by have:=ll.fit.nn i;omega) hu)
  have h2:=Int.mul_nonpos_of_nonpos_of_nonneg (show b*aB r h-a*aB r l<=0 by omega) (lw.fit.nn i)
  have h3:b*(0*(-(aB r w)))=0:=by simp
  omega
theorem v7(J:l.length=n):aB (r.map (- ·)) l= -(aB r l):=by rw[jf J,jf J,j5]
theorem cJ.neg(l:cJ n (R++[r]) x):cJ n (R++[r.map (- ·)]) x:=by
 have J:∀y,Fit n (R++[r]) y↔Fit n (R++[r.map (- ·)]) y:=λy=>by
  constructor
  ·refine λf=>Fit.more f.less ?_
   rw[j5,f.st r (by simp)];rfl
  ·refine λf=>Fit.more f.less ?_
   have:=f.st (r.map (- ·)) (by simp)
   rw[j5] at this;omega
 exact⟨(J x).mp l.fit,l.one,λy U=>l.min y ((J y).mpr U)⟩
theorem CZ(hr:r.length=n)(J:cJ n R h)(ll:cJ n R l)(lw:cJ n R w)(U:cJ n (R++[r]) x)(vh:0<aB r h)(vl:aB r l<0)(vw:aB r w<0)(Y:Sub h x)(sl:Sub l x)(sw:Sub w x):l=w:=
 vm (r:=r.map (- ·)) (h:=w) (l:=l) (w:=h) (by simpa using hr) lw ll J U.neg (by rw[v7 lw.fit.len];omega) (by rw[v7 ll.fit.len];omega) (by rw[v7 J.fit.len];omega) sw sl Y
theorem t8:x∈dZ n L r↔(x∈L/\aB r x=0)\/∃h w,h∈L/\w∈L/\0<aB r h/\aB r w<0/\nbB n L h w=true/\x=c7 w (aB r w) h (aB r h):=by
 unfold dZ
 rw[sE]
 constructor
 ·rintro (h | h)
  ·rw[u0,decide_eq_true_eq] at h;exact .inl h
  ·obtain⟨h',q1,q2⟩:=Rp.mp h
   obtain⟨w,J,rfl⟩:=li.mp q2
   rw[u0,decide_eq_true_eq] at q1
   rw[u0,u0,decide_eq_true_eq] at J
   exact .inr ⟨h',w,q1.1,J.1.1,q1.2,J.1.2,J.2,rfl⟩
 ·rintro (h | ⟨h',w,q1,q2,J,U,Y,rfl⟩)
  ·exact .inl (by rw[u0,decide_eq_true_eq];exact h)
  ·refine .inr (Rp.mpr ⟨h',by rw[u0,decide_eq_true_eq];exact⟨q1,J⟩,li.mpr ⟨w, ?_,rfl⟩⟩)
   rw[u0,u0,decide_eq_true_eq];exact⟨⟨q2,U⟩,Y⟩
theorem BA(hr:r.length=n)(k:jq n R L)(x:List Int):x∈dZ n L r↔cJ n (R++[r]) x:=by
 rw[t8]
 constructor
 ·rintro (⟨hx,v⟩ | ⟨h,w,hh,hw,J,Y,nb,rfl⟩)
  ·have l:=(k.all x).mp hx
   rw[k.dot hx] at v
   exact⟨l.fit.more v,l.one,λy fy=>l.min y fy.less⟩
  ·have lh:=(k.all h).mp hh
   have lw:=(k.all w).mp hw
   have ab:h≠w:=λe=>by rw[e] at J;omega
   obtain⟨f1,g1,z1,_⟩:=kM hr lh.fit lw.fit J Y
   refine⟨f1,g1,λy fy sy=> ?_⟩
   have ac:=(xX k hh hw ab).mp nb
   rcases z5 r fy.less (fy.st r (by simp)) with⟨l,ll,sl,v⟩ | ⟨h',w',bn,bp,a2,a3,a4,a5⟩
   ·have U:=(k.all l).mpr ll
    have:=ac l U λi hi=>(z1 i).mp (sy i (sl i hi))
    rw[<- k.dot U] at v
    rcases this with rfl | rfl <;> omega
   ·have a6:=(k.all h').mpr bn
    have a7:=(k.all w').mpr bp
    rw[<- k.dot a6] at a4
    rw[<- k.dot a7] at a5
    have e1:h'=h:=by
     rcases ac h' a6 λi hi=>(z1 i).mp (sy i (a2 i hi)) with e | e
     ·exact e
     ·rw[e] at a4;omega
    have e2:w'=w:=by
     rcases ac w' a7 λi hi=>(z1 i).mp (sy i (a3 i hi)) with e | e
     ·rw[e] at a5;omega
     ·exact e
    subst e1 e2
    exact λi hi=>((z1 i).mp hi).elim (a2 i) (a3 i)
 ·intro lx
  by_cases hz:∃l,cJ n R l/\Sub l x/\aZ n (nth r) (nth l)=0
  ·obtain⟨l,ll,sl,v⟩:=hz
   have e:=lx.eq (ll.fit.more v) ll.one sl
   subst e
   have U:=(k.all x).mpr ll
   exact .inl ⟨U,by rw[k.dot U];exact v⟩
  ·rcases z5 r lx.fit.less (lx.fit.st r (by simp)) with h0 | ⟨h,w,lh,lw,sh,sw,J,Y⟩
   ·exact absurd h0 hz
   ·have hh:=(k.all h).mpr lh
    have hw:=(k.all w).mpr lw
    rw[<- k.dot hh] at J
    rw[<- k.dot hw] at Y
    have ab:h≠w:=λe=>by rw[e] at J;omega
    obtain⟨f1,g1,z1,_⟩:=kM hr lh.fit lw.fit J Y
    refine .inr ⟨h,w,hh,hw,J,Y,(xX k hh hw ab).mpr λl U sl=> ?_,lx.eq f1 g1 λi hi=>((z1 i).mp hi).elim (sh i) (sw i)⟩
    have ll:=(k.all l).mp U
    have am:Sub l x:=λi hi=>(sl i hi).elim (sh i) (sw i)
    by_cases v0:aB r l=0
    ·exact absurd ⟨l,ll,am,by rw[<- k.dot U];exact v0⟩ hz
    ·by_cases vp:0<aB r l
     ·exact .inl (vm hr lh ll lw lx J vp Y sh am sw)
     ·exact .inr (CZ hr lh ll lw lx J (by omega) Y sh am sw)
end
section
variable {n : Nat} {R L : List (List Int)} {r : List Int}
theorem DX (hr:r.length=n) (k:jq n R L) {h w h' J:List Int} (hh:h∈L) (hw:w∈L) (vh:0<aB r h) (vw:aB r w<0) (nb:nbB n L h w=true)
 (U:h'∈L) (Y:J∈L) (ab:0<aB r h') (ac:aB r J<0) (e:c7 w (aB r w) h (aB r h)=c7 J (aB r J) h' (aB r h')):h=h'/\w=J:=by
 have an:h≠w:=λe=>by rw[e] at vh;omega
 obtain⟨_,_,z1,_⟩:=kM hr ((k.all h).mp hh).fit ((k.all w).mp hw).fit vh vw
 obtain⟨_,_,z2,_⟩:=kM hr ((k.all h').mp U).fit ((k.all J).mp Y).fit ab ac
 rw[e] at z1
 have am:=(xX k hh hw an).mp nb
 constructor
 ·rcases am h' U λi hi=>(z1 i).mp ((z2 i).mpr (.inl hi)) with q | q
  ·exact q.symm
  ·rw[q] at ab;omega
 ·rcases am J Y λi hi=>(z1 i).mp ((z2 i).mpr (.inr hi)) with q | q
  ·rw[q] at ac;omega
  ·exact q.symm
theorem Dh(hr:r.length=n)(k:jq n R L):(dZ n L r).Nodup:=by
 unfold dZ
 rw[PZ]
 refine⟨k.nd.filter _, ?_,λx hx y hy e=> ?_⟩
 ·unfold Si
  rw[List.pairwise_flatMap]
  constructor
  ·intro h J
   rw[u0,decide_eq_true_eq] at J
   rw[P0]
   refine PF (λ{w w'} U Y ab=> ?_) ((k.nd.filter _).filter _)
   rw[u0,u0,decide_eq_true_eq] at U Y
   exact λe=>ab (DX hr k J.1 U.1.1 J.2 U.1.2 U.2 J.1 Y.1.1 J.2 Y.1.2 e).2
  ·refine PF (λ{h h'} J hh' ab x hx y hy=> ?_) (k.nd.filter _)
   rw[u0,decide_eq_true_eq] at J hh'
   obtain⟨w,U,rfl⟩:=li.mp hx
   obtain⟨w',Y,rfl⟩:=li.mp hy
   rw[u0,u0,decide_eq_true_eq] at U Y
   exact λe=>ab (DX hr k J.1 U.1.1 J.2 U.1.2 U.2 hh'.1 Y.1.1 hh'.2 Y.1.2 e).1
 ·subst e
  rw[u0,decide_eq_true_eq] at hx
  obtain⟨h,J,hy⟩:=Rp.mp hy
  obtain⟨w,U,e⟩:=li.mp hy
  rw[u0,decide_eq_true_eq] at J
  rw[u0,u0,decide_eq_true_eq] at U
  have ab:h≠w:=λe=>by rw[e] at J;omega
  obtain⟨_,_,z1,_⟩:=kM hr ((k.all h).mp J.1).fit ((k.all w).mp U.1.1).fit J.2 U.1.2
  rw[e] at z1
  rcases(xX k J.1 U.1.1 ab).mp U.2 x hx.1 λi hi=>(z1 i).mp hi with q | q
  ·rw[q] at hx;omega
  ·rw[q] at hx;omega
theorem jq.step(hr:r.length=n)(k:jq n R L):jq n (R++[r]) (dZ n L r):=⟨BA hr k,Dh hr k⟩
theorem Ap(ha:a<n):cI (dS n a)=1:=by
 have:=oa (dS n a) a
 rw[dh ha,if_pos rfl] at this
 have:(cI (dS n a):Int).natAbs ∣ (1:Int).natAbs:=QJ.mpr this
 simpa using this
theorem v8(ha:a<n):Fit n [] (dS n a):=by
 refine⟨by unfold dS;simp,λi=> ?_,by simp,⟨a, ?_⟩⟩
 ·rw[dh ha];split <;> omega
 ·rw[dh ha,if_pos rfl];decide
theorem FJ(ha:a<n):cJ n [] (dS n a):=by
 refine⟨v8 ha,Ap ha,λy U Y=>λi hi=> ?_⟩
 rw[dh ha] at hi
 by_cases e:i=a
 ·subst e
  obtain⟨j,J⟩:=U.nz
  have:=Y j J
  rw[dh ha] at this
  by_cases e:j=i
  ·rw[<- e];exact J
  ·rw[if_neg e] at this;exact absurd rfl this
 ·rw[if_neg e] at hi;exact absurd rfl hi
theorem ET(n:Nat):jq n [] (cR n):=by
 refine⟨λx=>⟨λhx=> ?_,λl=> ?_⟩, ?_⟩
 ·obtain⟨a,ha,rfl⟩:=li.mp hx
  exact FJ (wn.mp ha)
 ·obtain⟨i,hi⟩:=l.fit.nz
  have lt:=l.fit.lt hi
  have:=l.eq (v8 lt) (Ap lt) λj J=>by
   rw[dh lt] at J
   by_cases e:j=i
   ·rw[e];exact hi
   ·rw[if_neg e] at J;exact absurd rfl J
  rw[this]
  exact li.mpr ⟨i,wn.mpr lt,rfl⟩
 ·unfold cR Si
  rw[P0]
  refine PF (λ{a b} ha hb hne e=>hne ?_) List.nodup_range
  have h1:=dh (wn.mp ha) a
  rw[e,dh (wn.mp hb),if_pos rfl] at h1
  by_cases q:a=b
  ·exact q
  ·rw[if_neg q] at h1;cases h1
theorem zd:∀{rows:List (List Int)},(∀r∈rows,r.length=n)->∀{R L:List (List Int)},jq n R L->jq n (R++rows) (rows.foldl (dZ n) L)
 | [],_,R,L,k=>by simpa using k
 | row::rows,h,R,L,k=>by
  have:=zd (rows:=rows) (λr hr=>h r (ol _ hr)) (k.step (h row pi))
  simpa using this
def jB(rows:List (List Int))(n:Nat):List (List Int):=rows.foldl (dZ n) (cR n)
theorem mG(h:∀r∈rows,r.length=n):jq n rows (jB rows n):=by
 have:=zd h (ET n)
 rw[vG] at this
 exact this
end
section
variable {n : Nat} {R L : List (List Int)}
theorem Bt{c:List Int}(h:∀l,cJ n R l->0<=aZ n (nth c) (nth l))(J:Fit n R y):0<=aZ n (nth c) (nth y):=by
 by_cases U:0<=aZ n (nth c) (nth y)
 ·exact U
 ·obtain⟨l,h1,_,Y⟩:=xU c J (by omega)
  have:=h l h1
  omega
theorem between{α:Type}(a b:α->Int):∀(A B:List α),(∀x∈A,0<b x)->(∀x∈B,0<b x)->(∀x∈A,∀y∈B,a x*b y<=a y*b x)->
 ∃p q:Int,0<q/\(∀x∈A,a x*q<=p*b x)/\∀y∈B,p*b y<=a y*q:=by
 have J:∀B:List α,B≠[]->(∀x∈B,0<b x)->∃m∈B,∀y∈B,a m*b y<=a y*b m:=by
  intro B
  induction B with
  | nil=>intro h;exact absurd rfl h
  | cons x B ih=>
   intro _ hb
   by_cases U:B=[]
   ·subst U;exact⟨x,by simp,λy hy=>by rw[sB.mp hy];omega⟩
   ·obtain⟨m,hm,hl⟩:=ih U λy hy=>hb y (ol _ hy)
    have b1:=hb x pi
    have b2:=hb m (ol _ hm)
    by_cases hc:a m*b x<=a x*b m
    ·refine⟨m,ol _ hm,λy hy=> ?_⟩
     rcases sn.mp hy with rfl | hy
     ·exact hc
     ·exact hl y hy
    ·refine⟨x,pi,λy hy=> ?_⟩
     rcases sn.mp hy with rfl | hy
     ·omega
     ·exact vC b1 b2 (hb y (ol _ hy)) (by omega) (hl y hy)
 intro A B hA U Y
 by_cases ab:B=[]
 ·subst ab
  have:∃p:Int,∀x∈A,a x<=p*b x:=by
   clear Y
   induction A with
   | nil=>exact⟨0,by simp⟩
   | cons x A ih=>
    obtain⟨p,hp⟩:=ih (λy hy=>hA y (ol _ hy))
    refine⟨max p (max (a x) 0),λy hy=> ?_⟩
    have b1:=hA y hy
    rcases sn.mp hy with rfl | hy
    ·have:max p (max (a y) 0)*1<=max p (max (a y) 0)*b y:=Int.mul_le_mul_of_nonneg_left (by omega) (by omega)
     omega
    ·have h1:=hp y hy
     have:p*b y<=max p (max (a x) 0)*b y:=Qb (by omega) (by omega)
     omega
  obtain⟨p,hp⟩:=this
  exact⟨p,1,by decide,λx hx=>by have:=hp x hx;omega,by simp⟩
 ·obtain⟨m,hm,hl⟩:=J B ab U
  exact⟨a m,b m,U m hm,λx hx=>Y x hx m hm,hl⟩
theorem LW:∀{rows:List (List Int)},(∀r∈rows,r.length=n)->∀{c:List Int},c.length=n->(∀y,Fit n rows y->0<=aZ n (nth c) (nth y))->
 ∃k:Int,0<k/\∃T:List Int,T.length=rows.length/\∀i,i<n->cz T rows i<=k*nth c i:=by
 intro rows
 suffices H:∀(m:Nat) (rows:List (List Int)),rows.length=m->(∀r∈rows,r.length=n)->∀{c:List Int},c.length=n->(∀y,Fit n rows y->0<=aZ n (nth c) (nth y))->
  ∃k:Int,0<k/\∃T:List Int,T.length=rows.length/\∀i,i<n->cz T rows i<=k*nth c i from λh c hc hy=>H rows.length rows rfl h hc hy
 intro m
 induction m with
 | zero=>
  intro rows hm _ c hc hy
  have e:rows=[]:=List.length_eq_zero_iff.mp hm
  subst e
  refine⟨1,by decide,[],rfl,λi hi=> ?_⟩
  have:=hy _ (v8 hi)
  unfold aZ at this
  rw[gd hi λj _ hj=>by rw[dh hi,if_neg hj];omega,dh hi,if_pos rfl] at this
  rw[show cz [] [] i=0 from rfl]
  omega
 | succ m ih=>
  intro rows hm hl c hc hy
  obtain⟨R,r,rfl⟩:∃R r,rows=R++[r]:=by
   rcases List.eq_nil_or_concat rows with h | ⟨R,r,h⟩
   ·subst h;simp at hm
   ·exact⟨R,r,by rw[h];simp⟩
  have U:∀q∈R,q.length=n:=λq hq=>hl q (FS _ hq)
  have hr:r.length=n:=hl r (by simp)
  have k:=mG U
  obtain⟨p,q,hq,h1,h2⟩:=between (α:=Bool×List Int) (λx=>if x.1 then aZ n (nth c) (nth x.2) else -(aZ n (nth c) (nth x.2))) (λx=>if x.1 then aZ n (nth r) (nth x.2) else -(aZ n (nth r) (nth x.2)))
   (((jB R n).filter λl=>decide (aZ n (nth r) (nth l)<0)).map λl=>(false,l)) (((jB R n).filter λl=>decide (0<aZ n (nth r) (nth l))).map λl=>(true,l))
   (λx hx=>by
    obtain⟨l,hl',rfl⟩:=li.mp hx
    rw[u0,decide_eq_true_eq] at hl'
    simp;exact hl'.2)
   (λx hx=>by
    obtain⟨l,hl',rfl⟩:=li.mp hx
    rw[u0,decide_eq_true_eq] at hl'
    simp;exact hl'.2)
   (λx hx y an=>by
    obtain⟨w,Y,rfl⟩:=li.mp hx
    obtain⟨h,hh,rfl⟩:=li.mp an
    rw[u0,decide_eq_true_eq] at Y hh
    have lw:=(k.all w).mp Y.1
    have lh:=(k.all h).mp hh.1
    have vh:0<aB r h:=by rw[k.dot hh.1];exact hh.2
    have vw:aB r w<0:=by rw[k.dot Y.1];exact Y.2
    obtain⟨f1,_,_,g,hg,e⟩:=kM hr lh.fit lw.fit vh vw
    have ap:=hy _ f1
    have ed:g*aZ n (nth c) (nth (c7 w (aB r w) h (aB r h)))=aB r h*aZ n (nth c) (nth w)+(-(aB r w))*aZ n (nth c) (nth h):=by
     rw[bH,kq (g:=g) (c:=nth (c7 w (aB r w) h (aB r h))) (a:=nth w) (b:=nth h) (u:=aB r h) (v:= -(aB r w)) (λi _=>by rw[e i];grind),bH n (nth w),bH n (nth h)]
    have:=Fh (show 0<=g by omega) ap
    conv at ed=>rhs;rw[k.dot hh.1,k.dot Y.1]
    simp only[Qr,if_false,if_true]
    have q1: -(aZ n (nth c) (nth w))*aZ n (nth r) (nth h)= -(aZ n (nth r) (nth h)*aZ n (nth c) (nth w)):=by grind
    have q2:aZ n (nth c) (nth h) * -(aZ n (nth r) (nth w))= -(aZ n (nth r) (nth w))*aZ n (nth c) (nth h):=by grind
    omega)
  have J:c.length=r.length:=by rw[hc,hr]
  obtain⟨k',az,T,hT,a1⟩:=ih R (by simpa using hm) U (c:=gf c p r q) (by rw[mn J,hc]) (λy fy=>by
   refine Bt (λl ll=> ?_) fy
   have am:=(k.all l).mpr ll
   have ed:aZ n (nth (gf c p r q)) (nth l)=q*aZ n (nth c) (nth l)-p*aZ n (nth r) (nth l):=by
    have:=kq (n:=n) (g:=1) (c:=nth (gf c p r q)) (a:=nth c) (b:=nth r) (u:=q) (v:= -p) (λi _=>by rw[qE J];grind) (nth l)
    have e2: -p*aZ n (nth r) (nth l)= -(p*aZ n (nth r) (nth l)):=by grind
    omega
   rw[ed]
   by_cases v0:aZ n (nth r) (nth l)=0
   ·have:=Fh (show 0<=q by omega) (hy l (ll.fit.more v0))
    rw[v0];omega
   ·by_cases vp:0<aZ n (nth r) (nth l)
    ·have:=h2 (true,l) (li.mpr ⟨l,by rw[u0,decide_eq_true_eq];exact⟨am,vp⟩,rfl⟩)
     simp only[if_true] at this
     have e2:aZ n (nth c) (nth l)*q=q*aZ n (nth c) (nth l):=PH _ _
     omega
    ·have:=h1 (false,l) (li.mpr ⟨l,by rw[u0,decide_eq_true_eq];exact⟨am,by omega⟩,rfl⟩)
     simp only[Qr,if_false] at this
     have e2: -(aZ n (nth c) (nth l))*q= -(q*aZ n (nth c) (nth l)):=by grind
     have e3:p * -(aZ n (nth r) (nth l))= -(p*aZ n (nth r) (nth l)):=by grind
     omega)
  refine⟨k'*q,MH az hq,T++[k'*p],by simp[hT],λi hi=> ?_⟩
  have:=a1 i hi
  rw[qE J] at this
  rw[nB hT]
  have e1:k'*(nth c i*q-nth r i*p)=k'*q*nth c i-k'*p*nth r i:=by grind
  omega
end
theorem wU:∀(N:Nat) (l:List Nat),l.Nodup->(∀x∈l,x<N)->l.length<=N
 | 0,l,_,h=>by
  cases l with
  | nil=>exact qh _
  | cons a l=>exact absurd (h a pi) (by omega)
 | N+1,l,nd,h=>by
  by_cases hm:N∈l
  ·have:=wU N (l.erase N) (nd.erase N) (λx hx=>by
    have h1:=(nd.mem_erase_iff.mp hx)
    have:=h x h1.2
    have:=h1.1
    omega)
   rw[Ro hm] at this
   omega
  ·have:=wU N l nd (λx hx=>by
    have h1:=h x hx
    have:x≠N:=λe=>hm (e▸hx)
    omega)
   omega
def at0(x:List Int)(i:Nat):Bool:=decide (nth x i≠0)
def cl3(a b c:Bool):Nat:=match a,b,c with
 | false,true,_=>1
 | false,false,true=>2
 | true,false,true=>2
 | _,_,_=>0
theorem Cj(a b c:Bool):cl3 a b c<=2:=by revert a b c;decide
theorem GX:∀a b c J U Y:Bool,cl3 a b c=cl3 J U Y->((a=true->J=true)/\(b=true->U=true)/\(c=true->Y=true))\/((J=true->a=true)/\(U=true->b=true)/\(Y=true->c=true)):=by decide
def yX(x:List Int):Nat:=3*((at0 x 3).toNat+2*(at0 x 4).toNat+4*(at0 x 5).toNat+8*(at0 x 6).toNat)+cl3 (at0 x 0) (at0 x 1) (at0 x 2)
theorem toNat_le(b:Bool):b.toNat<=1:=by cases b <;> decide
theorem toNat_inj{a b:Bool}(h:a.toNat=b.toNat):a=b:=by revert a b;decide
theorem KO(x:List Int):yX x<48:=by
 have:=Cj (at0 x 0) (at0 x 1) (at0 x 2)
 have:=toNat_le (at0 x 3)
 have:=toNat_le (at0 x 4)
 have:=toNat_le (at0 x 5)
 have:=toNat_le (at0 x 6)
 unfold yX
 omega
theorem GJ(hx:x.length<=7)(h:∀i,i<7->at0 x i=true->at0 y i=true):Sub x y:=λi hi=>by
 by_cases J:i<7
 ·exact of_decide_eq_true (h i J (decide_eq_true hi))
 ·exact absurd (fX (by omega)) hi
theorem K2(hn:n<=7)(lx:cJ n R x)(ly:cJ n R y)(h:yX x=yX y):x=y:=by
 have a1:=Cj (at0 x 0) (at0 x 1) (at0 x 2)
 have a2:=Cj (at0 y 0) (at0 y 1) (at0 y 2)
 have b3:=toNat_le (at0 x 3);have c3:=toNat_le (at0 y 3)
 have b4:=toNat_le (at0 x 4);have c4:=toNat_le (at0 y 4)
 have b5:=toNat_le (at0 x 5);have c5:=toNat_le (at0 y 5)
 have b6:=toNat_le (at0 x 6);have c6:=toNat_le (at0 y 6)
 unfold yX at h
 have e3:at0 x 3=at0 y 3:=toNat_inj (by omega)
 have e4:at0 x 4=at0 y 4:=toNat_inj (by omega)
 have e5:at0 x 5=at0 y 5:=toNat_inj (by omega)
 have e6:at0 x 6=at0 y 6:=toNat_inj (by omega)
 have e:cl3 (at0 x 0) (at0 x 1) (at0 x 2)=cl3 (at0 y 0) (at0 y 1) (at0 y 2):=by omega
 have U:x.length<=7:=by rw[lx.fit.len];exact hn
 have Y:y.length<=7:=by rw[ly.fit.len];exact hn
 rcases GX _ _ _ _ _ _ e with⟨q0,q1,q2⟩ | ⟨q0,q1,q2⟩
 ·refine(ly.same lx (GJ U λi hi J=> ?_)).symm
  have:i=0\/i=1\/i=2\/i=3\/i=4\/i=5\/i=6:=by omega
  rcases this with rfl | rfl | rfl | rfl | rfl | rfl | rfl
  ·exact q0 J
  ·exact q1 J
  ·exact q2 J
  ·rw[<- e3];exact J
  ·rw[<- e4];exact J
  ·rw[<- e5];exact J
  ·rw[<- e6];exact J
 ·refine lx.same ly (GJ Y λi hi J=> ?_)
  have:i=0\/i=1\/i=2\/i=3\/i=4\/i=5\/i=6:=by omega
  rcases this with rfl | rfl | rfl | rfl | rfl | rfl | rfl
  ·exact q0 J
  ·exact q1 J
  ·exact q2 J
  ·rw[e3];exact J
  ·rw[e4];exact J
  ·rw[e5];exact J
  ·rw[e6];exact J
theorem zI{α β:Type}{f:α->β}:∀{l:List α},l.Nodup->(∀x∈l,∀y∈l,f x=f y->x=y)->(l.map f).Nodup
 | [],_,_=>Sq
 | a::l,nd,h=>by
  rw[sH,NE]
  rw[NE] at nd
  refine⟨λhm=> ?_,zI nd.2 λx hx y hy=>h x (ol _ hx) y (ol _ hy)⟩
  obtain⟨b,hb,e⟩:=li.mp hm
  exact nd.1 (h b (ol _ hb) a pi e▸hb)
theorem jq.few{R L:List (List Int)}(k:jq n R L)(hn:n<=7):L.length<64:=by
 have:=wU 48 (L.map yX) (zI k.nd λx hx y hy e=>K2 hn ((k.all x).mp hx) ((k.all y).mp hy) e) λc hc=>by
  obtain⟨x,_,rfl⟩:=li.mp hc
  exact KO x
 rw[nW] at this
 omega
theorem IL{L:List (List Int)}(hr:SzL c r)(U:r.length<=1000)(J:cL b L):cL (2*b+c+12) (dZ n L r):=by
 intro x hx
 rcases t8.mp hx with⟨h,_⟩ | ⟨h,w,Y,hw,_,_,_,rfl⟩
 ·exact(J x h).mono (by omega)
 ·exact(SzL.off (J w hw) (J h Y) (oJ hr (J w hw) U) (oJ hr (J h Y) U)).mono (by omega)
def oU(c:Nat):Nat->Nat->Nat
 | 0,b=>b
 | m+1,b=>oU c m (2*b+c+12)
theorem wM{n c:Nat}:∀(rows:List (List Int)) (b:Nat) (L:List (List Int)),(∀r∈rows,SzL c r/\r.length<=1000)->cL b L->cL (oU c rows.length b) (rows.foldl (dZ n) L)
 | [],b,L,_,h=>h
 | r::rows,b,L,hr,h=>wM rows _ _ (λq hq=>hr q (ol _ hq)) (IL (hr r pi).1 (hr r pi).2 h)
theorem Cq(c:Nat):∀(m b:Nat),b<=oU c m b
 | 0,_=>qh _
 | m+1,b=>yB (by omega) (Cq c m (2*b+c+12))
theorem mK(c:Nat):∀(m J b:Nat),m<=J->oU c m b<=oU c J b
 | 0,J,b,_=>Cq c J b
 | m+1,0,b,h=>absurd h (by omega)
 | m+1,J+1,b,h=>mK c m J _ (by omega)
def dN(x:List Int):Nat:=x.foldl (λb y=>b*2+if 0<y then 1 else 0) 0
theorem Er:∀(x:List Int) (b i:Nat),(x.foldl (λb y=>b*2+if 0<y then 1 else 0) b).testBit i=if i<x.length then decide (0<nth x (x.length-1-i)) else b.testBit (i-x.length)
 | [],b,i=>by simp
 | y::x,b,i=>by
  rw[PD,Er x]
  have U:(if 0<y then 1 else 0:Nat)<=1:=by split <;> omega
  have J:decide ((if 0<y then 1 else 0:Nat)=1)=decide (0<y):=by
   by_cases hy:0<y
   ·rw[if_pos hy,decide_eq_true hy];rfl
   ·rw[if_neg hy,decide_eq_false hy];rfl
  generalize (if 0<y then 1 else 0:Nat)=c at U J
  by_cases h:i<x.length
  ·rw[if_pos h,if_pos (by simp;omega)]
   congr 2
   show nth x (x.length-1-i)=nth (y::x) (x.length+1-1-i)
   rw[show x.length+1-1-i=(x.length-1-i)+1 by omega]
   rfl
  ·rw[if_neg h]
   by_cases h2:i=x.length
   ·subst h2
    rw[if_pos (by simp),RQ,Nat.testBit_zero]
    show _=decide (0<nth (y::x) (x.length+1-1-x.length))
    rw[show x.length+1-1-x.length=0 by omega]
    show _=decide (0<y)
    rw[<- J]
    congr 1
    rw[eq_iff_iff]
    omega
   ·rw[if_neg (by simp;omega),tz,show i-x.length=(i-(x.length+1))+1 by omega,Nat.testBit_succ]
    congr 1
    omega
theorem nI(x:List Int)(i:Nat):(dN x).testBit i=decide (i<x.length/\0<nth x (x.length-1-i)):=by
 unfold dN
 rw[Er]
 by_cases h:i<x.length
 ·rw[if_pos h]
  by_cases h2:0<nth x (x.length-1-i)
  ·rw[decide_eq_true h2,decide_eq_true ⟨h,h2⟩]
  ·rw[decide_eq_false h2,decide_eq_false (λz=>h2 z.2)]
 ·rw[if_neg h,decide_eq_false (λz=>h z.1),Nat.zero_testBit]
theorem FH:a|||b=b↔∀i,a.testBit i=true->b.testBit i=true:=by
 constructor
 ·intro h i hi
  rw[<- h,QX,hi,SH]
 ·intro h
  refine Nat.eq_of_testBit_eq λi=> ?_
  rw[QX]
  cases ha:a.testBit i with
  | true=>rw[h i ha];rfl
  | false=>rw[Bool.false_or]
theorem bits_sub(J:l.length=n)(U:h.length=n)(Y:w.length=n)(nl:∀i,0<=nth l i)(nh:∀i,0<=nth h i)(nw:∀i,0<=nth w i):decide (dN l|||(dN h|||dN w)=dN h|||dN w)=subB n l h w:=by
 rw[Fk,decide_eq_true_eq,FH,wG J]
 constructor
 ·intro H i hi
  have lt:i<n:=by
   by_cases e:i<n
   ·exact e
   ·exact absurd (fX (by omega)) hi
  have:=H (n-1-i) (by
   rw[nI]
   refine decide_eq_true ⟨by omega, ?_⟩
   rw[J,show n-1-(n-1-i)=i by omega]
   have:=nl i
   omega)
  rw[QX,QR,nI,nI,decide_eq_true_eq,decide_eq_true_eq,U,Y,show n-1-(n-1-i)=i by omega] at this
  rcases this with z | z
  ·exact .inl (by omega)
  ·exact .inr (by omega)
 ·intro H i hi
  rw[nI,decide_eq_true_eq,J] at hi
  rw[QX,QR,nI,nI,decide_eq_true_eq,decide_eq_true_eq,U,Y]
  rcases H (n-1-i) (by omega) with z | z
  ·have:=nh (n-1-i)
   exact .inl ⟨hi.1,by omega⟩
  ·have:=nw (n-1-i)
   exact .inr ⟨hi.1,by omega⟩
structure Tight(left y:List Int)(a:Nat):Prop where
 pos:0<nth y a
 min:∀i,0<nth y i->nth left a*nth y i<=nth left i*nth y a
abbrev Sh:Type:=(Int×Int)×List Int
def psS(i:Nat)(T:List Sh):Int×Int:=T.foldl (λq s=>(q.1*s.1.2,s.1.2*q.2+s.1.1*q.1*nth s.2 i)) (1,0)
theorem Ah{i:Nat}(h:i<x.length):nth (x++y) i=nth x i:=by
 unfold nth
 rw[kt,kt,tt h]
theorem zH{b:Int}:nth (x++[b]) x.length=b:=by
 unfold nth
 rw[kt]
 simp
structure Red(n:Nat)(left y:List Int)(bot:Int)(a:Nat)(g:Int)(l':List Int)(b':Int):Prop where
 gp:0<g
 len:l'.length=n
 lv:∀i,g*nth l' i=nth left i*nth y a-nth y i*nth left a
 bv:g*b'=bot*nth y a
structure Shr(n:Nat)(R:List (List Int))(fit:List Int)(c:Nat)(ps:List (List Int))(T:List Sh)(left:List Int)(bot:Int):Prop where
 len:left.length=n
 nn:∀i,0<=nth left i
 bp:0<bot
 st:∀r∈R,aZ n (nth r) (nth left)=0
 sub:Sub left fit
 cn:T.length+cnt left<=cnt fit
 good:∀s∈T,0<s.1.1/\0<s.1.2/\Rb s.1.1 s.1.2=1/\Sub s.2 fit
 sl:(T.map (·.2)).Sublist ps
 eq:∀i,bot*(psS i T).2+(psS i T).1*nth left i=(psS i T).1*bot*nth fit i
 no:∀y∈ps,¬Sub y left
 sz:SzL (c+8001*T.length) left
 szb:Sz (c+8001*T.length) bot
 szt:∀s∈T,Sz (c+8001*T.length) s.1.1/\Sz (c+8001*T.length) s.1.2
def mkS(C:Int)(i:Nat)(m:Int)(T:List Sh):Int:=T.foldl (λm s=>m+s.1.1*(C/s.1.2)*nth s.2 i) m
theorem DV(Y:goal.length=n)(hc:rows.length<=900)(hs:cL c rows)(J:SzL c goal){b:Int}{ts:List Int}(e:jN rows goal=some (b,ts)):Sz (iz c (1+rows.length)) b/\SzL (iz c (1+rows.length)) ts:=by
 have U:cL c (bq rows goal):=by
  intro r hr x hx
  unfold bq at hr
  obtain⟨a,_,rfl⟩:=li.mp hr
  obtain⟨q,hq,rfl⟩:=li.mp hx
  rcases sn.mp hq with rfl | hq
  ·exact J.nth a
  ·exact(hs q hq).nth a
 have h:=oW (n:=1+rows.length) (by omega) gx U
 unfold jN at e
 split at e
 ·cases e
 ·rename_i x F es
  rw[es] at h
  have hx:=h x pi
  split at e
  ·cases e
  ·cases e
   refine⟨hx.nth 0,λy hy=> ?_⟩
   obtain⟨z,hz,rfl⟩:=li.mp hy
   exact(hx z (RI hz)).neg
theorem jS{ok:ay->Prop}{s s1 s2:S}(J:ok s.o)(U:g d s=.ok s1)(hb:body s1=.next s2):cv ok g body (d::ds) s=cv ok g body ds s2:=by
 rw[cv,if_pos J,U,kb,hb]
theorem Hv{α:Type}(l:List α):pick l none none (some (-1))=l.reverse:=by
 have hb:sliceBounds none none (some (-1)) l.length=((l.length:Int)-1,-1,-1):=by
  unfold sliceBounds
  rfl
 have hr:sliceRange ((l.length:Int)-1) (-1) (-1)=(pc l.length).map λ(k:Nat)=>((l.length:Int)-1 + -1*(k:Int)).toNat:=by
  unfold sliceRange
  have hc:(if (-1:Int)>0 then (if (l.length:Int)-1 < -1 then (-1-((l.length:Int)-1) + -1-1) / -1 else 0) else (if (l.length:Int)-1 > -1 then ((l.length:Int)-1 - -1 - -1-1) / - -1 else 0)).toNat=l.length:=by
   rw[if_neg (by decide)]
   split
   ·rw[show (- -1:Int)=1 by decide,Int.ediv_one];omega
   ·omega
  dsimp only
  rw[hc]
 unfold pick
 rw[hb]
 dsimp only
 rw[hr]
 have key:∀m,m<=l.length->((pc m).map λ(k:Nat)=>((l.length:Int)-1 + -1*(k:Int)).toNat).filterMap (l[·]?)=(l.reverse).take m:=by
  intro m
  induction m with
  | zero=>intro _;rfl
  | succ m J=>
   intro hm
   rw[QN,wp,List.filterMap_append,J (by omega),List.take_succ,List.getElem?_reverse (by omega)]
   congr 1
   rw[List.map_singleton,show ((l.length:Int)-1 + -1*(m:Int)).toNat=l.length-1-m by omega,na (by omega)]
   simp[na (show l.length-1-m<l.length by omega)]
 rw[key l.length (qh _),Pq (by simp)]
abbrev sg(z:Str):List Nat:=z.cps.toList
theorem xg(z:Str):(sg z).length=z.length:=by unfold Str.length;simp
theorem uj{a b:Str}(h:sg a=sg b):a=b:=Str.ext' (Rl.mp h)
theorem BE(a b:Str):sg (a++b)=sg a++sg b:=by
 show ((a++b:Str).cps).toList=_
 rw[Str.cps_append];simp
theorem Bl{z:Str}{lo hi:Option Int}(U:a<=b)(hb:b<=z.length)(h:Builtin.Str.strSliceIndices lo hi 1 z.length=(pc (b-a)).map (λk=>a+k)):sg (k9 z lo hi)=((sg z).drop a).take (b-a):=by
 have key:(((pc (b-a)).map (λk=>a+k)).filterMap (λi=>(sg z)[i]?))=((sg z).drop a).take (b-a):=StrLaws.picks (sg z) (b-a) a (by rw[xg];omega)
 unfold k9
 rw[h]
 split
 ·rename_i J
  have J:b-a=z.length:=by simpa using J
  have ha:a=0:=by omega
  subst ha
  rw[RE,Pq (by rw[xg];omega)]
 ·rw[<- key]
  simp[sg]
theorem Nf(h:b<=n):Builtin.Str.strSliceIndices none (some (b:Int)) 1 n=(pc (b-0)).map (λk=>0+k):=by
 rw[<- StrLaws.strSliceIndices_plain (Bs b) h]
 unfold Builtin.Str.strSliceIndices
 simp
 rw[show max (0:Int) (min 0 (n:Int))=0 by omega]
theorem Ng(h:a<=n):Builtin.Str.strSliceIndices (some (a:Int)) none 1 n=(pc (n-a)).map (λk=>a+k):=by
 rw[<- StrLaws.strSliceIndices_plain h (qh n)]
 unfold Builtin.Str.strSliceIndices
 simp
 rw[if_neg (show ¬(n:Int)<0 by omega),show max (0:Int) (min (n:Int) (n:Int))=(n:Int) by omega]
theorem KJ{z:Str}(h:b<=z.length):sg (k9 z none (some (b:Int)))=(sg z).take b:=by
 rw[Bl (Bs b) h (Nf h),RE,Nat.sub_zero]
theorem Lg{z:Str}(h:a<=z.length):sg (k9 z (some (a:Int)) none)=(sg z).drop a:=by
 rw[Bl h (qh _) (Ng h),Pq]
 rw[QF,xg];omega
section
variable {s s1 s2 : S} {R R' : List (Option D)} {O O' : ay} {d x y : D} {xs ys : List D}
theorem aO{f:Op2}{ma J:EM}(ha:ma s=.ok (x,s1))(hb:J s1=.ok (y,s2))(U:f s2.o x y=.ok d):ao f ma J s=.ok (d,s2):=by
 rw[dH,ha,aj];dsimp only;rw[hb,aj];dsimp only;rw[U,aj]
theorem Bd{f:Op1}{ma:EM}(ha:ma s=.ok (x,s1))(J:f s1.o x=.ok d):unM f ma s=.ok (d,s1):=by
 rw[Mj,ha,aj];dsimp only;rw[J,aj]
theorem fG{f:OpN}(ha:ma s=.ok (xs,s1))(J:f s1.o xs=.ok d):bo f ma s=.ok (d,s1):=by
 rw[iV,ha,aj];dsimp only;rw[J,aj]
theorem aE{r:AM}(ha:m s=.ok (x,s1))(hb:r s1=.ok (ys,s2)):ae m r s=.ok (x::ys,s2):=by
 rw[aV,ha,aj];dsimp only;rw[hb,aj]
theorem qY(ha:ma s=.ok (xs,s1))(J:xs.length<=16777216):k5 ma s=.ok (.tup xs,s1):=by
 rw[yH,ha,aj];dsimp only;rw[if_pos J]
theorem rn(ha:ma s=.ok (xs,s1))(J:xs.length<=16777216):g6 ma s=.ok (.lst xs,s1):=by
 rw[D9,ha,aj];dsimp only;rw[if_pos J]
theorem qm(ha:ma s=.ok (xs,⟨R,O⟩))(J:xs.length<=16777216)(hn:O.length=n)(U:O++[.lst xs]=O'):iZ ma s=.ok (.ptr n,⟨R,O'⟩):=by
 rw[KD,ha,aj];dsimp only;rw[if_pos J,hn,U]
theorem fM{b:Bool}(h:m s=.ok (.bl b,s1)):bg m s=.ok (b,s1):=by
 rw[hE,h,aj]
theorem Nq{m:TM}{b:Bool}(h:m s=.ok (b,s1)):qB m s=.ok (!b,s1):=by
 rw[qj,h,aj]
theorem Nk{a b:TM}{p q:Bool}(h:a s=.ok (p,s1))(hp:p=false)(h2:b s1=.ok (q,s2)):orT a b s=.ok (q,s2):=by
 subst hp;rw[um,h,aj];exact h2
theorem bK{i:Nat}(h:m s=.ok (d,⟨R,O⟩))(J:R.set i (some d)=R'):setM i m s=.next ⟨R',O⟩:=by
 subst J;exact d0 h
theorem lX(h1:mo s=.ok (.ptr k,s1))(J:s1.o[k]? =some (.lst ds0))(h2:me s1=.ok (d,⟨R,O⟩))(U:O[k]? =some (.lst ds))(hb:ds.length<=1000000)(Y:O.set k (.lst (ds++[d]))=O'):gr mo me s=.ok (.non,⟨R,O'⟩):=by
 subst Y;exact uT (s2:=⟨R,O⟩) h1 J h2 U hb
theorem ny(h:m s=.ok (.ptr k,⟨R,O⟩))(c:O[k]? =some (.lst ds))(J:O.set k .dead=O'):hU m s=.ok (.lst ds,⟨R,O'⟩):=by
 subst J;exact Ei h c
theorem Kw(h:m s=.ok (x,⟨R,O⟩))(hs:uW O x=some ds)(hn:O.length=n)(J:O++[.lst ds]=O'):AR m s=.ok (.ptr n,⟨R,O'⟩):=by
 rw[Je,h,aj];dsimp only;rw[hs];dsimp only;rw[hn,J]
theorem Nn{f:Str}{ns:List Str}(h:m s=.ok (.obj c ns ds,s1))(hd:pF f ns ds=some d):oo c f m s=.ok (d,s1):=by
 rw[DO,h,aj]
 dsimp only
 rw[if_pos rfl,hd]
theorem nR{m:Str}{f:FM}{ns:List Str}{ds args:List D}(J:mo s=.ok (.obj c ns ds,s1))(ha:ma s1=.ok (args,s2))(U:f (.obj c ns ds::args) []=.ok (x,O1))(hm:m∉ns)(hd:aQ ds=true)(hp:aQ args=true)(Y:args.length=n)(hr:cU x=true):
 methP c m n f mo ma s=.ok (x,s2):=C1 J hm hd ha hp Y U hr
theorem fB{f:FM}(h:ma s=.ok (ds,s1))(J:f ds []=.ok (d,O1))(hp:aQ ds=true)(U:ds.length=n)(hd:cU d=true):aN n f ma s=.ok (d,s1):=cx h hp U J hd
theorem g7{f:FM}(h:ma s=.ok (ds,⟨R,O⟩))(J:f ds []=.ok (x,O1))(hp:aQ ds=true)(U:ds.length=n)(hx:shD O.length x=y)(Y:O++O1.map (shC O.length)=O'):dU n f ma s=.ok (y,⟨R,O'⟩):=by
 subst hx;subst Y;exact Jo h hp U J
theorem DM{f:FM}{ds rs:List D}(h:ma s=.ok (ds,s1))(hr:bZ s1.o (bZ s1.o ds)=rs)(J:f rs []=.ok (d,O1))(hp:aQ rs=true)(U:ds.length=n)(hd:nk d=true):kc n f ma s=.ok (d,s1):=by
 unfold kc
 rw[h,aj]
 dsimp only
 rw[hr,if_pos ⟨hp,U⟩,J]
 dsimp only
 rw[if_pos hd]
theorem qp{f:FM}(h:ma s=.ok (ds,⟨R,O⟩))(J:f ds O=.ok (d,O1))(U:ds.length=n):gU n f ma s=.ok (d,⟨R,O1⟩):=wt h U J
theorem Nr{c:TM}{p:Bool}(h:c s=.ok (p,s1))(hp:p=true):ifS c A B s=A s1:=by subst hp;exact u7 h
theorem Nc{c:TM}{p:Bool}(h:c s=.ok (p,s1))(hp:p=false):ifS c A B s=B s1:=by subst hp;exact ki h
theorem rW(s:S):gc s=.ok (none,s):=rfl
theorem C6(h:m s=.ok (.int i,s1)):part m s=.ok (some i,s1):=by rw[yV,h,aj]
theorem Nj(h:m s=.ok (d,s1))(J:g d s1=.ok s2):lb m g s=.next s2:=by
 rw[yt,h,aj];dsimp only;rw[J,kb]
theorem Kb{i:Nat}(J:R.set i (some d)=R'):ax i d ⟨R,O⟩=.ok ⟨R',O⟩:=by subst J;rfl
end
section
variable {s s1 : S} {o : Out}
theorem aY{a b:SM}(h:a s=.next s1)(k:b s1=o):aM a b s=o:=(bL h).trans k
theorem k8{c:TM}{p:Bool}(h:c s=.ok (p,s1))(hp:p=true)(k:A s1=o):ifS c A B s=o:=(Nr h hp).trans k
theorem gT{c:TM}{p:Bool}(h:c s=.ok (p,s1))(hp:p=false)(k:B s1=o):ifS c A B s=o:=(Nc h hp).trans k
theorem eV{m:SM}{R:List (Option D)}(h:m ⟨ds.map some++pr (n-ds.length) none,O⟩=.ret d ⟨R,O1⟩):runM n m ds O=.ok (d,O1):=cS h
end
section
variable {s s1 s2 : S} {c : Nat} {a : D} {o : Out}
end
theorem K3{f:FM}{s:S}{R:List (Option D)}{O O1 O':ay}{x y:D}{ds rs:List D}(h:ma s=.ok (ds,⟨R,O⟩))(hr:bZ O (bZ O ds)=rs)(U:f rs []=.ok (x,O1))(hp:aQ rs=true)(Y:ds.length=n)(hd:uJ x=true)(J:O1.all AI=true)(hx:shD O.length x=y)(hO:O++O1.map (shC O.length)=O'):xW n f ma s=.ok (y,⟨R,O'⟩):=by
 subst hx;subst hO
 unfold xW
 rw[h,aj]
 dsimp only
 rw[hr,if_pos ⟨hp,Y⟩,U]
 dsimp only
 rw[if_pos ⟨hd,J⟩]
abbrev bx(L:List (Nat×List Int)):List D:=L.map λp=>.ptr p.1
def Sto(O:ay)(L:List (Nat×List Int)):Prop:=∀p∈L,O[p.1]? =some (.lst (p.2.map D.int))
theorem Sto.app(h:Sto O L)(E:ay):Sto (O++E) L:=λp hp=>eC (h p hp)
theorem Sto.set{O:ay}{L:List (Nat×List Int)}(h:Sto O L){k:Nat}(hk:∀p∈L,p.1≠k)(c:Cell):Sto (O.set k c) L:=λp hp=>by rw[cN λz=>hk p hp z.symm];exact h p hp
theorem Sto.lt(h:Sto O L)(hp:p∈L):p.1<O.length:=my (h p hp)
theorem xo{α:Type}{ok:ay->Prop}{e:EM}{cap:List (Option D)}{item:α->D}{f:α->List Int}{T:α->Nat->Prop}(I:ay->Prop)(hI:∀O E,I O->I (O++E))(U:∀O,I O->ok O):
 ∀(l:List α) (J:List D) (x:Option D) (O:ay),I O->J.length+l.length<=16777216->
 (∀a∈l,∀O,I O->∃q E,e ⟨some (item a)::cap,O⟩=.ok (.ptr q,⟨some (item a)::cap,O++E⟩)/\(O++E)[q]? =some (.lst ((f a).map D.int))/\(T a q\/O.length<=q))->
 ∃(L:List (Nat×List Int)) (E:ay) (Y:Option D),dv ok (ax 0) bF e (l.map item) J ⟨x::cap,O⟩=.ok (J++bx L,⟨Y::cap,O++E⟩)/\L.map (·.2)=l.map f/\Sto (O++E) L/\∀p∈L,(∃a∈l,T a p.1)\/O.length<=p.1
 | [],J,x,O,h,_,_=>⟨[],[],x,by rw[IR,dv,if_pos (U _ h)];simp,rfl,(λp hp=>by cases hp),(λp hp=>by cases hp)⟩
 | a::l,J,x,O,h,hl,he=>by
  obtain⟨q,E,e1,e2,e3⟩:=he a pi O h
  rw[tz] at hl
  obtain⟨L,E',Y,e4,e5,e6,e7⟩:=xo (T:=T) I hI U l (J++[.ptr q]) (some (item a)) (O++E) (hI O E h) (by simp;omega) (λa ha=>he a (ol _ ha))
  refine⟨(q,f a)::L,E++E',Y, ?_,by simp[e5],λp hp=> ?_,λp hp=> ?_⟩
  ·rw[sH,dv,if_pos ⟨U _ h,by omega⟩,CD,aj,HI,aj]
   dsimp only
   rw[if_pos rfl,show (⟨List.set (x::cap) 0 (some (item a)),O⟩:S)=⟨some (item a)::cap,O⟩ from rfl,e1,aj]
   dsimp only
   rw[e4]
   simp
  ·rw[<- Ix]
   rcases sn.mp hp with rfl | hp
   ·exact eC e2
   ·exact e6 p hp
  ·rcases sn.mp hp with rfl | hp
   ·rcases e3 with e3 | e3
    ·exact .inl ⟨a,pi,e3⟩
    ·exact .inr e3
   ·rcases e7 p hp with⟨b,hb,z⟩ | z
    ·exact .inl ⟨b,ol _ hb,z⟩
    ·exact .inr (by rw[u8] at z;omega)
section
variable {α β : Type} (f g : α → β)
end
section
variable {n : Nat} {R : List (List Int)} {dem : List Int}
def d4(R:List (List Int))(n:Nat)(dem:List Int):List (List Int):=(bc R n).map λs=>s++[aB s dem]
theorem Fe(J:∀r∈R,r.length=n):∀r∈d4 R n dem,r.length=n+1:=by
 intro r hr
 unfold d4 at hr
 obtain⟨s,hs,rfl⟩:=li.mp hr
 rw[u8,gA J s hs]
 rfl
theorem rE(hs:s.length=n)(d:Int)(x:Nat->Int):aZ (n+1) (nth (s++[d])) x=aZ n (nth s) x+d*x n:=by
 unfold aZ
 show bf n (λi=>nth (s++[d]) i*x i)+nth (s++[d]) n*x n=_
 rw[bG (g:=λi=>nth s i*x i) λi hi=>by rw[Ah (by omega)],show nth (s++[d]) n=d by rw[<- hs];exact zH]
theorem Hc(J:∀r∈R,r.length=n)(hs:s∈bc R n):eI n R (nth s):=λr hr=>by
 obtain⟨P,_,_,h1,_⟩:=gI J
 rw[fI,bH]
 exact h1 r hr s hs
theorem Ha(hR:∀r∈R,r.length=n)(hd:dem.length=n)(hF:∀y,Fit n R y->aZ n (nth dem) (nth y)<=0):∃z,Fit (n+1) (d4 R n dem) z/\0<nth z n:=by
 have J:∀i,nth (dem.map (- ·)) i= - nth dem i:=λi=>g9 (f:=(- ·)) (by decide) dem i
 obtain⟨k,k0,T,tl,ht⟩:=LW hR (c:=dem.map (- ·)) (by rw[nW];exact hd) (λy hy=>by
  have h1:=hF y hy
  have h2:=kq (n:=n) (g:=1) (c:=nth (dem.map (- ·))) (a:=nth dem) (b:=nth dem) (u:= -1) (v:=0) (λi _=>by rw[J];omega) (nth y)
  omega)
 have zl:((pc n).map λi=> -cz T R i-k*nth dem i).length=n:=by simp
 have za:∀i,i<n->nth (((pc n).map λi=> -cz T R i-k*nth dem i)++[k]) i= -cz T R i-k*nth dem i:=λi hi=>by
  rw[Ah (by rw[zl];exact hi)]
  unfold nth
  rw[kt,sI,Pp hi]
  rfl
 have Y:nth (((pc n).map λi=> -cz T R i-k*nth dem i)++[k]) n=k:=by
  have:=zH (x:=(pc n).map λi=> -cz T R i-k*nth dem i) (b:=k)
  rw[zl] at this
  exact this
 have U:(((pc n).map λi=> -cz T R i-k*nth dem i)++[k]).length=n+1:=by rw[u8,zl];rfl
 generalize ((pc n).map λi=> -cz T R i-k*nth dem i)++[k]=z at za Y U
 refine⟨z,⟨U,λi=> ?_,λr hr=> ?_,⟨n,by rw[Y];omega⟩⟩,by rw[Y];exact k0⟩
 ·rcases Nat.lt_trichotomy i n with h | h | h
  ·rw[za i h]
   have:=ht i h
   rw[J,Int.mul_neg] at this
   omega
  ·rw[h,Y];omega
  ·rw[fX (by omega)];decide
 ·unfold d4 at hr
  obtain⟨s,hs,rfl⟩:=li.mp hr
  have sl:=gA hR s hs
  rw[rE sl,Y,jf hd]
  have e:=kq (n:=n) (g:=1) (c:=nth z) (a:=cz T R) (b:=nth dem) (u:= -1) (v:= -k) (λi hi=>by rw[za i hi];grind) (nth s)
  have o:=gX.dot (n:=n) (R:=R) (x:=cz T R) (y:=nth s) ⟨1,by decide,T,tl,λi _=>by omega⟩ (Hc hR hs)
  rw[o,bH n (nth z),bH n (nth dem)] at e
  grind
theorem Fd(J:∀r∈R,r.length=n)(hd:dem.length=n)(U:∀y,Fit n R y->aZ n (nth dem) (nth y)<=0):∃l,cJ (n+1) (d4 R n dem) l/\0<nth l n:=by
 obtain⟨z,Y,z0⟩:=Ha J hd U
 false_or_by_contra
 rename_i h
 have:=Bt (n:=n+1) (R:=d4 R n dem) (c:=pr n 0++[-1]) (λl hl=>by
  rw[rE (by simp)]
  have e:aZ n (nth (pr n 0)) (nth l)=0:=by
   unfold aZ
   refine eD λi hi=> ?_
   have:nth (pr n (0:Int)) i=0:=by
    unfold nth
    rw[kt,wE,if_pos hi]
    rfl
   rw[this,Qv]
  have h1:¬0<nth l n:=λq=>h ⟨l,hl,q⟩
  omega) Y
 rw[rE (by simp)] at this
 have e:aZ n (nth (pr n 0)) (nth z)=0:=by
  unfold aZ
  refine eD λi hi=> ?_
  have:nth (pr n (0:Int)) i=0:=by
   unfold nth
   rw[kt,wE,if_pos hi]
   rfl
  rw[this,Qv]
 omega
def jU(l dem:List Int)(t:Int):List Int:=(l.zip dem).map λp=>p.1+t*p.2
theorem wH(J:l.length=n+1)(hd:dem.length=n)(t:Int):(jU l dem t).length=n/\∀i,i<n->nth (jU l dem t) i=nth l i+t*nth dem i:=by
 refine⟨by unfold jU;rw[nW,PV];omega,λi hi=> ?_⟩
 unfold jU nth
 simp[kt,na (show i<l.length by omega),na (show i<dem.length by omega),na (show i<(l.zip dem).length by rw[PV];omega)]
theorem Gy(J:∀r∈R,r.length=n)(hd:dem.length=n)(f:Fit (n+1) (d4 R n dem) l):gX n R (nth (jU l dem (nth l n))):=by
 obtain⟨gl,U⟩:=wH f.len hd (nth l n)
 refine(ng J _).mp λs hs=> ?_
 have sl:=gA J s hs
 have h:=f.st (s++[aB s dem]) (by unfold d4;exact li.mpr ⟨s,hs,rfl⟩)
 rw[rE sl,jf hd] at h
 have e:=kq (n:=n) (g:=1) (c:=nth (jU l dem (nth l n))) (a:=nth l) (b:=nth dem) (u:=1) (v:=nth l n) (λi hi=>by rw[U i hi];grind) (nth s)
 rw[fI,bH]
 rw[bH n (nth l),bH n (nth dem)] at e
 grind
theorem EL(J:∀r∈R,r.length=n)(hd:dem.length=n)(f:Fit (n+1) (d4 R n dem) l):∃b ts,jN R (jU l dem (nth l n))=some (b,ts)/\0<b/\ts.length=R.length/\∀i,i<n->b*nth l n*nth dem i<=cz ts R i:=by
 obtain⟨gl,U⟩:=wH f.len hd (nth l n)
 obtain⟨b,ts,e⟩:=Bc gl (Gy J hd f)
 obtain⟨b0,tl,h⟩:=GC gl e
 refine⟨b,ts,e,b0,tl,λi hi=> ?_⟩
 rw[<- h i hi,U i hi]
 have:=Fh (RO b0) (f.nn i)
 grind
end
end M
namespace Lk32
open PySem PySem.Spec PyProof.Rows L2 M
noncomputable section
variable {fd : FuncData} {s s1 : S} {i n k c sp g a b : Nat} {z f : Str} {O : ay} {d : D} {wd : List Nat} {ds : List D} {goods zs : List Str} {l : List (Str × Int)} {ws : List Wk} {fi : Int} {me : EM} {R : List (Option D)} {A W rows : List (List Int)} {way row : List Int} {L Q : List (Nat × List Int)} {im : IM}
def top(i:Nat):Stmt:=PySem.Challenge.pw_modeyard_k32_idle_works.main.body.getD i (.Pass ⟨0,0,0,0⟩)
abbrev sj:Stmt:=top 9
abbrev kC:Stmt:=top 10
abbrev ui:Stmt:=top 11
abbrev vV:Stmt:=top 12
abbrev vo:Stmt:=top 12
abbrev jZ:Stmt:=top 14
abbrev B1:Stmt:=top 15
abbrev zy:Stmt:=top 15
abbrev yw:Stmt:=top 16
abbrev xE:Stmt:=top 16
abbrev wO:Stmt:=top 17
abbrev vJ:Stmt:=top 17
abbrev wa:Stmt:=top 18
abbrev jn:Stmt:=top 19
abbrev jY:Stmt:=top 20
abbrev ur:Stmt:=top 21
abbrev yC:Stmt:=top 22
abbrev i4:Stmt:=top 23
abbrev yZ:Stmt:=top 24
abbrev sP:Stmt:=top 25
abbrev pI:Stmt:=top 27
abbrev rL:Stmt:=top 28
abbrev kE:Stmt:=top 29
abbrev jw:Stmt:=top 30
abbrev CU:Stmt:=top 31
abbrev jQ:Stmt:=inClass (top 55) 5
abbrev iT:Stmt:=inClass (top 55) 6
abbrev hZ:Stmt:=inClass (top 55) 3
abbrev Bm:Stmt:=top 33
abbrev qH:Stmt:=top 35
abbrev oC:Stmt:=top 36
abbrev lF:Stmt:=top 37
abbrev CS:Stmt:=top 38
abbrev CN:Stmt:=top 39
abbrev ub:Stmt:=top 44
abbrev oy:Stmt:=top 45
abbrev nU:Stmt:=top 46
abbrev mY:Stmt:=top 47
abbrev oE:Stmt:=top 48
abbrev lJ:Stmt:=top 49
abbrev mV:Stmt:=top 50
abbrev mT:Stmt:=top 51
abbrev pB:Stmt:=top 52
abbrev pU:Stmt:=top 53
abbrev qd:Stmt:=top 54
abbrev iO:Stmt:=inClass (top 55) 0
abbrev qw:Stmt:=top 57
abbrev rZ:Stmt:=top 58
abbrev pZ:Stmt:=top 59
abbrev rf:Stmt:=top 60
abbrev p8:Stmt:=top 61
abbrev pL:Stmt:=top 62
abbrev nE:Stmt:=top 63
def caK(K:lm):Nat->Addr:=λn=>match n with
 | 0=>clsAt K "Yard"
 | _=>0
def xw:SM:=
 (bJ (Ib (unM (lN "int") (aa 0)) (HF (unM (lN "bool") (aa 0)))))
def k7:FM:=runM 1 xw
def tO:SM:=
 (aM (setM 2 (ao gO (aa 0) (aa 1)))
 (aM (setM 0 (aa 1))
 (setM 1 (aa 2))))
def wV:SM:=
 (aM (setM 0 (bo vX (ae (aa 0) ak)))
 (aM (setM 1 (bo vX (ae (aa 1) ak)))
 (aM (xv (λs=>yU 1 s) (bg (ao neD (aa 1) (aq (.int 0))))
 tO)
 (bJ (aa 0)))))
def iA:FM:=runM 3 wV
def mr:SM:=
 (setM 1 (aN 2 iA (ae (aa 1) (ae (aa 2) ak))))
def oV:SM:=
 (aM (setM 1 (aq (.int 0)))
 (aM (fv (listI (aa 0)) (ax 2)
 mr)
 (bJ (aa 1))))
def jj:FM:=runM 3 oV
def om:SM:=
 (aM (setM 1 (aN 1 jj (ae (aa 0) ak)))
 (aM (ifS (bg (ao eqD (aa 1) (aq (.int 0))))
 (bJ (AR (aa 0)))
 cF)
 (bJ (kh 1 [1] (listI (aa 0)) (ax 0) bF (ao gj (aa 0) (aa 1))))))
def qS:FM:=runM 2 om
def pE:SM:=
 (aM (setM 1 (aN 1 jj (ae (aa 0) ak)))
 (aM (ifS (bg (ao eqD (aa 1) (aq (.int 0))))
 (bJ (bo kj (ae (aa 0) ak)))
 cF)
 (bJ (bD 1 [1] (listI (aa 0)) (ax 0) bF (ao gj (aa 0) (aa 1))))))
def gK:FM:=runM 2 pE
def j2:SM:=
 (bJ (bo tm (ae (bD 2 [] (pA (ae (aa 0) (ae (aa 1) ak))) (cV (aX (ax 0) (aX (ax 1) cZ)) 2) bF (ao dM (aa 0) (aa 1))) ak)))
def bV:FM:=runM 2 j2
def By:SM:=
 (aM (setM 2 (yp pR (ae (aq (.int 0)) ak) (aa 1)))
 (aM (lb (aq (.int 1)) (vY (aa 2) (aa 0)))
 (bJ (aa 2))))
def ug:FM:=runM 3 By
def tZ:SM:=
 (aM (setM 2 (yp pR (ae (aq (.int 0)) ak) (aa 1)))
 (aM (lb (aq (.int 1)) (vY (aa 2) (aa 0)))
 (bJ (hU (aa 2)))))
def jy:FM:=runM 3 tZ
def yj:SM:=
 (bJ (bD 1 [0] (dA (ae (aa 0) ak)) (ax 0) bF (dU 2 ug (ae (aa 0) (ae (aa 1) ak)))))
def uI:FM:=runM 1 yj
def qz:SM:=
 (bJ (bD 1 [0] (dA (ae (aa 0) ak)) (ax 0) bF (aN 2 jy (ae (aa 0) (ae (aa 1) ak)))))
def lj:FM:=runM 1 qz
def vW:SM:=
 (aM (setM 4 (bD 2 [1,3] (pA (ae (aa 0) (ae (aa 2) ak))) (cV (aX (ax 0) (aX (ax 1) cZ)) 2) bF (ao iB (ao dM (aa 0) (aa 3)) (ao dM (aa 1) (aa 2)))))
 (bJ (dU 1 qS (ae (aa 4) ak))))
def nX:FM:=runM 5 vW
def pM:SM:=
 (aM (setM 4 (bD 2 [1,3] (pA (ae (aa 0) (ae (aa 2) ak))) (cV (aX (ax 0) (aX (ax 1) cZ)) 2) bF (ao iB (ao dM (aa 0) (aa 3)) (ao dM (aa 1) (aa 2)))))
 (bJ (aN 1 gK (ae (aa 4) ak))))
def fW:FM:=runM 5 pM
def wb:SM:=
 (bJ (bD 1 [1] (listI (aa 0)) (ax 0) bF (ao ixD (aa 0) (aa 1))))
def iC:FM:=runM 2 wb
def cC:SM:=
 (ifS (bg (ao neD (aa 2) (aq (.int 0))))
 (bJ (aa 1))
 cF)
def fL:SM:=
 (aM (fv (cP (ae (aa 0) ak)) (cV (aX (ax 1) (aX (ax 2) cZ)) 2)
 cC)
 (bJ (aq .non)))
def dD:FM:=runM 3 fL
def j1:SM:=
 (aM (ifS (bg (ao gtD (ao ixD (aa 0) (aa 1)) (aq (.int 0))))
 (bJ (aa 0))
 cF)
 (bJ (bD 1 [] (listI (aa 0)) (ax 0) bF (unM ir (aa 0)))))
def fS:FM:=runM 2 j1
def tf:SM:=
 (aM (ifS (bg (ao eqD (ao ixD (aa 0) (aa 2)) (aq (.int 0))))
 (bJ (aa 0))
 cF)
 (bJ (aN 4 fW (ae (aa 0) (ae (ao ixD (aa 0) (aa 2)) (ae (aa 1) (ae (ao ixD (aa 1) (aa 2)) ak)))))))
def gE:FM:=runM 3 tf
def jF:SM:=
 (aM (setM 5 (aN 1 dD (ae (gU 2 iC (ae (aa 2) (ae (aa 4) ak))) ak)))
 (ifS (bg (ao mJ (aa 5) (aq .non)))
 (aM (setM 6 (aN 2 fS (ae (Cv (aa 2) (aa 5)) (ae (aa 4) ak))))
 (aM (setM 2 (kh 1 [4,6] (listI (aa 2)) (ax 0) bF (aN 3 gE (ae (aa 0) (ae (aa 2) (ae (aa 1) ak))))))
 (aM (setM 3 (kh 1 [4,6] (listI (aa 3)) (ax 0) bF (aN 3 gE (ae (aa 0) (ae (aa 2) (ae (aa 1) ak))))))
 (dk (gr (aa 3) (aa 6))))))
 cF))
def yb:SM:=
 (aM (setM 2 (kh 1 [] (listI (aa 0)) (ax 0) bF (aN 1 gK (ae (aa 0) ak))))
 (aM (setM 3 (iZ ak))
 (aM (fv (dA (ae (aa 1) ak)) (ax 4)
 jF)
 (bJ (hU (aa 3))))))
def uV:FM:=runM 7 yb
def iX:SM:=
 (aM (setM 2 (bD 1 [1] (listI (aa 0)) (ax 0) bF (aN 2 bV (ae (aa 1) (ae (aa 0) ak)))))
 (aM (setM 3 (aN 1 dD (ae (aa 2) ak)))
 (aM (ifS (bg (ao isD (aa 3) (aq .non)))
 (bJ (aa 0))
 cF)
 (aM (setM 4 (ao ixD (aa 0) (aa 3)))
 (aM (setM 5 (ao ixD (aa 2) (aa 3)))
 (bJ (bD 2 [4,5,3,2] (cP (ae (aa 0) ak)) (cV (aX (ax 0) (aX (ax 1) cZ)) 2) (bg (ao neD (aa 0) (aa 4))) (aN 4 fW (ae (aa 1) (ae (ao ixD (aa 5) (aa 0)) (ae (aa 2) (ae (aa 3) ak))))))))))))
def fA:FM:=runM 6 iX
def pb:SM:=
 (setM 2 (aN 2 fA (ae (aa 2) (ae (aa 3) ak))))
def yW:SM:=
 (aM (setM 2 (aN 1 lj (ae (aa 1) ak)))
 (aM (fv (listI (aa 0)) (ax 3)
 pb)
 (bJ (aN 2 uV (ae (aa 2) (ae (aa 1) ak))))))
def iN:FM:=runM 4 yW
def uv:SM:=
 (aM (setM 2 (bD 1 [1,0] (dA (ae (bo cf (ae (aa 1) ak)) ak)) (ax 0) bF (gU 2 iC (ae (ao br (g6 (ae (aa 1) ak)) (aa 2)) (ae (aa 0) ak)))))
 (aM (setM 3 (aN 2 iN (ae (aa 2) (ae (ao br (aq (.int 1)) (bo cf (ae (aa 0) ak))) ak))))
 (aM (ifS (orT (qB (B5 (aa 3))) (bg (ao eqD (ao ixD (ao ixD (aa 3) (aq (.int 0))) (aq (.int 0))) (aq (.int 0)))))
 (bJ (aq .non))
 cF)
 (bJ (k5 (ae (ao ixD (ao ixD (aa 3) (aq (.int 0))) (aq (.int 0))) (ae (bD 1 [] (listI (slM (ao ixD (aa 3) (aq (.int 0))) (part (aq (.int 1))) gc)) (ax 0) bF (unM ir (aa 0))) ak)))))))
def mI:FM:=runM 4 uv
def mZ:SM:=
 (aM (setM 1 (ao dM (aa 1) (aq (.int 2))))
 (ifS (bg (ao gtD (aa 2) (aq (.int 0))))
 (setM 1 (ao br (aa 1) (aq (.int 1))))
 cF))
def p9:SM:=
 (aM (setM 1 (aq (.int 0)))
 (aM (fv (listI (aa 0)) (ax 2)
 mZ)
 (bJ (aa 1))))
def j4:FM:=runM 3 p9
def qV:SM:=
 (bJ (ao eqD (ao orD (aa 0) (aa 1)) (aa 1)))
def lE:FM:=runM 2 qV
def ko:SM:=
 (aM (setM 3 (ao orD (aa 0) (aa 1)))
 (bJ (ao eqD (bo cf (ae (bD 1 [3] (listI (aa 2)) (ax 0) (bg (aN 2 lE (ae (aa 0) (ae (aa 1) ak)))) (aa 0)) ak)) (aq (.int 2)))))
def gh:FM:=runM 4 ko
def fV:SM:=
 (ifS (bg (aN 3 gh (ae (ao ixD (aa 3) (aa 7)) (ae (ao ixD (aa 3) (aa 8)) (ae (aa 3) ak)))))
 (dk (gr (aa 4) (xW 4 nX (ae (ao ixD (aa 0) (aa 8)) (ae (ao ixD (aa 2) (aa 8)) (ae (ao ixD (aa 0) (aa 7)) (ae (ao ixD (aa 2) (aa 7)) ak)))))))
 cF)
def iy:SM:=
 (fv (listI (aa 6)) (ax 8)
 fV)
def jz:SM:=
 (aM (setM 2 (bD 1 [1] (listI (aa 0)) (ax 0) bF (kc 2 bV (ae (aa 1) (ae (aa 0) ak)))))
 (aM (setM 3 (bD 1 [] (listI (aa 0)) (ax 0) bF (kc 1 j4 (ae (aa 0) ak))))
 (aM (setM 4 (kh 2 [] (pA (ae (aa 0) (ae (aa 2) ak))) (cV (aX (ax 0) (aX (ax 1) cZ)) 2) (bg (ao eqD (aa 1) (aq (.int 0)))) (aa 0)))
 (aM (setM 5 (bD 2 [] (cP (ae (aa 2) ak)) (cV (aX (ax 0) (aX (ax 1) cZ)) 2) (bg (ao gtD (aa 1) (aq (.int 0)))) (aa 0)))
 (aM (setM 6 (bD 2 [] (cP (ae (aa 2) ak)) (cV (aX (ax 0) (aX (ax 1) cZ)) 2) (bg (ao ltD (aa 1) (aq (.int 0)))) (aa 0)))
 (aM (fv (listI (aa 5)) (ax 7)
 iy)
 (bJ (hU (aa 4)))))))))
def gC:FM:=runM 9 jz
def vS:SM:=
 (setM 2 (gU 2 gC (ae (aa 2) (ae (aa 3) ak))))
def CI:SM:=
 (aM (setM 2 (gU 1 uI (ae (aa 1) ak)))
 (aM (fv (listI (aa 0)) (ax 3)
 vS)
 (bJ (uE pR (aa 2)))))
def lC:FM:=runM 4 CI
def kS:SM:=
 (bJ (bD 1 [1] (listI (oo 0 "held_changes" (aa 0))) (ax 0) bF (ao ixD (aa 0) (aa 1))))
def lH:FM:=runM 2 kS
def gQ:SM:=
 (bJ (bD 1 [0] (dA (ae (bo cf (ae (oo 0 "held_goods" (aa 0)) ak)) ak)) (ax 0) bF (methP 0 "row" 1 lH (aa 1) (ae (aa 0) ak))))
def gM:FM:=runM 1 gQ
def dW:SM:=
 (bJ (bD 1 [] (listI (oo 0 "held_works" (aa 0))) (ax 0) bF (ao ixD (aa 0) (aq (.int 0)))))
def dw:FM:=runM 1 dW
def BH:SM:=
 (bJ (dU 2 lC (ae (methP 0 "rows" 0 gM (aa 0) ak) (ae (bo cf (ae (methP 0 "names" 0 dw (aa 0) ak) ak)) ak))))
def jA:FM:=runM 1 BH
def rQ:SM:=
 (aM (setM 2 (methP 0 "names" 0 dw (aa 0) ak))
 (aM (ifS (bg (ao qk (aa 1) (aa 2)))
 rM
 cF)
 (bJ (CO (aa 2) (aa 1)))))
def kZ:FM:=runM 3 rQ
def cY:SM:=
 (ifS (bg (ao gtD (ao ixD (aa 2) (aa 1)) (aq (.int 0))))
 (bJ (aa 2))
 cF)
def jh:SM:=
 (aM (fv (listI (aa 0)) (ax 2)
 cY)
 (bJ (aq .non)))
def dX:FM:=runM 3 jh
def kU:SM:=
 (aM (setM 2 (methP 0 "rows" 0 gM (aa 0) ak))
 (aM (setM 3 (bo cf (ae (aa 1) ak)))
 (aM (setM 4 (bD 1 [1] (listI (aN 2 iN (ae (aa 2) (ae (aa 3) ak)))) (ax 0) bF (ao br (aa 0) (g6 (ae (aN 2 bV (ae (aa 0) (ae (aa 1) ak))) ak)))))
 (aM (setM 5 (gU 2 dX (ae (hU (dU 2 lC (ae (aa 4) (ae (ao br (aa 3) (aq (.int 1))) ak)))) (ae (aa 3) ak))))
 (aM (setM 6 (tF 2 [5,3] (Bj (ae (aa 5) (ae (aa 1) ak))) (cV (aX (ax 0) (aX (ax 1) cZ)) 2) bF (ao br (aa 0) (ao dM (ao ixD (aa 2) (aa 3)) (aa 1)))))
 (aM (setM 7 (aN 2 mI (ae (aa 2) (ae (aa 6) ak))))
 (bJ (k5 (ae (ao dM (ao ixD (aa 7) (aq (.int 0))) (ao ixD (aa 5) (aa 3))) (ae (ao ixD (aa 7) (aq (.int 1))) ak))))))))))
def i9:FM:=runM 8 kU
def tK:SM:=
 (aM (setM 2 (aN 2 kZ (ae (aa 0) (ae (aa 1) ak))))
 (aM (setM 3 (gU 2 dX (ae (hU (dU 1 jA (ae (aa 0) ak))) (ae (aa 2) ak))))
 (aM (ifS (bg (ao mJ (aa 3) (aq .non)))
 (bJ (k5 (ae (aq (.str ("goes" :Str))) (ae (aa 3) ak))))
 cF)
 (aM (setM 4 (aN 2 i9 (ae (aa 0) (ae (aN 2 jy (ae (aa 2) (ae (bo cf (ae (methP 0 "names" 0 dw (aa 0) ak) ak)) ak))) ak))))
 (bJ (k5 (ae (aq (.str ("never" :Str))) (ae (ao ixD (aa 4) (aq (.int 1))) ak))))))))
def tN:FM:=runM 5 tK
def BD:SM:=
 (aM (setM 1 (hU (dU 1 jA (ae (aa 0) ak))))
 (bJ (kh 2 [1] (cP (ae (methP 0 "names" 0 dw (aa 0) ak) ak)) (cV (aX (ax 0) (aX (ax 1) cZ)) 2) (bg (ao isD (gU 2 dX (ae (aa 2) (ae (aa 0) ak))) (aq .non))) (aa 1))))
def oK:FM:=runM 2 BD
def tL:SM:=
 (aM (ifS (orT (bg (ao ltD (bo cf (ae (aa 0) ak)) (aq (.int 1)))) (bg (ao gtD (bo cf (ae (aa 0) ak)) (aq (.int 8)))))
 (bJ (aq (.bl false)))
 cF)
 (bJ (bo Cg (ae (bD 1 [] (EA (aa 0)) (ax 0) bF (lg sk sk (aq (.str ("a" :Str))) (aa 0) (aq (.str ("z" :Str))))) ak))))
def mF:FM:=runM 1 tL
def oh:SM:=
 (aM (ifS (bg (ao gtD (bo cf (ae (aa 0) ak)) (aq (.int 10))))
 rM
 cF)
 (ifS (bg (ao gtD (bo cf (ae (aa 1) ak)) (aq (.int 10))))
 rM
 cF))
def jt:FM:=runM 2 oh
def n5:SM:=
 (aM (ifS (qB (bg (aN 1 mF (ae (aa 0) ak))))
 rM
 cF)
 (ifS (bg (ao inD (aa 0) (aa 1)))
 rM
 cF))
def f6:FM:=runM 2 n5
def jb:SM:=
 (dk (aN 2 f6 (ae (aa 2) (ae (slM (aa 0) gc (part (aa 1))) ak))))
def mQ:SM:=
 (fv (cP (ae (aa 0) ak)) (cV (aX (ax 1) (aX (ax 2) cZ)) 2)
 jb)
def iL:FM:=runM 3 mQ
def oB:SM:=
 (aM (ifS (bg (ao qk (aa 0) (aa 1)))
 rM
 cF)
 (ifS (bg (ao inD (aa 0) (aa 2)))
 rM
 cF))
def jG:FM:=runM 3 oB
def lM:SM:=
 (ifS (orT (qB (bg (aN 1 k7 (ae (aa 0) ak)))) (bg (ao ltD (aa 0) (aq (.int 1)))))
 rM
 cF)
def hJ:FM:=runM 1 lM
def ja:SM:=
 (aM (dk (kc 3 jG (ae (aa 3) (ae (aa 1) (ae (aa 2) ak)))))
 (aM (dk (aN 1 hJ (ae (aa 4) ak)))
 (dk (gr (aa 2) (aa 3)))))
def mU:SM:=
 (aM (setM 2 (iZ ak))
 (fv (listI (aa 0)) (cV (aX (ax 3) (aX (ax 4) cZ)) 2)
 ja))
def ft:FM:=runM 5 mU
def i8:SM:=
 (aM (dk (kc 2 f6 (ae (aa 3) (ae (aa 2) ak))))
 (aM (dk (aN 2 ft (ae (aa 4) (ae (aa 1) ak))))
 (aM (dk (aN 2 ft (ae (aa 5) (ae (aa 1) ak))))
 (dk (gr (aa 2) (aa 3))))))
def mW:SM:=
 (aM (setM 2 (iZ ak))
 (fv (listI (aa 0)) (cV (aX (ax 3) (aX (ax 4) (aX (ax 5) cZ))) 3)
 i8))
def iF:FM:=runM 6 mW
def pS:SM:=
 (bJ (k5 (ae (ao ixD (aa 0) (aq (.int 0))) (ae (bo kj (ae (ao ixD (aa 0) (aq (.int 1))) ak)) (ae (bo kj (ae (ao ixD (aa 0) (aq (.int 2))) ak)) ak)))))
def j9:FM:=runM 1 pS
def pC:SM:=
 (bJ (bo tm (ae (bD 1 [0] (listI (aa 1)) (ax 0) (bg (ao eqD (ao ixD (aa 0) (aq (.int 0))) (aa 1))) (ao ixD (aa 0) (aq (.int 1)))) ak)))
def eW:FM:=runM 2 pC
def pG:SM:=
 (bJ (bD 1 [0] (listI (aa 1)) (ax 0) bF (ao iB (aN 2 eW (ae (aa 0) (ae (ao ixD (aa 1) (aq (.int 2))) ak))) (aN 2 eW (ae (aa 0) (ae (ao ixD (aa 1) (aq (.int 1))) ak))))))
def j8:FM:=runM 2 pG
def j6:SM:=
 (aM (dk (aN 2 jt (ae (aa 1) (ae (aa 2) ak))))
 (aM (dk (aN 1 iL (ae (aa 1) ak)))
 (aM (dk (aN 2 iF (ae (aa 2) (ae (aa 1) ak))))
 (aM (rJ 0 "held_goods" (aa 0) (bo kj (ae (aa 1) ak)))
 (aM (rJ 0 "held_works" (aa 0) (bD 1 [] (listI (aa 2)) (ax 0) bF (aN 1 j9 (ae (aa 0) ak))))
 (rJ 0 "held_changes" (aa 0) (bD 1 [1] (listI (aa 2)) (ax 0) bF (aN 2 j8 (ae (aa 0) (ae (aa 1) ak))))))))))
def iQ:FM:=runM 3 j6
def qC:SM:=
 (aM (ifS (bg (ao ltD (aa 1) (bo cf (ae (aa 0) ak))))
 (bJ (ao ixD (aa 0) (aa 1)))
 cF)
 (bJ (aq (.int 0))))
def d5:FM:=runM 2 qC
def r8:SM:=
 (aM (setM 3 (ao gO (ao dM (ao br (ao gO (aa 0) (aq (.int 2147483647))) (aq (.int 7))) (ao br (aq (.int 48271)) (ao dM (aq (.int 7919)) (aa 1)))) (aq (.int 2147483647))))
 (bJ (ao gO (ao gj (ao gO (ao dM (aa 3) (aq (.int 16807))) (aq (.int 2147483647))) (aq (.int 8))) (aa 2))))
def aR:FM:=runM 4 r8
def iG:SM:=
 (setM 3 (ao br (aa 3) (ao ixD (aa 2) (aN 3 aR (ae (aa 0) (ae (ao br (aq (.int 2)) (aa 4)) (ae (aq (.int 26)) ak)))))))
def pP:SM:=
 (aM (setM 2 (aq (.str ("abcdefghijklmnopqrstuvwxyz" :Str))))
 (aM (setM 3 (aq (.str ("" :Str))))
 (aM (fv (dA (ae (aN 3 aR (ae (aa 0) (ae (aq (.int 1)) (ae (aq (.int 8)) ak)))) ak)) (ax 4)
 iG)
 (aM (setM 5 (aN 3 aR (ae (aa 0) (ae (aq (.int 10)) (ae (ao br (bo cf (ae (aa 3) ak)) (aq (.int 1))) ak)))))
 (aM (setM 6 (aN 3 aR (ae (aa 0) (ae (aq (.int 11)) (ae (aq (.int 26)) ak)))))
 (bJ (bD 1 [6,2,5,3] (dA (ae (aa 1) ak)) (ax 0) bF (ao br (ao br (slS (aa 4) gc (part (aa 3))) (ao ixD (aa 2) (ao gO (ao br (aa 1) (ao dM (aq (.int 5)) (aa 0))) (aq (.int 26))))) (slS (aa 4) (part (aa 3)) gc)))))))))
def eX:FM:=runM 7 pP
def lD:SM:=
 (aM (setM 7 (ao iB (aN 3 aR (ae (aa 0) (ae (ao br (aq (.int 20)) (aa 6)) (ae (aq (.int 7)) ak)))) (aq (.int 3))))
 (aM (ifS (bg (aa 2))
 (setM 7 (ao iB (ao br (ao dM (aa 7) (ao gO (aa 0) (ao wW (aq (.int 10)) (aq (.int 12))))) (aN 3 aR (ae (aa 0) (ae (ao br (aq (.int 30)) (aa 6)) (ae (aq (.int 2000)) ak))))) (aq (.int 1000))))
 cF)
 (aM (ifS (pH (bg (ao eqD (ao gO (aa 0) (aq (.int 2))) (aq (.int 1)))) (bg (ao gtD (aa 4) (aq (.int 0)))))
 (aM (setM 7 (ao iB (ao gO (aa 4) (aa 5)) (ao gj (aa 5) (aq (.int 2)))))
 (setM 4 (ao gj (aa 4) (aa 5))))
 cF)
 (dk (gr (aa 3) (aa 7))))))
def sf:SM:=
 (aM (setM 3 (iZ ak))
 (aM (setM 4 (ao gj (aa 0) (aq (.int 2))))
 (aM (setM 5 (ao ixD (g6 (ae (aq (.int 7)) (ae (ao br (ao dM (aq (.int 2)) (ao wW (aq (.int 10)) (aq (.int 12)))) (aq (.int 1))) ak))) (bo intOf (ae (aa 2) ak))))
 (aM (fv (dA (ae (aa 1) ak)) (ax 6)
 lD)
 (bJ (aa 3))))))
def kX:FM:=runM 8 sf
def iJ:SM:=
 (dk (gr (aa 4) (hU (dU 3 kX (ae (ao br (aN 2 d5 (ae (aa 0) (ae (ao br (ao br (aa 1) (aq (.int 1))) (aa 6)) ak))) (ao dM (aq (.int 13)) (aa 6))) (ae (aa 2) (ae (aa 5) ak)))))))
def iI:SM:=
 (aM (setM 8 (bD 1 [3,6] (dA (ae (bo cf (ae (aa 4) ak)) ak)) (ax 0) bF (ao gO (aN 3 aR (ae (aa 1) (ae (ao br (ao br (aq (.int 50)) (ao dM (aq (.int 7)) (aa 2))) (aa 0)) (ae (aq (.int 4)) ak)))) (aq (.int 3)))))
 (aM (setM 9 (bD 1 [4,8] (dA (ae (aa 2) ak)) (ax 0) bF (bo tm (ae (bD 1 [0,1,2] (dA (ae (bo cf (ae (aa 1) ak)) ak)) (ax 0) bF (ao dM (ao ixD (aa 3) (aa 0)) (ao ixD (ao ixD (aa 2) (aa 0)) (aa 1)))) ak))))
 (aM (dk (gr (aa 4) (bD 1 [] (listI (aa 9)) (ax 0) bF (unM ir (aa 0)))))
 (dk (gr (aa 7) (ao br (aa 8) (g6 (ae (aq (.int 1)) ak))))))))
def qa:SM:=
 (aM (setM 3 (aN 2 d5 (ae (aa 0) (ae (aa 1) ak))))
 (aM (setM 4 (iZ ak))
 (aM (setM 5 (ao eqD (aN 3 aR (ae (aa 3) (ae (aq (.int 41)) (ae (aq (.int 6)) ak)))) (aq (.int 0))))
 (aM (fv (dA (ae (ao gO (aN 3 aR (ae (aa 3) (ae (aq (.int 40)) (ae (aq (.int 5)) ak)))) (ao iB (aq (.int 5)) (ao dM (aq (.int 2)) (bo intOf (ae (aa 5) ak))))) ak)) (ax 6)
 iJ)
 (aM (setM 7 (iZ ak))
 (aM (fv (dA (ae (ao gj (aN 3 aR (ae (aa 3) (ae (aq (.int 42)) (ae (aq (.int 3)) ak)))) (ao br (aq (.int 1)) (bo intOf (ae (aa 5) ak)))) ak)) (ax 6)
 iI)
 (aM (ifS (pH (bg (ao eqD (aN 3 aR (ae (aa 3) (ae (aq (.int 43)) (ae (aq (.int 5)) ak)))) (aq (.int 0)))) (bg (ao ltD (bo cf (ae (aa 4) ak)) (aq (.int 6)))))
 (aM (dk (ux (aa 4) (bD 1 [] (dA (ae (aa 2) ak)) (ax 0) bF (aq (.int 0)))))
 (setM 7 (Cc (bD 1 [] (listI (aa 7)) (ax 0) bF (ao br (g6 (ae (aq (.int 0)) ak)) (aa 0))) (g6 (ae (g6 (ae (aq (.int 1)) ak)) ak)))))
 cF)
 (aM (ifS (pH (bg (ao eqD (aN 3 aR (ae (aa 3) (ae (aq (.int 44)) (ae (aq (.int 5)) ak)))) (aq (.int 0)))) (bg (lg ltD ltD (aq (.int 0)) (bo cf (ae (aa 4) ak)) (aq (.int 6)))))
 (dk (gr (aa 4) (bo kj (ae (ao ixD (aa 4) (unM ir (aq (.int 1)))) ak))))
 cF)
 (bJ (k5 (ae (aa 4) (ae (kh 1 [4] (listI (aa 7)) (ax 0) bF (ao br (aa 0) (bD 1 [] (dA (ae (ao iB (bo cf (ae (aa 1) ak)) (bo cf (ae (aa 0) ak))) ak)) (ax 0) bF (aq (.int 0))))) ak))))))))))))
def gJ:FM:=runM 10 qa
def iM:SM:=
 (aM (setM 11 (ao dM (ao gj (aN 3 aR (ae (ao br (aa 3) (aa 5)) (ae (ao br (aq (.int 70)) (aa 9)) (ae (aq (.int 4)) ak)))) (aq (.int 3))) (ao br (aq (.int 1)) (aN 3 aR (ae (ao br (aa 3) (aa 5)) (ae (ao br (aq (.int 80)) (aa 9)) (ae (aq (.int 9)) ak)))))))
 (aM (ifS (bg (ao gtD (ao br (aa 11) (bo nA (ae (aq (.int 0)) (ae (unM ir (aa 10)) ak)))) (aq (.int 0))))
 (dk (gr (aa 7) (k5 (ae (ao ixD (aa 1) (aa 9)) (ae (ao br (aa 11) (bo nA (ae (aq (.int 0)) (ae (unM ir (aa 10)) ak)))) ak)))))
 cF)
 (ifS (bg (ao gtD (ao br (aa 11) (bo nA (ae (aq (.int 0)) (ae (aa 10) ak)))) (aq (.int 0))))
 (dk (gr (aa 8) (k5 (ae (ao ixD (aa 1) (aa 9)) (ae (ao br (aa 11) (bo nA (ae (aq (.int 0)) (ae (aa 10) ak)))) ak)))))
 cF)))
def iK:SM:=
 (aM (setM 7 (iZ ak))
 (aM (setM 8 (iZ ak))
 (aM (fv (cP (ae (aa 6) ak)) (cV (aX (ax 9) (aX (ax 10) cZ)) 2)
 iM)
 (aM (ifS (bg (ao eqD (aN 3 aR (ae (ao br (aa 3) (aa 5)) (ae (aq (.int 90)) (ae (aq (.int 2)) ak)))) (aq (.int 1))))
 (setM 7 (BC Fp (aa 7) gc gc (part (unM ir (aq (.int 1))))))
 cF)
 (dk (gr (aa 4) (k5 (ae (ao ixD (aa 2) (aa 5)) (ae (Bp (aa 7)) (ae (hU (aa 8)) ak))))))))))
def pX:SM:=
 (aM (setM 4 (iZ ak))
 (aM (fv (cP (ae (aa 0) ak)) (cV (aX (ax 5) (aX (ax 6) cZ)) 2)
 iK)
 (bJ (hU (aa 4)))))
def gP:FM:=runM 12 pX
def yo:SM:=
 (ifS (pH (bg (ao gtD (ao ixD (aa 12) (aa 11)) (aq (.int 0)))) (bg (ao inD (ao ixD (aa 7) (aa 11)) (aa 13))))
 (bJ (aq (.bl false)))
 cF)
def qt:SM:=
 (fv (dA (ae (bo cf (ae (aa 4) ak)) ak)) (ax 11)
 yo)
def uY:SM:=
 (aM (setM 2 (aN 2 d5 (ae (aa 0) (ae (aa 1) ak))))
 (aM (setM 3 (ao br (aq (.int 1)) (aN 3 aR (ae (aa 2) (ae (aq (.int 45)) (ae (aq (.int 4)) ak))))))
 (aM (lb (yT (dU 3 gJ (ae (aa 0) (ae (aa 1) (ae (aa 3) ak))))) (cV (aX (ax 4) (aX (ax 5) cZ)) 2))
 (aM (setM 6 (aN 2 eX (ae (ao br (aa 2) (aq (.int 1))) (ae (aa 3) ak))))
 (aM (setM 7 (aN 2 eX (ae (aa 2) (ae (bo cf (ae (aa 4) ak)) ak))))
 (aM (setM 8 (u6 0 2 iQ (ae (aa 6) (ae (aN 4 gP (ae (aa 4) (ae (aa 6) (ae (aa 7) (ae (aa 2) ak))))) ak))))
 (aM (setM 9 (hU (dU 1 jA (ae (aa 8) ak))))
 (aM (setM 10 (dU 1 oK (ae (aa 8) ak)))
 (aM (setM 13 (bD 1 [7,9] (dA (ae (bo cf (ae (aa 4) ak)) ak)) (ax 0) (bg (bo Cg (ae (bD 1 [0] (listI (aa 2)) (ax 0) bF (ao eqD (ao ixD (aa 0) (aa 1)) (aq (.int 0)))) ak))) (ao ixD (aa 1) (aa 0))))
 (aM (ifS (orT (qB (bg (unM (lN "list") (aa 10)))) (bg (ao neD (aa 10) (aa 13))))
 (bJ (aq (.bl false)))
 cF)
 (aM (ifS (bg (ao neD (aa 13) (bD 1 [8] (listI (aa 7)) (ax 0) (bg (ao eqD (ao ixD (dU 2 tN (ae (aa 1) (ae (aa 0) ak))) (aq (.int 0))) (aq (.str ("never" :Str))))) (aa 0))))
 (bJ (aq (.bl false)))
 cF)
 (aM (fv (listI (aa 5)) (ax 12)
 qt)
 (aM (dk (gr (aa 10) (aq (.str ("z" :Str)))))
 (ifS (bg (ao neD (hU (dU 1 oK (ae (aa 8) ak))) (aa 13)))
 (bJ (aq (.bl false)))
 cF))))))))))))))
def E5:SM:=
 (aM (fv (listI (g6 (ae (aq (.int 0)) (ae (aq (.int 5)) ak)))) (ax 1)
 uY)
 (bJ (aq (.bl true))))
def AK:FM:=runM 14 E5
section
variable {e : Ev}
theorem Dp:ba ["value"] ["value"] (aL sj):=cE
abbrev wY(e:Ev):Prop:=DIn e 35 "is_whole" ["value"] k7
theorem Dd(F:FA e "is_whole" sj)(ab:e.P.given.tree=none)(J:N0 e "isinstance")(Y:N0 e "int")(U:N0 e "bool"):wY e:=by
 exact bE F Dp rfl (by decide) (bd1 λ_ _ _ _ _ _ _=>rfl) λ_ _ _ _ _ _ _ hr hu ac=>⟨_,(aI (bh (Mw (bB vU rfl J Boot.«isinstance» (ah (pv 0) (ah (yN (v:=.ty "int") rfl Y Boot.«int» rfl) ar))) (LR (Mo (bB vU rfl J Boot.«isinstance» (ah (pv 0) (ah (yN (v:=.ty "bool") rfl U Boot.«bool» rfl) ar)))))))),
  (bj (Kt (BG ty_int (af 0)) (J9 (BG ty_bool (af 0)))))⟩
theorem fk:ba ["one","other","rest"] ["one","other"] (aL kC):=cE
abbrev oA(e:Ev):Prop:=DIn e 35 "measure_of_two" ["one","other"] iA
theorem vd(F:FA e "measure_of_two" kC)(U:e.P.given.tree=none)(J:N0 e "abs"):oA e:=by
 exact bE F fk rfl (by decide) (bd2 λ_ _ _ _ _ _ _ _=>rfl) λ_ _ _ _ _ _ _ hr hu Y=>⟨_,(aw (a0 (i:=0) fk.nd rfl (nu rfl) (bB BO rfl J Boot.«abs» (ah (pv 0) ar)))
 (aw (a0 (i:=1) fk.nd rfl (nu rfl) (bB BO rfl J Boot.«abs» (ah (pv 1) ar)))
 (aw (HA PassesOwn.never (bC (yE hu) (pv 1) aF (bY _))
 (aw (a0 (i:=2) fk.nd rfl (nu rfl) (aW ik (pv 0) (pv 1)))
 (aw (a0 (i:=0) fk.nd rfl (nu rfl) (pv 1))
 (aI (a0 (i:=1) fk.nd rfl (nu rfl) (pv 2))))))
 (aI (bh (pv 0)))))),
  (aH (aS (bt Gx (ai (af 0) au)))
 (aH (aS (bt Gx (ai (af 1) au)))
 (aH (IE (bO (av uG (af 1) (aD 0)))
 (aH (aS (av jC (af 0) (af 1)))
 (aH (aS (af 1))
 (aS (af 2)))))
 (bj (af 0)))))⟩
theorem nD:ba ["numbers","common","number"] ["numbers"] (aL ui):=cE
abbrev tH(e:Ev):Prop:=DIn e 36 "measure" ["numbers"] jj
theorem Fg(F:FA e "measure" ui)(J:e.P.given.tree=none)(U:oA e):tH e:=by
 exact bE F nD rfl (by decide) (bd1 λ_ _ _ _ _ _ _=>rfl) λ_ _ _ _ _ _ _ hr hu Y=>⟨_,(aw (a0 (i:=1) nD.nd rfl (nu rfl) aF)
 (aw (eG PassesOwn.never rfl (bX (pv 0)) (aP (i:=2) nD.nd rfl (nu rfl))
 (aI (a0 (i:=1) nD.nd rfl (nu rfl) (aK U hr (ah (pv 1) (ah (pv 2) ar))))))
 (aI (bh (pv 1))))),
  (aH (aS (aD 0))
 (aH (eE (bW (af 0)) (aJ 2)
 (aS (aU (n:=2) (f:=iA) (ai (af 1) (ai (af 2) au)))))
 (bj (af 1))))⟩
theorem zE:ba ["numbers","common"] ["numbers"] (aL vV):=cE
abbrev Ck(e:Ev):Prop:=DIn e 37 "lowest" ["numbers"] qS
theorem Gg(F:FA e "lowest" vV)(U:e.P.given.tree=none)(J:N0 e "list")(sW:tH e):Ck e:=by
 exact bE F zE rfl (by decide) (bd1 λ_ _ _ _ _ _ _=>rfl) λ_ _ _ _ _ _ _ hr hu Y=>⟨_,(aw (a0 (i:=1) zE.nd rfl (EQ rfl) (aK sW hr (ah (pv 0) ar)))
 (aw (dq (bC (kz hu) (pv 1) aF (bY _))
 (aI (bh (gy gZ rfl J Boot.«list» (ah (pv 0) ar))))
 cj)
 (aI (bh (cD (own:=["number"]) (cap:=["common"]) (caps:=[1]) rfl (scC ⟨rfl,nu rfl,rfl,trivial⟩) (bX (pv 0)) (λ_ _ _=>(aP (i:=0) (ndL ["number"] ["common"]) rfl (nu rfl))) (λ_ _ _=>bS) (λ_ _ _=>(aW (mz Y U ⟨_,_,rfl,rfl,rfl,rfl,rfl⟩) (pv 0) (pv 1)))))))),
  (aH (aS (aU (n:=1) (f:=jj) (ai (af 0) au)))
 (aH (dj (bO (av iu (af 1) (aD 0)))
 (bj (HJ (af 0)))
 ck)
 (bj (kv (m:=1) (caps:=[1]) (bW (af 0)) (aJ 0) bR (av kK (af 0) (af 1))))))⟩
theorem tS:ba ["numbers","common"] ["numbers"] (aL vo):=cE
abbrev pK(e:Ev):Prop:=DIn e 37 "lowest" ["numbers"] gK
theorem A9(F:FA e "lowest" vo)(U:e.P.given.tree=none)(J:N0 e "list")(sW:tH e):pK e:=by
 exact bE F tS rfl (by decide) (bd1 λ_ _ _ _ _ _ _=>rfl) λ_ _ _ _ _ _ _ hr hu Y=>⟨_,(aw (a0 (i:=1) tS.nd rfl (EQ rfl) (aK sW hr (ah (pv 0) ar)))
 (aw (dq (bC (kz hu) (pv 1) aF (bY _))
 (aI (bh (gy gZ rfl J Boot.«list» (ah (pv 0) ar))))
 cj)
 (aI (bh (cD (own:=["number"]) (cap:=["common"]) (caps:=[1]) rfl (scC ⟨rfl,nu rfl,rfl,trivial⟩) (bX (pv 0)) (λ_ _ _=>(aP (i:=0) (ndL ["number"] ["common"]) rfl (nu rfl))) (λ_ _ _=>bS) (λ_ _ _=>(aW (mz Y U ⟨_,_,rfl,rfl,rfl,rfl,rfl⟩) (pv 0) (pv 1)))))))),
  (aH (aS (aU (n:=1) (f:=jj) (ai (af 0) au)))
 (aH (dj (bO (av iu (af 1) (aD 0)))
 (bj (bt oQ (ai (af 0) au)))
 ck)
 (bj (bQ (m:=1) (caps:=[1]) (bW (af 0)) (aJ 0) bR (av kK (af 0) (af 1))))))⟩
theorem uh:ba ["numbers","others"] ["numbers","others"] (aL jZ):=cE
abbrev gS(e:Ev):Prop:=DIn e 35 "sum_of_products" ["numbers","others"] bV
theorem t7(F:FA e "sum_of_products" jZ)(Y:e.P.given.tree=none)(J:N0 e "zip")(U:N0 e "sum"):gS e:=by
 exact bE F uh rfl (by decide) (bd2 λ_ _ _ _ _ _ _ _=>rfl) λ_ _ _ _ _ _ _ hr hu ab=>⟨_,(aI (bh (bB (tQ rfl) rfl U Boot.«sum» (ah (cD (own:=["number","other"]) (cap:=[]) (caps:=[]) rfl (scC trivial) (sS rfl J (ah (pv 0) (ah (pv 1) ar))) (λ_ _ _=>(fQ rfl (bN (aP (i:=0) (ndL ["number","other"] []) rfl (nu rfl)) (bN (aP (i:=1) (ndL ["number","other"] []) rfl (nu rfl)) fm)))) (λ_ _ _=>bS) (λ_ _ _=>(aW fU (pv 0) (pv 1)))) ar)))),
  (bj (bt CY (ai (bQ (m:=2) (caps:=[]) (w8 (ai (af 0) (ai (af 1) au))) (fq (bM (aJ 0) (bM (aJ 1) fo))) bR (av eY (af 0) (af 1))) au)))⟩
theorem DU:ba ["at","many","told"] ["at","many"] (aL B1):=cE
abbrev Gr(e:Ev):Prop:=DIn e 35 "unit" ["at","many"] ug
theorem Li(F:FA e "unit" B1)(J:e.P.given.tree=none):Gr e:=by
 exact bE F DU rfl (by decide) (bd2 λ_ _ _ _ _ _ _ _=>rfl) λ_ _ _ _ _ _ _ hr hu U=>⟨_,(aw (a0 (i:=2) DU.nd rfl (nu rfl) (aW FW (eZ (ah aF ar)) (pv 1)))
 (aw (Bq aF (G7 (pv 2) (pv 0) set_list))
 (aI (bh (pv 2))))),
  (aH (aS (Ep (ai (aD 0) au) (af 1)))
 (aH (xI (aD 1) (FV (af 2) (af 0)))
 (bj (af 2))))⟩
theorem xD:ba ["at","many","told"] ["at","many"] (aL zy):=cE
abbrev t5(e:Ev):Prop:=DIn e 35 "unit" ["at","many"] jy
theorem E2(F:FA e "unit" zy)(J:e.P.given.tree=none):t5 e:=by
 exact bE F xD rfl (by decide) (bd2 λ_ _ _ _ _ _ _ _=>rfl) λ_ _ _ _ _ _ _ hr hu U=>⟨_,(aw (a0 (i:=2) xD.nd rfl (nu rfl) (aW FW (eZ (ah aF ar)) (pv 1)))
 (aw (Bq aF (G7 (pv 2) (pv 0) set_list))
 (aI (bh (pv 2))))),
  (aH (aS (Ep (ai (aD 0) au) (af 1)))
 (aH (xI (aD 1) (FV (af 2) (af 0)))
 (bj (jm (af 2)))))⟩
theorem Im:ba ["many"] ["many"] (aL yw):=cE
abbrev D6(e:Ev):Prop:=DIn e 36 "units" ["many"] uI
theorem Jv(F:FA e "units" yw)(U:e.P.given.tree=none)(J:N0 e "range")(Y:Gr e):D6 e:=by
 exact bE F Im rfl (by decide) (bd1 λ_ _ _ _ _ _ _=>rfl) λ_ _ _ _ _ _ _ hr hu ab=>⟨_,(aI (bh (cD (own:=["at"]) (cap:=["many"]) (caps:=[0]) rfl (scC ⟨rfl,nu rfl,rfl,trivial⟩) (dF rfl J (ah (pv 0) ar)) (λ_ _ _=>(aP (i:=0) (ndL ["at"] ["many"]) rfl (nu rfl))) (λ_ _ _=>bS) (λ_ _ _=>(aK Y hr (ah (pv 0) (ah (pv 1) ar))))))),
  (bj (bQ (m:=1) (caps:=[0]) (eS (ai (af 0) au)) (aJ 0) bR (fO (n:=2) (f:=ug) (ai (af 0) (ai (af 1) au)))))⟩
theorem DD:ba ["many"] ["many"] (aL xE):=cE
abbrev xA(e:Ev):Prop:=DIn e 36 "units" ["many"] lj
theorem Ds(F:FA e "units" xE)(U:e.P.given.tree=none)(J:N0 e "range")(Y:t5 e):xA e:=by
 exact bE F DD rfl (by decide) (bd1 λ_ _ _ _ _ _ _=>rfl) λ_ _ _ _ _ _ _ hr hu ab=>⟨_,(aI (bh (cD (own:=["at"]) (cap:=["many"]) (caps:=[0]) rfl (scC ⟨rfl,nu rfl,rfl,trivial⟩) (dF rfl J (ah (pv 0) ar)) (λ_ _ _=>(aP (i:=0) (ndL ["at"] ["many"]) rfl (nu rfl))) (λ_ _ _=>bS) (λ_ _ _=>(aK Y hr (ah (pv 0) (ah (pv 1) ar))))))),
  (bj (bQ (m:=1) (caps:=[0]) (eS (ai (af 0) au)) (aJ 0) bR (aU (n:=2) (f:=jy) (ai (af 0) (ai (af 1) au)))))⟩
theorem Ao:ba ["one","one_value","other","other_value","mixed"] ["one","one_value","other","other_value"] (aL wO):=cE
abbrev Bz(e:Ev):Prop:=DIn e 38 "offset" ["one","one_value","other","other_value"] nX
theorem G3(F:FA e "offset" wO)(U:e.P.given.tree=none)(J:N0 e "zip")(Y:Ck e):Bz e:=by
 exact bE F Ao rfl (by decide) (bd4 λ_ _ _ _ _ _ _ _ _ _=>rfl) λ_ _ _ _ _ _ _ hr hu ab=>⟨_,(aw (dI (i:=4) (own:=["number","other_number"]) (cap:=["one_value","other_value"]) (caps:=[1,3]) rfl (scC ⟨rfl,nu rfl,rfl,⟨rfl,nu rfl,rfl,trivial⟩⟩) (sS rfl J (ah (pv 0) (ah (pv 2) ar))) (λ_ _ _=>(fQ rfl (bN (aP (i:=0) (ndL ["number","other_number"] ["one_value","other_value"]) rfl (nu rfl)) (bN (aP (i:=1) (ndL ["number","other_number"] ["one_value","other_value"]) rfl (nu rfl)) fm)))) (λ_ _ _=>bS) (λ_ _ _=>(aW mM (aW fU (pv 0) (pv 3)) (aW fU (pv 1) (pv 2)))) Ao.nd rfl (nu rfl) rfl)
 (aI (bh (aK Y hr (ah (pv 4) ar))))),
  (aH (aS (bQ (m:=2) (caps:=[1,3]) (w8 (ai (af 0) (ai (af 2) au))) (fq (bM (aJ 0) (bM (aJ 1) fo))) bR (av mP (av eY (af 0) (af 3)) (av eY (af 1) (af 2)))))
 (bj (fO (n:=1) (f:=qS) (ai (af 4) au))))⟩
theorem tP:ba ["one","one_value","other","other_value","mixed"] ["one","one_value","other","other_value"] (aL vJ):=cE
abbrev qb(e:Ev):Prop:=DIn e 38 "offset" ["one","one_value","other","other_value"] fW
theorem Cf(F:FA e "offset" vJ)(U:e.P.given.tree=none)(J:N0 e "zip")(Y:pK e):qb e:=by
 exact bE F tP rfl (by decide) (bd4 λ_ _ _ _ _ _ _ _ _ _=>rfl) λ_ _ _ _ _ _ _ hr hu ab=>⟨_,(aw (dI (i:=4) (own:=["number","other_number"]) (cap:=["one_value","other_value"]) (caps:=[1,3]) rfl (scC ⟨rfl,nu rfl,rfl,⟨rfl,nu rfl,rfl,trivial⟩⟩) (sS rfl J (ah (pv 0) (ah (pv 2) ar))) (λ_ _ _=>(fQ rfl (bN (aP (i:=0) (ndL ["number","other_number"] ["one_value","other_value"]) rfl (nu rfl)) (bN (aP (i:=1) (ndL ["number","other_number"] ["one_value","other_value"]) rfl (nu rfl)) fm)))) (λ_ _ _=>bS) (λ_ _ _=>(aW mM (aW fU (pv 0) (pv 3)) (aW fU (pv 1) (pv 2)))) tP.nd rfl (nu rfl) rfl)
 (aI (bh (aK Y hr (ah (pv 4) ar))))),
  (aH (aS (bQ (m:=2) (caps:=[1,3]) (w8 (ai (af 0) (ai (af 2) au))) (fq (bM (aJ 0) (bM (aJ 1) fo))) bR (av mP (av eY (af 0) (af 3)) (av eY (af 1) (af 2)))))
 (bj (aU (n:=1) (f:=gK) (ai (af 4) au))))⟩
theorem F7:ba ["rows","at"] ["rows","at"] (aL wa):=cE
abbrev wJ(e:Ev):Prop:=DIn e 35 "column" ["rows","at"] iC
theorem G4(F:FA e "column" wa)(J:e.P.given.tree=none):wJ e:=by
 exact bE F F7 rfl (by decide) (bd2 λ_ _ _ _ _ _ _ _=>rfl) λ_ _ _ _ _ _ _ hr hu U=>⟨_,(aI (bh (cD (own:=["row"]) (cap:=["at"]) (caps:=[1]) rfl (scC ⟨rfl,nu rfl,rfl,trivial⟩) (bX (pv 0)) (λ_ _ _=>(aP (i:=0) (ndL ["row"] ["at"]) rfl (nu rfl))) (λ_ _ _=>bS) (λ_ _ _=>(bU bA (pv 0) (pv 1) (λ_ _=>rfl)))))),
  (bj (bQ (m:=1) (caps:=[1]) (bW (af 0)) (aJ 0) bR (av bT (af 0) (af 1))))⟩
theorem i5:ba ["numbers","at","number"] ["numbers"] (aL jn):=cE
abbrev jD(e:Ev):Prop:=DIn e 35 "first_not_nought" ["numbers"] dD
theorem sJ(F:FA e "first_not_nought" jn)(U:e.P.given.tree=none)(J:N0 e "enumerate"):jD e:=by
 exact bE F i5 rfl (by decide) (bd1 λ_ _ _ _ _ _ _=>rfl) λ_ _ _ _ _ _ _ hr hu Y=>⟨_,(aw (eG PassesOwn.never rfl (kG rfl J (ah (pv 0) ar)) (fQ rfl (bN (aP (i:=1) i5.nd rfl (nu rfl)) (bN (aP (i:=2) i5.nd rfl (nu rfl)) fm)))
 (aI (dq (bC (yE hu) (pv 2) aF (bY _))
 (aI (bh (pv 1)))
 cj)))
 (aI (bh oG))),
  (aH (eE (fH (ai (af 0) au)) (fq (bM (aJ 1) (bM (aJ 2) fo)))
 (dj (bO (av uG (af 2) (aD 0)))
 (bj (af 1))
 ck))
 (bj ou))⟩
theorem sO:ba ["row","at"] ["row","at"] (aL jY):=cE
abbrev m5(e:Ev):Prop:=DIn e 35 "with_sign_above" ["row","at"] fS
theorem ud(F:FA e "with_sign_above" jY)(J:e.P.given.tree=none):m5 e:=by
 exact bE F sO rfl (by decide) (bd2 λ_ _ _ _ _ _ _ _=>rfl) λ_ _ _ _ _ _ _ hr hu U=>⟨_,(aw (dq (bC lu (bU bA (pv 0) (pv 1) (λ_ _=>rfl)) aF (bY _))
 (aI (bh (pv 0)))
 cj)
 (aI (bh (cD (own:=["number"]) (cap:=[]) (caps:=[]) rfl (scC trivial) (bX (pv 0)) (λ_ _ _=>(aP (i:=0) (ndL ["number"] []) rfl (nu rfl))) (λ_ _ _=>bS) (λ_ _ _=>(rq og (pv 0))))))),
  (aH (dj (bO (av kW (av bT (af 0) (af 1)) (aD 0)))
 (bj (af 0))
 ck)
 (bj (bQ (m:=1) (caps:=[]) (bW (af 0)) (aJ 0) bR (qJ oH (af 0)))))⟩
theorem Fc:ba ["row","lead_row","at"] ["row","lead_row","at"] (aL ur):=cE
abbrev Ak(e:Ev):Prop:=DIn e 39 "cleared" ["row","lead_row","at"] gE
theorem ER(F:FA e "cleared" ur)(J:e.P.given.tree=none)(U:qb e):Ak e:=by
 exact bE F Fc rfl (by decide) (bd3 λ_ _ _ _ _ _ _ _ _=>rfl) λ_ _ _ _ _ _ _ hr hu Y=>⟨_,(aw (dq (bC (kz hu) (bU bA (pv 0) (pv 2) (λ_ _=>rfl)) aF (bY _))
 (aI (bh (pv 0)))
 cj)
 (aI (bh (aK U hr (ah (pv 0) (ah (bU bA (pv 0) (pv 2) (λ_ _=>rfl)) (ah (pv 1) (ah (bU bA (pv 1) (pv 2) (λ_ _=>rfl)) ar)))))))),
  (aH (dj (bO (av iu (av bT (af 0) (af 2)) (aD 0)))
 (bj (af 0))
 ck)
 (bj (aU (n:=4) (f:=fW) (ai (af 0) (ai (av bT (af 0) (af 2)) (ai (af 1) (ai (av bT (af 1) (af 2)) au)))))))⟩
theorem jc:ba ["rows","many","left","done","at","found","lead_row"] ["rows","many"] (aL yC):=cE
abbrev DG(e:Ev):Prop:=DIn e 40 "plain" ["rows","many"] uV
theorem IS(F:FA e "plain" yC)(Y:e.P.given.tree=none)(J:N0 e "range")(p7:pK e)(ju:jD e)(wB:wJ e)(vc:m5 e)(U:Ak e):DG e:=by
 exact bE F jc rfl (by decide) (bd2 λ_ _ _ _ _ _ _ _=>rfl) λ_ _ _ _ _ _ _ hr hu ap=>⟨_,(aw (dI (i:=2) (own:=["row"]) (cap:=[]) (caps:=[]) rfl (scC trivial) (bX (pv 0)) (λ_ _ _=>(aP (i:=0) (ndL ["row"] []) rfl (nu rfl))) (λ_ _ _=>bS) (λ_ _ _=>(aK p7 hr (ah (pv 0) ar))) jc.nd rfl (nu rfl) rfl)
 (aw (a0 (i:=3) jc.nd rfl (nu rfl) (eZ ar))
 (aw (eG PassesOwn.never rfl (dF rfl J (ah (pv 1) ar)) (aP (i:=4) jc.nd rfl (EQ rfl))
 (aw (a0 (i:=5) jc.nd rfl (nu rfl) (aK ju hr (ah (aK wB hr (ah (pv 2) (ah (pv 4) ar))) ar)))
 (aI (dq (bC DR (pv 5) oG (bY _))
 (aw (a0 (i:=6) jc.nd rfl (EQ rfl) (aK vc hr (ah (gW wf PySem.F.slot_list_pop PySem.F.type_list_pop IK (pv 2) (ah (pv 5) ar)) (ah (pv 4) ar))))
 (aw (dI (i:=2) (own:=["row"]) (cap:=["at","lead_row"]) (caps:=[4,6]) rfl (scC ⟨rfl,nu rfl,rfl,⟨rfl,nu rfl,rfl,trivial⟩⟩) (bX (pv 2)) (λ_ _ _=>(aP (i:=0) (ndL ["row"] ["at","lead_row"]) rfl (nu rfl))) (λ_ _ _=>bS) (λ_ _ _=>(aK U hr (ah (pv 0) (ah (pv 2) (ah (pv 1) ar))))) jc.nd rfl (nu rfl) rfl)
 (aw (dI (i:=3) (own:=["row"]) (cap:=["at","lead_row"]) (caps:=[4,6]) rfl (scC ⟨rfl,nu rfl,rfl,⟨rfl,nu rfl,rfl,trivial⟩⟩) (bX (pv 3)) (λ_ _ _=>(aP (i:=0) (ndL ["row"] ["at","lead_row"]) rfl (nu rfl))) (λ_ _ _=>bS) (λ_ _ _=>(aK U hr (ah (pv 0) (ah (pv 2) (ah (pv 1) ar))))) jc.nd rfl (nu rfl) rfl)
 (aI (dB (gW wf wv ww ee (pv 3) (ah (pv 6) ar)))))))
 cj))))
 (aI (bh (pv 3)))))),
  (aH (aS (kv (m:=1) (caps:=[]) (bW (af 0)) (aJ 0) bR (aU (n:=1) (f:=gK) (ai (af 0) au))))
 (aH (aS (jH au))
 (aH (eE (eS (ai (af 1) au)) (aJ 4)
 (aH (aS (aU (n:=1) (f:=dD) (ai (kr (n:=2) (f:=iC) (ai (af 2) (ai (af 4) au))) au)))
 (dj (bO (av B7 (af 5) ou))
 (aH (aS (aU (n:=2) (f:=fS) (ai (Mr (af 2) (af 5)) (ai (af 4) au))))
 (aH (aS (kv (m:=1) (caps:=[4,6]) (bW (af 2)) (aJ 0) bR (aU (n:=3) (f:=gE) (ai (af 0) (ai (af 2) (ai (af 1) au))))))
 (aH (aS (kv (m:=1) (caps:=[4,6]) (bW (af 3)) (aJ 0) bR (aU (n:=3) (f:=gE) (ai (af 0) (ai (af 2) (ai (af 1) au))))))
 (dy (g5 (af 3) (af 6))))))
 ck)))
 (bj (jm (af 3))))))⟩
theorem fe:ba ["lists","row","values","found","base","base_value"] ["lists","row"] (aL i4):=cE
abbrev lI(e:Ev):Prop:=DIn e 39 "still_by_one_more" ["lists","row"] fA
theorem rY(F:FA e "still_by_one_more" i4)(U:e.P.given.tree=none)(J:N0 e "enumerate")(Y:gS e)(ju:jD e)(pW:qb e):lI e:=by
 exact bE F fe rfl (by decide) (bd2 λ_ _ _ _ _ _ _ _=>rfl) λ_ _ _ _ _ _ _ hr hu am=>⟨_,(aw (a0 (i:=2) fe.nd rfl (EQ rfl) (cD (own:=["one"]) (cap:=["row"]) (caps:=[1]) rfl (scC ⟨rfl,nu rfl,rfl,trivial⟩) (bX (pv 0)) (λ_ _ _=>(aP (i:=0) (ndL ["one"] ["row"]) rfl (nu rfl))) (λ_ _ _=>bS) (λ_ _ _=>(aK Y hr (ah (pv 1) (ah (pv 0) ar))))))
 (aw (a0 (i:=3) fe.nd rfl (EQ rfl) (aK ju hr (ah (pv 2) ar)))
 (aw (dq (bC LH (pv 3) oG (bY _))
 (aI (bh (pv 0)))
 cj)
 (aw (a0 (i:=4) fe.nd rfl (EQ rfl) (bU bA (pv 0) (pv 3) (λ_ _=>rfl)))
 (aw (a0 (i:=5) fe.nd rfl (EQ rfl) (bU bA (pv 2) (pv 3) (λ_ _=>rfl)))
 (aI (bh (cD (own:=["at","one"]) (cap:=["base","base_value","found","values"]) (caps:=[4,5,3,2]) rfl (scC ⟨rfl,nu rfl,rfl,⟨rfl,nu rfl,rfl,⟨rfl,nu rfl,rfl,⟨rfl,nu rfl,rfl,trivial⟩⟩⟩⟩) (kG rfl J (ah (pv 0) ar)) (λ_ _ _=>(fQ rfl (bN (aP (i:=0) (ndL ["at","one"] ["base","base_value","found","values"]) rfl (nu rfl)) (bN (aP (i:=1) (ndL ["at","one"] ["base","base_value","found","values"]) rfl (nu rfl)) fm)))) (λ_ _ _=>(jR (bC (yE hu) (pv 0) (pv 4) (bY _)))) (λ_ _ _=>(aK pW hr (ah (pv 1) (ah (bU bA (pv 5) (pv 0) (λ_ _=>rfl)) (ah (pv 2) (ah (pv 3) ar)))))))))))))),
  (aH (aS (bQ (m:=1) (caps:=[1]) (bW (af 0)) (aJ 0) bR (aU (n:=2) (f:=bV) (ai (af 1) (ai (af 0) au)))))
 (aH (aS (aU (n:=1) (f:=dD) (ai (af 2) au)))
 (aH (dj (bO (av JR (af 3) ou))
 (bj (af 0))
 ck)
 (aH (aS (av bT (af 0) (af 3)))
 (aH (aS (av bT (af 2) (af 3)))
 (bj (bQ (m:=2) (caps:=[4,5,3,2]) (fH (ai (af 0) au)) (fq (bM (aJ 0) (bM (aJ 1) fo))) (bO (av uG (af 0) (af 4))) (aU (n:=4) (f:=fW) (ai (af 1) (ai (av bT (af 5) (af 0)) (ai (af 2) (ai (af 3) au))))))))))))⟩
theorem qx:ba ["rows","many","lists","row"] ["rows","many"] (aL yZ):=cE
abbrev yL(e:Ev):Prop:=DIn e 41 "still" ["rows","many"] iN
theorem Hw(F:FA e "still" yZ)(J:e.P.given.tree=none)(U:xA e)(Y:lI e)(Ld:DG e):yL e:=by
 exact bE F qx rfl (by decide) (bd2 λ_ _ _ _ _ _ _ _=>rfl) λ_ _ _ _ _ _ _ hr hu ac=>⟨_,(aw (a0 (i:=2) qx.nd rfl (nu rfl) (aK U hr (ah (pv 1) ar)))
 (aw (eG PassesOwn.never rfl (bX (pv 0)) (aP (i:=3) qx.nd rfl (nu rfl))
 (aI (a0 (i:=2) qx.nd rfl (nu rfl) (aK Y hr (ah (pv 2) (ah (pv 3) ar))))))
 (aI (bh (aK Ld hr (ah (pv 2) (ah (pv 1) ar))))))),
  (aH (aS (aU (n:=1) (f:=lj) (ai (af 1) au)))
 (aH (eE (bW (af 0)) (aJ 3)
 (aS (aU (n:=2) (f:=fA) (ai (af 2) (ai (af 3) au)))))
 (bj (aU (n:=2) (f:=uV) (ai (af 2) (ai (af 1) au))))))⟩
theorem qA:ba ["rows","goal","across","found"] ["rows","goal"] (aL sP):=cE
abbrev Aa(e:Ev):Prop:=DIn e 42 "made_of" ["rows","goal"] mI
theorem ES(F:FA e "made_of" sP)(Y:e.P.given.tree=none)(J:N0 e "len")(U:N0 e "range")(wB:wJ e)(yI:yL e):Aa e:=by
 exact bE F qA rfl (by decide) (bd2 λ_ _ _ _ _ _ _ _=>rfl) λ_ _ _ _ _ _ _ hr hu am=>⟨_,(aw (dI (i:=2) (own:=["at"]) (cap:=["goal","rows"]) (caps:=[1,0]) rfl (scC ⟨rfl,nu rfl,rfl,⟨rfl,nu rfl,rfl,trivial⟩⟩) (dF rfl U (ah (bB cX rfl J Boot.«len» (ah (pv 1) ar)) ar)) (λ_ _ _=>(aP (i:=0) (ndL ["at"] ["goal","rows"]) rfl (nu rfl))) (λ_ _ _=>bS) (λ_ _ _=>(aK wB hr (ah (aW cK (eZ (ah (pv 1) ar)) (pv 2)) (ah (pv 0) ar)))) qA.nd rfl (nu rfl) rfl)
 (aw (a0 (i:=3) qA.nd rfl (nu rfl) (aK yI hr (ah (pv 2) (ah (aW cK aF (bB cX rfl J Boot.«len» (ah (pv 0) ar))) ar))))
 (aw (dq (PW.pt (pw_or (xZ (Jt (pv 3) (λ_=>rfl))) (pw_or1 (bC (kz hu) (bU bA (bU bA (pv 3) aF (λ_ _=>rfl)) aF (λ_ _=>rfl)) aF (bY _)))))
 (aI (bh oG))
 cj)
 (aI (bh (lG (ah (bU bA (bU bA (pv 3) aF (λ_ _=>rfl)) aF (λ_ _=>rfl)) (ah (cD (own:=["number"]) (cap:=[]) (caps:=[]) rfl (scC trivial) (bX (rO Ek (bU bA (pv 3) aF (λ_ _=>rfl)) (qv aF) nJ)) (λ_ _ _=>(aP (i:=0) (ndL ["number"] []) rfl (nu rfl))) (λ_ _ _=>bS) (λ_ _ _=>(rq og (pv 0)))) ar)))))))),
  (aH (aS (bQ (m:=1) (caps:=[1,0]) (eS (ai (bt d7 (ai (af 1) au)) au)) (aJ 0) bR (kr (n:=2) (f:=iC) (ai (av cg (mE (ai (af 1) au)) (af 2)) (ai (af 0) au)))))
 (aH (aS (aU (n:=2) (f:=iN) (ai (af 2) (ai (av cg (aD 1) (bt d7 (ai (af 0) au))) au))))
 (aH (dj (AJ (xR (MG (af 3))) (bO (av iu (av bT (av bT (af 3) (aD 0)) (aD 0)) (aD 0))))
 (bj ou)
 ck)
 (bj (kY (ai (av bT (av bT (af 3) (aD 0)) (aD 0)) (ai (bQ (m:=1) (caps:=[]) (bW (JL (av bT (af 3) (aD 0)) (qr (aD 1)) kI)) (aJ 0) bR (qJ oH (af 0))) au)))))))⟩
theorem jg:ba ["numbers","bits","number"] ["numbers"] (aL pI):=cE
abbrev vg(e:Ev):Prop:=DIn e 35 "places_of" ["numbers"] j4
theorem BU(F:FA e "places_of" pI)(J:e.P.given.tree=none):vg e:=by
 exact bE F jg rfl (by decide) (bd1 λ_ _ _ _ _ _ _=>rfl) λ_ _ _ _ _ _ _ hr hu U=>⟨_,(aw (a0 (i:=1) jg.nd rfl (nu rfl) aF)
 (aw (eG PassesOwn.never rfl (bX (pv 0)) (aP (i:=2) jg.nd rfl (nu rfl))
 (aw (a0 (i:=1) jg.nd rfl (nu rfl) (aW fU (pv 1) aF))
 (aI (dq (bC lu (pv 2) aF (bY _))
 (aI (a0 (i:=1) jg.nd rfl (nu rfl) (aW cK (pv 1) aF)))
 cj))))
 (aI (bh (pv 1))))),
  (aH (aS (aD 0))
 (aH (eE (bW (af 0)) (aJ 2)
 (aH (aS (av eY (af 1) (aD 2)))
 (dj (bO (av kW (af 2) (aD 0)))
 (aS (av cg (af 1) (aD 1)))
 ck)))
 (bj (af 1))))⟩
theorem Di:ba ["places","others"] ["places","others"] (aL rL):=cE
abbrev wX(e:Ev):Prop:=DIn e 35 "is_among" ["places","others"] lE
theorem Dx(F:FA e "is_among" rL)(J:e.P.given.tree=none):wX e:=by
 exact bE F Di rfl (by decide) (bd2 λ_ _ _ _ _ _ _ _=>rfl) λ_ _ _ _ _ _ _ hr hu U=>⟨_,(aI (bh (uK (kz hu) (aW JV (pv 0) (pv 1)) (pv 1) (bY _)))),
  (bj (av iu (av GB (af 0) (af 1)) (af 1)))⟩
theorem m8:ba ["one","other","all_places","both"] ["one","other","all_places"] (aL kE):=cE
abbrev oz(e:Ev):Prop:=DIn e 36 "are_neighbours" ["one","other","all_places"] gh
theorem vb(F:FA e "are_neighbours" kE)(U:e.P.given.tree=none)(J:N0 e "len")(Y:wX e):oz e:=by
 exact bE F m8 rfl (by decide) (bd3 λ_ _ _ _ _ _ _ _ _=>rfl) λ_ _ _ _ _ _ _ hr hu ab=>⟨_,(aw (a0 (i:=3) m8.nd rfl (EQ rfl) (aW JV (pv 0) (pv 1)))
 (aI (bh (uK (kz hu) (bB cX rfl J Boot.«len» (ah (cD (own:=["places"]) (cap:=["both"]) (caps:=[3]) rfl (scC ⟨rfl,nu rfl,rfl,trivial⟩) (bX (pv 2)) (λ_ _ _=>(aP (i:=0) (ndL ["places"] ["both"]) rfl (nu rfl))) (λ_ _ _=>(jR (oi (aK Y hr (ah (pv 0) (ah (pv 1) ar)))))) (λ_ _ _=>(pv 0))) ar)) aF (bY _))))),
  (aH (aS (av GB (af 0) (af 1)))
 (bj (av iu (bt d7 (ai (bQ (m:=1) (caps:=[3]) (bW (af 2)) (aJ 0) (qI (aU (n:=2) (f:=lE) (ai (af 0) (ai (af 1) au)))) (af 0)) au)) (aD 2))))⟩
theorem de:ba ["lists","row","values","places","told","above","below","high","low"] ["lists","row"] (aL jw):=cE
abbrev mC(e:Ev):Prop:=DIn e 39 "lone_by_one_more" ["lists","row"] gC
theorem sM(F:FA e "lone_by_one_more" jw)(Y:e.P.given.tree=none)(U:N0 e "zip")(J:N0 e "enumerate")(fR:gS e)(Dq:vg e)(wQ:oz e)(IV:Bz e):mC e:=by
 exact bE F de rfl (by decide) (bd2 λ_ _ _ _ _ _ _ _=>rfl) λ_ _ _ _ _ _ _ hr hu ap=>⟨_,(aw (dI (i:=2) (own:=["one"]) (cap:=["row"]) (caps:=[1]) rfl (scC ⟨rfl,nu rfl,rfl,trivial⟩) (bX (pv 0)) (λ_ _ _=>(aP (i:=0) (ndL ["one"] ["row"]) rfl (nu rfl))) (λ_ _ _=>bS) (λ_ _ _=>(aK fR hr (ah (pv 1) (ah (pv 0) ar)))) de.nd rfl (nu rfl) rfl)
 (aw (dI (i:=3) (own:=["one"]) (cap:=[]) (caps:=[]) rfl (scC trivial) (bX (pv 0)) (λ_ _ _=>(aP (i:=0) (ndL ["one"] []) rfl (nu rfl))) (λ_ _ _=>bS) (λ_ _ _=>(aK Dq hr (ah (pv 0) ar))) de.nd rfl (nu rfl) rfl)
 (aw (dI (i:=4) (own:=["one","value"]) (cap:=[]) (caps:=[]) rfl (scC trivial) (sS rfl U (ah (pv 0) (ah (pv 2) ar))) (λ_ _ _=>(fQ rfl (bN (aP (i:=0) (ndL ["one","value"] []) rfl (nu rfl)) (bN (aP (i:=1) (ndL ["one","value"] []) rfl (nu rfl)) fm)))) (λ_ _ _=>(jR (bC (kz hu) (pv 1) aF (bY _)))) (λ_ _ _=>(pv 0)) de.nd rfl (nu rfl) rfl)
 (aw (dI (i:=5) (own:=["at","value"]) (cap:=[]) (caps:=[]) rfl (scC trivial) (kG rfl J (ah (pv 2) ar)) (λ_ _ _=>(fQ rfl (bN (aP (i:=0) (ndL ["at","value"] []) rfl (nu rfl)) (bN (aP (i:=1) (ndL ["at","value"] []) rfl (nu rfl)) fm)))) (λ_ _ _=>(jR (bC lu (pv 1) aF (bY _)))) (λ_ _ _=>(pv 0)) de.nd rfl (nu rfl) rfl)
 (aw (dI (i:=6) (own:=["at","value"]) (cap:=[]) (caps:=[]) rfl (scC trivial) (kG rfl J (ah (pv 2) ar)) (λ_ _ _=>(fQ rfl (bN (aP (i:=0) (ndL ["at","value"] []) rfl (nu rfl)) (bN (aP (i:=1) (ndL ["at","value"] []) rfl (nu rfl)) fm)))) (λ_ _ _=>(jR (bC qN (pv 1) aF (bY _)))) (λ_ _ _=>(pv 0)) de.nd rfl (nu rfl) rfl)
 (aw (eG PassesOwn.never rfl (bX (pv 5)) (aP (i:=7) de.nd rfl (nu rfl))
 (aI (eG PassesOwn.never rfl (bX (pv 6)) (aP (i:=8) de.nd rfl (nu rfl))
 (aI (dq (oi (aK wQ hr (ah (bU bA (pv 3) (pv 7) (λ_ _=>rfl)) (ah (bU bA (pv 3) (pv 8) (λ_ _=>rfl)) (ah (pv 3) ar)))))
 (aI (dB (gW wf wv ww ee (pv 4) (ah (aK IV hr (ah (bU bA (pv 0) (pv 8) (λ_ _=>rfl)) (ah (bU bA (pv 2) (pv 8) (λ_ _=>rfl)) (ah (bU bA (pv 0) (pv 7) (λ_ _=>rfl)) (ah (bU bA (pv 2) (pv 7) (λ_ _=>rfl)) ar))))) ar))))
 cj)))))
 (aI (bh (pv 4))))))))),
  (aH (aS (bQ (m:=1) (caps:=[1]) (bW (af 0)) (aJ 0) bR (rP (n:=2) (f:=bV) (ai (af 1) (ai (af 0) au)))))
 (aH (aS (bQ (m:=1) (caps:=[]) (bW (af 0)) (aJ 0) bR (rP (n:=1) (f:=j4) (ai (af 0) au))))
 (aH (aS (kv (m:=2) (caps:=[]) (w8 (ai (af 0) (ai (af 2) au))) (fq (bM (aJ 0) (bM (aJ 1) fo))) (bO (av iu (af 1) (aD 0))) (af 0)))
 (aH (aS (bQ (m:=2) (caps:=[]) (fH (ai (af 2) au)) (fq (bM (aJ 0) (bM (aJ 1) fo))) (bO (av kW (af 1) (aD 0))) (af 0)))
 (aH (aS (bQ (m:=2) (caps:=[]) (fH (ai (af 2) au)) (fq (bM (aJ 0) (bM (aJ 1) fo))) (bO (av rk (af 1) (aD 0))) (af 0)))
 (aH (eE (bW (af 5)) (aJ 7)
 (eE (bW (af 6)) (aJ 8)
 (dj (qI (aU (n:=3) (f:=gh) (ai (av bT (af 3) (af 7)) (ai (av bT (af 3) (af 8)) (ai (af 3) au)))))
 (dy (g5 (af 4) (Jc (n:=4) (f:=nX) (ai (av bT (af 0) (af 8)) (ai (av bT (af 2) (af 8)) (ai (av bT (af 0) (af 7)) (ai (av bT (af 2) (af 7)) au)))))))
 ck)))
 (bj (jm (af 4)))))))))⟩
theorem uU:ba ["rows","many","lists","row"] ["rows","many"] (aL CU):=cE
abbrev AS(e:Ev):Prop:=DIn e 40 "lone" ["rows","many"] lC
theorem Kn(F:FA e "lone" CU)(U:e.P.given.tree=none)(J:N0 e "sorted")(Y:D6 e)(tM:mC e):AS e:=by
 exact bE F uU rfl (by decide) (bd2 λ_ _ _ _ _ _ _ _=>rfl) λ_ _ _ _ _ _ _ hr hu ac=>⟨_,(aw (a0 (i:=2) uU.nd rfl (nu rfl) (aK Y hr (ah (pv 1) ar)))
 (aw (eG PassesOwn.never rfl (bX (pv 0)) (aP (i:=3) uU.nd rfl (nu rfl))
 (aI (a0 (i:=2) uU.nd rfl (nu rfl) (aK tM hr (ah (pv 2) (ah (pv 3) ar))))))
 (aI (bh (bB (Br hu) rfl J Boot.«sorted» (ah (pv 2) ar)))))),
  (aH (aS (kr (n:=1) (f:=uI) (ai (af 1) au)))
 (aH (eE (bW (af 0)) (aJ 3)
 (aS (kr (n:=2) (f:=gC) (ai (af 2) (ai (af 3) au)))))
 (bj (Ht (af 2)))))⟩
theorem Dj:ba ["self","at"] ["self","at"] (aL jQ):=cE
abbrev xM(e:Ev):Prop:=MethAt e.P e.w e.K e.mg e.base e.ca 35 (e.ca 0) "row" ["self","at"] lH
theorem Dv{a:Addr}(F:Fun e.K "row" "Yard.row" jQ a fd)(hm:Meth e.K (e.ca 0) "row" a)(Y:e.P.given.tree=none)(U:Cls e.K (e.ca 0))(J:fK e.K (e.ca 0) "held_changes"):xM e:=by
 refine⟨a,fd,qu F Dj rfl λab A outer s H E hr=> ?_,hm,F.binds λ_ _ _ _ _ _ us hl=>match us,hl with | [_,_],_=>rfl⟩
 have hu:=hr.units
 have am:=va hr (by decide)
 exact⟨_,(aI (bh (cD (own:=["change"]) (cap:=["at"]) (caps:=[1]) rfl (scC ⟨rfl,nu rfl,rfl,trivial⟩) (bX (Cs (pv 0) rfl)) (λ_ _ _=>(aP (i:=0) (ndL ["change"] ["at"]) rfl (nu rfl))) (λ_ _ _=>bS) (λ_ _ _=>(bU bA (pv 0) (pv 1) (λ_ _=>rfl)))))),
  (bj (bQ (m:=1) (caps:=[1]) (bW (BL (c:=0) (f:="held_changes") U J (af 0))) (aJ 0) bR (av bT (af 0) (af 1))))⟩
theorem Be:ba ["self"] ["self"] (aL iT):=cE
abbrev pV(e:Ev):Prop:=MethAt e.P e.w e.K e.mg e.base e.ca 36 (e.ca 0) "rows" ["self"] gM
theorem CW{a:Addr}(F:Fun e.K "rows" "Yard.rows" iT a fd)(hm:Meth e.K (e.ca 0) "rows" a)(az:e.P.given.tree=none)(as:N0 e "len")(am:N0 e "range")(U:Cls e.K (e.ca 0))(J:fK e.K (e.ca 0) "held_goods")(Y:xM e):pV e:=by
 obtain⟨ap,an,ab,kS,ac⟩:=Y
 refine⟨a,fd,qu F Be rfl λa1 A outer s H E hr=> ?_,hm,F.binds λ_ _ _ _ _ _ us hl=>match us,hl with | [_],_=>rfl⟩
 have hu:=hr.units
 have a3:=va hr (by decide)
 exact⟨_,(aI (bh (cD (own:=["at"]) (cap:=["self"]) (caps:=[0]) rfl (scC ⟨rfl,nu rfl,rfl,trivial⟩) (dF rfl am (ah (bB cX rfl as Boot.«len» (ah (Cs (pv 0) rfl) ar)) ar)) (λ_ _ _=>(aP (i:=0) (ndL ["at"] ["self"]) rfl (nu rfl))) (λ_ _ _=>bS) (λ_ _ _=>(Kj (pv 1) U kS ab (hr.mono (by decide)) ac .nil nr (ah (pv 0) ar)))))),
  (bj (bQ (m:=1) (caps:=[0]) (eS (ai (bt d7 (ai (BL (c:=0) (f:="held_goods") U J (af 0)) au)) au)) (aJ 0) bR (kA (c:=0) (m:="row") (n:=1) (f:=lH) (af 1) (ai (af 0) au))))⟩
theorem AB:ba ["self"] ["self"] (aL hZ):=cE
abbrev jl(e:Ev):Prop:=MethAt e.P e.w e.K e.mg e.base e.ca 35 (e.ca 0) "names" ["self"] dw
theorem AE{a:Addr}(F:Fun e.K "names" "Yard.names" hZ a fd)(hm:Meth e.K (e.ca 0) "names" a)(Y:e.P.given.tree=none)(U:Cls e.K (e.ca 0))(J:fK e.K (e.ca 0) "held_works"):jl e:=by
 refine⟨a,fd,qu F AB rfl λab A outer s H E hr=> ?_,hm,F.binds λ_ _ _ _ _ _ us hl=>match us,hl with | [_],_=>rfl⟩
 have hu:=hr.units
 have am:=va hr (by decide)
 exact⟨_,(aI (bh (cD (own:=["work"]) (cap:=[]) (caps:=[]) rfl (scC trivial) (bX (Cs (pv 0) rfl)) (λ_ _ _=>(aP (i:=0) (ndL ["work"] []) rfl (nu rfl))) (λ_ _ _=>bS) (λ_ _ _=>(bU bA (pv 0) aF (λ_ _=>rfl)))))),
  (bj (bQ (m:=1) (caps:=[]) (bW (BL (c:=0) (f:="held_works") U J (af 0))) (aJ 0) bR (av bT (af 0) (aD 0))))⟩
theorem KC:ba ["yard"] ["yard"] (aL Bm):=cE
abbrev xO(e:Ev):Prop:=DIn e 41 "ways" ["yard"] jA
theorem Kv(F:FA e "ways" Bm)(a3:e.P.given.tree=none)(a2:N0 e "len")(an:Cls e.K (e.ca 0))(C0:AS e)(ab:pV e)(J:jl e):xO e:=by
 obtain⟨a1,as,ac,gQ,am⟩:=ab
 obtain⟨az,ap,U,dW,Y⟩:=J
 exact bE F KC rfl (by decide) (bd1 λ_ _ _ _ _ _ _=>rfl) λ_ _ _ _ _ _ _ hr hu a5=>⟨_,(aI (bh (aK C0 hr (ah (lV (pv 0) an gQ ac (hr.mono (by decide)) am .nil nr) (ah (bB cX rfl a2 Boot.«len» (ah (lV (pv 0) an dW U (hr.mono (by decide)) Y .nil nr) ar)) ar))))),
  (bj (fO (n:=2) (f:=lC) (ai (kA (c:=0) (m:="rows") (n:=0) (f:=gM) (af 0) au) (ai (bt d7 (ai (kA (c:=0) (m:="names") (n:=0) (f:=dw) (af 0) au) au)) au))))⟩
theorem vk:ba ["yard","name","names"] ["yard","name"] (aL qH):=cE
abbrev xN(e:Ev):Prop:=DIn e 36 "place_of" ["yard","name"] kZ
theorem Dl(F:FA e "place_of" qH)(an:e.P.given.tree=none)(ab:Cls e.K (e.ca 0))(J:jl e):xN e:=by
 obtain⟨am,ac,U,dW,Y⟩:=J
 exact bE F vk rfl (by decide) (bd2 λ_ _ _ _ _ _ _ _=>rfl) λ_ _ _ _ _ _ _ hr hu ap=>⟨_,(aw (a0 (i:=2) vk.nd rfl (nu rfl) (lV (pv 0) ab dW U (hr.mono (by decide)) Y .nil nr))
 (aw (dq (bC uu (pv 1) (pv 2) (by with_unfolding_all rfl))
 (aI ji)
 cj)
 (aI (bh (gW wf PySem.F.slot_list_index PySem.F.type_list_index Hu (pv 2) (ah (pv 1) ar)))))),
  (aH (aS (kA (c:=0) (m:="names") (n:=0) (f:=dw) (af 0) au))
 (aH (dj (bO (av B3 (af 1) (af 2)))
 jx
 ck)
 (bj (IC (af 2) (af 1)))))⟩
theorem su:ba ["lists","at","one"] ["lists","at"] (aL oC):=cE
abbrev k4(e:Ev):Prop:=DIn e 35 "first_with" ["lists","at"] dX
theorem AF(F:FA e "first_with" oC)(J:e.P.given.tree=none):k4 e:=by
 exact bE F su rfl (by decide) (bd2 λ_ _ _ _ _ _ _ _=>rfl) λ_ _ _ _ _ _ _ hr hu U=>⟨_,(aw (eG PassesOwn.never rfl (bX (pv 0)) (aP (i:=2) su.nd rfl (nu rfl))
 (aI (dq (bC lu (bU bA (pv 2) (pv 1) (λ_ _=>rfl)) aF (bY _))
 (aI (bh (pv 2)))
 cj)))
 (aI (bh oG))),
  (aH (eE (bW (af 0)) (aJ 2)
 (dj (bO (av kW (av bT (af 2) (af 1)) (aD 0)))
 (bj (af 2))
 ck))
 (bj ou))⟩
theorem eK:ba ["yard","demands","rows","many","wanted","found","goal","made"] ["yard","demands"] (aL lF):=cE
abbrev oR(e:Ev):Prop:=DIn e 43 "weights_above" ["yard","demands"] i9
theorem wj(F:FA e "weights_above" lF)(as:e.P.given.tree=none)(an:N0 e "len")(ap:N0 e "zip")(ab:Cls e.K (e.ca 0))(J:pV e)(yI:yL e)(fR:gS e)(jE:k4 e)(C0:AS e)(GL:Aa e):oR e:=by
 obtain⟨am,ac,U,gQ,Y⟩:=J
 exact bE F eK rfl (by decide) (bd2 λ_ _ _ _ _ _ _ _=>rfl) λ_ _ _ _ _ _ _ hr hu a5=>⟨_,(aw (a0 (i:=2) eK.nd rfl (nu rfl) (lV (pv 0) ab gQ U (hr.mono (by decide)) Y .nil nr))
 (aw (a0 (i:=3) eK.nd rfl (EQ rfl) (bB cX rfl an Boot.«len» (ah (pv 1) ar)))
 (aw (dI (i:=4) (own:=["row"]) (cap:=["demands"]) (caps:=[1]) rfl (scC ⟨rfl,nu rfl,rfl,trivial⟩) (bX (aK yI hr (ah (pv 2) (ah (pv 3) ar)))) (λ_ _ _=>(aP (i:=0) (ndL ["row"] ["demands"]) rfl (nu rfl))) (λ_ _ _=>bS) (λ_ _ _=>(aW cK (pv 0) (eZ (ah (aK fR hr (ah (pv 0) (ah (pv 1) ar))) ar)))) eK.nd rfl (nu rfl) rfl)
 (aw (a0 (i:=5) eK.nd rfl (EQ rfl) (aK jE hr (ah (aK C0 hr (ah (pv 4) (ah (aW cK (pv 3) aF) ar))) (ah (pv 3) ar))))
 (aw (dI (i:=6) (own:=["spare","demand"]) (cap:=["found","many"]) (caps:=[5,3]) rfl (scC ⟨rfl,nu rfl,rfl,⟨rfl,nu rfl,rfl,trivial⟩⟩) (sS rfl ap (ah (pv 5) (ah (pv 1) ar))) (λ_ _ _=>(fQ rfl (bN (aP (i:=0) (ndL ["spare","demand"] ["found","many"]) rfl (nu rfl)) (bN (aP (i:=1) (ndL ["spare","demand"] ["found","many"]) rfl (nu rfl)) fm)))) (λ_ _ _=>bS) (λ_ _ _=>(aW cK (pv 0) (aW fU (bU bA (pv 2) (pv 3) (λ_ _=>rfl)) (pv 1)))) eK.nd rfl (nu rfl) rfl)
 (aw (a0 (i:=7) eK.nd rfl (nu rfl) (aK GL hr (ah (pv 2) (ah (pv 6) ar))))
 (aI (bh (lG (ah (aW fU (bU bA (pv 7) aF (λ_ _=>rfl)) (bU bA (pv 5) (pv 3) (λ_ _=>rfl))) (ah (bU bA (pv 7) aF (λ_ _=>rfl)) ar))))))))))),
  (aH (aS (kA (c:=0) (m:="rows") (n:=0) (f:=gM) (af 0) au))
 (aH (aS (bt d7 (ai (af 1) au)))
 (aH (aS (bQ (m:=1) (caps:=[1]) (bW (aU (n:=2) (f:=iN) (ai (af 2) (ai (af 3) au)))) (aJ 0) bR (av cg (af 0) (mE (ai (aU (n:=2) (f:=bV) (ai (af 0) (ai (af 1) au))) au)))))
 (aH (aS (kr (n:=2) (f:=dX) (ai (jm (fO (n:=2) (f:=lC) (ai (af 4) (ai (av cg (af 3) (aD 1)) au)))) (ai (af 3) au))))
 (aH (aS (FG (m:=2) (caps:=[5,3]) (KR (ai (af 5) (ai (af 1) au))) (fq (bM (aJ 0) (bM (aJ 1) fo))) bR (av cg (af 0) (av eY (av bT (af 2) (af 3)) (af 1)))))
 (aH (aS (aU (n:=2) (f:=mI) (ai (af 2) (ai (af 6) au))))
 (bj (kY (ai (av eY (av bT (af 7) (aD 0)) (av bT (af 5) (af 3))) (ai (av bT (af 7) (aD 1)) au))))))))))⟩
theorem u4:ba ["yard","name","at","way","told"] ["yard","name"] (aL CS):=cE
abbrev G9(e:Ev):Prop:=DIn e 44 "seen" ["yard","name"] tN
theorem Lr(F:FA e "seen" CS)(ap:e.P.given.tree=none)(an:N0 e "len")(ab:Cls e.K (e.ca 0))(Fl:xN e)(jE:k4 e)(sY:xO e)(xa:oR e)(tT:t5 e)(J:jl e):G9 e:=by
 obtain⟨am,ac,U,dW,Y⟩:=J
 exact bE F u4 rfl (by decide) (bd2 λ_ _ _ _ _ _ _ _=>rfl) λ_ _ _ _ _ _ _ hr hu a4=>⟨_,(aw (a0 (i:=2) u4.nd rfl (nu rfl) (aK Fl hr (ah (pv 0) (ah (pv 1) ar))))
 (aw (a0 (i:=3) u4.nd rfl (nu rfl) (aK jE hr (ah (aK sY hr (ah (pv 0) ar)) (ah (pv 2) ar))))
 (aw (dq (bC DR (pv 3) oG (bY _))
 (aI (bh (lG (ah mL (ah (pv 3) ar)))))
 cj)
 (aw (a0 (i:=4) u4.nd rfl (nu rfl) (aK xa hr (ah (pv 0) (ah (aK tT hr (ah (pv 2) (ah (bB cX rfl an Boot.«len» (ah (lV (pv 0) ab dW U (hr.mono (by decide)) Y .nil nr) ar)) ar))) ar))))
 (aI (bh (lG (ah mL (ah (bU bA (pv 4) aF (λ_ _=>rfl)) ar))))))))),
  (aH (aS (aU (n:=2) (f:=kZ) (ai (af 0) (ai (af 1) au))))
 (aH (aS (kr (n:=2) (f:=dX) (ai (jm (fO (n:=1) (f:=jA) (ai (af 0) au))) (ai (af 2) au))))
 (aH (dj (bO (av B7 (af 3) ou))
 (bj (kY (ai (mN ("goes" :Str)) (ai (af 3) au))))
 ck)
 (aH (aS (aU (n:=2) (f:=i9) (ai (af 0) (ai (aU (n:=2) (f:=jy) (ai (af 2) (ai (bt d7 (ai (kA (c:=0) (m:="names") (n:=0) (f:=dw) (af 0) au) au)) au))) au))))
 (bj (kY (ai (mN ("never" :Str)) (ai (av bT (af 4) (aD 1)) au))))))))⟩
theorem DK:ba ["yard","found"] ["yard"] (aL CN):=cE
abbrev F8(e:Ev):Prop:=DIn e 42 "idle" ["yard"] oK
theorem Ku(F:FA e "idle" CN)(ap:e.P.given.tree=none)(ab:N0 e "enumerate")(ac:Cls e.K (e.ca 0))(sY:xO e)(J:jl e)(jE:k4 e):F8 e:=by
 obtain⟨an,am,U,dW,Y⟩:=J
 exact bE F DK rfl (by decide) (bd1 λ_ _ _ _ _ _ _=>rfl) λ_ _ _ _ _ _ _ hr hu a1=>⟨_,(aw (a0 (i:=1) DK.nd rfl (EQ rfl) (aK sY hr (ah (pv 0) ar)))
 (aI (bh (cD (own:=["at","name"]) (cap:=["found"]) (caps:=[1]) rfl (scC ⟨rfl,nu rfl,rfl,trivial⟩) (kG rfl ab (ah (lV (pv 0) ac dW U (hr.mono (by decide)) Y .nil nr) ar)) (λ_ _ _=>(fQ rfl (bN (aP (i:=0) (ndL ["at","name"] ["found"]) rfl (nu rfl)) (bN (aP (i:=1) (ndL ["at","name"] ["found"]) rfl (nu rfl)) fm)))) (λ_ _ _=>(jR (bC LH (aK jE hr (ah (pv 2) (ah (pv 0) ar))) oG (bY _)))) (λ_ _ _=>(pv 1)))))),
  (aH (aS (jm (fO (n:=1) (f:=jA) (ai (af 0) au))))
 (bj (kv (m:=2) (caps:=[1]) (fH (ai (kA (c:=0) (m:="names") (n:=0) (f:=dw) (af 0) au) au)) (fq (bM (aJ 0) (bM (aJ 1) fo))) (bO (av JR (kr (n:=2) (f:=dX) (ai (af 2) (ai (af 0) au))) ou)) (af 1))))⟩
theorem Fq:ba ["text"] ["text"] (aL ub):=cE
abbrev zp(e:Ev):Prop:=DIn e 35 "is_name" ["text"] mF
theorem EW(F:FA e "is_name" ub)(ab:e.P.given.tree=none)(U:N0 e "len")(Y:N0 e "all")(J:∃t,e.mg "MOST_LETTERS" =some (.int 8 t)):zp e:=by
 exact bE F Fq rfl (by decide) (bd1 λ_ _ _ _ _ _ _=>rfl) λ_ _ _ _ _ _ _ hr hu ac=>⟨_,(aw (dq (PW.pt (pw_or (bC qN (bB cX rfl U Boot.«len» (ah (pv 0) ar)) aF (bY _)) (pw_or1 (bC lu (bB cX rfl U Boot.«len» (ah (pv 0) ar)) (yz (v:=.int 8) rfl J.choose_spec ⟨_,rfl⟩) (bY _)))))
 (aI (bh u5))
 cj)
 (aI (bh (bB (zJ rfl) rfl Y Boot.«all» (ah (cD (own:=["sign"]) (cap:=[]) (caps:=[]) rfl (scC trivial) (LD (pv 0)) (λ_ _ _=>(aP (i:=0) (ndL ["sign"] []) rfl (nu rfl))) (λ_ _ _=>bS) (λ_ _ _=>(HR GY GY mL (pv 0) mL))) ar))))),
  (aH (dj (AJ (bO (av rk (bt d7 (ai (af 0) au)) (aD 1))) (bO (av kW (bt d7 (ai (af 0) au)) (aD 8))))
 (bj (uR false))
 ck)
 (bj (bt Fu (ai (bQ (m:=1) (caps:=[]) (KH (af 0)) (aJ 0) bR (BI GF GF (mN ("a" :Str)) (af 0) (mN ("z" :Str)))) au))))⟩
theorem Av:ba ["goods","works"] ["goods","works"] (aL oy):=cE
abbrev tW(e:Ev):Prop:=DIn e 35 "check_many" ["goods","works"] jt
theorem Au(F:FA e "check_many" oy)(ab:e.P.given.tree=none)(Y:N0 e "len")(J:∃t,e.mg "MOST_GOODS" =some (.int 10 t))(U:∃t,e.mg "MOST_WORKS" =some (.int 10 t)):tW e:=by
 exact bE F Av rfl (by decide) (bd2 λ_ _ _ _ _ _ _ _=>rfl) λ_ _ _ _ _ _ _ hr hu ac=>⟨_,(aw (dq (bC lu (bB cX rfl Y Boot.«len» (ah (pv 0) ar)) (yz (v:=.int 10) rfl J.choose_spec ⟨_,rfl⟩) (bY _))
 (aI ji)
 cj)
 (aI (dq (bC lu (bB cX rfl Y Boot.«len» (ah (pv 1) ar)) (yz (v:=.int 10) rfl U.choose_spec ⟨_,rfl⟩) (bY _))
 (aI ji)
 cj))),
  (aH (dj (bO (av kW (bt d7 (ai (af 0) au)) (aD 10)))
 jx
 ck)
 (dj (bO (av kW (bt d7 (ai (af 1) au)) (aD 10)))
 jx
 ck))⟩
theorem Ax:ba ["text","earlier"] ["text","earlier"] (aL nU):=cE
abbrev oq(e:Ev):Prop:=DIn e 36 "check_name" ["text","earlier"] f6
theorem AG(F:FA e "check_name" nU)(J:e.P.given.tree=none)(U:zp e):oq e:=by
 exact bE F Ax rfl (by decide) (bd2 λ_ _ _ _ _ _ _ _=>rfl) λ_ _ _ _ _ _ _ hr hu Y=>⟨_,(aw (dq (xZ (oi (aK U hr (ah (pv 0) ar))))
 (aI ji)
 cj)
 (aI (dq (bC uf (pv 0) (pv 1) (by with_unfolding_all rfl))
 (aI ji)
 cj))),
  (aH (dj (xR (qI (aU (n:=1) (f:=mF) (ai (af 0) au))))
 jx
 ck)
 (dj (bO (av EI (af 0) (af 1)))
 jx
 ck))⟩
theorem lP:ba ["goods","at","good"] ["goods"] (aL mY):=cE
abbrev sC(e:Ev):Prop:=DIn e 37 "check_goods" ["goods"] iL
theorem yF(F:FA e "check_goods" mY)(U:e.P.given.tree=none)(J:N0 e "enumerate")(Y:oq e):sC e:=by
 exact bE F lP rfl (by decide) (bd1 λ_ _ _ _ _ _ _=>rfl) λ_ _ _ _ _ _ _ hr hu ab=>⟨_,(aI (eG PassesOwn.never rfl (kG rfl J (ah (pv 0) ar)) (fQ rfl (bN (aP (i:=1) lP.nd rfl (nu rfl)) (bN (aP (i:=2) lP.nd rfl (nu rfl)) fm)))
 (aI (dB (aK Y hr (ah (pv 2) (ah (rO Ek (pv 0) nJ (qv (pv 1))) ar))))))),
  (eE (fH (ai (af 0) au)) (fq (bM (aJ 1) (bM (aJ 2) fo)))
 (dy (aU (n:=2) (f:=f6) (ai (af 2) (ai (JL (af 0) kI (qr (af 1))) au)))))⟩
theorem AA:ba ["good","goods","earlier"] ["good","goods","earlier"] (aL oE):=cE
abbrev sZ(e:Ev):Prop:=DIn e 35 "check_good" ["good","goods","earlier"] jG
theorem Az(F:FA e "check_good" oE)(J:e.P.given.tree=none):sZ e:=by
 exact bE F AA rfl (by decide) (bd3 λ_ _ _ _ _ _ _ _ _=>rfl) λ_ _ _ _ _ _ _ hr hu U=>⟨_,(aw (dq (bC uu (pv 0) (pv 1) (by with_unfolding_all rfl))
 (aI ji)
 cj)
 (aI (dq (bC uf (pv 0) (pv 2) (by with_unfolding_all rfl))
 (aI ji)
 cj))),
  (aH (dj (bO (av B3 (af 0) (af 1)))
 jx
 ck)
 (dj (bO (av EI (af 0) (af 2)))
 jx
 ck))⟩
theorem wZ:ba ["amount"] ["amount"] (aL lJ):=cE
abbrev qi(e:Ev):Prop:=DIn e 36 "check_amount" ["amount"] hJ
theorem xV(F:FA e "check_amount" lJ)(J:e.P.given.tree=none)(U:wY e):qi e:=by
 exact bE F wZ rfl (by decide) (bd1 λ_ _ _ _ _ _ _=>rfl) λ_ _ _ _ _ _ _ hr hu Y=>⟨_,(aI (dq (PW.pt (pw_or (xZ (oi (aK U hr (ah (pv 0) ar)))) (pw_or1 (bC qN (pv 0) aF (bY _)))))
 (aI ji)
 cj)),
  (dj (AJ (xR (qI (aU (n:=1) (f:=k7) (ai (af 0) au)))) (bO (av rk (af 0) (aD 1))))
 jx
 ck)⟩
theorem jK:ba ["parts","goods","earlier","good","amount"] ["parts","goods"] (aL mV):=cE
abbrev sA(e:Ev):Prop:=DIn e 37 "check_parts" ["parts","goods"] ft
theorem yc(F:FA e "check_parts" mV)(J:e.P.given.tree=none)(U:sZ e)(Y:qi e):sA e:=by
 exact bE F jK rfl (by decide) (bd2 λ_ _ _ _ _ _ _ _=>rfl) λ_ _ _ _ _ _ _ hr hu ab=>⟨_,(aw (a0 (i:=2) jK.nd rfl (nu rfl) (eZ ar))
 (aI (eG PassesOwn.never rfl (bX (pv 0)) (fQ rfl (bN (aP (i:=3) jK.nd rfl (nu rfl)) (bN (aP (i:=4) jK.nd rfl (nu rfl)) fm)))
 (aw (dB (aK U hr (ah (pv 3) (ah (pv 1) (ah (pv 2) ar)))))
 (aw (dB (aK Y hr (ah (pv 4) ar)))
 (aI (dB (gW wf wv ww ee (pv 2) (ah (pv 3) ar))))))))),
  (aH (aS (jH au))
 (eE (bW (af 0)) (fq (bM (aJ 3) (bM (aJ 4) fo)))
 (aH (dy (rP (n:=3) (f:=jG) (ai (af 3) (ai (af 1) (ai (af 2) au)))))
 (aH (dy (aU (n:=1) (f:=hJ) (ai (af 4) au)))
 (dy (g5 (af 2) (af 3)))))))⟩
theorem ig:ba ["works","goods","earlier","name","uses","makes"] ["works","goods"] (aL mT):=cE
abbrev sq(e:Ev):Prop:=DIn e 38 "check_works" ["works","goods"] iF
theorem yP(F:FA e "check_works" mT)(U:e.P.given.tree=none)(Y:oq e)(J:sA e):sq e:=by
 exact bE F ig rfl (by decide) (bd2 λ_ _ _ _ _ _ _ _=>rfl) λ_ _ _ _ _ _ _ hr hu ab=>⟨_,(aw (a0 (i:=2) ig.nd rfl (nu rfl) (eZ ar))
 (aI (eG PassesOwn.never rfl (bX (pv 0)) (fQ rfl (bN (aP (i:=3) ig.nd rfl (nu rfl)) (bN (aP (i:=4) ig.nd rfl (nu rfl)) (bN (aP (i:=5) ig.nd rfl (nu rfl)) fm))))
 (aw (dB (aK Y hr (ah (pv 3) (ah (pv 2) ar))))
 (aw (dB (aK J hr (ah (pv 4) (ah (pv 1) ar))))
 (aw (dB (aK J hr (ah (pv 5) (ah (pv 1) ar))))
 (aI (dB (gW wf wv ww ee (pv 2) (ah (pv 3) ar)))))))))),
  (aH (aS (jH au))
 (eE (bW (af 0)) (fq (bM (aJ 3) (bM (aJ 4) (bM (aJ 5) fo))))
 (aH (dy (rP (n:=2) (f:=f6) (ai (af 3) (ai (af 2) au))))
 (aH (dy (aU (n:=2) (f:=ft) (ai (af 4) (ai (af 1) au))))
 (aH (dy (aU (n:=2) (f:=ft) (ai (af 5) (ai (af 1) au))))
 (dy (g5 (af 2) (af 3))))))))⟩
theorem CF:ba ["work"] ["work"] (aL pB):=cE
abbrev vQ(e:Ev):Prop:=DIn e 35 "copy_work" ["work"] j9
theorem B8(F:FA e "copy_work" pB)(U:e.P.given.tree=none)(J:N0 e "list"):vQ e:=by
 exact bE F CF rfl (by decide) (bd1 λ_ _ _ _ _ _ _=>rfl) λ_ _ _ _ _ _ _ hr hu Y=>⟨_,(aI (bh (lG (ah (bU bA (pv 0) aF (λ_ _=>rfl)) (ah (gy gZ rfl J Boot.«list» (ah (bU bA (pv 0) aF (λ_ _=>rfl)) ar)) (ah (gy gZ rfl J Boot.«list» (ah (bU bA (pv 0) aF (λ_ _=>rfl)) ar)) ar)))))),
  (bj (kY (ai (av bT (af 0) (aD 0)) (ai (bt oQ (ai (av bT (af 0) (aD 1)) au)) (ai (bt oQ (ai (av bT (af 0) (aD 2)) au)) au)))))⟩
theorem Bi:ba ["good","parts"] ["good","parts"] (aL pU):=cE
abbrev vK(e:Ev):Prop:=DIn e 35 "amount_of" ["good","parts"] eW
theorem CC(F:FA e "amount_of" pU)(U:e.P.given.tree=none)(J:N0 e "sum"):vK e:=by
 exact bE F Bi rfl (by decide) (bd2 λ_ _ _ _ _ _ _ _=>rfl) λ_ _ _ _ _ _ _ hr hu Y=>⟨_,(aI (bh (bB (tQ rfl) rfl J Boot.«sum» (ah (cD (own:=["part"]) (cap:=["good"]) (caps:=[0]) rfl (scC ⟨rfl,nu rfl,rfl,trivial⟩) (bX (pv 1)) (λ_ _ _=>(aP (i:=0) (ndL ["part"] ["good"]) rfl (nu rfl))) (λ_ _ _=>(jR (bC (kz hu) (bU bA (pv 0) aF (λ_ _=>rfl)) (pv 1) (bY _)))) (λ_ _ _=>(bU bA (pv 0) aF (λ_ _=>rfl)))) ar)))),
  (bj (bt CY (ai (bQ (m:=1) (caps:=[0]) (bW (af 1)) (aJ 0) (bO (av iu (av bT (af 0) (aD 0)) (af 1))) (av bT (af 0) (aD 1))) au)))⟩
theorem Bo:ba ["work","goods"] ["work","goods"] (aL qd):=cE
abbrev vi(e:Ev):Prop:=DIn e 36 "change_of" ["work","goods"] j8
theorem Ca(F:FA e "change_of" qd)(U:e.P.given.tree=none)(J:vK e):vi e:=by
 exact bE F Bo rfl (by decide) (bd2 λ_ _ _ _ _ _ _ _=>rfl) λ_ _ _ _ _ _ _ hr hu Y=>⟨_,(aI (bh (cD (own:=["good"]) (cap:=["work"]) (caps:=[0]) rfl (scC ⟨rfl,nu rfl,rfl,trivial⟩) (bX (pv 1)) (λ_ _ _=>(aP (i:=0) (ndL ["good"] ["work"]) rfl (nu rfl))) (λ_ _ _=>bS) (λ_ _ _=>(aW mM (aK J hr (ah (pv 0) (ah (bU bA (pv 1) aF (λ_ _=>rfl)) ar))) (aK J hr (ah (pv 0) (ah (bU bA (pv 1) aF (λ_ _=>rfl)) ar)))))))),
  (bj (bQ (m:=1) (caps:=[0]) (bW (af 1)) (aJ 0) bR (av mP (aU (n:=2) (f:=eW) (ai (af 0) (ai (av bT (af 1) (aD 2)) au))) (aU (n:=2) (f:=eW) (ai (af 0) (ai (av bT (af 1) (aD 1)) au))))))⟩
theorem BR:ba ["self","goods","works"] ["self","goods","works"] (aL iO):=cE
abbrev vv(e:Ev):Prop:=Ml e.P e.w e.K e.mg e.base e.ca 39 (e.ca 0) "Yard" ["self","goods","works"] iQ
theorem CP{a:Addr}(F:Fun e.K "__init__" "Yard.__init__" iO a fd)(hk:Mk e.K (e.ca 0) a)(hm:e.mg "Yard" =some (.ref (e.ca 0)))(am:e.P.given.tree=none)(ac:N0 e "list")(ab:Cls e.K (e.ca 0))(U:fK e.K (e.ca 0) "held_goods")(Y:fK e.K (e.ca 0) "held_works")(J:fK e.K (e.ca 0) "held_changes")(CV:tW e)(AH:sC e)(Aq:sq e)(Dg:vQ e)(C9:vi e):vv e:=by
 refine⟨a,fd,qu F BR rfl λa2 A outer s H E hr=> ?_,hk,hm,F.binds λ_ _ _ _ _ _ us hl=>match us,hl with | [_,_,_],_=>rfl⟩
 have hu:=hr.units
 have a4:=va hr (by decide)
 exact⟨_,(aw (dB (aK CV hr (ah (pv 1) (ah (pv 2) ar))))
 (aw (dB (aK AH hr (ah (pv 1) ar)))
 (aw (dB (aK Aq hr (ah (pv 2) (ah (pv 1) ar))))
 (aw (Cy (pv 0) (gy gZ rfl ac Boot.«list» (ah (pv 1) ar)) rfl)
 (aw (Cy (pv 0) (cD (own:=["work"]) (cap:=[]) (caps:=[]) rfl (scC trivial) (bX (pv 2)) (λ_ _ _=>(aP (i:=0) (ndL ["work"] []) rfl (nu rfl))) (λ_ _ _=>bS) (λ_ _ _=>(aK Dg hr (ah (pv 0) ar)))) rfl)
 (aI (Cy (pv 0) (cD (own:=["work"]) (cap:=["goods"]) (caps:=[1]) rfl (scC ⟨rfl,nu rfl,rfl,trivial⟩) (bX (pv 2)) (λ_ _ _=>(aP (i:=0) (ndL ["work"] ["goods"]) rfl (nu rfl))) (λ_ _ _=>bS) (λ_ _ _=>(aK C9 hr (ah (pv 0) (ah (pv 1) ar))))) rfl))))))),
  (aH (dy (aU (n:=2) (f:=jt) (ai (af 1) (ai (af 2) au))))
 (aH (dy (aU (n:=1) (f:=iL) (ai (af 1) au)))
 (aH (dy (aU (n:=2) (f:=iF) (ai (af 2) (ai (af 1) au))))
 (aH (yM (c:=0) (f:="held_goods") ab U (af 0) (bt oQ (ai (af 1) au)))
 (aH (yM (c:=0) (f:="held_works") ab Y (af 0) (bQ (m:=1) (caps:=[]) (bW (af 2)) (aJ 0) bR (aU (n:=1) (f:=j9) (ai (af 0) au))))
 (yM (c:=0) (f:="held_changes") ab J (af 0) (bQ (m:=1) (caps:=[1]) (bW (af 2)) (aJ 0) bR (aU (n:=2) (f:=j8) (ai (af 0) (ai (af 1) au))))))))))⟩
theorem DE:ba ["_law_script","_law_k"] ["_law_script","_law_k"] (aL qw):=cE
abbrev qD(e:Ev):Prop:=DIn e 35 "_law_cell" ["_law_script","_law_k"] d5
theorem Dy(F:FA e "_law_cell" qw)(U:e.P.given.tree=none)(J:N0 e "len"):qD e:=by
 exact bE F DE rfl (by decide) (bd2 λ_ _ _ _ _ _ _ _=>rfl) λ_ _ _ _ _ _ _ hr hu Y=>⟨_,(aw (dq (bC qN (pv 1) (bB cX rfl J Boot.«len» (ah (pv 0) ar)) (bY _))
 (aI (bh (bU bA (pv 0) (pv 1) (λ_ _=>rfl))))
 cj)
 (aI (bh aF))),
  (aH (dj (bO (av rk (af 1) (bt d7 (ai (af 0) au))))
 (bj (av bT (af 0) (af 1)))
 ck)
 (bj (aD 0)))⟩
theorem vf:ba ["_law_cell_here","_law_turn","_law_many","_law_blent"] ["_law_cell_here","_law_turn","_law_many"] (aL rZ):=cE
abbrev jV(e:Ev):Prop:=DIn e 35 "_law_pick" ["_law_cell_here","_law_turn","_law_many"] aR
theorem DA(F:FA e "_law_pick" rZ)(J:e.P.given.tree=none):jV e:=by
 exact bE F vf rfl (by decide) (bd3 λ_ _ _ _ _ _ _ _ _=>rfl) λ_ _ _ _ _ _ _ hr hu U=>⟨_,(aw (a0 (i:=3) vf.nd rfl (nu rfl) (aW ik (aW fU (aW cK (aW ik (pv 0) aF) aF) (aW cK aF (aW fU aF (pv 1)))) aF))
 (aI (bh (aW ik (aW (mz U J ⟨_,_,rfl,rfl,rfl,rfl,rfl⟩) (aW ik (aW fU (pv 3) aF) aF) aF) (pv 2))))),
  (aH (aS (av jC (av eY (av cg (av jC (af 0) (aD 2147483647)) (aD 7)) (av cg (aD 48271) (av eY (aD 7919) (af 1)))) (aD 2147483647)))
 (bj (av jC (av kK (av jC (av eY (af 3) (aD 16807)) (aD 2147483647)) (aD 8)) (af 2))))⟩
theorem fZ:ba ["_law_cell_here","_law_many","_law_letters","_law_word","_law_k","_law_spot","_law_first"] ["_law_cell_here","_law_many"] (aL pZ):=cE
abbrev vj(e:Ev):Prop:=DIn e 36 "_law_names" ["_law_cell_here","_law_many"] eX
theorem C3(F:FA e "_law_names" pZ)(ab:e.P.given.tree=none)(J:N0 e "range")(U:N0 e "len")(Y:jV e):vj e:=by
 exact bE F fZ rfl (by decide) (bd2 λ_ _ _ _ _ _ _ _=>rfl) λ_ _ _ _ _ _ _ hr hu ac=>⟨_,(aw (a0 (i:=2) fZ.nd rfl (EQ rfl) mL)
 (aw (a0 (i:=3) fZ.nd rfl (EQ rfl) mL)
 (aw (eG PassesOwn.never rfl (dF rfl J (ah (aK Y hr (ah (pv 0) (ah aF (ah aF ar)))) ar)) (aP (i:=4) fZ.nd rfl (nu rfl))
 (aI (a0 (i:=3) fZ.nd rfl (EQ rfl) (aW cK (pv 3) (bU bA (pv 2) (aK Y hr (ah (pv 0) (ah (aW cK aF (pv 4)) (ah aF ar)))) (λ_ _=>rfl))))))
 (aw (a0 (i:=5) fZ.nd rfl (EQ rfl) (aK Y hr (ah (pv 0) (ah aF (ah (aW cK (bB cX rfl U Boot.«len» (ah (pv 3) ar)) aF) ar)))))
 (aw (a0 (i:=6) fZ.nd rfl (EQ rfl) (aK Y hr (ah (pv 0) (ah aF (ah aF ar)))))
 (aI (bh (cD (own:=["_law_k"]) (cap:=["_law_first","_law_letters","_law_spot","_law_word"]) (caps:=[6,2,5,3]) rfl (scC ⟨rfl,nu rfl,rfl,⟨rfl,nu rfl,rfl,⟨rfl,nu rfl,rfl,⟨rfl,nu rfl,rfl,trivial⟩⟩⟩⟩) (dF rfl J (ah (pv 1) ar)) (λ_ _ _=>(aP (i:=0) (ndL ["_law_k"] ["_law_first","_law_letters","_law_spot","_law_word"]) rfl (nu rfl))) (λ_ _ _=>bS) (λ_ _ _=>(aW cK (aW cK (rO FC (pv 4) nJ (qv (pv 3))) (bU bA (pv 2) (aW ik (aW cK (pv 1) (aW fU aF (pv 0))) aF) (λ_ _=>rfl))) (rO FC (pv 4) (qv (pv 3)) nJ))))))))))),
  (aH (aS (mN ("abcdefghijklmnopqrstuvwxyz" :Str)))
 (aH (aS (mN ("" :Str)))
 (aH (eE (eS (ai (aU (n:=3) (f:=aR) (ai (af 0) (ai (aD 1) (ai (aD 8) au)))) au)) (aJ 4)
 (aS (av cg (af 3) (av bT (af 2) (aU (n:=3) (f:=aR) (ai (af 0) (ai (av cg (aD 2) (af 4)) (ai (aD 26) au))))))))
 (aH (aS (aU (n:=3) (f:=aR) (ai (af 0) (ai (aD 10) (ai (av cg (bt d7 (ai (af 3) au)) (aD 1)) au)))))
 (aH (aS (aU (n:=3) (f:=aR) (ai (af 0) (ai (aD 11) (ai (aD 26) au)))))
 (bj (bQ (m:=1) (caps:=[6,2,5,3]) (eS (ai (af 1) au)) (aJ 0) bR (av cg (av cg (Gp (af 4) kI (qr (af 3))) (av bT (af 2) (av jC (av cg (af 1) (av eY (aD 5) (af 0))) (aD 26)))) (Gp (af 4) (qr (af 3)) kI)))))))))⟩
theorem fC:ba ["_law_cell_here","_law_many","_law_wide","_law_made","_law_rest","_law_span","_law_g","_law_number"] ["_law_cell_here","_law_many","_law_wide"] (aL rf):=cE
abbrev xc(e:Ev):Prop:=DIn e 36 "_law_move" ["_law_cell_here","_law_many","_law_wide"] kX
theorem Df(F:FA e "_law_move" rf)(U:e.P.given.tree=none)(Y:N0 e "int")(J:N0 e "range")(cG:jV e):xc e:=by
 exact bE F fC rfl (by decide) (bd3 λ_ _ _ _ _ _ _ _ _=>rfl) λ_ _ _ _ _ _ _ hr hu ab=>⟨_,(aw (a0 (i:=3) fC.nd rfl (nu rfl) (eZ ar))
 (aw (a0 (i:=4) fC.nd rfl (nu rfl) (aW (mz ab U ⟨_,_,rfl,rfl,rfl,rfl,rfl⟩) (pv 0) aF))
 (aw (a0 (i:=5) fC.nd rfl (nu rfl) (bU bA (eZ (ah aF (ah (aW cK (aW fU aF (aW GO aF aF)) aF) ar))) (gy tX rfl Y Boot.«int» (ah (pv 2) ar)) (λ_ _=>rfl)))
 (aw (eG PassesOwn.never rfl (dF rfl J (ah (pv 1) ar)) (aP (i:=6) fC.nd rfl (nu rfl))
 (aw (a0 (i:=7) fC.nd rfl (nu rfl) (aW mM (aK cG hr (ah (pv 0) (ah (aW cK aF (pv 6)) (ah aF ar)))) aF))
 (aw (dq (oi (pv 2))
 (aI (a0 (i:=7) fC.nd rfl (nu rfl) (aW mM (aW cK (aW fU (pv 7) (aW ik (pv 0) (aW GO aF aF))) (aK cG hr (ah (pv 0) (ah (aW cK aF (pv 6)) (ah aF ar))))) aF)))
 cj)
 (aw (dq (PW.pt (pw_and (bC (kz hu) (aW ik (pv 0) aF) aF (bY _)) (pw_and1 (bC lu (pv 4) aF (bY _)))))
 (aw (a0 (i:=7) fC.nd rfl (nu rfl) (aW mM (aW ik (pv 4) (pv 5)) (aW (mz ab U ⟨_,_,rfl,rfl,rfl,rfl,rfl⟩) (pv 5) aF)))
 (aI (a0 (i:=4) fC.nd rfl (nu rfl) (aW (mz ab U ⟨_,_,rfl,rfl,rfl,rfl,rfl⟩) (pv 4) (pv 5)))))
 cj)
 (aI (dB (gW wf wv ww ee (pv 3) (ah (pv 7) ar))))))))
 (aI (bh (pv 3))))))),
  (aH (aS (jH au))
 (aH (aS (av kK (af 0) (aD 2)))
 (aH (aS (av bT (mE (ai (aD 7) (ai (av cg (av eY (aD 2) (av FT (aD 10) (aD 12))) (aD 1)) au))) (bt wR (ai (af 2) au))))
 (aH (eE (eS (ai (af 1) au)) (aJ 6)
 (aH (aS (av mP (aU (n:=3) (f:=aR) (ai (af 0) (ai (av cg (aD 20) (af 6)) (ai (aD 7) au)))) (aD 3)))
 (aH (dj (qI (af 2))
 (aS (av mP (av cg (av eY (af 7) (av jC (af 0) (av FT (aD 10) (aD 12)))) (aU (n:=3) (f:=aR) (ai (af 0) (ai (av cg (aD 30) (af 6)) (ai (aD 2000) au))))) (aD 1000)))
 ck)
 (aH (dj (xG (bO (av iu (av jC (af 0) (aD 2)) (aD 1))) (bO (av kW (af 4) (aD 0))))
 (aH (aS (av mP (av jC (af 4) (af 5)) (av kK (af 5) (aD 2))))
 (aS (av kK (af 4) (af 5))))
 ck)
 (dy (g5 (af 3) (af 7)))))))
 (bj (af 3))))))⟩
theorem eJ:ba ["_law_script","_law_begin","_law_many","_law_head","_law_moves_here","_law_wide","_law_k","_law_found","_law_way","_law_left"] ["_law_script","_law_begin","_law_many"] (aL p8):=cE
abbrev vF(e:Ev):Prop:=DIn e 37 "_law_moves" ["_law_script","_law_begin","_law_many"] gJ
theorem A2(F:FA e "_law_moves" p8)(an:e.P.given.tree=none)(Y:N0 e "int")(J:N0 e "range")(U:N0 e "len")(ac:N0 e "sum")(ab:N0 e "list")(nj:qD e)(cG:jV e)(E7:xc e):vF e:=by
 exact bE F eJ rfl (by decide) (bd3 λ_ _ _ _ _ _ _ _ _=>rfl) λ_ _ _ _ _ _ _ hr hu ap=>⟨_,(aw (a0 (i:=3) eJ.nd rfl (EQ rfl) (aK nj hr (ah (pv 0) (ah (pv 1) ar))))
 (aw (a0 (i:=4) eJ.nd rfl (EQ rfl) (eZ ar))
 (aw (a0 (i:=5) eJ.nd rfl (nu rfl) (uK (kz hu) (aK cG hr (ah (pv 3) (ah aF (ah aF ar)))) aF (bY _)))
 (aw (eG PassesOwn.never rfl (dF rfl J (ah (aW ik (aK cG hr (ah (pv 3) (ah aF (ah aF ar)))) (aW mM aF (aW fU aF (gy tX rfl Y Boot.«int» (ah (pv 5) ar))))) ar)) (aP (i:=6) eJ.nd rfl (EQ rfl))
 (aI (dB (gW wf wv ww ee (pv 4) (ah (aK E7 hr (ah (aW cK (aK nj hr (ah (pv 0) (ah (aW cK (aW cK (pv 1) aF) (pv 6)) ar))) (aW fU aF (pv 6))) (ah (pv 2) (ah (pv 5) ar)))) ar)))))
 (aw (a0 (i:=7) eJ.nd rfl (nu rfl) (eZ ar))
 (aw (eG PassesOwn.never rfl (dF rfl J (ah (aW (mz ap an ⟨_,_,rfl,rfl,rfl,rfl,rfl⟩) (aK cG hr (ah (pv 3) (ah aF (ah aF ar)))) (aW cK aF (gy tX rfl Y Boot.«int» (ah (pv 5) ar)))) ar)) (aP (i:=6) eJ.nd rfl (EQ rfl))
 (aw (a0 (i:=8) eJ.nd rfl (EQ rfl) (cD (own:=["_law_at"]) (cap:=["_law_head","_law_k"]) (caps:=[3,6]) rfl (scC ⟨rfl,nu rfl,rfl,⟨rfl,nu rfl,rfl,trivial⟩⟩) (dF rfl J (ah (bB cX rfl U Boot.«len» (ah (pv 4) ar)) ar)) (λ_ _ _=>(aP (i:=0) (ndL ["_law_at"] ["_law_head","_law_k"]) rfl (nu rfl))) (λ_ _ _=>bS) (λ_ _ _=>(aW ik (aK cG hr (ah (pv 1) (ah (aW cK (aW cK aF (aW fU aF (pv 2))) (pv 0)) (ah aF ar)))) aF))))
 (aw (dI (i:=9) (own:=["_law_g"]) (cap:=["_law_moves_here","_law_way"]) (caps:=[4,8]) rfl (scC ⟨rfl,nu rfl,rfl,⟨rfl,nu rfl,rfl,trivial⟩⟩) (dF rfl J (ah (pv 2) ar)) (λ_ _ _=>(aP (i:=0) (ndL ["_law_g"] ["_law_moves_here","_law_way"]) rfl (EQ rfl))) (λ_ _ _=>bS) (λ_ _ _=>(bB (tQ rfl) rfl ac Boot.«sum» (ah (cD (own:=["_law_at"]) (cap:=["_law_g","_law_moves_here","_law_way"]) (caps:=[0,1,2]) rfl (scC ⟨rfl,nu rfl,rfl,⟨rfl,nu rfl,rfl,⟨rfl,nu rfl,rfl,trivial⟩⟩⟩) (dF rfl J (ah (bB cX rfl U Boot.«len» (ah (pv 1) ar)) ar)) (λ_ _ _=>(aP (i:=0) (ndL ["_law_at"] ["_law_g","_law_moves_here","_law_way"]) rfl (nu rfl))) (λ_ _ _=>bS) (λ_ _ _=>(aW fU (bU bA (pv 3) (pv 0) (λ_ _=>rfl)) (bU bA (bU bA (pv 2) (pv 0) (λ_ _=>rfl)) (pv 1) (λ_ _=>rfl))))) ar))) eJ.nd rfl (nu rfl) rfl)
 (aw (dB (gW wf wv ww ee (pv 4) (ah (cD (own:=["_law_number"]) (cap:=[]) (caps:=[]) rfl (scC trivial) (bX (pv 9)) (λ_ _ _=>(aP (i:=0) (ndL ["_law_number"] []) rfl (nu rfl))) (λ_ _ _=>bS) (λ_ _ _=>(rq og (pv 0)))) ar)))
 (aI (dB (gW wf wv ww ee (pv 7) (ah (aW cK (pv 8) (eZ (ah aF ar))) ar))))))))
 (aw (dq (PW.pt (pw_and (bC (kz hu) (aK cG hr (ah (pv 3) (ah aF (ah aF ar)))) aF (bY _)) (pw_and1 (bC qN (bB cX rfl U Boot.«len» (ah (pv 4) ar)) aF (bY _)))))
 (aw (dB (gW wf PySem.F.slot_list_insert PySem.F.type_list_insert J8 (pv 4) (ah aF (ah (cD (own:=["_law_g"]) (cap:=[]) (caps:=[]) rfl (scC trivial) (dF rfl J (ah (pv 2) ar)) (λ_ _ _=>(aP (i:=0) (ndL ["_law_g"] []) rfl (nu rfl))) (λ_ _ _=>bS) (λ_ _ _=>aF)) ar))))
 (aI (a0 (i:=7) eJ.nd rfl (nu rfl) (aW cK (cD (own:=["_law_way"]) (cap:=[]) (caps:=[]) rfl (scC trivial) (bX (pv 7)) (λ_ _ _=>(aP (i:=0) (ndL ["_law_way"] []) rfl (nu rfl))) (λ_ _ _=>bS) (λ_ _ _=>(aW cK (eZ (ah aF ar)) (pv 0)))) (eZ (ah (eZ (ah aF ar)) ar))))))
 cj)
 (aw (dq (PW.pt (pw_and (bC (kz hu) (aK cG hr (ah (pv 3) (ah aF (ah aF ar)))) aF (bY _)) (pw_and1 (IY qN qN aF (bB cX rfl U Boot.«len» (ah (pv 4) ar)) aF))))
 (aI (dB (gW wf wv ww ee (pv 4) (ah (gy gZ rfl ab Boot.«list» (ah (bU bA (pv 4) (rq og aF) (λ_ _=>rfl)) ar)) ar))))
 cj)
 (aI (bh (lG (ah (pv 4) (ah (cD (own:=["_law_way"]) (cap:=["_law_moves_here"]) (caps:=[4]) rfl (scC ⟨rfl,nu rfl,rfl,trivial⟩) (bX (pv 7)) (λ_ _ _=>(aP (i:=0) (ndL ["_law_way"] ["_law_moves_here"]) rfl (nu rfl))) (λ_ _ _=>bS) (λ_ _ _=>(aW cK (pv 0) (cD (own:=["_law_k"]) (cap:=[]) (caps:=[]) rfl (scC trivial) (dF rfl J (ah (aW mM (bB cX rfl U Boot.«len» (ah (pv 1) ar)) (bB cX rfl U Boot.«len» (ah (pv 0) ar))) ar)) (λ_ _ _=>(aP (i:=0) (ndL ["_law_k"] []) rfl (nu rfl))) (λ_ _ _=>bS) (λ_ _ _=>aF))))) ar))))))))))))),
  (aH (aS (aU (n:=2) (f:=d5) (ai (af 0) (ai (af 1) au))))
 (aH (aS (jH au))
 (aH (aS (av iu (aU (n:=3) (f:=aR) (ai (af 3) (ai (aD 41) (ai (aD 6) au)))) (aD 0)))
 (aH (eE (eS (ai (av jC (aU (n:=3) (f:=aR) (ai (af 3) (ai (aD 40) (ai (aD 5) au)))) (av mP (aD 5) (av eY (aD 2) (bt wR (ai (af 5) au))))) au)) (aJ 6)
 (dy (g5 (af 4) (jm (fO (n:=3) (f:=kX) (ai (av cg (aU (n:=2) (f:=d5) (ai (af 0) (ai (av cg (av cg (af 1) (aD 1)) (af 6)) au))) (av eY (aD 13) (af 6))) (ai (af 2) (ai (af 5) au))))))))
 (aH (aS (jH au))
 (aH (eE (eS (ai (av kK (aU (n:=3) (f:=aR) (ai (af 3) (ai (aD 42) (ai (aD 3) au)))) (av cg (aD 1) (bt wR (ai (af 5) au)))) au)) (aJ 6)
 (aH (aS (bQ (m:=1) (caps:=[3,6]) (eS (ai (bt d7 (ai (af 4) au)) au)) (aJ 0) bR (av jC (aU (n:=3) (f:=aR) (ai (af 1) (ai (av cg (av cg (aD 50) (av eY (aD 7) (af 2))) (af 0)) (ai (aD 4) au)))) (aD 3))))
 (aH (aS (bQ (m:=1) (caps:=[4,8]) (eS (ai (af 2) au)) (aJ 0) bR (bt CY (ai (bQ (m:=1) (caps:=[0,1,2]) (eS (ai (bt d7 (ai (af 1) au)) au)) (aJ 0) bR (av eY (av bT (af 3) (af 0)) (av bT (av bT (af 2) (af 0)) (af 1)))) au))))
 (aH (dy (g5 (af 4) (bQ (m:=1) (caps:=[]) (bW (af 9)) (aJ 0) bR (qJ oH (af 0)))))
 (dy (g5 (af 7) (av cg (af 8) (mE (ai (aD 1) au)))))))))
 (aH (dj (xG (bO (av iu (aU (n:=3) (f:=aR) (ai (af 3) (ai (aD 43) (ai (aD 5) au)))) (aD 0))) (bO (av rk (bt d7 (ai (af 4) au)) (aD 6))))
 (aH (dy (J5 (af 4) (bQ (m:=1) (caps:=[]) (eS (ai (af 2) au)) (aJ 0) bR (aD 0))))
 (aS (Ll (bQ (m:=1) (caps:=[]) (bW (af 7)) (aJ 0) bR (av cg (mE (ai (aD 0) au)) (af 0))) (mE (ai (mE (ai (aD 1) au)) au)))))
 ck)
 (aH (dj (xG (bO (av iu (aU (n:=3) (f:=aR) (ai (af 3) (ai (aD 44) (ai (aD 5) au)))) (aD 0))) (bO (BI rk rk (aD 0) (bt d7 (ai (af 4) au)) (aD 6))))
 (dy (g5 (af 4) (bt oQ (ai (av bT (af 4) (qJ oH (aD 1))) au))))
 ck)
 (bj (kY (ai (af 4) (ai (kv (m:=1) (caps:=[4]) (bW (af 7)) (aJ 0) bR (av cg (af 0) (bQ (m:=1) (caps:=[]) (eS (ai (av mP (bt d7 (ai (af 1) au)) (bt d7 (ai (af 0) au))) au)) (aJ 0) bR (aD 0)))) au))))))))))))⟩
theorem eH:ba ["_law_moves_here","_law_stuff","_law_called","_law_cell_here","_law_made","_law_k","_law_move_here","_law_uses","_law_makes","_law_g","_law_number","_law_more"] ["_law_moves_here","_law_stuff","_law_called","_law_cell_here"] (aL pL):=cE
abbrev vM(e:Ev):Prop:=DIn e 36 "_law_works" ["_law_moves_here","_law_stuff","_law_called","_law_cell_here"] gP
theorem Cd(F:FA e "_law_works" pL)(Y:e.P.given.tree=none)(J:N0 e "enumerate")(U:N0 e "max")(cG:jV e):vM e:=by
 exact bE F eH rfl (by decide) (bd4 λ_ _ _ _ _ _ _ _ _ _=>rfl) λ_ _ _ _ _ _ _ hr hu ac=>⟨_,(aw (a0 (i:=4) eH.nd rfl (nu rfl) (eZ ar))
 (aw (eG PassesOwn.never rfl (kG rfl J (ah (pv 0) ar)) (fQ rfl (bN (aP (i:=5) eH.nd rfl (nu rfl)) (bN (aP (i:=6) eH.nd rfl (nu rfl)) fm)))
 (aw (a0 (i:=7) eH.nd rfl (nu rfl) (eZ ar))
 (aw (a0 (i:=8) eH.nd rfl (nu rfl) (eZ ar))
 (aw (eG PassesOwn.never rfl (kG rfl J (ah (pv 6) ar)) (fQ rfl (bN (aP (i:=9) eH.nd rfl (nu rfl)) (bN (aP (i:=10) eH.nd rfl (nu rfl)) fm)))
 (aw (a0 (i:=11) eH.nd rfl (nu rfl) (aW fU (aW (mz ac Y ⟨_,_,rfl,rfl,rfl,rfl,rfl⟩) (aK cG hr (ah (aW cK (pv 3) (pv 5)) (ah (aW cK aF (pv 9)) (ah aF ar)))) aF) (aW cK aF (aK cG hr (ah (aW cK (pv 3) (pv 5)) (ah (aW cK aF (pv 9)) (ah aF ar)))))))
 (aw (dq (bC lu (aW cK (pv 11) (bB (o3 rfl) rfl U Boot.«max» (ah aF (ah (rq og (pv 10)) ar)))) aF (bY _))
 (aI (dB (gW wf wv ww ee (pv 7) (ah (lG (ah (bU bA (pv 1) (pv 9) (λ_ _=>rfl)) (ah (aW cK (pv 11) (bB (o3 rfl) rfl U Boot.«max» (ah aF (ah (rq og (pv 10)) ar)))) ar))) ar))))
 cj)
 (aI (dq (bC lu (aW cK (pv 11) (bB (o3 rfl) rfl U Boot.«max» (ah aF (ah (pv 10) ar)))) aF (bY _))
 (aI (dB (gW wf wv ww ee (pv 8) (ah (lG (ah (bU bA (pv 1) (pv 9) (λ_ _=>rfl)) (ah (aW cK (pv 11) (bB (o3 rfl) rfl U Boot.«max» (ah aF (ah (pv 10) ar)))) ar))) ar))))
 cj)))))
 (aw (dq (bC (kz hu) (aK cG hr (ah (aW cK (pv 3) (pv 5)) (ah aF (ah aF ar)))) aF (bY _))
 (aI (a0 (i:=7) eH.nd rfl (nu rfl) (Lj (pv 7) nJ nJ (qv (rq og aF)))))
 cj)
 (aI (dB (gW wf wv ww ee (pv 4) (ah (lG (ah (bU bA (pv 2) (pv 5) (λ_ _=>rfl)) (ah (pv 7) (ah (pv 8) ar)))) ar)))))))))
 (aI (bh (pv 4))))),
  (aH (aS (jH au))
 (aH (eE (fH (ai (af 0) au)) (fq (bM (aJ 5) (bM (aJ 6) fo)))
 (aH (aS (jH au))
 (aH (aS (jH au))
 (aH (eE (fH (ai (af 6) au)) (fq (bM (aJ 9) (bM (aJ 10) fo)))
 (aH (aS (av eY (av kK (aU (n:=3) (f:=aR) (ai (av cg (af 3) (af 5)) (ai (av cg (aD 70) (af 9)) (ai (aD 4) au)))) (aD 3)) (av cg (aD 1) (aU (n:=3) (f:=aR) (ai (av cg (af 3) (af 5)) (ai (av cg (aD 80) (af 9)) (ai (aD 9) au)))))))
 (aH (dj (bO (av kW (av cg (af 11) (bt uP (ai (aD 0) (ai (qJ oH (af 10)) au)))) (aD 0)))
 (dy (g5 (af 7) (kY (ai (av bT (af 1) (af 9)) (ai (av cg (af 11) (bt uP (ai (aD 0) (ai (qJ oH (af 10)) au)))) au)))))
 ck)
 (dj (bO (av kW (av cg (af 11) (bt uP (ai (aD 0) (ai (af 10) au)))) (aD 0)))
 (dy (g5 (af 8) (kY (ai (av bT (af 1) (af 9)) (ai (av cg (af 11) (bt uP (ai (aD 0) (ai (af 10) au)))) au)))))
 ck))))
 (aH (dj (bO (av iu (aU (n:=3) (f:=aR) (ai (av cg (af 3) (af 5)) (ai (aD 90) (ai (aD 2) au)))) (aD 1)))
 (aS (KQ (af 7) kI kI (qr (qJ oH (aD 1)))))
 ck)
 (dy (g5 (af 4) (kY (ai (av bT (af 2) (af 5)) (ai (K4 (af 7)) (ai (jm (af 8)) au)))))))))))
 (bj (jm (af 4)))))⟩
theorem gG:ba ["_law_script","_law_begin","_law_head","_law_many","_law_moves_here","_law_known","_law_stuff","_law_called","_law_yard","_law_told","_law_found","_law_at","_law_way","_law_due"] ["_law_script"] (aL nE):=cE
theorem LO{a:Addr}(F:Fun e.K "law" "law" nE a fd)(hm:e.mg "law" =some (.ref a))(a4:e.P.given.tree=none)(an:N0 e "len")(am:N0 e "range")(a1:N0 e "all")(J:N0 e "isinstance")(as:N0 e "list")(nj:qD e)(cG:jV e)(DB:vF e)(ve:vj e)(U:vv e)(Du:vM e)(sY:xO e)(GU:F8 e)(LC:G9 e):JG e.P e.w e.K e.mg e.base e.ca 45 "law" ["_law_script"] AK a fd:=by
 obtain⟨az,ap,Y,ab,j6,ac⟩:=U
 refine⟨qu F gG rfl λbd A outer s H E hr=> ?_,hm,F.kp,F.binds λ_ _ _ _ _ _ us hl=>match us,hl with | [_],_=>rfl⟩
 have hu:=hr.units
 have bi:=va hr (by decide)
 exact⟨_,(aw (eG PassesOwn.never rfl (bX (eZ (ah aF (ah aF ar)))) (aP (i:=1) gG.nd rfl (nu rfl))
 (aw (a0 (i:=2) gG.nd rfl (nu rfl) (aK nj hr (ah (pv 0) (ah (pv 1) ar))))
 (aw (a0 (i:=3) gG.nd rfl (nu rfl) (aW cK aF (aK cG hr (ah (pv 2) (ah aF (ah aF ar))))))
 (aw (Bq (aK DB hr (ah (pv 0) (ah (pv 1) (ah (pv 3) ar)))) (fQ rfl (bN (aP (i:=4) gG.nd rfl (nu rfl)) (bN (aP (i:=5) gG.nd rfl (nu rfl)) fm))))
 (aw (a0 (i:=6) gG.nd rfl (nu rfl) (aK ve hr (ah (aW cK (pv 2) aF) (ah (pv 3) ar))))
 (aw (a0 (i:=7) gG.nd rfl (EQ rfl) (aK ve hr (ah (pv 2) (ah (bB cX rfl an Boot.«len» (ah (pv 4) ar)) ar))))
 (aw (a0 (i:=8) gG.nd rfl (EQ rfl) (Ke ab Y (hr.mono (by decide)) rfl j6 ac .nil nr (ah (pv 6) (ah (aK Du hr (ah (pv 4) (ah (pv 6) (ah (pv 7) (ah (pv 2) ar))))) ar))))
 (aw (a0 (i:=9) gG.nd rfl (EQ rfl) (aK sY hr (ah (pv 8) ar)))
 (aw (a0 (i:=10) gG.nd rfl (nu rfl) (aK GU hr (ah (pv 8) ar)))
 (aw (dI (i:=13) (own:=["_law_at"]) (cap:=["_law_called","_law_told"]) (caps:=[7,9]) rfl (scC ⟨rfl,nu rfl,rfl,⟨rfl,nu rfl,rfl,trivial⟩⟩) (dF rfl am (ah (bB cX rfl an Boot.«len» (ah (pv 4) ar)) ar)) (λ_ _ _=>(aP (i:=0) (ndL ["_law_at"] ["_law_called","_law_told"]) rfl (EQ rfl))) (λ_ _ _=>(jR (oi (bB (zJ rfl) rfl a1 Boot.«all» (ah (cD (own:=["_law_way"]) (cap:=["_law_at"]) (caps:=[0]) rfl (scC ⟨rfl,nu rfl,rfl,trivial⟩) (bX (pv 2)) (λ_ _ _=>(aP (i:=0) (ndL ["_law_way"] ["_law_at"]) rfl (nu rfl))) (λ_ _ _=>bS) (λ_ _ _=>(uK (kz hu) (bU bA (pv 0) (pv 1) (λ_ _=>rfl)) aF (bY _)))) ar))))) (λ_ _ _=>(bU bA (pv 1) (pv 0) (λ_ _=>rfl))) gG.nd rfl (nu rfl) rfl)
 (aw (dq (PW.pt (pw_or (xZ (oi (bB vU rfl J Boot.«isinstance» (ah (pv 10) (ah (yN (v:=.ty "list") rfl as Boot.«list» rfl) ar))))) (pw_or1 (bC (yE hu) (pv 10) (pv 13) (bY _)))))
 (aI (bh u5))
 cj)
 (aw (dq (bC (yE hu) (pv 13) (cD (own:=["_law_name"]) (cap:=["_law_yard"]) (caps:=[8]) rfl (scC ⟨rfl,nu rfl,rfl,trivial⟩) (bX (pv 7)) (λ_ _ _=>(aP (i:=0) (ndL ["_law_name"] ["_law_yard"]) rfl (nu rfl))) (λ_ _ _=>(jR (bC (kz hu) (bU bA (aK LC hr (ah (pv 1) (ah (pv 0) ar))) aF (λ_ _=>rfl)) mL (bY _)))) (λ_ _ _=>(pv 0))) (bY _))
 (aI (bh u5))
 cj)
 (aw (eG PassesOwn.never rfl (bX (pv 5)) (aP (i:=12) gG.nd rfl (nu rfl))
 (aI (eG PassesOwn.never rfl (dF rfl am (ah (bB cX rfl an Boot.«len» (ah (pv 4) ar)) ar)) (aP (i:=11) gG.nd rfl (nu rfl))
 (aI (dq (PW.pt (pw_and (bC lu (bU bA (pv 12) (pv 11) (λ_ _=>rfl)) aF (bY _)) (pw_and1 (bC uf (bU bA (pv 7) (pv 11) (λ_ _=>rfl)) (pv 13) (by with_unfolding_all rfl)))))
 (aI (bh u5))
 cj)))))
 (aw (dB (gW wf wv ww ee (pv 10) (ah mL ar)))
 (aI (dq (bC (yE hu) (aK GU hr (ah (pv 8) ar)) (pv 13) (bY _))
 (aI (bh u5))
 cj))))))))))))))))
 (aI (bh u5))),
  (aH (eE (bW (mE (ai (aD 0) (ai (aD 5) au)))) (aJ 1)
 (aH (aS (aU (n:=2) (f:=d5) (ai (af 0) (ai (af 1) au))))
 (aH (aS (av cg (aD 1) (aU (n:=3) (f:=aR) (ai (af 2) (ai (aD 45) (ai (aD 4) au))))))
 (aH (xI (K6 (fO (n:=3) (f:=gJ) (ai (af 0) (ai (af 1) (ai (af 3) au))))) (fq (bM (aJ 4) (bM (aJ 5) fo))))
 (aH (aS (aU (n:=2) (f:=eX) (ai (av cg (af 2) (aD 1)) (ai (af 3) au))))
 (aH (aS (aU (n:=2) (f:=eX) (ai (af 2) (ai (bt d7 (ai (af 4) au)) au))))
 (aH (aS (Lq (c:=0) (n:=2) (f:=iQ) (ai (af 6) (ai (aU (n:=4) (f:=gP) (ai (af 4) (ai (af 6) (ai (af 7) (ai (af 2) au))))) au))))
 (aH (aS (jm (fO (n:=1) (f:=jA) (ai (af 8) au))))
 (aH (aS (fO (n:=1) (f:=oK) (ai (af 8) au)))
 (aH (aS (bQ (m:=1) (caps:=[7,9]) (eS (ai (bt d7 (ai (af 4) au)) au)) (aJ 0) (qI (bt Fu (ai (bQ (m:=1) (caps:=[0]) (bW (af 2)) (aJ 0) bR (av iu (av bT (af 0) (af 1)) (aD 0))) au))) (av bT (af 1) (af 0))))
 (aH (dj (AJ (xR (qI (BG ty_list (af 10)))) (bO (av uG (af 10) (af 13))))
 (bj (uR false))
 ck)
 (aH (dj (bO (av uG (af 13) (bQ (m:=1) (caps:=[8]) (bW (af 7)) (aJ 0) (bO (av iu (av bT (fO (n:=2) (f:=tN) (ai (af 1) (ai (af 0) au))) (aD 0)) (mN ("never" :Str)))) (af 0))))
 (bj (uR false))
 ck)
 (aH (eE (bW (af 5)) (aJ 12)
 (eE (eS (ai (bt d7 (ai (af 4) au)) au)) (aJ 11)
 (dj (xG (bO (av kW (av bT (af 12) (af 11)) (aD 0))) (bO (av EI (av bT (af 7) (af 11)) (af 13))))
 (bj (uR false))
 ck)))
 (aH (dy (g5 (af 10) (mN ("z" :Str))))
 (dj (bO (av uG (jm (fO (n:=1) (f:=oK) (ai (af 8) au))) (af 13)))
 (bj (uR false))
 ck)))))))))))))))
 (bj (uR true)))⟩
end
theorem yY(ns:List Int)(k:Nat):∃c,d5 [vI ns,.int (k:Int)] []=.ok (.int c,[])/\(k<ns.length->c=nth ns k):=by
 by_cases h:k<ns.length
 ·refine⟨nth ns k,cS (s:=⟨[some (vI ns),some (.int (k:Int))],[]⟩) ?_,λ_=>rfl⟩
  have hk:((k:Int)<(ns.length:Int)):=by omega
  simp[qC,hk,i6 h]
 ·refine⟨0,cS (s:=⟨[some (vI ns),some (.int (k:Int))],[]⟩) ?_,λz=>absurd z h⟩
  have hk:¬((k:Int)<(ns.length:Int)):=by omega
  simp[qC,hk]
def azB(x:Str):Bool:= !decide (x.cps.toList<("a" :Str).cps.toList)&& !decide (("z" :Str).cps.toList<x.cps.toList)
theorem Cm(O:ay)(i j:Str):sk O (.str i) (.str j)=.ok (.bl (!decide (j.cps.toList<i.cps.toList))):=rfl
theorem Ms{x:Str}(h:s.r[i]? =some (some (.str x))):lg sk sk (aq (.str ("a" :Str))) (aa i) (aq (.str ("z" :Str))) s=.ok (.bl (azB x),s):=by
 rw[zj,aC,aj,ag h,aj]
 dsimp only
 rw[Cm,aj]
 unfold azB
 cases (!decide (x.cps.toList<("a" :Str).cps.toList)) with
 | false=>rfl
 | true=>
  dsimp only
  rw[aC,aj]
  dsimp only
  rw[Cm,aj]
  rfl
def nmB(z:Str):Bool:=decide (1<=z.length)&&decide (z.length<=8)&&z.cps.toList.all λc=>azB ⟨#[c]⟩
theorem len_list(z:Str):z.cps.toList.length=z.length:=by unfold Str.length;simp
theorem Fv(h:z.length<=1000000):mF [.str z] []=.ok (.bl (nmB z),[]):=by
 have J:bo cf (ae (aa 0) ak) ⟨[some (.str z)],[]⟩=.ok (.int (z.length:Int),⟨[some (.str z)],[]⟩):=by
  rw[iV,aV,ag (i:=0) rfl,aj,aG,aj,aj]
  dsimp only
  rw[Cz (lU h),aj]
 have U:orT (bg (ao ltD (bo cf (ae (aa 0) ak)) (aq (.int 1)))) (bg (ao gtD (bo cf (ae (aa 0) ak)) (aq (.int 8)))) ⟨[some (.str z)],[]⟩=.ok (decide ((z.length:Int)<1)||decide ((8:Int)<(z.length:Int)),⟨[some (.str z)],[]⟩):=by
  rw[um,hE,dH,J,aj,aC,aj]
  dsimp only
  rw[nM,aj,aj]
  dsimp only
  rw[aj]
  dsimp only
  rw[jJ J]
  cases decide ((z.length:Int)<1) <;> rfl
 have hc:=dE (l:=z.cps.toList) (item:=λc=>.str ⟨#[c]⟩) (out:=λc=>.bl (azB ⟨#[c]⟩)) (caps:=[]) (im:=EA (aa 0)) (e:=lg sk sk (aq (.str ("a" :Str))) (aa 0) (aq (.str ("z" :Str)))) (k:=none) (s:=⟨[some (.str z)],[]⟩) (by
  rw[KW,ag (i:=0) rfl,aj];rfl) trivial (by rw[len_list];exact lU h) (λc _=>Ms rfl)
 rw[show z.cps.toList.map (λc=>D.bl (azB ⟨#[c]⟩))=(z.cps.toList.map λc=>azB ⟨#[c]⟩).map D.bl by rw[ss];rfl] at hc
 refine cS (s:=⟨[some (.str z)],[]⟩) ?_
 show tL ⟨[some (.str z)],[]⟩=_
 rw[tL]
 by_cases h1:z.length<1\/8<z.length
 ·rw[show nmB z=false by
   unfold nmB
   rcases h1 with q | q
   ·rw[decide_eq_false (by omega:¬1<=z.length),Qx,Qx]
   ·rw[decide_eq_false (by omega:¬z.length<=8),QY,Qx]]
  refine ky (vr (u7 (s':=⟨[some (.str z)],[]⟩) ?_) (bI (aC _ _)))
  rw[U]
  rcases h1 with q | q
  ·rw[decide_eq_true (show (z.length:Int)<1 by omega),SH]
  ·rw[decide_eq_true (show (8:Int)<(z.length:Int) by omega),Bool.or_true]
 ·refine vr (bL (vr (ki (s':=⟨[some (.str z)],[]⟩) ?_) rfl)) (bI ?_)
  ·rw[U,decide_eq_false (show ¬(z.length:Int)<1 by omega),decide_eq_false (show ¬(8:Int)<(z.length:Int) by omega),Q4]
  ·rw[iV,aV,hc,aj,aG,aj,aj]
   dsimp only
   rw[Bk,aj]
   unfold nmB
   rw[decide_eq_true (by omega:1<=z.length),decide_eq_true (by omega:z.length<=8),Qo,Qo,QL]
   rfl
abbrev ABC:Str:="abcdefghijklmnopqrstuvwxyz"
theorem LX:sg ABC=(pc 26).map (97 + ·):=by decide
def mkS(l:List Nat):Str:=⟨l.toArray⟩
theorem gD(l:List Nat):sg (mkS l)=l:=by simp[sg,mkS]
theorem jr(l:List Nat):(mkS l).length=l.length:=by rw[<- xg,gD]
def azL(l:List Nat):Prop:=∀c∈l,97<=c/\c<=122
theorem J2(c:Nat):azB ⟨#[c]⟩=(decide (97<=c)&&decide (c<=122)):=by
 unfold azB
 rw[show ("a" :Str).cps.toList=[97] by decide,show ("z" :Str).cps.toList=[122] by decide]
 show (!decide ([c] < [97])&& !decide ([122] < [c]))=_
 rw[StrLaws.lt_cons_cons,StrLaws.lt_cons_cons,StrLaws.lt_nil_nil,QY,Q4,QY,Q4]
 congr 1
 ·rw[Fk];simp
 ·rw[Fk];simp
structure iE(z:Str):Prop where
 lo:1<=z.length
 hi:z.length<=8
 az:azL (sg z)
theorem iE.nm(h:iE z):nmB z=true:=by
 unfold nmB
 rw[decide_eq_true h.lo,decide_eq_true h.hi,Qo,Qo,PM]
 intro c hc
 have:=h.az c hc
 rw[J2,decide_eq_true this.1,decide_eq_true this.2];rfl
theorem Hg{i:Int}(h0:0<=i)(h1:i<26):ixD O (.str ABC) (.int i)=.ok (.str (mkS [97+i.toNat])):=by
 have J:i.toNat<ABC.cps.toList.length:=by rw[show ABC.cps.toList.length=26 by decide];omega
 have ha:=n9 J
 rw[show ((i.toNat:Nat):Int)=i by omega] at ha
 have U:ABC.cps.toList[i.toNat]=97+i.toNat:=by
  have:=LX
  rw[List.getElem_of_eq this]
  simp
 rw[U] at ha
 show (if ABC.length<=16777216 then (match atI ABC.cps.toList i with
  | some c=>Res.ok (D.str ⟨#[c]⟩)
  | none=>.bad) else .bad)=_
 rw[if_pos (by decide),ha]
 rfl
theorem mw{pre rest:List D}(h:(pc n).map (λ(i:Nat)=>D.int (i:Int))=pre++d::rest):d=.int (pre.length:Int)/\pre.length<n:=by
 have h1:((pc n).map (λ(i:Nat)=>D.int (i:Int)))[pre.length]? =some d:=by rw[h];simp
 have h2:pre.length<n:=by
  have:=congrArg PP h
  simp at this
  omega
 rw[sI,Pp h2] at h1
 exact⟨by simpa using h1.symm,h2⟩
def rh(q:Int)(k:Nat):Nat:=97+((q+3*(k:Int)+1)%26).toNat
def nmK(wd:List Nat)(at_:Nat)(q:Int)(B:Bool)(k:Nat):List Nat:=
 if B then (if k=0 then wd else if k=1 then wd.take (wd.length-1) else wd++[rh q k]) else wd.take at_++[rh q k]++wd.drop (at_+1)
theorem El{at_ k:Nat}{q:Int}{B:Bool}(h:at_<wd.length):(nmK wd at_ q B k).length=if B then (if k=0 then wd.length else if k=1 then wd.length-1 else wd.length+1) else wd.length:=by
 unfold nmK
 cases B with
 | false=>simp;omega
 | true=>
  by_cases h0:k=0
  ·simp[h0]
  ·by_cases h1:k=1
   ·simp[h1]
   ·simp[h0,h1]
theorem OY{at_ i j:Nat}{q:Int}{B:Bool}(h:at_<wd.length)(h2:2<=wd.length)(U:i<j)(Y:j<8):nmK wd at_ q B i≠nmK wd at_ q B j:=by
 intro e
 have hs:rh q i≠rh q j:=by unfold rh;omega
 cases B with
 | false=>
  unfold nmK at e
  simp only[if_neg ut] at e
  have J:(wd.take at_).length=at_:=by rw[Qn];omega
  have key:∀x:Nat,(wd.take at_++[x]++wd.drop (at_+1))[at_]? =some x:=λx=>by
   rw[Ix,re (by omega),J,RQ];rfl
  have e1:(wd.take at_++[rh q i]++wd.drop (at_+1))[at_]? =(wd.take at_++[rh q j]++wd.drop (at_+1))[at_]? :=by rw[e]
  rw[key,key] at e1
  have e1:rh q i=rh q j:=by simpa using e1
  exact hs e1
 | true=>
  have J:=congrArg PP e
  rw[El h,El h] at J
  simp only[if_true] at J
  by_cases h0:i=0
  ·subst h0
   rw[if_pos rfl,if_neg (by omega)] at J
   split at J <;> omega
  ·rw[if_neg h0,if_neg (show ¬j=0 by omega)] at J
   by_cases h1:i=1
   ·rw[if_pos h1,if_neg (by omega)] at J;omega
   ·unfold nmK at e
    rw[if_pos rfl,if_pos rfl,if_neg h0,if_neg h1,if_neg (show ¬j=0 by omega),if_neg (show ¬j=1 by omega)] at e
    have:=List.append_cancel_left e
    simp at this
    exact hs this
abbrev sD(l:List Str):D:=.lst (l.map D.str)
theorem sU{a b:Str}(h:a.length+b.length<=1000000):br O (.str a) (.str b)=.ok (.str (a++b)):=if_pos (lU h)
abbrev pD(p:Str×Int):D:=.tup [.str p.1,.int p.2]
abbrev psD(l:List (Str×Int)):D:=.lst (l.map pD)
structure Wk where
 nm:Str
 us:List (Str×Int)
 ms:List (Str×Int)
abbrev wD(w:Wk):D:=.tup [.str w.nm,psD w.us,psD w.ms]
abbrev wsD(l:List Wk):D:=.lst (l.map wD)
@[simp] theorem da (l:List Str):aQ (l.map D.str)=true:=by
 induction l with
 | nil=>rfl
 | cons a l J=>simp[aQ,cU,J]
@[simp] theorem gw (l:List (Str×Int)):aQ (l.map pD)=true:=by
 induction l with
 | nil=>rfl
 | cons a l J=>simp[aQ,cU,J]
@[simp] theorem lr (l:List Wk):aQ (l.map wD)=true:=by
 induction l with
 | nil=>rfl
 | cons a l J=>simp[aQ,cU,J]
theorem ip(O:ay)(l:List Str):bZ O (l.map D.str)=l.map D.str:=by
 induction l with
 | nil=>unfold bZ;rfl
 | cons a l J=>rw[sH];unfold bZ;rw[J];unfold res;rfl
theorem Eb(z:Str)(l:List Str):aQ [.str z,.lst (l.map D.str)]=true:=by
 show (true&&(aQ (l.map D.str)&&true))=true
 rw[da];rfl
theorem HQ(z:Str)(l m:List Str):aQ [.str z,.lst (l.map D.str),.lst (m.map D.str)]=true:=by
 show (true&&(aQ (l.map D.str)&&(aQ (m.map D.str)&&true)))=true
 rw[da,da];rfl
theorem Hs{l:List Str}(h:O[k]? =some (.lst (l.map D.str)))(z:Str)(g:List Str):bZ O (bZ O [.str z,.lst (g.map D.str),.ptr k])=[.str z,.lst (g.map D.str),.lst (l.map D.str)]:=by
 have h1:bZ O [.str z,.lst (g.map D.str),.ptr k]=[.str z,.lst (g.map D.str),.lst (l.map D.str)]:=by
  simp only[bZ,res,ip,h]
 rw[h1]
 simp only[bZ,res,ip]
theorem KI{l:List Str}(h:O[k]? =some (.lst (l.map D.str)))(z:Str):bZ O (bZ O [.str z,.ptr k])=[.str z,.lst (l.map D.str)]:=by
 have h1:bZ O [.str z,.ptr k]=[.str z,.lst (l.map D.str)]:=by
  simp only[bZ,res,ip,h]
 rw[h1]
 simp only[bZ,res,ip]
theorem kL{α:Type}(f:α->D)(l:List α):dO (l.map f)=l.zipIdx.map λp=>.tup [.int (p.2:Int),f p.1]:=by
 unfold dO
 rw[P5,QQ,ss]
 rfl
theorem oO{α:Type}{g:α×Nat->D}{l:List α}{pre rest:List D}(h:l.zipIdx.map g=pre++d::rest):∃(J:pre.length<l.length),d=g (l[pre.length],pre.length):=by
 have J:pre.length<l.length:=by
  have:=congrArg PP h
  simp at this
  omega
 have h1:(l.zipIdx.map g)[pre.length]? =some d:=by rw[h];simp
 rw[sI,na (by simpa using J)] at h1
 refine⟨J, ?_⟩
 simpa using h1.symm
theorem zt{α:Type}{g:α->D}{l:List α}{pre rest:List D}(h:l.map g=pre++d::rest):∃(J:pre.length<l.length),d=g (l[pre.length]):=by
 have J:pre.length<l.length:=by
  have:=congrArg PP h
  simp at this
  omega
 have h1:(l.map g)[pre.length]? =some d:=by rw[h];simp
 rw[sI,na J] at h1
 exact⟨J,by simpa using h1.symm⟩
theorem kP{m:SM}(h:m ⟨ds.map some++pr (n-ds.length) none,O⟩=.next s):runM n m ds O=.ok (.non,s.o):=by
 unfold runM;rw[h]
theorem yk(z:Str)(l:List Str):inD O (.str z) (sD l)=.ok (.bl (l.any (· == z))):=by
 unfold inD inB
 dsimp only
 rw[lO]
 dsimp only
 rw[ni]
theorem xu(z:Str)(l:List Str):qk O (.str z) (sD l)=.ok (.bl (!l.any (· == z))):=by
 unfold qk inB
 dsimp only
 rw[lO]
 dsimp only
 rw[ni]
theorem Mz{l:List Str}(h:z∈l):l.any (· == z)=true:=Rq.mpr ⟨z,h,by simp⟩
theorem D4{l:List Str}(h:z∉l):l.any (· == z)=false:=by
 rw[RV]
 intro y hy e
 have:y=z:=by simpa using e
 exact h (this▸hy)
theorem jO{l:List Str}(h:l.Nodup)(hi:i<l.length):l[i]∉l.take i:=by
 intro hm
 obtain⟨j,J,e⟩:=Pn hm
 rw[Qn] at J
 rw[List.getElem_take] at e
 exact Qp.mp h j i (by omega) hi (by omega) e
theorem Lm{J:List Wk}(h1:goods.length<=10)(h2:J.length<=10):jt [sD goods,wsD J] []=.ok (.non,[]):=by
 refine kP (s:=⟨[some (sD goods),some (wsD J)],[]⟩) ?_
 show oh ⟨[some (sD goods),some (wsD J)],[]⟩=_
 rw[oh]
 have U:∀(i:Nat) (ds:List D),[some (sD goods),some (wsD J)][i]? =some (some (.lst ds))->bo cf (ae (aa i) ak) ⟨[some (sD goods),some (wsD J)],[]⟩=.ok (.int (ds.length:Int),⟨[some (sD goods),some (wsD J)],[]⟩):=λi ds h=>by
  rw[iV,aV,ag h,aj,aG,aj,aj]
  dsimp only
  rw[gL,aj]
 refine vr (bL (vr (ki (by rw[jJ (U 0 _ rfl),nW,decide_eq_false (by omega)])) rfl)) ?_
 exact vr (ki (by rw[jJ (U 1 _ rfl),nW,decide_eq_false (by omega)])) rfl
theorem Ec{l:List Str}(hz:iE z)(J:z∉l):f6 [.str z,sD l] []=.ok (.non,[]):=by
 refine kP (s:=⟨[some (.str z),some (sD l)],[]⟩) ?_
 show n5 ⟨[some (.str z),some (sD l)],[]⟩=_
 rw[n5]
 have h1:aN 1 mF (ae (aa 0) ak) ⟨[some (.str z),some (sD l)],[]⟩=.ok (.bl true,⟨[some (.str z),some (sD l)],[]⟩):=cx (ds:=[.str z]) (by rw[aV,ag (i:=0) rfl];rfl) (by simp) rfl (by rw[Fv (by have:=hz.hi;omega),hz.nm]) (by simp)
 refine vr (bL (vr (ki (s':=⟨[some (.str z),some (sD l)],[]⟩) ?_) rfl)) (vr (ki (s':=⟨[some (.str z),some (sD l)],[]⟩) ?_) rfl)
 ·rw[qj,hE,h1];rfl
 ·rw[hE,dH,ag (i:=0) rfl,aj,ag (i:=1) rfl,aj]
  dsimp only
  rw[yk,D4 J];rfl
theorem Js(h:∀z∈goods,iE z)(nd:goods.Nodup):∃O,iL [sD goods] []=.ok (.non,O):=by
 obtain⟨s',el,J,U,Y⟩:=eU (ok:=okC (dO (goods.map D.str)) none) (g:=cV (aX (ax 1) (aX (ax 2) cZ)) 2) (body:=jb)
  (λ_ s=>∃J U,s=⟨[some (sD goods),J,U],[]⟩) (λ_ _ _=>trivial) (dO (goods.map D.str)) [] (by
   rintro pre d rest ed s ⟨J,U,rfl⟩
   rw[vG,kL] at ed
   obtain⟨hl,rfl⟩:=oO ed
   refine⟨⟨[some (sD goods),some (.int (pre.length:Int)),some (.str (goods[pre.length]))],[]⟩,⟨[some (sD goods),some (.int (pre.length:Int)),some (.str (goods[pre.length]))],[]⟩,by rw[ow];rfl,.inl ?_,_,_,rfl⟩
   rw[jb]
   refine cT (cx (ds:=[.str (goods[pre.length]),sD (goods.take pre.length)]) (d:=.non) ?_ (Eb _ _) rfl (Ec (h _ (wT _)) (jO nd hl)) (by simp))
   rw[aV,ag (i:=2) rfl,aj,aV,FL,ag (i:=0) rfl,aj,zB,aj,yV,ag (i:=1) rfl,aj]
   dsimp only
   rw[aj]
   dsimp only
   rw[lO]
   dsimp only
   unfold M.cutD
   rw[HT.Cr,HT.Eh,nW,show min pre.length goods.length=pre.length by omega,RE,Nat.sub_zero,<- List.map_take]
   rfl) ⟨[some (sD goods),none,none],[]⟩ ⟨_,_,rfl⟩
 have hf:=dQ (im:=cP (ae (aa 0) ak)) (g:=cV (aX (ax 1) (aX (ax 2) cZ)) 2) (body:=jb) (s:=⟨[some (sD goods),none,none],[]⟩) (ds:=dO (goods.map D.str)) (k:=none) (s1:=⟨[some (sD goods),none,none],[]⟩) (by
  rw[iH,aV,ag (i:=0) rfl,aj,aG,aj,aj])
 rw[el,Y] at hf
 exact⟨_,kP (s:=⟨[some (sD goods),J,U],[]⟩) (by
  show mQ ⟨[some (sD goods),none,none],[]⟩=_
  rw[mQ,hf])⟩
theorem Km{goods l:List Str}(h1:z∈goods)(h2:z∉l):jG [.str z,sD goods,sD l] []=.ok (.non,[]):=by
 refine kP (s:=⟨[some (.str z),some (sD goods),some (sD l)],[]⟩) ?_
 show oB ⟨[some (.str z),some (sD goods),some (sD l)],[]⟩=_
 rw[oB]
 refine vr (bL (vr (ki (s':=⟨[some (.str z),some (sD goods),some (sD l)],[]⟩) ?_) rfl)) (vr (ki (s':=⟨[some (.str z),some (sD goods),some (sD l)],[]⟩) ?_) rfl)
 ·rw[hE,dH,ag (i:=0) rfl,aj,ag (i:=1) rfl,aj]
  dsimp only
  rw[xu,Mz h1];rfl
 ·rw[hE,dH,ag (i:=0) rfl,aj,ag (i:=2) rfl,aj]
  dsimp only
  rw[yk,D4 h2];rfl
theorem EK(i:Int):k7 [.int i] []=.ok (.bl true,[]):=by
 refine cS (s:=⟨[some (.int i)],[]⟩) ?_
 simp[xw]
theorem F0{i:Int}(h:1<=i):hJ [.int i] []=.ok (.non,[]):=by
 refine kP (s:=⟨[some (.int i)],[]⟩) ?_
 show lM ⟨[some (.int i)],[]⟩=_
 rw[lM]
 refine vr (ki (s':=⟨[some (.int i)],[]⟩) ?_) rfl
 have h1:aN 1 k7 (ae (aa 0) ak) ⟨[some (.int i)],[]⟩=.ok (.bl true,⟨[some (.int i)],[]⟩):=cx (ds:=[.int i]) (by rw[aV,ag (i:=0) rfl];rfl) (by simp) rfl (EK i) (by simp)
 rw[um,qj,hE,h1,aj,aj]
 dsimp only
 rw[aj]
 dsimp only
 rw[if_neg (by decide),hE,dH,ag (i:=0) rfl,aj,aC,aj]
 dsimp only
 rw[nM,decide_eq_false (by omega)];rfl
theorem B6{f:FM}{ma:AM}{s s':S}{ds rs:List D}(h:ma s=.ok (ds,s'))(hr:bZ s'.o (bZ s'.o ds)=rs)(hp:aQ rs=true)(J:ds.length=n)(U:f rs []=.ok (d,O))(hd:nk d=true):kc n f ma s=.ok (d,s'):=by
 unfold kc
 rw[h,aj]
 dsimp only
 rw[hr,if_pos ⟨hp,J⟩,U]
 dsimp only
 rw[if_pos hd]
structure jP(goods:List Str)(l:List (Str×Int)):Prop where
 mem:∀p∈l,p.1∈goods
 pos:∀p∈l,1<=p.2
 nd:(l.map (·.1)).Nodup
theorem BY(h:jP goods l)(hl:l.length<=1000):∃O,ft [psD l,sD goods] []=.ok (.non,O):=by
 have e2:setM 2 (iZ ak) ⟨[some (psD l),some (sD goods),none,none,none],[]⟩=.next ⟨[some (psD l),some (sD goods),some (.ptr 0),none,none],[.lst []]⟩:=by simp
 obtain⟨s',el,Y,y4,ap⟩:=eU (ok:=okC (l.map pD) none) (g:=cV (aX (ax 3) (aX (ax 4) cZ)) 2) (body:=ja)
  (λpre s=>∃Y y4,s=⟨[some (psD l),some (sD goods),some (.ptr 0),Y,y4],[.lst (((l.map (·.1)).take pre.length).map D.str)]⟩) (λ_ _ _=>trivial) (l.map pD) [] (by
   rintro pre d rest ed s ⟨Y,y4,rfl⟩
   rw[vG] at ed
   obtain⟨U,rfl⟩:=zt ed
   have hm:l[pre.length]∈l:=wT _
   have J:(l[pre.length]).1∉(l.map (·.1)).take pre.length:=by
    have:=jO h.nd (i:=pre.length) (by simpa using U)
    simpa using this
   generalize hx:l[pre.length]=x at hm J
   refine⟨⟨[some (psD l),some (sD goods),some (.ptr 0),some (.str x.1),some (.int x.2)],[.lst (((l.map (·.1)).take pre.length).map D.str)]⟩,⟨[some (psD l),some (sD goods),some (.ptr 0),some (.str x.1),some (.int x.2)],[.lst (((l.map (·.1)).take (pre.length+1)).map D.str)]⟩,by rw[ow];rfl,.inl ?_,some (.str x.1),some (.int x.2),by rw[u8,xz]⟩
   rw[ja]
   have k1:=cT (B6 (n:=3) (f:=jG) (ma:=ae (aa 3) (ae (aa 1) (ae (aa 2) ak))) (s:=⟨[some (psD l),some (sD goods),some (.ptr 0),some (.str x.1),some (.int x.2)],[.lst (((l.map (·.1)).take pre.length).map D.str)]⟩) (s':=⟨[some (psD l),some (sD goods),some (.ptr 0),some (.str x.1),some (.int x.2)],[.lst (((l.map (·.1)).take pre.length).map D.str)]⟩) (ds:=[.str x.1,sD goods,.ptr 0]) (rs:=[.str x.1,sD goods,sD ((l.map (·.1)).take pre.length)]) (by
    rw[aV,ag (i:=3) rfl,aj,aV,ag (i:=1) rfl,aj,aV,ag (i:=2) rfl];rfl) (Hs rfl _ _) (HQ _ _ _) rfl (Km (h.mem x hm) J) (by rfl))
   have k2:=cT (cx (n:=1) (f:=hJ) (ma:=ae (aa 4) ak) (s:=⟨[some (psD l),some (sD goods),some (.ptr 0),some (.str x.1),some (.int x.2)],[.lst (((l.map (·.1)).take pre.length).map D.str)]⟩) (s':=⟨[some (psD l),some (sD goods),some (.ptr 0),some (.str x.1),some (.int x.2)],[.lst (((l.map (·.1)).take pre.length).map D.str)]⟩) (ds:=[.int x.2]) (by rw[aV,ag (i:=4) rfl];rfl) (by simp) rfl (F0 (h.pos x hm)) (by simp))
   refine vr (bL k1) (vr (bL k2) ?_)
   refine vr (cT (uT (mo:=aa 2) (me:=aa 3) (k:=0) (d:=.str x.1) (ag rfl) rfl (ag rfl) rfl (by simp;omega))) ?_
   have ht:(l.map (·.1)).take (pre.length+1)=(l.map (·.1)).take pre.length++[x.1]:=by
    rw[Qg,sI,na U,hx];rfl
   rw[ht,wp]
   rfl) ⟨[some (psD l),some (sD goods),some (.ptr 0),none,none],[.lst []]⟩ ⟨_,_,rfl⟩
 have hf:=dQ (im:=listI (aa 0)) (g:=cV (aX (ax 3) (aX (ax 4) cZ)) 2) (body:=ja) (s:=⟨[some (psD l),some (sD goods),some (.ptr 0),none,none],[.lst []]⟩) (ds:=l.map pD) (k:=none) (s1:=⟨[some (psD l),some (sD goods),some (.ptr 0),none,none],[.lst []]⟩) (by rw[cM,ag (i:=0) rfl];rfl)
 rw[el] at hf
 exact⟨_,kP (s:=s') (by
  show mU ⟨[some (psD l),some (sD goods),none,none,none],[]⟩=_
  rw[mU,bL e2]
  exact hf)⟩
@[simp] theorem IA (g h i:GM) (a b c:D) (s:S):cV (aX g (aX h (aX i cZ))) 3 (.tup [a,b,c]) s=(g a s).bind λs1=>(h b s1).bind λs2=>i c s2:=by
 show (g a s).bind (λs1=>(h b s1).bind λs2=>(i c s2).bind λJ=>.ok J)=_
 congr 1
 funext s1
 congr 1
 funext s2
 cases i c s2 <;> rfl
structure yx(goods:List Str)(ws:List Wk):Prop where
 nm:∀w∈ws,iE w.nm
 nd:(ws.map (·.nm)).Nodup
 us:∀w∈ws,jP goods w.us/\w.us.length<=100
 ms:∀w∈ws,jP goods w.ms/\w.ms.length<=100
theorem Hm(h:yx goods ws)(hl:ws.length<=1000):∃O,iF [wsD ws,sD goods] []=.ok (.non,O):=by
 have e2:setM 2 (iZ ak) ⟨[some (wsD ws),some (sD goods),none,none,none,none],[]⟩=.next ⟨[some (wsD ws),some (sD goods),some (.ptr 0),none,none,none],[.lst []]⟩:=by simp
 obtain⟨s',el,y3,y4,y5,az⟩:=eU (ok:=okC (ws.map wD) none) (g:=cV (aX (ax 3) (aX (ax 4) (aX (ax 5) cZ))) 3) (body:=i8)
  (λpre s=>∃y3 y4 y5,s=⟨[some (wsD ws),some (sD goods),some (.ptr 0),y3,y4,y5],[.lst (((ws.map (·.nm)).take pre.length).map D.str)]⟩) (λ_ _ _=>trivial) (ws.map wD) [] (by
   rintro pre d rest ed s ⟨y3,y4,y5,rfl⟩
   rw[vG] at ed
   obtain⟨U,rfl⟩:=zt ed
   have hm:ws[pre.length]∈ws:=wT _
   have J:(ws[pre.length]).nm∉(ws.map (·.nm)).take pre.length:=by
    have:=jO h.nd (i:=pre.length) (by simpa using U)
    simpa using this
   generalize hx:ws[pre.length]=x at hm J
   refine⟨⟨[some (wsD ws),some (sD goods),some (.ptr 0),some (.str x.nm),some (psD x.us),some (psD x.ms)],[.lst (((ws.map (·.nm)).take pre.length).map D.str)]⟩,⟨[some (wsD ws),some (sD goods),some (.ptr 0),some (.str x.nm),some (psD x.us),some (psD x.ms)],[.lst (((ws.map (·.nm)).take (pre.length+1)).map D.str)]⟩,by rw[IA];rfl,.inl ?_,some (.str x.nm),some (psD x.us),some (psD x.ms),by rw[u8,xz]⟩
   rw[i8]
   obtain⟨O1,p1⟩:=BY (h.us x hm).1 (by have:=(h.us x hm).2;omega)
   obtain⟨O2,p2⟩:=BY (h.ms x hm).1 (by have:=(h.ms x hm).2;omega)
   have k1:=cT (B6 (n:=2) (f:=f6) (ma:=ae (aa 3) (ae (aa 2) ak)) (s:=⟨[some (wsD ws),some (sD goods),some (.ptr 0),some (.str x.nm),some (psD x.us),some (psD x.ms)],[.lst (((ws.map (·.nm)).take pre.length).map D.str)]⟩) (s':=⟨[some (wsD ws),some (sD goods),some (.ptr 0),some (.str x.nm),some (psD x.us),some (psD x.ms)],[.lst (((ws.map (·.nm)).take pre.length).map D.str)]⟩) (ds:=[.str x.nm,.ptr 0]) (by
    rw[aV,ag (i:=3) rfl,aj,aV,ag (i:=2) rfl];rfl) (KI rfl _) (Eb _ _) rfl (Ec (h.nm x hm) J) (by rfl))
   have Y:∀l:List (Str×Int),aQ [.lst (l.map pD),.lst (goods.map D.str)]=true:=λl=>by
    show (aQ (l.map pD)&&(aQ (goods.map D.str)&&true))=true
    rw[da,gw];rfl
   have k2:=cT (cx (n:=2) (f:=ft) (ma:=ae (aa 4) (ae (aa 1) ak)) (s:=⟨[some (wsD ws),some (sD goods),some (.ptr 0),some (.str x.nm),some (psD x.us),some (psD x.ms)],[.lst (((ws.map (·.nm)).take pre.length).map D.str)]⟩) (s':=⟨[some (wsD ws),some (sD goods),some (.ptr 0),some (.str x.nm),some (psD x.us),some (psD x.ms)],[.lst (((ws.map (·.nm)).take pre.length).map D.str)]⟩) (ds:=[psD x.us,sD goods]) (by rw[aV,ag (i:=4) rfl,aj,aV,ag (i:=1) rfl];rfl) (Y _) rfl p1 (by simp))
   have k3:=cT (cx (n:=2) (f:=ft) (ma:=ae (aa 5) (ae (aa 1) ak)) (s:=⟨[some (wsD ws),some (sD goods),some (.ptr 0),some (.str x.nm),some (psD x.us),some (psD x.ms)],[.lst (((ws.map (·.nm)).take pre.length).map D.str)]⟩) (s':=⟨[some (wsD ws),some (sD goods),some (.ptr 0),some (.str x.nm),some (psD x.us),some (psD x.ms)],[.lst (((ws.map (·.nm)).take pre.length).map D.str)]⟩) (ds:=[psD x.ms,sD goods]) (by rw[aV,ag (i:=5) rfl,aj,aV,ag (i:=1) rfl];rfl) (Y _) rfl p2 (by simp))
   refine vr (bL k1) (vr (bL k2) (vr (bL k3) ?_))
   refine vr (cT (uT (mo:=aa 2) (me:=aa 3) (k:=0) (d:=.str x.nm) (ag rfl) rfl (ag rfl) rfl (by simp;omega))) ?_
   have ht:(ws.map (·.nm)).take (pre.length+1)=(ws.map (·.nm)).take pre.length++[x.nm]:=by
    rw[Qg,sI,na U,hx];rfl
   rw[ht,wp]
   rfl) ⟨[some (wsD ws),some (sD goods),some (.ptr 0),none,none,none],[.lst []]⟩ ⟨_,_,_,rfl⟩
 have hf:=dQ (im:=listI (aa 0)) (g:=cV (aX (ax 3) (aX (ax 4) (aX (ax 5) cZ))) 3) (body:=i8) (s:=⟨[some (wsD ws),some (sD goods),some (.ptr 0),none,none,none],[.lst []]⟩) (ds:=ws.map wD) (k:=none) (s1:=⟨[some (wsD ws),some (sD goods),some (.ptr 0),none,none,none],[.lst []]⟩) (by rw[cM,ag (i:=0) rfl];rfl)
 rw[el] at hf
 exact⟨_,kP (s:=s') (by
  show mW ⟨[some (wsD ws),some (sD goods),none,none,none,none],[]⟩=_
  rw[mW,bL e2]
  exact hf)⟩
theorem J1(w:Wk):j9 [wD w] []=.ok (wD w,[]):=by
 refine cS (s:=⟨[some (wD w)],[]⟩) ?_
 show pS ⟨[some (wD w)],[]⟩=_
 rw[pS]
 refine bI ?_
 have J:∀(k:Int) (d:D),ixD [] (wD w) (.int k)=.ok d->ao ixD (aa 0) (aq (.int k)) ⟨[some (wD w)],[]⟩=.ok (d,⟨[some (wD w)],[]⟩):=λk d h=>by
  rw[dH,ag (i:=0) rfl,aj,aC,aj]
  dsimp only
  rw[h];rfl
 rw[yH,aV,J 0 (.str w.nm) rfl,aj,aV,iV,aV,J 1 (psD w.us) rfl,aj,aG,aj,aj]
 dsimp only
 rw[oS,aj,aj,aV,iV,aV,J 2 (psD w.ms) rfl,aj,aG,aj,aj]
 dsimp only
 rw[oS,aj,aj,aG,aj,aj,aj,aj]
 rfl
def sumOf(g:Str)(l:List (Str×Int)):Int:=((l.filter λp=>decide (p.1=g)).map (·.2)).sum
def chg(w:Wk)(g:Str):Int:=sumOf g w.ms-sumOf g w.us
theorem DN{g:Str}(J:l.length<=1000):eW [.str g,psD l] []=.ok (.int (sumOf g l),[]):=by
 have hc:=yK (l:=l) (item:=pD) (p:=λp=>decide (p.1=g)) (out:=λp=>.int p.2) (caps:=[0]) (im:=listI (aa 1)) (c:=bg (ao eqD (ao ixD (aa 0) (aq (.int 0))) (aa 1))) (e:=ao ixD (aa 0) (aq (.int 1))) (k:=none) (s:=⟨[some (.str g),some (psD l)],[]⟩) (by rw[cM,ag (i:=1) rfl];rfl) trivial (by omega) (λp _=>by
  rw[hE,dH,dH,ag (i:=0) rfl,aj,aC,aj]
  dsimp only
  rw[show ixD [] (pD p) (.int 0)=.ok (.str p.1) from rfl,aj,aj]
  dsimp only
  rw[ag (i:=1) rfl,aj]
  dsimp only
  rw[Ks];rfl) (λp _ _=>by
  rw[dH,ag (i:=0) rfl,aj,aC,aj]
  rfl)
 rw[show (l.filter λp=>decide (p.1=g)).map (λp=>D.int p.2)=((l.filter λp=>decide (p.1=g)).map (·.2)).map D.int by rw[ss];rfl] at hc
 refine cS (s:=⟨[some (.str g),some (psD l)],[]⟩) ?_
 show pC ⟨[some (.str g),some (psD l)],[]⟩=_
 rw[pC]
 refine bI ?_
 rw[iV,aV,hc,aj,aG,aj,aj]
 dsimp only
 rw[tR,aj]
 rfl
theorem Ki{w:Wk}(h1:w.us.length<=1000)(h2:w.ms.length<=1000)(hg:goods.length<=1000):j8 [wD w,sD goods] []=.ok (vI (goods.map (chg w)),[]):=by
 have hc:=dE (l:=goods) (item:=D.str) (out:=λg=>.int (chg w g)) (caps:=[0]) (im:=listI (aa 1)) (e:=ao iB (aN 2 eW (ae (aa 0) (ae (ao ixD (aa 1) (aq (.int 2))) ak))) (aN 2 eW (ae (aa 0) (ae (ao ixD (aa 1) (aq (.int 1))) ak)))) (k:=none) (s:=⟨[some (wD w),some (sD goods)],[]⟩) (by rw[cM,ag (i:=1) rfl];rfl) trivial (by omega) (λg _=>by
  have J:∀l:List (Str×Int),aQ [.str g,.lst (l.map pD)]=true:=λl=>by
   show (true&&(aQ (l.map pD)&&true))=true
   rw[gw];rfl
  have U:aN 2 eW (ae (aa 0) (ae (ao ixD (aa 1) (aq (.int 2))) ak)) ⟨some (.str g)::[0].map (λi=>([some (wD w),some (sD goods)][i]?).getD none),[]⟩=.ok (.int (sumOf g w.ms),⟨some (.str g)::[0].map (λi=>([some (wD w),some (sD goods)][i]?).getD none),[]⟩):=cx (ds:=[.str g,psD w.ms]) (by
   rw[aV,ag (i:=0) rfl,aj,aV,dH,ag (i:=1) rfl,aj,aC,aj];rfl) (J _) rfl (DN h2) (by simp)
  have Y:aN 2 eW (ae (aa 0) (ae (ao ixD (aa 1) (aq (.int 1))) ak)) ⟨some (.str g)::[0].map (λi=>([some (wD w),some (sD goods)][i]?).getD none),[]⟩=.ok (.int (sumOf g w.us),⟨some (.str g)::[0].map (λi=>([some (wD w),some (sD goods)][i]?).getD none),[]⟩):=cx (ds:=[.str g,psD w.us]) (by
   rw[aV,ag (i:=0) rfl,aj,aV,dH,ag (i:=1) rfl,aj,aC,aj];rfl) (J _) rfl (DN h1) (by simp)
  rw[dH,U,aj]
  dsimp only
  rw[Y,aj]
  rfl)
 rw[show goods.map (λg=>D.int (chg w g))=(goods.map (chg w)).map D.int by rw[ss];rfl] at hc
 refine cS (s:=⟨[some (wD w),some (sD goods)],[]⟩) ?_
 show pG ⟨[some (wD w),some (sD goods)],[]⟩=_
 rw[pG]
 exact bI hc
abbrev FN:List Str:=["held_goods","held_works","held_changes"]
abbrev yDs(goods:List Str)(ws:List Wk):List D:=[sD goods,wsD ws,vII (ws.map λw=>goods.map (chg w))]
abbrev yD(goods:List Str)(ws:List Wk):D:=.obj 0 FN (yDs goods ws)
theorem iW(goods:List Str)(ws:List Wk):aQ (yDs goods ws)=true:=by
 show (aQ (goods.map D.str)&&(aQ (ws.map wD)&&(aQ ((ws.map λw=>goods.map (chg w)).map vI)&&true)))=true
 rw[da,lr,kJ];rfl
theorem yr{mo mv:EM}{s s1 s2:S}{ns:List Str}(J:mv s=.ok (d,s1))(U:mo s1=.ok (.ptr k,s2))(hc:s2.o[k]? =some (.ins c ns ds))(Y:f∉ns)(hl:ns.length<1000):rJ c f mo mv s=.next ⟨s2.r,s2.o.set k (.ins c (ns++[f]) (ds++[d]))⟩:=by
 rw[Ik,J,kb]
 dsimp only
 rw[U,kb]
 dsimp only
 rw[hc]
 dsimp only
 rw[if_pos ⟨rfl,Y,hl⟩]
theorem Lo(hg:∀z∈goods,iE z)(nd:goods.Nodup)(U:yx goods ws)(h1:goods.length<=10)(h2:ws.length<=10):iQ [.ptr 0,sD goods,wsD ws] [.ins 0 [] []]=.ok (.non,[.ins 0 FN (yDs goods ws)]):=by
 obtain⟨O1,k1⟩:=Js hg nd
 obtain⟨O2,k2⟩:=Hm U (by omega)
 refine kP (s:=⟨[some (.ptr 0),some (sD goods),some (wsD ws)],[.ins 0 FN (yDs goods ws)]⟩) ?_
 show j6 ⟨[some (.ptr 0),some (sD goods),some (wsD ws)],[.ins 0 [] []]⟩=_
 rw[j6]
 have pg:aQ [.lst (goods.map D.str)]=true:=by
  show (aQ (goods.map D.str)&&true)=true
  rw[da];rfl
 have Y:aQ [.lst (goods.map D.str),.lst (ws.map wD)]=true:=by
  show (aQ (goods.map D.str)&&(aQ (ws.map wD)&&true))=true
  rw[da,lr];rfl
 have ab:aQ [.lst (ws.map wD),.lst (goods.map D.str)]=true:=by
  show (aQ (ws.map wD)&&(aQ (goods.map D.str)&&true))=true
  rw[da,lr];rfl
 have e1:=cT (cx (n:=2) (f:=jt) (ma:=ae (aa 1) (ae (aa 2) ak)) (s:=⟨[some (.ptr 0),some (sD goods),some (wsD ws)],[.ins 0 [] []]⟩) (s':=⟨[some (.ptr 0),some (sD goods),some (wsD ws)],[.ins 0 [] []]⟩) (ds:=[sD goods,wsD ws]) (by rw[aV,ag (i:=1) rfl,aj,aV,ag (i:=2) rfl];rfl) Y rfl (Lm h1 h2) (by simp))
 have e2:=cT (cx (n:=1) (f:=iL) (ma:=ae (aa 1) ak) (s:=⟨[some (.ptr 0),some (sD goods),some (wsD ws)],[.ins 0 [] []]⟩) (s':=⟨[some (.ptr 0),some (sD goods),some (wsD ws)],[.ins 0 [] []]⟩) (ds:=[sD goods]) (by rw[aV,ag (i:=1) rfl];rfl) pg rfl k1 (by simp))
 have e3:=cT (cx (n:=2) (f:=iF) (ma:=ae (aa 2) (ae (aa 1) ak)) (s:=⟨[some (.ptr 0),some (sD goods),some (wsD ws)],[.ins 0 [] []]⟩) (s':=⟨[some (.ptr 0),some (sD goods),some (wsD ws)],[.ins 0 [] []]⟩) (ds:=[wsD ws,sD goods]) (by rw[aV,ag (i:=2) rfl,aj,aV,ag (i:=1) rfl];rfl) ab rfl k2 (by simp))
 have e4:=yr (c:=0) (f:="held_goods") (mo:=aa 0) (mv:=bo kj (ae (aa 1) ak)) (s:=⟨[some (.ptr 0),some (sD goods),some (wsD ws)],[.ins 0 [] []]⟩) (s1:=⟨[some (.ptr 0),some (sD goods),some (wsD ws)],[.ins 0 [] []]⟩) (s2:=⟨[some (.ptr 0),some (sD goods),some (wsD ws)],[.ins 0 [] []]⟩) (d:=sD goods) (k:=0) (ns:=[]) (ds:=[]) (by
  rw[iV,aV,ag (i:=1) rfl,aj,aG,aj,aj]
  dsimp only
  rw[oS,aj]) (ag rfl) rfl (by simp) (by simp)
 have cw:=dE (l:=ws) (item:=wD) (out:=wD) (caps:=[]) (im:=listI (aa 2)) (e:=aN 1 j9 (ae (aa 0) ak)) (k:=none) (s:=⟨[some (.ptr 0),some (sD goods),some (wsD ws)],[.ins 0 ["held_goods"] [sD goods]]⟩) (by rw[cM,ag (i:=2) rfl];rfl) trivial (by omega) (λw _=>cx (ds:=[wD w]) (by rw[aV,ag (i:=0) rfl];rfl) (by
  show ((true&&(aQ (w.us.map pD)&&(aQ (w.ms.map pD)&&true)))&&true)=true
  rw[gw,gw];rfl) rfl (J1 w) (by
  show (true&&(aQ (w.us.map pD)&&(aQ (w.ms.map pD)&&true)))=true
  rw[gw,gw];rfl))
 have e5:=yr (c:=0) (f:="held_works") (mo:=aa 0) (k:=0) (ns:=["held_goods"]) (ds:=[sD goods]) cw (ag rfl) rfl (by decide) (by simp)
 have cc:=dE (l:=ws) (item:=wD) (out:=λw=>vI (goods.map (chg w))) (caps:=[1]) (im:=listI (aa 2)) (e:=aN 2 j8 (ae (aa 0) (ae (aa 1) ak))) (k:=none) (s:=⟨[some (.ptr 0),some (sD goods),some (wsD ws)],[.ins 0 ["held_goods","held_works"] [sD goods,wsD ws]]⟩) (by rw[cM,ag (i:=2) rfl];rfl) trivial (by omega) (λw J=>cx (ds:=[wD w,sD goods]) (by rw[aV,ag (i:=0) rfl,aj,aV,ag (i:=1) rfl];rfl) (by
  show ((true&&(aQ (w.us.map pD)&&(aQ (w.ms.map pD)&&true)))&&(aQ (goods.map D.str)&&true))=true
  rw[gw,gw,da];rfl) rfl (Ki (by have:=(U.us w J).2;omega) (by have:=(U.ms w J).2;omega) (by omega)) (by generalize goods.map (chg w)=r;simp))
 rw[show ws.map (λw=>vI (goods.map (chg w)))=(ws.map λw=>goods.map (chg w)).map vI by rw[ss];rfl] at cc
 have e6:=yr (c:=0) (f:="held_changes") (mo:=aa 0) (k:=0) (ns:=["held_goods","held_works"]) (ds:=[sD goods,wsD ws]) cc (ag rfl) rfl (by decide) (by simp)
 refine vr (bL e1) (vr (bL e2) (vr (bL e3) (vr (bL e4) (vr (bL e5) e6))))
structure Pt(goods:List Str)(i:Nat)(l:List (Str×Int)):Prop where
 mem:∀p∈l,p.1∈goods.take i
 pos:∀p∈l,1<=p.2
 nd:(l.map (·.1)).Nodup
 len:l.length<=i
theorem Pt.same(h:Pt goods i l):Pt goods (i+1) l:=
 ⟨λp hp=>QS (i:=i) (by rw[List.take_take,Sg (QZ i)];exact h.mem p hp),h.pos,h.nd,Nat.le_succ_of_le h.len⟩
theorem Pt.more(J:goods.Nodup)(hi:i<goods.length)(h:Pt goods i l){a:Int}(ha:1<=a):Pt goods (i+1) (l++[(goods[i],a)]):=by
 have hs:=h.same
 refine⟨λp hp=> ?_,λp hp=> ?_, ?_,by rw[u8,xz];have:=h.len;omega⟩
 ·rcases sE.mp hp with q | q
  ·exact hs.mem p q
  ·rw[sB.mp q,show goods.take (i+1)=goods.take i++[goods[i]] by rw[Qg,na hi];rfl]
   exact wP _ (sB.mpr rfl)
 ·rcases sE.mp hp with q | q
  ·exact h.pos p q
  ·rw[sB.mp q];exact ha
 ·rw[wp]
  refine PZ.mpr ⟨h.nd,by simp,λx hx y hy=> ?_⟩
  obtain⟨p,hp,rfl⟩:=li.mp hx
  have:y=goods[i]:=by simpa using hy
  subst this
  intro e
  exact jO J hi (e▸h.mem p hp)
theorem Pt.parts(h:Pt goods i l):jP goods l:=⟨λp hp=>QS (h.mem p hp),h.pos,h.nd⟩
theorem jP.rev(h:jP goods l):jP goods l.reverse:=
 ⟨λp hp=>h.mem p (R9.mp hp),λp hp=>h.pos p (R9.mp hp),by rw[Sa];exact List.pairwise_reverse.mpr (h.nd.imp λe=>e.symm)⟩
def cq(c t m:Int):Int:=(c%2147483647+7)*(48271+7919*t)%2147483647*16807%2147483647/8%m
theorem jv{c t m:Int}(hm:0<m):0<=cq c t m:=PX _ (by omega)
theorem lS{c t m:Int}(hm:0<m):cq c t m<m:=Px _ hm
theorem tx(c t:Int){m:Nat}(hm:0<m):∃r:Nat,cq c t (m:Int)=(r:Int)/\r<m:=⟨(cq c t (m:Int)).toNat,by have:=jv (c:=c) (t:=t) (m:=(m:Int)) (by omega);omega,by have:=jv (c:=c) (t:=t) (m:=(m:Int)) (by omega);have:=lS (c:=c) (t:=t) (m:=(m:Int)) (by omega);omega⟩
theorem Kk{c t m:Int}(hm:0<m):aR [.int c,.int t,.int m] []=.ok (.int (cq c t m),[]):=by
 have h0:0<=c%2147483647:=PX _ (by decide)
 have h1:c%2147483647<2147483647:=Px _ (by decide)
 refine eV (R:=[some (.int c),some (.int t),some (.int m),some (.int ((c%2147483647+7)*(48271+7919*t)%2147483647))]) ?_
 show r8 ⟨[some (.int c),some (.int t),some (.int m),none],[]⟩=_
 rw[r8]
 refine aY (bK (aO (aO (aO (aO (ag rfl) (aC _ _) (f7 (by decide))) (aC _ _) (cy _ _)) (aO (aC _ _) (aO (aC _ _) (ag rfl) (dJ (fJ (.inl (by decide))))) (cy _ _)) (dJ (fJ (.inl (by omega))))) (aC _ _) (f7 (by decide))) rfl) ?_
 exact bI (aO (aO (aO (aO (ag rfl) (aC _ _) (dJ (fJ (.inr (by decide))))) (aC _ _) (f7 (by decide))) (aC _ _) (vE (by decide) (by decide))) (ag rfl) (f7 hm))
theorem f9{ma J U:EM}{c t m:Int}(h1:ma s=.ok (.int c,s))(h2:J s=.ok (.int t,s))(Y:U s=.ok (.int m,s))(hm:0<m):aN 3 aR (ae ma (ae J (ae U ak))) s=.ok (.int (cq c t m),s):=fB (aE h1 (aE h2 (aE Y (aG _)))) (Kk hm) rfl rfl rfl
def sgP(fi:Int)(k:Nat):Nat:=97+((fi+5*(k:Int))%26).toNat
def nmP(wd:List Nat)(sp:Nat)(fi:Int)(k:Nat):List Nat:=wd.take sp++[sgP fi k]++wd.drop sp
theorem MP(fi:Int)(k:Nat):97<=sgP fi k/\sgP fi k<=122:=by unfold sgP;omega
theorem Ie(h:sp<=wd.length)(Y:wd.length<=7)(J:azL wd):iE (mkS (nmP wd sp fi k)):=by
 have U:(nmP wd sp fi k).length=wd.length+1:=by unfold nmP;simp;omega
 refine⟨by rw[jr,U];omega,by rw[jr,U];omega, ?_⟩
 rw[gD]
 intro c hc
 unfold nmP at hc
 rcases sE.mp hc with z | z
 ·rcases sE.mp z with y | y
  ·exact J c (QS y)
  ·rw[sB.mp y];exact MP fi k
 ·exact J c (RI z)
theorem L5{sp i j:Nat}(h:sp<=wd.length)(J:i<j)(Y:j<26):nmP wd sp fi i≠nmP wd sp fi j:=by
 intro e
 have hs:sgP fi i≠sgP fi j:=by unfold sgP;omega
 have U:(wd.take sp).length=sp:=by rw[Qn];omega
 have key:∀x:Nat,(wd.take sp++[x]++wd.drop sp)[sp]? =some x:=λx=>by
  rw[Ix,re (by omega),U,RQ];rfl
 have e1:(nmP wd sp fi i)[sp]? =(nmP wd sp fi j)[sp]? :=by rw[e]
 unfold nmP at e1
 rw[key,key] at e1
 have e1:sgP fi i=sgP fi j:=by simpa using e1
 exact hs e1
theorem names_nodup(h:sp<=wd.length)(hn:n<=26):((pc n).map λk=>mkS (nmP wd sp fi k)).Nodup:=by
 unfold Si
 rw[P0]
 refine PF ?_ (List.pairwise_lt_range (n:=n))
 intro i j _ U J e
 have:=congrArg sg e
 rw[gD,gD] at this
 exact L5 h J (by have:=wn.mp U;omega) this
theorem JU{J U:OM}{s s1 s2 Y:S}{z y:Str}{lo hi:Option Int}(h:me s=.ok (.str z,s1))(hl:J s1=.ok (lo,s2))(hh:U s2=.ok (hi,Y))(hz:z.length<=1000000)(hy:k9 z lo hi=y):slS me J U s=.ok (.str y,Y):=by
 rw[L6,h,aj]
 dsimp only
 rw[hl,aj]
 dsimp only
 rw[hh,aj]
 dsimp only
 rw[if_pos (by omega),hy]
abbrev naR(c:Int)(n:Nat)(wd:List Nat)(J x5 x6:Option D):List (Option D):=[some (.int c),some (.int (n:Int)),some (.str ABC),some (.str (mkS wd)),J,x5,x6]
theorem Ff{c:Int}(U:wd.length<=1000):∃r,iG ⟨naR c n wd (some (.int (k:Int))) none none,[]⟩=.next ⟨naR c n (wd++[r]) (some (.int (k:Int))) none none,[]⟩/\97<=r/\r<=122:=by
 have J:=jv (c:=c) (t:=2+(k:Int)) (m:=26) (by decide)
 have p1:=lS (c:=c) (t:=2+(k:Int)) (m:=26) (by decide)
 refine⟨97+(cq c (2+(k:Int)) 26).toNat, ?_,by omega,by omega⟩
 rw[iG]
 refine bK (aO (ag rfl) (aO (ag rfl) (f9 (ag rfl) (aO (aC _ _) (ag rfl) (cy _ _)) (aC _ _) (by decide)) (Hg J p1)) ?_) rfl
 rw[sU (by rw[jr,jr];simp;omega)]
 rw[show mkS wd++mkS [97+(cq c (2+(k:Int)) 26).toNat]=mkS (wd++[97+(cq c (2+(k:Int)) 26).toNat]) from uj (by rw[BE,gD,gD,gD])]
theorem CA(c:Int)(hn:n<=20):∃zs O,eX [.int c,.int (n:Int)] []=.ok (sD zs,O)/\zs.length=n/\(∀z∈zs,iE z)/\zs.Nodup:=by
 obtain⟨sz,U,az⟩:=tx c 1 (m:=8) (by decide)
 have U:cq c 1 8=(sz:Int):=U
 obtain⟨s',el,wd,J,Y,ab,ac⟩:=eU (ok:=okC (dt 0 (sz:Int)) none) (g:=ax 4) (body:=iG)
  (λpre s=>∃(wd:List Nat) (J:Option D),wd.length=pre.length/\azL wd/\s=⟨naR c n wd J none none,[]⟩) (λ_ _ _=>trivial) (dt 0 (sz:Int)) [] (by
   rintro pre d rest ed s ⟨wd,J,h1,h2,rfl⟩
   rw[vG,eO] at ed
   obtain⟨rfl,a2⟩:=mw ed
   obtain⟨r,eb,r1,r2⟩:=Ff (c:=c) (n:=n) (k:=pre.length) (wd:=wd) (by omega)
   refine⟨_,_,rfl,.inl eb,wd++[r],_,by simp[h1],λz hz=> ?_,rfl⟩
   rcases sE.mp hz with q | q
   ·exact h2 z q
   ·rw[sB.mp q];exact⟨r1,r2⟩) ⟨naR c n [] none none none,[]⟩ ⟨[],none,rfl,(λ_ h=>by cases h),rfl⟩
 rw[vG,gs] at Y
 have Y:wd.length=sz:=by omega
 have hf:fv (dA (ae (aN 3 aR (ae (aa 0) (ae (aq (.int 1)) (ae (aq (.int 8)) ak)))) ak)) (ax 4) iG ⟨naR c n [] none none none,[]⟩=.next ⟨naR c n wd J none none,[]⟩:=by
  refine(dQ (ds:=dt 0 (sz:Int)) (k:=none) (s1:=⟨naR c n [] none none none,[]⟩) (dY (n:=sz) ?_ (by omega))).trans (el.trans (by rw[ac]))
  rw[<- U]
  exact aE (f9 (ag rfl) (aC _ _) (aC _ _) (by decide)) (aG _)
 obtain⟨sp,am,a7⟩:=tx c 10 (m:=wd.length+1) (by omega)
 have e5:setM 5 (aN 3 aR (ae (aa 0) (ae (aq (.int 10)) (ae (ao br (bo cf (ae (aa 3) ak)) (aq (.int 1))) ak)))) ⟨naR c n wd J none none,[]⟩=.next ⟨naR c n wd J (some (.int (sp:Int))) none,[]⟩:=by
  rw[<- am]
  refine bK (f9 (ag rfl) (aC _ _) (aO (fG (aE (ag rfl) (aG _)) (Cz (by rw[jr];omega))) (aC _ _) ?_) (by omega)) rfl
  rw[cy,jr];rfl
 have e6:setM 6 (aN 3 aR (ae (aa 0) (ae (aq (.int 11)) (ae (aq (.int 26)) ak)))) ⟨naR c n wd J (some (.int (sp:Int))) none,[]⟩=.next ⟨naR c n wd J (some (.int (sp:Int))) (some (.int (cq c 11 26))),[]⟩:=bK (f9 (ag rfl) (aC _ _) (aC _ _) (by decide)) rfl
 generalize cq c 11 26=fi at e6
 have a9:(mkS wd).length=wd.length:=jr wd
 have ec:=dE (l:=pc n) (item:=λi:Nat=>D.int (i:Int)) (out:=λk=>.str (mkS (nmP wd sp fi k))) (caps:=[6,2,5,3]) (im:=dA (ae (aa 1) ak)) (e:=ao br (ao br (slS (aa 4) gc (part (aa 3))) (ao ixD (aa 2) (ao gO (ao br (aa 1) (ao dM (aq (.int 5)) (aa 0))) (aq (.int 26))))) (slS (aa 4) (part (aa 3)) gc)) (k:=none) (s:=⟨naR c n wd J (some (.int (sp:Int))) (some (.int fi)),[]⟩) (by
  rw[<- eO]
  exact dY (aE (ag rfl) (aG _)) (by omega)) trivial (by simp;omega) (λk hk=>by
   have p1:k9 (mkS wd) none (some (sp:Int))=mkS (wd.take sp):=uj (by rw[KJ (by omega),gD,gD])
   have p2:k9 (mkS wd) (some (sp:Int)) none=mkS (wd.drop sp):=uj (by rw[Lg (by omega),gD,gD])
   refine aO (aO (JU (ag rfl) (rW _) (C6 (ag rfl)) (by omega) p1) (aO (ag rfl) (aO (aO (ag rfl) (aO (aC _ _) (ag rfl) (dJ (fJ (.inl (by decide))))) (cy _ _)) (aC _ _) (f7 (by decide))) (Hg (by omega) (by omega))) (d:=.str (mkS (wd.take sp++[sgP fi k]))) ?_) (JU (ag rfl) (C6 (ag rfl)) (rW _) (by omega) p2) ?_
   ·rw[sU (by rw[jr,jr];simp;omega)]
    exact congrArg (λz=>Res.ok (D.str z)) (uj (by rw[BE,gD,gD,gD];rfl))
   ·rw[sU (by rw[jr,jr];simp;omega)]
    exact congrArg (λz=>Res.ok (D.str z)) (uj (by rw[BE,gD,gD,gD];rfl)))
 refine⟨(pc n).map λk=>mkS (nmP wd sp fi k),[], ?_,by simp,λz hz=> ?_,names_nodup (by omega) (by omega)⟩
 ·refine eV (R:=naR c n wd J (some (.int (sp:Int))) (some (.int fi))) ?_
  show pP ⟨[some (.int c),some (.int (n:Int)),none,none,none,none,none],[]⟩=_
  rw[pP]
  rw[show (pc n).map (λk=>D.str (mkS (nmP wd sp fi k)))=((pc n).map λk=>mkS (nmP wd sp fi k)).map D.str by rw[ss];rfl] at ec
  exact aY (bK (aC _ _) rfl) (aY (bK (R':=naR c n [] none none none) (aC _ _) rfl) (aY hf (aY e5 (aY e6 (bI ec)))))
 ·obtain⟨k,_,rfl⟩:=li.mp hz
  exact Ie (by omega) (by omega) ab
theorem zU:wW O (.int 10) (.int 12)=.ok (.int 1000000000000):=Ip (by decide) (by decide) (by decide)
theorem rD{i j:Int}(h:0<j):gj O (.int i) (.int j)=.ok (.int (i/j)):=by
 rw[pf (by omega),rV h]
abbrev moR(c:Int)(n:Nat)(w:Bool)(rest span:Int)(x6 x7:Option D):List (Option D):=[some (.int c),some (.int (n:Int)),some (.bl w),some (.ptr 0),some (.int rest),some (.int span),x6,x7]
theorem G0{c:Int}{n k:Nat}{w:Bool}{rest span:Int}{l:List Int}{x7:Option D}(hs:7<=span)(an:span<=2000000000001)(hl:l.length<=1000):
 ∃(v J:Int),lD ⟨moR c n w rest span (some (.int (k:Int))) x7,[.lst (l.map D.int)]⟩=.next ⟨moR c n w J span (some (.int (k:Int))) (some (.int v)),[.lst ((l++[v]).map D.int)]⟩/\Sz 50 v:=by
 have p0:=jv (c:=c) (t:=20+(k:Int)) (m:=7) (by decide)
 have p1:=lS (c:=c) (t:=20+(k:Int)) (m:=7) (by decide)
 have q0:=jv (c:=c) (t:=30+(k:Int)) (m:=2000) (by decide)
 have q1:=lS (c:=c) (t:=30+(k:Int)) (m:=2000) (by decide)
 have e7:setM 7 (ao iB (aN 3 aR (ae (aa 0) (ae (ao br (aq (.int 20)) (aa 6)) (ae (aq (.int 7)) ak)))) (aq (.int 3))) ⟨moR c n w rest span (some (.int (k:Int))) x7,[.lst (l.map D.int)]⟩=.next ⟨moR c n w rest span (some (.int (k:Int))) (some (.int (cq c (20+(k:Int)) 7-3))),[.lst (l.map D.int)]⟩:=bK (aO (f9 (ag rfl) (aO (aC _ _) (ag rfl) (cy _ _)) (aC _ _) (by decide)) (aC _ _) (nV _ _)) rfl
 generalize cq c (20+(k:Int)) 7=p at e7 p0 p1
 have m0:0<=c%1000000000000:=PX _ (by decide)
 have m1:c%1000000000000<1000000000000:=Px _ (by decide)
 have Y:∃v,ifS (bg (aa 2)) (setM 7 (ao iB (ao br (ao dM (aa 7) (ao gO (aa 0) (ao wW (aq (.int 10)) (aq (.int 12))))) (aN 3 aR (ae (aa 0) (ae (ao br (aq (.int 30)) (aa 6)) (ae (aq (.int 2000)) ak))))) (aq (.int 1000)))) cF ⟨moR c n w rest span (some (.int (k:Int))) (some (.int (p-3))),[.lst (l.map D.int)]⟩=.next ⟨moR c n w rest span (some (.int (k:Int))) (some (.int v)),[.lst (l.map D.int)]⟩/\Sz 50 v:=by
  cases w with
  | true=>
   refine⟨(p-3)*(c%1000000000000)+cq c (30+(k:Int)) 2000-1000,k8 (fM (ag rfl)) rfl (bK (aO (aO (aO (ag rfl) (aO (ag rfl) (aO (aC _ _) (aC _ _) zU) (f7 (by decide))) (dJ (fJ (.inl (by omega))))) (f9 (ag rfl) (aO (aC _ _) (ag rfl) (cy _ _)) (aC _ _) (by decide)) (cy _ _)) (aC _ _) (nV _ _)) rfl), ?_⟩
   generalize cq c (30+(k:Int)) 2000=q at q0 q1
   generalize c%1000000000000=m at m0 m1
   have hp:p=0\/p=1\/p=2\/p=3\/p=4\/p=5\/p=6:=by omega
   unfold Sz
   rcases hp with rfl | rfl | rfl | rfl | rfl | rfl | rfl <;> omega
  | false=>exact⟨p-3,gT (fM (ag rfl)) rfl (d8 _),by unfold Sz;omega⟩
 obtain⟨v,Y,zv⟩:=Y
 have e9:∃U J,ifS (pH (bg (ao eqD (ao gO (aa 0) (aq (.int 2))) (aq (.int 1)))) (bg (ao gtD (aa 4) (aq (.int 0))))) (aM (setM 7 (ao iB (ao gO (aa 4) (aa 5)) (ao gj (aa 5) (aq (.int 2))))) (setM 4 (ao gj (aa 4) (aa 5)))) cF ⟨moR c n w rest span (some (.int (k:Int))) (some (.int v)),[.lst (l.map D.int)]⟩=.next ⟨moR c n w J span (some (.int (k:Int))) (some (.int U)),[.lst (l.map D.int)]⟩/\Sz 50 U:=by
  have t1:bg (ao eqD (ao gO (aa 0) (aq (.int 2))) (aq (.int 1))) ⟨moR c n w rest span (some (.int (k:Int))) (some (.int v)),[.lst (l.map D.int)]⟩=.ok (decide (c%2=1),⟨moR c n w rest span (some (.int (k:Int))) (some (.int v)),[.lst (l.map D.int)]⟩):=eq_test (aO (ag rfl) (aC _ _) (f7 (by decide)))
  have t2:bg (ao gtD (aa 4) (aq (.int 0))) ⟨moR c n w rest span (some (.int (k:Int))) (some (.int v)),[.lst (l.map D.int)]⟩=.ok (decide (0<rest),⟨moR c n w rest span (some (.int (k:Int))) (some (.int v)),[.lst (l.map D.int)]⟩):=jJ (ag rfl)
  have ta:=uy t1 t2
  cases hb:(decide (c%2=1)&&decide (0<rest)) with
  | true=>
   refine⟨rest%span-span/2,rest/span,k8 ta hb (aY (bK (aO (aO (ag rfl) (ag rfl) (f7 (by omega))) (aO (ag rfl) (aC _ _) (rD (by decide))) (nV _ _)) rfl) (bK (aO (ag rfl) (ag rfl) (rD (by omega))) rfl)), ?_⟩
   have r0:0<=rest%span:=PX _ (by omega)
   have r1:rest%span<span:=Px _ (by omega)
   unfold Sz
   omega
  | false=>exact⟨v,rest,gT ta hb (d8 _),zv⟩
 obtain⟨U,J,e9,ac⟩:=e9
 refine⟨U,J, ?_,ac⟩
 rw[lD]
 refine aY e7 (aY Y (aY e9 (cT (lX (ag rfl) rfl (ag rfl) rfl (by simp;omega) ?_))))
 rw[wp];rfl
theorem Kr(c:Int)(w:Bool)(hn:n<=100):∃l:List Int,kX [.int c,.int (n:Int),.bl w] []=.ok (.ptr 0,[.lst (l.map D.int)])/\l.length=n/\SzL 50 l:=by
 obtain⟨J,hsp,s0,s1⟩:∃J:Int,(if w=true then 2000000000001 else 7)=J/\7<=J/\J<=2000000000001:=⟨_,rfl,by split <;> decide,by split <;> decide⟩
 have e5:setM 5 (ao ixD (g6 (ae (aq (.int 7)) (ae (ao br (ao dM (aq (.int 2)) (ao wW (aq (.int 10)) (aq (.int 12)))) (aq (.int 1))) ak))) (bo intOf (ae (aa 2) ak))) ⟨[some (.int c),some (.int (n:Int)),some (.bl w),some (.ptr 0),some (.int (c/2)),none,none,none],[.lst []]⟩=.next ⟨moR c n w (c/2) J none none,[.lst []]⟩:=by
  refine bK (aO (rn (aE (aC _ _) (aE (aO (aO (aC _ _) (aO (aC _ _) (aC _ _) zU) (dJ (fJ (.inl (by decide))))) (aC _ _) (cy _ _)) (aG _))) (by simp)) (fG (aE (ag rfl) (aG _)) (wN _)) ?_) rfl
  subst hsp
  cases w <;> rfl
 obtain⟨s',el,l,rest,Y,U,hl,hz,ab⟩:=eU (ok:=okC (dt 0 (n:Int)) none) (g:=ax 6) (body:=lD)
  (λpre s=>∃(l:List Int) (rest:Int) (Y U:Option D),l.length=pre.length/\SzL 50 l/\s=⟨moR c n w rest J Y U,[.lst (l.map D.int)]⟩) (λ_ _ _=>trivial) (dt 0 (n:Int)) [] (by
   rintro pre d rest ed s ⟨l,r,Y,U,h1,h2,rfl⟩
   rw[vG,eO] at ed
   obtain⟨rfl,as⟩:=mw ed
   obtain⟨v,r',eb,zv⟩:=G0 (c:=c) (n:=n) (k:=pre.length) (w:=w) (rest:=r) (span:=J) (l:=l) (x7:=U) s0 s1 (by omega)
   refine⟨_,_,rfl,.inl eb,l++[v],r',_,_,by simp[h1],λz hz=> ?_,rfl⟩
   rcases sE.mp hz with q | q
   ·exact h2 z q
   ·rw[sB.mp q];exact zv) ⟨moR c n w (c/2) J none none,[.lst []]⟩ ⟨[],_,none,none,rfl,(λ_ h=>by cases h),rfl⟩
 rw[vG,gs] at hl
 refine⟨l, ?_,by omega,hz⟩
 refine eV (R:=moR c n w rest J Y U) ?_
 show sf ⟨[some (.int c),some (.int (n:Int)),some (.bl w),none,none,none,none,none],[]⟩=_
 rw[sf]
 refine aY (bK (qm (aG _) (by simp) rfl rfl) rfl) (aY (bK (aO (ag rfl) (aC _ _) (rD (by decide))) rfl) (aY e5 (aY ?_ (bI (ag rfl)))))
 exact(dQ (ds:=dt 0 (n:Int)) (k:=none) (s1:=⟨moR c n w (c/2) J none none,[.lst []]⟩) (dY (n:=n) (aE (ag rfl) (aG _)) (by omega))).trans (el.trans (by rw[ab]))
theorem zY:∀(a b:List Int),a.length=b.length->((pc b.length).map λk=>nth a k*nth b k).sum=aB a b
 | [],[],_=>rfl
 | x::a,y::b,h=>by
  have J:=zY a b (by simpa using h)
  rw[tz,RA,sH,ss,P8]
  show x*y+((pc b.length).map λk=>nth a k*nth b k).sum=(x*y::Pr (· * ·) a b).sum
  rw[J,P8]
  rfl
theorem Mm{ma J:EM}{O O':ay}{x y:D}{a b:List D}(h1:ma s=.ok (x,s1))(h2:J s1=.ok (y,⟨R,O⟩))(ha:lsD O x=some a)(hb:lsD O y=some b)(Y:a.length+b.length<=1000000)(hk:O.length=k)(U:O++[.lst (a++b)]=O'):Cc ma J s=.ok (.ptr k,⟨R,O'⟩):=by
 unfold Cc
 rw[h1,aj]
 dsimp only
 rw[h2,aj]
 dsimp only
 rw[ha,hb]
 dsimp only
 rw[if_pos (by omega),hk,U]
def kl(A:List (List Int))(way:List Int)(n:Nat):List Int:=(pc n).map λg=>((pc A.length).map λk=>nth way k*nth (A.getD k []) g).sum
theorem Gh(n:Nat)(f:Nat->Int):((pc n).map f).sum=bf n f:=by
 induction n with
 | zero=>rfl
 | succ n J=>rw[QN,wp,Sj,J];simp[bf]
theorem Ii(J:g<n):nth (kl A way n) g=cz way A g:=by
 unfold kl cz
 rw[<- Gh]
 unfold nth
 rw[kt,sI,Pp J]
 rfl
theorem BB(A:List (List Int))(way:List Int)(n:Nat):(kl A way n).length=n:=by unfold kl;simp
theorem Iw(ha:A.length<=1000)(lw:way.length=A.length)(J:SzL 2 way)(U:cL c A):SzL (c+12) (kl A way n):=λx hx=>by
 unfold kl at hx
 obtain⟨g,_,rfl⟩:=li.mp hx
 have Y:way.length=(A.map (nth · g)).length:=by simp[lw]
 have:=zY way (A.map (nth · g)) Y
 rw[show (A.map (nth · g)).length=A.length by simp] at this
 rw[show (pc A.length).map (λk=>nth way k*nth (A.getD k []) g)=(pc A.length).map (λk=>nth way k*nth (A.map (nth · g)) k) from QV λk _=>by rw[md],this]
 refine(oJ (b:=c) (c:=2) J (λz hz=> ?_) (by omega)).mono (by omega)
 obtain⟨l,hl,rfl⟩:=li.mp hz
 exact(U l hl).nth _
theorem GA{n c ia iw i2:Nat}{dm:D}(h4:s.r[ia]? =some (some dm))(h8:s.r[iw]? =some (some (vI way)))(h2:s.r[i2]? =some (some (.int (n:Int))))(ix:∀k,k<A.length->ixD s.o dm (.int (k:Int))=.ok (vI (A.getD k [])))(ln:cf s.o [dm]=.ok (.int (A.length:Int)))(hn:n<=1000)(ha:A.length<=1000)(la:∀l∈A,l.length=n)(lw:way.length=A.length)(zw:SzL 2 way)(zA:cL c A)(hc:c<=60000000):
 bD 1 [ia,iw] (dA (ae (aa i2) ak)) (ax 0) bF (bo tm (ae (bD 1 [0,1,2] (dA (ae (bo cf (ae (aa 1) ak)) ak)) (ax 0) bF (ao dM (ao ixD (aa 3) (aa 0)) (ao ixD (ao ixD (aa 2) (aa 0)) (aa 1)))) ak)) s=.ok (vI (kl A way n),s):=by
 have J:∀g,g<n->bo tm (ae (bD 1 [0,1,2] (dA (ae (bo cf (ae (aa 1) ak)) ak)) (ax 0) bF (ao dM (ao ixD (aa 3) (aa 0)) (ao ixD (ao ixD (aa 2) (aa 0)) (aa 1)))) ak) ⟨[some (.int (g:Int)),some dm,some (vI way)],s.o⟩=.ok (.int ((pc A.length).map λk=>nth way k*nth (A.getD k []) g).sum,⟨[some (.int (g:Int)),some dm,some (vI way)],s.o⟩):=λg Y=>by
  have e:=dE (l:=pc A.length) (item:=λi:Nat=>D.int (i:Int)) (out:=λk=>.int (nth way k*nth (A.getD k []) g)) (caps:=[0,1,2]) (im:=dA (ae (bo cf (ae (aa 1) ak)) ak)) (e:=ao dM (ao ixD (aa 3) (aa 0)) (ao ixD (ao ixD (aa 2) (aa 0)) (aa 1))) (k:=none) (s:=⟨[some (.int (g:Int)),some dm,some (vI way)],s.o⟩) (by
   rw[<- eO]
   exact dY (aE (fG (aE (ag rfl) (aG _)) ln) (aG _)) (by omega)) trivial (by simp;omega) (λk hk=>by
    have U:=wn.mp hk
    have hm:A.getD k []∈A:=getD_mem U
    exact aO (aO (ag rfl) (ag rfl) (i6 (by omega))) (aO (aO (ag rfl) (ag rfl) (ix k U)) (ag rfl) (i6 (by rw[la _ hm];exact Y))) (dJ (jk (m:=2) (n:=c) (by decide) hc (zw.nth _) ((zA _ hm).nth _))))
  rw[show (pc A.length).map (λk=>D.int (nth way k*nth (A.getD k []) g))=((pc A.length).map λk=>nth way k*nth (A.getD k []) g).map D.int by rw[ss];rfl] at e
  exact fG (aE e (aG _)) (tR _ _)
 have e:=dE (l:=pc n) (item:=λi:Nat=>D.int (i:Int)) (out:=λg=>.int ((pc A.length).map λk=>nth way k*nth (A.getD k []) g).sum) (caps:=[ia,iw]) (im:=dA (ae (aa i2) ak)) (e:=bo tm (ae (bD 1 [0,1,2] (dA (ae (bo cf (ae (aa 1) ak)) ak)) (ax 0) bF (ao dM (ao ixD (aa 3) (aa 0)) (ao ixD (ao ixD (aa 2) (aa 0)) (aa 1)))) ak)) (k:=none) (s:=s) (by
  rw[<- eO]
  exact dY (aE (ag h2) (aG _)) (by omega)) trivial (by simp;omega) (λg Y=>by
   rw[show [ia,iw].map (λi=>(s.r[i]?).getD none)=[some dm,some (vI way)] by simp[h4,h8]]
   exact J g (wn.mp Y))
 rw[show (pc n).map (λg=>D.int ((pc A.length).map λk=>nth way k*nth (A.getD k []) g).sum)=(kl A way n).map D.int by unfold kl;rw[ss];rfl] at e
 exact e
theorem HL{w:List Int}{m:List Int}(h:w.length<=A.length):cz w (A++[m]) g=cz w A g:=by
 unfold cz
 rw[u8,xz]
 show bf A.length _+_=_
 dsimp only
 rw[fX h,Qv,Int.add_zero]
 exact bG λj J=>by rw[kt,tt J,<- kt]
theorem zx(a:Int)(w:List Int)(z:List Int)(A:List (List Int))(g:Nat):cz (a::w) (z::A) g=a*nth z g+cz w A g:=by
 unfold cz
 rw[tz,zR]
 rfl
theorem Hq{w v:List Int}(h:∀j,nth v j=nth w j):cz v A g=cz w A g:=by
 unfold cz
 exact bG λj _=>by rw[h j]
theorem KY(w:List Int)(m j:Nat):nth (w++pr m 0) j=nth w j:=by
 unfold nth
 rw[kt,kt]
 rcases RP j w.length with h | h
 ·rw[tt h]
 ·rw[re h,Qk h,wE]
  split <;> rfl
structure Nb(n:Nat)(A:List (List Int))(w:List Int):Prop where
 le:w.length<=A.length
 lo:∀t∈w,0<=t/\t<=2
 bal:∀g,g<n->cz w A g=0
structure MvI(n c:Nat)(A W:List (List Int)):Prop where
 len:∀l∈A,l.length=n
 sz:cL c A
 ws:∀w∈W,Nb n A w
theorem MvI.more{n c c':Nat}{m:List Int}(h:MvI n c A W)(hm:m.length=n)(Y:SzL c' m)(hc:c<=c'):MvI n c' (A++[m]) W:=
 ⟨λl U=>by
  rcases sE.mp U with q | q
  ·exact h.len l q
  ·rw[sB.mp q];exact hm,λl U=>by
  rcases sE.mp U with q | q
  ·exact(h.sz l q).mono hc
  ·rw[sB.mp q];exact Y,λw J=>⟨by have:=(h.ws w J).le;simp;omega,(h.ws w J).lo,λg hg=>by rw[HL (h.ws w J).le];exact(h.ws w J).bal g hg⟩⟩
theorem MvI.close(h:MvI n c A W)(lw:way.length=A.length)(U:∀t∈way,0<=t/\t<=2)(ha:A.length<=1000):MvI n (c+12) (A++[(kl A way n).map (- ·)]) (W++[way++[1]]):=by
 have Y:SzL 2 way:=λt J=>by have:=U t J;unfold Sz;omega
 have base:=h.more (m:=(kl A way n).map (- ·)) (c':=c+12) (by rw[nW,BB]) (λx hx=>by
  obtain⟨y,hy,rfl⟩:=li.mp hx
  exact(Iw ha lw Y h.sz y hy).neg) (by omega)
 refine⟨base.len,base.sz,λw hw=> ?_⟩
 rcases sE.mp hw with q | q
 ·exact base.ws w q
 ·rw[sB.mp q]
  refine⟨by simp[lw],λt J=> ?_,λg hg=> ?_⟩
  ·rcases sE.mp J with z | z
   ·exact U t z
   ·rw[sB.mp z];decide
  ·rw[nB lw,g9 (f:=(- ·)) (by simp),Ii hg]
   omega
theorem MvI.zero(h:MvI n c A W):MvI n c (pr n 0::A) (W.map (0:: ·)++[[1]]):=by
 have z0:∀g,nth (pr n (0:Int)) g=0:=λg=>by
  unfold nth
  rw[kt,wE]
  split <;> rfl
 refine⟨λl U=> ?_,λl U=> ?_,λw hw=> ?_⟩
 ·rcases sn.mp U with rfl | q
  ·simp
  ·exact h.len l q
 ·rcases sn.mp U with rfl | q
  ·intro x hx
   rw[(RS.mp hx).2]
   exact Sz.zero _
  ·exact h.sz l q
 ·rcases sE.mp hw with q | q
  ·obtain⟨v,hv,rfl⟩:=li.mp q
   have J:=h.ws v hv
   refine⟨by have:=J.le;simp;omega,λt Y=> ?_,λg hg=> ?_⟩
   ·rcases sn.mp Y with rfl | z
    ·decide
    ·exact J.lo t z
   ·rw[zx,Qv,J.bal g hg];rfl
  ·rw[sB.mp q]
   refine⟨by simp,λt Y=>by rw[sB.mp Y];decide,λg hg=> ?_⟩
   rw[zx,z0,Qu]
   unfold cz
   rw[eD λj _=> ?_]
   ·rfl
   ·rw[fX (by simp),Qv]
abbrev mvR(ns:List Int)(b n:Nat)(hd:Int)(w:Bool)(x6 x7 x8 x9:Option D):List (Option D):=[some (vI ns),some (.int (b:Int)),some (.int (n:Int)),some (.int hd),some (.ptr 0),some (.bl w),x6,x7,x8,x9]
theorem HX{ns:List Int}{b n k:Nat}{hd:Int}{w:Bool}{x7 x8 x9:Option D}(hn:n<=100)(U:O[0]? =some (.lst (A.map vI)))(al:A.length<=1000):
 ∃l O',iJ ⟨mvR ns b n hd w (some (.int (k:Int))) x7 x8 x9,O⟩=.next ⟨mvR ns b n hd w (some (.int (k:Int))) x7 x8 x9,O'⟩/\O'[0]? =some (.lst ((A++[l]).map vI))/\l.length=n/\SzL 50 l:=by
 obtain⟨c,ec,_⟩:=yY ns (b+1+k)
 have hc:aN 2 d5 (ae (aa 0) (ae (ao br (ao br (aa 1) (aq (.int 1))) (aa 6)) ak)) ⟨mvR ns b n hd w (some (.int (k:Int))) x7 x8 x9,O⟩=.ok (.int c,⟨mvR ns b n hd w (some (.int (k:Int))) x7 x8 x9,O⟩):=by
  refine fB (O1:=[]) (aE (ag rfl) (aE (aO (aO (ag rfl) (aC _ _) (cy _ _)) (ag rfl) (cy _ _)) (aG _))) ?_ (by simp) rfl rfl
  rw[show (b:Int)+1+(k:Int)=((b+1+k:Nat):Int) by omega]
  exact ec
 obtain⟨l,em,ll,lz⟩:=Kr (c+13*(k:Int)) w hn
 have Y:dU 3 kX (ae (ao br (aN 2 d5 (ae (aa 0) (ae (ao br (ao br (aa 1) (aq (.int 1))) (aa 6)) ak))) (ao dM (aq (.int 13)) (aa 6))) (ae (aa 2) (ae (aa 5) ak))) ⟨mvR ns b n hd w (some (.int (k:Int))) x7 x8 x9,O⟩=.ok (.ptr O.length,⟨mvR ns b n hd w (some (.int (k:Int))) x7 x8 x9,O++[.lst (l.map D.int)]⟩):=by
  refine g7 (aE (aO hc (aO (aC _ _) (ag rfl) (dJ (fJ (.inl (by decide))))) (cy _ _)) (aE (ag rfl) (aE (ag rfl) (aG _)))) em rfl rfl (ib _ _) ?_
  simp only[sH,IR,nO,o6]
 have J:O.length≠0:=by have:=my U;omega
 have c8:(O++[Cell.lst (l.map D.int)])[O.length]? =some (.lst (l.map D.int)):=gB
 have g8:(O++[Cell.lst (l.map D.int)])[0]? =some (.lst (A.map vI)):=eC U
 generalize O++[Cell.lst (l.map D.int)]=O1 at Y c8 g8
 generalize O.length=kk at Y c8 J
 refine⟨l,(O1.set kk .dead).set 0 (.lst (A.map vI++[vI l])), ?_,(by rw[wp];exact fg (c':=.lst (A.map vI)) (by rw[cN J];exact g8)),ll,lz⟩
 rw[iJ]
 exact cT (lX (ag rfl) U (ny Y c8 rfl) (by rw[cN J];exact g8) (by simp;omega) rfl)
theorem Hn(h:O[k]? =some (.lst (A.map vI)))(hi:i<A.length):ixD O (.ptr k) (.int (i:Int))=.ok (vI (A.getD i [])):=by
 refine CM h ?_
 rw[n9 (by simpa using hi)]
 simp[kt,hi]
theorem HK{ns:List Int}{b n k J c:Nat}{hd:Int}{w:Bool}{x8 x9:Option D}(hn:n<=100)(al:A.length<=100)(wl:W.length<=100)(hc:c<=1000)(h:MvI n c A W)(Y:O[0]? =some (.lst (A.map vI)))(hF:O[J]? =some (.lst (W.map vI)))(k0:J≠0):
 ∃m v O' y8 y9,iI ⟨mvR ns b n hd w (some (.int (k:Int))) (some (.ptr J)) x8 x9,O⟩=.next ⟨mvR ns b n hd w (some (.int (k:Int))) (some (.ptr J)) y8 y9,O'⟩/\MvI n (c+12) (A++[m]) (W++[v])/\O'[0]? =some (.lst ((A++[m]).map vI))/\O'[J]? =some (.lst ((W++[v]).map vI)):=by
 have ln:cf O [.ptr 0]=.ok (.int (A.length:Int)):=by rw[rm Y,nW]
 have ew:=dE (l:=pc A.length) (item:=λi:Nat=>D.int (i:Int)) (out:=λi=>.int (cq hd (50+7*(k:Int)+(i:Int)) 4%3)) (caps:=[3,6]) (im:=dA (ae (bo cf (ae (aa 4) ak)) ak)) (e:=ao gO (aN 3 aR (ae (aa 1) (ae (ao br (ao br (aq (.int 50)) (ao dM (aq (.int 7)) (aa 2))) (aa 0)) (ae (aq (.int 4)) ak)))) (aq (.int 3))) (k:=none) (s:=⟨mvR ns b n hd w (some (.int (k:Int))) (some (.ptr J)) x8 x9,O⟩) (by
  rw[<- eO]
  exact dY (aE (fG (aE (ag rfl) (aG _)) ln) (aG _)) (by omega)) trivial (by simp;omega) (λi _=>aO (f9 (ag rfl) (aO (aO (aC _ _) (aO (aC _ _) (ag rfl) (dJ (fJ (.inl (by decide))))) (cy _ _)) (ag rfl) (cy _ _)) (aC _ _) (by decide)) (aC _ _) (f7 (by decide)))
 rw[show (pc A.length).map (λi:Nat=>D.int (cq hd (50+7*(k:Int)+(i:Int)) 4%3))=((pc A.length).map λi:Nat=>cq hd (50+7*(k:Int)+(i:Int)) 4%3).map D.int by rw[ss];rfl] at ew
 have lw:((pc A.length).map λi:Nat=>cq hd (50+7*(k:Int)+(i:Int)) 4%3).length=A.length:=by simp
 have w0:∀t∈(pc A.length).map (λi:Nat=>cq hd (50+7*(k:Int)+(i:Int)) 4%3),0<=t/\t<=2:=λt ht=>by
  obtain⟨i,_,rfl⟩:=li.mp ht
  have h1:=PX (cq hd (50+7*(k:Int)+(i:Int)) 4) (show (3:Int)≠0 by decide)
  have h2:=Px (cq hd (50+7*(k:Int)+(i:Int)) 4) (show (0:Int)<3 by decide)
  exact⟨h1,by omega⟩
 generalize (pc A.length).map (λi:Nat=>cq hd (50+7*(k:Int)+(i:Int)) 4%3)=way at ew lw w0
 have zw:SzL 2 way:=λt ht=>by have:=w0 t ht;unfold Sz;omega
 have el:=GA (A:=A) (way:=way) (n:=n) (c:=c) (ia:=4) (iw:=8) (i2:=2) (s:=⟨mvR ns b n hd w (some (.int (k:Int))) (some (.ptr J)) (some (vI way)) x9,O⟩) (dm:=.ptr 0) rfl rfl rfl (λi hi=>Hn Y hi) ln (by omega) (by omega) h.len lw zw h.sz (by omega)
 have cl:=h.close lw w0 (by omega)
 have ll:=BB A way n
 generalize kl A way n=U at el cl ll
 have en:=dE (l:=U) (item:=D.int) (out:=λx=>.int (-x)) (caps:=[]) (im:=listI (aa 9)) (e:=unM ir (aa 0)) (k:=none) (s:=⟨mvR ns b n hd w (some (.int (k:Int))) (some (.ptr J)) (some (vI way)) (some (vI U)),O⟩) (by rw[cM,ag (i:=9) rfl,aj];rfl) trivial (by omega) (λx _=>Bd (ag rfl) (qW _))
 rw[show U.map (λx=>D.int (-x))=(U.map (- ·)).map D.int by rw[ss];rfl] at en
 have gF:(O.set 0 (.lst (A.map vI++[vI (U.map (- ·))])))[J]? =some (.lst (W.map vI)):=by rw[cN (λz=>k0 z.symm)];exact hF
 have g0:(O.set 0 (.lst (A.map vI++[vI (U.map (- ·))])))[0]? =some (.lst ((A++[U.map (- ·)]).map vI)):=by rw[wp];exact fg Y
 have ea:dk (gr (aa 4) (bD 1 [] (listI (aa 9)) (ax 0) bF (unM ir (aa 0)))) ⟨mvR ns b n hd w (some (.int (k:Int))) (some (.ptr J)) (some (vI way)) (some (vI U)),O⟩=.next ⟨mvR ns b n hd w (some (.int (k:Int))) (some (.ptr J)) (some (vI way)) (some (vI U)),O.set 0 (.lst (A.map vI++[vI (U.map (- ·))]))⟩:=cT (lX (ag rfl) Y en Y (by simp;omega) rfl)
 generalize O.set 0 (.lst (A.map vI++[vI (U.map (- ·))]))=O1 at ea gF g0
 have ef:dk (gr (aa 7) (ao br (aa 8) (g6 (ae (aq (.int 1)) ak)))) ⟨mvR ns b n hd w (some (.int (k:Int))) (some (.ptr J)) (some (vI way)) (some (vI U)),O1⟩=.next ⟨mvR ns b n hd w (some (.int (k:Int))) (some (.ptr J)) (some (vI way)) (some (vI U)),O1.set J (.lst (W.map vI++[vI (way++[1])]))⟩:=by
  refine cT (lX (ag rfl) gF (aO (ag rfl) (rn (aE (aC _ _) (aG _)) (by simp)) (d:=vI (way++[1])) ?_) gF (by simp;omega) rfl)
  rw[oI (by simp;omega)]
  exact congrArg (λz=>Res.ok (D.lst z)) (by rw[wp];rfl)
 refine⟨U.map (- ·),way++[1],O1.set J (.lst (W.map vI++[vI (way++[1])])),some (vI way),some (vI U), ?_,cl,by rw[cN k0];exact g0,by rw[wp];exact fg gF⟩
 rw[iI]
 exact aY (bK (R':=mvR ns b n hd w (some (.int (k:Int))) (some (.ptr J)) (some (vI way)) x9) ew rfl) (aY (bK (R':=mvR ns b n hd w (some (.int (k:Int))) (some (.ptr J)) (some (vI way)) (some (vI U))) el rfl) (aY ea ef))
theorem FI(J:R[i]? =some (some (.ptr k)))(U:O[k]? =some (.lst ds)):bg (lg ltD ltD (aq (.int 0)) (bo cf (ae (aa i) ak)) (aq (.int 6))) ⟨R,O⟩=.ok (decide (0<ds.length)&&decide (ds.length<6),⟨R,O⟩):=by
 have Y:bo cf (ae (aa i) ak) ⟨R,O⟩=.ok (.int (ds.length:Int),⟨R,O⟩):=fG (aE (ag J) (aG _)) (rm U)
 have e:lg ltD ltD (aq (.int 0)) (bo cf (ae (aa i) ak)) (aq (.int 6)) ⟨R,O⟩=.ok (.bl (decide (0<ds.length)&&decide (ds.length<6)),⟨R,O⟩):=by
  rw[zj,aC,aj]
  dsimp only
  rw[Y,aj]
  dsimp only
  rw[nM,aj]
  by_cases h:0<ds.length
  ·rw[decide_eq_true (show (0:Int)<(ds.length:Int) by omega),decide_eq_true h]
   dsimp only
   rw[aC,aj]
   dsimp only
   rw[nM,aj,Qo]
   congr 3
   exact decide_eq_decide.mpr (by omega)
  ·rw[decide_eq_false (show ¬(0:Int)<(ds.length:Int) by omega),decide_eq_false h]
   rfl
 exact fM e
theorem Il(ns:List Int)(b:Nat)(hn:n<=100):∃(A W:List (List Int)) (O:ay) (U:Nat),gJ [vI ns,.int (b:Int),.int (n:Int)] []=.ok (.tup [.ptr 0,.ptr U],O)/\O[0]? =some (.lst (A.map vI))/\O[U]? =some (.lst (W.map vI))/\U≠0/\MvI n 90 A W/\A.length<=6/\(∀w∈W,w.length=A.length)/\W.length<=4:=by
 obtain⟨hd,eh,_⟩:=yY ns b
 have e3:setM 3 (aN 2 d5 (ae (aa 0) (ae (aa 1) ak))) ⟨[some (vI ns),some (.int (b:Int)),some (.int (n:Int)),none,none,none,none,none,none,none],[]⟩=.next ⟨[some (vI ns),some (.int (b:Int)),some (.int (n:Int)),some (.int hd),none,none,none,none,none,none],[]⟩:=bK (fB (aE (ag rfl) (aE (ag rfl) (aG _))) eh (by simp) rfl rfl) rfl
 have e5:setM 5 (ao eqD (aN 3 aR (ae (aa 3) (ae (aq (.int 41)) (ae (aq (.int 6)) ak)))) (aq (.int 0))) ⟨[some (vI ns),some (.int (b:Int)),some (.int (n:Int)),some (.int hd),some (.ptr 0),none,none,none,none,none],[.lst []]⟩=.next ⟨mvR ns b n hd (decide (cq hd 41 6=0)) none none none none,[.lst []]⟩:=bK (aO (f9 (ag rfl) (aC _ _) (aC _ _) (by decide)) (aC _ _) (nK _ _)) rfl
 generalize decide (cq hd 41 6=0)=w at e5
 obtain⟨cnt,hcnt,c4⟩:∃cnt:Nat,cq hd 40 5%(5-2*(if w=true then 1 else 0))=(cnt:Int)/\cnt<=4:=by
  have h0:(0:Int)<5-2*(if w=true then 1 else 0):=by split <;> decide
  have h6:(5:Int)-2*(if w=true then 1 else 0)<=5:=by split <;> decide
  generalize (5:Int)-2*(if w=true then 1 else 0)=m at h0 h6
  have r0:=PX (cq hd 40 5) (show m≠0 by omega)
  have r1:=Px (cq hd 40 5) h0
  exact⟨(cq hd 40 5%m).toNat,by omega,by omega⟩
 obtain⟨s1,ci,A1,O1,x6,bm,b2,b3,cn⟩:=eU (ok:=okC (dt 0 (cnt:Int)) none) (g:=ax 6) (body:=iJ)
  (λpre s=>∃(A:List (List Int)) (O:ay) (x6:Option D),A.length=pre.length/\(∀l∈A,l.length=n/\SzL 50 l)/\O[0]? =some (.lst (A.map vI))/\s=⟨mvR ns b n hd w x6 none none none,O⟩) (λ_ _ _=>trivial) (dt 0 (cnt:Int)) [] (by
   rintro pre d rest ed s ⟨A,O,x6,h1,h2,h3,rfl⟩
   rw[vG,eO] at ed
   obtain⟨rfl,ap⟩:=mw ed
   obtain⟨l,O',eb,cr,ll,lz⟩:=HX (ns:=ns) (b:=b) (k:=pre.length) (hd:=hd) (w:=w) (x7:=none) (x8:=none) (x9:=none) hn h3 (by omega)
   refine⟨_,_,rfl,.inl eb,A++[l],O',_,by simp[h1],λz hz=> ?_,cr,rfl⟩
   rcases sE.mp hz with q | q
   ·exact h2 z q
   ·rw[sB.mp q];exact⟨ll,lz⟩) ⟨mvR ns b n hd w none none none none,[.lst []]⟩ ⟨[],[.lst []],none,rfl,(λ_ h=>by cases h),rfl,rfl⟩
 rw[vG,gs] at bm
 have bm:A1.length=cnt:=by omega
 have cs:fv (dA (ae (ao gO (aN 3 aR (ae (aa 3) (ae (aq (.int 40)) (ae (aq (.int 5)) ak)))) (ao iB (aq (.int 5)) (ao dM (aq (.int 2)) (bo intOf (ae (aa 5) ak))))) ak)) (ax 6) iJ ⟨mvR ns b n hd w none none none none,[.lst []]⟩=.next ⟨mvR ns b n hd w x6 none none none,O1⟩:=by
  refine(dQ (ds:=dt 0 (cnt:Int)) (k:=none) (s1:=⟨mvR ns b n hd w none none none none,[.lst []]⟩) (dY (n:=cnt) ?_ (by omega))).trans (ci.trans (by rw[cn]))
  rw[<- hcnt]
  refine aE (aO (f9 (ag rfl) (aC _ _) (aC _ _) (by decide)) (aO (aC _ _) (aO (aC _ _) (fG (aE (ag rfl) (aG _)) (wN _)) (dJ (fJ (.inl (by decide))))) (nV _ _)) (f7 ?_)) (aG _)
  split <;> decide
 have e7:setM 7 (iZ ak) ⟨mvR ns b n hd w x6 none none none,O1⟩=.next ⟨mvR ns b n hd w x6 (some (.ptr O1.length)) none none,O1++[.lst []]⟩:=bK (qm (aG _) (by simp) rfl rfl) rfl
 have k0:O1.length≠0:=by have:=my b3;omega
 have g0:(O1++[Cell.lst []])[0]? =some (.lst (A1.map vI)):=eC b3
 have gF:(O1++[Cell.lst []])[O1.length]? =some (.lst (([]:List (List Int)).map vI)):=gB
 generalize O1++[Cell.lst []]=O2 at e7 g0 gF
 generalize O1.length=U at e7 gF k0
 obtain⟨J,hcnt2,c2⟩:∃J:Nat,cq hd 42 3/(1+(if w=true then 1 else 0))=(J:Int)/\J<=2:=by
  have p0:=jv (c:=hd) (t:=42) (m:=3) (by decide)
  have p1:=lS (c:=hd) (t:=42) (m:=3) (by decide)
  cases w with
  | true=>exact⟨(cq hd 42 3/(1+1)).toNat,by simp;omega,by omega⟩
  | false=>exact⟨(cq hd 42 3/(1+0)).toNat,by simp;omega,by omega⟩
 obtain⟨s3,cA,A3,W3,O3,y6,Y,y9,cB,cG,am,a6,b5,cW⟩:=eU (ok:=okC (dt 0 (J:Int)) none) (g:=ax 6) (body:=iI)
  (λpre s=>∃(A W:List (List Int)) (O:ay) (x6 x8 x9:Option D),A.length=cnt+pre.length/\W.length=pre.length/\MvI n (50+12*pre.length) A W/\O[0]? =some (.lst (A.map vI))/\O[U]? =some (.lst (W.map vI))/\s=⟨mvR ns b n hd w x6 (some (.ptr U)) x8 x9,O⟩) (λ_ _ _=>trivial) (dt 0 (J:Int)) [] (by
   rintro pre d rest ed s ⟨A,W,O,x6,x8,x9,h1,h2,h3,h4,h5,rfl⟩
   rw[vG,eO] at ed
   obtain⟨rfl,ap⟩:=mw ed
   obtain⟨m,v,O',Y,y9,eb,mv,c0,c1⟩:=HK (ns:=ns) (b:=b) (k:=pre.length) (hd:=hd) (w:=w) (x8:=x8) (x9:=x9) hn (by omega) (by omega) (by omega) h3 h4 h5 k0
   refine⟨_,_,rfl,.inl eb,A++[m],W++[v],O',_,_,_,by simp[h1];omega,by simp[h2], ?_,c0,c1,rfl⟩
   rw[u8,xz]
   exact mv) ⟨mvR ns b n hd w x6 (some (.ptr U)) none none,O2⟩ ⟨A1,[],O2,_,_,_,by simp[bm],rfl,⟨λl hl=>(b2 l hl).1,λl hl=>(b2 l hl).2,λ_ h=>by cases h⟩,g0,gF,rfl⟩
 rw[vG,gs] at cB cG am
 have am:MvI n 90 A3 W3:=⟨am.len,λl hl=>(am.sz l hl).mono (by omega),am.ws⟩
 have c3:fv (dA (ae (ao gj (aN 3 aR (ae (aa 3) (ae (aq (.int 42)) (ae (aq (.int 3)) ak)))) (ao br (aq (.int 1)) (bo intOf (ae (aa 5) ak)))) ak)) (ax 6) iI ⟨mvR ns b n hd w x6 (some (.ptr U)) none none,O2⟩=.next ⟨mvR ns b n hd w y6 (some (.ptr U)) Y y9,O3⟩:=by
  refine(dQ (ds:=dt 0 (J:Int)) (k:=none) (s1:=⟨mvR ns b n hd w x6 (some (.ptr U)) none none,O2⟩) (dY (n:=J) ?_ (by omega))).trans (cA.trans (by rw[cW]))
  rw[<- hcnt2]
  refine aE (aO (f9 (ag rfl) (aC _ _) (aC _ _) (by decide)) (aO (aC _ _) (fG (aE (ag rfl) (aG _)) (wN _)) (cy _ _)) (rD ?_)) (aG _)
  split <;> decide
 have a3:A3.length<=6:=by omega
 have w3:W3.length<=3:=by omega
 have pk:∀(t:Int) (x7 x8 x9:Option D) (O:ay),bg (ao eqD (aN 3 aR (ae (aa 3) (ae (aq (.int t)) (ae (aq (.int 5)) ak)))) (aq (.int 0))) ⟨mvR ns b n hd w y6 x7 x8 x9,O⟩=.ok (decide (cq hd t 5=0),⟨mvR ns b n hd w y6 x7 x8 x9,O⟩):=λt x7 x8 x9 O=>eq_test (f9 (ag rfl) (aC _ _) (aC _ _) (by decide))
 have c6:∃(A W:List (List Int)) (O:ay) (kg:Nat),ifS (pH (bg (ao eqD (aN 3 aR (ae (aa 3) (ae (aq (.int 43)) (ae (aq (.int 5)) ak)))) (aq (.int 0)))) (bg (ao ltD (bo cf (ae (aa 4) ak)) (aq (.int 6))))) (aM (dk (ux (aa 4) (bD 1 [] (dA (ae (aa 2) ak)) (ax 0) bF (aq (.int 0))))) (setM 7 (Cc (bD 1 [] (listI (aa 7)) (ax 0) bF (ao br (g6 (ae (aq (.int 0)) ak)) (aa 0))) (g6 (ae (g6 (ae (aq (.int 1)) ak)) ak))))) cF ⟨mvR ns b n hd w y6 (some (.ptr U)) Y y9,O3⟩=.next ⟨mvR ns b n hd w y6 (some (.ptr kg)) Y y9,O⟩/\MvI n 90 A W/\A.length<=6/\W.length<=4/\O[0]? =some (.lst (A.map vI))/\O[kg]? =some (.lst (W.map vI))/\kg≠0:=by
  have t2:bg (ao ltD (bo cf (ae (aa 4) ak)) (aq (.int 6))) ⟨mvR ns b n hd w y6 (some (.ptr U)) Y y9,O3⟩=.ok (decide (((A3.map vI).length:Int)<6),⟨mvR ns b n hd w y6 (some (.ptr U)) Y y9,O3⟩):=fM (aO (fG (aE (ag rfl) (aG _)) (rm a6)) (aC _ _) (nM _ _))
  have ta:=uy (pk 43 (some (.ptr U)) Y y9 O3) t2
  cases hb:(decide (cq hd 43 5=0)&&decide (((A3.map vI).length:Int)<6)) with
  | false=>exact⟨A3,W3,O3,U,gT ta hb (d8 _),am,a3,by omega,a6,b5,k0⟩
  | true=>
   have ap:A3.length<6:=by
    have:=(IN _ _▸hb).2
    rw[nW] at this
    have:=of_decide_eq_true this
    omega
   have ez:=dE (l:=pc n) (item:=λi:Nat=>D.int (i:Int)) (out:=λ_=>.int 0) (caps:=[]) (im:=dA (ae (aa 2) ak)) (e:=aq (.int 0)) (k:=none) (s:=⟨mvR ns b n hd w y6 (some (.ptr U)) Y y9,O3⟩) (by
    rw[<- eO]
    exact dY (aE (ag rfl) (aG _)) (by omega)) trivial (by simp;omega) (λ_ _=>aC _ _)
   rw[show (pc n).map (λ_=>D.int 0)=(pr n (0:Int)).map D.int by rw[RT];simp[Sk]] at ez
   have ei:dk (ux (aa 4) (bD 1 [] (dA (ae (aa 2) ak)) (ax 0) bF (aq (.int 0)))) ⟨mvR ns b n hd w y6 (some (.ptr U)) Y y9,O3⟩=.next ⟨mvR ns b n hd w y6 (some (.ptr U)) Y y9,O3.set 0 (.lst (vI (pr n (0:Int))::A3.map vI))⟩:=cT (Mh (ag rfl) a6 ez a6 (by simp;omega) rfl)
   have h0:(O3.set 0 (.lst (vI (pr n (0:Int))::A3.map vI)))[0]? =some (.lst ((pr n 0::A3).map vI)):=fg a6
   have hF:(O3.set 0 (.lst (vI (pr n (0:Int))::A3.map vI)))[U]? =some (.lst (W3.map vI)):=by rw[cN (λz=>k0 z.symm)];exact b5
   generalize O3.set 0 (.lst (vI (pr n (0:Int))::A3.map vI))=O4 at ei h0 hF
   have ew:=dE (l:=W3) (item:=vI) (out:=λv=>vI (0::v)) (caps:=[]) (im:=listI (aa 7)) (e:=ao br (g6 (ae (aq (.int 0)) ak)) (aa 0)) (k:=some U) (s:=⟨mvR ns b n hd w y6 (some (.ptr U)) Y y9,O4⟩) (o7 (ag rfl) hF) hF (by omega) (λv hv=>by
    refine aO (rn (aE (aC _ _) (aG _)) (by simp)) (ag rfl) ?_
    rw[oI (by have:=(am.ws v hv).le;simp;omega)]
    rfl)
   have ej:=my h0
   refine⟨pr n 0::A3,W3.map (0:: ·)++[[1]],O4++[.lst ((W3.map (0:: ·)++[[1]]).map vI)],O4.length,k8 ta hb (aY ei (bK (Mm (a:=W3.map λv=>vI (0::v)) (b:=[vI [1]]) ew (rn (aE (rn (aE (aC _ _) (aG _)) (by simp)) (aG _)) (by simp)) rfl rfl (by simp;omega) rfl ?_) rfl)),am.zero,by simp;omega,by simp;omega,eC h0,gB,by omega⟩
   rw[wp,ss]
   rfl
 obtain⟨A4,W4,O4,kg,db,bb,a4,w4,as,b7,dc⟩:=c6
 have dd:∃(A:List (List Int)) (O:ay),ifS (pH (bg (ao eqD (aN 3 aR (ae (aa 3) (ae (aq (.int 44)) (ae (aq (.int 5)) ak)))) (aq (.int 0)))) (bg (lg ltD ltD (aq (.int 0)) (bo cf (ae (aa 4) ak)) (aq (.int 6))))) (dk (gr (aa 4) (bo kj (ae (ao ixD (aa 4) (unM ir (aq (.int 1)))) ak)))) cF ⟨mvR ns b n hd w y6 (some (.ptr kg)) Y y9,O4⟩=.next ⟨mvR ns b n hd w y6 (some (.ptr kg)) Y y9,O⟩/\MvI n 90 A W4/\A.length<=6/\O[0]? =some (.lst (A.map vI))/\O[kg]? =some (.lst (W4.map vI)):=by
  have ta:=uy (pk 44 (some (.ptr kg)) Y y9 O4) (FI (i:=4) (R:=mvR ns b n hd w y6 (some (.ptr kg)) Y y9) rfl as)
  cases hb:(decide (cq hd 44 5=0)&&(decide (0<(A4.map vI).length)&&decide ((A4.map vI).length<6))) with
  | false=>exact⟨A4,O4,gT ta hb (d8 _),bb,a4,as,b7⟩
  | true=>
   have ap:0<A4.length/\A4.length<6:=by
    have h1:=(IN _ _▸hb).2
    have h2:=IN _ _▸h1
    rw[nW] at h2
    exact⟨of_decide_eq_true h2.1,of_decide_eq_true h2.2⟩
   obtain⟨A',m,rfl⟩:∃A' m,A4=A'++[m]:=⟨A4.dropLast,A4.getLast (by intro z;rw[z] at ap;simp at ap),(List.dropLast_concat_getLast _).symm⟩
   have hm:m∈A'++[m]:=by simp
   have ex:ixD O4 (.ptr 0) (.int (-1))=.ok (vI m):=by
    refine CM as ?_
    rw[wp]
    unfold atI
    have hx:ixN (A'.map vI++[m].map vI).length (-1)=some A'.length:=by
     have hl:(A'.map vI++[m].map vI).length=A'.length+1:=by simp
     rw[hl]
     unfold ixN
     rw[if_neg (by decide),if_pos (by omega)]
     congr 1
     omega
    rw[hx]
    simp
   have eL:bo kj (ae (ao ixD (aa 4) (unM ir (aq (.int 1)))) ak) ⟨mvR ns b n hd w y6 (some (.ptr kg)) Y y9,O4⟩=.ok (vI m,⟨mvR ns b n hd w y6 (some (.ptr kg)) Y y9,O4⟩):=fG (aE (aO (ag rfl) (Bd (aC _ _) (qW _)) ex) (aG _)) (oS _)
   refine⟨A'++[m]++[m],O4.set 0 (.lst ((A'++[m]).map vI++[vI m])),k8 ta hb (cT (lX (ag rfl) as eL as (by rw[nW];omega) rfl)),bb.more (bb.len m hm) (bb.sz m hm) (qh _),by have:=ap.2;simp at this ⊢;omega,(by have q:(A'++[m]++[m]).map vI=(A'++[m]).map vI++[vI m]:=wp;rw[q];exact fg as),by rw[cN (λz=>dc z.symm)];exact b7⟩
 obtain⟨A5,O5,dg,a9,a5,b1,b8⟩:=dd
 have ep:=tJ (l:=W4) (item:=vI) (out:=λv=>vI (v++pr (A5.length-v.length) 0)) (caps:=[4]) (im:=listI (aa 7)) (e:=ao br (aa 0) (bD 1 [] (dA (ae (ao iB (bo cf (ae (aa 1) ak)) (bo cf (ae (aa 0) ak))) ak)) (ax 0) bF (aq (.int 0)))) (k:=some kg) (s:=⟨mvR ns b n hd w y6 (some (.ptr kg)) Y y9,O5⟩) (o7 (ag rfl) b8) b8 (by omega) (λv hv=>by
  have le:=(a9.ws v hv).le
  have ez:=dE (l:=pc (A5.length-v.length)) (item:=λi:Nat=>D.int (i:Int)) (out:=λ_=>.int 0) (caps:=[]) (im:=dA (ae (ao iB (bo cf (ae (aa 1) ak)) (bo cf (ae (aa 0) ak))) ak)) (e:=aq (.int 0)) (k:=none) (s:=⟨[some (vI v),some (.ptr 0)],O5⟩) (by
   rw[<- eO]
   refine dY (aE (aO (fG (aE (ag rfl) (aG _)) (rm b1)) (fG (aE (ag rfl) (aG _)) (gL _)) ?_) (aG _)) (by omega)
   rw[nV,nW,nW]
   congr 2
   omega) trivial (by simp;omega) (λ_ _=>aC _ _)
  rw[show (pc (A5.length-v.length)).map (λ_=>D.int 0)=(pr (A5.length-v.length) (0:Int)).map D.int by rw[RT];simp[Sk]] at ez
  refine aO (ag rfl) ez ?_
  rw[oI (by simp;omega)]
  exact congrArg (λz=>Res.ok (D.lst z)) wp.symm)
 have en:=my b1
 refine⟨A5,W4.map λv=>v++pr (A5.length-v.length) 0,O5++[.lst ((W4.map λv=>v++pr (A5.length-v.length) 0).map vI)],O5.length, ?_,eC b1,gB,by omega,⟨a9.len,a9.sz,λv hv=> ?_⟩,a5,λv hv=> ?_,by rw[nW];exact w4⟩
 ·refine eV (R:=mvR ns b n hd w y6 (some (.ptr kg)) Y y9) ?_
  show qa ⟨[some (vI ns),some (.int (b:Int)),some (.int (n:Int)),none,none,none,none,none,none,none],[]⟩=_
  rw[qa]
  rw[show W4.map (λv=>vI (v++pr (A5.length-v.length) 0))=(W4.map λv=>v++pr (A5.length-v.length) 0).map vI by rw[ss];rfl] at ep
  exact aY e3 (aY (bK (qm (aG _) (by simp) rfl rfl) rfl) (aY e5 (aY cs (aY e7 (aY c3 (aY db (aY dg (bI (qY (aE (ag rfl) (aE ep (aG _))) (by simp))))))))))
 ·obtain⟨u,hu,rfl⟩:=li.mp hv
  have:=a9.ws u hu
  refine⟨by have:=this.le;simp;omega,λt ht=> ?_,λg hg=>by rw[Hq (KY u _)];exact this.bal g hg⟩
  rcases sE.mp ht with q | q
  ·exact this.lo t q
  ·rw[(RS.mp q).2];decide
 ·obtain⟨u,hu,rfl⟩:=li.mp hv
  have:=(a9.ws u hu).le
  simp;omega
theorem mot(a b:Int):iA [.int a,.int b] []=.ok (.int (Rb a b:Nat),[]):=Gd a b
theorem r9(ns:List Int):jj [vI ns] []=.ok (.int (cI ns:Nat),[]):=by
 obtain⟨s',e,c,x,h1,h2⟩:=eU (ok:=okC (ns.map D.int) none) (g:=ax 2) (body:=mr)
  (λpre s=>∃(ms:List Int) (x:Option D),pre=ms.map D.int/\s=⟨[some (vI ns),some (.int (ms.foldl (λc n=>PN c n.natAbs) 0:Nat)),x],[]⟩) (λ_ _ _=>trivial) (ns.map D.int) [] (by
   rintro pre d rest e s ⟨ms,x,rfl,rfl⟩
   have hd:d∈ns.map D.int:=by rw[vG] at e;rw[e];simp
   obtain⟨m,_,rfl⟩:=li.mp hd
   refine⟨_,_,rfl,.inl ?_,ms++[m],some (.int m),by simp,rfl⟩
   simp[mr,mot,Rb]) ⟨[some (vI ns),some (.int 0),none],[]⟩ ⟨[],none,rfl,rfl⟩
 rw[vG] at h1
 have hc:c=ns:=(Py (λa b h=>by cases h;rfl)).mp h1.symm
 subst hc
 have J:=dQ (im:=listI (aa 0)) (g:=ax 2) (body:=mr) (s:=⟨[some (vI c),some (.int 0),none],[]⟩) (ds:=c.map D.int) (k:=none) (s1:=⟨[some (vI c),some (.int 0),none],[]⟩) (by simp)
 rw[e] at J
 have q:=cS (n:=3) (m:=oV) (ds:=[vI c]) (O:=[]) (d:=.int (cI c:Nat)) (s:=s') (by
  show oV ⟨[some (vI c),none,none],[]⟩=_
  rw[oV,uB]
  rw[show setM 1 (aq (.int 0)) ⟨[some (vI c),none,none],[]⟩=.next ⟨[some (vI c),some (.int 0),none],[]⟩ by simp]
  rw[zC,uB,J,zC,h2]
  simp[cI])
 rw[h2] at q
 exact q
theorem BJ{a b:List Int}(J:a.length<=1000000)(hm:∀p∈a.zip b,IntMulOk p.1 p.2):bV [vI a,vI b] []=.ok (.int (aB a b),[]):=by
 have hz:(a.zip b).length<=1000000:=by rw[PV];omega
 have hc:=Bx (l:=a.zip b) (f:=λp=>.int p.1) (g:=λp=>.int p.2) (out:=λp=>.int (p.1*p.2)) (caps:=[]) (im:=pA (ae (aa 0) (ae (aa 1) ak))) (e:=ao dM (aa 0) (aa 1)) (k:=none) (s:=⟨[some (vI a),some (vI b)],[]⟩) (by simp[o9]) trivial (by omega) (λp hp=>by
  simp[dJ (hm p hp)])
 rw[show (a.zip b).map (λp=>D.int (p.1*p.2))=(Pr (· * ·) a b).map D.int by rw[<- J3];simp] at hc
 refine cS (s:=⟨[some (vI a),some (vI b)],[]⟩) ?_
 show j2 ⟨[some (vI a),some (vI b)],[]⟩=_
 rw[j2]
 refine bI ?_
 rw[iV,aV,hc,aj,aG,aj,aj]
 dsimp only
 rw[tR,aj]
 rfl
theorem Hh(ns:List Int)(J:ns.length<=1000000):qS [vI ns] []=.ok (.ptr 0,[.lst ((low ns).map D.int)]):=by
 have e1:setM 1 (aN 1 jj (ae (aa 0) ak)) ⟨[some (vI ns),none],[]⟩=.next ⟨[some (vI ns),some (.int (cI ns:Nat))],[]⟩:=bK (cx (aE (ag rfl) (aG _)) (qs _) rfl (r9 ns) (by simp)) rfl
 by_cases h:cI ns=0
 ·refine eV (R:=[some (vI ns),some (.int (cI ns:Nat))]) ?_
  show om ⟨[some (vI ns),none],[]⟩=_
  rw[om]
  refine aY e1 (ky (k8 (eq_test (ag rfl)) (decide_eq_true (by omega)) (bI (Kw (ag rfl) (FE _ _) rfl ?_))))
  rw[show low ns=ns by unfold low;rw[if_pos h]]
  rfl
 ·have hc:=tJ (l:=ns) (item:=D.int) (out:=λn=>.int (n/(cI ns:Int))) (caps:=[1]) (im:=listI (aa 0)) (e:=ao gj (aa 0) (aa 1)) (k:=none) (s:=⟨[some (vI ns),some (.int (cI ns:Nat))],[]⟩) (by simp) trivial (by omega) (λa _=>by
   simp[pf (show (cI ns:Int)≠0 by omega),rV (show (0:Int)<cI ns by omega)])
  refine eV (R:=[some (vI ns),some (.int (cI ns:Nat))]) ?_
  show om ⟨[some (vI ns),none],[]⟩=_
  rw[om]
  refine aY e1 (aY (gT (eq_test (ag rfl)) (decide_eq_false (by omega)) (d8 _)) (bI (hc.trans ?_)))
  rw[show (low ns).map D.int=ns.map λn=>.int (n/(cI ns:Int)) by unfold low;rw[if_neg h,ss];rfl]
  rfl
theorem GW{one other:List Int}{v w:Int}(U:one.length<=1000000)(h1:∀a∈one,IntMulOk a w)(h2:∀b∈other,IntMulOk b v):nX [vI one,.int v,vI other,.int w] []=.ok (.ptr 0,[.lst ((c7 one v other w).map D.int)]):=by
 have hz:(one.zip other).length<=1000000:=by rw[PV];omega
 have hc:=Bx (l:=one.zip other) (f:=λp=>.int p.1) (g:=λp=>.int p.2) (out:=λp=>.int (p.1*w-p.2*v)) (caps:=[1,3]) (im:=pA (ae (aa 0) (ae (aa 2) ak))) (e:=ao iB (ao dM (aa 0) (aa 3)) (ao dM (aa 1) (aa 2))) (k:=none) (s:=⟨[some (vI one),some (.int v),some (vI other),some (.int w),none],[]⟩) (by simp[o9]) trivial (by omega) (λp hp=>by
  have hp':=CK hp
  simp[dJ (h1 p.1 hp'.1),dJ (h2 p.2 hp'.2)])
 rw[show (one.zip other).map (λp=>D.int (p.1*w-p.2*v))=(gf one v other w).map D.int by rw[gf,<- zip_map];simp] at hc
 have J:(gf one v other w).length<=1000000:=by unfold gf;rw[Po];omega
 refine eV (R:=[some (vI one),some (.int v),some (vI other),some (.int w),some (vI (gf one v other w))]) ?_
 show vW ⟨[some (vI one),some (.int v),some (vI other),some (.int w),none],[]⟩=_
 rw[vW]
 exact aY (d0 hc) (bI (g7 (aE (ag rfl) (aG _)) (Hh _ J) (qs _) rfl (ib _ _) (by
  simp only[sH,IR,vG,nO,o6]
  rfl)))
theorem Fx(a b:Nat):orD O (.int (a:Int)) (.int (b:Int))=.ok (.int ((a|||b:Nat):Int)):=by
 have e:Builtin.bitOr (a:Int) (b:Int)=((a|||b:Nat):Int):=by
  unfold Builtin.bitOr Builtin.bitAnd Builtin.bitNot
  rw[decide_eq_false (show ¬(0:Int)<= -(a:Int)-1 by omega),decide_eq_false (show ¬(0:Int)<= -(b:Int)-1 by omega)]
  dsimp only
  rw[show (-(-(a:Int)-1)-1).toNat=a by omega,show (-(-(b:Int)-1)-1).toNat=b by omega]
  omega
 show Res.ok (D.int (Builtin.bitOr (a:Int) (b:Int)))=_
 rw[e]
theorem JA(a b:Nat):lE [.int (a:Int),.int (b:Int)] []=.ok (.bl (decide (a|||b=b)),[]):=by
 refine eV (R:=[some (.int (a:Int)),some (.int (b:Int))]) ?_
 show qV ⟨[some (.int (a:Int)),some (.int (b:Int))],[]⟩=_
 rw[qV]
 refine bI (aO (aO (ag rfl) (ag rfl) (Fx a b)) (ag rfl) ?_)
 rw[nK]
 congr 3
 rw[eq_iff_iff]
 omega
abbrev vN(l:List Nat):D:=.lst (l.map λx:Nat=>D.int (x:Int))
theorem K1(l:List Nat):aQ (l.map λx:Nat=>D.int (x:Int))=true:=by
 induction l with
 | nil=>simp
 | cons a l J=>simp[J]
theorem Ir{pl:List Nat}(J:pl.length<=1000):gh [.int (a:Int),.int (b:Int),vN pl] []=.ok (.bl ((pl.filter λx=>decide (x|||(a|||b)=a|||b)).length == 2),[]):=by
 have hc:=yK (l:=pl) (item:=λx:Nat=>D.int (x:Int)) (out:=λx:Nat=>D.int (x:Int)) (p:=λx=>decide (x|||(a|||b)=a|||b)) (caps:=[3]) (im:=listI (aa 2)) (c:=bg (aN 2 lE (ae (aa 0) (ae (aa 1) ak)))) (e:=aa 0) (k:=none) (s:=⟨[some (.int (a:Int)),some (.int (b:Int)),some (vN pl),some (.int ((a|||b:Nat):Int))],[]⟩) (by
  rw[cM,ag (i:=2) rfl,aj];rfl) trivial (by omega) (λx _=>fM (fB (aE (ag rfl) (aE (ag rfl) (aG _))) (JA x (a|||b)) (by simp) rfl (by simp))) (λx _ _=>ag rfl)
 refine eV (R:=[some (.int (a:Int)),some (.int (b:Int)),some (vN pl),some (.int ((a|||b:Nat):Int))]) ?_
 show ko ⟨[some (.int (a:Int)),some (.int (b:Int)),some (vN pl),none],[]⟩=_
 rw[ko]
 refine aY (bK (aO (ag rfl) (ag rfl) (Fx a b)) rfl) (bI (aO (fG (aE hc (aG _)) (gL _)) (aC _ _) ?_))
 rw[nK,nW]
 congr 2
 rw[Fk,decide_eq_true_eq,beq_iff_eq]
 omega
theorem GV{x:List Int}:j4 [vI x] []=.ok (.int (dN x:Nat),[]):=by
 have go:∀(l:List Int) (b:Nat) (z:Option D),∃J,cv (okC (x.map D.int) none) (ax 2) mZ (l.map D.int) ⟨[some (vI x),some (.int (b:Int)),z],[]⟩=.next ⟨[some (vI x),some (.int ((l.foldl (λb y=>b*2+if 0<y then 1 else 0) b:Nat):Int)),J],[]⟩:=by
  intro l
  induction l with
  | nil=>intro b z;exact⟨z,by rw[IR,cv,if_pos (show okC (x.map D.int) none _ from trivial)];rfl⟩
  | cons y l U=>
   intro b z
   obtain⟨J,e⟩:=U (b*2+if 0<y then 1 else 0) (some (.int y))
   refine⟨J, ?_⟩
   rw[sH,PD]
   refine vr (jS (s1:=⟨[some (vI x),some (.int (b:Int)),some (.int y)],[]⟩) (s2:=⟨[some (vI x),some (.int ((b*2+if 0<y then 1 else 0:Nat):Int)),some (.int y)],[]⟩) trivial rfl ?_) e
   rw[mZ]
   refine aY (bK (R':=[some (vI x),some (.int ((b:Int)*2)),some (.int y)]) (aO (ag rfl) (aC _ _) (dJ (fJ (.inr (by decide))))) rfl) ?_
   by_cases hy:0<y
   ·refine k8 (jJ (ag rfl)) (decide_eq_true hy) (bK (d:=.int ((b*2+if 0<y then 1 else 0:Nat):Int)) (R:=[some (vI x),some (.int ((b:Int)*2)),some (.int y)]) (aO (ag rfl) (aC _ _) ?_) rfl)
    rw[cy,if_pos hy]
    congr 2
   ·refine gT (jJ (ag rfl)) (decide_eq_false hy) ((d8 _).trans ?_)
    rw[if_neg hy,show ((b*2+0:Nat):Int)=(b:Int)*2 by omega]
 obtain⟨J,e⟩:=go x 0 none
 refine eV (R:=[some (vI x),some (.int (dN x:Nat)),J]) ?_
 show p9 ⟨[some (vI x),none,none],[]⟩=_
 rw[p9]
 refine aY (bK (R':=[some (vI x),some (.int ((0:Nat):Int)),none]) (aC _ _) rfl) (aY ?_ (bI (ag rfl)))
 exact(dQ (im:=listI (aa 0)) (ds:=x.map D.int) (k:=none) (s1:=⟨[some (vI x),some (.int ((0:Nat):Int)),none],[]⟩) (by rw[cM,ag (i:=0) rfl,aj];rfl)).trans e
theorem uO{α:Type}{f:α->D}{l:List α}{a:α}(h:l[i]? =some a):ixD O (.lst (l.map f)) (.int (i:Int))=.ok (f a):=by
 have hi:i<l.length:=by
  by_cases z:i<l.length
  ·exact z
  ·rw[Qk (by omega)] at h;cases h
 refine nP ?_
 rw[n9 (by simpa using hi)]
 rw[na hi] at h
 cases h
 simp
structure Wrk(n:Nat)(L:List (Nat×List Int))(row:List Int)(b:Nat):Prop where
 len:∀p∈L,p.2.length=n
 nn:∀p∈L,∀i,0<=nth p.2 i
 few:L.length<64
 rl:row.length=n
 n7:n<=1000
 sz:cL b (L.map (·.2))
 rz:SzL b row
 bb:2*b+20<=60000000
theorem Wrk.dz(h:Wrk n L row b){p:Nat×List Int}(hp:p∈L):Sz (b+b+10) (aB row p.2):=oJ h.rz (h.sz _ (As hp)) (by rw[h.rl];exact h.n7)
theorem M4(h:Wrk n L row b){p q:Nat×List Int}(hp:p∈L)(hq:q∈L):(((L.map λx=>dN x.2).filter λx=>decide (x|||(dN p.2|||dN q.2)=dN p.2|||dN q.2)).length == 2)=nbB n (L.map (·.2)) p.2 q.2:=by
 unfold nbB
 rw[PY,nW,PY,nW]
 congr 2
 refine List.filter_congr λx hx=> ?_
 show decide (dN x.2|||(dN p.2|||dN q.2)=dN p.2|||dN q.2)=subB n x.2 p.2 q.2
 exact bits_sub (h.len x hx) (h.len p hp) (h.len q hq) (h.nn x hx) (h.nn p hp) (h.nn q hq)
structure Iv(L T:List (Nat×List Int))(t:Nat)(O:ay):Prop where
 told:O[t]? =some (.lst (bx T))
 l:Sto O L
 s:Sto O T
 tn:∀p∈T,p.1≠t
 ln:∀p∈L,p.1≠t
abbrev mR(L:List (Nat×List Int))(row:List Int)(t:Nat)(ab bl:List Nat)(x7 x8:Option D):List (Option D):=[some (.lst (bx L)),some (vI row),some (.lst (L.map λp=>.int (aB row p.2))),some (vN (L.map λp=>dN p.2)),some (.ptr t),some (vN ab),some (vN bl),x7,x8]
theorem CH{n:Nat}{L:List (Nat×List Int)}{row:List Int}{b t:Nat}{ab bl:List Nat}(h:Wrk n L row b){J:(Nat×List Int)×Nat}(hh:L[J.2]? =some J.1)(K:List D):∀(U:List ((Nat×List Int)×Nat)) (T:List (Nat×List Int)) (O:ay) (x8:Option D),(∀q∈U,L[q.2]? =some q.1)->T.length+U.length<=100000->Iv L T t O->
 ∃Y O' y8,cv (okC K none) (ax 8) fV (U.map λq=>D.int (q.2:Int)) ⟨mR L row t ab bl (some (.int (J.2:Int))) x8,O⟩=.next ⟨mR L row t ab bl (some (.int (J.2:Int))) y8,O'⟩/\Iv L Y t O'/\Y.length<=T.length+U.length/\
  Y.map (·.2)=T.map (·.2)++((U.filter λq=>nbB n (L.map (·.2)) J.1.2 q.1.2).map λq=>c7 q.1.2 (aB row q.1.2) J.1.2 (aB row J.1.2))
 | [],T,O,x8,_,_,iv=>⟨T,O,x8,by rw[IR,cv,if_pos (show okC K none _ from trivial)],iv,by simp,by simp⟩
 | q::U,T,O,x8,hb,hl,iv=>by
  have hq:=hb q pi
  have mh:J.1∈L:=x0 hh
  have mq:q.1∈L:=x0 hq
  have hb':=λz hz=>hb z (ol _ hz)
  rw[tz] at hl
  have as:bg (aN 3 gh (ae (ao ixD (aa 3) (aa 7)) (ae (ao ixD (aa 3) (aa 8)) (ae (aa 3) ak)))) ⟨mR L row t ab bl (some (.int (J.2:Int))) (some (.int (q.2:Int))),O⟩=.ok (nbB n (L.map (·.2)) J.1.2 q.1.2,⟨mR L row t ab bl (some (.int (J.2:Int))) (some (.int (q.2:Int))),O⟩):=by
   rw[<- M4 h mh mq]
   refine fM (fB (aE (aO (ag rfl) (ag rfl) (uO (f:=λx:Nat=>D.int (x:Int)) (l:=L.map λp=>dN p.2) (a:=dN J.1.2) (by rw[sI,hh];rfl))) (aE (aO (ag rfl) (ag rfl) (uO (f:=λx:Nat=>D.int (x:Int)) (l:=L.map λp=>dN p.2) (a:=dN q.1.2) (by rw[sI,hq];rfl))) (aE (ag rfl) (aG _)))) (Ir (by rw[nW];have:=h.few;omega)) ?_ rfl (by simp))
   rw[gN,gN,gN,Fn,zN,zN,kH,K1];rfl
  rw[sH]
  cases hn:nbB n (L.map (·.2)) J.1.2 q.1.2 with
  | false=>
   obtain⟨Y,O',y8,e,a1,a2,a3⟩:=CH h hh K U T O (some (.int (q.2:Int))) hb' (by omega) iv
   refine⟨Y,O',y8, ?_,a1,by rw[tz];omega,by rw[a3,Aj (by rw[hn];decide)]⟩
   refine vr (jS (s1:=⟨mR L row t ab bl (some (.int (J.2:Int))) (some (.int (q.2:Int))),O⟩) (s2:=⟨mR L row t ab bl (some (.int (J.2:Int))) (some (.int (q.2:Int))),O⟩) trivial rfl ?_) e
   rw[fV]
   exact gT as hn (d8 _)
  | true=>
   have zq:=h.sz _ (As (f:=(·.2)) mq)
   have zh:=h.sz _ (As (f:=(·.2)) mh)
   have off:=GW (one:=q.1.2) (other:=J.1.2) (v:=aB row q.1.2) (w:=aB row J.1.2) (by rw[h.len _ mq];have:=h.n7;omega) (λa ha=>jk (by have:=h.bb;omega) (by have:=h.bb;omega) (zq a ha) (h.dz mh)) (λa ha=>jk (by have:=h.bb;omega) (by have:=h.bb;omega) (zh a ha) (h.dz mq))
   have call:xW 4 nX (ae (ao ixD (aa 0) (aa 8)) (ae (ao ixD (aa 2) (aa 8)) (ae (ao ixD (aa 0) (aa 7)) (ae (ao ixD (aa 2) (aa 7)) ak)))) ⟨mR L row t ab bl (some (.int (J.2:Int))) (some (.int (q.2:Int))),O⟩=.ok (.ptr O.length,⟨mR L row t ab bl (some (.int (J.2:Int))) (some (.int (q.2:Int))),O++[.lst ((c7 q.1.2 (aB row q.1.2) J.1.2 (aB row J.1.2)).map D.int)]⟩):=by
    refine K3 (aE (aO (ag rfl) (ag rfl) (uO (f:=λp:Nat×List Int=>D.ptr p.1) hq)) (aE (aO (ag rfl) (ag rfl) (uO (f:=λp:Nat×List Int=>D.int (aB row p.2)) hq)) (aE (aO (ag rfl) (ag rfl) (uO (f:=λp:Nat×List Int=>D.ptr p.1) hh)) (aE (aO (ag rfl) (ag rfl) (uO (f:=λp:Nat×List Int=>D.int (aB row p.2)) hh)) (aG _))))) (rs:=[vI q.1.2,.int (aB row q.1.2),vI J.1.2,.int (aB row J.1.2)]) ?_ off (by simp) rfl rfl ?_ (ib _ _) ?_
    ·simp only[oX,qL,nN (iv.l _ mq),nN (iv.l _ mh),KP,jW,qT]
    ·simp[AI,uJ]
    ·simp
   have a7:Iv L (T++[(O.length,c7 q.1.2 (aB row q.1.2) J.1.2 (aB row J.1.2))]) t ((O++[Cell.lst ((c7 q.1.2 (aB row q.1.2) J.1.2 (aB row J.1.2)).map D.int)]).set t (Cell.lst (bx T++[D.ptr O.length]))):=by
    have tl:=my iv.told
    have ac:(O++[Cell.lst ((c7 q.1.2 (aB row q.1.2) J.1.2 (aB row J.1.2)).map D.int)])[t]? =some (.lst (bx T)):=eC iv.told
    refine⟨by rw[fg ac];simp[bx],(iv.l.app _).set iv.ln _,λp hp=> ?_,λp hp=> ?_,iv.ln⟩
    ·rcases sE.mp hp with hp | hp
     ·exact((iv.s.app _).set iv.tn _) p hp
     ·rw[sB.mp hp]
      dsimp only
      rw[cN (by omega)]
      simp
    ·rcases sE.mp hp with hp | hp
     ·exact iv.tn p hp
     ·rw[sB.mp hp];dsimp only;omega
   obtain⟨Y,O',y8,e,a1,a2,a3⟩:=CH h hh K U (T++[(O.length,c7 q.1.2 (aB row q.1.2) J.1.2 (aB row J.1.2))]) _ (some (.int (q.2:Int))) hb' (by rw[u8,xz];omega) a7
   refine⟨Y,O',y8, ?_,a1,by rw[u8,xz] at a2;rw[tz];omega,by rw[a3,wI (p:=λq:(Nat×List Int)×Nat=>nbB n (L.map (·.2)) J.1.2 q.1.2) (a:=q) (l:=U) hn,wp,sH,Ix];rfl⟩
   refine vr (jS (s1:=⟨mR L row t ab bl (some (.int (J.2:Int))) (some (.int (q.2:Int))),O⟩) (s2:=⟨mR L row t ab bl (some (.int (J.2:Int))) (some (.int (q.2:Int))),(O++[Cell.lst ((c7 q.1.2 (aB row q.1.2) J.1.2 (aB row J.1.2)).map D.int)]).set t (Cell.lst (bx T++[D.ptr O.length]))⟩) trivial rfl ?_) e
   rw[fV]
   exact k8 as hn (cT (lX (ag rfl) iv.told call (eC iv.told) (by rw[nW];omega) rfl))
theorem DI{n:Nat}{L:List (Nat×List Int)}{row:List Int}{b t:Nat}{ab:List Nat}{J:List ((Nat×List Int)×Nat)}(h:Wrk n L row b)(hB:∀q∈J,L[q.2]? =some q.1)(an:J.length<=64)(K:List D):∀(Y:List ((Nat×List Int)×Nat)) (T:List (Nat×List Int)) (O:ay) (x7 U:Option D),(∀q∈Y,L[q.2]? =some q.1)->T.length+Y.length*64<=10000->Iv L T t O->
 ∃T' O' y7 y8,cv (okC K none) (ax 7) iy (Y.map λq=>D.int (q.2:Int)) ⟨mR L row t ab (J.map (·.2)) x7 U,O⟩=.next ⟨mR L row t ab (J.map (·.2)) y7 y8,O'⟩/\Iv L T' t O'/\
  T'.map (·.2)=T.map (·.2)++Y.flatMap λa=>(J.filter λq=>nbB n (L.map (·.2)) a.1.2 q.1.2).map λq=>c7 q.1.2 (aB row q.1.2) a.1.2 (aB row a.1.2)
 | [],T,O,x7,U,_,_,iv=>⟨T,O,x7,U,by rw[IR,cv,if_pos (show okC K none _ from trivial)],iv,by simp⟩
 | a::Y,T,O,x7,U,hA,hl,iv=>by
  rw[tz] at hl
  obtain⟨T1,O1,y8,e1,i1,l1,m1⟩:=CH (ab:=ab) (bl:=J.map (·.2)) h (hA a pi) ((J.map (·.2)).map λx:Nat=>D.int (x:Int)) J T O U hB (by omega) iv
  obtain⟨T2,O2,z7,z8,e2,i2,m2⟩:=DI (ab:=ab) h hB an K Y T1 O1 (some (.int (a.2:Int))) y8 (λq hq=>hA q (ol _ hq)) (by omega) i1
  refine⟨T2,O2,z7,z8, ?_,i2,by rw[m2,m1,List.flatMap_cons,Ix]⟩
  rw[sH]
  refine vr (jS (s1:=⟨mR L row t ab (J.map (·.2)) (some (.int (a.2:Int))) U,O⟩) (s2:=⟨mR L row t ab (J.map (·.2)) (some (.int (a.2:Int))) y8,O1⟩) trivial rfl ?_) e2
  rw[iy]
  refine(dQ (im:=listI (aa 6)) (ds:=(J.map (·.2)).map λx:Nat=>D.int (x:Int)) (k:=none) (s1:=⟨mR L row t ab (J.map (·.2)) (some (.int (a.2:Int))) U,O⟩) (by rw[cM,ag (i:=6) rfl,aj];rfl)).trans ?_
  rw[ss] at e1 ⊢
  exact e1
theorem DW {α:Type} {caps:List Nat} {c:TM} {e:EM} {k:Option Nat} {l:List α} {p:α->Bool} {out:α->D} {f g:α->D} (J:im s=.ok ((l.map (λa=>D.tup [f a,g a]),k),s)) (U:okC (l.map (λa=>D.tup [f a,g a])) k s.o) (Y:l.length<=16777216)
 (hc:∀a∈l,c ⟨some (f a)::some (g a)::caps.map (λi=>(s.r[i]?).getD none),s.o⟩=.ok (p a,⟨some (f a)::some (g a)::caps.map (λi=>(s.r[i]?).getD none),s.o⟩))
 (he:∀a∈l,p a=true->e ⟨some (f a)::some (g a)::caps.map (λi=>(s.r[i]?).getD none),s.o⟩=.ok (out a,⟨some (f a)::some (g a)::caps.map (λi=>(s.r[i]?).getD none),s.o⟩)):
 kh 2 caps im (cV (aX (ax 0) (aX (ax 1) cZ)) 2) c e s=.ok (.ptr s.o.length,⟨s.r,s.o++[.lst ((l.filter p).map out)]⟩):=by
 rw[Bn,A0 J U Y hc he,aj]
theorem IU{α:Type}(f g:α->D):∀l:List α,kB (l.map f) (l.map g)=l.map λa=>.tup [f a,g a]:=λl=>by
 unfold kB
 rw[R8,List.zipWith_self]
theorem Ce{α:Type}(p:α->Bool)(l:List α):(l.zipIdx.filter λq=>p q.1).map (·.1)=l.filter p:=by
 have h:(l.zipIdx.map (·.1))=l:=by simp
 conv=>rhs;rw[<- h,PY]
 rfl
theorem Le(h:Wrk n L row b)(hs:Sto O L):∃L' O',gC [.lst (bx L),vI row] O=.ok (.lst (bx L'),O')/\L'.map (·.2)=dZ n (L.map (·.2)) row/\Sto O' L':=by
 have few:=h.few
 have dz:∀p∈L,bV [vI row,vI p.2] []=.ok (.int (aB row p.2),[]):=λp hp=>BJ (by rw[h.rl];have:=h.n7;omega) λq hq=>jk (by have:=h.bb;omega) (by have:=h.bb;omega) (h.rz _ (CK hq).1) (h.sz _ (As hp) _ (CK hq).2)
 have v2:=dE (l:=L) (item:=λp=>.ptr p.1) (out:=λp=>.int (aB row p.2)) (caps:=[1]) (im:=listI (aa 0)) (e:=kc 2 bV (ae (aa 1) (ae (aa 0) ak))) (k:=none) (s:=⟨[some (.lst (bx L)),some (vI row),none,none,none,none,none,none,none],O⟩) (by rw[cM,ag (i:=0) rfl,aj];rfl) trivial (by omega)
  (λp hp=>DM (aE (ag rfl) (aE (ag rfl) (aG _))) (rs:=[vI row,vI p.2]) (by simp only[oX,qL,nN (hs p hp),jW,qT]) (dz p hp) (by simp) rfl rfl)
 have v3:=dE (l:=L) (item:=λp=>.ptr p.1) (out:=λp=>.int (dN p.2:Nat)) (caps:=[]) (im:=listI (aa 0)) (e:=kc 1 j4 (ae (aa 0) ak)) (k:=none) (s:=⟨[some (.lst (bx L)),some (vI row),some (.lst (L.map λp=>.int (aB row p.2))),none,none,none,none,none,none],O⟩) (by rw[cM,ag (i:=0) rfl,aj];rfl) trivial (by omega)
  (λp hp=>DM (aE (ag rfl) (aG _)) (rs:=[vI p.2]) (by simp only[oX,qL,nN (hs p hp),jW,qT]) GV (by simp) rfl rfl)
 rw[show (L.map λp=>D.int (dN p.2:Nat))=(L.map λp=>dN p.2).map (λx:Nat=>D.int (x:Int)) by rw[ss];rfl] at v3
 have v4:=DW (l:=L) (f:=λp=>.ptr p.1) (g:=λp=>.int (aB row p.2)) (p:=λp=>decide (aB row p.2=0)) (out:=λp=>.ptr p.1) (caps:=[]) (im:=pA (ae (aa 0) (ae (aa 2) ak))) (c:=bg (ao eqD (aa 1) (aq (.int 0)))) (e:=aa 0) (k:=none) (s:=⟨[some (.lst (bx L)),some (vI row),some (.lst (L.map λp=>.int (aB row p.2))),some (vN (L.map λp=>dN p.2)),none,none,none,none,none],O⟩) (by
  rw[Lk,aV,ag (i:=0) rfl,aj]
  dsimp only
  rw[aV,ag (i:=2) rfl,aj]
  dsimp only
  rw[aG,aj,aj,aj]
  dsimp only
  rw[IU]) trivial (by omega) (λp _=>fM (aO (ag rfl) (aC _ _) (nK _ _))) (λp _ _=>ag rfl)
 have U:∀(R:List (Option D)) (P:ay),R[2]? =some (some (.lst (L.map λp=>.int (aB row p.2))))->cP (ae (aa 2) ak) ⟨R,P⟩=.ok ((L.zipIdx.map λq=>D.tup [.int (q.2:Int),.int (aB row q.1.2)],none),⟨R,P⟩):=λR P hR=>by
  rw[iH,aV,ag (i:=2) hR,aj]
  dsimp only
  rw[aG,aj,aj]
  dsimp only
  rw[show dO (L.map λp=>D.int (aB row p.2))=L.zipIdx.map λq=>D.tup [.int (q.2:Int),.int (aB row q.1.2)] by
   unfold dO
   rw[P5,QQ,ss]
   rfl]
 have zl:L.zipIdx.length=L.length:=by simp
 have vn:∀Z:List ((Nat×List Int)×Nat),(Z.map λq=>D.int (q.2:Int))=(Z.map (·.2)).map λx:Nat=>D.int (x:Int):=λZ=>by rw[ss];rfl
 have v5:=yf (l:=L.zipIdx) (f:=λq=>.int (q.2:Int)) (g:=λq=>.int (aB row q.1.2)) (p:=λq=>decide (0<aB row q.1.2)) (out:=λq=>.int (q.2:Int)) (caps:=[]) (im:=cP (ae (aa 2) ak)) (c:=bg (ao gtD (aa 1) (aq (.int 0)))) (e:=aa 0) (k:=none) (s:=⟨[some (.lst (bx L)),some (vI row),some (.lst (L.map λp=>.int (aB row p.2))),some (vN (L.map λp=>dN p.2)),some (.ptr O.length),none,none,none,none],O++[.lst ((L.filter λp=>decide (aB row p.2=0)).map λp=>.ptr p.1)]⟩) (U _ _ rfl) trivial (by omega) (λq _=>fM (aO (ag rfl) (aC _ _) (DT _ _))) (λq _ _=>ag rfl)
 generalize hA:(L.zipIdx.filter λq=>decide (0<aB row q.1.2))=J at v5
 rw[vn] at v5
 have v6:=yf (l:=L.zipIdx) (f:=λq=>.int (q.2:Int)) (g:=λq=>.int (aB row q.1.2)) (p:=λq=>decide (aB row q.1.2<0)) (out:=λq=>.int (q.2:Int)) (caps:=[]) (im:=cP (ae (aa 2) ak)) (c:=bg (ao ltD (aa 1) (aq (.int 0)))) (e:=aa 0) (k:=none) (s:=⟨[some (.lst (bx L)),some (vI row),some (.lst (L.map λp=>.int (aB row p.2))),some (vN (L.map λp=>dN p.2)),some (.ptr O.length),some (vN (J.map (·.2))),none,none,none],O++[.lst ((L.filter λp=>decide (aB row p.2=0)).map λp=>.ptr p.1)]⟩) (U _ _ rfl) trivial (by omega) (λq _=>fM (aO (ag rfl) (aC _ _) (nM _ _))) (λq _ _=>ag rfl)
 generalize hB:(L.zipIdx.filter λq=>decide (aB row q.1.2<0))=Y at v6
 rw[vn] at v6
 have at_:∀q∈L.zipIdx,L[q.2]? =some q.1:=λq hq=>List.mem_zipIdx_iff_getElem?.mp hq
 have mA:∀q∈J,L[q.2]? =some q.1:=λq hq=>at_ q (by rw[<- hA] at hq;exact(u0.mp hq).1)
 have mB:∀q∈Y,L[q.2]? =some q.1:=λq hq=>at_ q (by rw[<- hB] at hq;exact(u0.mp hq).1)
 have lA:J.length<=L.length:=by rw[<- hA,<- zl];exact Ql _ _
 have lB:Y.length<=L.length:=by rw[<- hB,<- zl];exact Ql _ _
 have sub:∀p∈L.filter (λp=>decide (aB row p.2=0)),p∈L:=λp hp=>(u0.mp hp).1
 have lT:(L.filter λp=>decide (aB row p.2=0)).length<=L.length:=Ql _ _
 have iv:Iv L (L.filter λp=>decide (aB row p.2=0)) O.length (O++[.lst ((L.filter λp=>decide (aB row p.2=0)).map λp=>.ptr p.1)]):=⟨by simp,hs.app _,λp hp=>(hs.app _) p (sub p hp),λp hp=>wS (hs.lt (sub p hp)),λp hp=>wS (hs.lt hp)⟩
 obtain⟨T',O',y7,y8,e7,i7,m7⟩:=DI (ab:=J.map (·.2)) h mB (by omega) ((J.map (·.2)).map λx:Nat=>D.int (x:Int)) J _ _ none none mA (by omega) iv
 refine⟨T',O'.set O.length .dead, ?_, ?_,i7.s.set i7.tn _⟩
 ·refine eV (R:=mR L row O.length (J.map (·.2)) (Y.map (·.2)) y7 y8) ?_
  show jz ⟨[some (.lst (bx L)),some (vI row),none,none,none,none,none,none,none],O⟩=_
  rw[jz]
  refine aY (bK v2 rfl) (aY (bK v3 rfl) (aY (bK v4 rfl) (aY (bK v5 rfl) (aY (bK v6 rfl) (aY ?_ (bI (ny (ag rfl) i7.told rfl)))))))
  refine(dQ (im:=listI (aa 5)) (ds:=(J.map (·.2)).map λx:Nat=>D.int (x:Int)) (k:=none) (s1:=⟨mR L row O.length (J.map (·.2)) (Y.map (·.2)) none none,O++[.lst ((L.filter λp=>decide (aB row p.2=0)).map λp=>.ptr p.1)]⟩) (by rw[cM,ag (i:=5) rfl,aj];rfl)).trans ?_
  rw[<- vn]
  exact e7
 ·rw[m7]
  unfold dZ
  rw[PY,PY,PY]
  have eA:=Ce (λp:Nat×List Int=>decide (0<aB row p.2)) L
  have eB:=Ce (λp:Nat×List Int=>decide (aB row p.2<0)) L
  rw[hA] at eA
  rw[hB] at eB
  show _=(L.filter λp=>decide (aB row p.2=0)).map (·.2)++((L.filter λp:Nat×List Int=>decide (0<aB row p.2)).map (·.2)).flatMap λh=>(((L.filter λp:Nat×List Int=>decide (aB row p.2<0)).map (·.2)).filter λw=>nbB n (L.map (·.2)) h w).map λw=>c7 w (aB row w) h (aB row h)
  rw[<- eA,<- eB]
  congr 1
  rw[Sb,Sb]
  refine congrArg (λF=>J.flatMap F) (funext λa=> ?_)
  rw[ss,PY,ss]
  rfl
theorem Ga {α:Type} {l:List α} {item:α->D} {f:α->List Int} {T:α->Nat->Prop} {caps:List Nat} {e:EM} {k:Option Nat} (I:ay->Prop) (Y:∀O E,I O->I (O++E)) (h0:I O) (J:im ⟨R,O⟩=.ok ((l.map item,k),⟨R,O⟩)) (U:∀O,I O->okC (l.map item) k O) (hl:l.length<=1000000)
 (he:∀a∈l,∀O,I O->∃q E,e ⟨some (item a)::caps.map (λi=>(R[i]?).getD none),O⟩=.ok (.ptr q,⟨some (item a)::caps.map (λi=>(R[i]?).getD none),O++E⟩)/\(O++E)[q]? =some (.lst ((f a).map D.int))/\(T a q\/O.length<=q)):
 ∃(L:List (Nat×List Int)) (E:ay),bD 1 caps im (ax 0) bF e ⟨R,O⟩=.ok (.lst (bx L),⟨R,O++E⟩)/\L.map (·.2)=l.map f/\Sto (O++E) L:=by
 obtain⟨L,E,x',e1,e2,e3,e4⟩:=xo (ok:=okC (l.map item) k) (e:=e) (cap:=caps.map (λi=>(R[i]?).getD none)) (T:=T) I Y U l [] none O h0 (by simp;omega) he
 refine⟨L,E, ?_,e2,e3⟩
 rw[lK,qZ,J,aj]
 dsimp only
 rw[show lL 1 caps R=none::caps.map (λi=>(R[i]?).getD none) from rfl,e1,aj,aj]
 rfl
theorem Kq(ha:a<n)(hn:n<=1000000):ug [.int (a:Int),.int (n:Int)] []=.ok (.ptr 0,[.lst ((dS n a).map D.int)]):=by
 have h1:=d0 (i:=2) (vr (JM (fin:=pR) (mk:=aa 1) (s:=⟨[some (.int (a:Int)),some (.int (n:Int)),none],[]⟩) (n:=n) (by simp) hn) (yh _ _))
 have h2:lb (aq (.int 1)) (vY (aa 2) (aa 0)) ⟨[some (.int (a:Int)),some (.int (n:Int)),some (.ptr 0)],[.lst ((pr n (0:Int)).map D.int)]⟩=.next ⟨[some (.int (a:Int)),some (.int (n:Int)),some (.ptr 0)],[.lst ((dS n a).map D.int)]⟩:=by
  rw[yt,aC,aj,BW (k:=0) (a:=a) (ds:=(pr n (0:Int)).map D.int) (s1:=⟨[some (.int (a:Int)),some (.int (n:Int)),some (.ptr 0)],[.lst ((pr n (0:Int)).map D.int)]⟩) (s2:=⟨[some (.int (a:Int)),some (.int (n:Int)),some (.ptr 0)],[.lst ((pr n (0:Int)).map D.int)]⟩) (by simp) (by simp) rfl (by simpa using ha)]
  simp[dS,SI]
 refine eV (R:=[some (.int (a:Int)),some (.int (n:Int)),some (.ptr 0)]) ?_
 show By ⟨[some (.int (a:Int)),some (.int (n:Int)),none],[]⟩=_
 rw[By,bL h1]
 exact aY h2 (bI (ag rfl))
theorem Ic(hn:n<=1000)(O:ay):∃L E,uI [.int (n:Int)] O=.ok (.lst (bx L),O++E)/\L.map (·.2)=cR n/\Sto (O++E) L:=by
 obtain⟨L,E,e,h1,h2⟩:=Ga (l:=pc n) (item:=λi:Nat=>D.int (i:Int)) (f:=dS n) (T:=λ_ _=>False) (caps:=[0]) (im:=dA (ae (aa 0) ak)) (e:=dU 2 ug (ae (aa 0) (ae (aa 1) ak))) (k:=none) (R:=[some (.int (n:Int))]) (O:=O) (λ_=>True) (λ_ _ _=>trivial) trivial (by
  rw[dY (n:=n) (s1:=⟨[some (.int (n:Int))],O⟩) (aE (ag rfl) (aG _)) (by omega),eO]) (λ_ _=>trivial) (by rw[P4];omega) (λa ha P _=>
  ⟨P.length,[.lst ((dS n a).map D.int)],g7 (aE (ag rfl) (aE (ag rfl) (aG _))) (Kq (wn.mp ha) (by omega)) (by simp) rfl (ib _ _) (by simp),by simp,.inr (qh _)⟩)
 refine⟨L,E, ?_,h1,h2⟩
 refine eV (R:=[some (.int (n:Int))]) ?_
 show yj ⟨[some (.int (n:Int))],O⟩=_
 rw[yj]
 exact bI e
theorem xh{O:ay}:∀{L:List (Nat×List Int)},Sto O L->keyed O (bx L)=some (L.map λp=>(.ptr p.1,p.2))
 | [],_=>rfl
 | p::L,h=>by
  have e:=xh (L:=L) λq hq=>h q (ol _ hq)
  have c:xr O (.ptr p.1)=some p.2:=by
   unfold xr
   rw[lQ (h p pi)]
   exact xS _
  show keyed O (.ptr p.1::bx L)=_
  unfold keyed
  rw[c,e]
  rfl
theorem GQ(L:List (Nat×List Int)):(ey (L.map λp=>(D.ptr p.1,p.2))).map (·.1)=bx (ey L):=by
 rw[mD (g:=λp:Nat×List Int=>(D.ptr p.1,p.2)) λ_=>rfl,ss]
 rfl
theorem vT{O:ay}{fin:S->List D->Res (D×S)}(J:me s=.ok (d,s1))(hd:lsD s1.o d=some (bx L))(hs:Sto s1.o L)(U:L.length<64)(Y:(L.map (·.2)).Nodup):uE fin me s=fin s1 (bx (ey L)):=by
 unfold uE
 rw[J,aj]
 dsimp only
 rw[hd]
 dsimp only
 rw[xh hs]
 dsimp only
 rw[if_pos ⟨by rw[nW];exact U,by rw[ss];exact Y⟩,GQ]
def oZ(V:List (List Int)):List (List Int):=(ey (V.map λx=>((),x))).map (·.2)
theorem zT(L:List (Nat×List Int)):(ey L).map (·.2)=oZ (L.map (·.2)):=by
 unfold oZ
 rw[ss,show ((λx:List Int=>((),x))∘λx:Nat×List Int=>x.2)=λp:Nat×List Int=>((),p.2) from rfl,mD (g:=λp:Nat×List Int=>((),p.2)) λ_=>rfl,ss]
 rfl
theorem zD(n:Nat):cL 1 (cR n):=λx hx=>by
 unfold cR at hx
 obtain⟨a,_,rfl⟩:=li.mp hx
 exact yR n a
structure AN(c B n:Nat)(rows:List (List Int)):Prop where
 len:∀r∈rows,r.length=n
 sz:cL c rows
 big:oU c rows.length 1<=B
 cB:c<=B
 B2:2*B+20<=60000000
 n7:n<=7
theorem CJ{c B n:Nat}(h:AN c B n rows){rs:List (List Int)}(hr:∀r∈rs,r∈rows)(U:rs.length<=rows.length):cL B (rs.foldl (dZ n) (cR n)):=
 (wM rs 1 _ (λr J=>⟨h.sz r (hr r J),by rw[h.len r (hr r J)];have:=h.n7;omega⟩) (zD n)).mono (yB (mK c rs.length rows.length 1 U) h.big)
theorem Ci{c B n:Nat}(h:AN c B n rows):∃k O Ls,lC [vII rows,.int (n:Int)] []=.ok (.ptr k,O)/\O[k]? =some (.lst (bx Ls))/\Sto O Ls/\(∀p∈Ls,p.1≠k)/\Ls=ey Ls/\Ls.map (·.2)=oZ (jB rows n):=by
 have n7:=h.n7
 obtain⟨L0,E0,e0,m0,s0⟩:=Ic (n:=n) (by omega) []
 rw[vG] at e0 s0
 obtain⟨s',el,rs,L,O,x3,Y,az,J,ml⟩:=eU (ok:=okC (rows.map vI) none) (g:=ax 3) (body:=vS)
  (λpre s=>∃(rs:List (List Int)) (L:List (Nat×List Int)) (O:ay) (x3:Option D),pre=rs.map vI/\s=⟨[some (vII rows),some (.int (n:Int)),some (.lst (bx L)),x3],O⟩/\Sto O L/\L.map (·.2)=rs.foldl (dZ n) (cR n)) (λ_ _ _=>trivial) (rows.map vI) [] (by
   rintro pre d rest ed s ⟨rs,L,O,x3,rfl,rfl,J,ml⟩
   rw[vG] at ed
   obtain⟨U,l2,e1,e2,e3⟩:=List.map_eq_append_iff.mp ed
   cases l2 with
   | nil=>cases e3
   | cons r l2=>
    rw[sH] at e3
    injection e3 with e3 e4
    subst e3
    have e5:U=rs:=(Py (λa b h=>by
     have:a.map D.int=b.map D.int:=by injection h
     exact(Py (λx y q=>by cases q;rfl)).mp this)).mp e2
    subst e5
    have inR:∀q∈U,q∈rows:=λq hq=>by rw[e1];exact FS _ hq
    have rR:r∈rows:=by rw[e1];simp
    have k:jq n U (jB U n):=mG λq hq=>h.len q (inR q hq)
    have cl:U.length<=rows.length:=by rw[e1,u8];omega
    have mem:∀p∈L,cJ n U p.2:=λp hp=>(k.all p.2).mp (by
     show p.2∈U.foldl (dZ n) (cR n)
     rw[<- ml];exact As hp)
    have wk:Wrk n L r B:=⟨λp hp=>(mem p hp).fit.len,λp hp=>(mem p hp).fit.nn,by
     have:=k.few n7
     have e:L.length=(jB U n).length:=by show _=(U.foldl (dZ n) (cR n)).length;rw[<- ml,nW]
     omega,h.len r rR,by omega,by rw[ml];exact CJ h inR cl,(h.sz r rR).mono h.cB,h.B2⟩
    obtain⟨L',O',e6,m6,s6⟩:=Le wk J
    refine⟨⟨[some (vII rows),some (.int (n:Int)),some (.lst (bx L)),some (vI r)],O⟩,⟨[some (vII rows),some (.int (n:Int)),some (.lst (bx L')),some (vI r)],O'⟩,rfl,.inl ?_,U++[r],L',O',_,by simp,rfl,s6,by rw[m6,ml,QB];rfl⟩
    rw[vS]
    exact bK (qp (aE (ag rfl) (aE (ag rfl) (aG _))) e6 rfl) rfl) ⟨[some (vII rows),some (.int (n:Int)),some (.lst (bx L0)),none],E0⟩ ⟨[],L0,E0,none,rfl,rfl,s0,m0⟩
 rw[vG] at Y
 have e5:rows=rs:=(Py (λa b h=>by
  have:a.map D.int=b.map D.int:=by injection h
  exact(Py (λx y q=>by cases q;rfl)).mp this)).mp Y
 subst e5
 subst az
 have k:jq n rows (jB rows n):=mG h.len
 have ab:L.map (·.2)=jB rows n:=ml
 have nd:(L.map (·.2)).Nodup:=by rw[ab];exact k.nd
 have few:L.length<64:=by have:=k.few n7;rw[<- ab,nW] at this;exact this
 have so:uE pR (aa 2) ⟨[some (vII rows),some (.int (n:Int)),some (.lst (bx L)),x3],O⟩=.ok (.ptr O.length,⟨[some (vII rows),some (.int (n:Int)),some (.lst (bx L)),x3],O++[.lst (bx (ey L))]⟩):=(vT (O:=O) (fin:=pR) (ag rfl) rfl J few nd).trans (yh _ _)
 have mem:∀p∈ey L,p∈L:=λp hp=>(gu L).mem_iff.mp hp
 refine⟨O.length,O++[.lst (bx (ey L))],ey L, ?_,by simp,λp hp=>(J.app _) p (mem p hp),λp hp=>wS (J.lt (mem p hp)), ?_,by rw[zT,ab]⟩
 ·refine eV (R:=[some (vII rows),some (.int (n:Int)),some (.lst (bx L)),x3]) ?_
  show CI ⟨[some (vII rows),some (.int (n:Int)),none,none],[]⟩=_
  rw[CI]
  refine aY (bK (qp (aE (ag rfl) (aG _)) e0 rfl) rfl) (aY ?_ (bI so))
  exact(dQ (im:=listI (aa 0)) (ds:=rows.map vI) (k:=none) (s1:=⟨[some (vII rows),some (.int (n:Int)),some (.lst (bx L0)),none],E0⟩) (by rw[cM,ag (i:=0) rfl,aj];rfl)).trans el
 ·refine wu (gu _).symm ?_ (m9 L) (m9 _)
  exact((gu L).map (·.2)).nodup_iff.mpr nd
structure uq(n:Nat)(rows:List (List Int)):Prop where
 len:∀r∈rows,r.length=n
 sz:cL 200 rows
 cnt:rows.length<=5
 n7:n<=7
theorem big:oU 200 5 1<=8000:=by decide
theorem Jb(h:uq n rows){rs:List (List Int)}(hr:∀r∈rs,r∈rows)(U:rs.length<=5):cL 8000 (rs.foldl (dZ n) (cR n)):=by
 refine(wM rs 1 _ (λr J=>⟨h.sz r (hr r J),by rw[h.len r (hr r J)];have:=h.n7;omega⟩) (zD n)).mono ?_
 exact yB (mK 200 rs.length 5 1 U) big
theorem uq.toC(h:uq n rows):AN 200 8000 n rows:=⟨h.len,h.sz,yB (mK 200 rows.length 5 1 h.cnt) big,by decide,by decide,h.n7⟩
theorem KU(h:uq n rows):∃k O J,lC [vII rows,.int (n:Int)] []=.ok (.ptr k,O)/\O[k]? =some (.lst (bx J))/\Sto O J/\(∀p∈J,p.1≠k)/\J=ey J/\J.map (·.2)=oZ (jB rows n):=Ci h.toC
theorem AQ(A:List (List Int))(h:cU d=true):aQ [vII A,d]=true:=by
 rw[gN,gN,kH,kJ,h]
 rfl
theorem Ef(n:Nat):∀L:List (Nat×List Int),fu n (bx L)=bx (L.map λp=>(n+p.1,p.2))
 | []=>by simp[fu]
 | p::L=>by
  show fu n (.ptr p.1::bx L)=_
  unfold fu
  rw[Ef n L,ib]
  rfl
theorem xn{O S:ay}(h:Sto O L):Sto (S++O.map (shC S.length)) (L.map λp=>(S.length+p.1,p.2)):=λq hq=>by
 obtain⟨p,hp,rfl⟩:=li.mp hq
 dsimp only
 rw[re (by omega),Db,sI,h p hp]
 simp
theorem uL{O S:ay}(h:O[k]? =some (.lst (bx L))):(S++O.map (shC S.length))[S.length+k]? =some (.lst (bx (L.map λp=>(S.length+p.1,p.2)))):=by
 rw[re (by omega),Db,sI,h]
 simp only[IH,nO,Ef]
theorem zL(ns:List Int)(J:ns.length<=1000000):gK [vI ns] []=.ok (vI (low ns),[]):=by
 by_cases h:cI ns=0
 ·refine cS (s:=⟨[some (vI ns),some (.int 0)],[]⟩) ?_
  simp[pE,r9,h,low]
 ·have hc:=dE (l:=ns) (item:=D.int) (out:=λn=>.int (n/(cI ns:Int))) (caps:=[1]) (im:=listI (aa 0)) (e:=ao gj (aa 0) (aa 1)) (k:=none) (s:=⟨[some (vI ns),some (.int (cI ns:Nat))],[]⟩) (by simp) trivial (by omega) (λa _=>by
   simp[pf (show (cI ns:Int)≠0 by omega),rV (show (0:Int)<cI ns by omega)])
  refine cS (s:=⟨[some (vI ns),some (.int (cI ns:Nat))],[]⟩) ?_
  simp[pE,r9,h,hc,low,ss,Qf]
theorem DJ(ha:a<n)(hn:n<=1000000):∃O,jy [.int (a:Int),.int (n:Int)] []=.ok (vI (dS n a),O):=by
 have h1:=d0 (i:=2) (vr (JM (fin:=pR) (mk:=aa 1) (s:=⟨[some (.int (a:Int)),some (.int (n:Int)),none],[]⟩) (n:=n) (by simp) hn) (yh _ _))
 have h2:lb (aq (.int 1)) (vY (aa 2) (aa 0)) ⟨[some (.int (a:Int)),some (.int (n:Int)),some (.ptr 0)],[.lst ((pr n (0:Int)).map D.int)]⟩=.next ⟨[some (.int (a:Int)),some (.int (n:Int)),some (.ptr 0)],[.lst ((dS n a).map D.int)]⟩:=by
  rw[yt,aC,aj,BW (k:=0) (a:=a) (ds:=(pr n (0:Int)).map D.int) (s1:=⟨[some (.int (a:Int)),some (.int (n:Int)),some (.ptr 0)],[.lst ((pr n (0:Int)).map D.int)]⟩) (s2:=⟨[some (.int (a:Int)),some (.int (n:Int)),some (.ptr 0)],[.lst ((pr n (0:Int)).map D.int)]⟩) (by simp) (by simp) rfl (by simpa using ha)]
  simp[dS,SI]
 refine jI ⟨⟨[some (.int (a:Int)),some (.int (n:Int)),some (.ptr 0)],[.dead]⟩, ?_⟩
 show tZ ⟨[some (.int (a:Int)),some (.int (n:Int)),none],[]⟩=_
 rw[tZ,bL h1]
 refine vr (bL h2) ?_
 simp
theorem Gq(hn:n<=1000000):lj [.int (n:Int)] []=.ok (vII (cR n),[]):=by
 have hc:=dE (l:=pc n) (item:=λi=>.int (i:Int)) (out:=λi=>vI (dS n i)) (caps:=[0]) (im:=dA (ae (aa 0) ak)) (e:=aN 2 jy (ae (aa 0) (ae (aa 1) ak))) (k:=none) (s:=⟨[some (.int (n:Int))],[]⟩) (by
  rw[dY (n:=n) (s1:=⟨[some (.int (n:Int))],[]⟩) (by simp) hn,eO]) trivial (lU (by rw[P4];exact hn)) (λa ha=>by
  obtain⟨O,e⟩:=DJ (wn.mp ha) hn
  exact cx (ds:=[.int (a:Int),.int (n:Int)]) (by simp) (by simp) rfl e (by simp))
 refine cS (s:=⟨[some (.int (n:Int))],[]⟩) ?_
 show qz ⟨[some (.int (n:Int))],[]⟩=_
 rw[qz,bI hc]
 simp[cR]
theorem Ag{one other:List Int}{v w:Int}(U:one.length<=1000000)(h1:∀a∈one,IntMulOk a w)(h2:∀b∈other,IntMulOk b v):fW [vI one,.int v,vI other,.int w] []=.ok (vI (c7 one v other w),[]):=by
 have hz:(one.zip other).length<=1000000:=by rw[PV];omega
 have hc:=Bx (l:=one.zip other) (f:=λp=>.int p.1) (g:=λp=>.int p.2) (out:=λp=>.int (p.1*w-p.2*v)) (caps:=[1,3]) (im:=pA (ae (aa 0) (ae (aa 2) ak))) (e:=ao iB (ao dM (aa 0) (aa 3)) (ao dM (aa 1) (aa 2))) (k:=none) (s:=⟨[some (vI one),some (.int v),some (vI other),some (.int w),none],[]⟩) (by simp[o9]) trivial (by omega) (λp hp=>by
  have hp':=CK hp
  simp[dJ (h1 p.1 hp'.1),dJ (h2 p.2 hp'.2)])
 rw[show (one.zip other).map (λp=>D.int (p.1*w-p.2*v))=(gf one v other w).map D.int by rw[gf,<- zip_map];simp] at hc
 have J:(gf one v other w).length<=1000000:=by unfold gf;rw[Po];omega
 refine cS (s:=⟨[some (vI one),some (.int v),some (vI other),some (.int w),some (vI (gf one v other w))],[]⟩) ?_
 show pM ⟨[some (vI one),some (.int v),some (vI other),some (.int w),none],[]⟩=_
 rw[pM,bL (d0 hc)]
 simp[zL _ J,c7]
theorem ze{k:Option Nat}(hd:itemsOf O d=.ok (rows.map vI,k))(hk:okC (rows.map vI) k O)(J:rows.length<=1000000)(ha:∀r∈rows,a<r.length):iC [d,.int (a:Int)] O=.ok (vI (rows.map (nth · a)),O):=by
 have hc:=dE (l:=rows) (item:=vI) (out:=λr=>.int (nth r a)) (caps:=[1]) (im:=listI (aa 0)) (e:=ao ixD (aa 0) (aa 1)) (k:=k) (s:=⟨[some d,some (.int (a:Int))],O⟩) (by simp[hd]) hk (by omega) (λr hr=>by
  simp[i6 (ha r hr)])
 refine cS (s:=⟨[some d,some (.int (a:Int))],O⟩) ?_
 show wb ⟨[some d,some (.int (a:Int))],O⟩=_
 rw[wb,bI hc]
 simp[ss,Qf]
theorem FZ(x:Option D)(L:D):∀(ns:List Int) (J:Nat) (U Y:Option D),(dG ns=none->∃y1 y2,cv (okC (dO [L]) none) (cV (aX (ax 1) (aX (ax 2) cZ)) 2) cC ((ns.zipIdx J).map λp=>.tup [.int (p.2:Int),.int p.1]) ⟨[some L,U,Y],[]⟩=.next ⟨[some L,y1,y2],[]⟩)/\
 ∀j,dG ns=some j->∃y1 y2,cv (okC (dO [L]) none) (cV (aX (ax 1) (aX (ax 2) cZ)) 2) cC ((ns.zipIdx J).map λp=>.tup [.int (p.2:Int),.int p.1]) ⟨[some L,U,Y],[]⟩=.ret (.int ((J+j:Nat):Int)) ⟨[some L,y1,y2],[]⟩
 | [],J,U,Y=>⟨λ_=>⟨U,Y,by simp[cv]⟩,λj h=>by cases h⟩
 | n::ns,J,U,Y=>by
  have ih:=FZ x L ns (J+1) (some (.int (J:Int))) (some (.int n))
  rw[QG,sH,cv,if_pos (show okC (dO [L]) none _ from trivial)]
  have hg:cV (aX (ax 1) (aX (ax 2) cZ)) 2 (.tup [.int (J:Int),.int n]) ⟨[some L,U,Y],[]⟩=.ok ⟨[some L,some (.int (J:Int)),some (.int n)],[]⟩:=by simp
  rw[hg,kb]
  by_cases hn:n=0
  ·have hb:cC ⟨[some L,some (.int (J:Int)),some (.int n)],[]⟩=.next ⟨[some L,some (.int (J:Int)),some (.int n)],[]⟩:=by simp[cC,hn]
   rw[hb]
   dsimp only
   constructor
   ·intro h
    unfold dG at h
    rw[if_neg (by simpa using hn)] at h
    exact ih.1 (by simpa using h)
   ·intro j h
    unfold dG at h
    rw[if_neg (by simpa using hn)] at h
    cases e:dG ns with
    | none=>rw[e] at h;cases h
    | some i=>
     rw[e] at h
     have hj:j=i+1:=by simpa using h.symm
     subst hj
     obtain⟨y1,y2,e2⟩:=ih.2 i e
     exact⟨y1,y2,by rw[e2,show J+1+i=J+(i+1) by omega]⟩
  ·have hb:cC ⟨[some L,some (.int (J:Int)),some (.int n)],[]⟩=.ret (.int (J:Int)) ⟨[some L,some (.int (J:Int)),some (.int n)],[]⟩:=by simp[cC,hn]
   rw[hb]
   dsimp only
   have hs:dG (n::ns)=some 0:=by unfold dG;rw[if_pos hn]
   rw[hs]
   refine⟨λh=>(by cases h),λj h=> ?_⟩
   have hj:j=0:=by simpa using h.symm
   subst hj
   exact⟨_,_,rfl⟩
def sT:Option Nat->D
 | none=>.non
 | some k=>.int (k:Int)
theorem FX(ns:List Int):dD [vI ns] []=.ok (sT (dG ns),[]):=by
 have Y:=dQ (im:=cP (ae (aa 0) ak)) (g:=cV (aX (ax 1) (aX (ax 2) cZ)) 2) (body:=cC) (s:=⟨[some (vI ns),none,none],[]⟩) (ds:=(ns.zipIdx 0).map λp=>.tup [.int (p.2:Int),.int p.1]) (k:=none) (s1:=⟨[some (vI ns),none,none],[]⟩) (by simp[EB])
 have go:=FZ none (vI ns) ns 0 none none
 cases e:dG ns with
 | none=>
  obtain⟨J,U,e1⟩:=go.1 e
  refine cS (s:=⟨[some (vI ns),J,U],[]⟩) ?_
  show fL ⟨[some (vI ns),none,none],[]⟩=_
  rw[fL,uB,Y]
  rw[show cv (okC ((ns.zipIdx 0).map λp=>D.tup [.int (p.2:Int),.int p.1]) none) (cV (aX (ax 1) (aX (ax 2) cZ)) 2) cC ((ns.zipIdx 0).map λp=>.tup [.int (p.2:Int),.int p.1]) ⟨[some (vI ns),none,none],[]⟩=.next ⟨[some (vI ns),J,U],[]⟩ from e1]
  rfl
 | some k=>
  obtain⟨J,U,e1⟩:=go.2 k e
  refine cS (s:=⟨[some (vI ns),J,U],[]⟩) ?_
  show fL ⟨[some (vI ns),none,none],[]⟩=_
  rw[fL,uB,Y]
  rw[show cv (okC ((ns.zipIdx 0).map λp=>D.tup [.int (p.2:Int),.int p.1]) none) (cV (aX (ax 1) (aX (ax 2) cZ)) 2) cC ((ns.zipIdx 0).map λp=>.tup [.int (p.2:Int),.int p.1]) ⟨[some (vI ns),none,none],[]⟩=.ret (.int ((0+k:Nat):Int)) ⟨[some (vI ns),J,U],[]⟩ from e1]
  rw[Nat.zero_add];rfl
theorem Kx{r:List Int}(ha:a<r.length)(J:r.length<=1000000):fS [vI r,.int (a:Int)] []=.ok (vI (gi r a),[]):=by
 have hc:=dE (l:=r) (item:=D.int) (out:=λn=>.int (-n)) (caps:=[]) (im:=listI (aa 0)) (e:=unM ir (aa 0)) (k:=none) (s:=⟨[some (vI r),some (.int (a:Int))],[]⟩) (by simp) trivial (by omega) (λn _=>by simp)
 refine cS (s:=⟨[some (vI r),some (.int (a:Int))],[]⟩) ?_
 by_cases h:0<nth r a
 ·simp[j1,i6 ha,h,gi]
 ·simp[j1,i6 ha,h,gi,hc,ss,Qf]
theorem Ey{row lead:List Int}(h1:a<row.length)(h2:a<lead.length)(Y:row.length<=1000000)(J:∀x∈row,IntMulOk x (nth lead a))(U:∀y∈lead,IntMulOk y (nth row a)):gE [vI row,vI lead,.int (a:Int)] []=.ok (vI (dC lead a row),[]):=by
 refine cS (s:=⟨[some (vI row),some (vI lead),some (.int (a:Int))],[]⟩) ?_
 by_cases h:nth row a=0
 ·simp[tf,i6 h1,h,dC]
 ·simp[tf,i6 h1,i6 h2,h,dC,Ag Y J U]
theorem EN {n a b l d:Nat} {left done:List (List Int)} {x5 x6:Option D} {L:D} (hl:O[l]? =some (.lst (left.map vI))) (hd:O[d]? =some (.lst (done.map vI))) (az:l≠d)
 (ll:∀r∈left,r.length=n) (dl:∀r∈done,r.length=n) (ha:a<n) (hn:n<=1000) (c1:left.length<=1000) (c2:done.length<=1000) (s1:cL b left) (s2:cL b done) (hb:b<=60000000):
 ∃O' l' d' y5 y6,jF ⟨[some L,some (.int (n:Int)),some (.ptr l),some (.ptr d),some (.int (a:Int)),x5,x6],O⟩=.next ⟨[some L,some (.int (n:Int)),some (.ptr l'),some (.ptr d'),some (.int (a:Int)),y5,y6],O'⟩/\
  O'[l']? =some (.lst ((df (left,done) a).1.map vI))/\O'[d']? =some (.lst ((df (left,done) a).2.map vI))/\l'≠d':=by
 have a1:iC [.ptr l,.int (a:Int)] O=.ok (vI (left.map (nth · a)),O):=ze (k:=some l) (by rw[vx hl]) hl (by omega) λr hr=>by rw[ll r hr];exact ha
 have e5:=d0 (i:=5) (cx (n:=1) (f:=dD) (ma:=ae (gU 2 iC (ae (aa 2) (ae (aa 4) ak))) ak) (s:=⟨[some L,some (.int (n:Int)),some (.ptr l),some (.ptr d),some (.int (a:Int)),x5,x6],O⟩) (s':=⟨[some L,some (.int (n:Int)),some (.ptr l),some (.ptr d),some (.int (a:Int)),x5,x6],O⟩) (ds:=[vI (left.map (nth · a))]) (by
  rw[aV,wt (n:=2) (ds:=[.ptr l,.int (a:Int)]) (s':=⟨[some L,some (.int (n:Int)),some (.ptr l),some (.ptr d),some (.int (a:Int)),x5,x6],O⟩) (by simp) rfl a1]
  rfl) (qs _) rfl (FX _) (by cases dG (left.map (nth · a)) <;> simp[sT]))
 unfold df
 dsimp only
 cases e:dG (left.map (nth · a)) with
 | none=>
  rw[e] at e5
  refine⟨O,l,d,some .non,x6, ?_,hl,hd,az⟩
  rw[jF,bL e5]
  refine vr (ki (s':=⟨[some L,some (.int (n:Int)),some (.ptr l),some (.ptr d),some (.int (a:Int)),some .non,x6],O⟩) (by simp[sT])) rfl
 | some k=>
  rw[e] at e5
  obtain⟨k1,k2,_⟩:=gb e
  rw[nW] at k1
  have a3:(left.map vI)[k]'(by simpa using k1)=vI (left.getD k []):=by simp[kt,k1]
  have ab:left.getD k []∈left:=getD_mem k1
  have a4:(left.map vI).eraseIdx k=(left.eraseIdx k).map vI:=zu _ _ _
  generalize a5:left.getD k []=row at *
  have rl:row.length=n:=ll row ab
  have as:(gi row a).length=n:=by rw[vA,rl]
  have bn:=Kx (r:=row) (a:=a) (by omega) (by omega)
  have a6:SzL b (gi row a):=(s1 row ab).sgn a
  generalize U:gi row a=lead at *
  have clr:∀r:List Int,r.length=n->SzL b r->gE [vI r,vI lead,.int (a:Int)] []=.ok (vI (dC lead a r),[]):=λr hr hs=>
   Ey (by omega) (by omega) (by omega) (λx hx=>Bb hb (hs x hx) (a6.nth a)) (λy hy=>Bb hb (a6 y hy) (hs.nth a))
  have ac:(O.set l (.lst ((left.eraseIdx k).map vI)))[l]? =some (.lst ((left.eraseIdx k).map vI)):=fg hl
  have am:(O.set l (.lst ((left.eraseIdx k).map vI)))[d]? =some (.lst (done.map vI)):=by rw[cN az];exact hd
  have e6:=d0 (i:=6) (cx (n:=2) (f:=fS) (ma:=ae (Cv (aa 2) (aa 5)) (ae (aa 4) ak)) (s:=⟨[some L,some (.int (n:Int)),some (.ptr l),some (.ptr d),some (.int (a:Int)),some (.int (k:Int)),x6],O⟩) (s':=⟨[some L,some (.int (n:Int)),some (.ptr l),some (.ptr d),some (.int (a:Int)),some (.int (k:Int)),x6],O.set l (.lst ((left.eraseIdx k).map vI))⟩) (ds:=[vI row,.int (a:Int)]) (by
   rw[aV,Kh (s1:=⟨[some L,some (.int (n:Int)),some (.ptr l),some (.ptr d),some (.int (a:Int)),some (.int (k:Int)),x6],O⟩) (s2:=⟨[some L,some (.int (n:Int)),some (.ptr l),some (.ptr d),some (.int (a:Int)),some (.int (k:Int)),x6],O⟩) (k:=l) (i:=k) (by simp) hl (by simp) hl (by simpa using k1) (by omega),a3,a4]
   simp) (by simp) rfl bn (by simp))
  generalize O.set l (.lst ((left.eraseIdx k).map vI))=O1 at *
  have e2:=d0 (i:=2) (tJ (l:=left.eraseIdx k) (item:=vI) (out:=λr=>vI (dC lead a r)) (caps:=[4,6]) (im:=listI (aa 2)) (e:=aN 3 gE (ae (aa 0) (ae (aa 2) (ae (aa 1) ak)))) (k:=some l) (s:=⟨[some L,some (.int (n:Int)),some (.ptr l),some (.ptr d),some (.int (a:Int)),some (.int (k:Int)),some (vI lead)],O1⟩) (o7 (by simp) ac) ac (by have:=List.length_eraseIdx_le left k;omega) (λr hr=>by
   have a7:=KE hr
   exact cx (ds:=[vI r,vI lead,.int (a:Int)]) (by simp) (by simp) rfl (clr r (ll r a7) (s1 r a7)) (by simp)))
  dsimp only at e2
  have an:(O1++[.lst ((left.eraseIdx k).map λr=>vI (dC lead a r))])[d]? =some (.lst (done.map vI)):=eC am
  have a8:(O1++[.lst ((left.eraseIdx k).map λr=>vI (dC lead a r))])[O1.length]? =some (.lst ((left.eraseIdx k).map λr=>vI (dC lead a r))):=gB
  have b2:=my am
  have bp:(O1++[Cell.lst ((left.eraseIdx k).map λr=>vI (dC lead a r))]).length=O1.length+1:=by simp
  generalize O1++[Cell.lst ((left.eraseIdx k).map λr=>vI (dC lead a r))]=J at *
  have e3:=d0 (i:=3) (tJ (l:=done) (item:=vI) (out:=λr=>vI (dC lead a r)) (caps:=[4,6]) (im:=listI (aa 3)) (e:=aN 3 gE (ae (aa 0) (ae (aa 2) (ae (aa 1) ak)))) (k:=some d) (s:=⟨[some L,some (.int (n:Int)),some (.ptr O1.length),some (.ptr d),some (.int (a:Int)),some (.int (k:Int)),some (vI lead)],J⟩) (o7 (by simp) an) an (by omega) (λr hr=>
   cx (ds:=[vI r,vI lead,.int (a:Int)]) (by simp) (by simp) rfl (clr r (dl r hr) (s2 r hr)) (by simp)))
  dsimp only at e3
  have a9:(J++[.lst (done.map λr=>vI (dC lead a r))])[O1.length]? =some (.lst ((left.eraseIdx k).map λr=>vI (dC lead a r))):=eC a8
  have Y:(J++[.lst (done.map λr=>vI (dC lead a r))])[J.length]? =some (.lst (done.map λr=>vI (dC lead a r))):=gB
  generalize J++[Cell.lst (done.map λr=>vI (dC lead a r))]=O3 at *
  have e7:=cT (uT (mo:=aa 3) (me:=aa 6) (s:=⟨[some L,some (.int (n:Int)),some (.ptr O1.length),some (.ptr J.length),some (.int (a:Int)),some (.int (k:Int)),some (vI lead)],O3⟩) (s1:=⟨[some L,some (.int (n:Int)),some (.ptr O1.length),some (.ptr J.length),some (.int (a:Int)),some (.int (k:Int)),some (vI lead)],O3⟩) (s2:=⟨[some L,some (.int (n:Int)),some (.ptr O1.length),some (.ptr J.length),some (.int (a:Int)),some (.int (k:Int)),some (vI lead)],O3⟩) (k:=J.length) (d:=vI lead) (by simp) Y (by simp) Y (by simp;omega))
  have bb:J.length≠O1.length:=by omega
  refine⟨O3.set J.length (.lst ((done.map λr=>vI (dC lead a r))++[vI lead])),O1.length,J.length,some (.int (k:Int)),some (vI lead), ?_, ?_, ?_,by omega⟩
  ·rw[jF,bL e5]
   refine vr (u7 (s':=⟨[some L,some (.int (n:Int)),some (.ptr l),some (.ptr d),some (.int (a:Int)),some (.int (k:Int)),x6],O⟩) (by simp[sT])) ?_
   refine vr (bL e6) ?_
   refine vr (bL e2) ?_
   refine vr (bL e3) ?_
   exact e7
  ·rw[cN bb,a9]
   dsimp only
   rw[a5,U,ss];rfl
  ·rw[fg Y]
   dsimp only
   rw[a5,U,wp,ss];rfl
theorem Fw(hn:n<=1000)(hc:rows.length<=1000)(hl:∀r∈rows,r.length=n)(hs:cL b rows)(hb:grow b rows.length<=60000000):∃O,uV [vII rows,.int (n:Int)] []=.ok (vII (cb rows n),O):=by
 have e2:=d0 (i:=2) (tJ (l:=rows) (item:=vI) (out:=λr=>vI (low r)) (caps:=[]) (im:=listI (aa 0)) (e:=aN 1 gK (ae (aa 0) ak)) (k:=none) (s:=⟨[some (vII rows),some (.int (n:Int)),none,none,none,none,none],[]⟩) (by simp) trivial (by omega) (λr hr=>
  cx (ds:=[vI r]) (by simp) (by simp) rfl (zL r (by rw[hl r hr];omega)) (by simp)))
 have e3:setM 3 (iZ ak) ⟨[some (vII rows),some (.int (n:Int)),some (.ptr 0),none,none,none,none],[.lst (rows.map λr=>vI (low r))]⟩=.next ⟨[some (vII rows),some (.int (n:Int)),some (.ptr 0),some (.ptr 1),none,none,none],[.lst (rows.map λr=>vI (low r)),.lst []]⟩:=by simp
 have Y:∀a,a<=n->∃left done O l d x4 J U,PSz n b a rows left done/\O[l]? =some (.lst (left.map vI))/\O[d]? =some (.lst (done.map vI))/\l≠d/\
  cv (okC (dt 0 (n:Int)) none) (ax 4) jF ((pc n).map λ(i:Nat)=>D.int (i:Int)) ⟨[some (vII rows),some (.int (n:Int)),some (.ptr 0),some (.ptr 1),none,none,none],[.lst (rows.map λr=>vI (low r)),.lst []]⟩=
  cv (okC (dt 0 (n:Int)) none) (ax 4) jF (((pc n).drop a).map λ(i:Nat)=>D.int (i:Int)) ⟨[some (vII rows),some (.int (n:Int)),some (.ptr l),some (.ptr d),x4,J,U],O⟩:=by
  intro a
  induction a with
  | zero=>exact λ_=>⟨rows.map low,[],_,0,1,none,none,none,PSz.start hl hs,by simp,by simp,by decide,rfl⟩
  | succ a ih=>
   intro ha
   obtain⟨left,done,O,l,d,x4,J,U,P,h1,h2,ac,e⟩:=ih (by omega)
   have as:=P.cnt
   have hb':grow b done.length<=60000000:=yB (Am (by omega)) hb
   obtain⟨O',l',d',y5,y6,eb,q1,q2,q3⟩:=EN (L:=vII rows) (x5:=J) (x6:=U) h1 h2 ac P.ll P.dl (show a<n by omega) hn (by omega) (by omega) P.ls P.ds hb'
   refine⟨_,_,O',l',d',some (.int (a:Int)),y5,y6,P.step hl (by omega),q1,q2,q3, ?_⟩
   rw[e,Ch (by rw[P4];omega),sH,cv,if_pos (show okC _ none _ from trivial)]
   rw[List.getElem_range,CD,kb]
   rw[show (⟨List.set [some (vII rows),some (.int (n:Int)),some (.ptr l),some (.ptr d),x4,J,U] 4 (some (.int (a:Int))),O⟩:S)=⟨[some (vII rows),some (.int (n:Int)),some (.ptr l),some (.ptr d),some (.int (a:Int)),J,U],O⟩ from rfl,eb]
 obtain⟨left,done,O,l,d,x4,J,U,P,h1,h2,ac,e⟩:=Y n (qh n)
 rw[Qe (by simp),IR,cv,if_pos (show okC _ none _ from trivial)] at e
 have hf:=dQ (im:=dA (ae (aa 1) ak)) (g:=ax 4) (body:=jF) (s:=⟨[some (vII rows),some (.int (n:Int)),some (.ptr 0),some (.ptr 1),none,none,none],[.lst (rows.map λr=>vI (low r)),.lst []]⟩) (dY (s1:=⟨[some (vII rows),some (.int (n:Int)),some (.ptr 0),some (.ptr 1),none,none,none],[.lst (rows.map λr=>vI (low r)),.lst []]⟩) (n:=n) (by simp) (by omega))
 rw[show dt 0 (n:Int)=(pc n).map λ(i:Nat)=>D.int (i:Int) from eO n] at hf e
 rw[e] at hf
 refine jI ⟨⟨[some (vII rows),some (.int (n:Int)),some (.ptr l),some (.ptr d),x4,J,U],O.set d .dead⟩, ?_⟩
 show yb ⟨[some (vII rows),some (.int (n:Int)),none,none,none,none,none],[]⟩=_
 rw[yb,bL e2]
 refine vr (bL e3) ?_
 refine vr (bL hf) ?_
 rw[P.done]
 exact bI (Ei (ag rfl) h2)
theorem Lz{lists:List (List Int)}(hn:n<=1000)(hc:lists.length<=1000)(hr:row.length=n)(hl:∀l∈lists,l.length=n)(hs:cL b lists)(am:SzL c row)(hb:b+c+10<=60000000):∃O,fA [vII lists,vI row] []=.ok (vII (eN lists row),O):=by
 have an:∀l∈lists,bV [vI row,vI l] []=.ok (.int (aB row l),[]):=λl h=>BJ (by omega) λp hp=>by
  have hp':=CK hp
  exact jk (m:=c) (n:=b) (by omega) (by omega) (am _ hp'.1) (hs l h _ hp'.2)
 have e2:=d0 (i:=2) (dE (l:=lists) (item:=vI) (out:=λl=>.int (aB row l)) (caps:=[1]) (im:=listI (aa 0)) (e:=aN 2 bV (ae (aa 1) (ae (aa 0) ak))) (k:=none) (s:=⟨[some (vII lists),some (vI row),none,none,none,none],[]⟩) (by simp) trivial (by omega) (λl h=>
  cx (ds:=[vI row,vI l]) (by simp) (by simp) rfl (an l h) (by simp)))
 rw[show lists.map (λl=>D.int (aB row l))=(lists.map (aB row)).map D.int by rw[ss];rfl] at e2
 have e3:=d0 (i:=3) (cx (n:=1) (f:=dD) (ma:=ae (aa 2) ak) (s:=⟨[some (vII lists),some (vI row),some (vI (lists.map (aB row))),none,none,none],[]⟩) (s':=⟨[some (vII lists),some (vI row),some (vI (lists.map (aB row))),none,none,none],[]⟩) (ds:=[vI (lists.map (aB row))]) (by
  rw[aV,ag rfl];rfl) (qs _) rfl (FX _) (by cases dG (lists.map (aB row)) <;> simp[sT]))
 have J:iX ⟨[some (vII lists),some (vI row),none,none,none,none],[]⟩=(aM (ifS (bg (ao isD (aa 3) (aq .non))) (bJ (aa 0)) cF) (aM (setM 4 (ao ixD (aa 0) (aa 3))) (aM (setM 5 (ao ixD (aa 2) (aa 3))) (bJ (bD 2 [4,5,3,2] (cP (ae (aa 0) ak)) (cV (aX (ax 0) (aX (ax 1) cZ)) 2) (bg (ao neD (aa 0) (aa 4))) (aN 4 fW (ae (aa 1) (ae (ao ixD (aa 5) (aa 0)) (ae (aa 2) (ae (aa 3) ak))))))))))
  ⟨[some (vII lists),some (vI row),some (vI (lists.map (aB row))),some (sT (dG (lists.map (aB row)))),none,none],[]⟩:=by
  rw[iX,bL e2]
  exact bL e3
 unfold eN
 cases e:dG (lists.map (aB row)) with
 | none=>
  rw[e] at J
  refine jI ⟨⟨[some (vII lists),some (vI row),some (vI (lists.map (aB row))),some .non,none,none],[]⟩, ?_⟩
  refine vr J (ky ?_)
  refine vr (u7 (s':=⟨[some (vII lists),some (vI row),some (vI (lists.map (aB row))),some .non,none,none],[]⟩) (by simp[sT])) ?_
  exact bI (ag rfl)
 | some k=>
  rw[e] at J
  obtain⟨k1,k2,_⟩:=gb e
  rw[nW] at k1
  have U:lists.getD k []∈lists:=getD_mem k1
  have as:nth (lists.map (aB row)) k=aB row (lists.getD k []):=by
   unfold nth
   simp only[kt,sI,na k1]
   rfl
  have e4:=d0 (i:=4) (m:=ao ixD (aa 0) (aa 3)) (s:=⟨[some (vII lists),some (vI row),some (vI (lists.map (aB row))),some (.int (k:Int)),none,none],[]⟩) (s':=⟨[some (vII lists),some (vI row),some (vI (lists.map (aB row))),some (.int (k:Int)),none,none],[]⟩) (d:=vI (lists.getD k [])) (by
   rw[dH,ag rfl,aj,ag rfl,aj,Mu k1];rfl)
  have e5:=d0 (i:=5) (m:=ao ixD (aa 2) (aa 3)) (s:=⟨[some (vII lists),some (vI row),some (vI (lists.map (aB row))),some (.int (k:Int)),some (vI (lists.getD k [])),none],[]⟩) (s':=⟨[some (vII lists),some (vI row),some (vI (lists.map (aB row))),some (.int (k:Int)),some (vI (lists.getD k [])),none],[]⟩) (d:=.int (aB row (lists.getD k []))) (by
   rw[dH,ag rfl,aj,ag rfl,aj,i6 (by simpa using k1),as];rfl)
  generalize Y:lists.getD k []=base at *
  have bl:=hl base U
  have bs:=hs base U
  have az:∀l∈lists,Sz (b+c+10) (aB row l):=λl h=>oJ am (hs l h) (by rw[hr];exact hn)
  have ab:=yf (l:=lists.zipIdx) (f:=λp=>.int (p.2:Int)) (g:=λp=>vI p.1) (p:=λp=> !decide (p.2=k)) (out:=λp=>vI (c7 p.1 (aB row p.1) base (aB row base))) (caps:=[4,5,3,2]) (im:=cP (ae (aa 0) ak)) (c:=bg (ao neD (aa 0) (aa 4))) (e:=aN 4 fW (ae (aa 1) (ae (ao ixD (aa 5) (aa 0)) (ae (aa 2) (ae (aa 3) ak))))) (k:=none) (s:=⟨[some (vII lists),some (vI row),some (vI (lists.map (aB row))),some (.int (k:Int)),some (vI base),some (.int (aB row base))],[]⟩) (by simp[Hx]) trivial (by simp;omega)
   (λp hp=>by
    have:((p.2:Int)=(k:Int))=(p.2=k):=propext ⟨λh=>by omega,λh=>by omega⟩
    simp[this])
   (λp hp _=>by
    obtain⟨i,l⟩:=(⟨p.2,p.1⟩:Nat×List Int)
    have hm:=List.mem_zipIdx hp
    have a1:p.2<lists.length:=by omega
    have a2:p.1=lists[p.2]:=by have:=hm.2.2;simpa using this
    have ac:p.1∈lists:=by rw[a2];exact wT _
    have hv:nth (lists.map (aB row)) p.2=aB row p.1:=by
     unfold nth
     simp only[kt,sI,na a1,a2]
     rfl
    refine cx (ds:=[vI p.1,.int (aB row p.1),vI base,.int (aB row base)]) ?_ (by simp) rfl (Ag (by rw[hl p.1 ac];omega) (λx hx=>jk (m:=b) (n:=b+c+10) (by omega) (by omega) (hs p.1 ac x hx) (az base U)) (λx hx=>jk (m:=b) (n:=b+c+10) (by omega) (by omega) (bs x hx) (az p.1 ac))) (by simp)
    have hx:ao ixD (aa 5) (aa 0) ⟨some (.int (p.2:Int))::some (vI p.1)::[4,5,3,2].map (λi=>(([some (vII lists),some (vI row),some (vI (lists.map (aB row))),some (.int (k:Int)),some (vI base),some (.int (aB row base))]:List (Option D))[i]?).getD none),[]⟩=.ok (.int (aB row p.1),⟨some (.int (p.2:Int))::some (vI p.1)::[4,5,3,2].map (λi=>(([some (vII lists),some (vI row),some (vI (lists.map (aB row))),some (.int (k:Int)),some (vI base),some (.int (aB row base))]:List (Option D))[i]?).getD none),[]⟩):=by
     rw[dH,ag rfl,aj,ag rfl,aj,i6 (by simpa using a1),hv];rfl
    rw[aV,ag rfl,aj,aV,hx,aj]
    rfl)
  refine jI ⟨⟨[some (vII lists),some (vI row),some (vI (lists.map (aB row))),some (.int (k:Int)),some (vI base),some (.int (aB row base))],[]⟩, ?_⟩
  refine vr J ?_
  refine vr (bL (s':=⟨[some (vII lists),some (vI row),some (vI (lists.map (aB row))),some (.int (k:Int)),none,none],[]⟩) (vr (ki (s':=⟨[some (vII lists),some (vI row),some (vI (lists.map (aB row))),some (.int (k:Int)),none,none],[]⟩) (by simp[sT])) rfl)) ?_
  refine vr (bL e4) ?_
  refine vr (bL e5) ?_
  refine vr (bI ab) ?_
  dsimp only
  rw[Y,A6 lists k (λl=>vI (c7 l (aB row l) base (aB row base)))]
  show Out.ret (.lst _) _=Out.ret (.lst ((List.map _ _).map vI)) _
  rw[ss]
  rfl
theorem Af(hn:n<=1000)(hc:rows.length<=1000)(hl:∀r∈rows,r.length=n)(hs:cL c rows)(hb:iz c n<=60000000):∃O,iN [vII rows,.int (n:Int)] []=.ok (vII (bc rows n),O):=by
 have e2:=d0 (i:=2) (cx (n:=1) (f:=lj) (ma:=ae (aa 1) ak) (s:=⟨[some (vII rows),some (.int (n:Int)),none,none],[]⟩) (s':=⟨[some (vII rows),some (.int (n:Int)),none,none],[]⟩) (ds:=[.int (n:Int)]) (by rw[aV,ag rfl];rfl) (by simp) rfl (Gq (by omega)) (by simp))
 obtain⟨s',e,R,lists,e0,U,Y,az,P,h1⟩:=eU (ok:=okC (rows.map vI) none) (g:=ax 3) (body:=pb)
  (λpre s=>∃(R lists:List (List Int)) (e:Nat) (U:Option D),pre=R.map vI/\(∀r∈R,r∈rows)/\oM n c R lists e/\s=⟨[some (vII rows),some (.int (n:Int)),some (vII lists),U],[]⟩) (λ_ _ _=>trivial) (rows.map vI) [] (by
   rintro pre d rest ed s ⟨R,lists,e,U,rfl,Y,P,rfl⟩
   have hd:d∈rows.map vI:=by rw[vG] at ed;rw[ed];simp
   obtain⟨row,J,rfl⟩:=li.mp hd
   have ab:=P.cnt
   have hz:=Nd (c:=c) (e:=e) (n:=n) (by omega)
   obtain⟨O,eo⟩:=Lz (b:=tk c e) (c:=c) hn (by omega) (hl row J) P.ll P.sz (hs row J) (by omega)
   obtain⟨e',P'⟩:=P.step (hl row J) (hs row J) hn
   refine⟨_,⟨[some (vII rows),some (.int (n:Int)),some (vII (eN lists row)),some (vI row)],[]⟩,rfl,.inl ?_,R++[row],_,e',some (vI row),by simp, ?_,P',rfl⟩
   ·rw[pb]
    exact d0 (i:=2) (cx (n:=2) (f:=fA) (ma:=ae (aa 2) (ae (aa 3) ak)) (s:=⟨[some (vII rows),some (.int (n:Int)),some (vII lists),some (vI row)],[]⟩) (s':=⟨[some (vII rows),some (.int (n:Int)),some (vII lists),some (vI row)],[]⟩) (ds:=[vII lists,vI row]) (by rw[aV,ag rfl,aj,aV,ag rfl];rfl) (by simp) rfl eo (by simp))
   ·intro r hr
    rcases sE.mp hr with q | q
    ·exact Y r q
    ·rw[sB.mp q];exact J) ⟨[some (vII rows),some (.int (n:Int)),some (vII (cR n)),none],[]⟩ ⟨[],cR n,0,none,rfl,by simp,oM.start n c,rfl⟩
 rw[vG] at Y
 have am:R=rows:=(Py (λa b h=>L3 h)).mp Y.symm
 subst am
 have an:lists=kO R n:=P.eq.symm
 have ab:=P.cnt
 obtain⟨O,eo⟩:=Fw (n:=n) (b:=tk c e0) (rows:=lists) hn (by omega) P.ll P.sz (by
  refine yB ?_ hb
  rw[show lists.length=n-e0 by omega]
  exact Ed (by omega))
 have hf:=dQ (im:=listI (aa 0)) (g:=ax 3) (body:=pb) (s:=⟨[some (vII R),some (.int (n:Int)),some (vII (cR n)),none],[]⟩) (ds:=R.map vI) (k:=none) (s1:=⟨[some (vII R),some (.int (n:Int)),some (vII (cR n)),none],[]⟩) (by simp)
 rw[e,h1] at hf
 refine jI ⟨⟨[some (vII R),some (.int (n:Int)),some (vII lists),U],[]⟩, ?_⟩
 show yW ⟨[some (vII R),some (.int (n:Int)),none,none],[]⟩=_
 rw[yW,bL e2]
 refine vr (bL hf) ?_
 rw[bc,<- an]
 exact bI (cx (ds:=[vII lists,.int (n:Int)]) (by rw[aV,ag rfl,aj,aV,ag rfl];rfl) (by simp) rfl eo (by simp))
def JI:Option (Int×List Int)->D
 | none=>.non
 | some x=>.tup [.int x.1,vI x.2]
theorem IF{goal:List Int}(hg:goal.length=n)(hn:n<=1000)(hc:rows.length<=900)(hl:∀r∈rows,r.length=n)(hs:cL c rows)(as:SzL c goal)(hb:iz c (1+rows.length)<=60000000):∃O,mI [vII rows,vI goal] []=.ok (JI (jN rows goal),O):=by
 have U:∀O,br O (.lst [vI goal]) (vII rows)=.ok (vII (goal::rows)):=λO=>by
  rw[oI (by simp;omega)];rfl
 have e2:=d0 (i:=2) (dE (l:=pc n) (item:=λ(i:Nat)=>D.int (i:Int)) (out:=λa=>vI ((goal::rows).map (nth · a))) (caps:=[1,0]) (im:=dA (ae (bo cf (ae (aa 1) ak)) ak)) (e:=gU 2 iC (ae (ao br (g6 (ae (aa 1) ak)) (aa 2)) (ae (aa 0) ak))) (k:=none) (s:=⟨[some (vII rows),some (vI goal),none,none],[]⟩) (by
  rw[dY (n:=n) (s1:=⟨[some (vII rows),some (vI goal),none,none],[]⟩) (by simp[hg]) (by omega),eO]) trivial (lU (by rw[P4];omega)) (λa ha=>by
  have ha':=wn.mp ha
  refine wt (n:=2) (ds:=[vII (goal::rows),.int (a:Int)]) (s':=⟨some (.int (a:Int))::[1,0].map (λi=>(([some (vII rows),some (vI goal),none,none]:List (Option D))[i]?).getD none),[]⟩) ?_ rfl (ze (k:=none) rfl trivial (by simp;omega) (λr hr=>by
   rcases sn.mp hr with rfl | q
   ·omega
   ·rw[hl r q];exact ha'))
  rw[aV,dH,D9,aV,ag (i:=1) rfl,aj,aG,aj,aj,if_pos (by simp),aj]
  dsimp only
  rw[ag (i:=2) rfl,aj]
  dsimp only
  rw[U,aj]
  rfl))
 have Y:(pc n).map (λa=>vI ((goal::rows).map (nth · a)))=(bq rows goal).map vI:=by
  unfold bq;rw[hg,ss];rfl
 rw[Y] at e2
 have ab:cL c (bq rows goal):=by
  intro r hr x hx
  unfold bq at hr
  obtain⟨a,_,rfl⟩:=li.mp hr
  obtain⟨q,hq,rfl⟩:=li.mp hx
  rcases sn.mp hq with rfl | hq
  ·exact as.nth a
  ·exact(hs q hq).nth a
 have az:(bq rows goal).length<=1000:=by unfold bq;simp;omega
 obtain⟨O3,e3⟩:=Af (n:=1+rows.length) (c:=c) (rows:=bq rows goal) (by omega) az gx ab hb
 have e3:=d0 (i:=3) (cx (n:=2) (f:=iN) (ma:=ae (aa 2) (ae (ao br (aq (.int 1)) (bo cf (ae (aa 0) ak))) ak)) (s:=⟨[some (vII rows),some (vI goal),some (vII (bq rows goal)),none],[]⟩) (s':=⟨[some (vII rows),some (vI goal),some (vII (bq rows goal)),none],[]⟩) (ds:=[vII (bq rows goal),.int ((1+rows.length:Nat):Int)]) (by
  rw[show ((1+rows.length:Nat):Int)=1+(rows.length:Int) by omega]
  simp) (by simp) rfl e3 (by simp))
 obtain⟨P,eP,pl,_⟩:=gI (n:=1+rows.length) (rows:=bq rows goal) gx
 have a1:=gA (n:=1+rows.length) (R:=bq rows goal) gx
 have a3:=oW (n:=1+rows.length) (by omega) gx ab
 unfold jN
 generalize bc (bq rows goal) (1+rows.length)=F at *
 have J:uv ⟨[some (vII rows),some (vI goal),none,none],[]⟩=(aM (ifS (orT (qB (B5 (aa 3))) (bg (ao eqD (ao ixD (ao ixD (aa 3) (aq (.int 0))) (aq (.int 0))) (aq (.int 0))))) (bJ (aq .non)) cF) (bJ (k5 (ae (ao ixD (ao ixD (aa 3) (aq (.int 0))) (aq (.int 0))) (ae (bD 1 [] (listI (slM (ao ixD (aa 3) (aq (.int 0))) (part (aq (.int 1))) gc)) (ax 0) bF (unM ir (aa 0))) ak))))) ⟨[some (vII rows),some (vI goal),some (vII (bq rows goal)),some (vII F)],[]⟩:=by
  rw[uv,bL e2]
  exact bL e3
 cases F with
 | nil=>
  refine jI ⟨⟨[some (vII rows),some (vI goal),some (vII (bq rows goal)),some (vII [])],[]⟩, ?_⟩
  refine vr J (ky (vr (u7 (s':=⟨[some (vII rows),some (vI goal),some (vII (bq rows goal)),some (vII [])],[]⟩) ?_) rfl))
  rw[um,qj,DL,ag (i:=3) rfl,aj]
  rfl
 | cons x F=>
  have xl:x.length=1+rows.length:=a1 x pi
  have i0:ao ixD (aa 3) (aq (.int 0)) ⟨[some (vII rows),some (vI goal),some (vII (bq rows goal)),some (vII (x::F))],[]⟩=.ok (vI x,⟨[some (vII rows),some (vI goal),some (vII (bq rows goal)),some (vII (x::F))],[]⟩):=by
   rw[dH,ag (i:=3) rfl,aj,aC,aj]
   dsimp only
   rw[show vII (x::F)=D.lst (vI x::F.map vI) from rfl,NS];rfl
  have ac:ao ixD (ao ixD (aa 3) (aq (.int 0))) (aq (.int 0)) ⟨[some (vII rows),some (vI goal),some (vII (bq rows goal)),some (vII (x::F))],[]⟩=.ok (.int (nth x 0),⟨[some (vII rows),some (vI goal),some (vII (bq rows goal)),some (vII (x::F))],[]⟩):=by
   rw[dH,i0,aj,aC,aj]
   dsimp only
   rw[show (D.int 0)=D.int ((0:Nat):Int) from rfl,i6 (by omega)];rfl
  have am:orT (qB (B5 (aa 3))) (bg (ao eqD (ao ixD (ao ixD (aa 3) (aq (.int 0))) (aq (.int 0))) (aq (.int 0)))) ⟨[some (vII rows),some (vI goal),some (vII (bq rows goal)),some (vII (x::F))],[]⟩=.ok (decide (nth x 0=0),⟨[some (vII rows),some (vI goal),some (vII (bq rows goal)),some (vII (x::F))],[]⟩):=by
   rw[um,qj,DL,ag (i:=3) rfl,aj]
   exact eq_test ac
  by_cases hz:nth x 0=0
  ·refine jI ⟨⟨[some (vII rows),some (vI goal),some (vII (bq rows goal)),some (vII (x::F))],[]⟩, ?_⟩
   refine vr J (ky (vr (u7 (s':=⟨[some (vII rows),some (vI goal),some (vII (bq rows goal)),some (vII (x::F))],[]⟩) ?_) ?_))
   ·rw[am,decide_eq_true hz]
   ·dsimp only
    rw[if_pos hz];rfl
  ·have an:cutD (x.map D.int) (some 1) none=(x.drop 1).map D.int:=GH (n:=1) (by omega)
   have ap:=dE (l:=x.drop 1) (item:=D.int) (out:=λy=>.int (-y)) (caps:=[]) (im:=listI (slM (ao ixD (aa 3) (aq (.int 0))) (part (aq (.int 1))) gc)) (e:=unM ir (aa 0)) (k:=none) (s:=⟨[some (vII rows),some (vI goal),some (vII (bq rows goal)),some (vII (x::F))],[]⟩) (by
    rw[cM,FL,i0,aj,yV,aC,aj]
    dsimp only
    rw[aj,zB,aj]
    dsimp only
    rw[lO]
    dsimp only
    rw[an,aj]
    rfl) trivial (by rw[QF];omega) (λy _=>by simp)
   rw[show (x.drop 1).map (λy=>D.int (-y))=((x.drop 1).map (- ·)).map D.int by rw[ss];rfl] at ap
   refine jI ⟨⟨[some (vII rows),some (vI goal),some (vII (bq rows goal)),some (vII (x::F))],[]⟩, ?_⟩
   refine vr J ?_
   refine vr (bL (s':=⟨[some (vII rows),some (vI goal),some (vII (bq rows goal)),some (vII (x::F))],[]⟩) (vr (ki (s':=⟨[some (vII rows),some (vI goal),some (vII (bq rows goal)),some (vII (x::F))],[]⟩) (by rw[am,decide_eq_false hz])) rfl)) ?_
   dsimp only
   rw[if_neg hz]
   refine bI ?_
   rw[yH,aV,ac,aj,aV,ap,aj,aG,aj,aj,aj]
   rfl
theorem GG{J U:EM}{s s1 s2:S}{i j:Int}(h1:J s=.ok (.int i,s1))(h2:U s1=.ok (.int j,s2)):bo nA (ae J (ae U ak)) s=.ok (.int (max i j),s2):=by
 refine fG (aE h1 (aE h2 (aG _))) ?_
 show Res.ok (D.int (if j>i then j else i))=_
 congr 2
 split <;> omega
def pN(l:List (Str×Int))(g:Str)(a:Int):List (Str×Int):=if 0<a then l++[(g,a)] else l
theorem ph(h:Str)(l r:List (Str×Int)):sumOf h (l++r)=sumOf h l+sumOf h r:=by
 unfold sumOf
 rw[List.filter_append,wp,Sj]
theorem Gz(h:Str)(l:List (Str×Int)):sumOf h l.reverse=sumOf h l:=by
 induction l with
 | nil=>rfl
 | cons p l J=>
  rw[List.reverse_cons,ph,J,show p::l=[p]++l from rfl,ph,Int.add_comm]
theorem zV(h g:Str)(a:Int):sumOf h [(g,a)]=if g=h then a else 0:=by
 unfold sumOf
 by_cases e:g=h
 ·rw[if_pos e,wI (by simpa using e)];simp
 ·rw[if_neg e,Aj (by simpa using e)];rfl
theorem G1{h:Str}(e:∀p∈l,p.1≠h):sumOf h l=0:=by
 unfold sumOf
 rw[List.filter_eq_nil_iff.mpr (λp hp=>by simpa using e p hp)]
 rfl
theorem DH(J:goods.Nodup)(hi:i<goods.length)(h:Pt goods i l)(a:Int):Pt goods (i+1) (pN l goods[i] a):=by
 unfold pN
 split
 ·exact h.more J hi (by omega)
 ·exact h.same
theorem z6(J:goods.Nodup)(hi:i<goods.length)(h:Pt goods i l){a:Int}(ha:0<=a):sumOf goods[i] (pN l goods[i] a)=a:=by
 have z:sumOf goods[i] l=0:=G1 λp hp e=>by
  have:=h.mem p hp
  rw[e] at this
  exact jO J hi this
 unfold pN
 split
 ·rw[ph,z,zV,if_pos rfl,Int.zero_add]
 ·rw[z];omega
theorem xx(J:goods.Nodup){i j:Nat}(hi:i<goods.length)(U:j<i)(l:List (Str×Int))(a:Int):sumOf (goods[j]'(by omega)) (pN l goods[i] a)=sumOf (goods[j]'(by omega)) l:=by
 have ne:goods[i]≠goods[j]'(by omega):=λe=>by
  have:goods[j]'(by omega)∈goods.take i:=x0 (i:=j) (by rw[Rf U,na (by omega)])
  exact jO J hi (by rw[e];exact this)
 unfold pN
 split
 ·rw[ph,zV,if_neg ne,Int.add_zero]
 ·rfl
structure WkI(goods:List Str)(mv:List Int)(i:Nat)(us ms:List (Str×Int)):Prop where
 u:Pt goods i us
 m:Pt goods i ms
 s:∀j,(hj:j<goods.length)->j<i->sumOf goods[j] ms-sumOf goods[j] us=nth mv j
abbrev woR(A:List (List Int))(goods zs:List Str)(c:Int)(x5 x6 x7 x8 x9 x10 x11:Option D):List (Option D):=[some (vII A),some (sD goods),some (sD zs),some (.int c),some (.ptr 0),x5,x6,x7,x8,x9,x10,x11]
theorem xC{l:List Str}(h:i<l.length):ixD O (sD l) (.int (i:Int))=.ok (.str l[i]):=by
 refine nP ?_
 rw[n9 (by simpa using h)]
 simp
theorem CB{J slot i:Nat}{a:Int}(hi:i<goods.length)(h1:R[1]? =some (some (sD goods)))(h9:R[9]? =some (some (.int (i:Int))))(hs:R[slot]? =some (some (.ptr J)))(U:O[J]? =some (.lst (l.map pD)))(hl:l.length<=1000)(Y:me ⟨R,O⟩=.ok (.int a,⟨R,O⟩)):
 ∃O',ifS (bg (ao gtD me (aq (.int 0)))) (dk (gr (aa slot) (k5 (ae (ao ixD (aa 1) (aa 9)) (ae me ak))))) cF ⟨R,O⟩=.next ⟨R,O'⟩/\O'[J]? =some (.lst ((pN l goods[i] a).map pD))/\∀q,q≠J->O'[q]? =O[q]? :=by
 have t:=jJ (j:=0) Y
 unfold pN
 by_cases h:0<a
 ·rw[if_pos h]
  refine⟨O.set J (.lst (l.map pD++[pD (goods[i],a)])),k8 t (decide_eq_true h) (cT (lX (ag hs) U (qY (aE (aO (ag h1) (ag h9) (xC hi)) (aE Y (aG _))) (by simp)) U (by simp;omega) rfl)),by rw[fg U,wp];rfl,λq hq=>cN λz=>hq z.symm⟩
 ·rw[if_neg h]
  exact⟨O,gT t (decide_eq_false h) (d8 _),U,λ_ _=>rfl⟩
theorem KZ{A:List (List Int)}{goods zs:List Str}{c v:Int}{k i ku km:Nat}{mv:List Int}{us ms:List (Str×Int)}{x11:Option D}(J:goods.Nodup)(hi:i<goods.length)(hg:goods.length<=100)(hv:nth mv i=v)(U:ku≠km)(h:WkI goods mv i us ms)(hu:O[ku]? =some (.lst (us.map pD)))(hm:O[km]? =some (.lst (ms.map pD))):
 ∃Y ab O' am,iM ⟨woR A goods zs c (some (.int (k:Int))) (some (vI mv)) (some (.ptr ku)) (some (.ptr km)) (some (.int (i:Int))) (some (.int v)) x11,O⟩=.next ⟨woR A goods zs c (some (.int (k:Int))) (some (vI mv)) (some (.ptr ku)) (some (.ptr km)) (some (.int (i:Int))) (some (.int v)) am,O'⟩/\WkI goods mv (i+1) Y ab/\O'[ku]? =some (.lst (Y.map pD))/\O'[km]? =some (.lst (ab.map pD))/\∀q,q≠ku->q≠km->O'[q]? =O[q]? :=by
 have p0:=jv (c:=c+(k:Int)) (t:=70+(i:Int)) (m:=4) (by decide)
 have q0:=jv (c:=c+(k:Int)) (t:=80+(i:Int)) (m:=9) (by decide)
 have p1:=lS (c:=c+(k:Int)) (t:=70+(i:Int)) (m:=4) (by decide)
 have ac:setM 11 (ao dM (ao gj (aN 3 aR (ae (ao br (aa 3) (aa 5)) (ae (ao br (aq (.int 70)) (aa 9)) (ae (aq (.int 4)) ak)))) (aq (.int 3))) (ao br (aq (.int 1)) (aN 3 aR (ae (ao br (aa 3) (aa 5)) (ae (ao br (aq (.int 80)) (aa 9)) (ae (aq (.int 9)) ak)))))) ⟨woR A goods zs c (some (.int (k:Int))) (some (vI mv)) (some (.ptr ku)) (some (.ptr km)) (some (.int (i:Int))) (some (.int v)) x11,O⟩=.next ⟨woR A goods zs c (some (.int (k:Int))) (some (vI mv)) (some (.ptr ku)) (some (.ptr km)) (some (.int (i:Int))) (some (.int v)) (some (.int (cq (c+(k:Int)) (70+(i:Int)) 4/3*(1+cq (c+(k:Int)) (80+(i:Int)) 9)))),O⟩:=
  bK (aO (aO (f9 (aO (ag rfl) (ag rfl) (cy _ _)) (aO (aC _ _) (ag rfl) (cy _ _)) (aC _ _) (by decide)) (aC _ _) (vE (by decide) (by decide))) (aO (aC _ _) (f9 (aO (ag rfl) (ag rfl) (cy _ _)) (aO (aC _ _) (ag rfl) (cy _ _)) (aC _ _) (by decide)) (cy _ _)) (dJ (fJ (.inl (by omega))))) rfl
 have m0:0<=cq (c+(k:Int)) (70+(i:Int)) 4/3*(1+cq (c+(k:Int)) (80+(i:Int)) 9):=Fh (by omega) (by omega)
 generalize cq (c+(k:Int)) (70+(i:Int)) 4/3*(1+cq (c+(k:Int)) (80+(i:Int)) 9)=m at ac m0
 have ul:=h.u.len
 have ml:=h.m.len
 obtain⟨O1,e1,g1,k1⟩:=CB (R:=woR A goods zs c (some (.int (k:Int))) (some (vI mv)) (some (.ptr ku)) (some (.ptr km)) (some (.int (i:Int))) (some (.int v)) (some (.int m))) (slot:=7) (me:=ao br (aa 11) (bo nA (ae (aq (.int 0)) (ae (unM ir (aa 10)) ak)))) (a:=m+max 0 (-v)) hi rfl rfl rfl hu (by omega) (aO (ag rfl) (GG (aC _ _) (Bd (ag rfl) (qW _))) (cy _ _))
 obtain⟨O2,e2,g2,k2⟩:=CB (R:=woR A goods zs c (some (.int (k:Int))) (some (vI mv)) (some (.ptr ku)) (some (.ptr km)) (some (.int (i:Int))) (some (.int v)) (some (.int m))) (O:=O1) (slot:=8) (me:=ao br (aa 11) (bo nA (ae (aq (.int 0)) (ae (aa 10) ak)))) (a:=m+max 0 v) (l:=ms) hi rfl rfl rfl (by rw[k1 _ U.symm];exact hm) (by omega) (aO (ag rfl) (GG (aC _ _) (ag rfl)) (cy _ _))
 refine⟨pN us goods[i] (m+max 0 (-v)),pN ms goods[i] (m+max 0 v),O2,some (.int m), ?_,⟨DH J hi h.u _,DH J hi h.m _,λj hj a5=> ?_⟩,by rw[k2 _ U];exact g1,g2,λq h1 h2=>by rw[k2 q h2,k1 q h1]⟩
 ·rw[iM]
  exact aY ac (aY e1 e2)
 ·by_cases e:j=i
  ·subst e
   rw[z6 J hi h.m (by omega),z6 J hi h.u (by omega),hv]
   omega
  ·rw[xx J hi (by omega),xx J hi (by omega)]
   exact h.s j hj (by omega)
theorem IP{m:EM}(h:m s=.ok (.ptr k,⟨R,O⟩))(hc:O[k]? =some (.lst ds)):Bp m s=.ok (.lst ds,⟨R,O.set k .dead⟩):=by
 rw[Eo,h,aj]
 dsimp only
 rw[kx hc]
theorem Jw{m:EM}(h:m s=.ok (.lst ds,s1)):Bp m s=.ok (.lst ds,s1):=by
 rw[Eo,h,aj]
 rfl
structure EU(goods:List Str)(w:Wk):Prop where
 us:jP goods w.us/\w.us.length<=100
 ms:jP goods w.ms/\w.ms.length<=100
theorem Jj{A:List (List Int)}{c:Int}{mv:List Int}{W:List Wk}{x7 x8 x9 x10 x11:Option D}(nd:goods.Nodup)(hg:goods.length<=100)(hk:k<zs.length)(hl:mv.length=goods.length)(wl:W.length<=1000)(hO:O[0]? =some (.lst (W.map wD))):
 ∃w O' y7 y8 y9 a1 as,iK ⟨woR A goods zs c (some (.int (k:Int))) (some (vI mv)) x7 x8 x9 x10 x11,O⟩=.next ⟨woR A goods zs c (some (.int (k:Int))) (some (vI mv)) y7 y8 y9 a1 as,O'⟩/\O'[0]? =some (.lst ((W++[w]).map wD))/\w.nm=zs[k]/\EU goods w/\goods.map (chg w)=mv:=by
 have o0:0<O.length:=my hO
 have e7:setM 7 (iZ ak) ⟨woR A goods zs c (some (.int (k:Int))) (some (vI mv)) x7 x8 x9 x10 x11,O⟩=.next ⟨woR A goods zs c (some (.int (k:Int))) (some (vI mv)) (some (.ptr O.length)) x8 x9 x10 x11,O++[.lst []]⟩:=bK (qm (aG _) (by simp) rfl rfl) rfl
 have e8:setM 8 (iZ ak) ⟨woR A goods zs c (some (.int (k:Int))) (some (vI mv)) (some (.ptr O.length)) x8 x9 x10 x11,O++[.lst []]⟩=.next ⟨woR A goods zs c (some (.int (k:Int))) (some (vI mv)) (some (.ptr O.length)) (some (.ptr (O.length+1))) x9 x10 x11,O++[.lst []]++[.lst []]⟩:=bK (qm (aG _) (by simp) (by simp) rfl) rfl
 have cu:(O++[Cell.lst []]++[Cell.lst []])[O.length]? =some (.lst (([]:List (Str×Int)).map pD)):=eC gB
 have cm:(O++[Cell.lst []]++[Cell.lst []])[O.length+1]? =some (.lst (([]:List (Str×Int)).map pD)):=by
  have:=gB (O:=O++[Cell.lst []]) (c:=Cell.lst [])
  rw[u8] at this
  exact this
 have c0:(O++[Cell.lst []]++[Cell.lst []])[0]? =some (.lst (W.map wD)):=eC (eC hO)
 generalize O++[Cell.lst []]++[Cell.lst []]=O1 at e8 cu cm c0
 obtain⟨J,hku⟩:∃J,O.length=J:=⟨_,rfl⟩
 rw[hku] at e7 e8 cu cm o0
 have a5:J≠J+1:=by omega
 obtain⟨s',el,us,ms,O2,ab,U,Y,hw,hu,hm,h0,a6⟩:=eU (ok:=okC (dO (mv.map D.int)) none) (g:=cV (aX (ax 9) (aX (ax 10) cZ)) 2) (body:=iM)
  (λpre s=>∃(us ms:List (Str×Int)) (O2:ay) (x9 x10 x11:Option D),WkI goods mv pre.length us ms/\O2[J]? =some (.lst (us.map pD))/\O2[J+1]? =some (.lst (ms.map pD))/\O2[0]? =some (.lst (W.map wD))/\s=⟨woR A goods zs c (some (.int (k:Int))) (some (vI mv)) (some (.ptr J)) (some (.ptr (J+1))) x9 x10 x11,O2⟩) (λ_ _ _=>trivial) (dO (mv.map D.int)) [] (by
   rintro pre d rest ed s ⟨us,ms,O2,x9,x10,x11,h1,h2,h3,h4,rfl⟩
   rw[vG,kL] at ed
   obtain⟨a7,rfl⟩:=oO ed
   obtain⟨am,a8,O3,as,eb,a9,bb,bd,be⟩:=KZ (A:=A) (goods:=goods) (zs:=zs) (c:=c) (v:=mv[pre.length]) (k:=k) (i:=pre.length) (ku:=J) (km:=J+1) (mv:=mv) (us:=us) (ms:=ms) (O:=O2) (x11:=x11) nd (by omega) hg (by
    unfold nth
    rw[kt,na a7];rfl) a5 h1 h2 h3
   refine⟨_,_,by rw[ow];rfl,.inl eb,am,a8,O3,_,_,_, ?_,bb,bd,by rw[be 0 (by omega) (by omega)];exact h4,rfl⟩
   rw[u8,xz];exact a9) ⟨woR A goods zs c (some (.int (k:Int))) (some (vI mv)) (some (.ptr J)) (some (.ptr (J+1))) x9 x10 x11,O1⟩ ⟨[],[],O1,x9,x10,x11,⟨⟨by simp,by simp,by simp,by simp⟩,⟨by simp,by simp,by simp,by simp⟩,λj _ h=>absurd h (by simp)⟩,cu,cm,c0,rfl⟩
 rw[vG,show (dO (mv.map D.int)).length=goods.length by rw[kL];simp[hl]] at hw
 have hf:fv (cP (ae (aa 6) ak)) (cV (aX (ax 9) (aX (ax 10) cZ)) 2) iM ⟨woR A goods zs c (some (.int (k:Int))) (some (vI mv)) (some (.ptr J)) (some (.ptr (J+1))) x9 x10 x11,O1⟩=.next ⟨woR A goods zs c (some (.int (k:Int))) (some (vI mv)) (some (.ptr J)) (some (.ptr (J+1))) ab U Y,O2⟩:=by
  refine(dQ (ds:=dO (mv.map D.int)) (k:=none) (s1:=⟨woR A goods zs c (some (.int (k:Int))) (some (vI mv)) (some (.ptr J)) (some (.ptr (J+1))) x9 x10 x11,O1⟩) ?_).trans (el.trans (by rw[a6]))
  rw[iH,aE (ag rfl) (aG _),aj]
 have ap:∀am:List (Str×Int),(∀g,sumOf g am=sumOf g us)->goods.map (chg ⟨zs[k],am,ms⟩)=mv:=λam hs=>by
  refine PL (by simp[hl]) λj h1 h2=> ?_
  have hj:j<goods.length:=by simpa using h1
  rw[Rm]
  show sumOf goods[j] ms-sumOf goods[j] am=_
  rw[hs,hw.s j hj hj]
  unfold nth
  rw[kt,na h2];rfl
 have bz:=hw.u.len
 have b1:=hw.m.len
 have t:bg (ao eqD (aN 3 aR (ae (ao br (aa 3) (aa 5)) (ae (aq (.int 90)) (ae (aq (.int 2)) ak)))) (aq (.int 1))) ⟨woR A goods zs c (some (.int (k:Int))) (some (vI mv)) (some (.ptr J)) (some (.ptr (J+1))) ab U Y,O2⟩=.ok (decide (cq (c+(k:Int)) 90 2=1),⟨woR A goods zs c (some (.int (k:Int))) (some (vI mv)) (some (.ptr J)) (some (.ptr (J+1))) ab U Y,O2⟩):=eq_test (f9 (aO (ag rfl) (ag rfl) (cy _ _)) (aC _ _) (aC _ _) (by decide))
 generalize cq (c+(k:Int)) 90 2=p at t
 by_cases hp:p=1
 ·have er:BC Fp (aa 7) gc gc (part (unM ir (aq (.int 1)))) ⟨woR A goods zs c (some (.int (k:Int))) (some (vI mv)) (some (.ptr J)) (some (.ptr (J+1))) ab U Y,O2⟩=.ok (psD us.reverse,⟨woR A goods zs c (some (.int (k:Int))) (some (vI mv)) (some (.ptr J)) (some (.ptr (J+1))) ab U Y,O2⟩):=by
   unfold BC
   rw[ag (i:=7) rfl,aj]
   dsimp only
   rw[rW,aj]
   dsimp only
   rw[rW,aj]
   dsimp only
   rw[C6 (Bd (aC _ _) (qW _)),aj]
   dsimp only
   rw[lQ hu]
   dsimp only
   rw[if_neg (by decide),Hv,<- Sa]
   rfl
  refine⟨⟨zs[k],us.reverse,ms⟩,(O2.set (J+1) .dead).set 0 (.lst (W.map wD++[wD ⟨zs[k],us.reverse,ms⟩])),some (psD us.reverse),some (.ptr (J+1)),ab,U,Y, ?_,(by rw[wp];exact fg (c':=.lst (W.map wD)) (by rw[cN (by omega)];exact h0)),rfl,⟨⟨hw.u.parts.rev,by simp;omega⟩,⟨hw.m.parts,by show ms.length<=100;omega⟩⟩,ap _ λg=>Gz g us⟩
  rw[iK]
  refine aY e7 (aY e8 (aY hf (aY (k8 t (decide_eq_true hp) (bK (R':=woR A goods zs c (some (.int (k:Int))) (some (vI mv)) (some (psD us.reverse)) (some (.ptr (J+1))) ab U Y) er rfl)) (cT (lX (ag rfl) h0 (qY (aE (aO (ag rfl) (ag rfl) (xC hk)) (aE (Jw (ag rfl)) (aE (ny (ag rfl) hm rfl) (aG _)))) (by simp)) (by rw[cN (by omega)];exact h0) (by simp;omega) rfl)))))
 ·refine⟨⟨zs[k],us,ms⟩,((O2.set J .dead).set (J+1) .dead).set 0 (.lst (W.map wD++[wD ⟨zs[k],us,ms⟩])),some (.ptr J),some (.ptr (J+1)),ab,U,Y, ?_,(by rw[wp];exact fg (c':=.lst (W.map wD)) (by rw[cN (by omega),cN (by omega)];exact h0)),rfl,⟨⟨hw.u.parts,by show us.length<=100;omega⟩,⟨hw.m.parts,by show ms.length<=100;omega⟩⟩,ap _ λg=>rfl⟩
  rw[iK]
  refine aY e7 (aY e8 (aY hf (aY (gT t (decide_eq_false hp) (d8 _)) (cT (lX (ag rfl) h0 (qY (aE (aO (ag rfl) (ag rfl) (xC hk)) (aE (IP (ag rfl) hu) (aE (ny (ag rfl) (by rw[cN (by omega)];exact hm) rfl) (aG _)))) (by simp)) (by rw[cN (by omega),cN (by omega)];exact h0) (by simp;omega) rfl)))))
theorem Gf(c:Int)(nd:goods.Nodup)(hg:goods.length<=100)(ha:∀l∈A,l.length=goods.length)(hz:A.length<=zs.length)(al:A.length<=100):
 ∃ws O,gP [vII A,sD goods,sD zs,.int c] []=.ok (wsD ws,O)/\ws.map (·.nm)=zs.take A.length/\(∀w∈ws,EU goods w)/\ws.map (λw=>goods.map (chg w))=A:=by
 obtain⟨s',el,W,O,x5,x6,x7,x8,x9,J,U,h1,h2,Y,hO,as⟩:=eU (ok:=okC (dO (A.map vI)) none) (g:=cV (aX (ax 5) (aX (ax 6) cZ)) 2) (body:=iK)
  (λpre s=>∃(W:List Wk) (O:ay) (x5 x6 x7 x8 x9 J U:Option D),W.map (·.nm)=zs.take pre.length/\(∀w∈W,EU goods w)/\W.map (λw=>goods.map (chg w))=A.take pre.length/\O[0]? =some (.lst (W.map wD))/\s=⟨woR A goods zs c x5 x6 x7 x8 x9 J U,O⟩) (λ_ _ _=>trivial) (dO (A.map vI)) [] (by
   rintro pre d rest ed s ⟨W,O,x5,x6,x7,x8,x9,J,U,h1,h2,Y,h4,rfl⟩
   rw[vG,kL] at ed
   obtain⟨az,rfl⟩:=oO ed
   have wl:W.length<=1000:=by
    have:=congrArg PP Y
    simp at this
    omega
   obtain⟨w,O',y7,y8,y9,bb,bd,eb,a1,n1,mk,ch⟩:=Jj (A:=A) (goods:=goods) (zs:=zs) (c:=c) (k:=pre.length) (mv:=A[pre.length]) (W:=W) (O:=O) (x7:=x7) (x8:=x8) (x9:=x9) (x10:=J) (x11:=U) nd hg (by omega) (ha _ (wT _)) wl h4
   refine⟨_,_,by rw[ow];rfl,.inl eb,W++[w],O',_,_,_,_,_,_,_, ?_,λz a2=> ?_, ?_,a1,rfl⟩
   ·rw[u8,xz,wp,h1,sH,IR,n1,Qg,na (by omega)];rfl
   ·rcases sE.mp a2 with q | q
    ·exact h2 z q
    ·rw[sB.mp q];exact mk
   ·rw[u8,xz,wp,Y,sH,IR,ch,Qg,na az];rfl) ⟨woR A goods zs c none none none none none none none,[.lst []]⟩ ⟨[],[.lst []],none,none,none,none,none,none,none,by simp,by simp,by simp,rfl,rfl⟩
 have a3:(([]:List D)++dO (A.map vI)).length=A.length:=by rw[vG,kL];simp
 rw[a3] at h1 Y
 rw[List.take_length] at Y
 refine⟨W,O.set 0 .dead, ?_,h1,h2,Y⟩
 refine eV (R:=woR A goods zs c x5 x6 x7 x8 x9 J U) ?_
 show pX ⟨[some (vII A),some (sD goods),some (sD zs),some (.int c),none,none,none,none,none,none,none,none],[]⟩=_
 rw[pX]
 refine aY (bK (R':=woR A goods zs c none none none none none none none) (qm (aG _) (by simp) rfl rfl) rfl) (aY ?_ (bI (ny (ag rfl) hO rfl)))
 refine(dQ (ds:=dO (A.map vI)) (k:=none) (s1:=⟨woR A goods zs c none none none none none none none,[.lst []]⟩) ?_).trans (el.trans (by rw[as]))
 rw[iH,aE (ag rfl) (aG _),aj];rfl
theorem NP(h:R[i]? =some (some (yD goods ws)))(hd:pF f FN (yDs goods ws)=some d):oo 0 f (aa i) ⟨R,O⟩=.ok (d,⟨R,O⟩):=Nn (ag h) hd
theorem uH(goods:List Str)(ws:List Wk):aQ [yD goods ws]=true:=by
 show (aQ (yDs goods ws)&&true)=true
 rw[iW];rfl
theorem ym(goods:List Str)(ws:List Wk)(h:aQ ds=true):aQ (yD goods ws::ds)=true:=by
 show (aQ (yDs goods ws)&&aQ ds)=true
 rw[iW,h];rfl
theorem oY(goods:List Str)(h:ws.length<=1000):dw [yD goods ws] []=.ok (sD (ws.map (·.nm)),[]):=by
 refine eV (R:=[some (yD goods ws)]) ?_
 show dW ⟨[some (yD goods ws)],[]⟩=_
 rw[dW]
 have e:=dE (l:=ws) (item:=wD) (out:=λw=>.str w.nm) (caps:=[]) (im:=listI (oo 0 "held_works" (aa 0))) (e:=ao ixD (aa 0) (aq (.int 0))) (k:=none) (s:=⟨[some (yD goods ws)],[]⟩) (by rw[cM,NP (i:=0) rfl rfl,aj];rfl) trivial (by omega) (λw _=>aO (ag rfl) (aC _ _) rfl)
 rw[show ws.map (λw=>D.str w.nm)=(ws.map (·.nm)).map D.str by rw[ss];rfl] at e
 exact bI e
abbrev chL(goods:List Str)(ws:List Wk):List (List Int):=ws.map λw=>goods.map (chg w)
theorem Gi(h:R[i]? =some (some (yD goods ws)))(hd:pF f FN (yDs goods ws)=some d):oo 0 f (aa i) ⟨R,O⟩=.ok (d,⟨R,O⟩):=by
 rw[DO,ag h,aj]
 dsimp only
 rw[if_pos rfl,hd]
def m4(goods:List Str)(ws:List Wk)(k:Nat):List Int:=ws.map λw=>nth (goods.map (chg w)) k
theorem MD(hk:k<goods.length)(h2:ws.length<=1000):lH [yD goods ws,.int (k:Int)] []=.ok (vI (m4 goods ws k),[]):=by
 have hc:=dE (l:=ws.map λw=>goods.map (chg w)) (item:=vI) (out:=λr=>.int (nth r k)) (caps:=[1]) (im:=listI (oo 0 "held_changes" (aa 0))) (e:=ao ixD (aa 0) (aa 1)) (k:=none) (s:=⟨[some (yD goods ws),some (.int (k:Int))],[]⟩) (by
  rw[cM,Gi (d:=vII (ws.map λw=>goods.map (chg w))) rfl (by rfl)];rfl) trivial (by rw[nW];omega) (λr hr=>by
  obtain⟨w,_,rfl⟩:=li.mp hr
  rw[dH,ag (i:=0) rfl,aj,ag (i:=1) rfl,aj]
  dsimp only
  rw[i6 (by rw[nW];exact hk)];rfl)
 rw[show (ws.map λw=>goods.map (chg w)).map (λr=>D.int (nth r k))=(m4 goods ws k).map D.int by unfold m4;rw[ss,ss];rfl] at hc
 refine cS (s:=⟨[some (yD goods ws),some (.int (k:Int))],[]⟩) ?_
 show kS ⟨[some (yD goods ws),some (.int (k:Int))],[]⟩=_
 rw[kS]
 exact bI hc
def dP(goods:List Str)(ws:List Wk):List (List Int):=(pc goods.length).map (m4 goods ws)
theorem Eg(h1:goods.length<=1000)(h2:ws.length<=1000):gM [yD goods ws] []=.ok (vII (dP goods ws),[]):=by
 have hc:=dE (l:=pc goods.length) (item:=λ(i:Nat)=>D.int (i:Int)) (out:=λk=>vI (m4 goods ws k)) (caps:=[0]) (im:=dA (ae (bo cf (ae (oo 0 "held_goods" (aa 0)) ak)) ak)) (e:=methP 0 "row" 1 lH (aa 1) (ae (aa 0) ak)) (k:=none) (s:=⟨[some (yD goods ws)],[]⟩) (by
  rw[dY (n:=goods.length) (s1:=⟨[some (yD goods ws)],[]⟩) (by
   rw[aV,iV,aV,Gi (d:=sD goods) rfl (by rfl),aj,aG,aj,aj]
   dsimp only
   rw[gL,nW];rfl) (by omega),eO]) trivial (lU (by rw[P4];omega)) (λk hk=>
  C1 (ns:=FN) (ds:=yDs goods ws) (args:=[.int (k:Int)]) (ag rfl) (by decide) (iW _ _) (by rw[aV,ag (i:=0) rfl];rfl) (by simp) rfl (MD (wn.mp hk) h2) (by generalize m4 goods ws k=r;simp))
 rw[show (pc goods.length).map (λk=>vI (m4 goods ws k))=(dP goods ws).map vI by unfold dP;rw[ss];rfl] at hc
 refine cS (s:=⟨[some (yD goods ws)],[]⟩) ?_
 show gQ ⟨[some (yD goods ws)],[]⟩=_
 rw[gQ]
 exact bI hc
theorem DS(hk:k<goods.length){x:Int}(h:x∈m4 goods ws k):∃w∈ws,∃g∈goods,x=chg w g:=by
 unfold m4 at h
 obtain⟨w,J,rfl⟩:=li.mp h
 have hm:=qf (r:=goods.map (chg w)) (i:=k) (by rw[nW];exact hk)
 obtain⟨g,U,e⟩:=li.mp hm
 exact⟨w,J,g,U,e.symm⟩
theorem jL(V:List (List Int)):(oZ V).Perm V:=by
 unfold oZ
 have:=(gu (V.map λx=>((),x))).map (·.2)
 rw[ss,show ((λx:Unit×List Int=>x.2)∘λx=>((),x))=id from rfl,List.map_id] at this
 exact this
theorem MI{m:AM}{x y:D}{as bs:List D}(h:m s=.ok ([x,y],s1))(h1:lsD s1.o x=some as)(h2:lsD s1.o y=some bs):Bj m s=.ok ((kB as bs,λO=>lsD O x=some as/\lsD O y=some bs),s1):=by
 unfold Bj
 rw[h,aj]
 dsimp only
 rw[h1,h2]
theorem J7 {α:Type} {l:List α} {f g out:α->D} {caps:List Nat} {im:IX} {e:EM} {ok:ay->Prop} (J:im s=.ok ((l.map (λa=>D.tup [f a,g a]),ok),s)) (U:ok s.o) (Y:l.length<=16777216)
 (he:∀a∈l,e ⟨some (f a)::some (g a)::caps.map (λi=>(s.r[i]?).getD none),s.o⟩=.ok (out a,⟨some (f a)::some (g a)::caps.map (λi=>(s.r[i]?).getD none),s.o⟩)):
 tF 2 caps im (cV (aX (ax 0) (aX (ax 1) cZ)) 2) bF e s=.ok (.lst (l.map out),s):=by
 obtain⟨s',e1,x,y,h1⟩:=px (ok:=ok) (g:=cV (aX (ax 0) (aX (ax 1) cZ)) 2) (c:=bF) (e:=e) (O:=s.o) U (λa=>D.tup [f a,g a]) (λs2=>∃x y,s2=⟨x::y::caps.map (λi=>(s.r[i]?).getD none),s.o⟩) (by rintro _ ⟨_,_,rfl⟩;rfl) l (λ_=>true) out (by
  rintro a ha _ ⟨x,y,rfl⟩
  exact⟨_,_,by simp,rfl,λ_=>⟨_,_,rfl⟩,λ_=>⟨_,he a ha,_,_,rfl⟩⟩) [] ⟨lL 2 caps s.r,s.o⟩ (by simpa using Y) ⟨none,none,rfl⟩
 unfold tF xb
 rw[J,aj]
 dsimp only
 rw[e1,aj,aj]
 subst h1
 rw[mf]
 rfl
theorem uz{y:List Int}(h:O[k]? =some (.lst (y.map D.int)))(hi:i<y.length):ixD O (.ptr k) (.int (i:Int))=.ok (.int (nth y i)):=by
 refine CM h ?_
 rw[n9 (by simpa using hi)]
 simp[nth,kt,hi]
theorem wm:∀r∈dP goods ws,r.length=ws.length:=λr hr=>by
 unfold dP at hr
 obtain⟨k,_,rfl⟩:=li.mp hr
 unfold m4;simp
theorem Dn(g4:goods.length<=5)(w6:ws.length<=7)(hs:cL 90 (chL goods ws)):uq ws.length (dP goods ws):=⟨wm,λr hr x hx=>by
 unfold dP at hr
 obtain⟨k,hk,rfl⟩:=li.mp hr
 obtain⟨w,J,g,U,rfl⟩:=DS (wn.mp hk) hx
 exact(hs (goods.map (chg w)) (li.mpr ⟨w,J,rfl⟩) _ (As U)).mono (by decide),by unfold dP;simp;omega,w6⟩
def fwQ(Q:List (Nat×List Int))(a:Nat):Option (Nat×List Int):=Q.find? λp=>decide (0<nth p.2 a)
def fwD:Option (Nat×List Int)->D
 | none=>.non
 | some p=>.ptr p.1
theorem BK{O:ay}{a:Nat}{L:D}(K:List D):∀(rest:List (Nat×List Int)) (J:Option D),Sto O rest->(∀p∈rest,a<p.2.length)->
 (fwQ rest a=none->∃U,cv (okC K none) (ax 2) cY (bx rest) ⟨[some L,some (.int (a:Int)),J],O⟩=.next ⟨[some L,some (.int (a:Int)),U],O⟩)/\
 ∀p,fwQ rest a=some p->∃U,cv (okC K none) (ax 2) cY (bx rest) ⟨[some L,some (.int (a:Int)),J],O⟩=.ret (.ptr p.1) ⟨[some L,some (.int (a:Int)),U],O⟩
 | [],J,_,_=>⟨λ_=>⟨J,by show cv _ _ _ [] _=_;rw[cv,if_pos (show okC K none _ from trivial)]⟩,λp h=>by cases h⟩
 | q::rest,J,sQ,hl=>by
  obtain⟨i1,i2⟩:=BK (L:=L) K rest (some (.ptr q.1)) (λp hp=>sQ p (ol _ hp)) λp hp=>hl p (ol _ hp)
  have t:bg (ao gtD (ao ixD (aa 2) (aa 1)) (aq (.int 0))) ⟨[some L,some (.int (a:Int)),some (.ptr q.1)],O⟩=.ok (decide (0<nth q.2 a),⟨[some L,some (.int (a:Int)),some (.ptr q.1)],O⟩):=jJ (aO (ag rfl) (ag rfl) (uz (sQ q pi) (hl q pi)))
  have st:cv (okC K none) (ax 2) cY (bx (q::rest)) ⟨[some L,some (.int (a:Int)),J],O⟩=(match cY ⟨[some L,some (.int (a:Int)),some (.ptr q.1)],O⟩ with
   | .next s=>cv (okC K none) (ax 2) cY (bx rest) s
   | .cnt s=>cv (okC K none) (ax 2) cY (bx rest) s
   | .brk s=>.next s
   | o=>o):=by
   show cv _ _ _ (.ptr q.1::bx rest) _=_
   rw[cv,if_pos (show okC K none _ from trivial)]
   rfl
  by_cases h:0<nth q.2 a
  ·have e:fwQ (q::rest) a=some q:=by unfold fwQ;rw[Sm,decide_eq_true h]
   have Y:cY ⟨[some L,some (.int (a:Int)),some (.ptr q.1)],O⟩=.ret (.ptr q.1) ⟨[some L,some (.int (a:Int)),some (.ptr q.1)],O⟩:=by
    rw[cY]
    exact k8 t (decide_eq_true h) (bI (ag rfl))
   rw[e,st,Y]
   exact⟨λz=>(by cases z),λp z=>by cases z;exact⟨_,rfl⟩⟩
  ·have e:fwQ (q::rest) a=fwQ rest a:=by unfold fwQ;rw[Sm,decide_eq_false h]
   have Y:cY ⟨[some L,some (.int (a:Int)),some (.ptr q.1)],O⟩=.next ⟨[some L,some (.int (a:Int)),some (.ptr q.1)],O⟩:=by
    rw[cY]
    exact gT t (decide_eq_false h) (d8 _)
   rw[e,st,Y]
   exact⟨i1,i2⟩
theorem wC{O:ay}{a:Nat}{Q:List (Nat×List Int)}(Y:Sto O Q)(hl:∀p∈Q,a<p.2.length):dX [.lst (bx Q),.int (a:Int)] O=.ok (fwD (fwQ Q a),O):=by
 have U:=dQ (im:=listI (aa 0)) (g:=ax 2) (body:=cY) (s:=⟨[some (.lst (bx Q)),some (.int (a:Int)),none],O⟩) (ds:=bx Q) (k:=none) (s1:=⟨[some (.lst (bx Q)),some (.int (a:Int)),none],O⟩) (by rw[cM,ag (i:=0) rfl,aj];rfl)
 obtain⟨i1,i2⟩:=BK (L:=.lst (bx Q)) (bx Q) Q none Y hl
 cases e:fwQ Q a with
 | none=>
  obtain⟨J,e1⟩:=i1 e
  refine eV (R:=[some (.lst (bx Q)),some (.int (a:Int)),J]) ?_
  show jh ⟨[some (.lst (bx Q)),some (.int (a:Int)),none],O⟩=_
  rw[jh]
  exact aY (U.trans e1) (bI (aC _ _))
 | some p=>
  obtain⟨J,e1⟩:=i2 p e
  refine eV (R:=[some (.lst (bx Q)),some (.int (a:Int)),J]) ?_
  show jh ⟨[some (.lst (bx Q)),some (.int (a:Int)),none],O⟩=_
  rw[jh]
  exact ky (U.trans e1)
theorem DV{R:List (List Int)}{goal:List Int}{b:Int}{ts:List Int}(Y:goal.length=n)(hc:R.length<=900)(hs:cL c R)(J:SzL c goal)(e:jN R goal=some (b,ts)):Sz (iz c (1+R.length)) b:=by
 have U:cL c (bq R goal):=by
  intro r hr x hx
  unfold bq at hr
  obtain⟨a,_,rfl⟩:=li.mp hr
  obtain⟨q,hq,rfl⟩:=li.mp hx
  rcases sn.mp hq with rfl | hq
  ·exact J.nth a
  ·exact(hs q hq).nth a
 have z:=oW (n:=1+R.length) (by omega) gx U
 unfold jN at e
 split at e
 ·cases e
 ·rename_i s rest es
  split at e
  ·cases e
  ·cases e
   exact(z s (by rw[es];exact pi)).nth 0
theorem sg6(h:n<=6):iz 90 n<=6528:=by
 unfold iz
 have:2^n<=2^6:=M2 (by decide) h
 omega
theorem sg5(h:n<=4):iz 1010000 (1+n)<=60000000:=by
 unfold iz
 have:2^(1+n)<=2^5:=M2 (by decide) (by omega)
 omega
theorem lg6:oU 15000 6 1<=1000000:=by decide
theorem Ja(goods:List Str)(ws:List Wk):(dP goods ws).length=goods.length:=by unfold dP;simp
theorem KA(hs:cL 90 (chL goods ws)):cL 90 (dP goods ws):=λr hr x hx=>by
 unfold dP at hr
 obtain⟨k,hk,rfl⟩:=li.mp hr
 obtain⟨w,J,g,U,rfl⟩:=DS (wn.mp hk) hx
 exact hs (goods.map (chg w)) (li.mpr ⟨w,J,rfl⟩) _ (As U)
abbrev wbR(goods:List Str)(ws:List Wk)(dem:List Int)(R:List (List Int))(n:Nat)(J x5 x6 x7:Option D):List (Option D):=[some (yD goods ws),some (vI dem),some (vII R),some (.int (n:Int)),J,x5,x6,x7]
theorem Ft{dem:List Int}(g4:goods.length<=4)(w6:ws.length<=6)(hs:cL 90 (chL goods ws))(hd:dem.length=ws.length)(hz:SzL 8000 dem)(hF:∀y,Fit ws.length (dP goods ws) y->aZ ws.length (nth dem) (nth y)<=0):
 ∃t W O,i9 [yD goods ws,vI dem] []=.ok (.tup [.int t,vI W],O)/\0<t/\W.length=goods.length/\∀i,i<ws.length->t*nth dem i<=cz W (dP goods ws) i:=by
 have Y:=wm (goods:=goods) (ws:=ws)
 have Rc:=Ja goods ws
 have Rz:=KA hs
 have e2:setM 2 (methP 0 "rows" 0 gM (aa 0) ak) ⟨[some (yD goods ws),some (vI dem),none,none,none,none,none,none],[]⟩=.next ⟨[some (yD goods ws),some (vI dem),some (vII (dP goods ws)),none,none,none,none,none],[]⟩:=bK (nR (ns:=FN) (ds:=yDs goods ws) (args:=[]) (ag rfl) (aG _) (Eg (by omega) (by omega)) (by decide) (iW _ _) rfl rfl (by rw[kH,kJ])) rfl
 generalize dP goods ws=R at *
 generalize hn:ws.length=n at *
 have e3:setM 3 (bo cf (ae (aa 1) ak)) ⟨[some (yD goods ws),some (vI dem),some (vII R),none,none,none,none,none],[]⟩=.next ⟨wbR goods ws dem R n none none none none,[]⟩:=bK (fG (aE (ag rfl) (aG _)) (by rw[gL,nW,hd])) rfl
 have s6:=sg6 w6
 obtain⟨Os,es⟩:=Af (n:=n) (c:=90) (rows:=R) (by omega) (by omega) Y Rz (by omega)
 have Sl:=gA Y
 have ac:cL 6528 (bc R n):=(oW (n:=n) (by omega) Y Rz).mono s6
 have Sc:(bc R n).length<=6:=by have:=count Y;omega
 have a1:aN 2 iN (ae (aa 2) (ae (aa 3) ak)) ⟨wbR goods ws dem R n none none none none,[]⟩=.ok (vII (bc R n),⟨wbR goods ws dem R n none none none none,[]⟩):=fB (aE (ag rfl) (aE (ag rfl) (aG _))) es (AQ _ rfl) rfl (by rw[kH,kJ])
 have ew:=dE (l:=bc R n) (item:=vI) (out:=λs=>vI (s++[aB s dem])) (caps:=[1]) (im:=listI (aN 2 iN (ae (aa 2) (ae (aa 3) ak)))) (e:=ao br (aa 0) (g6 (ae (aN 2 bV (ae (aa 0) (ae (aa 1) ak))) ak))) (k:=none) (s:=⟨wbR goods ws dem R n none none none none,[]⟩) (by
  rw[cM,a1,aj]
  rfl) trivial (by omega) (λs J=>by
   have sl:=Sl s J
   refine aO (ag rfl) (rn (aE (fB (aE (ag rfl) (aE (ag rfl) (aG _))) (BJ (a:=s) (b:=dem) (by omega) λp hp=>jk (m:=6528) (n:=8000) (by decide) (by decide) (ac s J _ (CK (a:=p.1) (b:=p.2) hp).1) (hz _ (CK (a:=p.1) (b:=p.2) hp).2)) (by simp) rfl rfl) (aG _)) (by simp)) ?_
   rw[oI (by simp;omega)]
   show Res.ok (D.lst (s.map D.int++[D.int (aB s dem)]))=Res.ok (D.lst ((s++[aB s dem]).map D.int))
   rw[wp]
   rfl)
 rw[show (bc R n).map (λs=>vI (s++[aB s dem]))=(d4 R n dem).map vI by unfold d4;rw[ss];rfl] at ew
 have e4:setM 4 (bD 1 [1] (listI (aN 2 iN (ae (aa 2) (ae (aa 3) ak)))) (ax 0) bF (ao br (aa 0) (g6 (ae (aN 2 bV (ae (aa 0) (ae (aa 1) ak))) ak)))) ⟨wbR goods ws dem R n none none none none,[]⟩=.next ⟨wbR goods ws dem R n (some (vII (d4 R n dem))) none none none,[]⟩:=bK ew rfl
 have wl:=Fe (dem:=dem) Y
 have wc:(d4 R n dem).length<=6:=by unfold d4;rw[nW];exact Sc
 have wz:cL 15000 (d4 R n dem):=λr hr x hx=>by
  unfold d4 at hr
  obtain⟨s,J,rfl⟩:=li.mp hr
  rcases sE.mp hx with q | q
  ·exact(ac s J x q).mono (by decide)
  ·rw[sB.mp q]
   exact(oJ (ac s J) hz (by rw[Sl s J];omega)).mono (by decide)
 have rc:AN 15000 1000000 (n+1) (d4 R n dem):=⟨wl,wz,yB (mK 15000 (d4 R n dem).length 6 1 wc) lg6,by decide,by decide,by omega⟩
 obtain⟨k,Ol,Ls,el,hk,sL,nL,_,vL⟩:=Ci rc
 have kn:=mG wl
 obtain⟨l0,a3,a4⟩:=Fd Y hd hF
 generalize hw:d4 R n dem=U at *
 have a5:=uL (S:=[]) hk
 have s1:Sto ((([]:ay)++Ol.map (shC 0)).set (0+k) .dead) (Ls.map λp=>(0+p.1,p.2)):=(xn (S:=[]) sL).set (λp hp=>by
  obtain⟨q,hq,rfl⟩:=li.mp hp
  have:=nL q hq
  show 0+q.1≠0+k
  omega) _
 have m1:(Ls.map λp=>(0+p.1,p.2)).map (·.2)=Ls.map (·.2):=by rw[ss];rfl
 have ef:hU (dU 2 lC (ae (aa 4) (ae (ao br (aa 3) (aq (.int 1))) ak))) ⟨wbR goods ws dem R n (some (vII U)) none none none,[]⟩=.ok (.lst (bx (Ls.map λp=>(0+p.1,p.2))),⟨wbR goods ws dem R n (some (vII U)) none none none,(([]:ay)++Ol.map (shC 0)).set (0+k) .dead⟩):=ny (g7 (aE (ag rfl) (aE (aO (ag rfl) (aC _ _) (cy _ _)) (aG _))) el (AQ _ rfl) rfl (ib _ _) rfl) a5 rfl
 have an:∀p∈Ls.map (λp=>(0+p.1,p.2)),cJ (n+1) U p.2/\SzL 1000000 p.2:=λp hp=>by
  have:p.2∈jB U (n+1):=(jL _).mem_iff.mp (by rw[<- vL,<- m1];exact As hp)
  exact⟨(kn.all _).mp this,CJ rc (λ_ q=>q) (qh _) _ this⟩
 have ab:l0∈(Ls.map λp=>(0+p.1,p.2)).map (·.2):=by
  rw[m1,vL]
  exact(jL _).mem_iff.mpr ((kn.all _).mpr a3)
 generalize (([]:ay)++Ol.map (shC 0)).set (0+k) Cell.dead=O1 at ef s1
 generalize Ls.map (λp=>(0+p.1,p.2))=Q at ef s1 an ab
 have e5:=wC (a:=n) s1 λp hp=>by rw[(an p hp).1.fit.len];omega
 obtain⟨p,ep⟩:∃p,fwQ Q n=some p:=by
  cases e:fwQ Q n with
  | some p=>exact⟨p,rfl⟩
  | none=>
   obtain⟨q,hq,rfl⟩:=li.mp ab
   have:=Q3.mp e q hq
   exact absurd (decide_eq_true a4) this
 have pQ:p∈Q:=List.mem_of_find?_eq_some ep
 have pp:0<nth p.2 n:=of_decide_eq_true (List.find?_some (p:=λp:Nat×List Int=>decide (0<nth p.2 n)) ep)
 obtain⟨lo,pz⟩:=an p pQ
 have pl:=lo.fit.len
 rw[ep] at e5
 have e5:setM 5 (gU 2 dX (ae (hU (dU 2 lC (ae (aa 4) (ae (ao br (aa 3) (aq (.int 1))) ak)))) (ae (aa 3) ak))) ⟨wbR goods ws dem R n (some (vII U)) none none none,[]⟩=.next ⟨wbR goods ws dem R n (some (vII U)) (some (.ptr p.1)) none none,O1⟩:=bK (qp (aE ef (aE (ag rfl) (aG _))) e5 rfl) rfl
 have t0:Sz 1000000 (nth p.2 n):=pz _ (qf (by omega))
 have e6:=J7 (l:=p.2.zip dem) (f:=λq=>.int q.1) (g:=λq=>.int q.2) (out:=λq=>.int (q.1+nth p.2 n*q.2)) (caps:=[5,3]) (im:=Bj (ae (aa 5) (ae (aa 1) ak))) (e:=ao br (aa 0) (ao dM (ao ixD (aa 2) (aa 3)) (aa 1))) (s:=⟨wbR goods ws dem R n (some (vII U)) (some (.ptr p.1)) none none,O1⟩) (ok:=λO=>lsD O (.ptr p.1)=some (p.2.map D.int)/\lsD O (vI dem)=some (dem.map D.int)) (by
  rw[MI (as:=p.2.map D.int) (bs:=dem.map D.int) (aE (ag (i:=5) rfl) (aE (ag (i:=1) rfl) (aG _))) (lQ (s1 p pQ)) lO,o9]) ⟨lQ (s1 p pQ),lO⟩ (by rw[PV];omega) (λq hq=>aO (ag rfl) (aO (aO (ag rfl) (ag rfl) (uz (s1 p pQ) (by omega))) (ag rfl) (dJ (jk (m:=1000000) (n:=8000) (by decide) (by decide) t0 (hz _ (CK (a:=q.1) (b:=q.2) hq).2)))) (cy _ _))
 rw[show (p.2.zip dem).map (λq=>D.int (q.1+nth p.2 n*q.2))=(jU p.2 dem (nth p.2 n)).map D.int by unfold jU;rw[ss];rfl] at e6
 have lf:=lo.fit
 rw[<- hw] at lf
 obtain⟨b,ts,em,b0,tl,tb⟩:=EL Y hd lf
 obtain⟨gl,_⟩:=wH pl hd (nth p.2 n)
 have gz:SzL 1010000 (jU p.2 dem (nth p.2 n)):=λx hx=>by
  unfold jU at hx
  obtain⟨q,hq,rfl⟩:=li.mp hx
  exact(Sz.add (pz _ (CK (a:=q.1) (b:=q.2) hq).1) (Sz.mul t0 (hz _ (CK (a:=q.1) (b:=q.2) hq).2))).mono (by decide)
 have s5:=sg5 (n:=R.length) (by omega)
 obtain⟨Om,eo⟩:=IF (n:=n) (c:=1010000) (rows:=R) (goal:=jU p.2 dem (nth p.2 n)) gl (by omega) (by omega) Y (Rz.mono (by decide)) gz s5
 have bz:=DV gl (by omega) (Rz.mono (show 90<=1010000 by decide)) gz em
 rw[em] at eo
 generalize jU p.2 dem (nth p.2 n)=goal at e6 eo
 have e7:setM 7 (aN 2 mI (ae (aa 2) (ae (aa 6) ak))) ⟨wbR goods ws dem R n (some (vII U)) (some (.ptr p.1)) (some (vI goal)) none,O1⟩=.next ⟨wbR goods ws dem R n (some (vII U)) (some (.ptr p.1)) (some (vI goal)) (some (.tup [.int b,vI ts])),O1⟩:=bK (fB (aE (ag rfl) (aE (ag rfl) (aG _))) eo (AQ _ (by simp)) rfl (by simp[JI])) rfl
 refine⟨b*nth p.2 n,ts,O1, ?_,MH b0 pp,by rw[tl,Rc],tb⟩
 refine eV (R:=wbR goods ws dem R n (some (vII U)) (some (.ptr p.1)) (some (vI goal)) (some (.tup [.int b,vI ts]))) ?_
 show kU ⟨[some (yD goods ws),some (vI dem),none,none,none,none,none,none],[]⟩=_
 rw[kU]
 exact aY e2 (aY e3 (aY e4 (aY e5 (aY (bK e6 rfl) (aY e7 (bI (qY (aE (aO (aO (ag rfl) (aC _ _) (nH rfl)) (aO (ag rfl) (ag rfl) (uz (s1 p pQ) (by omega))) (dJ (jk (n:=1000000) s5 (by decide) bz t0))) (aE (aO (ag rfl) (aC _ _) (nH rfl)) (aG _))) (by simp))))))))
theorem Bw(g4:goods.length<=5)(w6:ws.length<=7)(hs:cL 90 (chL goods ws)):∃d O Q,jA [yD goods ws] []=.ok (.ptr d,O)/\O[d]? =some (.lst (bx Q))/\Sto O Q/\(∀p∈Q,p.1≠d)/\Q.length<64/\(Q.map (·.2)).Nodup/\oZ (Q.map (·.2))=Q.map (·.2)/\(∀p∈Q,cJ ws.length (dP goods ws) p.2/\SzL 8000 p.2)/\∀x,cJ ws.length (dP goods ws) x->x∈Q.map (·.2):=by
 have lR:=wm (goods:=goods) (ws:=ws)
 have ro:=Dn g4 w6 hs
 obtain⟨d,Op,Q,ep,hd,sQ,nQ,so,U⟩:=KU ro
 have Y:=mG lR
 have lq:Q.length<64:=by
  have:=Y.few w6
  have e:=congrArg PP U
  rw[nW,(jL _).length_eq] at e
  omega
 have J:∀p∈Q,p.2∈jB (dP goods ws) ws.length:=λp hp=>(jL _).mem_iff.mp (by rw[<- U];exact As hp)
 have nd:(Q.map (·.2)).Nodup:=by rw[U];exact(jL _).nodup_iff.mpr Y.nd
 have ac:oZ (Q.map (·.2))=Q.map (·.2):=by rw[<- zT,<- so]
 have mm:(Q.map λp=>(0+p.1,p.2)).map (·.2)=Q.map (·.2):=by rw[ss];rfl
 refine⟨0+d,[]++Op.map (shC 0),Q.map λp=>(0+p.1,p.2), ?_,uL (S:=[]) hd,xn (S:=[]) sQ,λp hp=> ?_,by rw[nW];exact lq,by rw[mm];exact nd,by rw[mm];exact ac,λp hp=> ?_,λx hx=>by rw[mm,U];exact(jL _).mem_iff.mpr ((Y.all x).mpr hx)⟩
 ·refine eV (R:=[some (yD goods ws)]) ?_
  show BH ⟨[some (yD goods ws)],[]⟩=_
  rw[BH]
  refine bI (g7 (aE (nR (ns:=FN) (ds:=yDs goods ws) (args:=[]) (ag rfl) (aG _) (Eg (by omega) (by omega)) (by decide) (iW _ _) rfl rfl (by rw[kH,kJ])) (aE (fG (aE (nR (ns:=FN) (ds:=yDs goods ws) (args:=[]) (ag rfl) (aG _) (oY goods (by omega)) (by decide) (iW _ _) rfl rfl (da _)) (aG _)) (by rw[gL,nW,nW])) (aG _))) ep (AQ _ rfl) rfl (ib _ _) rfl)
 ·obtain⟨q,hq,rfl⟩:=li.mp hp
  have:=nQ q hq
  dsimp only
  omega
 ·obtain⟨q,hq,rfl⟩:=li.mp hp
  exact⟨(Y.all _).mp (J q hq),Jb ro (λr hr=>hr) ro.cnt _ (J q hq)⟩
theorem Hy(U:ws.length<=1000)(hz:ws.map (·.nm)=zs)(Y:zs.Nodup)(ha:a<zs.length):kZ [yD goods ws,.str zs[a]] []=.ok (.int (a:Int),[]):=by
 have J:=oY goods U
 rw[hz] at J
 refine eV (R:=[some (yD goods ws),some (.str zs[a]),some (sD zs)]) ?_
 show rQ ⟨[some (yD goods ws),some (.str zs[a]),none],[]⟩=_
 rw[rQ]
 refine aY (bK (nR (ns:=FN) (ds:=yDs goods ws) (args:=[]) (ag rfl) (aG _) J (by decide) (iW _ _) rfl rfl (da _)) rfl) (aY (gT (fM (aO (ag rfl) (ag rfl) (xu _ _))) ?_ (d8 _)) (bI ?_))
 ·rw[show zs.any (· == zs[a])=true from Rq.mpr ⟨zs[a],wT ha,beq_self_eq_true _⟩]
  rfl
 ·unfold CO IQ
  rw[ag (i:=2) rfl,aj]
  dsimp only
  rw[ni]
  dsimp only
  rw[ag (i:=1) rfl,aj]
  dsimp only
  unfold AW
  rw[Qw Y a ha,if_pos ha]
  rfl
theorem D3{R:List (List Int)}(lo:∀p∈Q,cJ n R p.2)(all:∀x,cJ n R x->x∈Q.map (·.2)):fwQ Q a=none↔∀x,cJ n R x->nth x a=0:=by
 constructor
 ·intro h x hx
  obtain⟨p,hp,rfl⟩:=li.mp (all x hx)
  have h1:=Q3.mp h p hp
  have h2:=hx.fit.nn a
  have J:¬0<nth p.2 a:=λq=>h1 (decide_eq_true q)
  omega
 ·intro h
  refine Q3.mpr λp hp=> ?_
  have:=h p.2 (lo p hp)
  rw[this]
  decide
theorem Cb{R:List (List Int)}(ha:a<n)(h:∀x,cJ n R x->nth x a=0){y:List Int}(J:Fit n R y):nth y a=0:=by
 have e:∀x:List Int,aZ n (nth ((dS n a).map (- ·))) (nth x)= - nth x a:=λx=>by
  unfold aZ
  rw[bG (g:=λi=>if i=a then-nth x a else 0) λi _=>by
   rw[g9 (f:=(- ·)) (by decide),dh ha]
   by_cases q:i=a
   ·rw[if_pos q,if_pos q,q];omega
   ·rw[if_neg q,if_neg q];simp]
  exact(gd ha (f:=λi=>if i=a then-nth x a else 0) λi _ q=>if_neg q).trans (if_pos rfl)
 have:=Bt (c:=(dS n a).map (- ·)) (λl U=>by rw[e,h l U];decide) J
 rw[e] at this
 have:=J.nn a
 omega
structure YS(goods:List Str)(ws:List Wk)(zs:List Str):Prop where
 g4:goods.length<=4
 w6:ws.length<=6
 hs:cL 90 (chL goods ws)
 nm:ws.map (·.nm)=zs
 nd:zs.Nodup
theorem YS.zl(y:YS goods ws zs):zs.length=ws.length:=by rw[<- y.nm,nW]
theorem HE(ha:a<n)(x:List Int):aZ n (nth (dS n a)) (nth x)=nth x a:=by
 unfold aZ
 rw[bG (g:=λi=>if i=a then nth x a else 0) λi _=>by
  rw[dh ha]
  by_cases q:i=a
  ·rw[if_pos q,if_pos q,q];omega
  ·rw[if_neg q,if_neg q];omega]
 exact(gd ha (f:=λi=>if i=a then nth x a else 0) λi _ q=>if_neg q).trans (if_pos rfl)
theorem Bf(y:YS goods ws zs):∃Q E,(∀{R:List (Option D)} {i:Nat},R[i]? =some (some (yD goods ws))->hU (dU 1 jA (ae (aa i) ak)) ⟨R,[]⟩=.ok (.lst (bx Q),⟨R,E⟩))/\Sto E Q/\(∀p∈Q,cJ ws.length (dP goods ws) p.2/\SzL 8000 p.2)/\∀x,cJ ws.length (dP goods ws) x->x∈Q.map (·.2):=by
 have g4:=y.g4
 have w6:=y.w6
 obtain⟨d,U,Q,Y,J,sQ,nQ,few,nd,so,lo,all⟩:=Bw (goods:=goods) (ws:=ws) (by omega) (by omega) y.hs
 refine⟨Q.map λp=>(0+p.1,p.2),(([]:ay)++U.map (shC 0)).set (0+d) .dead,λ{R i} hR=>ny (g7 (aE (ag hR) (aG _)) Y (uH _ _) rfl (ib _ _) rfl) (uL (S:=[]) J) rfl,(xn (S:=[]) sQ).set (λp hp=>by
  obtain⟨q,hq,rfl⟩:=li.mp hp
  have:=nQ q hq
  show 0+q.1≠0+d
  omega) _,λp hp=>by
  obtain⟨q,hq,rfl⟩:=li.mp hp
  exact lo q hq,λx hx=>by
  rw[ss]
  exact all x hx⟩
theorem Lu(y:YS goods ws zs)(ha:a<zs.length):∃(d:D) (O:ay) (b:Bool),tN [yD goods ws,.str zs[a]] []=.ok (.tup [.str (if b=true then "never" else "goes"),d],O)/\(b=true↔∀x,cJ ws.length (dP goods ws) x->nth x a=0):=by
 have zl:=y.zl
 have w6:=y.w6
 have U:=Hy (goods:=goods) (a:=a) (by omega) y.nm y.nd ha
 have e2:setM 2 (aN 2 kZ (ae (aa 0) (ae (aa 1) ak))) ⟨[some (yD goods ws),some (.str zs[a]),none,none,none],[]⟩=.next ⟨[some (yD goods ws),some (.str zs[a]),some (.int (a:Int)),none,none],[]⟩:=bK (fB (aE (ag rfl) (aE (ag rfl) (aG _))) U (ym _ _ (by simp)) rfl rfl) rfl
 obtain⟨Q,E,Y,sQ,lo,all⟩:=Bf y
 have fn:=D3 (a:=a) (λp hp=>(lo p hp).1) all
 have e3:setM 3 (gU 2 dX (ae (hU (dU 1 jA (ae (aa 0) ak))) (ae (aa 2) ak))) ⟨[some (yD goods ws),some (.str zs[a]),some (.int (a:Int)),none,none],[]⟩=.next ⟨[some (yD goods ws),some (.str zs[a]),some (.int (a:Int)),some (fwD (fwQ Q a)),none],E⟩:=bK (qp (aE (Y rfl) (aE (ag rfl) (aG _))) (wC (a:=a) sQ λp hp=>by rw[(lo p hp).1.fit.len];omega) rfl) rfl
 cases hq:fwQ Q a with
 | some p=>
  rw[hq] at e3
  refine⟨.ptr p.1,E,false, ?_, ?_⟩
  ·refine eV (R:=[some (yD goods ws),some (.str zs[a]),some (.int (a:Int)),some (.ptr p.1),none]) ?_
   show tK ⟨[some (yD goods ws),some (.str zs[a]),none,none,none],[]⟩=_
   rw[tK]
   exact aY e2 (aY e3 (ky (k8 (fM (aO (ag rfl) (aC _ _) rfl)) rfl (bI (qY (aE (aC _ _) (aE (ag rfl) (aG _))) (by simp))))))
  ·rw[hq] at fn
   constructor
   ·intro h;cases h
   ·intro h;cases fn.mpr h
 | none=>
  rw[hq] at e3
  have id:=fn.mp hq
  obtain⟨Ou,eu⟩:=DJ (n:=ws.length) (a:=a) (by omega) (by omega)
  obtain⟨t,W,Oa,ea,_⟩:=Ft (dem:=dS ws.length a) y.g4 y.w6 y.hs (by simp[dS]) ((yR ws.length a).mono (by decide)) (λz fz=>by rw[HE (by omega),Cb (by omega) id fz];decide)
  have en:=oY goods (ws:=ws) (by omega)
  have J:bo cf (ae (methP 0 "names" 0 dw (aa 0) ak) ak) ⟨[some (yD goods ws),some (.str zs[a]),some (.int (a:Int)),some .non,none],E⟩=.ok (.int (ws.length:Int),⟨[some (yD goods ws),some (.str zs[a]),some (.int (a:Int)),some .non,none],E⟩):=fG (aE (nR (ns:=FN) (ds:=yDs goods ws) (args:=[]) (ag rfl) (aG _) en (by decide) (iW _ _) rfl rfl (da _)) (aG _)) (by rw[gL,nW,nW])
  refine⟨vI W,E,true, ?_,⟨λ_=>id,λ_=>rfl⟩⟩
  refine eV (R:=[some (yD goods ws),some (.str zs[a]),some (.int (a:Int)),some .non,some (.tup [.int t,vI W])]) ?_
  show tK ⟨[some (yD goods ws),some (.str zs[a]),none,none,none],[]⟩=_
  rw[tK]
  exact aY e2 (aY e3 (aY (gT (fM (aO (ag rfl) (aC _ _) rfl)) rfl (d8 _)) (aY (bK (fB (aE (ag rfl) (aE (fB (aE (ag rfl) (aE J (aG _))) eu (by simp) rfl (by simp)) (aG _))) ea (ym _ _ (qs _)) rfl (by simp)) rfl) (bI (qY (aE (aC _ _) (aE (aO (ag rfl) (aC _ _) (nH rfl)) (aG _))) (by simp))))))
theorem yy(n:Nat):∀A:List (List Int),fu n (A.map vI)=A.map vI
 | []=>by simp[fu]
 | x::A=>by
  show fu n (vI x::A.map vI)=_
  unfold fu
  rw[yy n A]
  have:shD n (vI x)=vI x:=by unfold shD;rw[o6]
  rw[this];rfl
abbrev lR(ns:List Int)(b:Nat)(hd:Int)(n:Nat)(A W:List (List Int))(goods zs:List Str)(ws:List Wk)(X:List (Option D)):List (Option D):=some (vI ns)::some (.int (b:Int))::some (.int hd)::some (.int (n:Int))::some (vII A)::some (vII W)::some (sD goods)::some (sD zs)::some (yD goods ws)::X
structure Dr(n:Nat)(A W:List (List Int))(goods zs:List Str)(ws:List Wk):Prop where
 nm:ws.map (·.nm)=zs
 znd:zs.Nodup
 zg:∀z∈zs,iE z
 wl:∀w∈W,w.length=A.length
 w4:W.length<=4
 gl:goods.length=n
 n4:n<=4
 al:A.length<=6
 mv:MvI n 90 A W
 ch:chL goods ws=A
theorem ID(ns:List Int)(b:Nat)(x2 x3 Y x5 x6 x7 x8:Option D)(X:List (Option D))(O:ay)(m:SM)(C:Out->Prop)(hm:∀hd n A W goods zs ws O',Dr n A W goods zs ws->∃o,m ⟨lR ns b hd n A W goods zs ws X,O'⟩=o/\C o):
 ∃o,aM (setM 2 (aN 2 d5 (ae (aa 0) (ae (aa 1) ak)))) (aM (setM 3 (ao br (aq (.int 1)) (aN 3 aR (ae (aa 2) (ae (aq (.int 45)) (ae (aq (.int 4)) ak)))))) (aM (lb (yT (dU 3 gJ (ae (aa 0) (ae (aa 1) (ae (aa 3) ak))))) (cV (aX (ax 4) (aX (ax 5) cZ)) 2)) (aM (setM 6 (aN 2 eX (ae (ao br (aa 2) (aq (.int 1))) (ae (aa 3) ak)))) (aM (setM 7 (aN 2 eX (ae (aa 2) (ae (bo cf (ae (aa 4) ak)) ak)))) (aM (setM 8 (u6 0 2 iQ (ae (aa 6) (ae (aN 4 gP (ae (aa 4) (ae (aa 6) (ae (aa 7) (ae (aa 2) ak))))) ak)))) m))))) ⟨some (vI ns)::some (.int (b:Int))::x2::x3::Y::x5::x6::x7::x8::X,O⟩=o/\C o:=by
 obtain⟨hd,k0,_⟩:=yY ns b
 obtain⟨n0,hn,n6⟩:=tx hd 45 (m:=4) (by decide)
 have hn:cq hd 45 4=(n0:Int):=hn
 obtain⟨n,en⟩:∃n,n=1+n0:=⟨_,rfl⟩
 have e2:setM 2 (aN 2 d5 (ae (aa 0) (ae (aa 1) ak))) ⟨some (vI ns)::some (.int (b:Int))::x2::x3::Y::x5::x6::x7::x8::X,O⟩=.next ⟨some (vI ns)::some (.int (b:Int))::some (.int hd)::x3::Y::x5::x6::x7::x8::X,O⟩:=bK (fB (aE (ag rfl) (aE (ag rfl) (aG _))) k0 (by simp) rfl rfl) rfl
 have e3:setM 3 (ao br (aq (.int 1)) (aN 3 aR (ae (aa 2) (ae (aq (.int 45)) (ae (aq (.int 4)) ak))))) ⟨some (vI ns)::some (.int (b:Int))::some (.int hd)::x3::Y::x5::x6::x7::x8::X,O⟩=.next ⟨some (vI ns)::some (.int (b:Int))::some (.int hd)::some (.int (n:Int))::Y::x5::x6::x7::x8::X,O⟩:=by
  have:(n:Int)=1+cq hd 45 4:=by rw[hn,en];omega
  rw[this]
  exact bK (aO (aC _ _) (f9 (ag rfl) (aC _ _) (aC _ _) (by decide)) (cy _ _)) rfl
 obtain⟨A,W,Om,kf,em,hA,hW,k1,mv,al,wl,w4⟩:=Il ns b (n:=n) (by omega)
 have cA:(O++Om.map (shC O.length))[O.length+0]? =some (.lst (A.map vI)):=by
  rw[re (by omega),Db,sI,hA]
  simp only[IH,nO,yy]
 have cW:(O++Om.map (shC O.length))[O.length+kf]? =some (.lst (W.map vI)):=by
  rw[re (by omega),Db,sI,hW]
  simp only[IH,nO,yy]
 have ec:dU 3 gJ (ae (aa 0) (ae (aa 1) (ae (aa 3) ak))) ⟨some (vI ns)::some (.int (b:Int))::some (.int hd)::some (.int (n:Int))::Y::x5::x6::x7::x8::X,O⟩=.ok (.tup [.ptr (O.length+0),.ptr (O.length+kf)],⟨some (vI ns)::some (.int (b:Int))::some (.int hd)::some (.int (n:Int))::Y::x5::x6::x7::x8::X,O++Om.map (shC O.length)⟩):=g7 (aE (ag rfl) (aE (ag rfl) (aE (ag rfl) (aG _)))) em (by simp) rfl (by simp[shD,fu]) rfl
 generalize O++Om.map (shC O.length)=O1 at cA cW ec
 have ne:O.length+0≠O.length+kf:=by omega
 generalize O.length+0=ka at cA ec ne
 generalize O.length+kf=kw at cW ec ne
 have fz:pO [.ptr ka,.ptr kw] O1=some ([vII A,vII W],(O1.set ka .dead).set kw .dead):=by
  unfold pO
  rw[cA]
  dsimp only
  unfold pO
  rw[cN ne,cW]
  rfl
 have e4:lb (yT (dU 3 gJ (ae (aa 0) (ae (aa 1) (ae (aa 3) ak))))) (cV (aX (ax 4) (aX (ax 5) cZ)) 2) ⟨some (vI ns)::some (.int (b:Int))::some (.int hd)::some (.int (n:Int))::Y::x5::x6::x7::x8::X,O⟩=.next ⟨some (vI ns)::some (.int (b:Int))::some (.int hd)::some (.int (n:Int))::some (vII A)::some (vII W)::x6::x7::x8::X,(O1.set ka .dead).set kw .dead⟩:=Nj (Lw ec fz) (by rw[ow];rfl)
 generalize (O1.set ka Cell.dead).set kw Cell.dead=U at e4
 obtain⟨goods,Og,eg,gl,gg,ab⟩:=CA (hd+1) (n:=n) (by omega)
 have e6:setM 6 (aN 2 eX (ae (ao br (aa 2) (aq (.int 1))) (ae (aa 3) ak))) ⟨some (vI ns)::some (.int (b:Int))::some (.int hd)::some (.int (n:Int))::some (vII A)::some (vII W)::x6::x7::x8::X,U⟩=.next ⟨some (vI ns)::some (.int (b:Int))::some (.int hd)::some (.int (n:Int))::some (vII A)::some (vII W)::some (sD goods)::x7::x8::X,U⟩:=bK (fB (aE (aO (ag rfl) (aC _ _) (cy _ _)) (aE (ag rfl) (aG _))) eg rfl rfl (da _)) rfl
 obtain⟨zs,Oz,ez,zl,zg,ac⟩:=CA hd (n:=A.length) (by omega)
 obtain⟨ws,Oo,eo,a6,am,an⟩:=Gf (A:=A) (goods:=goods) (zs:=zs) hd ab (by omega) (λl hl=>by rw[mv.len l hl,gl]) (by omega) (by omega)
 have J:ws.map (·.nm)=zs:=by rw[a6,Pq (by omega)]
 have b9:ws.length=A.length:=by have:=congrArg PP an;simpa using this
 have a7:yx goods ws:=⟨λw hw=>zg _ (by rw[<- J];exact As hw),by rw[J];exact ac,λw hw=>(am w hw).us,λw hw=>(am w hw).ms⟩
 have a8:cU (wsD ws)=true:=lr ws
 have e7:setM 7 (aN 2 eX (ae (aa 2) (ae (bo cf (ae (aa 4) ak)) ak))) ⟨some (vI ns)::some (.int (b:Int))::some (.int hd)::some (.int (n:Int))::some (vII A)::some (vII W)::some (sD goods)::x7::x8::X,U⟩=.next ⟨some (vI ns)::some (.int (b:Int))::some (.int hd)::some (.int (n:Int))::some (vII A)::some (vII W)::some (sD goods)::some (sD zs)::x8::X,U⟩:=bK (fB (aE (ag rfl) (aE (fG (aE (ag rfl) (aG _)) (by rw[gL,nW])) (aG _))) ez rfl rfl (da _)) rfl
 have e8:setM 8 (u6 0 2 iQ (ae (aa 6) (ae (aN 4 gP (ae (aa 4) (ae (aa 6) (ae (aa 7) (ae (aa 2) ak))))) ak))) ⟨some (vI ns)::some (.int (b:Int))::some (.int hd)::some (.int (n:Int))::some (vII A)::some (vII W)::some (sD goods)::some (sD zs)::x8::X,U⟩=.next ⟨lR ns b hd n A W goods zs ws X,U⟩:=by
  have a9:aQ [vII A,sD goods,sD zs,.int hd]=true:=by
   rw[gN,kH,kJ]
   show (true&&(aQ (goods.map D.str)&&(aQ (zs.map D.str)&&(true&&true))))=true
   rw[da,da];rfl
  have bb:aN 4 gP (ae (aa 4) (ae (aa 6) (ae (aa 7) (ae (aa 2) ak)))) ⟨some (vI ns)::some (.int (b:Int))::some (.int hd)::some (.int (n:Int))::some (vII A)::some (vII W)::some (sD goods)::some (sD zs)::x8::X,U⟩=.ok (wsD ws,⟨some (vI ns)::some (.int (b:Int))::some (.int hd)::some (.int (n:Int))::some (vII A)::some (vII W)::some (sD goods)::some (sD zs)::x8::X,U⟩):=fB (aE (ag rfl) (aE (ag rfl) (aE (ag rfl) (aE (ag rfl) (aG _))))) eo a9 rfl a8
  have bd:aQ [sD goods,wsD ws]=true:=by
   show (aQ (goods.map D.str)&&(aQ (ws.map wD)&&true))=true
   rw[da,lr];rfl
  exact d0 (i:=8) (s':=⟨some (vI ns)::some (.int (b:Int))::some (.int hd)::some (.int (n:Int))::some (vII A)::some (vII W)::some (sD goods)::some (sD zs)::x8::X,U⟩) (Ju (args:=[sD goods,wsD ws]) (aE (ag rfl) (aE bb (aG _))) bd rfl (Lo gg ab a7 (by omega) (by omega)) (iW _ _))
 obtain⟨o,be,ho⟩:=hm hd n A W goods zs ws U ⟨J,ac,zg,wl,w4,gl,by omega,al,mv,an⟩
 exact⟨o,aY e2 (aY e3 (aY e4 (aY e6 (aY e7 (aY e8 be))))),ho⟩
theorem xK:∀ns:List Str,iq (ns.map D.str)=some (ns.map PyData.str)
 | []=>by simp[iq]
 | n::ns=>by simp[iq,toPy,xK ns]
theorem vz:∀{ns:List Str},(∀z∈ns,PyData.strOk z=true)->PyData.canLayAll0 (ns.map PyData.str)=true
 | [],_=>by simp[PyData.canLayAll0]
 | n::ns,h=>by simp[PyData.canLayAll0,PyData.canLay0,h n pi,vz (ns:=ns) λz hz=>h z (ol _ hz)]
theorem xk:∀ns:List Str,PyData.depthAll (ns.map PyData.str)=0
 | []=>by simp[PyData.depthAll]
 | n::ns=>by simp[PyData.depthAll,PyData.depth,xk ns]
theorem Cn:∀ns:List Str,PyData.eqvAll (ns.map PyData.str) (ns.map PyData.str)=true
 | []=>by simp[PyData.eqvAll]
 | a::r=>by simp[PyData.eqvAll,PyData.eqv,Cn r]
theorem good_str(h:iE z):PyData.strOk z=true:=by
 unfold PyData.strOk
 rw[<- Array.all_toList,PM]
 intro c hc
 have:=h.az c hc
 exact decide_eq_true (by omega)
theorem En(h:∀z∈zs,iE z)(hd:M.res O (M.res O d)=sD zs):gv O d (sD zs)=some true:=by
 unfold gv
 have q:M.res O (sD zs)=sD zs:=by
  show M.res O (.lst (zs.map D.str))=_
  rw[jW,ip]
 rw[hd,q,q]
 have t:toPy (sD zs)=some (.list (zs.map PyData.str)):=by
  show toPy (.lst (zs.map D.str))=_
  simp only[toPy,xK,IH]
 rw[t]
 have hs:SeqAt.shaped (.list (zs.map PyData.str))=true:=by
  simp[SeqAt.shaped,PyData.canLay0,vz (λz hz=>good_str (h z hz)),PyData.depth,xk]
 dsimp only
 rw[if_pos ⟨hs,hs⟩]
 simp[PyData.eqv,Cn]
theorem Dw(h:∀z∈zs,iE z)(hk:O[k]? =some (.lst (zs.map D.str))):neD O (.ptr k) (sD zs)=.ok (.bl false):=by
 have:eqB O (.ptr k) (sD zs)=some true:=by
  show gv O _ _=_
  exact En h (by rw[nN hk,jW,ip])
 unfold neD
 rw[this]
 rfl
theorem vq(h:∀z∈zs,iE z):neD O (sD zs) (sD zs)=.ok (.bl false):=by
 have:eqB O (sD zs) (sD zs)=some true:=by
  show gv O _ _=_
  exact En h (by show M.res O (M.res O (.lst (zs.map D.str)))=_;rw[jW,ip,jW,ip])
 unfold neD
 rw[this]
 rfl
def idB(goods:List Str)(ws:List Wk)(a:Nat):Bool:=@decide (∀x,cJ ws.length (dP goods ws) x->nth x a=0) (Rt _)
theorem uA:idB goods ws a=true↔∀x,cJ ws.length (dP goods ws) x->nth x a=0:=by
 unfold idB
 exact @decide_eq_true_iff _ (Rt _)
theorem LV(lo:∀p∈Q,cJ ws.length (dP goods ws) p.2)(all:∀x,cJ ws.length (dP goods ws) x->x∈Q.map (·.2)):(fwQ Q a).isNone=idB goods ws a:=by
 rw[Fk,uA,<- D3 lo all]
 simp
def d6(goods:List Str)(ws:List Wk)(zs:List Str):List Str:=((pc zs.length).filter (idB goods ws)).map λa=>zs.getD a ""
theorem GI(zs:List Str):dO (zs.map D.str)=(pc zs.length).map λa:Nat=>.tup [.int (a:Int),.str (zs.getD a "")]:=by
 rw[kL]
 refine PL (by simp) λi h1 h2=> ?_
 have hi:i<zs.length:=by simpa using h1
 simp[kt,na hi]
theorem MJ(r:Option (Nat×List Int)):isD O (fwD r) .non=.ok (.bl r.isNone):=by
 cases r <;> rfl
theorem Jg(h:∀z∈zs,iE z):∀z∈d6 goods ws zs,iE z:=λz hz=>by
 unfold d6 at hz
 obtain⟨a,ha,rfl⟩:=li.mp hz
 have ha':=wn.mp (u0.mp ha).1
 rw[kt,na ha']
 exact h _ (wT ha')
theorem Ko(y:YS goods ws zs):∃d O,oK [yD goods ws] []=.ok (.ptr d,O)/\O[d]? =some (.lst ((d6 goods ws zs).map D.str)):=by
 have zl:=y.zl
 have w6:=y.w6
 obtain⟨Q,E,U,Y,lo,all⟩:=Bf y
 have J:=oY goods (ws:=ws) (by omega)
 rw[y.nm] at J
 have ex:ae (methP 0 "names" 0 dw (aa 0) ak) ak ⟨[some (yD goods ws),some (.lst (bx Q))],E⟩=.ok ([sD zs],⟨[some (yD goods ws),some (.lst (bx Q))],E⟩):=aE (nR (ns:=FN) (ds:=yDs goods ws) (args:=[]) (ag rfl) (aG _) J (by decide) (iW _ _) rfl rfl (da _)) (aG _)
 have ec:=DW (l:=pc zs.length) (f:=λa:Nat=>.int (a:Int)) (g:=λa=>.str (zs.getD a "")) (p:=idB goods ws) (out:=λa=>.str (zs.getD a "")) (caps:=[1]) (im:=cP (ae (methP 0 "names" 0 dw (aa 0) ak) ak)) (c:=bg (ao isD (gU 2 dX (ae (aa 2) (ae (aa 0) ak))) (aq .non))) (e:=aa 1) (k:=none) (s:=⟨[some (yD goods ws),some (.lst (bx Q))],E⟩) (by
  rw[iH,ex,aj,<- GI]) trivial (by simp;omega) (λa ha=>by
   have ha':=wn.mp ha
   rw[<- LV (a:=a) (λp hp=>(lo p hp).1) all]
   exact fM (aO (qp (aE (ag rfl) (aE (ag rfl) (aG _))) (wC (a:=a) Y λp hp=>by rw[(lo p hp).1.fit.len];omega) rfl) (aC _ _) (MJ _))) (λa _ _=>ag rfl)
 refine⟨E.length,E++[.lst (((pc zs.length).filter (idB goods ws)).map λa=>.str (zs.getD a ""))], ?_, ?_⟩
 ·refine eV (R:=[some (yD goods ws),some (.lst (bx Q))]) ?_
  show BD ⟨[some (yD goods ws),none],[]⟩=_
  rw[BD]
  exact aY (bK (U rfl) rfl) (bI ec)
 ·rw[gB]
  unfold d6
  rw[ss]
  rfl
theorem sX{α:Type}{ok:ay->Prop}{c:TM}{e:EM}{cap:List (Option D)}{item:α->D}{p:α->Bool}{out:α->D}(U:∀O,ok O):
 ∀(l:List α) (J:List D) (x:Option D) (O:ay),J.length+l.length<=16777216->
 (∀a∈l,∀O,∃E,c ⟨some (item a)::cap,O⟩=.ok (p a,⟨some (item a)::cap,O++E⟩))->(∀a∈l,∀O,e ⟨some (item a)::cap,O⟩=.ok (out a,⟨some (item a)::cap,O⟩))->
 ∃(E:ay) (Y:Option D),dv ok (ax 0) c e (l.map item) J ⟨x::cap,O⟩=.ok (J++(l.filter p).map out,⟨Y::cap,O++E⟩)
 | [],J,x,O,_,_,_=>⟨[],x,by rw[IR,dv,if_pos (U _)];simp⟩
 | a::l,J,x,O,hl,hc,he=>by
  rw[tz] at hl
  obtain⟨E,h1⟩:=hc a pi O
  have st:dv ok (ax 0) c e ((a::l).map item) J ⟨x::cap,O⟩=if p a=true then (e ⟨some (item a)::cap,O++E⟩).bind λz=>dv ok (ax 0) c e (l.map item) (J++[z.1]) z.2 else dv ok (ax 0) c e (l.map item) J ⟨some (item a)::cap,O++E⟩:=by
   rw[sH,dv,if_pos ⟨U _,by omega⟩,Kb (R':=some (item a)::cap) rfl,aj,h1,aj]
  rw[st]
  by_cases hp:p a=true
  ·obtain⟨E',Y,e2⟩:=sX U l (J++[out a]) (some (item a)) (O++E) (by simp;omega) (λb hb=>hc b (ol _ hb)) (λb hb=>he b (ol _ hb))
   refine⟨E++E',Y, ?_⟩
   rw[if_pos hp,he a pi,aj,e2,wI hp]
   simp
  ·obtain⟨E',Y,e2⟩:=sX U l J (some (item a)) (O++E) (by omega) (λb hb=>hc b (ol _ hb)) (λb hb=>he b (ol _ hb))
   refine⟨E++E',Y, ?_⟩
   rw[if_neg hp,e2,Aj hp]
   simp
theorem Hd {α:Type} {l:List α} {item out:α->D} {p:α->Bool} {caps:List Nat} {c:TM} {e:EM} (J:im ⟨R,O⟩=.ok ((l.map item,none),⟨R,O⟩)) (Y:l.length<=1000000)
 (hc:∀a∈l,∀O,∃E,c ⟨some (item a)::caps.map (λi=>(R[i]?).getD none),O⟩=.ok (p a,⟨some (item a)::caps.map (λi=>(R[i]?).getD none),O++E⟩))
 (U:∀a∈l,∀O,e ⟨some (item a)::caps.map (λi=>(R[i]?).getD none),O⟩=.ok (out a,⟨some (item a)::caps.map (λi=>(R[i]?).getD none),O⟩)):
 ∃E,bD 1 caps im (ax 0) c e ⟨R,O⟩=.ok (.lst ((l.filter p).map out),⟨R,O++E⟩):=by
 obtain⟨E,x',e1⟩:=sX (ok:=okC (l.map item) none) (cap:=caps.map (λi=>(R[i]?).getD none)) (p:=p) (out:=out) (λ_=>trivial) l [] none O (by simp;omega) hc U
 refine⟨E, ?_⟩
 rw[lK,qZ,J,aj]
 dsimp only
 rw[show lL 1 caps R=none::caps.map (λi=>(R[i]?).getD none) from rfl,e1,aj,aj]
 rfl
theorem zG(n:Nat):∀l:List Str,fu n (l.map D.str)=l.map D.str
 | []=>by simp[fu]
 | z::l=>by
  rw[sH]
  unfold fu
  rw[zG n l]
  rfl
theorem Mp(zs:List Str):zs.map D.str=(pc zs.length).map λa:Nat=>D.str (zs.getD a ""):=by
 refine PL (by simp) λi h1 h2=> ?_
 have hi:i<zs.length:=by simpa using h1
 simp[kt,na hi]
theorem Ee(zs:List Str):((pc zs.length).filter (idB goods ws)).map (λa:Nat=>D.str (zs.getD a ""))=(d6 goods ws zs).map D.str:=by
 unfold d6
 rw[ss]
 rfl
abbrev iR(ns:List Int)(b:Nat)(hd:Int)(n:Nat)(A W:List (List Int))(goods zs:List Str)(ws:List Wk)(x9 x10 x11 J U:Option D):List (Option D):=lR ns b hd n A W goods zs ws [x9,x10,x11,J,U]
theorem Jd{ns:List Int}{b:Nat}{hd:Int}{n:Nat}{A W:List (List Int)}{x9 x10:Option D}{O:ay}{w:List Int}(zl:zs.length=A.length)(U:zs.Nodup)(wl:w.length=A.length)(al:A.length<=100)(h:∀a,a<A.length->0<nth w a->idB goods ws a=false)(x11:Option D):
 ∃J,qt ⟨iR ns b hd n A W goods zs ws x9 x10 x11 (some (vI w)) (some (sD (d6 goods ws zs))),O⟩=.next ⟨iR ns b hd n A W goods zs ws x9 x10 J (some (vI w)) (some (sD (d6 goods ws zs))),O⟩:=by
 obtain⟨s',el,J,ac⟩:=tj (ok:=okC (dt 0 (A.length:Int)) none) (g:=ax 11) (body:=yo)
  (λs=>∃x11,s=⟨iR ns b hd n A W goods zs ws x9 x10 x11 (some (vI w)) (some (sD (d6 goods ws zs))),O⟩) (λ_ _=>trivial) (dt 0 (A.length:Int)) (by
   rintro d Y s ⟨x11,rfl⟩
   rw[eO] at Y
   obtain⟨a,ha,rfl⟩:=li.mp Y
   have ha':=wn.mp ha
   refine⟨⟨iR ns b hd n A W goods zs ws x9 x10 (some (.int (a:Int))) (some (vI w)) (some (sD (d6 goods ws zs))),O⟩,_,rfl,.inl ?_,some (.int (a:Int)),rfl⟩
   have t1:bg (ao gtD (ao ixD (aa 12) (aa 11)) (aq (.int 0))) ⟨iR ns b hd n A W goods zs ws x9 x10 (some (.int (a:Int))) (some (vI w)) (some (sD (d6 goods ws zs))),O⟩=.ok (decide (0<nth w a),⟨iR ns b hd n A W goods zs ws x9 x10 (some (.int (a:Int))) (some (vI w)) (some (sD (d6 goods ws zs))),O⟩):=jJ (aO (ag rfl) (ag rfl) (i6 (by omega)))
   have t2:bg (ao inD (ao ixD (aa 7) (aa 11)) (aa 13)) ⟨iR ns b hd n A W goods zs ws x9 x10 (some (.int (a:Int))) (some (vI w)) (some (sD (d6 goods ws zs))),O⟩=.ok ((d6 goods ws zs).any (· == zs[a]'(by omega)),⟨iR ns b hd n A W goods zs ws x9 x10 (some (.int (a:Int))) (some (vI w)) (some (sD (d6 goods ws zs))),O⟩):=fM (aO (aO (ag rfl) (ag rfl) (xC (by omega))) (ag rfl) (yk _ _))
   rw[yo]
   refine gT (uy t1 t2) ?_ (d8 _)
   by_cases q:0<nth w a
   ·have hi:=h a ha' q
    have hf:(d6 goods ws zs).any (· == zs[a]'(by omega))=false:=by
     rw[R1]
     intro z
     obtain⟨v,hv,e⟩:=Rq.mp z
     have e:=eq_of_beq e
     unfold d6 at hv
     obtain⟨c,hc,rfl⟩:=li.mp hv
     obtain⟨c1,c2⟩:=u0.mp hc
     have c1:=wn.mp c1
     rw[kt,na c1] at e
     have e2:zs[c]=zs[a]'(by omega):=e
     have e3:=congrArg zs.idxOf e2
     rw[Qw U c c1,Qw U a _] at e3
     rw[e3,hi] at c2
     cases c2
    rw[hf,QY]
   ·rw[decide_eq_false q,Qx]) ⟨iR ns b hd n A W goods zs ws x9 x10 x11 (some (vI w)) (some (sD (d6 goods ws zs))),O⟩ ⟨x11,rfl⟩
 refine⟨J, ?_⟩
 rw[qt]
 refine(dQ (ds:=dt 0 (A.length:Int)) (k:=none) (s1:=⟨iR ns b hd n A W goods zs ws x9 x10 x11 (some (vI w)) (some (sD (d6 goods ws zs))),O⟩) (dY (aE (fG (aE (ag rfl) (aG _)) (by rw[gL,nW])) (aG _)) (by omega))).trans (el.trans (by rw[ac]))
theorem CT(ns:List Int)(b:Nat)(x2 x3 x4 x5 x6 x7 x8 x9 x10 x11 U ac:Option D)(O0:ay):∃O' y2 y3 y4 y5 y6 y7 y8 y9 as ab am az,uY ⟨[some (vI ns),some (.int (b:Int)),x2,x3,x4,x5,x6,x7,x8,x9,x10,x11,U,ac],O0⟩=.next ⟨[some (vI ns),some (.int (b:Int)),y2,y3,y4,y5,y6,y7,y8,y9,as,ab,am,az],O'⟩:=by
 suffices main:∃o,uY ⟨[some (vI ns),some (.int (b:Int)),x2,x3,x4,x5,x6,x7,x8,x9,x10,x11,U,ac],O0⟩=o/\∃O' y2 y3 y4 y5 y6 y7 y8 y9 as ab am az,o=Out.next ⟨[some (vI ns),some (.int (b:Int)),y2,y3,y4,y5,y6,y7,y8,y9,as,ab,am,az],O'⟩ by
  obtain⟨o,h,O',y2,y3,y4,y5,y6,y7,y8,y9,as,ab,am,az,rfl⟩:=main
  exact⟨O',y2,y3,y4,y5,y6,y7,y8,y9,as,ab,am,az,h⟩
 rw[uY]
 refine ID ns b x2 x3 x4 x5 x6 x7 x8 [x9,x10,x11,U,ac] O0 _ _ λhd n A W goods zs ws J dr=> ?_
 have bm:=dr.ch
 have b7:ws.length=A.length:=by have:=congrArg PP bm;simpa using this
 have n4:=dr.n4
 have al:=dr.al
 have gl:=dr.gl
 have w4:=dr.w4
 have hs:cL 90 (chL goods ws):=by rw[dr.ch];exact dr.mv.sz
 have y:YS goods ws zs:=⟨by omega,by omega,hs,dr.nm,dr.znd⟩
 have zl:zs.length=A.length:=by rw[y.zl];exact b7
 have dg:=Jg (goods:=goods) (ws:=ws) dr.zg
 obtain⟨d,Op,Q,ep,cc,sQ,nQ,few,nd,so,lo,all⟩:=Bw (goods:=goods) (ws:=ws) (by omega) (by omega) hs
 have e9:setM 9 (hU (dU 1 jA (ae (aa 8) ak))) ⟨iR ns b hd n A W goods zs ws x9 x10 x11 U ac,J⟩=.next ⟨iR ns b hd n A W goods zs ws (some (.lst (bx (Q.map λp=>(J.length+p.1,p.2))))) x10 x11 U ac,(J++Op.map (shC J.length)).set (J.length+d) .dead⟩:=bK (ny (g7 (aE (ag rfl) (aG _)) ep (uH _ _) rfl (ib _ _) rfl) (uL (S:=J) cc) rfl) rfl
 have a2:Sto ((J++Op.map (shC J.length)).set (J.length+d) .dead) (Q.map λp=>(J.length+p.1,p.2)):=(xn (S:=J) sQ).set (λp hp=>by
  obtain⟨q,hq,rfl⟩:=li.mp hp
  have:=nQ q hq
  dsimp only
  omega) _
 have bn:(Q.map λp=>(J.length+p.1,p.2)).map (·.2)=Q.map (·.2):=by rw[ss];rfl
 have lo1:∀p∈Q.map (λp=>(J.length+p.1,p.2)),cJ ws.length (dP goods ws) p.2:=λp hp=>by
  obtain⟨q,hq,rfl⟩:=li.mp hp
  exact(lo q hq).1
 have ql:(Q.map λp=>(J.length+p.1,p.2)).length<64:=by rw[nW];exact few
 generalize (J++Op.map (shC J.length)).set (J.length+d) Cell.dead=O1 at e9 a2
 generalize (Q.map λp=>(J.length+p.1,p.2))=Y at e9 a2 bn lo1 ql
 have all1:∀x,cJ ws.length (dP goods ws) x->x∈Y.map (·.2):=λx hx=>by rw[bn];exact all x hx
 obtain⟨di,Oi,ei,hi⟩:=Ko y
 have ci:∀O:ay,(O++Oi.map (shC O.length))[O.length+di]? =some (.lst ((d6 goods ws zs).map D.str)):=λO=>by
  rw[re (by omega),Db,sI,hi]
  simp only[IH,nO,zG]
 have a3:setM 10 (dU 1 oK (ae (aa 8) ak)) ⟨iR ns b hd n A W goods zs ws (some (.lst (bx Y))) x10 x11 U ac,O1⟩=.next ⟨iR ns b hd n A W goods zs ws (some (.lst (bx Y))) (some (.ptr (O1.length+di))) x11 U ac,O1++Oi.map (shC O1.length)⟩:=bK (g7 (aE (ag rfl) (aG _)) ei (uH _ _) rfl (ib _ _) rfl) rfl
 have c2:=ci O1
 have bv:Sto (O1++Oi.map (shC O1.length)) Y:=a2.app _
 generalize O1++Oi.map (shC O1.length)=O2 at a3 c2 bv
 generalize O1.length+di=d1 at a3 c2
 have bz:=yK (l:=pc zs.length) (item:=λa:Nat=>D.int (a:Int)) (out:=λa=>D.str (zs.getD a "")) (p:=idB goods ws) (caps:=[7,9]) (im:=dA (ae (bo cf (ae (aa 4) ak)) ak)) (c:=bg (bo Cg (ae (bD 1 [0] (listI (aa 2)) (ax 0) bF (ao eqD (ao ixD (aa 0) (aa 1)) (aq (.int 0)))) ak))) (e:=ao ixD (aa 1) (aa 0)) (k:=none) (s:=⟨iR ns b hd n A W goods zs ws (some (.lst (bx Y))) (some (.ptr d1)) x11 U ac,O2⟩) (by
  rw[zl,<- eO]
  exact dY (aE (fG (aE (ag rfl) (aG _)) (by rw[gL,nW])) (aG _)) (by omega)) trivial (by simp;omega) (λa ha=>by
   have ha':=wn.mp ha
   have ec:=dE (l:=Y) (item:=λp=>.ptr p.1) (out:=λp=>.bl (decide (nth p.2 a=0))) (caps:=[0]) (im:=listI (aa 2)) (e:=ao eqD (ao ixD (aa 0) (aa 1)) (aq (.int 0))) (k:=none) (s:=⟨[some (.int (a:Int)),some (sD zs),some (.lst (bx Y))],O2⟩) (by rw[cM,ag (i:=2) rfl,aj];rfl) trivial (by omega) (λp hp=>aO (aO (ag rfl) (ag rfl) (uz (bv p hp) (by rw[(lo1 p hp).fit.len];omega))) (aC _ _) (nK _ _))
   rw[show Y.map (λp=>D.bl (decide (nth p.2 a=0)))=(Y.map λp=>decide (nth p.2 a=0)).map D.bl by rw[ss];rfl] at ec
   have ea:=fM (fG (aE ec (aG _)) (Bk _ _))
   rw[show (Y.map λp=>decide (nth p.2 a=0)).all id=idB goods ws a by
    rw[Fk,uA,QL,PM]
    constructor
    ·intro h x hx
     obtain⟨p,hp,rfl⟩:=li.mp (all1 x hx)
     exact of_decide_eq_true (h p hp)
    ·intro h p hp
     exact decide_eq_true (h p.2 (lo1 p hp))] at ea
   exact ea) (λa ha _=>by
   have ha':=wn.mp ha
   have e:zs.getD a "" =zs[a]:=by rw[kt,na ha'];rfl
   rw[e]
   exact aO (ag rfl) (ag rfl) (xC ha'))
 rw[Ee] at bz
 obtain⟨E3,a4⟩:=Hd (l:=pc zs.length) (item:=λa:Nat=>D.str (zs.getD a "")) (out:=λa=>D.str (zs.getD a "")) (p:=idB goods ws) (caps:=[8]) (im:=listI (aa 7)) (c:=bg (ao eqD (ao ixD (dU 2 tN (ae (aa 1) (ae (aa 0) ak))) (aq (.int 0))) (aq (.str ("never" :Str))))) (e:=aa 0) (R:=iR ns b hd n A W goods zs ws (some (.lst (bx Y))) (some (.ptr d1)) x11 U (some (sD (d6 goods ws zs)))) (O:=O2) (by
  rw[cM,ag (i:=7) rfl,aj,<- Mp]
  rfl) (by simp;omega) (λa ha O=>by
   have ha':=wn.mp ha
   have e:zs.getD a "" =zs[a]:=by rw[kt,na ha'];rfl
   rw[e]
   obtain⟨dd,Os,bb,es,hb⟩:=Lu y ha'
   have cn:bb=idB goods ws a:=by rw[Fk,uA];exact hb
   refine⟨Os.map (shC O.length),fM (aO (aO (g7 (aE (ag rfl) (aE (ag rfl) (aG _))) es (ym _ _ (by simp)) rfl rfl rfl) (aC _ _) (nH rfl)) (aC _ _) ?_)⟩
   rw[<- cn]
   cases bb with
   | true=>rfl
   | false=>rfl) (λa _ O=>ag rfl)
 rw[Ee] at a4
 have c3:(O2++E3)[d1]? =some (.lst ((d6 goods ws zs).map D.str)):=eC c2
 generalize O2++E3=O3 at a4 c3
 obtain⟨s',el,ab,am,cp⟩:=tj (ok:=okC (W.map vI) none) (g:=ax 12) (body:=qt)
  (λs=>∃x11 U,s=⟨iR ns b hd n A W goods zs ws (some (.lst (bx Y))) (some (.ptr d1)) x11 U (some (sD (d6 goods ws zs))),O3⟩) (λ_ _=>trivial) (W.map vI) (by
   rintro dd cr s ⟨x11,U,rfl⟩
   obtain⟨w,hw,rfl⟩:=li.mp cr
   have wl:=dr.wl w hw
   have wo:=dr.mv.ws w hw
   obtain⟨ab,e⟩:=Jd (ns:=ns) (b:=b) (hd:=hd) (n:=n) (A:=A) (W:=W) (goods:=goods) (ws:=ws) (x9:=some (.lst (bx Y))) (x10:=some (.ptr d1)) (O:=O3) (w:=w) zl dr.znd wl (by omega) (λa ha q=>by
    rw[R1]
    intro z
    have id:=uA.mp z
    have f:Fit ws.length (dP goods ws) w:=⟨by omega,λi=>by
     by_cases hi:i<w.length
     ·exact(wo.lo _ (qf hi)).1
     ·rw[fX (by omega)];decide,λr hr=>by
     unfold dP at hr
     obtain⟨g,hg,rfl⟩:=li.mp hr
     have e:m4 goods ws g=(chL goods ws).map (nth · g):=by unfold m4 chL;rw[ss];rfl
     have h:=wo.bal g (by rw[<- gl];exact wn.mp hg)
     rw[<- bm] at h
     unfold cz at h
     rw[show (chL goods ws).length=ws.length by simp] at h
     rw[e,<- h]
     exact bG λj _=>by rw[md,PH],⟨a,by omega⟩⟩
    have:=Cb (by omega) id f
    omega) x11
   exact⟨⟨iR ns b hd n A W goods zs ws (some (.lst (bx Y))) (some (.ptr d1)) x11 (some (vI w)) (some (sD (d6 goods ws zs))),O3⟩,_,rfl,.inl e,_,_,rfl⟩) ⟨iR ns b hd n A W goods zs ws (some (.lst (bx Y))) (some (.ptr d1)) x11 U (some (sD (d6 goods ws zs))),O3⟩ ⟨x11,U,rfl⟩
 have hf:=dQ (im:=listI (aa 5)) (g:=ax 12) (body:=qt) (s:=⟨iR ns b hd n A W goods zs ws (some (.lst (bx Y))) (some (.ptr d1)) x11 U (some (sD (d6 goods ws zs))),O3⟩) (ds:=W.map vI) (k:=none) (s1:=⟨iR ns b hd n A W goods zs ws (some (.lst (bx Y))) (some (.ptr d1)) x11 U (some (sD (d6 goods ws zs))),O3⟩) (by rw[cM,ag (i:=5) rfl,aj];rfl)
 rw[el,cp] at hf
 have dl:(d6 goods ws zs).length<=1000:=by
  unfold d6
  rw[nW]
  have:=Ql (idB goods ws) (pc zs.length)
  rw[P4] at this
  omega
 have b1:dk (gr (aa 10) (aq (.str ("z" :Str)))) ⟨iR ns b hd n A W goods zs ws (some (.lst (bx Y))) (some (.ptr d1)) ab am (some (sD (d6 goods ws zs))),O3⟩=.next ⟨iR ns b hd n A W goods zs ws (some (.lst (bx Y))) (some (.ptr d1)) ab am (some (sD (d6 goods ws zs))),O3.set d1 (.lst ((d6 goods ws zs).map D.str++[.str "z"]))⟩:=cT (lX (ag rfl) c3 (aC _ _) c3 (by rw[nW];omega) rfl)
 generalize O3.set d1 (.lst ((d6 goods ws zs).map D.str++[.str "z"]))=O4 at b1
 exact⟨_,aY e9 (aY a3 (aY (bK (R':=iR ns b hd n A W goods zs ws (some (.lst (bx Y))) (some (.ptr d1)) x11 U (some (sD (d6 goods ws zs)))) bz rfl) (aY (gT (Nk (Nq (fM (Bd (ag rfl) (K7 c2 _)))) (by decide) (fM (aO (ag rfl) (ag rfl) (Dw dg c2)))) rfl (d8 _)) (aY (gT (fM (aO (ag rfl) a4 (vq dg))) rfl (d8 _)) (aY hf (aY b1 (gT (fM (aO (ny (g7 (aE (ag rfl) (aG _)) ei (uH _ _) rfl (ib _ _) rfl) (ci O4) rfl) (ag rfl) (vq dg))) rfl (d8 _)))))))),_,_,_,_,_,_,_,_,_,_,_,_,_,rfl⟩
theorem Jk(ns:List Int)(h:ns.length<=63):∃O,AK [.lst (ns.map D.int)] []=.ok (.bl true,O):=by
 obtain⟨O1,a2,a3,a4,a5,a6,a7,a8,a9,J,U,Y,ab,e1⟩:=CT ns 0 none none none none none none none none none none none none []
 obtain⟨O2,b2,b3,b4,b5,b6,b7,b8,b9,ac,am,an,ap,e2⟩:=CT ns 5 a2 a3 a4 a5 a6 a7 a8 a9 J U Y ab O1
 refine jI ⟨⟨[some (vI ns),some (.int 5),b2,b3,b4,b5,b6,b7,b8,b9,ac,am,an,ap],O2⟩, ?_⟩
 show E5 ⟨[some (vI ns),none,none,none,none,none,none,none,none,none,none,none,none,none],[]⟩=_
 rw[E5]
 refine aY ?_ (bI (aC _ _))
 refine(dQ (ds:=[.int 0,.int 5]) (k:=none) (s1:=⟨[some (vI ns),none,none,none,none,none,none,none,none,none,none,none,none,none],[]⟩) ?_).trans ?_
 ·rw[cM,rn (aE (aC _ _) (aE (aC _ _) (aG _))) (by simp),aj];rfl
 ·refine(jS (s1:=⟨[some (vI ns),some (.int 0),none,none,none,none,none,none,none,none,none,none,none,none],[]⟩) trivial rfl e1).trans ((jS (s1:=⟨[some (vI ns),some (.int 5),a2,a3,a4,a5,a6,a7,a8,a9,J,U,Y,ab],O1⟩) trivial rfl e2).trans ?_)
  rw[cv,if_pos (show okC _ none _ from trivial)];rfl
theorem all_mk {l:Rw} {w:World} {K:lm} {h:Heap} {mg:Str->Option Value} {fa ek el em en eQ U:Addr} (X:K.In h) (G:h.Ns mainGlobals mg) (hl:mg "law" =some (.ref fa)) (J:l.prog.given.tree=none)
 {e6 e7 e8 e9 fc ff fh fl fr eu:Option Addr} {fw fx fy fz fR:Array (Option Value)} {f0 f1 f2 f3 ev f4 f5 f8 ga ge ew gg gn gq gt gz ez gF g0 g1 g2 g3 eA g8 he eB eF eL d2 eP:Value} {b3 ci cm:Tok}
 (c3:zm K mainGlobals "Yard" =some (some (.ref U)))
 (ea:Qm K U Str.empty=true)
 (eb:Qy K U=true)
 (ec:Q7 K U=true)
 (ed:xL K (.ref U) "__setattr__" =some (some (.builtin "object.__setattr__")))
 (ef:Rv K U=true)
 (eg:Do K (.ref U)=true)
 (a6:xL K (.ref U) "held_changes" =some none)
 (a9:xL K (.ref U) "held_goods" =some none)
 (bb:xL K (.ref U) "held_works" =some none)
 (l0:FK K "is_whole" sj)
 (l1:FK K "measure_of_two" kC)
 (l2:FK K "measure" ui)
 (l3:FK K "lowest" vV)
 (l4:FK K "sum_of_products" jZ)
 (l5:FK K "unit" B1)
 (l6:FK K "units" yw)
 (l7:FK K "offset" wO)
 (l8:FK K "column" wa)
 (l9:FK K "first_not_nought" jn)
 (ho:FK K "with_sign_above" jY)
 (ht:FK K "cleared" ur)
 (hv:FK K "plain" yC)
 (hw:FK K "still_by_one_more" i4)
 (hA:FK K "still" yZ)
 (hB:FK K "made_of" sP)
 (hC:FK K "places_of" pI)
 (hD:FK K "is_among" rL)
 (hF:FK K "are_neighbours" kE)
 (hG:FK K "lone_by_one_more" jw)
 (hH:FK K "lone" CU)
 (hI:xL K (.ref U) "row" =some (some (.ref ek)))
 (hK:Qh K (.ref ek)=true)
 (hL:K.lookup ek=some ⟨f0,e6,.func (At "row" "Yard.row" (fj jQ) (d3 jQ) (aL jQ) .none f1 f2 f3 e7 ev f4),fw⟩)
 (hM:Pu K ev "Yard.row" =true)
 (hf:Do K (.ref ek)=true)
 (hN:xL K (.ref U) "rows" =some (some (.ref el)))
 (hO:Qh K (.ref el)=true)
 (hP:K.lookup el=some ⟨f5,e8,.func (At "rows" "Yard.rows" (fj iT) (d3 iT) (aL iT) .none f8 ga ge e9 ew gg),fx⟩)
 (hQ:Pu K ew "Yard.rows" =true)
 (hg:Do K (.ref el)=true)
 (hR:xL K (.ref U) "names" =some (some (.ref em)))
 (hS:Qh K (.ref em)=true)
 (hT:K.lookup em=some ⟨gn,fc,.func (At "names" "Yard.names" (fj hZ) (d3 hZ) (aL hZ) .none gq gt gz ff ez gF),fy⟩)
 (hV:Pu K ez "Yard.names" =true)
 (hh:Do K (.ref em)=true)
 (hW:FK K "ways" Bm)
 (hX:FK K "place_of" qH)
 (hY:FK K "first_with" oC)
 (h3:FK K "weights_above" lF)
 (h4:FK K "seen" CS)
 (h5:FK K "idle" CN)
 (h6:FK K "is_name" ub)
 (h7:FK K "check_many" oy)
 (h8:FK K "check_name" nU)
 (h9:FK K "check_goods" mY)
 (ia:FK K "check_good" oE)
 (ih:FK K "check_amount" lJ)
 (ii:FK K "check_parts" mV)
 (ij:FK K "check_works" mT)
 (il:FK K "copy_work" pB)
 (io:FK K "amount_of" pU)
 (is:FK K "change_of" qd)
 (iv:xL K (.ref U) "__init__" =some (some (.ref en)))
 (iw:Qh K (.ref en)=true)
 (ix:K.lookup en=some ⟨g0,fh,.func (At "__init__" "Yard.__init__" (fj iO) (d3 iO) (aL iO) .none g1 g2 g3 fl eA g8),fz⟩)
 (iP:Pu K eA "Yard.__init__" =true)
 (iS:Do K (.ref en)=true)
 (i0:FK K "_law_cell" qw)
 (i1:FK K "_law_pick" rZ)
 (i2:FK K "_law_names" pZ)
 (i7:FK K "_law_move" rf)
 (jp:FK K "_law_moves" p8)
 (js:FK K "_law_works" pL)
 (hj:zm K mainGlobals "law" =some (some (.ref eQ)))
 (ju:K.lookup eQ=some ⟨he,fr,.func (At "law" "law" (fj nE) (d3 nE) (aL nE) .none eB eF eL eu d2 eP),fR⟩)
 (jE:Pu K d2 "law" =true)
 (j0:Do K (.ref eQ)=true)
 (be:zm K mainGlobals "isinstance" =some none)
 (dg:zm K mainGlobals "int" =some none)
 (eo:zm K mainGlobals "bool" =some none)
 (e0:zm K mainGlobals "abs" =some none)
 (a8:zm K mainGlobals "list" =some none)
 (b6:zm K mainGlobals "zip" =some none)
 (di:zm K mainGlobals "sum" =some none)
 (ac:zm K mainGlobals "range" =some none)
 (Y:zm K mainGlobals "enumerate" =some none)
 (a1:zm K mainGlobals "len" =some none)
 (dL:zm K mainGlobals "sorted" =some none)
 (eh:zm K mainGlobals "all" =some none)
 (e4:zm K mainGlobals "max" =some none)
 (b4:zm K mainGlobals "MOST_LETTERS" =some (some (.int 8 b3)))
 (cn:zm K mainGlobals "MOST_GOODS" =some (some (.int 10 ci)))
 (co:zm K mainGlobals "MOST_WORKS" =some (some (.int 10 cm))):
 ∃fd:FuncData,(∀(s:Shared) (v:Value),BindsTo s fd ⟨[v],[]⟩ [("_law_script",v)])/\∀base:Heap,K.In base->base.Ns mainGlobals mg->jX l.prog w K mg base (CXE l.prog w) 45 fa fd ["_law_script"] (spM K (caK K) 1 AK):=by
 have e:=hl.symm.trans (P7 X G hj)
 cases e
 have am:caK K 0=U:=by show clsAt K "Yard" =_;unfold clsAt;rw[c3]
 have an:Cls K (caK K 0):=by rw[am];exact⟨ea,eb,ec,ed⟩
 have ap:fK K (caK K 0) "held_changes" :=by rw[am];exact a6
 have a2:fK K (caK K 0) "held_goods" :=by rw[am];exact a9
 have a3:fK K (caK K 0) "held_works" :=by rw[am];exact bb
 have ka:=qg (st:=jQ) hL hM hf
 have kd:=qg (st:=iT) hP hQ hg
 have kf:=qg (st:=hZ) hT hV hh
 have kg:=qg (st:=iO) ix iP iS
 have kk:=qg (st:=nE) ju jE j0
 refine⟨At "law" "law" (fj nE) (d3 nE) (aL nE) .none eB eF eL eu d2 eP,λs v=>.of_eq rfl,λbase _ _=> ?_⟩
 let e:Ev:=⟨l.prog,w,K,mg,base,caK K⟩
 have c4:=Dd (e:=e) (FK.fa X G l0) J (on X G be) (on X G dg) (on X G eo)
 have bn:=vd (e:=e) (FK.fa X G l1) J (on X G e0)
 have b7:=Fg (e:=e) (FK.fa X G l2) J bn
 have dV:=Gg (e:=e) (FK.fa X G l3) J (on X G a8) b7
 have bp:=A9 (e:=e) (FK.fa X G l3) J (on X G a8) b7
 have ab:=t7 (e:=e) (FK.fa X G l4) J (on X G b6) (on X G di)
 have ep:=Li (e:=e) (FK.fa X G l5) J
 have b8:=E2 (e:=e) (FK.fa X G l5) J
 have ei:=Jv (e:=e) (FK.fa X G l6) J (on X G ac) ep
 have c5:=Ds (e:=e) (FK.fa X G l6) J (on X G ac) b8
 have d1:=G3 (e:=e) (FK.fa X G l7) J (on X G b6) dV
 have bv:=Cf (e:=e) (FK.fa X G l7) J (on X G b6) bp
 have cs:=G4 (e:=e) (FK.fa X G l8) J
 have a4:=sJ (e:=e) (FK.fa X G l9) J (on X G Y)
 have bm:=ud (e:=e) (FK.fa X G ho) J
 have dm:=ER (e:=e) (FK.fa X G ht) J bv
 have ej:=IS (e:=e) (FK.fa X G hv) J (on X G ac) bp a4 cs bm dm
 have a7:=rY (e:=e) (FK.fa X G hw) J (on X G Y) ab a4 bv
 have c6:=Hw (e:=e) (FK.fa X G hA) J c5 a7 ej
 have dn:=ES (e:=e) (FK.fa X G hB) J (on X G a1) (on X G ac) cs c6
 have cu:=BU (e:=e) (FK.fa X G hC) J
 have c8:=Dx (e:=e) (FK.fa X G hD) J
 have bw:=vb (e:=e) (FK.fa X G hF) J (on X G a1) c8
 have bd:=sM (e:=e) (FK.fa X G hG) J (on X G b6) (on X G Y) ab cu bw d1
 have dr:=Kn (e:=e) (FK.fa X G hH) J (on X G dL) ei bd
 have db:=Dv (e:=e) ka (by show Meth K (caK K 0) _ _;rw[am];exact⟨hI,hK,hf⟩) J an ap
 have bz:=CW (e:=e) kd (by show Meth K (caK K 0) _ _;rw[am];exact⟨hN,hO,hg⟩) J (on X G a1) (on X G ac) an a2 db
 have as:=AE (e:=e) kf (by show Meth K (caK K 0) _ _;rw[am];exact⟨hR,hS,hh⟩) J an a3
 have cw:=Kv (e:=e) (FK.fa X G hW) J (on X G a1) an dr bz as
 have dc:=Dl (e:=e) (FK.fa X G hX) J an as
 have a5:=AF (e:=e) (FK.fa X G hY) J
 have b1:=wj (e:=e) (FK.fa X G h3) J (on X G a1) (on X G b6) an bz c6 ab a5 dr dn
 have er:=Lr (e:=e) (FK.fa X G h4) J (on X G a1) an dc a5 cw b1 b8 as
 have et:=Ku (e:=e) (FK.fa X G h5) J (on X G Y) an cw as a5
 have dp:=EW (e:=e) (FK.fa X G h6) J (on X G a1) (on X G eh) ⟨_,P7 X G b4⟩
 have cp:=Au (e:=e) (FK.fa X G h7) J (on X G a1) ⟨_,P7 X G cn⟩ ⟨_,P7 X G co⟩
 have bi:=AG (e:=e) (FK.fa X G h8) J dp
 have b9:=yF (e:=e) (FK.fa X G h9) J (on X G Y) bi
 have cr:=Az (e:=e) (FK.fa X G ia) J
 have b5:=xV (e:=e) (FK.fa X G ih) J c4
 have cc:=yc (e:=e) (FK.fa X G ii) J cr b5
 have ce:=yP (e:=e) (FK.fa X G ij) J bi cc
 have cA:=B8 (e:=e) (FK.fa X G il) J (on X G a8)
 have cB:=CC (e:=e) (FK.fa X G io) J (on X G di)
 have cG:=Ca (e:=e) (FK.fa X G is) J cB
 have cW:=CP (e:=e) kg (by show Mk K (caK K 0) _;rw[am];exact⟨ef,iv,iw,eg⟩) (by show mg _=some (.ref (caK K 0));rw[am];exact P7 X G c3) J (on X G a8) an a2 a3 ap cp b9 ce cA cG
 have b2:=Dy (e:=e) (FK.fa X G i0) J (on X G a1)
 have az:=DA (e:=e) (FK.fa X G i1) J
 have c0:=C3 (e:=e) (FK.fa X G i2) J (on X G ac) (on X G a1) az
 have dd:=Df (e:=e) (FK.fa X G i7) J (on X G dg) (on X G ac) az
 have c1:=A2 (e:=e) (FK.fa X G jp) J (on X G dg) (on X G ac) (on X G a1) (on X G di) (on X G a8) b2 az dd
 have c2:=Cd (e:=e) (FK.fa X G js) J (on X G Y) (on X G e4) az
 have e5:=LO (e:=e) kk (P7 X G hj) J (on X G a1) (on X G ac) (on X G eh) (on X G be) (on X G a8) b2 az c1 c0 cW c2 cw et er
 exact e5.1
end
end Lk32
open PySem PySem.W PyProof.Rows
theorem PySem.W.Fast.tw5005095379410668923:True:=⟨⟩
theorem PySem.W.Fast.tw2243541059306094362:True:=⟨⟩
theorem PySem.W.Fast.tw9318224508288147510:True:=⟨⟩
theorem PySem.W.Fast.tw12752887602476248073:True:=⟨⟩
theorem PySem.W.Fast.tw15388106407746506687:True:=⟨⟩
theorem PySem.W.Fast.tw9804945092213980756:True:=⟨⟩
theorem PySem.W.Fast.tw3732822985751952719:True:=⟨⟩
theorem PySem.W.Fast.tw18291958228773915360:True:=⟨⟩
theorem PySem.W.Fast.tw9119250872046772430:True:=⟨⟩
theorem PySem.W.Fast.tw7149942887578783797:True:=⟨⟩
theorem PySem.W.Fast.tw18203972015868962227:True:=⟨⟩
theorem PySem.W.Fast.tw17869872503990354814:True:=⟨⟩
theorem PySem.W.Fast.tw998203160282603913:True:=⟨⟩
theorem PySem.W.Fast.tw15197440993856886090:True:=⟨⟩
theorem PySem.W.Fast.tw12581018376837777344:True:=⟨⟩
theorem PySem.W.Fast.tw7524281029876342573:True:=⟨⟩
theorem PySem.W.Fast.tw18295939836686287258:True:=⟨⟩
theorem PySem.W.Fast.tw6465193305366822842:True:=⟨⟩
theorem PySem.W.Fast.tw7860260767483386676:True:=⟨⟩
theorem PySem.W.Fast.tw15663561905010867292:True:=⟨⟩
theorem PySem.W.Fast.tw10409585047471172874:True:=⟨⟩
theorem PySem.W.Fast.tw8284812885428192681:True:=⟨⟩
theorem PySem.W.Fast.tw7416549503454508265:True:=⟨⟩
theorem PySem.W.Fast.tw12478382405993097738:True:=⟨⟩
theorem PySem.W.Fast.tw8628576783675794333:True:=⟨⟩
theorem PySem.W.Fast.tw1117063143673364016:True:=⟨⟩
theorem PySem.W.Fast.tw16428063127203354302:True:=⟨⟩
theorem PySem.W.Fast.tw15148981628969578698:True:=⟨⟩
theorem PySem.W.Fast.tw14374181361161710619:True:=⟨⟩
theorem PySem.W.Fast.tw2320121175428690202:True:=⟨⟩
theorem PySem.W.Fast.tw1451602904331378019:True:=⟨⟩
theorem PySem.W.Fast.tw16046174919211610790:True:=⟨⟩
theorem PySem.W.Fast.tw12404251850438960564:True:=⟨⟩
theorem PySem.W.Fast.tw13304906651543370212:True:=⟨⟩
theorem PySem.W.Fast.tw13310430449793306890:True:=⟨⟩
theorem PySem.W.Fast.tw14579790799254296535:True:=⟨⟩
theorem PySem.W.Fast.tw3225423042223707188:True:=⟨⟩
theorem PySem.W.Fast.tw6194662215747605984:True:=⟨⟩
theorem PySem.W.Fast.tw9245942205306422340:True:=⟨⟩
theorem PySem.W.Fast.tw6621481781622783228:True:=⟨⟩
theorem PySem.W.Fast.tw2515815172323034252:True:=⟨⟩
theorem PySem.W.Fast.tw6212171262474864970:True:=⟨⟩
theorem PySem.W.Fast.tw8755510855713801635:True:=⟨⟩
theorem PySem.W.Fast.tw998691724016522887:True:=⟨⟩
theorem PySem.W.Fast.tw6916534290149452207:True:=⟨⟩
theorem PySem.W.Fast.tw6859530862853582159:True:=⟨⟩
theorem PySem.W.Fast.tw7271594435994636342:True:=⟨⟩
theorem PySem.W.Fast.tw885399956016016333:True:=⟨⟩
theorem PySem.W.Fast.tw1245712012685561457:True:=⟨⟩
theorem PySem.W.Fast.tw3119536848052107811:True:=⟨⟩
theorem PySem.W.Fast.tw11895476851734888259:True:=⟨⟩
theorem PySem.W.Fast.tw14844608288089700643:True:=⟨⟩
theorem PySem.W.Fast.tw4584161198197819174:True:=⟨⟩
theorem PySem.W.Fast.tw16342422769720514371:True:=⟨⟩
theorem PySem.W.Fast.tw5945727349079416198:True:=⟨⟩
theorem PySem.W.Fast.tw14795862198103760544:True:=⟨⟩
theorem PySem.W.Fast.tw17256805198286151933:True:=⟨⟩
theorem PySem.W.Fast.tw12165561723442376410:True:=⟨⟩
theorem PySem.W.Fast.tw8740971879269316361:True:=⟨⟩
theorem PySem.W.Fast.tw6078507991782200095:True:=⟨⟩
set_option maxRecDepth 100000 in
set_option maxHeartbeats 0 in
theorem PySem.Challenge.cw_modeyard_k32_idle_works_holds : PySem.Challenge.rw_modeyard_k32_idle_works.Holds := by
 w_on;o_law;k_head;(case hw=>w_witness2)
 k_fill
 refine L2.Iq (l:=PySem.Challenge.rw_modeyard_k32_idle_works) (n:=63) (k:=45) (x:="_law_script") (sp:=λK=>M.spM K (Lk32.caK K) 1 Lk32.AK) rfl (by decide) rfl ⟨rfl,by decide,by decide⟩ (by decide +kernel) (λw h Y=>PySem.W.kIn_of Y) ?F ?S
 case F=>
  intro w mg fa h KX G hmg
  refine' Lk32.all_mk KX G hmg rfl ?_ ?_ ?_ ?_ ?_ ?_ ?_ ?_ ?_ ?_ ?_ ?_ ?_ ?_ ?_ ?_ ?_ ?_ ?_ ?_ ?_ ?_ ?_ ?_ ?_ ?_ ?_ ?_ ?_ ?_ ?_ ?_ ?_ ?_ ?_ ?_ ?_ ?_ ?_ ?_ ?_ ?_ ?_ ?_ ?_ ?_ ?_ ?_ ?_ ?_ ?_ ?_ ?_ ?_ ?_ ?_ ?_ ?_ ?_ ?_ ?_ ?_ ?_ ?_ ?_ ?_ ?_ ?_ ?_ ?_ ?_ ?_ ?_ ?_ ?_ ?_ ?_ ?_ ?_ ?_ ?_ ?_ ?_ ?_ ?_ ?_ ?_ ?_ ?_ ?_ ?_ ?_ ?_ ?_
  all_goals try k_is
  all_goals try exact⟨_,_,_,_,_,_,_,_,_,_,by k_is,by k_is,by k_is,by k_is⟩
 case S=>exact λK H a ns hl _ hS=>M.ME hS (Lk32.Jk ns hl)