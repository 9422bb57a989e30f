import PyProof.Rows.All
import Wide.All
import OpenK.AllK
import Wide.FinOn
import Lean
import PyProof.EqAt
import PyProof.EqKinds
import PyProof.TupleCall
import PySem.Challenge.RW_modeyard_k23_ways_refused
set_option Elab.async false
set_option linter.all false
set_option maxRecDepth 100000
set_option maxHeartbeats 4000000
open Array renaming getElem?_eq_some_iff→PJ,getD_eq_getD_getElem?→Qm,getElem?_toList→Q7,length_toList→Rj,perm_iff_toList_perm→Rz,toList_inj→RT,getElem_toList→Sb,toList_map→SJ
open Bool renaming false_ne_true→x0,and_eq_true→Po,beq_eq_decide_eq→P5,eq_iff_iff→Qa,false_eq_true→QC,true_and→QO,or_eq_true→Rf,false_and→Rn,and_false→Rp,or_false→Rx,eq_false_iff→RF,false_or→S9,true_or→Tn
open Classical renaming byContradiction→P8
open Eq renaming trans→M2
open False renaming elim→ss
open ForInStep renaming yield→QA
open Function renaming comp_def→Sx
open Iff renaming rfl→S7
open Int renaming gcd→Pc,emod_lt_of_pos→PD,emod_nonneg→PV,natAbs_natCast→P6,mul_nonneg→P7,mul_pos→Qi,mul_comm→Qn,zero_mul→Qo,mul_eq_zero→Qr,mul_fdiv_cancel_left→Qx,eq_of_mul_eq_mul_left→QQ,mul_neg_of_pos_of_neg→QS,mul_nonpos_of_nonneg_of_nonpos→QY,natAbs_dvd_natAbs→Q8,natAbs_of_nonneg→Rb,neg_mul_neg→Rc,mul_le_mul_of_nonneg_right→Re,natAbs_mul→Rq,gcd_pos_of_ne_zero_right→Rs,fdiv_eq_ediv_of_nonneg→Rw,mul_zero→RX,mul_ne_zero→R5,natAbs_neg→R9,le_of_lt→Sn,add_zero→Sr,toNat_natCast→Su,natAbs_add_le→SD,mul_assoc→Tb
open List renaming getD_eq_getElem?_getD→sH,replicate→tz,length_map→ut,getElem?_eq_getElem→uX,range→u8,mem_cons_of_mem→wh,getElem?_append_right→wn,map_map→wp,mem_cons_self→wv,mem_singleton→ww,length_cons→wE,getElem?_eq_some_iff→wP,size_toArray→wS,mem_cons→wT,getElem?_append_left→w6,mem_append→xz,getElem?_map→xL,mem_map→At,map_cons→AC,nil_append→Db,map_append→Fa,mem_filter→Fk,length_append→FS,getElem?_replicate→Gc,length_singleton→IN,mem_map_of_mem→KE,mem_of_getElem?→No,getElem?_set_self→Pe,getElem?_set_ne→Pf,mem_append_right→Pg,filter_cons_of_pos→Pj,mem_range→Pm,getElem_mem→Pp,filter_cons_of_neg→Pq,of_mem_zip→Ps,take_of_length_le→Pu,drop_eq_getElem_cons→Pw,replicate_succ→Px,getElem_of_mem→Py,append_assoc→Pz,map_nil→PB,lookup_cons→PF,filterMap_cons→PL,append_nil→PM,toArray→PP,nodup_cons→PU,zipWith→PX,length_take→PY,not_mem_nil→PZ,pairwise_cons→P4,flatten_cons→Qd,length_zipWith→Qf,foldl_cons→Qp,length_zip→Qq,filter_map→Qs,nodup_append→Qt,mem_append_left→Qu,all_eq_true→Qw,map_inj_right→QD,lookup→QE,length→QF,take_add_one→QH,length_replicate→QJ,getElem?_eq_none→QK,length_filter_le→QL,mapIdx_eq_zipIdx_map→QR,mem_replicate→QU,map_replicate→QV,length_range→QZ,range_succ_eq_map→Q0,drop_eq_nil_of_le→Q2,all_cons→Q4,ext_getElem→Q6,all_map→Ra,mem_of_mem_take→Rg,map_const'→Rh,eq_nil_of_length_eq_zero→Ri,map_congr_left→Rl,getElem?_range→Rm,drop_zero→Rr,lookup_append→Ru,zip_cons_cons→Rv,any_cons→Ry,sum_cons→RA,any_eq_false→RC,pairwise_map→RG,getElem?_eq_none_iff→RH,pairwise_iff_getElem→RI,mem_or_eq_of_mem_set→RJ,getElem?_take_of_lt→RM,length_drop→RN,any_map→RP,drop_length→RS,getElem_map→RU,mem_nil_iff→RV,mem_flatMap→RW,zipIdx_map→R4,getElem?_zipWith→R8,getElem_zipWith→Sd,mem_of_mem_drop→Se,map_take→Sf,getD_cons_succ→Sg,getD_cons_zero→Si,mem_filterMap→Sk,foldl_append→SE,getElem_inj→SF,zipWith_map→SN,any_eq_true→SO,mem_reverse→SQ,map_reverse→SR,flatMap_map→SS,zipIdx_cons→SU,length_set→SW,foldl→SX,length_nil→S1,Nodup→S3,range_succ→S4,sum_append→S5,nodup_nil→S6,map_drop→Tc,map_set→To
open List.Pairwise renaming imp_of_mem→Qy,nil→Sv
open Nat renaming le_refl→wf,lt_of_lt_of_le→AT,ne_of_lt→Do,zero_le→Ph,le_trans→Pk,lt_irrefl→PH,add_sub_cancel_left→PQ,le_of_lt→Qj,gcd→Qv,pow_le_pow_right→QN,ne_of_gt→QT,lt_succ_of_lt→QX,lt_succ_self→Q5,testBit_or→Rt,le_add_right→RQ,add_zero→RY,min_eq_left→R3,le_succ→R6,le_of_eq→Sl,sub_zero→So,sub_self→Sq,zero_add→Ss,not_lt→S0,two_pow_pos→S2,dvd_trans→Ta
open Ne renaming symm→P0
open Option renaming map_some→PN,isSome_iff_exists→Qc,getD_some→RO,getD_none→SH,bind_some→SI
open Option.some renaming inj→PR,injEq→Sw
open Or renaming inl→tt,inr→P1
open PyProof.Rows renaming callWith_type1→Qk,kmk_tree→R7
open PySem renaming mem_of_lookup→Qz,Within→Sj,call→SY
open PySem.EqMixed renaming eq_bool_str→Td,eq_str_bool→Te,ne_bool_str→Tf,ne_str_bool→Tg,eq_int_str→Th,eq_str_int→Ti,ne_int_str→Tj,ne_str_int→Tk
open PySem.F renaming plainAttrs_list→Go,slot_list_append→Gp,type_list_append→Is,plain_min_loop→Pn,entry_min_loop→QG,excBase_ValueError→QP,slot_list_lt→Sa,plain_min→Sy,entry_min→SA,kind_min→SK
open PySem.W renaming Frag→sB,mg_none_of→sK,nsIn→Ch,findIn→EQ,fnOf→Ix,keepIn→IR,mg_of→NE,kitOne→Pd,codeIn→Pr,emptyDict→PK,exmOne→P2,instObj→P9,isFn→Qb,excIn→Qe,kitAny→Qg,cellsFrom_some→Qh,callWith_K→Ql,kia_one→QB,methodCall_KW→QI,plainGet→QM,hasDictIn→QW,mroIn→Q3,plainGet_of→Rk,lookIn→Ro,methodObj→RB,plainOver→RD,specialIn→RE,takerIn→RZ,makesIn→R0,OpenLaw→R1,codeRec_of→Sm,handedIn→SG,takesIn→SV,WalkO→S8
open PySem.W.Looks renaming here→Tp,ld→Tq
open Sum renaming inl→RK,inr→RL
open True renaming intro→Q9
namespace L2
open PySem PySem.Spec PyProof.Rows
variable {us : List Value} {u : Value} {H : Hp} {a b C : Addr} {P : Program} {w : World} {h base : Heap} {o : Obj} {t' i k : Nat} {ch fp : List Addr} {x : Str} {M : Model} {A : Around} {E Q : Value → Shared → Prop} {v : V} {X : Cx} {e tg : Expr} {s : Shared} {pins : List (Addr × Obj)} {σ : St} {pos : Pos} {op : CmpOp} {t te : TE} {K : sB} {body : List Stmt} {r r' : R2} {f : Value → Value → Sem Value} {kw : List (Str × Value)} {mg : Str → Option Value}
abbrev Key:=Sum Int Str
def Js:Key->Value->Bool
 | .inl k,v=>Value.isInt k v
 | .inr x,v=>Value.isStrOf x v
def NW(w:World):Key->Int
 | .inl k=>hashInt k
 | .inr x=>hashStr w x
theorem fA:∀{k:Key} {v:Value},Js k v=true->(∃i t,k=RK i/\v=Value.int i t)\/(∃x t,k=RL x/\v=Value.str x t)
 | .inl i,v,h=>by
  obtain⟨t,e⟩:=Value.isInt_shape (k:=i) (v:=v) h
  exact .inl ⟨i,t,rfl,e⟩
 | .inr x,v,h=>by
  obtain⟨t,e⟩:=Value.isStrOf_shape (x:=x) (v:=v) h
  exact .inr ⟨x,t,rfl,e⟩
theorem Ln(a b:Int):decide ((RK a:Key)=RK b)=(a == b):=by
 by_cases e:a=b
 ·subst e;simp
 ·have h:¬(RK a:Key)=RK b:=λq=>e (Sum.inl.inj q)
  rw[decide_eq_false h]
  exact(beq_eq_false_iff_ne.mpr e).symm
theorem Mu(a b:Str):decide ((RL a:Key)=RL b)=decide (a=b):=by
 by_cases e:a=b
 ·subst e;simp
 ·have h:¬(RL a:Key)=RL b:=λq=>e (Sum.inr.inj q)
  rw[decide_eq_false h,decide_eq_false e]
theorem LY(a:Int)(b:Str):decide ((RK a:Key)=RL b)=false:=decide_eq_false (λq=>nomatch q)
theorem ML(a:Str)(b:Int):decide ((RL a:Key)=RK b)=false:=decide_eq_false (λq=>nomatch q)
def xF(prog:Program)(w:World):PySem.KeyKind prog w Key where
 is:=Js
 hash:=NW w
 inj:=λv a b ha hb=>by
  rcases fA ha with⟨i,t,rfl,rfl⟩ | ⟨x,t,rfl,rfl⟩
  ·rcases fA hb with⟨j,u,rfl,e⟩ | ⟨y,u,rfl,e⟩
   ·injection e with e1 _;rw[e1]
   ·exact nomatch e
  ·rcases fA hb with⟨j,u,rfl,e⟩ | ⟨y,u,rfl,e⟩
   ·exact nomatch e
   ·injection e with e1 _;rw[e1]
 byValue:=λk v h=>by
  rcases fA h with⟨i,t,rfl,rfl⟩ | ⟨x,t,rfl,rfl⟩ <;> rfl
 pyHash:=λhv h=>by
  rcases fA hv with⟨i,t,rfl,rfl⟩ | ⟨x,t,rfl,rfl⟩
  ·exact wpAny_pyHash_int h
  ·exact wpAny_pyHash_str h
 eqBool:=λhu hv h=>by
  rcases fA hu with⟨i,t,rfl,rfl⟩ | ⟨x,t,rfl,rfl⟩
  ·rcases fA hv with⟨j,u,rfl,rfl⟩ | ⟨y,u,rfl,rfl⟩
   ·rw[Ln] at h;exact wpAny_eqBool_int h
   ·rw[LY] at h;exact SeqAt.EqAt.int_str i t y u _ _ _ _ h
  ·rcases fA hv with⟨j,u,rfl,rfl⟩ | ⟨y,u,rfl,rfl⟩
   ·rw[ML] at h;exact SeqAt.EqAt.str_int x t j u _ _ _ _ h
   ·rw[Mu] at h;exact wpAny_eqBool_str h
 «strs»:=λk x t v h=>by
  rcases fA h with⟨i,u,rfl,e⟩ | ⟨y,u,rfl,e⟩
  ·exact nomatch e
  ·injection e with e1 _
   subst e1
   cases v <;> rfl
inductive V where
 | non | bl (b:Bool) | int (i:Int) | str (x:Str) | byt (b:Array UInt8) | flt (b:UInt64) | ref (a:Addr) | ty (n:String)
 deriving DecidableEq
def RelV:V->Value->Prop
 | .non,u=>u=Value.none
 | .bl b,u=>u=Value.bool b
 | .int i,u=>∃t,u=Value.int i t
 | .str x,u=>∃t,u=Value.str x t
 | .byt b,u=>∃t,u=Value.bytes b t
 | .flt b,u=>∃t,u=Value.float b t
 | .ref a,u=>u=Value.ref a
 | .ty n,u=>u=Value.type n
abbrev Vals:List V->List Value->Prop:=Paired RelV
theorem Vals.length{xs:List V}(r:Vals xs us):xs.length=us.length:=Paired.length r
theorem Vals.get:∀{xs:List V} {us:List Value} {i:Nat} {x:V},Vals xs us->xs[i]? =some x->∃u,us[i]? =some u/\RelV x u
 | _,_,_,_,.nil,e=>by simp at e
 | _,_,0,_,.cons r _,e=>by simp at e;subst e;exact⟨_,rfl,r⟩
 | _,_,i+1,x,.cons _ t,e=>by
  obtain⟨u,h1,h2⟩:=Vals.get (i:=i) (x:=x) t (by simpa using e)
  exact⟨u,by simpa using h1,h2⟩
theorem Vals.set{x:V}{u:Value}(r:RelV x u):∀{xs:List V} {us:List Value} (i:Nat),Vals xs us->Vals (xs.set i x) (us.set i u)
 | _,_,_,.nil=>.nil
 | _,_,0,.cons _ t=>.cons r t
 | _,_,i+1,.cons q t=>.cons q (Vals.set r i t)
theorem Vals.append:∀{xs ys:List V} {us ws:List Value},Vals xs us->Vals ys ws->Vals (xs++ys) (us++ws)
 | _,_,_,_,.nil,s=>s
 | _,_,_,_,.cons r t,s=>.cons r (Vals.append t s)
theorem Vals.take:∀{xs:List V} {us:List Value} (n:Nat),Vals xs us->Vals (xs.take n) (us.take n)
 | _,_,0,_=>.nil
 | _,_,_+1,.nil=>.nil
 | _,_,n+1,.cons r t=>.cons r (Vals.take n t)
theorem Vals.drop:∀{xs:List V} {us:List Value} (n:Nat),Vals xs us->Vals (xs.drop n) (us.drop n)
 | _,_,0,r=>r
 | _,_,_+1,.nil=>.nil
 | _,_,n+1,.cons _ t=>Vals.drop n t
def pW:Option V->Option Value->Prop
 | some v,some u=>RelV v u
 | none,none=>True
 | _,_=>False
def KV{κ:Type}:List (κ×V)->List (κ×Value)->Prop:=Paired λ(p:κ×V) (q:κ×Value)=>p.1=q.1/\RelV p.2 q.2
def kV:Key->V
 | .inl i=>.int i
 | .inr x=>.str x
inductive HO where
 | lst (xs:List V)
 | tup (xs:List V)
 | dK (kvs:List (Key×V)) | dT (kvs:List (List Key×V))
 | set (S:Int->Bool) (n:Nat)
 | ins (C dx:Addr) (fs:List (Str×V))
 | own (x:Addr)
 | xd (fs:List (Str×V))
 | met (f x:Addr)
 | rng (lo hi:Int)
 | frz (o:Obj) (u:HO)
 | tbl (ps:Array Value)
 | ext (φ:Heap->Prop)
abbrev Hp:=Addr->Option HO
def upd(H:Hp)(a:Addr)(o:HO):Hp:=λb=>if b=a then some o else H b
theorem bZ{o:HO}:upd H a o a=some o:=by unfold upd;rw[if_pos rfl]
theorem aS{o:HO}(h:b≠a):upd H a o b=H b:=by unfold upd;rw[if_neg h]
theorem fv{o:HO}(h:H a=some o)(h':H b=none):a≠b:=by
 intro e;subst e;rw[h] at h';cases h'
section
variable (P : Program) (w : World)
def gv(H:Hp)(h:Heap)(a:Addr):HO->Prop
 | .lst xs=>xs.length<=sizeLine/\∃(U:List Value) (n:Nat),Vals xs U/\h.get? a=some {cls:=.type "list",data:=.seq U.toArray n}
 | .tup xs=>xs.length<=sizeLine/\∃U:List Value,Vals xs U/\IsTup h a U.toArray
 | .dK Y=>Y.length<=sizeLine/\(a == sysModules)=false/\∃vs,KV Y vs/\h.DictOf (xF P w) a vs
 | .dT Y=>Y.length<=sizeLine/\(a == sysModules)=false/\∃xs:List (List Key×Addr×Value),
  Paired (λ(p:List Key×V) (q:List Key×Addr×Value)=>p.1=q.1/\H q.2.1=some (.tup (p.1.map kV))/\RelV p.2 q.2.2) Y xs/\
  ∃o es ep,h.get? a=some o/\o.ExactDict/\o.data=.dict es ep/\es.toList=xs.map (entryOfKey (tupleKind (xF P w)))/\(xs.map (·.1)).Nodup
 | .set S n=>h.SetOf (intKind P w) a S n
 | .ins C dx fs=>H dx=some (.own a)/\fs.length<=1000/\dx≠a/\h.get? a=some (P9 C dx)/\
  ∃mA,h.Ns1 dx mA/\(∀f,pW (fs.lookup f) (mA f))/\Sj mA (fs.map (·.1))
 | .own _=>∃o,h.get? a=some o
 | .xd fs=>∃mA,h.Ns1 a mA/\∀f,pW (fs.lookup f) (mA f)
 | .rng lo hi=>∃t u v,h.get? a=some {cls:=.type "range",data:=.fields #[.int lo t,.int hi u,.int 1 v]}
 | .frz o u=>h.get? a=some o/\gv H h a u
 | .tbl ps=>h.get? a=some {cls:=.none,data:=.fields ps}
 | .met f x=>h.get? a=some (RB (.ref f) (.ref x))
 | .ext φ=>φ h/\(∃o,h.get? a=some o)/\∀h1 h2:Heap,φ h1->(∀o,h1.get? a=some o->h2.get? a=some o)->φ h2
def HOk(H:Hp)(h:Heap):Prop:=∀a o,H a=some o->gv P w H h a o
end
section
variable {P : Program} {w : World} {H H' : Hp} {h h' : Heap} {a : Addr} {o : HO}
theorem gv.lt(x:gv P w H h a o):a<h.objs.size:=by
 cases o with
 | lst xs=>obtain⟨_,_,_,_,e⟩:=x;exact Heap.lt_size e
 | tup xs=>obtain⟨_,_,_,p⟩:=x;exact p.lt
 | dK U=>obtain⟨_,_,_,_,o,_,_,e,_⟩:=x;exact Heap.lt_size e
 | dT U=>obtain⟨_,_,_,_,o,_,_,e,_⟩:=x;exact Heap.lt_size e
 | set S n=>obtain⟨o,_,_,_,e,_⟩:=x;exact Heap.lt_size e
 | ins C dx fs=>obtain⟨_,_,_,e,_⟩:=x;exact Heap.lt_size e
 | own y=>obtain⟨_,e⟩:=x;exact Heap.lt_size e
 | xd fs=>obtain⟨_,⟨_,_,_,e,_⟩,_⟩:=x;exact Heap.lt_size e
 | rng lo hi=>obtain⟨_,_,_,e⟩:=x;exact Heap.lt_size e
 | frz ob u=>obtain⟨e,_⟩:=x;exact Heap.lt_size e
 | tbl ps=>exact Heap.lt_size (show h.get? a=some _ from x)
 | met f y=>exact Heap.lt_size (show h.get? a=some _ from x)
 | ext φ=>obtain⟨_,⟨_,e⟩,_⟩:=x;exact Heap.lt_size e
theorem Paired.mapP{α β:Type}{F G:α->β->Prop}:∀{U:List α} {Y:List β},Paired F U Y->(∀a b,F a b->G a b)->Paired G U Y
 | _,_,.nil,_=>.nil
 | _,_,.cons r t,f=>.cons (f _ _ r) (Paired.mapP t f)
theorem gv.stay (x:gv P w H h a o) (k:∀b u,(b=a\/H b=some (.own a))->h.get? b=some u->h'.get? b=some u)
 (ho:∀b,H b=some (.own a)->H' b=some (.own a)) (ht:∀b xs,H b=some (.tup xs)->H' b=some (.tup xs)):gv P w H' h' a o:=by
 induction o with
 | lst xs=>obtain⟨z,Y,n,r,e⟩:=x;exact⟨z,Y,n,r,k _ _ (.inl rfl) e⟩
 | tup xs=>obtain⟨z,Y,r,ob,e,c⟩:=x;exact⟨z,Y,r,ob,k _ _ (.inl rfl) e,c⟩
 | dK ab=>obtain⟨z,y,vs,r,ob,es,U,e,c⟩:=x;exact⟨z,y,vs,r,ob,es,U,k _ _ (.inl rfl) e,c⟩
 | dT ab=>
  obtain⟨z,y,xs,r,ob,es,U,e,c⟩:=x
  exact⟨z,y,xs,Paired.mapP r λp q z=>⟨z.1,ht _ _ z.2.1,z.2.2⟩,ob,es,U,k _ _ (.inl rfl) e,c⟩
 | set S n=>obtain⟨ob,es,U,t,e,c⟩:=x;exact⟨ob,es,U,t,k _ _ (.inl rfl) e,c⟩
 | ins C dx fs=>
  obtain⟨d,z,ne,e,mA,⟨od,es,U,e2,c⟩,r⟩:=x
  exact⟨ho _ d,z,ne,k _ _ (.inl rfl) e,mA,⟨od,es,U,k _ _ (.inr d) e2,c⟩,r⟩
 | own y=>obtain⟨ob,e⟩:=x;exact⟨ob,k _ _ (.inl rfl) e⟩
 | xd fs=>obtain⟨mA,⟨od,es,U,e,c⟩,r⟩:=x;exact⟨mA,⟨od,es,U,k _ _ (.inl rfl) e,c⟩,r⟩
 | rng lo hi=>obtain⟨t,u,v,e⟩:=x;exact⟨t,u,v,k _ _ (.inl rfl) e⟩
 | frz ob u ih=>obtain⟨e,q⟩:=x;exact⟨k _ _ (.inl rfl) e,ih q⟩
 | tbl ps=>
  have e:h.get? a=some {cls:=.none,data:=.fields ps}:=x
  show h'.get? a=some {cls:=.none,data:=.fields ps}
  exact k a _ (.inl rfl) e
 | met f y=>
  have e:h.get? a=some (RB (.ref f) (.ref y)):=x
  show h'.get? a=some (RB (.ref f) (.ref y))
  exact k a _ (.inl rfl) e
 | ext φ=>obtain⟨p,⟨o,e⟩,st⟩:=x;exact⟨st _ _ p λo q=>k _ _ (.inl rfl) q,⟨o,k _ _ (.inl rfl) e⟩,st⟩
theorem HOk.lt(x:HOk P w H h)(e:H a=some o):a<h.objs.size:=(x a o e).lt
theorem HOk.fresh(x:HOk P w H h)(e:h.objs.size<=a):H a=none:=by
 cases q:H a with
 | none=>rfl
 | some u=>exact absurd (AT (x.lt q) e) (PH _)
theorem HOk.kept(x:HOk P w H h)(k:∀b u,h.get? b=some u->h'.get? b=some u):HOk P w H h':=λa o e=>
 (x a o e).stay (λb u _ q=>k b u q) (λ_ q=>q) λ_ _ q=>q
theorem HOk.laid(x:HOk P w H h)(k:∀b u,h.get? b=some u->h'.get? b=some u)(hp:h.objs.size<=a)(U:gv P w (upd H a o) h' a o):HOk P w (upd H a o) h':=λb u e=>by
 have hn:=x.fresh hp
 by_cases hb:b=a
 ·subst hb;rw[bZ] at e;cases e;exact U
 ·rw[aS hb] at e
  exact(x b u e).stay (λc v _ q=>k c v q) (λc q=>by rw[aS (fv q hn)];exact q) λc xs q=>by rw[aS (fv q hn)];exact q
end
def Rd(H:Hp)(a:Addr)(u:HO):Prop:=H a=some u\/∃o,H a=some (.frz o u)
theorem Rd.ok{u:HO}(r:Rd H a u)(x:HOk P w H h):gv P w H h a u:=by
 rcases r with r | ⟨o,r⟩
 ·exact x a u r
 ·obtain⟨_,q⟩:=x a _ r
  exact q
def Mut:Option HO->Prop
 | some (.lst _)=>True
 | some (.dK _)=>True
 | some (.dT _)=>True
 | some (.set _ _)=>True
 | some (.ins _ _ _)=>True
 | some (.ext _)=>True
 | _=>False
section
variable {P : Program} {w : World} {H : Hp} {h h' : Heap} {x e : Addr} {o' : HO}
theorem HOk.write (ok:HOk P w H h) (mu:Mut (H x)) (he:e=x\/H e=some (.own x)) (k:∀b u,b≠e->h.get? b=some u->h'.get? b=some u) (ae:∃u,h'.get? e=some u)
 (am:gv P w (upd H x o') h' x o'):HOk P w (upd H x o') h':=λb u q=>by
 have Y:∀c y,H c=some (.own y)->c≠x:=λc y r z=>by subst z;rw[r] at mu;exact mu
 have ab:∀c xs,H c=some (.tup xs)->c≠x:=λc xs r z=>by subst z;rw[r] at mu;exact mu
 by_cases hb:b=x
 ·subst hb;rw[bZ] at q;cases q;exact am
 ·rw[aS hb] at q
  by_cases U:b=e
  ·have q':H b=some (.own x):=by
    rcases he with z | z
    ·exact absurd (U.trans z) hb
    ·rw[U];exact z
   rw[q] at q';cases q'
   obtain⟨v,hv⟩:=ae
   exact⟨v,by rw[U];exact hv⟩
  ·refine(ok b u q).stay (λc v hc r=>k c v ?_ r) (λc r=>by rw[aS (Y c b r)];exact r) λc xs r=>by rw[aS (ab c xs r)];exact r
   rcases hc with rfl | hc
   ·exact U
   ·rintro rfl
    rcases he with z | z
    ·exact Y c b hc z
    ·rw[hc] at z;cases z;exact hb rfl
end
structure Un(fs ex:List Addr)(H H':Hp)(h h':Heap):Prop where
 keep:∀b o,h.get? b=some o->H b=none->b∉fs->b∉ex->h'.get? b=some o
 slot:∀b o,h.get? b=some o->H b=none->b∈fs->b∉ex->∃sl,h'.get? b=some {o with slots:=sl}
 free:∀b o,h.get? b=some o->H b=none->b∉ex->H' b=none
 there:∀b o,h.get? b=some o->b∉ex->∃o',h'.get? b=some o'
 tups:∀b xs,H b=some (.tup xs)->H' b=some (.tup xs)
 frzs:∀b o u,H b=some (.frz o u)->H' b=some (.frz o u)
 tbls:∀b ps,H b=some (.tbl ps)->∃more,H' b=some (.tbl (ps++more))
section
variable {fs fs' ex ex' : List Addr} {H H1 H2 : Hp} {h h1 h2 h' : Heap} {a x e : Addr} {o : HO}
theorem Un.any(u:Un fs ex H H1 h h1){ob:Obj}(q:h.get? b=some ob)(n:H b=none)(hx:b∉ex):∃U,h1.get? b=some {ob with slots:=U}:=by
 by_cases hb:b∈fs
 ·exact u.slot b ob q n hb hx
 ·exact⟨ob.slots,u.keep b ob q n hb hx⟩
theorem Un.kept(k:∀b u,h.get? b=some u->h'.get? b=some u):Un fs ex H H h h':=
 ⟨λb ob q _ _ _=>k b ob q,λb ob q _ _ _=>⟨ob.slots,k b ob q⟩,λ_ _ _ n _=>n,λb ob q _=>⟨ob,k b ob q⟩,λ_ _ q=>q,λ_ _ _ q=>q,λ_ ps q=>⟨#[],by rw[q];simp⟩⟩
theorem Un.refl:Un fs ex H H h h:=Un.kept λ_ _ q=>q
theorem Un.laid(k:∀b u,h.get? b=some u->h'.get? b=some u)(hp:h.objs.size<=a)(hn:H a=none):Un fs ex H (upd H a o) h h' where
 keep:=λb u q _ _ _=>k b u q
 slot:=λb u q _ _ _=>⟨u.slots,k b u q⟩
 free:=λb u q n _=>by rw[aS (Do (AT (Heap.lt_size q) hp))];exact n
 there:=λb u q _=>⟨u,k b u q⟩
 tups:=λb xs q=>by rw[aS (fv q hn)];exact q
 frzs:=λb u xs q=>by rw[aS (fv q hn)];exact q
 tbls:=λb ps q=>⟨#[],by rw[aS (fv q hn),q];simp⟩
theorem Un.write(Y:Mut (H x))(he:e=x\/H e=some (.own x))(k:∀b u,b≠e->h.get? b=some u->h'.get? b=some u)(ab:∃u,h'.get? e=some u):Un fs ex H (upd H x o) h h':=by
 have hx:∀b,H b=none->b≠x:=λb n z=>by subst z;rw[n] at Y;exact Y
 have hb:∀b,H b=none->b≠e:=λb n z=>by
  subst z
  rcases he with r | r
  ·exact hx b n r
  ·rw[n] at r;cases r
 have hm:∀b u,H b=some u->¬Mut (some u)->b≠x:=λb u q nm z=>by subst z;rw[q] at Y;exact nm Y
 refine⟨λb u q n _ _=>k b u (hb b n) q,λb u q n _ _=>⟨u.slots,k b u (hb b n) q⟩,λb u q n _=>by rw[aS (hx b n)];exact n,λb u q _=> ?_,
  λb xs q=>by rw[aS (hm b _ q λz=>z)];exact q,λb u xs q=>by rw[aS (hm b _ q λz=>z)];exact q,λb ps q=>⟨#[],by rw[aS (hm b _ q λz=>z),q];simp⟩⟩
 by_cases U:b=e
 ·subst U;exact ab
 ·exact⟨u,k b u U q⟩
end
def trk(h:Heap)(H:Hp):List Addr:=(u8 h.objs.size).filter λa=>(H a).isSome
def pK(h:Heap)(H:Hp):Heap:=PySem.W.hideAll h (trk h H)
theorem FH(h:Heap)(H:Hp):(pK h H).objs.size=h.objs.size:=PySem.W.hideAll_size _ _
theorem IA(e:h.get? b=some o)(n:H b=none):(pK h H).get? b=some o:=
 PySem.W.hideAll_get _ e λhm=>by
  have q:(H b).isSome=true:=(Fk.mp hm).2
  rw[n] at q;simp at q
theorem J6(e:(pK h H).get? b=some o):h.get? b=some o/\H b=none:=by
 have U:h.get? b=some o:=PySem.W.of_hideAll (trk h H) e
 refine⟨U, ?_⟩
 cases q:H b with
 | none=>rfl
 | some x=>
  have hm:b∈trk h H:=Fk.mpr ⟨Pm.mpr (Heap.lt_size U),by simp[q]⟩
  have z:(pK h H).get? b=none:=PySem.W.hideAll_none (trk h H) hm
  rw[z] at e;cases e
def KP(g h:Heap)(L:Addr):List (Addr×Obj):=(u8 h.objs.size).filterMap λa=>if a=L\/(g.get? a).isSome=true then none else (h.get? a).map λo=>(a,o)
def rest(g h:Heap)(L d:Addr):List (Addr×Obj):=(KP g h L).filter λp=>decide (p.1≠d)
structure Mod(K:sB)(mg:Str->Option Value)(base:Heap):Prop where
 kin:K.In base
 glob:base.Ns mainGlobals mg
 blt:∃mb,base.Ns builtinsNs mb/\∀x:Str,x≠"__name__" ->mb x=bootBuiltins x
 nolimit:base.NoLimit
 seer:base.NoSeer
structure Cx where
 prog:Program
 w:World
 K:sB
 mg:Str->Option Value
 base:Heap
 A:Around
 N:List Str
 s₀:Shared
 H₀:Hp
 env:Env
 outer:List Env
 stack:List Env
 ex:List Addr
 fn:Str->Bool
 calm:Bool
 pn:List (Addr×Obj)
 xe:Value->Shared->Prop
def frs(l:List Env):List Addr:=l.filterMap (·.frame)
abbrev Cx.fs(X:Cx):List Addr:=frs X.outer
def Vis(sc:Scope)(x:Str):Prop:=sc.names.lookup x=some .local\/sc.names.lookup x=some .cell\/sc.names.lookup x=some .free
def Loc(sc:Scope)(x:Str):Prop:=sc.names.lookup x=some .local\/sc.names.lookup x=some .cell
def Look(env:Env)(h:Heap)(m:Str->Option Value)(x:Str)(u:Value):Prop:=
 (env.kindOf x=some .local/\m x=some u)\/((env.kindOf x=some .cell\/env.kindOf x=some .free)/\∃c,env.cells.lookup x=some c/\h.IsCell c (some u))
structure Cx.Ok(X:Cx):Prop where
 mod:Mod X.K X.mg X.base
 kind:X.env.scope.kind=.function
 glob:X.env.globals=mainGlobals
 blt:X.env.builtins=builtinsNs
 above:X.s₀.heap.objs.size<=X.env.locals
 inj:∀x y c,X.env.cells.lookup x=some c->X.env.cells.lookup y=some c->x=y
 has:∀x,(X.env.kindOf x=some .cell\/X.env.kindOf x=some .free)->∃c,X.env.cells.lookup x=some c
 cab:∀x c,X.fn x=true->X.env.cells.lookup x=some c->X.s₀.heap.objs.size<=c
 hd:X.calm=true->X.A.handled=none
 frames:X.A.frames=some X.stack
 stk:X.stack=X.outer\/(X.stack=X.env::X.outer/\X.env.frame=some X.env.locals)
 exf:∀b∈X.ex,b≠X.env.locals/\∀x c,X.env.cells.lookup x=some c->c≠b
 bs:∀b o,X.base.get? b=some o->X.s₀.heap.get? b=some o/\X.H₀ b=none
 bsz:X.base.objs.size<=X.s₀.heap.objs.size
 noex:∀b o,X.base.get? b=some o->b∉X.ex
 exfs:∀b∈X.ex,b∉X.fs
 funs:X.s₀.heap.FunFrames X.base X.outer
 frf:∀b∈X.fs,X.H₀ b=none
structure Inv(X:Cx)(pins:List (Addr×Obj))(σ:List (Option V))(H:Hp)(s:Shared):Prop where
 ok:X.Ok
 os:s.os=X.s₀.os
 bare:AllBare s.gens
 base:Un X.fs X.ex X.H₀ H X.s₀.heap s.heap
 loc:∃m,s.heap.Ns X.env.locals m/\∀(i:Nat) (x:Str) (v:V),X.N[i]? =some x->σ[i]? =some (some v)->Vis X.env.scope x->∃u,RelV v u/\Look X.env s.heap m x u
 cell:∀x c,X.env.cells.lookup x=some c->∃v,s.heap.IsCell c v
 free:H X.env.locals=none
 freeC:∀x c,X.env.cells.lookup x=some c->H c=none
 pin:∀p∈X.pn++pins,s.heap.get? p.1=some p.2/\H p.1=none/\p.1≠X.env.locals/\p.1∉X.fs/\∀v,p.2.data≠ .cell v
 hok:HOk X.prog X.w H s.heap
 len:σ.length=X.N.length
section
variable {X : Cx} {pins : List (Addr × Obj)} {σ : List (Option V)} {H H' : Hp} {s : Shared} {h' : Heap}
theorem Cx.Ok.nofr(ok:X.Ok)(e:X.base.get? b=some o):b∉X.fs:=λhb=>by
 have:=(ok.funs.mem hb).1
 rw[e] at this;cases this
theorem Inv.bs(I:Inv X pins σ H s):∀b o,X.base.get? b=some o->s.heap.get? b=some o/\H b=none:=λb o e=>
 ⟨I.base.keep b o (I.ok.bs b o e).1 (I.ok.bs b o e).2 (I.ok.nofr e) (I.ok.noex b o e),I.base.free b o (I.ok.bs b o e).1 (I.ok.bs b o e).2 (I.ok.noex b o e)⟩
theorem Inv.bk(I:Inv X pins σ H s):∀b o,X.base.get? b=some o->s.heap.get? b=some o:=λb o e=>(I.bs b o e).1
theorem Inv.mod(I:Inv X pins σ H s):Mod X.K X.mg X.base:=I.ok.mod
theorem Inv.kIn(I:Inv X pins σ H s):X.K.In s.heap:=I.ok.mod.kin.keeps I.bk
theorem Inv.nolimit(I:Inv X pins σ H s):s.heap.NoLimit:=I.ok.mod.nolimit.keeps I.bk
theorem Inv.noseer(I:Inv X pins σ H s):s.heap.NoSeer:=I.ok.mod.seer.keeps I.bk
theorem Inv.lt(I:Inv X pins σ H s):X.env.locals<s.heap.objs.size:=let ⟨_,hn,_⟩:=I.loc;hn.lt
theorem Inv.sz(I:Inv X pins σ H s):X.s₀.heap.objs.size<=s.heap.objs.size:=Pk I.ok.above (Qj I.lt)
theorem Inv.nofs(I:Inv X pins σ H s)(h:s.heap.objs.size<=a):a∉X.fs:=λhb=>by
 obtain⟨_,o,U,_⟩:=I.ok.funs.mem hb
 exact absurd (AT (Heap.lt_size U) (Pk I.sz h)) (PH _)
theorem Inv.cne(I:Inv X pins σ H s):∀x c,X.env.cells.lookup x=some c->c≠X.env.locals:=λx c e z=>by
 obtain⟨v,o,ho,hd⟩:=I.cell x c e
 obtain⟨m,⟨o',es,ep,U,Y,_⟩,_⟩:=I.loc
 rw[z,U] at ho;cases ho;rw[Y] at hd;cases hd
theorem Inv.funs(I:Inv X pins σ H s):s.heap.FunFrames X.base X.outer:=by
 have all:∀(l:List Env),(∀b∈frs l,b∈X.fs)->X.s₀.heap.FunFrames X.base l->s.heap.FunFrames X.base l:=by
  intro l
  induction l with
  | nil=>intro _ _;trivial
  | cons env r ih=>
   intro hs hl
   obtain⟨hk,⟨L,o,U,hn,ho,hd⟩,hr⟩:=hl
   have Y:L∈X.fs:=hs L (by unfold frs;rw[PL,U];exact wv)
   obtain⟨sl,e⟩:=I.base.slot L o ho (I.ok.frf L Y) Y λz=>I.ok.exfs L z Y
   exact⟨hk,⟨L,_,U,hn,e,hd⟩,ih (λb hb=>hs b (by unfold frs;rw[PL,U];exact wh _ hb)) hr⟩
 exact all X.outer (λ_ hb=>hb) I.ok.funs
theorem Inv.stack(I:Inv X pins σ H s):s.heap.FunFrames X.base X.stack:=by
 rcases I.ok.stk with e | ⟨e,U⟩
 ·rw[e];exact I.funs
 ·rw[e]
  obtain⟨m,hn,_⟩:=I.loc
  refine .cons (by rw[I.ok.kind];decide) U hn ?_ I.funs
  exact Heap.get?_none_of_le (Pk I.ok.bsz I.ok.above)
theorem Inv.stkSub(I:Inv X pins σ H s):∀b∈frs X.stack,b∈X.env.locals::X.fs:=λb hb=>by
 rcases I.ok.stk with e | ⟨e,U⟩
 ·rw[e] at hb;exact wh _ hb
 ·rw[e] at hb
  unfold frs at hb
  rw[PL,U] at hb
  exact hb
theorem Inv.stkFree(I:Inv X pins σ H s):∀b∈frs X.stack,H b=none:=λb hb=>by
 rcases wT.mp (I.stkSub b hb) with e | hb
 ·rw[e];exact I.free
 ·obtain⟨_,o,U,_⟩:=I.ok.funs.mem hb
  exact I.base.free b o U (I.ok.frf b hb) λz=>I.ok.exfs b z hb
theorem Inv.step {g':Array GenState} {t':Nat} {d':Drawn} {ch:List Addr} (I:Inv X pins σ H s)
 (U:∀b∈ch,(b∈X.ex\/X.s₀.heap.objs.size<=b)/\b≠X.env.locals/\(∀x c,X.env.cells.lookup x=some c->c≠b)/\∀p∈X.pn++pins,p.1≠b)
 (keep:∀b o,b≠X.env.locals->b∉X.fs->b∉ch->s.heap.get? b=some o->H b=none->h'.get? b=some o)
 (slot:∀b o,b≠X.env.locals->b∈X.fs->b∉ch->s.heap.get? b=some o->H b=none->∃sl,h'.get? b=some {o with slots:=sl}) (free:∀b o,b∉ch->s.heap.get? b=some o->H b=none->H' b=none)
 (there:∀b o,b∉ch->s.heap.get? b=some o->∃o',h'.get? b=some o')
 (tups:∀b xs,H b=some (.tup xs)->H' b=some (.tup xs)) (frzs:∀b o u,H b=some (.frz o u)->H' b=some (.frz o u)) (tbls:∀b ps,H b=some (.tbl ps)->∃more,H' b=some (.tbl (ps++more)))
 (ns:∀m,s.heap.Ns X.env.locals m->h'.Ns X.env.locals m) (ap:HOk X.prog X.w H' h') (hg:AllBare g'):
 Inv X pins σ H' {s with heap:=h',gens:=g',drawn:=d',toks:=t'}:=by
 have am:∀b o,X.s₀.heap.get? b=some o->b≠X.env.locals:=λb o e=>Do (AT (Heap.lt_size e) I.ok.above)
 have ac:∀b o,X.s₀.heap.get? b=some o->b∉X.ex->b∉ch:=λb o e hx hb=>by
  rcases(U b hb).1 with z | z
  ·exact hx z
  ·exact absurd (AT (Heap.lt_size e) z) (PH _)
 have Y:∀x c,X.env.cells.lookup x=some c->∀v,s.heap.IsCell c v->h'.IsCell c v:=λx c e v ⟨o,ho,hd⟩=>by
  have ab:c∉ch:=λz=>(U c z).2.2.1 x c e rfl
  by_cases hc:c∈X.fs
  ·obtain⟨sl,q⟩:=slot c o (I.cne x c e) hc ab ho (I.freeC x c e)
   exact⟨_,q,hd⟩
  ·exact⟨o,keep c o (I.cne x c e) hc ab ho (I.freeC x c e),hd⟩
 refine⟨I.ok,I.os,hg,⟨λb o e n hb hx=> ?_,λb o e n hb hx=> ?_,λb o e n hx=> ?_,λb o e hx=> ?_,λb xs e=>tups b xs (I.base.tups b xs e),λb o xs e=>frzs b o xs (I.base.frzs b o xs e),λb ps e=> ?_⟩, ?_,λx c e=> ?_, ?_,λx c e=> ?_,λp hp=> ?_,ap,I.len⟩
 ·exact keep b o (am b o e) hb (ac b o e hx) (I.base.keep b o e n hb hx) (I.base.free b o e n hx)
 ·obtain⟨sl,e1⟩:=I.base.slot b o e n hb hx
  obtain⟨az,e2⟩:=slot b _ (am b o e) hb (ac b o e hx) e1 (I.base.free b o e n hx)
  exact⟨az,e2⟩
 ·obtain⟨o',e1⟩:=I.base.there b o e hx
  exact free b o' (ac b o e hx) e1 (I.base.free b o e n hx)
 ·obtain⟨o',e1⟩:=I.base.there b o e hx
  exact there b o' (ac b o e hx) e1
 ·obtain⟨m1,e1⟩:=I.base.tbls b ps e
  obtain⟨m2,e2⟩:=tbls b _ e1
  exact⟨m1++m2,by rw[e2,Array.append_assoc]⟩
 ·obtain⟨m,hn,hl⟩:=I.loc
  refine⟨m,ns m hn,λi x v e1 e2 e3=> ?_⟩
  obtain⟨u,r,l⟩:=hl i x v e1 e2 e3
  refine⟨u,r, ?_⟩
  rcases l with l | ⟨k,c,e,z⟩
  ·exact .inl l
  ·exact .inr ⟨k,c,e,Y x c e _ z⟩
 ·obtain⟨v,z⟩:=I.cell x c e
  exact⟨v,Y x c e v z⟩
 ·obtain⟨m,⟨o,_,_,ho,_⟩,_⟩:=I.loc
  exact free _ o (λz=>(U _ z).2.1 rfl) ho I.free
 ·obtain⟨v,o,ho,hd⟩:=I.cell x c e
  exact free c o (λz=>(U c z).2.2.1 x c e rfl) ho (I.freeC x c e)
 ·obtain⟨e,n,ne,nf,d⟩:=I.pin p hp
  have ab:p.1∉ch:=λz=>(U p.1 z).2.2.2 p hp rfl
  exact⟨keep p.1 p.2 ne nf ab e n,free p.1 p.2 ab e n,ne,nf,d⟩
theorem Inv.un(I:Inv X pins σ H s)(u:Un X.fs [] H H' s.heap h')(Y:HOk X.prog X.w H' h'):Inv X pins σ H' {s with heap:=h',toks:=t'}:=by
 obtain⟨m,⟨o,es,ep,ho,r⟩,_⟩:=id I.loc
 obtain⟨sl,hL⟩:=u.any ho I.free (by simp)
 exact I.step (g':=s.gens) (d':=s.drawn) (ch:=[]) (λ_ z=>nomatch z) (λb o _ hb _ e n=>u.keep b o e n hb (by simp)) (λb o _ hb _ e n=>u.slot b o e n hb (by simp)) (λb o _ e n=>u.free b o e n (by simp)) (λb o _ e=>u.there b o e (by simp)) u.tups u.frzs u.tbls (λm' hm=>by
  obtain⟨o',ab,ac,U,r'⟩:=hm
  rw[ho] at U;cases U
  exact⟨_,ab,ac,hL,r'⟩) Y I.bare
theorem Inv.call {g':Array GenState} {t':Nat} {d':Drawn} (I:Inv X pins σ H s) (u:Un (frs X.stack) ch H H' s.heap h') (ab:HOk X.prog X.w H' h') (hg:AllBare g')
 (U:∀b∈ch,(b∈X.ex\/X.s₀.heap.objs.size<=b)/\b≠X.env.locals/\(∀x c,X.env.cells.lookup x=some c->c≠b)/\∀p∈X.pn++pins,p.1≠b):
 Inv X pins σ H' {s with heap:=h',gens:=g',drawn:=d',toks:=t'}:=by
 obtain⟨m,⟨o,es,ep,ho,r⟩,_⟩:=id I.loc
 obtain⟨sl,hL⟩:=u.any ho I.free λz=>(U _ z).2.1 rfl
 exact I.step (ch:=ch) U (λb o hL hb hc e n=>u.keep b o e n (λz=>(wT.mp (I.stkSub b z)).elim hL hb) hc) (λb o _ _ hc e n=>u.any e n hc) (λb o hc e n=>u.free b o e n hc) (λb o hc e=>u.there b o e hc) u.tups u.frzs u.tbls (λm' hm=>by
  obtain⟨o',ae,am,Y,r'⟩:=hm
  rw[ho] at Y;cases Y
  exact⟨_,ae,am,hL,r'⟩) ab hg
theorem Inv.turned {t':Nat} {it:Addr} (I:Inv X pins σ H s) (k:∀b o,b≠it->s.heap.get? b=some o->h'.get? b=some o) (hn:H it=none) (Y:it≠X.env.locals)
 (h1:it∈X.ex\/X.s₀.heap.objs.size<=it) (h2:∀x c,X.env.cells.lookup x=some c->c≠it) (h3:∀p∈X.pn++pins,p.1≠it):Inv X pins σ H {s with heap:=h',toks:=t'}:=by
 have U:∀b u,H b=some u->b≠it:=λb u e z=>by rw[z,hn] at e;cases e
 refine I.step (g':=s.gens) (d':=s.drawn) (ch:=[it]) (λb hb=> ?_) (λb o _ _ hc e _=>k b o (λz=>hc (by simp[z])) e) (λb o _ _ hc e _=>⟨o.slots,k b o (λz=>hc (by simp[z])) e⟩) (λ_ _ _ _ n=>n)
  (λb o hc e=>⟨o,k b o (λz=>hc (by simp[z])) e⟩) (λ_ _ e=>e) (λ_ _ _ e=>e) (λb ps e=>⟨#[],by rw[e];simp⟩) (λm hm=> ?_) (λb u e=> ?_) I.bare
 ·have e:b=it:=by simpa using hb
  subst e
  exact⟨h1,Y,h2,h3⟩
 ·obtain⟨o,es,ep,ho,r⟩:=hm
  exact⟨o,es,ep,k _ o (P0 Y) ho,r⟩
 ·refine(I.hok b u e).stay (λc v hc q=>k c v ?_ q) (λ_ q=>q) λ_ _ q=>q
  rcases hc with z | z
  ·rw[z];exact U b u e
  ·exact U c _ z
theorem Inv.tok(I:Inv X pins σ H s)(t:Nat):Inv X pins σ H {s with toks:=t}:=I.un (h':=s.heap) (t':=t) Un.refl I.hok
theorem Inv.kept(I:Inv X pins σ H s)(k:∀b u,s.heap.get? b=some u->h'.get? b=some u):Inv X pins σ H {s with heap:=h',toks:=t'}:=I.un (Un.kept k) (I.hok.kept k)
theorem Inv.laid{o:HO}{t':Nat}(I:Inv X pins σ H s)(k:∀b u,s.heap.get? b=some u->h'.get? b=some u)(hp:s.heap.objs.size<=a)(U:gv X.prog X.w (upd H a o) h' a o):
 Inv X pins σ (upd H a o) {s with heap:=h',toks:=t'}:=I.un (Un.laid k hp (I.hok.fresh hp)) (I.hok.laid k hp U)
theorem Inv.write {x e:Addr} {o:HO} {t':Nat} (I:Inv X pins σ H s) (mu:Mut (H x)) (he:e=x\/H e=some (.own x)) (k:∀b u,b≠e->s.heap.get? b=some u->h'.get? b=some u) (U:∃u,h'.get? e=some u)
 (Y:gv X.prog X.w (upd H x o) h' x o):Inv X pins σ (upd H x o) {s with heap:=h',toks:=t'}:=I.un (Un.write mu he k U) (I.hok.write mu he k U Y)
theorem Inv.pins_of{U:List (Addr×Obj)}(I:Inv X pins σ H s)(h:∀p∈U,s.heap.get? p.1=some p.2/\H p.1=none/\p.1≠X.env.locals/\p.1∉X.fs/\∀v,p.2.data≠ .cell v):Inv X U σ H s:=
 ⟨I.ok,I.os,I.bare,I.base,I.loc,I.cell,I.free,I.freeC,λp hp=>(xz.mp hp).elim (λz=>I.pin p (Qu _ z)) (h p),I.hok,I.len⟩
theorem v9{N:List Str}(U:N.Nodup){i j:Nat}(a:N[i]? =some x)(b:N[j]? =some x):i=j:=by
 obtain⟨h1,e1⟩:=wP.mp a
 obtain⟨h2,e2⟩:=wP.mp b
 exact(SF U).mp (e1.trans e2.symm)
theorem ym {M:Model} {A:Around} {E:Value->Shared->Prop} {Q:Unit->Shared->Prop} (I:Inv X pins σ H s) (hN:X.N.Nodup) (hi:X.N[i]? =some x) (hx:Loc X.env.scope x) (r:RelV v u)
 (h:∀s',Inv X pins (σ.set i (some v)) H s'->(∃a,Heap.SameBut a s.heap s'.heap/\(a=X.env.locals\/X.env.cells.lookup x=some a))->Q () s') (hf:X.fn x=true\/X.env.scope.names.lookup x=some .local:=by first | exact .inl rfl | exact .inr rfl | assumption):wpAny M A (storeName X.env x u) Q E s:=by
 obtain⟨m,hn,hl⟩:=id I.loc
 have am:(X.env.scope.kind == .class||(X.env.scope.kind == .module&&X.env.locals != X.env.globals))=false:=by rw[I.ok.kind];rfl
 have an:i<σ.length:=by rw[I.len];exact(wP.mp hi).1
 have cne:=I.cne
 have Y:∀{a:Addr} {h':Heap},(∃o,s.heap.get? a=some o/\H a=none)->Heap.SameBut a s.heap h'->HOk X.prog X.w H h':=λ{a h'} ha U b ob e=>by
  obtain⟨_,_,ab⟩:=ha
  refine(I.hok b ob e).stay (λc w' hc q=>(U.2 c ?_).trans q) (λ_ q=>q) λ_ _ q=>q
  rintro rfl
  rcases hc with rfl | hc
  ·rw[ab] at e;cases e
  ·rw[ab] at hc;cases hc
 rcases hx with hk | hk
 ·refine wpAny_storeName_local hk hn (λh' a5 U=> ?_) am
  obtain⟨oL,_,_,bb,_⟩:=id hn
  refine h _ ⟨I.ok,I.os,I.bare,⟨λb o e n hb hx=> ?_,λb o e n hb hx=> ?_,I.base.free,λb o e hx=> ?_,I.base.tups,I.base.frzs,I.base.tbls⟩,⟨_,a5,λj y v' e1 e2 e3=> ?_⟩,λy c e=> ?_,I.free,I.freeC,λp hp=> ?_,Y ⟨oL,bb,I.free⟩ U,by simpa using I.len⟩ ⟨_,U,.inl rfl⟩
  ·exact(U.2 b (Do (AT (Heap.lt_size e) I.ok.above))).trans (I.base.keep b o e n hb hx)
  ·obtain⟨sl,e1⟩:=I.base.slot b o e n hb hx
   exact⟨sl,(U.2 b (Do (AT (Heap.lt_size e) I.ok.above))).trans e1⟩
  ·obtain⟨o',e1⟩:=I.base.there b o e hx
   exact⟨o',(U.2 b (Do (AT (Heap.lt_size e) I.ok.above))).trans e1⟩
  ·by_cases hj:j=i
   ·subst hj
    rw[hi] at e1;cases e1
    rw[Pe an] at e2
    cases e2
    exact⟨u,r,.inl ⟨hk,by simp⟩⟩
   ·rw[Pf (P0 hj)] at e2
    obtain⟨u',r',q⟩:=hl j y v' e1 e2 e3
    refine⟨u',r', ?_⟩
    rcases q with⟨k,e⟩ | ⟨k,c,e,z⟩
    ·refine .inl ⟨k, ?_⟩
     have:y≠x:=λe=>hj (v9 hN e1 (e▸hi))
     simp[this,e]
    ·exact .inr ⟨k,c,e,z.sameBut U (cne y c e)⟩
  ·obtain⟨w',z⟩:=I.cell y c e
   exact⟨w',z.sameBut U (cne y c e)⟩
  ·obtain⟨e,n,ne,nf,d⟩:=I.pin p hp
   exact⟨(U.2 p.1 ne).trans e,n,ne,nf,d⟩
 ·have ae:X.fn x=true:=by
   rcases hf with z | z
   ·exact z
   ·rw[z] at hk;cases hk
  obtain⟨c,hc⟩:=I.ok.has x (.inl hk)
  obtain⟨w',z⟩:=I.cell x c hc
  refine wpAny_storeName_cell I.ok.kind hk hc z (λh' ap U=> ?_)
  obtain⟨oc,az,a1⟩:=id z
  refine h {s with heap:=h'} ⟨I.ok,I.os,I.bare,⟨λb o e n hb hx=> ?_,λb o e n hb hx=> ?_,I.base.free,λb o e hx=> ?_,I.base.tups,I.base.frzs,I.base.tbls⟩,⟨m,hn.sameBut U (P0 (cne x c hc)),λj y v' e1 e2 e3=> ?_⟩,λy c' e=> ?_,I.free,I.freeC,λp hp=> ?_,Y ⟨oc,az,I.freeC x c hc⟩ U,by simpa using I.len⟩ ⟨c,U,.inr hc⟩
  ·exact(U.2 b (Do (AT (Heap.lt_size e) (I.ok.cab x c ae hc)))).trans (I.base.keep b o e n hb hx)
  ·obtain⟨sl,e1⟩:=I.base.slot b o e n hb hx
   exact⟨sl,(U.2 b (Do (AT (Heap.lt_size e) (I.ok.cab x c ae hc)))).trans e1⟩
  ·obtain⟨o',e1⟩:=I.base.there b o e hx
   exact⟨o',(U.2 b (Do (AT (Heap.lt_size e) (I.ok.cab x c ae hc)))).trans e1⟩
  ·by_cases hj:j=i
   ·subst hj
    rw[hi] at e1;cases e1
    rw[Pe an] at e2
    cases e2
    exact⟨u,r,.inr ⟨.inl hk,c,hc,ap⟩⟩
   ·rw[Pf (P0 hj)] at e2
    obtain⟨u',r',q⟩:=hl j y v' e1 e2 e3
    refine⟨u',r', ?_⟩
    rcases q with q | ⟨k,c',e,z'⟩
    ·exact .inl q
    ·refine .inr ⟨k,c',e,z'.sameBut U ?_⟩
     rintro rfl
     exact hj (v9 hN e1 (I.ok.inj _ _ _ e hc▸hi))
  ·by_cases a2:c'=c
   ·subst a2;exact⟨_,ap⟩
   ·obtain⟨w2,z2⟩:=I.cell y c' e
    exact⟨w2,z2.sameBut U a2⟩
  ·obtain⟨e,n,ne,nf,d⟩:=I.pin p hp
   refine⟨(U.2 p.1 ?_).trans e,n,ne,nf,d⟩
   intro q
   rw[q,az] at e
   have q':oc=p.2:=PR e
   exact d w' (by rw[<- q'];exact a1)
theorem qM {M:Model} {A:Around} {E:Value->Shared->Prop} {Q:Unit->Shared->Prop} (I:Inv X pins σ H s) (U:X.N.Nodup) (hi:X.N[i]? =some x) (hx:Loc X.env.scope x) (r:RelV v u)
 (h:∀s',Inv X pins (σ.set i (some v)) H s'->Q () s') (Y:X.fn x=true\/X.env.scope.names.lookup x=some .local:=by first | exact .inl rfl | exact .inr rfl | assumption):wpAny M A (storeName X.env x u) Q E s:=
 ym I U hi hx r (λs' I' _=>h s' I') Y
theorem Inv.call' {s':Shared} (I:Inv X pins σ H s) (ho:s'.os=s.os) (u:Un (frs X.stack) ch H H' s.heap s'.heap) (U:HOk X.prog X.w H' s'.heap) (hg:AllBare s'.gens)
 (Y:∀b∈ch,(b∈X.ex\/X.s₀.heap.objs.size<=b)/\b≠X.env.locals/\(∀x c,X.env.cells.lookup x=some c->c≠b)/\∀p∈X.pn++pins,p.1≠b):Inv X pins σ H' s':=by
 obtain⟨h',g',d',t',o'⟩:=s'
 have e:o'=s.os:=ho
 subst e
 exact I.call (g':=g') (t':=t') (d':=d') u U hg Y
end
abbrev XK:=Value->Option Addr->Hp->Prop
abbrev St:=List (Option V)
abbrev VK:=V->Hp->Prop
abbrev TE:=St->Hp->VK->Prop
abbrev TT:=St->Hp->(Bool->Hp->Prop)->Prop
abbrev TA:=St->Hp->(List V->Hp->Prop)->Prop
structure Ends where
 nx:St->Hp->Prop
 rt:VK
 bk:St->Hp->Prop:=λ_ _=>False
 ct:St->Hp->Prop:=λ_ _=>False
abbrev TS:=Ends->St->Hp->Prop
def EP(X:Cx)(pins:List (Addr×Obj))(σ:St)(Q:VK)(u:Value)(s':Shared):Prop:=∃v H',Inv X pins σ H' s'/\RelV v u/\Q v H'
def TP(X:Cx)(pins:List (Addr×Obj))(σ:St)(Q:Bool->Hp->Prop)(b:Bool)(s':Shared):Prop:=∃H',Inv X pins σ H' s'/\Q b H'
def AP(X:Cx)(pins:List (Addr×Obj))(σ:St)(Q:List V->Hp->Prop)(us:List Value)(s':Shared):Prop:=∃vs H',Inv X pins σ H' s'/\Vals vs us/\Q vs H'
def SP(X:Cx)(pins:List (Addr×Obj))(D:Ends)(f:Flow)(s':Shared):Prop:=
 match f with
 | .next=>∃U H',Inv X pins U H' s'/\D.nx U H'
 | .brk=>∃U H',Inv X pins U H' s'/\D.bk U H'
 | .cont=>∃U H',Inv X pins U H' s'/\D.ct U H'
 | .ret u=>∃v U H',Inv X pins U H' s'/\RelV v u/\D.rt v H'
def PE(X:Cx)(e:Expr)(t:TE):Prop:=
 ∀(pins:List (Addr×Obj)) (s:Shared) (σ:St) (H:Hp) (Q:VK),Inv X pins σ H s->t σ H Q->wpAny (model X.prog X.w) X.A (eval e X.env) (EP X pins σ Q) X.xe s
def PT(X:Cx)(e:Expr)(t:TT):Prop:=
 ∀(pins:List (Addr×Obj)) (s:Shared) (σ:St) (H:Hp) (Q:Bool->Hp->Prop),Inv X pins σ H s->t σ H Q->wpAny (model X.prog X.w) X.A (isTrue e X.env (eval e X.env)) (TP X pins σ Q) X.xe s
def PW(X:Cx)(e:Expr)(t:TT):Prop:=
 ∀(U:Sem Value) (pins:List (Addr×Obj)) (s:Shared) (σ:St) (H:Hp) (Q:Bool->Hp->Prop),Inv X pins σ H s->t σ H Q->wpAny (model X.prog X.w) X.A (isTrue e X.env U) (TP X pins σ Q) X.xe s
theorem PW.pt{t:TT}(h:PW X e t):PT X e t:=h _
def PA(X:Cx)(es:List Expr)(t:TA):Prop:=
 ∀(pos:Pos) (pins:List (Addr×Obj)) (s:Shared) (σ:St) (H:Hp) (Q:List V->Hp->Prop),Inv X pins σ H s->t σ H Q->wpAny (model X.prog X.w) X.A (spliced (backTo pos (starEach es X.env))) (AP X pins σ Q) X.xe s
def PS(X:Cx)(st:Stmt)(t:TS):Prop:=
 ∀(pins:List (Addr×Obj)) (s:Shared) (σ:St) (H:Hp) (D:Ends),Inv X pins σ H s->t D σ H->wpAny (model X.prog X.w) X.A (exec st X.env) (SP X pins D) X.xe s
def PSs(X:Cx)(st:List Stmt)(t:TS):Prop:=
 ∀(pins:List (Addr×Obj)) (s:Shared) (σ:St) (H:Hp) (D:Ends),Inv X pins σ H s->t D σ H->wpAny (model X.prog X.w) X.A (execs st X.env) (SP X pins D) X.xe s
theorem thn{α:Type}{t:Sem α}{Q U:α->Shared->Prop}(h:wpAny M A t Q E s)(Y:∀a s,Q a s->U a s):wpAny M A t U E s:=wpAny_mono h Y λ_ _ x=>x
section
variable {X : Cx}
theorem bin {a b:Expr} {ta tb:TE} (ha:PE X a ta) (hb:PE X b tb) {R:V->V->Hp->Prop} (I:Inv X pins σ H s) (h:ta σ H λx H1=>tb σ H1 λy H2=>R x y H2)
 {α:Type} {Q:α->Shared->Prop} {f:Value->Value->Sem α}
 (U:∀v u s2 x y H2,Inv X pins σ H2 s2->RelV x v->RelV y u->R x y H2->wpAny (model X.prog X.w) X.A (f v u) Q X.xe s2):
 wpAny (model X.prog X.w) X.A (eval a X.env) (λv Y=>wpAny (model X.prog X.w) X.A (eval b X.env) (λu s₂=>wpAny (model X.prog X.w) X.A (f v u) Q X.xe s₂) X.xe Y) X.xe s:=by
 refine thn (ha pins s σ H _ I h) λv s1 ⟨x,H1,I1,r1,q1⟩=> ?_
 refine thn (hb pins s1 σ H1 _ I1 q1) λu s2 ⟨y,H2,I2,r2,q2⟩=> ?_
 exact U v u s2 x y H2 I2 r1 r2 q2
def IP(i:Nat):TE:=λσ H Q=>∃v,σ[i]? =some (some v)/\Q v H
def tC(v:V):TE:=λ_ H Q=>Q v H
theorem Lx(hN:X.N[i]? =some x)(hv:Vis X.env.scope x)(hd:(x == ("__debug__" :Str))=false:=by decide)(ab:(x == ("__classdict__" :Str))=false:=by decide):PE X (.Name x pos) (IP i):=by
 intro pins s σ H Q I h
 obtain⟨v,e,h⟩:=h
 obtain⟨m,hn,hl⟩:=I.loc
 obtain⟨u,r,l⟩:=hl i x v hN e hv
 have Y:EP X pins σ Q u s:=⟨v,H,I,r,h⟩
 rcases l with⟨hk,hm⟩ | ⟨hk,c,hc,U⟩
 ·exact wpAny_Name (wpAny_loadName_local I.ok.kind hk hn hm Y) hd
 ·rcases hk with hk | hk
  ·exact wpAny_Name (wpAny_loadName_cell I.ok.kind hk hc U Y) hd
  ·exact wpAny_Name (wpAny_loadName_free I.ok.kind hk hc U Y ab) hd
theorem aE{i j pos}:PE X (.Constant (.int i) j pos) (tC (.int i)):=λ_ _ _ H _ I h=>wpAny_Constant_int ⟨.int i,H,I.tok _,⟨_,rfl⟩,h⟩
theorem zR{b j pos}:PE X (.Constant (.bool b) j pos) (tC (.bl b)):=λ_ _ _ H _ I h=>Constant_bool ⟨.bl b,H,I,rfl,h⟩
theorem LH{j pos}:PE X (.Constant .none j pos) (tC .non):=λ_ _ _ H _ I h=>Constant_none ⟨.non,H,I,rfl,h⟩
theorem dD{x j pos}:PE X (.Constant (.str x) j pos) (tC (.str x)):=λ_ _ _ H _ I h=>Calls.Constant_str ⟨.str x,H,I.tok _,⟨_,rfl⟩,h⟩
def Gl(X:Cx)(x:Str):Prop:=X.env.kindOf x=some .globalImplicit
theorem mw {E:Value->Shared->Prop} {pos:Pos} (I:Inv X pins σ H s) (U:Gl X x) (hm:X.mg x=some u) (h:Q u s)
 (hd:(x == ("__debug__" :Str))=false:=by decide):wpAny (model X.prog X.w) X.A (eval (.Name x pos) X.env) Q E s:=
 Calls.Name_function_global I.ok.kind U (Calls.loadGlobal_global (by rw[I.ok.glob];exact I.mod.glob.keeps I.bk) hm h) hd
theorem o6 {E:Value->Shared->Prop} {pos:Pos} (I:Inv X pins σ H s) (U:Gl X x) (hm:X.mg x=none) (Y:bootBuiltins x=some u) (h:Q u s)
 (hn:x≠"__name__" :=by decide) (hd:(x == ("__debug__" :Str))=false:=by decide):wpAny (model X.prog X.w) X.A (eval (.Name x pos) X.env) Q E s:=by
 obtain⟨mb,h1,h2⟩:=I.mod.blt
 exact Calls.Name_function_global I.ok.kind U (Calls.loadGlobal_builtin (by rw[I.ok.glob];exact I.mod.glob.keeps I.bk) hm (by rw[I.ok.blt];exact h1.keeps I.bk) ((h2 x hn).trans Y) h) hd
theorem eV(U:Gl X x)(hm:X.mg x=some u)(r:RelV v u)(hd:(x == ("__debug__" :Str))=false:=by decide):PE X (.Name x pos) (tC v):=
 λ_ _ _ H _ I h=>mw I U hm ⟨v,H,I,r,h⟩ hd
theorem qi(U:Gl X x)(hm:X.mg x=none)(Y:bootBuiltins x=some u)(r:RelV v u)(hn:x≠"__name__" :=by decide)(hd:(x == ("__debug__" :Str))=false:=by decide):PE X (.Name x pos) (tC v):=
 λ_ _ _ H _ I h=>o6 I U hm Y ⟨v,H,I,r,h⟩ hn hd
variable {a b : Expr} {ta tb : TE} {pos : Pos}
def PC(X:Cx)(op:CmpOp)(a b:Expr)(t:TE):Prop:=
 ∀(pins:List (Addr×Obj)) (s:Shared) (σ:St) (H:Hp) (Q:VK),Inv X pins σ H s->t σ H Q->
  wpAny (model X.prog X.w) X.A (eval a X.env) (λv U=>wpAny (model X.prog X.w) X.A (eval b X.env) (λu Y=>wpAny (model X.prog X.w) X.A (compareOp op v u) (EP X pins σ Q) X.xe Y) X.xe U) X.xe s
theorem HW(b:Expr)(h:op≠ .In)(h2:op≠ .NotIn):behindInMarks op b=false:=by
 have e1:(op == CmpOp.In)=false:=by cases op <;> first | rfl | exact absurd rfl h
 have e2:(op == CmpOp.NotIn)=false:=by cases op <;> first | rfl | exact absurd rfl h2
 cases b <;> simp[behindInMarks,e1,e2]
def tB(t:TE):TT:=λσ H Q=>t σ H λx H1=>∃c,x=.bl c/\Q c H1
theorem OW(h:PC X op a b t)(h1:behindInMarks op b=false:=by first | exact HW _ (by decide) (by decide) | rfl):PT X (.Compare a [op] [b] pos) (tB t):=by
 intro pins s σ H Q I U
 refine wpAny_isTrue_Compare1 (thn (h pins s σ H _ I U) λv s1 h1=>thn h1 λu s2 h2=>thn h2 λc s3 ⟨x,H1,I1,r1,q1⟩=> ?_) h1
 obtain⟨d,rfl,q⟩:=q1
 cases r1
 exact wpAny_truthy_bool ⟨H1,I1,q⟩
theorem gu(h:PE X e t)(Y:∀U,isTrue e X.env U=(do let v <- U;standAt e.pos;holding [v] (truthy v)):=by intro _;rfl):PT X e (tB t):=by
 intro pins s σ H Q I hw
 refine isTrue_plain (thn (h pins s σ H _ I hw) λv s1 ⟨x,H1,I1,r1,q1⟩=> ?_) (Y _)
 obtain⟨d,rfl,q⟩:=q1
 cases r1
 exact wpAny_truthy_bool ⟨H1,I1,q⟩
variable {tA tB' : TT} {rest : List Expr}
def Lr(t u:TT):TT:=λσ H Q=>t σ H λc H1=>if c=true then u σ H1 Q else Q false H1
def tOr(t u:TT):TT:=λσ H Q=>t σ H λc H1=>if c=true then Q true H1 else u σ H1 Q
def MJ(t:TT):TT:=λσ H Q=>t σ H λc H1=>Q (!c) H1
theorem pw_and1(ha:PT X a tA):PW X (.BoolOp .And [a] pos) tA:=by
 intro U pins s σ H Q I h
 refine isTrue_and (thn (ha pins s σ H Q I h) λc s1 e=> ?_)
 cases c with
 | true=>exact isTrue_and_nil e
 | false=>exact e
theorem pw_or1(ha:PT X a tA):PW X (.BoolOp .Or [a] pos) tA:=by
 intro U pins s σ H Q I h
 refine isTrue_or (thn (ha pins s σ H Q I h) λc s1 e=> ?_)
 cases c with
 | false=>exact isTrue_or_nil e
 | true=>exact e
theorem pw_and(ha:PT X a tA)(hb:PW X (.BoolOp .And (b::rest) pos) tB'):PW X (.BoolOp .And (a::b::rest) pos) (Lr tA tB'):=by
 intro U pins s σ H Q I h
 refine isTrue_and (thn (ha pins s σ H _ I h) λc s1 ⟨H1,I1,q1⟩=> ?_)
 cases c with
 | true=>exact hb U pins s1 σ H1 Q I1 q1
 | false=>exact⟨H1,I1,q1⟩
theorem pw_or(ha:PT X a tA)(hb:PW X (.BoolOp .Or (b::rest) pos) tB'):PW X (.BoolOp .Or (a::b::rest) pos) (tOr tA tB'):=by
 intro U pins s σ H Q I h
 refine isTrue_or (thn (ha pins s σ H _ I h) λc s1 ⟨H1,I1,q1⟩=> ?_)
 cases c with
 | true=>exact⟨H1,I1,q1⟩
 | false=>exact hb U pins s1 σ H1 Q I1 q1
theorem o4(ha:PT X a tA):PT X (.UnaryOp .Not a pos) (MJ tA):=by
 intro pins s σ H Q I h
 exact isTrue_not (ha pins s σ H (λc H1=>Q (!c) H1) I h)
def I0(ta tb:TE):TE:=λσ H Q=>ta σ H λx H1=>∃c,x=.bl c/\if c=true then tb σ H1 Q else Q (.bl false) H1
def Jd(ta:TE):TE:=λσ H Q=>ta σ H λx H1=>∃c,x=.bl c/\Q (.bl (!c)) H1
theorem LM{op}(h:PE X a t):PE X (.BoolOp op [a] pos) t:=λpins s σ H Q I U=>BoolOp_one (h pins s σ H Q I U)
theorem Lo(ha:PE X a ta)(hb:PE X (.BoolOp .And (b::rest) pos) tb):PE X (.BoolOp .And (a::b::rest) pos) (I0 ta tb):=by
 intro pins s σ H Q I h
 refine BoolOp_and (thn (ha pins s σ H _ I h) λv s1 ⟨x,H1,I1,r1,q1⟩=> ?_)
 obtain⟨c,rfl,q1⟩:=q1
 cases r1
 refine wpAny_truthy_bool ?_
 cases c with
 | true=>exact hb pins s1 σ H1 Q I1 q1
 | false=>exact⟨.bl false,H1,I1,rfl,q1⟩
theorem L6(ha:PE X a ta):PE X (.UnaryOp .Not a pos) (Jd ta):=by
 intro pins s σ H Q I h
 refine UnaryOp_ (thn (ha pins s σ H _ I h) λv s1 ⟨x,H1,I1,r1,q1⟩=> ?_)
 obtain⟨c,rfl,q1⟩:=q1
 cases r1
 exact not_of (wpAny_truthy_bool ⟨.bl (!c),H1,I1,rfl,q1⟩)
end
def SqL(K:sB)(H:Hp)(a:Addr)(xs:List V):Prop:=
 Rd H a (.lst xs)\/
  ∃(o:Obj) (U:Array Value) (n:Nat),K.lookup a=some o/\o.cls=.type "list" /\o.dict=none/\o.data=.seq U n/\U.size<=sizeLine/\Vals xs U.toList
def SqT(K:sB)(H:Hp)(a:Addr)(xs:List V):Prop:=
 Rd H a (.tup xs)\/
  ∃(o:Obj) (U:Array Value) (n:Nat),K.lookup a=some o/\o.cls=.type "tuple" /\o.data=.seq U n/\U.size<=sizeLine/\Vals xs U.toList
def NF:Value->Option V
 | .none=>some .non
 | .bool b=>some (.bl b)
 | .int i _=>some (.int i)
 | .str x _=>some (.str x)
 | .bytes b _=>some (.byt b)
 | .float b _=>some (.flt b)
 | .ref a=>some (.ref a)
 | .type n=>some (.ty n)
 | _=>none
theorem RelV.abs{x:V}(r:RelV x u):NF u=some x:=by
 cases x with
 | non=>cases r;rfl
 | bl _=>cases r;rfl
 | int _=>obtain⟨t,rfl⟩:=r;rfl
 | str _=>obtain⟨t,rfl⟩:=r;rfl
 | byt _=>obtain⟨t,rfl⟩:=r;rfl
 | flt _=>obtain⟨t,rfl⟩:=r;rfl
 | ref _=>cases r;rfl
 | ty _=>cases r;rfl
theorem RelV.inj{x y:V}(r:RelV x u)(q:RelV y u):x=y:=PR (r.abs.symm.trans q.abs)
theorem Vals.inj:∀{xs ys:List V} {us:List Value},Vals xs us->Vals ys us->xs=ys
 | _,_,_,.nil,.nil=>rfl
 | _,_,_,.cons r t,.cons r' t'=>by rw[r.inj r',Vals.inj t t']
section
variable {X : Cx} {pins : List (Addr × Obj)} {σ : St} {H : Hp} {s : Shared} {a : Addr} {xs ys : List V}
theorem SqL.of(h:H a=some (.lst xs)):SqL K H a xs:=.inl (.inl h)
theorem SqT.of(h:H a=some (.tup xs)):SqT K H a xs:=.inl (.inl h)
theorem Inv.list(I:Inv X pins σ H s)(h:SqL X.K H a xs):∃U:List Value,Vals xs U/\PlainL s.heap a U.toArray/\xs.length<=sizeLine:=by
 rcases h with h | ⟨o,U,n,hk,hc,hd,Y,hz,r⟩
 ·obtain⟨z,U,n,r,e⟩:=h.ok I.hok
  exact⟨U,r,⟨_,n,e,rfl,rfl,rfl⟩,z⟩
 ·refine⟨U.toList,r,⟨o,n,I.kIn a o hk,hc,hd,by simpa using Y⟩, ?_⟩
  have e:=r.length
  simp only[Rj] at e
  omega
theorem Inv.tuple(I:Inv X pins σ H s)(h:SqT X.K H a xs):∃U:List Value,Vals xs U/\IsTup s.heap a U.toArray/\xs.length<=sizeLine:=by
 rcases h with h | ⟨o,U,n,hk,hc,Y,hz,r⟩
 ·obtain⟨z,U,r,p⟩:=h.ok I.hok
  exact⟨U,r,p,z⟩
 ·refine⟨U.toList,r,⟨o,I.kIn a o hk,hc,n,by simpa using Y⟩, ?_⟩
  have e:=r.length
  simp only[Rj] at e
  omega
theorem Inv.list_inj(I:Inv X pins σ H s)(h:SqL X.K H a xs)(h':SqL X.K H a ys):xs=ys:=by
 obtain⟨Y,r,⟨o,n,e,_,_,d⟩,_⟩:=I.list h
 obtain⟨U,r',⟨o',n',e',_,_,d'⟩,_⟩:=I.list h'
 rw[e] at e';cases e'
 rw[d] at d'
 injection d' with d1 _
 have:Y=U:=by simpa using congrArg Array.toList d1
 subst this
 exact r.inj r'
end
abbrev Cx.wish(X:Cx)(E:Value->Shared->Prop):Cx:={X with xe:=E}
abbrev Cx.nox(X:Cx):Cx:=X.wish λ_ _=>False
theorem Cx.Ok.wish(ok:X.Ok)(E:Value->Shared->Prop):(X.wish E).Ok:=
 ⟨ok.mod,ok.kind,ok.glob,ok.blt,ok.above,ok.inj,ok.has,ok.cab,ok.hd,ok.frames,ok.stk,ok.exf,ok.bs,ok.bsz,ok.noex,ok.exfs,ok.funs,ok.frf⟩
theorem Cx.Ok.unwish(ok:(X.wish E).Ok):X.Ok:=
 ⟨ok.mod,ok.kind,ok.glob,ok.blt,ok.above,ok.inj,ok.has,ok.cab,ok.hd,ok.frames,ok.stk,ok.exf,ok.bs,ok.bsz,ok.noex,ok.exfs,ok.funs,ok.frf⟩
section
variable {X : Cx} {pins : List (Addr × Obj)} {σ : St} {H : Hp} {s : Shared} {E : Value → Shared → Prop}
theorem Inv.wish(I:Inv X pins σ H s)(E:Value->Shared->Prop):Inv (X.wish E) pins σ H s:=⟨I.ok.wish E,I.os,I.bare,I.base,I.loc,I.cell,I.free,I.freeC,I.pin,I.hok,I.len⟩
theorem Inv.unwish(I:Inv (X.wish E) pins σ H s):Inv X pins σ H s:=⟨I.ok.unwish,I.os,I.bare,I.base,I.loc,I.cell,I.free,I.freeC,I.pin,I.hok,I.len⟩
theorem SP.unwish{D:Ends}{f:Flow}{s':Shared}(h:SP (X.wish E) pins D f s'):SP X pins D f s':=by
 cases f with
 | next=>obtain⟨U,H',I,q⟩:=h;exact⟨U,H',I.unwish,q⟩
 | brk=>obtain⟨U,H',I,q⟩:=h;exact⟨U,H',I.unwish,q⟩
 | cont=>obtain⟨U,H',I,q⟩:=h;exact⟨U,H',I.unwish,q⟩
 | ret u=>obtain⟨v,U,H',I,r,q⟩:=h;exact⟨v,U,H',I.unwish,r,q⟩
theorem PSs.nox{st:List Stmt}{t:TS}(h:PSs X.nox st t):PSs X st t:=λpins s σ H D I U=>
 wpAny_mono (h pins s σ H D (I.wish _) U) (λ_ _ q=>q.unwish) λ_ _ z=>ss z
end
section
variable {X : Cx} {st : Stmt} {rest : List Stmt} {t u : TS} {e : Expr} {te : TE} {pos : Pos}
def Jb:TS:=λD σ H=>D.nx σ H
def MO(t u:TS):TS:=λD σ H=>t {D with nx:=u D} σ H
theorem bA:PSs X [] Jb:=λ_ _ σ H _ I h=>wpAny_execs_nil ⟨σ,H,I,h⟩
theorem aD(h1:PS X st t)(h2:PSs X rest u):PSs X (st::rest) (MO t u):=by
 intro pins s σ H D I h
 refine wpAny_execs_cons (thn (h1 pins s σ H {D with nx:=u D} I h) λf s1 q=> ?_)
 cases f with
 | next=>
  obtain⟨U,H',Y,q⟩:=q
  exact h2 pins s1 U H' D Y q
 | ret v=>exact q
 | brk=>exact q
 | cont=>exact q
theorem aI(h1:PS X st t):PSs X [st] t:=by
 intro pins s σ H D I h
 refine wpAny_execs_cons (thn (h1 pins s σ H D I h) λf s1 q=> ?_)
 cases f with
 | next=>exact wpAny_execs_nil q
 | ret v=>exact q
 | brk=>exact q
 | cont=>exact q
theorem Inv.quiet(I:Inv X pins σ H s):interactive X.env=false:=by simp[interactive,I.ok.kind]
def Jt(te:TE):TS:=λD σ H=>te σ H λ_ H1=>D.nx σ H1
theorem cV(U:PE X e te)(Y:swapsWith e none pos.line X.env=pure false:=by rfl):PS X (.Expr e pos) (Jt te):=by
 intro pins s σ H D I h
 exact wpAny_Expr_any (thn (U pins s σ H _ I h) λv s1 ⟨x,H1,I1,r1,q1⟩=>⟨σ,H1,I1,q1⟩) I.quiet Y
def LF(te:TE):TS:=λD σ H=>te σ H D.rt
theorem bu(U:PE X e te):PS X (.Return (some e) pos) (LF te):=by
 intro pins s σ H D I h
 exact wpAny_Return_some (thn (U pins s σ H _ I h) λv s1 ⟨x,H1,I1,r1,q1⟩=>⟨x,σ,H1,I1,r1,q1⟩)
def Ms(c:TT)(t u:TS):TS:=λD σ H=>c σ H λb H1=>if b=true then t D σ H1 else u D σ H1
theorem cq{c:Expr}{a b:List Stmt}{tc:TT}(hc:PT X c tc)(ha:PSs X a t)(hb:PSs X b u):PS X (.If c a b pos) (Ms tc t u):=by
 intro pins s σ H D I h
 refine wpAny_If (thn (hc pins s σ H _ I h) λd s1 ⟨H1,I1,q1⟩=> ?_)
 cases d with
 | true=>exact ha pins s1 σ H1 D I1 q1
 | false=>exact hb pins s1 σ H1 D I1 q1
def EA:TS:=λ_ _ _=>False
theorem fV:PS X st EA:=λ_ _ _ _ _ _ h=>h.elim
end
abbrev TG:=V->St->Hp->(St->Hp->Prop)->Prop
abbrev TGs:=List V->St->Hp->(St->Hp->Prop)->Prop
def PG(X:Cx)(U:Expr)(t:TG):Prop:=
 ∀(pins:List (Addr×Obj)) (s:Shared) (σ:St) (H:Hp) (v:V) (u:Value) (Q:St->Hp->Prop),Inv X pins σ H s->RelV v u->t v σ H Q->
  wpAny (model X.prog X.w) X.A (assign U X.env u) (λ_ s'=>∃Y H',Inv X pins Y H' s'/\Q Y H') X.xe s
def PGs(X:Cx)(ts:List Expr)(t:TGs):Prop:=
 ∀(pins:List (Addr×Obj)) (s:Shared) (σ:St) (H:Hp) (vs:List V) (us:List Value) (Q:St->Hp->Prop),Inv X pins σ H s->Vals vs us->t vs σ H Q->
  wpAny (model X.prog X.w) X.A (assignInOrder ((assignEach ts X.env).map (·.2)) us) (λ_ s'=>∃U H',Inv X pins U H' s'/\Q U H') X.xe s
abbrev GL:=V->V->V->Hp->(Hp->Prop)->Prop
def LA(X:Cx)(t:GL):Prop:=
 ∀(pins:List (Addr×Obj)) (s:Shared) (σ:St) (H:Hp) (o i v:V) (U Y u:Value) (Q:Hp->Prop),Inv X pins σ H s->RelV o U->RelV i Y->RelV v u->t o i v H Q->
  wpAny (model X.prog X.w) X.A (setItem U Y u) (λ_ s'=>∃H',Inv X pins σ H' s'/\Q H') X.xe s
section
variable {X : Cx} {pos : Pos}
def uB(i:Nat):TG:=λv σ H Q=>Q (σ.set i (some v)) H
theorem aU(U:X.N.Nodup)(hi:X.N[i]? =some x)(hx:Loc X.env.scope x)(Y:X.fn x=true\/X.env.scope.names.lookup x=some .local:=by first | exact .inl rfl | exact .inr rfl | assumption):PG X (.Name x pos) (uB i):=by
 intro pins s σ H v u Q I r h
 exact wpAny_assign_Name (qM I U hi hx r (λs' I'=>⟨_,H,I',h⟩) Y)
def Mr:TGs:=λvs σ H Q=>vs=[]/\Q σ H
def IY(t:TG)(u:TGs):TGs:=λvs σ H Q=>∃v r,vs=v::r/\t v σ H λU H'=>u r U H' Q
theorem fM:PGs X [] Mr:=by
 intro pins s σ H vs us Q I r h
 obtain⟨e,h⟩:=h
 subst e
 cases r
 exact assignInOrder_nil ⟨σ,H,I,h⟩
theorem bO {es:List Expr} {t:TG} {u:TGs} (h1:PG X e t) (h2:PGs X es u)
 (U:(assignEach (e::es) X.env).map (·.2)=assign e X.env::(assignEach es X.env).map (·.2):=by rfl):PGs X (e::es) (IY t u):=by
 intro pins s σ H vs us Q I r h
 obtain⟨v,vr,e1,h⟩:=h
 subst e1
 cases r with
 | cons r Y=>
  rw[U]
  refine assignInOrder_cons (thn (h1 pins s σ H _ _ _ I r h) λ_ s1 ⟨σ1,H1,I1,q1⟩=> ?_)
  exact h2 pins s1 σ1 H1 _ _ Q I1 Y q1
def Mi(K:sB)(n:Nat)(t:TGs):TG:=λv σ H Q=>∃a xs,v=.ref a/\SqT K H a xs/\xs.length=n/\t xs σ H Q
theorem gJ {es:List Expr} {k:Nat} {t:TGs} {n:Nat} (hc:X.calm=true) (h:PGs X es t)
 (hn:(assignEach es X.env).length=n:=by rfl) (U:(assignEach es X.env).findIdx? (·.1)=none:=by rfl):PG X (.Tuple es k pos) (Mi X.K n t):=by
 intro pins s σ H v u Q I r Y
 obtain⟨a,xs,e1,hq,hl,Y⟩:=Y
 subst e1
 cases r
 obtain⟨ae,rv,ht,hz⟩:=I.tuple hq
 refine assign_Tuple_tuple (I.ok.hd hc) ht (by simp[hn,<- hl,rv.length]) U λh' hx=> ?_
 have I1:Inv X pins σ H {s with heap:=h'}:=I.kept (t':=s.toks) λb o e=>hx b o (Do (Heap.lt_size e)) e
 exact h pins _ σ H xs _ Q I1 (by simpa using rv) Y
def Mp(to U:TE)(t:GL):TG:=λv σ H Q=>to σ H λo H1=>U σ H1 λi H2=>t o i v H2 λY=>Q σ Y
theorem Gj {o i:Expr} {to ti:TE} {t:GL} (ho:PE X o to) (hi:PE X i ti) (hs:LA X t)
 (ha:∀v,assign (.Subscript o i pos) X.env v=(do
  let U <- holding [v] (eval o X.env)
  let Y <- holding [v,U] (eval i X.env)
  standAt pos
  holding [v,U,Y] (setItem U Y v)
  release [v,U,Y] []):=by intro _;rfl):PG X (.Subscript o i pos) (Mp to ti t):=by
 intro pins s σ H v u Q I r h
 rw[ha]
 refine wpAny_bind (wpAny_holding (thn (ho pins s σ H _ I h) λU s1 ⟨x,H1,I1,r1,q1⟩=> ?_))
 refine wpAny_bind (wpAny_holding (thn (hi pins s1 σ H1 _ I1 q1) λY s2 ⟨y,H2,I2,r2,q2⟩=> ?_))
 refine wpAny_bind (wpAny_standAt (wpAny_bind (wpAny_holding (thn (hs pins s2 σ H2 x y v U Y u _ I2 r1 r2 r q2) λ_ s3 ⟨H3,I3,q3⟩=> ?_))))
 exact wpAny_release ⟨σ,H3,I3,q3⟩
def zX(te:TE)(g:TG):TS:=λD σ H=>te σ H λx H1=>g x σ H1 D.nx
theorem Ah {g:TG} (U:PE X e te) (Y:PG X tg g) (hs:swapsWithSole [tg] e pos.line X.env=pure false:=by rfl) (hw:swappedStores [tg] e X.env=pure none:=by rfl)
 (h1:(assignEach [tg] X.env).map (·.2)=[assign tg X.env]:=by rfl):PS X (.Assign [tg] e pos) (zX te g):=by
 intro pins s σ H D I h
 refine wpAny_Assign_stores (thn (U pins s σ H _ I h) λv s1 ⟨x,H1,I1,r1,q1⟩=> ?_) hs hw
 rw[h1]
 exact thn (Y pins s1 σ H1 x v _ I1 r1 q1) λ_ s2 q=>q
theorem ba{pos':Pos}(U:X.N.Nodup)(hi:X.N[i]? =some x)(hx:Loc X.env.scope x)(Y:PE X e te)(hs:swapsWith e (some (.Name x pos')) pos.line X.env=pure false:=by rfl)(hf:X.fn x=true\/X.env.scope.names.lookup x=some .local:=by first | exact .inl rfl | exact .inr rfl | assumption):
 PS X (.Assign [.Name x pos'] e pos) (zX te (uB i)):=by
 intro pins s σ H D I h
 refine wpAny_Assign_Name (thn (Y pins s σ H _ I h) λv s1 ⟨y,H1,I1,r1,q1⟩=> ?_) hs
 exact qM I1 U hi hx r1 (λs2 I2=>⟨_,H1,I2,q1⟩) hf
end
section
variable {X : Cx} {pos : Pos}
def Gh(c:TT)(tb:TS):TS:=λD σ H=>∃W:Nat->St->Hp->Prop,(∃m,W m σ H)/\∀m σ H,W m σ H->
 c σ H λb H1=>if b=true then ∃N:St->Hp->Prop,(∀U H',N U H'->∃Y,Y<m/\W Y U H')/\tb {D with nx:=N,ct:=N,bk:=D.nx} σ H1 else D.nx σ H1
theorem GV{c:Expr}{tc:TT}{tb:TS}(hp:PassesOwn (model X.prog X.w) X.A X.env X.xe)(hc:PT X c tc)(hb:PSs X body tb):PS X (.While c body [] pos) (Gh tc tb):=by
 intro pins s σ H D I h
 obtain⟨W,⟨m0,w0⟩,U⟩:=h
 refine wpAny_While (codeAny_whileLoop (λn s'=>∃σ' H',Inv X pins σ' H' s'/\W n σ' H') ?_ m0 ⟨σ,H,I,w0⟩)
 rintro n s1 ⟨σ1,H1,I1,w1⟩
 refine wpAny_passesOwn hp (thn (hc pins s1 σ1 H1 _ I1 (U n σ1 H1 w1)) λb s2 ⟨H2,I2,q2⟩=> ?_)
 cases b with
 | true=>
  obtain⟨N,hN,q2⟩:=q2
  rw[if_pos rfl]
  refine wpAny_passesOwn hp (thn (hb pins s2 σ1 H2 _ I2 q2) λf s3 q3=> ?_)
  cases f with
  | next=>
   obtain⟨Y,H3,I3,n3⟩:=q3
   obtain⟨m',hm,w3⟩:=hN Y H3 n3
   exact⟨m',hm,Y,H3,I3,w3⟩
  | cont=>
   obtain⟨Y,H3,I3,n3⟩:=q3
   obtain⟨m',hm,w3⟩:=hN Y H3 n3
   exact⟨m',hm,Y,H3,I3,w3⟩
  | brk=>exact q3
  | ret v=>exact q3
 | false=>
  rw[if_neg x0]
  exact wpAny_execs_nil ⟨σ1,H2,I2,q2⟩
end
structure It where
 go:Nat->Hp->Prop
 yld:Nat->Hp->V->Hp->Prop
 stop:Nat->Hp->Prop
def lS(X:Cx)(pins:List (Addr×Obj))(H:Hp)(b:Addr):Prop:=
 H b=none/\b≠X.env.locals/\b∉X.fs/\(b∈X.ex\/X.s₀.heap.objs.size<=b)/\(∀x c,X.env.cells.lookup x=some c->c≠b)/\∀p∈X.pn++pins,p.1≠b
theorem Inv.fpOk{H H':Hp}(I:Inv X pins σ H s)(hb:s.heap.objs.size<=b)(hn:H' b=none):lS X pins H' b:=by
 refine⟨hn,QT (AT I.lt hb),I.nofs hb,.inr (Pk I.sz hb),λx c e z=> ?_,λp hp z=> ?_⟩
 ·obtain⟨v,q⟩:=I.cell x c e
  exact absurd (AT q.lt (by rw[z];exact hb)) (PH _)
 ·exact absurd (AT (Heap.lt_size (I.pin p hp).1) (by rw[z];exact hb)) (PH _)
structure Turn(P:Program)(w:World)(K:sB)(tg:Expr)(J:It)(fp:List Addr)(it:Addr)(tn:Nat->Heap->Prop):Prop where
 mem:it∈fp
 obj:∀i h,tn i h->∀b∈fp,∃o,h.get? b=some o/\∀v,o.data≠ .cell v
 keep:∀i h h',tn i h->(∀b∈fp,∀o,h.get? b=some o->h'.get? b=some o)->tn i h'
 item:∀(X:Cx),X.prog=P->X.w=w->X.K=K->X.calm=true->∀(i:Nat) (pins:List (Addr×Obj)) (s:Shared) (σ:St) (H:Hp) (E:Value->Shared->Prop),Inv X pins σ H s->(∀b∈fp,lS X pins H b)->tn i s.heap->J.go i H->
  wpAny (model P w) X.A (pyNext (.ref it)) (λr s1=>∃u,r=some u/\
   wpAny (model P w) X.A (letOwnedTupleGo tg (.ref it) u) (λ_ s2=>∃x H',Inv X pins σ H' s2/\RelV x u/\J.yld i H x H'/\tn (i+1) s2.heap/\∀b∈fp,H' b=none) E s1) E s
 done:∀(X:Cx),X.prog=P->X.w=w->X.K=K->X.calm=true->∀(i:Nat) (pins:List (Addr×Obj)) (s:Shared) (σ:St) (H:Hp) (E:Value->Shared->Prop),Inv X pins σ H s->(∀b∈fp,lS X pins H b)->tn i s.heap->J.stop i H->
  wpAny (model P w) X.A (pyNext (.ref it)) (λr s1=>r=none/\Inv X pins σ H s1) E s
 self:∀(A:Around) (i:Nat) (s:Shared) (Q:Value->Shared->Prop) (E:Value->Shared->Prop),tn i s.heap->Q (.ref it) s->wpAny (model P w) A (pyIter (.ref it)) Q E s
abbrev TI:=St->Hp->(It->Hp->Prop)->Prop
def PIE(X:Cx)(pins:List (Addr×Obj))(σ:St)(tg:Expr)(R:It->Hp->Prop)(U:Value)(s2:Shared):Prop:=
 ∃(it:Addr) (fp:List Addr) (Y:Nat->Heap->Prop) (J:It) (H':Hp),U=.ref it/\Inv X pins σ H' s2/\Turn X.prog X.w X.K tg J fp it Y/\Y 0 s2.heap/\(∀b∈fp,lS X pins H' b)/\R J H'
def PI(X:Cx)(tg U:Expr)(wi:TI):Prop:=
 ∀(pins:List (Addr×Obj)) (s:Shared) (σ:St) (H:Hp) (R:It->Hp->Prop),Inv X pins σ H s->wi σ H R->
  wpAny (model X.prog X.w) X.A (eval U X.env) (λv s1=>wpAny (model X.prog X.w) X.A (pyIter v) (PIE X pins σ tg R) X.xe s1) X.xe s
theorem Dy {M:Model} {A:Around} {E:Value->Shared->Prop} {tg:Expr} {it:Addr} {u:Value} {n:String} {vs:Array Value} {Q:Unit->Shared->Prop} (Y:s.heap.get? it=some o) (hc:o.cls=.type n) (hd:o.data=.fields vs)
 (hn:["enumerate","zip","dict_itemiterator","dict_reverseitemiterator","odict_iterator","itertools.zip_longest","itertools.pairwise"].contains n=false) (U:Q () s):wpAny M A (letOwnedTupleGo tg (.ref it) u) Q E s:=by
 unfold letOwnedTupleGo
 cases tg <;> first
  | exact wpAny_pure U
  | (cases u <;> first
   | exact wpAny_pure U
   | (
    refine wpAny_bind (wpAny_load Y ?_)
    rw[hc,hd]
    show wpAny M A (if (["enumerate","zip","dict_itemiterator","dict_reverseitemiterator","odict_iterator","itertools.zip_longest","itertools.pairwise"].contains n&&vs[0]? == some (rawInt _))=true then _ else _) Q E s
    rw[if_neg (by intro h;rw[hn,Rn] at h;cases h)]
    exact wpAny_pure U))
def Itl(K:sB)(a:Addr):It:=
 ⟨λi H=>∃xs x,SqL K H a xs/\xs[i]? =some x,λi H x H'=>H'=H/\∀xs,SqL K H a xs->xs[i]? =some x,λi H=>∃xs,SqL K H a xs/\xs.length<=i⟩
def Itr(lo:Int)(n:Nat):It:=⟨λi _=>i<n,λi H x H'=>H'=H/\x=.int (lo+i),λi _=>n<=i⟩
theorem FF(a it:Addr):Turn P w K tg (Itl K a) [it] it (λi h=>h.IsListIter it a i) where
 mem:=by simp
 obj:=λi h st b hb=>by
  have e:b=it:=by simpa using hb
  subst e
  obtain⟨o,e,c,d⟩:=st
  exact⟨o,e,λv z=>by rw[d] at z;cases z⟩
 keep:=λi h h' st k=>st.at λo e=>k it (by simp) o e
 item:=by
  intro X hP hw hK hc i pins s σ H E I hf st hg
  subst hP hw hK
  obtain⟨xs,x,hq,hx⟩:=hg
  obtain⟨its,rv,p,hz⟩:=I.list hq
  obtain⟨u,hu,ru⟩:=rv.get hx
  obtain⟨f0,f1,f2,f3,f4,f5⟩:=hf it (by simp)
  refine wpAny_pyNext_list_item st p.isList (x:=u) (by simpa using hu) λh' st' sb=> ?_
  have I1:Inv X pins σ H {s with heap:=h'}:=I.turned (t':=s.toks) (λb o hb e=>(sb.2 b hb).trans e) f0 f1 f3 f4 f5
  obtain⟨o,e,c,d⟩:=id st'
  exact⟨u,rfl,Dy (s:={s with heap:=h'}) e c d (by decide) ⟨x,H,I1,ru,⟨rfl,λys hy=>by rw[I.list_inj hy hq];exact hx⟩,st',λb hb=>(hf b hb).1⟩⟩
 done:=by
  intro X hP hw hK hc i pins s σ H E I hf st hg
  subst hP hw hK
  obtain⟨xs,hq,hx⟩:=hg
  obtain⟨its,rv,p,hz⟩:=I.list hq
  obtain⟨f0,f1,f2,f3,f4,f5⟩:=hf it (by simp)
  have hl:=rv.length
  exact wpAny_pyNext_list_end (I.ok.hd hc) st p.isList (by simp;omega) λh' eb=>⟨rfl,I.turned (t':=s.toks) (λb o hb e=>eb b o hb e) f0 f1 f3 f4 f5⟩
 self:=λ_ _ _ _ _ st h=>wpAny_pyIter_listiter st h
theorem DR(it:Addr)(lo:Int)(n:Nat):Turn P w K tg (Itr lo n) [it] it (λi h=>IsRangeIter h it (lo+(i:Nat)*1) ((n:Int)-(i:Nat)) 1) where
 mem:=by simp
 obj:=λi h st b hb=>by
  have e:b=it:=by simpa using hb
  subst e
  exact⟨_,st,λv z=>by
   have z':Data.fields _=Data.cell v:=z
   cases z'⟩
 keep:=λi h h' st k=>k it (by simp) _ st
 item:=by
  intro X hP hw hK hc i pins s σ H E I hf st hg
  subst hP hw hK
  obtain⟨f0,f1,f2,f3,f4,f5⟩:=hf it (by simp)
  have W:=Walks.range (prog:=X.prog) (w:=X.w) (I.ok.hd hc) it lo 1 n
  refine W.item i s _ _ hg st λv h' tk hv st' kk=> ?_
  obtain⟨t,rfl⟩:=hv
  have I1:Inv X pins σ H {s with heap:=h',toks:=tk}:=I.turned (λb o hb e=>kk b o (by simpa using hb) e) f0 f1 f3 f4 f5
  refine⟨_,rfl,Dy (s:={s with heap:=h',toks:=tk}) (n:="range_iterator") st' rfl rfl (by decide) ⟨.int (lo+i),H,I1,⟨t, ?_⟩,⟨rfl,rfl⟩,st',λb hb=>(hf b hb).1⟩⟩
  rw[Int.mul_one]
 done:=by
  intro X hP hw hK hc i pins s σ H E I hf st hg
  subst hP hw hK
  obtain⟨f0,f1,f2,f3,f4,f5⟩:=hf it (by simp)
  exact wpAny_pyNext_range_end (I.ok.hd hc) st (by have:n<=i:=hg;omega) λh' eb=>⟨rfl,I.turned (t':=s.toks) (λb o hb e=>eb b o hb e) f0 f1 f3 f4 f5⟩
 self:=λ_ _ _ _ _ st h=>wpAny_pyIter_rangeiter st h
section
variable {X : Cx} {tg : Expr}
def Jv(K:sB)(tl:TE):TI:=λσ H R=>tl σ H λx H1=>∃a,x=.ref a/\(∃xs,SqL K H1 a xs)/\R (Itl K a) H1
theorem b9{l:Expr}{tl:TE}(U:PE X l tl):PI X tg l (Jv X.K tl):=by
 intro pins s σ H R I h
 refine thn (U pins s σ H _ I h) λv s1 ⟨x,H1,I1,r1,q1⟩=> ?_
 obtain⟨a,e,⟨xs,hq⟩,q⟩:=q1
 subst e
 cases r1
 obtain⟨Y,rv,p,hz⟩:=I1.list hq
 refine wpAny_pyIter_list p.isList ?_
 refine⟨s1.heap.objs.size,[s1.heap.objs.size],_,_,H1,rfl,I1.kept (t':=s1.toks) λb o e=>Heap.get?_push_of_some _ e,FF a _,⟨_,Heap.get?_push_size _ rfl,rfl,rfl⟩,λb hb=> ?_,q⟩
 have e:b=s1.heap.objs.size:=by simpa using hb
 subst e
 exact I1.fpOk (wf _) (I1.hok.fresh (wf _))
theorem Gw {R:It->Hp->Prop} {E:Value->Shared->Prop} {lo hi:Int} {t u v:Tok} {tk:Nat} (I:Inv X pins σ H s) (h1: -(2^62)<=lo) (h2:lo<2^62) (Y: -(2^62)<=hi) (h4:hi<2^62)
 (q:R (Itr lo (hi-lo).toNat) H):wpAny (model X.prog X.w) X.A (pyIter (.ref s.heap.objs.size)) (PIE X pins σ tg R) E {s with heap:=s.heap.push {cls:=.type "range",data:=.fields #[.int lo t,.int hi u,.int 1 v]},toks:=tk}:=by
 refine wpAny_pyIter_range (IsRange.new ..) (small_one h1 h2 Y h4) ?_
 have U:Inv X pins σ H {s with heap:=s.heap.push {cls:=.type "range",data:=.fields #[.int lo t,.int hi u,.int 1 v]},toks:=tk}:=I.kept λb o e=>Heap.get?_push_of_some _ e
 refine⟨(s.heap.push {cls:=.type "range",data:=.fields #[.int lo t,.int hi u,.int 1 v]}).objs.size,[(s.heap.push {cls:=.type "range",data:=.fields #[.int lo t,.int hi u,.int 1 v]}).objs.size],_,_,H,rfl,
  U.kept (t':=tk) λb o e=>Heap.get?_push_of_some _ e,DR _ lo (hi-lo).toNat, ?_,λb hb=> ?_,q⟩
 ·have e1:lo+((0:Nat):Int)*1=lo:=by simp
  have e2:(((hi-lo).toNat:Nat):Int)-((0:Nat):Int)=Builtin.Range.rangeSize lo hi 1:=by rw[rangeSize_one];split <;> omega
  show IsRangeIter _ _ (lo+((0:Nat):Int)*1) ((((hi-lo).toNat:Nat):Int)-((0:Nat):Int)) 1
  rw[e1,e2]
  exact Heap.get?_push_size _ rfl
 ·have e:b=(s.heap.push {cls:=.type "range",data:=.fields #[.int lo t,.int hi u,.int 1 v]}).objs.size:=by simpa using hb
  subst e
  exact U.fpOk (wf _) (U.hok.fresh (wf _))
def IS(ta:TA):TI:=λσ H R=>ta σ H λvs H1=>∃j:Int,vs=[.int j]/\ -(2^62)<=j/\j<2^62/\R (Itr 0 j.toNat) H1
theorem da{a:Expr}{ta:TA}{p pos:Pos}(U:Gl X "range")(hm:X.mg "range" =none)(ha:PA X [a] ta)(Y:starEach [a] X.env=[(false,eval a X.env)]:=by rfl):PI X tg (.Call (.Name "range" p) [a] [] pos) (IS ta):=by
 intro pins s σ H R I h
 refine Call_ (o6 I U hm boot_range (Qk (thn (ha pos pins s σ H _ I h) λus s1 ⟨vs,H1,I1,r1,q1⟩=> ?_) Y rfl))
 obtain⟨j,e,q1,q2,q⟩:=q1
 subst e
 cases r1 with
 | cons r rr=>
  cases rr
  obtain⟨t,rfl⟩:=r
  exact call_range_1 (Gw I1 (by omega) (by omega) q1 q2 (by simpa using q))
def Lm(wi:TI)(g:TG)(tb:TS):TS:=λD σ H=>wi σ H λJ H1=>∃W:Nat->Nat->St->Hp->Prop,(∃m,W 0 m σ H1)/\∀i m σ H,W i m σ H->
 (J.stop i H/\D.nx σ H)\/(J.go i H/\∃N:St->Hp->Prop,(∀U H',N U H'->∃Y,Y<m/\W (i+1) Y U H')/\∀x H',J.yld i H x H'->g x σ H' λσ2 H2=>tb {D with nx:=N,ct:=N,bk:=D.nx} σ2 H2)
def sA(fp:List Addr)(h:Heap):List (Addr×Obj):=fp.filterMap λb=>(h.get? b).map λo=>(b,o)
theorem nK(hb:b∈fp)(e:h.get? b=some o):(b,o)∈sA fp h:=Sk.mpr ⟨b,hb,by rw[e];rfl⟩
theorem FZ{p:Addr×Obj}(hp:p∈sA fp h):p.1∈fp/\h.get? p.1=some p.2:=by
 obtain⟨b,hb,e⟩:=Sk.mp hp
 cases q:h.get? b with
 | none=>rw[q] at e;cases e
 | some o=>
  rw[q] at e
  have U:(b,o)=p:=PR e
  subst U
  exact⟨hb,q⟩
theorem Inv.pinned(I:Inv X pins σ H s)(Y:∀b∈fp,lS X pins H b)(ho:∀b∈fp,∃o,s.heap.get? b=some o/\∀v,o.data≠ .cell v):Inv X (pins++sA fp s.heap) σ H s:=
 I.pins_of λp hp=>(xz.mp hp).elim (λz=>I.pin p (Pg _ z)) λz=>by
  obtain⟨hb,e⟩:=FZ z
  obtain⟨f0,f1,f2,_⟩:=Y p.1 hb
  obtain⟨o,U,d⟩:=ho p.1 hb
  rw[e] at U;cases U
  exact⟨e,f0,f1,f2,d⟩
theorem Inv.unpinned{pins pl:List (Addr×Obj)}(I:Inv X (pins++pl) σ H s):Inv X pins σ H s:=I.pins_of λp hp=>I.pin p (Pg _ (Qu _ hp))
theorem fj {U:Expr} {wi:TI} {g:TG} {tb:TS} {pos:Pos} (hp:PassesOwn (model X.prog X.w) X.A X.env X.xe) (hc:X.calm=true) (hi:PI X tg U wi) (hg:PG X tg g) (hb:PSs X body tb)
 (hs:∀x,foldedSetIterable U X.env x=pure x:=by intro _;rfl):PS X (.For tg U body [] pos) (Lm wi g tb):=by
 intro pins s σ H D I h
 refine wpAny_For (thn (hi pins s σ H _ I h) λv s1 h1=>thn h1 λbv s2 h2=> ?_) hs
 obtain⟨it,fp,tn,J,H2,e,I2,T,a5,f2,W,⟨m0,w0⟩,an⟩:=h2
 subst e
 have Y:∀{H':Hp},(∀b∈fp,H' b=none)->∀b∈fp,lS X pins H' b:=λhn b hb=>⟨hn b hb,(f2 b hb).2⟩
 refine codeAny_forLoop_any (λn s'=>∃i σ' H',Inv X pins σ' H' s'/\tn i s'.heap/\(∀b∈fp,H' b=none)/\W i n σ' H') ?_ m0 ⟨0,σ,H2,I2,a5,λb hb=>(f2 b hb).1,w0⟩
 rintro n s3 ⟨i,σ3,H3,I3,a1,a2,w3⟩
 rcases an i n σ3 H3 w3 with⟨a3,qn⟩ | ⟨go,N,hN,step⟩
 ·refine wpAny_passesOwn hp (thn (T.done X rfl rfl rfl hc i pins s3 σ3 H3 X.xe I3 (Y a2) a1 a3) λr s4 ⟨hr,I4⟩=> ?_)
  subst hr
  exact wpAny_execs_nil ⟨σ3,H3,I4,qn⟩
 ·refine wpAny_passesOwn hp (thn (T.item X rfl rfl rfl hc i pins s3 σ3 H3 X.xe I3 (Y a2) a1 go) λr s4 ⟨u,hr,h4⟩=> ?_)
  subst hr
  refine wpAny_passesOwn hp (thn h4 λ_ s5 ⟨x,H5,I5,r5,y5,st5,fr5⟩=> ?_)
  have bb:=I5.pinned (Y fr5) (T.obj _ _ st5)
  refine wpAny_passesOwn hp (thn (hg _ s5 σ3 H5 x u _ bb r5 (step x H5 y5)) λ_ s6 ⟨σ6,H6,I6,q6⟩=> ?_)
  refine wpAny_passesOwn hp (thn (hb _ s6 σ6 H6 _ I6 q6) λf s7 q7=> ?_)
  have again:∀{σ7:St} {H7:Hp},Inv X (pins++sA fp s5.heap) σ7 H7 s7->N σ7 H7->∃m,m<n/\∃i σ' H',Inv X pins σ' H' s7/\tn i s7.heap/\(∀b∈fp,H' b=none)/\W i m σ' H':=λ{σ7 H7} I7 n7=>by
   obtain⟨m',hm,w7⟩:=hN σ7 H7 n7
   refine⟨m',hm,i+1,σ7,H7,I7.unpinned,T.keep _ _ _ st5 λb hb o e=>(I7.pin (b,o) (Pg _ (Pg _ (nK hb e)))).1,λb hb=> ?_,w7⟩
   obtain⟨o,e,d⟩:=T.obj _ _ st5 b hb
   exact(I7.pin (b,o) (Pg _ (Pg _ (nK hb e)))).2.1
  cases f with
  | next=>obtain⟨σ7,H7,I7,n7⟩:=q7;exact again I7 n7
  | cont=>obtain⟨σ7,H7,I7,n7⟩:=q7;exact again I7 n7
  | brk=>obtain⟨σ7,H7,I7,q7⟩:=q7;exact⟨σ7,H7,I7.unpinned,q7⟩
  | ret v=>obtain⟨x7,σ7,H7,I7,r7,q7⟩:=q7;exact⟨x7,σ7,H7,I7.unpinned,r7,q7⟩
end
abbrev R2:=V->V->Hp->VK->Prop
def OpR(X:Cx)(f:Value->Value->Sem Value)(r:R2):Prop:=
 ∀(pins:List (Addr×Obj)) (s:Shared) (σ:St) (H:Hp) (x y:V) (v u:Value) (Q:VK),Inv X pins σ H s->RelV x v->RelV y u->r x y H Q->
  wpAny (model X.prog X.w) X.A (f v u) (EP X pins σ Q) X.xe s
def UnR(X:Cx)(f:Value->Sem Value)(r:V->Hp->VK->Prop):Prop:=
 ∀(pins:List (Addr×Obj)) (s:Shared) (σ:St) (H:Hp) (x:V) (v:Value) (Q:VK),Inv X pins σ H s->RelV x v->r x H Q->
  wpAny (model X.prog X.w) X.A (f v) (EP X pins σ Q) X.xe s
def jw(X:Cx)(f:Value)(r:List V->Hp->VK->Prop):Prop:=
 ∀(pins:List (Addr×Obj)) (s:Shared) (σ:St) (H:Hp) (xs:List V) (us:List Value) (Q:VK),Inv X pins σ H s->Vals xs us->r xs H Q->
  wpAny (model X.prog X.w) X.A (call f us) (EP X pins σ Q) X.xe s
def NM(X:Cx)(r:V->Hp->(Bool->Hp->Prop)->Prop):Prop:=
 ∀(pins:List (Addr×Obj)) (s:Shared) (σ:St) (H:Hp) (x:V) (v:Value) (Q:Bool->Hp->Prop),Inv X pins σ H s->RelV x v->r x H Q->
  wpAny (model X.prog X.w) X.A (truthy v) (TP X pins σ Q) X.xe s
def tOp(r:R2)(ta tb:TE):TE:=λσ H Q=>ta σ H λx H1=>tb σ H1 λy H2=>r x y H2 Q
def tUn(r:V->Hp->VK->Prop)(ta:TE):TE:=λσ H Q=>ta σ H λx H1=>r x H1 Q
def rI(C:Int->Int->Prop)(g:Int->Int->V):R2:=λx y H Q=>∃i j,x=.int i/\y=.int j/\C i j/\Q (g i j) H
def rI0(g:Int->Int->V):R2:=λx y H Q=>∃i j,x=.int i/\y=.int j/\Q (g i j) H
def rU(g:Int->V):V->Hp->VK->Prop:=λx H Q=>∃i,x=.int i/\Q (g i) H
section
variable {X : Cx} {a b c : Expr} {ta tb tc : TE} {pos : Pos}
theorem HX (ha:PE X a ta) (hb:PE X b tb) {R:V->V->Hp->Prop} (I:Inv X pins σ H s)
 (h:ta σ H λx H1=>tb σ H1 λy H2=>R x y H2) {Q:Value->Shared->Prop} {f:Value->Value->Sem Value}
 (U:∀v u s2 x y H2,Inv X pins σ H2 s2->RelV x v->RelV y u->R x y H2->wpAny (model X.prog X.w) X.A (f v u) Q X.xe s2):
 wpAny (model X.prog X.w) X.A (eval a X.env) (λv Y=>wpAny (model X.prog X.w) X.A (eval b X.env) (λu s₂=>wpAny (model X.prog X.w) X.A (f v u) Q X.xe s₂) X.xe Y) X.xe s:=by
 refine thn (ha pins s σ H _ I h) λv s1 ⟨x,H1,I1,r1,q1⟩=> ?_
 refine thn (hb pins s1 σ H1 _ I1 q1) λu s2 ⟨y,H2,I2,r2,q2⟩=> ?_
 exact U v u s2 x y H2 I2 r1 r2 q2
theorem aT{op:Operator}(U:OpR X (binaryOp op) r)(ha:PE X a ta)(hb:PE X b tb):PE X (.BinOp a op b pos) (tOp r ta tb):=by
 intro pins s σ H Q I h
 exact wpAny_BinOp (HX ha hb I h λv u s2 x y H2 Y rx ry q=>U pins s2 σ H2 x y v u Q Y rx ry q)
theorem rL{op:UnaryOp}{r:V->Hp->VK->Prop}(U:UnR X (unaryOp op) r)(ha:PE X a ta):PE X (.UnaryOp op a pos) (tUn r ta):=by
 intro pins s σ H Q I h
 exact UnaryOp_ (thn (ha pins s σ H _ I h) λv s1 ⟨x,H1,I1,r1,q1⟩=>U pins s1 σ H1 x v Q I1 r1 q1)
theorem opI {f:Value->Value->Sem Value} {C:Int->Int->Prop} {g:Int->Int->Int}
 (rule:∀(i j:Int) (t u:Tok) (s:Shared) (Q:Value->Shared->Prop) (E:Value->Shared->Prop),C i j->Q (.int (g i j) s.toks) {s with toks:=s.toks+1}->wpAny (model X.prog X.w) X.A (f (.int i t) (.int j u)) Q E s):
 OpR X f (rI C λi j=>.int (g i j)):=by
 intro pins s σ H x y v u Q I U Y h
 obtain⟨i,j,rfl,rfl,hc,q⟩:=h
 obtain⟨t,rfl⟩:=U
 obtain⟨t',rfl⟩:=Y
 exact rule i j t t' s _ _ hc ⟨.int (g i j),H,I.tok _,⟨_,rfl⟩,q⟩
theorem DJ {f:Value->Value->Sem Value} {g:Int->Int->Int}
 (rule:∀(i j:Int) (t u:Tok) (s:Shared) (Q:Value->Shared->Prop) (E:Value->Shared->Prop),Q (.int (g i j) s.toks) {s with toks:=s.toks+1}->wpAny (model X.prog X.w) X.A (f (.int i t) (.int j u)) Q E s):
 OpR X f (rI0 λi j=>.int (g i j)):=by
 intro pins s σ H x y v u Q I U Y h
 obtain⟨i,j,rfl,rfl,q⟩:=h
 obtain⟨t,rfl⟩:=U
 obtain⟨t',rfl⟩:=Y
 exact rule i j t t' s _ _ ⟨.int (g i j),H,I.tok _,⟨_,rfl⟩,q⟩
theorem Ik {f:Value->Value->Sem Value} {g:Int->Int->Bool}
 (rule:∀(i j:Int) (t u:Tok) (s:Shared) (Q:Value->Shared->Prop) (E:Value->Shared->Prop),Q (.bool (g i j)) s->wpAny (model X.prog X.w) X.A (f (.int i t) (.int j u)) Q E s):
 OpR X f (rI0 λi j=>.bl (g i j)):=by
 intro pins s σ H x y v u Q I U Y h
 obtain⟨i,j,rfl,rfl,q⟩:=h
 obtain⟨t,rfl⟩:=U
 obtain⟨t',rfl⟩:=Y
 exact rule i j t t' s _ _ ⟨.bl (g i j),H,I,rfl,q⟩
def HZ(i j:Int):Prop:=0<=j/\j<=1000000/\i.natAbs<2^64
theorem DL(k:Nat):(0:Int)<=2^k:=by
 rw[two_pow_cast]
 exact Int.natCast_nonneg _
theorem L7:OpR X (binaryOp .Add) (rI0 λi j=>.int (i+j)):=DJ λ_ _ _ _ _ _ _ q=>add_int q
theorem kS:OpR X (binaryOp .Sub) (rI0 λi j=>.int (i-j)):=DJ λ_ _ _ _ _ _ _ q=>sub_int q
theorem fO:OpR X (binaryOp .Mod) (rI (λ_ j=>j≠0) λi j=>.int (i.fmod j)):=opI λ_ _ _ _ _ _ _ hc q=>mod_int' hc q
theorem wR:OpR X (binaryOp .Pow) (rI HZ λi j=>.int (i^j.toNat)):=opI λ_ _ _ _ _ _ _ hc q=>pow_int_small hc.1 hc.2.1 hc.2.2 q
theorem Md:OpR X (binaryOp .RShift) (rI (λ_ j=>0<=j) λi j=>.int (i/2^j.toNat)):=opI λi j _ _ _ _ _ hc q=>
 rshift_int hc (by rw[Rw i (DL _)];exact q)
theorem MN:OpR X (binaryOp .BitAnd) (rI0 λi j=>.int (Builtin.bitAnd i j)):=DJ λ_ _ _ _ _ _ _ q=>and_int q
theorem Ja:OpR X (binaryOp .BitOr) (rI0 λi j=>.int (Builtin.bitOr i j)):=DJ λ_ _ _ _ _ _ _ q=>or_int q
theorem unI {f:Value->Sem Value} {g:Int->Int}
 (rule:∀(i:Int) (t:Tok) (s:Shared) (Q:Value->Shared->Prop) (E:Value->Shared->Prop),Q (.int (g i) s.toks) {s with toks:=s.toks+1}->wpAny (model X.prog X.w) X.A (f (.int i t)) Q E s):
 UnR X f (rU λi=>.int (g i)):=by
 intro pins s σ H x v Q I U h
 obtain⟨i,rfl,q⟩:=h
 obtain⟨t,rfl⟩:=U
 exact rule i t s _ _ ⟨.int (g i),H,I.tok _,⟨_,rfl⟩,q⟩
theorem oh:UnR X (unaryOp .USub) (rU λi=>.int (-i)):=unI λ_ _ _ _ _ q=>neg_int q
end
def MU:V->V->Bool
 | .non,.non=>true | .non,.int _=>true | .int _,.non=>true | .non,.bl _=>true | .bl _,.non=>true | .non,.str _=>true | .str _,.non=>true
 | .int _,.int _=>true | .bl _,.bl _=>true | .str _,.str _=>true | .byt _,.byt _=>true
 | .int _,.str _=>true | .str _,.int _=>true | .bl _,.str _=>true | .str _,.bl _=>true
 | _,_=>false
def rEq:R2:=λx y H Q=>MU x y=true/\Q (.bl (decide (x=y))) H
def rNe:R2:=λx y H Q=>MU x y=true/\Q (.bl (!decide (x=y))) H
theorem uu{i j:Int}:decide (V.int i=V.int j)=(i == j):=by
 rw[Qa]
 simp
theorem wJ{i j:Bool}:decide (V.bl i=V.bl j)=(i == j):=by
 rw[Qa]
 simp
theorem tZ{i j:Str}:decide (V.str i=V.str j)=(i == j):=by
 rw[Qa]
 simp
theorem C9{i j:Array UInt8}:decide (V.byt i=V.byt j)=(i.toList == j.toList):=by
 rw[Qa]
 cases i
 cases j
 simp
section
variable {X : Cx} {a b c : Expr} {ta tb tc : TE} {pos : Pos}
theorem cJ{Q:VK}{k U:Bool}(I:Inv X pins σ H s)(q:Q (.bl k) H)(e:k=U):EP X pins σ Q (.bool U) s:=by
 subst e
 exact⟨.bl k,H,I,rfl,q⟩
theorem Nb:OpR X (compareOp .Eq) rEq:=by
 intro pins s σ H x y v u Q I rx U h
 obtain⟨Y,q⟩:=h
 cases x with
 | non=>
  cases rx
  cases y with
  | non=>cases U;exact PySem.EqNone.eq_none_none (cJ I q (by simp))
  | bl j=>cases U;exact PySem.EqNone.eq_none_bool (cJ I q (by simp))
  | int j=>obtain⟨t',rfl⟩:=U;exact PySem.EqNone.eq_none_int (cJ I q (by simp))
  | str j=>obtain⟨t',rfl⟩:=U;exact PySem.EqNone.eq_none_str (cJ I q (by simp))
  | _=>exact absurd (show false=true from Y) x0
 | bl i=>
  cases rx
  cases y with
  | non=>cases U;exact PySem.EqNone.eq_bool_none (cJ I q (by simp))
  | bl j=>cases U;exact eq_bool (cJ I q wJ)
  | str j=>obtain⟨t',rfl⟩:=U;exact Td (cJ I q (by simp))
  | _=>exact absurd (show false=true from Y) x0
 | int i=>
  obtain⟨t,rfl⟩:=rx
  cases y with
  | non=>cases U;exact PySem.EqNone.eq_int_none (cJ I q (by simp))
  | int j=>obtain⟨t',rfl⟩:=U;exact eq_int (cJ I q uu)
  | str j=>obtain⟨t',rfl⟩:=U;exact Th (cJ I q (by simp))
  | _=>exact absurd (show false=true from Y) x0
 | str i=>
  obtain⟨t,rfl⟩:=rx
  cases y with
  | non=>cases U;exact PySem.EqNone.eq_str_none (cJ I q (by simp))
  | bl j=>cases U;exact Te (cJ I q (by simp))
  | int j=>obtain⟨t',rfl⟩:=U;exact Ti (cJ I q (by simp))
  | str j=>obtain⟨t',rfl⟩:=U;exact eq_str (cJ I q tZ)
  | _=>exact absurd (show false=true from Y) x0
 | byt i=>
  obtain⟨t,rfl⟩:=rx
  cases y with
  | byt j=>obtain⟨t',rfl⟩:=U;exact PySem.W.eq_bytes (cJ I q C9)
  | _=>exact absurd (show false=true from Y) x0
 | _=>cases y <;> exact absurd (show false=true from Y) x0
theorem Nr:OpR X (compareOp .NotEq) rNe:=by
 intro pins s σ H x y v u Q I rx U h
 obtain⟨Y,q⟩:=h
 cases x with
 | non=>
  cases rx
  cases y with
  | non=>cases U;exact PySem.EqNone.ne_none_none (cJ I q (by simp))
  | bl j=>cases U;exact PySem.EqNone.ne_none_bool (cJ I q (by simp))
  | int j=>obtain⟨t',rfl⟩:=U;exact PySem.EqNone.ne_none_int (cJ I q (by simp))
  | str j=>obtain⟨t',rfl⟩:=U;exact PySem.EqNone.ne_none_str (cJ I q (by simp))
  | _=>exact absurd (show false=true from Y) x0
 | bl i=>
  cases rx
  cases y with
  | non=>cases U;exact PySem.EqNone.ne_bool_none (cJ I q (by simp))
  | bl j=>cases U;exact ne_bool (cJ I q (congrArg not wJ))
  | str j=>obtain⟨t',rfl⟩:=U;exact Tf (cJ I q (by simp))
  | _=>exact absurd (show false=true from Y) x0
 | int i=>
  obtain⟨t,rfl⟩:=rx
  cases y with
  | non=>cases U;exact PySem.EqNone.ne_int_none (cJ I q (by simp))
  | int j=>obtain⟨t',rfl⟩:=U;exact ne_int (cJ I q (congrArg not uu))
  | str j=>obtain⟨t',rfl⟩:=U;exact Tj (cJ I q (by simp))
  | _=>exact absurd (show false=true from Y) x0
 | str i=>
  obtain⟨t,rfl⟩:=rx
  cases y with
  | non=>cases U;exact PySem.EqNone.ne_str_none (cJ I q (by simp))
  | bl j=>cases U;exact Tg (cJ I q (by simp))
  | int j=>obtain⟨t',rfl⟩:=U;exact Tk (cJ I q (by simp))
  | str j=>obtain⟨t',rfl⟩:=U;exact ne_str (cJ I q (congrArg not tZ))
  | _=>exact absurd (show false=true from Y) x0
 | byt i=>
  obtain⟨t,rfl⟩:=rx
  cases y with
  | byt j=>obtain⟨t',rfl⟩:=U;exact PySem.W.ne_bytes (cJ I q (congrArg not C9))
  | _=>exact absurd (show false=true from Y) x0
 | _=>cases y <;> exact absurd (show false=true from Y) x0
theorem k7:OpR X (compareOp .Lt) (rI0 λi j=>.bl (decide (i<j))):=Ik λ_ _ _ _ _ _ _ q=>lt_int q
theorem kR:OpR X (compareOp .Gt) (rI0 λi j=>.bl (decide (j<i))):=Ik λ_ _ _ _ _ _ _ q=>gt_int q
theorem Nn:OpR X (compareOp .GtE) (rI0 λi j=>.bl (decide (j<=i))):=Ik λ_ _ _ _ _ _ _ q=>ge_int q
theorem OpR.or(h:OpR X f r)(h':OpR X f r'):OpR X f (λx y H Q=>r x y H Q\/r' x y H Q):=by
 intro pins s σ H x y v u Q I U Y q
 rcases q with q | q
 ·exact h pins s σ H x y v u Q I U Y q
 ·exact h' pins s σ H x y v u Q I U Y q
theorem bq(b:Expr)(h:op≠ .In:=by decide)(h2:op≠ .NotIn:=by decide):behindInMarks op b=false:=by
 have e1:(op == CmpOp.In)=false:=by cases op <;> first | rfl | exact absurd rfl h
 have e2:(op == CmpOp.NotIn)=false:=by cases op <;> first | rfl | exact absurd rfl h2
 cases b <;> simp[behindInMarks,e1,e2]
theorem iT(U:OpR X (compareOp op) r)(ha:PE X a ta)(hb:PE X b tb)(hm:behindInMarks op b=false):PE X (.Compare a [op] [b] pos) (tOp r ta tb):=by
 intro pins s σ H Q I h
 exact wpAny_Compare1 (HX ha hb I h λv u s2 x y H2 Y rx ry q=>U pins s2 σ H2 x y v u Q Y rx ry q) hm
def DF(t:TE):TT:=λσ H Q=>t σ H λx H'=>∃k,x=.bl k/\Q k H'
theorem bo(U:OpR X (compareOp op) r)(ha:PE X a ta)(hb:PE X b tb)(hm:behindInMarks op b=false):PT X (.Compare a [op] [b] pos) (DF (tOp r ta tb)):=by
 intro pins s σ H Q I h
 refine wpAny_isTrue_Compare1 (thn (ha pins s σ H _ I h) λv s1 ⟨x,H1,I1,r1,q1⟩=>thn (hb pins s1 σ H1 _ I1 q1) λu s2 ⟨y,H2,I2,r2,q2⟩=>
  thn (U pins s2 σ H2 x y v u _ I2 r1 r2 q2) λc s3 ⟨z,H3,I3,r3,k,e,q3⟩=> ?_) hm
 subst e
 cases r3
 exact wpAny_truthy_bool ⟨H3,I3,q3⟩
def BV(r r':R2)(ta tb tc:TE):TE:=λσ H Q=>ta σ H λx H1=>tb σ H1 λy H2=>r x y H2 λz U=>∃k,z=.bl k/\
 (if k=true then tc σ U λY H4=>r' y Y H4 Q else Q (.bl false) U)
theorem GR {op U:CmpOp} (ho:OpR X (compareOp op) r) (Y:OpR X (compareOp U) r') (ha:PE X a ta) (hb:PE X b tb) (hc:PE X c tc)
 (hm:lastMarks [op,U] [b,c]=false:=by with_unfolding_all rfl):PE X (.Compare a [op,U] [b,c] pos) (BV r r' ta tb tc):=by
 intro pins s σ H Q I h
 refine Compare_chain (thn (ha pins s σ H _ I h) λv s1 ⟨x,H1,I1,r1,q1⟩=>chain_link (thn (hb pins s1 σ H1 _ I1 q1) λu s2 ⟨y,H2,I2,r2,q2⟩=>
  thn (ho pins s2 σ H2 x y v u _ I2 r1 r2 q2) λd s3 ⟨z,H3,I3,r3,k,e,q3⟩=> ?_)) hm
 subst e
 cases r3
 refine wpAny_truthy_bool ?_
 cases k with
 | false=>exact ite_ff ⟨.bl false,H3,I3,rfl,q3⟩
 | true=>exact ite_tt (chain_last (thn (hc pins s3 σ H3 _ I3 q3) λw' s4 ⟨z',H4,I4,r4,q4⟩=>Y pins s4 σ H4 y z' u w' Q I4 r2 r4 q4))
theorem ID {op U:CmpOp} (ho:OpR X (compareOp op) r) (Y:OpR X (compareOp U) r') (ha:PE X a ta) (hb:PE X b tb) (hc:PE X c tc)
 (hm:lastMarks [op,U] [b,c]=false:=by with_unfolding_all rfl):PT X (.Compare a [op,U] [b,c] pos) (DF (BV r r' ta tb tc)):=by
 intro pins s σ H Q I h
 refine isTrue_chain (thn (ha pins s σ H _ I h) λv s1 ⟨x,H1,I1,r1,q1⟩=>test_link (thn (hb pins s1 σ H1 _ I1 q1) λu s2 ⟨y,H2,I2,r2,q2⟩=>
  thn (ho pins s2 σ H2 x y v u _ I2 r1 r2 q2) λd s3 ⟨z,H3,I3,r3,k,e,q3⟩=> ?_)) hm
 subst e
 cases r3
 refine wpAny_truthy_bool ?_
 cases k with
 | false=>
  obtain⟨k',e',q'⟩:=q3
  cases e'
  exact ite_ff ⟨H3,I3,q'⟩
 | true=>
  refine ite_tt (test_last (thn (hc pins s3 σ H3 _ I3 q3) λw' s4 ⟨z',H4,I4,r4,q4⟩=>thn (Y pins s4 σ H4 y z' u w' _ I4 r2 r4 q4) λd' s5 ⟨z2,H5,I5,r5,k2,e2,q5⟩=> ?_))
  subst e2
  cases r5
  exact wpAny_truthy_bool ⟨H5,I5,q5⟩
def NN(K:sB)(x:V)(H:Hp)(k:Bool):Prop:=
 match x with
 | .non=>k=false
 | .bl b=>k=b
 | .int i=>k=(i != 0)
 | .str y=>y.length<=sizeLine/\k=((y.length:Int) != 0)
 | .byt y=>y.size<=sizeLine/\k=((y.size:Int) != 0)
 | .ref p=>(∃xs,SqL K H p xs/\k= !xs.isEmpty)\/(∃xs,SqT K H p xs/\k= !xs.isEmpty)\/∃U,H p=some (.dK U)/\k= !U.isEmpty
 | _=>False
theorem D5{κ:Type}{U:List (κ×V)}{vs:List (κ×Value)}(r:KV U vs):(!vs.isEmpty)= !U.isEmpty:=by
 cases r <;> rfl
theorem wa{xs:List V}{U:List Value}(r:Vals xs U):(!U.toArray.isEmpty)= !xs.isEmpty:=by
 cases r <;> simp
theorem qe:(sizeLine:Nat)<2^63:=by rw[sizeLine_eq];decide
theorem OU:NM X (λx H Q=>∃k,NN X.K x H k/\Q k H):=by
 intro pins s σ H x v Q I rx h
 obtain⟨k,e,q⟩:=h
 have hl:=qe
 have hs:sizeLine=16777216:=sizeLine_eq
 cases x with
 | non=>
  cases rx
  have U:k=false:=e
  subst U
  exact truthy_none ⟨H,I,q⟩
 | bl b=>
  cases rx
  have U:k=b:=e
  subst U
  exact wpAny_truthy_bool ⟨H,I,q⟩
 | int i=>
  obtain⟨t,rfl⟩:=rx
  have U:k=(i != 0):=e
  subst U
  exact PySem.P.truthy_int ⟨H,I,q⟩
 | str y=>
  obtain⟨t,rfl⟩:=rx
  obtain⟨hy,U⟩:y.length<=sizeLine/\k=((y.length:Int) != 0):=e
  subst U
  exact PySem.P.truthy_str (by omega) ⟨H,I.tok _,q⟩
 | byt y=>
  obtain⟨t,rfl⟩:=rx
  obtain⟨hy,U⟩:y.size<=sizeLine/\k=((y.size:Int) != 0):=e
  subst U
  exact PySem.W.truthy_bytes (by omega) ⟨H,I.tok _,q⟩
 | ref p=>
  cases rx
  have U:(∃xs,SqL X.K H p xs/\k= !xs.isEmpty)\/(∃xs,SqT X.K H p xs/\k= !xs.isEmpty)\/∃Y,H p=some (.dK Y)/\k= !Y.isEmpty:=e
  rcases U with⟨xs,hx,U⟩ | ⟨xs,hx,U⟩ | ⟨Y,hx,U⟩
  ·subst U
   obtain⟨ae,r,pl,hz⟩:=I.list hx
   have ab:=r.length
   exact wpAny_truthy_list pl.isList (by simp only[wS];omega) ⟨H,I.tok _,by rw[wa r];exact q⟩
  ·subst U
   obtain⟨ae,r,pl,hz⟩:=I.tuple hx
   have ab:=r.length
   exact truthy_tuple pl (by simp only[wS];omega) ⟨H,I.tok _,by rw[wa r];exact q⟩
  ·subst U
   obtain⟨hz,hS,vs,r,m⟩:Y.length<=sizeLine/\(p == sysModules)=false/\∃vs,KV Y vs/\s.heap.DictOf (xF X.prog X.w) p vs:=I.hok p _ hx
   have ab:Y.length=vs.length:=Paired.length r
   exact wpAny_truthy_dict hS m (by omega) ⟨H,I.tok _,by rw[D5 r];exact q⟩
 | _=>exact(show False from e).elim
theorem Dx:OpR X (binaryOp .Add) (λx y H Q=>∃i j,x=.str i/\y=.str j/\i.length+j.length<=sizeLine/\Q (.str (i++j)) H):=by
 intro pins s σ H x y v u Q I U Y h
 obtain⟨i,j,rfl,rfl,hz,q⟩:=h
 obtain⟨t,rfl⟩:=U
 obtain⟨t',rfl⟩:=Y
 exact add_str (λt' tk=>⟨.str (i++j),H,I.tok _,⟨_,rfl⟩,q⟩) hz
theorem vals1{x:V}(r:Vals [x] us):∃u,us=[u]/\RelV x u:=by
 cases r with
 | cons U Y=>cases Y;exact⟨_,rfl,U⟩
theorem vals2{x y:V}(r:Vals [x,y] us):∃u U,us=[u,U]/\RelV x u/\RelV y U:=by
 cases r with
 | cons Y r2=>
  cases r2 with
  | cons r3 r4=>cases r4;exact⟨_,_,rfl,Y,r3⟩
theorem A7:jw X (.builtin "abs") (λxs H Q=>∃i,xs=[.int i]/\Q (.int (if i<0 then -i else i)) H):=by
 intro pins s σ H xs us Q I r h
 obtain⟨i,rfl,q⟩:=h
 obtain⟨u,rfl,t,rfl⟩:=vals1 r
 exact call_abs_int λu tk=>⟨.int (if i<0 then -i else i),H,I.tok _,⟨_,rfl⟩,q⟩
theorem pz(hc:X.calm=true):jw X (.builtin "max") (λxs H Q=>∃i j,xs=[.int i,.int j]/\Q (.int (if j>i then j else i)) H):=by
 intro pins s σ H xs us Q I r h
 obtain⟨i,j,rfl,q⟩:=h
 obtain⟨u,Y,rfl,⟨t,rfl⟩,⟨t',rfl⟩⟩:=vals2 r
 refine max_two_ints (I.ok.hd hc) λh' tk k=>⟨_,H,I.kept k, ?_,q⟩
 by_cases U:j>i
 ·rw[if_pos U,if_pos U];exact⟨_,rfl⟩
 ·rw[if_neg U,if_neg U];exact⟨_,rfl⟩
theorem gN:jw X (.type "int") (λxs H Q=>(∃i,xs=[.int i]/\Q (.int i) H)\/∃k,xs=[.bl k]/\Q (.int (if k then 1 else 0)) H):=by
 intro pins s σ H xs us Q I r h
 rcases h with⟨i,rfl,q⟩ | ⟨k,rfl,q⟩
 ·obtain⟨u,rfl,t,rfl⟩:=vals1 r
  exact call_int_int ⟨.int i,H,I,⟨_,rfl⟩,q⟩
 ·obtain⟨u,rfl,U⟩:=vals1 r
  cases U
  exact call_int_bool ⟨.int (if k then 1 else 0),H,I.tok _,⟨_,rfl⟩,q⟩
def LZ(K:sB)(x:V)(H:Hp)(n:Nat):Prop:=
 match x with
 | .str y=>y.length<=sizeLine/\n=y.length
 | .byt y=>y.size<=sizeLine/\n=y.size
 | .ref p=>(∃xs,SqL K H p xs/\n=xs.length)\/∃xs,SqT K H p xs/\n=xs.length
 | _=>False
theorem cG:jw X (.builtin "len") (λxs H Q=>∃x n,xs=[x]/\LZ X.K x H n/\Q (.int n) H):=by
 intro pins s σ H xs us Q I r h
 obtain⟨x,n,rfl,e,q⟩:=h
 obtain⟨u,rfl,rx⟩:=vals1 r
 have hl:=qe
 have hs:sizeLine=16777216:=sizeLine_eq
 cases x with
 | str y=>
  obtain⟨t,rfl⟩:=rx
  obtain⟨hy,Y⟩:y.length<=sizeLine/\n=y.length:=e
  subst Y
  exact len_str (by omega) ⟨.int _,H,I.tok _,⟨_,rfl⟩,q⟩
 | byt y=>
  obtain⟨t,rfl⟩:=rx
  obtain⟨hy,Y⟩:y.size<=sizeLine/\n=y.size:=e
  subst Y
  exact PySem.W.len_bytes (by omega) ⟨.int _,H,I.tok _,⟨_,rfl⟩,q⟩
 | ref p=>
  cases rx
  have Y:(∃xs,SqL X.K H p xs/\n=xs.length)\/∃xs,SqT X.K H p xs/\n=xs.length:=e
  rcases Y with⟨xs,hx,Y⟩ | ⟨xs,hx,Y⟩
  ·subst Y
   obtain⟨ac,r',pl,hz⟩:=I.list hx
   have U:=r'.length
   exact Calls.call_len_list pl.isList (by simp only[wS];omega) ⟨.int xs.length,H,I.tok _,⟨_,by simp only[wS];rw[U]⟩,q⟩
  ·subst Y
   obtain⟨ac,r',pl,hz⟩:=I.tuple hx
   have U:=r'.length
   exact len_tuple pl (by simp only[wS];omega) ⟨.int xs.length,H,I.tok _,⟨_,by simp only[wS];rw[U]⟩,q⟩
 | _=>exact(show False from e).elim
end
structure vD(h:Heap)(x dx C:Addr)(mA:Str->Option Value):Prop where
 obj:h.get? x=some (P9 C dx)
 ns:h.Ns1 dx mA
 ne:dx≠x
theorem FQ{dx:Addr}{mA:Str->Option Value}(n:h.Ns1 dx mA):∃od,h.get? dx=some od/\∀name,Ro name od=some (mA name):=by
 obtain⟨o,es,ep,Y,hd,hk,_,hm⟩:=n
 refine⟨o,Y,λname=> ?_⟩
 have e:=hm name
 unfold nsFind findBy at e
 rw[<- Array.find?_toList] at e
 unfold Ro
 rw[hd]
 dsimp only
 split
 ·rename_i y q
  rw[q] at e
  exact congrArg some e
 ·rename_i q
  rw[q] at e
  have a:es.toList.any (·.refKey)=false:=by
   rw[RC]
   intro y hy
   obtain⟨z,t,U⟩:=hk y (Array.mem_toList_iff.mp hy)
   simp[DictEntry.refKey,U]
  have a':¬es.toList.any (·.refKey)=true:=by rw[a];exact x0
  rw[if_neg a']
  exact congrArg some e
theorem vD.look{x dx C:Addr}{mA:Str->Option Value}(I:vD h x dx C mA):∃od,PySem.W.InstAt h x (P9 C dx) C (some od)/\∀name,Ro name od=some (mA name):=
 let ⟨od,ho,hl⟩:=FQ I.ns
 ⟨od,⟨I.obj,rfl,rfl,ho⟩,hl⟩
section
variable {prog : Program} {w : World} {A : Around} {E : Value → Shared → Prop} {s : Shared} {K : sB} {x dx C f : Addr} {mA : Str → Option Value} {name : Str} {v : Value}
theorem get_map {U:Bool} {Q:Value->Shared->Prop} (X:K.In s.heap) (I:vD s.heap x dx C mA) (hg:QM K C name=true) (hh:QW K C=true)
 (ha:EQ K (.ref C) name=some none) (hv:mA name=some v) (Y:SG v=true) (h:Q v {s with toks:=s.toks+1}):
 wpAny (model prog w) A (getAttr (.ref x) name U) Q E s:=by
 obtain⟨od,J,hl⟩:=I.look
 exact PySem.W.get_value X J (Rk hg).1 (PySem.W.findObj_own hh ha rfl (by rw[hl,hv])) Y h
theorem HI {pl:Sem Bool} {Q:Value×List Value->Shared->Prop} (X:K.In s.heap) (I:vD s.heap x dx C mA) (U:QM K C name=true)
 (Y:EQ K (.ref C) name=some (some (.ref f))) (ht:Qb K (.ref f)=true) (hv:mA name=none) (h:Q (.ref f,[.ref x]) s):
 wpAny (model prog w) A (getMethod (.ref x) name pl) Q E s:=by
 obtain⟨od,J,hl⟩:=I.look
 exact PySem.W.method_fn X J (Rk U).1 (Rk U).2 Y (beq_iff_eq.mp ht) (by show (Ro name od).map (·.isSome)=some false;rw[hl,hv];rfl) h
theorem K5 {ns:List Str} {Q:Unit->Shared->Prop} (X:K.In s.heap) (I:vD s.heap x dx C mA)
 (hs:EQ K (.ref C) "__setattr__" =some (some (.builtin "object.__setattr__"))) (hp:RD K C=true) (ht:RZ K C name=some none) (hh:QW K C=true)
 (hw:Sj mA ns) (a1:ns.length<=sizeLine)
 (h:∀h',vD h' x dx C (λy=>if y=name then some v else mA y)->Heap.SameBut dx s.heap h'->Q () {s with heap:=h',toks:=s.toks+2}):
 wpAny (model prog w) A (setAttr (.ref x) name v) Q E s:=by
 obtain⟨od,J,hl⟩:=I.look
 refine PySem.W.set_plain X J hs (PySem.W.osa_open (s:={s with toks:=s.toks+1}) (r:=none) X J hp ht λb=> ?_)
 obtain⟨cd,hc,ab⟩:=PySem.W.any_some hh
 have hx:s.heap.get? x=some ⟨.ref C,some dx,.plain,#[]⟩:=I.obj
 refine wpAny_bind (wpAny_pure (wpAny_bind (wpAny_bind (wpAny_loadPart hx (wpAny_bind (Tp (s:={s with toks:=s.toks+1}) (PySem.W.looks_clsIn X hc) ?_))))))
 rw[ab]
 refine wpAny_pure (a:=some dx) (wpAny_bind (wpAny_pure (wpAny_bind ?_)))
 refine wpAny_nsSet1 (s:={s with toks:=s.toks+1}) I.ns λh' U Y=> ?_
 obtain⟨oD,a2,a3,ac,ae,am⟩:=U.count (PySem.Within.cons name v hw)
 refine wpAny_bind (wpAny_lookBehind ac (by rw[ae];exact pastItsLine_dict (Pk am (by rw[wE];omega))) ?_)
 exact wpAny_pure (h _ ⟨(Y.2 _ (P0 I.ne)).trans I.obj,U,I.ne⟩ Y)
theorem IG {R:Result->Shared->Prop} {vs:List Value} {kw:List (Str×Value)} (X:K.In s.heap) (hm:R0 K C=true)
 (hi:EQ K (.ref C) "__init__" =some (some (.ref f))) (U:PySem.W.typeIn K (.ref f)=some (.type "function"))
 (h:codeAny (model prog w) (A.under (.builtin "type.__call__" ⟨.ref C::vs,kw⟩)) (.call (.ref f) ⟨.ref (s.heap.objs.size+1)::vs,kw⟩) (PySem.W.InitBack (s.heap.objs.size+1) R)
  {s with heap:=(s.heap.push PK).push (P9 C s.heap.objs.size)}):
 codeAny (model prog w) A (.call (.ref C) ⟨vs,kw⟩) R s:=by
 obtain⟨Y,g,d,t,os⟩:=s
 exact PySem.W.make_core (PySem.W.makes_of X hm) (PySem.W.looks_findIn X hi) (λself=>PySem.W.bind_fn X self U) (.inl rfl) h
end
def iY(f:Str)(v:V):List (Str×V)->List (Str×V)
 | []=>[(f,v)]
 | (g,x)::r=>if g=f then (g,v)::r else (g,x)::iY f v r
theorem uT(f g:Str)(v:V):∀fs:List (Str×V),(iY f v fs).lookup g=if g=f then some v else fs.lookup g
 | []=>by
  show QE g [(f,v)]=_
  by_cases h:g=f
  ·have hb:(g == f)=true:=beq_iff_eq.mpr h
   simp only[QE,hb,if_pos h]
  ·have hb:(g == f)=false:=beq_eq_false_iff_ne.mpr h
   simp only[QE,hb,if_neg h]
 | (k,x)::r=>by
  have U:=uT f g v r
  rw[show iY f v ((k,x)::r)=(if k=f then (k,v)::r else (k,x)::iY f v r) from rfl]
  by_cases hk:k=f
  ·rw[if_pos hk]
   by_cases h:g=k
   ·have hb:(g == k)=true:=beq_iff_eq.mpr h
    simp only[QE,hb,if_pos (h.trans hk)]
   ·have hb:(g == k)=false:=beq_eq_false_iff_ne.mpr h
    simp only[QE,hb,if_neg (λe:g=f=>h (e.trans hk.symm))]
  ·rw[if_neg hk]
   by_cases h:g=k
   ·have hb:(g == k)=true:=beq_iff_eq.mpr h
    simp only[QE,hb,if_neg (λe:g=f=>hk (h.symm.trans e))]
   ·have hb:(g == k)=false:=beq_eq_false_iff_ne.mpr h
    simp only[QE,hb]
    exact U
theorem sr(f:Str)(v:V):∀fs:List (Str×V),f∈(iY f v fs).map (·.1)/\∀g,g∈fs.map (·.1)->g∈(iY f v fs).map (·.1)
 | []=>⟨by simp[iY],λg h=>by simp at h⟩
 | (k,x)::r=>by
  obtain⟨U,Y⟩:=sr f v r
  rw[show iY f v ((k,x)::r)=(if k=f then (k,v)::r else (k,x)::iY f v r) from rfl]
  by_cases hk:k=f
  ·rw[if_pos hk]
   subst hk
   exact⟨by simp,λg h=>by simpa using h⟩
  ·rw[if_neg hk]
   refine⟨?_,λg h=> ?_⟩
   ·rw[AC]
    exact wh _ U
   ·rw[AC] at h ⊢
    rcases wT.mp h with e | e
    ·exact wT.mpr (.inl e)
    ·exact wh _ (Y g e)
theorem uU(f:Str)(v:V):∀fs:List (Str×V),(iY f v fs).length<=fs.length+1
 | []=>by simp[iY]
 | (k,x)::r=>by
  have U:=uU f v r
  rw[show iY f v ((k,x)::r)=(if k=f then (k,v)::r else (k,x)::iY f v r) from rfl]
  by_cases hk:k=f
  ·rw[if_pos hk,wE,wE];omega
  ·rw[if_neg hk,wE,wE];omega
theorem pW.some_of{o:Option Value}(r:pW (some v) o):∃u,o=some u/\RelV v u:=by
 cases o with
 | none=>exact(show False from r).elim
 | some u=>exact⟨u,rfl,r⟩
theorem pW.none_of{o:Option Value}(r:pW none o):o=none:=by
 cases o with
 | none=>rfl
 | some u=>exact(show False from r).elim
theorem Gr(r:RelV v u):SG u=true:=by
 cases v with
 | non=>cases (show u=Value.none from r);rfl
 | bl b=>cases (show u=Value.bool b from r);rfl
 | int i=>obtain⟨t,e⟩:=(show ∃t,u=Value.int i t from r);cases e;rfl
 | str x=>obtain⟨t,e⟩:=(show ∃t,u=Value.str x t from r);cases e;rfl
 | byt b=>obtain⟨t,e⟩:=(show ∃t,u=Value.bytes b t from r);cases e;rfl
 | flt b=>obtain⟨t,e⟩:=(show ∃t,u=Value.float b t from r);cases e;rfl
 | ref a=>cases (show u=Value.ref a from r);rfl
 | ty n=>cases (show u=Value.type n from r);rfl
section
variable {P : Program} {w : World} {H H' : Hp} {h h' : Heap} {a C dx : Addr} {fs fs' : List (Str × V)}
theorem xo(U:HOk P w H h)(e:H a=some (.ins C dx fs)):∃mA,vD h a dx C mA/\(∀f,pW (fs.lookup f) (mA f))/\Sj mA (fs.map (·.1))/\fs.length<=1000/\H dx=some (.own a):=by
 obtain⟨d,z,ne,ob,mA,n,r,q⟩:=(show gv P w H h a (.ins C dx fs) from U a _ e)
 exact⟨mA,⟨ob,n,ne⟩,r,q,z,d⟩
end
structure Cls(K:sB)(C:Addr):Prop where
 pg:QM K C Str.empty=true
 hd:QW K C=true
 po:RD K C=true
 sa:EQ K (.ref C) "__setattr__" =some (some (.builtin "object.__setattr__"))
theorem Cls.get(c:Cls K C)(f:Str):QM K C f=true:=c.pg
def fk(K:sB)(C:Addr)(f:Str):Prop:=EQ K (.ref C) f=some none
theorem fk.taker{f:Str}(n:fk K C f):RZ K C f=some none:=by
 unfold RZ
 rw[show EQ K (.ref C) f=some none from n]
 rfl
structure Con(K:sB)(C:Addr)(f:Str)(v:V)(u:Value):Prop where
 at_:EQ K (.ref C) f=some (some u)
 rel:RelV v u
 get:RE K u "__get__" =some none
 cp:PySem.W.copiedNames.contains f=false
structure Meth(K:sB)(C:Addr)(m:Str)(f:Addr):Prop where
 at_:EQ K (.ref C) m=some (some (.ref f))
 fn:Qb K (.ref f)=true
 kp:IR K (.ref f)=true
section
variable {X : Cx} {pins : List (Addr × Obj)} {σ : St} {H : Hp} {s : Shared} {a C dx : Addr} {fs : List (Str × V)} {f : Str} {v : V} {A : Around} {E : Value → Shared → Prop}
theorem Ec {b:Bool} {Q:Value->Shared->Prop} (I:Inv X pins σ H s) (e:H a=some (.ins C dx fs)) (c:Cls X.K C) (n:fk X.K C f) (l:fs.lookup f=some v)
 (h:∀u s',Inv X pins σ H s'->RelV v u->Q u s'):wpAny (model X.prog X.w) A (getAttr (.ref a) f b) Q E s:=by
 obtain⟨mA,O,r,_,_,_⟩:=xo I.hok e
 obtain⟨u,hu,U⟩:=pW.some_of (v:=v) (o:=mA f) (by rw[<- l];exact r f)
 exact get_map I.kIn O (c.get f) c.hd n hu (Gr U) (h u _ (I.tok _) U)
theorem nH {m:Str} {g:Addr} {pl:Sem Bool} {Q:Value×List Value->Shared->Prop} (I:Inv X pins σ H s) (e:H a=some (.ins C dx fs)) (c:Cls X.K C) (k:Meth X.K C m g) (l:fs.lookup m=none)
 (h:Q (.ref g,[.ref a]) s):wpAny (model X.prog X.w) A (getMethod (.ref a) m pl) Q E s:=by
 obtain⟨mA,O,r,_,_,_⟩:=xo I.hok e
 have hn:mA m=none:=pW.none_of (by rw[<- l];exact r m)
 exact HI I.kIn O (c.get m) k.at_ k.fn hn h
theorem DD {y:V} {Q:Unit->Shared->Prop} (I:Inv X pins σ H s) (e:H a=some (.ins C dx fs)) (c:Cls X.K C) (n:fk X.K C f) (hl:fs.length<1000) (Y:RelV y u)
 (h:∀s',Inv X pins σ (upd H a (.ins C dx (iY f y fs))) s'->Q () s'):wpAny (model X.prog X.w) A (setAttr (.ref a) f u) Q E s:=by
 obtain⟨mA,O,r,wi,_,U⟩:=xo I.hok e
 have hz:(fs.map (·.1)).length<=sizeLine:=by rw[ut,sizeLine_eq];omega
 refine K5 I.kIn O c.sa c.po n.taker c.hd wi hz λh' O' sb=>h _ ?_
 have hd:∃o,h'.get? dx=some o:=let ⟨o,_,_,e',_⟩:=O'.ns;⟨o,e'⟩
 refine I.write (x:=a) (e:=dx) (by rw[e];exact Q9) (.inr U) (λb q hb z=>(sb.2 b hb).trans z) hd ?_
 refine⟨by rw[aS O.ne];exact U, ?_,O.ne,O'.obj,_,O'.ns,λg=> ?_,λg hg=> ?_⟩
 ·have:=uU f y fs;omega
 ·show pW ((iY f y fs).lookup g) (if g=f then some u else mA g)
  rw[uT]
  by_cases q:g=f
  ·rw[if_pos q,if_pos q];exact Y
  ·rw[if_neg q,if_neg q];exact r g
 ·by_cases q:g=f
  ·rw[q];exact(sr f y fs).1
  ·refine(sr f y fs).2 g (wi g λz=>hg ?_)
   show (if g=f then some u else mA g)=none
   rw[if_neg q];exact z
theorem Inv.made(I:Inv X pins σ H s):Inv X pins σ (upd (upd H s.heap.objs.size (.own (s.heap.objs.size+1))) (s.heap.objs.size+1) (.ins C s.heap.objs.size []))
 {s with heap:=(s.heap.push PK).push (P9 C s.heap.objs.size)}:=by
 have e1:(s.heap.push PK).get? s.heap.objs.size=some PK:=Heap.get?_push_size s.heap rfl
 have e2:((s.heap.push PK).push (P9 C s.heap.objs.size)).get? (s.heap.objs.size+1)=some (P9 C s.heap.objs.size):=by
  have:=Heap.get?_push_size (s.heap.push PK) (o:=P9 C s.heap.objs.size) rfl
  rwa [Heap.size_push] at this
 have e3:(s.heap.push PK).Ns s.heap.objs.size (λ_=>none):=⟨PK,#[],_,e1,rfl,(λe U=>absurd U (by simp)),λ_=>rfl⟩
 have Y:=I.laid (a:=s.heap.objs.size) (o:=.own (s.heap.objs.size+1)) (h':=s.heap.push PK) (t':=s.toks) (λb u q=>Heap.get?_push_of_some _ q) (wf _) ⟨_,e1⟩
 refine Y.laid (a:=s.heap.objs.size+1) (o:=.ins C s.heap.objs.size []) (t':=s.toks) (λb u q=>Heap.get?_push_of_some _ q) (Sl (Heap.size_push _ _)) ?_
 have ne:s.heap.objs.size≠s.heap.objs.size+1:=Do (Q5 _)
 refine⟨by rw[aS ne,bZ],Ph _,ne,e2,λ_=>none,(Heap.Ns1.of_empty e3).at λo q=>Heap.get?_push_of_some _ q,λ_=>Q9,λy hy=>absurd rfl hy⟩
theorem Ld {prog:Program} {w:World} {env:Env} {f:Str} {pos:Pos} {s:Shared} {Q:Value->Shared->Prop} (hb:attributeBase e f env (eval e env)=eval e env)
 (h:wpAny (model prog w) A (eval e env) (λo U=>wpAny (model prog w) A (getAttr o f true) Q E U) E s):wpAny (model prog w) A (eval (.Attribute e f pos) env) Q E s:=
 Attribute_any_ h (by rw[arm_eval_Attribute,hb])
end
def MH(K:sB)(ta:TE)(f:Str):TE:=λσ H Q=>ta σ H λx H1=>∃a C dx fs v,x=.ref a/\H1 a=some (.ins C dx fs)/\Cls K C/\fk K C f/\fs.lookup f=some v/\Q v H1
def L9(K:sB)(ta tv:TE)(f:Str):TS:=λD σ H=>tv σ H λy H1=>ta σ H1 λx H2=>∃a C dx fs,x=.ref a/\H2 a=some (.ins C dx fs)/\Cls K C/\fk K C f/\fs.length<1000/\
 D.nx σ (upd H2 a (.ins C dx (iY f y fs)))
section
variable {X : Cx} {o e value : Expr} {f : Str} {pos pos' tpos : Pos} {ta tv : TE}
theorem xc(U:PE X e ta)(hb:attributeBase e f X.env (eval e X.env)=eval e X.env):PE X (.Attribute e f pos) (MH X.K ta f):=by
 intro pins s σ H Q I h
 refine Ld hb (thn (U pins s σ H _ I h) λu s1 ⟨x,H1,I1,rx,a,C,dx,fs,v,ex,ea,c,n,l,q⟩=> ?_)
 subst ex
 obtain rfl:u=Value.ref a:=rx
 exact Ec I1 ea c n l λu' s2 Y ru=>⟨v,H1,Y,ru,q⟩
theorem A9(ha:PE X o ta)(U:PE X value tv)(Y:swapsWith value (some (.Attribute o f pos')) pos.line X.env=pure false):PS X (.Assign [.Attribute o f pos'] value pos) (L9 X.K ta tv f):=by
 intro pins s σ H D I h
 refine plainObj_wpAny_Assign_Attribute (thn (U pins s σ H _ I h) λu s1 ⟨y,H1,I1,ry,q⟩=>thn (ha pins s1 σ H1 _ I1 q) λov s2 ⟨x,H2,I2,rx,a,C,dx,fs,ex,ea,c,n,l,q2⟩=> ?_) Y
 subst ex
 obtain rfl:ov=Value.ref a:=rx
 exact DD I2 ea c n l ry λs3 I3=>⟨σ,_,I3,q2⟩
theorem M1 {pl:Sem Bool} {m:Str} {apos:Pos} {args:List Expr} {Q:Value->Shared->Prop} (Y:PE X e te) (I:Inv X pins σ H s)
 (h:te σ H λx H1=>∃a C dx fs g,x=.ref a/\H1 a=some (.ins C dx fs)/\Cls X.K C/\Meth X.K C m g/\fs.lookup m=none/\
  ∀s1,Inv X pins σ H1 s1->wpAny (model X.prog X.w) X.A (callWith pos (.ref g) [.ref a] (backTo pos (starEach args X.env)) (backToKw pos (keywordEach [] X.env))) Q X.xe s1)
 (ht:eval (.Call (.Attribute e m apos) args [] pos) X.env=(do
  let U <- eval e X.env
  standAt apos.atName
  let (f,first) <- holding [U] (getMethod U m pl)
  callWith pos f first (backTo pos (starEach args X.env)) (backToKw pos (keywordEach [] X.env)))):
 wpAny (model X.prog X.w) X.A (eval (.Call (.Attribute e m apos) args [] pos) X.env) Q X.xe s:=by
 refine QI (pl:=pl) (thn (Y pins s σ H _ I h) λu s1 ⟨x,H1,I1,rx,a,C,dx,fs,g,ex,ea,c,k,l,q⟩=> ?_) ht
 subst ex
 obtain rfl:u=Value.ref a:=rx
 exact nH I1 ea c k l (q s1 I1)
end
section
variable {X : Cx} {pins : List (Addr × Obj)} {σ : St} {H : Hp} {s : Shared} {A : Around} {E : Value → Shared → Prop} {Q : Value → Shared → Prop} {c : Value} {b : Bool}
inductive oI (K:sB) (H:Hp):V->Value->Prop where
 | non:oI K H .non (.type "NoneType")
 | bl (x:Bool):oI K H (.bl x) (.type "bool")
 | int (i:Int):oI K H (.int i) (.type "int")
 | str (x:Str):oI K H (.str x) (.type "str")
 | flt (x:UInt64):oI K H (.flt x) (.type "float")
 | lst {a:Addr} {xs:List V} (e:H a=some (.lst xs)):oI K H (.ref a) (.type "list")
 | frz {a:Addr} {o:Obj} {xs:List V} (e:H a=some (.frz o (.lst xs))):oI K H (.ref a) (.type "list")
 | tup {a:Addr} {xs:List V} (e:H a=some (.tup xs)):oI K H (.ref a) (.type "tuple")
 | dK {a:Addr} {kvs:List (Key×V)} (e:H a=some (.dK kvs)):oI K H (.ref a) (.type "dict")
 | dT {a:Addr} {kvs:List (List Key×V)} (e:H a=some (.dT kvs)):oI K H (.ref a) (.type "dict")
 | ins {a C dx:Addr} {fs:List (Str×V)} (e:H a=some (.ins C dx fs)) (cl:Cls K C) (ha:EQ K (.ref C) "__class__" =some (some (.builtin "object.__class__")))
  (hn:RE K (.builtin "object.__class__") "__get__" =some (some (.builtin "getset_descriptor.__get__"))) (htk:SV K (.builtin "object.__class__")=some true)
  (hm:Q3 K C (.type "object")=some true):oI K H (.ref a) (.ref C)
end
structure dk(k:Nat)(A:Around):Prop where
 hd:A.handled=none
 dp:A.depth+3*k+5<recursionLimit
 un:A.units+16*k+200<cLine
theorem dk.mono{j k:Nat}(r:dk k A)(h:j<=k):dk j A:=⟨r.hd,by have:=r.dp;omega,by have:=r.un;omega⟩
theorem dk.deeper(r:dk (k+1) A)(env:Env):dk k (A.deeper env):=
 ⟨r.hd,by have:=r.dp;show A.depth+1+3*k+5<_;omega,by have:=r.un;show A.units+3+16*k+200<_;omega⟩
theorem D7:(A.under (.builtin "type.__call__" ⟨.ref C::us,kw⟩)).depth=A.depth+1:=by
 first | rfl | simp[Around.under,Code.weight,Code.isCreation,Code.isGuard,Code.isCaller,Code.frames,Code.isFrame,guardIds]
theorem DX:(A.under (.builtin "type.__call__" ⟨.ref C::us,kw⟩)).units=A.units+1:=by
 first | rfl | simp[Around.under,Code.cUnits,Code.frames,Code.isFrame]
theorem dk.make(r:dk (k+1) A)(C:Addr)(us:List Value)(kw:List (Str×Value)):dk k (A.under (.builtin "type.__call__" ⟨.ref C::us,kw⟩)):=
 ⟨r.hd,by have:=r.dp;rw[D7];omega,by have:=r.un;rw[DX];omega⟩
theorem dk.depth(r:dk k A):A.depth<recursionLimit:=by have:=r.dp;omega
theorem dk.units(r:dk k A):A.units+64<cLine:=by have:=r.un;omega
def k6:TA:=λ_ H Q=>Q [] H
def fY(ta:TE)(U:TA):TA:=λσ H Q=>ta σ H λx H1=>U σ H1 λxs H2=>Q (x::xs) H2
section
variable {X : Cx} {e : Expr} {es : List Expr} {te : TE} {t : TA} {pos : Pos}
theorem au:PA X [] k6:=λ_ _ _ _ H Q I h=>Calls.spliced_nil ⟨[],H,I,.nil,h⟩
theorem ai(ha:PE X e te)(U:PA X es t)(Y:starEach (e::es) X.env=(false,eval e X.env)::starEach es X.env:=by rfl):PA X (e::es) (fY te t):=by
 intro pos pins s σ H Q I h
 rw[Y]
 show wpAny _ _ (spliced ((false,eval e X.env)::backTo pos (starEach es X.env))) _ _ s
 refine Calls.spliced_cons (thn (ha pins s σ H _ I h) λu s1 ⟨x,H1,I1,r1,q1⟩=> ?_)
 exact thn (U pos pins s1 σ H1 _ I1 q1) λus s2 ⟨xs,H2,I2,r2,q2⟩=>⟨x::xs,H2,I2,.cons r1 r2,q2⟩
def GQ(t:TA):TE:=λσ H Q=>t σ H λxs H1=>xs.length<=sizeLine/\∀p,H1 p=none->Q (.ref p) (upd H1 p (.tup xs))
def Bd(t:TA):TE:=λσ H Q=>t σ H λxs H1=>xs.length<=sizeLine/\∀p,H1 p=none->Q (.ref p) (upd H1 p (.lst xs))
theorem mM{x1}(h:PA X es t):PE X (.Tuple es x1 pos) (GQ t):=by
 intro pins s σ H Q I hq
 refine wpAny_Tuple_spliced (thn (h pos pins s σ H _ I hq) λus s1 ⟨xs,H1,I1,r,z,q⟩=>⟨by rw[<- r.length];exact z, ?_⟩)
 have U:H1 s1.heap.objs.size=none:=I1.hok.fresh (wf _)
 refine⟨.ref s1.heap.objs.size,upd H1 s1.heap.objs.size (.tup xs),I1.laid (t':=s1.toks) (λb u e=>Heap.get?_push_of_some _ e) (wf _) ?_,rfl,q _ U⟩
 exact⟨z,us,r,⟨_,Heap.get?_push_size _ rfl,rfl,_,rfl⟩⟩
theorem df(h:PA X es t):PE X (.List es pos) (Bd t):=by
 intro pins s σ H Q I hq
 refine wpAny_List_spliced (thn (h pos pins s σ H _ I hq) λus s1 ⟨xs,H1,I1,r,z,q⟩=>⟨by rw[<- r.length];exact z, ?_⟩)
 have U:H1 s1.heap.objs.size=none:=I1.hok.fresh (wf _)
 refine⟨.ref s1.heap.objs.size,upd H1 s1.heap.objs.size (.lst xs),I1.laid (t':=s1.toks) (λb u e=>Heap.get?_push_of_some _ e) (wf _) ?_,rfl,q _ U⟩
 exact⟨z,us,0,r,Heap.get?_push_size _ rfl⟩
end
abbrev Sp:=List V->Hp->VK->XK->Prop
abbrev CXT:=List Env->Hp->Shared->XK->Value->Shared->Prop
structure qa(P:Program)(w:World)(K:sB)(mg:Str->Option Value)(base:Heap)(A:Around)(outer:List Env)(s:Shared)(H:Hp):Prop where
 frames:A.frames=some outer
 mod:Mod K mg base
 bs:∀b o,base.get? b=some o->s.heap.get? b=some o/\H b=none
 bsz:base.objs.size<=s.heap.objs.size
 funs:s.heap.FunFrames base outer
 frf:∀b∈frs outer,H b=none
 hok:HOk P w H s.heap
 bare:AllBare s.gens
def CE(outer:List Env)(P:Program)(w:World)(H:Hp)(s:Shared)(Q:VK)(u:Value)(s':Shared):Prop:=
 ∃v H',s'.os=s.os/\AllBare s'.gens/\Un (frs outer) [] H H' s.heap s'.heap/\HOk P w H' s'.heap/\RelV v u/\Q v H'
def CR(CX:CXT)(outer:List Env)(P:Program)(w:World)(H:Hp)(s:Shared)(Q:VK)(E:XK)(r:Result)(s':Shared):Prop:=
 match r with
 | .ok (.ret u)=>CE outer P w H s Q u s'
 | .ok _=>False
 | .error e=>CX outer H s E e s'
structure ip(P:Program)(w:World)(K:sB)(mg:Str->Option Value)(base:Heap)(CX:CXT)(k:Nat)(f:Addr)(fd:FuncData)(ps:List Str)(sp:Sp):Prop where
 len:∀vs H Q E,sp vs H Q E->vs.length=ps.length
 run:∀(A:Around) (outer:List Env) (s:Shared) (H:Hp) (args:Args) (us:List Value) (vs:List V) (Q:VK) (E:XK),dk k A->qa P w K mg base A outer s H->BindsTo s fd args (ps.zip us)->Vals vs us->sp vs H Q E->
  codeAny (model P w) A (.call (.ref f) args) (CR CX outer P w H s Q E) s
theorem qa.make{outer:List Env}(e:qa P w K mg base A outer s H)(C:Addr)(us:List Value)(kw:List (Str×Value)):
 qa P w K mg base (A.under (.builtin "type.__call__" ⟨.ref C::us,kw⟩)) outer s H:=⟨by first | exact e.frames | (simpa[Around.under,Code.envs,Code.isFrame,pushEnvs] using e.frames),e.mod,e.bs,e.bsz,e.funs,e.frf,e.hok,e.bare⟩
section
variable {X : Cx} {pins : List (Addr × Obj)} {σ : St} {H : Hp} {s s' : Shared}
theorem Inv.env0(I:Inv X pins σ H s):qa X.prog X.w X.K X.mg X.base X.A X.stack s H:=
 ⟨I.ok.frames,I.ok.mod,I.bs,Pk I.ok.bsz I.sz,I.stack,I.stkFree,I.hok,I.bare⟩
theorem Inv.after{Q:VK}(I:Inv X pins σ H s)(h:CE X.stack X.prog X.w H s Q u s'):EP X pins σ Q u s':=by
 obtain⟨v,H',os,U,un,Y,r,q⟩:=h
 obtain⟨hh,g,d,t,ab⟩:=s'
 obtain rfl:ab=s.os:=os
 exact⟨v,H',I.call (h':=hh) (g':=g) (d':=d) (t':=t) (ch:=[]) un Y U (λb z=>absurd z (by simp)),r,q⟩
end
def nG(sp:Sp)(dvs:List V)(E:XK)(t:TA):TE:=λσ H Q=>t σ H λvs H1=>sp (vs++dvs) H1 Q E
def Eb(C:Addr)(m:Str)(sp:Sp)(dvs:List V)(E:XK)(ta:TE)(t:TA):TE:=λσ H Q=>ta σ H λx H1=>∃a dx fs,x=.ref a/\H1 a=some (.ins C dx fs)/\fs.lookup m=none/\
 t σ H1 λvs H2=>sp (x::(vs++dvs)) H2 Q E
def IW(C:Addr)(sp:Sp)(dvs:List V)(E:XK)(t:TA):TE:=λσ H Q=>t σ H λvs H1=>∀x dx,H1 x=none->H1 dx=none->dx≠x->
 sp (.ref x::(vs++dvs)) (upd (upd H1 dx (.own x)) x (.ins C dx [])) (λv H2=>v=.non/\Q (.ref x) H2) E
def Binds(K:sB)(fd:FuncData)(ps:List Str)(ds:List Value):Prop:=
 ∀(s:Shared) (us:List Value),K.In s.heap->(us++ds).length=ps.length->BindsTo s fd ⟨us,[]⟩ (ps.zip (us++ds))
theorem Binds.all{fd:FuncData}{ps:List Str}(h:∀us:List Value,us.length=ps.length->bindArgs fd ⟨us,[]⟩=pure (ps.zip us)):Binds K fd ps []:=λs us _ U=>by
 rw[PM] at U ⊢
 exact .of_eq (h us U)
def Passes(CX:CXT)(X:Cx)(E:XK):Prop:=∀(pins:List (Addr×Obj)) (σ:St) (H:Hp) (s:Shared) (e:Value) (s':Shared),Inv X pins σ H s->CX X.stack H s E e s'->X.xe e s'
section
variable {X : Cx} {CX : CXT} {k : Nat} {f C : Addr} {fd : FuncData} {ps : List Str} {sp : Sp} {dvs : List V} {ds : List Value} {E : XK} {x m : Str} {p pos apos : Pos} {e o : Expr} {es : List Expr} {ta : TE} {t : TA}
theorem Ao {pins:List (Addr×Obj)} {σ:St} {H:Hp} {s:Shared} {Q:VK} {us:List Value} {vs:List V} (F:ip X.prog X.w X.K X.mg X.base CX k f fd ps sp) (Y:dk k X.A) (hb:Binds X.K fd ps ds) (hd:Vals dvs ds) (hx:Passes CX X E)
 (I:Inv X pins σ H s) (r:Vals vs us) (h:sp (vs++dvs) H Q E):wpAny (model X.prog X.w) X.A (call (.ref f) us) (EP X pins σ Q) X.xe s:=by
 have U:Vals (vs++dvs) (us++ds):=r.append hd
 have hl:(us++ds).length=ps.length:=by rw[<- U.length];exact F.len _ _ _ _ h
 refine wpAny_call (codeAny_mono (F.run X.A X.stack s H ⟨us,[]⟩ (us++ds) (vs++dvs) Q E Y I.env0 (hb s us I.kIn hl) U h) λr s' hq=> ?_)
 cases r with
 | error e=>exact hx pins σ H s e s' I hq
 | ok fl=>
  cases fl with
  | ret u=>exact I.after hq
  | next=>exact ss hq
  | brk=>exact ss hq
  | cont=>exact ss hq
theorem K3 (F:ip X.prog X.w X.K X.mg X.base CX k f fd ps sp) (hr:dk k X.A) (hg:Gl X x) (hm:X.mg x=some (.ref f)) (hk:IR X.K (.ref f)=true) (hb:Binds X.K fd ps ds) (hd:Vals dvs ds) (hx:Passes CX X E)
 (ha:PA X (e::es) t) (U:(x == ("__debug__" :Str))=false:=by decide) (he:starEach (e::es) X.env=(false,eval e X.env)::starEach es X.env:=by rfl) (Y:(backTo pos (starEach es X.env)).any (·.1)=false:=by rfl):
 PE X (.Call (.Name x p) (e::es) [] pos) (nG sp dvs E t):=by
 intro pins s σ H Q I h
 refine wpAny_Call_Name_kw (mw I hg hm ?_ U)
 refine Ql (h₀:=X.base) I.ok.mod.kin hk (thn (ha pos pins s σ H _ I h) λus s1 ⟨vs,H1,I1,r,q⟩=>⟨I1.kIn, ?_⟩) he Y
 exact Ao F hr hb hd hx I1 r q
theorem Lb {pl:Sem Bool} (he:PE X o ta) (c:Cls X.K C) (hm:Meth X.K C m f) (F:ip X.prog X.w X.K X.mg X.base CX k f fd ps sp) (hr:dk k X.A) (hb:Binds X.K fd ps ds) (hd:Vals dvs ds) (hx:Passes CX X E) (ha:PA X (e::es) t)
 (U:starEach (e::es) X.env=(false,eval e X.env)::starEach es X.env:=by rfl) (Y:(backTo pos (starEach es X.env)).any (·.1)=false:=by rfl)
 (ht:eval (.Call (.Attribute o m apos) (e::es) [] pos) X.env=(do
  let ov <- eval o X.env
  standAt apos.atName
  let (f,first) <- holding [ov] (getMethod ov m pl)
  callWith pos f first (backTo pos (starEach (e::es) X.env)) (backToKw pos (keywordEach [] X.env))):=by rfl):
 PE X (.Call (.Attribute o m apos) (e::es) [] pos) (Eb C m sp dvs E ta t):=by
 intro pins s σ H Q I h
 refine QI (pl:=pl) (thn (he pins s σ H _ I h) λu s1 ⟨x,H1,I1,rx,a,dx,fs,ex,ea,l,q⟩=> ?_) ht
 subst ex
 obtain rfl:u=Value.ref a:=rx
 refine nH I1 ea c hm l ?_
 refine Ql (first:=[.ref a]) (h₀:=X.base) I.ok.mod.kin hm.kp (thn (ha pos pins s1 σ H1 _ I1 q) λus s2 ⟨vs,H2,I2,r,q2⟩=>⟨I2.kIn, ?_⟩) U Y
 exact Ao (us:=.ref a::us) (vs:=.ref a::vs) F hr hb hd hx I2 (.cons rfl r) q2
theorem vo {pl:Sem Bool} (Y:PE X o ta) (c:Cls X.K C) (hm:Meth X.K C m f) (F:ip X.prog X.w X.K X.mg X.base CX k f fd ps sp) (hr:dk k X.A) (hb:Binds X.K fd ps ds) (hd:Vals dvs ds) (hx:Passes CX X E)
 (ht:eval (.Call (.Attribute o m apos) [] [] pos) X.env=(do
  let U <- eval o X.env
  standAt apos.atName
  let (f,first) <- holding [U] (getMethod U m pl)
  callWith pos f first (backTo pos (starEach [] X.env)) (backToKw pos (keywordEach [] X.env))):=by rfl):
 PE X (.Call (.Attribute o m apos) [] [] pos) (Eb C m sp dvs E ta k6):=by
 intro pins s σ H Q I h
 refine QI (pl:=pl) (thn (Y pins s σ H _ I h) λu s1 ⟨x,H1,I1,rx,a,dx,fs,ex,ea,l,q⟩=> ?_) ht
 subst ex
 obtain rfl:u=Value.ref a:=rx
 refine nH I1 ea c hm l ?_
 exact PySem.W.callWith_K0 (first:=[.ref a]) I1.kIn hm.kp (Ao (us:=[.ref a]) (vs:=[.ref a]) F hr hb hd hx I1 (.cons rfl .nil) q)
structure Mk(K:sB)(C f:Addr):Prop where
 makes:R0 K C=true
 init:EQ K (.ref C) "__init__" =some (some (.ref f))
 fn:Qb K (.ref f)=true
 kp:IR K (.ref C)=true
theorem Hi {pins:List (Addr×Obj)} {σ:St} {H:Hp} {s:Shared} {Q:VK} {us:List Value} {vs:List V} (M:Mk X.K C f) (F:ip X.prog X.w X.K X.mg X.base CX k f fd ps sp) (hr:dk (k+1) X.A) (hb:Binds X.K fd ps ds) (hd:Vals dvs ds)
 (hx:Passes CX X E) (I:Inv X pins σ H s) (r:Vals vs us)
 (h:∀x dx,H x=none->H dx=none->dx≠x->sp (.ref x::(vs++dvs)) (upd (upd H dx (.own x)) x (.ins C dx [])) (λv H2=>v=.non/\Q (.ref x) H2) E):
 wpAny (model X.prog X.w) X.A (call (.ref C) us) (EP X pins σ Q) X.xe s:=by
 have hq:=h (s.heap.objs.size+1) s.heap.objs.size (I.hok.fresh (R6 _)) (I.hok.fresh (wf _)) (Do (Q5 _))
 have Y:=Inv.made (C:=C) I
 have r2:Vals (V.ref (s.heap.objs.size+1)::(vs++dvs)) (Value.ref (s.heap.objs.size+1)::(us++ds)):=.cons rfl (r.append hd)
 have hl:(Value.ref (s.heap.objs.size+1)::us++ds).length=ps.length:=by
  have e:=r2.length
  rw[F.len _ _ _ _ hq] at e
  exact e.symm
 refine wpAny_call (IG (f:=f) I.kIn M.makes M.init (beq_iff_eq.mp M.fn) (codeAny_mono (F.run _ X.stack _ _ ⟨Value.ref (s.heap.objs.size+1)::us,[]⟩ (Value.ref (s.heap.objs.size+1)::(us++ds)) _ _ E (hr.make C us [])
  (Y.env0.make C us []) (hb _ (Value.ref (s.heap.objs.size+1)::us) Y.kIn hl) r2 hq) λr s' U=> ?_))
 cases r with
 | error e=>exact hx pins σ _ _ e s' Y U
 | ok fl=>
  cases fl with
  | ret u=>
   obtain⟨v,H',I3,rv,ev,q3⟩:=Y.after U
   subst ev
   exact⟨rv,⟨V.ref (s.heap.objs.size+1),H',I3,rfl,q3⟩⟩
  | next=>exact ss U
  | brk=>exact ss U
  | cont=>exact ss U
theorem K2 (M:Mk X.K C f) (F:ip X.prog X.w X.K X.mg X.base CX k f fd ps sp) (hr:dk (k+1) X.A) (hg:Gl X x) (hm:X.mg x=some (.ref C)) (hb:Binds X.K fd ps ds) (hd:Vals dvs ds) (hx:Passes CX X E)
 (ha:PA X (e::es) t) (U:(x == ("__debug__" :Str))=false:=by decide) (he:starEach (e::es) X.env=(false,eval e X.env)::starEach es X.env:=by rfl) (Y:(backTo pos (starEach es X.env)).any (·.1)=false:=by rfl):
 PE X (.Call (.Name x p) (e::es) [] pos) (IW C sp dvs E t):=by
 intro pins s σ H Q I h
 refine wpAny_Call_Name_kw (mw I hg hm ?_ U)
 refine Ql (h₀:=X.base) I.ok.mod.kin M.kp (thn (ha pos pins s σ H _ I h) λus s1 ⟨vs,H1,I1,r,q⟩=>⟨I1.kIn, ?_⟩) he Y
 exact Hi M F hr hb hd hx I1 r q
end
section
variable {X : Cx} {CX : CXT} {k : Nat} {f C : Addr} {fd : FuncData} {ps ks : List Str} {sp : Sp} {E : XK} {x m : Str} {p pos apos kpos : Pos} {e o : Expr} {es : List Expr} {kws : List Keyword} {te ta : TE} {t tk : TA} {nm : Option Str}
structure OY(K:sB)(fd:FuncData)(ps ks:List Str)(g:List Value->List Value->List Value)(gV:List V->List V->List V):Prop where
 to:∀(s:Shared) (us ws:List Value),K.In s.heap->(g us ws).length=ps.length->BindsTo s fd ⟨us,ks.zip ws⟩ (ps.zip (g us ws))
 rel:∀{vs:List V} {us:List Value} {zs:List V} {ws:List Value},Vals vs us->Vals zs ws->Vals (gV vs zs) (g us ws)
variable {g : List Value → List Value → List Value} {gV : List V → List V → List V}
end
structure a0(N P:List Str)(sc:Scope):Prop where
 kind:sc.kind=.function
 co:sc.isCoroutine=false
 gen:sc.isGenerator=false
 nd:N.Nodup
 pre:N.take P.length=P
 par:∀x∈P,sc.names.lookup x=some .local\/sc.names.lookup x=some .cell
 nofree:∀y∈sc.names,y.2≠ .free
theorem yZ{kindOf:Str->Option NameKind}{x:Str}:∀{binds:List (Str×Value)} {m:Str->Option Value},(∀v,(x,v)∉binds)->bindL kindOf binds m x=m x
 | [],_,_=>rfl
 | (n,v)::r,m,h=>by
  unfold bindL
  rw[yZ λw U=>h w (wh _ U)]
  split
  ·have:x≠n:=by rintro rfl;exact h v wv
   simp[this]
  ·rfl
theorem yY{kindOf:Str->Option NameKind}{x:Str}:∀{binds:List (Str×Value)} {m:Str->Option Value},(∀v,(x,v)∉binds)->bindC kindOf binds m x=m x
 | [],_,_=>rfl
 | (n,v)::r,m,h=>by
  unfold bindC
  rw[yY λw U=>h w (wh _ U)]
  split
  ·rfl
  ·have:x≠n:=by rintro rfl;exact h v wv
   simp[this]
theorem yC{kindOf:Str->Option NameKind}{x:Str}{v:Value}:∀{P:List Str} {vs:List Value} {i:Nat} {m:Str->Option Value},P.Nodup->P[i]? =some x->vs[i]? =some v->kindOf x=some .local->
 bindL kindOf (P.zip vs) m x=some v
 | [],_,_,_,_,h,_,_=>by simp at h
 | _::_,[],_,_,_,_,h,_=>by simp at h
 | p::P,w::vs,0,m,nd,h1,h2,hk=>by
  simp at h1 h2;subst h1;subst h2
  show bindL kindOf ((p,w)::P.zip vs) m p=_
  unfold bindL
  rw[yZ λv U=>(PU.mp nd).1 (Ps U).1,if_pos hk]
  simp
 | p::P,w::vs,i+1,m,nd,h1,h2,hk=>by
  show bindL kindOf ((p,w)::P.zip vs) m x=_
  unfold bindL
  exact yC (i:=i) (PU.mp nd).2 (by simpa using h1) (by simpa using h2) hk
theorem yO{kindOf:Str->Option NameKind}{x:Str}{v:Value}:∀{P:List Str} {vs:List Value} {i:Nat} {m:Str->Option Value},P.Nodup->P[i]? =some x->vs[i]? =some v->kindOf x≠some .local->
 bindC kindOf (P.zip vs) m x=some v
 | [],_,_,_,_,h,_,_=>by simp at h
 | _::_,[],_,_,_,_,h,_=>by simp at h
 | p::P,w::vs,0,m,nd,h1,h2,hk=>by
  simp at h1 h2;subst h1;subst h2
  show bindC kindOf ((p,w)::P.zip vs) m p=_
  unfold bindC
  rw[yY λv U=>(PU.mp nd).1 (Ps U).1,if_neg hk]
  simp
 | p::P,w::vs,i+1,m,nd,h1,h2,hk=>by
  show bindC kindOf ((p,w)::P.zip vs) m x=_
  unfold bindC
  exact yO (i:=i) (PU.mp nd).2 (by simpa using h1) (by simpa using h2) hk
def start(N:List Str)(vs:List V):St:=vs.map some++tz (N.length-vs.length) none
def lr(CX:CXT)(P:Program)(w:World)(K:sB)(mg:Str->Option Value)(base:Heap)(N:List Str)(qual:Str)(scope:Scope)(f:Addr)(cd:Value)(A:Around)(outer:List Env)(s:Shared)(H:Hp)(E:XK):Cx where
 prog:=P
 w:=w
 K:=K
 mg:=mg
 base:=base
 A:=A.deeper (envOfC qual scope s.heap.objs.size f cd)
 N:=N
 s₀:=s
 H₀:=H
 env:=envOfC qual scope s.heap.objs.size f cd
 outer:=outer
 stack:=envOfC qual scope s.heap.objs.size f cd::outer
 ex:=[]
 calm:=true
 fn:=λ_=>true
 pn:=[]
 xe:=λe s'=>wpAny (model P w) (A.deeper (envOfC qual scope s.heap.objs.size f cd)) (leaving (envOfC qual scope s.heap.objs.size f cd) e) (λ_ s''=>CX outer H s E e s'') (λe' s''=>CX outer H s E e' s'') s'
theorem Bn{sc:Scope}{n:Nat}(h:sc.names.lookup x=some .cell):∃c,(cellsFrom n sc.names []).lookup x=some c:=by
 have q:=Qh sc.names n [] (.inl h)
 exact Qc.mp q
theorem zf {CX:CXT} {P:Program} {w:World} {K:sB} {mg:Str->Option Value} {base:Heap} {N ps:List Str} {qual:Str} {scope:Scope} {f:Addr} {cd:Value} {A:Around} {outer:List Env} {s s1:Shared} {H:Hp} {E:XK} {us:List Value} {vs:List V}
 (S:a0 N ps scope) (hd:A.handled=none) (U:qa P w K mg base A outer s H) (hl:vs.length=ps.length) (r:Vals vs us)
 (x:InCallC s s.heap.objs.size (bindL (envOfC qual scope s.heap.objs.size f cd).kindOf (ps.zip us) λ_=>none) (cellsFrom (s.heap.objs.size+1) scope.names []) (bindC (envOfC qual scope s.heap.objs.size f cd).kindOf (ps.zip us) λ_=>none) s1):
 Inv (lr CX P w K mg base N qual scope f cd A outer s H E) [] (start N vs) H s1:=by
 have ac:ps.length<=N.length:=by have:=congrArg QF S.pre;rw[PY] at this;omega
 obtain⟨h1,tk,rfl,hk⟩:=x.done
 have Y:∀b:Addr,b∉(lr CX P w K mg base N qual scope f cd A outer s H E).ex:=λb z=>absurd (show b∈([]:List Addr) from z) (by simp)
 refine⟨⟨U.mod,S.kind,rfl,rfl,wf _,λy z c h1 h2=> ?_,λy hy=> ?_,λy c _ h=> ?_,λ_=>hd,Around.frames_deeper U.frames,.inr ⟨rfl,rfl⟩,λb z=>absurd z (Y b),U.bs,U.bsz,λb _ _=>Y b,λb z=>absurd z (Y b),U.funs,U.frf⟩,
  rfl,U.bare,Un.kept hk,⟨_,x.toInCall.ns,λi y v h1 h2 h3=> ?_⟩,λy c h=>⟨_,x.cell y c h⟩,U.hok.fresh (wf _),λy c h=> ?_,λp hp=>absurd (show p∈([]:List (Addr×Obj)) from hp) (by simp),U.hok.kept hk, ?_⟩
 ·exact name_of_addr x.apart (Qz h1) (Qz h2)
 ·have hy:scope.names.lookup y=some .cell\/scope.names.lookup y=some .free:=hy
  rcases hy with hy | hy
  ·exact Bn hy
  ·exact absurd rfl (S.nofree _ (Qz hy))
 ·exact Qj (x.above y c (Qz h))
 ·have hi:i<vs.length:=by
   unfold start at h2
   by_cases hi:i<vs.length
   ·exact hi
   ·rw[wn (by simpa using hi)] at h2
    rw[Gc] at h2
    split at h2 <;> cases h2
  have ha:vs[i]? =some v:=by
   unfold start at h2
   rw[w6 (by simpa using hi),xL] at h2
   cases e:vs[i]? with
   | none=>rw[e] at h2;cases h2
   | some a=>rw[e] at h2;cases h2;rfl
  obtain⟨u,hu,rv⟩:=r.get ha
  have hp:ps[i]? =some y:=by
   rw[<- S.pre,RM (by omega)];exact h1
  have ab:ps.Nodup:=by rw[<- S.pre];exact S.nd.sublist (List.take_sublist _ _)
  refine⟨u,rv, ?_⟩
  rcases S.par y (No hp) with k | k
  ·exact .inl ⟨k,yC ab hp hu k⟩
  ·obtain⟨c,e⟩:=Bn (n:=s.heap.objs.size+1) k
   refine .inr ⟨.inl k,c,e, ?_⟩
   have q:=x.cell y c e
   rw[yO ab hp hu (by show scope.names.lookup y≠_;rw[k];decide)] at q
   exact q
 ·exact U.hok.fresh (Qj (x.above y c (Qz h)))
 ·unfold start
  show _=N.length
  rw[FS,ut,QJ]
  omega
theorem M7 {CX:CXT} {P:Program} {w:World} {K:sB} {mg:Str->Option Value} {base:Heap} {k:Nat} {f:Addr} {name qual:Str} {Y:Arguments} {body:List Stmt} {scope:Scope} {dV kV am pm U ct oc:Value} {an od:Option Addr}
 {a4:Array (Option Value)} {N ps:List Str} {sp:Sp} (lk:K.lookup f=some ⟨oc,od,.func (Ix name qual Y body scope dV kV am pm an U ct),a4⟩) (a5:Pr K U qual=true) (S:a0 N ps scope)
 (ap:∀vs H Q E,sp vs H Q E->vs.length=ps.length)
 (ab:∀(A:Around) (outer:List Env) (s:Shared) (H:Hp) (vs:List V) (Q:VK) (E:XK),dk k (A.deeper (envOfC qual scope s.heap.objs.size f U))->sp vs H Q E->
  ∃t,PSs (lr CX P w K mg base N qual scope f U A outer s H E) body t/\t {nx:=λ_ H'=>Q .non H',rt:=Q} (start N vs) H):
 ip P w K mg base CX (k+1) f (Ix name qual Y body scope dV kV am pm an U ct) ps sp:=by
 refine⟨ap,λA outer s H args us vs Q E hr e0 hb r a1=> ?_⟩
 have hl:=ap _ _ _ _ a1
 have KX:K.In s.heap:=e0.mod.kin.keeps λb o e=>(e0.bs b o e).1
 have bd:s.heap.NoLimit:=e0.mod.nolimit.keeps λb o e=>(e0.bs b o e).1
 have ac:∀y∈ps.zip us,scope.names.lookup y.1=some .local\/(scope.names.lookup y.1=some .cell/\((cellsFrom (s.heap.objs.size+1) scope.names []).lookup y.1).isSome=true):=λ⟨n,v⟩ hy=>by
  rcases S.par n (Ps hy).1 with q | q
  ·exact .inl q
  ·exact .inr ⟨q,Qh _ _ _ (.inl q)⟩
 refine codeAny_call_function hr.depth (KX _ _ lk) rfl S.co S.gen rfl (Sm KX a5) (hb _ _ _ _ ?_)
 refine wpAny_newFunctionEnv_cells S.kind ac λenv he s1 x=> ?_
 subst he
 refine⟨bd.keeps x.toInCall.keep,codeAny_func ?_⟩
 obtain⟨t,ht,hq⟩:=ab A outer s H vs Q E (hr.deeper _) a1
 have I:Inv (lr CX P w K mg base N qual scope f U A outer s H E) [] (start N vs) H s1:=zf S hr.hd e0 hl r x
 refine wpAny_mono (ht [] s1 (start N vs) H _ I hq) (λfl s' hs=> ?_) λe s' hs=>hs
 have a2:∀{σ':St} {H':Hp} {v:V} {u:Value},Inv (lr CX P w K mg base N qual scope f U A outer s H E) [] σ' H' s'->RelV v u->Q v H'->CE outer P w H s Q u s':=
  λ{σ' H' v u} J rv q=>⟨v,H',J.os,J.bare,J.base,J.hok,rv,q⟩
 cases fl with
 | ret u=>
  obtain⟨v,σ',H',J,rv,q⟩:=hs
  exact a2 J rv q
 | next=>
  obtain⟨σ',H',J,q⟩:=hs
  exact a2 (v:=V.non) (u:=Value.none) J rfl q
 | brk=>
  obtain⟨_,_,_,q⟩:=hs
  exact ss q
 | cont=>
  obtain⟨_,_,_,q⟩:=hs
  exact ss q
section
variable {X : Cx} {x : Str} {p pos : Pos} {e : Expr} {es : List Expr} {t : TA} {id T : String} {r : List V → Hp → VK → Prop}
def tCB(r:List V->Hp->VK->Prop)(t:TA):TE:=λσ H Q=>t σ H λvs H1=>r vs H1 Q
theorem a9 (hc:jw X (.builtin id) r) (hg:Gl X x) (hm:X.mg x=none) (hv:bootBuiltins x=some (.builtin id)) (ha:PA X (e::es) t) (hn:x≠"__name__" :=by decide) (U:(x == ("__debug__" :Str))=false:=by decide)
 (he:starEach (e::es) X.env=(false,eval e X.env)::starEach es X.env:=by rfl) (Y:(backTo pos (starEach es X.env)).any (·.1)=false:=by rfl):PE X (.Call (.Name x p) (e::es) [] pos) (tCB r t):=by
 intro pins s σ H Q I h
 refine wpAny_Call_Name_kw (o6 I hg hm hv ?_ hn U)
 exact PyProof.Rows.callWith_builtin1 (thn (ha pos pins s σ H _ I h) λus s1 ⟨vs,H1,I1,r1,q1⟩=>hc pins s1 σ H1 vs us Q I1 r1 q1) he Y
theorem c9 (hc:jw X (.type T) r) (hg:Gl X x) (hm:X.mg x=none) (hv:bootBuiltins x=some (.type T)) (ha:PA X (e::es) t) (hn:x≠"__name__" :=by decide) (U:(x == ("__debug__" :Str))=false:=by decide)
 (he:starEach (e::es) X.env=(false,eval e X.env)::starEach es X.env:=by rfl) (Y:(backTo pos (starEach es X.env)).any (·.1)=false:=by rfl):PE X (.Call (.Name x p) (e::es) [] pos) (tCB r t):=by
 intro pins s σ H Q I h
 refine wpAny_Call_Name_kw (o6 I hg hm hv ?_ hn U)
 exact Qk (thn (ha pos pins s σ H _ I h) λus s1 ⟨vs,H1,I1,r1,q1⟩=>hc pins s1 σ H1 vs us Q I1 r1 q1) he Y
end
end L2
namespace HT
open PySem PyProof.Rows
def lexLt:List Int->List Int->Bool
 | [],[]=>false
 | [],_::_=>true
 | _::_,[]=>false
 | x::xs,y::ys=>if x=y then lexLt xs ys else decide (x<y)
theorem nS(x y:Int)(xs ys:List Int):lexLt (x::xs) (y::ys)=if x=y then lexLt xs ys else decide (x<y):=rfl
theorem Hb(A:Around)(s:Shared)(a:Int)(t:Tok)(c:Int)(u:Tok):∃e,SeqAt.EqAt A s (.int a t) (.int c u) e/\(e=true↔a=c):=
 ⟨(a == c),SeqAt.EqAt.int_int a t c u,by simp⟩
theorem Au(A:Around)(s:Shared)(a:Int)(t:Tok)(c:Int)(u:Tok)(prog:Program)(w:World)(E:Value->Shared->Prop)(Q:Value->Shared->Prop)(h:Q (.bool (decide (a<c))) s):
 wpAny (model prog w) A (richCompare .Lt (.int a t) (.int c u)) Q E s:=
 (PyProof.Rows.lt_int h:wpAny (model prog w) A (compareOp .Lt (.int a t) (.int c u)) Q E s)
section
open PySem.SeqAt
open PySem.AutoSeq1 (wpAny_loadPart')
open PySem.MeetsSeq PySem.MeetsSeq2 PySem.MeetsSeq3
end
section
variable {prog : Program} {w : World} {A : Around} {E : Value → Shared → Prop} {s : Shared}
def sIx(n d:Nat):Option Int->Nat
 | none=>d
 | some v=>if v<0 then (v+(n:Int)).toNat else min v.toNat n
theorem vt(n d:Nat):sIx n d none=d:=rfl
theorem qv(n d k:Nat):sIx n d (some (k:Int))=min k n:=by
 show (if (k:Int)<0 then ((k:Int)+(n:Int)).toNat else min (k:Int).toNat n)=min k n
 rw[if_neg (by omega),Su]
end
end HT
namespace L2
open PySem PySem.Spec PyProof.Rows
variable {n : Nat} {pins : List (Addr × Obj)} {σ : St} {H : Hp} {s : Shared} {xs : List V} {x : V}
abbrev TO:=St->Hp->(Option Int->Hp->Prop)->Prop
def PO(X:Cx)(e:Option Expr)(t:TO):Prop:=
 ∀(pins:List (Addr×Obj)) (s:Shared) (σ:St) (H:Hp) (Q:Option Int->Hp->Prop),Inv X pins σ H s->t σ H Q->
  wpAny (model X.prog X.w) X.A (evalPart e X.env) (λu s'=>∃o H',Inv X pins σ H' s'/\IsPart u o/\Q o H') X.xe s
def CN:TO:=λ_ H Q=>Q none H
def Jn(t:TE):TO:=λσ H Q=>t σ H λx H1=>∃i,x=.int i/\Q (some i) H1
section
variable {X : Cx} {e : Expr} {te : TE} {lo hi : Option Expr} {tl th : TO} {pos p2 : Pos}
theorem lP:PO X none CN:=by
 intro pins s σ H Q I h
 rw[evalPart_none]
 exact wpAny_pure ⟨none,H,I,.none,h⟩
theorem kF(h:PE X e te):PO X (some e) (Jn te):=by
 intro pins s σ H Q I U
 rw[evalPart_some]
 refine thn (h pins s σ H _ I U) λu s1 ⟨x,H1,I1,r1,q1⟩=> ?_
 obtain⟨i,rfl,q⟩:=q1
 obtain⟨t,rfl⟩:=r1
 exact⟨some i,H1,I1,.int i t,q⟩
def SlR(X:Cx)(r:V->Option Int->Option Int->Hp->VK->Prop):Prop:=
 ∀(pins:List (Addr×Obj)) (s:Shared) (σ:St) (H:Hp) (x:V) (v U Y:Value) (lo hi:Option Int) (sl:Addr) (Q:VK),Inv X pins σ H s->RelV x v->s.heap.IsSliceOf sl U Y .none->IsPart U lo->IsPart Y hi->r x lo hi H Q->
  ∃T id,typeLookup (.type T) "__getitem__" =pure (some (.builtin id))/\s.TypeIs v T/\wpAny (model X.prog X.w) X.A (getItem v (.ref sl)) (EP X pins σ Q) X.xe s
def tSl(r:V->Option Int->Option Int->Hp->VK->Prop)(te:TE)(tl th:TO):TE:=λσ H Q=>te σ H λx H1=>tl σ H1 λl H2=>th σ H2 λu U=>r x l u U Q
theorem lY{r:V->Option Int->Option Int->Hp->VK->Prop}(U:SlR X r)(Y:PE X e te)(hl:PO X lo tl)(hu:PO X hi th):PE X (.Subscript e (.Slice lo hi none p2) pos) (tSl r te tl th):=by
 intro pins s σ H Q I h
 refine Subscript_ (thn (Y pins s σ H _ I h) λv s1 ⟨x,H1,I1,r1,q1⟩=> ?_)
 refine wpAny_Slice (thn (hl pins s1 σ H1 _ I1 q1) λvl s2 ⟨l,H2,I2,pl,q2⟩=>thn (hu pins s2 σ H2 _ I2 q2) λvu s3 ⟨u,H3,I3,pu,q3⟩=> ?_)
 rw[evalPart_none]
 refine wpAny_pure ?_
 have I4:Inv X pins σ H3 {s3 with heap:=s3.heap.push {cls:=.type "slice",data:=.fields #[vl,vu,.none]}}:=I3.kept (t':=s3.toks) λb ob q=>Heap.get?_push_of_some _ q
 obtain⟨T,id,hT,ht,hg⟩:=U pins {s3 with heap:=s3.heap.push {cls:=.type "slice",data:=.fields #[vl,vu,.none]}} σ H3 x v vl vu l u s3.heap.objs.size Q I4 r1 (Heap.IsSliceOf.new ..) pl pu q3
 show wpAny (model X.prog X.w) X.A (subscriptTail e (.Slice lo hi none p2) v (.ref s3.heap.objs.size)) (EP X pins σ Q) X.xe {s3 with heap:=s3.heap.push {cls:=.type "slice",data:=.fields #[vl,vu,.none]}}
 exact tail_any (ops:=[.ref s3.heap.objs.size,v]) ht hT hg (by with_unfolding_all rfl)
def xv(xs:List V)(lo hi:Option Int):List V:=(xs.drop (HT.sIx xs.length 0 lo)).take (HT.sIx xs.length xs.length hi-HT.sIx xs.length 0 lo)
theorem B7(xs:List V)(lo hi:Option Int):(xv xs lo hi).length<=xs.length:=by
 unfold xv
 rw[PY,RN]
 omega
end
def ixN(n:Nat)(i:Int):Option Nat:=if 0<=i then (if i<n then some i.toNat else none) else if -(n:Int)<=i then some (i+n).toNat else none
def atI{α:Type}(xs:List α)(i:Int):Option α:=(ixN xs.length i).bind λj=>xs[j]?
theorem Dt{i:Int}{j:Nat}(h:ixN n i=some j):seqIndex? i n=some j/\j<n/\ -(n:Int)<=i/\i<n:=by
 unfold ixN at h
 by_cases h0:0<=i
 ·rw[if_pos h0] at h
  by_cases h1:i<n
  ·rw[if_pos h1] at h
   have e:i.toNat=j:=PR h
   exact⟨by rw[seqIndex_of h0 h1,e],by omega,by omega,h1⟩
  ·rw[if_neg h1] at h;cases h
 ·rw[if_neg h0] at h
  by_cases h1: -(n:Int)<=i
  ·rw[if_pos h1] at h
   have e:(i+n).toNat=j:=PR h
   exact⟨by rw[seqIndex_neg (by omega) h1,e],by omega,h1,by omega⟩
  ·rw[if_neg h1] at h;cases h
theorem xX{α:Type}{xs:List α}{i:Int}{v:α}(h:atI xs i=some v):∃j,seqIndex? i xs.length=some j/\xs[j]? =some v/\j<xs.length/\ -(xs.length:Int)<=i/\i<xs.length:=by
 unfold atI at h
 cases e:ixN xs.length i with
 | none=>rw[e] at h;cases h
 | some j=>
  rw[e] at h
  obtain⟨h1,h2,U,Y⟩:=Dt e
  exact⟨j,h1,h,h2,U,Y⟩
def JC(b:Expr):Prop:=∀o i,subscripted b false o i=operate [o,i] (getItem o i)
def IxR(X:Cx)(r:R2):Prop:=
 ∀(value U:Expr) (pins:List (Addr×Obj)) (s:Shared) (σ:St) (H:Hp) (x y:V) (v u:Value) (Q:VK),Inv X pins σ H s->RelV x v->RelV y u->r x y H Q->
  subscripted U false v u=operate [v,u] (getItem v u)->wpAny (model X.prog X.w) X.A (subscriptTail value U v u) (EP X pins σ Q) X.xe s
def MtR(X:Cx)(id:String)(r:V->List V->Hp->VK->Prop):Prop:=
 ∀(pins:List (Addr×Obj)) (s:Shared) (σ:St) (H:Hp) (x:V) (xs:List V) (v:Value) (us:List Value) (Q:VK),Inv X pins σ H s->RelV x v->Vals xs us->r x xs H Q->
  wpAny (model X.prog X.w) X.A (call (.builtin id) (v::us)) (EP X pins σ Q) X.xe s
section
variable {X : Cx} {a b : Expr} {ta tb : TE} {pos : Pos}
theorem IxR.or{r r':R2}(h:IxR X r)(h':IxR X r'):IxR X (λx y H Q=>r x y H Q\/r' x y H Q):=by
 intro value U pins s σ H x y v u Q I Y ry q hs
 rcases q with q | q
 ·exact h value U pins s σ H x y v u Q I Y ry q hs
 ·exact h' value U pins s σ H x y v u Q I Y ry q hs
theorem bT{r:R2}(U:IxR X r)(ha:PE X a ta)(hb:PE X b tb)(Y:JC b):PE X (.Subscript a b pos) (tOp r ta tb):=by
 intro pins s σ H Q I h
 exact Subscript_ (HX ha hb I h λv u s2 x y H2 I2 rx ry q=>U a b pins s2 σ H2 x y v u Q I2 rx ry q (Y _ _))
def MW(K:sB):R2:=λx y H Q=>∃p xs i v,x=.ref p/\y=.int i/\SqL K H p xs/\atI xs i=some v/\Q v H
def MQ(K:sB):R2:=λx y H Q=>∃p xs i v,x=.ref p/\y=.int i/\SqT K H p xs/\atI xs i=some v/\Q v H
def MT:R2:=λx y H Q=>∃z i c,x=.str z/\y=.int i/\z.length<=sizeLine/\atI z.cps.toList i=some c/\Q (.str ⟨#[c]⟩) H
theorem KZ:IxR X (MW X.K):=by
 intro value Y pins s σ H x y v u Q I rx ry h hs
 obtain⟨p,xs,i,z,rfl,rfl,hq,he,q⟩:=h
 cases rx
 obtain⟨t,rfl⟩:=ry
 obtain⟨ab,r,pl,hz⟩:=I.list hq
 obtain⟨j,h1,h2,h3,h4,h5⟩:=xX he
 obtain⟨w,ew,ac⟩:=r.get h2
 have hl:=r.length
 have hn:=qe
 have U:EP X pins σ Q w s:=⟨z,H,I,ac,q⟩
 by_cases h0:0<=i
 ·have hj:i.toNat=j:=by
   rw[seqIndex_of h0 h5] at h1
   exact PR h1
  exact item_listR pl.isList h0 (by omega) (by rw[hj];simpa using ew) U hs
 ·have hj:(i+(ab.toArray.size:Int)).toNat=j:=by
   rw[seqIndex_neg (by omega) h4] at h1
   rw[wS,<- hl]
   exact PR h1
  exact subscriptTail_builtinR (x:=w) pl.isList.typeIs slot_list_getitem.lookup
   (wpAny_getItem_list_neg (Q:=λr s'=>r=w/\EP X pins σ Q r s') pl.isList (by omega) (by rw[wS] <;> omega) (by omega) (by rw[hj];simpa using ew) ⟨rfl,U⟩) hs
theorem Mn:IxR X (MQ X.K):=by
 intro value U pins s σ H x y v u Q I rx ry h hs
 obtain⟨p,xs,i,z,rfl,rfl,hq,he,q⟩:=h
 cases rx
 obtain⟨t,rfl⟩:=ry
 obtain⟨ap,r,pl,hz⟩:=I.tuple hq
 obtain⟨j,h1,h2,h3,h4,h5⟩:=xX he
 obtain⟨w,ew,Y⟩:=r.get h2
 have hl:=r.length
 have hn:=qe
 have ab:EP X pins σ Q w s:=⟨z,H,I,Y,q⟩
 exact subscriptTail_builtinR (x:=w) pl.typeIs slot_tuple_getitem.lookup
  (getItem_tuple (j:=j) (Q:=λr s'=>r=w/\EP X pins σ Q r s') pl (by omega) (by omega) (by rw[wS,<- hl];exact h1) (by simpa using ew) ⟨rfl,ab⟩) hs
theorem MZ:IxR X MT:=by
 intro value U pins s σ H x y v u Q I Y ry h hs
 obtain⟨z,i,c,rfl,rfl,hz,he,q⟩:=h
 obtain⟨t,rfl⟩:=Y
 obtain⟨t',rfl⟩:=ry
 obtain⟨j,h1,h2,h3,h4,h5⟩:=xX he
 have hl:z.cps.toList.length=z.length:=by simp[Str.length]
 rw[hl] at h1 h4 h5
 have hn:=qe
 exact tail_any (typeIs_str s z t) slot_str_getitem.lookup (getItem_str (c:=c) (by
  have e1:decide (i < -(2^63:Int))=false:=decide_eq_false (by omega)
  have e2:decide (i ≥ 2^63)=false:=decide_eq_false (by omega)
  rw[e1,e2,Rx]) (by rw[h1];simpa using h2) ⟨.str ⟨#[c]⟩,H,I.tok _,⟨_,rfl⟩,q⟩) hs
def rIx(K:sB):R2:=λx y H Q=>MW K x y H Q\/MQ K x y H Q\/MT x y H Q
theorem bG:IxR X (rIx X.K):=KZ.or (Mn.or MZ)
theorem El(U:List Value)(n j:Nat)(u:Value):Obj.mapSeq (·.setIfInBounds j u) {cls:=.type "list",data:=.seq U.toArray n}={cls:=.type "list",data:=.seq (U.set j u).toArray n}:=by
 simp[Obj.mapSeq]
theorem Inv.lst{p:Addr}(I:Inv X pins σ H s)(h:H p=some (.lst xs)):
 ∃(U:List Value) (n:Nat),Vals xs U/\s.heap.get? p=some {cls:=.type "list",data:=.seq U.toArray n}/\xs.length<=sizeLine:=by
 obtain⟨z,U,n,r,e⟩:=I.hok p _ h
 exact⟨U,n,r,e,z⟩
theorem Inv.lstUpd {p:Addr} {xs ys:List V} {U its':List Value} {n Y:Nat} {f:Obj->Obj} (I:Inv X pins σ H s) (h:H p=some (.lst xs))
 (ho:s.heap.get? p=some {cls:=.type "list",data:=.seq U.toArray n}) (hf:f {cls:=.type "list",data:=.seq U.toArray n}={cls:=.type "list",data:=.seq its'.toArray Y}) (r:Vals ys its') (hz:ys.length<=sizeLine) (t:Nat):
 Inv X pins σ (upd H p (.lst ys)) {s with heap:=s.heap.update p f,toks:=t}:=by
 have e:(s.heap.update p f).get? p=some {cls:=.type "list",data:=.seq its'.toArray Y}:=by
  rw[Heap.get?_update_self f ho (by rw[hf] <;> rfl),hf]
 refine I.write (x:=p) (e:=p) (by rw[h];trivial) (.inl rfl) (λb u hb q=>(Heap.get?_update_other _ _ (P0 hb)).trans q) ⟨_,e⟩ ?_
 exact⟨hz,its',Y,r,e⟩
def Jh:V->V->V->Hp->(Hp->Prop)->Prop:=λo i v H Q=>∃p xs k j,o=.ref p/\i=.int k/\H p=some (.lst xs)/\ixN xs.length k=some j/\Q (upd H p (.lst (xs.set j v)))
theorem set_list:LA X Jh:=by
 intro pins s σ H o i v ov iv u Q I ro ri rv h
 obtain⟨p,xs,k,j,rfl,rfl,hp,hj,q⟩:=h
 cases ro
 obtain⟨t,rfl⟩:=ri
 obtain⟨U,n,r,Y,hz⟩:=I.lst hp
 obtain⟨h1,h2,h3,h4⟩:=Dt hj
 have hl:=r.length
 have hn:=qe
 have I':Inv X pins σ (upd H p (.lst (xs.set j v))) {s with heap:=s.heap.update p (Obj.mapSeq (·.setIfInBounds j u))}:=
  I.lstUpd hp Y (El U n j u) (r.set rv j) (by rw[SW];exact hz) s.toks
 by_cases h0:0<=k
 ·have hk:k.toNat=j:=by
   rw[seqIndex_of h0 h4] at h1
   exact PR h1
  exact PySem.W.ki_setAt Y h0 (by omega) (by rw[wS,<- hl];exact h4) (by rw[hk];exact⟨_,I',q⟩)
 ·have hk:(k+(U.toArray.size:Int)).toNat=j:=by
   rw[seqIndex_neg (by omega) h3] at h1
   rw[wS,<- hl]
   exact PR h1
  exact PySem.W.ki_setBack Y (by omega) (by rw[wS,<- hl];exact h3) (by omega) (by rw[hk];exact⟨_,I',q⟩)
theorem Av(lo hi:Option Int)(n:Nat):(sliceBounds lo hi none n).1=((HT.sIx n 0 lo:Nat):Int)/\(sliceBounds lo hi none n).2.1=((HT.sIx n n hi:Nat):Int)/\(sliceBounds lo hi none n).2.2=1:=by
 refine⟨?_, ?_,rfl⟩
 ·cases lo with
  | none=>simp[sliceBounds,HT.sIx]
  | some i=>
   simp only[sliceBounds,HT.sIx,SH,show (1:Int)>0 by decide,if_true]
   by_cases h:i<0
   ·simp only[h,if_true] <;> omega
   ·simp only[h,if_false] <;> omega
 ·cases hi with
  | none=>simp[sliceBounds,HT.sIx]
  | some i=>
   simp only[sliceBounds,HT.sIx,SH,show (1:Int)>0 by decide,if_true]
   by_cases h:i<0
   ·simp only[h,if_true] <;> omega
   ·simp only[h,if_false] <;> omega
theorem zH(U:List Value)(lo hi:Option Int):slicePick U.toArray lo hi none=((U.drop (HT.sIx U.length 0 lo)).take (HT.sIx U.length U.length hi-HT.sIx U.length 0 lo)).toArray:=by
 obtain⟨h1,h2,Y⟩:=Av lo hi U.toArray.size
 unfold slicePick
 rw[h1,h2,Y]
 simp only[sliceRange_one,pick_run,wS] <;> rfl
def Mh(K:sB):V->Option Int->Option Int->Hp->VK->Prop:=λx lo hi H Q=>∃a xs,x=.ref a/\SqL K H a xs/\∀p,H p=none->Q (.ref p) (upd H p (.lst (xv xs lo hi)))
theorem ud:SlR X (Mh X.K):=by
 intro pins s σ H x v vl vu lo hi sl Q I Y hs pl pu h
 obtain⟨a,xs,rfl,hx,q⟩:=h
 cases Y
 obtain⟨ae,r,ht,hz⟩:=I.list hx
 have U:=r.length
 refine⟨"list",_,slot_list_getitem.lookup,ht.isList.typeIs, ?_⟩
 refine wpAny_getItem_list_slice ht.isList hs pl pu .none (by simp) ?_ (by rw[wS] <;> omega)
 rw[zH,<- U]
 refine⟨.ref s.heap.objs.size,_,I.laid (t':=s.toks) (o:=.lst (xv xs lo hi)) (λb ob q=>Heap.get?_push_of_some _ q) (wf _) ?_,rfl,q _ (I.hok.fresh (wf _))⟩
 exact⟨Pk (B7 xs lo hi) hz,_,0,(r.drop (HT.sIx xs.length 0 lo)).take (HT.sIx xs.length xs.length hi-HT.sIx xs.length 0 lo),Heap.get?_push_size _ rfl⟩
def mF:V->Bool
 | .non=>true
 | .bl _=>true
 | .int _=>true
 | .str _=>true
 | _=>false
def eqV:V->V->Bool
 | .non,.non=>true
 | .bl a,.bl b=>a == b
 | .bl a,.int b=>(if a then 1 else 0) == b
 | .int a,.bl b=>a == (if b then 1 else 0)
 | .int a,.int b=>a == b
 | .str a,.str b=>a == b
 | _,_=>false
theorem Lz{A:Around}{y x:V}{u v:Value}(Y:RelV y u)(U:RelV x v)(fy:mF y=true)(fx:mF x=true):SeqAt.EqAt A s u v (eqV y x):=by
 cases y with
 | non=>
  cases Y
  cases x with
  | non=>cases U;exact SeqAt.EqAt.same _
  | bl b=>cases U;exact SeqAt.EqAt.none_bool b
  | int b=>obtain⟨t,rfl⟩:=U;exact SeqAt.EqAt.none_int b t
  | str b=>obtain⟨t,rfl⟩:=U;exact SeqAt.EqAt.none_str b t
  | _=>exact absurd (show false=true from fx) x0
 | bl a=>
  cases Y
  cases x with
  | non=>cases U;exact SeqAt.EqAt.bool_none a
  | bl b=>cases U;exact SeqAt.EqAt.bool_bool a b
  | int b=>obtain⟨t,rfl⟩:=U;exact SeqAt.EqAt.bool_int a b t
  | str b=>obtain⟨t,rfl⟩:=U;exact SeqAt.EqAt.bool_str a b t
  | _=>exact absurd (show false=true from fx) x0
 | int a=>
  obtain⟨t',rfl⟩:=Y
  cases x with
  | non=>cases U;exact SeqAt.EqAt.int_none a t'
  | bl b=>cases U;exact SeqAt.EqAt.int_bool a t' b
  | int b=>obtain⟨t,rfl⟩:=U;exact SeqAt.EqAt.int_int a t' b t
  | str b=>obtain⟨t,rfl⟩:=U;exact SeqAt.EqAt.int_str a t' b t
  | _=>exact absurd (show false=true from fx) x0
 | str a=>
  obtain⟨t',rfl⟩:=Y
  cases x with
  | non=>cases U;exact SeqAt.EqAt.str_none a t'
  | bl b=>cases U;exact SeqAt.EqAt.str_bool a t' b
  | int b=>obtain⟨t,rfl⟩:=U;exact SeqAt.EqAt.str_int a t' b t
  | str b=>obtain⟨t,rfl⟩:=U;exact SeqAt.EqAt.str_str a t' b t
  | _=>exact absurd (show false=true from fx) x0
 | _=>exact absurd (show false=true from fy) x0
def eqU(x:V)(u:Value):Bool:=match u with
 | .none=>eqV .non x
 | .bool b=>eqV (.bl b) x
 | .int i _=>eqV (.int i) x
 | .str z _=>eqV (.str z) x
 | _=>false
theorem FO{x y:V}{u:Value}(r:RelV y u)(f:mF y=true):eqU x u=eqV y x:=by
 cases y with
 | non=>cases r;rfl
 | bl b=>cases r;rfl
 | int i=>obtain⟨t,rfl⟩:=r;rfl
 | str z=>obtain⟨t,rfl⟩:=r;rfl
 | _=>exact absurd (show false=true from f) x0
theorem qt{x:V}:∀{xs:List V} {us:List Value},Vals xs us->xs.all mF=true->us.any (eqU x)=xs.any λy=>eqV y x
 | _,_,.nil,_=>rfl
 | y::xs,u::us,.cons r t,f=>by
  rw[Q4,Po] at f
  rw[Ry,Ry,FO r f.1,qt t f.2]
theorem oJ{A:Around}{s:Shared}{x:V}{v:Value}(U:RelV x v)(Y:mF x=true):∀{xs:List V} {us:List Value},Vals xs us->xs.all mF=true->∀u∈us,SeqAt.EqAt A s u v (eqU x u)
 | _,_,.nil,_=>λu hu=>by cases hu
 | y::xs,u::us,.cons r t,f=>λu' hu=>by
  rw[Q4,Po] at f
  rcases wT.mp hu with rfl | hu
  ·rw[FO r f.1];exact Lz r U f.1 Y
  ·exact oJ U Y t f.2 u' hu
def inV(x:V)(xs:List V):Bool:=xs.any λy=>eqV y x
def rIn(K:sB)(neg:Bool):R2:=λx y H Q=>∃p xs,y=.ref p/\(SqL K H p xs\/SqT K H p xs)/\mF x=true/\xs.all mF=true/\Q (.bl (if neg then !inV x xs else inV x xs)) H
theorem yE:OpR X (compareOp .In) (rIn X.K false):=by
 intro pins s σ H x y v u Q I rx ry h
 obtain⟨p,xs,rfl,hq,fx,fs,q⟩:=h
 cases ry
 rcases hq with hq | hq
 ·obtain⟨U,r,pl,hz⟩:=I.list hq
  refine SeqAt.in_listAt (eqU x) pl.isList (λw Y=>oJ rx fx r fs w (by simpa using Y)) ⟨.bl _,H,I,rfl, ?_⟩
  rw[show U.toArray.any (eqU x)=U.any (eqU x) by simp,qt r fs]
  exact q
 ·obtain⟨U,r,pl,hz⟩:=I.tuple hq
  refine SeqAt.in_tupleAt (eqU x) pl (λw Y=>oJ rx fx r fs w (by simpa using Y)) ⟨.bl _,H,I,rfl, ?_⟩
  rw[show U.toArray.any (eqU x)=U.any (eqU x) by simp,qt r fs]
  exact q
theorem AO:OpR X (compareOp .NotIn) (rIn X.K true):=by
 intro pins s σ H x y v u Q I rx ry h
 obtain⟨p,xs,rfl,hq,fx,fs,q⟩:=h
 cases ry
 rcases hq with hq | hq
 ·obtain⟨U,r,pl,hz⟩:=I.list hq
  refine SeqAt.notIn_listAt (eqU x) pl.isList (λw Y=>oJ rx fx r fs w (by simpa using Y)) ⟨.bl _,H,I,rfl, ?_⟩
  rw[show U.toArray.any (eqU x)=U.any (eqU x) by simp,qt r fs]
  exact q
 ·obtain⟨U,r,pl,hz⟩:=I.tuple hq
  refine SeqAt.notIn_tupleAt (eqU x) pl (λw Y=>oJ rx fx r fs w (by simpa using Y)) ⟨.bl _,H,I,rfl, ?_⟩
  rw[show U.toArray.any (eqU x)=U.any (eqU x) by simp,qt r fs]
  exact q
theorem fG:jw X (.type "list") (λxs H Q=>∃p ys,xs=[.ref p]/\(SqL X.K H p ys\/SqT X.K H p ys)/\∀l,H l=none->Q (.ref l) (upd H l (.lst ys))):=by
 intro pins s σ H xs us Q I r h
 obtain⟨p,ys,rfl,hq,q⟩:=h
 obtain⟨u,rfl,rx⟩:=vals1 r
 cases rx
 have ab:∀(U:List Value),Vals ys U->ys.length<=sizeLine->∀(h':Heap) (Y:Nat),(∀b o',s.heap.get? b=some o'->h'.get? b=some o')->
  h'.get? s.heap.objs.size=some {cls:=.type "list",dict:=none,data:=.seq U.toArray Y,slots:= #[]}->EP X pins σ Q (.ref s.heap.objs.size) {s with heap:=h'}:=λU r' hz h' Y kp e=>
  ⟨.ref s.heap.objs.size,_,I.laid (t':=s.toks) kp (wf _) (show gv X.prog X.w _ h' _ (.lst ys) from ⟨hz,U,Y,r',e⟩),rfl,q _ (I.hok.fresh (wf _))⟩
 rcases hq with hq | hq
 ·obtain⟨U,r',pl,hz⟩:=I.list hq
  have ac:=r'.length
  obtain⟨o,ho,hc,n,hd⟩:=pl.isList
  exact call_list_seq p (.inl rfl) ho hc hd (λh' Y kp e=>ab U r' hz h' Y kp e) (by simp only[wS] <;> omega)
 ·obtain⟨U,r',pl,hz⟩:=I.tuple hq
  have ac:=r'.length
  obtain⟨o,ho,hc,n,hd⟩:=pl
  exact call_list_seq p (.inr rfl) ho hc hd (λh' Y kp e=>ab U r' hz h' Y kp e) (by simp only[wS] <;> omega)
def tyV(K:sB)(T:String)(x:V)(H:Hp):Prop:=match x with
 | .str _=>T="str"
 | .int _=>T="int"
 | .ref p=>(T="list" /\∃xs,SqL K H p xs)\/(T="tuple" /\∃o,K.lookup p=some o/\o.cls=.type "tuple" /\o.dict=none)\/
  (T="dict" /\((∃U,H p=some (.dK U))\/∃U,H p=some (.dT U)))\/(T="set" /\∃S n,H p=some (.set S n))
 | _=>False
theorem LU{T:String}{v:Value}(I:Inv X pins σ H s)(r:RelV x v)(ty:tyV X.K T x H):
 s.TypeIs v T/\∀a,v=.ref a->∃ob,s.heap.get? a=some ob/\ob.dict=none:=by
 cases x with
 | str z=>
  obtain⟨t,rfl⟩:=r
  cases (show T="str" from ty)
  exact⟨typeIs_str s z t,λ_ e=>nomatch e⟩
 | int i=>
  obtain⟨t,rfl⟩:=r
  cases (show T="int" from ty)
  exact⟨typeIs_int s i t,λ_ e=>nomatch e⟩
 | ref p=>
  cases r
  rcases ty with⟨rfl,xs,hq⟩ | ⟨rfl,o,hk,hc,hd⟩ | ⟨rfl,hk⟩ | ⟨rfl,S,n,hk⟩
  ·obtain⟨Y,_,pl,_⟩:=I.list hq
   refine⟨pl.isList.typeIs,λa e=> ?_⟩
   cases e
   obtain⟨o,n,e,c,hd,_⟩:=pl
   exact⟨o,e,hd⟩
  ·refine⟨⟨o,I.kIn p o hk,hc⟩,λa e=> ?_⟩
   cases e
   exact⟨o,I.kIn _ o hk,hd⟩
  ·have z:∃o,s.heap.get? p=some o/\o.ExactDict:=by
    rcases hk with⟨U,hk⟩ | ⟨U,hk⟩
    ·obtain⟨_,_,_,_,o,_,_,e,ex,_⟩:=I.hok p _ hk
     exact⟨o,e,ex⟩
    ·obtain⟨_,_,_,_,o,_,_,e,ex,_⟩:=I.hok p _ hk
     exact⟨o,e,ex⟩
   obtain⟨o,e,ex⟩:=z
   refine⟨⟨o,e,ex.1⟩,λa e2=> ?_⟩
   cases e2
   exact⟨o,e,ex.2.1⟩
  ·obtain⟨o,_,_,_,e,ex,_⟩:=I.hok p _ hk
   refine⟨⟨o,e,ex.1⟩,λa e2=> ?_⟩
   cases e2
   exact⟨o,e,ex.2.1⟩
 | _=>exact ss ty
def tBM(K:sB)(T:String)(r:V->List V->Hp->VK->Prop)(to:TE)(t:TA):TE:=λσ H Q=>to σ H λx H1=>tyV K T x H1/\t σ H1 λxs H2=>r x xs H2 Q
variable {o e : Expr} {es : List Expr} {to : TE} {t : TA} {name : Str} {apos cpos : Pos} {T id : String} {r : V → List V → Hp → VK → Prop}
theorem jx (pa:PlainAttrs T) (slot:Slot T name id) (ae:typeOf (.builtin id)=pure (.type "method_descriptor")) (hm:MtR X id r) (ho:PE X o to) (ha:PA X (e::es) t)
 (Y:attributeBase o name X.env (eval o X.env)=eval o X.env:=by rfl)
 (ac:((backTo cpos (starEach (e::es) X.env)).all (λx=> !x.1)&&(backToKw cpos (keywordEach [] X.env)).all (λx=>x.1.isSome)
  &&decide ((e::es).length+([]:List Keyword).length+(if ([]:List Keyword).isEmpty then 0 else 1)<30))=true:=by rfl)
 (ab:(apos.endLine == cpos.line)=true:=by rfl) (hs:starEach (e::es) X.env=(false,eval e X.env)::starEach es X.env:=by rfl) (U:(backTo cpos (starEach es X.env)).any (·.1)=false:=by rfl):
 PE X (.Call (.Attribute o name apos) (e::es) [] cpos) (tBM X.K T r to t):=by
 intro pins s σ H Q I h
 refine wpAny_Call_method_late Y ac ab rfl (thn (ho pins s σ H _ I h) λv s1 ⟨x,H1,I1,r1,ty,q1⟩=> ?_)
 obtain⟨h1,h2⟩:=LU I1 r1 ty
 refine⟨T,id,pa,slot,ae,h1,h2, ?_⟩
 have hA:=ha cpos pins s1 σ H1 _ I1 q1
 rw[hs] at hA ⊢
 refine Calls.callWith_builtin (by show (false||(backTo cpos (starEach es X.env)).any (·.1))=false;rw[U] <;> rfl) (Calls.evalArgs_plain ?_)
 exact thn hA λus s2 ⟨vs,H2,I2,r2,q2⟩=>hm pins s2 σ H2 x vs v us Q I2 r1 r2 q2
end
def MtM(X:Cx)(id:String)(r:V->List V->Hp->VK->Prop):Prop:=
 ∀(pins:List (Addr×Obj)) (s:Shared) (σ:St) (H:Hp) (x:V) (xs:List V) (v:Value) (us:List Value) (Q:VK),Inv X pins σ H s->RelV x v->Vals xs us->r x xs H Q->
  wpAny (model X.prog X.w) X.A (call (.builtin id) (v::us)) (EP X pins σ Q) X.xe s
theorem Vals.one:∀{x:V} {us:List Value},Vals [x] us->∃u,us=[u]/\RelV x u
 | _,_,.cons r .nil=>⟨_,rfl,r⟩
theorem Vals.dropLast{us:List Value}(h:Vals xs us):Vals xs.dropLast us.dropLast:=by
 induction h with
 | nil=>exact .nil
 | cons r t U=>
  cases t with
  | nil=>exact .nil
  | cons q t'=>exact .cons r U
theorem Vals.rep{xs:List V}{us:List Value}(h:Vals xs us):∀k:Nat,Vals (tz k xs).flatten (tz k us).flatten
 | 0=>.nil
 | k+1=>by
  rw[Px,Px,Qd,Qd]
  exact Vals.append h (Vals.rep h k)
theorem foldl_rep(U:List Value):∀(k:Nat) (Y:List Value),
 SX (λx1 x2=>x1++x2) Y.toArray (tz k U.toArray)=(Y++(tz k U).flatten).toArray
 | 0,Y=>by simp
 | k+1,Y=>by
  have e:Y.toArray++U.toArray=(Y++U).toArray:=by simp
  have e2:(Y++U)++(tz k U).flatten=Y++(tz (k+1) U).flatten:=by
   rw[Px,Qd,Pz]
  rw[<- e2,<- foldl_rep U k (Y++U),<- e,Px,Qp]
section
variable {X : Cx} {pins : List (Addr × Obj)} {σ : St} {H : Hp} {s : Shared} {l b : Addr} {xs ys zs : List V}
theorem Inv.lset {U its':List Value} {n:Nat} {f:Array Value->Array Value} {t':Nat} (I:Inv X pins σ H s) (Y:H l=some (.lst xs))
 (e:s.heap.get? l=some {cls:=.type "list",data:=.seq U.toArray n}) (hf:f U.toArray=its'.toArray) (hv:Vals ys its') (hz:ys.length<=sizeLine):
 Inv X pins σ (upd H l (.lst ys)) {s with heap:=s.heap.update l (Obj.mapSeq f),toks:=t'}:=by
 have q:=PySem.IsL.update e f
 rw[hf] at q
 refine I.write (x:=l) (e:=l) (by rw[Y];exact trivial) (.inl rfl) (λb' u hb hu=>(Heap.get?_update_other s.heap (Obj.mapSeq f) (P0 hb)).trans hu) ⟨_,q⟩ ?_
 exact⟨hz,its',_,hv,q⟩
theorem Inv.lnew{U:List Value}{t':Nat}(I:Inv X pins σ H s)(Y:Vals ys U)(hz:ys.length<=sizeLine):
 Inv X pins σ (upd H s.heap.objs.size (.lst ys)) {s with heap:=s.heap.push {cls:=.type "list",data:=.seq U.toArray},toks:=t'}:=
 I.laid (λ_ _ q=>Heap.get?_push_of_some _ q) (wf _) ⟨hz,U,0,Y,Heap.get?_push_size _ rfl⟩
theorem Inv.fresh(I:Inv X pins σ H s):H s.heap.objs.size=none:=I.hok.fresh (wf _)
theorem Inv.lstM(I:Inv X pins σ H s)(Y:H l=some (.lst xs)):xs.length<=sizeLine/\∃(U:List Value) (n:Nat),Vals xs U/\xs.length=U.length/\s.heap.get? l=some {cls:=.type "list",data:=.seq U.toArray n}:=by
 obtain⟨z,U,n,r,e⟩:=I.hok l _ Y
 exact⟨z,U,n,r,r.length,e⟩
theorem Hc(h:n<=sizeLine):Builtin.List.listTooLong n=false:=by
 unfold Builtin.List.listTooLong
 exact decide_eq_false (by omega)
end
section
variable {X : Cx}
def CV:V->List V->Hp->VK->Prop:=λx vs H Q=>∃l xs y,x=.ref l/\vs=[y]/\H l=some (.lst xs)/\xs.length<sizeLine/\Q .non (upd H l (.lst (xs++[y])))
theorem eG:MtM X "list.append" CV:=by
 intro pins s σ H x vs v us Q I rx rv h
 obtain⟨l,xs,y,rfl,rfl,Y,hz,q⟩:=h
 cases rx
 obtain⟨u,rfl,ru⟩:=rv.one
 obtain⟨z,U,n,r,hl,e⟩:=I.lstM Y
 refine call_meets F.slot_list_append ⟨_,e,rfl⟩ F.entry_list_append (F.args_list_append_2 _ _) (PySem.list_append l U.toArray n u (by rw[wS];omega)) ⟨e, ?_⟩
 refine⟨.non,_,I.lset (its':=U++[u]) Y e (by simp) (r.append (.cons ru .nil)) ?_,rfl,q⟩
 rw[FS,IN]
 omega
def Hs:R2:=λx y H Q=>∃l k xs,x=.ref l/\y=.int k/\H l=some (.lst xs)/\ -(2^63)<=k/\k<2^63/\xs.length*k.toNat<=sizeLine/\
 ∀p,H p=none->Q (.ref p) (upd H p (.lst (tz k.toNat xs).flatten))
theorem len_rep{α:Type}(xs:List α)(k:Nat):(tz k xs).flatten.length=k*xs.length:=by
 induction k with
 | zero=>simp
 | succ k U=>rw[Px,Qd,FS,U,Nat.succ_mul,Nat.add_comm]
theorem M0:OpR X (binaryOp .Mult) Hs:=by
 intro pins s σ H x y v u Q I rx ry h
 obtain⟨l,k,xs,rfl,rfl,hH,h1,h2,hz,q⟩:=h
 cases rx
 obtain⟨t,rfl⟩:=ry
 obtain⟨z,U,n,r,hl,e⟩:=I.lstM hH
 have ab:U.toArray.size*k.toNat<=sizeLine:=by rw[wS,<- hl];exact hz
 have ac:¬U.toArray.size*k.toNat>(2^63-1)/8:=by
  have:(sizeLine:Nat)<=(2^63-1)/8:=by decide
  omega
 have ae:¬(!Builtin.List.listFitsIndex k)=true:=by
  rw[fitsIndex_both h1 h2]
  exact x0
 have Y:¬Builtin.List.listTooLong (U.toArray.size*k.toNat)=true:=by
  rw[Hc ab]
  exact x0
 have am:SX (λx1 x2=>x1++x2) #[] (tz (if U.toArray.isEmpty=true then 0 else k.toNat) U.toArray)=(tz k.toNat U).flatten.toArray:=by
  have f0:∀m:Nat,SX (λx1 x2=>x1++x2) #[] (tz m U.toArray)=(tz m U).flatten.toArray:=λm=>by
   have:=foldl_rep U m []
   rw[Db] at this
   exact this
  rw[f0]
  cases U with
  | nil=>simp
  | cons a r'=>rw[if_neg (by simp)]
 refine wpAny_binaryOp_repeat_ref (T:="list") (U:="int") (by decide) ⟨_,e,rfl⟩ (λs'=>typeIs_int s' k t) noFill_list_mul F.fills_int_mul F.slot_int_rmul repeat_list F.slot_int_index.lookup
  (call_meets F.slot_int_rmul (typeIs_int s k t) F.entry_int_rmul (F.args_int_rmul_2 _ _) (int___rmul___int_list k t l U.toArray n)
   ⟨e,rfl,⟨_,e,rfl⟩,call_meets F.slot_list_mul ⟨_,e,rfl⟩ F.entry_list_mul (F.args_list_mul_2 _ _) (AutoListH.list___mul___list_int_3 l U.toArray n k t ae ac Y) ⟨e, ?_⟩⟩)
 rw[am]
 exact⟨.ref _,_,I.lnew (t':=s.toks) (r.rep k.toNat) (by rw[len_rep,Nat.mul_comm];exact hz),rfl,q _ I.fresh⟩
end
section
variable {prog : Program} {w : World} {A : Around} {E : Value → Shared → Prop} {s : Shared}
end
section
variable {X : Cx}
end
end L2
namespace Att
open PySem PySem.W PySem.Calls PyProof.Rows
theorem wq{P:Params}{h:Heap}:∀(ns:List Int) (vs:List Value),WellAll P h vs (ns.map WData.int)->IntsAre vs ns:=by
 intro ns
 induction ns with
 | nil=>
  intro vs w
  rw[PB] at w
  cases w
  exact .nil
 | cons n ns U=>
  intro vs w
  rw[AC] at w
  cases w with
  | cons a b=>
   cases a
   exact .cons _ _ (U _ b)
theorem EE {l:OpenLaw} {n:Nat} (hn:l.most=some n) {P:Params} {h:Heap} {args:List WData} {U:List Value}
 (Y:l.row.toRowW.claim.pre args=true) (an:WellAll P h U args):
 ∃a vs ns,U=[Value.ref a]/\args=[WData.list (ns.map WData.int)]/\h.get? a=some {cls:=.type "list",data:=.seq vs.toArray}/\IntsAre vs ns/\ns.length<=n:=by
 have ap:WShape.hasAll [] args [.list .int]=true:=(pre_splitW Y).1
 have hc:l.pre.holds [] {args:=args}=true:=(pre_splitW Y).2
 obtain⟨d,r,rfl,h1,h2⟩:=hasAllW_cons ap
 obtain rfl:=hasAllW_nil h2
 obtain⟨xs,rfl,h3⟩:=hasW_list h1
 obtain⟨ns,rfl⟩:=items_int h3
 have ab:ns.length<=n:=by
  unfold OpenLaw.pre at hc
  have h4:(WTm.not (.lt (.lit (.int (n:Int))) (.len (.arg 0)))).holds [] {args:=[.list (ns.map .int)]}=true:=by
   have h4:=(holds_andW hc).1
   rw[hn] at h4
   exact h4
  have h5:=condW_of h4 (w_not (w_lt w_lit (w_len_list (w_arg rfl))))
  rw[ut] at h5
  refine Nat.le_of_not_lt λq=> ?_
  have q':(n:Int)<((ns.length:Nat):Int):=by omega
  first
   | (rw[decide_eq_true q'] at h5;exact absurd h5 (by decide))
   | (simp at h5;omega)
 cases an with
 | cons w1 w2=>
  cases w2
  cases w1 with
  | list ho ac=>exact⟨_,_,ns,rfl,rfl,ho,wq ns _ ac,ab⟩
theorem FD(l:OpenLaw)(args:List WData):l.row.toRowW.claim.post args (.bool true) args=true:=
 postW_of (r:=l.row.toRowW) (X:=(true == true))
  (show WShape.has [] (.bool true) .bool=true by first | rfl | decide | simp[WShape.has,WShape.arms,WShape.armsAll])
  (show (WTm.eq .res (.lit (.bool true))).value [] {args:=args,res:=some (.bool true),after:=args}=some (.bool (true == true)) from w_eq_bool (w_res rfl) w_lit) rfl
theorem B0 {l:OpenLaw} {n:Nat} {q:Program} {U:List Str} {XP:(Str->Option Value)->Heap->Prop} {YP:World->Heap->Prop} {d:DefRec}
 (hn:l.most=some n) (az:d.params.defaults=[])
 (call:∀(w:World) (s₀ s₁:Shared) (mg mb:Str->Option Value) (fa:Addr) (o:Obj) (pm cd ac:Value) (a:Addr) (vs:List Value) (ns:List Int),
  Ground q U [] XP w s₀ mg mb s₁.heap->YP w s₁.heap->
  s₁.heap.get? fa=some o->o.data=.func (docDef d.name d.params d.body d.scope pm cd ac)->s₁.heap.CodeRec cd d.name->mg d.name=some (.ref fa)->
  s₁.heap.get? a=some {cls:=.type "list",data:=.seq vs.toArray}->IntsAre vs ns->ns.length<=n->s₁.gens= #[]->
  codeAny (model l.prog w) callerA (.call (.ref fa) ⟨[.ref a],[]⟩) (λr s'=>r=.ok (.ret (.bool true))/\OldK s₁.heap s'.heap/\s'.os=s₁.os/\AllBare s'.gens) s₁):
 WalkO q U XP YP l.row.toRowW d [] (λf vs=>SY f vs):=by
 intro w s₀ s₁ mg mb G Y fa o pm cd ac dV kV ho hd a2 hD a3 hg args be as am bi bt a4 bv
 obtain rfl:dV=.none:=Dflts.none hD az
 obtain rfl:kV=.none:=Dflts.noKw hD
 obtain⟨a,vs,ns,rfl,rfl,an,ae,ap⟩:=EE hn am a4
 refine enter_call (codeAny_mono (call w s₀ s₁ mg mb fa o pm cd ac a vs ns G Y ho (fd_plain hd) a2 a3 an ae ap hg) λr s' hq=> ?_)
 obtain⟨rfl,h2,h3,h4⟩:=hq
 exact⟨.inl ⟨.bool true,.bool true,[],rfl,λ_=>rfl,.bool true,FD l _,λ_=>⟨Sv,λ_ hm=>(nomatch hm)⟩⟩,h2,h3,h4⟩
section
variable {prog : Program} {w : World} {A : Around} {E : Value → Shared → Prop} {s : Shared} {K : Frag}
end
end Att
namespace L2
open PySem PySem.Spec PyProof.Rows
variable {P : Program} {w : World} {K : sB} {CX : CXT} {fd : FuncData} {x qual : Str} {vs : List Value} {ns : List Int} {st : Stmt} {f a : Addr} {xs : List V} {env : Env} {scope : Scope} {l m : List (Str × Addr)} {M : Model} {A : Around} {E : Value → Shared → Prop} {s : Shared} {X : Cx} {own cap : List Str} {caps : List Nat} {pins : List (Addr × Obj)} {σ : St} {H : Hp} {fp : List Addr} {i j n nrem N S : Nat} {base h h' : Heap} {outer : List Env} {oe : Obj} {Q : Unit → Shared → Prop} {p : Array Nat}
theorem yW:∀{vs:List Value} {ns:List Int},IntsAre vs ns->Vals (ns.map V.int) vs
 | _,_,.nil=>.nil
 | _,_,.cons n t h=>.cons ⟨t,rfl⟩ (yW h)
def DB(H:Hp):Prop:=∀b,H b=none\/∃o xs,H b=some (.frz o (.lst xs))
theorem HC {P:Program} {w:World} {K:sB} {mg mb:Str->Option Value} {CX:CXT} {k:Nat} {fa a:Addr} {fd:FuncData} {x:Str} {sp:Sp} {U:Shared} {vs:List Value} {ns:List Int}
 (KX:K.In U.heap) (an:U.heap.Ns mainGlobals mg) (hb:U.heap.Ns builtinsNs mb) (bd:∀x:Str,x≠"__name__" ->mb x=bootBuiltins x) (ap:U.heap.NoLimit) (ab:U.heap.NoSeer) (hg:U.gens= #[])
 (ha:U.heap.get? a=some {cls:=.type "list",data:=.seq vs.toArray}) (hi:IntsAre vs ns) (hl:ns.length<=sizeLine) (hr:dk k callerA)
 (F:∀base:Heap,K.In base->base.Ns mainGlobals mg->ip P w K mg base CX k fa fd [x] sp) (am:∀(s:Shared) (u:Value),BindsTo s fd ⟨[u],[]⟩ [(x,u)])
 (be:∀H:Hp,DB H->SqL K H a (ns.map V.int)->sp [.ref a] H (λv _=>v=.bl true) λ_ _ _=>False)
 (bi:∀H e s',CX [] H U (λ_ _ _=>False) e s'->False):
 codeAny (model P w) callerA (.call (.ref fa) ⟨[.ref a],[]⟩) (λr s'=>r=.ok (.ret (.bool true))/\OldK U.heap s'.heap/\s'.os=U.os/\AllBare s'.gens) U:=by
 have rv:=yW hi
 have Ai:=hi.length
 have ae:∀H:Hp,DB H->SqL K H a (ns.map V.int)->HOk P w H U.heap->(∀b,H b≠none->b=a)->(H a≠none->K.lookup a=none)->
  codeAny (model P w) callerA (.call (.ref fa) ⟨[.ref a],[]⟩) (λr s'=>r=.ok (.ret (.bool true))/\OldK U.heap s'.heap/\s'.os=U.os/\AllBare s'.gens) U:=by
  intro H hO hS az hA hK
  have Y:∀{b:Addr} {o:Obj},U.heap.get? b=some o->H b=none->(pK U.heap H).get? b=some o:=λe n=>IA e n
  have bp:∀{b:Addr} {o:Obj} {es:Array DictEntry} {ep:Nat},U.heap.get? b=some o->o.data=.dict es ep->H b=none:=λ{b o es ep} e d=>by
   cases q:H b with
   | none=>rfl
   | some u=>
    have e':b=a:=hA b (by rw[q];simp)
    subst e'
    rw[ha] at e;cases e
    have d':Data.seq vs.toArray _=Data.dict es ep:=d
    cases d'
  have ac:∀{b:Addr} {m:Str->Option Value},U.heap.Ns b m->(pK U.heap H).Ns b m:=λ{b m} ⟨o,es,ep,e,d,r⟩=>⟨o,es,ep,Y e (bp e d),d,r⟩
  have a3:K.In (pK U.heap H):=λb o e=>Y (KX b o e) (by
   cases q:H b with
   | none=>rfl
   | some u=>
    have e':b=a:=hA b (by rw[q];simp)
    subst e'
    rw[hK (by rw[q];simp)] at e;cases e)
  have bt:∀{b:Addr} {o:Obj},U.heap.get? b=some o->o.cls=.type "module" ->H b=none:=λ{b o} e d=>by
   cases q:H b with
   | none=>rfl
   | some u=>
    have e':b=a:=hA b (by rw[q];simp)
    subst e'
    rw[ha] at e;cases e
    exact absurd (show Value.type "list" =Value.type "module" from d) (by decide)
  have hN:(pK U.heap H).NoSeer:=⟨let ⟨mc,x,y⟩:=ab.statics;⟨mc,ac x,y⟩,let ⟨mc,x,y⟩:=ab.mods;⟨mc,ac x,y⟩,let ⟨mc,x,y⟩:=ab.imp;⟨mc,ac x,y⟩,let ⟨mg',bm,ob,x,y,z,u,v⟩:=ab.main;⟨mg',bm,ob,ac x,y,Y z (bt z u),u,v⟩⟩
  have hM:Mod K mg (pK U.heap H):=⟨a3,ac an,⟨mb,ac hb,bd⟩,(let ⟨mc,h1,h2⟩:=ap;⟨mc,ac h1,h2⟩),hN⟩
  have e0:qa P w K mg (pK U.heap H) callerA [] U H:=⟨rfl,hM,λb o e=>J6 e,Sl (FH _ _),trivial,λb hb=>absurd (show b∈([]:List Addr) from hb) (by simp),az,.of_eq hg⟩
  refine codeAny_mono ((F _ a3 (ac an)).run callerA [] U H ⟨[.ref a],[]⟩ [.ref a] [.ref a] _ _ hr e0 (am U (.ref a)) (.cons rfl .nil) (be H hO hS)) λr s' h=> ?_
  cases r with
  | error e=>exact(bi H e s' h).elim
  | ok fl=>
   cases fl with
   | next=>exact ss h
   | brk=>exact ss h
   | cont=>exact ss h
   | ret u=>
    obtain⟨v,H',os,a4,un,a5,r',q⟩:=h
    have q':v=.bl true:=q
    subst q'
    obtain rfl:u=Value.bool true:=r'
    refine⟨rfl,OldK.of_keep λb o e=> ?_,os,a4⟩
    cases q:H b with
    | none=>exact un.keep b o e q (by intro z;exact absurd (show b∈([]:List Addr) from z) (by simp)) (by simp)
    | some u=>
     rcases hO b with z | ⟨ob,xs,z⟩
     ·rw[q] at z;cases z
     ·have z2:=un.frzs b ob _ z
      obtain⟨e1,_⟩:=az b _ z
      obtain⟨e2,_⟩:=a5 b _ z2
      rw[e] at e1;cases e1
      exact e2
 cases hk:K.lookup a with
 | some o=>
  have e:=KX a o hk
  rw[ha] at e
  cases e
  refine ae (λ_=>none) (λ_=>.inl rfl) (.inr ⟨_,vs.toArray,_,hk,rfl,rfl,rfl,by rw[wS,Ai];exact hl,by simpa using rv⟩) (λb u z=>by have z':(none:Option HO)=some u:=z;cases z') (λb z=>absurd rfl z) λz=>absurd rfl z
 | none=>
  refine ae (λb=>if b=a then some (.frz {cls:=.type "list",data:=.seq vs.toArray} (.lst (ns.map V.int))) else none) (λb=> ?_) (.inl (.inr ⟨{cls:=.type "list",data:=.seq vs.toArray},if_pos rfl⟩)) (λb u z=> ?_) (λb z=> ?_) λ_=>hk
  ·by_cases hb:b=a
   ·exact .inr ⟨_,_,if_pos hb⟩
   ·exact .inl (if_neg hb)
  ·by_cases hb:b=a
   ·have z':=(if_pos hb).symm.trans z
    cases z'
    subst hb
    exact⟨ha,by rw[ut];exact hl,vs,_,rv,ha⟩
   ·have z':=(if_neg hb).symm.trans z
    cases z'
  ·by_cases hb:b=a
   ·exact hb
   ·exact absurd (if_neg hb) z
theorem Kd {l:R1} {n k:Nat} {q:Program} {ab:List Str} {XP:(Str->Option Value)->Heap->Prop} {YP:World->Heap->Prop} {d:DefRec} {K:Params->sB} {CX:World->CXT} {sp:World->Sp} {x:Str}
 (hn:l.most=some n) (am:n<=sizeLine) (an:d.params.defaults=[]) (hr:dk k callerA) (hi:importsNone q=true)
 (hY:∀(w:World) (h:Heap),YP w h->(K w.params).In h)
 (F:∀(w:World) (mg:Str->Option Value) (fa:Addr) (h:Heap),(K w.params).In h->h.Ns mainGlobals mg->mg d.name=some (.ref fa)->
  ∃fd:FuncData,(∀(s:Shared) (u:Value),BindsTo s fd ⟨[u],[]⟩ [(x,u)])/\
   ∀base:Heap,(K w.params).In base->base.Ns mainGlobals mg->ip l.prog w (K w.params) mg base (CX w) k fa fd [x] (sp w))
 (ap:∀(w:World) (H:Hp) (a:Addr) (ns:List Int),ns.length<=n->DB H->SqL (K w.params) H a (ns.map V.int)->sp w [.ref a] H (λv _=>v=.bl true) λ_ _ _=>False)
 (az:∀(w:World) (H:Hp) (s:Shared) (e:Value) (s':Shared),CX w [] H s (λ_ _ _=>False) e s'->False):
 S8 q ab XP YP l.row.toRowW d [] (λf vs=>SY f vs):=by
 refine Att.B0 hn an λw s₀ s₁ mg mb fa o pm cd be a vs ns G Y ho hd bi a1 ae ac U hg=> ?_
 have KX:=hY w _ Y
 obtain⟨fd,hb,hF⟩:=F w mg fa _ KX G.T.g a1
 exact HC KX G.T.g G.T.b G.T.builtins G.T.nolimit (G.T.seer hi) hg ae ac (Pk U am) hr hF hb (λH hO hS=>ap w H a ns U hO hS) λH e s'=>az w H s₁ e s'
def inClass(s:Stmt)(j:Nat):Stmt:=match s with
 | .ClassDef _ _ _ body _ _ _ _ _ _ _=>body.getD j (.Pass ⟨0,0,0,0⟩)
 | _=>.Pass ⟨0,0,0,0⟩
def dM(s:Stmt):Arguments:=match s with
 | .FunctionDef _ a _ _ _ _ _ _ _ _=>a
 | _=>{posonlyargs:=[],args:=[],vararg:=none,kwonlyargs:=[],kw_defaults:=[],kwarg:=none,defaults:=[]}
def cE(s:Stmt):List Stmt:=match s with
 | .FunctionDef _ _ b _ _ _ _ _ _ _=>b
 | _=>[]
def aJ(s:Stmt):Scope:=match s with
 | .FunctionDef _ _ _ _ _ _ sc _ _ _=>sc
 | _=>{kind:=.function,names:=[],isGenerator:=false,isCoroutine:=false}
abbrev E0:XK:=λ_ _ _=>False
structure Fun(K:sB)(x qual:Str)(st:Stmt)(f:Addr)(fd:FuncData):Prop where
 ex:∃(oc:Value) (od:Option Addr) (kV doc pm:Value) (an:Option Addr) (cdv ct:Value) (osl:Array (Option Value)),
  fd=Ix x qual (dM st) (cE st) (aJ st) .none kV doc pm an cdv ct/\K.lookup f=some ⟨oc,od,.func fd,osl⟩/\Pr K cdv qual=true
 kp:IR K (.ref f)=true
section
variable {P : Program} {w : World} {K : sB} {mg : Str → Option Value} {base : Heap}
theorem Fun.binds {ps:List Str} (F:Fun K x qual st f fd)
 (h:∀(kV U pm:Value) (an:Option Addr) (Y ct:Value) (us:List Value),us.length=ps.length->bindArgs (Ix x qual (dM st) (cE st) (aJ st) .none kV U pm an Y ct) ⟨us,[]⟩=pure (ps.zip us)):Binds K fd ps []:=by
 obtain⟨oc,od,kV,U,pm,an,Y,ct,ae,rfl,lk,am⟩:=F.ex
 exact .all (h kV U pm an Y ct)
theorem kJ {oc:Value} {od an:Option Addr} {ab:Array (Option Value)} {kV Y pm U ct:Value} (l:K.lookup f=some ⟨oc,od,.func (Ix x qual (dM st) (cE st) (aJ st) .none kV Y pm an U ct),ab⟩)
 (c:Pr K U qual=true) (k:IR K (.ref f)=true):Fun K x qual st f (Ix x qual (dM st) (cE st) (aJ st) .none kV Y pm an U ct):=⟨⟨oc,od,kV,Y,pm,an,U,ct,ab,rfl,l,c⟩,k⟩
end
section
variable {X : Cx}
theorem pv (i:Nat) {pos:Pos} (Y:X.N[i]? =some x:=by rfl) (hv:Vis X.env.scope x:=by first | exact tt rfl | exact P1 (tt rfl) | exact P1 (P1 rfl)) (hd:(x == ("__debug__" :Str))=false:=by decide)
 (U:(x == ("__classdict__" :Str))=false:=by decide):PE X (.Name x pos) (IP i):=Lx Y hv hd U
end
theorem tm{A B:Prop}(h:B):if false=true then A else B:=by
 rw[if_neg x0]
 exact h
theorem su{A B:Prop}(h:A):if true=true then A else B:=by
 rw[if_pos rfl]
 exact h
def bJ(H H':Hp):Prop:=∀b o,H b=some o->H' b=some o
theorem bJ.refl(H:Hp):bJ H H:=λ_ _ h=>h
theorem bJ.trans{H H1 H2:Hp}(a:bJ H H1)(b:bJ H1 H2):bJ H H2:=λc o h=>b c o (a c o h)
theorem bJ.seq{H H':Hp}(e:bJ H H')(h:SqL K H a xs):SqL K H' a xs:=by
 rcases h with(h | ⟨o,h⟩) | h
 ·exact .inl (.inl (e _ _ h))
 ·exact .inl (.inr ⟨o,e _ _ h⟩)
 ·exact .inr h
def eE(env:Env):List (Str×NameKind)->List (Str×Addr)->List (Str×Addr)
 | [],cs=>cs
 | (n,k)::r,cs=>if k == .free then eE env r ((n,(env.cells.lookup n).getD 0)::cs) else eE env r cs
theorem xt{env:Env}:∀(names:List (Str×NameKind)) (U:List (Str×Addr)),(∀n,(n,NameKind.free)∈names->∃c,env.cells.lookup n=some c)->
 (forIn names U λ(x:Str×NameKind) (r:List (Str×Addr))=>(if (x.2 == NameKind.free)=true then do
  let a <- cellOf env x.1
  pure (QA ((x.1,a)::r)) else pure (QA r):Sem (ForInStep (List (Str×Addr)))))=pure (eE env names U)
 | [],U,_=>rfl
 | (n,k)::r,U,h=>by
  rw[List.forIn_cons]
  by_cases hk:(k == NameKind.free)=true
  ·have Y:k=.free:=by simpa using hk
   subst Y
   obtain⟨c,hc⟩:=h n wv
   simp only[hk,if_true,eE,cellOf,hc,pure_bind,RO]
   exact xt r _ λm hm=>h m (wh _ hm)
  ·simp only[hk,if_false,eE,pure_bind]
   exact xt r U λm hm=>h m (wh _ hm)
theorem zz{scope:Scope}{env:Env}(h:∀n,(n,NameKind.free)∈scope.names->∃c,env.cells.lookup n=some c):closureFor scope env=pure (eE env scope.names []):=by
 have:=xt scope.names [] h
 simp only[closureFor]
 rw[<- this]
 exact bind_pure _
theorem rg{env:Env}:∀(names:List (Str×NameKind)) (U:List (Str×Addr)),(∀n,(n,NameKind.free)∈names->∃c,env.cells.lookup n=some c)->
 (∀x c,U.lookup x=some c->env.cells.lookup x=some c)->∀x c,(eE env names U).lookup x=some c->env.cells.lookup x=some c
 | [],U,_,h,x,c,e=>h x c e
 | (n,k)::r,U,hf,h,x,c,e=>by
  unfold eE at e
  by_cases hk:(k == NameKind.free)=true
  ·rw[if_pos hk] at e
   have ab:k=.free:=by simpa using hk
   subst ab
   refine rg r _ (λm hm=>hf m (wh _ hm)) (λy d q=> ?_) x c e
   obtain⟨c',Y⟩:=hf n wv
   rw[PF] at q
   split at q
   ·rename_i hy
    have:y=n:=by simpa using hy
    subst this
    rw[Y,RO] at q
    rw[Y];exact q
   ·exact h y d q
  ·rw[if_neg hk] at e
   exact rg r U (λm hm=>hf m (wh _ hm)) h x c e
theorem pP{env:Env}:∀(names:List (Str×NameKind)) (U:List (Str×Addr)) (x:Str),(∃c,U.lookup x=some c)->∃c,(eE env names U).lookup x=some c
 | [],U,_,h=>h
 | (n,k)::r,U,x,h=>by
  unfold eE
  by_cases hk:(k == NameKind.free)=true
  ·rw[if_pos hk]
   refine pP r _ x ?_
   rw[PF]
   split
   ·exact⟨_,rfl⟩
   ·exact h
  ·rw[if_neg hk]
   exact pP r U x h
theorem nN{env:Env}:∀(names:List (Str×NameKind)) (U:List (Str×Addr)) (x:Str),(x,NameKind.free)∈names->∃c,(eE env names U).lookup x=some c
 | (n,k)::r,U,x,h=>by
  unfold eE
  rcases wT.mp h with e | h
  ·cases e
   rw[if_pos (by rfl)]
   refine pP r _ n ?_
   exact⟨_,by rw[PF];simp;rfl⟩
  ·by_cases hk:(k == NameKind.free)=true
   ·rw[if_pos hk];exact nN r _ x h
   ·rw[if_neg hk];exact nN r U x h
theorem fU:∀(names:List (Str×NameKind)) (n:Nat) (U:List (Str×Addr)),cellsFrom n names U=cellsFrom n names []++U
 | [],_,_=>rfl
 | (x,k)::r,n,U=>by
  unfold cellsFrom
  split
  ·rw[fU r (n+1) ((x,n)::U),fU r (n+1) [(x,n)],Pz];rfl
  ·exact fU r n U
theorem ni:∀(names:List (Str×NameKind)) (n:Nat) {x:Str} {c:Addr},(x,c)∈cellsFrom n names []->(x,NameKind.cell)∈names
 | [],_,_,_,h=>nomatch h
 | (y,k)::r,n,x,c,h=>by
  unfold cellsFrom at h
  split at h
  ·rename_i hk
   have U:k=.cell:=by simpa using hk
   rw[fU] at h
   rcases xz.mp h with q | q
   ·exact wh _ (ni r _ q)
   ·cases ww.mp q
    rw[U]
    exact wv
  ·exact wh _ (ni r _ h)
theorem Ed{c:Addr}(h:(l++m).lookup x=some c):l.lookup x=some c\/(l.lookup x=none/\m.lookup x=some c):=by
 rw[Ru] at h
 cases e:l.lookup x with
 | none=>rw[e] at h;exact .inr ⟨rfl,h⟩
 | some d=>rw[e] at h;exact .inl h
theorem tF(h:l.lookup x=none):(l++m).lookup x=m.lookup x:=by rw[Ru,h];rfl
theorem Ag(h:∃c,m.lookup x=some c):∃c,(l++m).lookup x=some c:=by
 cases e:l.lookup x with
 | none=>rw[tF e];exact h
 | some c=>exact⟨c,by rw[Ru,e];rfl⟩
theorem F8(h:Heap)(names:List (Str×NameKind)):CellsOk (pushCells (h.push {cls:=.type "dict",data:=.dict #[]}) names) (h.objs.size+1) (cellsFrom (h.objs.size+1) names []):=by
 have:=cellsFrom_ok names (h.push {cls:=.type "dict",data:=.dict #[]}) (h.objs.size+1) [] ⟨λ_ _ hm=>(nomatch hm),Sv⟩ (by rw[Heap.size_push];exact wf _)
 rwa [Heap.size_push] at this
theorem Cg {M:Model} {A:Around} {E:Value->Shared->Prop} {s:Shared} {scope:Scope} {globals:Addr} {U:List (Str×Addr)} {qual:Str} {func:Option Addr} {code:Value} {outer:Env} {builtins:Addr} {Q:Env->Shared->Prop}
 (Y:Q {scope:=scope,locals:=s.heap.objs.size,globals:=globals,cells:=cellsFrom (s.heap.objs.size+1) scope.names U,qual:=qual,func:=func,code:=outer.code,frame:=outer.frame,builtins:=outer.builtins} {s with heap:=pushCells (s.heap.push {cls:=.type "dict",data:=.dict #[]}) scope.names}):
 wpAny M A (newFunctionEnv scope globals U [] qual func code (some outer) builtins) Q E s:=by
 simp only[newFunctionEnv,Option.isSome_some,if_true]
 refine wpAny_bind (wpAny_alloc ?_)
 refine wpAny_bind (wpAny_layCells _ (λname kind cells=>by cases hkc:kind == NameKind.cell <;> simp[hkc]) _ _ _ _ ?_)
 rw[show ({s with heap:=s.heap.push {cls:=.type "dict",data:=.dict #[]}}:Shared).heap.objs.size=s.heap.objs.size+1 from Heap.size_push ..]
 refine wpAny_bind ?_
 rw[List.forIn_nil]
 exact wpAny_pure (wpAny_pure Y)
def cxC(X:Cx)(scope:Scope)(N':List Str)(fp:List Addr)(s:Shared)(H:Hp):Cx where
 prog:=X.prog
 w:=X.w
 K:=X.K
 mg:=X.mg
 base:=X.base
 A:=X.A
 N:=N'
 s₀:=s
 H₀:=H
 env:=compEnvC scope (cellsFrom (s.heap.objs.size+1) scope.names (eE X.env scope.names [])) s.heap.objs.size X.env
 outer:=X.stack
 stack:=X.stack
 ex:=fp
 calm:=X.calm
 fn:=λx=>scope.names.lookup x == some .cell
 pn:=[]
 xe:=λ_ _=>False
def k9(X:Cx)(scope:Scope):List Str->List Nat->Prop
 | [],[]=>True
 | x::xs,j::js=>X.N[j]? =some x/\(X.env.scope.names.lookup x=some .cell\/X.env.scope.names.lookup x=some .free)/\scope.names.lookup x=some .free/\k9 X scope xs js
 | _,_=>False
theorem k9.get{X:Cx}{scope:Scope}:∀{xs:List Str} {U:List Nat} {i:Nat} {x:Str},k9 X scope xs U->xs[i]? =some x->
 ∃j,U[i]? =some j/\X.N[j]? =some x/\(X.env.scope.names.lookup x=some .cell\/X.env.scope.names.lookup x=some .free)/\scope.names.lookup x=some .free
 | [],_,_,_,_,e=>by simp at e
 | _::_,[],_,_,h,_=>h.elim
 | y::ys,j::U,0,x,h,e=>by
  simp at e;subst e
  exact⟨j,rfl,h.1,h.2.1,h.2.2.1⟩
 | y::ys,j::U,i+1,x,h,e=>by
  obtain⟨Y,e1,r⟩:=k9.get (i:=i) (x:=x) h.2.2.2 (by simpa using e)
  exact⟨Y,by simpa using e1,r⟩
theorem k9.length{X:Cx}{scope:Scope}:∀{xs:List Str} {U:List Nat},k9 X scope xs U->xs.length=U.length
 | [],[],_=>rfl
 | [],_::_,h=>h.elim
 | _::_,[],h=>h.elim
 | _::_,_::_,h=>by rw[wE,wE,k9.length h.2.2.2]
def nV(m:Nat)(caps:List Nat)(σ:St):St:=tz m none++caps.map λi=>(σ[i]?).getD none
theorem lookup_mem{α β:Type}[BEq α][LawfulBEq α]:∀{l:List (α×β)} {x:α} {b:β},l.lookup x=some b->(x,b)∈l
 | [],_,_,h=>by simp at h
 | (a,c)::r,x,b,h=>by
  rw[PF] at h
  split at h
  ·rename_i q
   have:x=a:=by simpa using q
   subst this
   cases h
   exact wv
  ·exact wh _ (lookup_mem h)
section
variable {X : Cx}
theorem ib{scope:Scope}{env:Env}:∀{names:List (Str×NameKind)} {x:Str} {k:NameKind},(names.map λ(n,k)=>if (k == NameKind.free&&env.scope.kind == .function&&env.kindOf n == some .cell) then (n,NameKind.cell) else (n,k)).lookup x=some k->
 ∃U,names.lookup x=some U/\(U=k\/(U=.free/\k=.cell))
 | [],_,_,h=>by simp at h
 | (n,k0)::r,x,k,h=>by
  have h':QE x ((if (k0 == NameKind.free&&env.scope.kind == .function&&env.kindOf n == some .cell)=true then (n,NameKind.cell) else (n,k0))::r.map _)=some k:=h
  by_cases hc:(k0 == NameKind.free&&env.scope.kind == .function&&env.kindOf n == some .cell)=true
  ·rw[if_pos hc,PF] at h'
   rw[PF]
   split at h'
   ·rename_i q
    cases h'
    have hk:k0=.free:=by simp only[Po] at hc;simpa using hc.1.1
    exact⟨k0,rfl,.inr ⟨hk,rfl⟩⟩
   ·rename_i q
    exact ib (scope:=scope) h'
  ·rw[if_neg hc,PF] at h'
   rw[PF]
   split at h'
   ·rename_i q
    cases h'
    exact⟨k0,rfl,.inl rfl⟩
   ·rename_i q
    exact ib (scope:=scope) h'
structure mX(X:Cx)(scope:Scope)(own cap:List Str)(caps:List Nat):Prop where
 kind:scope.kind=.function
 cell:∀y∈scope.names,y.2=.cell->scope.names.lookup y.1=some .cell
 nm:∀y∈scope.names,y.2=.local->scope.names.lookup y.1=some .local
 fr:∀y∈scope.names,y.2=.free->y.1∈cap
 caps:k9 X scope cap caps
 nd:(own++cap).Nodup
theorem mX.out{X:Cx}(S:mX X scope own cap caps){n:Str}(h:(n,NameKind.free)∈scope.names):X.env.scope.names.lookup n=some .cell\/X.env.scope.names.lookup n=some .free:=by
 obtain⟨i,hi,e⟩:=Py (S.fr _ h rfl)
 obtain⟨_,_,_,k,_⟩:=S.caps.get (i:=i) (x:=n) (by rw[uX hi,e])
 exact k
theorem GW {fp:List Addr} {h1:Heap} {tk:Nat} (Sc:mX X scope own cap caps) (I:Inv X pins σ H s)
 (ab:∀b∈fp,lS X pins H b) (az:∀b∈fp,∃o,s.heap.get? b=some o) (a5:h1.Ns s.heap.objs.size λ_=>none)
 (hk:∀b o,s.heap.get? b=some o->h1.get? b=some o) (Y:CellsOk h1 (s.heap.objs.size+1) (cellsFrom (s.heap.objs.size+1) scope.names [])):
 Inv (cxC X scope (own++cap) fp s H) [] (nV own.length caps σ) H {s with heap:=h1,toks:=tk}:=by
 have bb:∀n,(n,NameKind.free)∈scope.names->∃c,X.env.cells.lookup n=some c:=λn hn=>I.ok.has n (Sc.out hn)
 have sub:∀x c,(eE X.env scope.names []).lookup x=some c->X.env.cells.lookup x=some c:=rg scope.names [] bb (λx c e=>by simp at e)
 have fresh:H s.heap.objs.size=none:=I.hok.fresh (wf _)
 have U:∀x c,(cellsFrom (s.heap.objs.size+1) scope.names (eE X.env scope.names [])).lookup x=some c->((x,c)∈cellsFrom (s.heap.objs.size+1) scope.names []/\s.heap.objs.size<c)\/((cellsFrom (s.heap.objs.size+1) scope.names []).lookup x=none/\X.env.cells.lookup x=some c/\c<s.heap.objs.size):=λx c e=>by
  rw[fU] at e
  rcases Ed e with q | ⟨q0,q⟩
  ·exact .inl ⟨mem_of_lookup q,(Y.empty x c (mem_of_lookup q)).2⟩
  ·have q':=sub x c q
   obtain⟨v,o,ho,_⟩:=I.cell x c q'
   exact .inr ⟨q0,q',Heap.lt_size ho⟩
 have ac:∀x,scope.names.lookup x=some .free->(cellsFrom (s.heap.objs.size+1) scope.names []).lookup x=none:=λx hx=>by
  cases e:(cellsFrom (s.heap.objs.size+1) scope.names []).lookup x with
  | none=>rfl
  | some c=>
   have:=Sc.cell _ (ni _ _ (mem_of_lookup e)) rfl
   dsimp only at this
   rw[hx] at this
   cases this
 refine⟨⟨I.ok.mod,Sc.kind,I.ok.glob,I.ok.blt,wf _,λx y c e1 e2=> ?_,λx hx=> ?_,λx c h e=> ?_,I.ok.hd,I.ok.frames,.inl rfl,λb hb=>⟨?_,λx c e=> ?_⟩,I.bs,Pk I.ok.bsz I.sz,λb o e hb=> ?_,λb hb hs=> ?_,I.stack,I.stkFree⟩,
  rfl,I.bare,Un.kept hk,⟨_,a5,λi x v e1 e2 e3=> ?_⟩,λx c e=> ?_,fresh,λx c e=> ?_,λp hp=>absurd (show p∈([]:List (Addr×Obj)) from hp) (by simp),I.hok.kept hk, ?_⟩
 ·rcases U x c e1 with⟨p1,p2⟩ | ⟨_,p1,p2⟩ <;> rcases U y c e2 with⟨q1,q2⟩ | ⟨_,q1,q2⟩
  ·exact name_of_addr Y.apart p1 q1
  ·exact absurd p2 (S0.mpr (Qj q2))
  ·exact absurd q2 (S0.mpr (Qj p2))
  ·exact I.ok.inj x y c p1 q1
 ·have bd:(relabel scope X.env).names.lookup x=some .cell\/(relabel scope X.env).names.lookup x=some .free:=hx
  have:(x,NameKind.free)∈scope.names\/scope.names.lookup x=some .cell:=by
   rcases bd with q | q
   ·obtain⟨k',e1,e2⟩:=ib (scope:=scope) q
    rcases e2 with rfl | ⟨rfl,_⟩
    ·exact .inr e1
    ·exact .inl (lookup_mem e1)
   ·obtain⟨k',e1,e2⟩:=ib (scope:=scope) q
    rcases e2 with rfl | ⟨rfl,z⟩
    ·exact .inl (lookup_mem e1)
    ·cases z
  rcases this with q | q
  ·show ∃c,(cellsFrom (s.heap.objs.size+1) scope.names (eE X.env scope.names [])).lookup x=some c
   rw[fU]
   exact Ag (nN scope.names [] x q)
  ·exact Qc.mp (Qh scope.names _ _ (.inl q))
 ·have h':scope.names.lookup x=some .cell:=by
   have:(scope.names.lookup x == some NameKind.cell)=true:=h
   simpa using this
  rcases U x c e with⟨_,p⟩ | ⟨p,_⟩
  ·exact Qj p
  ·have:=Qh scope.names (s.heap.objs.size+1) [] (.inl h')
   rw[p] at this
   cases this
 ·obtain⟨o,ho⟩:=az b hb
  exact Do (Heap.lt_size ho)
 ·rcases U x c e with⟨_,p⟩ | ⟨_,p,_⟩
  ·obtain⟨o,ho⟩:=az b hb
   exact λz=>absurd (Heap.lt_size ho) (S0.mpr (Qj (z▸p)))
  ·exact(ab b hb).2.2.2.2.1 x c p
 ·rcases(ab b hb).2.2.2.1 with z | z
  ·exact I.ok.noex b o e z
  ·exact absurd (AT (Heap.lt_size e) (Pk I.ok.bsz z)) (PH _)
 ·rcases wT.mp (I.stkSub b hs) with z | z
  ·exact(ab b hb).2.1 z
  ·exact(ab b hb).2.2.1 z
 ·have a2:(own++cap)[i]? =some x:=e1
  have hi:own.length<=i:=by
   by_cases q:i<own.length
   ·unfold nV at e2
    rw[w6 (by simpa using q),Gc] at e2
    split at e2 <;> cases e2
   ·omega
  rw[wn hi] at a2
  obtain⟨j,hj,hN,a3,ae⟩:=Sc.caps.get a2
  unfold nV at e2
  rw[wn (by simpa using hi)] at e2
  simp only[QJ,xL,hj,PN,Sw] at e2
  have be:σ[j]? =some (some v):=by
   cases q:σ[j]? with
   | none=>rw[q] at e2;simp at e2
   | some ov=>rw[q] at e2;simp at e2;rw[e2]
  obtain⟨m,hm,hl⟩:=I.loc
  obtain⟨u,ru,lk⟩:=hl j x v hN be (a3.elim (λz=>.inr (.inl z)) λz=>.inr (.inr z))
  refine⟨u,ru,.inr ⟨?_, ?_⟩⟩
  ·rcases e3 with q | q | q
   ·obtain⟨k',w1,w2⟩:=ib (scope:=scope) (show (relabel scope X.env).names.lookup x=some .local from q)
    rw[ae] at w1
    cases w1
    rcases w2 with w | ⟨_,w⟩ <;> cases w
   ·exact .inl q
   ·exact .inr q
  ·rcases lk with⟨z,_⟩ | ⟨_,c,ec,hc⟩
   ·have z':X.env.scope.names.lookup x=some .local:=z
    rcases a3 with q | q <;> (rw[q] at z';cases z')
   ·obtain⟨c',a4⟩:=nN (env:=X.env) scope.names [] x (lookup_mem ae)
    have:=sub x c' a4
    rw[ec] at this
    cases this
    obtain⟨oc,am,an⟩:=hc
    refine⟨c, ?_,oc,hk _ _ am,an⟩
    show (cellsFrom (s.heap.objs.size+1) scope.names (eE X.env scope.names [])).lookup x=some c
    rw[fU,tF (ac x ae)]
    exact a4
 ·rcases U x c e with⟨p,_⟩ | ⟨_,p,_⟩
  ·exact⟨none,(Y.empty x c p).1⟩
  ·obtain⟨v,oc,am,an⟩:=I.cell x c p
   exact⟨v,oc,hk _ _ am,an⟩
 ·rcases U x c e with⟨_,p⟩ | ⟨_,p,_⟩
  ·exact I.hok.fresh (Qj p)
  ·exact I.freeC x c p
 ·unfold nV
  have:=Sc.caps.length
  simp[cxC,this]
theorem EK {prog:Program} {w:World} {A:Around} {R:Result->Shared->Prop} {s:Shared} {ab U Y:Expr} {ac:List Expr} {scope:Scope} {pos:Pos} {it ae:Value} {env:Env} (I:Nat->Shared->Prop)
 (am:∀n s,I n s->wpAny (model prog w) A (pyNext it) (λr s₁=>match r with
  | none=>R (.ok .next) s₁
  | some v=>wpAny (model prog w) A (letOwnedTupleGo U it v) (λ_ an=>wpAny (model prog w) A (assign U env v) (λ_ s₂=>
   wpAny (model prog w) A (forIn ac true λc r=>if r=true then do let ok <- isTrue c env (eval c env);pure (QA ok) else pure (QA r)) (λok s₃=>
    if ok=true then wpAny (model prog w) A (eval ab env) (λx s₄=>
     wpAny (model prog w) A (call (.builtin "list.append") [ae,x]) (λ_ s₅=>∃m,m<n/\I m s₅) (λ_ _=>False) s₄) (λ_ _=>False) s₃
    else ∃m,m<n/\I m s₃) (λ_ _=>False) s₂) (λ_ _=>False) an) (λ_ _=>False) s₁) (λ_ _=>False) s)
 (n:Nat) (h:I n s):
 codeAny (model prog w) A (.compLoop (.ListComp ab [⟨U,Y,ac,0⟩] scope pos) 0 it ae env) R s:=by
 refine codeAny_loop rfl I (λn s hI=> ?_) n h
 show wpAny _ A ((compTurn (.ListComp ab [⟨U,Y,ac,0⟩] scope pos) 0 it ae env).onRaise (λx=>do noteFrame x env;theTreesLotGoes x)) _ _ s
 refine wpAny_noted ?_
 rw[compTurn_list]
 refine wpAny_bind (wpAny_standAt (wpAny_bind (wpAny_mono (am n s hI) (λr s₁ h₁=> ?_) λ_ _ h'=>h'.elim)))
 cases r with
 | none=>exact wpAny_pure h₁
 | some v=>
  refine wpAny_bind (wpAny_mono h₁ (λ_ an a1=>wpAny_bind (wpAny_mono a1 (λ_ s₂ h₂=>wpAny_bind (wpAny_mono h₂ (λok s₃ h₃=> ?_) λ_ _ h'=>h'.elim)) λ_ _ h'=>h'.elim)) λ_ _ h'=>h'.elim)
  cases ok with
  | false=>exact wpAny_pure ⟨rfl,h₃⟩
  | true=>
   exact wpAny_bind (wpAny_bind (wpAny_mono h₃ (λx s₄ h₄=>wpAny_bind (wpAny_mono h₄ (λ_ s₅ h₅=>wpAny_pure (wpAny_pure ⟨rfl,h₅⟩)) λ_ _ h'=>h'.elim)) λ_ _ h'=>h'.elim))
def PTs(X:Cx)(U:List Expr)(t:TT):Prop:=
 ∀(pins:List (Addr×Obj)) (s:Shared) (σ:St) (H:Hp) (Q:Bool->Hp->Prop),Inv X pins σ H s->t σ H Q->
  wpAny (model X.prog X.w) X.A (forIn U true λc r=>if r=true then do let ok <- isTrue c X.env (eval c X.env);pure (QA ok) else pure (QA r)) (TP X pins σ Q) X.xe s
def Jo:TT:=λ_ H Q=>Q true H
theorem bK:PTs X [] Jo:=λ_ _ _ H _ I h=>wpAny_tests_nil ⟨H,I,h⟩
theorem qr{c:Expr}{t:TT}(h:PT X c t):PTs X [c] t:=λpins s σ H Q I q=>wpAny_tests_one (h pins s σ H Q I q)
def rJ(m:Nat)(caps:List Nat)(wi:TI)(g:TG)(tc:TT)(te:TE):TE:=λσ H Q=>wi σ H λJ H1=>∀p,H1 p=none->
 ∃W:Nat->Nat->List V->St->Hp->Prop,(∃k,W 0 k [] (nV m caps σ) (upd H1 p (.lst [])))/\∀i k U σ' H',W i k U σ' H'->
  (J.stop i H'/\H' p=some (.lst U)/\Q (.ref p) H')\/(J.go i H'/\∀x H2,J.yld i H' x H2->g x σ' H2 λσ2 H3=>tc σ2 H3 λb H4=>if b=true then
   te σ2 H4 λy H5=>H5 p=some (.lst U)/\U.length<sizeLine/\∃Y,Y<k/\W (i+1) Y (U++[y]) σ2 (upd H5 p (.lst (U++[y])))
   else ∃Y,Y<k/\W (i+1) Y U σ2 H4)
theorem GO{N':List Str}{pins Y:List (Addr×Obj)}{σ σ':St}{H3 H':Hp}{s3 s':Shared}(I3:Inv X pins σ H3 s3)(I':Inv (cxC X scope N' fp s3 H3) Y σ' H' s')(U:∀b∈fp,lS X pins H3 b):Inv X pins σ H' s':=
 I3.call' (ch:=fp) I'.os I'.base I'.hok I'.bare λb hb=>⟨(U b hb).2.2.2.1,(U b hb).2.1,(U b hb).2.2.2.2.1,(U b hb).2.2.2.2.2⟩
theorem wI {ab a4 be:Expr} {bi:List Expr} {scope:Scope} {pos:Pos} {own cap:List Str} {caps:List Nat} {g:TG} {tc:TT} {te:TE} {pins:List (Addr×Obj)} {σ:St} {H2:Hp} {Y:Shared} {it:Addr} {fp:List Addr} {tn:Nat->Heap->Prop} {J:It} {E:Value->Shared->Prop}
 {RR:Value->Addr->Result->Shared->Prop} {Q:VK}
 (hc:X.calm=true) (Sc:mX X scope own cap caps)
 (hg:∀s H,PG (cxC X scope (own++cap) fp s H) ab g) (ht:∀s H,PTs (cxC X scope (own++cap) fp s H) bi tc) (he:∀s H,PE (cxC X scope (own++cap) fp s H) be te)
 (I:Inv X pins σ H2 Y) (T:Turn X.prog X.w X.K ab J fp it tn) (t0:tn 0 Y.heap) (bw:∀b∈fp,lS X pins H2 b)
 (hQ:∀p,H2 p=none->∃W:Nat->Nat->List V->St->Hp->Prop,(∃k,W 0 k [] (nV own.length caps σ) (upd H2 p (.lst [])))/\∀i k U σ' H',W i k U σ' H'->
  (J.stop i H'/\H' p=some (.lst U)/\Q (.ref p) H')\/(J.go i H'/\∀x H2,J.yld i H' x H2->g x σ' H2 λσ2 H3=>tc σ2 H3 λb H4=>if b=true then
   te σ2 H4 λy H5=>H5 p=some (.lst U)/\U.length<sizeLine/\∃k',k'<k/\W (i+1) k' (U++[y]) σ2 (upd H5 p (.lst (U++[y])))
   else ∃k',k'<k/\W (i+1) k' U σ2 H4))
 (cp:∀C p H' s' m,X.s₀.heap.objs.size<=C->C≠X.env.locals->(∀x c,X.env.cells.lookup x=some c->c≠C)->(∀q∈X.pn++pins,q.1≠C)->H' C=none->s'.heap.Ns C m->Inv X pins σ H' s'->Q (.ref p) H'->RR (.ref p) C (.ok .next) s'):
 wpAny (model X.prog X.w) X.A (newList []) (λU s₃=>wpAny (model X.prog X.w) X.A (newFunctionEnv scope X.env.globals (eE X.env scope.names []) [] X.env.qual none .none (some X.env)) (λa5 s₄=>
  codeAny (model X.prog X.w) X.A (.compStart (.ListComp be [⟨ab,a4,bi,0⟩] scope pos) 0 (.ref it) U {a5 with scope:=relabel scope X.env}) (RR U a5.locals) s₄) E s₃) E Y:=by
 refine wpAny_newObj_type (Cg ?_)
 dsimp only
 have cr:H2 Y.heap.objs.size=none:=I.hok.fresh (wf _)
 have I3:Inv X pins σ (upd H2 Y.heap.objs.size (.lst [])) {Y with heap:=Y.heap.push {cls:=.type "list",dict:=none,data:=.seq ([]:List Value).toArray}}:=I.lnew (t':=Y.toks) .nil (Ph _)
 obtain⟨W,⟨k0,w0⟩,b2⟩:=hQ Y.heap.objs.size cr
 have old:∀b o,Y.heap.get? b=some o->(Y.heap.push {cls:=.type "list",dict:=none,data:=.seq ([]:List Value).toArray}).get? b=some o:=λb o e=>Heap.get?_push_of_some _ e
 have cs:∀b∈fp,b≠Y.heap.objs.size:=λb hb=>by
  obtain⟨o,ho,_⟩:=T.obj 0 Y.heap t0 b hb
  exact Do (Heap.lt_size ho)
 have am:∀b∈fp,lS X pins (upd H2 Y.heap.objs.size (.lst [])) b:=λb hb=>⟨by rw[aS (cs b hb)];exact(bw b hb).1,(bw b hb).2⟩
 have b4:∀b∈fp,∃o,(Y.heap.push {cls:=.type "list",dict:=none,data:=.seq ([]:List Value).toArray}).get? b=some o:=λb hb=>by
  obtain⟨o,ho,_⟩:=T.obj 0 Y.heap t0 b hb
  exact⟨o,old b o ho⟩
 generalize az:pushCells ((Y.heap.push {cls:=.type "list",dict:=none,data:=.seq ([]:List Value).toArray}).push {cls:=.type "dict",data:=.dict #[]}) scope.names=h₁
 have bb:h₁.Ns (Y.heap.push {cls:=.type "list",dict:=none,data:=.seq ([]:List Value).toArray}).objs.size λ_=>none:=by rw[<- az];exact(Heap.Ns.new _ (.type "dict")).keeps (pushCells_keeps _ _)
 have hk:∀b o,(Y.heap.push {cls:=.type "list",dict:=none,data:=.seq ([]:List Value).toArray}).get? b=some o->h₁.get? b=some o:=λb o e=>by rw[<- az];exact pushCells_keeps _ _ b o (Heap.get?_push_of_some _ e)
 have bd:CellsOk h₁ ((Y.heap.push {cls:=.type "list",dict:=none,data:=.seq ([]:List Value).toArray}).objs.size+1) (cellsFrom ((Y.heap.push {cls:=.type "list",dict:=none,data:=.seq ([]:List Value).toArray}).objs.size+1) scope.names []):=by rw[<- az];exact F8 _ _
 clear az
 have b6:tn 0 h₁:=T.keep 0 _ _ t0 λb hb o e=>hk b o (old b o e)
 generalize b7:({Y with heap:=Y.heap.push {cls:=.type "list",dict:=none,data:=.seq ([]:List Value).toArray}}:Shared)=s3 at I3
 have cu:s3.heap=Y.heap.push {cls:=.type "list",dict:=none,data:=.seq ([]:List Value).toArray}:=by rw[<- b7]
 rw[<- cu] at bb b4 hk bd ⊢
 generalize Y.heap.objs.size=D at *
 generalize dp:upd H2 D (.lst [])=H3 at *
 have cb:∀s₄:Shared,s₄={s3 with heap:=h₁}->
  codeAny (model X.prog X.w) X.A (.compLoop (.ListComp be [⟨ab,a4,bi,0⟩] scope pos) 0 (.ref it) (.ref D) (compEnvC scope (cellsFrom (s3.heap.objs.size+1) scope.names (eE X.env scope.names [])) s3.heap.objs.size X.env)) (RR (.ref D) s3.heap.objs.size) s₄:=by
  rintro s₄ rfl
  have I4:=GW (tk:=s3.toks) Sc I3 am b4 bb hk bd
  have an:∀{H':Hp},(∀b∈fp,H' b=none)->∀b∈fp,lS (cxC X scope (own++cap) fp s3 H3) [] H' b:=λhn b hb=>by
   refine⟨hn b hb,(I4.ok.exf b hb).1,I4.ok.exfs b hb,.inl hb,(I4.ok.exf b hb).2,λp hp=>absurd (show p∈([]:List (Addr×Obj)) from hp) (by simp)⟩
  refine EK (λn s'=>∃i U σ' H',Inv (cxC X scope (own++cap) fp s3 H3) [] σ' H' s'/\tn i s'.heap/\(∀b∈fp,H' b=none)/\W i n U σ' H') ?_ k0 ⟨0,[],_,_,I4,b6,λb hb=>(am b hb).1,w0⟩
  rintro n s5 ⟨i,U,σ5,H5,I5,cc,ce,w5⟩
  rcases b2 i n U σ5 H5 w5 with⟨cg,hp,q⟩ | ⟨go,step⟩
  ·refine thn (T.done (cxC X scope (own++cap) fp s3 H3) rfl rfl rfl hc i [] s5 σ5 H5 _ I5 (an ce) cc cg) λr s6 ⟨hr,I6⟩=> ?_
   subst hr
   obtain⟨m,hm,_⟩:=I6.loc
   refine cp s3.heap.objs.size D H5 s6 m I3.sz (QT I3.lt) (λx c e=> ?_) (λp hp=> ?_) I6.free hm (GO I3 I6 am) q
   ·obtain⟨v,o,ho,_⟩:=I3.cell x c e
    exact Do (Heap.lt_size ho)
   ·exact Do (Heap.lt_size (I3.pin p hp).1)
  ·refine thn (T.item (cxC X scope (own++cap) fp s3 H3) rfl rfl rfl hc i [] s5 σ5 H5 _ I5 (an ce) cc go) λr s6 ⟨u,hr,h6⟩=> ?_
   subst hr
   refine thn h6 λ_ s7 ⟨x,H7,I7,r7,y7,st7,fr7⟩=> ?_
   have cw:=I7.pinned (an fr7) (T.obj _ _ st7)
   refine thn (hg s3 H3 _ s7 σ5 H7 x u _ cw r7 (step x H7 y7)) λ_ s8 ⟨σ8,H8,I8,q8⟩=> ?_
   refine thn (ht s3 H3 _ s8 σ8 H8 _ I8 q8) λb s9 ⟨H9,I9,q9⟩=> ?_
   have again:∀{σz:St} {Hz:Hp} {sz:Shared},Inv (cxC X scope (own++cap) fp s3 H3) ([]++sA fp s7.heap) σz Hz sz->Inv (cxC X scope (own++cap) fp s3 H3) [] σz Hz sz/\tn (i+1) sz.heap/\∀b∈fp,Hz b=none:=λ{σz Hz sz} Iz=>by
    refine⟨Iz.unpinned,T.keep _ _ _ st7 λb hb o e=>(Iz.pin (b,o) (Pg _ (Pg _ (nK hb e)))).1,λb hb=> ?_⟩
    obtain⟨o,e,d⟩:=T.obj _ _ st7 b hb
    exact(Iz.pin (b,o) (Pg _ (Pg _ (nK hb e)))).2.1
   cases b with
   | false=>
    rw[if_neg x0] at q9 ⊢
    obtain⟨k',bp,w'⟩:=q9
    obtain⟨a1,a2,a3⟩:=again I9
    exact⟨k',bp,i+1,U,σ8,H9,a1,a2,a3,w'⟩
   | true=>
    rw[if_pos rfl] at q9 ⊢
    refine thn (he s3 H3 _ s9 σ8 H9 _ I9 q9) λyv s10 ⟨y,H10,I10,r10,hp,hl,k',bp,w'⟩=> ?_
    refine thn (eG _ s10 σ8 H10 (.ref D) [y] (.ref D) [yv] (λv Hz=>Hz=upd H10 D (.lst (U++[y]))) I10 rfl (.cons r10 .nil) ⟨D,U,y,rfl,rfl,hp,hl,rfl⟩) λ_ s11 ⟨_,H11,I11,_,e11⟩=> ?_
    subst e11
    obtain⟨a1,a2,a3⟩:=again I11
    exact⟨k',bp,i+1,U++[y],σ8,_,a1,a2,a3,w'⟩
 have ci:=cb _ rfl
 subst b7
 exact codeAny_compStart_list ci (T.self _ _ _ _ _ b6 ci)
theorem PTs.ok{X:Cx}(I:Inv X pins σ H s)(U:mX X scope own cap caps):closureFor scope X.env=pure (eE X.env scope.names []):=
 zz λn hn=>I.ok.has n (U.out hn)
theorem cf {U Y ab:Expr} {ac:List Expr} {pos:Pos} {wi:TI} {g:TG} {tc:TT} {te:TE} (hc:X.calm=true) (Sc:mX X scope own cap caps) (hi:PI X U Y wi)
 (hg:∀fp s H,PG (cxC X scope (own++cap) fp s H) U g) (ht:∀fp s H,PTs (cxC X scope (own++cap) fp s H) ac tc) (he:∀fp s H,PE (cxC X scope (own++cap) fp s H) ab te)
 (hs:∀x,foldedSetIterable Y X.env x=pure x:=by intro _;rfl):PE X (.ListComp ab [⟨U,Y,ac,0⟩] scope pos) (rJ own.length caps wi g tc te):=by
 intro pins s σ H Q I h
 rw[eval_ListComp]
 refine wpAny_comprehension_free (use:=none) rfl hs (PTs.ok I Sc) Sc.kind Sc.nm (thn (hi pins s σ H _ I h) λv s1 h1=>thn h1 λa3 s2 h2=> ?_)
 obtain⟨it,fp,tn,J,H2,e,I2,T,am,f2,q⟩:=h2
 subst e
 refine wI (Q:=Q) (RR:=λan C=>compPost (model X.prog X.w) X.A X.xe none (EP X pins σ Q) an C) hc Sc (hg fp) (ht fp) (he fp) I2 T am f2 q ?_
 intro C p H' s' m h1 h2 h3 h4 h5 hn I' q'
 exact⟨m,hn,λh' ap=>⟨.ref p,H',I'.turned (it:=C) (t':=s'.toks) (λb o hb e=>ap.extBut b o hb e) h5 (P0 h2.symm) (.inr h1) h3 h4,rfl,q'⟩⟩
theorem eP {U Y ab:Expr} {ac:List Expr} {pos ae py:Pos} {wi:TI} {g:TG} {tc:TT} {te:TE} {i:Nat} {y:Str} (hc:X.calm=true) (Sc:mX X scope own cap caps) (hi:PI X U Y wi)
 (hg:∀fp s H,PG (cxC X scope (own++cap) fp s H) U g) (ht:∀fp s H,PTs (cxC X scope (own++cap) fp s H) ac tc) (he:∀fp s H,PE (cxC X scope (own++cap) fp s H) ab te)
 (hN:X.N.Nodup) (hx:X.N[i]? =some y) (hl:Loc X.env.scope y)
 (ap:swapsWith (.ListComp ab [⟨U,Y,ac,0⟩] scope pos) (some (.Name y py)) ae.line X.env=pure true)
 (hs:∀x,foldedSetIterable Y X.env x=pure x:=by intro _;rfl) (hf:X.fn y=true\/X.env.scope.names.lookup y=some .local:=by first | exact .inl rfl | exact .inr rfl | assumption):
 PS X (.Assign [.Name y py] (.ListComp ab [⟨U,Y,ac,0⟩] scope pos) ae) (zX (rJ own.length caps wi g tc te) (uB i)):=by
 intro pins s σ H D I h
 rw[exec_Assign_Name_used _ _ _ _ ap]
 refine wpAny_bind (wpAny_standAt (wpAny_bind ?_))
 show wpAny _ _ (do let _ <- comprehension (.ListComp ab [⟨U,Y,ac,0⟩] scope pos) scope X.env _ (newList []) false (eval Y X.env) (some (assign (.Name y py) X.env))) _ _ s
 refine wpAny_bind (wpAny_mono (wpAny_comprehension_free (use:=some (assign (.Name y py) X.env)) (Q:=λ_ s'=>SP X pins D .next s') rfl hs (PTs.ok I Sc) Sc.kind Sc.nm
  (thn (hi pins s σ H _ I h) λv s1 h1=>thn h1 λbn s2 h2=> ?_)) (λ_ s' hq=>wpAny_pure (wpAny_pure hq)) λ_ _ e=>e)
 obtain⟨it,fp,tn,J,H2,e,I2,T,az,f2,q⟩:=h2
 subst e
 refine wI (Q:=λv H'=>uB i v σ H' D.nx) (RR:=λa1 C=>compPost (model X.prog X.w) X.A X.xe (some (assign (.Name y py) X.env)) (λ_ s'=>SP X pins D .next s') a1 C) hc Sc (hg fp) (ht fp) (he fp) I2 T az f2 q ?_
 intro C p H' s' m h1 h2 h3 h4 h5 hn I' q'
 show wpAny _ _ (assign (.Name y py) X.env (.ref p)) _ _ _
 refine wpAny_assign_Name (ym I' hN hx hl (show RelV (.ref p) (.ref p) from rfl) (λs'' I'' ⟨a,hsb,ha⟩=> ?_) hf)
 have a2:C≠a:=by
  rcases ha with rfl | ha
  ·exact h2
  ·exact(h3 _ _ ha).symm
 exact⟨m,hn.sameBut hsb a2,λh' a3=>⟨_,H',I''.turned (it:=C) (t':=s''.toks) (λb o hb e=>a3.extBut b o hb e) h5 h2 (.inr h1) h3 h4,q'⟩⟩
end
section
variable {X : Cx}
def Jc(K:sB):R2:=λx y H Q=>∃l b xs zs,x=.ref l/\y=.ref b/\SqL K H l xs/\SqL K H b zs/\xs.length+zs.length<=sizeLine/\∀p,H p=none->Q (.ref p) (upd H p (.lst (xs++zs)))
theorem JN:OpR X (binaryOp .Add) (Jc X.K):=by
 intro pins s σ H x y v u Q I rx ry h
 obtain⟨l,b,xs,zs,rfl,rfl,hH,hB,hz,q⟩:=h
 cases rx
 cases ry
 obtain⟨Y,r,pl,_⟩:=I.list hH
 obtain⟨U,r2,am,_⟩:=I.list hB
 obtain⟨⟨cls,dd,data,sl⟩,ho,hc,n,hd⟩:=pl.isList
 obtain⟨⟨a2,an,data2,ap⟩,ab,ac,n2,ae⟩:=am.isList
 simp only at hc hd ac ae
 subst hc hd ac ae
 have e:Y.toArray++U.toArray=(Y++U).toArray:=by simp
 have bm:=r.length
 have bn:=r2.length
 refine concat_meets ⟨_,ho,rfl⟩ ⟨_,ab,rfl⟩ noFill_list_add seq_list_add PySem.F.slot_list_add PySem.F.entry_list_add (PySem.F.args_list_add_2 _ _) (list_addW l b Y.toArray U.toArray n n2 dd an sl ap (by simp only[wS];omega)) ⟨ho,ab, ?_⟩
 rw[e]
 exact⟨.ref _,_,I.lnew (t':=s.toks) (r.append r2) (by rw[FS];omega),rfl,q _ I.fresh⟩
mutual
def RdV(K:sB)(H:Hp):PyData->V->Prop
 | .none,v=>v=.non
 | .bool b,v=>v=.bl b
 | .int i,v=>v=.int i
 | .str x,v=>v=.str x
 | .list ds,v=>∃a xs,v=.ref a/\SqL K H a xs/\rF K H ds xs
 | .tuple ds,v=>∃a xs,v=.ref a/\SqT K H a xs/\rF K H ds xs
 | .dict _,_=>False
def rF(K:sB)(H:Hp):List PyData->List V->Prop
 | [],xs=>xs=[]
 | d::ds,xs=>∃v r,xs=v::r/\RdV K H d v/\rF K H ds r
end
mutual
theorem m5{pins:List (Addr×Obj)}{σ:St}{H:Hp}{s:Shared}(I:Inv X pins σ H s):∀{d:PyData} {v:V} {u:Value},RdV X.K H d v->RelV v u->∃as,Reads s.heap u d as
 | .none,v,u,h,r=>by
  unfold RdV at h;subst h
  cases (show u=Value.none from r);exact⟨_,.none⟩
 | .bool b,v,u,h,r=>by
  unfold RdV at h;subst h
  cases (show u=Value.bool b from r);exact⟨_,.bool b⟩
 | .int i,v,u,h,r=>by
  unfold RdV at h;subst h
  obtain⟨t,rfl⟩:=(show ∃t,u=Value.int i t from r);exact⟨_,.int i t⟩
 | .str x,v,u,h,r=>by
  unfold RdV at h;subst h
  obtain⟨t,rfl⟩:=(show ∃t,u=Value.str x t from r);exact⟨_,.str x t⟩
 | .list ds,v,u,h,r=>by
  unfold RdV at h
  obtain⟨a,xs,rfl,U,Y⟩:=h
  cases (show u=Value.ref a from r)
  obtain⟨ab,rv,pl,_⟩:=I.list U
  obtain⟨o,ho,hc,n,hd⟩:=pl.isList
  obtain⟨as,ra⟩:=rS I Y rv
  exact⟨_,.list ho hc hd (by simpa using ra)⟩
 | .tuple ds,v,u,h,r=>by
  unfold RdV at h
  obtain⟨a,xs,rfl,U,Y⟩:=h
  cases (show u=Value.ref a from r)
  obtain⟨ab,rv,⟨o,ho,hc,n,hd⟩,_⟩:=I.tuple U
  obtain⟨as,ra⟩:=rS I Y rv
  exact⟨_,.tuple ho hc hd (by simpa using ra)⟩
 | .dict _,v,u,h,r=>by unfold RdV at h;exact h.elim
theorem rS{pins:List (Addr×Obj)}{σ:St}{H:Hp}{s:Shared}(I:Inv X pins σ H s):∀{ds:List PyData} {xs:List V} {us:List Value},rF X.K H ds xs->Vals xs us->∃as,ReadsAll s.heap us ds as
 | [],xs,us,h,r=>by
  unfold rF at h;subst h
  cases r;exact⟨_,.nil⟩
 | d::ds,xs,us,h,r=>by
  unfold rF at h
  obtain⟨v,w,rfl,h1,h2⟩:=h
  cases r with
  | cons U Y=>
   obtain⟨as,a1⟩:=m5 I h1 U
   obtain⟨bs,a2⟩:=rS I h2 Y
   exact⟨_,.cons a1 a2⟩
end
def MS(K:sB):R2:=λx y H Q=>∃d e,RdV K H d x/\RdV K H e y/\SeqAt.shaped d=true/\SeqAt.shaped e=true/\Q (.bl (PyData.eqv d e)) H
def LQ(K:sB):R2:=λx y H Q=>∃d e,RdV K H d x/\RdV K H e y/\SeqAt.shaped d=true/\SeqAt.shaped e=true/\Q (.bl (!PyData.eqv d e)) H
theorem L5(hu:X.A.units+64<cLine):OpR X (compareOp .Eq) (MS X.K):=by
 intro pins s σ H x y v u Q I U Y h
 obtain⟨d,e,h1,h2,s1,s2,q⟩:=h
 obtain⟨as,ra⟩:=m5 I h1 U
 obtain⟨bs,rb⟩:=m5 I h2 Y
 exact SeqAt.compareEq_shaped ra rb s1 s2 hu ⟨.bl _,H,I,rfl,q⟩
theorem Ll(hu:X.A.units+64<cLine):OpR X (compareOp .NotEq) (LQ X.K):=by
 intro pins s σ H x y v u Q I U Y h
 obtain⟨d,e,h1,h2,s1,s2,q⟩:=h
 obtain⟨as,ra⟩:=m5 I h1 U
 obtain⟨bs,rb⟩:=m5 I h2 Y
 exact SeqAt.compareNe_shaped ra rb s1 s2 hu ⟨.bl _,H,I,rfl,q⟩
def Na(K:sB)(H:Hp)(x:V)(T:String):Prop:=match x with
 | .non=>T="NoneType"
 | .bl _=>T="bool"
 | .int _=>T="int"
 | .str _=>T="str"
 | .ref a=>(T="list" /\∃xs,SqL K H a xs)\/(T="tuple" /\∃xs,SqT K H a xs)
 | _=>False
def GU(K:sB):List V->Hp->VK->Prop:=λxs H Q=>∃x c T b,xs=[x,.ty c]/\Na K H x T/\Pd K (.type T) (.type c)=some b/\Q (.bl b) H
theorem qX:jw X (.builtin "isinstance") (GU X.K):=by
 intro pins s σ H xs us Q I r h
 obtain⟨x,c,T,b,rfl,Y,hk,q⟩:=h
 obtain⟨u,w,rfl,r1,r2⟩:=vals2 r
 cases (show w=Value.type c from r2)
 have U:∀tk,EP X pins σ Q (.bool b) {s with toks:=tk}:=λtk=>⟨.bl b,H,I.tok tk,rfl,q⟩
 cases x with
 | non=>cases (show u=Value.none from r1);cases (show T="NoneType" from Y);exact QB PySem.W.kitx_none I.kIn Q9 hk (λz=>nomatch z) U
 | bl y=>cases (show u=Value.bool y from r1);cases (show T="bool" from Y);exact QB PySem.W.kitx_bool I.kIn Q9 hk (λz=>nomatch z) U
 | int i=>obtain⟨t,e⟩:=(show ∃t,u=Value.int i t from r1);cases e;cases (show T="int" from Y);exact QB PySem.W.kitx_int I.kIn Q9 hk (λz=>nomatch z) U
 | str y=>obtain⟨t,e⟩:=(show ∃t,u=Value.str y t from r1);cases e;cases (show T="str" from Y);exact QB PySem.W.kitx_str I.kIn Q9 hk (λz=>nomatch z) U
 | ref a=>
  cases (show u=Value.ref a from r1)
  rcases Y with⟨rfl,xs,hs⟩ | ⟨rfl,xs,hs⟩
  ·obtain⟨ae,rv,⟨o,n,ho,hc,_⟩,_⟩:=I.list hs
   exact QB PySem.W.kitx_list I.kIn ⟨o,ho,hc⟩ hk (λz=>nomatch z) U
  ·obtain⟨ae,rv,⟨o,ho,hc,_⟩,_⟩:=I.tuple hs
   exact QB PySem.W.kitx_tuple I.kIn ⟨o,ho,hc⟩ hk (λz=>nomatch z) U
 | byt y=>exact ss Y
 | flt y=>exact ss Y
 | ty y=>exact ss Y
end
structure uv(S:List Addr)(e:Addr)(oe:Obj)(h h':Heap)(T:Addr):Prop where
 keep:∀b o,h.get? b=some o->b∉S->b≠e->h'.get? b=some o
 slot:∀b o,h.get? b=some o->b∈S->∃sl,h'.get? b=some {o with slots:=sl}
 new:h.objs.size<=T
 ne:T≠e
 exc:∃oe' vs,h'.get? e=some oe'/\oe'.cls=oe.cls/\oe'.dict=oe.dict/\oe'.data=.fields vs/\vs[1]? =some (.ref T)
 trc:∃oT ts,h'.get? T=some oT/\oT.data=.fields ts/\ts[3]? =some .none
theorem HE(o:Obj)(f:Array Value->Array Value):(Obj.mapFields f o).dict=o.dict:=by
 unfold Obj.mapFields
 split <;> rfl
section
variable {M : Model} {A : Around} {E : Value → Shared → Prop} {s : Shared}
theorem AG {base:Heap} {L e:Addr} {oe:Obj} {vs:Array Value} {U:Value} {Y:Bool} {Q:Unit->Shared->Prop} (ap:A.frames=some (env::outer))
 (hl:s.heap.FunFrames base (env::outer)) (hf:env.frame=some L) (he:s.heap.get? e=some oe) (hd:oe.data=.fields vs) (ab:1<vs.size)
 (h:∀h' T,uv (frs (env::outer)) e oe s.heap h' T->Q () {s with heap:=h'}):
 wpAny M A (do
  let a <- frameOf env
  let pl <- entryPlaceOf L Y
  let b <- EntryCells.newEntry U a .none (rawInt L) .none pl
  setField (.ref e) 1 b) (λ_ s'=>wpAny M A (setFlight (.ref e) none) Q E s') E s:=by
 have out:e∉frs (env::outer):=λhm=>by
  obtain⟨_,o,ho,az⟩:=hl.mem hm
  cases he.symm.trans ho
  exact az vs hd
 refine wpAny_bind (wpAny_frameOf_fun ap hl hf λh1 x1=>wpAny_bind (wpAny_entryPlaceOf λpl ae=> ?_))
 unfold EntryCells.newEntry newFields
 refine wpAny_bind (wpAny_newObj_type ?_ (ae.sizeOk5 _ _ _ _ _))
 generalize am:({cls:=.type "traceback",dict:=none,data:=.fields ([U,.ref L,.none,rawInt L,.none]++(if pl.isEmpty then tz 6 Value.none else pl)).toArray}:Obj)=ob
 have e1:h1.get? e=some oe:=(x1.2.1 e out).trans he
 have e2:(h1.push ob).get? e=some oe:=Heap.get?_push_of_some ob e1
 refine wpAny_setField e2 hd ab ?_
 have ne:h1.objs.size≠e:=QT (Heap.lt_size e1)
 have d3:=Obj.data_mapFields hd (·.setIfInBounds 1 (Value.ref h1.objs.size))
 have e3:=Heap.get?_update_self (Obj.mapFields (·.setIfInBounds 1 (Value.ref h1.objs.size))) e2 (Obj.isFreed_of_fields d3)
 have ac:ob.data=.fields ([U,.ref L,.none,rawInt L,.none]++(if pl.isEmpty then tz 6 Value.none else pl)).toArray:=by rw[<- am]
 have t2:(h1.push ob).get? h1.objs.size=some ob:=Heap.get?_push_size h1 (by rw[<- am];rfl)
 have t3:=(Heap.get?_update_other (h1.push ob) (Obj.mapFields (·.setIfInBounds 1 (Value.ref h1.objs.size))) (P0 ne)).trans t2
 unfold setFlight
 refine wpAny_bind (wpAny_field e3 d3 (x:=.ref h1.objs.size) (by simp[ab]) ?_)
 rw[if_pos (by simp)]
 refine wpAny_setField t3 ac (by simp only[wS,FS,wE,S1];omega) (h _ h1.objs.size ?_)
 have kp:∀b o,b≠e->h1.get? b=some o->(((h1.push ob).update e (Obj.mapFields (·.setIfInBounds 1 (Value.ref h1.objs.size)))).update h1.objs.size (Obj.mapFields (·.setIfInBounds 3 ((none:Option Addr).elim Value.none λf=>rawInt f)))).get? b=some o:=λb o n1 hb=>by
  rw[Heap.get?_update_other _ _ (QT (Heap.lt_size hb)),Heap.get?_update_other _ _ (P0 n1)]
  exact Heap.get?_push_of_some ob hb
 refine⟨λb o hb hS a3=>kp b o a3 ((x1.2.1 b hS).trans hb),λb o hb hS=> ?_,Sl x1.1.symm,ne,⟨_,_, ?_,Obj.cls_mapFields _ _,HE _ _,d3,by simp[ab]⟩,⟨_,_,Heap.get?_update_self _ t3 (Obj.isFreed_of_fields (Obj.data_mapFields ac _)),Obj.data_mapFields ac _, ?_⟩⟩
 ·obtain⟨sl,q⟩:=x1.2.2 b o hb
  exact⟨sl,kp b _ (λz=>out (z▸hS)) q⟩
 ·rw[Heap.get?_update_other _ _ ne];exact e3
 ·first | (simp;done) | (rcases ae with rfl | ⟨_,_,_,_,_,_,_,rfl⟩ <;> simp)
theorem Cz {L e:Addr} {oe:Obj} {vs:Array Value} {Q:Unit->Shared->Prop} (U:A.frames=some (env::outer)) (hl:s.heap.FunFrames base (env::outer)) (Y:env.frame=some L)
 (he:s.heap.get? e=some oe) (hd:oe.data=.fields vs) (h1:vs[1]? =some .none) (h:∀h' T,uv (frs (env::outer)) e oe s.heap h' T->Q () {s with heap:=h'}):wpAny M A (leaving env (.ref e)) Q E s:=by
 unfold leaving noteFrame
 simp only[Y]
 refine wpAny_bind (wpAny_bind (wpAny_field he hd h1 ?_))
 rw[if_neg (by decide)]
 exact AG U hl Y he hd (PJ.mp h1).1 h
structure Trc(h:Heap)(e:Addr)(oe:Obj)(T:Addr):Prop where
 exc:h.get? e=some oe
 dat:∃vs,oe.data=.fields vs/\vs[1]? =some (.ref T)
 ne:T≠e
 trc:∃oT ts,h.get? T=some oT/\oT.data=.fields ts/\ts[3]? =some .none
theorem yj {L e T0:Addr} {oe:Obj} {Q:Unit->Shared->Prop} (ac:A.frames=some (env::outer)) (hl:s.heap.FunFrames base (env::outer)) (hf:env.frame=some L)
 (ht:Trc s.heap e oe T0) (h:∀h1 h' T,(∀b,b≠T0->h1.get? b=s.heap.get? b)->h1.objs.size=s.heap.objs.size->uv (frs (env::outer)) e oe h1 h' T->Q () {s with heap:=h'}):
 wpAny M A (noteFrame (.ref e) env) (λ_ s'=>wpAny M A (setFlight (.ref e) none) Q E s') E s:=by
 obtain⟨he,⟨vs,hd,h1⟩,ae,oT,ts,hT,U,h3⟩:=ht
 unfold noteFrame
 simp only[hf]
 refine wpAny_bind (wpAny_field he hd h1 ?_)
 rw[if_pos (by simp)]
 refine wpAny_bind (wpAny_field hT U h3 ?_)
 rw[if_neg (by simp[rawInt])]
 refine wpAny_bind (wpAny_setField hT U (PJ.mp h3).1 ?_)
 have Y:∀b,b≠T0->(s.heap.update T0 (Obj.mapFields (·.setIfInBounds 3 Value.none))).get? b=s.heap.get? b:=λb hb=>Heap.get?_update_other _ _ (P0 hb)
 refine AG (base:=base) ac (hl.of_keeps λb o hb an=>⟨o,(Y b λq=> ?_).trans hb,rfl⟩) hf ((Y e (P0 ae)).trans he) hd (PJ.mp h1).1 λh' T x=>h _ h' T Y (Heap.size_after_update ..) x
 subst q
 cases hT.symm.trans hb
 exact an ts U
theorem DS {L e Y:Addr} {oe:Obj} {Q:Unit->Shared->Prop} (U:A.frames=some (env::outer)) (hl:s.heap.FunFrames base (env::outer)) (hf:env.frame=some L)
 (ht:Trc s.heap e oe Y) (h:∀h1 h' T,(∀b,b≠Y->h1.get? b=s.heap.get? b)->h1.objs.size=s.heap.objs.size->uv (frs (env::outer)) e oe h1 h' T->Q () {s with heap:=h'}):wpAny M A (leaving env (.ref e)) Q E s:=by
 unfold leaving
 exact wpAny_bind (yj U hl hf ht h)
end
theorem gv.there{o:HO}(x:gv P w H h a o):∃u,h.get? a=some u:=by
 cases o with
 | lst xs=>exact let ⟨_,_,_,_,e⟩:=x;⟨_,e⟩
 | tup xs=>exact let ⟨_,_,_,ob,e,_⟩:=x;⟨_,e⟩
 | dK U=>exact let ⟨_,_,_,_,ob,_,_,e,_⟩:=x;⟨_,e⟩
 | dT U=>exact let ⟨_,_,_,_,ob,_,_,e,_⟩:=x;⟨_,e⟩
 | set S n=>exact let ⟨ob,_,_,_,e,_⟩:=x;⟨_,e⟩
 | ins C dx fs=>exact let ⟨_,_,_,e,_⟩:=x;⟨_,e⟩
 | own y=>exact x
 | xd fs=>exact let ⟨_,⟨_,_,_,e,_⟩,_⟩:=x;⟨_,e⟩
 | rng lo hi=>exact let ⟨_,_,_,e⟩:=x;⟨_,e⟩
 | frz ob u=>exact let ⟨e,_⟩:=x;⟨_,e⟩
 | tbl ps=>exact⟨_,x⟩
 | met f y=>exact⟨_,x⟩
 | ext φ=>exact x.2.1
theorem HOk.free(x:HOk P w H h)(n:h.get? a=none):H a=none:=by
 cases e:H a with
 | none=>rfl
 | some o=>
  obtain⟨u,hu⟩:=(x a o e).there
  rw[n] at hu;cases hu
structure Je(P:Program)(w:World)(fs:List Addr)(H:Hp)(h:Heap)(x:Addr)(H':Hp)(h':Heap)(oe:Obj)(T C:Addr):Prop where
 un:Un fs [] H H' h h'
 hok:HOk P w H' h'
 nx:h.get? x=none
 nT:h.get? T=none
 hx:H' x=none
 hT:H' T=none
 tr:Trc h' x oe T
 cls:oe.cls=.ref C
def CXE(P:Program)(w:World):CXT:=λouter H s E e s'=>∃x oe T H' C,e=.ref x/\s'.os=s.os/\AllBare s'.gens/\Je P w (frs outer) H s.heap x H' s'.heap oe T C/\E (.ref C) oe.dict H'
section
variable {X : Cx} {pins : List (Addr × Obj)} {σ : St} {H : Hp} {s : Shared}
theorem Inv.old(I:Inv X pins σ H s)(U:X.ex=[])(n:s.heap.get? a=none):X.s₀.heap.get? a=none:=by
 cases e:X.s₀.heap.get? a with
 | none=>rfl
 | some o=>
  obtain⟨o',q⟩:=I.base.there a o e (by rw[U];simp)
  rw[n] at q;cases q
theorem rX {x T0 T C:Addr} {oe:Obj} {h1 h':Heap} (I:Inv X pins σ H s) (ap:X.stack=X.env::X.outer) (a5:X.env.frame=some X.env.locals) (bb:X.ex=[]) (az:X.s₀.heap.get? x=none) (hx:H x=none)
 (bd:X.s₀.heap.get? T0=none) (a1:H T0=none) (U:∀b,b≠T0->h1.get? b=s.heap.get? b) (be:h1.objs.size=s.heap.objs.size) (Y:uv (frs X.stack) x oe h1 h' T) (hc:oe.cls=.ref C):
 ∃ab,Je X.prog X.w X.fs X.H₀ X.s₀.heap x H h' ab T C/\ab.dict=oe.dict:=by
 have sub:∀b∈X.fs,b∈frs X.stack:=λb hb=>by
  rw[ap]
  show b∈(X.env::X.outer).filterMap (·.frame)
  rw[PL,a5]
  exact wh _ hb
 have ac:∀b:Addr,b∉X.ex:=λb z=>by rw[bb] at z;cases z
 have ae:∀b o,X.s₀.heap.get? b=some o->b≠T0/\b≠x/\b≠X.env.locals:=λb o e=>⟨λz=>(by rw[z,bd] at e;cases e),λz=>(by rw[z,az] at e;cases e),Do (AT (Heap.lt_size e) I.ok.above)⟩
 obtain⟨ab,vs,e1,e2,e3,e4,e5⟩:=Y.exc
 have nT:s.heap.objs.size<=T:=be▸Y.new
 have gT:X.s₀.heap.get? T=none:=by
  cases e:X.s₀.heap.get? T with
  | none=>rfl
  | some o=>exact absurd (AT (Heap.lt_size e) (Pk I.sz nT)) (PH _)
 refine⟨ab,⟨⟨λb o e n hb _=> ?_,λb o e n hb _=> ?_,λb o e n _=>I.base.free b o e n (ac b),λb o e _=> ?_,I.base.tups,I.base.frzs,I.base.tbls⟩,λa o e=> ?_,az,gT,hx,I.hok.fresh nT,⟨e1,⟨vs,e4,e5⟩,Y.ne,Y.trc⟩,e2.trans hc⟩,e3⟩
 ·obtain⟨n1,n2,n3⟩:=ae b o e
  refine Y.keep b o ((U b n1).trans (I.base.keep b o e n hb (ac b))) (λz=> ?_) n2
  rcases wT.mp (I.stkSub b z) with q | q
  ·exact n3 q
  ·exact hb q
 ·obtain⟨n1,n2,n3⟩:=ae b o e
  obtain⟨sl,q⟩:=I.base.slot b o e n hb (ac b)
  obtain⟨a2,q'⟩:=Y.slot b _ ((U b n1).trans q) (sub b hb)
  exact⟨a2,q'⟩
 ·obtain⟨n1,n2,n3⟩:=ae b o e
  obtain⟨o',q⟩:=I.base.there b o e (ac b)
  by_cases hb:b∈frs X.stack
  ·obtain⟨a2,q'⟩:=Y.slot b _ ((U b n1).trans q) hb
   exact⟨_,q'⟩
  ·exact⟨o',Y.keep b o' ((U b n1).trans q) hb n2⟩
 ·refine(I.hok a o e).stay (λb u hb q=> ?_) (λ_ q=>q) λ_ _ q=>q
  have tr:∃v,H b=some v:=by
   rcases hb with rfl | hb
   ·exact⟨o,e⟩
   ·exact⟨_,hb⟩
  obtain⟨v,hv⟩:=tr
  refine Y.keep b u ((U b λz=> ?_).trans q) (λz=> ?_) λz=> ?_
  ·rw[z,a1] at hv;cases hv
  ·rw[I.stkFree b z] at hv;cases hv
  ·rw[z,hx] at hv;cases hv
end
section
variable {P : Program} {w : World} {K : sB} {mg : Str → Option Value} {base : Heap} {N : List Str} {qual : Str} {scope : Scope} {f : Addr} {cd : Value} {A : Around} {outer : List Env} {s0 : Shared} {H0 : Hp} {E : XK}
theorem Ea:Passes (CXE P w) (lr (CXE P w) P w K mg base N qual scope f cd A outer s0 H0 E) E:=by
 intro pins σ H s e s' I ⟨x,oe,T0,H',C,he,os,bare,fl,hE⟩
 subst he
 have J:=I.call' os fl.un fl.hok bare (λb z=>absurd z (by simp))
 have U:=I.old rfl fl.nx
 have Y:=I.old rfl fl.nT
 refine DS (base:=base) (L:=s0.heap.objs.size) J.ok.frames J.stack rfl fl.tr λh1 h' T ab ac xl=> ?_
 obtain⟨ae,am,hd⟩:=rX J rfl rfl rfl U fl.hx Y fl.hT ab ac xl fl.cls
 exact⟨x,ae,T,H',C,rfl,J.os,J.bare,am,by rw[hd];exact hE⟩
def Raises(X:Cx)(E:XK):Prop:=∀(pins:List (Addr×Obj)) (σ:St) (H:Hp) (s:Shared) (h':Heap) (x C:Addr) (args:List Value),Inv X pins σ H s->Heap.MadeExcOf s.heap h' x (.ref C) args->E (.ref C) none H->X.xe (.ref x) {s with heap:=h'}
theorem BH:Raises (lr (CXE P w) P w K mg base N qual scope f cd A outer s0 H0 E) E:=by
 intro pins σ H s h' x C args I m hE
 have J:Inv (lr (CXE P w) P w K mg base N qual scope f cd A outer s0 H0 E) pins σ H {s with heap:=h'}:=I.kept (t':=s.toks) m.keeps
 have U:=I.old rfl m.new
 have hx:=I.hok.free m.new
 obtain⟨t,e1,_,_⟩:=m.there
 refine Cz (base:=base) (L:=s0.heap.objs.size) J.ok.frames J.stack rfl e1 rfl rfl λh2 T xl=> ?_
 obtain⟨Y,ab,hd⟩:=rX J rfl rfl rfl U hx U hx (λ_ _=>rfl) rfl xl rfl
 exact⟨x,Y,T,H,C,rfl,J.os,J.bare,ab,by rw[hd];exact hE⟩
end
abbrev bmV:List Value:=[.type "ValueError",.type "Exception",.type "BaseException",.type "object"]
theorem Lh{C:Addr}{bmB:List Value}{newId:String}(X:K.In h)(q:Qe K C bmB newId=true):
 ∃Y N nm qn bs hd sn sub ab U dd k0 k1 k2 k3 k5 mN,h.get? C=some (excClassObj nm qn C N bs Y hd sn sub ab U dd k0 k1 k2 k3 k5 newId)/\h.Ns N mN/\mN "__init__" =none/\OwnTail h bmB Y:=by
 unfold Qe at q
 split at q
 ·rename_i dd cd sl look
  split at q
  ·rename_i C' Y k0 k1 k2 k3 n k5 em es
   simp only[Po,beq_iff_eq,Bool.not_eq_true'] at q
   obtain⟨⟨⟨⟨⟨q1,q2⟩,q3⟩,q4⟩,q5⟩,q6⟩:=q
   subst q1;subst q2
   obtain⟨nm,bs,bp,ns,qn,hd,sn,sub,ab,U,bt⟩:=cd
   simp only at em q3 q5 q6
   subst em;subst q3
   obtain⟨l⟩:=sl
   simp only at es
   subst es
   refine⟨Y,ns,nm,qn,bs,hd,sn,sub,ab,U,dd,k0,k1,k2,k3,k5,h.nsMap ns,X _ _ look, ?_, ?_,PySem.W.tail_of_in X q4⟩
   ·exact Heap.Ns.of_isNs (PySem.W.isNs_of_in X q5)
   ·exact PySem.W.nsMap_none_of_in X q5 q6
  ·cases q
 ·cases q
def Fc(C:Addr)(E:XK)(t:TA):TS:=λ_ σ H=>t σ H λvs H1=>vs.length<=sizeLine/\E (.ref C) none H1
section
variable {X : Cx} {E : XK} {c : Str} {C : Addr} {np cpos pos : Pos} {e : Expr} {es : List Expr} {t : TA} {B newId initId : String} {bmB : List Value}
theorem v8 (hx:Raises X E) (hq:Qe X.K C bmB newId=true) (FB:ExcBaseFacts B newId initId bmB) (U:X.calm=true) (hg:Gl X c) (hm:X.mg c=some (.ref C)) (ha:PA X (e::es) t)
 (Y:(c == ("__debug__" :Str))=false:=by decide) (he:starEach (e::es) X.env=(false,eval e X.env)::starEach es X.env:=by rfl) (ac:(backTo cpos (starEach es X.env)).any (·.1)=false:=by rfl):
 PS X (.Raise (some (.Call (.Name c np) (e::es) [] cpos)) none pos) (Fc C E t):=by
 intro pins s σ H D I h
 obtain⟨bm,N,nm,qn,bs,hd,sn,sub,ab,ae,dd,k0,k1,k2,k3,k5,mN,g1,g2,g3,g4⟩:=Lh I.ok.mod.kin hq
 refine wpAny_Raise_call_subT (C:=C) (nm:=nm) (q:=qn) (N:=N) (bs:=bs) (bm:=bm) (hdct:=hd) (sn:=sn) (sub:=sub) (ab:=ab) (col:=ae) (dd:=dd) (k0:=k0) (k1:=k1) (k2:=k2) (k3:=k3) (k5:=k5)
  FB (mN:=mN) (g4.hasType FB.hasBase) (I.ok.hd U) ?_ g3 (mw I hg hm ⟨rfl, ?_⟩ Y)
 ·rw[he]
  show (false||_)=false
  rw[S9];exact ac
 ·have z:=ha cpos pins s σ H _ I h
  rw[he] at z ⊢
  refine Calls.evalArgs_plain (thn z λus s2 ⟨vs,H1,I1,r,hl,hE⟩=>⟨rfl,by rw[<- r.length];exact hl,I1.bk _ _ g1,g2.keeps I1.bk,g4.keeps I1.bk,λh' x m=>hx pins σ H1 s2 h' x C us I1 m hE⟩)
end
section
variable {P : Program} {w : World} {K : sB} {mg : Str → Option Value} {base : Heap}
theorem Fun.okE {CX:CXT} {N ps:List Str} {k:Nat} {sp:Sp} (F:Fun K x qual st f fd) (S:a0 N ps (aJ st)) (Y:∀vs H Q E,sp vs H Q E->vs.length=ps.length)
 (hb:∀(U:Value) (A:Around) (outer:List Env) (s:Shared) (H:Hp) (vs:List V) (Q:VK) (E:XK),dk k (A.deeper (envOfC qual (aJ st) s.heap.objs.size f U))->sp vs H Q E->
  ∃t,PSs (lr CX P w K mg base N qual (aJ st) f U A outer s H E) (cE st) t/\t {nx:=λ_ H'=>Q .non H',rt:=Q} (start N vs) H):ip P w K mg base CX (k+1) f fd ps sp:=by
 obtain⟨oc,od,kV,ac,pm,an,U,ct,ae,rfl,look,ab⟩:=F.ex
 exact M7 look ab S Y (hb U)
end
theorem Hr {l:R1} {n k:Nat} {q:Program} {U:List Str} {XP:(Str->Option Value)->Heap->Prop} {YP:World->Heap->Prop} {d:DefRec} {K:Params->sB} {sp:sB->Sp} {x:Str} (hn:l.most=some n) (Y:n<=sizeLine)
 (ab:d.params.defaults=[]) (hr:dk k callerA) (hi:importsNone q=true) (hY:∀(w:World) (h:Heap),YP w h->(K w.params).In h) (F:∀(w:World) (mg:Str->Option Value) (fa:Addr) (h:Heap),(K w.params).In h->h.Ns mainGlobals mg->mg d.name=some (.ref fa)->
  ∃fd:FuncData,(∀(s:Shared) (u:Value),BindsTo s fd ⟨[u],[]⟩ [(x,u)])/\∀base:Heap,(K w.params).In base->base.Ns mainGlobals mg->ip l.prog w (K w.params) mg base (CXE l.prog w) k fa fd [x] (sp (K w.params)))
 (ac:∀(K:sB) (H:Hp) (a:Addr) (ns:List Int),ns.length<=n->DB H->SqL K H a (ns.map V.int)->sp K [.ref a] H (λv _=>v=.bl true) λ_ _ _=>False):S8 q U XP YP l.row.toRowW d [] (λf vs=>SY f vs):=
 Kd (K:=K) (CX:=λw=>CXE l.prog w) (sp:=λw=>sp (K w.params)) hn Y ab hr hi hY F (λw H a ns h1 h2 h3=>ac (K w.params) H a ns h1 h2 h3) λ_ _ _ _ _ ⟨_,_,_,_,_,_,_,_,_,z⟩=>z
def AA(sp:Sp)(dvs:List V)(Es:St->XK)(t:TA):TE:=λσ H Q=>t σ H λvs H1=>sp (vs++dvs) H1 Q (Es σ)
def F0(C:Addr)(m:Str)(sp:Sp)(dvs:List V)(Es:St->XK)(ta:TE)(t:TA):TE:=λσ H Q=>ta σ H λx H1=>∃a dx fs,x=.ref a/\H1 a=some (.ins C dx fs)/\fs.lookup m=none/\t σ H1 λvs H2=>sp (x::(vs++dvs)) H2 Q (Es σ)
def mj(CX:CXT)(X:Cx)(Es:St->XK):Prop:=∀(pins:List (Addr×Obj)) (σ:St) (H:Hp) (s:Shared) (e:Value) (s':Shared),Inv X pins σ H s->CX X.stack H s (Es σ) e s'->X.xe e s'
theorem Passes.sx{E:XK}(h:Passes CX X E):mj CX X λ_=>E:=h
section
variable {X : Cx} {CX : CXT} {k : Nat} {f C : Addr} {fd : FuncData} {ps : List Str} {sp : Sp} {dvs : List V} {ds : List Value} {Es : St → XK} {x m : Str} {p pos apos : Pos} {e o : Expr} {es : List Expr} {ta : TE} {t : TA}
theorem CB {pins:List (Addr×Obj)} {σ:St} {H:Hp} {s:Shared} {Q:VK} {us:List Value} {vs:List V} (F:ip X.prog X.w X.K X.mg X.base CX k f fd ps sp) (Y:dk k X.A) (hb:Binds X.K fd ps ds) (hd:Vals dvs ds) (hx:mj CX X Es)
 (I:Inv X pins σ H s) (r:Vals vs us) (h:sp (vs++dvs) H Q (Es σ)):wpAny (model X.prog X.w) X.A (call (.ref f) us) (EP X pins σ Q) X.xe s:=by
 have U:Vals (vs++dvs) (us++ds):=r.append hd
 have hl:(us++ds).length=ps.length:=U.length▸F.len _ _ _ _ h
 refine wpAny_call (codeAny_mono (F.run X.A X.stack s H ⟨us,[]⟩ (us++ds) (vs++dvs) Q (Es σ) Y I.env0 (hb s us I.kIn hl) U h) λres s' z=> ?_)
 match res,z with
 | .error e,z=>exact hx pins σ H s e s' I z
 | .ok (.ret u),z=>exact I.after z
theorem HP (F:ip X.prog X.w X.K X.mg X.base CX k f fd ps sp) (hr:dk k X.A) (hg:Gl X x) (hm:X.mg x=some (.ref f)) (hk:IR X.K (.ref f)=true) (hb:Binds X.K fd ps ds) (hd:Vals dvs ds) (hx:mj CX X Es)
 (ha:PA X (e::es) t) (U:(x == ("__debug__" :Str))=false:=by decide) (he:starEach (e::es) X.env=(false,eval e X.env)::starEach es X.env:=by rfl) (Y:(backTo pos (starEach es X.env)).any (·.1)=false:=by rfl):
 PE X (.Call (.Name x p) (e::es) [] pos) (AA sp dvs Es t):=λpins s σ H Q I h=>
 wpAny_Call_Name_kw (mw I hg hm (Ql (h₀:=X.base) I.ok.mod.kin hk (thn (ha pos pins s σ H _ I h) λus s1 ⟨vs,H1,I1,r,q⟩=>⟨I1.kIn,CB F hr hb hd hx I1 r q⟩) he Y) U)
theorem qJ {pl:Sem Bool} (he:PE X o ta) (c:Cls X.K C) (hm:Meth X.K C m f) (F:ip X.prog X.w X.K X.mg X.base CX k f fd ps sp) (hr:dk k X.A) (hb:Binds X.K fd ps ds) (hd:Vals dvs ds) (hx:mj CX X Es) (ha:PA X (e::es) t)
 (U:starEach (e::es) X.env=(false,eval e X.env)::starEach es X.env:=by rfl) (Y:(backTo pos (starEach es X.env)).any (·.1)=false:=by rfl)
 (ht:eval (.Call (.Attribute o m apos) (e::es) [] pos) X.env=(do
  let ov <- eval o X.env
  standAt apos.atName
  let (f,first) <- holding [ov] (getMethod ov m pl)
  callWith pos f first (backTo pos (starEach (e::es) X.env)) (backToKw pos (keywordEach [] X.env))):=by rfl):
 PE X (.Call (.Attribute o m apos) (e::es) [] pos) (F0 C m sp dvs Es ta t):=by
 intro pins s σ H Q I h
 refine QI (pl:=pl) (thn (he pins s σ H _ I h) λu s1 ⟨y,H1,I1,ry,a,dx,fs,ey,ea,l,q⟩=> ?_) ht
 cases ey
 cases (show u=Value.ref a from ry)
 exact nH I1 ea c hm l (Ql (first:=[.ref a]) (h₀:=X.base) I.ok.mod.kin hm.kp (thn (ha pos pins s1 σ H1 _ I1 q) λus s2 ⟨vs,H2,I2,r,q2⟩=>⟨I2.kIn,CB (us:=.ref a::us) (vs:=.ref a::vs) F hr hb hd hx I2 (.cons rfl r) q2⟩) U Y)
end
abbrev Cx.pinned(X:Cx)(p:List (Addr×Obj))(E:Value->Shared->Prop):Cx:={X with pn:=p,xe:=E}
theorem Cx.Ok.pinned(ok:X.Ok)(p:List (Addr×Obj))(E:Value->Shared->Prop):(X.pinned p E).Ok:=⟨ok.mod,ok.kind,ok.glob,ok.blt,ok.above,ok.inj,ok.has,ok.cab,ok.hd,ok.frames,ok.stk,ok.exf,ok.bs,ok.bsz,ok.noex,ok.exfs,ok.funs,ok.frf⟩
theorem Cx.Ok.unpinned{p:List (Addr×Obj)}(ok:(X.pinned p E).Ok):X.Ok:=⟨ok.mod,ok.kind,ok.glob,ok.blt,ok.above,ok.inj,ok.has,ok.cab,ok.hd,ok.frames,ok.stk,ok.exf,ok.bs,ok.bsz,ok.noex,ok.exfs,ok.funs,ok.frf⟩
section
variable {X : Cx} {pins : List (Addr × Obj)} {σ : St} {H : Hp} {s : Shared} {E : Value → Shared → Prop}
theorem Inv.toPinned(I:Inv X pins σ H s)(E:Value->Shared->Prop):Inv (X.pinned (X.pn++pins) E) [] σ H s:=
 ⟨I.ok.pinned _ _,I.os,I.bare,I.base,I.loc,I.cell,I.free,I.freeC,λp hp=>I.pin p (by simpa using hp),I.hok,I.len⟩
theorem Inv.ofPinned{U:List (Addr×Obj)}(I:Inv (X.pinned (X.pn++pins) E) U σ H s):Inv X pins σ H s:=
 ⟨I.ok.unpinned,I.os,I.bare,I.base,I.loc,I.cell,I.free,I.freeC,λp hp=>I.pin p (Qu _ hp),I.hok,I.len⟩
theorem Inv.landed {s1:Shared} {H1:Hp} {x T0 T C:Addr} {oe:Obj} {h1 h':Heap} (I:Inv X pins σ H s) (J:Inv X pins σ H1 s1) (ae:X.stack=X.env::X.outer) (a1:X.env.frame=some X.env.locals) (Y:X.ex=[]) (nx:s.heap.get? x=none) (hx:H1 x=none)
 (am:s.heap.get? T0=none) (a2:H1 T0=none) (ab:∀b,b≠T0->h1.get? b=s1.heap.get? b) (a3:h1.objs.size=s1.heap.objs.size) (xl:uv (frs X.stack) x oe h1 h' T) (hc:oe.cls=.ref C):Inv X pins σ H1 {s1 with heap:=h'}:=by
 obtain⟨bn,fl,_⟩:=rX J ae a1 Y (I.old Y nx) hx (I.old Y am) a2 ab a3 xl hc
 have ne:∀b o,s.heap.get? b=some o->b≠T0/\b≠x:=λb o e=>⟨λz=>(by rw[z,am] at e;cases e),λz=>(by rw[z,nx] at e;cases e)⟩
 have mv:∀b u o,s.heap.get? b=some u->s1.heap.get? b=some o->∃sl,h'.get? b=some {o with slots:=sl}:=λb u o e1 e2=>by
  obtain⟨n1,n2⟩:=ne b u e1
  by_cases hb:b∈frs X.stack
  ·exact xl.slot b o ((ab b n1).trans e2) hb
  ·exact⟨o.slots,xl.keep b o ((ab b n1).trans e2) hb n2⟩
 have U:∀y c,X.env.cells.lookup y=some c->∀v,s1.heap.IsCell c v->h'.IsCell c v:=λy c e v ⟨o,ho,hd⟩=>by
  obtain⟨v0,o0,ac,_⟩:=I.cell y c e
  obtain⟨sl,q⟩:=mv c o0 o ac ho
  exact⟨_,q,hd⟩
 refine⟨J.ok,J.os,J.bare, ?_, ?_,λy c e=> ?_,J.free,J.freeC,λp hp=> ?_,fl.hok,J.len⟩
 ·show Un X.fs X.ex X.H₀ H1 X.s₀.heap h'
  rw[Y];exact fl.un
 ·obtain⟨m,⟨o,es,ep,ho,r⟩,hl⟩:=J.loc
  obtain⟨m0,⟨o0,_,_,ac,_⟩,_⟩:=I.loc
  obtain⟨sl,q⟩:=mv _ o0 o ac ho
  refine⟨m,⟨_,es,ep,q,r⟩,λi y v e1 e2 e3=> ?_⟩
  obtain⟨u,rv,l⟩:=hl i y v e1 e2 e3
  refine⟨u,rv, ?_⟩
  rcases l with l | ⟨k,c,e,z⟩
  ·exact .inl l
  ·exact .inr ⟨k,c,e,U y c e _ z⟩
 ·obtain⟨v,z⟩:=J.cell y c e
  exact⟨v,U y c e v z⟩
 ·obtain⟨e0,_⟩:=I.pin p hp
  obtain⟨e,n,nl,nf,d⟩:=J.pin p hp
  obtain⟨n1,n2⟩:=ne _ _ e0
  refine⟨xl.keep p.1 p.2 ((ab _ n1).trans e) (λz=> ?_) n2,n,nl,nf,d⟩
  rcases wT.mp (J.stkSub _ z) with q | q
  ·exact nl q
  ·exact nf q
end
def exO(a C:Addr):HO:=.ext λh=>∃o,h.get? a=some o/\o.cls=.ref C/\o.dict=none/\(∀cd,o.data≠ .cls cd)
abbrev Cx.hand(X:Cx)(v:Value):Cx:={X with A:=X.A.mark (some v),calm:=false,xe:=λ_ _=>False}
section
variable {X : Cx} {pins : List (Addr × Obj)} {σ : St} {H : Hp} {s : Shared} {v : Value}
theorem Inv.hand(I:Inv X pins σ H s)(v:Value):Inv (X.hand v) pins σ H s:=
 ⟨⟨I.ok.mod,I.ok.kind,I.ok.glob,I.ok.blt,I.ok.above,I.ok.inj,I.ok.has,I.ok.cab,(λz=>nomatch z),I.ok.frames,I.ok.stk,I.ok.exf,I.ok.bs,I.ok.bsz,I.ok.noex,I.ok.exfs,I.ok.funs,I.ok.frf⟩,I.os,I.bare,I.base,I.loc,I.cell,I.free,I.freeC,I.pin,I.hok,I.len⟩
theorem Inv.unhand(I:Inv (X.hand v) pins σ H s)(ok:X.Ok):Inv X pins σ H s:=⟨ok,I.os,I.bare,I.base,I.loc,I.cell,I.free,I.freeC,I.pin,I.hok,I.len⟩
theorem SP.unhand{D:Ends}{f:Flow}{s':Shared}(ok:X.Ok)(h:SP (X.hand v) pins D f s'):SP X pins D f s':=by
 cases f with
 | next=>exact let ⟨σ',H',I,q⟩:=h;⟨σ',H',I.unhand ok,q⟩
 | brk=>exact let ⟨σ',H',I,q⟩:=h;⟨σ',H',I.unhand ok,q⟩
 | cont=>exact let ⟨σ',H',I,q⟩:=h;⟨σ',H',I.unhand ok,q⟩
 | ret u=>exact let ⟨v,σ',H',I,r,q⟩:=h;⟨v,σ',H',I.unhand ok,r,q⟩
theorem Inv.track{x C:Addr}(I:Inv X pins σ H s)(hx:H x=none)(h0:X.s₀.heap.get? x=none)(hC:∃o,s.heap.get? x=some o/\o.cls=.ref C/\o.dict=none/\∀cd,o.data≠ .cls cd)(nl:x≠X.env.locals)(nc:∀y c,X.env.cells.lookup y=some c->c≠x)(np:∀p∈X.pn++pins,p.1≠x):
 Inv X pins σ (upd H x (exO x C)) s:=by
 have ne:∀b u,H b=some u->b≠x:=λb u e z=>by rw[z,hx] at e;cases e
 have U:∀b o,X.s₀.heap.get? b=some o->b≠x:=λb o e z=>by rw[z,h0] at e;cases e
 refine⟨I.ok,I.os,I.bare,⟨I.base.keep,I.base.slot,λb o e n hb=> ?_,I.base.there,λb xs e=> ?_,λb o u e=> ?_,λb ps e=> ?_⟩,I.loc,I.cell, ?_,λy c e=> ?_,λp hp=> ?_,λa o e=> ?_,I.len⟩
 ·rw[aS (U b o e)];exact I.base.free b o e n hb
 ·have:=I.base.tups b xs e
  rw[aS (ne b _ this)];exact this
 ·have:=I.base.frzs b o u e
  rw[aS (ne b _ this)];exact this
 ·obtain⟨more,q⟩:=I.base.tbls b ps e
  exact⟨more,by rw[aS (ne b _ q)];exact q⟩
 ·rw[aS (P0 nl)];exact I.free
 ·rw[aS (nc y c e)];exact I.freeC y c e
 ·obtain⟨q1,q2,Y⟩:=I.pin p hp
  exact⟨q1,by rw[aS (np p hp)];exact q2,Y⟩
 ·by_cases z:a=x
  ·subst z
   rw[bZ] at e
   cases e
   obtain⟨o,q1,q2,q4,Y⟩:=hC
   exact⟨⟨o,q1,q2,q4,Y⟩,⟨o,q1⟩,λh1 h2 ⟨o',p1,p2,p3,p4⟩ k=>⟨o',k o' p1,p2,p3,p4⟩⟩
  ·rw[aS z] at e
   refine(I.hok a o e).stay (λ_ _ _ q=>q) (λb q=> ?_) λb xs q=> ?_
   ·rw[aS (ne b _ q)];exact q
   ·rw[aS (ne b _ q)];exact q
theorem name_goes {M:Model} {A:Around} {E:Value->Shared->Prop} {n:Str} {pos:Pos} {Q:Unit->Shared->Prop} (I:Inv X pins σ H s) (hN:X.N.Nodup) (hi:X.N[i]? =some n) (hl:X.env.scope.names.lookup n=some .local)
 (h:∀s',Inv X pins (σ.set i none) H s'->Q () s'):wpAny M A (do bindName X.env n .none;unbindBehindTheSuite X.env n pos) Q E s:=by
 have ac:(X.env.scope.kind == .class||(X.env.scope.kind == .module&&X.env.locals != X.env.globals))=false:=by rw[I.ok.kind];rfl
 have hk:X.env.kindOf n=some .local:=hl
 refine wpAny_bind (wpAny_bindName (qM I hN hi (.inl hl) (v:=.non) (u:=.none) rfl (λs1 U=> ?_) (.inr hl)))
 obtain⟨m,hn,hm⟩:=id U.loc
 unfold unbindBehindTheSuite
 refine wpAny_onRaise ?_
 unfold unbindName
 refine wpAny_bind (wpAny_point (wpAny_bind ?_))
 unfold deleteName
 simp only[hk,ac]
 rw[if_neg (by decide)]
 refine wpAny_bind (wpAny_nsDel_keeps hn λh2 w ap Y=> ?_)
 have ae:i<σ.length:=by rw[I.len];exact(wP.mp hi).1
 have ab:(m n).isSome=true:=by
  obtain⟨u,r,q⟩:=hm i n .non hi (Pe ae) (.inl hl)
  rcases q with⟨_,q⟩ | ⟨q,_⟩
  ·rw[q];rfl
  ·rw[hk] at q;rcases q with q | q <;> cases q
 rw[ab]
 simp only[if_true,Bool.not_true,QC,if_false]
 refine wpAny_pure (wpAny_point (h _ ?_))
 have Y:Heap.SameBut X.env.locals s1.heap h2:=Y
 refine⟨U.ok,U.os,U.bare,⟨λb o e n hb hx=> ?_,λb o e n hb hx=> ?_,U.base.free,λb o e hx=> ?_,U.base.tups,U.base.frzs,U.base.tbls⟩,⟨_,ap,λj y v' e1 e2 e3=> ?_⟩,λy c e=> ?_,U.free,U.freeC,λp hp=> ?_,λb ob e=> ?_,by simpa using I.len⟩
 ·exact(Y.2 b (Do (AT (Heap.lt_size e) I.ok.above))).trans (U.base.keep b o e n hb hx)
 ·obtain⟨sl,e1⟩:=U.base.slot b o e n hb hx
  exact⟨sl,(Y.2 b (Do (AT (Heap.lt_size e) I.ok.above))).trans e1⟩
 ·obtain⟨o',e1⟩:=U.base.there b o e hx
  exact⟨o',(Y.2 b (Do (AT (Heap.lt_size e) I.ok.above))).trans e1⟩
 ·by_cases hj:i=j
  ·subst hj
   rw[Pe ae] at e2;cases e2
  ·rw[Pf hj] at e2
   obtain⟨u,r,q⟩:=hm j y v' e1 (by rw[Pf hj];exact e2) e3
   refine⟨u,r, ?_⟩
   have yn:y≠n:=λz=>hj (v9 hN hi (z▸e1))
   rcases q with⟨k1,q⟩ | ⟨k1,c,e,z⟩
   ·exact .inl ⟨k1,by show (if y=n then w else m y)=_;rw[if_neg yn];exact q⟩
   ·exact .inr ⟨k1,c,e,z.sameBut Y (U.cne y c e)⟩
 ·obtain⟨w',z⟩:=U.cell y c e
  exact⟨w',z.sameBut Y (U.cne y c e)⟩
 ·obtain⟨e,n,ne,nf,d⟩:=U.pin p hp
  exact⟨(Y.2 p.1 ne).trans e,n,ne,nf,d⟩
 ·refine(U.hok b ob e).stay (λc w' hc q=>(Y.2 c ?_).trans q) (λ_ q=>q) λ_ _ q=>q
  rintro rfl
  rcases hc with rfl | hc
  ·rw[U.free] at e;cases e
  ·rw[U.free] at hc;cases hc
theorem Cp{x T:Addr}(ht:Trc s.heap x oe T)(h:∀h',(∀b u,s.heap.get? b=some u->h'.get? b=some u)->Q () {s with heap:=h'}):wpAny M A (setFlight (.ref x) none) Q E s:=by
 obtain⟨he,⟨vs,hd,h1⟩,am,oT,ts,Y,U,h3⟩:=ht
 unfold setFlight
 refine wpAny_bind (wpAny_field he hd h1 ?_)
 rw[if_pos (by simp)]
 refine wpAny_setField Y U (PJ.mp h3).1 (h _ λb u e=> ?_)
 by_cases z:b=T
 ·subst z
  cases Y.symm.trans e
  have same:Obj.mapFields (·.setIfInBounds 3 ((none:Option Addr).elim Value.none λf=>rawInt f)) oT=oT:=by
   obtain⟨c,d,dt,sl⟩:=oT
   cases U
   show (Obj.mk c d (.fields (ts.setIfInBounds 3 Value.none)) sl)=_
   congr 2
   apply Array.ext
   ·simp
   ·intro k ap ab
    rw[Array.getElem_setIfInBounds (by simpa using ab)]
    split
    ·rename_i q
     subst q
     have:=(PJ.mp h3).2
     exact this.symm
    ·rfl
  have:=Heap.get?_update_self (Obj.mapFields (·.setIfInBounds 3 ((none:Option Addr).elim Value.none λf=>rawInt f))) Y (by rw[same];exact Obj.isFreed_of_fields U)
  rw[same] at this
  exact this
 ·rw[Heap.get?_update_other _ _ (P0 z)];exact e
end
structure oN(X:Cx)(pins:List (Addr×Obj))(H:Hp)(s:Shared)(x C:Addr):Prop where
 tr:∃oe T,Trc s.heap x oe T/\oe.cls=.ref C/\oe.dict=none
 hx:H x=none
 h0:X.s₀.heap.get? x=none
 nl:x≠X.env.locals
 nc:∀y c,X.env.cells.lookup y=some c->c≠x
 np:∀p∈X.pn++pins,p.1≠x
theorem oN.kept{x C:Addr}(c:oN X pins H s x C)(k:∀b u,s.heap.get? b=some u->h'.get? b=some u):oN X pins H {s with heap:=h'} x C:=
 let ⟨oe,T,⟨e,d,n,oT,ts,a1,a2⟩,hc⟩:=c.tr
 ⟨⟨oe,T,⟨k _ _ e,d,n,oT,ts,k _ _ a1,a2⟩,hc⟩,c.hx,c.h0,c.nl,c.nc,c.np⟩
theorem oN.obj{x C:Addr}(c:oN X pins H s x C):∃o,s.heap.get? x=some o/\o.cls=.ref C/\o.dict=none/\∀cd,o.data≠ .cls cd:=
 let ⟨oe,T,⟨e,⟨vs,d,_⟩,_,_⟩,hc,hd⟩:=c.tr
 ⟨oe,e,hc,hd,λcd z=>by rw[d] at z;cases z⟩
def HB(X:Cx)(U:List ExceptHandler)(th:Addr->TS):Prop:=∀(pins:List (Addr×Obj)) (σ:St) (H:Hp) (s:Shared) (x C:Addr) (D:Ends),Inv X pins σ H s->oN X pins H s x C->th C D σ H->wpAny (model X.prog X.w) X.A (handleBy (.ref x) X.env U) (SP X pins D) X.xe s
theorem Fi:HB X [] λ_ _ _ _=>False:=λ_ _ _ _ _ _ _ _ _ z=>z.elim
def tEx(sub:Addr->Option Bool)(tb:Addr->TS)(th:Addr->TS):Addr->TS:=λC D σ H=>match sub C with
 | some true=>tb C D σ H
 | some false=>th C D σ H
 | none=>False
def tAs(i:Nat)(tb:TS):Addr->TS:=λC D σ H=>∀x,H x=none->tb {nx:=λU H'=>D.nx (U.set i none) H',rt:=D.rt,bk:=λU H'=>D.bk (U.set i none) H',ct:=λU H'=>D.ct (U.set i none) H'} (σ.set i (some (.ref x))) (upd H x (exO x C))
section
variable {X : Cx} {c : Str} {Dc : Addr} {np pos : Pos} {b0 : Stmt} {suite : List Stmt} {rest : List ExceptHandler} {sub : Addr → Option Bool} {tb : TS} {th : Addr → TS}
theorem C1 {x C:Addr} {name:Option Str} {body:List Stmt} {b:Bool} {Q:Flow->Shared->Prop} (I:Inv X pins σ H s) (cg:oN X pins H s x C) (hg:Gl X c) (hm:X.mg c=some (.ref Dc)) (hs:P2 X.K (.ref C) (.ref Dc)=some b)
 (h:if b then codeAny (model X.prog X.w) (X.A.mark (some (.ref x))) (.handlers (.ref x) [.ExceptHandler none name body pos] X.env) (λr U=>match r with
  | .ok f=>(match name with
   | none=>Q f U
   | some n=>wpAny (model X.prog X.w) X.A (do bindName X.env n .none;unbindBehindTheSuite X.env n pos) (λ_ s₃=>Q f s₃) X.xe U)
  | .error x=>cameBackBy (model X.prog X.w) X.A X.env X.xe x U) s
  else wpAny (model X.prog X.w) X.A (handleBy (.ref x) X.env rest) Q X.xe s) (Y:(c == ("__debug__" :Str))=false):wpAny (model X.prog X.w) X.A (handleBy (.ref x) X.env (.ExceptHandler (some (.Name c np)) name body pos::rest)) Q X.xe s:=by
 obtain⟨o,ho,hc,_⟩:=cg.obj
 have LT:PySem.W.Looks (model X.prog X.w) s.heap (typeOf (.ref x)) (.ref C):=hc▸(Tq ho).andThen .now
 refine wpAny_handleBy_cons (codeAny_handlers_test ?_) (by intro q;cases q)
 refine mw (I.hand (.ref x)) hg hm ((PySem.W.exm_one I.kIn LT hs).here ?_) Y
 cases b with
 | true=>exact h
 | false=>exact h
theorem Jm {n:Str} (hN:X.N.Nodup) (hi:X.N[i]? =some n) (hl:X.env.scope.names.lookup n=some .local) (hg:Gl X c) (hm:X.mg c=some (.ref Dc)) (hs:∀C b,sub C=some b->P2 X.K (.ref C) (.ref Dc)=some b)
 (hb:∀v,PSs (X.hand v) (b0::suite) tb) (hr:HB X rest th) (an:(c == ("__debug__" :Str))=false:=by decide):HB X (.ExceptHandler (some (.Name c np)) (some n) (b0::suite) pos::rest) (tEx sub (tAs i tb) th):=by
 intro pins σ H s x C D I cg h
 unfold tEx at h
 split at h
 ·rename_i e
  refine C1 I cg hg hm (hs C _ e) ?_ an
  rw[if_pos rfl]
  obtain⟨oe,T,tr,_⟩:=cg.tr
  refine codeAny_handlers_suite_as (Cp tr λh' k=> ?_)
  have I2:=I.kept (t':=s.toks) k
  have U:=cg.kept k
  have J:=(I2.track U.hx U.h0 U.obj U.nl U.nc U.np).hand (.ref x)
  refine qM (X:=X.hand (.ref x)) J hN hi (.inl hl) (v:=.ref x) rfl (λs3 J3=> ?_) (.inr hl)
  refine wpAny_mono (hb (.ref x) pins s3 _ _ _ J3 (h x cg.hx)) (λf s4 q=> ?_) λ_ _ z=>ss z
  have q:=q.unhand I.ok
  cases f with
  | next=>
   obtain⟨σ',H',Y,q⟩:=q
   exact name_goes Y hN hi hl λs5 I5=>⟨_,_,I5,q⟩
  | brk=>
   obtain⟨σ',H',Y,q⟩:=q
   exact name_goes Y hN hi hl λs5 I5=>⟨_,_,I5,q⟩
  | cont=>
   obtain⟨σ',H',Y,q⟩:=q
   exact name_goes Y hN hi hl λs5 I5=>⟨_,_,I5,q⟩
  | ret u=>
   obtain⟨v,σ',H',Y,r,q⟩:=q
   exact name_goes Y hN hi hl λs5 I5=>⟨v,_,_,I5,r,q⟩
 ·rename_i e
  exact C1 I cg hg hm (hs C _ e) (hr pins σ H s x C D I cg h) an
 ·exact h.elim
end
def Mt(tb:(St->XK)->TS)(th:Addr->TS):TS:=λD σ H=>tb (λU cls dx H'=>∃C,cls=.ref C/\dx=none/\th C D U H') D σ H
theorem E7 {body:List Stmt} {h0:ExceptHandler} {hs:List ExceptHandler} {pos:Pos} {tb:(St->XK)->TS} {th:Addr->TS} (ab:X.stack=X.env::X.outer) (ae:X.env.frame=some X.env.locals) (am:X.ex=[])
 (hb:∀(p:List (Addr×Obj)) (E':Value->Shared->Prop) (Es:St->XK),mj (CXE X.prog X.w) (X.pinned p E') Es->PSs (X.pinned p E') body (tb Es)) (hh:HB X (h0::hs) th):PS X (.Try body (h0::hs) [] [] pos) (Mt tb th):=by
 intro pins s σ H D I h
 let Es:St->XK:=λσ' cls dx H'=>∃C,cls=.ref C/\dx=none/\th C D σ' H'
 let E':Value->Shared->Prop:=λe s'=>∃Y H1 s1,Inv X pins Y H1 s1/\CXE X.prog X.w X.stack H1 s1 (Es Y) e s'
 have hp:mj (CXE X.prog X.w) (X.pinned (X.pn++pins) E') Es:=λp1 Y H1 s1 e s' U c=>⟨Y,H1,s1,U.ofPinned,c⟩
 refine wpAny_Try_except (wpAny_mono (hb (X.pn++pins) E' Es hp [] s σ H D (I.toPinned E') h) (λf s1 q=> ?_) λe s1 ⟨Y,H1,s2,U,x,oe,T0,H2,C,he,os,bare,fl,hE⟩=> ?_)
 ·cases f with
  | next=>
   obtain⟨Y,H1,U,q⟩:=q
   exact wpAny_execs_nil ⟨Y,H1,U.ofPinned,q⟩
  | brk=>exact let ⟨Y,H1,U,q⟩:=q;⟨Y,H1,U.ofPinned,q⟩
  | cont=>exact let ⟨Y,H1,U,q⟩:=q;⟨Y,H1,U.ofPinned,q⟩
  | ret u=>exact let ⟨v,Y,H1,U,r,q⟩:=q;⟨v,Y,H1,U.ofPinned,r,q⟩
 ·subst he
  have J:=U.call' os fl.un fl.hok bare (λb z=>absurd z (by simp))
  have fs:=J.stack
  have ff:=J.ok.frames
  rw[ab] at fs ff
  refine yj (base:=X.base) ff fs ae fl.tr λh1 h' T az a1 xl=> ?_
  rw[<- ab] at xl
  have J2:=U.landed J ab ae am fl.nx fl.hx fl.nT fl.hT az a1 xl fl.cls
  obtain⟨a2,vs,e1,e2,e3,e4,e5⟩:=xl.exc
  obtain⟨C',a3,a4,q⟩:=hE
  cases a3
  refine hh pins Y H2 _ x C D J2 ⟨⟨a2,T,⟨e1,⟨vs,e4,e5⟩,xl.ne,xl.trc⟩,e2.trans fl.cls,e3.trans a4⟩,fl.hx,U.old am fl.nx,λz=> ?_,λy c e z=> ?_,λp hp z=> ?_⟩ q
  ·obtain⟨m,⟨o,_,_,ho,_⟩,_⟩:=U.loc
   rw[<- z,fl.nx] at ho;cases ho
  ·obtain⟨v,o,ho,_⟩:=U.cell y c e
   rw[z,fl.nx] at ho;cases ho
  ·obtain⟨e,_⟩:=U.pin p hp
   rw[z,fl.nx] at e;cases e
open PySem PySem.Spec PyProof.Rows PySem.W
structure ExK(K:sB)(D:Addr):Prop where
 ga:findIn K (.ref D) "__getattribute__" =some (some (.builtin "BaseException.__getattribute__"))
 hk:findIn K (.ref D) "__getattr__" =some none
 cl:findIn K (.ref D) "__class__" =some (some (.builtin "object.__class__"))
 gt:specialIn K (.builtin "object.__class__") "__get__" =some (some (.builtin "getset_descriptor.__get__"))
 tk:takesIn K (.builtin "object.__class__")=some true
 ob:mroIn K D (.type "object")=some true
 be:mroIn K D (.type "BaseException")=some true
section
variable {prog : Program} {w : World} {A : Around} {E : Value → Shared → Prop} {s : Shared} {K : sB} {x D : Addr} {ox : Obj}
theorem zC{C:Addr}{name:Str}{a g:Value}(hc:(clsIn K C).isSome=true)(ha:findIn K (.ref C) name=some (some a))(U:specialIn K a "__get__" =some (some g))(ht:takesIn K a=some true):findObj K C none name=some (.bind g a):=by
 obtain⟨cd,hc⟩:=Qc.mp hc
 unfold findObj
 rw[hc,SI,ha,SI]
 simp[U,ht]
theorem ExK.cls(k:ExK K D):(clsIn K D).isSome=true:=by
 obtain⟨cd,hc,_⟩:=Option.bind_eq_some_iff.mp k.ob
 rw[hc];rfl
theorem FY{Q:Option Value->Shared->Prop}(k:ExK K D)(X:K.In s.heap)(I:InstAt s.heap x ox D none)(h:Q (some (.ref D)) {s with toks:=s.toks+1}):wpAny (model prog w) A (getAttr? (.ref x) "__class__") Q E s:=by
 obtain⟨hh,g,d,t,os⟩:=s
 have L0:=I.type (M:=model prog w)
 have L1:=looks_findIn (M:=model prog w) X k.ga
 have L2:=looks_findIn (M:=model prog w) X k.hk
 have L3:=looks_mroIn (M:=model prog w) X k.be
 have L4:=looks_find (M:=model prog w) X I (zC k.cls k.cl k.gt k.tk)
 unfold getAttr? getAttrBy? getAttrBy
 refine wpAny_bind (wpAny_mkText (wpAny_bind (wpAny_attempt (wpAny_holding (wpAny_bind (L0.at (wpAny_bind (L1.at ?_))))))))
 have ne:(onTheHeap (Value.ref D)&&(Value.builtin "BaseException.__getattribute__" == Value.builtin "object.__getattribute__"))=false:=by
  rw[show (Value.builtin "BaseException.__getattribute__" == Value.builtin "object.__getattribute__")=false by decide +kernel,Rp]
 dsimp only
 rw[if_neg (by rw[ne];decide)]
 unfold getAttrByItsOwn hookBefore
 rw[if_pos (by rfl)]
 refine wpAny_bind (L2.at ?_)
 unfold callGetattribute
 rw[if_neg (by decide)]
 unfold boundAndCalled
 refine wpAny_bind (wpAny_attempt (wpAny_holding (wpAny_bind ?_)))
 rw[F.attr_ValueError.ga.bind]
 refine wpAny_pure ?_
 refine wpAny_call (codeAny_call_builtin F.attr_ValueError.ga.plain F.entry_bexc_ga ?_)
 have U:builtinKind "BaseException.__getattribute__" =some .slot:=by decide +kernel
 have Y:splitId "BaseException.__getattribute__" =some ("BaseException","__getattribute__"):=by decide +kernel
 have ha:=F.args_bexc_ga (.ref x) (.str "__class__" t)
 have LI:Looks (model prog w) hh (isInstance (.ref x) (.type "BaseException")) true:=L0.andThen L3
 show wpAny _ _ (checkBuiltinCall "BaseException.__getattribute__" ⟨[.ref x,.str "__class__" t],[]⟩) _ _ _
 simp only[checkBuiltinCall,U,Y]
 refine wpAny_bind (LI.at ?_)
 repeat wp_step
 refine wpAny_loadPart I.at_ ?_
 rw[I.cls]
 refine wpAny_pure (wpAny_bind (L4.at ?_))
 dsimp only
 unfold Builtin.ObjectAttr.bindTo
 dsimp only
 repeat wp_step
 refine class_get (ox:=ox) (od:=none) X I k.ob ?_
 exact wpAny_pure (handed_on rfl (wpAny_pure h))
def Ep(x D:Addr)(h:Heap):Prop:=∃o,h.get? x=some o/\o.cls=.ref D/\o.dict=none/\(∀cd,o.data≠ .cls cd)
theorem Ep.inst(e:Ep x D h):∃ox,InstAt h x ox D none:=by
 obtain⟨o,h1,h2,U,Y⟩:=e
 refine⟨o,h1,h2, ?_,by rw[U];trivial⟩
 unfold notCls
 split
 ·rename_i cd z;exact absurd z (Y cd)
 ·rfl
theorem vc(k:ExK K D):KitX K (.ref x) (.ref D) (Ep x D) where
 ty:=λ_ _ _ e=>let ⟨_,i⟩:=e.inst;i.type
 it:=λ_ _ X _=>by
  obtain⟨cd,hc⟩:=Qc.mp k.cls
  unfold clsIn at hc
  split at hc
  ·rename_i look
   intro A' Q' E' s' kp q
   unfold isType loadHead
   exact wpAny_bind (wpAny_loadPart (kp _ _ (X _ _ look)) (wpAny_pure q))
  ·cases hc
 ne:=λh tp dd its n sl X htp=>by
  obtain⟨cd,hc⟩:=Qc.mp k.cls
  refine RF.mpr λq=> ?_
  cases Value.ref.inj (beq_iff_eq.mp q)
  unfold clsIn at hc
  split at hc
  ·rename_i look
   cases (X _ _ look).symm.trans htp
  ·cases hc
 ca:=λX e h=>let ⟨_,i⟩:=e.inst;FY k X i h
end
def xD(K:sB):List V->Hp->VK->Prop:=λxs H Q=>∃a D b,H a=some (exO a D)/\ExK K D/\Q (.bl b) H/\
 ((∃C,xs=[.ref a,.ref C]/\kitOne K (.ref D) (.ref C)=some b)\/(∃T,xs=[.ref a,.ty T]/\kitOne K (.ref D) (.type T)=some b)\/∃(U:Addr) (Y:List Addr),xs=[.ref a,.ref U]/\H U=some (.tup (Y.map V.ref))/\kitAny K (.ref D) (Y.map Value.ref)=some b)
theorem yX:∀{U:List Addr} {us:List Value},Vals (U.map V.ref) us->us=U.map Value.ref
 | [],_,h=>by cases h;rfl
 | C::U,_,h=>by
  cases h with
  | cons r t=>
   rw[yX t]
   cases r
   rfl
theorem oO:jw X (.builtin "isinstance") (xD X.K):=by
 intro pins s σ H xs us Q I r h
 obtain⟨a,D,b,ha,k,q,h⟩:=h
 have at_:Ep a D s.heap:=(I.hok a _ ha).1
 have U:∀tk,EP X pins σ Q (.bool b) {s with toks:=tk}:=λtk=>⟨.bl b,H,I.tok tk,rfl,q⟩
 rcases h with⟨C,rfl,hk⟩ | ⟨T,rfl,hk⟩ | ⟨tp,Cs,rfl,ac,hk⟩
 ·obtain⟨u,v,rfl,Y,r2⟩:=vals2 r
  cases (show u=Value.ref a from Y)
  cases (show v=Value.ref C from r2)
  exact kia_one (vc k) I.kIn at_ hk (λz=>nomatch z) U
 ·obtain⟨u,v,rfl,Y,r2⟩:=vals2 r
  cases (show u=Value.ref a from Y)
  cases (show v=Value.type T from r2)
  exact kia_one (vc k) I.kIn at_ hk (λz=>nomatch z) U
 ·obtain⟨u,v,rfl,Y,r2⟩:=vals2 r
  cases (show u=Value.ref a from Y)
  cases (show v=Value.ref tp from r2)
  obtain⟨_,am,rv,ob,ho,hc,n,hd⟩:=I.hok tp _ ac
  cases yX rv
  obtain⟨c0,d0,dt,sl⟩:=ob
  cases hc
  cases hd
  exact kia_tup (vc k) I.kIn at_ ho hk (λz=>nomatch z) U
open PySem PySem.Spec PyProof.Rows
section
variable {X : Cx} {pins : List (Addr × Obj)} {σ : List (Option V)} {H : Hp} {s : Shared} {h' : Heap}
theorem Inv.turnedL{t':Nat}{ch:List Addr}(I:Inv X pins σ H s)(k:∀b o,b∉ch->s.heap.get? b=some o->h'.get? b=some o)(Y:∀b∈ch,lS X pins H b):Inv X pins σ H {s with heap:=h',toks:=t'}:=by
 have U:∀b u,H b=some u->b∉ch:=λb u e z=>by rw[(Y b z).1] at e;cases e
 refine I.step (g':=s.gens) (d':=s.drawn) (ch:=ch) (λb hb=> ?_) (λb o _ _ hc e _=>k b o hc e) (λb o _ _ hc e _=>⟨o.slots,k b o hc e⟩) (λ_ _ _ _ n=>n)
  (λb o hc e=>⟨o,k b o hc e⟩) (λ_ _ e=>e) (λ_ _ _ e=>e) (λb ps e=>⟨#[],by rw[e];simp⟩) (λm hm=> ?_) (λb u e=> ?_) I.bare
 ·obtain⟨f0,f1,f2,f3,f4,f5⟩:=Y b hb
  exact⟨f3,f1,f4,f5⟩
 ·obtain⟨o,es,ep,ho,r⟩:=hm
  exact⟨o,es,ep,k _ o (λz=>(Y _ z).2.1 rfl) ho,r⟩
 ·refine(I.hok b u e).stay (λc v hc q=>k c v ?_ q) (λ_ q=>q) λ_ _ q=>q
  rcases hc with z | z
  ·rw[z];exact U b u e
  ·exact U c _ z
theorem Inv.turnedT {t':Nat} {ch:List Addr} {T:Addr} {xs:List V} (I:Inv X pins σ H s) (k:∀b o,b∉ch->s.heap.get? b=some o->h'.get? b=some o) (Y:∀b∈ch,lS X pins H b) (hT:s.heap.objs.size<=T)
 (ab:gv X.prog X.w (upd H T (.tup xs)) h' T (.tup xs)):Inv X pins σ (upd H T (.tup xs)) {s with heap:=h',toks:=t'}:=by
 have hn:H T=none:=I.hok.fresh hT
 have U:∀b u,H b=some u->b∉ch:=λb u e z=>by rw[(Y b z).1] at e;cases e
 refine I.step (g':=s.gens) (d':=s.drawn) (ch:=ch) (λb hb=> ?_) (λb o _ _ hc e _=>k b o hc e) (λb o _ _ hc e _=>⟨o.slots,k b o hc e⟩) (λb o _ e n=> ?_)
  (λb o hc e=>⟨o,k b o hc e⟩) (λb xs e=>by rw[aS (fv e hn)];exact e) (λb o u e=>by rw[aS (fv e hn)];exact e) (λb ps e=>⟨#[],by rw[aS (fv e hn),e];simp⟩) (λm hm=> ?_) (λb u e=> ?_) I.bare
 ·obtain⟨f0,f1,f2,f3,f4,f5⟩:=Y b hb
  exact⟨f3,f1,f4,f5⟩
 ·have hb:b≠T:=λz=>by
   subst z
   exact absurd (AT (Heap.lt_size e) hT) (PH _)
  rw[aS hb];exact n
 ·obtain⟨o,es,ep,ho,r⟩:=hm
  exact⟨o,es,ep,k _ o (λz=>(Y _ z).2.1 rfl) ho,r⟩
 ·by_cases hb:b=T
  ·subst hb;rw[bZ] at e;cases e;exact ab
  ·rw[aS hb] at e
   refine(I.hok b u e).stay (λc v hc q=>k c v ?_ q) (λc q=>by rw[aS (fv q hn)];exact q) λc xs q=>by rw[aS (fv q hn)];exact q
   rcases hc with z | z
   ·rw[z];exact U b u e
   ·exact U c _ z
end
def Itz(K:sB)(a b:Addr):It:=
 ⟨λi H=>∃xs ys x y,SqL K H a xs/\SqL K H b ys/\xs[i]? =some x/\ys[i]? =some y,
  λi H v H'=>∃T x y,H T=none/\v=.ref T/\H'=upd H T (.tup [x,y])/\(∀xs,SqL K H a xs->xs[i]? =some x)/\∀ys,SqL K H b ys->ys[i]? =some y,
  λi H=>∃xs ys,SqL K H a xs/\SqL K H b ys/\(xs.length<=i\/ys.length<=i)⟩
def Ite(K:sB)(a:Addr):It:=
 ⟨λi H=>∃xs x,SqL K H a xs/\xs[i]? =some x,
  λi H v H'=>∃T x,H T=none/\v=.ref T/\H'=upd H T (.tup [.int i,x])/\∀xs,SqL K H a xs->xs[i]? =some x,
  λi H=>∃xs,SqL K H a xs/\xs.length<=i⟩
def Its(x:Str):It:=⟨λi _=>i<x.cps.size,λi H v H'=>H'=H/\∃c,x.cps[i]? =some c/\v=.str ⟨#[c]⟩,λi _=>x.cps.size<=i⟩
theorem Fw{T:Addr}{x y:V}{u v:Value}(U:RelV x u)(Y:RelV y v)(hT:h.IsTuple T #[u,v]):gv P w H h T (.tup [x,y]):=by
 refine⟨by simp only[wE,S1];rw[sizeLine_eq];decide,[u,v],.cons U (.cons Y .nil), ?_⟩
 exact hT
theorem Hy{P:Program}{w:World}{K:sB}{elts:List Expr}{kk:Nat}{tp:Pos}{z TI TO i1 i2 a b:Addr}(D:ZipApart z TI TO i1 i2 a b):
 Turn P w K (.Tuple elts kk tp) (Itz K a b) [z,TI,TO,i1,i2] z (λi h=>IsZip h z TI TO .none/\IsPair h TI (.ref i1) (.ref i2)/\(∃u v,IsPair h TO u v)/\h.IsListIter i1 a i/\h.IsListIter i2 b i) where
 mem:=by simp
 obj:=λi h st c hc=>by
  obtain⟨q1,q2,⟨u,v,q3⟩,⟨o1,e1,c1,d1⟩,⟨o2,e2,c2,d2⟩⟩:=st
  simp only[wT,PZ,or_false] at hc
  rcases hc with rfl | rfl | rfl | rfl | rfl
  ·exact⟨_,q1,λv z=>by have z':Data.fields _=Data.cell v:=z;cases z'⟩
  ·exact⟨_,q2,λv z=>by have z':Data.seq _ _=Data.cell v:=z;cases z'⟩
  ·exact⟨_,q3,λv z=>by have z':Data.seq _ _=Data.cell v:=z;cases z'⟩
  ·exact⟨o1,e1,λv z=>by rw[d1] at z;cases z⟩
  ·exact⟨o2,e2,λv z=>by rw[d2] at z;cases z⟩
 keep:=λi h h' st k=>by
  obtain⟨q1,q2,⟨u,v,q3⟩,q4,q5⟩:=st
  exact⟨k z (by simp) _ q1,k TI (by simp) _ q2,⟨u,v,k TO (by simp) _ q3⟩,q4.at λo e=>k i1 (by simp) o e,q5.at λo e=>k i2 (by simp) o e⟩
 item:=by
  intro X hP hw hK hc i pins s σ H E I hf st hg
  subst hP hw hK
  obtain⟨xs,ys,x,y,hq1,hq2,hx,hy⟩:=hg
  obtain⟨its1,rv1,p1,hz1⟩:=I.list hq1
  obtain⟨its2,rv2,p2,hz2⟩:=I.list hq2
  obtain⟨u,hu,ru⟩:=rv1.get hx
  obtain⟨v,hv,rv⟩:=rv2.get hy
  obtain⟨q1,q2,q3,q4,q5⟩:=id st
  have W:=WalksT.zip2 (prog:=X.prog) (w:=X.w) (A:=X.A) (I.ok.hd hc) z TI TO i1 i2 a b D its1.toArray its2.toArray
  have hi1:i<its1.length:=(wP.mp hu).1
  have hi2:i<its2.length:=(wP.mp hv).1
  refine W.item i s _ _ (by simp;omega) ⟨q1,q2,q3,q4,q5,p1.isList,p2.isList⟩ λT vals h1 tk hP hT isT mid kk1=>⟨.ref T,rfl,W.go elts _ tp i T _ _ _ mid λh2 st2 kk2=> ?_⟩
  obtain⟨u',v',e1,e2,rfl⟩:=hP
  rw[show its1.toArray[i]? =its1[i]? by simp,hu] at e1
  rw[show its2.toArray[i]? =its2[i]? by simp,hv] at e2
  cases e1;cases e2
  have nT:T∉([z,TO,i1,i2]:List Addr):=W.apart i T _ mid
  have sub:∀c,c∈([z,TO,i1,i2]:List Addr)->c∈([z,TI,TO,i1,i2]:List Addr):=λc hc=>by
   simp only[wT,PZ,or_false] at hc ⊢
   rcases hc with h | h | h | h <;> simp[h]
  have kk:∀c o,c∉([z,TO,i1,i2]:List Addr)->s.heap.get? c=some o->h2.get? c=some o:=λc o hc e=>kk2 c o hc (kk1 c o hc e)
  have isT2:h2.IsTuple T #[u,v]:=by
   obtain⟨o,e,c,d⟩:=isT
   exact⟨o,kk2 T o nT e,c,d⟩
  have I2:Inv X pins σ (upd H T (.tup [x,y])) {s with heap:=h2,toks:=tk}:=I.turnedT kk (λc hc=>hf c (sub c hc)) hT (Fw ru rv isT2)
  refine⟨.ref T,_,I2,rfl,⟨T,x,y,I.hok.fresh hT,rfl,rfl,λxs' h=>by rw[I.list_inj h hq1];exact hx,λys' h=>by rw[I.list_inj h hq2];exact hy⟩,⟨st2.1,st2.2.1,st2.2.2.1,st2.2.2.2.1,st2.2.2.2.2.1⟩,λc hc=> ?_⟩
  have hc0:=(hf c hc).1
  rw[aS (λe=> ?_)]
  ·exact hc0
  ·subst e
   simp only[wT,PZ,or_false] at hc
   rcases hc with h | h | h | h | h
   ·exact nT (by simp[h])
   ·have:TI<s.heap.objs.size:=Heap.lt_size q2
    rw[<- h] at this
    exact absurd (AT this hT) (PH _)
   ·exact nT (by simp[h])
   ·exact nT (by simp[h])
   ·exact nT (by simp[h])
 done:=by
  intro X hP hw hK hc i pins s σ H E I hf st hg
  subst hP hw hK
  obtain⟨xs,ys,hq1,hq2,hx⟩:=hg
  obtain⟨its1,rv1,p1,hz1⟩:=I.list hq1
  obtain⟨its2,rv2,p2,hz2⟩:=I.list hq2
  have l1:=rv1.length
  have l2:=rv2.length
  obtain⟨q1,q2,⟨u,v,q3⟩,q4,q5⟩:=id st
  refine wpAny_pyNext_zip_end (I.ok.hd hc) D q1 q2 q3 q4 q5 p1.isList p2.isList (by
   rcases hx with h | h
   ·left;simp;omega
   ·right;simp;omega) λh' hk=>⟨rfl, ?_⟩
  exact I.turnedL (t':=s.toks) (ch:=[z,TI,TO,i1,i2]) (λc o hc e=>hk c o (λx=>hc (by simp[x])) (λx=>hc (by simp[x])) (λx=>hc (by simp[x])) (λx=>hc (by simp[x])) e) hf
 self:=λ_ _ _ _ _ st h=>wpAny_pyIter_zip st.1 h
theorem EF{P:Program}{w:World}{K:sB}{elts:List Expr}{kk:Nat}{tp:Pos}{e it a:Addr}(hei:e≠it)(hle:a≠e)(hli:a≠it):
 Turn P w K (.Tuple elts kk tp) (Ite K a) [e,it] e (λi h=>(∃old,IsEnum h e it i old)/\h.IsListIter it a i) where
 mem:=by simp
 obj:=λi h st c hc=>by
  obtain⟨⟨old,q1⟩,⟨o1,e1,c1,d1⟩⟩:=st
  simp only[wT,PZ,or_false] at hc
  rcases hc with rfl | rfl
  ·exact⟨_,q1,λv z=>by have z':Data.fields _=Data.cell v:=z;cases z'⟩
  ·exact⟨o1,e1,λv z=>by rw[d1] at z;cases z⟩
 keep:=λi h h' st k=>by
  obtain⟨⟨old,q1⟩,q4⟩:=st
  exact⟨⟨old,k e (by simp) _ q1⟩,q4.at λo e'=>k it (by simp) o e'⟩
 item:=by
  intro X hP hw hK hc i pins s σ H E I hf st hg
  subst hP hw hK
  obtain⟨xs,x,hq1,hx⟩:=hg
  obtain⟨its1,rv1,p1,hz1⟩:=I.list hq1
  obtain⟨u,hu,ru⟩:=rv1.get hx
  obtain⟨q1,q4⟩:=id st
  have W:=WalksT.enumerate (prog:=X.prog) (w:=X.w) (A:=X.A) (I.ok.hd hc) e it a hei hle hli its1.toArray
  have hi1:i<its1.length:=(wP.mp hu).1
  refine W.item i s _ _ (by simpa using hi1) ⟨q1,q4,p1.isList⟩ λT vals h1 tk hP hT isT mid kk1=>⟨.ref T,rfl,W.go elts _ tp i T _ _ _ mid λh2 st2 kk2=> ?_⟩
  obtain⟨t,u',e1,rfl⟩:=hP
  rw[show its1.toArray[i]? =its1[i]? by simp,hu] at e1
  cases e1
  have nT:T∉([e,it]:List Addr):=W.apart i T _ mid
  have kk:∀c o,c∉([e,it]:List Addr)->s.heap.get? c=some o->h2.get? c=some o:=λc o hc e=>kk2 c o hc (kk1 c o hc e)
  have isT2:h2.IsTuple T #[.int i t,u]:=by
   obtain⟨o,e,c,d⟩:=isT
   exact⟨o,kk2 T o nT e,c,d⟩
  have I2:Inv X pins σ (upd H T (.tup [.int i,x])) {s with heap:=h2,toks:=tk}:=I.turnedT kk hf hT (Fw ⟨t,rfl⟩ ru isT2)
  refine⟨.ref T,_,I2,rfl,⟨T,x,I.hok.fresh hT,rfl,rfl,λxs' h=>by rw[I.list_inj h hq1];exact hx⟩,⟨st2.1,st2.2.1⟩,λc hc=> ?_⟩
  have hcT:c≠T:=λz=>by
   subst z
   exact nT hc
  rw[aS hcT]
  exact(hf c hc).1
 done:=by
  intro X hP hw hK hc i pins s σ H E I hf st hg
  subst hP hw hK
  obtain⟨xs,hq1,hx⟩:=hg
  obtain⟨its1,rv1,p1,hz1⟩:=I.list hq1
  have l1:=rv1.length
  obtain⟨⟨old,q1⟩,q4⟩:=id st
  refine wpAny_pyNext_enum_end (I.ok.hd hc) q1 q4 p1.isList (by simp;omega) λh' hk=>⟨rfl, ?_⟩
  exact I.turnedL (t':=s.toks) (ch:=[e,it]) (λc o hc e'=>hk c o (λx=>hc (by simp[x])) e') hf
 self:=λ_ _ _ _ _ st h=>let ⟨_,q⟩:=st.1;wpAny_pyIter_enum q h
theorem Hw{tg:Expr}(it:Addr)(x:Str)(t:Tok)(ty:String)(hty:ty="str_ascii_iterator" \/ty="str_iterator"):Turn P w K tg (Its x) [it] it (λi h=>h.IsStrIter it ty x t i) where
 mem:=by simp
 obj:=λi h st b hb=>by
  have e:b=it:=by simpa using hb
  subst e
  obtain⟨o,e,c,d⟩:=st
  exact⟨o,e,λv z=>by rw[d] at z;cases z⟩
 keep:=λi h h' st k=>let ⟨o,ho,r⟩:=st;⟨o,k it (by simp) o ho,r⟩
 item:=by
  intro X hP hw hK hc i pins s σ H E I hf st hg
  subst hP hw hK
  have hg:i<x.cps.size:=hg
  have W:Walks X.prog X.w X.A it [it] [it] x.cps.size (SignAt x) (λi h=>h.IsStrIter it ty x t i):=by
   rcases hty with rfl | rfl
   ·exact Walks.strAscii (I.ok.hd hc) it x t
   ·exact Walks.strWide (I.ok.hd hc) it x t
  refine W.item i s _ _ hg st λv h' tk hv st' kk=> ?_
  obtain⟨c,u,hc',rfl⟩:=hv
  have I1:Inv X pins σ H {s with heap:=h',toks:=tk}:=I.turnedL kk hf
  obtain⟨o,e,hc1,d⟩:=id st'
  exact⟨_,rfl,Dy (s:={s with heap:=h',toks:=tk}) (n:=ty) e hc1 d (by rcases hty with rfl | rfl <;> decide) ⟨.str ⟨#[c]⟩,H,I1,⟨u,rfl⟩,⟨rfl,c,hc',rfl⟩,st',λb hb=>(hf b hb).1⟩⟩
 done:=by
  intro X hP hw hK hc i pins s σ H E I hf st hg
  subst hP hw hK
  have hg:x.cps.size<=i:=hg
  rcases hty with rfl | rfl
  ·exact wpAny_pyNext_ascii_end (I.ok.hd hc) st (by simp;omega) λh' eb=>⟨rfl,I.turnedL (t':=s.toks) (ch:=[it]) (λb o hb e=>eb b o (λz=>hb (by simp[z])) e) hf⟩
  ·exact wpAny_pyNext_wide_end (I.ok.hd hc) st (by simp;omega) λh' eb=>⟨rfl,I.turnedL (t':=s.toks) (ch:=[it]) (λb o hb e=>eb b o (λz=>hb (by simp[z])) e) hf⟩
 self:=λ_ _ _ _ _ st h=>by
  rcases hty with rfl | rfl
  ·exact wpAny_pyIter_striter_ascii st h
  ·exact wpAny_pyIter_striter_wide st h
section
variable {X : Cx} {tg : Expr}
def HD(K:sB)(ta:TA):TI:=λσ H R=>ta σ H λvs H1=>∃a b,vs=[.ref a,.ref b]/\(∃xs,SqL K H1 a xs)/\(∃ys,SqL K H1 b ys)/\R (Itz K a b) H1
def Jp(K:sB)(ta:TA):TI:=λσ H R=>ta σ H λvs H1=>∃a,vs=[.ref a]/\(∃xs,SqL K H1 a xs)/\R (Ite K a) H1
def MC(te:TE):TI:=λσ H R=>te σ H λx H1=>∃z,x=.str z/\R (Its z) H1
theorem wu{U:List Expr}{kk:Nat}{tp:Pos}{a b:Expr}{ta:TA}{p pos:Pos}(hg:Gl X "zip")(hm:X.mg "zip" =none)(ha:PA X [a,b] ta)(hs:starEach [a,b] X.env=[(false,eval a X.env),(false,eval b X.env)]:=by rfl)(Y:starEach [b] X.env=[(false,eval b X.env)]:=by rfl):
 PI X (.Tuple U kk tp) (.Call (.Name "zip" p) [a,b] [] pos) (HD X.K ta):=by
 intro pins s σ H R I h
 refine Call_ (o6 I hg hm Boot.«zip» (Qk (thn (ha pos pins s σ H _ I h) λus s1 ⟨vs,H1,I1,r1,q1⟩=> ?_) (by rw[hs,Y]) (by rw[Y];rfl)))
 obtain⟨l1,l2,e,⟨xs,ab⟩,⟨ys,ac⟩,q⟩:=q1
 subst e
 obtain⟨u,v,rfl,r,r'⟩:=vals2 r1
 cases r
 cases r'
 obtain⟨az,bm,p1,bn⟩:=I1.list ab
 obtain⟨a3,bp,p2,bt⟩:=I1.list ac
 refine call_zip_2 p1.isList p2.isList λh' hz ae am an ap bv hk=> ?_
 have a1:l1<s1.heap.objs.size:=by obtain⟨_,e,_⟩:=p1.isList;exact Heap.lt_size e
 have a2:l2<s1.heap.objs.size:=by obtain⟨_,e,_⟩:=p2.isList;exact Heap.lt_size e
 refine wpAny_pyIter_zip hz ⟨_,_,_,_,H1,rfl,I1.kept (t':=s1.toks) hk,Hy (zipApart_new a1 a2),⟨hz,ae,⟨_,_,am⟩,an,ap⟩,λb hb=> ?_,q⟩
 have:s1.heap.objs.size<=b:=by
  simp only[wT,PZ,or_false] at hb
  rcases hb with rfl | rfl | rfl | rfl | rfl <;> omega
 exact I1.fpOk this (I1.hok.fresh this)
theorem lX{U:List Expr}{kk:Nat}{tp:Pos}{a:Expr}{ta:TA}{p pos:Pos}(hg:Gl X "enumerate")(hm:X.mg "enumerate" =none)(ha:PA X [a] ta)(hs:starEach [a] X.env=[(false,eval a X.env)]:=by rfl):
 PI X (.Tuple U kk tp) (.Call (.Name "enumerate" p) [a] [] pos) (Jp X.K ta):=by
 intro pins s σ H R I h
 refine Call_ (o6 I hg hm Boot.«enumerate» (Qk (thn (ha pos pins s σ H _ I h) λus s1 ⟨vs,H1,I1,r1,q1⟩=> ?_) hs rfl))
 obtain⟨l1,e,⟨xs,Y⟩,q⟩:=q1
 subst e
 obtain⟨u,rfl,ru⟩:=vals1 r1
 cases ru
 obtain⟨ae,a4,p1,a5⟩:=I1.list Y
 refine call_enumerate_list p1.isList λh' hz ab bb hk=> ?_
 have a1:l1<s1.heap.objs.size:=by obtain⟨_,e,_⟩:=p1.isList;exact Heap.lt_size e
 refine wpAny_pyIter_enum hz ⟨_,_,_,_,H1,rfl,I1.kept (t':=s1.toks) hk,EF (e:=s1.heap.objs.size+1) (it:=s1.heap.objs.size) (a:=l1) (Nat.succ_ne_self _) (Do (QX a1)) (Do a1),⟨⟨_,hz⟩,ab⟩,λb hb=> ?_,q⟩
 have:s1.heap.objs.size<=b:=by
  simp only[wT,PZ,or_false] at hb
  rcases hb with rfl | rfl <;> omega
 exact I1.fpOk this (I1.hok.fresh this)
theorem LB{l:Expr}{tl:TE}(hl:PE X l tl):PI X tg l (MC tl):=by
 intro pins s σ H R I h
 refine thn (hl pins s σ H _ I h) λv s1 ⟨x,H1,I1,r1,q1⟩=> ?_
 obtain⟨z,e,q⟩:=q1
 subst e
 obtain⟨t,rfl⟩:=r1
 have U:∀(ty:String),(ty="str_ascii_iterator" \/ty="str_iterator")->PIE X pins σ tg R (.ref s1.heap.objs.size) {s1 with heap:=s1.heap.push {cls:=.type ty,data:=.fields #[.str z t,.int 0 0]}}:=λty Y=>by
  refine⟨s1.heap.objs.size,[s1.heap.objs.size],_,_,H1,rfl,I1.kept (t':=s1.toks) λb o e=>Heap.get?_push_of_some _ e,Hw _ z t ty Y,⟨_,Heap.get?_push_size _ rfl,rfl,rfl⟩,λb hb=> ?_,q⟩
  have e:b=s1.heap.objs.size:=by simpa using hb
  subst e
  exact I1.fpOk (wf _) (I1.hok.fresh (wf _))
 cases ha:z.cps.all (· < 128)
 ·exact wpAny_pyIter_wide ha (U _ (.inr rfl))
 ·exact wpAny_pyIter_ascii ha (U _ (.inl rfl))
theorem kW:∀{ns:List Int} {U:List Value},Vals (ns.map V.int) U->IntsAre U ns
 | [],_,r=>by cases r;exact .nil
 | n::ns,_,r=>by
  cases r with
  | cons Y r2=>
   obtain⟨t,rfl⟩:=Y
   exact .cons _ _ (kW r2)
theorem o7(hc:X.calm=true:=by rfl):jw X (.builtin "sum") (λxs H Q=>∃(p:Addr) (ns:List Int),xs=[.ref p]/\SqL X.K H p (ns.map V.int)/\Q (.int ns.sum) H):=by
 intro pins s σ H xs us Q I r h
 obtain⟨p,ns,rfl,hq,q⟩:=h
 obtain⟨u,rfl,ru⟩:=vals1 r
 cases ru
 obtain⟨U,rv,pl,hz⟩:=I.list hq
 have hI:=kW rv
 obtain⟨xs,Y⟩:=hI.allInts.items
 have hn:numsOf U=ns:=hI.numsOf
 rw[show U=U.toArray.toList by simp,Y,nums_intItems] at hn
 refine sum_intListG (I.ok.hd hc) (Y▸pl.isList) λh' tk t' hk=> ?_
 rw[preSum_eq,Pu (by simp),hn]
 exact⟨.int ns.sum,H,I.kept (t':=tk) hk,⟨t',rfl⟩,q⟩
theorem IQ{bs:List Bool}{U:List Value}(Y:Vals (bs.map V.bl) U){v:Value}(h:U.toArray[i]? =some v):v=.bool (bs.getD i false):=by
 have hi:i<U.length:=by
  have:=(PJ.mp h).1
  simpa using this
 have hb:i<bs.length:=by have:=Y.length;rw[ut] at this;omega
 obtain⟨u,hu,ru⟩:=Y.get (i:=i) (x:=.bl bs[i]) (by simp[hb])
 rw[show U.toArray[i]? =U[i]? by simp,hu] at h
 cases h
 cases ru
 simp[sH,hb]
theorem all_range(bs:List Bool):(u8 bs.length).all (λi=>bs.getD i false)=bs.all id:=by
 induction bs with
 | nil=>rfl
 | cons b bs U=>
  rw[wE,Q0,Q4,Ra,Q4]
  simp only[Sx,Sg,Si,id]
  rw[U]
theorem any_range(bs:List Bool):(u8 bs.length).any (λi=>bs.getD i false)=bs.any id:=by
 induction bs with
 | nil=>rfl
 | cons b bs U=>
  rw[wE,Q0,Ry,RP,Ry]
  simp only[Sx,Sg,Si,id]
  rw[U]
theorem yL(hc:X.calm=true:=by rfl):jw X (.builtin "all") (λxs H Q=>∃(p:Addr) (bs:List Bool),xs=[.ref p]/\SqL X.K H p (bs.map V.bl)/\Q (.bl (bs.all id)) H):=by
 intro pins s σ H xs us Q I r h
 obtain⟨p,bs,rfl,hq,q⟩:=h
 obtain⟨u,rfl,ru⟩:=vals1 r
 cases ru
 obtain⟨U,rv,pl,hz⟩:=I.list hq
 have hl:=pl.isList
 have lt:p<s.heap.objs.size:=by obtain⟨_,e,_⟩:=hl;exact Heap.lt_size e
 have Y:U.toArray.size=bs.length:=by have:=rv.length;rw[ut] at this;simp;omega
 refine call_all_walk (wpAny_pyIter_list hl ?_)
 refine⟨_,_,_,_,_,_,λi=>bs.getD i false,rfl,Walks.list (A:=X.A.in1) (I.ok.hd hc) s.heap.objs.size p (Do lt) U.toArray,⟨⟨_,Heap.get?_push_size _ rfl,rfl,rfl⟩,hl.push _⟩,λi v s' Q' E' hP hQ=> ?_,λh' tk hk=> ?_⟩
 ·rw[IQ rv hP]
  exact wpAny_truthy_bool hQ
 ·rw[Y,all_range]
  refine⟨.bl (bs.all id),H,I.kept (t':=tk) λb o e=>hk b o (λz=> ?_) (Heap.get?_push_of_some _ e),rfl,q⟩
  have hb:=Heap.lt_size e
  rw[ww.mp z] at hb
  exact absurd hb (PH _)
theorem sG(hc:X.calm=true:=by rfl):jw X (.builtin "any") (λxs H Q=>∃(p:Addr) (bs:List Bool),xs=[.ref p]/\SqL X.K H p (bs.map V.bl)/\Q (.bl (bs.any id)) H):=by
 intro pins s σ H xs us Q I r h
 obtain⟨p,bs,rfl,hq,q⟩:=h
 obtain⟨u,rfl,ru⟩:=vals1 r
 cases ru
 obtain⟨U,rv,pl,hz⟩:=I.list hq
 have hl:=pl.isList
 have lt:p<s.heap.objs.size:=by obtain⟨_,e,_⟩:=hl;exact Heap.lt_size e
 have Y:U.toArray.size=bs.length:=by have:=rv.length;rw[ut] at this;simp;omega
 refine call_any_walk (wpAny_pyIter_list hl ?_)
 refine⟨_,_,_,_,_,_,λi=>bs.getD i false,rfl,Walks.list (A:=X.A.in1) (I.ok.hd hc) s.heap.objs.size p (Do lt) U.toArray,⟨⟨_,Heap.get?_push_size _ rfl,rfl,rfl⟩,hl.push _⟩,λi v s' Q' E' hP hQ=> ?_,λh' tk hk=> ?_⟩
 ·rw[IQ rv hP]
  exact wpAny_truthy_bool hQ
 ·rw[Y,any_range]
  refine⟨.bl (bs.any id),H,I.kept (t':=tk) λb o e=>hk b o (λz=> ?_) (Heap.get?_push_of_some _ e),rfl,q⟩
  have hb:=Heap.lt_size e
  rw[ww.mp z] at hb
  exact absurd hb (PH _)
end
def pick{α:Type}(xs:List α)(lo hi st:Option Int):List α:=(sliceRange (sliceBounds lo hi st xs.length).1 (sliceBounds lo hi st xs.length).2.1 (sliceBounds lo hi st xs.length).2.2).filterMap (xs[·]?)
theorem pM{xs:List V}{us:List Value}(r:Vals xs us):∀U:List Nat,Vals (U.filterMap (xs[·]?)) (U.filterMap (us[·]?))
 | []=>.nil
 | j::U=>by
  have Y:=pM r U
  cases hn:xs[j]? with
  | some x=>
   obtain⟨u,hu,ru⟩:=r.get hn
   simp only[PL,hn,hu]
   exact .cons ru Y
  | none=>
   have hv:us[j]? =none:=by
    rw[RH] at hn ⊢
    rw[<- r.length];exact hn
   simp only[PL,hn,hv]
   exact Y
def NL(K:sB):V->Option Int->Option Int->Option Int->Hp->VK->Prop:=λx lo hi st H Q=>∃a xs,x=.ref a/\SqL K H a xs/\st≠some 0/\∀p,H p=none->Q (.ref p) (upd H p (.lst (pick xs lo hi st)))
def HV(K:sB)(te:TE)(tl th ts:TO):TE:=λσ H Q=>te σ H λx H1=>tl σ H1 λl H2=>th σ H2 λu U=>ts σ U λst Y=>NL K x l u st Y Q
section
variable {X : Cx} {e se : Expr} {te : TE} {lo hi : Option Expr} {tl th ts : TO} {pos p2 : Pos}
theorem JL(he:PE X e te)(hl:PO X lo tl)(hu:PO X hi th)(hs:PO X (some se) ts):PE X (.Subscript e (.Slice lo hi (some se) p2) pos) (HV X.K te tl th ts):=by
 intro pins s σ H Q I h
 refine Subscript_ (thn (he pins s σ H _ I h) λv s1 ⟨x,H1,I1,r1,q1⟩=> ?_)
 refine wpAny_Slice (thn (hl pins s1 σ H1 _ I1 q1) λvl s2 ⟨l,H2,I2,pl,q2⟩=>thn (hu pins s2 σ H2 _ I2 q2) λvu s3 ⟨u,H3,I3,pu,q3⟩=>thn (hs pins s3 σ H3 _ I3 q3) λvs s4 ⟨st,H4,I4,ps,q4⟩=> ?_)
 have I5:Inv X pins σ H4 {s4 with heap:=s4.heap.push {cls:=.type "slice",data:=.fields #[vl,vu,vs]}}:=I4.kept (t':=s4.toks) λb ob q=>Heap.get?_push_of_some _ q
 obtain⟨a,xs,rfl,hx,h0,q⟩:=q4
 cases r1
 obtain⟨Y,r,ht,hz⟩:=I5.list hx
 have U:=r.length
 show wpAny (model X.prog X.w) X.A (subscriptTail e (.Slice lo hi (some se) p2) (.ref a) (.ref s4.heap.objs.size)) (EP X pins σ Q) X.xe {s4 with heap:=s4.heap.push {cls:=.type "slice",data:=.fields #[vl,vu,vs]}}
 refine tail_any (ops:=[.ref a,.ref s4.heap.objs.size]) ht.isList.typeIs slot_list_getitem.lookup ?_ (by with_unfolding_all rfl)
 refine wpAny_getItem_list_slice ht.isList (Heap.IsSliceOf.new ..) pl pu ps h0 ?_ (by rw[wS] <;> omega)
 have hp:slicePick Y.toArray l u st=((sliceRange (sliceBounds l u st xs.length).1 (sliceBounds l u st xs.length).2.1 (sliceBounds l u st xs.length).2.2).filterMap (Y[·]?)).toArray:=by
  unfold slicePick
  rw[wS,<- U]
  simp
 have ac:(pick xs l u st).length<=xs.length:=by
  have h1:=slicePick_size_le Y.toArray l u st
  rw[hp,wS,wS,<- U] at h1
  have h2:=(pM r (sliceRange (sliceBounds l u st xs.length).1 (sliceBounds l u st xs.length).2.1 (sliceBounds l u st xs.length).2.2)).length
  show (List.filterMap (xs[·]?) _).length<=_
  rw[h2];exact h1
 rw[hp]
 refine⟨.ref _,_,I5.laid (t':=s4.toks) (o:=.lst (pick xs l u st)) (λb ob q=>Heap.get?_push_of_some _ q) (wf _) ?_,rfl,q _ (I5.hok.fresh (wf _))⟩
 exact⟨Pk ac hz,_,0,pM r _,Heap.get?_push_size _ rfl⟩
end
section
variable {X : Cx} {tg : Expr}
end
def kY(x:Str)(lo hi:Option Int):Str:=
 if ((Builtin.Str.strSliceIndices lo hi 1 x.length).length == x.length)=true then x else ⟨((Builtin.Str.strSliceIndices lo hi 1 x.length).filterMap (x.cps[·]?)).toArray⟩
section
variable {X : Cx}
def IZ:V->Option Int->Option Int->Hp->VK->Prop:=λx lo hi H Q=>∃z,x=.str z/\z.length<=sizeLine/\Q (.str (kY z lo hi)) H
theorem Fu:SlR X IZ:=by
 intro pins s σ H x v vl vu lo hi sl Q I U Y pl pu h
 obtain⟨z,rfl,hz,q⟩:=h
 obtain⟨t,rfl⟩:=U
 refine⟨"str",_,F.slot_str_getitem.lookup,typeIs_str _ _ _, ?_⟩
 have part:∀{v:Value} {o:Option Int},IsPart v o->∃p:Option (Int×Tok),v=partValue p/\p.map (·.1)=o:=λh=>by
  cases h with
  | none=>exact⟨none,rfl,rfl⟩
  | int i t=>exact⟨some (i,t),rfl,rfl⟩
 obtain⟨l,rfl,rfl⟩:=part pl
 obtain⟨u,rfl,rfl⟩:=part pu
 refine wpAny_getItem_str_slice (l:=l) (u:=u) (st:=none) Y rfl ?_
 unfold sliceMade
 show Made.post (if (true&&((Builtin.Str.strSliceIndices (l.map (·.1)) (u.map (·.1)) 1 z.length).length == z.length))=true then _ else _) _ _
 unfold kY at q
 rw[QO]
 by_cases hc:((Builtin.Str.strSliceIndices (l.map (·.1)) (u.map (·.1)) 1 z.length).length == z.length)=true
 ·rw[if_pos hc] at q ⊢
  exact⟨.str z,H,I,⟨t,rfl⟩,q⟩
 ·rw[if_neg hc] at q ⊢
  refine⟨?_,⟨.str _,H,I.tok _,⟨_,rfl⟩,q⟩⟩
  show (PP _).size<=_
  rw[wS]
  exact Pk (Pk (List.length_filterMap_le _ _) (sliceIndices_le _ _ _)) hz
end
section
variable {X : Cx}
end
section
variable {X : Cx}
end
section
variable {X : Cx}
def isT(y:Str):Value->Bool
 | .str a _=>a == y
 | _=>false
end
section
variable {prog : Program} {w : World} {A : Around} {R : Result → Shared → Prop} {I : Addr} {fp wr : List Addr} {G : Array GenState → Array GenState → Prop} {n : Nat} {P : Nat → Value → Prop} {St : Nat → Shared → Prop}
end
section
variable {prog : Program} {w : World} {A : Around} {E : Value → Shared → Prop} {s : Shared}
end
section
variable {X : Cx} {e : Expr} {te : TE} {x y : Str} {p1 p2 q1 q2 : Pos}
end
open PySem PySem.Spec PyProof.Rows PySem.W
def iZ{α:Type}(lt:Nat->Nat->Bool):KasT α->α
 | .ret a=>a
 | .ask i j k=>iZ lt (k (lt i j))
theorem kz{α β:Type}(lt:Nat->Nat->Bool)(f:α->KasT β):∀t:KasT α,iZ lt (t.bind f)=iZ lt (f (iZ lt t))
 | .ret _=>rfl
 | .ask i j k=>kz lt f (k (lt i j))
section
variable {O : KeyOrd} (key : Nat → O.α)
def kAt(p:Array Nat)(i:Nat):O.α:=key (p.getD i 0)
abbrev ltK:Nat->Nat->Bool:=λi j=>O.blt (key i) (key j)
def eD(p:Array Nat)(m:Nat):Prop:=∀i j,i<=j->j<m->O.kle (kAt key p i) (kAt key p j)
def j0(p:Array Nat)(m:Nat):Prop:=∀i j,i<=j->j<m->O.kle (kAt key p j) (kAt key p i)
def wF(p:Array Nat)(n q:Nat):Prop:=∀i,n<=i+(q+1)->i<n->kAt key p i=kAt key p (n-1)
variable {key}
theorem tS{p U:Array Nat}(h:U[i]? =p[j]?):kAt key U i=kAt key p j:=by
 unfold kAt
 rw[Qm,Qm,h]
theorem uj(U:j<=p.size)(k:Nat):kAt key (kas_rev p i j) k=if i<=k/\k<j then kAt key p (i+j-1-k) else kAt key p k:=by
 have h:=getElem?_mirror_all (xs:=p) (i:=i) U k
 split at h
 ·rename_i c
  rw[if_pos c];exact tS h
 ·rename_i c
  rw[if_neg c];exact tS h
theorem qU(p:Array Nat)(i j:Nat):(kas_rev p i j).Perm p:=mirror_perm _ _ _ _
theorem gi(p:Array Nat)(i j:Nat):(kas_rev p i j).size=p.size:=mirror_size _ _ _ _
theorem Bz{n q:Nat}(hn:n<=p.size)(hq:q+1<=n)(h:wF key p n q)(k:Nat):kAt key (kas_rev p (n-(q+1)) n) k=kAt key p k:=by
 rw[uj hn]
 split
 ·rename_i c
  rw[h _ (by omega) (by omega),h k (by omega) (by omega)]
 ·rfl
theorem eD.more(h1:1<=n)(h:eD key p n)(hn:O.kle (kAt key p (n-1)) (kAt key p n)):eD key p (n+1):=by
 intro i j U hj
 by_cases Y:j=n
 ·subst Y
  by_cases hi:i=j
  ·subst hi;exact KeyOrd.kle_refl _
  ·exact KeyOrd.kle_trans (h i (j-1) (by omega) (by omega)) hn
 ·exact h i j U (by omega)
theorem j0.more(h1:1<=n)(h:j0 key p n)(hn:O.kle (kAt key p n) (kAt key p (n-1))):j0 key p (n+1):=by
 intro i j U hj
 by_cases Y:j=n
 ·subst Y
  by_cases hi:i=j
  ·subst hi;exact KeyOrd.kle_refl _
  ·exact KeyOrd.kle_trans hn (h i (j-1) (by omega) (by omega))
 ·exact h i j U (by omega)
theorem xP{p:Array Nat}:∀(f n:Nat),1<=n->eD key p n->∃m,iZ (ltK key) (kas_asc p f n)=m/\n<=m/\m<=n+f/\eD key p m/\(m<n+f->O.blt (kAt key p m) (kAt key p (m-1))=true)
 | 0,n,_,h=>⟨n,rfl,wf _,wf _,h,λz=>absurd z (PH _)⟩
 | f+1,n,h1,h=>by
  show ∃m,iZ (ltK key) (if O.blt (kAt key p n) (kAt key p (n-1))=true then KasT.ret n else kas_asc p f (n+1))=m/\_
  cases hc:O.blt (kAt key p n) (kAt key p (n-1)) with
  | true=>exact⟨n,rfl,wf _,by omega,h,λ_=>hc⟩
  | false=>
   obtain⟨m,e,a1,a2,U,Y⟩:=xP f (n+1) (by omega) (h.more h1 hc)
   exact⟨m,e,by omega,by omega,U,λz=>Y (by omega)⟩
theorem qE:∀(f:Nat) (p:Array Nat) (n q:Nat),1<=n->n+f<=p.size->q+1<=n->j0 key p n->wF key p n q->
 ∃Y U q',iZ (ltK key) (kas_desc f p n q)=(Y,U,q')/\Y.Perm p/\Y.size=p.size/\n<=U/\U<=n+f/\q'+1<=U/\j0 key Y U/\wF key Y U q'
 | 0,p,n,q,_,_,hq,h,he=>⟨p,n,q,rfl,.refl _,rfl,wf _,wf _,hq,h,he⟩
 | f+1,p,n,q,h1,hs,hq,h,he=>by
  have ac:∀p:Array Nat,wF key p (n+1) 0:=λp i a b=>by rw[show i=n by omega];rfl
  show ∃Y U q',iZ (ltK key) (if O.blt (kAt key p n) (kAt key p (n-1))=true then (if q>0 then kas_desc f (kas_rev p (n-(q+1)) n) (n+1) 0 else kas_desc f p (n+1) 0)
   else .ask (p.getD (n-1) 0) (p.getD n 0) λd=>if d=true then .ret (p,n,q) else kas_desc f p (n+1) (q+1))=(Y,U,q')/\_
  cases hc:O.blt (kAt key p n) (kAt key p (n-1)) with
  | true=>
   rw[if_pos rfl]
   have a2:O.kle (kAt key p n) (kAt key p (n-1)):=KeyOrd.kle_of_klt hc
   have hf:=h.more h1 a2
   by_cases ae:q>0
   ·rw[if_pos ae]
    have keep:=Bz (key:=key) (p:=p) (n:=n) (q:=q) (by omega) hq he
    have a3:j0 key (kas_rev p (n-(q+1)) n) (n+1):=λi j a b=>by rw[keep,keep];exact hf i j a b
    obtain⟨Y,U,q',e,b1,b2,b3,b4,b5,b6,b7⟩:=qE f (kas_rev p (n-(q+1)) n) (n+1) 0 (by omega) (by rw[gi];omega) (by omega) a3 (ac _)
    exact⟨Y,U,q',e,b1.trans (qU _ _ _),b2.trans (gi _ _ _),by omega,by omega,b5,b6,b7⟩
   ·rw[if_neg ae]
    obtain⟨Y,U,q',e,b1,b2,b3,b4,b5,b6,b7⟩:=qE f p (n+1) 0 (by omega) (by omega) (by omega) hf (ac _)
    exact⟨Y,U,q',e,b1,b2,by omega,by omega,b5,b6,b7⟩
  | false=>
   rw[if_neg (by simp)]
   show ∃Y U q',iZ (ltK key) (if O.blt (kAt key p (n-1)) (kAt key p n)=true then KasT.ret (p,n,q) else kas_desc f p (n+1) (q+1))=(Y,U,q')/\_
   cases hd:O.blt (kAt key p (n-1)) (kAt key p n) with
   | true=>exact⟨p,n,q,rfl,.refl _,rfl,wf _,by omega,hq,h,he⟩
   | false=>
    rw[if_neg (by simp)]
    have eq:kAt key p n=kAt key p (n-1):=O.total _ _ hc hd
    have a4:wF key p (n+1) (q+1):=λi a b=>by
     show kAt key p i=kAt key p n
     by_cases hi:i=n
     ·rw[hi]
     ·rw[eq];exact he i (by omega) (by omega)
    obtain⟨Y,U,q',e,b1,b2,b3,b4,b5,b6,b7⟩:=qE f p (n+1) (q+1) (by omega) (by omega) (by omega) (h.more h1 (by rw[eq];exact KeyOrd.kle_refl _)) a4
    exact⟨Y,U,q',e,b1,b2,by omega,by omega,b5,b6,b7⟩
theorem BR(h1:1<=n)(hn:n<=nrem)(hs:nrem<=p.size)(h:j0 key p n):
 ∃m U,iZ (ltK key) (kas_tail3 n nrem p)=(m,U)/\U.Perm p/\U.size=p.size/\1<=m/\m<=nrem/\eD key U m:=by
 have Y:eD key (kas_rev p 0 n) n:=λi j a b=>by
  rw[uj (by omega),uj (by omega),if_pos ⟨Ph _,by omega⟩,if_pos ⟨Ph _,b⟩]
  exact h _ _ (by omega) (by omega)
 obtain⟨m,e,a1,a2,a3,_⟩:=xP (nrem-n) n h1 Y
 refine⟨m,kas_rev p 0 n, ?_,qU _ _ _,gi _ _ _,by omega,by omega,a3⟩
 unfold kas_tail3
 rw[kz,e]
 rfl
theorem yq(h1:1<=n)(hn:n+1<=nrem)(hs:nrem<=p.size)(h:j0 key p (n+1)):
 ∃m U,iZ (ltK key) (kas_descPart n nrem p)=(m,U)/\U.Perm p/\U.size=p.size/\1<=m/\m<=nrem/\eD key U m:=by
 obtain⟨p1,Y,q1,e,b1,b2,b3,b4,b5,b6,b7⟩:=qE (key:=key) (nrem-(n+1)) p (n+1) 0 (by omega) (by omega) (by omega) h (λi a b=>by rw[show i=n by omega];rfl)
 unfold kas_descPart
 rw[kz,e]
 dsimp only
 by_cases hq:q1>0
 ·rw[if_pos hq]
  have keep:=Bz (key:=key) (p:=p1) (n:=Y) (q:=q1) (by omega) b5 b7
  obtain⟨m,U,e2,c1,c2,c3,c4,c5⟩:=BR (key:=key) (p:=kas_rev p1 (Y-(q1+1)) Y) (n:=Y) (nrem:=nrem) (by omega) (by omega) (by rw[gi];omega) (λi j a b=>by rw[keep,keep];exact b6 i j a b)
  exact⟨m,U,e2,c1.trans ((qU _ _ _).trans b1),c2.trans ((gi _ _ _).trans b2),c3,c4,c5⟩
 ·rw[if_neg hq]
  obtain⟨m,U,e2,c1,c2,c3,c4,c5⟩:=BR (key:=key) (p:=p1) (n:=Y) (nrem:=nrem) (by omega) (by omega) (by omega) b6
  exact⟨m,U,e2,c1.trans b1,c2.trans b2,c3,c4,c5⟩
theorem E3(h1:1<=nrem)(hs:nrem<=p.size):
 ∃m p',iZ (ltK key) (kas_count nrem p)=(m,p')/\p'.Perm p/\p'.size=p.size/\1<=m/\m<=nrem/\eD key p' m:=by
 have s1:eD key p 1:=λi j a b=>by rw[show i=j by omega];exact KeyOrd.kle_refl _
 obtain⟨n,e,a1,a2,a3,a4⟩:=xP (key:=key) (p:=p) (nrem-1) 1 (wf _) s1
 unfold kas_count
 rw[kz,e]
 by_cases hn:n=nrem
 ·rw[if_pos (by simpa using hn)]
  exact⟨n,p,rfl,.refl _,rfl,a1,by omega,a3⟩
 ·rw[if_neg (by simpa using hn)]
  have ac:=a4 (by omega)
  by_cases h2:n>1
  ·rw[if_pos h2]
   show ∃m p',iZ (ltK key) (if O.blt (kAt key p 0) (kAt key p (n-1))=true then KasT.ret (n,p) else kas_descPart n nrem (kas_rev p 0 n))=(m,p')/\_
   cases hc:O.blt (kAt key p 0) (kAt key p (n-1)) with
   | true=>exact⟨n,p,rfl,.refl _,rfl,a1,by omega,a3⟩
   | false=>
    rw[if_neg (by simp)]
    have same:∀i,i<n->kAt key p i=kAt key p (n-1):=λi hi=>by
     refine KeyOrd.kle_antisymm (a3 i (n-1) (by omega) (by omega)) ?_
     exact KeyOrd.kle_trans (show O.kle (kAt key p (n-1)) (kAt key p 0) from hc) (a3 0 i (Ph _) hi)
    have U:∀i,i<=n->kAt key (kas_rev p 0 n) i=kAt key p i:=λi hi=>by
     rw[uj (by omega)]
     split
     ·rename_i c
      rw[same _ (by omega),same i (by omega)]
     ·rfl
    have Y:j0 key (kas_rev p 0 n) (n+1):=by
     refine j0.more (by omega) (λi j a b=> ?_) ?_
     ·rw[U i (by omega),U j (by omega),same i (by omega),same j (by omega)];exact KeyOrd.kle_refl _
     ·rw[U n (wf _),U (n-1) (by omega)];exact KeyOrd.kle_of_klt ac
    obtain⟨m,p',e2,c1,c2,c3,c4,c5⟩:=yq (key:=key) (p:=kas_rev p 0 n) (n:=n) (nrem:=nrem) (by omega) (by omega) (by rw[gi];omega) Y
    exact⟨m,p',e2,c1.trans (qU _ _ _),c2.trans (gi _ _ _),c3,c4,c5⟩
  ·rw[if_neg h2]
   obtain rfl:n=1:=by omega
   have Y:j0 key p (1+1):=j0.more (wf _) (λi j a b=>by rw[show i=j by omega];exact KeyOrd.kle_refl _) (KeyOrd.kle_of_klt ac)
   exact yq (by omega) (by omega) hs Y
theorem tH{p:Array Nat}{k:Nat}(U:eD key p k):∀(f l r:Nat),l<=r->r<=k->r-l<=f->(∀i,i<l->O.kle (kAt key p i) (kAt key p k))->(∀i,r<=i->i<k->O.kle (kAt key p k) (kAt key p i))->
 ∃m,iZ (ltK key) (kas_place p k f l r)=m/\m<=k/\(∀i,i<m->O.kle (kAt key p i) (kAt key p k))/\(∀i,m<=i->i<k->O.kle (kAt key p k) (kAt key p i))
 | 0,l,r,a,b,c,h1,h2=>⟨l,rfl,by omega,h1,λi hi hk=>h2 i (by omega) hk⟩
 | f+1,l,r,a,b,c,h1,h2=>by
  unfold kas_place
  by_cases Y:l ≥ r
  ·rw[if_pos Y]
   exact⟨l,rfl,by omega,h1,λi hi hk=>h2 i (by omega) hk⟩
  ·rw[if_neg Y]
   show ∃m,iZ (ltK key) (if O.blt (kAt key p k) (kAt key p ((l+r)/2))=true then kas_place p k f l ((l+r)/2) else kas_place p k f ((l+r)/2+1) r)=m/\_
   cases hc:O.blt (kAt key p k) (kAt key p ((l+r)/2)) with
   | true=>
    rw[if_pos rfl]
    exact tH U f l ((l+r)/2) (by omega) (by omega) (by omega) h1 λi hi hk=>KeyOrd.kle_trans (KeyOrd.kle_of_klt hc) (U _ _ hi hk)
   | false=>
    rw[if_neg (by simp)]
    exact tH U f ((l+r)/2+1) r (by omega) b (by omega) (λi hi=>KeyOrd.kle_trans (U i ((l+r)/2) (by omega) (by omega)) hc) h2
theorem CP:∀(f:Nat) (p:Array Nat) (k:Nat),k+f<=p.size->eD key p k->∃U,iZ (ltK key) (kas_bin f p k)=U/\U.Perm p/\U.size=p.size/\eD key U (k+f)
 | 0,p,k,_,h=>⟨p,rfl,.refl _,rfl,h⟩
 | f+1,p,k,hk,h=>by
  obtain⟨m,e,m1,m2,m3⟩:=tH h k 0 k (Ph _) (wf _) (by omega) (λi hi=>absurd hi (by omega)) (λi a b=>absurd b (by omega))
  have at_:∀i,kAt key (bubble p k (k-m)) i=if i=m then kAt key p k else if m<i/\i<=k then kAt key p (i-1) else kAt key p i:=λi=>by
   have g:=getElem?_bubble (xs:=p) (src:=k) (by omega) (k-m) (by omega) i
   rw[show k-(k-m)=m by omega] at g
   split at g
   ·rename_i c;rw[if_pos c];exact tS g
   ·rename_i c
    rw[if_neg c]
    split at g
    ·rename_i d;rw[if_pos d];exact tS g
    ·rename_i d;rw[if_neg d];exact tS g
  have so:eD key (bubble p k (k-m)) (k+1):=λi j a b=>by
   rw[at_,at_]
   by_cases hi:i=m
   ·rw[if_pos hi]
    by_cases Y:j=m
    ·rw[if_pos Y];exact KeyOrd.kle_refl _
    ·rw[if_neg Y,if_pos (by omega)];exact m3 _ (by omega) (by omega)
   ·rw[if_neg hi]
    by_cases ab:m<i/\i<=k
    ·rw[if_pos ab,if_neg (by omega),if_pos (by omega)]
     exact h _ _ (by omega) (by omega)
    ·rw[if_neg ab]
     by_cases Y:j=m
     ·rw[if_pos Y];exact m2 i (by omega)
     ·rw[if_neg Y]
      by_cases ac:m<j/\j<=k
      ·rw[if_pos ac];exact h _ _ (by omega) (by omega)
      ·rw[if_neg ac];exact h _ _ a (by omega)
  obtain⟨U,e2,c1,c2,c3⟩:=CP f (bubble p k (k-m)) (k+1) (by rw[bubble_size];omega) so
  refine⟨U, ?_,c1.trans (bubble_perm _ _ _),c2.trans (bubble_size _ _ _), ?_⟩
  ·unfold kas_bin
   rw[kz,e]
   exact e2
  ·rw[show k+(f+1)=k+1+f by omega];exact c3
theorem vO(h1:1<=n):∃p,iZ (ltK key) (kas_sort n)=p/\p.Perm (PP (u8 n))/\p.size=n/\eD key p n:=by
 have sz:(PP (u8 n)).size=n:=by simp
 obtain⟨m,p1,e,U,a2,a3,a4,Y⟩:=E3 (key:=key) (p:=PP (u8 n)) (nrem:=n) h1 (by omega)
 unfold kas_sort
 rw[kz,e]
 dsimp only
 by_cases hm:m<n
 ·rw[if_pos hm,Nat.max_eq_left a3]
  obtain⟨p2,e2,b1,b2,b3⟩:=CP (key:=key) (n-m) p1 m (by omega) Y
  exact⟨p2,e2,b1.trans U,by omega,by rw[show m+(n-m)=n by omega] at b3;exact b3⟩
 ·rw[if_neg hm]
  obtain rfl:m=n:=by omega
  exact⟨p1,rfl,U,by omega,Y⟩
end
theorem lex_irrefl:∀a:List Int,HT.lexLt a a=false
 | []=>rfl
 | x::a=>by rw[HT.nS,if_pos rfl];exact lex_irrefl a
theorem lex_trans:∀a b c:List Int,HT.lexLt a b=true->HT.lexLt b c=true->HT.lexLt a c=true
 | [],[],_,h,_=>by cases h
 | [],_::_,[],_,h=>by cases h
 | [],_::_,_::_,_,_=>rfl
 | _::_,[],_,h,_=>by cases h
 | _::_,_::_,[],_,h=>by cases h
 | x::a,y::b,z::c,h1,h2=>by
  rw[HT.nS] at h1 h2 ⊢
  by_cases e1:x=y
  ·by_cases e2:y=z
   ·rw[if_pos e1] at h1
    rw[if_pos e2] at h2
    rw[if_pos (e1.trans e2)]
    exact lex_trans a b c h1 h2
   ·rw[if_neg e2] at h2
    rw[e1,if_neg e2];exact h2
  ·rw[if_neg e1] at h1
   have U:=of_decide_eq_true h1
   by_cases e2:y=z
   ·rw[<- e2,if_neg e1];exact h1
   ·rw[if_neg e2] at h2
    have Y:=of_decide_eq_true h2
    rw[if_neg (by omega)];exact decide_eq_true (by omega)
theorem pB:∀a b:List Int,HT.lexLt a b=false->HT.lexLt b a=false->a=b
 | [],[],_,_=>rfl
 | [],_::_,h,_=>by cases h
 | _::_,[],_,h=>by cases h
 | x::a,y::b,h1,h2=>by
  rw[HT.nS] at h1 h2
  by_cases e:x=y
  ·rw[if_pos e] at h1
   rw[if_pos e.symm] at h2
   rw[e,pB a b h1 h2]
  ·rw[if_neg e] at h1
   rw[if_neg (P0 e)] at h2
   have U:=of_decide_eq_false h1
   have Y:=of_decide_eq_false h2
   omega
def Mx:KeyOrd where
 α:=List Int
 blt:=HT.lexLt
 irrefl:=lex_irrefl
 trans:=lex_trans
 negTrans:=λa b c h=>by
  cases h1:HT.lexLt a b with
  | true=>exact .inl rfl
  | false=>
   right
   cases h2:HT.lexLt b c with
   | true=>rfl
   | false=>
    cases h3:HT.lexLt b a with
    | true=>
     have:=lex_trans b a c h3 h
     rw[h2] at this;cases this
    | false=>
     have:=pB a b h1 h3
     subst this
     rw[h] at h2;cases h2
 total:=pB
def Lv{α:Type}(N:Nat)(P:α->Prop):KasT α->Prop
 | .ret a=>P a
 | .ask i j k=>i<N/\j<N/\∀b,Lv N P (k b)
theorem Lv.bind{α β:Type}{N:Nat}{P:α->Prop}{P':β->Prop}{f:α->KasT β}(U:∀a,P a->Lv N P' (f a)):∀{t:KasT α},Lv N P t->Lv N P' (t.bind f)
 | .ret a,h=>U a h
 | .ask i j k,h=>⟨h.1,h.2.1,λb=>Lv.bind U (h.2.2 b)⟩
def Und(N:Nat)(p:Array Nat):Prop:=∀i,p.getD i 0<N
theorem Und.of{p U:Array Nat}(h:Und N p)(hp:∀i:Nat,∃j:Nat,U[i]? =p[j]?):Und N U:=λi=>by
 obtain⟨j,e⟩:=hp i
 have:=h j
 rw[Qm] at this ⊢
 rw[e];exact this
theorem Und.rev(h:Und N p)(U:j<=p.size):Und N (kas_rev p i j):=h.of λk=>by
 have g:=getElem?_mirror_all (xs:=p) (i:=i) U k
 split at g
 ·exact⟨_,g⟩
 ·exact⟨_,g⟩
theorem Und.bub(h:Und N p){k d:Nat}(hk:k<p.size)(hd:d<=k):Und N (bubble p k d):=h.of λi=>by
 have g:=getElem?_bubble (xs:=p) hk d hd i
 split at g
 ·exact⟨_,g⟩
 ·split at g
  ·exact⟨_,g⟩
  ·exact⟨_,g⟩
theorem Ab{N:Nat}{p:Array Nat}(h:Und N p):∀(f n:Nat),Lv N (λm=>n<=m/\m<=n+f) (kas_asc p f n)
 | 0,n=>⟨wf _,wf _⟩
 | f+1,n=>⟨h _,h _,λb=>by
  cases b with
  | true=>exact⟨wf _,by omega⟩
  | false=>
   have:=Lv.bind (f:=KasT.ret) (P':=λm=>n<=m/\m<=n+(f+1)) (λa ha=>(⟨by omega,by omega⟩:n<=a/\a<=n+(f+1))) (Ab h f (n+1))
   rw[show (kas_asc p f (n+1)).bind KasT.ret=kas_asc p f (n+1) from bind_ret _] at this
   exact this⟩
where bind_ret {α:Type}:∀t:KasT α,t.bind KasT.ret=t
  | .ret _=>rfl
  | .ask i j k=>congrArg (KasT.ask i j) (funext λb=>bind_ret (k b))
theorem Lv.mono{α:Type}{N:Nat}{P P':α->Prop}(h:∀a,P a->P' a):∀{t:KasT α},Lv N P t->Lv N P' t
 | .ret a,x=>h a x
 | .ask i j k,x=>⟨x.1,x.2.1,λb=>Lv.mono h (x.2.2 b)⟩
theorem t6{N S:Nat}:∀(f:Nat) (p:Array Nat) (n q:Nat),p.size=S->n+f<=S->Und N p->Lv N (λr:Array Nat×Nat×Nat=>r.1.size=S/\Und N r.1/\n<=r.2.1/\r.2.1<=n+f) (kas_desc f p n q)
 | 0,p,n,q,hz,_,h=>⟨hz,h,wf _,wf _⟩
 | f+1,p,n,q,hz,hs,h=>⟨h _,h _,λc=>by
  have U:∀{t:KasT (Array Nat×Nat×Nat)},Lv N (λr:Array Nat×Nat×Nat=>r.1.size=S/\Und N r.1/\n+1<=r.2.1/\r.2.1<=n+1+f) t->Lv N (λr:Array Nat×Nat×Nat=>r.1.size=S/\Und N r.1/\n<=r.2.1/\r.2.1<=n+(f+1)) t:=
   Lv.mono λr ⟨a,b,c,d⟩=>⟨a,b,by omega,by omega⟩
  cases c with
  | true=>
   show Lv N _ (if q>0 then kas_desc f (kas_rev p (n-(q+1)) n) (n+1) 0 else kas_desc f p (n+1) 0)
   split
   ·exact U (t6 f _ (n+1) 0 (by rw[gi];exact hz) (by omega) (h.rev (by omega)))
   ·exact U (t6 f p (n+1) 0 hz (by omega) h)
  | false=>
   refine⟨h _,h _,λd=> ?_⟩
   cases d with
   | true=>exact⟨hz,h,wf _,RQ _ _⟩
   | false=>exact U (t6 f p (n+1) (q+1) hz (by omega) h)⟩
theorem Dd(hz:p.size=S)(hn:n<=nrem)(U:nrem<=S)(h:Und N p):Lv N (λr:Nat×Array Nat=>r.2.size=S/\Und N r.2/\r.1<=nrem) (kas_tail3 n nrem p):=by
 have h':Und N (kas_rev p 0 n):=h.rev (by omega)
 exact Lv.bind (f:=λm=>KasT.ret (m,kas_rev p 0 n)) (P':=λr:Nat×Array Nat=>r.2.size=S/\Und N r.2/\r.1<=nrem) (λm hm=>(⟨by rw[gi];exact hz,h',by have:=hm.2;show m<=nrem;omega⟩:(kas_rev p 0 n).size=S/\Und N (kas_rev p 0 n)/\m<=nrem)) (Ab h' (nrem-n) n)
theorem A0(hz:p.size=S)(hn:n+1<=nrem)(U:nrem<=S)(h:Und N p):Lv N (λr:Nat×Array Nat=>r.2.size=S/\Und N r.2/\r.1<=nrem) (kas_descPart n nrem p):=by
 refine Lv.bind (λr Y=> ?_) (t6 (nrem-(n+1)) p (n+1) 0 hz (by omega) h)
 obtain⟨a,b,c,d⟩:=Y
 split
 ·exact Dd (by rw[gi];exact a) (by omega) U (b.rev (by omega))
 ·exact Dd a (by omega) U b
theorem GY(hz:p.size=S)(h1:1<=nrem)(Y:nrem<=S)(h:Und N p):Lv N (λr:Nat×Array Nat=>r.2.size=S/\Und N r.2/\r.1<=nrem) (kas_count nrem p):=by
 refine Lv.bind (λn hn=> ?_) (Ab h (nrem-1) 1)
 split
 ·exact⟨hz,h,by omega⟩
 ·rename_i U
  have U:¬n=nrem:=by simpa using U
  split
  ·refine⟨h _,h _,λc=> ?_⟩
   cases c with
   | true=>exact⟨hz,h,by omega⟩
   | false=>exact A0 (by rw[gi];exact hz) (by omega) Y (h.rev (by omega))
  ·exact A0 hz (by omega) Y h
theorem vM{N:Nat}{p:Array Nat}{k:Nat}(h:Und N p):∀(f l r:Nat),l<=k->r<=k->Lv N (λm=>m<=k) (kas_place p k f l r)
 | 0,l,r,a,b=>a
 | f+1,l,r,a,b=>by
  unfold kas_place
  split
  ·exact a
  ·refine⟨h _,h _,λc=> ?_⟩
   cases c with
   | true=>exact vM h f l ((l+r)/2) a (by omega)
   | false=>exact vM h f ((l+r)/2+1) r (by omega) b
theorem Fn{N S:Nat}:∀(f:Nat) (p:Array Nat) (k:Nat),p.size=S->k+f<=S->Und N p->Lv N (λU:Array Nat=>U.size=S) (kas_bin f p k)
 | 0,p,k,hz,_,_=>hz
 | f+1,p,k,hz,hk,h=>Lv.bind (λm hm=>Fn f _ (k+1) (by rw[bubble_size];exact hz) (by omega) (h.bub (by omega) (by omega))) (vM h k 0 k (Ph _) (wf _))
theorem Le(h1:1<=n):Lv n (λp:Array Nat=>p.size=n) (kas_sort n):=by
 have sz:(PP (u8 n)).size=n:=by simp
 have U:Und n (PP (u8 n)):=λi=>by
  rw[Qm,List.getElem?_toArray]
  by_cases hi:i<n
  ·simp[hi]
  ·rw[QK (by simpa using hi)];exact h1
 refine Lv.bind (λr Y=> ?_) (GY sz h1 (wf _) U)
 obtain⟨a,b,c⟩:=Y
 split
 ·exact Fn _ _ _ a (by omega) b
 ·exact a
theorem BA{α:Type}{N:Nat}{P:α->Prop}{lt:Nat->Nat->Bool}{U:Nat->Nat->(Bool->Shared->Prop)->Shared->Prop}{Q:α->Shared->Prop}{s:Shared}(hc:∀i j C,i<N->j<N->C (lt i j) s->U i j C s):
 ∀(t:KasT α),Lv N P t->Q (iZ lt t) s->t.kasWp U Q s
 | .ret a,_,h=>h
 | .ask i j k,l,h=>hc i j _ l.1 l.2.1 (BA hc (k (lt i j)) (l.2.2 _) h)
section
open PySem.SeqAt
open PySem.AutoSeq1 (wpAny_loadPart')
open PySem.MeetsSeq PySem.MeetsSeq2 PySem.MeetsSeq3
theorem ints_get(h:IntsAre vs ns)(hi:i<ns.length):∃t,vs[i]? =some (.int ns[i] t):=by
 have U:=h.length
 have e:vs[i]? =some vs[i]:=uX (by omega)
 obtain⟨t,q⟩:=h.int_at i _ e
 refine⟨t, ?_⟩
 rw[e,q]
 simp[sH,hi]
theorem GZ(l b:Addr)(Y U:Array Value)(n n2:Nat)(dd a1:Option Addr)(sl a2:Array (Option Value))(ns ms:List Int)(hi:IntsAre Y.toList ns)(hj:IntsAre U.toList ms)(k:Nat):
 ∀i:Nat,ns.length-i=k->i<=ns.length->i<=ms.length->Meets (Builtin.«list.__eq__.loop» ⟨[.ref l,.ref b,rawInt i,rawInt 0],[]⟩)
  (λ_ R s=>s.heap.get? l=some {cls:=.type "list",dict:=dd,data:=.seq Y n,slots:=sl}/\s.heap.get? b=some {cls:=.type "list",dict:=a1,data:=.seq U n2,slots:=a2}/\
   R (.ok (.ret (.bool (HT.lexLt (ns.drop i) (ms.drop i))))) s):=by
 have z1:Y.size=ns.length:=by rw[<- hi.length];simp
 have z2:U.size=ms.length:=by rw[<- hj.length];simp
 have ae:∀i:Nat,i<=ns.length->i<=ms.length->(i=ns.length\/i=ms.length)->HT.lexLt (ns.drop i) (ms.drop i)=decide (Y.size<U.size):=by
  intro i h1 h2 h3
  by_cases e1:i=ns.length
  ·rw[e1,RS]
   by_cases e2:ns.length=ms.length
   ·rw[e2,RS];exact(decide_eq_false (by omega)).symm
   ·rw[Pw (by omega)];exact(decide_eq_true (by omega)).symm
  ·have e2:i=ms.length:=by omega
   rw[e2,RS,Pw (by omega)];exact(decide_eq_false (by omega)).symm
 induction k with
 | zero=>
  intro i hk h1 h2 prog w A R s h
  obtain⟨hp,g,d,tk,os⟩:=s;obtain⟨hl,hb,h⟩:=h
  have a3:i=ns.length:=by omega
  wp_walk using wpAny_loadPart' hl,wpAny_loadPart' hb
  have ab:Y[((i:Nat):Int).toNat]? =none:=by simp;omega
  rw[ab]
  rw[ae i h1 h2 (.inl a3)] at h
  wp_walk using wpAny_loadPart' hl,wpAny_loadPart' hb
  exact h
 | succ k ih=>
  intro i hk h1 h2 prog w A R s h
  obtain⟨hp,g,d,tk,os⟩:=s;obtain⟨hl,hb,h⟩:=h
  have ap:i<ns.length:=by omega
  obtain⟨t,et⟩:=ints_get hi ap
  have ab:Y[((i:Nat):Int).toNat]? =some (.int ns[i] t):=by rw[Q7] at et;simpa using et
  by_cases az:i<ms.length
  ·obtain⟨u,eu⟩:=ints_get hj az
   have ac:U[((i:Nat):Int).toNat]? =some (.int ms[i] u):=by rw[Q7] at eu;simpa using eu
   wp_walk using wpAny_loadPart' hl,wpAny_loadPart' hb
   rw[ab,ac]
   rw[Pw ap,Pw az,HT.nS] at h
   have hc:((i:Int)+1)=((i+1:Nat):Int):=by push_cast;rfl
   obtain⟨e,he,an⟩:=HT.Hb A.in1 ⟨hp,g,d,tk,os⟩ ns[i] t ms[i] u
   refine wpAny_bind (he prog w _ _ ?_)
   cases e with
   | true=>
    rw[if_pos (an.mp rfl)] at h
    wp_walk
    rw[hc]
    exact⟨plainId_quiet plain_eq_loop _,codeAny_builtin entry_eq_loop (by
     rw[Around.under_plainId plain_eq_loop _]
     exact ih (i+1) (by omega) (by omega) (by omega) prog w A R _ ⟨hl,hb,h⟩)⟩
   | false=>
    rw[if_neg (λq=>absurd (an.mpr q) x0)] at h
    have a4:=HT.Au A.in1 ⟨hp,g,d,tk,os⟩ ns[i] t ms[i] u prog w
    wp_walk using wpAny_loadPart' hl,wpAny_loadPart' hb
    rw[ab,ac]
    wp_walk using a4
    exact h
  ·have ac:U[((i:Nat):Int).toNat]? =none:=by simp;omega
   wp_walk using wpAny_loadPart' hl,wpAny_loadPart' hb
   rw[ab,ac]
   rw[ae i h1 h2 (.inr (by omega))] at h
   wp_walk using wpAny_loadPart' hl,wpAny_loadPart' hb
   exact h
theorem Iq(l b:Addr)(Y U:Array Value)(n n2:Nat)(dd ab:Option Addr)(sl ac:Array (Option Value))(ns ms:List Int)(hi:IntsAre Y.toList ns)(hj:IntsAre U.toList ms):
 Meets (Builtin.«list.__lt__» ⟨[.ref l,.ref b],[]⟩)
  (λ_ R s=>s.heap.get? l=some {cls:=.type "list",dict:=dd,data:=.seq Y n,slots:=sl}/\s.heap.get? b=some {cls:=.type "list",dict:=ab,data:=.seq U n2,slots:=ac}/\
   R (.ok (.ret (.bool (HT.lexLt ns ms)))) s):=by
 intro prog w A R s h
 obtain⟨hp,g,d,tk,os⟩:=s;obtain⟨hl,hb,h⟩:=h
 have f2:=AutoSeq1.sub_list_list
 wp_walk using wpAny_loadPart' hl,wpAny_loadPart' hb
 exact⟨plainId_quiet plain_eq_loop _,codeAny_builtin entry_eq_loop (by
  rw[Around.under_plainId plain_eq_loop _]
  exact GZ l b Y U n n2 dd ab sl ac ns ms hi hj _ 0 rfl (Ph _) (Ph _) prog w A R _ ⟨hl,hb,by simpa using h⟩)⟩
end
section
variable {prog : Program} {w : World} {A : Around} {E : Value → Shared → Prop} {s : Shared}
theorem B9 {l b:Addr} {Y U:Array Value} {ns ms:List Int} {Q:Bool->Shared->Prop} (hl:s.heap.IsList l Y) (hb:s.heap.IsList b U) (hi:IntsAre Y.toList ns) (hj:IntsAre U.toList ms) (hu:A.units<cLine)
 (h:Q (HT.lexLt ns ms) s):wpAny (model prog w) A (keyLt' oneType' (.ref l) (.ref b)) Q E s:=by
 obtain⟨⟨cls,dd,data,sl⟩,ho,hc,n,hd⟩:=id hl
 obtain⟨⟨az,am,data2,an⟩,ap,ab,n2,ac⟩:=id hb
 dsimp only at hc hd ab ac
 subst hc hd ab ac
 rw[keyLt'_oneType,oneLt'_eq]
 simp only[if_true]
 refine wpAny_bind (wpAny_cRoomFor hu ?_)
 refine wpAny_bind (wpAny_callSpecialIfBound?_slot ⟨_,ho,rfl⟩ Sa (call_meets Sa ⟨_,ho,rfl⟩ PySem.F.entry_list_lt (PySem.F.args_list_lt_2 _ _) (Iq l b Y U n n2 dd am sl an ns ms hi hj) ⟨ho,ap, ?_⟩))
 exact wpAny_truthy_bool h
end
section
variable {prog : Program} {w : World} {A : Around} {E : Value → Shared → Prop} {s : Shared}
abbrev AE(nss:List (List Int)):Nat->Mx.α:=λi=>nss.getD i []
def pb(vs:List Value)(p:Array Nat):Array Value:=(p.toList.map λi=>vs.getD i Value.none).toArray
def Nl(h:Heap)(vs:List Value)(nss:List (List Int))(a:Addr):Prop:=∀i,i<vs.length->∃(l:Addr) (U:Array Value),vs.getD i Value.none=.ref l/\l≠a/\h.IsList l U/\IntsAre U.toList (nss.getD i [])
theorem Cr(vs:List Value):pb vs (PP (u8 vs.length))=vs.toArray:=by
 unfold pb
 congr 1
 refine Q6 (by simp) λi h1 h2=> ?_
 simp[sH,h2]
theorem LO {nss:List (List Int)} {P:PySem.Fin->Shared->Prop} (ho:s.heap.get? a=some (seqObj "list" vs.toArray n)) (a5:vs.length<64) (hu:A.units<cLine) (ab:Nl s.heap vs nss a)
 (h:∀p:Array Nat,p.Perm (PP (u8 vs.length))->eD (AE nss) p vs.length->P (.done (.ret .none)) {s with heap:=sortedHeap s.heap a vs (pb vs p)}):
 wpAny (model prog w) A (Builtin.«list.sort» ⟨[.ref a],[]⟩) P E s:=by
 rw[list_sort_plain]
 have ha:a<s.heap.objs.size:=Heap.lt_size ho
 have ac:vs.length<=sizeLine:=by rw[sizeLine_eq];omega
 refine wpAny_bind (listItems_at ho rfl ?_)
 refine wpAny_bind (listUpdate_at ho rfl ?_ (by rw[wS];exact ac) (Ph _))
 obtain⟨e1,ho1⟩:∃e1,(s.heap.update a (Obj.mapSeq λ_=> #[])).get? a=some (seqObj "list" #[] e1):=⟨_,get?_update_seq ho (λ_=> #[])⟩
 refine wpAny_bind (seqEpoch_at ho1 rfl ?_)
 refine wpAny_bind (wpAny_newTuple ?_ ac)
 refine wpAny_bind (wpAny_newList ?_ (Ph _))
 refine wpAny_holding ?_
 have old:∀b o,b≠a->s.heap.get? b=some o->(((s.heap.update a (Obj.mapSeq λ_=> #[])).push (seqObj "tuple" vs.toArray 0)).push (seqObj "list" #[] 0)).get? b=some o:=λb o hb e=>
  Heap.get?_push_of_some _ (Heap.get?_push_of_some _ ((Heap.get?_update_ne _ _ _ _ hb).trans e))
 have Y:(((s.heap.update a (Obj.mapSeq λ_=> #[])).push (seqObj "tuple" vs.toArray 0)).push (seqObj "list" #[] 0)).get? a=some (seqObj "list" #[] e1):=Heap.get?_push_of_some _ (Heap.get?_push_of_some _ ho1)
 show wpAny (model prog w) A _ P E {s with heap:=((s.heap.update a (Obj.mapSeq λ_=> #[])).push (seqObj "tuple" vs.toArray 0)).push (seqObj "list" #[] 0)}
 dsimp only
 by_cases h2:vs.toArray.size<2
 ·have ae:=h (PP (u8 vs.length)) (Array.Perm.refl _) λi j b1 hj=>by
   have:i=j:=by rw[wS] at h2;omega
   subst this;exact KeyOrd.kle_refl _
  rw[Cr] at ae
  rw[if_pos h2,if_pos h2]
  refine wpAny_bind (wpAny_pure ?_)
  rw[StateT.run_pure]
  refine wpAny_bind (wpAny_pure ?_)
  dsimp only
  have hz:(Array.map (λx:Keyed=>x.2) (vs.toArray.zip vs.toArray))=vs.toArray:=by
   apply RT.mp
   rw[SJ,Array.toList_zip]
   exact List.map_snd_zip (wf _)
  refine wpAny_bind (seqEpoch_at Y rfl ?_)
  show wpAny (model prog w) A (Builtin.List.listUpdate (.ref a) (λ_=>Array.map (λx:Keyed=>x.2) (vs.toArray.zip vs.toArray)) >>= _) P E _
  rw[hz]
  refine wpAny_bind (listUpdate_at Y rfl ?_ (Ph _) (by rw[wS];omega))
  simp only[bne_self_eq_false,QC,if_false]
  exact wpAny_pure ae
 ·rw[if_neg h2,if_neg h2]
  have l2:2<=vs.length:=by rw[wS] at h2;omega
  obtain⟨p0,e0,q1,q2,q3⟩:=vO (key:=AE nss) (n:=vs.length) (by omega)
  refine wpAny_bind (kas_kind (T:=.type "list") l2 (λv hv=> ?_) (by decide) (by decide) ?_)
  ·obtain⟨i,hi,rfl⟩:=Py hv
   obtain⟨l,bb,el,la,il,_⟩:=ab i hi
   rw[sH,uX hi] at el
   rw[show vs[i]=.ref l from el]
   intro A Q E s' k q
   obtain⟨o,bi,hc,_⟩:=il
   exact wpAny_typeOf (T:="list") ⟨o,k _ _ (old _ _ la bi),hc⟩ q
  have bm:SortSt.mk' oneType' (vs.toArray.zip vs.toArray) #[] 7 none=kas_st oneType' (pairsOf vs) (PP (u8 vs.length)):=by
   have e:=kas_range (pairsOf vs)
   rw[pairsOf_size] at e
   show SortSt.mk' oneType' (pairsOf vs) #[] 7 none=SortSt.mk' oneType' ((PP (u8 vs.length)).map (kas_item (pairsOf vs))) #[] 7 none
   rw[e]
  have ask:(kas_sort vs.length).kasWp (kas_ask prog w A oneType' vs) (λp s'=>p=p0/\s'={s with heap:=((s.heap.update a (Obj.mapSeq λ_=> #[])).push (seqObj "tuple" vs.toArray 0)).push (seqObj "list" #[] 0)})
   {s with heap:=((s.heap.update a (Obj.mapSeq λ_=> #[])).push (seqObj "tuple" vs.toArray 0)).push (seqObj "list" #[] 0)}:=by
   refine BA (lt:=ltK (AE nss)) (λi j C hi hj hC=> ?_) _ (Le (by omega)) ⟨e0,rfl⟩
   obtain⟨l,bb,el,la,il,ii⟩:=ab i hi
   obtain⟨m,bv,em,ma,im,ij⟩:=ab j hj
   unfold kas_ask
   rw[el,em]
   have up:∀{x:Addr} {xs:Array Value},x≠a->s.heap.IsList x xs->(((s.heap.update a (Obj.mapSeq λ_=> #[])).push (seqObj "tuple" vs.toArray 0)).push (seqObj "list" #[] 0)).IsList x xs:=λhx ⟨o,e,r⟩=>⟨o,old _ _ hx e,r⟩
   exact B9 (up la il) (up ma im) ii ij hu hC
  rw[kas_ask_eq] at ask
  have run:=kas_runs (E:=E) (Q:=λ_ U s'=>arrOf U=p0.map (kas_item (pairsOf vs))/\failedOf U=none/\s'={s with heap:=((s.heap.update a (Obj.mapSeq λ_=> #[])).push (seqObj "tuple" vs.toArray 0)).push (seqObj "list" #[] 0)})
   l2 a5 (λp' U s' a1 a2 a3 a4=>⟨by rw[a2,a4.1],a3,a4.2⟩) ask
  rw[<- bm] at run
  refine wpAny_bind (wpAny_mono run ?_ λ_ _ e=>e)
  rintro ⟨⟨⟩,U⟩ s' ⟨bn,hf,rfl⟩
  dsimp only
  have am:(arrOf U).map (·.2)=pb vs p0:=by
   apply RT.mp
   rw[bn,Array.map_map,SJ]
   exact Rl λi _=>by show (kas_item (pairsOf vs) i).2=_;rw[kas_item_eq]
  rw[am]
  refine wpAny_bind (seqEpoch_at Y rfl ?_)
  refine wpAny_bind (listUpdate_at Y rfl ?_ (Ph _) (by unfold pb;rw[wS,ut,Rj,q2];omega))
  rw[hf]
  simp only[bne_self_eq_false,QC,if_false]
  exact wpAny_pure (h p0 q1 q3)
theorem KR {l:Addr} {nss:List (List Int)} {Q:Value->Shared->Prop} (hl:s.heap.IsList l vs.toArray) (ae:vs.length<64) (hu:A.units+64<cLine)
 (am:∀i,i<vs.length->∃(l:Addr) (U:Array Value),vs.getD i Value.none=.ref l/\s.heap.IsList l U/\IntsAre U.toList (nss.getD i []))
 (h:∀p:Array Nat,p.Perm (PP (u8 vs.length))->eD (AE nss) p vs.length->Q (.ref (s.heap.objs.size+1)) {s with heap:=sortedAll s.heap vs (pb vs p)}):
 wpAny (model prog w) A (call (.builtin "sorted") [.ref l]) Q E s:=by
 have Y:vs.length<=sizeLine:=by rw[sizeLine_eq];omega
 refine Calls.call_function_entry kind_sorted plain_sorted entry_sorted (args_sorted1 _) ?_
 unfold Builtin.«sorted»
 refine wpAny_bind (m:=checkCount "sorted" 1 1 _) (wpAny_pure ?_)
 refine wpAny_bind (collect_list hl ?_ Y)
 refine wpAny_bind (wpAny_newList ?_ Y)
 have ab:((s.heap.push (seqObj "list" #[] 0)).update s.heap.objs.size (Obj.mapSeq (·++vs.toArray))).objs.size=s.heap.objs.size+1:=by
  rw[Heap.size_update,size_push']
 have ac:(((s.heap.push (seqObj "list" #[] 0)).update s.heap.objs.size (Obj.mapSeq (·++vs.toArray))).push (seqObj "list" vs.toArray 0)).get? (s.heap.objs.size+1)=some (seqObj "list" vs.toArray 0):=by
  rw[<- ab];exact Heap.get?_push_size _ rfl
 have keep:∀b o,s.heap.get? b=some o->(((s.heap.push (seqObj "list" #[] 0)).update s.heap.objs.size (Obj.mapSeq (·++vs.toArray))).push (seqObj "list" vs.toArray 0)).get? b=some o:=λb o q=>by
  have an:b<s.heap.objs.size:=Heap.lt_size q
  exact Heap.get?_push_of_some _ ((Heap.get?_update_ne _ _ _ _ (Do an)).trans (Heap.get?_push_of_some _ q))
 show wpAny _ _ _ _ _ {s with heap:=((s.heap.push (seqObj "list" #[] 0)).update s.heap.objs.size (Obj.mapSeq (·++vs.toArray))).push (seqObj "list" vs.toArray 0)}
 rw[ab]
 refine wpAny_bind (wpAny_holding (wpAny_call_entry slot_list_sort ⟨_,ac,rfl⟩ entry_list_sort (LO (nss:=nss) ac ae ?_ (λi hi=> ?_) λp a1 a2=>⟨_,rfl, ?_⟩) (args_list_sort _)))
 ·simp only[units_in1];omega
 ·obtain⟨x,U,e,il,ii⟩:=am i hi
  obtain⟨o,ho,r⟩:=il
  exact⟨x,U,e,Do (QX (Heap.lt_size ho)),⟨o,keep _ _ ho,r⟩,ii⟩
 ·exact wpAny_pure ⟨_,rfl,h p a1 a2⟩
end
section
variable {α β : Type}
def rj(x:α×List Int):List (α×List Int)->List (α×List Int)
 | []=>[x]
 | y::l=>if HT.lexLt x.2 y.2=true then x::y::l else y::rj x l
def d9:List (α×List Int)->List (α×List Int)
 | []=>[]
 | x::l=>rj x (d9 l)
theorem Bc{g:α×List Int->β×List Int}(U:∀x,(g x).2=x.2)(x:α×List Int):∀l,rj (g x) (l.map g)=(rj x l).map g
 | []=>rfl
 | y::l=>by
  rw[AC]
  unfold rj
  rw[U,U]
  split
  ·rfl
  ·rw[AC,Bc U x l]
theorem m4{g:α×List Int->β×List Int}(U:∀x,(g x).2=x.2):∀l,d9 (l.map g)=(d9 l).map g
 | []=>rfl
 | x::l=>by
  rw[AC]
  unfold d9
  rw[m4 U l,Bc U]
theorem tu(x:α×List Int):∀l,(rj x l).Perm (x::l)
 | []=>.refl _
 | y::l=>by
  unfold rj
  split
  ·exact .refl _
  ·exact((tu x l).cons y).trans (List.Perm.swap x y l)
theorem gO:∀l:List (α×List Int),(d9 l).Perm l
 | []=>.refl _
 | x::l=>(tu x _).trans ((gO l).cons x)
abbrev xr(l:List (α×List Int)):Prop:=l.Pairwise λa b=>HT.lexLt b.2 a.2=false
theorem lex_asymm{a b:List Int}(h:HT.lexLt a b=true):HT.lexLt b a=false:=by
 cases h2:HT.lexLt b a with
 | false=>rfl
 | true=>
  have:=lex_trans a b a h h2
  rw[lex_irrefl] at this;cases this
theorem DQ{a b c:List Int}(h1:HT.lexLt b a=false)(h2:HT.lexLt c b=false):HT.lexLt c a=false:=KeyOrd.kle_trans (O:=Mx) (a:=a) (b:=b) (c:=c) h1 h2
theorem yw(x:α×List Int):∀{l},xr l->xr (rj x l)
 | [],_=>List.pairwise_singleton _ _
 | y::l,h=>by
  unfold rj
  have hy:=P4.mp h
  split
  ·rename_i c
   refine P4.mpr ⟨λz hz=> ?_,h⟩
   rcases wT.mp hz with rfl | hz
   ·exact lex_asymm c
   ·exact DQ (lex_asymm c) (hy.1 z hz)
  ·rename_i c
   refine P4.mpr ⟨λz hz=> ?_,yw x hy.2⟩
   rcases wT.mp ((tu x l).mem_iff.mp hz) with rfl | hz
   ·exact eq_false_of_ne_true c
   ·exact hy.1 z hz
theorem nJ:∀l:List (α×List Int),xr (d9 l)
 | []=>.nil
 | x::l=>yw x (nJ l)
theorem JO{l:List (α×List Int)}(U:(l.map (·.2)).Nodup){a b:α×List Int}(ha:a∈l)(hb:b∈l)(h:a.2=b.2):a=b:=by
 induction l with
 | nil=>cases ha
 | cons x l Y=>
  rw[AC,PU] at U
  rcases wT.mp ha with rfl | ha'
  ·rcases wT.mp hb with rfl | hb
   ·rfl
   ·have q:b.2∈l.map (·.2):=KE hb
    rw[<- h] at q
    exact absurd q U.1
  ·rcases wT.mp hb with rfl | hb
   ·have q:a.2∈l.map (·.2):=KE ha'
    rw[h] at q
    exact absurd q U.1
   ·exact Y U.2 ha' hb
theorem vQ:∀{l m:List (α×List Int)},l.Perm m->(l.map (·.2)).Nodup->xr l->xr m->l=m
 | [],m,h,_,_,_=>(List.nil_perm.mp h).symm
 | a::l,[],h,_,_,_=>absurd h.symm (by simp)
 | a::l,b::m,h,nd,hl,hm=>by
  have e:a=b:=by
   have ha:a∈b::m:=h.mem_iff.mp wv
   have hb:b∈a::l:=h.mem_iff.mpr wv
   rcases wT.mp ha with e | ha
   ·exact e
   ·rcases wT.mp hb with e | hb'
    ·exact e.symm
    ·refine JO nd wv hb (pB _ _ ((P4.mp hm).1 a ha) ((P4.mp hl).1 b hb'))
  subst e
  rw[vQ (List.Perm.cons_inv h) (PU.mp nd).2 (P4.mp hl).2 (P4.mp hm).2]
end
section
variable {X : Cx}
def vy(K:sB):List V->Hp->VK->Prop:=λxs H Q=>∃(p:Addr) (ls:List (Addr×List Int)),xs=[.ref p]/\SqL K H p (ls.map λx=>V.ref x.1)/\(∀x∈ls,SqL K H x.1 (x.2.map V.int))/\ls.length<64/\(ls.map (·.2)).Nodup/\
 ∀d,H d=none->Q (.ref d) (upd H d (.lst ((d9 ls).map λx=>V.ref x.1)))
theorem wC:∀{ls:List (Addr×List Int)} {U:List Value},Vals (ls.map λx=>V.ref x.1) U->U=ls.map λx=>Value.ref x.1
 | [],_,h=>by cases h;rfl
 | x::ls,_,h=>by
  cases h with
  | cons r Y=>cases r;rw[wC Y];rfl
theorem xg:∀(ls:List (Addr×List Int)),Vals (ls.map λx=>V.ref x.1) (ls.map λx=>Value.ref x.1)
 | []=>.nil
 | x::ls=>.cons rfl (xg ls)
theorem Bu(hu:X.A.units+64<cLine):jw X (.builtin "sorted") (vy X.K):=by
 intro pins s σ H xs us Q I r h
 obtain⟨p,ls,rfl,hq,hi,ae,nd,q⟩:=h
 obtain⟨u,rfl,ru⟩:=vals1 r
 cases ru
 obtain⟨bd,rv,pl,hz⟩:=I.list hq
 obtain rfl:=wC rv
 have ln:(ls.map λx=>Value.ref x.1).length=ls.length:=ut _
 refine KR (nss:=ls.map (·.2)) pl.isList (by rw[ln];exact ae) hu (λi Y=> ?_) λU a1 a2=> ?_
 ·rw[ln] at Y
  obtain⟨ab,r2,an,_⟩:=I.list (hi ls[i] (Pp _))
  refine⟨ls[i].1,ab.toArray,by simp[sH,Y],an.isList, ?_⟩
  rw[show (ls.map (·.2)).getD i []=ls[i].2 by simp[sH,Y]]
  simpa using kW r2
 ·rw[ln] at a1 a2
  have hm:∀i∈U.toList,i<ls.length:=λi hi=>by
   have:=(Rz.mp a1).mem_iff.mp hi
   simpa using this
  have e1:pb (ls.map λx=>Value.ref x.1) U=((U.toList.map λi=>ls.getD i (0,[])).map λx=>Value.ref x.1).toArray:=by
   unfold pb
   congr 1
   rw[wp]
   refine Rl λi hi=> ?_
   have:=hm i hi
   simp[sH,this]
  have e2:(U.toList.map λi=>ls.getD i (0,[])).Perm ls:=by
   have:=(Rz.mp a1).map λi=>ls.getD i (0,[])
   refine this.trans (List.Perm.of_eq ?_)
   refine Q6 (by simp) λi h1 h2=> ?_
   simp[sH,h2]
  have sz:U.size=ls.length:=by have:=a1.size_eq;simpa using this
  have e3:xr (U.toList.map λi=>ls.getD i (0,[])):=by
   refine RI.mpr ?_
   intro i j hi hj ap
   have Y:i<U.size:=by simpa using hi
   have az:j<U.size:=by simpa using hj
   have:=a2 i j (Qj ap) (by omega)
   have k1:∀(i:Nat) (h:i<U.size),kAt (AE (ls.map (·.2))) U i=(ls.getD U[i] (0,[])).2:=λi h=>by
    have hb:=hm U[i] (by simp)
    have e:U.getD i 0=U[i]:=by simp[Array.getD,h]
    unfold kAt
    rw[e]
    show (ls.map (·.2)).getD U[i] []=_
    rw[sH,xL,sH,uX hb]
    rfl
   rw[k1 i Y,k1 j az] at this
   rw[RU,RU,Sb,Sb]
   exact this
  have e4:(U.toList.map λi=>ls.getD i (0,[]))=d9 ls:=vQ (e2.trans (gO ls).symm) ((e2.map (·.2)).nodup_iff.mpr nd) e3 (nJ ls)
  rw[e1,e4]
  obtain⟨e,he⟩:=sortedAll_at s.heap (ls.map λx=>Value.ref x.1) ((d9 ls).map λx=>Value.ref x.1).toArray
  have fresh:H (s.heap.objs.size+1)=none:=I.hok.fresh (R6 _)
  refine⟨.ref (s.heap.objs.size+1),_,I.laid (t':=s.toks) (o:=.lst ((d9 ls).map λx=>V.ref x.1)) (λb o q=>sortedAll_old q) (R6 _) ?_,rfl,q _ fresh⟩
  exact⟨by rw[ut,(gO ls).length_eq];rw[ut] at hz;exact hz,_,e,xg _,he⟩
end
open PySem PySem.Spec PyProof.Rows
section
variable {prog : Program} {w : World} {A : Around} {R : Result → Shared → Prop} {I : Addr} {fp wr : List Addr} {n : Nat} {P : Nat → Value → Prop} {St : Nat → Heap → Prop} {kw : List (Str × Value)}
theorem qu:(toString "min" ++toString ".loop" :String)="min.loop" :=by decide
theorem JD(W:Walks prog w A.in1 I fp wr n P St)(bt:Nat->Nat->Bool)(a2:CmpOf prog w A.in1 .Lt P bt)(S:Addr)(a3:S∉fp):∀(k j:Nat) (s:Shared) (vb:Value) (c:Nat),n-(j+1)=k->j+1<=n->St (j+1) s.heap->P (argBest bt j) vb->
 s.heap.get? S=some {cls:=.type "list",dict:=none,data:=.seq #[vb,vb] c,slots:= #[]}->
 (∀v h' tk,P (argBest bt (n-1)) v->(∀b o,b∉wr->b≠S->s.heap.get? b=some o->h'.get? b=some o)->R (.ok (.ret v)) {s with heap:=h',toks:=tk})->
 codeAny (model prog w) A (.builtin "min.loop" ⟨[.ref I,.none,.ref S],kw⟩) R s:=by
 have nw:S∉wr:=λh=>a3 (W.sub _ h)
 intro k
 induction k with
 | zero=>
  intro j s vb c hk hj am ac hS hR
  have e:j+1=n:=by omega
  refine codeAny_builtin QG ?_
  rw[Around.under_plainId Pn _]
  show wpAny _ A.in1 (seqItems? (.ref S) >>= _) _ _ s;refine wpAny_bind (wpAny_seqItems hS rfl ?_)
  show wpAny _ A.in1 (tryCatch (pyNext (.ref I)) _ >>= _) _ _ s;refine wpAny_bind (wpAny_tryCatch (W.done s _ _ (e▸am) λh' tk U=> ?_))
  have Y:=U S _ nw hS
  show wpAny _ A.in1 (updateSeq S (λ_=> #[]) >>= _) _ _ _;refine wpAny_bind ?_
  refine wpAny_updateSeq Y rfl (wpAny_bind (wpAny_letGo (wpAny_pure ?_)))
  exact hR vb _ tk (by rw[<- e];exact ac) λb o h1 h2 q=>(Heap.get?_update_other _ _ (P0 h2)).trans (U b o h1 q)
 | succ k ih=>
  intro j s vb c hk hj am ac hS hR
  have lt:j+1<n:=by omega
  refine codeAny_builtin QG ?_
  rw[Around.under_plainId Pn _]
  show wpAny _ A.in1 (seqItems? (.ref S) >>= _) _ _ s;refine wpAny_bind (wpAny_seqItems hS rfl ?_)
  show wpAny _ A.in1 (tryCatch (pyNext (.ref I)) _ >>= _) _ _ s;refine wpAny_bind (wpAny_tryCatch (W.item (j+1) s _ _ lt am λv h' tk hP ae U=> ?_))
  have Y:=U S _ nw hS
  show wpAny _ A.in1 (tryCatch (holding [v,v] (richCompare .Lt v vb >>= _)) _ >>= _) _ _ _;refine wpAny_bind (wpAny_tryCatch (wpAny_holding (wpAny_bind (a2 (j+1) (argBest bt j) v vb _ _ _ hP ac ?_))))
  refine wpAny_bind (wpAny_holding (wpAny_truthy_bool (wpAny_bind (wpAny_letGo (wpAny_pure ?_)))))
  cases hb:bt (j+1) (argBest bt j) with
  | true=>
   simp only[if_true]
   refine wpAny_bind ?_
   refine wpAny_updateSeq Y rfl (wpAny_bind (wpAny_letGo ?_))
   rw[qu]
   refine wpAny_pure ⟨plainId_quiet Pn _,ih (j+1) _ v _ (by omega) lt (W.frame _ _ _ ae λb h1 o q=> ?_) (by simp only[argBest,hb,if_true];exact hP) (Heap.get?_update_self _ Y rfl) λv1 h2 an ap az=> ?_⟩
   ·exact(Heap.get?_update_other _ _ (λh:S=b=>a3 (by rw[h];exact h1))).trans q
   ·exact hR v1 h2 an ap λb o h3 h4 q=>az b o h3 h4 ((Heap.get?_update_other _ _ (P0 h4)).trans (U b o h3 q))
  | false=>
   simp only[QC,if_false]
   refine wpAny_bind (wpAny_letGo ?_)
   rw[qu]
   refine wpAny_pure ⟨plainId_quiet Pn _,ih (j+1) _ vb c (by omega) lt ae (by simp only[argBest,hb,QC,if_false];exact ac) Y λv1 h2 an ap az=> ?_⟩
   exact hR v1 h2 an ap λb o h3 h4 q=>az b o h3 h4 (U b o h3 q)
end
section
variable {prog : Program} {w : World} {A : Around} {E : Value → Shared → Prop} {s : Shared}
theorem Bq(a v:Value):argsOk "min" ⟨[a],[(Str.ofString "default",v)]⟩:=by unfold argsOk;kernel_rfl
theorem Cb {l:Addr} {U:List Value} {d:Value} {Q:Value->Shared->Prop} (hh:A.handled=none) (hl:s.heap.IsList l U.toArray) (hI:IntsAre U ns) (ab:0<ns.length)
 (h:∀(m:Int) (t:Tok) (h':Heap) (k:Nat),m∈ns->(∀x∈ns,m<=x)->(∀b o,s.heap.get? b=some o->h'.get? b=some o)->Q (.int m t) {s with heap:=h',toks:=k}):
 wpAny (model prog w) A (call (.builtin "min") [.ref l] [(Str.ofString "default",d)]) Q E s:=by
 have ac:U.length=ns.length:=hI.length
 have Y:∀(i:Nat) (v:Value),U.toArray[i]? =some v->∃t,v=.int (ns.getD i 0) t:=λi v e=>hI.int_at i v (by simpa using e)
 refine R7 SK Sy SA (Bq _ _) ?_
 show wpAny _ A.in1 (Builtin.Builtins.bindParams "min" ["key","default"] 0 ⟨[],[(Str.ofString "default",d)]⟩ >>= _) _ _ s
 refine wpAny_bind (wpAny_of_eq (show Builtin.Builtins.bindParams "min" ["key","default"] 0 ⟨[],[(Str.ofString "default",d)]⟩=pure [none,some d] from rfl) ?_)
 refine wpAny_bind (wpAny_pure (wpAny_bind (wpAny_pyIter_list hl ?_)))
 refine wpAny_bind (wpAny_newList ?_ (Ph _))
 rw[qu]
 have lt:l<s.heap.objs.size:=by obtain⟨_,e,_⟩:=hl;exact Heap.lt_size e
 have W:=Walks.list (prog:=prog) (w:=w) (A:=A.in1) hh s.heap.objs.size l (Do lt) U.toArray
 have sz:U.toArray.size=ns.length:=by simp[ac]
 have hS:(s.heap.push {cls:=.type "list_iterator",data:=.fields #[.ref l,.int 0 0]}).objs.size=s.heap.objs.size+1:=size_push' ..
 have ap:CmpOf prog w A.in1 .Lt (λi v=>U.toArray[i]? =some v) (λi j=>decide (ns.getD i 0<ns.getD j 0)):=λi j vi vj s' Q' E' hi hj hq=>by
  obtain⟨t,rfl⟩:=Y i vi hi
  obtain⟨u,rfl⟩:=Y j vj hj
  exact HT.Au _ _ _ _ _ _ _ _ _ _ hq
 obtain⟨b1,b2⟩:=argBest_lt (λi=>ns.getD i 0) (ns.length-1)
 refine wpAny_pure ⟨plainId_quiet Pn _,codeAny_builtin QG ?_⟩
 rw[Around.under_plainId Pn _]
 have gS:((s.heap.push {cls:=.type "list_iterator",data:=.fields #[.ref l,.int 0 0]}).push (seqObj "list" #[] 0)).get? (s.heap.push {cls:=.type "list_iterator",data:=.fields #[.ref l,.int 0 0]}).objs.size=some (seqObj "list" #[] 0):=Heap.get?_push_size _ rfl
 have gI:((s.heap.push {cls:=.type "list_iterator",data:=.fields #[.ref l,.int 0 0]}).push (seqObj "list" #[] 0)).get? s.heap.objs.size=some {cls:=.type "list_iterator",data:=.fields #[.ref l,.int 0 0]}:=Heap.get?_push_of_some _ (Heap.get?_push_size _ rfl)
 have nf:(s.heap.push {cls:=.type "list_iterator",data:=.fields #[.ref l,.int 0 0]}).objs.size∉[s.heap.objs.size,l]:=by
  rw[hS];simp only[wT,ww,PZ,or_false,not_or]
  exact⟨QT (Q5 _),QT (QX lt)⟩
 have nw:(s.heap.push {cls:=.type "list_iterator",data:=.fields #[.ref l,.int 0 0]}).objs.size∉[s.heap.objs.size]:=λq=>nf (by rw[ww.mp q];exact wv)
 show wpAny _ A.in1 (seqItems? (.ref _) >>= _) _ _ _;refine wpAny_bind (wpAny_seqItems gS rfl ?_)
 show wpAny _ A.in1 (tryCatch (pyNext (.ref s.heap.objs.size)) _ >>= _) _ _ _
 refine wpAny_bind (wpAny_tryCatch (W.item 0 _ _ _ (by rw[sz];exact ab) ⟨⟨_,gI,rfl,rfl⟩,(hl.push _).push _⟩ λv h1 k1 hP a2 ae=> ?_))
 have am:=ae _ _ nw gS
 show wpAny _ A.in1 (updateSeq _ (λ_=> #[v,v]) >>= _) _ _ _
 refine wpAny_bind ?_
 refine wpAny_updateSeq am rfl ?_
 rw[qu]
 refine wpAny_pure ⟨plainId_quiet Pn _,JD W (λi j=>decide (ns.getD i 0<ns.getD j 0)) ap _ nf _ 0 _ v _ rfl (by rw[sz];exact ab) (W.frame _ _ _ a2 λb h2 o q=> ?_) hP (Heap.get?_update_self _ am rfl) λv2 h2 k2 a3 a4=> ?_⟩
 ·exact(Heap.get?_update_other _ _ (λq1=>nf (by rw[q1];exact h2))).trans q
 ·obtain⟨t,rfl⟩:=Y _ _ a3
  rw[sz]
  have lb:argBest (λi j=>decide (ns.getD i 0<ns.getD j 0)) (ns.length-1)<ns.length:=by omega
  refine h _ t h2 k2 ?_ (λx hx=> ?_) λb o e=> ?_
  ·rw[sH,uX lb];exact Pp _
  ·obtain⟨j,hj,rfl⟩:=Py hx
   have:=b2 j (by omega)
   simpa[sH,hj] using this
  ·have hb:=Heap.lt_size e
   have n1:b≠s.heap.objs.size:=Do hb
   have n2:b≠(s.heap.push {cls:=.type "list_iterator",data:=.fields #[.ref l,.int 0 0]}).objs.size:=by rw[hS];exact Do (QX hb)
   refine a4 b o (by simpa using n1) n2 ((Heap.get?_update_other _ _ (P0 n2)).trans (ae b o (by simpa using n1) (Heap.get?_push_of_some _ (Heap.get?_push_of_some _ e))))
end
section
variable {X : Cx} {e d : Expr} {te td : TE} {p q kp : Pos}
end
section
variable {X : Cx}
end
section
variable {X : Cx}
end
section
variable {X : Cx}
def Jr:V->List V->Hp->VK->Prop:=λx vs H Q=>∃l xs y,x=.ref l/\vs=[.int 0,y]/\H l=some (.lst xs)/\xs.length<sizeLine/\Q .non (upd H l (.lst (y::xs)))
theorem Kg:MtM X "list.insert" Jr:=by
 intro pins s σ H x vs v us Q I rx Y h
 obtain⟨l,xs,y,rfl,rfl,hH,hz,q⟩:=h
 cases rx
 cases Y with
 | cons r0 Y=>
  obtain⟨u,rfl,ru⟩:=Vals.one (show Vals [y] _ from Y)
  obtain⟨t,rfl⟩:=r0
  obtain⟨z,U,n,r,hl,e⟩:=I.lstM hH
  refine call_meets F.slot_list_insert ⟨_,e,rfl⟩ F.entry_list_insert (F.args_list_insert_3 _ _ _) (AutoSeq1.list_insert_list_int_val_1 l U.toArray n 0 t u (by decide) (by rw[wS];omega)) ⟨e, ?_⟩
  refine⟨.non,_,I.lset (its':=u::U) hH e (by simp) (.cons ru r) ?_,rfl,q⟩
  rw[wE]
  omega
end
section
variable {prog : Program} {w : World} {A : Around} {E : Value → Shared → Prop} {s : Shared}
theorem Ho {l:Addr} {d:Value} {Q:Value->Shared->Prop} (hh:A.handled=none) (U:s.heap.IsList l #[])
 (h:∀(h':Heap) (k:Nat),(∀b o,s.heap.get? b=some o->h'.get? b=some o)->Q d {s with heap:=h',toks:=k}):
 wpAny (model prog w) A (call (.builtin "min") [.ref l] [(Str.ofString "default",d)]) Q E s:=by
 refine R7 SK Sy SA (Bq _ _) ?_
 show wpAny _ A.in1 (Builtin.Builtins.bindParams "min" ["key","default"] 0 ⟨[],[(Str.ofString "default",d)]⟩ >>= _) _ _ s
 refine wpAny_bind (wpAny_of_eq (show Builtin.Builtins.bindParams "min" ["key","default"] 0 ⟨[],[(Str.ofString "default",d)]⟩=pure [none,some d] from rfl) ?_)
 refine wpAny_bind (wpAny_pure (wpAny_bind (wpAny_pyIter_list U ?_)))
 refine wpAny_bind (wpAny_newList ?_ (Ph _))
 rw[qu]
 have lt:l<s.heap.objs.size:=by obtain⟨_,e,_⟩:=U;exact Heap.lt_size e
 have W:=Walks.list (prog:=prog) (w:=w) (A:=A.in1) hh s.heap.objs.size l (Do lt) #[]
 have hS:(s.heap.push {cls:=.type "list_iterator",data:=.fields #[.ref l,.int 0 0]}).objs.size=s.heap.objs.size+1:=size_push' ..
 refine wpAny_pure ⟨plainId_quiet Pn _,codeAny_builtin QG ?_⟩
 rw[Around.under_plainId Pn _]
 have gS:((s.heap.push {cls:=.type "list_iterator",data:=.fields #[.ref l,.int 0 0]}).push (seqObj "list" #[] 0)).get? (s.heap.push {cls:=.type "list_iterator",data:=.fields #[.ref l,.int 0 0]}).objs.size=some (seqObj "list" #[] 0):=Heap.get?_push_size _ rfl
 have gI:((s.heap.push {cls:=.type "list_iterator",data:=.fields #[.ref l,.int 0 0]}).push (seqObj "list" #[] 0)).get? s.heap.objs.size=some {cls:=.type "list_iterator",data:=.fields #[.ref l,.int 0 0]}:=Heap.get?_push_of_some _ (Heap.get?_push_size _ rfl)
 show wpAny _ A.in1 (seqItems? (.ref _) >>= _) _ _ _;refine wpAny_bind (wpAny_seqItems gS rfl ?_)
 show wpAny _ A.in1 (tryCatch (pyNext (.ref s.heap.objs.size)) _ >>= _) _ _ _
 refine wpAny_bind (wpAny_tryCatch (W.done _ _ _ ⟨⟨_,gI,rfl,rfl⟩,(U.push _).push _⟩ λh1 k1 Y=> ?_))
 show wpAny _ A.in1 (rule _ >>= _) _ _ _
 refine wpAny_bind (wpAny_rule ?_)
 refine wpAny_pure ?_
 refine h h1 k1 λb o e=> ?_
 have hb:=Heap.lt_size e
 have n1:b≠s.heap.objs.size:=Do hb
 exact Y b o (by simpa using n1) (Heap.get?_push_of_some _ (Heap.get?_push_of_some _ e))
end
section
variable {X : Cx} {e d : Expr} {te td : TE} {p q kp : Pos}
def IT(K:sB)(te td:TE):TE:=λσ H Q=>te σ H λv H1=>td σ H1 λx H2=>∃(a:Addr) (ns:List Int),[v]=[V.ref a]/\SqL K H2 a (ns.map V.int)/\(ns.length=0->Q x H2)/\(0<ns.length->∀m:Int,m∈ns->(∀x∈ns,m<=x)->Q (.int m) H2)
theorem J9(hc:X.calm=true)(hg:Gl X "min")(hm:X.mg "min" =none)(hv:bootBuiltins "min" =some (.builtin "min"))(he:PE X e te)(hd:PE X d td)(s1:starEach [e] X.env=[(false,eval e X.env)]:=by rfl):
 PE X (.Call (.Name "min" p) [e] [⟨some "default",d,kp⟩] q) (IT X.K te td):=by
 intro pins s σ H Q I h
 refine wpAny_Call_Name_kw (o6 I hg hm hv ?_)
 refine callWith_kw ?_ (by rw[s1];rfl) (by rw[s1];rfl)
 refine thn ((ai he au s1) q pins s σ H (λvs H1=>td σ H1 λx H2=>∃(a:Addr) (ns:List Int),vs=[V.ref a]/\SqL X.K H2 a (ns.map V.int)/\(ns.length=0->Q x H2)/\(0<ns.length->∀m:Int,m∈ns->(∀x∈ns,m<=x)->Q (.int m) H2)) I h) λus s2 ⟨vs,H1,I1,r1,q1⟩=> ?_
 refine kws_cons (thn (hd pins s2 σ H1 _ I1 q1) λu s3 ⟨x,H2,I2,r2,q2⟩=>kws_nil ?_)
 obtain⟨a,ns,rfl,hs,q0,qq⟩:=q2
 obtain⟨w,rfl,rw⟩:=vals1 r1
 cases rw
 obtain⟨U,rv,pl,hz⟩:=I2.list hs
 by_cases h0:0<ns.length
 ·exact Cb (I2.ok.hd hc) pl.isList (kW rv) h0 λm t h' k a1 a2 Y=>⟨.int m,H2,I2.kept (t':=k) Y,⟨t,rfl⟩,qq h0 m a1 a2⟩
 ·have e0:ns=[]:=Ri (by omega)
  subst e0
  have ei:U=[]:=Ri (by have:=(kW rv).length;simpa using this)
  subst ei
  exact Ho (I2.ok.hd hc) pl.isList λh' k Y=>⟨x,H2,I2.kept (t':=k) Y,r2,q0 rfl⟩
end
section
variable {prog : Program} {w : World} {A : Around} {E : Value → Shared → Prop} {s : Shared}
end
section
variable {X : Cx}
end
end L2
namespace M
open PySem L2
variable {K : sB} {a : Addr} {xs vs : List V} {d x y : D} {v : V} {ds as bs : List D} {H F H1 F1 : Hp} {θ θ1 : List Addr} {ca : Nat → Addr} {O O1 : aB} {s : S} {C : Ct} {te t to : TE} {ta : TA} {m me mo e : EM} {ma : AM} {n i k c : Nat} {g : TG} {gm : GM} {wi : TI} {im : IM} {tc : TT} {P : Program} {w : World} {σ : L2.St} {f : FM} {E : XK} {Q : VK} {caps : List Nat} {ns : List Str} {sub : Nat → Option Bool}
inductive D where
 | non | bl (b:Bool) | int (i:Int) | str (x:Str) | lst (xs:List D) | tup (xs:List D) | ptr (k:Nat) | obj (c:Nat) (ns:List Str) (ds:List D) | exn (c:Nat)
inductive Cell where
 | dead | lst (xs:List D) | ins (c:Nat) (ns:List Str) (ds:List D)
abbrev aB:=List Cell
structure S where
 r:List (Option D)
 o:aB
inductive Res (α:Type) where
 | ok (a:α) | exc (c:Nat) (a:D) (o:S) | bad
def Res.bind{α β:Type}(x:Res α)(f:α->Res β):Res β:=match x with
 | .ok a=>f a
 | .exc c a o=>.exc c a o
 | .bad=>.bad
@[simp] theorem ak {α β:Type} (a:α) (f:α->Res β):(Res.ok a).bind f=f a:=rfl
@[simp] theorem NP {α β:Type} (c:Nat) (a:D) (o:S) (f:α->Res β):(Res.exc c a o:Res α).bind f=.exc c a o:=rfl
@[simp] theorem NG {α β:Type} (f:α->Res β):(Res.bad:Res α).bind f=.bad:=rfl
abbrev Wsh:=Nat->D->S->Hp->Hp->List Addr->Prop
structure Ct where
 K:sB
 ca:Nat->Addr
 W:Wsh
mutual
def Rep(K:sB)(ca:Nat->Addr)(θ:List Addr)(F:Hp):D->V->Prop
 | .non,v=>v=.non
 | .bl b,v=>v=.bl b
 | .int i,v=>v=.int i
 | .str x,v=>v=.str x
 | .lst ds,v=>∃a xs,v=.ref a/\SqL K F a xs/\aG K ca θ F ds xs
 | .tup ds,v=>∃a xs,v=.ref a/\SqT K F a xs/\aG K ca θ F ds xs
 | .ptr k,v=>∃a,v=.ref a/\θ[k]? =some a
 | .obj c ns ds,v=>∃a dx xs,v=.ref a/\F a=some (.ins (ca c) dx (ns.zip xs))/\ns.length=xs.length/\aG K ca θ F ds xs
 | .exn c,v=>∃a,v=.ref a/\F a=some (exO a (ca c))
def aG(K:sB)(ca:Nat->Addr)(θ:List Addr)(F:Hp):List D->List V->Prop
 | [],xs=>xs=[]
 | d::ds,xs=>∃v r,xs=v::r/\Rep K ca θ F d v/\aG K ca θ F ds r
end
mutual
def cz:D->Bool
 | .lst ds=>aM ds
 | .tup ds=>aM ds
 | .ptr _=>false
 | .obj _ _ ds=>aM ds
 | _=>true
def aM:List D->Bool
 | []=>true
 | d::ds=>cz d&&aM ds
end
def nM:D->Bool
 | .non=>true | .bl _=>true | .int _=>true | .str _=>true | _=>false
theorem bJ.seqT{H H':Hp}(e:bJ H H')(h:SqT K H a xs):SqT K H' a xs:=by
 rcases h with(h | ⟨o,h⟩) | h
 ·exact .inl (.inl (e _ _ h))
 ·exact .inl (.inr ⟨o,e _ _ h⟩)
 ·exact .inr h
section
variable {K : sB} {ca : Nat → Addr} {θ θ1 : List Addr} {F F1 : Hp}
mutual
theorem Rep.mono(U:bJ F F1)(hθ:∃r,θ1=θ++r):∀{d:D} {v:V},Rep K ca θ F d v->Rep K ca θ1 F1 d v
 | .non,_,h=>h
 | .bl _,_,h=>h
 | .int _,_,h=>h
 | .str _,_,h=>h
 | .lst ds,_,h=>by
  unfold Rep at h ⊢
  obtain⟨a,xs,e,hs,Y⟩:=h
  exact⟨a,xs,e,U.seq hs,aG.mono U hθ Y⟩
 | .tup ds,_,h=>by
  unfold Rep at h ⊢
  obtain⟨a,xs,e,hs,Y⟩:=h
  exact⟨a,xs,e,bJ.seqT U hs,aG.mono U hθ Y⟩
 | .ptr k,_,h=>by
  unfold Rep at h ⊢
  obtain⟨a,e,hk⟩:=h
  obtain⟨r,rfl⟩:=hθ
  refine⟨a,e, ?_⟩
  rw[w6 (wP.mp hk).1]
  exact hk
 | .obj c ns ds,_,h=>by
  unfold Rep at h ⊢
  obtain⟨a,dx,xs,e,ha,hl,Y⟩:=h
  exact⟨a,dx,xs,e,U _ _ ha,hl,aG.mono U hθ Y⟩
 | .exn c,_,h=>by
  unfold Rep at h ⊢
  obtain⟨a,e,ha⟩:=h
  exact⟨a,e,U _ _ ha⟩
theorem aG.mono(U:bJ F F1)(Y:∃r,θ1=θ++r):∀{ds:List D} {xs:List V},aG K ca θ F ds xs->aG K ca θ1 F1 ds xs
 | [],_,h=>h
 | d::ds,_,h=>by
  unfold aG at h ⊢
  obtain⟨v,r,e,h1,h2⟩:=h
  exact⟨v,r,e,Rep.mono U Y h1,aG.mono U Y h2⟩
end
mutual
theorem Rep.pure:∀{d:D} {v:V},cz d=true->Rep K ca θ F d v->Rep K ca θ1 F d v
 | .non,_,_,h=>h
 | .bl _,_,_,h=>h
 | .int _,_,_,h=>h
 | .str _,_,_,h=>h
 | .lst ds,_,p,h=>by
  unfold Rep at h ⊢
  obtain⟨a,xs,e,Y,U⟩:=h
  exact⟨a,xs,e,Y,aG.pure (by simpa[cz] using p) U⟩
 | .tup ds,_,p,h=>by
  unfold Rep at h ⊢
  obtain⟨a,xs,e,Y,U⟩:=h
  exact⟨a,xs,e,Y,aG.pure (by simpa[cz] using p) U⟩
 | .ptr k,_,p,h=>by simp[cz] at p
 | .obj c ns ds,_,p,h=>by
  unfold Rep at h ⊢
  obtain⟨a,dx,xs,e,ha,hl,U⟩:=h
  exact⟨a,dx,xs,e,ha,hl,aG.pure (by simpa[cz] using p) U⟩
 | .exn c,_,_,h=>by
  unfold Rep at h ⊢
  exact h
theorem aG.pure:∀{ds:List D} {xs:List V},aM ds=true->aG K ca θ F ds xs->aG K ca θ1 F ds xs
 | [],_,_,h=>h
 | d::ds,_,p,h=>by
  unfold aG at h ⊢
  obtain⟨v,r,e,h1,h2⟩:=h
  simp only[aM,Po] at p
  exact⟨v,r,e,Rep.pure p.1 h1,aG.pure p.2 h2⟩
end
theorem Rep.scal(p:nM d=true)(h:Rep K ca θ F d v):Rep K ca θ1 F1 d v:=by
 cases d <;> first | exact h | (simp[nM] at p)
theorem aG.length:∀{ds:List D} {xs:List V},aG K ca θ F ds xs->xs.length=ds.length
 | [],_,h=>by unfold aG at h;rw[h];rfl
 | d::ds,_,h=>by
  unfold aG at h
  obtain⟨v,r,rfl,_,h2⟩:=h
  rw[wE,wE,aG.length h2]
theorem aG.get:∀{ds:List D} {xs:List V} {i:Nat} {d:D},aG K ca θ F ds xs->ds[i]? =some d->∃v,xs[i]? =some v/\Rep K ca θ F d v
 | [],_,_,_,_,e=>by simp at e
 | d::ds,_,0,_,h,e=>by
  unfold aG at h
  obtain⟨v,r,rfl,h1,_⟩:=h
  simp at e
  subst e
  exact⟨v,rfl,h1⟩
 | d::ds,_,i+1,x,h,e=>by
  unfold aG at h
  obtain⟨v,r,rfl,_,h2⟩:=h
  obtain⟨u,e1,e2⟩:=aG.get (i:=i) (d:=x) h2 (by simpa using e)
  exact⟨u,by simpa using e1,e2⟩
theorem aG.append:∀{ds es:List D} {xs ys:List V},aG K ca θ F ds xs->aG K ca θ F es ys->aG K ca θ F (ds++es) (xs++ys)
 | [],_,_,_,h,k=>by unfold aG at h;rw[h];exact k
 | d::ds,_,_,_,h,k=>by
  unfold aG at h
  obtain⟨v,r,rfl,h1,h2⟩:=h
  show aG K ca θ F (d::(ds++_)) (v::(r++_))
  unfold aG
  exact⟨v,_,rfl,h1,aG.append h2 k⟩
theorem aG.one(h:Rep K ca θ F d v):aG K ca θ F [d] [v]:=by
 unfold aG
 exact⟨v,[],rfl,h,by unfold aG;rfl⟩
theorem aG.nil:aG K ca θ F [] []:=by unfold aG;rfl
theorem aG.cons(h:Rep K ca θ F d v)(k:aG K ca θ F ds xs):aG K ca θ F (d::ds) (v::xs):=by
 unfold aG
 exact⟨v,xs,rfl,h,k⟩
theorem aG.take:∀{ds:List D} {xs:List V} (n:Nat),aG K ca θ F ds xs->aG K ca θ F (ds.take n) (xs.take n)
 | _,_,0,_=>by simp;exact aG.nil
 | [],_,n+1,h=>by unfold aG at h;rw[h];exact aG.nil
 | d::ds,_,n+1,h=>by
  unfold aG at h
  obtain⟨v,r,rfl,h1,h2⟩:=h
  exact aG.cons h1 (aG.take n h2)
theorem aG.drop:∀{ds:List D} {xs:List V} (n:Nat),aG K ca θ F ds xs->aG K ca θ F (ds.drop n) (xs.drop n)
 | _,_,0,h=>h
 | [],_,n+1,h=>by unfold aG at h;rw[h];exact aG.nil
 | d::ds,_,n+1,h=>by
  unfold aG at h
  obtain⟨v,r,rfl,h1,h2⟩:=h
  exact aG.drop n h2
theorem aG.set{d:D}{v:V}(h:Rep K ca θ F d v):∀{ds:List D} {xs:List V} (i:Nat),aG K ca θ F ds xs->aG K ca θ F (ds.set i d) (xs.set i v)
 | [],_,_,k=>by unfold aG at k;rw[k];exact aG.nil
 | _::_,_,0,k=>by
  unfold aG at k
  obtain⟨v,r,rfl,h1,h2⟩:=k
  exact aG.cons h h2
 | _::_,_,i+1,k=>by
  unfold aG at k
  obtain⟨v,r,rfl,h1,h2⟩:=k
  exact aG.cons h1 (aG.set h i h2)
end
structure Stp(H F:Hp)(θ:List Addr)(H1 F1:Hp)(θ1:List Addr):Prop where
 ff:bJ F F1
 th:∃r,θ1=θ++r/\∀a∈r,H a=none
 kp:∀b o,H b=some o->b∉θ->H1 b=some o
 al:∀b o,H b=some o->∃o',H1 b=some o'
 nf:∀b o,F1 b=some o->F b=some o\/H b=none\/b∈θ
theorem Stp.refl:Stp H F θ H F θ:=⟨bJ.refl _,⟨[],by simp,by simp⟩,λ_ _ h _=>h,λ_ o h=>⟨o,h⟩,λ_ _ h=>.inl h⟩
theorem Stp.pre(x:Stp H F θ H1 F1 θ1):∃r,θ1=θ++r:=let ⟨r,e,_⟩:=x.th;⟨r,e⟩
theorem Stp.trans{H F H1 F1 H2 F2:Hp}{θ θ1 θ2:List Addr}(x:Stp H F θ H1 F1 θ1)(y:Stp H1 F1 θ1 H2 F2 θ2):Stp H F θ H2 F2 θ2:=by
 obtain⟨r,rfl,Y⟩:=x.th
 obtain⟨r2,rfl,ab⟩:=y.th
 refine⟨x.ff.trans y.ff,⟨r++r2,by rw[Pz],λa ha=> ?_⟩,λb o h hb=> ?_,λb o h=> ?_,λb o h=> ?_⟩
 ·rcases xz.mp ha with z | z
  ·exact Y a z
  ·cases e:H a with
   | none=>rfl
   | some o=>
    obtain⟨o',U⟩:=x.al a o e
    rw[ab a z] at U
    cases U
 ·refine y.kp b o (x.kp b o h hb) λhm=> ?_
  rcases xz.mp hm with z | z
  ·exact hb z
  ·rw[Y b z] at h
   cases h
 ·obtain⟨o',U⟩:=x.al b o h
  exact y.al b o' U
 ·rcases y.nf b o h with z | z | z
  ·exact x.nf b o z
  ·refine .inr (.inl ?_)
   cases e:H b with
   | none=>rfl
   | some o'=>
    obtain⟨o2,e2⟩:=x.al b o' e
    rw[z] at e2
    cases e2
  ·rcases xz.mp z with q | q
   ·exact .inr (.inr q)
   ·exact .inr (.inl (Y b q))
def i6(K:sB)(ca:Nat->Addr)(H F:Hp)(θ:List Addr)(a:Addr):Cell->Prop
 | .dead=>∃o,H a=some o
 | .lst ds=>F a=none/\∃xs,H a=some (.lst xs)/\aG K ca θ F ds xs
 | .ins c ns ds=>F a=none/\∃dx xs,H a=some (.ins (ca c) dx (ns.zip xs))/\ns.length=xs.length/\aG K ca θ F ds xs
theorem i6.there{c:Cell}(h:i6 K ca H F θ a c):∃o,H a=some o:=by
 cases c with
 | dead=>exact h
 | lst ds=>obtain⟨_,xs,e,_⟩:=h;exact⟨_,e⟩
 | ins c ns ds=>obtain⟨_,dx,xs,e,_⟩:=h;exact⟨_,e⟩
structure Now(K:sB)(ca:Nat->Addr)(H F:Hp)(θ:List Addr)(O:aB):Prop where
 fh:bJ F H
 nd:θ.Nodup
 ln:θ.length=O.length
 ce:∀(k:Nat) a c,θ[k]? =some a->O[k]? =some c->i6 K ca H F θ a c
theorem Now.there(n:Now K ca H F θ O)(h:a∈θ):∃o,H a=some o:=by
 obtain⟨k,hk,e⟩:=Py h
 have h1:θ[k]? =some a:=by rw[uX hk,e]
 have h2:∃c,O[k]? =some c:=⟨O[k]'(by rw[<- n.ln];exact hk),uX _⟩
 obtain⟨c,h2⟩:=h2
 exact(n.ce k a c h1 h2).there
theorem Now.nil(h:bJ F H):Now K ca H F [] []:=⟨h,S6,rfl,λk a c e _=>by simp at e⟩
structure BS(K:sB)(ca:Nat->Addr)(σ:St)(H F:Hp)(θ:List Addr)(s:S):Prop where
 now:Now K ca H F θ s.o
 len:σ.length=s.r.length
 sl:∀(i:Nat) d,s.r[i]? =some (some d)->∃v,σ[i]? =some (some v)/\Rep K ca θ F d v
theorem BS.newF{σ:St}(b:BS K ca σ H F θ s){p:Addr}(hp:H p=none)(o:HO):
 Stp H F θ (upd H p o) (upd F p o) θ/\BS K ca σ (upd H p o) (upd F p o) θ s/\bJ F (upd F p o)/\upd F p o p=some o:=by
 have nm:∀a u,H a=some u->a≠p:=λa u e z=>by rw[z,hp] at e;cases e
 have fp:F p=none:=by
  cases e:F p with
  | none=>rfl
  | some u=>rw[b.now.fh p u e] at hp;cases hp
 have U:bJ F (upd F p o):=λa u e=>by rw[aS (nm a u (b.now.fh a u e))];exact e
 have Y:bJ H (upd H p o):=λa u e=>by rw[aS (nm a u e)];exact e
 refine⟨⟨U,⟨[],by simp,by simp⟩,λa u e _=>Y a u e,λa u e=>⟨u,Y a u e⟩,λa u e=> ?_⟩,⟨⟨λa u e=> ?_,b.now.nd,b.now.ln,λk a c e1 e2=> ?_⟩,b.len,λi d e=> ?_⟩,U,bZ⟩
 ·by_cases h:a=p
  ·subst h;exact .inr (.inl hp)
  ·rw[aS h] at e;exact .inl e
 ·by_cases h:a=p
  ·subst h;rw[bZ] at e ⊢;exact e
  ·rw[aS h] at e ⊢;exact b.now.fh a u e
 ·have q:=b.now.ce k a c e1 e2
  obtain⟨u,hu⟩:=q.there
  have ne:=nm a u hu
  cases c with
  | dead=>exact⟨u,Y a u hu⟩
  | lst ds=>
   obtain⟨q1,xs,q2,q3⟩:=q
   exact⟨by rw[aS ne];exact q1,xs,Y _ _ q2,q3.mono U ⟨[],by simp⟩⟩
  | ins c ns ds=>
   obtain⟨q1,dx,xs,q2,q3,q4⟩:=q
   exact⟨by rw[aS ne];exact q1,dx,xs,Y _ _ q2,q3,q4.mono U ⟨[],by simp⟩⟩
 ·obtain⟨v,h1,h2⟩:=b.sl i d e
  exact⟨v,h1,h2.mono U ⟨[],by simp⟩⟩
theorem BS.newC{σ:St}(b:BS K ca σ H F θ s){p:Addr}(hp:H p=none)(hr:aG K ca θ F ds xs):
 Stp H F θ (upd H p (.lst xs)) F (θ++[p])/\BS K ca σ (upd H p (.lst xs)) F (θ++[p]) ⟨s.r,s.o++[.lst ds]⟩/\Rep K ca (θ++[p]) F (.ptr s.o.length) (.ref p):=by
 have nm:∀a u,H a=some u->a≠p:=λa u e z=>by rw[z,hp] at e;cases e
 have fp:F p=none:=by
  cases e:F p with
  | none=>rfl
  | some u=>rw[b.now.fh p u e] at hp;cases hp
 have U:bJ H (upd H p (.lst xs)):=λa u e=>by rw[aS (nm a u e)];exact e
 have pt:p∉θ:=λh=>by obtain⟨u,hu⟩:=b.now.there h;rw[hp] at hu;cases hu
 refine⟨⟨bJ.refl _,⟨[p],rfl,by simpa using hp⟩,λa u e _=>U a u e,λa u e=>⟨u,U a u e⟩,λa u e=>.inl e⟩,⟨⟨b.now.fh.trans U, ?_, ?_,λk a c e1 e2=> ?_⟩,b.len,λi d e=> ?_⟩, ?_⟩
 ·refine Qt.mpr ⟨b.now.nd,by simp,λa ha x hx=> ?_⟩
  rw[ww.mp hx]
  rintro rfl
  exact pt ha
 ·simp[b.now.ln]
 ·by_cases hk:k<θ.length
  ·rw[w6 hk] at e1
   rw[w6 (by rw[<- b.now.ln];exact hk)] at e2
   have q:=b.now.ce k a c e1 e2
   obtain⟨u,hu⟩:=q.there
   cases c with
   | dead=>exact⟨u,U a u hu⟩
   | lst ds=>
    obtain⟨q1,ys,q2,Y⟩:=q
    exact⟨q1,ys,U _ _ q2,Y.mono (bJ.refl _) ⟨[p],rfl⟩⟩
   | ins c ns ds=>
    obtain⟨q1,dx,ys,q2,Y,q4⟩:=q
    exact⟨q1,dx,ys,U _ _ q2,Y,q4.mono (bJ.refl _) ⟨[p],rfl⟩⟩
  ·have ab:k<(θ++[p]).length:=(wP.mp e1).1
   have ac:k=θ.length:=by simp at ab;omega
   subst ac
   rw[wn (wf _)] at e1
   rw[wn (by rw[b.now.ln];exact wf _),b.now.ln] at e2
   simp at e1 e2
   subst e1;subst e2
   exact⟨fp,xs,bZ,hr.mono (bJ.refl _) ⟨[p],rfl⟩⟩
 ·obtain⟨v,h1,h2⟩:=b.sl i d e
  exact⟨v,h1,h2.mono (bJ.refl _) ⟨[p],rfl⟩⟩
 ·unfold Rep
  exact⟨p,rfl,by rw[<- b.now.ln];simp⟩
theorem BS.set{σ:St}(b:BS K ca σ H F θ s)(h:Rep K ca θ F d v)(i:Nat):BS K ca (σ.set i (some v)) H F θ ⟨s.r.set i (some d),s.o⟩:=by
 refine⟨b.now,by simp[b.len],λj e Y=> ?_⟩
 by_cases U:i=j
 ·subst U
  have ab:i<s.r.length:=by
   have:=(wP.mp Y).1
   simpa using this
  rw[Pe ab] at Y
  cases Y
  exact⟨v,Pe (by rw[b.len];exact ab),h⟩
 ·rw[Pf U] at Y
  obtain⟨u,h1,h2⟩:=b.sl j e Y
  exact⟨u,by rw[Pf U];exact h1,h2⟩
abbrev EM:=S->Res (D×S)
abbrev AM:=S->Res (List D×S)
inductive Out where
 | next (s:S) | ret (d:D) (s:S) | brk (s:S) | cnt (s:S) | exc (c:Nat) (a:D) (o:S) | bad
abbrev SM:=S->Out
def PoR{α:Type}(C:Ct)(H F:Hp)(θ:List Addr)(x:Res α)(k:α->Hp->Hp->List Addr->Prop):Prop:=match x with
 | .ok a=>∀H1 F1 θ1,Stp H F θ H1 F1 θ1->k a H1 F1 θ1
 | .exc c a o=>∀H1 F1 θ1,Stp H F θ H1 F1 θ1->Now C.K C.ca H1 F1 θ1 o.o->C.W c a o H1 F1 θ1
 | .bad=>False
abbrev PoE(C:Ct)(σ:St)(H F:Hp)(θ:List Addr)(x:Res (D×S))(Q:VK):Prop:=
 PoR C H F θ x λy H1 F1 θ1=>BS C.K C.ca σ H1 F1 θ1 y.2->∀v,Rep C.K C.ca θ1 F1 y.1 v->Q v H1
abbrev PoA(C:Ct)(σ:St)(H F:Hp)(θ:List Addr)(x:Res (List D×S))(Q:List V->Hp->Prop):Prop:=
 PoR C H F θ x λy H1 F1 θ1=>BS C.K C.ca σ H1 F1 θ1 y.2->∀v,aG C.K C.ca θ1 F1 y.1 v->Q v H1
abbrev PoT(C:Ct)(σ:St)(H F:Hp)(θ:List Addr)(x:Res (Bool×S))(Q:Bool->Hp->Prop):Prop:=
 PoR C H F θ x λy H1 F1 θ1=>BS C.K C.ca σ H1 F1 θ1 y.2->Q y.1 H1
abbrev PoG(C:Ct)(H F:Hp)(θ:List Addr)(x:Res S)(Q:St->Hp->Prop):Prop:=
 PoR C H F θ x λy H1 F1 θ1=>∀U,BS C.K C.ca U H1 F1 θ1 y->Q U H1
def PoS(C:Ct)(H F:Hp)(θ:List Addr)(x:Out)(Q:Ends):Prop:=match x with
 | .next s1=>∀U H1 F1 θ1,Stp H F θ H1 F1 θ1->BS C.K C.ca U H1 F1 θ1 s1->Q.nx U H1
 | .ret d s1=>∀v U H1 F1 θ1,Stp H F θ H1 F1 θ1->BS C.K C.ca U H1 F1 θ1 s1->Rep C.K C.ca θ1 F1 d v->Q.rt v H1
 | .brk s1=>∀U H1 F1 θ1,Stp H F θ H1 F1 θ1->BS C.K C.ca U H1 F1 θ1 s1->Q.bk U H1
 | .cnt s1=>∀U H1 F1 θ1,Stp H F θ H1 F1 θ1->BS C.K C.ca U H1 F1 θ1 s1->Q.ct U H1
 | .exc c a o=>∀H1 F1 θ1,Stp H F θ H1 F1 θ1->Now C.K C.ca H1 F1 θ1 o.o->C.W c a o H1 F1 θ1
 | .bad=>False
theorem PoR.after{α:Type}{x:Res α}{k:α->Hp->Hp->List Addr->Prop}(st:Stp H F θ H1 F1 θ1)(p:PoR C H F θ x k):PoR C H1 F1 θ1 x k:=by
 unfold PoR at p ⊢
 cases x with
 | ok a=>exact λH2 U θ2 s2=>p H2 U θ2 (st.trans s2)
 | exc c a o=>exact λH2 U θ2 s2 n=>p H2 U θ2 (st.trans s2) n
 | bad=>exact p
theorem PoR.bind {α β:Type} {C:Ct} {H F:Hp} {θ:List Addr} {x:Res α} {f:α->Res β} {k:α->Hp->Hp->List Addr->Prop} {j:β->Hp->Hp->List Addr->Prop}
 (p:PoR C H F θ (x.bind f) j) (h:∀a H1 F1 θ1,x=.ok a->Stp H F θ H1 F1 θ1->PoR C H1 F1 θ1 (f a) j->k a H1 F1 θ1):PoR C H F θ x k:=by
 cases x with
 | ok a=>exact λH1 F1 θ1 st=>h a H1 F1 θ1 rfl st (PoR.after st p)
 | exc c a o=>exact p
 | bad=>exact p
theorem PoS.after{x:Out}{Q:Ends}(st:Stp H F θ H1 F1 θ1)(p:PoS C H F θ x Q):PoS C H1 F1 θ1 x Q:=by
 unfold PoS at p ⊢
 cases x with
 | next s=>exact λv H2 U θ2 s2 b=>p v H2 U θ2 (st.trans s2) b
 | ret d s=>exact λv Y H2 U θ2 s2 b r=>p v Y H2 U θ2 (st.trans s2) b r
 | brk s=>exact λv H2 U θ2 s2 b=>p v H2 U θ2 (st.trans s2) b
 | cnt s=>exact λv H2 U θ2 s2 b=>p v H2 U θ2 (st.trans s2) b
 | exc c a o=>exact λH2 U θ2 s2 n=>p H2 U θ2 (st.trans s2) n
 | bad=>exact p
def Res.out{α:Type}(x:Res α)(f:α->Out):Out:=match x with
 | .ok a=>f a
 | .exc c a o=>.exc c a o
 | .bad=>.bad
@[simp] theorem jQ {α:Type} (a:α) (f:α->Out):(Res.ok a).out f=f a:=rfl
@[simp] theorem Ow {α:Type} (c:Nat) (a:D) (o:S) (f:α->Out):(Res.exc c a o:Res α).out f=.exc c a o:=rfl
@[simp] theorem Ou {α:Type} (f:α->Out):(Res.bad:Res α).out f=.bad:=rfl
theorem PoS.out {α:Type} {C:Ct} {H F:Hp} {θ:List Addr} {x:Res α} {f:α->Out} {k:α->Hp->Hp->List Addr->Prop} {Q:Ends}
 (p:PoS C H F θ (x.out f) Q) (h:∀a H1 F1 θ1,x=.ok a->Stp H F θ H1 F1 θ1->PoS C H1 F1 θ1 (f a) Q->k a H1 F1 θ1):PoR C H F θ x k:=by
 cases x with
 | ok a=>exact λH1 F1 θ1 st=>h a H1 F1 θ1 rfl st (PoS.after st p)
 | exc c a o=>exact p
 | bad=>exact p
def RdE(C:Ct)(t:TE)(m:EM):Prop:=∀σ H F θ s Q,BS C.K C.ca σ H F θ s->PoE C σ H F θ (m s) Q->t σ H Q
def RdA(C:Ct)(t:TA)(m:AM):Prop:=∀σ H F θ s Q,BS C.K C.ca σ H F θ s->PoA C σ H F θ (m s) Q->t σ H Q
abbrev TM:=S->Res (Bool×S)
def RdT(C:Ct)(t:TT)(m:TM):Prop:=∀σ H F θ s Q,BS C.K C.ca σ H F θ s->PoT C σ H F θ (m s) Q->t σ H Q
abbrev GM:=D->S->Res S
def RdG(C:Ct)(t:TG)(m:GM):Prop:=∀σ H F θ s d v Q,BS C.K C.ca σ H F θ s->Rep C.K C.ca θ F d v->PoG C H F θ (m d s) Q->t v σ H Q
def RdS(C:Ct)(t:TS)(m:SM):Prop:=∀σ H F θ s Q,BS C.K C.ca σ H F θ s->PoS C H F θ (m s) Q->t Q σ H
section
variable {C : Ct}
@[simp] theorem gc {K ca θ F v}:Rep K ca θ F .non v↔v=.non:=by unfold Rep;exact S7
@[simp] theorem cI {K ca θ F v b}:Rep K ca θ F (.bl b) v↔v=.bl b:=by unfold Rep;exact S7
@[simp] theorem bg {K ca θ F v i}:Rep K ca θ F (.int i) v↔v=.int i:=by unfold Rep;exact S7
@[simp] theorem dj {K ca θ F v x}:Rep K ca θ F (.str x) v↔v=.str x:=by unfold Rep;exact S7
def aa(i:Nat):EM:=λs=>match s.r[i]? with
 | some (some d)=>.ok (d,s)
 | _=>.bad
theorem ah(i:Nat):RdE C (IP i) (aa i):=by
 intro σ H F θ s Q b p
 unfold aa at p
 split at p
 ·rename_i d e
  obtain⟨v,h1,h2⟩:=b.sl i d e
  exact⟨v,h1,p H F θ .refl b v h2⟩
 ·exact p.elim
def ar(d:D):EM:=λs=>.ok (d,s)
theorem aC(i:Int):RdE C (tC (.int i)) (ar (.int i)):=λσ H F θ s Q b p=>p H F θ .refl b (.int i) (bg.mpr rfl)
theorem zP(i:Bool):RdE C (tC (.bl i)) (ar (.bl i)):=λσ H F θ s Q b p=>p H F θ .refl b (.bl i) (cI.mpr rfl)
theorem dC(i:Str):RdE C (tC (.str i)) (ar (.str i)):=λσ H F θ s Q b p=>p H F θ .refl b (.str i) (dj.mpr rfl)
theorem MY:RdE C (tC .non) (ar .non):=λσ H F θ s Q b p=>p H F θ .refl b .non (gc.mpr rfl)
abbrev Op2:=aB->D->D->Res D
abbrev Op1:=aB->D->Res D
def gh(C:Ct)(r:R2)(f:Op2):Prop:=∀σ H F θ s x y v w Q,BS C.K C.ca σ H F θ s->Rep C.K C.ca θ F x v->Rep C.K C.ca θ F y w->
 PoE C σ H F θ ((f s.o x y).bind λd=>.ok (d,s)) Q->r v w H Q
def aq(f:Op2)(ma mb:EM):EM:=λs=>(ma s).bind λx=>(mb x.2).bind λy=>(f y.2.o x.1 y.1).bind λd=>.ok (d,y.2)
theorem aw{r:R2}{f:Op2}{ta tb:TE}{ma mb:EM}(Y:gh C r f)(ha:RdE C ta ma)(hb:RdE C tb mb):RdE C (tOp r ta tb) (aq f ma mb):=by
 intro σ H F θ s Q b p
 refine ha σ H F θ s _ b (PoR.bind p ?_)
 rintro ⟨x,s1⟩ H1 F1 θ1 _ ab p1 b1 v r1
 refine hb σ H1 F1 θ1 s1 _ b1 (PoR.bind p1 ?_)
 rintro ⟨y,s2⟩ H2 F2 θ2 _ U p2 b2 w r2
 exact Y σ H2 F2 θ2 s2 x y v w Q b2 (r1.mono U.ff U.pre) r2 p2
def LS(C:Ct)(r:V->Hp->VK->Prop)(f:Op1):Prop:=∀σ H F θ s x v Q,BS C.K C.ca σ H F θ s->Rep C.K C.ca θ F x v->
 PoE C σ H F θ ((f s.o x).bind λd=>.ok (d,s)) Q->r v H Q
def unM(f:Op1)(ma:EM):EM:=λs=>(ma s).bind λx=>(f x.2.o x.1).bind λd=>.ok (d,x.2)
theorem qT{r:V->Hp->VK->Prop}{f:Op1}{ta:TE}{ma:EM}(U:LS C r f)(ha:RdE C ta ma):RdE C (tUn r ta) (unM f ma):=by
 intro σ H F θ s Q b p
 refine ha σ H F θ s _ b (PoR.bind p ?_)
 rintro ⟨x,s1⟩ H1 F1 θ1 _ Y p1 b1 v r1
 exact U σ H1 F1 θ1 s1 x v Q b1 r1 p1
def ao:AM:=λs=>.ok ([],s)
def af(m:EM)(r:AM):AM:=λs=>(m s).bind λx=>(r x.2).bind λy=>.ok (x.1::y.1,y.2)
theorem av:RdA C k6 ao:=λσ H F θ s Q b p=>p H F θ .refl b [] aG.nil
theorem aj{r:AM}(Y:RdE C te m)(ha:RdA C ta r):RdA C (fY te ta) (af m r):=by
 intro σ H F θ s Q b p
 refine Y σ H F θ s _ b (PoR.bind p ?_)
 rintro ⟨x,s1⟩ H1 F1 θ1 _ ab p1 b1 v r1
 refine ha σ H1 F1 θ1 s1 _ b1 (PoR.bind p1 ?_)
 rintro ⟨y,s2⟩ H2 F2 θ2 _ U p2 b2 w r2
 exact p2 H2 F2 θ2 .refl b2 (v::w) (aG.cons (r1.mono U.ff U.pre) r2)
abbrev OpN:=aB->List D->Res D
def i9(C:Ct)(r:List V->Hp->VK->Prop)(f:OpN):Prop:=∀σ H F θ s xs vs Q,BS C.K C.ca σ H F θ s->aG C.K C.ca θ F xs vs->
 PoE C σ H F θ ((f s.o xs).bind λd=>.ok (d,s)) Q->r vs H Q
def aX(f:OpN)(ma:AM):EM:=λs=>(ma s).bind λx=>(f x.2.o x.1).bind λd=>.ok (d,x.2)
theorem a6{r:List V->Hp->VK->Prop}{f:OpN}(hc:i9 C r f)(ha:RdA C ta ma):RdE C (tCB r ta) (aX f ma):=by
 intro σ H F θ s Q b p
 refine ha σ H F θ s _ b (PoR.bind p ?_)
 rintro ⟨x,s1⟩ H1 F1 θ1 _ U p1 Y v r1
 exact hc σ H1 F1 θ1 s1 x v Q Y r1 p1
def lI(ma:AM):EM:=λs=>(ma s).bind λx=>if x.1.length<=16777216 then .ok (.tup x.1,x.2) else .bad
theorem o3(ha:RdA C ta ma):RdE C (GQ ta) (lI ma):=by
 intro σ H F θ s Q b p
 refine ha σ H F θ s _ b (PoR.bind p ?_)
 rintro ⟨x,s1⟩ H1 F1 θ1 _ Y p1 b1 v U
 dsimp only at p1
 split at p1
 ·rename_i hl
  refine⟨by rw[U.length];exact hl,λq hq=> ?_⟩
  obtain⟨st,b2,sF,e⟩:=b1.newF hq (.tup v)
  refine p1 _ _ _ st b2 _ ?_
  unfold Rep
  exact⟨q,v,rfl,SqT.of e,U.mono sF ⟨[],by simp⟩⟩
 ·exact p1.elim
def dI(ma:AM):EM:=λs=>(ma s).bind λx=>if x.1.length<=16777216 then .ok (.lst x.1,x.2) else .bad
theorem gk(ha:RdA C ta ma):RdE C (Bd ta) (dI ma):=by
 intro σ H F θ s Q b p
 refine ha σ H F θ s _ b (PoR.bind p ?_)
 rintro ⟨x,s1⟩ H1 F1 θ1 _ Y p1 b1 v U
 dsimp only at p1
 split at p1
 ·rename_i hl
  refine⟨by rw[U.length];exact hl,λq hq=> ?_⟩
  obtain⟨st,b2,sF,e⟩:=b1.newF hq (.lst v)
  refine p1 _ _ _ st b2 _ ?_
  unfold Rep
  exact⟨q,v,rfl,SqL.of e,U.mono sF ⟨[],by simp⟩⟩
 ·exact p1.elim
def jf(ma:AM):EM:=λs=>(ma s).bind λx=>if x.1.length<=16777216 then .ok (.ptr x.2.o.length,⟨x.2.r,x.2.o++[.lst x.1]⟩) else .bad
theorem jB(ha:RdA C ta ma):RdE C (Bd ta) (jf ma):=by
 intro σ H F θ s Q b p
 refine ha σ H F θ s _ b (PoR.bind p ?_)
 rintro ⟨x,s1⟩ H1 F1 θ1 _ Y p1 b1 v U
 dsimp only at p1
 split at p1
 ·rename_i hl
  refine⟨by rw[U.length];exact hl,λq hq=> ?_⟩
  obtain⟨st,b2,rp⟩:=b1.newC hq U
  exact p1 _ _ _ st b2 _ rp
 ·exact p1.elim
def a7(m:EM):TM:=λs=>(m s).bind λx=>match x.1 with
 | .bl b=>.ok (b,x.2)
 | _=>.bad
theorem bF(h:RdE C t m):RdT C (DF t) (a7 m):=by
 intro σ H F θ s Q b p
 refine h σ H F θ s _ b (PoR.bind p ?_)
 rintro ⟨x,s1⟩ H1 F1 θ1 _ U p1 Y v r1
 cases x <;> first | exact ss p1 | skip
 rename_i k _
 exact⟨k,cI.mp r1,p1 _ _ _ .refl Y⟩
theorem iB(h:RdE C t m):RdT C (tB t) (a7 m):=bF h
def jM(a b:TM):TM:=λs=>(a s).bind λx=>if x.1 then b x.2 else .ok (false,x.2)
def orT(a b:TM):TM:=λs=>(a s).bind λx=>if x.1 then .ok (true,x.2) else b x.2
def nD(a:TM):TM:=λs=>(a s).bind λx=>.ok (!x.1,x.2)
theorem qo{t u:TT}{a b:TM}(ha:RdT C t a)(hb:RdT C u b):RdT C (Lr t u) (jM a b):=by
 intro σ H F θ s Q bs p
 refine ha σ H F θ s _ bs (PoR.bind p ?_)
 rintro ⟨x,s1⟩ H1 F1 θ1 _ Y p1 U
 cases x with
 | true=>exact su (hb σ H1 F1 θ1 s1 Q U p1)
 | false=>exact tm (p1 _ _ _ .refl U)
theorem t4{t u:TT}{a b:TM}(ha:RdT C t a)(hb:RdT C u b):RdT C (tOr t u) (orT a b):=by
 intro σ H F θ s Q bs p
 refine ha σ H F θ s _ bs (PoR.bind p ?_)
 rintro ⟨x,s1⟩ H1 F1 θ1 _ Y p1 U
 cases x with
 | true=>exact su (p1 _ _ _ .refl U)
 | false=>exact tm (hb σ H1 F1 θ1 s1 Q U p1)
theorem oq{t:TT}{a:TM}(ha:RdT C t a):RdT C (MJ t) (nD a):=by
 intro σ H F θ s Q bs p
 refine ha σ H F θ s _ bs (PoR.bind p ?_)
 rintro ⟨x,s1⟩ H1 F1 θ1 _ U p1 Y
 exact p1 _ _ _ .refl Y
def Ie(a b:EM):EM:=λs=>(a s).bind λx=>match x.1 with
 | .bl true=>b x.2
 | .bl false=>.ok (.bl false,x.2)
 | _=>.bad
def orV(a b:EM):EM:=λs=>(a s).bind λx=>match x.1 with
 | .bl true=>.ok (.bl true,x.2)
 | .bl false=>b x.2
 | _=>.bad
def GK(a:EM):EM:=λs=>(a s).bind λx=>match x.1 with
 | .bl k=>.ok (.bl (!k),x.2)
 | _=>.bad
theorem Kc{t u:TE}{a b:EM}(ha:RdE C t a)(hb:RdE C u b):RdE C (I0 t u) (Ie a b):=by
 intro σ H F θ s Q bs p
 refine ha σ H F θ s _ bs (PoR.bind p ?_)
 rintro ⟨x,s1⟩ H1 F1 θ1 _ Y p1 U v r1
 cases x <;> first | exact ss p1 | skip
 rename_i k _
 refine⟨k,cI.mp r1, ?_⟩
 cases k with
 | true=>exact su (hb σ H1 F1 θ1 s1 Q U p1)
 | false=>exact tm (p1 _ _ _ .refl U _ (cI.mpr rfl))
theorem JQ{a:EM}(ha:RdE C t a):RdE C (Jd t) (GK a):=by
 intro σ H F θ s Q bs p
 refine ha σ H F θ s _ bs (PoR.bind p ?_)
 rintro ⟨x,s1⟩ H1 F1 θ1 _ U p1 Y v r1
 cases x <;> first | exact ss p1 | skip
 rename_i k _
 exact⟨k,cI.mp r1,p1 _ _ _ .refl Y _ (cI.mpr rfl)⟩
def ifM(c:TM)(a b:EM):EM:=λs=>(c s).bind λx=>if x.1 then a x.2 else b x.2
def Out.then(x:Out)(f:S->Out):Out:=match x with
 | .next s=>f s
 | o=>o
@[simp] theorem yo (s:S) (f:S->Out):(Out.next s).then f=f s:=rfl
@[simp] theorem N4 (d:D) (s:S) (f:S->Out):(Out.ret d s).then f=.ret d s:=rfl
@[simp] theorem NT (s:S) (f:S->Out):(Out.brk s).then f=.brk s:=rfl
@[simp] theorem NK (s:S) (f:S->Out):(Out.cnt s).then f=.cnt s:=rfl
@[simp] theorem N3 (c:Nat) (a:D) (o:S) (f:S->Out):(Out.exc c a o).then f=.exc c a o:=rfl
@[simp] theorem N8 (f:S->Out):Out.bad.then f=.bad:=rfl
def aR(a b:SM):SM:=λs=>(a s).then b
def bI:SM:=λs=>.next s
theorem bz:RdS C Jb bI:=λσ H F θ s Q b p=>p σ H F θ .refl b
theorem aL{t u:TS}{a b:SM}(ha:RdS C t a)(hb:RdS C u b):RdS C (MO t u) (aR a b):=by
 intro σ H F θ s Q bs p
 refine ha σ H F θ s _ bs ?_
 unfold aR at p
 cases e:a s with
 | next s1=>
  rw[e] at p
  intro Y H1 F1 θ1 U b1
  exact hb Y H1 F1 θ1 s1 Q b1 (PoS.after U p)
 | ret d s1=>rw[e] at p;exact p
 | brk s1=>rw[e] at p;exact p
 | cnt s1=>rw[e] at p;exact p
 | exc c a o=>rw[e] at p;exact p
 | bad=>rw[e] at p;exact p
def cP(m:EM):SM:=λs=>(m s).out λx=>.next x.2
theorem cT(h:RdE C t m):RdS C (Jt t) (cP m):=by
 intro σ H F θ s Q b p
 refine h σ H F θ s _ b (PoS.out p ?_)
 rintro ⟨x,s1⟩ H1 F1 θ1 _ U p1 Y v r1
 exact p1 σ H1 F1 θ1 .refl Y
def bS(m:EM):SM:=λs=>(m s).out λx=>.ret x.1 x.2
theorem br(h:RdE C t m):RdS C (LF t) (bS m):=by
 intro σ H F θ s Q b p
 refine h σ H F θ s _ b (PoS.out p ?_)
 rintro ⟨x,s1⟩ H1 F1 θ1 _ U p1 Y v r1
 exact p1 v σ H1 F1 θ1 .refl Y r1
def NU:SM:=λs=>.ret .non s
def ifS(c:TM)(a b:SM):SM:=λs=>(c s).out λx=>if x.1 then a x.2 else b x.2
theorem b8{t:TT}{u w:TS}{c:TM}{a b:SM}(hc:RdT C t c)(ha:RdS C u a)(hb:RdS C w b):RdS C (Ms t u w) (ifS c a b):=by
 intro σ H F θ s Q bs p
 refine hc σ H F θ s _ bs (PoS.out p ?_)
 rintro ⟨x,s1⟩ H1 F1 θ1 _ Y p1 U
 cases x with
 | true=>exact su (ha σ H1 F1 θ1 s1 Q U p1)
 | false=>exact tm (hb σ H1 F1 θ1 s1 Q U p1)
def j7:SM:=λ_=>.bad
theorem fT:RdS C EA j7:=λσ H F θ s Q b p=>p
def aF(i:Nat):GM:=λd s=>.ok ⟨s.r.set i (some d),s.o⟩
theorem aQ(i:Nat):RdG C (uB i) (aF i):=λσ H F θ s d v Q b r p=>p H F θ .refl _ (b.set r i)
def Dz(C:Ct)(t:TGs)(m:List D->S->Res S):Prop:=∀σ H F θ s ds vs Q,BS C.K C.ca σ H F θ s->aG C.K C.ca θ F ds vs->PoG C H F θ (m ds s) Q->t vs σ H Q
def cS:List D->S->Res S:=λds s=>match ds with
 | []=>.ok s
 | _=>.bad
def aZ(g:GM)(r:List D->S->Res S):List D->S->Res S:=λds s=>match ds with
 | d::ds=>(g d s).bind λs1=>r ds s1
 | []=>.bad
theorem fI:Dz C Mr cS:=by
 intro σ H F θ s ds vs Q b r p
 cases ds with
 | nil=>exact⟨by unfold aG at r;exact r,p H F θ .refl σ b⟩
 | cons d ds=>exact ss p
theorem bP{t:TG}{u:TGs}{g:GM}{m:List D->S->Res S}(Y:RdG C t g)(hr:Dz C u m):Dz C (IY t u) (aZ g m):=by
 intro σ H F θ s ds vs Q b r p
 cases ds with
 | nil=>exact ss p
 | cons d ds=>
  unfold aG at r
  obtain⟨v,w,rfl,r1,r2⟩:=r
  refine⟨v,w,rfl,Y σ H F θ s d v _ b r1 (PoR.bind p ?_)⟩
  intro s1 H1 F1 θ1 _ U p1 σ1 b1
  exact hr σ1 H1 F1 θ1 s1 ds w Q b1 (r2.mono U.ff U.pre) p1
def cQ(m:List D->S->Res S)(n:Nat):GM:=λd s=>match d with
 | .tup ds=>if ds.length=n then m ds s else .bad
 | _=>.bad
theorem fJ{t:TGs}{m:List D->S->Res S}(h:Dz C t m):RdG C (Mi C.K n t) (cQ m n):=by
 intro σ H F θ s d v Q b r p
 cases d <;> first | exact ss p | skip
 rename_i ds
 unfold Rep at r
 obtain⟨a,xs,rfl,Y,U⟩:=r
 unfold cQ at p
 dsimp only at p
 split at p
 ·rename_i hl
  exact⟨a,xs,rfl,bJ.seqT b.now.fh Y,by rw[U.length];exact hl,h σ H F θ s ds xs Q b U p⟩
 ·exact ss p
def kc(m:EM)(g:GM):SM:=λs=>((m s).bind λx=>g x.1 x.2).out λs=>.next s
theorem xa(h:RdE C t m)(hg:RdG C g gm):RdS C (zX t g) (kc m gm):=by
 intro σ H F θ s Q b p
 have p':PoG C H F θ ((m s).bind λx=>gm x.1 x.2) Q.nx:=PoS.out p λs1 H1 F1 θ1 _ U p1 σ1 Y=>p1 σ1 H1 F1 θ1 .refl Y
 refine h σ H F θ s _ b (PoR.bind p' ?_)
 rintro ⟨x,s1⟩ H1 F1 θ1 _ U p1 Y v r1
 exact hg σ H1 F1 θ1 s1 x v Q.nx Y r1 p1
abbrev setM(i:Nat)(m:EM):SM:=kc m (aF i)
theorem aY(h:RdE C t m):RdS C (zX t (uB i)) (setM i m):=xa h (aQ i)
def NY(i:Nat)(f:Op2)(m:EM):SM:=setM i (aq f (aa i) m)
end
open PySem PySem.Spec PyProof.Rows L2
section
variable {C : Ct}
structure sC(C:Ct)(J:It)(ds:List D)(ok:aB->Prop)(H F:Hp)(θ:List Addr):Prop where
 go:∀(i:Nat) H2 F2 θ2 O2,i<ds.length->Stp H F θ H2 F2 θ2->Now C.K C.ca H2 F2 θ2 O2->ok O2->J.go i H2
 yl:∀(i:Nat) d σ H2 F2 θ2 s2 x H3,ds[i]? =some d->Stp H F θ H2 F2 θ2->BS C.K C.ca σ H2 F2 θ2 s2->ok s2.o->J.yld i H2 x H3->∃F3,Stp H2 F2 θ2 H3 F3 θ2/\BS C.K C.ca σ H3 F3 θ2 s2/\Rep C.K C.ca θ2 F3 d x
 st:∀(i:Nat) H2 F2 θ2 O2,ds.length<=i->Stp H F θ H2 F2 θ2->Now C.K C.ca H2 F2 θ2 O2->ok O2->J.stop i H2
def okC(ds:List D):Option Nat->aB->Prop
 | none,_=>True
 | some k,O=>O[k]? =some (.lst ds)
abbrev IM:=S->Res ((List D×Option Nat)×S)
def RdI(C:Ct)(wi:TI)(im:IM):Prop:=∀σ H F θ s R,BS C.K C.ca σ H F θ s->
 PoR C H F θ (im s) (λy H1 F1 θ1=>BS C.K C.ca σ H1 F1 θ1 y.2->∀J,sC C J y.1.1 (okC y.1.1 y.1.2) H1 F1 θ1->R J H1)->wi σ H R
open Classical in
noncomputable def cD (ok:aB->Prop)(g:GM)(body:SM):List D->S->Out
 | [],s=>if ok s.o then .next s else .bad
 | d::ds,s=>if ok s.o then (g d s).out λs1=>match body s1 with
  | .next s2=>cD ok g body ds s2
  | .cnt s2=>cD ok g body ds s2
  | .brk s2=>.next s2
  | o=>o
  else .bad
noncomputable def fS (im:IM)(g:GM)(body:SM):SM:=λs=>(im s).out λy=>cD (okC y.1.1 y.1.2) g body y.1.1 y.2
theorem fg{tb:TS}{bm:SM}(hi:RdI C wi im)(hg:RdG C g gm)(hb:RdS C tb bm):RdS C (Lm wi g tb) (fS im gm bm):=by
 intro σ H F θ s Q b p
 refine hi σ H F θ s _ b (PoS.out p ?_)
 rintro ⟨⟨ds,k⟩,s1⟩ H1 F1 θ1 _ b2 p1 b1 J it
 dsimp only at p1 it b1
 refine⟨λi m σ' H'=>m=ds.length-i/\i<=ds.length/\∃F' θ' s',Stp H1 F1 θ1 H' F' θ'/\BS C.K C.ca σ' H' F' θ' s'/\PoS C H' F' θ' (cD (okC ds k) gm bm (ds.drop i) s') Q,⟨ds.length,by simp,Ph _,F1,θ1,s1,.refl,b1,by simpa using p1⟩, ?_⟩
 rintro i m σ' H' ⟨rfl,b6,F',θ',s',st,bs,po⟩
 by_cases lt:i<ds.length
 ·right
  rw[Pw lt,cD] at po
  split at po
  ·rename_i ac
   refine⟨it.go i H' F' θ' s'.o lt st bs.now ac,λσ2 H2=>i+1<=ds.length/\∃F2 θ2 s2,Stp H1 F1 θ1 H2 F2 θ2/\BS C.K C.ca σ2 H2 F2 θ2 s2/\PoS C H2 F2 θ2 (cD (okC ds k) gm bm (ds.drop (i+1)) s2) Q,λσ2 H2 n=>⟨ds.length-(i+1),by omega,rfl,n⟩, ?_⟩
   intro x H3 hy
   obtain⟨F3,a1,b3,rp⟩:=it.yl i ds[i] σ' H' F' θ' s' x H3 (uX lt) st bs ac hy
   refine hg σ' H3 F3 θ' s' ds[i] x _ b3 rp (PoS.out (PoS.after a1 po) ?_)
   intro s4 H4 F4 θ4 _ bi U σ4 b4
   refine hb σ4 H4 F4 θ4 s4 _ b4 ?_
   have a2:∀Y,PoS C H4 F4 θ4 (cD (okC ds k) gm bm (ds.drop (i+1)) Y) Q->∀σ5 H5 F5 θ5,Stp H4 F4 θ4 H5 F5 θ5->BS C.K C.ca σ5 H5 F5 θ5 Y->i+1<=ds.length/\∃F2 θ2 s2,Stp H1 F1 θ1 H5 F2 θ2/\BS C.K C.ca σ5 H5 F2 θ2 s2/\PoS C H5 F2 θ2 (cD (okC ds k) gm bm (ds.drop (i+1)) s2) Q:=
    λY p5 σ5 H5 F5 θ5 a3 b5=>⟨lt,F5,θ5,Y,st.trans (a1.trans (bi.trans a3)),b5,PoS.after a3 p5⟩
   cases e:bm s4 with
   | next Y=>rw[e] at U;exact a2 Y U
   | cnt Y=>rw[e] at U;exact a2 Y U
   | brk Y=>rw[e] at U;exact U
   | ret d Y=>rw[e] at U;exact U
   | exc c a o=>rw[e] at U;exact U
   | bad=>rw[e] at U;exact U
  ·exact ss po
 ·left
  rw[Q2 (by omega),cD] at po
  split at po
  ·rename_i ac
   exact⟨it.st i H' F' θ' s'.o (by omega) st bs.now ac,po σ' H' F' θ' .refl bs⟩
  ·exact ss po
def kv(c:TM)(b:SM):Nat->S->Out
 | 0,_=>.bad
 | n+1,s=>(c s).out λx=>if x.1 then (match b x.2 with
  | .next s2=>kv c b n s2
  | .cnt s2=>kv c b n s2
  | .brk s2=>.next s2
  | o=>o) else .next x.2
def wj(φ:S->Nat)(c:TM)(b:SM):SM:=λs=>kv c b (φ s) s
theorem Gz{tb:TS}{φ:S->Nat}{c:TM}{b:SM}(hc:RdT C tc c)(hb:RdS C tb b):RdS C (Gh tc tb) (wj φ c b):=by
 intro σ H F θ s Q bs p
 refine⟨λm Y H'=>∃F' θ' s',BS C.K C.ca Y H' F' θ' s'/\PoS C H' F' θ' (kv c b m s') Q,⟨φ s,F,θ,s,bs,p⟩, ?_⟩
 rintro m Y H' ⟨F',θ',s',b',po⟩
 cases m with
 | zero=>exact ss po
 | succ m=>
  rw[kv] at po
  refine hc Y H' F' θ' s' _ b' (PoS.out po ?_)
  rintro ⟨x,s1⟩ H1 F1 θ1 _ a4 p1 b1
  cases x with
  | false=>exact tm (p1 Y H1 F1 θ1 .refl b1)
  | true=>
   refine su ⟨λσ2 H2=>∃F2 θ2 s2,BS C.K C.ca σ2 H2 F2 θ2 s2/\PoS C H2 F2 θ2 (kv c b m s2) Q,λσ2 H2 n=>⟨m,Q5 _,n⟩, ?_⟩
   refine hb Y H1 F1 θ1 s1 _ b1 ?_
   dsimp only[if_true] at p1
   cases e:b s1 with
   | next s5=>rw[e] at p1;exact λσ5 H5 F5 θ5 U b5=>⟨F5,θ5,s5,b5,PoS.after U p1⟩
   | cnt s5=>rw[e] at p1;exact λσ5 H5 F5 θ5 U b5=>⟨F5,θ5,s5,b5,PoS.after U p1⟩
   | brk s5=>rw[e] at p1;exact p1
   | ret d s5=>rw[e] at p1;exact p1
   | exc c a o=>rw[e] at p1;exact p1
   | bad=>rw[e] at p1;exact p1
def itemsOf(O:aB):D->Res (List D×Option Nat)
 | .lst ds=>.ok (ds,none)
 | .ptr k=>match O[k]? with
  | some (.lst ds)=>.ok (ds,some k)
  | _=>.bad
 | _=>.bad
def listI(m:EM):IM:=λs=>(m s).bind λx=>(itemsOf x.2.o x.1).bind λy=>.ok (y,x.2)
theorem MA(hs:SqL C.K F a xs)(hr:aG C.K C.ca θ F ds xs)(inj:∀{σ H2 F2 θ2 s2},Stp H F θ H2 F2 θ2->BS C.K C.ca σ H2 F2 θ2 s2->SqL C.K H2 a xs):
 sC C (Itl C.K a) ds (okC ds none) H F θ where
 go:=λi H2 F2 θ2 O2 hi st n _=>by
  obtain⟨x,hx⟩:∃x,xs[i]? =some x:=⟨xs[i]'(by rw[hr.length];exact hi),uX _⟩
  exact⟨xs,x,n.fh.seq (st.ff.seq hs),hx⟩
 yl:=λi d σ H2 F2 θ2 s2 x H3 hd st b _ hy=>by
  obtain⟨rfl,hx⟩:=hy
  refine⟨F2,.refl,b, ?_⟩
  obtain⟨v,h1,h2⟩:=hr.get hd
  have:=hx xs (b.now.fh.seq (st.ff.seq hs))
  rw[h1] at this
  cases this
  exact h2.mono st.ff st.pre
 st:=λi H2 F2 θ2 O2 hi st n _=>⟨xs,n.fh.seq (st.ff.seq hs),by rw[hr.length];exact hi⟩
theorem cj{tl:TE}(h:RdE C tl m):RdI C (Jv C.K tl) (listI m):=by
 intro σ H F θ s R b p
 refine h σ H F θ s _ b (PoR.bind p ?_)
 rintro ⟨x,s1⟩ H1 F1 θ1 _ az p1 b1 v r1
 dsimp only at p1 b1 r1
 cases x <;> first | exact ss p1 | skip
 ·rename_i ds _
  unfold Rep at r1
  obtain⟨a,xs,rfl,hs,hr⟩:=r1
  exact⟨a,rfl,⟨xs,b1.now.fh.seq hs⟩,p1 _ _ _ .refl b1 _ (MA hs hr λst b=>b.now.fh.seq (st.ff.seq hs))⟩
 ·rename_i k _
  unfold Rep at r1
  obtain⟨a,rfl,hk⟩:=r1
  unfold itemsOf at p1
  dsimp only at p1
  split at p1
  ·rename_i ds ek
   obtain⟨q1,xs,q2,q3⟩:i6 C.K C.ca H1 F1 θ1 a (.lst ds):=b1.now.ce k a _ hk ek
   refine⟨a,rfl,⟨xs,SqL.of q2⟩,p1 _ _ _ .refl b1 _ ?_⟩
   have cell:∀{H2 U:Hp} {θ2:List Addr} {O2:aB},Stp H1 F1 θ1 H2 U θ2->Now C.K C.ca H2 U θ2 O2->O2[k]? =some (.lst ds)->∃ys,SqL C.K H2 a ys/\aG C.K C.ca θ2 U ds ys:=λ{H2 U θ2 O2} st n e=>by
    have ap:θ2[k]? =some a:=by
     obtain⟨r,rfl,_⟩:=st.th
     rw[w6 (wP.mp hk).1]
     exact hk
    obtain⟨_,ys,Y,w3⟩:i6 C.K C.ca H2 U θ2 a (.lst ds):=n.ce k a _ ap e
    exact⟨ys,SqL.of Y,w3⟩
   refine⟨λi H2 U θ2 O2 hi st n e=> ?_,λi d σ H2 U θ2 s2 x H3 hd st b e hy=> ?_,λi H2 U θ2 O2 hi st n e=> ?_⟩
   ·obtain⟨ys,w1,Y⟩:=cell st n e
    exact⟨ys,ys[i]'(by rw[Y.length];exact hi),w1,uX _⟩
   ·obtain⟨rfl,hx⟩:=hy
    obtain⟨ys,w1,Y⟩:=cell st b.now e
    obtain⟨v,h1,h2⟩:=Y.get hd
    have:=hx ys w1
    rw[h1] at this
    cases this
    exact⟨U,.refl,b,h2⟩
   ·obtain⟨ys,w1,Y⟩:=cell st n e
    exact⟨ys,w1,by rw[Y.length];exact hi⟩
  ·exact ss p1
def dY(lo hi:Int):List D:=(u8 (hi-lo).toNat).map λi=>.int (lo+(i:Nat))
theorem gB(lo hi:Int):(dY lo hi).length=(hi-lo).toNat:=by unfold dY;simp
theorem HK{lo hi:Int}:sC C (Itr lo (hi-lo).toNat) (dY lo hi) (okC (dY lo hi) none) H F θ where
 go:=λi H2 F2 θ2 O2 h st n _=>by rw[gB] at h;exact h
 yl:=λi d σ H2 F2 θ2 s2 x H3 hd st b _ hy=>by
  obtain⟨rfl,rfl⟩:=hy
  refine⟨F2,.refl,b, ?_⟩
  unfold dY at hd
  rw[xL] at hd
  cases e:(u8 (hi-lo).toNat)[i]? with
  | none=>rw[e] at hd;cases hd
  | some j=>
   rw[e] at hd
   cases hd
   obtain⟨_,rfl⟩:∃h,j=i:=⟨trivial,by have:=(wP.mp e).2;simpa using this.symm⟩
   exact bg.mpr rfl
 st:=λi H2 F2 θ2 O2 h st n _=>by rw[gB] at h;exact h
def cH(ma:AM):IM:=λs=>(ma s).bind λx=>match x.1 with
 | [.int j]=>if -(2^62)<=j/\j<2^62 then .ok ((dY 0 j,none),x.2) else .bad
 | _=>.bad
theorem nF{K ca θ F i vs}(h:aG K ca θ F [.int i] vs):vs=[.int i]:=by
 unfold aG at h
 obtain⟨v,r,rfl,h1,h2⟩:=h
 unfold aG at h2
 rw[h2,bg.mp h1]
theorem D3{K ca θ F i j vs}(h:aG K ca θ F [.int i,.int j] vs):vs=[.int i,.int j]:=by
 unfold aG at h
 obtain⟨v,r,rfl,h1,h2⟩:=h
 rw[nF h2,bg.mp h1]
theorem eI{m:AM}(h:RdA C ta m):RdI C (IS ta) (cH m):=by
 intro σ H F θ s R b p
 refine h σ H F θ s _ b (PoR.bind p ?_)
 rintro ⟨x,s1⟩ H1 F1 θ1 _ ac p1 U v Y
 dsimp only at p1 U Y
 split at p1
 ·rename_i j _
  split at p1
  ·rename_i hj
   refine⟨j,nF Y,hj.1,hj.2, ?_⟩
   have:=p1 _ _ _ .refl U _ (HK (lo:=0) (hi:=j))
   rw[Int.sub_zero] at this
   exact this
  ·exact ss p1
 ·exact ss p1
abbrev FM:=List D->aB->Res (D×aB)
def spM(K:sB)(ca:Nat->Addr)(n:Nat)(f:FM):Sp:=λvs H Q E=>∃F θ ds O,Now K ca H F θ O/\aG K ca θ F ds vs/\ds.length=n/\match f ds O with
 | .ok (d,O1)=>∀v H1 F1 θ1,Stp H F θ H1 F1 θ1->Now K ca H1 F1 θ1 O1->Rep K ca θ1 F1 d v->Q v H1
 | .exc c _ s1=>∀H1 F1 θ1,Stp H F θ H1 F1 θ1->Now K ca H1 F1 θ1 s1.o->E (.ref (ca c)) none H1
 | .bad=>False
def runM(n:Nat)(m:SM):FM:=λds O=>match m ⟨ds.map some++tz (n-ds.length) none,O⟩ with
 | .next s=>.ok (.non,s.o)
 | .ret d s=>.ok (d,s.o)
 | _=>.bad
def lN(n:Nat)(m:SM):FM:=λds O=>match m ⟨ds.map some++tz (n-ds.length) none,O⟩ with
 | .next s=>.ok (.non,s.o)
 | .ret d s=>.ok (d,s.o)
 | .exc c a o=>.exc c a o
 | _=>.bad
theorem vm{N:List Str}(n:Now K ca H F θ O)(r:aG K ca θ F ds vs):
 BS K ca (L2.start N vs) H F θ ⟨ds.map some++tz (N.length-ds.length) none,O⟩:=by
 refine⟨n,by unfold L2.start;simp[r.length],λi d e=> ?_⟩
 dsimp only at e
 have hi:i<ds.length:=by
  by_cases hi:i<ds.length
  ·exact hi
  ·rw[wn (by simpa using hi),Gc] at e
   split at e <;> cases e
 rw[w6 (by simpa using hi),xL] at e
 cases e1:ds[i]? with
 | none=>rw[e1] at e;cases e
 | some U=>
  rw[e1] at e
  cases e
  obtain⟨v,h1,h2⟩:=r.get e1
  refine⟨v, ?_,h2⟩
  unfold L2.start
  rw[w6 (by simpa[r.length] using hi),xL,h1]
  rfl
def W0:Wsh:=λ_ _ _ _ _ _=>False
theorem qp {P:Program} {w:World} {K:sB} {mg:Str->Option Value} {base:Heap} {ca:Nat->Addr} {x qual:Str} {st:Stmt} {f:Addr} {fd:FuncData} {N ps:List Str} {k n:Nat} {m:SM}
 (F:Fun K x qual st f fd) (S:a0 N ps (aJ st)) (hn:N.length=n)
 (hm:∀(U:Value) (A:Around) (outer:List Env) (s:Shared) (H:Hp) (E:XK),dk k (A.deeper (envOfC qual (aJ st) s.heap.objs.size f U))->
  ∃t,PSs (lr (CXE P w) P w K mg base N qual (aJ st) f U A outer s H E).nox (cE st) t/\RdS ⟨K,ca,W0⟩ t m):
 ip P w K mg base (CXE P w) (k+1) f fd ps (spM K ca ps.length (runM n m)):=by
 refine F.okE S (λvs H Q E h=> ?_) (λU A outer s H vs Q E hr h=> ?_)
 ·obtain⟨F,θ,ds,O,_,r,hl,_⟩:=h
  rw[r.length,hl]
 ·obtain⟨F,θ,ds,O,Y,r,hl,q⟩:=h
  obtain⟨t,ht,rd⟩:=hm U A outer s H E hr
  refine⟨t,ht.nox,rd _ H F θ _ _ (vm Y r) ?_⟩
  subst hn
  unfold runM at q
  cases e:m ⟨ds.map some++tz (N.length-ds.length) none,O⟩ with
  | next s1=>rw[e] at q;exact λσ1 H1 F1 θ1 st b=>q .non H1 F1 θ1 st b.now (gc.mpr rfl)
  | ret d s1=>rw[e] at q;exact λv σ1 H1 F1 θ1 st b rv=>q v H1 F1 θ1 st b.now rv
  | exc c a o=>rw[e] at q;exact ss q
  | brk s1=>rw[e] at q;exact ss q
  | cnt s1=>rw[e] at q;exact ss q
  | bad=>rw[e] at q;exact ss q
def WE(ca:Nat->Addr)(E:XK):Wsh:=λc _ _ H1 _ _=>E (.ref (ca c)) none H1
theorem uA {P:Program} {w:World} {mg:Str->Option Value} {base:Heap} {ca:Nat->Addr} {x qual:Str} {st:Stmt} {f:Addr} {fd:FuncData} {N ps:List Str} {k n:Nat} {m:SM} (F:Fun K x qual st f fd) (S:a0 N ps (aJ st)) (hn:N.length=n)
 (hm:∀(U:Value) (A:Around) (outer:List Env) (s:Shared) (H:Hp) (E:XK),dk k (A.deeper (envOfC qual (aJ st) s.heap.objs.size f U))->∃t,PSs (lr (CXE P w) P w K mg base N qual (aJ st) f U A outer s H E) (cE st) t/\RdS ⟨K,ca,WE ca E⟩ t m):
 ip P w K mg base (CXE P w) (k+1) f fd ps (spM K ca ps.length (lN n m)):=by
 refine F.okE S (λvs H Q E h=> ?_) (λU A outer s H vs Q E hr h=> ?_)
 ·obtain⟨F,θ,ds,O,_,r,hl,_⟩:=h
  rw[r.length,hl]
 ·obtain⟨F,θ,ds,O,Y,r,hl,q⟩:=h
  obtain⟨t,ht,rd⟩:=hm U A outer s H E hr
  refine⟨t,ht,rd _ H F θ _ _ (vm Y r) ?_⟩
  subst hn
  unfold lN at q
  cases e:m ⟨ds.map some++tz (N.length-ds.length) none,O⟩ with
  | next s1=>rw[e] at q;exact λσ1 H1 F1 θ1 st b=>q .non H1 F1 θ1 st b.now (gc.mpr rfl)
  | ret d s1=>rw[e] at q;exact λv σ1 H1 F1 θ1 st b rv=>q v H1 F1 θ1 st b.now rv
  | exc c a o=>rw[e] at q;exact λH1 F1 θ1 st n=>q H1 F1 θ1 st n
  | brk s1=>rw[e] at q;exact ss q
  | cnt s1=>rw[e] at q;exact ss q
  | bad=>rw[e] at q;exact ss q
theorem BS.called(b:BS K ca σ H F θ s)(st:Stp H F [] H1 F1 θ1)(n:Now K ca H1 F1 θ1 O1):
 Stp H F θ H1 F1 θ/\BS K ca σ H1 F1 θ s:=by
 have kp:∀b o,H b=some o->H1 b=some o:=λb o h=>st.kp b o h (by simp)
 have Y:∀b o,F1 b=some o->F b=some o\/H b=none:=λb o h=>by
  rcases st.nf b o h with z | z | z
  ·exact .inl z
  ·exact .inr z
  ·simp at z
 refine⟨⟨st.ff,⟨[],by simp,by simp⟩,λb o h _=>kp b o h,st.al,λb o h=>(Y b o h).elim .inl λz=>.inr (.inl z)⟩,⟨⟨n.fh,b.now.nd,b.now.ln,λk a c e1 e2=> ?_⟩,b.len,λi d e=> ?_⟩⟩
 ·have q:=b.now.ce k a c e1 e2
  obtain⟨u,hu⟩:=q.there
  have fn:F a=none->F1 a=none:=λh=>by
   cases e:F1 a with
   | none=>rfl
   | some o=>
    rcases Y a o e with z | z
    ·rw[h] at z;cases z
    ·rw[hu] at z;cases z
  cases c with
  | dead=>exact⟨u,kp a u hu⟩
  | lst ds=>
   obtain⟨q1,xs,q2,U⟩:=q
   exact⟨fn q1,xs,kp _ _ q2,U.mono st.ff ⟨[],by simp⟩⟩
  | ins c ns ds=>
   obtain⟨q1,dx,xs,q2,U,q4⟩:=q
   exact⟨fn q1,dx,xs,kp _ _ q2,U,q4.mono st.ff ⟨[],by simp⟩⟩
 ·obtain⟨v,h1,h2⟩:=b.sl i d e
  exact⟨v,h1,h2.mono st.ff ⟨[],by simp⟩⟩
def aN(n:Nat)(f:FM)(ma:AM):EM:=λs=>(ma s).bind λx=>if aM x.1=true/\x.1.length=n then (match f x.1 [] with
 | .ok (d,_)=>if cz d=true then .ok (d,x.2) else .bad
 | _=>.bad) else .bad
theorem aW(ha:RdA C ta ma):RdE C (nG (spM C.K C.ca n f) [] E ta) (aN n f ma):=by
 intro σ H F θ s Q b p
 refine ha σ H F θ s _ b (PoR.bind p ?_)
 rintro ⟨x,s1⟩ H1 F1 θ1 _ ae p1 U v r1
 dsimp only at p1 U r1 ⊢
 split at p1
 ·rename_i hp
  rw[PM]
  refine⟨F1,[],x,[],Now.nil U.now.fh,r1.pure hp.1,hp.2, ?_⟩
  split at p1
  ·rename_i d O1 e
   rw[e]
   intro v H2 F2 θ2 Y n2 rv
   split at p1
   ·rename_i pd
    obtain⟨ab,b3⟩:=U.called Y n2
    exact p1 H2 F2 θ1 ab b3 v (rv.pure pd)
   ·exact ss p1
  ·exact ss p1
 ·exact ss p1
end
section
variable {C : Ct}
theorem dF(p:PoE C σ H F θ ((Res.ok d).bind λd=>.ok (d,s)) Q)(b:BS C.K C.ca σ H F θ s)(r:Rep C.K C.ca θ F d v):Q v H:=p H F θ .refl b v r
theorem sO(p:PoE C σ H F θ ((Res.ok (D.lst ds)).bind λd=>.ok (d,s)) Q)(b:BS C.K C.ca σ H F θ s)(r:aG C.K C.ca θ F ds xs):
 ∀q,H q=none->Q (.ref q) (upd H q (.lst xs)):=λq hq=>by
 obtain⟨st,U,Y,e⟩:=b.newF hq (.lst xs)
 refine p _ _ _ st U _ ?_
 unfold Rep
 exact⟨q,xs,rfl,SqL.of e,r.mono Y ⟨[],by simp⟩⟩
def lsD(O:aB):D->Option (List D)
 | .lst ds=>some ds
 | .ptr k=>match O[k]? with
  | some (.lst ds)=>some ds
  | _=>none
 | _=>none
@[simp] theorem kr:lsD O (.lst ds)=some ds:=rfl
theorem eN(b:BS C.K C.ca σ H F θ s)(r:Rep C.K C.ca θ F d v)(e:lsD s.o d=some ds):∃a xs,v=.ref a/\SqL C.K H a xs/\aG C.K C.ca θ F ds xs:=by
 cases d <;> first | (simp[lsD] at e;done) | skip
 ·cases e
  unfold Rep at r
  obtain⟨a,xs,rfl,U,Y⟩:=r
  exact⟨a,xs,rfl,b.now.fh.seq U,Y⟩
 ·rename_i k
  unfold Rep at r
  obtain⟨a,rfl,hk⟩:=r
  unfold lsD at e
  dsimp only at e
  split at e
  ·rename_i ab ek
   cases e
   obtain⟨_,xs,h1,h2⟩:i6 C.K C.ca H F θ a (.lst ds):=b.now.ce k a _ hk ek
   exact⟨a,xs,rfl,SqL.of h1,h2⟩
  ·cases e
theorem w9(b:BS C.K C.ca σ H F θ s)(r:Rep C.K C.ca θ F (.tup ds) v):∃a xs,v=.ref a/\SqT C.K H a xs/\aG C.K C.ca θ F ds xs:=by
 unfold Rep at r
 obtain⟨a,xs,rfl,U,Y⟩:=r
 exact⟨a,xs,rfl,bJ.seqT b.now.fh U,Y⟩
def intD(g:Int->Int->Res D):Op2:=λ_ x y=>match x,y with
 | .int i,.int j=>g i j
 | _,_=>.bad
theorem qf{g:Int->Int->V}{f:Int->Int->D}(h:∀K ca θ F i j,Rep K ca θ F (f i j) (g i j)):gh C (rI0 g) (intD λi j=>.ok (f i j)):=by
 intro σ H F θ s x y v w Q b U Y p
 unfold intD at p
 split at p
 ·rename_i i j
  exact⟨i,j,bg.mp U,bg.mp Y,dF p b (h ..)⟩
 ·exact ss p
open Classical in
noncomputable def vz (c:Int->Int->Prop)(f:Int->Int->D):Op2:=intD λi j=>if c i j then .ok (f i j) else .bad
theorem wx{c:Int->Int->Prop}{g:Int->Int->V}{f:Int->Int->D}(h:∀K ca θ F i j,Rep K ca θ F (f i j) (g i j)):gh C (rI c g) (vz c f):=by
 intro σ H F θ s x y v w Q b U Y p
 unfold vz intD at p
 split at p
 ·rename_i i j
  dsimp only at p
  split at p
  ·rename_i hc
   exact⟨i,j,bg.mp U,bg.mp Y,hc,dF p b (h ..)⟩
  ·exact ss p
 ·exact ss p
def gX:Op2:=intD λi j=>.ok (.int (i-j))
noncomputable def bR:Op2:=vz IntMulOk λi j=>.int (i*j)
noncomputable def gw:Op2:=vz (λi j=>j≠0) λi j=>.int (i.fdiv j)
noncomputable def eM:Op2:=vz (λ_ j=>j≠0) λi j=>.int (i.fmod j)
noncomputable def mn:Op2:=vz HZ λi j=>.int (i^j.toNat)
def ltD:Op2:=intD λi j=>.ok (.bl (decide (i<j)))
def leD:Op2:=intD λi j=>.ok (.bl (decide (i<=j)))
def gtD:Op2:=intD λi j=>.ok (.bl (decide (j<i)))
def geD:Op2:=intD λi j=>.ok (.bl (decide (j<=i)))
def je:Op1:=λ_ x=>match x with
 | .int i=>.ok (.int (-i))
 | _=>.bad
section
variable {X : Cx}
theorem d8:OpR X (binaryOp .Mult) (rI IntMulOk λi j=>.int (i*j)):=opI λ_ _ _ _ _ _ _ hc q=>mul_int q hc
theorem kM(hd:X.A.depth+100<recursionLimit)(ht:X.prog.given.tree=none)(U:∃env l,X.stack=env::l/\env.scope.isGenerator=false/\env.scope.isCoroutine=false/\env.builtins=builtinsNs/\env.globals=mainGlobals):
 OpR X (binaryOp .FloorDiv) (rI (λi j=>j≠0) λi j=>.int (i.fdiv j)):=by
 intro pins s σ H x y v u Q I Y ry h
 obtain⟨i,j,rfl,rfl,hc,q⟩:=h
 obtain⟨t,rfl⟩:=Y
 obtain⟨t',rfl⟩:=ry
 obtain⟨env,l,e,h1,h2,h3,h4⟩:=U
 exact floordiv_int hc ⟨.int _,H,I.tok _,⟨_,rfl⟩,q⟩ (.inr (PylongRoom.of I.nolimit hd (SeerAt.of I.noseer ht (I.ok.frames.trans (by rw[e])) h1 h2 h3 h4)))
def zK(K:sB):R2:=λx y H Q=>rI0 (λi j=>.int (i+j)) x y H Q\/(∃i j,x=.str i/\y=.str j/\i.length+j.length<=sizeLine/\Q (.str (i++j)) H)\/Jc K x y H Q
theorem cx:OpR X (binaryOp .Add) (zK X.K):=L7.or (Dx.or JN)
end
def NZ:Op2:=intD λi j=>.ok (.int (i+j))
def bf:Op2:=λO x y=>match x,y with
 | .int i,.int j=>.ok (.int (i+j))
 | .str a,.str b=>if a.length+b.length<=16777216 then .ok (.str (a++b)) else .bad
 | x,y=>match lsD O x,lsD O y with
  | some a,some b=>if a.length+b.length<=16777216 then .ok (.lst (a++b)) else .bad
  | _,_=>.bad
theorem bQ:gh C (zK C.K) bf:=by
 intro σ H F θ s x y v w Q b Y ry p
 have U:∀{a c:List D},lsD s.o x=some a->lsD s.o y=some c->PoE C σ H F θ ((if a.length+c.length<=16777216 then Res.ok (D.lst (a++c)) else .bad).bind λd=>.ok (d,s)) Q->zK C.K v w H Q:=λ{a c} e1 e2 p=>by
  split at p
  ·rename_i hl
   obtain⟨l1,xs,rfl,s1,r1⟩:=eN b Y e1
   obtain⟨l2,ys,rfl,s2,r2⟩:=eN b ry e2
   exact .inr (.inr ⟨l1,l2,xs,ys,rfl,rfl,s1,s2,by rw[r1.length,r2.length];exact hl,sO p b (r1.append r2)⟩)
  ·exact ss p
 unfold bf at p
 split at p
 ·rename_i i j
  exact .inl ⟨i,j,bg.mp Y,bg.mp ry,dF p b (bg.mpr rfl)⟩
 ·rename_i i j
  split at p
  ·rename_i hl
   exact .inr (.inl ⟨i,j,dj.mp Y,dj.mp ry,hl,dF p b (dj.mpr rfl)⟩)
  ·exact ss p
 ·split at p
  ·rename_i a c e1 e2
   exact U e1 e2 p
  ·exact ss p
theorem lF:gh C (rI0 λi j=>.int (i-j)) gX:=qf λ_ _ _ _ _ _=>bg.mpr rfl
theorem dg:gh C (rI IntMulOk λi j=>.int (i*j)) bR:=wx λ_ _ _ _ _ _=>bg.mpr rfl
theorem jF:gh C (rI (λi j=>j≠0) λi j=>.int (i.fdiv j)) gw:=wx λ_ _ _ _ _ _=>bg.mpr rfl
theorem gM:gh C (rI (λ_ j=>j≠0) λi j=>.int (i.fmod j)) eM:=wx λ_ _ _ _ _ _=>bg.mpr rfl
theorem wB:gh C (rI HZ λi j=>.int (i^j.toNat)) mn:=wx λ_ _ _ _ _ _=>bg.mpr rfl
theorem kK:gh C (rI0 λi j=>.bl (decide (i<j))) ltD:=qf λ_ _ _ _ _ _=>cI.mpr rfl
theorem kU:gh C (rI0 λi j=>.bl (decide (j<i))) gtD:=qf λ_ _ _ _ _ _=>cI.mpr rfl
theorem M6:gh C (rI0 λi j=>.bl (decide (j<=i))) geD:=qf λ_ _ _ _ _ _=>cI.mpr rfl
theorem oG:LS C (rU λi=>.int (-i)) je:=by
 intro σ H F θ s x v Q b U p
 unfold je at p
 split at p
 ·rename_i i
  exact⟨i,bg.mp U,dF p b (bg.mpr rfl)⟩
 ·exact ss p
mutual
def toPy:D->Option PyData
 | .non=>some .none
 | .bl b=>some (.bool b)
 | .int i=>some (.int i)
 | .str x=>some (.str x)
 | .lst ds=>(jZ ds).map .list
 | .tup ds=>(jZ ds).map .tuple
 | .ptr _=>none
 | .obj _ _ _=>none
 | .exn _=>none
def jZ:List D->Option (List PyData)
 | []=>some []
 | d::ds=>match toPy d,jZ ds with
  | some a,some b=>some (a::b)
  | _,_=>none
end
mutual
def res(O:aB):D->D
 | .lst ds=>.lst (bM O ds)
 | .tup ds=>.tup (bM O ds)
 | .ptr k=>match O[k]? with
  | some (.lst ds)=>.lst ds
  | _=>.ptr k
 | .non=>.non
 | .bl b=>.bl b
 | .int i=>.int i
 | .str x=>.str x
 | .obj c ns ds=>.obj c ns ds
 | .exn c=>.exn c
def bM(O:aB):List D->List D
 | []=>[]
 | d::ds=>res O d::bM O ds
end
section
variable {K : sB} {ca : Nat → Addr} {H F G : Hp} {θ : List Addr} {O : aB}
mutual
theorem xT(n:Now K ca H F θ O)(hF:bJ F G)(U:bJ G H):∀{d:D} {v:V},Rep K ca θ G d v->Rep K ca θ H (res O d) v
 | .non,_,h=>by unfold res;exact h
 | .bl _,_,h=>by unfold res;exact h
 | .int _,_,h=>by unfold res;exact h
 | .str _,_,h=>by unfold res;exact h
 | .lst ds,_,h=>by
  unfold res
  unfold Rep at h ⊢
  obtain⟨a,xs,e,Y,hr⟩:=h
  exact⟨a,xs,e,U.seq Y,j2 n hF U hr⟩
 | .tup ds,_,h=>by
  unfold res
  unfold Rep at h ⊢
  obtain⟨a,xs,e,Y,hr⟩:=h
  exact⟨a,xs,e,bJ.seqT U Y,j2 n hF U hr⟩
 | .ptr k,v,h=>by
  unfold res
  split
  ·rename_i ds e
   unfold Rep at h ⊢
   obtain⟨a,ev,hk⟩:=h
   obtain⟨_,xs,h1,h2⟩:i6 K ca H F θ a (.lst ds):=n.ce k a _ hk e
   exact⟨a,xs,ev,SqL.of h1,h2.mono n.fh ⟨[],by simp⟩⟩
  ·exact h.mono U ⟨[],by simp⟩
 | .obj c ns ds,_,h=>by unfold res;exact h.mono U ⟨[],by simp⟩
 | .exn c,_,h=>by unfold res;exact h.mono U ⟨[],by simp⟩
theorem j2(n:Now K ca H F θ O)(U:bJ F G)(Y:bJ G H):∀{ds:List D} {xs:List V},aG K ca θ G ds xs->aG K ca θ H (bM O ds) xs
 | [],_,h=>by unfold bM;exact h
 | d::ds,_,h=>by
  unfold bM
  unfold aG at h ⊢
  obtain⟨v,r,e,h1,h2⟩:=h
  exact⟨v,r,e,xT n U Y h1,j2 n U Y h2⟩
end
mutual
theorem xY:∀{d:D} {v:V} {p:PyData},Rep K ca θ H d v->toPy d=some p->RdV K H p v
 | .non,_,_,h,e=>by unfold toPy at e;cases e;unfold RdV;exact gc.mp h
 | .bl b,_,_,h,e=>by unfold toPy at e;cases e;unfold RdV;exact cI.mp h
 | .int b,_,_,h,e=>by unfold toPy at e;cases e;unfold RdV;exact bg.mp h
 | .str b,_,_,h,e=>by unfold toPy at e;cases e;unfold RdV;exact dj.mp h
 | .lst ds,_,_,h,e=>by
  unfold toPy at e
  cases e1:jZ ds with
  | none=>rw[e1] at e;cases e
  | some ps=>
   rw[e1] at e
   cases e
   unfold Rep at h
   obtain⟨a,xs,U,Y,hr⟩:=h
   unfold RdV
   exact⟨a,xs,U,Y,vY hr e1⟩
 | .tup ds,_,_,h,e=>by
  unfold toPy at e
  cases e1:jZ ds with
  | none=>rw[e1] at e;cases e
  | some ps=>
   rw[e1] at e
   cases e
   unfold Rep at h
   obtain⟨a,xs,U,Y,hr⟩:=h
   unfold RdV
   exact⟨a,xs,U,Y,vY hr e1⟩
 | .ptr _,_,_,_,e=>by unfold toPy at e;cases e
 | .obj _ _ _,_,_,_,e=>by unfold toPy at e;cases e
 | .exn _,_,_,_,e=>by unfold toPy at e;cases e
theorem vY:∀{ds:List D} {xs:List V} {ps:List PyData},aG K ca θ H ds xs->jZ ds=some ps->rF K H ps xs
 | [],_,_,h,e=>by unfold jZ at e;cases e;unfold rF;unfold aG at h;exact h
 | d::ds,_,_,h,e=>by
  unfold jZ at e
  cases e1:toPy d with
  | none=>rw[e1] at e;cases e
  | some p=>
   cases e2:jZ ds with
   | none=>rw[e1,e2] at e;cases e
   | some ps=>
    rw[e1,e2] at e
    cases e
    unfold aG at h
    obtain⟨v,r,U,h1,h2⟩:=h
    unfold rF
    exact⟨v,r,U,xY h1 e1,vY h2 e2⟩
end
end
def jT(O:aB)(x y:D):Option Bool:=match toPy (res O (res O x)),toPy (res O (res O y)) with
 | some a,some b=>if SeqAt.shaped a=true/\SeqAt.shaped b=true then some (PyData.eqv a b) else none
 | _,_=>none
def eqB(O:aB)(x y:D):Option Bool:=match x,y with
 | .int i,.int j=>some (decide (i=j))
 | .str i,.str j=>some (decide (i=j))
 | .bl i,.bl j=>some (decide (i=j))
 | .non,.non=>some true
 | x,y=>jT O x y
def eqD:Op2:=λO x y=>match eqB O x y with
 | some b=>.ok (.bl b)
 | none=>.bad
def neD:Op2:=λO x y=>match eqB O x y with
 | some b=>.ok (.bl (!b))
 | none=>.bad
section
variable {X : Cx}
def Mj(K:sB):R2:=λx y H Q=>rEq x y H Q\/MS K x y H Q
def MD(K:sB):R2:=λx y H Q=>rNe x y H Q\/LQ K x y H Q
theorem ir(hu:X.A.units+64<cLine):OpR X (compareOp .Eq) (Mj X.K):=Nb.or (L5 hu)
theorem rY(hu:X.A.units+64<cLine):OpR X (compareOp .NotEq) (MD X.K):=Nr.or (Ll hu)
end
theorem zj{v w:V}{k:Bool}(b:BS C.K C.ca σ H F θ s)(rx:Rep C.K C.ca θ F x v)(ry:Rep C.K C.ca θ F y w)(e:jT s.o x y=some k):
 ∃d e,RdV C.K H d v/\RdV C.K H e w/\SeqAt.shaped d=true/\SeqAt.shaped e=true/\PyData.eqv d e=k:=by
 unfold jT at e
 split at e
 ·rename_i a c e1 e2
  split at e
  ·rename_i U
   cases e
   have Y:∀{d:D} {u:V},Rep C.K C.ca θ F d u->Rep C.K C.ca θ H (res s.o (res s.o d)) u:=λh=>xT b.now b.now.fh (bJ.refl _) (xT b.now (bJ.refl _) b.now.fh h)
   exact⟨a,c,xY (Y rx) e1,xY (Y ry) e2,U.1,U.2,rfl⟩
  ·cases e
 ·cases e
theorem fH:gh C (Mj C.K) eqD:=by
 intro σ H F θ s x y v w Q b U Y p
 unfold eqD at p
 split at p
 ·rename_i k e
  have q:=λH' (h:H'=H)=>h▸dF p b (v:=.bl k) (cI.mpr rfl)
  have q:=q H rfl
  unfold eqB at e
  split at e
  ·rename_i i j
   cases e
   cases bg.mp U;cases bg.mp Y
   exact .inl ⟨rfl,by rw[uu,P5];exact q⟩
  ·cases e
   cases dj.mp U;cases dj.mp Y
   exact .inl ⟨rfl,by rw[tZ,P5];exact q⟩
  ·cases e
   cases cI.mp U;cases cI.mp Y
   exact .inl ⟨rfl,by rw[wJ,P5];exact q⟩
  ·cases e
   cases gc.mp U;cases gc.mp Y
   exact .inl ⟨rfl,by simpa using q⟩
  ·obtain⟨d,e',h1,h2,h3,h4,h5⟩:=zj b U Y e
   exact .inr ⟨d,e',h1,h2,h3,h4,by rw[h5];exact q⟩
 ·exact ss p
theorem nI:gh C (MD C.K) neD:=by
 intro σ H F θ s x y v w Q b U Y p
 unfold neD at p
 split at p
 ·rename_i k e
  have q:=dF p b (v:=.bl (!k)) (cI.mpr rfl)
  unfold eqB at e
  split at e
  ·rename_i i j
   cases e
   cases bg.mp U;cases bg.mp Y
   exact .inl ⟨rfl,by rw[uu,P5];exact q⟩
  ·cases e
   cases dj.mp U;cases dj.mp Y
   exact .inl ⟨rfl,by rw[tZ,P5];exact q⟩
  ·cases e
   cases cI.mp U;cases cI.mp Y
   exact .inl ⟨rfl,by rw[wJ,P5];exact q⟩
  ·cases e
   cases gc.mp U;cases gc.mp Y
   exact .inl ⟨rfl,by simpa using q⟩
  ·obtain⟨d,e',h1,h2,h3,h4,h5⟩:=zj b U Y e
   exact .inr ⟨d,e',h1,h2,h3,h4,by rw[h5];exact q⟩
 ·exact ss p
def ixD:Op2:=λO x y=>match y with
 | .int i=>match x with
  | .tup ds=>match atI ds i with
   | some d=>.ok d
   | none=>.bad
  | .str z=>if z.length<=16777216 then (match atI z.cps.toList i with
   | some c=>.ok (.str ⟨#[c]⟩)
   | none=>.bad) else .bad
  | x=>match lsD O x with
   | some ds=>match atI ds i with
    | some d=>.ok d
    | none=>.bad
   | none=>.bad
 | _=>.bad
theorem C4{K ca θ F}{i:Int}(r:aG K ca θ F ds xs)(e:atI ds i=some d):∃v,atI xs i=some v/\Rep K ca θ F d v:=by
 unfold atI at e ⊢
 rw[r.length]
 cases q:ixN ds.length i with
 | none=>rw[q] at e;cases e
 | some j=>
  rw[q] at e
  exact r.get e
theorem bU:gh C (rIx C.K) ixD:=by
 intro σ H F θ s x y v w Q b U Y p
 unfold ixD at p
 split at p
 ·rename_i i
  split at p
  ·rename_i ds
   obtain⟨a,xs,rfl,hs,hr⟩:=w9 b U
   split at p
   ·rename_i d e
    obtain⟨u,e1,r1⟩:=C4 hr e
    exact .inr (.inl ⟨a,xs,i,u,rfl,bg.mp Y,hs,e1,dF p b r1⟩)
   ·exact ss p
  ·rename_i z
   split at p
   ·rename_i hz
    split at p
    ·rename_i c e
     exact .inr (.inr ⟨z,i,c,dj.mp U,bg.mp Y,hz,e,dF p b (dj.mpr rfl)⟩)
    ·exact ss p
   ·exact ss p
  ·split at p
   ·rename_i ds e0
    obtain⟨a,xs,rfl,hs,hr⟩:=eN b U e0
    split at p
    ·rename_i d e
     obtain⟨u,e1,r1⟩:=C4 hr e
     exact .inl ⟨a,xs,i,u,rfl,bg.mp Y,hs,e1,dF p b r1⟩
    ·exact ss p
   ·exact ss p
 ·exact ss p
abbrev OM:=S->Res (Option Int×S)
def RdO(C:Ct)(t:TO)(m:OM):Prop:=∀σ H F θ s Q,BS C.K C.ca σ H F θ s->PoR C H F θ (m s) (λy H1 F1 θ1=>BS C.K C.ca σ H1 F1 θ1 y.2->Q y.1 H1)->t σ H Q
def fE:OM:=λs=>.ok (none,s)
def part(m:EM):OM:=λs=>(m s).bind λx=>match x.1 with
 | .int i=>.ok (some i,x.2)
 | _=>.bad
theorem jo:RdO C CN fE:=λσ H F θ s Q b p=>p H F θ .refl b
theorem kA(h:RdE C t m):RdO C (Jn t) (part m):=by
 intro σ H F θ s Q b p
 refine h σ H F θ s _ b (PoR.bind p ?_)
 rintro ⟨x,s1⟩ H1 F1 θ1 _ U p1 Y v r1
 cases x <;> first | exact ss p1 | skip
 rename_i i _
 exact⟨i,bg.mp r1,p1 _ _ _ .refl Y⟩
def cutD(ds:List D)(lo hi:Option Int):List D:=(ds.drop (HT.sIx ds.length 0 lo)).take (HT.sIx ds.length ds.length hi-HT.sIx ds.length 0 lo)
theorem Km{K ca θ F}{lo hi:Option Int}(r:aG K ca θ F ds xs):aG K ca θ F (cutD ds lo hi) (xv xs lo hi):=by
 unfold cutD xv
 rw[r.length]
 exact(r.drop _).take _
def slM(me:EM)(U Y:OM):EM:=λs=>(me s).bind λx=>(U x.2).bind λl=>(Y l.2).bind λh=>match lsD h.2.o x.1 with
 | some ds=>.ok (.lst (cutD ds l.1 h.1),h.2)
 | none=>.bad
theorem zM{tl th:TO}{ml mh:OM}(he:RdE C te me)(hl:RdO C tl ml)(hh:RdO C th mh):RdE C (tSl (Mh C.K) te tl th) (slM me ml mh):=by
 intro σ H F θ s Q b p
 refine he σ H F θ s _ b (PoR.bind p ?_)
 rintro ⟨x,s1⟩ H1 F1 θ1 _ a1 p1 b1 v r1
 refine hl σ H1 F1 θ1 s1 _ b1 (PoR.bind p1 ?_)
 rintro ⟨l,s2⟩ H2 F2 θ2 _ U p2 b2
 refine hh σ H2 F2 θ2 s2 _ b2 (PoR.bind p2 ?_)
 rintro ⟨h,s3⟩ H3 F3 θ3 _ Y p3 b3
 dsimp only at p3 ⊢
 split at p3
 ·rename_i ds e
  obtain⟨a,xs,rfl,hs,hr⟩:=eN b3 ((r1.mono U.ff U.pre).mono Y.ff Y.pre) e
  exact⟨a,xs,rfl,hs,sO (ds:=cutD ds l h) p3 b3 (Km hr)⟩
 ·exact ss p3
def bE:OpN:=λO xs=>match xs with
 | [.str z]=>if z.length<=16777216 then .ok (.int z.length) else .bad
 | [.tup ds]=>.ok (.int ds.length)
 | [x]=>match lsD O x with
  | some ds=>.ok (.int ds.length)
  | none=>.bad
 | _=>.bad
theorem mC{K ca θ F}(h:aG K ca θ F [x] vs):∃v,vs=[v]/\Rep K ca θ F x v:=by
 unfold aG at h
 obtain⟨v,r,rfl,h1,h2⟩:=h
 unfold aG at h2
 rw[h2]
 exact⟨v,rfl,h1⟩
theorem Ji{K ca θ F}(h:aG K ca θ F [x,y] vs):∃v w,vs=[v,w]/\Rep K ca θ F x v/\Rep K ca θ F y w:=by
 unfold aG at h
 obtain⟨v,r,rfl,h1,h2⟩:=h
 obtain⟨w,rfl,U⟩:=mC h2
 exact⟨v,w,rfl,h1,U⟩
theorem dE:i9 C (λxs H Q=>∃x n,xs=[x]/\LZ C.K x H n/\Q (.int n) H) bE:=by
 intro σ H F θ s xs vs Q b r p
 unfold bE at p
 split at p
 ·rename_i z
  obtain⟨v,rfl,U⟩:=mC r
  cases dj.mp U
  split at p
  ·rename_i hz
   exact⟨.str z,z.length,rfl,⟨hz,rfl⟩,dF p b (bg.mpr rfl)⟩
  ·exact ss p
 ·rename_i ds
  obtain⟨v,rfl,U⟩:=mC r
  obtain⟨a,xs,rfl,Y,hr⟩:=w9 b U
  exact⟨.ref a,ds.length,rfl,.inr ⟨xs,Y,by rw[hr.length]⟩,dF p b (bg.mpr rfl)⟩
 ·rename_i x _ _
  obtain⟨v,rfl,U⟩:=mC r
  split at p
  ·rename_i ds e
   obtain⟨a,xs,rfl,Y,hr⟩:=eN b U e
   exact⟨.ref a,ds.length,rfl,.inl ⟨xs,Y,by rw[hr.length]⟩,dF p b (bg.mpr rfl)⟩
  ·exact ss p
 ·exact ss p
def iD:OpN:=λO xs=>match xs with
 | [.tup ds]=>.ok (.lst ds)
 | [x]=>match lsD O x with
  | some ds=>.ok (.lst ds)
  | none=>.bad
 | _=>.bad
theorem ko:i9 C (λxs H Q=>∃p ys,xs=[.ref p]/\(SqL C.K H p ys\/SqT C.K H p ys)/\∀l,H l=none->Q (.ref l) (upd H l (.lst ys))) iD:=by
 intro σ H F θ s xs vs Q b r p
 unfold iD at p
 split at p
 ·rename_i ds
  obtain⟨v,rfl,U⟩:=mC r
  obtain⟨a,xs,rfl,Y,hr⟩:=w9 b U
  exact⟨a,xs,rfl,.inr Y,sO p b hr⟩
 ·obtain⟨v,rfl,U⟩:=mC r
  split at p
  ·rename_i ds e
   obtain⟨a,xs,rfl,Y,hr⟩:=eN b U e
   exact⟨a,xs,rfl,.inl Y,sO p b hr⟩
  ·exact ss p
 ·exact ss p
def vT:OpN:=λ_ xs=>match xs with
 | [.int i]=>.ok (.int (if i<0 then -i else i))
 | _=>.bad
theorem E2:i9 C (λxs H Q=>∃i,xs=[.int i]/\Q (.int (if i<0 then -i else i)) H) vT:=by
 intro σ H F θ s xs vs Q b r p
 unfold vT at p
 split at p
 ·rename_i i
  exact⟨i,nF r,dF p b (bg.mpr rfl)⟩
 ·exact ss p
def intOf:OpN:=λ_ xs=>match xs with
 | [.int i]=>.ok (.int i)
 | [.bl k]=>.ok (.int (if k then 1 else 0))
 | _=>.bad
theorem iz:i9 C (λxs H Q=>(∃i,xs=[.int i]/\Q (.int i) H)\/∃k,xs=[.bl k]/\Q (.int (if k then 1 else 0)) H) intOf:=by
 intro σ H F θ s xs vs Q b r p
 unfold intOf at p
 split at p
 ·rename_i i
  exact .inl ⟨i,nF r,dF p b (bg.mpr rfl)⟩
 ·rename_i k
  obtain⟨v,rfl,U⟩:=mC r
  cases cI.mp U
  exact .inr ⟨k,rfl,dF p b (bg.mpr rfl)⟩
 ·exact ss p
def tyD(O:aB):D->Option String
 | .non=>some "NoneType"
 | .bl _=>some "bool"
 | .int _=>some "int"
 | .str _=>some "str"
 | .lst _=>some "list"
 | .tup _=>some "tuple"
 | .ptr k=>match O[k]? with
  | some (.lst _)=>some "list"
  | _=>none
 | .obj _ _ _=>none
 | .exn _=>none
def fC(t c:String):Bool:=t == c||(t == "bool" &&c == "int")
def lq(c:String):Op1:=λO x=>match tyD O x with
 | some t=>.ok (.bl (fC t c))
 | none=>.bad
def tW(c:String):Prop:=∀K:sB,∀t∈["NoneType","bool","int","str","list","tuple"],Pd K (.type t) (.type c)=some (fC t c)
theorem ty_int:tW "int" :=by
 intro K t ht
 simp only[wT,RV,or_false] at ht
 rcases ht with rfl | rfl | rfl | rfl | rfl | rfl <;> rfl
theorem ty_bool:tW "bool" :=by
 intro K t ht
 simp only[wT,RV,or_false] at ht
 rcases ht with rfl | rfl | rfl | rfl | rfl | rfl <;> rfl
theorem ty_list:tW "list" :=by
 intro K t ht
 simp only[wT,RV,or_false] at ht
 rcases ht with rfl | rfl | rfl | rfl | rfl | rfl <;> rfl
theorem wZ{c:String}(hc:tW c)(h:RdE C te m):RdE C (tCB (GU C.K) (fY te (fY (tC (.ty c)) k6))) (unM (lq c) m):=by
 intro σ H F θ s Q b p
 refine h σ H F θ s _ b (PoR.bind p ?_)
 rintro ⟨x,s1⟩ H1 F1 θ1 _ ae p1 Y v U
 dsimp only at p1 Y U
 show GU C.K [v,.ty c] H1 Q
 unfold lq at p1
 split at p1
 ·rename_i t e
  have q:=dF p1 Y (v:=.bl (fC t c)) (cI.mpr rfl)
  refine⟨v,c,t,fC t c,rfl, ?_, ?_,q⟩
  ·cases x <;> first | (unfold tyD at e;cases e;done) | skip
   ·unfold tyD at e;cases e;rw[gc.mp U];rfl
   ·unfold tyD at e;cases e;rw[cI.mp U];rfl
   ·unfold tyD at e;cases e;rw[bg.mp U];rfl
   ·unfold tyD at e;cases e;rw[dj.mp U];rfl
   ·unfold tyD at e;cases e
    unfold Rep at U
    obtain⟨a,xs,rfl,hs,hr⟩:=U
    exact .inl ⟨rfl,xs,Y.now.fh.seq hs⟩
   ·unfold tyD at e;cases e
    unfold Rep at U
    obtain⟨a,xs,rfl,hs,hr⟩:=U
    exact .inr ⟨rfl,xs,bJ.seqT Y.now.fh hs⟩
   ·rename_i k _
    unfold tyD at e
    dsimp only at e
    split at e
    ·rename_i ds ek
     cases e
     obtain⟨a,xs,rfl,hs,hr⟩:=eN Y U (ds:=ds) (by unfold lsD;simp only[ek])
     exact .inl ⟨rfl,xs,hs⟩
    ·cases e
  ·refine hc C.K t ?_
   cases x <;> unfold tyD at e <;> dsimp only at e <;> first | (cases e;simp;done) | (cases e;done) | skip
   split at e
   ·cases e;simp
   ·cases e
 ·exact ss p1
theorem qA{α:Type}{l:List α}(h:l.Nodup){i j:Nat}{x:α}(a:l[i]? =some x)(b:l[j]? =some x):i=j:=by
 obtain⟨h1,e1⟩:=wP.mp a
 obtain⟨h2,e2⟩:=wP.mp b
 exact(SF h).mp (e1.trans e2.symm)
theorem BS.setC(b:BS K ca σ H F θ s){c:Cell}(hk:θ[k]? =some a)(hc:s.o[k]? =some c)(hF:F a=none)(hr:aG K ca θ F ds xs):
 Stp H F θ (upd H a (.lst xs)) F θ/\BS K ca σ (upd H a (.lst xs)) F θ ⟨s.r,s.o.set k (.lst ds)⟩:=by
 have hm:a∈θ:=No hk
 refine⟨⟨bJ.refl _,⟨[],by simp,by simp⟩,λe o U hb=> ?_,λe o U=> ?_,λe o U=>.inl U⟩,⟨⟨λe o U=> ?_,b.now.nd,by simpa using b.now.ln,λj a' c' e1 e2=> ?_⟩,b.len,b.sl⟩⟩
 ·have ne:e≠a:=λz=>hb (by rw[z];exact hm)
  rw[aS ne];exact U
 ·by_cases z:e=a
  ·subst z;exact⟨_,bZ⟩
  ·exact⟨o,by rw[aS z];exact U⟩
 ·have ne:e≠a:=λz=>by rw[z,hF] at U;cases U
  rw[aS ne]
  exact b.now.fh _ _ U
 ·by_cases Y:k=j
  ·subst Y
   rw[hk] at e1;cases e1
   have:k<s.o.length:=(wP.mp hc).1
   rw[Pe this] at e2
   cases e2
   exact⟨hF,xs,bZ,hr⟩
  ·rw[Pf Y] at e2
   have q:=b.now.ce j a' c' e1 e2
   have ne:a'≠a:=λz=>by
    subst z
    exact Y (qA b.now.nd hk e1)
   cases c' with
   | dead=>obtain⟨o,ho⟩:=q;exact⟨o,by rw[aS ne];exact ho⟩
   | lst ds=>obtain⟨q1,ys,q2,q3⟩:=q;exact⟨q1,ys,by rw[aS ne];exact q2,q3⟩
   | ins c ns ds=>obtain⟨q1,dx,ys,q2,q3⟩:=q;exact⟨q1,dx,ys,by rw[aS ne];exact q2,q3⟩
theorem kE(b:BS C.K C.ca σ H F θ s)(r:Rep C.K C.ca θ F (.ptr k) v)(e:s.o[k]? =some (.lst ds)):
 ∃a xs,v=.ref a/\θ[k]? =some a/\F a=none/\H a=some (.lst xs)/\aG C.K C.ca θ F ds xs:=by
 unfold Rep at r
 obtain⟨a,rfl,hk⟩:=r
 obtain⟨h0,xs,h1,h2⟩:i6 C.K C.ca H F θ a (.lst ds):=b.now.ce k a _ hk e
 exact⟨a,xs,rfl,hk,h0,h1,h2⟩
def gz(O:aB):D->Option (Nat×List D)
 | .ptr k=>match O[k]? with
  | some (.lst ds)=>some (k,ds)
  | _=>none
 | _=>none
theorem oS(h:gz O d=some (k,ds)):d=.ptr k/\O[k]? =some (.lst ds):=by
 cases d <;> first | (simp[gz] at h;done) | skip
 rename_i j
 unfold gz at h
 dsimp only at h
 split at h
 ·rename_i es e
  cases h
  exact⟨rfl,e⟩
 ·cases h
def gU(mo me:EM):EM:=λs=>(mo s).bind λx=>match gz x.2.o x.1 with
 | some _=>(me x.2).bind λy=>match gz y.2.o x.1 with
  | some (k,ds)=>if ds.length<16777216 then .ok (.non,⟨y.2.r,y.2.o.set k (.lst (ds++[y.1]))⟩) else .bad
  | none=>.bad
 | none=>.bad
theorem iG(ho:RdE C to mo)(he:RdE C te me):RdE C (tBM C.K "list" CV to (fY te k6)) (gU mo me):=by
 intro σ H F θ s Q b p
 refine ho σ H F θ s _ b (PoR.bind p ?_)
 rintro ⟨x,s1⟩ H1 F1 θ1 _ a3 p1 Y v r1
 dsimp only at p1 Y r1
 split at p1
 ·rename_i kd e
  obtain⟨rfl,e'⟩:=oS (k:=kd.1) (ds:=kd.2) e
  obtain⟨a,xs,rfl,hk,_,h1,_⟩:=kE Y r1 e'
  refine⟨.inl ⟨rfl,xs,SqL.of h1⟩,he σ H1 F1 θ1 s1 _ Y (PoR.bind p1 ?_)⟩
  rintro ⟨y,s2⟩ H2 F2 θ2 _ U p2 b2 w r2
  dsimp only at p2 b2 r2
  split at p2
  ·rename_i k ds e2
   obtain⟨ek,e2⟩:=oS e2
   cases ek
   obtain⟨a',ys,ea,ae,hF,h2,hr⟩:=kE b2 (r1.mono U.ff U.pre) e2
   cases ea
   split at p2
   ·rename_i hl
    obtain⟨am,b3⟩:=b2.setC ae e2 hF (hr.append (aG.one r2))
    exact⟨a,ys,w,rfl,rfl,h2,by rw[hr.length];exact hl,p2 _ _ _ am b3 _ (gc.mpr rfl)⟩
   ·exact ss p2
  ·exact ss p2
 ·exact ss p1
def vV(mo U:EM):GM:=λd s=>(mo s).bind λx=>(U x.2).bind λy=>match y.1 with
 | .int i=>match gz y.2.o x.1 with
  | some (k,ds)=>match ixN ds.length i with
   | some j=>.ok ⟨y.2.r,y.2.o.set k (.lst (ds.set j d))⟩
   | none=>.bad
  | none=>.bad
 | _=>.bad
theorem Fg{to ti:TE}{mo mi:EM}(ho:RdE C to mo)(hi:RdE C ti mi):RdG C (Mp to ti Jh) (vV mo mi):=by
 intro σ H F θ s d v Q b rd p
 refine ho σ H F θ s _ b (PoR.bind p ?_)
 rintro ⟨x,s1⟩ H1 F1 θ1 _ Y p1 b1 ov r1
 refine hi σ H1 F1 θ1 s1 _ b1 (PoR.bind p1 ?_)
 rintro ⟨y,s2⟩ H2 F2 θ2 _ U p2 b2 iv r2
 dsimp only at p2 b2 r2
 split at p2
 ·rename_i i _
  split at p2
  ·rename_i k ds e
   obtain⟨ek,e'⟩:=oS e
   subst ek
   obtain⟨a,xs,rfl,hk,hF,h1,h2⟩:=kE b2 (r1.mono U.ff U.pre) e'
   split at p2
   ·rename_i j ej
    obtain⟨ac,b3⟩:=b2.setC hk e' hF (aG.set ((rd.mono Y.ff Y.pre).mono U.ff U.pre) j h2)
    exact⟨a,xs,i,j,rfl,bg.mp r2,h1,by rw[h2.length];exact ej,p2 _ _ _ ac _ b3⟩
   ·exact ss p2
  ·exact ss p2
 ·exact ss p2
theorem BS.frz(b:BS K ca σ H F θ s)(hk:θ[k]? =some a)(hc:s.o[k]? =some (.lst ds))(hF:F a=none)(hH:H a=some (.lst xs))(hr:aG K ca θ F ds xs):
 Stp H F θ H (upd F a (.lst xs)) θ/\BS K ca σ H (upd F a (.lst xs)) θ ⟨s.r,s.o.set k .dead⟩/\Rep K ca θ (upd F a (.lst xs)) (.lst ds) (.ref a):=by
 have hm:a∈θ:=No hk
 have Y:bJ F (upd F a (.lst xs)):=λe o U=>by
  rw[aS (λz=>by rw[z,hF] at U;cases U)];exact U
 refine⟨⟨Y,⟨[],by simp,by simp⟩,λe o U _=>U,λe o U=>⟨o,U⟩,λe o U=> ?_⟩,⟨⟨λe o U=> ?_,b.now.nd,by simpa using b.now.ln,λj a' c' e1 e2=> ?_⟩,b.len,λi d e=> ?_⟩, ?_⟩
 ·by_cases z:e=a
  ·exact .inr (.inr (by rw[z];exact hm))
  ·rw[aS z] at U;exact .inl U
 ·by_cases z:e=a
  ·subst z;rw[bZ] at U;rw[hH];exact U
  ·rw[aS z] at U;exact b.now.fh _ _ U
 ·by_cases hj:k=j
  ·subst hj
   rw[hk] at e1;cases e1
   have:k<s.o.length:=(wP.mp hc).1
   rw[Pe this] at e2
   cases e2
   exact⟨_,hH⟩
  ·rw[Pf hj] at e2
   have q:=b.now.ce j a' c' e1 e2
   have ne:a'≠a:=λz=>by
    subst z
    exact hj (qA b.now.nd hk e1)
   cases c' with
   | dead=>exact q
   | lst ds=>obtain⟨q1,ys,q2,q3⟩:=q;exact⟨by rw[aS ne];exact q1,ys,q2,q3.mono Y ⟨[],by simp⟩⟩
   | ins c ns ds=>obtain⟨q1,dx,ys,q2,q3,q4⟩:=q;exact⟨by rw[aS ne];exact q1,dx,ys,q2,q3,q4.mono Y ⟨[],by simp⟩⟩
 ·obtain⟨v,h1,h2⟩:=b.sl i d e
  exact⟨v,h1,h2.mono Y ⟨[],by simp⟩⟩
 ·unfold Rep
  exact⟨a,xs,rfl,SqL.of bZ,hr.mono Y ⟨[],by simp⟩⟩
def gy(m:EM):EM:=λs=>(m s).bind λx=>match gz x.2.o x.1 with
 | some (k,ds)=>.ok (.lst ds,⟨x.2.r,x.2.o.set k .dead⟩)
 | none=>.bad
theorem kZ(h:RdE C t m):RdE C t (gy m):=by
 intro σ H F θ s Q b p
 refine h σ H F θ s _ b (PoR.bind p ?_)
 rintro ⟨x,s1⟩ H1 F1 θ1 _ ae p1 U v r1
 dsimp only at p1 U r1
 split at p1
 ·rename_i k ds e
  obtain⟨rfl,e'⟩:=oS e
  obtain⟨a,xs,rfl,hk,hF,h1,h2⟩:=kE U r1 e'
  obtain⟨Y,b2,r2⟩:=U.frz hk e' hF h1 h2
  exact p1 _ _ _ Y b2 _ r2
 ·exact ss p1
def m8(m:Nat)(caps:List Nat)(r:List (Option D)):List (Option D):=tz m none++caps.map λi=>(r[i]?).getD none
theorem ER(b:BS K ca σ H F θ s)(m:Nat)(caps:List Nat):BS K ca (nV m caps σ) H F θ ⟨m8 m caps s.r,s.o⟩:=by
 refine⟨b.now,by unfold nV m8;simp,λi d e=> ?_⟩
 unfold m8 at e
 dsimp only at e
 by_cases hi:i<m
 ·rw[w6 (by simpa using hi),Gc] at e
  split at e <;> cases e
 ·rw[wn (by simpa using hi)] at e
  simp only[QJ,xL] at e
  cases q:caps[i-m]? with
  | none=>rw[q] at e;cases e
  | some j=>
   rw[q] at e
   simp only[PN,Sw] at e
   have U:s.r[j]? =some (some d):=by
    cases z:s.r[j]? with
    | none=>rw[z] at e;simp at e
    | some od=>rw[z] at e;simp at e;rw[e]
   obtain⟨v,h1,h2⟩:=b.sl j d U
   refine⟨v, ?_,h2⟩
   unfold nV
   rw[wn (by simpa using hi)]
   simp only[QJ,xL,q,PN,h1,RO]
def bj:TM:=λs=>.ok (true,s)
theorem bL:RdT C Jo bj:=λσ H F θ s Q b p=>p H F θ .refl b
open Classical in
noncomputable def dZ (ok:aB->Prop)(g:GM)(c:TM)(e:EM):List D->List D->S->Res (List D×S)
 | [],acc,s=>if ok s.o then .ok (acc,s) else .bad
 | d::ds,acc,s=>if ok s.o/\acc.length<16777216 then (g d s).bind λs1=>(c s1).bind λx=>if x.1 then (e x.2).bind λy=>dZ ok g c e ds (acc++[y.1]) y.2 else dZ ok g c e ds acc x.2 else .bad
noncomputable def jX (m:Nat)(caps:List Nat)(im:IM)(g:GM)(c:TM)(e:EM):S->Res (List D×S):=λs=>(im s).bind λy=>
 (dZ (okC y.1.1 y.1.2) g c e y.1.1 [] ⟨m8 m caps y.2.r,y.2.o⟩).bind λz=>.ok (z.1,⟨y.2.r,z.2.o⟩)
theorem A6 {m:Nat} {caps:List Nat} {c:TM} (hi:RdI C wi im) (hg:RdG C g gm) (hc:RdT C tc c) (he:RdE C te e)
 {σ:L2.St} {H F:Hp} {θ:List Addr} {s:S} {Q:VK} (b:BS C.K C.ca σ H F θ s)
 (p:PoR C H F θ (jX m caps im gm c e s) λy H1 F1 θ1=>BS C.K C.ca σ H1 F1 θ1 y.2->∀q xs,H q=none->H1 q=some (.lst xs)->F1 q=none->q∉θ1->aG C.K C.ca θ1 F1 y.1 xs->Q (.ref q) H1):rJ m caps wi g tc te σ H Q:=by
 refine hi σ H F θ s _ b (PoR.bind p ?_)
 rintro ⟨⟨ds,k⟩,s1⟩ H1 F1 θ1 _ cg p1 b1 J it q hq
 dsimp only at p1 b1 it
 have ci:Stp H1 F1 θ1 (upd H1 q (.lst [])) F1 θ1:=by
  have nm:∀a u,H1 a=some u->a≠q:=λa u e z=>by rw[z,hq] at e;cases e
  exact⟨bJ.refl _,⟨[],by simp,by simp⟩,λa u h _=>by rw[aS (nm a u h)];exact h,λa u h=>⟨u,by rw[aS (nm a u h)];exact h⟩,λa u h=>.inl h⟩
 have qθ:q∉θ1:=λh=>by obtain⟨u,hu⟩:=b1.now.there h;rw[hq] at hu;cases hu
 have qF:F1 q=none:=by
  cases e:F1 q with
  | none=>rfl
  | some u=>rw[b1.now.fh q u e] at hq;cases hq
 have ck:H q=none:=by
  cases e:H q with
  | none=>rfl
  | some u=>obtain⟨u',e'⟩:=cg.al q u e;rw[hq] at e';cases e'
 have keep:∀{H2 F2 H3 F3:Hp} {θ2 θ3:List Addr} {o:HO},Stp H2 F2 θ2 H3 F3 θ3->H2 q=some o->F2 q=none->q∉θ2->H3 q=some o/\F3 q=none/\q∉θ3:=λ{H2 F2 H3 F3 θ2 θ3 o} st h1 h2 h3=>by
  refine⟨st.kp q o h1 h3, ?_, ?_⟩
  ·cases e:F3 q with
   | none=>rfl
   | some u=>
    rcases st.nf q u e with z | z | z
    ·rw[h2] at z;cases z
    ·rw[h1] at z;cases z
    ·exact absurd z h3
  ·obtain⟨r,rfl,hr⟩:=st.th
   intro hm
   rcases xz.mp hm with z | z
   ·exact h3 z
   ·rw[hr q z] at h1;cases h1
 have b2:∀{σ':L2.St} {H2 F2:Hp} {θ2:List Addr} {s2:S} (o:HO),BS C.K C.ca σ' H2 F2 θ2 s2->F2 q=none->q∉θ2->BS C.K C.ca σ' (upd H2 q o) F2 θ2 s2:=λ{σ' H2 F2 θ2 s2} o b h1 h2=>by
  have ne:∀a,a∈θ2->a≠q:=λa h z=>h2 (z▸h)
  refine⟨⟨λa u h=> ?_,b.now.nd,b.now.ln,λj a c e1 e2=> ?_⟩,b.len,b.sl⟩
  ·have:a≠q:=λz=>by rw[z,h1] at h;cases h
   rw[aS this];exact b.now.fh a u h
  ·have hm:=ne a (No e1)
   have w:=b.now.ce j a c e1 e2
   cases c with
   | dead=>obtain⟨u,hu⟩:=w;exact⟨u,by rw[aS hm];exact hu⟩
   | lst ds=>obtain⟨q1,ys,q2,q3⟩:=w;exact⟨q1,ys,by rw[aS hm];exact q2,q3⟩
   | ins c ns ds=>obtain⟨q1,dx,ys,q2,q3,q4⟩:=w;exact⟨q1,dx,ys,by rw[aS hm];exact q2,q3,q4⟩
 have co:∀{H2 F2:Hp} {θ2:List Addr} (o:HO),Stp H1 F1 θ1 H2 F2 θ2->Stp H1 F1 θ1 (upd H2 q o) F2 θ2:=λ{H2 F2 θ2} o st=>by
  have nm:∀a u,H1 a=some u->a≠q:=λa u e z=>by rw[z,hq] at e;cases e
  exact⟨st.ff,st.th,λa u h1 h2=>by rw[aS (nm a u h1)];exact st.kp a u h1 h2,λa u h1=>by rw[aS (nm a u h1)];exact st.al a u h1,st.nf⟩
 refine⟨λi n U σ' H'=>n=ds.length-i/\i<=ds.length/\∃F' θ' s' as,Stp H1 F1 θ1 H' F' θ'/\H' q=some (.lst U)/\F' q=none/\q∉θ'/\BS C.K C.ca σ' H' F' θ' s'/\aG C.K C.ca θ' F' as U/\
  PoR C H1 F1 θ1 ((dZ (okC ds k) gm c e (ds.drop i) as s').bind λz=>.ok (z.1,(⟨s1.r,z.2.o⟩:S))) (λy H1 F1 θ1=>BS C.K C.ca σ H1 F1 θ1 y.2->∀q xs,H q=none->H1 q=some (.lst xs)->F1 q=none->q∉θ1->aG C.K C.ca θ1 F1 y.1 xs->Q (.ref q) H1),
  ⟨ds.length,by simp,Ph _,F1,θ1,⟨m8 m caps s1.r,s1.o⟩,[],ci,bZ,qF,qθ,b2 _ (ER b1 m caps) qF qθ,aG.nil,by simpa using p1⟩, ?_⟩
 rintro i n U σ' H' ⟨rfl,dp,F',θ',s',as,st,bt,b7,cb,bs,az,Y⟩
 by_cases lt:i<ds.length
 ·right
  rw[Pw lt,dZ] at Y
  split at Y
  ·rename_i a4
   refine⟨it.go i H' F' θ' s'.o lt st bs.now a4.1, ?_⟩
   intro x H3 hy
   obtain⟨F3,bb,b3,rp⟩:=it.yl i ds[i] σ' H' F' θ' s' x H3 (uX lt) st bs a4.1 hy
   obtain⟨k1,k2,k3⟩:=keep bb bt b7 cb
   have ae:=st.trans bb
   have bd:=PoR.after ae Y
   have w1:PoG C H3 F3 θ' (gm ds[i] s') (λσ4 H4=>tc σ4 H4 λb H4=>if b=true then
    te σ4 H4 λy H5=>H5 q=some (.lst U)/\U.length<sizeLine/\∃k',k'<ds.length-i/\(k'=ds.length-(i+1)/\i+1<=ds.length/\∃F' θ' s' as,Stp H1 F1 θ1 (upd H5 q (.lst (U++[y]))) F' θ'/\(upd H5 q (.lst (U++[y]))) q=some (.lst (U++[y]))/\F' q=none/\q∉θ'/\BS C.K C.ca σ4 (upd H5 q (.lst (U++[y]))) F' θ' s'/\aG C.K C.ca θ' F' as (U++[y])/\
     PoR C H1 F1 θ1 ((dZ (okC ds k) gm c e (ds.drop (i+1)) as s').bind λz=>.ok (z.1,(⟨s1.r,z.2.o⟩:S))) (λy H1 F1 θ1=>BS C.K C.ca σ H1 F1 θ1 y.2->∀q xs,H q=none->H1 q=some (.lst xs)->F1 q=none->q∉θ1->aG C.K C.ca θ1 F1 y.1 xs->Q (.ref q) H1))
    else ∃k',k'<ds.length-i/\(k'=ds.length-(i+1)/\i+1<=ds.length/\∃F' θ' s' as,Stp H1 F1 θ1 H4 F' θ'/\H4 q=some (.lst U)/\F' q=none/\q∉θ'/\BS C.K C.ca σ4 H4 F' θ' s'/\aG C.K C.ca θ' F' as U/\
     PoR C H1 F1 θ1 ((dZ (okC ds k) gm c e (ds.drop (i+1)) as s').bind λz=>.ok (z.1,(⟨s1.r,z.2.o⟩:S))) (λy H1 F1 θ1=>BS C.K C.ca σ H1 F1 θ1 y.2->∀q xs,H q=none->H1 q=some (.lst xs)->F1 q=none->q∉θ1->aG C.K C.ca θ1 F1 y.1 xs->Q (.ref q) H1))):=by
    cases e1:gm ds[i] s' with
    | bad=>rw[e1] at bd;exact bd
    | exc a1 a2 a3=>rw[e1] at bd;exact bd
    | ok s4=>
     rw[e1] at Y
     intro H4 F4 θ4 am σ4 b4
     obtain⟨l1,l2,l3⟩:=keep am k1 k2 k3
     refine hc σ4 H4 F4 θ4 s4 _ b4 ?_
     cases e2:c s4 with
     | bad=>rw[ak,e2] at Y;exact Y
     | exc a1 a2 a3=>rw[ak,e2] at Y;exact PoR.after (ae.trans am) Y
     | ok x5=>
      obtain⟨kk,s5⟩:=x5
      rw[ak,e2,ak] at Y
      intro H5 F5 θ5 an b5
      obtain⟨m1,m2,m3⟩:=keep an l1 l2 l3
      have a5:=((az.mono bb.ff bb.pre).mono am.ff am.pre).mono an.ff an.pre
      cases kk with
      | false=>
       exact tm ⟨ds.length-(i+1),by omega,rfl,by omega,F5,θ5,s5,as,ae.trans (am.trans an),m1,m2,m3,b5,a5,by simpa using Y⟩
      | true=>
       refine su (he σ4 H5 F5 θ5 s5 _ b5 ?_)
       dsimp only[if_true] at Y
       cases e3:e s5 with
       | bad=>rw[e3] at Y;exact Y
       | exc a1 a2 a3=>rw[e3] at Y;exact PoR.after (ae.trans (am.trans an)) Y
       | ok x6=>
        obtain⟨y,s6⟩:=x6
        rw[e3,ak] at Y
        intro H6 F6 θ6 be b6 w r6
        obtain⟨n1,n2,n3⟩:=keep be m1 m2 m3
        exact⟨n1,by rw[az.length];exact a4.2,ds.length-(i+1),by omega,rfl,by omega,F6,θ6,s6,as++[y],co _ (ae.trans (am.trans (an.trans be))),bZ,n2,n3,b2 _ b6 n2 n3,(a5.mono be.ff be.pre).append (aG.one r6),Y⟩
   exact hg σ' H3 F3 θ' s' ds[i] x _ b3 rp w1
  ·exact ss Y
 ·left
  rw[Q2 (by omega),dZ] at Y
  split at Y
  ·rename_i a4
   refine⟨it.st i H' F' θ' s'.o (by omega) st bs.now a4,bt, ?_⟩
   refine Y H' F' θ' st ⟨bs.now,b1.len,λj d e=> ?_⟩ q U ck bt b7 cb az
   obtain⟨v,h1,h2⟩:=b1.sl j d e
   exact⟨v,h1,h2.mono st.ff st.pre⟩
  ·exact ss Y
noncomputable def bx (m:Nat)(caps:List Nat)(im:IM)(g:GM)(c:TM)(e:EM):EM:=λs=>(jX m caps im g c e s).bind λy=>.ok (.lst y.1,y.2)
theorem bW{m:Nat}{c:TM}(hi:RdI C wi im)(hg:RdG C g gm)(hc:RdT C tc c)(he:RdE C te e):RdE C (rJ m caps wi g tc te) (bx m caps im gm c e):=by
 intro σ H F θ s Q b p
 refine A6 hi hg hc he b ?_
 unfold bx at p
 cases e1:jX m caps im gm c e s with
 | bad=>rw[e1] at p;exact p
 | exc a1 a2 a3=>rw[e1] at p;exact p
 | ok y=>
  rw[e1,ak] at p
  intro H1 F1 θ1 U Y q xs h0 h1 h2 h3 hr
  have sF:bJ F1 (upd F1 q (.lst xs)):=λa u h=>by
   rw[aS (λz=>by rw[z,h2] at h;cases h)];exact h
  refine p H1 (upd F1 q (.lst xs)) θ1 ⟨U.ff.trans sF,U.th,U.kp,U.al,λa u h=> ?_⟩ ⟨⟨λa u h=> ?_,Y.now.nd,Y.now.ln,λj a c e2 e3=> ?_⟩,Y.len,λi d e2=> ?_⟩ (.ref q) ?_
  ·by_cases z:a=q
   ·subst z;exact .inr (.inl h0)
   ·rw[aS z] at h;exact U.nf a u h
  ·by_cases z:a=q
   ·subst z;rw[bZ] at h;rw[h1];exact h
   ·rw[aS z] at h;exact Y.now.fh a u h
  ·have ne:a≠q:=λz=>h3 (z▸No e2)
   have w:=Y.now.ce j a c e2 e3
   cases c with
   | dead=>exact w
   | lst ds=>obtain⟨q1,ys,q2,q3⟩:=w;exact⟨by rw[aS ne];exact q1,ys,q2,q3.mono sF ⟨[],by simp⟩⟩
   | ins c ns ds=>obtain⟨q1,dx,ys,q2,q3,q4⟩:=w;exact⟨by rw[aS ne];exact q1,dx,ys,q2,q3,q4.mono sF ⟨[],by simp⟩⟩
  ·obtain⟨v,w1,w2⟩:=Y.sl i d e2
   exact⟨v,w1,w2.mono sF ⟨[],by simp⟩⟩
  ·unfold Rep
   exact⟨q,xs,rfl,SqL.of bZ,hr.mono sF ⟨[],by simp⟩⟩
noncomputable def g9 (m:Nat)(caps:List Nat)(im:IM)(g:GM)(c:TM)(e:EM):EM:=λs=>(jX m caps im g c e s).bind λy=>.ok (.ptr y.2.o.length,⟨y.2.r,y.2.o++[.lst y.1]⟩)
theorem jn{m:Nat}{c:TM}(hi:RdI C wi im)(hg:RdG C g gm)(hc:RdT C tc c)(he:RdE C te e):RdE C (rJ m caps wi g tc te) (g9 m caps im gm c e):=by
 intro σ H F θ s Q b p
 refine A6 hi hg hc he b ?_
 unfold g9 at p
 cases e1:jX m caps im gm c e s with
 | bad=>rw[e1] at p;exact p
 | exc a1 a2 a3=>rw[e1] at p;exact p
 | ok y=>
  rw[e1,ak] at p
  intro H1 F1 θ1 U Y q xs h0 h1 h2 h3 hr
  obtain⟨r,er,ab⟩:=U.th
  refine p H1 F1 (θ1++[q]) ⟨U.ff,⟨r++[q],by rw[er,Pz],λa ha=> ?_⟩,U.kp,U.al,U.nf⟩ ⟨⟨Y.now.fh, ?_,by simp[Y.now.ln],λk a c e2 e3=> ?_⟩,Y.len,λi d e2=> ?_⟩ (.ref q) ?_
  ·rcases xz.mp ha with z | z
   ·exact ab a z
   ·rw[ww.mp z];exact h0
  ·refine Qt.mpr ⟨Y.now.nd,by simp,λa ha x hx=> ?_⟩
   rw[ww.mp hx]
   rintro rfl
   exact h3 ha
  ·by_cases hk:k<θ1.length
   ·rw[w6 hk] at e2
    dsimp only at e3
    rw[w6 (by rw[<- Y.now.ln];exact hk)] at e3
    have w:=Y.now.ce k a c e2 e3
    cases c with
    | dead=>exact w
    | lst ds=>obtain⟨q1,ys,q2,q3⟩:=w;exact⟨q1,ys,q2,q3.mono (bJ.refl _) ⟨[q],rfl⟩⟩
    | ins c ns ds=>obtain⟨q1,dx,ys,q2,q3,q4⟩:=w;exact⟨q1,dx,ys,q2,q3,q4.mono (bJ.refl _) ⟨[q],rfl⟩⟩
   ·have ae:k<(θ1++[q]).length:=(wP.mp e2).1
    have am:k=θ1.length:=by simp at ae;omega
    subst am
    rw[wn (wf _)] at e2
    dsimp only at e3
    rw[wn (by rw[Y.now.ln];exact wf _),Y.now.ln] at e3
    simp at e2 e3
    subst e2;subst e3
    exact⟨h2,xs,h1,hr.mono (bJ.refl _) ⟨[q],rfl⟩⟩
  ·obtain⟨v,w1,w2⟩:=Y.sl i d e2
   exact⟨v,w1,w2.mono (bJ.refl _) ⟨[q],rfl⟩⟩
  ·unfold Rep
   exact⟨q,rfl,by rw[<- Y.now.ln];simp⟩
end
section
variable {C : Ct}
theorem tj(p:PoE C σ H F θ (.ok (.ptr s.o.length,(⟨s.r,s.o++[.lst ds]⟩:S))) Q)(b:BS C.K C.ca σ H F θ s)(r:aG C.K C.ca θ F ds xs):
 ∀q,H q=none->Q (.ref q) (upd H q (.lst xs)):=λq hq=>by
 obtain⟨st,U,Y⟩:=b.newC hq r
 exact p _ _ _ st U _ Y
def ug(O:aB):D->Option (List D)
 | .tup ds=>some ds
 | x=>lsD O x
def zL(m:EM):EM:=λs=>(m s).bind λx=>match ug x.2.o x.1 with
 | some ds=>.ok (.ptr x.2.o.length,⟨x.2.r,x.2.o++[.lst ds]⟩)
 | none=>.bad
theorem GC(h:RdE C t m):RdE C (tCB (λxs H Q=>∃p ys,xs=[.ref p]/\(SqL C.K H p ys\/SqT C.K H p ys)/\∀l,H l=none->Q (.ref l) (upd H l (.lst ys))) (fY t k6)) (zL m):=by
 intro σ H F θ s Q b p
 refine h σ H F θ s _ b (PoR.bind p ?_)
 rintro ⟨x,s1⟩ H1 F1 θ1 _ ae p1 U v Y
 dsimp only at p1 U Y
 split at p1
 ·rename_i ds e
  cases x with
  | tup es=>
   cases e
   obtain⟨a,xs,rfl,hs,hr⟩:=w9 U Y
   exact⟨a,xs,rfl,.inr hs,tj p1 U hr⟩
  | _=>
   obtain⟨a,xs,rfl,hs,hr⟩:=eN U Y e
   exact⟨a,xs,rfl,.inl hs,tj p1 U hr⟩
 ·exact ss p1
mutual
def shD(n:Nat):D->D
 | .lst ds=>.lst (fb n ds)
 | .tup ds=>.tup (fb n ds)
 | .ptr k=>.ptr (n+k)
 | .obj c ns ds=>.obj c ns (fb n ds)
 | .exn c=>.exn c
 | .non=>.non
 | .bl b=>.bl b
 | .int i=>.int i
 | .str x=>.str x
def fb(n:Nat):List D->List D
 | []=>[]
 | d::ds=>shD n d::fb n ds
end
def shC(n:Nat):Cell->Cell
 | .dead=>.dead
 | .lst ds=>.lst (fb n ds)
 | .ins c ns ds=>.ins c ns (fb n ds)
section
variable {K : sB} {ca : Nat → Addr} {F : Hp} {θ θ1 : List Addr}
mutual
theorem wt:∀{d:D} {v:V},Rep K ca θ1 F d v->Rep K ca (θ++θ1) F (shD θ.length d) v
 | .non,_,h=>by unfold shD;exact h
 | .bl _,_,h=>by unfold shD;exact h
 | .int _,_,h=>by unfold shD;exact h
 | .str _,_,h=>by unfold shD;exact h
 | .lst ds,_,h=>by
  unfold shD
  unfold Rep at h ⊢
  obtain⟨a,xs,e,Y,U⟩:=h
  exact⟨a,xs,e,Y,nZ U⟩
 | .tup ds,_,h=>by
  unfold shD
  unfold Rep at h ⊢
  obtain⟨a,xs,e,Y,U⟩:=h
  exact⟨a,xs,e,Y,nZ U⟩
 | .ptr k,_,h=>by
  unfold shD
  unfold Rep at h ⊢
  obtain⟨a,e,hk⟩:=h
  exact⟨a,e,by rw[wn (RQ _ _),PQ];exact hk⟩
 | .obj c ns ds,_,h=>by
  unfold shD
  unfold Rep at h ⊢
  obtain⟨a,dx,xs,e,ha,hl,U⟩:=h
  exact⟨a,dx,xs,e,ha,hl,nZ U⟩
 | .exn c,_,h=>by
  unfold shD
  unfold Rep at h ⊢
  exact h
theorem nZ:∀{ds:List D} {xs:List V},aG K ca θ1 F ds xs->aG K ca (θ++θ1) F (fb θ.length ds) xs
 | [],_,h=>by unfold fb;exact h
 | d::ds,_,h=>by
  unfold fb
  unfold aG at h ⊢
  obtain⟨v,r,e,h1,h2⟩:=h
  exact⟨v,r,e,wt h1,nZ h2⟩
end
end
theorem BS.calledO(b:BS K ca σ H F θ s)(st:Stp H F [] H1 F1 θ1)(n:Now K ca H1 F1 θ1 O1):
 Stp H F θ H1 F1 (θ++θ1)/\BS K ca σ H1 F1 (θ++θ1) ⟨s.r,s.o++O1.map (shC s.o.length)⟩:=by
 obtain⟨U,b0⟩:=b.called st n
 obtain⟨r,er,hr⟩:=st.th
 rw[Db] at er
 subst er
 refine⟨⟨U.ff,⟨θ1,rfl,hr⟩,U.kp,U.al,U.nf⟩,⟨⟨n.fh,Qt.mpr ⟨b.now.nd,n.nd,λa ha x hx=> ?_⟩,by simp[b.now.ln,n.ln],λk a c e1 e2=> ?_⟩,b.len,λi d e=> ?_⟩⟩
 ·rintro rfl
  obtain⟨u,hu⟩:=b.now.there ha
  rw[hr a hx] at hu
  cases hu
 ·by_cases hk:k<θ.length
  ·rw[w6 hk] at e1
   dsimp only at e2
   rw[w6 (by rw[<- b.now.ln];exact hk)] at e2
   have w:=b0.now.ce k a c e1 e2
   cases c with
   | dead=>exact w
   | lst ds=>obtain⟨q1,ys,q2,Y⟩:=w;exact⟨q1,ys,q2,Y.mono (bJ.refl _) ⟨θ1,rfl⟩⟩
   | ins c ns ds=>obtain⟨q1,dx,ys,q2,Y,q4⟩:=w;exact⟨q1,dx,ys,q2,Y,q4.mono (bJ.refl _) ⟨θ1,rfl⟩⟩
  ·rw[wn (by omega)] at e1
   dsimp only at e2
   rw[wn (by rw[<- b.now.ln];omega),xL,<- b.now.ln] at e2
   cases e3:O1[k-θ.length]? with
   | none=>rw[e3] at e2;cases e2
   | some c'=>
    rw[e3] at e2
    cases e2
    have w:=n.ce _ a c' e1 e3
    cases c' with
    | dead=>exact w
    | lst ds=>obtain⟨q1,ys,q2,Y⟩:=w;exact⟨q1,ys,q2,nZ Y⟩
    | ins c ns ds=>obtain⟨q1,dx,ys,q2,Y,q4⟩:=w;exact⟨q1,dx,ys,q2,Y,nZ q4⟩
 ·obtain⟨v,h1,h2⟩:=b0.sl i d e
  exact⟨v,h1,h2.mono (bJ.refl _) ⟨θ1,rfl⟩⟩
def fe(n:Nat)(f:FM)(ma:AM):EM:=λs=>(ma s).bind λx=>if aM x.1=true/\x.1.length=n then (match f x.1 [] with
 | .ok (d,O1)=>.ok (shD x.2.o.length d,⟨x.2.r,x.2.o++O1.map (shC x.2.o.length)⟩)
 | _=>.bad) else .bad
theorem jc(ha:RdA C ta ma):RdE C (nG (spM C.K C.ca n f) [] E ta) (fe n f ma):=by
 intro σ H F θ s Q b p
 refine ha σ H F θ s _ b (PoR.bind p ?_)
 rintro ⟨x,s1⟩ H1 F1 θ1 _ ae p1 U v r1
 dsimp only at p1 U r1 ⊢
 split at p1
 ·rename_i hp
  rw[PM]
  refine⟨F1,[],x,[],Now.nil U.now.fh,r1.pure hp.1,hp.2, ?_⟩
  split at p1
  ·rename_i d O1 e
   rw[e]
   intro v H2 F2 θ2 Y n2 rv
   obtain⟨ab,b3⟩:=U.calledO Y n2
   refine p1 H2 F2 _ ab b3 v ?_
   rw[<- U.now.ln]
   exact wt rv
  ·exact ss p1
 ·exact ss p1
def fL(n:Nat)(f:FM)(ma:AM):EM:=λs=>(ma s).bind λx=>if aM (bM x.2.o (bM x.2.o x.1))=true/\x.1.length=n then (match f (bM x.2.o (bM x.2.o x.1)) [] with
 | .ok (d,_)=>if nM d=true then .ok (d,x.2) else .bad
 | _=>.bad) else .bad
theorem jP(O:aB):∀ds:List D,(bM O ds).length=ds.length
 | []=>by unfold bM;rfl
 | d::ds=>by unfold bM;rw[wE,wE,jP O ds]
theorem j8(ha:RdA C ta ma):RdE C (nG (spM C.K C.ca n f) [] E ta) (fL n f ma):=by
 intro σ H F θ s Q b p
 refine ha σ H F θ s _ b (PoR.bind p ?_)
 rintro ⟨x,s1⟩ H1 F1 θ1 _ ae p1 U v r1
 dsimp only at p1 U r1 ⊢
 split at p1
 ·rename_i hp
  rw[PM]
  have rr:aG C.K C.ca θ1 H1 (bM s1.o (bM s1.o x)) v:=j2 U.now U.now.fh (bJ.refl _) (j2 U.now (bJ.refl _) U.now.fh r1)
  refine⟨H1,[],bM s1.o (bM s1.o x),[],Now.nil (bJ.refl _),rr.pure hp.1,by rw[jP,jP];exact hp.2, ?_⟩
  split at p1
  ·rename_i d O1 e
   rw[e]
   intro v H2 F2 θ2 Y n2 rv
   split at p1
   ·rename_i sd
    have kp:∀a o,H1 a=some o->H2 a=some o:=λa o h=>Y.kp a o h (by simp)
    refine p1 H2 F1 θ1 ⟨bJ.refl _,⟨[],by simp,by simp⟩,λa o h _=>kp a o h,Y.al,λa o h=>.inl h⟩ ⟨⟨λa o h=>kp a o (U.now.fh a o h),U.now.nd,U.now.ln,λk a c e1 e2=> ?_⟩,U.len,U.sl⟩ v (rv.scal sd)
    have w:=U.now.ce k a c e1 e2
    cases c with
    | dead=>obtain⟨o,ho⟩:=w;exact⟨o,kp a o ho⟩
    | lst ds=>obtain⟨q1,ys,q2,q3⟩:=w;exact⟨q1,ys,kp _ _ q2,q3⟩
    | ins c ns ds=>obtain⟨q1,dx,ys,q2,q3,q4⟩:=w;exact⟨q1,dx,ys,kp _ _ q2,q3,q4⟩
   ·exact ss p1
  ·exact ss p1
 ·exact ss p1
end
def Jq(P:Program)(w:World)(K:sB)(mg:Str->Option Value)(base:Heap)(ca:Nat->Addr)(lv:Nat)(x:Str)(ps:List Str)(f:FM)(a:Addr)(fd:FuncData):Prop:=
 ip P w K mg base (CXE P w) lv a fd ps (spM K ca ps.length f)/\mg x=some (.ref a)/\IR K (.ref a)=true/\Binds K fd ps []
def DE(P:Program)(w:World)(K:sB)(mg:Str->Option Value)(base:Heap)(ca:Nat->Addr)(lv:Nat)(x:Str)(ps:List Str)(f:FM):Prop:=∃a fd,Jq P w K mg base ca lv x ps f a fd
theorem yu{K:sB}{ca:Nat->Addr}{θ:List Addr}{F:Hp}:∀ns:List Int,aG K ca θ F (ns.map D.int) (ns.map V.int)
 | []=>aG.nil
 | _::ns=>aG.cons (bg.mpr rfl) (yu ns)
theorem MM{ns:List Int}(U:SqL K H a (ns.map V.int))(h:∃O,f [.lst (ns.map D.int)] []=.ok (.bl true,O)):spM K ca 1 f [.ref a] H (λv _=>v=.bl true) E:=by
 obtain⟨O,h⟩:=h
 refine⟨H,[],[.lst (ns.map D.int)],[],Now.nil (bJ.refl _),aG.one ?_,rfl, ?_⟩
 ·unfold Rep
  exact⟨a,ns.map V.int,rfl,U,yu ns⟩
 ·rw[h]
  intro v H1 F1 θ1 _ _ r
  exact cI.mp r
theorem mG{A:Around}(U:dk k A)(hk:32<=k):A.depth+100<recursionLimit:=by
 have:=U.dp
 omega
def xR(i:Nat)(s:S):Nat:=match s.r[i]? with
 | some (some (.int j))=>j.natAbs+1
 | _=>0
section
variable {C : Ct}
def j4(as bs:List D):List D:=PX (λa b=>.tup [a,b]) as bs
def sP(m:AM):IM:=λs=>(m s).bind λx=>match x.1 with
 | [.lst as,.lst bs]=>.ok ((j4 as bs,none),x.2)
 | _=>.bad
theorem rW(h:(j4 as bs)[i]? =some d):∃x y,as[i]? =some x/\bs[i]? =some y/\d=.tup [x,y]:=by
 unfold j4 at h
 rw[R8] at h
 cases h1:as[i]? with
 | none=>rw[h1] at h;cases h
 | some x=>
  cases h2:bs[i]? with
  | none=>rw[h1,h2] at h;cases h
  | some y=>
   rw[h1,h2] at h
   cases h
   exact⟨x,y,rfl,rfl,rfl⟩
theorem Ma{a b:Addr}{xs ys:List V}{H F:Hp}(h1:SqL C.K F a xs)(h2:SqL C.K F b ys)(r1:aG C.K C.ca θ F as xs)(r2:aG C.K C.ca θ F bs ys):
 sC C (Itz C.K a b) (j4 as bs) (okC (j4 as bs) none) H F θ where
 go:=λi H2 F2 θ2 O2 hi st n _=>by
  obtain⟨x,y,e1,e2,_⟩:=rW (uX hi)
  obtain⟨v,q1,_⟩:=r1.get e1
  obtain⟨w,q2,_⟩:=r2.get e2
  exact⟨xs,ys,v,w,n.fh.seq (st.ff.seq h1),n.fh.seq (st.ff.seq h2),q1,q2⟩
 yl:=λi d σ H2 F2 θ2 s2 x H3 hd st b _ hy=>by
  obtain⟨T,v,w,hT,rfl,rfl,hv,hw⟩:=hy
  obtain⟨x,y,e1,e2,rfl⟩:=rW hd
  obtain⟨v',q1,k1⟩:=r1.get e1
  obtain⟨w',q2,k2⟩:=r2.get e2
  have:=hv xs (b.now.fh.seq (st.ff.seq h1))
  rw[q1] at this
  cases this
  have:=hw ys (b.now.fh.seq (st.ff.seq h2))
  rw[q2] at this
  cases this
  obtain⟨st3,b3,sF,e3⟩:=b.newF hT (.tup [v,w])
  refine⟨_,st3,b3, ?_⟩
  unfold Rep
  exact⟨T,[v,w],rfl,SqT.of e3,aG.cons ((k1.mono st.ff st.pre).mono st3.ff st3.pre) (aG.one ((k2.mono st.ff st.pre).mono st3.ff st3.pre))⟩
 st:=λi H2 F2 θ2 O2 hi st n _=>by
  refine⟨xs,ys,n.fh.seq (st.ff.seq h1),n.fh.seq (st.ff.seq h2), ?_⟩
  unfold j4 at hi
  rw[Qf] at hi
  rw[r1.length,r2.length]
  omega
theorem BP{m:AM}(h:RdA C ta m):RdI C (HD C.K ta) (sP m):=by
 intro σ H F θ s R b p
 refine h σ H F θ s _ b (PoR.bind p ?_)
 rintro ⟨x,s1⟩ H1 F1 θ1 _ ap p1 Y v r1
 dsimp only at p1 Y r1
 split at p1
 ·rename_i as bs
  obtain⟨v1,v2,rfl,k1,k2⟩:=Ji r1
  unfold Rep at k1 k2
  obtain⟨a,xs,rfl,hs,hr⟩:=k1
  obtain⟨b',ys,rfl,U,ab⟩:=k2
  exact⟨a,b',rfl,⟨xs,Y.now.fh.seq hs⟩,⟨ys,Y.now.fh.seq U⟩,p1 _ _ _ .refl Y _ (Ma hs U hr ab)⟩
 ·exact ss p1
def dN(ds:List D):List D:=ds.mapIdx λi d=>.tup [.int (i:Nat),d]
def cZ(m:AM):IM:=λs=>(m s).bind λx=>match x.1 with
 | [.lst as]=>.ok ((dN as,none),x.2)
 | _=>.bad
theorem yI(h:(dN as)[i]? =some d):∃x,as[i]? =some x/\d=.tup [.int (i:Nat),x]:=by
 unfold dN at h
 rw[List.getElem?_mapIdx] at h
 cases h1:as[i]? with
 | none=>rw[h1] at h;cases h
 | some x=>
  rw[h1] at h
  cases h
  exact⟨x,rfl,rfl⟩
theorem K6(h1:SqL C.K F a xs)(r1:aG C.K C.ca θ F as xs):sC C (Ite C.K a) (dN as) (okC (dN as) none) H F θ where
 go:=λi H2 F2 θ2 O2 hi st n _=>by
  obtain⟨x,e1,_⟩:=yI (uX hi)
  obtain⟨v,q1,_⟩:=r1.get e1
  exact⟨xs,v,n.fh.seq (st.ff.seq h1),q1⟩
 yl:=λi d σ H2 F2 θ2 s2 x H3 hd st b _ hy=>by
  obtain⟨T,v,hT,rfl,rfl,hv⟩:=hy
  obtain⟨x,e1,rfl⟩:=yI hd
  obtain⟨v',q1,k1⟩:=r1.get e1
  have:=hv xs (b.now.fh.seq (st.ff.seq h1))
  rw[q1] at this
  cases this
  obtain⟨st3,b3,sF,e3⟩:=b.newF hT (.tup [.int (i:Nat),v])
  refine⟨_,st3,b3, ?_⟩
  unfold Rep
  exact⟨T,[.int (i:Nat),v],rfl,SqT.of e3,aG.cons (bg.mpr rfl) (aG.one ((k1.mono st.ff st.pre).mono st3.ff st3.pre))⟩
 st:=λi H2 F2 θ2 O2 hi st n _=>by
  refine⟨xs,n.fh.seq (st.ff.seq h1), ?_⟩
  unfold dN at hi
  rw[List.length_mapIdx] at hi
  rw[r1.length]
  exact hi
theorem gn{m:AM}(h:RdA C ta m):RdI C (Jp C.K ta) (cZ m):=by
 intro σ H F θ s R b p
 refine h σ H F θ s _ b (PoR.bind p ?_)
 rintro ⟨x,s1⟩ H1 F1 θ1 _ ae p1 U v Y
 dsimp only at p1 U Y
 split at p1
 ·rename_i as
  obtain⟨v1,rfl,k1⟩:=mC Y
  unfold Rep at k1
  obtain⟨a,xs,rfl,hs,hr⟩:=k1
  exact⟨a,rfl,⟨xs,U.now.fh.seq hs⟩,p1 _ _ _ .refl U _ (K6 hs hr)⟩
 ·exact ss p1
def oi(x:Str):List D:=x.cps.toList.map λc=>.str ⟨#[c]⟩
def DP(m:EM):IM:=λs=>(m s).bind λx=>match x.1 with
 | .str z=>.ok ((oi z,none),x.2)
 | _=>.bad
theorem LW{z:Str}:sC C (Its z) (oi z) (okC (oi z) none) H F θ where
 go:=λi H2 F2 θ2 O2 hi st n _=>by
  unfold oi at hi
  show i<z.cps.size
  simpa using hi
 yl:=λi d σ H2 F2 θ2 s2 x H3 hd st b _ hy=>by
  obtain⟨rfl,c,hc,rfl⟩:=hy
  refine⟨F2,.refl,b, ?_⟩
  unfold oi at hd
  rw[xL,Q7,hc] at hd
  cases hd
  exact dj.mpr rfl
 st:=λi H2 F2 θ2 O2 hi st n _=>by
  unfold oi at hi
  show z.cps.size<=i
  simpa using hi
theorem J0(h:RdE C te m):RdI C (MC te) (DP m):=by
 intro σ H F θ s R b p
 refine h σ H F θ s _ b (PoR.bind p ?_)
 rintro ⟨x,s1⟩ H1 F1 θ1 _ ab p1 U v Y
 dsimp only at p1 U Y
 cases x <;> first | exact ss p1 | skip
 rename_i z _
 exact⟨z,dj.mp Y,p1 _ _ _ .refl U _ LW⟩
def gD:List D->Option (List Int)
 | []=>some []
 | .int i::r=>(gD r).map (i:: ·)
 | _=>none
def jA:List D->Option (List Bool)
 | []=>some []
 | .bl i::r=>(jA r).map (i:: ·)
 | _=>none
theorem wO{K:sB}{ca:Nat->Addr}{θ:List Addr}{F:Hp}:∀{ds:List D} {ns:List Int} {xs:List V},gD ds=some ns->aG K ca θ F ds xs->xs=ns.map V.int
 | [],ns,xs,e,r=>by cases e;unfold aG at r;rw[r];rfl
 | d::ds,ns,xs,e,r=>by
  cases d <;> first | (cases e;done) | skip
  rename_i i
  unfold gD at e
  cases e2:gD ds with
  | none=>rw[e2] at e;cases e
  | some ms=>
   rw[e2] at e
   cases e
   unfold aG at r
   obtain⟨v,w,rfl,h1,h2⟩:=r
   rw[wO e2 h2,bg.mp h1];rfl
theorem uQ{K:sB}{ca:Nat->Addr}{θ:List Addr}{F:Hp}:∀{ds:List D} {ns:List Bool} {xs:List V},jA ds=some ns->aG K ca θ F ds xs->xs=ns.map V.bl
 | [],ns,xs,e,r=>by cases e;unfold aG at r;rw[r];rfl
 | d::ds,ns,xs,e,r=>by
  cases d <;> first | (cases e;done) | skip
  rename_i i
  unfold jA at e
  cases e2:jA ds with
  | none=>rw[e2] at e;cases e
  | some ms=>
   rw[e2] at e
   cases e
   unfold aG at r
   obtain⟨v,w,rfl,h1,h2⟩:=r
   rw[uQ e2 h2,cI.mp h1];rfl
def ofInts(f:List Int->D):OpN:=λO xs=>match xs with
 | [x]=>match lsD O x with
  | some ds=>match gD ds with
   | some ns=>.ok (f ns)
   | none=>.bad
  | none=>.bad
 | _=>.bad
def uk(f:List Bool->D):OpN:=λO xs=>match xs with
 | [x]=>match lsD O x with
  | some ds=>match jA ds with
   | some ns=>.ok (f ns)
   | none=>.bad
  | none=>.bad
 | _=>.bad
def oM:OpN:=ofInts λns=>.int ns.sum
def DH:OpN:=uk λbs=>.bl (bs.all id)
def ye:OpN:=uk λbs=>.bl (bs.any id)
theorem Fz{f:List Int->D}{g:List Int->V}(h:∀K ca θ F ns,Rep K ca θ F (f ns) (g ns)):i9 C (λxs H Q=>∃(p:Addr) (ns:List Int),xs=[.ref p]/\SqL C.K H p (ns.map V.int)/\Q (g ns) H) (ofInts f):=by
 intro σ H F θ s xs vs Q b r p
 unfold ofInts at p
 split at p
 ·obtain⟨v,rfl,U⟩:=mC r
  split at p
  ·rename_i ds e
   obtain⟨a,ys,rfl,Y,hr⟩:=eN b U e
   split at p
   ·rename_i ns e2
    have:=wO e2 hr
    subst this
    exact⟨a,ns,rfl,Y,dF p b (h ..)⟩
   ·exact ss p
  ·exact ss p
 ·exact ss p
theorem xj{f:List Bool->D}{g:List Bool->V}(h:∀K ca θ F ns,Rep K ca θ F (f ns) (g ns)):i9 C (λxs H Q=>∃(p:Addr) (ns:List Bool),xs=[.ref p]/\SqL C.K H p (ns.map V.bl)/\Q (g ns) H) (uk f):=by
 intro σ H F θ s xs vs Q b r p
 unfold uk at p
 split at p
 ·obtain⟨v,rfl,U⟩:=mC r
  split at p
  ·rename_i ds e
   obtain⟨a,ys,rfl,Y,hr⟩:=eN b U e
   split at p
   ·rename_i ns e2
    have:=uQ e2 hr
    subst this
    exact⟨a,ns,rfl,Y,dF p b (h ..)⟩
   ·exact ss p
  ·exact ss p
 ·exact ss p
theorem xb:i9 C (λxs H Q=>∃(p:Addr) (ns:List Int),xs=[.ref p]/\SqL C.K H p (ns.map V.int)/\Q (.int ns.sum) H) oM:=Fz λ_ _ _ _ _=>bg.mpr rfl
theorem Fl:i9 C (λxs H Q=>∃(p:Addr) (bs:List Bool),xs=[.ref p]/\SqL C.K H p (bs.map V.bl)/\Q (.bl (bs.all id)) H) DH:=xj λ_ _ _ _ _=>cI.mpr rfl
theorem By:i9 C (λxs H Q=>∃(p:Addr) (bs:List Bool),xs=[.ref p]/\SqL C.K H p (bs.map V.bl)/\Q (.bl (bs.any id)) H) ye:=xj λ_ _ _ _ _=>cI.mpr rfl
def Ml:D->Bool
 | .non=>true
 | _=>false
def isD:Op2:=λ_ x y=>match x,y with
 | .bl a,.bl b=>.ok (.bl (a == b))
 | x,.non=>.ok (.bl (Ml x))
 | _,_=>.bad
def xm:Op2:=λ_ x y=>match y with
 | .non=>.ok (.bl (!Ml x))
 | _=>.bad
theorem Fq{X:Cx}:OpR X (compareOp .LtE) (λx y H Q=>∃i j,x=.str i/\y=.str j/\Q (.bl (!decide (j.cps.toList<i.cps.toList))) H):=by
 intro pins s σ H x y v u Q I U Y h
 obtain⟨i,j,rfl,rfl,q⟩:=h
 obtain⟨t,rfl⟩:=U
 obtain⟨t',rfl⟩:=Y
 exact PySem.P.le_str (cJ I q rfl)
def rH:Op2:=λ_ x y=>match x,y with
 | .str i,.str j=>.ok (.bl (!decide (j.cps.toList<i.cps.toList)))
 | _,_=>.bad
theorem EG:gh C (λx y H Q=>∃i j,x=.str i/\y=.str j/\Q (.bl (!decide (j.cps.toList<i.cps.toList))) H) rH:=by
 intro σ H F θ s x y v w Q b U Y p
 unfold rH at p
 split at p
 ·rename_i i j
  exact⟨i,j,dj.mp U,dj.mp Y,dF p b (cI.mpr rfl)⟩
 ·exact ss p
def kI(f g:Op2)(a b c:EM):EM:=λs=>(a s).bind λx=>(b x.2).bind λy=>(f y.2.o x.1 y.1).bind λz=>match z with
 | .bl true=>(c y.2).bind λw=>(g w.2.o y.1 w.1).bind λd=>.ok (d,w.2)
 | .bl false=>.ok (.bl false,y.2)
 | _=>.bad
theorem BE{r r':R2}{f g:Op2}{ta tb tc:TE}{ma mb mc:EM}(hf:gh C r f)(hg:gh C r' g)(ha:RdE C ta ma)(hb:RdE C tb mb)(hc:RdE C tc mc):RdE C (BV r r' ta tb tc) (kI f g ma mb mc):=by
 intro σ H F θ s Q b p
 refine ha σ H F θ s _ b (PoR.bind p ?_)
 rintro ⟨x,s1⟩ H1 F1 θ1 _ ap p1 b1 v r1
 refine hb σ H1 F1 θ1 s1 _ b1 (PoR.bind p1 ?_)
 rintro ⟨y,s2⟩ H2 F2 θ2 _ Y p2 b2 w r2
 dsimp only at p2
 refine hf σ H2 F2 θ2 s2 x y v w _ b2 (r1.mono Y.ff Y.pre) r2 ?_
 cases e:f s2.o x y with
 | bad=>rw[e] at p2;exact p2
 | exc a1 a2 a3=>rw[e] at p2;exact p2
 | ok z=>
  rw[e,ak] at p2
  rw[ak]
  intro H3 F3 θ3 U b3 u r3
  cases z <;> first | exact ss p2 | skip
  rename_i k
  refine⟨k,cI.mp r3, ?_⟩
  cases k with
  | false=>exact tm (PoR.after U p2 _ _ _ .refl b3 _ (cI.mpr rfl))
  | true=>
   refine su (hc σ H3 F3 θ3 s2 _ b3 (PoR.bind (PoR.after U p2) ?_))
   rintro ⟨q,s4⟩ H4 F4 θ4 _ ab p4 b4 w' r4
   exact hg σ H4 F4 θ4 s4 y q w w' Q b4 ((r2.mono U.ff U.pre).mono ab.ff ab.pre) r4 p4
def orD:Op2:=intD λi j=>.ok (.int (Builtin.bitOr i j))
theorem E6:gh C (rI0 λi j=>.int (Builtin.bitOr i j)) orD:=qf λ_ _ _ _ _ _=>bg.mpr rfl
def uh(n:Nat)(f:FM)(ma:AM):EM:=λs=>(ma s).bind λx=>if x.1.length=n then (match f x.1 x.2.o with
 | .ok (d,O1)=>.ok (d,⟨x.2.r,O1⟩)
 | _=>.bad) else .bad
theorem Bx(ha:RdA C ta ma):RdE C (nG (spM C.K C.ca n f) [] E ta) (uh n f ma):=by
 intro σ H F θ s Q b p
 refine ha σ H F θ s _ b (PoR.bind p ?_)
 rintro ⟨x,s1⟩ H1 F1 θ1 _ ac p1 Y v r1
 dsimp only at p1 Y r1 ⊢
 split at p1
 ·rename_i hp
  rw[PM]
  refine⟨F1,θ1,x,s1.o,Y.now,r1,hp, ?_⟩
  split at p1
  ·rename_i d O1 e
   rw[e]
   intro v H2 F2 θ2 U n2 rv
   exact p1 H2 F2 θ2 U ⟨n2,Y.len,λi d e=>by
    obtain⟨v,h1,h2⟩:=Y.sl i d e
    exact⟨v,h1,h2.mono U.ff U.pre⟩⟩ v rv
  ·exact ss p1
 ·exact ss p1
def DM(k:Int)(ds:List D):List D:=(tz k.toNat ds).flatten
def AK(fin:S->List D->Res (D×S))(ma:AM)(mk:EM):EM:=λs=>(ma s).bind λx=>if x.1.length<=16777216 then (mk x.2).bind λy=>match y.1 with
 | .int k=>if (-(2^63)<=k/\k<2^63)/\x.1.length*k.toNat<=16777216 then fin y.2 (DM k x.1) else .bad
 | _=>.bad
 else .bad
def DN:S->List D->Res (D×S):=λs ds=>.ok (.lst ds,s)
def sW:S->List D->Res (D×S):=λs ds=>.ok (.ptr s.o.length,⟨s.r,s.o++[.lst ds]⟩)
theorem BX{K ca θ F}{ds:List D}{xs:List V}(r:aG K ca θ F ds xs):∀k:Nat,aG K ca θ F (tz k ds).flatten (tz k xs).flatten
 | 0=>aG.nil
 | k+1=>by
  rw[Px,Px,Qd,Qd]
  exact r.append (BX r k)
theorem Lp {fin:S->List D->Res (D×S)} {tk:TE} {mk:EM} (ha:RdA C ta ma) (hk:RdE C tk mk)
 (hf:∀σ H F θ s ds xs Q,BS C.K C.ca σ H F θ s->aG C.K C.ca θ F ds xs->PoE C σ H F θ (fin s ds) Q->∀q,H q=none->Q (.ref q) (upd H q (.lst xs))):RdE C (tOp Hs (Bd ta) tk) (AK fin ma mk):=by
 intro σ H F θ s Q b p
 refine ha σ H F θ s _ b (PoR.bind p ?_)
 rintro ⟨x,s1⟩ H1 F1 θ1 _ am p1 b1 v Y
 dsimp only at p1
 split at p1
 ·rename_i hl
  refine⟨by rw[Y.length];exact hl,λq hq=> ?_⟩
  obtain⟨st,b2,sF,e⟩:=b1.newF hq (.lst v)
  refine hk σ _ _ _ s1 _ b2 (PoR.bind (PoR.after st p1) ?_)
  rintro ⟨y,s2⟩ H2 F2 θ2 _ U p2 b3 w r2
  dsimp only at p2 r2
  split at p2
  ·rename_i k _
   split at p2
   ·rename_i hk
    rw[bg.mp r2]
    refine⟨q,k,v,rfl,rfl,b3.now.fh _ _ (U.ff _ _ e),hk.1.1,hk.1.2,by rw[Y.length];exact hk.2, ?_⟩
    exact hf σ H2 F2 θ2 s2 _ _ Q b3 (BX (((Y.mono sF ⟨[],by simp⟩).mono U.ff U.pre)) k.toNat) p2
   ·exact ss p2
  ·exact ss p2
 ·exact ss p1
theorem KN{tk:TE}{mk:EM}(ha:RdA C ta ma)(hk:RdE C tk mk):RdE C (tOp Hs (Bd ta) tk) (AK sW ma mk):=Lp ha hk λσ H F θ s ds xs Q b r p=>tj p b r
def NR(m:EM):TM:=λs=>(m s).bind λx=>match lsD x.2.o x.1 with
 | some ds=>.ok (!ds.isEmpty,x.2)
 | none=>.bad
end
section
variable {C : Ct}
theorem aG.places{K:sB}{ca:Nat->Addr}{θ:List Addr}{F:Hp}{ds:List D}{xs:List V}(r:aG K ca θ F ds xs):∀U:List Nat,aG K ca θ F (U.filterMap (ds[·]?)) (U.filterMap (xs[·]?))
 | []=>aG.nil
 | j::U=>by
  have ih:=aG.places r U
  cases hn:ds[j]? with
  | some d=>
   obtain⟨v,Y,rv⟩:=r.get hn
   simp only[PL,hn,Y]
   exact aG.cons rv ih
  | none=>
   have Y:xs[j]? =none:=by
    rw[RH] at hn ⊢
    rw[r.length];exact hn
   simp only[PL,hn,Y]
   exact ih
def zV(fin:S->List D->Res (D×S))(me:EM)(U Y ms:OM):EM:=λs=>(me s).bind λx=>(U x.2).bind λl=>(Y l.2).bind λh=>(ms h.2).bind λt=>match lsD t.2.o x.1 with
 | some ds=>if t.1=some 0 then .bad else fin t.2 (pick ds l.1 h.1 t.1)
 | none=>.bad
theorem MX {fin:S->List D->Res (D×S)} {tl th ts:TO} {ml mh ms:OM} (he:RdE C te me) (hl:RdO C tl ml) (hh:RdO C th mh) (ht:RdO C ts ms)
 (hf:∀σ H F θ s ds xs Q,BS C.K C.ca σ H F θ s->aG C.K C.ca θ F ds xs->PoE C σ H F θ (fin s ds) Q->∀q,H q=none->Q (.ref q) (upd H q (.lst xs))):RdE C (HV C.K te tl th ts) (zV fin me ml mh ms):=by
 intro σ H F θ s Q b p
 refine he σ H F θ s _ b (PoR.bind p ?_)
 rintro ⟨x,s1⟩ H1 F1 θ1 _ bb p1 b1 v r1
 refine hl σ H1 F1 θ1 s1 _ b1 (PoR.bind p1 ?_)
 rintro ⟨l,s2⟩ H2 F2 θ2 _ Y p2 b2
 refine hh σ H2 F2 θ2 s2 _ b2 (PoR.bind p2 ?_)
 rintro ⟨h,s3⟩ H3 F3 θ3 _ ab p3 b3
 refine ht σ H3 F3 θ3 s3 _ b3 (PoR.bind p3 ?_)
 rintro ⟨t,s4⟩ H4 F4 θ4 _ ac U b4
 dsimp only at U ⊢
 split at U
 ·rename_i ds e
  split at U
  ·exact ss U
  ·rename_i h0
   obtain⟨a,xs,rfl,hs,hr⟩:=eN b4 (((r1.mono Y.ff Y.pre).mono ab.ff ab.pre).mono ac.ff ac.pre) e
   refine⟨a,xs,rfl,hs,h0, ?_⟩
   have hp:aG C.K C.ca θ4 F4 (pick ds l h t) (pick xs l h t):=by
    unfold pick
    rw[hr.length]
    exact hr.places _
   exact hf σ H4 F4 θ4 s4 _ _ Q b4 hp U
 ·exact ss U
theorem Kn{tl th ts:TO}{U Y ms:OM}(he:RdE C te me)(hl:RdO C tl U)(hh:RdO C th Y)(ht:RdO C ts ms):RdE C (HV C.K te tl th ts) (zV DN me U Y ms):=MX he hl hh ht λσ H F θ s ds xs Q b r p=>sO p b r
end
section
variable {C : Ct}
def vq(m:EM):EM:=λs=>(m s).bind λx=>match gz x.2.o x.1 with
 | some (k,ds)=>.ok (.lst ds,⟨x.2.r,x.2.o.set k .dead⟩)
 | none=>.ok x
theorem CS(m:EM)(s:S):vq m s=(m s).bind λx=>match gz x.2.o x.1 with
 | some (k,ds)=>.ok (.lst ds,⟨x.2.r,x.2.o.set k .dead⟩)
 | none=>.ok x:=rfl
theorem Dw(h:RdE C t m):RdE C t (vq m):=by
 intro σ H F θ s Q b p
 refine h σ H F θ s _ b (PoR.bind p ?_)
 rintro ⟨x,s1⟩ H1 F1 θ1 _ ae p1 U v Y
 dsimp only at p1 U Y
 split at p1
 ·rename_i k ds e
  obtain⟨rfl,e'⟩:=oS e
  obtain⟨a,xs,rfl,hk,hF,h1,h2⟩:=kE U Y e'
  obtain⟨ab,b2,r2⟩:=U.frz hk e' hF h1 h2
  exact p1 _ _ _ ab b2 _ r2
 ·exact p1 _ _ _ .refl U _ Y
end
section
variable {C : Ct}
def slS(me:EM)(U Y:OM):EM:=λs=>(me s).bind λx=>(U x.2).bind λl=>(Y l.2).bind λh=>match x.1 with
 | .str z=>if z.length<=16777216 then .ok (.str (kY z l.1 h.1),h.2) else .bad
 | _=>.bad
theorem FI{tl th:TO}{Y mh:OM}(he:RdE C te me)(hl:RdO C tl Y)(hh:RdO C th mh):RdE C (tSl IZ te tl th) (slS me Y mh):=by
 intro σ H F θ s Q b p
 refine he σ H F θ s _ b (PoR.bind p ?_)
 rintro ⟨x,s1⟩ H1 F1 θ1 _ an p1 b1 v r1
 refine hl σ H1 F1 θ1 s1 _ b1 (PoR.bind p1 ?_)
 rintro ⟨l,s2⟩ H2 F2 θ2 _ a2 p2 b2
 refine hh σ H2 F2 θ2 s2 _ b2 (PoR.bind p2 ?_)
 rintro ⟨h,s3⟩ H3 F3 θ3 _ a4 U b3
 dsimp only at U ⊢
 split at U
 ·rename_i z _
  split at U
  ·rename_i hz
   exact⟨z,dj.mp r1,by rw[sizeLine_eq];exact hz,U _ _ _ .refl b3 _ (dj.mpr rfl)⟩
  ·exact ss U
 ·exact ss U
theorem Mo(me:EM)(U Y:OM)(s:S):slS me U Y s=(me s).bind λx=>(U x.2).bind λl=>(Y l.2).bind λh=>match x.1 with
 | .str z=>if z.length<=16777216 then .ok (.str (kY z l.1 h.1),h.2) else .bad
 | _=>.bad:=rfl
end
section
variable {C : Ct}
def mL:List D->Option (List Str)
 | []=>some []
 | .str z::r=>match mL r with
  | some zs=>some (z::zs)
  | none=>none
 | _=>none
theorem yQ:∀{ds:List D} {zs:List Str},mL ds=some zs->ds=zs.map D.str
 | [],zs,h=>by cases h;rfl
 | d::ds,zs,h=>by
  cases d <;> first | (simp[mL] at h;done) | skip
  rename_i z
  unfold mL at h
  cases e:mL ds with
  | none=>rw[e] at h;cases h
  | some ys=>
   rw[e] at h
   cases h
   rw[yQ e];rfl
theorem rM:∀zs:List Str,mL (zs.map D.str)=some zs
 | []=>rfl
 | z::zs=>by rw[AC];unfold mL;rw[rM zs]
def inB(O:aB)(x y:D):Option Bool:=match x with
 | .str a=>match lsD O y with
  | some ds=>match mL ds with
   | some zs=>some (zs.any (· == a))
   | none=>none
  | none=>none
 | .int a=>match lsD O y with
  | some ds=>match gD ds with
   | some zs=>some (zs.any (· == a))
   | none=>none
  | none=>none
 | _=>none
def inD:Op2:=λO x y=>match inB O x y with
 | some b=>.ok (.bl b)
 | none=>.bad
def tq:Op2:=λO x y=>match inB O x y with
 | some b=>.ok (.bl (!b))
 | none=>.bad
theorem yz{K:sB}{ca:Nat->Addr}{θ:List Addr}{F:Hp}:∀{zs:List Str} {xs:List V},aG K ca θ F (zs.map D.str) xs->xs=zs.map V.str
 | [],xs,h=>by unfold aG at h;exact h
 | z::zs,xs,h=>by
  rw[AC] at h
  unfold aG at h
  obtain⟨v,r,rfl,h1,h2⟩:=h
  rw[dj.mp h1,yz h2];rfl
theorem rN{K:sB}{ca:Nat->Addr}{θ:List Addr}{F:Hp}:∀{zs:List Int} {xs:List V},aG K ca θ F (zs.map D.int) xs->xs=zs.map V.int
 | [],xs,h=>by unfold aG at h;exact h
 | z::zs,xs,h=>by
  rw[AC] at h
  unfold aG at h
  obtain⟨v,r,rfl,h1,h2⟩:=h
  rw[bg.mp h1,rN h2];rfl
theorem wW:∀{ds:List D} {zs:List Int},gD ds=some zs->ds=zs.map D.int
 | [],zs,h=>by unfold gD at h;cases h;rfl
 | d::ds,zs,h=>by
  cases d <;> first | (simp[gD] at h;done) | skip
  rename_i z
  unfold gD at h
  cases e:gD ds with
  | none=>rw[e] at h;cases h
  | some ys=>
   rw[e] at h
   cases h
   rw[wW e];rfl
theorem Dp{v w:V}{q:Bool}(b:BS C.K C.ca σ H F θ s)(rx:Rep C.K C.ca θ F x v)(ry:Rep C.K C.ca θ F y w)(e:inB s.o x y=some q):
 ∃p xs,w=.ref p/\SqL C.K H p xs/\mF v=true/\xs.all mF=true/\inV v xs=q:=by
 unfold inB at e
 split at e
 ·rename_i a
  split at e
  ·rename_i ds e1
   split at e
   ·rename_i zs e2
    cases e
    obtain⟨p,xs,rfl,Y,U⟩:=eN b ry e1
    rw[yQ e2] at U
    have hx:=yz U
    subst hx
    rw[dj.mp rx]
    refine⟨p,_,rfl,Y,rfl, ?_, ?_⟩
    ·rw[Ra,Qw];intro z _;rfl
    ·unfold inV;rw[RP];rfl
   ·cases e
  ·cases e
 ·rename_i a
  split at e
  ·rename_i ds e1
   split at e
   ·rename_i zs e2
    cases e
    obtain⟨p,xs,rfl,Y,U⟩:=eN b ry e1
    rw[wW e2] at U
    have hx:=rN U
    subst hx
    rw[bg.mp rx]
    refine⟨p,_,rfl,Y,rfl, ?_, ?_⟩
    ·rw[Ra,Qw];intro z _;rfl
    ·unfold inV;rw[RP];rfl
   ·cases e
  ·cases e
 ·cases e
theorem Jk:gh C (rIn C.K false) inD:=by
 intro σ H F θ s x y v w Q b U Y p
 unfold inD at p
 split at p
 ·rename_i q e
  obtain⟨a,xs,rfl,h1,h2,h3,h4⟩:=Dp b U Y e
  exact⟨a,xs,rfl,.inl h1,h2,h3,dF p b (cI.mpr (by rw[if_neg (by decide),h4]))⟩
 ·exact ss p
theorem Il:gh C (rIn C.K true) tq:=by
 intro σ H F θ s x y v w Q b U Y p
 unfold tq at p
 split at p
 ·rename_i q e
  obtain⟨a,xs,rfl,h1,h2,h3,h4⟩:=Dp b U Y e
  exact⟨a,xs,rfl,.inl h1,h2,h3,dF p b (cI.mpr (by rw[if_pos rfl,h4]))⟩
 ·exact ss p
def pF(f:Str):List Str->List D->Option D
 | n::ns,d::ds=>if n=f then some d else pF f ns ds
 | _,_=>none
theorem BF{K:sB}{ca:Nat->Addr}{θ:List Addr}{F:Hp}{f:Str}:∀{ns:List Str} {ds:List D} {xs:List V} {d:D},aG K ca θ F ds xs->pF f ns ds=some d->∃v,(ns.zip xs).lookup f=some v/\Rep K ca θ F d v
 | [],_,_,_,_,e=>by simp[pF] at e
 | _::_,[],_,_,_,e=>by simp[pF] at e
 | n::ns,d::ds,xs,d',h,e=>by
  unfold aG at h
  obtain⟨v,r,rfl,h1,h2⟩:=h
  unfold pF at e
  rw[Rv,PF]
  by_cases hn:n=f
  ·rw[if_pos hn] at e
   cases e
   subst hn
   exact⟨v,by simp,h1⟩
  ·rw[if_neg hn] at e
   obtain⟨u,e1,e2⟩:=BF h2 e
   refine⟨u, ?_,e2⟩
   rw[show (f == n)=false by simpa using λz=>hn z.symm]
   exact e1
def lH(c:Nat)(f:Str)(me:EM):EM:=λs=>(me s).bind λx=>match x.1 with
 | .obj U ns ds=>if U=c then (match pF f ns ds with
  | some d=>.ok (d,x.2)
  | none=>.bad) else .bad
 | _=>.bad
theorem wy{f:Str}{ta:TE}(hc:Cls C.K (C.ca c))(hn:fk C.K (C.ca c) f)(h:RdE C ta me):RdE C (MH C.K ta f) (lH c f me):=by
 intro σ H F θ s Q b p
 refine h σ H F θ s _ b (PoR.bind p ?_)
 rintro ⟨x,s1⟩ H1 F1 θ1 _ ac p1 U v Y
 dsimp only at p1 U Y
 split at p1
 ·rename_i c' ns ds _
  split at p1
  ·rename_i ab
   subst ab
   split at p1
   ·rename_i d e
    unfold Rep at Y
    obtain⟨a,dx,xs,rfl,ha,hl,hr⟩:=Y
    obtain⟨u,e1,e2⟩:=BF hr e
    exact⟨a,_,dx,_,u,rfl,U.now.fh _ _ ha,hc,hn,e1,p1 _ _ _ .refl U _ e2⟩
   ·exact ss p1
  ·exact ss p1
 ·exact ss p1
theorem CW(c:Nat)(f:Str)(me:EM)(s:S):lH c f me s=(me s).bind λx=>match x.1 with
 | .obj U ns ds=>if U=c then (match pF f ns ds with
  | some d=>.ok (d,x.2)
  | none=>.bad) else .bad
 | _=>.bad:=rfl
theorem lookup_none{f:Str}:∀{ns:List Str} {xs:List V},f∉ns->(ns.zip xs).lookup f=none
 | [],_,_=>rfl
 | _::_,[],_=>rfl
 | n::ns,x::xs,h=>by
  rw[Rv,PF,show (f == n)=false by simpa using λz=>h (by simp[z])]
  exact lookup_none λz=>h (by simp[z])
theorem Af{f:Str}{y:V}:∀{ns:List Str} {xs:List V},ns.length=xs.length->f∉ns->iY f y (ns.zip xs)=(ns++[f]).zip (xs++[y])
 | [],[],_,_=>rfl
 | n::ns,x::xs,hl,h=>by
  rw[Rv]
  unfold iY
  rw[if_neg (λz=>h (by simp[z])),Af (by simpa using hl) λz=>h (by simp[z])]
  rfl
theorem BS.setI(b:BS K ca σ H F θ s){a dx:Addr}{c:Cell}{cl:Nat}(hk:θ[k]? =some a)(hc:s.o[k]? =some c)(hF:F a=none)(hl:ns.length=xs.length)(hr:aG K ca θ F ds xs):
 Stp H F θ (upd H a (.ins (ca cl) dx (ns.zip xs))) F θ/\BS K ca σ (upd H a (.ins (ca cl) dx (ns.zip xs))) F θ ⟨s.r,s.o.set k (.ins cl ns ds)⟩:=by
 have hm:a∈θ:=No hk
 refine⟨⟨bJ.refl _,⟨[],by simp,by simp⟩,λe o U hb=> ?_,λe o U=> ?_,λe o U=>.inl U⟩,⟨⟨λe o U=> ?_,b.now.nd,by simpa using b.now.ln,λj a' c' e1 e2=> ?_⟩,b.len,b.sl⟩⟩
 ·have ne:e≠a:=λz=>hb (by rw[z];exact hm)
  rw[aS ne];exact U
 ·by_cases z:e=a
  ·subst z;exact⟨_,bZ⟩
  ·exact⟨o,by rw[aS z];exact U⟩
 ·have ne:e≠a:=λz=>by rw[z,hF] at U;cases U
  rw[aS ne]
  exact b.now.fh _ _ U
 ·by_cases Y:k=j
  ·subst Y
   rw[hk] at e1;cases e1
   have:k<s.o.length:=(wP.mp hc).1
   rw[Pe this] at e2
   cases e2
   exact⟨hF,dx,xs,bZ,hl,hr⟩
  ·rw[Pf Y] at e2
   have q:=b.now.ce j a' c' e1 e2
   have ne:a'≠a:=λz=>by
    subst z
    exact Y (qA b.now.nd hk e1)
   cases c' with
   | dead=>obtain⟨o,ho⟩:=q;exact⟨o,by rw[aS ne];exact ho⟩
   | lst ds=>obtain⟨q1,ys,q2,q3⟩:=q;exact⟨q1,ys,by rw[aS ne];exact q2,q3⟩
   | ins c ns ds=>obtain⟨q1,dx,ys,q2,q3⟩:=q;exact⟨q1,dx,ys,by rw[aS ne];exact q2,q3⟩
def qI(c:Nat)(f:Str)(mo mv:EM):SM:=λs=>(mv s).out λy=>(mo y.2).out λx=>match x.1 with
 | .ptr k=>match x.2.o[k]? with
  | some (.ins c' ns ds)=>if c'=c/\f∉ns/\ns.length<1000 then .next ⟨x.2.r,x.2.o.set k (.ins c (ns++[f]) (ds++[y.1]))⟩ else .bad
  | _=>.bad
 | _=>.bad
theorem G8(c:Nat)(f:Str)(mo mv:EM)(s:S):qI c f mo mv s=(mv s).out λy=>(mo y.2).out λx=>match x.1 with
 | .ptr k=>match x.2.o[k]? with
  | some (.ins c' ns ds)=>if c'=c/\f∉ns/\ns.length<1000 then .next ⟨x.2.r,x.2.o.set k (.ins c (ns++[f]) (ds++[y.1]))⟩ else .bad
  | _=>.bad
 | _=>.bad:=rfl
end
section
variable {C : Ct}
theorem xy{f:Str}{ta tv:TE}{mo mv:EM}(hc:Cls C.K (C.ca c))(hn:fk C.K (C.ca c) f)(ho:RdE C ta mo)(hv:RdE C tv mv):RdS C (L9 C.K ta tv f) (qI c f mo mv):=by
 intro σ H F θ s Q b p
 unfold qI at p
 refine hv σ H F θ s _ b (PoS.out p ?_)
 rintro ⟨y,s1⟩ H1 F1 θ1 _ a2 p1 b1 v r1
 dsimp only at p1 b1 r1
 refine ho σ H1 F1 θ1 s1 _ b1 (PoS.out p1 ?_)
 rintro ⟨x,s2⟩ H2 F2 θ2 _ U p2 b2 w r2
 dsimp only at p2 b2 r2
 split at p2
 ·rename_i k _
  split at p2
  ·rename_i c' ns ds e
   split at p2
   ·rename_i hh
    obtain⟨rfl,hf,hl⟩:=hh
    unfold Rep at r2
    obtain⟨a,rfl,hk⟩:=r2
    obtain⟨h0,dx,xs,h1,h2,h3⟩:i6 C.K C.ca H2 F2 θ2 a (.ins c' ns ds):=b2.now.ce k a _ hk e
    have Y:(ns++[f]).length=(xs++[v]).length:=by simp[h2]
    obtain⟨ae,b3⟩:=b2.setI (dx:=dx) (cl:=c') (ns:=ns++[f]) hk e h0 Y (h3.append (aG.one (r1.mono U.ff U.pre)))
    refine⟨a,_,dx,_,rfl,h1,hc,hn, ?_, ?_⟩
    ·rw[Qq];omega
    ·rw[Af h2 hf]
     exact p2 σ _ _ _ ae b3
   ·exact ss p2
  ·exact ss p2
 ·exact ss p2
def uq(c n:Nat)(f:FM)(ma:AM):EM:=λs=>(ma s).bind λx=>if aM x.1=true/\x.1.length=n then (match f (.ptr 0::x.1) [.ins c [] []] with
 | .ok (.non,.ins c' ns ds::_)=>if c'=c/\aM ds=true then .ok (.obj c ns ds,x.2) else .bad
 | _=>.bad) else .bad
theorem Now.dies{x:Addr}{r:List Addr}(n:Now K ca H F (x::r) (.ins c ns ds::O)):
 ∃dx xs,H x=some (.ins (ca c) dx (ns.zip xs))/\ns.length=xs.length/\aG K ca (x::r) F ds xs/\F x=none/\bJ F (upd F x (.ins (ca c) dx (ns.zip xs)))/\Now K ca H (upd F x (.ins (ca c) dx (ns.zip xs))) (x::r) (.dead::O):=by
 obtain⟨h0,dx,xs,h1,h2,h3⟩:i6 K ca H F (x::r) x (.ins c ns ds):=n.ce 0 x _ rfl rfl
 have sF:bJ F (upd F x (.ins (ca c) dx (ns.zip xs))):=λe o U=>by
  rw[aS (λz=>by rw[z,h0] at U;cases U)];exact U
 refine⟨dx,xs,h1,h2,h3,h0,sF,⟨λe o U=> ?_,n.nd,n.ln,λj Y c' e1 e2=> ?_⟩⟩
 ·by_cases z:e=x
  ·subst z;rw[bZ] at U;rw[h1];exact U
  ·rw[aS z] at U;exact n.fh _ _ U
 ·cases j with
  | zero=>
   cases e1
   cases e2
   exact⟨_,h1⟩
  | succ j=>
   have q:=n.ce (j+1) Y c' e1 e2
   have ne:Y≠x:=λz=>by
    subst z
    have:=qA n.nd (show (Y::r)[0]? =some Y from rfl) e1
    omega
   cases c' with
   | dead=>exact q
   | lst ds=>obtain⟨q1,ys,q2,q3⟩:=q;exact⟨by rw[aS ne];exact q1,ys,q2,q3.mono sF ⟨[],by simp⟩⟩
   | ins c ns ds=>obtain⟨q1,dx,ys,q2,q3,q4⟩:=q;exact⟨by rw[aS ne];exact q1,dx,ys,q2,q3,q4.mono sF ⟨[],by simp⟩⟩
theorem JJ(ha:RdA C ta ma):RdE C (IW (C.ca c) (spM C.K C.ca (n+1) f) [] E ta) (uq c n f ma):=by
 intro σ H F θ s Q b p
 refine ha σ H F θ s _ b (PoR.bind p ?_)
 rintro ⟨x,s1⟩ H1 F1 θ1 _ a5 p1 b1 v r1
 dsimp only at p1 b1 r1 ⊢
 split at p1
 ·rename_i hp
  split at p1
  ·rename_i c' ns ds O1 e
   split at p1
   ·rename_i hh
    obtain⟨rfl,am⟩:=hh
    intro y dx hy an bd
    have nx:∀a u,H1 a=some u->a≠y:=λa u e z=>by rw[z,hy] at e;cases e
    have nd:∀a u,H1 a=some u->a≠dx:=λa u e z=>by rw[z,an] at e;cases e
    have Fy:F1 y=none:=by
     cases eF:F1 y with
     | none=>rfl
     | some u=>rw[b1.now.fh y u eF] at hy;cases hy
    have up:∀a u,H1 a=some u->upd (upd H1 dx (.own y)) y (.ins (C.ca c') dx []) a=some u:=λa u e=>by
     rw[aS (nx a u e),aS (nd a u e)];exact e
    have dn:∀a,upd (upd H1 dx (.own y)) y (.ins (C.ca c') dx []) a=none->H1 a=none:=λa z=>by
     cases e:H1 a with
     | none=>rfl
     | some u=>rw[up a u e] at z;cases z
    rw[PM]
    refine⟨F1,[y],.ptr 0::x,[.ins c' [] []],⟨λa u e=>up a u (b1.now.fh a u e),by simp,rfl,λk a cc e1 e2=> ?_⟩,aG.cons (by unfold Rep;exact⟨y,rfl,rfl⟩) (r1.pure hp.1),by simp[hp.2], ?_⟩
    ·cases k with
     | zero=>
      cases e1
      cases e2
      exact⟨Fy,dx,[],bZ,rfl,aG.nil⟩
     | succ k=>simp at e1
    ·rw[e]
     intro w H2 F2 θ2 U n2 ap
     refine⟨gc.mp ap, ?_⟩
     obtain⟨r,rfl,hr⟩:=U.th
     obtain⟨Y,xs,g1,g2,g3,g4,sF,n3⟩:=Now.dies n2
     have az:Stp H1 F1 [] H2 (upd F2 y (.ins (C.ca c') Y (ns.zip xs))) (y::r):=by
      refine⟨U.ff.trans sF,⟨y::r,rfl,λa ha=> ?_⟩,λa o h _=> ?_,λa o h=>U.al a o (up a o h),λa o h=> ?_⟩
      ·rcases wT.mp ha with rfl | z
       ·exact hy
       ·exact dn a (hr a z)
      ·exact U.kp a o (up a o h) (by simpa using nx a o h)
      ·by_cases z:a=y
       ·subst z;exact .inr (.inl hy)
       ·rw[aS z] at h
        rcases U.nf a o h with q | q | q
        ·exact .inl q
        ·exact .inr (.inl (dn a q))
        ·exact absurd (by simpa using q) z
     obtain⟨a1,b4⟩:=b1.called az n3
     refine p1 H2 _ θ1 a1 b4 (.ref y) ?_
     unfold Rep
     exact⟨y,Y,xs,rfl,bZ,g2,aG.mono (θ:=θ1) sF ⟨[],by simp⟩ (aG.pure am g3)⟩
   ·exact ss p1
  ·exact ss p1
 ·exact ss p1
theorem Gx{s s':S}{args ds:List D}(h:ma s=.ok (args,s'))(hp:aM args=true)(U:args.length=n)(Y:f (.ptr 0::args) [.ins c [] []]=.ok (.non,.ins c ns ds::O))(hd:aM ds=true):uq c n f ma s=.ok (.obj c ns ds,s'):=by
 unfold uq
 rw[h,ak]
 dsimp only
 rw[if_pos ⟨hp,U⟩,Y]
 dsimp only
 rw[if_pos ⟨rfl,hd⟩]
def methP(c:Nat)(m:Str)(n:Nat)(f:FM)(mo:EM)(ma:AM):EM:=λs=>(mo s).bind λx=>match x.1 with
 | .obj U ns ds=>if U=c/\m∉ns/\aM ds=true then (ma x.2).bind λy=>if aM y.1=true/\y.1.length=n then (match f (x.1::y.1) [] with
  | .ok (d,_)=>if cz d=true then .ok (d,y.2) else .bad
  | _=>.bad) else .bad else .bad
 | _=>.bad
theorem qB{m:Str}(ho:RdE C to mo)(ha:RdA C ta ma):RdE C (Eb (C.ca c) m (spM C.K C.ca (n+1) f) [] E to ta) (methP c m n f mo ma):=by
 intro σ H F θ s Q b p
 refine ho σ H F θ s _ b (PoR.bind p ?_)
 rintro ⟨x,s1⟩ H1 F1 θ1 _ a2 p1 b1 v Y
 dsimp only at p1 b1 Y ⊢
 split at p1
 ·rename_i c' ns ds _
  split at p1
  ·rename_i hh
   obtain⟨rfl,hm,ac⟩:=hh
   obtain⟨a,dx,xs,rfl,h1,h2,h3⟩:∃a dx xs,v=.ref a/\F1 a=some (.ins (C.ca c') dx (ns.zip xs))/\ns.length=xs.length/\aG C.K C.ca θ1 F1 ds xs:=by unfold Rep at Y;exact Y
   refine⟨a,dx,_,rfl,b1.now.fh _ _ h1,lookup_none hm,ha σ H1 F1 θ1 s1 _ b1 (PoR.bind p1 ?_)⟩
   rintro ⟨y,s2⟩ H2 F2 θ2 _ U p2 b2 w r2
   dsimp only at p2 b2 r2 ⊢
   split at p2
   ·rename_i hp
    rw[PM]
    refine⟨F2,[],.obj c' ns ds::y,[],Now.nil b2.now.fh,aG.cons ((Y.mono U.ff U.pre).pure (by unfold cz;exact ac)) (r2.pure hp.1),by simp[hp.2], ?_⟩
    split at p2
    ·rename_i d O1 e
     rw[e]
     intro v H3 F3 θ3 am n3 rv
     obtain⟨an,b4⟩:=b2.called am n3
     split at p2
     ·rename_i hd
      exact p2 H3 F3 _ an b4 v (rv.pure hd)
     ·exact ss p2
    ·exact ss p2
   ·exact ss p2
  ·exact ss p1
 ·exact ss p1
theorem va{m:Str}{s s1 s2:S}{ds args:List D}(U:mo s=.ok (.obj c ns ds,s1))(hm:m∉ns)(hd:aM ds=true)(ha:ma s1=.ok (args,s2))(hp:aM args=true)(Y:args.length=n)(hf:f (.obj c ns ds::args) []=.ok (d,O))(hr:cz d=true):
 methP c m n f mo ma s=.ok (d,s2):=by
 unfold methP
 rw[U,ak]
 dsimp only
 rw[if_pos ⟨rfl,hm,hd⟩,ha,ak]
 dsimp only
 rw[if_pos ⟨hp,Y⟩,hf]
 dsimp only
 rw[if_pos hr]
def MethAt(P:Program)(w:World)(K:sB)(mg:Str->Option Value)(base:Heap)(ca:Nat->Addr)(lv:Nat)(C:Addr)(x:Str)(ps:List Str)(f:FM):Prop:=
 ∃a fd,ip P w K mg base (CXE P w) lv a fd ps (spM K ca ps.length f)/\Meth K C x a/\Binds K fd ps []
def Lu(P:Program)(w:World)(K:sB)(mg:Str->Option Value)(base:Heap)(ca:Nat->Addr)(lv:Nat)(C:Addr)(x:Str)(ps:List Str)(f:FM):Prop:=
 ∃a fd,ip P w K mg base (CXE P w) lv a fd ps (spM K ca ps.length f)/\Mk K C a/\mg x=some (.ref C)/\Binds K fd ps []
end
section
variable {K : sB} {ca : Nat → Addr} {θ : List Addr} {F G : Hp}
end
open Classical in
noncomputable def O8 (F H:Hp)(θ:List Addr):Hp:=λa=>if a∈θ then (match H a with
 | some (.lst xs)=>some (.lst xs)
 | _=>F a) else F a
section
variable {C : Ct}
def pN:List D->aB->Option (List D×aB)
 | [],O=>some ([],O)
 | .ptr k::ds,O=>match O[k]? with
  | some (.lst es)=>match pN ds (O.set k .dead) with
   | some (rs,O1)=>some (.lst es::rs,O1)
   | none=>none
  | _=>none
 | d::ds,O=>match pN ds O with
  | some (rs,O1)=>some (d::rs,O1)
  | none=>none
theorem vU{σ:L2.St}{H:Hp}{θ:List Addr}{r:List (Option D)}:∀{ds U:List D} {O O1:aB} {F:Hp} {xs:List V},BS C.K C.ca σ H F θ ⟨r,O⟩->aG C.K C.ca θ F ds xs->pN ds O=some (U,O1)->
 ∃F1,Stp H F θ H F1 θ/\BS C.K C.ca σ H F1 θ ⟨r,O1⟩/\aG C.K C.ca θ F1 U xs
 | [],U,O,O1,F,xs,b,hr,e=>by
  cases e
  exact⟨F,.refl,b,hr⟩
 | d::ds,U,O,O1,F,xs,b,hr,e=>by
  have az:=hr
  unfold aG at hr
  obtain⟨v,q,rfl,h1,h2⟩:=hr
  have other:(match pN ds O with
   | some (U,O1)=>some (d::U,O1)
   | none=>none)=some (U,O1)->∃F1,Stp H F θ H F1 θ/\BS C.K C.ca σ H F1 θ ⟨r,O1⟩/\aG C.K C.ca θ F1 U (v::q):=λe=>by
   split at e
   ·rename_i ab ac e'
    cases e
    obtain⟨F1,st,b1,r1⟩:=vU b h2 e'
    exact⟨F1,st,b1,aG.cons (h1.mono st.ff st.pre) r1⟩
   ·cases e
  cases d with
  | ptr k=>
   unfold pN at e
   split at e
   ·rename_i es ek
    split at e
    ·rename_i ab ac e'
     cases e
     obtain⟨a,ys,rfl,hk,hF,g1,g2⟩:=kE b h1 ek
     obtain⟨Y,b2,r2⟩:=b.frz hk ek hF g1 g2
     obtain⟨F1,st,b1,r1⟩:=vU b2 (h2.mono Y.ff Y.pre) e'
     exact⟨F1,Y.trans st,b1,aG.cons (r2.mono st.ff st.pre) r1⟩
    ·cases e
   ·cases e
  | _=>exact other e
def yc(m:EM):EM:=λs=>(m s).bind λx=>match x.1 with
 | .tup ds=>match pN ds x.2.o with
  | some (rs,O1)=>.ok (.tup rs,⟨x.2.r,O1⟩)
  | none=>.bad
 | _=>.bad
theorem Lc(h:RdE C t m):RdE C t (yc m):=by
 intro σ H F θ s Q b p
 refine h σ H F θ s _ b (PoR.bind p ?_)
 rintro ⟨x,s1⟩ H1 F1 θ1 _ ac p1 b1 v Y
 dsimp only at p1 b1 Y
 split at p1
 ·rename_i ds _
  split at p1
  ·rename_i rs O1 e
   unfold Rep at Y
   obtain⟨a,xs,rfl,hs,hr⟩:=Y
   obtain⟨F2,U,b2,r2⟩:=vU b1 hr e
   refine p1 _ _ _ U b2 _ ?_
   unfold Rep
   exact⟨a,xs,rfl,bJ.seqT U.ff hs,r2⟩
  ·exact ss p1
 ·exact ss p1
theorem KC{s s':S}{ds rs:List D}(h:m s=.ok (.tup ds,s'))(U:pN ds s'.o=some (rs,O1)):yc m s=.ok (.tup rs,⟨s'.r,O1⟩):=by
 unfold yc
 rw[h,ak]
 dsimp only
 rw[U]
end
def clsAt(K:sB)(x:Str):Addr:=match Ch K mainGlobals x with
 | some (some (.ref C))=>C
 | _=>0
section
variable {C : Ct}
def nP:OpN:=λ_ xs=>match xs with
 | [.int i,.int j]=>.ok (.int (if j>i then j else i))
 | _=>.bad
theorem ur:i9 C (λxs H Q=>∃i j,xs=[.int i,.int j]/\Q (.int (if j>i then j else i)) H) nP:=by
 intro σ H F θ s xs vs Q b r p
 unfold nP at p
 split at p
 ·rename_i i j
  exact⟨i,j,D3 r,dF p b (bg.mpr rfl)⟩
 ·exact ss p
end
def Wok(C:Ct)(Es:L2.St->XK):Prop:=∀σ c a s1 H1 F1 θ1,C.W c a s1 H1 F1 θ1->BS C.K C.ca σ H1 F1 θ1 s1->Es σ (.ref (C.ca c)) none H1
theorem uf:Wok ⟨K,ca,WE ca E⟩ λ_=>E:=λ_ _ _ _ _ _ _ h _=>h
section
variable {C : Ct} {Es : L2.St → XK}
def O7(n:Nat)(f:FM)(ma:AM):EM:=λs=>(ma s).bind λx=>if aM x.1=true/\x.1.length=n then (match f x.1 [] with
 | .ok (d,_)=>if cz d=true then .ok (d,x.2) else .bad
 | .exc c a _=>.exc c a x.2
 | .bad=>.bad) else .bad
def gL(c:Nat)(m:Str)(n:Nat)(f:FM)(mo:EM)(ma:AM):EM:=λs=>(mo s).bind λx=>match x.1 with
 | .obj U ns ds=>if U=c/\m∉ns/\aM ds=true then (ma x.2).bind λy=>if aM y.1=true/\y.1.length=n then (match f (x.1::y.1) [] with
  | .ok (d,O1)=>.ok (shD y.2.o.length d,⟨y.2.r,y.2.o++O1.map (shC y.2.o.length)⟩)
  | .exc c a _=>.exc c a y.2
  | .bad=>.bad) else .bad else .bad
 | _=>.bad
theorem rP{m:Str}(hW:Wok C Es)(ho:RdE C to mo)(ha:RdA C ta ma):RdE C (F0 (C.ca c) m (spM C.K C.ca (n+1) f) [] Es to ta) (gL c m n f mo ma):=by
 intro σ H F θ s Q b p
 refine ho σ H F θ s _ b (PoR.bind p ?_)
 rintro ⟨x,s1⟩ H1 F1 θ1 _ be p1 b1 v r1
 dsimp only at p1 b1 r1 ⊢
 split at p1
 ·rename_i c' ns ds _
  split at p1
  ·rename_i hh
   obtain⟨rfl,hm,a2⟩:=hh
   obtain⟨a,dx,xs,rfl,h1,h2,h3⟩:∃a dx xs,v=.ref a/\F1 a=some (.ins (C.ca c') dx (ns.zip xs))/\ns.length=xs.length/\aG C.K C.ca θ1 F1 ds xs:=by unfold Rep at r1;exact r1
   refine⟨a,dx,_,rfl,b1.now.fh _ _ h1,lookup_none hm,ha σ H1 F1 θ1 s1 _ b1 (PoR.bind p1 ?_)⟩
   rintro ⟨y,s2⟩ H2 F2 θ2 _ ab p2 b2 w r2
   dsimp only at p2 b2 r2 ⊢
   split at p2
   ·rename_i hp
    rw[PM]
    refine⟨F2,[],.obj c' ns ds::y,[],Now.nil b2.now.fh,aG.cons ((r1.mono ab.ff ab.pre).pure (by unfold cz;exact a2)) (r2.pure hp.1),by simp[hp.2], ?_⟩
    split at p2
    ·rename_i d O1 e
     try rw[e]
     intro v H3 F3 θ3 U n3 rv
     obtain⟨Y,b4⟩:=b2.calledO U n3
     refine p2 H3 F3 _ Y b4 v ?_
     rw[<- b2.now.ln]
     exact wt rv
    ·rename_i ce ae se e
     try rw[e]
     intro H3 F3 θ3 U n3
     obtain⟨Y,b4⟩:=b2.called U n3
     exact hW σ ce ae s2 H3 F3 θ2 (p2 H3 F3 θ2 Y b4.now) b4
    ·exact ss p2
   ·exact ss p2
  ·exact ss p1
 ·exact ss p1
def qg(c:Nat)(ma:AM):SM:=λs=>(ma s).out λx=>if x.1.length<=16777216 then .exc c .non x.2 else .bad
theorem vd(hW:Wok C λ_=>E)(ha:RdA C ta ma):RdS C (Fc (C.ca c) E ta) (qg c ma):=by
 intro σ H F θ s Q b p
 refine ha σ H F θ s _ b (PoS.out p ?_)
 rintro ⟨x,s1⟩ H1 F1 θ1 _ ac p1 U v Y
 dsimp only at p1 U Y
 split at p1
 ·rename_i hl
  exact⟨by rw[Y.length];exact hl,hW σ c _ s1 H1 F1 θ1 (p1 H1 F1 θ1 .refl U.now) U⟩
 ·exact ss p1
def sY(mb:SM)(U:Nat->SM):SM:=λs=>match mb s with
 | .exc c _ s1=>U c s1
 | o=>o
theorem Gb{tb:(L2.St->XK)->TS}{th:Addr->TS}{mb:SM}{hs:Nat->SM}(hb:∀(W:Wsh) (Es:L2.St->XK),Wok ⟨C.K,C.ca,W⟩ Es->RdS ⟨C.K,C.ca,W⟩ (tb Es) mb)(hh:∀c,RdS C (th (C.ca c)) (hs c)):RdS C (Mt tb th) (sY mb hs):=by
 intro σ H F θ s Q b p
 refine hb (λc _ s1 H1 F1 θ1=>∀U,BS C.K C.ca U H1 F1 θ1 s1->th (C.ca c) Q U H1) _ (λU c a s1 H1 F1 θ1 h Y=>⟨C.ca c,rfl,rfl,h U Y⟩) σ H F θ s Q b ?_
 unfold sY at p
 cases e:mb s with
 | next s1=>rw[e] at p;exact p
 | ret d s1=>rw[e] at p;exact p
 | brk s1=>rw[e] at p;exact p
 | cnt s1=>rw[e] at p;exact p
 | bad=>rw[e] at p;exact p
 | exc c a s1=>
  rw[e] at p
  intro H1 F1 θ1 st n U Y
  exact hh c U H1 F1 θ1 s1 Q Y (PoS.after st p)
def exM(sub:Nat->Option Bool)(mb U:Nat->SM):Nat->SM:=λc=>match sub c with
 | some true=>mb c
 | some false=>U c
 | none=>j7
def II:Nat->SM:=λ_=>j7
theorem C5{th:Addr->TS}(c:Nat):RdS C (th (C.ca c)) (II c):=λσ H F θ s Q b p=>ss p
theorem Jf{sub:Nat->Option Bool}{Dc:Addr}{tb th:Addr->TS}{mb U:Nat->SM}(Y:∀c b,sub c=some b->P2 C.K (.ref (C.ca c)) (.ref Dc)=some b)(hb:∀c,RdS C (tb (C.ca c)) (mb c))(hr:∀c,RdS C (th (C.ca c)) (U c))(c:Nat):
 RdS C (tEx (λA=>P2 C.K (.ref A) (.ref Dc)) tb th (C.ca c)) (exM sub mb U c):=by
 intro σ H F θ s Q b p
 unfold exM at p
 unfold tEx
 cases e:sub c with
 | none=>rw[e] at p;exact ss p
 | some q=>
  dsimp only
  rw[Y c _ e]
  rw[e] at p
  cases q with
  | true=>exact hb c σ H F θ s Q b p
  | false=>exact hr c σ H F θ s Q b p
theorem BS.unset(b:BS K ca σ H F θ s)(i:Nat):BS K ca (σ.set i none) H F θ ⟨s.r.set i none,s.o⟩:=by
 refine⟨b.now,by simp[b.len],λj e Y=> ?_⟩
 by_cases U:i=j
 ·subst U
  have ab:i<s.r.length:=by
   have:=(wP.mp Y).1
   simpa using this
  rw[Pe ab] at Y
  cases Y
 ·rw[Pf U] at Y
  obtain⟨u,h1,h2⟩:=b.sl j e Y
  exact⟨u,by rw[Pf U];exact h1,h2⟩
def asM(i:Nat)(mb:SM):Nat->SM:=λc s=>match mb ⟨s.r.set i (some (.exn c)),s.o⟩ with
 | .next s1=>.next ⟨s1.r.set i none,s1.o⟩
 | .brk s1=>.brk ⟨s1.r.set i none,s1.o⟩
 | .cnt s1=>.cnt ⟨s1.r.set i none,s1.o⟩
 | .ret d s1=>.ret d s1
 | _=>.bad
theorem Jx{tb:TS}{mb:SM}(hb:RdS C tb mb)(c:Nat):RdS C (tAs i tb (C.ca c)) (asM i mb c):=by
 intro σ H F θ s Q b p x hx
 obtain⟨st,b1,sF,fx⟩:=b.newF hx (exO x (C.ca c))
 have b2:=b1.set (d:=.exn c) (v:=.ref x) (by unfold Rep;exact⟨x,rfl,fx⟩) i
 refine hb _ _ _ θ _ _ b2 ?_
 unfold asM at p
 cases e:mb ⟨s.r.set i (some (.exn c)),s.o⟩ with
 | next s1=>rw[e] at p;exact λσ1 H1 F1 θ1 U Y=>p _ H1 F1 θ1 (st.trans U) (Y.unset i)
 | brk s1=>rw[e] at p;exact λσ1 H1 F1 θ1 U Y=>p _ H1 F1 θ1 (st.trans U) (Y.unset i)
 | cnt s1=>rw[e] at p;exact λσ1 H1 F1 θ1 U Y=>p _ H1 F1 θ1 (st.trans U) (Y.unset i)
 | ret d s1=>rw[e] at p;exact λv σ1 H1 F1 θ1 U Y rv=>p v σ1 H1 F1 θ1 (st.trans U) Y rv
 | exc c' a s1=>rw[e] at p;exact ss p
 | bad=>rw[e] at p;exact ss p
def nC(sub:Nat->Option Bool):Op1:=λ_ x=>match x with
 | .exn c=>match sub c with
  | some b=>.ok (.bl b)
  | none=>.bad
 | _=>.bad
theorem xB {te tc:TE} (h:RdE C te m) (P:Nat->Bool->Prop) (hs:∀c b,sub c=some b->P c b)
 (hc:∀(σ:L2.St) (H F:Hp) (θ:List Addr) (s:S) (Q:VK) (c:Nat) (b:Bool) (a:Addr),BS C.K C.ca σ H F θ s->F a=some (exO a (C.ca c))->P c b->PoE C σ H F θ (.ok (.bl b,s)) Q->tc σ H λy H2=>xD C.K [.ref a,y] H2 Q):
 RdE C (tCB (xD C.K) (fY te (fY tc k6))) (unM (nC sub) m):=by
 intro σ H F θ s Q b p
 unfold unM at p
 refine h σ H F θ s _ b (PoR.bind p ?_)
 rintro ⟨x,s1⟩ H1 F1 θ1 _ ac p1 Y v U
 dsimp only at p1 Y U
 unfold nC at p1
 split at p1
 ·rename_i c _
  split at p1
  ·rename_i q e
   rw[ak] at p1
   obtain⟨a,rfl,hF⟩:∃a,v=.ref a/\F1 a=some (exO a (C.ca c)):=by unfold Rep at U;exact U
   exact hc σ H1 F1 θ1 s1 Q c q a Y hF (hs c q e) p1
  ·exact ss p1
 ·exact ss p1
theorem Ap{sub:Nat->Option Bool}{Dc:Addr}{te:TE}{m:EM}(Y:∀c b,sub c=some b->ExK C.K (C.ca c)/\Pd C.K (.ref (C.ca c)) (.ref Dc)=some b)(h:RdE C te m):RdE C (tCB (xD C.K) (fY te (fY (tC (.ref Dc)) k6))) (unM (nC sub) m):=
 xB h (λc b=>ExK C.K (C.ca c)/\Pd C.K (.ref (C.ca c)) (.ref Dc)=some b) Y λσ H F θ s Q c b a bs hF U p=>⟨a,C.ca c,b,bs.now.fh _ _ hF,U.1,p H F θ .refl bs (.bl b) (cI.mpr rfl),.inl ⟨Dc,rfl,U.2⟩⟩
theorem Hu{sub:Nat->Option Bool}{T:String}{te:TE}{m:EM}(Y:∀c b,sub c=some b->ExK C.K (C.ca c)/\Pd C.K (.ref (C.ca c)) (.type T)=some b)(h:RdE C te m):RdE C (tCB (xD C.K) (fY te (fY (tC (.ty T)) k6))) (unM (nC sub) m):=
 xB h (λc b=>ExK C.K (C.ca c)/\Pd C.K (.ref (C.ca c)) (.type T)=some b) Y λσ H F θ s Q c b a bs hF U p=>⟨a,C.ca c,b,bs.now.fh _ _ hF,U.1,p H F θ .refl bs (.bl b) (cI.mpr rfl),.inr (.inl ⟨T,rfl,U.2⟩)⟩
def DW:List Addr->TA
 | []=>k6
 | D::Ds=>fY (tC (.ref D)) (DW Ds)
theorem Dh:∀(U:List Addr) (σ:L2.St) (H:Hp) (Q:List V->Hp->Prop),Q (U.map V.ref) H->DW U σ H Q
 | [],_,_,_,q=>q
 | _::U,σ,H,Q,q=>Dh U σ H _ q
theorem J7{Ds:List Addr}(hl:Ds.length<=1000)(hs:∀c b,sub c=some b->ExK C.K (C.ca c)/\Qg C.K (.ref (C.ca c)) (Ds.map Value.ref)=some b)(h:RdE C te m):
 RdE C (tCB (xD C.K) (fY te (fY (GQ (DW Ds)) k6))) (unM (nC sub) m):=
 xB h (λc b=>ExK C.K (C.ca c)/\Qg C.K (.ref (C.ca c)) (Ds.map Value.ref)=some b) hs λσ H F θ s Q c b a bs hF Y p=>Dh Ds σ H _ ⟨by rw[ut];exact Pk hl (by decide),λl U=>by
  obtain⟨st,b1,sF,_⟩:=bs.newF U (.tup (Ds.map V.ref))
  exact⟨a,C.ca c,b,b1.now.fh _ _ (sF _ _ hF),Y.1,p _ _ θ st b1 (.bl b) (cI.mpr rfl),.inr (.inr ⟨l,Ds,rfl,bZ,Y.2⟩)⟩⟩
end
theorem rV{X:Cx}:Passes (CXE P w) X E0:=λ_ _ _ _ _ _ _ ⟨_,_,_,_,_,_,_,_,_,z⟩=>z.elim
section
variable {C : Ct}
def A2(ma mb:EM):EM:=λs=>(ma s).bind λx=>(mb x.2).bind λy=>match lsD y.2.o x.1,lsD y.2.o y.1 with
 | some a,some b=>if a.length+b.length<=16777216 then .ok (.ptr y.2.o.length,⟨y.2.r,y.2.o++[.lst (a++b)]⟩) else .bad
 | _,_=>.bad
theorem Ku{ta tb:TE}{ma mb:EM}(ha:RdE C ta ma)(hb:RdE C tb mb):RdE C (tOp (zK C.K) ta tb) (A2 ma mb):=by
 intro σ H F θ s Q b p
 refine ha σ H F θ s _ b (PoR.bind p ?_)
 rintro ⟨x,s1⟩ H1 F1 θ1 _ ap p1 b1 v r1
 dsimp only at p1 b1 r1
 refine hb σ H1 F1 θ1 s1 _ b1 (PoR.bind p1 ?_)
 rintro ⟨y,s2⟩ H2 F2 θ2 _ U p2 Y w r2
 dsimp only at p2 Y r2
 split at p2
 ·rename_i a c e1 e2
  split at p2
  ·rename_i hl
   obtain⟨l1,xs,rfl,q1,g1⟩:=eN Y (r1.mono U.ff U.pre) e1
   obtain⟨l2,ys,rfl,q2,g2⟩:=eN Y r2 e2
   exact .inr (.inr ⟨l1,l2,xs,ys,rfl,rfl,q1,q2,by rw[g1.length,g2.length];exact hl,tj p2 Y (g1.append g2)⟩)
  ·exact ss p2
 ·exact ss p2
end
def uz:D->Bool
 | .non=>true | .bl _=>true | .int _=>true | .str _=>true | .ptr _=>true | _=>false
def zQ:Cell->Bool
 | .dead=>true
 | .lst ds=>ds.all uz
 | _=>false
theorem BB{F G:Hp}(h:uz d=true)(r:Rep K ca θ1 F d v):Rep K ca (θ++θ1) G (shD θ.length d) v:=by
 cases d with
 | non=>unfold shD;unfold Rep at r ⊢;exact r
 | bl b=>unfold shD;unfold Rep at r ⊢;exact r
 | int i=>unfold shD;unfold Rep at r ⊢;exact r
 | str z=>unfold shD;unfold Rep at r ⊢;exact r
 | ptr k=>
  unfold shD
  unfold Rep at r ⊢
  obtain⟨a,e,hk⟩:=r
  exact⟨a,e,by rw[wn (RQ _ _),PQ];exact hk⟩
 | lst ds=>cases h
 | tup ds=>cases h
 | obj c ns ds=>cases h
 | exn c=>cases h
theorem yA{K:sB}{ca:Nat->Addr}{F G:Hp}{θ θ1:List Addr}:∀{ds:List D} {xs:List V},ds.all uz=true->aG K ca θ1 F ds xs->aG K ca (θ++θ1) G (fb θ.length ds) xs
 | [],_,_,h=>by unfold fb;unfold aG at h ⊢;exact h
 | d::ds,_,hf,h=>by
  rw[Q4,Po] at hf
  unfold fb
  unfold aG at h ⊢
  obtain⟨v,r,e,h1,h2⟩:=h
  exact⟨v,r,e,BB hf.1 h1,yA hf.2 h2⟩
section
variable {C : Ct}
def xk(n:Nat)(f:FM)(ma:AM):EM:=λs=>(ma s).bind λx=>if aM (bM x.2.o (bM x.2.o x.1))=true/\x.1.length=n then (match f (bM x.2.o (bM x.2.o x.1)) [] with
 | .ok (d,O1)=>if uz d=true/\O1.all zQ=true then .ok (shD x.2.o.length d,⟨x.2.r,x.2.o++O1.map (shC x.2.o.length)⟩) else .bad
 | _=>.bad) else .bad
theorem Iu(ha:RdA C ta ma):RdE C (nG (spM C.K C.ca n f) [] E ta) (xk n f ma):=by
 intro σ H F θ s Q b p
 refine ha σ H F θ s _ b (PoR.bind p ?_)
 rintro ⟨x,s1⟩ H1 F1 θ1 _ a3 p1 U v r1
 dsimp only at p1 U r1 ⊢
 split at p1
 ·rename_i hp
  rw[PM]
  have rr:aG C.K C.ca θ1 H1 (bM s1.o (bM s1.o x)) v:=j2 U.now U.now.fh (bJ.refl _) (j2 U.now (bJ.refl _) U.now.fh r1)
  refine⟨H1,[],bM s1.o (bM s1.o x),[],Now.nil (bJ.refl _),rr.pure hp.1,by rw[jP,jP];exact hp.2, ?_⟩
  split at p1
  ·rename_i d O1 e
   rw[e]
   intro v H2 F2 θ2 Y n2 rv
   split at p1
   ·rename_i sd
    have kp:∀a o,H1 a=some o->H2 a=some o:=λa o h=>Y.kp a o h (by simp)
    obtain⟨r,er,hr⟩:=Y.th
    rw[Db] at er
    subst er
    refine p1 H2 F1 (θ1++θ2) ⟨bJ.refl _,⟨θ2,rfl,hr⟩,λa o h _=>kp a o h,Y.al,λa o h=>.inl h⟩ ⟨⟨λa o h=>kp a o (U.now.fh a o h),Qt.mpr ⟨U.now.nd,n2.nd,λa ha x hx=> ?_⟩,by simp[U.now.ln,n2.ln],λk a c e1 e2=> ?_⟩,U.len,λi d e=> ?_⟩ v ?_
    ·rintro rfl
     obtain⟨u,hu⟩:=U.now.there ha
     rw[hr a hx] at hu
     cases hu
    ·by_cases hk:k<θ1.length
     ·rw[w6 hk] at e1
      dsimp only at e2
      rw[w6 (by rw[<- U.now.ln];exact hk)] at e2
      have w:=U.now.ce k a c e1 e2
      cases c with
      | dead=>obtain⟨o,ho⟩:=w;exact⟨o,kp a o ho⟩
      | lst ds=>obtain⟨q1,ys,q2,q3⟩:=w;exact⟨q1,ys,kp _ _ q2,q3.mono (bJ.refl _) ⟨θ2,rfl⟩⟩
      | ins c ns ds=>obtain⟨q1,dx,ys,q2,q3,q4⟩:=w;exact⟨q1,dx,ys,kp _ _ q2,q3,q4.mono (bJ.refl _) ⟨θ2,rfl⟩⟩
     ·rw[wn (by omega)] at e1
      dsimp only at e2
      rw[wn (by rw[<- U.now.ln];omega),xL,<- U.now.ln] at e2
      cases e3:O1[k-θ1.length]? with
      | none=>rw[e3] at e2;cases e2
      | some c'=>
       rw[e3] at e2
       cases e2
       have w:=n2.ce _ a c' e1 e3
       have fc:zQ c'=true:=(Qw.mp sd.2) c' (No e3)
       have an:F1 a=none:=by
        cases ea:F1 a with
        | none=>rfl
        | some o=>
         have h1:=U.now.fh a o ea
         have h2:=hr a (No e1)
         rw[h2] at h1;cases h1
       cases c' with
       | dead=>exact w
       | lst ds=>obtain⟨q1,ys,q2,q3⟩:=w;exact⟨an,ys,q2,yA fc q3⟩
       | ins c ns ds=>cases fc
    ·obtain⟨v,h1,h2⟩:=U.sl i d e
     exact⟨v,h1,h2.mono (bJ.refl _) ⟨θ2,rfl⟩⟩
    ·rw[<- U.now.ln]
     exact BB sd.1 rv
   ·exact ss p1
  ·exact ss p1
 ·exact ss p1
end
section
variable {C : Ct}
end
section
variable {C : Ct}
end
section
variable {C : Ct}
def mU:List D->Option (List Int)
 | []=>some []
 | .int i::r=>match mU r with
  | some l=>some (i::l)
  | none=>none
 | _=>none
theorem yV:∀{ds:List D} {ns:List Int},mU ds=some ns->ds=ns.map D.int
 | [],ns,h=>by cases h;rfl
 | d::ds,ns,h=>by
  cases d <;> first | (simp[mU] at h;done) | skip
  rename_i i
  unfold mU at h
  split at h
  ·rename_i l e
   cases h
   rw[yV e];rfl
  ·cases h
theorem rE:∀ns:List Int,mU (ns.map D.int)=some ns
 | []=>rfl
 | n::ns=>by
  rw[AC]
  unfold mU
  rw[rE ns]
def pA(O:aB)(d:D):Option (List Int):=match lsD O d with
 | some ds=>mU ds
 | none=>none
theorem tQ{ns:List Int}(b:BS C.K C.ca σ H F θ s)(r:Rep C.K C.ca θ F d v)(e:pA s.o d=some ns):∃a,v=.ref a/\SqL C.K H a (ns.map V.int):=by
 unfold pA at e
 split at e
 ·rename_i ds el
  obtain⟨a,xs,rfl,U,Y⟩:=eN b r el
  rw[yV e] at Y
  rw[rN Y] at U
  exact⟨a,rfl,U⟩
 ·cases e
def keyed(O:aB):List D->Option (List (D×List Int))
 | []=>some []
 | d::ds=>match pA O d,keyed O ds with
  | some ns,some r=>some ((d,ns)::r)
  | _,_=>none
theorem ze{σ:L2.St}{H F:Hp}{θ:List Addr}{s:S}(b:BS C.K C.ca σ H F θ s):∀{ds:List D} {Y:List (D×List Int)} {xs:List V},keyed s.o ds=some Y->aG C.K C.ca θ F ds xs->
 ∃U:List ((Addr×D)×List Int),Y=U.map (λx=>(x.1.2,x.2))/\xs=U.map (λx=>V.ref x.1.1)/\∀x∈U,SqL C.K H x.1.1 (x.2.map V.int)/\Rep C.K C.ca θ F x.1.2 (.ref x.1.1)
 | [],Y,xs,e,r=>by
  cases e
  unfold aG at r
  subst r
  exact⟨[],rfl,rfl,λx hx=>by cases hx⟩
 | d::ds,Y,xs,e,r=>by
  unfold keyed at e
  split at e
  ·rename_i ns k2 e1 e2
   cases e
   unfold aG at r
   obtain⟨v,ab,rfl,h1,h2⟩:=r
   obtain⟨a,rfl,hs⟩:=tQ b h1 e1
   obtain⟨U,q1,q2,q3⟩:=ze b e2 h2
   refine⟨((a,d),ns)::U,by rw[q1];rfl,by rw[q2];rfl,λx hx=> ?_⟩
   rcases wT.mp hx with rfl | hx
   ·exact⟨hs,h1⟩
   ·exact q3 x hx
  ·cases e
theorem Dn{K:sB}{ca:Nat->Addr}{θ:List Addr}{F:Hp}:∀{U:List ((Addr×D)×List Int)},(∀x∈U,Rep K ca θ F x.1.2 (.ref x.1.1))->aG K ca θ F (U.map λx=>x.1.2) (U.map λx=>V.ref x.1.1)
 | [],_=>aG.nil
 | x::U,h=>aG.cons (h x wv) (Dn λy hy=>h y (wh _ hy))
def ui(fin:S->List D->Res (D×S))(me:EM):EM:=λs=>(me s).bind λx=>match lsD x.2.o x.1 with
 | some ds=>match keyed x.2.o ds with
  | some U=>if U.length<64/\(U.map (·.2)).Nodup then fin x.2 ((d9 U).map (·.1)) else .bad
  | none=>.bad
 | none=>.bad
theorem JT {fin:S->List D->Res (D×S)} (he:RdE C te me)
 (hf:∀σ H F θ s ds xs Q,BS C.K C.ca σ H F θ s->aG C.K C.ca θ F ds xs->PoE C σ H F θ (fin s ds) Q->∀q,H q=none->Q (.ref q) (upd H q (.lst xs))):RdE C (tCB (vy C.K) (fY te k6)) (ui fin me):=by
 intro σ H F θ s Q b p
 refine he σ H F θ s _ b (PoR.bind p ?_)
 rintro ⟨x,s1⟩ H1 F1 θ1 _ an p1 U v Y
 dsimp only at p1 U Y
 split at p1
 ·rename_i ds el
  split at p1
  ·rename_i kd ek
   split at p1
   ·rename_i hc
    obtain⟨a,xs,rfl,hs,hr⟩:=eN U Y el
    obtain⟨l3,rfl,rfl,q3⟩:=ze U ek hr
    have n1:∀l:List ((Addr×D)×List Int),d9 (l.map λx=>(x.1.1,x.2))=(d9 l).map λx=>(x.1.1,x.2):=m4 λ_=>rfl
    have n2:∀l:List ((Addr×D)×List Int),d9 (l.map λx=>(x.1.2,x.2))=(d9 l).map λx=>(x.1.2,x.2):=m4 λ_=>rfl
    refine⟨a,l3.map λx=>(x.1.1,x.2),rfl,by rw[wp];exact hs,λy hy=> ?_,by have:=hc.1;rw[ut] at this ⊢;exact this,by have:=hc.2;rw[wp] at this ⊢;exact this, ?_⟩
    ·obtain⟨x,hx,rfl⟩:=At.mp hy
     exact(q3 x hx).1
    ·rw[n2,wp] at p1
     rw[n1,wp]
     exact hf σ H1 F1 θ1 s1 _ _ Q U (Dn λx hx=>(q3 x ((gO l3).mem_iff.mp hx)).2) p1
   ·exact ss p1
  ·exact ss p1
 ·exact ss p1
theorem Ij(U:RdE C te me):RdE C (tCB (vy C.K) (fY te k6)) (ui sW me):=JT U λσ H F θ s ds xs Q b r p=>tj p b r
def p8(n:Int)(ns:List Int):Int:=ns.foldl (λa b=>if b<a then b else a) n
theorem xZ:∀(ns:List Int) (n:Int),p8 n ns<=n/\∀x∈ns,p8 n ns<=x
 | [],n=>⟨Int.le_refl _,λx hx=>by cases hx⟩
 | b::ns,n=>by
  obtain⟨h1,h2⟩:=xZ ns (if b<n then b else n)
  have e:p8 n (b::ns)=p8 (if b<n then b else n) ns:=rfl
  rw[e]
  have le:(if b<n then b else n)<=n/\(if b<n then b else n)<=b:=by split <;> omega
  generalize (if b<n then b else n)=c at h1 h2 le
  refine⟨Int.le_trans h1 le.1,λx hx=> ?_⟩
  rcases wT.mp hx with rfl | hx
  ·exact Int.le_trans h1 le.2
  ·exact h2 x hx
theorem vf:∀(ns:List Int) (n:Int),p8 n ns∈n::ns
 | [],n=>wv
 | b::ns,n=>by
  have h:=vf ns (if b<n then b else n)
  have e:p8 n (b::ns)=p8 (if b<n then b else n) ns:=rfl
  rw[e]
  rcases wT.mp h with h | h
  ·rw[h]
   split
   ·exact wh _ wv
   ·exact wv
  ·exact wh _ (wh _ h)
end
section
variable {C : Ct}
end
section
variable {C : Ct}
abbrev IX:=S->Res ((List D×(aB->Prop))×S)
def G7(C:Ct)(wi:TI)(im:IX):Prop:=∀σ H F θ s R,BS C.K C.ca σ H F θ s->
 PoR C H F θ (im s) (λy H1 F1 θ1=>BS C.K C.ca σ H1 F1 θ1 y.2->∀J,sC C J y.1.1 y.1.2 H1 F1 θ1->R J H1)->wi σ H R
theorem lsN{H F H2 U:Hp}{θ θ2:List Addr}{Y:aB}(st:Stp H F θ H2 U θ2)(n:Now C.K C.ca H2 U θ2 Y)(r:Rep C.K C.ca θ F x v)(e:lsD Y x=some ds):∃a xs,v=.ref a/\SqL C.K H2 a xs/\aG C.K C.ca θ2 U ds xs:=by
 replace r:=r.mono st.ff st.pre
 cases x <;> first | (simp[lsD] at e;done) | skip
 ·cases e
  unfold Rep at r
  obtain⟨a,xs,rfl,hs,hr⟩:=r
  exact⟨a,xs,rfl,n.fh.seq hs,hr⟩
 ·rename_i k
  unfold Rep at r
  obtain⟨a,rfl,hk⟩:=r
  unfold lsD at e
  dsimp only at e
  split at e
  ·rename_i ae ek
   cases e
   obtain⟨_,xs,h1,h2⟩:i6 C.K C.ca H2 U θ2 a (.lst ds):=n.ce k a _ hk ek
   exact⟨a,xs,rfl,SqL.of h1,h2⟩
  ·cases e
def AF(m:AM):IX:=λs=>(m s).bind λx=>match x.1 with
 | [a,b]=>match lsD x.2.o a,lsD x.2.o b with
  | some as,some bs=>.ok ((j4 as bs,λO=>lsD O a=some as/\lsD O b=some bs),x.2)
  | _,_=>.bad
 | _=>.bad
theorem KI{a b:Addr}{as bs:List D}{H F:Hp}(r1:Rep C.K C.ca θ F x (.ref a))(r2:Rep C.K C.ca θ F y (.ref b)):
 sC C (Itz C.K a b) (j4 as bs) (λO=>lsD O x=some as/\lsD O y=some bs) H F θ where
 go:=λi H2 F2 θ2 O2 hi st n ok=>by
  obtain⟨_,_,e1,e2,_⟩:=rW (uX hi)
  obtain⟨_,xs,q,h1,k1⟩:=lsN st n r1 ok.1
  cases q
  obtain⟨_,ys,q,h2,k2⟩:=lsN st n r2 ok.2
  cases q
  obtain⟨v,q1,_⟩:=k1.get e1
  obtain⟨w,q2,_⟩:=k2.get e2
  exact⟨xs,ys,v,w,h1,h2,q1,q2⟩
 yl:=λi d σ H2 F2 θ2 s2 z H3 hd st b ok hy=>by
  obtain⟨T,v,w,hT,rfl,rfl,hv,hw⟩:=hy
  obtain⟨_,_,e1,e2,rfl⟩:=rW hd
  obtain⟨_,xs,q,h1,k1⟩:=lsN st b.now r1 ok.1
  cases q
  obtain⟨_,ys,q,h2,k2⟩:=lsN st b.now r2 ok.2
  cases q
  obtain⟨v',q1,k1⟩:=k1.get e1
  obtain⟨w',q2,k2⟩:=k2.get e2
  have:=hv xs h1
  rw[q1] at this
  cases this
  have:=hw ys h2
  rw[q2] at this
  cases this
  obtain⟨st3,b3,sF,e3⟩:=b.newF hT (.tup [v,w])
  refine⟨_,st3,b3, ?_⟩
  unfold Rep
  exact⟨T,[v,w],rfl,SqT.of e3,aG.cons (k1.mono st3.ff st3.pre) (aG.one (k2.mono st3.ff st3.pre))⟩
 st:=λi H2 F2 θ2 O2 hi st n ok=>by
  obtain⟨_,xs,q,h1,k1⟩:=lsN st n r1 ok.1
  cases q
  obtain⟨_,ys,q,h2,k2⟩:=lsN st n r2 ok.2
  cases q
  refine⟨xs,ys,h1,h2, ?_⟩
  unfold j4 at hi
  rw[Qf] at hi
  rw[k1.length,k2.length]
  omega
theorem Kr{m:AM}(h:RdA C ta m):G7 C (HD C.K ta) (AF m):=by
 intro σ H F θ s R b p
 refine h σ H F θ s _ b (PoR.bind p ?_)
 rintro ⟨x,s1⟩ H1 F1 θ1 _ am p1 U v r1
 dsimp only at p1 U r1
 split at p1
 ·rename_i x y
  split at p1
  ·rename_i as bs e1 e2
   obtain⟨v1,v2,rfl,k1,k2⟩:=Ji r1
   obtain⟨a,xs,rfl,hs,hr⟩:=eN U k1 e1
   obtain⟨b',ys,rfl,Y,ap⟩:=eN U k2 e2
   exact⟨a,b',rfl,⟨xs,hs⟩,⟨ys,Y⟩,p1 _ _ _ .refl U _ (KI k1 k2)⟩
  ·exact ss p1
 ·exact ss p1
noncomputable def wX (m:Nat)(caps:List Nat)(im:IX)(g:GM)(c:TM)(e:EM):S->Res (List D×S):=λs=>(im s).bind λy=>
 (dZ y.1.2 g c e y.1.1 [] ⟨m8 m caps y.2.r,y.2.o⟩).bind λz=>.ok (z.1,⟨y.2.r,z.2.o⟩)
theorem Ew {m:Nat} {caps:List Nat} {im:IX} {c:TM} (hi:G7 C wi im) (hg:RdG C g gm) (hc:RdT C tc c) (he:RdE C te e)
 {σ:L2.St} {H F:Hp} {θ:List Addr} {s:S} {Q:VK} (b:BS C.K C.ca σ H F θ s)
 (p:PoR C H F θ (wX m caps im gm c e s) λy H1 F1 θ1=>BS C.K C.ca σ H1 F1 θ1 y.2->∀q xs,H q=none->H1 q=some (.lst xs)->F1 q=none->q∉θ1->aG C.K C.ca θ1 F1 y.1 xs->Q (.ref q) H1):rJ m caps wi g tc te σ H Q:=by
 refine hi σ H F θ s _ b (PoR.bind p ?_)
 rintro ⟨⟨ds,k⟩,s1⟩ H1 F1 θ1 _ cg p1 b1 J it q hq
 dsimp only at p1 b1 it
 have ci:Stp H1 F1 θ1 (upd H1 q (.lst [])) F1 θ1:=by
  have nm:∀a u,H1 a=some u->a≠q:=λa u e z=>by rw[z,hq] at e;cases e
  exact⟨bJ.refl _,⟨[],by simp,by simp⟩,λa u h _=>by rw[aS (nm a u h)];exact h,λa u h=>⟨u,by rw[aS (nm a u h)];exact h⟩,λa u h=>.inl h⟩
 have qθ:q∉θ1:=λh=>by obtain⟨u,hu⟩:=b1.now.there h;rw[hq] at hu;cases hu
 have qF:F1 q=none:=by
  cases e:F1 q with
  | none=>rfl
  | some u=>rw[b1.now.fh q u e] at hq;cases hq
 have ck:H q=none:=by
  cases e:H q with
  | none=>rfl
  | some u=>obtain⟨u',e'⟩:=cg.al q u e;rw[hq] at e';cases e'
 have keep:∀{H2 F2 H3 F3:Hp} {θ2 θ3:List Addr} {o:HO},Stp H2 F2 θ2 H3 F3 θ3->H2 q=some o->F2 q=none->q∉θ2->H3 q=some o/\F3 q=none/\q∉θ3:=λ{H2 F2 H3 F3 θ2 θ3 o} st h1 h2 h3=>by
  refine⟨st.kp q o h1 h3, ?_, ?_⟩
  ·cases e:F3 q with
   | none=>rfl
   | some u=>
    rcases st.nf q u e with z | z | z
    ·rw[h2] at z;cases z
    ·rw[h1] at z;cases z
    ·exact absurd z h3
  ·obtain⟨r,rfl,hr⟩:=st.th
   intro hm
   rcases xz.mp hm with z | z
   ·exact h3 z
   ·rw[hr q z] at h1;cases h1
 have b2:∀{σ':L2.St} {H2 F2:Hp} {θ2:List Addr} {s2:S} (o:HO),BS C.K C.ca σ' H2 F2 θ2 s2->F2 q=none->q∉θ2->BS C.K C.ca σ' (upd H2 q o) F2 θ2 s2:=λ{σ' H2 F2 θ2 s2} o b h1 h2=>by
  have ne:∀a,a∈θ2->a≠q:=λa h z=>h2 (z▸h)
  refine⟨⟨λa u h=> ?_,b.now.nd,b.now.ln,λj a c e1 e2=> ?_⟩,b.len,b.sl⟩
  ·have:a≠q:=λz=>by rw[z,h1] at h;cases h
   rw[aS this];exact b.now.fh a u h
  ·have hm:=ne a (No e1)
   have w:=b.now.ce j a c e1 e2
   cases c with
   | dead=>obtain⟨u,hu⟩:=w;exact⟨u,by rw[aS hm];exact hu⟩
   | lst ds=>obtain⟨q1,ys,q2,q3⟩:=w;exact⟨q1,ys,by rw[aS hm];exact q2,q3⟩
   | ins c ns ds=>obtain⟨q1,dx,ys,q2,q3,q4⟩:=w;exact⟨q1,dx,ys,by rw[aS hm];exact q2,q3,q4⟩
 have co:∀{H2 F2:Hp} {θ2:List Addr} (o:HO),Stp H1 F1 θ1 H2 F2 θ2->Stp H1 F1 θ1 (upd H2 q o) F2 θ2:=λ{H2 F2 θ2} o st=>by
  have nm:∀a u,H1 a=some u->a≠q:=λa u e z=>by rw[z,hq] at e;cases e
  exact⟨st.ff,st.th,λa u h1 h2=>by rw[aS (nm a u h1)];exact st.kp a u h1 h2,λa u h1=>by rw[aS (nm a u h1)];exact st.al a u h1,st.nf⟩
 refine⟨λi n U σ' H'=>n=ds.length-i/\i<=ds.length/\∃F' θ' s' as,Stp H1 F1 θ1 H' F' θ'/\H' q=some (.lst U)/\F' q=none/\q∉θ'/\BS C.K C.ca σ' H' F' θ' s'/\aG C.K C.ca θ' F' as U/\
  PoR C H1 F1 θ1 ((dZ (k) gm c e (ds.drop i) as s').bind λz=>.ok (z.1,(⟨s1.r,z.2.o⟩:S))) (λy H1 F1 θ1=>BS C.K C.ca σ H1 F1 θ1 y.2->∀q xs,H q=none->H1 q=some (.lst xs)->F1 q=none->q∉θ1->aG C.K C.ca θ1 F1 y.1 xs->Q (.ref q) H1),
  ⟨ds.length,by simp,Ph _,F1,θ1,⟨m8 m caps s1.r,s1.o⟩,[],ci,bZ,qF,qθ,b2 _ (ER b1 m caps) qF qθ,aG.nil,by simpa using p1⟩, ?_⟩
 rintro i n U σ' H' ⟨rfl,dp,F',θ',s',as,st,bt,b7,cb,bs,az,Y⟩
 by_cases lt:i<ds.length
 ·right
  rw[Pw lt,dZ] at Y
  split at Y
  ·rename_i a4
   refine⟨it.go i H' F' θ' s'.o lt st bs.now a4.1, ?_⟩
   intro x H3 hy
   obtain⟨F3,bb,b3,rp⟩:=it.yl i ds[i] σ' H' F' θ' s' x H3 (uX lt) st bs a4.1 hy
   obtain⟨k1,k2,k3⟩:=keep bb bt b7 cb
   have ae:=st.trans bb
   have bd:=PoR.after ae Y
   have w1:PoG C H3 F3 θ' (gm ds[i] s') (λσ4 H4=>tc σ4 H4 λb H4=>if b=true then
    te σ4 H4 λy H5=>H5 q=some (.lst U)/\U.length<sizeLine/\∃k',k'<ds.length-i/\(k'=ds.length-(i+1)/\i+1<=ds.length/\∃F' θ' s' as,Stp H1 F1 θ1 (upd H5 q (.lst (U++[y]))) F' θ'/\(upd H5 q (.lst (U++[y]))) q=some (.lst (U++[y]))/\F' q=none/\q∉θ'/\BS C.K C.ca σ4 (upd H5 q (.lst (U++[y]))) F' θ' s'/\aG C.K C.ca θ' F' as (U++[y])/\
     PoR C H1 F1 θ1 ((dZ (k) gm c e (ds.drop (i+1)) as s').bind λz=>.ok (z.1,(⟨s1.r,z.2.o⟩:S))) (λy H1 F1 θ1=>BS C.K C.ca σ H1 F1 θ1 y.2->∀q xs,H q=none->H1 q=some (.lst xs)->F1 q=none->q∉θ1->aG C.K C.ca θ1 F1 y.1 xs->Q (.ref q) H1))
    else ∃k',k'<ds.length-i/\(k'=ds.length-(i+1)/\i+1<=ds.length/\∃F' θ' s' as,Stp H1 F1 θ1 H4 F' θ'/\H4 q=some (.lst U)/\F' q=none/\q∉θ'/\BS C.K C.ca σ4 H4 F' θ' s'/\aG C.K C.ca θ' F' as U/\
     PoR C H1 F1 θ1 ((dZ (k) gm c e (ds.drop (i+1)) as s').bind λz=>.ok (z.1,(⟨s1.r,z.2.o⟩:S))) (λy H1 F1 θ1=>BS C.K C.ca σ H1 F1 θ1 y.2->∀q xs,H q=none->H1 q=some (.lst xs)->F1 q=none->q∉θ1->aG C.K C.ca θ1 F1 y.1 xs->Q (.ref q) H1))):=by
    cases e1:gm ds[i] s' with
    | bad=>rw[e1] at bd;exact bd
    | exc a1 a2 a3=>rw[e1] at bd;exact bd
    | ok s4=>
     rw[e1] at Y
     intro H4 F4 θ4 am σ4 b4
     obtain⟨l1,l2,l3⟩:=keep am k1 k2 k3
     refine hc σ4 H4 F4 θ4 s4 _ b4 ?_
     cases e2:c s4 with
     | bad=>rw[ak,e2] at Y;exact Y
     | exc a1 a2 a3=>rw[ak,e2] at Y;exact PoR.after (ae.trans am) Y
     | ok x5=>
      obtain⟨kk,s5⟩:=x5
      rw[ak,e2,ak] at Y
      intro H5 F5 θ5 an b5
      obtain⟨m1,m2,m3⟩:=keep an l1 l2 l3
      have a5:=((az.mono bb.ff bb.pre).mono am.ff am.pre).mono an.ff an.pre
      cases kk with
      | false=>
       exact tm ⟨ds.length-(i+1),by omega,rfl,by omega,F5,θ5,s5,as,ae.trans (am.trans an),m1,m2,m3,b5,a5,by simpa using Y⟩
      | true=>
       refine su (he σ4 H5 F5 θ5 s5 _ b5 ?_)
       dsimp only[if_true] at Y
       cases e3:e s5 with
       | bad=>rw[e3] at Y;exact Y
       | exc a1 a2 a3=>rw[e3] at Y;exact PoR.after (ae.trans (am.trans an)) Y
       | ok x6=>
        obtain⟨y,s6⟩:=x6
        rw[e3,ak] at Y
        intro H6 F6 θ6 be b6 w r6
        obtain⟨n1,n2,n3⟩:=keep be m1 m2 m3
        exact⟨n1,by rw[az.length];exact a4.2,ds.length-(i+1),by omega,rfl,by omega,F6,θ6,s6,as++[y],co _ (ae.trans (am.trans (an.trans be))),bZ,n2,n3,b2 _ b6 n2 n3,(a5.mono be.ff be.pre).append (aG.one r6),Y⟩
   exact hg σ' H3 F3 θ' s' ds[i] x _ b3 rp w1
  ·exact ss Y
 ·left
  rw[Q2 (by omega),dZ] at Y
  split at Y
  ·rename_i a4
   refine⟨it.st i H' F' θ' s'.o (by omega) st bs.now a4,bt, ?_⟩
   refine Y H' F' θ' st ⟨bs.now,b1.len,λj d e=> ?_⟩ q U ck bt b7 cb az
   obtain⟨v,h1,h2⟩:=b1.sl j d e
   exact⟨v,h1,h2.mono st.ff st.pre⟩
  ·exact ss Y
noncomputable def sI (m:Nat)(caps:List Nat)(im:IX)(g:GM)(c:TM)(e:EM):EM:=λs=>(wX m caps im g c e s).bind λy=>.ok (.lst y.1,y.2)
theorem Fb{m:Nat}{im:IX}{c:TM}(hi:G7 C wi im)(hg:RdG C g gm)(hc:RdT C tc c)(he:RdE C te e):RdE C (rJ m caps wi g tc te) (sI m caps im gm c e):=by
 intro σ H F θ s Q b p
 refine Ew hi hg hc he b ?_
 unfold sI at p
 cases e1:wX m caps im gm c e s with
 | bad=>rw[e1] at p;exact p
 | exc a1 a2 a3=>rw[e1] at p;exact p
 | ok y=>
  rw[e1,ak] at p
  intro H1 F1 θ1 U Y q xs h0 h1 h2 h3 hr
  have sF:bJ F1 (upd F1 q (.lst xs)):=λa u h=>by
   rw[aS (λz=>by rw[z,h2] at h;cases h)];exact h
  refine p H1 (upd F1 q (.lst xs)) θ1 ⟨U.ff.trans sF,U.th,U.kp,U.al,λa u h=> ?_⟩ ⟨⟨λa u h=> ?_,Y.now.nd,Y.now.ln,λj a c e2 e3=> ?_⟩,Y.len,λi d e2=> ?_⟩ (.ref q) ?_
  ·by_cases z:a=q
   ·subst z;exact .inr (.inl h0)
   ·rw[aS z] at h;exact U.nf a u h
  ·by_cases z:a=q
   ·subst z;rw[bZ] at h;rw[h1];exact h
   ·rw[aS z] at h;exact Y.now.fh a u h
  ·have ne:a≠q:=λz=>h3 (z▸No e2)
   have w:=Y.now.ce j a c e2 e3
   cases c with
   | dead=>exact w
   | lst ds=>obtain⟨q1,ys,q2,q3⟩:=w;exact⟨by rw[aS ne];exact q1,ys,q2,q3.mono sF ⟨[],by simp⟩⟩
   | ins c ns ds=>obtain⟨q1,dx,ys,q2,q3,q4⟩:=w;exact⟨by rw[aS ne];exact q1,dx,ys,q2,q3,q4.mono sF ⟨[],by simp⟩⟩
  ·obtain⟨v,w1,w2⟩:=Y.sl i d e2
   exact⟨v,w1,w2.mono sF ⟨[],by simp⟩⟩
  ·unfold Rep
   exact⟨q,xs,rfl,SqL.of bZ,hr.mono sF ⟨[],by simp⟩⟩
end
section
variable {C : Ct}
end
end M
namespace L2
open PySem PySem.Spec PyProof.Rows
variable {k : Nat} {A : Around} {f : Addr}
structure fZ(k:Nat)(A:Around):Prop where
 dp:A.depth+3*k+5<recursionLimit
 un:A.units+16*k+200<cLine
theorem dk.h(r:dk k A)(v:Option Value):fZ k (A.mark v):=⟨r.dp,r.un⟩
theorem fZ.mono{j k:Nat}(r:fZ k A)(h:j<=k):fZ j A:=⟨by have:=r.dp;omega,by have:=r.un;omega⟩
theorem fZ.deeper(r:fZ (k+1) A)(env:Env):fZ k (A.deeper env):=
 ⟨by have:=r.dp;show A.depth+1+3*k+5<_;omega,by have:=r.un;show A.units+3+16*k+200<_;omega⟩
theorem fZ.depth(r:fZ k A):A.depth<recursionLimit:=by have:=r.dp;omega
theorem fZ.units(r:fZ k A):A.units+64<cLine:=by have:=r.un;omega
structure uo(P:Program)(w:World)(K:sB)(mg:Str->Option Value)(base:Heap)(CX:CXT)(k:Nat)(f:Addr)(fd:FuncData)(ps:List Str)(sp:Sp):Prop where
 len:∀vs H Q E,sp vs H Q E->vs.length=ps.length
 run:∀(A:Around) (outer:List Env) (s:Shared) (H:Hp) (args:Args) (us:List Value) (vs:List V) (Q:VK) (E:XK),fZ k A->qa P w K mg base A outer s H->BindsTo s fd args (ps.zip us)->Vals vs us->sp vs H Q E->
  codeAny (model P w) A (.call (.ref f) args) (CR CX outer P w H s Q E) s
abbrev rk(CX:CXT)(P:Program)(w:World)(K:sB)(mg:Str->Option Value)(base:Heap)(N:List Str)(qual:Str)(scope:Scope)(f:Addr)(cd:Value)(A:Around)(outer:List Env)(s:Shared)(H:Hp)(E:XK):Cx:=
 {lr CX P w K mg base N qual scope f cd A outer s H E with calm:=false}
theorem D4 {CX:CXT} {P:Program} {w:World} {K:sB} {mg:Str->Option Value} {base:Heap} {N ps:List Str} {qual:Str} {scope:Scope} {f:Addr} {cd:Value} {A:Around} {outer:List Env} {s s1:Shared} {H:Hp} {E:XK} {us:List Value} {vs:List V}
 (S:a0 N ps scope) (U:qa P w K mg base A outer s H) (Y:vs.length=ps.length) (r:Vals vs us)
 (x:InCallC s s.heap.objs.size (bindL (envOfC qual scope s.heap.objs.size f cd).kindOf (ps.zip us) λ_=>none) (cellsFrom (s.heap.objs.size+1) scope.names []) (bindC (envOfC qual scope s.heap.objs.size f cd).kindOf (ps.zip us) λ_=>none) s1):
 Inv (rk CX P w K mg base N qual scope f cd A outer s H E) [] (start N vs) H s1:=by
 have I:=zf (CX:=CX) (E:=E) (A:={A with handled:=none}) S rfl (⟨U.frames,U.mod,U.bs,U.bsz,U.funs,U.frf,U.hok,U.bare⟩:qa P w K mg base {A with handled:=none} outer s H) Y r x
 exact⟨⟨I.ok.mod,I.ok.kind,I.ok.glob,I.ok.blt,I.ok.above,I.ok.inj,I.ok.has,I.ok.cab,(λz=>nomatch z),I.ok.frames,I.ok.stk,I.ok.exf,I.ok.bs,I.ok.bsz,I.ok.noex,I.ok.exfs,I.ok.funs,I.ok.frf⟩,I.os,I.bare,I.base,I.loc,I.cell,I.free,I.freeC,I.pin,I.hok,I.len⟩
theorem LL {CX:CXT} {P:Program} {w:World} {K:sB} {mg:Str->Option Value} {base:Heap} {k:Nat} {f:Addr} {name qual:Str} {Y:Arguments} {body:List Stmt} {scope:Scope} {dV kV am pm U ct oc:Value} {an od:Option Addr}
 {a4:Array (Option Value)} {N ps:List Str} {sp:Sp} (lk:K.lookup f=some ⟨oc,od,.func (Ix name qual Y body scope dV kV am pm an U ct),a4⟩) (a5:Pr K U qual=true) (S:a0 N ps scope)
 (ap:∀vs H Q E,sp vs H Q E->vs.length=ps.length)
 (ab:∀(A:Around) (outer:List Env) (s:Shared) (H:Hp) (vs:List V) (Q:VK) (E:XK),fZ k (A.deeper (envOfC qual scope s.heap.objs.size f U))->sp vs H Q E->
  ∃t,PSs (rk CX P w K mg base N qual scope f U A outer s H E) body t/\t {nx:=λ_ H'=>Q .non H',rt:=Q} (start N vs) H):
 uo P w K mg base CX (k+1) f (Ix name qual Y body scope dV kV am pm an U ct) ps sp:=by
 refine⟨ap,λA outer s H args us vs Q E hr e0 hb r a1=> ?_⟩
 have hl:=ap _ _ _ _ a1
 have KX:K.In s.heap:=e0.mod.kin.keeps λb o e=>(e0.bs b o e).1
 have bb:s.heap.NoLimit:=e0.mod.nolimit.keeps λb o e=>(e0.bs b o e).1
 have ac:∀y∈ps.zip us,scope.names.lookup y.1=some .local\/(scope.names.lookup y.1=some .cell/\((cellsFrom (s.heap.objs.size+1) scope.names []).lookup y.1).isSome=true):=λ⟨n,v⟩ hy=>by
  rcases S.par n (Ps hy).1 with q | q
  ·exact .inl q
  ·exact .inr ⟨q,Qh _ _ _ (.inl q)⟩
 refine codeAny_call_function hr.depth (KX _ _ lk) rfl S.co S.gen rfl (Sm KX a5) (hb _ _ _ _ ?_)
 refine wpAny_newFunctionEnv_cells S.kind ac λenv he s1 x=> ?_
 subst he
 refine⟨bb.keeps x.toInCall.keep,codeAny_func ?_⟩
 obtain⟨t,ht,hq⟩:=ab A outer s H vs Q E (hr.deeper _) a1
 have I:Inv (rk CX P w K mg base N qual scope f U A outer s H E) [] (start N vs) H s1:=D4 S e0 hl r x
 refine wpAny_mono (ht [] s1 (start N vs) H _ I hq) (λfl s' hs=> ?_) λe s' hs=>hs
 have a2:∀{σ':St} {H':Hp} {v:V} {u:Value},Inv (rk CX P w K mg base N qual scope f U A outer s H E) [] σ' H' s'->RelV v u->Q v H'->CE outer P w H s Q u s':=
  λ{σ' H' v u} J rv q=>⟨v,H',J.os,J.bare,J.base,J.hok,rv,q⟩
 cases fl with
 | ret u=>
  obtain⟨v,σ',H',J,rv,q⟩:=hs
  exact a2 J rv q
 | next=>
  obtain⟨σ',H',J,q⟩:=hs
  exact a2 (v:=V.non) (u:=Value.none) J rfl q
 | brk=>
  obtain⟨_,_,_,q⟩:=hs
  exact ss q
 | cont=>
  obtain⟨_,_,_,q⟩:=hs
  exact ss q
section
variable {X : Cx} {CX : CXT} {k : Nat} {f C : Addr} {fd : FuncData} {ps : List Str} {sp : Sp} {dvs : List V} {ds : List Value} {E : XK} {x m : Str} {p pos apos : Pos} {e o : Expr} {es : List Expr} {ta : TE} {t : TA}
theorem KG {pins:List (Addr×Obj)} {σ:St} {H:Hp} {s:Shared} {Q:VK} {us:List Value} {vs:List V} (F:uo X.prog X.w X.K X.mg X.base CX k f fd ps sp) (Y:fZ k X.A) (hb:Binds X.K fd ps ds) (hd:Vals dvs ds) (hx:Passes CX X E)
 (I:Inv X pins σ H s) (r:Vals vs us) (h:sp (vs++dvs) H Q E):wpAny (model X.prog X.w) X.A (call (.ref f) us) (EP X pins σ Q) X.xe s:=by
 have U:Vals (vs++dvs) (us++ds):=r.append hd
 have hl:(us++ds).length=ps.length:=by rw[<- U.length];exact F.len _ _ _ _ h
 refine wpAny_call (codeAny_mono (F.run X.A X.stack s H ⟨us,[]⟩ (us++ds) (vs++dvs) Q E Y I.env0 (hb s us I.kIn hl) U h) λr s' hq=> ?_)
 cases r with
 | error e=>exact hx pins σ H s e s' I hq
 | ok fl=>
  cases fl with
  | ret u=>exact I.after hq
  | next=>exact ss hq
  | brk=>exact ss hq
  | cont=>exact ss hq
theorem Ib (F:uo X.prog X.w X.K X.mg X.base CX k f fd ps sp) (hr:fZ k X.A) (hg:Gl X x) (hm:X.mg x=some (.ref f)) (hk:IR X.K (.ref f)=true) (hb:Binds X.K fd ps ds) (hd:Vals dvs ds) (hx:Passes CX X E)
 (ha:PA X (e::es) t) (U:(x == ("__debug__" :Str))=false:=by decide) (he:starEach (e::es) X.env=(false,eval e X.env)::starEach es X.env:=by rfl) (Y:(backTo pos (starEach es X.env)).any (·.1)=false:=by rfl):
 PE X (.Call (.Name x p) (e::es) [] pos) (nG sp dvs E t):=by
 intro pins s σ H Q I h
 refine wpAny_Call_Name_kw (mw I hg hm ?_ U)
 refine Ql (h₀:=X.base) I.ok.mod.kin hk (thn (ha pos pins s σ H _ I h) λus s1 ⟨vs,H1,I1,r,q⟩=>⟨I1.kIn, ?_⟩) he Y
 exact KG F hr hb hd hx I1 r q
end
section
variable {P : Program} {w : World} {K : sB} {mg : Str → Option Value} {base : Heap}
theorem Fun.okH {CX:CXT} {x qual:Str} {st:Stmt} {fd:FuncData} {N ps:List Str} {k:Nat} {sp:Sp} (F:Fun K x qual st f fd) (S:a0 N ps (aJ st)) (Y:∀vs H Q E,sp vs H Q E->vs.length=ps.length)
 (hb:∀(U:Value) (A:Around) (outer:List Env) (s:Shared) (H:Hp) (vs:List V) (Q:VK) (E:XK),fZ k (A.deeper (envOfC qual (aJ st) s.heap.objs.size f U))->sp vs H Q E->
  ∃t,PSs (rk CX P w K mg base N qual (aJ st) f U A outer s H E) (cE st) t/\t {nx:=λ_ H'=>Q .non H',rt:=Q} (start N vs) H):uo P w K mg base CX (k+1) f fd ps sp:=by
 obtain⟨oc,od,kV,ac,pm,an,U,ct,ae,rfl,look,ab⟩:=F.ex
 exact LL look ab S Y (hb U)
end
end L2
namespace M
open PySem PySem.Spec PyProof.Rows L2
variable {st : Stmt} {k n c a b : Nat} {mo me m : EM} {s s1 s' s2 : S} {O O' O1 : aB} {d : D} {ds0 ds args : List D} {f : FM} {ma : AM} {e : Ev} {i j g u v bot : Int} {ok : aB → Prop} {body A B mb : SM} {r one other x y z l h w left fit : List Int} {R ps : List (List Int)} {p q : Bool} {T : List Sh} {ns : List Str} {L : List (Nat × List Int)}
theorem Ks {P:Program} {w:World} {K:sB} {mg:Str->Option Value} {base:Heap} {ca:Nat->Addr} {x qual:Str} {st:Stmt} {f:Addr} {fd:FuncData} {N ps:List Str} {k n:Nat} {m:SM}
 (F:Fun K x qual st f fd) (S:a0 N ps (aJ st)) (hn:N.length=n)
 (hm:∀(U:Value) (A:Around) (outer:List Env) (s:Shared) (H:Hp) (E:XK),fZ k (A.deeper (envOfC qual (aJ st) s.heap.objs.size f U))->
  ∃t,PSs (rk (CXE P w) P w K mg base N qual (aJ st) f U A outer s H E).nox (cE st) t/\RdS ⟨K,ca,W0⟩ t m):
 uo P w K mg base (CXE P w) (k+1) f fd ps (spM K ca ps.length (runM n m)):=by
 refine F.okH S (λvs H Q E h=> ?_) (λU A outer s H vs Q E hr h=> ?_)
 ·obtain⟨F,θ,ds,O,_,r,hl,_⟩:=h
  rw[r.length,hl]
 ·obtain⟨F,θ,ds,O,Y,r,hl,q⟩:=h
  obtain⟨t,ht,rd⟩:=hm U A outer s H E hr
  refine⟨t,ht.nox,rd _ H F θ _ _ (vm Y r) ?_⟩
  subst hn
  unfold runM at q
  cases e:m ⟨ds.map some++tz (N.length-ds.length) none,O⟩ with
  | next s1=>rw[e] at q;exact λσ1 H1 F1 θ1 st b=>q .non H1 F1 θ1 st b.now (gc.mpr rfl)
  | ret d s1=>rw[e] at q;exact λv σ1 H1 F1 θ1 st b rv=>q v H1 F1 θ1 st b.now rv
  | exc c a o=>rw[e] at q;exact ss q
  | brk s1=>rw[e] at q;exact ss q
  | cnt s1=>rw[e] at q;exact ss q
  | bad=>rw[e] at q;exact ss q
def Mv(P:Program)(w:World)(K:sB)(mg:Str->Option Value)(base:Heap)(ca:Nat->Addr)(lv:Nat)(x:Str)(ps:List Str)(f:FM)(a:Addr)(fd:FuncData):Prop:=
 uo P w K mg base (CXE P w) lv a fd ps (spM K ca ps.length f)/\mg x=some (.ref a)/\IR K (.ref a)=true/\Binds K fd ps []
def EX(P:Program)(w:World)(K:sB)(mg:Str->Option Value)(base:Heap)(ca:Nat->Addr)(lv:Nat)(x:Str)(ps:List Str)(f:FM):Prop:=∃a fd,Mv P w K mg base ca lv x ps f a fd
section
variable {C : Ct}
def wM:Op2:=intD λi j=>.ok (.int (Builtin.bitAnd i j))
theorem Kf:gh C (rI0 λi j=>.int (Builtin.bitAnd i j)) wM:=qf λ_ _ _ _ _ _=>bg.mpr rfl
noncomputable def Aj:Op2:=vz (λ_ j=>0<=j) λi j=>.int (i/2^j.toNat)
theorem MV:gh C (rI (λ_ j=>0<=j) λi j=>.int (i/2^j.toNat)) Aj:=wx λ_ _ _ _ _ _=>bg.mpr rfl
def t7(mo me:EM):EM:=λs=>(mo s).bind λx=>match gz x.2.o x.1 with
 | some _=>(me x.2).bind λy=>match gz y.2.o x.1 with
  | some (k,ds)=>if ds.length<16777216 then .ok (.non,⟨y.2.r,y.2.o.set k (.lst (y.1::ds))⟩) else .bad
  | none=>.bad
 | none=>.bad
theorem La{to te:TE}(ho:RdE C to mo)(he:RdE C te me):RdE C (tBM C.K "list" Jr to (fY (tC (.int 0)) (fY te k6))) (t7 mo me):=by
 intro σ H F θ s Q b p
 refine ho σ H F θ s _ b (PoR.bind p ?_)
 rintro ⟨x,s1⟩ H1 F1 θ1 _ a3 p1 Y v r1
 dsimp only at p1 Y r1
 split at p1
 ·rename_i kd e
  obtain⟨rfl,e'⟩:=oS (k:=kd.1) (ds:=kd.2) e
  obtain⟨a,xs,rfl,hk,_,h1,_⟩:=kE Y r1 e'
  refine⟨.inl ⟨rfl,xs,SqL.of h1⟩,he σ H1 F1 θ1 s1 _ Y (PoR.bind p1 ?_)⟩
  rintro ⟨y,s2⟩ H2 F2 θ2 _ U p2 b2 w r2
  dsimp only at p2 b2 r2
  split at p2
  ·rename_i k ds e2
   obtain⟨ek,e2⟩:=oS e2
   cases ek
   obtain⟨a',ys,ea,ae,hF,h2,hr⟩:=kE b2 (r1.mono U.ff U.pre) e2
   cases ea
   split at p2
   ·rename_i hl
    obtain⟨am,b3⟩:=b2.setC ae e2 hF (aG.cons r2 hr)
    exact⟨a,ys,w,rfl,rfl,h2,by rw[hr.length];exact hl,p2 _ _ _ am b3 _ (gc.mpr rfl)⟩
   ·exact ss p2
  ·exact ss p2
 ·exact ss p1
end
theorem MK{R:List (Option D)}(h1:mo s=.ok (.ptr k,s1))(U:s1.o[k]? =some (.lst ds0))(h2:me s1=.ok (d,⟨R,O⟩))(Y:O[k]? =some (.lst ds))(hb:ds.length<=1000000)(hO:O.set k (.lst (d::ds))=O'):t7 mo me s=.ok (.non,⟨R,O'⟩):=by
 subst hO
 unfold t7
 rw[h1]
 show (match gz s1.o (.ptr k) with | some _=>_ | none=>_)=_
 have e1:gz s1.o (.ptr k)=some (k,ds0):=by unfold gz;simp only[U]
 have e2:gz O (.ptr k)=some (k,ds):=by unfold gz;simp only[Y]
 rw[e1]
 show (me s1).bind _=_
 rw[h2]
 show (match gz O (.ptr k) with | some (k,ds)=>_ | none=>_)=_
 rw[e2]
 show (if ds.length<16777216 then _ else _)=_
 rw[if_pos (by omega)]
section
variable {C : Ct} {Es : L2.St → XK}
def qd(n:Nat)(f:FM)(ma:AM):EM:=λs=>(ma s).bind λx=>if aM x.1=true/\x.1.length=n then (match f x.1 [] with
 | .ok (d,O1)=>.ok (shD x.2.o.length d,⟨x.2.r,x.2.o++O1.map (shC x.2.o.length)⟩)
 | .exc c a _=>.exc c a x.2
 | .bad=>.bad) else .bad
theorem E9{ta:TA}(hW:Wok C Es)(ha:RdA C ta ma):RdE C (AA (spM C.K C.ca n f) [] Es ta) (qd n f ma):=by
 intro σ H F θ s Q b p
 refine ha σ H F θ s _ b (PoR.bind p ?_)
 rintro ⟨x,s1⟩ H1 F1 θ1 _ az p1 b1 v r1
 dsimp only at p1 b1 r1 ⊢
 split at p1
 ·rename_i hp
  rw[PM]
  refine⟨F1,[],x,[],Now.nil b1.now.fh,r1.pure hp.1,hp.2, ?_⟩
  split at p1
  ·rename_i d O1 e
   try rw[e]
   intro v H2 F2 θ2 U n2 rv
   obtain⟨Y,b3⟩:=b1.calledO U n2
   refine p1 H2 F2 _ Y b3 v ?_
   rw[<- b1.now.ln]
   exact wt rv
  ·rename_i c a s2 e
   try rw[e]
   intro H2 F2 θ2 U n2
   obtain⟨Y,b3⟩:=b1.called U n2
   exact hW σ c a s1 H2 F2 θ1 (p1 H2 F2 θ1 Y b3.now) b3
  ·exact ss p1
 ·exact ss p1
theorem IK{R:List (Option D)}{x y:D}(h:ma s=.ok (ds,⟨R,O⟩))(U:f ds []=.ok (x,O1))(hp:aM ds=true)(Y:ds.length=n)(hx:shD O.length x=y)(hO:O++O1.map (shC O.length)=O'):qd n f ma s=.ok (y,⟨R,O'⟩):=by
 unfold qd
 rw[h,ak]
 dsimp only
 rw[if_pos ⟨hp,Y⟩,U]
 dsimp only
 rw[hx,hO]
theorem Em{a:D}(h:ma s=.ok (ds,s'))(hp:aM ds=true)(U:ds.length=n)(Y:f ds []=.exc c a s2):qd n f ma s=.exc c a s':=by
 unfold qd
 rw[h,ak]
 dsimp only
 rw[if_pos ⟨hp,U⟩,Y]
end
structure Ev where
 P:Program
 w:World
 K:sB
 mg:Str->Option Value
 base:Heap
 ca:Nat->Addr
abbrev DIn(e:Ev)(lv:Nat)(x:Str)(ps:List Str)(f:FM):Prop:=DE e.P e.w e.K e.mg e.base e.ca lv x ps f
abbrev Mw(e:Ev)(lv:Nat)(x:Str)(ps:List Str)(f:FM):Prop:=EX e.P e.w e.K e.mg e.base e.ca lv x ps f
abbrev N0(e:Ev)(x:Str):Prop:=e.mg x=none
def FA(e:Ev)(x:Str)(st:Stmt):Prop:=∃a fd,Fun e.K x x st a fd/\e.mg x=some (.ref a)
def FK(K:sB)(x:Str)(st:Stmt):Prop:=∃(f:Addr) (U:Value) (od:Option Addr) (kV Y pm:Value) (an:Option Addr) (cd ct:Value) (sl:Array (Option Value)),Ch K mainGlobals x=some (some (.ref f))/\
 K.lookup f=some ⟨U,od,.func (Ix x x (dM st) (cE st) (aJ st) .none kV Y pm an cd ct),sl⟩/\Pr K cd x=true/\IR K (.ref f)=true
theorem FK.fa{h:Heap}{x:Str}(X:e.K.In h)(G:h.Ns mainGlobals e.mg)(k:FK e.K x st):FA e x st:=by
 obtain⟨f,U,od,kV,Y,pm,an,cd,ct,sl,a,l,c,kp⟩:=k
 exact⟨f,_,kJ l c kp,NE X G a⟩
abbrev oH(x:Str)(ps:List Str)(st:Stmt):Prop:=∀(kV U pm:Value) (an:Option Addr) (Y ct:Value) (us:List Value),us.length=ps.length->bindArgs (Ix x x (dM st) (cE st) (aJ st) .none kV U pm an Y ct) ⟨us,[]⟩=pure (ps.zip us)
theorem bd1{x p0:Str}(h:∀(kV U pm:Value) (an:Option Addr) (Y ct u0:Value),bindArgs (Ix x x (dM st) (cE st) (aJ st) .none kV U pm an Y ct) ⟨[u0],[]⟩=pure [(p0,u0)]):oH x [p0] st:=λkV U pm an Y ct us hl=>match us,hl with | [u0],_=>h kV U pm an Y ct u0
theorem bd2{x p0 p1:Str}(h:∀(kV U pm:Value) (an:Option Addr) (Y ct u0 u1:Value),bindArgs (Ix x x (dM st) (cE st) (aJ st) .none kV U pm an Y ct) ⟨[u0,u1],[]⟩=pure [(p0,u0),(p1,u1)]):oH x [p0,p1] st:=λkV U pm an Y ct us hl=>match us,hl with | [u0,u1],_=>h kV U pm an Y ct u0 u1
theorem bd3{x p0 p1 p2:Str}(h:∀(kV U pm:Value) (an:Option Addr) (Y ct u0 u1 u2:Value),bindArgs (Ix x x (dM st) (cE st) (aJ st) .none kV U pm an Y ct) ⟨[u0,u1,u2],[]⟩=pure [(p0,u0),(p1,u1),(p2,u2)]):oH x [p0,p1,p2] st:=λkV U pm an Y ct us hl=>match us,hl with | [u0,u1,u2],_=>h kV U pm an Y ct u0 u1 u2
theorem bd4{x p0 p1 p2 p3:Str}(h:∀(kV U pm:Value) (an:Option Addr) (Y ct u0 u1 u2 u3:Value),bindArgs (Ix x x (dM st) (cE st) (aJ st) .none kV U pm an Y ct) ⟨[u0,u1,u2,u3],[]⟩=pure [(p0,u0),(p1,u1),(p2,u2),(p3,u3)]):oH x [p0,p1,p2,p3] st:=λkV U pm an Y ct us hl=>match us,hl with | [u0,u1,u2,u3],_=>h kV U pm an Y ct u0 u1 u2 u3
theorem bN {x:Str} {N ps:List Str} {m:SM} (F:FA e x st) (S:a0 N ps (aJ st)) (hn:N.length=n) (hk:32<=k) (hb:oH x ps st)
 (hm:∀(f:Addr) (U:Value) (A:Around) (outer:List Env) (s:Shared) (H:Hp) (E:XK),dk k (A.deeper (envOfC x (aJ st) s.heap.objs.size f U))->(A.deeper (envOfC x (aJ st) s.heap.objs.size f U)).units+64<cLine->(A.deeper (envOfC x (aJ st) s.heap.objs.size f U)).depth+100<recursionLimit->
  ∃t,PSs (lr (CXE e.P e.w) e.P e.w e.K e.mg e.base N x (aJ st) f U A outer s H E).nox (cE st) t/\RdS ⟨e.K,e.ca,W0⟩ t m):DIn e (k+1) x ps (runM n m):=by
 obtain⟨a,fd,F,hg⟩:=F
 exact⟨a,fd,qp F S hn λU A outer s H E Y=>hm a U A outer s H E Y Y.units (mG Y hk),hg,F.kp,F.binds hb⟩
theorem Kz {x:Str} {N ps:List Str} {m:SM} (F:FA e x st) (S:a0 N ps (aJ st)) (hn:N.length=n) (hk:32<=k) (hb:oH x ps st)
 (hm:∀(f:Addr) (U:Value) (A:Around) (outer:List Env) (s:Shared) (H:Hp) (E:XK),dk k (A.deeper (envOfC x (aJ st) s.heap.objs.size f U))->(A.deeper (envOfC x (aJ st) s.heap.objs.size f U)).units+64<cLine->(A.deeper (envOfC x (aJ st) s.heap.objs.size f U)).depth+100<recursionLimit->
  ∃t,PSs (lr (CXE e.P e.w) e.P e.w e.K e.mg e.base N x (aJ st) f U A outer s H E) (cE st) t/\RdS ⟨e.K,e.ca,WE e.ca E⟩ t m):DIn e (k+1) x ps (lN n m):=by
 obtain⟨a,fd,F,hg⟩:=F
 exact⟨a,fd,uA F S hn λU A outer s H E Y=>hm a U A outer s H E Y Y.units (mG Y hk),hg,F.kp,F.binds hb⟩
theorem J4 {x:Str} {N ps:List Str} {k n:Nat} {m:SM} (F:FA e x st) (S:a0 N ps (aJ st)) (hn:N.length=n) (hb:oH x ps st)
 (hm:∀(f:Addr) (U:Value) (A:Around) (outer:List Env) (s:Shared) (H:Hp) (E:XK),fZ k (A.deeper (envOfC x (aJ st) s.heap.objs.size f U))->(A.deeper (envOfC x (aJ st) s.heap.objs.size f U)).units+64<cLine->
  ∃t,PSs (rk (CXE e.P e.w) e.P e.w e.K e.mg e.base N x (aJ st) f U A outer s H E).nox (cE st) t/\RdS ⟨e.K,e.ca,W0⟩ t m):Mw e (k+1) x ps (runM n m):=by
 obtain⟨a,fd,F,hg⟩:=F
 exact⟨a,fd,Ks F S hn λU A outer s H E Y=>hm a U A outer s H E Y Y.units,hg,F.kp,F.binds hb⟩
def G1(X:Cx)(P:Program)(w:World)(K:sB)(mg:Str->Option Value)(base:Heap):Prop:=X.prog=P/\X.w=w/\X.K=K/\X.mg=mg/\X.base=base
theorem cB{N P:List Str}{sc:Scope}(U:N.Nodup:=by decide +kernel)(Y:N.take P.length=P:=by rfl)(h6:∀x∈P,sc.names.lookup x=some .local\/sc.names.lookup x=some .cell:=by decide +kernel)(h7:∀y∈sc.names,y.2≠ .free:=by decide +kernel)(h1:sc.kind=.function:=by rfl)(h2:sc.isCoroutine=false:=by rfl)(h3:sc.isGenerator=false:=by rfl):a0 N P sc:=⟨h1,h2,h3,U,Y,h6,h7⟩
theorem ndL(a b:List Str)(h:(a++b).Nodup:=by decide +kernel):(a++b).Nodup:=h
theorem scC{X:Cx}{scope:Scope}{own cap:List Str}{caps:List Nat}(U:k9 X scope cap caps)(h1:scope.kind=.function:=by rfl)(h2:∀y∈scope.names,y.2=.cell->scope.names.lookup y.1=some .cell:=by decide +kernel)(Y:∀y∈scope.names,y.2=.local->scope.names.lookup y.1=some .local:=by decide +kernel)(h4:∀y∈scope.names,y.2=.free->y.1∈cap:=by decide +kernel)(h6:(own++cap).Nodup:=by decide +kernel):mX X scope own cap caps:=⟨h1,h2,Y,h4,U,h6⟩
section
variable {X : Cx} {P : Program} {w : World} {K : sB} {mg : Str → Option Value} {base : Heap} {ca : Nat → Addr} {k j : Nat} {x : Str} {ps : List Str} {f : FM} {e : Expr} {es : List Expr} {t : TA} {p pos : Pos} {Es : L2.St → XK}
theorem aO(D:DE P w K mg base ca k x ps f)(hr:dk j X.A)(ha:PA X (e::es) t)(hj:k<=j:=by decide)(hX:G1 X P w K mg base:=by exact⟨rfl,rfl,rfl,rfl,rfl⟩)(hg:Gl X x:=by rfl)(U:(x == ("__debug__" :Str))=false:=by decide)(he:starEach (e::es) X.env=(false,eval e X.env)::starEach es X.env:=by rfl)(Y:(backTo pos (starEach es X.env)).any (·.1)=false:=by rfl):
 PE X (.Call (.Name x p) (e::es) [] pos) (nG (spM K ca ps.length f) [] E0 t):=by
 obtain⟨rfl,rfl,rfl,rfl,rfl⟩:=hX
 obtain⟨a,fd,G,m,k,b⟩:=D
 exact K3 G (hr.mono hj) hg m k b .nil rV ha U he Y
theorem Fm(D:DE P w K mg base ca k x ps f)(hr:dk j X.A)(hx:mj (CXE P w) X Es)(ha:PA X (e::es) t)(hj:k<=j:=by decide)(hX:G1 X P w K mg base:=by exact⟨rfl,rfl,rfl,rfl,rfl⟩)(hg:Gl X x:=by rfl)(U:(x == ("__debug__" :Str))=false:=by decide)(he:starEach (e::es) X.env=(false,eval e X.env)::starEach es X.env:=by rfl)(Y:(backTo pos (starEach es X.env)).any (·.1)=false:=by rfl):
 PE X (.Call (.Name x p) (e::es) [] pos) (AA (spM K ca ps.length f) [] Es t):=by
 obtain⟨rfl,rfl,rfl,rfl,rfl⟩:=hX
 obtain⟨a,fd,G,m,k,b⟩:=D
 exact HP G (hr.mono hj) hg m k b .nil hx ha U he Y
theorem yU(D:EX P w K mg base ca k x ps f)(hr:fZ k X.A)(ha:PA X (e::es) t)(hX:G1 X P w K mg base:=by exact⟨rfl,rfl,rfl,rfl,rfl⟩)(hg:Gl X x:=by rfl)(U:(x == ("__debug__" :Str))=false:=by decide)(he:starEach (e::es) X.env=(false,eval e X.env)::starEach es X.env:=by rfl)(Y:(backTo pos (starEach es X.env)).any (·.1)=false:=by rfl):
 PE X (.Call (.Name x p) (e::es) [] pos) (nG (spM K ca ps.length f) [] E0 t):=by
 obtain⟨rfl,rfl,rfl,rfl,rfl⟩:=hX
 obtain⟨a,fd,G,m,k,b⟩:=D
 exact Ib G hr hg m k b .nil rV ha U he Y
end
section
variable {C : Ct}
def rC(me U:EM):EM:=λs=>(me s).bind λx=>(U x.2).bind λy=>match pA y.2.o x.1 with
 | some []=>.ok (y.1,y.2)
 | some (n::ns)=>.ok (.int (p8 n ns),y.2)
 | _=>.bad
theorem Lg{te td:TE}{me md:EM}(he:RdE C te me)(hd:RdE C td md):RdE C (IT C.K te td) (rC me md):=by
 intro σ H F θ s Q b p
 refine he σ H F θ s _ b (PoR.bind p ?_)
 rintro ⟨x,s1⟩ H1 F1 θ1 _ ap p1 b1 v r1
 refine hd σ H1 F1 θ1 s1 _ b1 (PoR.bind p1 ?_)
 rintro ⟨y,s2⟩ H2 F2 θ2 _ U p2 Y w r2
 dsimp only at p2 Y r1 r2
 split at p2
 ·rename_i e
  obtain⟨a,rfl,hs⟩:=tQ Y (r1.mono U.ff U.pre) e
  exact⟨a,[],rfl,hs,λ_=>p2 _ _ _ .refl Y _ r2,λh=>absurd h (by simp)⟩
 ·rename_i n ns e
  obtain⟨a,rfl,hs⟩:=tQ Y (r1.mono U.ff U.pre) e
  refine⟨a,n::ns,rfl,hs,λh=>absurd h (by simp),λ_ m hm hl=> ?_⟩
  have e1:m=p8 n ns:=by
   have h1:=hl _ (vf ns n)
   have h2:=xZ ns n
   rcases wT.mp hm with rfl | hm
   ·omega
   ·have:=h2.2 m hm;omega
  rw[e1]
  exact p2 _ _ _ .refl Y _ (bg.mpr rfl)
 ·exact ss p2
end
section
variable {C : Ct}
end
@[simp] theorem NO (ds:List D) (O:aB):okC ds none O=True:=rfl
@[simp] theorem N6 (ds:List D) (k:Nat) (O:aB):okC ds (some k) O=(O[k]? =some (.lst ds)):=rfl
theorem Dg(h:i.natAbs<2^n):Builtin.Int.intBits i<=n:=by
 unfold Builtin.Int.intBits
 split
 ·exact Ph _
 ·rename_i h0
  have hp:i.natAbs≠0:=by
   intro z
   apply h0
   simpa using z
  have:=(Nat.log2_lt hp).mpr h
  omega
def Sz(n:Nat)(i:Int):Prop:=i.natAbs<2^n
theorem Sz.mono{m n:Nat}(h:Sz m i)(U:m<=n):Sz n i:=AT h (QN (by decide) U)
theorem iF{m n:Nat}(hm:m<=60000000)(hn:n<=60000000)(h:Sz m i)(h':Sz n j):IntMulOk i j:=by
 have h1:=Dg h
 have h2:=Dg h'
 have e:Builtin.Int.intTooBig (Builtin.Int.intBits i+Builtin.Int.intBits j)=false:=by
  unfold Builtin.Int.intTooBig
  rw[bitsLine_eq]
  exact decide_eq_false (by omega)
 unfold IntMulOk
 rw[e]
 simp
theorem dS(h:i.natAbs<2^64\/j.natAbs<2^64):IntMulOk i j:=by
 rcases h with h | h
 ·exact .of_left (intBits_le_64 (by omega) (by omega))
 ·exact .of_right (intBits_le_64 (by omega) (by omega))
theorem Sz.mul{m n:Nat}(h:Sz m i)(h':Sz n j):Sz (m+n) (i*j):=by
 unfold Sz at *
 rw[Rq,Nat.pow_add]
 exact Nat.mul_lt_mul'' h h'
theorem Sz.add{m n:Nat}(h:Sz m i)(h':Sz n j):Sz (max m n+1) (i+j):=by
 unfold Sz at *
 have h1:=AT h (QN (by decide) (Nat.le_max_left m n))
 have h2:=AT h' (QN (by decide) (Nat.le_max_right m n))
 have U:(i+j).natAbs<=i.natAbs+j.natAbs:=SD i j
 rw[Nat.pow_succ]
 omega
theorem vK(h:0<j):i.fdiv j=i/j:=Rw i (Sn h)
theorem G4(h:0<j):i.fmod j=i%j:=Int.fmod_eq_emod_of_nonneg i (Sn h)
section
variable {O : aB}
@[simp] theorem kb (i j:Int):gX O (.int i) (.int j)=.ok (.int (i-j)):=rfl
@[simp] theorem bV (i j:Int):bf O (.int i) (.int j)=.ok (.int (i+j)):=rfl
@[simp] theorem NS (i j:Int):NZ O (.int i) (.int j)=.ok (.int (i+j)):=rfl
@[simp] theorem iP (i j:Int):ltD O (.int i) (.int j)=.ok (.bl (decide (i<j))):=rfl
@[simp] theorem OE (i j:Int):leD O (.int i) (.int j)=.ok (.bl (decide (i<=j))):=rfl
@[simp] theorem xJ (i j:Int):gtD O (.int i) (.int j)=.ok (.bl (decide (j<i))):=rfl
@[simp] theorem Ka (i j:Int):geD O (.int i) (.int j)=.ok (.bl (decide (j<=i))):=rfl
@[simp] theorem oV (i:Int):je O (.int i)=.ok (.int (-i)):=rfl
@[simp] theorem lW (i j:Int):eqD O (.int i) (.int j)=.ok (.bl (decide (i=j))):=rfl
@[simp] theorem qk (i j:Int):neD O (.int i) (.int j)=.ok (.bl (!decide (i=j))):=rfl
@[simp] theorem Dv (i j:Str):eqD O (.str i) (.str j)=.ok (.bl (decide (i=j))):=rfl
@[simp] theorem xG (i j:Str):neD O (.str i) (.str j)=.ok (.bl (!decide (i=j))):=rfl
@[simp] theorem EV (i j:Bool):eqD O (.bl i) (.bl j)=.ok (.bl (decide (i=j))):=rfl
@[simp] theorem OK (i j:Bool):neD O (.bl i) (.bl j)=.ok (.bl (!decide (i=j))):=rfl
theorem cC(h:IntMulOk i j):bR O (.int i) (.int j)=.ok (.int (i*j)):=if_pos h
theorem mW(h:j≠0):gw O (.int i) (.int j)=.ok (.int (i.fdiv j)):=if_pos h
theorem uN(h:0<j)(h2:j<1073741824):gw O (.int i) (.int j)=.ok (.int (i/j)):=by
 rw[mW (by omega),vK h]
theorem eO(h:0<j):eM O (.int i) (.int j)=.ok (.int (i%j)):=by
 rw[<- G4 h];exact if_pos (by omega)
theorem Bm(h:0<=j)(h2:j<=1000000)(U:i.natAbs<2^64):mn O (.int i) (.int j)=.ok (.int (i^j.toNat)):=if_pos ⟨h,h2,U⟩
@[simp] theorem N5 (i:Int):vT O [.int i]=.ok (.int (i.natAbs:Int)):=by
 show Res.ok (D.int (if i<0 then -i else i))=_
 congr 2
 split <;> omega
@[simp] theorem fQ (ds:List D):bE O [.lst ds]=.ok (.int ds.length):=rfl
@[simp] theorem NX (ds:List D):bE O [.tup ds]=.ok (.int ds.length):=rfl
theorem Bk{x:Str}(h:x.length<=16777216):bE O [.str x]=.ok (.int x.length):=if_pos h
@[simp] theorem jm (ds:List D):iD O [.lst ds]=.ok (.lst ds):=rfl
@[simp] theorem Nx (ds:List D):iD O [.tup ds]=.ok (.lst ds):=rfl
@[simp] theorem Nz (i:Int):intOf O [.int i]=.ok (.int i):=rfl
@[simp] theorem gW (b:Bool):intOf O [.bl b]=.ok (.int (if b then 1 else 0)):=rfl
@[simp] theorem Ov (c:String) (i:Int):lq c O (.int i)=.ok (.bl (fC "int" c)):=rfl
@[simp] theorem Mc (c:String) (i:Bool):lq c O (.bl i)=.ok (.bl (fC "bool" c)):=rfl
@[simp] theorem OC (c:String) (i:Str):lq c O (.str i)=.ok (.bl (fC "str" c)):=rfl
@[simp] theorem KQ (c:String) (i:List D):lq c O (.lst i)=.ok (.bl (fC "list" c)):=rfl
@[simp] theorem Oe (c:String) (i:List D):lq c O (.tup i)=.ok (.bl (fC "tuple" c)):=rfl
@[simp] theorem Ot (c:String):lq c O .non=.ok (.bl (fC "NoneType" c)):=rfl
@[simp] theorem OZ:fC "int" "int" =true:=by decide
@[simp] theorem OR:fC "int" "bool" =false:=by decide
@[simp] theorem OJ:fC "bool" "bool" =true:=by decide
@[simp] theorem ON:fC "bool" "int" =true:=by decide
@[simp] theorem O6:fC "list" "list" =true:=by decide
@[simp] theorem sub_tt:fC "tuple" "tuple" =true:=by decide
@[simp] theorem sub_lt:fC "list" "tuple" =false:=by decide
@[simp] theorem OI:fC "tuple" "list" =false:=by decide
@[simp] theorem OX:fC "str" "int" =false:=by decide
@[simp] theorem OQ:fC "NoneType" "int" =false:=by decide
theorem nY(h:atI ds i=some d):ixD O (.lst ds) (.int i)=.ok d:=by
 show (match lsD O (D.lst ds) with
  | some ds=>match atI ds i with
   | some d=>Res.ok d
   | none=>.bad
  | none=>.bad)=_
 rw[kr]
 dsimp only
 rw[h]
theorem Dj(h:atI ds i=some d):ixD O (.tup ds) (.int i)=.ok d:=by
 show (
  match atI ds i with
  | some d=>Res.ok d
  | none=>.bad)=_
 rw[h]
theorem oQ{α:Type}{l:List α}(h0:0<=i)(h1:i<l.length):atI l i=some (l[i.toNat]'(by omega)):=by
 unfold atI ixN
 rw[if_pos h0,if_pos h1]
 show l[i.toNat]? =_
 exact uX _
theorem qZ:∀ns:List Int,jZ (ns.map D.int)=some (ns.map PyData.int)
 | []=>by simp[jZ]
 | n::ns=>by simp[jZ,toPy,qZ ns]
theorem ph:∀ns:List Int,bM O (ns.map D.int)=ns.map D.int
 | []=>by simp[bM]
 | n::ns=>by simp[bM,res,ph ns]
theorem pJ:∀ns:List Int,PyData.canLayAll0 (ns.map PyData.int)=true
 | []=>by simp[PyData.canLayAll0]
 | n::ns=>by simp[PyData.canLayAll0,PyData.canLay0,pJ ns]
theorem qG:∀ns:List Int,PyData.depthAll (ns.map PyData.int)=0
 | []=>by simp[PyData.depthAll]
 | n::ns=>by simp[PyData.depthAll,PyData.depth,qG ns]
theorem shaped_ints(ns:List Int):SeqAt.shaped (.list (ns.map PyData.int))=true:=by
 simp[SeqAt.shaped,PyData.canLay0,pJ,PyData.depth,qG]
theorem u9:∀ns ms:List Int,PyData.eqvAll (ns.map PyData.int) (ms.map PyData.int)=decide (ns=ms)
 | [],[]=>by simp[PyData.eqvAll]
 | [],_::_=>by simp[PyData.eqvAll]
 | _::_,[]=>by simp[PyData.eqvAll]
 | a::r,b::t=>by
  simp only[AC,PyData.eqvAll,PyData.eqv,u9 r t]
  by_cases h:a=b <;> by_cases h':r=t <;> simp[h,h']
theorem BI(ns ms:List Int):eqB O (.lst (ns.map D.int)) (.lst (ms.map D.int))=some (decide (ns=ms)):=by
 show jT O _ _=_
 unfold jT
 simp only[res,ph,toPy,qZ,PN]
 rw[if_pos ⟨shaped_ints ns,shaped_ints ms⟩]
 simp only[PyData.eqv,u9]
@[simp] theorem GH (ns ms:List Int):eqD O (.lst (ns.map D.int)) (.lst (ms.map D.int))=.ok (.bl (decide (ns=ms))):=by unfold eqD;rw[BI]
@[simp] theorem Hd (ns ms:List Int):neD O (.lst (ns.map D.int)) (.lst (ms.map D.int))=.ok (.bl (!decide (ns=ms))):=by unfold neD;rw[BI]
theorem tI:∀ns:List Int,aM (ns.map D.int)=true
 | []=>by simp[aM]
 | n::ns=>by simp[aM,cz,tI ns]
@[simp] theorem Np (ns:List Int):cz (.lst (ns.map D.int))=true:=by simp[cz,tI]
end
noncomputable def ue:SM:=aR (setM 2 (aq eM (aa 0) (aa 1))) (aR (setM 0 (aa 1)) (setM 1 (aa 2)))
theorem GG{a b:Int}{x:Option D}(hb:0<b):ue ⟨[some (.int a),some (.int b),x],O⟩=.next ⟨[some (.int b),some (.int (a%b)),some (.int (a%b))],O⟩:=by
 simp[ue,aR,setM,kc,aF,aq,aa,eO hb]
theorem yx{c:TM}(hc:∀(a b:Int) x O,0<=b->c ⟨[some (.int a),some (.int b),x],O⟩=.ok (decide (b≠0),⟨[some (.int a),some (.int b),x],O⟩)):
 ∀(n:Nat) (a b:Int) x O,0<=a->0<=b->b.natAbs<n->∃y,kv c ue n ⟨[some (.int a),some (.int b),x],O⟩=.next ⟨[some (.int (Qv a.natAbs b.natAbs:Nat)),some (.int 0),y],O⟩
 | 0,_,_,_,_,_,_,h=>by omega
 | n+1,a,b,x,O,ha,hb,hn=>by
  rw[kv,hc a b x O hb,jQ]
  by_cases h:b=0
  ·subst h
   refine⟨x, ?_⟩
   have e:((Qv a.natAbs (0:Int).natAbs:Nat):Int)=a:=by
    rw[Int.natAbs_zero,Nat.gcd_zero_right]
    omega
   rw[e]
   simp
  ·have hb':0<b:=by omega
   have h1:0<=a%b:=PV a h
   have h2:a%b<b:=PD a hb'
   obtain⟨y,e⟩:=yx hc n b (a%b) (some (.int (a%b))) O hb h1 (by omega)
   refine⟨y, ?_⟩
   simp only[h,ne_eq,not_false_eq_true,decide_true,if_true,GG hb']
   rw[e]
   have e2:(a%b).natAbs=a.natAbs%b.natAbs:=by
    have:((a%b).natAbs:Int)=((a.natAbs%b.natAbs:Nat):Int):=by
     rw[Rb h1,Int.natCast_emod,Rb ha,Rb hb]
    omega
   rw[e2,<- Nat.gcd_rec' a.natAbs b.natAbs]
where Nat.gcd_rec' (m n:Nat):Qv m n=Qv n (m%n):=by
        rw[Nat.gcd_comm m n,Nat.gcd_rec n m,Nat.gcd_comm]
noncomputable def D0:SM:=aR (setM 0 (aX vT (af (aa 0) ao))) (aR (setM 1 (aX vT (af (aa 1) ao))) (aR (wj (λs=>xR 1 s) (a7 (aq neD (aa 1) (ar (.int 0)))) ue) (bS (aa 0))))
theorem HU(a b:Int)(O:aB):∃s,D0 ⟨[some (.int a),some (.int b),none],O⟩=.ret (.int (Pc a b:Nat)) s/\s.o=O:=by
 obtain⟨y,e⟩:=yx (c:=a7 (aq neD (aa 1) (ar (.int 0)))) (λa b x O h=>by simp[a7,aq,aa,ar]) (b.natAbs+1) (a.natAbs:Int) (b.natAbs:Int) none O (by omega) (by omega) (by omega)
 refine⟨⟨[some (.int (Pc a b:Nat)),some (.int 0),y],O⟩, ?_,rfl⟩
 simp only[P6] at e
 simp[D0,aR,setM,kc,aF,aX,af,ao,aa,wj,xR,e,bS,Pc]
theorem dQ{m:SM}(h:m ⟨ds.map some++tz (n-ds.length) none,O⟩=.ret d s):runM n m ds O=.ok (d,s.o):=by
 unfold runM;rw[h]
theorem FV(a b:Int):runM 3 D0 [.int a,.int b] []=.ok (.int (Pc a b:Nat),[]):=by
 obtain⟨s,e,U⟩:=HU a b []
 rw[dQ (s:=s) (by exact e),U]
def cX(ns:List Int):Nat:=ns.foldl (λc n=>Qv c n.natAbs) 0
theorem r8:∀(ns:List Int) (c:Nat),ns.foldl (λc n=>Qv c n.natAbs) c ∣ c/\∀n∈ns,ns.foldl (λc n=>Qv c n.natAbs) c ∣ n.natAbs
 | [],c=>⟨Nat.dvd_refl _,by simp⟩
 | m::ns,c=>by
  obtain⟨h1,h2⟩:=r8 ns (Qv c m.natAbs)
  rw[Qp]
  refine⟨Ta h1 (Nat.gcd_dvd_left _ _),λn hn=> ?_⟩
  rcases wT.mp hn with rfl | hn
  ·exact Ta h1 (Nat.gcd_dvd_right _ _)
  ·exact h2 n hn
theorem AX{ns:List Int}{n:Int}(h:n∈ns):((cX ns:Nat):Int) ∣ n:=Q8.mp (by rw[P6];exact(r8 ns 0).2 n h)
theorem sj(g:Nat)(U:0<g):∀(ns:List Int) (c:Nat),g ∣ c->(∀n∈ns,(g:Int) ∣ n)->
 (ns.map (· / (g:Int))).foldl (λc n=>Qv c n.natAbs) (c/g)=ns.foldl (λc n=>Qv c n.natAbs) c/g
 | [],c,_,_=>rfl
 | m::ns,c,hc,h=>by
  have hm:g ∣ m.natAbs:=by
   have:=Q8.mpr (h m wv)
   rwa [P6] at this
  have e:(m/(g:Int)).natAbs=m.natAbs/g:=by
   obtain⟨k,rfl⟩:=h m wv
   rw[Int.mul_ediv_cancel_left _ (by omega:(g:Int)≠0),Rq,P6,Nat.mul_div_cancel_left _ U]
  rw[AC,Qp,Qp,e,Nat.gcd_div hc hm]
  exact sj g U ns _ (Nat.dvd_gcd hc hm) λn hn=>h n (wh _ hn)
theorem Io{ns:List Int}(h:0<cX ns):cX (ns.map (· / (cX ns:Int)))=1:=by
 have:=sj (cX ns) h ns 0 (Nat.dvd_zero _) λn hn=>AX hn
 rw[Nat.zero_div] at this
 rw[show cX (ns.map (· / (cX ns:Int)))=(ns.map (· / (cX ns:Int))).foldl (λc n=>Qv c n.natAbs) 0 from rfl,this]
 exact Nat.div_self h
section
variable {s s1 : S} {d : D}
@[simp] theorem ag {i:Nat} (h:s.r[i]? =some (some d)):aa i s=.ok (d,s):=by unfold aa;rw[h]
@[simp] theorem ay (d:D) (s:S):ar d s=.ok (d,s):=rfl
@[simp] theorem eU (f:Op2) (a b:EM) (s:S):aq f a b s=(a s).bind λx=>(b x.2).bind λy=>(f y.2.o x.1 y.1).bind λd=>.ok (d,y.2):=rfl
@[simp] theorem Mq (f:Op1) (a:EM) (s:S):unM f a s=(a s).bind λx=>(f x.2.o x.1).bind λd=>.ok (d,x.2):=rfl
@[simp] theorem aA (s:S):ao s=.ok ([],s):=rfl
@[simp] theorem a8 (m:EM) (r:AM) (s:S):af m r s=(m s).bind λx=>(r x.2).bind λy=>.ok (x.1::y.1,y.2):=rfl
@[simp] theorem iV (f:OpN) (m:AM) (s:S):aX f m s=(m s).bind λx=>(f x.2.o x.1).bind λd=>.ok (d,x.2):=rfl
@[simp] theorem Dk (m:AM) (s:S):lI m s=(m s).bind λx=>if x.1.length<=16777216 then .ok (.tup x.1,x.2) else .bad:=rfl
@[simp] theorem KD (m:AM) (s:S):dI m s=(m s).bind λx=>if x.1.length<=16777216 then .ok (.lst x.1,x.2) else .bad:=rfl
@[simp] theorem JY (m:AM) (s:S):jf m s=(m s).bind λx=>if x.1.length<=16777216 then .ok (.ptr x.2.o.length,⟨x.2.r,x.2.o++[.lst x.1]⟩) else .bad:=rfl
@[simp] theorem iq (m:EM) (s:S):a7 m s=(m s).bind λx=>match x.1 with
 | .bl b=>.ok (b,x.2)
 | _=>.bad:=rfl
@[simp] theorem yf (a b:TM) (s:S):jM a b s=(a s).bind λx=>if x.1 then b x.2 else .ok (false,x.2):=rfl
@[simp] theorem Bb (a b:TM) (s:S):orT a b s=(a s).bind λx=>if x.1 then .ok (true,x.2) else b x.2:=rfl
@[simp] theorem xq (a:TM) (s:S):nD a s=(a s).bind λx=>.ok (!x.1,x.2):=rfl
@[simp] theorem Oq (a b:EM) (s:S):Ie a b s=(a s).bind λx=>match x.1 with
 | .bl true=>b x.2
 | .bl false=>.ok (.bl false,x.2)
 | _=>.bad:=rfl
@[simp] theorem OS (a b:EM) (s:S):orV a b s=(a s).bind λx=>match x.1 with
 | .bl true=>.ok (.bl true,x.2)
 | .bl false=>b x.2
 | _=>.bad:=rfl
@[simp] theorem Ox (a:EM) (s:S):GK a s=(a s).bind λx=>match x.1 with
 | .bl k=>.ok (.bl (!k),x.2)
 | _=>.bad:=rfl
@[simp] theorem uw (a b:SM) (s:S):aR a b s=(a s).then b:=rfl
@[simp] theorem bC (s:S):bI s=.next s:=rfl
@[simp] theorem NI (m:EM) (s:S):cP m s=(m s).out λx=>.next x.2:=rfl
@[simp] theorem OA (m:EM) (s:S):bS m s=(m s).out λx=>.ret x.1 x.2:=rfl
@[simp] theorem Od (s:S):NU s=.ret .non s:=rfl
@[simp] theorem OO (c:TM) (a b:SM) (s:S):ifS c a b s=(c s).out λx=>if x.1 then a x.2 else b x.2:=rfl
@[simp] theorem OP (c:TM) (a b:EM) (s:S):ifM c a b s=(c s).bind λx=>if x.1 then a x.2 else b x.2:=rfl
@[simp] theorem Hk (i:Nat) (d:D) (s:S):aF i d s=.ok ⟨s.r.set i (some d),s.o⟩:=rfl
@[simp] theorem CG (m:EM) (g:GM) (s:S):kc m g s=((m s).bind λx=>g x.1 x.2).out λs=>.next s:=rfl
@[simp] theorem Oj (i:Nat) (f:Op2) (m:EM) (s:S):NY i f m s=kc (aq f (aa i) m) (aF i) s:=rfl
@[simp] theorem GS (s:S):bj s=.ok (true,s):=rfl
@[simp] theorem FJ (s:S):fE s=.ok (none,s):=rfl
@[simp] theorem CD (m:EM) (s:S):part m s=(m s).bind λx=>match x.1 with
 | .int i=>.ok (some i,x.2)
 | _=>.bad:=rfl
@[simp] theorem Er (me:EM) (U Y:OM) (s:S):slM me U Y s=(me s).bind λx=>(U x.2).bind λl=>(Y l.2).bind λh=>match lsD h.2.o x.1 with
 | some ds=>.ok (.lst (cutD ds l.1 h.1),h.2)
 | none=>.bad:=rfl
@[simp] theorem cv (m:EM) (s:S):listI m s=(m s).bind λx=>(itemsOf x.2.o x.1).bind λy=>.ok (y,x.2):=rfl
@[simp] theorem M3 (O:aB) (ds:List D):itemsOf O (.lst ds)=.ok (ds,none):=rfl
theorem JK(im:IM)(g:GM)(body:SM)(s:S):fS im g body s=(im s).out λy=>cD (okC y.1.1 y.1.2) g body y.1.1 y.2:=rfl
theorem vE(m:Nat)(caps:List Nat)(im:IM)(g:GM)(c:TM)(e:EM)(s:S):jX m caps im g c e s=(im s).bind λy=>
 (dZ (okC y.1.1 y.1.2) g c e y.1.1 [] ⟨m8 m caps y.2.r,y.2.o⟩).bind λz=>.ok (z.1,⟨y.2.r,z.2.o⟩):=rfl
theorem o5(m:Nat)(caps:List Nat)(im:IM)(g:GM)(c:TM)(e:EM)(s:S):bx m caps im g c e s=(jX m caps im g c e s).bind λy=>.ok (.lst y.1,y.2):=rfl
theorem AJ(m:Nat)(caps:List Nat)(im:IM)(g:GM)(c:TM)(e:EM)(s:S):g9 m caps im g c e s=(jX m caps im g c e s).bind λy=>.ok (.ptr y.2.o.length,⟨y.2.r,y.2.o++[.lst y.1]⟩):=rfl
@[simp] theorem Iw (n:Nat) (f:FM) (m:AM) (s:S):aN n f m s=(m s).bind λx=>if aM x.1=true/\x.1.length=n then (match f x.1 [] with
 | .ok (d,_)=>if cz d=true then .ok (d,x.2) else .bad
 | _=>.bad) else .bad:=rfl
@[simp] theorem HS (n:Nat) (f:FM) (m:AM) (s:S):fe n f m s=(m s).bind λx=>if aM x.1=true/\x.1.length=n then (match f x.1 [] with
 | .ok (d,O1)=>.ok (shD x.2.o.length d,⟨x.2.r,x.2.o++O1.map (shC x.2.o.length)⟩)
 | _=>.bad) else .bad:=rfl
@[simp] theorem N7 (n:Nat) (f:FM) (m:AM) (s:S):fL n f m s=(m s).bind λx=>if aM (bM x.2.o (bM x.2.o x.1))=true/\x.1.length=n then (match f (bM x.2.o (bM x.2.o x.1)) [] with
 | .ok (d,_)=>if nM d=true then .ok (d,x.2) else .bad
 | _=>.bad) else .bad:=rfl
@[simp] theorem GB (m:EM) (s:S):zL m s=(m s).bind λx=>match ug x.2.o x.1 with
 | some ds=>.ok (.ptr x.2.o.length,⟨x.2.r,x.2.o++[.lst ds]⟩)
 | none=>.bad:=rfl
@[simp] theorem Kk (m:EM) (s:S):gy m s=(m s).bind λx=>match gz x.2.o x.1 with
 | some (k,ds)=>.ok (.lst ds,⟨x.2.r,x.2.o.set k .dead⟩)
 | none=>.bad:=rfl
@[simp] theorem JS (mo me:EM) (s:S):gU mo me s=(mo s).bind λx=>match gz x.2.o x.1 with
 | some _=>(me x.2).bind λy=>match gz y.2.o x.1 with
  | some (k,ds)=>if ds.length<16777216 then .ok (.non,⟨y.2.r,y.2.o.set k (.lst (ds++[y.1]))⟩) else .bad
  | none=>.bad
 | none=>.bad:=rfl
@[simp] theorem kD (h:O[k]? =some (.lst ds)):lsD O (.ptr k)=some ds:=by unfold lsD;simp only[h]
@[simp] theorem oz (h:O[k]? =some (.lst ds)):gz O (.ptr k)=some (k,ds):=by unfold gz;simp only[h]
@[simp] theorem Fh (O:aB) (ds:List D):ug O (.lst ds)=some ds:=rfl
@[simp] theorem Nv (O:aB) (ds:List D):ug O (.tup ds)=some ds:=rfl
@[simp] theorem Nw (h:O[k]? =some (.lst ds)):ug O (.ptr k)=some ds:=by show lsD O (.ptr k)=_;exact kD h
@[simp] theorem B3 (h:O[k]? =some (.lst ds)):itemsOf O (.ptr k)=.ok (ds,some k):=by unfold itemsOf;simp only[h]
@[simp] theorem iU (n k:Nat):shD n (.ptr k)=.ptr (n+k):=by unfold shD;rfl
@[simp] theorem DT:aM []=true:=by unfold aM;rfl
@[simp] theorem eK (d:D) (ds:List D):aM (d::ds)=(cz d&&aM ds):=by conv=>lhs;unfold aM
@[simp] theorem yi (i:Int):cz (.int i)=true:=by unfold cz;rfl
@[simp] theorem NH (i:Bool):cz (.bl i)=true:=by unfold cz;rfl
@[simp] theorem NB (i:Str):cz (.str i)=true:=by unfold cz;rfl
@[simp] theorem NA:cz .non=true:=by unfold cz;rfl
@[simp] theorem jv (ds:List D):cz (.lst ds)=aM ds:=by conv=>lhs;unfold cz
@[simp] theorem ND (ds:List D):cz (.tup ds)=aM ds:=by conv=>lhs;unfold cz
@[simp] theorem B4 (ns:List Int):aM (ns.map D.int)=true:=tI ns
@[simp] theorem JP (O:aB) (i:Int):res O (.int i)=.int i:=by unfold res;rfl
@[simp] theorem OL (O:aB) (i:Bool):res O (.bl i)=.bl i:=by unfold res;rfl
@[simp] theorem Of (O:aB) (i:Str):res O (.str i)=.str i:=by unfold res;rfl
@[simp] theorem Oa (O:aB):res O .non=.non:=by unfold res;rfl
@[simp] theorem ky (O:aB) (ds:List D):res O (.lst ds)=.lst (bM O ds):=by conv=>lhs;unfold res
@[simp] theorem K1 (O:aB) (ds:List D):res O (.tup ds)=.tup (bM O ds):=by conv=>lhs;unfold res
@[simp] theorem lO (h:O[k]? =some (.lst ds)):res O (.ptr k)=.lst ds:=by conv=>lhs;unfold res;simp only[h]
@[simp] theorem kj (O:aB):bM O []=[]:=by unfold bM;rfl
@[simp] theorem jl (O:aB) (d:D) (ds:List D):bM O (d::ds)=res O d::bM O ds:=by conv=>lhs;unfold bM
@[simp] theorem jy (O:aB) (ns:List Int):bM O (ns.map D.int)=ns.map D.int:=ph ns
@[simp] theorem N1 (b:Bool):nM (.bl b)=true:=rfl
@[simp] theorem NC (b:Int):nM (.int b)=true:=rfl
@[simp] theorem Ny (b:Str):nM (.str b)=true:=rfl
@[simp] theorem Oh (h:O[k]? =some (.lst ds)) (c:String):lq c O (.ptr k)=.ok (.bl (fC "list" c)):=by
 unfold lq tyD;simp only[h]
@[simp] theorem kx (n:Nat):∀ns:List Int,fb n (ns.map D.int)=ns.map D.int
 | []=>by simp[fb]
 | m::ns=>by simp[fb,shD,kx n ns]
@[simp] theorem jG (n:Nat) (ds:List D):shC n (.lst ds)=.lst (fb n ds):=rfl
theorem CH{m:SM}{d:D}(h:∃s,m ⟨ds.map some++tz (n-ds.length) none,O⟩=.ret d s):∃O1,runM n m ds O=.ok (d,O1):=by
 obtain⟨s,h⟩:=h
 exact⟨s.o,dQ h⟩
end
mutual
theorem Iy{O:aB}:∀{d:D},cz d=true->res O d=d
 | .non,_=>by unfold res;rfl
 | .bl _,_=>by unfold res;rfl
 | .int _,_=>by unfold res;rfl
 | .str _,_=>by unfold res;rfl
 | .lst ds,h=>by rw[ky,pf (by simpa using h)]
 | .tup ds,h=>by rw[K1,pf (by simpa using h)]
 | .ptr _,h=>by unfold cz at h;cases h
 | .obj c ns ds,h=>by unfold res;rfl
 | .exn c,h=>by unfold res;rfl
theorem pf{O:aB}:∀{ds:List D},aM ds=true->bM O ds=ds
 | [],_=>kj O
 | d::ds,h=>by
  rw[eK,Po] at h
  rw[jl,Iy h.1,pf h.2]
end
theorem Dl(h:O[k]? =some (.lst ds))(hp:aM ds=true)(es:List D):eqB O (.ptr k) (.lst es)=eqB O (.lst ds) (.lst es):=by
 show jT O _ _=jT O _ _
 unfold jT
 simp only[lO h,ky,pf hp]
@[simp] theorem OB (h:O[k]? =some (.lst ds)) (hp:aM ds=true) (es:List D):eqD O (.ptr k) (.lst es)=eqD O (.lst ds) (.lst es):=by unfold eqD;rw[Dl h hp]
@[simp] theorem OD (h:O[k]? =some (.lst ds)) (hp:aM ds=true) (es:List D):neD O (.ptr k) (.lst es)=neD O (.lst ds) (.lst es):=by unfold neD;rw[Dl h hp]
theorem Ft{ms:List Int}:cutD (ms.map D.int) none (some (n:Int))=(ms.take n).map D.int:=by
 unfold cutD
 rw[HT.vt,HT.qv,Rr,So,ut,<- Sf]
 congr 1
 by_cases h:n<=ms.length
 ·rw[R3 h]
 ·rw[Nat.min_eq_right (by omega),Pu (wf _),Pu (by omega)]
def rat(a b:Int):Int×Int:=(a.fdiv (if b<0 then -(Pc a b:Int) else Pc a b),b.fdiv (if b<0 then -(Pc a b:Int) else Pc a b))
theorem Ii{a b:Int}(h:b≠0):∃g:Int,g≠0/\g.natAbs=Pc a b/\a=g*(rat a b).1/\b=g*(rat a b).2/\0<(rat a b).2/\Pc (rat a b).1 (rat a b).2=1:=by
 have Y:0<Pc a b:=Rs a h
 have ha:(Pc a b:Int) ∣ a:=Int.gcd_dvd_left a b
 have hb:(Pc a b:Int) ∣ b:=Int.gcd_dvd_right a b
 obtain⟨x,hx⟩:=ha
 obtain⟨y,hy⟩:=hb
 have one:Pc x y=1:=by
  have e:Pc a b=Pc a b*Pc x y:=by
   have U:Pc ((Pc a b:Int)*x) ((Pc a b:Int)*y)=Pc a b*Pc x y:=by rw[Int.gcd_mul_left,P6]
   rw[<- hx,<- hy] at U
   exact U
  have:Pc a b*1=Pc a b*Pc x y:=by rw[Nat.mul_one];exact e
  exact(Nat.eq_of_mul_eq_mul_left Y this).symm
 by_cases hn:b<0
 ·have hc:(-(Pc a b:Int))≠0:=by omega
  have e1:(rat a b).1= -x:=by
   unfold rat
   rw[if_pos hn]
   show a.fdiv _=_
   conv=>lhs;lhs;rw[hx,<- Rc]
   exact Qx _ hc
  have e2:(rat a b).2= -y:=by
   unfold rat
   rw[if_pos hn]
   show b.fdiv _=_
   conv=>lhs;lhs;rw[hy,<- Rc]
   exact Qx _ hc
  refine⟨-(Pc a b:Int),hc,by rw[R9,P6],by rw[e1,Rc];exact hx,by rw[e2,Rc];exact hy, ?_, ?_⟩
  ·rw[e2]
   have:¬0<=y:=λz=>by
    have:=P7 (show (0:Int)<=(Pc a b:Int) by omega) z
    omega
   omega
  ·rw[e1,e2,Int.neg_gcd,Int.gcd_neg];exact one
 ·have hc:(Pc a b:Int)≠0:=by omega
  have e1:(rat a b).1=x:=by
   unfold rat
   rw[if_neg hn]
   show a.fdiv _=_
   conv=>lhs;lhs;rw[hx]
   exact Qx _ hc
  have e2:(rat a b).2=y:=by
   unfold rat
   rw[if_neg hn]
   show b.fdiv _=_
   conv=>lhs;lhs;rw[hy]
   exact Qx _ hc
  refine⟨(Pc a b:Int),hc,by rw[P6],by rw[e1];exact hx,by rw[e2];exact hy, ?_, ?_⟩
  ·rw[e2]
   have ab:0<b:=by omega
   have:¬y<=0:=λz=>by
    have:=QY (show (0:Int)<=(Pc a b:Int) by omega) z
    omega
   omega
  ·rw[e1,e2];exact one
theorem yH{ok:aB->Prop}{g:GM}{body:SM}(P:S->Prop)(U:∀s,P s->ok s.o):∀(ds:List D),
 (∀d∈ds,∀s,P s->∃s1 s2,g d s=.ok s1/\(body s1=.next s2\/body s1=.cnt s2)/\P s2)->∀s,P s->∃s',cD ok g body ds s=.next s'/\P s'
 | [],_,s,h=>⟨s,by rw[cD,if_pos (U _ h)],h⟩
 | d::ds,step,s,h=>by
  obtain⟨s1,s2,e1,e2,h2⟩:=step d wv s h
  obtain⟨s',e3,Y⟩:=yH P U ds (λd hd=>step d (wh _ hd)) s2 h2
  refine⟨s', ?_,Y⟩
  rw[cD,if_pos (U _ h),e1,jQ]
  rcases e2 with e2 | e2 <;> (rw[e2];exact e3)
theorem eX{ok:aB->Prop}{g:GM}{body:SM}(P:List D->S->Prop)(Y:∀pre s,P pre s->ok s.o):∀(ds pre:List D),
 (∀U d rest,pre++ds=U++d::rest->∀s,P U s->∃s1 s2,g d s=.ok s1/\(body s1=.next s2\/body s1=.cnt s2)/\P (U++[d]) s2)->∀s,P pre s->∃s',cD ok g body ds s=.next s'/\P (pre++ds) s'
 | [],pre,_,s,h=>⟨s,by rw[cD,if_pos (Y _ _ h)],by simpa using h⟩
 | d::ds,pre,step,s,h=>by
  obtain⟨s1,s2,e1,e2,h2⟩:=step pre d ds rfl s h
  obtain⟨s',e3,h3⟩:=eX P Y ds (pre++[d]) (λU d' rest e=>step U d' rest (by simpa using e)) s2 h2
  refine⟨s', ?_,by simpa using h3⟩
  rw[cD,if_pos (Y _ _ h),e1,jQ]
  rcases e2 with e2 | e2 <;> (rw[e2];exact e3)
theorem dW{im:IM}{g:GM}{k:Option Nat}(h:im s=.ok ((ds,k),s1)):fS im g body s=cD (okC ds k) g body ds s1:=by rw[JK,h,jQ]
theorem dy{m:AM}(h:m s=.ok ([.int (n:Int)],s1))(hn:n<=1000000):cH m s=.ok ((dY 0 (n:Int),none),s1):=by
 show (m s).bind _=_
 rw[h,ak]
 dsimp only
 rw[if_pos (by constructor <;> omega)]
section
variable {O : aB}
@[simp] theorem O9 (d:D) (ds:List D):ixD O (.tup (d::ds)) (.int 0)=.ok d:=Dj (by rw[oQ (by decide) (by simp)];rfl)
@[simp] theorem Pa (d e:D) (ds:List D):ixD O (.tup (d::e::ds)) (.int 1)=.ok e:=Dj (by rw[oQ (by decide) (by simp;omega)];rfl)
@[simp] theorem xn (d:D) (ds:List D):ixD O (.lst (d::ds)) (.int 0)=.ok d:=nY (by rw[oQ (by decide) (by simp)];rfl)
@[simp] theorem xx (d e:D) (ds:List D):ixD O (.lst (d::e::ds)) (.int 1)=.ok e:=nY (by rw[oQ (by decide) (by simp;omega)];rfl)
theorem tG(ns:List Int):SeqAt.shaped (.tuple (ns.map PyData.int))=true:=by
 simp[SeqAt.shaped,PyData.canLay0,pJ,PyData.depth,qG]
theorem yK(ns ms:List Int):eqB O (.tup (ns.map D.int)) (.tup (ms.map D.int))=some (decide (ns=ms)):=by
 show jT O _ _=_
 unfold jT
 simp only[res,ph,toPy,qZ,PN]
 rw[if_pos ⟨tG ns,tG ms⟩]
 simp only[PyData.eqv,u9]
@[simp] theorem OV (a b c d:Int):eqD O (.tup [.int a,.int b]) (.tup [.int c,.int d])=.ok (.bl (decide (a=c/\b=d))):=by
 have:=yK (O:=O) [a,b] [c,d]
 unfold eqD
 rw[show eqB O (.tup [.int a,.int b]) (.tup [.int c,.int d])=_ from this]
 simp
@[simp] theorem O0 (a b c d:Int):neD O (.tup [.int a,.int b]) (.tup [.int c,.int d])=.ok (.bl (!decide (a=c/\b=d))):=by
 have:=yK (O:=O) [a,b] [c,d]
 unfold neD
 rw[show eqB O (.tup [.int a,.int b]) (.tup [.int c,.int d])=_ from this]
 simp
end
theorem Sz.sub{m n:Nat}(h:Sz m i)(h':Sz n j):Sz (max m n+1) (i-j):=by
 rw[Int.sub_eq_add_neg]
 refine Sz.add h ?_
 unfold Sz at *
 rw[R9];exact h'
theorem Sz.neg{m:Nat}(h:Sz m i):Sz m (-i):=by
 unfold Sz at *
 rw[R9];exact h
def dH:Nat->(Nat->Int)->Int
 | 0,_=>0
 | n+1,f=>dH n f+f n
theorem fB{n:Nat}{f g:Nat->Int}(h:∀i,i<n->f i=g i):dH n f=dH n g:=by
 induction n with
 | zero=>rfl
 | succ n U=>rw[dH,dH,U λi hi=>h i (by omega),h n (by omega)]
theorem mY{n:Nat}{f:Nat->Int}(h:∀i,i<n->f i=0):dH n f=0:=by
 induction n with
 | zero=>rfl
 | succ n U=>rw[dH,U λi hi=>h i (by omega),h n (by omega)];rfl
theorem zT(n:Nat)(f g:Nat->Int):dH n (λi=>f i+g i)=dH n f+dH n g:=by
 induction n with
 | zero=>rfl
 | succ n U=>simp only[dH,U];omega
theorem i8(n:Nat)(c:Int)(f:Nat->Int):dH n (λi=>c*f i)=c*dH n f:=by
 induction n with
 | zero=>simp[dH]
 | succ n U=>simp only[dH,U,Int.mul_add]
def nth(r:List Int)(i:Nat):Int:=r.getD i 0
def lu(n:Nat)(r:List Int)(x:Nat->Int):Int:=dH n λi=>nth r i*x i
def NQ(n:Nat)(R:List (List Int))(x:Nat->Int):Prop:=∀r∈R,lu n r x=0
def low(ns:List Int):List Int:=if cX ns=0 then ns else ns.map (· / (cX ns:Int))
theorem low_length(ns:List Int):(low ns).length=ns.length:=by unfold low;split <;> simp
theorem qj{f:Int->Int}(h0:f 0=0)(r:List Int)(i:Nat):nth (r.map f) i=f (nth r i):=by
 unfold nth
 rw[sH,sH,xL]
 cases r[i]? with
 | none=>exact h0.symm
 | some a=>rfl
theorem eS{i:Nat}(h:i<r.length):nth r i∈r:=by
 unfold nth
 rw[sH,uX h]
 exact Pp h
theorem di{i:Nat}(h:r.length<=i):nth r i=0:=by
 unfold nth
 rw[sH,QK h]
 rfl
theorem oP(r:List Int)(i:Nat):((cX r:Nat):Int) ∣ nth r i:=by
 by_cases h:i<r.length
 ·exact AX (eS h)
 ·rw[di (by omega)];exact Int.dvd_zero _
def t9(r:List Int):Int:=if cX r=0 then 1 else (cX r:Int)
theorem mQ(r:List Int):0<t9 r:=by unfold t9;split <;> omega
theorem lQ(r:List Int)(i:Nat):nth r i=t9 r*nth (low r) i:=by
 unfold low t9
 split
 ·omega
 ·rw[qj (by simp),Int.mul_ediv_cancel' (oP r i)]
theorem BU(h:cX r=0)(i:Nat):nth r i=0:=by
 have:=oP r i
 rw[h] at this
 simpa using this
theorem De{i:Nat}(h:nth r i≠0):cX (low r)=1:=by
 have h0:cX r≠0:=λe=>h (BU e i)
 unfold low
 rw[if_neg h0]
 exact Io (Nat.pos_of_ne_zero h0)
def j9(one:List Int)(v:Int)(other:List Int)(w:Int):List Int:=PX (λa b=>a*w-b*v) one other
def dw(one:List Int)(v:Int)(other:List Int)(w:Int):List Int:=low (j9 one v other w)
theorem pL(h:one.length=other.length)(v w:Int):(j9 one v other w).length=one.length:=by
 unfold j9;rw[Qf,<- h,Nat.min_self]
theorem AS(h:one.length=other.length)(v w:Int)(i:Nat):nth (j9 one v other w) i=nth one i*w-nth other i*v:=by
 by_cases hi:i<one.length
 ·unfold j9 nth
  simp only[sH,R8,uX hi,uX (h▸hi:i<other.length)]
  rfl
 ·rw[di (by rw[pL h];omega),di (r:=one) (by omega),di (r:=other) (by omega)]
  simp
theorem B5(h:one.length=other.length)(v w:Int):(dw one v other w).length=one.length:=by
 unfold dw;rw[low_length,pL h]
theorem BW(h:one.length=other.length)(v w:Int):∃g:Int,0<g/\∀i,g*nth (dw one v other w) i=nth one i*w-nth other i*v:=by
 refine⟨t9 (j9 one v other w),mQ _,λi=> ?_⟩
 unfold dw
 rw[<- lQ,AS h]
theorem Hx{a b c:List Int}(h:∀i,g*nth c i=u*nth a i+v*nth b i)(x:Nat->Int):g*lu n c x=u*lu n a x+v*lu n b x:=by
 unfold lu
 rw[<- i8,<- i8,<- i8,<- zT]
 refine fB λi _=> ?_
 have:=h i
 grind
theorem wb{a c:List Int}(h:∀i,nth a i=g*nth c i)(x:Nat->Int):lu n a x=g*lu n c x:=by
 unfold lu
 rw[<- i8]
 refine fB λi _=> ?_
 rw[h i,Tb]
theorem HL(h:one.length=other.length)(v w:Int)(x:Nat->Int):∃g:Int,0<g/\g*lu n (dw one v other w) x=w*lu n one x-v*lu n other x:=by
 obtain⟨g,U,e⟩:=BW h v w
 refine⟨g,U, ?_⟩
 have:=Hx (n:=n) (c:=dw one v other w) (a:=one) (b:=other) (g:=g) (u:=w) (v:= -v) (λi=>by rw[e i];grind) x
 rw[this];grind
theorem HF(n:Nat)(r:List Int)(x:Nat->Int):lu n (low r) x=0↔lu n r x=0:=by
 rw[wb (λi=>lQ r i) x]
 have:=mQ r
 constructor
 ·intro h;rw[h];simp
 ·intro h
  rcases Qr.mp h with z | z
  ·omega
  ·exact z
def dJ:List Int->Option Nat
 | []=>none
 | a::r=>if a≠0 then some 0 else (dJ r).map (· + 1)
theorem tJ:∀{l:List Int},dJ l=none->∀a∈l,a=0
 | [],_,_,h=>by simp at h
 | b::r,e,a,h=>by
  unfold dJ at e
  split at e
  ·cases e
  ·rename_i hb
   rcases wT.mp h with rfl | h
   ·simpa using hb
   ·exact tJ (by simpa using e) a h
theorem tL:∀{l:List Int} {k:Nat},dJ l=some k->k<l.length/\nth l k≠0/\∀i,i<k->nth l i=0
 | [],_,e=>by cases e
 | b::r,k,e=>by
  unfold dJ at e
  split at e
  ·rename_i hb
   cases e
   exact⟨by simp,hb,λi hi=>by omega⟩
  ·rename_i hb
   cases e2:dJ r with
   | none=>rw[e2] at e;cases e
   | some j=>
    rw[e2] at e
    cases e
    obtain⟨h1,h2,U⟩:=tL e2
    refine⟨by simp;omega,by simpa[nth] using h2,λi hi=> ?_⟩
    cases i with
    | zero=>simpa[nth] using hb
    | succ i=>simpa[nth] using U i (Nat.lt_of_succ_lt_succ hi)
def Hn(row:List Int)(at_:Nat):List Int:=if nth row at_>0 then row else row.map (- ·)
def MI(lead:List Int)(at_:Nat)(row:List Int):List Int:=if nth row at_=0 then row else dw row (nth row at_) lead (nth lead at_)
def Gu(s:List (List Int)×List (List Int))(at_:Nat):List (List Int)×List (List Int):=
 match dJ (s.1.map (nth · at_)) with
 | none=>s
 | some k=>((s.1.eraseIdx k).map (MI (Hn (s.1.getD k []) at_) at_),s.2.map (MI (Hn (s.1.getD k []) at_) at_)++[Hn (s.1.getD k []) at_])
structure Good(n:Nat)(p:Nat×List Int):Prop where
 len:p.2.length=n
 lt:p.1<n
 pos:0<nth p.2 p.1
 zero:∀i,i<p.1->nth p.2 i=0
 one:cX p.2=1
structure Pl(n:Nat)(P:List (Nat×List Int)):Prop where
 good:∀p∈P,Good n p
 pw:P.Pairwise λp q=>p.1<q.1/\nth p.2 q.1=0
def LP(r:List Int):Prop:=∀i,nth r i≠0->cX r=1
theorem Hg(r:List Int):LP (low r):=λi h=>De (i:=i) λz=>by
 have:=lQ r i
 rw[z] at this
 rcases Qr.mp this.symm with q | q
 ·have:=mQ r;omega
 ·exact h q
section
variable {lead row : List Int} {a : Nat}
end
structure PSt(n a:Nat)(left:List (List Int))(P:List (Nat×List Int)):Prop where
 ll:∀r∈left,r.length=n
 lz:∀r∈left,∀i,i<a->nth r i=0
 lw:∀r∈left,LP r
 pl:Pl n P
 pa:∀p∈P,p.1<a
theorem u4(left:List (List Int))(a k:Nat):nth (left.map (nth · a)) k=nth (left.getD k []) a:=by
 unfold nth
 simp only[sH,xL]
 cases left[k]? with
 | none=>rfl
 | some r=>rfl
theorem getD_mem{left:List (List Int)}(h:k<left.length):left.getD k []∈left:=by
 rw[sH,uX h]
 exact Pp h
def cO(n:Nat)(f g:Nat->Int):Int:=dH n λi=>f i*g i
theorem f9(n:Nat)(f g:Nat->Int):cO n f g=cO n g f:=fB λi _=>Qn _ _
theorem zU(n:Nat)(r:List Int)(x:Nat->Int):lu n r x=cO n (nth r) x:=rfl
theorem HN{a b c:Nat->Int}(h:∀i,i<n->g*c i=u*a i+v*b i)(x:Nat->Int):g*cO n c x=u*cO n a x+v*cO n b x:=by
 unfold cO
 rw[<- i8,<- i8,<- i8,<- zT]
 refine fB λi hi=> ?_
 have:=h i hi
 grind
theorem EC{a b:Nat->Int}(x:Nat->Int):cO n x (λi=>u*a i+v*b i)=u*cO n x a+v*cO n x b:=by
 rw[f9 n x a,f9 n x b,f9,<- HN (g:=1) (c:=λi=>u*a i+v*b i) (λi _=>by omega) x]
 omega
theorem DO{a b:Nat->Int}(h:∀i,i<n->a i=b i)(x:Nat->Int):cO n a x=cO n b x:=fB λi hi=>by rw[h i hi]
def fN(T:List Int)(R:List (List Int))(i:Nat):Int:=dH R.length λj=>nth T j*nth (R.getD j []) i
def Kj(n:Nat)(R:List (List Int))(x:Nat->Int):Prop:=∃k:Int,k≠0/\∃T:List Int,T.length=R.length/\∀i,i<n->k*x i=fN T R i
theorem DI{T:List Int}(U:T.length=R.length)(c:Int)(r:List Int)(i:Nat):fN (T++[c]) (R++[r]) i=fN T R i+c*nth r i:=by
 unfold fN
 rw[FS,IN,dH]
 congr 1
 ·refine fB λj Y=> ?_
  simp only[nth,sH]
  rw[w6 (by omega),w6 Y]
 ·simp only[nth,sH]
  rw[wn (by omega),wn (by omega),U]
  simp
def g7(n a:Nat):List Int:=(tz n 0).set a 1
theorem iu(ha:a<n)(i:Nat):nth (g7 n a) i=if i=a then 1 else 0:=by
 unfold g7 nth
 rw[sH,List.getElem?_set]
 by_cases h:a=i
 ·subst h;simp[ha]
 ·rw[if_neg h,if_neg (λz=>h z.symm)]
  rw[Gc]
  split <;> rfl
def jd(n:Nat):List (List Int):=(u8 n).map (g7 n)
def aP(a b:List Int):Int:=(PX (· * ·) a b).sum
def Gi(U:List (List Int))(row:List Int):List (List Int):=
 match dJ (U.map (aP row)) with
 | none=>U
 | some k=>(U.eraseIdx k).map λone=>dw one (aP row one) (U.getD k []) (aP row (U.getD k []))
theorem Aq:∀(a b:List Int),aP a b=dH b.length λi=>nth a i*nth b i
 | _,[]=>by unfold aP;simp[dH]
 | [],b::r=>by
  unfold aP
  rw[mY λi _=>by unfold nth;simp]
  simp
 | a::l,b::r=>by
  have Y:=Aq l r
  unfold aP at *
  rw[List.zipWith_cons_cons,RA,Y,wE]
  have:∀(n:Nat) (f:Nat->Int),dH (n+1) f=f 0+dH n λi=>f (i+1):=by
   intro n f
   induction n with
   | zero=>simp[dH]
   | succ n U=>rw[dH,U,dH];omega
  rw[this]
  congr 1
theorem mP{a b:List Int}(hb:b.length=n):aP a b=cO n (nth a) (nth b):=by rw[Aq,hb];rfl
structure SSt(n:Nat)(R lists:List (List Int)):Prop where
 len:∀l∈lists,l.length=n
 nul:∀r∈R,∀l∈lists,cO n (nth r) (nth l)=0
 spn:∀x,NQ n lists x->Kj n R x
theorem F9(n:Nat)(f:Nat->Int):dH (n+1) f=f 0+dH n λi=>f (i+1):=by
 induction n with
 | zero=>simp[dH]
 | succ n U=>rw[dH,U,dH];omega
theorem zY(a:Int)(r:List Int):cX (r.map (a * ·))=a.natAbs*cX r:=by
 unfold cX
 have:∀(l:List Int) (c:Nat),(l.map (a * ·)).foldl (λc n=>Qv c n.natAbs) (a.natAbs*c)=a.natAbs*l.foldl (λc n=>Qv c n.natAbs) c:=by
  intro l
  induction l with
  | nil=>intro c;rfl
  | cons b l U=>intro c;simp only[AC,Qp,Rq,Nat.gcd_mul_left];exact U _
 exact this r 0
theorem kP{r s:List Int}(U:r.length=s.length)(h:∀i,i<r.length->nth r i=nth s i):r=s:=by
 refine Q6 U λi h1 h2=> ?_
 have:=h i h1
 unfold nth at this
 simpa[sH,h1,h2] using this
theorem Kl{r s:List Int}(Y:r.length=s.length)(h1:cX r=1)(h2:cX s=1){a b:Int}(ha:0<a)(hb:0<b)(h:∀i,i<r.length->a*nth r i=b*nth s i):r=s:=by
 have e:r.map (a * ·)=s.map (b * ·):=kP (by simp[Y]) λi hi=>by
  rw[qj (by simp),qj (by simp)];exact h i (by simpa using hi)
 have e2:=zY a r
 rw[e,zY,h1,h2] at e2
 have U:a=b:=by omega
 subst U
 exact kP Y λi hi=>QQ (by omega) (h i hi)
def SzL(b:Nat)(r:List Int):Prop:=∀x∈r,Sz b x
def gQ(b:Nat)(R:List (List Int)):Prop:=∀r∈R,SzL b r
theorem SzL.mono(h:SzL b r)(U:b<=c):SzL c r:=λx hx=>(h x hx).mono U
theorem gQ.mono{r:List (List Int)}(h:gQ b r)(U:b<=c):gQ c r:=λx hx=>(h x hx).mono U
theorem Sz.zero(b:Nat):Sz b 0:=by unfold Sz;simp;exact S2 b
theorem SzL.nth(h:SzL b r)(i:Nat):Sz b (M.nth r i):=by
 by_cases hi:i<r.length
 ·exact h _ (eS hi)
 ·rw[di (by omega)];exact Sz.zero b
theorem SzL.low(h:SzL b r):SzL b (M.low r):=by
 intro x hx
 unfold M.low at hx
 split at hx
 ·exact h x hx
 ·obtain⟨y,hy,rfl⟩:=At.mp hx
  exact Nat.lt_of_le_of_lt (Int.natAbs_ediv_le_natAbs y _) (h y hy)
theorem SzL.mix{U Y bv bw:Nat}{v w:Int}(h1:SzL U one)(h2:SzL Y other)(hv:Sz bv v)(hw:Sz bw w):SzL (max (U+bw) (Y+bv)+1) (j9 one v other w):=by
 intro x hx
 unfold j9 at hx
 obtain⟨i,hi,e⟩:=Py hx
 rw[Sd] at e
 subst e
 exact Sz.sub (Sz.mul (h1 _ (Pp _)) hw) (Sz.mul (h2 _ (Pp _)) hv)
theorem SzL.off{U Y bv bw:Nat}{v w:Int}(h1:SzL U one)(h2:SzL Y other)(hv:Sz bv v)(hw:Sz bw w):SzL (max (U+bw) (Y+bv)+1) (dw one v other w):=(SzL.mix h1 h2 hv hw).low
def grow(b p:Nat):Nat:=2^p*(b+1)-1
structure PSz(n b a:Nat)(rows:List (List Int))(left done:List (List Int)):Prop where
 eq:(u8 a).foldl Gu (rows.map low,[])=(left,done)
 ll:∀r∈left,r.length=n
 dl:∀r∈done,r.length=n
 cnt:left.length+done.length=rows.length
 ls:gQ (grow b done.length) left
 ds:gQ (grow b done.length) done
section
variable {s s1 : S} {d : D}
@[simp] theorem J8 (m:AM) (s:S):sP m s=(m s).bind λx=>match x.1 with
 | [.lst as,.lst bs]=>.ok ((j4 as bs,none),x.2)
 | _=>.bad:=rfl
@[simp] theorem iH (m:AM) (s:S):cZ m s=(m s).bind λx=>match x.1 with
 | [.lst as]=>.ok ((dN as,none),x.2)
 | _=>.bad:=rfl
@[simp] theorem Kx (m:EM) (s:S):DP m s=(m s).bind λx=>match x.1 with
 | .str z=>.ok ((oi z,none),x.2)
 | _=>.bad:=rfl
@[simp] theorem yN (f g:Op2) (a b c:EM) (s:S):kI f g a b c s=(a s).bind λx=>(b x.2).bind λy=>(f y.2.o x.1 y.1).bind λz=>match z with
 | .bl true=>(c y.2).bind λw=>(g w.2.o y.1 w.1).bind λd=>.ok (d,w.2)
 | .bl false=>.ok (.bl false,y.2)
 | _=>.bad:=rfl
@[simp] theorem GF (n:Nat) (f:FM) (m:AM) (s:S):uh n f m s=(m s).bind λx=>if x.1.length=n then (match f x.1 x.2.o with
 | .ok (d,O1)=>.ok (d,⟨x.2.r,O1⟩)
 | _=>.bad) else .bad:=rfl
@[simp] theorem Oy (m:EM) (s:S):NR m s=(m s).bind λx=>match lsD x.2.o x.1 with
 | some ds=>.ok (!ds.isEmpty,x.2)
 | none=>.bad:=rfl
@[simp] theorem JG (fin:S->List D->Res (D×S)) (ma:AM) (mk:EM) (s:S):AK fin ma mk s=(ma s).bind λx=>if x.1.length<=16777216 then (mk x.2).bind λy=>match y.1 with
 | .int k=>if (-(2^63)<=k/\k<2^63)/\x.1.length*k.toNat<=16777216 then fin y.2 (DM k x.1) else .bad
 | _=>.bad
 else .bad:=rfl
@[simp] theorem OG (s:S) (ds:List D):DN s ds=.ok (.lst ds,s):=rfl
@[simp] theorem C3 (s:S) (ds:List D):sW s ds=.ok (.ptr s.o.length,⟨s.r,s.o++[.lst ds]⟩):=rfl
@[simp] theorem Oc (O:aB):isD O .non .non=.ok (.bl true):=rfl
@[simp] theorem OH (O:aB) (i:Int):isD O (.int i) .non=.ok (.bl false):=rfl
@[simp] theorem Oi (O:aB) (i:List D):isD O (.lst i) .non=.ok (.bl false):=rfl
@[simp] theorem OF (O:aB) (i:List D):isD O (.tup i) .non=.ok (.bl false):=rfl
@[simp] theorem Ng (O:aB):xm O .non .non=.ok (.bl false):=rfl
@[simp] theorem Nu (O:aB) (i:Int):xm O (.int i) .non=.ok (.bl true):=rfl
@[simp] theorem Nk (O:aB) (i:List D):xm O (.lst i) .non=.ok (.bl true):=rfl
@[simp] theorem M8 (O:aB) (i:List D):xm O (.tup i) .non=.ok (.bl true):=rfl
@[simp] theorem lM (g h:GM) (a b:D) (s:S):cQ (aZ g (aZ h cS)) 2 (.tup [a,b]) s=(g a s).bind λs1=>h b s1:=by
 show (g a s).bind (λs1=>(h b s1).bind λs2=>.ok s2)=_
 congr 1
 funext s1
 cases h b s1 <;> rfl
@[simp] theorem Ce (ns:List Int):gD (ns.map D.int)=some ns:=by
 induction ns with
 | nil=>rfl
 | cons n ns U=>rw[AC,gD,U];rfl
@[simp] theorem uL (ns:List Bool):jA (ns.map D.bl)=some ns:=by
 induction ns with
 | nil=>rfl
 | cons n ns U=>rw[AC,jA,U];rfl
@[simp] theorem o8 (O:aB) (ns:List Int):oM O [.lst (ns.map D.int)]=.ok (.int ns.sum):=by
 show (match gD (ns.map D.int) with
  | some ns=>Res.ok (D.int ns.sum)
  | none=>.bad)=_
 rw[Ce]
@[simp] theorem AD (O:aB) (ns:List Bool):DH O [.lst (ns.map D.bl)]=.ok (.bl (ns.all id)):=by
 show (match jA (ns.map D.bl) with
  | some ns=>Res.ok (D.bl (ns.all id))
  | none=>.bad)=_
 rw[uL]
@[simp] theorem vA (O:aB) (ns:List Bool):ye O [.lst (ns.map D.bl)]=.ok (.bl (ns.any id)):=by
 show (match jA (ns.map D.bl) with
  | some ns=>Res.ok (D.bl (ns.any id))
  | none=>.bad)=_
 rw[uL]
end
theorem pI {α:Type} {ok:aB->Prop} {g:GM} {c:TM} {e:EM} {O:aB} (Y:ok O) (item:α->D) (P:S->Prop) (hP:∀s,P s->s.o=O) (l:List α) (p:α->Bool) (out:α->D)
 (step:∀a∈l,∀s,P s->∃s1 s2,g (item a) s=.ok s1/\c s1=.ok (p a,s2)/\(p a=false->P s2)/\(p a=true->∃s3,e s2=.ok (out a,s3)/\P s3)):
 ∀(U:List D) (s:S),U.length+l.length<=16777216->P s->∃s',dZ ok g c e (l.map item) U s=.ok (U++(l.filter p).map out,s')/\P s':=by
 induction l with
 | nil=>
  intro U s _ h
  exact⟨s,by rw[PB,dZ,if_pos (by rw[hP s h];exact Y)];simp,h⟩
 | cons a l ih=>
  intro U s hl h
  rw[wE] at hl
  obtain⟨s1,s2,e1,e2,h2,h3⟩:=step a wv s h
  rw[AC,dZ,if_pos ⟨by rw[hP s h];exact Y,by omega⟩,e1,ak,e2,ak]
  cases hp:p a with
  | false=>
   obtain⟨s',e3,h4⟩:=ih (λb hb=>step b (wh _ hb)) U s2 (by omega) (h2 hp)
   refine⟨s', ?_,h4⟩
   rw[Pq (by simp[hp])]
   simpa using e3
  | true=>
   obtain⟨s3,e3,h4⟩:=h3 hp
   obtain⟨s',e5,h5⟩:=ih (λb hb=>step b (wh _ hb)) (U++[out a]) s3 (by rw[FS,IN];omega) h4
   refine⟨s', ?_,h5⟩
   rw[Pj hp]
   simp only[if_true,e3,ak,e5]
   simp
section
variable {α : Type} {caps : List Nat} {im : IM} {c : TM} {e : EM} {s : S} {k : Option Nat} {l : List α} {item out : α → D} {p : α → Bool}
theorem Ak (U:im s=.ok ((l.map item,k),s)) (Y:okC (l.map item) k s.o) (hl:l.length<=16777216)
 (hc:∀a∈l,c ⟨some (item a)::caps.map (λi=>(s.r[i]?).getD none),s.o⟩=.ok (p a,⟨some (item a)::caps.map (λi=>(s.r[i]?).getD none),s.o⟩))
 (he:∀a∈l,p a=true->e ⟨some (item a)::caps.map (λi=>(s.r[i]?).getD none),s.o⟩=.ok (out a,⟨some (item a)::caps.map (λi=>(s.r[i]?).getD none),s.o⟩)):
 jX 1 caps im (aF 0) c e s=.ok ((l.filter p).map out,s):=by
 obtain⟨s',e1,x,h1⟩:=pI (ok:=okC (l.map item) k) (g:=aF 0) (c:=c) (e:=e) (O:=s.o) Y item (λs2=>∃x,s2=⟨x::caps.map (λi=>(s.r[i]?).getD none),s.o⟩) (by rintro _ ⟨_,rfl⟩;rfl) l p out (by
  rintro a ha _ ⟨x,rfl⟩
  exact⟨_,_,rfl,hc a ha,λ_=>⟨_,rfl⟩,λhp=>⟨_,he a ha hp,_,rfl⟩⟩) [] ⟨m8 1 caps s.r,s.o⟩ (by simpa using hl) ⟨none,rfl⟩
 rw[vE,U,ak]
 dsimp only
 rw[e1,ak]
 subst h1
 rfl
theorem Bt {f g:α->D} (U:im s=.ok ((l.map (λa=>D.tup [f a,g a]),k),s)) (Y:okC (l.map (λa=>D.tup [f a,g a])) k s.o) (hl:l.length<=16777216)
 (hc:∀a∈l,c ⟨some (f a)::some (g a)::caps.map (λi=>(s.r[i]?).getD none),s.o⟩=.ok (p a,⟨some (f a)::some (g a)::caps.map (λi=>(s.r[i]?).getD none),s.o⟩))
 (he:∀a∈l,p a=true->e ⟨some (f a)::some (g a)::caps.map (λi=>(s.r[i]?).getD none),s.o⟩=.ok (out a,⟨some (f a)::some (g a)::caps.map (λi=>(s.r[i]?).getD none),s.o⟩)):
 jX 2 caps im (cQ (aZ (aF 0) (aZ (aF 1) cS)) 2) c e s=.ok ((l.filter p).map out,s):=by
 obtain⟨s',e1,x,y,h1⟩:=pI (ok:=okC (l.map (λa=>D.tup [f a,g a])) k) (g:=cQ (aZ (aF 0) (aZ (aF 1) cS)) 2) (c:=c) (e:=e) (O:=s.o) Y (λa=>D.tup [f a,g a]) (λs2=>∃x y,s2=⟨x::y::caps.map (λi=>(s.r[i]?).getD none),s.o⟩) (by rintro _ ⟨_,_,rfl⟩;rfl) l p out (by
  rintro a ha _ ⟨x,y,rfl⟩
  exact⟨_,_,by simp,hc a ha,λ_=>⟨_,_,rfl⟩,λhp=>⟨_,he a ha hp,_,_,rfl⟩⟩) [] ⟨m8 2 caps s.r,s.o⟩ (by simpa using hl) ⟨none,none,rfl⟩
 rw[vE,U,ak]
 dsimp only
 rw[e1,ak]
 subst h1
 rfl
theorem mx(l:List α):l.filter (λ_=>true)=l:=by simp
theorem du (U:im s=.ok ((l.map item,k),s)) (Y:okC (l.map item) k s.o) (hl:l.length<=16777216)
 (he:∀a∈l,e ⟨some (item a)::caps.map (λi=>(s.r[i]?).getD none),s.o⟩=.ok (out a,⟨some (item a)::caps.map (λi=>(s.r[i]?).getD none),s.o⟩)):
 bx 1 caps im (aF 0) bj e s=.ok (.lst (l.map out),s):=by
 rw[o5,Ak (p:=λ_=>true) U Y hl (λ_ _=>rfl) (λa ha _=>he a ha),ak,mx]
theorem C2 (U:im s=.ok ((l.map item,k),s)) (Y:okC (l.map item) k s.o) (hl:l.length<=16777216)
 (hc:∀a∈l,c ⟨some (item a)::caps.map (λi=>(s.r[i]?).getD none),s.o⟩=.ok (p a,⟨some (item a)::caps.map (λi=>(s.r[i]?).getD none),s.o⟩))
 (he:∀a∈l,p a=true->e ⟨some (item a)::caps.map (λi=>(s.r[i]?).getD none),s.o⟩=.ok (out a,⟨some (item a)::caps.map (λi=>(s.r[i]?).getD none),s.o⟩)):
 bx 1 caps im (aF 0) c e s=.ok (.lst ((l.filter p).map out),s):=by
 rw[o5,Ak U Y hl hc he,ak]
theorem Ex {f g:α->D} (U:im s=.ok ((l.map (λa=>D.tup [f a,g a]),k),s)) (Y:okC (l.map (λa=>D.tup [f a,g a])) k s.o) (hl:l.length<=16777216)
 (he:∀a∈l,e ⟨some (f a)::some (g a)::caps.map (λi=>(s.r[i]?).getD none),s.o⟩=.ok (out a,⟨some (f a)::some (g a)::caps.map (λi=>(s.r[i]?).getD none),s.o⟩)):
 bx 2 caps im (cQ (aZ (aF 0) (aZ (aF 1) cS)) 2) bj e s=.ok (.lst (l.map out),s):=by
 rw[o5,Bt (p:=λ_=>true) U Y hl (λ_ _=>rfl) (λa ha _=>he a ha),ak,mx]
theorem CK {f g:α->D} (U:im s=.ok ((l.map (λa=>D.tup [f a,g a]),k),s)) (Y:okC (l.map (λa=>D.tup [f a,g a])) k s.o) (hl:l.length<=16777216)
 (hc:∀a∈l,c ⟨some (f a)::some (g a)::caps.map (λi=>(s.r[i]?).getD none),s.o⟩=.ok (p a,⟨some (f a)::some (g a)::caps.map (λi=>(s.r[i]?).getD none),s.o⟩))
 (he:∀a∈l,p a=true->e ⟨some (f a)::some (g a)::caps.map (λi=>(s.r[i]?).getD none),s.o⟩=.ok (out a,⟨some (f a)::some (g a)::caps.map (λi=>(s.r[i]?).getD none),s.o⟩)):
 bx 2 caps im (cQ (aZ (aF 0) (aZ (aF 1) cS)) 2) c e s=.ok (.lst ((l.filter p).map out),s):=by
 rw[o5,Bt U Y hl hc he,ak]
theorem oa (U:im s=.ok ((l.map item,k),s)) (Y:okC (l.map item) k s.o) (hl:l.length<=16777216)
 (he:∀a∈l,e ⟨some (item a)::caps.map (λi=>(s.r[i]?).getD none),s.o⟩=.ok (out a,⟨some (item a)::caps.map (λi=>(s.r[i]?).getD none),s.o⟩)):
 g9 1 caps im (aF 0) bj e s=.ok (.ptr s.o.length,⟨s.r,s.o++[.lst (l.map out)]⟩):=by
 rw[AJ,Ak (p:=λ_=>true) U Y hl (λ_ _=>rfl) (λa ha _=>he a ha),ak,mx]
end
abbrev vI(r:List Int):D:=.lst (r.map .int)
abbrev vII(R:List (List Int)):D:=.lst (R.map vI)
@[simp] theorem kH (R:List (List Int)):aM (R.map vI)=true:=by
 induction R with
 | nil=>rfl
 | cons r R U=>simp[U]
theorem sL(as bs:List Int):j4 (as.map D.int) (bs.map D.int)=(as.zip bs).map λp=>.tup [.int p.1,.int p.2]:=by
 unfold j4
 rw[SN,List.zip_eq_zipWith,List.map_zipWith]
theorem wV(as:List Int):dN (as.map D.int)=as.zipIdx.map λp=>.tup [.int (p.2:Int),.int p.1]:=by
 unfold dN
 rw[QR,R4,wp]
 rfl
theorem jW{i:Nat}(h:i<r.length):ixD O (vI r) (.int (i:Int))=.ok (.int (nth r i)):=by
 refine nY ?_
 rw[oQ (by omega) (by simpa using h)]
 simp[nth,sH,h]
theorem MP{i:Nat}(h:i<R.length):ixD O (vII R) (.int (i:Int))=.ok (vI (R.getD i [])):=by
 refine nY ?_
 rw[oQ (by omega) (by simpa using h)]
 simp[sH,h]
theorem eC(n:Nat):dY 0 (n:Int)=(u8 n).map λi=>.int (i:Int):=by
 unfold dY
 simp
theorem nW(h:n<=1000000):n<=16777216:=Pk h (by decide)
theorem zip_map{f:Int->Int->Int}:∀(a b:List Int),(a.zip b).map (λp=>f p.1 p.2)=PX f a b
 | [],_=>by simp
 | _::_,[]=>by simp
 | x::a,y::b=>by simp[zip_map a b]
theorem KO(a b:List Int):(a.zip b).map (λp=>p.1*p.2)=PX (· * ·) a b:=zip_map a b
theorem FR(n:Nat):DM (n:Int) [.int 0]=(tz n (0:Int)).map D.int:=by
 unfold DM
 rw[show (n:Int).toNat=n from Su n]
 induction n with
 | zero=>rfl
 | succ n U=>rw[Px,Qd,U];simp[Px]
theorem BQ{mo U:EM}{d:D}(h1:mo s=.ok (.ptr k,s1))(h2:U s1=.ok (.int (a:Int),s2))(Y:s2.o[k]? =some (.lst ds))(ha:a<ds.length):
 vV mo U d s=.ok ⟨s2.r,s2.o.set k (.lst (ds.set a d))⟩:=by
 unfold vV
 rw[h1,ak]
 dsimp only
 rw[h2,ak]
 dsimp only
 rw[oz Y]
 dsimp only
 have e:ixN ds.length (a:Int)=some a:=by
  unfold ixN
  rw[if_pos (by omega),if_pos (by omega)]
  simp
 rw[e]
theorem t8{i:Nat}(h:m s=.ok (d,s')):setM i m s=.next ⟨s'.r.set i (some d),s'.o⟩:=by
 show ((m s).bind _).out _=_
 rw[h];rfl
theorem bD(h:m s=.ok (d,s')):bS m s=.ret d s':=by
 show (m s).out _=_
 rw[h];rfl
theorem IU{c:TM}{a b:SM}(h:c s=.ok (true,s')):ifS c a b s=a s':=by
 show (c s).out _=_
 rw[h];rfl
theorem nR{c:TM}{a b:SM}(h:c s=.ok (false,s')):ifS c a b s=b s':=by
 show (c s).out _=_
 rw[h];rfl
theorem dU{a b:SM}(h:a s=.next s'):aR a b s=b s':=by
 show (a s).then b=_
 rw[h];rfl
theorem qN{a b:SM}(h:a s=.ret d s'):aR a b s=.ret d s':=by
 show (a s).then b=_
 rw[h];rfl
theorem Nt{fin:S->List D->Res (D×S)}{mk:EM}(h:mk s=.ok (.int (n:Int),s))(hn:n<=1000000):AK fin (af (ar (.int 0)) ao) mk s=fin s ((tz n (0:Int)).map D.int):=by
 rw[JG,a8,ay,ak,aA,ak,ak]
 dsimp only
 rw[if_pos (by decide),h,ak]
 dsimp only
 rw[if_pos ⟨⟨by omega,by omega⟩,by simp;omega⟩,FR]
theorem dO(h:ma s=.ok (ds,s'))(hp:aM ds=true)(U:ds.length=n)(Y:f ds []=.ok (d,O))(hd:cz d=true):aN n f ma s=.ok (d,s'):=by
 rw[Iw,h,ak,if_pos ⟨hp,U⟩]
 dsimp only
 rw[Y]
 dsimp only
 rw[if_pos hd]
theorem Gv(h:ma s=.ok (ds,s'))(U:ds.length=n)(Y:f ds s'.o=.ok (d,O)):uh n f ma s=.ok (d,⟨s'.r,O⟩):=by
 rw[GF,h,ak,if_pos U]
 dsimp only
 rw[Y]
theorem xI(h1:mo s=.ok (.ptr k,s1))(U:s1.o[k]? =some (.lst ds0))(h2:me s1=.ok (d,s2))(Y:s2.o[k]? =some (.lst ds))(hb:ds.length<=1000000):
 gU mo me s=.ok (.non,⟨s2.r,s2.o.set k (.lst (ds++[d]))⟩):=by
 rw[JS,h1,ak]
 dsimp only
 rw[oz U]
 dsimp only
 rw[h2,ak]
 dsimp only
 rw[oz Y]
 dsimp only
 rw[if_pos (by omega)]
theorem cy(h:m s=.ok (d,s')):cP m s=.next s':=by
 show (m s).out _=_
 rw[h];rfl
theorem KA(h:m s=.ok (.ptr k,s'))(c:s'.o[k]? =some (.lst ds)):gy m s=.ok (.lst ds,⟨s'.r,s'.o.set k .dead⟩):=by
 rw[Kk,h,ak]
 dsimp only
 rw[oz c]
theorem tP(h:m s=.ok (.ptr k,s'))(c:s'.o[k]? =some (.lst ds)):listI m s=.ok ((ds,some k),s'):=by
 rw[cv,h,ak]
 dsimp only
 rw[B3 c,ak]
theorem cN{k j:Nat}{c:Cell}(h:k≠j):(O.set k c)[j]? =O[j]? :=Pf h
theorem eQ{c c':Cell}(h:O[k]? =some c'):(O.set k c)[k]? =some c:=by
 rw[Pe (wP.mp h).1]
theorem eZ{O E:aB}{c:Cell}(h:O[k]? =some c):(O++E)[k]? =some c:=by
 rw[w6 (wP.mp h).1];exact h
theorem iy{c:Cell}:(O++[c])[O.length]? =some c:=by simp
theorem oj{c:Cell}(h:O[k]? =some c):k<O.length:=(wP.mp h).1
theorem kG(r:List Int):aM [vI r]=true:=by simp
theorem Lq{b:Nat}:∀(l:List Int) (k:Nat),(∀x∈l,x.natAbs<2^b)->l.length<=2^k->l.sum.natAbs<=l.length*2^b:=by
 intro l k h _
 induction l with
 | nil=>simp
 | cons a l U=>
  rw[RA,wE,Nat.succ_mul]
  have h1:=h a wv
  have h2:=U (λx hx=>h x (wh _ hx)) (by simp at *;omega)
  have:=SD a l.sum
  omega
theorem wG{row l:List Int}(U:SzL c row)(Y:SzL b l)(hn:row.length<=1000):Sz (b+c+10) (aP row l):=by
 unfold aP
 have h:∀x∈PX (· * ·) row l,x.natAbs<2^(c+b):=λx hx=>by
  obtain⟨i,hi,e⟩:=Py hx
  rw[Sd] at e
  subst e
  exact Sz.mul (U _ (Pp _)) (Y _ (Pp _))
 have h2:=Lq (PX (· * ·) row l) 10 h (by rw[Qf];simp;omega)
 unfold Sz
 have h3:(PX (· * ·) row l).length<=1000:=by rw[Qf];omega
 have h4:(PX (· * ·) row l).length*2^(c+b)<=1000*2^(c+b):=Nat.mul_le_mul_right _ h3
 have h5:2^(b+c+10)=1024*2^(c+b):=by rw[Nat.pow_add,Nat.add_comm b c,Nat.mul_comm]
 have h6:0<2^(c+b):=S2 _
 rw[h5]
 omega
theorem G3(h:ma s=.ok (ds,s'))(hp:aM ds=true)(U:ds.length=n)(Y:f ds []=.ok (d,O1)):fe n f ma s=.ok (shD s'.o.length d,⟨s'.r,s'.o++O1.map (shC s'.o.length)⟩):=by
 rw[HS,h,ak,if_pos ⟨hp,U⟩]
 dsimp only
 rw[Y]
theorem Ar(h:O[k]? =some (.lst ds))(hi:atI ds i=some d):ixD O (.ptr k) (.int i)=.ok d:=by
 show (match lsD O (D.ptr k) with
  | some ds=>match atI ds i with
   | some d=>Res.ok d
   | none=>.bad
  | none=>.bad)=_
 rw[kD h]
 dsimp only
 rw[hi]
theorem oB{α:Type}{l:List α}{i:Nat}(h:i<l.length):atI l (i:Int)=some l[i]:=by
 rw[oQ (by omega) (by omega)]
 simp
theorem qQ(h:O[k]? =some (.lst ds)):bE O [.ptr k]=.ok (.int ds.length):=by
 unfold bE
 simp only[kD h]
theorem jH(h:m s=.ok (.int i,s')):a7 (aq gtD m (ar (.int j))) s=.ok (decide (j<i),s'):=by
 rw[iq,eU,h,ak,ay,ak,xJ,ak,ak]
theorem eq_test(h:m s=.ok (.int i,s')):a7 (aq eqD m (ar (.int j))) s=.ok (decide (i=j),s'):=by
 rw[iq,eU,h,ak,ay,ak,lW,ak,ak]
theorem qw{a b:TM}(ha:a s=.ok (p,s))(hb:b s=.ok (q,s)):jM a b s=.ok (p&&q,s):=by
 rw[yf,ha,ak]
 cases p with
 | true=>exact hb
 | false=>rfl
theorem lJ{a b:List D}(h:a.length+b.length<=1000000):bf O (.lst a) (.lst b)=.ok (.lst (a++b)):=by
 show (if a.length+b.length<=16777216 then Res.ok (D.lst (a++b)) else .bad)=_
 rw[if_pos (nW h)]
theorem Ez{ms:List Int}(h:n<=ms.length):cutD (ms.map D.int) (some (n:Int)) none=(ms.drop n).map D.int:=by
 unfold cutD
 rw[HT.vt,HT.qv,ut,R3 h,<- Tc,Pu (by simp)]
def tk(c e:Nat):Nat:=2^e*(c+12)-(c+11)
structure Pb(n c:Nat)(R lists:List (List Int))(e:Nat):Prop where
 eq:R.foldl Gi (jd n)=lists
 ll:∀l∈lists,l.length=n
 cnt:lists.length+e=n
 sz:gQ (tk c e) lists
theorem Lf(n a:Nat):SzL 1 (g7 n a):=by
 intro x hx
 unfold g7 at hx
 rcases RJ hx with h | h
 ·rw[List.eq_of_mem_replicate h];exact Sz.zero 1
 ·rw[h];unfold Sz;decide
structure Fit(n:Nat)(R:List (List Int))(x:List Int):Prop where
 len:x.length=n
 nn:∀i,0<=nth x i
 st:∀r∈R,cO n (nth r) (nth x)=0
 nz:∃i,nth x i≠0
def Sub(x y:List Int):Prop:=∀i,nth x i≠0->nth y i≠0
structure de(n:Nat)(R:List (List Int))(x:List Int):Prop where
 fit:Fit n R x
 one:cX x=1
 min:∀y,Fit n R y->Sub y x->Sub x y
theorem Sub.refl(x:List Int):Sub x x:=λ_ h=>h
theorem Sub.trans(a:Sub x y)(b:Sub y z):Sub x z:=λi h=>b i (a i h)
theorem Fit.lt(f:Fit n R x){i:Nat}(h:nth x i≠0):i<n:=by
 by_cases hi:i<n
 ·exact hi
 ·exact absurd (di (by rw[f.len];omega)) h
theorem Fit.low(f:Fit n R x):Fit n R (low x)/\cX (M.low x)=1/\Sub (M.low x) x/\Sub x (M.low x):=by
 have hp:=mQ x
 have hi:∀i,nth (M.low x) i≠0↔nth x i≠0:=λi=>by
  rw[lQ x i]
  constructor
  ·exact λh=>R5 (by omega) h
  ·intro h z;rw[z] at h;exact h (by omega)
 obtain⟨j,U⟩:=f.nz
 refine⟨⟨by rw[low_length,f.len],λi=> ?_,λr Y=> ?_,⟨j,(hi j).mpr U⟩⟩,De U,λi=>(hi i).mp,λi=>(hi i).mpr⟩
 ·have:=f.nn i
  rw[lQ x i] at this
  by_cases h:0<=nth (M.low x) i
  ·exact h
  ·have:=QS hp (by omega:nth (M.low x) i<0);omega
 ·have:=f.st r Y
  rw[f9]
  rw[f9] at this
  exact(HF n x (nth r)).mpr this
theorem uR{a b c d e f:Int}(hb:0<b)(hd:0<d)(U:0<f)(h1:a*d<=c*b)(h2:c*f<=e*d):a*f<=e*b:=by
 have e1:a*d*f<=c*b*f:=Re h1 (by omega)
 have e2:c*f*b<=e*d*b:=Re h2 (by omega)
 have:(a*f)*d<=(e*b)*d:=by
  have q1:a*d*f=(a*f)*d:=by grind
  have q2:c*b*f=c*f*b:=by grind
  have Y:e*d*b=(e*b)*d:=by grind
  omega
 exact Int.le_of_mul_le_mul_right this hd
theorem EW(a b:Nat->Int)(hb:∀i,0<=b i):∀n,(∃i,i<n/\b i≠0)->∃m,m<n/\b m≠0/\∀i,i<n->b i≠0->a m*b i<=a i*b m
 | 0,h=>by obtain⟨i,hi,_⟩:=h;omega
 | n+1,h=>by
  by_cases hn:∃i,i<n/\b i≠0
  ·obtain⟨m,hm,hz,hl⟩:=EW a b hb n hn
   by_cases Y:b n=0
   ·refine⟨m,by omega,hz,λi hi U=> ?_⟩
    by_cases e:i=n
    ·subst e;exact absurd Y U
    ·exact hl i (by omega) U
   ·by_cases hc:a m*b n<=a n*b m
    ·refine⟨m,by omega,hz,λi hi U=> ?_⟩
     by_cases e:i=n
     ·subst e;exact hc
     ·exact hl i (by omega) U
    ·refine⟨n,by omega,Y,λi hi U=> ?_⟩
     by_cases e:i=n
     ·subst e;omega
     ·have:=hb n;have:=hb m;have:=hb i
      exact uR (by omega) (by omega:0<b m) (by omega) (by omega) (hl i (by omega) U)
  ·obtain⟨i,hi,U⟩:=h
   have e:i=n:=by
    by_cases e:i=n
    ·exact e
    ·exact absurd ⟨i,by omega,U⟩ hn
   subst e
   refine⟨i,by omega,U,λj hj ac=> ?_⟩
   by_cases e:j=i
   ·subst e;omega
   ·exact absurd ⟨j,by omega,ac⟩ hn
theorem u7(fx:Fit n R x)(fy:Fit n R y)(hs:Sub y x):
 ∃z:List Int,z.length=n/\(∀i,0<=nth z i)/\Sub z x/\∃c d:Int,0<c/\0<d/\(∀i,nth z i=c*nth x i-d*nth y i)/\∃m,nth y m≠0/\nth z m=0:=by
 obtain⟨j,hj⟩:=fy.nz
 obtain⟨m,hm,hz,hl⟩:=EW (nth x) (nth y) fy.nn n ⟨j,fy.lt hj,hj⟩
 have Y:x.length=y.length:=by rw[fx.len,fy.len]
 have a1:=fx.nn m
 have ae:=fy.nn m
 have ap:=hs m hz
 have U:∀i,nth (j9 x (nth x m) y (nth y m)) i=nth y m*nth x i-nth x m*nth y i:=λi=>by rw[AS Y];grind
 refine⟨j9 x (nth x m) y (nth y m),by rw[pL Y,fx.len],λi=> ?_,λi hi=> ?_,nth y m,nth x m,by omega,by omega,U,m,hz,by rw[U];grind⟩
 ·rw[U]
  by_cases hy:nth y i=0
  ·rw[hy]
   have:=P7 ae (fx.nn i)
   omega
  ·have:=hl i (fy.lt hy) hy
   have:nth y m*nth x i=nth x i*nth y m:=Qn _ _
   omega
 ·rw[U] at hi
  intro z
  apply hi
  have:nth y i=0:=by
   by_cases hy:nth y i=0
   ·exact hy
   ·exact absurd z (hs i hy)
  rw[z,this];omega
theorem uy{c d:Int}(h:∀i,nth z i=c*nth x i-d*nth y i)(r:Nat->Int):cO n r (nth z)=c*cO n r (nth x)-d*cO n r (nth y):=by
 have:=EC (n:=n) (a:=nth x) (b:=nth y) (u:=c) (v:= -d) r
 rw[f9,DO (b:=λi=>c*nth x i + -d*nth y i) (λi _=>by rw[h i];grind),f9,this]
 grind
theorem xV(Y:Fit n R x)(fy:Fit n R y)(hl:z.length=n)(hn:∀i,0<=nth z i){c d:Int}(h:∀i,nth z i=c*nth x i-d*nth y i)(hz:∃i,nth z i≠0):Fit n R z:=
 ⟨hl,hn,λr U=>by rw[uy h,Y.st r U,fy.st r U];omega,hz⟩
theorem de.prop(l:de n R x)(Y:Fit n R y)(hs:Sub y x):∃a b:Int,0<a/\0<b/\∀i,a*nth x i=b*nth y i:=by
 obtain⟨z,zl,zn,zs,c,d,hc,hd,h,m,hm,U⟩:=u7 l.fit Y hs
 by_cases hz:∃i,nth z i≠0
 ·have fz:=xV l.fit Y zl zn h hz
  exact absurd U (l.min z fz zs m (hs m hm))
 ·refine⟨c,d,hc,hd,λi=> ?_⟩
  have:nth z i=0:=by
   by_cases e:nth z i=0
   ·exact e
   ·exact absurd ⟨i,e⟩ hz
  rw[h i] at this
  omega
theorem de.eq(l:de n R x)(U:Fit n R y)(h1:cX y=1)(Y:Sub y x):x=y:=by
 obtain⟨a,b,ha,hb,h⟩:=l.prop U Y
 exact Kl (by rw[l.fit.len,U.len]) l.one h1 ha hb λi _=>h i
def cnt(x:List Int):Nat:=(x.filter (·≠0)).length
theorem F7:∀{x y:List Int},x.length=y.length->Sub x y->cnt x<=cnt y
 | [],[],_,_=>wf _
 | a::x,b::y,hl,hs=>by
  have U:=F7 (x:=x) (y:=y) (by simpa using hl) λi h=>hs (i+1) h
  have h0:a≠0->b≠0:=hs 0
  unfold cnt at *
  by_cases ha:a=0
  ·rw[Pq (by simpa using ha)]
   by_cases hb:b=0
   ·rw[Pq (by simpa using hb)];exact U
   ·rw[Pj (by simpa using hb),wE];omega
  ·rw[Pj (by simpa using ha),Pj (by simpa using h0 ha),wE,wE];omega
theorem qm:∀{x y:List Int} {m:Nat},x.length=y.length->Sub x y->nth y m≠0->nth x m=0->cnt x<cnt y
 | [],[],m,_,_,h,_=>by simp[nth] at h
 | a::x,b::y,0,hl,hs,h,h'=>by
  have U:=F7 (x:=x) (y:=y) (by simpa using hl) λi h=>hs (i+1) h
  have ha:a=0:=h'
  have hb:b≠0:=h
  unfold cnt at *
  rw[Pq (by simpa using ha),Pj (by simpa using hb),wE];omega
 | a::x,b::y,m+1,hl,hs,h,h'=>by
  have U:=qm (x:=x) (y:=y) (m:=m) (by simpa using hl) (λi h=>hs (i+1) h) h h'
  have h0:a≠0->b≠0:=hs 0
  unfold cnt at *
  by_cases ha:a=0
  ·rw[Pq (by simpa using ha)]
   by_cases hb:b=0
   ·rw[Pq (by simpa using hb)];exact U
   ·rw[Pj (by simpa using hb),wE];omega
  ·rw[Pj (by simpa using ha),Pj (by simpa using h0 ha),wE,wE];omega
theorem ua{n:Nat}{R:List (List Int)}:∀(k:Nat) {x:List Int},cnt x<=k->Fit n R x->∃l,de n R l/\Sub l x:=by
 intro k
 induction k with
 | zero=>
  intro x hk f
  obtain⟨i,hi⟩:=f.nz
  have:cnt (tz n (0:Int))<cnt x:=qm (m:=i) (by rw[f.len];simp) (λj h=>by
   exfalso;apply h
   unfold nth
   rw[sH,Gc]
   split <;> rfl) hi (by
   unfold nth
   rw[sH,Gc]
   split <;> rfl)
  omega
 | succ k ih=>
  intro x hk f
  by_cases h:∃y,Fit n R y/\Sub y x/\¬Sub x y
  ·obtain⟨y,U,h1,h2⟩:=h
   have:∃m,nth x m≠0/\nth y m=0:=by
    apply P8
    intro hn
    exact h2 λi hi=>λz=>hn ⟨i,hi,z⟩
   obtain⟨m,hm,Y⟩:=this
   have:=qm (by rw[U.len,f.len]) h1 hm Y
   obtain⟨l,hl,hs⟩:=ih (x:=y) (by omega) U
   exact⟨l,hl,hs.trans h1⟩
  ·obtain⟨q1,q2,q3,q4⟩:=f.low
   refine⟨low x,⟨q1,q2,λy U hs=> ?_⟩,q3⟩
   apply P8
   intro hn
   exact h ⟨y,U,hs.trans q3,λz=>hn (q3.trans z)⟩
theorem wY{n:Nat}{R:List (List Int)}(r:List Int):∀(k:Nat) {x:List Int},cnt x<=k->Fit n R x->0<cO n (nth r) (nth x)->∃l,de n R l/\Sub l x/\0<cO n (nth r) (nth l):=by
 intro k
 induction k with
 | zero=>
  intro x hk f hv
  obtain⟨l,U,Y⟩:=ua 0 hk f
  obtain⟨i,hi⟩:=f.nz
  have:cnt (tz n (0:Int))<cnt x:=qm (m:=i) (by rw[f.len];simp) (λj h=>by
   exfalso;apply h
   unfold nth
   rw[sH,Gc]
   split <;> rfl) hi (by
   unfold nth
   rw[sH,Gc]
   split <;> rfl)
  omega
 | succ k ih=>
  intro x hk f hv
  obtain⟨l,U,Y⟩:=ua (k+1) hk f
  by_cases hp:0<cO n (nth r) (nth l)
  ·exact⟨l,U,Y,hp⟩
  ·obtain⟨z,zl,zn,zs,c,d,hc,hd,h,m,hm,ab⟩:=u7 f U.fit Y
   have ev:=uy (n:=n) h (nth r)
   have h1:=Qi hc hv
   have h2:=QY (show 0<=d by omega) (show cO n (nth r) (nth l)<=0 by omega)
   have hz:∃i,nth z i≠0:=by
    apply P8
    intro hn
    have:cO n (nth r) (nth z)=0:=mY λi _=>by
     have:nth z i=0:=by
      by_cases e:nth z i=0
      ·exact e
      ·exact absurd ⟨i,e⟩ hn
     rw[this];omega
    omega
   have fz:=xV f U.fit zl zn h hz
   have:=qm (by rw[zl,f.len]) zs (Y m hm) ab
   obtain⟨l',q1,q2,q3⟩:=ih (x:=z) (by omega) fz (by omega)
   exact⟨l',q1,q2.trans zs,q3⟩
theorem jR(n:Nat)(r x:List Int):cO n (nth (r.map (- ·))) (nth x)= -cO n (nth r) (nth x):=by
 have:=wb (n:=n) (a:=r.map (- ·)) (c:=r) (g:= -1) (λi=>by rw[qj (by simp)];omega) (nth x)
 rw[<- zU,this,zU];omega
theorem DG(r:List Int)(f:Fit n R x)(Y:cO n (nth r) (nth x)<0):∃l,de n R l/\Sub l x/\cO n (nth r) (nth l)<0:=by
 obtain⟨l,h1,h2,U⟩:=wY (r.map (- ·)) _ (wf _) f (by rw[jR];omega)
 rw[jR] at U
 exact⟨l,h1,h2,by omega⟩
theorem yB(r:List Int)(f:Fit n R x)(hv:cO n (nth r) (nth x)=0):
 (∃l,de n R l/\Sub l x/\cO n (nth r) (nth l)=0)\/∃h w,de n R h/\de n R w/\Sub h x/\Sub w x/\0<cO n (nth r) (nth h)/\cO n (nth r) (nth w)<0:=by
 obtain⟨l,U,Y⟩:=ua _ (wf _) f
 by_cases h0:cO n (nth r) (nth l)=0
 ·exact .inl ⟨l,U,Y,h0⟩
 ·obtain⟨z,zl,zn,zs,c,d,hc,hd,h,m,hm,a3⟩:=u7 f U.fit Y
  have ev:=uy (n:=n) h (nth r)
  rw[hv] at ev
  have ab:cO n (nth r) (nth z)≠0:=by
   rw[ev]
   have:=R5 (show d≠0 by omega) h0
   omega
  have hz:∃i,nth z i≠0:=by
   apply P8
   intro hn
   exact ab (mY λi _=>by
    have:nth z i=0:=by
     by_cases e:nth z i=0
     ·exact e
     ·exact absurd ⟨i,e⟩ hn
    rw[this];omega)
  have fz:=xV f U.fit zl zn h hz
  by_cases hp:0<cO n (nth r) (nth l)
  ·have:=Qi hd hp
   obtain⟨w,w1,w2,w3⟩:=DG r fz (by omega)
   exact .inr ⟨l,w,U,w1,Y,w2.trans zs,hp,w3⟩
  ·have:=QS hd (show cO n (nth r) (nth l)<0 by omega)
   obtain⟨w,w1,w2,w3⟩:=wY r _ (wf _) fz (by omega)
   exact .inr ⟨w,l,w1,U,w2.trans zs,Y,w3,by omega⟩
def subB(n:Nat)(l h w:List Int):Bool:=(u8 n).all λi=>decide (nth l i=0)||decide (nth h i≠0)||decide (nth w i≠0)
def nbB(n:Nat)(L:List (List Int))(h w:List Int):Bool:=(L.filter λl=>subB n l h w).length == 2
def dP(n:Nat)(L:List (List Int))(r:List Int):List (List Int):=
 (L.filter λl=>decide (aP r l=0))++(L.filter λl=>decide (0<aP r l)).flatMap λh=>((L.filter λl=>decide (aP r l<0)).filter λw=>nbB n L h w).map λw=>dw w (aP r w) h (aP r h)
theorem rK(U:l.length=n):subB n l h w=true↔∀i,nth l i≠0->nth h i≠0\/nth w i≠0:=by
 unfold subB
 rw[Qw]
 constructor
 ·intro H i hi
  have lt:i<n:=by
   by_cases e:i<n
   ·exact e
   ·exact absurd (di (by omega)) hi
  have:=H i (Pm.mpr lt)
  simp only[Rf,decide_eq_true_eq] at this
  rcases this with(z | z) | z
  ·exact absurd z hi
  ·exact .inl z
  ·exact .inr z
 ·intro H i _
  simp only[Rf,decide_eq_true_eq]
  by_cases e:nth l i=0
  ·exact .inl (.inl e)
  ·rcases H i e with z | z
   ·exact .inl (.inr z)
   ·exact .inr z
theorem DK{α:Type}{L:List α}(hd:L.Nodup)(U:L.length=2){h w:α}(hh:h∈L)(hw:w∈L)(Y:h≠w):∀l∈L,l=h\/l=w:=by
 match L,U with
 | [a,b],_=>
  intro l U
  simp only[wT,PZ,or_false] at hh hw U
  rcases hh with rfl | rfl <;> rcases hw with rfl | rfl <;> rcases U with rfl | rfl <;> first | exact .inl rfl | exact .inr rfl | exact absurd rfl Y
theorem Ei{α:Type}{L:List α}(hd:L.Nodup){h w:α}(U:h∈L)(Y:w∈L)(ab:h≠w)(ha:∀l∈L,l=h\/l=w):L.length=2:=by
 have h1:L.length<=2:=by
  match L,hd with
  | [],_=>simp
  | [_],_=>simp
  | [_,_],_=>simp
  | a::b::c::r,hd=>
   exfalso
   have ac:=ha a (by simp);have ae:=ha b (by simp);have am:=ha c (by simp)
   simp only[PU,wT,not_or] at hd
   rcases ac with e1 | e1 <;> rcases ae with e2 | e2 <;> rcases am with e3 | e3 <;> simp_all
 match L,U,Y,h1 with
 | [a],U,Y,_=>
  simp only[ww] at U Y
  exact absurd (U.trans Y.symm) ab
 | [a,b],_,_,_=>rfl
section
variable {n : Nat} {R L : List (List Int)} {r : List Int}
structure iX(n:Nat)(R L:List (List Int)):Prop where
 all:∀x,x∈L↔de n R x
 nd:L.Nodup
theorem iX.dot(k:iX n R L)(h:l∈L)(r:List Int):aP r l=cO n (nth r) (nth l):=mP ((k.all l).mp h).fit.len
theorem xi(k:iX n R L)(hh:h∈L)(hw:w∈L)(U:h≠w):nbB n L h w=true↔∀l∈L,(∀i,nth l i≠0->nth h i≠0\/nth w i≠0)->l=h\/l=w:=by
 have mem:∀l,l∈L.filter (λl=>subB n l h w)↔l∈L/\∀i,nth l i≠0->nth h i≠0\/nth w i≠0:=λl=>by
  rw[Fk]
  constructor
  ·exact λ⟨a,b⟩=>⟨a,(rK ((k.all l).mp a).fit.len).mp b⟩
  ·exact λ⟨a,b⟩=>⟨a,(rK ((k.all l).mp a).fit.len).mpr b⟩
 have nd:(L.filter (λl=>subB n l h w)).Nodup:=k.nd.filter _
 have m1:h∈L.filter (λl=>subB n l h w):=(mem h).mpr ⟨hh,λi hi=>.inl hi⟩
 have m2:w∈L.filter (λl=>subB n l h w):=(mem w).mpr ⟨hw,λi hi=>.inr hi⟩
 unfold nbB
 rw[beq_iff_eq]
 constructor
 ·exact λY l h1 h2=>DK nd Y m1 m2 U l ((mem l).mpr ⟨h1,h2⟩)
 ·exact λha=>Ei nd m1 m2 U λl Y=>let ⟨a,b⟩:=(mem l).mp Y;ha l a b
theorem lL(hr:r.length=n)(Y:Fit n R h)(fw:Fit n R w)(vh:0<aP r h)(vw:aP r w<0):
 Fit n (R++[r]) (dw w (aP r w) h (aP r h))/\cX (dw w (aP r w) h (aP r h))=1/\(∀i,nth (dw w (aP r w) h (aP r h)) i≠0↔nth h i≠0\/nth w i≠0)/\
 ∃g:Int,0<g/\∀i,g*nth (dw w (aP r w) h (aP r h)) i=nth w i*aP r h+nth h i*(-(aP r w)):=by
 have U:w.length=h.length:=by rw[fw.len,Y.len]
 obtain⟨g,hg,e⟩:=BW U (aP r w) (aP r h)
 have e':∀i,g*nth (dw w (aP r w) h (aP r h)) i=nth w i*aP r h+nth h i*(-(aP r w)):=λi=>by rw[e i];grind
 have nz:∀i,nth (dw w (aP r w) h (aP r h)) i≠0↔nth h i≠0\/nth w i≠0:=λi=>by
  have h1:=P7 (fw.nn i) (show 0<=aP r h by omega)
  have h2:=P7 (Y.nn i) (show 0<= -(aP r w) by omega)
  constructor
  ·intro hz
   apply P8
   intro hn
   have q1:nth h i=0:=by
    by_cases q:nth h i=0
    ·exact q
    ·exact absurd (.inl q) hn
   have q2:nth w i=0:=by
    by_cases q:nth w i=0
    ·exact q
    ·exact absurd (.inr q) hn
   have:=e' i
   rw[q1,q2] at this
   have:g*nth (dw w (aP r w) h (aP r h)) i=0:=by rw[this];omega
   rcases Qr.mp this with z | z
   ·omega
   ·exact hz z
  ·intro am z
   have:=e' i
   rw[z] at this
   have hs:nth w i*aP r h+nth h i*(-(aP r w))=0:=by omega
   rcases am with q | q
   ·have:=Qi (show 0<nth h i by have:=Y.nn i;omega) (show 0 < -(aP r w) by omega);omega
   ·have:=Qi (show 0<nth w i by have:=fw.nn i;omega) vh;omega
 have one:cX (dw w (aP r w) h (aP r h))=1:=by
  obtain⟨i,hi⟩:=Y.nz
  have q:nth (dw w (aP r w) h (aP r h)) i≠0:=(nz i).mpr (.inl hi)
  exact Hg _ i q
 refine⟨⟨by rw[B5 U,fw.len],λi=> ?_,λq hq=> ?_, ?_⟩,one,nz,g,hg,e'⟩
 ·have h1:=P7 (fw.nn i) (show 0<=aP r h by omega)
  have h2:=P7 (Y.nn i) (show 0<= -(aP r w) by omega)
  have:=e' i
  by_cases z:0<=nth (dw w (aP r w) h (aP r h)) i
  ·exact z
  ·have:=QS hg (show nth (dw w (aP r w) h (aP r h)) i<0 by omega);omega
 ·obtain⟨g',a2,ed⟩:=HL (n:=n) U (aP r w) (aP r h) (nth q)
  simp only[zU] at ed
  rw[f9]
  have z:g'*cO n (nth (dw w (aP r w) h (aP r h))) (nth q)=0:=by
   rw[ed,f9 n (nth w),f9 n (nth h)]
   rcases xz.mp hq with hq | hq
   ·rw[fw.st q hq,Y.st q hq];omega
   ·rw[ww.mp hq,<- mP fw.len,<- mP Y.len];grind
  rcases Qr.mp z with z | z
  ·omega
  ·exact z
 ·obtain⟨i,hi⟩:=Y.nz
  exact⟨i,(nz i).mpr (.inl hi)⟩
theorem Fit.less{R S:List (List Int)}(f:Fit n (R++S) x):Fit n R x:=⟨f.len,f.nn,λr U=>f.st r (Qu _ U),f.nz⟩
theorem Fit.more(f:Fit n R x)(h:cO n (nth r) (nth x)=0):Fit n (R++[r]) x:=⟨f.len,f.nn,λq hq=>by
 rcases xz.mp hq with z | z
 ·exact f.st q z
 ·rw[ww.mp z];exact h,f.nz⟩
theorem de.same(a:de n R x)(b:de n R y)(h:Sub y x):x=y:=a.eq b.fit b.one h
theorem uZ(Y:r.length=n)(U:de n R h)(ll:de n R l)(lw:de n R w)(lx:de n (R++[r]) x)(vh:0<aP r h)(vl:0<aP r l)(vw:aP r w<0)(sh:Sub h x)(sl:Sub l x)(sw:Sub w x):l=h:=by
 obtain⟨f1,g1,z1,a,ha,e1⟩:=lL Y U.fit lw.fit vh vw
 obtain⟨f2,g2,z2,b,hb,e2⟩:=lL Y ll.fit lw.fit vl vw
 have x1:=lx.eq f1 g1 λi hi=>((z1 i).mp hi).elim (sh i) (sw i)
 have x2:=lx.eq f2 g2 λi hi=>((z2 i).mp hi).elim (sl i) (sw i)
 rw[<- x1] at e1
 rw[<- x2] at e2
 have key:∀i,b*(nth h i*(-(aP r w)))+(b*aP r h-a*aP r l)*nth w i=a*(nth l i*(-(aP r w))):=λi=>by
  have q1:=e1 i
  have q2:=e2 i
  have:b*(a*nth x i)=a*(b*nth x i):=by grind
  rw[q1,q2] at this
  grind
 have hu:0 < -(aP r w):=by omega
 by_cases hm:0<=b*aP r h-a*aP r l
 ·refine(de.same ll U λi hi=> ?_)
  intro z
  have q:=key i
  rw[z] at q
  have h1:=Qi hb (Qi (show 0<nth h i by have:=U.fit.nn i;omega) hu)
  have h2:=P7 hm (lw.fit.nn i)
  have h3:a*(0*(-(aP r w)))=0:=by simp
  omega
 ·refine(de.same U ll λi hi=> ?_).symm
  intro z
  have q:=key i
  rw[z] at q
  have h1:=Qi ha (Qi (show 0<nth l i by have:=ll.fit.nn i;omega) hu)
  have h2:=Int.mul_nonpos_of_nonpos_of_nonneg (show b*aP r h-a*aP r l<=0 by omega) (lw.fit.nn i)
  have h3:b*(0*(-(aP r w)))=0:=by simp
  omega
theorem vH(U:l.length=n):aP (r.map (- ·)) l= -(aP r l):=by rw[mP U,mP U,jR]
theorem de.neg(l:de n (R++[r]) x):de n (R++[r.map (- ·)]) x:=by
 have U:∀y,Fit n (R++[r]) y↔Fit n (R++[r.map (- ·)]) y:=λy=>by
  constructor
  ·refine λf=>Fit.more f.less ?_
   rw[jR,f.st r (by simp)];rfl
  ·refine λf=>Fit.more f.less ?_
   have:=f.st (r.map (- ·)) (by simp)
   rw[jR] at this;omega
 exact⟨(U x).mp l.fit,l.one,λy Y=>l.min y ((U y).mpr Y)⟩
theorem Al(Y:r.length=n)(U:de n R h)(ll:de n R l)(lw:de n R w)(lx:de n (R++[r]) x)(vh:0<aP r h)(vl:aP r l<0)(vw:aP r w<0)(sh:Sub h x)(sl:Sub l x)(sw:Sub w x):l=w:=
 uZ (r:=r.map (- ·)) (h:=w) (l:=l) (w:=h) (by simpa using Y) lw ll U lx.neg (by rw[vH lw.fit.len];omega) (by rw[vH ll.fit.len];omega) (by rw[vH U.fit.len];omega) sw sl sh
theorem sX:x∈dP n L r↔(x∈L/\aP r x=0)\/∃h w,h∈L/\w∈L/\0<aP r h/\aP r w<0/\nbB n L h w=true/\x=dw w (aP r w) h (aP r h):=by
 unfold dP
 rw[xz]
 constructor
 ·rintro (h | h)
  ·rw[Fk,decide_eq_true_eq] at h;exact .inl h
  ·obtain⟨h',q1,q2⟩:=RW.mp h
   obtain⟨w,U,rfl⟩:=At.mp q2
   rw[Fk,decide_eq_true_eq] at q1
   rw[Fk,Fk,decide_eq_true_eq] at U
   exact .inr ⟨h',w,q1.1,U.1.1,q1.2,U.1.2,U.2,rfl⟩
 ·rintro (h | ⟨h',w,q1,q2,U,Y,q5,rfl⟩)
  ·exact .inl (by rw[Fk,decide_eq_true_eq];exact h)
  ·refine .inr (RW.mpr ⟨h',by rw[Fk,decide_eq_true_eq];exact⟨q1,U⟩,At.mpr ⟨w, ?_,rfl⟩⟩)
   rw[Fk,Fk,decide_eq_true_eq];exact⟨⟨q2,Y⟩,q5⟩
theorem AR(hr:r.length=n)(k:iX n R L)(x:List Int):x∈dP n L r↔de n (R++[r]) x:=by
 rw[sX]
 constructor
 ·rintro (⟨hx,v⟩ | ⟨h,w,hh,hw,U,vw,nb,rfl⟩)
  ·have l:=(k.all x).mp hx
   rw[k.dot hx] at v
   exact⟨l.fit.more v,l.one,λy fy=>l.min y fy.less⟩
  ·have lh:=(k.all h).mp hh
   have lw:=(k.all w).mp hw
   have ac:h≠w:=λe=>by rw[e] at U;omega
   obtain⟨f1,g1,z1,_⟩:=lL hr lh.fit lw.fit U vw
   refine⟨f1,g1,λy fy sy=> ?_⟩
   have ae:=(xi k hh hw ac).mp nb
   rcases yB r fy.less (fy.st r (by simp)) with⟨l,ll,sl,v⟩ | ⟨h',w',b2,b3,a4,a5,bb,bd⟩
   ·have Y:=(k.all l).mpr ll
    have:=ae l Y λi hi=>(z1 i).mp (sy i (sl i hi))
    rw[<- k.dot Y] at v
    rcases this with rfl | rfl <;> omega
   ·have be:=(k.all h').mpr b2
    have bi:=(k.all w').mpr b3
    rw[<- k.dot be] at bb
    rw[<- k.dot bi] at bd
    have e1:h'=h:=by
     rcases ae h' be λi hi=>(z1 i).mp (sy i (a4 i hi)) with e | e
     ·exact e
     ·rw[e] at bb;omega
    have e2:w'=w:=by
     rcases ae w' bi λi hi=>(z1 i).mp (sy i (a5 i hi)) with e | e
     ·rw[e] at bd;omega
     ·exact e
    subst e1 e2
    exact λi hi=>((z1 i).mp hi).elim (a4 i) (a5 i)
 ·intro lx
  by_cases hz:∃l,de n R l/\Sub l x/\cO n (nth r) (nth l)=0
  ·obtain⟨l,ll,sl,v⟩:=hz
   have e:=lx.eq (ll.fit.more v) ll.one sl
   subst e
   have Y:=(k.all x).mpr ll
   exact .inl ⟨Y,by rw[k.dot Y];exact v⟩
  ·rcases yB r lx.fit.less (lx.fit.st r (by simp)) with h0 | ⟨h,w,lh,lw,sh,sw,U,vw⟩
   ·exact absurd h0 hz
   ·have hh:=(k.all h).mpr lh
    have hw:=(k.all w).mpr lw
    rw[<- k.dot hh] at U
    rw[<- k.dot hw] at vw
    have ac:h≠w:=λe=>by rw[e] at U;omega
    obtain⟨f1,g1,z1,_⟩:=lL hr lh.fit lw.fit U vw
    refine .inr ⟨h,w,hh,hw,U,vw,(xi k hh hw ac).mpr λl Y sl=> ?_,lx.eq f1 g1 λi hi=>((z1 i).mp hi).elim (sh i) (sw i)⟩
    have ll:=(k.all l).mp Y
    have am:Sub l x:=λi hi=>(sl i hi).elim (sh i) (sw i)
    by_cases v0:aP r l=0
    ·exact absurd ⟨l,ll,am,by rw[<- k.dot Y];exact v0⟩ hz
    ·by_cases vp:0<aP r l
     ·exact .inl (uZ hr lh ll lw lx U vp vw sh am sw)
     ·exact .inr (Al hr lh ll lw lx U (by omega) vw sh am sw)
end
section
variable {n : Nat} {R L : List (List Int)} {r : List Int}
theorem CO (hr:r.length=n) (k:iX n R L) {h w h' U:List Int} (hh:h∈L) (hw:w∈L) (vh:0<aP r h) (vw:aP r w<0) (nb:nbB n L h w=true)
 (Y:h'∈L) (ab:U∈L) (ac:0<aP r h') (ae:aP r U<0) (e:dw w (aP r w) h (aP r h)=dw U (aP r U) h' (aP r h')):h=h'/\w=U:=by
 have an:h≠w:=λe=>by rw[e] at vh;omega
 obtain⟨_,_,z1,_⟩:=lL hr ((k.all h).mp hh).fit ((k.all w).mp hw).fit vh vw
 obtain⟨_,_,z2,_⟩:=lL hr ((k.all h').mp Y).fit ((k.all U).mp ab).fit ac ae
 rw[e] at z1
 have am:=(xi k hh hw an).mp nb
 constructor
 ·rcases am h' Y λi hi=>(z1 i).mp ((z2 i).mpr (.inl hi)) with q | q
  ·exact q.symm
  ·rw[q] at ac;omega
 ·rcases am U ab λi hi=>(z1 i).mp ((z2 i).mpr (.inr hi)) with q | q
  ·rw[q] at ae;omega
  ·exact q.symm
theorem Cw(hr:r.length=n)(k:iX n R L):(dP n L r).Nodup:=by
 unfold dP
 rw[Qt]
 refine⟨k.nd.filter _, ?_,λx hx y hy e=> ?_⟩
 ·unfold S3
  rw[List.pairwise_flatMap]
  constructor
  ·intro h U
   rw[Fk,decide_eq_true_eq] at U
   rw[RG]
   refine Qy (λ{w w'} Y ab ac=> ?_) ((k.nd.filter _).filter _)
   rw[Fk,Fk,decide_eq_true_eq] at Y ab
   exact λe=>ac (CO hr k U.1 Y.1.1 U.2 Y.1.2 Y.2 U.1 ab.1.1 U.2 ab.1.2 e).2
  ·refine Qy (λ{h h'} U hh' ac x hx y hy=> ?_) (k.nd.filter _)
   rw[Fk,decide_eq_true_eq] at U hh'
   obtain⟨w,Y,rfl⟩:=At.mp hx
   obtain⟨w',ab,rfl⟩:=At.mp hy
   rw[Fk,Fk,decide_eq_true_eq] at Y ab
   exact λe=>ac (CO hr k U.1 Y.1.1 U.2 Y.1.2 Y.2 hh'.1 ab.1.1 hh'.2 ab.1.2 e).1
 ·subst e
  rw[Fk,decide_eq_true_eq] at hx
  obtain⟨h,U,hy⟩:=RW.mp hy
  obtain⟨w,Y,e⟩:=At.mp hy
  rw[Fk,decide_eq_true_eq] at U
  rw[Fk,Fk,decide_eq_true_eq] at Y
  have ac:h≠w:=λe=>by rw[e] at U;omega
  obtain⟨_,_,z1,_⟩:=lL hr ((k.all h).mp U.1).fit ((k.all w).mp Y.1.1).fit U.2 Y.1.2
  rw[e] at z1
  rcases(xi k U.1 Y.1.1 ac).mp Y.2 x hx.1 λi hi=>(z1 i).mp hi with q | q
  ·rw[q] at hx;omega
  ·rw[q] at hx;omega
theorem iX.step(U:r.length=n)(k:iX n R L):iX n (R++[r]) (dP n L r):=⟨AR U k,Cw U k⟩
theorem yk(ha:a<n):cX (g7 n a)=1:=by
 have:=oP (g7 n a) a
 rw[iu ha,if_pos rfl] at this
 have:(cX (g7 n a):Int).natAbs ∣ (1:Int).natAbs:=Q8.mpr this
 simpa using this
theorem Bg(ha:a<n):Fit n [] (g7 n a):=by
 refine⟨by unfold g7;simp,λi=> ?_,by simp,⟨a, ?_⟩⟩
 ·rw[iu ha];split <;> omega
 ·rw[iu ha,if_pos rfl];decide
theorem ES(ha:a<n):de n [] (g7 n a):=by
 refine⟨Bg ha,yk ha,λy Y sy=>λi hi=> ?_⟩
 rw[iu ha] at hi
 by_cases e:i=a
 ·subst e
  obtain⟨j,U⟩:=Y.nz
  have:=sy j U
  rw[iu ha] at this
  by_cases e:j=i
  ·rw[<- e];exact U
  ·rw[if_neg e] at this;exact absurd rfl this
 ·rw[if_neg e] at hi;exact absurd rfl hi
theorem D9(n:Nat):iX n [] (jd n):=by
 refine⟨λx=>⟨λhx=> ?_,λl=> ?_⟩, ?_⟩
 ·obtain⟨a,ha,rfl⟩:=At.mp hx
  exact ES (Pm.mp ha)
 ·obtain⟨i,hi⟩:=l.fit.nz
  have lt:=l.fit.lt hi
  have:=l.eq (Bg lt) (yk lt) λj U=>by
   rw[iu lt] at U
   by_cases e:j=i
   ·rw[e];exact hi
   ·rw[if_neg e] at U;exact absurd rfl U
  rw[this]
  exact At.mpr ⟨i,Pm.mpr lt,rfl⟩
 ·unfold jd S3
  rw[RG]
  refine Qy (λ{a b} ha hb hne e=>hne ?_) List.nodup_range
  have h1:=iu (Pm.mp ha) a
  rw[e,iu (Pm.mp hb),if_pos rfl] at h1
  by_cases q:a=b
  ·exact q
  ·rw[if_neg q] at h1;cases h1
theorem yT:∀{rows:List (List Int)},(∀r∈rows,r.length=n)->∀{R L:List (List Int)},iX n R L->iX n (R++rows) (rows.foldl (dP n) L)
 | [],_,R,L,k=>by simpa using k
 | row::rows,h,R,L,k=>by
  have:=yT (rows:=rows) (λr U=>h r (wh _ U)) (k.step (h row wv))
  simpa using this
def mS(rows:List (List Int))(n:Nat):List (List Int):=rows.foldl (dP n) (jd n)
theorem tO{rows:List (List Int)}(h:∀r∈rows,r.length=n):iX n rows (mS rows n):=by
 have:=yT h (D9 n)
 rw[Db] at this
 exact this
end
section
variable {n : Nat} {R L : List (List Int)}
end
theorem vx:∀(N:Nat) (l:List Nat),l.Nodup->(∀x∈l,x<N)->l.length<=N
 | 0,l,_,h=>by
  cases l with
  | nil=>exact wf _
  | cons a l=>exact absurd (h a wv) (by omega)
 | N+1,l,nd,h=>by
  by_cases hm:N∈l
  ·have:=vx N (l.erase N) (nd.erase N) (λx hx=>by
    have h1:=(nd.mem_erase_iff.mp hx)
    have:=h x h1.2
    have:=h1.1
    omega)
   rw[List.length_erase_of_mem hm] at this
   omega
  ·have:=vx N l nd (λx hx=>by
    have h1:=h x hx
    have:x≠N:=λe=>hm (e▸hx)
    omega)
   omega
def at0(x:List Int)(i:Nat):Bool:=decide (nth x i≠0)
def cl3(a b c:Bool):Nat:=match a,b,c with
 | false,true,_=>1
 | false,false,true=>2
 | true,false,true=>2
 | _,_,_=>0
theorem BC(a b c:Bool):cl3 a b c<=2:=by revert a b c;decide
theorem Fe:∀a b c U b' Y:Bool,cl3 a b c=cl3 U b' Y->((a=true->U=true)/\(b=true->b'=true)/\(c=true->Y=true))\/((U=true->a=true)/\(b'=true->b=true)/\(Y=true->c=true)):=by decide
def yh(x:List Int):Nat:=3*((at0 x 3).toNat+2*(at0 x 4).toNat+4*(at0 x 5).toNat+8*(at0 x 6).toNat)+cl3 (at0 x 0) (at0 x 1) (at0 x 2)
theorem toNat_le(b:Bool):b.toNat<=1:=by cases b <;> decide
theorem toNat_inj{a b:Bool}(h:a.toNat=b.toNat):a=b:=by revert a b;decide
theorem J5(x:List Int):yh x<48:=by
 have:=BC (at0 x 0) (at0 x 1) (at0 x 2)
 have:=toNat_le (at0 x 3)
 have:=toNat_le (at0 x 4)
 have:=toNat_le (at0 x 5)
 have:=toNat_le (at0 x 6)
 unfold yh
 omega
theorem FC(hx:x.length<=7)(h:∀i,i<7->at0 x i=true->at0 y i=true):Sub x y:=λi hi=>by
 by_cases U:i<7
 ·exact of_decide_eq_true (h i U (decide_eq_true hi))
 ·exact absurd (di (by omega)) hi
theorem K0(hn:n<=7)(lx:de n R x)(ly:de n R y)(h:yh x=yh y):x=y:=by
 have a1:=BC (at0 x 0) (at0 x 1) (at0 x 2)
 have a2:=BC (at0 y 0) (at0 y 1) (at0 y 2)
 have b3:=toNat_le (at0 x 3);have c3:=toNat_le (at0 y 3)
 have b4:=toNat_le (at0 x 4);have c4:=toNat_le (at0 y 4)
 have b5:=toNat_le (at0 x 5);have c5:=toNat_le (at0 y 5)
 have b6:=toNat_le (at0 x 6);have c6:=toNat_le (at0 y 6)
 unfold yh at h
 have e3:at0 x 3=at0 y 3:=toNat_inj (by omega)
 have e4:at0 x 4=at0 y 4:=toNat_inj (by omega)
 have e5:at0 x 5=at0 y 5:=toNat_inj (by omega)
 have e6:at0 x 6=at0 y 6:=toNat_inj (by omega)
 have e:cl3 (at0 x 0) (at0 x 1) (at0 x 2)=cl3 (at0 y 0) (at0 y 1) (at0 y 2):=by omega
 have U:x.length<=7:=by rw[lx.fit.len];exact hn
 have Y:y.length<=7:=by rw[ly.fit.len];exact hn
 rcases Fe _ _ _ _ _ _ e with⟨q0,q1,q2⟩ | ⟨q0,q1,q2⟩
 ·refine(ly.same lx (FC U λi hi ht=> ?_)).symm
  have:i=0\/i=1\/i=2\/i=3\/i=4\/i=5\/i=6:=by omega
  rcases this with rfl | rfl | rfl | rfl | rfl | rfl | rfl
  ·exact q0 ht
  ·exact q1 ht
  ·exact q2 ht
  ·rw[<- e3];exact ht
  ·rw[<- e4];exact ht
  ·rw[<- e5];exact ht
  ·rw[<- e6];exact ht
 ·refine lx.same ly (FC Y λi hi ht=> ?_)
  have:i=0\/i=1\/i=2\/i=3\/i=4\/i=5\/i=6:=by omega
  rcases this with rfl | rfl | rfl | rfl | rfl | rfl | rfl
  ·exact q0 ht
  ·exact q1 ht
  ·exact q2 ht
  ·rw[e3];exact ht
  ·rw[e4];exact ht
  ·rw[e5];exact ht
  ·rw[e6];exact ht
theorem yP{α β:Type}{f:α->β}:∀{l:List α},l.Nodup->(∀x∈l,∀y∈l,f x=f y->x=y)->(l.map f).Nodup
 | [],_,_=>S6
 | a::l,nd,h=>by
  rw[AC,PU]
  rw[PU] at nd
  refine⟨λhm=> ?_,yP nd.2 λx hx y hy=>h x (wh _ hx) y (wh _ hy)⟩
  obtain⟨b,hb,e⟩:=At.mp hm
  exact nd.1 (h b (wh _ hb) a wv e▸hb)
theorem iX.few{R L:List (List Int)}(k:iX n R L)(hn:n<=7):L.length<64:=by
 have:=vx 48 (L.map yh) (yP k.nd λx hx y hy e=>K0 hn ((k.all x).mp hx) ((k.all y).mp hy) e) λc hc=>by
  obtain⟨x,_,rfl⟩:=At.mp hc
  exact J5 x
 rw[ut] at this
 omega
theorem Ip{L:List (List Int)}(Y:SzL c r)(hl:r.length<=1000)(U:gQ b L):gQ (2*b+c+12) (dP n L r):=by
 intro x hx
 rcases sX.mp hx with⟨h,_⟩ | ⟨h,w,hh,hw,_,_,_,rfl⟩
 ·exact(U x h).mono (by omega)
 ·exact(SzL.off (U w hw) (U h hh) (wG Y (U w hw) hl) (wG Y (U h hh) hl)).mono (by omega)
def tX(c:Nat):Nat->Nat->Nat
 | 0,b=>b
 | m+1,b=>tX c m (2*b+c+12)
theorem Br{n c:Nat}:∀(rows:List (List Int)) (b:Nat) (L:List (List Int)),(∀r∈rows,SzL c r/\r.length<=1000)->gQ b L->gQ (tX c rows.length b) (rows.foldl (dP n) L)
 | [],b,L,_,h=>h
 | r::rows,b,L,hr,h=>Br rows _ _ (λq hq=>hr q (wh _ hq)) (Ip (hr r wv).1 (hr r wv).2 h)
theorem Ae(c:Nat):∀(m b:Nat),b<=tX c m b
 | 0,_=>wf _
 | m+1,b=>Pk (by omega) (Ae c m (2*b+c+12))
theorem yr(c:Nat):∀(m U b:Nat),m<=U->tX c m b<=tX c U b
 | 0,U,b,_=>Ae c U b
 | m+1,0,b,h=>absurd h (by omega)
 | m+1,U+1,b,h=>yr c m U _ (by omega)
def cF(x:List Int):Nat:=x.foldl (λb y=>b*2+if 0<y then 1 else 0) 0
theorem CT:∀(x:List Int) (b i:Nat),(x.foldl (λb y=>b*2+if 0<y then 1 else 0) b).testBit i=if i<x.length then decide (0<nth x (x.length-1-i)) else b.testBit (i-x.length)
 | [],b,i=>by simp
 | y::x,b,i=>by
  rw[Qp,CT x]
  have Y:(if 0<y then 1 else 0:Nat)<=1:=by split <;> omega
  have U:decide ((if 0<y then 1 else 0:Nat)=1)=decide (0<y):=by
   by_cases hy:0<y
   ·rw[if_pos hy,decide_eq_true hy];rfl
   ·rw[if_neg hy,decide_eq_false hy];rfl
  generalize (if 0<y then 1 else 0:Nat)=c at Y U
  by_cases h:i<x.length
  ·rw[if_pos h,if_pos (by simp;omega)]
   congr 2
   show nth x (x.length-1-i)=nth (y::x) (x.length+1-1-i)
   rw[show x.length+1-1-i=(x.length-1-i)+1 by omega]
   rfl
  ·rw[if_neg h]
   by_cases h2:i=x.length
   ·subst h2
    rw[if_pos (by simp),Sq,Nat.testBit_zero]
    show _=decide (0<nth (y::x) (x.length+1-1-x.length))
    rw[show x.length+1-1-x.length=0 by omega]
    show _=decide (0<y)
    rw[<- U]
    congr 1
    rw[eq_iff_iff]
    omega
   ·rw[if_neg (by simp;omega),wE,show i-x.length=(i-(x.length+1))+1 by omega,Nat.testBit_succ]
    congr 1
    omega
theorem nX(x:List Int)(i:Nat):(cF x).testBit i=decide (i<x.length/\0<nth x (x.length-1-i)):=by
 unfold cF
 rw[CT]
 by_cases h:i<x.length
 ·rw[if_pos h]
  by_cases h2:0<nth x (x.length-1-i)
  ·rw[decide_eq_true h2,decide_eq_true ⟨h,h2⟩]
  ·rw[decide_eq_false h2,decide_eq_false (λz=>h2 z.2)]
 ·rw[if_neg h,decide_eq_false (λz=>h z.1),Nat.zero_testBit]
theorem Eu:a|||b=b↔∀i,a.testBit i=true->b.testBit i=true:=by
 constructor
 ·intro h i hi
  rw[<- h,Rt,hi,Tn]
 ·intro h
  refine Nat.eq_of_testBit_eq λi=> ?_
  rw[Rt]
  cases ha:a.testBit i with
  | true=>rw[h i ha];rfl
  | false=>rw[S9]
theorem bits_sub(U:l.length=n)(Y:h.length=n)(hw:w.length=n)(nl:∀i,0<=nth l i)(nh:∀i,0<=nth h i)(nw:∀i,0<=nth w i):decide (cF l|||(cF h|||cF w)=cF h|||cF w)=subB n l h w:=by
 rw[Qa,decide_eq_true_eq,Eu,rK U]
 constructor
 ·intro H i hi
  have lt:i<n:=by
   by_cases e:i<n
   ·exact e
   ·exact absurd (di (by omega)) hi
  have:=H (n-1-i) (by
   rw[nX]
   refine decide_eq_true ⟨by omega, ?_⟩
   rw[U,show n-1-(n-1-i)=i by omega]
   have:=nl i
   omega)
  rw[Rt,Rf,nX,nX,decide_eq_true_eq,decide_eq_true_eq,Y,hw,show n-1-(n-1-i)=i by omega] at this
  rcases this with z | z
  ·exact .inl (by omega)
  ·exact .inr (by omega)
 ·intro H i hi
  rw[nX,decide_eq_true_eq,U] at hi
  rw[Rt,Rf,nX,nX,decide_eq_true_eq,decide_eq_true_eq,Y,hw]
  rcases H (n-1-i) (by omega) with z | z
  ·have:=nh (n-1-i)
   exact .inl ⟨hi.1,by omega⟩
  ·have:=nw (n-1-i)
   exact .inr ⟨hi.1,by omega⟩
structure Tight(left y:List Int)(a:Nat):Prop where
 pos:0<nth y a
 min:∀i,0<nth y i->nth left a*nth y i<=nth left i*nth y a
def eR(left y:List Int)(a:Nat):List Int:=(left.zip y).map λp=>p.1*nth y a-p.2*nth left a
def hV(left y:List Int)(bot:Int)(a:Nat):List Int:=low (eR left y a++[bot*nth y a])
abbrev Sh:Type:=(Int×Int)×List Int
def psS(i:Nat)(T:List Sh):Int×Int:=T.foldl (λq s=>(q.1*s.1.2,s.1.2*q.2+s.1.1*q.1*nth s.2 i)) (1,0)
theorem Ha(i:Nat)(T:List Sh)(s:Sh):psS i (T++[s])=((psS i T).1*s.1.2,s.1.2*(psS i T).2+s.1.1*(psS i T).1*nth s.2 i):=by
 unfold psS
 rw[SE]
 rfl
theorem rO(U:left.length=n)(hy:y.length=n)(i:Nat):nth (eR left y a) i=nth left i*nth y a-nth y i*nth left a:=by
 have ll:(eR left y a).length=n:=by unfold eR;rw[ut,Qq];omega
 by_cases h:i<n
 ·unfold eR nth
  simp[sH,uX (show i<left.length by omega),uX (show i<y.length by omega),uX (show i<(left.zip y).length by rw[Qq];omega)]
 ·rw[di (r:=eR left y a) (i:=i) (by omega),di (r:=left) (i:=i) (by omega),di (r:=y) (i:=i) (by omega),Qo,Qo]
  rfl
theorem Ax(U:left.length=n)(hy:y.length=n):(eR left y a).length=n:=by
 unfold eR;rw[ut,Qq];omega
theorem EL{i:Nat}(h:i<x.length):nth (x++y) i=nth x i:=by
 unfold nth
 rw[sH,sH,w6 h]
theorem FU{b:Int}:nth (x++[b]) x.length=b:=by
 unfold nth
 rw[sH]
 simp
theorem Ih{n i:Nat}(h:i<n):nth (x.take n) i=nth x i:=by
 unfold nth
 rw[sH,sH,List.getElem?_take,if_pos h]
structure Red(n:Nat)(left y:List Int)(bot:Int)(a:Nat)(g:Int)(l':List Int)(b':Int):Prop where
 gp:0<g
 len:l'.length=n
 lv:∀i,g*nth l' i=nth left i*nth y a-nth y i*nth left a
 bv:g*b'=bot*nth y a
theorem LD(U:left.length=n)(hy:y.length=n):Red n left y bot a (t9 (eR left y a++[bot*nth y a])) ((hV left y bot a).take n) (nth (hV left y bot a) n):=by
 have rl:=Ax (a:=a) U hy
 have Y:(hV left y bot a).length=n+1:=by unfold hV;rw[low_length];simp[rl]
 refine⟨mQ _,by rw[PY,Y];omega,λi=> ?_, ?_⟩
 ·by_cases h:i<n
  ·rw[Ih h]
   unfold hV
   rw[<- lQ,EL (by omega),rO U hy]
  ·rw[di (r:=(hV left y bot a).take n) (by rw[PY];omega),<- rO (a:=a) U hy,di (r:=eR left y a) (by omega)]
   omega
 ·unfold hV
  rw[<- lQ]
  conv=>lhs;rw[<- rl]
  exact FU
structure Shr(n:Nat)(R:List (List Int))(fit:List Int)(c:Nat)(ps:List (List Int))(T:List Sh)(left:List Int)(bot:Int):Prop where
 len:left.length=n
 nn:∀i,0<=nth left i
 bp:0<bot
 st:∀r∈R,cO n (nth r) (nth left)=0
 sub:Sub left fit
 cn:T.length+cnt left<=cnt fit
 good:∀s∈T,0<s.1.1/\0<s.1.2/\Pc s.1.1 s.1.2=1/\Sub s.2 fit
 sl:(T.map (·.2)).Sublist ps
 eq:∀i,bot*(psS i T).2+(psS i T).1*nth left i=(psS i T).1*bot*nth fit i
 no:∀y∈ps,¬Sub y left
 sz:SzL (c+8001*T.length) left
 szb:Sz (c+8001*T.length) bot
 szt:∀s∈T,Sz (c+8001*T.length) s.1.1/\Sz (c+8001*T.length) s.1.2
theorem Ia(U:fit.length=n)(hn:∀i,0<=nth fit i)(Y:∀r∈R,cO n (nth r) (nth fit)=0)(hz:SzL c fit)(hc:1<=c):Shr n R fit c [] [] fit 1:=
 ⟨U,hn,by decide,Y,Sub.refl _,by simp,by simp,by simp,λi=>by simp[psS],by simp,λx hx=>(hz x hx).mono (by simp),by
  unfold Sz
  have:2^1<=2^(c+8001*([]:List Sh).length):=QN (by decide) (by simp;omega)
  omega,by simp⟩
theorem Hh(h:Shr n R fit c ps T left bot)(hy:¬Sub y left):Shr n R fit c (ps++[y]) T left bot:=
 ⟨h.len,h.nn,h.bp,h.st,h.sub,h.cn,h.good,h.sl.trans (List.sublist_append_left _ _),h.eq,λz hz=>by
  rcases xz.mp hz with q | q
  ·exact h.no z q
  ·rw[ww.mp q];exact hy,h.sz,h.szb,h.szt⟩
theorem ub{m:Nat}{g x z:Int}(U:0<g)(e:g*x=z)(hz:Sz m z):Sz m x:=by
 unfold Sz at *
 have:x.natAbs<=z.natAbs:=by
  rw[<- e,Rq]
  exact Nat.le_mul_of_pos_left _ (by omega)
 omega
theorem DU{g x:Int}(U:0<g)(h:0<g*x):0<x:=Int.lt_of_mul_lt_mul_left (a:=g) (by rw[RX];exact h) (Sn U)
theorem NJ{g x:Int}(U:0<g)(h:0<=g*x):0<=x:=Int.le_of_mul_le_mul_left (a:=g) (by rw[RX];exact h) U
theorem Ge(g h B S P l U y la t b bot f Y b':Int)(hg:g≠0)(hh:h≠0)(e1:la=h*t)(e2:bot*U=h*b)(e3:g*Y=l*U-y*la)(e4:g*b'=bot*U)(hi:bot*S+P*l=P*bot*f):
 b'*(b*S+t*P*y)+P*b*Y=P*b*b'*f:=by
 have k:g*h*(b'*(b*S+t*P*y)+P*b*Y)=g*h*(P*b*b'*f):=by grind
 exact QQ (R5 hg hh) k
theorem Gy{left y Y:List Int}{bot b' g:Int}(h:Shr n R fit c ps T left bot)(ly:de n R y)(hs:Sub y left)(hz:SzL 8000 y)(t:Tight left y a)(r:Red n left y bot a g Y b'):
 Shr n R fit c (ps++[y]) (T++[(rat (nth left a) (bot*nth y a),y)]) Y b':=by
 have yl:=ly.fit.len
 have an:a<n:=ly.fit.lt (i:=a) (by have:=t.pos;omega)
 have ya:=t.pos
 have la:0<nth left a:=by
  have h1:=hs a (by omega)
  have h2:=h.nn a
  omega
 have Bp:0<bot*nth y a:=Qi h.bp ya
 obtain⟨k,k0,_,k1,k2,k3,k4⟩:=Ii (a:=nth left a) (b:=bot*nth y a) (by omega)
 have kp:0<k:=by
  have:0<k*(rat (nth left a) (bot*nth y a)).2:=by rw[<- k2];exact Bp
  exact DU (g:=(rat (nth left a) (bot*nth y a)).2) k3 (by rw[Qn];exact this)
 have k5:0<(rat (nth left a) (bot*nth y a)).1:=by
  have:0<k*(rat (nth left a) (bot*nth y a)).1:=by rw[<- k1];exact la
  exact DU kp this
 have y0:=ly.fit.nn
 have U:Sub Y left:=λi hi hz=>by
  have a2:nth y i=0:=by
   by_cases q:nth y i=0
   ·exact q
   ·exact absurd hz (hs i q)
  have:=r.lv i
  rw[hz,a2,Qo,Qo,Int.sub_self] at this
  rcases Qr.mp this with q | q
  ·have:=r.gp;omega
  ·exact hi q
 have at0:nth Y a=0:=by
  have:=r.lv a
  rw[Qn (nth left a),Int.sub_self] at this
  rcases Qr.mp this with q | q
  ·have:=r.gp;omega
  ·exact q
 have ae:∀i,Sz (c+8001*T.length+8001) (nth left i*nth y a-nth y i*nth left a):=λi=>by
  have z1:∀j,Sz (c+8001*T.length) (nth left j):=λj=>by
   by_cases q:j<left.length
   ·exact h.sz _ (eS q)
   ·rw[di (by omega)];exact Sz.zero _
  have z2:∀j,Sz 8000 (nth y j):=λj=>by
   by_cases q:j<y.length
   ·exact hz _ (eS q)
   ·rw[di (by omega)];exact Sz.zero _
  have:=Sz.sub (Sz.mul (z1 i) (z2 a)) (Sz.mul (z2 i) (z1 a))
  exact this.mono (by omega)
 have zb:Sz (c+8001*T.length+8001) (bot*nth y a):=(Sz.mul h.szb (hz _ (eS (show a<y.length by omega)))).mono (by omega)
 have zl:Sz (c+8001*T.length) (nth left a):=h.sz _ (eS (by rw[h.len];exact an))
 have tl:(T++[((rat (nth left a) (bot*nth y a),y):Sh)]).length=T.length+1:=by simp
 refine⟨r.len,λi=> ?_, ?_,λq hq=> ?_,λi hi=>h.sub i (U i hi), ?_,λs ab=> ?_, ?_,λi=> ?_,λz a3=> ?_,λx hx=> ?_, ?_,λs ab=> ?_⟩
 ·have e:=r.lv i
  have:0<=g*nth Y i:=by
   rw[e]
   by_cases q:0<nth y i
   ·have:=t.min i q
    rw[Qn (nth y i)]
    omega
   ·have:nth y i=0:=by have:=y0 i;omega
    rw[this,Qo,Int.sub_zero]
    exact P7 (h.nn i) (by omega)
  exact NJ r.gp this
 ·have:0<g*b':=by rw[r.bv];exact Bp
  exact DU r.gp this
 ·have e1:=h.st q hq
  have e2:=ly.fit.st q hq
  have e3:cO n (nth q) (nth (eR left y a))=0:=by
   rw[uy (c:=nth y a) (d:=nth left a) (x:=left) (y:=y) (λi=>by rw[rO h.len yl,Qn (nth left i),Qn (nth y i)]),e1,e2]
   omega
  have e4:cO n (nth q) (nth (eR left y a))=g*cO n (nth q) (nth Y):=by
   unfold cO
   rw[<- i8]
   refine fB λi _=> ?_
   rw[rO h.len yl,<- r.lv i,Int.mul_left_comm]
  rw[e4] at e3
  rcases Qr.mp e3 with z | z
  ·have:=r.gp;omega
  ·exact z
 ·have:=qm (x:=Y) (y:=left) (m:=a) (by rw[r.len,h.len]) U (by omega) at0
  have:=h.cn
  omega
 ·rcases xz.mp ab with q | q
  ·exact h.good s q
  ·rw[ww.mp q]
   exact⟨k5,k3,k4,λi hi=>h.sub i (hs i hi)⟩
 ·rw[Fa]
  exact h.sl.append (List.Sublist.refl _)
 ·rw[Ha]
  exact Ge g k (bot*nth y a) (psS i T).2 (psS i T).1 (nth left i) (nth y a) (nth y i) (nth left a) _ _ bot (nth fit i) (nth Y i) b' (by have:=r.gp;omega) k0 k1 k2 (r.lv i) r.bv (h.eq i)
 ·rcases xz.mp a3 with q | q
  ·exact λz2=>h.no z q λi hi=>U i (z2 i hi)
  ·rw[ww.mp q]
   exact λz2=>z2 a (by omega) at0
 ·obtain⟨i,hi,rfl⟩:=Py hx
  have e:Y[i]=nth Y i:=by unfold nth;rw[sH,uX hi];rfl
  rw[e,tl]
  exact(ub r.gp (r.lv i) (ae i)).mono (by omega)
 ·rw[tl]
  exact(ub r.gp r.bv zb).mono (by omega)
 ·rw[tl]
  rcases xz.mp ab with q | q
  ·exact⟨(h.szt s q).1.mono (by omega),(h.szt s q).2.mono (by omega)⟩
  ·rw[ww.mp q]
   exact⟨(ub kp k1.symm zl).mono (by omega),(ub kp k2.symm zb).mono (by omega)⟩
theorem Kt(h:Shr n R fit c ps T left bot)(all:∀l,de n R l->l∈ps)(i:Nat):(psS i T).2=(psS i T).1*nth fit i:=by
 have z:∀i,nth left i=0:=λi=>by
  by_cases q:nth left i=0
  ·exact q
  ·obtain⟨l,h1,h2⟩:=ua (cnt left) (wf _) (⟨h.len,h.nn,h.st,i,q⟩:Fit n R left)
   exact absurd h2 (h.no l (all l h1))
 have e:=h.eq i
 rw[z i,RX,Sr,Qn (psS i T).1 bot,Tb] at e
 exact QQ (by have:=h.bp;omega) e
def mkS(C:Int)(i:Nat)(m:Int)(T:List Sh):Int:=T.foldl (λm s=>m+s.1.1*(C/s.1.2)*nth s.2 i) m
theorem IH(ms:List Int)(lo hi:Nat):∃ks:List Int,cutD (ms.map D.int) (some (lo:Int)) (some (hi:Int))=ks.map D.int/\ks.length<=hi-lo:=by
 refine⟨(ms.drop (min lo ms.length)).take (min hi ms.length-min lo ms.length), ?_, ?_⟩
 ·unfold cutD
  rw[HT.qv,HT.qv,ut,Sf,Tc]
 ·rw[PY,RN]
  omega
theorem jI{g:GM}(U:ok s.o)(Y:g d s=.ok s1)(hb:body s1=.next s2):cD ok g body (d::ds) s=cD ok g body ds s2:=by
 rw[cD,if_pos U,Y,jQ,hb]
theorem IJ{α:Type}(l:List α):pick l none none (some (-1))=l.reverse:=by
 have hb:sliceBounds none none (some (-1)) l.length=((l.length:Int)-1,-1,-1):=by
  unfold sliceBounds
  rfl
 have U:sliceRange ((l.length:Int)-1) (-1) (-1)=(u8 l.length).map λ(k:Nat)=>((l.length:Int)-1 + -1*(k:Int)).toNat:=by
  unfold sliceRange
  have hc:(if (-1:Int)>0 then (if (l.length:Int)-1 < -1 then (-1-((l.length:Int)-1) + -1-1) / -1 else 0) else (if (l.length:Int)-1 > -1 then ((l.length:Int)-1 - -1 - -1-1) / - -1 else 0)).toNat=l.length:=by
   rw[if_neg (by decide)]
   split
   ·rw[show (- -1:Int)=1 by decide,Int.ediv_one];omega
   ·omega
  dsimp only
  rw[hc]
 unfold pick
 rw[hb]
 dsimp only
 rw[U]
 have key:∀m,m<=l.length->((u8 m).map λ(k:Nat)=>((l.length:Int)-1 + -1*(k:Int)).toNat).filterMap (l[·]?)=(l.reverse).take m:=by
  intro m
  induction m with
  | zero=>intro _;rfl
  | succ m Y=>
   intro hm
   rw[S4,Fa,List.filterMap_append,Y (by omega),List.take_succ,List.getElem?_reverse (by omega)]
   congr 1
   rw[List.map_singleton,show ((l.length:Int)-1 + -1*(m:Int)).toNat=l.length-1-m by omega,uX (by omega)]
   simp[uX (show l.length-1-m<l.length by omega)]
 rw[key l.length (wf _),Pu (by simp)]
abbrev sg(z:Str):List Nat:=z.cps.toList
theorem xf(z:Str):(sg z).length=z.length:=by unfold Str.length;simp
theorem tT{a b:Str}(h:sg a=sg b):a=b:=Str.ext' (RT.mp h)
theorem zS(a b:Str):sg (a++b)=sg a++sg b:=by
 show ((a++b:Str).cps).toList=_
 rw[Str.cps_append];simp
theorem zW{z:Str}{lo hi:Option Int}(Y:a<=b)(hb:b<=z.length)(h:Builtin.Str.strSliceIndices lo hi 1 z.length=(u8 (b-a)).map (λk=>a+k)):sg (kY z lo hi)=((sg z).drop a).take (b-a):=by
 have key:(((u8 (b-a)).map (λk=>a+k)).filterMap (λi=>(sg z)[i]?))=((sg z).drop a).take (b-a):=StrLaws.picks (sg z) (b-a) a (by rw[xf];omega)
 unfold kY
 rw[h]
 split
 ·rename_i U
  have U:b-a=z.length:=by simpa using U
  have ha:a=0:=by omega
  subst ha
  rw[Rr,Pu (by rw[xf];omega)]
 ·rw[<- key]
  simp[sg]
theorem Nd(h:b<=n):Builtin.Str.strSliceIndices none (some (b:Int)) 1 n=(u8 (b-0)).map (λk=>0+k):=by
 rw[<- StrLaws.strSliceIndices_plain (Ph b) h]
 unfold Builtin.Str.strSliceIndices
 simp
 rw[show max (0:Int) (min 0 (n:Int))=0 by omega]
theorem M9(h:a<=n):Builtin.Str.strSliceIndices (some (a:Int)) none 1 n=(u8 (n-a)).map (λk=>a+k):=by
 rw[<- StrLaws.strSliceIndices_plain h (wf n)]
 unfold Builtin.Str.strSliceIndices
 simp
 rw[if_neg (show ¬(n:Int)<0 by omega),show max (0:Int) (min (n:Int) (n:Int))=(n:Int) by omega]
theorem K9{z:Str}(h:b<=z.length):sg (kY z none (some (b:Int)))=(sg z).take b:=by
 rw[zW (Ph b) h (Nd h),Rr,So]
theorem JW{z:Str}(h:a<=z.length):sg (kY z (some (a:Int)) none)=(sg z).drop a:=by
 rw[zW h (wf _) (M9 h),Pu]
 rw[RN,xf];omega
section
variable {s s1 s2 : S} {R R' : List (Option D)} {O O' : aB} {d x y : D} {xs ys : List D}
theorem aH{f:Op2}{ma mb:EM}(ha:ma s=.ok (x,s1))(hb:mb s1=.ok (y,s2))(U:f s2.o x y=.ok d):aq f ma mb s=.ok (d,s2):=by
 rw[eU,ha,ak];dsimp only;rw[hb,ak];dsimp only;rw[U,ak]
theorem sT{f:Op1}{ma:EM}(ha:ma s=.ok (x,s1))(U:f s1.o x=.ok d):unM f ma s=.ok (d,s1):=by
 rw[Mq,ha,ak];dsimp only;rw[U,ak]
theorem cL{f:OpN}(ha:ma s=.ok (xs,s1))(U:f s1.o xs=.ok d):aX f ma s=.ok (d,s1):=by
 rw[iV,ha,ak];dsimp only;rw[U,ak]
theorem ax{r:AM}(ha:m s=.ok (x,s1))(hb:r s1=.ok (ys,s2)):af m r s=.ok (x::ys,s2):=by
 rw[a8,ha,ak];dsimp only;rw[hb,ak]
theorem um(ha:ma s=.ok (xs,s1))(U:xs.length<=16777216):lI ma s=.ok (.tup xs,s1):=by
 rw[Dk,ha,ak];dsimp only;rw[if_pos U]
theorem hU(ha:ma s=.ok (xs,s1))(U:xs.length<=16777216):dI ma s=.ok (.lst xs,s1):=by
 rw[KD,ha,ak];dsimp only;rw[if_pos U]
theorem oX(ha:ma s=.ok (xs,⟨R,O⟩))(U:xs.length<=16777216)(hn:O.length=n)(Y:O++[.lst xs]=O'):jf ma s=.ok (.ptr n,⟨R,O'⟩):=by
 rw[JY,ha,ak];dsimp only;rw[if_pos U,hn,Y]
theorem cK{b:Bool}(h:m s=.ok (.bl b,s1)):a7 m s=.ok (b,s1):=by
 rw[iq,h,ak]
theorem qD{m:TM}{b:Bool}(h:m s=.ok (b,s1)):nD m s=.ok (!b,s1):=by
 rw[xq,h,ak]
theorem wL{a b:TM}(h:a s=.ok (p,s1))(hp:p=false)(h2:b s1=.ok (q,s2)):orT a b s=.ok (q,s2):=by
 subst hp;rw[Bb,h,ak];exact h2
theorem Fx{a b:TM}(h:a s=.ok (p,s1))(hp:p=true)(h2:b s1=.ok (q,s2)):jM a b s=.ok (q,s2):=by
 subst hp;rw[yf,h,ak];exact h2
theorem MB{a b:TM}(h:a s=.ok (p,s1))(hp:p=false):jM a b s=.ok (false,s1):=by
 subst hp;rw[yf,h,ak];rfl
theorem bh{i:Nat}(h:m s=.ok (d,⟨R,O⟩))(U:R.set i (some d)=R'):setM i m s=.next ⟨R',O⟩:=by
 subst U;exact t8 h
theorem mz(h1:mo s=.ok (.ptr k,s1))(U:s1.o[k]? =some (.lst ds0))(h2:me s1=.ok (d,⟨R,O⟩))(Y:O[k]? =some (.lst ds))(hb:ds.length<=1000000)(hO:O.set k (.lst (ds++[d]))=O'):gU mo me s=.ok (.non,⟨R,O'⟩):=by
 subst hO;exact xI (s2:=⟨R,O⟩) h1 U h2 Y hb
theorem my(h:m s=.ok (.ptr k,⟨R,O⟩))(c:O[k]? =some (.lst ds))(U:O.set k .dead=O'):gy m s=.ok (.lst ds,⟨R,O'⟩):=by
 subst U;exact KA h c
theorem Lk(h:m s=.ok (x,⟨R,O⟩))(U:ug O x=some ds)(hn:O.length=n)(Y:O++[.lst ds]=O'):zL m s=.ok (.ptr n,⟨R,O'⟩):=by
 rw[GB,h,ak];dsimp only;rw[U];dsimp only;rw[hn,Y]
theorem Ni{f:Str}(h:m s=.ok (.obj c ns ds,s1))(hd:pF f ns ds=some d):lH c f m s=.ok (d,s1):=by
 rw[CW,h,ak]
 dsimp only
 rw[if_pos rfl,hd]
theorem CU{m:Str}(U:mo s=.ok (.obj c ns ds,s1))(ha:ma s1=.ok (args,s2))(Y:f (.obj c ns ds::args) []=.ok (x,O1))(hm:m∉ns)(hd:aM ds=true)(hp:aM args=true)(hl:args.length=n)(hr:cz x=true):
 methP c m n f mo ma s=.ok (x,s2):=va U hm hd ha hp hl Y hr
theorem c7(h:ma s=.ok (ds,s1))(U:f ds []=.ok (d,O1))(hp:aM ds=true)(Y:ds.length=n)(hd:cz d=true):aN n f ma s=.ok (d,s1):=dO h hp Y U hd
theorem kB(h:ma s=.ok (ds,⟨R,O⟩))(U:f ds []=.ok (x,O1))(hp:aM ds=true)(Y:ds.length=n)(hx:shD O.length x=y)(hO:O++O1.map (shC O.length)=O'):fe n f ma s=.ok (y,⟨R,O'⟩):=by
 subst hx;subst hO;exact G3 h hp Y U
theorem ql{ds rs:List D}(h:ma s=.ok (ds,s1))(U:bM s1.o (bM s1.o ds)=rs)(Y:f rs []=.ok (d,O1))(hp:aM rs=true)(hl:ds.length=n)(hd:nM d=true):fL n f ma s=.ok (d,s1):=by
 unfold fL
 rw[h,ak]
 dsimp only
 rw[U,if_pos ⟨hp,hl⟩,Y]
 dsimp only
 rw[if_pos hd]
theorem CM(h:ma s=.ok (ds,⟨R,O⟩))(U:f ds O=.ok (d,O1))(Y:ds.length=n):uh n f ma s=.ok (d,⟨R,O1⟩):=Gv h Y U
theorem M5{c:TM}(h:c s=.ok (p,s1))(hp:p=true):ifS c A B s=A s1:=by subst hp;exact IU h
theorem M4{c:TM}(h:c s=.ok (p,s1))(hp:p=false):ifS c A B s=B s1:=by subst hp;exact nR h
theorem lG(s:S):fE s=.ok (none,s):=rfl
theorem oU(h:m s=.ok (.int i,s1)):part m s=.ok (some i,s1):=by rw[CD,h,ak]
theorem Ht{Y mh:OM}{lo hi:Option Int}{U:S}{ds es:List D}(h:me s=.ok (x,s1))(hl:Y s1=.ok (lo,s2))(hh:mh s2=.ok (hi,U))(hd:lsD U.o x=some ds)(he:cutD ds lo hi=es):slM me Y mh s=.ok (.lst es,U):=by
 rw[Er,h,ak];dsimp only;rw[hl,ak];dsimp only;rw[hh,ak];dsimp only;rw[hd];dsimp only;rw[he]
theorem Jw{g:GM}(h:m s=.ok (d,s1))(U:g d s1=.ok s2):kc m g s=.next s2:=by
 rw[CG,h,ak];dsimp only;rw[U,jQ]
end
theorem E8:mn O (.int 10) (.int 25)=.ok (.int 10000000000000000000000000):=Bm (by decide) (by decide) (by decide)
section
variable {s s1 : S} {o : Out}
theorem aV{a b:SM}(h:a s=.next s1)(k:b s1=o):aR a b s=o:=(dU h).trans k
theorem fK{c:TM}(h:c s=.ok (p,s1))(hp:p=true)(k:A s1=o):ifS c A B s=o:=(M5 h hp).trans k
theorem cU{c:TM}(h:c s=.ok (p,s1))(hp:p=false)(k:B s1=o):ifS c A B s=o:=(M4 h hp).trans k
theorem dR{m:SM}{R:List (Option D)}(h:m ⟨ds.map some++tz (n-ds.length) none,O⟩=.ret d ⟨R,O1⟩):runM n m ds O=.ok (d,O1):=dQ h
theorem Mm{m:SM}{R:List (Option D)}(h:m ⟨ds.map some++tz (n-ds.length) none,O⟩=.next ⟨R,O1⟩):runM n m ds O=.ok (.non,O1):=by unfold runM;rw[h]
end
theorem u6{m:SM}(h:m ⟨ds.map some++tz (n-ds.length) none,O⟩=.ret d s):lN n m ds O=.ok (d,s.o):=by unfold lN;rw[h]
theorem oF{m:SM}{a:D}(h:m ⟨ds.map some++tz (n-ds.length) none,O⟩=.exc c a s):lN n m ds O=.exc c a s:=by unfold lN;rw[h]
theorem KY{m:SM}(h:m ⟨ds.map some++tz (n-ds.length) none,O⟩=.next s):lN n m ds O=.ok (.non,s.o):=by unfold lN;rw[h]
section
variable {s s1 s2 : S} {c : Nat} {a : D} {o : Out}
theorem zJ(h:A s=.exc c a s1):aR A B s=.exc c a s1:=by
 show (A s).then B=_
 rw[h];rfl
theorem x_raise{xs:List D}(h:ma s=.ok (xs,s1))(U:xs.length<=1000):qg c ma s=.exc c .non s1:=by
 unfold qg
 rw[h,jQ]
 dsimp only
 rw[if_pos (nW (by omega))]
theorem Kv(h:m s=.exc c a s1):cP m s=.exc c a s1:=by unfold cP;rw[h];rfl
theorem EO{i:Nat}(h:m s=.exc c a s1):setM i m s=.exc c a s1:=by unfold setM kc;rw[h];rfl
theorem MG(h:m s=.exc c a s1):bS m s=.exc c a s1:=by unfold bS;rw[h];rfl
theorem Gm{U:Nat->SM}(h:mb s=.next s1):sY mb U s=.next s1:=by unfold sY;rw[h]
theorem Gs{U:Nat->SM}(h:mb s=.exc c a s1)(k:U c s1=o):sY mb U s=o:=by unfold sY;rw[h];exact k
theorem Jj{sub:Nat->Option Bool}{mb U:Nat->SM}(h:sub c=some true)(k:mb c s=o):exM sub mb U c s=o:=by unfold exM;rw[h];exact k
theorem Jl{i:Nat}{R:List (Option D)}(h:mb ⟨R.set i (some (.exn c)),O⟩=.ret d s1):asM i mb c ⟨R,O⟩=.ret d s1:=by unfold asM;dsimp only;rw[h]
theorem mH{sub:Nat->Option Bool}{b:Bool}(h:m s=.ok (.exn c,s1))(U:sub c=some b):unM (nC sub) m s=.ok (.bl b,s1):=by
 refine sT h ?_
 unfold nC
 dsimp only
 rw[U]
theorem HQ{c n:Nat}{m:Str}{s s1 s2:S}(U:mo s=.ok (.obj c ns ds,s1))(hm:m∉ns)(hd:aM ds=true)(ha:ma s1=.ok (args,s2))(hp:aM args=true)(Y:args.length=n)(hf:f (.obj c ns ds::args) []=.ok (d,O)):
 gL c m n f mo ma s=.ok (shD s2.o.length d,⟨s2.r,s2.o++O.map (shC s2.o.length)⟩):=by
 unfold gL
 rw[U,ak]
 dsimp only
 rw[if_pos ⟨rfl,hm,hd⟩,ha,ak]
 dsimp only
 rw[if_pos ⟨hp,Y⟩,hf]
theorem sU{c n:Nat}{m:Str}{s s1 s2 U:S}{a:D}(Y:mo s=.ok (.obj c ns ds,s1))(hm:m∉ns)(hd:aM ds=true)(ha:ma s1=.ok (args,s2))(hp:aM args=true)(hl:args.length=n)(hf:f (.obj c ns ds::args) []=.exc k a U):
 gL c m n f mo ma s=.exc k a s2:=by
 unfold gL
 rw[Y,ak]
 dsimp only
 rw[if_pos ⟨rfl,hm,hd⟩,ha,ak]
 dsimp only
 rw[if_pos ⟨hp,hl⟩,hf]
theorem xN{c n:Nat}{m:Str}{s s1:S}{R:List (Option D)}{x y:D}(U:mo s=.ok (.obj c ns ds,s1))(ha:ma s1=.ok (args,⟨R,O⟩))(Y:f (.obj c ns ds::args) []=.ok (x,O1))(hm:m∉ns)(hd:aM ds=true)(hp:aM args=true)(hl:args.length=n)(hx:shD O.length x=y)(hO:O++O1.map (shC O.length)=O'):
 gL c m n f mo ma s=.ok (y,⟨R,O'⟩):=by
 subst hx;subst hO
 exact HQ U hm hd ha hp hl Y
theorem E5(h:m s=.exc c a s1):gy m s=.exc c a s1:=by unfold gy;rw[h];rfl
theorem Hl(h:m s=.exc c a s1):listI m s=.exc c a s1:=by unfold listI;rw[h];rfl
theorem Kw{caps:List Nat}{im:IM}{g:GM}{t:TM}{e:EM}(h:im s=.exc c a s1):bx n caps im g t e s=.exc c a s1:=by unfold bx jX;rw[h];rfl
theorem JV{r:AM}(h:m s=.exc c a s1):af m r s=.exc c a s1:=by unfold af;rw[h];rfl
theorem LC{f:OpN}(h:ma s=.exc c a s1):aX f ma s=.exc c a s1:=by unfold aX;rw[h];rfl
end
theorem KH{R:List (Option D)}{x y:D}{ds rs:List D}(h:ma s=.ok (ds,⟨R,O⟩))(Y:bM O (bM O ds)=rs)(hf:f rs []=.ok (x,O1))(hp:aM rs=true)(hl:ds.length=n)(hd:uz x=true)(U:O1.all zQ=true)(hx:shD O.length x=y)(hO:O++O1.map (shC O.length)=O'):xk n f ma s=.ok (y,⟨R,O'⟩):=by
 subst hx;subst hO
 unfold xk
 rw[h,ak]
 dsimp only
 rw[Y,if_pos ⟨hp,hl⟩,hf]
 dsimp only
 rw[if_pos ⟨hd,U⟩]
abbrev cR(L:List (Nat×List Int)):List D:=L.map λp=>.ptr p.1
def Sto(O:aB)(L:List (Nat×List Int)):Prop:=∀p∈L,O[p.1]? =some (.lst (p.2.map D.int))
theorem Sto.app(h:Sto O L)(E:aB):Sto (O++E) L:=λp hp=>eZ (h p hp)
theorem Sto.set{O:aB}{L:List (Nat×List Int)}(h:Sto O L){k:Nat}(hk:∀p∈L,p.1≠k)(c:Cell):Sto (O.set k c) L:=λp hp=>by rw[cN λz=>hk p hp z.symm];exact h p hp
theorem Sto.lt(h:Sto O L){p:Nat×List Int}(hp:p∈L):p.1<O.length:=oj (h p hp)
theorem wm{α:Type}{ok:aB->Prop}{e:EM}{cap:List (Option D)}{item:α->D}{f:α->List Int}{T:α->Nat->Prop}(I:aB->Prop)(hI:∀O E,I O->I (O++E))(Y:∀O,I O->ok O):
 ∀(l:List α) (U:List D) (x:Option D) (O:aB),I O->U.length+l.length<=16777216->
 (∀a∈l,∀O,I O->∃q E,e ⟨some (item a)::cap,O⟩=.ok (.ptr q,⟨some (item a)::cap,O++E⟩)/\(O++E)[q]? =some (.lst ((f a).map D.int))/\(T a q\/O.length<=q))->
 ∃(L:List (Nat×List Int)) (E:aB) (x':Option D),dZ ok (aF 0) bj e (l.map item) U ⟨x::cap,O⟩=.ok (U++cR L,⟨x'::cap,O++E⟩)/\L.map (·.2)=l.map f/\Sto (O++E) L/\∀p∈L,(∃a∈l,T a p.1)\/O.length<=p.1
 | [],U,x,O,h,_,_=>⟨[],[],x,by rw[PB,dZ,if_pos (Y _ h)];simp,rfl,(λp hp=>by cases hp),(λp hp=>by cases hp)⟩
 | a::l,U,x,O,h,hl,he=>by
  obtain⟨q,E,e1,e2,e3⟩:=he a wv O h
  rw[wE] at hl
  obtain⟨L,E',x',e4,e5,e6,e7⟩:=wm (T:=T) I hI Y l (U++[.ptr q]) (some (item a)) (O++E) (hI O E h) (by simp;omega) (λa ha=>he a (wh _ ha))
  refine⟨(q,f a)::L,E++E',x', ?_,by simp[e5],λp hp=> ?_,λp hp=> ?_⟩
  ·rw[AC,dZ,if_pos ⟨Y _ h,by omega⟩,Hk,ak,GS,ak]
   dsimp only
   rw[if_pos rfl,show (⟨List.set (x::cap) 0 (some (item a)),O⟩:S)=⟨some (item a)::cap,O⟩ from rfl,e1,ak]
   dsimp only
   rw[e4]
   simp
  ·rw[<- Pz]
   rcases wT.mp hp with rfl | hp
   ·exact eZ e2
   ·exact e6 p hp
  ·rcases wT.mp hp with rfl | hp
   ·rcases e3 with e3 | e3
    ·exact .inl ⟨a,wv,e3⟩
    ·exact .inr e3
   ·rcases e7 p hp with⟨b,hb,z⟩ | z
    ·exact .inl ⟨b,wh _ hb,z⟩
    ·exact .inr (by rw[FS] at z;omega)
theorem HA(O:aB)(c d:Cell):(O++[c]).set O.length d=O++[d]:=by
 induction O with
 | nil=>rfl
 | cons a O U=>exact congrArg (a:: ·) U
section
variable {α β : Type} (f g : α → β)
end
end M
namespace Lk23
open PySem PySem.Spec PyProof.Rows L2 M
noncomputable section
variable {a : Addr} {fd : FuncData} {s s1 : S} {i n k c m sp j g b : Nat} {z f : Str} {O : aB} {pre rest ds : List D} {d : D} {wd : List Nat} {goods zs : List Str} {l : List (Str × Int)} {ws : List Wk} {fi : Int} {me : EM} {R : List (Option D)} {A W rows : List (List Int)} {way x row fit left y l0 : List Int} {L : List (Nat × List Int)}
def top(i:Nat):Stmt:=PySem.Challenge.pw_modeyard_k23_ways_refused.main.body.getD i (.Pass ⟨0,0,0,0⟩)
abbrev qY:Stmt:=top 15
abbrev j1:Stmt:=top 16
abbrev sN:Stmt:=top 17
abbrev u5:Stmt:=top 18
abbrev yd:Stmt:=top 19
abbrev jL:Stmt:=top 21
abbrev Bo:Stmt:=top 22
abbrev xp:Stmt:=top 23
abbrev vZ:Stmt:=top 24
abbrev jh:Stmt:=top 25
abbrev qc:Stmt:=top 27
abbrev qC:Stmt:=top 28
abbrev kn:Stmt:=top 29
abbrev jt:Stmt:=top 30
abbrev BM:Stmt:=top 31
abbrev pX:Stmt:=top 32
abbrev ke:Stmt:=top 33
abbrev vC:Stmt:=top 34
abbrev fq:Stmt:=inClass (top 52) 7
abbrev jz:Stmt:=inClass (top 52) 5
abbrev iS:Stmt:=inClass (top 52) 6
abbrev gA:Stmt:=inClass (top 52) 8
abbrev fP:Stmt:=inClass (top 52) 9
abbrev ig:Stmt:=inClass (top 52) 3
abbrev vB:Stmt:=top 36
abbrev tV:Stmt:=top 41
abbrev ou:Stmt:=top 42
abbrev oY:Stmt:=top 43
abbrev nj:Stmt:=top 44
abbrev oR:Stmt:=top 45
abbrev lZ:Stmt:=top 46
abbrev nk:Stmt:=top 47
abbrev ng:Stmt:=top 48
abbrev pV:Stmt:=top 49
abbrev pU:Stmt:=top 50
abbrev pH:Stmt:=top 51
abbrev iQ:Stmt:=inClass (top 52) 0
abbrev qW:Stmt:=top 54
abbrev qH:Stmt:=top 55
abbrev p6:Stmt:=top 56
abbrev rG:Stmt:=top 57
abbrev pT:Stmt:=top 58
abbrev qb:Stmt:=top 59
abbrev qL:Stmt:=top 60
abbrev nt:Stmt:=top 61
abbrev n9:Stmt:=top 62
abbrev lK:Stmt:=top 63
abbrev rm:Stmt:=top 64
abbrev nO:Stmt:=top 65
def bc:Nat->Option Bool:=λc=>match c with
 | 1=>some false
 | 4=>some false
 | _=>none
def jY:Nat->Option Bool:=λc=>match c with
 | 1=>some true
 | 4=>some true
 | _=>none
def oA:Nat->Option Bool:=λc=>match c with
 | 1=>some true
 | 4=>some false
 | _=>none
def lC:Nat->Option Bool:=λc=>match c with
 | 1=>some false
 | 4=>some true
 | _=>none
def gq:Nat->Option Bool:=λc=>match c with
 | 1=>some true
 | 4=>some true
 | _=>none
def caK(K:sB):Nat->Addr:=λn=>match n with
 | 0=>clsAt K "Yard"
 | 1=>clsAt K "NoWay"
 | 2=>clsAt K "YardError"
 | 3=>clsAt K "NoAmount"
 | 4=>clsAt K "NoBalance"
 | 5=>clsAt K "NoFit"
 | 6=>clsAt K "NoGood"
 | 7=>clsAt K "NoName"
 | 8=>clsAt K "NoRow"
 | 9=>clsAt K "NoText"
 | 10=>clsAt K "NoRatio"
 | 11=>clsAt K "NoWeights"
 | 12=>clsAt K "NoWork"
 | 13=>clsAt K "TooMany"
 | _=>0
def we:SM:=
 (bS (Ie (unM (lq "int") (aa 0)) (GK (unM (lq "bool") (aa 0)))))
def fD:FM:=runM 1 we
def sJ:SM:=
 (aR (setM 2 (aq eM (aa 0) (aa 1)))
 (aR (setM 0 (aa 1))
 (setM 1 (aa 2))))
def vX:SM:=
 (aR (setM 0 (aX vT (af (aa 0) ao)))
 (aR (setM 1 (aX vT (af (aa 1) ao)))
 (aR (wj (λs=>xR 1 s) (a7 (aq neD (aa 1) (ar (.int 0))))
 sJ)
 (bS (aa 0)))))
def fm:FM:=runM 3 vX
def mE:SM:=
 (setM 1 (aN 2 fm (af (aa 1) (af (aa 2) ao))))
def o9:SM:=
 (aR (setM 1 (ar (.int 0)))
 (aR (fS (listI (aa 0)) (aF 2)
 mE)
 (bS (aa 1))))
def mT:FM:=runM 3 o9
def om:SM:=
 (aR (setM 1 (aN 1 mT (af (aa 0) ao)))
 (aR (ifS (a7 (aq eqD (aa 1) (ar (.int 0))))
 (bS (zL (aa 0)))
 bI)
 (bS (g9 1 [1] (listI (aa 0)) (aF 0) bj (aq gw (aa 0) (aa 1))))))
def j3:FM:=runM 2 om
def xQ:SM:=
 (aR (ifS (orT (nD (a7 (aN 1 fD (af (aa 0) ao)))) (nD (a7 (aN 1 fD (af (aa 1) ao)))))
 j7
 bI)
 (aR (ifS (a7 (aq eqD (aa 1) (ar (.int 0))))
 j7
 bI)
 (aR (setM 2 (aN 2 fm (af (aa 0) (af (aa 1) ao))))
 (aR (ifS (a7 (aq ltD (aa 1) (ar (.int 0))))
 (setM 2 (unM je (aa 2)))
 bI)
 (bS (lI (af (aq gw (aa 0) (aa 2)) (af (aq gw (aa 1) (aa 2)) ao))))))))
def n8:FM:=runM 3 xQ
def jN:SM:=
 (bS (aX oM (af (bx 2 [] (sP (af (aa 0) (af (aa 1) ao))) (cQ (aZ (aF 0) (aZ (aF 1) cS)) 2) bj (aq bR (aa 0) (aa 1))) ao)))
def bX:FM:=runM 2 jN
def AY:SM:=
 (aR (setM 2 (AK sW (af (ar (.int 0)) ao) (aa 1)))
 (aR (kc (ar (.int 1)) (vV (aa 2) (aa 0)))
 (bS (aa 2))))
def tf:FM:=runM 3 AY
def xC:SM:=
 (bS (bx 1 [0] (cH (af (aa 0) ao)) (aF 0) bj (fe 2 tf (af (aa 0) (af (aa 1) ao)))))
def uC:FM:=runM 1 xC
def v7:SM:=
 (aR (setM 4 (bx 2 [1,3] (sP (af (aa 0) (af (aa 2) ao))) (cQ (aZ (aF 0) (aZ (aF 1) cS)) 2) bj (aq gX (aq bR (aa 0) (aa 3)) (aq bR (aa 1) (aa 2)))))
 (bS (fe 1 j3 (af (aa 4) ao))))
def ot:FM:=runM 5 v7
def bY:SM:=
 (ifS (a7 (aq neD (aa 2) (ar (.int 0))))
 (bS (aa 1))
 bI)
def fF:SM:=
 (aR (fS (cZ (af (aa 0) ao)) (cQ (aZ (aF 1) (aZ (aF 2) cS)) 2)
 bY)
 (bS (ar .non)))
def gG:FM:=runM 3 fF
def nA:SM:=
 (aR (setM 1 (aq bR (aa 1) (ar (.int 2))))
 (ifS (a7 (aq gtD (aa 2) (ar (.int 0))))
 (setM 1 (aq bf (aa 1) (ar (.int 1))))
 bI))
def pR:SM:=
 (aR (setM 1 (ar (.int 0)))
 (aR (fS (listI (aa 0)) (aF 2)
 nA)
 (bS (aa 1))))
def dh:FM:=runM 3 pR
def rf:SM:=
 (bS (aq eqD (aq orD (aa 0) (aa 1)) (aa 1)))
def gE:FM:=runM 2 rf
def kh:SM:=
 (aR (setM 3 (aq orD (aa 0) (aa 1)))
 (bS (aq eqD (aX bE (af (bx 1 [3] (listI (aa 2)) (aF 0) (a7 (aN 2 gE (af (aa 0) (af (aa 1) ao)))) (aa 0)) ao)) (ar (.int 2)))))
def gj:FM:=runM 4 kh
def f6:SM:=
 (ifS (a7 (aN 3 gj (af (aq ixD (aa 3) (aa 7)) (af (aq ixD (aa 3) (aa 8)) (af (aa 3) ao)))))
 (cP (gU (aa 4) (xk 4 ot (af (aq ixD (aa 0) (aa 8)) (af (aq ixD (aa 2) (aa 8)) (af (aq ixD (aa 0) (aa 7)) (af (aq ixD (aa 2) (aa 7)) ao)))))))
 bI)
def iC:SM:=
 (fS (listI (aa 6)) (aF 8)
 f6)
def jk:SM:=
 (aR (setM 2 (bx 1 [1] (listI (aa 0)) (aF 0) bj (fL 2 bX (af (aa 1) (af (aa 0) ao)))))
 (aR (setM 3 (bx 1 [] (listI (aa 0)) (aF 0) bj (fL 1 dh (af (aa 0) ao))))
 (aR (setM 4 (g9 2 [] (sP (af (aa 0) (af (aa 2) ao))) (cQ (aZ (aF 0) (aZ (aF 1) cS)) 2) (a7 (aq eqD (aa 1) (ar (.int 0)))) (aa 0)))
 (aR (setM 5 (bx 2 [] (cZ (af (aa 2) ao)) (cQ (aZ (aF 0) (aZ (aF 1) cS)) 2) (a7 (aq gtD (aa 1) (ar (.int 0)))) (aa 0)))
 (aR (setM 6 (bx 2 [] (cZ (af (aa 2) ao)) (cQ (aZ (aF 0) (aZ (aF 1) cS)) 2) (a7 (aq ltD (aa 1) (ar (.int 0)))) (aa 0)))
 (aR (fS (listI (aa 5)) (aF 7)
 iC)
 (bS (gy (aa 4)))))))))
def gP:FM:=runM 9 jk
def vg:SM:=
 (setM 2 (uh 2 gP (af (aa 2) (af (aa 3) ao))))
def Am:SM:=
 (aR (setM 2 (uh 1 uC (af (aa 1) ao)))
 (aR (fS (listI (aa 0)) (aF 3)
 vg)
 (bS (ui sW (aa 2)))))
def qy:FM:=runM 4 Am
def pO:SM:=
 (aR (ifS (a7 (aq neD (aX bE (af (aa 2) ao)) (aa 1)))
 j7
 bI)
 (aR (ifS (a7 (aX ye (af (bx 1 [] (listI (aa 2)) (aF 0) bj (aq ltD (aa 0) (ar (.int 0)))) ao)))
 j7
 bI)
 (ifS (a7 (aX ye (af (bx 1 [2] (listI (aa 0)) (aF 0) bj (aq neD (aN 2 bX (af (aa 0) (af (aa 1) ao))) (ar (.int 0)))) ao)))
 j7
 bI)))
def mD:FM:=runM 3 pO
def dA:SM:=
 (ifS (jM (a7 (aq gtD (aa 4) (ar (.int 0)))) (a7 (aq ltD (aq bR (aq ixD (aa 0) (aa 3)) (aq ixD (aa 1) (aa 2))) (aq bR (aq ixD (aa 0) (aa 2)) (aa 4)))))
 (setM 2 (aa 3))
 bI)
def j6:SM:=
 (aR (setM 2 (aN 1 gG (af (aa 1) ao)))
 (aR (fS (cZ (af (aa 1) ao)) (cQ (aZ (aF 3) (aZ (aF 4) cS)) 2)
 dA)
 (bS (aa 2))))
def gs:FM:=runM 5 j6
def lD:SM:=
 (ifS (a7 (aN 2 gE (af (fL 1 dh (af (aa 6) ao)) (af (fL 1 dh (af (aa 4) ao)) ao))))
 (aR (setM 7 (fL 2 gs (af (aa 4) (af (aa 6) ao))))
 (aR (cP (gU (aa 3) (lI (af (aN 2 n8 (af (aq ixD (aa 4) (aa 7)) (af (aq bR (aa 5) (aq ixD (aa 6) (aa 7))) ao))) (af (aa 6) ao)))))
 (aR (setM 8 (sI 2 [7,4,6] (AF (af (aa 4) (af (aa 6) ao))) (cQ (aZ (aF 0) (aZ (aF 1) cS)) 2) bj (aq gX (aq bR (aa 0) (aq ixD (aa 4) (aa 2))) (aq bR (aa 1) (aq ixD (aa 3) (aa 2))))))
 (aR (setM 9 (gy (fe 1 j3 (af (aq bf (aa 8) (dI (af (aq bR (aa 5) (aq ixD (aa 6) (aa 7))) ao))) ao))))
 (aR (setM 4 (slM (aa 9) fE (part (aa 1))))
 (setM 5 (aq ixD (aa 9) (aa 1))))))))
 bI)
def vG:SM:=
 (aR (cP (aN 3 mD (af (aa 0) (af (aa 1) (af (aa 2) ao)))))
 (aR (setM 3 (jf ao))
 (aR (setM 4 (aX iD (af (aa 2) ao)))
 (aR (setM 5 (ar (.int 1)))
 (aR (fS (listI (gy (fe 2 qy (af (aa 0) (af (aa 1) ao))))) (aF 6)
 lD)
 (bS (aa 3)))))))
def rB:FM:=runM 10 vG
def ee:SM:=
 (aR (ifS (a7 (aq neD (aX bE (af (aa 1) ao)) (aX bE (af (lH 0 "held_works" (aa 0)) ao))))
 (qg 1 (af (ar (.str ("a way has a number for each work" :Str))) ao))
 bI)
 (ifS (a7 (aX ye (af (bx 1 [] (listI (aa 1)) (aF 0) bj (aq ltD (aa 0) (ar (.int 0)))) ao)))
 (qg 1 (af (ar (.str ("no work goes less often than never" :Str))) ao))
 bI))
def fo:FM:=lN 2 ee
def lj:SM:=
 (bS (bx 1 [1] (listI (lH 0 "held_changes" (aa 0))) (aF 0) bj (aq ixD (aa 0) (aa 1))))
def kO:FM:=runM 2 lj
def gY:SM:=
 (bS (bx 1 [0] (cH (af (aX bE (af (lH 0 "held_goods" (aa 0)) ao)) ao)) (aF 0) bj (methP 0 "row" 1 kO (aa 1) (af (aa 0) ao))))
def gb:FM:=runM 1 gY
def fR:SM:=
 (aR (cP (gL 0 "check_way" 1 fo (aa 0) (af (aa 1) ao)))
 (bS (g9 1 [1] (listI (methP 0 "rows" 0 gb (aa 0) ao)) (aF 0) bj (aN 2 bX (af (aa 0) (af (aa 1) ao))))))
def d7:FM:=lN 2 fR
def dv:SM:=
 (bS (aX DH (af (bx 1 [] (listI (gy (gL 0 "leaves" 1 d7 (aa 0) (af (aa 1) ao)))) (aF 0) bj (aq eqD (aa 0) (ar (.int 0)))) ao)))
def dq:FM:=lN 2 dv
def ju:SM:=
 (bS (bx 1 [] (listI (lH 0 "held_works" (aa 0))) (aF 0) bj (aq ixD (aa 0) (ar (.int 0)))))
def lE:FM:=runM 1 ju
def kq:SM:=
 (aR (ifS (nD (a7 (gL 0 "balanced" 1 dq (aa 0) (af (aa 1) ao))))
 (qg 4 (af (ar (.str ("the way leaves more or less than nothing of some good" :Str))) ao))
 bI)
 (bS (fe 3 rB (af (methP 0 "rows" 0 gb (aa 0) ao) (af (aX bE (af (methP 0 "names" 0 lE (aa 0) ao) ao)) (af (aa 1) ao))))))
def jr:FM:=lN 2 kq
def sS:SM:=
 (aR (ifS (orT (a7 (aq ltD (aX bE (af (aa 0) ao)) (ar (.int 1)))) (a7 (aq gtD (aX bE (af (aa 0) ao)) (ar (.int 8)))))
 (bS (ar (.bl false)))
 bI)
 (bS (aX DH (af (bx 1 [] (DP (aa 0)) (aF 0) bj (kI rH rH (ar (.str ("a" :Str))) (aa 0) (ar (.str ("z" :Str))))) ao))))
def mV:FM:=runM 1 sS
def oW:SM:=
 (aR (ifS (a7 (aq gtD (aX bE (af (aa 0) ao)) (ar (.int 10))))
 j7
 bI)
 (ifS (a7 (aq gtD (aX bE (af (aa 1) ao)) (ar (.int 10))))
 j7
 bI))
def jg:FM:=runM 2 oW
def oZ:SM:=
 (aR (ifS (nD (a7 (aN 1 mV (af (aa 0) ao))))
 j7
 bI)
 (ifS (a7 (aq inD (aa 0) (aa 1)))
 j7
 bI))
def gr:FM:=runM 2 oZ
def i5:SM:=
 (cP (aN 2 gr (af (aa 2) (af (slM (aa 0) fE (part (aa 1))) ao))))
def nv:SM:=
 (fS (cZ (af (aa 0) ao)) (cQ (aZ (aF 1) (aZ (aF 2) cS)) 2)
 i5)
def iN:FM:=runM 3 nv
def oK:SM:=
 (aR (ifS (a7 (aq tq (aa 0) (aa 1)))
 j7
 bI)
 (ifS (a7 (aq inD (aa 0) (aa 2)))
 j7
 bI))
def ji:FM:=runM 3 oK
def mf:SM:=
 (ifS (orT (nD (a7 (aN 1 fD (af (aa 0) ao)))) (a7 (aq ltD (aa 0) (ar (.int 1)))))
 j7
 bI)
def hZ:FM:=runM 1 mf
def i4:SM:=
 (aR (cP (fL 3 ji (af (aa 3) (af (aa 1) (af (aa 2) ao)))))
 (aR (cP (aN 1 hZ (af (aa 4) ao)))
 (cP (gU (aa 2) (aa 3)))))
def nu:SM:=
 (aR (setM 2 (jf ao))
 (fS (listI (aa 0)) (cQ (aZ (aF 3) (aZ (aF 4) cS)) 2)
 i4))
def eY:FM:=runM 5 nu
def i3:SM:=
 (aR (cP (fL 2 gr (af (aa 3) (af (aa 2) ao))))
 (aR (cP (aN 2 eY (af (aa 4) (af (aa 1) ao))))
 (aR (cP (aN 2 eY (af (aa 5) (af (aa 1) ao))))
 (cP (gU (aa 2) (aa 3))))))
def nr:SM:=
 (aR (setM 2 (jf ao))
 (fS (listI (aa 0)) (cQ (aZ (aF 3) (aZ (aF 4) (aZ (aF 5) cS))) 3)
 i3))
def iK:FM:=runM 6 nr
def pG:SM:=
 (bS (lI (af (aq ixD (aa 0) (ar (.int 0))) (af (aX iD (af (aq ixD (aa 0) (ar (.int 1))) ao)) (af (aX iD (af (aq ixD (aa 0) (ar (.int 2))) ao)) ao)))))
def jS:FM:=runM 1 pG
def pZ:SM:=
 (bS (aX oM (af (bx 1 [0] (listI (aa 1)) (aF 0) (a7 (aq eqD (aq ixD (aa 0) (ar (.int 0))) (aa 1))) (aq ixD (aa 0) (ar (.int 1)))) ao)))
def eJ:FM:=runM 2 pZ
def pY:SM:=
 (bS (bx 1 [0] (listI (aa 1)) (aF 0) bj (aq gX (aN 2 eJ (af (aa 0) (af (aq ixD (aa 1) (ar (.int 2))) ao))) (aN 2 eJ (af (aa 0) (af (aq ixD (aa 1) (ar (.int 1))) ao))))))
def jU:FM:=runM 2 pY
def jO:SM:=
 (aR (cP (aN 2 jg (af (aa 1) (af (aa 2) ao))))
 (aR (cP (aN 1 iN (af (aa 1) ao)))
 (aR (cP (aN 2 iK (af (aa 2) (af (aa 1) ao))))
 (aR (qI 0 "held_goods" (aa 0) (aX iD (af (aa 1) ao)))
 (aR (qI 0 "held_works" (aa 0) (bx 1 [] (listI (aa 2)) (aF 0) bj (aN 1 jS (af (aa 0) ao))))
 (qI 0 "held_changes" (aa 0) (bx 1 [1] (listI (aa 2)) (aF 0) bj (aN 2 jU (af (aa 0) (af (aa 1) ao))))))))))
def iR:FM:=runM 3 jO
def rA:SM:=
 (aR (ifS (a7 (aq ltD (aa 1) (aX bE (af (aa 0) ao))))
 (bS (aq ixD (aa 0) (aa 1)))
 bI)
 (bS (ar (.int 0))))
def cM:FM:=runM 2 rA
def qO:SM:=
 (aR (setM 3 (aq eM (aq bR (aq bf (aq eM (aa 0) (ar (.int 2147483647))) (ar (.int 7))) (aq bf (ar (.int 48271)) (aq bR (ar (.int 7919)) (aa 1)))) (ar (.int 2147483647))))
 (bS (aq eM (aq gw (aq eM (aq bR (aa 3) (ar (.int 16807))) (ar (.int 2147483647))) (ar (.int 8))) (aa 2))))
def aK:FM:=runM 4 qO
def iI:SM:=
 (setM 3 (aq bf (aa 3) (aq ixD (aa 2) (aN 3 aK (af (aa 0) (af (aq bf (ar (.int 2)) (aa 4)) (af (ar (.int 26)) ao)))))))
def p9:SM:=
 (aR (setM 2 (ar (.str ("abcdefghijklmnopqrstuvwxyz" :Str))))
 (aR (setM 3 (ar (.str ("" :Str))))
 (aR (fS (cH (af (aN 3 aK (af (aa 0) (af (ar (.int 1)) (af (ar (.int 8)) ao)))) ao)) (aF 4)
 iI)
 (aR (setM 5 (aN 3 aK (af (aa 0) (af (ar (.int 10)) (af (aq bf (aX bE (af (aa 3) ao)) (ar (.int 1))) ao)))))
 (aR (setM 6 (aN 3 aK (af (aa 0) (af (ar (.int 11)) (af (ar (.int 26)) ao)))))
 (bS (bx 1 [6,2,5,3] (cH (af (aa 1) ao)) (aF 0) bj (aq bf (aq bf (slS (aa 4) fE (part (aa 3))) (aq ixD (aa 2) (aq eM (aq bf (aa 1) (aq bR (ar (.int 5)) (aa 0))) (ar (.int 26))))) (slS (aa 4) (part (aa 3)) fE)))))))))
def dG:FM:=runM 7 p9
def kL:SM:=
 (aR (setM 7 (aq gX (aN 3 aK (af (aa 0) (af (aq bf (ar (.int 20)) (aa 6)) (af (ar (.int 7)) ao)))) (ar (.int 3))))
 (aR (ifS (a7 (aa 2))
 (setM 7 (aq gX (aq bf (aq bR (aa 7) (aq eM (aa 0) (aq mn (ar (.int 10)) (ar (.int 12))))) (aN 3 aK (af (aa 0) (af (aq bf (ar (.int 30)) (aa 6)) (af (ar (.int 2000)) ao))))) (ar (.int 1000))))
 bI)
 (aR (ifS (jM (a7 (aq eqD (aq eM (aa 0) (ar (.int 2))) (ar (.int 1)))) (a7 (aq gtD (aa 4) (ar (.int 0)))))
 (aR (setM 7 (aq gX (aq eM (aa 4) (aa 5)) (aq gw (aa 5) (ar (.int 2)))))
 (setM 4 (aq gw (aa 4) (aa 5))))
 bI)
 (cP (gU (aa 3) (aa 7))))))
def qP:SM:=
 (aR (setM 3 (jf ao))
 (aR (setM 4 (aq gw (aa 0) (ar (.int 2))))
 (aR (setM 5 (aq ixD (dI (af (ar (.int 7)) (af (aq bf (aq bR (ar (.int 2)) (aq mn (ar (.int 10)) (ar (.int 12)))) (ar (.int 1))) ao))) (aX intOf (af (aa 2) ao))))
 (aR (fS (cH (af (aa 1) ao)) (aF 6)
 kL)
 (bS (aa 3))))))
def lg:FM:=runM 8 qP
def iM:SM:=
 (cP (gU (aa 4) (gy (fe 3 lg (af (aq bf (aN 2 cM (af (aa 0) (af (aq bf (aq bf (aa 1) (ar (.int 1))) (aa 6)) ao))) (aq bR (ar (.int 13)) (aa 6))) (af (aa 2) (af (aa 5) ao)))))))
def iO:SM:=
 (aR (setM 8 (bx 1 [3,6] (cH (af (aX bE (af (aa 4) ao)) ao)) (aF 0) bj (aq eM (aN 3 aK (af (aa 1) (af (aq bf (aq bf (ar (.int 50)) (aq bR (ar (.int 7)) (aa 2))) (aa 0)) (af (ar (.int 4)) ao)))) (ar (.int 3)))))
 (aR (setM 9 (bx 1 [4,8] (cH (af (aa 2) ao)) (aF 0) bj (aX oM (af (bx 1 [0,1,2] (cH (af (aX bE (af (aa 1) ao)) ao)) (aF 0) bj (aq bR (aq ixD (aa 3) (aa 0)) (aq ixD (aq ixD (aa 2) (aa 0)) (aa 1)))) ao))))
 (aR (cP (gU (aa 4) (bx 1 [] (listI (aa 9)) (aF 0) bj (unM je (aa 0)))))
 (cP (gU (aa 7) (aq bf (aa 8) (dI (af (ar (.int 1)) ao))))))))
def pC:SM:=
 (aR (setM 3 (aN 2 cM (af (aa 0) (af (aa 1) ao))))
 (aR (setM 4 (jf ao))
 (aR (setM 5 (aq eqD (aN 3 aK (af (aa 3) (af (ar (.int 41)) (af (ar (.int 6)) ao)))) (ar (.int 0))))
 (aR (fS (cH (af (aq eM (aN 3 aK (af (aa 3) (af (ar (.int 40)) (af (ar (.int 5)) ao)))) (aq gX (ar (.int 5)) (aq bR (ar (.int 2)) (aX intOf (af (aa 5) ao))))) ao)) (aF 6)
 iM)
 (aR (setM 7 (jf ao))
 (aR (fS (cH (af (aq gw (aN 3 aK (af (aa 3) (af (ar (.int 42)) (af (ar (.int 3)) ao)))) (aq bf (ar (.int 1)) (aX intOf (af (aa 5) ao)))) ao)) (aF 6)
 iO)
 (aR (ifS (jM (a7 (aq eqD (aN 3 aK (af (aa 3) (af (ar (.int 43)) (af (ar (.int 5)) ao)))) (ar (.int 0)))) (a7 (aq ltD (aX bE (af (aa 4) ao)) (ar (.int 6)))))
 (aR (cP (t7 (aa 4) (bx 1 [] (cH (af (aa 2) ao)) (aF 0) bj (ar (.int 0)))))
 (setM 7 (A2 (bx 1 [] (listI (aa 7)) (aF 0) bj (aq bf (dI (af (ar (.int 0)) ao)) (aa 0))) (dI (af (dI (af (ar (.int 1)) ao)) ao)))))
 bI)
 (aR (ifS (jM (a7 (aq eqD (aN 3 aK (af (aa 3) (af (ar (.int 44)) (af (ar (.int 5)) ao)))) (ar (.int 0)))) (a7 (kI ltD ltD (ar (.int 0)) (aX bE (af (aa 4) ao)) (ar (.int 6)))))
 (cP (gU (aa 4) (aX iD (af (aq ixD (aa 4) (unM je (ar (.int 1)))) ao))))
 bI)
 (bS (lI (af (aa 4) (af (g9 1 [4] (listI (aa 7)) (aF 0) bj (aq bf (aa 0) (bx 1 [] (cH (af (aq gX (aX bE (af (aa 1) ao)) (aX bE (af (aa 0) ao))) ao)) (aF 0) bj (ar (.int 0))))) ao))))))))))))
def g6:FM:=runM 10 pC
def iJ:SM:=
 (aR (setM 11 (aq bR (aq gw (aN 3 aK (af (aq bf (aa 3) (aa 5)) (af (aq bf (ar (.int 70)) (aa 9)) (af (ar (.int 4)) ao)))) (ar (.int 3))) (aq bf (ar (.int 1)) (aN 3 aK (af (aq bf (aa 3) (aa 5)) (af (aq bf (ar (.int 80)) (aa 9)) (af (ar (.int 9)) ao)))))))
 (aR (ifS (a7 (aq gtD (aq bf (aa 11) (aX nP (af (ar (.int 0)) (af (unM je (aa 10)) ao)))) (ar (.int 0))))
 (cP (gU (aa 7) (lI (af (aq ixD (aa 1) (aa 9)) (af (aq bf (aa 11) (aX nP (af (ar (.int 0)) (af (unM je (aa 10)) ao)))) ao)))))
 bI)
 (ifS (a7 (aq gtD (aq bf (aa 11) (aX nP (af (ar (.int 0)) (af (aa 10) ao)))) (ar (.int 0))))
 (cP (gU (aa 8) (lI (af (aq ixD (aa 1) (aa 9)) (af (aq bf (aa 11) (aX nP (af (ar (.int 0)) (af (aa 10) ao)))) ao)))))
 bI)))
def iL:SM:=
 (aR (setM 7 (jf ao))
 (aR (setM 8 (jf ao))
 (aR (fS (cZ (af (aa 6) ao)) (cQ (aZ (aF 9) (aZ (aF 10) cS)) 2)
 iJ)
 (aR (ifS (a7 (aq eqD (aN 3 aK (af (aq bf (aa 3) (aa 5)) (af (ar (.int 90)) (af (ar (.int 2)) ao)))) (ar (.int 1))))
 (setM 7 (zV DN (aa 7) fE fE (part (unM je (ar (.int 1))))))
 bI)
 (cP (gU (aa 4) (lI (af (aq ixD (aa 2) (aa 5)) (af (vq (aa 7)) (af (gy (aa 8)) ao))))))))))
def pE:SM:=
 (aR (setM 4 (jf ao))
 (aR (fS (cZ (af (aa 0) ao)) (cQ (aZ (aF 5) (aZ (aF 6) cS)) 2)
 iL)
 (bS (gy (aa 4)))))
def gZ:FM:=runM 12 pE
def qK:SM:=
 (bS (g9 1 [0,1] (cH (af (aa 2) ao)) (aF 0) bj (aX oM (af (bx 1 [0,1,2] (cH (af (aX bE (af (aa 1) ao)) ao)) (aF 0) bj (aq bR (aq ixD (aa 3) (aa 0)) (aq ixD (aq ixD (aa 2) (aa 0)) (aa 1)))) ao))))
def jE:FM:=runM 3 qK
def iE:SM:=
 (aR (ifS (a7 (unM (nC bc) (aa 0)))
 (bS (ar (.str ("another" :Str))))
 bI)
 (aR (ifS (orT (nD (a7 (unM (nC jY) (aa 0)))) (a7 (aq eqD (unM (nC oA) (aa 0)) (unM (nC lC) (aa 0)))))
 (bS (ar (.str ("two" :Str))))
 bI)
 (bS (aq ixD (dI (af (ar (.str ("balance" :Str))) (af (ar (.str ("way" :Str))) ao))) (aX intOf (af (unM (nC oA) (aa 0)) ao))))))
def eW:FM:=runM 1 iE
def jj:SM:=
 (aR (sY (setM 2 (gy (qd 2 jr (af (aa 0) (af (aa 1) ao)))))
 (exM gq (asM 3 (bS (aN 1 eW (af (aa 3) ao))))
 II))
 (bS (aq ixD (dI (af (ar (.str ("no list" :Str))) (af (ar (.str ("told" :Str))) ao))) (aX intOf (af (unM (lq "list") (aa 2)) ao)))))
def d4:FM:=runM 4 jj
def ik:SM:=
 (aR (sY (setM 2 (gL 0 "balanced" 1 dq (aa 0) (af (aa 1) ao)))
 (exM gq (asM 3 (bS (aq ixD (dI (af (ar (.str ("two" :Str))) (af (ar (.str ("way" :Str))) ao))) (aX intOf (af (aq eqD (aN 1 eW (af (aa 3) ao)) (ar (.str ("way" :Str)))) ao)))))
 II))
 (aR (ifS (nD (a7 (unM (lq "bool") (aa 2))))
 (bS (ar (.str ("no truth" :Str))))
 bI)
 (bS (aq ixD (dI (af (ar (.str ("balance" :Str))) (af (ar (.str ("told" :Str))) ao))) (aX intOf (af (aa 2) ao))))))
def eH:FM:=runM 4 ik
def rQ:SM:=
 (aR (setM 2 (g9 1 [0] (cH (af (aa 1) ao)) (aF 0) bj (aN 3 aK (af (aa 1) (af (aa 0) (af (ar (.int 4)) ao))))))
 (aR (ifS (a7 (aq eqD (aq eM (aa 0) (ar (.int 2))) (ar (.int 1))))
 (setM 2 (g9 1 [0] (cH (af (aa 1) ao)) (aF 0) bj (aq wM (aq Aj (aa 1) (aq bf (ar (.int 1)) (aq bR (ar (.int 2)) (aa 0)))) (ar (.int 3)))))
 bI)
 (aR (ifS (a7 (aq eqD (aN 3 aK (af (aa 0) (af (ar (.int 10)) (af (ar (.int 4)) ao)))) (ar (.int 0))))
 (setM 2 (g9 1 [0] (listI (aa 2)) (aF 0) bj (aq bR (aa 0) (aq eM (aa 1) (aq mn (ar (.int 10)) (ar (.int 25)))))))
 bI)
 (aR (ifS (jM (a7 (aq eqD (aN 3 aK (af (aa 0) (af (ar (.int 11)) (af (ar (.int 3)) ao)))) (ar (.int 0)))) (a7 (aq gtD (aa 1) (ar (.int 0)))))
 (kc (aq gX (unM je (ar (.int 1))) (aq eM (aa 0) (aq mn (ar (.int 10)) (ar (.int 12))))) (vV (aa 2) (aN 3 aK (af (aa 0) (af (ar (.int 12)) (af (aa 1) ao))))))
 bI)
 (aR (ifS (a7 (aq eqD (aN 3 aK (af (aa 0) (af (ar (.int 13)) (af (ar (.int 3)) ao)))) (ar (.int 0))))
 (setM 2 (aq ixD (dI (af (aq bf (aa 2) (dI (af (ar (.int 0)) ao))) (af (slM (aa 2) (part (ar (.int 1))) fE) ao))) (aq bR (aX intOf (af (aq gtD (aa 1) (ar (.int 0))) ao)) (aN 3 aK (af (aa 0) (af (ar (.int 14)) (af (ar (.int 2)) ao)))))))
 bI)
 (bS (vq (aa 2))))))))
def k8:FM:=runM 3 rQ
def uc:SM:=
 (aR (setM 9 (aN 2 k8 (af (aa 8) (af (aX bE (af (aa 3) ao)) ao))))
 (aR (setM 10 (ar (.str ("way" :Str))))
 (aR (ifS (jM (a7 (aq eqD (aX bE (af (aa 9) ao)) (aX bE (af (aa 3) ao)))) (a7 (aq geD (rC (aa 9) (ar (.int 0))) (ar (.int 0)))))
 (setM 10 (aq ixD (dI (af (ar (.str ("balance" :Str))) (af (ar (.str ("told" :Str))) ao))) (aX intOf (af (aq eqD (gy (fe 3 jE (af (aa 3) (af (aa 9) (af (aa 2) ao))))) (bx 1 [] (cH (af (aa 2) ao)) (aF 0) bj (ar (.int 0)))) ao))))
 bI)
 (aR (setM 11 (aX iD (af (aa 9) ao)))
 (aR (ifS (orT (a7 (aq neD (aN 2 d4 (af (aa 6) (af (aa 11) ao))) (aa 10))) (orT (a7 (aq neD (aN 2 eH (af (aa 6) (af (aa 11) ao))) (aa 10))) (a7 (aq neD (aa 11) (aa 9)))))
 (bS (ar (.bl false)))
 bI)
 (ifS (a7 (aq neD (aN 2 d4 (af (aa 6) (af (aX iD (af (aa 7) ao)) ao))) (ar (.str ("told" :Str)))))
 (bS (ar (.bl false)))
 bI))))))
def Ee:SM:=
 (aR (setM 1 (aN 2 cM (af (aa 0) (af (ar (.int 0)) ao))))
 (aR (setM 2 (aq bf (ar (.int 1)) (aN 3 aK (af (aa 1) (af (ar (.int 45)) (af (ar (.int 4)) ao))))))
 (aR (kc (yc (fe 3 g6 (af (aa 0) (af (ar (.int 0)) (af (aa 2) ao))))) (cQ (aZ (aF 3) (aZ (aF 4) cS)) 2))
 (aR (setM 5 (aN 2 dG (af (aq bf (aa 1) (ar (.int 1))) (af (aa 2) ao))))
 (aR (setM 6 (uq 0 2 iR (af (aa 5) (af (aN 4 gZ (af (aa 3) (af (aa 5) (af (aN 2 dG (af (aa 1) (af (aX bE (af (aa 3) ao)) ao))) (af (aa 1) ao))))) ao))))
 (aR (setM 7 (aq ixD (aq bf (aa 4) (dI (af (bx 1 [] (listI (aa 3)) (aF 0) bj (ar (.int 0))) ao))) (ar (.int 0))))
 (aR (fS (listI (aq bf (dI (af (aN 2 cM (af (aa 0) (af (ar (.int 5)) ao))) ao)) (slM (aa 0) (part (ar (.int 6))) (part (ar (.int 13)))))) (aF 8)
 uc)
 (bS (ar (.bl true))))))))))
def zO:FM:=runM 12 Ee
section
variable {e : Ev}
theorem B6:a0 ["value"] ["value"] (aJ qY):=cB
abbrev rh(e:Ev):Prop:=DIn e 35 "is_whole" ["value"] fD
theorem Cn(F:FA e "is_whole" qY)(ac:e.P.given.tree=none)(U:N0 e "isinstance")(ab:N0 e "int")(Y:N0 e "bool"):rh e:=by
 exact bN F B6 rfl (by decide) (bd1 λ_ _ _ _ _ _ _=>rfl) λ_ _ _ _ _ _ _ hr hu ae=>⟨_,(aI (bu (Lo (a9 qX rfl U Boot.«isinstance» (ai (pv 0) (ai (qi (v:=.ty "int") rfl ab Boot.«int» rfl) au))) (LM (L6 (a9 qX rfl U Boot.«isinstance» (ai (pv 0) (ai (qi (v:=.ty "bool") rfl Y Boot.«bool» rfl) au)))))))),
  (br (Kc (wZ ty_int (ah 0)) (JQ (wZ ty_bool (ah 0)))))⟩
theorem eT:a0 ["one","other","rest"] ["one","other"] (aJ j1):=cB
abbrev j5(e:Ev):Prop:=DIn e 35 "measure_of_two" ["one","other"] fm
theorem uF(F:FA e "measure_of_two" j1)(Y:e.P.given.tree=none)(U:N0 e "abs"):j5 e:=by
 exact bN F eT rfl (by decide) (bd2 λ_ _ _ _ _ _ _ _=>rfl) λ_ _ _ _ _ _ _ hr hu ab=>⟨_,(aD (ba (i:=0) eT.nd rfl (tt rfl) (a9 A7 rfl U Boot.«abs» (ai (pv 0) au)))
 (aD (ba (i:=1) eT.nd rfl (tt rfl) (a9 A7 rfl U Boot.«abs» (ai (pv 1) au)))
 (aD (GV PassesOwn.never (bo (rY hu) (pv 1) aE (bq _))
 (aD (ba (i:=2) eT.nd rfl (tt rfl) (aT fO (pv 0) (pv 1)))
 (aD (ba (i:=0) eT.nd rfl (tt rfl) (pv 1))
 (aI (ba (i:=1) eT.nd rfl (tt rfl) (pv 2))))))
 (aI (bu (pv 0)))))),
  (aL (aY (a6 E2 (aj (ah 0) av)))
 (aL (aY (a6 E2 (aj (ah 1) av)))
 (aL (Gz (bF (aw nI (ah 1) (aC 0)))
 (aL (aY (aw gM (ah 0) (ah 1)))
 (aL (aY (ah 1))
 (aY (ah 2)))))
 (br (ah 0)))))⟩
theorem nL:a0 ["numbers","common","number"] ["numbers"] (aJ sN):=cB
abbrev yt(e:Ev):Prop:=DIn e 36 "measure" ["numbers"] mT
theorem DC(F:FA e "measure" sN)(U:e.P.given.tree=none)(Y:j5 e):yt e:=by
 exact bN F nL rfl (by decide) (bd1 λ_ _ _ _ _ _ _=>rfl) λ_ _ _ _ _ _ _ hr hu ac=>⟨_,(aD (ba (i:=1) nL.nd rfl (tt rfl) aE)
 (aD (fj PassesOwn.never rfl (b9 (pv 0)) (aU (i:=2) nL.nd rfl (tt rfl))
 (aI (ba (i:=1) nL.nd rfl (tt rfl) (aO Y hr (ai (pv 1) (ai (pv 2) au))))))
 (aI (bu (pv 1))))),
  (aL (aY (aC 0))
 (aL (fg (cj (ah 0)) (aQ 2)
 (aY (aW (n:=2) (f:=fm) (aj (ah 1) (aj (ah 2) av)))))
 (br (ah 1))))⟩
theorem yS:a0 ["numbers","common"] ["numbers"] (aJ u5):=cB
abbrev vv(e:Ev):Prop:=DIn e 37 "lowest" ["numbers"] j3
theorem FP(F:FA e "lowest" u5)(Y:e.P.given.tree=none)(U:N0 e "list")(ET:yt e):vv e:=by
 exact bN F yS rfl (by decide) (bd1 λ_ _ _ _ _ _ _=>rfl) λ_ _ _ _ _ _ _ hr hu ab=>⟨_,(aD (ba (i:=1) yS.nd rfl (P1 rfl) (aO ET hr (ai (pv 0) au)))
 (aD (cq (bo (ir hu) (pv 1) aE (bq _))
 (aI (bu (c9 fG rfl U Boot.«list» (ai (pv 0) au))))
 bA)
 (aI (bu (cf (own:=["number"]) (cap:=["common"]) (caps:=[1]) rfl (scC ⟨rfl,tt rfl,rfl,trivial⟩) (b9 (pv 0)) (λ_ _ _=>(aU (i:=0) (ndL ["number"] ["common"]) rfl (tt rfl))) (λ_ _ _=>bK) (λ_ _ _=>(aT (kM ab Y ⟨_,_,rfl,rfl,rfl,rfl,rfl⟩) (pv 0) (pv 1)))))))),
  (aL (aY (aW (n:=1) (f:=mT) (aj (ah 0) av)))
 (aL (b8 (bF (aw fH (ah 1) (aC 0)))
 (br (GC (ah 0)))
 bz)
 (br (jn (m:=1) (caps:=[1]) (cj (ah 0)) (aQ 0) bL (aw jF (ah 0) (ah 1))))))⟩
theorem vJ:a0 ["top","bottom","common"] ["top","bottom"] (aJ yd):=cB
abbrev CF(e:Ev):Prop:=DIn e 36 "ratio" ["top","bottom"] n8
theorem Ig(F:FA e "ratio" yd)(U:e.P.given.tree=none)(nU:rh e)(ki:j5 e):CF e:=by
 exact bN F vJ rfl (by decide) (bd2 λ_ _ _ _ _ _ _ _=>rfl) λ_ _ _ _ _ _ _ hr hu Y=>⟨_,(aD (cq (PW.pt (pw_or (o4 (gu (aO nU hr (ai (pv 0) au)))) (pw_or1 (o4 (gu (aO nU hr (ai (pv 1) au)))))))
 (aI fV)
 bA)
 (aD (cq (bo (ir hu) (pv 1) aE (bq _))
 (aI fV)
 bA)
 (aD (ba (i:=2) vJ.nd rfl (tt rfl) (aO ki hr (ai (pv 0) (ai (pv 1) au))))
 (aD (cq (bo k7 (pv 1) aE (bq _))
 (aI (ba (i:=2) vJ.nd rfl (tt rfl) (rL oh (pv 2))))
 bA)
 (aI (bu (mM (ai (aT (kM Y U ⟨_,_,rfl,rfl,rfl,rfl,rfl⟩) (pv 0) (pv 2)) (ai (aT (kM Y U ⟨_,_,rfl,rfl,rfl,rfl,rfl⟩) (pv 1) (pv 2)) au))))))))),
  (aL (b8 (t4 (oq (iB (aW (n:=1) (f:=fD) (aj (ah 0) av)))) (oq (iB (aW (n:=1) (f:=fD) (aj (ah 1) av)))))
 fT
 bz)
 (aL (b8 (bF (aw fH (ah 1) (aC 0)))
 fT
 bz)
 (aL (aY (aW (n:=2) (f:=fm) (aj (ah 0) (aj (ah 1) av))))
 (aL (b8 (bF (aw kK (ah 1) (aC 0)))
 (aY (qT oG (ah 2)))
 bz)
 (br (o3 (aj (aw jF (ah 0) (ah 2)) (aj (aw jF (ah 1) (ah 2)) av))))))))⟩
theorem tN:a0 ["numbers","others"] ["numbers","others"] (aJ jL):=cB
abbrev hJ(e:Ev):Prop:=DIn e 35 "sum_of_products" ["numbers","others"] bX
theorem tx(F:FA e "sum_of_products" jL)(ab:e.P.given.tree=none)(U:N0 e "zip")(Y:N0 e "sum"):hJ e:=by
 exact bN F tN rfl (by decide) (bd2 λ_ _ _ _ _ _ _ _=>rfl) λ_ _ _ _ _ _ _ hr hu ac=>⟨_,(aI (bu (a9 (o7 rfl) rfl Y Boot.«sum» (ai (cf (own:=["number","other"]) (cap:=[]) (caps:=[]) rfl (scC trivial) (wu rfl U (ai (pv 0) (ai (pv 1) au))) (λ_ _ _=>(gJ rfl (bO (aU (i:=0) (ndL ["number","other"] []) rfl (tt rfl)) (bO (aU (i:=1) (ndL ["number","other"] []) rfl (tt rfl)) fM)))) (λ_ _ _=>bK) (λ_ _ _=>(aT d8 (pv 0) (pv 1)))) au)))),
  (br (a6 xb (aj (bW (m:=2) (caps:=[]) (BP (aj (ah 0) (aj (ah 1) av))) (fJ (bP (aQ 0) (bP (aQ 1) fI))) bL (aw dg (ah 0) (ah 1))) av)))⟩
theorem CY:a0 ["at","many","told"] ["at","many"] (aJ Bo):=cB
abbrev Et(e:Ev):Prop:=DIn e 35 "unit" ["at","many"] tf
theorem Kh(F:FA e "unit" Bo)(U:e.P.given.tree=none):Et e:=by
 exact bN F CY rfl (by decide) (bd2 λ_ _ _ _ _ _ _ _=>rfl) λ_ _ _ _ _ _ _ hr hu Y=>⟨_,(aD (ba (i:=2) CY.nd rfl (tt rfl) (aT M0 (df (ai aE au)) (pv 1)))
 (aD (Ah aE (Gj (pv 2) (pv 0) set_list))
 (aI (bu (pv 2))))),
  (aL (aY (KN (aj (aC 0) av) (ah 1)))
 (aL (xa (aC 1) (Fg (ah 2) (ah 0)))
 (br (ah 2))))⟩
theorem GA:a0 ["many"] ["many"] (aJ xp):=cB
abbrev CZ(e:Ev):Prop:=DIn e 36 "units" ["many"] uC
theorem HM(F:FA e "units" xp)(Y:e.P.given.tree=none)(U:N0 e "range")(LK:Et e):CZ e:=by
 exact bN F GA rfl (by decide) (bd1 λ_ _ _ _ _ _ _=>rfl) λ_ _ _ _ _ _ _ hr hu ae=>⟨_,(aI (bu (cf (own:=["at"]) (cap:=["many"]) (caps:=[0]) rfl (scC ⟨rfl,tt rfl,rfl,trivial⟩) (da rfl U (ai (pv 0) au)) (λ_ _ _=>(aU (i:=0) (ndL ["at"] ["many"]) rfl (tt rfl))) (λ_ _ _=>bK) (λ_ _ _=>(aO LK hr (ai (pv 0) (ai (pv 1) au))))))),
  (br (bW (m:=1) (caps:=[0]) (eI (aj (ah 0) av)) (aQ 0) bL (jc (n:=2) (f:=tf) (aj (ah 0) (aj (ah 1) av)))))⟩
theorem yJ:a0 ["one","one_value","other","other_value","mixed"] ["one","one_value","other","other_value"] (aJ vZ):=cB
abbrev BL(e:Ev):Prop:=DIn e 38 "offset" ["one","one_value","other","other_value"] ot
theorem FG(F:FA e "offset" vZ)(Y:e.P.given.tree=none)(U:N0 e "zip")(vk:vv e):BL e:=by
 exact bN F yJ rfl (by decide) (bd4 λ_ _ _ _ _ _ _ _ _ _=>rfl) λ_ _ _ _ _ _ _ hr hu ae=>⟨_,(aD (eP (i:=4) (own:=["number","other_number"]) (cap:=["one_value","other_value"]) (caps:=[1,3]) rfl (scC ⟨rfl,tt rfl,rfl,⟨rfl,tt rfl,rfl,trivial⟩⟩) (wu rfl U (ai (pv 0) (ai (pv 2) au))) (λ_ _ _=>(gJ rfl (bO (aU (i:=0) (ndL ["number","other_number"] ["one_value","other_value"]) rfl (tt rfl)) (bO (aU (i:=1) (ndL ["number","other_number"] ["one_value","other_value"]) rfl (tt rfl)) fM)))) (λ_ _ _=>bK) (λ_ _ _=>(aT kS (aT d8 (pv 0) (pv 3)) (aT d8 (pv 1) (pv 2)))) yJ.nd rfl (tt rfl) rfl)
 (aI (bu (aO vk hr (ai (pv 4) au))))),
  (aL (aY (bW (m:=2) (caps:=[1,3]) (BP (aj (ah 0) (aj (ah 2) av))) (fJ (bP (aQ 0) (bP (aQ 1) fI))) bL (aw lF (aw dg (ah 0) (ah 3)) (aw dg (ah 1) (ah 2)))))
 (br (jc (n:=1) (f:=j3) (aj (ah 4) av))))⟩
theorem iW:a0 ["numbers","at","number"] ["numbers"] (aJ jh):=cB
abbrev mK(e:Ev):Prop:=DIn e 35 "first_not_nought" ["numbers"] gG
theorem sm(F:FA e "first_not_nought" jh)(Y:e.P.given.tree=none)(U:N0 e "enumerate"):mK e:=by
 exact bN F iW rfl (by decide) (bd1 λ_ _ _ _ _ _ _=>rfl) λ_ _ _ _ _ _ _ hr hu ab=>⟨_,(aD (fj PassesOwn.never rfl (lX rfl U (ai (pv 0) au)) (gJ rfl (bO (aU (i:=1) iW.nd rfl (tt rfl)) (bO (aU (i:=2) iW.nd rfl (tt rfl)) fM)))
 (aI (cq (bo (rY hu) (pv 2) aE (bq _))
 (aI (bu (pv 1)))
 bA)))
 (aI (bu LH))),
  (aL (fg (gn (aj (ah 0) av)) (fJ (bP (aQ 1) (bP (aQ 2) fI)))
 (b8 (bF (aw nI (ah 2) (aC 0)))
 (br (ah 1))
 bz))
 (br MY))⟩
theorem jq:a0 ["numbers","bits","number"] ["numbers"] (aJ qc):=cB
abbrev pQ(e:Ev):Prop:=DIn e 35 "places_of" ["numbers"] dh
theorem A8(F:FA e "places_of" qc)(U:e.P.given.tree=none):pQ e:=by
 exact bN F jq rfl (by decide) (bd1 λ_ _ _ _ _ _ _=>rfl) λ_ _ _ _ _ _ _ hr hu Y=>⟨_,(aD (ba (i:=1) jq.nd rfl (tt rfl) aE)
 (aD (fj PassesOwn.never rfl (b9 (pv 0)) (aU (i:=2) jq.nd rfl (tt rfl))
 (aD (ba (i:=1) jq.nd rfl (tt rfl) (aT d8 (pv 1) aE))
 (aI (cq (bo kR (pv 2) aE (bq _))
 (aI (ba (i:=1) jq.nd rfl (tt rfl) (aT cx (pv 1) aE)))
 bA))))
 (aI (bu (pv 1))))),
  (aL (aY (aC 0))
 (aL (fg (cj (ah 0)) (aQ 2)
 (aL (aY (aw dg (ah 1) (aC 2)))
 (b8 (bF (aw kU (ah 2) (aC 0)))
 (aY (aw bQ (ah 1) (aC 1)))
 bz)))
 (br (ah 1))))⟩
theorem Cy:a0 ["places","others"] ["places","others"] (aJ qC):=cB
abbrev qR(e:Ev):Prop:=DIn e 35 "is_among" ["places","others"] gE
theorem Cd(F:FA e "is_among" qC)(U:e.P.given.tree=none):qR e:=by
 exact bN F Cy rfl (by decide) (bd2 λ_ _ _ _ _ _ _ _=>rfl) λ_ _ _ _ _ _ _ hr hu Y=>⟨_,(aI (bu (iT (ir hu) (aT Ja (pv 0) (pv 1)) (pv 1) (bq _)))),
  (br (aw fH (aw E6 (ah 0) (ah 1)) (ah 1)))⟩
theorem nE:a0 ["one","other","all_places","both"] ["one","other","all_places"] (aJ kn):=cB
abbrev oE(e:Ev):Prop:=DIn e 36 "are_neighbours" ["one","other","all_places"] gj
theorem uD(F:FA e "are_neighbours" kn)(Y:e.P.given.tree=none)(U:N0 e "len")(rq:qR e):oE e:=by
 exact bN F nE rfl (by decide) (bd3 λ_ _ _ _ _ _ _ _ _=>rfl) λ_ _ _ _ _ _ _ hr hu ae=>⟨_,(aD (ba (i:=3) nE.nd rfl (P1 rfl) (aT Ja (pv 0) (pv 1)))
 (aI (bu (iT (ir hu) (a9 cG rfl U Boot.«len» (ai (cf (own:=["places"]) (cap:=["both"]) (caps:=[3]) rfl (scC ⟨rfl,tt rfl,rfl,trivial⟩) (b9 (pv 2)) (λ_ _ _=>(aU (i:=0) (ndL ["places"] ["both"]) rfl (tt rfl))) (λ_ _ _=>(qr (gu (aO rq hr (ai (pv 0) (ai (pv 1) au)))))) (λ_ _ _=>(pv 0))) au)) aE (bq _))))),
  (aL (aY (aw E6 (ah 0) (ah 1)))
 (br (aw fH (a6 dE (aj (bW (m:=1) (caps:=[3]) (cj (ah 2)) (aQ 0) (iB (aW (n:=2) (f:=gE) (aj (ah 0) (aj (ah 1) av)))) (ah 0)) av)) (aC 2))))⟩
theorem cY:a0 ["lists","row","values","places","told","above","below","high","low"] ["lists","row"] (aJ jt):=cB
abbrev mO(e:Ev):Prop:=DIn e 39 "lone_by_one_more" ["lists","row"] gP
theorem sq(F:FA e "lone_by_one_more" jt)(ac:e.P.given.tree=none)(Y:N0 e "zip")(U:N0 e "enumerate")(fX:hJ e)(mI:pQ e)(vP:oE e)(HG:BL e):mO e:=by
 exact bN F cY rfl (by decide) (bd2 λ_ _ _ _ _ _ _ _=>rfl) λ_ _ _ _ _ _ _ hr hu az=>⟨_,(aD (eP (i:=2) (own:=["one"]) (cap:=["row"]) (caps:=[1]) rfl (scC ⟨rfl,tt rfl,rfl,trivial⟩) (b9 (pv 0)) (λ_ _ _=>(aU (i:=0) (ndL ["one"] ["row"]) rfl (tt rfl))) (λ_ _ _=>bK) (λ_ _ _=>(aO fX hr (ai (pv 1) (ai (pv 0) au)))) cY.nd rfl (tt rfl) rfl)
 (aD (eP (i:=3) (own:=["one"]) (cap:=[]) (caps:=[]) rfl (scC trivial) (b9 (pv 0)) (λ_ _ _=>(aU (i:=0) (ndL ["one"] []) rfl (tt rfl))) (λ_ _ _=>bK) (λ_ _ _=>(aO mI hr (ai (pv 0) au))) cY.nd rfl (tt rfl) rfl)
 (aD (eP (i:=4) (own:=["one","value"]) (cap:=[]) (caps:=[]) rfl (scC trivial) (wu rfl Y (ai (pv 0) (ai (pv 2) au))) (λ_ _ _=>(gJ rfl (bO (aU (i:=0) (ndL ["one","value"] []) rfl (tt rfl)) (bO (aU (i:=1) (ndL ["one","value"] []) rfl (tt rfl)) fM)))) (λ_ _ _=>(qr (bo (ir hu) (pv 1) aE (bq _)))) (λ_ _ _=>(pv 0)) cY.nd rfl (tt rfl) rfl)
 (aD (eP (i:=5) (own:=["at","value"]) (cap:=[]) (caps:=[]) rfl (scC trivial) (lX rfl U (ai (pv 2) au)) (λ_ _ _=>(gJ rfl (bO (aU (i:=0) (ndL ["at","value"] []) rfl (tt rfl)) (bO (aU (i:=1) (ndL ["at","value"] []) rfl (tt rfl)) fM)))) (λ_ _ _=>(qr (bo kR (pv 1) aE (bq _)))) (λ_ _ _=>(pv 0)) cY.nd rfl (tt rfl) rfl)
 (aD (eP (i:=6) (own:=["at","value"]) (cap:=[]) (caps:=[]) rfl (scC trivial) (lX rfl U (ai (pv 2) au)) (λ_ _ _=>(gJ rfl (bO (aU (i:=0) (ndL ["at","value"] []) rfl (tt rfl)) (bO (aU (i:=1) (ndL ["at","value"] []) rfl (tt rfl)) fM)))) (λ_ _ _=>(qr (bo k7 (pv 1) aE (bq _)))) (λ_ _ _=>(pv 0)) cY.nd rfl (tt rfl) rfl)
 (aD (fj PassesOwn.never rfl (b9 (pv 5)) (aU (i:=7) cY.nd rfl (tt rfl))
 (aI (fj PassesOwn.never rfl (b9 (pv 6)) (aU (i:=8) cY.nd rfl (tt rfl))
 (aI (cq (gu (aO vP hr (ai (bT bG (pv 3) (pv 7) (λ_ _=>rfl)) (ai (bT bG (pv 3) (pv 8) (λ_ _=>rfl)) (ai (pv 3) au)))))
 (aI (cV (jx Go Gp Is eG (pv 4) (ai (aO HG hr (ai (bT bG (pv 0) (pv 8) (λ_ _=>rfl)) (ai (bT bG (pv 2) (pv 8) (λ_ _=>rfl)) (ai (bT bG (pv 0) (pv 7) (λ_ _=>rfl)) (ai (bT bG (pv 2) (pv 7) (λ_ _=>rfl)) au))))) au))))
 bA)))))
 (aI (bu (pv 4))))))))),
  (aL (aY (bW (m:=1) (caps:=[1]) (cj (ah 0)) (aQ 0) bL (j8 (n:=2) (f:=bX) (aj (ah 1) (aj (ah 0) av)))))
 (aL (aY (bW (m:=1) (caps:=[]) (cj (ah 0)) (aQ 0) bL (j8 (n:=1) (f:=dh) (aj (ah 0) av))))
 (aL (aY (jn (m:=2) (caps:=[]) (BP (aj (ah 0) (aj (ah 2) av))) (fJ (bP (aQ 0) (bP (aQ 1) fI))) (bF (aw fH (ah 1) (aC 0))) (ah 0)))
 (aL (aY (bW (m:=2) (caps:=[]) (gn (aj (ah 2) av)) (fJ (bP (aQ 0) (bP (aQ 1) fI))) (bF (aw kU (ah 1) (aC 0))) (ah 0)))
 (aL (aY (bW (m:=2) (caps:=[]) (gn (aj (ah 2) av)) (fJ (bP (aQ 0) (bP (aQ 1) fI))) (bF (aw kK (ah 1) (aC 0))) (ah 0)))
 (aL (fg (cj (ah 5)) (aQ 7)
 (fg (cj (ah 6)) (aQ 8)
 (b8 (iB (aW (n:=3) (f:=gj) (aj (aw bU (ah 3) (ah 7)) (aj (aw bU (ah 3) (ah 8)) (aj (ah 3) av)))))
 (cT (iG (ah 4) (Iu (n:=4) (f:=ot) (aj (aw bU (ah 0) (ah 8)) (aj (aw bU (ah 2) (ah 8)) (aj (aw bU (ah 0) (ah 7)) (aj (aw bU (ah 2) (ah 7)) av)))))))
 bz)))
 (br (kZ (ah 4)))))))))⟩
theorem t5:a0 ["rows","many","lists","row"] ["rows","many"] (aJ BM):=cB
abbrev EI(e:Ev):Prop:=DIn e 40 "lone" ["rows","many"] qy
theorem KJ(F:FA e "lone" BM)(ab:e.P.given.tree=none)(U:N0 e "sorted")(JX:CZ e)(sV:mO e):EI e:=by
 exact bN F t5 rfl (by decide) (bd2 λ_ _ _ _ _ _ _ _=>rfl) λ_ _ _ _ _ _ _ Y hu am=>⟨_,(aD (ba (i:=2) t5.nd rfl (tt rfl) (aO JX Y (ai (pv 1) au)))
 (aD (fj PassesOwn.never rfl (b9 (pv 0)) (aU (i:=3) t5.nd rfl (tt rfl))
 (aI (ba (i:=2) t5.nd rfl (tt rfl) (aO sV Y (ai (pv 2) (ai (pv 3) au))))))
 (aI (bu (a9 (Bu hu) rfl U Boot.«sorted» (ai (pv 2) au)))))),
  (aL (aY (Bx (n:=1) (f:=uC) (aj (ah 1) av)))
 (aL (fg (cj (ah 0)) (aQ 3)
 (aY (Bx (n:=2) (f:=gP) (aj (ah 2) (aj (ah 3) av)))))
 (br (Ij (ah 2)))))⟩
theorem BG:a0 ["rows","many","fit"] ["rows","many","fit"] (aJ pX):=cB
abbrev uS(e:Ev):Prop:=DIn e 36 "check_fit" ["rows","many","fit"] mD
theorem Bl(F:FA e "check_fit" pX)(ab:e.P.given.tree=none)(Y:N0 e "len")(U:N0 e "any")(fX:hJ e):uS e:=by
 exact bN F BG rfl (by decide) (bd3 λ_ _ _ _ _ _ _ _ _=>rfl) λ_ _ _ _ _ _ _ hr hu am=>⟨_,(aD (cq (bo (rY hu) (a9 cG rfl Y Boot.«len» (ai (pv 2) au)) (pv 1) (bq _))
 (aI fV)
 bA)
 (aD (cq (gu (a9 (sG rfl) rfl U Boot.«any» (ai (cf (own:=["number"]) (cap:=[]) (caps:=[]) rfl (scC trivial) (b9 (pv 2)) (λ_ _ _=>(aU (i:=0) (ndL ["number"] []) rfl (tt rfl))) (λ_ _ _=>bK) (λ_ _ _=>(iT k7 (pv 0) aE (bq _)))) au)))
 (aI fV)
 bA)
 (aI (cq (gu (a9 (sG rfl) rfl U Boot.«any» (ai (cf (own:=["row"]) (cap:=["fit"]) (caps:=[2]) rfl (scC ⟨rfl,tt rfl,rfl,trivial⟩) (b9 (pv 0)) (λ_ _ _=>(aU (i:=0) (ndL ["row"] ["fit"]) rfl (tt rfl))) (λ_ _ _=>bK) (λ_ _ _=>(iT (rY hu) (aO fX hr (ai (pv 0) (ai (pv 1) au))) aE (bq _)))) au)))
 (aI fV)
 bA)))),
  (aL (b8 (bF (aw nI (a6 dE (aj (ah 2) av)) (ah 1)))
 fT
 bz)
 (aL (b8 (iB (a6 By (aj (bW (m:=1) (caps:=[]) (cj (ah 2)) (aQ 0) bL (aw kK (ah 0) (aC 0))) av)))
 fT
 bz)
 (b8 (iB (a6 By (aj (bW (m:=1) (caps:=[2]) (cj (ah 0)) (aQ 0) bL (aw nI (aW (n:=2) (f:=bX) (aj (ah 0) (aj (ah 1) av))) (aC 0))) av)))
 fT
 bz)))⟩
theorem fW:a0 ["left","one","best","at","number"] ["left","one"] (aJ ke):=cB
abbrev oo(e:Ev):Prop:=DIn e 36 "tightest_place" ["left","one"] gs
theorem uE(F:FA e "tightest_place" ke)(Y:e.P.given.tree=none)(U:N0 e "enumerate")(tw:mK e):oo e:=by
 exact bN F fW rfl (by decide) (bd2 λ_ _ _ _ _ _ _ _=>rfl) λ_ _ _ _ _ _ _ hr hu ae=>⟨_,(aD (ba (i:=2) fW.nd rfl (tt rfl) (aO tw hr (ai (pv 1) au)))
 (aD (fj PassesOwn.never rfl (lX rfl U (ai (pv 1) au)) (gJ rfl (bO (aU (i:=3) fW.nd rfl (tt rfl)) (bO (aU (i:=4) fW.nd rfl (tt rfl)) fM)))
 (aI (cq (PW.pt (pw_and (bo kR (pv 4) aE (bq _)) (pw_and1 (bo k7 (aT d8 (bT bG (pv 0) (pv 3) (λ_ _=>rfl)) (bT bG (pv 1) (pv 2) (λ_ _=>rfl))) (aT d8 (bT bG (pv 0) (pv 2) (λ_ _=>rfl)) (pv 4)) (bq _)))))
 (aI (ba (i:=2) fW.nd rfl (tt rfl) (pv 3)))
 bA)))
 (aI (bu (pv 2))))),
  (aL (aY (aW (n:=1) (f:=gG) (aj (ah 1) av)))
 (aL (fg (gn (aj (ah 1) av)) (fJ (bP (aQ 3) (bP (aQ 4) fI)))
 (b8 (qo (bF (aw kU (ah 4) (aC 0))) (bF (aw kK (aw dg (aw bU (ah 0) (ah 3)) (aw bU (ah 1) (ah 2))) (aw dg (aw bU (ah 0) (ah 2)) (ah 4)))))
 (aY (ah 3))
 bz))
 (br (ah 2))))⟩
theorem f7:a0 ["rows","many","fit","told","left","bottom","one","at","rest","reduced"] ["rows","many","fit"] (aJ vC):=cB
abbrev AU(e:Ev):Prop:=DIn e 41 "shares" ["rows","many","fit"] rB
theorem E4(F:FA e "shares" vC)(ae:e.P.given.tree=none)(U:N0 e "list")(ab:N0 e "zip")(B8:uS e)(Mg:EI e)(rq:qR e)(mI:pQ e)(vS:oo e)(JB:CF e)(vk:vv e):AU e:=by
 exact bN F f7 rfl (by decide) (bd3 λ_ _ _ _ _ _ _ _ _=>rfl) λ_ _ _ _ _ _ _ Y hu a3=>⟨_,(aD (cV (aO B8 Y (ai (pv 0) (ai (pv 1) (ai (pv 2) au)))))
 (aD (ba (i:=3) f7.nd rfl (tt rfl) (df au))
 (aD (ba (i:=4) f7.nd rfl (P1 rfl) (c9 fG rfl U Boot.«list» (ai (pv 2) au)))
 (aD (ba (i:=5) f7.nd rfl (tt rfl) aE)
 (aD (fj PassesOwn.never rfl (b9 (aO Mg Y (ai (pv 0) (ai (pv 1) au)))) (aU (i:=6) f7.nd rfl (P1 rfl))
 (aI (cq (gu (aO rq Y (ai (aO mI Y (ai (pv 6) au)) (ai (aO mI Y (ai (pv 4) au)) au))))
 (aD (ba (i:=7) f7.nd rfl (P1 rfl) (aO vS Y (ai (pv 4) (ai (pv 6) au))))
 (aD (cV (jx Go Gp Is eG (pv 3) (ai (mM (ai (aO JB Y (ai (bT bG (pv 4) (pv 7) (λ_ _=>rfl)) (ai (aT d8 (pv 5) (bT bG (pv 6) (pv 7) (λ_ _=>rfl))) au))) (ai (pv 6) au))) au)))
 (aD (eP (i:=8) (own:=["number","other"]) (cap:=["at","left","one"]) (caps:=[7,4,6]) rfl (scC ⟨rfl,tt rfl,rfl,⟨rfl,tt rfl,rfl,⟨rfl,tt rfl,rfl,trivial⟩⟩⟩) (wu rfl ab (ai (pv 4) (ai (pv 6) au))) (λ_ _ _=>(gJ rfl (bO (aU (i:=0) (ndL ["number","other"] ["at","left","one"]) rfl (tt rfl)) (bO (aU (i:=1) (ndL ["number","other"] ["at","left","one"]) rfl (tt rfl)) fM)))) (λ_ _ _=>bK) (λ_ _ _=>(aT kS (aT d8 (pv 0) (bT bG (pv 4) (pv 2) (λ_ _=>rfl))) (aT d8 (pv 1) (bT bG (pv 3) (pv 2) (λ_ _=>rfl))))) f7.nd rfl (tt rfl) rfl)
 (aD (ba (i:=9) f7.nd rfl (tt rfl) (aO vk Y (ai (aT cx (pv 8) (df (ai (aT d8 (pv 5) (bT bG (pv 6) (pv 7) (λ_ _=>rfl))) au))) au)))
 (aD (ba (i:=4) f7.nd rfl (P1 rfl) (lY ud (pv 9) lP (kF (pv 1))))
 (aI (ba (i:=5) f7.nd rfl (tt rfl) (bT bG (pv 9) (pv 1) (λ_ _=>rfl)))))))))
 bA)))
 (aI (bu (pv 3)))))))),
  (aL (cT (aW (n:=3) (f:=mD) (aj (ah 0) (aj (ah 1) (aj (ah 2) av)))))
 (aL (aY (jB av))
 (aL (aY (a6 ko (aj (ah 2) av)))
 (aL (aY (aC 1))
 (aL (fg (cj (kZ (jc (n:=2) (f:=qy) (aj (ah 0) (aj (ah 1) av))))) (aQ 6)
 (b8 (iB (aW (n:=2) (f:=gE) (aj (j8 (n:=1) (f:=dh) (aj (ah 6) av)) (aj (j8 (n:=1) (f:=dh) (aj (ah 4) av)) av))))
 (aL (aY (j8 (n:=2) (f:=gs) (aj (ah 4) (aj (ah 6) av))))
 (aL (cT (iG (ah 3) (o3 (aj (aW (n:=2) (f:=n8) (aj (aw bU (ah 4) (ah 7)) (aj (aw dg (ah 5) (aw bU (ah 6) (ah 7))) av))) (aj (ah 6) av)))))
 (aL (aY (Fb (m:=2) (caps:=[7,4,6]) (Kr (aj (ah 4) (aj (ah 6) av))) (fJ (bP (aQ 0) (bP (aQ 1) fI))) bL (aw lF (aw dg (ah 0) (aw bU (ah 4) (ah 2))) (aw dg (ah 1) (aw bU (ah 3) (ah 2))))))
 (aL (aY (kZ (jc (n:=1) (f:=j3) (aj (aw bQ (ah 8) (gk (aj (aw dg (ah 5) (aw bU (ah 6) (ah 7))) av))) av))))
 (aL (aY (zM (ah 9) jo (kA (ah 1))))
 (aY (aw bU (ah 9) (ah 1))))))))
 bz))
 (br (ah 3)))))))⟩
theorem uG:a0 ["self","way"] ["self","way"] (aJ fq):=cB
abbrev oC(e:Ev):Prop:=MethAt e.P e.w e.K e.mg e.base e.ca 35 (e.ca 0) "check_way" ["self","way"] fo
theorem uH(F:Fun e.K "check_way" "Yard.check_way" fq a fd)(hm:Meth e.K (e.ca 0) "check_way" a)(ap:e.P.given.tree=none)(ac:N0 e "len")(am:N0 e "any")(ae:Cls e.K (e.ca 0))(U:fk e.K (e.ca 0) "held_works")(Y:Qe e.K (e.ca 1) bmV "ValueError.__new__" =true)(ab:e.mg "NoWay" =some (.ref (e.ca 1))):oC e:=by
 refine⟨a,fd,uA F uG rfl λaz A outer s H E hr=> ?_,hm,F.binds λ_ _ _ _ _ _ us hl=>match us,hl with | [_,_],_=>rfl⟩
 have hu:=hr.units
 have a2:=mG hr (by decide)
 exact⟨_,(aD (cq (bo (rY hu) (a9 cG rfl ac Boot.«len» (ai (pv 1) au)) (a9 cG rfl ac Boot.«len» (ai (xc (pv 0) rfl) au)) (bq _))
 (aI (v8 BH Y QP rfl rfl ab (ai dD au)))
 bA)
 (aI (cq (gu (a9 (sG rfl) rfl am Boot.«any» (ai (cf (own:=["often"]) (cap:=[]) (caps:=[]) rfl (scC trivial) (b9 (pv 1)) (λ_ _ _=>(aU (i:=0) (ndL ["often"] []) rfl (tt rfl))) (λ_ _ _=>bK) (λ_ _ _=>(iT k7 (pv 0) aE (bq _)))) au)))
 (aI (v8 BH Y QP rfl rfl ab (ai dD au)))
 bA))),
  (aL (b8 (bF (aw nI (a6 dE (aj (ah 1) av)) (a6 dE (aj (wy (c:=0) (f:="held_works") ae U (ah 0)) av))))
 (vd (c:=1) uf (aj (dC ("a way has a number for each work" :Str)) av))
 bz)
 (b8 (iB (a6 By (aj (bW (m:=1) (caps:=[]) (cj (ah 1)) (aQ 0) bL (aw kK (ah 0) (aC 0))) av)))
 (vd (c:=1) uf (aj (dC ("no work goes less often than never" :Str)) av))
 bz))⟩
theorem Cq:a0 ["self","at"] ["self","at"] (aJ jz):=cB
abbrev wg(e:Ev):Prop:=MethAt e.P e.w e.K e.mg e.base e.ca 35 (e.ca 0) "row" ["self","at"] kO
theorem CA(F:Fun e.K "row" "Yard.row" jz a fd)(hm:Meth e.K (e.ca 0) "row" a)(ac:e.P.given.tree=none)(Y:Cls e.K (e.ca 0))(U:fk e.K (e.ca 0) "held_changes"):wg e:=by
 refine⟨a,fd,qp F Cq rfl λae A outer s H E hr=> ?_,hm,F.binds λ_ _ _ _ _ _ us hl=>match us,hl with | [_,_],_=>rfl⟩
 have hu:=hr.units
 have an:=mG hr (by decide)
 exact⟨_,(aI (bu (cf (own:=["change"]) (cap:=["at"]) (caps:=[1]) rfl (scC ⟨rfl,tt rfl,rfl,trivial⟩) (b9 (xc (pv 0) rfl)) (λ_ _ _=>(aU (i:=0) (ndL ["change"] ["at"]) rfl (tt rfl))) (λ_ _ _=>bK) (λ_ _ _=>(bT bG (pv 0) (pv 1) (λ_ _=>rfl)))))),
  (br (bW (m:=1) (caps:=[1]) (cj (wy (c:=0) (f:="held_changes") Y U (ah 0))) (aQ 0) bL (aw bU (ah 0) (ah 1))))⟩
theorem AL:a0 ["self"] ["self"] (aJ iS):=cB
abbrev pS(e:Ev):Prop:=MethAt e.P e.w e.K e.mg e.base e.ca 36 (e.ca 0) "rows" ["self"] gb
theorem Az(F:Fun e.K "rows" "Yard.rows" iS a fd)(hm:Meth e.K (e.ca 0) "rows" a)(a2:e.P.given.tree=none)(az:N0 e "len")(am:N0 e "range")(Y:Cls e.K (e.ca 0))(U:fk e.K (e.ca 0) "held_goods")(ab:wg e):pS e:=by
 obtain⟨ap,an,ac,lj,ae⟩:=ab
 refine⟨a,fd,qp F AL rfl λa3 A outer s H E hr=> ?_,hm,F.binds λ_ _ _ _ _ _ us hl=>match us,hl with | [_],_=>rfl⟩
 have hu:=hr.units
 have a5:=mG hr (by decide)
 exact⟨_,(aI (bu (cf (own:=["at"]) (cap:=["self"]) (caps:=[0]) rfl (scC ⟨rfl,tt rfl,rfl,trivial⟩) (da rfl am (ai (a9 cG rfl az Boot.«len» (ai (xc (pv 0) rfl) au)) au)) (λ_ _ _=>(aU (i:=0) (ndL ["at"] ["self"]) rfl (tt rfl))) (λ_ _ _=>bK) (λ_ _ _=>(Lb (pv 1) Y lj ac (hr.mono (by decide)) ae .nil rV (ai (pv 0) au)))))),
  (br (bW (m:=1) (caps:=[0]) (eI (aj (a6 dE (aj (wy (c:=0) (f:="held_goods") Y U (ah 0)) av)) av)) (aQ 0) bL (qB (c:=0) (m:="row") (n:=1) (f:=kO) (ah 1) (aj (ah 0) av))))⟩
theorem xM:a0 ["self","way"] ["self","way"] (aJ gA):=cB
abbrev r9(e:Ev):Prop:=MethAt e.P e.w e.K e.mg e.base e.ca 37 (e.ca 0) "leaves" ["self","way"] d7
theorem xO(F:Fun e.K "leaves" "Yard.leaves" gA a fd)(hm:Meth e.K (e.ca 0) "leaves" a)(a4:e.P.given.tree=none)(an:Cls e.K (e.ca 0))(U:oC e)(ac:pS e)(fX:hJ e):r9 e:=by
 obtain⟨az,ap,Y,ee,ab⟩:=U
 obtain⟨a2,a1,ae,gY,am⟩:=ac
 refine⟨a,fd,uA F xM rfl λbb A outer s H E hr=> ?_,hm,F.binds λ_ _ _ _ _ _ us hl=>match us,hl with | [_,_],_=>rfl⟩
 have hu:=hr.units
 have be:=mG hr (by decide)
 exact⟨_,(aD (cV (qJ (pv 0) an ee Y (hr.mono (by decide)) ab .nil Ea.sx (ai (pv 1) au)))
 (aI (bu (cf (own:=["row"]) (cap:=["way"]) (caps:=[1]) rfl (scC ⟨rfl,tt rfl,rfl,trivial⟩) (b9 (vo (pv 0) an gY ae (hr.mono (by decide)) am .nil rV)) (λ_ _ _=>(aU (i:=0) (ndL ["row"] ["way"]) rfl (tt rfl))) (λ_ _ _=>bK) (λ_ _ _=>(aO fX hr (ai (pv 0) (ai (pv 1) au)))))))),
  (aL (cT (rP (c:=0) (m:="check_way") (n:=1) (f:=fo) uf (ah 0) (aj (ah 1) av)))
 (br (jn (m:=1) (caps:=[1]) (cj (qB (c:=0) (m:="rows") (n:=0) (f:=gb) (ah 0) av)) (aQ 0) bL (aW (n:=2) (f:=bX) (aj (ah 0) (aj (ah 1) av))))))⟩
theorem vL:a0 ["self","way"] ["self","way"] (aJ fP):=cB
abbrev kN(e:Ev):Prop:=MethAt e.P e.w e.K e.mg e.base e.ca 38 (e.ca 0) "balanced" ["self","way"] dq
theorem vW(F:Fun e.K "balanced" "Yard.balanced" fP a fd)(hm:Meth e.K (e.ca 0) "balanced" a)(az:e.P.given.tree=none)(an:N0 e "all")(ae:Cls e.K (e.ca 0))(U:r9 e):kN e:=by
 obtain⟨am,ac,Y,fR,ab⟩:=U
 refine⟨a,fd,uA F vL rfl λa1 A outer s H E hr=> ?_,hm,F.binds λ_ _ _ _ _ _ us hl=>match us,hl with | [_,_],_=>rfl⟩
 have hu:=hr.units
 have a3:=mG hr (by decide)
 exact⟨_,(aI (bu (a9 (yL rfl) rfl an Boot.«all» (ai (cf (own:=["left"]) (cap:=[]) (caps:=[]) rfl (scC trivial) (b9 (qJ (pv 0) ae fR Y (hr.mono (by decide)) ab .nil Ea.sx (ai (pv 1) au))) (λ_ _ _=>(aU (i:=0) (ndL ["left"] []) rfl (tt rfl))) (λ_ _ _=>bK) (λ_ _ _=>(iT (ir hu) (pv 0) aE (bq _)))) au)))),
  (br (a6 Fl (aj (bW (m:=1) (caps:=[]) (cj (kZ (rP (c:=0) (m:="leaves") (n:=1) (f:=d7) uf (ah 0) (aj (ah 1) av)))) (aQ 0) bL (aw fH (ah 0) (aC 0))) av)))⟩
theorem zx:a0 ["self"] ["self"] (aJ ig):=cB
abbrev tR(e:Ev):Prop:=MethAt e.P e.w e.K e.mg e.base e.ca 35 (e.ca 0) "names" ["self"] lE
theorem zI(F:Fun e.K "names" "Yard.names" ig a fd)(hm:Meth e.K (e.ca 0) "names" a)(ac:e.P.given.tree=none)(Y:Cls e.K (e.ca 0))(U:fk e.K (e.ca 0) "held_works"):tR e:=by
 refine⟨a,fd,qp F zx rfl λae A outer s H E hr=> ?_,hm,F.binds λ_ _ _ _ _ _ us hl=>match us,hl with | [_],_=>rfl⟩
 have hu:=hr.units
 have an:=mG hr (by decide)
 exact⟨_,(aI (bu (cf (own:=["work"]) (cap:=[]) (caps:=[]) rfl (scC trivial) (b9 (xc (pv 0) rfl)) (λ_ _ _=>(aU (i:=0) (ndL ["work"] []) rfl (tt rfl))) (λ_ _ _=>bK) (λ_ _ _=>(bT bG (pv 0) aE (λ_ _=>rfl)))))),
  (br (bW (m:=1) (caps:=[]) (cj (wy (c:=0) (f:="held_works") Y U (ah 0))) (aQ 0) bL (aw bU (ah 0) (aC 0))))⟩
theorem Gg:a0 ["yard","way"] ["yard","way"] (aJ vB):=cB
abbrev AV(e:Ev):Prop:=DIn e 42 "parted" ["yard","way"] jr
theorem Gq(F:FA e "parted" vB)(bp:e.P.given.tree=none)(bm:N0 e "len")(ac:Cls e.K (e.ca 0))(ae:Qe e.K (e.ca 4) bmV "ValueError.__new__" =true)(am:e.mg "NoBalance" =some (.ref (e.ca 4)))(U:kN e)(Ir:AU e)(a1:pS e)(an:tR e):AV e:=by
 obtain⟨a5,a4,Y,dv,ab⟩:=U
 obtain⟨bi,bd,a2,gY,a3⟩:=a1
 obtain⟨be,bb,ap,ju,az⟩:=an
 exact Kz F Gg rfl (by decide) (bd2 λ_ _ _ _ _ _ _ _=>rfl) λ_ _ _ _ _ _ _ hr hu bv=>⟨_,(aD (cq (o4 (gu (qJ (pv 0) ac dv Y (hr.mono (by decide)) ab .nil Ea.sx (ai (pv 1) au))))
 (aI (v8 BH ae QP rfl rfl am (ai dD au)))
 bA)
 (aI (bu (aO Ir hr (ai (vo (pv 0) ac gY a2 (hr.mono (by decide)) a3 .nil rV) (ai (a9 cG rfl bm Boot.«len» (ai (vo (pv 0) ac ju ap (hr.mono (by decide)) az .nil rV) au)) (ai (pv 1) au))))))),
  (aL (b8 (oq (iB (rP (c:=0) (m:="balanced") (n:=1) (f:=dq) uf (ah 0) (aj (ah 1) av))))
 (vd (c:=4) uf (aj (dC ("the way leaves more or less than nothing of some good" :Str)) av))
 bz)
 (br (jc (n:=3) (f:=rB) (aj (qB (c:=0) (m:="rows") (n:=0) (f:=gb) (ah 0) av) (aj (a6 dE (aj (qB (c:=0) (m:="names") (n:=0) (f:=lE) (ah 0) av) av)) (aj (ah 1) av))))))⟩
theorem DZ:a0 ["text"] ["text"] (aJ tV):=cB
abbrev yG(e:Ev):Prop:=DIn e 35 "is_name" ["text"] mV
theorem D6(F:FA e "is_name" tV)(ac:e.P.given.tree=none)(Y:N0 e "len")(ab:N0 e "all")(U:∃t,e.mg "MOST_LETTERS" =some (.int 8 t)):yG e:=by
 exact bN F DZ rfl (by decide) (bd1 λ_ _ _ _ _ _ _=>rfl) λ_ _ _ _ _ _ _ hr hu ae=>⟨_,(aD (cq (PW.pt (pw_or (bo k7 (a9 cG rfl Y Boot.«len» (ai (pv 0) au)) aE (bq _)) (pw_or1 (bo kR (a9 cG rfl Y Boot.«len» (ai (pv 0) au)) (eV (v:=.int 8) rfl U.choose_spec ⟨_,rfl⟩) (bq _)))))
 (aI (bu zR))
 bA)
 (aI (bu (a9 (yL rfl) rfl ab Boot.«all» (ai (cf (own:=["sign"]) (cap:=[]) (caps:=[]) rfl (scC trivial) (LB (pv 0)) (λ_ _ _=>(aU (i:=0) (ndL ["sign"] []) rfl (tt rfl))) (λ_ _ _=>bK) (λ_ _ _=>(GR Fq Fq dD (pv 0) dD))) au))))),
  (aL (b8 (t4 (bF (aw kK (a6 dE (aj (ah 0) av)) (aC 1))) (bF (aw kU (a6 dE (aj (ah 0) av)) (aC 8))))
 (br (zP false))
 bz)
 (br (a6 Fl (aj (bW (m:=1) (caps:=[]) (J0 (ah 0)) (aQ 0) bL (BE EG EG (dC ("a" :Str)) (ah 0) (dC ("z" :Str)))) av))))⟩
theorem zF:a0 ["goods","works"] ["goods","works"] (aJ ou):=cB
abbrev sZ(e:Ev):Prop:=DIn e 35 "check_many" ["goods","works"] jg
theorem zB(F:FA e "check_many" ou)(ac:e.P.given.tree=none)(ab:N0 e "len")(U:∃t,e.mg "MOST_GOODS" =some (.int 10 t))(Y:∃t,e.mg "MOST_WORKS" =some (.int 10 t)):sZ e:=by
 exact bN F zF rfl (by decide) (bd2 λ_ _ _ _ _ _ _ _=>rfl) λ_ _ _ _ _ _ _ hr hu ae=>⟨_,(aD (cq (bo kR (a9 cG rfl ab Boot.«len» (ai (pv 0) au)) (eV (v:=.int 10) rfl U.choose_spec ⟨_,rfl⟩) (bq _))
 (aI fV)
 bA)
 (aI (cq (bo kR (a9 cG rfl ab Boot.«len» (ai (pv 1) au)) (eV (v:=.int 10) rfl Y.choose_spec ⟨_,rfl⟩) (bq _))
 (aI fV)
 bA))),
  (aL (b8 (bF (aw kU (a6 dE (aj (ah 0) av)) (aC 10)))
 fT
 bz)
 (b8 (bF (aw kU (a6 dE (aj (ah 1) av)) (aC 10)))
 fT
 bz))⟩
theorem zu:a0 ["text","earlier"] ["text","earlier"] (aJ oY):=cB
abbrev ow(e:Ev):Prop:=DIn e 36 "check_name" ["text","earlier"] gr
theorem zD(F:FA e "check_name" oY)(U:e.P.given.tree=none)(Y:yG e):ow e:=by
 exact bN F zu rfl (by decide) (bd2 λ_ _ _ _ _ _ _ _=>rfl) λ_ _ _ _ _ _ _ hr hu ac=>⟨_,(aD (cq (o4 (gu (aO Y hr (ai (pv 0) au))))
 (aI fV)
 bA)
 (aI (cq (bo yE (pv 0) (pv 1) (by with_unfolding_all rfl))
 (aI fV)
 bA))),
  (aL (b8 (oq (iB (aW (n:=1) (f:=mV) (aj (ah 0) av))))
 fT
 bz)
 (b8 (bF (aw Jk (ah 0) (ah 1)))
 fT
 bz))⟩
theorem lV:a0 ["goods","at","good"] ["goods"] (aJ nj):=cB
abbrev sf(e:Ev):Prop:=DIn e 37 "check_goods" ["goods"] iN
theorem yb(F:FA e "check_goods" nj)(Y:e.P.given.tree=none)(U:N0 e "enumerate")(og:ow e):sf e:=by
 exact bN F lV rfl (by decide) (bd1 λ_ _ _ _ _ _ _=>rfl) λ_ _ _ _ _ _ _ hr hu ae=>⟨_,(aI (fj PassesOwn.never rfl (lX rfl U (ai (pv 0) au)) (gJ rfl (bO (aU (i:=1) lV.nd rfl (tt rfl)) (bO (aU (i:=2) lV.nd rfl (tt rfl)) fM)))
 (aI (cV (aO og hr (ai (pv 2) (ai (lY ud (pv 0) lP (kF (pv 1))) au))))))),
  (fg (gn (aj (ah 0) av)) (fJ (bP (aQ 1) (bP (aQ 2) fI)))
 (cT (aW (n:=2) (f:=gr) (aj (ah 2) (aj (zM (ah 0) jo (kA (ah 1))) av)))))⟩
theorem zo:a0 ["good","goods","earlier"] ["good","goods","earlier"] (aJ oR):=cB
abbrev sv(e:Ev):Prop:=DIn e 35 "check_good" ["good","goods","earlier"] ji
theorem zy(F:FA e "check_good" oR)(U:e.P.given.tree=none):sv e:=by
 exact bN F zo rfl (by decide) (bd3 λ_ _ _ _ _ _ _ _ _=>rfl) λ_ _ _ _ _ _ _ hr hu Y=>⟨_,(aD (cq (bo AO (pv 0) (pv 1) (by with_unfolding_all rfl))
 (aI fV)
 bA)
 (aI (cq (bo yE (pv 0) (pv 2) (by with_unfolding_all rfl))
 (aI fV)
 bA))),
  (aL (b8 (bF (aw Il (ah 0) (ah 1)))
 fT
 bz)
 (b8 (bF (aw Jk (ah 0) (ah 2)))
 fT
 bz))⟩
theorem wN:a0 ["amount"] ["amount"] (aJ lZ):=cB
abbrev qx(e:Ev):Prop:=DIn e 36 "check_amount" ["amount"] hZ
theorem wz(F:FA e "check_amount" lZ)(U:e.P.given.tree=none)(Y:rh e):qx e:=by
 exact bN F wN rfl (by decide) (bd1 λ_ _ _ _ _ _ _=>rfl) λ_ _ _ _ _ _ _ hr hu ac=>⟨_,(aI (cq (PW.pt (pw_or (o4 (gu (aO Y hr (ai (pv 0) au)))) (pw_or1 (bo k7 (pv 0) aE (bq _)))))
 (aI fV)
 bA)),
  (b8 (t4 (oq (iB (aW (n:=1) (f:=fD) (aj (ah 0) av)))) (bF (aw kK (ah 0) (aC 1))))
 fT
 bz)⟩
theorem jJ:a0 ["parts","goods","earlier","good","amount"] ["parts","goods"] (aJ nk):=cB
abbrev sk(e:Ev):Prop:=DIn e 37 "check_parts" ["parts","goods"] eY
theorem xA(F:FA e "check_parts" nk)(Y:e.P.given.tree=none)(Be:sv e)(xw:qx e):sk e:=by
 exact bN F jJ rfl (by decide) (bd2 λ_ _ _ _ _ _ _ _=>rfl) λ_ _ _ _ _ _ _ U hu ae=>⟨_,(aD (ba (i:=2) jJ.nd rfl (tt rfl) (df au))
 (aI (fj PassesOwn.never rfl (b9 (pv 0)) (gJ rfl (bO (aU (i:=3) jJ.nd rfl (tt rfl)) (bO (aU (i:=4) jJ.nd rfl (tt rfl)) fM)))
 (aD (cV (aO Be U (ai (pv 3) (ai (pv 1) (ai (pv 2) au)))))
 (aD (cV (aO xw U (ai (pv 4) au)))
 (aI (cV (jx Go Gp Is eG (pv 2) (ai (pv 3) au))))))))),
  (aL (aY (jB av))
 (fg (cj (ah 0)) (fJ (bP (aQ 3) (bP (aQ 4) fI)))
 (aL (cT (j8 (n:=3) (f:=ji) (aj (ah 3) (aj (ah 1) (aj (ah 2) av)))))
 (aL (cT (aW (n:=1) (f:=hZ) (aj (ah 4) av)))
 (cT (iG (ah 2) (ah 3)))))))⟩
theorem ie:a0 ["works","goods","earlier","name","uses","makes"] ["works","goods"] (aJ ng):=cB
abbrev si(e:Ev):Prop:=DIn e 38 "check_works" ["works","goods"] iK
theorem xS(F:FA e "check_works" ng)(ab:e.P.given.tree=none)(og:ow e)(Y:sk e):si e:=by
 exact bN F ie rfl (by decide) (bd2 λ_ _ _ _ _ _ _ _=>rfl) λ_ _ _ _ _ _ _ U hu ae=>⟨_,(aD (ba (i:=2) ie.nd rfl (tt rfl) (df au))
 (aI (fj PassesOwn.never rfl (b9 (pv 0)) (gJ rfl (bO (aU (i:=3) ie.nd rfl (tt rfl)) (bO (aU (i:=4) ie.nd rfl (tt rfl)) (bO (aU (i:=5) ie.nd rfl (tt rfl)) fM))))
 (aD (cV (aO og U (ai (pv 3) (ai (pv 2) au))))
 (aD (cV (aO Y U (ai (pv 4) (ai (pv 1) au))))
 (aD (cV (aO Y U (ai (pv 5) (ai (pv 1) au))))
 (aI (cV (jx Go Gp Is eG (pv 2) (ai (pv 3) au)))))))))),
  (aL (aY (jB av))
 (fg (cj (ah 0)) (fJ (bP (aQ 3) (bP (aQ 4) (bP (aQ 5) fI))))
 (aL (cT (j8 (n:=2) (f:=gr) (aj (ah 3) (aj (ah 2) av))))
 (aL (cT (aW (n:=2) (f:=eY) (aj (ah 4) (aj (ah 1) av))))
 (aL (cT (aW (n:=2) (f:=eY) (aj (ah 5) (aj (ah 1) av))))
 (cT (iG (ah 2) (ah 3))))))))⟩
theorem Ba:a0 ["work"] ["work"] (aJ pV):=cB
abbrev uO(e:Ev):Prop:=DIn e 35 "copy_work" ["work"] jS
theorem AZ(F:FA e "copy_work" pV)(Y:e.P.given.tree=none)(U:N0 e "list"):uO e:=by
 exact bN F Ba rfl (by decide) (bd1 λ_ _ _ _ _ _ _=>rfl) λ_ _ _ _ _ _ _ hr hu ab=>⟨_,(aI (bu (mM (ai (bT bG (pv 0) aE (λ_ _=>rfl)) (ai (c9 fG rfl U Boot.«list» (ai (bT bG (pv 0) aE (λ_ _=>rfl)) au)) (ai (c9 fG rfl U Boot.«list» (ai (bT bG (pv 0) aE (λ_ _=>rfl)) au)) au)))))),
  (br (o3 (aj (aw bU (ah 0) (aC 0)) (aj (a6 ko (aj (aw bU (ah 0) (aC 1)) av)) (aj (a6 ko (aj (aw bU (ah 0) (aC 2)) av)) av)))))⟩
theorem AH:a0 ["good","parts"] ["good","parts"] (aJ pU):=cB
abbrev uY(e:Ev):Prop:=DIn e 35 "amount_of" ["good","parts"] eJ
theorem Bj(F:FA e "amount_of" pU)(Y:e.P.given.tree=none)(U:N0 e "sum"):uY e:=by
 exact bN F AH rfl (by decide) (bd2 λ_ _ _ _ _ _ _ _=>rfl) λ_ _ _ _ _ _ _ hr hu ab=>⟨_,(aI (bu (a9 (o7 rfl) rfl U Boot.«sum» (ai (cf (own:=["part"]) (cap:=["good"]) (caps:=[0]) rfl (scC ⟨rfl,tt rfl,rfl,trivial⟩) (b9 (pv 1)) (λ_ _ _=>(aU (i:=0) (ndL ["part"] ["good"]) rfl (tt rfl))) (λ_ _ _=>(qr (bo (ir hu) (bT bG (pv 0) aE (λ_ _=>rfl)) (pv 1) (bq _)))) (λ_ _ _=>(bT bG (pv 0) aE (λ_ _=>rfl)))) au)))),
  (br (a6 xb (aj (bW (m:=1) (caps:=[0]) (cj (ah 1)) (aQ 0) (bF (aw fH (aw bU (ah 0) (aC 0)) (ah 1))) (aw bU (ah 0) (aC 1))) av)))⟩
theorem Bw:a0 ["work","goods"] ["work","goods"] (aJ pH):=cB
abbrev uK(e:Ev):Prop:=DIn e 36 "change_of" ["work","goods"] jU
theorem Aa(F:FA e "change_of" pH)(ab:e.P.given.tree=none)(U:uY e):uK e:=by
 exact bN F Bw rfl (by decide) (bd2 λ_ _ _ _ _ _ _ _=>rfl) λ_ _ _ _ _ _ _ Y hu ac=>⟨_,(aI (bu (cf (own:=["good"]) (cap:=["work"]) (caps:=[0]) rfl (scC ⟨rfl,tt rfl,rfl,trivial⟩) (b9 (pv 1)) (λ_ _ _=>(aU (i:=0) (ndL ["good"] ["work"]) rfl (tt rfl))) (λ_ _ _=>bK) (λ_ _ _=>(aT kS (aO U Y (ai (pv 0) (ai (bT bG (pv 1) aE (λ_ _=>rfl)) au))) (aO U Y (ai (pv 0) (ai (bT bG (pv 1) aE (λ_ _=>rfl)) au)))))))),
  (br (bW (m:=1) (caps:=[0]) (cj (ah 1)) (aQ 0) bL (aw lF (aW (n:=2) (f:=eJ) (aj (ah 0) (aj (aw bU (ah 1) (aC 2)) av))) (aW (n:=2) (f:=eJ) (aj (ah 0) (aj (aw bU (ah 1) (aC 1)) av))))))⟩
theorem Bh:a0 ["self","goods","works"] ["self","goods","works"] (aJ iQ):=cB
abbrev uP(e:Ev):Prop:=Lu e.P e.w e.K e.mg e.base e.ca 39 (e.ca 0) "Yard" ["self","goods","works"] iR
theorem An(F:Fun e.K "__init__" "Yard.__init__" iQ a fd)(hk:Mk e.K (e.ca 0) a)(hm:e.mg "Yard" =some (.ref (e.ca 0)))(an:e.P.given.tree=none)(ae:N0 e "list")(ac:Cls e.K (e.ca 0))(Y:fk e.K (e.ca 0) "held_goods")(ab:fk e.K (e.ca 0) "held_works")(U:fk e.K (e.ca 0) "held_changes")(Ad:sZ e)(zG:sf e)(zk:si e)(Cm:uO e)(Cc:uK e):uP e:=by
 refine⟨a,fd,qp F Bh rfl λa4 A outer s H E hr=> ?_,hk,hm,F.binds λ_ _ _ _ _ _ us hl=>match us,hl with | [_,_,_],_=>rfl⟩
 have hu:=hr.units
 have bb:=mG hr (by decide)
 exact⟨_,(aD (cV (aO Ad hr (ai (pv 1) (ai (pv 2) au))))
 (aD (cV (aO zG hr (ai (pv 1) au)))
 (aD (cV (aO zk hr (ai (pv 2) (ai (pv 1) au))))
 (aD (A9 (pv 0) (c9 fG rfl ae Boot.«list» (ai (pv 1) au)) rfl)
 (aD (A9 (pv 0) (cf (own:=["work"]) (cap:=[]) (caps:=[]) rfl (scC trivial) (b9 (pv 2)) (λ_ _ _=>(aU (i:=0) (ndL ["work"] []) rfl (tt rfl))) (λ_ _ _=>bK) (λ_ _ _=>(aO Cm hr (ai (pv 0) au)))) rfl)
 (aI (A9 (pv 0) (cf (own:=["work"]) (cap:=["goods"]) (caps:=[1]) rfl (scC ⟨rfl,tt rfl,rfl,trivial⟩) (b9 (pv 2)) (λ_ _ _=>(aU (i:=0) (ndL ["work"] ["goods"]) rfl (tt rfl))) (λ_ _ _=>bK) (λ_ _ _=>(aO Cc hr (ai (pv 0) (ai (pv 1) au))))) rfl))))))),
  (aL (cT (aW (n:=2) (f:=jg) (aj (ah 1) (aj (ah 2) av))))
 (aL (cT (aW (n:=1) (f:=iN) (aj (ah 1) av)))
 (aL (cT (aW (n:=2) (f:=iK) (aj (ah 2) (aj (ah 1) av))))
 (aL (xy (c:=0) (f:="held_goods") ac Y (ah 0) (a6 ko (aj (ah 1) av)))
 (aL (xy (c:=0) (f:="held_works") ac ab (ah 0) (bW (m:=1) (caps:=[]) (cj (ah 2)) (aQ 0) bL (aW (n:=1) (f:=jS) (aj (ah 0) av))))
 (xy (c:=0) (f:="held_changes") ac U (ah 0) (bW (m:=1) (caps:=[1]) (cj (ah 2)) (aQ 0) bL (aW (n:=2) (f:=jU) (aj (ah 0) (aj (ah 1) av))))))))))⟩
theorem Cf:a0 ["_law_script","_law_k"] ["_law_script","_law_k"] (aJ qW):=cB
abbrev rT(e:Ev):Prop:=DIn e 35 "_law_cell" ["_law_script","_law_k"] cM
theorem B1(F:FA e "_law_cell" qW)(Y:e.P.given.tree=none)(U:N0 e "len"):rT e:=by
 exact bN F Cf rfl (by decide) (bd2 λ_ _ _ _ _ _ _ _=>rfl) λ_ _ _ _ _ _ _ hr hu ab=>⟨_,(aD (cq (bo k7 (pv 1) (a9 cG rfl U Boot.«len» (ai (pv 0) au)) (bq _))
 (aI (bu (bT bG (pv 0) (pv 1) (λ_ _=>rfl))))
 bA)
 (aI (bu aE))),
  (aL (b8 (bF (aw kK (ah 1) (a6 dE (aj (ah 0) av))))
 (br (aw bU (ah 0) (ah 1)))
 bz)
 (br (aC 0)))⟩
theorem uJ:a0 ["_law_cell_here","_law_turn","_law_many","_law_blent"] ["_law_cell_here","_law_turn","_law_many"] (aJ qH):=cB
abbrev iA(e:Ev):Prop:=DIn e 35 "_law_pick" ["_law_cell_here","_law_turn","_law_many"] aK
theorem B2(F:FA e "_law_pick" qH)(U:e.P.given.tree=none):iA e:=by
 exact bN F uJ rfl (by decide) (bd3 λ_ _ _ _ _ _ _ _ _=>rfl) λ_ _ _ _ _ _ _ hr hu Y=>⟨_,(aD (ba (i:=3) uJ.nd rfl (tt rfl) (aT fO (aT d8 (aT cx (aT fO (pv 0) aE) aE) (aT cx aE (aT d8 aE (pv 1)))) aE))
 (aI (bu (aT fO (aT (kM Y U ⟨_,_,rfl,rfl,rfl,rfl,rfl⟩) (aT fO (aT d8 (pv 3) aE) aE) aE) (pv 2))))),
  (aL (aY (aw gM (aw dg (aw bQ (aw gM (ah 0) (aC 2147483647)) (aC 7)) (aw bQ (aC 48271) (aw dg (aC 7919) (ah 1)))) (aC 2147483647)))
 (br (aw gM (aw jF (aw gM (aw dg (ah 3) (aC 16807)) (aC 2147483647)) (aC 8)) (ah 2))))⟩
theorem gf:a0 ["_law_cell_here","_law_many","_law_letters","_law_word","_law_k","_law_spot","_law_first"] ["_law_cell_here","_law_many"] (aJ p6):=cB
abbrev uW(e:Ev):Prop:=DIn e 36 "_law_names" ["_law_cell_here","_law_many"] dG
theorem Bf(F:FA e "_law_names" p6)(ae:e.P.given.tree=none)(U:N0 e "range")(Y:N0 e "len")(bB:iA e):uW e:=by
 exact bN F gf rfl (by decide) (bd2 λ_ _ _ _ _ _ _ _=>rfl) λ_ _ _ _ _ _ _ hr hu am=>⟨_,(aD (ba (i:=2) gf.nd rfl (P1 rfl) dD)
 (aD (ba (i:=3) gf.nd rfl (P1 rfl) dD)
 (aD (fj PassesOwn.never rfl (da rfl U (ai (aO bB hr (ai (pv 0) (ai aE (ai aE au)))) au)) (aU (i:=4) gf.nd rfl (tt rfl))
 (aI (ba (i:=3) gf.nd rfl (P1 rfl) (aT cx (pv 3) (bT bG (pv 2) (aO bB hr (ai (pv 0) (ai (aT cx aE (pv 4)) (ai aE au)))) (λ_ _=>rfl))))))
 (aD (ba (i:=5) gf.nd rfl (P1 rfl) (aO bB hr (ai (pv 0) (ai aE (ai (aT cx (a9 cG rfl Y Boot.«len» (ai (pv 3) au)) aE) au)))))
 (aD (ba (i:=6) gf.nd rfl (P1 rfl) (aO bB hr (ai (pv 0) (ai aE (ai aE au)))))
 (aI (bu (cf (own:=["_law_k"]) (cap:=["_law_first","_law_letters","_law_spot","_law_word"]) (caps:=[6,2,5,3]) rfl (scC ⟨rfl,tt rfl,rfl,⟨rfl,tt rfl,rfl,⟨rfl,tt rfl,rfl,⟨rfl,tt rfl,rfl,trivial⟩⟩⟩⟩) (da rfl U (ai (pv 1) au)) (λ_ _ _=>(aU (i:=0) (ndL ["_law_k"] ["_law_first","_law_letters","_law_spot","_law_word"]) rfl (tt rfl))) (λ_ _ _=>bK) (λ_ _ _=>(aT cx (aT cx (lY Fu (pv 4) lP (kF (pv 3))) (bT bG (pv 2) (aT fO (aT cx (pv 1) (aT d8 aE (pv 0))) aE) (λ_ _=>rfl))) (lY Fu (pv 4) (kF (pv 3)) lP))))))))))),
  (aL (aY (dC ("abcdefghijklmnopqrstuvwxyz" :Str)))
 (aL (aY (dC ("" :Str)))
 (aL (fg (eI (aj (aW (n:=3) (f:=aK) (aj (ah 0) (aj (aC 1) (aj (aC 8) av)))) av)) (aQ 4)
 (aY (aw bQ (ah 3) (aw bU (ah 2) (aW (n:=3) (f:=aK) (aj (ah 0) (aj (aw bQ (aC 2) (ah 4)) (aj (aC 26) av))))))))
 (aL (aY (aW (n:=3) (f:=aK) (aj (ah 0) (aj (aC 10) (aj (aw bQ (a6 dE (aj (ah 3) av)) (aC 1)) av)))))
 (aL (aY (aW (n:=3) (f:=aK) (aj (ah 0) (aj (aC 11) (aj (aC 26) av)))))
 (br (bW (m:=1) (caps:=[6,2,5,3]) (eI (aj (ah 1) av)) (aQ 0) bL (aw bQ (aw bQ (FI (ah 4) jo (kA (ah 3))) (aw bU (ah 2) (aw gM (aw bQ (ah 1) (aw dg (aC 5) (ah 0))) (aC 26)))) (FI (ah 4) (kA (ah 3)) jo)))))))))⟩
theorem fu:a0 ["_law_cell_here","_law_many","_law_wide","_law_made","_law_rest","_law_span","_law_g","_law_number"] ["_law_cell_here","_law_many","_law_wide"] (aJ rG):=cB
abbrev wK(e:Ev):Prop:=DIn e 36 "_law_move" ["_law_cell_here","_law_many","_law_wide"] lg
theorem Ca(F:FA e "_law_move" rG)(Y:e.P.given.tree=none)(ab:N0 e "int")(U:N0 e "range")(bB:iA e):wK e:=by
 exact bN F fu rfl (by decide) (bd3 λ_ _ _ _ _ _ _ _ _=>rfl) λ_ _ _ _ _ _ _ hr hu ac=>⟨_,(aD (ba (i:=3) fu.nd rfl (tt rfl) (df au))
 (aD (ba (i:=4) fu.nd rfl (tt rfl) (aT (kM ac Y ⟨_,_,rfl,rfl,rfl,rfl,rfl⟩) (pv 0) aE))
 (aD (ba (i:=5) fu.nd rfl (tt rfl) (bT bG (df (ai aE (ai (aT cx (aT d8 aE (aT wR aE aE)) aE) au))) (c9 gN rfl ab Boot.«int» (ai (pv 2) au)) (λ_ _=>rfl)))
 (aD (fj PassesOwn.never rfl (da rfl U (ai (pv 1) au)) (aU (i:=6) fu.nd rfl (tt rfl))
 (aD (ba (i:=7) fu.nd rfl (tt rfl) (aT kS (aO bB hr (ai (pv 0) (ai (aT cx aE (pv 6)) (ai aE au)))) aE))
 (aD (cq (gu (pv 2))
 (aI (ba (i:=7) fu.nd rfl (tt rfl) (aT kS (aT cx (aT d8 (pv 7) (aT fO (pv 0) (aT wR aE aE))) (aO bB hr (ai (pv 0) (ai (aT cx aE (pv 6)) (ai aE au))))) aE)))
 bA)
 (aD (cq (PW.pt (pw_and (bo (ir hu) (aT fO (pv 0) aE) aE (bq _)) (pw_and1 (bo kR (pv 4) aE (bq _)))))
 (aD (ba (i:=7) fu.nd rfl (tt rfl) (aT kS (aT fO (pv 4) (pv 5)) (aT (kM ac Y ⟨_,_,rfl,rfl,rfl,rfl,rfl⟩) (pv 5) aE)))
 (aI (ba (i:=4) fu.nd rfl (tt rfl) (aT (kM ac Y ⟨_,_,rfl,rfl,rfl,rfl,rfl⟩) (pv 4) (pv 5)))))
 bA)
 (aI (cV (jx Go Gp Is eG (pv 3) (ai (pv 7) au))))))))
 (aI (bu (pv 3))))))),
  (aL (aY (jB av))
 (aL (aY (aw jF (ah 0) (aC 2)))
 (aL (aY (aw bU (gk (aj (aC 7) (aj (aw bQ (aw dg (aC 2) (aw wB (aC 10) (aC 12))) (aC 1)) av))) (a6 iz (aj (ah 2) av))))
 (aL (fg (eI (aj (ah 1) av)) (aQ 6)
 (aL (aY (aw lF (aW (n:=3) (f:=aK) (aj (ah 0) (aj (aw bQ (aC 20) (ah 6)) (aj (aC 7) av)))) (aC 3)))
 (aL (b8 (iB (ah 2))
 (aY (aw lF (aw bQ (aw dg (ah 7) (aw gM (ah 0) (aw wB (aC 10) (aC 12)))) (aW (n:=3) (f:=aK) (aj (ah 0) (aj (aw bQ (aC 30) (ah 6)) (aj (aC 2000) av))))) (aC 1000)))
 bz)
 (aL (b8 (qo (bF (aw fH (aw gM (ah 0) (aC 2)) (aC 1))) (bF (aw kU (ah 4) (aC 0))))
 (aL (aY (aw lF (aw gM (ah 4) (ah 5)) (aw jF (ah 5) (aC 2))))
 (aY (aw jF (ah 4) (ah 5))))
 bz)
 (cT (iG (ah 3) (ah 7)))))))
 (br (ah 3))))))⟩
theorem dX:a0 ["_law_script","_law_begin","_law_many","_law_head","_law_moves_here","_law_wide","_law_k","_law_found","_law_way","_law_left_here"] ["_law_script","_law_begin","_law_many"] (aJ pT):=cB
abbrev uI(e:Ev):Prop:=DIn e 37 "_law_moves" ["_law_script","_law_begin","_law_many"] g6
theorem BD(F:FA e "_law_moves" pT)(ap:e.P.given.tree=none)(ab:N0 e "int")(U:N0 e "range")(Y:N0 e "len")(am:N0 e "sum")(ac:N0 e "list")(kX:rT e)(bB:iA e)(D8:wK e):uI e:=by
 exact bN F dX rfl (by decide) (bd3 λ_ _ _ _ _ _ _ _ _=>rfl) λ_ _ _ _ _ _ _ hr hu az=>⟨_,(aD (ba (i:=3) dX.nd rfl (P1 rfl) (aO kX hr (ai (pv 0) (ai (pv 1) au))))
 (aD (ba (i:=4) dX.nd rfl (P1 rfl) (df au))
 (aD (ba (i:=5) dX.nd rfl (tt rfl) (iT (ir hu) (aO bB hr (ai (pv 3) (ai aE (ai aE au)))) aE (bq _)))
 (aD (fj PassesOwn.never rfl (da rfl U (ai (aT fO (aO bB hr (ai (pv 3) (ai aE (ai aE au)))) (aT kS aE (aT d8 aE (c9 gN rfl ab Boot.«int» (ai (pv 5) au))))) au)) (aU (i:=6) dX.nd rfl (P1 rfl))
 (aI (cV (jx Go Gp Is eG (pv 4) (ai (aO D8 hr (ai (aT cx (aO kX hr (ai (pv 0) (ai (aT cx (aT cx (pv 1) aE) (pv 6)) au))) (aT d8 aE (pv 6))) (ai (pv 2) (ai (pv 5) au)))) au)))))
 (aD (ba (i:=7) dX.nd rfl (tt rfl) (df au))
 (aD (fj PassesOwn.never rfl (da rfl U (ai (aT (kM az ap ⟨_,_,rfl,rfl,rfl,rfl,rfl⟩) (aO bB hr (ai (pv 3) (ai aE (ai aE au)))) (aT cx aE (c9 gN rfl ab Boot.«int» (ai (pv 5) au)))) au)) (aU (i:=6) dX.nd rfl (P1 rfl))
 (aD (ba (i:=8) dX.nd rfl (P1 rfl) (cf (own:=["_law_at"]) (cap:=["_law_head","_law_k"]) (caps:=[3,6]) rfl (scC ⟨rfl,tt rfl,rfl,⟨rfl,tt rfl,rfl,trivial⟩⟩) (da rfl U (ai (a9 cG rfl Y Boot.«len» (ai (pv 4) au)) au)) (λ_ _ _=>(aU (i:=0) (ndL ["_law_at"] ["_law_head","_law_k"]) rfl (tt rfl))) (λ_ _ _=>bK) (λ_ _ _=>(aT fO (aO bB hr (ai (pv 1) (ai (aT cx (aT cx aE (aT d8 aE (pv 2))) (pv 0)) (ai aE au)))) aE))))
 (aD (eP (i:=9) (own:=["_law_g"]) (cap:=["_law_moves_here","_law_way"]) (caps:=[4,8]) rfl (scC ⟨rfl,tt rfl,rfl,⟨rfl,tt rfl,rfl,trivial⟩⟩) (da rfl U (ai (pv 2) au)) (λ_ _ _=>(aU (i:=0) (ndL ["_law_g"] ["_law_moves_here","_law_way"]) rfl (P1 rfl))) (λ_ _ _=>bK) (λ_ _ _=>(a9 (o7 rfl) rfl am Boot.«sum» (ai (cf (own:=["_law_at"]) (cap:=["_law_g","_law_moves_here","_law_way"]) (caps:=[0,1,2]) rfl (scC ⟨rfl,tt rfl,rfl,⟨rfl,tt rfl,rfl,⟨rfl,tt rfl,rfl,trivial⟩⟩⟩) (da rfl U (ai (a9 cG rfl Y Boot.«len» (ai (pv 1) au)) au)) (λ_ _ _=>(aU (i:=0) (ndL ["_law_at"] ["_law_g","_law_moves_here","_law_way"]) rfl (tt rfl))) (λ_ _ _=>bK) (λ_ _ _=>(aT d8 (bT bG (pv 3) (pv 0) (λ_ _=>rfl)) (bT bG (bT bG (pv 2) (pv 0) (λ_ _=>rfl)) (pv 1) (λ_ _=>rfl))))) au))) dX.nd rfl (tt rfl) rfl)
 (aD (cV (jx Go Gp Is eG (pv 4) (ai (cf (own:=["_law_number"]) (cap:=[]) (caps:=[]) rfl (scC trivial) (b9 (pv 9)) (λ_ _ _=>(aU (i:=0) (ndL ["_law_number"] []) rfl (tt rfl))) (λ_ _ _=>bK) (λ_ _ _=>(rL oh (pv 0)))) au)))
 (aI (cV (jx Go Gp Is eG (pv 7) (ai (aT cx (pv 8) (df (ai aE au))) au))))))))
 (aD (cq (PW.pt (pw_and (bo (ir hu) (aO bB hr (ai (pv 3) (ai aE (ai aE au)))) aE (bq _)) (pw_and1 (bo k7 (a9 cG rfl Y Boot.«len» (ai (pv 4) au)) aE (bq _)))))
 (aD (cV (jx Go PySem.F.slot_list_insert PySem.F.type_list_insert Kg (pv 4) (ai aE (ai (cf (own:=["_law_g"]) (cap:=[]) (caps:=[]) rfl (scC trivial) (da rfl U (ai (pv 2) au)) (λ_ _ _=>(aU (i:=0) (ndL ["_law_g"] []) rfl (tt rfl))) (λ_ _ _=>bK) (λ_ _ _=>aE)) au))))
 (aI (ba (i:=7) dX.nd rfl (tt rfl) (aT cx (cf (own:=["_law_way"]) (cap:=[]) (caps:=[]) rfl (scC trivial) (b9 (pv 7)) (λ_ _ _=>(aU (i:=0) (ndL ["_law_way"] []) rfl (tt rfl))) (λ_ _ _=>bK) (λ_ _ _=>(aT cx (df (ai aE au)) (pv 0)))) (df (ai (df (ai aE au)) au))))))
 bA)
 (aD (cq (PW.pt (pw_and (bo (ir hu) (aO bB hr (ai (pv 3) (ai aE (ai aE au)))) aE (bq _)) (pw_and1 (ID k7 k7 aE (a9 cG rfl Y Boot.«len» (ai (pv 4) au)) aE))))
 (aI (cV (jx Go Gp Is eG (pv 4) (ai (c9 fG rfl ac Boot.«list» (ai (bT bG (pv 4) (rL oh aE) (λ_ _=>rfl)) au)) au))))
 bA)
 (aI (bu (mM (ai (pv 4) (ai (cf (own:=["_law_way"]) (cap:=["_law_moves_here"]) (caps:=[4]) rfl (scC ⟨rfl,tt rfl,rfl,trivial⟩) (b9 (pv 7)) (λ_ _ _=>(aU (i:=0) (ndL ["_law_way"] ["_law_moves_here"]) rfl (tt rfl))) (λ_ _ _=>bK) (λ_ _ _=>(aT cx (pv 0) (cf (own:=["_law_k"]) (cap:=[]) (caps:=[]) rfl (scC trivial) (da rfl U (ai (aT kS (a9 cG rfl Y Boot.«len» (ai (pv 1) au)) (a9 cG rfl Y Boot.«len» (ai (pv 0) au))) au)) (λ_ _ _=>(aU (i:=0) (ndL ["_law_k"] []) rfl (tt rfl))) (λ_ _ _=>bK) (λ_ _ _=>aE))))) au))))))))))))),
  (aL (aY (aW (n:=2) (f:=cM) (aj (ah 0) (aj (ah 1) av))))
 (aL (aY (jB av))
 (aL (aY (aw fH (aW (n:=3) (f:=aK) (aj (ah 3) (aj (aC 41) (aj (aC 6) av)))) (aC 0)))
 (aL (fg (eI (aj (aw gM (aW (n:=3) (f:=aK) (aj (ah 3) (aj (aC 40) (aj (aC 5) av)))) (aw lF (aC 5) (aw dg (aC 2) (a6 iz (aj (ah 5) av))))) av)) (aQ 6)
 (cT (iG (ah 4) (kZ (jc (n:=3) (f:=lg) (aj (aw bQ (aW (n:=2) (f:=cM) (aj (ah 0) (aj (aw bQ (aw bQ (ah 1) (aC 1)) (ah 6)) av))) (aw dg (aC 13) (ah 6))) (aj (ah 2) (aj (ah 5) av))))))))
 (aL (aY (jB av))
 (aL (fg (eI (aj (aw jF (aW (n:=3) (f:=aK) (aj (ah 3) (aj (aC 42) (aj (aC 3) av)))) (aw bQ (aC 1) (a6 iz (aj (ah 5) av)))) av)) (aQ 6)
 (aL (aY (bW (m:=1) (caps:=[3,6]) (eI (aj (a6 dE (aj (ah 4) av)) av)) (aQ 0) bL (aw gM (aW (n:=3) (f:=aK) (aj (ah 1) (aj (aw bQ (aw bQ (aC 50) (aw dg (aC 7) (ah 2))) (ah 0)) (aj (aC 4) av)))) (aC 3))))
 (aL (aY (bW (m:=1) (caps:=[4,8]) (eI (aj (ah 2) av)) (aQ 0) bL (a6 xb (aj (bW (m:=1) (caps:=[0,1,2]) (eI (aj (a6 dE (aj (ah 1) av)) av)) (aQ 0) bL (aw dg (aw bU (ah 3) (ah 0)) (aw bU (aw bU (ah 2) (ah 0)) (ah 1)))) av))))
 (aL (cT (iG (ah 4) (bW (m:=1) (caps:=[]) (cj (ah 9)) (aQ 0) bL (qT oG (ah 0)))))
 (cT (iG (ah 7) (aw bQ (ah 8) (gk (aj (aC 1) av)))))))))
 (aL (b8 (qo (bF (aw fH (aW (n:=3) (f:=aK) (aj (ah 3) (aj (aC 43) (aj (aC 5) av)))) (aC 0))) (bF (aw kK (a6 dE (aj (ah 4) av)) (aC 6))))
 (aL (cT (La (ah 4) (bW (m:=1) (caps:=[]) (eI (aj (ah 2) av)) (aQ 0) bL (aC 0))))
 (aY (Ku (bW (m:=1) (caps:=[]) (cj (ah 7)) (aQ 0) bL (aw bQ (gk (aj (aC 0) av)) (ah 0))) (gk (aj (gk (aj (aC 1) av)) av)))))
 bz)
 (aL (b8 (qo (bF (aw fH (aW (n:=3) (f:=aK) (aj (ah 3) (aj (aC 44) (aj (aC 5) av)))) (aC 0))) (bF (BE kK kK (aC 0) (a6 dE (aj (ah 4) av)) (aC 6))))
 (cT (iG (ah 4) (a6 ko (aj (aw bU (ah 4) (qT oG (aC 1))) av))))
 bz)
 (br (o3 (aj (ah 4) (aj (jn (m:=1) (caps:=[4]) (cj (ah 7)) (aQ 0) bL (aw bQ (ah 0) (bW (m:=1) (caps:=[]) (eI (aj (aw lF (a6 dE (aj (ah 1) av)) (a6 dE (aj (ah 0) av))) av)) (aQ 0) bL (aC 0)))) av))))))))))))⟩
theorem d6:a0 ["_law_moves_here","_law_stuff","_law_called","_law_cell_here","_law_made","_law_k","_law_move_here","_law_uses","_law_makes","_law_g","_law_number","_law_more"] ["_law_moves_here","_law_stuff","_law_called","_law_cell_here"] (aJ qb):=cB
abbrev uM(e:Ev):Prop:=DIn e 36 "_law_works" ["_law_moves_here","_law_stuff","_law_called","_law_cell_here"] gZ
theorem BN(F:FA e "_law_works" qb)(ab:e.P.given.tree=none)(U:N0 e "enumerate")(Y:N0 e "max")(bB:iA e):uM e:=by
 exact bN F d6 rfl (by decide) (bd4 λ_ _ _ _ _ _ _ _ _ _=>rfl) λ_ _ _ _ _ _ _ hr hu am=>⟨_,(aD (ba (i:=4) d6.nd rfl (tt rfl) (df au))
 (aD (fj PassesOwn.never rfl (lX rfl U (ai (pv 0) au)) (gJ rfl (bO (aU (i:=5) d6.nd rfl (tt rfl)) (bO (aU (i:=6) d6.nd rfl (tt rfl)) fM)))
 (aD (ba (i:=7) d6.nd rfl (tt rfl) (df au))
 (aD (ba (i:=8) d6.nd rfl (tt rfl) (df au))
 (aD (fj PassesOwn.never rfl (lX rfl U (ai (pv 6) au)) (gJ rfl (bO (aU (i:=9) d6.nd rfl (tt rfl)) (bO (aU (i:=10) d6.nd rfl (tt rfl)) fM)))
 (aD (ba (i:=11) d6.nd rfl (tt rfl) (aT d8 (aT (kM am ab ⟨_,_,rfl,rfl,rfl,rfl,rfl⟩) (aO bB hr (ai (aT cx (pv 3) (pv 5)) (ai (aT cx aE (pv 9)) (ai aE au)))) aE) (aT cx aE (aO bB hr (ai (aT cx (pv 3) (pv 5)) (ai (aT cx aE (pv 9)) (ai aE au)))))))
 (aD (cq (bo kR (aT cx (pv 11) (a9 (pz rfl) rfl Y Boot.«max» (ai aE (ai (rL oh (pv 10)) au)))) aE (bq _))
 (aI (cV (jx Go Gp Is eG (pv 7) (ai (mM (ai (bT bG (pv 1) (pv 9) (λ_ _=>rfl)) (ai (aT cx (pv 11) (a9 (pz rfl) rfl Y Boot.«max» (ai aE (ai (rL oh (pv 10)) au)))) au))) au))))
 bA)
 (aI (cq (bo kR (aT cx (pv 11) (a9 (pz rfl) rfl Y Boot.«max» (ai aE (ai (pv 10) au)))) aE (bq _))
 (aI (cV (jx Go Gp Is eG (pv 8) (ai (mM (ai (bT bG (pv 1) (pv 9) (λ_ _=>rfl)) (ai (aT cx (pv 11) (a9 (pz rfl) rfl Y Boot.«max» (ai aE (ai (pv 10) au)))) au))) au))))
 bA)))))
 (aD (cq (bo (ir hu) (aO bB hr (ai (aT cx (pv 3) (pv 5)) (ai aE (ai aE au)))) aE (bq _))
 (aI (ba (i:=7) d6.nd rfl (tt rfl) (JL (pv 7) lP lP (kF (rL oh aE)))))
 bA)
 (aI (cV (jx Go Gp Is eG (pv 4) (ai (mM (ai (bT bG (pv 2) (pv 5) (λ_ _=>rfl)) (ai (pv 7) (ai (pv 8) au)))) au)))))))))
 (aI (bu (pv 4))))),
  (aL (aY (jB av))
 (aL (fg (gn (aj (ah 0) av)) (fJ (bP (aQ 5) (bP (aQ 6) fI)))
 (aL (aY (jB av))
 (aL (aY (jB av))
 (aL (fg (gn (aj (ah 6) av)) (fJ (bP (aQ 9) (bP (aQ 10) fI)))
 (aL (aY (aw dg (aw jF (aW (n:=3) (f:=aK) (aj (aw bQ (ah 3) (ah 5)) (aj (aw bQ (aC 70) (ah 9)) (aj (aC 4) av)))) (aC 3)) (aw bQ (aC 1) (aW (n:=3) (f:=aK) (aj (aw bQ (ah 3) (ah 5)) (aj (aw bQ (aC 80) (ah 9)) (aj (aC 9) av)))))))
 (aL (b8 (bF (aw kU (aw bQ (ah 11) (a6 ur (aj (aC 0) (aj (qT oG (ah 10)) av)))) (aC 0)))
 (cT (iG (ah 7) (o3 (aj (aw bU (ah 1) (ah 9)) (aj (aw bQ (ah 11) (a6 ur (aj (aC 0) (aj (qT oG (ah 10)) av)))) av)))))
 bz)
 (b8 (bF (aw kU (aw bQ (ah 11) (a6 ur (aj (aC 0) (aj (ah 10) av)))) (aC 0)))
 (cT (iG (ah 8) (o3 (aj (aw bU (ah 1) (ah 9)) (aj (aw bQ (ah 11) (a6 ur (aj (aC 0) (aj (ah 10) av)))) av)))))
 bz))))
 (aL (b8 (bF (aw fH (aW (n:=3) (f:=aK) (aj (aw bQ (ah 3) (ah 5)) (aj (aC 90) (aj (aC 2) av)))) (aC 1)))
 (aY (Kn (ah 7) jo jo (kA (qT oG (aC 1)))))
 bz)
 (cT (iG (ah 4) (o3 (aj (aw bU (ah 2) (ah 5)) (aj (Dw (ah 7)) (aj (kZ (ah 8)) av)))))))))))
 (br (kZ (ah 4)))))⟩
theorem BZ:a0 ["_law_moves_here","_law_way","_law_many"] ["_law_moves_here","_law_way","_law_many"] (aJ qL):=cB
abbrev xh(e:Ev):Prop:=DIn e 35 "_law_left" ["_law_moves_here","_law_way","_law_many"] jE
theorem Ci(F:FA e "_law_left" qL)(ac:e.P.given.tree=none)(U:N0 e "range")(Y:N0 e "len")(ab:N0 e "sum"):xh e:=by
 exact bN F BZ rfl (by decide) (bd3 λ_ _ _ _ _ _ _ _ _=>rfl) λ_ _ _ _ _ _ _ hr hu ae=>⟨_,(aI (bu (cf (own:=["_law_g"]) (cap:=["_law_moves_here","_law_way"]) (caps:=[0,1]) rfl (scC ⟨rfl,tt rfl,rfl,⟨rfl,tt rfl,rfl,trivial⟩⟩) (da rfl U (ai (pv 2) au)) (λ_ _ _=>(aU (i:=0) (ndL ["_law_g"] ["_law_moves_here","_law_way"]) rfl (P1 rfl))) (λ_ _ _=>bK) (λ_ _ _=>(a9 (o7 rfl) rfl ab Boot.«sum» (ai (cf (own:=["_law_k"]) (cap:=["_law_g","_law_moves_here","_law_way"]) (caps:=[0,1,2]) rfl (scC ⟨rfl,tt rfl,rfl,⟨rfl,tt rfl,rfl,⟨rfl,tt rfl,rfl,trivial⟩⟩⟩) (da rfl U (ai (a9 cG rfl Y Boot.«len» (ai (pv 1) au)) au)) (λ_ _ _=>(aU (i:=0) (ndL ["_law_k"] ["_law_g","_law_moves_here","_law_way"]) rfl (tt rfl))) (λ_ _ _=>bK) (λ_ _ _=>(aT d8 (bT bG (pv 3) (pv 0) (λ_ _=>rfl)) (bT bG (bT bG (pv 2) (pv 0) (λ_ _=>rfl)) (pv 1) (λ_ _=>rfl))))) au)))))),
  (br (jn (m:=1) (caps:=[0,1]) (eI (aj (ah 2) av)) (aQ 0) bL (a6 xb (aj (bW (m:=1) (caps:=[0,1,2]) (eI (aj (a6 dE (aj (ah 1) av)) av)) (aQ 0) bL (aw dg (aw bU (ah 3) (ah 0)) (aw bU (aw bU (ah 2) (ah 0)) (ah 1)))) av))))⟩
theorem xK:a0 ["_law_e"] ["_law_e"] (aJ nt):=cB
abbrev m9(e:Ev):Prop:=Mw e 35 "_law_word_of" ["_law_e"] eW
theorem yg(F:FA e "_law_word_of" nt)(bn:e.P.given.tree=none)(Y:N0 e "isinstance")(ac:N0 e "ValueError")(bm:N0 e "int")(a2:e.mg "TooMany" =some (.ref (e.ca 13)))(a4:e.mg "NoWork" =some (.ref (e.ca 12)))(ae:e.mg "NoWeights" =some (.ref (e.ca 11)))(a5:e.mg "NoText" =some (.ref (e.ca 9)))(be:e.mg "NoRow" =some (.ref (e.ca 8)))(a3:e.mg "NoRatio" =some (.ref (e.ca 10)))(bb:e.mg "NoName" =some (.ref (e.ca 7)))(bd:e.mg "NoGood" =some (.ref (e.ca 6)))(bi:e.mg "NoFit" =some (.ref (e.ca 5)))(a1:e.mg "NoAmount" =some (.ref (e.ca 3)))(U:∀c b,bc c=some b->ExK e.K (e.ca c)/\Qg e.K (.ref (e.ca c)) ([e.ca 3,e.ca 5,e.ca 6,e.ca 7,e.ca 10,e.ca 8,e.ca 9,e.ca 11,e.ca 12,e.ca 13].map Value.ref)=some b)(ab:∀c b,jY c=some b->ExK e.K (e.ca c)/\Pd e.K (.ref (e.ca c)) (.type "ValueError")=some b)(ap:e.mg "NoWay" =some (.ref (e.ca 1)))(az:∀c b,oA c=some b->ExK e.K (e.ca c)/\Pd e.K (.ref (e.ca c)) (.ref (e.ca 1))=some b)(am:e.mg "NoBalance" =some (.ref (e.ca 4)))(an:∀c b,lC c=some b->ExK e.K (e.ca c)/\Pd e.K (.ref (e.ca c)) (.ref (e.ca 4))=some b):m9 e:=by
 exact J4 F xK rfl (bd1 λ_ _ _ _ _ _ _=>rfl) λ_ _ _ _ _ _ _ hr hu=>⟨_,(aD (cq (gu (a9 oO rfl Y Boot.«isinstance» (ai (pv 0) (ai (mM (ai (eV (v:=.ref (e.ca 3)) rfl a1 rfl) (ai (eV (v:=.ref (e.ca 5)) rfl bi rfl) (ai (eV (v:=.ref (e.ca 6)) rfl bd rfl) (ai (eV (v:=.ref (e.ca 7)) rfl bb rfl) (ai (eV (v:=.ref (e.ca 10)) rfl a3 rfl) (ai (eV (v:=.ref (e.ca 8)) rfl be rfl) (ai (eV (v:=.ref (e.ca 9)) rfl a5 rfl) (ai (eV (v:=.ref (e.ca 11)) rfl ae rfl) (ai (eV (v:=.ref (e.ca 12)) rfl a4 rfl) (ai (eV (v:=.ref (e.ca 13)) rfl a2 rfl) au))))))))))) au))))
 (aI (bu dD))
 bA)
 (aD (cq (PW.pt (pw_or (o4 (gu (a9 oO rfl Y Boot.«isinstance» (ai (pv 0) (ai (qi (v:=.ty "ValueError") rfl ac (by boot_by_name) rfl) au))))) (pw_or1 (bo (ir hu) (a9 oO rfl Y Boot.«isinstance» (ai (pv 0) (ai (eV (v:=.ref (e.ca 1)) rfl ap rfl) au))) (a9 oO rfl Y Boot.«isinstance» (ai (pv 0) (ai (eV (v:=.ref (e.ca 4)) rfl am rfl) au))) (bq _)))))
 (aI (bu dD))
 bA)
 (aI (bu (bT bG (df (ai dD (ai dD au))) (c9 gN rfl bm Boot.«int» (ai (a9 oO rfl Y Boot.«isinstance» (ai (pv 0) (ai (eV (v:=.ref (e.ca 1)) rfl ap rfl) au))) au)) (λ_ _=>rfl)))))),
  (aL (b8 (iB (J7 (Ds:=[e.ca 3,e.ca 5,e.ca 6,e.ca 7,e.ca 10,e.ca 8,e.ca 9,e.ca 11,e.ca 12,e.ca 13]) (by simp) U (ah 0)))
 (br (dC ("another" :Str)))
 bz)
 (aL (b8 (t4 (oq (iB (Hu ab (ah 0)))) (bF (aw fH (Ap az (ah 0)) (Ap an (ah 0)))))
 (br (dC ("two" :Str)))
 bz)
 (br (aw bU (gk (aj (dC ("balance" :Str)) (aj (dC ("way" :Str)) av))) (a6 iz (aj (Ap az (ah 0)) av))))))⟩
theorem nB:a0 ["_law_yard","_law_way","_law_found","_law_e"] ["_law_yard","_law_way"] (aJ n9):=cB
abbrev tE(e:Ev):Prop:=DIn e 43 "_law_parted" ["_law_yard","_law_way"] d4
theorem zE(F:FA e "_law_parted" n9)(ap:e.P.given.tree=none)(U:N0 e "isinstance")(ac:N0 e "list")(ae:N0 e "int")(Y:e.mg "YardError" =some (.ref (e.ca 2)))(ab:∀c b,gq c=some b->P2 e.K (.ref (e.ca c)) (.ref (e.ca 2))=some b)(IL:AV e)(nq:m9 e):tE e:=by
 exact bN F nB rfl (by decide) (bd2 λ_ _ _ _ _ _ _ _=>rfl) λ_ _ _ _ _ _ _ hr hu a2=>⟨_,(aD (E7 rfl rfl rfl (λp E1 Es am=>(aI (ba (i:=2) nB.nd rfl (tt rfl) (Fm IL hr am (ai (pv 0) (ai (pv 1) au))))))
 (Jm (i:=3) nB.nd rfl rfl rfl Y (λ_ _ h=>h) (λv=>(aI (bu (yU nq ((hr.h _).mono (by decide)) (ai (pv 3) au)))))
 Fi))
 (aI (bu (bT bG (df (ai dD (ai dD au))) (c9 gN rfl ae Boot.«int» (ai (a9 qX rfl U Boot.«isinstance» (ai (pv 2) (ai (qi (v:=.ty "list") rfl ac Boot.«list» rfl) au))) au)) (λ_ _=>rfl))))),
  (aL (Gb (λW Es hW=>(aY (kZ (E9 (n:=2) (f:=jr) hW (aj (ah 0) (aj (ah 1) av))))))
 (λc=>Jf ab (λc=>Jx (i:=3) (br (aW (n:=1) (f:=eW) (aj (ah 3) av))) c)
 C5 c))
 (br (aw bU (gk (aj (dC ("no list" :Str)) (aj (dC ("told" :Str)) av))) (a6 iz (aj (wZ ty_list (ah 2)) av)))))⟩
theorem kQ:a0 ["_law_yard","_law_way","_law_found","_law_e"] ["_law_yard","_law_way"] (aJ lK):=cB
abbrev qz(e:Ev):Prop:=DIn e 39 "_law_balanced" ["_law_yard","_law_way"] eH
theorem wc(F:FA e "_law_balanced" lK)(a5:e.P.given.tree=none)(az:N0 e "int")(ac:N0 e "isinstance")(a2:N0 e "bool")(a1:Cls e.K (e.ca 0))(ae:e.mg "YardError" =some (.ref (e.ca 2)))(am:∀c b,gq c=some b->P2 e.K (.ref (e.ca c)) (.ref (e.ca 2))=some b)(U:kN e)(nq:m9 e):qz e:=by
 obtain⟨ap,an,Y,dv,ab⟩:=U
 exact bN F kQ rfl (by decide) (bd2 λ_ _ _ _ _ _ _ _=>rfl) λ_ _ _ _ _ _ _ hr hu bd=>⟨_,(aD (E7 rfl rfl rfl (λp E1 Es a3=>(aI (ba (i:=2) kQ.nd rfl (tt rfl) (qJ (pv 0) a1 dv Y (hr.mono (by decide)) ab .nil a3 (ai (pv 1) au)))))
 (Jm (i:=3) kQ.nd rfl rfl rfl ae (λ_ _ h=>h) (λv=>(aI (bu (bT bG (df (ai dD (ai dD au))) (c9 gN rfl az Boot.«int» (ai (iT (ir hu) (yU nq ((hr.h _).mono (by decide)) (ai (pv 3) au)) dD (bq _)) au)) (λ_ _=>rfl)))))
 Fi))
 (aD (cq (o4 (gu (a9 qX rfl ac Boot.«isinstance» (ai (pv 2) (ai (qi (v:=.ty "bool") rfl a2 Boot.«bool» rfl) au)))))
 (aI (bu dD))
 bA)
 (aI (bu (bT bG (df (ai dD (ai dD au))) (c9 gN rfl az Boot.«int» (ai (pv 2) au)) (λ_ _=>rfl)))))),
  (aL (Gb (λW Es hW=>(aY (rP (c:=0) (m:="balanced") (n:=1) (f:=dq) hW (ah 0) (aj (ah 1) av))))
 (λc=>Jf am (λc=>Jx (i:=3) (br (aw bU (gk (aj (dC ("two" :Str)) (aj (dC ("way" :Str)) av))) (a6 iz (aj (aw fH (aW (n:=1) (f:=eW) (aj (ah 3) av)) (dC ("way" :Str))) av)))) c)
 C5 c))
 (aL (b8 (oq (iB (wZ ty_bool (ah 2))))
 (br (dC ("no truth" :Str)))
 bz)
 (br (aw bU (gk (aj (dC ("balance" :Str)) (aj (dC ("told" :Str)) av))) (a6 iz (aj (ah 2) av))))))⟩
theorem jV:a0 ["_law_cell_here","_law_many","_law_made"] ["_law_cell_here","_law_many"] (aJ rm):=cB
abbrev w8(e:Ev):Prop:=DIn e 36 "_law_list" ["_law_cell_here","_law_many"] k8
theorem Ck(F:FA e "_law_list" rm)(ae:e.P.given.tree=none)(U:N0 e "range")(Y:N0 e "int")(bB:iA e):w8 e:=by
 exact bN F jV rfl (by decide) (bd2 λ_ _ _ _ _ _ _ _=>rfl) λ_ _ _ _ _ _ _ hr hu am=>⟨_,(aD (eP (i:=2) (own:=["_law_at"]) (cap:=["_law_cell_here"]) (caps:=[0]) rfl (scC ⟨rfl,tt rfl,rfl,trivial⟩) (da rfl U (ai (pv 1) au)) (λ_ _ _=>(aU (i:=0) (ndL ["_law_at"] ["_law_cell_here"]) rfl (tt rfl))) (λ_ _ _=>bK) (λ_ _ _=>(aO bB hr (ai (pv 1) (ai (pv 0) (ai aE au))))) jV.nd rfl (tt rfl) rfl)
 (aD (cq (bo (ir hu) (aT fO (pv 0) aE) aE (bq _))
 (aI (eP (i:=2) (own:=["_law_at"]) (cap:=["_law_cell_here"]) (caps:=[0]) rfl (scC ⟨rfl,tt rfl,rfl,trivial⟩) (da rfl U (ai (pv 1) au)) (λ_ _ _=>(aU (i:=0) (ndL ["_law_at"] ["_law_cell_here"]) rfl (tt rfl))) (λ_ _ _=>bK) (λ_ _ _=>(aT MN (aT Md (pv 1) (aT cx aE (aT d8 aE (pv 0)))) aE)) jV.nd rfl (tt rfl) rfl))
 bA)
 (aD (cq (bo (ir hu) (aO bB hr (ai (pv 0) (ai aE (ai aE au)))) aE (bq _))
 (aI (eP (i:=2) (own:=["_law_number"]) (cap:=["_law_cell_here"]) (caps:=[0]) rfl (scC ⟨rfl,tt rfl,rfl,trivial⟩) (b9 (pv 2)) (λ_ _ _=>(aU (i:=0) (ndL ["_law_number"] ["_law_cell_here"]) rfl (tt rfl))) (λ_ _ _=>bK) (λ_ _ _=>(aT d8 (pv 0) (aT fO (pv 1) (aT wR aE aE)))) jV.nd rfl (tt rfl) rfl))
 bA)
 (aD (cq (PW.pt (pw_and (bo (ir hu) (aO bB hr (ai (pv 0) (ai aE (ai aE au)))) aE (bq _)) (pw_and1 (bo kR (pv 1) aE (bq _)))))
 (aI (Ah (aT kS (rL oh aE) (aT fO (pv 0) (aT wR aE aE))) (Gj (pv 2) (aO bB hr (ai (pv 0) (ai aE (ai (pv 1) au)))) set_list)))
 bA)
 (aD (cq (bo (ir hu) (aO bB hr (ai (pv 0) (ai aE (ai aE au)))) aE (bq _))
 (aI (ba (i:=2) jV.nd rfl (tt rfl) (bT bG (df (ai (aT cx (pv 2) (df (ai aE au))) (ai (lY ud (pv 2) (kF aE) lP) au))) (aT d8 (c9 gN rfl Y Boot.«int» (ai (iT kR (pv 1) aE (bq _)) au)) (aO bB hr (ai (pv 0) (ai aE (ai aE au))))) (λ_ _=>rfl))))
 bA)
 (aI (bu (pv 2)))))))),
  (aL (aY (jn (m:=1) (caps:=[0]) (eI (aj (ah 1) av)) (aQ 0) bL (aW (n:=3) (f:=aK) (aj (ah 1) (aj (ah 0) (aj (aC 4) av))))))
 (aL (b8 (bF (aw fH (aw gM (ah 0) (aC 2)) (aC 1)))
 (aY (jn (m:=1) (caps:=[0]) (eI (aj (ah 1) av)) (aQ 0) bL (aw Kf (aw MV (ah 1) (aw bQ (aC 1) (aw dg (aC 2) (ah 0)))) (aC 3))))
 bz)
 (aL (b8 (bF (aw fH (aW (n:=3) (f:=aK) (aj (ah 0) (aj (aC 10) (aj (aC 4) av)))) (aC 0)))
 (aY (jn (m:=1) (caps:=[0]) (cj (ah 2)) (aQ 0) bL (aw dg (ah 0) (aw gM (ah 1) (aw wB (aC 10) (aC 25))))))
 bz)
 (aL (b8 (qo (bF (aw fH (aW (n:=3) (f:=aK) (aj (ah 0) (aj (aC 11) (aj (aC 3) av)))) (aC 0))) (bF (aw kU (ah 1) (aC 0))))
 (xa (aw lF (qT oG (aC 1)) (aw gM (ah 0) (aw wB (aC 10) (aC 12)))) (Fg (ah 2) (aW (n:=3) (f:=aK) (aj (ah 0) (aj (aC 12) (aj (ah 1) av))))))
 bz)
 (aL (b8 (bF (aw fH (aW (n:=3) (f:=aK) (aj (ah 0) (aj (aC 13) (aj (aC 3) av)))) (aC 0)))
 (aY (aw bU (gk (aj (aw bQ (ah 2) (gk (aj (aC 0) av))) (aj (zM (ah 2) (kA (aC 1)) jo) av))) (aw dg (a6 iz (aj (aw kU (ah 1) (aC 0)) av)) (aW (n:=3) (f:=aK) (aj (ah 0) (aj (aC 14) (aj (aC 2) av)))))))
 bz)
 (br (Dw (ah 2))))))))⟩
theorem ic:a0 ["_law_script","_law_head","_law_many","_law_moves_here","_law_known","_law_stuff","_law_yard","_law_good","_law_cell_here","_law_way","_law_due","_law_handed"] ["_law_script"] (aJ nO):=cB
theorem ME(F:Fun e.K "law" "law" nO a fd)(hm:e.mg "law" =some (.ref a))(bd:e.P.given.tree=none)(U:N0 e "len")(a2:N0 e "min")(ap:N0 e "range")(a3:N0 e "int")(an:N0 e "list")(kX:rT e)(bB:iA e)(Co:uI e)(uV:uW e)(Y:uP e)(Cj:uM e)(Ek:w8 e)(D2:xh e)(tM:tE e)(xu:qz e):Jq e.P e.w e.K e.mg e.base e.ca 44 "law" ["_law_script"] zO a fd:=by
 obtain⟨a1,az,ab,ac,jO,ae⟩:=Y
 refine⟨qp F ic rfl λbv A outer s H E hr=> ?_,hm,F.kp,F.binds λ_ _ _ _ _ _ us hl=>match us,hl with | [_],_=>rfl⟩
 have hu:=hr.units
 have b1:=mG hr (by decide)
 exact⟨_,(aD (ba (i:=1) ic.nd rfl (tt rfl) (aO kX hr (ai (pv 0) (ai aE au))))
 (aD (ba (i:=2) ic.nd rfl (tt rfl) (aT cx aE (aO bB hr (ai (pv 1) (ai aE (ai aE au))))))
 (aD (Ah (aO Co hr (ai (pv 0) (ai aE (ai (pv 2) au)))) (gJ rfl (bO (aU (i:=3) ic.nd rfl (tt rfl)) (bO (aU (i:=4) ic.nd rfl (tt rfl)) fM))))
 (aD (ba (i:=5) ic.nd rfl (tt rfl) (aO uV hr (ai (aT cx (pv 1) aE) (ai (pv 2) au))))
 (aD (ba (i:=6) ic.nd rfl (tt rfl) (K2 ac ab (hr.mono (by decide)) rfl jO ae .nil rV (ai (pv 5) (ai (aO Cj hr (ai (pv 3) (ai (pv 5) (ai (aO uV hr (ai (pv 1) (ai (a9 cG rfl U Boot.«len» (ai (pv 3) au)) au))) (ai (pv 1) au))))) au))))
 (aD (ba (i:=7) ic.nd rfl (tt rfl) (bT bG (aT cx (pv 4) (df (ai (cf (own:=["_law_at"]) (cap:=[]) (caps:=[]) rfl (scC trivial) (b9 (pv 3)) (λ_ _ _=>(aU (i:=0) (ndL ["_law_at"] []) rfl (tt rfl))) (λ_ _ _=>bK) (λ_ _ _=>aE)) au))) aE (λ_ _=>rfl)))
 (aD (fj PassesOwn.never rfl (b9 (aT cx (df (ai (aO kX hr (ai (pv 0) (ai aE au))) au)) (lY ud (pv 0) (kF aE) (kF aE)))) (aU (i:=8) ic.nd rfl (tt rfl))
 (aD (ba (i:=9) ic.nd rfl (tt rfl) (aO Ek hr (ai (pv 8) (ai (a9 cG rfl U Boot.«len» (ai (pv 3) au)) au))))
 (aD (ba (i:=10) ic.nd rfl (tt rfl) dD)
 (aD (cq (PW.pt (pw_and (bo (ir hu) (a9 cG rfl U Boot.«len» (ai (pv 9) au)) (a9 cG rfl U Boot.«len» (ai (pv 3) au)) (bq _)) (pw_and1 (bo Nn (J9 rfl rfl a2 Boot.«min» (pv 9) aE) aE (bq _)))))
 (aI (ba (i:=10) ic.nd rfl (tt rfl) (bT bG (df (ai dD (ai dD au))) (c9 gN rfl a3 Boot.«int» (ai (iT (ir hu) (aO D2 hr (ai (pv 3) (ai (pv 9) (ai (pv 2) au)))) (cf (own:=["_law_g"]) (cap:=[]) (caps:=[]) rfl (scC trivial) (da rfl ap (ai (pv 2) au)) (λ_ _ _=>(aU (i:=0) (ndL ["_law_g"] []) rfl (tt rfl))) (λ_ _ _=>bK) (λ_ _ _=>aE)) (bq _)) au)) (λ_ _=>rfl))))
 bA)
 (aD (ba (i:=11) ic.nd rfl (tt rfl) (c9 fG rfl an Boot.«list» (ai (pv 9) au)))
 (aD (cq (PW.pt (pw_or (bo (rY hu) (aO tM hr (ai (pv 6) (ai (pv 11) au))) (pv 10) (bq _)) (pw_or (bo (rY hu) (aO xu hr (ai (pv 6) (ai (pv 11) au))) (pv 10) (bq _)) (pw_or1 (bo (rY hu) (pv 11) (pv 9) (bq _))))))
 (aI (bu zR))
 bA)
 (aI (cq (bo (rY hu) (aO tM hr (ai (pv 6) (ai (c9 fG rfl an Boot.«list» (ai (pv 7) au)) au))) dD (bq _))
 (aI (bu zR))
 bA))))))))
 (aI (bu zR))))))))),
  (aL (aY (aW (n:=2) (f:=cM) (aj (ah 0) (aj (aC 0) av))))
 (aL (aY (aw bQ (aC 1) (aW (n:=3) (f:=aK) (aj (ah 1) (aj (aC 45) (aj (aC 4) av))))))
 (aL (xa (Lc (jc (n:=3) (f:=g6) (aj (ah 0) (aj (aC 0) (aj (ah 2) av))))) (fJ (bP (aQ 3) (bP (aQ 4) fI))))
 (aL (aY (aW (n:=2) (f:=dG) (aj (aw bQ (ah 1) (aC 1)) (aj (ah 2) av))))
 (aL (aY (JJ (c:=0) (n:=2) (f:=iR) (aj (ah 5) (aj (aW (n:=4) (f:=gZ) (aj (ah 3) (aj (ah 5) (aj (aW (n:=2) (f:=dG) (aj (ah 1) (aj (a6 dE (aj (ah 3) av)) av))) (aj (ah 1) av))))) av))))
 (aL (aY (aw bU (aw bQ (ah 4) (gk (aj (bW (m:=1) (caps:=[]) (cj (ah 3)) (aQ 0) bL (aC 0)) av))) (aC 0)))
 (aL (fg (cj (aw bQ (gk (aj (aW (n:=2) (f:=cM) (aj (ah 0) (aj (aC 5) av))) av)) (zM (ah 0) (kA (aC 6)) (kA (aC 13))))) (aQ 8)
 (aL (aY (aW (n:=2) (f:=k8) (aj (ah 8) (aj (a6 dE (aj (ah 3) av)) av))))
 (aL (aY (dC ("way" :Str)))
 (aL (b8 (qo (bF (aw fH (a6 dE (aj (ah 9) av)) (a6 dE (aj (ah 3) av)))) (bF (aw M6 (Lg (ah 9) (aC 0)) (aC 0))))
 (aY (aw bU (gk (aj (dC ("balance" :Str)) (aj (dC ("told" :Str)) av))) (a6 iz (aj (aw fH (kZ (jc (n:=3) (f:=jE) (aj (ah 3) (aj (ah 9) (aj (ah 2) av))))) (bW (m:=1) (caps:=[]) (eI (aj (ah 2) av)) (aQ 0) bL (aC 0))) av))))
 bz)
 (aL (aY (a6 ko (aj (ah 9) av)))
 (aL (b8 (t4 (bF (aw nI (aW (n:=2) (f:=d4) (aj (ah 6) (aj (ah 11) av))) (ah 10))) (t4 (bF (aw nI (aW (n:=2) (f:=eH) (aj (ah 6) (aj (ah 11) av))) (ah 10))) (bF (aw nI (ah 11) (ah 9)))))
 (br (zP false))
 bz)
 (b8 (bF (aw nI (aW (n:=2) (f:=d4) (aj (ah 6) (aj (a6 ko (aj (ah 7) av)) av))) (dC ("told" :Str))))
 (br (zP false))
 bz)))))))
 (br (zP true)))))))))⟩
end
theorem tY(ns:List Int)(k:Nat):∃c,cM [vI ns,.int (k:Int)] []=.ok (.int c,[])/\(k<ns.length->c=nth ns k):=by
 by_cases h:k<ns.length
 ·refine⟨nth ns k,dQ (s:=⟨[some (vI ns),some (.int (k:Int))],[]⟩) ?_,λ_=>rfl⟩
  have hk:((k:Int)<(ns.length:Int)):=by omega
  simp[rA,hk,jW h]
 ·refine⟨0,dQ (s:=⟨[some (vI ns),some (.int (k:Int))],[]⟩) ?_,λz=>absurd z h⟩
  have hk:¬((k:Int)<(ns.length:Int)):=by omega
  simp[rA,hk]
def azB(x:Str):Bool:= !decide (x.cps.toList<("a" :Str).cps.toList)&& !decide (("z" :Str).cps.toList<x.cps.toList)
theorem BJ(O:aB)(i j:Str):rH O (.str i) (.str j)=.ok (.bl (!decide (j.cps.toList<i.cps.toList))):=rfl
theorem Lw{x:Str}(h:s.r[i]? =some (some (.str x))):kI rH rH (ar (.str ("a" :Str))) (aa i) (ar (.str ("z" :Str))) s=.ok (.bl (azB x),s):=by
 rw[yN,ay,ak,ag h,ak]
 dsimp only
 rw[BJ,ak]
 unfold azB
 cases (!decide (x.cps.toList<("a" :Str).cps.toList)) with
 | false=>rfl
 | true=>
  dsimp only
  rw[ay,ak]
  dsimp only
  rw[BJ,ak]
  rfl
def nmB(z:Str):Bool:=decide (1<=z.length)&&decide (z.length<=8)&&z.cps.toList.all λc=>azB ⟨#[c]⟩
theorem len_list(z:Str):z.cps.toList.length=z.length:=by unfold Str.length;simp
theorem EN(h:z.length<=1000000):mV [.str z] []=.ok (.bl (nmB z),[]):=by
 have U:aX bE (af (aa 0) ao) ⟨[some (.str z)],[]⟩=.ok (.int (z.length:Int),⟨[some (.str z)],[]⟩):=by
  rw[iV,a8,ag (i:=0) rfl,ak,aA,ak,ak]
  dsimp only
  rw[Bk (nW h),ak]
 have ht:orT (a7 (aq ltD (aX bE (af (aa 0) ao)) (ar (.int 1)))) (a7 (aq gtD (aX bE (af (aa 0) ao)) (ar (.int 8)))) ⟨[some (.str z)],[]⟩=.ok (decide ((z.length:Int)<1)||decide ((8:Int)<(z.length:Int)),⟨[some (.str z)],[]⟩):=by
  rw[Bb,iq,eU,U,ak,ay,ak]
  dsimp only
  rw[iP,ak,ak]
  dsimp only
  rw[ak]
  dsimp only
  rw[jH U]
  cases decide ((z.length:Int)<1) <;> rfl
 have hc:=du (l:=z.cps.toList) (item:=λc=>.str ⟨#[c]⟩) (out:=λc=>.bl (azB ⟨#[c]⟩)) (caps:=[]) (im:=DP (aa 0)) (e:=kI rH rH (ar (.str ("a" :Str))) (aa 0) (ar (.str ("z" :Str)))) (k:=none) (s:=⟨[some (.str z)],[]⟩) (by
  rw[Kx,ag (i:=0) rfl,ak];rfl) trivial (by rw[len_list];exact nW h) (λc _=>Lw rfl)
 rw[show z.cps.toList.map (λc=>D.bl (azB ⟨#[c]⟩))=(z.cps.toList.map λc=>azB ⟨#[c]⟩).map D.bl by rw[wp];rfl] at hc
 refine dQ (s:=⟨[some (.str z)],[]⟩) ?_
 show sS ⟨[some (.str z)],[]⟩=_
 rw[sS]
 by_cases h1:z.length<1\/8<z.length
 ·rw[show nmB z=false by
   unfold nmB
   rcases h1 with q | q
   ·rw[decide_eq_false (by omega:¬1<=z.length),Rn,Rn]
   ·rw[decide_eq_false (by omega:¬z.length<=8),Rp,Rn]]
  refine qN (M2 (IU (s':=⟨[some (.str z)],[]⟩) ?_) (bD (ay _ _)))
  rw[ht]
  rcases h1 with q | q
  ·rw[decide_eq_true (show (z.length:Int)<1 by omega),Tn]
  ·rw[decide_eq_true (show (8:Int)<(z.length:Int) by omega),Bool.or_true]
 ·refine M2 (dU (M2 (nR (s':=⟨[some (.str z)],[]⟩) ?_) rfl)) (bD ?_)
  ·rw[ht,decide_eq_false (show ¬(z.length:Int)<1 by omega),decide_eq_false (show ¬(8:Int)<(z.length:Int) by omega),Rx]
  ·rw[iV,a8,hc,ak,aA,ak,ak]
   dsimp only
   rw[AD,ak]
   unfold nmB
   rw[decide_eq_true (by omega:1<=z.length),decide_eq_true (by omega:z.length<=8),QO,QO,Ra]
   rfl
abbrev ABC:Str:="abcdefghijklmnopqrstuvwxyz"
theorem Mb:sg ABC=(u8 26).map (97 + ·):=by decide
def mkS(l:List Nat):Str:=⟨l.toArray⟩
theorem gK(l:List Nat):sg (mkS l)=l:=by simp[sg,mkS]
theorem jb(l:List Nat):(mkS l).length=l.length:=by rw[<- xf,gK]
def azL(l:List Nat):Prop:=∀c∈l,97<=c/\c<=122
theorem K8(c:Nat):azB ⟨#[c]⟩=(decide (97<=c)&&decide (c<=122)):=by
 unfold azB
 rw[show ("a" :Str).cps.toList=[97] by decide,show ("z" :Str).cps.toList=[122] by decide]
 show (!decide ([c] < [97])&& !decide ([122] < [c]))=_
 rw[StrLaws.lt_cons_cons,StrLaws.lt_cons_cons,StrLaws.lt_nil_nil,Rp,Rx,Rp,Rx]
 congr 1
 ·rw[Qa];simp
 ·rw[Qa];simp
structure pj(z:Str):Prop where
 lo:1<=z.length
 hi:z.length<=8
 az:azL (sg z)
theorem pj.nm(h:pj z):nmB z=true:=by
 unfold nmB
 rw[decide_eq_true h.lo,decide_eq_true h.hi,QO,QO,Qw]
 intro c hc
 have:=h.az c hc
 rw[K8,decide_eq_true this.1,decide_eq_true this.2];rfl
theorem Fv{i:Int}(h0:0<=i)(h1:i<26):ixD O (.str ABC) (.int i)=.ok (.str (mkS [97+i.toNat])):=by
 have U:i.toNat<ABC.cps.toList.length:=by rw[show ABC.cps.toList.length=26 by decide];omega
 have ha:=oB U
 rw[show ((i.toNat:Nat):Int)=i by omega] at ha
 have Y:ABC.cps.toList[i.toNat]=97+i.toNat:=by
  have:=Mb
  rw[List.getElem_of_eq this]
  simp
 rw[Y] at ha
 show (if ABC.length<=16777216 then (match atI ABC.cps.toList i with
  | some c=>Res.ok (D.str ⟨#[c]⟩)
  | none=>.bad) else .bad)=_
 rw[if_pos (by decide),ha]
 rfl
theorem mJ(h:(u8 n).map (λ(i:Nat)=>D.int (i:Int))=pre++d::rest):d=.int (pre.length:Int)/\pre.length<n:=by
 have h1:((u8 n).map (λ(i:Nat)=>D.int (i:Int)))[pre.length]? =some d:=by rw[h];simp
 have h2:pre.length<n:=by
  have:=congrArg QF h
  simp at this
  omega
 rw[xL,Rm h2] at h1
 exact⟨by simpa using h1.symm,h2⟩
def rn(q:Int)(k:Nat):Nat:=97+((q+3*(k:Int)+1)%26).toNat
def nmK(wd:List Nat)(at_:Nat)(q:Int)(B:Bool)(k:Nat):List Nat:=
 if B then (if k=0 then wd else if k=1 then wd.take (wd.length-1) else wd++[rn q k]) else wd.take at_++[rn q k]++wd.drop (at_+1)
theorem CC{at_ k:Nat}{q:Int}{B:Bool}(h:at_<wd.length):(nmK wd at_ q B k).length=if B then (if k=0 then wd.length else if k=1 then wd.length-1 else wd.length+1) else wd.length:=by
 unfold nmK
 cases B with
 | false=>simp;omega
 | true=>
  by_cases h0:k=0
  ·simp[h0]
  ·by_cases h1:k=1
   ·simp[h1]
   ·simp[h0,h1]
theorem OT{at_ i j:Nat}{q:Int}{B:Bool}(h:at_<wd.length)(h2:2<=wd.length)(ab:i<j)(hj:j<8):nmK wd at_ q B i≠nmK wd at_ q B j:=by
 intro e
 have Y:rn q i≠rn q j:=by unfold rn;omega
 cases B with
 | false=>
  unfold nmK at e
  simp only[if_neg x0] at e
  have U:(wd.take at_).length=at_:=by rw[PY];omega
  have key:∀x:Nat,(wd.take at_++[x]++wd.drop (at_+1))[at_]? =some x:=λx=>by
   rw[Pz,wn (by omega),U,Sq];rfl
  have e1:(wd.take at_++[rn q i]++wd.drop (at_+1))[at_]? =(wd.take at_++[rn q j]++wd.drop (at_+1))[at_]? :=by rw[e]
  rw[key,key] at e1
  have e1:rn q i=rn q j:=by simpa using e1
  exact Y e1
 | true=>
  have U:=congrArg QF e
  rw[CC h,CC h] at U
  simp only[if_true] at U
  by_cases h0:i=0
  ·subst h0
   rw[if_pos rfl,if_neg (by omega)] at U
   split at U <;> omega
  ·rw[if_neg h0,if_neg (show ¬j=0 by omega)] at U
   by_cases h1:i=1
   ·rw[if_pos h1,if_neg (by omega)] at U;omega
   ·unfold nmK at e
    rw[if_pos rfl,if_pos rfl,if_neg h0,if_neg h1,if_neg (show ¬j=0 by omega),if_neg (show ¬j=1 by omega)] at e
    have:=List.append_cancel_left e
    simp at this
    exact Y this
abbrev sD(l:List Str):D:=.lst (l.map D.str)
theorem tU{a b:Str}(h:a.length+b.length<=1000000):bf O (.str a) (.str b)=.ok (.str (a++b)):=if_pos (nW h)
abbrev pD(p:Str×Int):D:=.tup [.str p.1,.int p.2]
abbrev psD(l:List (Str×Int)):D:=.lst (l.map pD)
structure Wk where
 nm:Str
 us:List (Str×Int)
 ms:List (Str×Int)
abbrev wD(w:Wk):D:=.tup [.str w.nm,psD w.us,psD w.ms]
abbrev wsD(l:List Wk):D:=.lst (l.map wD)
@[simp] theorem dB (l:List Str):aM (l.map D.str)=true:=by
 induction l with
 | nil=>rfl
 | cons a l U=>simp[aM,cz,U]
@[simp] theorem gH (l:List (Str×Int)):aM (l.map pD)=true:=by
 induction l with
 | nil=>rfl
 | cons a l U=>simp[aM,cz,U]
@[simp] theorem kT (l:List Wk):aM (l.map wD)=true:=by
 induction l with
 | nil=>rfl
 | cons a l U=>simp[aM,cz,U]
theorem px(O:aB)(l:List Str):bM O (l.map D.str)=l.map D.str:=by
 induction l with
 | nil=>unfold bM;rfl
 | cons a l U=>rw[AC];unfold bM;rw[U];unfold res;rfl
theorem C8(z:Str)(l:List Str):aM [.str z,.lst (l.map D.str)]=true:=by
 show (true&&(aM (l.map D.str)&&true))=true
 rw[dB];rfl
theorem G2(z:Str)(l m:List Str):aM [.str z,.lst (l.map D.str),.lst (m.map D.str)]=true:=by
 show (true&&(aM (l.map D.str)&&(aM (m.map D.str)&&true)))=true
 rw[dB,dB];rfl
theorem Hv{l:List Str}(h:O[k]? =some (.lst (l.map D.str)))(z:Str)(g:List Str):bM O (bM O [.str z,.lst (g.map D.str),.ptr k])=[.str z,.lst (g.map D.str),.lst (l.map D.str)]:=by
 have h1:bM O [.str z,.lst (g.map D.str),.ptr k]=[.str z,.lst (g.map D.str),.lst (l.map D.str)]:=by
  simp only[bM,res,px,h]
 rw[h1]
 simp only[bM,res,px]
theorem JU{l:List Str}(h:O[k]? =some (.lst (l.map D.str)))(z:Str):bM O (bM O [.str z,.ptr k])=[.str z,.lst (l.map D.str)]:=by
 have h1:bM O [.str z,.ptr k]=[.str z,.lst (l.map D.str)]:=by
  simp only[bM,res,px,h]
 rw[h1]
 simp only[bM,res,px]
theorem mZ{α:Type}(f:α->D)(l:List α):dN (l.map f)=l.zipIdx.map λp=>.tup [.int (p.2:Int),f p.1]:=by
 unfold dN
 rw[QR,R4,wp]
 rfl
theorem oy{α:Type}{g:α×Nat->D}{l:List α}(h:l.zipIdx.map g=pre++d::rest):∃(U:pre.length<l.length),d=g (l[pre.length],pre.length):=by
 have U:pre.length<l.length:=by
  have:=congrArg QF h
  simp at this
  omega
 have h1:(l.zipIdx.map g)[pre.length]? =some d:=by rw[h];simp
 rw[xL,uX (by simpa using U)] at h1
 refine⟨U, ?_⟩
 simpa using h1.symm
theorem za{α:Type}{g:α->D}{l:List α}(h:l.map g=pre++d::rest):∃(U:pre.length<l.length),d=g (l[pre.length]):=by
 have U:pre.length<l.length:=by
  have:=congrArg QF h
  simp at this
  omega
 have h1:(l.map g)[pre.length]? =some d:=by rw[h];simp
 rw[xL,uX U] at h1
 exact⟨U,by simpa using h1.symm⟩
theorem kC{m:SM}(h:m ⟨ds.map some++tz (n-ds.length) none,O⟩=.next s):runM n m ds O=.ok (.non,s.o):=by
 unfold runM;rw[h]
theorem Di(z:Str)(l:List Str):inD O (.str z) (sD l)=.ok (.bl (l.any (· == z))):=by
 unfold inD inB
 dsimp only
 rw[kr]
 dsimp only
 rw[rM]
theorem DV(z:Str)(l:List Str):tq O (.str z) (sD l)=.ok (.bl (!l.any (· == z))):=by
 unfold tq inB
 dsimp only
 rw[kr]
 dsimp only
 rw[rM]
theorem Me{l:List Str}(h:z∈l):l.any (· == z)=true:=SO.mpr ⟨z,h,by simp⟩
theorem C0{l:List Str}(h:z∉l):l.any (· == z)=false:=by
 rw[RC]
 intro y hy e
 have:y=z:=by simpa using e
 exact h (this▸hy)
theorem jD{l:List Str}(h:l.Nodup)(hi:i<l.length):l[i]∉l.take i:=by
 intro hm
 obtain⟨j,U,e⟩:=Py hm
 rw[PY] at U
 rw[List.getElem_take] at e
 exact RI.mp h j i (by omega) hi (by omega) e
theorem K7{U:List Wk}(h1:goods.length<=10)(h2:U.length<=10):jg [sD goods,wsD U] []=.ok (.non,[]):=by
 refine kC (s:=⟨[some (sD goods),some (wsD U)],[]⟩) ?_
 show oW ⟨[some (sD goods),some (wsD U)],[]⟩=_
 rw[oW]
 have Y:∀(i:Nat) (ds:List D),[some (sD goods),some (wsD U)][i]? =some (some (.lst ds))->aX bE (af (aa i) ao) ⟨[some (sD goods),some (wsD U)],[]⟩=.ok (.int (ds.length:Int),⟨[some (sD goods),some (wsD U)],[]⟩):=λi ds h=>by
  rw[iV,a8,ag h,ak,aA,ak,ak]
  dsimp only
  rw[fQ,ak]
 refine M2 (dU (M2 (nR (by rw[jH (Y 0 _ rfl),ut,decide_eq_false (by omega)])) rfl)) ?_
 exact M2 (nR (by rw[jH (Y 1 _ rfl),ut,decide_eq_false (by omega)])) rfl
theorem Df{l:List Str}(hz:pj z)(U:z∉l):gr [.str z,sD l] []=.ok (.non,[]):=by
 refine kC (s:=⟨[some (.str z),some (sD l)],[]⟩) ?_
 show oZ ⟨[some (.str z),some (sD l)],[]⟩=_
 rw[oZ]
 have h1:aN 1 mV (af (aa 0) ao) ⟨[some (.str z),some (sD l)],[]⟩=.ok (.bl true,⟨[some (.str z),some (sD l)],[]⟩):=dO (ds:=[.str z]) (by rw[a8,ag (i:=0) rfl];rfl) (by simp) rfl (by rw[EN (by have:=hz.hi;omega),hz.nm]) (by simp)
 refine M2 (dU (M2 (nR (s':=⟨[some (.str z),some (sD l)],[]⟩) ?_) rfl)) (M2 (nR (s':=⟨[some (.str z),some (sD l)],[]⟩) ?_) rfl)
 ·rw[xq,iq,h1];rfl
 ·rw[iq,eU,ag (i:=0) rfl,ak,ag (i:=1) rfl,ak]
  dsimp only
  rw[Di,C0 U];rfl
theorem G5(h:∀z∈goods,pj z)(nd:goods.Nodup):∃O,iN [sD goods] []=.ok (.non,O):=by
 obtain⟨s',el,U,Y,ab⟩:=eX (ok:=okC (dN (goods.map D.str)) none) (g:=cQ (aZ (aF 1) (aZ (aF 2) cS)) 2) (body:=i5)
  (λ_ s=>∃U Y,s=⟨[some (sD goods),U,Y],[]⟩) (λ_ _ _=>trivial) (dN (goods.map D.str)) [] (by
   rintro pre d rest ed s ⟨U,Y,rfl⟩
   rw[Db,mZ] at ed
   obtain⟨hl,rfl⟩:=oy ed
   refine⟨⟨[some (sD goods),some (.int (pre.length:Int)),some (.str (goods[pre.length]))],[]⟩,⟨[some (sD goods),some (.int (pre.length:Int)),some (.str (goods[pre.length]))],[]⟩,by rw[lM];rfl,.inl ?_,_,_,rfl⟩
   rw[i5]
   refine cy (dO (ds:=[.str (goods[pre.length]),sD (goods.take pre.length)]) (d:=.non) ?_ (C8 _ _) rfl (Df (h _ (Pp _)) (jD nd hl)) (by simp))
   rw[a8,ag (i:=2) rfl,ak,a8,Er,ag (i:=0) rfl,ak,FJ,ak,CD,ag (i:=1) rfl,ak]
   dsimp only
   rw[ak]
   dsimp only
   rw[kr]
   dsimp only
   unfold M.cutD
   rw[HT.vt,HT.qv,ut,show min pre.length goods.length=pre.length by omega,Rr,So,<- Sf]
   rfl) ⟨[some (sD goods),none,none],[]⟩ ⟨_,_,rfl⟩
 have hf:=dW (im:=cZ (af (aa 0) ao)) (g:=cQ (aZ (aF 1) (aZ (aF 2) cS)) 2) (body:=i5) (s:=⟨[some (sD goods),none,none],[]⟩) (ds:=dN (goods.map D.str)) (k:=none) (s1:=⟨[some (sD goods),none,none],[]⟩) (by
  rw[iH,a8,ag (i:=0) rfl,ak,aA,ak,ak])
 rw[el,ab] at hf
 exact⟨_,kC (s:=⟨[some (sD goods),U,Y],[]⟩) (by
  show nv ⟨[some (sD goods),none,none],[]⟩=_
  rw[nv,hf])⟩
theorem JI{goods l:List Str}(h1:z∈goods)(h2:z∉l):ji [.str z,sD goods,sD l] []=.ok (.non,[]):=by
 refine kC (s:=⟨[some (.str z),some (sD goods),some (sD l)],[]⟩) ?_
 show oK ⟨[some (.str z),some (sD goods),some (sD l)],[]⟩=_
 rw[oK]
 refine M2 (dU (M2 (nR (s':=⟨[some (.str z),some (sD goods),some (sD l)],[]⟩) ?_) rfl)) (M2 (nR (s':=⟨[some (.str z),some (sD goods),some (sD l)],[]⟩) ?_) rfl)
 ·rw[iq,eU,ag (i:=0) rfl,ak,ag (i:=1) rfl,ak]
  dsimp only
  rw[DV,Me h1];rfl
 ·rw[iq,eU,ag (i:=0) rfl,ak,ag (i:=2) rfl,ak]
  dsimp only
  rw[Di,C0 h2];rfl
theorem wU(i:Int):fD [.int i] []=.ok (.bl true,[]):=by
 refine dQ (s:=⟨[some (.int i)],[]⟩) ?_
 simp[we]
theorem Fj{i:Int}(h:1<=i):hZ [.int i] []=.ok (.non,[]):=by
 refine kC (s:=⟨[some (.int i)],[]⟩) ?_
 show mf ⟨[some (.int i)],[]⟩=_
 rw[mf]
 refine M2 (nR (s':=⟨[some (.int i)],[]⟩) ?_) rfl
 have h1:aN 1 fD (af (aa 0) ao) ⟨[some (.int i)],[]⟩=.ok (.bl true,⟨[some (.int i)],[]⟩):=dO (ds:=[.int i]) (by rw[a8,ag (i:=0) rfl];rfl) (by simp) rfl (wU i) (by simp)
 rw[Bb,xq,iq,h1,ak,ak]
 dsimp only
 rw[ak]
 dsimp only
 rw[if_neg (by decide),iq,eU,ag (i:=0) rfl,ak,ay,ak]
 dsimp only
 rw[iP,decide_eq_false (by omega)];rfl
theorem BO{f:FM}{ma:AM}{s s':S}{ds rs:List D}(h:ma s=.ok (ds,s'))(U:bM s'.o (bM s'.o ds)=rs)(hp:aM rs=true)(Y:ds.length=n)(hf:f rs []=.ok (d,O))(hd:nM d=true):fL n f ma s=.ok (d,s'):=by
 unfold fL
 rw[h,ak]
 dsimp only
 rw[U,if_pos ⟨hp,Y⟩,hf]
 dsimp only
 rw[if_pos hd]
structure jC(goods:List Str)(l:List (Str×Int)):Prop where
 mem:∀p∈l,p.1∈goods
 pos:∀p∈l,1<=p.2
 nd:(l.map (·.1)).Nodup
theorem Ac(h:jC goods l)(hl:l.length<=1000):∃O,eY [psD l,sD goods] []=.ok (.non,O):=by
 have e2:setM 2 (jf ao) ⟨[some (psD l),some (sD goods),none,none,none],[]⟩=.next ⟨[some (psD l),some (sD goods),some (.ptr 0),none,none],[.lst []]⟩:=by simp
 obtain⟨s',el,y3,y4,ap⟩:=eX (ok:=okC (l.map pD) none) (g:=cQ (aZ (aF 3) (aZ (aF 4) cS)) 2) (body:=i4)
  (λpre s=>∃y3 y4,s=⟨[some (psD l),some (sD goods),some (.ptr 0),y3,y4],[.lst (((l.map (·.1)).take pre.length).map D.str)]⟩) (λ_ _ _=>trivial) (l.map pD) [] (by
   rintro pre d rest ed s ⟨y3,y4,rfl⟩
   rw[Db] at ed
   obtain⟨Y,rfl⟩:=za ed
   have hm:l[pre.length]∈l:=Pp _
   have U:(l[pre.length]).1∉(l.map (·.1)).take pre.length:=by
    have:=jD h.nd (i:=pre.length) (by simpa using Y)
    simpa using this
   generalize hx:l[pre.length]=x at hm U
   refine⟨⟨[some (psD l),some (sD goods),some (.ptr 0),some (.str x.1),some (.int x.2)],[.lst (((l.map (·.1)).take pre.length).map D.str)]⟩,⟨[some (psD l),some (sD goods),some (.ptr 0),some (.str x.1),some (.int x.2)],[.lst (((l.map (·.1)).take (pre.length+1)).map D.str)]⟩,by rw[lM];rfl,.inl ?_,some (.str x.1),some (.int x.2),by rw[FS,IN]⟩
   rw[i4]
   have k1:=cy (BO (n:=3) (f:=ji) (ma:=af (aa 3) (af (aa 1) (af (aa 2) ao))) (s:=⟨[some (psD l),some (sD goods),some (.ptr 0),some (.str x.1),some (.int x.2)],[.lst (((l.map (·.1)).take pre.length).map D.str)]⟩) (s':=⟨[some (psD l),some (sD goods),some (.ptr 0),some (.str x.1),some (.int x.2)],[.lst (((l.map (·.1)).take pre.length).map D.str)]⟩) (ds:=[.str x.1,sD goods,.ptr 0]) (rs:=[.str x.1,sD goods,sD ((l.map (·.1)).take pre.length)]) (by
    rw[a8,ag (i:=3) rfl,ak,a8,ag (i:=1) rfl,ak,a8,ag (i:=2) rfl];rfl) (Hv rfl _ _) (G2 _ _ _) rfl (JI (h.mem x hm) U) (by rfl))
   have k2:=cy (dO (n:=1) (f:=hZ) (ma:=af (aa 4) ao) (s:=⟨[some (psD l),some (sD goods),some (.ptr 0),some (.str x.1),some (.int x.2)],[.lst (((l.map (·.1)).take pre.length).map D.str)]⟩) (s':=⟨[some (psD l),some (sD goods),some (.ptr 0),some (.str x.1),some (.int x.2)],[.lst (((l.map (·.1)).take pre.length).map D.str)]⟩) (ds:=[.int x.2]) (by rw[a8,ag (i:=4) rfl];rfl) (by simp) rfl (Fj (h.pos x hm)) (by simp))
   refine M2 (dU k1) (M2 (dU k2) ?_)
   refine M2 (cy (xI (mo:=aa 2) (me:=aa 3) (k:=0) (d:=.str x.1) (ag rfl) rfl (ag rfl) rfl (by simp;omega))) ?_
   have ht:(l.map (·.1)).take (pre.length+1)=(l.map (·.1)).take pre.length++[x.1]:=by
    rw[QH,xL,uX Y,hx];rfl
   rw[ht,Fa]
   rfl) ⟨[some (psD l),some (sD goods),some (.ptr 0),none,none],[.lst []]⟩ ⟨_,_,rfl⟩
 have hf:=dW (im:=listI (aa 0)) (g:=cQ (aZ (aF 3) (aZ (aF 4) cS)) 2) (body:=i4) (s:=⟨[some (psD l),some (sD goods),some (.ptr 0),none,none],[.lst []]⟩) (ds:=l.map pD) (k:=none) (s1:=⟨[some (psD l),some (sD goods),some (.ptr 0),none,none],[.lst []]⟩) (by rw[cv,ag (i:=0) rfl];rfl)
 rw[el] at hf
 exact⟨_,kC (s:=s') (by
  show nu ⟨[some (psD l),some (sD goods),none,none,none],[]⟩=_
  rw[nu,dU e2]
  exact hf)⟩
@[simp] theorem Hq (g h i:GM) (a b c:D) (s:S):cQ (aZ g (aZ h (aZ i cS))) 3 (.tup [a,b,c]) s=(g a s).bind λs1=>(h b s1).bind λs2=>i c s2:=by
 show (g a s).bind (λs1=>(h b s1).bind λs2=>(i c s2).bind λU=>.ok U)=_
 congr 1
 funext s1
 congr 1
 funext s2
 cases i c s2 <;> rfl
structure xE(goods:List Str)(ws:List Wk):Prop where
 nm:∀w∈ws,pj w.nm
 nd:(ws.map (·.nm)).Nodup
 us:∀w∈ws,jC goods w.us/\w.us.length<=100
 ms:∀w∈ws,jC goods w.ms/\w.ms.length<=100
theorem GD(h:xE goods ws)(hl:ws.length<=1000):∃O,iK [wsD ws,sD goods] []=.ok (.non,O):=by
 have e2:setM 2 (jf ao) ⟨[some (wsD ws),some (sD goods),none,none,none,none],[]⟩=.next ⟨[some (wsD ws),some (sD goods),some (.ptr 0),none,none,none],[.lst []]⟩:=by simp
 obtain⟨s',el,y3,y4,y5,a1⟩:=eX (ok:=okC (ws.map wD) none) (g:=cQ (aZ (aF 3) (aZ (aF 4) (aZ (aF 5) cS))) 3) (body:=i3)
  (λpre s=>∃y3 y4 y5,s=⟨[some (wsD ws),some (sD goods),some (.ptr 0),y3,y4,y5],[.lst (((ws.map (·.nm)).take pre.length).map D.str)]⟩) (λ_ _ _=>trivial) (ws.map wD) [] (by
   rintro pre d rest ed s ⟨y3,y4,y5,rfl⟩
   rw[Db] at ed
   obtain⟨Y,rfl⟩:=za ed
   have hm:ws[pre.length]∈ws:=Pp _
   have U:(ws[pre.length]).nm∉(ws.map (·.nm)).take pre.length:=by
    have:=jD h.nd (i:=pre.length) (by simpa using Y)
    simpa using this
   generalize hx:ws[pre.length]=x at hm U
   refine⟨⟨[some (wsD ws),some (sD goods),some (.ptr 0),some (.str x.nm),some (psD x.us),some (psD x.ms)],[.lst (((ws.map (·.nm)).take pre.length).map D.str)]⟩,⟨[some (wsD ws),some (sD goods),some (.ptr 0),some (.str x.nm),some (psD x.us),some (psD x.ms)],[.lst (((ws.map (·.nm)).take (pre.length+1)).map D.str)]⟩,by rw[Hq];rfl,.inl ?_,some (.str x.nm),some (psD x.us),some (psD x.ms),by rw[FS,IN]⟩
   rw[i3]
   obtain⟨O1,p1⟩:=Ac (h.us x hm).1 (by have:=(h.us x hm).2;omega)
   obtain⟨O2,p2⟩:=Ac (h.ms x hm).1 (by have:=(h.ms x hm).2;omega)
   have k1:=cy (BO (n:=2) (f:=gr) (ma:=af (aa 3) (af (aa 2) ao)) (s:=⟨[some (wsD ws),some (sD goods),some (.ptr 0),some (.str x.nm),some (psD x.us),some (psD x.ms)],[.lst (((ws.map (·.nm)).take pre.length).map D.str)]⟩) (s':=⟨[some (wsD ws),some (sD goods),some (.ptr 0),some (.str x.nm),some (psD x.us),some (psD x.ms)],[.lst (((ws.map (·.nm)).take pre.length).map D.str)]⟩) (ds:=[.str x.nm,.ptr 0]) (by
    rw[a8,ag (i:=3) rfl,ak,a8,ag (i:=2) rfl];rfl) (JU rfl _) (C8 _ _) rfl (Df (h.nm x hm) U) (by rfl))
   have ab:∀l:List (Str×Int),aM [.lst (l.map pD),.lst (goods.map D.str)]=true:=λl=>by
    show (aM (l.map pD)&&(aM (goods.map D.str)&&true))=true
    rw[dB,gH];rfl
   have k2:=cy (dO (n:=2) (f:=eY) (ma:=af (aa 4) (af (aa 1) ao)) (s:=⟨[some (wsD ws),some (sD goods),some (.ptr 0),some (.str x.nm),some (psD x.us),some (psD x.ms)],[.lst (((ws.map (·.nm)).take pre.length).map D.str)]⟩) (s':=⟨[some (wsD ws),some (sD goods),some (.ptr 0),some (.str x.nm),some (psD x.us),some (psD x.ms)],[.lst (((ws.map (·.nm)).take pre.length).map D.str)]⟩) (ds:=[psD x.us,sD goods]) (by rw[a8,ag (i:=4) rfl,ak,a8,ag (i:=1) rfl];rfl) (ab _) rfl p1 (by simp))
   have k3:=cy (dO (n:=2) (f:=eY) (ma:=af (aa 5) (af (aa 1) ao)) (s:=⟨[some (wsD ws),some (sD goods),some (.ptr 0),some (.str x.nm),some (psD x.us),some (psD x.ms)],[.lst (((ws.map (·.nm)).take pre.length).map D.str)]⟩) (s':=⟨[some (wsD ws),some (sD goods),some (.ptr 0),some (.str x.nm),some (psD x.us),some (psD x.ms)],[.lst (((ws.map (·.nm)).take pre.length).map D.str)]⟩) (ds:=[psD x.ms,sD goods]) (by rw[a8,ag (i:=5) rfl,ak,a8,ag (i:=1) rfl];rfl) (ab _) rfl p2 (by simp))
   refine M2 (dU k1) (M2 (dU k2) (M2 (dU k3) ?_))
   refine M2 (cy (xI (mo:=aa 2) (me:=aa 3) (k:=0) (d:=.str x.nm) (ag rfl) rfl (ag rfl) rfl (by simp;omega))) ?_
   have ht:(ws.map (·.nm)).take (pre.length+1)=(ws.map (·.nm)).take pre.length++[x.nm]:=by
    rw[QH,xL,uX Y,hx];rfl
   rw[ht,Fa]
   rfl) ⟨[some (wsD ws),some (sD goods),some (.ptr 0),none,none,none],[.lst []]⟩ ⟨_,_,_,rfl⟩
 have hf:=dW (im:=listI (aa 0)) (g:=cQ (aZ (aF 3) (aZ (aF 4) (aZ (aF 5) cS))) 3) (body:=i3) (s:=⟨[some (wsD ws),some (sD goods),some (.ptr 0),none,none,none],[.lst []]⟩) (ds:=ws.map wD) (k:=none) (s1:=⟨[some (wsD ws),some (sD goods),some (.ptr 0),none,none,none],[.lst []]⟩) (by rw[cv,ag (i:=0) rfl];rfl)
 rw[el] at hf
 exact⟨_,kC (s:=s') (by
  show nr ⟨[some (wsD ws),some (sD goods),none,none,none,none],[]⟩=_
  rw[nr,dU e2]
  exact hf)⟩
theorem Kp(w:Wk):jS [wD w] []=.ok (wD w,[]):=by
 refine dQ (s:=⟨[some (wD w)],[]⟩) ?_
 show pG ⟨[some (wD w)],[]⟩=_
 rw[pG]
 refine bD ?_
 have U:∀(k:Int) (d:D),ixD [] (wD w) (.int k)=.ok d->aq ixD (aa 0) (ar (.int k)) ⟨[some (wD w)],[]⟩=.ok (d,⟨[some (wD w)],[]⟩):=λk d h=>by
  rw[eU,ag (i:=0) rfl,ak,ay,ak]
  dsimp only
  rw[h];rfl
 rw[Dk,a8,U 0 (.str w.nm) rfl,ak,a8,iV,a8,U 1 (psD w.us) rfl,ak,aA,ak,ak]
 dsimp only
 rw[jm,ak,ak,a8,iV,a8,U 2 (psD w.ms) rfl,ak,aA,ak,ak]
 dsimp only
 rw[jm,ak,ak,aA,ak,ak,ak,ak]
 rfl
def sumOf(g:Str)(l:List (Str×Int)):Int:=((l.filter λp=>decide (p.1=g)).map (·.2)).sum
def chg(w:Wk)(g:Str):Int:=sumOf g w.ms-sumOf g w.us
theorem CQ{g:Str}(U:l.length<=1000):eJ [.str g,psD l] []=.ok (.int (sumOf g l),[]):=by
 have hc:=C2 (l:=l) (item:=pD) (p:=λp=>decide (p.1=g)) (out:=λp=>.int p.2) (caps:=[0]) (im:=listI (aa 1)) (c:=a7 (aq eqD (aq ixD (aa 0) (ar (.int 0))) (aa 1))) (e:=aq ixD (aa 0) (ar (.int 1))) (k:=none) (s:=⟨[some (.str g),some (psD l)],[]⟩) (by rw[cv,ag (i:=1) rfl];rfl) trivial (by omega) (λp _=>by
  rw[iq,eU,eU,ag (i:=0) rfl,ak,ay,ak]
  dsimp only
  rw[show ixD [] (pD p) (.int 0)=.ok (.str p.1) from rfl,ak,ak]
  dsimp only
  rw[ag (i:=1) rfl,ak]
  dsimp only
  rw[Dv];rfl) (λp _ _=>by
  rw[eU,ag (i:=0) rfl,ak,ay,ak]
  rfl)
 rw[show (l.filter λp=>decide (p.1=g)).map (λp=>D.int p.2)=((l.filter λp=>decide (p.1=g)).map (·.2)).map D.int by rw[wp];rfl] at hc
 refine dQ (s:=⟨[some (.str g),some (psD l)],[]⟩) ?_
 show pZ ⟨[some (.str g),some (psD l)],[]⟩=_
 rw[pZ]
 refine bD ?_
 rw[iV,a8,hc,ak,aA,ak,ak]
 dsimp only
 rw[o8,ak]
 rfl
theorem JH{w:Wk}(h1:w.us.length<=1000)(h2:w.ms.length<=1000)(hg:goods.length<=1000):jU [wD w,sD goods] []=.ok (vI (goods.map (chg w)),[]):=by
 have hc:=du (l:=goods) (item:=D.str) (out:=λg=>.int (chg w g)) (caps:=[0]) (im:=listI (aa 1)) (e:=aq gX (aN 2 eJ (af (aa 0) (af (aq ixD (aa 1) (ar (.int 2))) ao))) (aN 2 eJ (af (aa 0) (af (aq ixD (aa 1) (ar (.int 1))) ao)))) (k:=none) (s:=⟨[some (wD w),some (sD goods)],[]⟩) (by rw[cv,ag (i:=1) rfl];rfl) trivial (by omega) (λg _=>by
  have U:∀l:List (Str×Int),aM [.str g,.lst (l.map pD)]=true:=λl=>by
   show (true&&(aM (l.map pD)&&true))=true
   rw[gH];rfl
  have Y:aN 2 eJ (af (aa 0) (af (aq ixD (aa 1) (ar (.int 2))) ao)) ⟨some (.str g)::[0].map (λi=>([some (wD w),some (sD goods)][i]?).getD none),[]⟩=.ok (.int (sumOf g w.ms),⟨some (.str g)::[0].map (λi=>([some (wD w),some (sD goods)][i]?).getD none),[]⟩):=dO (ds:=[.str g,psD w.ms]) (by
   rw[a8,ag (i:=0) rfl,ak,a8,eU,ag (i:=1) rfl,ak,ay,ak];rfl) (U _) rfl (CQ h2) (by simp)
  have c1:aN 2 eJ (af (aa 0) (af (aq ixD (aa 1) (ar (.int 1))) ao)) ⟨some (.str g)::[0].map (λi=>([some (wD w),some (sD goods)][i]?).getD none),[]⟩=.ok (.int (sumOf g w.us),⟨some (.str g)::[0].map (λi=>([some (wD w),some (sD goods)][i]?).getD none),[]⟩):=dO (ds:=[.str g,psD w.us]) (by
   rw[a8,ag (i:=0) rfl,ak,a8,eU,ag (i:=1) rfl,ak,ay,ak];rfl) (U _) rfl (CQ h1) (by simp)
  rw[eU,Y,ak]
  dsimp only
  rw[c1,ak]
  rfl)
 rw[show goods.map (λg=>D.int (chg w g))=(goods.map (chg w)).map D.int by rw[wp];rfl] at hc
 refine dQ (s:=⟨[some (wD w),some (sD goods)],[]⟩) ?_
 show pY ⟨[some (wD w),some (sD goods)],[]⟩=_
 rw[pY]
 exact bD hc
abbrev FN:List Str:=["held_goods","held_works","held_changes"]
abbrev yDs(goods:List Str)(ws:List Wk):List D:=[sD goods,wsD ws,vII (ws.map λw=>goods.map (chg w))]
abbrev yD(goods:List Str)(ws:List Wk):D:=.obj 0 FN (yDs goods ws)
theorem gC(goods:List Str)(ws:List Wk):aM (yDs goods ws)=true:=by
 show (aM (goods.map D.str)&&(aM (ws.map wD)&&(aM ((ws.map λw=>goods.map (chg w)).map vI)&&true)))=true
 rw[dB,kT,kH];rfl
theorem xW{mo mv:EM}{s s1 s2:S}{ns:List Str}(U:mv s=.ok (d,s1))(Y:mo s1=.ok (.ptr k,s2))(hc:s2.o[k]? =some (.ins c ns ds))(hf:f∉ns)(hl:ns.length<1000):qI c f mo mv s=.next ⟨s2.r,s2.o.set k (.ins c (ns++[f]) (ds++[d]))⟩:=by
 rw[G8,U,jQ]
 dsimp only
 rw[Y,jQ]
 dsimp only
 rw[hc]
 dsimp only
 rw[if_pos ⟨rfl,hf,hl⟩]
theorem JF(hg:∀z∈goods,pj z)(nd:goods.Nodup)(Y:xE goods ws)(h1:goods.length<=10)(h2:ws.length<=10):iR [.ptr 0,sD goods,wsD ws] [.ins 0 [] []]=.ok (.non,[.ins 0 FN (yDs goods ws)]):=by
 obtain⟨O1,k1⟩:=G5 hg nd
 obtain⟨O2,k2⟩:=GD Y (by omega)
 refine kC (s:=⟨[some (.ptr 0),some (sD goods),some (wsD ws)],[.ins 0 FN (yDs goods ws)]⟩) ?_
 show jO ⟨[some (.ptr 0),some (sD goods),some (wsD ws)],[.ins 0 [] []]⟩=_
 rw[jO]
 have pg:aM [.lst (goods.map D.str)]=true:=by
  show (aM (goods.map D.str)&&true)=true
  rw[dB];rfl
 have ab:aM [.lst (goods.map D.str),.lst (ws.map wD)]=true:=by
  show (aM (goods.map D.str)&&(aM (ws.map wD)&&true))=true
  rw[dB,kT];rfl
 have ac:aM [.lst (ws.map wD),.lst (goods.map D.str)]=true:=by
  show (aM (ws.map wD)&&(aM (goods.map D.str)&&true))=true
  rw[dB,kT];rfl
 have e1:=cy (dO (n:=2) (f:=jg) (ma:=af (aa 1) (af (aa 2) ao)) (s:=⟨[some (.ptr 0),some (sD goods),some (wsD ws)],[.ins 0 [] []]⟩) (s':=⟨[some (.ptr 0),some (sD goods),some (wsD ws)],[.ins 0 [] []]⟩) (ds:=[sD goods,wsD ws]) (by rw[a8,ag (i:=1) rfl,ak,a8,ag (i:=2) rfl];rfl) ab rfl (K7 h1 h2) (by simp))
 have e2:=cy (dO (n:=1) (f:=iN) (ma:=af (aa 1) ao) (s:=⟨[some (.ptr 0),some (sD goods),some (wsD ws)],[.ins 0 [] []]⟩) (s':=⟨[some (.ptr 0),some (sD goods),some (wsD ws)],[.ins 0 [] []]⟩) (ds:=[sD goods]) (by rw[a8,ag (i:=1) rfl];rfl) pg rfl k1 (by simp))
 have e3:=cy (dO (n:=2) (f:=iK) (ma:=af (aa 2) (af (aa 1) ao)) (s:=⟨[some (.ptr 0),some (sD goods),some (wsD ws)],[.ins 0 [] []]⟩) (s':=⟨[some (.ptr 0),some (sD goods),some (wsD ws)],[.ins 0 [] []]⟩) (ds:=[wsD ws,sD goods]) (by rw[a8,ag (i:=2) rfl,ak,a8,ag (i:=1) rfl];rfl) ac rfl k2 (by simp))
 have e4:=xW (c:=0) (f:="held_goods") (mo:=aa 0) (mv:=aX iD (af (aa 1) ao)) (s:=⟨[some (.ptr 0),some (sD goods),some (wsD ws)],[.ins 0 [] []]⟩) (s1:=⟨[some (.ptr 0),some (sD goods),some (wsD ws)],[.ins 0 [] []]⟩) (s2:=⟨[some (.ptr 0),some (sD goods),some (wsD ws)],[.ins 0 [] []]⟩) (d:=sD goods) (k:=0) (ns:=[]) (ds:=[]) (by
  rw[iV,a8,ag (i:=1) rfl,ak,aA,ak,ak]
  dsimp only
  rw[jm,ak]) (ag rfl) rfl (by simp) (by simp)
 have cw:=du (l:=ws) (item:=wD) (out:=wD) (caps:=[]) (im:=listI (aa 2)) (e:=aN 1 jS (af (aa 0) ao)) (k:=none) (s:=⟨[some (.ptr 0),some (sD goods),some (wsD ws)],[.ins 0 ["held_goods"] [sD goods]]⟩) (by rw[cv,ag (i:=2) rfl];rfl) trivial (by omega) (λw _=>dO (ds:=[wD w]) (by rw[a8,ag (i:=0) rfl];rfl) (by
  show ((true&&(aM (w.us.map pD)&&(aM (w.ms.map pD)&&true)))&&true)=true
  rw[gH,gH];rfl) rfl (Kp w) (by
  show (true&&(aM (w.us.map pD)&&(aM (w.ms.map pD)&&true)))=true
  rw[gH,gH];rfl))
 have e5:=xW (c:=0) (f:="held_works") (mo:=aa 0) (k:=0) (ns:=["held_goods"]) (ds:=[sD goods]) cw (ag rfl) rfl (by decide) (by simp)
 have cc:=du (l:=ws) (item:=wD) (out:=λw=>vI (goods.map (chg w))) (caps:=[1]) (im:=listI (aa 2)) (e:=aN 2 jU (af (aa 0) (af (aa 1) ao))) (k:=none) (s:=⟨[some (.ptr 0),some (sD goods),some (wsD ws)],[.ins 0 ["held_goods","held_works"] [sD goods,wsD ws]]⟩) (by rw[cv,ag (i:=2) rfl];rfl) trivial (by omega) (λw U=>dO (ds:=[wD w,sD goods]) (by rw[a8,ag (i:=0) rfl,ak,a8,ag (i:=1) rfl];rfl) (by
  show ((true&&(aM (w.us.map pD)&&(aM (w.ms.map pD)&&true)))&&(aM (goods.map D.str)&&true))=true
  rw[gH,gH,dB];rfl) rfl (JH (by have:=(Y.us w U).2;omega) (by have:=(Y.ms w U).2;omega) (by omega)) (by generalize goods.map (chg w)=r;simp))
 rw[show ws.map (λw=>vI (goods.map (chg w)))=(ws.map λw=>goods.map (chg w)).map vI by rw[wp];rfl] at cc
 have e6:=xW (c:=0) (f:="held_changes") (mo:=aa 0) (k:=0) (ns:=["held_goods","held_works"]) (ds:=[sD goods,wsD ws]) cc (ag rfl) rfl (by decide) (by simp)
 refine M2 (dU e1) (M2 (dU e2) (M2 (dU e3) (M2 (dU e4) (M2 (dU e5) e6))))
structure Pt(goods:List Str)(i:Nat)(l:List (Str×Int)):Prop where
 mem:∀p∈l,p.1∈goods.take i
 pos:∀p∈l,1<=p.2
 nd:(l.map (·.1)).Nodup
 len:l.length<=i
theorem Pt.same(h:Pt goods i l):Pt goods (i+1) l:=
 ⟨λp hp=>Rg (i:=i) (by rw[List.take_take,R3 (R6 i)];exact h.mem p hp),h.pos,h.nd,Nat.le_succ_of_le h.len⟩
theorem Pt.more(U:goods.Nodup)(hi:i<goods.length)(h:Pt goods i l){a:Int}(ha:1<=a):Pt goods (i+1) (l++[(goods[i],a)]):=by
 have Y:=h.same
 refine⟨λp hp=> ?_,λp hp=> ?_, ?_,by rw[FS,IN];have:=h.len;omega⟩
 ·rcases xz.mp hp with q | q
  ·exact Y.mem p q
  ·rw[ww.mp q,show goods.take (i+1)=goods.take i++[goods[i]] by rw[QH,uX hi];rfl]
   exact Pg _ (ww.mpr rfl)
 ·rcases xz.mp hp with q | q
  ·exact h.pos p q
  ·rw[ww.mp q];exact ha
 ·rw[Fa]
  refine Qt.mpr ⟨h.nd,by simp,λx hx y hy=> ?_⟩
  obtain⟨p,hp,rfl⟩:=At.mp hx
  have:y=goods[i]:=by simpa using hy
  subst this
  intro e
  exact jD U hi (e▸h.mem p hp)
theorem Pt.parts(h:Pt goods i l):jC goods l:=⟨λp hp=>Rg (h.mem p hp),h.pos,h.nd⟩
theorem jC.rev(h:jC goods l):jC goods l.reverse:=
 ⟨λp hp=>h.mem p (SQ.mp hp),λp hp=>h.pos p (SQ.mp hp),by rw[SR];exact List.pairwise_reverse.mpr (h.nd.imp λe=>e.symm)⟩
def bH(c t m:Int):Int:=(c%2147483647+7)*(48271+7919*t)%2147483647*16807%2147483647/8%m
theorem gR{c t m:Int}(hm:0<m):0<=bH c t m:=PV _ (by omega)
theorem ja{c t m:Int}(hm:0<m):bH c t m<m:=PD _ hm
theorem pq(c t:Int)(hm:0<m):∃r:Nat,bH c t (m:Int)=(r:Int)/\r<m:=⟨(bH c t (m:Int)).toNat,by have:=gR (c:=c) (t:=t) (m:=(m:Int)) (by omega);omega,by have:=gR (c:=c) (t:=t) (m:=(m:Int)) (by omega);have:=ja (c:=c) (t:=t) (m:=(m:Int)) (by omega);omega⟩
theorem KS{c t m:Int}(hm:0<m):aK [.int c,.int t,.int m] []=.ok (.int (bH c t m),[]):=by
 have h0:0<=c%2147483647:=PV _ (by decide)
 have h1:c%2147483647<2147483647:=PD _ (by decide)
 refine dR (R:=[some (.int c),some (.int t),some (.int m),some (.int ((c%2147483647+7)*(48271+7919*t)%2147483647))]) ?_
 show qO ⟨[some (.int c),some (.int t),some (.int m),none],[]⟩=_
 rw[qO]
 refine aV (bh (aH (aH (aH (aH (ag rfl) (ay _ _) (eO (by decide))) (ay _ _) (bV _ _)) (aH (ay _ _) (aH (ay _ _) (ag rfl) (cC (dS (.inl (by decide))))) (bV _ _)) (cC (dS (.inl (by omega))))) (ay _ _) (eO (by decide))) rfl) ?_
 exact bD (aH (aH (aH (aH (ag rfl) (ay _ _) (cC (dS (.inr (by decide))))) (ay _ _) (eO (by decide))) (ay _ _) (uN (by decide) (by decide))) (ag rfl) (eO hm))
theorem d5{ma mb mc:EM}{c t m:Int}(h1:ma s=.ok (.int c,s))(h2:mb s=.ok (.int t,s))(U:mc s=.ok (.int m,s))(hm:0<m):aN 3 aK (af ma (af mb (af mc ao))) s=.ok (.int (bH c t m),s):=c7 (ax h1 (ax h2 (ax U (aA _)))) (KS hm) rfl rfl rfl
def sgP(fi:Int)(k:Nat):Nat:=97+((fi+5*(k:Int))%26).toNat
def nmP(wd:List Nat)(sp:Nat)(fi:Int)(k:Nat):List Nat:=wd.take sp++[sgP fi k]++wd.drop sp
theorem MR(fi:Int)(k:Nat):97<=sgP fi k/\sgP fi k<=122:=by unfold sgP;omega
theorem GX(h:sp<=wd.length)(h7:wd.length<=7)(U:azL wd):pj (mkS (nmP wd sp fi k)):=by
 have Y:(nmP wd sp fi k).length=wd.length+1:=by unfold nmP;simp;omega
 refine⟨by rw[jb,Y];omega,by rw[jb,Y];omega, ?_⟩
 rw[gK]
 intro c hc
 unfold nmP at hc
 rcases xz.mp hc with z | z
 ·rcases xz.mp z with y | y
  ·exact U c (Rg y)
  ·rw[ww.mp y];exact MR fi k
 ·exact U c (Se z)
theorem MF(h:sp<=wd.length)(U:i<j)(hj:j<26):nmP wd sp fi i≠nmP wd sp fi j:=by
 intro e
 have Y:sgP fi i≠sgP fi j:=by unfold sgP;omega
 have hl:(wd.take sp).length=sp:=by rw[PY];omega
 have key:∀x:Nat,(wd.take sp++[x]++wd.drop sp)[sp]? =some x:=λx=>by
  rw[Pz,wn (by omega),hl,Sq];rfl
 have e1:(nmP wd sp fi i)[sp]? =(nmP wd sp fi j)[sp]? :=by rw[e]
 unfold nmP at e1
 rw[key,key] at e1
 have e1:sgP fi i=sgP fi j:=by simpa using e1
 exact Y e1
theorem names_nodup(h:sp<=wd.length)(hn:n<=26):((u8 n).map λk=>mkS (nmP wd sp fi k)).Nodup:=by
 unfold S3
 rw[RG]
 refine Qy ?_ (List.pairwise_lt_range (n:=n))
 intro i j _ Y U e
 have:=congrArg sg e
 rw[gK,gK] at this
 exact MF h U (by have:=Pm.mp Y;omega) this
theorem Jg{U Y:OM}{s s1 s2 s3:S}{z y:Str}{lo hi:Option Int}(h:me s=.ok (.str z,s1))(hl:U s1=.ok (lo,s2))(hh:Y s2=.ok (hi,s3))(hz:z.length<=1000000)(hy:kY z lo hi=y):slS me U Y s=.ok (.str y,s3):=by
 rw[Mo,h,ak]
 dsimp only
 rw[hl,ak]
 dsimp only
 rw[hh,ak]
 dsimp only
 rw[if_pos (by omega),hy]
abbrev naR(c:Int)(n:Nat)(wd:List Nat)(U Y x6:Option D):List (Option D):=[some (.int c),some (.int (n:Int)),some (.str ABC),some (.str (mkS wd)),U,Y,x6]
theorem Eo{c:Int}(Y:wd.length<=1000):∃r,iI ⟨naR c n wd (some (.int (k:Int))) none none,[]⟩=.next ⟨naR c n (wd++[r]) (some (.int (k:Int))) none none,[]⟩/\97<=r/\r<=122:=by
 have U:=gR (c:=c) (t:=2+(k:Int)) (m:=26) (by decide)
 have p1:=ja (c:=c) (t:=2+(k:Int)) (m:=26) (by decide)
 refine⟨97+(bH c (2+(k:Int)) 26).toNat, ?_,by omega,by omega⟩
 rw[iI]
 refine bh (aH (ag rfl) (aH (ag rfl) (d5 (ag rfl) (aH (ay _ _) (ag rfl) (bV _ _)) (ay _ _) (by decide)) (Fv U p1)) ?_) rfl
 rw[tU (by rw[jb,jb];simp;omega)]
 rw[show mkS wd++mkS [97+(bH c (2+(k:Int)) 26).toNat]=mkS (wd++[97+(bH c (2+(k:Int)) 26).toNat]) from tT (by rw[zS,gK,gK,gK])]
theorem Ay(c:Int)(hn:n<=20):∃zs O,dG [.int c,.int (n:Int)] []=.ok (sD zs,O)/\zs.length=n/\(∀z∈zs,pj z)/\zs.Nodup:=by
 obtain⟨sz,Y,a1⟩:=pq c 1 (m:=8) (by decide)
 have Y:bH c 1 8=(sz:Int):=Y
 obtain⟨s',el,wd,U,ab,ac,ae⟩:=eX (ok:=okC (dY 0 (sz:Int)) none) (g:=aF 4) (body:=iI)
  (λpre s=>∃(wd:List Nat) (U:Option D),wd.length=pre.length/\azL wd/\s=⟨naR c n wd U none none,[]⟩) (λ_ _ _=>trivial) (dY 0 (sz:Int)) [] (by
   rintro pre d rest ed s ⟨wd,U,h1,h2,rfl⟩
   rw[Db,eC] at ed
   obtain⟨rfl,a3⟩:=mJ ed
   obtain⟨r,eb,r1,r2⟩:=Eo (c:=c) (n:=n) (k:=pre.length) (wd:=wd) (by omega)
   refine⟨_,_,rfl,.inl eb,wd++[r],_,by simp[h1],λz hz=> ?_,rfl⟩
   rcases xz.mp hz with q | q
   ·exact h2 z q
   ·rw[ww.mp q];exact⟨r1,r2⟩) ⟨naR c n [] none none none,[]⟩ ⟨[],none,rfl,(λ_ h=>by cases h),rfl⟩
 rw[Db,gB] at ab
 have ab:wd.length=sz:=by omega
 have hf:fS (cH (af (aN 3 aK (af (aa 0) (af (ar (.int 1)) (af (ar (.int 8)) ao)))) ao)) (aF 4) iI ⟨naR c n [] none none none,[]⟩=.next ⟨naR c n wd U none none,[]⟩:=by
  refine(dW (ds:=dY 0 (sz:Int)) (k:=none) (s1:=⟨naR c n [] none none none,[]⟩) (dy (n:=sz) ?_ (by omega))).trans (el.trans (by rw[ae]))
  rw[<- Y]
  exact ax (d5 (ag rfl) (ay _ _) (ay _ _) (by decide)) (aA _)
 obtain⟨sp,am,be⟩:=pq c 10 (m:=wd.length+1) (by omega)
 have e5:setM 5 (aN 3 aK (af (aa 0) (af (ar (.int 10)) (af (aq bf (aX bE (af (aa 3) ao)) (ar (.int 1))) ao)))) ⟨naR c n wd U none none,[]⟩=.next ⟨naR c n wd U (some (.int (sp:Int))) none,[]⟩:=by
  rw[<- am]
  refine bh (d5 (ag rfl) (ay _ _) (aH (cL (ax (ag rfl) (aA _)) (Bk (by rw[jb];omega))) (ay _ _) ?_) (by omega)) rfl
  rw[bV,jb];rfl
 have e6:setM 6 (aN 3 aK (af (aa 0) (af (ar (.int 11)) (af (ar (.int 26)) ao)))) ⟨naR c n wd U (some (.int (sp:Int))) none,[]⟩=.next ⟨naR c n wd U (some (.int (sp:Int))) (some (.int (bH c 11 26))),[]⟩:=bh (d5 (ag rfl) (ay _ _) (ay _ _) (by decide)) rfl
 generalize bH c 11 26=fi at e6
 have bm:(mkS wd).length=wd.length:=jb wd
 have ec:=du (l:=u8 n) (item:=λi:Nat=>D.int (i:Int)) (out:=λk=>.str (mkS (nmP wd sp fi k))) (caps:=[6,2,5,3]) (im:=cH (af (aa 1) ao)) (e:=aq bf (aq bf (slS (aa 4) fE (part (aa 3))) (aq ixD (aa 2) (aq eM (aq bf (aa 1) (aq bR (ar (.int 5)) (aa 0))) (ar (.int 26))))) (slS (aa 4) (part (aa 3)) fE)) (k:=none) (s:=⟨naR c n wd U (some (.int (sp:Int))) (some (.int fi)),[]⟩) (by
  rw[<- eC]
  exact dy (ax (ag rfl) (aA _)) (by omega)) trivial (by simp;omega) (λk hk=>by
   have p1:kY (mkS wd) none (some (sp:Int))=mkS (wd.take sp):=tT (by rw[K9 (by omega),gK,gK])
   have p2:kY (mkS wd) (some (sp:Int)) none=mkS (wd.drop sp):=tT (by rw[JW (by omega),gK,gK])
   refine aH (aH (Jg (ag rfl) (lG _) (oU (ag rfl)) (by omega) p1) (aH (ag rfl) (aH (aH (ag rfl) (aH (ay _ _) (ag rfl) (cC (dS (.inl (by decide))))) (bV _ _)) (ay _ _) (eO (by decide))) (Fv (by omega) (by omega))) (d:=.str (mkS (wd.take sp++[sgP fi k]))) ?_) (Jg (ag rfl) (oU (ag rfl)) (lG _) (by omega) p2) ?_
   ·rw[tU (by rw[jb,jb];simp;omega)]
    exact congrArg (λz=>Res.ok (D.str z)) (tT (by rw[zS,gK,gK,gK];rfl))
   ·rw[tU (by rw[jb,jb];simp;omega)]
    exact congrArg (λz=>Res.ok (D.str z)) (tT (by rw[zS,gK,gK,gK];rfl)))
 refine⟨(u8 n).map λk=>mkS (nmP wd sp fi k),[], ?_,by simp,λz hz=> ?_,names_nodup (by omega) (by omega)⟩
 ·refine dR (R:=naR c n wd U (some (.int (sp:Int))) (some (.int fi))) ?_
  show p9 ⟨[some (.int c),some (.int (n:Int)),none,none,none,none,none],[]⟩=_
  rw[p9]
  rw[show (u8 n).map (λk=>D.str (mkS (nmP wd sp fi k)))=((u8 n).map λk=>mkS (nmP wd sp fi k)).map D.str by rw[wp];rfl] at ec
  exact aV (bh (ay _ _) rfl) (aV (bh (R':=naR c n [] none none none) (ay _ _) rfl) (aV hf (aV e5 (aV e6 (bD ec)))))
 ·obtain⟨k,_,rfl⟩:=At.mp hz
  exact GX (by omega) (by omega) ac
theorem sE:mn O (.int 10) (.int 12)=.ok (.int 1000000000000):=Bm (by decide) (by decide) (by decide)
theorem rD{i j:Int}(h:0<j):gw O (.int i) (.int j)=.ok (.int (i/j)):=by
 rw[mW (by omega),vK h]
abbrev moR(c:Int)(n:Nat)(w:Bool)(rest span:Int)(U x7:Option D):List (Option D):=[some (.int c),some (.int (n:Int)),some (.bl w),some (.ptr 0),some (.int rest),some (.int span),U,x7]
theorem Gf{c:Int}{n k:Nat}{w:Bool}{rest span:Int}{l:List Int}{x7:Option D}(hs:7<=span)(an:span<=2000000000001)(hl:l.length<=1000):
 ∃(v U:Int),kL ⟨moR c n w rest span (some (.int (k:Int))) x7,[.lst (l.map D.int)]⟩=.next ⟨moR c n w U span (some (.int (k:Int))) (some (.int v)),[.lst ((l++[v]).map D.int)]⟩/\Sz 50 v:=by
 have p0:=gR (c:=c) (t:=20+(k:Int)) (m:=7) (by decide)
 have p1:=ja (c:=c) (t:=20+(k:Int)) (m:=7) (by decide)
 have q0:=gR (c:=c) (t:=30+(k:Int)) (m:=2000) (by decide)
 have q1:=ja (c:=c) (t:=30+(k:Int)) (m:=2000) (by decide)
 have e7:setM 7 (aq gX (aN 3 aK (af (aa 0) (af (aq bf (ar (.int 20)) (aa 6)) (af (ar (.int 7)) ao)))) (ar (.int 3))) ⟨moR c n w rest span (some (.int (k:Int))) x7,[.lst (l.map D.int)]⟩=.next ⟨moR c n w rest span (some (.int (k:Int))) (some (.int (bH c (20+(k:Int)) 7-3))),[.lst (l.map D.int)]⟩:=bh (aH (d5 (ag rfl) (aH (ay _ _) (ag rfl) (bV _ _)) (ay _ _) (by decide)) (ay _ _) (kb _ _)) rfl
 generalize bH c (20+(k:Int)) 7=p at e7 p0 p1
 have m0:0<=c%1000000000000:=PV _ (by decide)
 have m1:c%1000000000000<1000000000000:=PD _ (by decide)
 have e8:∃v,ifS (a7 (aa 2)) (setM 7 (aq gX (aq bf (aq bR (aa 7) (aq eM (aa 0) (aq mn (ar (.int 10)) (ar (.int 12))))) (aN 3 aK (af (aa 0) (af (aq bf (ar (.int 30)) (aa 6)) (af (ar (.int 2000)) ao))))) (ar (.int 1000)))) bI ⟨moR c n w rest span (some (.int (k:Int))) (some (.int (p-3))),[.lst (l.map D.int)]⟩=.next ⟨moR c n w rest span (some (.int (k:Int))) (some (.int v)),[.lst (l.map D.int)]⟩/\Sz 50 v:=by
  cases w with
  | true=>
   refine⟨(p-3)*(c%1000000000000)+bH c (30+(k:Int)) 2000-1000,fK (cK (ag rfl)) rfl (bh (aH (aH (aH (ag rfl) (aH (ag rfl) (aH (ay _ _) (ay _ _) sE) (eO (by decide))) (cC (dS (.inl (by omega))))) (d5 (ag rfl) (aH (ay _ _) (ag rfl) (bV _ _)) (ay _ _) (by decide)) (bV _ _)) (ay _ _) (kb _ _)) rfl), ?_⟩
   generalize bH c (30+(k:Int)) 2000=q at q0 q1
   generalize c%1000000000000=m at m0 m1
   have hp:p=0\/p=1\/p=2\/p=3\/p=4\/p=5\/p=6:=by omega
   unfold Sz
   rcases hp with rfl | rfl | rfl | rfl | rfl | rfl | rfl <;> omega
  | false=>exact⟨p-3,cU (cK (ag rfl)) rfl (bC _),by unfold Sz;omega⟩
 obtain⟨v,e8,zv⟩:=e8
 have e9:∃Y U,ifS (jM (a7 (aq eqD (aq eM (aa 0) (ar (.int 2))) (ar (.int 1)))) (a7 (aq gtD (aa 4) (ar (.int 0))))) (aR (setM 7 (aq gX (aq eM (aa 4) (aa 5)) (aq gw (aa 5) (ar (.int 2))))) (setM 4 (aq gw (aa 4) (aa 5)))) bI ⟨moR c n w rest span (some (.int (k:Int))) (some (.int v)),[.lst (l.map D.int)]⟩=.next ⟨moR c n w U span (some (.int (k:Int))) (some (.int Y)),[.lst (l.map D.int)]⟩/\Sz 50 Y:=by
  have t1:a7 (aq eqD (aq eM (aa 0) (ar (.int 2))) (ar (.int 1))) ⟨moR c n w rest span (some (.int (k:Int))) (some (.int v)),[.lst (l.map D.int)]⟩=.ok (decide (c%2=1),⟨moR c n w rest span (some (.int (k:Int))) (some (.int v)),[.lst (l.map D.int)]⟩):=eq_test (aH (ag rfl) (ay _ _) (eO (by decide)))
  have t2:a7 (aq gtD (aa 4) (ar (.int 0))) ⟨moR c n w rest span (some (.int (k:Int))) (some (.int v)),[.lst (l.map D.int)]⟩=.ok (decide (0<rest),⟨moR c n w rest span (some (.int (k:Int))) (some (.int v)),[.lst (l.map D.int)]⟩):=jH (ag rfl)
  have ta:=qw t1 t2
  cases hb:(decide (c%2=1)&&decide (0<rest)) with
  | true=>
   refine⟨rest%span-span/2,rest/span,fK ta hb (aV (bh (aH (aH (ag rfl) (ag rfl) (eO (by omega))) (aH (ag rfl) (ay _ _) (rD (by decide))) (kb _ _)) rfl) (bh (aH (ag rfl) (ag rfl) (rD (by omega))) rfl)), ?_⟩
   have r0:0<=rest%span:=PV _ (by omega)
   have r1:rest%span<span:=PD _ (by omega)
   unfold Sz
   omega
  | false=>exact⟨v,rest,cU ta hb (bC _),zv⟩
 obtain⟨Y,U,e9,ae⟩:=e9
 refine⟨Y,U, ?_,ae⟩
 rw[kL]
 refine aV e7 (aV e8 (aV e9 (cy (mz (ag rfl) rfl (ag rfl) rfl (by simp;omega) ?_))))
 rw[Fa];rfl
theorem Kb(c:Int)(w:Bool)(hn:n<=100):∃l:List Int,lg [.int c,.int (n:Int),.bl w] []=.ok (.ptr 0,[.lst (l.map D.int)])/\l.length=n/\SzL 50 l:=by
 obtain⟨U,hsp,s0,s1⟩:∃U:Int,(if w=true then 2000000000001 else 7)=U/\7<=U/\U<=2000000000001:=⟨_,rfl,by split <;> decide,by split <;> decide⟩
 have e5:setM 5 (aq ixD (dI (af (ar (.int 7)) (af (aq bf (aq bR (ar (.int 2)) (aq mn (ar (.int 10)) (ar (.int 12)))) (ar (.int 1))) ao))) (aX intOf (af (aa 2) ao))) ⟨[some (.int c),some (.int (n:Int)),some (.bl w),some (.ptr 0),some (.int (c/2)),none,none,none],[.lst []]⟩=.next ⟨moR c n w (c/2) U none none,[.lst []]⟩:=by
  refine bh (aH (hU (ax (ay _ _) (ax (aH (aH (ay _ _) (aH (ay _ _) (ay _ _) sE) (cC (dS (.inl (by decide))))) (ay _ _) (bV _ _)) (aA _))) (by simp)) (cL (ax (ag rfl) (aA _)) (gW _)) ?_) rfl
  subst hsp
  cases w <;> rfl
 obtain⟨s',el,l,rest,x6,Y,hl,hz,ac⟩:=eX (ok:=okC (dY 0 (n:Int)) none) (g:=aF 6) (body:=kL)
  (λpre s=>∃(l:List Int) (rest:Int) (x6 Y:Option D),l.length=pre.length/\SzL 50 l/\s=⟨moR c n w rest U x6 Y,[.lst (l.map D.int)]⟩) (λ_ _ _=>trivial) (dY 0 (n:Int)) [] (by
   rintro pre d rest ed s ⟨l,r,x6,Y,h1,h2,rfl⟩
   rw[Db,eC] at ed
   obtain⟨rfl,az⟩:=mJ ed
   obtain⟨v,r',eb,zv⟩:=Gf (c:=c) (n:=n) (k:=pre.length) (w:=w) (rest:=r) (span:=U) (l:=l) (x7:=Y) s0 s1 (by omega)
   refine⟨_,_,rfl,.inl eb,l++[v],r',_,_,by simp[h1],λz hz=> ?_,rfl⟩
   rcases xz.mp hz with q | q
   ·exact h2 z q
   ·rw[ww.mp q];exact zv) ⟨moR c n w (c/2) U none none,[.lst []]⟩ ⟨[],_,none,none,rfl,(λ_ h=>by cases h),rfl⟩
 rw[Db,gB] at hl
 refine⟨l, ?_,by omega,hz⟩
 refine dR (R:=moR c n w rest U x6 Y) ?_
 show qP ⟨[some (.int c),some (.int (n:Int)),some (.bl w),none,none,none,none,none],[]⟩=_
 rw[qP]
 refine aV (bh (oX (aA _) (by simp) rfl rfl) rfl) (aV (bh (aH (ag rfl) (ay _ _) (rD (by decide))) rfl) (aV e5 (aV ?_ (bD (ag rfl)))))
 exact(dW (ds:=dY 0 (n:Int)) (k:=none) (s1:=⟨moR c n w (c/2) U none none,[.lst []]⟩) (dy (n:=n) (ax (ag rfl) (aA _)) (by omega))).trans (el.trans (by rw[ac]))
theorem yF:∀(a b:List Int),a.length=b.length->((u8 b.length).map λk=>nth a k*nth b k).sum=aP a b
 | [],[],_=>rfl
 | x::a,y::b,h=>by
  have U:=yF a b (by simpa using h)
  rw[wE,Q0,AC,wp,RA]
  show x*y+((u8 b.length).map λk=>nth a k*nth b k).sum=(x*y::PX (· * ·) a b).sum
  rw[U,RA]
  rfl
theorem LG{ma mb:EM}{O O':aB}{x y:D}{a b:List D}(h1:ma s=.ok (x,s1))(h2:mb s1=.ok (y,⟨R,O⟩))(ha:lsD O x=some a)(hb:lsD O y=some b)(Y:a.length+b.length<=1000000)(hk:O.length=k)(U:O++[.lst (a++b)]=O'):A2 ma mb s=.ok (.ptr k,⟨R,O'⟩):=by
 unfold A2
 rw[h1,ak]
 dsimp only
 rw[h2,ak]
 dsimp only
 rw[ha,hb]
 dsimp only
 rw[if_pos (by omega),hk,U]
def ft(A:List (List Int))(way:List Int)(n:Nat):List Int:=(u8 n).map λg=>((u8 A.length).map λk=>nth way k*nth (A.getD k []) g).sum
theorem Gk(n:Nat)(f:Nat->Int):((u8 n).map f).sum=dH n f:=by
 induction n with
 | zero=>rfl
 | succ n U=>rw[S4,Fa,S5,U];simp[dH]
theorem ve(U:g<n):nth (ft A way n) g=fN way A g:=by
 unfold ft fN
 rw[<- Gk]
 unfold nth
 rw[sH,xL,Rm U]
 rfl
theorem lU(A:List (List Int))(way:List Int)(n:Nat):(ft A way n).length=n:=by unfold ft;simp
theorem Hj(ha:A.length<=1000)(lw:way.length=A.length)(U:SzL 2 way)(Y:gQ c A):SzL (c+12) (ft A way n):=λx hx=>by
 unfold ft at hx
 obtain⟨g,_,rfl⟩:=At.mp hx
 have l1:way.length=(A.map (nth · g)).length:=by simp[lw]
 have:=yF way (A.map (nth · g)) l1
 rw[show (A.map (nth · g)).length=A.length by simp] at this
 rw[show (u8 A.length).map (λk=>nth way k*nth (A.getD k []) g)=(u8 A.length).map (λk=>nth way k*nth (A.map (nth · g)) k) from Rl λk _=>by rw[u4],this]
 refine(wG (b:=c) (c:=2) U (λz hz=> ?_) (by omega)).mono (by omega)
 obtain⟨l,hl,rfl⟩:=At.mp hz
 exact(Y l hl).nth _
theorem FX{n c ia iw i2:Nat}{dm:D}(h4:s.r[ia]? =some (some dm))(h8:s.r[iw]? =some (some (vI way)))(h2:s.r[i2]? =some (some (.int (n:Int))))(ix:∀k,k<A.length->ixD s.o dm (.int (k:Int))=.ok (vI (A.getD k [])))(ln:bE s.o [dm]=.ok (.int (A.length:Int)))(hn:n<=1000)(ha:A.length<=1000)(la:∀l∈A,l.length=n)(lw:way.length=A.length)(zw:SzL 2 way)(zA:gQ c A)(hc:c<=60000000):
 bx 1 [ia,iw] (cH (af (aa i2) ao)) (aF 0) bj (aX oM (af (bx 1 [0,1,2] (cH (af (aX bE (af (aa 1) ao)) ao)) (aF 0) bj (aq bR (aq ixD (aa 3) (aa 0)) (aq ixD (aq ixD (aa 2) (aa 0)) (aa 1)))) ao)) s=.ok (vI (ft A way n),s):=by
 have U:∀g,g<n->aX oM (af (bx 1 [0,1,2] (cH (af (aX bE (af (aa 1) ao)) ao)) (aF 0) bj (aq bR (aq ixD (aa 3) (aa 0)) (aq ixD (aq ixD (aa 2) (aa 0)) (aa 1)))) ao) ⟨[some (.int (g:Int)),some dm,some (vI way)],s.o⟩=.ok (.int ((u8 A.length).map λk=>nth way k*nth (A.getD k []) g).sum,⟨[some (.int (g:Int)),some dm,some (vI way)],s.o⟩):=λg hg=>by
  have e:=du (l:=u8 A.length) (item:=λi:Nat=>D.int (i:Int)) (out:=λk=>.int (nth way k*nth (A.getD k []) g)) (caps:=[0,1,2]) (im:=cH (af (aX bE (af (aa 1) ao)) ao)) (e:=aq bR (aq ixD (aa 3) (aa 0)) (aq ixD (aq ixD (aa 2) (aa 0)) (aa 1))) (k:=none) (s:=⟨[some (.int (g:Int)),some dm,some (vI way)],s.o⟩) (by
   rw[<- eC]
   exact dy (ax (cL (ax (ag rfl) (aA _)) ln) (aA _)) (by omega)) trivial (by simp;omega) (λk hk=>by
    have Y:=Pm.mp hk
    have hm:A.getD k []∈A:=getD_mem Y
    exact aH (aH (ag rfl) (ag rfl) (jW (by omega))) (aH (aH (ag rfl) (ag rfl) (ix k Y)) (ag rfl) (jW (by rw[la _ hm];exact hg))) (cC (iF (m:=2) (n:=c) (by decide) hc (zw.nth _) ((zA _ hm).nth _))))
  rw[show (u8 A.length).map (λk=>D.int (nth way k*nth (A.getD k []) g))=((u8 A.length).map λk=>nth way k*nth (A.getD k []) g).map D.int by rw[wp];rfl] at e
  exact cL (ax e (aA _)) (o8 _ _)
 have e:=du (l:=u8 n) (item:=λi:Nat=>D.int (i:Int)) (out:=λg=>.int ((u8 A.length).map λk=>nth way k*nth (A.getD k []) g).sum) (caps:=[ia,iw]) (im:=cH (af (aa i2) ao)) (e:=aX oM (af (bx 1 [0,1,2] (cH (af (aX bE (af (aa 1) ao)) ao)) (aF 0) bj (aq bR (aq ixD (aa 3) (aa 0)) (aq ixD (aq ixD (aa 2) (aa 0)) (aa 1)))) ao)) (k:=none) (s:=s) (by
  rw[<- eC]
  exact dy (ax (ag h2) (aA _)) (by omega)) trivial (by simp;omega) (λg hg=>by
   rw[show [ia,iw].map (λi=>(s.r[i]?).getD none)=[some dm,some (vI way)] by simp[h4,h8]]
   exact U g (Pm.mp hg))
 rw[show (u8 n).map (λg=>D.int ((u8 A.length).map λk=>nth way k*nth (A.getD k []) g).sum)=(ft A way n).map D.int by unfold ft;rw[wp];rfl] at e
 exact e
theorem IF{w:List Int}{m:List Int}(h:w.length<=A.length):fN w (A++[m]) g=fN w A g:=by
 unfold fN
 rw[FS,IN]
 show dH A.length _+_=_
 dsimp only
 rw[di h,Qo,Sr]
 exact fB λj U=>by rw[sH,w6 U,<- sH]
theorem yp(a:Int)(w:List Int)(z:List Int)(A:List (List Int))(g:Nat):fN (a::w) (z::A) g=a*nth z g+fN w A g:=by
 unfold fN
 rw[wE,F9]
 rfl
theorem HR{w v:List Int}(h:∀j,nth v j=nth w j):fN v A g=fN w A g:=by
 unfold fN
 exact fB λj _=>by rw[h j]
theorem Ko(w:List Int)(m j:Nat):nth (w++tz m 0) j=nth w j:=by
 unfold nth
 rw[sH,sH]
 rcases Nat.lt_or_ge j w.length with h | h
 ·rw[w6 h]
 ·rw[wn h,QK h,Gc]
  split <;> rfl
structure Nh(n:Nat)(A:List (List Int))(w:List Int):Prop where
 le:w.length<=A.length
 lo:∀t∈w,0<=t/\t<=2
 bal:∀g,g<n->fN w A g=0
structure MvI(n c:Nat)(A W:List (List Int)):Prop where
 len:∀l∈A,l.length=n
 sz:gQ c A
 ws:∀w∈W,Nh n A w
theorem MvI.more{n c c':Nat}{m:List Int}(h:MvI n c A W)(hm:m.length=n)(zm:SzL c' m)(hc:c<=c'):MvI n c' (A++[m]) W:=
 ⟨λl Y=>by
  rcases xz.mp Y with q | q
  ·exact h.len l q
  ·rw[ww.mp q];exact hm,λl Y=>by
  rcases xz.mp Y with q | q
  ·exact(h.sz l q).mono hc
  ·rw[ww.mp q];exact zm,λw U=>⟨by have:=(h.ws w U).le;simp;omega,(h.ws w U).lo,λg hg=>by rw[IF (h.ws w U).le];exact(h.ws w U).bal g hg⟩⟩
theorem MvI.close(h:MvI n c A W)(lw:way.length=A.length)(U:∀t∈way,0<=t/\t<=2)(ha:A.length<=1000):MvI n (c+12) (A++[(ft A way n).map (- ·)]) (W++[way++[1]]):=by
 have Y:SzL 2 way:=λt ht=>by have:=U t ht;unfold Sz;omega
 have base:=h.more (m:=(ft A way n).map (- ·)) (c':=c+12) (by rw[ut,lU]) (λx hx=>by
  obtain⟨y,hy,rfl⟩:=At.mp hx
  exact(Hj ha lw Y h.sz y hy).neg) (by omega)
 refine⟨base.len,base.sz,λw hw=> ?_⟩
 rcases xz.mp hw with q | q
 ·exact base.ws w q
 ·rw[ww.mp q]
  refine⟨by simp[lw],λt ht=> ?_,λg hg=> ?_⟩
  ·rcases xz.mp ht with z | z
   ·exact U t z
   ·rw[ww.mp z];decide
  ·rw[DI lw,qj (f:=(- ·)) (by simp),ve hg]
   omega
theorem MvI.zero(h:MvI n c A W):MvI n c (tz n 0::A) (W.map (0:: ·)++[[1]]):=by
 have z0:∀g,nth (tz n (0:Int)) g=0:=λg=>by
  unfold nth
  rw[sH,Gc]
  split <;> rfl
 refine⟨λl Y=> ?_,λl Y=> ?_,λw hw=> ?_⟩
 ·rcases wT.mp Y with rfl | q
  ·simp
  ·exact h.len l q
 ·rcases wT.mp Y with rfl | q
  ·intro x hx
   rw[(QU.mp hx).2]
   exact Sz.zero _
  ·exact h.sz l q
 ·rcases xz.mp hw with q | q
  ·obtain⟨v,hv,rfl⟩:=At.mp q
   have U:=h.ws v hv
   refine⟨by have:=U.le;simp;omega,λt ht=> ?_,λg hg=> ?_⟩
   ·rcases wT.mp ht with rfl | z
    ·decide
    ·exact U.lo t z
   ·rw[yp,Qo,U.bal g hg];rfl
  ·rw[ww.mp q]
   refine⟨by simp,λt ht=>by rw[ww.mp ht];decide,λg hg=> ?_⟩
   rw[yp,z0,RX]
   unfold fN
   rw[mY λj _=> ?_]
   ·rfl
   ·rw[di (by simp),Qo]
abbrev mvR(ns:List Int)(b n:Nat)(hd:Int)(w:Bool)(U x7 x8 x9:Option D):List (Option D):=[some (vI ns),some (.int (b:Int)),some (.int (n:Int)),some (.int hd),some (.ptr 0),some (.bl w),U,x7,x8,x9]
theorem IE{ns:List Int}{b n k:Nat}{hd:Int}{w:Bool}{x7 x8 x9:Option D}(hn:n<=100)(Y:O[0]? =some (.lst (A.map vI)))(al:A.length<=1000):
 ∃l O',iM ⟨mvR ns b n hd w (some (.int (k:Int))) x7 x8 x9,O⟩=.next ⟨mvR ns b n hd w (some (.int (k:Int))) x7 x8 x9,O'⟩/\O'[0]? =some (.lst ((A++[l]).map vI))/\l.length=n/\SzL 50 l:=by
 obtain⟨c,ec,_⟩:=tY ns (b+1+k)
 have hc:aN 2 cM (af (aa 0) (af (aq bf (aq bf (aa 1) (ar (.int 1))) (aa 6)) ao)) ⟨mvR ns b n hd w (some (.int (k:Int))) x7 x8 x9,O⟩=.ok (.int c,⟨mvR ns b n hd w (some (.int (k:Int))) x7 x8 x9,O⟩):=by
  refine c7 (O1:=[]) (ax (ag rfl) (ax (aH (aH (ag rfl) (ay _ _) (bV _ _)) (ag rfl) (bV _ _)) (aA _))) ?_ (by simp) rfl rfl
  rw[show (b:Int)+1+(k:Int)=((b+1+k:Nat):Int) by omega]
  exact ec
 obtain⟨l,em,ll,lz⟩:=Kb (c+13*(k:Int)) w hn
 have e8:fe 3 lg (af (aq bf (aN 2 cM (af (aa 0) (af (aq bf (aq bf (aa 1) (ar (.int 1))) (aa 6)) ao))) (aq bR (ar (.int 13)) (aa 6))) (af (aa 2) (af (aa 5) ao))) ⟨mvR ns b n hd w (some (.int (k:Int))) x7 x8 x9,O⟩=.ok (.ptr O.length,⟨mvR ns b n hd w (some (.int (k:Int))) x7 x8 x9,O++[.lst (l.map D.int)]⟩):=by
  refine kB (ax (aH hc (aH (ay _ _) (ag rfl) (cC (dS (.inl (by decide))))) (bV _ _)) (ax (ag rfl) (ax (ag rfl) (aA _)))) em rfl rfl (iU _ _) ?_
  simp only[AC,PB,jG,kx]
 have U:O.length≠0:=by have:=oj Y;omega
 have c8:(O++[Cell.lst (l.map D.int)])[O.length]? =some (.lst (l.map D.int)):=iy
 have g8:(O++[Cell.lst (l.map D.int)])[0]? =some (.lst (A.map vI)):=eZ Y
 generalize O++[Cell.lst (l.map D.int)]=O1 at e8 c8 g8
 generalize O.length=kk at e8 c8 U
 refine⟨l,(O1.set kk .dead).set 0 (.lst (A.map vI++[vI l])), ?_,(by rw[Fa];exact eQ (c':=.lst (A.map vI)) (by rw[cN U];exact g8)),ll,lz⟩
 rw[iM]
 exact cy (mz (ag rfl) Y (my e8 c8 rfl) (by rw[cN U];exact g8) (by simp;omega) rfl)
theorem IC(h:O[k]? =some (.lst (A.map vI)))(hi:i<A.length):ixD O (.ptr k) (.int (i:Int))=.ok (vI (A.getD i [])):=by
 refine Ar h ?_
 rw[oB (by simpa using hi)]
 simp[sH,hi]
theorem HH{ns:List Int}{b n k U c:Nat}{hd:Int}{w:Bool}{x8 x9:Option D}(hn:n<=100)(al:A.length<=100)(wl:W.length<=100)(hc:c<=1000)(h:MvI n c A W)(hO:O[0]? =some (.lst (A.map vI)))(hF:O[U]? =some (.lst (W.map vI)))(k0:U≠0):
 ∃m v O' y8 y9,iO ⟨mvR ns b n hd w (some (.int (k:Int))) (some (.ptr U)) x8 x9,O⟩=.next ⟨mvR ns b n hd w (some (.int (k:Int))) (some (.ptr U)) y8 y9,O'⟩/\MvI n (c+12) (A++[m]) (W++[v])/\O'[0]? =some (.lst ((A++[m]).map vI))/\O'[U]? =some (.lst ((W++[v]).map vI)):=by
 have ln:bE O [.ptr 0]=.ok (.int (A.length:Int)):=by rw[qQ hO,ut]
 have ew:=du (l:=u8 A.length) (item:=λi:Nat=>D.int (i:Int)) (out:=λi=>.int (bH hd (50+7*(k:Int)+(i:Int)) 4%3)) (caps:=[3,6]) (im:=cH (af (aX bE (af (aa 4) ao)) ao)) (e:=aq eM (aN 3 aK (af (aa 1) (af (aq bf (aq bf (ar (.int 50)) (aq bR (ar (.int 7)) (aa 2))) (aa 0)) (af (ar (.int 4)) ao)))) (ar (.int 3))) (k:=none) (s:=⟨mvR ns b n hd w (some (.int (k:Int))) (some (.ptr U)) x8 x9,O⟩) (by
  rw[<- eC]
  exact dy (ax (cL (ax (ag rfl) (aA _)) ln) (aA _)) (by omega)) trivial (by simp;omega) (λi _=>aH (d5 (ag rfl) (aH (aH (ay _ _) (aH (ay _ _) (ag rfl) (cC (dS (.inl (by decide))))) (bV _ _)) (ag rfl) (bV _ _)) (ay _ _) (by decide)) (ay _ _) (eO (by decide)))
 rw[show (u8 A.length).map (λi:Nat=>D.int (bH hd (50+7*(k:Int)+(i:Int)) 4%3))=((u8 A.length).map λi:Nat=>bH hd (50+7*(k:Int)+(i:Int)) 4%3).map D.int by rw[wp];rfl] at ew
 have lw:((u8 A.length).map λi:Nat=>bH hd (50+7*(k:Int)+(i:Int)) 4%3).length=A.length:=by simp
 have w0:∀t∈(u8 A.length).map (λi:Nat=>bH hd (50+7*(k:Int)+(i:Int)) 4%3),0<=t/\t<=2:=λt ht=>by
  obtain⟨i,_,rfl⟩:=At.mp ht
  have h1:=PV (bH hd (50+7*(k:Int)+(i:Int)) 4) (show (3:Int)≠0 by decide)
  have h2:=PD (bH hd (50+7*(k:Int)+(i:Int)) 4) (show (0:Int)<3 by decide)
  exact⟨h1,by omega⟩
 generalize (u8 A.length).map (λi:Nat=>bH hd (50+7*(k:Int)+(i:Int)) 4%3)=way at ew lw w0
 have zw:SzL 2 way:=λt ht=>by have:=w0 t ht;unfold Sz;omega
 have el:=FX (A:=A) (way:=way) (n:=n) (c:=c) (ia:=4) (iw:=8) (i2:=2) (s:=⟨mvR ns b n hd w (some (.int (k:Int))) (some (.ptr U)) (some (vI way)) x9,O⟩) (dm:=.ptr 0) rfl rfl rfl (λi hi=>IC hO hi) ln (by omega) (by omega) h.len lw zw h.sz (by omega)
 have cl:=h.close lw w0 (by omega)
 have ll:=lU A way n
 generalize ft A way n=Y at el cl ll
 have en:=du (l:=Y) (item:=D.int) (out:=λx=>.int (-x)) (caps:=[]) (im:=listI (aa 9)) (e:=unM je (aa 0)) (k:=none) (s:=⟨mvR ns b n hd w (some (.int (k:Int))) (some (.ptr U)) (some (vI way)) (some (vI Y)),O⟩) (by rw[cv,ag (i:=9) rfl,ak];rfl) trivial (by omega) (λx _=>sT (ag rfl) (oV _))
 rw[show Y.map (λx=>D.int (-x))=(Y.map (- ·)).map D.int by rw[wp];rfl] at en
 have gF:(O.set 0 (.lst (A.map vI++[vI (Y.map (- ·))])))[U]? =some (.lst (W.map vI)):=by rw[cN (λz=>k0 z.symm)];exact hF
 have g0:(O.set 0 (.lst (A.map vI++[vI (Y.map (- ·))])))[0]? =some (.lst ((A++[Y.map (- ·)]).map vI)):=by rw[Fa];exact eQ hO
 have ea:cP (gU (aa 4) (bx 1 [] (listI (aa 9)) (aF 0) bj (unM je (aa 0)))) ⟨mvR ns b n hd w (some (.int (k:Int))) (some (.ptr U)) (some (vI way)) (some (vI Y)),O⟩=.next ⟨mvR ns b n hd w (some (.int (k:Int))) (some (.ptr U)) (some (vI way)) (some (vI Y)),O.set 0 (.lst (A.map vI++[vI (Y.map (- ·))]))⟩:=cy (mz (ag rfl) hO en hO (by simp;omega) rfl)
 generalize O.set 0 (.lst (A.map vI++[vI (Y.map (- ·))]))=O1 at ea gF g0
 have ef:cP (gU (aa 7) (aq bf (aa 8) (dI (af (ar (.int 1)) ao)))) ⟨mvR ns b n hd w (some (.int (k:Int))) (some (.ptr U)) (some (vI way)) (some (vI Y)),O1⟩=.next ⟨mvR ns b n hd w (some (.int (k:Int))) (some (.ptr U)) (some (vI way)) (some (vI Y)),O1.set U (.lst (W.map vI++[vI (way++[1])]))⟩:=by
  refine cy (mz (ag rfl) gF (aH (ag rfl) (hU (ax (ay _ _) (aA _)) (by simp)) (d:=vI (way++[1])) ?_) gF (by simp;omega) rfl)
  rw[lJ (by simp;omega)]
  exact congrArg (λz=>Res.ok (D.lst z)) (by rw[Fa];rfl)
 refine⟨Y.map (- ·),way++[1],O1.set U (.lst (W.map vI++[vI (way++[1])])),some (vI way),some (vI Y), ?_,cl,by rw[cN k0];exact g0,by rw[Fa];exact eQ gF⟩
 rw[iO]
 exact aV (bh (R':=mvR ns b n hd w (some (.int (k:Int))) (some (.ptr U)) (some (vI way)) x9) ew rfl) (aV (bh (R':=mvR ns b n hd w (some (.int (k:Int))) (some (.ptr U)) (some (vI way)) (some (vI Y))) el rfl) (aV ea ef))
theorem FL(U:R[i]? =some (some (.ptr k)))(Y:O[k]? =some (.lst ds)):a7 (kI ltD ltD (ar (.int 0)) (aX bE (af (aa i) ao)) (ar (.int 6))) ⟨R,O⟩=.ok (decide (0<ds.length)&&decide (ds.length<6),⟨R,O⟩):=by
 have el:aX bE (af (aa i) ao) ⟨R,O⟩=.ok (.int (ds.length:Int),⟨R,O⟩):=cL (ax (ag U) (aA _)) (qQ Y)
 have e:kI ltD ltD (ar (.int 0)) (aX bE (af (aa i) ao)) (ar (.int 6)) ⟨R,O⟩=.ok (.bl (decide (0<ds.length)&&decide (ds.length<6)),⟨R,O⟩):=by
  rw[yN,ay,ak]
  dsimp only
  rw[el,ak]
  dsimp only
  rw[iP,ak]
  by_cases h:0<ds.length
  ·rw[decide_eq_true (show (0:Int)<(ds.length:Int) by omega),decide_eq_true h]
   dsimp only
   rw[ay,ak]
   dsimp only
   rw[iP,ak,QO]
   congr 3
   exact decide_eq_decide.mpr (by omega)
  ·rw[decide_eq_false (show ¬(0:Int)<(ds.length:Int) by omega),decide_eq_false h]
   rfl
 exact cK e
theorem G9(ns:List Int)(b:Nat)(hn:n<=100):∃(A W:List (List Int)) (O:aB) (Y:Nat),g6 [vI ns,.int (b:Int),.int (n:Int)] []=.ok (.tup [.ptr 0,.ptr Y],O)/\O[0]? =some (.lst (A.map vI))/\O[Y]? =some (.lst (W.map vI))/\Y≠0/\MvI n 90 A W/\A.length<=6/\(∀w∈W,w.length=A.length)/\W.length<=4:=by
 obtain⟨hd,eh,_⟩:=tY ns b
 have e3:setM 3 (aN 2 cM (af (aa 0) (af (aa 1) ao))) ⟨[some (vI ns),some (.int (b:Int)),some (.int (n:Int)),none,none,none,none,none,none,none],[]⟩=.next ⟨[some (vI ns),some (.int (b:Int)),some (.int (n:Int)),some (.int hd),none,none,none,none,none,none],[]⟩:=bh (c7 (ax (ag rfl) (ax (ag rfl) (aA _))) eh (by simp) rfl rfl) rfl
 have e5:setM 5 (aq eqD (aN 3 aK (af (aa 3) (af (ar (.int 41)) (af (ar (.int 6)) ao)))) (ar (.int 0))) ⟨[some (vI ns),some (.int (b:Int)),some (.int (n:Int)),some (.int hd),some (.ptr 0),none,none,none,none,none],[.lst []]⟩=.next ⟨mvR ns b n hd (decide (bH hd 41 6=0)) none none none none,[.lst []]⟩:=bh (aH (d5 (ag rfl) (ay _ _) (ay _ _) (by decide)) (ay _ _) (lW _ _)) rfl
 generalize decide (bH hd 41 6=0)=w at e5
 obtain⟨cnt,hcnt,c4⟩:∃cnt:Nat,bH hd 40 5%(5-2*(if w=true then 1 else 0))=(cnt:Int)/\cnt<=4:=by
  have h0:(0:Int)<5-2*(if w=true then 1 else 0):=by split <;> decide
  have h6:(5:Int)-2*(if w=true then 1 else 0)<=5:=by split <;> decide
  generalize (5:Int)-2*(if w=true then 1 else 0)=m at h0 h6
  have r0:=PV (bH hd 40 5) (show m≠0 by omega)
  have r1:=PD (bH hd 40 5) h0
  exact⟨(bH hd 40 5%m).toNat,by omega,by omega⟩
 obtain⟨s1,co,A1,O1,x6,bw,b6,b7,cr⟩:=eX (ok:=okC (dY 0 (cnt:Int)) none) (g:=aF 6) (body:=iM)
  (λpre s=>∃(A:List (List Int)) (O:aB) (x6:Option D),A.length=pre.length/\(∀l∈A,l.length=n/\SzL 50 l)/\O[0]? =some (.lst (A.map vI))/\s=⟨mvR ns b n hd w x6 none none none,O⟩) (λ_ _ _=>trivial) (dY 0 (cnt:Int)) [] (by
   rintro pre d rest ed s ⟨A,O,x6,h1,h2,h3,rfl⟩
   rw[Db,eC] at ed
   obtain⟨rfl,ap⟩:=mJ ed
   obtain⟨l,O',eb,cw,ll,lz⟩:=IE (ns:=ns) (b:=b) (k:=pre.length) (hd:=hd) (w:=w) (x7:=none) (x8:=none) (x9:=none) hn h3 (by omega)
   refine⟨_,_,rfl,.inl eb,A++[l],O',_,by simp[h1],λz hz=> ?_,cw,rfl⟩
   rcases xz.mp hz with q | q
   ·exact h2 z q
   ·rw[ww.mp q];exact⟨ll,lz⟩) ⟨mvR ns b n hd w none none none none,[.lst []]⟩ ⟨[],[.lst []],none,rfl,(λ_ h=>by cases h),rfl,rfl⟩
 rw[Db,gB] at bw
 have bw:A1.length=cnt:=by omega
 have cA:fS (cH (af (aq eM (aN 3 aK (af (aa 3) (af (ar (.int 40)) (af (ar (.int 5)) ao)))) (aq gX (ar (.int 5)) (aq bR (ar (.int 2)) (aX intOf (af (aa 5) ao))))) ao)) (aF 6) iM ⟨mvR ns b n hd w none none none none,[.lst []]⟩=.next ⟨mvR ns b n hd w x6 none none none,O1⟩:=by
  refine(dW (ds:=dY 0 (cnt:Int)) (k:=none) (s1:=⟨mvR ns b n hd w none none none none,[.lst []]⟩) (dy (n:=cnt) ?_ (by omega))).trans (co.trans (by rw[cr]))
  rw[<- hcnt]
  refine ax (aH (d5 (ag rfl) (ay _ _) (ay _ _) (by decide)) (aH (ay _ _) (aH (ay _ _) (cL (ax (ag rfl) (aA _)) (gW _)) (cC (dS (.inl (by decide))))) (kb _ _)) (eO ?_)) (aA _)
  split <;> decide
 have e7:setM 7 (jf ao) ⟨mvR ns b n hd w x6 none none none,O1⟩=.next ⟨mvR ns b n hd w x6 (some (.ptr O1.length)) none none,O1++[.lst []]⟩:=bh (oX (aA _) (by simp) rfl rfl) rfl
 have k0:O1.length≠0:=by have:=oj b7;omega
 have g0:(O1++[Cell.lst []])[0]? =some (.lst (A1.map vI)):=eZ b7
 have gF:(O1++[Cell.lst []])[O1.length]? =some (.lst (([]:List (List Int)).map vI)):=iy
 generalize O1++[Cell.lst []]=O2 at e7 g0 gF
 generalize O1.length=Y at e7 gF k0
 obtain⟨U,hcnt2,c2⟩:∃U:Nat,bH hd 42 3/(1+(if w=true then 1 else 0))=(U:Int)/\U<=2:=by
  have p0:=gR (c:=hd) (t:=42) (m:=3) (by decide)
  have p1:=ja (c:=hd) (t:=42) (m:=3) (by decide)
  cases w with
  | true=>exact⟨(bH hd 42 3/(1+1)).toNat,by simp;omega,by omega⟩
  | false=>exact⟨(bH hd 42 3/(1+0)).toNat,by simp;omega,by omega⟩
 obtain⟨s3,c1,A3,W3,O3,y6,y8,y9,c3,c5,am,bd,cc,c6⟩:=eX (ok:=okC (dY 0 (U:Int)) none) (g:=aF 6) (body:=iO)
  (λpre s=>∃(A W:List (List Int)) (O:aB) (x6 x8 x9:Option D),A.length=cnt+pre.length/\W.length=pre.length/\MvI n (50+12*pre.length) A W/\O[0]? =some (.lst (A.map vI))/\O[Y]? =some (.lst (W.map vI))/\s=⟨mvR ns b n hd w x6 (some (.ptr Y)) x8 x9,O⟩) (λ_ _ _=>trivial) (dY 0 (U:Int)) [] (by
   rintro pre d rest ed s ⟨A,W,O,x6,x8,x9,h1,h2,h3,h4,h5,rfl⟩
   rw[Db,eC] at ed
   obtain⟨rfl,ap⟩:=mJ ed
   obtain⟨m,v,O',y8,y9,eb,mv,c8,db⟩:=HH (ns:=ns) (b:=b) (k:=pre.length) (hd:=hd) (w:=w) (x8:=x8) (x9:=x9) hn (by omega) (by omega) (by omega) h3 h4 h5 k0
   refine⟨_,_,rfl,.inl eb,A++[m],W++[v],O',_,_,_,by simp[h1];omega,by simp[h2], ?_,c8,db,rfl⟩
   rw[FS,IN]
   exact mv) ⟨mvR ns b n hd w x6 (some (.ptr Y)) none none,O2⟩ ⟨A1,[],O2,_,_,_,by simp[bw],rfl,⟨λl hl=>(b6 l hl).1,λl hl=>(b6 l hl).2,λ_ h=>by cases h⟩,g0,gF,rfl⟩
 rw[Db,gB] at c3 c5 am
 have am:MvI n 90 A3 W3:=⟨am.len,λl hl=>(am.sz l hl).mono (by omega),am.ws⟩
 have dc:fS (cH (af (aq gw (aN 3 aK (af (aa 3) (af (ar (.int 42)) (af (ar (.int 3)) ao)))) (aq bf (ar (.int 1)) (aX intOf (af (aa 5) ao)))) ao)) (aF 6) iO ⟨mvR ns b n hd w x6 (some (.ptr Y)) none none,O2⟩=.next ⟨mvR ns b n hd w y6 (some (.ptr Y)) y8 y9,O3⟩:=by
  refine(dW (ds:=dY 0 (U:Int)) (k:=none) (s1:=⟨mvR ns b n hd w x6 (some (.ptr Y)) none none,O2⟩) (dy (n:=U) ?_ (by omega))).trans (c1.trans (by rw[c6]))
  rw[<- hcnt2]
  refine ax (aH (d5 (ag rfl) (ay _ _) (ay _ _) (by decide)) (aH (ay _ _) (cL (ax (ag rfl) (aA _)) (gW _)) (bV _ _)) (rD ?_)) (aA _)
  split <;> decide
 have a3:A3.length<=6:=by omega
 have w3:W3.length<=3:=by omega
 have pk:∀(t:Int) (x7 x8 x9:Option D) (O:aB),a7 (aq eqD (aN 3 aK (af (aa 3) (af (ar (.int t)) (af (ar (.int 5)) ao)))) (ar (.int 0))) ⟨mvR ns b n hd w y6 x7 x8 x9,O⟩=.ok (decide (bH hd t 5=0),⟨mvR ns b n hd w y6 x7 x8 x9,O⟩):=λt x7 x8 x9 O=>eq_test (d5 (ag rfl) (ay _ _) (ay _ _) (by decide))
 have dm:∃(A W:List (List Int)) (O:aB) (kg:Nat),ifS (jM (a7 (aq eqD (aN 3 aK (af (aa 3) (af (ar (.int 43)) (af (ar (.int 5)) ao)))) (ar (.int 0)))) (a7 (aq ltD (aX bE (af (aa 4) ao)) (ar (.int 6))))) (aR (cP (t7 (aa 4) (bx 1 [] (cH (af (aa 2) ao)) (aF 0) bj (ar (.int 0))))) (setM 7 (A2 (bx 1 [] (listI (aa 7)) (aF 0) bj (aq bf (dI (af (ar (.int 0)) ao)) (aa 0))) (dI (af (dI (af (ar (.int 1)) ao)) ao))))) bI ⟨mvR ns b n hd w y6 (some (.ptr Y)) y8 y9,O3⟩=.next ⟨mvR ns b n hd w y6 (some (.ptr kg)) y8 y9,O⟩/\MvI n 90 A W/\A.length<=6/\W.length<=4/\O[0]? =some (.lst (A.map vI))/\O[kg]? =some (.lst (W.map vI))/\kg≠0:=by
  have t2:a7 (aq ltD (aX bE (af (aa 4) ao)) (ar (.int 6))) ⟨mvR ns b n hd w y6 (some (.ptr Y)) y8 y9,O3⟩=.ok (decide (((A3.map vI).length:Int)<6),⟨mvR ns b n hd w y6 (some (.ptr Y)) y8 y9,O3⟩):=cK (aH (cL (ax (ag rfl) (aA _)) (qQ bd)) (ay _ _) (iP _ _))
  have ta:=qw (pk 43 (some (.ptr Y)) y8 y9 O3) t2
  cases hb:(decide (bH hd 43 5=0)&&decide (((A3.map vI).length:Int)<6)) with
  | false=>exact⟨A3,W3,O3,Y,cU ta hb (bC _),am,a3,by omega,bd,cc,k0⟩
  | true=>
   have ap:A3.length<6:=by
    have:=(Po _ _▸hb).2
    rw[ut] at this
    have:=of_decide_eq_true this
    omega
   have ez:=du (l:=u8 n) (item:=λi:Nat=>D.int (i:Int)) (out:=λ_=>.int 0) (caps:=[]) (im:=cH (af (aa 2) ao)) (e:=ar (.int 0)) (k:=none) (s:=⟨mvR ns b n hd w y6 (some (.ptr Y)) y8 y9,O3⟩) (by
    rw[<- eC]
    exact dy (ax (ag rfl) (aA _)) (by omega)) trivial (by simp;omega) (λ_ _=>ay _ _)
   rw[show (u8 n).map (λ_=>D.int 0)=(tz n (0:Int)).map D.int by rw[QV];simp[Rh]] at ez
   have ei:cP (t7 (aa 4) (bx 1 [] (cH (af (aa 2) ao)) (aF 0) bj (ar (.int 0)))) ⟨mvR ns b n hd w y6 (some (.ptr Y)) y8 y9,O3⟩=.next ⟨mvR ns b n hd w y6 (some (.ptr Y)) y8 y9,O3.set 0 (.lst (vI (tz n (0:Int))::A3.map vI))⟩:=cy (MK (ag rfl) bd ez bd (by simp;omega) rfl)
   have h0:(O3.set 0 (.lst (vI (tz n (0:Int))::A3.map vI)))[0]? =some (.lst ((tz n 0::A3).map vI)):=eQ bd
   have hF:(O3.set 0 (.lst (vI (tz n (0:Int))::A3.map vI)))[Y]? =some (.lst (W3.map vI)):=by rw[cN (λz=>k0 z.symm)];exact cc
   generalize O3.set 0 (.lst (vI (tz n (0:Int))::A3.map vI))=O4 at ei h0 hF
   have ew:=du (l:=W3) (item:=vI) (out:=λv=>vI (0::v)) (caps:=[]) (im:=listI (aa 7)) (e:=aq bf (dI (af (ar (.int 0)) ao)) (aa 0)) (k:=some Y) (s:=⟨mvR ns b n hd w y6 (some (.ptr Y)) y8 y9,O4⟩) (tP (ag rfl) hF) hF (by omega) (λv hv=>by
    refine aH (hU (ax (ay _ _) (aA _)) (by simp)) (ag rfl) ?_
    rw[lJ (by have:=(am.ws v hv).le;simp;omega)]
    rfl)
   have en:=oj h0
   refine⟨tz n 0::A3,W3.map (0:: ·)++[[1]],O4++[.lst ((W3.map (0:: ·)++[[1]]).map vI)],O4.length,fK ta hb (aV ei (bh (LG (a:=W3.map λv=>vI (0::v)) (b:=[vI [1]]) ew (hU (ax (hU (ax (ay _ _) (aA _)) (by simp)) (aA _)) (by simp)) rfl rfl (by simp;omega) rfl ?_) rfl)),am.zero,by simp;omega,by simp;omega,eZ h0,iy,by omega⟩
   rw[Fa,wp]
   rfl
 obtain⟨A4,W4,O4,kg,dp,bn,a4,w4,az,cg,dr⟩:=dm
 have dt:∃(A:List (List Int)) (O:aB),ifS (jM (a7 (aq eqD (aN 3 aK (af (aa 3) (af (ar (.int 44)) (af (ar (.int 5)) ao)))) (ar (.int 0)))) (a7 (kI ltD ltD (ar (.int 0)) (aX bE (af (aa 4) ao)) (ar (.int 6))))) (cP (gU (aa 4) (aX iD (af (aq ixD (aa 4) (unM je (ar (.int 1)))) ao)))) bI ⟨mvR ns b n hd w y6 (some (.ptr kg)) y8 y9,O4⟩=.next ⟨mvR ns b n hd w y6 (some (.ptr kg)) y8 y9,O⟩/\MvI n 90 A W4/\A.length<=6/\O[0]? =some (.lst (A.map vI))/\O[kg]? =some (.lst (W4.map vI)):=by
  have ta:=qw (pk 44 (some (.ptr kg)) y8 y9 O4) (FL (i:=4) (R:=mvR ns b n hd w y6 (some (.ptr kg)) y8 y9) rfl az)
  cases hb:(decide (bH hd 44 5=0)&&(decide (0<(A4.map vI).length)&&decide ((A4.map vI).length<6))) with
  | false=>exact⟨A4,O4,cU ta hb (bC _),bn,a4,az,cg⟩
  | true=>
   have ap:0<A4.length/\A4.length<6:=by
    have h1:=(Po _ _▸hb).2
    have h2:=Po _ _▸h1
    rw[ut] at h2
    exact⟨of_decide_eq_true h2.1,of_decide_eq_true h2.2⟩
   obtain⟨A',m,rfl⟩:∃A' m,A4=A'++[m]:=⟨A4.dropLast,A4.getLast (by intro z;rw[z] at ap;simp at ap),(List.dropLast_concat_getLast _).symm⟩
   have hm:m∈A'++[m]:=by simp
   have ex:ixD O4 (.ptr 0) (.int (-1))=.ok (vI m):=by
    refine Ar az ?_
    rw[Fa]
    unfold atI
    have hx:ixN (A'.map vI++[m].map vI).length (-1)=some A'.length:=by
     have hl:(A'.map vI++[m].map vI).length=A'.length+1:=by simp
     rw[hl]
     unfold ixN
     rw[if_neg (by decide),if_pos (by omega)]
     congr 1
     omega
    rw[hx]
    simp
   have eL:aX iD (af (aq ixD (aa 4) (unM je (ar (.int 1)))) ao) ⟨mvR ns b n hd w y6 (some (.ptr kg)) y8 y9,O4⟩=.ok (vI m,⟨mvR ns b n hd w y6 (some (.ptr kg)) y8 y9,O4⟩):=cL (ax (aH (ag rfl) (sT (ay _ _) (oV _)) ex) (aA _)) (jm _)
   refine⟨A'++[m]++[m],O4.set 0 (.lst ((A'++[m]).map vI++[vI m])),fK ta hb (cy (mz (ag rfl) az eL az (by rw[ut];omega) rfl)),bn.more (bn.len m hm) (bn.sz m hm) (wf _),by have:=ap.2;simp at this ⊢;omega,(by have q:(A'++[m]++[m]).map vI=(A'++[m]).map vI++[vI m]:=Fa;rw[q];exact eQ az),by rw[cN (λz=>dr z.symm)];exact cg⟩
 obtain⟨A5,O5,dL,bm,a5,b5,ci⟩:=dt
 have ep:=oa (l:=W4) (item:=vI) (out:=λv=>vI (v++tz (A5.length-v.length) 0)) (caps:=[4]) (im:=listI (aa 7)) (e:=aq bf (aa 0) (bx 1 [] (cH (af (aq gX (aX bE (af (aa 1) ao)) (aX bE (af (aa 0) ao))) ao)) (aF 0) bj (ar (.int 0)))) (k:=some kg) (s:=⟨mvR ns b n hd w y6 (some (.ptr kg)) y8 y9,O5⟩) (tP (ag rfl) ci) ci (by omega) (λv hv=>by
  have le:=(bm.ws v hv).le
  have ez:=du (l:=u8 (A5.length-v.length)) (item:=λi:Nat=>D.int (i:Int)) (out:=λ_=>.int 0) (caps:=[]) (im:=cH (af (aq gX (aX bE (af (aa 1) ao)) (aX bE (af (aa 0) ao))) ao)) (e:=ar (.int 0)) (k:=none) (s:=⟨[some (vI v),some (.ptr 0)],O5⟩) (by
   rw[<- eC]
   refine dy (ax (aH (cL (ax (ag rfl) (aA _)) (qQ b5)) (cL (ax (ag rfl) (aA _)) (fQ _)) ?_) (aA _)) (by omega)
   rw[kb,ut,ut]
   congr 2
   omega) trivial (by simp;omega) (λ_ _=>ay _ _)
  rw[show (u8 (A5.length-v.length)).map (λ_=>D.int 0)=(tz (A5.length-v.length) (0:Int)).map D.int by rw[QV];simp[Rh]] at ez
  refine aH (ag rfl) ez ?_
  rw[lJ (by simp;omega)]
  exact congrArg (λz=>Res.ok (D.lst z)) Fa.symm)
 have eu:=oj b5
 refine⟨A5,W4.map λv=>v++tz (A5.length-v.length) 0,O5++[.lst ((W4.map λv=>v++tz (A5.length-v.length) 0).map vI)],O5.length, ?_,eZ b5,iy,by omega,⟨bm.len,bm.sz,λv hv=> ?_⟩,a5,λv hv=> ?_,by rw[ut];exact w4⟩
 ·refine dR (R:=mvR ns b n hd w y6 (some (.ptr kg)) y8 y9) ?_
  show pC ⟨[some (vI ns),some (.int (b:Int)),some (.int (n:Int)),none,none,none,none,none,none,none],[]⟩=_
  rw[pC]
  rw[show W4.map (λv=>vI (v++tz (A5.length-v.length) 0))=(W4.map λv=>v++tz (A5.length-v.length) 0).map vI by rw[wp];rfl] at ep
  exact aV e3 (aV (bh (oX (aA _) (by simp) rfl rfl) rfl) (aV e5 (aV cA (aV e7 (aV dc (aV dp (aV dL (bD (um (ax (ag rfl) (ax ep (aA _))) (by simp))))))))))
 ·obtain⟨u,hu,rfl⟩:=At.mp hv
  have:=bm.ws u hu
  refine⟨by have:=this.le;simp;omega,λt ht=> ?_,λg hg=>by rw[HR (Ko u _)];exact this.bal g hg⟩
  rcases xz.mp ht with q | q
  ·exact this.lo t q
  ·rw[(QU.mp q).2];decide
 ·obtain⟨u,hu,rfl⟩:=At.mp hv
  have:=(bm.ws u hu).le
  simp;omega
theorem mot(a b:Int):fm [.int a,.int b] []=.ok (.int (Pc a b:Nat),[]):=FV a b
theorem En(ns:List Int):mT [vI ns] []=.ok (.int (cX ns:Nat),[]):=by
 obtain⟨s',e,c,x,h1,h2⟩:=eX (ok:=okC (ns.map D.int) none) (g:=aF 2) (body:=mE)
  (λpre s=>∃(ms:List Int) (x:Option D),pre=ms.map D.int/\s=⟨[some (vI ns),some (.int (ms.foldl (λc n=>Qv c n.natAbs) 0:Nat)),x],[]⟩) (λ_ _ _=>trivial) (ns.map D.int) [] (by
   rintro pre d rest e s ⟨ms,x,rfl,rfl⟩
   have hd:d∈ns.map D.int:=by rw[Db] at e;rw[e];simp
   obtain⟨m,_,rfl⟩:=At.mp hd
   refine⟨_,_,rfl,.inl ?_,ms++[m],some (.int m),by simp,rfl⟩
   simp[mE,mot,Pc]) ⟨[some (vI ns),some (.int 0),none],[]⟩ ⟨[],none,rfl,rfl⟩
 rw[Db] at h1
 have hc:c=ns:=(QD (λa b h=>by cases h;rfl)).mp h1.symm
 subst hc
 have U:=dW (im:=listI (aa 0)) (g:=aF 2) (body:=mE) (s:=⟨[some (vI c),some (.int 0),none],[]⟩) (ds:=c.map D.int) (k:=none) (s1:=⟨[some (vI c),some (.int 0),none],[]⟩) (by simp)
 rw[e] at U
 have q:=dQ (n:=3) (m:=o9) (ds:=[vI c]) (O:=[]) (d:=.int (cX c:Nat)) (s:=s') (by
  show o9 ⟨[some (vI c),none,none],[]⟩=_
  rw[o9,uw]
  rw[show setM 1 (ar (.int 0)) ⟨[some (vI c),none,none],[]⟩=.next ⟨[some (vI c),some (.int 0),none],[]⟩ by simp]
  rw[yo,uw,U,yo,h2]
  simp[cX])
 rw[h2] at q
 exact q
theorem AW{a b:List Int}(U:a.length<=1000000)(hm:∀p∈a.zip b,IntMulOk p.1 p.2):bX [vI a,vI b] []=.ok (.int (aP a b),[]):=by
 have hz:(a.zip b).length<=1000000:=by rw[Qq];omega
 have hc:=Ex (l:=a.zip b) (f:=λp=>.int p.1) (g:=λp=>.int p.2) (out:=λp=>.int (p.1*p.2)) (caps:=[]) (im:=sP (af (aa 0) (af (aa 1) ao))) (e:=aq bR (aa 0) (aa 1)) (k:=none) (s:=⟨[some (vI a),some (vI b)],[]⟩) (by simp[sL]) trivial (by omega) (λp hp=>by
  simp[cC (hm p hp)])
 rw[show (a.zip b).map (λp=>D.int (p.1*p.2))=(PX (· * ·) a b).map D.int by rw[<- KO];simp] at hc
 refine dQ (s:=⟨[some (vI a),some (vI b)],[]⟩) ?_
 show jN ⟨[some (vI a),some (vI b)],[]⟩=_
 rw[jN]
 refine bD ?_
 rw[iV,a8,hc,ak,aA,ak,ak]
 dsimp only
 rw[o8,ak]
 rfl
theorem zi(ns:List Int)(U:ns.length<=1000000):j3 [vI ns] []=.ok (.ptr 0,[.lst ((low ns).map D.int)]):=by
 have e1:setM 1 (aN 1 mT (af (aa 0) ao)) ⟨[some (vI ns),none],[]⟩=.next ⟨[some (vI ns),some (.int (cX ns:Nat))],[]⟩:=bh (dO (ax (ag rfl) (aA _)) (kG _) rfl (En ns) (by simp)) rfl
 by_cases h:cX ns=0
 ·refine dR (R:=[some (vI ns),some (.int (cX ns:Nat))]) ?_
  show om ⟨[some (vI ns),none],[]⟩=_
  rw[om]
  refine aV e1 (qN (fK (eq_test (ag rfl)) (decide_eq_true (by omega)) (bD (Lk (ag rfl) (Fh _ _) rfl ?_))))
  rw[show low ns=ns by unfold low;rw[if_pos h]]
  rfl
 ·have hc:=oa (l:=ns) (item:=D.int) (out:=λn=>.int (n/(cX ns:Int))) (caps:=[1]) (im:=listI (aa 0)) (e:=aq gw (aa 0) (aa 1)) (k:=none) (s:=⟨[some (vI ns),some (.int (cX ns:Nat))],[]⟩) (by simp) trivial (by omega) (λa _=>by
   simp[mW (show (cX ns:Int)≠0 by omega),vK (show (0:Int)<cX ns by omega)])
  refine dR (R:=[some (vI ns),some (.int (cX ns:Nat))]) ?_
  show om ⟨[some (vI ns),none],[]⟩=_
  rw[om]
  refine aV e1 (aV (cU (eq_test (ag rfl)) (decide_eq_false (by omega)) (bC _)) (bD (hc.trans ?_)))
  rw[show (low ns).map D.int=ns.map λn=>.int (n/(cX ns:Int)) by unfold low;rw[if_neg h,wp];rfl]
  rfl
theorem Fd{one other:List Int}{v w:Int}(hl:one.length<=1000000)(h1:∀a∈one,IntMulOk a w)(h2:∀b∈other,IntMulOk b v):ot [vI one,.int v,vI other,.int w] []=.ok (.ptr 0,[.lst ((dw one v other w).map D.int)]):=by
 have hz:(one.zip other).length<=1000000:=by rw[Qq];omega
 have hc:=Ex (l:=one.zip other) (f:=λp=>.int p.1) (g:=λp=>.int p.2) (out:=λp=>.int (p.1*w-p.2*v)) (caps:=[1,3]) (im:=sP (af (aa 0) (af (aa 2) ao))) (e:=aq gX (aq bR (aa 0) (aa 3)) (aq bR (aa 1) (aa 2))) (k:=none) (s:=⟨[some (vI one),some (.int v),some (vI other),some (.int w),none],[]⟩) (by simp[sL]) trivial (by omega) (λp hp=>by
  have U:=Ps hp
  simp[cC (h1 p.1 U.1),cC (h2 p.2 U.2)])
 rw[show (one.zip other).map (λp=>D.int (p.1*w-p.2*v))=(j9 one v other w).map D.int by rw[j9,<- zip_map];simp] at hc
 have Y:(j9 one v other w).length<=1000000:=by unfold j9;rw[Qf];omega
 refine dR (R:=[some (vI one),some (.int v),some (vI other),some (.int w),some (vI (j9 one v other w))]) ?_
 show v7 ⟨[some (vI one),some (.int v),some (vI other),some (.int w),none],[]⟩=_
 rw[v7]
 exact aV (t8 hc) (bD (kB (ax (ag rfl) (aA _)) (zi _ Y) (kG _) rfl (iU _ _) (by
  simp only[AC,PB,Db,jG,kx]
  rfl)))
theorem Ga(a b:Nat):orD O (.int (a:Int)) (.int (b:Int))=.ok (.int ((a|||b:Nat):Int)):=by
 have e:Builtin.bitOr (a:Int) (b:Int)=((a|||b:Nat):Int):=by
  unfold Builtin.bitOr Builtin.bitAnd Builtin.bitNot
  rw[decide_eq_false (show ¬(0:Int)<= -(a:Int)-1 by omega),decide_eq_false (show ¬(0:Int)<= -(b:Int)-1 by omega)]
  dsimp only
  rw[show (-(-(a:Int)-1)-1).toNat=a by omega,show (-(-(b:Int)-1)-1).toNat=b by omega]
  omega
 show Res.ok (D.int (Builtin.bitOr (a:Int) (b:Int)))=_
 rw[e]
theorem AN(a b:Nat):gE [.int (a:Int),.int (b:Int)] []=.ok (.bl (decide (a|||b=b)),[]):=by
 refine dR (R:=[some (.int (a:Int)),some (.int (b:Int))]) ?_
 show rf ⟨[some (.int (a:Int)),some (.int (b:Int))],[]⟩=_
 rw[rf]
 refine bD (aH (aH (ag rfl) (ag rfl) (Ga a b)) (ag rfl) ?_)
 rw[lW]
 congr 3
 rw[eq_iff_iff]
 omega
abbrev vN(l:List Nat):D:=.lst (l.map λx:Nat=>D.int (x:Int))
theorem JA(l:List Nat):aM (l.map λx:Nat=>D.int (x:Int))=true:=by
 induction l with
 | nil=>simp
 | cons a l U=>simp[U]
theorem HY{a b:Nat}{pl:List Nat}(U:pl.length<=1000):gj [.int (a:Int),.int (b:Int),vN pl] []=.ok (.bl ((pl.filter λx=>decide (x|||(a|||b)=a|||b)).length == 2),[]):=by
 have hc:=C2 (l:=pl) (item:=λx:Nat=>D.int (x:Int)) (out:=λx:Nat=>D.int (x:Int)) (p:=λx=>decide (x|||(a|||b)=a|||b)) (caps:=[3]) (im:=listI (aa 2)) (c:=a7 (aN 2 gE (af (aa 0) (af (aa 1) ao)))) (e:=aa 0) (k:=none) (s:=⟨[some (.int (a:Int)),some (.int (b:Int)),some (vN pl),some (.int ((a|||b:Nat):Int))],[]⟩) (by
  rw[cv,ag (i:=2) rfl,ak];rfl) trivial (by omega) (λx _=>cK (c7 (ax (ag rfl) (ax (ag rfl) (aA _))) (AN x (a|||b)) (by simp) rfl (by simp))) (λx _ _=>ag rfl)
 refine dR (R:=[some (.int (a:Int)),some (.int (b:Int)),some (vN pl),some (.int ((a|||b:Nat):Int))]) ?_
 show kh ⟨[some (.int (a:Int)),some (.int (b:Int)),some (vN pl),none],[]⟩=_
 rw[kh]
 refine aV (bh (aH (ag rfl) (ag rfl) (Ga a b)) rfl) (bD (aH (cL (ax hc (aA _)) (fQ _)) (ay _ _) ?_))
 rw[lW,ut]
 congr 2
 rw[Qa,decide_eq_true_eq,beq_iff_eq]
 omega
theorem sM:dh [vI x] []=.ok (.int (cF x:Nat),[]):=by
 have go:∀(l:List Int) (b:Nat) (z:Option D),∃U,cD (okC (x.map D.int) none) (aF 2) nA (l.map D.int) ⟨[some (vI x),some (.int (b:Int)),z],[]⟩=.next ⟨[some (vI x),some (.int ((l.foldl (λb y=>b*2+if 0<y then 1 else 0) b:Nat):Int)),U],[]⟩:=by
  intro l
  induction l with
  | nil=>intro b z;exact⟨z,by rw[PB,cD,if_pos (show okC (x.map D.int) none _ from trivial)];rfl⟩
  | cons y l Y=>
   intro b z
   obtain⟨U,e⟩:=Y (b*2+if 0<y then 1 else 0) (some (.int y))
   refine⟨U, ?_⟩
   rw[AC,Qp]
   refine M2 (jI (s1:=⟨[some (vI x),some (.int (b:Int)),some (.int y)],[]⟩) (s2:=⟨[some (vI x),some (.int ((b*2+if 0<y then 1 else 0:Nat):Int)),some (.int y)],[]⟩) trivial rfl ?_) e
   rw[nA]
   refine aV (bh (R':=[some (vI x),some (.int ((b:Int)*2)),some (.int y)]) (aH (ag rfl) (ay _ _) (cC (dS (.inr (by decide))))) rfl) ?_
   by_cases hy:0<y
   ·refine fK (jH (ag rfl)) (decide_eq_true hy) (bh (d:=.int ((b*2+if 0<y then 1 else 0:Nat):Int)) (R:=[some (vI x),some (.int ((b:Int)*2)),some (.int y)]) (aH (ag rfl) (ay _ _) ?_) rfl)
    rw[bV,if_pos hy]
    congr 2
   ·refine cU (jH (ag rfl)) (decide_eq_false hy) ((bC _).trans ?_)
    rw[if_neg hy,show ((b*2+0:Nat):Int)=(b:Int)*2 by omega]
 obtain⟨U,e⟩:=go x 0 none
 refine dR (R:=[some (vI x),some (.int (cF x:Nat)),U]) ?_
 show pR ⟨[some (vI x),none,none],[]⟩=_
 rw[pR]
 refine aV (bh (R':=[some (vI x),some (.int ((0:Nat):Int)),none]) (ay _ _) rfl) (aV ?_ (bD (ag rfl)))
 exact(dW (im:=listI (aa 0)) (ds:=x.map D.int) (k:=none) (s1:=⟨[some (vI x),some (.int ((0:Nat):Int)),none],[]⟩) (by rw[cv,ag (i:=0) rfl,ak];rfl)).trans e
theorem ux{α:Type}{f:α->D}{l:List α}{a:α}(h:l[i]? =some a):ixD O (.lst (l.map f)) (.int (i:Int))=.ok (f a):=by
 have hi:i<l.length:=by
  by_cases z:i<l.length
  ·exact z
  ·rw[QK (by omega)] at h;cases h
 refine nY ?_
 rw[oB (by simpa using hi)]
 rw[uX hi] at h
 cases h
 simp
structure Wrk(n:Nat)(L:List (Nat×List Int))(row:List Int)(b:Nat):Prop where
 len:∀p∈L,p.2.length=n
 nn:∀p∈L,∀i,0<=nth p.2 i
 few:L.length<64
 rl:row.length=n
 n7:n<=1000
 sz:gQ b (L.map (·.2))
 rz:SzL b row
 bb:2*b+20<=60000000
theorem Wrk.dz(h:Wrk n L row b){p:Nat×List Int}(hp:p∈L):Sz (b+b+10) (aP row p.2):=wG h.rz (h.sz _ (KE hp)) (by rw[h.rl];exact h.n7)
theorem Nm(h:Wrk n L row b){p q:Nat×List Int}(hp:p∈L)(hq:q∈L):(((L.map λx=>cF x.2).filter λx=>decide (x|||(cF p.2|||cF q.2)=cF p.2|||cF q.2)).length == 2)=nbB n (L.map (·.2)) p.2 q.2:=by
 unfold nbB
 rw[Qs,ut,Qs,ut]
 congr 2
 refine List.filter_congr λx hx=> ?_
 show decide (cF x.2|||(cF p.2|||cF q.2)=cF p.2|||cF q.2)=subB n x.2 p.2 q.2
 exact bits_sub (h.len x hx) (h.len p hp) (h.len q hq) (h.nn x hx) (h.nn p hp) (h.nn q hq)
structure Iv(L T:List (Nat×List Int))(t:Nat)(O:aB):Prop where
 told:O[t]? =some (.lst (cR T))
 l:Sto O L
 s:Sto O T
 tn:∀p∈T,p.1≠t
 ln:∀p∈L,p.1≠t
abbrev mR(L:List (Nat×List Int))(row:List Int)(t:Nat)(ab bl:List Nat)(x7 x8:Option D):List (Option D):=[some (.lst (cR L)),some (vI row),some (.lst (L.map λp=>.int (aP row p.2))),some (vN (L.map λp=>cF p.2)),some (.ptr t),some (vN ab),some (vN bl),x7,x8]
theorem AB{n:Nat}{L:List (Nat×List Int)}{row:List Int}{b t:Nat}{ab bl:List Nat}(h:Wrk n L row b){U:(Nat×List Int)×Nat}(hh:L[U.2]? =some U.1)(K:List D):∀(Y:List ((Nat×List Int)×Nat)) (T:List (Nat×List Int)) (O:aB) (x8:Option D),(∀q∈Y,L[q.2]? =some q.1)->T.length+Y.length<=100000->Iv L T t O->
 ∃T' O' y8,cD (okC K none) (aF 8) f6 (Y.map λq=>D.int (q.2:Int)) ⟨mR L row t ab bl (some (.int (U.2:Int))) x8,O⟩=.next ⟨mR L row t ab bl (some (.int (U.2:Int))) y8,O'⟩/\Iv L T' t O'/\T'.length<=T.length+Y.length/\
  T'.map (·.2)=T.map (·.2)++((Y.filter λq=>nbB n (L.map (·.2)) U.1.2 q.1.2).map λq=>dw q.1.2 (aP row q.1.2) U.1.2 (aP row U.1.2))
 | [],T,O,x8,_,_,iv=>⟨T,O,x8,by rw[PB,cD,if_pos (show okC K none _ from trivial)],iv,by simp,by simp⟩
 | q::Y,T,O,x8,hb,hl,iv=>by
  have hq:=hb q wv
  have mh:U.1∈L:=No hh
  have mq:q.1∈L:=No hq
  have hb':=λz hz=>hb z (wh _ hz)
  rw[wE] at hl
  have az:a7 (aN 3 gj (af (aq ixD (aa 3) (aa 7)) (af (aq ixD (aa 3) (aa 8)) (af (aa 3) ao)))) ⟨mR L row t ab bl (some (.int (U.2:Int))) (some (.int (q.2:Int))),O⟩=.ok (nbB n (L.map (·.2)) U.1.2 q.1.2,⟨mR L row t ab bl (some (.int (U.2:Int))) (some (.int (q.2:Int))),O⟩):=by
   rw[<- Nm h mh mq]
   refine cK (c7 (ax (aH (ag rfl) (ag rfl) (ux (f:=λx:Nat=>D.int (x:Int)) (l:=L.map λp=>cF p.2) (a:=cF U.1.2) (by rw[xL,hh];rfl))) (ax (aH (ag rfl) (ag rfl) (ux (f:=λx:Nat=>D.int (x:Int)) (l:=L.map λp=>cF p.2) (a:=cF q.1.2) (by rw[xL,hq];rfl))) (ax (ag rfl) (aA _)))) (HY (by rw[ut];have:=h.few;omega)) ?_ rfl (by simp))
   rw[eK,eK,eK,DT,yi,yi,jv,JA];rfl
  rw[AC]
  cases hn:nbB n (L.map (·.2)) U.1.2 q.1.2 with
  | false=>
   obtain⟨T',O',y8,e,a1,a2,a3⟩:=AB h hh K Y T O (some (.int (q.2:Int))) hb' (by omega) iv
   refine⟨T',O',y8, ?_,a1,by rw[wE];omega,by rw[a3,Pq (by rw[hn];decide)]⟩
   refine M2 (jI (s1:=⟨mR L row t ab bl (some (.int (U.2:Int))) (some (.int (q.2:Int))),O⟩) (s2:=⟨mR L row t ab bl (some (.int (U.2:Int))) (some (.int (q.2:Int))),O⟩) trivial rfl ?_) e
   rw[f6]
   exact cU az hn (bC _)
  | true=>
   have zq:=h.sz _ (KE (f:=(·.2)) mq)
   have zh:=h.sz _ (KE (f:=(·.2)) mh)
   have off:=Fd (one:=q.1.2) (other:=U.1.2) (v:=aP row q.1.2) (w:=aP row U.1.2) (by rw[h.len _ mq];have:=h.n7;omega) (λa ha=>iF (by have:=h.bb;omega) (by have:=h.bb;omega) (zq a ha) (h.dz mh)) (λa ha=>iF (by have:=h.bb;omega) (by have:=h.bb;omega) (zh a ha) (h.dz mq))
   have call:xk 4 ot (af (aq ixD (aa 0) (aa 8)) (af (aq ixD (aa 2) (aa 8)) (af (aq ixD (aa 0) (aa 7)) (af (aq ixD (aa 2) (aa 7)) ao)))) ⟨mR L row t ab bl (some (.int (U.2:Int))) (some (.int (q.2:Int))),O⟩=.ok (.ptr O.length,⟨mR L row t ab bl (some (.int (U.2:Int))) (some (.int (q.2:Int))),O++[.lst ((dw q.1.2 (aP row q.1.2) U.1.2 (aP row U.1.2)).map D.int)]⟩):=by
    refine KH (ax (aH (ag rfl) (ag rfl) (ux (f:=λp:Nat×List Int=>D.ptr p.1) hq)) (ax (aH (ag rfl) (ag rfl) (ux (f:=λp:Nat×List Int=>D.int (aP row p.2)) hq)) (ax (aH (ag rfl) (ag rfl) (ux (f:=λp:Nat×List Int=>D.ptr p.1) hh)) (ax (aH (ag rfl) (ag rfl) (ux (f:=λp:Nat×List Int=>D.int (aP row p.2)) hh)) (aA _))))) (rs:=[vI q.1.2,.int (aP row q.1.2),vI U.1.2,.int (aP row U.1.2)]) ?_ off (by simp) rfl rfl ?_ (iU _ _) ?_
    ·simp only[jl,kj,lO (iv.l _ mq),lO (iv.l _ mh),JP,ky,jy]
    ·simp[zQ,uz]
    ·simp
   have bi:Iv L (T++[(O.length,dw q.1.2 (aP row q.1.2) U.1.2 (aP row U.1.2))]) t ((O++[Cell.lst ((dw q.1.2 (aP row q.1.2) U.1.2 (aP row U.1.2)).map D.int)]).set t (Cell.lst (cR T++[D.ptr O.length]))):=by
    have tl:=oj iv.told
    have ae:(O++[Cell.lst ((dw q.1.2 (aP row q.1.2) U.1.2 (aP row U.1.2)).map D.int)])[t]? =some (.lst (cR T)):=eZ iv.told
    refine⟨by rw[eQ ae];simp[cR],(iv.l.app _).set iv.ln _,λp hp=> ?_,λp hp=> ?_,iv.ln⟩
    ·rcases xz.mp hp with hp | hp
     ·exact((iv.s.app _).set iv.tn _) p hp
     ·rw[ww.mp hp]
      dsimp only
      rw[cN (by omega)]
      simp
    ·rcases xz.mp hp with hp | hp
     ·exact iv.tn p hp
     ·rw[ww.mp hp];dsimp only;omega
   obtain⟨T',O',y8,e,a1,a2,a3⟩:=AB h hh K Y (T++[(O.length,dw q.1.2 (aP row q.1.2) U.1.2 (aP row U.1.2))]) _ (some (.int (q.2:Int))) hb' (by rw[FS,IN];omega) bi
   refine⟨T',O',y8, ?_,a1,by rw[FS,IN] at a2;rw[wE];omega,by rw[a3,Pj (p:=λq:(Nat×List Int)×Nat=>nbB n (L.map (·.2)) U.1.2 q.1.2) (a:=q) (l:=Y) hn,Fa,AC,Pz];rfl⟩
   refine M2 (jI (s1:=⟨mR L row t ab bl (some (.int (U.2:Int))) (some (.int (q.2:Int))),O⟩) (s2:=⟨mR L row t ab bl (some (.int (U.2:Int))) (some (.int (q.2:Int))),(O++[Cell.lst ((dw q.1.2 (aP row q.1.2) U.1.2 (aP row U.1.2)).map D.int)]).set t (Cell.lst (cR T++[D.ptr O.length]))⟩) trivial rfl ?_) e
   rw[f6]
   exact fK az hn (cy (mz (ag rfl) iv.told call (eZ iv.told) (by rw[ut];omega) rfl))
theorem CL{n:Nat}{L:List (Nat×List Int)}{row:List Int}{b t:Nat}{ab:List Nat}{U:List ((Nat×List Int)×Nat)}(h:Wrk n L row b)(hB:∀q∈U,L[q.2]? =some q.1)(an:U.length<=64)(K:List D):∀(As:List ((Nat×List Int)×Nat)) (T:List (Nat×List Int)) (O:aB) (x7 Y:Option D),(∀q∈As,L[q.2]? =some q.1)->T.length+As.length*64<=10000->Iv L T t O->
 ∃T' O' y7 y8,cD (okC K none) (aF 7) iC (As.map λq=>D.int (q.2:Int)) ⟨mR L row t ab (U.map (·.2)) x7 Y,O⟩=.next ⟨mR L row t ab (U.map (·.2)) y7 y8,O'⟩/\Iv L T' t O'/\
  T'.map (·.2)=T.map (·.2)++As.flatMap λa=>(U.filter λq=>nbB n (L.map (·.2)) a.1.2 q.1.2).map λq=>dw q.1.2 (aP row q.1.2) a.1.2 (aP row a.1.2)
 | [],T,O,x7,Y,_,_,iv=>⟨T,O,x7,Y,by rw[PB,cD,if_pos (show okC K none _ from trivial)],iv,by simp⟩
 | a::As,T,O,x7,Y,hA,hl,iv=>by
  rw[wE] at hl
  obtain⟨T1,O1,y8,e1,i1,l1,m1⟩:=AB (ab:=ab) (bl:=U.map (·.2)) h (hA a wv) ((U.map (·.2)).map λx:Nat=>D.int (x:Int)) U T O Y hB (by omega) iv
  obtain⟨T2,O2,z7,z8,e2,i2,m2⟩:=CL (ab:=ab) h hB an K As T1 O1 (some (.int (a.2:Int))) y8 (λq hq=>hA q (wh _ hq)) (by omega) i1
  refine⟨T2,O2,z7,z8, ?_,i2,by rw[m2,m1,List.flatMap_cons,Pz]⟩
  rw[AC]
  refine M2 (jI (s1:=⟨mR L row t ab (U.map (·.2)) (some (.int (a.2:Int))) Y,O⟩) (s2:=⟨mR L row t ab (U.map (·.2)) (some (.int (a.2:Int))) y8,O1⟩) trivial rfl ?_) e2
  rw[iC]
  refine(dW (im:=listI (aa 6)) (ds:=(U.map (·.2)).map λx:Nat=>D.int (x:Int)) (k:=none) (s1:=⟨mR L row t ab (U.map (·.2)) (some (.int (a.2:Int))) Y,O⟩) (by rw[cv,ag (i:=6) rfl,ak];rfl)).trans ?_
  rw[wp] at e1 ⊢
  exact e1
theorem JM {α:Type} {caps:List Nat} {im:IM} {c:TM} {e:EM} {k:Option Nat} {l:List α} {p:α->Bool} {out:α->D} {f g:α->D} (U:im s=.ok ((l.map (λa=>D.tup [f a,g a]),k),s)) (Y:okC (l.map (λa=>D.tup [f a,g a])) k s.o) (hl:l.length<=16777216)
 (hc:∀a∈l,c ⟨some (f a)::some (g a)::caps.map (λi=>(s.r[i]?).getD none),s.o⟩=.ok (p a,⟨some (f a)::some (g a)::caps.map (λi=>(s.r[i]?).getD none),s.o⟩))
 (he:∀a∈l,p a=true->e ⟨some (f a)::some (g a)::caps.map (λi=>(s.r[i]?).getD none),s.o⟩=.ok (out a,⟨some (f a)::some (g a)::caps.map (λi=>(s.r[i]?).getD none),s.o⟩)):
 g9 2 caps im (cQ (aZ (aF 0) (aZ (aF 1) cS)) 2) c e s=.ok (.ptr s.o.length,⟨s.r,s.o++[.lst ((l.filter p).map out)]⟩):=by
 rw[AJ,Bt U Y hl hc he,ak]
theorem G6{α:Type}(f g:α->D):∀l:List α,j4 (l.map f) (l.map g)=l.map λa=>.tup [f a,g a]:=λl=>by
 unfold j4
 rw[SN,List.zipWith_self]
theorem Bi{α:Type}(p:α->Bool)(l:List α):(l.zipIdx.filter λq=>p q.1).map (·.1)=l.filter p:=by
 have h:(l.zipIdx.map (·.1))=l:=by simp
 conv=>rhs;rw[<- h,Qs]
 rfl
theorem Jz(h:Wrk n L row b)(hs:Sto O L):∃L' O',gP [.lst (cR L),vI row] O=.ok (.lst (cR L'),O')/\L'.map (·.2)=dP n (L.map (·.2)) row/\Sto O' L':=by
 have few:=h.few
 have dz:∀p∈L,bX [vI row,vI p.2] []=.ok (.int (aP row p.2),[]):=λp hp=>AW (by rw[h.rl];have:=h.n7;omega) λq hq=>iF (by have:=h.bb;omega) (by have:=h.bb;omega) (h.rz _ (Ps hq).1) (h.sz _ (KE hp) _ (Ps hq).2)
 have v2:=du (l:=L) (item:=λp=>.ptr p.1) (out:=λp=>.int (aP row p.2)) (caps:=[1]) (im:=listI (aa 0)) (e:=fL 2 bX (af (aa 1) (af (aa 0) ao))) (k:=none) (s:=⟨[some (.lst (cR L)),some (vI row),none,none,none,none,none,none,none],O⟩) (by rw[cv,ag (i:=0) rfl,ak];rfl) trivial (by omega)
  (λp hp=>ql (ax (ag rfl) (ax (ag rfl) (aA _))) (rs:=[vI row,vI p.2]) (by simp only[jl,kj,lO (hs p hp),ky,jy]) (dz p hp) (by simp) rfl rfl)
 have v3:=du (l:=L) (item:=λp=>.ptr p.1) (out:=λp=>.int (cF p.2:Nat)) (caps:=[]) (im:=listI (aa 0)) (e:=fL 1 dh (af (aa 0) ao)) (k:=none) (s:=⟨[some (.lst (cR L)),some (vI row),some (.lst (L.map λp=>.int (aP row p.2))),none,none,none,none,none,none],O⟩) (by rw[cv,ag (i:=0) rfl,ak];rfl) trivial (by omega)
  (λp hp=>ql (ax (ag rfl) (aA _)) (rs:=[vI p.2]) (by simp only[jl,kj,lO (hs p hp),ky,jy]) sM (by simp) rfl rfl)
 rw[show (L.map λp=>D.int (cF p.2:Nat))=(L.map λp=>cF p.2).map (λx:Nat=>D.int (x:Int)) by rw[wp];rfl] at v3
 have v4:=JM (l:=L) (f:=λp=>.ptr p.1) (g:=λp=>.int (aP row p.2)) (p:=λp=>decide (aP row p.2=0)) (out:=λp=>.ptr p.1) (caps:=[]) (im:=sP (af (aa 0) (af (aa 2) ao))) (c:=a7 (aq eqD (aa 1) (ar (.int 0)))) (e:=aa 0) (k:=none) (s:=⟨[some (.lst (cR L)),some (vI row),some (.lst (L.map λp=>.int (aP row p.2))),some (vN (L.map λp=>cF p.2)),none,none,none,none,none],O⟩) (by
  rw[J8,a8,ag (i:=0) rfl,ak]
  dsimp only
  rw[a8,ag (i:=2) rfl,ak]
  dsimp only
  rw[aA,ak,ak,ak]
  dsimp only
  rw[G6]) trivial (by omega) (λp _=>cK (aH (ag rfl) (ay _ _) (lW _ _))) (λp _ _=>ag rfl)
 have Y:∀(R:List (Option D)) (P:aB),R[2]? =some (some (.lst (L.map λp=>.int (aP row p.2))))->cZ (af (aa 2) ao) ⟨R,P⟩=.ok ((L.zipIdx.map λq=>D.tup [.int (q.2:Int),.int (aP row q.1.2)],none),⟨R,P⟩):=λR P hR=>by
  rw[iH,a8,ag (i:=2) hR,ak]
  dsimp only
  rw[aA,ak,ak]
  dsimp only
  rw[show dN (L.map λp=>D.int (aP row p.2))=L.zipIdx.map λq=>D.tup [.int (q.2:Int),.int (aP row q.1.2)] by
   unfold dN
   rw[QR,R4,wp]
   rfl]
 have zl:L.zipIdx.length=L.length:=by simp
 have vn:∀Z:List ((Nat×List Int)×Nat),(Z.map λq=>D.int (q.2:Int))=(Z.map (·.2)).map λx:Nat=>D.int (x:Int):=λZ=>by rw[wp];rfl
 have v5:=CK (l:=L.zipIdx) (f:=λq=>.int (q.2:Int)) (g:=λq=>.int (aP row q.1.2)) (p:=λq=>decide (0<aP row q.1.2)) (out:=λq=>.int (q.2:Int)) (caps:=[]) (im:=cZ (af (aa 2) ao)) (c:=a7 (aq gtD (aa 1) (ar (.int 0)))) (e:=aa 0) (k:=none) (s:=⟨[some (.lst (cR L)),some (vI row),some (.lst (L.map λp=>.int (aP row p.2))),some (vN (L.map λp=>cF p.2)),some (.ptr O.length),none,none,none,none],O++[.lst ((L.filter λp=>decide (aP row p.2=0)).map λp=>.ptr p.1)]⟩) (Y _ _ rfl) trivial (by omega) (λq _=>cK (aH (ag rfl) (ay _ _) (xJ _ _))) (λq _ _=>ag rfl)
 generalize hA:(L.zipIdx.filter λq=>decide (0<aP row q.1.2))=U at v5
 rw[vn] at v5
 have v6:=CK (l:=L.zipIdx) (f:=λq=>.int (q.2:Int)) (g:=λq=>.int (aP row q.1.2)) (p:=λq=>decide (aP row q.1.2<0)) (out:=λq=>.int (q.2:Int)) (caps:=[]) (im:=cZ (af (aa 2) ao)) (c:=a7 (aq ltD (aa 1) (ar (.int 0)))) (e:=aa 0) (k:=none) (s:=⟨[some (.lst (cR L)),some (vI row),some (.lst (L.map λp=>.int (aP row p.2))),some (vN (L.map λp=>cF p.2)),some (.ptr O.length),some (vN (U.map (·.2))),none,none,none],O++[.lst ((L.filter λp=>decide (aP row p.2=0)).map λp=>.ptr p.1)]⟩) (Y _ _ rfl) trivial (by omega) (λq _=>cK (aH (ag rfl) (ay _ _) (iP _ _))) (λq _ _=>ag rfl)
 generalize hB:(L.zipIdx.filter λq=>decide (aP row q.1.2<0))=Bs at v6
 rw[vn] at v6
 have at_:∀q∈L.zipIdx,L[q.2]? =some q.1:=λq hq=>List.mem_zipIdx_iff_getElem?.mp hq
 have mA:∀q∈U,L[q.2]? =some q.1:=λq hq=>at_ q (by rw[<- hA] at hq;exact(Fk.mp hq).1)
 have mB:∀q∈Bs,L[q.2]? =some q.1:=λq hq=>at_ q (by rw[<- hB] at hq;exact(Fk.mp hq).1)
 have lA:U.length<=L.length:=by rw[<- hA,<- zl];exact QL _ _
 have lB:Bs.length<=L.length:=by rw[<- hB,<- zl];exact QL _ _
 have sub:∀p∈L.filter (λp=>decide (aP row p.2=0)),p∈L:=λp hp=>(Fk.mp hp).1
 have lT:(L.filter λp=>decide (aP row p.2=0)).length<=L.length:=QL _ _
 have iv:Iv L (L.filter λp=>decide (aP row p.2=0)) O.length (O++[.lst ((L.filter λp=>decide (aP row p.2=0)).map λp=>.ptr p.1)]):=⟨by simp,hs.app _,λp hp=>(hs.app _) p (sub p hp),λp hp=>Do (hs.lt (sub p hp)),λp hp=>Do (hs.lt hp)⟩
 obtain⟨T',O',y7,y8,e7,i7,m7⟩:=CL (ab:=U.map (·.2)) h mB (by omega) ((U.map (·.2)).map λx:Nat=>D.int (x:Int)) U _ _ none none mA (by omega) iv
 refine⟨T',O'.set O.length .dead, ?_, ?_,i7.s.set i7.tn _⟩
 ·refine dR (R:=mR L row O.length (U.map (·.2)) (Bs.map (·.2)) y7 y8) ?_
  show jk ⟨[some (.lst (cR L)),some (vI row),none,none,none,none,none,none,none],O⟩=_
  rw[jk]
  refine aV (bh v2 rfl) (aV (bh v3 rfl) (aV (bh v4 rfl) (aV (bh v5 rfl) (aV (bh v6 rfl) (aV ?_ (bD (my (ag rfl) i7.told rfl)))))))
  refine(dW (im:=listI (aa 5)) (ds:=(U.map (·.2)).map λx:Nat=>D.int (x:Int)) (k:=none) (s1:=⟨mR L row O.length (U.map (·.2)) (Bs.map (·.2)) none none,O++[.lst ((L.filter λp=>decide (aP row p.2=0)).map λp=>.ptr p.1)]⟩) (by rw[cv,ag (i:=5) rfl,ak];rfl)).trans ?_
  rw[<- vn]
  exact e7
 ·rw[m7]
  unfold dP
  rw[Qs,Qs,Qs]
  have eA:=Bi (λp:Nat×List Int=>decide (0<aP row p.2)) L
  have eB:=Bi (λp:Nat×List Int=>decide (aP row p.2<0)) L
  rw[hA] at eA
  rw[hB] at eB
  show _=(L.filter λp=>decide (aP row p.2=0)).map (·.2)++((L.filter λp:Nat×List Int=>decide (0<aP row p.2)).map (·.2)).flatMap λh=>(((L.filter λp:Nat×List Int=>decide (aP row p.2<0)).map (·.2)).filter λw=>nbB n (L.map (·.2)) h w).map λw=>dw w (aP row w) h (aP row h)
  rw[<- eA,<- eB]
  congr 1
  rw[SS,SS]
  refine congrArg (λF=>U.flatMap F) (funext λa=> ?_)
  rw[wp,Qs,wp]
  rfl
theorem Gn {α:Type} {l:List α} {item:α->D} {f:α->List Int} {T:α->Nat->Prop} {caps:List Nat} {im:IM} {e:EM} {k:Option Nat} (I:aB->Prop) (hI:∀O E,I O->I (O++E)) (h0:I O) (U:im ⟨R,O⟩=.ok ((l.map item,k),⟨R,O⟩)) (Y:∀O,I O->okC (l.map item) k O) (hl:l.length<=1000000)
 (he:∀a∈l,∀O,I O->∃q E,e ⟨some (item a)::caps.map (λi=>(R[i]?).getD none),O⟩=.ok (.ptr q,⟨some (item a)::caps.map (λi=>(R[i]?).getD none),O++E⟩)/\(O++E)[q]? =some (.lst ((f a).map D.int))/\(T a q\/O.length<=q)):
 ∃(L:List (Nat×List Int)) (E:aB),bx 1 caps im (aF 0) bj e ⟨R,O⟩=.ok (.lst (cR L),⟨R,O++E⟩)/\L.map (·.2)=l.map f/\Sto (O++E) L:=by
 obtain⟨L,E,x',e1,e2,e3,e4⟩:=wm (ok:=okC (l.map item) k) (e:=e) (cap:=caps.map (λi=>(R[i]?).getD none)) (T:=T) I hI Y l [] none O h0 (by simp;omega) he
 refine⟨L,E, ?_,e2,e3⟩
 rw[o5,vE,U,ak]
 dsimp only
 rw[show m8 1 caps R=none::caps.map (λi=>(R[i]?).getD none) from rfl,e1,ak,ak]
 rfl
theorem KU{n a:Nat}(ha:a<n)(hn:n<=1000000):tf [.int (a:Int),.int (n:Int)] []=.ok (.ptr 0,[.lst ((g7 n a).map D.int)]):=by
 have h1:=t8 (i:=2) (M2 (Nt (fin:=sW) (mk:=aa 1) (s:=⟨[some (.int (a:Int)),some (.int (n:Int)),none],[]⟩) (n:=n) (by simp) hn) (C3 _ _))
 have h2:kc (ar (.int 1)) (vV (aa 2) (aa 0)) ⟨[some (.int (a:Int)),some (.int (n:Int)),some (.ptr 0)],[.lst ((tz n (0:Int)).map D.int)]⟩=.next ⟨[some (.int (a:Int)),some (.int (n:Int)),some (.ptr 0)],[.lst ((g7 n a).map D.int)]⟩:=by
  rw[CG,ay,ak,BQ (k:=0) (a:=a) (ds:=(tz n (0:Int)).map D.int) (s1:=⟨[some (.int (a:Int)),some (.int (n:Int)),some (.ptr 0)],[.lst ((tz n (0:Int)).map D.int)]⟩) (s2:=⟨[some (.int (a:Int)),some (.int (n:Int)),some (.ptr 0)],[.lst ((tz n (0:Int)).map D.int)]⟩) (by simp) (by simp) rfl (by simpa using ha)]
  simp[g7,To]
 refine dR (R:=[some (.int (a:Int)),some (.int (n:Int)),some (.ptr 0)]) ?_
 show AY ⟨[some (.int (a:Int)),some (.int (n:Int)),none],[]⟩=_
 rw[AY,dU h1]
 exact aV h2 (bD (ag rfl))
theorem Hf(hn:n<=1000)(O:aB):∃L E,uC [.int (n:Int)] O=.ok (.lst (cR L),O++E)/\L.map (·.2)=jd n/\Sto (O++E) L:=by
 obtain⟨L,E,e,h1,h2⟩:=Gn (l:=u8 n) (item:=λi:Nat=>D.int (i:Int)) (f:=g7 n) (T:=λ_ _=>False) (caps:=[0]) (im:=cH (af (aa 0) ao)) (e:=fe 2 tf (af (aa 0) (af (aa 1) ao))) (k:=none) (R:=[some (.int (n:Int))]) (O:=O) (λ_=>True) (λ_ _ _=>trivial) trivial (by
  rw[dy (n:=n) (s1:=⟨[some (.int (n:Int))],O⟩) (ax (ag rfl) (aA _)) (by omega),eC]) (λ_ _=>trivial) (by rw[QZ];omega) (λa ha P _=>
  ⟨P.length,[.lst ((g7 n a).map D.int)],kB (ax (ag rfl) (ax (ag rfl) (aA _))) (KU (Pm.mp ha) (by omega)) (by simp) rfl (iU _ _) (by simp),by simp,.inr (wf _)⟩)
 refine⟨L,E, ?_,h1,h2⟩
 refine dR (R:=[some (.int (n:Int))]) ?_
 show xC ⟨[some (.int (n:Int))],O⟩=_
 rw[xC]
 exact bD e
theorem wA{O:aB}:∀{L:List (Nat×List Int)},Sto O L->keyed O (cR L)=some (L.map λp=>(.ptr p.1,p.2))
 | [],_=>rfl
 | p::L,h=>by
  have e:=wA (L:=L) λq hq=>h q (wh _ hq)
  have c:pA O (.ptr p.1)=some p.2:=by
   unfold pA
   rw[kD (h p wv)]
   exact rE _
  show keyed O (.ptr p.1::cR L)=_
  unfold keyed
  rw[c,e]
  rfl
theorem FW(L:List (Nat×List Int)):(d9 (L.map λp=>(D.ptr p.1,p.2))).map (·.1)=cR (d9 L):=by
 rw[m4 (g:=λp:Nat×List Int=>(D.ptr p.1,p.2)) λ_=>rfl,wp]
 rfl
theorem vO{O:aB}{fin:S->List D->Res (D×S)}(U:me s=.ok (d,s1))(hd:lsD s1.o d=some (cR L))(Y:Sto s1.o L)(hl:L.length<64)(nd:(L.map (·.2)).Nodup):ui fin me s=fin s1 (cR (d9 L)):=by
 unfold ui
 rw[U,ak]
 dsimp only
 rw[hd]
 dsimp only
 rw[wA Y]
 dsimp only
 rw[if_pos ⟨by rw[ut];exact hl,by rw[wp];exact nd⟩,FW]
def wQ(V:List (List Int)):List (List Int):=(d9 (V.map λx=>((),x))).map (·.2)
theorem FT(L:List (Nat×List Int)):(d9 L).map (·.2)=wQ (L.map (·.2)):=by
 unfold wQ
 rw[wp,show ((λx:List Int=>((),x))∘λx:Nat×List Int=>x.2)=λp:Nat×List Int=>((),p.2) from rfl,m4 (g:=λp:Nat×List Int=>((),p.2)) λ_=>rfl,wp]
 rfl
theorem EU(n:Nat):gQ 1 (jd n):=λx hx=>by
 unfold jd at hx
 obtain⟨a,_,rfl⟩:=At.mp hx
 exact Lf n a
structure tK(n:Nat)(rows:List (List Int)):Prop where
 len:∀r∈rows,r.length=n
 sz:gQ 200 rows
 cnt:rows.length<=5
 n7:n<=7
theorem big:tX 200 5 1<=8000:=by decide
theorem Bv(h:tK n rows){rs:List (List Int)}(Y:∀r∈rs,r∈rows)(hl:rs.length<=5):gQ 8000 (rs.foldl (dP n) (jd n)):=by
 refine(Br rs 1 _ (λr U=>⟨h.sz r (Y r U),by rw[h.len r (Y r U)];have:=h.n7;omega⟩) (EU n)).mono ?_
 exact Pk (yr 200 rs.length 5 1 hl) big
theorem KW(h:tK n rows):∃k O Ls,qy [vII rows,.int (n:Int)] []=.ok (.ptr k,O)/\O[k]? =some (.lst (cR Ls))/\Sto O Ls/\(∀p∈Ls,p.1≠k)/\Ls=d9 Ls/\Ls.map (·.2)=wQ (mS rows n):=by
 have n7:=h.n7
 obtain⟨L0,E0,e0,m0,s0⟩:=Hf (n:=n) (by omega) []
 rw[Db] at e0 s0
 obtain⟨s',el,rs,L,O,x3,ab,a1,U,ml⟩:=eX (ok:=okC (rows.map vI) none) (g:=aF 3) (body:=vg)
  (λpre s=>∃(rs:List (List Int)) (L:List (Nat×List Int)) (O:aB) (x3:Option D),pre=rs.map vI/\s=⟨[some (vII rows),some (.int (n:Int)),some (.lst (cR L)),x3],O⟩/\Sto O L/\L.map (·.2)=rs.foldl (dP n) (jd n)) (λ_ _ _=>trivial) (rows.map vI) [] (by
   rintro pre d rest ed s ⟨rs,L,O,x3,rfl,rfl,U,ml⟩
   rw[Db] at ed
   obtain⟨Y,l2,e1,e2,e3⟩:=List.map_eq_append_iff.mp ed
   cases l2 with
   | nil=>cases e3
   | cons r l2=>
    rw[AC] at e3
    injection e3 with e3 e4
    subst e3
    have e5:Y=rs:=(QD (λa b h=>by
     have:a.map D.int=b.map D.int:=by injection h
     exact(QD (λx y q=>by cases q;rfl)).mp this)).mp e2
    subst e5
    have inR:∀q∈Y,q∈rows:=λq hq=>by rw[e1];exact Qu _ hq
    have rR:r∈rows:=by rw[e1];simp
    have k:iX n Y (mS Y n):=tO λq hq=>h.len q (inR q hq)
    have cl:Y.length<=5:=by have:=h.cnt;rw[e1,FS] at this;omega
    have mem:∀p∈L,de n Y p.2:=λp hp=>(k.all p.2).mp (by
     show p.2∈Y.foldl (dP n) (jd n)
     rw[<- ml];exact KE hp)
    have wk:Wrk n L r 8000:=⟨λp hp=>(mem p hp).fit.len,λp hp=>(mem p hp).fit.nn,by
     have:=k.few n7
     have e:L.length=(mS Y n).length:=by show _=(Y.foldl (dP n) (jd n)).length;rw[<- ml,ut]
     omega,h.len r rR,by omega,by rw[ml];exact Bv h inR cl,(h.sz r rR).mono (by decide),by decide⟩
    obtain⟨L',O',e6,m6,s6⟩:=Jz wk U
    refine⟨⟨[some (vII rows),some (.int (n:Int)),some (.lst (cR L)),some (vI r)],O⟩,⟨[some (vII rows),some (.int (n:Int)),some (.lst (cR L')),some (vI r)],O'⟩,rfl,.inl ?_,Y++[r],L',O',_,by simp,rfl,s6,by rw[m6,ml,SE];rfl⟩
    rw[vg]
    exact bh (CM (ax (ag rfl) (ax (ag rfl) (aA _))) e6 rfl) rfl) ⟨[some (vII rows),some (.int (n:Int)),some (.lst (cR L0)),none],E0⟩ ⟨[],L0,E0,none,rfl,rfl,s0,m0⟩
 rw[Db] at ab
 have e5:rows=rs:=(QD (λa b h=>by
  have:a.map D.int=b.map D.int:=by injection h
  exact(QD (λx y q=>by cases q;rfl)).mp this)).mp ab
 subst e5
 subst a1
 have k:iX n rows (mS rows n):=tO h.len
 have ac:L.map (·.2)=mS rows n:=ml
 have nd:(L.map (·.2)).Nodup:=by rw[ac];exact k.nd
 have few:L.length<64:=by have:=k.few n7;rw[<- ac,ut] at this;exact this
 have so:ui sW (aa 2) ⟨[some (vII rows),some (.int (n:Int)),some (.lst (cR L)),x3],O⟩=.ok (.ptr O.length,⟨[some (vII rows),some (.int (n:Int)),some (.lst (cR L)),x3],O++[.lst (cR (d9 L))]⟩):=(vO (O:=O) (fin:=sW) (ag rfl) rfl U few nd).trans (C3 _ _)
 have mem:∀p∈d9 L,p∈L:=λp hp=>(gO L).mem_iff.mp hp
 refine⟨O.length,O++[.lst (cR (d9 L))],d9 L, ?_,by simp,λp hp=>(U.app _) p (mem p hp),λp hp=>Do (U.lt (mem p hp)), ?_,by rw[FT,ac]⟩
 ·refine dR (R:=[some (vII rows),some (.int (n:Int)),some (.lst (cR L)),x3]) ?_
  show Am ⟨[some (vII rows),some (.int (n:Int)),none,none],[]⟩=_
  rw[Am]
  refine aV (bh (CM (ax (ag rfl) (aA _)) e0 rfl) rfl) (aV ?_ (bD so))
  exact(dW (im:=listI (aa 0)) (ds:=rows.map vI) (k:=none) (s1:=⟨[some (vII rows),some (.int (n:Int)),some (.lst (cR L0)),none],E0⟩) (by rw[cv,ag (i:=0) rfl,ak];rfl)).trans el
 ·refine vQ (gO _).symm ?_ (nJ L) (nJ _)
  exact((gO L).map (·.2)).nodup_iff.mpr nd
theorem Nj(A:List (List Int))(h:cz d=true):aM [vII A,d]=true:=by
 rw[eK,eK,jv,kH,h]
 rfl
theorem Dq(n:Nat):∀L:List (Nat×List Int),fb n (cR L)=cR (L.map λp=>(n+p.1,p.2))
 | []=>by simp[fb]
 | p::L=>by
  show fb n (.ptr p.1::cR L)=_
  unfold fb
  rw[Dq n L,iU]
  rfl
theorem LJ{O S:aB}(h:Sto O L):Sto (S++O.map (shC S.length)) (L.map λp=>(S.length+p.1,p.2)):=λq hq=>by
 obtain⟨p,hp,rfl⟩:=At.mp hq
 dsimp only
 rw[wn (by omega),PQ,xL,h p hp]
 simp
theorem KL{O S:aB}(h:O[k]? =some (.lst (cR L))):(S++O.map (shC S.length))[S.length+k]? =some (.lst (cR (L.map λp=>(S.length+p.1,p.2)))):=by
 rw[wn (by omega),PQ,xL,h]
 simp only[PN,jG,Dq]
theorem Ff{U Y:EM}{s s1 s2:S}{i j:Int}(h1:U s=.ok (.int i,s1))(h2:Y s1=.ok (.int j,s2)):aX nP (af U (af Y ao)) s=.ok (.int (max i j),s2):=by
 refine cL (ax h1 (ax h2 (aA _))) ?_
 show Res.ok (D.int (if j>i then j else i))=_
 congr 2
 split <;> omega
def p7(l:List (Str×Int))(g:Str)(a:Int):List (Str×Int):=if 0<a then l++[(g,a)] else l
theorem pe(h:Str)(l r:List (Str×Int)):sumOf h (l++r)=sumOf h l+sumOf h r:=by
 unfold sumOf
 rw[List.filter_append,Fa,S5]
theorem EZ(h:Str)(l:List (Str×Int)):sumOf h l.reverse=sumOf h l:=by
 induction l with
 | nil=>rfl
 | cons p l U=>
  rw[List.reverse_cons,pe,U,show p::l=[p]++l from rfl,pe,Int.add_comm]
theorem yy(h g:Str)(a:Int):sumOf h [(g,a)]=if g=h then a else 0:=by
 unfold sumOf
 by_cases e:g=h
 ·rw[if_pos e,Pj (by simpa using e)];simp
 ·rw[if_neg e,Pq (by simpa using e)];rfl
theorem Ey{h:Str}(e:∀p∈l,p.1≠h):sumOf h l=0:=by
 unfold sumOf
 rw[List.filter_eq_nil_iff.mpr (λp hp=>by simpa using e p hp)]
 rfl
theorem Du(U:goods.Nodup)(hi:i<goods.length)(h:Pt goods i l)(a:Int):Pt goods (i+1) (p7 l goods[i] a):=by
 unfold p7
 split
 ·exact h.more U hi (by omega)
 ·exact h.same
theorem yR(U:goods.Nodup)(hi:i<goods.length)(h:Pt goods i l){a:Int}(ha:0<=a):sumOf goods[i] (p7 l goods[i] a)=a:=by
 have z:sumOf goods[i] l=0:=Ey λp hp e=>by
  have:=h.mem p hp
  rw[e] at this
  exact jD U hi this
 unfold p7
 split
 ·rw[pe,z,yy,if_pos rfl,Int.zero_add]
 ·rw[z];omega
theorem wH(U:goods.Nodup)(hi:i<goods.length)(Y:j<i)(l:List (Str×Int))(a:Int):sumOf (goods[j]'(by omega)) (p7 l goods[i] a)=sumOf (goods[j]'(by omega)) l:=by
 have ne:goods[i]≠goods[j]'(by omega):=λe=>by
  have:goods[j]'(by omega)∈goods.take i:=No (i:=j) (by rw[RM Y,uX (by omega)])
  exact jD U hi (by rw[e];exact this)
 unfold p7
 split
 ·rw[pe,yy,if_neg ne,Sr]
 ·rfl
structure WkI(goods:List Str)(mv:List Int)(i:Nat)(us ms:List (Str×Int)):Prop where
 u:Pt goods i us
 m:Pt goods i ms
 s:∀j,(hj:j<goods.length)->j<i->sumOf goods[j] ms-sumOf goods[j] us=nth mv j
abbrev woR(A:List (List Int))(goods zs:List Str)(c:Int)(U Y x7 x8 x9 x10 x11:Option D):List (Option D):=[some (vII A),some (sD goods),some (sD zs),some (.int c),some (.ptr 0),U,Y,x7,x8,x9,x10,x11]
theorem D1{l:List Str}(h:i<l.length):ixD O (sD l) (.int (i:Int))=.ok (.str l[i]):=by
 refine nY ?_
 rw[oB (by simpa using h)]
 simp
theorem BK{U slot i:Nat}{a:Int}(hi:i<goods.length)(h1:R[1]? =some (some (sD goods)))(h9:R[9]? =some (some (.int (i:Int))))(hs:R[slot]? =some (some (.ptr U)))(Y:O[U]? =some (.lst (l.map pD)))(hl:l.length<=1000)(he:me ⟨R,O⟩=.ok (.int a,⟨R,O⟩)):
 ∃O',ifS (a7 (aq gtD me (ar (.int 0)))) (cP (gU (aa slot) (lI (af (aq ixD (aa 1) (aa 9)) (af me ao))))) bI ⟨R,O⟩=.next ⟨R,O'⟩/\O'[U]? =some (.lst ((p7 l goods[i] a).map pD))/\∀q,q≠U->O'[q]? =O[q]? :=by
 have t:=jH (j:=0) he
 unfold p7
 by_cases h:0<a
 ·rw[if_pos h]
  refine⟨O.set U (.lst (l.map pD++[pD (goods[i],a)])),fK t (decide_eq_true h) (cy (mz (ag hs) Y (um (ax (aH (ag h1) (ag h9) (D1 hi)) (ax he (aA _))) (by simp)) Y (by simp;omega) rfl)),by rw[eQ Y,Fa];rfl,λq hq=>cN λz=>hq z.symm⟩
 ·rw[if_neg h]
  exact⟨O,cU t (decide_eq_false h) (bC _),Y,λ_ _=>rfl⟩
theorem K4{A:List (List Int)}{goods zs:List Str}{c v:Int}{k i ku km:Nat}{mv:List Int}{us ms:List (Str×Int)}{x11:Option D}(U:goods.Nodup)(hi:i<goods.length)(hg:goods.length<=100)(hv:nth mv i=v)(Y:ku≠km)(h:WkI goods mv i us ms)(hu:O[ku]? =some (.lst (us.map pD)))(hm:O[km]? =some (.lst (ms.map pD))):
 ∃ab ac O' am,iJ ⟨woR A goods zs c (some (.int (k:Int))) (some (vI mv)) (some (.ptr ku)) (some (.ptr km)) (some (.int (i:Int))) (some (.int v)) x11,O⟩=.next ⟨woR A goods zs c (some (.int (k:Int))) (some (vI mv)) (some (.ptr ku)) (some (.ptr km)) (some (.int (i:Int))) (some (.int v)) am,O'⟩/\WkI goods mv (i+1) ab ac/\O'[ku]? =some (.lst (ab.map pD))/\O'[km]? =some (.lst (ac.map pD))/\∀q,q≠ku->q≠km->O'[q]? =O[q]? :=by
 have p0:=gR (c:=c+(k:Int)) (t:=70+(i:Int)) (m:=4) (by decide)
 have q0:=gR (c:=c+(k:Int)) (t:=80+(i:Int)) (m:=9) (by decide)
 have p1:=ja (c:=c+(k:Int)) (t:=70+(i:Int)) (m:=4) (by decide)
 have ae:setM 11 (aq bR (aq gw (aN 3 aK (af (aq bf (aa 3) (aa 5)) (af (aq bf (ar (.int 70)) (aa 9)) (af (ar (.int 4)) ao)))) (ar (.int 3))) (aq bf (ar (.int 1)) (aN 3 aK (af (aq bf (aa 3) (aa 5)) (af (aq bf (ar (.int 80)) (aa 9)) (af (ar (.int 9)) ao)))))) ⟨woR A goods zs c (some (.int (k:Int))) (some (vI mv)) (some (.ptr ku)) (some (.ptr km)) (some (.int (i:Int))) (some (.int v)) x11,O⟩=.next ⟨woR A goods zs c (some (.int (k:Int))) (some (vI mv)) (some (.ptr ku)) (some (.ptr km)) (some (.int (i:Int))) (some (.int v)) (some (.int (bH (c+(k:Int)) (70+(i:Int)) 4/3*(1+bH (c+(k:Int)) (80+(i:Int)) 9)))),O⟩:=
  bh (aH (aH (d5 (aH (ag rfl) (ag rfl) (bV _ _)) (aH (ay _ _) (ag rfl) (bV _ _)) (ay _ _) (by decide)) (ay _ _) (uN (by decide) (by decide))) (aH (ay _ _) (d5 (aH (ag rfl) (ag rfl) (bV _ _)) (aH (ay _ _) (ag rfl) (bV _ _)) (ay _ _) (by decide)) (bV _ _)) (cC (dS (.inl (by omega))))) rfl
 have m0:0<=bH (c+(k:Int)) (70+(i:Int)) 4/3*(1+bH (c+(k:Int)) (80+(i:Int)) 9):=P7 (by omega) (by omega)
 generalize bH (c+(k:Int)) (70+(i:Int)) 4/3*(1+bH (c+(k:Int)) (80+(i:Int)) 9)=m at ae m0
 have ul:=h.u.len
 have ml:=h.m.len
 obtain⟨O1,e1,g1,k1⟩:=BK (R:=woR A goods zs c (some (.int (k:Int))) (some (vI mv)) (some (.ptr ku)) (some (.ptr km)) (some (.int (i:Int))) (some (.int v)) (some (.int m))) (slot:=7) (me:=aq bf (aa 11) (aX nP (af (ar (.int 0)) (af (unM je (aa 10)) ao)))) (a:=m+max 0 (-v)) hi rfl rfl rfl hu (by omega) (aH (ag rfl) (Ff (ay _ _) (sT (ag rfl) (oV _))) (bV _ _))
 obtain⟨O2,e2,g2,k2⟩:=BK (R:=woR A goods zs c (some (.int (k:Int))) (some (vI mv)) (some (.ptr ku)) (some (.ptr km)) (some (.int (i:Int))) (some (.int v)) (some (.int m))) (O:=O1) (slot:=8) (me:=aq bf (aa 11) (aX nP (af (ar (.int 0)) (af (aa 10) ao)))) (a:=m+max 0 v) (l:=ms) hi rfl rfl rfl (by rw[k1 _ Y.symm];exact hm) (by omega) (aH (ag rfl) (Ff (ay _ _) (ag rfl)) (bV _ _))
 refine⟨p7 us goods[i] (m+max 0 (-v)),p7 ms goods[i] (m+max 0 v),O2,some (.int m), ?_,⟨Du U hi h.u _,Du U hi h.m _,λj hj bb=> ?_⟩,by rw[k2 _ Y];exact g1,g2,λq h1 h2=>by rw[k2 q h2,k1 q h1]⟩
 ·rw[iJ]
  exact aV ae (aV e1 e2)
 ·by_cases e:j=i
  ·subst e
   rw[yR U hi h.m (by omega),yR U hi h.u (by omega),hv]
   omega
  ·rw[wH U hi (by omega),wH U hi (by omega)]
   exact h.s j hj (by omega)
theorem AQ{m:EM}(h:m s=.ok (.ptr k,⟨R,O⟩))(hc:O[k]? =some (.lst ds)):vq m s=.ok (.lst ds,⟨R,O.set k .dead⟩):=by
 rw[CS,h,ak]
 dsimp only
 rw[oz hc]
theorem zZ{m:EM}(h:m s=.ok (.lst ds,s1)):vq m s=.ok (.lst ds,s1):=by
 rw[CS,h,ak]
 rfl
structure DY(goods:List Str)(w:Wk):Prop where
 us:jC goods w.us/\w.us.length<=100
 ms:jC goods w.ms/\w.ms.length<=100
theorem Im{A:List (List Int)}{c:Int}{mv:List Int}{W:List Wk}{x7 x8 x9 x10 x11:Option D}(nd:goods.Nodup)(hg:goods.length<=100)(hk:k<zs.length)(hl:mv.length=goods.length)(wl:W.length<=1000)(hO:O[0]? =some (.lst (W.map wD))):
 ∃w O' y7 y8 y9 a2 az,iL ⟨woR A goods zs c (some (.int (k:Int))) (some (vI mv)) x7 x8 x9 x10 x11,O⟩=.next ⟨woR A goods zs c (some (.int (k:Int))) (some (vI mv)) y7 y8 y9 a2 az,O'⟩/\O'[0]? =some (.lst ((W++[w]).map wD))/\w.nm=zs[k]/\DY goods w/\goods.map (chg w)=mv:=by
 have o0:0<O.length:=oj hO
 have e7:setM 7 (jf ao) ⟨woR A goods zs c (some (.int (k:Int))) (some (vI mv)) x7 x8 x9 x10 x11,O⟩=.next ⟨woR A goods zs c (some (.int (k:Int))) (some (vI mv)) (some (.ptr O.length)) x8 x9 x10 x11,O++[.lst []]⟩:=bh (oX (aA _) (by simp) rfl rfl) rfl
 have e8:setM 8 (jf ao) ⟨woR A goods zs c (some (.int (k:Int))) (some (vI mv)) (some (.ptr O.length)) x8 x9 x10 x11,O++[.lst []]⟩=.next ⟨woR A goods zs c (some (.int (k:Int))) (some (vI mv)) (some (.ptr O.length)) (some (.ptr (O.length+1))) x9 x10 x11,O++[.lst []]++[.lst []]⟩:=bh (oX (aA _) (by simp) (by simp) rfl) rfl
 have cu:(O++[Cell.lst []]++[Cell.lst []])[O.length]? =some (.lst (([]:List (Str×Int)).map pD)):=eZ iy
 have cm:(O++[Cell.lst []]++[Cell.lst []])[O.length+1]? =some (.lst (([]:List (Str×Int)).map pD)):=by
  have:=iy (O:=O++[Cell.lst []]) (c:=Cell.lst [])
  rw[FS] at this
  exact this
 have c0:(O++[Cell.lst []]++[Cell.lst []])[0]? =some (.lst (W.map wD)):=eZ (eZ hO)
 generalize O++[Cell.lst []]++[Cell.lst []]=O1 at e8 cu cm c0
 obtain⟨U,hku⟩:∃U,O.length=U:=⟨_,rfl⟩
 rw[hku] at e7 e8 cu cm o0
 have bb:U≠U+1:=by omega
 obtain⟨s',el,us,ms,O2,ac,Y,ab,hw,hu,hm,h0,bd⟩:=eX (ok:=okC (dN (mv.map D.int)) none) (g:=cQ (aZ (aF 9) (aZ (aF 10) cS)) 2) (body:=iJ)
  (λpre s=>∃(us ms:List (Str×Int)) (O2:aB) (x9 x10 x11:Option D),WkI goods mv pre.length us ms/\O2[U]? =some (.lst (us.map pD))/\O2[U+1]? =some (.lst (ms.map pD))/\O2[0]? =some (.lst (W.map wD))/\s=⟨woR A goods zs c (some (.int (k:Int))) (some (vI mv)) (some (.ptr U)) (some (.ptr (U+1))) x9 x10 x11,O2⟩) (λ_ _ _=>trivial) (dN (mv.map D.int)) [] (by
   rintro pre d rest ed s ⟨us,ms,O2,x9,x10,x11,h1,h2,h3,h4,rfl⟩
   rw[Db,mZ] at ed
   obtain⟨be,rfl⟩:=oy ed
   obtain⟨am,bi,O3,az,eb,bm,bn,bp,bt⟩:=K4 (A:=A) (goods:=goods) (zs:=zs) (c:=c) (v:=mv[pre.length]) (k:=k) (i:=pre.length) (ku:=U) (km:=U+1) (mv:=mv) (us:=us) (ms:=ms) (O:=O2) (x11:=x11) nd (by omega) hg (by
    unfold nth
    rw[sH,uX be];rfl) bb h1 h2 h3
   refine⟨_,_,by rw[lM];rfl,.inl eb,am,bi,O3,_,_,_, ?_,bn,bp,by rw[bt 0 (by omega) (by omega)];exact h4,rfl⟩
   rw[FS,IN];exact bm) ⟨woR A goods zs c (some (.int (k:Int))) (some (vI mv)) (some (.ptr U)) (some (.ptr (U+1))) x9 x10 x11,O1⟩ ⟨[],[],O1,x9,x10,x11,⟨⟨by simp,by simp,by simp,by simp⟩,⟨by simp,by simp,by simp,by simp⟩,λj _ h=>absurd h (by simp)⟩,cu,cm,c0,rfl⟩
 rw[Db,show (dN (mv.map D.int)).length=goods.length by rw[mZ];simp[hl]] at hw
 have hf:fS (cZ (af (aa 6) ao)) (cQ (aZ (aF 9) (aZ (aF 10) cS)) 2) iJ ⟨woR A goods zs c (some (.int (k:Int))) (some (vI mv)) (some (.ptr U)) (some (.ptr (U+1))) x9 x10 x11,O1⟩=.next ⟨woR A goods zs c (some (.int (k:Int))) (some (vI mv)) (some (.ptr U)) (some (.ptr (U+1))) ac Y ab,O2⟩:=by
  refine(dW (ds:=dN (mv.map D.int)) (k:=none) (s1:=⟨woR A goods zs c (some (.int (k:Int))) (some (vI mv)) (some (.ptr U)) (some (.ptr (U+1))) x9 x10 x11,O1⟩) ?_).trans (el.trans (by rw[bd]))
  rw[iH,ax (ag rfl) (aA _),ak]
 have ap:∀am:List (Str×Int),(∀g,sumOf g am=sumOf g us)->goods.map (chg ⟨zs[k],am,ms⟩)=mv:=λam hs=>by
  refine Q6 (by simp[hl]) λj h1 h2=> ?_
  have hj:j<goods.length:=by simpa using h1
  rw[RU]
  show sumOf goods[j] ms-sumOf goods[j] am=_
  rw[hs,hw.s j hj hj]
  unfold nth
  rw[sH,uX h2];rfl
 have b4:=hw.u.len
 have b5:=hw.m.len
 have t:a7 (aq eqD (aN 3 aK (af (aq bf (aa 3) (aa 5)) (af (ar (.int 90)) (af (ar (.int 2)) ao)))) (ar (.int 1))) ⟨woR A goods zs c (some (.int (k:Int))) (some (vI mv)) (some (.ptr U)) (some (.ptr (U+1))) ac Y ab,O2⟩=.ok (decide (bH (c+(k:Int)) 90 2=1),⟨woR A goods zs c (some (.int (k:Int))) (some (vI mv)) (some (.ptr U)) (some (.ptr (U+1))) ac Y ab,O2⟩):=eq_test (d5 (aH (ag rfl) (ag rfl) (bV _ _)) (ay _ _) (ay _ _) (by decide))
 generalize bH (c+(k:Int)) 90 2=p at t
 by_cases hp:p=1
 ·have er:zV DN (aa 7) fE fE (part (unM je (ar (.int 1)))) ⟨woR A goods zs c (some (.int (k:Int))) (some (vI mv)) (some (.ptr U)) (some (.ptr (U+1))) ac Y ab,O2⟩=.ok (psD us.reverse,⟨woR A goods zs c (some (.int (k:Int))) (some (vI mv)) (some (.ptr U)) (some (.ptr (U+1))) ac Y ab,O2⟩):=by
   unfold zV
   rw[ag (i:=7) rfl,ak]
   dsimp only
   rw[lG,ak]
   dsimp only
   rw[lG,ak]
   dsimp only
   rw[oU (sT (ay _ _) (oV _)),ak]
   dsimp only
   rw[kD hu]
   dsimp only
   rw[if_neg (by decide),IJ,<- SR]
   rfl
  refine⟨⟨zs[k],us.reverse,ms⟩,(O2.set (U+1) .dead).set 0 (.lst (W.map wD++[wD ⟨zs[k],us.reverse,ms⟩])),some (psD us.reverse),some (.ptr (U+1)),ac,Y,ab, ?_,(by rw[Fa];exact eQ (c':=.lst (W.map wD)) (by rw[cN (by omega)];exact h0)),rfl,⟨⟨hw.u.parts.rev,by simp;omega⟩,⟨hw.m.parts,by show ms.length<=100;omega⟩⟩,ap _ λg=>EZ g us⟩
  rw[iL]
  refine aV e7 (aV e8 (aV hf (aV (fK t (decide_eq_true hp) (bh (R':=woR A goods zs c (some (.int (k:Int))) (some (vI mv)) (some (psD us.reverse)) (some (.ptr (U+1))) ac Y ab) er rfl)) (cy (mz (ag rfl) h0 (um (ax (aH (ag rfl) (ag rfl) (D1 hk)) (ax (zZ (ag rfl)) (ax (my (ag rfl) hm rfl) (aA _)))) (by simp)) (by rw[cN (by omega)];exact h0) (by simp;omega) rfl)))))
 ·refine⟨⟨zs[k],us,ms⟩,((O2.set U .dead).set (U+1) .dead).set 0 (.lst (W.map wD++[wD ⟨zs[k],us,ms⟩])),some (.ptr U),some (.ptr (U+1)),ac,Y,ab, ?_,(by rw[Fa];exact eQ (c':=.lst (W.map wD)) (by rw[cN (by omega),cN (by omega)];exact h0)),rfl,⟨⟨hw.u.parts,by show us.length<=100;omega⟩,⟨hw.m.parts,by show ms.length<=100;omega⟩⟩,ap _ λg=>rfl⟩
  rw[iL]
  refine aV e7 (aV e8 (aV hf (aV (cU t (decide_eq_false hp) (bC _)) (cy (mz (ag rfl) h0 (um (ax (aH (ag rfl) (ag rfl) (D1 hk)) (ax (AQ (ag rfl) hu) (ax (my (ag rfl) (by rw[cN (by omega)];exact hm) rfl) (aA _)))) (by simp)) (by rw[cN (by omega),cN (by omega)];exact h0) (by simp;omega) rfl)))))
theorem EH(c:Int)(nd:goods.Nodup)(hg:goods.length<=100)(ha:∀l∈A,l.length=goods.length)(hz:A.length<=zs.length)(al:A.length<=100):
 ∃ws O,gZ [vII A,sD goods,sD zs,.int c] []=.ok (wsD ws,O)/\ws.map (·.nm)=zs.take A.length/\(∀w∈ws,DY goods w)/\ws.map (λw=>goods.map (chg w))=A:=by
 obtain⟨s',el,W,O,x5,x6,x7,x8,x9,U,Y,h1,h2,h3,hO,az⟩:=eX (ok:=okC (dN (A.map vI)) none) (g:=cQ (aZ (aF 5) (aZ (aF 6) cS)) 2) (body:=iL)
  (λpre s=>∃(W:List Wk) (O:aB) (x5 x6 x7 x8 x9 U Y:Option D),W.map (·.nm)=zs.take pre.length/\(∀w∈W,DY goods w)/\W.map (λw=>goods.map (chg w))=A.take pre.length/\O[0]? =some (.lst (W.map wD))/\s=⟨woR A goods zs c x5 x6 x7 x8 x9 U Y,O⟩) (λ_ _ _=>trivial) (dN (A.map vI)) [] (by
   rintro pre d rest ed s ⟨W,O,x5,x6,x7,x8,x9,U,Y,h1,h2,h3,h4,rfl⟩
   rw[Db,mZ] at ed
   obtain⟨a1,rfl⟩:=oy ed
   have wl:W.length<=1000:=by
    have:=congrArg QF h3
    simp at this
    omega
   obtain⟨w,O',y7,y8,y9,bp,bt,eb,a2,n1,mk,ch⟩:=Im (A:=A) (goods:=goods) (zs:=zs) (c:=c) (k:=pre.length) (mv:=A[pre.length]) (W:=W) (O:=O) (x7:=x7) (x8:=x8) (x9:=x9) (x10:=U) (x11:=Y) nd hg (by omega) (ha _ (Pp _)) wl h4
   refine⟨_,_,by rw[lM];rfl,.inl eb,W++[w],O',_,_,_,_,_,_,_, ?_,λz a3=> ?_, ?_,a2,rfl⟩
   ·rw[FS,IN,Fa,h1,AC,PB,n1,QH,uX (by omega)];rfl
   ·rcases xz.mp a3 with q | q
    ·exact h2 z q
    ·rw[ww.mp q];exact mk
   ·rw[FS,IN,Fa,h3,AC,PB,ch,QH,uX a1];rfl) ⟨woR A goods zs c none none none none none none none,[.lst []]⟩ ⟨[],[.lst []],none,none,none,none,none,none,none,by simp,by simp,by simp,rfl,rfl⟩
 have a4:(([]:List D)++dN (A.map vI)).length=A.length:=by rw[Db,mZ];simp
 rw[a4] at h1 h3
 rw[List.take_length] at h3
 refine⟨W,O.set 0 .dead, ?_,h1,h2,h3⟩
 refine dR (R:=woR A goods zs c x5 x6 x7 x8 x9 U Y) ?_
 show pE ⟨[some (vII A),some (sD goods),some (sD zs),some (.int c),none,none,none,none,none,none,none,none],[]⟩=_
 rw[pE]
 refine aV (bh (R':=woR A goods zs c none none none none none none none) (oX (aA _) (by simp) rfl rfl) rfl) (aV ?_ (bD (my (ag rfl) hO rfl)))
 refine(dW (ds:=dN (A.map vI)) (k:=none) (s1:=⟨woR A goods zs c none none none none none none none,[.lst []]⟩) ?_).trans (el.trans (by rw[az]))
 rw[iH,ax (ag rfl) (aA _),ak];rfl
theorem Mz(h:R[i]? =some (some (yD goods ws)))(hd:pF f FN (yDs goods ws)=some d):lH 0 f (aa i) ⟨R,O⟩=.ok (d,⟨R,O⟩):=Ni (ag h) hd
theorem Ky(goods:List Str)(ws:List Wk)(h:aM ds=true):aM (yD goods ws::ds)=true:=by
 show (aM (yDs goods ws)&&aM ds)=true
 rw[gC,h];rfl
theorem EJ(goods:List Str)(h:ws.length<=1000):lE [yD goods ws] []=.ok (sD (ws.map (·.nm)),[]):=by
 refine dR (R:=[some (yD goods ws)]) ?_
 show ju ⟨[some (yD goods ws)],[]⟩=_
 rw[ju]
 have e:=du (l:=ws) (item:=wD) (out:=λw=>.str w.nm) (caps:=[]) (im:=listI (lH 0 "held_works" (aa 0))) (e:=aq ixD (aa 0) (ar (.int 0))) (k:=none) (s:=⟨[some (yD goods ws)],[]⟩) (by rw[cv,Mz (i:=0) rfl rfl,ak];rfl) trivial (by omega) (λw _=>aH (ag rfl) (ay _ _) rfl)
 rw[show ws.map (λw=>D.str w.nm)=(ws.map (·.nm)).map D.str by rw[wp];rfl] at e
 exact bD e
abbrev chL(goods:List Str)(ws:List Wk):List (List Int):=ws.map λw=>goods.map (chg w)
theorem Fs(h:R[i]? =some (some (yD goods ws)))(hd:pF f FN (yDs goods ws)=some d):lH 0 f (aa i) ⟨R,O⟩=.ok (d,⟨R,O⟩):=by
 rw[CW,ag h,ak]
 dsimp only
 rw[if_pos rfl,hd]
def jK(goods:List Str)(ws:List Wk)(k:Nat):List Int:=ws.map λw=>nth (goods.map (chg w)) k
theorem LR(hk:k<goods.length)(h2:ws.length<=1000):kO [yD goods ws,.int (k:Int)] []=.ok (vI (jK goods ws k),[]):=by
 have hc:=du (l:=ws.map λw=>goods.map (chg w)) (item:=vI) (out:=λr=>.int (nth r k)) (caps:=[1]) (im:=listI (lH 0 "held_changes" (aa 0))) (e:=aq ixD (aa 0) (aa 1)) (k:=none) (s:=⟨[some (yD goods ws),some (.int (k:Int))],[]⟩) (by
  rw[cv,Fs (d:=vII (ws.map λw=>goods.map (chg w))) rfl (by rfl)];rfl) trivial (by rw[ut];omega) (λr U=>by
  obtain⟨w,_,rfl⟩:=At.mp U
  rw[eU,ag (i:=0) rfl,ak,ag (i:=1) rfl,ak]
  dsimp only
  rw[jW (by rw[ut];exact hk)];rfl)
 rw[show (ws.map λw=>goods.map (chg w)).map (λr=>D.int (nth r k))=(jK goods ws k).map D.int by unfold jK;rw[wp,wp];rfl] at hc
 refine dQ (s:=⟨[some (yD goods ws),some (.int (k:Int))],[]⟩) ?_
 show lj ⟨[some (yD goods ws),some (.int (k:Int))],[]⟩=_
 rw[lj]
 exact bD hc
def gx(goods:List Str)(ws:List Wk):List (List Int):=(u8 goods.length).map (jK goods ws)
theorem Dm(h1:goods.length<=1000)(h2:ws.length<=1000):gb [yD goods ws] []=.ok (vII (gx goods ws),[]):=by
 have hc:=du (l:=u8 goods.length) (item:=λ(i:Nat)=>D.int (i:Int)) (out:=λk=>vI (jK goods ws k)) (caps:=[0]) (im:=cH (af (aX bE (af (lH 0 "held_goods" (aa 0)) ao)) ao)) (e:=methP 0 "row" 1 kO (aa 1) (af (aa 0) ao)) (k:=none) (s:=⟨[some (yD goods ws)],[]⟩) (by
  rw[dy (n:=goods.length) (s1:=⟨[some (yD goods ws)],[]⟩) (by
   rw[a8,iV,a8,Fs (d:=sD goods) rfl (by rfl),ak,aA,ak,ak]
   dsimp only
   rw[fQ,ut];rfl) (by omega),eC]) trivial (nW (by rw[QZ];omega)) (λk hk=>
  va (ns:=FN) (ds:=yDs goods ws) (args:=[.int (k:Int)]) (ag rfl) (by decide) (gC _ _) (by rw[a8,ag (i:=0) rfl];rfl) (by simp) rfl (LR (Pm.mp hk) h2) (by generalize jK goods ws k=r;simp))
 rw[show (u8 goods.length).map (λk=>vI (jK goods ws k))=(gx goods ws).map vI by unfold gx;rw[wp];rfl] at hc
 refine dQ (s:=⟨[some (yD goods ws)],[]⟩) ?_
 show gY ⟨[some (yD goods ws)],[]⟩=_
 rw[gY]
 exact bD hc
theorem C6(hk:k<goods.length){x:Int}(h:x∈jK goods ws k):∃w∈ws,∃g∈goods,x=chg w g:=by
 unfold jK at h
 obtain⟨w,U,rfl⟩:=At.mp h
 have hm:=eS (r:=goods.map (chg w)) (i:=k) (by rw[ut];exact hk)
 obtain⟨g,Y,e⟩:=At.mp hm
 exact⟨w,U,g,Y,e.symm⟩
def lvL(goods:List Str)(ws:List Wk)(way:List Int):List Int:=(gx goods ws).map λr=>aP r way
structure G0(goods:List Str)(ws:List Wk)(way:List Int):Prop where
 ok:∀w∈ws,∀g∈goods,∀t∈way,IntMulOk (chg w g) t
theorem Hm:aX bE (af (lH 0 "held_works" (aa 0)) ao) ⟨[some (yD goods ws),some (vI way)],[]⟩=.ok (.int (ws.length:Int),⟨[some (yD goods ws),some (vI way)],[]⟩):=by
 rw[<- ut (f:=wD) (as:=ws)]
 exact cL (ax (Mz (i:=0) rfl rfl) (aA _)) (fQ _)
theorem Ai:aX bE (af (aa 1) ao) ⟨[some (yD goods ws),some (vI way)],[]⟩=.ok (.int (way.length:Int),⟨[some (yD goods ws),some (vI way)],[]⟩):=by
 rw[<- ut (f:=D.int) (as:=way)]
 exact cL (ax (ag rfl) (aA _)) (fQ _)
theorem LN(h:way.length<=1000):aX ye (af (bx 1 [] (listI (aa 1)) (aF 0) bj (aq ltD (aa 0) (ar (.int 0)))) ao) ⟨[some (yD goods ws),some (vI way)],[]⟩=.ok (.bl (way.any λt=>decide (t<0)),⟨[some (yD goods ws),some (vI way)],[]⟩):=by
 have hc:=du (l:=way) (item:=D.int) (out:=λt=>.bl (decide (t<0))) (caps:=[]) (im:=listI (aa 1)) (e:=aq ltD (aa 0) (ar (.int 0))) (k:=none) (s:=⟨[some (yD goods ws),some (vI way)],[]⟩) (by rw[cv,ag (i:=1) rfl];rfl) trivial (by omega) (λt _=>aH (ag rfl) (ay _ _) (iP _ _))
 rw[show way.map (λt=>D.bl (decide (t<0)))=(way.map λt=>decide (t<0)).map D.bl by rw[wp];rfl] at hc
 refine cL (ax hc (aA _)) ?_
 rw[vA,RP]
 rfl
def vR(ws:List Wk)(way:List Int):Prop:=way.length≠ws.length\/∃t∈way,t<0
theorem LX(U:way.length=ws.length)(h2:ws.length<=1000)(h0:∀t∈way,0<=t):fo [yD goods ws,vI way] []=.ok (.non,[]):=by
 refine KY (s:=⟨[some (yD goods ws),some (vI way)],[]⟩) ?_
 show ee ⟨[some (yD goods ws),some (vI way)],[]⟩=_
 rw[ee]
 refine aV (cU (cK (aH Ai Hm (qk _ _))) (by simp[U]) (bC _)) (cU (cK (LN (by omega))) ?_ (bC _))
 rw[RC]
 intro t ht
 simp[h0 t ht]
theorem Kq(h:vR ws way)(Y:way.length<=1000):fo [yD goods ws,vI way] []=.exc 1 .non ⟨[some (yD goods ws),some (vI way)],[]⟩:=by
 refine oF ?_
 show ee ⟨[some (yD goods ws),some (vI way)],[]⟩=_
 rw[ee]
 by_cases U:way.length=ws.length
 ·refine aV (cU (cK (aH Ai Hm (qk _ _))) (by simp[U]) (bC _)) (fK (cK (LN Y)) ?_ (x_raise (ax (ay _ _) (aA _)) (by decide)))
  rcases h with h | ⟨t,ht,h0⟩
  ·exact absurd U h
  ·exact SO.mpr ⟨t,ht,decide_eq_true h0⟩
 ·refine zJ (fK (cK (aH Ai Hm (qk _ _))) ?_ (x_raise (ax (ay _ _) (aA _)) (by decide)))
  simp;omega
theorem Fo(hl:way.length=ws.length)(h1:goods.length<=1000)(h2:ws.length<=1000)(h0:∀t∈way,0<=t)(hm:G0 goods ws way):d7 [yD goods ws,vI way] []=.ok (.ptr 0,[.lst ((lvL goods ws way).map D.int)]):=by
 have pv:aM [vI way]=true:=kG way
 have e1:gL 0 "check_way" 1 fo (aa 0) (af (aa 1) ao) ⟨[some (yD goods ws),some (vI way)],[]⟩=.ok (.non,⟨[some (yD goods ws),some (vI way)],[]⟩):=xN (ns:=FN) (ds:=yDs goods ws) (args:=[vI way]) (ag rfl) (ax (ag rfl) (aA _)) (LX hl h2 h0) (by decide) (gC _ _) pv rfl rfl rfl
 have hr:=va (c:=0) (m:="rows") (n:=0) (f:=gb) (mo:=aa 0) (ma:=ao) (s:=⟨[some (yD goods ws),some (vI way)],[]⟩) (s1:=⟨[some (yD goods ws),some (vI way)],[]⟩) (s2:=⟨[some (yD goods ws),some (vI way)],[]⟩) (ns:=FN) (ds:=yDs goods ws) (args:=[]) (ag rfl) (by decide) (gC _ _) rfl rfl rfl (Dm h1 h2) (by generalize gx goods ws=r;simp)
 have hc:=oa (l:=gx goods ws) (item:=vI) (out:=λr=>.int (aP r way)) (caps:=[1]) (im:=listI (methP 0 "rows" 0 gb (aa 0) ao)) (e:=aN 2 bX (af (aa 0) (af (aa 1) ao))) (k:=none) (s:=⟨[some (yD goods ws),some (vI way)],[]⟩) (by rw[cv,hr];rfl) trivial (by unfold gx;rw[ut,QZ];omega) (λr U=>by
  unfold gx at U
  obtain⟨k,hk,rfl⟩:=At.mp U
  refine dO (ds:=[vI (jK goods ws k),vI way]) (by rw[a8,ag (i:=0) rfl,ak,a8,ag (i:=1) rfl];rfl) (by generalize jK goods ws k=r;simp) rfl (AW (by unfold jK;rw[ut];omega) λp hp=> ?_) (by simp)
  have Y:=Ps hp
  obtain⟨w,hw,g,hg,e⟩:=C6 (Pm.mp hk) Y.1
  rw[e]
  exact hm.ok w hw g hg p.2 Y.2)
 rw[show (gx goods ws).map (λr=>D.int (aP r way))=(lvL goods ws way).map D.int by unfold lvL;rw[wp];rfl] at hc
 refine u6 (s:=⟨[some (yD goods ws),some (vI way)],[.lst ((lvL goods ws way).map D.int)]⟩) ?_
 show fR ⟨[some (yD goods ws),some (vI way)],[]⟩=_
 rw[fR]
 exact aV (cy e1) (bD hc)
theorem Ej(h:vR ws way)(U:way.length<=1000):d7 [yD goods ws,vI way] []=.exc 1 .non ⟨[some (yD goods ws),some (vI way)],[]⟩:=by
 have pv:aM [vI way]=true:=kG way
 refine oF ?_
 show fR ⟨[some (yD goods ws),some (vI way)],[]⟩=_
 rw[fR]
 exact zJ (Kv (sU (ns:=FN) (ds:=yDs goods ws) (args:=[vI way]) (ag rfl) (by decide) (gC _ _) (ax (ag rfl) (aA _)) pv rfl (Kq h U)))
theorem Cv(hl:way.length=ws.length)(h1:goods.length<=1000)(h2:ws.length<=1000)(h0:∀t∈way,0<=t)(hm:G0 goods ws way):dq [yD goods ws,vI way] []=.ok (.bl ((lvL goods ws way).all λt=>decide (t=0)),[.dead]):=by
 have pv:aM [vI way]=true:=kG way
 have U:(lvL goods ws way).length<=1000:=by unfold lvL gx;rw[ut,ut,QZ];omega
 have lo:=Fo hl h1 h2 h0 hm
 generalize lvL goods ws way=lv at *
 have hr:gL 0 "leaves" 1 d7 (aa 0) (af (aa 1) ao) ⟨[some (yD goods ws),some (vI way)],[]⟩=.ok (.ptr 0,⟨[some (yD goods ws),some (vI way)],[.lst (lv.map D.int)]⟩):=xN (ns:=FN) (ds:=yDs goods ws) (args:=[vI way]) (ag rfl) (ax (ag rfl) (aA _)) lo (by decide) (gC _ _) pv rfl rfl (by simp only[Db,AC,PB,jG,kx])
 have hz:=my (O':=[.dead]) hr rfl rfl
 have hc:=du (l:=lv) (item:=D.int) (out:=λt=>.bl (decide (t=0))) (caps:=[]) (im:=λ(_:S)=>listI (gy (gL 0 "leaves" 1 d7 (aa 0) (af (aa 1) ao))) ⟨[some (yD goods ws),some (vI way)],[]⟩) (e:=aq eqD (aa 0) (ar (.int 0))) (k:=none) (s:=⟨[some (yD goods ws),some (vI way)],[.dead]⟩) (by
  show listI (gy (gL 0 "leaves" 1 d7 (aa 0) (af (aa 1) ao))) ⟨[some (yD goods ws),some (vI way)],[]⟩=_
  rw[cv,hz,ak];rfl) trivial (by omega) (λt _=>aH (ag rfl) (ay _ _) (lW _ _))
 have Y:bx 1 [] (listI (gy (gL 0 "leaves" 1 d7 (aa 0) (af (aa 1) ao)))) (aF 0) bj (aq eqD (aa 0) (ar (.int 0))) ⟨[some (yD goods ws),some (vI way)],[]⟩=.ok (.lst ((lv.map λt=>decide (t=0)).map D.bl),⟨[some (yD goods ws),some (vI way)],[.dead]⟩):=by
  rw[wp]
  refine M2 ?_ hc
  unfold bx jX
  rfl
 refine u6 (s:=⟨[some (yD goods ws),some (vI way)],[.dead]⟩) ?_
 show dv ⟨[some (yD goods ws),some (vI way)],[]⟩=_
 rw[dv]
 refine bD (cL (ax Y (aA _)) ?_)
 rw[AD,Ra]
 rfl
theorem AI(h:vR ws way)(U:way.length<=1000):dq [yD goods ws,vI way] []=.exc 1 .non ⟨[some (yD goods ws),some (vI way)],[]⟩:=by
 have pv:aM [vI way]=true:=kG way
 refine oF ?_
 show dv ⟨[some (yD goods ws),some (vI way)],[]⟩=_
 rw[dv]
 exact MG (LC (JV (Kw (Hl (E5 (sU (ns:=FN) (ds:=yDs goods ws) (args:=[vI way]) (ag rfl) (by decide) (gC _ _) (ax (ag rfl) (aA _)) pv rfl (Ej h U)))))))
theorem EB(x:Option D)(L:D):∀(ns:List Int) (U:Nat) (Y x2:Option D),(dJ ns=none->∃y1 y2,cD (okC (dN [L]) none) (cQ (aZ (aF 1) (aZ (aF 2) cS)) 2) bY ((ns.zipIdx U).map λp=>.tup [.int (p.2:Int),.int p.1]) ⟨[some L,Y,x2],[]⟩=.next ⟨[some L,y1,y2],[]⟩)/\
 ∀j,dJ ns=some j->∃y1 y2,cD (okC (dN [L]) none) (cQ (aZ (aF 1) (aZ (aF 2) cS)) 2) bY ((ns.zipIdx U).map λp=>.tup [.int (p.2:Int),.int p.1]) ⟨[some L,Y,x2],[]⟩=.ret (.int ((U+j:Nat):Int)) ⟨[some L,y1,y2],[]⟩
 | [],U,Y,x2=>⟨λ_=>⟨Y,x2,by simp[cD]⟩,λj h=>by cases h⟩
 | n::ns,U,Y,x2=>by
  have ih:=EB x L ns (U+1) (some (.int (U:Int))) (some (.int n))
  rw[SU,AC,cD,if_pos (show okC (dN [L]) none _ from trivial)]
  have hg:cQ (aZ (aF 1) (aZ (aF 2) cS)) 2 (.tup [.int (U:Int),.int n]) ⟨[some L,Y,x2],[]⟩=.ok ⟨[some L,some (.int (U:Int)),some (.int n)],[]⟩:=by simp
  rw[hg,jQ]
  by_cases hn:n=0
  ·have hb:bY ⟨[some L,some (.int (U:Int)),some (.int n)],[]⟩=.next ⟨[some L,some (.int (U:Int)),some (.int n)],[]⟩:=by simp[bY,hn]
   rw[hb]
   dsimp only
   constructor
   ·intro h
    unfold dJ at h
    rw[if_neg (by simpa using hn)] at h
    exact ih.1 (by simpa using h)
   ·intro j h
    unfold dJ at h
    rw[if_neg (by simpa using hn)] at h
    cases e:dJ ns with
    | none=>rw[e] at h;cases h
    | some i=>
     rw[e] at h
     have hj:j=i+1:=by simpa using h.symm
     subst hj
     obtain⟨y1,y2,e2⟩:=ih.2 i e
     exact⟨y1,y2,by rw[e2,show U+1+i=U+(i+1) by omega]⟩
  ·have hb:bY ⟨[some L,some (.int (U:Int)),some (.int n)],[]⟩=.ret (.int (U:Int)) ⟨[some L,some (.int (U:Int)),some (.int n)],[]⟩:=by simp[bY,hn]
   rw[hb]
   dsimp only
   have hs:dJ (n::ns)=some 0:=by unfold dJ;rw[if_pos hn]
   rw[hs]
   refine⟨λh=>(by cases h),λj h=> ?_⟩
   have hj:j=0:=by simpa using h.symm
   subst hj
   exact⟨_,_,rfl⟩
def N2:Option Nat->D
 | none=>.non
 | some k=>.int (k:Int)
theorem L8(ns:List Int):gG [vI ns] []=.ok (N2 (dJ ns),[]):=by
 have hf:=dW (im:=cZ (af (aa 0) ao)) (g:=cQ (aZ (aF 1) (aZ (aF 2) cS)) 2) (body:=bY) (s:=⟨[some (vI ns),none,none],[]⟩) (ds:=(ns.zipIdx 0).map λp=>.tup [.int (p.2:Int),.int p.1]) (k:=none) (s1:=⟨[some (vI ns),none,none],[]⟩) (by simp[wV])
 have go:=EB none (vI ns) ns 0 none none
 cases e:dJ ns with
 | none=>
  obtain⟨U,Y,e1⟩:=go.1 e
  refine dQ (s:=⟨[some (vI ns),U,Y],[]⟩) ?_
  show fF ⟨[some (vI ns),none,none],[]⟩=_
  rw[fF,uw,hf]
  rw[show cD (okC ((ns.zipIdx 0).map λp=>D.tup [.int (p.2:Int),.int p.1]) none) (cQ (aZ (aF 1) (aZ (aF 2) cS)) 2) bY ((ns.zipIdx 0).map λp=>.tup [.int (p.2:Int),.int p.1]) ⟨[some (vI ns),none,none],[]⟩=.next ⟨[some (vI ns),U,Y],[]⟩ from e1]
  rfl
 | some k=>
  obtain⟨U,Y,e1⟩:=go.2 k e
  refine dQ (s:=⟨[some (vI ns),U,Y],[]⟩) ?_
  show fF ⟨[some (vI ns),none,none],[]⟩=_
  rw[fF,uw,hf]
  rw[show cD (okC ((ns.zipIdx 0).map λp=>D.tup [.int (p.2:Int),.int p.1]) none) (cQ (aZ (aF 1) (aZ (aF 2) cS)) 2) bY ((ns.zipIdx 0).map λp=>.tup [.int (p.2:Int),.int p.1]) ⟨[some (vI ns),none,none],[]⟩=.ret (.int ((0+k:Nat):Int)) ⟨[some (vI ns),U,Y],[]⟩ from e1]
  rw[Ss];rfl
theorem HJ{a b:Int}(hb:0<b):n8 [.int a,.int b] []=.ok (.tup [.int (rat a b).1,.int (rat a b).2],[]):=by
 have hg:0<Pc a b:=Rs a (by omega)
 have U:¬b<0:=by omega
 have Y:∀(i:Nat) (x:Int) {R:List (Option D)},R[i]? =some (some (.int x))->aN 1 fD (af (aa i) ao) ⟨R,[]⟩=.ok (.bl true,⟨R,[]⟩):=λi x R hR=>c7 (ax (ag hR) (aA _)) (wU x) (by simp) rfl rfl
 refine dR (R:=[some (.int a),some (.int b),some (.int (Pc a b:Nat))]) ?_
 show xQ ⟨[some (.int a),some (.int b),none],[]⟩=_
 rw[xQ]
 refine aV (cU (wL (qD (cK (Y 0 a rfl))) rfl (qD (cK (Y 1 b rfl)))) rfl (bC _)) (aV (cU (eq_test (ag rfl)) (decide_eq_false (by omega)) (bC _)) (aV (bh (c7 (ax (ag rfl) (ax (ag rfl) (aA _))) (mot a b) (by simp) rfl rfl) rfl) (aV (cU (cK (aH (ag rfl) (ay _ _) (iP _ _))) (decide_eq_false U) (bC _)) ?_)))
 refine bD (um (ax (aH (ag rfl) (ag rfl) (d:=.int (rat a b).1) ?_) (ax (aH (ag rfl) (ag rfl) (d:=.int (rat a b).2) ?_) (aA _))) (by simp))
 ·rw[mW (by omega)]
  unfold rat
  rw[if_neg U]
 ·rw[mW (by omega)]
  unfold rat
  rw[if_neg U]
theorem IB(h:tK n rows)(Y:fit.length=n)(h0:∀a∈fit,0<=a)(hs:∀r∈rows,aP r fit=0)(hz:SzL c fit)(hc:c<=1000000):mD [vII rows,.int (n:Int),vI fit] []=.ok (.non,[]):=by
 have n7:=h.n7
 have e1:=du (l:=fit) (item:=D.int) (out:=λ_=>.bl false) (caps:=[]) (im:=listI (aa 2)) (e:=aq ltD (aa 0) (ar (.int 0))) (k:=none) (s:=⟨[some (vII rows),some (.int (n:Int)),some (vI fit)],[]⟩) (by rw[cv,ag (i:=2) rfl,ak];rfl) trivial (by omega) (λa ha=>by
  refine aH (ag rfl) (ay _ _) ?_
  rw[iP,decide_eq_false (by have:=h0 a ha;omega)])
 rw[show fit.map (λ_=>D.bl false)=(fit.map λ_=>false).map D.bl by rw[wp];rfl] at e1
 have e2:=du (l:=rows) (item:=vI) (out:=λ_=>.bl false) (caps:=[2]) (im:=listI (aa 0)) (e:=aq neD (aN 2 bX (af (aa 0) (af (aa 1) ao))) (ar (.int 0))) (k:=none) (s:=⟨[some (vII rows),some (.int (n:Int)),some (vI fit)],[]⟩) (by rw[cv,ag (i:=0) rfl,ak];rfl) trivial (by have:=h.cnt;omega) (λr U=>by
  have rl:=h.len r U
  refine aH (c7 (ax (ag rfl) (ax (ag rfl) (aA _))) (AW (a:=r) (b:=fit) (by omega) (λp hp=>iF (m:=200) (n:=c) (by decide) (by omega) (h.sz r U _ (Ps (a:=p.1) (b:=p.2) hp).1) (hz _ (Ps (a:=p.1) (b:=p.2) hp).2))) (by simp) rfl rfl) (ay _ _) ?_
  rw[qk,hs r U];rfl)
 rw[show rows.map (λ_=>D.bl false)=(rows.map λ_=>false).map D.bl by rw[wp];rfl] at e2
 refine Mm (R:=[some (vII rows),some (.int (n:Int)),some (vI fit)]) ?_
 show pO ⟨[some (vII rows),some (.int (n:Int)),some (vI fit)],[]⟩=_
 rw[pO]
 refine aV (cU (cK (aH (cL (ax (ag rfl) (aA _)) (fQ _)) (ag rfl) (qk _ _))) ?_ (bC _)) (aV (cU (cK (cL (ax e1 (aA _)) (vA _ _))) ?_ (bC _)) (cU (cK (cL (ax e2 (aA _)) (vA _ _))) ?_ (bC _)))
 ·rw[ut,Y];simp
 ·simp
 ·simp
abbrev tiR(left y:List Int)(b:Nat)(U Y:Option D):List (Option D):=[some (vI left),some (vI y),some (.int (b:Int)),U,Y]
theorem Aw{left y:List Int}{c:Nat}(hl:left.length=y.length)(hz:SzL c left)(hy:SzL 8000 y)(hc:c<=1000000)(K:List D):∀(l:List Int) (k b:Nat) (x3 x4:Option D),(∀i,i<l.length->nth y (k+i)=nth l i)->k+l.length=y.length->b<y.length->0<nth y b->(∀i,i<k->0<nth y i->nth left b*nth y i<=nth left i*nth y b)->
 ∃b' y3 y4,cD (okC K none) (cQ (aZ (aF 3) (aZ (aF 4) cS)) 2) dA ((l.zipIdx k).map λp=>.tup [.int (p.2:Int),.int p.1]) ⟨tiR left y b x3 x4,[]⟩=.next ⟨tiR left y b' y3 y4,[]⟩/\b'<y.length/\0<nth y b'/\∀i,i<y.length->0<nth y i->nth left b'*nth y i<=nth left i*nth y b'
 | [],k,b,x3,x4,_,hk,hb,hp,hm=>⟨b,x3,x4,by rw[List.zipIdx_nil,PB,cD,if_pos (show okC K none _ from trivial)],hb,hp,λi hi=>hm i (by simp at hk;omega)⟩
 | v::l,k,b,x3,x4,hv,hk,hb,hp,hm=>by
  rw[wE] at hk
  have ev:nth y k=v:=by
   have:=hv 0 (by simp)
   rw[RY] at this
   exact this
  have ap:∀i,i<l.length->nth y (k+1+i)=nth l i:=λi hi=>by
   have:=hv (i+1) (by simp;omega)
   rw[show k+1+i=k+(i+1) by omega,this];rfl
  have kl:k<y.length:=by omega
  have t1:a7 (aq gtD (aa 4) (ar (.int 0))) ⟨tiR left y b (some (.int (k:Int))) (some (.int v)),[]⟩=.ok (decide (0<v),⟨tiR left y b (some (.int (k:Int))) (some (.int v)),[]⟩):=jH (ag rfl)
  have t2:a7 (aq ltD (aq bR (aq ixD (aa 0) (aa 3)) (aq ixD (aa 1) (aa 2))) (aq bR (aq ixD (aa 0) (aa 2)) (aa 4))) ⟨tiR left y b (some (.int (k:Int))) (some (.int v)),[]⟩=.ok (decide (nth left k*nth y b<nth left b*v),⟨tiR left y b (some (.int (k:Int))) (some (.int v)),[]⟩):=by
   refine cK (aH (aH (aH (ag rfl) (ag rfl) (jW (by omega))) (aH (ag rfl) (ag rfl) (jW hb)) (cC ?_)) (aH (aH (ag rfl) (ag rfl) (jW (by omega))) (ag rfl) (cC ?_)) (iP _ _))
   ·exact iF (m:=c) (n:=8000) (by omega) (by decide) (hz _ (eS (by omega))) (hy _ (eS hb))
   ·exact iF (m:=c) (n:=8000) (by omega) (by decide) (hz _ (eS (by omega))) (by rw[<- ev];exact hy _ (eS kl))
  rw[SU,AC]
  have step:∀Y:Nat,dA ⟨tiR left y b (some (.int (k:Int))) (some (.int v)),[]⟩=.next ⟨tiR left y Y (some (.int (k:Int))) (some (.int v)),[]⟩->Y<y.length->0<nth y Y->(∀i,i<k+1->0<nth y i->nth left Y*nth y i<=nth left i*nth y Y)->(∃b' y3 y4,cD (okC K none) (cQ (aZ (aF 3) (aZ (aF 4) cS)) 2) dA (D.tup [.int (k:Int),.int v]::((l.zipIdx (k+1)).map λp=>.tup [.int (p.2:Int),.int p.1])) ⟨tiR left y b x3 x4,[]⟩=.next ⟨tiR left y b' y3 y4,[]⟩/\b'<y.length/\0<nth y b'/\∀i,i<y.length->0<nth y i->nth left b'*nth y i<=nth left i*nth y b'):=λY e h1 h2 h3=>by
   obtain⟨b',y3,y4,e',q1,q2,q3⟩:=Aw hl hz hy hc K l (k+1) Y (some (.int (k:Int))) (some (.int v)) ap (by omega) h1 h2 h3
   exact⟨b',y3,y4,M2 (jI (s1:=⟨tiR left y b (some (.int (k:Int))) (some (.int v)),[]⟩) (s2:=⟨tiR left y Y (some (.int (k:Int))) (some (.int v)),[]⟩) trivial (by rw[lM];rfl) e) e',q1,q2,q3⟩
  have split:∀i,i<k+1->i<k\/i=k:=λi hi=>by omega
  by_cases h1:0<v
  ·by_cases h2:nth left k*nth y b<nth left b*v
   ·refine step k ?_ kl (by rw[ev];exact h1) λi hi U=> ?_
    ·rw[dA]
     exact fK (Fx t1 (decide_eq_true h1) t2) (decide_eq_true h2) (bh (ag rfl) rfl)
    ·rcases split i hi with q | rfl
     ·rw[ev]
      exact uR (a:=nth left k) (b:=v) (c:=nth left b) (d:=nth y b) (e:=nth left i) (f:=nth y i) h1 hp U (by omega) (hm i q U)
     ·exact Int.le_refl _
   ·refine step b ?_ hb hp λi hi U=> ?_
    ·rw[dA]
     exact cU (Fx t1 (decide_eq_true h1) t2) (decide_eq_false h2) (bC _)
    ·rcases split i hi with q | rfl
     ·exact hm i q U
     ·rw[ev];omega
  ·refine step b ?_ hb hp λi hi U=> ?_
   ·rw[dA]
    exact cU (MB t1 (decide_eq_false h1)) rfl (bC _)
   ·rcases split i hi with q | rfl
    ·exact hm i q U
    ·rw[ev] at U;omega
theorem GJ(Y:left.length=y.length)(hz:SzL c left)(hy:SzL 8000 y)(hc:c<=1000000)(h0:∀i,0<=nth y i)(U:∃i,nth y i≠0)(ab:y.length<=1000):∃a:Nat,gs [vI left,vI y] []=.ok (.int (a:Int),[])/\a<y.length/\Tight left y a:=by
 obtain⟨b,eb⟩:∃b,dJ y=some b:=by
  cases e:dJ y with
  | some b=>exact⟨b,rfl⟩
  | none=>
   obtain⟨i,hi⟩:=U
   have:=tJ e (nth y i) (eS (by
    by_cases q:i<y.length
    ·exact q
    ·exact absurd (di (by omega)) hi))
   exact absurd this hi
 obtain⟨b1,b2,_⟩:=tL eb
 have fn:=L8 y
 rw[eb] at fn
 obtain⟨b',y3,y4,e,q1,q2,q3⟩:=Aw Y hz hy hc ((y.zipIdx 0).map λp=>.tup [.int (p.2:Int),.int p.1]) y 0 b none none (λi _=>by rw[Ss]) (by omega) b1 (by have:=h0 b;omega) (λi hi=>absurd hi (by omega))
 refine⟨b', ?_,q1,q2,λi hi=>q3 i (by
  by_cases q:i<y.length
  ·exact q
  ·rw[di (by omega)] at hi;omega) hi⟩
 refine dR (R:=tiR left y b' y3 y4) ?_
 show j6 ⟨[some (vI left),some (vI y),none,none,none],[]⟩=_
 rw[j6]
 refine aV (bh (R':=tiR left y b none none) (c7 (ax (ag rfl) (aA _)) fn (by simp) rfl rfl) rfl) (aV ?_ (bD (ag rfl)))
 refine(dW (im:=cZ (af (aa 1) ao)) (ds:=(y.zipIdx 0).map λp=>.tup [.int (p.2:Int),.int p.1]) (k:=none) (s1:=⟨tiR left y b none none,[]⟩) ?_).trans e
 rw[iH,a8,ag (i:=1) rfl,ak,aA,ak,ak]
 dsimp only
 rw[wV]
theorem Fp{y l:List Int}(hy:y.length=n)(U:l.length=n)(ny:∀i,0<=nth y i)(Y:∀i,0<=nth l i):decide (cF y|||cF l=cF l)=true↔Sub y l:=by
 have:=bits_sub hy U U ny Y Y
 rw[Nat.or_self] at this
 rw[this,rK hy]
 exact⟨λh i hi=>(h i hi).elim id id,λh i hi=>.inl (h i hi)⟩
theorem DA(V:List (List Int)):(wQ V).Perm V:=by
 unfold wQ
 have:=(gO (V.map λx=>((),x))).map (·.2)
 rw[wp,show ((λx:Unit×List Int=>x.2)∘λx=>((),x))=id from rfl,List.map_id] at this
 exact this
theorem Mf{m:AM}{x y:D}{as bs:List D}(h:m s=.ok ([x,y],s1))(h1:lsD s1.o x=some as)(h2:lsD s1.o y=some bs):AF m s=.ok ((j4 as bs,λO=>lsD O x=some as/\lsD O y=some bs),s1):=by
 unfold AF
 rw[h,ak]
 dsimp only
 rw[h1,h2]
theorem J1 {α:Type} {l:List α} {f g out:α->D} {caps:List Nat} {im:IX} {e:EM} {ok:aB->Prop} (U:im s=.ok ((l.map (λa=>D.tup [f a,g a]),ok),s)) (Y:ok s.o) (hl:l.length<=16777216)
 (he:∀a∈l,e ⟨some (f a)::some (g a)::caps.map (λi=>(s.r[i]?).getD none),s.o⟩=.ok (out a,⟨some (f a)::some (g a)::caps.map (λi=>(s.r[i]?).getD none),s.o⟩)):
 sI 2 caps im (cQ (aZ (aF 0) (aZ (aF 1) cS)) 2) bj e s=.ok (.lst (l.map out),s):=by
 obtain⟨s',e1,x,y,h1⟩:=pI (ok:=ok) (g:=cQ (aZ (aF 0) (aZ (aF 1) cS)) 2) (c:=bj) (e:=e) (O:=s.o) Y (λa=>D.tup [f a,g a]) (λs2=>∃x y,s2=⟨x::y::caps.map (λi=>(s.r[i]?).getD none),s.o⟩) (by rintro _ ⟨_,_,rfl⟩;rfl) l (λ_=>true) out (by
  rintro a ha _ ⟨x,y,rfl⟩
  exact⟨_,_,by simp,rfl,λ_=>⟨_,_,rfl⟩,λ_=>⟨_,he a ha,_,_,rfl⟩⟩) [] ⟨m8 2 caps s.r,s.o⟩ (by simpa using hl) ⟨none,none,rfl⟩
 unfold sI wX
 rw[U,ak]
 dsimp only
 rw[e1,ak,ak]
 subst h1
 rw[mx]
 rfl
abbrev Tl:Type:=(Int×Int)×(Nat×List Int)
def tD(s:Tl):D:=.tup [.tup [.int s.1.1,.int s.1.2],.ptr s.2.1]
def unp(s:Tl):Sh:=(s.1,s.2.2)
abbrev sR(rows:List (List Int))(n:Nat)(fit left:List Int)(bot:Int)(U x7 x8 x9:Option D):List (Option D):=[some (vII rows),some (.int (n:Int)),some (vI fit),some (.ptr 0),some (vI left),some (.int bot),U,x7,x8,x9]
structure SIv(Q:List (Nat×List Int))(T:List Tl)(O:aB):Prop where
 told:O[0]? =some (.lst (T.map tD))
 s:Sto O Q
 n0:∀p∈Q,p.1≠0
 m:∀s∈T,s.2∈Q
theorem CJ(h:O[k]? =some (.lst (y.map D.int)))(hi:i<y.length):ixD O (.ptr k) (.int (i:Int))=.ok (.int (nth y i)):=by
 refine Ar h ?_
 rw[oB (by simpa using hi)]
 simp[nth,sH,hi]
theorem C7(x:List Int):cnt x<=x.length:=QL _ _
theorem BY {n:Nat} {rows:List (List Int)} {fit:List Int} {c:Nat} {Q:List (Nat×List Int)} {pre:List (List Int)} {T:List Tl} {left:List Int} {bot:Int} {O:aB} {p:Nat×List Int} {x7 x8 x9:Option D}
 (hn:n<=7) (hf:fit.length=n) (hc:c<=20000) (hp:p∈Q) (lp:de n rows p.2) (zp:SzL 8000 p.2) (Y:Shr n rows fit c pre (T.map unp) left bot) (iv:SIv Q T O):
 ∃T' ac ae O' y7 y8 y9,lD ⟨sR rows n fit left bot (some (.ptr p.1)) x7 x8 x9,O⟩=.next ⟨sR rows n fit ac ae (some (.ptr p.1)) y7 y8 y9,O'⟩/\Shr n rows fit c (pre++[p.2]) (T'.map unp) ac ae/\SIv Q T' O':=by
 have yl:=lp.fit.len
 have tl:T.length<=7:=by
  have h1:=Y.cn
  have h2:=C7 fit
  rw[ut] at h1
  omega
 have cb:c+8001*(T.map unp).length<=80000:=by rw[ut];omega
 have a5:fL 1 dh (af (aa 6) ao) ⟨sR rows n fit left bot (some (.ptr p.1)) x7 x8 x9,O⟩=.ok (.int (cF p.2:Nat),⟨sR rows n fit left bot (some (.ptr p.1)) x7 x8 x9,O⟩):=ql (ax (ag rfl) (aA _)) (rs:=[vI p.2]) (by simp only[jl,kj,lO (iv.s p hp),ky,jy]) sM (by simp) rfl rfl
 have bb:fL 1 dh (af (aa 4) ao) ⟨sR rows n fit left bot (some (.ptr p.1)) x7 x8 x9,O⟩=.ok (.int (cF left:Nat),⟨sR rows n fit left bot (some (.ptr p.1)) x7 x8 x9,O⟩):=ql (ax (ag rfl) (aA _)) (rs:=[vI left]) (by simp only[jl,kj,ky,jy]) sM (by simp) rfl rfl
 have a1:a7 (aN 2 gE (af (fL 1 dh (af (aa 6) ao)) (af (fL 1 dh (af (aa 4) ao)) ao))) ⟨sR rows n fit left bot (some (.ptr p.1)) x7 x8 x9,O⟩=.ok (decide (cF p.2|||cF left=cF left),⟨sR rows n fit left bot (some (.ptr p.1)) x7 x8 x9,O⟩):=cK (c7 (ax a5 (ax bb (aA _))) (AN _ _) (by simp) rfl rfl)
 have a2:=Fp yl Y.len lp.fit.nn Y.nn
 by_cases hs:Sub p.2 left
 ·obtain⟨a,ea,al,ti⟩:=GJ (c:=80000) (left:=left) (y:=p.2) (by rw[Y.len,yl]) (λx hx=>(Y.sz x hx).mono cb) zp (by decide) lp.fit.nn lp.fit.nz (by omega)
  have ll:=Y.len
  have e7:setM 7 (fL 2 gs (af (aa 4) (af (aa 6) ao))) ⟨sR rows n fit left bot (some (.ptr p.1)) x7 x8 x9,O⟩=.next ⟨sR rows n fit left bot (some (.ptr p.1)) (some (.int (a:Int))) x8 x9,O⟩:=bh (ql (ax (ag rfl) (ax (ag rfl) (aA _))) (rs:=[vI left,vI p.2]) (by simp only[jl,kj,lO (iv.s p hp),ky,jy]) ea (by simp) rfl rfl) rfl
  have zb:IntMulOk bot (nth p.2 a):=iF (m:=80000) (n:=8000) (by decide) (by decide) (Y.szb.mono cb) (zp _ (eS al))
  have Bp:0<bot*nth p.2 a:=Qi Y.bp ti.pos
  have eB:∀{O':aB} {x8 x9:Option D},Sto O' Q->aq bR (aa 5) (aq ixD (aa 6) (aa 7)) ⟨sR rows n fit left bot (some (.ptr p.1)) (some (.int (a:Int))) x8 x9,O'⟩=.ok (.int (bot*nth p.2 a),⟨sR rows n fit left bot (some (.ptr p.1)) (some (.int (a:Int))) x8 x9,O'⟩):=λs'=>aH (ag rfl) (aH (ag rfl) (ag rfl) (CJ (s' p hp) al)) (cC zb)
  have en:lI (af (aN 2 n8 (af (aq ixD (aa 4) (aa 7)) (af (aq bR (aa 5) (aq ixD (aa 6) (aa 7))) ao))) (af (aa 6) ao)) ⟨sR rows n fit left bot (some (.ptr p.1)) (some (.int (a:Int))) x8 x9,O⟩=.ok (tD (rat (nth left a) (bot*nth p.2 a),p),⟨sR rows n fit left bot (some (.ptr p.1)) (some (.int (a:Int))) x8 x9,O⟩):=um (ax (c7 (ax (aH (ag rfl) (ag rfl) (jW (by omega))) (ax (eB iv.s) (aA _))) (HJ Bp) (by simp) rfl (by simp)) (ax (ag rfl) (aA _))) (by simp)
  generalize am:O.set 0 (.lst (T.map tD++[tD (rat (nth left a) (bot*nth p.2 a),p)]))=O1
  have e8:cP (gU (aa 3) (lI (af (aN 2 n8 (af (aq ixD (aa 4) (aa 7)) (af (aq bR (aa 5) (aq ixD (aa 6) (aa 7))) ao))) (af (aa 6) ao)))) ⟨sR rows n fit left bot (some (.ptr p.1)) (some (.int (a:Int))) x8 x9,O⟩=.next ⟨sR rows n fit left bot (some (.ptr p.1)) (some (.int (a:Int))) x8 x9,O1⟩:=cy (mz (ag rfl) iv.told en iv.told (by rw[ut];omega) am)
  have an:O1[0]? =some (.lst ((T++[(rat (nth left a) (bot*nth p.2 a),p)]).map tD)):=by rw[<- am,eQ iv.told,Fa];rfl
  have U:Sto O1 Q:=by rw[<- am];exact iv.s.set iv.n0 _
  have zl:∀x∈left,Sz 80000 x:=λx hx=>(Y.sz x hx).mono cb
  have e9:=J1 (l:=left.zip p.2) (f:=λq=>.int q.1) (g:=λq=>.int q.2) (out:=λq=>.int (q.1*nth p.2 a-q.2*nth left a)) (caps:=[7,4,6]) (im:=AF (af (aa 4) (af (aa 6) ao))) (e:=aq gX (aq bR (aa 0) (aq ixD (aa 4) (aa 2))) (aq bR (aa 1) (aq ixD (aa 3) (aa 2)))) (s:=⟨sR rows n fit left bot (some (.ptr p.1)) (some (.int (a:Int))) x8 x9,O1⟩) (ok:=λO=>lsD O (vI left)=some (left.map D.int)/\lsD O (.ptr p.1)=some (p.2.map D.int)) (by
   rw[Mf (as:=left.map D.int) (bs:=p.2.map D.int) (ax (ag (i:=4) rfl) (ax (ag (i:=6) rfl) (aA _))) kr (kD (U p hp)),sL]) ⟨kr,kD (U p hp)⟩ (by rw[Qq];omega) (λq hq=>by
    have m1:=(Ps (a:=q.1) (b:=q.2) hq).1
    have m2:=(Ps (a:=q.1) (b:=q.2) hq).2
    exact aH (aH (ag rfl) (aH (ag rfl) (ag rfl) (CJ (U p hp) al)) (cC (iF (m:=80000) (n:=8000) (by decide) (by decide) (zl _ m1) (zp _ (eS al))))) (aH (ag rfl) (aH (ag rfl) (ag rfl) (jW (by omega))) (cC (iF (m:=8000) (n:=80000) (by decide) (by decide) (zp _ m2) (zl _ (eS (by omega)))))) (kb _ _))
  rw[show (left.zip p.2).map (λq=>D.int (q.1*nth p.2 a-q.2*nth left a))=(eR left p.2 a).map D.int by unfold eR;rw[wp];rfl] at e9
  have rl:=Ax (a:=a) Y.len yl
  have bd:setM 9 (gy (fe 1 j3 (af (aq bf (aa 8) (dI (af (aq bR (aa 5) (aq ixD (aa 6) (aa 7))) ao))) ao))) ⟨sR rows n fit left bot (some (.ptr p.1)) (some (.int (a:Int))) (some (vI (eR left p.2 a))) x9,O1⟩=.next ⟨sR rows n fit left bot (some (.ptr p.1)) (some (.int (a:Int))) (some (vI (eR left p.2 a))) (some (vI (hV left p.2 bot a))),O1++[.dead]⟩:=by
   refine bh (my (kB (ax (aH (ag rfl) (hU (ax (eB U) (aA _)) (by simp)) (d:=vI (eR left p.2 a++[bot*nth p.2 a])) ?_) (aA _)) (zi _ (by simp;omega)) (by rw[eK,jv,B4];rfl) rfl (iU _ _) rfl) (ds:=(hV left p.2 bot a).map D.int) ?_ ?_) rfl
   ·rw[lJ (by simp;omega)]
    show _=Res.ok (D.lst ((eR left p.2 a++[bot*nth p.2 a]).map D.int))
    rw[Fa]
    rfl
   ·rw[RY]
    simp
    rfl
   ·rw[RY,AC,PB,HA]
  have be:=LD (bot:=bot) (a:=a) Y.len yl
  have cm:(hV left p.2 bot a).length=n+1:=by unfold hV;rw[low_length];simp[rl]
  have bi:setM 4 (slM (aa 9) fE (part (aa 1))) ⟨sR rows n fit left bot (some (.ptr p.1)) (some (.int (a:Int))) (some (vI (eR left p.2 a))) (some (vI (hV left p.2 bot a))),O1++[.dead]⟩=.next ⟨sR rows n fit ((hV left p.2 bot a).take n) bot (some (.ptr p.1)) (some (.int (a:Int))) (some (vI (eR left p.2 a))) (some (vI (hV left p.2 bot a))),O1++[.dead]⟩:=bh (Ht (ag rfl) (lG _) (oU (ag rfl)) kr Ft) rfl
  have bm:setM 5 (aq ixD (aa 9) (aa 1)) ⟨sR rows n fit ((hV left p.2 bot a).take n) bot (some (.ptr p.1)) (some (.int (a:Int))) (some (vI (eR left p.2 a))) (some (vI (hV left p.2 bot a))),O1++[.dead]⟩=.next ⟨sR rows n fit ((hV left p.2 bot a).take n) (nth (hV left p.2 bot a) n) (some (.ptr p.1)) (some (.int (a:Int))) (some (vI (eR left p.2 a))) (some (vI (hV left p.2 bot a))),O1++[.dead]⟩:=bh (aH (ag rfl) (ag rfl) (jW (by omega))) rfl
  refine⟨T++[(rat (nth left a) (bot*nth p.2 a),p)],_,_,O1++[.dead],some (.int (a:Int)),some (vI (eR left p.2 a)),some (vI (hV left p.2 bot a)), ?_,by rw[Fa];exact Gy Y lp hs zp ti be,eZ an,U.app _,iv.n0,λs bn=> ?_⟩
  ·rw[lD]
   exact fK a1 (a2.mpr hs) (aV e7 (aV e8 (aV (bh e9 rfl) (aV bd (aV bi bm)))))
  ·rcases xz.mp bn with q | q
   ·exact iv.m s q
   ·rw[ww.mp q];exact hp
 ·refine⟨T,left,bot,O,x7,x8,x9, ?_,Hh Y hs,iv⟩
  rw[lD]
  exact cU a1 (by rw[RF];exact λz=>hs (a2.mp z)) (bC _)
theorem yM{n:Nat}{rows:List (List Int)}{fit:List Int}{c:Nat}{Q:List (Nat×List Int)}(hn:n<=7)(hf:fit.length=n)(hc:c<=20000)(lo:∀p∈Q,de n rows p.2)(z:∀p∈Q,SzL 8000 p.2)(K:List D):
 ∀(rest:List (Nat×List Int)) (pre:List (List Int)) (T:List Tl) (left:List Int) (bot:Int) (O:aB) (x6 x7 x8 x9:Option D),(∀p∈rest,p∈Q)->Shr n rows fit c pre (T.map unp) left bot->SIv Q T O->
 ∃T' U ab O' y6 y7 y8 y9,cD (okC K none) (aF 6) lD (cR rest) ⟨sR rows n fit left bot x6 x7 x8 x9,O⟩=.next ⟨sR rows n fit U ab y6 y7 y8 y9,O'⟩/\Shr n rows fit c (pre++rest.map (·.2)) (T'.map unp) U ab/\SIv Q T' O'
 | [],pre,T,left,bot,O,x6,x7,x8,x9,_,sh,iv=>⟨T,left,bot,O,x6,x7,x8,x9,by show cD _ _ _ [] _=_;rw[cD,if_pos (show okC K none _ from trivial)],by simpa using sh,iv⟩
 | p::rest,pre,T,left,bot,O,x6,x7,x8,x9,hr,sh,iv=>by
  have hp:=hr p wv
  obtain⟨T1,Y,ac,O1,y7,y8,y9,e1,bb,bd⟩:=BY (x7:=x7) (x8:=x8) (x9:=x9) hn hf hc hp (lo p hp) (z p hp) sh iv
  obtain⟨T2,ae,az,O2,z6,z7,z8,z9,e2,a1,be⟩:=yM hn hf hc lo z K rest (pre++[p.2]) T1 Y ac O1 (some (.ptr p.1)) y7 y8 y9 (λq hq=>hr q (wh _ hq)) bb bd
  refine⟨T2,ae,az,O2,z6,z7,z8,z9, ?_,by rw[Pz] at a1;exact a1,be⟩
  show cD _ _ _ (.ptr p.1::cR rest) _=_
  exact M2 (jI (s1:=⟨sR rows n fit left bot (some (.ptr p.1)) x7 x8 x9,O⟩) (s2:=⟨sR rows n fit Y ac (some (.ptr p.1)) y7 y8 y9,O1⟩) trivial rfl e1) e2
structure N9(n:Nat)(rows:List (List Int))(fit:List Int)(T:List Tl)(O:aB):Prop where
 told:O[0]? =some (.lst (T.map tD))
 s:∀s∈T,O[s.2.1]? =some (.lst (s.2.2.map D.int))
 n0:∀s∈T,s.2.1≠0
 good:∀s∈T,0<s.1.1/\0<s.1.2/\Pc s.1.1 s.1.2=1/\Sub s.2.2 fit
 lo:∀s∈T,de n rows s.2.2
 nd:(T.map λs=>s.2.2).Nodup
 cn:T.length<=cnt fit
 eq:∀i,(psS i (T.map unp)).2=(psS i (T.map unp)).1*nth fit i
 zt:∀s∈T,Sz 80000 s.1.1/\Sz 80000 s.1.2/\SzL 8000 s.2.2
structure zN(n:Nat)(rows:List (List Int))(fit:List Int)(c:Nat):Prop where
 len:fit.length=n
 nn:∀i,0<=nth fit i
 st:∀r∈rows,cO n (nth r) (nth fit)=0
 sz:SzL c fit
 c1:1<=c
 c2:c<=20000
theorem zN.all(h:zN n rows fit c):∀a∈fit,0<=a:=λa ha=>by
 obtain⟨i,hi,rfl⟩:=Py ha
 have:=h.nn i
 unfold nth at this
 simpa[sH,uX hi] using this
theorem FE(h:tK n rows)(f:zN n rows fit c):∃T O,rB [vII rows,.int (n:Int),vI fit] []=.ok (.ptr 0,O)/\N9 n rows fit T O:=by
 have n7:=h.n7
 obtain⟨k,Op,Q,ep,hd,sQ,nQ,qS,qV⟩:=KW h
 have Y:iX n rows (mS rows n):=tO h.len
 have U:(Q.map (·.2)).Perm (mS rows n):=by rw[qV];exact DA _
 have pa:aM [vII rows,.int (n:Int)]=true:=Nj _ rfl
 have a1:=KL (S:=[Cell.lst []]) hd
 have a2:=LJ (S:=[Cell.lst []]) sQ
 have a3:∀p∈Q.map (λp=>(1+p.1,p.2)),p.1≠1+k:=λp hp=>by
  obtain⟨q,hq,rfl⟩:=At.mp hp
  have:=nQ q hq
  dsimp only
  omega
 have a4:∀p∈Q.map (λp=>(1+p.1,p.2)),p.1≠0:=λp hp=>by
  obtain⟨q,hq,rfl⟩:=At.mp hp
  dsimp only
  omega
 have ac:(Q.map λp=>(1+p.1,p.2)).map (·.2)=Q.map (·.2):=by rw[wp];rfl
 have z0:([Cell.lst []]++Op.map (shC 1))[0]? =some (Cell.lst []):=rfl
 have fr:gy (fe 2 qy (af (aa 0) (af (aa 1) ao))) ⟨sR rows n fit fit 1 none none none none,[.lst []]⟩=.ok (.lst (cR (Q.map λp=>(1+p.1,p.2))),⟨sR rows n fit fit 1 none none none none,([Cell.lst []]++Op.map (shC 1)).set (1+k) .dead⟩):=my (kB (ax (ag rfl) (ax (ag rfl) (aA _))) ep pa rfl (iU _ _) rfl) a1 rfl
 have ap:Sto (([Cell.lst []]++Op.map (shC 1)).set (1+k) .dead) (Q.map λp=>(1+p.1,p.2)):=a2.set a3 _
 have z2:(([Cell.lst []]++Op.map (shC 1)).set (1+k) Cell.dead)[0]? =some (Cell.lst []):=by rw[cN (by omega)];exact z0
 generalize ([Cell.lst []]++Op.map (shC 1)).set (1+k) Cell.dead=O2 at fr ap z2
 generalize (Q.map λp=>(1+p.1,p.2))=Q1 at *
 have lo:∀p∈Q1,de n rows p.2:=λp hp=>(Y.all _).mp (U.mem_iff.mp (by rw[<- ac];exact KE hp))
 have sz:∀p∈Q1,SzL 8000 p.2:=λp hp=>Bv h (rs:=rows) (λ_ q=>q) h.cnt _ (U.mem_iff.mp (by rw[<- ac];exact KE hp))
 obtain⟨T,left,bot,O3,y6,y7,y8,y9,el,sh,iv⟩:=yM n7 f.len f.c2 lo sz (cR Q1) Q1 [] [] fit 1 O2 none none none none (λ_ q=>q) (Ia f.len f.nn f.st f.sz f.c1) ⟨z2,ap,a4,by simp⟩
 rw[Db] at sh
 have ck:=IB h f.len f.all (λr hr=>by rw[mP f.len];exact f.st r hr) f.sz (by have:=f.c2;omega)
 refine⟨T,O3, ?_,iv.told,λs hs=>iv.s _ (iv.m s hs),λs hs=>iv.n0 _ (iv.m s hs),λs hs=>sh.good (unp s) (KE hs),λs hs=>lo _ (iv.m s hs), ?_,by have:=sh.cn;rw[ut] at this;omega,Kt sh λl hl=>by rw[ac];exact U.mem_iff.mpr ((Y.all l).mpr hl),λs hs=> ?_⟩
 ·refine dR (R:=sR rows n fit left bot y6 y7 y8 y9) ?_
  show vG ⟨[some (vII rows),some (.int (n:Int)),some (vI fit),none,none,none,none,none,none,none],[]⟩=_
  rw[vG]
  refine aV (cy (c7 (ax (ag rfl) (ax (ag rfl) (ax (ag rfl) (aA _)))) ck (by simp) rfl rfl)) (aV (bh (oX (aA _) (by simp) rfl rfl) rfl) (aV (bh (cL (ax (ag rfl) (aA _)) (jm _)) rfl) (aV (bh (R':=sR rows n fit fit 1 none none none none) (ay _ _) rfl) (aV ?_ (bD (ag rfl))))))
  refine(dW (im:=listI (gy (fe 2 qy (af (aa 0) (af (aa 1) ao))))) (ds:=cR Q1) (k:=none) (s1:=⟨sR rows n fit fit 1 none none none none,O2⟩) ?_).trans el
  rw[cv]
  exact(congrArg (λr=>Res.bind r _) fr).trans rfl
 ·have:=sh.sl
  rw[wp] at this
  refine List.Sublist.nodup this ?_
  rw[ac]
  exact U.nodup_iff.mpr Y.nd
 ·have cb:c+8001*(T.map unp).length<=80000:=by
   have h1:=sh.cn
   have h2:=C7 fit
   have h3:=f.len
   have h4:=f.c2
   rw[ut] at h1 ⊢
   omega
  obtain⟨q1,q2⟩:=sh.szt (unp s) (KE hs)
  exact⟨q1.mono cb,q2.mono cb,sz _ (iv.m s hs)⟩
theorem GN:∀r∈gx goods ws,r.length=ws.length:=λr U=>by
 unfold gx at U
 obtain⟨k,_,rfl⟩:=At.mp U
 unfold jK;simp
theorem Cu(g4:goods.length<=5)(Y:ws.length<=7)(hs:gQ 90 (chL goods ws)):tK ws.length (gx goods ws):=⟨GN,λr U x hx=>by
 unfold gx at U
 obtain⟨k,hk,rfl⟩:=At.mp U
 obtain⟨w,hw,g,hg,rfl⟩:=C6 (Pm.mp hk) hx
 exact(hs (goods.map (chg w)) (At.mpr ⟨w,hw,rfl⟩) _ (KE hg)).mono (by decide),by unfold gx;simp;omega,Y⟩
theorem My(U:way.length=ws.length)(h0:∀t∈way,0<=t)(hz:∀x∈lvL goods ws way,x=0)(sz:SzL 100 way):zN ws.length (gx goods ws) way 100:=
 ⟨U,λi=>by
  by_cases h:i<way.length
  ·exact h0 _ (eS h)
  ·rw[di (by omega)];decide,λr Y=>by
  rw[<- mP U]
  exact hz _ (by unfold lvL;exact At.mpr ⟨r,Y,rfl⟩),sz,by decide,by decide⟩
theorem JR(U:gQ 90 (chL goods ws))(sz:SzL 100 way):G0 goods ws way:=⟨λw Y g hg t ht=>iF (m:=90) (n:=100) (by decide) (by decide) (U (goods.map (chg w)) (At.mpr ⟨w,Y,rfl⟩) _ (KE hg)) (sz t ht)⟩
theorem Ly{m:EM}{A B:SM}{a:D}(h:m s=.exc c a s1):ifS (nD (a7 m)) A B s=.exc c a s1:=by
 unfold ifS nD a7
 rw[h]
 rfl
theorem Eh{L:List Int}:(L.all λt=>decide (t=0))=true↔∀x∈L,x=0:=by
 rw[Qw]
 exact⟨λh x hx=>of_decide_eq_true (h x hx),λh x hx=>decide_eq_true (h x hx)⟩
structure YOk(goods:List Str)(ws:List Wk):Prop where
 g:goods.length<=5
 w:ws.length<=7
 z:gQ 90 (chL goods ws)
theorem vF(y:YOk goods ws)(hi:R[i]? =some (some (yD goods ws)))(U:R[j]? =some (some (vI way)))(Y:way.length=ws.length)(h0:∀t∈way,0<=t)(sz:SzL 100 way):gL 0 "balanced" 1 dq (aa i) (af (aa j) ao) ⟨R,[]⟩=.ok (.bl ((lvL goods ws way).all λt=>decide (t=0)),⟨R,[.dead]⟩):=
 xN (ns:=FN) (ds:=yDs goods ws) (args:=[vI way]) (ag hi) (ax (ag U) (aA _)) (Cv Y (by have:=y.g;omega) (by have:=y.w;omega) h0 (JR y.z sz)) (by decide) (gC _ _) (kG way) rfl rfl rfl
theorem zc(hi:R[i]? =some (some (yD goods ws)))(U:R[j]? =some (some (vI way)))(h:vR ws way)(Y:way.length<=1000):gL 0 "balanced" 1 dq (aa i) (af (aa j) ao) ⟨R,[]⟩=.exc 1 .non ⟨R,[]⟩:=
 sU (ns:=FN) (ds:=yDs goods ws) (args:=[vI way]) (ag hi) (by decide) (gC _ _) (ax (ag U) (aA _)) (kG way) rfl (AI h Y)
theorem EY(y:YOk goods ws)(U:way.length=ws.length)(h0:∀t∈way,0<=t)(hz:∀x∈lvL goods ws way,x=0)(sz:SzL 100 way):∃d O ds,jr [yD goods ws,vI way] []=.ok (.ptr d,O)/\O[d]? =some (.lst ds):=by
 have Y:=y.g
 have w7:=y.w
 obtain⟨T,O,es,o⟩:=FE (Cu y.g y.w y.z) (My U h0 hz sz)
 refine⟨_,_,fb 1 (T.map tD), ?_,(?_:([Cell.dead]++O.map (shC 1))[1+0]? =_)⟩
 ·refine u6 (s:=⟨[some (yD goods ws),some (vI way)],[Cell.dead]++O.map (shC 1)⟩) ?_
  show kq ⟨[some (yD goods ws),some (vI way)],[]⟩=_
  rw[kq]
  refine aV (cU (qD (cK (vF y rfl rfl U h0 sz))) (by rw[Eh.mpr hz];rfl) (bC _)) (bD (kB (ax (CU (ns:=FN) (ds:=yDs goods ws) (args:=[]) (ag rfl) (aA _) (Dm (by omega) (by omega)) (by decide) (gC _ _) rfl rfl (by rw[jv,kH])) (ax (cL (ax (CU (ns:=FN) (ds:=yDs goods ws) (args:=[]) (ag rfl) (aA _) (EJ goods (by omega)) (by decide) (gC _ _) rfl rfl (dB _)) (aA _)) (by rw[fQ,ut,ut])) (ax (ag rfl) (aA _)))) es (by rw[eK,jv,kH];simp) rfl (iU _ _) rfl))
 ·rw[wn (by simp),show 1+0 - [Cell.dead].length=0 from rfl,xL,o.told]
  simp only[PN,jG]
theorem Ef(y:YOk goods ws)(U:way.length=ws.length)(h0:∀t∈way,0<=t)(hz:¬ ∀x∈lvL goods ws way,x=0)(sz:SzL 100 way):∃s,jr [yD goods ws,vI way] []=.exc 4 .non s:=by
 refine⟨_,oF (s:=⟨[some (yD goods ws),some (vI way)],[.dead]⟩) ?_⟩
 show kq ⟨[some (yD goods ws),some (vI way)],[]⟩=_
 rw[kq]
 exact zJ (fK (qD (cK (vF y rfl rfl U h0 sz))) (by rw[RF.mpr λz=>hz (Eh.mp z)];rfl) (x_raise (ax (ay _ _) (aA _)) (by decide)))
theorem Eg(h:vR ws way)(U:way.length<=1000):∃s,jr [yD goods ws,vI way] []=.exc 1 .non s:=by
 refine⟨_,oF (s:=⟨[some (yD goods ws),some (vI way)],[]⟩) ?_⟩
 show kq ⟨[some (yD goods ws),some (vI way)],[]⟩=_
 rw[kq]
 exact zJ (Ly (zc rfl rfl h U))
theorem Ju:eW [.exn 1] []=.ok (.str ("way" :Str),[]):=by
 refine dR (R:=[some (.exn 1)]) ?_
 show iE ⟨[some (.exn 1)],[]⟩=_
 rw[iE]
 exact aV (cU (cK (mH (ag rfl) rfl)) rfl (bC _)) (aV (cU (wL (qD (cK (mH (ag rfl) rfl))) rfl (cK (aH (mH (ag rfl) rfl) (mH (ag rfl) rfl) (EV _ _)))) rfl (bC _)) (bD (aH (hU (ax (ay _ _) (ax (ay _ _) (aA _))) (by simp)) (cL (ax (mH (b:=true) (ag rfl) rfl) (aA _)) (gW _)) (xx _ _ _))))
theorem Nq:eW [.exn 4] []=.ok (.str ("balance" :Str),[]):=by
 refine dR (R:=[some (.exn 4)]) ?_
 show iE ⟨[some (.exn 4)],[]⟩=_
 rw[iE]
 exact aV (cU (cK (mH (ag rfl) rfl)) rfl (bC _)) (aV (cU (wL (qD (cK (mH (ag rfl) rfl))) rfl (cK (aH (mH (ag rfl) rfl) (mH (ag rfl) rfl) (EV _ _)))) rfl (bC _)) (bD (aH (hU (ax (ay _ _) (ax (ay _ _) (aA _))) (by simp)) (cL (ax (mH (b:=false) (ag rfl) rfl) (aA _)) (gW _)) (xn _ _))))
theorem qs(goods:List Str)(ws:List Wk)(x:List Int):aM [yD goods ws,vI x]=true:=Ky _ _ (by simp)
theorem JE{d:Nat}(e:jr [yD goods ws,vI way] []=.ok (.ptr d,O))(hc:O[d]? =some (.lst ds)):∃O',d4 [yD goods ws,vI way] []=.ok (.str ("told" :Str),O'):=by
 have U:(([]:aB)++O.map (shC 0))[0+d]? =some (.lst (fb 0 ds)):=by
  rw[Db,Ss,xL,hc]
  simp only[PN,jG]
 refine CH ⟨⟨[some (yD goods ws),some (vI way),some (.lst (fb 0 ds)),none],(([]:aB)++O.map (shC 0)).set (0+d) .dead⟩, ?_⟩
 show jj ⟨[some (yD goods ws),some (vI way),none,none],[]⟩=_
 rw[jj]
 exact aV (Gm (bh (my (IK (ax (ag rfl) (ax (ag rfl) (aA _))) e (qs _ _ _) rfl (iU _ _) rfl) U rfl) rfl)) (bD (aH (hU (ax (ay _ _) (ax (ay _ _) (aA _))) (by simp)) (cL (ax (sT (ag rfl) (KQ _ _)) (aA _)) (gW _)) (xx _ _ _)))
theorem ED(e:jr [yD goods ws,vI way] []=.exc c .non s)(U:gq c=some true)(Y:eW [.exn c] []=.ok (.str z,[])):d4 [yD goods ws,vI way] []=.ok (.str z,[]):=by
 refine dR (R:=[some (yD goods ws),some (vI way),none,some (.exn c)]) ?_
 show jj ⟨[some (yD goods ws),some (vI way),none,none],[]⟩=_
 rw[jj]
 exact qN (Gs (EO (E5 (Em (ax (ag rfl) (ax (ag rfl) (aA _))) (qs _ _ _) rfl e))) (Jj U (Jl (bD (c7 (ax (ag rfl) (aA _)) Y rfl rfl rfl)))))
theorem Nc(y:YOk goods ws)(U:way.length=ws.length)(h0:∀t∈way,0<=t)(sz:SzL 100 way):eH [yD goods ws,vI way] []=.ok (.str (if (lvL goods ws way).all (λt=>decide (t=0))=true then "told" else "balance"),[.dead]):=by
 have e:=vF (R:=[some (yD goods ws),some (vI way),none,none]) (i:=0) (j:=1) y rfl rfl U h0 sz
 generalize (lvL goods ws way).all (λt=>decide (t=0))=b at e
 refine dR (R:=[some (yD goods ws),some (vI way),some (.bl b),none]) ?_
 show ik ⟨[some (yD goods ws),some (vI way),none,none],[]⟩=_
 rw[ik]
 refine aV (Gm (bh e rfl)) (aV (cU (qD (cK (sT (ag rfl) (Mc _ _)))) (by decide) (bC _)) (bD (aH (hU (ax (ay _ _) (ax (ay _ _) (aA _))) (by simp)) (cL (ax (ag rfl) (aA _)) (gW _)) ?_)))
 cases b with
 | true=>exact xx _ _ _
 | false=>exact xn _ _
theorem LV(h:vR ws way)(U:way.length<=1000):eH [yD goods ws,vI way] []=.ok (.str ("way" :Str),[]):=by
 refine dR (R:=[some (yD goods ws),some (vI way),none,some (.exn 1)]) ?_
 show ik ⟨[some (yD goods ws),some (vI way),none,none],[]⟩=_
 rw[ik]
 exact qN (Gs (EO (zc rfl rfl h U)) (Jj rfl (Jl (bD (aH (hU (ax (ay _ _) (ax (ay _ _) (aA _))) (by simp)) (cL (ax (aH (c7 (ax (ag rfl) (aA _)) Ju rfl rfl rfl) (ay _ _) (Dv _ _)) (aA _)) (gW _)) (xx _ _ _))))))
def xU(O:aB)(d:D)(x:List Int):Prop:=d=vI x\/∃k,d=.ptr k/\O[k]? =some (.lst (x.map D.int))
theorem xU.ls(h:xU O d x):lsD O d=some (x.map D.int):=by
 rcases h with rfl | ⟨k,rfl,h⟩
 ·rfl
 ·exact kD h
theorem Ke{d e:D}{a b:List D}(h1:lsD O d=some a)(h2:lsD O e=some b)(hd:∀i,d≠ .int i)(U:∀i,d≠ .str i)(Y:a.length+b.length<=1000000):bf O d e=.ok (.lst (a++b)):=by
 unfold bf
 split
 ·rename_i i j;exact absurd rfl (hd i)
 ·rename_i i j;exact absurd rfl (U i)
 ·rw[h1,h2]
  dsimp only
  rw[if_pos (by omega)]
theorem xU.add(h:xU O d x)(U:x.length+y.length<=1000000):bf O d (vI y)=.ok (vI (x++y)):=by
 rw[Ke h.ls (b:=y.map D.int) rfl (λi=>by rcases h with rfl | ⟨k,rfl,h⟩ <;> intro z <;> cases z) (λi=>by rcases h with rfl | ⟨k,rfl,h⟩ <;> intro z <;> cases z) (by simpa using U)]
 exact congrArg (λz=>Res.ok (D.lst z)) Fa.symm
theorem Nf(a:Int):wM O (.int a) (.int 3)=.ok (.int (Builtin.bitAnd a 3)):=rfl
theorem GP(a:Int):0<=Builtin.bitAnd a 3/\Builtin.bitAnd a 3<=3:=by
 unfold Builtin.bitAnd
 by_cases h:0<=a
 ·rw[decide_eq_true h,decide_eq_true (show (0:Int)<=3 by decide)]
  dsimp only
  have:=Nat.and_le_right (n:=a.toNat) (m:=(3:Int).toNat)
  omega
 ·rw[decide_eq_false h,decide_eq_true (show (0:Int)<=3 by decide)]
  dsimp only
  have:=Nat.and_le_left (n:=(3:Int).toNat) (m:=(Builtin.bitNot a).toNat)
  omega
theorem Jy{i j:Int}(h:0<=j):Aj O (.int i) (.int j)=.ok (.int (i/2^j.toNat)):=if_pos h
abbrev liR(c:Int)(m:Nat)(d:D):List (Option D):=[some (.int c),some (.int (m:Int)),some d]
def L3(m:Nat)(l:List Int):Prop:=l.length=m/\∀x∈l,0<=x/\x<=3
theorem li1(c:Int)(hm:m<=100):∃l,setM 2 (g9 1 [0] (cH (af (aa 1) ao)) (aF 0) bj (aN 3 aK (af (aa 1) (af (aa 0) (af (ar (.int 4)) ao))))) ⟨[some (.int c),some (.int (m:Int)),none],[]⟩=.next ⟨liR c m (.ptr 0),[.lst (l.map D.int)]⟩/\L3 m l:=by
 have e:=oa (l:=u8 m) (item:=λi:Nat=>D.int (i:Int)) (out:=λi=>.int (bH c (i:Int) 4)) (caps:=[0]) (im:=cH (af (aa 1) ao)) (e:=aN 3 aK (af (aa 1) (af (aa 0) (af (ar (.int 4)) ao)))) (k:=none) (s:=⟨[some (.int c),some (.int (m:Int)),none],[]⟩) (by
  rw[<- eC]
  exact dy (ax (ag rfl) (aA _)) (by omega)) trivial (by simp;omega) (λi _=>d5 (ag rfl) (ag rfl) (ay _ _) (by decide))
 rw[show (u8 m).map (λi=>D.int (bH c ((i:Nat):Int) 4))=((u8 m).map λi=>bH c ((i:Nat):Int) 4).map D.int by rw[wp];rfl] at e
 refine⟨_,bh e rfl,by simp,λx hx=> ?_⟩
 obtain⟨i,_,rfl⟩:=At.mp hx
 have h1:=gR (c:=c) (t:=((i:Nat):Int)) (m:=4) (by decide)
 have h2:=ja (c:=c) (t:=((i:Nat):Int)) (m:=4) (by decide)
 omega
theorem li2(c:Int)(hm:m<=100)(h0:L3 m l0):∃k l O,ifS (a7 (aq eqD (aq eM (aa 0) (ar (.int 2))) (ar (.int 1)))) (setM 2 (g9 1 [0] (cH (af (aa 1) ao)) (aF 0) bj (aq wM (aq Aj (aa 1) (aq bf (ar (.int 1)) (aq bR (ar (.int 2)) (aa 0)))) (ar (.int 3))))) bI ⟨liR c m (.ptr 0),[.lst (l0.map D.int)]⟩=.next ⟨liR c m (.ptr k),O⟩/\O[k]? =some (.lst (l.map D.int))/\L3 m l:=by
 have t:=eq_test (j:=1) (aH (s:=⟨liR c m (.ptr 0),[.lst (l0.map D.int)]⟩) (ma:=aa 0) (mb:=ar (.int 2)) (f:=eM) (ag rfl) (ay _ _) (eO (by decide)))
 cases hb:decide (c%2=1) with
 | false=>exact⟨0,l0,_,cU t hb (bC _),rfl,h0⟩
 | true=>
  have e:=oa (l:=u8 m) (item:=λi:Nat=>D.int (i:Int)) (out:=λi=>.int (Builtin.bitAnd (c/2^(1+2*(i:Int)).toNat) 3)) (caps:=[0]) (im:=cH (af (aa 1) ao)) (e:=aq wM (aq Aj (aa 1) (aq bf (ar (.int 1)) (aq bR (ar (.int 2)) (aa 0)))) (ar (.int 3))) (k:=none) (s:=⟨liR c m (.ptr 0),[.lst (l0.map D.int)]⟩) (by
   rw[<- eC]
   exact dy (ax (ag rfl) (aA _)) (by omega)) trivial (by simp;omega) (λi _=>aH (aH (ag rfl) (aH (ay _ _) (aH (ay _ _) (ag rfl) (cC (dS (.inl (by decide))))) (bV _ _)) (Jy (by omega))) (ay _ _) (Nf _))
  rw[show (u8 m).map (λi=>D.int (Builtin.bitAnd (c/2^(1+2*((i:Nat):Int)).toNat) 3))=((u8 m).map λi=>Builtin.bitAnd (c/2^(1+2*((i:Nat):Int)).toNat) 3).map D.int by rw[wp];rfl] at e
  refine⟨1,_,_,fK t hb (bh e rfl),rfl,by simp,λx hx=> ?_⟩
  obtain⟨i,_,rfl⟩:=At.mp hx
  exact GP _
theorem li3(c:Int){m k0:Nat}(hm:m<=100)(U:O[k0]? =some (.lst (l0.map D.int)))(h0:L3 m l0):∃k l O',ifS (a7 (aq eqD (aN 3 aK (af (aa 0) (af (ar (.int 10)) (af (ar (.int 4)) ao)))) (ar (.int 0)))) (setM 2 (g9 1 [0] (listI (aa 2)) (aF 0) bj (aq bR (aa 0) (aq eM (aa 1) (aq mn (ar (.int 10)) (ar (.int 25))))))) bI ⟨liR c m (.ptr k0),O⟩=.next ⟨liR c m (.ptr k),O'⟩/\O'[k]? =some (.lst (l.map D.int))/\l.length=m/\SzL 90 l:=by
 have t:=eq_test (j:=0) (d5 (s:=⟨liR c m (.ptr k0),O⟩) (ma:=aa 0) (mb:=ar (.int 10)) (mc:=ar (.int 4)) (ag rfl) (ay _ _) (ay _ _) (by decide))
 cases hb:decide (bH c 10 4=0) with
 | false=>exact⟨k0,l0,O,cU t hb (bC _),U,h0.1,λx hx=>by
  have:=h0.2 x hx
  unfold Sz
  omega⟩
 | true=>
  have r0:0<=c%10000000000000000000000000:=PV _ (by decide)
  have r1:c%10000000000000000000000000<10000000000000000000000000:=PD _ (by decide)
  have e:=oa (l:=l0) (item:=D.int) (out:=λx=>.int (x*(c%10000000000000000000000000))) (caps:=[0]) (im:=listI (aa 2)) (e:=aq bR (aa 0) (aq eM (aa 1) (aq mn (ar (.int 10)) (ar (.int 25))))) (k:=some k0) (s:=⟨liR c m (.ptr k0),O⟩) (tP (ag rfl) U) U (by have:=h0.1;omega) (λx hx=>by
   have:=h0.2 x hx
   exact aH (ag rfl) (aH (ag rfl) (aH (ay _ _) (ay _ _) E8) (eO (by decide))) (cC (dS (.inl (by omega)))))
  rw[show l0.map (λx=>D.int (x*(c%10000000000000000000000000)))=(l0.map λx=>x*(c%10000000000000000000000000)).map D.int by rw[wp];rfl] at e
  refine⟨O.length,_,_,fK t hb (bh e rfl),iy,by rw[ut];exact h0.1,λy hy=> ?_⟩
  obtain⟨x,hx,rfl⟩:=At.mp hy
  have Y:=h0.2 x hx
  have z1:Sz 2 x:=by unfold Sz;omega
  have z2:Sz 84 (c%10000000000000000000000000):=by unfold Sz;omega
  exact(Sz.mul z1 z2).mono (by decide)
theorem li4(c:Int)(U:O[k]? =some (.lst (l0.map D.int)))(Y:l0.length=m)(hz:SzL 90 l0):∃l O',ifS (jM (a7 (aq eqD (aN 3 aK (af (aa 0) (af (ar (.int 11)) (af (ar (.int 3)) ao)))) (ar (.int 0)))) (a7 (aq gtD (aa 1) (ar (.int 0))))) (kc (aq gX (unM je (ar (.int 1))) (aq eM (aa 0) (aq mn (ar (.int 10)) (ar (.int 12))))) (vV (aa 2) (aN 3 aK (af (aa 0) (af (ar (.int 12)) (af (aa 1) ao)))))) bI ⟨liR c m (.ptr k),O⟩=.next ⟨liR c m (.ptr k),O'⟩/\O'[k]? =some (.lst (l.map D.int))/\l.length=m/\SzL 90 l:=by
 have t1:=eq_test (j:=0) (d5 (s:=⟨liR c m (.ptr k),O⟩) (ma:=aa 0) (mb:=ar (.int 11)) (mc:=ar (.int 3)) (ag rfl) (ay _ _) (ay _ _) (by decide))
 have t2:a7 (aq gtD (aa 1) (ar (.int 0))) ⟨liR c m (.ptr k),O⟩=.ok (decide (0<(m:Int)),⟨liR c m (.ptr k),O⟩):=jH (ag rfl)
 have ta:=qw t1 t2
 cases hb:(decide (bH c 11 3=0)&&decide (0<(m:Int))) with
 | false=>exact⟨l0,O,cU ta hb (bC _),U,Y,hz⟩
 | true=>
  have m0:0<m:=by
   have:=(Po _ _▸hb).2
   have:=of_decide_eq_true this
   omega
  obtain⟨a,ha,am⟩:=pq c 12 (m:=m) m0
  have r0:0<=c%1000000000000:=PV _ (by decide)
  have r1:c%1000000000000<1000000000000:=PD _ (by decide)
  have ep:aN 3 aK (af (aa 0) (af (ar (.int 12)) (af (aa 1) ao))) ⟨liR c m (.ptr k),O⟩=.ok (.int (a:Int),⟨liR c m (.ptr k),O⟩):=by
   rw[<- ha]
   exact d5 (ag rfl) (ay _ _) (ag rfl) (by omega)
  refine⟨l0.set a (-1-c%1000000000000),O.set k (.lst ((l0.map D.int).set a (.int (-1-c%1000000000000)))),fK ta hb (Jw (aH (sT (ay _ _) (oV _)) (aH (ag rfl) (aH (ay _ _) (ay _ _) sE) (eO (by decide))) (kb _ _)) (BQ (k:=k) (a:=a) (ds:=l0.map D.int) (s1:=⟨liR c m (.ptr k),O⟩) (s2:=⟨liR c m (.ptr k),O⟩) (ag rfl) ep U (by rw[ut,Y];exact am))), ?_,by rw[SW];exact Y,λy hy=> ?_⟩
  ·rw[eQ U,To]
  ·rcases RJ hy with q | rfl
   ·exact hz y q
   ·unfold Sz
    omega
theorem NV(l:List Int):cutD (l.map D.int) (some 1) none=(l.drop 1).map D.int:=by
 cases l with
 | nil=>rfl
 | cons a l=>exact Ez (ms:=a::l) (n:=1) (by simp)
theorem li5(c:Int)(hm:m<=100)(hO:O[k]? =some (.lst (l0.map D.int)))(hl:l0.length=m)(hz:SzL 90 l0):∃d l,ifS (a7 (aq eqD (aN 3 aK (af (aa 0) (af (ar (.int 13)) (af (ar (.int 3)) ao)))) (ar (.int 0)))) (setM 2 (aq ixD (dI (af (aq bf (aa 2) (dI (af (ar (.int 0)) ao))) (af (slM (aa 2) (part (ar (.int 1))) fE) ao))) (aq bR (aX intOf (af (aq gtD (aa 1) (ar (.int 0))) ao)) (aN 3 aK (af (aa 0) (af (ar (.int 14)) (af (ar (.int 2)) ao))))))) bI ⟨liR c m (.ptr k),O⟩=.next ⟨liR c m d,O⟩/\xU O d l/\l.length<=m+1/\SzL 90 l:=by
 have t:=eq_test (j:=0) (d5 (s:=⟨liR c m (.ptr k),O⟩) (ma:=aa 0) (mb:=ar (.int 13)) (mc:=ar (.int 3)) (ag rfl) (ay _ _) (ay _ _) (by decide))
 have Y:xU O (.ptr k) l0:=.inr ⟨k,rfl,hO⟩
 cases hb:decide (bH c 13 3=0) with
 | false=>exact⟨.ptr k,l0,cU t hb (bC _),Y,by omega,hz⟩
 | true=>
  have zd:SzL 90 (l0++[0]):=λx hx=>by
   rcases xz.mp hx with q | q
   ·exact hz x q
   ·rw[ww.mp q];exact Sz.zero _
  have zr:SzL 90 (l0.drop 1):=λx hx=>hz x (Se hx)
  have el:dI (af (aq bf (aa 2) (dI (af (ar (.int 0)) ao))) (af (slM (aa 2) (part (ar (.int 1))) fE) ao)) ⟨liR c m (.ptr k),O⟩=.ok (.lst [vI (l0++[0]),vI (l0.drop 1)],⟨liR c m (.ptr k),O⟩):=hU (ax (aH (ag rfl) (hU (ax (ay _ _) (aA _)) (by simp)) (Y.add (y:=[0]) (by simp;omega))) (ax (Ht (ag rfl) (oU (ay _ _)) (lG _) Y.ls (NV l0)) (aA _))) (by simp)
  have p0:=gR (c:=c) (t:=14) (m:=2) (by decide)
  have p1:=ja (c:=c) (t:=14) (m:=2) (by decide)
  have U:∃q:Int,aq bR (aX intOf (af (aq gtD (aa 1) (ar (.int 0))) ao)) (aN 3 aK (af (aa 0) (af (ar (.int 14)) (af (ar (.int 2)) ao)))) ⟨liR c m (.ptr k),O⟩=.ok (.int q,⟨liR c m (.ptr k),O⟩)/\(q=0\/q=1):=by
   refine⟨_,aH (cL (ax (aH (ag rfl) (ay _ _) (xJ _ _)) (aA _)) (gW _)) (d5 (ag rfl) (ay _ _) (ay _ _) (by decide)) (cC (dS (.inr (by omega)))), ?_⟩
   have hp:bH c 14 2=0\/bH c 14 2=1:=by omega
   rcases hp with hp | hp <;> rw[hp] <;> split <;> simp
  obtain⟨q,U,hq⟩:=U
  rcases hq with rfl | rfl
  ·exact⟨vI (l0++[0]),l0++[0],fK t hb (bh (aH el U (xn _ _)) rfl),.inl rfl,by simp;omega,zd⟩
  ·exact⟨vI (l0.drop 1),l0.drop 1,fK t hb (bh (aH el U (xx _ _ _)) rfl),.inl rfl,by simp;omega,zr⟩
theorem JZ(c:Int)(hm:m<=100):∃way O,k8 [.int c,.int (m:Int)] []=.ok (vI way,O)/\SzL 100 way/\way.length<=m+1:=by
 obtain⟨l1,e1,h1⟩:=li1 c hm
 obtain⟨k2,l2,O2,e2,c2,h2⟩:=li2 c hm h1
 obtain⟨k3,l3,O3,e3,c3,n3,z3⟩:=li3 c hm c2 h2
 obtain⟨l4,O4,e4,c4,n4,z4⟩:=li4 c c3 n3 z3
 obtain⟨d,l5,e5,hd,n5,z5⟩:=li5 c hm c4 n4 z4
 have U:∃Y,vq (aa 2) ⟨liR c m d,O4⟩=.ok (vI l5,⟨liR c m d,Y⟩):=by
  rcases hd with rfl | ⟨k,rfl,hk⟩
  ·exact⟨O4,zZ (ag rfl)⟩
  ·exact⟨_,AQ (ag rfl) hk⟩
 obtain⟨Y,U⟩:=U
 refine⟨l5,Y, ?_,λx hx=>(z5 x hx).mono (by decide),n5⟩
 refine dR (R:=liR c m d) ?_
 show rQ ⟨[some (.int c),some (.int (m:Int)),none],[]⟩=_
 rw[rQ]
 exact aV e1 (aV e2 (aV e3 (aV e4 (aV e5 (bD U)))))
theorem Ki(hn:n<=1000)(ha:A.length<=1000)(la:∀l∈A,l.length=n)(lw:way.length=A.length)(zw:SzL 8000 way)(zA:gQ 90 A):jE [vII A,vI way,.int (n:Int)] []=.ok (.ptr 0,[.lst ((ft A way n).map D.int)]):=by
 have U:∀g,g<n->aX oM (af (bx 1 [0,1,2] (cH (af (aX bE (af (aa 1) ao)) ao)) (aF 0) bj (aq bR (aq ixD (aa 3) (aa 0)) (aq ixD (aq ixD (aa 2) (aa 0)) (aa 1)))) ao) ⟨[some (.int (g:Int)),some (vII A),some (vI way)],[]⟩=.ok (.int ((u8 A.length).map λk=>nth way k*nth (A.getD k []) g).sum,⟨[some (.int (g:Int)),some (vII A),some (vI way)],[]⟩):=λg hg=>by
  have e:=du (l:=u8 A.length) (item:=λi:Nat=>D.int (i:Int)) (out:=λk=>.int (nth way k*nth (A.getD k []) g)) (caps:=[0,1,2]) (im:=cH (af (aX bE (af (aa 1) ao)) ao)) (e:=aq bR (aq ixD (aa 3) (aa 0)) (aq ixD (aq ixD (aa 2) (aa 0)) (aa 1))) (k:=none) (s:=⟨[some (.int (g:Int)),some (vII A),some (vI way)],[]⟩) (by
   rw[<- eC]
   refine dy (ax (cL (ax (ag rfl) (aA _)) ?_) (aA _)) (by omega)
   rw[fQ,ut]) trivial (by simp;omega) (λk hk=>by
    have Y:=Pm.mp hk
    have hm:A.getD k []∈A:=getD_mem Y
    exact aH (aH (ag rfl) (ag rfl) (jW (by omega))) (aH (aH (ag rfl) (ag rfl) (MP Y)) (ag rfl) (jW (by rw[la _ hm];exact hg))) (cC (iF (m:=8000) (n:=90) (by decide) (by decide) (zw.nth _) ((zA _ hm).nth _))))
  rw[show (u8 A.length).map (λk=>D.int (nth way k*nth (A.getD k []) g))=((u8 A.length).map λk=>nth way k*nth (A.getD k []) g).map D.int by rw[wp];rfl] at e
  exact cL (ax e (aA _)) (o8 _ _)
 have e:=oa (l:=u8 n) (item:=λi:Nat=>D.int (i:Int)) (out:=λg=>.int ((u8 A.length).map λk=>nth way k*nth (A.getD k []) g).sum) (caps:=[0,1]) (im:=cH (af (aa 2) ao)) (e:=aX oM (af (bx 1 [0,1,2] (cH (af (aX bE (af (aa 1) ao)) ao)) (aF 0) bj (aq bR (aq ixD (aa 3) (aa 0)) (aq ixD (aq ixD (aa 2) (aa 0)) (aa 1)))) ao)) (k:=none) (s:=⟨[some (vII A),some (vI way),some (.int (n:Int))],[]⟩) (by
  rw[<- eC]
  exact dy (ax (ag rfl) (aA _)) (by omega)) trivial (by simp;omega) (λg hg=>U g (Pm.mp hg))
 rw[show (u8 n).map (λg=>D.int ((u8 A.length).map λk=>nth way k*nth (A.getD k []) g).sum)=(ft A way n).map D.int by unfold ft;rw[wp];rfl] at e
 refine dR (R:=[some (vII A),some (vI way),some (.int (n:Int))]) ?_
 show qK ⟨[some (vII A),some (vI way),some (.int (n:Int))],[]⟩=_
 rw[qK]
 exact bD e
theorem xH(n:Nat):∀A:List (List Int),fb n (A.map vI)=A.map vI
 | []=>by simp[fb]
 | x::A=>by
  show fb n (vI x::A.map vI)=_
  unfold fb
  rw[xH n A]
  have:shD n (vI x)=vI x:=by unfold shD;rw[kx]
  rw[this];rfl
abbrev lR(ns:List Int)(hd:Int)(n:Nat)(A W:List (List Int))(goods:List Str)(ws:List Wk)(X:List (Option D)):List (Option D):=some (vI ns)::some (.int hd)::some (.int (n:Int))::some (vII A)::some (vII W)::some (sD goods)::some (yD goods ws)::X
structure Dr(n:Nat)(A W:List (List Int))(goods:List Str)(ws:List Wk):Prop where
 wl:∀w∈W,w.length=A.length
 w4:W.length<=4
 gl:goods.length=n
 n4:n<=4
 al:A.length<=6
 mv:MvI n 90 A W
 ch:chL goods ws=A
theorem Ic(ns:List Int)(x2 x3 x4 x5 U x7:Option D)(X:List (Option D))(O:aB)(m:SM)(C:Out->Prop)(hm:∀hd n A W goods ws O',Dr n A W goods ws->∃o,m ⟨lR ns hd n A W goods ws X,O'⟩=o/\C o):
 ∃o,aR (setM 1 (aN 2 cM (af (aa 0) (af (ar (.int 0)) ao)))) (aR (setM 2 (aq bf (ar (.int 1)) (aN 3 aK (af (aa 1) (af (ar (.int 45)) (af (ar (.int 4)) ao)))))) (aR (kc (yc (fe 3 g6 (af (aa 0) (af (ar (.int 0)) (af (aa 2) ao))))) (cQ (aZ (aF 3) (aZ (aF 4) cS)) 2)) (aR (setM 5 (aN 2 dG (af (aq bf (aa 1) (ar (.int 1))) (af (aa 2) ao)))) (aR (setM 6 (uq 0 2 iR (af (aa 5) (af (aN 4 gZ (af (aa 3) (af (aa 5) (af (aN 2 dG (af (aa 1) (af (aX bE (af (aa 3) ao)) ao))) (af (aa 1) ao))))) ao)))) m)))) ⟨some (vI ns)::x2::x3::x4::x5::U::x7::X,O⟩=o/\C o:=by
 obtain⟨hd,k0,_⟩:=tY ns 0
 obtain⟨n0,hn,n6⟩:=pq hd 45 (m:=4) (by decide)
 have hn:bH hd 45 4=(n0:Int):=hn
 obtain⟨n,en⟩:∃n,n=1+n0:=⟨_,rfl⟩
 have e2:setM 1 (aN 2 cM (af (aa 0) (af (ar (.int 0)) ao))) ⟨some (vI ns)::x2::x3::x4::x5::U::x7::X,O⟩=.next ⟨some (vI ns)::some (.int hd)::x3::x4::x5::U::x7::X,O⟩:=bh (c7 (ax (ag rfl) (ax (ay _ _) (aA _))) k0 (by simp) rfl rfl) rfl
 have e3:setM 2 (aq bf (ar (.int 1)) (aN 3 aK (af (aa 1) (af (ar (.int 45)) (af (ar (.int 4)) ao))))) ⟨some (vI ns)::some (.int hd)::x3::x4::x5::U::x7::X,O⟩=.next ⟨some (vI ns)::some (.int hd)::some (.int (n:Int))::x4::x5::U::x7::X,O⟩:=by
  have:(n:Int)=1+bH hd 45 4:=by rw[hn,en];omega
  rw[this]
  exact bh (aH (ay _ _) (d5 (ag rfl) (ay _ _) (ay _ _) (by decide)) (bV _ _)) rfl
 obtain⟨A,W,Om,kf,em,hA,hW,k1,mv,al,wl,w4⟩:=G9 ns 0 (n:=n) (by omega)
 have cA:(O++Om.map (shC O.length))[O.length+0]? =some (.lst (A.map vI)):=by
  rw[wn (by omega),PQ,xL,hA]
  simp only[PN,jG,xH]
 have cW:(O++Om.map (shC O.length))[O.length+kf]? =some (.lst (W.map vI)):=by
  rw[wn (by omega),PQ,xL,hW]
  simp only[PN,jG,xH]
 have ec:fe 3 g6 (af (aa 0) (af (ar (.int 0)) (af (aa 2) ao))) ⟨some (vI ns)::some (.int hd)::some (.int (n:Int))::x4::x5::U::x7::X,O⟩=.ok (.tup [.ptr (O.length+0),.ptr (O.length+kf)],⟨some (vI ns)::some (.int hd)::some (.int (n:Int))::x4::x5::U::x7::X,O++Om.map (shC O.length)⟩):=kB (ax (ag rfl) (ax (ay _ _) (ax (ag rfl) (aA _)))) em (by simp) rfl (by simp[shD,fb]) rfl
 generalize O++Om.map (shC O.length)=O1 at cA cW ec
 have ne:O.length+0≠O.length+kf:=by omega
 generalize O.length+0=ka at cA ec ne
 generalize O.length+kf=kw at cW ec ne
 have fz:pN [.ptr ka,.ptr kw] O1=some ([vII A,vII W],(O1.set ka .dead).set kw .dead):=by
  unfold pN
  rw[cA]
  dsimp only
  unfold pN
  rw[cN ne,cW]
  rfl
 have e4:kc (yc (fe 3 g6 (af (aa 0) (af (ar (.int 0)) (af (aa 2) ao))))) (cQ (aZ (aF 3) (aZ (aF 4) cS)) 2) ⟨some (vI ns)::some (.int hd)::some (.int (n:Int))::x4::x5::U::x7::X,O⟩=.next ⟨some (vI ns)::some (.int hd)::some (.int (n:Int))::some (vII A)::some (vII W)::U::x7::X,(O1.set ka .dead).set kw .dead⟩:=Jw (KC ec fz) (by rw[lM];rfl)
 generalize (O1.set ka Cell.dead).set kw Cell.dead=Y at e4
 obtain⟨goods,Og,eg,gl,gg,am⟩:=Ay (hd+1) (n:=n) (by omega)
 have e6:setM 5 (aN 2 dG (af (aq bf (aa 1) (ar (.int 1))) (af (aa 2) ao))) ⟨some (vI ns)::some (.int hd)::some (.int (n:Int))::some (vII A)::some (vII W)::U::x7::X,Y⟩=.next ⟨some (vI ns)::some (.int hd)::some (.int (n:Int))::some (vII A)::some (vII W)::some (sD goods)::x7::X,Y⟩:=bh (c7 (ax (aH (ag rfl) (ay _ _) (bV _ _)) (ax (ag rfl) (aA _))) eg rfl rfl (dB _)) rfl
 obtain⟨zs,Oz,ez,zl,zg,be⟩:=Ay hd (n:=A.length) (by omega)
 obtain⟨ws,Oo,eo,bi,an,ap⟩:=EH (A:=A) (goods:=goods) (zs:=zs) hd am (by omega) (λl hl=>by rw[mv.len l hl,gl]) (by omega) (by omega)
 have ae:ws.map (·.nm)=zs:=by rw[bi,Pu (by omega)]
 have co:ws.length=A.length:=by have:=congrArg QF ap;simpa using this
 have bm:xE goods ws:=⟨λw hw=>zg _ (by rw[<- ae];exact KE hw),by rw[ae];exact be,λw hw=>(an w hw).us,λw hw=>(an w hw).ms⟩
 have bn:cz (wsD ws)=true:=kT ws
 have e7:setM 6 (uq 0 2 iR (af (aa 5) (af (aN 4 gZ (af (aa 3) (af (aa 5) (af (aN 2 dG (af (aa 1) (af (aX bE (af (aa 3) ao)) ao))) (af (aa 1) ao))))) ao))) ⟨some (vI ns)::some (.int hd)::some (.int (n:Int))::some (vII A)::some (vII W)::some (sD goods)::x7::X,Y⟩=.next ⟨lR ns hd n A W goods ws X,Y⟩:=by
  have bp:aN 2 dG (af (aa 1) (af (aX bE (af (aa 3) ao)) ao)) ⟨some (vI ns)::some (.int hd)::some (.int (n:Int))::some (vII A)::some (vII W)::some (sD goods)::x7::X,Y⟩=.ok (sD zs,⟨some (vI ns)::some (.int hd)::some (.int (n:Int))::some (vII A)::some (vII W)::some (sD goods)::x7::X,Y⟩):=c7 (ax (ag rfl) (ax (cL (ax (ag rfl) (aA _)) (by rw[fQ,ut])) (aA _))) ez rfl rfl (dB _)
  have bt:aM [vII A,sD goods,sD zs,.int hd]=true:=by
   rw[eK,jv,kH]
   show (true&&(aM (goods.map D.str)&&(aM (zs.map D.str)&&(true&&true))))=true
   rw[dB,dB];rfl
  have bv:aN 4 gZ (af (aa 3) (af (aa 5) (af (aN 2 dG (af (aa 1) (af (aX bE (af (aa 3) ao)) ao))) (af (aa 1) ao)))) ⟨some (vI ns)::some (.int hd)::some (.int (n:Int))::some (vII A)::some (vII W)::some (sD goods)::x7::X,Y⟩=.ok (wsD ws,⟨some (vI ns)::some (.int hd)::some (.int (n:Int))::some (vII A)::some (vII W)::some (sD goods)::x7::X,Y⟩):=c7 (ax (ag rfl) (ax (ag rfl) (ax bp (ax (ag rfl) (aA _))))) eo bt rfl bn
  have bw:aM [sD goods,wsD ws]=true:=by
   show (aM (goods.map D.str)&&(aM (ws.map wD)&&true))=true
   rw[dB,kT];rfl
  exact t8 (i:=6) (s':=⟨some (vI ns)::some (.int hd)::some (.int (n:Int))::some (vII A)::some (vII W)::some (sD goods)::x7::X,Y⟩) (Gx (args:=[sD goods,wsD ws]) (ax (ag rfl) (ax bv (aA _))) bw rfl (JF gg am bm (by omega) (by omega)) (gC _ _))
 obtain⟨o,bB,ho⟩:=hm hd n A W goods ws Y ⟨wl,w4,gl,by omega,al,mv,ap⟩
 exact⟨o,aV e2 (aV e3 (aV e4 (aV e6 (aV e7 bB)))),ho⟩
theorem Li(ch:chL goods ws=A)(gl:goods.length=n)(Y:way.length=ws.length):lvL goods ws way=ft A way n:=by
 have ll:(lvL goods ws way).length=n:=by unfold lvL gx;simp[gl]
 refine kP (by rw[lU,ll]) λg U=> ?_
 rw[ll] at U
 have e:jK goods ws g=(chL goods ws).map (nth · g):=by unfold jK chL;rw[wp];rfl
 have v:nth (lvL goods ws way) g=aP (jK goods ws g) way:=by
  unfold nth lvL gx
  rw[sH,wp,xL,Rm (by omega)]
  rfl
 rw[ve U,v,mP Y,e,<- ch]
 unfold fN
 rw[show (chL goods ws).length=ws.length by simp]
 exact fB λj _=>by rw[u4,Qn]
theorem He(hm:aa 9 s=.ok (vI x,s)):∃m,rC (aa 9) (ar (.int 0)) s=.ok (.int m,s)/\(0<=m↔∀t∈x,0<=t):=by
 have c:pA s.o (vI x)=some x:=by
  unfold pA
  show mU (x.map D.int)=some x
  exact rE _
 cases x with
 | nil=>
  refine⟨0, ?_,by simp⟩
  unfold rC
  rw[hm,ak,ay,ak]
  dsimp only
  rw[c]
 | cons a x=>
  refine⟨p8 a x, ?_, ?_,λh=>h _ (vf x a)⟩
  ·unfold rC
   rw[hm,ak,ay,ak]
   dsimp only
   rw[c]
  ·intro h t ht
   have q:=xZ x a
   rcases wT.mp ht with rfl | ht
   ·omega
   ·have:=q.2 t ht;omega
structure Gd(n:Nat)(A:List (List Int))(gd:List Int):Prop where
 len:gd.length=A.length
 nn:∀t∈gd,0<=t
 bal:ft A gd n=tz n 0
 sz:SzL 100 gd
theorem IV{w:List Int}(hl:w.length=A.length)(lo:∀t∈w,0<=t/\t<=2)(Y:∀g,g<n->fN w A g=0):Gd n A w:=⟨hl,λt ht=>(lo t ht).1,by
 refine kP (by rw[lU];simp) λg U=> ?_
 rw[lU] at U
 rw[ve U,Y g U]
 unfold nth
 rw[sH,Gc,if_pos U]
 rfl,λt ht=>by
 have:=lo t ht
 unfold Sz
 omega⟩
theorem CI(y:YOk goods ws)(ch:chL goods ws=A)(gl:goods.length=n)(Y:way.length=ws.length)(h0:∀t∈way,0<=t)(sz:SzL 100 way):∃Op Ob,d4 [yD goods ws,vI way] []=.ok (.str (if decide (ft A way n=tz n 0)=true then "told" else "balance"),Op)/\eH [yD goods ws,vI way] []=.ok (.str (if decide (ft A way n=tz n 0)=true then "told" else "balance"),Ob):=by
 have lv:=Li ch gl Y
 have lb:=Nc y Y h0 sz
 have U:(∀x∈lvL goods ws way,x=0)↔ft A way n=tz n 0:=by
  rw[lv]
  constructor
  ·intro h
   rw[List.eq_replicate_iff]
   exact⟨lU _ _ _,h⟩
  ·intro h x hx
   rw[h] at hx
   exact(QU.mp hx).2
 by_cases hz:∀x∈lvL goods ws way,x=0
 ·rw[decide_eq_true (U.mp hz),if_pos rfl]
  rw[if_pos (Eh.mpr hz)] at lb
  obtain⟨d,O,ds,e,hc⟩:=EY y Y h0 hz sz
  obtain⟨O',e'⟩:=JE e hc
  exact⟨_,_,e',lb⟩
 ·rw[decide_eq_false λq=>hz (U.mpr q),if_neg (by decide)]
  rw[if_neg λq=>hz (Eh.mp q)] at lb
  obtain⟨s,e⟩:=Ef y Y h0 hz sz
  exact⟨_,_,ED e rfl Nq,lb⟩
theorem Lj{ns:List Int}{hd c:Int}{gd:List Int}{x9 x10 x11:Option D}{O:aB}(dr:Dr n A W goods ws)(g:Gd n A gd):
 ∃y9 ap az O',uc ⟨lR ns hd n A W goods ws [some (vI gd),some (.int c),x9,x10,x11],O⟩=.next ⟨lR ns hd n A W goods ws [some (vI gd),some (.int c),y9,ap,az],O'⟩:=by
 have n4:=dr.n4
 have al:=dr.al
 have gl:=dr.gl
 have Y:=dr.ch
 have bp:ws.length=A.length:=by have:=congrArg QF Y;simpa using this
 have y:YOk goods ws:=⟨by omega,by omega,by rw[Y];exact dr.mv.sz⟩
 obtain⟨way,Ol,el,sz,wl⟩:=JZ c (m:=A.length) (by omega)
 have ab:∀{X:List (Option D)} {O:aB},aX bE (af (aa 3) ao) ⟨lR ns hd n A W goods ws X,O⟩=.ok (.int (A.length:Int),⟨lR ns hd n A W goods ws X,O⟩):=cL (ax (ag rfl) (aA _)) (by rw[fQ,ut])
 have e9:setM 9 (aN 2 k8 (af (aa 8) (af (aX bE (af (aa 3) ao)) ao))) ⟨lR ns hd n A W goods ws [some (vI gd),some (.int c),x9,x10,x11],O⟩=.next ⟨lR ns hd n A W goods ws [some (vI gd),some (.int c),some (vI way),x10,x11],O⟩:=bh (c7 (ax (ag rfl) (ax ab (aA _))) el (by simp) rfl (by simp)) rfl
 have a1:setM 10 (ar (.str ("way" :Str))) ⟨lR ns hd n A W goods ws [some (vI gd),some (.int c),some (vI way),x10,x11],O⟩=.next ⟨lR ns hd n A W goods ws [some (vI gd),some (.int c),some (vI way),some (.str ("way" :Str)),x11],O⟩:=bh (ay _ _) rfl
 have ae:∃(U:Str) (O1 Op Ob:aB),ifS (jM (a7 (aq eqD (aX bE (af (aa 9) ao)) (aX bE (af (aa 3) ao)))) (a7 (aq geD (rC (aa 9) (ar (.int 0))) (ar (.int 0))))) (setM 10 (aq ixD (dI (af (ar (.str ("balance" :Str))) (af (ar (.str ("told" :Str))) ao))) (aX intOf (af (aq eqD (gy (fe 3 jE (af (aa 3) (af (aa 9) (af (aa 2) ao))))) (bx 1 [] (cH (af (aa 2) ao)) (aF 0) bj (ar (.int 0)))) ao)))) bI ⟨lR ns hd n A W goods ws [some (vI gd),some (.int c),some (vI way),some (.str ("way" :Str)),x11],O⟩=.next ⟨lR ns hd n A W goods ws [some (vI gd),some (.int c),some (vI way),some (.str U),x11],O1⟩/\d4 [yD goods ws,vI way] []=.ok (.str U,Op)/\eH [yD goods ws,vI way] []=.ok (.str U,Ob):=by
  have t1:a7 (aq eqD (aX bE (af (aa 9) ao)) (aX bE (af (aa 3) ao))) ⟨lR ns hd n A W goods ws [some (vI gd),some (.int c),some (vI way),some (.str ("way" :Str)),x11],O⟩=.ok (decide ((way.length:Int)=(A.length:Int)),⟨lR ns hd n A W goods ws [some (vI gd),some (.int c),some (vI way),some (.str ("way" :Str)),x11],O⟩):=cK (aH (cL (ax (ag rfl) (aA _)) (by rw[fQ,ut])) ab (lW _ _))
  obtain⟨mm,em,mi⟩:=He (x:=way) (s:=⟨lR ns hd n A W goods ws [some (vI gd),some (.int c),some (vI way),some (.str ("way" :Str)),x11],O⟩) (ag rfl)
  have t2:a7 (aq geD (rC (aa 9) (ar (.int 0))) (ar (.int 0))) ⟨lR ns hd n A W goods ws [some (vI gd),some (.int c),some (vI way),some (.str ("way" :Str)),x11],O⟩=.ok (decide (0<=mm),⟨lR ns hd n A W goods ws [some (vI gd),some (.int c),some (vI way),some (.str ("way" :Str)),x11],O⟩):=cK (aH em (ay _ _) (Ka _ _))
  have ta:=qw t1 t2
  cases hb:(decide ((way.length:Int)=(A.length:Int))&&decide (0<=mm)) with
  | false=>
   have bad:vR ws way:=by
    by_cases q:way.length=ws.length
    ·refine .inr ?_
     have q2:¬0<=mm:=λz=>by
      rw[decide_eq_true (show (way.length:Int)=(A.length:Int) by omega),decide_eq_true z] at hb
      cases hb
     rw[mi] at q2
     have:∃t,t∈way/\¬0<=t:=by
      false_or_by_contra
      rename_i z
      exact q2 λt ht=>by
       false_or_by_contra
       rename_i z2
       exact z ⟨t,ht,z2⟩
     obtain⟨t,ht,h⟩:=this
     exact⟨t,ht,by omega⟩
    ·exact .inl q
   obtain⟨s,e⟩:=Eg (goods:=goods) bad (by omega)
   exact⟨"way",O,[],[],cU ta hb (bC _),ED e rfl Ju,LV bad (by omega)⟩
  | true=>
   have h1:=Po _ _▸hb
   have a3:way.length=ws.length:=by have:=of_decide_eq_true h1.1;omega
   have h0:=mi.mp (of_decide_eq_true h1.2)
   obtain⟨Op,Ob,ep,eb⟩:=CI y Y gl a3 h0 sz
   have ls:=Ki (A:=A) (way:=way) (n:=n) (by omega) (by omega) dr.mv.len (by omega) (λx hx=>(sz x hx).mono (by decide)) dr.mv.sz
   generalize ft A way n=lf at ls ep eb
   have ec:fe 3 jE (af (aa 3) (af (aa 9) (af (aa 2) ao))) ⟨lR ns hd n A W goods ws [some (vI gd),some (.int c),some (vI way),some (.str ("way" :Str)),x11],O⟩=.ok (.ptr (O.length+0),⟨lR ns hd n A W goods ws [some (vI gd),some (.int c),some (vI way),some (.str ("way" :Str)),x11],O++[Cell.lst (lf.map D.int)]⟩):=kB (ax (ag rfl) (ax (ag rfl) (ax (ag rfl) (aA _)))) ls (by rw[eK,jv,kH];simp) rfl (iU _ _) (by simp only[AC,PB,jG,kx])
   have ef:=my ec (by rw[RY];exact iy) rfl
   have ez:=du (l:=u8 n) (item:=λi:Nat=>D.int (i:Int)) (out:=λ_=>.int 0) (caps:=[]) (im:=cH (af (aa 2) ao)) (e:=ar (.int 0)) (k:=none) (s:=⟨lR ns hd n A W goods ws [some (vI gd),some (.int c),some (vI way),some (.str ("way" :Str)),x11],(O++[Cell.lst (lf.map D.int)]).set (O.length+0) .dead⟩) (by
    rw[<- eC]
    exact dy (ax (ag rfl) (aA _)) (by omega)) trivial (by simp;omega) (λ_ _=>ay _ _)
   rw[show (u8 n).map (λ_=>D.int 0)=(tz n (0:Int)).map D.int by rw[QV];simp[Rh]] at ez
   refine⟨_,_,Op,Ob,fK ta hb (bh (aH (hU (ax (ay _ _) (ax (ay _ _) (aA _))) (by simp)) (cL (ax (aH ef ez (GH _ _)) (aA _)) (gW _)) ?_) rfl),ep,eb⟩
   cases decide (lf=tz n 0) with
   | true=>exact xx _ _ _
   | false=>exact xn _ _
 obtain⟨U,O1,Op,Ob,ae,hP,hB⟩:=ae
 have a5:setM 11 (aX iD (af (aa 9) ao)) ⟨lR ns hd n A W goods ws [some (vI gd),some (.int c),some (vI way),some (.str U),x11],O1⟩=.next ⟨lR ns hd n A W goods ws [some (vI gd),some (.int c),some (vI way),some (.str U),some (vI way)],O1⟩:=bh (cL (ax (ag rfl) (aA _)) (jm _)) rfl
 have cp:aN 2 d4 (af (aa 6) (af (aa 11) ao)) ⟨lR ns hd n A W goods ws [some (vI gd),some (.int c),some (vI way),some (.str U),some (vI way)],O1⟩=.ok (.str U,⟨lR ns hd n A W goods ws [some (vI gd),some (.int c),some (vI way),some (.str U),some (vI way)],O1⟩):=c7 (ax (ag rfl) (ax (ag rfl) (aA _))) hP (qs _ _ _) rfl rfl
 have cb:aN 2 eH (af (aa 6) (af (aa 11) ao)) ⟨lR ns hd n A W goods ws [some (vI gd),some (.int c),some (vI way),some (.str U),some (vI way)],O1⟩=.ok (.str U,⟨lR ns hd n A W goods ws [some (vI gd),some (.int c),some (vI way),some (.str U),some (vI way)],O1⟩):=c7 (ax (ag rfl) (ax (ag rfl) (aA _))) hB (qs _ _ _) rfl rfl
 have ce:=g.len
 obtain⟨Og,cg,eg,_⟩:=CI y Y gl (way:=gd) (by omega) g.nn g.sz
 rw[decide_eq_true g.bal,if_pos rfl] at eg
 refine⟨some (vI way),some (.str U),some (vI way),O1, ?_⟩
 rw[uc]
 refine aV e9 (aV a1 (aV ae (aV a5 (aV (cU (wL (cK (aH cp (ag rfl) (xG _ _))) (by simp) (wL (cK (aH cb (ag rfl) (xG _ _))) (by simp) (cK (aH (ag rfl) (ag rfl) (Hd _ _))))) (by simp) (bC _)) (cU (cK (aH (c7 (ax (ag rfl) (ax (cL (ax (ag rfl) (aA _)) (jm _)) (aA _))) eg (qs _ _ _) rfl rfl) (ay _ _) (xG _ _))) (by simp) (bC _))))))
theorem GI(ns:List Int)(h:ns.length<=63):∃O,zO [.lst (ns.map D.int)] []=.ok (.bl true,O):=by
 suffices main:∃o,Ee ⟨[some (vI ns),none,none,none,none,none,none,none,none,none,none,none],[]⟩=o/\∃s,o=Out.ret (.bl true) s by
  obtain⟨o,h,s,rfl⟩:=main
  exact CH ⟨s,h⟩
 rw[Ee]
 refine Ic ns none none none none none none [none,none,none,none,none] [] _ _ λhd n A W goods ws O dr=> ?_
 have n4:=dr.n4
 have al:=dr.al
 have w4:=dr.w4
 have ez:=du (l:=A) (item:=vI) (out:=λ_=>.int 0) (caps:=[]) (im:=listI (aa 3)) (e:=ar (.int 0)) (k:=none) (s:=⟨lR ns hd n A W goods ws [none,none,none,none,none],O⟩) (by rw[cv,ag (i:=3) rfl,ak];rfl) trivial (by omega) (λ_ _=>ay _ _)
 rw[show A.map (λ_=>D.int 0)=(tz A.length (0:Int)).map D.int by rw[QV];simp[Rh]] at ez
 have e7:∃gd,setM 7 (aq ixD (aq bf (aa 4) (dI (af (bx 1 [] (listI (aa 3)) (aF 0) bj (ar (.int 0))) ao))) (ar (.int 0))) ⟨lR ns hd n A W goods ws [none,none,none,none,none],O⟩=.next ⟨lR ns hd n A W goods ws [some (vI gd),none,none,none,none],O⟩/\Gd n A gd:=by
  have ea:aq bf (aa 4) (dI (af (bx 1 [] (listI (aa 3)) (aF 0) bj (ar (.int 0))) ao)) ⟨lR ns hd n A W goods ws [none,none,none,none,none],O⟩=.ok (.lst (W.map vI++[vI (tz A.length 0)]),⟨lR ns hd n A W goods ws [none,none,none,none,none],O⟩):=aH (ag rfl) (hU (ax ez (aA _)) (by simp)) (lJ (by simp;omega))
  cases W with
  | nil=>exact⟨_,bh (aH ea (ay _ _) (xn _ _)) rfl,IV (by simp) (λt ht=>by rw[(QU.mp ht).2];decide) λg _=>by
   unfold fN
   refine mY λj _=> ?_
   have:nth (tz A.length (0:Int)) j=0:=by
    unfold nth
    rw[sH,Gc]
    split <;> rfl
   rw[this,Qo]⟩
  | cons w W=>
   have wo:=dr.mv.ws w wv
   exact⟨w,bh (aH ea (ay _ _) (xn _ _)) rfl,IV (dr.wl w wv) wo.lo wo.bal⟩
 obtain⟨gd,e7,g⟩:=e7
 obtain⟨c5,k5,_⟩:=tY ns 5
 have k5:cM [vI ns,.int 5] []=.ok (.int c5,[]):=k5
 obtain⟨ks,ae,bd⟩:=IH ns 6 13
 have ei:listI (aq bf (dI (af (aN 2 cM (af (aa 0) (af (ar (.int 5)) ao))) ao)) (slM (aa 0) (part (ar (.int 6))) (part (ar (.int 13))))) ⟨lR ns hd n A W goods ws [some (vI gd),none,none,none,none],O⟩=.ok (((c5::ks).map D.int,none),⟨lR ns hd n A W goods ws [some (vI gd),none,none,none,none],O⟩):=by
  have eb:aq bf (dI (af (aN 2 cM (af (aa 0) (af (ar (.int 5)) ao))) ao)) (slM (aa 0) (part (ar (.int 6))) (part (ar (.int 13)))) ⟨lR ns hd n A W goods ws [some (vI gd),none,none,none,none],O⟩=.ok (vI (c5::ks),⟨lR ns hd n A W goods ws [some (vI gd),none,none,none,none],O⟩):=aH (hU (ax (c7 (ax (ag rfl) (ax (ay _ _) (aA _))) k5 (by simp) rfl rfl) (aA _)) (by simp)) (Ht (ag rfl) (oU (ay _ _)) (oU (ay _ _)) kr ae) (by rw[lJ (by simp;omega)];rfl)
  rw[cv,eb,ak]
  rfl
 obtain⟨s',el,y8,y9,az,a1,O',bp⟩:=yH (ok:=okC ((c5::ks).map D.int) none) (g:=aF 8) (body:=uc)
  (λs=>∃x8 x9 U Y O,s=⟨lR ns hd n A W goods ws [some (vI gd),x8,x9,U,Y],O⟩) (λ_ _=>trivial) ((c5::ks).map D.int) (by
   rintro d a2 s ⟨x8,x9,U,Y,O,rfl⟩
   obtain⟨c,_,rfl⟩:=At.mp a2
   obtain⟨y9,az,a1,O',e⟩:=Lj (ns:=ns) (hd:=hd) (c:=c) (x9:=x9) (x10:=U) (x11:=Y) (O:=O) dr g
   exact⟨⟨lR ns hd n A W goods ws [some (vI gd),some (.int c),x9,U,Y],O⟩,_,rfl,.inl e,_,_,_,_,_,rfl⟩) ⟨lR ns hd n A W goods ws [some (vI gd),none,none,none,none],O⟩ ⟨none,none,none,none,O,rfl⟩
 exact⟨_,aV e7 (aV ((dW ei).trans el) (bD (ay _ _))),_,rfl⟩
theorem all_mk {l:R1} {w:World} {K:sB} {h:Heap} {mg:Str->Option Value} {fa hX hY h3 h4 h5 h6 h7 i2 ap an ab b7 cr bt cs dL cb cu cw dV bw bv:Addr} (X:K.In h) (G:h.Ns mainGlobals mg) (n2:mg "law" =some (.ref fa)) (am:l.prog.given.tree=none)
 {kd kf kg ki kk kl km kt ku kX k0 k1 k2 k3 k4 ia:Option Addr} {k5 la lb lc lf lh li lk:Array (Option Value)} {lm ln lp lx ih ly lz lA lB lT ii mc md mh mi ml ij mm mp mq mr mu il mB mI mN m0 m1 io m2 m3 m6 m7 na is nb nc nd nf nh iv nl nn iw ix i0 hK i1:Value} {ek eL e0:Tok}
 (gT:Ch K mainGlobals "Yard" =some (some (.ref ap)))
 (hL:QM K ap Str.empty=true)
 (hM:QW K ap=true)
 (hN:RD K ap=true)
 (hO:EQ K (.ref ap) "__setattr__" =some (some (.builtin "object.__setattr__")))
 (hP:R0 K ap=true)
 (hQ:IR K (.ref ap)=true)
 (fX:Ch K mainGlobals "NoWay" =some (some (.ref an)))
 (c6:Ch K mainGlobals "NoBalance" =some (some (.ref ab)))
 (ef:Ch K mainGlobals "TooMany" =some (some (.ref b7)))
 (er:Ch K mainGlobals "NoWork" =some (some (.ref cr)))
 (c8:Ch K mainGlobals "NoWeights" =some (some (.ref bt)))
 (et:Ch K mainGlobals "NoText" =some (some (.ref cs)))
 (f0:Ch K mainGlobals "NoRow" =some (some (.ref dL)))
 (eg:Ch K mainGlobals "NoRatio" =some (some (.ref cb)))
 (eu:Ch K mainGlobals "NoName" =some (some (.ref cu)))
 (ev:Ch K mainGlobals "NoGood" =some (some (.ref cw)))
 (f1:Ch K mainGlobals "NoFit" =some (some (.ref dV)))
 (d0:Ch K mainGlobals "NoAmount" =some (some (.ref bw)))
 (db:Ch K mainGlobals "YardError" =some (some (.ref bv)))
 (no:RE K (.builtin "object.__class__") "__get__" =some (some (.builtin "getset_descriptor.__get__")))
 (nq:SV K (.builtin "object.__class__")=some true)
 (hs:EQ K (.ref an) "__getattribute__" =some (some (.builtin "BaseException.__getattribute__")))
 (hv:EQ K (.ref an) "__getattr__" =some none)
 (hw:EQ K (.ref an) "__class__" =some (some (.builtin "object.__class__")))
 (hA:Q3 K an (.type "object")=some true)
 (hB:Q3 K an (.type "BaseException")=some true)
 (e4:EQ K (.ref ab) "__getattribute__" =some (some (.builtin "BaseException.__getattribute__")))
 (e5:EQ K (.ref ab) "__getattr__" =some none)
 (e6:EQ K (.ref ab) "__class__" =some (some (.builtin "object.__class__")))
 (e7:Q3 K ab (.type "object")=some true)
 (e8:Q3 K ab (.type "BaseException")=some true)
 (hC:Qe K an bmV "ValueError.__new__" =true)
 (e9:Qe K ab bmV "ValueError.__new__" =true)
 (Y:Qg K (.ref an) [.ref bw,.ref dV,.ref cw,.ref cu,.ref cb,.ref dL,.ref cs,.ref bt,.ref cr,.ref b7]=some false)
 (U:Qg K (.ref ab) [.ref bw,.ref dV,.ref cw,.ref cu,.ref cb,.ref dL,.ref cs,.ref bt,.ref cr,.ref b7]=some false)
 (ci:Pd K (.ref an) (.type "ValueError")=some true)
 (b1:Pd K (.ref ab) (.type "ValueError")=some true)
 (el:Pd K (.ref an) (.ref an)=some true)
 (cW:Pd K (.ref ab) (.ref an)=some false)
 (c0:Pd K (.ref an) (.ref ab)=some false)
 (b4:Pd K (.ref ab) (.ref ab)=some true)
 (c1:P2 K (.ref an) (.ref bv)=some true)
 (b5:P2 K (.ref ab) (.ref bv)=some true)
 (c2:EQ K (.ref ap) "held_works" =some none)
 (cg:EQ K (.ref ap) "held_changes" =some none)
 (c3:EQ K (.ref ap) "held_goods" =some none)
 (l0:FK K "is_whole" qY)
 (l1:FK K "measure_of_two" j1)
 (l2:FK K "measure" sN)
 (l3:FK K "lowest" u5)
 (l4:FK K "ratio" yd)
 (l5:FK K "sum_of_products" jL)
 (l6:FK K "unit" Bo)
 (l7:FK K "units" xp)
 (l8:FK K "offset" vZ)
 (l9:FK K "first_not_nought" jh)
 (n3:FK K "places_of" qc)
 (n5:FK K "is_among" qC)
 (n6:FK K "are_neighbours" kn)
 (oc:FK K "lone_by_one_more" jt)
 (og:FK K "lone" BM)
 (ol:FK K "check_fit" pX)
 (on:FK K "tightest_place" ke)
 (ov:FK K "shares" vC)
 (oD:EQ K (.ref ap) "check_way" =some (some (.ref hX)))
 (oL:Qb K (.ref hX)=true)
 (o0:K.lookup hX=some ⟨lm,kd,.func (Ix "check_way" "Yard.check_way" (dM fq) (cE fq) (aJ fq) .none ln lp lx kf ih ly),k5⟩)
 (o1:Pr K ih "Yard.check_way" =true)
 (nw:IR K (.ref hX)=true)
 (o2:EQ K (.ref ap) "row" =some (some (.ref hY)))
 (pa:Qb K (.ref hY)=true)
 (pc:K.lookup hY=some ⟨lz,kg,.func (Ix "row" "Yard.row" (dM jz) (cE jz) (aJ jz) .none lA lB lT ki ii mc),la⟩)
 (pd:Pr K ii "Yard.row" =true)
 (ny:IR K (.ref hY)=true)
 (pg:EQ K (.ref ap) "rows" =some (some (.ref h3)))
 (pi:Qb K (.ref h3)=true)
 (pk:K.lookup h3=some ⟨md,kk,.func (Ix "rows" "Yard.rows" (dM iS) (cE iS) (aJ iS) .none mh mi ml kl ij mm),lb⟩)
 (pm:Pr K ij "Yard.rows" =true)
 (nz:IR K (.ref h3)=true)
 (po:EQ K (.ref ap) "leaves" =some (some (.ref h4)))
 (pp:Qb K (.ref h4)=true)
 (pr:K.lookup h4=some ⟨mp,km,.func (Ix "leaves" "Yard.leaves" (dM gA) (cE gA) (aJ gA) .none mq mr mu kt il mB),lc⟩)
 (pu:Pr K il "Yard.leaves" =true)
 (nQ:IR K (.ref h4)=true)
 (pw:EQ K (.ref ap) "balanced" =some (some (.ref h5)))
 (py:Qb K (.ref h5)=true)
 (p0:K.lookup h5=some ⟨mI,ku,.func (Ix "balanced" "Yard.balanced" (dM fP) (cE fP) (aJ fP) .none mN m0 m1 kX io m2),lf⟩)
 (p3:Pr K io "Yard.balanced" =true)
 (nT:IR K (.ref h5)=true)
 (p4:EQ K (.ref ap) "names" =some (some (.ref h6)))
 (p5:Qb K (.ref h6)=true)
 (qh:K.lookup h6=some ⟨m3,k0,.func (Ix "names" "Yard.names" (dM ig) (cE ig) (aJ ig) .none m6 m7 na k1 is nb),lh⟩)
 (qn:Pr K is "Yard.names" =true)
 (nU:IR K (.ref h6)=true)
 (qq:FK K "parted" vB)
 (qF:FK K "is_name" tV)
 (qS:FK K "check_many" ou)
 (qV:FK K "check_name" oY)
 (q0:FK K "check_goods" nj)
 (q3:FK K "check_good" oR)
 (q4:FK K "check_amount" lZ)
 (q5:FK K "check_parts" nk)
 (q6:FK K "check_works" ng)
 (q7:FK K "copy_work" pV)
 (q8:FK K "amount_of" pU)
 (q9:FK K "change_of" pH)
 (ra:EQ K (.ref ap) "__init__" =some (some (.ref h7)))
 (rb:Qb K (.ref h7)=true)
 (rc:K.lookup h7=some ⟨nc,k2,.func (Ix "__init__" "Yard.__init__" (dM iQ) (cE iQ) (aJ iQ) .none nd nf nh k3 iv nl),li⟩)
 (rd:Pr K iv "Yard.__init__" =true)
 (re:IR K (.ref h7)=true)
 (ri:FK K "_law_cell" qW)
 (ro:FK K "_law_pick" qH)
 (rp:FK K "_law_names" p6)
 (rq:FK K "_law_move" rG)
 (rr:FK K "_law_moves" pT)
 (rs:FK K "_law_works" qb)
 (ru:FK K "_law_left" qL)
 (rv:FK K "_law_word_of" nt)
 (rx:FK K "_law_parted" n9)
 (ry:FK K "_law_balanced" lK)
 (rz:FK K "_law_list" rm)
 (n1:Ch K mainGlobals "law" =some (some (.ref i2)))
 (rR:K.lookup i2=some ⟨nn,k4,.func (Ix "law" "law" (dM nO) (cE nO) (aJ nO) .none iw ix i0 ia hK i1),lk⟩)
 (rZ:Pr K hK "law" =true)
 (r0:IR K (.ref i2)=true)
 (be:Ch K mainGlobals "isinstance" =some none)
 (ck:Ch K mainGlobals "int" =some none)
 (hr:Ch K mainGlobals "bool" =some none)
 (i7:Ch K mainGlobals "abs" =some none)
 (cc:Ch K mainGlobals "list" =some none)
 (f4:Ch K mainGlobals "zip" =some none)
 (f5:Ch K mainGlobals "sum" =some none)
 (bm:Ch K mainGlobals "range" =some none)
 (a5:Ch K mainGlobals "enumerate" =some none)
 (bn:Ch K mainGlobals "len" =some none)
 (hD:Ch K mainGlobals "sorted" =some none)
 (hR:Ch K mainGlobals "any" =some none)
 (hS:Ch K mainGlobals "all" =some none)
 (jp:Ch K mainGlobals "max" =some none)
 (fc:Ch K mainGlobals "ValueError" =some none)
 (js:Ch K mainGlobals "min" =some none)
 (em:Ch K mainGlobals "MOST_LETTERS" =some (some (.int 8 ek)))
 (fh:Ch K mainGlobals "MOST_GOODS" =some (some (.int 10 eL)))
 (fl:Ch K mainGlobals "MOST_WORKS" =some (some (.int 10 e0))):
 ∃fd:FuncData,(∀(s:Shared) (v:Value),BindsTo s fd ⟨[v],[]⟩ [("_law_script",v)])/\∀base:Heap,K.In base->base.Ns mainGlobals mg->ip l.prog w K mg base (CXE l.prog w) 44 fa fd ["_law_script"] (spM K (caK K) 1 zO):=by
 have e:=n2.symm.trans (NE X G n1)
 cases e
 have az:caK K 0=ap:=by show clsAt K "Yard" =_;unfold clsAt;rw[gT]
 have bb:Cls K (caK K 0):=by rw[az];exact⟨hL,hM,hN,hO⟩
 have a1:caK K 1=an:=by show clsAt K "NoWay" =_;unfold clsAt;rw[fX]
 have ae:caK K 4=ab:=by show clsAt K "NoBalance" =_;unfold clsAt;rw[c6]
 have cm:caK K 13=b7:=by show clsAt K "TooMany" =_;unfold clsAt;rw[ef]
 have dn:caK K 12=cr:=by show clsAt K "NoWork" =_;unfold clsAt;rw[er]
 have b2:caK K 11=bt:=by show clsAt K "NoWeights" =_;unfold clsAt;rw[c8]
 have dp:caK K 9=cs:=by show clsAt K "NoText" =_;unfold clsAt;rw[et]
 have ec:caK K 8=dL:=by show clsAt K "NoRow" =_;unfold clsAt;rw[f0]
 have cn:caK K 10=cb:=by show clsAt K "NoRatio" =_;unfold clsAt;rw[eg]
 have dr:caK K 7=cu:=by show clsAt K "NoName" =_;unfold clsAt;rw[eu]
 have dt:caK K 6=cw:=by show clsAt K "NoGood" =_;unfold clsAt;rw[ev]
 have ed:caK K 5=dV:=by show clsAt K "NoFit" =_;unfold clsAt;rw[f1]
 have ce:caK K 3=bw:=by show clsAt K "NoAmount" =_;unfold clsAt;rw[d0]
 have b3:caK K 2=bv:=by show clsAt K "YardError" =_;unfold clsAt;rw[db]
 have f2:mg "NoWay" =some (.ref (caK K 1)):=by rw[a1];exact NE X G fX
 have dc:mg "NoBalance" =some (.ref (caK K 4)):=by rw[ae];exact NE X G c6
 have g0:mg "TooMany" =some (.ref (caK K 13)):=by rw[cm];exact NE X G ef
 have g8:mg "NoWork" =some (.ref (caK K 12)):=by rw[dn];exact NE X G er
 have fr:mg "NoWeights" =some (.ref (caK K 11)):=by rw[b2];exact NE X G c8
 have he:mg "NoText" =some (.ref (caK K 9)):=by rw[dp];exact NE X G et
 have hE:mg "NoRow" =some (.ref (caK K 8)):=by rw[ec];exact NE X G f0
 have g1:mg "NoRatio" =some (.ref (caK K 10)):=by rw[cn];exact NE X G eg
 have hf:mg "NoName" =some (.ref (caK K 7)):=by rw[dr];exact NE X G eu
 have hg:mg "NoGood" =some (.ref (caK K 6)):=by rw[dt];exact NE X G ev
 have hF:mg "NoFit" =some (.ref (caK K 5)):=by rw[ed];exact NE X G f1
 have f8:mg "NoAmount" =some (.ref (caK K 3)):=by rw[ce];exact NE X G d0
 have dd:mg "YardError" =some (.ref (caK K 2)):=by rw[b3];exact NE X G db
 have cA:ExK K (caK K 1):=by rw[a1];exact⟨hs,hv,hw,no,nq,hA,hB⟩
 have bi:ExK K (caK K 4):=by rw[ae];exact⟨e4,e5,e6,no,nq,e7,e8⟩
 have hh:Qe K (caK K 1) bmV "ValueError.__new__" =true:=by rw[a1];exact hC
 have ew:Qe K (caK K 4) bmV "ValueError.__new__" =true:=by rw[ae];exact e9
 have ac:∀c b,bc c=some b->ExK K (caK K c)/\Qg K (.ref (caK K c)) ([caK K 3,caK K 5,caK K 6,caK K 7,caK K 10,caK K 8,caK K 9,caK K 11,caK K 12,caK K 13].map Value.ref)=some b:=by
  intro c b h
  unfold bc at h
  split at h
  ·cases h;exact⟨cA,by show Qg K (.ref (caK K 1)) [.ref (caK K 3),.ref (caK K 5),.ref (caK K 6),.ref (caK K 7),.ref (caK K 10),.ref (caK K 8),.ref (caK K 9),.ref (caK K 11),.ref (caK K 12),.ref (caK K 13)]=_;rw[a1,ce,ed,dt,dr,cn,ec,dp,b2,dn,cm];exact Y⟩
  ·cases h;exact⟨bi,by show Qg K (.ref (caK K 4)) [.ref (caK K 3),.ref (caK K 5),.ref (caK K 6),.ref (caK K 7),.ref (caK K 10),.ref (caK K 8),.ref (caK K 9),.ref (caK K 11),.ref (caK K 12),.ref (caK K 13)]=_;rw[ae,ce,ed,dt,dr,cn,ec,dp,b2,dn,cm];exact U⟩
  ·cases h
 have en:∀c b,jY c=some b->ExK K (caK K c)/\Pd K (.ref (caK K c)) (.type "ValueError")=some b:=by
  intro c b h
  unfold jY at h
  split at h
  ·cases h;exact⟨cA,by rw[a1];exact ci⟩
  ·cases h;exact⟨bi,by rw[ae];exact b1⟩
  ·cases h
 have hj:∀c b,oA c=some b->ExK K (caK K c)/\Pd K (.ref (caK K c)) (.ref (caK K 1))=some b:=by
  intro c b h
  unfold oA at h
  split at h
  ·cases h;exact⟨cA,by rw[a1];exact el⟩
  ·cases h;exact⟨bi,by rw[ae,a1];exact cW⟩
  ·cases h
 have ey:∀c b,lC c=some b->ExK K (caK K c)/\Pd K (.ref (caK K c)) (.ref (caK K 4))=some b:=by
  intro c b h
  unfold lC at h
  split at h
  ·cases h;exact⟨cA,by rw[a1,ae];exact c0⟩
  ·cases h;exact⟨bi,by rw[ae];exact b4⟩
  ·cases h
 have co:∀c b,gq c=some b->P2 K (.ref (caK K c)) (.ref (caK K 2))=some b:=by
  intro c b h
  unfold gq at h
  split at h
  ·cases h;exact(by rw[a1,b3];exact c1)
  ·cases h;exact(by rw[ae,b3];exact b5)
  ·cases h
 have a2:fk K (caK K 0) "held_works" :=by rw[az];exact c2
 have bd:fk K (caK K 0) "held_changes" :=by rw[az];exact cg
 have bp:fk K (caK K 0) "held_goods" :=by rw[az];exact c3
 have r1:=kJ (st:=fq) o0 o1 nw
 have r2:=kJ (st:=jz) pc pd ny
 have r3:=kJ (st:=iS) pk pm nz
 have r4:=kJ (st:=gA) pr pu nQ
 have r5:=kJ (st:=fP) p0 p3 nT
 have r6:=kJ (st:=ig) qh qn nU
 have r7:=kJ (st:=iQ) rc rd re
 have sa:=kJ (st:=nO) rR rZ r0
 refine⟨Ix "law" "law" (dM nO) (cE nO) (aJ nO) .none iw ix i0 ia hK i1,λs v=>.of_eq rfl,λbase _ _=> ?_⟩
 let e:Ev:=⟨l.prog,w,K,mg,base,caK K⟩
 have eh:=Cn (e:=e) (FK.fa X G l0) am (sK X G be) (sK X G ck) (sK X G hr)
 have bB:=uF (e:=e) (FK.fa X G l1) am (sK X G i7)
 have hl:=DC (e:=e) (FK.fa X G l2) am bB
 have f3:=FP (e:=e) (FK.fa X G l3) am (sK X G cc) hl
 have hT:=Ig (e:=e) (FK.fa X G l4) am eh bB
 have a3:=tx (e:=e) (FK.fa X G l5) am (sK X G f4) (sK X G f5)
 have h8:=Kh (e:=e) (FK.fa X G l6) am
 have hW:=HM (e:=e) (FK.fa X G l7) am (sK X G bm) h8
 have hG:=FG (e:=e) (FK.fa X G l8) am (sK X G f4) f3
 have c4:=sm (e:=e) (FK.fa X G l9) am (sK X G a5)
 have d1:=A8 (e:=e) (FK.fa X G n3) am
 have ei:=Cd (e:=e) (FK.fa X G n5) am
 have d2:=uD (e:=e) (FK.fa X G n6) am (sK X G bn) ei
 have c5:=sq (e:=e) (FK.fa X G oc) am (sK X G f4) (sK X G a5) a3 d1 d2 hG
 have h9:=KJ (e:=e) (FK.fa X G og) am (sK X G hD) hW c5
 have ga:=Bl (e:=e) (FK.fa X G ol) am (sK X G bn) (sK X G hR) a3
 have d3:=uE (e:=e) (FK.fa X G on) am (sK X G a5) c4
 have hH:=E4 (e:=e) (FK.fa X G ov) am (sK X G cc) (sK X G f4) ga h9 ei d1 d3 hT f3
 have ea:=uH (e:=e) r1 (by show Meth K (caK K 0) _ _;rw[az];exact⟨oD,oL,nw⟩) am (sK X G bn) (sK X G hR) bb a2 hh f2
 have g2:=CA (e:=e) r2 (by show Meth K (caK K 0) _ _;rw[az];exact⟨o2,pa,ny⟩) am bb bd
 have eb:=Az (e:=e) r3 (by show Meth K (caK K 0) _ _;rw[az];exact⟨pg,pi,nz⟩) am (sK X G bn) (sK X G bm) bb bp g2
 have ez:=xO (e:=e) r4 (by show Meth K (caK K 0) _ _;rw[az];exact⟨po,pp,nQ⟩) am bb ea eb a3
 have b6:=vW (e:=e) r5 (by show Meth K (caK K 0) _ _;rw[az];exact⟨pw,py,nT⟩) am (sK X G hS) bb ez
 have fw:=zI (e:=e) r6 (by show Meth K (caK K 0) _ _;rw[az];exact⟨p4,p5,nU⟩) am bb a2
 have hI:=Gq (e:=e) (FK.fa X G qq) am (sK X G bn) bb ew dc b6 hH eb fw
 have ho:=D6 (e:=e) (FK.fa X G qF) am (sK X G bn) (sK X G hS) ⟨_,NE X G em⟩
 have fx:=zB (e:=e) (FK.fa X G qS) am (sK X G bn) ⟨_,NE X G fh⟩ ⟨_,NE X G fl⟩
 have dm:=zD (e:=e) (FK.fa X G qV) am ho
 have eA:=yb (e:=e) (FK.fa X G q0) am (sK X G a5) dm
 have fy:=zy (e:=e) (FK.fa X G q3) am
 have eo:=wz (e:=e) (FK.fa X G q4) am eh
 have eB:=xA (e:=e) (FK.fa X G q5) am fy eo
 have eF:=xS (e:=e) (FK.fa X G q6) am dm eB
 have ge:=AZ (e:=e) (FK.fa X G q7) am (sK X G cc)
 have gg:=Bj (e:=e) (FK.fa X G q8) am (sK X G f5)
 have gp:=Aa (e:=e) (FK.fa X G q9) am gg
 have gt:=An (e:=e) r7 (by show Mk K (caK K 0) _;rw[az];exact⟨hP,ra,rb,hQ⟩) (by show mg _=some (.ref (caK K 0));rw[az];exact NE X G gT) am (sK X G cc) bb bp a2 bd fx eA eF ge gp
 have ej:=B1 (e:=e) (FK.fa X G ri) am (sK X G bn)
 have a4:=B2 (e:=e) (FK.fa X G ro) am
 have gF:=Bf (e:=e) (FK.fa X G rp) am (sK X G bm) (sK X G bn) a4
 have g3:=Ca (e:=e) (FK.fa X G rq) am (sK X G ck) (sK X G bm) a4
 have gI:=BD (e:=e) (FK.fa X G rr) am (sK X G ck) (sK X G bm) (sK X G bn) (sK X G f5) (sK X G cc) ej a4 g3
 have gS:=BN (e:=e) (FK.fa X G rs) am (sK X G a5) (sK X G jp) a4
 have g4:=Ci (e:=e) (FK.fa X G ru) am (sK X G bm) (sK X G bn) (sK X G f5)
 have cp:=yg (e:=e) (FK.fa X G rv) am (sK X G be) (sK X G fc) (sK X G ck) g0 g8 fr he hE g1 hf hg hF f8 ac en f2 hj dc ey
 have fz:=zE (e:=e) (FK.fa X G rx) am (sK X G be) (sK X G cc) (sK X G ck) dd co hI cp
 have ep:=wc (e:=e) (FK.fa X G ry) am (sK X G ck) (sK X G be) (sK X G hr) bb dd co b6 cp
 have g5:=Ck (e:=e) (FK.fa X G rz) am (sK X G bm) (sK X G ck) a4
 have ka:=ME (e:=e) sa (NE X G n1) am (sK X G bn) (sK X G js) (sK X G bm) (sK X G ck) (sK X G cc) ej a4 gI gF gt gS g5 g4 fz ep
 exact ka.1
end
end Lk23
open PySem PySem.W PyProof.Rows
theorem PySem.W.Fast.tw7969223847934044881:True:=⟨⟩
theorem PySem.W.Fast.tw3380060329587874657:True:=⟨⟩
theorem PySem.W.Fast.tw10878979882455412402:True:=⟨⟩
theorem PySem.W.Fast.tw5776732922469347577:True:=⟨⟩
theorem PySem.W.Fast.tw18344596066812631068:True:=⟨⟩
theorem PySem.W.Fast.tw13378594134487413529:True:=⟨⟩
theorem PySem.W.Fast.tw979763469721851691:True:=⟨⟩
theorem PySem.W.Fast.tw4535701983545395604:True:=⟨⟩
theorem PySem.W.Fast.tw6907612184961332194:True:=⟨⟩
theorem PySem.W.Fast.tw13260911581356625904:True:=⟨⟩
theorem PySem.W.Fast.tw11230441528718970504:True:=⟨⟩
theorem PySem.W.Fast.tw11117140160897644524:True:=⟨⟩
theorem PySem.W.Fast.tw17739654483667747873:True:=⟨⟩
theorem PySem.W.Fast.tw7604955081514189371:True:=⟨⟩
theorem PySem.W.Fast.tw11107081168164523552:True:=⟨⟩
theorem PySem.W.Fast.tw15598639104187168993:True:=⟨⟩
theorem PySem.W.Fast.tw15750880106990671130:True:=⟨⟩
theorem PySem.W.Fast.tw3006004227888336139:True:=⟨⟩
theorem PySem.W.Fast.tw14766636891909213919:True:=⟨⟩
theorem PySem.W.Fast.tw7651081743845654346:True:=⟨⟩
theorem PySem.W.Fast.tw9254431622422146413:True:=⟨⟩
theorem PySem.W.Fast.tw814660246149426942:True:=⟨⟩
theorem PySem.W.Fast.tw7423123557299427863:True:=⟨⟩
theorem PySem.W.Fast.tw14629117118931764091:True:=⟨⟩
theorem PySem.W.Fast.tw6059853545811182766:True:=⟨⟩
theorem PySem.W.Fast.tw10901284748762416504:True:=⟨⟩
theorem PySem.W.Fast.tw5151127037303862215:True:=⟨⟩
theorem PySem.W.Fast.tw3709548067692855293:True:=⟨⟩
theorem PySem.W.Fast.tw13290010459527030250:True:=⟨⟩
theorem PySem.W.Fast.tw3720715443030120637:True:=⟨⟩
theorem PySem.W.Fast.tw4934738961100685899:True:=⟨⟩
theorem PySem.W.Fast.tw2513018998447341621:True:=⟨⟩
theorem PySem.W.Fast.tw6831159902157265313:True:=⟨⟩
theorem PySem.W.Fast.tw5680695010648810414:True:=⟨⟩
theorem PySem.W.Fast.tw11117697492886240665:True:=⟨⟩
theorem PySem.W.Fast.tw2601720207164388167:True:=⟨⟩
theorem PySem.W.Fast.tw4429281745352561255:True:=⟨⟩
theorem PySem.W.Fast.tw13963552388412690665:True:=⟨⟩
theorem PySem.W.Fast.tw15973406892044237918:True:=⟨⟩
theorem PySem.W.Fast.tw11797024142082742276:True:=⟨⟩
theorem PySem.W.Fast.tw17813099975669964971:True:=⟨⟩
theorem PySem.W.Fast.tw6401550303795484215:True:=⟨⟩
theorem PySem.W.Fast.tw7725901005458546575:True:=⟨⟩
theorem PySem.W.Fast.tw16400389190383590608:True:=⟨⟩
theorem PySem.W.Fast.tw6904086049132488067:True:=⟨⟩
theorem PySem.W.Fast.tw15080412752930128269:True:=⟨⟩
theorem PySem.W.Fast.tw6903085038081393469:True:=⟨⟩
theorem PySem.W.Fast.tw7528576228876704769:True:=⟨⟩
theorem PySem.W.Fast.tw11251210768341757297:True:=⟨⟩
theorem PySem.W.Fast.tw3870146349689328190:True:=⟨⟩
theorem PySem.W.Fast.tw8708731557238276503:True:=⟨⟩
theorem PySem.W.Fast.tw16897535484541833586:True:=⟨⟩
theorem PySem.W.Fast.tw12950359384086555227:True:=⟨⟩
theorem PySem.W.Fast.tw15026924635248672511:True:=⟨⟩
theorem PySem.W.Fast.tw2433842790845598617:True:=⟨⟩
theorem PySem.W.Fast.tw13290420724741865208:True:=⟨⟩
theorem PySem.W.Fast.tw3328772077514433716:True:=⟨⟩
theorem PySem.W.Fast.tw14148153996553446873:True:=⟨⟩
theorem PySem.W.Fast.tw7182921282772725939:True:=⟨⟩
theorem PySem.W.Fast.tw11380190563716781365:True:=⟨⟩
set_option maxRecDepth 100000 in
set_option maxHeartbeats 0 in
theorem PySem.Challenge.cw_modeyard_k23_ways_refused_holds : PySem.Challenge.rw_modeyard_k23_ways_refused.Holds := by
 w_on;o_law;k_head;(case hw=>w_witness2)
 k_fill
 refine L2.Hr (l:=PySem.Challenge.rw_modeyard_k23_ways_refused) (n:=63) (k:=44) (x:="_law_script") (sp:=λK=>M.spM K (Lk23.caK K) 1 Lk23.zO) rfl (by decide) rfl ⟨rfl,by decide,by decide⟩ (by decide +kernel) (λw h Y=>PySem.W.kIn_of Y) ?F ?S
 case F=>
  intro w mg fa h KX G hmg
  refine' Lk23.all_mk KX G hmg rfl ?_ ?_ ?_ ?_ ?_ ?_ ?_ ?_ ?_ ?_ ?_ ?_ ?_ ?_ ?_ ?_ ?_ ?_ ?_ ?_ ?_ ?_ ?_ ?_ ?_ ?_ ?_ ?_ ?_ ?_ ?_ ?_ ?xq_NoWay ?xq_NoBalance ?it_NoAmount_NoFit_NoGood_NoName_NoRatio_NoRow_NoText_NoWeights_NoWork_TooMany_NoWay ?it_NoAmount_NoFit_NoGood_NoName_NoRatio_NoRow_NoText_NoWeights_NoWork_TooMany_NoBalance ?iy_ValueError_NoWay ?iy_ValueError_NoBalance ?ik_NoWay_NoWay ?ik_NoWay_NoBalance ?ik_NoBalance_NoWay ?ik_NoBalance_NoBalance ?ex_YardError_NoWay ?ex_YardError_NoBalance ?_ ?_ ?_ ?_ ?_ ?_ ?_ ?_ ?_ ?_ ?_ ?_ ?_ ?_ ?_ ?_ ?_ ?_ ?_ ?_ ?_ ?_ ?_ ?_ ?_ ?_ ?_ ?_ ?_ ?_ ?_ ?_ ?_ ?_ ?_ ?_ ?_ ?_ ?_ ?_ ?_ ?_ ?_ ?_ ?_ ?_ ?_ ?_ ?_ ?_ ?_ ?_ ?_ ?_ ?_ ?_ ?_ ?_ ?_ ?_ ?_ ?_ ?_ ?_ ?_ ?_ ?_ ?_ ?_ ?_ ?_ ?_ ?_ ?_ ?_ ?_ ?_ ?_ ?_ ?_ ?_ ?_ ?_ ?_ ?_ ?_ ?_ ?_ ?_ ?_ ?_ ?_ ?_ ?_ ?_ ?_ ?_ ?_ ?_ ?_ ?_ ?_
  all_goals try k_is
  all_goals try exact⟨_,_,_,_,_,_,_,_,_,_,by k_is,by k_is,by k_is,by k_is⟩
  (case xq_NoWay=>k_exc)
  (case xq_NoBalance=>k_exc)
  (case it_NoAmount_NoFit_NoGood_NoName_NoRatio_NoRow_NoText_NoWeights_NoWork_TooMany_NoWay=>kit_is)
  (case it_NoAmount_NoFit_NoGood_NoName_NoRatio_NoRow_NoText_NoWeights_NoWork_TooMany_NoBalance=>kit_is)
  (case iy_ValueError_NoWay=>kit_is)
  (case iy_ValueError_NoBalance=>kit_is)
  (case ik_NoWay_NoWay=>kit_is)
  (case ik_NoWay_NoBalance=>kit_is)
  (case ik_NoBalance_NoWay=>kit_is)
  (case ik_NoBalance_NoBalance=>kit_is)
  (case ex_YardError_NoWay=>kts_exm)
  (case ex_YardError_NoBalance=>kts_exm)
 case S=>exact λK H a ns hl _ hS=>M.MM hS (Lk23.GI ns hl)