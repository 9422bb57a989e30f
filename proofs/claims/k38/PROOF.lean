import PyProof.Rows.All
import Wide.All
import OpenK.AllK
import Wide.FinOn
import Lean
import PyProof.EqAt
import PyProof.EqKinds
import PyProof.TupleCall
import PySem.Challenge.RW_modeyard_k38_whole_no_way_has_more
set_option Elab.async false
set_option linter.all false
set_option maxRecDepth 100000
set_option maxHeartbeats 4000000
local macro_rules|`(⋯)=>`(by omega)
local macro_rules|`(∅)=>`(by decide)
local macro_rules|`(#[$x,*])=>`(⟨$x,*⟩)
local macro_rules|`(#v[$x,*])=>`(List.toArray [$x,*])
open Array renaming getD_eq_getD_getElem?→Si,getElem?_toList→SW,length_toList→TU,perm_iff_toList_perm→Ua,toList_inj→Ur,getElem_toList→UT,toList_map→Vt
open Bool renaming true→qc,false→wh,false_ne_true→At,eq_iff_iff→RH,and_eq_true→RJ,beq_eq_decide_eq→RV,or_eq_true→SJ,false_eq_true→Tb,true_and→Tp,false_and→T3,or_false→T9,and_false→UP,true_or→VS
open Classical renaming byContradiction→Kb,axiomOfChoice→UD
open Eq renaming trans→wp
open False renaming elim→sn
open ForInStep renaming yield→SI
open Function renaming comp_def→Sw
open Iff renaming rfl→Vd
open Int renaming gcd→Fa,mul_eq_zero→PP,mul_nonneg→Rq,mul_comm→Rr,mul_assoc→Rt,mul_le_mul_of_nonneg_right→RI,natAbs_natCast→RM,mul_pos→RP,emod_lt_of_pos→Sm,emod_nonneg→So,mul_nonpos_of_nonneg_of_nonpos→Su,mul_neg_of_pos_of_neg→SA,mul_fdiv_cancel_left→SE,le_of_lt→SV,mul_zero→SY,neg_mul_neg→S9,zero_mul→Tc,mul_ediv_cancel_left→Td,natAbs_neg→Tg,natAbs_mul→Th,natAbs_add_le→Tj,le_refl→Tn,natAbs_dvd_natAbs→Tx,natAbs_of_nonneg→TD,gcd_pos_of_ne_zero_right→T4,lt_trichotomy→Uc,le_of_mul_le_mul_left→Ui,mul_neg_of_neg_of_pos→Uj,mul_ne_zero→UJ,neg_mul→UM,toNat_natCast→Vi
open List renaming getD_eq_getElem?_getD→pr,mem_map→ss,length_map→sB,getElem?_eq_getElem→sK,mem_cons_of_mem→tz,mem_cons_self→uC,range→uM,replicate→u0,mem_cons→u8,map_map→wf,mem_singleton→wn,getElem?_map→wv,map_cons→ww,mem_append→wE,getElem?_append_left→wP,getElem?_append_right→wS,nil_append→wT,length_cons→xa,getElem?_eq_some_iff→xb,mem_filter→xz,size_toArray→xJ,length_append→xL,mem_range→AC,getElem_mem→AL,length_singleton→EQ,mem_append_right→Fk,filter_cons_of_pos→Go,getElem?_replicate→GX,mem_map_of_mem→G0,mem_of_getElem?→IR,map_append→KE,pairwise_cons→OQ,of_mem_zip→Re,filter_cons_of_neg→Rl,drop_eq_getElem_cons→Ro,getElem?_set_self→Rp,getElem?_set_ne→Ru,replicate_succ→Rv,getElem_of_mem→Rw,length_zip→RA,mem_append_left→RB,lookup_cons→RD,take_of_length_le→RE,mem_of_mem_eraseIdx→RK,toArray→RN,nodup_cons→RQ,length_zipWith→RU,map_inj_right→RW,foldl_cons→RX,map_nil→RZ,mem_of_mem_take→R0,append_nil→R1,zipWith→R4,flatten_cons→R7,length_range→R8,append_assoc→R9,nodup_append→Sa,getElem?_range→Sd,not_mem_nil→Se,filter_map→Sq,pairwise_map→Sv,mem_or_eq_of_mem_set→Sx,mapIdx_eq_zipIdx_map→Sy,all_eq_true→SD,lookup→SN,drop_eq_nil_of_le→SQ,take_add_one→SS,getElem?_eq_none→SU,length_replicate→SX,ext_getElem→S2,length_take→S3,length_drop→S4,sum_cons→S6,length→S7,pairwise_iff_getElem→Ta,foldl_append→Tk,all_cons→Tr,zipIdx_cons→Ts,getElem_map→Tt,length_filter_le→Tw,find?_cons→Tz,all_map→TH,map_set→TJ,zipIdx_map→TL,mem_of_mem_drop→TR,filterMap_cons→TW,drop_zero→TX,zip_cons_cons→T7,lookup_append→T8,any_cons→Ub,any_eq_false→Ug,mem_of_find?_eq_some→Uh,getElem?_take_of_lt→Up,zipWith_map→Uq,mem_flatMap→Uu,length_erase_of_mem→Uv,any_map→Uy,drop_length→Uz,eq_of_mem_replicate→UA,eraseIdx_cons_succ→UC,range_succ→UF,length_nil→UI,range_succ_eq_map→UN,getElem?_zipWith→UQ,getElem_zipWith→UR,map_drop→UW,map_take→UY,getD_cons_zero→UZ,map_congr_left→U1,getD_cons_succ→U2,set_set→U3,mem_filterMap→U5,find?_eq_none→U8,take_sublist→Ve,take_length→Vo,mem_nil_iff→Vr,getElem_inj→Vs,any_eq_true→Vv,flatMap_map→Vw,sum_append→Vx,foldl→Vy,find?_some→VC,nodup_nil→VF
open List.Pairwise renaming imp_of_mem→RY,nil→Vk,sublist→VV
open List.Perm renaming swap→VH
open Nat renaming le_refl→vr,lt_of_lt_of_le→AT,ne_of_lt→Ez,le_trans→IN,zero_le→Oz,pow_le_pow_right→RC,lt_irrefl→RO,add_sub_cancel_left→Sb,gcd→Sf,le_of_lt→Sj,lt_of_le_of_lt→Sk,two_pow_pos→S8,lt_succ_of_lt→Tl,le_mul_of_pos_left→To,lt_succ_self→Tu,min_eq_left→TK,mul_comm→TN,mul_le_mul_right→TQ,testBit_or→T0,le_succ→T5,add_comm→Us,le_add_right→Uw,pow_add→UK,mul_assoc→UV,pow_succ→U7,sub_zero→U9,zero_add→Va,ne_of_gt→Vb,not_lt→VE,dvd_trans→VI
open Ne renaming symm→S1
open Option renaming some→pc,none→pi,map_some→SH,getD_some→Um,isSome_iff_exists→Uo,getD_none→Vp
open Option.some renaming inj→RS,injEq→Vj
open Or renaming inl→r0,inr→Rs
open PyProof.Rows renaming callWith_type1→RT,IntsAre→Sn,AllBare→Tf,subscriptTail_builtinR→UL,listUpdate_at→UX,getElem?_mirror_all→U0,seqEpoch_at→Vl,bubble_size→Vn,lt_int→VM
open PySem renaming Value→qb,Addr→qh,Shared→tt,wpAny_bind→x0,Program→B3,World→Ch,Expr→Db,Heap→FS,Around→Je,wpAny_pure→No,wpAny_loadPart'→Ps,wpAny_truthy_bool→Rx,IntMulOk→RG,FuncData→RL,NameKind→R5,wpAny_mono→Sg,Scope→Sr,wpAny_passesOwn→Ss,mem_of_lookup→SF,sizeLine_eq→SO,Stmt→S0,wpAny_Call_Name_kw→Te,wpAny_holding→Tq,wpAny_execs_nil→TB,call_meets→TF,BindsTo→TZ,wpAny_pyIter_list→Ud,PyData→Ut,codeAny_mono→Ux,wpAny_comprehension_free→UB,wpAny_isTrue_Compare1→UO,wpAny_standAt→UU,Result→U4,Within→U6,seqIndex_neg→Vc,wpAny_pyIter_enum→Vg,wpAny_assign_Name→Vh,seqIndex_of→Vm,GenState→Vq,typeIs_str→Vz,wpAny_Name→VA,typeIs_int→VB,call→VD
open PySem.EqMixed renaming ne_str_bool→VL,eq_str_bool→VN,eq_bool_str→VO,ne_bool_str→VP,ne_str_int→VQ,ne_int_str→VR,eq_int_str→VT,eq_str_int→VU
open PySem.F renaming plainAttrs_list→Gc,type_list_append→Mq,slot_list_append→M2,slot_list_lt→US
open PySem.W renaming Frag→sH,mg_none_of→ut,findIn→Do,fnOf→Ix,nsIn→JA,keepIn→NE,codeIn→Ry,emptyDict→RF,instObj→R3,isFn→R6,mg_of→SG,kia_one→SK,cellsFrom_some→SR,plainGet→S5,hasDictIn→Ti,methodCall_KW→Tv,plainGet_of→TV,lookIn→TY,callWith_K→T6,plainOver→Ue,methodObj→Uf,takerIn→UE,makesIn→UG,OpenLaw→UH,specialIn→Vf,handedIn→Vu,kitOne→VG,WalkO→VJ
open PySem.W.Looks renaming here→VW
open Sum renaming inl→Uk,inr→Ul
open True renaming intro→TC
namespace L2
open PySem PySem.Spec PyProof.Rows
variable {us : List qb} {u : qb} {H : Hp} {a b it C : qh} {P : B3} {w : Ch} {h base : FS} {o : Obj} {t' i k : Nat} {ch fp : List qh} {x : Str} {M : Model} {A : Je} {E Q : qb → tt → Prop} {v : V} {X : Cx} {e tg : Db} {s : tt} {pins : List (qh × Obj)} {σ : St} {pos : Pos} {op : CmpOp} {t te : TE} {K : sH} {body : List S0} {r : R2} {f : qb → qb → Sem qb} {kw : List (Str × qb)} {mg : Str → Option qb}
abbrev Key:=Sum Int Str
def L6:Key->qb->Bool
 | .inl k,v=>Value.isInt k v
 | .inr x,v=>Value.isStrOf x v
def Qp(w:Ch):Key->Int
 | .inl k=>hashInt k
 | .inr x=>hashStr w x
theorem fR:∀{k:Key} {v:qb},L6 k v=qc->(∃i t,k=Uk i/\v=Value.int i t)\/(∃x t,k=Ul x/\v=Value.str x t)
 | .inl i,v,h=>by obtain⟨t,e⟩:=Value.isInt_shape (k:=i) (v:=v) h;exact .inl #[i,t,rfl,e]
 | .inr x,v,h=>by obtain⟨t,e⟩:=Value.isStrOf_shape (x:=x) (v:=v) h;exact .inr #[x,t,rfl,e]
theorem Nz{a b:Int}:decide ((Uk a:Key)=Uk b)=(a == b):=by by_cases e:a=b;subst e;simp;have h:¬(Uk a:Key)=Uk b:=λq=>e (Sum.inl.inj q);rw[decide_eq_false h];exact(beq_eq_false_iff_ne.mpr e).symm
theorem NA{a b:Str}:decide ((Ul a:Key)=Ul b)=decide (a=b):=by by_cases e:a=b;subst e;simp;have h:¬(Ul a:Key)=Ul b:=λq=>e (Sum.inr.inj q);rw[decide_eq_false h,decide_eq_false e]
theorem NB{a:Int}{b:Str}:decide ((Uk a:Key)=Ul b)=false:=decide_eq_false (λq=>nomatch q)
theorem Oi{a:Str}{b:Int}:decide ((Ul a:Key)=Uk b)=false:=decide_eq_false (λq=>nomatch q)
def Ac(prog:B3)(w:Ch):PySem.KeyKind prog w Key where
 is:=L6
 hash:=Qp w
 inj:=λv a b ha hb=>by
  rcases fR ha with⟨i,t,rfl,rfl⟩ | ⟨x,t,rfl,rfl⟩;rcases fR hb with⟨j,u,rfl,e⟩ | ⟨y,u,rfl,e⟩;injection e with e1 _;rw[e1];exact nomatch e
  rcases fR hb with⟨j,u,rfl,e⟩ | ⟨y,u,rfl,e⟩;exact nomatch e
  injection e with e1 _;rw[e1]
 byValue:=λk v h=>by rcases fR h with⟨i,t,rfl,rfl⟩ | ⟨x,t,rfl,rfl⟩ <;> rfl
 pyHash:=λhv h=>by rcases fR hv with⟨i,t,rfl,rfl⟩ | ⟨x,t,rfl,rfl⟩;exact wpAny_pyHash_int h;exact wpAny_pyHash_str h
 eqBool:=λhu hv h=>by rcases fR hu with⟨i,t,rfl,rfl⟩ | ⟨x,t,rfl,rfl⟩;rcases fR hv with⟨j,u,rfl,rfl⟩ | ⟨y,u,rfl,rfl⟩;rw[Nz] at h;exact wpAny_eqBool_int h;rw[NB] at h;exact SeqAt.EqAt.int_str i t y u _ _ _ _ h;rcases fR hv with⟨j,u,rfl,rfl⟩ | ⟨y,u,rfl,rfl⟩;rw[Oi] at h;exact SeqAt.EqAt.str_int x t j u _ _ _ _ h;rw[NA] at h;exact wpAny_eqBool_str h
 «strs»:=λk x t v h=>by
  rcases fR h with⟨i,u,rfl,e⟩ | ⟨y,u,rfl,e⟩;exact nomatch e
  injection e with e1 _
  subst e1;cases v <;> rfl
inductive V where
 | non | bl (b:Bool) | int (i:Int) | str (x:Str) | byt (b:Array UInt8) | flt (b:UInt64) | ref (a:qh) | ty (n:String)
 deriving DecidableEq
def RelV:V->qb->Prop
 | .non,u=>u=Value.none
 | .bl b,u=>u=Value.bool b
 | .int i,u=>∃t,u=Value.int i t
 | .str x,u=>∃t,u=Value.str x t
 | .byt b,u=>∃t,u=Value.bytes b t
 | .flt b,u=>∃t,u=Value.float b t
 | .ref a,u=>u=Value.ref a
 | .ty n,u=>u=Value.type n
abbrev Vals:List V->List qb->Prop:=Paired RelV
theorem Vals.length{xs:List V}(r:Vals xs us):xs.length=us.length:=Paired.length r
theorem Vals.get:∀{xs:List V} {us:List qb} {i:Nat} {x:V},Vals xs us->xs[i]? =pc x->∃u,us[i]? =pc u/\RelV x u
 | _,_,_,_,.nil,e=>by simp at e
 | _,_,0,_,.cons r _,e=>by simp at e;subst e;exact#[_,rfl,r]
 | _,_,i+1,x,.cons _ t,e=>by obtain⟨u,h1,h2⟩:=Vals.get (i:=i) (x:=x) t (by simpa using e);exact#[u,by simpa using h1,h2]
theorem Vals.set{x:V}{u:qb}(r:RelV x u):∀{xs:List V} {us:List qb} (i:Nat),Vals xs us->Vals (xs.set i x) (us.set i u)
 | _,_,_,.nil=>.nil
 | _,_,0,.cons _ t=>.cons r t
 | _,_,i+1,.cons q t=>.cons q (Vals.set r i t)
theorem Vals.append:∀{xs ys:List V} {us ws:List qb},Vals xs us->Vals ys ws->Vals (xs++ys) (us++ws)
 | _,_,_,_,.nil,s=>s
 | _,_,_,_,.cons r t,s=>.cons r (Vals.append t s)
theorem Vals.take:∀{xs:List V} {us:List qb} (n:Nat),Vals xs us->Vals (xs.take n) (us.take n)
 | _,_,0,_=>.nil
 | _,_,_+1,.nil=>.nil
 | _,_,n+1,.cons r t=>.cons r (Vals.take n t)
theorem Vals.drop:∀{xs:List V} {us:List qb} (n:Nat),Vals xs us->Vals (xs.drop n) (us.drop n)
 | _,_,0,r=>r
 | _,_,_+1,.nil=>.nil
 | _,_,n+1,.cons _ t=>Vals.drop n t
def rX:Option V->Option qb->Prop
 | some v,pc u=>RelV v u
 | none,pi=>True
 | _,_=>False
def KV{J:Type}:List (J×V)->List (J×qb)->Prop:=Paired λ(p:J×V) (q:J×qb)=>p.1=q.1/\RelV p.2 q.2
def kV:Key->V
 | .inl i=>.int i
 | .inr x=>.str x
inductive HO where
 | lst (xs:List V)
 | tup (xs:List V)
 | dK (kvs:List (Key×V)) | dT (kvs:List (List Key×V))
 | set (S:Int->Bool) (n:Nat)
 | ins (C dx:qh) (fs:List (Str×V))
 | own (x:qh)
 | xd (fs:List (Str×V))
 | met (f x:qh)
 | rng (lo hi:Int)
 | frz (o:Obj) (u:HO)
 | tbl (ps:Array qb)
 | ext (φ:FS->Prop)
abbrev Hp:=qh->Option HO
def upd(H:Hp)(a:qh)(o:HO):Hp:=λb=>if b=a then pc o else H b
theorem cQ{o:HO}:upd H a o a=pc o:=by unfold upd;rw[if_pos rfl]
theorem aZ{o:HO}(h:b≠a):upd H a o b=H b:=by unfold upd;rw[if_neg h]
theorem fN{o:HO}(h:H a=pc o)(h':H b=pi):a≠b:=by intro e;subst e;rw[h] at h';cases h'
section
variable (P : B3) (w : Ch)
def iN(H:Hp)(h:FS)(a:qh):HO->Prop
 | .lst xs=>xs.length<=sizeLine/\∃(J:List qb) (n:Nat),Vals xs J/\h.get? a=pc {cls:=.type "list",data:=.seq J.toArray n}
 | .tup xs=>xs.length<=sizeLine/\∃J:List qb,Vals xs J/\IsTup h a J.toArray
 | .dK U=>U.length<=sizeLine/\(a == sysModules)=wh/\∃vs,KV U vs/\h.DictOf (Ac P w) a vs
 | .dT U=>U.length<=sizeLine/\(a == sysModules)=wh/\∃xs:List (List Key×qh×qb),
  Paired (λ(p:List Key×V) (q:List Key×qh×qb)=>p.1=q.1/\H q.2.1=pc (.tup (p.1.map kV))/\RelV p.2 q.2.2) U xs/\
  ∃o es ep,h.get? a=pc o/\o.ExactDict/\o.data=.dict es ep/\es.toList=xs.map (entryOfKey (tupleKind (Ac P w)))/\(xs.map (·.1)).Nodup
 | .set S n=>h.SetOf (intKind P w) a S n
 | .ins C dx fs=>H dx=pc (.own a)/\fs.length<=1000/\dx≠a/\h.get? a=pc (R3 C dx)/\
  ∃mA,h.Ns1 dx mA/\(∀f,rX (fs.lookup f) (mA f))/\U6 mA (fs.map (·.1))
 | .own _=>∃o,h.get? a=pc o
 | .xd fs=>∃mA,h.Ns1 a mA/\∀f,rX (fs.lookup f) (mA f)
 | .rng lo hi=>∃t u v,h.get? a=pc {cls:=.type "range",data:=.fields #v[.int lo t,.int hi u,.int 1 v]}
 | .frz o u=>h.get? a=pc o/\iN H h a u
 | .tbl ps=>h.get? a=pc {cls:=.none,data:=.fields ps}
 | .met f x=>h.get? a=pc (Uf (.ref f) (.ref x))
 | .ext Y=>Y h/\(∃o,h.get? a=pc o)/\∀h1 h2:FS,Y h1->(∀o,h1.get? a=pc o->h2.get? a=pc o)->Y h2
def HOk(H:Hp)(h:FS):Prop:=∀a o,H a=pc o->iN P w H h a o
end
section
variable {P : B3} {w : Ch} {H H' : Hp} {h h' : FS} {a : qh} {o : HO}
theorem iN.lt(x:iN P w H h a o):a<h.objs.size:=by
 cases o with
 | lst xs=>obtain⟨_,_,_,_,e⟩:=x;exact Heap.lt_size e
 | tup xs=>obtain⟨_,_,_,p⟩:=x;exact p.lt
 | dK J=>obtain⟨_,_,_,_,o,_,_,e,_⟩:=x;exact Heap.lt_size e
 | dT J=>obtain⟨_,_,_,_,o,_,_,e,_⟩:=x;exact Heap.lt_size e
 | set S n=>obtain⟨o,_,_,_,e,_⟩:=x;exact Heap.lt_size e
 | ins C dx fs=>obtain⟨_,_,_,e,_⟩:=x;exact Heap.lt_size e
 | own y=>obtain⟨_,e⟩:=x;exact Heap.lt_size e
 | xd fs=>obtain⟨_,⟨_,_,_,e,_⟩,_⟩:=x;exact Heap.lt_size e
 | rng lo hi=>obtain⟨_,_,_,e⟩:=x;exact Heap.lt_size e
 | frz U u=>obtain⟨e,_⟩:=x;exact Heap.lt_size e
 | tbl ps=>exact Heap.lt_size (show h.get? a=pc _ from x)
 | met f y=>exact Heap.lt_size (show h.get? a=pc _ from x)
 | ext Y=>obtain⟨_,⟨_,e⟩,_⟩:=x;exact Heap.lt_size e
theorem Paired.mapP{α β:Type}{F G:α->β->Prop}:∀{J:List α} {U:List β},Paired F J U->(∀a b,F a b->G a b)->Paired G J U
 | _,_,.nil,_=>.nil
 | _,_,.cons r t,f=>.cons (f _ _ r) (Paired.mapP t f)
theorem iN.stay (x:iN P w H h a o) (k:∀b u,(b=a\/H b=pc (.own a))->h.get? b=pc u->h'.get? b=pc u)
 (ho:∀b,H b=pc (.own a)->H' b=pc (.own a)) (ht:∀b xs,H b=pc (.tup xs)->H' b=pc (.tup xs)):iN P w H' h' a o:=by
 induction o with
 | lst xs=>obtain⟨z,Y,n,r,e⟩:=x;exact#[z,Y,n,r,k _ _ (.inl rfl) e]
 | tup xs=>obtain⟨z,Y,r,J,e,c⟩:=x;exact#[z,Y,r,J,k _ _ (.inl rfl) e,c]
 | dK ab=>obtain⟨z,y,vs,r,J,es,U,e,c⟩:=x;exact#[z,y,vs,r,J,es,U,k _ _ (.inl rfl) e,c]
 | dT ab=>
  obtain⟨z,y,xs,r,J,es,U,e,c⟩:=x;exact#[z,y,xs,Paired.mapP r λp q z=>#[z.1,ht _ _ z.2.1,z.2.2],J,es,U,k _ _ (.inl rfl) e,c]
 | set S n=>obtain⟨J,es,U,t,e,c⟩:=x;exact#[J,es,U,t,k _ _ (.inl rfl) e,c]
 | ins C dx fs=>
  obtain⟨d,z,ne,e,mA,⟨od,es,U,e2,c⟩,r⟩:=x;exact#[ho _ d,z,ne,k _ _ (.inl rfl) e,mA,#[od,es,U,k _ _ (.inr d) e2,c],r]
 | own y=>obtain⟨J,e⟩:=x;exact#[J,k _ _ (.inl rfl) e]
 | xd fs=>obtain⟨mA,⟨od,es,U,e,c⟩,r⟩:=x;exact#[mA,#[od,es,U,k _ _ (.inl rfl) e,c],r]
 | rng lo hi=>obtain⟨t,u,v,e⟩:=x;exact#[t,u,v,k _ _ (.inl rfl) e]
 | frz J u ih=>obtain⟨e,q⟩:=x;exact#[k _ _ (.inl rfl) e,ih q]
 | tbl ps=>
  have e:h.get? a=pc {cls:=.none,data:=.fields ps}:=x;show h'.get? a=pc {cls:=.none,data:=.fields ps};exact k a _ (.inl rfl) e
 | met f y=>
  have e:h.get? a=pc (Uf (.ref f) (.ref y)):=x;show h'.get? a=pc (Uf (.ref f) (.ref y));exact k a _ (.inl rfl) e
 | ext φ=>obtain⟨p,⟨o,e⟩,st⟩:=x;exact#[st _ _ p λo q=>k _ _ (.inl rfl) q,#[o,k _ _ (.inl rfl) e],st]
theorem HOk.lt(x:HOk P w H h)(e:H a=pc o):a<h.objs.size:=(x a o e).lt
theorem HOk.fresh(x:HOk P w H h)(e:h.objs.size<=a):H a=none:=by
 cases q:H a with
 | none=>rfl
 | some u=>exact absurd (AT (x.lt q) e) (RO _)
theorem HOk.kept(x:HOk P w H h)(k:∀b u,h.get? b=pc u->h'.get? b=pc u):HOk P w H h':=λa o e=>
 (x a o e).stay (λb u _ q=>k b u q) (λ_ q=>q) λ_ _ q=>q
theorem HOk.laid(x:HOk P w H h)(k:∀b u,h.get? b=pc u->h'.get? b=pc u)(hp:h.objs.size<=a)(J:iN P w (upd H a o) h' a o):HOk P w (upd H a o) h':=λb u e=>by have hn:=x.fresh hp;by_cases hb:b=a;subst hb;rw[cQ] at e;cases e;exact J;rw[aZ hb] at e;exact(x b u e).stay (λc v _ q=>k c v q) (λc q=>by rw[aZ (fN q hn)];exact q) λc xs q=>by rw[aZ (fN q hn)];exact q
end
def Rd(H:Hp)(a:qh)(u:HO):Prop:=H a=pc u\/∃o,H a=pc (.frz o u)
theorem Rd.ok{u:HO}(r:Rd H a u)(x:HOk P w H h):iN P w H h a u:=by rcases r with r | ⟨o,r⟩;exact x a u r;obtain⟨_,q⟩:=x a _ r;exact q
def Mut:Option HO->Prop
 | some (.lst _)=>True
 | some (.dK _)=>True
 | some (.dT _)=>True
 | some (.set _ _)=>True
 | some (.ins _ _ _)=>True
 | some (.ext _)=>True
 | _=>False
section
variable {P : B3} {w : Ch} {H : Hp} {h h' : FS} {x e : qh} {o' : HO}
theorem HOk.write (ok:HOk P w H h) (mu:Mut (H x)) (he:e=x\/H e=pc (.own x)) (k:∀b u,b≠e->h.get? b=pc u->h'.get? b=pc u) (ac:∃u,h'.get? e=pc u)
 (al:iN P w (upd H x o') h' x o'):HOk P w (upd H x o') h':=λb u q=>by
 have U:∀c y,H c=pc (.own y)->c≠x:=λc y r z=>by subst z;rw[r] at mu;exact mu
 have Y:∀c xs,H c=pc (.tup xs)->c≠x:=λc xs r z=>by subst z;rw[r] at mu;exact mu
 by_cases hb:b=x;subst hb;rw[cQ] at q;cases q;exact al;rw[aZ hb] at q;by_cases J:b=e;have q':H b=pc (.own x):=by rcases he with z | z;exact absurd (J.trans z) hb;rw[J];exact z
 rw[q] at q';cases q';obtain⟨v,hv⟩:=ac;exact#[v,by rw[J];exact hv];refine(ok b u q).stay (λc v hc r=>k c v ?_ r) (λc r=>by rw[aZ (U c b r)];exact r) λc xs r=>by rw[aZ (Y c xs r)];exact r
 rcases hc with rfl | hc;exact J;rintro rfl;rcases he with z | z;exact U c b hc z;rw[hc] at z;cases z;exact hb rfl
end
structure Un(fs ex:List qh)(H H':Hp)(h h':FS):Prop where
 keep:∀b o,h.get? b=pc o->H b=pi->b∉fs->b∉ex->h'.get? b=pc o
 slot:∀b o,h.get? b=pc o->H b=pi->b∈fs->b∉ex->∃sl,h'.get? b=pc {o with slots:=sl}
 free:∀b o,h.get? b=pc o->H b=pi->b∉ex->H' b=pi
 there:∀b o,h.get? b=pc o->b∉ex->∃o',h'.get? b=pc o'
 tups:∀b xs,H b=pc (.tup xs)->H' b=pc (.tup xs)
 frzs:∀b o u,H b=pc (.frz o u)->H' b=pc (.frz o u)
 tbls:∀b ps,H b=pc (.tbl ps)->∃more,H' b=pc (.tbl (ps++more))
section
variable {fs fs' ex ex' : List qh} {H H1 H2 : Hp} {h h1 h2 h' : FS} {a x e : qh} {o : HO}
theorem Un.any(u:Un fs ex H H1 h h1){J:Obj}(q:h.get? b=pc J)(n:H b=pi)(hx:b∉ex):∃sl,h1.get? b=pc {J with slots:=sl}:=by by_cases hb:b∈fs;exact u.slot b J q n hb hx;exact#[J.slots,u.keep b J q n hb hx]
theorem Un.kept(k:∀b u,h.get? b=pc u->h'.get? b=pc u):Un fs ex H H h h':=
 #[λb J q _ _ _=>k b J q,λb J q _ _ _=>#[J.slots,k b J q],λ_ _ _ n _=>n,λb J q _=>#[J,k b J q],λ_ _ q=>q,λ_ _ _ q=>q,λ_ ps q=>#[#v[],by rw[q];simp]]
theorem Un.refl:Un fs ex H H h h:=Un.kept λ_ _ q=>q
theorem Un.laid(k:∀b u,h.get? b=pc u->h'.get? b=pc u)(hp:h.objs.size<=a)(hn:H a=pi):Un fs ex H (upd H a o) h h' where
 keep:=λb u q _ _ _=>k b u q
 slot:=λb u q _ _ _=>#[u.slots,k b u q]
 free:=λb u q n _=>by rw[aZ (Ez (AT (Heap.lt_size q) hp))];exact n
 there:=λb u q _=>#[u,k b u q]
 tups:=λb xs q=>by rw[aZ (fN q hn)];exact q
 frzs:=λb u xs q=>by rw[aZ (fN q hn)];exact q
 tbls:=λb ps q=>#[#v[],by rw[aZ (fN q hn),q];simp]
theorem Un.write(U:Mut (H x))(he:e=x\/H e=pc (.own x))(k:∀b u,b≠e->h.get? b=pc u->h'.get? b=pc u)(Y:∃u,h'.get? e=pc u):Un fs ex H (upd H x o) h h':=by
 have hx:∀b,H b=pi->b≠x:=λb n z=>by subst z;rw[n] at U;exact U
 have hb:∀b,H b=pi->b≠e:=λb n z=>by
  subst z;rcases he with r | r
  exact hx b n r;rw[n] at r;cases r
 have hm:∀b u,H b=pc u->¬Mut (pc u)->b≠x:=λb u q nm z=>by subst z;rw[q] at U;exact nm U
 refine#[λb u q n _ _=>k b u (hb b n) q,λb u q n _ _=>#[u.slots,k b u (hb b n) q],λb u q n _=>by rw[aZ (hx b n)];exact n,λb u q _=> ?_,
  λb xs q=>by rw[aZ (hm b _ q λz=>z)];exact q,λb u xs q=>by rw[aZ (hm b _ q λz=>z)];exact q,λb ps q=>#[#v[],by rw[aZ (hm b _ q λz=>z),q];simp]]
 by_cases J:b=e;subst J;exact Y;exact#[u,k b u J q]
end
def trk(h:FS)(H:Hp):List Addr:=(uM h.objs.size).filter λa=>(H a).isSome
def rZ(h:FS)(H:Hp):Heap:=PySem.W.hideAll h (trk h H)
theorem JI:(rZ h H).objs.size=h.objs.size:=PySem.W.hideAll_size _ _
theorem Lo(e:h.get? b=pc o)(n:H b=pi):(rZ h H).get? b=pc o:=
 PySem.W.hideAll_get _ e λhm=>by have q:(H b).isSome=true:=(xz.mp hm).2;rw[n] at q;simp at q
theorem Mx(e:(rZ h H).get? b=pc o):h.get? b=pc o/\H b=none:=by
 have e':h.get? b=pc o:=PySem.W.of_hideAll (trk h H) e;refine#[e', ?_];cases q:H b with
 | none=>rfl
 | some x=>
  have hm:b∈trk h H:=xz.mpr #[AC.mpr (Heap.lt_size e'),by simp[q]];have z:(rZ h H).get? b=none:=PySem.W.hideAll_none (trk h H) hm;rw[z] at e;cases e
def M0(g h:FS)(L:qh):List (qh×Obj):=(uM h.objs.size).filterMap λa=>if a=L\/(g.get? a).isSome=qc then pi else (h.get? a).map λo=>(a,o)
def rest(g h:FS)(L d:qh):List (qh×Obj):=(M0 g h L).filter λp=>decide (p.1≠d)
structure Mod(K:sH)(mg:Str->Option qb)(base:FS):Prop where
 kin:K.In base
 glob:base.Ns mainGlobals mg
 blt:∃mb,base.Ns builtinsNs mb/\∀x:Str,x≠"__name__" ->mb x=bootBuiltins x
 nolimit:base.NoLimit
 seer:base.NoSeer
structure Cx where
 prog:B3
 w:Ch
 K:sH
 mg:Str->Option qb
 base:FS
 A:Je
 N:List Str
 s₀:tt
 H₀:Hp
 env:Env
 outer:List Env
 stack:List Env
 ex:List qh
 fn:Str->Bool
 calm:Bool
 pn:List (qh×Obj)
 xe:qb->tt->Prop
def frs(l:List Env):List Addr:=l.filterMap (·.frame)
abbrev Cx.fs(X:Cx):List Addr:=frs X.outer
def Vis(sc:Sr)(x:Str):Prop:=sc.names.lookup x=pc .local\/sc.names.lookup x=pc .cell\/sc.names.lookup x=pc .free
def Loc(sc:Sr)(x:Str):Prop:=sc.names.lookup x=pc .local\/sc.names.lookup x=pc .cell
def Look(env:Env)(h:FS)(m:Str->Option qb)(x:Str)(u:qb):Prop:=
 (env.kindOf x=pc .local/\m x=pc u)\/((env.kindOf x=pc .cell\/env.kindOf x=pc .free)/\∃c,env.cells.lookup x=pc c/\h.IsCell c (pc u))
structure Cx.Ok(X:Cx):Prop where
 mod:Mod X.K X.mg X.base
 kind:X.env.scope.kind=.function
 glob:X.env.globals=mainGlobals
 blt:X.env.builtins=builtinsNs
 above:X.s₀.heap.objs.size<=X.env.locals
 inj:∀x y c,X.env.cells.lookup x=pc c->X.env.cells.lookup y=pc c->x=y
 has:∀x,(X.env.kindOf x=pc .cell\/X.env.kindOf x=pc .free)->∃c,X.env.cells.lookup x=pc c
 cab:∀x c,X.fn x=qc->X.env.cells.lookup x=pc c->X.s₀.heap.objs.size<=c
 hd:X.calm=qc->X.A.handled=pi
 frames:X.A.frames=pc X.stack
 stk:X.stack=X.outer\/(X.stack=X.env::X.outer/\X.env.frame=pc X.env.locals)
 exf:∀b∈X.ex,b≠X.env.locals/\∀x c,X.env.cells.lookup x=pc c->c≠b
 bs:∀b o,X.base.get? b=pc o->X.s₀.heap.get? b=pc o/\X.H₀ b=pi
 bsz:X.base.objs.size<=X.s₀.heap.objs.size
 noex:∀b o,X.base.get? b=pc o->b∉X.ex
 exfs:∀b∈X.ex,b∉X.fs
 funs:X.s₀.heap.FunFrames X.base X.outer
 frf:∀b∈X.fs,X.H₀ b=pi
structure Inv(X:Cx)(pins:List (qh×Obj))(σ:List (Option V))(H:Hp)(s:tt):Prop where
 ok:X.Ok
 os:s.os=X.s₀.os
 bare:Tf s.gens
 base:Un X.fs X.ex X.H₀ H X.s₀.heap s.heap
 loc:∃m,s.heap.Ns X.env.locals m/\∀(i:Nat) (x:Str) (v:V),X.N[i]? =pc x->σ[i]? =pc (pc v)->Vis X.env.scope x->∃u,RelV v u/\Look X.env s.heap m x u
 cell:∀x c,X.env.cells.lookup x=pc c->∃v,s.heap.IsCell c v
 free:H X.env.locals=pi
 freeC:∀x c,X.env.cells.lookup x=pc c->H c=pi
 pin:∀p∈X.pn++pins,s.heap.get? p.1=pc p.2/\H p.1=pi/\p.1≠X.env.locals/\p.1∉X.fs/\∀v,p.2.data≠ .cell v
 hok:HOk X.prog X.w H s.heap
 len:σ.length=X.N.length
section
variable {X : Cx} {pins : List (qh × Obj)} {σ : List (Option V)} {H H' : Hp} {s : tt} {h' : FS}
theorem Cx.Ok.nofr(ok:X.Ok)(e:X.base.get? b=pc o):b∉X.fs:=λhb=>by have:=(ok.funs.mem hb).1;rw[e] at this;cases this
theorem Inv.bs(I:Inv X pins σ H s):∀b o,X.base.get? b=pc o->s.heap.get? b=pc o/\H b=none:=λb o e=>
 #[I.base.keep b o (I.ok.bs b o e).1 (I.ok.bs b o e).2 (I.ok.nofr e) (I.ok.noex b o e),I.base.free b o (I.ok.bs b o e).1 (I.ok.bs b o e).2 (I.ok.noex b o e)]
theorem Inv.bk(I:Inv X pins σ H s):∀b o,X.base.get? b=pc o->s.heap.get? b=pc o:=λb o e=>(I.bs b o e).1
theorem Inv.mod(I:Inv X pins σ H s):Mod X.K X.mg X.base:=I.ok.mod
theorem Inv.kIn(I:Inv X pins σ H s):X.K.In s.heap:=I.ok.mod.kin.keeps I.bk
theorem Inv.nolimit(I:Inv X pins σ H s):s.heap.NoLimit:=I.ok.mod.nolimit.keeps I.bk
theorem Inv.noseer(I:Inv X pins σ H s):s.heap.NoSeer:=I.ok.mod.seer.keeps I.bk
theorem Inv.lt(I:Inv X pins σ H s):X.env.locals<s.heap.objs.size:=let #[_,hn,_]:=I.loc;hn.lt
theorem Inv.sz(I:Inv X pins σ H s):X.s₀.heap.objs.size<=s.heap.objs.size:=IN I.ok.above (Sj I.lt)
theorem Inv.nofs(I:Inv X pins σ H s)(h:s.heap.objs.size<=a):a∉X.fs:=λhb=>by obtain⟨_,o,J,_⟩:=I.ok.funs.mem hb;exact absurd (AT (Heap.lt_size J) (IN I.sz h)) (RO _)
theorem Inv.cne(I:Inv X pins σ H s):∀x c,X.env.cells.lookup x=pc c->c≠X.env.locals:=λx c e z=>by obtain⟨v,o,Y,hd⟩:=I.cell x c e;obtain⟨m,⟨o',es,ep,J,U,_⟩,_⟩:=I.loc;rw[z,J] at Y;cases Y;rw[U] at hd;cases hd
theorem Inv.funs(I:Inv X pins σ H s):s.heap.FunFrames X.base X.outer:=by
 have all:∀(l:List Env),(∀b∈frs l,b∈X.fs)->X.s₀.heap.FunFrames X.base l->s.heap.FunFrames X.base l:=by
  intro l;induction l with
  | nil=>intro _ _;trivial
  | cons env r Y=>
   intro hs hl;obtain⟨hk,⟨L,o,J,hn,ho,hd⟩,hr⟩:=hl;have U:L∈X.fs:=hs L (by unfold frs;rw[TW,J];exact uC);obtain⟨sl,e⟩:=I.base.slot L o ho (I.ok.frf L U) U λz=>I.ok.exfs L z U;exact#[hk,#[L,_,J,hn,e,hd],Y (λb hb=>hs b (by unfold frs;rw[TW,J];exact tz _ hb)) hr]
 exact all X.outer (λ_ hb=>hb) I.ok.funs
theorem Inv.stack(I:Inv X pins σ H s):s.heap.FunFrames X.base X.stack:=by rcases I.ok.stk with e | ⟨e,J⟩;rw[e];exact I.funs;rw[e];obtain⟨m,hn,_⟩:=I.loc;refine .cons (by rw[I.ok.kind];decide) J hn ?_ I.funs;exact Heap.get?_none_of_le (IN I.ok.bsz I.ok.above)
theorem Inv.stkSub(I:Inv X pins σ H s):∀b∈frs X.stack,b∈X.env.locals::X.fs:=λb hb=>by rcases I.ok.stk with e | ⟨e,J⟩;rw[e] at hb;exact tz _ hb;rw[e] at hb;unfold frs at hb;rw[TW,J] at hb;exact hb
theorem Inv.stkFree(I:Inv X pins σ H s):∀b∈frs X.stack,H b=none:=λb hb=>by rcases u8.mp (I.stkSub b hb) with e | hb;rw[e];exact I.free;obtain⟨_,o,J,_⟩:=I.ok.funs.mem hb;exact I.base.free b o J (I.ok.frf b hb) λz=>I.ok.exfs b z hb
theorem Inv.step {g':Array Vq} {t':Nat} {d':Drawn} {ch:List qh} (I:Inv X pins σ H s)
 (J:∀b∈ch,(b∈X.ex\/X.s₀.heap.objs.size<=b)/\b≠X.env.locals/\(∀x c,X.env.cells.lookup x=pc c->c≠b)/\∀p∈X.pn++pins,p.1≠b)
 (keep:∀b o,b≠X.env.locals->b∉X.fs->b∉ch->s.heap.get? b=pc o->H b=pi->h'.get? b=pc o)
 (slot:∀b o,b≠X.env.locals->b∈X.fs->b∉ch->s.heap.get? b=pc o->H b=pi->∃sl,h'.get? b=pc {o with slots:=sl}) (free:∀b o,b∉ch->s.heap.get? b=pc o->H b=pi->H' b=pi)
 (there:∀b o,b∉ch->s.heap.get? b=pc o->∃o',h'.get? b=pc o')
 (tups:∀b xs,H b=pc (.tup xs)->H' b=pc (.tup xs)) (frzs:∀b o u,H b=pc (.frz o u)->H' b=pc (.frz o u)) (tbls:∀b ps,H b=pc (.tbl ps)->∃more,H' b=pc (.tbl (ps++more)))
 (ns:∀m,s.heap.Ns X.env.locals m->h'.Ns X.env.locals m) (am:HOk X.prog X.w H' h') (hg:Tf g'):
 Inv X pins σ H' {s with heap:=h',gens:=g',drawn:=d',toks:=t'}:=by
 have al:∀b o,X.s₀.heap.get? b=pc o->b≠X.env.locals:=λb o e=>Ez (AT (Heap.lt_size e) I.ok.above);have ab:∀b o,X.s₀.heap.get? b=pc o->b∉X.ex->b∉ch:=λb o e hx hb=>by rcases(J b hb).1 with z | z;exact hx z;exact absurd (AT (Heap.lt_size e) z) (RO _)
 have U:∀x c,X.env.cells.lookup x=pc c->∀v,s.heap.IsCell c v->h'.IsCell c v:=λx c e v #[o,ho,hd]=>by have Y:c∉ch:=λz=>(J c z).2.2.1 x c e rfl;by_cases hc:c∈X.fs;obtain⟨sl,q⟩:=slot c o (I.cne x c e) hc Y ho (I.freeC x c e);exact#[_,q,hd];exact#[o,keep c o (I.cne x c e) hc Y ho (I.freeC x c e),hd]
 refine#[I.ok,I.os,hg,#[λb o e n hb hx=> ?_,λb o e n hb hx=> ?_,λb o e n hx=> ?_,λb o e hx=> ?_,λb xs e=>tups b xs (I.base.tups b xs e),λb o xs e=>frzs b o xs (I.base.frzs b o xs e),λb ps e=> ?_], ?_,λx c e=> ?_, ?_,λx c e=> ?_,λp hp=> ?_,am,I.len];exact keep b o (al b o e) hb (ab b o e hx) (I.base.keep b o e n hb hx) (I.base.free b o e n hx);obtain⟨sl,e1⟩:=I.base.slot b o e n hb hx;obtain⟨an,e2⟩:=slot b _ (al b o e) hb (ab b o e hx) e1 (I.base.free b o e n hx);exact#[an,e2];obtain⟨o',e1⟩:=I.base.there b o e hx;exact free b o' (ab b o e hx) e1 (I.base.free b o e n hx);obtain⟨o',e1⟩:=I.base.there b o e hx;exact there b o' (ab b o e hx) e1;obtain⟨m1,e1⟩:=I.base.tbls b ps e;obtain⟨m2,e2⟩:=tbls b _ e1;exact#[m1++m2,by rw[e2,Array.append_assoc]];obtain⟨m,hn,hl⟩:=I.loc;refine#[m,ns m hn,λi x v e1 e2 e3=> ?_];obtain⟨u,r,l⟩:=hl i x v e1 e2 e3;refine#[u,r, ?_];rcases l with l | ⟨k,c,e,z⟩
 exact .inl l;exact .inr #[k,c,e,U x c e _ z];obtain⟨v,z⟩:=I.cell x c e;exact#[v,U x c e v z];obtain⟨m,⟨o,_,_,ho,_⟩,_⟩:=I.loc;exact free _ o (λz=>(J _ z).2.1 rfl) ho I.free;obtain⟨v,o,ho,hd⟩:=I.cell x c e;exact free c o (λz=>(J c z).2.2.1 x c e rfl) ho (I.freeC x c e);obtain⟨e,n,ne,nf,d⟩:=I.pin p hp;have Y:p.1∉ch:=λz=>(J p.1 z).2.2.2 p hp rfl;exact#[keep p.1 p.2 ne nf Y e n,free p.1 p.2 Y e n,ne,nf,d]
theorem Inv.un(I:Inv X pins σ H s)(u:Un X.fs [] H H' s.heap h')(U:HOk X.prog X.w H' h'):Inv X pins σ H' {s with heap:=h',toks:=t'}:=by
 obtain⟨m,⟨o,es,ep,ho,r⟩,_⟩:=id I.loc;obtain⟨sl,hL⟩:=u.any ho I.free (by simp);exact I.step (g':=s.gens) (d':=s.drawn) (ch:=[]) (λ_ z=>nomatch z) (λb o _ hb _ e n=>u.keep b o e n hb (by simp)) (λb o _ hb _ e n=>u.slot b o e n hb (by simp)) (λb o _ e n=>u.free b o e n (by simp)) (λb o _ e=>u.there b o e (by simp)) u.tups u.frzs u.tbls (λm' hm=>by obtain⟨o',Y,ab,J,r'⟩:=hm;rw[ho] at J;cases J;exact#[_,Y,ab,hL,r']) U I.bare
theorem Inv.call {g':Array Vq} {t':Nat} {d':Drawn} (I:Inv X pins σ H s) (u:Un (frs X.stack) ch H H' s.heap h') (Y:HOk X.prog X.w H' h') (hg:Tf g')
 (J:∀b∈ch,(b∈X.ex\/X.s₀.heap.objs.size<=b)/\b≠X.env.locals/\(∀x c,X.env.cells.lookup x=pc c->c≠b)/\∀p∈X.pn++pins,p.1≠b):
 Inv X pins σ H' {s with heap:=h',gens:=g',drawn:=d',toks:=t'}:=by
 obtain⟨m,⟨o,es,ep,ho,r⟩,_⟩:=id I.loc;obtain⟨sl,hL⟩:=u.any ho I.free λz=>(J _ z).2.1 rfl;exact I.step (ch:=ch) J (λb o hL hb hc e n=>u.keep b o e n (λz=>(u8.mp (I.stkSub b z)).elim hL hb) hc) (λb o _ _ hc e n=>u.any e n hc) (λb o hc e n=>u.free b o e n hc) (λb o hc e=>u.there b o e hc) u.tups u.frzs u.tbls (λm' hm=>by obtain⟨o',ac,al,U,r'⟩:=hm;rw[ho] at U;cases U;exact#[_,ac,al,hL,r']) Y hg
theorem Inv.turned {t':Nat} (I:Inv X pins σ H s) (k:∀b o,b≠it->s.heap.get? b=pc o->h'.get? b=pc o) (hn:H it=pi) (U:it≠X.env.locals)
 (h1:it∈X.ex\/X.s₀.heap.objs.size<=it) (h2:∀x c,X.env.cells.lookup x=pc c->c≠it) (Y:∀p∈X.pn++pins,p.1≠it):Inv X pins σ H {s with heap:=h',toks:=t'}:=by
 have J:∀b u,H b=pc u->b≠it:=λb u e z=>by rw[z,hn] at e;cases e
 refine I.step (g':=s.gens) (d':=s.drawn) (ch:=[it]) (λb hb=> ?_) (λb o _ _ hc e _=>k b o (λz=>hc (by simp[z])) e) (λb o _ _ hc e _=>#[o.slots,k b o (λz=>hc (by simp[z])) e]) (λ_ _ _ _ n=>n)
  (λb o hc e=>#[o,k b o (λz=>hc (by simp[z])) e]) (λ_ _ e=>e) (λ_ _ _ e=>e) (λb ps e=>#[#v[],by rw[e];simp]) (λm hm=> ?_) (λb u e=> ?_) I.bare
 have e:b=it:=by simpa using hb
 subst e;exact#[h1,U,h2,Y];obtain⟨o,es,ep,ho,r⟩:=hm;exact#[o,es,ep,k _ o (S1 U) ho,r];refine(I.hok b u e).stay (λc v hc q=>k c v ?_ q) (λ_ q=>q) λ_ _ q=>q;rcases hc with z | z
 rw[z];exact J b u e;exact J c _ z
theorem Inv.tok(I:Inv X pins σ H s)(t:Nat):Inv X pins σ H {s with toks:=t}:=I.un (h':=s.heap) (t':=t) Un.refl I.hok
theorem Inv.kept(I:Inv X pins σ H s)(k:∀b u,s.heap.get? b=pc u->h'.get? b=pc u):Inv X pins σ H {s with heap:=h',toks:=t'}:=I.un (Un.kept k) (I.hok.kept k)
theorem Inv.laid{o:HO}{t':Nat}(I:Inv X pins σ H s)(k:∀b u,s.heap.get? b=pc u->h'.get? b=pc u)(hp:s.heap.objs.size<=a)(J:iN X.prog X.w (upd H a o) h' a o):
 Inv X pins σ (upd H a o) {s with heap:=h',toks:=t'}:=I.un (Un.laid k hp (I.hok.fresh hp)) (I.hok.laid k hp J)
theorem Inv.write {x e:qh} {o:HO} {t':Nat} (I:Inv X pins σ H s) (Y:Mut (H x)) (he:e=x\/H e=pc (.own x)) (k:∀b u,b≠e->s.heap.get? b=pc u->h'.get? b=pc u) (J:∃u,h'.get? e=pc u)
 (U:iN X.prog X.w (upd H x o) h' x o):Inv X pins σ (upd H x o) {s with heap:=h',toks:=t'}:=I.un (Un.write Y he k J) (I.hok.write Y he k J U)
theorem Inv.pins_of{J:List (qh×Obj)}(I:Inv X pins σ H s)(h:∀p∈J,s.heap.get? p.1=pc p.2/\H p.1=pi/\p.1≠X.env.locals/\p.1∉X.fs/\∀v,p.2.data≠ .cell v):Inv X J σ H s:=
 #[I.ok,I.os,I.bare,I.base,I.loc,I.cell,I.free,I.freeC,λp hp=>(wE.mp hp).elim (λz=>I.pin p (RB _ z)) (h p),I.hok,I.len]
theorem CW{N:List Str}(J:N.Nodup){i j:Nat}(a:N[i]? =pc x)(b:N[j]? =pc x):i=j:=by obtain⟨h1,e1⟩:=xb.mp a;obtain⟨h2,e2⟩:=xb.mp b;exact(Vs J).mp (e1.trans e2.symm)
theorem Bq {M:Model} {A:Je} {E:qb->tt->Prop} {Q:Unit->tt->Prop} (I:Inv X pins σ H s) (hN:X.N.Nodup) (hi:X.N[i]? =pc x) (hx:Loc X.env.scope x) (r:RelV v u)
 (h:∀s',Inv X pins (σ.set i (pc v)) H s'->(∃a,Heap.SameBut a s.heap s'.heap/\(a=X.env.locals\/X.env.cells.lookup x=pc a))->Q () s') (hf:X.fn x=qc\/X.env.scope.names.lookup x=pc .local:=by first | exact .inl rfl | exact .inr rfl | assumption):wpAny M A (storeName X.env x u) Q E s:=by
 obtain⟨m,hn,hl⟩:=id I.loc;have al:(X.env.scope.kind == .class||(X.env.scope.kind == .module&&X.env.locals != X.env.globals))=false:=by rw[I.ok.kind];rfl
 have Y:i<σ.length:=by rw[I.len];exact(xb.mp hi).1
 have cne:=I.cne;have J:∀{a:qh} {h':FS},(∃o,s.heap.get? a=pc o/\H a=pi)->Heap.SameBut a s.heap h'->HOk X.prog X.w H h':=λ{a h'} ha hs b ob e=>by
  obtain⟨_,_,U⟩:=ha;refine(I.hok b ob e).stay (λc w' hc q=>(hs.2 c ?_).trans q) (λ_ q=>q) λ_ _ q=>q;rintro rfl;rcases hc with rfl | hc
  rw[U] at e;cases e;rw[U] at hc;cases hc
 rcases hx with hk | hk;refine wpAny_storeName_local hk hn (λh' a1 hs=> ?_) al;obtain⟨oL,_,_,a2,_⟩:=id hn;refine h _ #[I.ok,I.os,I.bare,#[λb o e n hb hx=> ?_,λb o e n hb hx=> ?_,I.base.free,λb o e hx=> ?_,I.base.tups,I.base.frzs,I.base.tbls],#[_,a1,λj y v' e1 e2 e3=> ?_],λy c e=> ?_,I.free,I.freeC,λp hp=> ?_,J #[oL,a2,I.free] hs,by simpa using I.len] #[_,hs,.inl rfl];exact(hs.2 b (Ez (AT (Heap.lt_size e) I.ok.above))).trans (I.base.keep b o e n hb hx);obtain⟨sl,e1⟩:=I.base.slot b o e n hb hx;exact#[sl,(hs.2 b (Ez (AT (Heap.lt_size e) I.ok.above))).trans e1];obtain⟨o',e1⟩:=I.base.there b o e hx;exact#[o',(hs.2 b (Ez (AT (Heap.lt_size e) I.ok.above))).trans e1];by_cases hj:j=i;subst hj;rw[hi] at e1;cases e1;rw[Rp Y] at e2;cases e2;exact#[u,r,.inl #[hk,by simp]];rw[Ru (S1 hj)] at e2;obtain⟨u',r',q⟩:=hl j y v' e1 e2 e3;refine#[u',r', ?_];rcases q with⟨k,e⟩ | ⟨k,c,e,z⟩;refine .inl #[k, ?_];have:y≠x:=λe=>hj (CW hN e1 (e▸hi))
 simp[this,e];exact .inr #[k,c,e,z.sameBut hs (cne y c e)];obtain⟨w',z⟩:=I.cell y c e;exact#[w',z.sameBut hs (cne y c e)];obtain⟨e,n,ne,nf,d⟩:=I.pin p hp;exact#[(hs.2 p.1 ne).trans e,n,ne,nf,d];have ac:X.fn x=true:=by rcases hf with z | z;exact z;rw[z] at hk;cases hk
 obtain⟨c,hc⟩:=I.ok.has x (.inl hk);obtain⟨w',z⟩:=I.cell x c hc;refine wpAny_storeName_cell I.ok.kind hk hc z (λh' am hs=> ?_);obtain⟨oc,an,ap⟩:=id z;refine h {s with heap:=h'} #[I.ok,I.os,I.bare,#[λb o e n hb hx=> ?_,λb o e n hb hx=> ?_,I.base.free,λb o e hx=> ?_,I.base.tups,I.base.frzs,I.base.tbls],#[m,hn.sameBut hs (S1 (cne x c hc)),λj y v' e1 e2 e3=> ?_],λy c' e=> ?_,I.free,I.freeC,λp hp=> ?_,J #[oc,an,I.freeC x c hc] hs,by simpa using I.len] #[c,hs,.inr hc];exact(hs.2 b (Ez (AT (Heap.lt_size e) (I.ok.cab x c ac hc)))).trans (I.base.keep b o e n hb hx);obtain⟨sl,e1⟩:=I.base.slot b o e n hb hx;exact#[sl,(hs.2 b (Ez (AT (Heap.lt_size e) (I.ok.cab x c ac hc)))).trans e1];obtain⟨o',e1⟩:=I.base.there b o e hx;exact#[o',(hs.2 b (Ez (AT (Heap.lt_size e) (I.ok.cab x c ac hc)))).trans e1];by_cases hj:j=i;subst hj;rw[hi] at e1;cases e1;rw[Rp Y] at e2;cases e2;exact#[u,r,.inr #[.inl hk,c,hc,am]];rw[Ru (S1 hj)] at e2;obtain⟨u',r',q⟩:=hl j y v' e1 e2 e3;refine#[u',r', ?_];rcases q with q | ⟨k,c',e,z'⟩
 exact .inl q;refine .inr #[k,c',e,z'.sameBut hs ?_];rintro rfl;exact hj (CW hN e1 (I.ok.inj _ _ _ e hc▸hi));by_cases as:c'=c;subst as;exact#[_,am];obtain⟨w2,z2⟩:=I.cell y c' e;exact#[w2,z2.sameBut hs as];obtain⟨e,n,ne,nf,d⟩:=I.pin p hp;refine#[(hs.2 p.1 ?_).trans e,n,ne,nf,d];intro q;rw[q,an] at e;have q':oc=p.2:=RS e;exact d w' (by rw[<- q'];exact ap)
theorem DH {M:Model} {A:Je} {E:qb->tt->Prop} {Q:Unit->tt->Prop} (I:Inv X pins σ H s) (J:X.N.Nodup) (hi:X.N[i]? =pc x) (hx:Loc X.env.scope x) (r:RelV v u)
 (h:∀s',Inv X pins (σ.set i (pc v)) H s'->Q () s') (U:X.fn x=qc\/X.env.scope.names.lookup x=pc .local:=by first | exact .inl rfl | exact .inr rfl | assumption):wpAny M A (storeName X.env x u) Q E s:=
 Bq I J hi hx r (λs' Y _=>h s' Y) U
theorem Inv.call' {s':tt} (I:Inv X pins σ H s) (Y:s'.os=s.os) (u:Un (frs X.stack) ch H H' s.heap s'.heap) (J:HOk X.prog X.w H' s'.heap) (hg:Tf s'.gens)
 (U:∀b∈ch,(b∈X.ex\/X.s₀.heap.objs.size<=b)/\b≠X.env.locals/\(∀x c,X.env.cells.lookup x=pc c->c≠b)/\∀p∈X.pn++pins,p.1≠b):Inv X pins σ H' s':=by
 obtain⟨h',g',d',t',o'⟩:=s';have e:o'=s.os:=Y;subst e;exact I.call (g':=g') (t':=t') (d':=d') u J hg U
end
abbrev XK:=qb->Option qh->Hp->Prop
abbrev St:=List (Option V)
abbrev VK:=V->Hp->Prop
abbrev TE:=St->Hp->VK->Prop
abbrev TT:=St->Hp->(Bool->Hp->Prop)->Prop
abbrev TA:=St->Hp->(List V->Hp->Prop)->Prop
structure Ends where
 nx:St->Hp->Prop
 rt:VK
 bk:St->Hp->Prop:=λ_ _=>False
 ct:St->Hp->Prop:=λ_ _=>False
abbrev TS:=Ends->St->Hp->Prop
def EP(X:Cx)(pins:List (qh×Obj))(σ:St)(Q:VK)(u:qb)(s':tt):Prop:=∃v H',Inv X pins σ H' s'/\RelV v u/\Q v H'
def TP(X:Cx)(pins:List (qh×Obj))(σ:St)(Q:Bool->Hp->Prop)(b:Bool)(s':tt):Prop:=∃H',Inv X pins σ H' s'/\Q b H'
def AP(X:Cx)(pins:List (qh×Obj))(σ:St)(Q:List V->Hp->Prop)(us:List qb)(s':tt):Prop:=∃vs H',Inv X pins σ H' s'/\Vals vs us/\Q vs H'
def SP(X:Cx)(pins:List (qh×Obj))(D:Ends)(f:Flow)(s':tt):Prop:=
 match f with
 | .next=>∃J H',Inv X pins J H' s'/\D.nx J H'
 | .brk=>∃J H',Inv X pins J H' s'/\D.bk J H'
 | .cont=>∃J H',Inv X pins J H' s'/\D.ct J H'
 | .ret u=>∃v J H',Inv X pins J H' s'/\RelV v u/\D.rt v H'
def PE(X:Cx)(e:Db)(t:TE):Prop:=
 ∀(pins:List (qh×Obj)) (s:tt) (σ:St) (H:Hp) (Q:VK),Inv X pins σ H s->t σ H Q->wpAny (model X.prog X.w) X.A (eval e X.env) (EP X pins σ Q) X.xe s
def PT(X:Cx)(e:Db)(t:TT):Prop:=
 ∀(pins:List (qh×Obj)) (s:tt) (σ:St) (H:Hp) (Q:Bool->Hp->Prop),Inv X pins σ H s->t σ H Q->wpAny (model X.prog X.w) X.A (isTrue e X.env (eval e X.env)) (TP X pins σ Q) X.xe s
def PW(X:Cx)(e:Db)(t:TT):Prop:=
 ∀(J:Sem qb) (pins:List (qh×Obj)) (s:tt) (σ:St) (H:Hp) (Q:Bool->Hp->Prop),Inv X pins σ H s->t σ H Q->wpAny (model X.prog X.w) X.A (isTrue e X.env J) (TP X pins σ Q) X.xe s
theorem PW.pt{t:TT}(h:PW X e t):PT X e t:=h _
def PA(X:Cx)(es:List Db)(t:TA):Prop:=
 ∀(pos:Pos) (pins:List (qh×Obj)) (s:tt) (σ:St) (H:Hp) (Q:List V->Hp->Prop),Inv X pins σ H s->t σ H Q->wpAny (model X.prog X.w) X.A (spliced (backTo pos (starEach es X.env))) (AP X pins σ Q) X.xe s
def PS(X:Cx)(st:S0)(t:TS):Prop:=
 ∀(pins:List (qh×Obj)) (s:tt) (σ:St) (H:Hp) (D:Ends),Inv X pins σ H s->t D σ H->wpAny (model X.prog X.w) X.A (exec st X.env) (SP X pins D) X.xe s
def PSs(X:Cx)(st:List S0)(t:TS):Prop:=
 ∀(pins:List (qh×Obj)) (s:tt) (σ:St) (H:Hp) (D:Ends),Inv X pins σ H s->t D σ H->wpAny (model X.prog X.w) X.A (execs st X.env) (SP X pins D) X.xe s
theorem thn{α:Type}{t:Sem α}{Q J:α->tt->Prop}(h:wpAny M A t Q E s)(U:∀a s,Q a s->J a s):wpAny M A t J E s:=Sg h U λ_ _ x=>x
section
variable {X : Cx}
theorem bin {a b:Db} {ta tb:TE} (ha:PE X a ta) (hb:PE X b tb) {R:V->V->Hp->Prop} (I:Inv X pins σ H s) (h:ta σ H λx H1=>tb σ H1 λy H2=>R x y H2)
 {α:Type} {Q:α->tt->Prop} {f:qb->qb->Sem α}
 (Y:∀v u s2 x y H2,Inv X pins σ H2 s2->RelV x v->RelV y u->R x y H2->wpAny (model X.prog X.w) X.A (f v u) Q X.xe s2):
 wpAny (model X.prog X.w) X.A (eval a X.env) (λv J=>wpAny (model X.prog X.w) X.A (eval b X.env) (λu U=>wpAny (model X.prog X.w) X.A (f v u) Q X.xe U) X.xe J) X.xe s:=by
 refine thn (ha pins s σ H _ I h) λv s1 #[x,H1,I1,r1,q1]=> ?_;refine thn (hb pins s1 σ H1 _ I1 q1) λu s2 #[y,H2,I2,r2,q2]=> ?_;exact Y v u s2 x y H2 I2 r1 r2 q2
def LC(i:Nat):TE:=λσ H Q=>∃v,σ[i]? =pc (pc v)/\Q v H
def tC(v:V):TE:=λ_ H Q=>Q v H
theorem N3(hN:X.N[i]? =pc x)(hv:Vis X.env.scope x)(hd:(x == ("__debug__" :Str))=false:=by decide)(Y:(x == ("__classdict__" :Str))=false:=by decide):PE X (.Name x pos) (LC i):=by
 intro pins s σ H Q I h;obtain⟨v,e,h⟩:=h;obtain⟨m,hn,hl⟩:=I.loc;obtain⟨u,r,l⟩:=hl i x v hN e hv;have U:EP X pins σ Q u s:=#[v,H,I,r,h];rcases l with⟨hk,hm⟩ | ⟨hk,c,hc,J⟩
 exact VA (wpAny_loadName_local I.ok.kind hk hn hm U) hd;rcases hk with hk | hk
 exact VA (wpAny_loadName_cell I.ok.kind hk hc J U) hd;exact VA (wpAny_loadName_free I.ok.kind hk hc J U Y) hd
theorem ay{i j pos}:PE X (.Constant (.int i) j pos) (tC (.int i)):=λ_ _ _ H _ I h=>wpAny_Constant_int #[.int i,H,I.tok _,#[_,rfl],h]
theorem wK{b j pos}:PE X (.Constant (.bool b) j pos) (tC (.bl b)):=λ_ _ _ H _ I h=>Constant_bool #[.bl b,H,I,rfl,h]
theorem pH{j pos}:PE X (.Constant .none j pos) (tC .non):=λ_ _ _ H _ I h=>Constant_none #[.non,H,I,rfl,h]
theorem kW{x j pos}:PE X (.Constant (.str x) j pos) (tC (.str x)):=λ_ _ _ H _ I h=>Calls.Constant_str #[.str x,H,I.tok _,#[_,rfl],h]
def Gl(X:Cx)(x:Str):Prop:=X.env.kindOf x=pc .globalImplicit
theorem AS {E:qb->tt->Prop} {pos:Pos} (I:Inv X pins σ H s) (J:Gl X x) (hm:X.mg x=pc u) (h:Q u s)
 (hd:(x == ("__debug__" :Str))=false:=by decide):wpAny (model X.prog X.w) X.A (eval (.Name x pos) X.env) Q E s:=
 Calls.Name_function_global I.ok.kind J (Calls.loadGlobal_global (by rw[I.ok.glob];exact I.mod.glob.keeps I.bk) hm h) hd
theorem pP {E:qb->tt->Prop} {pos:Pos} (I:Inv X pins σ H s) (J:Gl X x) (hm:X.mg x=pi) (U:bootBuiltins x=pc u) (h:Q u s)
 (hn:x≠"__name__" :=by decide) (hd:(x == ("__debug__" :Str))=false:=by decide):wpAny (model X.prog X.w) X.A (eval (.Name x pos) X.env) Q E s:=by
 obtain⟨mb,h1,h2⟩:=I.mod.blt;exact Calls.Name_function_global I.ok.kind J (Calls.loadGlobal_builtin (by rw[I.ok.glob];exact I.mod.glob.keeps I.bk) hm (by rw[I.ok.blt];exact h1.keeps I.bk) ((h2 x hn).trans U) h) hd
theorem Ah(J:Gl X x)(hm:X.mg x=pc u)(r:RelV v u)(hd:(x == ("__debug__" :Str))=false:=by decide):PE X (.Name x pos) (tC v):=
 λ_ _ _ H _ I h=>AS I J hm #[v,H,I,r,h] hd
theorem FD(J:Gl X x)(hm:X.mg x=pi)(U:bootBuiltins x=pc u)(r:RelV v u)(hn:x≠"__name__" :=by decide)(hd:(x == ("__debug__" :Str))=false:=by decide):PE X (.Name x pos) (tC v):=
 λ_ _ _ H _ I h=>pP I J hm U #[v,H,I,r,h] hn hd
variable {a b : Db} {ta tb : TE} {pos : Pos}
def PC(X:Cx)(op:CmpOp)(a b:Db)(t:TE):Prop:=
 ∀(pins:List (qh×Obj)) (s:tt) (σ:St) (H:Hp) (Q:VK),Inv X pins σ H s->t σ H Q->
  wpAny (model X.prog X.w) X.A (eval a X.env) (λv J=>wpAny (model X.prog X.w) X.A (eval b X.env) (λu U=>wpAny (model X.prog X.w) X.A (compareOp op v u) (EP X pins σ Q) X.xe U) X.xe J) X.xe s
theorem KO{b:Db}(h:op≠ .In)(h2:op≠ .NotIn):behindInMarks op b=false:=by
 have e1:(op == CmpOp.In)=false:=by cases op <;> first | rfl | exact absurd rfl h
 have e2:(op == CmpOp.NotIn)=false:=by cases op <;> first | rfl | exact absurd rfl h2
 cases b <;> simp[behindInMarks,e1,e2]
def tB(t:TE):TT:=λσ H Q=>t σ H λx H1=>∃c,x=.bl c/\Q c H1
theorem Ra(h:PC X op a b t)(h1:behindInMarks op b=false:=by first | exact KO ∅ ∅ | rfl):PT X (.Compare a [op] [b] pos) (tB t):=by intro pins s σ H Q I J;refine UO (thn (h pins s σ H _ I J) λv s1 h1=>thn h1 λu s2 h2=>thn h2 λc s3 #[x,H1,I1,r1,q1]=> ?_) h1;obtain⟨d,rfl,q⟩:=q1;cases r1;exact Rx #[H1,I1,q]
theorem jn(h:PE X e t)(U:∀J,isTrue e X.env J=(do let v <- J;standAt e.pos;holding [v] (truthy v)):=by intro _;rfl):PT X e (tB t):=by intro pins s σ H Q I Y;refine isTrue_plain (thn (h pins s σ H _ I Y) λv s1 #[x,H1,I1,r1,q1]=> ?_) (U _);obtain⟨d,rfl,q⟩:=q1;cases r1;exact Rx #[H1,I1,q]
variable {tA tB' : TT} {rest : List Db}
def Oq(t u:TT):TT:=λσ H Q=>t σ H λc H1=>if c=qc then u σ H1 Q else Q wh H1
def tOr(t u:TT):TT:=λσ H Q=>t σ H λc H1=>if c=qc then Q qc H1 else u σ H1 Q
def Ox(t:TT):TT:=λσ H Q=>t σ H λc H1=>Q (!c) H1
theorem pw_and1(ha:PT X a tA):PW X (.BoolOp .And [a] pos) tA:=by
 intro J pins s σ H Q I h;refine isTrue_and (thn (ha pins s σ H Q I h) λc s1 e=> ?_);cases c with
 | true=>exact isTrue_and_nil e
 | false=>exact e
theorem pw_or1(ha:PT X a tA):PW X (.BoolOp .Or [a] pos) tA:=by
 intro J pins s σ H Q I h;refine isTrue_or (thn (ha pins s σ H Q I h) λc s1 e=> ?_);cases c with
 | false=>exact isTrue_or_nil e
 | true=>exact e
theorem pw_and(ha:PT X a tA)(hb:PW X (.BoolOp .And (b::rest) pos) tB'):PW X (.BoolOp .And (a::b::rest) pos) (Oq tA tB'):=by
 intro J pins s σ H Q I h;refine isTrue_and (thn (ha pins s σ H _ I h) λc s1 #[H1,I1,q1]=> ?_);cases c with
 | true=>exact hb J pins s1 σ H1 Q I1 q1
 | false=>exact#[H1,I1,q1]
theorem pw_or(ha:PT X a tA)(hb:PW X (.BoolOp .Or (b::rest) pos) tB'):PW X (.BoolOp .Or (a::b::rest) pos) (tOr tA tB'):=by
 intro J pins s σ H Q I h;refine isTrue_or (thn (ha pins s σ H _ I h) λc s1 #[H1,I1,q1]=> ?_);cases c with
 | true=>exact#[H1,I1,q1]
 | false=>exact hb J pins s1 σ H1 Q I1 q1
theorem kh(ha:PT X a tA):PT X (.UnaryOp .Not a pos) (Ox tA):=by intro pins s σ H Q I h;exact isTrue_not (ha pins s σ H (λc H1=>Q (!c) H1) I h)
def L3(ta tb:TE):TE:=λσ H Q=>ta σ H λx H1=>∃c,x=.bl c/\if c=qc then tb σ H1 Q else Q (.bl wh) H1
def LN(ta:TE):TE:=λσ H Q=>ta σ H λx H1=>∃c,x=.bl c/\Q (.bl (!c)) H1
theorem z4{op}(h:PE X a t):PE X (.BoolOp op [a] pos) t:=λpins s σ H Q I J=>BoolOp_one (h pins s σ H Q I J)
theorem zf(ha:PE X a ta)(hb:PE X (.BoolOp .And (b::rest) pos) tb):PE X (.BoolOp .And (a::b::rest) pos) (L3 ta tb):=by
 intro pins s σ H Q I h;refine BoolOp_and (thn (ha pins s σ H _ I h) λv s1 #[x,H1,I1,r1,q1]=> ?_);obtain⟨c,rfl,q1⟩:=q1;cases r1;refine Rx ?_;cases c with
 | true=>exact hb pins s1 σ H1 Q I1 q1
 | false=>exact#[.bl wh,H1,I1,rfl,q1]
theorem ON(ha:PE X a ta):PE X (.UnaryOp .Not a pos) (LN ta):=by intro pins s σ H Q I h;refine UnaryOp_ (thn (ha pins s σ H _ I h) λv s1 #[x,H1,I1,r1,q1]=> ?_);obtain⟨c,rfl,q1⟩:=q1;cases r1;exact not_of (Rx #[.bl (!c),H1,I1,rfl,q1])
end
def SqL(K:sH)(H:Hp)(a:qh)(xs:List V):Prop:=
 Rd H a (.lst xs)\/
  ∃(o:Obj) (J:Array qb) (n:Nat),K.lookup a=pc o/\o.cls=.type "list" /\o.dict=pi/\o.data=.seq J n/\J.size<=sizeLine/\Vals xs J.toList
def SqT(K:sH)(H:Hp)(a:qh)(xs:List V):Prop:=
 Rd H a (.tup xs)\/
  ∃(o:Obj) (J:Array qb) (n:Nat),K.lookup a=pc o/\o.cls=.type "tuple" /\o.data=.seq J n/\J.size<=sizeLine/\Vals xs J.toList
def Qt:qb->Option V
 | .none=>pc .non
 | .bool b=>pc (.bl b)
 | .int i _=>pc (.int i)
 | .str x _=>pc (.str x)
 | .bytes b _=>pc (.byt b)
 | .float b _=>pc (.flt b)
 | .ref a=>pc (.ref a)
 | .type n=>pc (.ty n)
 | _=>pi
theorem RelV.abs{x:V}(r:RelV x u):Qt u=pc x:=by
 cases x with
 | non=>cases r;rfl
 | bl _=>cases r;rfl
 | int _=>obtain⟨t,rfl⟩:=r;rfl
 | str _=>obtain⟨t,rfl⟩:=r;rfl
 | byt _=>obtain⟨t,rfl⟩:=r;rfl
 | flt _=>obtain⟨t,rfl⟩:=r;rfl
 | ref _=>cases r;rfl
 | ty _=>cases r;rfl
theorem RelV.inj{x y:V}(r:RelV x u)(q:RelV y u):x=y:=RS (r.abs.symm.trans q.abs)
theorem Vals.inj:∀{xs ys:List V} {us:List qb},Vals xs us->Vals ys us->xs=ys
 | _,_,_,.nil,.nil=>rfl
 | _,_,_,.cons r t,.cons r' t'=>by rw[r.inj r',Vals.inj t t']
section
variable {X : Cx} {pins : List (qh × Obj)} {σ : St} {H : Hp} {s : tt} {a : qh} {xs ys : List V}
theorem SqL.of(h:H a=pc (.lst xs)):SqL K H a xs:=.inl (.inl h)
theorem SqT.of(h:H a=pc (.tup xs)):SqT K H a xs:=.inl (.inl h)
theorem Inv.list(I:Inv X pins σ H s)(h:SqL X.K H a xs):∃J:List qb,Vals xs J/\PlainL s.heap a J.toArray/\xs.length<=sizeLine:=by rcases h with h | ⟨o,J,n,hk,hc,hd,hs,hz,r⟩;obtain⟨z,J,n,r,e⟩:=h.ok I.hok;exact#[J,r,#[_,n,e,rfl,rfl,rfl],z];refine#[J.toList,r,#[o,n,I.kIn a o hk,hc,hd,by simpa using hs], ?_];have e:=r.length;simp only[TU] at e;omega
theorem Inv.tuple(I:Inv X pins σ H s)(h:SqT X.K H a xs):∃J:List qb,Vals xs J/\IsTup s.heap a J.toArray/\xs.length<=sizeLine:=by rcases h with h | ⟨o,J,n,hk,hc,hs,hz,r⟩;obtain⟨z,J,r,p⟩:=h.ok I.hok;exact#[J,r,p,z];refine#[J.toList,r,#[o,I.kIn a o hk,hc,n,by simpa using hs], ?_];have e:=r.length;simp only[TU] at e;omega
theorem Inv.list_inj(I:Inv X pins σ H s)(h:SqL X.K H a xs)(h':SqL X.K H a ys):xs=ys:=by
 obtain⟨U,r,⟨o,n,e,_,_,d⟩,_⟩:=I.list h;obtain⟨J,r',⟨o',n',e',_,_,Y⟩,_⟩:=I.list h';rw[e] at e';cases e';rw[d] at Y;injection Y with d1 _
 have:U=J:=by simpa using congrArg Array.toList d1
 subst this;exact r.inj r'
end
abbrev Cx.wish(X:Cx)(E:qb->tt->Prop):Cx:={X with xe:=E}
abbrev Cx.nox(X:Cx):Cx:=X.wish λ_ _=>False
theorem Cx.Ok.wish(ok:X.Ok)(E:qb->tt->Prop):(X.wish E).Ok:=
 #[ok.mod,ok.kind,ok.glob,ok.blt,ok.above,ok.inj,ok.has,ok.cab,ok.hd,ok.frames,ok.stk,ok.exf,ok.bs,ok.bsz,ok.noex,ok.exfs,ok.funs,ok.frf]
theorem Cx.Ok.unwish(ok:(X.wish E).Ok):X.Ok:=
 #[ok.mod,ok.kind,ok.glob,ok.blt,ok.above,ok.inj,ok.has,ok.cab,ok.hd,ok.frames,ok.stk,ok.exf,ok.bs,ok.bsz,ok.noex,ok.exfs,ok.funs,ok.frf]
section
variable {X : Cx} {pins : List (qh × Obj)} {σ : St} {H : Hp} {s : tt} {E : qb → tt → Prop}
theorem Inv.wish(I:Inv X pins σ H s)(E:qb->tt->Prop):Inv (X.wish E) pins σ H s:=#[I.ok.wish E,I.os,I.bare,I.base,I.loc,I.cell,I.free,I.freeC,I.pin,I.hok,I.len]
theorem Inv.unwish(I:Inv (X.wish E) pins σ H s):Inv X pins σ H s:=#[I.ok.unwish,I.os,I.bare,I.base,I.loc,I.cell,I.free,I.freeC,I.pin,I.hok,I.len]
theorem SP.unwish{D:Ends}{f:Flow}{s':tt}(h:SP (X.wish E) pins D f s'):SP X pins D f s':=by
 cases f with
 | next=>obtain⟨J,H',I,q⟩:=h;exact#[J,H',I.unwish,q]
 | brk=>obtain⟨J,H',I,q⟩:=h;exact#[J,H',I.unwish,q]
 | cont=>obtain⟨J,H',I,q⟩:=h;exact#[J,H',I.unwish,q]
 | ret u=>obtain⟨v,J,H',I,r,q⟩:=h;exact#[v,J,H',I.unwish,r,q]
theorem PSs.nox{st:List S0}{t:TS}(h:PSs X.nox st t):PSs X st t:=λpins s σ H D I J=>
 Sg (h pins s σ H D (I.wish _) J) (λ_ _ q=>q.unwish) λ_ _ z=>sn z
end
section
variable {X : Cx} {st : S0} {rest : List S0} {t u : TS} {e : Db} {te : TE} {pos : Pos}
def LL:TS:=λD σ H=>D.nx σ H
def N9(t u:TS):TS:=λD σ H=>t {D with nx:=u D} σ H
theorem bA:PSs X [] LL:=λ_ _ σ H _ I h=>TB #[σ,H,I,h]
theorem av(h1:PS X st t)(h2:PSs X rest u):PSs X (st::rest) (N9 t u):=by
 intro pins s σ H D I h;refine wpAny_execs_cons (thn (h1 pins s σ H {D with nx:=u D} I h) λf s1 q=> ?_);cases f with
 | next=>
  obtain⟨J,H',U,q⟩:=q;exact h2 pins s1 J H' D U q
 | ret v=>exact q
 | brk=>exact q
 | cont=>exact q
theorem aE(h1:PS X st t):PSs X [st] t:=by
 intro pins s σ H D I h;refine wpAny_execs_cons (thn (h1 pins s σ H D I h) λf s1 q=> ?_);cases f with
 | next=>exact TB q
 | ret v=>exact q
 | brk=>exact q
 | cont=>exact q
theorem Inv.quiet(I:Inv X pins σ H s):interactive X.env=false:=by simp[interactive,I.ok.kind]
def LY(te:TE):TS:=λD σ H=>te σ H λ_ H1=>D.nx σ H1
theorem dS(J:PE X e te)(hs:swapsWith e pi pos.line X.env=pure false:=by rfl):PS X (.Expr e pos) (LY te):=by intro pins s σ H D I h;exact wpAny_Expr_any (thn (J pins s σ H _ I h) λv s1 #[x,H1,I1,r1,q1]=>#[σ,H1,I1,q1]) I.quiet hs
def OE(te:TE):TS:=λD σ H=>te σ H D.rt
theorem bg(J:PE X e te):PS X (.Return (pc e) pos) (OE te):=by intro pins s σ H D I h;exact wpAny_Return_some (thn (J pins s σ H _ I h) λv s1 #[x,H1,I1,r1,q1]=>#[x,σ,H1,I1,r1,q1])
def OG(c:TT)(t u:TS):TS:=λD σ H=>c σ H λb H1=>if b=qc then t D σ H1 else u D σ H1
theorem cf{c:Db}{a b:List S0}{tc:TT}(hc:PT X c tc)(ha:PSs X a t)(hb:PSs X b u):PS X (.If c a b pos) (OG tc t u):=by
 intro pins s σ H D I h;refine wpAny_If (thn (hc pins s σ H _ I h) λd s1 #[H1,I1,q1]=> ?_);cases d with
 | true=>exact ha pins s1 σ H1 D I1 q1
 | false=>exact hb pins s1 σ H1 D I1 q1
def IC:TS:=λ_ _ _=>False
theorem gj:PS X st IC:=λ_ _ _ _ _ _ h=>h.elim
end
abbrev TG:=V->St->Hp->(St->Hp->Prop)->Prop
abbrev TGs:=List V->St->Hp->(St->Hp->Prop)->Prop
def PG(X:Cx)(J:Db)(t:TG):Prop:=
 ∀(pins:List (qh×Obj)) (s:tt) (σ:St) (H:Hp) (v:V) (u:qb) (Q:St->Hp->Prop),Inv X pins σ H s->RelV v u->t v σ H Q->
  wpAny (model X.prog X.w) X.A (assign J X.env u) (λ_ s'=>∃U H',Inv X pins U H' s'/\Q U H') X.xe s
def PGs(X:Cx)(ts:List Db)(t:TGs):Prop:=
 ∀(pins:List (qh×Obj)) (s:tt) (σ:St) (H:Hp) (vs:List V) (us:List qb) (Q:St->Hp->Prop),Inv X pins σ H s->Vals vs us->t vs σ H Q->
  wpAny (model X.prog X.w) X.A (assignInOrder ((assignEach ts X.env).map (·.2)) us) (λ_ s'=>∃J H',Inv X pins J H' s'/\Q J H') X.xe s
abbrev K7:=V->V->V->Hp->(Hp->Prop)->Prop
def NU(X:Cx)(t:K7):Prop:=
 ∀(pins:List (qh×Obj)) (s:tt) (σ:St) (H:Hp) (o i v:V) (J U u:qb) (Q:Hp->Prop),Inv X pins σ H s->RelV o J->RelV i U->RelV v u->t o i v H Q->
  wpAny (model X.prog X.w) X.A (setItem J U u) (λ_ s'=>∃H',Inv X pins σ H' s'/\Q H') X.xe s
section
variable {X : Cx} {pos : Pos}
def wt(i:Nat):TG:=λv σ H Q=>Q (σ.set i (pc v)) H
theorem aP(J:X.N.Nodup)(hi:X.N[i]? =pc x)(hx:Loc X.env.scope x)(U:X.fn x=qc\/X.env.scope.names.lookup x=pc .local:=by first | exact .inl rfl | exact .inr rfl | assumption):PG X (.Name x pos) (wt i):=by intro pins s σ H v u Q I r h;exact Vh (DH I J hi hx r (λs' Y=>#[_,H,Y,h]) U)
def NT:TGs:=λvs σ H Q=>vs=[]/\Q σ H
def LP(t:TG)(u:TGs):TGs:=λvs σ H Q=>∃v r,vs=v::r/\t v σ H λJ H'=>u r J H' Q
theorem ft:PGs X [] NT:=by intro pins s σ H vs us Q I r h;obtain⟨e,h⟩:=h;subst e;cases r;exact assignInOrder_nil #[σ,H,I,h]
theorem bU {es:List Db} {t:TG} {u:TGs} (h1:PG X e t) (h2:PGs X es u)
 (hs:(assignEach (e::es) X.env).map (·.2)=assign e X.env::(assignEach es X.env).map (·.2):=by rfl):PGs X (e::es) (LP t u):=by
 intro pins s σ H vs us Q I r h;obtain⟨v,U,e1,h⟩:=h;subst e1;cases r with
 | cons r J=>
  rw[hs];refine assignInOrder_cons (thn (h1 pins s σ H _ _ _ I r h) λ_ s1 #[σ1,H1,I1,q1]=> ?_);exact h2 pins s1 σ1 H1 _ _ Q I1 J q1
def OH(K:sH)(n:Nat)(t:TGs):TG:=λv σ H Q=>∃a xs,v=.ref a/\SqT K H a xs/\xs.length=n/\t xs σ H Q
theorem gu {es:List Db} {k:Nat} {t:TGs} {n:Nat} (hc:X.calm=qc) (h:PGs X es t)
 (hn:(assignEach es X.env).length=n:=by rfl) (J:(assignEach es X.env).findIdx? (·.1)=none:=by rfl):PG X (.Tuple es k pos) (OH X.K n t):=by
 intro pins s σ H v u Q I r U;obtain⟨a,xs,e1,hq,hl,U⟩:=U;subst e1;cases r;obtain⟨ac,Y,ht,hz⟩:=I.tuple hq;refine assign_Tuple_tuple (I.ok.hd hc) ht (by simp[hn,<- hl,Y.length]) J λh' hx=> ?_;have I1:Inv X pins σ H {s with heap:=h'}:=I.kept (t':=s.toks) λb o e=>hx b o (Ez (Heap.lt_size e)) e;exact h pins _ σ H xs _ Q I1 (by simpa using Y) U
def N4(to J:TE)(t:K7):TG:=λv σ H Q=>to σ H λo H1=>J σ H1 λi H2=>t o i v H2 λU=>Q σ U
theorem og {o i:Db} {to Y:TE} {t:K7} (ho:PE X o to) (hi:PE X i Y) (hs:NU X t)
 (ha:∀v,assign (.Subscript o i pos) X.env v=(do
  let J <- holding [v] (eval o X.env)
  let U <- holding [v,J] (eval i X.env)
  standAt pos
  holding [v,J,U] (setItem J U v)
  release [v,J,U] []):=by intro _;rfl):PG X (.Subscript o i pos) (N4 to Y t):=by
 intro pins s σ H v u Q I r h;rw[ha];refine x0 (Tq (thn (ho pins s σ H _ I h) λJ s1 #[x,H1,I1,r1,q1]=> ?_));refine x0 (Tq (thn (hi pins s1 σ H1 _ I1 q1) λU s2 #[y,H2,I2,r2,q2]=> ?_));refine x0 (UU (x0 (Tq (thn (hs pins s2 σ H2 x y v J U u _ I2 r1 r2 r q2) λ_ s3 #[H3,I3,q3]=> ?_))));exact wpAny_release #[σ,H3,I3,q3]
def El(te:TE)(g:TG):TS:=λD σ H=>te σ H λx H1=>g x σ H1 D.nx
theorem mI {g:TG} (J:PE X e te) (U:PG X tg g) (hs:swapsWithSole [tg] e pos.line X.env=pure false:=by rfl) (Y:swappedStores [tg] e X.env=pure none:=by rfl)
 (h1:(assignEach [tg] X.env).map (·.2)=[assign tg X.env]:=by rfl):PS X (.Assign [tg] e pos) (El te g):=by
 intro pins s σ H D I h;refine wpAny_Assign_stores (thn (J pins s σ H _ I h) λv s1 #[x,H1,I1,r1,q1]=> ?_) hs Y;rw[h1];exact thn (U pins s1 σ H1 x v _ I1 r1 q1) λ_ s2 q=>q
theorem aT{pos':Pos}(J:X.N.Nodup)(hi:X.N[i]? =pc x)(hx:Loc X.env.scope x)(U:PE X e te)(hs:swapsWith e (pc (.Name x pos')) pos.line X.env=pure false:=by rfl)(Y:X.fn x=qc\/X.env.scope.names.lookup x=pc .local:=by first | exact .inl rfl | exact .inr rfl | assumption):
 PS X (.Assign [.Name x pos'] e pos) (El te (wt i)):=by
 intro pins s σ H D I h;refine wpAny_Assign_Name (thn (U pins s σ H _ I h) λv s1 #[y,H1,I1,r1,q1]=> ?_) hs;exact DH I1 J hi hx r1 (λs2 I2=>#[_,H1,I2,q1]) Y
end
section
variable {X : Cx} {pos : Pos}
def HK(c:TT)(tb:TS):TS:=λD σ H=>∃W:Nat->St->Hp->Prop,(∃m,W m σ H)/\∀m σ H,W m σ H->
 c σ H λb H1=>if b=qc then ∃N:St->Hp->Prop,(∀J H',N J H'->∃U,U<m/\W U J H')/\tb {D with nx:=N,ct:=N,bk:=D.nx} σ H1 else D.nx σ H1
theorem JP{c:Db}{tc:TT}{tb:TS}(hp:PassesOwn (model X.prog X.w) X.A X.env X.xe)(hc:PT X c tc)(hb:PSs X body tb):PS X (.While c body [] pos) (HK tc tb):=by
 intro pins s σ H D I h;obtain⟨W,⟨m0,w0⟩,Y⟩:=h;refine wpAny_While (codeAny_whileLoop (λn s'=>∃ab H',Inv X pins ab H' s'/\W n ab H') ?_ m0 #[σ,H,I,w0]);rintro n s1 ⟨U,H1,I1,w1⟩;refine Ss hp (thn (hc pins s1 U H1 _ I1 (Y n U H1 w1)) λb s2 #[H2,I2,q2]=> ?_);cases b with
 | true=>
  obtain⟨N,hN,q2⟩:=q2;rw[if_pos rfl];refine Ss hp (thn (hb pins s2 U H2 _ I2 q2) λf s3 q3=> ?_);cases f with
  | next=>
   obtain⟨J,H3,I3,n3⟩:=q3;obtain⟨m',hm,w3⟩:=hN J H3 n3;exact#[m',hm,J,H3,I3,w3]
  | cont=>
   obtain⟨J,H3,I3,n3⟩:=q3;obtain⟨m',hm,w3⟩:=hN J H3 n3;exact#[m',hm,J,H3,I3,w3]
  | brk=>exact q3
  | ret v=>exact q3
 | false=>
  rw[if_neg At];exact TB #[U,H2,I2,q2]
end
structure It where
 go:Nat->Hp->Prop
 yld:Nat->Hp->V->Hp->Prop
 stop:Nat->Hp->Prop
def ny(X:Cx)(pins:List (qh×Obj))(H:Hp)(b:qh):Prop:=
 H b=pi/\b≠X.env.locals/\b∉X.fs/\(b∈X.ex\/X.s₀.heap.objs.size<=b)/\(∀x c,X.env.cells.lookup x=pc c->c≠b)/\∀p∈X.pn++pins,p.1≠b
theorem Inv.fpOk{H H':Hp}(I:Inv X pins σ H s)(hb:s.heap.objs.size<=b)(hn:H' b=pi):ny X pins H' b:=by refine#[hn,Vb (AT I.lt hb),I.nofs hb,.inr (IN I.sz hb),λx c e z=> ?_,λp hp z=> ?_];obtain⟨v,q⟩:=I.cell x c e;exact absurd (AT q.lt (by rw[z];exact hb)) (RO _);exact absurd (AT (Heap.lt_size (I.pin p hp).1) (by rw[z];exact hb)) (RO _)
structure Turn(P:B3)(w:Ch)(K:sH)(tg:Db)(J:It)(fp:List qh)(it:qh)(tn:Nat->FS->Prop):Prop where
 mem:it∈fp
 obj:∀i h,tn i h->∀b∈fp,∃o,h.get? b=pc o/\∀v,o.data≠ .cell v
 keep:∀i h h',tn i h->(∀b∈fp,∀o,h.get? b=pc o->h'.get? b=pc o)->tn i h'
 item:∀(X:Cx),X.prog=P->X.w=w->X.K=K->X.calm=qc->∀(i:Nat) (pins:List (qh×Obj)) (s:tt) (σ:St) (H:Hp) (E:qb->tt->Prop),Inv X pins σ H s->(∀b∈fp,ny X pins H b)->tn i s.heap->J.go i H->
  wpAny (model P w) X.A (pyNext (.ref it)) (λr s1=>∃u,r=pc u/\
   wpAny (model P w) X.A (letOwnedTupleGo tg (.ref it) u) (λ_ s2=>∃x H',Inv X pins σ H' s2/\RelV x u/\J.yld i H x H'/\tn (i+1) s2.heap/\∀b∈fp,H' b=pi) E s1) E s
 done:∀(X:Cx),X.prog=P->X.w=w->X.K=K->X.calm=qc->∀(i:Nat) (pins:List (qh×Obj)) (s:tt) (σ:St) (H:Hp) (E:qb->tt->Prop),Inv X pins σ H s->(∀b∈fp,ny X pins H b)->tn i s.heap->J.stop i H->
  wpAny (model P w) X.A (pyNext (.ref it)) (λr s1=>r=pi/\Inv X pins σ H s1) E s
 self:∀(A:Je) (i:Nat) (s:tt) (Q:qb->tt->Prop) (E:qb->tt->Prop),tn i s.heap->Q (.ref it) s->wpAny (model P w) A (pyIter (.ref it)) Q E s
abbrev TI:=St->Hp->(It->Hp->Prop)->Prop
def PIE(X:Cx)(pins:List (qh×Obj))(σ:St)(tg:Db)(R:It->Hp->Prop)(U:qb)(s2:tt):Prop:=
 ∃(it:qh) (fp:List qh) (Y:Nat->FS->Prop) (J:It) (H':Hp),U=.ref it/\Inv X pins σ H' s2/\Turn X.prog X.w X.K tg J fp it Y/\Y 0 s2.heap/\(∀b∈fp,ny X pins H' b)/\R J H'
def PI(X:Cx)(tg J:Db)(wi:TI):Prop:=
 ∀(pins:List (qh×Obj)) (s:tt) (σ:St) (H:Hp) (R:It->Hp->Prop),Inv X pins σ H s->wi σ H R->
  wpAny (model X.prog X.w) X.A (eval J X.env) (λv s1=>wpAny (model X.prog X.w) X.A (pyIter v) (PIE X pins σ tg R) X.xe s1) X.xe s
theorem Ht {M:Model} {A:Je} {E:qb->tt->Prop} {tg:Db} {u:qb} {n:String} {vs:Array qb} {Q:Unit->tt->Prop} (U:s.heap.get? it=pc o) (hc:o.cls=.type n) (hd:o.data=.fields vs)
 (hn:["enumerate","zip","dict_itemiterator","dict_reverseitemiterator","odict_iterator","itertools.zip_longest","itertools.pairwise"].contains n=wh) (J:Q () s):wpAny M A (letOwnedTupleGo tg (.ref it) u) Q E s:=by
 unfold letOwnedTupleGo;cases tg <;> first
  | exact No J
  | (cases u <;> first
   | exact No J
   | (
    refine x0 (wpAny_load U ?_);rw[hc,hd];show wpAny M A (if (["enumerate","zip","dict_itemiterator","dict_reverseitemiterator","odict_iterator","itertools.zip_longest","itertools.pairwise"].contains n&&vs[0]? == pc (rawInt _))=qc then _ else _) Q E s;rw[if_neg (by intro h;rw[hn,T3] at h;cases h)];exact No J))
def Itl(K:sH)(a:qh):It:=
 #[λi H=>∃xs x,SqL K H a xs/\xs[i]? =pc x,λi H x H'=>H'=H/\∀xs,SqL K H a xs->xs[i]? =pc x,λi H=>∃xs,SqL K H a xs/\xs.length<=i]
def Itr(lo:Int)(n:Nat):It:=#[λi _=>i<n,λi H x H'=>H'=H/\x=.int (lo+i),λi _=>n<=i]
theorem IU(a:qh):Turn P w K tg (Itl K a) [it] it (λi h=>h.IsListIter it a i) where
 mem:=by simp
 obj:=λi h st b hb=>by
  have e:b=it:=by simpa using hb
  subst e;obtain⟨o,e,c,d⟩:=st;exact#[o,e,λv z=>by rw[d] at z;cases z]
 keep:=λi h h' st k=>st.at λo e=>k it (by simp) o e
 item:=by intro X hP hw hK hc i pins s σ H E I hf st hg;subst hP hw hK;obtain⟨xs,x,hq,hx⟩:=hg;obtain⟨its,rv,p,hz⟩:=I.list hq;obtain⟨u,hu,ru⟩:=rv.get hx;obtain⟨f0,f1,f2,f3,f4,f5⟩:=hf it (by simp);refine wpAny_pyNext_list_item st p.isList (x:=u) (by simpa using hu) λh' st' sb=> ?_;have I1:Inv X pins σ H {s with heap:=h'}:=I.turned (t':=s.toks) (λb o hb e=>(sb.2 b hb).trans e) f0 f1 f3 f4 f5;obtain⟨o,e,c,d⟩:=id st';exact#[u,rfl,Ht (s:={s with heap:=h'}) e c d ∅ #[x,H,I1,ru,#[rfl,λys hy=>by rw[I.list_inj hy hq];exact hx],st',λb hb=>(hf b hb).1]]
 done:=by intro X hP hw hK hc i pins s σ H E I hf st hg;subst hP hw hK;obtain⟨xs,hq,hx⟩:=hg;obtain⟨its,rv,p,hz⟩:=I.list hq;obtain⟨f0,f1,f2,f3,f4,f5⟩:=hf it (by simp);have hl:=rv.length;exact wpAny_pyNext_list_end (I.ok.hd hc) st p.isList (by simp;omega) λh' eb=>#[rfl,I.turned (t':=s.toks) (λb o hb e=>eb b o hb e) f0 f1 f3 f4 f5]
 self:=λ_ _ _ _ _ st h=>wpAny_pyIter_listiter st h
theorem GP(lo:Int)(n:Nat):Turn P w K tg (Itr lo n) [it] it (λi h=>IsRangeIter h it (lo+(i:Nat)*1) ((n:Int)-(i:Nat)) 1) where
 mem:=by simp
 obj:=λi h st b hb=>by
  have e:b=it:=by simpa using hb
  subst e;exact#[_,st,λv z=>by have z':Data.fields _=Data.cell v:=z;cases z']
 keep:=λi h h' st k=>k it (by simp) _ st
 item:=by intro X hP hw hK hc i pins s σ H E I hf st hg;subst hP hw hK;obtain⟨f0,f1,f2,f3,f4,f5⟩:=hf it (by simp);have W:=Walks.range (prog:=X.prog) (w:=X.w) (I.ok.hd hc) it lo 1 n;refine W.item i s _ _ hg st λv h' tk hv st' kk=> ?_;obtain⟨t,rfl⟩:=hv;have I1:Inv X pins σ H {s with heap:=h',toks:=tk}:=I.turned (λb o hb e=>kk b o (by simpa using hb) e) f0 f1 f3 f4 f5;refine#[_,rfl,Ht (s:={s with heap:=h',toks:=tk}) (n:="range_iterator") st' rfl rfl ∅ #[.int (lo+i),H,I1,#[t, ?_],#[rfl,rfl],st',λb hb=>(hf b hb).1]];rw[Int.mul_one]
 done:=by intro X hP hw hK hc i pins s σ H E I hf st hg;subst hP hw hK;obtain⟨f0,f1,f2,f3,f4,f5⟩:=hf it (by simp);exact wpAny_pyNext_range_end (I.ok.hd hc) st (by have:n<=i:=hg;omega) λh' eb=>#[rfl,I.turned (t':=s.toks) (λb o hb e=>eb b o hb e) f0 f1 f3 f4 f5]
 self:=λ_ _ _ _ _ st h=>wpAny_pyIter_rangeiter st h
section
variable {X : Cx} {tg : Db}
def LK(K:sH)(tl:TE):TI:=λσ H R=>tl σ H λx H1=>∃a,x=.ref a/\(∃xs,SqL K H1 a xs)/\R (Itl K a) H1
theorem bQ{l:Db}{tl:TE}(J:PE X l tl):PI X tg l (LK X.K tl):=by
 intro pins s σ H R I h;refine thn (J pins s σ H _ I h) λv s1 #[x,H1,I1,r1,q1]=> ?_;obtain⟨a,e,⟨xs,hq⟩,q⟩:=q1;subst e;cases r1;obtain⟨U,Y,p,hz⟩:=I1.list hq;refine Ud p.isList ?_;refine#[s1.heap.objs.size,[s1.heap.objs.size],_,_,H1,rfl,I1.kept (t':=s1.toks) λb o e=>Heap.get?_push_of_some _ e,IU a,#[_,Heap.get?_push_size _ rfl,rfl,rfl],λb hb=> ?_,q];have e:b=s1.heap.objs.size:=by simpa using hb
 subst e;exact I1.fpOk (vr _) (I1.hok.fresh (vr _))
theorem CU {R:It->Hp->Prop} {E:qb->tt->Prop} {lo hi:Int} {t u v:Tok} {tk:Nat} (I:Inv X pins σ H s) (h1: -(2^62)<=lo) (h2:lo<2^62) (U: -(2^62)<=hi) (Y:hi<2^62)
 (q:R (Itr lo (hi-lo).toNat) H):wpAny (model X.prog X.w) X.A (pyIter (.ref s.heap.objs.size)) (PIE X pins σ tg R) E {s with heap:=s.heap.push {cls:=.type "range",data:=.fields #v[.int lo t,.int hi u,.int 1 v]},toks:=tk}:=by
 refine wpAny_pyIter_range (IsRange.new ..) (small_one h1 h2 U Y) ?_;have J:Inv X pins σ H {s with heap:=s.heap.push {cls:=.type "range",data:=.fields #v[.int lo t,.int hi u,.int 1 v]},toks:=tk}:=I.kept λb o e=>Heap.get?_push_of_some _ e;refine#[(s.heap.push {cls:=.type "range",data:=.fields #v[.int lo t,.int hi u,.int 1 v]}).objs.size,[(s.heap.push {cls:=.type "range",data:=.fields #v[.int lo t,.int hi u,.int 1 v]}).objs.size],_,_,H,rfl,
  J.kept (t':=tk) λb o e=>Heap.get?_push_of_some _ e,GP lo (hi-lo).toNat, ?_,λb hb=> ?_,q]
 have e1:lo+((0:Nat):Int)*1=lo:=by simp
 have e2:(((hi-lo).toNat:Nat):Int)-((0:Nat):Int)=Builtin.Range.rangeSize lo hi 1:=by rw[rangeSize_one];split <;> omega
 show IsRangeIter _ _ (lo+((0:Nat):Int)*1) ((((hi-lo).toNat:Nat):Int)-((0:Nat):Int)) 1;rw[e1,e2];exact Heap.get?_push_size _ rfl;have e:b=(s.heap.push {cls:=.type "range",data:=.fields #v[.int lo t,.int hi u,.int 1 v]}).objs.size:=by simpa using hb
 subst e;exact J.fpOk (vr _) (J.hok.fresh (vr _))
def LV(ta:TA):TI:=λσ H R=>ta σ H λvs H1=>∃j:Int,vs=[.int j]/\ -(2^62)<=j/\j<2^62/\R (Itr 0 j.toNat) H1
def LQ(ta:TA):TI:=λσ H R=>ta σ H λvs H1=>∃i j:Int,vs=[.int i,.int j]/\(-(2^62)<=i/\i<2^62/\ -(2^62)<=j/\j<2^62)/\R (Itr i (j-i).toNat) H1
theorem eO{a:Db}{ta:TA}{p pos:Pos}(J:Gl X "range")(hm:X.mg "range" =pi)(ha:PA X [a] ta)(hs:starEach [a] X.env=[(wh,eval a X.env)]:=by rfl):PI X tg (.Call (.Name "range" p) [a] [] pos) (LV ta):=by
 intro pins s σ H R I h;refine Call_ (pP I J hm boot_range (RT (thn (ha pos pins s σ H _ I h) λus s1 #[vs,H1,I1,r1,q1]=> ?_) hs rfl));obtain⟨j,e,q1,q2,q⟩:=q1;subst e;cases r1 with
 | cons r U=>
  cases U;obtain⟨t,rfl⟩:=r;exact call_range_1 (CU I1 ⋯ ⋯ q1 q2 (by simpa using q))
theorem BM{a b:Db}{ta:TA}{p pos:Pos}(Y:Gl X "range")(hm:X.mg "range" =pi)(ha:PA X [a,b] ta)(hs:starEach [a,b] X.env=[(wh,eval a X.env),(wh,eval b X.env)]:=by rfl)(J:starEach [b] X.env=[(wh,eval b X.env)]:=by rfl):
 PI X tg (.Call (.Name "range" p) [a,b] [] pos) (LQ ta):=by
 intro pins s σ H R I h;refine Call_ (pP I Y hm boot_range (RT (thn (ha pos pins s σ H _ I h) λus s1 #[vs,H1,I1,r1,q1]=> ?_) (by rw[hs,J]) (by rw[J];rfl)));obtain⟨i,j,e,⟨q1,q2,q3,q4⟩,q⟩:=q1;subst e;cases r1 with
 | cons r U=>
  cases U with
  | cons r' U=>
   cases U;obtain⟨t,rfl⟩:=r;obtain⟨t',rfl⟩:=r';exact call_range_2 (CU I1 q1 q2 q3 q4 q)
def NG(wi:TI)(g:TG)(tb:TS):TS:=λD σ H=>wi σ H λJ H1=>∃W:Nat->Nat->St->Hp->Prop,(∃m,W 0 m σ H1)/\∀i m σ H,W i m σ H->
 (J.stop i H/\D.nx σ H)\/(J.go i H/\∃N:St->Hp->Prop,(∀U H',N U H'->∃m',m'<m/\W (i+1) m' U H')/\∀x H',J.yld i H x H'->g x σ H' λY H2=>tb {D with nx:=N,ct:=N,bk:=D.nx} Y H2)
def vF(fp:List qh)(h:FS):List (qh×Obj):=fp.filterMap λb=>(h.get? b).map λo=>(b,o)
theorem o6(hb:b∈fp)(e:h.get? b=pc o):(b,o)∈vF fp h:=U5.mpr #[b,hb,by rw[e];rfl]
theorem Jx{p:qh×Obj}(hp:p∈vF fp h):p.1∈fp/\h.get? p.1=pc p.2:=by
 obtain⟨b,hb,e⟩:=U5.mp hp;cases q:h.get? b with
 | none=>rw[q] at e;cases e
 | some o=>
  rw[q] at e;have e':(b,o)=p:=RS e;subst e';exact#[hb,q]
theorem Inv.pinned(I:Inv X pins σ H s)(J:∀b∈fp,ny X pins H b)(U:∀b∈fp,∃o,s.heap.get? b=pc o/\∀v,o.data≠ .cell v):Inv X (pins++vF fp s.heap) σ H s:=
 I.pins_of λp hp=>(wE.mp hp).elim (λz=>I.pin p (Fk _ z)) λz=>by obtain⟨hb,e⟩:=Jx z;obtain⟨Y,f1,f2,_⟩:=J p.1 hb;obtain⟨o,e',d⟩:=U p.1 hb;rw[e] at e';cases e';exact#[e,Y,f1,f2,d]
theorem Inv.unpinned{pins pl:List (qh×Obj)}(I:Inv X (pins++pl) σ H s):Inv X pins σ H s:=I.pins_of λp hp=>I.pin p (Fk _ (RB _ hp))
theorem dG {Y:Db} {wi:TI} {g:TG} {tb:TS} {pos:Pos} (hp:PassesOwn (model X.prog X.w) X.A X.env X.xe) (hc:X.calm=qc) (hi:PI X tg Y wi) (hg:PG X tg g) (hb:PSs X body tb)
 (hs:∀x,foldedSetIterable Y X.env x=pure x:=by intro _;rfl):PS X (.For tg Y body [] pos) (NG wi g tb):=by
 intro pins s σ H D I h;refine wpAny_For (thn (hi pins s σ H _ I h) λv s1 h1=>thn h1 λbn s2 h2=> ?_) hs;obtain⟨it,fp,tn,J,H2,e,I2,T,a3,f2,W,⟨m0,w0⟩,as⟩:=h2;subst e;have ab:∀{H':Hp},(∀b∈fp,H' b=pi)->∀b∈fp,ny X pins H' b:=λhn b hb=>#[hn b hb,(f2 b hb).2];refine codeAny_forLoop_any (λn s'=>∃i ac H',Inv X pins ac H' s'/\tn i s'.heap/\(∀b∈fp,H' b=pi)/\W i n ac H') ?_ m0 #[0,σ,H2,I2,a3,λb hb=>(f2 b hb).1,w0];rintro n s3 ⟨i,al,H3,I3,az,a0,w3⟩;rcases as i n al H3 w3 with⟨a1,qn⟩ | ⟨go,N,hN,step⟩
 refine Ss hp (thn (T.done X rfl rfl rfl hc i pins s3 al H3 X.xe I3 (ab a0) az a1) λr s4 #[hr,I4]=> ?_);subst hr;exact TB #[al,H3,I4,qn]
 ·refine Ss hp (thn (T.item X rfl rfl rfl hc i pins s3 al H3 X.xe I3 (ab a0) az go) λr s4 #[u,hr,h4]=> ?_);subst hr;refine Ss hp (thn h4 λ_ s5 #[x,H5,I5,r5,y5,st5,fr5]=> ?_);have a4:=I5.pinned (ab fr5) (T.obj _ _ st5);refine Ss hp (thn (hg _ s5 al H5 x u _ a4 r5 (step x H5 y5)) λ_ s6 #[σ6,H6,I6,q6]=> ?_);refine Ss hp (thn (hb _ s6 σ6 H6 _ I6 q6) λf s7 q7=> ?_);have again:∀{U:St} {H7:Hp},Inv X (pins++vF fp s5.heap) U H7 s7->N U H7->∃m,m<n/\∃i ac H',Inv X pins ac H' s7/\tn i s7.heap/\(∀b∈fp,H' b=pi)/\W i m ac H':=λ{U H7} I7 n7=>by obtain⟨m',hm,w7⟩:=hN U H7 n7;refine#[m',hm,i+1,U,H7,I7.unpinned,T.keep _ _ _ st5 λb hb o e=>(I7.pin (b,o) (Fk _ (Fk _ (o6 hb e)))).1,λb hb=> ?_,w7];obtain⟨o,e,d⟩:=T.obj _ _ st5 b hb;exact(I7.pin (b,o) (Fk _ (Fk _ (o6 hb e)))).2.1
  cases f with
  | next=>obtain⟨U,H7,I7,n7⟩:=q7;exact again I7 n7
  | cont=>obtain⟨U,H7,I7,n7⟩:=q7;exact again I7 n7
  | brk=>obtain⟨U,H7,I7,q7⟩:=q7;exact#[U,H7,I7.unpinned,q7]
  | ret v=>obtain⟨x7,U,H7,I7,r7,q7⟩:=q7;exact#[x7,U,H7,I7.unpinned,r7,q7]
end
abbrev R2:=V->V->Hp->VK->Prop
def OpR(X:Cx)(f:qb->qb->Sem qb)(r:R2):Prop:=
 ∀(pins:List (qh×Obj)) (s:tt) (σ:St) (H:Hp) (x y:V) (v u:qb) (Q:VK),Inv X pins σ H s->RelV x v->RelV y u->r x y H Q->
  wpAny (model X.prog X.w) X.A (f v u) (EP X pins σ Q) X.xe s
def UnR(X:Cx)(f:qb->Sem qb)(r:V->Hp->VK->Prop):Prop:=
 ∀(pins:List (qh×Obj)) (s:tt) (σ:St) (H:Hp) (x:V) (v:qb) (Q:VK),Inv X pins σ H s->RelV x v->r x H Q->
  wpAny (model X.prog X.w) X.A (f v) (EP X pins σ Q) X.xe s
def mY(X:Cx)(f:qb)(r:List V->Hp->VK->Prop):Prop:=
 ∀(pins:List (qh×Obj)) (s:tt) (σ:St) (H:Hp) (xs:List V) (us:List qb) (Q:VK),Inv X pins σ H s->Vals xs us->r xs H Q->
  wpAny (model X.prog X.w) X.A (call f us) (EP X pins σ Q) X.xe s
def PX(X:Cx)(r:V->Hp->(Bool->Hp->Prop)->Prop):Prop:=
 ∀(pins:List (qh×Obj)) (s:tt) (σ:St) (H:Hp) (x:V) (v:qb) (Q:Bool->Hp->Prop),Inv X pins σ H s->RelV x v->r x H Q->
  wpAny (model X.prog X.w) X.A (truthy v) (TP X pins σ Q) X.xe s
def tOp(r:R2)(ta tb:TE):TE:=λσ H Q=>ta σ H λx H1=>tb σ H1 λy H2=>r x y H2 Q
def tUn(r:V->Hp->VK->Prop)(ta:TE):TE:=λσ H Q=>ta σ H λx H1=>r x H1 Q
def rI(C:Int->Int->Prop)(g:Int->Int->V):R2:=λx y H Q=>∃i j,x=.int i/\y=.int j/\C i j/\Q (g i j) H
def rI0(g:Int->Int->V):R2:=λx y H Q=>∃i j,x=.int i/\y=.int j/\Q (g i j) H
def rU(g:Int->V):V->Hp->VK->Prop:=λx H Q=>∃i,x=.int i/\Q (g i) H
section
variable {X : Cx} {a b c : Db} {ta tb tc : TE} {pos : Pos}
theorem K5 (ha:PE X a ta) (hb:PE X b tb) {R:V->V->Hp->Prop} (I:Inv X pins σ H s)
 (h:ta σ H λx H1=>tb σ H1 λy H2=>R x y H2) {Q:qb->tt->Prop} {f:qb->qb->Sem qb}
 (Y:∀v u s2 x y H2,Inv X pins σ H2 s2->RelV x v->RelV y u->R x y H2->wpAny (model X.prog X.w) X.A (f v u) Q X.xe s2):
 wpAny (model X.prog X.w) X.A (eval a X.env) (λv J=>wpAny (model X.prog X.w) X.A (eval b X.env) (λu U=>wpAny (model X.prog X.w) X.A (f v u) Q X.xe U) X.xe J) X.xe s:=by
 refine thn (ha pins s σ H _ I h) λv s1 #[x,H1,I1,r1,q1]=> ?_;refine thn (hb pins s1 σ H1 _ I1 q1) λu s2 #[y,H2,I2,r2,q2]=> ?_;exact Y v u s2 x y H2 I2 r1 r2 q2
theorem aW{op:Operator}(J:OpR X (binaryOp op) r)(ha:PE X a ta)(hb:PE X b tb):PE X (.BinOp a op b pos) (tOp r ta tb):=by intro pins s σ H Q I h;exact wpAny_BinOp (K5 ha hb I h λv u s2 x y H2 U Y ry q=>J pins s2 σ H2 x y v u Q U Y ry q)
theorem ua{op:UnaryOp}{r:V->Hp->VK->Prop}(J:UnR X (unaryOp op) r)(ha:PE X a ta):PE X (.UnaryOp op a pos) (tUn r ta):=by intro pins s σ H Q I h;exact UnaryOp_ (thn (ha pins s σ H _ I h) λv s1 #[x,H1,I1,r1,q1]=>J pins s1 σ H1 x v Q I1 r1 q1)
theorem opI {f:qb->qb->Sem qb} {C:Int->Int->Prop} {g:Int->Int->Int}
 (rule:∀(i j:Int) (t u:Tok) (s:tt) (Q:qb->tt->Prop) (E:qb->tt->Prop),C i j->Q (.int (g i j) s.toks) {s with toks:=s.toks+1}->wpAny (model X.prog X.w) X.A (f (.int i t) (.int j u)) Q E s):
 OpR X f (rI C λi j=>.int (g i j)):=by
 intro pins s σ H x y v u Q I J U h;obtain⟨i,j,rfl,rfl,hc,q⟩:=h;obtain⟨t,rfl⟩:=J;obtain⟨t',rfl⟩:=U;exact rule i j t t' s _ _ hc #[.int (g i j),H,I.tok _,#[_,rfl],q]
theorem JY {f:qb->qb->Sem qb} {g:Int->Int->Int}
 (rule:∀(i j:Int) (t u:Tok) (s:tt) (Q:qb->tt->Prop) (E:qb->tt->Prop),Q (.int (g i j) s.toks) {s with toks:=s.toks+1}->wpAny (model X.prog X.w) X.A (f (.int i t) (.int j u)) Q E s):
 OpR X f (rI0 λi j=>.int (g i j)):=by
 intro pins s σ H x y v u Q I J U h;obtain⟨i,j,rfl,rfl,q⟩:=h;obtain⟨t,rfl⟩:=J;obtain⟨t',rfl⟩:=U;exact rule i j t t' s _ _ #[.int (g i j),H,I.tok _,#[_,rfl],q]
theorem Kk {f:qb->qb->Sem qb} {g:Int->Int->Bool}
 (rule:∀(i j:Int) (t u:Tok) (s:tt) (Q:qb->tt->Prop) (E:qb->tt->Prop),Q (.bool (g i j)) s->wpAny (model X.prog X.w) X.A (f (.int i t) (.int j u)) Q E s):
 OpR X f (rI0 λi j=>.bl (g i j)):=by
 intro pins s σ H x y v u Q I J U h;obtain⟨i,j,rfl,rfl,q⟩:=h;obtain⟨t,rfl⟩:=J;obtain⟨t',rfl⟩:=U;exact rule i j t t' s _ _ #[.bl (g i j),H,I,rfl,q]
def JV(i j:Int):Prop:=0<=j/\j<=1000000/\i.natAbs<2^64
theorem N2:OpR X (binaryOp .Add) (rI0 λi j=>.int (i+j)):=JY λ_ _ _ _ _ _ _ q=>add_int q
theorem pJ:OpR X (binaryOp .Sub) (rI0 λi j=>.int (i-j)):=JY λ_ _ _ _ _ _ _ q=>sub_int q
theorem fE:OpR X (binaryOp .Mod) (rI (λ_ j=>j≠0) λi j=>.int (i.fmod j)):=opI λ_ _ _ _ _ _ _ hc q=>mod_int' hc q
theorem oz:OpR X (binaryOp .Pow) (rI JV λi j=>.int (i^j.toNat)):=opI λ_ _ _ _ _ _ _ hc q=>pow_int_small hc.1 hc.2.1 hc.2.2 q
theorem L1:OpR X (binaryOp .BitOr) (rI0 λi j=>.int (Builtin.bitOr i j)):=JY λ_ _ _ _ _ _ _ q=>or_int q
theorem unI {f:qb->Sem qb} {g:Int->Int}
 (rule:∀(i:Int) (t:Tok) (s:tt) (Q:qb->tt->Prop) (E:qb->tt->Prop),Q (.int (g i) s.toks) {s with toks:=s.toks+1}->wpAny (model X.prog X.w) X.A (f (.int i t)) Q E s):
 UnR X f (rU λi=>.int (g i)):=by
 intro pins s σ H x v Q I J h;obtain⟨i,rfl,q⟩:=h;obtain⟨t,rfl⟩:=J;exact rule i t s _ _ #[.int (g i),H,I.tok _,#[_,rfl],q]
theorem qj:UnR X (unaryOp .USub) (rU λi=>.int (-i)):=unI λ_ _ _ _ _ q=>neg_int q
end
def N7:V->V->Bool
 | .non,.non=>qc | .non,.int _=>qc | .int _,.non=>qc | .non,.bl _=>qc | .bl _,.non=>qc | .non,.str _=>qc | .str _,.non=>qc
 | .int _,.int _=>qc | .bl _,.bl _=>qc | .str _,.str _=>qc | .byt _,.byt _=>qc
 | .int _,.str _=>qc | .str _,.int _=>qc | .bl _,.str _=>qc | .str _,.bl _=>qc
 | _,_=>wh
def rEq:R2:=λx y H Q=>N7 x y=qc/\Q (.bl (decide (x=y))) H
def rNe:R2:=λx y H Q=>N7 x y=qc/\Q (.bl (!decide (x=y))) H
theorem wB{i j:Int}:decide (V.int i=V.int j)=(i == j):=by rw[RH];simp
theorem zY{i j:Bool}:decide (V.bl i=V.bl j)=(i == j):=by rw[RH];simp
theorem wy{i j:Str}:decide (V.str i=V.str j)=(i == j):=by rw[RH];simp
theorem GG{i j:Array UInt8}:decide (V.byt i=V.byt j)=(i.toList == j.toList):=by rw[RH];cases i;cases j;simp
section
variable {X : Cx} {a b c : Db} {ta tb tc : TE} {pos : Pos}
theorem cL{Q:VK}{k J:Bool}(I:Inv X pins σ H s)(q:Q (.bl k) H)(e:k=J):EP X pins σ Q (.bool J) s:=by subst e;exact#[.bl k,H,I,rfl,q]
theorem Pe:OpR X (compareOp .Eq) rEq:=by
 intro pins s σ H x y v u Q I U J h;obtain⟨hs,q⟩:=h;cases x with
 | non=>
  cases U;cases y with
  | non=>cases J;exact PySem.EqNone.eq_none_none (cL I q (by simp))
  | bl j=>cases J;exact PySem.EqNone.eq_none_bool (cL I q (by simp))
  | int j=>obtain⟨t',rfl⟩:=J;exact PySem.EqNone.eq_none_int (cL I q (by simp))
  | str j=>obtain⟨t',rfl⟩:=J;exact PySem.EqNone.eq_none_str (cL I q (by simp))
  | _=>exact absurd (show wh=qc from hs) At
 | bl i=>
  cases U;cases y with
  | non=>cases J;exact PySem.EqNone.eq_bool_none (cL I q (by simp))
  | bl j=>cases J;exact eq_bool (cL I q zY)
  | str j=>obtain⟨t',rfl⟩:=J;exact VO (cL I q (by simp))
  | _=>exact absurd (show wh=qc from hs) At
 | int i=>
  obtain⟨t,rfl⟩:=U;cases y with
  | non=>cases J;exact PySem.EqNone.eq_int_none (cL I q (by simp))
  | int j=>obtain⟨t',rfl⟩:=J;exact eq_int (cL I q wB)
  | str j=>obtain⟨t',rfl⟩:=J;exact VT (cL I q (by simp))
  | _=>exact absurd (show wh=qc from hs) At
 | str i=>
  obtain⟨t,rfl⟩:=U;cases y with
  | non=>cases J;exact PySem.EqNone.eq_str_none (cL I q (by simp))
  | bl j=>cases J;exact VN (cL I q (by simp))
  | int j=>obtain⟨t',rfl⟩:=J;exact VU (cL I q (by simp))
  | str j=>obtain⟨t',rfl⟩:=J;exact eq_str (cL I q wy)
  | _=>exact absurd (show wh=qc from hs) At
 | byt i=>
  obtain⟨t,rfl⟩:=U;cases y with
  | byt j=>obtain⟨t',rfl⟩:=J;exact PySem.W.eq_bytes (cL I q GG)
  | _=>exact absurd (show wh=qc from hs) At
 | _=>cases y <;> exact absurd (show wh=qc from hs) At
theorem Pr:OpR X (compareOp .NotEq) rNe:=by
 intro pins s σ H x y v u Q I U J h;obtain⟨hs,q⟩:=h;cases x with
 | non=>
  cases U;cases y with
  | non=>cases J;exact PySem.EqNone.ne_none_none (cL I q (by simp))
  | bl j=>cases J;exact PySem.EqNone.ne_none_bool (cL I q (by simp))
  | int j=>obtain⟨t',rfl⟩:=J;exact PySem.EqNone.ne_none_int (cL I q (by simp))
  | str j=>obtain⟨t',rfl⟩:=J;exact PySem.EqNone.ne_none_str (cL I q (by simp))
  | _=>exact absurd (show wh=qc from hs) At
 | bl i=>
  cases U;cases y with
  | non=>cases J;exact PySem.EqNone.ne_bool_none (cL I q (by simp))
  | bl j=>cases J;exact ne_bool (cL I q (congrArg not zY))
  | str j=>obtain⟨t',rfl⟩:=J;exact VP (cL I q (by simp))
  | _=>exact absurd (show wh=qc from hs) At
 | int i=>
  obtain⟨t,rfl⟩:=U;cases y with
  | non=>cases J;exact PySem.EqNone.ne_int_none (cL I q (by simp))
  | int j=>obtain⟨t',rfl⟩:=J;exact ne_int (cL I q (congrArg not wB))
  | str j=>obtain⟨t',rfl⟩:=J;exact VR (cL I q (by simp))
  | _=>exact absurd (show wh=qc from hs) At
 | str i=>
  obtain⟨t,rfl⟩:=U;cases y with
  | non=>cases J;exact PySem.EqNone.ne_str_none (cL I q (by simp))
  | bl j=>cases J;exact VL (cL I q (by simp))
  | int j=>obtain⟨t',rfl⟩:=J;exact VQ (cL I q (by simp))
  | str j=>obtain⟨t',rfl⟩:=J;exact ne_str (cL I q (congrArg not wy))
  | _=>exact absurd (show wh=qc from hs) At
 | byt i=>
  obtain⟨t,rfl⟩:=U;cases y with
  | byt j=>obtain⟨t',rfl⟩:=J;exact PySem.W.ne_bytes (cL I q (congrArg not GG))
  | _=>exact absurd (show wh=qc from hs) At
 | _=>cases y <;> exact absurd (show wh=qc from hs) At
theorem nN:OpR X (compareOp .Lt) (rI0 λi j=>.bl (decide (i<j))):=Kk λ_ _ _ _ _ _ _ q=>VM q
theorem Pg:OpR X (compareOp .LtE) (rI0 λi j=>.bl (decide (i<=j))):=Kk λ_ _ _ _ _ _ _ q=>le_int q
theorem ik:OpR X (compareOp .Gt) (rI0 λi j=>.bl (decide (j<i))):=Kk λ_ _ _ _ _ _ _ q=>gt_int q
theorem OL:OpR X (compareOp .Is) (λx y H Q=>y=.non/\Q (.bl (decide (x=.non))) H):=by
 intro pins s σ H x y v u Q I J U h;obtain⟨rfl,q⟩:=h;cases U;refine is_none_gen (cL I q ?_);cases x <;> first
  | (cases J;rfl)
  | (obtain⟨t,rfl⟩:=J;rfl)
theorem M7:OpR X (compareOp .IsNot) (λx y H Q=>y=.non/\Q (.bl (!decide (x=.non))) H):=by
 intro pins s σ H x y v u Q I J U h;obtain⟨rfl,q⟩:=h;cases U;refine isnot_none_gen (cL I q ?_);cases x <;> first
  | (cases J;rfl)
  | (obtain⟨t,rfl⟩:=J;rfl)
theorem OpR.or{r J:R2}(h:OpR X f r)(h':OpR X f J):OpR X f (λx y H Q=>r x y H Q\/J x y H Q):=by
 intro pins s σ H x y v u Q I U Y q;rcases q with q | q
 exact h pins s σ H x y v u Q I U Y q;exact h' pins s σ H x y v u Q I U Y q
theorem bu{b:Db}(h:op≠ .In:=by decide)(h2:op≠ .NotIn:=by decide):behindInMarks op b=false:=by
 have e1:(op == CmpOp.In)=false:=by cases op <;> first | rfl | exact absurd rfl h
 have e2:(op == CmpOp.NotIn)=false:=by cases op <;> first | rfl | exact absurd rfl h2
 cases b <;> simp[behindInMarks,e1,e2]
theorem ju(J:OpR X (compareOp op) r)(ha:PE X a ta)(hb:PE X b tb)(hm:behindInMarks op b=wh):PE X (.Compare a [op] [b] pos) (tOp r ta tb):=by intro pins s σ H Q I h;exact wpAny_Compare1 (K5 ha hb I h λv u s2 x y H2 U Y ry q=>J pins s2 σ H2 x y v u Q U Y ry q) hm
def L8(t:TE):TT:=λσ H Q=>t σ H λx H'=>∃k,x=.bl k/\Q k H'
theorem bo(J:OpR X (compareOp op) r)(ha:PE X a ta)(hb:PE X b tb)(hm:behindInMarks op b=wh):PT X (.Compare a [op] [b] pos) (L8 (tOp r ta tb)):=by
 intro pins s σ H Q I h;refine UO (thn (ha pins s σ H _ I h) λv s1 #[x,H1,I1,r1,q1]=>thn (hb pins s1 σ H1 _ I1 q1) λu s2 #[y,H2,I2,r2,q2]=>
  thn (J pins s2 σ H2 x y v u _ I2 r1 r2 q2) λc s3 #[z,H3,I3,r3,k,e,q3]=> ?_) hm
 subst e;cases r3;exact Rx #[H3,I3,q3]
def Jo(r U:R2)(ta tb tc:TE):TE:=λσ H Q=>ta σ H λx H1=>tb σ H1 λy H2=>r x y H2 λz J=>∃k,z=.bl k/\
 (if k=qc then tc σ J λY H4=>U y Y H4 Q else Q (.bl wh) J)
theorem JQ {op J:CmpOp} {r Y:R2} (ho:OpR X (compareOp op) r) (U:OpR X (compareOp J) Y) (ha:PE X a ta) (hb:PE X b tb) (hc:PE X c tc)
 (hm:lastMarks [op,J] [b,c]=false:=by with_unfolding_all rfl):PE X (.Compare a [op,J] [b,c] pos) (Jo r Y ta tb tc):=by
 intro pins s σ H Q I h;refine Compare_chain (thn (ha pins s σ H _ I h) λv s1 #[x,H1,I1,r1,q1]=>chain_link (thn (hb pins s1 σ H1 _ I1 q1) λu s2 #[y,H2,I2,r2,q2]=>
  thn (ho pins s2 σ H2 x y v u _ I2 r1 r2 q2) λd s3 #[z,H3,I3,r3,k,e,q3]=> ?_)) hm
 subst e;cases r3;refine Rx ?_;cases k with
 | false=>exact ite_ff #[.bl wh,H3,I3,rfl,q3]
 | true=>exact ite_tt (chain_last (thn (hc pins s3 σ H3 _ I3 q3) λw' s4 #[z',H4,I4,r4,q4]=>U pins s4 σ H4 y z' u w' Q I4 r2 r4 q4))
def JM(K:sH)(x:V)(H:Hp)(k:Bool):Prop:=
 match x with
 | .non=>k=wh
 | .bl b=>k=b
 | .int i=>k=(i != 0)
 | .str y=>y.length<=sizeLine/\k=((y.length:Int) != 0)
 | .byt y=>y.size<=sizeLine/\k=((y.size:Int) != 0)
 | .ref p=>(∃xs,SqL K H p xs/\k= !xs.isEmpty)\/(∃xs,SqT K H p xs/\k= !xs.isEmpty)\/∃J,H p=pc (.dK J)/\k= !J.isEmpty
 | _=>False
theorem Hm{U:Type}{J:List (U×V)}{vs:List (U×qb)}(r:KV J vs):(!vs.isEmpty)= !J.isEmpty:=by cases r <;> rfl
theorem zk{xs:List V}{J:List qb}(r:Vals xs J):(!J.toArray.isEmpty)= !xs.isEmpty:=by cases r <;> simp
theorem qo:(sizeLine:Nat)<2^63:=by rw[SO];decide
theorem Ob:PX X (λx H Q=>∃k,JM X.K x H k/\Q k H):=by
 intro pins s σ H x v Q I Y h;obtain⟨k,e,q⟩:=h;have hl:=qo;have hs:sizeLine=16777216:=SO;cases x with
 | non=>
  cases Y;have e':k=false:=e;subst e';exact truthy_none #[H,I,q]
 | bl b=>
  cases Y;have e':k=b:=e;subst e';exact Rx #[H,I,q]
 | int i=>
  obtain⟨t,rfl⟩:=Y;have e':k=(i != 0):=e;subst e';exact PySem.P.truthy_int #[H,I,q]
 | str y=>
  obtain⟨t,rfl⟩:=Y;obtain⟨hy,e'⟩:y.length<=sizeLine/\k=((y.length:Int) != 0):=e;subst e';exact PySem.P.truthy_str ⋯ #[H,I.tok _,q]
 | byt y=>
  obtain⟨t,rfl⟩:=Y;obtain⟨hy,e'⟩:y.size<=sizeLine/\k=((y.size:Int) != 0):=e;subst e';exact PySem.W.truthy_bytes ⋯ #[H,I.tok _,q]
 | ref p=>
  cases Y;have e':(∃xs,SqL X.K H p xs/\k= !xs.isEmpty)\/(∃xs,SqT X.K H p xs/\k= !xs.isEmpty)\/∃J,H p=pc (.dK J)/\k= !J.isEmpty:=e;rcases e' with⟨xs,hx,e'⟩ | ⟨xs,hx,e'⟩ | ⟨J,hx,e'⟩
  subst e';obtain⟨ab,r,pl,hz⟩:=I.list hx;have U:=r.length;exact wpAny_truthy_list pl.isList (by simp only[xJ];omega) #[H,I.tok _,by rw[zk r];exact q];subst e';obtain⟨ab,r,pl,hz⟩:=I.tuple hx;have U:=r.length;exact truthy_tuple pl (by simp only[xJ];omega) #[H,I.tok _,by rw[zk r];exact q];subst e';obtain⟨hz,hS,vs,r,m⟩:J.length<=sizeLine/\(p == sysModules)=wh/\∃vs,KV J vs/\s.heap.DictOf (Ac X.prog X.w) p vs:=I.hok p _ hx;have U:J.length=vs.length:=Paired.length r;exact wpAny_truthy_dict hS m ⋯ #[H,I.tok _,by rw[Hm r];exact q]
 | _=>exact(show False from e).elim
theorem D5(ha:PE X a ta)(U:∀J,isTrue a X.env J=(do let v <- J;standAt a.pos;holding [v] (truthy v))):
 PT X a (λσ H Q=>ta σ H λx H'=>∃k,JM X.K x H' k/\Q k H'):=by
 intro pins s σ H Q I h;exact isTrue_plain (thn (ha pins s σ H _ I h) λv s1 #[x,H1,I1,r1,q1]=>Ob pins s1 σ H1 x v Q I1 r1 q1) (U _)
theorem G1:OpR X (binaryOp .Add) (λx y H Q=>∃i j,x=.str i/\y=.str j/\i.length+j.length<=sizeLine/\Q (.str (i++j)) H):=by intro pins s σ H x y v u Q I J U h;obtain⟨i,j,rfl,rfl,hz,q⟩:=h;obtain⟨t,rfl⟩:=J;obtain⟨t',rfl⟩:=U;exact add_str (λt' tk=>#[.str (i++j),H,I.tok _,#[_,rfl],q]) hz
theorem vals1{x:V}(r:Vals [x] us):∃u,us=[u]/\RelV x u:=by
 cases r with
 | cons J U=>cases U;exact#[_,rfl,J]
theorem vals2{x y:V}(r:Vals [x,y] us):∃u J,us=[u,J]/\RelV x u/\RelV y J:=by
 cases r with
 | cons U Y=>
  cases Y with
  | cons r3 r4=>cases r4;exact#[_,_,rfl,U,r3]
theorem D3:mY X (.builtin "abs") (λxs H Q=>∃i,xs=[.int i]/\Q (.int (if i<0 then -i else i)) H):=by intro pins s σ H xs us Q I r h;obtain⟨i,rfl,q⟩:=h;obtain⟨u,rfl,t,rfl⟩:=vals1 r;exact call_abs_int λu tk=>#[.int (if i<0 then -i else i),H,I.tok _,#[_,rfl],q]
theorem Bk(hc:X.calm=qc):mY X (.builtin "max") (λxs H Q=>∃i j,xs=[.int i,.int j]/\Q (.int (if j>i then j else i)) H):=by intro pins s σ H xs us Q I r h;obtain⟨i,j,rfl,q⟩:=h;obtain⟨u,U,rfl,⟨t,rfl⟩,⟨t',rfl⟩⟩:=vals2 r;refine max_two_ints (I.ok.hd hc) λh' tk k=>#[_,H,I.kept k, ?_,q];by_cases J:j>i;rw[if_pos J,if_pos J];exact#[_,rfl];rw[if_neg J,if_neg J];exact#[_,rfl]
def NF(K:sH)(x:V)(H:Hp)(n:Nat):Prop:=
 match x with
 | .str y=>y.length<=sizeLine/\n=y.length
 | .byt y=>y.size<=sizeLine/\n=y.size
 | .ref p=>(∃xs,SqL K H p xs/\n=xs.length)\/∃xs,SqT K H p xs/\n=xs.length
 | _=>False
theorem cG:mY X (.builtin "len") (λxs H Q=>∃x n,xs=[x]/\NF X.K x H n/\Q (.int n) H):=by
 intro pins s σ H xs us Q I r h;obtain⟨x,n,rfl,e,q⟩:=h;obtain⟨u,rfl,U⟩:=vals1 r;have hl:=qo;have hs:sizeLine=16777216:=SO;cases x with
 | str y=>
  obtain⟨t,rfl⟩:=U;obtain⟨hy,e'⟩:y.length<=sizeLine/\n=y.length:=e;subst e';exact len_str ⋯ #[.int _,H,I.tok _,#[_,rfl],q]
 | byt y=>
  obtain⟨t,rfl⟩:=U;obtain⟨hy,e'⟩:y.size<=sizeLine/\n=y.size:=e;subst e';exact PySem.W.len_bytes ⋯ #[.int _,H,I.tok _,#[_,rfl],q]
 | ref p=>
  cases U;have e':(∃xs,SqL X.K H p xs/\n=xs.length)\/∃xs,SqT X.K H p xs/\n=xs.length:=e;rcases e' with⟨xs,hx,e'⟩ | ⟨xs,hx,e'⟩
  subst e';obtain⟨Y,r',pl,hz⟩:=I.list hx;have J:=r'.length;exact Calls.call_len_list pl.isList (by simp only[xJ];omega) #[.int xs.length,H,I.tok _,#[_,by simp only[xJ];rw[J]],q];subst e';obtain⟨Y,r',pl,hz⟩:=I.tuple hx;have J:=r'.length;exact len_tuple pl (by simp only[xJ];omega) #[.int xs.length,H,I.tok _,#[_,by simp only[xJ];rw[J]],q]
 | _=>exact(show False from e).elim
end
structure ym(h:FS)(x dx C:qh)(mA:Str->Option qb):Prop where
 obj:h.get? x=pc (R3 C dx)
 ns:h.Ns1 dx mA
 ne:dx≠x
theorem HL{dx:qh}{mA:Str->Option qb}(n:h.Ns1 dx mA):∃U,h.get? dx=pc U/\∀name,TY name U=pc (mA name):=by
 obtain⟨o,es,ep,Y,hd,hk,_,hm⟩:=n;refine#[o,Y,λname=> ?_];have e:=hm name;unfold nsFind findBy at e;rw[<- Array.find?_toList] at e;unfold TY;rw[hd];dsimp only;split;rename_i y q;rw[q] at e;exact congrArg pc e;rename_i q;rw[q] at e;have a:es.toList.any (·.refKey)=false:=by rw[Ug];intro y hy;obtain⟨z,t,J⟩:=hk y (Array.mem_toList_iff.mp hy);simp[DictEntry.refKey,J]
 have a':¬es.toList.any (·.refKey)=true:=by rw[a];exact At
 rw[if_neg a'];exact congrArg pc e
theorem ym.look{x dx C:qh}{mA:Str->Option qb}(I:ym h x dx C mA):∃J,PySem.W.InstAt h x (R3 C dx) C (pc J)/\∀name,TY name J=pc (mA name):=
 let #[J,ho,hl]:=HL I.ns
 #[J,#[I.obj,rfl,rfl,ho],hl]
section
variable {prog : B3} {w : Ch} {A : Je} {E : qb → tt → Prop} {s : tt} {K : sH} {x dx C f : qh} {mA : Str → Option qb} {name : Str} {v : qb}
theorem get_map {U:Bool} {Q:qb->tt->Prop} (X:K.In s.heap) (I:ym s.heap x dx C mA) (hg:S5 K C name=qc) (hh:Ti K C=qc)
 (ha:Do K (.ref C) name=pc pi) (hv:mA name=pc v) (Y:Vu v=qc) (h:Q v {s with toks:=s.toks+1}):
 wpAny (model prog w) A (getAttr (.ref x) name U) Q E s:=by
 obtain⟨od,J,hl⟩:=I.look;exact PySem.W.get_value X J (TV hg).1 (PySem.W.findObj_own hh ha rfl (by rw[hl,hv])) Y h
theorem Ln {pl:Sem Bool} {Q:qb×List qb->tt->Prop} (X:K.In s.heap) (I:ym s.heap x dx C mA) (U:S5 K C name=qc)
 (Y:Do K (.ref C) name=pc (pc (.ref f))) (ht:R6 K (.ref f)=qc) (hv:mA name=pi) (h:Q (.ref f,[.ref x]) s):
 wpAny (model prog w) A (getMethod (.ref x) name pl) Q E s:=by
 obtain⟨od,J,hl⟩:=I.look;exact PySem.W.method_fn X J (TV U).1 (TV U).2 Y (beq_iff_eq.mp ht) (by show (TY name od).map (·.isSome)=pc wh;rw[hl,hv];rfl) h
theorem Nm {ns:List Str} {Q:Unit->tt->Prop} (X:K.In s.heap) (I:ym s.heap x dx C mA)
 (hs:Do K (.ref C) "__setattr__" =pc (pc (.builtin "object.__setattr__"))) (hp:Ue K C=qc) (ht:UE K C name=pc pi) (hh:Ti K C=qc)
 (hw:U6 mA ns) (az:ns.length<=sizeLine)
 (h:∀h',ym h' x dx C (λy=>if y=name then pc v else mA y)->Heap.SameBut dx s.heap h'->Q () {s with heap:=h',toks:=s.toks+2}):
 wpAny (model prog w) A (setAttr (.ref x) name v) Q E s:=by
 obtain⟨od,J,hl⟩:=I.look;refine PySem.W.set_plain X J hs (PySem.W.osa_open (s:={s with toks:=s.toks+1}) (r:=pi) X J hp ht λb=> ?_);obtain⟨cd,hc,ab⟩:=PySem.W.any_some hh;have hx:s.heap.get? x=pc #[.ref C,pc dx,.plain,#v[]]:=I.obj;refine x0 (No (x0 (x0 (wpAny_loadPart hx (x0 (VW (s:={s with toks:=s.toks+1}) (PySem.W.looks_clsIn X hc) ?_))))));rw[ab];refine No (a:=pc dx) (x0 (No (x0 ?_)));refine wpAny_nsSet1 (s:={s with toks:=s.toks+1}) I.ns λh' U Y=> ?_;obtain⟨oD,a0,a1,ac,al,am⟩:=U.count (PySem.Within.cons name v hw);refine x0 (wpAny_lookBehind ac (by rw[al];exact pastItsLine_dict (IN am (by rw[xa];omega))) ?_);exact No (h _ #[(Y.2 _ (S1 I.ne)).trans I.obj,U,I.ne] Y)
theorem Le {R:U4->tt->Prop} {vs:List qb} {kw:List (Str×qb)} (X:K.In s.heap) (hm:UG K C=qc)
 (hi:Do K (.ref C) "__init__" =pc (pc (.ref f))) (J:PySem.W.typeIn K (.ref f)=pc (.type "function"))
 (h:codeAny (model prog w) (A.under (.builtin "type.__call__" #[.ref C::vs,kw])) (.call (.ref f) #[.ref (s.heap.objs.size+1)::vs,kw]) (PySem.W.InitBack (s.heap.objs.size+1) R)
  {s with heap:=(s.heap.push RF).push (R3 C s.heap.objs.size)}):
 codeAny (model prog w) A (.call (.ref C) #[vs,kw]) R s:=by
 obtain⟨U,g,d,t,os⟩:=s;exact PySem.W.make_core (PySem.W.makes_of X hm) (PySem.W.looks_findIn X hi) (λself=>PySem.W.bind_fn X self J) (.inl rfl) h
end
def jI(f:Str)(v:V):List (Str×V)->List (Str×V)
 | []=>[(f,v)]
 | (g,x)::r=>if g=f then (g,v)::r else (g,x)::jI f v r
theorem xk(f g:Str)(v:V):∀fs:List (Str×V),(jI f v fs).lookup g=if g=f then pc v else fs.lookup g
 | []=>by show SN g [(f,v)]=_;by_cases h:g=f;have hb:(g == f)=true:=beq_iff_eq.mpr h;simp only[SN,hb,if_pos h];have hb:(g == f)=false:=beq_eq_false_iff_ne.mpr h;simp only[SN,hb,if_neg h]
 | (k,x)::r=>by have J:=xk f g v r;rw[show jI f v ((k,x)::r)=(if k=f then (k,v)::r else (k,x)::jI f v r) from rfl];by_cases hk:k=f;rw[if_pos hk];by_cases h:g=k;have hb:(g == k)=true:=beq_iff_eq.mpr h;simp only[SN,hb,if_pos (h.trans hk)];have hb:(g == k)=false:=beq_eq_false_iff_ne.mpr h;simp only[SN,hb,if_neg (λe:g=f=>h (e.trans hk.symm))];rw[if_neg hk];by_cases h:g=k;have hb:(g == k)=true:=beq_iff_eq.mpr h;simp only[SN,hb,if_neg (λe:g=f=>hk (h.symm.trans e))];have hb:(g == k)=false:=beq_eq_false_iff_ne.mpr h;simp only[SN,hb];exact J
theorem vP(f:Str)(v:V):∀fs:List (Str×V),f∈(jI f v fs).map (·.1)/\∀g,g∈fs.map (·.1)->g∈(jI f v fs).map (·.1)
 | []=>#[by simp[jI],λg h=>by simp at h]
 | (k,x)::r=>by
  obtain⟨J,U⟩:=vP f v r;rw[show jI f v ((k,x)::r)=(if k=f then (k,v)::r else (k,x)::jI f v r) from rfl];by_cases hk:k=f;rw[if_pos hk];subst hk;exact#[by simp,λg h=>by simpa using h];rw[if_neg hk];refine#[?_,λg h=> ?_];rw[ww];exact tz _ J;rw[ww] at h ⊢;rcases u8.mp h with e | e
  exact u8.mpr (.inl e);exact tz _ (U g e)
theorem xD(f:Str)(v:V):∀fs:List (Str×V),(jI f v fs).length<=fs.length+1
 | []=>by simp[jI]
 | (k,x)::r=>by have J:=xD f v r;rw[show jI f v ((k,x)::r)=(if k=f then (k,v)::r else (k,x)::jI f v r) from rfl];by_cases hk:k=f;rw[if_pos hk,xa,xa];omega;rw[if_neg hk,xa,xa];omega
theorem rX.some_of{o:Option qb}(r:rX (pc v) o):∃u,o=pc u/\RelV v u:=by
 cases o with
 | none=>exact(show False from r).elim
 | some u=>exact#[u,rfl,r]
theorem rX.none_of{o:Option qb}(r:rX pi o):o=none:=by
 cases o with
 | none=>rfl
 | some u=>exact(show False from r).elim
theorem Jn(r:RelV v u):Vu u=true:=by
 cases v with
 | non=>cases (show u=Value.none from r);rfl
 | bl b=>cases (show u=Value.bool b from r);rfl
 | int i=>obtain⟨t,e⟩:=(show ∃t,u=Value.int i t from r);cases e;rfl
 | str x=>obtain⟨t,e⟩:=(show ∃t,u=Value.str x t from r);cases e;rfl
 | byt b=>obtain⟨t,e⟩:=(show ∃t,u=Value.bytes b t from r);cases e;rfl
 | flt b=>obtain⟨t,e⟩:=(show ∃t,u=Value.float b t from r);cases e;rfl
 | ref a=>cases (show u=Value.ref a from r);rfl
 | ty n=>cases (show u=Value.type n from r);rfl
section
variable {P : B3} {w : Ch} {H H' : Hp} {h h' : FS} {a C dx : qh} {fs fs' : List (Str × V)}
theorem A5(J:HOk P w H h)(e:H a=pc (.ins C dx fs)):∃mA,ym h a dx C mA/\(∀f,rX (fs.lookup f) (mA f))/\U6 mA (fs.map (·.1))/\fs.length<=1000/\H dx=pc (.own a):=by obtain⟨d,z,ne,U,mA,n,r,q⟩:=(show iN P w H h a (.ins C dx fs) from J a _ e);exact#[mA,#[U,n,ne],r,q,z,d]
end
structure Cls(K:sH)(C:qh):Prop where
 pg:S5 K C Str.empty=qc
 hd:Ti K C=qc
 po:Ue K C=qc
 sa:Do K (.ref C) "__setattr__" =pc (pc (.builtin "object.__setattr__"))
theorem Cls.get(c:Cls K C)(f:Str):S5 K C f=true:=c.pg
def fD(K:sH)(C:qh)(f:Str):Prop:=Do K (.ref C) f=pc pi
theorem fD.taker{f:Str}(n:fD K C f):UE K C f=pc none:=by unfold UE;rw[show Do K (.ref C) f=pc pi from n];rfl
structure Con(K:sH)(C:qh)(f:Str)(v:V)(u:qb):Prop where
 at_:Do K (.ref C) f=pc (pc u)
 rel:RelV v u
 get:Vf K u "__get__" =pc pi
 cp:PySem.W.copiedNames.contains f=wh
structure Meth(K:sH)(C:qh)(m:Str)(f:qh):Prop where
 at_:Do K (.ref C) m=pc (pc (.ref f))
 fn:R6 K (.ref f)=qc
 kp:NE K (.ref f)=qc
section
variable {X : Cx} {pins : List (qh × Obj)} {σ : St} {H : Hp} {s : tt} {a C dx : qh} {fs : List (Str × V)} {f : Str} {v : V} {A : Je} {E : qb → tt → Prop}
theorem GK {b:Bool} {Q:qb->tt->Prop} (I:Inv X pins σ H s) (e:H a=pc (.ins C dx fs)) (c:Cls X.K C) (n:fD X.K C f) (l:fs.lookup f=pc v)
 (h:∀u s',Inv X pins σ H s'->RelV v u->Q u s'):wpAny (model X.prog X.w) A (getAttr (.ref a) f b) Q E s:=by
 obtain⟨mA,O,r,_,_,_⟩:=A5 I.hok e;obtain⟨u,hu,J⟩:=rX.some_of (v:=v) (o:=mA f) (by rw[<- l];exact r f);exact get_map I.kIn O (c.get f) c.hd n hu (Jn J) (h u _ (I.tok _) J)
theorem tF {m:Str} {g:qh} {pl:Sem Bool} {Q:qb×List qb->tt->Prop} (I:Inv X pins σ H s) (e:H a=pc (.ins C dx fs)) (c:Cls X.K C) (k:Meth X.K C m g) (l:fs.lookup m=pi)
 (h:Q (.ref g,[.ref a]) s):wpAny (model X.prog X.w) A (getMethod (.ref a) m pl) Q E s:=by
 obtain⟨mA,O,r,_,_,_⟩:=A5 I.hok e;have hn:mA m=none:=rX.none_of (by rw[<- l];exact r m);exact Ln I.kIn O (c.get m) k.at_ k.fn hn h
theorem HA {y:V} {Q:Unit->tt->Prop} (I:Inv X pins σ H s) (e:H a=pc (.ins C dx fs)) (c:Cls X.K C) (n:fD X.K C f) (hl:fs.length<1000) (U:RelV y u)
 (h:∀s',Inv X pins σ (upd H a (.ins C dx (jI f y fs))) s'->Q () s'):wpAny (model X.prog X.w) A (setAttr (.ref a) f u) Q E s:=by
 obtain⟨mA,O,r,wi,_,J⟩:=A5 I.hok e;have hz:(fs.map (·.1)).length<=sizeLine:=by rw[sB,SO];omega
 refine Nm I.kIn O c.sa c.po n.taker c.hd wi hz λh' O' Y=>h _ ?_;have hd:∃o,h'.get? dx=pc o:=let #[o,_,_,e',_]:=O'.ns;#[o,e']
 refine I.write (x:=a) (e:=dx) (by rw[e];exact TC) (.inr J) (λb q hb z=>(Y.2 b hb).trans z) hd ?_;refine#[by rw[aZ O.ne];exact J, ?_,O.ne,O'.obj,_,O'.ns,λg=> ?_,λg hg=> ?_];have:=xD f y fs;omega;show rX ((jI f y fs).lookup g) (if g=f then pc u else mA g);rw[xk];by_cases q:g=f;rw[if_pos q,if_pos q];exact U;rw[if_neg q,if_neg q];exact r g;by_cases q:g=f;rw[q];exact(vP f y fs).1;refine(vP f y fs).2 g (wi g λz=>hg ?_);show (if g=f then pc u else mA g)=pi;rw[if_neg q];exact z
theorem Inv.made(I:Inv X pins σ H s):Inv X pins σ (upd (upd H s.heap.objs.size (.own (s.heap.objs.size+1))) (s.heap.objs.size+1) (.ins C s.heap.objs.size []))
 {s with heap:=(s.heap.push RF).push (R3 C s.heap.objs.size)}:=by
 have e1:(s.heap.push RF).get? s.heap.objs.size=pc RF:=Heap.get?_push_size s.heap rfl;have e2:((s.heap.push RF).push (R3 C s.heap.objs.size)).get? (s.heap.objs.size+1)=pc (R3 C s.heap.objs.size):=by have:=Heap.get?_push_size (s.heap.push RF) (o:=R3 C s.heap.objs.size) rfl;rwa [Heap.size_push] at this
 have e3:(s.heap.push RF).Ns s.heap.objs.size (λ_=>pi):=#[RF,#v[],_,e1,rfl,(λe J=>absurd J (by simp)),λ_=>rfl];have U:=I.laid (a:=s.heap.objs.size) (o:=.own (s.heap.objs.size+1)) (h':=s.heap.push RF) (t':=s.toks) (λb u q=>Heap.get?_push_of_some _ q) (vr _) #[_,e1];refine U.laid (a:=s.heap.objs.size+1) (o:=.ins C s.heap.objs.size []) (t':=s.toks) (λb u q=>Heap.get?_push_of_some _ q) (Nat.le_of_eq (Heap.size_push _ _)) ?_;have ne:s.heap.objs.size≠s.heap.objs.size+1:=Ez (Tu _);refine#[by rw[aZ ne,cQ],Oz _,ne,e2,λ_=>pi,(Heap.Ns1.of_empty e3).at λo q=>Heap.get?_push_of_some _ q,λ_=>TC,λy hy=>absurd rfl hy]
theorem Mz {prog:B3} {w:Ch} {env:Env} {f:Str} {pos:Pos} {s:tt} {Q:qb->tt->Prop} (hb:attributeBase e f env (eval e env)=eval e env)
 (h:wpAny (model prog w) A (eval e env) (λo J=>wpAny (model prog w) A (getAttr o f qc) Q E J) E s):wpAny (model prog w) A (eval (.Attribute e f pos) env) Q E s:=
 Attribute_any_ h (by rw[arm_eval_Attribute,hb])
end
def Oh(K:sH)(ta:TE)(f:Str):TE:=λσ H Q=>ta σ H λx H1=>∃a C dx fs v,x=.ref a/\H1 a=pc (.ins C dx fs)/\Cls K C/\fD K C f/\fs.lookup f=pc v/\Q v H1
def NP(K:sH)(ta tv:TE)(f:Str):TS:=λD σ H=>tv σ H λy H1=>ta σ H1 λx H2=>∃a C dx fs,x=.ref a/\H2 a=pc (.ins C dx fs)/\Cls K C/\fD K C f/\fs.length<1000/\
 D.nx σ (upd H2 a (.ins C dx (jI f y fs)))
section
variable {X : Cx} {o e value : Db} {f : Str} {pos pos' tpos : Pos} {ta tv : TE}
theorem zG(J:PE X e ta)(hb:attributeBase e f X.env (eval e X.env)=eval e X.env):PE X (.Attribute e f pos) (Oh X.K ta f):=by intro pins s σ H Q I h;refine Mz hb (thn (J pins s σ H _ I h) λu s1 #[x,H1,I1,rx,a,C,dx,fs,v,ex,ea,c,n,l,q]=> ?_);subst ex;obtain rfl:u=Value.ref a:=rx;exact GK I1 ea c n l λu' s2 U Y=>#[v,H1,U,Y,q]
theorem Dq(ha:PE X o ta)(J:PE X value tv)(hs:swapsWith value (pc (.Attribute o f pos')) pos.line X.env=pure wh):PS X (.Assign [.Attribute o f pos'] value pos) (NP X.K ta tv f):=by intro pins s σ H D I h;refine plainObj_wpAny_Assign_Attribute (thn (J pins s σ H _ I h) λu s1 #[y,H1,I1,ry,q]=>thn (ha pins s1 σ H1 _ I1 q) λov s2 #[x,H2,I2,rx,a,C,dx,fs,ex,ea,c,n,l,q2]=> ?_) hs;subst ex;obtain rfl:ov=Value.ref a:=rx;exact HA I2 ea c n l ry λY U=>#[σ,_,U,q2]
theorem OU {pl:Sem Bool} {m:Str} {apos:Pos} {args:List Db} {Q:qb->tt->Prop} (U:PE X e te) (I:Inv X pins σ H s)
 (h:te σ H λx H1=>∃a C dx fs g,x=.ref a/\H1 a=pc (.ins C dx fs)/\Cls X.K C/\Meth X.K C m g/\fs.lookup m=pi/\
  ∀s1,Inv X pins σ H1 s1->wpAny (model X.prog X.w) X.A (callWith pos (.ref g) [.ref a] (backTo pos (starEach args X.env)) (backToKw pos (keywordEach [] X.env))) Q X.xe s1)
 (Y:eval (.Call (.Attribute e m apos) args [] pos) X.env=(do
  let J <- eval e X.env
  standAt apos.atName
  let (f,first) <- holding [J] (getMethod J m pl)
  callWith pos f first (backTo pos (starEach args X.env)) (backToKw pos (keywordEach [] X.env)))):
 wpAny (model X.prog X.w) X.A (eval (.Call (.Attribute e m apos) args [] pos) X.env) Q X.xe s:=by
 refine Tv (pl:=pl) (thn (U pins s σ H _ I h) λu s1 #[x,H1,I1,rx,a,C,dx,fs,g,ex,ea,c,k,l,q]=> ?_) Y;subst ex;obtain rfl:u=Value.ref a:=rx;exact tF I1 ea c k l (q s1 I1)
end
section
variable {X : Cx} {pins : List (qh × Obj)} {σ : St} {H : Hp} {s : tt} {A : Je} {E : qb → tt → Prop} {Q : qb → tt → Prop} {c : qb} {b : Bool}
inductive pU (K:sH) (H:Hp):V->qb->Prop where
 | non:pU K H .non (.type "NoneType")
 | bl (x:Bool):pU K H (.bl x) (.type "bool")
 | int (i:Int):pU K H (.int i) (.type "int")
 | str (x:Str):pU K H (.str x) (.type "str")
 | flt (x:UInt64):pU K H (.flt x) (.type "float")
 | lst {a:qh} {xs:List V} (e:H a=pc (.lst xs)):pU K H (.ref a) (.type "list")
 | frz {a:qh} {o:Obj} {xs:List V} (e:H a=pc (.frz o (.lst xs))):pU K H (.ref a) (.type "list")
 | tup {a:qh} {xs:List V} (e:H a=pc (.tup xs)):pU K H (.ref a) (.type "tuple")
 | dK {a:qh} {kvs:List (Key×V)} (e:H a=pc (.dK kvs)):pU K H (.ref a) (.type "dict")
 | dT {a:qh} {kvs:List (List Key×V)} (e:H a=pc (.dT kvs)):pU K H (.ref a) (.type "dict")
 | ins {a C dx:qh} {fs:List (Str×V)} (e:H a=pc (.ins C dx fs)) (cl:Cls K C) (ha:Do K (.ref C) "__class__" =pc (pc (.builtin "object.__class__")))
  (hn:Vf K (.builtin "object.__class__") "__get__" =pc (pc (.builtin "getset_descriptor.__get__"))) (htk:PySem.W.takesIn K (.builtin "object.__class__")=pc qc)
  (hm:PySem.W.mroIn K C (.type "object")=pc qc):pU K H (.ref a) (.ref C)
end
structure fk(k:Nat)(A:Je):Prop where
 hd:A.handled=pi
 dp:A.depth+3*k+5<recursionLimit
 un:A.units+16*k+200<cLine
theorem fk.mono{j k:Nat}(r:fk k A)(h:j<=k):fk j A:=#[r.hd,by have:=r.dp;omega,by have:=r.un;omega]
theorem fk.deeper(r:fk (k+1) A)(env:Env):fk k (A.deeper env):=
 #[r.hd,by have:=r.dp;show A.depth+1+3*k+5<_;omega,by have:=r.un;show A.units+3+16*k+200<_;omega]
theorem G2:(A.under (.builtin "type.__call__" #[.ref C::us,kw])).depth=A.depth+1:=by first | rfl | simp[Around.under,Code.weight,Code.isCreation,Code.isGuard,Code.isCaller,Code.frames,Code.isFrame,guardIds]
theorem GI:(A.under (.builtin "type.__call__" #[.ref C::us,kw])).units=A.units+1:=by first | rfl | simp[Around.under,Code.cUnits,Code.frames,Code.isFrame]
theorem fk.make(r:fk (k+1) A)(C:qh)(us:List qb)(kw:List (Str×qb)):fk k (A.under (.builtin "type.__call__" #[.ref C::us,kw])):=
 #[r.hd,by have:=r.dp;rw[G2];omega,by have:=r.un;rw[GI];omega]
theorem fk.depth(r:fk k A):A.depth<recursionLimit:=by have:=r.dp;omega
theorem fk.units(r:fk k A):A.units+64<cLine:=by have:=r.un;omega
def qd:TA:=λ_ H Q=>Q [] H
def mW(ta:TE)(J:TA):TA:=λσ H Q=>ta σ H λx H1=>J σ H1 λxs H2=>Q (x::xs) H2
section
variable {X : Cx} {e : Db} {es : List Db} {te : TE} {t : TA} {pos : Pos}
theorem au:PA X [] qd:=λ_ _ _ _ H Q I h=>Calls.spliced_nil #[[],H,I,.nil,h]
theorem ah(ha:PE X e te)(hr:PA X es t)(hs:starEach (e::es) X.env=(wh,eval e X.env)::starEach es X.env:=by rfl):PA X (e::es) (mW te t):=by intro pos pins s σ H Q I h;rw[hs];show wpAny _ _ (spliced ((wh,eval e X.env)::backTo pos (starEach es X.env))) _ _ s;refine Calls.spliced_cons (thn (ha pins s σ H _ I h) λu s1 #[x,H1,I1,r1,q1]=> ?_);exact thn (hr pos pins s1 σ H1 _ I1 q1) λus s2 #[xs,H2,I2,r2,q2]=>#[x::xs,H2,I2,.cons r1 r2,q2]
def NL(t:TA):TE:=λσ H Q=>t σ H λxs H1=>xs.length<=sizeLine/\∀p,H1 p=pi->Q (.ref p) (upd H1 p (.tup xs))
def EF(t:TA):TE:=λσ H Q=>t σ H λxs H1=>xs.length<=sizeLine/\∀p,H1 p=pi->Q (.ref p) (upd H1 p (.lst xs))
theorem jW{x1}(h:PA X es t):PE X (.Tuple es x1 pos) (NL t):=by intro pins s σ H Q I hq;refine wpAny_Tuple_spliced (thn (h pos pins s σ H _ I hq) λus s1 #[xs,H1,I1,r,z,q]=>#[by rw[<- r.length];exact z, ?_]);have J:H1 s1.heap.objs.size=none:=I1.hok.fresh (vr _);refine#[.ref s1.heap.objs.size,upd H1 s1.heap.objs.size (.tup xs),I1.laid (t':=s1.toks) (λb u e=>Heap.get?_push_of_some _ e) (vr _) ?_,rfl,q _ J];exact#[z,us,r,#[_,Heap.get?_push_size _ rfl,rfl,_,rfl]]
theorem fj(h:PA X es t):PE X (.List es pos) (EF t):=by intro pins s σ H Q I hq;refine wpAny_List_spliced (thn (h pos pins s σ H _ I hq) λus s1 #[xs,H1,I1,r,z,q]=>#[by rw[<- r.length];exact z, ?_]);have J:H1 s1.heap.objs.size=none:=I1.hok.fresh (vr _);refine#[.ref s1.heap.objs.size,upd H1 s1.heap.objs.size (.lst xs),I1.laid (t':=s1.toks) (λb u e=>Heap.get?_push_of_some _ e) (vr _) ?_,rfl,q _ J];exact#[z,us,0,r,Heap.get?_push_size _ rfl]
end
abbrev Sp:=List V->Hp->VK->XK->Prop
abbrev CXT:=List Env->Hp->tt->XK->qb->tt->Prop
structure vA(P:B3)(w:Ch)(K:sH)(mg:Str->Option qb)(base:FS)(A:Je)(outer:List Env)(s:tt)(H:Hp):Prop where
 frames:A.frames=pc outer
 mod:Mod K mg base
 bs:∀b o,base.get? b=pc o->s.heap.get? b=pc o/\H b=pi
 bsz:base.objs.size<=s.heap.objs.size
 funs:s.heap.FunFrames base outer
 frf:∀b∈frs outer,H b=pi
 hok:HOk P w H s.heap
 bare:Tf s.gens
def CE(outer:List Env)(P:B3)(w:Ch)(H:Hp)(s:tt)(Q:VK)(u:qb)(s':tt):Prop:=
 ∃v H',s'.os=s.os/\Tf s'.gens/\Un (frs outer) [] H H' s.heap s'.heap/\HOk P w H' s'.heap/\RelV v u/\Q v H'
def CR(CX:CXT)(outer:List Env)(P:B3)(w:Ch)(H:Hp)(s:tt)(Q:VK)(E:XK)(r:U4)(s':tt):Prop:=
 match r with
 | .ok (.ret u)=>CE outer P w H s Q u s'
 | .ok _=>False
 | .error e=>CX outer H s E e s'
structure kI(P:B3)(w:Ch)(K:sH)(mg:Str->Option qb)(base:FS)(CX:CXT)(k:Nat)(f:qh)(fd:RL)(ps:List Str)(sp:Sp):Prop where
 len:∀vs H Q E,sp vs H Q E->vs.length=ps.length
 run:∀(A:Je) (outer:List Env) (s:tt) (H:Hp) (args:Args) (us:List qb) (vs:List V) (Q:VK) (E:XK),fk k A->vA P w K mg base A outer s H->TZ s fd args (ps.zip us)->Vals vs us->sp vs H Q E->
  codeAny (model P w) A (.call (.ref f) args) (CR CX outer P w H s Q E) s
theorem vA.make{outer:List Env}(e:vA P w K mg base A outer s H)(C:qh)(us:List qb)(kw:List (Str×qb)):
 vA P w K mg base (A.under (.builtin "type.__call__" #[.ref C::us,kw])) outer s H:=#[by first | exact e.frames | (simpa[Around.under,Code.envs,Code.isFrame,pushEnvs] using e.frames),e.mod,e.bs,e.bsz,e.funs,e.frf,e.hok,e.bare]
section
variable {X : Cx} {pins : List (qh × Obj)} {σ : St} {H : Hp} {s s' : tt}
theorem Inv.env0(I:Inv X pins σ H s):vA X.prog X.w X.K X.mg X.base X.A X.stack s H:=
 #[I.ok.frames,I.ok.mod,I.bs,IN I.ok.bsz I.sz,I.stack,I.stkFree,I.hok,I.bare]
theorem Inv.after{Q:VK}(I:Inv X pins σ H s)(h:CE X.stack X.prog X.w H s Q u s'):EP X pins σ Q u s':=by obtain⟨v,H',os,J,un,U,r,q⟩:=h;obtain⟨hh,g,d,t,Y⟩:=s';obtain rfl:Y=s.os:=os;exact#[v,H',I.call (h':=hh) (g':=g) (d':=d) (t':=t) (ch:=[]) un U J (λb z=>absurd z (by simp)),r,q]
end
def tR(sp:Sp)(dvs:List V)(E:XK)(t:TA):TE:=λσ H Q=>t σ H λvs H1=>sp (vs++dvs) H1 Q E
def Ho(C:qh)(m:Str)(sp:Sp)(dvs:List V)(E:XK)(ta:TE)(t:TA):TE:=λσ H Q=>ta σ H λx H1=>∃a dx fs,x=.ref a/\H1 a=pc (.ins C dx fs)/\fs.lookup m=pi/\
 t σ H1 λvs H2=>sp (x::(vs++dvs)) H2 Q E
def L5(C:qh)(sp:Sp)(dvs:List V)(E:XK)(t:TA):TE:=λσ H Q=>t σ H λvs H1=>∀x dx,H1 x=pi->H1 dx=pi->dx≠x->
 sp (.ref x::(vs++dvs)) (upd (upd H1 dx (.own x)) x (.ins C dx [])) (λv H2=>v=.non/\Q (.ref x) H2) E
def Binds(K:sH)(fd:RL)(ps:List Str)(ds:List qb):Prop:=
 ∀(s:tt) (us:List qb),K.In s.heap->(us++ds).length=ps.length->TZ s fd #[us,[]] (ps.zip (us++ds))
theorem Binds.all{fd:RL}{ps:List Str}(h:∀us:List qb,us.length=ps.length->bindArgs fd #[us,[]]=pure (ps.zip us)):Binds K fd ps []:=λs us _ J=>by rw[R1] at J ⊢;exact .of_eq (h us J)
def Passes(CX:CXT)(X:Cx)(E:XK):Prop:=∀(pins:List (qh×Obj)) (σ:St) (H:Hp) (s:tt) (e:qb) (s':tt),Inv X pins σ H s->CX X.stack H s E e s'->X.xe e s'
section
variable {X : Cx} {CX : CXT} {k : Nat} {f C : qh} {fd : RL} {ps : List Str} {sp : Sp} {dvs : List V} {ds : List qb} {E : XK} {x m : Str} {p pos apos : Pos} {e o : Db} {es : List Db} {ta : TE} {t : TA}
theorem Df {pins:List (qh×Obj)} {σ:St} {H:Hp} {s:tt} {Q:VK} {us:List qb} {vs:List V} (F:kI X.prog X.w X.K X.mg X.base CX k f fd ps sp) (hr:fk k X.A) (hb:Binds X.K fd ps ds) (hd:Vals dvs ds) (hx:Passes CX X E)
 (I:Inv X pins σ H s) (r:Vals vs us) (h:sp (vs++dvs) H Q E):wpAny (model X.prog X.w) X.A (call (.ref f) us) (EP X pins σ Q) X.xe s:=by
 have J:Vals (vs++dvs) (us++ds):=r.append hd;have U:(us++ds).length=ps.length:=by rw[<- J.length];exact F.len _ _ _ _ h
 refine wpAny_call (Ux (F.run X.A X.stack s H #[us,[]] (us++ds) (vs++dvs) Q E hr I.env0 (hb s us I.kIn U) J h) λr s' hq=> ?_);cases r with
 | error e=>exact hx pins σ H s e s' I hq
 | ok Y=>
  cases Y with
  | ret u=>exact I.after hq
  | next=>exact sn hq
  | brk=>exact sn hq
  | cont=>exact sn hq
theorem MJ (F:kI X.prog X.w X.K X.mg X.base CX k f fd ps sp) (hr:fk k X.A) (Y:Gl X x) (hm:X.mg x=pc (.ref f)) (hk:NE X.K (.ref f)=qc) (hb:Binds X.K fd ps ds) (hd:Vals dvs ds) (hx:Passes CX X E)
 (ha:PA X (e::es) t) (J:(x == ("__debug__" :Str))=false:=by decide) (he:starEach (e::es) X.env=(wh,eval e X.env)::starEach es X.env:=by rfl) (U:(backTo pos (starEach es X.env)).any (·.1)=false:=by rfl):
 PE X (.Call (.Name x p) (e::es) [] pos) (tR sp dvs E t):=by
 intro pins s σ H Q I h;refine Te (AS I Y hm ?_ J);refine T6 (h₀:=X.base) I.ok.mod.kin hk (thn (ha pos pins s σ H _ I h) λus s1 #[vs,H1,I1,r,q]=>#[I1.kIn, ?_]) he U;exact Df F hr hb hd hx I1 r q
theorem wj {pl:Sem Bool} (he:PE X o ta) (c:Cls X.K C) (hm:Meth X.K C m f) (F:kI X.prog X.w X.K X.mg X.base CX k f fd ps sp) (hr:fk k X.A) (hb:Binds X.K fd ps ds) (hd:Vals dvs ds) (hx:Passes CX X E) (ha:PA X (e::es) t)
 (J:starEach (e::es) X.env=(wh,eval e X.env)::starEach es X.env:=by rfl) (U:(backTo pos (starEach es X.env)).any (·.1)=false:=by rfl)
 (ht:eval (.Call (.Attribute o m apos) (e::es) [] pos) X.env=(do
  let Y <- eval o X.env
  standAt apos.atName
  let (f,first) <- holding [Y] (getMethod Y m pl)
  callWith pos f first (backTo pos (starEach (e::es) X.env)) (backToKw pos (keywordEach [] X.env))):=by rfl):
 PE X (.Call (.Attribute o m apos) (e::es) [] pos) (Ho C m sp dvs E ta t):=by
 intro pins s σ H Q I h;refine Tv (pl:=pl) (thn (he pins s σ H _ I h) λu s1 #[x,H1,I1,rx,a,dx,fs,ex,ea,l,q]=> ?_) ht;subst ex;obtain rfl:u=Value.ref a:=rx;refine tF I1 ea c hm l ?_;refine T6 (first:=[.ref a]) (h₀:=X.base) I.ok.mod.kin hm.kp (thn (ha pos pins s1 σ H1 _ I1 q) λus s2 #[vs,H2,I2,r,q2]=>#[I2.kIn, ?_]) J U;exact Df (us:=.ref a::us) (vs:=.ref a::vs) F hr hb hd hx I2 (.cons rfl r) q2
theorem nK {pl:Sem Bool} (U:PE X o ta) (c:Cls X.K C) (hm:Meth X.K C m f) (F:kI X.prog X.w X.K X.mg X.base CX k f fd ps sp) (hr:fk k X.A) (hb:Binds X.K fd ps ds) (hd:Vals dvs ds) (hx:Passes CX X E)
 (Y:eval (.Call (.Attribute o m apos) [] [] pos) X.env=(do
  let J <- eval o X.env
  standAt apos.atName
  let (f,first) <- holding [J] (getMethod J m pl)
  callWith pos f first (backTo pos (starEach [] X.env)) (backToKw pos (keywordEach [] X.env))):=by rfl):
 PE X (.Call (.Attribute o m apos) [] [] pos) (Ho C m sp dvs E ta qd):=by
 intro pins s σ H Q I h;refine Tv (pl:=pl) (thn (U pins s σ H _ I h) λu s1 #[x,H1,I1,rx,a,dx,fs,ex,ea,l,q]=> ?_) Y;subst ex;obtain rfl:u=Value.ref a:=rx;refine tF I1 ea c hm l ?_;exact PySem.W.callWith_K0 (first:=[.ref a]) I1.kIn hm.kp (Df (us:=[.ref a]) (vs:=[.ref a]) F hr hb hd hx I1 (.cons rfl .nil) q)
structure Mk(K:sH)(C f:qh):Prop where
 makes:UG K C=qc
 init:Do K (.ref C) "__init__" =pc (pc (.ref f))
 fn:R6 K (.ref f)=qc
 kp:NE K (.ref C)=qc
theorem KS {pins:List (qh×Obj)} {σ:St} {H:Hp} {s:tt} {Q:VK} {us:List qb} {vs:List V} (M:Mk X.K C f) (F:kI X.prog X.w X.K X.mg X.base CX k f fd ps sp) (hr:fk (k+1) X.A) (hb:Binds X.K fd ps ds) (hd:Vals dvs ds)
 (hx:Passes CX X E) (I:Inv X pins σ H s) (r:Vals vs us)
 (h:∀x dx,H x=pi->H dx=pi->dx≠x->sp (.ref x::(vs++dvs)) (upd (upd H dx (.own x)) x (.ins C dx [])) (λv H2=>v=.non/\Q (.ref x) H2) E):
 wpAny (model X.prog X.w) X.A (call (.ref C) us) (EP X pins σ Q) X.xe s:=by
 have hq:=h (s.heap.objs.size+1) s.heap.objs.size (I.hok.fresh (T5 _)) (I.hok.fresh (vr _)) (Ez (Tu _));have J:=Inv.made (C:=C) I;have U:Vals (V.ref (s.heap.objs.size+1)::(vs++dvs)) (Value.ref (s.heap.objs.size+1)::(us++ds)):=.cons rfl (r.append hd);have Y:(Value.ref (s.heap.objs.size+1)::us++ds).length=ps.length:=by have e:=U.length;rw[F.len _ _ _ _ hq] at e;exact e.symm
 refine wpAny_call (Le (f:=f) I.kIn M.makes M.init (beq_iff_eq.mp M.fn) (Ux (F.run _ X.stack _ _ #[Value.ref (s.heap.objs.size+1)::us,[]] (Value.ref (s.heap.objs.size+1)::(us++ds)) _ _ E (hr.make C us [])
  (J.env0.make C us []) (hb _ (Value.ref (s.heap.objs.size+1)::us) J.kIn Y) U hq) λr s' hq'=> ?_))
 cases r with
 | error e=>exact hx pins σ _ _ e s' J hq'
 | ok fl=>
  cases fl with
  | ret u=>
   obtain⟨v,H',I3,rv,ev,q3⟩:=J.after hq';subst ev;exact#[rv,#[V.ref (s.heap.objs.size+1),H',I3,rfl,q3]]
  | next=>exact sn hq'
  | brk=>exact sn hq'
  | cont=>exact sn hq'
theorem MV (M:Mk X.K C f) (F:kI X.prog X.w X.K X.mg X.base CX k f fd ps sp) (hr:fk (k+1) X.A) (Y:Gl X x) (hm:X.mg x=pc (.ref C)) (hb:Binds X.K fd ps ds) (hd:Vals dvs ds) (hx:Passes CX X E)
 (ha:PA X (e::es) t) (J:(x == ("__debug__" :Str))=false:=by decide) (he:starEach (e::es) X.env=(wh,eval e X.env)::starEach es X.env:=by rfl) (U:(backTo pos (starEach es X.env)).any (·.1)=false:=by rfl):
 PE X (.Call (.Name x p) (e::es) [] pos) (L5 C sp dvs E t):=by
 intro pins s σ H Q I h;refine Te (AS I Y hm ?_ J);refine T6 (h₀:=X.base) I.ok.mod.kin M.kp (thn (ha pos pins s σ H _ I h) λus s1 #[vs,H1,I1,r,q]=>#[I1.kIn, ?_]) he U;exact KS M F hr hb hd hx I1 r q
end
section
variable {X : Cx} {CX : CXT} {k : Nat} {f C : qh} {fd : RL} {ps ks : List Str} {sp : Sp} {E : XK} {x m : Str} {p pos apos kpos : Pos} {e o : Db} {es : List Db} {kws : List Keyword} {te ta : TE} {t tk : TA} {nm : Option Str}
structure QT(K:sH)(fd:RL)(ps ks:List Str)(g:List qb->List qb->List qb)(gV:List V->List V->List V):Prop where
 to:∀(s:tt) (us ws:List qb),K.In s.heap->(g us ws).length=ps.length->TZ s fd #[us,ks.zip ws] (ps.zip (g us ws))
 rel:∀{vs:List V} {us:List qb} {zs:List V} {ws:List qb},Vals vs us->Vals zs ws->Vals (gV vs zs) (g us ws)
variable {g : List qb → List qb → List qb} {gV : List V → List V → List V}
end
structure aY(N P:List Str)(sc:Sr):Prop where
 kind:sc.kind=.function
 co:sc.isCoroutine=wh
 gen:sc.isGenerator=wh
 nd:N.Nodup
 pre:N.take P.length=P
 par:∀x∈P,sc.names.lookup x=pc .local\/sc.names.lookup x=pc .cell
 nofree:∀y∈sc.names,y.2≠ .free
theorem Bn{kindOf:Str->Option R5}{x:Str}:∀{binds:List (Str×qb)} {m:Str->Option qb},(∀v,(x,v)∉binds)->bindL kindOf binds m x=m x
 | [],_,_=>rfl
 | (n,v)::r,m,h=>by
  unfold bindL;rw[Bn λw J=>h w (tz _ J)];split;have:x≠n:=by rintro rfl;exact h v uC
  simp[this];rfl
theorem Bo{kindOf:Str->Option R5}{x:Str}:∀{binds:List (Str×qb)} {m:Str->Option qb},(∀v,(x,v)∉binds)->bindC kindOf binds m x=m x
 | [],_,_=>rfl
 | (n,v)::r,m,h=>by
  unfold bindC;rw[Bo λw J=>h w (tz _ J)];split;rfl;have:x≠n:=by rintro rfl;exact h v uC
  simp[this]
theorem BF{kindOf:Str->Option R5}{x:Str}{v:qb}:∀{P:List Str} {vs:List qb} {i:Nat} {m:Str->Option qb},P.Nodup->P[i]? =pc x->vs[i]? =pc v->kindOf x=pc .local->
 bindL kindOf (P.zip vs) m x=pc v
 | [],_,_,_,_,h,_,_=>by simp at h
 | _::_,[],_,_,_,_,h,_=>by simp at h
 | p::P,w::vs,0,m,nd,h1,h2,hk=>by simp at h1 h2;subst h1;subst h2;show bindL kindOf ((p,w)::P.zip vs) m p=_;unfold bindL;rw[Bn λv J=>(RQ.mp nd).1 (Re J).1,if_pos hk];simp
 | p::P,w::vs,i+1,m,nd,h1,h2,hk=>by show bindL kindOf ((p,w)::P.zip vs) m x=_;unfold bindL;exact BF (i:=i) (RQ.mp nd).2 (by simpa using h1) (by simpa using h2) hk
theorem Cm{kindOf:Str->Option R5}{x:Str}{v:qb}:∀{P:List Str} {vs:List qb} {i:Nat} {m:Str->Option qb},P.Nodup->P[i]? =pc x->vs[i]? =pc v->kindOf x≠pc .local->
 bindC kindOf (P.zip vs) m x=pc v
 | [],_,_,_,_,h,_,_=>by simp at h
 | _::_,[],_,_,_,_,h,_=>by simp at h
 | p::P,w::vs,0,m,nd,h1,h2,hk=>by simp at h1 h2;subst h1;subst h2;show bindC kindOf ((p,w)::P.zip vs) m p=_;unfold bindC;rw[Bo λv J=>(RQ.mp nd).1 (Re J).1,if_neg hk];simp
 | p::P,w::vs,i+1,m,nd,h1,h2,hk=>by show bindC kindOf ((p,w)::P.zip vs) m x=_;unfold bindC;exact Cm (i:=i) (RQ.mp nd).2 (by simpa using h1) (by simpa using h2) hk
def start(N:List Str)(vs:List V):St:=vs.map pc++u0 (N.length-vs.length) pi
def uP(CX:CXT)(P:B3)(w:Ch)(K:sH)(mg:Str->Option qb)(base:FS)(N:List Str)(qual:Str)(scope:Sr)(f:qh)(cd:qb)(A:Je)(outer:List Env)(s:tt)(H:Hp)(E:XK):Cx where
 prog:=P
 w:=w
 K:=K
 mg:=mg
 base:=base
 A:=A.deeper (envOfC qual scope s.heap.objs.size f cd)
 N:=N
 s₀:=s
 H₀:=H
 env:=envOfC qual scope s.heap.objs.size f cd
 outer:=outer
 stack:=envOfC qual scope s.heap.objs.size f cd::outer
 ex:=[]
 calm:=true
 fn:=λ_=>qc
 pn:=[]
 xe:=λe s'=>wpAny (model P w) (A.deeper (envOfC qual scope s.heap.objs.size f cd)) (leaving (envOfC qual scope s.heap.objs.size f cd) e) (λ_ s''=>CX outer H s E e s'') (λe' s''=>CX outer H s E e' s'') s'
theorem Ex{sc:Sr}{n:Nat}(h:sc.names.lookup x=pc .cell):∃c,(cellsFrom n sc.names []).lookup x=pc c:=by have q:=SR sc.names n [] (.inl h);exact Uo.mp q
theorem IE {CX:CXT} {P:B3} {w:Ch} {K:sH} {mg:Str->Option qb} {base:FS} {N ps:List Str} {qual:Str} {scope:Sr} {f:qh} {cd:qb} {A:Je} {outer:List Env} {s s1:tt} {H:Hp} {E:XK} {us:List qb} {vs:List V}
 (S:aY N ps scope) (hd:A.handled=pi) (J:vA P w K mg base A outer s H) (hl:vs.length=ps.length) (r:Vals vs us)
 (x:InCallC s s.heap.objs.size (bindL (envOfC qual scope s.heap.objs.size f cd).kindOf (ps.zip us) λ_=>pi) (cellsFrom (s.heap.objs.size+1) scope.names []) (bindC (envOfC qual scope s.heap.objs.size f cd).kindOf (ps.zip us) λ_=>pi) s1):
 Inv (uP CX P w K mg base N qual scope f cd A outer s H E) [] (start N vs) H s1:=by
 have ab:ps.length<=N.length:=by have:=congrArg S7 S.pre;rw[S3] at this;omega
 obtain⟨h1,tk,rfl,hk⟩:=x.done;have U:∀b:qh,b∉(uP CX P w K mg base N qual scope f cd A outer s H E).ex:=λb z=>absurd (show b∈([]:List qh) from z) (by simp);refine#[#[J.mod,S.kind,rfl,rfl,vr _,λy z c h1 h2=> ?_,λy hy=> ?_,λy c _ h=> ?_,λ_=>hd,Around.frames_deeper J.frames,.inr #[rfl,rfl],λb z=>absurd z (U b),J.bs,J.bsz,λb _ _=>U b,λb z=>absurd z (U b),J.funs,J.frf],
  rfl,J.bare,Un.kept hk,#[_,x.toInCall.ns,λi y v h1 h2 h3=> ?_],λy c h=>#[_,x.cell y c h],J.hok.fresh (vr _),λy c h=> ?_,λp hp=>absurd (show p∈([]:List (qh×Obj)) from hp) (by simp),J.hok.kept hk, ?_]
 exact name_of_addr x.apart (SF h1) (SF h2);have hy:scope.names.lookup y=pc .cell\/scope.names.lookup y=pc .free:=hy;rcases hy with hy | hy
 exact Ex hy;exact absurd rfl (S.nofree _ (SF hy));exact Sj (x.above y c (SF h));have hi:i<vs.length:=by unfold start at h2;by_cases hi:i<vs.length;exact hi;rw[wS (by simpa using hi)] at h2;rw[GX] at h2;split at h2 <;> cases h2
 have ha:vs[i]? =pc v:=by
  unfold start at h2;rw[wP (by simpa using hi),wv] at h2;cases e:vs[i]? with
  | none=>rw[e] at h2;cases h2
  | some a=>rw[e] at h2;cases h2;rfl
 obtain⟨u,hu,rv⟩:=r.get ha;have hp:ps[i]? =pc y:=by rw[<- S.pre,Up ⋯];exact h1
 have Y:ps.Nodup:=by rw[<- S.pre];exact S.nd.sublist (Ve _ _)
 refine#[u,rv, ?_];rcases S.par y (IR hp) with k | k
 exact .inl #[k,BF Y hp hu k];obtain⟨c,e⟩:=Ex (n:=s.heap.objs.size+1) k;refine .inr #[.inl k,c,e, ?_];have q:=x.cell y c e;rw[Cm Y hp hu (by show scope.names.lookup y≠_;rw[k];decide)] at q;exact q;exact J.hok.fresh (Sj (x.above y c (SF h)));unfold start;show _=N.length;rw[xL,sB,SX];omega
theorem OX {CX:CXT} {P:B3} {w:Ch} {K:sH} {mg:Str->Option qb} {base:FS} {k:Nat} {f:qh} {name qual:Str} {Y:Arguments} {body:List S0} {scope:Sr} {dV kV am pm U ct oc:qb} {an od:Option qh}
 {a1:Array (Option qb)} {N ps:List Str} {sp:Sp} (lk:K.lookup f=pc #[oc,od,.func (Ix name qual Y body scope dV kV am pm an U ct),a1]) (a2:Ry K U qual=qc) (S:aY N ps scope)
 (ap:∀vs H Q E,sp vs H Q E->vs.length=ps.length)
 (ac:∀(A:Je) (outer:List Env) (s:tt) (H:Hp) (vs:List V) (Q:VK) (E:XK),fk k (A.deeper (envOfC qual scope s.heap.objs.size f U))->sp vs H Q E->
  ∃t,PSs (uP CX P w K mg base N qual scope f U A outer s H E) body t/\t {nx:=λ_ H'=>Q .non H',rt:=Q} (start N vs) H):
 kI P w K mg base CX (k+1) f (Ix name qual Y body scope dV kV am pm an U ct) ps sp:=by
 refine#[ap,λA outer s H args us vs Q E hr e0 hb r az=> ?_];have hl:=ap _ _ _ _ az;have KX:K.In s.heap:=e0.mod.kin.keeps λb o e=>(e0.bs b o e).1;have a3:s.heap.NoLimit:=e0.mod.nolimit.keeps λb o e=>(e0.bs b o e).1;have al:∀y∈ps.zip us,scope.names.lookup y.1=pc .local\/(scope.names.lookup y.1=pc .cell/\((cellsFrom (s.heap.objs.size+1) scope.names []).lookup y.1).isSome=qc):=λ#[n,v] hy=>by rcases S.par n (Re hy).1 with q | q;exact .inl q;exact .inr #[q,SR _ _ _ (.inl q)]
 refine codeAny_call_function hr.depth (KX _ _ lk) rfl S.co S.gen rfl (PySem.W.codeRec_of KX a2) (hb _ _ _ _ ?_);refine wpAny_newFunctionEnv_cells S.kind al λenv he s1 x=> ?_;subst he;refine#[a3.keeps x.toInCall.keep,codeAny_func ?_];obtain⟨t,ht,hq⟩:=ac A outer s H vs Q E (hr.deeper _) az;have I:Inv (uP CX P w K mg base N qual scope f U A outer s H E) [] (start N vs) H s1:=IE S hr.hd e0 hl r x;refine Sg (ht [] s1 (start N vs) H _ I hq) (λfl s' hs=> ?_) λe s' hs=>hs;have a0:∀{ab:St} {H':Hp} {v:V} {u:qb},Inv (uP CX P w K mg base N qual scope f U A outer s H E) [] ab H' s'->RelV v u->Q v H'->CE outer P w H s Q u s':=
  λ{ab H' v u} J rv q=>#[v,H',J.os,J.bare,J.base,J.hok,rv,q]
 cases fl with
 | ret u=>
  obtain⟨v,ab,H',J,rv,q⟩:=hs;exact a0 J rv q
 | next=>
  obtain⟨ab,H',J,q⟩:=hs;exact a0 (v:=V.non) (u:=Value.none) J rfl q
 | brk=>
  obtain⟨_,_,_,q⟩:=hs;exact sn q
 | cont=>
  obtain⟨_,_,_,q⟩:=hs;exact sn q
section
variable {X : Cx} {x : Str} {p pos : Pos} {e : Db} {es : List Db} {t : TA} {id T : String} {r : List V → Hp → VK → Prop}
def tCB(r:List V->Hp->VK->Prop)(t:TA):TE:=λσ H Q=>t σ H λvs H1=>r vs H1 Q
theorem bK (hc:mY X (.builtin id) r) (Y:Gl X x) (hm:X.mg x=pi) (hv:bootBuiltins x=pc (.builtin id)) (ha:PA X (e::es) t) (hn:x≠"__name__" :=by decide) (J:(x == ("__debug__" :Str))=false:=by decide)
 (he:starEach (e::es) X.env=(wh,eval e X.env)::starEach es X.env:=by rfl) (U:(backTo pos (starEach es X.env)).any (·.1)=false:=by rfl):PE X (.Call (.Name x p) (e::es) [] pos) (tCB r t):=by
 intro pins s σ H Q I h;refine Te (pP I Y hm hv ?_ hn J);exact PyProof.Rows.callWith_builtin1 (thn (ha pos pins s σ H _ I h) λus s1 #[vs,H1,I1,r1,q1]=>hc pins s1 σ H1 vs us Q I1 r1 q1) he U
theorem mf (hc:mY X (.type T) r) (Y:Gl X x) (hm:X.mg x=pi) (hv:bootBuiltins x=pc (.type T)) (ha:PA X (e::es) t) (hn:x≠"__name__" :=by decide) (J:(x == ("__debug__" :Str))=false:=by decide)
 (he:starEach (e::es) X.env=(wh,eval e X.env)::starEach es X.env:=by rfl) (U:(backTo pos (starEach es X.env)).any (·.1)=false:=by rfl):PE X (.Call (.Name x p) (e::es) [] pos) (tCB r t):=by
 intro pins s σ H Q I h;refine Te (pP I Y hm hv ?_ hn J);exact RT (thn (ha pos pins s σ H _ I h) λus s1 #[vs,H1,I1,r1,q1]=>hc pins s1 σ H1 vs us Q I1 r1 q1) he U
end
end L2
namespace HT
open PySem PyProof.Rows
def lexLt:List Int->List Int->Bool
 | [],[]=>wh
 | [],_::_=>qc
 | _::_,[]=>wh
 | x::xs,y::ys=>if x=y then lexLt xs ys else decide (x<y)
theorem o4(x y:Int)(xs ys:List Int):lexLt (x::xs) (y::ys)=if x=y then lexLt xs ys else decide (x<y):=rfl
theorem Lf(A:Je)(s:tt)(a:Int)(t:Tok)(c:Int)(u:Tok):∃e,SeqAt.EqAt A s (.int a t) (.int c u) e/\(e=qc↔a=c):=
 #[(a == c),SeqAt.EqAt.int_int a t c u,by simp]
theorem Li(A:Je)(s:tt)(a:Int)(t:Tok)(c:Int)(u:Tok)(prog:B3)(w:Ch)(E:qb->tt->Prop)(Q:qb->tt->Prop)(h:Q (.bool (decide (a<c))) s):
 wpAny (model prog w) A (richCompare .Lt (.int a t) (.int c u)) Q E s:=
 (VM h:wpAny (model prog w) A (compareOp .Lt (.int a t) (.int c u)) Q E s)
section
open PySem.SeqAt
open PySem.AutoSeq1 (wpAny_loadPart')
open PySem.MeetsSeq PySem.MeetsSeq2 PySem.MeetsSeq3
end
section
variable {prog : B3} {w : Ch} {A : Je} {E : qb → tt → Prop} {s : tt}
def sIx(n d:Nat):Option Int->Nat
 | none=>d
 | some v=>if v<0 then (v+(n:Int)).toNat else min v.toNat n
theorem tx(n d:Nat):sIx n d pi=d:=rfl
theorem pB(n d k:Nat):sIx n d (pc (k:Int))=min k n:=by show (if (k:Int)<0 then ((k:Int)+(n:Int)).toNat else min (k:Int).toNat n)=min k n;rw[if_neg ⋯,Vi]
end
end HT
namespace L2
open PySem PySem.Spec PyProof.Rows
variable {n : Nat} {pins : List (qh × Obj)} {σ : St} {H : Hp} {s : tt} {xs : List V} {x : V}
abbrev TO:=St->Hp->(Option Int->Hp->Prop)->Prop
def PO(X:Cx)(e:Option Db)(t:TO):Prop:=
 ∀(pins:List (qh×Obj)) (s:tt) (σ:St) (H:Hp) (Q:Option Int->Hp->Prop),Inv X pins σ H s->t σ H Q->
  wpAny (model X.prog X.w) X.A (evalPart e X.env) (λu s'=>∃o H',Inv X pins σ H' s'/\IsPart u o/\Q o H') X.xe s
def F0:TO:=λ_ H Q=>Q pi H
def LO(t:TE):TO:=λσ H Q=>t σ H λx H1=>∃i,x=.int i/\Q (pc i) H1
section
variable {X : Cx} {e : Db} {te : TE} {lo hi : Option Db} {tl th : TO} {pos p2 : Pos}
theorem jA:PO X pi F0:=by intro pins s σ H Q I h;rw[evalPart_none];exact No #[pi,H,I,.none,h]
theorem hU(h:PE X e te):PO X (pc e) (LO te):=by intro pins s σ H Q I J;rw[evalPart_some];refine thn (h pins s σ H _ I J) λu s1 #[x,H1,I1,r1,q1]=> ?_;obtain⟨i,rfl,q⟩:=q1;obtain⟨t,rfl⟩:=r1;exact#[pc i,H1,I1,.int i t,q]
def SlR(X:Cx)(r:V->Option Int->Option Int->Hp->VK->Prop):Prop:=
 ∀(pins:List (qh×Obj)) (s:tt) (σ:St) (H:Hp) (x:V) (v J U:qb) (lo hi:Option Int) (sl:qh) (Q:VK),Inv X pins σ H s->RelV x v->s.heap.IsSliceOf sl J U .none->IsPart J lo->IsPart U hi->r x lo hi H Q->
  ∃T id,typeLookup (.type T) "__getitem__" =pure (pc (.builtin id))/\s.TypeIs v T/\wpAny (model X.prog X.w) X.A (getItem v (.ref sl)) (EP X pins σ Q) X.xe s
def tSl(r:V->Option Int->Option Int->Hp->VK->Prop)(te:TE)(tl th:TO):TE:=λσ H Q=>te σ H λx H1=>tl σ H1 λl H2=>th σ H2 λu J=>r x l u J Q
theorem gS{r:V->Option Int->Option Int->Hp->VK->Prop}(hr:SlR X r)(J:PE X e te)(U:PO X lo tl)(hu:PO X hi th):PE X (.Subscript e (.Slice lo hi pi p2) pos) (tSl r te tl th):=by intro pins s σ H Q I h;refine Subscript_ (thn (J pins s σ H _ I h) λv s1 #[x,H1,I1,r1,q1]=> ?_);refine wpAny_Slice (thn (U pins s1 σ H1 _ I1 q1) λvl s2 #[l,H2,I2,pl,q2]=>thn (hu pins s2 σ H2 _ I2 q2) λvu s3 #[u,H3,I3,pu,q3]=> ?_);rw[evalPart_none];refine No ?_;have Y:Inv X pins σ H3 {s3 with heap:=s3.heap.push {cls:=.type "slice",data:=.fields #v[vl,vu,.none]}}:=I3.kept (t':=s3.toks) λb ob q=>Heap.get?_push_of_some _ q;obtain⟨T,id,hT,ht,hg⟩:=hr pins {s3 with heap:=s3.heap.push {cls:=.type "slice",data:=.fields #v[vl,vu,.none]}} σ H3 x v vl vu l u s3.heap.objs.size Q Y r1 (Heap.IsSliceOf.new ..) pl pu q3;show wpAny (model X.prog X.w) X.A (subscriptTail e (.Slice lo hi pi p2) v (.ref s3.heap.objs.size)) (EP X pins σ Q) X.xe {s3 with heap:=s3.heap.push {cls:=.type "slice",data:=.fields #v[vl,vu,.none]}};exact tail_any (ops:=[.ref s3.heap.objs.size,v]) ht hT hg (by with_unfolding_all rfl)
def A8(xs:List V)(lo hi:Option Int):List V:=(xs.drop (HT.sIx xs.length 0 lo)).take (HT.sIx xs.length xs.length hi-HT.sIx xs.length 0 lo)
theorem Fp(xs:List V)(lo hi:Option Int):(A8 xs lo hi).length<=xs.length:=by unfold A8;rw[S3,S4];omega
end
def ixN(n:Nat)(i:Int):Option Nat:=if 0<=i then (if i<n then pc i.toNat else pi) else if -(n:Int)<=i then pc (i+n).toNat else pi
def atI{α:Type}(xs:List α)(i:Int):Option α:=(ixN xs.length i).bind λj=>xs[j]?
theorem FY{i:Int}{j:Nat}(h:ixN n i=pc j):seqIndex? i n=pc j/\j<n/\ -(n:Int)<=i/\i<n:=by unfold ixN at h;by_cases h0:0<=i;rw[if_pos h0] at h;by_cases h1:i<n;rw[if_pos h1] at h;have e:i.toNat=j:=RS h;exact#[by rw[Vm h0 h1,e],⋯,⋯,h1];rw[if_neg h1] at h;cases h;rw[if_neg h0] at h;by_cases h1: -(n:Int)<=i;rw[if_pos h1] at h;have e:(i+n).toNat=j:=RS h;exact#[by rw[Vc ⋯ h1,e],⋯,h1,⋯];rw[if_neg h1] at h;cases h
theorem Az{α:Type}{xs:List α}{i:Int}{v:α}(h:atI xs i=pc v):∃j,seqIndex? i xs.length=pc j/\xs[j]? =pc v/\j<xs.length/\ -(xs.length:Int)<=i/\i<xs.length:=by
 unfold atI at h;cases e:ixN xs.length i with
 | none=>rw[e] at h;cases h
 | some j=>
  rw[e] at h;obtain⟨h1,h2,J,U⟩:=FY e;exact#[j,h1,h,h2,J,U]
def Ni(b:Db):Prop:=∀o i,subscripted b wh o i=operate [o,i] (getItem o i)
def IxR(X:Cx)(r:R2):Prop:=
 ∀(value J:Db) (pins:List (qh×Obj)) (s:tt) (σ:St) (H:Hp) (x y:V) (v u:qb) (Q:VK),Inv X pins σ H s->RelV x v->RelV y u->r x y H Q->
  subscripted J wh v u=operate [v,u] (getItem v u)->wpAny (model X.prog X.w) X.A (subscriptTail value J v u) (EP X pins σ Q) X.xe s
def MtR(X:Cx)(id:String)(r:V->List V->Hp->VK->Prop):Prop:=
 ∀(pins:List (qh×Obj)) (s:tt) (σ:St) (H:Hp) (x:V) (xs:List V) (v:qb) (us:List qb) (Q:VK),Inv X pins σ H s->RelV x v->Vals xs us->r x xs H Q->
  wpAny (model X.prog X.w) X.A (call (.builtin id) (v::us)) (EP X pins σ Q) X.xe s
section
variable {X : Cx} {a b : Db} {ta tb : TE} {pos : Pos}
theorem IxR.or{r U:R2}(h:IxR X r)(h':IxR X U):IxR X (λx y H Q=>r x y H Q\/U x y H Q):=by
 intro value J pins s σ H x y v u Q I Y ry q hs;rcases q with q | q
 exact h value J pins s σ H x y v u Q I Y ry q hs;exact h' value J pins s σ H x y v u Q I Y ry q hs
theorem a9{r:R2}(hr:IxR X r)(ha:PE X a ta)(hb:PE X b tb)(hs:Ni b):PE X (.Subscript a b pos) (tOp r ta tb):=by intro pins s σ H Q I h;exact Subscript_ (K5 ha hb I h λv u s2 x y H2 J U Y q=>hr a b pins s2 σ H2 x y v u Q J U Y q (hs _ _))
def NK(K:sH):R2:=λx y H Q=>∃p xs i v,x=.ref p/\y=.int i/\SqL K H p xs/\atI xs i=pc v/\Q v H
def OF(K:sH):R2:=λx y H Q=>∃p xs i v,x=.ref p/\y=.int i/\SqT K H p xs/\atI xs i=pc v/\Q v H
def OO:R2:=λx y H Q=>∃z i c,x=.str z/\y=.int i/\z.length<=sizeLine/\atI z.cps.toList i=pc c/\Q (.str #[#v[c]]) H
theorem Mr:IxR X (NK X.K):=by
 intro value U pins s σ H x y v u Q I rx ry h hs;obtain⟨p,xs,i,z,rfl,rfl,hq,he,q⟩:=h;cases rx;obtain⟨t,rfl⟩:=ry;obtain⟨Y,r,pl,hz⟩:=I.list hq;obtain⟨j,h1,h2,h3,h4,h5⟩:=Az he;obtain⟨w,ew,ab⟩:=r.get h2;have hl:=r.length;have hn:=qo;have J:EP X pins σ Q w s:=#[z,H,I,ab,q];by_cases h0:0<=i;have hj:i.toNat=j:=by rw[Vm h0 h5] at h1;exact RS h1
 exact item_listR pl.isList h0 ⋯ (by rw[hj];simpa using ew) J hs;have hj:(i+(Y.toArray.size:Int)).toNat=j:=by rw[Vc ⋯ h4] at h1;rw[xJ,<- hl];exact RS h1
 exact UL (x:=w) pl.isList.typeIs slot_list_getitem.lookup
  (wpAny_getItem_list_neg (Q:=λr s'=>r=w/\EP X pins σ Q r s') pl.isList ⋯ (by rw[xJ] <;> omega) ⋯ (by rw[hj];simpa using ew) #[rfl,J]) hs
theorem NM:IxR X (OF X.K):=by
 intro value J pins s σ H x y v u Q I rx ry h hs;obtain⟨p,xs,i,z,rfl,rfl,hq,he,q⟩:=h;cases rx;obtain⟨t,rfl⟩:=ry;obtain⟨am,r,pl,hz⟩:=I.tuple hq;obtain⟨j,h1,h2,h3,h4,h5⟩:=Az he;obtain⟨w,ew,U⟩:=r.get h2;have hl:=r.length;have hn:=qo;have Y:EP X pins σ Q w s:=#[z,H,I,U,q];exact UL (x:=w) pl.typeIs slot_tuple_getitem.lookup
  (getItem_tuple (j:=j) (Q:=λr s'=>r=w/\EP X pins σ Q r s') pl ⋯ ⋯ (by rw[xJ,<- hl];exact h1) (by simpa using ew) #[rfl,Y]) hs
theorem Oc:IxR X OO:=by
 intro value J pins s σ H x y v u Q I U Y h hs;obtain⟨z,i,c,rfl,rfl,hz,he,q⟩:=h;obtain⟨t,rfl⟩:=U;obtain⟨t',rfl⟩:=Y;obtain⟨j,h1,h2,h3,h4,h5⟩:=Az he;have hl:z.cps.toList.length=z.length:=by simp[Str.length]
 rw[hl] at h1 h4 h5;have hn:=qo;exact tail_any (Vz s z t) slot_str_getitem.lookup (getItem_str (c:=c) (by have e1:decide (i < -(2^63:Int))=false:=decide_eq_false ⋯;have e2:decide (i ≥ 2^63)=false:=decide_eq_false ⋯;rw[e1,e2,T9]) (by rw[h1];simpa using h2) #[.str #[#v[c]],H,I.tok _,#[_,rfl],q]) hs
def rIx(K:sH):R2:=λx y H Q=>NK K x y H Q\/OF K x y H Q\/OO x y H Q
theorem aS:IxR X (rIx X.K):=Mr.or (NM.or Oc)
theorem Hk(J:List qb)(n j:Nat)(u:qb):Obj.mapSeq (·.setIfInBounds j u) {cls:=.type "list",data:=.seq J.toArray n}={cls:=.type "list",data:=.seq (J.set j u).toArray n}:=by simp[Obj.mapSeq]
theorem Inv.lst{p:qh}(I:Inv X pins σ H s)(h:H p=pc (.lst xs)):
 ∃(J:List qb) (n:Nat),Vals xs J/\s.heap.get? p=pc {cls:=.type "list",data:=.seq J.toArray n}/\xs.length<=sizeLine:=by
 obtain⟨z,J,n,r,e⟩:=I.hok p _ h;exact#[J,n,r,e,z]
theorem Inv.lstUpd {p:qh} {xs ys:List V} {J its':List qb} {n U:Nat} {f:Obj->Obj} (I:Inv X pins σ H s) (h:H p=pc (.lst xs))
 (ho:s.heap.get? p=pc {cls:=.type "list",data:=.seq J.toArray n}) (Y:f {cls:=.type "list",data:=.seq J.toArray n}={cls:=.type "list",data:=.seq its'.toArray U}) (r:Vals ys its') (hz:ys.length<=sizeLine) (t:Nat):
 Inv X pins σ (upd H p (.lst ys)) {s with heap:=s.heap.update p f,toks:=t}:=by
 have e:(s.heap.update p f).get? p=pc {cls:=.type "list",data:=.seq its'.toArray U}:=by rw[Heap.get?_update_self f ho (by rw[Y] <;> rfl),Y]
 refine I.write (x:=p) (e:=p) (by rw[h];trivial) (.inl rfl) (λb u hb q=>(Heap.get?_update_other _ _ (S1 hb)).trans q) #[_,e] ?_;exact#[hz,its',U,r,e]
def Mc:V->V->V->Hp->(Hp->Prop)->Prop:=λo i v H Q=>∃p xs k j,o=.ref p/\i=.int k/\H p=pc (.lst xs)/\ixN xs.length k=pc j/\Q (upd H p (.lst (xs.set j v)))
theorem set_list:NU X Mc:=by
 intro pins s σ H o i v ov iv u Q I ro ri rv h;obtain⟨p,xs,k,j,rfl,rfl,hp,hj,q⟩:=h;cases ro;obtain⟨t,rfl⟩:=ri;obtain⟨J,n,r,U,hz⟩:=I.lst hp;obtain⟨h1,h2,h3,h4⟩:=FY hj;have Y:=r.length;have hn:=qo;have I':Inv X pins σ (upd H p (.lst (xs.set j v))) {s with heap:=s.heap.update p (Obj.mapSeq (·.setIfInBounds j u))}:=
  I.lstUpd hp U (Hk J n j u) (r.set rv j) (by rw[List.length_set];exact hz) s.toks
 by_cases h0:0<=k;have hk:k.toNat=j:=by rw[Vm h0 h4] at h1;exact RS h1
 exact PySem.W.ki_setAt U h0 ⋯ (by rw[xJ,<- Y];exact h4) (by rw[hk];exact#[_,I',q]);have hk:(k+(J.toArray.size:Int)).toNat=j:=by rw[Vc ⋯ h3] at h1;rw[xJ,<- Y];exact RS h1
 exact PySem.W.ki_setBack U ⋯ (by rw[xJ,<- Y];exact h3) ⋯ (by rw[hk];exact#[_,I',q])
theorem Ek(lo hi:Option Int)(n:Nat):(sliceBounds lo hi pi n).1=((HT.sIx n 0 lo:Nat):Int)/\(sliceBounds lo hi pi n).2.1=((HT.sIx n n hi:Nat):Int)/\(sliceBounds lo hi pi n).2.2=1:=by
 refine#[?_, ?_,rfl];cases lo with
 | none=>simp[sliceBounds,HT.sIx]
 | some i=>
  simp only[sliceBounds,HT.sIx,Vp,show (1:Int)>0 by decide,if_true];by_cases h:i<0;simp only[h,if_true] <;> omega;simp only[h,if_false] <;> omega
 cases hi with
 | none=>simp[sliceBounds,HT.sIx]
 | some i=>
  simp only[sliceBounds,HT.sIx,Vp,show (1:Int)>0 by decide,if_true];by_cases h:i<0;simp only[h,if_true] <;> omega;simp only[h,if_false] <;> omega
theorem Cu{J:List qb}{lo hi:Option Int}:slicePick J.toArray lo hi pi=((J.drop (HT.sIx J.length 0 lo)).take (HT.sIx J.length J.length hi-HT.sIx J.length 0 lo)).toArray:=by obtain⟨h1,h2,U⟩:=Ek lo hi J.toArray.size;unfold slicePick;rw[h1,h2,U];simp only[sliceRange_one,pick_run,xJ] <;> rfl
def Ky(K:sH):V->Option Int->Option Int->Hp->VK->Prop:=λx lo hi H Q=>∃a xs,x=.ref a/\SqL K H a xs/\∀p,H p=pi->Q (.ref p) (upd H p (.lst (A8 xs lo hi)))
theorem lZ:SlR X (Ky X.K):=by intro pins s σ H x v vl vu lo hi sl Q I Y hs pl pu h;obtain⟨a,xs,rfl,hx,q⟩:=h;cases Y;obtain⟨ac,r,U,hz⟩:=I.list hx;have J:=r.length;refine#["list",_,slot_list_getitem.lookup,U.isList.typeIs, ?_];refine wpAny_getItem_list_slice U.isList hs pl pu .none (by simp) ?_ (by rw[xJ] <;> omega);rw[Cu,<- J];refine#[.ref s.heap.objs.size,_,I.laid (t':=s.toks) (o:=.lst (A8 xs lo hi)) (λb ob q=>Heap.get?_push_of_some _ q) (vr _) ?_,rfl,q _ (I.hok.fresh (vr _))];exact#[IN (Fp xs lo hi) hz,_,0,(r.drop (HT.sIx xs.length 0 lo)).take (HT.sIx xs.length xs.length hi-HT.sIx xs.length 0 lo),Heap.get?_push_size _ rfl]
def nY:V->Bool
 | .non=>qc
 | .bl _=>qc
 | .int _=>qc
 | .str _=>qc
 | _=>wh
def eqV:V->V->Bool
 | .non,.non=>qc
 | .bl a,.bl b=>a == b
 | .bl a,.int b=>(if a then 1 else 0) == b
 | .int a,.bl b=>a == (if b then 1 else 0)
 | .int a,.int b=>a == b
 | .str a,.str b=>a == b
 | _,_=>wh
theorem NZ{A:Je}{y x:V}{u v:qb}(U:RelV y u)(J:RelV x v)(fy:nY y=qc)(Y:nY x=qc):SeqAt.EqAt A s u v (eqV y x):=by
 cases y with
 | non=>
  cases U;cases x with
  | non=>cases J;exact SeqAt.EqAt.same _
  | bl b=>cases J;exact SeqAt.EqAt.none_bool b
  | int b=>obtain⟨t,rfl⟩:=J;exact SeqAt.EqAt.none_int b t
  | str b=>obtain⟨t,rfl⟩:=J;exact SeqAt.EqAt.none_str b t
  | _=>exact absurd (show wh=qc from Y) At
 | bl a=>
  cases U;cases x with
  | non=>cases J;exact SeqAt.EqAt.bool_none a
  | bl b=>cases J;exact SeqAt.EqAt.bool_bool a b
  | int b=>obtain⟨t,rfl⟩:=J;exact SeqAt.EqAt.bool_int a b t
  | str b=>obtain⟨t,rfl⟩:=J;exact SeqAt.EqAt.bool_str a b t
  | _=>exact absurd (show wh=qc from Y) At
 | int a=>
  obtain⟨t',rfl⟩:=U;cases x with
  | non=>cases J;exact SeqAt.EqAt.int_none a t'
  | bl b=>cases J;exact SeqAt.EqAt.int_bool a t' b
  | int b=>obtain⟨t,rfl⟩:=J;exact SeqAt.EqAt.int_int a t' b t
  | str b=>obtain⟨t,rfl⟩:=J;exact SeqAt.EqAt.int_str a t' b t
  | _=>exact absurd (show wh=qc from Y) At
 | str a=>
  obtain⟨t',rfl⟩:=U;cases x with
  | non=>cases J;exact SeqAt.EqAt.str_none a t'
  | bl b=>cases J;exact SeqAt.EqAt.str_bool a t' b
  | int b=>obtain⟨t,rfl⟩:=J;exact SeqAt.EqAt.str_int a t' b t
  | str b=>obtain⟨t,rfl⟩:=J;exact SeqAt.EqAt.str_str a t' b t
  | _=>exact absurd (show wh=qc from Y) At
 | _=>exact absurd (show wh=qc from fy) At
def eqU(x:V)(u:qb):Bool:=match u with
 | .none=>eqV .non x
 | .bool b=>eqV (.bl b) x
 | .int i _=>eqV (.int i) x
 | .str z _=>eqV (.str z) x
 | _=>wh
theorem I0{x y:V}{u:qb}(r:RelV y u)(f:nY y=qc):eqU x u=eqV y x:=by
 cases y with
 | non=>cases r;rfl
 | bl b=>cases r;rfl
 | int i=>obtain⟨t,rfl⟩:=r;rfl
 | str z=>obtain⟨t,rfl⟩:=r;rfl
 | _=>exact absurd (show wh=qc from f) At
theorem sj{x:V}:∀{xs:List V} {us:List qb},Vals xs us->xs.all nY=qc->us.any (eqU x)=xs.any λy=>eqV y x
 | _,_,.nil,_=>rfl
 | y::xs,u::us,.cons r t,f=>by rw[Tr,RJ] at f;rw[Ub,Ub,I0 r f.1,sj t f.2]
theorem pO{A:Je}{s:tt}{x:V}{v:qb}(J:RelV x v)(U:nY x=qc):∀{xs:List V} {us:List qb},Vals xs us->xs.all nY=qc->∀u∈us,SeqAt.EqAt A s u v (eqU x u)
 | _,_,.nil,_=>λu hu=>by cases hu
 | y::xs,u::us,.cons r t,f=>λY hu=>by
  rw[Tr,RJ] at f;rcases u8.mp hu with rfl | hu
  rw[I0 r f.1];exact NZ r J f.1 U;exact pO J U t f.2 Y hu
def inV(x:V)(xs:List V):Bool:=xs.any λy=>eqV y x
def rIn(K:sH)(neg:Bool):R2:=λx y H Q=>∃p xs,y=.ref p/\(SqL K H p xs\/SqT K H p xs)/\nY x=qc/\xs.all nY=qc/\Q (.bl (if neg then !inV x xs else inV x xs)) H
theorem BA:OpR X (compareOp .In) (rIn X.K wh):=by
 intro pins s σ H x y v u Q I Y ry h;obtain⟨p,xs,rfl,hq,fx,fs,q⟩:=h;cases ry;rcases hq with hq | hq
 obtain⟨J,r,pl,hz⟩:=I.list hq;refine SeqAt.in_listAt (eqU x) pl.isList (λw U=>pO Y fx r fs w (by simpa using U)) #[.bl _,H,I,rfl, ?_];rw[show J.toArray.any (eqU x)=J.any (eqU x) by simp,sj r fs];exact q;obtain⟨J,r,pl,hz⟩:=I.tuple hq;refine SeqAt.in_tupleAt (eqU x) pl (λw U=>pO Y fx r fs w (by simpa using U)) #[.bl _,H,I,rfl, ?_];rw[show J.toArray.any (eqU x)=J.any (eqU x) by simp,sj r fs];exact q
theorem p7:OpR X (compareOp .NotIn) (rIn X.K qc):=by
 intro pins s σ H x y v u Q I Y ry h;obtain⟨p,xs,rfl,hq,fx,fs,q⟩:=h;cases ry;rcases hq with hq | hq
 obtain⟨J,r,pl,hz⟩:=I.list hq;refine SeqAt.notIn_listAt (eqU x) pl.isList (λw U=>pO Y fx r fs w (by simpa using U)) #[.bl _,H,I,rfl, ?_];rw[show J.toArray.any (eqU x)=J.any (eqU x) by simp,sj r fs];exact q;obtain⟨J,r,pl,hz⟩:=I.tuple hq;refine SeqAt.notIn_tupleAt (eqU x) pl (λw U=>pO Y fx r fs w (by simpa using U)) #[.bl _,H,I,rfl, ?_];rw[show J.toArray.any (eqU x)=J.any (eqU x) by simp,sj r fs];exact q
theorem iX:mY X (.type "list") (λxs H Q=>∃p ys,xs=[.ref p]/\(SqL X.K H p ys\/SqT X.K H p ys)/\∀l,H l=pi->Q (.ref l) (upd H l (.lst ys))):=by
 intro pins s σ H xs us Q I r h;obtain⟨p,ys,rfl,hq,q⟩:=h;obtain⟨u,rfl,rx⟩:=vals1 r;cases rx;have ab:∀(J:List qb),Vals ys J->ys.length<=sizeLine->∀(h':FS) (U:Nat),(∀b o',s.heap.get? b=pc o'->h'.get? b=pc o')->
  h'.get? s.heap.objs.size=pc {cls:=.type "list",dict:=pi,data:=.seq J.toArray U,slots:= #v[]}->EP X pins σ Q (.ref s.heap.objs.size) {s with heap:=h'}:=λJ Y hz h' U kp e=>
  #[.ref s.heap.objs.size,_,I.laid (t':=s.toks) kp (vr _) (show iN X.prog X.w _ h' _ (.lst ys) from #[hz,J,U,Y,e]),rfl,q _ (I.hok.fresh (vr _))]
 rcases hq with hq | hq;obtain⟨J,Y,pl,hz⟩:=I.list hq;have ac:=Y.length;obtain⟨o,ho,hc,n,hd⟩:=pl.isList;exact call_list_seq p (.inl rfl) ho hc hd (λh' U kp e=>ab J Y hz h' U kp e) (by simp only[xJ] <;> omega);obtain⟨J,Y,pl,hz⟩:=I.tuple hq;have ac:=Y.length;obtain⟨o,ho,hc,n,hd⟩:=pl;exact call_list_seq p (.inr rfl) ho hc hd (λh' U kp e=>ab J Y hz h' U kp e) (by simp only[xJ] <;> omega)
def tyV(K:sH)(T:String)(x:V)(H:Hp):Prop:=match x with
 | .str _=>T="str"
 | .int _=>T="int"
 | .ref p=>(T="list" /\∃xs,SqL K H p xs)\/(T="tuple" /\∃o,K.lookup p=pc o/\o.cls=.type "tuple" /\o.dict=pi)\/
  (T="dict" /\((∃J,H p=pc (.dK J))\/∃J,H p=pc (.dT J)))\/(T="set" /\∃S n,H p=pc (.set S n))
 | _=>False
theorem NV{T:String}{v:qb}(I:Inv X pins σ H s)(r:RelV x v)(ty:tyV X.K T x H):
 s.TypeIs v T/\∀a,v=.ref a->∃U,s.heap.get? a=pc U/\U.dict=none:=by
 cases x with
 | str z=>
  obtain⟨t,rfl⟩:=r;cases (show T="str" from ty);exact#[Vz s z t,λ_ e=>nomatch e]
 | int i=>
  obtain⟨t,rfl⟩:=r;cases (show T="int" from ty);exact#[VB s i t,λ_ e=>nomatch e]
 | ref p=>
  cases r;rcases ty with⟨rfl,xs,hq⟩ | ⟨rfl,o,hk,hc,hd⟩ | ⟨rfl,hk⟩ | ⟨rfl,S,n,hk⟩
  obtain⟨Y,_,pl,_⟩:=I.list hq;refine#[pl.isList.typeIs,λa e=> ?_];cases e;obtain⟨o,n,e,c,hd,_⟩:=pl;exact#[o,e,hd];refine#[#[o,I.kIn p o hk,hc],λa e=> ?_];cases e;exact#[o,I.kIn _ o hk,hd];have z:∃o,s.heap.get? p=pc o/\o.ExactDict:=by rcases hk with⟨J,hk⟩ | ⟨J,hk⟩;obtain⟨_,_,_,_,o,_,_,e,ex,_⟩:=I.hok p _ hk;exact#[o,e,ex];obtain⟨_,_,_,_,o,_,_,e,ex,_⟩:=I.hok p _ hk;exact#[o,e,ex]
  obtain⟨o,e,ex⟩:=z;refine#[#[o,e,ex.1],λa e2=> ?_];cases e2;exact#[o,e,ex.2.1];obtain⟨o,_,_,_,e,ex,_⟩:=I.hok p _ hk;refine#[#[o,e,ex.1],λa e2=> ?_];cases e2;exact#[o,e,ex.2.1]
 | _=>exact sn ty
def tBM(K:sH)(T:String)(r:V->List V->Hp->VK->Prop)(to:TE)(t:TA):TE:=λσ H Q=>to σ H λx H1=>tyV K T x H1/\t σ H1 λxs H2=>r x xs H2 Q
variable {o e : Db} {es : List Db} {to : TE} {t : TA} {name : Str} {apos cpos : Pos} {T id : String} {r : V → List V → Hp → VK → Prop}
theorem lC (pa:PlainAttrs T) (slot:Slot T name id) (ac:typeOf (.builtin id)=pure (.type "method_descriptor")) (hm:MtR X id r) (ho:PE X o to) (ha:PA X (e::es) t)
 (U:attributeBase o name X.env (eval o X.env)=eval o X.env:=by rfl)
 (ab:((backTo cpos (starEach (e::es) X.env)).all (λx=> !x.1)&&(backToKw cpos (keywordEach [] X.env)).all (λx=>x.1.isSome)
  &&decide ((e::es).length+([]:List Keyword).length+(if ([]:List Keyword).isEmpty then 0 else 1)<30))=true:=by rfl)
 (Y:(apos.endLine == cpos.line)=true:=by rfl) (hs:starEach (e::es) X.env=(wh,eval e X.env)::starEach es X.env:=by rfl) (J:(backTo cpos (starEach es X.env)).any (·.1)=false:=by rfl):
 PE X (.Call (.Attribute o name apos) (e::es) [] cpos) (tBM X.K T r to t):=by
 intro pins s σ H Q I h;refine wpAny_Call_method_late U ab Y rfl (thn (ho pins s σ H _ I h) λv s1 #[x,H1,I1,r1,ty,q1]=> ?_);obtain⟨h1,h2⟩:=NV I1 r1 ty;refine#[T,id,pa,slot,ac,h1,h2, ?_];have hA:=ha cpos pins s1 σ H1 _ I1 q1;rw[hs] at hA ⊢;refine Calls.callWith_builtin (by show (wh||(backTo cpos (starEach es X.env)).any (·.1))=wh;rw[J] <;> rfl) (Calls.evalArgs_plain ?_);exact thn hA λus s2 #[vs,H2,I2,r2,q2]=>hm pins s2 σ H2 x vs v us Q I2 r1 r2 q2
end
def MtM(X:Cx)(id:String)(r:V->List V->Hp->VK->Prop):Prop:=
 ∀(pins:List (qh×Obj)) (s:tt) (σ:St) (H:Hp) (x:V) (xs:List V) (v:qb) (us:List qb) (Q:VK),Inv X pins σ H s->RelV x v->Vals xs us->r x xs H Q->
  wpAny (model X.prog X.w) X.A (call (.builtin id) (v::us)) (EP X pins σ Q) X.xe s
theorem Vals.one:∀{x:V} {us:List qb},Vals [x] us->∃u,us=[u]/\RelV x u
 | _,_,.cons r .nil=>#[_,rfl,r]
theorem Vals.dropLast{us:List qb}(h:Vals xs us):Vals xs.dropLast us.dropLast:=by
 induction h with
 | nil=>exact .nil
 | cons r t J=>
  cases t with
  | nil=>exact .nil
  | cons q t'=>exact .cons r J
theorem Vals.eraseIdx:∀{xs:List V} {us:List qb} (i:Nat),Vals xs us->Vals (xs.eraseIdx i) (us.eraseIdx i)
 | _,_,_,.nil=>.nil
 | _,_,0,.cons _ t=>t
 | _,_,i+1,.cons r t=>.cons r (Vals.eraseIdx i t)
theorem Vals.rep{xs:List V}{us:List qb}(h:Vals xs us):∀k:Nat,Vals (u0 k xs).flatten (u0 k us).flatten
 | 0=>.nil
 | k+1=>by rw[Rv,Rv,R7,R7];exact Vals.append h (Vals.rep h k)
theorem BX{α:Type}:∀(l:List α) (i:Nat),(l.eraseIdx i).length<=l.length
 | [],_=>vr _
 | _::_,0=>T5 _
 | _::r,i+1=>Nat.succ_le_succ (BX r i)
theorem foldl_rep(J:List qb):∀(k:Nat) (U:List qb),
 Vy (λY x2=>Y++x2) U.toArray (u0 k J.toArray)=(U++(u0 k J).flatten).toArray
 | 0,U=>by simp
 | k+1,U=>by
  have e:U.toArray++J.toArray=(U++J).toArray:=by simp
  have e2:(U++J)++(u0 k J).flatten=U++(u0 (k+1) J).flatten:=by rw[Rv,R7,R9]
  rw[<- e2,<- foldl_rep J k (U++J),<- e,Rv,RX]
section
variable {X : Cx} {pins : List (qh × Obj)} {σ : St} {H : Hp} {s : tt} {l b : qh} {xs ys zs : List V}
theorem Inv.lset {J its':List qb} {n:Nat} {f:Array qb->Array qb} {t':Nat} (I:Inv X pins σ H s) (U:H l=pc (.lst xs))
 (e:s.heap.get? l=pc {cls:=.type "list",data:=.seq J.toArray n}) (Y:f J.toArray=its'.toArray) (hv:Vals ys its') (hz:ys.length<=sizeLine):
 Inv X pins σ (upd H l (.lst ys)) {s with heap:=s.heap.update l (Obj.mapSeq f),toks:=t'}:=by
 have q:=PySem.IsL.update e f;rw[Y] at q;refine I.write (x:=l) (e:=l) (by rw[U];exact trivial) (.inl rfl) (λb' u hb hu=>(Heap.get?_update_other s.heap (Obj.mapSeq f) (S1 hb)).trans hu) #[_,q] ?_;exact#[hz,its',_,hv,q]
theorem Inv.lnew{J:List qb}{t':Nat}(I:Inv X pins σ H s)(U:Vals ys J)(hz:ys.length<=sizeLine):
 Inv X pins σ (upd H s.heap.objs.size (.lst ys)) {s with heap:=s.heap.push {cls:=.type "list",data:=.seq J.toArray},toks:=t'}:=
 I.laid (λ_ _ q=>Heap.get?_push_of_some _ q) (vr _) #[hz,J,0,U,Heap.get?_push_size _ rfl]
theorem Inv.fresh(I:Inv X pins σ H s):H s.heap.objs.size=none:=I.hok.fresh (vr _)
theorem Inv.lstM(I:Inv X pins σ H s)(U:H l=pc (.lst xs)):xs.length<=sizeLine/\∃(J:List qb) (n:Nat),Vals xs J/\xs.length=J.length/\s.heap.get? l=pc {cls:=.type "list",data:=.seq J.toArray n}:=by obtain⟨z,J,n,r,e⟩:=I.hok l _ U;exact#[z,J,n,r,r.length,e]
theorem JU(h:n<=sizeLine):Builtin.List.listTooLong n=false:=by unfold Builtin.List.listTooLong;exact decide_eq_false ⋯
end
section
variable {X : Cx}
def FG:V->List V->Hp->VK->Prop:=λx vs H Q=>∃l xs y,x=.ref l/\vs=[y]/\H l=pc (.lst xs)/\xs.length<sizeLine/\Q .non (upd H l (.lst (xs++[y])))
theorem fY:MtM X "list.append" FG:=by intro pins s σ H x vs v us Q I Y rv h;obtain⟨l,xs,y,rfl,rfl,U,hz,q⟩:=h;cases Y;obtain⟨u,rfl,ru⟩:=rv.one;obtain⟨z,J,n,r,hl,e⟩:=I.lstM U;refine TF F.slot_list_append #[_,e,rfl] F.entry_list_append (F.args_list_append_2 _ _) (PySem.list_append l J.toArray n u (by rw[xJ];omega)) #[e, ?_];refine#[.non,_,I.lset (its':=J++[u]) U e (by simp) (r.append (.cons ru .nil)) ?_,rfl,q];rw[xL,EQ];omega
def Ji:V->List V->Hp->VK->Prop:=λx vs H Q=>∃l xs i k y,x=.ref l/\vs=[.int i]/\H l=pc (.lst xs)/\ -(2^63)<=i/\i<2^63/\seqIndex? i xs.length=pc k/\xs[k]? =pc y/\Q y (upd H l (.lst (xs.eraseIdx k)))
theorem LD:MtM X "list.pop" Ji:=by
 intro pins s σ H x vs v us Q I rx rv h;obtain⟨l,xs,i,k,y,rfl,rfl,Y,h1,h2,hk,hy,q⟩:=h;cases rx;obtain⟨u,rfl,ru⟩:=rv.one;obtain⟨t,rfl⟩:=ru;obtain⟨z,J,n,r,hl,e⟩:=I.lstM Y;obtain⟨w,hw,U⟩:=r.get hy;refine TF F.slot_list_pop #[_,e,rfl] F.entry_list_pop (F.args_list_pop_2 _ _)
  (MeetsSeq.list_pop_at l J.toArray n i t k w (fitsIndex_both h1 h2) (by rw[xJ,<- hl];exact hk) (by rw[<- SW];exact hw) (by rw[xJ];omega)) #[e, ?_]
 refine#[y,_,I.lset (its':=J.eraseIdx k) Y e ?_ (r.eraseIdx k) ?_,U,q];show J.toArray.eraseIdxIfInBounds k=(J.eraseIdx k).toArray;rw[List.eraseIdxIfInBounds_toArray];have:=BX xs k;omega
def Ki:R2:=λx y H Q=>∃l k xs,x=.ref l/\y=.int k/\H l=pc (.lst xs)/\ -(2^63)<=k/\k<2^63/\xs.length*k.toNat<=sizeLine/\
 ∀p,H p=pi->Q (.ref p) (upd H p (.lst (u0 k.toNat xs).flatten))
theorem len_rep{α:Type}{xs:List α}{k:Nat}:(u0 k xs).flatten.length=k*xs.length:=by
 induction k with
 | zero=>simp
 | succ k J=>rw[Rv,R7,xL,J,Nat.succ_mul,Us]
theorem Eo:OpR X (binaryOp .Mult) Ki:=by
 intro pins s σ H x y v u Q I rx ry h;obtain⟨l,k,xs,rfl,rfl,hH,h1,h2,hz,q⟩:=h;cases rx;obtain⟨t,rfl⟩:=ry;obtain⟨z,J,n,r,hl,e⟩:=I.lstM hH;have Y:J.toArray.size*k.toNat<=sizeLine:=by rw[xJ,<- hl];exact hz
 have ab:¬J.toArray.size*k.toNat>(2^63-1)/8:=by have:(sizeLine:Nat)<=(2^63-1)/8:=∅;omega
 have ac:¬(!Builtin.List.listFitsIndex k)=true:=by rw[fitsIndex_both h1 h2];exact At
 have U:¬Builtin.List.listTooLong (J.toArray.size*k.toNat)=true:=by rw[JU Y];exact At
 have al:Vy (λx1 x2=>x1++x2) #v[] (u0 (if J.toArray.isEmpty=qc then 0 else k.toNat) J.toArray)=(u0 k.toNat J).flatten.toArray:=by
  have f0:∀m:Nat,Vy (λx1 x2=>x1++x2) #v[] (u0 m J.toArray)=(u0 m J).flatten.toArray:=λm=>by have:=foldl_rep J m [];rw[wT] at this;exact this
  rw[f0];cases J with
  | nil=>simp
  | cons a r'=>rw[if_neg (by simp)]
 refine wpAny_binaryOp_repeat_ref (T:="list") (U:="int") ∅ #[_,e,rfl] (λs'=>VB s' k t) noFill_list_mul F.fills_int_mul F.slot_int_rmul repeat_list F.slot_int_index.lookup
  (TF F.slot_int_rmul (VB s k t) F.entry_int_rmul (F.args_int_rmul_2 _ _) (int___rmul___int_list k t l J.toArray n)
   #[e,rfl,#[_,e,rfl],TF F.slot_list_mul #[_,e,rfl] F.entry_list_mul (F.args_list_mul_2 _ _) (AutoListH.list___mul___list_int_3 l J.toArray n k t ac ab U) #[e, ?_]])
 rw[al];exact#[.ref _,_,I.lnew (t':=s.toks) (r.rep k.toNat) (by rw[len_rep,TN];exact hz),rfl,q _ I.fresh]
end
section
variable {prog : B3} {w : Ch} {A : Je} {E : qb → tt → Prop} {s : tt}
end
section
variable {X : Cx}
end
end L2
namespace Att
open PySem PySem.W PySem.Calls PyProof.Rows
theorem zd{P:Params}{h:FS}:∀(ns:List Int) (vs:List qb),WellAll P h vs (ns.map WData.int)->Sn vs ns:=by
 intro ns;induction ns with
 | nil=>
  intro vs w;rw[RZ] at w;cases w;exact .nil
 | cons n ns J=>
  intro vs w;rw[ww] at w;cases w with
  | cons a b=>
   cases a;exact .cons _ _ (J _ b)
theorem IF {l:OpenLaw} {n:Nat} (hn:l.most=pc n) {P:Params} {h:FS} {args:List WData} {J:List qb}
 (U:l.row.toRowW.claim.pre args=qc) (am:WellAll P h J args):
 ∃a vs ns,J=[Value.ref a]/\args=[WData.list (ns.map WData.int)]/\h.get? a=pc {cls:=.type "list",data:=.seq vs.toArray}/\Sn vs ns/\ns.length<=n:=by
 have an:WShape.hasAll [] args [.list .int]=true:=(pre_splitW U).1;have hc:l.pre.holds [] {args:=args}=true:=(pre_splitW U).2;obtain⟨d,r,rfl,h1,h2⟩:=hasAllW_cons an;obtain rfl:=hasAllW_nil h2;obtain⟨xs,rfl,h3⟩:=hasW_list h1;obtain⟨ns,rfl⟩:=items_int h3;have Y:ns.length<=n:=by
  unfold OpenLaw.pre at hc;have h4:(WTm.not (.lt (.lit (.int (n:Int))) (.len (.arg 0)))).holds [] {args:=[.list (ns.map .int)]}=true:=by have h4:=(holds_andW hc).1;rw[hn] at h4;exact h4
  have h5:=condW_of h4 (w_not (w_lt w_lit (w_len_list (w_arg rfl))));rw[sB] at h5;refine Nat.le_of_not_lt λq=> ?_;have q':(n:Int)<((ns.length:Nat):Int):=⋯;first
   | (rw[decide_eq_true q'] at h5;exact absurd h5 ∅)
   | (simp at h5;omega)
 cases am with
 | cons w1 w2=>
  cases w2;cases w1 with
  | list ho ab=>exact#[_,_,ns,rfl,rfl,ho,zd ns _ ab,Y]
theorem Ir(l:OpenLaw){args:List WData}:l.row.toRowW.claim.post args (.bool qc) args=true:=
 postW_of (r:=l.row.toRowW) (X:=(qc == qc))
  (show WShape.has [] (.bool qc) .bool=qc by first | rfl | decide | simp[WShape.has,WShape.arms,WShape.armsAll])
  (show (WTm.eq .res (.lit (.bool qc))).value [] {args:=args,res:=pc (.bool qc),after:=args}=pc (.bool (qc == qc)) from w_eq_bool (w_res rfl) w_lit) rfl
theorem E5 {l:OpenLaw} {n:Nat} {q:B3} {U:List Str} {XP:(Str->Option qb)->FS->Prop} {YP:Ch->FS->Prop} {d:DefRec}
 (hn:l.most=pc n) (ap:d.params.defaults=[])
 (call:∀(w:Ch) (s₀ J:tt) (mg mb:Str->Option qb) (fa:qh) (o:Obj) (pm cd ab:qb) (a:qh) (vs:List qb) (ns:List Int),
  Ground q U [] XP w s₀ mg mb J.heap->YP w J.heap->
  J.heap.get? fa=pc o->o.data=.func (docDef d.name d.params d.body d.scope pm cd ab)->J.heap.CodeRec cd d.name->mg d.name=pc (.ref fa)->
  J.heap.get? a=pc {cls:=.type "list",data:=.seq vs.toArray}->Sn vs ns->ns.length<=n->J.gens= #v[]->
  codeAny (model l.prog w) callerA (.call (.ref fa) #[[.ref a],[]]) (λr s'=>r=.ok (.ret (.bool qc))/\OldK J.heap s'.heap/\s'.os=J.os/\Tf s'.gens) J):
 WalkO q U XP YP l.row.toRowW d [] (λf vs=>VD f vs):=by
 intro w s₀ J mg mb G Y fa o pm cd ab dV kV ho hd a0 hD a1 hg args bb as al bd bn a2 bp;obtain rfl:dV=.none:=Dflts.none hD ap;obtain rfl:kV=.none:=Dflts.noKw hD;obtain⟨a,vs,ns,rfl,rfl,am,ac,an⟩:=IF hn al a2;refine enter_call (Ux (call w s₀ J mg mb fa o pm cd ab a vs ns G Y ho (fd_plain hd) a0 a1 am ac an hg) λr s' hq=> ?_);obtain⟨rfl,h2,h3,h4⟩:=hq;exact#[.inl #[.bool qc,.bool qc,[],rfl,λ_=>rfl,.bool qc,Ir l,λ_=>#[Vk,λ_ hm=>(nomatch hm)]],h2,h3,h4]
section
variable {prog : B3} {w : Ch} {A : Je} {E : qb → tt → Prop} {s : tt} {K : Frag}
end
end Att
namespace L2
open PySem PySem.Spec PyProof.Rows
variable {P : B3} {w : Ch} {K : sH} {fd : RL} {x qual : Str} {vs : List qb} {st : S0} {f : qh} {scope : Sr} {l m : List (Str × qh)} {A : Je} {s : tt} {own cap : List Str} {caps : List Nat} {pins : List (qh × Obj)} {σ : St} {H : Hp} {fp : List qh} {i j n nrem N : Nat} {p : Array Nat}
theorem Bz:∀{vs:List qb} {ns:List Int},Sn vs ns->Vals (ns.map V.int) vs
 | _,_,.nil=>.nil
 | _,_,.cons n t h=>.cons #[t,rfl] (Bz h)
def G3(H:Hp):Prop:=∀b,H b=pi\/∃o xs,H b=pc (.frz o (.lst xs))
theorem Lc {P:B3} {w:Ch} {K:sH} {mg mb:Str->Option qb} {CX:CXT} {k:Nat} {fa a:qh} {fd:RL} {x:Str} {sp:Sp} {J:tt} {vs:List qb} {ns:List Int}
 (KX:K.In J.heap) (am:J.heap.Ns mainGlobals mg) (hb:J.heap.Ns builtinsNs mb) (a4:∀x:Str,x≠"__name__" ->mb x=bootBuiltins x) (an:J.heap.NoLimit) (Y:J.heap.NoSeer) (hg:J.gens= #v[])
 (ha:J.heap.get? a=pc {cls:=.type "list",data:=.seq vs.toArray}) (hi:Sn vs ns) (hl:ns.length<=sizeLine) (hr:fk k callerA)
 (F:∀base:FS,K.In base->base.Ns mainGlobals mg->kI P w K mg base CX k fa fd [x] sp) (al:∀(s:tt) (u:qb),TZ s fd #[[u],[]] [(x,u)])
 (a5:∀H:Hp,G3 H->SqL K H a (ns.map V.int)->sp [.ref a] H (λv _=>v=.bl qc) λ_ _ _=>False)
 (bb:∀H e s',CX [] H J (λ_ _ _=>False) e s'->False):
 codeAny (model P w) callerA (.call (.ref fa) #[[.ref a],[]]) (λr s'=>r=.ok (.ret (.bool qc))/\OldK J.heap s'.heap/\s'.os=J.os/\Tf s'.gens) J:=by
 have rv:=Bz hi;have ap:=hi.length;have ac:∀H:Hp,G3 H->SqL K H a (ns.map V.int)->HOk P w H J.heap->(∀b,H b≠pi->b=a)->(H a≠pi->K.lookup a=pi)->
  codeAny (model P w) callerA (.call (.ref fa) #[[.ref a],[]]) (λr s'=>r=.ok (.ret (.bool qc))/\OldK J.heap s'.heap/\s'.os=J.os/\Tf s'.gens) J:=by
  intro H hO hS as hA hK;have U:∀{b:qh} {o:Obj},J.heap.get? b=pc o->H b=pi->(rZ J.heap H).get? b=pc o:=λe n=>Lo e n;have be:∀{b:qh} {o:Obj} {es:Array DictEntry} {ep:Nat},J.heap.get? b=pc o->o.data=.dict es ep->H b=none:=λ{b o es ep} e d=>by
   cases q:H b with
   | none=>rfl
   | some u=>
    have e':b=a:=hA b (by rw[q];simp);subst e';rw[ha] at e;cases e;have d':Data.seq vs.toArray _=Data.dict es ep:=d;cases d'
  have ab:∀{b:qh} {m:Str->Option qb},J.heap.Ns b m->(rZ J.heap H).Ns b m:=λ{b m} #[o,es,ep,e,d,r]=>#[o,es,ep,U e (be e d),d,r];have a0:K.In (rZ J.heap H):=λb o e=>U (KX b o e) (by
   cases q:H b with
   | none=>rfl
   | some u=>
    have e':b=a:=hA b (by rw[q];simp);subst e';rw[hK (by rw[q];simp)] at e;cases e)
  have bi:∀{b:qh} {o:Obj},J.heap.get? b=pc o->o.cls=.type "module" ->H b=none:=λ{b o} e d=>by
   cases q:H b with
   | none=>rfl
   | some u=>
    have e':b=a:=hA b (by rw[q];simp);subst e';rw[ha] at e;cases e;exact absurd (show Value.type "list" =Value.type "module" from d) ∅
  have hN:(rZ J.heap H).NoSeer:=#[let #[mc,x,y]:=Y.statics;#[mc,ab x,y],let #[mc,x,y]:=Y.mods;#[mc,ab x,y],let #[mc,x,y]:=Y.imp;#[mc,ab x,y],let #[mg',bm,ob,x,y,z,u,v]:=Y.main;#[mg',bm,ob,ab x,y,U z (bi z u),u,v]];have hM:Mod K mg (rZ J.heap H):=#[a0,ab am,#[mb,ab hb,a4],(let #[mc,h1,h2]:=an;#[mc,ab h1,h2]),hN];have e0:vA P w K mg (rZ J.heap H) callerA [] J H:=#[rfl,hM,λb o e=>Mx e,Nat.le_of_eq JI,trivial,λb hb=>absurd (show b∈([]:List qh) from hb) (by simp),as,.of_eq hg];refine Ux ((F _ a0 (ab am)).run callerA [] J H #[[.ref a],[]] [.ref a] [.ref a] _ _ hr e0 (al J (.ref a)) (.cons rfl .nil) (a5 H hO hS)) λr s' h=> ?_;cases r with
  | error e=>exact(bb H e s' h).elim
  | ok fl=>
   cases fl with
   | next=>exact sn h
   | brk=>exact sn h
   | cont=>exact sn h
   | ret u=>
    obtain⟨v,H',os,a1,un,a2,r',q⟩:=h;have q':v=.bl true:=q;subst q';obtain rfl:u=Value.bool true:=r';refine#[rfl,OldK.of_keep λb o e=> ?_,os,a1];cases q:H b with
    | none=>exact un.keep b o e q (by intro z;exact absurd (show b∈([]:List qh) from z) (by simp)) (by simp)
    | some u=>
     rcases hO b with z | ⟨ob,xs,z⟩;rw[q] at z;cases z;have z2:=un.frzs b ob _ z;obtain⟨e1,_⟩:=as b _ z;obtain⟨e2,_⟩:=a2 b _ z2;rw[e] at e1;cases e1;exact e2
 cases hk:K.lookup a with
 | some o=>
  have e:=KX a o hk;rw[ha] at e;cases e;refine ac (λ_=>pi) (λ_=>.inl rfl) (.inr #[_,vs.toArray,_,hk,rfl,rfl,rfl,by rw[xJ,ap];exact hl,by simpa using rv]) (λb u z=>by have z':(pi:Option HO)=pc u:=z;cases z') (λb z=>absurd rfl z) λz=>absurd rfl z
 | none=>
  refine ac (λb=>if b=a then pc (.frz {cls:=.type "list",data:=.seq vs.toArray} (.lst (ns.map V.int))) else pi) (λb=> ?_) (.inl (.inr #[{cls:=.type "list",data:=.seq vs.toArray},if_pos rfl])) (λb u z=> ?_) (λb z=> ?_) λ_=>hk;by_cases hb:b=a;exact .inr #[_,_,if_pos hb];exact .inl (if_neg hb);by_cases hb:b=a;have z':=(if_pos hb).symm.trans z;cases z';subst hb;exact#[ha,by rw[sB];exact hl,vs,_,rv,ha];have z':=(if_neg hb).symm.trans z;cases z';by_cases hb:b=a;exact hb;exact absurd (if_neg hb) z
theorem Nv {l:UH} {n k:Nat} {q:B3} {U:List Str} {XP:(Str->Option qb)->FS->Prop} {YP:Ch->FS->Prop} {d:DefRec} {K:Params->sH} {CX:Ch->CXT} {sp:Ch->Sp} {x:Str}
 (hn:l.most=pc n) (am:n<=sizeLine) (an:d.params.defaults=[]) (hr:fk k callerA) (hi:importsNone q=qc)
 (hY:∀(w:Ch) (h:FS),YP w h->(K w.params).In h)
 (F:∀(w:Ch) (mg:Str->Option qb) (fa:qh) (h:FS),(K w.params).In h->h.Ns mainGlobals mg->mg d.name=pc (.ref fa)->
  ∃fd:RL,(∀(s:tt) (u:qb),TZ s fd #[[u],[]] [(x,u)])/\
   ∀base:FS,(K w.params).In base->base.Ns mainGlobals mg->kI l.prog w (K w.params) mg base (CX w) k fa fd [x] (sp w))
 (ap:∀(w:Ch) (H:Hp) (a:qh) (ns:List Int),ns.length<=n->G3 H->SqL (K w.params) H a (ns.map V.int)->sp w [.ref a] H (λv _=>v=.bl qc) λ_ _ _=>False)
 (as:∀(w:Ch) (H:Hp) (s:tt) (e:qb) (s':tt),CX w [] H s (λ_ _ _=>False) e s'->False):
 VJ q U XP YP l.row.toRowW d [] (λf vs=>VD f vs):=by
 refine Att.E5 hn an λw s₀ ac mg mb fa o pm cd a4 a vs ns G Y ho hd a5 az al ab J hg=> ?_;have KX:=hY w _ Y;obtain⟨fd,hb,hF⟩:=F w mg fa _ KX G.T.g az;exact Lc KX G.T.g G.T.b G.T.builtins G.T.nolimit (G.T.seer hi) hg al ab (IN J am) hr hF hb (λH hO hS=>ap w H a ns J hO hS) λH e s'=>as w H ac e s'
def inClass(s:S0)(j:Nat):Stmt:=match s with
 | .ClassDef _ _ _ body _ _ _ _ _ _ _=>body.getD j (.Pass #[0,0,0,0])
 | _=>.Pass #[0,0,0,0]
def dW(s:S0):Arguments:=match s with
 | .FunctionDef _ a _ _ _ _ _ _ _ _=>a
 | _=>{posonlyargs:=[],args:=[],vararg:=pi,kwonlyargs:=[],kw_defaults:=[],kwarg:=pi,defaults:=[]}
def dq(s:S0):List Stmt:=match s with
 | .FunctionDef _ _ b _ _ _ _ _ _ _=>b
 | _=>[]
def aL(s:S0):Scope:=match s with
 | .FunctionDef _ _ _ _ _ _ sc _ _ _=>sc
 | _=>{kind:=.function,names:=[],isGenerator:=false,isCoroutine:=false}
abbrev E0:XK:=λ_ _ _=>False
structure Fun(K:sH)(x qual:Str)(st:S0)(f:qh)(fd:RL):Prop where
 ex:∃(oc:qb) (od:Option qh) (kV doc pm:qb) (an:Option qh) (cdv ct:qb) (osl:Array (Option qb)),
  fd=Ix x qual (dW st) (dq st) (aL st) .none kV doc pm an cdv ct/\K.lookup f=pc #[oc,od,.func fd,osl]/\Ry K cdv qual=qc
 kp:NE K (.ref f)=qc
section
variable {P : B3} {w : Ch} {K : sH} {mg : Str → Option qb} {base : FS}
theorem Fun.binds {ps:List Str} (F:Fun K x qual st f fd)
 (h:∀(kV J Y:qb) (an:Option qh) (U ct:qb) (us:List qb),us.length=ps.length->bindArgs (Ix x qual (dW st) (dq st) (aL st) .none kV J Y an U ct) #[us,[]]=pure (ps.zip us)):Binds K fd ps []:=by
 obtain⟨oc,od,kV,J,Y,an,U,ct,ac,rfl,lk,al⟩:=F.ex;exact .all (h kV J Y an U ct)
theorem m8 {oc:qb} {od an:Option qh} {Y:Array (Option qb)} {kV U pm J ct:qb} (l:K.lookup f=pc #[oc,od,.func (Ix x qual (dW st) (dq st) (aL st) .none kV U pm an J ct),Y])
 (c:Ry K J qual=qc) (k:NE K (.ref f)=qc):Fun K x qual st f (Ix x qual (dW st) (dq st) (aL st) .none kV U pm an J ct):=#[#[oc,od,kV,U,pm,an,J,ct,Y,rfl,l,c],k]
end
section
variable {X : Cx}
theorem pv (i:Nat) {pos:Pos} (U:X.N[i]? =pc x:=by rfl) (Y:Vis X.env.scope x:=by first | exact r0 rfl | exact Rs (r0 rfl) | exact Rs (Rs rfl)) (hd:(x == ("__debug__" :Str))=false:=by decide)
 (J:(x == ("__classdict__" :Str))=false:=by decide):PE X (.Name x pos) (LC i):=N3 U Y hd J
end
theorem vX{A B:Prop}(h:B):if wh=qc then A else B:=by rw[if_neg At];exact h
theorem uY{A B:Prop}(h:A):if qc=qc then A else B:=by rw[if_pos rfl];exact h
def ck(H H':Hp):Prop:=∀b o,H b=pc o->H' b=pc o
theorem ck.refl(H:Hp):ck H H:=λ_ _ h=>h
theorem ck.trans{H H1 H2:Hp}(a:ck H H1)(b:ck H1 H2):ck H H2:=λc o h=>b c o (a c o h)
theorem ck.seq{H H':Hp}{a:qh}{xs:List V}(e:ck H H')(h:SqL K H a xs):SqL K H' a xs:=by rcases h with(h | ⟨o,h⟩) | h;exact .inl (.inl (e _ _ h));exact .inl (.inr #[o,e _ _ h]);exact .inr h
def eM(env:Env):List (Str×R5)->List (Str×qh)->List (Str×qh)
 | [],cs=>cs
 | (n,k)::r,cs=>if k == .free then eM env r ((n,(env.cells.lookup n).getD 0)::cs) else eM env r cs
theorem Ar{env:Env}:∀(names:List (Str×R5)) (cs:List (Str×qh)),(∀n,(n,NameKind.free)∈names->∃c,env.cells.lookup n=pc c)->
 (forIn names cs λ(x:Str×R5) (r:List (Str×qh))=>(if (x.2 == NameKind.free)=qc then do
  let a <- cellOf env x.1
  pure (SI ((x.1,a)::r)) else pure (SI r):Sem (ForInStep (List (Str×qh)))))=pure (eM env names cs)
 | [],cs,_=>rfl
 | (n,k)::r,cs,h=>by
  rw[List.forIn_cons];by_cases hk:(k == NameKind.free)=qc;have J:k=.free:=by simpa using hk
  subst J;obtain⟨c,hc⟩:=h n uC;simp only[hk,if_true,eM,cellOf,hc,pure_bind,Um];exact Ar r _ λm hm=>h m (tz _ hm);simp only[hk,if_false,eM,pure_bind];exact Ar r cs λm hm=>h m (tz _ hm)
theorem CC{scope:Sr}{env:Env}(h:∀n,(n,NameKind.free)∈scope.names->∃c,env.cells.lookup n=pc c):closureFor scope env=pure (eM env scope.names []):=by have:=Ar scope.names [] h;simp only[closureFor];rw[<- this];exact bind_pure _
theorem ue{env:Env}:∀(names:List (Str×R5)) (cs:List (Str×qh)),(∀n,(n,NameKind.free)∈names->∃c,env.cells.lookup n=pc c)->
 (∀x c,cs.lookup x=pc c->env.cells.lookup x=pc c)->∀x c,(eM env names cs).lookup x=pc c->env.cells.lookup x=pc c
 | [],cs,_,h,x,c,e=>h x c e
 | (n,k)::r,cs,hf,h,x,c,e=>by
  unfold eM at e;by_cases hk:(k == NameKind.free)=qc;rw[if_pos hk] at e;have U:k=.free:=by simpa using hk
  subst U;refine ue r _ (λm hm=>hf m (tz _ hm)) (λy d q=> ?_) x c e;obtain⟨Y,J⟩:=hf n uC;rw[RD] at q;split at q;rename_i hy;have:y=n:=by simpa using hy
  subst this;rw[J,Um] at q;rw[J];exact q;exact h y d q;rw[if_neg hk] at e;exact ue r cs (λm hm=>hf m (tz _ hm)) h x c e
theorem r8{env:Env}:∀(names:List (Str×R5)) (cs:List (Str×qh)) (x:Str),(∃c,cs.lookup x=pc c)->∃c,(eM env names cs).lookup x=pc c
 | [],cs,_,h=>h
 | (n,k)::r,cs,x,h=>by unfold eM;by_cases hk:(k == NameKind.free)=qc;rw[if_pos hk];refine r8 r _ x ?_;rw[RD];split;exact#[_,rfl];exact h;rw[if_neg hk];exact r8 r cs x h
theorem pk{env:Env}:∀(names:List (Str×R5)) (cs:List (Str×qh)) (x:Str),(x,NameKind.free)∈names->∃c,(eM env names cs).lookup x=pc c
 | (n,k)::r,cs,x,h=>by
  unfold eM;rcases u8.mp h with e | h
  cases e;rw[if_pos (by rfl)];refine r8 r _ n ?_;exact#[_,by rw[RD];simp;rfl];by_cases hk:(k == NameKind.free)=qc;rw[if_pos hk];exact pk r _ x h;rw[if_neg hk];exact pk r cs x h
theorem gf:∀(names:List (Str×R5)) (n:Nat) (J:List (Str×qh)),cellsFrom n names J=cellsFrom n names []++J
 | [],_,_=>rfl
 | (x,k)::r,n,J=>by unfold cellsFrom;split;rw[gf r (n+1) ((x,n)::J),gf r (n+1) [(x,n)],R9];rfl;exact gf r n J
theorem oF:∀(names:List (Str×R5)) (n:Nat) {x:Str} {c:qh},(x,c)∈cellsFrom n names []->(x,NameKind.cell)∈names
 | [],_,_,_,h=>nomatch h
 | (y,k)::r,n,x,c,h=>by
  unfold cellsFrom at h;split at h;rename_i hk;have J:k=.cell:=by simpa using hk
  rw[gf] at h;rcases wE.mp h with q | q
  exact tz _ (oF r _ q);cases wn.mp q;rw[J];exact uC;exact tz _ (oF r _ h)
theorem Hu{c:qh}(h:(l++m).lookup x=pc c):l.lookup x=pc c\/(l.lookup x=pi/\m.lookup x=pc c):=by
 rw[T8] at h;cases e:l.lookup x with
 | none=>rw[e] at h;exact .inr #[rfl,h]
 | some d=>rw[e] at h;exact .inl h
theorem vY(h:l.lookup x=pi):(l++m).lookup x=m.lookup x:=by rw[T8,h];rfl
theorem CV(h:∃c,m.lookup x=pc c):∃c,(l++m).lookup x=pc c:=by
 cases e:l.lookup x with
 | none=>rw[vY e];exact h
 | some c=>exact#[c,by rw[T8,e];rfl]
theorem HS{h:FS}{names:List (Str×R5)}:CellsOk (pushCells (h.push {cls:=.type "dict",data:=.dict #v[]}) names) (h.objs.size+1) (cellsFrom (h.objs.size+1) names []):=by have:=cellsFrom_ok names (h.push {cls:=.type "dict",data:=.dict #v[]}) (h.objs.size+1) [] #[λ_ _ hm=>(nomatch hm),Vk] (by rw[Heap.size_push];exact vr _);rwa [Heap.size_push] at this
theorem Fd {M:Model} {A:Je} {E:qb->tt->Prop} {s:tt} {scope:Sr} {globals:qh} {J:List (Str×qh)} {qual:Str} {func:Option qh} {code:qb} {outer:Env} {builtins:qh} {Q:Env->tt->Prop}
 (U:Q {scope:=scope,locals:=s.heap.objs.size,globals:=globals,cells:=cellsFrom (s.heap.objs.size+1) scope.names J,qual:=qual,func:=func,code:=outer.code,frame:=outer.frame,builtins:=outer.builtins} {s with heap:=pushCells (s.heap.push {cls:=.type "dict",data:=.dict #v[]}) scope.names}):
 wpAny M A (newFunctionEnv scope globals J [] qual func code (pc outer) builtins) Q E s:=by
 simp only[newFunctionEnv,Option.isSome_some,if_true];refine x0 (wpAny_alloc ?_);refine x0 (wpAny_layCells _ (λname kind cells=>by cases hkc:kind == NameKind.cell <;> simp[hkc]) _ _ _ _ ?_);rw[show ({s with heap:=s.heap.push {cls:=.type "dict",data:=.dict #v[]}}:tt).heap.objs.size=s.heap.objs.size+1 from Heap.size_push ..];refine x0 ?_;rw[List.forIn_nil];exact No (No U)
def cxC(X:Cx)(scope:Sr)(N':List Str)(fp:List qh)(s:tt)(H:Hp):Cx where
 prog:=X.prog
 w:=X.w
 K:=X.K
 mg:=X.mg
 base:=X.base
 A:=X.A
 N:=N'
 s₀:=s
 H₀:=H
 env:=compEnvC scope (cellsFrom (s.heap.objs.size+1) scope.names (eM X.env scope.names [])) s.heap.objs.size X.env
 outer:=X.stack
 stack:=X.stack
 ex:=fp
 calm:=X.calm
 fn:=λx=>scope.names.lookup x == pc .cell
 pn:=[]
 xe:=λ_ _=>False
def mP(X:Cx)(scope:Sr):List Str->List Nat->Prop
 | [],[]=>True
 | x::xs,j::js=>X.N[j]? =pc x/\(X.env.scope.names.lookup x=pc .cell\/X.env.scope.names.lookup x=pc .free)/\scope.names.lookup x=pc .free/\mP X scope xs js
 | _,_=>False
theorem mP.get{X:Cx}{scope:Sr}:∀{xs:List Str} {J:List Nat} {i:Nat} {x:Str},mP X scope xs J->xs[i]? =pc x->
 ∃j,J[i]? =pc j/\X.N[j]? =pc x/\(X.env.scope.names.lookup x=pc .cell\/X.env.scope.names.lookup x=pc .free)/\scope.names.lookup x=pc .free
 | [],_,_,_,_,e=>by simp at e
 | _::_,[],_,_,h,_=>h.elim
 | y::ys,j::J,0,x,h,e=>by simp at e;subst e;exact#[j,rfl,h.1,h.2.1,h.2.2.1]
 | y::ys,j::J,i+1,x,h,e=>by obtain⟨U,e1,r⟩:=mP.get (i:=i) (x:=x) h.2.2.2 (by simpa using e);exact#[U,by simpa using e1,r]
theorem mP.length{X:Cx}{scope:Sr}:∀{xs:List Str} {J:List Nat},mP X scope xs J->xs.length=J.length
 | [],[],_=>rfl
 | [],_::_,h=>h.elim
 | _::_,[],h=>h.elim
 | _::_,_::_,h=>by rw[xa,xa,mP.length h.2.2.2]
def oZ(m:Nat)(caps:List Nat)(σ:St):St:=u0 m pi++caps.map λi=>(σ[i]?).getD pi
theorem lookup_mem{α β:Type}[BEq α][LawfulBEq α]:∀{l:List (α×β)} {x:α} {b:β},l.lookup x=pc b->(x,b)∈l
 | [],_,_,h=>by simp at h
 | (a,c)::r,x,b,h=>by
  rw[RD] at h;split at h;rename_i q;have:x=a:=by simpa using q
  subst this;cases h;exact uC;exact tz _ (lookup_mem h)
section
variable {X : Cx}
theorem iZ{scope:Sr}{env:Env}:∀{names:List (Str×R5)} {x:Str} {k:R5},(names.map λ(n,k)=>if (k == NameKind.free&&env.scope.kind == .function&&env.kindOf n == pc .cell) then (n,NameKind.cell) else (n,k)).lookup x=pc k->
 ∃J,names.lookup x=pc J/\(J=k\/(J=.free/\k=.cell))
 | [],_,_,h=>by simp at h
 | (n,k0)::r,x,k,h=>by
  have h':SN x ((if (k0 == NameKind.free&&env.scope.kind == .function&&env.kindOf n == pc .cell)=qc then (n,NameKind.cell) else (n,k0))::r.map _)=pc k:=h;by_cases hc:(k0 == NameKind.free&&env.scope.kind == .function&&env.kindOf n == pc .cell)=qc;rw[if_pos hc,RD] at h';rw[RD];split at h';rename_i q;cases h';have hk:k0=.free:=by simp only[RJ] at hc;simpa using hc.1.1
  exact#[k0,rfl,.inr #[hk,rfl]];rename_i q;exact iZ (scope:=scope) h';rw[if_neg hc,RD] at h';rw[RD];split at h';rename_i q;cases h';exact#[k0,rfl,.inl rfl];rename_i q;exact iZ (scope:=scope) h'
structure oy(X:Cx)(scope:Sr)(own cap:List Str)(caps:List Nat):Prop where
 kind:scope.kind=.function
 cell:∀y∈scope.names,y.2=.cell->scope.names.lookup y.1=pc .cell
 nm:∀y∈scope.names,y.2=.local->scope.names.lookup y.1=pc .local
 fr:∀y∈scope.names,y.2=.free->y.1∈cap
 caps:mP X scope cap caps
 nd:(own++cap).Nodup
theorem oy.out{X:Cx}(S:oy X scope own cap caps){n:Str}(h:(n,NameKind.free)∈scope.names):X.env.scope.names.lookup n=pc .cell\/X.env.scope.names.lookup n=pc .free:=by obtain⟨i,hi,e⟩:=Rw (S.fr _ h rfl);obtain⟨_,_,_,k,_⟩:=S.caps.get (i:=i) (x:=n) (by rw[sK hi,e]);exact k
theorem Kh {fp:List qh} {h1:FS} {tk:Nat} (Sc:oy X scope own cap caps) (I:Inv X pins σ H s)
 (Y:∀b∈fp,ny X pins H b) (ap:∀b∈fp,∃o,s.heap.get? b=pc o) (a2:h1.Ns s.heap.objs.size λ_=>pi)
 (hk:∀b o,s.heap.get? b=pc o->h1.get? b=pc o) (U:CellsOk h1 (s.heap.objs.size+1) (cellsFrom (s.heap.objs.size+1) scope.names [])):
 Inv (cxC X scope (own++cap) fp s H) [] (oZ own.length caps σ) H {s with heap:=h1,toks:=tk}:=by
 have a3:∀n,(n,NameKind.free)∈scope.names->∃c,X.env.cells.lookup n=pc c:=λn hn=>I.ok.has n (Sc.out hn);have sub:∀x c,(eM X.env scope.names []).lookup x=pc c->X.env.cells.lookup x=pc c:=ue scope.names [] a3 (λx c e=>by simp at e);have fresh:H s.heap.objs.size=none:=I.hok.fresh (vr _);have J:∀x c,(cellsFrom (s.heap.objs.size+1) scope.names (eM X.env scope.names [])).lookup x=pc c->((x,c)∈cellsFrom (s.heap.objs.size+1) scope.names []/\s.heap.objs.size<c)\/((cellsFrom (s.heap.objs.size+1) scope.names []).lookup x=pi/\X.env.cells.lookup x=pc c/\c<s.heap.objs.size):=λx c e=>by
  rw[gf] at e;rcases Hu e with q | ⟨q0,q⟩
  exact .inl #[mem_of_lookup q,(U.empty x c (mem_of_lookup q)).2];have q':=sub x c q;obtain⟨v,o,ho,_⟩:=I.cell x c q';exact .inr #[q0,q',Heap.lt_size ho]
 have ab:∀x,scope.names.lookup x=pc .free->(cellsFrom (s.heap.objs.size+1) scope.names []).lookup x=none:=λx hx=>by
  cases e:(cellsFrom (s.heap.objs.size+1) scope.names []).lookup x with
  | none=>rfl
  | some c=>
   have:=Sc.cell _ (oF _ _ (mem_of_lookup e)) rfl;dsimp only at this;rw[hx] at this;cases this
 refine#[#[I.ok.mod,Sc.kind,I.ok.glob,I.ok.blt,vr _,λx y c e1 e2=> ?_,λx hx=> ?_,λx c h e=> ?_,I.ok.hd,I.ok.frames,.inl rfl,λb hb=>#[?_,λx c e=> ?_],I.bs,IN I.ok.bsz I.sz,λb o e hb=> ?_,λb hb hs=> ?_,I.stack,I.stkFree],
  rfl,I.bare,Un.kept hk,#[_,a2,λi x v e1 e2 e3=> ?_],λx c e=> ?_,fresh,λx c e=> ?_,λp hp=>absurd (show p∈([]:List (qh×Obj)) from hp) (by simp),I.hok.kept hk, ?_]
 rcases J x c e1 with⟨p1,p2⟩ | ⟨_,p1,p2⟩ <;> rcases J y c e2 with⟨q1,q2⟩ | ⟨_,q1,q2⟩;exact name_of_addr U.apart p1 q1;exact absurd p2 (VE.mpr (Sj q2));exact absurd q2 (VE.mpr (Sj p2));exact I.ok.inj x y c p1 q1;have a4:(relabel scope X.env).names.lookup x=pc .cell\/(relabel scope X.env).names.lookup x=pc .free:=hx;have:(x,NameKind.free)∈scope.names\/scope.names.lookup x=pc .cell:=by rcases a4 with q | q;obtain⟨k',e1,e2⟩:=iZ (scope:=scope) q;rcases e2 with rfl | ⟨rfl,_⟩;exact .inr e1;exact .inl (lookup_mem e1);obtain⟨k',e1,e2⟩:=iZ (scope:=scope) q;rcases e2 with rfl | ⟨rfl,z⟩;exact .inl (lookup_mem e1);cases z
 rcases this with q | q;show ∃c,(cellsFrom (s.heap.objs.size+1) scope.names (eM X.env scope.names [])).lookup x=pc c;rw[gf];exact CV (pk scope.names [] x q);exact Uo.mp (SR scope.names _ _ (.inl q));have h':scope.names.lookup x=pc .cell:=by have:(scope.names.lookup x == pc NameKind.cell)=true:=h;simpa using this
 rcases J x c e with⟨_,p⟩ | ⟨p,_⟩;exact Sj p;have:=SR scope.names (s.heap.objs.size+1) [] (.inl h');rw[p] at this;cases this;obtain⟨o,ho⟩:=ap b hb;exact Ez (Heap.lt_size ho);rcases J x c e with⟨_,p⟩ | ⟨_,p,_⟩;obtain⟨o,ho⟩:=ap b hb;exact λz=>absurd (Heap.lt_size ho) (VE.mpr (Sj (z▸p)))
 exact(Y b hb).2.2.2.2.1 x c p;rcases(Y b hb).2.2.2.1 with z | z
 exact I.ok.noex b o e z;exact absurd (AT (Heap.lt_size e) (IN I.ok.bsz z)) (RO _);rcases u8.mp (I.stkSub b hs) with z | z
 exact(Y b hb).2.1 z;exact(Y b hb).2.2.1 z;have az:(own++cap)[i]? =pc x:=e1;have hi:own.length<=i:=by by_cases q:i<own.length;unfold oZ at e2;rw[wP (by simpa using q),GX] at e2;split at e2 <;> cases e2;omega
 rw[wS hi] at az;obtain⟨j,hj,hN,a0,ac⟩:=Sc.caps.get az;unfold oZ at e2;rw[wS (by simpa using hi)] at e2;simp only[SX,wv,hj,SH,Vj] at e2;have a5:σ[j]? =pc (pc v):=by
  cases q:σ[j]? with
  | none=>rw[q] at e2;simp at e2
  | some ov=>rw[q] at e2;simp at e2;rw[e2]
 obtain⟨m,hm,hl⟩:=I.loc;obtain⟨u,ru,lk⟩:=hl j x v hN a5 (a0.elim (λz=>.inr (.inl z)) λz=>.inr (.inr z));refine#[u,ru,.inr #[?_, ?_]];rcases e3 with q | q | q
 obtain⟨k',w1,w2⟩:=iZ (scope:=scope) (show (relabel scope X.env).names.lookup x=pc .local from q);rw[ac] at w1;cases w1;rcases w2 with w | ⟨_,w⟩ <;> cases w
 exact .inl q;exact .inr q;rcases lk with⟨z,_⟩ | ⟨_,c,ec,hc⟩
 have z':X.env.scope.names.lookup x=pc .local:=z;rcases a0 with q | q <;> (rw[q] at z';cases z')
 obtain⟨c',a1⟩:=pk (env:=X.env) scope.names [] x (lookup_mem ac);have:=sub x c' a1;rw[ec] at this;cases this;obtain⟨oc,al,am⟩:=hc;refine#[c, ?_,oc,hk _ _ al,am];show (cellsFrom (s.heap.objs.size+1) scope.names (eM X.env scope.names [])).lookup x=pc c;rw[gf,vY (ab x ac)];exact a1;rcases J x c e with⟨p,_⟩ | ⟨_,p,_⟩
 exact#[pi,(U.empty x c p).1];obtain⟨v,oc,al,am⟩:=I.cell x c p;exact#[v,oc,hk _ _ al,am];rcases J x c e with⟨_,p⟩ | ⟨_,p,_⟩
 exact I.hok.fresh (Sj p);exact I.freeC x c p;unfold oZ;have:=Sc.caps.length;simp[cxC,this]
theorem Jq {prog:B3} {w:Ch} {A:Je} {R:U4->tt->Prop} {s:tt} {az J ac:Db} {a0:List Db} {scope:Sr} {pos:Pos} {it a1:qb} {env:Env} (I:Nat->tt->Prop)
 (a3:∀n s,I n s->wpAny (model prog w) A (pyNext it) (λr U=>match r with
  | none=>R (.ok .next) U
  | some v=>wpAny (model prog w) A (letOwnedTupleGo J it v) (λ_ Y=>wpAny (model prog w) A (assign J env v) (λ_ al=>
   wpAny (model prog w) A (forIn a0 qc λc r=>if r=qc then do let ok <- isTrue c env (eval c env);pure (SI ok) else pure (SI r)) (λok ab=>
    if ok=qc then wpAny (model prog w) A (eval az env) (λx am=>
     wpAny (model prog w) A (call (.builtin "list.append") [a1,x]) (λ_ an=>∃m,m<n/\I m an) (λ_ _=>False) am) (λ_ _=>False) ab
    else ∃m,m<n/\I m ab) (λ_ _=>False) al) (λ_ _=>False) Y) (λ_ _=>False) U) (λ_ _=>False) s)
 (n:Nat) (h:I n s):
 codeAny (model prog w) A (.compLoop (.ListComp az [#[J,ac,a0,0]] scope pos) 0 it a1 env) R s:=by
 refine codeAny_loop rfl I (λn s hI=> ?_) n h;show wpAny _ A ((compTurn (.ListComp az [#[J,ac,a0,0]] scope pos) 0 it a1 env).onRaise (λx=>do noteFrame x env;theTreesLotGoes x)) _ _ s;refine wpAny_noted ?_;rw[compTurn_list];refine x0 (UU (x0 (Sg (a3 n s hI) (λr U ap=> ?_) λ_ _ h'=>h'.elim)));cases r with
 | none=>exact No ap
 | some v=>
  refine x0 (Sg ap (λ_ Y a2=>x0 (Sg a2 (λ_ al a4=>x0 (Sg a4 (λok ab as=> ?_) λ_ _ h'=>h'.elim)) λ_ _ h'=>h'.elim)) λ_ _ h'=>h'.elim);cases ok with
  | false=>exact No #[rfl,as]
  | true=>
   exact x0 (x0 (Sg as (λx am a5=>x0 (Sg a5 (λ_ an bb=>No (No #[rfl,bb])) λ_ _ h'=>h'.elim)) λ_ _ h'=>h'.elim))
def PTs(X:Cx)(J:List Db)(t:TT):Prop:=
 ∀(pins:List (qh×Obj)) (s:tt) (σ:St) (H:Hp) (Q:Bool->Hp->Prop),Inv X pins σ H s->t σ H Q->
  wpAny (model X.prog X.w) X.A (forIn J qc λc r=>if r=qc then do let ok <- isTrue c X.env (eval c X.env);pure (SI ok) else pure (SI r)) (TP X pins σ Q) X.xe s
def L4:TT:=λ_ H Q=>Q qc H
theorem bX:PTs X [] L4:=λ_ _ _ H _ I h=>wpAny_tests_nil #[H,I,h]
theorem nr{c:Db}{t:TT}(h:PT X c t):PTs X [c] t:=λpins s σ H Q I q=>wpAny_tests_one (h pins s σ H Q I q)
def tj(m:Nat)(caps:List Nat)(wi:TI)(g:TG)(tc:TT)(te:TE):TE:=λσ H Q=>wi σ H λJ H1=>∀p,H1 p=pi->
 ∃W:Nat->Nat->List V->St->Hp->Prop,(∃k,W 0 k [] (oZ m caps σ) (upd H1 p (.lst [])))/\∀i k U ab H',W i k U ab H'->
  (J.stop i H'/\H' p=pc (.lst U)/\Q (.ref p) H')\/(J.go i H'/\∀x H2,J.yld i H' x H2->g x ab H2 λY H3=>tc Y H3 λb H4=>if b=qc then
   te Y H4 λy H5=>H5 p=pc (.lst U)/\U.length<sizeLine/\∃k',k'<k/\W (i+1) k' (U++[y]) Y (upd H5 p (.lst (U++[y])))
   else ∃k',k'<k/\W (i+1) k' U Y H4)
theorem Kg{N':List Str}{pins U:List (qh×Obj)}{σ ab:St}{H3 H':Hp}{s3 s':tt}(I3:Inv X pins σ H3 s3)(Y:Inv (cxC X scope N' fp s3 H3) U ab H' s')(J:∀b∈fp,ny X pins H3 b):Inv X pins σ H' s':=
 I3.call' (ch:=fp) Y.os Y.base Y.hok Y.bare λb hb=>#[(J b hb).2.2.2.1,(J b hb).2.1,(J b hb).2.2.2.2.1,(J b hb).2.2.2.2.2]
theorem zJ {ab be bn:Db} {bp:List Db} {scope:Sr} {pos:Pos} {own cap:List Str} {caps:List Nat} {g:TG} {tc:TT} {te:TE} {pins:List (qh×Obj)} {σ:St} {H2:Hp} {U:tt} {it:qh} {fp:List qh} {tn:Nat->FS->Prop} {J:It} {E:qb->tt->Prop}
 {RR:qb->qh->U4->tt->Prop} {Q:VK}
 (hc:X.calm=qc) (Sc:oy X scope own cap caps)
 (hg:∀s H,PG (cxC X scope (own++cap) fp s H) ab g) (ht:∀s H,PTs (cxC X scope (own++cap) fp s H) bp tc) (he:∀s H,PE (cxC X scope (own++cap) fp s H) bn te)
 (I:Inv X pins σ H2 U) (T:Turn X.prog X.w X.K ab J fp it tn) (t0:tn 0 U.heap) (b3:∀b∈fp,ny X pins H2 b)
 (hQ:∀p,H2 p=pi->∃W:Nat->Nat->List V->St->Hp->Prop,(∃k,W 0 k [] (oZ own.length caps σ) (upd H2 p (.lst [])))/\∀i k Y as H',W i k Y as H'->
  (J.stop i H'/\H' p=pc (.lst Y)/\Q (.ref p) H')\/(J.go i H'/\∀x H2,J.yld i H' x H2->g x as H2 λa5 H3=>tc a5 H3 λb H4=>if b=qc then
   te a5 H4 λy H5=>H5 p=pc (.lst Y)/\Y.length<sizeLine/\∃k',k'<k/\W (i+1) k' (Y++[y]) a5 (upd H5 p (.lst (Y++[y])))
   else ∃k',k'<k/\W (i+1) k' Y a5 H4))
 (cu:∀C p H' s' m,X.s₀.heap.objs.size<=C->C≠X.env.locals->(∀x c,X.env.cells.lookup x=pc c->c≠C)->(∀q∈X.pn++pins,q.1≠C)->H' C=pi->s'.heap.Ns C m->Inv X pins σ H' s'->Q (.ref p) H'->RR (.ref p) C (.ok .next) s'):
 wpAny (model X.prog X.w) X.A (newList []) (λY b4=>wpAny (model X.prog X.w) X.A (newFunctionEnv scope X.env.globals (eM X.env scope.names []) [] X.env.qual pi .none (pc X.env)) (λbi al=>
  codeAny (model X.prog X.w) X.A (.compStart (.ListComp bn [#[ab,be,bp,0]] scope pos) 0 (.ref it) Y {bi with scope:=relabel scope X.env}) (RR Y bi.locals) al) E b4) E U:=by
 refine wpAny_newObj_type (Fd ?_);dsimp only;have cw:H2 U.heap.objs.size=none:=I.hok.fresh (vr _);have I3:Inv X pins σ (upd H2 U.heap.objs.size (.lst [])) {U with heap:=U.heap.push {cls:=.type "list",dict:=pi,data:=.seq ([]:List qb).toArray}}:=I.lnew (t':=U.toks) .nil (Oz _);obtain⟨W,⟨k0,w0⟩,b5⟩:=hQ U.heap.objs.size cw;have b6:∀b o,U.heap.get? b=pc o->(U.heap.push {cls:=.type "list",dict:=pi,data:=.seq ([]:List qb).toArray}).get? b=pc o:=λb o e=>Heap.get?_push_of_some _ e;have cB:∀b∈fp,b≠U.heap.objs.size:=λb hb=>by obtain⟨o,ho,_⟩:=T.obj 0 U.heap t0 b hb;exact Ez (Heap.lt_size ho)
 have a0:∀b∈fp,ny X pins (upd H2 U.heap.objs.size (.lst [])) b:=λb hb=>#[by rw[aZ (cB b hb)];exact(b3 b hb).1,(b3 b hb).2];have cb:∀b∈fp,∃o,(U.heap.push {cls:=.type "list",dict:=pi,data:=.seq ([]:List qb).toArray}).get? b=pc o:=λb hb=>by obtain⟨o,ho,_⟩:=T.obj 0 U.heap t0 b hb;exact#[o,b6 b o ho]
 generalize ac:pushCells ((U.heap.push {cls:=.type "list",dict:=pi,data:=.seq ([]:List qb).toArray}).push {cls:=.type "dict",data:=.dict #v[]}) scope.names=am;have ap:am.Ns (U.heap.push {cls:=.type "list",dict:=pi,data:=.seq ([]:List qb).toArray}).objs.size λ_=>none:=by rw[<- ac];exact(Heap.Ns.new _ (.type "dict")).keeps (pushCells_keeps _ _)
 have hk:∀b o,(U.heap.push {cls:=.type "list",dict:=pi,data:=.seq ([]:List qb).toArray}).get? b=pc o->am.get? b=pc o:=λb o e=>by rw[<- ac];exact pushCells_keeps _ _ b o (Heap.get?_push_of_some _ e)
 have bm:CellsOk am ((U.heap.push {cls:=.type "list",dict:=pi,data:=.seq ([]:List qb).toArray}).objs.size+1) (cellsFrom ((U.heap.push {cls:=.type "list",dict:=pi,data:=.seq ([]:List qb).toArray}).objs.size+1) scope.names []):=by rw[<- ac];exact HS
 clear ac;have cc:tn 0 am:=T.keep 0 _ _ t0 λb hb o e=>hk b o (b6 b o e);generalize ce:({U with heap:=U.heap.push {cls:=.type "list",dict:=pi,data:=.seq ([]:List qb).toArray}}:tt)=s3 at I3;have c0:s3.heap=U.heap.push {cls:=.type "list",dict:=pi,data:=.seq ([]:List qb).toArray}:=by rw[<- ce]
 rw[<- c0] at ap cb hk bm ⊢;generalize U.heap.objs.size=D at *;generalize d8:upd H2 D (.lst [])=H3 at *;have ci:∀al:tt,al={s3 with heap:=am}->
  codeAny (model X.prog X.w) X.A (.compLoop (.ListComp bn [#[ab,be,bp,0]] scope pos) 0 (.ref it) (.ref D) (compEnvC scope (cellsFrom (s3.heap.objs.size+1) scope.names (eM X.env scope.names [])) s3.heap.objs.size X.env)) (RR (.ref D) s3.heap.objs.size) al:=by
  rintro al rfl;have I4:=Kh (tk:=s3.toks) Sc I3 a0 cb ap hk bm;have a4:∀{H':Hp},(∀b∈fp,H' b=pi)->∀b∈fp,ny (cxC X scope (own++cap) fp s3 H3) [] H' b:=λhn b hb=>by refine#[hn b hb,(I4.ok.exf b hb).1,I4.ok.exfs b hb,.inl hb,(I4.ok.exf b hb).2,λp hp=>absurd (show p∈([]:List (qh×Obj)) from hp) (by simp)]
  refine Jq (λn s'=>∃i Y as H',Inv (cxC X scope (own++cap) fp s3 H3) [] as H' s'/\tn i s'.heap/\(∀b∈fp,H' b=pi)/\W i n Y as H') ?_ k0 #[0,[],_,_,I4,cc,λb hb=>(a0 b hb).1,w0];rintro n s5 ⟨i,Y,bd,H5,I5,cm,cn,w5⟩;rcases b5 i n Y bd H5 w5 with⟨co,hp,q⟩ | ⟨go,step⟩
  refine thn (T.done (cxC X scope (own++cap) fp s3 H3) rfl rfl rfl hc i [] s5 bd H5 _ I5 (a4 cn) cm co) λr s6 #[hr,I6]=> ?_;subst hr;obtain⟨m,hm,_⟩:=I6.loc;refine cu s3.heap.objs.size D H5 s6 m I3.sz (Vb I3.lt) (λx c e=> ?_) (λp hp=> ?_) I6.free hm (Kg I3 I6 a0) q;obtain⟨v,o,ho,_⟩:=I3.cell x c e;exact Ez (Heap.lt_size ho);exact Ez (Heap.lt_size (I3.pin p hp).1);refine thn (T.item (cxC X scope (own++cap) fp s3 H3) rfl rfl rfl hc i [] s5 bd H5 _ I5 (a4 cn) cm go) λr s6 #[u,hr,h6]=> ?_;subst hr;refine thn h6 λ_ s7 #[x,H7,I7,r7,y7,st7,fr7]=> ?_;have c1:=I7.pinned (a4 fr7) (T.obj _ _ st7);refine thn (hg s3 H3 _ s7 bd H7 x u _ c1 r7 (step x H7 y7)) λ_ s8 #[σ8,H8,I8,q8]=> ?_;refine thn (ht s3 H3 _ s8 σ8 H8 _ I8 q8) λb s9 #[H9,I9,q9]=> ?_;have again:∀{bx:St} {Hz:Hp} {sz:tt},Inv (cxC X scope (own++cap) fp s3 H3) ([]++vF fp s7.heap) bx Hz sz->Inv (cxC X scope (own++cap) fp s3 H3) [] bx Hz sz/\tn (i+1) sz.heap/\∀b∈fp,Hz b=none:=λ{bx Hz sz} Iz=>by refine#[Iz.unpinned,T.keep _ _ _ st7 λb hb o e=>(Iz.pin (b,o) (Fk _ (Fk _ (o6 hb e)))).1,λb hb=> ?_];obtain⟨o,e,d⟩:=T.obj _ _ st7 b hb;exact(Iz.pin (b,o) (Fk _ (Fk _ (o6 hb e)))).2.1
  cases b with
  | false=>
   rw[if_neg At] at q9 ⊢;obtain⟨k',bz,w'⟩:=q9;obtain⟨a1,a2,a3⟩:=again I9;exact#[k',bz,i+1,Y,σ8,H9,a1,a2,a3,w']
  | true=>
   rw[if_pos rfl] at q9 ⊢;refine thn (he s3 H3 _ s9 σ8 H9 _ I9 q9) λyv s10 #[y,H10,I10,r10,hp,hl,k',bz,w']=> ?_;refine thn (fY _ s10 σ8 H10 (.ref D) [y] (.ref D) [yv] (λv Hz=>Hz=upd H10 D (.lst (Y++[y]))) I10 rfl (.cons r10 .nil) #[D,Y,y,rfl,rfl,hp,hl,rfl]) λ_ s11 #[_,H11,I11,_,e11]=> ?_;subst e11;obtain⟨a1,a2,a3⟩:=again I11;exact#[k',bz,i+1,Y++[y],σ8,_,a1,a2,a3,w']
 have cp:=ci _ rfl;subst ce;exact codeAny_compStart_list cp (T.self _ _ _ _ _ cc cp)
theorem PTs.ok{X:Cx}(I:Inv X pins σ H s)(J:oy X scope own cap caps):closureFor scope X.env=pure (eM X.env scope.names []):=
 CC λn hn=>I.ok.has n (J.out hn)
theorem cP {U Y ab:Db} {ac:List Db} {pos:Pos} {wi:TI} {g:TG} {tc:TT} {te:TE} (hc:X.calm=qc) (Sc:oy X scope own cap caps) (hi:PI X U Y wi)
 (hg:∀fp s H,PG (cxC X scope (own++cap) fp s H) U g) (ht:∀fp s H,PTs (cxC X scope (own++cap) fp s H) ac tc) (he:∀fp s H,PE (cxC X scope (own++cap) fp s H) ab te)
 (hs:∀x,foldedSetIterable Y X.env x=pure x:=by intro _;rfl):PE X (.ListComp ab [#[U,Y,ac,0]] scope pos) (tj own.length caps wi g tc te):=by
 intro pins s σ H Q I h;rw[eval_ListComp];refine UB (use:=pi) rfl hs (PTs.ok I Sc) Sc.kind Sc.nm (thn (hi pins s σ H _ I h) λv s1 h1=>thn h1 λa1 s2 h2=> ?_);obtain⟨it,fp,tn,J,H2,e,I2,T,am,f2,q⟩:=h2;subst e;refine zJ (Q:=Q) (RR:=λan C=>compPost (model X.prog X.w) X.A X.xe pi (EP X pins σ Q) an C) hc Sc (hg fp) (ht fp) (he fp) I2 T am f2 q ?_;intro C p H' s' m h1 h2 h3 h4 h5 hn I' q';exact#[m,hn,λh' ap=>#[.ref p,H',I'.turned (it:=C) (t':=s'.toks) (λb o hb e=>ap.extBut b o hb e) h5 (S1 h2.symm) (.inr h1) h3 h4,rfl,q']]
theorem cS {U Y ab:Db} {ac:List Db} {pos al py:Pos} {wi:TI} {g:TG} {tc:TT} {te:TE} {i:Nat} {y:Str} (hc:X.calm=qc) (Sc:oy X scope own cap caps) (hi:PI X U Y wi)
 (hg:∀fp s H,PG (cxC X scope (own++cap) fp s H) U g) (ht:∀fp s H,PTs (cxC X scope (own++cap) fp s H) ac tc) (he:∀fp s H,PE (cxC X scope (own++cap) fp s H) ab te)
 (hN:X.N.Nodup) (hx:X.N[i]? =pc y) (hl:Loc X.env.scope y)
 (ap:swapsWith (.ListComp ab [#[U,Y,ac,0]] scope pos) (pc (.Name y py)) al.line X.env=pure qc)
 (hs:∀x,foldedSetIterable Y X.env x=pure x:=by intro _;rfl) (hf:X.fn y=qc\/X.env.scope.names.lookup y=pc .local:=by first | exact .inl rfl | exact .inr rfl | assumption):
 PS X (.Assign [.Name y py] (.ListComp ab [#[U,Y,ac,0]] scope pos) al) (El (tj own.length caps wi g tc te) (wt i)):=by
 intro pins s σ H D I h;rw[exec_Assign_Name_used _ _ _ _ ap];refine x0 (UU (x0 ?_));show wpAny _ _ (do let _ <- comprehension (.ListComp ab [#[U,Y,ac,0]] scope pos) scope X.env _ (newList []) wh (eval Y X.env) (pc (assign (.Name y py) X.env))) _ _ s;refine x0 (Sg (UB (use:=pc (assign (.Name y py) X.env)) (Q:=λ_ s'=>SP X pins D .next s') rfl hs (PTs.ok I Sc) Sc.kind Sc.nm
  (thn (hi pins s σ H _ I h) λv s1 h1=>thn h1 λbi s2 h2=> ?_)) (λ_ s' hq=>No (No hq)) λ_ _ e=>e)
 obtain⟨it,fp,tn,J,H2,e,I2,T,as,f2,q⟩:=h2;subst e;refine zJ (Q:=λv H'=>wt i v σ H' D.nx) (RR:=λaz C=>compPost (model X.prog X.w) X.A X.xe (pc (assign (.Name y py) X.env)) (λ_ s'=>SP X pins D .next s') az C) hc Sc (hg fp) (ht fp) (he fp) I2 T as f2 q ?_;intro C p H' s' m h1 h2 h3 h4 h5 hn I' q';show wpAny _ _ (assign (.Name y py) X.env (.ref p)) _ _ _;refine Vh (Bq I' hN hx hl (show RelV (.ref p) (.ref p) from rfl) (λs'' I'' #[a,hsb,ha]=> ?_) hf);have a0:C≠a:=by rcases ha with rfl | ha;exact h2;exact(h3 _ _ ha).symm
 exact#[m,hn.sameBut hsb a0,λh' a1=>#[_,H',I''.turned (it:=C) (t':=s''.toks) (λb o hb e=>a1.extBut b o hb e) h5 h2 (.inr h1) h3 h4,q']]
end
section
variable {X : Cx}
def LW(K:sH):R2:=λx y H Q=>∃l b xs zs,x=.ref l/\y=.ref b/\SqL K H l xs/\SqL K H b zs/\xs.length+zs.length<=sizeLine/\∀p,H p=pi->Q (.ref p) (upd H p (.lst (xs++zs)))
theorem MA:OpR X (binaryOp .Add) (LW X.K):=by
 intro pins s σ H x y v u Q I rx ry h;obtain⟨l,b,xs,zs,rfl,rfl,hH,hB,hz,q⟩:=h;cases rx;cases ry;obtain⟨U,r,pl,_⟩:=I.list hH;obtain⟨J,r2,al,_⟩:=I.list hB;obtain⟨⟨cls,dd,data,sl⟩,ho,hc,n,hd⟩:=pl.isList;obtain⟨⟨az,am,data2,an⟩,Y,ab,n2,ac⟩:=al.isList;simp only at hc hd ab ac;subst hc hd ab ac;have e:U.toArray++J.toArray=(U++J).toArray:=by simp
 have bb:=r.length;have bd:=r2.length;refine concat_meets #[_,ho,rfl] #[_,Y,rfl] noFill_list_add seq_list_add PySem.F.slot_list_add PySem.F.entry_list_add (PySem.F.args_list_add_2 _ _) (list_addW l b U.toArray J.toArray n n2 dd am sl an (by simp only[xJ];omega)) #[ho,Y, ?_];rw[e];exact#[.ref _,_,I.lnew (t':=s.toks) (r.append r2) (by rw[xL];omega),rfl,q _ I.fresh]
mutual
def RdV(K:sH)(H:Hp):Ut->V->Prop
 | .none,v=>v=.non
 | .bool b,v=>v=.bl b
 | .int i,v=>v=.int i
 | .str x,v=>v=.str x
 | .list ds,v=>∃a xs,v=.ref a/\SqL K H a xs/\uu K H ds xs
 | .tuple ds,v=>∃a xs,v=.ref a/\SqT K H a xs/\uu K H ds xs
 | .dict _,_=>False
def uu(K:sH)(H:Hp):List Ut->List V->Prop
 | [],xs=>xs=[]
 | d::ds,xs=>∃v r,xs=v::r/\RdV K H d v/\uu K H ds r
end
mutual
theorem n9{pins:List (qh×Obj)}{σ:St}{H:Hp}{s:tt}(I:Inv X pins σ H s):∀{d:Ut} {v:V} {u:qb},RdV X.K H d v->RelV v u->∃J,Reads s.heap u d J
 | .none,v,u,h,r=>by unfold RdV at h;subst h;cases (show u=Value.none from r);exact#[_,.none]
 | .bool b,v,u,h,r=>by unfold RdV at h;subst h;cases (show u=Value.bool b from r);exact#[_,.bool b]
 | .int i,v,u,h,r=>by unfold RdV at h;subst h;obtain⟨t,rfl⟩:=(show ∃t,u=Value.int i t from r);exact#[_,.int i t]
 | .str x,v,u,h,r=>by unfold RdV at h;subst h;obtain⟨t,rfl⟩:=(show ∃t,u=Value.str x t from r);exact#[_,.str x t]
 | .list ds,v,u,h,r=>by unfold RdV at h;obtain⟨a,xs,rfl,hs,hr⟩:=h;cases (show u=Value.ref a from r);obtain⟨U,Y,pl,_⟩:=I.list hs;obtain⟨o,ho,hc,n,hd⟩:=pl.isList;obtain⟨J,ra⟩:=sV I hr Y;exact#[_,.list ho hc hd (by simpa using ra)]
 | .tuple ds,v,u,h,r=>by unfold RdV at h;obtain⟨a,xs,rfl,hs,hr⟩:=h;cases (show u=Value.ref a from r);obtain⟨U,Y,⟨o,ho,hc,n,hd⟩,_⟩:=I.tuple hs;obtain⟨J,ra⟩:=sV I hr Y;exact#[_,.tuple ho hc hd (by simpa using ra)]
 | .dict _,v,u,h,r=>by unfold RdV at h;exact h.elim
theorem sV{pins:List (qh×Obj)}{σ:St}{H:Hp}{s:tt}(I:Inv X pins σ H s):∀{ds:List Ut} {xs:List V} {us:List qb},uu X.K H ds xs->Vals xs us->∃J,ReadsAll s.heap us ds J
 | [],xs,us,h,r=>by unfold uu at h;subst h;cases r;exact#[_,.nil]
 | d::ds,xs,us,h,r=>by
  unfold uu at h;obtain⟨v,w,rfl,h1,h2⟩:=h;cases r with
  | cons U Y=>
   obtain⟨J,a1⟩:=n9 I h1 U;obtain⟨bs,a2⟩:=sV I h2 Y;exact#[_,.cons a1 a2]
end
def NI(K:sH):R2:=λx y H Q=>∃d e,RdV K H d x/\RdV K H e y/\SeqAt.shaped d=qc/\SeqAt.shaped e=qc/\Q (.bl (PyData.eqv d e)) H
def Of(K:sH):R2:=λx y H Q=>∃d e,RdV K H d x/\RdV K H e y/\SeqAt.shaped d=qc/\SeqAt.shaped e=qc/\Q (.bl (!PyData.eqv d e)) H
theorem ND(hu:X.A.units+64<cLine):OpR X (compareOp .Eq) (NI X.K):=by intro pins s σ H x y v u Q I J U h;obtain⟨d,e,h1,h2,s1,s2,q⟩:=h;obtain⟨as,Y⟩:=n9 I h1 J;obtain⟨bs,rb⟩:=n9 I h2 U;exact SeqAt.compareEq_shaped Y rb s1 s2 hu #[.bl _,H,I,rfl,q]
theorem N6(hu:X.A.units+64<cLine):OpR X (compareOp .NotEq) (Of X.K):=by intro pins s σ H x y v u Q I J U h;obtain⟨d,e,h1,h2,s1,s2,q⟩:=h;obtain⟨as,Y⟩:=n9 I h1 J;obtain⟨bs,rb⟩:=n9 I h2 U;exact SeqAt.compareNe_shaped Y rb s1 s2 hu #[.bl _,H,I,rfl,q]
def O9(K:sH)(H:Hp)(x:V)(T:String):Prop:=match x with
 | .non=>T="NoneType"
 | .bl _=>T="bool"
 | .int _=>T="int"
 | .str _=>T="str"
 | .ref a=>(T="list" /\∃xs,SqL K H a xs)\/(T="tuple" /\∃xs,SqT K H a xs)
 | _=>False
def LH(K:sH):List V->Hp->VK->Prop:=λxs H Q=>∃x c T b,xs=[x,.ty c]/\O9 K H x T/\VG K (.type T) (.type c)=pc b/\Q (.bl b) H
theorem Ea:mY X (.builtin "isinstance") (LH X.K):=by
 intro pins s σ H xs us Q I r h;obtain⟨x,c,T,b,rfl,U,hk,q⟩:=h;obtain⟨u,w,rfl,Y,r2⟩:=vals2 r;cases (show w=Value.type c from r2);have J:∀tk,EP X pins σ Q (.bool b) {s with toks:=tk}:=λtk=>#[.bl b,H,I.tok tk,rfl,q];cases x with
 | non=>cases (show u=Value.none from Y);cases (show T="NoneType" from U);exact SK PySem.W.kitx_none I.kIn TC hk (λz=>nomatch z) J
 | bl y=>cases (show u=Value.bool y from Y);cases (show T="bool" from U);exact SK PySem.W.kitx_bool I.kIn TC hk (λz=>nomatch z) J
 | int i=>obtain⟨t,e⟩:=(show ∃t,u=Value.int i t from Y);cases e;cases (show T="int" from U);exact SK PySem.W.kitx_int I.kIn TC hk (λz=>nomatch z) J
 | str y=>obtain⟨t,e⟩:=(show ∃t,u=Value.str y t from Y);cases e;cases (show T="str" from U);exact SK PySem.W.kitx_str I.kIn TC hk (λz=>nomatch z) J
 | ref a=>
  cases (show u=Value.ref a from Y);rcases U with⟨rfl,xs,hs⟩ | ⟨rfl,xs,hs⟩
  obtain⟨ab,rv,⟨o,n,ho,hc,_⟩,_⟩:=I.list hs;exact SK PySem.W.kitx_list I.kIn #[o,ho,hc] hk (λz=>nomatch z) J;obtain⟨ab,rv,⟨o,ho,hc,_⟩,_⟩:=I.tuple hs;exact SK PySem.W.kitx_tuple I.kIn #[o,ho,hc] hk (λz=>nomatch z) J
 | byt y=>exact sn U
 | flt y=>exact sn U
 | ty y=>exact sn U
end
structure Ri(S:List qh)(e:qh)(oe:Obj)(h h':FS)(T:qh):Prop where
 keep:∀b o,h.get? b=pc o->b∉S->b≠e->h'.get? b=pc o
 slot:∀b o,h.get? b=pc o->b∈S->∃sl,h'.get? b=pc {o with slots:=sl}
 new:h.objs.size<=T
 ne:T≠e
 exc:∃oe' vs,h'.get? e=pc oe'/\oe'.cls=oe.cls/\oe'.dict=oe.dict/\oe'.data=.fields vs/\vs[1]? =pc (.ref T)
 trc:∃oT ts,h'.get? T=pc oT/\oT.data=.fields ts/\ts[3]? =pc .none
section
variable {M : Model} {A : Je} {E : qb → tt → Prop} {s : tt}
structure Trc(h:FS)(e:qh)(oe:Obj)(T:qh):Prop where
 exc:h.get? e=pc oe
 dat:∃vs,oe.data=.fields vs/\vs[1]? =pc (.ref T)
 ne:T≠e
 trc:∃oT ts,h.get? T=pc oT/\oT.data=.fields ts/\ts[3]? =pc .none
end
structure Pc(P:B3)(w:Ch)(fs:List qh)(H:Hp)(h:FS)(x:qh)(H':Hp)(h':FS)(oe:Obj)(T C:qh):Prop where
 un:Un fs [] H H' h h'
 hok:HOk P w H' h'
 nx:h.get? x=pi
 nT:h.get? T=pi
 hx:H' x=pi
 hT:H' T=pi
 tr:Trc h' x oe T
 cls:oe.cls=.ref C
def CXE(P:B3)(w:Ch):CXT:=λouter H s E e s'=>∃x J T H' C,e=.ref x/\s'.os=s.os/\Tf s'.gens/\Pc P w (frs outer) H s.heap x H' s'.heap J T C/\E (.ref C) J.dict H'
section
variable {X : Cx} {pins : List (qh × Obj)} {σ : St} {H : Hp} {s : tt}
end
section
variable {P : B3} {w : Ch} {K : sH} {mg : Str → Option qb} {base : FS} {N : List Str} {qual : Str} {scope : Sr} {f : qh} {cd : qb} {A : Je} {outer : List Env} {s0 : tt} {H0 : Hp} {E : XK}
end
section
variable {X : Cx} {E : XK} {c : Str} {C : qh} {np cpos pos : Pos} {e : Db} {es : List Db} {t : TA} {B newId initId : String} {bmB : List qb}
end
section
variable {P : B3} {w : Ch} {K : sH} {mg : Str → Option qb} {base : FS}
theorem Fun.okE {CX:CXT} {N ps:List Str} {k:Nat} {sp:Sp} (F:Fun K x qual st f fd) (S:aY N ps (aL st)) (U:∀vs H Q E,sp vs H Q E->vs.length=ps.length)
 (hb:∀(J:qb) (A:Je) (outer:List Env) (s:tt) (H:Hp) (vs:List V) (Q:VK) (E:XK),fk k (A.deeper (envOfC qual (aL st) s.heap.objs.size f J))->sp vs H Q E->
  ∃t,PSs (uP CX P w K mg base N qual (aL st) f J A outer s H E) (dq st) t/\t {nx:=λ_ H'=>Q .non H',rt:=Q} (start N vs) H):kI P w K mg base CX (k+1) f fd ps sp:=by
 obtain⟨oc,od,kV,ab,pm,an,J,ct,ac,rfl,look,Y⟩:=F.ex;exact OX look Y S U (hb J)
end
theorem KU {l:UH} {n k:Nat} {q:B3} {J:List Str} {XP:(Str->Option qb)->FS->Prop} {YP:Ch->FS->Prop} {d:DefRec} {K:Params->sH} {sp:sH->Sp} {x:Str} (hn:l.most=pc n) (U:n<=sizeLine)
 (Y:d.params.defaults=[]) (hr:fk k callerA) (hi:importsNone q=qc) (hY:∀(w:Ch) (h:FS),YP w h->(K w.params).In h) (F:∀(w:Ch) (mg:Str->Option qb) (fa:qh) (h:FS),(K w.params).In h->h.Ns mainGlobals mg->mg d.name=pc (.ref fa)->
  ∃fd:RL,(∀(s:tt) (u:qb),TZ s fd #[[u],[]] [(x,u)])/\∀base:FS,(K w.params).In base->base.Ns mainGlobals mg->kI l.prog w (K w.params) mg base (CXE l.prog w) k fa fd [x] (sp (K w.params)))
 (ab:∀(K:sH) (H:Hp) (a:qh) (ns:List Int),ns.length<=n->G3 H->SqL K H a (ns.map V.int)->sp K [.ref a] H (λv _=>v=.bl qc) λ_ _ _=>False):VJ q J XP YP l.row.toRowW d [] (λf vs=>VD f vs):=
 Nv (K:=K) (CX:=λw=>CXE l.prog w) (sp:=λw=>sp (K w.params)) hn U Y hr hi hY F (λw H a ns h1 h2 h3=>ab (K w.params) H a ns h1 h2 h3) λ_ _ _ _ _ #[_,_,_,_,_,_,_,_,_,z]=>z
section
variable {X : Cx} {CX : CXT} {k : Nat} {f C : qh} {fd : RL} {ps : List Str} {sp : Sp} {dvs : List V} {ds : List qb} {Es : St → XK} {x m : Str} {p pos apos : Pos} {e o : Db} {es : List Db} {ta : TE} {t : TA}
end
section
variable {X : Cx} {pins : List (qh × Obj)} {σ : St} {H : Hp} {s : tt} {E : qb → tt → Prop}
end
def exO(a C:qh):HO:=.ext λh=>∃o,h.get? a=pc o/\o.cls=.ref C/\o.dict=pi/\(∀cd,o.data≠ .cls cd)
section
variable {X : Cx} {pins : List (qh × Obj)} {σ : St} {H : Hp} {s : tt} {v : qb}
end
structure Q3(X:Cx)(pins:List (qh×Obj))(H:Hp)(s:tt)(x C:qh):Prop where
 tr:∃oe T,Trc s.heap x oe T/\oe.cls=.ref C/\oe.dict=pi
 hx:H x=pi
 h0:X.s₀.heap.get? x=pi
 nl:x≠X.env.locals
 nc:∀y c,X.env.cells.lookup y=pc c->c≠x
 np:∀p∈X.pn++pins,p.1≠x
section
variable {X : Cx} {c : Str} {Dc : qh} {np pos : Pos} {b0 : S0} {suite : List S0} {rest : List ExceptHandler} {sub : qh → Option Bool} {tb : TS} {th : qh → TS}
end
open PySem PySem.Spec PyProof.Rows PySem.W
structure ExK(K:sH)(D:qh):Prop where
 ga:findIn K (.ref D) "__getattribute__" =pc (pc (.builtin "BaseException.__getattribute__"))
 hk:findIn K (.ref D) "__getattr__" =pc pi
 cl:findIn K (.ref D) "__class__" =pc (pc (.builtin "object.__class__"))
 gt:specialIn K (.builtin "object.__class__") "__get__" =pc (pc (.builtin "getset_descriptor.__get__"))
 tk:takesIn K (.builtin "object.__class__")=pc qc
 ob:mroIn K D (.type "object")=pc qc
 be:mroIn K D (.type "BaseException")=pc qc
section
variable {prog : B3} {w : Ch} {A : Je} {E : qb → tt → Prop} {s : tt} {K : sH} {x D : qh} {ox : Obj}
end
open PySem PySem.Spec PyProof.Rows
section
variable {X : Cx} {pins : List (qh × Obj)} {σ : List (Option V)} {H : Hp} {s : tt} {h' : FS}
theorem Inv.turnedL{t':Nat}{ch:List qh}(I:Inv X pins σ H s)(k:∀b o,b∉ch->s.heap.get? b=pc o->h'.get? b=pc o)(U:∀b∈ch,ny X pins H b):Inv X pins σ H {s with heap:=h',toks:=t'}:=by
 have J:∀b u,H b=pc u->b∉ch:=λb u e z=>by rw[(U b z).1] at e;cases e
 refine I.step (g':=s.gens) (d':=s.drawn) (ch:=ch) (λb hb=> ?_) (λb o _ _ hc e _=>k b o hc e) (λb o _ _ hc e _=>#[o.slots,k b o hc e]) (λ_ _ _ _ n=>n)
  (λb o hc e=>#[o,k b o hc e]) (λ_ _ e=>e) (λ_ _ _ e=>e) (λb ps e=>#[#v[],by rw[e];simp]) (λm hm=> ?_) (λb u e=> ?_) I.bare
 obtain⟨f0,Y,f2,f3,f4,f5⟩:=U b hb;exact#[f3,Y,f4,f5];obtain⟨o,es,ep,ho,r⟩:=hm;exact#[o,es,ep,k _ o (λz=>(U _ z).2.1 rfl) ho,r];refine(I.hok b u e).stay (λc v hc q=>k c v ?_ q) (λ_ q=>q) λ_ _ q=>q;rcases hc with z | z
 rw[z];exact J b u e;exact J c _ z
theorem Inv.turnedT {t':Nat} {ch:List qh} {T:qh} {xs:List V} (I:Inv X pins σ H s) (k:∀b o,b∉ch->s.heap.get? b=pc o->h'.get? b=pc o) (U:∀b∈ch,ny X pins H b) (hT:s.heap.objs.size<=T)
 (Y:iN X.prog X.w (upd H T (.tup xs)) h' T (.tup xs)):Inv X pins σ (upd H T (.tup xs)) {s with heap:=h',toks:=t'}:=by
 have hn:H T=none:=I.hok.fresh hT;have J:∀b u,H b=pc u->b∉ch:=λb u e z=>by rw[(U b z).1] at e;cases e
 refine I.step (g':=s.gens) (d':=s.drawn) (ch:=ch) (λb hb=> ?_) (λb o _ _ hc e _=>k b o hc e) (λb o _ _ hc e _=>#[o.slots,k b o hc e]) (λb o _ e n=> ?_)
  (λb o hc e=>#[o,k b o hc e]) (λb xs e=>by rw[aZ (fN e hn)];exact e) (λb o u e=>by rw[aZ (fN e hn)];exact e) (λb ps e=>#[#v[],by rw[aZ (fN e hn),e];simp]) (λm hm=> ?_) (λb u e=> ?_) I.bare
 obtain⟨f0,f1,f2,f3,f4,f5⟩:=U b hb;exact#[f3,f1,f4,f5];have hb:b≠T:=λz=>by subst z;exact absurd (AT (Heap.lt_size e) hT) (RO _)
 rw[aZ hb];exact n;obtain⟨o,es,ep,ho,r⟩:=hm;exact#[o,es,ep,k _ o (λz=>(U _ z).2.1 rfl) ho,r];by_cases hb:b=T;subst hb;rw[cQ] at e;cases e;exact Y;rw[aZ hb] at e;refine(I.hok b u e).stay (λc v hc q=>k c v ?_ q) (λc q=>by rw[aZ (fN q hn)];exact q) λc xs q=>by rw[aZ (fN q hn)];exact q
 rcases hc with z | z;rw[z];exact J b u e;exact J c _ z
end
def Itz(K:sH)(a b:qh):It:=
 #[λi H=>∃xs ys x y,SqL K H a xs/\SqL K H b ys/\xs[i]? =pc x/\ys[i]? =pc y,
  λi H v H'=>∃T x y,H T=pi/\v=.ref T/\H'=upd H T (.tup [x,y])/\(∀xs,SqL K H a xs->xs[i]? =pc x)/\∀ys,SqL K H b ys->ys[i]? =pc y,
  λi H=>∃xs ys,SqL K H a xs/\SqL K H b ys/\(xs.length<=i\/ys.length<=i)]
def Ite(K:sH)(a:qh):It:=
 #[λi H=>∃xs x,SqL K H a xs/\xs[i]? =pc x,
  λi H v H'=>∃T x,H T=pi/\v=.ref T/\H'=upd H T (.tup [.int i,x])/\∀xs,SqL K H a xs->xs[i]? =pc x,
  λi H=>∃xs,SqL K H a xs/\xs.length<=i]
def Its(x:Str):It:=#[λi _=>i<x.cps.size,λi H v H'=>H'=H/\∃c,x.cps[i]? =pc c/\v=.str #[#v[c]],λi _=>x.cps.size<=i]
theorem Jb{h:FS}{T:qh}{x y:V}{u v:qb}(J:RelV x u)(U:RelV y v)(Y:h.IsTuple T #v[u,v]):iN P w H h T (.tup [x,y]):=by refine#[by simp only[xa,UI];rw[SO];decide,[u,v],.cons J (.cons U .nil), ?_];exact Y
theorem Ly{P:B3}{w:Ch}{K:sH}{elts:List Db}{kk:Nat}{tp:Pos}{z TI TO i1 i2 a b:qh}(D:ZipApart z TI TO i1 i2 a b):
 Turn P w K (.Tuple elts kk tp) (Itz K a b) [z,TI,TO,i1,i2] z (λi h=>IsZip h z TI TO .none/\IsPair h TI (.ref i1) (.ref i2)/\(∃u v,IsPair h TO u v)/\h.IsListIter i1 a i/\h.IsListIter i2 b i) where
 mem:=by simp
 obj:=λi h st c hc=>by
  obtain⟨q1,q2,⟨u,v,q3⟩,⟨o1,e1,c1,d1⟩,⟨o2,e2,c2,d2⟩⟩:=st;simp only[u8,Se,or_false] at hc;rcases hc with rfl | rfl | rfl | rfl | rfl
  exact#[_,q1,λv z=>by have z':Data.fields _=Data.cell v:=z;cases z'];exact#[_,q2,λv z=>by have z':Data.seq _ _=Data.cell v:=z;cases z'];exact#[_,q3,λv z=>by have z':Data.seq _ _=Data.cell v:=z;cases z'];exact#[o1,e1,λv z=>by rw[d1] at z;cases z];exact#[o2,e2,λv z=>by rw[d2] at z;cases z]
 keep:=λi h h' st k=>by obtain⟨q1,q2,⟨u,v,q3⟩,q4,q5⟩:=st;exact#[k z (by simp) _ q1,k TI (by simp) _ q2,#[u,v,k TO (by simp) _ q3],q4.at λo e=>k i1 (by simp) o e,q5.at λo e=>k i2 (by simp) o e]
 item:=by
  intro X hP hw hK hc i pins s σ H E I hf st hg;subst hP hw hK;obtain⟨xs,ys,x,y,hq1,hq2,hx,hy⟩:=hg;obtain⟨its1,rv1,p1,hz1⟩:=I.list hq1;obtain⟨its2,rv2,p2,hz2⟩:=I.list hq2;obtain⟨u,hu,ru⟩:=rv1.get hx;obtain⟨v,hv,rv⟩:=rv2.get hy;obtain⟨q1,q2,q3,q4,q5⟩:=id st;have W:=WalksT.zip2 (prog:=X.prog) (w:=X.w) (A:=X.A) (I.ok.hd hc) z TI TO i1 i2 a b D its1.toArray its2.toArray;have hi1:i<its1.length:=(xb.mp hu).1;have hi2:i<its2.length:=(xb.mp hv).1;refine W.item i s _ _ (by simp;omega) #[q1,q2,q3,q4,q5,p1.isList,p2.isList] λT vals h1 tk hP hT isT mid kk1=>#[.ref T,rfl,W.go elts _ tp i T _ _ _ mid λh2 st2 kk2=> ?_];obtain⟨u',v',e1,e2,rfl⟩:=hP;rw[show its1.toArray[i]? =its1[i]? by simp,hu] at e1;rw[show its2.toArray[i]? =its2[i]? by simp,hv] at e2;cases e1;cases e2;have nT:T∉([z,TO,i1,i2]:List qh):=W.apart i T _ mid;have sub:∀c,c∈([z,TO,i1,i2]:List qh)->c∈([z,TI,TO,i1,i2]:List qh):=λc hc=>by simp only[u8,Se,or_false] at hc ⊢;rcases hc with h | h | h | h <;> simp[h]
  have kk:∀c o,c∉([z,TO,i1,i2]:List qh)->s.heap.get? c=pc o->h2.get? c=pc o:=λc o hc e=>kk2 c o hc (kk1 c o hc e);have isT2:h2.IsTuple T #v[u,v]:=by obtain⟨o,e,c,d⟩:=isT;exact#[o,kk2 T o nT e,c,d]
  have I2:Inv X pins σ (upd H T (.tup [x,y])) {s with heap:=h2,toks:=tk}:=I.turnedT kk (λc hc=>hf c (sub c hc)) hT (Jb ru rv isT2);refine#[.ref T,_,I2,rfl,#[T,x,y,I.hok.fresh hT,rfl,rfl,λxs' h=>by rw[I.list_inj h hq1];exact hx,λys' h=>by rw[I.list_inj h hq2];exact hy],#[st2.1,st2.2.1,st2.2.2.1,st2.2.2.2.1,st2.2.2.2.2.1],λc hc=> ?_];have hc0:=(hf c hc).1;rw[aZ (λe=> ?_)];exact hc0;subst e;simp only[u8,Se,or_false] at hc;rcases hc with h | h | h | h | h
  exact nT (by simp[h]);have:TI<s.heap.objs.size:=Heap.lt_size q2;rw[<- h] at this;exact absurd (AT this hT) (RO _);exact nT (by simp[h]);exact nT (by simp[h]);exact nT (by simp[h])
 done:=by
  intro X hP hw hK hc i pins s σ H E I hf st hg;subst hP hw hK;obtain⟨xs,ys,hq1,hq2,hx⟩:=hg;obtain⟨its1,rv1,p1,hz1⟩:=I.list hq1;obtain⟨its2,rv2,p2,hz2⟩:=I.list hq2;have l1:=rv1.length;have l2:=rv2.length;obtain⟨q1,q2,⟨u,v,q3⟩,q4,q5⟩:=id st;refine wpAny_pyNext_zip_end (I.ok.hd hc) D q1 q2 q3 q4 q5 p1.isList p2.isList (by rcases hx with h | h;left;simp;omega;right;simp;omega) λh' hk=>#[rfl, ?_]
  exact I.turnedL (t':=s.toks) (ch:=[z,TI,TO,i1,i2]) (λc o hc e=>hk c o (λx=>hc (by simp[x])) (λx=>hc (by simp[x])) (λx=>hc (by simp[x])) (λx=>hc (by simp[x])) e) hf
 self:=λ_ _ _ _ _ st h=>wpAny_pyIter_zip st.1 h
theorem Io{P:B3}{w:Ch}{K:sH}{elts:List Db}{kk:Nat}{tp:Pos}{e it a:qh}(hei:e≠it)(hle:a≠e)(hli:a≠it):
 Turn P w K (.Tuple elts kk tp) (Ite K a) [e,it] e (λi h=>(∃old,IsEnum h e it i old)/\h.IsListIter it a i) where
 mem:=by simp
 obj:=λi h st c hc=>by
  obtain⟨⟨old,q1⟩,⟨o1,e1,c1,d1⟩⟩:=st;simp only[u8,Se,or_false] at hc;rcases hc with rfl | rfl
  exact#[_,q1,λv z=>by have z':Data.fields _=Data.cell v:=z;cases z'];exact#[o1,e1,λv z=>by rw[d1] at z;cases z]
 keep:=λi h h' st k=>by obtain⟨⟨old,q1⟩,q4⟩:=st;exact#[#[old,k e (by simp) _ q1],q4.at λo e'=>k it (by simp) o e']
 item:=by
  intro X hP hw hK hc i pins s σ H E I hf st hg;subst hP hw hK;obtain⟨xs,x,hq1,hx⟩:=hg;obtain⟨its1,rv1,p1,hz1⟩:=I.list hq1;obtain⟨u,hu,ru⟩:=rv1.get hx;obtain⟨q1,q4⟩:=id st;have W:=WalksT.enumerate (prog:=X.prog) (w:=X.w) (A:=X.A) (I.ok.hd hc) e it a hei hle hli its1.toArray;have hi1:i<its1.length:=(xb.mp hu).1;refine W.item i s _ _ (by simpa using hi1) #[q1,q4,p1.isList] λT vals h1 tk hP hT isT mid kk1=>#[.ref T,rfl,W.go elts _ tp i T _ _ _ mid λh2 st2 kk2=> ?_];obtain⟨t,u',e1,rfl⟩:=hP;rw[show its1.toArray[i]? =its1[i]? by simp,hu] at e1;cases e1;have nT:T∉([e,it]:List qh):=W.apart i T _ mid;have kk:∀c o,c∉([e,it]:List qh)->s.heap.get? c=pc o->h2.get? c=pc o:=λc o hc e=>kk2 c o hc (kk1 c o hc e);have isT2:h2.IsTuple T #v[.int i t,u]:=by obtain⟨o,e,c,d⟩:=isT;exact#[o,kk2 T o nT e,c,d]
  have I2:Inv X pins σ (upd H T (.tup [.int i,x])) {s with heap:=h2,toks:=tk}:=I.turnedT kk hf hT (Jb #[t,rfl] ru isT2);refine#[.ref T,_,I2,rfl,#[T,x,I.hok.fresh hT,rfl,rfl,λxs' h=>by rw[I.list_inj h hq1];exact hx],#[st2.1,st2.2.1],λc hc=> ?_];have hcT:c≠T:=λz=>by subst z;exact nT hc
  rw[aZ hcT];exact(hf c hc).1
 done:=by intro X hP hw hK hc i pins s σ H E I hf st hg;subst hP hw hK;obtain⟨xs,hq1,hx⟩:=hg;obtain⟨its1,rv1,p1,hz1⟩:=I.list hq1;have l1:=rv1.length;obtain⟨⟨old,q1⟩,q4⟩:=id st;refine wpAny_pyNext_enum_end (I.ok.hd hc) q1 q4 p1.isList (by simp;omega) λh' hk=>#[rfl, ?_];exact I.turnedL (t':=s.toks) (ch:=[e,it]) (λc o hc e'=>hk c o (λx=>hc (by simp[x])) e') hf
 self:=λ_ _ _ _ _ st h=>let #[_,q]:=st.1;Vg q h
theorem J5{tg:Db}{it:qh}(x:Str)(t:Tok)(ty:String)(hty:ty="str_ascii_iterator" \/ty="str_iterator"):Turn P w K tg (Its x) [it] it (λi h=>h.IsStrIter it ty x t i) where
 mem:=by simp
 obj:=λi h st b hb=>by
  have e:b=it:=by simpa using hb
  subst e;obtain⟨o,e,c,d⟩:=st;exact#[o,e,λv z=>by rw[d] at z;cases z]
 keep:=λi h h' st k=>let #[o,ho,r]:=st;#[o,k it (by simp) o ho,r]
 item:=by
  intro X hP hw hK hc i pins s σ H E I hf st hg;subst hP hw hK;have hg:i<x.cps.size:=hg;have W:Walks X.prog X.w X.A it [it] [it] x.cps.size (SignAt x) (λi h=>h.IsStrIter it ty x t i):=by rcases hty with rfl | rfl;exact Walks.strAscii (I.ok.hd hc) it x t;exact Walks.strWide (I.ok.hd hc) it x t
  refine W.item i s _ _ hg st λv h' tk hv st' kk=> ?_;obtain⟨c,u,hc',rfl⟩:=hv;have I1:Inv X pins σ H {s with heap:=h',toks:=tk}:=I.turnedL kk hf;obtain⟨o,e,hc1,d⟩:=id st';exact#[_,rfl,Ht (s:={s with heap:=h',toks:=tk}) (n:=ty) e hc1 d (by rcases hty with rfl | rfl <;> decide) #[.str #[#v[c]],H,I1,#[u,rfl],#[rfl,c,hc',rfl],st',λb hb=>(hf b hb).1]]
 done:=by
  intro X hP hw hK hc i pins s σ H E I hf st hg;subst hP hw hK;have hg:x.cps.size<=i:=hg;rcases hty with rfl | rfl
  exact wpAny_pyNext_ascii_end (I.ok.hd hc) st (by simp;omega) λh' eb=>#[rfl,I.turnedL (t':=s.toks) (ch:=[it]) (λb o hb e=>eb b o (λz=>hb (by simp[z])) e) hf];exact wpAny_pyNext_wide_end (I.ok.hd hc) st (by simp;omega) λh' eb=>#[rfl,I.turnedL (t':=s.toks) (ch:=[it]) (λb o hb e=>eb b o (λz=>hb (by simp[z])) e) hf]
 self:=λ_ _ _ _ _ st h=>by rcases hty with rfl | rfl;exact wpAny_pyIter_striter_ascii st h;exact wpAny_pyIter_striter_wide st h
section
variable {X : Cx} {tg : Db}
def KR(K:sH)(ta:TA):TI:=λσ H R=>ta σ H λvs H1=>∃a b,vs=[.ref a,.ref b]/\(∃xs,SqL K H1 a xs)/\(∃ys,SqL K H1 b ys)/\R (Itz K a b) H1
def LI(K:sH)(ta:TA):TI:=λσ H R=>ta σ H λvs H1=>∃a,vs=[.ref a]/\(∃xs,SqL K H1 a xs)/\R (Ite K a) H1
def NO(te:TE):TI:=λσ H R=>te σ H λx H1=>∃z,x=.str z/\R (Its z) H1
theorem ou{J:List Db}{kk:Nat}{tp:Pos}{a b:Db}{ta:TA}{p pos:Pos}(hg:Gl X "zip")(hm:X.mg "zip" =pi)(ha:PA X [a,b] ta)(hs:starEach [a,b] X.env=[(wh,eval a X.env),(wh,eval b X.env)]:=by rfl)(U:starEach [b] X.env=[(wh,eval b X.env)]:=by rfl):
 PI X (.Tuple J kk tp) (.Call (.Name "zip" p) [a,b] [] pos) (KR X.K ta):=by
 intro pins s σ H R I h;refine Call_ (pP I hg hm Boot.«zip» (RT (thn (ha pos pins s σ H _ I h) λus s1 #[vs,H1,I1,r1,q1]=> ?_) (by rw[hs,U]) (by rw[U];rfl)));obtain⟨l1,l2,e,⟨xs,Y⟩,⟨ys,ab⟩,q⟩:=q1;subst e;obtain⟨u,v,rfl,r,r'⟩:=vals2 r1;cases r;cases r';obtain⟨ap,bb,p1,bd⟩:=I1.list Y;obtain⟨as,be,p2,bi⟩:=I1.list ab;refine call_zip_2 p1.isList p2.isList λh' hz ac al am an bm hk=> ?_;have a1:l1<s1.heap.objs.size:=by obtain⟨_,e,_⟩:=p1.isList;exact Heap.lt_size e
 have a2:l2<s1.heap.objs.size:=by obtain⟨_,e,_⟩:=p2.isList;exact Heap.lt_size e
 refine wpAny_pyIter_zip hz #[_,_,_,_,H1,rfl,I1.kept (t':=s1.toks) hk,Ly (zipApart_new a1 a2),#[hz,ac,#[_,_,al],am,an],λb hb=> ?_,q];have:s1.heap.objs.size<=b:=by simp only[u8,Se,or_false] at hb;rcases hb with rfl | rfl | rfl | rfl | rfl <;> omega
 exact I1.fpOk this (I1.hok.fresh this)
theorem sv{J:List Db}{kk:Nat}{tp:Pos}{a:Db}{ta:TA}{p pos:Pos}(hg:Gl X "enumerate")(hm:X.mg "enumerate" =pi)(ha:PA X [a] ta)(hs:starEach [a] X.env=[(wh,eval a X.env)]:=by rfl):
 PI X (.Tuple J kk tp) (.Call (.Name "enumerate" p) [a] [] pos) (LI X.K ta):=by
 intro pins s σ H R I h;refine Call_ (pP I hg hm Boot.«enumerate» (RT (thn (ha pos pins s σ H _ I h) λus s1 #[vs,H1,I1,r1,q1]=> ?_) hs rfl));obtain⟨l1,e,⟨xs,U⟩,q⟩:=q1;subst e;obtain⟨u,rfl,ru⟩:=vals1 r1;cases ru;obtain⟨ac,as,p1,az⟩:=I1.list U;refine call_enumerate_list p1.isList λh' hz Y a0 hk=> ?_;have a1:l1<s1.heap.objs.size:=by obtain⟨_,e,_⟩:=p1.isList;exact Heap.lt_size e
 refine Vg hz #[_,_,_,_,H1,rfl,I1.kept (t':=s1.toks) hk,Io (e:=s1.heap.objs.size+1) (it:=s1.heap.objs.size) (a:=l1) (Nat.succ_ne_self _) (Ez (Tl a1)) (Ez a1),#[#[_,hz],Y],λb hb=> ?_,q];have:s1.heap.objs.size<=b:=by simp only[u8,Se,or_false] at hb;rcases hb with rfl | rfl <;> omega
 exact I1.fpOk this (I1.hok.fresh this)
theorem JG{l:Db}{tl:TE}(Y:PE X l tl):PI X tg l (NO tl):=by
 intro pins s σ H R I h;refine thn (Y pins s σ H _ I h) λv s1 #[x,H1,I1,r1,q1]=> ?_;obtain⟨z,e,q⟩:=q1;subst e;obtain⟨t,rfl⟩:=r1;have J:∀(ty:String),(ty="str_ascii_iterator" \/ty="str_iterator")->PIE X pins σ tg R (.ref s1.heap.objs.size) {s1 with heap:=s1.heap.push {cls:=.type ty,data:=.fields #v[.str z t,.int 0 0]}}:=λty U=>by
  refine#[s1.heap.objs.size,[s1.heap.objs.size],_,_,H1,rfl,I1.kept (t':=s1.toks) λb o e=>Heap.get?_push_of_some _ e,J5 z t ty U,#[_,Heap.get?_push_size _ rfl,rfl,rfl],λb hb=> ?_,q];have e:b=s1.heap.objs.size:=by simpa using hb
  subst e;exact I1.fpOk (vr _) (I1.hok.fresh (vr _))
 cases ha:z.cps.all (· < 128);exact wpAny_pyIter_wide ha (J _ (.inr rfl));exact wpAny_pyIter_ascii ha (J _ (.inl rfl))
theorem t6:∀{ns:List Int} {J:List qb},Vals (ns.map V.int) J->Sn J ns
 | [],_,r=>by cases r;exact .nil
 | n::ns,_,r=>by
  cases r with
  | cons U Y=>
   obtain⟨t,rfl⟩:=U;exact .cons _ _ (t6 Y)
theorem qK(hc:X.calm=true:=by rfl):mY X (.builtin "sum") (λxs H Q=>∃(p:qh) (ns:List Int),xs=[.ref p]/\SqL X.K H p (ns.map V.int)/\Q (.int ns.sum) H):=by intro pins s σ H xs us Q I r h;obtain⟨p,ns,rfl,hq,q⟩:=h;obtain⟨u,rfl,ru⟩:=vals1 r;cases ru;obtain⟨J,rv,pl,hz⟩:=I.list hq;have Y:=t6 rv;obtain⟨xs,U⟩:=Y.allInts.items;have hn:numsOf J=ns:=Y.numsOf;rw[show J=J.toArray.toList by simp,U,nums_intItems] at hn;refine sum_intListG (I.ok.hd hc) (U▸pl.isList) λh' tk t' hk=> ?_;rw[preSum_eq,RE (by simp),hn];exact#[.int ns.sum,H,I.kept (t':=tk) hk,#[t',rfl],q]
theorem Mb{bs:List Bool}{J:List qb}(U:Vals (bs.map V.bl) J){v:qb}(h:J.toArray[i]? =pc v):v=.bool (bs.getD i wh):=by
 have hi:i<J.length:=by have:=(Array.getElem?_eq_some_iff.mp h).1;simpa using this
 have hb:i<bs.length:=by have:=U.length;rw[sB] at this;omega
 obtain⟨u,hu,Y⟩:=U.get (i:=i) (x:=.bl bs[i]) (by simp[hb]);rw[show J.toArray[i]? =J[i]? by simp,hu] at h;cases h;cases Y;simp[pr,hb]
theorem all_range{bs:List Bool}:(uM bs.length).all (λi=>bs.getD i wh)=bs.all id:=by
 induction bs with
 | nil=>rfl
 | cons b bs J=>
  rw[xa,UN,Tr,TH,Tr];simp only[Sw,U2,UZ,id];rw[J]
theorem any_range{bs:List Bool}:(uM bs.length).any (λi=>bs.getD i wh)=bs.any id:=by
 induction bs with
 | nil=>rfl
 | cons b bs J=>
  rw[xa,UN,Ub,Uy,Ub];simp only[Sw,U2,UZ,id];rw[J]
theorem Cb(hc:X.calm=true:=by rfl):mY X (.builtin "all") (λxs H Q=>∃(p:qh) (bs:List Bool),xs=[.ref p]/\SqL X.K H p (bs.map V.bl)/\Q (.bl (bs.all id)) H):=by
 intro pins s σ H xs us Q I r h;obtain⟨p,bs,rfl,hq,q⟩:=h;obtain⟨u,rfl,ru⟩:=vals1 r;cases ru;obtain⟨J,rv,pl,hz⟩:=I.list hq;have Y:=pl.isList;have lt:p<s.heap.objs.size:=by obtain⟨_,e,_⟩:=Y;exact Heap.lt_size e
 have U:J.toArray.size=bs.length:=by have:=rv.length;rw[sB] at this;simp;omega
 refine call_all_walk (Ud Y ?_);refine#[_,_,_,_,_,_,λi=>bs.getD i wh,rfl,Walks.list (A:=X.A.in1) (I.ok.hd hc) s.heap.objs.size p (Ez lt) J.toArray,#[#[_,Heap.get?_push_size _ rfl,rfl,rfl],Y.push _],λi v s' Q' E' hP hQ=> ?_,λh' tk hk=> ?_];rw[Mb rv hP];exact Rx hQ;rw[U,all_range];refine#[.bl (bs.all id),H,I.kept (t':=tk) λb o e=>hk b o (λz=> ?_) (Heap.get?_push_of_some _ e),rfl,q];have hb:=Heap.lt_size e;rw[wn.mp z] at hb;exact absurd hb (RO _)
theorem Ia(hc:X.calm=true:=by rfl):mY X (.builtin "any") (λxs H Q=>∃(p:qh) (bs:List Bool),xs=[.ref p]/\SqL X.K H p (bs.map V.bl)/\Q (.bl (bs.any id)) H):=by
 intro pins s σ H xs us Q I r h;obtain⟨p,bs,rfl,hq,q⟩:=h;obtain⟨u,rfl,ru⟩:=vals1 r;cases ru;obtain⟨J,rv,pl,hz⟩:=I.list hq;have Y:=pl.isList;have lt:p<s.heap.objs.size:=by obtain⟨_,e,_⟩:=Y;exact Heap.lt_size e
 have U:J.toArray.size=bs.length:=by have:=rv.length;rw[sB] at this;simp;omega
 refine call_any_walk (Ud Y ?_);refine#[_,_,_,_,_,_,λi=>bs.getD i wh,rfl,Walks.list (A:=X.A.in1) (I.ok.hd hc) s.heap.objs.size p (Ez lt) J.toArray,#[#[_,Heap.get?_push_size _ rfl,rfl,rfl],Y.push _],λi v s' Q' E' hP hQ=> ?_,λh' tk hk=> ?_];rw[Mb rv hP];exact Rx hQ;rw[U,any_range];refine#[.bl (bs.any id),H,I.kept (t':=tk) λb o e=>hk b o (λz=> ?_) (Heap.get?_push_of_some _ e),rfl,q];have hb:=Heap.lt_size e;rw[wn.mp z] at hb;exact absurd hb (RO _)
end
section
variable {X : Cx} {e se : Db} {te : TE} {lo hi : Option Db} {tl th ts : TO} {pos p2 : Pos}
end
section
variable {X : Cx} {tg : Db}
end
def lG(x:Str)(lo hi:Option Int):Str:=
 if ((Builtin.Str.strSliceIndices lo hi 1 x.length).length == x.length)=qc then x else #[((Builtin.Str.strSliceIndices lo hi 1 x.length).filterMap (x.cps[·]?)).toArray]
section
variable {X : Cx}
def L9:V->Option Int->Option Int->Hp->VK->Prop:=λx lo hi H Q=>∃z,x=.str z/\z.length<=sizeLine/\Q (.str (lG z lo hi)) H
theorem EL:SlR X L9:=by
 intro pins s σ H x v Y vu lo hi sl Q I J hs pl U h;obtain⟨z,rfl,hz,q⟩:=h;obtain⟨t,rfl⟩:=J;refine#["str",_,F.slot_str_getitem.lookup,Vz _ _ _, ?_];have part:∀{v:qb} {o:Option Int},IsPart v o->∃p:Option (Int×Tok),v=partValue p/\p.map (·.1)=o:=λh=>by
  cases h with
  | none=>exact#[pi,rfl,rfl]
  | int i t=>exact#[pc (i,t),rfl,rfl]
 obtain⟨l,rfl,rfl⟩:=part pl;obtain⟨u,rfl,rfl⟩:=part U;refine wpAny_getItem_str_slice (l:=l) (u:=u) (st:=pi) hs rfl ?_;unfold sliceMade;show Made.post (if (qc&&((Builtin.Str.strSliceIndices (l.map (·.1)) (u.map (·.1)) 1 z.length).length == z.length))=qc then _ else _) _ _;unfold lG at q;rw[Tp];by_cases hc:((Builtin.Str.strSliceIndices (l.map (·.1)) (u.map (·.1)) 1 z.length).length == z.length)=qc;rw[if_pos hc] at q ⊢;exact#[.str z,H,I,#[t,rfl],q];rw[if_neg hc] at q ⊢;refine#[?_,#[.str _,H,I.tok _,#[_,rfl],q]];show (RN _).size<=_;rw[xJ];exact IN (IN (List.length_filterMap_le _ _) (sliceIndices_le _ _ _)) hz
end
section
variable {X : Cx}
end
section
variable {X : Cx}
theorem Gi:∀{J:List Str} {U:List qb},Vals (J.map V.str) U->∃l:List (Str×Tok),strValues l=U/\l.map (·.1)=J
 | [],_,h=>by cases h;exact#[[],rfl,rfl]
 | x::J,_,h=>by
  cases h with
  | cons r Y=>
   obtain⟨t,rfl⟩:=r;obtain⟨l,rfl,e⟩:=Gi Y;exact#[(x,t)::l,rfl,by rw[ww,e]]
end
section
variable {X : Cx}
def isT(y:Str):qb->Bool
 | .str a _=>a == y
 | _=>wh
theorem Og{y:Str}{t:Tok}{l:List (Str×Tok)}:∀v,v∈(strValues l).toArray->SeqAt.EqAt A s v (.str y t) (isT y v):=by
 intro v U;have J:v∈strValues l:=by simpa using U
 obtain⟨p,_,rfl⟩:=ss.mp J;exact(eqGives_str p.1 y p.2 t).at A s
theorem Pp{b:qh}{J:List Str}(I:Inv X pins σ H s)(hs:SqL X.K H b (J.map V.str)):
 ∃(l:List (Str×Tok)) (U:Option qh) (n:Nat) (sl:Array (Option qb)),l.map (·.1)=J/\s.heap.get? b=pc {cls:=.type "list",dict:=U,data:=.seq (strValues l).toArray n,slots:=sl}/\l.length<=sizeLine:=by
 obtain⟨Y,r',pl,hz⟩:=I.list hs;obtain⟨l,rfl,e⟩:=Gi r';obtain⟨o,ho,hc,n,hd⟩:=pl.isList;obtain⟨oc,od,am,os⟩:=o;dsimp only at hc hd;subst hc hd;refine#[l,od,n,os,e,ho, ?_];rw[<- e,sB,sB] at hz;exact hz
def HG(K:sH):V->List V->Hp->VK->Prop:=λx vs H Q=>∃(b:qh) (J:List Str) (y:Str),x=.ref b/\vs=[.str y]/\SqL K H b (J.map V.str)/\J.idxOf y<J.length/\Q (.int (J.idxOf y:Nat)) H
theorem Lh:MtR X "list.index" (HG X.K):=by
 intro pins s σ H x vs v us Q I rx rv h;obtain⟨b,U,y,rfl,rfl,hs,Y,q⟩:=h;cases rx;obtain⟨u,rfl,t2,rfl⟩:=rv.one;obtain⟨l,dd,n,sl,rfl,ho,hz⟩:=Pp I hs;have hn:=qo;have hl:(strValues l).toArray.size=(l.map (·.1)).length:=by simp[strValues]
 have J:∀(m:Nat) (hm:m<(strValues l).toArray.size),isT y ((strValues l).toArray[m])=((l.map (·.1))[m]'(by rw[<- hl];exact hm) == y):=by intro m hm;simp[strValues,isT]
 refine TF F.slot_list_index #[_,ho,rfl] F.entry_list_index (F.args_list_index_2 _ _) (SeqAt.list_indexAt b _ n dd sl _ (isT y) ((l.map (·.1)).idxOf y) (by rw[hl];exact Y) (by rw[sB] at Y;omega) ?_ ?_) #[ho,Og, ?_];rw[J];have:=List.getElem_idxOf Y;rw[this];exact beq_self_eq_true y;intro m hm h2;rw[J];exact List.not_of_lt_findIdx (p:=λa=>a == y) h2;exact#[.int _,H,I.tok _,#[_,rfl],q]
end
section
variable {prog : B3} {w : Ch} {A : Je} {R : U4 → tt → Prop} {I : qh} {fp wr : List qh} {G : Array Vq → Array Vq → Prop} {n : Nat} {P : Nat → qb → Prop} {St : Nat → tt → Prop}
end
section
variable {prog : B3} {w : Ch} {A : Je} {E : qb → tt → Prop} {s : tt}
end
section
variable {X : Cx} {e : Db} {te : TE} {x y : Str} {p1 p2 q1 q2 : Pos}
end
open PySem PySem.Spec PyProof.Rows PySem.W
def jF{α:Type}(lt:Nat->Nat->Bool):KasT α->α
 | .ret a=>a
 | .ask i j k=>jF lt (k (lt i j))
theorem my{α β:Type}(lt:Nat->Nat->Bool)(f:α->KasT β):∀t:KasT α,jF lt (t.bind f)=jF lt (f (jF lt t))
 | .ret _=>rfl
 | .ask i j k=>my lt f (k (lt i j))
section
variable {O : KeyOrd} (key : Nat → O.α)
def kAt(p:Array Nat)(i:Nat):O.α:=key (p.getD i 0)
abbrev ltK:Nat->Nat->Bool:=λi j=>O.blt (key i) (key j)
def eT(p:Array Nat)(m:Nat):Prop:=∀i j,i<=j->j<m->O.kle (kAt key p i) (kAt key p j)
def lE(p:Array Nat)(m:Nat):Prop:=∀i j,i<=j->j<m->O.kle (kAt key p j) (kAt key p i)
def yM(p:Array Nat)(n q:Nat):Prop:=∀i,n<=i+(q+1)->i<n->kAt key p i=kAt key p (n-1)
variable {key}
theorem vm{p J:Array Nat}(h:J[i]? =p[j]?):kAt key J i=kAt key p j:=by unfold kAt;rw[Si,Si,h]
theorem wW(J:j<=p.size)(k:Nat):kAt key (kas_rev p i j) k=if i<=k/\k<j then kAt key p (i+j-1-k) else kAt key p k:=by have h:=U0 (xs:=p) (i:=i) J k;split at h;rename_i c;rw[if_pos c];exact vm h;rename_i c;rw[if_neg c];exact vm h
theorem tP:(kas_rev p i j).Perm p:=mirror_perm _ _ _ _
theorem gR:(kas_rev p i j).size=p.size:=mirror_size _ _ _ _
theorem EJ{n q:Nat}(hn:n<=p.size)(hq:q+1<=n)(h:yM key p n q)(k:Nat):kAt key (kas_rev p (n-(q+1)) n) k=kAt key p k:=by rw[wW hn];split;rename_i c;rw[h _ ⋯ ⋯,h k ⋯ ⋯];rfl
theorem eT.more(h1:1<=n)(h:eT key p n)(hn:O.kle (kAt key p (n-1)) (kAt key p n)):eT key p (n+1):=by intro i j J Y;by_cases U:j=n;subst U;by_cases hi:i=j;subst hi;exact KeyOrd.kle_refl _;exact KeyOrd.kle_trans (h i (j-1) ⋯ ⋯) hn;exact h i j J ⋯
theorem lE.more(h1:1<=n)(h:lE key p n)(hn:O.kle (kAt key p n) (kAt key p (n-1))):lE key p (n+1):=by intro i j J Y;by_cases U:j=n;subst U;by_cases hi:i=j;subst hi;exact KeyOrd.kle_refl _;exact KeyOrd.kle_trans hn (h i (j-1) ⋯ ⋯);exact h i j J ⋯
theorem AD{p:Array Nat}:∀(f n:Nat),1<=n->eT key p n->∃m,jF (ltK key) (kas_asc p f n)=m/\n<=m/\m<=n+f/\eT key p m/\(m<n+f->O.blt (kAt key p m) (kAt key p (m-1))=qc)
 | 0,n,_,h=>#[n,rfl,vr _,vr _,h,λz=>absurd z (RO _)]
 | f+1,n,h1,h=>by
  show ∃m,jF (ltK key) (if O.blt (kAt key p n) (kAt key p (n-1))=qc then KasT.ret n else kas_asc p f (n+1))=m/\_;cases hc:O.blt (kAt key p n) (kAt key p (n-1)) with
  | true=>exact#[n,rfl,vr _,⋯,h,λ_=>hc]
  | false=>
   obtain⟨m,e,Y,a2,J,U⟩:=AD f (n+1) ⋯ (h.more h1 hc);exact#[m,e,⋯,⋯,J,λz=>U ⋯]
theorem tT:∀(f:Nat) (p:Array Nat) (n q:Nat),1<=n->n+f<=p.size->q+1<=n->lE key p n->yM key p n q->
 ∃U J q',jF (ltK key) (kas_desc f p n q)=(U,J,q')/\U.Perm p/\U.size=p.size/\n<=J/\J<=n+f/\q'+1<=J/\lE key U J/\yM key U J q'
 | 0,p,n,q,_,_,hq,h,he=>#[p,n,q,rfl,.refl _,rfl,vr _,vr _,hq,h,he]
 | f+1,p,n,q,h1,hs,hq,h,he=>by
  have Y:∀p:Array Nat,yM key p (n+1) 0:=λp i a b=>by rw[show i=n by omega];rfl
  show ∃U J q',jF (ltK key) (if O.blt (kAt key p n) (kAt key p (n-1))=qc then (if q>0 then kas_desc f (kas_rev p (n-(q+1)) n) (n+1) 0 else kas_desc f p (n+1) 0)
   else .ask (p.getD (n-1) 0) (p.getD n 0) λd=>if d=qc then .ret (p,n,q) else kas_desc f p (n+1) (q+1))=(U,J,q')/\_
  cases hc:O.blt (kAt key p n) (kAt key p (n-1)) with
  | true=>
   rw[if_pos rfl];have as:O.kle (kAt key p n) (kAt key p (n-1)):=KeyOrd.kle_of_klt hc;have hf:=h.more h1 as;by_cases ab:q>0;rw[if_pos ab];have keep:=EJ (key:=key) (p:=p) (n:=n) (q:=q) ⋯ hq he;have az:lE key (kas_rev p (n-(q+1)) n) (n+1):=λi j a b=>by rw[keep,keep];exact hf i j a b
   obtain⟨U,J,q',e,b1,b2,b3,b4,b5,b6,b7⟩:=tT f (kas_rev p (n-(q+1)) n) (n+1) 0 ⋯ (by rw[gR];omega) ⋯ az (Y _);exact#[U,J,q',e,b1.trans tP,b2.trans gR,⋯,⋯,b5,b6,b7];rw[if_neg ab];obtain⟨U,J,q',e,b1,b2,b3,b4,b5,b6,b7⟩:=tT f p (n+1) 0 ⋯ ⋯ ⋯ hf (Y _);exact#[U,J,q',e,b1,b2,⋯,⋯,b5,b6,b7]
  | false=>
   rw[if_neg (by simp)];show ∃U J q',jF (ltK key) (if O.blt (kAt key p (n-1)) (kAt key p n)=qc then KasT.ret (p,n,q) else kas_desc f p (n+1) (q+1))=(U,J,q')/\_;cases hd:O.blt (kAt key p (n-1)) (kAt key p n) with
   | true=>exact#[p,n,q,rfl,.refl _,rfl,vr _,⋯,hq,h,he]
   | false=>
    rw[if_neg (by simp)];have eq:kAt key p n=kAt key p (n-1):=O.total _ _ hc hd;have a0:yM key p (n+1) (q+1):=λi a b=>by show kAt key p i=kAt key p n;by_cases hi:i=n;rw[hi];rw[eq];exact he i ⋯ ⋯
    obtain⟨U,J,q',e,b1,b2,b3,b4,b5,b6,b7⟩:=tT f p (n+1) (q+1) ⋯ ⋯ ⋯ (h.more h1 (by rw[eq];exact KeyOrd.kle_refl _)) a0;exact#[U,J,q',e,b1,b2,⋯,⋯,b5,b6,b7]
theorem Er(h1:1<=n)(hn:n<=nrem)(hs:nrem<=p.size)(h:lE key p n):
 ∃m J,jF (ltK key) (kas_tail3 n nrem p)=(m,J)/\J.Perm p/\J.size=p.size/\1<=m/\m<=nrem/\eT key J m:=by
 have U:eT key (kas_rev p 0 n) n:=λi j a b=>by rw[wW ⋯,wW ⋯,if_pos #[Oz _,⋯],if_pos #[Oz _,b]];exact h _ _ ⋯ ⋯
 obtain⟨m,e,a1,a2,Y,_⟩:=AD (nrem-n) n h1 U;refine#[m,kas_rev p 0 n, ?_,tP,gR,⋯,⋯,Y];unfold kas_tail3;rw[my,e];rfl
theorem B6(h1:1<=n)(hn:n+1<=nrem)(hs:nrem<=p.size)(h:lE key p (n+1)):
 ∃m J,jF (ltK key) (kas_descPart n nrem p)=(m,J)/\J.Perm p/\J.size=p.size/\1<=m/\m<=nrem/\eT key J m:=by
 obtain⟨p1,U,q1,e,b1,b2,b3,b4,b5,b6,b7⟩:=tT (key:=key) (nrem-(n+1)) p (n+1) 0 ⋯ ⋯ ⋯ h (λi a b=>by rw[show i=n by omega];rfl);unfold kas_descPart;rw[my,e];dsimp only;by_cases hq:q1>0;rw[if_pos hq];have keep:=EJ (key:=key) (p:=p1) (n:=U) (q:=q1) ⋯ b5 b7;obtain⟨m,J,e2,Y,c2,c3,c4,c5⟩:=Er (key:=key) (p:=kas_rev p1 (U-(q1+1)) U) (n:=U) (nrem:=nrem) ⋯ ⋯ (by rw[gR];omega) (λi j a b=>by rw[keep,keep];exact b6 i j a b);exact#[m,J,e2,Y.trans ((tP).trans b1),c2.trans ((gR).trans b2),c3,c4,c5];rw[if_neg hq];obtain⟨m,J,e2,Y,c2,c3,c4,c5⟩:=Er (key:=key) (p:=p1) (n:=U) (nrem:=nrem) ⋯ ⋯ ⋯ b6;exact#[m,J,e2,Y.trans b1,c2.trans b2,c3,c4,c5]
theorem Jh(h1:1<=nrem)(hs:nrem<=p.size):
 ∃m Y,jF (ltK key) (kas_count nrem p)=(m,Y)/\Y.Perm p/\Y.size=p.size/\1<=m/\m<=nrem/\eT key Y m:=by
 have s1:eT key p 1:=λi j a b=>by rw[show i=j by omega];exact KeyOrd.kle_refl _
 obtain⟨n,e,a1,a2,a3,a4⟩:=AD (key:=key) (p:=p) (nrem-1) 1 (vr _) s1;unfold kas_count;rw[my,e];by_cases hn:n=nrem;rw[if_pos (by simpa using hn)];exact#[n,p,rfl,.refl _,rfl,a1,⋯,a3];rw[if_neg (by simpa using hn)];have ab:=a4 ⋯;by_cases h2:n>1;rw[if_pos h2];show ∃m Y,jF (ltK key) (if O.blt (kAt key p 0) (kAt key p (n-1))=qc then KasT.ret (n,p) else kas_descPart n nrem (kas_rev p 0 n))=(m,Y)/\_;cases hc:O.blt (kAt key p 0) (kAt key p (n-1)) with
 | true=>exact#[n,p,rfl,.refl _,rfl,a1,⋯,a3]
 | false=>
  rw[if_neg (by simp)];have same:∀i,i<n->kAt key p i=kAt key p (n-1):=λi hi=>by refine KeyOrd.kle_antisymm (a3 i (n-1) ⋯ ⋯) ?_;exact KeyOrd.kle_trans (show O.kle (kAt key p (n-1)) (kAt key p 0) from hc) (a3 0 i (Oz _) hi)
  have J:∀i,i<=n->kAt key (kas_rev p 0 n) i=kAt key p i:=λi hi=>by rw[wW ⋯];split;rename_i c;rw[same _ ⋯,same i ⋯];rfl
  have U:lE key (kas_rev p 0 n) (n+1):=by refine lE.more ⋯ (λi j a b=> ?_) ?_;rw[J i ⋯,J j ⋯,same i ⋯,same j ⋯];exact KeyOrd.kle_refl _;rw[J n (vr _),J (n-1) ⋯];exact KeyOrd.kle_of_klt ab
  obtain⟨m,Y,e2,c1,c2,c3,c4,c5⟩:=B6 (key:=key) (p:=kas_rev p 0 n) (n:=n) (nrem:=nrem) ⋯ ⋯ (by rw[gR];omega) U;exact#[m,Y,e2,c1.trans tP,c2.trans gR,c3,c4,c5]
 rw[if_neg h2];obtain rfl:n=1:=⋯;have U:lE key p (1+1):=lE.more (vr _) (λi j a b=>by rw[show i=j by omega];exact KeyOrd.kle_refl _) (KeyOrd.kle_of_klt ab);exact B6 ⋯ ⋯ hs U
theorem vk{p:Array Nat}{k:Nat}(hs:eT key p k):∀(f l r:Nat),l<=r->r<=k->r-l<=f->(∀i,i<l->O.kle (kAt key p i) (kAt key p k))->(∀i,r<=i->i<k->O.kle (kAt key p k) (kAt key p i))->
 ∃m,jF (ltK key) (kas_place p k f l r)=m/\m<=k/\(∀i,i<m->O.kle (kAt key p i) (kAt key p k))/\(∀i,m<=i->i<k->O.kle (kAt key p k) (kAt key p i))
 | 0,l,r,a,b,c,h1,h2=>#[l,rfl,⋯,h1,λi hi hk=>h2 i ⋯ hk]
 | f+1,l,r,a,b,c,h1,h2=>by
  unfold kas_place;by_cases J:l ≥ r;rw[if_pos J];exact#[l,rfl,⋯,h1,λi hi hk=>h2 i ⋯ hk];rw[if_neg J];show ∃m,jF (ltK key) (if O.blt (kAt key p k) (kAt key p ((l+r)/2))=qc then kas_place p k f l ((l+r)/2) else kas_place p k f ((l+r)/2+1) r)=m/\_;cases hc:O.blt (kAt key p k) (kAt key p ((l+r)/2)) with
  | true=>
   rw[if_pos rfl];exact vk hs f l ((l+r)/2) ⋯ ⋯ ⋯ h1 λi hi hk=>KeyOrd.kle_trans (KeyOrd.kle_of_klt hc) (hs _ _ hi hk)
  | false=>
   rw[if_neg (by simp)];exact vk hs f ((l+r)/2+1) r ⋯ b ⋯ (λi hi=>KeyOrd.kle_trans (hs i ((l+r)/2) ⋯ ⋯) hc) h2
theorem Gm:∀(f:Nat) (p:Array Nat) (k:Nat),k+f<=p.size->eT key p k->∃J,jF (ltK key) (kas_bin f p k)=J/\J.Perm p/\J.size=p.size/\eT key J (k+f)
 | 0,p,k,_,h=>#[p,rfl,.refl _,rfl,h]
 | f+1,p,k,hk,h=>by
  obtain⟨m,e,m1,m2,m3⟩:=vk h k 0 k (Oz _) (vr _) ⋯ (λi hi=>absurd hi ⋯) (λi a b=>absurd b ⋯);have U:∀i,kAt key (bubble p k (k-m)) i=if i=m then kAt key p k else if m<i/\i<=k then kAt key p (i-1) else kAt key p i:=λi=>by have g:=getElem?_bubble (xs:=p) (src:=k) ⋯ (k-m) ⋯ i;rw[show k-(k-m)=m by omega] at g;split at g;rename_i c;rw[if_pos c];exact vm g;rename_i c;rw[if_neg c];split at g;rename_i d;rw[if_pos d];exact vm g;rename_i d;rw[if_neg d];exact vm g
  have so:eT key (bubble p k (k-m)) (k+1):=λi j a b=>by rw[U,U];by_cases hi:i=m;rw[if_pos hi];by_cases Y:j=m;rw[if_pos Y];exact KeyOrd.kle_refl _;rw[if_neg Y,if_pos ⋯];exact m3 _ ⋯ ⋯;rw[if_neg hi];by_cases ab:m<i/\i<=k;rw[if_pos ab,if_neg ⋯,if_pos ⋯];exact h _ _ ⋯ ⋯;rw[if_neg ab];by_cases Y:j=m;rw[if_pos Y];exact m2 i ⋯;rw[if_neg Y];by_cases ac:m<j/\j<=k;rw[if_pos ac];exact h _ _ ⋯ ⋯;rw[if_neg ac];exact h _ _ a ⋯
  obtain⟨J,e2,c1,c2,c3⟩:=Gm f (bubble p k (k-m)) (k+1) (by rw[Vn];omega) so;refine#[J, ?_,c1.trans (bubble_perm _ _ _),c2.trans (Vn _ _ _), ?_];unfold kas_bin;rw[my,e];exact e2;rw[show k+(f+1)=k+1+f by omega];exact c3
theorem xW(h1:1<=n):∃p,jF (ltK key) (kas_sort n)=p/\p.Perm (RN (uM n))/\p.size=n/\eT key p n:=by
 have sz:(RN (uM n)).size=n:=by simp
 obtain⟨m,p1,e,J,a2,a3,a4,U⟩:=Jh (key:=key) (p:=RN (uM n)) (nrem:=n) h1 ⋯;unfold kas_sort;rw[my,e];dsimp only;by_cases hm:m<n;rw[if_pos hm,Nat.max_eq_left a3];obtain⟨p2,e2,b1,b2,Y⟩:=Gm (key:=key) (n-m) p1 m ⋯ U;exact#[p2,e2,b1.trans J,⋯,by rw[show m+(n-m)=n by omega] at Y;exact Y];rw[if_neg hm];obtain rfl:m=n:=⋯;exact#[p1,rfl,J,⋯,U]
end
theorem lex_irrefl:∀a:List Int,HT.lexLt a a=wh
 | []=>rfl
 | x::a=>by rw[HT.o4,if_pos rfl];exact lex_irrefl a
theorem lex_trans:∀a b c:List Int,HT.lexLt a b=qc->HT.lexLt b c=qc->HT.lexLt a c=qc
 | [],[],_,h,_=>by cases h
 | [],_::_,[],_,h=>by cases h
 | [],_::_,_::_,_,_=>rfl
 | _::_,[],_,h,_=>by cases h
 | _::_,_::_,[],_,h=>by cases h
 | x::a,y::b,z::c,h1,h2=>by rw[HT.o4] at h1 h2 ⊢;by_cases e1:x=y;by_cases e2:y=z;rw[if_pos e1] at h1;rw[if_pos e2] at h2;rw[if_pos (e1.trans e2)];exact lex_trans a b c h1 h2;rw[if_neg e2] at h2;rw[e1,if_neg e2];exact h2;rw[if_neg e1] at h1;have J:=of_decide_eq_true h1;by_cases e2:y=z;rw[<- e2,if_neg e1];exact h1;rw[if_neg e2] at h2;have U:=of_decide_eq_true h2;rw[if_neg ⋯];exact decide_eq_true ⋯
theorem qM:∀a b:List Int,HT.lexLt a b=wh->HT.lexLt b a=wh->a=b
 | [],[],_,_=>rfl
 | [],_::_,h,_=>by cases h
 | _::_,[],_,h=>by cases h
 | x::a,y::b,h1,h2=>by rw[HT.o4] at h1 h2;by_cases e:x=y;rw[if_pos e] at h1;rw[if_pos e.symm] at h2;rw[e,qM a b h1 h2];rw[if_neg e] at h1;rw[if_neg (S1 e)] at h2;have J:=of_decide_eq_false h1;have U:=of_decide_eq_false h2;omega
def NX:KeyOrd where
 α:=List Int
 blt:=HT.lexLt
 irrefl:=lex_irrefl
 trans:=lex_trans
 negTrans:=λa b c h=>by
  cases h1:HT.lexLt a b with
  | true=>exact .inl rfl
  | false=>
   right;cases h2:HT.lexLt b c with
   | true=>rfl
   | false=>
    cases h3:HT.lexLt b a with
    | true=>
     have:=lex_trans b a c h3 h;rw[h2] at this;cases this
    | false=>
     have:=qM a b h1 h3;subst this;rw[h] at h2;cases h2
 total:=qM
def Lv{α:Type}(N:Nat)(P:α->Prop):KasT α->Prop
 | .ret a=>P a
 | .ask i j k=>i<N/\j<N/\∀b,Lv N P (k b)
theorem Lv.bind{α β:Type}{N:Nat}{P:α->Prop}{P':β->Prop}{f:α->KasT β}(J:∀a,P a->Lv N P' (f a)):∀{t:KasT α},Lv N P t->Lv N P' (t.bind f)
 | .ret a,h=>J a h
 | .ask i j k,h=>#[h.1,h.2.1,λb=>Lv.bind J (h.2.2 b)]
def Und(N:Nat)(p:Array Nat):Prop:=∀i,p.getD i 0<N
theorem Und.of{p J:Array Nat}(h:Und N p)(hp:∀i:Nat,∃j:Nat,J[i]? =p[j]?):Und N J:=λi=>by obtain⟨j,e⟩:=hp i;have:=h j;rw[Si] at this ⊢;rw[e];exact this
theorem Und.rev(h:Und N p)(J:j<=p.size):Und N (kas_rev p i j):=h.of λk=>by have g:=U0 (xs:=p) (i:=i) J k;split at g;exact#[_,g];exact#[_,g]
theorem Und.bub(h:Und N p){k d:Nat}(hk:k<p.size)(hd:d<=k):Und N (bubble p k d):=h.of λi=>by have g:=getElem?_bubble (xs:=p) hk d hd i;split at g;exact#[_,g];split at g;exact#[_,g];exact#[_,g]
theorem DD{N:Nat}{p:Array Nat}(h:Und N p):∀(f n:Nat),Lv N (λm=>n<=m/\m<=n+f) (kas_asc p f n)
 | 0,n=>#[vr _,vr _]
 | f+1,n=>#[h _,h _,λb=>by
  cases b with
  | true=>exact#[vr _,⋯]
  | false=>
   have:=Lv.bind (f:=KasT.ret) (P':=λm=>n<=m/\m<=n+(f+1)) (λa ha=>(#[⋯,⋯]:n<=a/\a<=n+(f+1))) (DD h f (n+1));rw[show (kas_asc p f (n+1)).bind KasT.ret=kas_asc p f (n+1) from bind_ret _] at this;exact this]
where bind_ret {α:Type}:∀t:KasT α,t.bind KasT.ret=t
  | .ret _=>rfl
  | .ask i j k=>congrArg (KasT.ask i j) (funext λb=>bind_ret (k b))
theorem Lv.mono{α:Type}{N:Nat}{P P':α->Prop}(h:∀a,P a->P' a):∀{t:KasT α},Lv N P t->Lv N P' t
 | .ret a,x=>h a x
 | .ask i j k,x=>#[x.1,x.2.1,λb=>Lv.mono h (x.2.2 b)]
theorem wL{N S:Nat}:∀(f:Nat) (p:Array Nat) (n q:Nat),p.size=S->n+f<=S->Und N p->Lv N (λr:Array Nat×Nat×Nat=>r.1.size=S/\Und N r.1/\n<=r.2.1/\r.2.1<=n+f) (kas_desc f p n q)
 | 0,p,n,q,hz,_,h=>#[hz,h,vr _,vr _]
 | f+1,p,n,q,hz,hs,h=>#[h _,h _,λc=>by
  have J:∀{t:KasT (Array Nat×Nat×Nat)},Lv N (λr:Array Nat×Nat×Nat=>r.1.size=S/\Und N r.1/\n+1<=r.2.1/\r.2.1<=n+1+f) t->Lv N (λr:Array Nat×Nat×Nat=>r.1.size=S/\Und N r.1/\n<=r.2.1/\r.2.1<=n+(f+1)) t:=
   Lv.mono λr #[a,b,c,d]=>#[a,b,⋯,⋯]
  cases c with
  | true=>
   show Lv N _ (if q>0 then kas_desc f (kas_rev p (n-(q+1)) n) (n+1) 0 else kas_desc f p (n+1) 0);split;exact J (wL f _ (n+1) 0 (by rw[gR];exact hz) ⋯ (h.rev ⋯));exact J (wL f p (n+1) 0 hz ⋯ h)
  | false=>
   refine#[h _,h _,λd=> ?_];cases d with
   | true=>exact#[hz,h,vr _,Uw _ _]
   | false=>exact J (wL f p (n+1) (q+1) hz ⋯ h)]
theorem Gg{N S n nrem:Nat}(hz:p.size=S)(hn:n<=nrem)(hs:nrem<=S)(h:Und N p):Lv N (λr:Nat×Array Nat=>r.2.size=S/\Und N r.2/\r.1<=nrem) (kas_tail3 n nrem p):=by have h':Und N (kas_rev p 0 n):=h.rev ⋯;exact Lv.bind (f:=λm=>KasT.ret (m,kas_rev p 0 n)) (P':=λr:Nat×Array Nat=>r.2.size=S/\Und N r.2/\r.1<=nrem) (λm hm=>(#[by rw[gR];exact hz,h',by have:=hm.2;show m<=nrem;omega]:(kas_rev p 0 n).size=S/\Und N (kas_rev p 0 n)/\m<=nrem)) (DD h' (nrem-n) n)
theorem Ej{N S n nrem:Nat}(hz:p.size=S)(hn:n+1<=nrem)(hs:nrem<=S)(h:Und N p):Lv N (λr:Nat×Array Nat=>r.2.size=S/\Und N r.2/\r.1<=nrem) (kas_descPart n nrem p):=by refine Lv.bind (λr hr=> ?_) (wL (nrem-(n+1)) p (n+1) 0 hz ⋯ h);obtain⟨a,b,c,d⟩:=hr;split;exact Gg (by rw[gR];exact a) ⋯ hs (b.rev ⋯);exact Gg a ⋯ hs b
theorem K9{N S nrem:Nat}(hz:p.size=S)(h1:1<=nrem)(hs:nrem<=S)(h:Und N p):Lv N (λr:Nat×Array Nat=>r.2.size=S/\Und N r.2/\r.1<=nrem) (kas_count nrem p):=by
 refine Lv.bind (λn hn=> ?_) (DD h (nrem-1) 1);split;exact#[hz,h,⋯];rename_i J;have J:¬n=nrem:=by simpa using J
 split;refine#[h _,h _,λc=> ?_];cases c with
 | true=>exact#[hz,h,⋯]
 | false=>exact Ej (by rw[gR];exact hz) ⋯ hs (h.rev ⋯)
 exact Ej hz ⋯ hs h
theorem xS{N:Nat}{p:Array Nat}{k:Nat}(h:Und N p):∀(f l r:Nat),l<=k->r<=k->Lv N (λm=>m<=k) (kas_place p k f l r)
 | 0,l,r,a,b=>a
 | f+1,l,r,a,b=>by
  unfold kas_place;split;exact a;refine#[h _,h _,λc=> ?_];cases c with
  | true=>exact xS h f l ((l+r)/2) a ⋯
  | false=>exact xS h f ((l+r)/2+1) r ⋯ b
theorem HW{N S:Nat}:∀(f:Nat) (p:Array Nat) (k:Nat),p.size=S->k+f<=S->Und N p->Lv N (λJ:Array Nat=>J.size=S) (kas_bin f p k)
 | 0,p,k,hz,_,_=>hz
 | f+1,p,k,hz,hk,h=>Lv.bind (λm hm=>HW f _ (k+1) (by rw[Vn];exact hz) ⋯ (h.bub ⋯ ⋯)) (xS h k 0 k (Oz _) (vr _))
theorem Mh(h1:1<=n):Lv n (λp:Array Nat=>p.size=n) (kas_sort n):=by
 have sz:(RN (uM n)).size=n:=by simp
 have J:Und n (RN (uM n)):=λi=>by rw[Si,List.getElem?_toArray];by_cases hi:i<n;simp[hi];rw[SU (by simpa using hi)];exact h1
 refine Lv.bind (λr hr=> ?_) (K9 sz h1 (vr _) J);obtain⟨a,b,c⟩:=hr;split;exact HW _ _ _ a ⋯ b;exact a
theorem C0{α:Type}{N:Nat}{P:α->Prop}{lt:Nat->Nat->Bool}{J:Nat->Nat->(Bool->tt->Prop)->tt->Prop}{Q:α->tt->Prop}{s:tt}(hc:∀i j C,i<N->j<N->C (lt i j) s->J i j C s):
 ∀(t:KasT α),Lv N P t->Q (jF lt t) s->t.kasWp J Q s
 | .ret a,_,h=>h
 | .ask i j k,l,h=>hc i j _ l.1 l.2.1 (C0 hc (k (lt i j)) (l.2.2 _) h)
section
open PySem.SeqAt
open PySem.AutoSeq1 (wpAny_loadPart')
open PySem.MeetsSeq PySem.MeetsSeq2 PySem.MeetsSeq3
theorem ints_get{ns:List Int}(h:Sn vs ns)(hi:i<ns.length):∃t,vs[i]? =pc (.int ns[i] t):=by have J:=h.length;have e:vs[i]? =pc vs[i]:=sK ⋯;obtain⟨t,q⟩:=h.int_at i _ e;refine#[t, ?_];rw[e,q];simp[pr,hi]
theorem Ka(l b:qh)(U J:Array qb)(n n2:Nat)(dd as:Option qh)(sl az:Array (Option qb))(ns ms:List Int)(hi:Sn U.toList ns)(hj:Sn J.toList ms){k:Nat}:
 ∀i:Nat,ns.length-i=k->i<=ns.length->i<=ms.length->Meets (Builtin.«list.__eq__.loop» #[[.ref l,.ref b,rawInt i,rawInt 0],[]])
  (λ_ R s=>s.heap.get? l=pc {cls:=.type "list",dict:=dd,data:=.seq U n,slots:=sl}/\s.heap.get? b=pc {cls:=.type "list",dict:=as,data:=.seq J n2,slots:=az}/\
   R (.ok (.ret (.bool (HT.lexLt (ns.drop i) (ms.drop i))))) s):=by
 have z1:U.size=ns.length:=by rw[<- hi.length];simp
 have z2:J.size=ms.length:=by rw[<- hj.length];simp
 have ac:∀i:Nat,i<=ns.length->i<=ms.length->(i=ns.length\/i=ms.length)->HT.lexLt (ns.drop i) (ms.drop i)=decide (U.size<J.size):=by intro i h1 h2 h3;by_cases e1:i=ns.length;rw[e1,Uz];by_cases e2:ns.length=ms.length;rw[e2,Uz];exact(decide_eq_false ⋯).symm;rw[Ro ⋯];exact(decide_eq_true ⋯).symm;have e2:i=ms.length:=⋯;rw[e2,Uz,Ro ⋯];exact(decide_eq_false ⋯).symm
 induction k with
 | zero=>
  intro i hk h1 h2 prog w A R s h;obtain⟨hp,g,d,tk,os⟩:=s;obtain⟨hl,hb,h⟩:=h;have a0:i=ns.length:=⋯
  wp_walk using Ps hl,Ps hb
  have Y:U[((i:Nat):Int).toNat]? =none:=by simp;omega
  rw[Y];rw[ac i h1 h2 (.inl a0)] at h
  wp_walk using Ps hl,Ps hb
  exact h
 | succ k ih=>
  intro i hk h1 h2 prog w A R s h;obtain⟨hp,g,d,tk,os⟩:=s;obtain⟨hl,hb,h⟩:=h;have an:i<ns.length:=⋯;obtain⟨t,et⟩:=ints_get hi an;have Y:U[((i:Nat):Int).toNat]? =pc (.int ns[i] t):=by rw[SW] at et;simpa using et
  by_cases ap:i<ms.length;obtain⟨u,eu⟩:=ints_get hj ap;have ab:J[((i:Nat):Int).toNat]? =pc (.int ms[i] u):=by rw[SW] at eu;simpa using eu
  wp_walk using Ps hl,Ps hb
  rw[Y,ab];rw[Ro an,Ro ap,HT.o4] at h;have hc:((i:Int)+1)=((i+1:Nat):Int):=by push_cast;rfl
  obtain⟨e,he,am⟩:=HT.Lf A.in1 #[hp,g,d,tk,os] ns[i] t ms[i] u;refine x0 (he prog w _ _ ?_);cases e with
  | true=>
   rw[if_pos (am.mp rfl)] at h
   wp_walk
   rw[hc];exact#[plainId_quiet plain_eq_loop _,codeAny_builtin entry_eq_loop (by rw[Around.under_plainId plain_eq_loop _];exact ih (i+1) ⋯ ⋯ ⋯ prog w A R _ #[hl,hb,h])]
  | false=>
   rw[if_neg (λq=>absurd (am.mpr q) At)] at h;have a1:=HT.Li A.in1 #[hp,g,d,tk,os] ns[i] t ms[i] u prog w
   wp_walk using Ps hl,Ps hb
   rw[Y,ab]
   wp_walk using a1
   exact h
  have ab:J[((i:Nat):Int).toNat]? =none:=by simp;omega
  wp_walk using Ps hl,Ps hb
  rw[Y,ab];rw[ac i h1 h2 (.inr ⋯)] at h
  wp_walk using Ps hl,Ps hb
  exact h
theorem KI(l b:qh)(U J:Array qb)(n n2:Nat)(dd Y:Option qh)(sl ab:Array (Option qb))(ns ms:List Int)(hi:Sn U.toList ns)(hj:Sn J.toList ms):
 Meets (Builtin.«list.__lt__» #[[.ref l,.ref b],[]])
  (λ_ R s=>s.heap.get? l=pc {cls:=.type "list",dict:=dd,data:=.seq U n,slots:=sl}/\s.heap.get? b=pc {cls:=.type "list",dict:=Y,data:=.seq J n2,slots:=ab}/\
   R (.ok (.ret (.bool (HT.lexLt ns ms)))) s):=by
 intro prog w A R s h;obtain⟨hp,g,d,tk,os⟩:=s;obtain⟨hl,hb,h⟩:=h;have f2:=AutoSeq1.sub_list_list
 wp_walk using Ps hl,Ps hb
 exact#[plainId_quiet plain_eq_loop _,codeAny_builtin entry_eq_loop (by rw[Around.under_plainId plain_eq_loop _];exact Ka l b U J n n2 dd Y sl ab ns ms hi hj 0 rfl (Oz _) (Oz _) prog w A R _ #[hl,hb,by simpa using h])]
end
section
variable {prog : B3} {w : Ch} {A : Je} {E : qb → tt → Prop} {s : tt}
theorem Fx {l b:qh} {U J:Array qb} {ns ms:List Int} {Q:Bool->tt->Prop} (hl:s.heap.IsList l U) (hb:s.heap.IsList b J) (hi:Sn U.toList ns) (hj:Sn J.toList ms) (hu:A.units<cLine)
 (h:Q (HT.lexLt ns ms) s):wpAny (model prog w) A (keyLt' oneType' (.ref l) (.ref b)) Q E s:=by
 obtain⟨⟨cls,dd,data,sl⟩,ho,hc,n,hd⟩:=id hl;obtain⟨⟨ap,al,data2,am⟩,an,Y,n2,ab⟩:=id hb;dsimp only at hc hd Y ab;subst hc hd Y ab;rw[keyLt'_oneType,oneLt'_eq];simp only[if_true];refine x0 (wpAny_cRoomFor hu ?_);refine x0 (wpAny_callSpecialIfBound?_slot #[_,ho,rfl] US (TF US #[_,ho,rfl] PySem.F.entry_list_lt (PySem.F.args_list_lt_2 _ _) (KI l b U J n n2 dd al sl am ns ms hi hj) #[ho,an, ?_]));exact Rx h
end
section
variable {prog : B3} {w : Ch} {A : Je} {E : qb → tt → Prop} {s : tt}
abbrev DA(nss:List (List Int)):Nat->NX.α:=λi=>nss.getD i []
def qP(vs:List qb)(p:Array Nat):Array Value:=(p.toList.map λi=>vs.getD i Value.none).toArray
def Pf(h:FS)(vs:List qb)(nss:List (List Int))(a:qh):Prop:=∀i,i<vs.length->∃(l:qh) (J:Array qb),vs.getD i Value.none=.ref l/\l≠a/\h.IsList l J/\Sn J.toList (nss.getD i [])
theorem E6:qP vs (RN (uM vs.length))=vs.toArray:=by unfold qP;congr 1;refine S2 (by simp) λi h1 h2=> ?_;simp[pr,h2]
theorem NW {a:qh} {nss:List (List Int)} {P:PySem.Fin->tt->Prop} (ho:s.heap.get? a=pc (seqObj "list" vs.toArray n)) (az:vs.length<64) (hu:A.units<cLine) (Y:Pf s.heap vs nss a)
 (h:∀p:Array Nat,p.Perm (RN (uM vs.length))->eT (DA nss) p vs.length->P (.done (.ret .none)) {s with heap:=sortedHeap s.heap a vs (qP vs p)}):
 wpAny (model prog w) A (Builtin.«list.sort» #[[.ref a],[]]) P E s:=by
 rw[list_sort_plain];have ha:a<s.heap.objs.size:=Heap.lt_size ho;have ab:vs.length<=sizeLine:=by rw[SO];omega
 refine x0 (listItems_at ho rfl ?_);refine x0 (UX ho rfl ?_ (by rw[xJ];exact ab) (Oz _));obtain⟨e1,ho1⟩:∃e1,(s.heap.update a (Obj.mapSeq λ_=> #v[])).get? a=pc (seqObj "list" #v[] e1):=#[_,get?_update_seq ho (λ_=> #v[])];refine x0 (Vl ho1 rfl ?_);refine x0 (wpAny_newTuple ?_ ab);refine x0 (wpAny_newList ?_ (Oz _));refine Tq ?_;have ac:∀b o,b≠a->s.heap.get? b=pc o->(((s.heap.update a (Obj.mapSeq λ_=> #v[])).push (seqObj "tuple" vs.toArray 0)).push (seqObj "list" #v[] 0)).get? b=pc o:=λb o hb e=>
  Heap.get?_push_of_some _ (Heap.get?_push_of_some _ ((Heap.get?_update_ne _ _ _ _ hb).trans e))
 have U:(((s.heap.update a (Obj.mapSeq λ_=> #v[])).push (seqObj "tuple" vs.toArray 0)).push (seqObj "list" #v[] 0)).get? a=pc (seqObj "list" #v[] e1):=Heap.get?_push_of_some _ (Heap.get?_push_of_some _ ho1);show wpAny (model prog w) A _ P E {s with heap:=((s.heap.update a (Obj.mapSeq λ_=> #v[])).push (seqObj "tuple" vs.toArray 0)).push (seqObj "list" #v[] 0)};dsimp only;by_cases h2:vs.toArray.size<2;have al:=h (RN (uM vs.length)) (Array.Perm.refl _) λi j bx hj=>by
  have:i=j:=by rw[xJ] at h2;omega
  subst this;exact KeyOrd.kle_refl _
 rw[E6] at al;rw[if_pos h2,if_pos h2];refine x0 (No ?_);rw[StateT.run_pure];refine x0 (No ?_);dsimp only;have hz:(Array.map (λx:Keyed=>x.2) (vs.toArray.zip vs.toArray))=vs.toArray:=by apply Ur.mp;rw[Vt,Array.toList_zip];exact List.map_snd_zip (vr _)
 refine x0 (Vl U rfl ?_);show wpAny (model prog w) A (Builtin.List.listUpdate (.ref a) (λ_=>Array.map (λx:Keyed=>x.2) (vs.toArray.zip vs.toArray)) >>= _) P E _;rw[hz];refine x0 (UX U rfl ?_ (Oz _) (by rw[xJ];omega));simp only[bne_self_eq_false,Tb,if_false];exact No al;rw[if_neg h2,if_neg h2];have l2:2<=vs.length:=by rw[xJ] at h2;omega
 obtain⟨p0,e0,q1,q2,q3⟩:=xW (key:=DA nss) (n:=vs.length) ⋯;refine x0 (kas_kind (T:=.type "list") l2 (λv hv=> ?_) ∅ ∅ ?_);obtain⟨i,hi,rfl⟩:=Rw hv;obtain⟨l,a0,el,la,il,_⟩:=Y i hi;rw[pr,sK hi] at el;rw[show vs[i]=.ref l from el];intro A Q E s' k q;obtain⟨o,bd,hc,_⟩:=il;exact wpAny_typeOf (T:="list") #[o,k _ _ (ac _ _ la bd),hc] q;have be:SortSt.mk' oneType' (vs.toArray.zip vs.toArray) #v[] 7 pi=kas_st oneType' (pairsOf vs) (RN (uM vs.length)):=by have e:=kas_range (pairsOf vs);rw[pairsOf_size] at e;show SortSt.mk' oneType' (pairsOf vs) #v[] 7 pi=SortSt.mk' oneType' ((RN (uM vs.length)).map (kas_item (pairsOf vs))) #v[] 7 pi;rw[e]
 have ask:(kas_sort vs.length).kasWp (kas_ask prog w A oneType' vs) (λp s'=>p=p0/\s'={s with heap:=((s.heap.update a (Obj.mapSeq λ_=> #v[])).push (seqObj "tuple" vs.toArray 0)).push (seqObj "list" #v[] 0)})
  {s with heap:=((s.heap.update a (Obj.mapSeq λ_=> #v[])).push (seqObj "tuple" vs.toArray 0)).push (seqObj "list" #v[] 0)}:=by
  refine C0 (lt:=ltK (DA nss)) (λi j C hi hj hC=> ?_) _ (Mh ⋯) #[e0,rfl];obtain⟨l,a0,el,la,il,ii⟩:=Y i hi;obtain⟨m,bp,em,ma,im,ij⟩:=Y j hj;unfold kas_ask;rw[el,em];have up:∀{x:qh} {xs:Array qb},x≠a->s.heap.IsList x xs->(((s.heap.update a (Obj.mapSeq λ_=> #v[])).push (seqObj "tuple" vs.toArray 0)).push (seqObj "list" #v[] 0)).IsList x xs:=λhx #[o,e,r]=>#[o,ac _ _ hx e,r];exact Fx (up la il) (up ma im) ii ij hu hC
 rw[kas_ask_eq] at ask;have run:=kas_runs (E:=E) (Q:=λ_ J s'=>arrOf J=p0.map (kas_item (pairsOf vs))/\failedOf J=pi/\s'={s with heap:=((s.heap.update a (Obj.mapSeq λ_=> #v[])).push (seqObj "tuple" vs.toArray 0)).push (seqObj "list" #v[] 0)})
  l2 az (λp' J s' a1 a2 a3 a4=>#[by rw[a2,a4.1],a3,a4.2]) ask
 rw[<- be] at run;refine x0 (Sg run ?_ λ_ _ e=>e);rintro ⟨⟨⟩,J⟩ s' ⟨bi,hf,rfl⟩;dsimp only;have am:(arrOf J).map (·.2)=qP vs p0:=by apply Ur.mp;rw[bi,Array.map_map,Vt];exact U1 λi _=>by show (kas_item (pairsOf vs) i).2=_;rw[kas_item_eq]
 rw[am];refine x0 (Vl U rfl ?_);refine x0 (UX U rfl ?_ (Oz _) (by unfold qP;rw[xJ,sB,TU,q2];omega));rw[hf];simp only[bne_self_eq_false,Tb,if_false];exact No (h p0 q1 q3)
theorem Mo {l:qh} {nss:List (List Int)} {Q:qb->tt->Prop} (hl:s.heap.IsList l vs.toArray) (ac:vs.length<64) (hu:A.units+64<cLine)
 (al:∀i,i<vs.length->∃(l:qh) (J:Array qb),vs.getD i Value.none=.ref l/\s.heap.IsList l J/\Sn J.toList (nss.getD i []))
 (h:∀p:Array Nat,p.Perm (RN (uM vs.length))->eT (DA nss) p vs.length->Q (.ref (s.heap.objs.size+1)) {s with heap:=sortedAll s.heap vs (qP vs p)}):
 wpAny (model prog w) A (call (.builtin "sorted") [.ref l]) Q E s:=by
 have U:vs.length<=sizeLine:=by rw[SO];omega
 refine Calls.call_function_entry kind_sorted plain_sorted entry_sorted (args_sorted1 _) ?_;unfold Builtin.«sorted»;refine x0 (m:=checkCount "sorted" 1 1 _) (No ?_);refine x0 (collect_list hl ?_ U);refine x0 (wpAny_newList ?_ U);have Y:((s.heap.push (seqObj "list" #v[] 0)).update s.heap.objs.size (Obj.mapSeq (·++vs.toArray))).objs.size=s.heap.objs.size+1:=by rw[Heap.size_update,size_push']
 have ab:(((s.heap.push (seqObj "list" #v[] 0)).update s.heap.objs.size (Obj.mapSeq (·++vs.toArray))).push (seqObj "list" vs.toArray 0)).get? (s.heap.objs.size+1)=pc (seqObj "list" vs.toArray 0):=by rw[<- Y];exact Heap.get?_push_size _ rfl
 have keep:∀b o,s.heap.get? b=pc o->(((s.heap.push (seqObj "list" #v[] 0)).update s.heap.objs.size (Obj.mapSeq (·++vs.toArray))).push (seqObj "list" vs.toArray 0)).get? b=pc o:=λb o q=>by have am:b<s.heap.objs.size:=Heap.lt_size q;exact Heap.get?_push_of_some _ ((Heap.get?_update_ne _ _ _ _ (Ez am)).trans (Heap.get?_push_of_some _ q))
 show wpAny _ _ _ _ _ {s with heap:=((s.heap.push (seqObj "list" #v[] 0)).update s.heap.objs.size (Obj.mapSeq (·++vs.toArray))).push (seqObj "list" vs.toArray 0)};rw[Y];refine x0 (Tq (wpAny_call_entry slot_list_sort #[_,ab,rfl] entry_list_sort (NW (nss:=nss) ab ac ?_ (λi hi=> ?_) λp a1 a2=>#[_,rfl, ?_]) (args_list_sort _)));simp only[units_in1];omega;obtain⟨x,J,e,il,ii⟩:=al i hi;obtain⟨o,ho,r⟩:=il;exact#[x,J,e,Ez (Tl (Heap.lt_size ho)),#[o,keep _ _ ho,r],ii];exact No #[_,rfl,h p a1 a2]
end
section
variable {α β : Type}
def sT(x:α×List Int):List (α×List Int)->List (α×List Int)
 | []=>[x]
 | y::l=>if HT.lexLt x.2 y.2=qc then x::y::l else y::sT x l
def d9:List (α×List Int)->List (α×List Int)
 | []=>[]
 | x::l=>sT x (d9 l)
theorem Dg{g:α×List Int->β×List Int}(J:∀x,(g x).2=x.2)(x:α×List Int):∀l,sT (g x) (l.map g)=(sT x l).map g
 | []=>rfl
 | y::l=>by rw[ww];unfold sT;rw[J,J];split;rfl;rw[ww,Dg J x l]
theorem n8{g:α×List Int->β×List Int}(J:∀x,(g x).2=x.2):∀l,d9 (l.map g)=(d9 l).map g
 | []=>rfl
 | x::l=>by rw[ww];unfold d9;rw[n8 J l,Dg J]
theorem u5(x:α×List Int):∀l,(sT x l).Perm (x::l)
 | []=>.refl _
 | y::l=>by unfold sT;split;exact .refl _;exact((u5 x l).cons y).trans (VH x y l)
theorem ix:∀l:List (α×List Int),(d9 l).Perm l
 | []=>.refl _
 | x::l=>(u5 x _).trans ((ix l).cons x)
abbrev AX(l:List (α×List Int)):Prop:=l.Pairwise λa b=>HT.lexLt b.2 a.2=wh
theorem lex_asymm{a b:List Int}(h:HT.lexLt a b=qc):HT.lexLt b a=false:=by
 cases h2:HT.lexLt b a with
 | false=>rfl
 | true=>
  have:=lex_trans a b a h h2;rw[lex_irrefl] at this;cases this
theorem G5{a b c:List Int}(h1:HT.lexLt b a=wh)(h2:HT.lexLt c b=wh):HT.lexLt c a=false:=KeyOrd.kle_trans (O:=NX) (a:=a) (b:=b) (c:=c) h1 h2
theorem Be(x:α×List Int):∀{l},AX l->AX (sT x l)
 | [],_=>List.pairwise_singleton _ _
 | y::l,h=>by
  unfold sT;have hy:=OQ.mp h;split;rename_i c;refine OQ.mpr #[λz hz=> ?_,h];rcases u8.mp hz with rfl | hz
  exact lex_asymm c;exact G5 (lex_asymm c) (hy.1 z hz);rename_i c;refine OQ.mpr #[λz hz=> ?_,Be x hy.2];rcases u8.mp ((u5 x l).mem_iff.mp hz) with rfl | hz
  exact eq_false_of_ne_true c;exact hy.1 z hz
theorem o7:∀l:List (α×List Int),AX (d9 l)
 | []=>.nil
 | x::l=>Be x (o7 l)
theorem MR{l:List (α×List Int)}(J:(l.map (·.2)).Nodup){a b:α×List Int}(ha:a∈l)(hb:b∈l)(h:a.2=b.2):a=b:=by
 induction l with
 | nil=>cases ha
 | cons x l U=>
  rw[ww,RQ] at J;rcases u8.mp ha with rfl | ha'
  rcases u8.mp hb with rfl | hb;rfl;have q:b.2∈l.map (·.2):=G0 hb;rw[<- h] at q;exact absurd q J.1;rcases u8.mp hb with rfl | hb;have q:a.2∈l.map (·.2):=G0 ha';rw[h] at q;exact absurd q J.1;exact U J.2 ha' hb
theorem yz:∀{l m:List (α×List Int)},l.Perm m->(l.map (·.2)).Nodup->AX l->AX m->l=m
 | [],m,h,_,_,_=>(List.nil_perm.mp h).symm
 | a::l,[],h,_,_,_=>absurd h.symm (by simp)
 | a::l,b::m,h,nd,hl,hm=>by
  have e:a=b:=by
   have ha:a∈b::m:=h.mem_iff.mp uC;have hb:b∈a::l:=h.mem_iff.mpr uC;rcases u8.mp ha with e | ha
   exact e;rcases u8.mp hb with e | hb'
   exact e.symm;refine MR nd uC hb (qM _ _ ((OQ.mp hm).1 a ha) ((OQ.mp hl).1 b hb'))
  subst e;rw[yz (List.Perm.cons_inv h) (RQ.mp nd).2 (OQ.mp hl).2 (OQ.mp hm).2]
end
section
variable {X : Cx}
def yo(K:sH):List V->Hp->VK->Prop:=λxs H Q=>∃(p:qh) (ls:List (qh×List Int)),xs=[.ref p]/\SqL K H p (ls.map λx=>V.ref x.1)/\(∀x∈ls,SqL K H x.1 (x.2.map V.int))/\ls.length<64/\(ls.map (·.2)).Nodup/\
 ∀d,H d=pi->Q (.ref d) (upd H d (.lst ((d9 ls).map λx=>V.ref x.1)))
theorem z5:∀{ls:List (qh×List Int)} {J:List qb},Vals (ls.map λx=>V.ref x.1) J->J=ls.map λx=>Value.ref x.1
 | [],_,h=>by cases h;rfl
 | x::ls,_,h=>by
  cases h with
  | cons r U=>cases r;rw[z5 U];rfl
theorem zv:∀(ls:List (qh×List Int)),Vals (ls.map λx=>V.ref x.1) (ls.map λx=>Value.ref x.1)
 | []=>.nil
 | x::ls=>.cons rfl (zv ls)
theorem DV(hu:X.A.units+64<cLine):mY X (.builtin "sorted") (yo X.K):=by
 intro pins s σ H xs us Q I r h;obtain⟨p,ls,rfl,hq,hi,ac,nd,q⟩:=h;obtain⟨u,rfl,ru⟩:=vals1 r;cases ru;obtain⟨a4,rv,pl,hz⟩:=I.list hq;obtain rfl:=z5 rv;have ln:(ls.map λx=>Value.ref x.1).length=ls.length:=sB _;refine Mo (nss:=ls.map (·.2)) pl.isList (by rw[ln];exact ac) hu (λi U=> ?_) λJ a1 a2=> ?_;rw[ln] at U;obtain⟨Y,r2,am,_⟩:=I.list (hi ls[i] (AL _));refine#[ls[i].1,Y.toArray,by simp[pr,U],am.isList, ?_];rw[show (ls.map (·.2)).getD i []=ls[i].2 by simp[pr,U]];simpa using t6 r2;rw[ln] at a1 a2;have hm:∀i∈J.toList,i<ls.length:=λi hi=>by have:=(Ua.mp a1).mem_iff.mp hi;simpa using this
 have e1:qP (ls.map λx=>Value.ref x.1) J=((J.toList.map λi=>ls.getD i (0,[])).map λx=>Value.ref x.1).toArray:=by unfold qP;congr 1;rw[wf];refine U1 λi hi=> ?_;have:=hm i hi;simp[pr,this]
 have e2:(J.toList.map λi=>ls.getD i (0,[])).Perm ls:=by have:=(Ua.mp a1).map λi=>ls.getD i (0,[]);refine this.trans (List.Perm.of_eq ?_);refine S2 (by simp) λi h1 h2=> ?_;simp[pr,h2]
 have sz:J.size=ls.length:=by have:=a1.size_eq;simpa using this
 have e3:AX (J.toList.map λi=>ls.getD i (0,[])):=by
  refine Ta.mpr ?_;intro i j hi hj an;have U:i<J.size:=by simpa using hi
  have ap:j<J.size:=by simpa using hj
  have:=a2 i j (Sj an) ⋯;have k1:∀(i:Nat) (h:i<J.size),kAt (DA (ls.map (·.2))) J i=(ls.getD J[i] (0,[])).2:=λi h=>by
   have hb:=hm J[i] (by simp);have e:J.getD i 0=J[i]:=by simp[Array.getD,h]
   unfold kAt;rw[e];show (ls.map (·.2)).getD J[i] []=_;rw[pr,wv,pr,sK hb];rfl
  rw[k1 i U,k1 j ap] at this;rw[Tt,Tt,UT,UT];exact this
 have e4:(J.toList.map λi=>ls.getD i (0,[]))=d9 ls:=yz (e2.trans (ix ls).symm) ((e2.map (·.2)).nodup_iff.mpr nd) e3 (o7 ls);rw[e1,e4];obtain⟨e,he⟩:=sortedAll_at s.heap (ls.map λx=>Value.ref x.1) ((d9 ls).map λx=>Value.ref x.1).toArray;have fresh:H (s.heap.objs.size+1)=none:=I.hok.fresh (T5 _);refine#[.ref (s.heap.objs.size+1),_,I.laid (t':=s.toks) (o:=.lst ((d9 ls).map λx=>V.ref x.1)) (λb o q=>sortedAll_old q) (T5 _) ?_,rfl,q _ fresh];exact#[by rw[sB,(ix ls).length_eq];rw[sB] at hz;exact hz,_,e,zv _,he]
end
open PySem PySem.Spec PyProof.Rows
section
variable {prog : B3} {w : Ch} {A : Je} {R : U4 → tt → Prop} {I : qh} {fp wr : List qh} {n : Nat} {P : Nat → qb → Prop} {St : Nat → FS → Prop} {kw : List (Str × qb)}
end
section
variable {prog : B3} {w : Ch} {A : Je} {E : qb → tt → Prop} {s : tt}
end
section
variable {X : Cx} {e d : Db} {te td : TE} {p q kp : Pos}
end
section
variable {X : Cx}
end
section
variable {X : Cx}
end
section
variable {X : Cx}
end
section
variable {prog : B3} {w : Ch} {A : Je} {E : qb → tt → Prop} {s : tt}
end
section
variable {X : Cx} {e d : Db} {te td : TE} {p q kp : Pos}
end
section
variable {prog : B3} {w : Ch} {A : Je} {E : qb → tt → Prop} {s : tt}
end
section
variable {X : Cx}
end
end L2
namespace M
open PySem L2
variable {K : sH} {a : qh} {xs vs : List V} {d x y : D} {v : V} {ds : List D} {H F H1 F1 : Hp} {θ θ1 : List qh} {ca : Nat → qh} {O : aC} {s : S} {C : Ct} {te t to : TE} {ta : TA} {m me mo e : EM} {ma : AM} {n i k c : Nat} {g : TG} {gm : GM} {wi : TI} {im : IM} {tc : TT} {σ : L2.St} {E : XK} {Q : VK} {tl th : TO} {ml mh : OM} {caps : List Nat} {X : Cx} {f : Str} {ns : List Str}
inductive D where
 | non | bl (b:Bool) | int (i:Int) | str (x:Str) | lst (xs:List D) | tup (xs:List D) | ptr (k:Nat) | obj (c:Nat) (ns:List Str) (ds:List D) | exn (c:Nat)
inductive Cell where
 | dead | lst (xs:List D) | ins (c:Nat) (ns:List Str) (ds:List D)
abbrev aC:=List Cell
structure S where
 r:List (Option D)
 o:aC
inductive Res (α:Type) where
 | ok (a:α) | exc (c:Nat) (a:D) (o:S) | bad
def Res.bind{α β:Type}(x:Res α)(f:α->Res β):Res β:=match x with
 | .ok a=>f a
 | .exc c a o=>.exc c a o
 | .bad=>.bad
@[simp] theorem aj {α β:Type} {a:α} {f:α->Res β}:(Res.ok a).bind f=f a:=rfl
@[simp] theorem Qe {α β:Type} (c:Nat) (a:D) (o:S) (f:α->Res β):(Res.exc c a o:Res α).bind f=.exc c a o:=rfl
@[simp] theorem Qb {α β:Type} (f:α->Res β):(Res.bad:Res α).bind f=.bad:=rfl
abbrev Wsh:=Nat->D->S->Hp->Hp->List qh->Prop
structure Ct where
 K:sH
 ca:Nat->qh
 W:Wsh
mutual
def Rep(K:sH)(ca:Nat->qh)(θ:List qh)(F:Hp):D->V->Prop
 | .non,v=>v=.non
 | .bl b,v=>v=.bl b
 | .int i,v=>v=.int i
 | .str x,v=>v=.str x
 | .lst ds,v=>∃a xs,v=.ref a/\SqL K F a xs/\aJ K ca θ F ds xs
 | .tup ds,v=>∃a xs,v=.ref a/\SqT K F a xs/\aJ K ca θ F ds xs
 | .ptr k,v=>∃a,v=.ref a/\θ[k]? =pc a
 | .obj c ns ds,v=>∃a dx xs,v=.ref a/\F a=pc (.ins (ca c) dx (ns.zip xs))/\ns.length=xs.length/\aJ K ca θ F ds xs
 | .exn c,v=>∃a,v=.ref a/\F a=pc (exO a (ca c))
def aJ(K:sH)(ca:Nat->qh)(θ:List qh)(F:Hp):List D->List V->Prop
 | [],xs=>xs=[]
 | d::ds,xs=>∃v r,xs=v::r/\Rep K ca θ F d v/\aJ K ca θ F ds r
end
mutual
def cW:D->Bool
 | .lst ds=>aR ds
 | .tup ds=>aR ds
 | .ptr _=>wh
 | .obj _ _ ds=>aR ds
 | _=>qc
def aR:List D->Bool
 | []=>qc
 | d::ds=>cW d&&aR ds
end
def pe:D->Bool
 | .non=>qc | .bl _=>qc | .int _=>qc | .str _=>qc | _=>wh
theorem ck.seqT{H H':Hp}(e:ck H H')(h:SqT K H a xs):SqT K H' a xs:=by rcases h with(h | ⟨o,h⟩) | h;exact .inl (.inl (e _ _ h));exact .inl (.inr #[o,e _ _ h]);exact .inr h
section
variable {K : sH} {ca : Nat → qh} {θ θ1 : List qh} {F F1 : Hp}
mutual
theorem Rep.mono(U:ck F F1)(J:∃r,θ1=θ++r):∀{d:D} {v:V},Rep K ca θ F d v->Rep K ca θ1 F1 d v
 | .non,_,h=>h
 | .bl _,_,h=>h
 | .int _,_,h=>h
 | .str _,_,h=>h
 | .lst ds,_,h=>by unfold Rep at h ⊢;obtain⟨a,xs,e,hs,hr⟩:=h;exact#[a,xs,e,U.seq hs,aJ.mono U J hr]
 | .tup ds,_,h=>by unfold Rep at h ⊢;obtain⟨a,xs,e,hs,hr⟩:=h;exact#[a,xs,e,ck.seqT U hs,aJ.mono U J hr]
 | .ptr k,_,h=>by unfold Rep at h ⊢;obtain⟨a,e,hk⟩:=h;obtain⟨r,rfl⟩:=J;refine#[a,e, ?_];rw[wP (xb.mp hk).1];exact hk
 | .obj c ns ds,_,h=>by unfold Rep at h ⊢;obtain⟨a,dx,xs,e,ha,Y,hr⟩:=h;exact#[a,dx,xs,e,U _ _ ha,Y,aJ.mono U J hr]
 | .exn c,_,h=>by unfold Rep at h ⊢;obtain⟨a,e,ha⟩:=h;exact#[a,e,U _ _ ha]
theorem aJ.mono(U:ck F F1)(J:∃r,θ1=θ++r):∀{ds:List D} {xs:List V},aJ K ca θ F ds xs->aJ K ca θ1 F1 ds xs
 | [],_,h=>h
 | d::ds,_,h=>by unfold aJ at h ⊢;obtain⟨v,r,e,h1,h2⟩:=h;exact#[v,r,e,Rep.mono U J h1,aJ.mono U J h2]
end
mutual
theorem Rep.pure:∀{d:D} {v:V},cW d=qc->Rep K ca θ F d v->Rep K ca θ1 F d v
 | .non,_,_,h=>h
 | .bl _,_,_,h=>h
 | .int _,_,_,h=>h
 | .str _,_,_,h=>h
 | .lst ds,_,p,h=>by unfold Rep at h ⊢;obtain⟨a,xs,e,hs,hr⟩:=h;exact#[a,xs,e,hs,aJ.pure (by simpa[cW] using p) hr]
 | .tup ds,_,p,h=>by unfold Rep at h ⊢;obtain⟨a,xs,e,hs,hr⟩:=h;exact#[a,xs,e,hs,aJ.pure (by simpa[cW] using p) hr]
 | .ptr k,_,p,h=>by simp[cW] at p
 | .obj c ns ds,_,p,h=>by unfold Rep at h ⊢;obtain⟨a,dx,xs,e,ha,J,hr⟩:=h;exact#[a,dx,xs,e,ha,J,aJ.pure (by simpa[cW] using p) hr]
 | .exn c,_,_,h=>by unfold Rep at h ⊢;exact h
theorem aJ.pure:∀{ds:List D} {xs:List V},aR ds=qc->aJ K ca θ F ds xs->aJ K ca θ1 F ds xs
 | [],_,_,h=>h
 | d::ds,_,p,h=>by unfold aJ at h ⊢;obtain⟨v,r,e,h1,h2⟩:=h;simp only[aR,RJ] at p;exact#[v,r,e,Rep.pure p.1 h1,aJ.pure p.2 h2]
end
theorem Rep.scal(p:pe d=qc)(h:Rep K ca θ F d v):Rep K ca θ1 F1 d v:=by cases d <;> first | exact h | (simp[pe] at p)
theorem aJ.length:∀{ds:List D} {xs:List V},aJ K ca θ F ds xs->xs.length=ds.length
 | [],_,h=>by unfold aJ at h;rw[h];rfl
 | d::ds,_,h=>by unfold aJ at h;obtain⟨v,r,rfl,_,h2⟩:=h;rw[xa,xa,aJ.length h2]
theorem aJ.get:∀{ds:List D} {xs:List V} {i:Nat} {d:D},aJ K ca θ F ds xs->ds[i]? =pc d->∃v,xs[i]? =pc v/\Rep K ca θ F d v
 | [],_,_,_,_,e=>by simp at e
 | d::ds,_,0,_,h,e=>by unfold aJ at h;obtain⟨v,r,rfl,h1,_⟩:=h;simp at e;subst e;exact#[v,rfl,h1]
 | d::ds,_,i+1,x,h,e=>by unfold aJ at h;obtain⟨v,r,rfl,_,h2⟩:=h;obtain⟨u,e1,e2⟩:=aJ.get (i:=i) (d:=x) h2 (by simpa using e);exact#[u,by simpa using e1,e2]
theorem aJ.append:∀{ds es:List D} {xs ys:List V},aJ K ca θ F ds xs->aJ K ca θ F es ys->aJ K ca θ F (ds++es) (xs++ys)
 | [],_,_,_,h,k=>by unfold aJ at h;rw[h];exact k
 | d::ds,_,_,_,h,k=>by unfold aJ at h;obtain⟨v,r,rfl,h1,h2⟩:=h;show aJ K ca θ F (d::(ds++_)) (v::(r++_));unfold aJ;exact#[v,_,rfl,h1,aJ.append h2 k]
theorem aJ.one(h:Rep K ca θ F d v):aJ K ca θ F [d] [v]:=by unfold aJ;exact#[v,[],rfl,h,by unfold aJ;rfl]
theorem aJ.nil:aJ K ca θ F [] []:=by unfold aJ;rfl
theorem aJ.cons(h:Rep K ca θ F d v)(k:aJ K ca θ F ds xs):aJ K ca θ F (d::ds) (v::xs):=by unfold aJ;exact#[v,xs,rfl,h,k]
theorem aJ.take:∀{ds:List D} {xs:List V} (n:Nat),aJ K ca θ F ds xs->aJ K ca θ F (ds.take n) (xs.take n)
 | _,_,0,_=>by simp;exact aJ.nil
 | [],_,n+1,h=>by unfold aJ at h;rw[h];exact aJ.nil
 | d::ds,_,n+1,h=>by unfold aJ at h;obtain⟨v,r,rfl,h1,h2⟩:=h;exact aJ.cons h1 (aJ.take n h2)
theorem aJ.drop:∀{ds:List D} {xs:List V} (n:Nat),aJ K ca θ F ds xs->aJ K ca θ F (ds.drop n) (xs.drop n)
 | _,_,0,h=>h
 | [],_,n+1,h=>by unfold aJ at h;rw[h];exact aJ.nil
 | d::ds,_,n+1,h=>by unfold aJ at h;obtain⟨v,r,rfl,h1,h2⟩:=h;exact aJ.drop n h2
theorem aJ.set{d:D}{v:V}(h:Rep K ca θ F d v):∀{ds:List D} {xs:List V} (i:Nat),aJ K ca θ F ds xs->aJ K ca θ F (ds.set i d) (xs.set i v)
 | [],_,_,k=>by unfold aJ at k;rw[k];exact aJ.nil
 | _::_,_,0,k=>by unfold aJ at k;obtain⟨v,r,rfl,h1,h2⟩:=k;exact aJ.cons h h2
 | _::_,_,i+1,k=>by unfold aJ at k;obtain⟨v,r,rfl,h1,h2⟩:=k;exact aJ.cons h1 (aJ.set h i h2)
end
structure Stp(H F:Hp)(θ:List qh)(H1 F1:Hp)(θ1:List qh):Prop where
 ff:ck F F1
 th:∃r,θ1=θ++r/\∀a∈r,H a=pi
 kp:∀b o,H b=pc o->b∉θ->H1 b=pc o
 al:∀b o,H b=pc o->∃o',H1 b=pc o'
 nf:∀b o,F1 b=pc o->F b=pc o\/H b=pi\/b∈θ
theorem Stp.refl:Stp H F θ H F θ:=#[ck.refl _,#[[],by simp,by simp],λ_ _ h _=>h,λ_ o h=>#[o,h],λ_ _ h=>.inl h]
theorem Stp.pre(x:Stp H F θ H1 F1 θ1):∃r,θ1=θ++r:=let #[r,e,_]:=x.th;#[r,e]
theorem Stp.trans{H F H1 F1 H2 U:Hp}{θ θ1 θ2:List qh}(x:Stp H F θ H1 F1 θ1)(y:Stp H1 F1 θ1 H2 U θ2):Stp H F θ H2 U θ2:=by
 obtain⟨r,rfl,hr⟩:=x.th;obtain⟨Y,rfl,J⟩:=y.th;refine#[x.ff.trans y.ff,#[r++Y,by rw[R9],λa ha=> ?_],λb o h hb=> ?_,λb o h=> ?_,λb o h=> ?_];rcases wE.mp ha with z | z
 exact hr a z;cases e:H a with
 | none=>rfl
 | some o=>
  obtain⟨o',e'⟩:=x.al a o e;rw[J a z] at e';cases e'
 refine y.kp b o (x.kp b o h hb) λhm=> ?_;rcases wE.mp hm with z | z
 exact hb z;rw[hr b z] at h;cases h;obtain⟨o',e'⟩:=x.al b o h;exact y.al b o' e';rcases y.nf b o h with z | z | z
 exact x.nf b o z;refine .inr (.inl ?_);cases e:H b with
 | none=>rfl
 | some o'=>
  obtain⟨o2,e2⟩:=x.al b o' e;rw[z] at e2;cases e2
 rcases wE.mp z with q | q;exact .inr (.inr q);exact .inr (.inl (hr b q))
def ki(K:sH)(ca:Nat->qh)(H F:Hp)(θ:List qh)(a:qh):Cell->Prop
 | .dead=>∃o,H a=pc o
 | .lst ds=>F a=pi/\∃xs,H a=pc (.lst xs)/\aJ K ca θ F ds xs
 | .ins c ns ds=>F a=pi/\∃dx xs,H a=pc (.ins (ca c) dx (ns.zip xs))/\ns.length=xs.length/\aJ K ca θ F ds xs
theorem ki.there{c:Cell}(h:ki K ca H F θ a c):∃o,H a=pc o:=by
 cases c with
 | dead=>exact h
 | lst ds=>obtain⟨_,xs,e,_⟩:=h;exact#[_,e]
 | ins c ns ds=>obtain⟨_,dx,xs,e,_⟩:=h;exact#[_,e]
structure Now(K:sH)(ca:Nat->qh)(H F:Hp)(θ:List qh)(O:aC):Prop where
 fh:ck F H
 nd:θ.Nodup
 ln:θ.length=O.length
 ce:∀(k:Nat) a c,θ[k]? =pc a->O[k]? =pc c->ki K ca H F θ a c
theorem Now.there(n:Now K ca H F θ O)(h:a∈θ):∃o,H a=pc o:=by
 obtain⟨k,hk,e⟩:=Rw h;have h1:θ[k]? =pc a:=by rw[sK hk,e]
 have h2:∃c,O[k]? =pc c:=#[O[k]'(by rw[<- n.ln];exact hk),sK _];obtain⟨c,h2⟩:=h2;exact(n.ce k a c h1 h2).there
theorem Now.nil(h:ck F H):Now K ca H F [] []:=#[h,VF,rfl,λk a c e _=>by simp at e]
structure BS(K:sH)(ca:Nat->qh)(σ:St)(H F:Hp)(θ:List qh)(s:S):Prop where
 now:Now K ca H F θ s.o
 len:σ.length=s.r.length
 sl:∀(i:Nat) d,s.r[i]? =pc (pc d)->∃v,σ[i]? =pc (pc v)/\Rep K ca θ F d v
theorem BS.newF{σ:St}(b:BS K ca σ H F θ s){p:qh}(hp:H p=pi)(o:HO):
 Stp H F θ (upd H p o) (upd F p o) θ/\BS K ca σ (upd H p o) (upd F p o) θ s/\ck F (upd F p o)/\upd F p o p=pc o:=by
 have nm:∀a u,H a=pc u->a≠p:=λa u e z=>by rw[z,hp] at e;cases e
 have fp:F p=none:=by
  cases e:F p with
  | none=>rfl
  | some u=>rw[b.now.fh p u e] at hp;cases hp
 have J:ck F (upd F p o):=λa u e=>by rw[aZ (nm a u (b.now.fh a u e))];exact e
 have U:ck H (upd H p o):=λa u e=>by rw[aZ (nm a u e)];exact e
 refine#[#[J,#[[],by simp,by simp],λa u e _=>U a u e,λa u e=>#[u,U a u e],λa u e=> ?_],#[#[λa u e=> ?_,b.now.nd,b.now.ln,λk a c e1 e2=> ?_],b.len,λi d e=> ?_],J,cQ];by_cases h:a=p;subst h;exact .inr (.inl hp);rw[aZ h] at e;exact .inl e;by_cases h:a=p;subst h;rw[cQ] at e ⊢;exact e;rw[aZ h] at e ⊢;exact b.now.fh a u e;have q:=b.now.ce k a c e1 e2;obtain⟨u,hu⟩:=q.there;have ne:=nm a u hu;cases c with
 | dead=>exact#[u,U a u hu]
 | lst ds=>
  obtain⟨q1,xs,q2,Y⟩:=q;exact#[by rw[aZ ne];exact q1,xs,U _ _ q2,Y.mono J #[[],by simp]]
 | ins c ns ds=>
  obtain⟨q1,dx,xs,q2,Y,q4⟩:=q;exact#[by rw[aZ ne];exact q1,dx,xs,U _ _ q2,Y,q4.mono J #[[],by simp]]
 obtain⟨v,h1,h2⟩:=b.sl i d e;exact#[v,h1,h2.mono J #[[],by simp]]
theorem BS.newC{σ:St}(b:BS K ca σ H F θ s){p:qh}(hp:H p=pi)(hr:aJ K ca θ F ds xs):
 Stp H F θ (upd H p (.lst xs)) F (θ++[p])/\BS K ca σ (upd H p (.lst xs)) F (θ++[p]) #[s.r,s.o++[.lst ds]]/\Rep K ca (θ++[p]) F (.ptr s.o.length) (.ref p):=by
 have nm:∀a u,H a=pc u->a≠p:=λa u e z=>by rw[z,hp] at e;cases e
 have fp:F p=none:=by
  cases e:F p with
  | none=>rfl
  | some u=>rw[b.now.fh p u e] at hp;cases hp
 have J:ck H (upd H p (.lst xs)):=λa u e=>by rw[aZ (nm a u e)];exact e
 have pt:p∉θ:=λh=>by obtain⟨u,hu⟩:=b.now.there h;rw[hp] at hu;cases hu
 refine#[#[ck.refl _,#[[p],rfl,by simpa using hp],λa u e _=>J a u e,λa u e=>#[u,J a u e],λa u e=>.inl e],#[#[b.now.fh.trans J, ?_, ?_,λk a c e1 e2=> ?_],b.len,λi d e=> ?_], ?_];refine Sa.mpr #[b.now.nd,by simp,λa ha x hx=> ?_];rw[wn.mp hx];rintro rfl;exact pt ha;simp[b.now.ln];by_cases hk:k<θ.length;rw[wP hk] at e1;rw[wP (by rw[<- b.now.ln];exact hk)] at e2;have q:=b.now.ce k a c e1 e2;obtain⟨u,hu⟩:=q.there;cases c with
 | dead=>exact#[u,J a u hu]
 | lst ds=>
  obtain⟨q1,ys,q2,U⟩:=q;exact#[q1,ys,J _ _ q2,U.mono (ck.refl _) #[[p],rfl]]
 | ins c ns ds=>
  obtain⟨q1,dx,ys,q2,U,q4⟩:=q;exact#[q1,dx,ys,J _ _ q2,U,q4.mono (ck.refl _) #[[p],rfl]]
 have Y:k<(θ++[p]).length:=(xb.mp e1).1;have ab:k=θ.length:=by simp at Y;omega
 subst ab;rw[wS (vr _)] at e1;rw[wS (by rw[b.now.ln];exact vr _),b.now.ln] at e2;simp at e1 e2;subst e1;subst e2;exact#[fp,xs,cQ,hr.mono (ck.refl _) #[[p],rfl]];obtain⟨v,h1,h2⟩:=b.sl i d e;exact#[v,h1,h2.mono (ck.refl _) #[[p],rfl]];unfold Rep;exact#[p,rfl,by rw[<- b.now.ln];simp]
theorem BS.set{σ:St}(b:BS K ca σ H F θ s)(h:Rep K ca θ F d v)(i:Nat):BS K ca (σ.set i (pc v)) H F θ #[s.r.set i (pc d),s.o]:=by
 refine#[b.now,by simp[b.len],λj e U=> ?_];by_cases J:i=j;subst J;have Y:i<s.r.length:=by have:=(xb.mp U).1;simpa using this
 rw[Rp Y] at U;cases U;exact#[v,Rp (by rw[b.len];exact Y),h];rw[Ru J] at U;obtain⟨u,h1,h2⟩:=b.sl j e U;exact#[u,by rw[Ru J];exact h1,h2]
abbrev EM:=S->Res (D×S)
abbrev AM:=S->Res (List D×S)
inductive Out where
 | next (s:S) | ret (d:D) (s:S) | brk (s:S) | cnt (s:S) | exc (c:Nat) (a:D) (o:S) | bad
abbrev SM:=S->Out
def PoR{α:Type}(C:Ct)(H F:Hp)(θ:List qh)(x:Res α)(k:α->Hp->Hp->List qh->Prop):Prop:=match x with
 | .ok a=>∀H1 F1 θ1,Stp H F θ H1 F1 θ1->k a H1 F1 θ1
 | .exc c a o=>∀H1 F1 θ1,Stp H F θ H1 F1 θ1->Now C.K C.ca H1 F1 θ1 o.o->C.W c a o H1 F1 θ1
 | .bad=>False
abbrev PoE(C:Ct)(σ:St)(H F:Hp)(θ:List qh)(x:Res (D×S))(Q:VK):Prop:=
 PoR C H F θ x λy H1 F1 θ1=>BS C.K C.ca σ H1 F1 θ1 y.2->∀v,Rep C.K C.ca θ1 F1 y.1 v->Q v H1
abbrev PoA(C:Ct)(σ:St)(H F:Hp)(θ:List qh)(x:Res (List D×S))(Q:List V->Hp->Prop):Prop:=
 PoR C H F θ x λy H1 F1 θ1=>BS C.K C.ca σ H1 F1 θ1 y.2->∀v,aJ C.K C.ca θ1 F1 y.1 v->Q v H1
abbrev PoT(C:Ct)(σ:St)(H F:Hp)(θ:List qh)(x:Res (Bool×S))(Q:Bool->Hp->Prop):Prop:=
 PoR C H F θ x λy H1 F1 θ1=>BS C.K C.ca σ H1 F1 θ1 y.2->Q y.1 H1
abbrev PoG(C:Ct)(H F:Hp)(θ:List qh)(x:Res S)(Q:St->Hp->Prop):Prop:=
 PoR C H F θ x λy H1 F1 θ1=>∀J,BS C.K C.ca J H1 F1 θ1 y->Q J H1
def PoS(C:Ct)(H F:Hp)(θ:List qh)(x:Out)(Q:Ends):Prop:=match x with
 | .next s1=>∀J H1 F1 θ1,Stp H F θ H1 F1 θ1->BS C.K C.ca J H1 F1 θ1 s1->Q.nx J H1
 | .ret d s1=>∀v J H1 F1 θ1,Stp H F θ H1 F1 θ1->BS C.K C.ca J H1 F1 θ1 s1->Rep C.K C.ca θ1 F1 d v->Q.rt v H1
 | .brk s1=>∀J H1 F1 θ1,Stp H F θ H1 F1 θ1->BS C.K C.ca J H1 F1 θ1 s1->Q.bk J H1
 | .cnt s1=>∀J H1 F1 θ1,Stp H F θ H1 F1 θ1->BS C.K C.ca J H1 F1 θ1 s1->Q.ct J H1
 | .exc c a o=>∀H1 F1 θ1,Stp H F θ H1 F1 θ1->Now C.K C.ca H1 F1 θ1 o.o->C.W c a o H1 F1 θ1
 | .bad=>False
theorem PoR.after{α:Type}{x:Res α}{k:α->Hp->Hp->List qh->Prop}(st:Stp H F θ H1 F1 θ1)(p:PoR C H F θ x k):PoR C H1 F1 θ1 x k:=by
 unfold PoR at p ⊢;cases x with
 | ok a=>exact λH2 J θ2 s2=>p H2 J θ2 (st.trans s2)
 | exc c a o=>exact λH2 J θ2 s2 n=>p H2 J θ2 (st.trans s2) n
 | bad=>exact p
theorem PoR.bind {α β:Type} {C:Ct} {H F:Hp} {θ:List qh} {x:Res α} {f:α->Res β} {k:α->Hp->Hp->List qh->Prop} {j:β->Hp->Hp->List qh->Prop}
 (p:PoR C H F θ (x.bind f) j) (h:∀a H1 F1 θ1,x=.ok a->Stp H F θ H1 F1 θ1->PoR C H1 F1 θ1 (f a) j->k a H1 F1 θ1):PoR C H F θ x k:=by
 cases x with
 | ok a=>exact λH1 F1 θ1 st=>h a H1 F1 θ1 rfl st (PoR.after st p)
 | exc c a o=>exact p
 | bad=>exact p
theorem PoS.after{x:Out}{Q:Ends}(st:Stp H F θ H1 F1 θ1)(p:PoS C H F θ x Q):PoS C H1 F1 θ1 x Q:=by
 unfold PoS at p ⊢;cases x with
 | next s=>exact λv H2 J θ2 s2 b=>p v H2 J θ2 (st.trans s2) b
 | ret d s=>exact λv U H2 J θ2 s2 b r=>p v U H2 J θ2 (st.trans s2) b r
 | brk s=>exact λv H2 J θ2 s2 b=>p v H2 J θ2 (st.trans s2) b
 | cnt s=>exact λv H2 J θ2 s2 b=>p v H2 J θ2 (st.trans s2) b
 | exc c a o=>exact λH2 J θ2 s2 n=>p H2 J θ2 (st.trans s2) n
 | bad=>exact p
def Res.out{α:Type}(x:Res α)(f:α->Out):Out:=match x with
 | .ok a=>f a
 | .exc c a o=>.exc c a o
 | .bad=>.bad
@[simp] theorem kN {α:Type} {a:α} {f:α->Out}:(Res.ok a).out f=f a:=rfl
@[simp] theorem QL {α:Type} (c:Nat) (a:D) (o:S) (f:α->Out):(Res.exc c a o:Res α).out f=.exc c a o:=rfl
@[simp] theorem QM {α:Type} (f:α->Out):(Res.bad:Res α).out f=.bad:=rfl
theorem PoS.out {α:Type} {C:Ct} {H F:Hp} {θ:List qh} {x:Res α} {f:α->Out} {k:α->Hp->Hp->List qh->Prop} {Q:Ends}
 (p:PoS C H F θ (x.out f) Q) (h:∀a H1 F1 θ1,x=.ok a->Stp H F θ H1 F1 θ1->PoS C H1 F1 θ1 (f a) Q->k a H1 F1 θ1):PoR C H F θ x k:=by
 cases x with
 | ok a=>exact λH1 F1 θ1 st=>h a H1 F1 θ1 rfl st (PoS.after st p)
 | exc c a o=>exact p
 | bad=>exact p
def RdE(C:Ct)(t:TE)(m:EM):Prop:=∀σ H F θ s Q,BS C.K C.ca σ H F θ s->PoE C σ H F θ (m s) Q->t σ H Q
def RdA(C:Ct)(t:TA)(m:AM):Prop:=∀σ H F θ s Q,BS C.K C.ca σ H F θ s->PoA C σ H F θ (m s) Q->t σ H Q
abbrev TM:=S->Res (Bool×S)
def RdT(C:Ct)(t:TT)(m:TM):Prop:=∀σ H F θ s Q,BS C.K C.ca σ H F θ s->PoT C σ H F θ (m s) Q->t σ H Q
abbrev GM:=D->S->Res S
def RdG(C:Ct)(t:TG)(m:GM):Prop:=∀σ H F θ s d v Q,BS C.K C.ca σ H F θ s->Rep C.K C.ca θ F d v->PoG C H F θ (m d s) Q->t v σ H Q
def RdS(C:Ct)(t:TS)(m:SM):Prop:=∀σ H F θ s Q,BS C.K C.ca σ H F θ s->PoS C H F θ (m s) Q->t Q σ H
section
variable {C : Ct}
@[simp] theorem gN {K ca θ F v}:Rep K ca θ F .non v↔v=.non:=by unfold Rep;exact Vd
@[simp] theorem cO {K ca θ F v b}:Rep K ca θ F (.bl b) v↔v=.bl b:=by unfold Rep;exact Vd
@[simp] theorem bO {K ca θ F v i}:Rep K ca θ F (.int i) v↔v=.int i:=by unfold Rep;exact Vd
@[simp] theorem df {K ca θ F v x}:Rep K ca θ F (.str x) v↔v=.str x:=by unfold Rep;exact Vd
def aa(i:Nat):EM:=λs=>match s.r[i]? with
 | some (pc d)=>.ok (d,s)
 | _=>.bad
theorem ae(i:Nat):RdE C (LC i) (aa i):=by intro σ H F θ s Q b p;unfold aa at p;split at p;rename_i d e;obtain⟨v,h1,h2⟩:=b.sl i d e;exact#[v,h1,p H F θ .refl b v h2];exact p.elim
def aq(d:D):EM:=λs=>.ok (d,s)
theorem ax(i:Int):RdE C (tC (.int i)) (aq (.int i)):=λσ H F θ s Q b p=>p H F θ .refl b (.int i) (bO.mpr rfl)
theorem wI(i:Bool):RdE C (tC (.bl i)) (aq (.bl i)):=λσ H F θ s Q b p=>p H F θ .refl b (.bl i) (cO.mpr rfl)
theorem kY(i:Str):RdE C (tC (.str i)) (aq (.str i)):=λσ H F θ s Q b p=>p H F θ .refl b (.str i) (df.mpr rfl)
theorem qt:RdE C (tC .non) (aq .non):=λσ H F θ s Q b p=>p H F θ .refl b .non (gN.mpr rfl)
abbrev Op2:=aC->D->D->Res D
abbrev Op1:=aC->D->Res D
def gQ(C:Ct)(r:R2)(f:Op2):Prop:=∀σ H F θ s x y v w Q,BS C.K C.ca σ H F θ s->Rep C.K C.ca θ F x v->Rep C.K C.ca θ F y w->
 PoE C σ H F θ ((f s.o x y).bind λd=>.ok (d,s)) Q->r v w H Q
def ak(f:Op2)(ma mb:EM):EM:=λs=>(ma s).bind λx=>(mb x.2).bind λy=>(f y.2.o x.1 y.1).bind λd=>.ok (d,y.2)
theorem ar{r:R2}{f:Op2}{ta tb:TE}{ma mb:EM}(U:gQ C r f)(ha:RdE C ta ma)(hb:RdE C tb mb):RdE C (tOp r ta tb) (ak f ma mb):=by intro σ H F θ s Q b p;refine ha σ H F θ s _ b (PoR.bind p ?_);rintro ⟨x,s1⟩ H1 F1 θ1 _ Y p1 b1 v r1;refine hb σ H1 F1 θ1 s1 _ b1 (PoR.bind p1 ?_);rintro ⟨y,s2⟩ H2 F2 θ2 _ J p2 b2 w r2;exact U σ H2 F2 θ2 s2 x y v w Q b2 (r1.mono J.ff J.pre) r2 p2
def Ov(C:Ct)(r:V->Hp->VK->Prop)(f:Op1):Prop:=∀σ H F θ s x v Q,BS C.K C.ca σ H F θ s->Rep C.K C.ca θ F x v->
 PoE C σ H F θ ((f s.o x).bind λd=>.ok (d,s)) Q->r v H Q
def unM(f:Op1)(ma:EM):EM:=λs=>(ma s).bind λx=>(f x.2.o x.1).bind λd=>.ok (d,x.2)
theorem tq{r:V->Hp->VK->Prop}{f:Op1}{ta:TE}{ma:EM}(J:Ov C r f)(ha:RdE C ta ma):RdE C (tUn r ta) (unM f ma):=by intro σ H F θ s Q b p;refine ha σ H F θ s _ b (PoR.bind p ?_);rintro ⟨x,s1⟩ H1 F1 θ1 _ U p1 Y v r1;exact J σ H1 F1 θ1 s1 x v Q Y r1 p1
def ao:AM:=λs=>.ok ([],s)
def af(m:EM)(r:AM):AM:=λs=>(m s).bind λx=>(r x.2).bind λy=>.ok (x.1::y.1,y.2)
theorem aw:RdA C qd ao:=λσ H F θ s Q b p=>p H F θ .refl b [] aJ.nil
theorem ai{r:AM}(U:RdE C te m)(ha:RdA C ta r):RdA C (mW te ta) (af m r):=by intro σ H F θ s Q b p;refine U σ H F θ s _ b (PoR.bind p ?_);rintro ⟨x,s1⟩ H1 F1 θ1 _ Y p1 b1 v r1;refine ha σ H1 F1 θ1 s1 _ b1 (PoR.bind p1 ?_);rintro ⟨y,s2⟩ H2 F2 θ2 _ J p2 b2 w r2;exact p2 H2 F2 θ2 .refl b2 (v::w) (aJ.cons (r1.mono J.ff J.pre) r2)
abbrev OpN:=aC->List D->Res D
def kT(C:Ct)(r:List V->Hp->VK->Prop)(f:OpN):Prop:=∀σ H F θ s xs vs Q,BS C.K C.ca σ H F θ s->aJ C.K C.ca θ F xs vs->
 PoE C σ H F θ ((f s.o xs).bind λd=>.ok (d,s)) Q->r vs H Q
def bJ(f:OpN)(ma:AM):EM:=λs=>(ma s).bind λx=>(f x.2.o x.1).bind λd=>.ok (d,x.2)
theorem bG{r:List V->Hp->VK->Prop}{f:OpN}(hc:kT C r f)(ha:RdA C ta ma):RdE C (tCB r ta) (bJ f ma):=by intro σ H F θ s Q b p;refine ha σ H F θ s _ b (PoR.bind p ?_);rintro ⟨x,s1⟩ H1 F1 θ1 _ J p1 U v Y;exact hc σ H1 F1 θ1 s1 x v Q U Y p1
def jE(ma:AM):EM:=λs=>(ma s).bind λx=>if x.1.length<=16777216 then .ok (.tup x.1,x.2) else .bad
theorem j4(ha:RdA C ta ma):RdE C (NL ta) (jE ma):=by intro σ H F θ s Q b p;refine ha σ H F θ s _ b (PoR.bind p ?_);rintro ⟨x,s1⟩ H1 F1 θ1 _ U p1 Y v J;dsimp only at p1;split at p1;rename_i hl;refine#[by rw[J.length];exact hl,λq hq=> ?_];obtain⟨st,b2,sF,e⟩:=Y.newF hq (.tup v);refine p1 _ _ _ st b2 _ ?_;unfold Rep;exact#[q,v,rfl,SqT.of e,J.mono sF #[[],by simp]];exact p1.elim
def kK(ma:AM):EM:=λs=>(ma s).bind λx=>if x.1.length<=16777216 then .ok (.lst x.1,x.2) else .bad
theorem sM(ha:RdA C ta ma):RdE C (EF ta) (kK ma):=by intro σ H F θ s Q b p;refine ha σ H F θ s _ b (PoR.bind p ?_);rintro ⟨x,s1⟩ H1 F1 θ1 _ U p1 Y v J;dsimp only at p1;split at p1;rename_i hl;refine#[by rw[J.length];exact hl,λq hq=> ?_];obtain⟨st,b2,sF,e⟩:=Y.newF hq (.lst v);refine p1 _ _ _ st b2 _ ?_;unfold Rep;exact#[q,v,rfl,SqL.of e,J.mono sF #[[],by simp]];exact p1.elim
def iL(ma:AM):EM:=λs=>(ma s).bind λx=>if x.1.length<=16777216 then .ok (.ptr x.2.o.length,#[x.2.r,x.2.o++[.lst x.1]]) else .bad
theorem jC(ha:RdA C ta ma):RdE C (EF ta) (iL ma):=by intro σ H F θ s Q b p;refine ha σ H F θ s _ b (PoR.bind p ?_);rintro ⟨x,s1⟩ H1 F1 θ1 _ U p1 Y v J;dsimp only at p1;split at p1;rename_i hl;refine#[by rw[J.length];exact hl,λq hq=> ?_];obtain⟨st,b2,rp⟩:=Y.newC hq J;exact p1 _ _ _ st b2 _ rp;exact p1.elim
def a7(m:EM):TM:=λs=>(m s).bind λx=>match x.1 with
 | .bl b=>.ok (b,x.2)
 | _=>.bad
theorem bF(h:RdE C t m):RdT C (L8 t) (a7 m):=by
 intro σ H F θ s Q b p;refine h σ H F θ s _ b (PoR.bind p ?_);rintro ⟨x,s1⟩ H1 F1 θ1 _ J p1 U v Y;cases x <;> first | exact sn p1 | skip
 rename_i k _;exact#[k,cO.mp Y,p1 _ _ _ .refl U]
theorem k9(h:RdE C t m):RdT C (tB t) (a7 m):=bF h
def vW(a b:TM):TM:=λs=>(a s).bind λx=>if x.1 then b x.2 else .ok (wh,x.2)
def orT(a b:TM):TM:=λs=>(a s).bind λx=>if x.1 then .ok (qc,x.2) else b x.2
def jH(a:TM):TM:=λs=>(a s).bind λx=>.ok (!x.1,x.2)
theorem Dv{t u:TT}{a b:TM}(ha:RdT C t a)(hb:RdT C u b):RdT C (Oq t u) (vW a b):=by
 intro σ H F θ s Q bs p;refine ha σ H F θ s _ bs (PoR.bind p ?_);rintro ⟨x,s1⟩ H1 F1 θ1 _ U p1 J;cases x with
 | true=>exact uY (hb σ H1 F1 θ1 s1 Q J p1)
 | false=>exact vX (p1 _ _ _ .refl J)
theorem qT{t u:TT}{a b:TM}(ha:RdT C t a)(hb:RdT C u b):RdT C (tOr t u) (orT a b):=by
 intro σ H F θ s Q bs p;refine ha σ H F θ s _ bs (PoR.bind p ?_);rintro ⟨x,s1⟩ H1 F1 θ1 _ U p1 J;cases x with
 | true=>exact uY (p1 _ _ _ .refl J)
 | false=>exact vX (hb σ H1 F1 θ1 s1 Q J p1)
theorem kg{t:TT}{a:TM}(ha:RdT C t a):RdT C (Ox t) (jH a):=by intro σ H F θ s Q bs p;refine ha σ H F θ s _ bs (PoR.bind p ?_);rintro ⟨x,s1⟩ H1 F1 θ1 _ J p1 U;exact p1 _ _ _ .refl U
def yh(a b:EM):EM:=λs=>(a s).bind λx=>match x.1 with
 | .bl qc=>b x.2
 | .bl wh=>.ok (.bl wh,x.2)
 | _=>.bad
def orV(a b:EM):EM:=λs=>(a s).bind λx=>match x.1 with
 | .bl qc=>.ok (.bl qc,x.2)
 | .bl wh=>b x.2
 | _=>.bad
def KA(a:EM):EM:=λs=>(a s).bind λx=>match x.1 with
 | .bl k=>.ok (.bl (!k),x.2)
 | _=>.bad
theorem wR{t u:TE}{a b:EM}(ha:RdE C t a)(hb:RdE C u b):RdE C (L3 t u) (yh a b):=by
 intro σ H F θ s Q bs p;refine ha σ H F θ s _ bs (PoR.bind p ?_);rintro ⟨x,s1⟩ H1 F1 θ1 _ U p1 J v Y;cases x <;> first | exact sn p1 | skip
 rename_i k _;refine#[k,cO.mp Y, ?_];cases k with
 | true=>exact uY (hb σ H1 F1 θ1 s1 Q J p1)
 | false=>exact vX (p1 _ _ _ .refl J _ (cO.mpr rfl))
theorem Mw{a:EM}(ha:RdE C t a):RdE C (LN t) (KA a):=by
 intro σ H F θ s Q bs p;refine ha σ H F θ s _ bs (PoR.bind p ?_);rintro ⟨x,s1⟩ H1 F1 θ1 _ J p1 U v Y;cases x <;> first | exact sn p1 | skip
 rename_i k _;exact#[k,cO.mp Y,p1 _ _ _ .refl U _ (cO.mpr rfl)]
def ifM(c:TM)(a b:EM):EM:=λs=>(c s).bind λx=>if x.1 then a x.2 else b x.2
def Out.then(x:Out)(f:S->Out):Out:=match x with
 | .next s=>f s
 | o=>o
@[simp] theorem Cd {f:S->Out}:(Out.next s).then f=f s:=rfl
@[simp] theorem Qs (d:D) (s:S) (f:S->Out):(Out.ret d s).then f=.ret d s:=rfl
@[simp] theorem Qa (s:S) (f:S->Out):(Out.brk s).then f=.brk s:=rfl
@[simp] theorem PY (s:S) (f:S->Out):(Out.cnt s).then f=.cnt s:=rfl
@[simp] theorem P5 (c:Nat) (a:D) (o:S) (f:S->Out):(Out.exc c a o).then f=.exc c a o:=rfl
@[simp] theorem P4 (f:S->Out):Out.bad.then f=.bad:=rfl
def aK(a b:SM):SM:=λs=>(a s).then b
def bC:SM:=λs=>.next s
theorem bB:RdS C LL bC:=λσ H F θ s Q b p=>p σ H F θ .refl b
theorem aD{t u:TS}{a b:SM}(ha:RdS C t a)(hb:RdS C u b):RdS C (N9 t u) (aK a b):=by
 intro σ H F θ s Q bs p;refine ha σ H F θ s _ bs ?_;unfold aK at p;cases e:a s with
 | next s1=>
  rw[e] at p;intro J H1 F1 θ1 U Y;exact hb J H1 F1 θ1 s1 Q Y (PoS.after U p)
 | ret d s1=>rw[e] at p;exact p
 | brk s1=>rw[e] at p;exact p
 | cnt s1=>rw[e] at p;exact p
 | exc c a o=>rw[e] at p;exact p
 | bad=>rw[e] at p;exact p
def eX(m:EM):SM:=λs=>(m s).out λx=>.next x.2
theorem dU(h:RdE C t m):RdS C (LY t) (eX m):=by intro σ H F θ s Q b p;refine h σ H F θ s _ b (PoS.out p ?_);rintro ⟨x,s1⟩ H1 F1 θ1 _ J p1 U v Y;exact p1 σ H1 F1 θ1 .refl U
def bD(m:EM):SM:=λs=>(m s).out λx=>.ret x.1 x.2
theorem bf(h:RdE C t m):RdS C (OE t) (bD m):=by intro σ H F θ s Q b p;refine h σ H F θ s _ b (PoS.out p ?_);rintro ⟨x,s1⟩ H1 F1 θ1 _ J p1 U v Y;exact p1 v σ H1 F1 θ1 .refl U Y
def Qj:SM:=λs=>.ret .non s
def ifS(c:TM)(a b:SM):SM:=λs=>(c s).out λx=>if x.1 then a x.2 else b x.2
theorem cg{t:TT}{u w:TS}{c:TM}{a b:SM}(hc:RdT C t c)(ha:RdS C u a)(hb:RdS C w b):RdS C (OG t u w) (ifS c a b):=by
 intro σ H F θ s Q bs p;refine hc σ H F θ s _ bs (PoS.out p ?_);rintro ⟨x,s1⟩ H1 F1 θ1 _ U p1 J;cases x with
 | true=>exact uY (ha σ H1 F1 θ1 s1 Q J p1)
 | false=>exact vX (hb σ H1 F1 θ1 s1 Q J p1)
def nD:SM:=λ_=>.bad
theorem gc:RdS C IC nD:=λσ H F θ s Q b p=>p
def aB(i:Nat):GM:=λd s=>.ok #[s.r.set i (pc d),s.o]
theorem aM(i:Nat):RdG C (wt i) (aB i):=λσ H F θ s d v Q b r p=>p H F θ .refl _ (b.set r i)
def Hg(C:Ct)(t:TGs)(m:List D->S->Res S):Prop:=∀σ H F θ s ds vs Q,BS C.K C.ca σ H F θ s->aJ C.K C.ca θ F ds vs->PoG C H F θ (m ds s) Q->t vs σ H Q
def c8:List D->S->Res S:=λds s=>match ds with
 | []=>.ok s
 | _=>.bad
def bc(g:GM)(r:List D->S->Res S):List D->S->Res S:=λds s=>match ds with
 | d::ds=>(g d s).bind λs1=>r ds s1
 | []=>.bad
theorem fu:Hg C NT c8:=by
 intro σ H F θ s ds vs Q b r p;cases ds with
 | nil=>exact#[by unfold aJ at r;exact r,p H F θ .refl σ b]
 | cons d ds=>exact sn p
theorem bV{t:TG}{u:TGs}{g:GM}{m:List D->S->Res S}(Y:RdG C t g)(hr:Hg C u m):Hg C (LP t u) (bc g m):=by
 intro σ H F θ s ds vs Q b r p;cases ds with
 | nil=>exact sn p
 | cons d ds=>
  unfold aJ at r;obtain⟨v,w,rfl,r1,r2⟩:=r;refine#[v,w,rfl,Y σ H F θ s d v _ b r1 (PoR.bind p ?_)];intro s1 H1 F1 θ1 _ J p1 U b1;exact hr U H1 F1 θ1 s1 ds w Q b1 (r2.mono J.ff J.pre) p1
def c7(m:List D->S->Res S)(n:Nat):GM:=λd s=>match d with
 | .tup ds=>if ds.length=n then m ds s else .bad
 | _=>.bad
theorem fq{t:TGs}{m:List D->S->Res S}(h:Hg C t m):RdG C (OH C.K n t) (c7 m n):=by
 intro σ H F θ s d v Q b r p;cases d <;> first | exact sn p | skip
 rename_i ds;unfold Rep at r;obtain⟨a,xs,rfl,hs,hr⟩:=r;unfold c7 at p;dsimp only at p;split at p;rename_i J;exact#[a,xs,rfl,ck.seqT b.now.fh hs,by rw[hr.length];exact J,h σ H F θ s ds xs Q b hr p];exact sn p
def gA(m:EM)(g:GM):SM:=λs=>((m s).bind λx=>g x.1 x.2).out λs=>.next s
theorem kZ(h:RdE C t m)(hg:RdG C g gm):RdS C (El t g) (gA m gm):=by intro σ H F θ s Q b p;have p':PoG C H F θ ((m s).bind λx=>gm x.1 x.2) Q.nx:=PoS.out p λs1 H1 F1 θ1 _ J p1 U Y=>p1 U H1 F1 θ1 .refl Y;refine h σ H F θ s _ b (PoR.bind p' ?_);rintro ⟨x,s1⟩ H1 F1 θ1 _ J p1 Y v r1;exact hg σ H1 F1 θ1 s1 x v Q.nx Y r1 p1
abbrev setM(i:Nat)(m:EM):SM:=gA m (aB i)
theorem aN(h:RdE C t m):RdS C (El t (wt i)) (setM i m):=kZ h (aM i)
def Qn(i:Nat)(f:Op2)(m:EM):SM:=setM i (ak f (aa i) m)
end
open PySem PySem.Spec PyProof.Rows L2
section
variable {C : Ct}
structure vH(C:Ct)(J:It)(ds:List D)(ok:aC->Prop)(H F:Hp)(θ:List qh):Prop where
 go:∀(i:Nat) H2 F2 θ2 O2,i<ds.length->Stp H F θ H2 F2 θ2->Now C.K C.ca H2 F2 θ2 O2->ok O2->J.go i H2
 yl:∀(i:Nat) d σ H2 F2 θ2 s2 x H3,ds[i]? =pc d->Stp H F θ H2 F2 θ2->BS C.K C.ca σ H2 F2 θ2 s2->ok s2.o->J.yld i H2 x H3->∃F3,Stp H2 F2 θ2 H3 F3 θ2/\BS C.K C.ca σ H3 F3 θ2 s2/\Rep C.K C.ca θ2 F3 d x
 st:∀(i:Nat) H2 F2 θ2 O2,ds.length<=i->Stp H F θ H2 F2 θ2->Now C.K C.ca H2 F2 θ2 O2->ok O2->J.stop i H2
def okC(ds:List D):Option Nat->aC->Prop
 | none,_=>True
 | some k,O=>O[k]? =pc (.lst ds)
abbrev IM:=S->Res ((List D×Option Nat)×S)
def RdI(C:Ct)(wi:TI)(im:IM):Prop:=∀σ H F θ s R,BS C.K C.ca σ H F θ s->
 PoR C H F θ (im s) (λy H1 F1 θ1=>BS C.K C.ca σ H1 F1 θ1 y.2->∀J,vH C J y.1.1 (okC y.1.1 y.1.2) H1 F1 θ1->R J H1)->wi σ H R
open Classical in
noncomputable def bT (ok:aC->Prop)(g:GM)(body:SM):List D->S->Out
 | [],s=>if ok s.o then .next s else .bad
 | d::ds,s=>if ok s.o then (g d s).out λs1=>match body s1 with
  | .next s2=>bT ok g body ds s2
  | .cnt s2=>bT ok g body ds s2
  | .brk s2=>.next s2
  | o=>o
  else .bad
noncomputable def eL (im:IM)(g:GM)(body:SM):SM:=λs=>(im s).out λy=>bT (okC y.1.1 y.1.2) g body y.1.1 y.2
theorem dE{tb:TS}{bm:SM}(hi:RdI C wi im)(hg:RdG C g gm)(hb:RdS C tb bm):RdS C (NG wi g tb) (eL im gm bm):=by
 intro σ H F θ s Q b p;refine hi σ H F θ s _ b (PoS.out p ?_);rintro ⟨⟨ds,k⟩,s1⟩ H1 F1 θ1 _ b2 p1 b1 J it;dsimp only at p1 it b1;refine#[λi m ab H'=>m=ds.length-i/\i<=ds.length/\∃F' U s',Stp H1 F1 θ1 H' F' U/\BS C.K C.ca ab H' F' U s'/\PoS C H' F' U (bT (okC ds k) gm bm (ds.drop i) s') Q,#[ds.length,by simp,Oz _,F1,θ1,s1,.refl,b1,by simpa using p1], ?_];rintro i m ab H' ⟨rfl,b6,F',U,s',st,bs,po⟩;by_cases lt:i<ds.length
 ·right;rw[Ro lt,bT] at po;split at po
  ·rename_i al;refine#[it.go i H' F' U s'.o lt st bs.now al,λa3 H2=>i+1<=ds.length/\∃F2 θ2 s2,Stp H1 F1 θ1 H2 F2 θ2/\BS C.K C.ca a3 H2 F2 θ2 s2/\PoS C H2 F2 θ2 (bT (okC ds k) gm bm (ds.drop (i+1)) s2) Q,λa3 H2 n=>#[ds.length-(i+1),⋯,rfl,n], ?_];intro x H3 hy;obtain⟨F3,a4,b3,rp⟩:=it.yl i ds[i] ab H' F' U s' x H3 (sK lt) st bs al hy;refine hg ab H3 F3 U s' ds[i] x _ b3 rp (PoS.out (PoS.after a4 po) ?_);intro s4 H4 F4 a0 _ bn Y bp b4;refine hb bp H4 F4 a0 s4 _ b4 ?_;have a5:∀s5,PoS C H4 F4 a0 (bT (okC ds k) gm bm (ds.drop (i+1)) s5) Q->∀a1 H5 F5 am,Stp H4 F4 a0 H5 F5 am->BS C.K C.ca a1 H5 F5 am s5->i+1<=ds.length/\∃F2 θ2 s2,Stp H1 F1 θ1 H5 F2 θ2/\BS C.K C.ca a1 H5 F2 θ2 s2/\PoS C H5 F2 θ2 (bT (okC ds k) gm bm (ds.drop (i+1)) s2) Q:=
    λs5 p5 a1 H5 F5 am bb b5=>#[lt,F5,am,s5,st.trans (a4.trans (bn.trans bb)),b5,PoS.after bb p5]
   cases e:bm s4 with
   | next s5=>rw[e] at Y;exact a5 s5 Y
   | cnt s5=>rw[e] at Y;exact a5 s5 Y
   | brk s5=>rw[e] at Y;exact Y
   | ret d s5=>rw[e] at Y;exact Y
   | exc c a o=>rw[e] at Y;exact Y
   | bad=>rw[e] at Y;exact Y
  exact sn po
 left;rw[SQ ⋯,bT] at po;split at po;rename_i al;exact#[it.st i H' F' U s'.o ⋯ st bs.now al,po ab H' F' U .refl bs];exact sn po
def mD(c:TM)(b:SM):Nat->S->Out
 | 0,_=>.bad
 | n+1,s=>(c s).out λx=>if x.1 then (match b x.2 with
  | .next s2=>mD c b n s2
  | .cnt s2=>mD c b n s2
  | .brk s2=>.next s2
  | o=>o) else .next x.2
def yU(J:S->Nat)(c:TM)(b:SM):SM:=λs=>mD c b (J s) s
theorem Ks{tb:TS}{φ:S->Nat}{c:TM}{b:SM}(hc:RdT C tc c)(hb:RdS C tb b):RdS C (HK tc tb) (yU φ c b):=by
 intro σ H F θ s Q bs p;refine#[λm J H'=>∃F' U s',BS C.K C.ca J H' F' U s'/\PoS C H' F' U (mD c b m s') Q,#[φ s,F,θ,s,bs,p], ?_];rintro m J H' ⟨F',U,s',b',po⟩;cases m with
 | zero=>exact sn po
 | succ m=>
  rw[mD] at po;refine hc J H' F' U s' _ b' (PoS.out po ?_);rintro ⟨x,s1⟩ H1 F1 θ1 _ a4 p1 b1;cases x with
  | false=>exact vX (p1 J H1 F1 θ1 .refl b1)
  | true=>
   refine uY #[λac H2=>∃F2 θ2 s2,BS C.K C.ca ac H2 F2 θ2 s2/\PoS C H2 F2 θ2 (mD c b m s2) Q,λac H2 n=>#[m,Tu _,n], ?_];refine hb J H1 F1 θ1 s1 _ b1 ?_;dsimp only[if_true] at p1;cases e:b s1 with
   | next s5=>rw[e] at p1;exact λap H5 F5 Y ab b5=>#[F5,Y,s5,b5,PoS.after ab p1]
   | cnt s5=>rw[e] at p1;exact λap H5 F5 Y ab b5=>#[F5,Y,s5,b5,PoS.after ab p1]
   | brk s5=>rw[e] at p1;exact p1
   | ret d s5=>rw[e] at p1;exact p1
   | exc c a o=>rw[e] at p1;exact p1
   | bad=>rw[e] at p1;exact p1
def itemsOf(O:aC):D->Res (List D×Option Nat)
 | .lst ds=>.ok (ds,pi)
 | .ptr k=>match O[k]? with
  | some (.lst ds)=>.ok (ds,pc k)
  | _=>.bad
 | _=>.bad
def listI(m:EM):IM:=λs=>(m s).bind λx=>(itemsOf x.2.o x.1).bind λy=>.ok (y,x.2)
theorem N1(hs:SqL C.K F a xs)(hr:aJ C.K C.ca θ F ds xs)(inj:∀{σ H2 F2 θ2 s2},Stp H F θ H2 F2 θ2->BS C.K C.ca σ H2 F2 θ2 s2->SqL C.K H2 a xs):
 vH C (Itl C.K a) ds (okC ds pi) H F θ where
 go:=λi H2 F2 θ2 O2 hi st n _=>by obtain⟨x,hx⟩:∃x,xs[i]? =pc x:=#[xs[i]'(by rw[hr.length];exact hi),sK _];exact#[xs,x,n.fh.seq (st.ff.seq hs),hx]
 yl:=λi d σ H2 F2 θ2 s2 x H3 hd st b _ hy=>by obtain⟨rfl,hx⟩:=hy;refine#[F2,.refl,b, ?_];obtain⟨v,h1,h2⟩:=hr.get hd;have:=hx xs (b.now.fh.seq (st.ff.seq hs));rw[h1] at this;cases this;exact h2.mono st.ff st.pre
 st:=λi H2 F2 θ2 O2 hi st n _=>#[xs,n.fh.seq (st.ff.seq hs),by rw[hr.length];exact hi]
theorem bR{tl:TE}(h:RdE C tl m):RdI C (LK C.K tl) (listI m):=by
 intro σ H F θ s R b p;refine h σ H F θ s _ b (PoR.bind p ?_);rintro ⟨x,s1⟩ H1 F1 θ1 _ an p1 Y v r1;dsimp only at p1 Y r1;cases x <;> first | exact sn p1 | skip
 rename_i ds _;unfold Rep at r1;obtain⟨a,xs,rfl,hs,hr⟩:=r1;exact#[a,rfl,#[xs,Y.now.fh.seq hs],p1 _ _ _ .refl Y _ (N1 hs hr λst b=>b.now.fh.seq (st.ff.seq hs))];rename_i k _;unfold Rep at r1;obtain⟨a,rfl,hk⟩:=r1;unfold itemsOf at p1;dsimp only at p1;split at p1;rename_i ds ek;obtain⟨q1,xs,q2,q3⟩:ki C.K C.ca H1 F1 θ1 a (.lst ds):=Y.now.ce k a _ hk ek;refine#[a,rfl,#[xs,SqL.of q2],p1 _ _ _ .refl Y _ ?_];have cell:∀{H2 J:Hp} {θ2:List qh} {O2:aC},Stp H1 F1 θ1 H2 J θ2->Now C.K C.ca H2 J θ2 O2->O2[k]? =pc (.lst ds)->∃ys,SqL C.K H2 a ys/\aJ C.K C.ca θ2 J ds ys:=λ{H2 J θ2 O2} st n e=>by
  have am:θ2[k]? =pc a:=by obtain⟨r,rfl,_⟩:=st.th;rw[wP (xb.mp hk).1];exact hk
  obtain⟨_,ys,U,w3⟩:ki C.K C.ca H2 J θ2 a (.lst ds):=n.ce k a _ am e;exact#[ys,SqL.of U,w3]
 refine#[λi H2 J θ2 O2 hi st n e=> ?_,λi d σ H2 J θ2 s2 x H3 hd st b e hy=> ?_,λi H2 J θ2 O2 hi st n e=> ?_];obtain⟨ys,w1,U⟩:=cell st n e;exact#[ys,ys[i]'(by rw[U.length];exact hi),w1,sK _];obtain⟨rfl,hx⟩:=hy;obtain⟨ys,w1,U⟩:=cell st b.now e;obtain⟨v,h1,h2⟩:=U.get hd;have:=hx ys w1;rw[h1] at this;cases this;exact#[J,.refl,b,h2];obtain⟨ys,w1,U⟩:=cell st n e;exact#[ys,w1,by rw[U.length];exact hi];exact sn p1
def cX(lo hi:Int):List D:=(uM (hi-lo).toNat).map λi=>.int (lo+(i:Nat))
theorem gh{lo hi:Int}:(cX lo hi).length=(hi-lo).toNat:=by unfold cX;simp
theorem EO{lo hi:Int}:vH C (Itr lo (hi-lo).toNat) (cX lo hi) (okC (cX lo hi) pi) H F θ where
 go:=λi H2 F2 θ2 O2 h st n _=>by rw[gh] at h;exact h
 yl:=λi d σ H2 F2 θ2 s2 x H3 hd st b _ hy=>by
  obtain⟨rfl,rfl⟩:=hy;refine#[F2,.refl,b, ?_];unfold cX at hd;rw[wv] at hd;cases e:(uM (hi-lo).toNat)[i]? with
  | none=>rw[e] at hd;cases hd
  | some j=>
   rw[e] at hd;cases hd;obtain⟨_,rfl⟩:∃h,j=i:=#[trivial,by have:=(xb.mp e).2;simpa using this.symm];exact bO.mpr rfl
 st:=λi H2 F2 θ2 O2 h st n _=>by rw[gh] at h;exact h
def fb(ma:AM):IM:=λs=>(ma s).bind λx=>match x.1 with
 | [.int j]=>if -(2^62)<=j/\j<2^62 then .ok ((cX 0 j,pi),x.2) else .bad
 | _=>.bad
def rS(ma:AM):IM:=λs=>(ma s).bind λx=>match x.1 with
 | [.int i,.int j]=>if (-(2^62)<=i/\i<2^62)/\ -(2^62)<=j/\j<2^62 then .ok ((cX i j,pi),x.2) else .bad
 | _=>.bad
theorem tf{K ca θ F i vs}(h:aJ K ca θ F [.int i] vs):vs=[.int i]:=by unfold aJ at h;obtain⟨v,r,rfl,h1,h2⟩:=h;unfold aJ at h2;rw[h2,bO.mp h1]
theorem zQ{K ca θ F i j vs}(h:aJ K ca θ F [.int i,.int j] vs):vs=[.int i,.int j]:=by unfold aJ at h;obtain⟨v,r,rfl,h1,h2⟩:=h;rw[tf h2,bO.mp h1]
theorem gL{m:AM}(h:RdA C ta m):RdI C (LV ta) (fb m):=by intro σ H F θ s R b p;refine h σ H F θ s _ b (PoR.bind p ?_);rintro ⟨x,s1⟩ H1 F1 θ1 _ ab p1 J v U;dsimp only at p1 J U;split at p1;rename_i j _;split at p1;rename_i Y;refine#[j,tf U,Y.1,Y.2, ?_];have:=p1 _ _ _ .refl J _ (EO (lo:=0) (hi:=j));rw[Int.sub_zero] at this;exact this;exact sn p1;exact sn p1
theorem Gw{m:AM}(h:RdA C ta m):RdI C (LQ ta) (rS m):=by intro σ H F θ s R b p;refine h σ H F θ s _ b (PoR.bind p ?_);rintro ⟨x,s1⟩ H1 F1 θ1 _ ab p1 U v Y;dsimp only at p1 U Y;split at p1;rename_i i j _;split at p1;rename_i J;exact#[i,j,zQ Y,#[J.1.1,J.1.2,J.2.1,J.2.2],p1 _ _ _ .refl U _ EO];exact sn p1;exact sn p1
abbrev FM:=List D->aC->Res (D×aC)
def spM(K:sH)(ca:Nat->qh)(n:Nat)(f:FM):Sp:=λvs H Q E=>∃F θ ds O,Now K ca H F θ O/\aJ K ca θ F ds vs/\ds.length=n/\match f ds O with
 | .ok (d,O1)=>∀v H1 F1 θ1,Stp H F θ H1 F1 θ1->Now K ca H1 F1 θ1 O1->Rep K ca θ1 F1 d v->Q v H1
 | .exc c _ s1=>∀H1 F1 θ1,Stp H F θ H1 F1 θ1->Now K ca H1 F1 θ1 s1.o->E (.ref (ca c)) pi H1
 | .bad=>False
def runM(n:Nat)(m:SM):FM:=λds O=>match m #[ds.map pc++u0 (n-ds.length) pi,O] with
 | .next s=>.ok (.non,s.o)
 | .ret d s=>.ok (d,s.o)
 | _=>.bad
theorem Kw{N:List Str}(n:Now K ca H F θ O)(r:aJ K ca θ F ds vs):
 BS K ca (L2.start N vs) H F θ #[ds.map pc++u0 (N.length-ds.length) pi,O]:=by
 refine#[n,by unfold L2.start;simp[r.length],λi d e=> ?_];dsimp only at e;have hi:i<ds.length:=by by_cases hi:i<ds.length;exact hi;rw[wS (by simpa using hi),GX] at e;split at e <;> cases e
 rw[wP (by simpa using hi),wv] at e;cases e1:ds[i]? with
 | none=>rw[e1] at e;cases e
 | some J=>
  rw[e1] at e;cases e;obtain⟨v,h1,h2⟩:=r.get e1;refine#[v, ?_,h2];unfold L2.start;rw[wP (by simpa[r.length] using hi),wv,h1];rfl
def W0:Wsh:=λ_ _ _ _ _ _=>False
theorem m9 {P:B3} {w:Ch} {K:sH} {mg:Str->Option qb} {base:FS} {ca:Nat->qh} {x qual:Str} {st:S0} {f:qh} {fd:RL} {N ps:List Str} {k n:Nat} {m:SM}
 (F:Fun K x qual st f fd) (S:aY N ps (aL st)) (hn:N.length=n)
 (hm:∀(J:qb) (A:Je) (outer:List Env) (s:tt) (H:Hp) (E:XK),fk k (A.deeper (envOfC qual (aL st) s.heap.objs.size f J))->
  ∃t,PSs (uP (CXE P w) P w K mg base N qual (aL st) f J A outer s H E).nox (dq st) t/\RdS #[K,ca,W0] t m):
 kI P w K mg base (CXE P w) (k+1) f fd ps (spM K ca ps.length (runM n m)):=by
 refine F.okE S (λvs H Q E h=> ?_) (λJ A outer s H vs Q E hr h=> ?_);obtain⟨F,θ,ds,O,_,r,hl,_⟩:=h;rw[r.length,hl]
 ·obtain⟨F,θ,ds,O,U,r,hl,q⟩:=h;obtain⟨t,ht,rd⟩:=hm J A outer s H E hr;refine#[t,ht.nox,rd _ H F θ _ _ (Kw U r) ?_];subst hn;unfold runM at q;cases e:m #[ds.map pc++u0 (N.length-ds.length) pi,O] with
  | next s1=>rw[e] at q;exact λY H1 F1 θ1 st b=>q .non H1 F1 θ1 st b.now (gN.mpr rfl)
  | ret d s1=>rw[e] at q;exact λv Y H1 F1 θ1 st b rv=>q v H1 F1 θ1 st b.now rv
  | exc c a o=>rw[e] at q;exact sn q
  | brk s1=>rw[e] at q;exact sn q
  | cnt s1=>rw[e] at q;exact sn q
  | bad=>rw[e] at q;exact sn q
theorem BS.called{O1:aC}(b:BS K ca σ H F θ s)(st:Stp H F [] H1 F1 θ1)(n:Now K ca H1 F1 θ1 O1):
 Stp H F θ H1 F1 θ/\BS K ca σ H1 F1 θ s:=by
 have kp:∀b o,H b=pc o->H1 b=pc o:=λb o h=>st.kp b o h (by simp);have U:∀b o,F1 b=pc o->F b=pc o\/H b=none:=λb o h=>by rcases st.nf b o h with z | z | z;exact .inl z;exact .inr z;simp at z
 refine#[#[st.ff,#[[],by simp,by simp],λb o h _=>kp b o h,st.al,λb o h=>(U b o h).elim .inl λz=>.inr (.inl z)],#[#[n.fh,b.now.nd,b.now.ln,λk a c e1 e2=> ?_],b.len,λi d e=> ?_]];have q:=b.now.ce k a c e1 e2;obtain⟨u,hu⟩:=q.there;have fn:F a=pi->F1 a=none:=λh=>by
  cases e:F1 a with
  | none=>rfl
  | some o=>
   rcases U a o e with z | z;rw[h] at z;cases z;rw[hu] at z;cases z
 cases c with
 | dead=>exact#[u,kp a u hu]
 | lst ds=>
  obtain⟨q1,xs,q2,J⟩:=q;exact#[fn q1,xs,kp _ _ q2,J.mono st.ff #[[],by simp]]
 | ins c ns ds=>
  obtain⟨q1,dx,xs,q2,J,Y⟩:=q;exact#[fn q1,dx,xs,kp _ _ q2,J,Y.mono st.ff #[[],by simp]]
 obtain⟨v,h1,h2⟩:=b.sl i d e;exact#[v,h1,h2.mono st.ff #[[],by simp]]
def aX(n:Nat)(f:FM)(ma:AM):EM:=λs=>(ma s).bind λx=>if aR x.1=qc/\x.1.length=n then (match f x.1 [] with
 | .ok (d,_)=>if cW d=qc then .ok (d,x.2) else .bad
 | _=>.bad) else .bad
theorem ba{f:FM}(ha:RdA C ta ma):RdE C (tR (spM C.K C.ca n f) [] E ta) (aX n f ma):=by intro σ H F θ s Q b p;refine ha σ H F θ s _ b (PoR.bind p ?_);rintro ⟨x,s1⟩ H1 F1 θ1 _ ac p1 J v r1;dsimp only at p1 J r1 ⊢;split at p1;rename_i hp;rw[R1];refine#[F1,[],x,[],Now.nil J.now.fh,r1.pure hp.1,hp.2, ?_];split at p1;rename_i d O1 e;rw[e];intro v H2 F2 θ2 U n2 rv;split at p1;rename_i pd;obtain⟨Y,b3⟩:=J.called U n2;exact p1 H2 F2 θ1 Y b3 v (rv.pure pd);exact sn p1;exact sn p1;exact sn p1
end
section
variable {C : Ct}
theorem dH(p:PoE C σ H F θ ((Res.ok d).bind λd=>.ok (d,s)) Q)(b:BS C.K C.ca σ H F θ s)(r:Rep C.K C.ca θ F d v):Q v H:=p H F θ .refl b v r
theorem zT(p:PoE C σ H F θ ((Res.ok (D.lst ds)).bind λd=>.ok (d,s)) Q)(b:BS C.K C.ca σ H F θ s)(r:aJ C.K C.ca θ F ds xs):
 ∀q,H q=pi->Q (.ref q) (upd H q (.lst xs)):=λq hq=>by
 obtain⟨st,J,U,e⟩:=b.newF hq (.lst xs);refine p _ _ _ st J _ ?_;unfold Rep;exact#[q,xs,rfl,SqL.of e,r.mono U #[[],by simp]]
def lsD(O:aC):D->Option (List D)
 | .lst ds=>pc ds
 | .ptr k=>match O[k]? with
  | some (.lst ds)=>pc ds
  | _=>pi
 | _=>pi
@[simp] theorem ia:lsD O (.lst ds)=pc ds:=rfl
theorem fC(b:BS C.K C.ca σ H F θ s)(r:Rep C.K C.ca θ F d v)(e:lsD s.o d=pc ds):∃a xs,v=.ref a/\SqL C.K H a xs/\aJ C.K C.ca θ F ds xs:=by
 cases d <;> first | (simp[lsD] at e;done) | skip
 cases e;unfold Rep at r;obtain⟨a,xs,rfl,hs,hr⟩:=r;exact#[a,xs,rfl,b.now.fh.seq hs,hr];rename_i k;unfold Rep at r;obtain⟨a,rfl,hk⟩:=r;unfold lsD at e;dsimp only at e;split at e;rename_i J U;cases e;obtain⟨_,xs,h1,h2⟩:ki C.K C.ca H F θ a (.lst ds):=b.now.ce k a _ hk U;exact#[a,xs,rfl,SqL.of h1,h2];cases e
theorem zp(b:BS C.K C.ca σ H F θ s)(r:Rep C.K C.ca θ F (.tup ds) v):∃a xs,v=.ref a/\SqT C.K H a xs/\aJ C.K C.ca θ F ds xs:=by unfold Rep at r;obtain⟨a,xs,rfl,hs,hr⟩:=r;exact#[a,xs,rfl,ck.seqT b.now.fh hs,hr]
def intD(g:Int->Int->Res D):Op2:=λ_ x y=>match x,y with
 | .int i,.int j=>g i j
 | _,_=>.bad
theorem ve{g:Int->Int->V}{f:Int->Int->D}(h:∀K ca θ F i j,Rep K ca θ F (f i j) (g i j)):gQ C (rI0 g) (intD λi j=>.ok (f i j)):=by intro σ H F θ s x y v w Q b J U p;unfold intD at p;split at p;rename_i i j;exact#[i,j,bO.mp J,bO.mp U,dH p b (h ..)];exact sn p
open Classical in
noncomputable def Ad (c:Int->Int->Prop)(f:Int->Int->D):Op2:=intD λi j=>if c i j then .ok (f i j) else .bad
theorem CL{c:Int->Int->Prop}{g:Int->Int->V}{f:Int->Int->D}(h:∀K ca θ F i j,Rep K ca θ F (f i j) (g i j)):gQ C (rI c g) (Ad c f):=by intro σ H F θ s x y v w Q b J U p;unfold Ad intD at p;split at p;rename_i i j;dsimp only at p;split at p;rename_i hc;exact#[i,j,bO.mp J,bO.mp U,hc,dH p b (h ..)];exact sn p;exact sn p
def lV:Op2:=intD λi j=>.ok (.int (i-j))
noncomputable def cI:Op2:=Ad RG λi j=>.int (i*j)
noncomputable def d4:Op2:=Ad (λi j=>j≠0) λi j=>.int (i.fdiv j)
noncomputable def gD:Op2:=Ad (λ_ j=>j≠0) λi j=>.int (i.fmod j)
noncomputable def hJ:Op2:=Ad JV λi j=>.int (i^j.toNat)
def ltD:Op2:=intD λi j=>.ok (.bl (decide (i<j)))
def leD:Op2:=intD λi j=>.ok (.bl (decide (i<=j)))
def gtD:Op2:=intD λi j=>.ok (.bl (decide (j<i)))
def geD:Op2:=intD λi j=>.ok (.bl (decide (j<=i)))
def jb:Op1:=λ_ x=>match x with
 | .int i=>.ok (.int (-i))
 | _=>.bad
section
variable {X : Cx}
theorem eH:OpR X (binaryOp .Mult) (rI RG λi j=>.int (i*j)):=opI λ_ _ _ _ _ _ _ hc q=>mul_int q hc
theorem gW(hd:X.A.depth+100<recursionLimit)(J:X.prog.given.tree=pi)(hs:∃env l,X.stack=env::l/\env.scope.isGenerator=wh/\env.scope.isCoroutine=wh/\env.builtins=builtinsNs/\env.globals=mainGlobals):
 OpR X (binaryOp .FloorDiv) (rI (λi j=>j≠0) λi j=>.int (i.fdiv j)):=by
 intro pins s σ H x y v u Q I U Y h;obtain⟨i,j,rfl,rfl,hc,q⟩:=h;obtain⟨t,rfl⟩:=U;obtain⟨t',rfl⟩:=Y;obtain⟨env,l,e,h1,h2,h3,h4⟩:=hs;exact floordiv_int hc #[.int _,H,I.tok _,#[_,rfl],q] (.inr (PylongRoom.of I.nolimit hd (SeerAt.of I.noseer J (I.ok.frames.trans (by rw[e])) h1 h2 h3 h4)))
def Hc(K:sH):R2:=λx y H Q=>rI0 (λi j=>.int (i+j)) x y H Q\/(∃i j,x=.str i/\y=.str j/\i.length+j.length<=sizeLine/\Q (.str (i++j)) H)\/LW K x y H Q
theorem dA:OpR X (binaryOp .Add) (Hc X.K):=N2.or (G1.or MA)
end
def P8:Op2:=intD λi j=>.ok (.int (i+j))
def cq:Op2:=λO x y=>match x,y with
 | .int i,.int j=>.ok (.int (i+j))
 | .str a,.str b=>if a.length+b.length<=16777216 then .ok (.str (a++b)) else .bad
 | x,y=>match lsD O x,lsD O y with
  | some a,pc b=>if a.length+b.length<=16777216 then .ok (.lst (a++b)) else .bad
  | _,_=>.bad
theorem cV:gQ C (Hc C.K) cq:=by
 intro σ H F θ s x y v w Q b J U p;have lists:∀{a c:List D},lsD s.o x=pc a->lsD s.o y=pc c->PoE C σ H F θ ((if a.length+c.length<=16777216 then Res.ok (D.lst (a++c)) else .bad).bind λd=>.ok (d,s)) Q->Hc C.K v w H Q:=λ{a c} e1 e2 p=>by split at p;rename_i Y;obtain⟨l1,xs,rfl,s1,r1⟩:=fC b J e1;obtain⟨l2,ys,rfl,s2,r2⟩:=fC b U e2;exact .inr (.inr #[l1,l2,xs,ys,rfl,rfl,s1,s2,by rw[r1.length,r2.length];exact Y,zT p b (r1.append r2)]);exact sn p
 unfold cq at p;split at p;rename_i i j;exact .inl #[i,j,bO.mp J,bO.mp U,dH p b (bO.mpr rfl)];rename_i i j;split at p;rename_i Y;exact .inr (.inl #[i,j,df.mp J,df.mp U,Y,dH p b (df.mpr rfl)]);exact sn p;split at p;rename_i a c e1 e2;exact lists e1 e2 p;exact sn p
theorem pS:gQ C (rI0 λi j=>.int (i-j)) lV:=ve λ_ _ _ _ _ _=>bO.mpr rfl
theorem dF:gQ C (rI RG λi j=>.int (i*j)) cI:=CL λ_ _ _ _ _ _=>bO.mpr rfl
theorem fK:gQ C (rI (λi j=>j≠0) λi j=>.int (i.fdiv j)) d4:=CL λ_ _ _ _ _ _=>bO.mpr rfl
theorem gY:gQ C (rI (λ_ j=>j≠0) λi j=>.int (i.fmod j)) gD:=CL λ_ _ _ _ _ _=>bO.mpr rfl
theorem ow:gQ C (rI JV λi j=>.int (i^j.toNat)) hJ:=CL λ_ _ _ _ _ _=>bO.mpr rfl
theorem nR:gQ C (rI0 λi j=>.bl (decide (i<j))) ltD:=ve λ_ _ _ _ _ _=>cO.mpr rfl
theorem PF:gQ C (rI0 λi j=>.bl (decide (i<=j))) leD:=ve λ_ _ _ _ _ _=>cO.mpr rfl
theorem ir:gQ C (rI0 λi j=>.bl (decide (j<i))) gtD:=ve λ_ _ _ _ _ _=>cO.mpr rfl
theorem pK:Ov C (rU λi=>.int (-i)) jb:=by intro σ H F θ s x v Q b J p;unfold jb at p;split at p;rename_i i;exact#[i,bO.mp J,dH p b (bO.mpr rfl)];exact sn p
mutual
def toPy:D->Option Ut
 | .non=>pc .none
 | .bl b=>pc (.bool b)
 | .int i=>pc (.int i)
 | .str x=>pc (.str x)
 | .lst ds=>(k8 ds).map .list
 | .tup ds=>(k8 ds).map .tuple
 | .ptr _=>pi
 | .obj _ _ _=>pi
 | .exn _=>pi
def k8:List D->Option (List Ut)
 | []=>pc []
 | d::ds=>match toPy d,k8 ds with
  | some a,pc b=>pc (a::b)
  | _,_=>pi
end
mutual
def res(O:aC):D->D
 | .lst ds=>.lst (cz O ds)
 | .tup ds=>.tup (cz O ds)
 | .ptr k=>match O[k]? with
  | some (.lst ds)=>.lst ds
  | _=>.ptr k
 | .non=>.non
 | .bl b=>.bl b
 | .int i=>.int i
 | .str x=>.str x
 | .obj c ns ds=>.obj c ns ds
 | .exn c=>.exn c
def cz(O:aC):List D->List D
 | []=>[]
 | d::ds=>res O d::cz O ds
end
section
variable {K : sH} {ca : Nat → qh} {H F G : Hp} {θ : List qh} {O : aC}
mutual
theorem Aj(n:Now K ca H F θ O)(U:ck F G)(J:ck G H):∀{d:D} {v:V},Rep K ca θ G d v->Rep K ca θ H (res O d) v
 | .non,_,h=>by unfold res;exact h
 | .bl _,_,h=>by unfold res;exact h
 | .int _,_,h=>by unfold res;exact h
 | .str _,_,h=>by unfold res;exact h
 | .lst ds,_,h=>by unfold res;unfold Rep at h ⊢;obtain⟨a,xs,e,hs,hr⟩:=h;exact#[a,xs,e,J.seq hs,lL n U J hr]
 | .tup ds,_,h=>by unfold res;unfold Rep at h ⊢;obtain⟨a,xs,e,hs,hr⟩:=h;exact#[a,xs,e,ck.seqT J hs,lL n U J hr]
 | .ptr k,v,h=>by unfold res;split;rename_i ds e;unfold Rep at h ⊢;obtain⟨a,Y,hk⟩:=h;obtain⟨_,xs,h1,h2⟩:ki K ca H F θ a (.lst ds):=n.ce k a _ hk e;exact#[a,xs,Y,SqL.of h1,h2.mono n.fh #[[],by simp]];exact h.mono J #[[],by simp]
 | .obj c ns ds,_,h=>by unfold res;exact h.mono J #[[],by simp]
 | .exn c,_,h=>by unfold res;exact h.mono J #[[],by simp]
theorem lL(n:Now K ca H F θ O)(J:ck F G)(U:ck G H):∀{ds:List D} {xs:List V},aJ K ca θ G ds xs->aJ K ca θ H (cz O ds) xs
 | [],_,h=>by unfold cz;exact h
 | d::ds,_,h=>by unfold cz;unfold aJ at h ⊢;obtain⟨v,r,e,h1,h2⟩:=h;exact#[v,r,e,Aj n J U h1,lL n J U h2]
end
mutual
theorem AA:∀{d:D} {v:V} {p:Ut},Rep K ca θ H d v->toPy d=pc p->RdV K H p v
 | .non,_,_,h,e=>by unfold toPy at e;cases e;unfold RdV;exact gN.mp h
 | .bl b,_,_,h,e=>by unfold toPy at e;cases e;unfold RdV;exact cO.mp h
 | .int b,_,_,h,e=>by unfold toPy at e;cases e;unfold RdV;exact bO.mp h
 | .str b,_,_,h,e=>by unfold toPy at e;cases e;unfold RdV;exact df.mp h
 | .lst ds,_,_,h,e=>by
  unfold toPy at e;cases e1:k8 ds with
  | none=>rw[e1] at e;cases e
  | some ps=>
   rw[e1] at e;cases e;unfold Rep at h;obtain⟨a,xs,J,hs,hr⟩:=h;unfold RdV;exact#[a,xs,J,hs,yq hr e1]
 | .tup ds,_,_,h,e=>by
  unfold toPy at e;cases e1:k8 ds with
  | none=>rw[e1] at e;cases e
  | some ps=>
   rw[e1] at e;cases e;unfold Rep at h;obtain⟨a,xs,J,hs,hr⟩:=h;unfold RdV;exact#[a,xs,J,hs,yq hr e1]
 | .ptr _,_,_,_,e=>by unfold toPy at e;cases e
 | .obj _ _ _,_,_,_,e=>by unfold toPy at e;cases e
 | .exn _,_,_,_,e=>by unfold toPy at e;cases e
theorem yq:∀{ds:List D} {xs:List V} {ps:List Ut},aJ K ca θ H ds xs->k8 ds=pc ps->uu K H ps xs
 | [],_,_,h,e=>by unfold k8 at e;cases e;unfold uu;unfold aJ at h;exact h
 | d::ds,_,_,h,e=>by
  unfold k8 at e;cases e1:toPy d with
  | none=>rw[e1] at e;cases e
  | some p=>
   cases e2:k8 ds with
   | none=>rw[e1,e2] at e;cases e
   | some ps=>
    rw[e1,e2] at e;cases e;unfold aJ at h;obtain⟨v,r,J,h1,h2⟩:=h;unfold uu;exact#[v,r,J,AA h1 e1,yq h2 e2]
end
end
def kO(O:aC)(x y:D):Option Bool:=match toPy (res O (res O x)),toPy (res O (res O y)) with
 | some a,pc b=>if SeqAt.shaped a=qc/\SeqAt.shaped b=qc then pc (PyData.eqv a b) else pi
 | _,_=>pi
def eqB(O:aC)(x y:D):Option Bool:=match x,y with
 | .int i,.int j=>pc (decide (i=j))
 | .str i,.str j=>pc (decide (i=j))
 | .bl i,.bl j=>pc (decide (i=j))
 | .non,.non=>pc qc
 | x,y=>kO O x y
def eqD:Op2:=λO x y=>match eqB O x y with
 | some b=>.ok (.bl b)
 | none=>.bad
def neD:Op2:=λO x y=>match eqB O x y with
 | some b=>.ok (.bl (!b))
 | none=>.bad
section
variable {X : Cx}
def OK(K:sH):R2:=λx y H Q=>rEq x y H Q\/NI K x y H Q
def N5(K:sH):R2:=λx y H Q=>rNe x y H Q\/Of K x y H Q
theorem fU(hu:X.A.units+64<cLine):OpR X (compareOp .Eq) (OK X.K):=Pe.or (ND hu)
theorem EH(hu:X.A.units+64<cLine):OpR X (compareOp .NotEq) (N5 X.K):=Pr.or (N6 hu)
end
theorem B8{v w:V}{k:Bool}(b:BS C.K C.ca σ H F θ s)(U:Rep C.K C.ca θ F x v)(Y:Rep C.K C.ca θ F y w)(e:kO s.o x y=pc k):
 ∃d e,RdV C.K H d v/\RdV C.K H e w/\SeqAt.shaped d=qc/\SeqAt.shaped e=qc/\PyData.eqv d e=k:=by
 unfold kO at e;split at e;rename_i a c e1 e2;split at e;rename_i hs;cases e;have J:∀{d:D} {u:V},Rep C.K C.ca θ F d u->Rep C.K C.ca θ H (res s.o (res s.o d)) u:=λh=>Aj b.now b.now.fh (ck.refl _) (Aj b.now (ck.refl _) b.now.fh h);exact#[a,c,AA (J U) e1,AA (J Y) e2,hs.1,hs.2,rfl];cases e;cases e
theorem ey:gQ C (OK C.K) eqD:=by intro σ H F θ s x y v w Q b J U p;unfold eqD at p;split at p;rename_i k e;have q:=λH' (h:H'=H)=>h▸dH p b (v:=.bl k) (cO.mpr rfl);have q:=q H rfl;unfold eqB at e;split at e;rename_i i j;cases e;cases bO.mp J;cases bO.mp U;exact .inl #[rfl,by rw[wB,RV];exact q];cases e;cases df.mp J;cases df.mp U;exact .inl #[rfl,by rw[wy,RV];exact q];cases e;cases cO.mp J;cases cO.mp U;exact .inl #[rfl,by rw[zY,RV];exact q];cases e;cases gN.mp J;cases gN.mp U;exact .inl #[rfl,by simpa using q];obtain⟨d,e',h1,h2,Y,h4,h5⟩:=B8 b J U e;exact .inr #[d,e',h1,h2,Y,h4,by rw[h5];exact q];exact sn p
theorem zc:gQ C (N5 C.K) neD:=by intro σ H F θ s x y v w Q b J U p;unfold neD at p;split at p;rename_i k e;have q:=dH p b (v:=.bl (!k)) (cO.mpr rfl);unfold eqB at e;split at e;rename_i i j;cases e;cases bO.mp J;cases bO.mp U;exact .inl #[rfl,by rw[wB,RV];exact q];cases e;cases df.mp J;cases df.mp U;exact .inl #[rfl,by rw[wy,RV];exact q];cases e;cases cO.mp J;cases cO.mp U;exact .inl #[rfl,by rw[zY,RV];exact q];cases e;cases gN.mp J;cases gN.mp U;exact .inl #[rfl,by simpa using q];obtain⟨d,e',h1,h2,Y,h4,h5⟩:=B8 b J U e;exact .inr #[d,e',h1,h2,Y,h4,by rw[h5];exact q];exact sn p
def ixD:Op2:=λO x y=>match y with
 | .int i=>match x with
  | .tup ds=>match atI ds i with
   | some d=>.ok d
   | none=>.bad
  | .str z=>if z.length<=16777216 then (match atI z.cps.toList i with
   | some c=>.ok (.str #[#v[c]])
   | none=>.bad) else .bad
  | x=>match lsD O x with
   | some ds=>match atI ds i with
    | some d=>.ok d
    | none=>.bad
   | none=>.bad
 | _=>.bad
theorem Gs{K ca θ F}{i:Int}(r:aJ K ca θ F ds xs)(e:atI ds i=pc d):∃v,atI xs i=pc v/\Rep K ca θ F d v:=by
 unfold atI at e ⊢;rw[r.length];cases q:ixN ds.length i with
 | none=>rw[q] at e;cases e
 | some j=>
  rw[q] at e;exact r.get e
theorem a8:gQ C (rIx C.K) ixD:=by intro σ H F θ s x y v w Q b J U p;unfold ixD at p;split at p;rename_i i;split at p;rename_i ds;obtain⟨a,xs,rfl,hs,hr⟩:=zp b J;split at p;rename_i d e;obtain⟨u,e1,Y⟩:=Gs hr e;exact .inr (.inl #[a,xs,i,u,rfl,bO.mp U,hs,e1,dH p b Y]);exact sn p;rename_i z;split at p;rename_i hz;split at p;rename_i c e;exact .inr (.inr #[z,i,c,df.mp J,bO.mp U,hz,e,dH p b (df.mpr rfl)]);exact sn p;exact sn p;split at p;rename_i ds e0;obtain⟨a,xs,rfl,hs,hr⟩:=fC b J e0;split at p;rename_i d e;obtain⟨u,e1,Y⟩:=Gs hr e;exact .inl #[a,xs,i,u,rfl,bO.mp U,hs,e1,dH p b Y];exact sn p;exact sn p;exact sn p
abbrev OM:=S->Res (Option Int×S)
def RdO(C:Ct)(t:TO)(m:OM):Prop:=∀σ H F θ s Q,BS C.K C.ca σ H F θ s->PoR C H F θ (m s) (λy H1 F1 θ1=>BS C.K C.ca σ H1 F1 θ1 y.2->Q y.1 H1)->t σ H Q
def d6:OM:=λs=>.ok (pi,s)
def part(m:EM):OM:=λs=>(m s).bind λx=>match x.1 with
 | .int i=>.ok (pc i,x.2)
 | _=>.bad
theorem gG:RdO C F0 d6:=λσ H F θ s Q b p=>p H F θ .refl b
theorem ic(h:RdE C t m):RdO C (LO t) (part m):=by
 intro σ H F θ s Q b p;refine h σ H F θ s _ b (PoR.bind p ?_);rintro ⟨x,s1⟩ H1 F1 θ1 _ J p1 U v Y;cases x <;> first | exact sn p1 | skip
 rename_i i _;exact#[i,bO.mp Y,p1 _ _ _ .refl U]
def cutD(ds:List D)(lo hi:Option Int):List D:=(ds.drop (HT.sIx ds.length 0 lo)).take (HT.sIx ds.length ds.length hi-HT.sIx ds.length 0 lo)
theorem FF{K ca θ F}{lo hi:Option Int}(r:aJ K ca θ F ds xs):aJ K ca θ F (cutD ds lo hi) (A8 xs lo hi):=by unfold cutD A8;rw[r.length];exact(r.drop _).take _
def slM(me:EM)(ml mh:OM):EM:=λs=>(me s).bind λx=>(ml x.2).bind λl=>(mh l.2).bind λh=>match lsD h.2.o x.1 with
 | some ds=>.ok (.lst (cutD ds l.1 h.1),h.2)
 | none=>.bad
theorem uq(he:RdE C te me)(hl:RdO C tl ml)(hh:RdO C th mh):RdE C (tSl (Ky C.K) te tl th) (slM me ml mh):=by intro σ H F θ s Q b p;refine he σ H F θ s _ b (PoR.bind p ?_);rintro ⟨x,s1⟩ H1 F1 θ1 _ an p1 b1 v r1;refine hl σ H1 F1 θ1 s1 _ b1 (PoR.bind p1 ?_);rintro ⟨l,s2⟩ H2 F2 θ2 _ J p2 b2;refine hh σ H2 F2 θ2 s2 _ b2 (PoR.bind p2 ?_);rintro ⟨h,s3⟩ H3 F3 a1 _ U Y b3;dsimp only at Y ⊢;split at Y;rename_i ds e;obtain⟨a,xs,rfl,hs,hr⟩:=fC b3 ((r1.mono J.ff J.pre).mono U.ff U.pre) e;exact#[a,xs,rfl,hs,zT (ds:=cutD ds l h) Y b3 (FF hr)];exact sn Y
def cx:OpN:=λO xs=>match xs with
 | [.str z]=>if z.length<=16777216 then .ok (.int z.length) else .bad
 | [.tup ds]=>.ok (.int ds.length)
 | [x]=>match lsD O x with
  | some ds=>.ok (.int ds.length)
  | none=>.bad
 | _=>.bad
theorem o3{K ca θ F}(h:aJ K ca θ F [x] vs):∃v,vs=[v]/\Rep K ca θ F x v:=by unfold aJ at h;obtain⟨v,r,rfl,h1,h2⟩:=h;unfold aJ at h2;rw[h2];exact#[v,rfl,h1]
theorem LS{K ca θ F}(h:aJ K ca θ F [x,y] vs):∃v w,vs=[v,w]/\Rep K ca θ F x v/\Rep K ca θ F y w:=by unfold aJ at h;obtain⟨v,r,rfl,h1,h2⟩:=h;obtain⟨w,rfl,J⟩:=o3 h2;exact#[v,w,rfl,h1,J]
theorem dt:kT C (λxs H Q=>∃x n,xs=[x]/\NF C.K x H n/\Q (.int n) H) cx:=by intro σ H F θ s xs vs Q b r p;unfold cx at p;split at p;rename_i z;obtain⟨v,rfl,J⟩:=o3 r;cases df.mp J;split at p;rename_i hz;exact#[.str z,z.length,rfl,#[hz,rfl],dH p b (bO.mpr rfl)];exact sn p;rename_i ds;obtain⟨v,rfl,J⟩:=o3 r;obtain⟨a,xs,rfl,hs,hr⟩:=zp b J;exact#[.ref a,ds.length,rfl,.inr #[xs,hs,by rw[hr.length]],dH p b (bO.mpr rfl)];rename_i x _ _;obtain⟨v,rfl,J⟩:=o3 r;split at p;rename_i ds e;obtain⟨a,xs,rfl,hs,hr⟩:=fC b J e;exact#[.ref a,ds.length,rfl,.inl #[xs,hs,by rw[hr.length]],dH p b (bO.mpr rfl)];exact sn p;exact sn p
def nZ:OpN:=λO xs=>match xs with
 | [.tup ds]=>.ok (.lst ds)
 | [x]=>match lsD O x with
  | some ds=>.ok (.lst ds)
  | none=>.bad
 | _=>.bad
theorem qs:kT C (λxs H Q=>∃p ys,xs=[.ref p]/\(SqL C.K H p ys\/SqT C.K H p ys)/\∀l,H l=pi->Q (.ref l) (upd H l (.lst ys))) nZ:=by intro σ H F θ s xs vs Q b r p;unfold nZ at p;split at p;rename_i ds;obtain⟨v,rfl,J⟩:=o3 r;obtain⟨a,xs,rfl,hs,hr⟩:=zp b J;exact#[a,xs,rfl,.inr hs,zT p b hr];obtain⟨v,rfl,J⟩:=o3 r;split at p;rename_i ds e;obtain⟨a,xs,rfl,hs,hr⟩:=fC b J e;exact#[a,xs,rfl,.inl hs,zT p b hr];exact sn p;exact sn p
def yd:OpN:=λ_ xs=>match xs with
 | [.int i]=>.ok (.int (if i<0 then -i else i))
 | _=>.bad
theorem IT:kT C (λxs H Q=>∃i,xs=[.int i]/\Q (.int (if i<0 then -i else i)) H) yd:=by intro σ H F θ s xs vs Q b r p;unfold yd at p;split at p;rename_i i;exact#[i,tf r,dH p b (bO.mpr rfl)];exact sn p
def intOf:OpN:=λ_ xs=>match xs with
 | [.int i]=>.ok (.int i)
 | [.bl k]=>.ok (.int (if k then 1 else 0))
 | _=>.bad
def tyD(O:aC):D->Option String
 | .non=>pc "NoneType"
 | .bl _=>pc "bool"
 | .int _=>pc "int"
 | .str _=>pc "str"
 | .lst _=>pc "list"
 | .tup _=>pc "tuple"
 | .ptr k=>match O[k]? with
  | some (.lst _)=>pc "list"
  | _=>pi
 | .obj _ _ _=>pi
 | .exn _=>pi
def fP(t c:String):Bool:=t == c||(t == "bool" &&c == "int")
def oG(c:String):Op1:=λO x=>match tyD O x with
 | some t=>.ok (.bl (fP t c))
 | none=>.bad
def Aw(c:String):Prop:=∀K:sH,∀t∈["NoneType","bool","int","str","list","tuple"],VG K (.type t) (.type c)=pc (fP t c)
theorem ty_int:Aw "int" :=by intro K t J;simp only[u8,Vr,or_false] at J;rcases J with rfl | rfl | rfl | rfl | rfl | rfl <;> rfl
theorem ty_bool:Aw "bool" :=by intro K t J;simp only[u8,Vr,or_false] at J;rcases J with rfl | rfl | rfl | rfl | rfl | rfl <;> rfl
theorem Iq{c:String}(hc:Aw c)(h:RdE C te m):RdE C (tCB (LH C.K) (mW te (mW (tC (.ty c)) qd))) (unM (oG c) m):=by
 intro σ H F θ s Q b p;refine h σ H F θ s _ b (PoR.bind p ?_);rintro ⟨x,s1⟩ H1 F1 θ1 _ Y p1 U v J;dsimp only at p1 U J;show LH C.K [v,.ty c] H1 Q;unfold oG at p1;split at p1
 ·rename_i t e;have q:=dH p1 U (v:=.bl (fP t c)) (cO.mpr rfl);refine#[v,c,t,fP t c,rfl, ?_, ?_,q]
  ·cases x <;> first | (unfold tyD at e;cases e;done) | skip
   unfold tyD at e;cases e;rw[gN.mp J];rfl;unfold tyD at e;cases e;rw[cO.mp J];rfl;unfold tyD at e;cases e;rw[bO.mp J];rfl;unfold tyD at e;cases e;rw[df.mp J];rfl;unfold tyD at e;cases e;unfold Rep at J;obtain⟨a,xs,rfl,hs,hr⟩:=J;exact .inl #[rfl,xs,U.now.fh.seq hs];unfold tyD at e;cases e;unfold Rep at J;obtain⟨a,xs,rfl,hs,hr⟩:=J;exact .inr #[rfl,xs,ck.seqT U.now.fh hs];rename_i k _;unfold tyD at e;dsimp only at e;split at e;rename_i ds ek;cases e;obtain⟨a,xs,rfl,hs,hr⟩:=fC U J (ds:=ds) (by unfold lsD;simp only[ek]);exact .inl #[rfl,xs,hs];cases e
  ·refine hc C.K t ?_;cases x <;> unfold tyD at e <;> dsimp only at e <;> first | (cases e;simp;done) | (cases e;done) | skip
   split at e;cases e;simp;cases e
 exact sn p1
theorem tE{α:Type}{l:List α}(h:l.Nodup){i j:Nat}{x:α}(a:l[i]? =pc x)(b:l[j]? =pc x):i=j:=by obtain⟨h1,e1⟩:=xb.mp a;obtain⟨h2,e2⟩:=xb.mp b;exact(Vs h).mp (e1.trans e2.symm)
theorem BS.setC(b:BS K ca σ H F θ s){c:Cell}(hk:θ[k]? =pc a)(hc:s.o[k]? =pc c)(hF:F a=pi)(hr:aJ K ca θ F ds xs):
 Stp H F θ (upd H a (.lst xs)) F θ/\BS K ca σ (upd H a (.lst xs)) F θ #[s.r,s.o.set k (.lst ds)]:=by
 have hm:a∈θ:=IR hk;refine#[#[ck.refl _,#[[],by simp,by simp],λe o J hb=> ?_,λe o J=> ?_,λe o J=>.inl J],#[#[λe o J=> ?_,b.now.nd,by simpa using b.now.ln,λj a' c' e1 e2=> ?_],b.len,b.sl]];have ne:e≠a:=λz=>hb (by rw[z];exact hm);rw[aZ ne];exact J;by_cases z:e=a;subst z;exact#[_,cQ];exact#[o,by rw[aZ z];exact J];have ne:e≠a:=λz=>by rw[z,hF] at J;cases J
 rw[aZ ne];exact b.now.fh _ _ J;by_cases U:k=j;subst U;rw[hk] at e1;cases e1;have:k<s.o.length:=(xb.mp hc).1;rw[Rp this] at e2;cases e2;exact#[hF,xs,cQ,hr];rw[Ru U] at e2;have q:=b.now.ce j a' c' e1 e2;have ne:a'≠a:=λz=>by subst z;exact U (tE b.now.nd hk e1)
 cases c' with
 | dead=>obtain⟨o,ho⟩:=q;exact#[o,by rw[aZ ne];exact ho]
 | lst ds=>obtain⟨q1,ys,q2,Y⟩:=q;exact#[q1,ys,by rw[aZ ne];exact q2,Y]
 | ins c ns ds=>obtain⟨q1,dx,ys,q2,Y⟩:=q;exact#[q1,dx,ys,by rw[aZ ne];exact q2,Y]
theorem nk(b:BS C.K C.ca σ H F θ s)(r:Rep C.K C.ca θ F (.ptr k) v)(e:s.o[k]? =pc (.lst ds)):
 ∃a xs,v=.ref a/\θ[k]? =pc a/\F a=pi/\H a=pc (.lst xs)/\aJ C.K C.ca θ F ds xs:=by
 unfold Rep at r;obtain⟨a,rfl,hk⟩:=r;obtain⟨h0,xs,h1,h2⟩:ki C.K C.ca H F θ a (.lst ds):=b.now.ce k a _ hk e;exact#[a,xs,rfl,hk,h0,h1,h2]
def kG(O:aC):D->Option (Nat×List D)
 | .ptr k=>match O[k]? with
  | some (.lst ds)=>pc (k,ds)
  | _=>pi
 | _=>pi
theorem qy(h:kG O d=pc (k,ds)):d=.ptr k/\O[k]? =pc (.lst ds):=by
 cases d <;> first | (simp[kG] at h;done) | skip
 rename_i j;unfold kG at h;dsimp only at h;split at h;rename_i es e;cases h;exact#[rfl,e];cases h
def lY(mo me:EM):EM:=λs=>(mo s).bind λx=>match kG x.2.o x.1 with
 | some _=>(me x.2).bind λy=>match kG y.2.o x.1 with
  | some (k,ds)=>if ds.length<16777216 then .ok (.non,#[y.2.r,y.2.o.set k (.lst (ds++[y.1]))]) else .bad
  | none=>.bad
 | none=>.bad
theorem kQ(ho:RdE C to mo)(he:RdE C te me):RdE C (tBM C.K "list" FG to (mW te qd)) (lY mo me):=by intro σ H F θ s Q b p;refine ho σ H F θ s _ b (PoR.bind p ?_);rintro ⟨x,s1⟩ H1 F1 θ1 _ az p1 U v Y;dsimp only at p1 U Y;split at p1;rename_i kd e;obtain⟨rfl,e'⟩:=qy (k:=kd.1) (ds:=kd.2) e;obtain⟨a,xs,rfl,hk,_,h1,_⟩:=nk U Y e';refine#[.inl #[rfl,xs,SqL.of h1],he σ H1 F1 θ1 s1 _ U (PoR.bind p1 ?_)];rintro ⟨y,s2⟩ H2 F2 θ2 _ J p2 b2 w r2;dsimp only at p2 b2 r2;split at p2;rename_i k ds e2;obtain⟨ek,e2⟩:=qy e2;cases ek;obtain⟨a',ys,ea,ac,hF,h2,hr⟩:=nk b2 (Y.mono J.ff J.pre) e2;cases ea;split at p2;rename_i hl;obtain⟨al,b3⟩:=b2.setC ac e2 hF (hr.append (aJ.one r2));exact#[a,ys,w,rfl,rfl,h2,by rw[hr.length];exact hl,p2 _ _ _ al b3 _ (gN.mpr rfl)];exact sn p2;exact sn p2;exact sn p1
def jJ(mo J:EM):GM:=λd s=>(mo s).bind λx=>(J x.2).bind λy=>match y.1 with
 | .int i=>match kG y.2.o x.1 with
  | some (k,ds)=>match ixN ds.length i with
   | some j=>.ok #[y.2.r,y.2.o.set k (.lst (ds.set j d))]
   | none=>.bad
  | none=>.bad
 | _=>.bad
theorem oh{to ti:TE}{mo mi:EM}(ho:RdE C to mo)(hi:RdE C ti mi):RdG C (N4 to ti Mc) (jJ mo mi):=by intro σ H F θ s d v Q b rd p;refine ho σ H F θ s _ b (PoR.bind p ?_);rintro ⟨x,s1⟩ H1 F1 θ1 _ U p1 b1 ov r1;refine hi σ H1 F1 θ1 s1 _ b1 (PoR.bind p1 ?_);rintro ⟨y,s2⟩ H2 F2 θ2 _ J p2 Y iv r2;dsimp only at p2 Y r2;split at p2;rename_i i _;split at p2;rename_i k ds e;obtain⟨ek,e'⟩:=qy e;subst ek;obtain⟨a,xs,rfl,hk,hF,h1,h2⟩:=nk Y (r1.mono J.ff J.pre) e';split at p2;rename_i j ej;obtain⟨ab,b3⟩:=Y.setC hk e' hF (aJ.set ((rd.mono U.ff U.pre).mono J.ff J.pre) j h2);exact#[a,xs,i,j,rfl,bO.mp r2,h1,by rw[h2.length];exact ej,p2 _ _ _ ab _ b3];exact sn p2;exact sn p2;exact sn p2
theorem BS.frz(b:BS K ca σ H F θ s)(hk:θ[k]? =pc a)(hc:s.o[k]? =pc (.lst ds))(hF:F a=pi)(hH:H a=pc (.lst xs))(hr:aJ K ca θ F ds xs):
 Stp H F θ H (upd F a (.lst xs)) θ/\BS K ca σ H (upd F a (.lst xs)) θ #[s.r,s.o.set k .dead]/\Rep K ca θ (upd F a (.lst xs)) (.lst ds) (.ref a):=by
 have hm:a∈θ:=IR hk;have U:ck F (upd F a (.lst xs)):=λe o J=>by rw[aZ (λz=>by rw[z,hF] at J;cases J)];exact J
 refine#[#[U,#[[],by simp,by simp],λe o J _=>J,λe o J=>#[o,J],λe o J=> ?_],#[#[λe o J=> ?_,b.now.nd,by simpa using b.now.ln,λj a' c' e1 e2=> ?_],b.len,λi d e=> ?_], ?_];by_cases z:e=a;exact .inr (.inr (by rw[z];exact hm));rw[aZ z] at J;exact .inl J;by_cases z:e=a;subst z;rw[cQ] at J;rw[hH];exact J;rw[aZ z] at J;exact b.now.fh _ _ J;by_cases Y:k=j;subst Y;rw[hk] at e1;cases e1;have:k<s.o.length:=(xb.mp hc).1;rw[Rp this] at e2;cases e2;exact#[_,hH];rw[Ru Y] at e2;have q:=b.now.ce j a' c' e1 e2;have ne:a'≠a:=λz=>by subst z;exact Y (tE b.now.nd hk e1)
 cases c' with
 | dead=>exact q
 | lst ds=>obtain⟨q1,ys,q2,q3⟩:=q;exact#[by rw[aZ ne];exact q1,ys,q2,q3.mono U #[[],by simp]]
 | ins c ns ds=>obtain⟨q1,dx,ys,q2,q3,q4⟩:=q;exact#[by rw[aZ ne];exact q1,dx,ys,q2,q3,q4.mono U #[[],by simp]]
 obtain⟨v,h1,h2⟩:=b.sl i d e;exact#[v,h1,h2.mono U #[[],by simp]];unfold Rep;exact#[a,xs,rfl,SqL.of cQ,hr.mono U #[[],by simp]]
def iG(m:EM):EM:=λs=>(m s).bind λx=>match kG x.2.o x.1 with
 | some (k,ds)=>.ok (.lst ds,#[x.2.r,x.2.o.set k .dead])
 | none=>.bad
theorem jf(h:RdE C t m):RdE C t (iG m):=by intro σ H F θ s Q b p;refine h σ H F θ s _ b (PoR.bind p ?_);rintro ⟨x,s1⟩ H1 F1 θ1 _ ab p1 J v Y;dsimp only at p1 J Y;split at p1;rename_i k ds e;obtain⟨rfl,e'⟩:=qy e;obtain⟨a,xs,rfl,hk,hF,h1,h2⟩:=nk J Y e';obtain⟨U,b2,r2⟩:=J.frz hk e' hF h1 h2;exact p1 _ _ _ U b2 _ r2;exact sn p1
def mE(m:Nat)(caps:List Nat)(r:List (Option D)):List (Option D):=u0 m pi++caps.map λi=>(r[i]?).getD pi
theorem HM(b:BS K ca σ H F θ s)(m:Nat)(caps:List Nat):BS K ca (oZ m caps σ) H F θ #[mE m caps s.r,s.o]:=by
 refine#[b.now,by unfold oZ mE;simp,λi d e=> ?_];unfold mE at e;dsimp only at e;by_cases hi:i<m;rw[wP (by simpa using hi),GX] at e;split at e <;> cases e;rw[wS (by simpa using hi)] at e;simp only[SX,wv] at e;cases q:caps[i-m]? with
 | none=>rw[q] at e;cases e
 | some j=>
  rw[q] at e;simp only[SH,Vj] at e;have e':s.r[j]? =pc (pc d):=by
   cases z:s.r[j]? with
   | none=>rw[z] at e;simp at e
   | some J=>rw[z] at e;simp at e;rw[e]
  obtain⟨v,h1,h2⟩:=b.sl j d e';refine#[v, ?_,h2];unfold oZ;rw[wS (by simpa using hi)];simp only[SX,wv,q,SH,h1,Um]
def bM:TM:=λs=>.ok (qc,s)
theorem bY:RdT C L4 bM:=λσ H F θ s Q b p=>p H F θ .refl b
open Classical in
noncomputable def dR (ok:aC->Prop)(g:GM)(c:TM)(e:EM):List D->List D->S->Res (List D×S)
 | [],acc,s=>if ok s.o then .ok (acc,s) else .bad
 | d::ds,acc,s=>if ok s.o/\acc.length<16777216 then (g d s).bind λs1=>(c s1).bind λx=>if x.1 then (e x.2).bind λy=>dR ok g c e ds (acc++[y.1]) y.2 else dR ok g c e ds acc x.2 else .bad
noncomputable def nV (m:Nat)(caps:List Nat)(im:IM)(g:GM)(c:TM)(e:EM):S->Res (List D×S):=λs=>(im s).bind λy=>
 (dR (okC y.1.1 y.1.2) g c e y.1.1 [] #[mE m caps y.2.r,y.2.o]).bind λz=>.ok (z.1,#[y.2.r,z.2.o])
theorem ET {m:Nat} {caps:List Nat} {c:TM} (hi:RdI C wi im) (hg:RdG C g gm) (hc:RdT C tc c) (he:RdE C te e)
 {σ:L2.St} {H F:Hp} {θ:List qh} {s:S} {Q:VK} (b:BS C.K C.ca σ H F θ s)
 (p:PoR C H F θ (nV m caps im gm c e s) λy H1 F1 θ1=>BS C.K C.ca σ H1 F1 θ1 y.2->∀q xs,H q=pi->H1 q=pc (.lst xs)->F1 q=pi->q∉θ1->aJ C.K C.ca θ1 F1 y.1 xs->Q (.ref q) H1):tj m caps wi g tc te σ H Q:=by
 refine hi σ H F θ s _ b (PoR.bind p ?_);rintro ⟨⟨ds,k⟩,s1⟩ H1 F1 θ1 _ co p1 b1 J it q hq;dsimp only at p1 b1 it;have cp:Stp H1 F1 θ1 (upd H1 q (.lst [])) F1 θ1:=by
  have nm:∀a u,H1 a=pc u->a≠q:=λa u e z=>by rw[z,hq] at e;cases e
  exact#[ck.refl _,#[[],by simp,by simp],λa u h _=>by rw[aZ (nm a u h)];exact h,λa u h=>#[u,by rw[aZ (nm a u h)];exact h],λa u h=>.inl h]
 have cb:q∉θ1:=λh=>by obtain⟨u,hu⟩:=b1.now.there h;rw[hq] at hu;cases hu
 have qF:F1 q=none:=by
  cases e:F1 q with
  | none=>rfl
  | some u=>rw[b1.now.fh q u e] at hq;cases hq
 have cr:H q=none:=by
  cases e:H q with
  | none=>rfl
  | some u=>obtain⟨u',e'⟩:=co.al q u e;rw[hq] at e';cases e'
 have keep:∀{H2 F2 H3 F3:Hp} {θ2 bz:List qh} {o:HO},Stp H2 F2 θ2 H3 F3 bz->H2 q=pc o->F2 q=pi->q∉θ2->H3 q=pc o/\F3 q=pi/\q∉bz:=λ{H2 F2 H3 F3 θ2 bz o} st h1 h2 h3=>by
  refine#[st.kp q o h1 h3, ?_, ?_];cases e:F3 q with
  | none=>rfl
  | some u=>
   rcases st.nf q u e with z | z | z;rw[h2] at z;cases z;rw[h1] at z;cases z;exact absurd z h3
  obtain⟨r,rfl,hr⟩:=st.th;intro hm;rcases wE.mp hm with z | z
  exact h3 z;rw[hr q z] at h1;cases h1
 have cc:∀{am:L2.St} {H2 F2:Hp} {θ2:List qh} {s2:S} (o:HO),BS C.K C.ca am H2 F2 θ2 s2->F2 q=pi->q∉θ2->BS C.K C.ca am (upd H2 q o) F2 θ2 s2:=λ{am H2 F2 θ2 s2} o b h1 h2=>by
  have ne:∀a,a∈θ2->a≠q:=λa h z=>h2 (z▸h);refine#[#[λa u h=> ?_,b.now.nd,b.now.ln,λj a c e1 e2=> ?_],b.len,b.sl];have:a≠q:=λz=>by rw[z,h1] at h;cases h
  rw[aZ this];exact b.now.fh a u h;have hm:=ne a (IR e1);have w:=b.now.ce j a c e1 e2;cases c with
  | dead=>obtain⟨u,hu⟩:=w;exact#[u,by rw[aZ hm];exact hu]
  | lst ds=>obtain⟨q1,ys,q2,q3⟩:=w;exact#[q1,ys,by rw[aZ hm];exact q2,q3]
  | ins c ns ds=>obtain⟨q1,dx,ys,q2,q3,q4⟩:=w;exact#[q1,dx,ys,by rw[aZ hm];exact q2,q3,q4]
 have cu:∀{H2 F2:Hp} {θ2:List qh} (o:HO),Stp H1 F1 θ1 H2 F2 θ2->Stp H1 F1 θ1 (upd H2 q o) F2 θ2:=λ{H2 F2 θ2} o st=>by
  have nm:∀a u,H1 a=pc u->a≠q:=λa u e z=>by rw[z,hq] at e;cases e
  exact#[st.ff,st.th,λa u h1 h2=>by rw[aZ (nm a u h1)];exact st.kp a u h1 h2,λa u h1=>by rw[aZ (nm a u h1)];exact st.al a u h1,st.nf]
 refine#[λi n Y am H'=>n=ds.length-i/\i<=ds.length/\∃F' U s' as,Stp H1 F1 θ1 H' F' U/\H' q=pc (.lst Y)/\F' q=pi/\q∉U/\BS C.K C.ca am H' F' U s'/\aJ C.K C.ca U F' as Y/\
  PoR C H1 F1 θ1 ((dR (okC ds k) gm c e (ds.drop i) as s').bind λz=>.ok (z.1,(#[s1.r,z.2.o]:S))) (λy H1 F1 θ1=>BS C.K C.ca σ H1 F1 θ1 y.2->∀q xs,H q=pi->H1 q=pc (.lst xs)->F1 q=pi->q∉θ1->aJ C.K C.ca θ1 F1 y.1 xs->Q (.ref q) H1),
  #[ds.length,by simp,Oz _,F1,θ1,#[mE m caps s1.r,s1.o],[],cp,cQ,qF,cb,cc _ (HM b1 m caps) qF cb,aJ.nil,by simpa using p1], ?_]
 rintro i n Y am H' ⟨rfl,d8,F',U,s',as,st,hq',ci,bp,bs,bb,po⟩;by_cases lt:i<ds.length;right;rw[Ro lt,dR] at po;split at po;rename_i bd;refine#[it.go i H' F' U s'.o lt st bs.now bd.1, ?_];intro x H3 hy;obtain⟨F3,bi,b3,rp⟩:=it.yl i ds[i] am H' F' U s' x H3 (sK lt) st bs bd.1 hy;obtain⟨k1,k2,k3⟩:=keep bi hq' ci bp;have an:=st.trans bi;have bm:=PoR.after an po;have w1:PoG C H3 F3 U (gm ds[i] s') (λap H4=>tc ap H4 λb H4=>if b=qc then
  te ap H4 λy H5=>H5 q=pc (.lst Y)/\Y.length<sizeLine/\∃k',k'<ds.length-i/\(k'=ds.length-(i+1)/\i+1<=ds.length/\∃F' U s' as,Stp H1 F1 θ1 (upd H5 q (.lst (Y++[y]))) F' U/\(upd H5 q (.lst (Y++[y]))) q=pc (.lst (Y++[y]))/\F' q=pi/\q∉U/\BS C.K C.ca ap (upd H5 q (.lst (Y++[y]))) F' U s'/\aJ C.K C.ca U F' as (Y++[y])/\
   PoR C H1 F1 θ1 ((dR (okC ds k) gm c e (ds.drop (i+1)) as s').bind λz=>.ok (z.1,(#[s1.r,z.2.o]:S))) (λy H1 F1 θ1=>BS C.K C.ca σ H1 F1 θ1 y.2->∀q xs,H q=pi->H1 q=pc (.lst xs)->F1 q=pi->q∉θ1->aJ C.K C.ca θ1 F1 y.1 xs->Q (.ref q) H1))
  else ∃k',k'<ds.length-i/\(k'=ds.length-(i+1)/\i+1<=ds.length/\∃F' U s' as,Stp H1 F1 θ1 H4 F' U/\H4 q=pc (.lst Y)/\F' q=pi/\q∉U/\BS C.K C.ca ap H4 F' U s'/\aJ C.K C.ca U F' as Y/\
   PoR C H1 F1 θ1 ((dR (okC ds k) gm c e (ds.drop (i+1)) as s').bind λz=>.ok (z.1,(#[s1.r,z.2.o]:S))) (λy H1 F1 θ1=>BS C.K C.ca σ H1 F1 θ1 y.2->∀q xs,H q=pi->H1 q=pc (.lst xs)->F1 q=pi->q∉θ1->aJ C.K C.ca θ1 F1 y.1 xs->Q (.ref q) H1))):=by
  cases e1:gm ds[i] s' with
  | bad=>rw[e1] at bm;exact bm
  | exc a1 a2 a3=>rw[e1] at bm;exact bm
  | ok s4=>
   rw[e1] at po;intro H4 F4 cw az ap b4;obtain⟨l1,l2,l3⟩:=keep az k1 k2 k3;refine hc ap H4 F4 cw s4 _ b4 ?_;cases e2:c s4 with
   | bad=>rw[aj,e2] at po;exact po
   | exc a1 a2 a3=>rw[aj,e2] at po;exact PoR.after (an.trans az) po
   | ok x5=>
    obtain⟨kk,s5⟩:=x5;rw[aj,e2,aj] at po;intro H5 F5 cn a0 b5;obtain⟨m1,m2,m3⟩:=keep a0 l1 l2 l3;have be:=((bb.mono bi.ff bi.pre).mono az.ff az.pre).mono a0.ff a0.pre;cases kk with
    | false=>
     exact vX #[ds.length-(i+1),⋯,rfl,⋯,F5,cn,s5,as,an.trans (az.trans a0),m1,m2,m3,b5,be,by simpa using po]
    | true=>
     refine uY (he ap H5 F5 cn s5 _ b5 ?_);dsimp only[if_true] at po;cases e3:e s5 with
     | bad=>rw[e3] at po;exact po
     | exc a1 a2 a3=>rw[e3] at po;exact PoR.after (an.trans (az.trans a0)) po
     | ok x6=>
      obtain⟨y,s6⟩:=x6;rw[e3,aj] at po;intro H6 F6 c0 bn b6 w r6;obtain⟨n1,n2,n3⟩:=keep bn m1 m2 m3;exact#[n1,by rw[bb.length];exact bd.2,ds.length-(i+1),⋯,rfl,⋯,F6,c0,s6,as++[y],cu _ (an.trans (az.trans (a0.trans bn))),cQ,n2,n3,cc _ b6 n2 n3,(be.mono bn.ff bn.pre).append (aJ.one r6),po]
 exact hg am H3 F3 U s' ds[i] x _ b3 rp w1;exact sn po;left;rw[SQ ⋯,dR] at po;split at po;rename_i bd;refine#[it.st i H' F' U s'.o ⋯ st bs.now bd,hq', ?_];refine po H' F' U st #[bs.now,b1.len,λj d e=> ?_] q Y cr hq' ci bp bb;obtain⟨v,h1,h2⟩:=b1.sl j d e;exact#[v,h1,h2.mono st.ff st.pre];exact sn po
noncomputable def bL (m:Nat)(caps:List Nat)(im:IM)(g:GM)(c:TM)(e:EM):EM:=λs=>(nV m caps im g c e s).bind λy=>.ok (.lst y.1,y.2)
theorem bZ{m:Nat}{c:TM}(hi:RdI C wi im)(hg:RdG C g gm)(hc:RdT C tc c)(he:RdE C te e):RdE C (tj m caps wi g tc te) (bL m caps im gm c e):=by
 intro σ H F θ s Q b p;refine ET hi hg hc he b ?_;unfold bL at p;cases e1:nV m caps im gm c e s with
 | bad=>rw[e1] at p;exact p
 | exc a1 a2 a3=>rw[e1] at p;exact p
 | ok y=>
  rw[e1,aj] at p;intro H1 F1 θ1 J U q xs h0 h1 h2 h3 hr;have Y:ck F1 (upd F1 q (.lst xs)):=λa u h=>by rw[aZ (λz=>by rw[z,h2] at h;cases h)];exact h
  refine p H1 (upd F1 q (.lst xs)) θ1 #[J.ff.trans Y,J.th,J.kp,J.al,λa u h=> ?_] #[#[λa u h=> ?_,U.now.nd,U.now.ln,λj a c e2 e3=> ?_],U.len,λi d e2=> ?_] (.ref q) ?_;by_cases z:a=q;subst z;exact .inr (.inl h0);rw[aZ z] at h;exact J.nf a u h;by_cases z:a=q;subst z;rw[cQ] at h;rw[h1];exact h;rw[aZ z] at h;exact U.now.fh a u h;have ne:a≠q:=λz=>h3 (z▸IR e2);have w:=U.now.ce j a c e2 e3;cases c with
  | dead=>exact w
  | lst ds=>obtain⟨q1,ys,q2,q3⟩:=w;exact#[by rw[aZ ne];exact q1,ys,q2,q3.mono Y #[[],by simp]]
  | ins c ns ds=>obtain⟨q1,dx,ys,q2,q3,q4⟩:=w;exact#[by rw[aZ ne];exact q1,dx,ys,q2,q3,q4.mono Y #[[],by simp]]
  obtain⟨v,w1,w2⟩:=U.sl i d e2;exact#[v,w1,w2.mono Y #[[],by simp]];unfold Rep;exact#[q,xs,rfl,SqL.of cQ,hr.mono Y #[[],by simp]]
noncomputable def nO (m:Nat)(caps:List Nat)(im:IM)(g:GM)(c:TM)(e:EM):EM:=λs=>(nV m caps im g c e s).bind λy=>.ok (.ptr y.2.o.length,#[y.2.r,y.2.o++[.lst y.1]])
theorem pW{m:Nat}{c:TM}(hi:RdI C wi im)(hg:RdG C g gm)(hc:RdT C tc c)(he:RdE C te e):RdE C (tj m caps wi g tc te) (nO m caps im gm c e):=by
 intro σ H F θ s Q b p;refine ET hi hg hc he b ?_;unfold nO at p;cases e1:nV m caps im gm c e s with
 | bad=>rw[e1] at p;exact p
 | exc a1 a2 a3=>rw[e1] at p;exact p
 | ok y=>
  rw[e1,aj] at p;intro H1 F1 θ1 J U q xs h0 h1 h2 h3 hr;obtain⟨r,er,Y⟩:=J.th;refine p H1 F1 (θ1++[q]) #[J.ff,#[r++[q],by rw[er,R9],λa ha=> ?_],J.kp,J.al,J.nf] #[#[U.now.fh, ?_,by simp[U.now.ln],λk a c e2 e3=> ?_],U.len,λi d e2=> ?_] (.ref q) ?_;rcases wE.mp ha with z | z
  exact Y a z;rw[wn.mp z];exact h0;refine Sa.mpr #[U.now.nd,by simp,λa ha x hx=> ?_];rw[wn.mp hx];rintro rfl;exact h3 ha;by_cases hk:k<θ1.length;rw[wP hk] at e2;dsimp only at e3;rw[wP (by rw[<- U.now.ln];exact hk)] at e3;have w:=U.now.ce k a c e2 e3;cases c with
  | dead=>exact w
  | lst ds=>obtain⟨q1,ys,q2,q3⟩:=w;exact#[q1,ys,q2,q3.mono (ck.refl _) #[[q],rfl]]
  | ins c ns ds=>obtain⟨q1,dx,ys,q2,q3,q4⟩:=w;exact#[q1,dx,ys,q2,q3,q4.mono (ck.refl _) #[[q],rfl]]
  have ac:k<(θ1++[q]).length:=(xb.mp e2).1;have am:k=θ1.length:=by simp at ac;omega
  subst am;rw[wS (vr _)] at e2;dsimp only at e3;rw[wS (by rw[U.now.ln];exact vr _),U.now.ln] at e3;simp at e2 e3;subst e2;subst e3;exact#[h2,xs,h1,hr.mono (ck.refl _) #[[q],rfl]];obtain⟨v,w1,w2⟩:=U.sl i d e2;exact#[v,w1,w2.mono (ck.refl _) #[[q],rfl]];unfold Rep;exact#[q,rfl,by rw[<- U.now.ln];simp]
end
section
variable {C : Ct}
theorem uV(p:PoE C σ H F θ (.ok (.ptr s.o.length,(#[s.r,s.o++[.lst ds]]:S))) Q)(b:BS C.K C.ca σ H F θ s)(r:aJ C.K C.ca θ F ds xs):
 ∀q,H q=pi->Q (.ref q) (upd H q (.lst xs)):=λq hq=>by
 obtain⟨st,J,U⟩:=b.newC hq r;exact p _ _ _ st J _ U
def wH(O:aC):D->Option (List D)
 | .tup ds=>pc ds
 | x=>lsD O x
def CJ(m:EM):EM:=λs=>(m s).bind λx=>match wH x.2.o x.1 with
 | some ds=>.ok (.ptr x.2.o.length,#[x.2.r,x.2.o++[.lst ds]])
 | none=>.bad
theorem Kx(h:RdE C t m):RdE C (tCB (λxs H Q=>∃p ys,xs=[.ref p]/\(SqL C.K H p ys\/SqT C.K H p ys)/\∀l,H l=pi->Q (.ref l) (upd H l (.lst ys))) (mW t qd)) (CJ m):=by
 intro σ H F θ s Q b p;refine h σ H F θ s _ b (PoR.bind p ?_);rintro ⟨x,s1⟩ H1 F1 θ1 _ Y p1 J v U;dsimp only at p1 J U;split at p1;rename_i ds e;cases x with
 | tup es=>
  cases e;obtain⟨a,xs,rfl,hs,hr⟩:=zp J U;exact#[a,xs,rfl,.inr hs,uV p1 J hr]
 | _=>
  obtain⟨a,xs,rfl,hs,hr⟩:=fC J U e;exact#[a,xs,rfl,.inl hs,uV p1 J hr]
 exact sn p1
def slC(me:EM)(ml mh:OM):EM:=λs=>(me s).bind λx=>(ml x.2).bind λl=>(mh l.2).bind λh=>match lsD h.2.o x.1 with
 | some ds=>.ok (.ptr h.2.o.length,#[h.2.r,h.2.o++[.lst (cutD ds l.1 h.1)]])
 | none=>.bad
theorem N8(he:RdE C te me)(hl:RdO C tl ml)(hh:RdO C th mh):RdE C (tSl (Ky C.K) te tl th) (slC me ml mh):=by intro σ H F θ s Q b p;refine he σ H F θ s _ b (PoR.bind p ?_);rintro ⟨x,s1⟩ H1 F1 θ1 _ an p1 b1 v r1;refine hl σ H1 F1 θ1 s1 _ b1 (PoR.bind p1 ?_);rintro ⟨l,s2⟩ H2 F2 θ2 _ J p2 b2;refine hh σ H2 F2 θ2 s2 _ b2 (PoR.bind p2 ?_);rintro ⟨h,s3⟩ H3 F3 a1 _ U Y b3;dsimp only at Y ⊢;split at Y;rename_i ds e;obtain⟨a,xs,rfl,hs,hr⟩:=fC b3 ((r1.mono J.ff J.pre).mono U.ff U.pre) e;exact#[a,xs,rfl,hs,uV Y b3 (FF hr)];exact sn Y
mutual
def shD(n:Nat):D->D
 | .lst ds=>.lst (fG n ds)
 | .tup ds=>.tup (fG n ds)
 | .ptr k=>.ptr (n+k)
 | .obj c ns ds=>.obj c ns (fG n ds)
 | .exn c=>.exn c
 | .non=>.non
 | .bl b=>.bl b
 | .int i=>.int i
 | .str x=>.str x
def fG(n:Nat):List D->List D
 | []=>[]
 | d::ds=>shD n d::fG n ds
end
def shC(n:Nat):Cell->Cell
 | .dead=>.dead
 | .lst ds=>.lst (fG n ds)
 | .ins c ns ds=>.ins c ns (fG n ds)
section
variable {K : sH} {ca : Nat → qh} {F : Hp} {θ θ1 : List qh}
mutual
theorem JJ:∀{d:D} {v:V},Rep K ca θ1 F d v->Rep K ca (θ++θ1) F (shD θ.length d) v
 | .non,_,h=>by unfold shD;exact h
 | .bl _,_,h=>by unfold shD;exact h
 | .int _,_,h=>by unfold shD;exact h
 | .str _,_,h=>by unfold shD;exact h
 | .lst ds,_,h=>by unfold shD;unfold Rep at h ⊢;obtain⟨a,xs,e,hs,hr⟩:=h;exact#[a,xs,e,hs,pC hr]
 | .tup ds,_,h=>by unfold shD;unfold Rep at h ⊢;obtain⟨a,xs,e,hs,hr⟩:=h;exact#[a,xs,e,hs,pC hr]
 | .ptr k,_,h=>by unfold shD;unfold Rep at h ⊢;obtain⟨a,e,hk⟩:=h;exact#[a,e,by rw[wS (Uw _ _),Sb];exact hk]
 | .obj c ns ds,_,h=>by unfold shD;unfold Rep at h ⊢;obtain⟨a,dx,xs,e,ha,J,hr⟩:=h;exact#[a,dx,xs,e,ha,J,pC hr]
 | .exn c,_,h=>by unfold shD;unfold Rep at h ⊢;exact h
theorem pC:∀{ds:List D} {xs:List V},aJ K ca θ1 F ds xs->aJ K ca (θ++θ1) F (fG θ.length ds) xs
 | [],_,h=>by unfold fG;exact h
 | d::ds,_,h=>by unfold fG;unfold aJ at h ⊢;obtain⟨v,r,e,h1,h2⟩:=h;exact#[v,r,e,JJ h1,pC h2]
end
end
theorem BS.calledO{O1:aC}(b:BS K ca σ H F θ s)(st:Stp H F [] H1 F1 θ1)(n:Now K ca H1 F1 θ1 O1):
 Stp H F θ H1 F1 (θ++θ1)/\BS K ca σ H1 F1 (θ++θ1) #[s.r,s.o++O1.map (shC s.o.length)]:=by
 obtain⟨J,b0⟩:=b.called st n;obtain⟨r,er,hr⟩:=st.th;rw[wT] at er;subst er;refine#[#[J.ff,#[θ1,rfl,hr],J.kp,J.al,J.nf],#[#[n.fh,Sa.mpr #[b.now.nd,n.nd,λa ha x hx=> ?_],by simp[b.now.ln,n.ln],λk a c e1 e2=> ?_],b.len,λi d e=> ?_]];rintro rfl;obtain⟨u,hu⟩:=b.now.there ha;rw[hr a hx] at hu;cases hu;by_cases hk:k<θ.length;rw[wP hk] at e1;dsimp only at e2;rw[wP (by rw[<- b.now.ln];exact hk)] at e2;have w:=b0.now.ce k a c e1 e2;cases c with
 | dead=>exact w
 | lst ds=>obtain⟨q1,ys,q2,U⟩:=w;exact#[q1,ys,q2,U.mono (ck.refl _) #[θ1,rfl]]
 | ins c ns ds=>obtain⟨q1,dx,ys,q2,U,Y⟩:=w;exact#[q1,dx,ys,q2,U,Y.mono (ck.refl _) #[θ1,rfl]]
 rw[wS ⋯] at e1;dsimp only at e2;rw[wS (by rw[<- b.now.ln];omega),wv,<- b.now.ln] at e2;cases e3:O1[k-θ.length]? with
 | none=>rw[e3] at e2;cases e2
 | some c'=>
  rw[e3] at e2;cases e2;have w:=n.ce _ a c' e1 e3;cases c' with
  | dead=>exact w
  | lst ds=>obtain⟨q1,ys,q2,U⟩:=w;exact#[q1,ys,q2,pC U]
  | ins c ns ds=>obtain⟨q1,dx,ys,q2,U,Y⟩:=w;exact#[q1,dx,ys,q2,U,pC Y]
 obtain⟨v,h1,h2⟩:=b0.sl i d e;exact#[v,h1,h2.mono (ck.refl _) #[θ1,rfl]]
def d3(n:Nat)(f:FM)(ma:AM):EM:=λs=>(ma s).bind λx=>if aR x.1=qc/\x.1.length=n then (match f x.1 [] with
 | .ok (d,O1)=>.ok (shD x.2.o.length d,#[x.2.r,x.2.o++O1.map (shC x.2.o.length)])
 | _=>.bad) else .bad
theorem gb{f:FM}(ha:RdA C ta ma):RdE C (tR (spM C.K C.ca n f) [] E ta) (d3 n f ma):=by intro σ H F θ s Q b p;refine ha σ H F θ s _ b (PoR.bind p ?_);rintro ⟨x,s1⟩ H1 F1 θ1 _ ac p1 J v r1;dsimp only at p1 J r1 ⊢;split at p1;rename_i hp;rw[R1];refine#[F1,[],x,[],Now.nil J.now.fh,r1.pure hp.1,hp.2, ?_];split at p1;rename_i d O1 e;rw[e];intro v H2 F2 θ2 U n2 rv;obtain⟨Y,b3⟩:=J.calledO U n2;refine p1 H2 F2 _ Y b3 v ?_;rw[<- J.now.ln];exact JJ rv;exact sn p1;exact sn p1
def lr(n:Nat)(f:FM)(ma:AM):EM:=λs=>(ma s).bind λx=>if aR (cz x.2.o (cz x.2.o x.1))=qc/\x.1.length=n then (match f (cz x.2.o (cz x.2.o x.1)) [] with
 | .ok (d,_)=>if pe d=qc then .ok (d,x.2) else .bad
 | _=>.bad) else .bad
theorem kR(O:aC):∀ds:List D,(cz O ds).length=ds.length
 | []=>by unfold cz;rfl
 | d::ds=>by unfold cz;rw[xa,xa,kR O ds]
theorem tY{f:FM}(ha:RdA C ta ma):RdE C (tR (spM C.K C.ca n f) [] E ta) (lr n f ma):=by
 intro σ H F θ s Q b p;refine ha σ H F θ s _ b (PoR.bind p ?_);rintro ⟨x,s1⟩ H1 F1 θ1 _ ac p1 J v r1;dsimp only at p1 J r1 ⊢;split at p1;rename_i hp;rw[R1];have rr:aJ C.K C.ca θ1 H1 (cz s1.o (cz s1.o x)) v:=lL J.now J.now.fh (ck.refl _) (lL J.now (ck.refl _) J.now.fh r1);refine#[H1,[],cz s1.o (cz s1.o x),[],Now.nil (ck.refl _),rr.pure hp.1,by rw[kR,kR];exact hp.2, ?_];split at p1;rename_i d O1 e;rw[e];intro v H2 F2 θ2 U n2 rv;split at p1;rename_i sd;have kp:∀a o,H1 a=pc o->H2 a=pc o:=λa o h=>U.kp a o h (by simp);refine p1 H2 F1 θ1 #[ck.refl _,#[[],by simp,by simp],λa o h _=>kp a o h,U.al,λa o h=>.inl h] #[#[λa o h=>kp a o (J.now.fh a o h),J.now.nd,J.now.ln,λk a c e1 e2=> ?_],J.len,J.sl] v (rv.scal sd);have w:=J.now.ce k a c e1 e2;cases c with
 | dead=>obtain⟨o,ho⟩:=w;exact#[o,kp a o ho]
 | lst ds=>obtain⟨q1,ys,q2,Y⟩:=w;exact#[q1,ys,kp _ _ q2,Y]
 | ins c ns ds=>obtain⟨q1,dx,ys,q2,Y,q4⟩:=w;exact#[q1,dx,ys,kp _ _ q2,Y,q4]
 exact sn p1;exact sn p1;exact sn p1
end
def LM(P:B3)(w:Ch)(K:sH)(mg:Str->Option qb)(base:FS)(ca:Nat->qh)(J:Nat)(x:Str)(ps:List Str)(f:FM)(a:qh)(fd:RL):Prop:=
 kI P w K mg base (CXE P w) J a fd ps (spM K ca ps.length f)/\mg x=pc (.ref a)/\NE K (.ref a)=qc/\Binds K fd ps []
def LR(P:B3)(w:Ch)(K:sH)(mg:Str->Option qb)(base:FS)(ca:Nat->qh)(J:Nat)(x:Str)(ps:List Str)(f:FM):Prop:=∃a fd,LM P w K mg base ca J x ps f a fd
theorem Cn{K:sH}{ca:Nat->qh}{θ:List qh}{F:Hp}:∀ns:List Int,aJ K ca θ F (ns.map D.int) (ns.map V.int)
 | []=>aJ.nil
 | _::ns=>aJ.cons (bO.mpr rfl) (Cn ns)
theorem Oy{ns:List Int}{f:FM}(J:SqL K H a (ns.map V.int))(h:∃O,f [.lst (ns.map D.int)] []=.ok (.bl qc,O)):spM K ca 1 f [.ref a] H (λv _=>v=.bl qc) E:=by obtain⟨O,h⟩:=h;refine#[H,[],[.lst (ns.map D.int)],[],Now.nil (ck.refl _),aJ.one ?_,rfl, ?_];unfold Rep;exact#[a,ns.map V.int,rfl,J,Cn ns];rw[h];intro v H1 F1 θ1 _ _ r;exact cO.mp r
theorem ph{A:Je}(hr:fk k A)(hk:32<=k):A.depth+100<recursionLimit:=by have:=hr.dp;omega
def Av(i:Nat)(s:S):Nat:=match s.r[i]? with
 | some (pc (.int j))=>j.natAbs+1
 | _=>0
section
variable {C : Ct}
def gg(as bs:List D):List D:=R4 (λa b=>.tup [a,b]) as bs
def nF(m:AM):IM:=λs=>(m s).bind λx=>match x.1 with
 | [.lst as,.lst bs]=>.ok ((gg as bs,pi),x.2)
 | _=>.bad
theorem tZ{as bs:List D}(h:(gg as bs)[i]? =pc d):∃x y,as[i]? =pc x/\bs[i]? =pc y/\d=.tup [x,y]:=by
 unfold gg at h;rw[UQ] at h;cases h1:as[i]? with
 | none=>rw[h1] at h;cases h
 | some x=>
  cases h2:bs[i]? with
  | none=>rw[h1,h2] at h;cases h
  | some y=>
   rw[h1,h2] at h;cases h;exact#[x,y,rfl,rfl,rfl]
theorem Ot{a b:qh}{xs ys:List V}{as bs:List D}{H F:Hp}(h1:SqL C.K F a xs)(h2:SqL C.K F b ys)(r1:aJ C.K C.ca θ F as xs)(r2:aJ C.K C.ca θ F bs ys):
 vH C (Itz C.K a b) (gg as bs) (okC (gg as bs) pi) H F θ where
 go:=λi H2 F2 θ2 O2 hi st n _=>by obtain⟨x,y,e1,e2,_⟩:=tZ (sK hi);obtain⟨v,q1,_⟩:=r1.get e1;obtain⟨w,q2,_⟩:=r2.get e2;exact#[xs,ys,v,w,n.fh.seq (st.ff.seq h1),n.fh.seq (st.ff.seq h2),q1,q2]
 yl:=λi d σ H2 F2 θ2 s2 x H3 hd st b _ hy=>by obtain⟨T,v,w,hT,rfl,rfl,hv,hw⟩:=hy;obtain⟨x,y,e1,e2,rfl⟩:=tZ hd;obtain⟨v',q1,k1⟩:=r1.get e1;obtain⟨w',q2,k2⟩:=r2.get e2;have:=hv xs (b.now.fh.seq (st.ff.seq h1));rw[q1] at this;cases this;have:=hw ys (b.now.fh.seq (st.ff.seq h2));rw[q2] at this;cases this;obtain⟨st3,b3,sF,e3⟩:=b.newF hT (.tup [v,w]);refine#[_,st3,b3, ?_];unfold Rep;exact#[T,[v,w],rfl,SqT.of e3,aJ.cons ((k1.mono st.ff st.pre).mono st3.ff st3.pre) (aJ.one ((k2.mono st.ff st.pre).mono st3.ff st3.pre))]
 st:=λi H2 F2 θ2 O2 hi st n _=>by refine#[xs,ys,n.fh.seq (st.ff.seq h1),n.fh.seq (st.ff.seq h2), ?_];unfold gg at hi;rw[RU] at hi;rw[r1.length,r2.length];omega
theorem sx{m:AM}(h:RdA C ta m):RdI C (KR C.K ta) (nF m):=by intro σ H F θ s R b p;refine h σ H F θ s _ b (PoR.bind p ?_);rintro ⟨x,s1⟩ H1 F1 θ1 _ am p1 U v r1;dsimp only at p1 U r1;split at p1;rename_i as bs;obtain⟨v1,v2,rfl,k1,k2⟩:=LS r1;unfold Rep at k1 k2;obtain⟨a,xs,rfl,hs,hr⟩:=k1;obtain⟨b',ys,rfl,J,Y⟩:=k2;exact#[a,b',rfl,#[xs,U.now.fh.seq hs],#[ys,U.now.fh.seq J],p1 _ _ _ .refl U _ (Ot hs J hr Y)];exact sn p1
def fO(ds:List D):List D:=ds.mapIdx λi d=>.tup [.int (i:Nat),d]
def dQ(m:AM):IM:=λs=>(m s).bind λx=>match x.1 with
 | [.lst as]=>.ok ((fO as,pi),x.2)
 | _=>.bad
theorem Cg{as:List D}(h:(fO as)[i]? =pc d):∃x,as[i]? =pc x/\d=.tup [.int (i:Nat),x]:=by
 unfold fO at h;rw[List.getElem?_mapIdx] at h;cases h1:as[i]? with
 | none=>rw[h1] at h;cases h
 | some x=>
  rw[h1] at h;cases h;exact#[x,rfl,rfl]
theorem MB{as:List D}(h1:SqL C.K F a xs)(r1:aJ C.K C.ca θ F as xs):vH C (Ite C.K a) (fO as) (okC (fO as) pi) H F θ where
 go:=λi H2 F2 θ2 O2 hi st n _=>by obtain⟨x,e1,_⟩:=Cg (sK hi);obtain⟨v,q1,_⟩:=r1.get e1;exact#[xs,v,n.fh.seq (st.ff.seq h1),q1]
 yl:=λi d σ H2 F2 θ2 s2 x H3 hd st b _ hy=>by obtain⟨T,v,hT,rfl,rfl,hv⟩:=hy;obtain⟨x,e1,rfl⟩:=Cg hd;obtain⟨v',q1,k1⟩:=r1.get e1;have:=hv xs (b.now.fh.seq (st.ff.seq h1));rw[q1] at this;cases this;obtain⟨st3,b3,sF,e3⟩:=b.newF hT (.tup [.int (i:Nat),v]);refine#[_,st3,b3, ?_];unfold Rep;exact#[T,[.int (i:Nat),v],rfl,SqT.of e3,aJ.cons (bO.mpr rfl) (aJ.one ((k1.mono st.ff st.pre).mono st3.ff st3.pre))]
 st:=λi H2 F2 θ2 O2 hi st n _=>by refine#[xs,n.fh.seq (st.ff.seq h1), ?_];unfold fO at hi;rw[List.length_mapIdx] at hi;rw[r1.length];exact hi
theorem ke{m:AM}(h:RdA C ta m):RdI C (LI C.K ta) (dQ m):=by intro σ H F θ s R b p;refine h σ H F θ s _ b (PoR.bind p ?_);rintro ⟨x,s1⟩ H1 F1 θ1 _ ab p1 J v U;dsimp only at p1 J U;split at p1;rename_i as;obtain⟨v1,rfl,Y⟩:=o3 U;unfold Rep at Y;obtain⟨a,xs,rfl,hs,hr⟩:=Y;exact#[a,rfl,#[xs,J.now.fh.seq hs],p1 _ _ _ .refl J _ (MB hs hr)];exact sn p1
def p9(x:Str):List D:=x.cps.toList.map λc=>.str #[#v[c]]
def Dd(m:EM):IM:=λs=>(m s).bind λx=>match x.1 with
 | .str z=>.ok ((p9 z,pi),x.2)
 | _=>.bad
theorem OD{z:Str}:vH C (Its z) (p9 z) (okC (p9 z) pi) H F θ where
 go:=λi H2 F2 θ2 O2 hi st n _=>by unfold p9 at hi;show i<z.cps.size;simpa using hi
 yl:=λi d σ H2 F2 θ2 s2 x H3 hd st b _ hy=>by obtain⟨rfl,c,hc,rfl⟩:=hy;refine#[F2,.refl,b, ?_];unfold p9 at hd;rw[wv,SW,hc] at hd;cases hd;exact df.mpr rfl
 st:=λi H2 F2 θ2 O2 hi st n _=>by unfold p9 at hi;show z.cps.size<=i;simpa using hi
theorem Gk(h:RdE C te m):RdI C (NO te) (Dd m):=by
 intro σ H F θ s R b p;refine h σ H F θ s _ b (PoR.bind p ?_);rintro ⟨x,s1⟩ H1 F1 θ1 _ Y p1 J v U;dsimp only at p1 J U;cases x <;> first | exact sn p1 | skip
 rename_i z _;exact#[z,df.mp U,p1 _ _ _ .refl J _ OD]
def iA:List D->Option (List Int)
 | []=>pc []
 | .int i::r=>(iA r).map (i:: ·)
 | _=>pi
def kC:List D->Option (List Bool)
 | []=>pc []
 | .bl i::r=>(kC r).map (i:: ·)
 | _=>pi
theorem zH{K:sH}{ca:Nat->qh}{θ:List qh}{F:Hp}:∀{ds:List D} {ns:List Int} {xs:List V},iA ds=pc ns->aJ K ca θ F ds xs->xs=ns.map V.int
 | [],ns,xs,e,r=>by cases e;unfold aJ at r;rw[r];rfl
 | d::ds,ns,xs,e,r=>by
  cases d <;> first | (cases e;done) | skip
  rename_i i;unfold iA at e;cases e2:iA ds with
  | none=>rw[e2] at e;cases e
  | some ms=>
   rw[e2] at e;cases e;unfold aJ at r;obtain⟨v,w,rfl,h1,h2⟩:=r;rw[zH e2 h2,bO.mp h1];rfl
theorem xo{K:sH}{ca:Nat->qh}{θ:List qh}{F:Hp}:∀{ds:List D} {ns:List Bool} {xs:List V},kC ds=pc ns->aJ K ca θ F ds xs->xs=ns.map V.bl
 | [],ns,xs,e,r=>by cases e;unfold aJ at r;rw[r];rfl
 | d::ds,ns,xs,e,r=>by
  cases d <;> first | (cases e;done) | skip
  rename_i i;unfold kC at e;cases e2:kC ds with
  | none=>rw[e2] at e;cases e
  | some ms=>
   rw[e2] at e;cases e;unfold aJ at r;obtain⟨v,w,rfl,h1,h2⟩:=r;rw[xo e2 h2,cO.mp h1];rfl
def ofInts(f:List Int->D):OpN:=λO xs=>match xs with
 | [x]=>match lsD O x with
  | some ds=>match iA ds with
   | some ns=>.ok (f ns)
   | none=>.bad
  | none=>.bad
 | _=>.bad
def we(f:List Bool->D):OpN:=λO xs=>match xs with
 | [x]=>match lsD O x with
  | some ds=>match kC ds with
   | some ns=>.ok (f ns)
   | none=>.bad
  | none=>.bad
 | _=>.bad
def tK:OpN:=ofInts λns=>.int ns.sum
def Hn:OpN:=we λbs=>.bl (bs.all id)
def K3:OpN:=we λbs=>.bl (bs.any id)
theorem HX{f:List Int->D}{g:List Int->V}(h:∀K ca θ F ns,Rep K ca θ F (f ns) (g ns)):kT C (λxs H Q=>∃(p:qh) (ns:List Int),xs=[.ref p]/\SqL C.K H p (ns.map V.int)/\Q (g ns) H) (ofInts f):=by intro σ H F θ s xs vs Q b r p;unfold ofInts at p;split at p;obtain⟨v,rfl,J⟩:=o3 r;split at p;rename_i ds e;obtain⟨a,ys,rfl,hs,hr⟩:=fC b J e;split at p;rename_i ns e2;have:=zH e2 hr;subst this;exact#[a,ns,rfl,hs,dH p b (h ..)];exact sn p;exact sn p;exact sn p
theorem zu{f:List Bool->D}{g:List Bool->V}(h:∀K ca θ F ns,Rep K ca θ F (f ns) (g ns)):kT C (λxs H Q=>∃(p:qh) (ns:List Bool),xs=[.ref p]/\SqL C.K H p (ns.map V.bl)/\Q (g ns) H) (we f):=by intro σ H F θ s xs vs Q b r p;unfold we at p;split at p;obtain⟨v,rfl,J⟩:=o3 r;split at p;rename_i ds e;obtain⟨a,ys,rfl,hs,hr⟩:=fC b J e;split at p;rename_i ns e2;have:=xo e2 hr;subst this;exact#[a,ns,rfl,hs,dH p b (h ..)];exact sn p;exact sn p;exact sn p
theorem zm:kT C (λxs H Q=>∃(p:qh) (ns:List Int),xs=[.ref p]/\SqL C.K H p (ns.map V.int)/\Q (.int ns.sum) H) tK:=HX λ_ _ _ _ _=>bO.mpr rfl
theorem Il:kT C (λxs H Q=>∃(p:qh) (bs:List Bool),xs=[.ref p]/\SqL C.K H p (bs.map V.bl)/\Q (.bl (bs.all id)) H) Hn:=zu λ_ _ _ _ _=>cO.mpr rfl
theorem NN:kT C (λxs H Q=>∃(p:qh) (bs:List Bool),xs=[.ref p]/\SqL C.K H p (bs.map V.bl)/\Q (.bl (bs.any id)) H) K3:=zu λ_ _ _ _ _=>cO.mpr rfl
def LF:D->Bool
 | .non=>qc
 | _=>wh
def isD:Op2:=λ_ x y=>match x,y with
 | .bl a,.bl b=>.ok (.bl (a == b))
 | x,.non=>.ok (.bl (LF x))
 | _,_=>.bad
def m5:Op2:=λ_ x y=>match y with
 | .non=>.ok (.bl (!LF x))
 | _=>.bad
theorem De{K ca θ F}(r:Rep K ca θ F x v):decide (v=.non)=LF x:=by
 cases x with
 | non=>rw[gN.mp r];rfl
 | bl b=>rw[cO.mp r];rfl
 | int b=>rw[bO.mp r];rfl
 | str b=>rw[df.mp r];rfl
 | lst ds=>unfold Rep at r;obtain⟨a,xs,rfl,_⟩:=r;rfl
 | tup ds=>unfold Rep at r;obtain⟨a,xs,rfl,_⟩:=r;rfl
 | ptr k=>unfold Rep at r;obtain⟨a,rfl,_⟩:=r;rfl
 | obj c ns ds=>unfold Rep at r;obtain⟨a,dx,xs,rfl,_⟩:=r;rfl
 | exn c=>unfold Rep at r;obtain⟨a,rfl,_⟩:=r;rfl
theorem NC:OpR X (compareOp .Is) (λx y H Q=>∃a b,x=.bl a/\y=.bl b/\Q (.bl (a == b)) H):=by intro pins s σ H x y v u Q I J U h;obtain⟨a,b,rfl,rfl,q⟩:=h;cases J;cases U;exact is_bool (cL I q rfl)
def NS:R2:=λx y H Q=>(∃a b,x=.bl a/\y=.bl b/\Q (.bl (a == b)) H)\/(y=.non/\Q (.bl (decide (x=.non))) H)
theorem Qo:OpR X (compareOp .Is) NS:=NC.or OL
theorem GA:OpR X (compareOp .IsNot) (λx y H Q=>y=.non/\Q (.bl (!decide (x=.non))) H):=M7
theorem Po:gQ C NS isD:=by intro σ H F θ s x y v w Q b J U p;unfold isD at p;split at p;rename_i a c;exact .inl #[a,c,cO.mp J,cO.mp U,dH p b (cO.mpr rfl)];exact .inr #[gN.mp U,dH p b (cO.mpr (by rw[De J]))];exact sn p
theorem DT:gQ C (λx y H Q=>y=.non/\Q (.bl (!decide (x=.non))) H) m5:=by intro σ H F θ s x y v w Q b J U p;unfold m5 at p;split at p;exact#[gN.mp U,dH p b (cO.mpr (by rw[De J]))];exact sn p
theorem JB:OpR X (compareOp .LtE) (λx y H Q=>∃i j,x=.str i/\y=.str j/\Q (.bl (!decide (j.cps.toList<i.cps.toList))) H):=by intro pins s σ H x y v u Q I J U h;obtain⟨i,j,rfl,rfl,q⟩:=h;obtain⟨t,rfl⟩:=J;obtain⟨t',rfl⟩:=U;exact PySem.P.le_str (cL I q rfl)
def uf:Op2:=λ_ x y=>match x,y with
 | .str i,.str j=>.ok (.bl (!decide (j.cps.toList<i.cps.toList)))
 | _,_=>.bad
theorem ID:gQ C (λx y H Q=>∃i j,x=.str i/\y=.str j/\Q (.bl (!decide (j.cps.toList<i.cps.toList))) H) uf:=by intro σ H F θ s x y v w Q b J U p;unfold uf at p;split at p;rename_i i j;exact#[i,j,df.mp J,df.mp U,dH p b (cO.mpr rfl)];exact sn p
def vj(f g:Op2)(a b c:EM):EM:=λs=>(a s).bind λx=>(b x.2).bind λy=>(f y.2.o x.1 y.1).bind λz=>match z with
 | .bl qc=>(c y.2).bind λw=>(g w.2.o y.1 w.1).bind λd=>.ok (d,w.2)
 | .bl wh=>.ok (.bl wh,y.2)
 | _=>.bad
theorem Kd{r r':R2}{f g:Op2}{ta tb tc:TE}{ma mb mc:EM}(hf:gQ C r f)(hg:gQ C r' g)(ha:RdE C ta ma)(hb:RdE C tb mb)(hc:RdE C tc mc):RdE C (Jo r r' ta tb tc) (vj f g ma mb mc):=by
 intro σ H F θ s Q b p;refine ha σ H F θ s _ b (PoR.bind p ?_);rintro ⟨x,s1⟩ H1 F1 θ1 _ a0 p1 b1 v r1;refine hb σ H1 F1 θ1 s1 _ b1 (PoR.bind p1 ?_);rintro ⟨y,s2⟩ H2 F2 θ2 _ U p2 b2 w r2;dsimp only at p2;refine hf σ H2 F2 θ2 s2 x y v w _ b2 (r1.mono U.ff U.pre) r2 ?_;cases e:f s2.o x y with
 | bad=>rw[e] at p2;exact p2
 | exc a1 a2 a3=>rw[e] at p2;exact p2
 | ok z=>
  rw[e,aj] at p2;rw[aj];intro H3 F3 ab J b3 u r3;cases z <;> first | exact sn p2 | skip
  rename_i k;refine#[k,cO.mp r3, ?_];cases k with
  | false=>exact vX (PoR.after J p2 _ _ _ .refl b3 _ (cO.mpr rfl))
  | true=>
   refine uY (hc σ H3 F3 ab s2 _ b3 (PoR.bind (PoR.after J p2) ?_));rintro ⟨q,s4⟩ H4 F4 ac _ Y p4 b4 w' r4;exact hg σ H4 F4 ac s4 y q w w' Q b4 ((r2.mono J.ff J.pre).mono Y.ff Y.pre) r4 p4
def orD:Op2:=intD λi j=>.ok (.int (Builtin.bitOr i j))
theorem Iu:gQ C (rI0 λi j=>.int (Builtin.bitOr i j)) orD:=ve λ_ _ _ _ _ _=>bO.mpr rfl
def CT(mo me:EM):EM:=λs=>(mo s).bind λx=>match kG x.2.o x.1 with
 | some _=>(me x.2).bind λy=>match y.1,kG y.2.o x.1 with
  | .int i,pc (k,ds)=>if -(2^63)<=i/\i<2^63 then (match seqIndex? i ds.length with
   | some j=>match ds[j]? with
    | some d=>.ok (d,#[y.2.r,y.2.o.set k (.lst (ds.eraseIdx j))])
    | none=>.bad
   | none=>.bad) else .bad
  | _,_=>.bad
 | none=>.bad
theorem aJ.erase{K:sH}{ca:Nat->qh}{θ:List qh}{F:Hp}:∀{ds:List D} {xs:List V} (i:Nat),aJ K ca θ F ds xs->aJ K ca θ F (ds.eraseIdx i) (xs.eraseIdx i)
 | [],_,_,k=>by unfold aJ at k;rw[k];exact aJ.nil
 | _::_,_,0,k=>by unfold aJ at k;obtain⟨v,r,rfl,h1,h2⟩:=k;exact h2
 | _::_,_,i+1,k=>by unfold aJ at k;obtain⟨v,r,rfl,h1,h2⟩:=k;exact aJ.cons h1 (aJ.erase i h2)
theorem Oo(ho:RdE C to mo)(he:RdE C te me):RdE C (tBM C.K "list" Ji to (mW te qd)) (CT mo me):=by intro σ H F θ s Q b p;refine ho σ H F θ s _ b (PoR.bind p ?_);rintro ⟨x,s1⟩ H1 F1 θ1 _ a0 p1 Y v r1;dsimp only at p1 Y r1;split at p1;rename_i kd e;obtain⟨rfl,e'⟩:=qy (k:=kd.1) (ds:=kd.2) e;obtain⟨a,xs,rfl,hk,_,h1,_⟩:=nk Y r1 e';refine#[.inl #[rfl,xs,SqL.of h1],he σ H1 F1 θ1 s1 _ Y (PoR.bind p1 ?_)];rintro ⟨y,s2⟩ H2 F2 θ2 _ U p2 b2 w r2;dsimp only at p2 b2 r2;split at p2;rename_i i k ds e2 _;obtain⟨ek,e2⟩:=qy e2;cases ek;obtain⟨a',ys,ea,al,hF,h2,hr⟩:=nk b2 (r1.mono U.ff U.pre) e2;cases ea;split at p2;rename_i hl;split at p2;rename_i j hj;split at p2;rename_i d hd;obtain⟨u,hu,ru⟩:=hr.get hd;obtain⟨J,b3⟩:=b2.setC al e2 hF (hr.erase j);rw[bO.mp r2];exact#[a,ys,i,j,u,rfl,rfl,h2,hl.1,hl.2,by rw[hr.length];exact hj,hu,p2 _ _ _ J b3 _ (ru.mono J.ff J.pre)];exact sn p2;exact sn p2;exact sn p2;exact sn p2;exact sn p1
def bN(n:Nat)(f:FM)(ma:AM):EM:=λs=>(ma s).bind λx=>if x.1.length=n then (match f x.1 x.2.o with
 | .ok (d,O1)=>.ok (d,#[x.2.r,O1])
 | _=>.bad) else .bad
theorem b8{f:FM}(ha:RdA C ta ma):RdE C (tR (spM C.K C.ca n f) [] E ta) (bN n f ma):=by
 intro σ H F θ s Q b p;refine ha σ H F θ s _ b (PoR.bind p ?_);rintro ⟨x,s1⟩ H1 F1 θ1 _ ab p1 U v Y;dsimp only at p1 U Y ⊢;split at p1;rename_i hp;rw[R1];refine#[F1,θ1,x,s1.o,U.now,Y,hp, ?_];split at p1;rename_i d O1 e;rw[e];intro v H2 F2 θ2 J n2 rv;exact p1 H2 F2 θ2 J #[n2,U.len,λi d e=>by obtain⟨v,h1,h2⟩:=U.sl i d e;exact#[v,h1,h2.mono J.ff J.pre]] v rv
 exact sn p1;exact sn p1
def Hj(k:Int)(ds:List D):List D:=(u0 k.toNat ds).flatten
def v9(fin:S->List D->Res (D×S))(ma:AM)(mk:EM):EM:=λs=>(ma s).bind λx=>if x.1.length<=16777216 then (mk x.2).bind λy=>match y.1 with
 | .int k=>if (-(2^63)<=k/\k<2^63)/\x.1.length*k.toNat<=16777216 then fin y.2 (Hj k x.1) else .bad
 | _=>.bad
 else .bad
def Qf:S->List D->Res (D×S):=λs ds=>.ok (.lst ds,s)
def oK:S->List D->Res (D×S):=λs ds=>.ok (.ptr s.o.length,#[s.r,s.o++[.lst ds]])
theorem Dy{K ca θ F}{ds:List D}{xs:List V}(r:aJ K ca θ F ds xs):∀k:Nat,aJ K ca θ F (u0 k ds).flatten (u0 k xs).flatten
 | 0=>aJ.nil
 | k+1=>by rw[Rv,Rv,R7,R7];exact r.append (Dy r k)
theorem OR {fin:S->List D->Res (D×S)} {tk:TE} {mk:EM} (ha:RdA C ta ma) (hk:RdE C tk mk)
 (hf:∀σ H F θ s ds xs Q,BS C.K C.ca σ H F θ s->aJ C.K C.ca θ F ds xs->PoE C σ H F θ (fin s ds) Q->∀q,H q=pi->Q (.ref q) (upd H q (.lst xs))):RdE C (tOp Ki (EF ta) tk) (v9 fin ma mk):=by
 intro σ H F θ s Q b p;refine ha σ H F θ s _ b (PoR.bind p ?_);rintro ⟨x,s1⟩ H1 F1 θ1 _ al p1 b1 v U;dsimp only at p1;split at p1;rename_i hl;refine#[by rw[U.length];exact hl,λq hq=> ?_];obtain⟨st,b2,sF,e⟩:=b1.newF hq (.lst v);refine hk σ _ _ _ s1 _ b2 (PoR.bind (PoR.after st p1) ?_);rintro ⟨y,s2⟩ H2 F2 θ2 _ J p2 Y w r2;dsimp only at p2 r2;split at p2;rename_i k _;split at p2;rename_i hk;rw[bO.mp r2];refine#[q,k,v,rfl,rfl,Y.now.fh _ _ (J.ff _ _ e),hk.1.1,hk.1.2,by rw[U.length];exact hk.2, ?_];exact hf σ H2 F2 θ2 s2 _ _ Q Y (Dy (((U.mono sF #[[],by simp]).mono J.ff J.pre)) k.toNat) p2;exact sn p2;exact sn p2;exact sn p1
theorem Ap{tk:TE}{mk:EM}(ha:RdA C ta ma)(hk:RdE C tk mk):RdE C (tOp Ki (EF ta) tk) (v9 oK ma mk):=OR ha hk λσ H F θ s ds xs Q b r p=>uV p b r
def vD(m:EM):TM:=λs=>(m s).bind λx=>match lsD x.2.o x.1 with
 | some ds=>.ok (!ds.isEmpty,x.2)
 | none=>.bad
theorem JL(h:RdE C t m):RdT C (λσ H Q=>t σ H λx H'=>∃k,JM C.K x H' k/\Q k H') (vD m):=by
 intro σ H F θ s Q b p;refine h σ H F θ s _ b (PoR.bind p ?_);rintro ⟨x,s1⟩ H1 F1 θ1 _ Y p1 J v U;dsimp only at p1 J U;split at p1
 ·rename_i ds e;obtain⟨a,xs,rfl,hs,hr⟩:=fC J U e;refine#[!ds.isEmpty, ?_,p1 _ _ _ .refl J];refine r0 #[xs,hs, ?_];have:=hr.length;cases ds <;> cases xs <;> first | rfl | (simp at this)
 exact sn p1
end
section
variable {C : Ct}
end
section
variable {C : Ct}
def GV(m:EM):EM:=λs=>(m s).bind λx=>match kG x.2.o x.1 with
 | some (k,ds)=>.ok (.lst ds,#[x.2.r,x.2.o.set k .dead])
 | none=>.ok x
theorem Nc:GV m s=(m s).bind λx=>match kG x.2.o x.1 with
 | some (k,ds)=>.ok (.lst ds,#[x.2.r,x.2.o.set k .dead])
 | none=>.ok x:=rfl
theorem Nx(h:RdE C t m):RdE C t (GV m):=by intro σ H F θ s Q b p;refine h σ H F θ s _ b (PoR.bind p ?_);rintro ⟨x,s1⟩ H1 F1 θ1 _ ab p1 J v U;dsimp only at p1 J U;split at p1;rename_i k ds e;obtain⟨rfl,e'⟩:=qy e;obtain⟨a,xs,rfl,hk,hF,h1,h2⟩:=nk J U e';obtain⟨Y,b2,r2⟩:=J.frz hk e' hF h1 h2;exact p1 _ _ _ Y b2 _ r2;exact p1 _ _ _ .refl J _ U
end
section
variable {C : Ct}
def slS(me:EM)(ml mh:OM):EM:=λs=>(me s).bind λx=>(ml x.2).bind λl=>(mh l.2).bind λh=>match x.1 with
 | .str z=>if z.length<=16777216 then .ok (.str (lG z l.1 h.1),h.2) else .bad
 | _=>.bad
theorem Eh(U:RdE C te me)(Y:RdO C tl ml)(hh:RdO C th mh):RdE C (tSl L9 te tl th) (slS me ml mh):=by intro σ H F θ s Q b p;refine U σ H F θ s _ b (PoR.bind p ?_);rintro ⟨x,s1⟩ H1 F1 θ1 _ ac p1 b1 v r1;refine Y σ H1 F1 θ1 s1 _ b1 (PoR.bind p1 ?_);rintro ⟨l,s2⟩ H2 F2 θ2 _ ap p2 b2;refine hh σ H2 F2 θ2 s2 _ b2 (PoR.bind p2 ?_);rintro ⟨h,s3⟩ H3 F3 az _ a0 J b3;dsimp only at J ⊢;split at J;rename_i z _;split at J;rename_i hz;exact#[z,df.mp r1,by rw[SO];exact hz,J _ _ _ .refl b3 _ (df.mpr rfl)];exact sn J;exact sn J
theorem OS:slS me ml mh s=(me s).bind λx=>(ml x.2).bind λl=>(mh l.2).bind λh=>match x.1 with
 | .str z=>if z.length<=16777216 then .ok (.str (lG z l.1 h.1),h.2) else .bad
 | _=>.bad:=rfl
end
section
variable {C : Ct}
def m4:List D->Option (List Str)
 | []=>pc []
 | .str z::r=>match m4 r with
  | some zs=>pc (z::zs)
  | none=>pi
 | _=>pi
theorem vv:∀{ds:List D} {zs:List Str},m4 ds=pc zs->ds=zs.map D.str
 | [],zs,h=>by cases h;rfl
 | d::ds,zs,h=>by
  cases d <;> first | (simp[m4] at h;done) | skip
  rename_i z;unfold m4 at h;cases e:m4 ds with
  | none=>rw[e] at h;cases h
  | some ys=>
   rw[e] at h;cases h;rw[vv e];rfl
theorem mU:∀zs:List Str,m4 (zs.map D.str)=pc zs
 | []=>rfl
 | z::zs=>by rw[ww];unfold m4;rw[mU zs]
def inB(O:aC)(x y:D):Option Bool:=match x with
 | .str a=>match lsD O y with
  | some ds=>match m4 ds with
   | some zs=>pc (zs.any (· == a))
   | none=>pi
  | none=>pi
 | .int a=>match lsD O y with
  | some ds=>match iA ds with
   | some zs=>pc (zs.any (· == a))
   | none=>pi
  | none=>pi
 | _=>pi
def inD:Op2:=λO x y=>match inB O x y with
 | some b=>.ok (.bl b)
 | none=>.bad
def mK:Op2:=λO x y=>match inB O x y with
 | some b=>.ok (.bl (!b))
 | none=>.bad
theorem Ck{K:sH}{ca:Nat->qh}{θ:List qh}{F:Hp}:∀{zs:List Str} {xs:List V},aJ K ca θ F (zs.map D.str) xs->xs=zs.map V.str
 | [],xs,h=>by unfold aJ at h;exact h
 | z::zs,xs,h=>by rw[ww] at h;unfold aJ at h;obtain⟨v,r,rfl,h1,h2⟩:=h;rw[df.mp h1,Ck h2];rfl
theorem tu{K:sH}{ca:Nat->qh}{θ:List qh}{F:Hp}:∀{zs:List Int} {xs:List V},aJ K ca θ F (zs.map D.int) xs->xs=zs.map V.int
 | [],xs,h=>by unfold aJ at h;exact h
 | z::zs,xs,h=>by rw[ww] at h;unfold aJ at h;obtain⟨v,r,rfl,h1,h2⟩:=h;rw[bO.mp h1,tu h2];rfl
theorem yK:∀{ds:List D} {zs:List Int},iA ds=pc zs->ds=zs.map D.int
 | [],zs,h=>by unfold iA at h;cases h;rfl
 | d::ds,zs,h=>by
  cases d <;> first | (simp[iA] at h;done) | skip
  rename_i z;unfold iA at h;cases e:iA ds with
  | none=>rw[e] at h;cases h
  | some ys=>
   rw[e] at h;cases h;rw[yK e];rfl
theorem FZ{v w:V}{q:Bool}(b:BS C.K C.ca σ H F θ s)(J:Rep C.K C.ca θ F x v)(U:Rep C.K C.ca θ F y w)(e:inB s.o x y=pc q):
 ∃p xs,w=.ref p/\SqL C.K H p xs/\nY v=qc/\xs.all nY=qc/\inV v xs=q:=by
 unfold inB at e;split at e;rename_i a;split at e;rename_i ds e1;split at e;rename_i zs e2;cases e;obtain⟨p,xs,rfl,hs,hr⟩:=fC b U e1;rw[vv e2] at hr;have hx:=Ck hr;subst hx;rw[df.mp J];refine#[p,_,rfl,hs,rfl, ?_, ?_];rw[TH,SD];intro z _;rfl;unfold inV;rw[Uy];rfl;cases e;cases e;rename_i a;split at e;rename_i ds e1;split at e;rename_i zs e2;cases e;obtain⟨p,xs,rfl,hs,hr⟩:=fC b U e1;rw[yK e2] at hr;have hx:=tu hr;subst hx;rw[bO.mp J];refine#[p,_,rfl,hs,rfl, ?_, ?_];rw[TH,SD];intro z _;rfl;unfold inV;rw[Uy];rfl;cases e;cases e;cases e
theorem L7:gQ C (rIn C.K wh) inD:=by intro σ H F θ s x y v w Q b J U p;unfold inD at p;split at p;rename_i q e;obtain⟨a,xs,rfl,h1,h2,Y,h4⟩:=FZ b J U e;exact#[a,xs,rfl,.inl h1,h2,Y,dH p b (cO.mpr (by rw[if_neg ∅,h4]))];exact sn p
theorem yn:gQ C (rIn C.K qc) mK:=by intro σ H F θ s x y v w Q b J U p;unfold mK at p;split at p;rename_i q e;obtain⟨a,xs,rfl,h1,h2,Y,h4⟩:=FZ b J U e;exact#[a,xs,rfl,.inl h1,h2,Y,dH p b (cO.mpr (by rw[if_pos rfl,h4]))];exact sn p
def rg(f:Str):List Str->List D->Option D
 | n::ns,d::ds=>if n=f then pc d else rg f ns ds
 | _,_=>pi
theorem DQ{K:sH}{ca:Nat->qh}{θ:List qh}{F:Hp}{f:Str}:∀{ns:List Str} {ds:List D} {xs:List V} {d:D},aJ K ca θ F ds xs->rg f ns ds=pc d->∃v,(ns.zip xs).lookup f=pc v/\Rep K ca θ F d v
 | [],_,_,_,_,e=>by simp[rg] at e
 | _::_,[],_,_,_,e=>by simp[rg] at e
 | n::ns,d::ds,xs,d',h,e=>by unfold aJ at h;obtain⟨v,r,rfl,h1,h2⟩:=h;unfold rg at e;rw[T7,RD];by_cases hn:n=f;rw[if_pos hn] at e;cases e;subst hn;exact#[v,by simp,h1];rw[if_neg hn] at e;obtain⟨u,e1,e2⟩:=DQ h2 e;refine#[u, ?_,e2];rw[show (f == n)=wh by simpa using λz=>hn z.symm];exact e1
def oC(c:Nat)(f:Str)(me:EM):EM:=λs=>(me s).bind λx=>match x.1 with
 | .obj J ns ds=>if J=c then (match rg f ns ds with
  | some d=>.ok (d,x.2)
  | none=>.bad) else .bad
 | _=>.bad
theorem zV{ta:TE}(hc:Cls C.K (C.ca c))(hn:fD C.K (C.ca c) f)(h:RdE C ta me):RdE C (Oh C.K ta f) (oC c f me):=by intro σ H F θ s Q b p;refine h σ H F θ s _ b (PoR.bind p ?_);rintro ⟨x,s1⟩ H1 F1 θ1 _ ab p1 J v U;dsimp only at p1 J U;split at p1;rename_i c' ns ds _;split at p1;rename_i Y;subst Y;split at p1;rename_i d e;unfold Rep at U;obtain⟨a,dx,xs,rfl,ha,hl,hr⟩:=U;obtain⟨u,e1,e2⟩:=DQ hr e;exact#[a,_,dx,_,u,rfl,J.now.fh _ _ ha,hc,hn,e1,p1 _ _ _ .refl J _ e2];exact sn p1;exact sn p1;exact sn p1
theorem Gv:oC c f me s=(me s).bind λx=>match x.1 with
 | .obj J ns ds=>if J=c then (match rg f ns ds with
  | some d=>.ok (d,x.2)
  | none=>.bad) else .bad
 | _=>.bad:=rfl
theorem lookup_none{f:Str}:∀{ns:List Str} {xs:List V},f∉ns->(ns.zip xs).lookup f=pi
 | [],_,_=>rfl
 | _::_,[],_=>rfl
 | n::ns,x::xs,h=>by rw[T7,RD,show (f == n)=wh by simpa using λz=>h (by simp[z])];exact lookup_none λz=>h (by simp[z])
theorem DX{f:Str}{y:V}:∀{ns:List Str} {xs:List V},ns.length=xs.length->f∉ns->jI f y (ns.zip xs)=(ns++[f]).zip (xs++[y])
 | [],[],_,_=>rfl
 | n::ns,x::xs,hl,h=>by rw[T7];unfold jI;rw[if_neg (λz=>h (by simp[z])),DX (by simpa using hl) λz=>h (by simp[z])];rfl
theorem BS.setI(b:BS K ca σ H F θ s){a dx:qh}{c:Cell}{cl:Nat}(hk:θ[k]? =pc a)(hc:s.o[k]? =pc c)(hF:F a=pi)(hl:ns.length=xs.length)(hr:aJ K ca θ F ds xs):
 Stp H F θ (upd H a (.ins (ca cl) dx (ns.zip xs))) F θ/\BS K ca σ (upd H a (.ins (ca cl) dx (ns.zip xs))) F θ #[s.r,s.o.set k (.ins cl ns ds)]:=by
 have hm:a∈θ:=IR hk;refine#[#[ck.refl _,#[[],by simp,by simp],λe o J hb=> ?_,λe o J=> ?_,λe o J=>.inl J],#[#[λe o J=> ?_,b.now.nd,by simpa using b.now.ln,λj a' c' e1 e2=> ?_],b.len,b.sl]];have ne:e≠a:=λz=>hb (by rw[z];exact hm);rw[aZ ne];exact J;by_cases z:e=a;subst z;exact#[_,cQ];exact#[o,by rw[aZ z];exact J];have ne:e≠a:=λz=>by rw[z,hF] at J;cases J
 rw[aZ ne];exact b.now.fh _ _ J;by_cases U:k=j;subst U;rw[hk] at e1;cases e1;have:k<s.o.length:=(xb.mp hc).1;rw[Rp this] at e2;cases e2;exact#[hF,dx,xs,cQ,hl,hr];rw[Ru U] at e2;have q:=b.now.ce j a' c' e1 e2;have ne:a'≠a:=λz=>by subst z;exact U (tE b.now.nd hk e1)
 cases c' with
 | dead=>obtain⟨o,ho⟩:=q;exact#[o,by rw[aZ ne];exact ho]
 | lst ds=>obtain⟨q1,ys,q2,Y⟩:=q;exact#[q1,ys,by rw[aZ ne];exact q2,Y]
 | ins c ns ds=>obtain⟨q1,dx,ys,q2,Y⟩:=q;exact#[q1,dx,ys,by rw[aZ ne];exact q2,Y]
def um(c:Nat)(f:Str)(mo mv:EM):SM:=λs=>(mv s).out λy=>(mo y.2).out λx=>match x.1 with
 | .ptr k=>match x.2.o[k]? with
  | some (.ins c' ns ds)=>if c'=c/\f∉ns/\ns.length<1000 then .next #[x.2.r,x.2.o.set k (.ins c (ns++[f]) (ds++[y.1]))] else .bad
  | _=>.bad
 | _=>.bad
theorem KY{mo mv:EM}:um c f mo mv s=(mv s).out λy=>(mo y.2).out λx=>match x.1 with
 | .ptr k=>match x.2.o[k]? with
  | some (.ins c' ns ds)=>if c'=c/\f∉ns/\ns.length<1000 then .next #[x.2.r,x.2.o.set k (.ins c (ns++[f]) (ds++[y.1]))] else .bad
  | _=>.bad
 | _=>.bad:=rfl
end
section
variable {C : Ct}
theorem AQ{ta tv:TE}{mo mv:EM}(hc:Cls C.K (C.ca c))(hn:fD C.K (C.ca c) f)(ho:RdE C ta mo)(hv:RdE C tv mv):RdS C (NP C.K ta tv f) (um c f mo mv):=by
 intro σ H F θ s Q b p;unfold um at p;refine hv σ H F θ s _ b (PoS.out p ?_);rintro ⟨y,s1⟩ H1 F1 θ1 _ az p1 b1 v r1;dsimp only at p1 b1 r1;refine ho σ H1 F1 θ1 s1 _ b1 (PoS.out p1 ?_);rintro ⟨x,s2⟩ H2 F2 θ2 _ J p2 Y w r2;dsimp only at p2 Y r2;split at p2;rename_i k _;split at p2;rename_i c' ns ds e;split at p2;rename_i hh;obtain⟨rfl,hf,hl⟩:=hh;unfold Rep at r2;obtain⟨a,rfl,hk⟩:=r2;obtain⟨h0,dx,xs,h1,h2,h3⟩:ki C.K C.ca H2 F2 θ2 a (.ins c' ns ds):=Y.now.ce k a _ hk e;have U:(ns++[f]).length=(xs++[v]).length:=by simp[h2]
 obtain⟨ac,b3⟩:=Y.setI (dx:=dx) (cl:=c') (ns:=ns++[f]) hk e h0 U (h3.append (aJ.one (r1.mono J.ff J.pre)));refine#[a,_,dx,_,rfl,h1,hc,hn, ?_, ?_];rw[RA];omega;rw[DX h2 hf];exact p2 σ _ _ _ ac b3;exact sn p2;exact sn p2;exact sn p2
def zD(c n:Nat)(f:FM)(ma:AM):EM:=λs=>(ma s).bind λx=>if aR x.1=qc/\x.1.length=n then (match f (.ptr 0::x.1) [.ins c [] []] with
 | .ok (.non,.ins c' ns ds::_)=>if c'=c/\aR ds=qc then .ok (.obj c ns ds,x.2) else .bad
 | _=>.bad) else .bad
theorem Now.dies{x:qh}{r:List qh}(n:Now K ca H F (x::r) (.ins c ns ds::O)):
 ∃dx xs,H x=pc (.ins (ca c) dx (ns.zip xs))/\ns.length=xs.length/\aJ K ca (x::r) F ds xs/\F x=pi/\ck F (upd F x (.ins (ca c) dx (ns.zip xs)))/\Now K ca H (upd F x (.ins (ca c) dx (ns.zip xs))) (x::r) (.dead::O):=by
 obtain⟨h0,dx,xs,h1,h2,h3⟩:ki K ca H F (x::r) x (.ins c ns ds):=n.ce 0 x _ rfl rfl;have Y:ck F (upd F x (.ins (ca c) dx (ns.zip xs))):=λe o J=>by rw[aZ (λz=>by rw[z,h0] at J;cases J)];exact J
 refine#[dx,xs,h1,h2,h3,h0,Y,#[λe o J=> ?_,n.nd,n.ln,λj U c' e1 e2=> ?_]];by_cases z:e=x;subst z;rw[cQ] at J;rw[h1];exact J;rw[aZ z] at J;exact n.fh _ _ J;cases j with
 | zero=>
  cases e1;cases e2;exact#[_,h1]
 | succ j=>
  have q:=n.ce (j+1) U c' e1 e2;have ne:U≠x:=λz=>by subst z;have:=tE n.nd (show (U::r)[0]? =pc U from rfl) e1;omega
  cases c' with
  | dead=>exact q
  | lst ds=>obtain⟨q1,ys,q2,q3⟩:=q;exact#[by rw[aZ ne];exact q1,ys,q2,q3.mono Y #[[],by simp]]
  | ins c ns ds=>obtain⟨q1,dx,ys,q2,q3,q4⟩:=q;exact#[by rw[aZ ne];exact q1,dx,ys,q2,q3,q4.mono Y #[[],by simp]]
theorem MY{f:FM}(ha:RdA C ta ma):RdE C (L5 (C.ca c) (spM C.K C.ca (n+1) f) [] E ta) (zD c n f ma):=by
 intro σ H F θ s Q b p;refine ha σ H F θ s _ b (PoR.bind p ?_);rintro ⟨x,s1⟩ H1 F1 θ1 _ a3 p1 Y v r1;dsimp only at p1 Y r1 ⊢;split at p1;rename_i hp;split at p1;rename_i c' ns ds O1 e;split at p1;rename_i hh;obtain⟨rfl,am⟩:=hh;intro y dx hy an a5;have nx:∀a u,H1 a=pc u->a≠y:=λa u e z=>by rw[z,hy] at e;cases e
 have nd:∀a u,H1 a=pc u->a≠dx:=λa u e z=>by rw[z,an] at e;cases e
 have Fy:F1 y=none:=by
  cases eF:F1 y with
  | none=>rfl
  | some u=>rw[Y.now.fh y u eF] at hy;cases hy
 have up:∀a u,H1 a=pc u->upd (upd H1 dx (.own y)) y (.ins (C.ca c') dx []) a=pc u:=λa u e=>by rw[aZ (nx a u e),aZ (nd a u e)];exact e
 have dn:∀a,upd (upd H1 dx (.own y)) y (.ins (C.ca c') dx []) a=pi->H1 a=none:=λa z=>by
  cases e:H1 a with
  | none=>rfl
  | some u=>rw[up a u e] at z;cases z
 rw[R1];refine#[F1,[y],.ptr 0::x,[.ins c' [] []],#[λa u e=>up a u (Y.now.fh a u e),by simp,rfl,λk a cc e1 e2=> ?_],aJ.cons (by unfold Rep;exact#[y,rfl,rfl]) (r1.pure hp.1),by simp[hp.2], ?_];cases k with
 | zero=>
  cases e1;cases e2;exact#[Fy,dx,[],cQ,rfl,aJ.nil]
 | succ k=>simp at e1
 rw[e];intro w H2 F2 θ2 J n2 ap;refine#[gN.mp ap, ?_];obtain⟨r,rfl,hr⟩:=J.th;obtain⟨U,xs,g1,g2,g3,g4,sF,n3⟩:=Now.dies n2;have as:Stp H1 F1 [] H2 (upd F2 y (.ins (C.ca c') U (ns.zip xs))) (y::r):=by
  refine#[J.ff.trans sF,#[y::r,rfl,λa ha=> ?_],λa o h _=> ?_,λa o h=>J.al a o (up a o h),λa o h=> ?_];rcases u8.mp ha with rfl | z
  exact hy;exact dn a (hr a z);exact J.kp a o (up a o h) (by simpa using nx a o h);by_cases z:a=y;subst z;exact .inr (.inl hy);rw[aZ z] at h;rcases J.nf a o h with q | q | q
  exact .inl q;exact .inr (.inl (dn a q));exact absurd (by simpa using q) z
 obtain⟨az,b4⟩:=Y.called as n3;refine p1 H2 _ θ1 az b4 (.ref y) ?_;unfold Rep;exact#[y,U,xs,rfl,cQ,g2,aJ.mono (θ:=θ1) sF #[[],by simp] (aJ.pure am g3)];exact sn p1;exact sn p1;exact sn p1
theorem KG{f:FM}{s s':S}{args ds:List D}(h:ma s=.ok (args,s'))(hp:aR args=qc)(J:args.length=n)(U:f (.ptr 0::args) [.ins c [] []]=.ok (.non,.ins c ns ds::O))(hd:aR ds=qc):zD c n f ma s=.ok (.obj c ns ds,s'):=by unfold zD;rw[h,aj];dsimp only;rw[if_pos #[hp,J],U];dsimp only;rw[if_pos #[rfl,hd]]
def methP(c:Nat)(m:Str)(n:Nat)(f:FM)(mo:EM)(ma:AM):EM:=λs=>(mo s).bind λx=>match x.1 with
 | .obj J ns ds=>if J=c/\m∉ns/\aR ds=qc then (ma x.2).bind λy=>if aR y.1=qc/\y.1.length=n then (match f (x.1::y.1) [] with
  | .ok (d,_)=>if cW d=qc then .ok (d,y.2) else .bad
  | _=>.bad) else .bad else .bad
 | _=>.bad
theorem iK{m:Str}{f:FM}(ho:RdE C to mo)(ha:RdA C ta ma):RdE C (Ho (C.ca c) m (spM C.K C.ca (n+1) f) [] E to ta) (methP c m n f mo ma):=by
 intro σ H F θ s Q b p;refine ho σ H F θ s _ b (PoR.bind p ?_);rintro ⟨x,s1⟩ H1 F1 θ1 _ az p1 Y v U;dsimp only at p1 Y U ⊢;split at p1;rename_i c' ns ds _;split at p1;rename_i hh;obtain⟨rfl,hm,ab⟩:=hh;obtain⟨a,dx,xs,rfl,h1,h2,h3⟩:∃a dx xs,v=.ref a/\F1 a=pc (.ins (C.ca c') dx (ns.zip xs))/\ns.length=xs.length/\aJ C.K C.ca θ1 F1 ds xs:=by unfold Rep at U;exact U
 refine#[a,dx,_,rfl,Y.now.fh _ _ h1,lookup_none hm,ha σ H1 F1 θ1 s1 _ Y (PoR.bind p1 ?_)];rintro ⟨y,s2⟩ H2 F2 θ2 _ J p2 b2 w r2;dsimp only at p2 b2 r2 ⊢;split at p2;rename_i hp;rw[R1];refine#[F2,[],.obj c' ns ds::y,[],Now.nil b2.now.fh,aJ.cons ((U.mono J.ff J.pre).pure (by unfold cW;exact ab)) (r2.pure hp.1),by simp[hp.2], ?_];split at p2;rename_i d O1 e;rw[e];intro v H3 F3 a4 al n3 rv;obtain⟨am,b4⟩:=b2.called al n3;split at p2;rename_i hd;exact p2 H3 F3 _ am b4 v (rv.pure hd);exact sn p2;exact sn p2;exact sn p2;exact sn p1;exact sn p1
theorem tH{m:Str}{f:FM}{s s1 s2:S}{ds args:List D}(J:mo s=.ok (.obj c ns ds,s1))(hm:m∉ns)(hd:aR ds=qc)(ha:ma s1=.ok (args,s2))(hp:aR args=qc)(U:args.length=n)(Y:f (.obj c ns ds::args) []=.ok (d,O))(hr:cW d=qc):
 methP c m n f mo ma s=.ok (d,s2):=by
 unfold methP;rw[J,aj];dsimp only;rw[if_pos #[rfl,hm,hd],ha,aj];dsimp only;rw[if_pos #[hp,U],Y];dsimp only;rw[if_pos hr]
def MethAt(P:B3)(w:Ch)(K:sH)(mg:Str->Option qb)(base:FS)(ca:Nat->qh)(J:Nat)(C:qh)(x:Str)(ps:List Str)(f:FM):Prop:=
 ∃a fd,kI P w K mg base (CXE P w) J a fd ps (spM K ca ps.length f)/\Meth K C x a/\Binds K fd ps []
def OI(P:B3)(w:Ch)(K:sH)(mg:Str->Option qb)(base:FS)(ca:Nat->qh)(J:Nat)(C:qh)(x:Str)(ps:List Str)(f:FM):Prop:=
 ∃a fd,kI P w K mg base (CXE P w) J a fd ps (spM K ca ps.length f)/\Mk K C a/\mg x=pc (.ref C)/\Binds K fd ps []
end
section
variable {K : sH} {ca : Nat → qh} {θ : List qh} {F G : Hp}
end
open Classical in
noncomputable def Rg (F H:Hp)(θ:List qh):Hp:=λa=>if a∈θ then (match H a with
 | some (.lst xs)=>pc (.lst xs)
 | _=>F a) else F a
section
variable {C : Ct}
end
def clsAt(K:sH)(x:Str):Addr:=match JA K mainGlobals x with
 | some (pc (.ref C))=>C
 | _=>0
section
variable {C : Ct}
def uo:OpN:=λ_ xs=>match xs with
 | [.int i,.int j]=>.ok (.int (if j>i then j else i))
 | _=>.bad
theorem FE:kT C (λxs H Q=>∃i j,xs=[.int i,.int j]/\Q (.int (if j>i then j else i)) H) uo:=by intro σ H F θ s xs vs Q b r p;unfold uo at p;split at p;rename_i i j;exact#[i,j,zQ r,dH p b (bO.mpr rfl)];exact sn p
end
section
variable {C : Ct} {Es : L2.St → XK}
end
theorem lj{P:B3}{w:Ch}:Passes (CXE P w) X E0:=λ_ _ _ _ _ _ _ #[_,_,_,_,_,_,_,_,_,z]=>z.elim
section
variable {C : Ct}
end
def wO:D->Bool
 | .non=>qc | .bl _=>qc | .int _=>qc | .str _=>qc | .ptr _=>qc | _=>wh
def CM:Cell->Bool
 | .dead=>qc
 | .lst ds=>ds.all wO
 | _=>wh
theorem DR{F G:Hp}(h:wO d=qc)(r:Rep K ca θ1 F d v):Rep K ca (θ++θ1) G (shD θ.length d) v:=by
 cases d with
 | non=>unfold shD;unfold Rep at r ⊢;exact r
 | bl b=>unfold shD;unfold Rep at r ⊢;exact r
 | int i=>unfold shD;unfold Rep at r ⊢;exact r
 | str z=>unfold shD;unfold Rep at r ⊢;exact r
 | ptr k=>
  unfold shD;unfold Rep at r ⊢;obtain⟨a,e,hk⟩:=r;exact#[a,e,by rw[wS (Uw _ _),Sb];exact hk]
 | lst ds=>cases h
 | tup ds=>cases h
 | obj c ns ds=>cases h
 | exn c=>cases h
theorem BQ{K:sH}{ca:Nat->qh}{F G:Hp}{θ θ1:List qh}:∀{ds:List D} {xs:List V},ds.all wO=qc->aJ K ca θ1 F ds xs->aJ K ca (θ++θ1) G (fG θ.length ds) xs
 | [],_,_,h=>by unfold fG;unfold aJ at h ⊢;exact h
 | d::ds,_,hf,h=>by rw[Tr,RJ] at hf;unfold fG;unfold aJ at h ⊢;obtain⟨v,r,e,h1,h2⟩:=h;exact#[v,r,e,DR hf.1 h1,BQ hf.2 h2]
section
variable {C : Ct}
def yN(n:Nat)(f:FM)(ma:AM):EM:=λs=>(ma s).bind λx=>if aR (cz x.2.o (cz x.2.o x.1))=qc/\x.1.length=n then (match f (cz x.2.o (cz x.2.o x.1)) [] with
 | .ok (d,O1)=>if wO d=qc/\O1.all CM=qc then .ok (shD x.2.o.length d,#[x.2.r,x.2.o++O1.map (shC x.2.o.length)]) else .bad
 | _=>.bad) else .bad
theorem Lu{f:FM}(ha:RdA C ta ma):RdE C (tR (spM C.K C.ca n f) [] E ta) (yN n f ma):=by
 intro σ H F θ s Q b p;refine ha σ H F θ s _ b (PoR.bind p ?_);rintro ⟨x,s1⟩ H1 F1 θ1 _ a0 p1 J v r1;dsimp only at p1 J r1 ⊢;split at p1;rename_i hp;rw[R1];have rr:aJ C.K C.ca θ1 H1 (cz s1.o (cz s1.o x)) v:=lL J.now J.now.fh (ck.refl _) (lL J.now (ck.refl _) J.now.fh r1);refine#[H1,[],cz s1.o (cz s1.o x),[],Now.nil (ck.refl _),rr.pure hp.1,by rw[kR,kR];exact hp.2, ?_];split at p1;rename_i d O1 e;rw[e];intro v H2 F2 θ2 U n2 rv;split at p1;rename_i sd;have kp:∀a o,H1 a=pc o->H2 a=pc o:=λa o h=>U.kp a o h (by simp);obtain⟨r,er,hr⟩:=U.th;rw[wT] at er;subst er;refine p1 H2 F1 (θ1++θ2) #[ck.refl _,#[θ2,rfl,hr],λa o h _=>kp a o h,U.al,λa o h=>.inl h] #[#[λa o h=>kp a o (J.now.fh a o h),Sa.mpr #[J.now.nd,n2.nd,λa ha x hx=> ?_],by simp[J.now.ln,n2.ln],λk a c e1 e2=> ?_],J.len,λi d e=> ?_] v ?_;rintro rfl;obtain⟨u,hu⟩:=J.now.there ha;rw[hr a hx] at hu;cases hu;by_cases hk:k<θ1.length;rw[wP hk] at e1;dsimp only at e2;rw[wP (by rw[<- J.now.ln];exact hk)] at e2;have w:=J.now.ce k a c e1 e2;cases c with
 | dead=>obtain⟨o,ho⟩:=w;exact#[o,kp a o ho]
 | lst ds=>obtain⟨q1,ys,q2,Y⟩:=w;exact#[q1,ys,kp _ _ q2,Y.mono (ck.refl _) #[θ2,rfl]]
 | ins c ns ds=>obtain⟨q1,dx,ys,q2,Y,q4⟩:=w;exact#[q1,dx,ys,kp _ _ q2,Y,q4.mono (ck.refl _) #[θ2,rfl]]
 rw[wS ⋯] at e1;dsimp only at e2;rw[wS (by rw[<- J.now.ln];omega),wv,<- J.now.ln] at e2;cases e3:O1[k-θ1.length]? with
 | none=>rw[e3] at e2;cases e2
 | some c'=>
  rw[e3] at e2;cases e2;have w:=n2.ce _ a c' e1 e3;have fc:CM c'=true:=(SD.mp sd.2) c' (IR e3);have am:F1 a=none:=by
   cases ea:F1 a with
   | none=>rfl
   | some o=>
    have h1:=J.now.fh a o ea;have h2:=hr a (IR e1);rw[h2] at h1;cases h1
  cases c' with
  | dead=>exact w
  | lst ds=>obtain⟨q1,ys,q2,Y⟩:=w;exact#[am,ys,q2,BQ fc Y]
  | ins c ns ds=>cases fc
 obtain⟨v,h1,h2⟩:=J.sl i d e;exact#[v,h1,h2.mono (ck.refl _) #[θ2,rfl]];rw[<- J.now.ln];exact DR sd.1 rv;exact sn p1;exact sn p1;exact sn p1
end
section
variable {C : Ct}
theorem zU{K:sH}{ca:Nat->qh}{θ:List qh}{F:Hp}:∀{zs:List Str} {xs:List V},aJ K ca θ F (zs.map D.str) xs->xs=zs.map V.str
 | [],xs,h=>by unfold aJ at h;exact h
 | z::zs,xs,h=>by rw[ww] at h;unfold aJ at h;obtain⟨v,r,rfl,h1,h2⟩:=h;rw[df.mp h1,zU h2];rfl
theorem Lb{H H':Hp}(e:ck H H')(h:SqL K H a xs):SqL K H' a xs:=by rcases h with(h | ⟨o,h⟩) | h;exact .inl (.inl (e _ _ h));exact .inl (.inr #[o,e _ _ h]);exact .inr h
end
section
variable {C : Ct}
def Rm(f:Str->Str->Res D)(ms me:EM):EM:=λs=>(ms s).bind λx=>match x.1 with
 | .str z=>(me x.2).bind λy=>match y.1 with
  | .str c=>(f z c).bind λd=>.ok (d,y.2)
  | _=>.bad
 | _=>.bad
def KL(f:List Str->Str->Res D)(mo me:EM):EM:=λs=>(mo s).bind λx=>match x.1 with
 | .lst ds=>match m4 ds with
  | some zs=>(me x.2).bind λy=>match y.1 with
   | .str c=>(f zs c).bind λd=>.ok (d,y.2)
   | _=>.bad
  | none=>.bad
 | _=>.bad
def EI:List Str->Str->Res D:=λzs c=>if zs.idxOf c<zs.length then .ok (.int (zs.idxOf c:Nat)) else .bad
def DM(mo me:EM):EM:=KL EI mo me
theorem Ow {f:List Str->Str->Res D} {r:V->List V->Hp->VK->Prop} (ho:RdE C to mo) (he:RdE C te me)
 (hr:∀{σ:L2.St} {H F:Hp} {θ:List qh} {s:S} {a:qh} {zs:List Str} {c:Str} {Q:VK},BS C.K C.ca σ H F θ s->SqL C.K H a (zs.map V.str)->PoE C σ H F θ ((f zs c).bind λd=>.ok (d,s)) Q->r (.ref a) [.str c] H Q):
 RdE C (tBM C.K "list" r to (mW te qd)) (KL f mo me):=by
 intro σ H F θ s Q b p;refine ho σ H F θ s _ b (PoR.bind p ?_);rintro ⟨x,s1⟩ H1 F1 θ1 _ an p1 U v J;dsimp only at p1 U J;split at p1;rename_i ds _;split at p1;rename_i zs e;rw[vv e] at J;unfold Rep at J;obtain⟨a,xs,rfl,hs,hx⟩:=J;rw[zU hx] at hs;refine#[.inl #[rfl,_,U.now.fh.seq hs],he σ H1 F1 θ1 s1 _ U (PoR.bind p1 ?_)];rintro ⟨y,s2⟩ H2 F2 θ2 _ Y p2 b2 w r2;dsimp only at p2 b2 r2;split at p2;rename_i c _;cases df.mp r2;exact hr b2 (b2.now.fh.seq (Lb Y.ff hs)) p2;exact sn p2;exact sn p1;exact sn p1
theorem J1(J:RdE C to mo)(U:RdE C te me):RdE C (tBM C.K "list" (HG C.K) to (mW te qd)) (DM mo me):=Ow J U λ{σ H F θ s a zs c Q} b hs p=>by unfold EI at p;split at p;rename_i h;exact#[a,zs,c,rfl,rfl,hs,h,dH p b (bO.mpr rfl)];exact sn p
end
section
variable {C : Ct}
def qw:List D->Option (List Int)
 | []=>pc []
 | .int i::r=>match qw r with
  | some l=>pc (i::l)
  | none=>pi
 | _=>pi
theorem BR:∀{ds:List D} {ns:List Int},qw ds=pc ns->ds=ns.map D.int
 | [],ns,h=>by cases h;rfl
 | d::ds,ns,h=>by
  cases d <;> first | (simp[qw] at h;done) | skip
  rename_i i;unfold qw at h;split at h;rename_i l e;cases h;rw[BR e];rfl;cases h
theorem yT:∀ns:List Int,qw (ns.map D.int)=pc ns
 | []=>rfl
 | n::ns=>by rw[ww];unfold qw;rw[yT ns]
def zZ(O:aC)(d:D):Option (List Int):=match lsD O d with
 | some ds=>qw ds
 | none=>pi
theorem HQ{ns:List Int}(b:BS C.K C.ca σ H F θ s)(r:Rep C.K C.ca θ F d v)(e:zZ s.o d=pc ns):∃a,v=.ref a/\SqL C.K H a (ns.map V.int):=by unfold zZ at e;split at e;rename_i ds J;obtain⟨a,xs,rfl,hs,hr⟩:=fC b r J;rw[BR e] at hr;rw[tu hr] at hs;exact#[a,rfl,hs];cases e
def keyed(O:aC):List D->Option (List (D×List Int))
 | []=>pc []
 | d::ds=>match zZ O d,keyed O ds with
  | some ns,pc r=>pc ((d,ns)::r)
  | _,_=>pi
theorem Bf{σ:L2.St}{H F:Hp}{θ:List qh}{s:S}(b:BS C.K C.ca σ H F θ s):∀{ds:List D} {U:List (D×List Int)} {xs:List V},keyed s.o ds=pc U->aJ C.K C.ca θ F ds xs->
 ∃J:List ((qh×D)×List Int),U=J.map (λx=>(x.1.2,x.2))/\xs=J.map (λx=>V.ref x.1.1)/\∀x∈J,SqL C.K H x.1.1 (x.2.map V.int)/\Rep C.K C.ca θ F x.1.2 (.ref x.1.1)
 | [],U,xs,e,r=>by cases e;unfold aJ at r;subst r;exact#[[],rfl,rfl,λx hx=>by cases hx]
 | d::ds,U,xs,e,r=>by
  unfold keyed at e;split at e;rename_i ns k2 e1 e2;cases e;unfold aJ at r;obtain⟨v,Y,rfl,h1,h2⟩:=r;obtain⟨a,rfl,hs⟩:=HQ b h1 e1;obtain⟨J,q1,q2,q3⟩:=Bf b e2 h2;refine#[((a,d),ns)::J,by rw[q1];rfl,by rw[q2];rfl,λx hx=> ?_];rcases u8.mp hx with rfl | hx
  exact#[hs,h1];exact q3 x hx;cases e
theorem FL{K:sH}{ca:Nat->qh}{θ:List qh}{F:Hp}:∀{J:List ((qh×D)×List Int)},(∀x∈J,Rep K ca θ F x.1.2 (.ref x.1.1))->aJ K ca θ F (J.map λx=>x.1.2) (J.map λx=>V.ref x.1.1)
 | [],_=>aJ.nil
 | x::J,h=>aJ.cons (h x uC) (FL λy hy=>h y (tz _ hy))
def wX(fin:S->List D->Res (D×S))(me:EM):EM:=λs=>(me s).bind λx=>match lsD x.2.o x.1 with
 | some ds=>match keyed x.2.o ds with
  | some J=>if J.length<64/\(J.map (·.2)).Nodup then fin x.2 ((d9 J).map (·.1)) else .bad
  | none=>.bad
 | none=>.bad
theorem Ny {fin:S->List D->Res (D×S)} (he:RdE C te me)
 (hf:∀σ H F θ s ds xs Q,BS C.K C.ca σ H F θ s->aJ C.K C.ca θ F ds xs->PoE C σ H F θ (fin s ds) Q->∀q,H q=pi->Q (.ref q) (upd H q (.lst xs))):RdE C (tCB (yo C.K) (mW te qd)) (wX fin me):=by
 intro σ H F θ s Q b p;refine he σ H F θ s _ b (PoR.bind p ?_);rintro ⟨x,s1⟩ H1 F1 θ1 _ am p1 J v U;dsimp only at p1 J U;split at p1;rename_i ds el;split at p1;rename_i kd ek;split at p1;rename_i hc;obtain⟨a,xs,rfl,hs,hr⟩:=fC J U el;obtain⟨Y,rfl,rfl,q3⟩:=Bf J ek hr;have n1:∀l:List ((qh×D)×List Int),d9 (l.map λx=>(x.1.1,x.2))=(d9 l).map λx=>(x.1.1,x.2):=n8 λ_=>rfl;have n2:∀l:List ((qh×D)×List Int),d9 (l.map λx=>(x.1.2,x.2))=(d9 l).map λx=>(x.1.2,x.2):=n8 λ_=>rfl;refine#[a,Y.map λx=>(x.1.1,x.2),rfl,by rw[wf];exact hs,λy hy=> ?_,by have:=hc.1;rw[sB] at this ⊢;exact this,by have:=hc.2;rw[wf] at this ⊢;exact this, ?_];obtain⟨x,hx,rfl⟩:=ss.mp hy;exact(q3 x hx).1;rw[n2,wf] at p1;rw[n1,wf];exact hf σ H1 F1 θ1 s1 _ _ Q J (FL λx hx=>(q3 x ((ix Y).mem_iff.mp hx)).2) p1;exact sn p1;exact sn p1;exact sn p1
theorem KN(J:RdE C te me):RdE C (tCB (yo C.K) (mW te qd)) (wX oK me):=Ny J λσ H F θ s ds xs Q b r p=>uV p b r
end
section
variable {C : Ct}
end
section
variable {C : Ct}
abbrev IX:=S->Res ((List D×(aC->Prop))×S)
def Lr(C:Ct)(wi:TI)(im:IX):Prop:=∀σ H F θ s R,BS C.K C.ca σ H F θ s->
 PoR C H F θ (im s) (λy H1 F1 θ1=>BS C.K C.ca σ H1 F1 θ1 y.2->∀J,vH C J y.1.1 y.1.2 H1 F1 θ1->R J H1)->wi σ H R
theorem lsN{H F H2 J:Hp}{θ θ2:List qh}{U:aC}(st:Stp H F θ H2 J θ2)(n:Now C.K C.ca H2 J θ2 U)(r:Rep C.K C.ca θ F x v)(e:lsD U x=pc ds):∃a xs,v=.ref a/\SqL C.K H2 a xs/\aJ C.K C.ca θ2 J ds xs:=by
 replace r:=r.mono st.ff st.pre;cases x <;> first | (simp[lsD] at e;done) | skip
 cases e;unfold Rep at r;obtain⟨a,xs,rfl,hs,hr⟩:=r;exact#[a,xs,rfl,n.fh.seq hs,hr];rename_i k;unfold Rep at r;obtain⟨a,rfl,hk⟩:=r;unfold lsD at e;dsimp only at e;split at e;rename_i Y ek;cases e;obtain⟨_,xs,h1,h2⟩:ki C.K C.ca H2 J θ2 a (.lst ds):=n.ce k a _ hk ek;exact#[a,xs,rfl,SqL.of h1,h2];cases e
def ya(m:AM):IX:=λs=>(m s).bind λx=>match x.1 with
 | [a,b]=>match lsD x.2.o a,lsD x.2.o b with
  | some as,pc bs=>.ok ((gg as bs,λO=>lsD O a=pc as/\lsD O b=pc bs),x.2)
  | _,_=>.bad
 | _=>.bad
theorem Na{a b:qh}{as bs:List D}{H F:Hp}(r1:Rep C.K C.ca θ F x (.ref a))(r2:Rep C.K C.ca θ F y (.ref b)):
 vH C (Itz C.K a b) (gg as bs) (λO=>lsD O x=pc as/\lsD O y=pc bs) H F θ where
 go:=λi H2 F2 θ2 O2 hi st n ok=>by obtain⟨_,_,e1,e2,_⟩:=tZ (sK hi);obtain⟨_,xs,q,h1,k1⟩:=lsN st n r1 ok.1;cases q;obtain⟨_,ys,q,h2,k2⟩:=lsN st n r2 ok.2;cases q;obtain⟨v,q1,_⟩:=k1.get e1;obtain⟨w,q2,_⟩:=k2.get e2;exact#[xs,ys,v,w,h1,h2,q1,q2]
 yl:=λi d σ H2 F2 θ2 s2 z H3 hd st b ok hy=>by obtain⟨T,v,w,hT,rfl,rfl,hv,hw⟩:=hy;obtain⟨_,_,e1,e2,rfl⟩:=tZ hd;obtain⟨_,xs,q,h1,k1⟩:=lsN st b.now r1 ok.1;cases q;obtain⟨_,ys,q,h2,k2⟩:=lsN st b.now r2 ok.2;cases q;obtain⟨v',q1,k1⟩:=k1.get e1;obtain⟨w',q2,k2⟩:=k2.get e2;have:=hv xs h1;rw[q1] at this;cases this;have:=hw ys h2;rw[q2] at this;cases this;obtain⟨st3,b3,sF,e3⟩:=b.newF hT (.tup [v,w]);refine#[_,st3,b3, ?_];unfold Rep;exact#[T,[v,w],rfl,SqT.of e3,aJ.cons (k1.mono st3.ff st3.pre) (aJ.one (k2.mono st3.ff st3.pre))]
 st:=λi H2 F2 θ2 O2 hi st n ok=>by obtain⟨_,xs,q,h1,k1⟩:=lsN st n r1 ok.1;cases q;obtain⟨_,ys,q,h2,k2⟩:=lsN st n r2 ok.2;cases q;refine#[xs,ys,h1,h2, ?_];unfold gg at hi;rw[RU] at hi;rw[k1.length,k2.length];omega
theorem Gz{m:AM}(h:RdA C ta m):Lr C (KR C.K ta) (ya m):=by intro σ H F θ s R b p;refine h σ H F θ s _ b (PoR.bind p ?_);rintro ⟨x,s1⟩ H1 F1 θ1 _ al p1 J v Y;dsimp only at p1 J Y;split at p1;rename_i x y;split at p1;rename_i as bs e1 e2;obtain⟨v1,v2,rfl,k1,k2⟩:=LS Y;obtain⟨a,xs,rfl,hs,hr⟩:=fC J k1 e1;obtain⟨b',ys,rfl,U,an⟩:=fC J k2 e2;exact#[a,b',rfl,#[xs,hs],#[ys,U],p1 _ _ _ .refl J _ (Na k1 k2)];exact sn p1;exact sn p1
noncomputable def zt (m:Nat)(caps:List Nat)(im:IX)(g:GM)(c:TM)(e:EM):S->Res (List D×S):=λs=>(im s).bind λy=>
 (dR y.1.2 g c e y.1.1 [] #[mE m caps y.2.r,y.2.o]).bind λz=>.ok (z.1,#[y.2.r,z.2.o])
theorem Ij {m:Nat} {caps:List Nat} {im:IX} {c:TM} (hi:Lr C wi im) (hg:RdG C g gm) (hc:RdT C tc c) (he:RdE C te e)
 {σ:L2.St} {H F:Hp} {θ:List qh} {s:S} {Q:VK} (b:BS C.K C.ca σ H F θ s)
 (p:PoR C H F θ (zt m caps im gm c e s) λy H1 F1 θ1=>BS C.K C.ca σ H1 F1 θ1 y.2->∀q xs,H q=pi->H1 q=pc (.lst xs)->F1 q=pi->q∉θ1->aJ C.K C.ca θ1 F1 y.1 xs->Q (.ref q) H1):tj m caps wi g tc te σ H Q:=by
 refine hi σ H F θ s _ b (PoR.bind p ?_);rintro ⟨⟨ds,k⟩,s1⟩ H1 F1 θ1 _ co p1 b1 J it q hq;dsimp only at p1 b1 it;have cp:Stp H1 F1 θ1 (upd H1 q (.lst [])) F1 θ1:=by
  have nm:∀a u,H1 a=pc u->a≠q:=λa u e z=>by rw[z,hq] at e;cases e
  exact#[ck.refl _,#[[],by simp,by simp],λa u h _=>by rw[aZ (nm a u h)];exact h,λa u h=>#[u,by rw[aZ (nm a u h)];exact h],λa u h=>.inl h]
 have cb:q∉θ1:=λh=>by obtain⟨u,hu⟩:=b1.now.there h;rw[hq] at hu;cases hu
 have qF:F1 q=none:=by
  cases e:F1 q with
  | none=>rfl
  | some u=>rw[b1.now.fh q u e] at hq;cases hq
 have cr:H q=none:=by
  cases e:H q with
  | none=>rfl
  | some u=>obtain⟨u',e'⟩:=co.al q u e;rw[hq] at e';cases e'
 have keep:∀{H2 F2 H3 F3:Hp} {θ2 bz:List qh} {o:HO},Stp H2 F2 θ2 H3 F3 bz->H2 q=pc o->F2 q=pi->q∉θ2->H3 q=pc o/\F3 q=pi/\q∉bz:=λ{H2 F2 H3 F3 θ2 bz o} st h1 h2 h3=>by
  refine#[st.kp q o h1 h3, ?_, ?_];cases e:F3 q with
  | none=>rfl
  | some u=>
   rcases st.nf q u e with z | z | z;rw[h2] at z;cases z;rw[h1] at z;cases z;exact absurd z h3
  obtain⟨r,rfl,hr⟩:=st.th;intro hm;rcases wE.mp hm with z | z
  exact h3 z;rw[hr q z] at h1;cases h1
 have cc:∀{am:L2.St} {H2 F2:Hp} {θ2:List qh} {s2:S} (o:HO),BS C.K C.ca am H2 F2 θ2 s2->F2 q=pi->q∉θ2->BS C.K C.ca am (upd H2 q o) F2 θ2 s2:=λ{am H2 F2 θ2 s2} o b h1 h2=>by
  have ne:∀a,a∈θ2->a≠q:=λa h z=>h2 (z▸h);refine#[#[λa u h=> ?_,b.now.nd,b.now.ln,λj a c e1 e2=> ?_],b.len,b.sl];have:a≠q:=λz=>by rw[z,h1] at h;cases h
  rw[aZ this];exact b.now.fh a u h;have hm:=ne a (IR e1);have w:=b.now.ce j a c e1 e2;cases c with
  | dead=>obtain⟨u,hu⟩:=w;exact#[u,by rw[aZ hm];exact hu]
  | lst ds=>obtain⟨q1,ys,q2,q3⟩:=w;exact#[q1,ys,by rw[aZ hm];exact q2,q3]
  | ins c ns ds=>obtain⟨q1,dx,ys,q2,q3,q4⟩:=w;exact#[q1,dx,ys,by rw[aZ hm];exact q2,q3,q4]
 have cu:∀{H2 F2:Hp} {θ2:List qh} (o:HO),Stp H1 F1 θ1 H2 F2 θ2->Stp H1 F1 θ1 (upd H2 q o) F2 θ2:=λ{H2 F2 θ2} o st=>by
  have nm:∀a u,H1 a=pc u->a≠q:=λa u e z=>by rw[z,hq] at e;cases e
  exact#[st.ff,st.th,λa u h1 h2=>by rw[aZ (nm a u h1)];exact st.kp a u h1 h2,λa u h1=>by rw[aZ (nm a u h1)];exact st.al a u h1,st.nf]
 refine#[λi n Y am H'=>n=ds.length-i/\i<=ds.length/\∃F' U s' as,Stp H1 F1 θ1 H' F' U/\H' q=pc (.lst Y)/\F' q=pi/\q∉U/\BS C.K C.ca am H' F' U s'/\aJ C.K C.ca U F' as Y/\
  PoR C H1 F1 θ1 ((dR (k) gm c e (ds.drop i) as s').bind λz=>.ok (z.1,(#[s1.r,z.2.o]:S))) (λy H1 F1 θ1=>BS C.K C.ca σ H1 F1 θ1 y.2->∀q xs,H q=pi->H1 q=pc (.lst xs)->F1 q=pi->q∉θ1->aJ C.K C.ca θ1 F1 y.1 xs->Q (.ref q) H1),
  #[ds.length,by simp,Oz _,F1,θ1,#[mE m caps s1.r,s1.o],[],cp,cQ,qF,cb,cc _ (HM b1 m caps) qF cb,aJ.nil,by simpa using p1], ?_]
 rintro i n Y am H' ⟨rfl,d8,F',U,s',as,st,hq',ci,bp,bs,bb,po⟩;by_cases lt:i<ds.length;right;rw[Ro lt,dR] at po;split at po;rename_i bd;refine#[it.go i H' F' U s'.o lt st bs.now bd.1, ?_];intro x H3 hy;obtain⟨F3,bi,b3,rp⟩:=it.yl i ds[i] am H' F' U s' x H3 (sK lt) st bs bd.1 hy;obtain⟨k1,k2,k3⟩:=keep bi hq' ci bp;have an:=st.trans bi;have bm:=PoR.after an po;have w1:PoG C H3 F3 U (gm ds[i] s') (λap H4=>tc ap H4 λb H4=>if b=qc then
  te ap H4 λy H5=>H5 q=pc (.lst Y)/\Y.length<sizeLine/\∃k',k'<ds.length-i/\(k'=ds.length-(i+1)/\i+1<=ds.length/\∃F' U s' as,Stp H1 F1 θ1 (upd H5 q (.lst (Y++[y]))) F' U/\(upd H5 q (.lst (Y++[y]))) q=pc (.lst (Y++[y]))/\F' q=pi/\q∉U/\BS C.K C.ca ap (upd H5 q (.lst (Y++[y]))) F' U s'/\aJ C.K C.ca U F' as (Y++[y])/\
   PoR C H1 F1 θ1 ((dR (k) gm c e (ds.drop (i+1)) as s').bind λz=>.ok (z.1,(#[s1.r,z.2.o]:S))) (λy H1 F1 θ1=>BS C.K C.ca σ H1 F1 θ1 y.2->∀q xs,H q=pi->H1 q=pc (.lst xs)->F1 q=pi->q∉θ1->aJ C.K C.ca θ1 F1 y.1 xs->Q (.ref q) H1))
  else ∃k',k'<ds.length-i/\(k'=ds.length-(i+1)/\i+1<=ds.length/\∃F' U s' as,Stp H1 F1 θ1 H4 F' U/\H4 q=pc (.lst Y)/\F' q=pi/\q∉U/\BS C.K C.ca ap H4 F' U s'/\aJ C.K C.ca U F' as Y/\
   PoR C H1 F1 θ1 ((dR (k) gm c e (ds.drop (i+1)) as s').bind λz=>.ok (z.1,(#[s1.r,z.2.o]:S))) (λy H1 F1 θ1=>BS C.K C.ca σ H1 F1 θ1 y.2->∀q xs,H q=pi->H1 q=pc (.lst xs)->F1 q=pi->q∉θ1->aJ C.K C.ca θ1 F1 y.1 xs->Q (.ref q) H1))):=by
  cases e1:gm ds[i] s' with
  | bad=>rw[e1] at bm;exact bm
  | exc a1 a2 a3=>rw[e1] at bm;exact bm
  | ok s4=>
   rw[e1] at po;intro H4 F4 cw az ap b4;obtain⟨l1,l2,l3⟩:=keep az k1 k2 k3;refine hc ap H4 F4 cw s4 _ b4 ?_;cases e2:c s4 with
   | bad=>rw[aj,e2] at po;exact po
   | exc a1 a2 a3=>rw[aj,e2] at po;exact PoR.after (an.trans az) po
   | ok x5=>
    obtain⟨kk,s5⟩:=x5;rw[aj,e2,aj] at po;intro H5 F5 cn a0 b5;obtain⟨m1,m2,m3⟩:=keep a0 l1 l2 l3;have be:=((bb.mono bi.ff bi.pre).mono az.ff az.pre).mono a0.ff a0.pre;cases kk with
    | false=>
     exact vX #[ds.length-(i+1),⋯,rfl,⋯,F5,cn,s5,as,an.trans (az.trans a0),m1,m2,m3,b5,be,by simpa using po]
    | true=>
     refine uY (he ap H5 F5 cn s5 _ b5 ?_);dsimp only[if_true] at po;cases e3:e s5 with
     | bad=>rw[e3] at po;exact po
     | exc a1 a2 a3=>rw[e3] at po;exact PoR.after (an.trans (az.trans a0)) po
     | ok x6=>
      obtain⟨y,s6⟩:=x6;rw[e3,aj] at po;intro H6 F6 c0 bn b6 w r6;obtain⟨n1,n2,n3⟩:=keep bn m1 m2 m3;exact#[n1,by rw[bb.length];exact bd.2,ds.length-(i+1),⋯,rfl,⋯,F6,c0,s6,as++[y],cu _ (an.trans (az.trans (a0.trans bn))),cQ,n2,n3,cc _ b6 n2 n3,(be.mono bn.ff bn.pre).append (aJ.one r6),po]
 exact hg am H3 F3 U s' ds[i] x _ b3 rp w1;exact sn po;left;rw[SQ ⋯,dR] at po;split at po;rename_i bd;refine#[it.st i H' F' U s'.o ⋯ st bs.now bd,hq', ?_];refine po H' F' U st #[bs.now,b1.len,λj d e=> ?_] q Y cr hq' ci bp bb;obtain⟨v,h1,h2⟩:=b1.sl j d e;exact#[v,h1,h2.mono st.ff st.pre];exact sn po
noncomputable def sf (m:Nat)(caps:List Nat)(im:IX)(g:GM)(c:TM)(e:EM):EM:=λs=>(zt m caps im g c e s).bind λy=>.ok (.lst y.1,y.2)
theorem Bi{m:Nat}{im:IX}{c:TM}(hi:Lr C wi im)(hg:RdG C g gm)(hc:RdT C tc c)(he:RdE C te e):RdE C (tj m caps wi g tc te) (sf m caps im gm c e):=by
 intro σ H F θ s Q b p;refine Ij hi hg hc he b ?_;unfold sf at p;cases e1:zt m caps im gm c e s with
 | bad=>rw[e1] at p;exact p
 | exc a1 a2 a3=>rw[e1] at p;exact p
 | ok y=>
  rw[e1,aj] at p;intro H1 F1 θ1 J U q xs h0 h1 h2 h3 hr;have Y:ck F1 (upd F1 q (.lst xs)):=λa u h=>by rw[aZ (λz=>by rw[z,h2] at h;cases h)];exact h
  refine p H1 (upd F1 q (.lst xs)) θ1 #[J.ff.trans Y,J.th,J.kp,J.al,λa u h=> ?_] #[#[λa u h=> ?_,U.now.nd,U.now.ln,λj a c e2 e3=> ?_],U.len,λi d e2=> ?_] (.ref q) ?_;by_cases z:a=q;subst z;exact .inr (.inl h0);rw[aZ z] at h;exact J.nf a u h;by_cases z:a=q;subst z;rw[cQ] at h;rw[h1];exact h;rw[aZ z] at h;exact U.now.fh a u h;have ne:a≠q:=λz=>h3 (z▸IR e2);have w:=U.now.ce j a c e2 e3;cases c with
  | dead=>exact w
  | lst ds=>obtain⟨q1,ys,q2,q3⟩:=w;exact#[by rw[aZ ne];exact q1,ys,q2,q3.mono Y #[[],by simp]]
  | ins c ns ds=>obtain⟨q1,dx,ys,q2,q3,q4⟩:=w;exact#[by rw[aZ ne];exact q1,dx,ys,q2,q3,q4.mono Y #[[],by simp]]
  obtain⟨v,w1,w2⟩:=U.sl i d e2;exact#[v,w1,w2.mono Y #[[],by simp]];unfold Rep;exact#[q,xs,rfl,SqL.of cQ,hr.mono Y #[[],by simp]]
end
section
variable {C : Ct}
end
end M
namespace L2
open PySem PySem.Spec PyProof.Rows
structure PH(k:Nat)(A:Je):Prop where
 dp:A.depth+3*k+5<recursionLimit
 un:A.units+16*k+200<cLine
structure Rh(P:B3)(w:Ch)(K:sH)(mg:Str->Option qb)(base:FS)(CX:CXT)(k:Nat)(f:qh)(fd:RL)(ps:List Str)(sp:Sp):Prop where
 len:∀vs H Q E,sp vs H Q E->vs.length=ps.length
 run:∀(A:Je) (outer:List Env) (s:tt) (H:Hp) (args:Args) (us:List qb) (vs:List V) (Q:VK) (E:XK),PH k A->vA P w K mg base A outer s H->TZ s fd args (ps.zip us)->Vals vs us->sp vs H Q E->
  codeAny (model P w) A (.call (.ref f) args) (CR CX outer P w H s Q E) s
section
variable {X : Cx} {CX : CXT} {k : Nat} {f C : qh} {fd : RL} {ps : List Str} {sp : Sp} {dvs : List V} {ds : List qb} {E : XK} {x m : Str} {p pos apos : Pos} {e o : Db} {es : List Db} {ta : TE} {t : TA}
end
section
variable {P : B3} {w : Ch} {K : sH} {mg : Str → Option qb} {base : FS}
end
end L2
namespace M
open PySem PySem.Spec PyProof.Rows L2
variable {st : S0} {k n a b c : Nat} {caps : List Nat} {i j : Int} {ds ds0 : List D} {d : D} {O O1 : aC} {ns r row T goal s l x y z h w : List Int} {m me e mo : EM} {ml mh : OM} {im : IM} {body A B : SM} {f g : Nat → Int} {left rows R : List (List Int)} {P L : List (Nat × List Int)} {p : Nat × List Int} {ma : AM} {lo hi : Option Int}
section
variable {C : Ct}
end
section
variable {C : Ct} {Es : L2.St → XK}
end
structure Ev where
 P:B3
 w:Ch
 K:sH
 mg:Str->Option qb
 base:FS
 ca:Nat->qh
abbrev DIn(e:Ev)(J:Nat)(x:Str)(ps:List Str)(f:FM):Prop:=LR e.P e.w e.K e.mg e.base e.ca J x ps f
abbrev N0(e:Ev)(x:Str):Prop:=e.mg x=pi
def FA(e:Ev)(x:Str)(st:S0):Prop:=∃a fd,Fun e.K x x st a fd/\e.mg x=pc (.ref a)
def FK(K:sH)(x:Str)(st:S0):Prop:=∃(f:qh) (J:qb) (U:Option qh) (kV Y pm:qb) (an:Option qh) (cd ct:qb) (sl:Array (Option qb)),JA K mainGlobals x=pc (pc (.ref f))/\
 K.lookup f=pc #[J,U,.func (Ix x x (dW st) (dq st) (aL st) .none kV Y pm an cd ct),sl]/\Ry K cd x=qc/\NE K (.ref f)=qc
theorem FK.fa{e:Ev}{h:FS}{x:Str}(X:e.K.In h)(G:h.Ns mainGlobals e.mg)(k:FK e.K x st):FA e x st:=by obtain⟨f,J,U,kV,Y,pm,an,cd,ct,sl,a,l,c,kp⟩:=k;exact#[f,_,m8 l c kp,SG X G a]
abbrev sI(x:Str)(ps:List Str)(st:S0):Prop:=∀(kV J Y:qb) (an:Option qh) (U ct:qb) (us:List qb),us.length=ps.length->bindArgs (Ix x x (dW st) (dq st) (aL st) .none kV J Y an U ct) #[us,[]]=pure (ps.zip us)
theorem bd1{x p0:Str}(h:∀(kV J pm:qb) (an:Option qh) (U ct Y:qb),bindArgs (Ix x x (dW st) (dq st) (aL st) .none kV J pm an U ct) #[[Y],[]]=pure [(p0,Y)]):sI x [p0] st:=λkV J pm an U ct us hl=>match us,hl with | [Y],_=>h kV J pm an U ct Y
theorem bd2{x p0 p1:Str}(h:∀(kV J pm:qb) (an:Option qh) (U ct Y u1:qb),bindArgs (Ix x x (dW st) (dq st) (aL st) .none kV J pm an U ct) #[[Y,u1],[]]=pure [(p0,Y),(p1,u1)]):sI x [p0,p1] st:=λkV J pm an U ct us hl=>match us,hl with | [Y,u1],_=>h kV J pm an U ct Y u1
theorem bd3{x p0 p1 p2:Str}(h:∀(kV J pm:qb) (an:Option qh) (U ct Y u1 u2:qb),bindArgs (Ix x x (dW st) (dq st) (aL st) .none kV J pm an U ct) #[[Y,u1,u2],[]]=pure [(p0,Y),(p1,u1),(p2,u2)]):sI x [p0,p1,p2] st:=λkV J pm an U ct us hl=>match us,hl with | [Y,u1,u2],_=>h kV J pm an U ct Y u1 u2
theorem bd4{x p0 p1 p2 p3:Str}(h:∀(kV J pm:qb) (an:Option qh) (U ct Y u1 u2 u3:qb),bindArgs (Ix x x (dW st) (dq st) (aL st) .none kV J pm an U ct) #[[Y,u1,u2,u3],[]]=pure [(p0,Y),(p1,u1),(p2,u2),(p3,u3)]):sI x [p0,p1,p2,p3] st:=λkV J pm an U ct us hl=>match us,hl with | [Y,u1,u2,u3],_=>h kV J pm an U ct Y u1 u2 u3
theorem bd5{x p0 p1 p2 p3 p4:Str}(h:∀(kV J pm:qb) (an:Option qh) (U ct Y u1 u2 u3 u4:qb),bindArgs (Ix x x (dW st) (dq st) (aL st) .none kV J pm an U ct) #[[Y,u1,u2,u3,u4],[]]=pure [(p0,Y),(p1,u1),(p2,u2),(p3,u3),(p4,u4)]):sI x [p0,p1,p2,p3,p4] st:=λkV J pm an U ct us hl=>match us,hl with | [Y,u1,u2,u3,u4],_=>h kV J pm an U ct Y u1 u2 u3 u4
theorem bH {e:Ev} {x:Str} {N ps:List Str} {m:SM} (F:FA e x st) (S:aY N ps (aL st)) (hn:N.length=n) (hk:32<=k) (hb:sI x ps st)
 (hm:∀(f:qh) (J:qb) (A:Je) (outer:List Env) (s:tt) (H:Hp) (E:XK),fk k (A.deeper (envOfC x (aL st) s.heap.objs.size f J))->(A.deeper (envOfC x (aL st) s.heap.objs.size f J)).units+64<cLine->(A.deeper (envOfC x (aL st) s.heap.objs.size f J)).depth+100<recursionLimit->
  ∃t,PSs (uP (CXE e.P e.w) e.P e.w e.K e.mg e.base N x (aL st) f J A outer s H E).nox (dq st) t/\RdS #[e.K,e.ca,W0] t m):DIn e (k+1) x ps (runM n m):=by
 obtain⟨a,fd,F,U⟩:=F;exact#[a,fd,m9 F S hn λJ A outer s H E hr=>hm a J A outer s H E hr hr.units (ph hr hk),U,F.kp,F.binds hb]
def Qk(X:Cx)(P:B3)(w:Ch)(K:sH)(mg:Str->Option qb)(base:FS):Prop:=X.prog=P/\X.w=w/\X.K=K/\X.mg=mg/\X.base=base
theorem cj{N P:List Str}{sc:Sr}(J:N.Nodup:=by decide +kernel)(U:N.take P.length=P:=by rfl)(Y:∀x∈P,sc.names.lookup x=pc .local\/sc.names.lookup x=pc .cell:=by decide +kernel)(h7:∀y∈sc.names,y.2≠ .free:=by decide +kernel)(h1:sc.kind=.function:=by rfl)(h2:sc.isCoroutine=false:=by rfl)(h3:sc.isGenerator=false:=by rfl):aY N P sc:=#[h1,h2,h3,J,U,Y,h7]
theorem ndL(a b:List Str)(h:(a++b).Nodup:=by decide +kernel):(a++b).Nodup:=h
theorem scC{X:Cx}{scope:Sr}{own cap:List Str}(J:mP X scope cap caps)(h1:scope.kind=.function:=by rfl)(h2:∀y∈scope.names,y.2=.cell->scope.names.lookup y.1=pc .cell:=by decide +kernel)(U:∀y∈scope.names,y.2=.local->scope.names.lookup y.1=pc .local:=by decide +kernel)(Y:∀y∈scope.names,y.2=.free->y.1∈cap:=by decide +kernel)(h6:(own++cap).Nodup:=by decide +kernel):oy X scope own cap caps:=#[h1,h2,U,Y,J,h6]
section
variable {X : Cx} {P : B3} {w : Ch} {K : sH} {mg : Str → Option qb} {base : FS} {ca : Nat → qh} {k j : Nat} {x : Str} {ps : List Str} {f : FM} {e : Db} {es : List Db} {t : TA} {p pos : Pos} {Es : L2.St → XK}
theorem aI(D:LR P w K mg base ca k x ps f)(hr:fk j X.A)(ha:PA X (e::es) t)(Y:k<=j:=by decide)(hX:Qk X P w K mg base:=by exact#[rfl,rfl,rfl,rfl,rfl])(hg:Gl X x:=by rfl)(J:(x == ("__debug__" :Str))=false:=by decide)(he:starEach (e::es) X.env=(wh,eval e X.env)::starEach es X.env:=by rfl)(U:(backTo pos (starEach es X.env)).any (·.1)=false:=by rfl):
 PE X (.Call (.Name x p) (e::es) [] pos) (tR (spM K ca ps.length f) [] E0 t):=by
 obtain⟨rfl,rfl,rfl,rfl,rfl⟩:=hX;obtain⟨a,fd,G,m,k,b⟩:=D;exact MJ G (hr.mono Y) hg m k b .nil lj ha J he U
end
section
variable {C : Ct}
end
section
variable {C : Ct}
end
@[simp] theorem Qd (ds:List D) (O:aC):okC ds pi O=True:=rfl
@[simp] theorem Qh (ds:List D) (k:Nat) (O:aC):okC ds (pc k) O=(O[k]? =pc (.lst ds)):=rfl
theorem FR(h:i.natAbs<2^n):Builtin.Int.intBits i<=n:=by
 unfold Builtin.Int.intBits;split;exact Oz _;rename_i h0;have hp:i.natAbs≠0:=by intro z;apply h0;simpa using z
 have:=(Nat.log2_lt hp).mpr h;omega
def Sz(n:Nat)(i:Int):Prop:=i.natAbs<2^n
theorem Sz.mono{m n:Nat}(h:Sz m i)(J:m<=n):Sz n i:=AT h (RC ∅ J)
theorem gw{m n:Nat}(hm:m<=60000000)(hn:n<=60000000)(h:Sz m i)(h':Sz n j):RG i j:=by
 have h1:=FR h;have h2:=FR h';have e:Builtin.Int.intTooBig (Builtin.Int.intBits i+Builtin.Int.intBits j)=false:=by unfold Builtin.Int.intTooBig;rw[bitsLine_eq];exact decide_eq_false ⋯
 unfold RG;rw[e];simp
theorem eN(h:i.natAbs<2^64\/j.natAbs<2^64):RG i j:=by rcases h with h | h;exact .of_left (intBits_le_64 ⋯ ⋯);exact .of_right (intBits_le_64 ⋯ ⋯)
theorem Sz.mul{m n:Nat}(h:Sz m i)(h':Sz n j):Sz (m+n) (i*j):=by unfold Sz at *;rw[Th,UK];exact Nat.mul_lt_mul'' h h'
theorem Sz.add{m n:Nat}(h:Sz m i)(h':Sz n j):Sz (max m n+1) (i+j):=by unfold Sz at *;have h1:=AT h (RC ∅ (Nat.le_max_left m n));have h2:=AT h' (RC ∅ (Nat.le_max_right m n));have J:(i+j).natAbs<=i.natAbs+j.natAbs:=Tj i j;rw[U7];omega
theorem pT(h:0<j):i.fdiv j=i/j:=Int.fdiv_eq_ediv_of_nonneg i (SV h)
theorem KD(h:0<j):i.fmod j=i%j:=Int.fmod_eq_emod_of_nonneg i (SV h)
section
variable {O : aC}
@[simp] theorem C1:lV O (.int i) (.int j)=.ok (.int (i-j)):=rfl
@[simp] theorem d7:cq O (.int i) (.int j)=.ok (.int (i+j)):=rfl
@[simp] theorem Qq (i j:Int):P8 O (.int i) (.int j)=.ok (.int (i+j)):=rfl
@[simp] theorem nH:ltD O (.int i) (.int j)=.ok (.bl (decide (i<j))):=rfl
@[simp] theorem MC:leD O (.int i) (.int j)=.ok (.bl (decide (i<=j))):=rfl
@[simp] theorem wY:gtD O (.int i) (.int j)=.ok (.bl (decide (j<i))):=rfl
@[simp] theorem QN (i j:Int):geD O (.int i) (.int j)=.ok (.bl (decide (j<=i))):=rfl
@[simp] theorem tW:jb O (.int i)=.ok (.int (-i)):=rfl
@[simp] theorem mC:eqD O (.int i) (.int j)=.ok (.bl (decide (i=j))):=rfl
@[simp] theorem MI:neD O (.int i) (.int j)=.ok (.bl (!decide (i=j))):=rfl
@[simp] theorem A9 (i j:Str):eqD O (.str i) (.str j)=.ok (.bl (decide (i=j))):=rfl
@[simp] theorem QF (i j:Str):neD O (.str i) (.str j)=.ok (.bl (!decide (i=j))):=rfl
@[simp] theorem Rb (i j:Bool):eqD O (.bl i) (.bl j)=.ok (.bl (decide (i=j))):=rfl
@[simp] theorem Rf (i j:Bool):neD O (.bl i) (.bl j)=.ok (.bl (!decide (i=j))):=rfl
theorem cN(h:RG i j):cI O (.int i) (.int j)=.ok (.int (i*j)):=if_pos h
theorem mj(h:j≠0):d4 O (.int i) (.int j)=.ok (.int (i.fdiv j)):=if_pos h
theorem iF(h:0<j)(h2:j<1073741824):d4 O (.int i) (.int j)=.ok (.int (i/j)):=by rw[mj ⋯,pT h]
theorem fJ(h:0<j):gD O (.int i) (.int j)=.ok (.int (i%j)):=by rw[<- KD h];exact if_pos ⋯
theorem j6(h:0<=j)(h2:j<=1000000)(J:i.natAbs<2^64):hJ O (.int i) (.int j)=.ok (.int (i^j.toNat)):=if_pos #[h,h2,J]
@[simp] theorem PZ (i:Int):yd O [.int i]=.ok (.int (i.natAbs:Int)):=by show Res.ok (D.int (if i<0 then -i else i))=_;congr 2;split <;> omega
@[simp] theorem fg:cx O [.lst ds]=.ok (.int ds.length):=rfl
@[simp] theorem Qr (ds:List D):cx O [.tup ds]=.ok (.int ds.length):=rfl
theorem JZ{x:Str}(h:x.length<=16777216):cx O [.str x]=.ok (.int x.length):=if_pos h
@[simp] theorem vG:nZ O [.lst ds]=.ok (.lst ds):=rfl
@[simp] theorem PV (ds:List D):nZ O [.tup ds]=.ok (.lst ds):=rfl
@[simp] theorem PL (i:Int):intOf O [.int i]=.ok (.int i):=rfl
@[simp] theorem Qm (b:Bool):intOf O [.bl b]=.ok (.int (if b then 1 else 0)):=rfl
@[simp] theorem QC (c:String) (i:Int):oG c O (.int i)=.ok (.bl (fP "int" c)):=rfl
@[simp] theorem Q1 (c:String) (i:Bool):oG c O (.bl i)=.ok (.bl (fP "bool" c)):=rfl
@[simp] theorem QO (c:String) (i:Str):oG c O (.str i)=.ok (.bl (fP "str" c)):=rfl
@[simp] theorem Qy (c:String) (i:List D):oG c O (.lst i)=.ok (.bl (fP "list" c)):=rfl
@[simp] theorem Qw (c:String) (i:List D):oG c O (.tup i)=.ok (.bl (fP "tuple" c)):=rfl
@[simp] theorem QE (c:String):oG c O .non=.ok (.bl (fP "NoneType" c)):=rfl
@[simp] theorem Q7:fP "int" "int" =true:=∅
@[simp] theorem Q8:fP "int" "bool" =false:=∅
@[simp] theorem QY:fP "bool" "bool" =true:=∅
@[simp] theorem Q6:fP "bool" "int" =true:=∅
@[simp] theorem QX:fP "list" "list" =true:=∅
@[simp] theorem sub_tt:fP "tuple" "tuple" =true:=∅
@[simp] theorem sub_lt:fP "list" "tuple" =false:=∅
@[simp] theorem QZ:fP "tuple" "list" =false:=∅
@[simp] theorem Q5:fP "str" "int" =false:=∅
@[simp] theorem Q9:fP "NoneType" "int" =false:=∅
theorem nG(h:atI ds i=pc d):ixD O (.lst ds) (.int i)=.ok d:=by
 show (match lsD O (D.lst ds) with
  | some ds=>match atI ds i with
   | some d=>Res.ok d
   | none=>.bad
  | none=>.bad)=_
 rw[ia];dsimp only;rw[h]
theorem f9(h:atI ds i=pc d):ixD O (.tup ds) (.int i)=.ok d:=by
 show (
  match atI ds i with
  | some d=>Res.ok d
  | none=>.bad)=_
 rw[h]
theorem qz{α:Type}{l:List α}(h0:0<=i)(h1:i<l.length):atI l i=pc (l[i.toNat]'(⋯)):=by unfold atI ixN;rw[if_pos h0,if_pos h1];show l[i.toNat]? =_;exact sK _
theorem tw:∀ns:List Int,k8 (ns.map D.int)=pc (ns.map PyData.int)
 | []=>by simp[k8]
 | n::ns=>by simp[k8,toPy,tw ns]
theorem qV:∀ns:List Int,cz O (ns.map D.int)=ns.map D.int
 | []=>by simp[cz]
 | n::ns=>by simp[cz,res,qV ns]
theorem rM:∀ns:List Int,PyData.canLayAll0 (ns.map PyData.int)=qc
 | []=>by simp[PyData.canLayAll0]
 | n::ns=>by simp[PyData.canLayAll0,PyData.canLay0,rM ns]
theorem ud:∀ns:List Int,PyData.depthAll (ns.map PyData.int)=0
 | []=>by simp[PyData.depthAll]
 | n::ns=>by simp[PyData.depthAll,PyData.depth,ud ns]
theorem shaped_ints(ns:List Int):SeqAt.shaped (.list (ns.map PyData.int))=true:=by simp[SeqAt.shaped,PyData.canLay0,rM,PyData.depth,ud]
theorem xO:∀ns ms:List Int,PyData.eqvAll (ns.map PyData.int) (ms.map PyData.int)=decide (ns=ms)
 | [],[]=>by simp[PyData.eqvAll]
 | [],_::_=>by simp[PyData.eqvAll]
 | _::_,[]=>by simp[PyData.eqvAll]
 | a::r,b::t=>by simp only[ww,PyData.eqvAll,PyData.eqv,xO r t];by_cases h:a=b <;> by_cases h':r=t <;> simp[h,h']
theorem Dl{ns ms:List Int}:eqB O (.lst (ns.map D.int)) (.lst (ms.map D.int))=pc (decide (ns=ms)):=by show kO O _ _=_;unfold kO;simp only[res,qV,toPy,tw,SH];rw[if_pos #[shaped_ints ns,shaped_ints ms]];simp only[PyData.eqv,xO]
@[simp] theorem Qi (ns ms:List Int):eqD O (.lst (ns.map D.int)) (.lst (ms.map D.int))=.ok (.bl (decide (ns=ms))):=by unfold eqD;rw[Dl]
@[simp] theorem P0 (ns ms:List Int):neD O (.lst (ns.map D.int)) (.lst (ms.map D.int))=.ok (.bl (!decide (ns=ms))):=by unfold neD;rw[Dl]
theorem vC:∀ns:List Int,aR (ns.map D.int)=qc
 | []=>by simp[aR]
 | n::ns=>by simp[aR,cW,vC ns]
@[simp] theorem Pm (ns:List Int):cW (.lst (ns.map D.int))=true:=by simp[cW,vC]
end
noncomputable def wQ:SM:=aK (setM 2 (ak gD (aa 0) (aa 1))) (aK (setM 0 (aa 1)) (setM 1 (aa 2)))
theorem Kl{a b:Int}{x:Option D}(hb:0<b):wQ #[[pc (.int a),pc (.int b),x],O]=.next #[[pc (.int b),pc (.int (a%b)),pc (.int (a%b))],O]:=by simp[wQ,aK,setM,gA,aB,ak,aa,fJ hb]
theorem B9{c:TM}(hc:∀(a b:Int) x O,0<=b->c #[[pc (.int a),pc (.int b),x],O]=.ok (decide (b≠0),#[[pc (.int a),pc (.int b),x],O])):
 ∀(n:Nat) (a b:Int) x O,0<=a->0<=b->b.natAbs<n->∃y,mD c wQ n #[[pc (.int a),pc (.int b),x],O]=.next #[[pc (.int (Sf a.natAbs b.natAbs:Nat)),pc (.int 0),y],O]
 | 0,_,_,_,_,_,_,h=>⋯
 | n+1,a,b,x,O,ha,hb,hn=>by
  rw[mD,hc a b x O hb,kN];by_cases h:b=0;subst h;refine#[x, ?_];have e:((Sf a.natAbs (0:Int).natAbs:Nat):Int)=a:=by rw[Int.natAbs_zero,Nat.gcd_zero_right];omega
  rw[e];simp;have hb':0<b:=⋯;have h1:0<=a%b:=So a h;have h2:a%b<b:=Sm a hb';obtain⟨y,e⟩:=B9 hc n b (a%b) (pc (.int (a%b))) O hb h1 ⋯;refine#[y, ?_];simp only[h,ne_eq,not_false_eq_true,decide_true,if_true,Kl hb'];rw[e];have e2:(a%b).natAbs=a.natAbs%b.natAbs:=by
   have:((a%b).natAbs:Int)=((a.natAbs%b.natAbs:Nat):Int):=by rw[TD h1,Int.natCast_emod,TD ha,TD hb]
   omega
  rw[e2,<- Nat.gcd_rec' a.natAbs b.natAbs]
where Nat.gcd_rec' (m n:Nat):Sf m n=Sf n (m%n):=by rw[Nat.gcd_comm m n,Nat.gcd_rec n m,Nat.gcd_comm]
noncomputable def GW:SM:=aK (setM 0 (bJ yd (af (aa 0) ao))) (aK (setM 1 (bJ yd (af (aa 1) ao))) (aK (yU (λs=>Av 1 s) (a7 (ak neD (aa 1) (aq (.int 0)))) wQ) (bD (aa 0))))
theorem Kp(a b:Int)(O:aC):∃s,GW #[[pc (.int a),pc (.int b),pi],O]=.ret (.int (Fa a b:Nat)) s/\s.o=O:=by obtain⟨y,e⟩:=B9 (c:=a7 (ak neD (aa 1) (aq (.int 0)))) (λa b x O h=>by simp[a7,ak,aa,aq]) (b.natAbs+1) (a.natAbs:Int) (b.natAbs:Int) pi O ⋯ ⋯ ⋯;refine#[#[[pc (.int (Fa a b:Nat)),pc (.int 0),y],O], ?_,rfl];simp only[RM] at e;simp[GW,aK,setM,gA,aB,bJ,af,ao,aa,yU,Av,e,bD,Fa]
theorem cv{m:SM}{s:S}(h:m #[ds.map pc++u0 (n-ds.length) pi,O]=.ret d s):runM n m ds O=.ok (d,s.o):=by unfold runM;rw[h]
theorem IP(a b:Int):runM 3 GW [.int a,.int b] []=.ok (.int (Fa a b:Nat),[]):=by obtain⟨s,e,J⟩:=Kp a b [];rw[cv (s:=s) (by exact e),J]
def cM(ns:List Int):Nat:=ns.foldl (λc n=>Sf c n.natAbs) 0
theorem uB:∀(ns:List Int) (c:Nat),ns.foldl (λc n=>Sf c n.natAbs) c ∣ c/\∀n∈ns,ns.foldl (λc n=>Sf c n.natAbs) c ∣ n.natAbs
 | [],c=>#[Nat.dvd_refl _,by simp]
 | m::ns,c=>by
  obtain⟨h1,h2⟩:=uB ns (Sf c m.natAbs);rw[RX];refine#[VI h1 (Nat.gcd_dvd_left _ _),λn hn=> ?_];rcases u8.mp hn with rfl | hn
  exact VI h1 (Nat.gcd_dvd_right _ _);exact h2 n hn
theorem Dz{n:Int}(h:n∈ns):((cM ns:Nat):Int) ∣ n:=Tx.mp (by rw[RM];exact(uB ns 0).2 n h)
theorem uJ(g:Nat)(J:0<g):∀(ns:List Int) (c:Nat),g ∣ c->(∀n∈ns,(g:Int) ∣ n)->
 (ns.map (· / (g:Int))).foldl (λc n=>Sf c n.natAbs) (c/g)=ns.foldl (λc n=>Sf c n.natAbs) c/g
 | [],c,_,_=>rfl
 | m::ns,c,hc,h=>by
  have hm:g ∣ m.natAbs:=by have:=Tx.mpr (h m uC);rwa [RM] at this
  have e:(m/(g:Int)).natAbs=m.natAbs/g:=by obtain⟨k,rfl⟩:=h m uC;rw[Td _ (by omega:(g:Int)≠0),Th,RM,Nat.mul_div_cancel_left _ J]
  rw[ww,RX,RX,e,Nat.gcd_div hc hm];exact uJ g J ns _ (Nat.dvd_gcd hc hm) λn hn=>h n (tz _ hn)
theorem Kt(h:0<cM ns):cM (ns.map (· / (cM ns:Int)))=1:=by have:=uJ (cM ns) h ns 0 (Nat.dvd_zero _) λn hn=>Dz hn;rw[Nat.zero_div] at this;rw[show cM (ns.map (· / (cM ns:Int)))=(ns.map (· / (cM ns:Int))).foldl (λc n=>Sf c n.natAbs) 0 from rfl,this];exact Nat.div_self h
section
variable {s s1 : S} {d : D}
@[simp] theorem ag {i:Nat} (h:s.r[i]? =pc (pc d)):aa i s=.ok (d,s):=by unfold aa;rw[h]
@[simp] theorem aF (d:D) {s:S}:aq d s=.ok (d,s):=rfl
@[simp] theorem cK {f:Op2} {a b:EM} {s:S}:ak f a b s=(a s).bind λx=>(b x.2).bind λy=>(f y.2.o x.1 y.1).bind λd=>.ok (d,y.2):=rfl
@[simp] theorem Oe {f:Op1} {a:EM} {s:S}:unM f a s=(a s).bind λx=>(f x.2.o x.1).bind λd=>.ok (d,x.2):=rfl
@[simp] theorem aG {s:S}:ao s=.ok ([],s):=rfl
@[simp] theorem aV {r:AM} {s:S}:af m r s=(m s).bind λx=>(r x.2).bind λy=>.ok (x.1::y.1,y.2):=rfl
@[simp] theorem gI {f:OpN} {m:AM} {s:S}:bJ f m s=(m s).bind λx=>(f x.2.o x.1).bind λd=>.ok (d,x.2):=rfl
@[simp] theorem AE {m:AM} {s:S}:jE m s=(m s).bind λx=>if x.1.length<=16777216 then .ok (.tup x.1,x.2) else .bad:=rfl
@[simp] theorem FV {m:AM} {s:S}:kK m s=(m s).bind λx=>if x.1.length<=16777216 then .ok (.lst x.1,x.2) else .bad:=rfl
@[simp] theorem Nq {m:AM} {s:S}:iL m s=(m s).bind λx=>if x.1.length<=16777216 then .ok (.ptr x.2.o.length,#[x.2.r,x.2.o++[.lst x.1]]) else .bad:=rfl
@[simp] theorem gJ {s:S}:a7 m s=(m s).bind λx=>match x.1 with
 | .bl b=>.ok (b,x.2)
 | _=>.bad:=rfl
@[simp] theorem MQ {a b:TM} {s:S}:vW a b s=(a s).bind λx=>if x.1 then b x.2 else .ok (wh,x.2):=rfl
@[simp] theorem sm {a b:TM} {s:S}:orT a b s=(a s).bind λx=>if x.1 then .ok (qc,x.2) else b x.2:=rfl
@[simp] theorem sR {a:TM} {s:S}:jH a s=(a s).bind λx=>.ok (!x.1,x.2):=rfl
@[simp] theorem Mm {a b:EM} {s:S}:yh a b s=(a s).bind λx=>match x.1 with
 | .bl qc=>b x.2
 | .bl wh=>.ok (.bl wh,x.2)
 | _=>.bad:=rfl
@[simp] theorem Q0 (a b:EM) (s:S):orV a b s=(a s).bind λx=>match x.1 with
 | .bl qc=>.ok (.bl qc,x.2)
 | .bl wh=>b x.2
 | _=>.bad:=rfl
@[simp] theorem Qx (a:EM) (s:S):KA a s=(a s).bind λx=>match x.1 with
 | .bl k=>.ok (.bl (!k),x.2)
 | _=>.bad:=rfl
@[simp] theorem wU {a b:SM} {s:S}:aK a b s=(a s).then b:=rfl
@[simp] theorem cD {s:S}:bC s=.next s:=rfl
@[simp] theorem P6 (m:EM) (s:S):eX m s=(m s).out λx=>.next x.2:=rfl
@[simp] theorem QB (m:EM) (s:S):bD m s=(m s).out λx=>.ret x.1 x.2:=rfl
@[simp] theorem QQ (s:S):Qj s=.ret .non s:=rfl
@[simp] theorem QV (c:TM) (a b:SM) (s:S):ifS c a b s=(c s).out λx=>if x.1 then a x.2 else b x.2:=rfl
@[simp] theorem Q4 (c:TM) (a b:EM) (s:S):ifM c a b s=(c s).bind λx=>if x.1 then a x.2 else b x.2:=rfl
@[simp] theorem EK {i:Nat} {d:D} {s:S}:aB i d s=.ok #[s.r.set i (pc d),s.o]:=rfl
@[simp] theorem sJ {g:GM} {s:S}:gA m g s=((m s).bind λx=>g x.1 x.2).out λs=>.next s:=rfl
@[simp] theorem QK (i:Nat) (f:Op2) (m:EM) (s:S):Qn i f m s=gA (ak f (aa i) m) (aB i) s:=rfl
@[simp] theorem LA {s:S}:bM s=.ok (qc,s):=rfl
@[simp] theorem Bv {s:S}:d6 s=.ok (pi,s):=rfl
@[simp] theorem AR {s:S}:part m s=(m s).bind λx=>match x.1 with
 | .int i=>.ok (pc i,x.2)
 | _=>.bad:=rfl
@[simp] theorem DN {s:S}:slM me ml mh s=(me s).bind λx=>(ml x.2).bind λl=>(mh l.2).bind λh=>match lsD h.2.o x.1 with
 | some ds=>.ok (.lst (cutD ds l.1 h.1),h.2)
 | none=>.bad:=rfl
@[simp] theorem b9 {s:S}:listI m s=(m s).bind λx=>(itemsOf x.2.o x.1).bind λy=>.ok (y,x.2):=rfl
@[simp] theorem OT (O:aC) (ds:List D):itemsOf O (.lst ds)=.ok (ds,pi):=rfl
theorem MU{g:GM}{s:S}:eL im g body s=(im s).out λy=>bT (okC y.1.1 y.1.2) g body y.1.1 y.2:=rfl
theorem pM{m:Nat}{g:GM}{c:TM}{s:S}:nV m caps im g c e s=(im s).bind λy=>
 (dR (okC y.1.1 y.1.2) g c e y.1.1 [] #[mE m caps y.2.r,y.2.o]).bind λz=>.ok (z.1,#[y.2.r,z.2.o]):=rfl
theorem lS{m:Nat}{g:GM}{c:TM}{s:S}:bL m caps im g c e s=(nV m caps im g c e s).bind λy=>.ok (.lst y.1,y.2):=rfl
theorem D9{m:Nat}{g:GM}{c:TM}{s:S}:nO m caps im g c e s=(nV m caps im g c e s).bind λy=>.ok (.ptr y.2.o.length,#[y.2.r,y.2.o++[.lst y.1]]):=rfl
@[simp] theorem KC {f:FM} {m:AM} {s:S}:aX n f m s=(m s).bind λx=>if aR x.1=qc/\x.1.length=n then (match f x.1 [] with
 | .ok (d,_)=>if cW d=qc then .ok (d,x.2) else .bad
 | _=>.bad) else .bad:=rfl
@[simp] theorem Lz {f:FM} {m:AM} {s:S}:d3 n f m s=(m s).bind λx=>if aR x.1=qc/\x.1.length=n then (match f x.1 [] with
 | .ok (d,O1)=>.ok (shD x.2.o.length d,#[x.2.r,x.2.o++O1.map (shC x.2.o.length)])
 | _=>.bad) else .bad:=rfl
@[simp] theorem Qu (n:Nat) (f:FM) (m:AM) (s:S):lr n f m s=(m s).bind λx=>if aR (cz x.2.o (cz x.2.o x.1))=qc/\x.1.length=n then (match f (cz x.2.o (cz x.2.o x.1)) [] with
 | .ok (d,_)=>if pe d=qc then .ok (d,x.2) else .bad
 | _=>.bad) else .bad:=rfl
@[simp] theorem La {s:S}:CJ m s=(m s).bind λx=>match wH x.2.o x.1 with
 | some ds=>.ok (.ptr x.2.o.length,#[x.2.r,x.2.o++[.lst ds]])
 | none=>.bad:=rfl
@[simp] theorem Nb {s:S}:iG m s=(m s).bind λx=>match kG x.2.o x.1 with
 | some (k,ds)=>.ok (.lst ds,#[x.2.r,x.2.o.set k .dead])
 | none=>.bad:=rfl
@[simp] theorem M4 {s:S}:lY mo me s=(mo s).bind λx=>match kG x.2.o x.1 with
 | some _=>(me x.2).bind λy=>match kG y.2.o x.1 with
  | some (k,ds)=>if ds.length<16777216 then .ok (.non,#[y.2.r,y.2.o.set k (.lst (ds++[y.1]))]) else .bad
  | none=>.bad
 | none=>.bad:=rfl
@[simp] theorem jx (h:O[k]? =pc (.lst ds)):lsD O (.ptr k)=pc ds:=by unfold lsD;simp only[h]
@[simp] theorem nB (h:O[k]? =pc (.lst ds)):kG O (.ptr k)=pc (k,ds):=by unfold kG;simp only[h]
@[simp] theorem Ip:wH O (.lst ds)=pc ds:=rfl
@[simp] theorem PK (O:aC) (ds:List D):wH O (.tup ds)=pc ds:=rfl
@[simp] theorem PR (h:O[k]? =pc (.lst ds)):wH O (.ptr k)=pc ds:=by show lsD O (.ptr k)=_;exact jx h
@[simp] theorem xj (h:O[k]? =pc (.lst ds)):itemsOf O (.ptr k)=.ok (ds,pc k):=by unfold itemsOf;simp only[h]
@[simp] theorem iT:shD n (.ptr k)=.ptr (n+k):=by unfold shD;rfl
@[simp] theorem G9:aR []=true:=by unfold aR;rfl
@[simp] theorem jt {d:D}:aR (d::ds)=(cW d&&aR ds):=by conv=>lhs;unfold aR
@[simp] theorem BE:cW (.int i)=true:=by unfold cW;rfl
@[simp] theorem P9 (i:Bool):cW (.bl i)=true:=by unfold cW;rfl
@[simp] theorem PU (i:Str):cW (.str i)=true:=by unfold cW;rfl
@[simp] theorem PN:cW .non=true:=by unfold cW;rfl
@[simp] theorem oo:cW (.lst ds)=aR ds:=by conv=>lhs;unfold cW
@[simp] theorem PM (ds:List D):cW (.tup ds)=aR ds:=by conv=>lhs;unfold cW
@[simp] theorem OV (ns:List Int):aR (ns.map D.int)=true:=vC ns
@[simp] theorem Md:res O (.int i)=.int i:=by unfold res;rfl
@[simp] theorem QU (O:aC) (i:Bool):res O (.bl i)=.bl i:=by unfold res;rfl
@[simp] theorem QP (O:aC) (i:Str):res O (.str i)=.str i:=by unfold res;rfl
@[simp] theorem QG (O:aC):res O .non=.non:=by unfold res;rfl
@[simp] theorem sq:res O (.lst ds)=.lst (cz O ds):=by conv=>lhs;unfold res
@[simp] theorem Np:res O (.tup ds)=.tup (cz O ds):=by conv=>lhs;unfold res
@[simp] theorem sr (h:O[k]? =pc (.lst ds)):res O (.ptr k)=.lst ds:=by conv=>lhs;unfold res;simp only[h]
@[simp] theorem uh (O:aC):cz O []=[]:=by unfold cz;rfl
@[simp] theorem qX {d:D}:cz O (d::ds)=res O d::cz O ds:=by conv=>lhs;unfold cz
@[simp] theorem tM:cz O (ns.map D.int)=ns.map D.int:=qV ns
@[simp] theorem P7 (b:Bool):pe (.bl b)=true:=rfl
@[simp] theorem PQ (b:Int):pe (.int b)=true:=rfl
@[simp] theorem PJ (b:Str):pe (.str b)=true:=rfl
@[simp] theorem Qz (h:O[k]? =pc (.lst ds)) (c:String):oG c O (.ptr k)=.ok (.bl (fP "list" c)):=by unfold oG tyD;simp only[h]
@[simp] theorem B4 (n:Nat):∀ns:List Int,fG n (ns.map D.int)=ns.map D.int
 | []=>by simp[fG]
 | m::ns=>by simp[fG,shD,B4 n ns]
@[simp] theorem Ge:shC n (.lst ds)=.lst (fG n ds):=rfl
theorem mr{m:SM}{d:D}(h:∃s,m #[ds.map pc++u0 (n-ds.length) pi,O]=.ret d s):∃O1,runM n m ds O=.ok (d,O1):=by obtain⟨s,h⟩:=h;exact#[s.o,cv h]
end
mutual
theorem Kv{O:aC}:∀{d:D},cW d=qc->res O d=d
 | .non,_=>by unfold res;rfl
 | .bl _,_=>by unfold res;rfl
 | .int _,_=>by unfold res;rfl
 | .str _,_=>by unfold res;rfl
 | .lst ds,h=>by rw[sq,qD (by simpa using h)]
 | .tup ds,h=>by rw[Np,qD (by simpa using h)]
 | .ptr _,h=>by unfold cW at h;cases h
 | .obj c ns ds,h=>by unfold res;rfl
 | .exn c,h=>by unfold res;rfl
theorem qD{O:aC}:∀{ds:List D},aR ds=qc->cz O ds=ds
 | [],_=>uh O
 | d::ds,h=>by rw[jt,RJ] at h;rw[qX,Kv h.1,qD h.2]
end
theorem FU(h:O[k]? =pc (.lst ds))(hp:aR ds=qc)(es:List D):eqB O (.ptr k) (.lst es)=eqB O (.lst ds) (.lst es):=by show kO O _ _=kO O _ _;unfold kO;simp only[sr h,sq,qD hp]
@[simp] theorem QS (h:O[k]? =pc (.lst ds)) (hp:aR ds=qc) (es:List D):eqD O (.ptr k) (.lst es)=eqD O (.lst ds) (.lst es):=by unfold eqD;rw[FU h hp]
@[simp] theorem QA (h:O[k]? =pc (.lst ds)) (hp:aR ds=qc) (es:List D):neD O (.ptr k) (.lst es)=neD O (.lst ds) (.lst es):=by unfold neD;rw[FU h hp]
def rat(a b:Int):Int×Int:=(a.fdiv (if b<0 then -(Fa a b:Int) else Fa a b),b.fdiv (if b<0 then -(Fa a b:Int) else Fa a b))
theorem xY{a b:Int}(h:b≠0):∃g:Int,g≠0/\g.natAbs=Fa a b/\a=g*(rat a b).1/\b=g*(rat a b).2/\0<(rat a b).2/\Fa (rat a b).1 (rat a b).2=1:=by
 have U:0<Fa a b:=T4 a h;have ha:(Fa a b:Int) ∣ a:=Int.gcd_dvd_left a b;have hb:(Fa a b:Int) ∣ b:=Int.gcd_dvd_right a b;obtain⟨x,hx⟩:=ha;obtain⟨y,hy⟩:=hb;have one:Fa x y=1:=by
  have e:Fa a b=Fa a b*Fa x y:=by
   have J:Fa ((Fa a b:Int)*x) ((Fa a b:Int)*y)=Fa a b*Fa x y:=by rw[Int.gcd_mul_left,RM]
   rw[<- hx,<- hy] at J;exact J
  have:Fa a b*1=Fa a b*Fa x y:=by rw[Nat.mul_one];exact e
  exact(Nat.eq_of_mul_eq_mul_left U this).symm
 by_cases hn:b<0
 ·have hc:(-(Fa a b:Int))≠0:=⋯;have e1:(rat a b).1= -x:=by
   unfold rat;rw[if_pos hn];show a.fdiv _=_;conv=>lhs;lhs;rw[hx,<- S9]
   exact SE _ hc
  have e2:(rat a b).2= -y:=by
   unfold rat;rw[if_pos hn];show b.fdiv _=_;conv=>lhs;lhs;rw[hy,<- S9]
   exact SE _ hc
  refine#[-(Fa a b:Int),hc,by rw[Tg,RM],by rw[e1,S9];exact hx,by rw[e2,S9];exact hy, ?_, ?_];rw[e2];have:¬0<=y:=λz=>by have:=Rq (show (0:Int)<=(Fa a b:Int) by omega) z;omega
  omega;rw[e1,e2,Int.neg_gcd,Int.gcd_neg];exact one
 ·have hc:(Fa a b:Int)≠0:=⋯;have e1:(rat a b).1=x:=by
   unfold rat;rw[if_neg hn];show a.fdiv _=_;conv=>lhs;lhs;rw[hx]
   exact SE _ hc
  have e2:(rat a b).2=y:=by
   unfold rat;rw[if_neg hn];show b.fdiv _=_;conv=>lhs;lhs;rw[hy]
   exact SE _ hc
  refine#[(Fa a b:Int),hc,by rw[RM],by rw[e1];exact hx,by rw[e2];exact hy, ?_, ?_];rw[e2];have Y:0<b:=⋯;have:¬y<=0:=λz=>by have:=Su (show (0:Int)<=(Fa a b:Int) by omega) z;omega
  omega;rw[e1,e2];exact one
theorem GF{a b:Int}(h:b≠0):(rat a b).1.natAbs<=a.natAbs/\(rat a b).2.natAbs<=b.natAbs:=by
 obtain⟨g,U,_,e1,e2,_⟩:=xY (a:=a) h;have J:1<=g.natAbs:=⋯;constructor
 ·conv=>rhs;rw[e1,Th]
  exact To _ J
 ·conv=>rhs;rw[e2,Th]
  exact To _ J
theorem dh{ok:aC->Prop}{g:GM}{body:SM}(P:List D->S->Prop)(U:∀pre s,P pre s->ok s.o):∀(ds pre:List D),
 (∀J d rest,pre++ds=J++d::rest->∀s,P J s->∃s1 s2,g d s=.ok s1/\(body s1=.next s2\/body s1=.cnt s2)/\P (J++[d]) s2)->∀s,P pre s->∃s',bT ok g body ds s=.next s'/\P (pre++ds) s'
 | [],pre,_,s,h=>#[s,by rw[bT,if_pos (U _ _ h)],by simpa using h]
 | d::ds,pre,step,s,h=>by obtain⟨s1,s2,e1,e2,h2⟩:=step pre d ds rfl s h;obtain⟨s',e3,Y⟩:=dh P U ds (pre++[d]) (λJ d' rest e=>step J d' rest (by simpa using e)) s2 h2;refine#[s', ?_,by simpa using Y];rw[bT,if_pos (U _ _ h),e1,kN];rcases e2 with e2 | e2 <;> (rw[e2];exact e3)
theorem cY{g:GM}{s s1:S}{k:Option Nat}(h:im s=.ok ((ds,k),s1)):eL im g body s=bT (okC ds k) g body ds s1:=by rw[MU,h,kN]
theorem fL{m:AM}{s s1:S}(h:m s=.ok ([.int (n:Int)],s1))(hn:n<=1000000):fb m s=.ok ((cX 0 (n:Int),pi),s1):=by show (m s).bind _=_;rw[h,aj];dsimp only;rw[if_pos (by constructor <;> omega)]
section
variable {O : aC}
@[simp] theorem Rk (d:D) (ds:List D):ixD O (.tup (d::ds)) (.int 0)=.ok d:=f9 (by rw[qz ∅ (by simp)];rfl)
@[simp] theorem Rj (d e:D) (ds:List D):ixD O (.tup (d::e::ds)) (.int 1)=.ok e:=f9 (by rw[qz ∅ (by simp;omega)];rfl)
@[simp] theorem Qv:ixD O (.lst (d::ds)) (.int 0)=.ok d:=nG (by rw[qz ∅ (by simp)];rfl)
@[simp] theorem Rn (d e:D) (ds:List D):ixD O (.lst (d::e::ds)) (.int 1)=.ok e:=nG (by rw[qz ∅ (by simp;omega)];rfl)
theorem vQ(ns:List Int):SeqAt.shaped (.tuple (ns.map PyData.int))=true:=by simp[SeqAt.shaped,PyData.canLay0,rM,PyData.depth,ud]
theorem BV(ns ms:List Int):eqB O (.tup (ns.map D.int)) (.tup (ms.map D.int))=pc (decide (ns=ms)):=by show kO O _ _=_;unfold kO;simp only[res,qV,toPy,tw,SH];rw[if_pos #[vQ ns,vQ ms]];simp only[PyData.eqv,xO]
@[simp] theorem QW (a b c d:Int):eqD O (.tup [.int a,.int b]) (.tup [.int c,.int d])=.ok (.bl (decide (a=c/\b=d))):=by have:=BV (O:=O) [a,b] [c,d];unfold eqD;rw[show eqB O (.tup [.int a,.int b]) (.tup [.int c,.int d])=_ from this];simp
@[simp] theorem Q2 (a b c d:Int):neD O (.tup [.int a,.int b]) (.tup [.int c,.int d])=.ok (.bl (!decide (a=c/\b=d))):=by have:=BV (O:=O) [a,b] [c,d];unfold neD;rw[show eqB O (.tup [.int a,.int b]) (.tup [.int c,.int d])=_ from this];simp
theorem BO(hn:n<=9000)(h:j≠0)(h2:Sz n j):d4 O (.int i) (.int j)=.ok (.int (i.fdiv j)):=mj h
end
noncomputable def wu:SM:=(aK (ifS (a7 (ak ltD (aa 1) (aq (.int 0)))) (setM 2 (unM jb (aa 2))) bC) (bD (jE (af (ak d4 (aa 0) (aa 2)) (af (ak d4 (aa 1) (aa 2)) ao)))))
theorem NH{a b:Int}(hb:b≠0)(h:Sz n b):Sz n (Fa a b:Int):=by unfold Sz at *;rw[RM];exact Sk (Nat.gcd_le_right _ ⋯) h
theorem G6(hn:n<=9000){a b:Int}(hb:b≠0)(h:Sz n b)(O:aC):∃s,wu #[[pc (.int a),pc (.int b),pc (.int (Fa a b:Int))],O]=.ret (.tup [.int (rat a b).1,.int (rat a b).2]) s/\s.o=O:=by
 have Y:0<Fa a b:=T4 a hb;have hz:=NH (a:=a) hb h;by_cases J:b<0;have U:Sz n (-(Fa a b:Int)):=by unfold Sz at *;rw[Tg];exact hz
 refine#[#[[pc (.int a),pc (.int b),pc (.int (-(Fa a b:Int)))],O], ?_,rfl];simp[wu,J,BO hn (show -(Fa a b:Int)≠0 by omega) U,rat];refine#[#[[pc (.int a),pc (.int b),pc (.int (Fa a b:Int))],O], ?_,rfl];simp[wu,J,BO hn (show (Fa a b:Int)≠0 by omega) hz,rat]
theorem Sz.rat{n m:Nat}{a b:Int}(hb:b≠0)(h:Sz n a)(h':Sz m b):Sz n (rat a b).1/\Sz m (rat a b).2:=
 #[Sk (GF hb).1 h,Sk (GF hb).2 h']
theorem Sz.sub{m n:Nat}(h:Sz m i)(h':Sz n j):Sz (max m n+1) (i-j):=by rw[Int.sub_eq_add_neg];refine Sz.add h ?_;unfold Sz at *;rw[Tg];exact h'
theorem Sz.neg{m:Nat}(h:Sz m i):Sz m (-i):=by unfold Sz at *;rw[Tg];exact h
def bt:Nat->(Nat->Int)->Int
 | 0,_=>0
 | n+1,f=>bt n f+f n
theorem bS{n:Nat}{f g:Nat->Int}(h:∀i,i<n->f i=g i):bt n f=bt n g:=by
 induction n with
 | zero=>rfl
 | succ n J=>rw[bt,bt,J λi hi=>h i ⋯,h n ⋯]
theorem eS{n:Nat}{f:Nat->Int}(h:∀i,i<n->f i=0):bt n f=0:=by
 induction n with
 | zero=>rfl
 | succ n J=>rw[bt,J λi hi=>h i ⋯,h n ⋯];rfl
theorem nE:bt n (λi=>f i+g i)=bt n f+bt n g:=by
 induction n with
 | zero=>rfl
 | succ n J=>simp only[bt,J];omega
theorem dD{c:Int}:bt n (λi=>c*f i)=c*bt n f:=by
 induction n with
 | zero=>simp[bt]
 | succ n J=>simp only[bt,J,Int.mul_add]
theorem gi{n k:Nat}(hk:k<n){f:Nat->Int}(h:∀i,i<n->i≠k->f i=0):bt n f=f k:=by
 induction n with
 | zero=>omega
 | succ n J=>
  rw[bt];by_cases e:k=n;subst e;rw[eS λi hi=>h i ⋯ ⋯];omega;rw[J ⋯ λi hi=>h i ⋯,h n ⋯ ⋯];omega
def nth(r:List Int)(i:Nat):Int:=r.getD i 0
def dP(n:Nat)(r:List Int)(x:Nat->Int):Int:=bt n λi=>nth r i*x i
def eE(n:Nat)(R:List (List Int))(x:Nat->Int):Prop:=∀r∈R,dP n r x=0
def low(ns:List Int):List Int:=if cM ns=0 then ns else ns.map (· / (cM ns:Int))
theorem low_length:(low ns).length=ns.length:=by unfold low;split <;> simp
theorem iQ{f:Int->Int}(h0:f 0=0)(r:List Int)(i:Nat):nth (r.map f) i=f (nth r i):=by
 unfold nth;rw[pr,pr,wv];cases r[i]? with
 | none=>exact h0.symm
 | some a=>rfl
theorem pA{i:Nat}(h:i<r.length):nth r i∈r:=by unfold nth;rw[pr,sK h];exact AL h
theorem jw{i:Nat}(h:r.length<=i):nth r i=0:=by unfold nth;rw[pr,SU h];rfl
theorem qm(r:List Int)(i:Nat):((cM r:Nat):Int) ∣ nth r i:=by by_cases h:i<r.length;exact Dz (pA h);rw[jw ⋯];exact Int.dvd_zero _
def zj(r:List Int):Int:=if cM r=0 then 1 else (cM r:Int)
theorem qH(r:List Int):0<zj r:=by unfold zj;split <;> omega
theorem sk(r:List Int)(i:Nat):nth r i=zj r*nth (low r) i:=by unfold low zj;split;omega;rw[iQ (by simp),Int.mul_ediv_cancel' (qm r i)]
theorem C9(h:cM r=0)(i:Nat):nth r i=0:=by have:=qm r i;rw[h] at this;simpa using this
theorem FW{i:Nat}(h:nth r i≠0):cM (low r)=1:=by have h0:cM r≠0:=λe=>h (C9 e i);unfold low;rw[if_neg h0];exact Kt (Nat.pos_of_ne_zero h0)
def g6(one:List Int)(v:Int)(other:List Int)(w:Int):List Int:=R4 (λa b=>a*w-b*v) one other
def c9(one:List Int)(v:Int)(other:List Int)(w:Int):List Int:=low (g6 one v other w)
theorem nX{one other:List Int}(h:one.length=other.length)(v w:Int):(g6 one v other w).length=one.length:=by unfold g6;rw[RU,<- h,Nat.min_self]
theorem uv{one other:List Int}(h:one.length=other.length)(v w:Int)(i:Nat):nth (g6 one v other w) i=nth one i*w-nth other i*v:=by by_cases hi:i<one.length;unfold g6 nth;simp only[pr,UQ,sK hi,sK (h▸hi:i<other.length)];rfl;rw[jw (by rw[nX h];omega),jw (r:=one) ⋯,jw (r:=other) ⋯];simp
theorem nS{one other:List Int}(h:one.length=other.length)(v w:Int):(c9 one v other w).length=one.length:=by unfold c9;rw[low_length,nX h]
theorem t5{one other:List Int}(h:one.length=other.length)(v w:Int):∃g:Int,0<g/\∀i,g*nth (c9 one v other w) i=nth one i*w-nth other i*v:=by refine#[zj (g6 one v other w),qH _,λi=> ?_];unfold c9;rw[<- sk,uv h]
theorem EG{a b c:List Int}{g u v:Int}(h:∀i,g*nth c i=u*nth a i+v*nth b i)(x:Nat->Int):g*dP n c x=u*dP n a x+v*dP n b x:=by unfold dP;rw[<- dD,<- dD,<- dD,<- nE];refine bS λi _=> ?_;have:=h i;grind
theorem ug{a c:List Int}{g:Int}(h:∀i,nth a i=g*nth c i)(x:Nat->Int):dP n a x=g*dP n c x:=by unfold dP;rw[<- dD];refine bS λi _=> ?_;rw[h i,Rt]
theorem yy{one other:List Int}(h:one.length=other.length)(v w:Int)(x:Nat->Int):∃g:Int,0<g/\g*dP n (c9 one v other w) x=w*dP n one x-v*dP n other x:=by obtain⟨g,J,e⟩:=t5 h v w;refine#[g,J, ?_];have:=EG (n:=n) (c:=c9 one v other w) (a:=one) (b:=other) (g:=g) (u:=w) (v:= -v) (λi=>by rw[e i];grind) x;rw[this];grind
theorem yw(n:Nat)(r:List Int)(x:Nat->Int):dP n (low r) x=0↔dP n r x=0:=by
 rw[ug (λi=>sk r i) x];have:=qH r;constructor;intro h;rw[h];simp;intro h;rcases PP.mp h with z | z
 omega;exact z
def dy:List Int->Option Nat
 | []=>pi
 | a::r=>if a≠0 then pc 0 else (dy r).map (· + 1)
theorem qq:∀{l:List Int},dy l=pi->∀a∈l,a=0
 | [],_,_,h=>by simp at h
 | b::r,e,a,h=>by
  unfold dy at e;split at e;cases e;rename_i hb;rcases u8.mp h with rfl | h
  simpa using hb;exact qq (by simpa using e) a h
theorem gU:∀{l:List Int} {k:Nat},dy l=pc k->k<l.length/\nth l k≠0/\∀i,i<k->nth l i=0
 | [],_,e=>by cases e
 | b::r,k,e=>by
  unfold dy at e;split at e;rename_i hb;cases e;exact#[by simp,hb,λi hi=>⋯];rename_i hb;cases e2:dy r with
  | none=>rw[e2] at e;cases e
  | some j=>
   rw[e2] at e;cases e;obtain⟨h1,h2,J⟩:=gU e2;refine#[by simp;omega,by simpa[nth] using h2,λi hi=> ?_];cases i with
   | zero=>simpa[nth] using hb
   | succ i=>simpa[nth] using J i (Nat.lt_of_succ_lt_succ hi)
def g7(row:List Int)(J:Nat):List Int:=if nth row J>0 then row else row.map (- ·)
def du(lead:List Int)(J:Nat)(row:List Int):List Int:=if nth row J=0 then row else c9 row (nth row J) lead (nth lead J)
def di(s:List (List Int)×List (List Int))(J:Nat):List (List Int)×List (List Int):=
 match dy (s.1.map (nth · J)) with
 | none=>s
 | some k=>((s.1.eraseIdx k).map (du (g7 (s.1.getD k []) J) J),s.2.map (du (g7 (s.1.getD k []) J) J)++[g7 (s.1.getD k []) J])
def cA(rows:List (List Int))(n:Nat):List (List Int):=((uM n).foldl di (rows.map low,[])).2
structure Good(n:Nat)(p:Nat×List Int):Prop where
 len:p.2.length=n
 lt:p.1<n
 pos:0<nth p.2 p.1
 zero:∀i,i<p.1->nth p.2 i=0
 one:cM p.2=1
structure Pl(n:Nat)(P:List (Nat×List Int)):Prop where
 good:∀p∈P,Good n p
 pw:P.Pairwise λp q=>p.1<q.1/\nth p.2 q.1=0
def v7(r:List Int):Prop:=∀i,nth r i≠0->cM r=1
theorem tD(r:List Int):v7 (low r):=λi h=>FW (i:=i) λz=>by
 have:=sk r i;rw[z] at this;rcases PP.mp this.symm with q | q
 have:=qH r;omega;exact h q
theorem KQ:cM (r.map (- ·))=cM r:=by
 unfold cM;have:∀(l:List Int) (c:Nat),(l.map (- ·)).foldl (λc n=>Sf c n.natAbs) c=l.foldl (λc n=>Sf c n.natAbs) c:=by
  intro l;induction l with
  | nil=>intro c;rfl
  | cons a l J=>intro c;simp only[ww,RX,Tg];exact J _
 exact this r 0
theorem xt:(g7 row a).length=row.length:=by unfold g7;split <;> simp
theorem Ef(row:List Int)(a:Nat):∃g:Int,(g=1\/g= -1)/\∀i,nth (g7 row a) i=g*nth row i:=by unfold g7;split;exact#[1,.inl rfl,λi=>⋯];exact#[-1,.inr rfl,λi=>by rw[iQ (by simp)];omega]
theorem HY(h:v7 row):v7 (g7 row a):=by unfold g7;split;exact h;intro i hi;rw[KQ];refine h i λz=>hi ?_;rw[iQ (by simp),z];rfl
theorem J7(h:nth row a≠0):0<nth (g7 row a) a:=by unfold g7;split;assumption;rw[iQ (by simp)];omega
theorem MN(n:Nat)(row:List Int)(a:Nat)(x:Nat->Int):dP n (g7 row a) x=0↔dP n row x=0:=by obtain⟨g,J,e⟩:=Ef row a;have:=ug (n:=n) (a:=g7 row a) (c:=row) e x;rw[this];rcases J with rfl | rfl <;> omega
section
variable {lead row : List Int} {a : Nat}
theorem xI(h:row.length=lead.length):(du lead a row).length=row.length:=by unfold du;split;rfl;exact nS h _ _
theorem xP(J:0<nth lead a)(h:row.length=lead.length):∃g u:Int,0<g/\0<u/\∃v:Int,(nth row a=0->v=0)/\∀i,g*nth (du lead a row) i=u*nth row i-v*nth lead i:=by unfold du;split;exact#[1,1,⋯,⋯,0,λ_=>rfl,λi=>⋯];rename_i hz;obtain⟨g,U,e⟩:=t5 h (nth row a) (nth lead a);exact#[g,nth lead a,U,J,nth row a,λz=>absurd z hz,λi=>by rw[e i];grind]
theorem GH(J:0<nth lead a)(h:row.length=lead.length):nth (du lead a row) a=0:=by
 unfold du;split;assumption;obtain⟨g,U,e⟩:=t5 h (nth row a) (nth lead a);have:=e a;have:g*nth (c9 row (nth row a) lead (nth lead a)) a=0:=by rw[this];grind
 rcases PP.mp this with z | z;omega;exact z
theorem Bd(h:v7 row):v7 (du lead a row):=by unfold du;split;exact h;exact tD _
theorem vB(J:0<nth lead a)(h:row.length=lead.length){i:Nat}(h1:nth row i=0)(h2:nth lead i=0):nth (du lead a row) i=0:=by
 obtain⟨g,u,U,hu,v,_,e⟩:=xP J h;have:=e i;rw[h1,h2] at this;have:g*nth (du lead a row) i=0:=by rw[this];grind
 rcases PP.mp this with z | z;omega;exact z
theorem KZ(J:0<nth lead a)(h:row.length=lead.length){i:Nat}(h1:0<nth row i)(h2:nth lead i=0):0<nth (du lead a row) i:=by
 obtain⟨g,u,U,hu,v,_,e⟩:=xP J h;have e':=e i;rw[h2] at e';have:0<g*nth (du lead a row) i:=by rw[e'];have:=RP hu h1;omega
 by_cases hn:nth (du lead a row) i<=0;have:=Su (show 0<=g by omega) hn;omega;omega
theorem wF(n:Nat)(J:0<nth lead a)(h:row.length=lead.length){x:Nat->Int}(hx:dP n lead x=0):dP n (du lead a row) x=0↔dP n row x=0:=by
 obtain⟨g,u,U,hu,v,_,e⟩:=xP J h;have:=EG (n:=n) (c:=du lead a row) (a:=row) (b:=lead) (g:=g) (u:=u) (v:= -v) (λi=>by rw[e i];grind) x;rw[hx] at this;constructor;intro z;rw[z] at this;have:u*dP n row x=0:=⋯;rcases PP.mp this with q | q
 omega;exact q;intro z;rw[z] at this;have:g*dP n (du lead a row) x=0:=⋯;rcases PP.mp this with q | q
 omega;exact q
end
structure PSt(n a:Nat)(left:List (List Int))(P:List (Nat×List Int)):Prop where
 ll:∀r∈left,r.length=n
 lz:∀r∈left,∀i,i<a->nth r i=0
 lw:∀r∈left,v7 r
 pl:Pl n P
 pa:∀p∈P,p.1<a
theorem xE:nth (left.map (nth · a)) k=nth (left.getD k []) a:=by
 unfold nth;simp only[pr,wv];cases left[k]? with
 | none=>rfl
 | some r=>rfl
theorem getD_mem(h:k<left.length):left.getD k []∈left:=by rw[pr,sK h];exact AL h
theorem t9:∀{l:List (List Int)} {k:Nat} (h:k<l.length),l.Perm (l[k]::l.eraseIdx k)
 | [],k,h=>by simp at h
 | a::l,0,h=>by simp
 | a::l,k+1,h=>by have:=t9 (l:=l) (k:=k) (by simpa using h);simp only[List.getElem_cons_succ,UC];exact(this.cons a).trans (VH _ _ _)
theorem MK(ha:a<n)(h:PSt n a left P):
 ∃J P',di (left,P.map (·.2)) a=(J,P'.map (·.2))/\PSt n (a+1) J P'/\J.length+P'.length=left.length+P.length/\∀x,eE n (P'.map (·.2)++J) x↔eE n (P.map (·.2)++left) x:=by
 unfold di;dsimp only;split;rename_i e;refine#[left,P,rfl,#[h.ll,λr hr i hi=> ?_,h.lw,h.pl,λp hp=>Tl (h.pa p hp)],rfl,λx=>Vd];by_cases am:i=a;subst am;exact qq e _ (ss.mpr #[r,hr,rfl]);exact h.lz r hr i ⋯;rename_i k e;obtain⟨k1,k2,_⟩:=gU e;rw[sB] at k1;rw[xE] at k2;have hm:left.getD k []∈left:=getD_mem k1;have Y:left.Perm (left.getD k []::left.eraseIdx k):=by rw[pr,sK k1];exact t9 k1
 generalize left.getD k []=row at *;generalize ab:g7 row a=lead at *;have ll:lead.length=n:=by rw[<- ab,xt];exact h.ll row hm
 have lp:0<nth lead a:=by rw[<- ab];exact J7 k2
 have lz:∀i,i<a->nth lead i=0:=λi hi=>by obtain⟨g,_,e⟩:=Ef row a;rw[<- ab,e,h.lz row hm i hi];omega
 have lw:v7 lead:=by rw[<- ab];exact HY (h.lw row hm)
 have sub:∀r∈left.eraseIdx k,r∈left:=λr hr=>RK hr;refine#[(left.eraseIdx k).map (du lead a),P.map (λp=>(p.1,du lead a p.2))++[(a,lead)], ?_,#[?_, ?_, ?_,#[?_, ?_], ?_], ?_, ?_];simp[Sw];intro r hr;obtain⟨q,hq,rfl⟩:=ss.mp hr;rw[xI (by rw[ll,h.ll q (sub q hq)]),h.ll q (sub q hq)];intro r hr i hi;obtain⟨q,hq,rfl⟩:=ss.mp hr;have U:q.length=lead.length:=by rw[ll,h.ll q (sub q hq)]
 by_cases am:i=a;subst am;exact GH lp U;exact vB lp U (h.lz q (sub q hq) i ⋯) (lz i ⋯);intro r hr;obtain⟨q,hq,rfl⟩:=ss.mp hr;exact Bd (h.lw q (sub q hq));intro p hp;rcases wE.mp hp with hp | hp
 obtain⟨q,hq,rfl⟩:=ss.mp hp;have g:=h.pl.good q hq;have U:q.2.length=lead.length:=by rw[ll,g.len]
 have pp:=KZ lp U g.pos (lz q.1 (h.pa q hq));exact#[by rw[xI U];exact g.len,g.lt,pp,λi hi=>vB lp U (g.zero i hi) (lz i (Nat.lt_trans hi (h.pa q hq))),Bd (λi _=>g.one) q.1 ⋯];rw[wn.mp hp];exact#[ll,ha,lp,lz,lw a ⋯];rw[List.pairwise_append];refine#[?_,by simp,λp hp q hq=> ?_];rw[Sv];refine RY (λ{p q} hp hq hpq=> ?_) h.pl.pw;refine#[hpq.1, ?_];have g:=h.pl.good p hp;exact vB lp (by rw[ll,g.len]) hpq.2 (lz q.1 (h.pa q hq));obtain⟨p',hp',rfl⟩:=ss.mp hp;rw[wn.mp hq];exact#[h.pa p' hp',GH lp (by rw[ll,(h.pl.good p' hp').len])];intro p hp;rcases wE.mp hp with hp | hp
 obtain⟨q,hq,rfl⟩:=ss.mp hp;exact Tl (h.pa q hq);rw[wn.mp hp];exact Tu a;have:=Y.length_eq;simp only[sB,xL,xa,UI] at *;omega;intro x;have al:dP n lead x=0↔dP n row x=0:=by rw[<- ab];exact MN n row a x
 constructor;intro hx r hr;have h0:dP n lead x=0:=hx lead (by simp);rcases wE.mp hr with hr | hr
 obtain⟨p,hp,rfl⟩:=ss.mp hr;exact(wF n lp (by rw[ll,(h.pl.good p hp).len]) h0).mp (hx _ (RB _ (ss.mpr #[(p.1,du lead a p.2),by simp;exact .inl #[p.1,p.2,hp,rfl,rfl],rfl])));rcases u8.mp (Y.mem_iff.mp hr) with rfl | hr
 exact al.mp h0;exact(wF n lp (by rw[ll,h.ll r (sub r hr)]) h0).mp (hx _ (Fk _ (ss.mpr #[r,hr,rfl])));intro hx r hr;have h0:dP n lead x=0:=al.mpr (hx row (Fk _ hm));rcases wE.mp hr with hr | hr
 obtain⟨q,hq,rfl⟩:=ss.mp hr;rcases wE.mp hq with hq | hq
 obtain⟨p,hp,rfl⟩:=ss.mp hq;exact(wF n lp (by rw[ll,(h.pl.good p hp).len]) h0).mpr (hx _ (RB _ (ss.mpr #[p,hp,rfl])));rw[wn.mp hq];exact h0;obtain⟨q,hq,rfl⟩:=ss.mp hr;exact(wF n lp (by rw[ll,h.ll q (sub q hq)]) h0).mpr (hx _ (Fk _ (sub q hq)))
theorem yE{n:Nat}{left:List (List Int)}(Y:∀r∈left,r.length=n)(hw:∀r∈left,v7 r):∀a,a<=n->
 ∃J U,(uM a).foldl di (left,[])=(J,U.map (·.2))/\PSt n a J U/\J.length+U.length=left.length/\∀x,eE n (U.map (·.2)++J) x↔eE n left x
 | 0,_=>#[left,[],rfl,#[Y,λ_ _ i hi=>⋯,hw,#[by simp,by simp],by simp],by simp,λx=>by simp]
 | a+1,ha=>by obtain⟨l1,P1,e1,s1,c1,n1⟩:=yE Y hw a ⋯;obtain⟨l2,P2,e2,s2,c2,n2⟩:=MK ⋯ s1;refine#[l2,P2, ?_,s2,⋯,λx=>(n2 x).trans (n1 x)];rw[UF,Tk,e1];exact e2
theorem Jj(h:∀i,i<n->nth r i=0)(x:Nat->Int):dP n r x=0:=eS λi hi=>by rw[h i hi];omega
theorem jY(J:∀r∈rows,r.length=n):∃P,cA rows n=P.map (·.2)/\Pl n P/\P.length<=rows.length/\∀x,eE n (cA rows n) x↔eE n rows x:=by
 obtain⟨l,P,e,s,c,U⟩:=yE (n:=n) (left:=rows.map low) (λr hr=>by
  obtain⟨q,hq,rfl⟩:=ss.mp hr;rw[low_length];exact J q hq) (λr hr=>by
  obtain⟨q,hq,rfl⟩:=ss.mp hr;exact tD q) n (vr n)
 have e':cA rows n=P.map (·.2):=by unfold cA;rw[e]
 refine#[P,e',s.pl,by rw[sB] at c;omega,λx=> ?_];rw[e'];have Y:eE n (P.map (·.2)++l) x↔eE n (P.map (·.2)) x:=by
  constructor;exact λh r hr=>h r (RB _ hr);intro h r hr;rcases wE.mp hr with hr | hr
  exact h r hr;exact Jj (s.lz r hr) x
 have n2:eE n (rows.map low) x↔eE n rows x:=by constructor;exact λh r hr=>(yw n r x).mp (h _ (ss.mpr #[r,hr,rfl]));intro h r hr;obtain⟨q,hq,rfl⟩:=ss.mp hr;exact(yw n q x).mpr (h q hq)
 exact Y.symm.trans ((U x).trans n2)
def a6(n:Nat)(f g:Nat->Int):Int:=bt n λi=>f i*g i
theorem bW(n:Nat)(f g:Nat->Int):a6 n f g=a6 n g f:=bS λi _=>Rr _ _
theorem fX{x:Nat->Int}:dP n r x=a6 n (nth r) x:=rfl
theorem lK{a b c:Nat->Int}{g u v:Int}(h:∀i,i<n->g*c i=u*a i+v*b i)(x:Nat->Int):g*a6 n c x=u*a6 n a x+v*a6 n b x:=by unfold a6;rw[<- dD,<- dD,<- dD,<- nE];refine bS λi hi=> ?_;have:=h i hi;grind
theorem Bc{a b:Nat->Int}{u v:Int}(x:Nat->Int):a6 n x (λi=>u*a i+v*b i)=u*a6 n x a+v*a6 n x b:=by rw[bW n x a,bW n x b,bW,<- lK (g:=1) (c:=λi=>u*a i+v*b i) (λi _=>⋯) x];omega
theorem G8{n:Nat}{a b:Nat->Int}(h:∀i,i<n->a i=b i)(x:Nat->Int):a6 n a x=a6 n b x:=bS λi hi=>by rw[h i hi]
def dC(T:List Int)(R:List (List Int))(i:Nat):Int:=bt R.length λj=>nth T j*nth (R.getD j []) i
theorem qU{m n:Nat}{f:Nat->Nat->Int}:bt m (λi=>bt n λj=>f i j)=bt n λj=>bt m λi=>f i j:=by
 induction m with
 | zero=>rw[eS (n:=n) (f:=λj=>bt 0 λi=>f i j) λ_ _=>rfl];rfl
 | succ m J=>simp only[bt];rw[nE,J]
theorem K2{x:Nat->Int}:a6 n (dC T R) x=bt R.length λj=>nth T j*dP n (R.getD j []) x:=by
 unfold a6 dC;have:∀i,(bt R.length λj=>nth T j*nth (R.getD j []) i)*x i=bt R.length λj=>nth T j*(nth (R.getD j []) i*x i):=λi=>by rw[Rr,<- dD];refine bS λj _=>by grind
 rw[bS λi _=>this i,qU];refine bS λj _=> ?_;unfold dP;rw[<- dD]
theorem Cs{x:Nat->Int}(h:eE n R x):a6 n (dC T R) x=0:=by rw[K2];refine eS λj J=> ?_;rw[h _ (getD_mem J)];omega
def i4(n:Nat)(R:List (List Int))(x:Nat->Int):Prop:=∃k:Int,k≠0/\∃T:List Int,T.length=R.length/\∀i,i<n->k*x i=dC T R i
theorem i4.dot{x y:Nat->Int}(h:i4 n R x)(hy:eE n R y):a6 n x y=0:=by
 obtain⟨k,hk,T,_,e⟩:=h;have h1:k*a6 n x y=1*a6 n (dC T R) y+0*a6 n x y:=lK (g:=k) (c:=x) (a:=dC T R) (b:=x) (u:=1) (v:=0) (λi hi=>by rw[e i hi];omega) y;rw[Cs hy] at h1;have:k*a6 n x y=0:=⋯;rcases PP.mp this with z | z
 exact absurd z hk;exact z
theorem ui(J:T.length=R.length)(c:Int)(r:List Int)(i:Nat):dC (T++[c]) (R++[r]) i=dC T R i+c*nth r i:=by unfold dC;rw[xL,EQ,bt];congr 1;refine bS λj U=> ?_;simp only[nth,pr];rw[wP ⋯,wP U];simp only[nth,pr];rw[wS ⋯,wS ⋯,J];simp
def eh(n a:Nat):List Int:=(u0 n 0).set a 1
theorem dv(ha:a<n)(i:Nat):nth (eh n a) i=if i=a then 1 else 0:=by unfold eh nth;rw[pr,List.getElem?_set];by_cases h:a=i;subst h;simp[ha];rw[if_neg h,if_neg (λz=>h z.symm)];rw[GX];split <;> rfl
def cT(n:Nat):List (List Int):=(uM n).map (eh n)
def aH(a b:List Int):Int:=(R4 (· * ·) a b).sum
def eV(lists:List (List Int))(row:List Int):List (List Int):=
 match dy (lists.map (aH row)) with
 | none=>lists
 | some k=>(lists.eraseIdx k).map λone=>c9 one (aH row one) (lists.getD k []) (aH row (lists.getD k []))
def mz(rows:List (List Int))(n:Nat):List (List Int):=rows.foldl eV (cT n)
def bh(rows:List (List Int))(n:Nat):List (List Int):=cA (mz rows n) n
theorem D7:∀(a b:List Int),aH a b=bt b.length λi=>nth a i*nth b i
 | _,[]=>by unfold aH;simp[bt]
 | [],b::r=>by unfold aH;rw[eS λi _=>by unfold nth;simp];simp
 | a::l,b::r=>by
  have U:=D7 l r;unfold aH at *;rw[List.zipWith_cons_cons,S6,U,xa];have:∀(n:Nat) (f:Nat->Int),bt (n+1) f=f 0+bt n λi=>f (i+1):=by
   intro n f;induction n with
   | zero=>simp[bt]
   | succ n J=>rw[bt,J,bt];omega
  rw[this];congr 1
theorem jm{a b:List Int}(hb:b.length=n):aH a b=a6 n (nth a) (nth b):=by rw[D7,hb];rfl
structure SSt(n:Nat)(R lists:List (List Int)):Prop where
 len:∀l∈lists,l.length=n
 nul:∀r∈R,∀l∈lists,a6 n (nth r) (nth l)=0
 spn:∀x,eE n lists x->i4 n R x
theorem K8(n:Nat):SSt n [] (cT n):=by refine#[λl J=> ?_,λr hr=>by simp at hr,λx hx=>#[1,∅,[],rfl,λi hi=> ?_]];obtain⟨a,_,rfl⟩:=ss.mp J;unfold eh;simp;have:=hx (eh n i) (ss.mpr #[i,AC.mpr hi,rfl]);unfold dP at this;rw[gi hi (λj _ U=>by rw[dv hi,if_neg U];omega),dv hi,if_pos rfl] at this;rw[show dC [] [] i=0 from rfl];omega
theorem Em{R lists:List (List Int)}(hr:row.length=n)(s:SSt n R lists):SSt n (R++[row]) (eV lists row):=by
 unfold eV;split;rename_i e;have z:∀l∈lists,aH row l=0:=λl J=>qq e _ (ss.mpr #[l,J,rfl]);refine#[s.len,λr Y l J=> ?_,λx hx=> ?_];rcases wE.mp Y with q | q
 exact s.nul r q l J;rw[wn.mp q,<- jm (s.len l J)];exact z l J;obtain⟨k,hk,T,hT,e⟩:=s.spn x hx;exact#[k,hk,T++[0],by simp[hT],λi hi=>by rw[ui hT,e i hi];omega];rename_i k e;obtain⟨k1,k2,_⟩:=gU e;rw[sB] at k1;have hm:=getD_mem k1;have ab:lists.Perm (lists.getD k []::lists.eraseIdx k):=by rw[pr,sK k1];exact t9 k1
 have hv:nth (lists.map (aH row)) k=aH row (lists.getD k []):=by unfold nth;simp only[pr,wv,sK k1];rfl
 rw[hv] at k2;generalize lists.getD k []=base at *;have U:=s.len base hm;have sub:∀l∈lists.eraseIdx k,l∈lists:=λl J=>RK J;refine#[λl J=> ?_,λr Y l J=> ?_,λx hx=> ?_];obtain⟨q,hq,rfl⟩:=ss.mp J;rw[nS (by rw[U,s.len q (sub q hq)]),s.len q (sub q hq)];obtain⟨q,hq,rfl⟩:=ss.mp J;have am:=s.len q (sub q hq);obtain⟨g,hg,e⟩:=yy (n:=n) (one:=q) (other:=base) (by rw[U,am]) (aH row q) (aH row base) (nth r);rw[bW];simp only[fX] at e;rw[bW n (nth q),bW n (nth base)] at e;have z:g*a6 n (nth (c9 q (aH row q) base (aH row base))) (nth r)=0:=by rcases wE.mp Y with q' | q';rw[e,s.nul r q' q (sub q hq),s.nul r q' base hm];omega;rw[wn.mp q'] at e ⊢;rw[e,<- jm am,<- jm U];grind
 rcases PP.mp z with z | z;omega;exact z;have hc:∀l∈lists,aH row base*dP n l x=aH row l*dP n base x:=λl J=>by rcases u8.mp (ab.mem_iff.mp J) with rfl | hl';rfl;obtain⟨g,hg,e⟩:=yy (n:=n) (one:=l) (other:=base) (by rw[U,s.len l J]) (aH row l) (aH row base) x;rw[hx _ (ss.mpr #[l,hl',rfl])] at e;omega
 have an:eE n lists (λi=>aH row base*x i+(-(dP n base x))*nth row i):=λl J=>by rw[fX,Bc,<- fX,hc l J,bW,<- jm (s.len l J)];grind
 obtain⟨k',ap,T,hT,e'⟩:=s.spn _ an;refine#[k'*aH row base,UJ ap k2,T++[k'*dP n base x],by simp[hT],λi hi=> ?_];rw[ui hT,<- e' i hi];grind
theorem zg{n:Nat}:∀{rows:List (List Int)},(∀r∈rows,r.length=n)->∀{R lists:List (List Int)},SSt n R lists->SSt n (R++rows) (rows.foldl eV lists)
 | [],_,R,lists,s=>by simpa using s
 | row::rows,h,R,lists,s=>by have:=zg (rows:=rows) (λr hr=>h r (tz _ hr)) (Em (h row uC) s);simpa using this
theorem qv(h:∀r∈rows,r.length=n):SSt n rows (mz rows n):=by have:=zg h (K8 n);rw[wT] at this;exact this
theorem iH(h:∀r∈rows,r.length=n):
 ∃P,bh rows n=P.map (·.2)/\Pl n P/\(∀r∈rows,∀l∈bh rows n,a6 n (nth l) (nth r)=0)/\∀x,eE n (bh rows n) x->i4 n rows x:=by
 have s:=qv h;obtain⟨P,e,pl,_,U⟩:=jY (n:=n) (rows:=mz rows n) s.len;refine#[P,e,pl,λr hr l J=> ?_,λx hx=>s.spn x ((U x).mp hx)];have:eE n (mz rows n) (nth r):=λl J=>by rw[fX,bW];exact s.nul r hr l J
 exact(U _).mpr this l J
theorem oY(h:∀r∈rows,r.length=n)(x:Nat->Int):eE n (bh rows n) x↔i4 n rows x:=by obtain⟨P,_,_,h1,h2⟩:=iH h;refine#[h2 x,λs l J=> ?_];rw[fX,bW];exact s.dot λr hr=>by rw[fX,bW];exact h1 r hr l J
theorem HR:bt (n+1) f=f 0+bt n λi=>f (i+1):=by
 induction n with
 | zero=>simp[bt]
 | succ n J=>rw[bt,J,bt];omega
theorem Jg{i:Nat}:nth (r.drop 1) i=nth r (i+1):=by unfold nth;rw[pr,pr,List.getElem?_drop,Us]
def bI(rows:List (List Int))(goal:List Int):List (List Int):=(uM goal.length).map λa=>(goal::rows).map (nth · a)
def kE(rows:List (List Int))(goal:List Int):Option (Int×List Int):=match bh (bI rows goal) (1+rows.length) with
 | []=>pi
 | s::_=>if nth s 0=0 then pi else pc (nth s 0,(s.drop 1).map (- ·))
theorem iw:∀r∈bI rows goal,r.length=1+rows.length:=by intro r hr;obtain⟨a,_,rfl⟩:=ss.mp hr;simp;omega
theorem tN(rows:List (List Int))(goal:List Int)(h:a<goal.length)(j:Nat):nth ((bI rows goal).getD a []) j=nth ((goal::rows).getD j []) a:=by
 have:(bI rows goal).getD a []=(goal::rows).map (nth · a):=by unfold bI;rw[pr,wv,Sd h];rfl
 rw[this,xE]
theorem Ib(U:goal.length=n){b:Int}{ts:List Int}(e:kE rows goal=pc (b,ts)):
 0<b/\ts.length=rows.length/\∀i,i<n->b*nth goal i=dC ts rows i:=by
 obtain⟨P,J,pl,h1,_⟩:=iH (n:=1+rows.length) (rows:=bI rows goal) iw;unfold kE at e;split at e;cases e;rename_i s rest es;split at e;cases e;rename_i hz;cases e;have hs:s∈bh (bI rows goal) (1+rows.length):=by rw[es];exact uC
 rw[J] at hs;obtain⟨p,hp,rfl⟩:=ss.mp hs;have g:=pl.good p hp;have h0:p.1=0:=by by_cases h:p.1=0;exact h;exact absurd (g.zero 0 ⋯) hz
 have gp:=g.pos;rw[h0] at gp;refine#[gp,by rw[sB,S4,g.len];omega,λi hi=> ?_];have hd:=h1 ((bI rows goal).getD i []) (getD_mem (by unfold bI;simp;omega)) p.2 (by rw[J];exact hs);unfold a6 at hd;rw[Us 1,HR] at hd;rw[tN rows goal ⋯] at hd;unfold dC;have e2:(bt rows.length λj=>nth ((p.2.drop 1).map (- ·)) j*nth (rows.getD j []) i)=(-1)*bt rows.length λj=>nth p.2 (j+1)*nth ((bI rows goal).getD i []) (j+1):=by rw[<- dD];refine bS λj _=> ?_;rw[iQ (by simp),Jg,tN rows goal ⋯];show _= -1*(nth p.2 (j+1)*nth (rows.getD j []) i);grind
 rw[e2];have:nth ((goal::rows).getD 0 []) i=nth goal i:=rfl;rw[this] at hd;omega
theorem II(hg:goal.length=n)(e:kE rows goal=pi):∃t,eE n rows t/\a6 n (nth goal) t≠0:=by
 obtain⟨P,eP,pl,_,h2⟩:=iH (n:=1+rows.length) (rows:=bI rows goal) iw;have hz:∀l∈bh (bI rows goal) (1+rows.length),nth l 0=0:=by
  unfold kE at e;split at e;rename_i es;rw[es];simp;rename_i s rest es;split at e;rename_i hz;rw[eP] at es ⊢;cases P with
  | nil=>simp
  | cons p P=>
   rw[ww] at es;injection es with e1 e2
   intro l J;obtain⟨q,hq,rfl⟩:=ss.mp J;rcases u8.mp hq with rfl | hq'
   rw[e1];exact hz;have:=(OQ.mp pl.pw).1 q hq';exact(pl.good q hq).zero 0 ⋯
  cases e
 have hx:eE (1+rows.length) (bh (bI rows goal) (1+rows.length)) (λi=>if i=0 then 1 else 0):=λl J=>by unfold dP;rw[gi (k:=0) ⋯ (λi _ hi=>by dsimp only;rw[if_neg hi];omega)];dsimp only;rw[if_pos rfl,hz l J];rfl
 obtain⟨k,hk,T,hT,e3⟩:=h2 _ hx;have J:(bI rows goal).length=n:=by unfold bI;simp[hg]
 have Y:∀j,dC T (bI rows goal) j=a6 n (nth ((goal::rows).getD j [])) (nth T):=λj=>by unfold dC a6;rw[J];refine bS λi hi=> ?_;rw[tN rows goal ⋯,Rr]
 refine#[nth T,λr hr=> ?_, ?_];obtain⟨j,hj,rfl⟩:=Rw hr;have:=e3 (j+1) ⋯;dsimp only at this;rw[Y,if_neg ⋯] at this;rw[fX];have U:(goal::rows).getD (j+1) []=rows[j]:=by simp[pr,hj]
 rw[U] at this;omega;have:=e3 0 ⋯;dsimp only at this;rw[Y,if_pos rfl] at this;have U:(goal::rows).getD 0 []=goal:=rfl;rw[U] at this;omega
theorem C5(J:goal.length=n)(h:i4 n rows (nth goal)):∃b ts,kE rows goal=pc (b,ts):=by
 cases e:kE rows goal with
 | some x=>exact#[x.1,x.2,rfl]
 | none=>
  obtain⟨t,h1,h2⟩:=II J e;exact absurd (h.dot h1) h2
def iR(P:List (Nat×List Int)):Int:=(P.map λp=>nth p.2 p.1).foldr (· * ·) 1
theorem yO:∀{P:List (Nat×List Int)},(∀p∈P,0<nth p.2 p.1)->0<iR P
 | [],_=>∅
 | p::P,h=>RP (h p uC) (yO λq hq=>h q (tz _ hq))
theorem tG:∀{P:List (Nat×List Int)} {p:Nat×List Int},p∈P->nth p.2 p.1 ∣ iR P
 | q::P,p,h=>by rcases u8.mp h with rfl | h;exact Int.dvd_mul_right _ _;exact Int.dvd_trans (tG h) (Int.dvd_mul_left _ _)
def t8(P:List (Nat×List Int))(L:Int)(f i:Nat):Int:=(P.map λp=>if i=p.1 then nth p.2 f*(L/nth p.2 p.1) else 0).sum
def i9(P:List (Nat×List Int))(f i:Nat):Int:=(if i=f then iR P else 0)-t8 P (iR P) f i
theorem jZ{L:Int}{f i:Nat}:∀{P:List (Nat×List Int)},(∀p∈P,p.1≠i)->t8 P L f i=0
 | [],_=>rfl
 | p::P,h=>by unfold t8;rw[ww,S6,if_neg (λz=>h p uC z.symm)];have:=jZ (L:=L) (f:=f) (i:=i) (P:=P) λq hq=>h q (tz _ hq);unfold t8 at this;omega
theorem yj{L:Int}{f:Nat}:∀{P:List (Nat×List Int)} {p:Nat×List Int},P.Pairwise (λp q=>p.1<q.1/\nth p.2 q.1=0)->p∈P->t8 P L f p.1=nth p.2 f*(L/nth p.2 p.1)
 | q::P,p,pw,h=>by
  have h0:=OQ.mp pw;rcases u8.mp h with rfl | hp'
  have:=jZ (L:=L) (f:=f) (i:=p.1) (P:=P) λr hr=>by have:=(h0.1 r hr).1;omega
  unfold t8 at *;rw[ww,S6,if_pos rfl,this];omega;have J:=yj (L:=L) (f:=f) h0.2 hp';have:=(h0.1 p hp').1;unfold t8 at *;rw[ww,S6,if_neg ⋯,J];omega
theorem Pl.other(pl:Pl n P):∀{p q:Nat×List Int},p∈P->q∈P->p.1≠q.1->nth p.2 q.1=0:=by
 intro p q hp hq J;by_cases h:q.1<p.1;exact(pl.good p hp).zero _ h;have:∀{P:List (Nat×List Int)},P.Pairwise (λp q=>p.1<q.1/\nth p.2 q.1=0)->p∈P->q∈P->p.1<q.1->nth p.2 q.1=0:=by
  intro P pw hp hq U;induction P with
  | nil=>cases hp
  | cons r P Y=>
   have h0:=OQ.mp pw;rcases u8.mp hp with rfl | hp
   rcases u8.mp hq with rfl | hq;omega;exact(h0.1 q hq).2;rcases u8.mp hq with rfl | hq;have:=(h0.1 p (by assumption)).1;omega;exact Y h0.2 hp hq
 exact this pl.pw hp hq ⋯
theorem Kz{n f c:Nat}(U:f<n)(hc:c<n)(J:f≠c)(h:∀i,i<n->i≠f->i≠c->g i=0):bt n g=g f+g c:=by
 have:bt n g=bt n (λi=>if i=f then g f else 0)+bt n (λi=>if i=c then g c else 0):=by rw[<- nE];refine bS λi hi=> ?_;by_cases h1:i=f;subst h1;rw[if_pos rfl,if_neg J];omega;by_cases h2:i=c;subst h2;rw[if_neg h1,if_pos rfl];omega;rw[if_neg h1,if_neg h2,h i hi h1 h2];rfl
 rw[this,gi U (λi _ hi=>by rw[if_neg hi]),gi hc (λi _ hi=>by rw[if_neg hi]),if_pos rfl,if_pos rfl]
theorem By(pl:Pl n P){f:Nat}(U:f<n)(J:∀p∈P,p.1≠f)(hp:p∈P)(hr:∀q∈P,q.1≠p.1->nth r q.1=0):
 dP n r (i9 P f)=nth r f*iR P-nth r p.1*(nth p.2 f*(iR P/nth p.2 p.1)):=by
 unfold dP;rw[Kz U (pl.good p hp).lt (λz=>J p hp z.symm) (λi _ h1 h2=> ?_)];have e1:i9 P f f=iR P:=by unfold i9;rw[if_pos rfl,jZ J];omega
 have e2:i9 P f p.1= -(nth p.2 f*(iR P/nth p.2 p.1)):=by unfold i9;rw[if_neg (J p hp),yj pl.pw hp];omega
 rw[e1,e2];grind;by_cases hq:∃q∈P,q.1=i;obtain⟨q,hq,rfl⟩:=hq;rw[hr q hq h2];omega;have:i9 P f i=0:=by unfold i9;rw[if_neg h1,jZ λq hq' z=>hq #[q,hq',z]];rfl
 rw[this];omega
theorem tJ(pl:Pl n P){f:Nat}(Y:f<n)(J:∀p∈P,p.1≠f):eE n (P.map (·.2)) (i9 P f):=by
 intro r hr;obtain⟨p,hp,rfl⟩:=ss.mp hr;rw[By pl Y J hp λq hq h=>pl.other hp hq λz=>h z.symm];have hd:=tG hp;have U:=(pl.good p hp).pos;obtain⟨k,hk⟩:=hd;have:iR P/nth p.2 p.1=k:=by rw[hk,Td _ ⋯]
 rw[this,hk];grind
theorem HB(pl:Pl n P){f:Nat}(J:∀p∈P,p.1≠f){i:Nat}(hi:f<i):i9 P f i=0:=by unfold i9;rw[if_neg ⋯];by_cases hq:∃q∈P,q.1=i;obtain⟨q,hq,rfl⟩:=hq;rw[yj pl.pw hq,(pl.good q hq).zero f hi];omega;rw[jZ λq hq' z=>hq #[q,hq',z]];rfl
theorem Pl.leads_pos(pl:Pl n P):0<iR P:=yO λp hp=>(pl.good p hp).pos
theorem wV{P Q:List (Nat×List Int)}(pl:Pl n P)(U:Pl n Q)(h:∀x,eE n (Q.map (·.2)) x->eE n (P.map (·.2)) x)(hp:p∈P):∃q∈Q,q.1=p.1:=by
 apply Kb;intro hn;have J:∀q∈Q,q.1≠p.1:=λq hq z=>hn #[q,hq,z];have g:=pl.good p hp;have:=h _ (tJ U g.lt J) p.2 (ss.mpr #[p,hp,rfl]);unfold dP at this;rw[gi g.lt λi _ hi=> ?_] at this;have e:i9 Q p.1 p.1=iR Q:=by unfold i9;rw[if_pos rfl,jZ J];omega
 rw[e] at this;have h1:=U.leads_pos;have h2:=g.pos;have:=RP h2 h1;omega;by_cases Y:i<p.1;rw[g.zero i Y];omega;rw[HB U J ⋯];omega
theorem Cj:∀{l m:List Nat},l.Pairwise (· < ·)->m.Pairwise (· < ·)->(∀x,x∈l↔x∈m)->l=m
 | [],[],_,_,_=>rfl
 | [],b::m,_,_,h=>by have:=(h b).mpr uC;cases this
 | a::l,[],_,_,h=>by have:=(h a).mp uC;cases this
 | a::l,b::m,hl,hm,h=>by
  have h1:=OQ.mp hl;have h2:=OQ.mp hm;have J:a=b:=by rcases u8.mp ((h a).mp uC) with e | e;exact e;rcases u8.mp ((h b).mpr uC) with e' | e';exact e'.symm;have:=h1.1 b e';have:=h2.1 a e;omega
  subst J;congr 1;refine Cj h1.2 h2.2 λx=>#[λhx=> ?_,λhx=> ?_];rcases u8.mp ((h x).mp (tz _ hx)) with e | e
  have:=h1.1 x hx;omega;exact e;rcases u8.mp ((h x).mpr (tz _ hx)) with e | e
  have:=h2.1 x hx;omega;exact e
theorem DC(a:Int)(r:List Int):cM (r.map (a * ·))=a.natAbs*cM r:=by
 unfold cM;have:∀(l:List Int) (c:Nat),(l.map (a * ·)).foldl (λc n=>Sf c n.natAbs) (a.natAbs*c)=a.natAbs*l.foldl (λc n=>Sf c n.natAbs) c:=by
  intro l;induction l with
  | nil=>intro c;rfl
  | cons b l J=>intro c;simp only[ww,RX,Th,Nat.gcd_mul_left];exact J _
 exact this r 0
theorem u6(J:r.length=s.length)(h:∀i,i<r.length->nth r i=nth s i):r=s:=by refine S2 J λi h1 h2=> ?_;have:=h i h1;unfold nth at this;simpa[pr,h1,h2] using this
theorem FH(U:r.length=s.length)(h1:cM r=1)(h2:cM s=1){a b:Int}(ha:0<a)(hb:0<b)(h:∀i,i<r.length->a*nth r i=b*nth s i):r=s:=by
 have e:r.map (a * ·)=s.map (b * ·):=u6 (by simp[U]) λi hi=>by rw[iQ (by simp),iQ (by simp)];exact h i (by simpa using hi)
 have e2:=DC a r;rw[e,DC,h1,h2] at e2;have J:a=b:=⋯;subst J;exact u6 U λi hi=>Int.eq_of_mul_eq_mul_left ⋯ (h i hi)
theorem GO{P Q:List (Nat×List Int)}(pl:Pl n P)(U:Pl n Q)(h:∀x,eE n (P.map (·.2)) x↔eE n (Q.map (·.2)) x):P=Q:=by
 have hf:P.map (·.1)=Q.map (·.1):=by refine Cj (Sv.mpr (pl.pw.imp λh=>h.1)) (Sv.mpr (U.pw.imp λh=>h.1)) λx=>#[λhx=> ?_,λhx=> ?_];obtain⟨p,hp,rfl⟩:=ss.mp hx;obtain⟨q,hq,e⟩:=wV pl U (λx=>(h x).mpr) hp;exact ss.mpr #[q,hq,e];obtain⟨p,hp,rfl⟩:=ss.mp hx;obtain⟨q,hq,e⟩:=wV U pl (λx=>(h x).mp) hp;exact ss.mpr #[q,hq,e]
 have key:∀p∈P,∀q∈Q,p.1=q.1->p.2=q.2:=λp hp q hq ab=>by
  have gp:=pl.good p hp;have gq:=U.good q hq;refine FH (by rw[gp.len,gq.len]) gp.one gq.one (a:=nth q.2 q.1) (b:=nth p.2 p.1) gq.pos gp.pos λi hi=> ?_;by_cases Y:∃p'∈P,p'.1=i;obtain⟨p',hp',rfl⟩:=Y;by_cases hc:p'.1=p.1;rw[hc,<- ab];grind;obtain⟨q',hq',e⟩:=wV pl U (λx=>(h x).mpr) hp';rw[pl.other hp hp' (λz=>hc z.symm),<- e,U.other hq hq' ⋯];omega;have J:∀p∈P,p.1≠i:=λp' hp' z=>Y #[p',hp',z];have al:i<n:=by rw[gp.len] at hi;exact hi
  have:=(h _).mp (tJ pl al J) q.2 (ss.mpr #[q,hq,rfl]);rw[By pl al J hp (r:=q.2) λp' hp' a0=>by obtain⟨q',hq',e⟩:=wV pl U (λx=>(h x).mpr) hp';rw[<- e];exact U.other hq hq' ⋯] at this
  obtain⟨k,hk⟩:=tG hp;have az:=gp.pos;have e1:iR P/nth p.2 p.1=k:=by rw[hk,Td _ ⋯]
  have ap:k≠0:=λz=>by have:=pl.leads_pos;rw[hk,z] at this;omega
  rw[e1,hk,ab] at this;have:k*(nth q.2 q.1*nth p.2 i-nth p.2 p.1*nth q.2 i)=0:=by rw[ab];grind
  rcases PP.mp this with z | z;exact absurd z ap;omega
 have am:P.length=Q.length:=by have:=congrArg S7 hf;simpa using this
 refine S2 am λi h1 h2=> ?_;have e1:P[i].1=Q[i].1:=by
  have:(P.map (·.1))[i]'(by simpa using h1)=(Q.map (·.1))[i]'(by simpa using h2):=by simp only[hf]
  simpa using this
 exact Prod.ext e1 (key _ (AL h1) _ (AL h2) e1)
theorem BN{R S:List (List Int)}(J:∀r∈R,r.length=n)(U:∀r∈S,r.length=n)(h:∀x,eE n R x↔eE n S x):cA R n=cA S n:=by
 obtain⟨P,e1,p1,_,Y⟩:=jY J;obtain⟨Q,e2,p2,_,n2⟩:=jY U;have:P=Q:=GO p1 p2 λx=>by rw[<- e1,<- e2];exact(Y x).trans ((h x).trans (n2 x).symm)
 rw[e1,e2,this]
theorem o9(J:∀r∈R,r.length=n):∀r∈cA R n,r.length=n:=by obtain⟨P,e1,p1,_⟩:=jY J;rw[e1];intro r hr;obtain⟨p,hp,rfl⟩:=ss.mp hr;exact(p1.good p hp).len
theorem xp(J:∀r∈R,r.length=n):cA (cA R n) n=cA R n:=by obtain⟨P,e1,p1,_,U⟩:=jY J;exact BN (o9 J) J U
theorem iz(J:∀r∈R,r.length=n):∀r∈bh R n,r.length=n:=o9 (qv J).len
theorem xg(J:∀r∈R,r.length=n):bh (bh R n) n=cA R n:=by
 have U:=iz J;obtain⟨P,_,_,h1,h2⟩:=iH J;obtain⟨Q,_,_,h3,h4⟩:=iH U;have Y:=iz U;rw[<- xp J];have:bh (bh R n) n=cA (bh (bh R n) n) n:=(xp (R:=mz (bh R n) n) (qv U).len).symm;rw[this];refine BN Y (o9 J) λx=> ?_;obtain⟨_,_,_,_,n1⟩:=jY J;rw[n1,oY U];constructor;intro s r hr;rw[fX,bW];exact s.dot λl hl=>h1 r hr l hl;intro hx;refine h4 x λl hl=> ?_;have:eE n (bh R n) (nth l):=λq hq=>by rw[fX,bW];exact h3 q hq l hl
 exact(h2 _ this).dot hx
def SzL(b:Nat)(r:List Int):Prop:=∀x∈r,Sz b x
def cE(b:Nat)(R:List (List Int)):Prop:=∀r∈R,SzL b r
theorem SzL.mono(h:SzL b r)(J:b<=c):SzL c r:=λx hx=>(h x hx).mono J
theorem cE.mono{r:List (List Int)}(h:cE b r)(J:b<=c):cE c r:=λx hx=>(h x hx).mono J
theorem Sz.zero(b:Nat):Sz b 0:=by unfold Sz;simp;exact S8 b
theorem SzL.nth(h:SzL b r)(i:Nat):Sz b (M.nth r i):=by by_cases hi:i<r.length;exact h _ (pA hi);rw[jw ⋯];exact Sz.zero b
theorem SzL.low(h:SzL b r):SzL b (M.low r):=by intro x hx;unfold M.low at hx;split at hx;exact h x hx;obtain⟨y,hy,rfl⟩:=ss.mp hx;exact Sk (Int.natAbs_ediv_le_natAbs y _) (h y hy)
theorem SzL.mix{J U Y bw:Nat}{one other:List Int}{v w:Int}(h1:SzL J one)(h2:SzL U other)(hv:Sz Y v)(hw:Sz bw w):SzL (max (J+bw) (U+Y)+1) (g6 one v other w):=by intro x hx;unfold g6 at hx;obtain⟨i,hi,e⟩:=Rw hx;rw[UR] at e;subst e;exact Sz.sub (Sz.mul (h1 _ (AL _)) hw) (Sz.mul (h2 _ (AL _)) hv)
theorem SzL.off{J U Y bw:Nat}{one other:List Int}{v w:Int}(h1:SzL J one)(h2:SzL U other)(hv:Sz Y v)(hw:Sz bw w):SzL (max (J+bw) (U+Y)+1) (c9 one v other w):=(SzL.mix h1 h2 hv hw).low
theorem SzL.sgn(h:SzL b r)(a:Nat):SzL b (g7 r a):=by unfold g7;split;exact h;intro x hx;obtain⟨y,hy,rfl⟩:=ss.mp hx;exact(h y hy).neg
theorem SzL.clr{row lead:List Int}(h1:SzL b row)(h2:SzL b lead)(a:Nat):SzL (2*b+1) (du lead a row):=by unfold du;split;exact h1.mono ⋯;exact(SzL.off h1 h2 (h1.nth a) (h2.nth a)).mono ⋯
theorem uZ{left done:List (List Int)}(h1:cE b left)(h2:cE b done):cE (2*b+1) (di (left,done) a).1/\cE (2*b+1) (di (left,done) a).2:=by
 unfold di;dsimp only;split;exact#[h1.mono ⋯,h2.mono ⋯];rename_i k e;have U:=(gU e).1;rw[sB] at U;have J:SzL b (g7 (left.getD k []) a):=SzL.sgn (h1 _ (getD_mem U)) a;refine#[λr hr=> ?_,λr hr=> ?_];obtain⟨q,hq,rfl⟩:=ss.mp hr;exact SzL.clr (h1 q (RK hq)) J a;rcases wE.mp hr with hr | hr
 obtain⟨q,hq,rfl⟩:=ss.mp hr;exact SzL.clr (h2 q hq) J a;rw[wn.mp hr];exact J.mono ⋯
def grow(b p:Nat):Nat:=2^p*(b+1)-1
theorem HE:grow b 0=b:=by unfold grow;simp
theorem Bg{b p:Nat}:2*grow b p+1=grow b (p+1):=by
 unfold grow;have h:0<2^p*(b+1):=Nat.mul_pos (S8 p) (Nat.succ_pos b);have e:2^(p+1)*(b+1)=2*(2^p*(b+1)):=by rw[U7,TN (2^p) 2,UV]
 rw[e];omega
theorem BC{b p q:Nat}(h:p<=q):grow b p<=grow b q:=by unfold grow;have:2^p*(b+1)<=2^q*(b+1):=TQ _ (RC ∅ h);omega
theorem uI{left done:List (List Int)}:((di (left,done) a)=(left,done))\/(di (left,done) a).2.length=done.length+1:=by unfold di;dsimp only;split;exact .inl rfl;exact .inr (by simp)
structure PSz(n b a:Nat)(rows:List (List Int))(left done:List (List Int)):Prop where
 eq:(uM a).foldl di (rows.map low,[])=(left,done)
 ll:∀r∈left,r.length=n
 dl:∀r∈done,r.length=n
 cnt:left.length+done.length=rows.length
 ls:cE (grow b done.length) left
 ds:cE (grow b done.length) done
theorem PSz.start(J:∀r∈rows,r.length=n)(hs:cE b rows):PSz n b 0 rows (rows.map low) []:=by refine#[rfl,λr hr=> ?_,by simp,by simp,λr hr=> ?_,λr hr=>by cases hr];obtain⟨q,hq,rfl⟩:=ss.mp hr;rw[low_length];exact J q hq;obtain⟨q,hq,rfl⟩:=ss.mp hr;rw[UI,HE];exact(hs q hq).low
theorem PSz.step{rows left done:List (List Int)}(h:PSz n b a rows left done)(U:∀r∈rows,r.length=n)(ha:a<n):PSz n b (a+1) rows (di (left,done) a).1 (di (left,done) a).2:=by
 have J:(uM (a+1)).foldl di (rows.map low,[])=di (left,done) a:=by rw[UF,Tk,h.eq];rfl
 obtain⟨Y,P',e,s,c,_⟩:=yE (n:=n) (left:=rows.map low) (λr hr=>by
  obtain⟨q,hq,rfl⟩:=ss.mp hr;rw[low_length];exact U q hq) (λr hr=>by
  obtain⟨q,hq,rfl⟩:=ss.mp hr;exact tD q) (a+1) ⋯
 rw[J] at e;refine#[J,λr hr=> ?_,λr hr=> ?_, ?_, ?_, ?_];rw[e] at hr;exact s.ll r hr;rw[e] at hr;obtain⟨p,hp,rfl⟩:=ss.mp hr;exact(s.pl.good p hp).len;rw[e];simp;simpa using c
 ·rcases uI (a:=a) (left:=left) (done:=done) with q | q;rw[q];exact h.ls;rw[q,<- Bg];exact(uZ h.ls h.ds).1
 ·rcases uI (a:=a) (left:=left) (done:=done) with q | q;rw[q];exact h.ds;rw[q,<- Bg];exact(uZ h.ls h.ds).2
theorem PSz.done{rows left done:List (List Int)}(h:PSz n b n rows left done):cA rows n=done:=by unfold cA;rw[h.eq]
theorem HF(J:∀r∈rows,r.length=n)(hs:cE b rows):cE (grow b rows.length) (cA rows n):=by
 have:∀a,a<=n->∃left done,PSz n b a rows left done:=by
  intro a;induction a with
  | zero=>exact λ_=>#[_,_,PSz.start J hs]
  | succ a U=>
   intro ha;obtain⟨l,d,h⟩:=U ⋯;exact#[_,_,h.step J ⋯]
 obtain⟨l,d,h⟩:=this n (vr n);rw[h.done];exact h.ds.mono (BC (by have:=h.cnt;omega))
section
variable {s s1 : S} {d : D}
@[simp] theorem AN {m:AM} {s:S}:nF m s=(m s).bind λx=>match x.1 with
 | [.lst as,.lst bs]=>.ok ((gg as bs,pi),x.2)
 | _=>.bad:=rfl
@[simp] theorem uK {m:AM} {s:S}:dQ m s=(m s).bind λx=>match x.1 with
 | [.lst as]=>.ok ((fO as,pi),x.2)
 | _=>.bad:=rfl
@[simp] theorem GC {s:S}:Dd m s=(m s).bind λx=>match x.1 with
 | .str z=>.ok ((p9 z,pi),x.2)
 | _=>.bad:=rfl
@[simp] theorem Ig {f g:Op2} {a b c:EM} {s:S}:vj f g a b c s=(a s).bind λx=>(b x.2).bind λy=>(f y.2.o x.1 y.1).bind λz=>match z with
 | .bl qc=>(c y.2).bind λw=>(g w.2.o y.1 w.1).bind λd=>.ok (d,w.2)
 | .bl wh=>.ok (.bl wh,y.2)
 | _=>.bad:=rfl
@[simp] theorem KH {f:FM} {m:AM} {s:S}:bN n f m s=(m s).bind λx=>if x.1.length=n then (match f x.1 x.2.o with
 | .ok (d,O1)=>.ok (d,#[x.2.r,O1])
 | _=>.bad) else .bad:=rfl
@[simp] theorem FC {s:S}:vD m s=(m s).bind λx=>match lsD x.2.o x.1 with
 | some ds=>.ok (!ds.isEmpty,x.2)
 | none=>.bad:=rfl
@[simp] theorem MF {fin:S->List D->Res (D×S)} {mk:EM} {s:S}:v9 fin ma mk s=(ma s).bind λx=>if x.1.length<=16777216 then (mk x.2).bind λy=>match y.1 with
 | .int k=>if (-(2^63)<=k/\k<2^63)/\x.1.length*k.toNat<=16777216 then fin y.2 (Hj k x.1) else .bad
 | _=>.bad
 else .bad:=rfl
@[simp] theorem QD (s:S) (ds:List D):Qf s ds=.ok (.lst ds,s):=rfl
@[simp] theorem AZ {s:S}:oK s ds=.ok (.ptr s.o.length,#[s.r,s.o++[.lst ds]]):=rfl
@[simp] theorem QR (O:aC):isD O .non .non=.ok (.bl qc):=rfl
@[simp] theorem QH (O:aC) (i:Int):isD O (.int i) .non=.ok (.bl wh):=rfl
@[simp] theorem QJ (O:aC) (i:List D):isD O (.lst i) .non=.ok (.bl wh):=rfl
@[simp] theorem QI (O:aC) (i:List D):isD O (.tup i) .non=.ok (.bl wh):=rfl
@[simp] theorem Pz (O:aC):m5 O .non .non=.ok (.bl wh):=rfl
@[simp] theorem Ph (O:aC) (i:Int):m5 O (.int i) .non=.ok (.bl qc):=rfl
@[simp] theorem Pk (O:aC) (i:List D):m5 O (.lst i) .non=.ok (.bl qc):=rfl
@[simp] theorem Pb (O:aC) (i:List D):m5 O (.tup i) .non=.ok (.bl qc):=rfl
@[simp] theorem tX {g h:GM} {a b:D} {s:S}:c7 (bc g (bc h c8)) 2 (.tup [a,b]) s=(g a s).bind λs1=>h b s1:=by show (g a s).bind (λs1=>(h b s1).bind λs2=>.ok s2)=_;congr 1;funext s1;cases h b s1 <;> rfl
@[simp] theorem EZ:iA (ns.map D.int)=pc ns:=by
 induction ns with
 | nil=>rfl
 | cons n ns J=>rw[ww,iA,J];rfl
@[simp] theorem xi {ns:List Bool}:kC (ns.map D.bl)=pc ns:=by
 induction ns with
 | nil=>rfl
 | cons n ns J=>rw[ww,kC,J];rfl
@[simp] theorem qI:tK O [.lst (ns.map D.int)]=.ok (.int ns.sum):=by
 show (match iA (ns.map D.int) with
  | some ns=>Res.ok (D.int ns.sum)
  | none=>.bad)=_
 rw[EZ]
@[simp] theorem Ee {ns:List Bool}:Hn O [.lst (ns.map D.bl)]=.ok (.bl (ns.all id)):=by
 show (match kC (ns.map D.bl) with
  | some ns=>Res.ok (D.bl (ns.all id))
  | none=>.bad)=_
 rw[xi]
@[simp] theorem Kj {ns:List Bool}:K3 O [.lst (ns.map D.bl)]=.ok (.bl (ns.any id)):=by
 show (match kC (ns.map D.bl) with
  | some ns=>Res.ok (D.bl (ns.any id))
  | none=>.bad)=_
 rw[xi]
end
theorem rq {α:Type} {ok:aC->Prop} {g:GM} {c:TM} {e:EM} {O:aC} (U:ok O) (item:α->D) (P:S->Prop) (hP:∀s,P s->s.o=O) (l:List α) (p:α->Bool) (out:α->D)
 (step:∀a∈l,∀s,P s->∃s1 s2,g (item a) s=.ok s1/\c s1=.ok (p a,s2)/\(p a=wh->P s2)/\(p a=qc->∃Y,e s2=.ok (out a,Y)/\P Y)):
 ∀(J:List D) (s:S),J.length+l.length<=16777216->P s->∃s',dR ok g c e (l.map item) J s=.ok (J++(l.filter p).map out,s')/\P s':=by
 induction l with
 | nil=>
  intro J s _ h;exact#[s,by rw[RZ,dR,if_pos (by rw[hP s h];exact U)];simp,h]
 | cons a l ih=>
  intro J s hl h;rw[xa] at hl;obtain⟨s1,s2,e1,e2,h2,h3⟩:=step a uC s h;rw[ww,dR,if_pos #[by rw[hP s h];exact U,⋯],e1,aj,e2,aj];cases hp:p a with
  | false=>
   obtain⟨s',e3,h4⟩:=ih (λb hb=>step b (tz _ hb)) J s2 ⋯ (h2 hp);refine#[s', ?_,h4];rw[Rl (by simp[hp])];simpa using e3
  | true=>
   obtain⟨Y,e3,h4⟩:=h3 hp;obtain⟨s',e5,h5⟩:=ih (λb hb=>step b (tz _ hb)) (J++[out a]) Y (by rw[xL,EQ];omega) h4;refine#[s', ?_,h5];rw[Go hp];simp only[if_true,e3,aj,e5];simp
section
variable {α : Type} {caps : List Nat} {im : IM} {c : TM} {e : EM} {s : S} {k : Option Nat} {l : List α} {item out : α → D} {p : α → Bool}
theorem DG (J:im s=.ok ((l.map item,k),s)) (U:okC (l.map item) k s.o) (Y:l.length<=16777216)
 (hc:∀a∈l,c #[pc (item a)::caps.map (λi=>(s.r[i]?).getD pi),s.o]=.ok (p a,#[pc (item a)::caps.map (λi=>(s.r[i]?).getD pi),s.o]))
 (he:∀a∈l,p a=qc->e #[pc (item a)::caps.map (λi=>(s.r[i]?).getD pi),s.o]=.ok (out a,#[pc (item a)::caps.map (λi=>(s.r[i]?).getD pi),s.o])):
 nV 1 caps im (aB 0) c e s=.ok ((l.filter p).map out,s):=by
 obtain⟨s',e1,x,h1⟩:=rq (ok:=okC (l.map item) k) (g:=aB 0) (c:=c) (e:=e) (O:=s.o) U item (λs2=>∃x,s2=#[x::caps.map (λi=>(s.r[i]?).getD pi),s.o]) (by rintro _ ⟨_,rfl⟩;rfl) l p out (by rintro a ha _ ⟨x,rfl⟩;exact#[_,_,rfl,hc a ha,λ_=>#[_,rfl],λhp=>#[_,he a ha hp,_,rfl]]) [] #[mE 1 caps s.r,s.o] (by simpa using Y) #[pi,rfl]
 rw[pM,J,aj];dsimp only;rw[e1,aj];subst h1;rfl
theorem Dh {f g:α->D} (J:im s=.ok ((l.map (λa=>D.tup [f a,g a]),k),s)) (U:okC (l.map (λa=>D.tup [f a,g a])) k s.o) (Y:l.length<=16777216)
 (hc:∀a∈l,c #[pc (f a)::pc (g a)::caps.map (λi=>(s.r[i]?).getD pi),s.o]=.ok (p a,#[pc (f a)::pc (g a)::caps.map (λi=>(s.r[i]?).getD pi),s.o]))
 (he:∀a∈l,p a=qc->e #[pc (f a)::pc (g a)::caps.map (λi=>(s.r[i]?).getD pi),s.o]=.ok (out a,#[pc (f a)::pc (g a)::caps.map (λi=>(s.r[i]?).getD pi),s.o])):
 nV 2 caps im (c7 (bc (aB 0) (bc (aB 1) c8)) 2) c e s=.ok ((l.filter p).map out,s):=by
 obtain⟨s',e1,x,y,h1⟩:=rq (ok:=okC (l.map (λa=>D.tup [f a,g a])) k) (g:=c7 (bc (aB 0) (bc (aB 1) c8)) 2) (c:=c) (e:=e) (O:=s.o) U (λa=>D.tup [f a,g a]) (λs2=>∃x y,s2=#[x::y::caps.map (λi=>(s.r[i]?).getD pi),s.o]) (by rintro _ ⟨_,_,rfl⟩;rfl) l p out (by rintro a ha _ ⟨x,y,rfl⟩;exact#[_,_,by simp,hc a ha,λ_=>#[_,_,rfl],λhp=>#[_,he a ha hp,_,_,rfl]]) [] #[mE 2 caps s.r,s.o] (by simpa using Y) #[pi,pi,rfl]
 rw[pM,J,aj];dsimp only;rw[e1,aj];subst h1;rfl
theorem n6{l:List α}:l.filter (λ_=>qc)=l:=by simp
theorem dg (J:im s=.ok ((l.map item,k),s)) (U:okC (l.map item) k s.o) (Y:l.length<=16777216)
 (he:∀a∈l,e #[pc (item a)::caps.map (λi=>(s.r[i]?).getD pi),s.o]=.ok (out a,#[pc (item a)::caps.map (λi=>(s.r[i]?).getD pi),s.o])):
 bL 1 caps im (aB 0) bM e s=.ok (.lst (l.map out),s):=by
 rw[lS,DG (p:=λ_=>qc) J U Y (λ_ _=>rfl) (λa ha _=>he a ha),aj,n6]
theorem AF (J:im s=.ok ((l.map item,k),s)) (U:okC (l.map item) k s.o) (Y:l.length<=16777216)
 (hc:∀a∈l,c #[pc (item a)::caps.map (λi=>(s.r[i]?).getD pi),s.o]=.ok (p a,#[pc (item a)::caps.map (λi=>(s.r[i]?).getD pi),s.o]))
 (he:∀a∈l,p a=qc->e #[pc (item a)::caps.map (λi=>(s.r[i]?).getD pi),s.o]=.ok (out a,#[pc (item a)::caps.map (λi=>(s.r[i]?).getD pi),s.o])):
 bL 1 caps im (aB 0) c e s=.ok (.lst ((l.filter p).map out),s):=by
 rw[lS,DG J U Y hc he,aj]
theorem En {f g:α->D} (J:im s=.ok ((l.map (λa=>D.tup [f a,g a]),k),s)) (U:okC (l.map (λa=>D.tup [f a,g a])) k s.o) (Y:l.length<=16777216)
 (he:∀a∈l,e #[pc (f a)::pc (g a)::caps.map (λi=>(s.r[i]?).getD pi),s.o]=.ok (out a,#[pc (f a)::pc (g a)::caps.map (λi=>(s.r[i]?).getD pi),s.o])):
 bL 2 caps im (c7 (bc (aB 0) (bc (aB 1) c8)) 2) bM e s=.ok (.lst (l.map out),s):=by
 rw[lS,Dh (p:=λ_=>qc) J U Y (λ_ _=>rfl) (λa ha _=>he a ha),aj,n6]
theorem Ay {f g:α->D} (J:im s=.ok ((l.map (λa=>D.tup [f a,g a]),k),s)) (U:okC (l.map (λa=>D.tup [f a,g a])) k s.o) (Y:l.length<=16777216)
 (hc:∀a∈l,c #[pc (f a)::pc (g a)::caps.map (λi=>(s.r[i]?).getD pi),s.o]=.ok (p a,#[pc (f a)::pc (g a)::caps.map (λi=>(s.r[i]?).getD pi),s.o]))
 (he:∀a∈l,p a=qc->e #[pc (f a)::pc (g a)::caps.map (λi=>(s.r[i]?).getD pi),s.o]=.ok (out a,#[pc (f a)::pc (g a)::caps.map (λi=>(s.r[i]?).getD pi),s.o])):
 bL 2 caps im (c7 (bc (aB 0) (bc (aB 1) c8)) 2) c e s=.ok (.lst ((l.filter p).map out),s):=by
 rw[lS,Dh J U Y hc he,aj]
theorem zX (J:im s=.ok ((l.map item,k),s)) (U:okC (l.map item) k s.o) (Y:l.length<=16777216)
 (he:∀a∈l,e #[pc (item a)::caps.map (λi=>(s.r[i]?).getD pi),s.o]=.ok (out a,#[pc (item a)::caps.map (λi=>(s.r[i]?).getD pi),s.o])):
 nO 1 caps im (aB 0) bM e s=.ok (.ptr s.o.length,#[s.r,s.o++[.lst (l.map out)]]):=by
 rw[D9,DG (p:=λ_=>qc) J U Y (λ_ _=>rfl) (λa ha _=>he a ha),aj,n6]
end
abbrev vI(r:List Int):D:=.lst (r.map .int)
abbrev vII(R:List (List Int)):D:=.lst (R.map vI)
@[simp] theorem i5:aR (R.map vI)=true:=by
 induction R with
 | nil=>rfl
 | cons r R J=>simp[J]
theorem oa{as bs:List Int}:gg (as.map D.int) (bs.map D.int)=(as.zip bs).map λp=>.tup [.int p.1,.int p.2]:=by unfold gg;rw[Uq,List.zip_eq_zipWith,List.map_zipWith]
theorem Hl{as:List Int}:fO (as.map D.int)=as.zipIdx.map λp=>.tup [.int (p.2:Int),.int p.1]:=by unfold fO;rw[Sy,TL,wf];rfl
theorem K1{as:List (List Int)}:fO (as.map vI)=as.zipIdx.map λp=>.tup [.int (p.2:Int),vI p.1]:=by unfold fO;rw[Sy,TL,wf];rfl
theorem g9{i:Nat}(h:i<r.length):ixD O (vI r) (.int (i:Int))=.ok (.int (nth r i)):=by refine nG ?_;rw[qz ⋯ (by simpa using h)];simp[nth,pr,h]
theorem IJ{i:Nat}(h:i<R.length):ixD O (vII R) (.int (i:Int))=.ok (vI (R.getD i [])):=by refine nG ?_;rw[qz ⋯ (by simpa using h)];simp[pr,h]
theorem ib(n:Nat):cX 0 (n:Int)=(uM n).map λi=>.int (i:Int):=by unfold cX;simp
theorem kD(h:n<=1000000):n<=16777216:=IN h ∅
theorem zip_map{f:Int->Int->Int}:∀(a b:List Int),(a.zip b).map (λp=>f p.1 p.2)=R4 f a b
 | [],_=>by simp
 | _::_,[]=>by simp
 | x::a,y::b=>by simp[zip_map a b]
theorem Nt{a b:List Int}:(a.zip b).map (λp=>p.1*p.2)=R4 (· * ·) a b:=zip_map a b
theorem IV:Hj (n:Int) [.int 0]=(u0 n (0:Int)).map D.int:=by
 unfold Hj;rw[show (n:Int).toNat=n from Vi n];induction n with
 | zero=>rfl
 | succ n J=>rw[Rv,R7,J];simp[Rv]
theorem lX{mo J:EM}{d:D}{s s1 s2:S}(h1:mo s=.ok (.ptr k,s1))(h2:J s1=.ok (.int (a:Int),s2))(U:s2.o[k]? =pc (.lst ds))(ha:a<ds.length):
 jJ mo J d s=.ok #[s2.r,s2.o.set k (.lst (ds.set a d))]:=by
 unfold jJ;rw[h1,aj];dsimp only;rw[h2,aj];dsimp only;rw[nB U];dsimp only;have e:ixN ds.length (a:Int)=pc a:=by unfold ixN;rw[if_pos ⋯,if_pos ⋯];simp
 rw[e]
theorem dM{i:Nat}{s s':S}(h:m s=.ok (d,s')):setM i m s=.next #[s'.r.set i (pc d),s'.o]:=by show ((m s).bind _).out _=_;rw[h];rfl
theorem br{s s':S}(h:m s=.ok (d,s')):bD m s=.ret d s':=by show (m s).out _=_;rw[h];rfl
theorem o8{c:TM}{a b:SM}{s s':S}(h:c s=.ok (qc,s')):ifS c a b s=a s':=by show (c s).out _=_;rw[h];rfl
theorem ip{c:TM}{a b:SM}{s s':S}(h:c s=.ok (wh,s')):ifS c a b s=b s':=by show (c s).out _=_;rw[h];rfl
theorem bE{a b:SM}{s s':S}(h:a s=.next s'):aK a b s=b s':=by show (a s).then b=_;rw[h];rfl
theorem eK{a b:SM}{s s':S}(h:a s=.ret d s'):aK a b s=.ret d s':=by show (a s).then b=_;rw[h];rfl
theorem HD{fin:S->List D->Res (D×S)}{mk:EM}{s:S}(h:mk s=.ok (.int (n:Int),s))(hn:n<=1000000):v9 fin (af (aq (.int 0)) ao) mk s=fin s ((u0 n (0:Int)).map D.int):=by rw[MF,aV,aF,aj,aG,aj,aj];dsimp only;rw[if_pos ∅,h,aj];dsimp only;rw[if_pos #[#[⋯,⋯],by simp;omega],IV]
theorem cC{f:FM}{s s':S}(h:ma s=.ok (ds,s'))(hp:aR ds=qc)(J:ds.length=n)(U:f ds []=.ok (d,O))(hd:cW d=qc):aX n f ma s=.ok (d,s'):=by rw[KC,h,aj,if_pos #[hp,J]];dsimp only;rw[U];dsimp only;rw[if_pos hd]
theorem jT{f:FM}{s s':S}(h:ma s=.ok (ds,s'))(J:ds.length=n)(U:f ds s'.o=.ok (d,O)):bN n f ma s=.ok (d,#[s'.r,O]):=by rw[KH,h,aj,if_pos J];dsimp only;rw[U]
theorem Mj{s s1 s2:S}{k i:Nat}(h1:mo s=.ok (.ptr k,s1))(U:s1.o[k]? =pc (.lst ds0))(h2:me s1=.ok (.int (i:Int),s2))(Y:s2.o[k]? =pc (.lst ds))(hi:i<ds.length)(hb:i<=1000000):
 CT mo me s=.ok (ds[i],#[s2.r,s2.o.set k (.lst (ds.eraseIdx i))]):=by
 unfold CT;rw[h1,aj];dsimp only;rw[nB U];dsimp only;rw[h2,aj];dsimp only;rw[nB Y];dsimp only;have e:seqIndex? (i:Int) ds.length=pc i:=by have J:¬((i:Int)<0):=⋯;simp only[seqIndex?,J,if_false];simp[hi]
 rw[if_pos #[⋯,⋯],e];dsimp only;rw[sK hi]
theorem wo{s s1 s2:S}(h1:mo s=.ok (.ptr k,s1))(J:s1.o[k]? =pc (.lst ds0))(h2:me s1=.ok (d,s2))(U:s2.o[k]? =pc (.lst ds))(hb:ds.length<=1000000):
 lY mo me s=.ok (.non,#[s2.r,s2.o.set k (.lst (ds++[d]))]):=by
 rw[M4,h1,aj];dsimp only;rw[nB J];dsimp only;rw[h2,aj];dsimp only;rw[nB U];dsimp only;rw[if_pos ⋯]
theorem dB{s s':S}(h:m s=.ok (d,s')):eX m s=.next s':=by show (m s).out _=_;rw[h];rfl
theorem FT{s s':S}(h:m s=.ok (.ptr k,s'))(c:s'.o[k]? =pc (.lst ds)):iG m s=.ok (.lst ds,#[s'.r,s'.o.set k .dead]):=by rw[Nb,h,aj];dsimp only;rw[nB c]
theorem BJ{s s':S}(h:m s=.ok (.ptr k,s'))(c:s'.o[k]? =pc (.lst ds)):listI m s=.ok ((ds,pc k),s'):=by rw[b9,h,aj];dsimp only;rw[xj c,aj]
theorem dm{k j:Nat}{c:Cell}(h:k≠j):(O.set k c)[j]? =O[j]? :=Ru h
theorem dk{c c':Cell}(h:O[k]? =pc c'):(O.set k c)[k]? =pc c:=by rw[Rp (xb.mp h).1]
theorem ee{O E:aC}{c:Cell}(h:O[k]? =pc c):(O++E)[k]? =pc c:=by rw[wP (xb.mp h).1];exact h
theorem gE{c:Cell}:(O++[c])[O.length]? =pc c:=by simp
theorem mV{c:Cell}(h:O[k]? =pc c):k<O.length:=(xb.mp h).1
theorem EA(hb:b<=60000000){x y:Int}(hx:Sz b x)(hy:Sz b y):RG x y:=gw hb hb hx hy
theorem BB{α β:Type}(f:α->β):∀(l:List α) (k:Nat),(l.map f).eraseIdx k=(l.eraseIdx k).map f
 | [],_=>rfl
 | _::_,0=>rfl
 | a::l,k+1=>by simp[BB f l k]
theorem kq(r:List Int):aR [vI r]=true:=by simp
theorem yQ{α β:Type}(g:α->β)(k:Nat):∀(l:List α) (j:Nat),((l.zipIdx j).filter (λp=> !decide (p.2=j+k))).map (λp=>g p.1)=(l.eraseIdx k).map g:=by
 induction k with
 | zero=>
  intro l j;cases l with
  | nil=>rfl
  | cons a l=>
   rw[Ts,Rl (by simp),List.eraseIdx_cons_zero];have:∀(l:List α) (i:Nat),j<i->((l.zipIdx i).filter (λp=> !decide (p.2=j+0))).map (λp=>g p.1)=l.map g:=by
    intro l;induction l with
    | nil=>intro i _;rfl
    | cons b l J=>
     intro i hi;rw[Ts,Go (by simp;omega),ww,ww,J (i+1) ⋯]
   exact this l (j+1) ⋯
 | succ k J=>
  intro l j;cases l with
  | nil=>rfl
  | cons a l=>
   rw[Ts,Go (by simp),UC,ww,ww];congr 1;have:=J l (j+1);rw[show j+1+k=j+(k+1) by omega] at this;exact this
theorem Dp{α β:Type}(l:List α)(k:Nat)(g:α->β):(l.zipIdx.filter (λp=> !decide (p.2=k))).map (λp=>g p.1)=(l.eraseIdx k).map g:=by have:=yQ g k l 0;rw[Va] at this;exact this
theorem zB{b:Nat}:∀(l:List Int) (k:Nat),(∀x∈l,x.natAbs<2^b)->l.length<=2^k->l.sum.natAbs<=l.length*2^b:=by
 intro l k h _;induction l with
 | nil=>simp
 | cons a l J=>
  rw[S6,xa,Nat.succ_mul];have h1:=h a uC;have h2:=J (λx hx=>h x (tz _ hx)) (by simp at *;omega);have:=Tj a l.sum;omega
theorem sG(hr:SzL c row)(J:SzL b l)(hn:row.length<=1000):Sz (b+c+10) (aH row l):=by
 unfold aH;have h:∀x∈R4 (· * ·) row l,x.natAbs<2^(c+b):=λx hx=>by obtain⟨i,hi,e⟩:=Rw hx;rw[UR] at e;subst e;exact Sz.mul (hr _ (AL _)) (J _ (AL _))
 have h2:=zB (R4 (· * ·) row l) 10 h (by rw[RU];simp;omega);unfold Sz;have U:(R4 (· * ·) row l).length<=1000:=by rw[RU];omega
 have h4:(R4 (· * ·) row l).length*2^(c+b)<=1000*2^(c+b):=TQ _ U;have Y:2^(b+c+10)=1024*2^(c+b):=by rw[UK,Us b c,TN]
 have h6:0<2^(c+b):=S8 _;rw[Y];omega
theorem NR{a b:List Int}(h:vI a=vI b):a=b:=by
 injection h with h
 exact(RW (λx y e=>by cases e;rfl)).mp h
theorem vq{ok:aC->Prop}{g:GM}{c:TM}{e:EM}(P:S->Prop)(G:D->Prop)(Y:∀s,P s->ok s.o):∀(ds U:List D) (s:S),
 (∀d∈ds,∀s,P s->∃s1 s2 y s3,g d s=.ok s1/\c s1=.ok (qc,s2)/\e s2=.ok (y,s3)/\G y/\P s3)->U.length+ds.length<=16777216->P s->
 ∃J s',dR ok g c e ds U s=.ok (U++J,s')/\J.length=ds.length/\(∀y∈J,G y)/\P s'
 | [],U,s,_,_,h=>#[[],s,by rw[dR,if_pos (Y _ h)];simp,rfl,by simp,h]
 | d::ds,U,s,step,hl,h=>by
  obtain⟨s1,s2,y,s3,e1,e2,e3,gy,h3⟩:=step d uC s h;rw[xa] at hl;rw[dR,if_pos #[Y _ h,⋯],e1,aj,e2,aj];obtain⟨J,s',e4,h4,h5,h6⟩:=vq P G Y ds (U++[y]) s3 (λd hd=>step d (tz _ hd)) (by rw[xL,EQ];omega) h3;refine#[y::J,s', ?_,by simp[h4], ?_,h6];simp only[if_true,e3,aj,e4];simp;intro z hz;rcases u8.mp hz with rfl | hz
  exact gy;exact h5 z hz
theorem FJ{Q:Int->Prop}:∀{outs:List D},(∀y∈outs,∃r,y=.int r/\Q r)->∃ns:List Int,outs=ns.map D.int/\∀n∈ns,Q n
 | [],_=>#[[],rfl,by simp]
 | y::outs,h=>by
  obtain⟨r,rfl,hr⟩:=h y uC;obtain⟨ns,rfl,hn⟩:=FJ (outs:=outs) λz hz=>h z (tz _ hz);exact#[r::ns,rfl,λn J=>by rcases u8.mp J with rfl | q;exact hr;exact hn n q]
theorem Jc {caps:List Nat} {e:EM} {s:S} {k:Option Nat} (PO:aC->Prop) (Q:Int->Prop) (J:im s=.ok ((ds,k),s)) (U:∀O,PO O->okC ds k O) (h0:PO s.o) (hl:ds.length<=1000000)
 (he:∀d∈ds,∀O,PO O->∃r O',e #[pc d::caps.map (λi=>(s.r[i]?).getD pi),O]=.ok (.int r,#[pc d::caps.map (λi=>(s.r[i]?).getD pi),O'])/\Q r/\PO O'):
 ∃(ns:List Int) (O':aC),bL 1 caps im (aB 0) bM e s=.ok (vI ns,#[s.r,O'])/\ns.length=ds.length/\(∀n∈ns,Q n)/\PO O':=by
 obtain⟨Y,s',e1,h1,h2,x,O',h3,h4⟩:=vq (ok:=okC ds k) (g:=aB 0) (c:=bM) (e:=e) (λs2=>∃x O',s2=#[x::caps.map (λi=>(s.r[i]?).getD pi),O']/\PO O') (λy=>∃r,y=.int r/\Q r) (by rintro _ ⟨_,O',rfl,h⟩;exact U O' h) ds [] #[mE 1 caps s.r,s.o] (by rintro d hd _ ⟨x,O',rfl,h⟩;obtain⟨r,O2,q1,q2,q3⟩:=he d hd O' h;exact#[_,_,.int r,_,rfl,rfl,q1,#[r,rfl,q2],_,O2,rfl,q3]) (by simpa using kD hl) #[pi,s.o,rfl,h0]
 obtain⟨ns,rfl,hn⟩:=FJ h2;refine#[ns,O', ?_,by simpa using h1,hn,h4];rw[lS,pM,J,aj];dsimp only;rw[e1,aj,aj];subst h3;rfl
theorem KJ{f:FM}{s s':S}(h:ma s=.ok (ds,s'))(hp:aR ds=qc)(J:ds.length=n)(U:f ds []=.ok (d,O1)):d3 n f ma s=.ok (shD s'.o.length d,#[s'.r,s'.o++O1.map (shC s'.o.length)]):=by rw[Lz,h,aj,if_pos #[hp,J]];dsimp only;rw[U]
theorem pV(h:O[k]? =pc (.lst ds))(hi:atI ds i=pc d):ixD O (.ptr k) (.int i)=.ok d:=by
 show (match lsD O (D.ptr k) with
  | some ds=>match atI ds i with
   | some d=>Res.ok d
   | none=>.bad
  | none=>.bad)=_
 rw[jx h];dsimp only;rw[hi]
theorem gZ{α:Type}{l:List α}{i:Nat}(h:i<l.length):atI l (i:Int)=pc l[i]:=by rw[qz ⋯ ⋯];simp
theorem M3{α:Type}{l:List α}{i:Nat}(h0:1<=i)(h:i<=l.length):atI l (-(i:Int))=pc (l[l.length-i]'(⋯)):=by unfold atI ixN;have e:(-(i:Int)+(l.length:Int)).toNat=l.length-i:=⋯;rw[if_neg ⋯,if_pos ⋯,e];exact sK _
theorem xV(h:O[k]? =pc (.lst ds)):cx O [.ptr k]=.ok (.int ds.length):=by unfold cx;simp only[jx h]
theorem gM{s s':S}(h:m s=.ok (.int i,s')):a7 (ak gtD m (aq (.int j))) s=.ok (decide (j<i),s'):=by rw[gJ,cK,h,aj,aF,aj,wY,aj,aj]
theorem eq_test{s s':S}(h:m s=.ok (.int i,s')):a7 (ak eqD m (aq (.int j))) s=.ok (decide (i=j),s'):=by rw[gJ,cK,h,aj,aF,aj,mC,aj,aj]
theorem pN{a b:List D}(h:a.length+b.length<=1000000):cq O (.lst a) (.lst b)=.ok (.lst (a++b)):=by show (if a.length+b.length<=16777216 then Res.ok (D.lst (a++b)) else .bad)=_;rw[if_pos (kD h)]
theorem IG{ms:List Int}(h:n<=ms.length):cutD (ms.map D.int) (pc (n:Int)) pi=(ms.drop n).map D.int:=by unfold cutD;rw[HT.tx,HT.pB,sB,TK h,<- UW,RE (by simp)]
def tk(c e:Nat):Nat:=2^e*(c+12)-(c+11)
def jd(c n:Nat):Nat:=2^n*(c+12)
theorem Hd(c e:Nat):c+12<=2^e*(c+12):=To _ (S8 e)
theorem MS:tk c 0=1:=by unfold tk;simp
theorem M9{c e:Nat}:2*tk c e+c+11=tk c (e+1):=by
 unfold tk;have h:=Hd c e;have e2:2^(e+1)*(c+12)=2*(2^e*(c+12)):=by rw[U7,TN (2^e) 2,UV]
 rw[e2];omega
theorem OZ{c e n:Nat}(h:e<=n):tk c e+c+10<=jd c n:=by unfold tk jd;have h1:=Hd c e;have h2:2^e*(c+12)<=2^n*(c+12):=TQ _ (RC ∅ h);omega
theorem Gn{c e n:Nat}(h:e<=n):grow (tk c e) (n-e)<=jd c n:=by
 unfold grow;have h1:tk c e+1<=2^e*(c+12):=by unfold tk;have:=Hd c e;omega
 have h2:2^(n-e)*(tk c e+1)<=2^(n-e)*(2^e*(c+12)):=Nat.mul_le_mul_left _ h1;have J:2^(n-e)*(2^e*(c+12))=jd c n:=by unfold jd;rw[<- UV,<- UK,Nat.sub_add_cancel h]
 omega
structure qk(n c:Nat)(R lists:List (List Int))(e:Nat):Prop where
 eq:R.foldl eV (cT n)=lists
 ll:∀l∈lists,l.length=n
 cnt:lists.length+e=n
 sz:cE (tk c e) lists
theorem Gx(n a:Nat):SzL 1 (eh n a):=by
 intro x hx;unfold eh at hx;rcases Sx hx with h | h
 rw[UA h];exact Sz.zero 1;rw[h];unfold Sz;decide
theorem qk.start(n c:Nat):qk n c [] (cT n) 0:=by refine#[rfl,λl J=> ?_,by unfold cT;simp,λl J=> ?_];obtain⟨a,_,rfl⟩:=ss.mp J;unfold eh;simp;obtain⟨a,_,rfl⟩:=ss.mp J;rw[MS];exact Gx n a
theorem qk.step{n c e:Nat}{R lists:List (List Int)}(h:qk n c R lists e)(hr:row.length=n)(hs:SzL c row)(hn:n<=1000):∃e',qk n c (R++[row]) (eV lists row) e':=by
 have J:(R++[row]).foldl eV (cT n)=eV lists row:=by rw[Tk,h.eq];rfl
 unfold eV at *;split;rename_i U;rw[U] at J;exact#[e,J,h.ll,h.cnt,h.sz];rename_i k U;rw[U] at J;have Y:=(gU U).1;rw[sB] at Y;have hm:=getD_mem Y;refine#[e+1,J,λl hl=> ?_, ?_,λl hl=> ?_];obtain⟨q,hq,rfl⟩:=ss.mp hl;have hq':=RK hq;rw[nS (by rw[h.ll q hq',h.ll _ hm]),h.ll q hq'];rw[sB,List.length_eraseIdx_of_lt Y];have:=h.cnt;omega;obtain⟨q,hq,rfl⟩:=ss.mp hl;have hq':=RK hq;have hz:∀l∈lists,Sz (tk c e+c+10) (aH row l):=λl h'=>sG hs (h.sz l h') (by rw[hr];exact hn);exact(SzL.off (h.sz q hq') (h.sz _ hm) (hz q hq') (hz _ hm)).mono (by rw[<- M9];omega)
theorem Ld(hn:n<=1000)(J:∀r∈rows,r.length=n)(hs:cE c rows):∃e,qk n c rows (mz rows n) e:=by
 have:∀(S R lists:List (List Int)) (e:Nat),(∀r∈S,r.length=n)->cE c S->qk n c R lists e->∃e',qk n c (R++S) (S.foldl eV lists) e':=by
  intro S;induction S with
  | nil=>intro R lists e _ _ h;exact#[e,by simpa using h]
  | cons r S U=>
   intro R lists e h1 h2 h;obtain⟨e1,Y⟩:=h.step (h1 r uC) (h2 r uC) hn;obtain⟨e2,h4⟩:=U (R++[r]) _ e1 (λq hq=>h1 q (tz _ hq)) (λq hq=>h2 q (tz _ hq)) Y;exact#[e2,by simpa using h4]
 obtain⟨e,h⟩:=this rows [] (cT n) 0 J hs (qk.start n c);rw[wT] at h;exact#[e,h]
theorem qW(hn:n<=1000)(J:∀r∈rows,r.length=n)(hs:cE c rows):cE (jd c n) (bh rows n):=by obtain⟨e,h⟩:=Ld hn J hs;have hc:=h.cnt;have:=HF h.ll h.sz;refine this.mono ?_;rw[show (mz rows n).length=n-e by omega];exact Gn ⋯
theorem hole:∀(n:Nat) (L:List Nat),L.length<n->∃f,f<n/\f∉L
 | 0,L,h=>⋯
 | n+1,L,h=>by
  by_cases hn:n∈L;obtain⟨f,h1,h2⟩:=hole n (L.erase n) (by rw[Uv hn];have:=List.length_pos_of_mem hn;omega)
  exact#[f,⋯,λJ=>h2 ((List.mem_erase_of_ne ⋯).mpr J)];exact#[n,⋯,hn]
theorem J9{f:Nat}(pl:Pl n P)(J:∀p∈P,p.1≠f):i9 P f f≠0:=by have h1:=pl.leads_pos;have h2:=jZ (L:=iR P) (f:=f) (i:=f) J;unfold i9;simp;omega
theorem Fb{A:List (List Int)}(hA:∀r∈A,r.length=n)(h:A.length<n):∃t:Nat->Int,(∃j,j<n/\t j≠0)/\eE n A t:=by obtain⟨P,eP,pl,hP,U⟩:=jY hA;obtain⟨f,hf,Y⟩:=hole n (P.map (·.1)) (by rw[sB];omega);have J:∀p∈P,p.1≠f:=λp hp e=>Y (ss.mpr #[p,hp,e]);refine#[i9 P f,#[f,hf,J9 pl J],(U _).mp ?_];rw[eP];exact tJ pl hf J
def Indep(n:Nat)(V:List (List Int)):Prop:=∀t:Nat->Int,(∀i,i<n->bt V.length (λj=>t j*nth (V.getD j []) i)=0)->∀j,j<V.length->t j=0
theorem C7{V W:List (List Int)}(hV:Indep n V)(h:∀v∈V,i4 n W (nth v)):V.length<=W.length:=by
 refine Kb λaz=> ?_;have ch:∀j,∃k:Int,∃T:List Int,j<V.length->k≠0/\∀i,i<n->k*nth (V.getD j []) i=dC T W i:=λj=>by by_cases J:j<V.length;obtain⟨k,hk,T,_,e⟩:=h (V.getD j []) (getD_mem J);exact#[k,T,λ_=>#[hk,e]];exact#[1,[],λz=>absurd z J]
 obtain⟨kf,ac⟩:=UD ch;obtain⟨U,Y⟩:=UD ac;obtain⟨t,⟨j0,ab,al⟩,hn⟩:=Fb (n:=V.length) (A:=(uM W.length).map λm=>(uM V.length).map λj=>nth (U j) m) (λr hr=>by obtain⟨m,_,rfl⟩:=ss.mp hr;simp) (by simp;omega)
 have am:∀m,m<W.length->bt V.length (λj=>nth (U j) m*t j)=0:=λm hm=>by have:=hn _ (ss.mpr #[m,AC.mpr hm,rfl]);rw[<- this];refine bS λj J=> ?_;congr 1;unfold nth;simp[pr,wv,Sd,J]
 have hz:=hV (λj=>t j*kf j) (λi hi=> ?_) j0 ab;rcases PP.mp hz with q | q
 exact al q;exact(Y j0 ab).1 q;have e1:bt V.length (λj=>t j*kf j*nth (V.getD j []) i)=bt V.length (λj=>bt W.length λm=>t j*(nth (U j) m*nth (W.getD m []) i)):=bS λj J=>by rw[Rt,(Y j J).2 i hi];unfold dC;rw[dD]
 rw[e1,qU];refine eS λm hm=> ?_;have e2:bt V.length (λj=>t j*(nth (U j) m*nth (W.getD m []) i))=nth (W.getD m []) i*bt V.length (λj=>nth (U j) m*t j):=by rw[<- dD];refine bS λj J=> ?_;rw[<- Rt,Rr (nth (W.getD m []) i),Rr (t j)]
 rw[e2,am m hm,SY]
theorem Dw(pl:Pl n P):Indep n (P.map (·.2)):=λt h j J=>by
 rw[sB] at J;have hg:∀j (J:j<P.length),(P.map (·.2)).getD j []=P[j].2:=λj J=>by simp[pr,sK J]
 have hm:P[j]∈P:=AL J;have g:=pl.good _ hm;have e:=h P[j].1 g.lt;rw[sB,gi (k:=j) J λm U ab=> ?_,hg j J] at e;rcases PP.mp e with q | q
 exact q;have:=g.pos;omega;rw[hg m U];have ac:P[m]∈P:=AL U;have Y:P[m].1≠P[j].1:=by
  have pw:=Ta.mp pl.pw;rcases Nat.lt_or_gt_of_ne ab with q | q
  exact Ez (pw m j U J q).1;exact Vb (pw j m J U q).1
 rw[pl.other ac hm Y,SY]
theorem tQ{n j:Nat}(J:j<n):(cT n).getD j []=eh n j:=by unfold cT;simp[pr,wv,Sd,J]
theorem iU:(cT n).length=n:=by unfold cT;simp
theorem Fs(n:Nat):Indep n (cT n):=λt h j J=>by rw[iU] at J;have e:=h j J;rw[iU,gi (k:=j) J λm hm U=> ?_,tQ J,dv J,if_pos rfl,Int.mul_one] at e;exact e;rw[tQ hm,dv hm,if_neg (λz=>U z.symm),SY]
theorem Co(n:Nat){x:Nat->Int}:i4 n (cT n) x:=#[1,∅,(uM n).map x,by rw[iU];simp,λi hi=>by unfold dC;rw[iU,gi (k:=i) hi λm hm J=> ?_,tQ hi,dv hi,if_pos rfl];unfold nth;simp[pr,wv,Sd,hi];rw[tQ hm,dv hm,if_neg (λz=>J z.symm),SY]]
theorem sq_nonneg(a:Int):0<=a*a:=by rcases Int.le_total 0 a with h | h;exact Rq h h;have:=Rq (show 0<= -a by omega) (show 0<= -a by omega);rwa [S9] at this
theorem uG(z:Nat->Int):∀n,0<=bt n λi=>z i*z i
 | 0=>Tn 0
 | n+1=>by have:=uG z n;have:=sq_nonneg (z n);show 0<=bt n _+z n*z n;omega
theorem Af{z:Nat->Int}:∀{n:Nat},(bt n λi=>z i*z i)=0->∀i,i<n->z i=0
 | 0,_,i,hi=>⋯
 | n+1,h,i,hi=>by
  have h1:=uG z n;have h2:=sq_nonneg (z n);have U:(bt n λi=>z i*z i)+z n*z n=0:=h;rcases Nat.lt_or_ge i n with q | q
  exact Af (n:=n) ⋯ i q;have:i=n:=⋯;subst this;have J:z i*z i=0:=⋯;rcases PP.mp J with r | r <;> exact r
theorem count(U:∀r∈R,r.length=n):(bh R n).length+(cA R n).length=n:=by
 obtain⟨P,eP,pl,_,a0⟩:=jY U;have hS:=iz U;obtain⟨Q,eQ,ql,_,_⟩:=iH U;have ab:∀s∈bh R n,∀p∈cA R n,a6 n (nth s) (nth p)=0:=λs hs p hp=>by obtain⟨_,_,_,h3,_⟩:=iH hS;rw[xg U] at h3;rw[bW];exact h3 s hs p hp
 have an:∀z:Nat->Int,eE n (cA R n) z->i4 n (bh R n) z:=λz hz=>by refine(oY hS z).mp ?_;rw[xg U];exact hz
 have J:∀(t:Nat->Int) (A B:List (List Int)) (i:Nat),bt (A++B).length (λj=>t j*nth ((A++B).getD j []) i)=bt A.length (λj=>t j*nth (A.getD j []) i)+bt B.length (λj=>t (A.length+j)*nth (B.getD j []) i):=λt A B i=>by
  have split:∀(a b:Nat) (f:Nat->Int),bt (a+b) f=bt a f+bt b λj=>f (a+j):=λa b f=>by
   induction b with
   | zero=>show bt a f=bt a f+0;omega
   | succ b ih=>
    show bt (a+b) f+f (a+b)=bt a f+(bt b (λj=>f (a+j))+f (a+b));rw[ih];omega
  rw[xL,split];congr 1;exact bS λj Y=>by rw[pr,wP Y,<- pr]
  exact bS λj Y=>by rw[pr,wS ⋯,Sb,<- pr]
 have lo:n<=(bh R n++cA R n).length:=by
  have:=C7 (n:=n) (V:=cT n) (W:=bh R n++cA R n) (Fs n) λv _=>by
   have hA:∀r∈bh R n++cA R n,r.length=n:=λr hr=>by rcases wE.mp hr with q | q;exact hS r q;exact o9 U r q
   refine(oY hA _).mp λz hz=> ?_;obtain⟨_,_,_,h3,_⟩:=iH hA;have zP:eE n (cA R n) (nth z):=λp hp=>by rw[fX,bW];exact h3 p (by simp[hp]) z hz
   have zS:eE n (bh R n) (nth z):=λp hp=>by rw[fX,bW];exact h3 p (by simp[hp]) z hz
   have zz:=(an (nth z) zP).dot zS;have z0:=Af zz;rw[fX];exact eS λi hi=>by rw[z0 i hi,Tc]
  rwa [iU] at this
 have hi:(bh R n++cA R n).length<=n:=by
  have:=C7 (n:=n) (V:=bh R n++cA R n) (W:=cT n) (λt h=> ?_) λv _=>Co n;rwa [iU] at this
  ·have y0:∀i,i<n->bt (bh R n).length (λj=>t j*nth ((bh R n).getD j []) i)=0:=by
    refine Af (z:=λi=>bt (bh R n).length (λj=>t j*nth ((bh R n).getD j []) i)) ?_;have e1:∀i,i<n->bt (bh R n).length (λj=>t j*nth ((bh R n).getD j []) i)= - bt (cA R n).length (λj=>t ((bh R n).length+j)*nth ((cA R n).getD j []) i):=λi hi=>by have:=h i hi;rw[J] at this;omega
    have al:∀(a b:Nat) (f g:Nat->Int),bt a f*bt b g=bt a λj=>bt b λm=>f j*g m:=λa b f g=>by rw[Rr,<- dD];refine bS λj _=> ?_;rw[Rr,<- dD]
    have e2:(bt n λi=>(bt (bh R n).length λj=>t j*nth ((bh R n).getD j []) i)*(bt (bh R n).length λj=>t j*nth ((bh R n).getD j []) i))=bt n λi=>(-1)*((bt (bh R n).length λj=>t j*nth ((bh R n).getD j []) i)*(bt (cA R n).length λj=>t ((bh R n).length+j)*nth ((cA R n).getD j []) i)):=bS λi hi=>by
     conv=>lhs;arg 2;rw[e1 i hi]
     rw[Int.mul_neg];omega
    rw[e2,dD];have e3:(bt n λi=>(bt (bh R n).length λj=>t j*nth ((bh R n).getD j []) i)*(bt (cA R n).length λj=>t ((bh R n).length+j)*nth ((cA R n).getD j []) i))=bt n λi=>bt (bh R n).length λj=>bt (cA R n).length λm=>(t j*t ((bh R n).length+m))*(nth ((bh R n).getD j []) i*nth ((cA R n).getD m []) i):=bS λi _=>by rw[al];refine bS λj _=>bS λm _=> ?_;rw[Rt,Rt,Int.mul_left_comm (nth ((bh R n).getD j []) i)]
    rw[e3,qU];suffices q:bt (bh R n).length (λj=>bt n λi=>bt (cA R n).length λm=>(t j*t ((bh R n).length+m))*(nth ((bh R n).getD j []) i*nth ((cA R n).getD m []) i))=0 by rw[q];rfl
    refine eS λj Y=> ?_;rw[qU];refine eS λm hm=> ?_;rw[dD];have:=ab _ (getD_mem Y) _ (getD_mem hm);unfold a6 at this;rw[this,SY]
   have p0:∀i,i<n->bt (cA R n).length (λj=>t ((bh R n).length+j)*nth ((cA R n).getD j []) i)=0:=λi hi=>by have:=h i hi;rw[J,y0 i hi] at this;omega
   have iS:Indep n (bh R n):=by rw[eQ];exact Dw ql
   have iP:Indep n (cA R n):=by rw[eP];exact Dw pl
   intro j Y;rw[xL] at Y;rcases Nat.lt_or_ge j (bh R n).length with q | q
   exact iS t y0 j q;have:=iP (λm=>t ((bh R n).length+m)) p0 (j-(bh R n).length) ⋯;rwa [show (bh R n).length+(j-(bh R n).length)=j by omega] at this
 rw[xL] at lo hi;omega
structure Fit(n:Nat)(R:List (List Int))(x:List Int):Prop where
 len:x.length=n
 nn:∀i,0<=nth x i
 st:∀r∈R,a6 n (nth r) (nth x)=0
 nz:∃i,nth x i≠0
def Sub(x y:List Int):Prop:=∀i,nth x i≠0->nth y i≠0
structure cJ(n:Nat)(R:List (List Int))(x:List Int):Prop where
 fit:Fit n R x
 one:cM x=1
 min:∀y,Fit n R y->Sub y x->Sub x y
theorem Sub.trans(a:Sub x y)(b:Sub y z):Sub x z:=λi h=>b i (a i h)
theorem Fit.lt(f:Fit n R x){i:Nat}(h:nth x i≠0):i<n:=by by_cases hi:i<n;exact hi;exact absurd (jw (by rw[f.len];omega)) h
theorem Fit.low(f:Fit n R x):Fit n R (low x)/\cM (M.low x)=1/\Sub (M.low x) x/\Sub x (M.low x):=by
 have hp:=qH x;have hi:∀i,nth (M.low x) i≠0↔nth x i≠0:=λi=>by rw[sk x i];constructor;exact λh=>UJ ⋯ h;intro h z;rw[z] at h;exact h ⋯
 obtain⟨j,J⟩:=f.nz;refine#[#[by rw[low_length,f.len],λi=> ?_,λr hr=> ?_,#[j,(hi j).mpr J]],FW J,λi=>(hi i).mp,λi=>(hi i).mpr];have:=f.nn i;rw[sk x i] at this;by_cases h:0<=nth (M.low x) i;exact h;have:=SA hp (by omega:nth (M.low x) i<0);omega;have:=f.st r hr;rw[bW];rw[bW] at this;exact(yw n x (nth r)).mpr this
theorem xA{a b c d e f:Int}(hb:0<b)(hd:0<d)(J:0<f)(h1:a*d<=c*b)(h2:c*f<=e*d):a*f<=e*b:=by
 have e1:a*d*f<=c*b*f:=RI h1 ⋯;have e2:c*f*b<=e*d*b:=RI h2 ⋯;have:(a*f)*d<=(e*b)*d:=by
  have q1:a*d*f=(a*f)*d:=by grind
  have q2:c*b*f=c*f*b:=by grind
  have U:e*d*b=(e*b)*d:=by grind
  omega
 exact Int.le_of_mul_le_mul_right this hd
theorem Jv(a b:Nat->Int)(hb:∀i,0<=b i):∀n,(∃i,i<n/\b i≠0)->∃m,m<n/\b m≠0/\∀i,i<n->b i≠0->a m*b i<=a i*b m
 | 0,h=>by obtain⟨i,hi,_⟩:=h;omega
 | n+1,h=>by
  by_cases hn:∃i,i<n/\b i≠0;obtain⟨m,hm,hz,Y⟩:=Jv a b hb n hn;by_cases U:b n=0;refine#[m,⋯,hz,λi hi J=> ?_];by_cases e:i=n;subst e;exact absurd U J;exact Y i ⋯ J;by_cases hc:a m*b n<=a n*b m;refine#[m,⋯,hz,λi hi J=> ?_];by_cases e:i=n;subst e;exact hc;exact Y i ⋯ J;refine#[n,⋯,U,λi hi J=> ?_];by_cases e:i=n;subst e;omega;have:=hb n;have:=hb m;have:=hb i;exact xA ⋯ (by omega:0<b m) ⋯ ⋯ (Y i ⋯ J);obtain⟨i,hi,J⟩:=h;have e:i=n:=by by_cases e:i=n;exact e;exact absurd #[i,⋯,J] hn
  subst e;refine#[i,⋯,J,λj hj ab=> ?_];by_cases e:j=i;subst e;omega;exact absurd #[j,⋯,ab] hn
theorem xR(fx:Fit n R x)(Y:Fit n R y)(hs:Sub y x):
 ∃z:List Int,z.length=n/\(∀i,0<=nth z i)/\Sub z x/\∃c d:Int,0<c/\0<d/\(∀i,nth z i=c*nth x i-d*nth y i)/\∃m,nth y m≠0/\nth z m=0:=by
 obtain⟨j,hj⟩:=Y.nz;obtain⟨m,hm,hz,hl⟩:=Jv (nth x) (nth y) Y.nn n #[j,Y.lt hj,hj];have U:x.length=y.length:=by rw[fx.len,Y.len]
 have ap:=fx.nn m;have ac:=Y.nn m;have am:=hs m hz;have J:∀i,nth (g6 x (nth x m) y (nth y m)) i=nth y m*nth x i-nth x m*nth y i:=λi=>by rw[uv U];grind
 refine#[g6 x (nth x m) y (nth y m),by rw[nX U,fx.len],λi=> ?_,λi hi=> ?_,nth y m,nth x m,⋯,⋯,J,m,hz,by rw[J];grind];rw[J];by_cases hy:nth y i=0;rw[hy];have:=Rq ac (fx.nn i);omega;have:=hl i (Y.lt hy) hy;have:nth y m*nth x i=nth x i*nth y m:=Rr _ _;omega;rw[J] at hi;intro z;apply hi;have:nth y i=0:=by by_cases hy:nth y i=0;exact hy;exact absurd z (hs i hy)
 rw[z,this];omega
theorem Ba{c d:Int}(h:∀i,nth z i=c*nth x i-d*nth y i)(r:Nat->Int):a6 n r (nth z)=c*a6 n r (nth x)-d*a6 n r (nth y):=by have:=Bc (n:=n) (a:=nth x) (b:=nth y) (u:=c) (v:= -d) r;rw[bW,G8 (b:=λi=>c*nth x i + -d*nth y i) (λi _=>by rw[h i];grind),bW,this];grind
theorem AH(J:Fit n R x)(U:Fit n R y)(Y:z.length=n)(hn:∀i,0<=nth z i){c d:Int}(h:∀i,nth z i=c*nth x i-d*nth y i)(hz:∃i,nth z i≠0):Fit n R z:=
 #[Y,hn,λr hr=>by rw[Ba h,J.st r hr,U.st r hr];omega,hz]
theorem cJ.prop(l:cJ n R x)(U:Fit n R y)(hs:Sub y x):∃a b:Int,0<a/\0<b/\∀i,a*nth x i=b*nth y i:=by
 obtain⟨z,zl,Y,zs,c,d,hc,hd,h,m,hm,J⟩:=xR l.fit U hs;by_cases hz:∃i,nth z i≠0;have fz:=AH l.fit U zl Y h hz;exact absurd J (l.min z fz zs m (hs m hm));refine#[c,d,hc,hd,λi=> ?_];have:nth z i=0:=by by_cases e:nth z i=0;exact e;exact absurd #[i,e] hz
 rw[h i] at this;omega
theorem cJ.eq(l:cJ n R x)(J:Fit n R y)(h1:cM y=1)(hs:Sub y x):x=y:=by obtain⟨a,b,ha,hb,h⟩:=l.prop J hs;exact FH (by rw[l.fit.len,J.len]) l.one h1 ha hb λi _=>h i
def cnt(x:List Int):Nat:=(x.filter (·≠0)).length
theorem JH:∀{x y:List Int},x.length=y.length->Sub x y->cnt x<=cnt y
 | [],[],_,_=>vr _
 | a::x,b::y,hl,hs=>by have J:=JH (x:=x) (y:=y) (by simpa using hl) λi h=>hs (i+1) h;have h0:a≠0->b≠0:=hs 0;unfold cnt at *;by_cases ha:a=0;rw[Rl (by simpa using ha)];by_cases hb:b=0;rw[Rl (by simpa using hb)];exact J;rw[Go (by simpa using hb),xa];omega;rw[Go (by simpa using ha),Go (by simpa using h0 ha),xa,xa];omega
theorem vx:∀{x y:List Int} {m:Nat},x.length=y.length->Sub x y->nth y m≠0->nth x m=0->cnt x<cnt y
 | [],[],m,_,_,h,_=>by simp[nth] at h
 | a::x,b::y,0,hl,hs,h,h'=>by have J:=JH (x:=x) (y:=y) (by simpa using hl) λi h=>hs (i+1) h;have ha:a=0:=h';have hb:b≠0:=h;unfold cnt at *;rw[Rl (by simpa using ha),Go (by simpa using hb),xa];omega
 | a::x,b::y,m+1,hl,hs,h,h'=>by have J:=vx (x:=x) (y:=y) (m:=m) (by simpa using hl) (λi h=>hs (i+1) h) h h';have h0:a≠0->b≠0:=hs 0;unfold cnt at *;by_cases ha:a=0;rw[Rl (by simpa using ha)];by_cases hb:b=0;rw[Rl (by simpa using hb)];exact J;rw[Go (by simpa using hb),xa];omega;rw[Go (by simpa using ha),Go (by simpa using h0 ha),xa,xa];omega
theorem Ai{n:Nat}{R:List (List Int)}:∀(k:Nat) {x:List Int},cnt x<=k->Fit n R x->∃l,cJ n R l/\Sub l x:=by
 intro k;induction k with
 | zero=>
  intro x hk f;obtain⟨i,hi⟩:=f.nz;have:cnt (u0 n (0:Int))<cnt x:=vx (m:=i) (by rw[f.len];simp) (λj h=>by
   exfalso;apply h;unfold nth;rw[pr,GX];split <;> rfl) hi (by
   unfold nth;rw[pr,GX];split <;> rfl)
  omega
 | succ k ih=>
  intro x hk f;by_cases h:∃y,Fit n R y/\Sub y x/\¬Sub x y;obtain⟨y,J,h1,h2⟩:=h;have:∃m,nth x m≠0/\nth y m=0:=by apply Kb;intro hn;exact h2 λi hi=>λz=>hn #[i,hi,z]
  obtain⟨m,hm,U⟩:=this;have:=vx (by rw[J.len,f.len]) h1 hm U;obtain⟨l,hl,hs⟩:=ih (x:=y) ⋯ J;exact#[l,hl,hs.trans h1];obtain⟨q1,q2,Y,q4⟩:=f.low;refine#[low x,#[q1,q2,λy J hs=> ?_],Y];apply Kb;intro hn;exact h #[y,J,hs.trans Y,λz=>hn (Y.trans z)]
theorem yV{n:Nat}{R:List (List Int)}(r:List Int):∀(k:Nat) {x:List Int},cnt x<=k->Fit n R x->0<a6 n (nth r) (nth x)->∃l,cJ n R l/\Sub l x/\0<a6 n (nth r) (nth l):=by
 intro k;induction k with
 | zero=>
  intro x hk f Y;obtain⟨l,J,hs⟩:=Ai 0 hk f;obtain⟨i,hi⟩:=f.nz;have:cnt (u0 n (0:Int))<cnt x:=vx (m:=i) (by rw[f.len];simp) (λj h=>by
   exfalso;apply h;unfold nth;rw[pr,GX];split <;> rfl) hi (by
   unfold nth;rw[pr,GX];split <;> rfl)
  omega
 | succ k ih=>
  intro x hk f Y;obtain⟨l,J,hs⟩:=Ai (k+1) hk f;by_cases hp:0<a6 n (nth r) (nth l);exact#[l,J,hs,hp];obtain⟨z,zl,zn,zs,c,d,hc,hd,h,m,hm,U⟩:=xR f J.fit hs;have ev:=Ba (n:=n) h (nth r);have h1:=RP hc Y;have h2:=Su (show 0<=d by omega) (show a6 n (nth r) (nth l)<=0 by omega);have hz:∃i,nth z i≠0:=by
   apply Kb;intro hn;have:a6 n (nth r) (nth z)=0:=eS λi _=>by
    have:nth z i=0:=by by_cases e:nth z i=0;exact e;exact absurd #[i,e] hn
    rw[this];omega
   omega
  have fz:=AH f J.fit zl zn h hz;have:=vx (by rw[zl,f.len]) zs (hs m hm) U;obtain⟨l',q1,q2,q3⟩:=ih (x:=z) ⋯ fz ⋯;exact#[l',q1,q2.trans zs,q3]
theorem k6:a6 n (nth (r.map (- ·))) (nth x)= -a6 n (nth r) (nth x):=by have:=ug (n:=n) (a:=r.map (- ·)) (c:=r) (g:= -1) (λi=>by rw[iQ (by simp)];omega) (nth x);rw[<- fX,this,fX];omega
theorem yY(r:List Int)(f:Fit n R x)(U:a6 n (nth r) (nth x)<0):∃l,cJ n R l/\Sub l x/\a6 n (nth r) (nth l)<0:=by obtain⟨l,h1,h2,J⟩:=yV (r.map (- ·)) _ (vr _) f (by rw[k6];omega);rw[k6] at J;exact#[l,h1,h2,⋯]
theorem BP(r:List Int)(f:Fit n R x)(hv:a6 n (nth r) (nth x)=0):
 (∃l,cJ n R l/\Sub l x/\a6 n (nth r) (nth l)=0)\/∃h w,cJ n R h/\cJ n R w/\Sub h x/\Sub w x/\0<a6 n (nth r) (nth h)/\a6 n (nth r) (nth w)<0:=by
 obtain⟨l,J,hs⟩:=Ai _ (vr _) f;by_cases h0:a6 n (nth r) (nth l)=0;exact .inl #[l,J,hs,h0];obtain⟨z,zl,zn,zs,c,d,hc,hd,h,m,hm,as⟩:=xR f J.fit hs;have ev:=Ba (n:=n) h (nth r);rw[hv] at ev;have U:a6 n (nth r) (nth z)≠0:=by rw[ev];have:=UJ (show d≠0 by omega) h0;omega
 have hz:∃i,nth z i≠0:=by
  apply Kb;intro hn;exact U (eS λi _=>by
   have:nth z i=0:=by by_cases e:nth z i=0;exact e;exact absurd #[i,e] hn
   rw[this];omega)
 have fz:=AH f J.fit zl zn h hz;by_cases hp:0<a6 n (nth r) (nth l);have:=RP hd hp;obtain⟨w,Y,w2,w3⟩:=yY r fz ⋯;exact .inr #[l,w,J,Y,hs,w2.trans zs,hp,w3];have:=SA hd (show a6 n (nth r) (nth l)<0 by omega);obtain⟨w,Y,w2,w3⟩:=yV r _ (vr _) fz ⋯;exact .inr #[w,l,Y,J,w2.trans zs,hs,w3,⋯]
def subB(n:Nat)(l h w:List Int):Bool:=(uM n).all λi=>decide (nth l i=0)||decide (nth h i≠0)||decide (nth w i≠0)
def nbB(n:Nat)(L:List (List Int))(h w:List Int):Bool:=(L.filter λl=>subB n l h w).length == 2
def dY(n:Nat)(L:List (List Int))(r:List Int):List (List Int):=
 (L.filter λl=>decide (aH r l=0))++(L.filter λl=>decide (0<aH r l)).flatMap λh=>((L.filter λl=>decide (aH r l<0)).filter λw=>nbB n L h w).map λw=>c9 w (aH r w) h (aH r h)
theorem yu(J:l.length=n):subB n l h w=qc↔∀i,nth l i≠0->nth h i≠0\/nth w i≠0:=by
 unfold subB;rw[SD];constructor;intro H i hi;have lt:i<n:=by by_cases e:i<n;exact e;exact absurd (jw ⋯) hi
 have:=H i (AC.mpr lt);simp only[SJ,decide_eq_true_eq] at this;rcases this with(z | z) | z
 exact absurd z hi;exact .inl z;exact .inr z;intro H i _;simp only[SJ,decide_eq_true_eq];by_cases e:nth l i=0;exact .inl (.inl e);rcases H i e with z | z
 exact .inl (.inr z);exact .inr z
theorem GY{α:Type}{L:List α}(hd:L.Nodup)(J:L.length=2){h w:α}(Y:h∈L)(hw:w∈L)(U:h≠w):∀l∈L,l=h\/l=w:=by
 match L,J with
 | [a,b],_=>
  intro l J;simp only[u8,Se,or_false] at Y hw J;rcases Y with rfl | rfl <;> rcases hw with rfl | rfl <;> rcases J with rfl | rfl <;> first | exact .inl rfl | exact .inr rfl | exact absurd rfl U
theorem GS{α:Type}{L:List α}(hd:L.Nodup){h w:α}(J:h∈L)(U:w∈L)(Y:h≠w)(ha:∀l∈L,l=h\/l=w):L.length=2:=by
 have h1:L.length<=2:=by
  match L,hd with
  | [],_=>simp
  | [_],_=>simp
  | [_,_],_=>simp
  | a::b::c::r,hd=>
   exfalso;have ab:=ha a (by simp);have ac:=ha b (by simp);have al:=ha c (by simp);simp only[RQ,u8,not_or] at hd;rcases ab with e1 | e1 <;> rcases ac with e2 | e2 <;> rcases al with e3 | e3 <;> simp_all
 match L,J,U,h1 with
 | [a],J,U,_=>
  simp only[wn] at J U;exact absurd (J.trans U.symm) Y
 | [a,b],_,_,_=>rfl
section
variable {n : Nat} {R L : List (List Int)} {r : List Int}
structure kc(n:Nat)(R L:List (List Int)):Prop where
 all:∀x,x∈L↔cJ n R x
 nd:L.Nodup
theorem kc.dot(k:kc n R L)(h:l∈L)(r:List Int):aH r l=a6 n (nth r) (nth l):=jm ((k.all l).mp h).fit.len
theorem zW(k:kc n R L)(hh:h∈L)(hw:w∈L)(J:h≠w):nbB n L h w=qc↔∀l∈L,(∀i,nth l i≠0->nth h i≠0\/nth w i≠0)->l=h\/l=w:=by
 have mem:∀l,l∈L.filter (λl=>subB n l h w)↔l∈L/\∀i,nth l i≠0->nth h i≠0\/nth w i≠0:=λl=>by rw[xz];constructor;exact λ#[a,b]=>#[a,(yu ((k.all l).mp a).fit.len).mp b];exact λ#[a,b]=>#[a,(yu ((k.all l).mp a).fit.len).mpr b]
 have Y:(L.filter (λl=>subB n l h w)).Nodup:=k.nd.filter _;have m1:h∈L.filter (λl=>subB n l h w):=(mem h).mpr #[hh,λi hi=>.inl hi];have m2:w∈L.filter (λl=>subB n l h w):=(mem w).mpr #[hw,λi hi=>.inr hi];unfold nbB;rw[beq_iff_eq];constructor;exact λU l h1 h2=>GY Y U m1 m2 J l ((mem l).mpr #[h1,h2]);exact λha=>GS Y m1 m2 J λl U=>let #[a,b]:=(mem l).mp U;ha l a b
theorem mn(hr:r.length=n)(U:Fit n R h)(Y:Fit n R w)(vh:0<aH r h)(vw:aH r w<0):
 Fit n (R++[r]) (c9 w (aH r w) h (aH r h))/\cM (c9 w (aH r w) h (aH r h))=1/\(∀i,nth (c9 w (aH r w) h (aH r h)) i≠0↔nth h i≠0\/nth w i≠0)/\
 ∃g:Int,0<g/\∀i,g*nth (c9 w (aH r w) h (aH r h)) i=nth w i*aH r h+nth h i*(-(aH r w)):=by
 have J:w.length=h.length:=by rw[Y.len,U.len]
 obtain⟨g,hg,e⟩:=t5 J (aH r w) (aH r h);have e':∀i,g*nth (c9 w (aH r w) h (aH r h)) i=nth w i*aH r h+nth h i*(-(aH r w)):=λi=>by rw[e i];grind
 have nz:∀i,nth (c9 w (aH r w) h (aH r h)) i≠0↔nth h i≠0\/nth w i≠0:=λi=>by
  have h1:=Rq (Y.nn i) (show 0<=aH r h by omega);have h2:=Rq (U.nn i) (show 0<= -(aH r w) by omega);constructor;intro hz;apply Kb;intro hn;have q1:nth h i=0:=by by_cases q:nth h i=0;exact q;exact absurd (.inl q) hn
  have q2:nth w i=0:=by by_cases q:nth w i=0;exact q;exact absurd (.inr q) hn
  have:=e' i;rw[q1,q2] at this;have:g*nth (c9 w (aH r w) h (aH r h)) i=0:=by rw[this];omega
  rcases PP.mp this with z | z;omega;exact hz z;intro ac z;have:=e' i;rw[z] at this;have hs:nth w i*aH r h+nth h i*(-(aH r w))=0:=⋯;rcases ac with q | q;have:=RP (show 0<nth h i by have:=U.nn i;omega) (show 0 < -(aH r w) by omega);omega;have:=RP (show 0<nth w i by have:=Y.nn i;omega) vh;omega
 have one:cM (c9 w (aH r w) h (aH r h))=1:=by obtain⟨i,hi⟩:=U.nz;have q:nth (c9 w (aH r w) h (aH r h)) i≠0:=(nz i).mpr (.inl hi);exact tD _ i q
 refine#[#[by rw[nS J,Y.len],λi=> ?_,λq hq=> ?_, ?_],one,nz,g,hg,e'];have h1:=Rq (Y.nn i) (show 0<=aH r h by omega);have h2:=Rq (U.nn i) (show 0<= -(aH r w) by omega);have:=e' i;by_cases z:0<=nth (c9 w (aH r w) h (aH r h)) i;exact z;have:=SA hg (show nth (c9 w (aH r w) h (aH r h)) i<0 by omega);omega;obtain⟨g',as,ed⟩:=yy (n:=n) J (aH r w) (aH r h) (nth q);simp only[fX] at ed;rw[bW];have z:g'*a6 n (nth (c9 w (aH r w) h (aH r h))) (nth q)=0:=by
  rw[ed,bW n (nth w),bW n (nth h)];rcases wE.mp hq with hq | hq
  rw[Y.st q hq,U.st q hq];omega;rw[wn.mp hq,<- jm Y.len,<- jm U.len];grind
 rcases PP.mp z with z | z;omega;exact z;obtain⟨i,hi⟩:=U.nz;exact#[i,(nz i).mpr (.inl hi)]
theorem Fit.less{R S:List (List Int)}(f:Fit n (R++S) x):Fit n R x:=#[f.len,f.nn,λr hr=>f.st r (RB _ hr),f.nz]
theorem Fit.more(f:Fit n R x)(h:a6 n (nth r) (nth x)=0):Fit n (R++[r]) x:=#[f.len,f.nn,λq hq=>by rcases wE.mp hq with z | z;exact f.st q z;rw[wn.mp z];exact h,f.nz]
theorem cJ.same(a:cJ n R x)(b:cJ n R y)(h:Sub y x):x=y:=a.eq b.fit b.one h
theorem xu(hr:r.length=n)(J:cJ n R h)(ll:cJ n R l)(lw:cJ n R w)(U:cJ n (R++[r]) x)(vh:0<aH r h)(vl:0<aH r l)(Y:aH r w<0)(sh:Sub h x)(sl:Sub l x)(sw:Sub w x):l=h:=by
 obtain⟨f1,g1,z1,a,ha,e1⟩:=mn hr J.fit lw.fit vh Y;obtain⟨f2,g2,z2,b,hb,e2⟩:=mn hr ll.fit lw.fit vl Y;have x1:=U.eq f1 g1 λi hi=>((z1 i).mp hi).elim (sh i) (sw i);have x2:=U.eq f2 g2 λi hi=>((z2 i).mp hi).elim (sl i) (sw i);rw[<- x1] at e1;rw[<- x2] at e2;have key:∀i,b*(nth h i*(-(aH r w)))+(b*aH r h-a*aH r l)*nth w i=a*(nth l i*(-(aH r w))):=λi=>by
  have q1:=e1 i;have q2:=e2 i;have:b*(a*nth x i)=a*(b*nth x i):=by grind
  rw[q1,q2] at this;grind
 have hu:0 < -(aH r w):=⋯;by_cases hm:0<=b*aH r h-a*aH r l;refine(cJ.same ll J λi hi=> ?_);intro z;have q:=key i;rw[z] at q;have h1:=RP hb (RP (show 0<nth h i by have:=J.fit.nn i;omega) hu);have h2:=Rq hm (lw.fit.nn i);have h3:a*(0*(-(aH r w)))=0:=by simp
 omega;refine(cJ.same J ll λi hi=> ?_).symm;intro z;have q:=key i;rw[z] at q;have h1:=RP ha (RP (show 0<nth l i by have:=ll.fit.nn i;omega) hu);have h2:=Int.mul_nonpos_of_nonpos_of_nonneg (show b*aH r h-a*aH r l<=0 by omega) (lw.fit.nn i);have h3:b*(0*(-(aH r w)))=0:=by simp
 omega
theorem yk(J:l.length=n):aH (r.map (- ·)) l= -(aH r l):=by rw[jm J,jm J,k6]
theorem cJ.neg(l:cJ n (R++[r]) x):cJ n (R++[r.map (- ·)]) x:=by
 have J:∀y,Fit n (R++[r]) y↔Fit n (R++[r.map (- ·)]) y:=λy=>by constructor;refine λf=>Fit.more f.less ?_;rw[k6,f.st r (by simp)];rfl;refine λf=>Fit.more f.less ?_;have:=f.st (r.map (- ·)) (by simp);rw[k6] at this;omega
 exact#[(J x).mp l.fit,l.one,λy U=>l.min y ((J y).mpr U)]
theorem C2(hr:r.length=n)(J:cJ n R h)(ll:cJ n R l)(lw:cJ n R w)(U:cJ n (R++[r]) x)(vh:0<aH r h)(vl:aH r l<0)(vw:aH r w<0)(sh:Sub h x)(sl:Sub l x)(Y:Sub w x):l=w:=
 xu (r:=r.map (- ·)) (h:=w) (l:=l) (w:=h) (by simpa using hr) lw ll J U.neg (by rw[yk lw.fit.len];omega) (by rw[yk ll.fit.len];omega) (by rw[yk J.fit.len];omega) Y sl sh
theorem vt:x∈dY n L r↔(x∈L/\aH r x=0)\/∃h w,h∈L/\w∈L/\0<aH r h/\aH r w<0/\nbB n L h w=qc/\x=c9 w (aH r w) h (aH r h):=by unfold dY;rw[wE];constructor;rintro (h | h);rw[xz,decide_eq_true_eq] at h;exact .inl h;obtain⟨h',q1,q2⟩:=Uu.mp h;obtain⟨w,J,rfl⟩:=ss.mp q2;rw[xz,decide_eq_true_eq] at q1;rw[xz,xz,decide_eq_true_eq] at J;exact .inr #[h',w,q1.1,J.1.1,q1.2,J.1.2,J.2,rfl];rintro (h | ⟨h',w,q1,q2,J,U,Y,rfl⟩);exact .inl (by rw[xz,decide_eq_true_eq];exact h);refine .inr (Uu.mpr #[h',by rw[xz,decide_eq_true_eq];exact#[q1,J],ss.mpr #[w, ?_,rfl]]);rw[xz,xz,decide_eq_true_eq];exact#[#[q2,U],Y]
theorem Dn(hr:r.length=n)(k:kc n R L)(x:List Int):x∈dY n L r↔cJ n (R++[r]) x:=by
 rw[vt];constructor;rintro (⟨hx,v⟩ | ⟨h,w,hh,hw,J,Y,nb,rfl⟩);have l:=(k.all x).mp hx;rw[k.dot hx] at v;exact#[l.fit.more v,l.one,λy fy=>l.min y fy.less];have lh:=(k.all h).mp hh;have lw:=(k.all w).mp hw;have ab:h≠w:=λe=>by rw[e] at J;omega
 obtain⟨f1,g1,z1,_⟩:=mn hr lh.fit lw.fit J Y;refine#[f1,g1,λy fy sy=> ?_];have ac:=(zW k hh hw ab).mp nb;rcases BP r fy.less (fy.st r (by simp)) with⟨l,ll,sl,v⟩ | ⟨h',w',bp,bv,a0,a1,a2,a3⟩
 have U:=(k.all l).mpr ll;have:=ac l U λi hi=>(z1 i).mp (sy i (sl i hi));rw[<- k.dot U] at v;rcases this with rfl | rfl <;> omega
 have a4:=(k.all h').mpr bp;have a5:=(k.all w').mpr bv;rw[<- k.dot a4] at a2;rw[<- k.dot a5] at a3;have e1:h'=h:=by
  rcases ac h' a4 λi hi=>(z1 i).mp (sy i (a0 i hi)) with e | e
  exact e;rw[e] at a2;omega
 have e2:w'=w:=by
  rcases ac w' a5 λi hi=>(z1 i).mp (sy i (a1 i hi)) with e | e
  rw[e] at a3;omega;exact e
 subst e1 e2;exact λi hi=>((z1 i).mp hi).elim (a0 i) (a1 i);intro lx;by_cases hz:∃l,cJ n R l/\Sub l x/\a6 n (nth r) (nth l)=0;obtain⟨l,ll,sl,v⟩:=hz;have e:=lx.eq (ll.fit.more v) ll.one sl;subst e;have U:=(k.all x).mpr ll;exact .inl #[U,by rw[k.dot U];exact v];rcases BP r lx.fit.less (lx.fit.st r (by simp)) with h0 | ⟨h,w,lh,lw,sh,sw,J,Y⟩
 exact absurd h0 hz;have hh:=(k.all h).mpr lh;have hw:=(k.all w).mpr lw;rw[<- k.dot hh] at J;rw[<- k.dot hw] at Y;have ab:h≠w:=λe=>by rw[e] at J;omega
 obtain⟨f1,g1,z1,_⟩:=mn hr lh.fit lw.fit J Y;refine .inr #[h,w,hh,hw,J,Y,(zW k hh hw ab).mpr λl U sl=> ?_,lx.eq f1 g1 λi hi=>((z1 i).mp hi).elim (sh i) (sw i)];have ll:=(k.all l).mp U;have al:Sub l x:=λi hi=>(sl i hi).elim (sh i) (sw i);by_cases v0:aH r l=0;exact absurd #[l,ll,al,by rw[<- k.dot U];exact v0] hz;by_cases vp:0<aH r l;exact .inl (xu hr lh ll lw lx J vp Y sh al sw);exact .inr (C2 hr lh ll lw lx J ⋯ Y sh al sw)
end
section
variable {n : Nat} {R L : List (List Int)} {r : List Int}
theorem FI (hr:r.length=n) (k:kc n R L) {h w h' J:List Int} (hh:h∈L) (hw:w∈L) (vh:0<aH r h) (vw:aH r w<0) (nb:nbB n L h w=qc)
 (U:h'∈L) (Y:J∈L) (ab:0<aH r h') (ac:aH r J<0) (e:c9 w (aH r w) h (aH r h)=c9 J (aH r J) h' (aH r h')):h=h'/\w=J:=by
 have am:h≠w:=λe=>by rw[e] at vh;omega
 obtain⟨_,_,z1,_⟩:=mn hr ((k.all h).mp hh).fit ((k.all w).mp hw).fit vh vw;obtain⟨_,_,z2,_⟩:=mn hr ((k.all h').mp U).fit ((k.all J).mp Y).fit ab ac;rw[e] at z1;have al:=(zW k hh hw am).mp nb;constructor;rcases al h' U λi hi=>(z1 i).mp ((z2 i).mpr (.inl hi)) with q | q
 exact q.symm;rw[q] at ab;omega;rcases al J Y λi hi=>(z1 i).mp ((z2 i).mpr (.inr hi)) with q | q
 rw[q] at ac;omega;exact q.symm
theorem E8(hr:r.length=n)(k:kc n R L):(dY n L r).Nodup:=by
 unfold dY;rw[Sa];refine#[k.nd.filter _, ?_,λx hx y hy e=> ?_];unfold List.Nodup;rw[List.pairwise_flatMap];constructor;intro h J;rw[xz,decide_eq_true_eq] at J;rw[Sv];refine RY (λ{w w'} U Y ab=> ?_) ((k.nd.filter _).filter _);rw[xz,xz,decide_eq_true_eq] at U Y;exact λe=>ab (FI hr k J.1 U.1.1 J.2 U.1.2 U.2 J.1 Y.1.1 J.2 Y.1.2 e).2;refine RY (λ{h h'} J hh' ab x hx y hy=> ?_) (k.nd.filter _);rw[xz,decide_eq_true_eq] at J hh';obtain⟨w,U,rfl⟩:=ss.mp hx;obtain⟨w',Y,rfl⟩:=ss.mp hy;rw[xz,xz,decide_eq_true_eq] at U Y;exact λe=>ab (FI hr k J.1 U.1.1 J.2 U.1.2 U.2 hh'.1 Y.1.1 hh'.2 Y.1.2 e).1;subst e;rw[xz,decide_eq_true_eq] at hx;obtain⟨h,J,hy⟩:=Uu.mp hy;obtain⟨w,U,e⟩:=ss.mp hy;rw[xz,decide_eq_true_eq] at J;rw[xz,xz,decide_eq_true_eq] at U;have ab:h≠w:=λe=>by rw[e] at J;omega
 obtain⟨_,_,z1,_⟩:=mn hr ((k.all h).mp J.1).fit ((k.all w).mp U.1.1).fit J.2 U.1.2;rw[e] at z1;rcases(zW k J.1 U.1.1 ab).mp U.2 x hx.1 λi hi=>(z1 i).mp hi with q | q
 rw[q] at hx;omega;rw[q] at hx;omega
theorem kc.step(hr:r.length=n)(k:kc n R L):kc n (R++[r]) (dY n L r):=#[Dn hr k,E8 hr k]
theorem BL(ha:a<n):cM (eh n a)=1:=by have:=qm (eh n a) a;rw[dv ha,if_pos rfl] at this;have:(cM (eh n a):Int).natAbs ∣ (1:Int).natAbs:=Tx.mpr this;simpa using this
theorem xT(ha:a<n):Fit n [] (eh n a):=by refine#[by unfold eh;simp,λi=> ?_,by simp,#[a, ?_]];rw[dv ha];split <;> omega;rw[dv ha,if_pos rfl];decide
theorem HZ(ha:a<n):cJ n [] (eh n a):=by refine#[xT ha,BL ha,λy U Y=>λi hi=> ?_];rw[dv ha] at hi;by_cases e:i=a;subst e;obtain⟨j,J⟩:=U.nz;have:=Y j J;rw[dv ha] at this;by_cases e:j=i;rw[<- e];exact J;rw[if_neg e] at this;exact absurd rfl this;rw[if_neg e] at hi;exact absurd rfl hi
theorem GZ(n:Nat):kc n [] (cT n):=by
 refine#[λx=>#[λhx=> ?_,λl=> ?_], ?_];obtain⟨a,ha,rfl⟩:=ss.mp hx;exact HZ (AC.mp ha);obtain⟨i,hi⟩:=l.fit.nz;have lt:=l.fit.lt hi;have:=l.eq (xT lt) (BL lt) λj J=>by rw[dv lt] at J;by_cases e:j=i;rw[e];exact hi;rw[if_neg e] at J;exact absurd rfl J
 rw[this];exact ss.mpr #[i,AC.mpr lt,rfl];unfold cT List.Nodup;rw[Sv];refine RY (λ{a b} ha hb hne e=>hne ?_) List.nodup_range;have h1:=dv (AC.mp ha) a;rw[e,dv (AC.mp hb),if_pos rfl] at h1;by_cases q:a=b;exact q;rw[if_neg q] at h1;cases h1
theorem BG:∀{rows:List (List Int)},(∀r∈rows,r.length=n)->∀{R L:List (List Int)},kc n R L->kc n (R++rows) (rows.foldl (dY n) L)
 | [],_,R,L,k=>by simpa using k
 | row::rows,h,R,L,k=>by have:=BG (rows:=rows) (λr hr=>h r (tz _ hr)) (k.step (h row uC));simpa using this
def j3(rows:List (List Int))(n:Nat):List (List Int):=rows.foldl (dY n) (cT n)
theorem oA(h:∀r∈rows,r.length=n):kc n rows (j3 rows n):=by have:=BG h (GZ n);rw[wT] at this;exact this
end
section
variable {n : Nat} {R L : List (List Int)}
theorem zI{c:List Int}(h:∀l,cJ n R l->0<=a6 n (nth c) (nth l))(J:Fit n R y):0<=a6 n (nth c) (nth y):=by by_cases U:0<=a6 n (nth c) (nth y);exact U;obtain⟨l,h1,_,Y⟩:=yY c J ⋯;have:=h l h1;omega
theorem between{α:Type}(a b:α->Int):∀(A B:List α),(∀x∈A,0<b x)->(∀x∈B,0<b x)->(∀x∈A,∀y∈B,a x*b y<=a y*b x)->
 ∃p q:Int,0<q/\(∀x∈A,a x*q<=p*b x)/\∀y∈B,p*b y<=a y*q:=by
 have J:∀B:List α,B≠[]->(∀x∈B,0<b x)->∃m∈B,∀y∈B,a m*b y<=a y*b m:=by
  intro B;induction B with
  | nil=>intro h;exact absurd rfl h
  | cons x B ih=>
   intro _ hb;by_cases U:B=[];subst U;exact#[x,by simp,λy hy=>by rw[wn.mp hy];omega];obtain⟨m,hm,hl⟩:=ih U λy hy=>hb y (tz _ hy);have b1:=hb x uC;have b2:=hb m (tz _ hm);by_cases hc:a m*b x<=a x*b m;refine#[m,tz _ hm,λy hy=> ?_];rcases u8.mp hy with rfl | hy
   exact hc;exact hl y hy;refine#[x,uC,λy hy=> ?_];rcases u8.mp hy with rfl | hy
   omega;exact xA b1 b2 (hb y (tz _ hy)) ⋯ (hl y hy)
 intro A B hA U Y;by_cases ab:B=[];subst ab;have:∃p:Int,∀x∈A,a x<=p*b x:=by
  clear Y;induction A with
  | nil=>exact#[0,by simp]
  | cons x A ih=>
   obtain⟨p,hp⟩:=ih (λy hy=>hA y (tz _ hy));refine#[max p (max (a x) 0),λy hy=> ?_];have b1:=hA y hy;rcases u8.mp hy with rfl | hy
   have:max p (max (a y) 0)*1<=max p (max (a y) 0)*b y:=Int.mul_le_mul_of_nonneg_left ⋯ ⋯;omega;have h1:=hp y hy;have:p*b y<=max p (max (a x) 0)*b y:=RI ⋯ ⋯;omega
 obtain⟨p,hp⟩:=this;exact#[p,1,∅,λx hx=>by have:=hp x hx;omega,by simp];obtain⟨m,hm,hl⟩:=J B ab U;exact#[a m,b m,U m hm,λx hx=>Y x hx m hm,hl]
theorem NJ:∀{rows:List (List Int)},(∀r∈rows,r.length=n)->∀{c:List Int},c.length=n->(∀y,Fit n rows y->0<=a6 n (nth c) (nth y))->
 ∃k:Int,0<k/\∃T:List Int,T.length=rows.length/\∀i,i<n->dC T rows i<=k*nth c i:=by
 intro rows;suffices H:∀(m:Nat) (rows:List (List Int)),rows.length=m->(∀r∈rows,r.length=n)->∀{c:List Int},c.length=n->(∀y,Fit n rows y->0<=a6 n (nth c) (nth y))->
  ∃k:Int,0<k/\∃T:List Int,T.length=rows.length/\∀i,i<n->dC T rows i<=k*nth c i from λh c hc hy=>H rows.length rows rfl h hc hy
 intro m;induction m with
 | zero=>
  intro rows hm _ c hc hy;have e:rows=[]:=List.length_eq_zero_iff.mp hm;subst e;refine#[1,∅,[],rfl,λi hi=> ?_];have:=hy _ (xT hi);unfold a6 at this;rw[gi hi λj _ hj=>by rw[dv hi,if_neg hj];omega,dv hi,if_pos rfl] at this;rw[show dC [] [] i=0 from rfl];omega
 | succ m ih=>
  intro rows hm hl c hc hy;obtain⟨R,r,rfl⟩:∃R r,rows=R++[r]:=by rcases List.eq_nil_or_concat rows with h | ⟨R,r,h⟩;subst h;simp at hm;exact#[R,r,by rw[h];simp]
  have U:∀q∈R,q.length=n:=λq hq=>hl q (RB _ hq);have hr:r.length=n:=hl r (by simp);have k:=oA U;obtain⟨p,q,hq,h1,h2⟩:=between (α:=Bool×List Int) (λx=>if x.1 then a6 n (nth c) (nth x.2) else -(a6 n (nth c) (nth x.2))) (λx=>if x.1 then a6 n (nth r) (nth x.2) else -(a6 n (nth r) (nth x.2)))
   (((j3 R n).filter λl=>decide (a6 n (nth r) (nth l)<0)).map λl=>(wh,l)) (((j3 R n).filter λl=>decide (0<a6 n (nth r) (nth l))).map λl=>(qc,l))
   (λx hx=>by obtain⟨l,hl',rfl⟩:=ss.mp hx;rw[xz,decide_eq_true_eq] at hl';simp;exact hl'.2)
   (λx hx=>by obtain⟨l,hl',rfl⟩:=ss.mp hx;rw[xz,decide_eq_true_eq] at hl';simp;exact hl'.2)
   (λx hx y am=>by
    obtain⟨w,Y,rfl⟩:=ss.mp hx;obtain⟨h,hh,rfl⟩:=ss.mp am;rw[xz,decide_eq_true_eq] at Y hh;have lw:=(k.all w).mp Y.1;have lh:=(k.all h).mp hh.1;have vh:0<aH r h:=by rw[k.dot hh.1];exact hh.2
    have vw:aH r w<0:=by rw[k.dot Y.1];exact Y.2
    obtain⟨f1,_,_,g,hg,e⟩:=mn hr lh.fit lw.fit vh vw;have an:=hy _ f1;have ed:g*a6 n (nth c) (nth (c9 w (aH r w) h (aH r h)))=aH r h*a6 n (nth c) (nth w)+(-(aH r w))*a6 n (nth c) (nth h):=by rw[bW,lK (g:=g) (c:=nth (c9 w (aH r w) h (aH r h))) (a:=nth w) (b:=nth h) (u:=aH r h) (v:= -(aH r w)) (λi _=>by rw[e i];grind),bW n (nth w),bW n (nth h)]
    have:=Rq (show 0<=g by omega) an;conv at ed=>rhs;rw[k.dot hh.1,k.dot Y.1]
    simp only[Tb,if_false,if_true];have q1: -(a6 n (nth c) (nth w))*a6 n (nth r) (nth h)= -(a6 n (nth r) (nth h)*a6 n (nth c) (nth w)):=by grind
    have q2:a6 n (nth c) (nth h) * -(a6 n (nth r) (nth w))= -(a6 n (nth r) (nth w))*a6 n (nth c) (nth h):=by grind
    omega)
  have J:c.length=r.length:=by rw[hc,hr]
  obtain⟨k',as,T,hT,az⟩:=ih R (by simpa using hm) U (c:=g6 c p r q) (by rw[nX J,hc]) (λy fy=>by
   refine zI (λl ll=> ?_) fy;have al:=(k.all l).mpr ll;have ed:a6 n (nth (g6 c p r q)) (nth l)=q*a6 n (nth c) (nth l)-p*a6 n (nth r) (nth l):=by
    have:=lK (n:=n) (g:=1) (c:=nth (g6 c p r q)) (a:=nth c) (b:=nth r) (u:=q) (v:= -p) (λi _=>by rw[uv J];grind) (nth l);have e2: -p*a6 n (nth r) (nth l)= -(p*a6 n (nth r) (nth l)):=by grind
    omega
   rw[ed];by_cases v0:a6 n (nth r) (nth l)=0;have:=Rq (show 0<=q by omega) (hy l (ll.fit.more v0));rw[v0];omega;by_cases vp:0<a6 n (nth r) (nth l);have:=h2 (qc,l) (ss.mpr #[l,by rw[xz,decide_eq_true_eq];exact#[al,vp],rfl]);simp only[if_true] at this;have e2:a6 n (nth c) (nth l)*q=q*a6 n (nth c) (nth l):=Rr _ _;omega;have:=h1 (wh,l) (ss.mpr #[l,by rw[xz,decide_eq_true_eq];exact#[al,⋯],rfl]);simp only[Tb,if_false] at this;have e2: -(a6 n (nth c) (nth l))*q= -(q*a6 n (nth c) (nth l)):=by grind
   have e3:p * -(a6 n (nth r) (nth l))= -(p*a6 n (nth r) (nth l)):=by grind
   omega)
  refine#[k'*q,RP as hq,T++[k'*p],by simp[hT],λi hi=> ?_];have:=az i hi;rw[uv J] at this;rw[ui hT];have e1:k'*(nth c i*q-nth r i*p)=k'*q*nth c i-k'*p*nth r i:=by grind
  omega
end
theorem ye:∀(N:Nat) (l:List Nat),l.Nodup->(∀x∈l,x<N)->l.length<=N
 | 0,l,_,h=>by
  cases l with
  | nil=>exact vr _
  | cons a l=>exact absurd (h a uC) ⋯
 | N+1,l,nd,h=>by
  by_cases hm:N∈l;have:=ye N (l.erase N) (nd.erase N) (λx hx=>by have h1:=(nd.mem_erase_iff.mp hx);have:=h x h1.2;have:=h1.1;omega)
  rw[Uv hm] at this;omega;have:=ye N l nd (λx hx=>by have h1:=h x hx;have:x≠N:=λe=>hm (e▸hx);omega)
  omega
def at0(x:List Int)(i:Nat):Bool:=decide (nth x i≠0)
def cl3(a b c:Bool):Nat:=match a,b,c with
 | false,qc,_=>1
 | false,wh,qc=>2
 | true,wh,qc=>2
 | _,_,_=>0
theorem DZ(a b c:Bool):cl3 a b c<=2:=by revert a b c;decide
theorem HJ:∀a b c J U Y:Bool,cl3 a b c=cl3 J U Y->((a=qc->J=qc)/\(b=qc->U=qc)/\(c=qc->Y=qc))\/((J=qc->a=qc)/\(U=qc->b=qc)/\(Y=qc->c=qc)):=∅
def An(x:List Int):Nat:=3*((at0 x 3).toNat+2*(at0 x 4).toNat+4*(at0 x 5).toNat+8*(at0 x 6).toNat)+cl3 (at0 x 0) (at0 x 1) (at0 x 2)
theorem toNat_le(b:Bool):b.toNat<=1:=by cases b <;> decide
theorem toNat_inj{a b:Bool}(h:a.toNat=b.toNat):a=b:=by revert a b;decide
theorem M5(x:List Int):An x<48:=by have:=DZ (at0 x 0) (at0 x 1) (at0 x 2);have:=toNat_le (at0 x 3);have:=toNat_le (at0 x 4);have:=toNat_le (at0 x 5);have:=toNat_le (at0 x 6);unfold An;omega
theorem Jy(hx:x.length<=7)(h:∀i,i<7->at0 x i=qc->at0 y i=qc):Sub x y:=λi hi=>by by_cases J:i<7;exact of_decide_eq_true (h i J (decide_eq_true hi));exact absurd (jw ⋯) hi
theorem M8(hn:n<=7)(lx:cJ n R x)(ly:cJ n R y)(h:An x=An y):x=y:=by
 have a1:=DZ (at0 x 0) (at0 x 1) (at0 x 2);have a2:=DZ (at0 y 0) (at0 y 1) (at0 y 2);have b3:=toNat_le (at0 x 3);have c3:=toNat_le (at0 y 3);have b4:=toNat_le (at0 x 4);have c4:=toNat_le (at0 y 4);have b5:=toNat_le (at0 x 5);have c5:=toNat_le (at0 y 5);have b6:=toNat_le (at0 x 6);have c6:=toNat_le (at0 y 6);unfold An at h;have e3:at0 x 3=at0 y 3:=toNat_inj ⋯;have e4:at0 x 4=at0 y 4:=toNat_inj ⋯;have e5:at0 x 5=at0 y 5:=toNat_inj ⋯;have e6:at0 x 6=at0 y 6:=toNat_inj ⋯;have e:cl3 (at0 x 0) (at0 x 1) (at0 x 2)=cl3 (at0 y 0) (at0 y 1) (at0 y 2):=⋯;have U:x.length<=7:=by rw[lx.fit.len];exact hn
 have Y:y.length<=7:=by rw[ly.fit.len];exact hn
 rcases HJ _ _ _ _ _ _ e with⟨q0,q1,q2⟩ | ⟨q0,q1,q2⟩;refine(ly.same lx (Jy U λi hi J=> ?_)).symm;have:i=0\/i=1\/i=2\/i=3\/i=4\/i=5\/i=6:=⋯;rcases this with rfl | rfl | rfl | rfl | rfl | rfl | rfl;exact q0 J;exact q1 J;exact q2 J;rw[<- e3];exact J;rw[<- e4];exact J;rw[<- e5];exact J;rw[<- e6];exact J;refine lx.same ly (Jy Y λi hi J=> ?_);have:i=0\/i=1\/i=2\/i=3\/i=4\/i=5\/i=6:=⋯;rcases this with rfl | rfl | rfl | rfl | rfl | rfl | rfl;exact q0 J;exact q1 J;exact q2 J;rw[e3];exact J;rw[e4];exact J;rw[e5];exact J;rw[e6];exact J
theorem Bw{α β:Type}{f:α->β}:∀{l:List α},l.Nodup->(∀x∈l,∀y∈l,f x=f y->x=y)->(l.map f).Nodup
 | [],_,_=>VF
 | a::l,nd,h=>by rw[ww,RQ];rw[RQ] at nd;refine#[λhm=> ?_,Bw nd.2 λx hx y hy=>h x (tz _ hx) y (tz _ hy)];obtain⟨b,hb,e⟩:=ss.mp hm;exact nd.1 (h b (tz _ hb) a uC e▸hb)
theorem kc.few{R L:List (List Int)}(k:kc n R L)(hn:n<=7):L.length<64:=by
 have:=ye 48 (L.map An) (Bw k.nd λx hx y hy e=>M8 hn ((k.all x).mp hx) ((k.all y).mp hy) e) λc hc=>by obtain⟨x,_,rfl⟩:=ss.mp hc;exact M5 x
 rw[sB] at this;omega
theorem KW{L:List (List Int)}(hr:SzL c r)(U:r.length<=1000)(J:cE b L):cE (2*b+c+12) (dY n L r):=by
 intro x hx;rcases vt.mp hx with⟨h,_⟩ | ⟨h,w,Y,hw,_,_,_,rfl⟩
 exact(J x h).mono ⋯;exact(SzL.off (J w hw) (J h Y) (sG hr (J w hw) U) (sG hr (J h Y) U)).mono ⋯
def qC(c:Nat):Nat->Nat->Nat
 | 0,b=>b
 | m+1,b=>qC c m (2*b+c+12)
theorem yb{n c:Nat}:∀(rows:List (List Int)) (b:Nat) (L:List (List Int)),(∀r∈rows,SzL c r/\r.length<=1000)->cE b L->cE (qC c rows.length b) (rows.foldl (dY n) L)
 | [],b,L,_,h=>h
 | r::rows,b,L,hr,h=>yb rows _ _ (λq hq=>hr q (tz _ hq)) (KW (hr r uC).1 (hr r uC).2 h)
theorem C4(c:Nat):∀(m b:Nat),b<=qC c m b
 | 0,_=>vr _
 | m+1,b=>IN ⋯ (C4 c m (2*b+c+12))
theorem om(c:Nat):∀(m J b:Nat),m<=J->qC c m b<=qC c J b
 | 0,J,b,_=>C4 c J b
 | m+1,0,b,h=>absurd h ⋯
 | m+1,J+1,b,h=>om c m J _ ⋯
def dI(x:List Int):Nat:=x.foldl (λb y=>b*2+if 0<y then 1 else 0) 0
theorem Gf:∀(x:List Int) (b i:Nat),(x.foldl (λb y=>b*2+if 0<y then 1 else 0) b).testBit i=if i<x.length then decide (0<nth x (x.length-1-i)) else b.testBit (i-x.length)
 | [],b,i=>by simp
 | y::x,b,i=>by
  rw[RX,Gf x];have U:(if 0<y then 1 else 0:Nat)<=1:=by split <;> omega
  have J:decide ((if 0<y then 1 else 0:Nat)=1)=decide (0<y):=by by_cases hy:0<y;rw[if_pos hy,decide_eq_true hy];rfl;rw[if_neg hy,decide_eq_false hy];rfl
  generalize (if 0<y then 1 else 0:Nat)=c at U J;by_cases h:i<x.length;rw[if_pos h,if_pos (by simp;omega)];congr 2;show nth x (x.length-1-i)=nth (y::x) (x.length+1-1-i);rw[show x.length+1-1-i=(x.length-1-i)+1 by omega];rfl;rw[if_neg h];by_cases h2:i=x.length;subst h2;rw[if_pos (by simp),Nat.sub_self,Nat.testBit_zero];show _=decide (0<nth (y::x) (x.length+1-1-x.length));rw[show x.length+1-1-x.length=0 by omega];show _=decide (0<y);rw[<- J];congr 1;rw[eq_iff_iff];omega;rw[if_neg (by simp;omega),xa,show i-x.length=(i-(x.length+1))+1 by omega,Nat.testBit_succ];congr 1;omega
theorem pE{i:Nat}:(dI x).testBit i=decide (i<x.length/\0<nth x (x.length-1-i)):=by unfold dI;rw[Gf];by_cases h:i<x.length;rw[if_pos h];by_cases h2:0<nth x (x.length-1-i);rw[decide_eq_true h2,decide_eq_true #[h,h2]];rw[decide_eq_false h2,decide_eq_false (λz=>h2 z.2)];rw[if_neg h,decide_eq_false (λz=>h z.1),Nat.zero_testBit]
theorem JK:a|||b=b↔∀i,a.testBit i=qc->b.testBit i=true:=by
 constructor;intro h i hi;rw[<- h,T0,hi,VS];intro h;refine Nat.eq_of_testBit_eq λi=> ?_;rw[T0];cases ha:a.testBit i with
 | true=>rw[h i ha];rfl
 | false=>rw[Bool.false_or]
theorem bits_sub(J:l.length=n)(U:h.length=n)(Y:w.length=n)(nl:∀i,0<=nth l i)(nh:∀i,0<=nth h i)(nw:∀i,0<=nth w i):decide (dI l|||(dI h|||dI w)=dI h|||dI w)=subB n l h w:=by
 rw[RH,decide_eq_true_eq,JK,yu J];constructor;intro H i hi;have lt:i<n:=by by_cases e:i<n;exact e;exact absurd (jw ⋯) hi
 have:=H (n-1-i) (by rw[pE];refine decide_eq_true #[⋯, ?_];rw[J,show n-1-(n-1-i)=i by omega];have:=nl i;omega)
 rw[T0,SJ,pE,pE,decide_eq_true_eq,decide_eq_true_eq,U,Y,show n-1-(n-1-i)=i by omega] at this;rcases this with z | z
 exact .inl ⋯;exact .inr ⋯;intro H i hi;rw[pE,decide_eq_true_eq,J] at hi;rw[T0,SJ,pE,pE,decide_eq_true_eq,decide_eq_true_eq,U,Y];rcases H (n-1-i) ⋯ with z | z
 have:=nh (n-1-i);exact .inl #[hi.1,⋯];have:=nw (n-1-i);exact .inr #[hi.1,⋯]
structure Tight(left y:List Int)(a:Nat):Prop where
 pos:0<nth y a
 min:∀i,0<nth y i->nth left a*nth y i<=nth left i*nth y a
abbrev Sh:Type:=(Int×Int)×List Int
def psS(i:Nat)(T:List Sh):Int×Int:=T.foldl (λq s=>(q.1*s.1.2,s.1.2*q.2+s.1.1*q.1*nth s.2 i)) (1,0)
theorem Bl{i:Nat}(h:i<x.length):nth (x++y) i=nth x i:=by unfold nth;rw[pr,pr,wP h]
theorem Bt{b:Int}:nth (x++[b]) x.length=b:=by unfold nth;rw[pr];simp
structure Red(n:Nat)(left y:List Int)(bot:Int)(a:Nat)(g:Int)(l':List Int)(b':Int):Prop where
 gp:0<g
 len:l'.length=n
 lv:∀i,g*nth l' i=nth left i*nth y a-nth y i*nth left a
 bv:g*b'=bot*nth y a
structure Shr(n:Nat)(R:List (List Int))(fit:List Int)(c:Nat)(ps:List (List Int))(T:List Sh)(left:List Int)(bot:Int):Prop where
 len:left.length=n
 nn:∀i,0<=nth left i
 bp:0<bot
 st:∀r∈R,a6 n (nth r) (nth left)=0
 sub:Sub left fit
 cn:T.length+cnt left<=cnt fit
 good:∀s∈T,0<s.1.1/\0<s.1.2/\Fa s.1.1 s.1.2=1/\Sub s.2 fit
 sl:(T.map (·.2)).Sublist ps
 eq:∀i,bot*(psS i T).2+(psS i T).1*nth left i=(psS i T).1*bot*nth fit i
 no:∀y∈ps,¬Sub y left
 sz:SzL (c+8001*T.length) left
 szb:Sz (c+8001*T.length) bot
 szt:∀s∈T,Sz (c+8001*T.length) s.1.1/\Sz (c+8001*T.length) s.1.2
def mkS(C:Int)(i:Nat)(m:Int)(T:List Sh):Int:=T.foldl (λm s=>m+s.1.1*(C/s.1.2)*nth s.2 i) m
theorem Kc(ms:List Int)(lo hi:Nat):∃ks:List Int,cutD (ms.map D.int) (pc (lo:Int)) (pc (hi:Int))=ks.map D.int/\ks.length<=hi-lo:=by refine#[(ms.drop (min lo ms.length)).take (min hi ms.length-min lo ms.length), ?_, ?_];unfold cutD;rw[HT.pB,HT.pB,sB,UY,UW];rw[S3,S4];omega
theorem F7(Y:goal.length=n)(hc:rows.length<=900)(hs:cE c rows)(J:SzL c goal){b:Int}{ts:List Int}(e:kE rows goal=pc (b,ts)):Sz (jd c (1+rows.length)) b/\SzL (jd c (1+rows.length)) ts:=by
 have U:cE c (bI rows goal):=by
  intro r hr x hx;unfold bI at hr;obtain⟨a,_,rfl⟩:=ss.mp hr;obtain⟨q,hq,rfl⟩:=ss.mp hx;rcases u8.mp hq with rfl | hq
  exact J.nth a;exact(hs q hq).nth a
 have h:=qW (n:=1+rows.length) ⋯ iw U;unfold kE at e;split at e;cases e;rename_i x F es;rw[es] at h;have hx:=h x uC;split at e;cases e;cases e;refine#[hx.nth 0,λy hy=> ?_];obtain⟨z,hz,rfl⟩:=ss.mp hy;exact(hx z (TR hz)).neg
theorem mM{ok:aC->Prop}{g:GM}{s s1 s2:S}(J:ok s.o)(U:g d s=.ok s1)(hb:body s1=.next s2):bT ok g body (d::ds) s=bT ok g body ds s2:=by rw[bT,if_pos J,U,kN,hb]
abbrev sg(z:Str):List Nat:=z.cps.toList
theorem zC{z:Str}:(sg z).length=z.length:=by unfold Str.length;simp
theorem sC{a b:Str}(h:sg a=sg b):a=b:=Str.ext' (Ur.mp h)
theorem yZ{a b:Str}:sg (a++b)=sg a++sg b:=by show ((a++b:Str).cps).toList=_;rw[Str.cps_append];simp
theorem C8{z:Str}(U:a<=b)(hb:b<=z.length)(h:Builtin.Str.strSliceIndices lo hi 1 z.length=(uM (b-a)).map (λk=>a+k)):sg (lG z lo hi)=((sg z).drop a).take (b-a):=by
 have key:(((uM (b-a)).map (λk=>a+k)).filterMap (λi=>(sg z)[i]?))=((sg z).drop a).take (b-a):=StrLaws.picks (sg z) (b-a) a (by rw[zC];omega);unfold lG;rw[h];split;rename_i J;have J:b-a=z.length:=by simpa using J
 have ha:a=0:=⋯;subst ha;rw[TX,RE (by rw[zC];omega)];rw[<- key];simp[sg]
theorem Pa(h:b<=n):Builtin.Str.strSliceIndices pi (pc (b:Int)) 1 n=(uM (b-0)).map (λk=>0+k):=by rw[<- StrLaws.strSliceIndices_plain (Oz b) h];unfold Builtin.Str.strSliceIndices;simp;rw[show max (0:Int) (min 0 (n:Int))=0 by omega]
theorem Pn(h:a<=n):Builtin.Str.strSliceIndices (pc (a:Int)) pi 1 n=(uM (n-a)).map (λk=>a+k):=by rw[<- StrLaws.strSliceIndices_plain h (vr n)];unfold Builtin.Str.strSliceIndices;simp;rw[if_neg (show ¬(n:Int)<0 by omega),show max (0:Int) (min (n:Int) (n:Int))=(n:Int) by omega]
theorem Gu{z:Str}(h:b<=z.length):sg (lG z pi (pc (b:Int)))=(sg z).take b:=by rw[C8 (Oz b) h (Pa h),TX,U9]
theorem MZ{z:Str}(h:a<=z.length):sg (lG z (pc (a:Int)) pi)=(sg z).drop a:=by rw[C8 h (vr _) (Pn h),RE];rw[S4,zC];omega
section
variable {s s1 s2 : S} {R R' : List (Option D)} {O O' : aC} {d x y : D} {xs ys : List D}
theorem aO{f:Op2}{ma mb:EM}(ha:ma s=.ok (x,s1))(hb:mb s1=.ok (y,s2))(J:f s2.o x y=.ok d):ak f ma mb s=.ok (d,s2):=by rw[cK,ha,aj];dsimp only;rw[hb,aj];dsimp only;rw[J,aj]
theorem GR{f:Op1}{ma:EM}(ha:ma s=.ok (x,s1))(J:f s1.o x=.ok d):unM f ma s=.ok (d,s1):=by rw[Oe,ha,aj];dsimp only;rw[J,aj]
theorem hE{f:OpN}(ha:ma s=.ok (xs,s1))(J:f s1.o xs=.ok d):bJ f ma s=.ok (d,s1):=by rw[gI,ha,aj];dsimp only;rw[J,aj]
theorem aA{r:AM}(ha:m s=.ok (x,s1))(hb:r s1=.ok (ys,s2)):af m r s=.ok (x::ys,s2):=by rw[aV,ha,aj];dsimp only;rw[hb,aj]
theorem sY(ha:ma s=.ok (xs,s1))(J:xs.length<=16777216):jE ma s=.ok (.tup xs,s1):=by rw[AE,ha,aj];dsimp only;rw[if_pos J]
theorem yJ(ha:ma s=.ok (xs,s1))(J:xs.length<=16777216):kK ma s=.ok (.lst xs,s1):=by rw[FV,ha,aj];dsimp only;rw[if_pos J]
theorem si(ha:ma s=.ok (xs,#[R,O]))(J:xs.length<=16777216)(hn:O.length=n)(U:O++[.lst xs]=O'):iL ma s=.ok (.ptr n,#[R,O']):=by rw[Nq,ha,aj];dsimp only;rw[if_pos J,hn,U]
theorem eI{b:Bool}(h:m s=.ok (.bl b,s1)):a7 m s=.ok (b,s1):=by rw[gJ,h,aj]
theorem uk{m:TM}{b:Bool}(h:m s=.ok (b,s1)):jH m s=.ok (!b,s1):=by rw[sR,h,aj]
theorem OA{a b:TM}{p q:Bool}(h:a s=.ok (p,s1))(h2:b s1=.ok (q,s1)):orT a b s=.ok (p||q,s1):=by rw[sm,h,aj];dsimp only;cases p;rw[if_neg ∅,h2];rfl;rfl
theorem Ma{a b:TM}{p q:Bool}(h:a s=.ok (p,s1))(hp:p=wh)(h2:b s1=.ok (q,s2)):orT a b s=.ok (q,s2):=by subst hp;rw[sm,h,aj];exact h2
theorem GU{a b:TM}{p q:Bool}(h:a s=.ok (p,s1))(h2:b s1=.ok (q,s1)):vW a b s=.ok (p&&q,s1):=by rw[MQ,h,aj];dsimp only;cases p;rfl;rw[if_pos rfl,h2];rfl
theorem A0{a b:EM}{p:Bool}(h:a s=.ok (.bl p,s1))(hp:p=qc)(h2:b s1=.ok (x,s2)):yh a b s=.ok (x,s2):=by subst hp;rw[Mm,h,aj];exact h2
theorem bq{i:Nat}(h:m s=.ok (d,#[R,O]))(J:R.set i (pc d)=R'):setM i m s=.next #[R',O]:=by subst J;exact dM h
theorem wA(h1:mo s=.ok (.ptr k,s1))(J:s1.o[k]? =pc (.lst ds0))(h2:me s1=.ok (d,#[R,O]))(U:O[k]? =pc (.lst ds))(hb:ds.length<=1000000)(Y:O.set k (.lst (ds++[d]))=O'):lY mo me s=.ok (.non,#[R,O']):=by subst Y;exact wo (s2:=#[R,O]) h1 J h2 U hb
theorem pj(h:m s=.ok (.ptr k,#[R,O]))(c:O[k]? =pc (.lst ds))(J:O.set k .dead=O'):iG m s=.ok (.lst ds,#[R,O']):=by subst J;exact FT h c
theorem MW(h:m s=.ok (x,#[R,O]))(hs:wH O x=pc ds)(hn:O.length=n)(J:O++[.lst ds]=O'):CJ m s=.ok (.ptr n,#[R,O']):=by rw[La,h,aj];dsimp only;rw[hs];dsimp only;rw[hn,J]
theorem OW{f:Str}{ns:List Str}(h:m s=.ok (.obj c ns ds,s1))(hd:rg f ns ds=pc d):oC c f m s=.ok (d,s1):=by rw[Gv,h,aj];dsimp only;rw[if_pos rfl,hd]
theorem nq{m:Str}{f:FM}{ns:List Str}{ds args:List D}(J:mo s=.ok (.obj c ns ds,s1))(ha:ma s1=.ok (args,s2))(U:f (.obj c ns ds::args) []=.ok (x,O1))(hm:m∉ns)(hd:aR ds=qc)(hp:aR args=qc)(Y:args.length=n)(hr:cW x=qc):
 methP c m n f mo ma s=.ok (x,s2):=tH J hm hd ha hp Y U hr
theorem dJ{f:FM}(h:ma s=.ok (ds,s1))(J:f ds []=.ok (d,O1))(hp:aR ds=qc)(U:ds.length=n)(hd:cW d=qc):aX n f ma s=.ok (d,s1):=cC h hp U J hd
theorem jB{f:FM}(h:ma s=.ok (ds,#[R,O]))(J:f ds []=.ok (x,O1))(hp:aR ds=qc)(U:ds.length=n)(hx:shD O.length x=y)(Y:O++O1.map (shC O.length)=O'):d3 n f ma s=.ok (y,#[R,O']):=by subst hx;subst Y;exact KJ h hp U J
theorem F9{f:FM}{ds rs:List D}(h:ma s=.ok (ds,s1))(hr:cz s1.o (cz s1.o ds)=rs)(J:f rs []=.ok (d,O1))(hp:aR rs=qc)(U:ds.length=n)(hd:pe d=qc):lr n f ma s=.ok (d,s1):=by unfold lr;rw[h,aj];dsimp only;rw[hr,if_pos #[hp,U],J];dsimp only;rw[if_pos hd]
theorem gH{f:FM}(h:ma s=.ok (ds,#[R,O]))(J:f ds O=.ok (d,O1))(U:ds.length=n):bN n f ma s=.ok (d,#[R,O1]):=jT h U J
theorem Pw{c:TM}{p:Bool}(h:c s=.ok (p,s1))(hp:p=qc):ifS c A B s=A s1:=by subst hp;exact o8 h
theorem Px{c:TM}{p:Bool}(h:c s=.ok (p,s1))(hp:p=wh):ifS c A B s=B s1:=by subst hp;exact ip h
theorem nI{s:S}:d6 s=.ok (pi,s):=rfl
theorem oB(h:m s=.ok (.int i,s1)):part m s=.ok (pc i,s1):=by rw[AR,h,aj]
theorem Km{J:S}{ds es:List D}(h:me s=.ok (x,s1))(U:ml s1=.ok (lo,s2))(Y:mh s2=.ok (hi,J))(hd:lsD J.o x=pc ds)(he:cutD ds lo hi=es):slM me ml mh s=.ok (.lst es,J):=by rw[DN,h,aj];dsimp only;rw[U,aj];dsimp only;rw[Y,aj];dsimp only;rw[hd];dsimp only;rw[he]
theorem PB{ds es:List D}(h:me s=.ok (x,s1))(J:ml s1=.ok (lo,s2))(U:mh s2=.ok (hi,#[R,O]))(hd:lsD O x=pc ds)(Y:cutD ds lo hi=es)(hn:O.length=n)(hO:O++[.lst es]=O'):slC me ml mh s=.ok (.ptr n,#[R,O']):=by unfold slC;rw[h,aj];dsimp only;rw[J,aj];dsimp only;rw[U,aj];dsimp only;rw[hd];dsimp only;rw[Y,hn,hO]
theorem CK{g:GM}(h:m s=.ok (d,s1))(J:g d s1=.ok s2):gA m g s=.next s2:=by rw[sJ,h,aj];dsimp only;rw[J,kN]
end
section
variable {s s1 : S} {o : Out}
theorem aU{a b:SM}(h:a s=.next s1)(k:b s1=o):aK a b s=o:=(bE h).trans k
theorem eW{c:TM}{p:Bool}(h:c s=.ok (p,s1))(hp:p=qc)(k:A s1=o):ifS c A B s=o:=(Pw h hp).trans k
theorem dX{c:TM}{p:Bool}(h:c s=.ok (p,s1))(hp:p=wh)(k:B s1=o):ifS c A B s=o:=(Px h hp).trans k
theorem de{m:SM}{R:List (Option D)}(h:m #[ds.map pc++u0 (n-ds.length) pi,O]=.ret d #[R,O1]):runM n m ds O=.ok (d,O1):=cv h
end
section
variable {s s1 s2 : S} {c : Nat} {a : D} {o : Out}
end
theorem Nh{f:FM}{s:S}{R:List (Option D)}{O O1 O':aC}{x y:D}{ds rs:List D}(h:ma s=.ok (ds,#[R,O]))(hr:cz O (cz O ds)=rs)(U:f rs []=.ok (x,O1))(hp:aR rs=qc)(Y:ds.length=n)(hd:wO x=qc)(J:O1.all CM=qc)(hx:shD O.length x=y)(hO:O++O1.map (shC O.length)=O'):yN n f ma s=.ok (y,#[R,O']):=by subst hx;subst hO;unfold yN;rw[h,aj];dsimp only;rw[hr,if_pos #[hp,Y],U];dsimp only;rw[if_pos #[hd,J]]
abbrev bj(L:List (Nat×List Int)):List D:=L.map λp=>.ptr p.1
def Sto(O:aC)(L:List (Nat×List Int)):Prop:=∀p∈L,O[p.1]? =pc (.lst (p.2.map D.int))
theorem Sto.app(h:Sto O L)(E:aC):Sto (O++E) L:=λp hp=>ee (h p hp)
theorem Sto.set{O:aC}{L:List (Nat×List Int)}(h:Sto O L){k:Nat}(hk:∀p∈L,p.1≠k)(c:Cell):Sto (O.set k c) L:=λp hp=>by rw[dm λz=>hk p hp z.symm];exact h p hp
theorem Sto.lt(h:Sto O L)(hp:p∈L):p.1<O.length:=mV (h p hp)
theorem yL{α:Type}{ok:aC->Prop}{e:EM}{cap:List (Option D)}{item:α->D}{f:α->List Int}{T:α->Nat->Prop}(I:aC->Prop)(hI:∀O E,I O->I (O++E))(U:∀O,I O->ok O):
 ∀(l:List α) (J:List D) (x:Option D) (O:aC),I O->J.length+l.length<=16777216->
 (∀a∈l,∀O,I O->∃q E,e #[pc (item a)::cap,O]=.ok (.ptr q,#[pc (item a)::cap,O++E])/\(O++E)[q]? =pc (.lst ((f a).map D.int))/\(T a q\/O.length<=q))->
 ∃(L:List (Nat×List Int)) (E:aC) (Y:Option D),dR ok (aB 0) bM e (l.map item) J #[x::cap,O]=.ok (J++bj L,#[Y::cap,O++E])/\L.map (·.2)=l.map f/\Sto (O++E) L/\∀p∈L,(∃a∈l,T a p.1)\/O.length<=p.1
 | [],J,x,O,h,_,_=>#[[],[],x,by rw[RZ,dR,if_pos (U _ h)];simp,rfl,(λp hp=>by cases hp),(λp hp=>by cases hp)]
 | a::l,J,x,O,h,hl,he=>by
  obtain⟨q,E,e1,e2,e3⟩:=he a uC O h;rw[xa] at hl;obtain⟨L,E',Y,e4,e5,e6,e7⟩:=yL (T:=T) I hI U l (J++[.ptr q]) (pc (item a)) (O++E) (hI O E h) (by simp;omega) (λa ha=>he a (tz _ ha));refine#[(q,f a)::L,E++E',Y, ?_,by simp[e5],λp hp=> ?_,λp hp=> ?_];rw[ww,dR,if_pos #[U _ h,⋯],EK,aj,LA,aj];dsimp only;rw[if_pos rfl,show (#[List.set (x::cap) 0 (pc (item a)),O]:S)=#[pc (item a)::cap,O] from rfl,e1,aj];dsimp only;rw[e4];simp;rw[<- R9];rcases u8.mp hp with rfl | hp
  exact ee e2;exact e6 p hp;rcases u8.mp hp with rfl | hp
  rcases e3 with e3 | e3;exact .inl #[a,uC,e3];exact .inr e3;rcases e7 p hp with⟨b,hb,z⟩ | z;exact .inl #[b,tz _ hb,z];exact .inr (by rw[xL] at z;omega)
section
variable {α β : Type} (f g : α → β)
end
section
variable {n : Nat} {R : List (List Int)} {dem : List Int}
def d5(R:List (List Int))(n:Nat)(dem:List Int):List (List Int):=(bh R n).map λs=>s++[aH s dem]
theorem Hs(J:∀r∈R,r.length=n):∀r∈d5 R n dem,r.length=n+1:=by intro r hr;unfold d5 at hr;obtain⟨s,hs,rfl⟩:=ss.mp hr;rw[xL,iz J s hs];rfl
theorem sS(hs:s.length=n)(d:Int)(x:Nat->Int):a6 (n+1) (nth (s++[d])) x=a6 n (nth s) x+d*x n:=by unfold a6;show bt n (λi=>nth (s++[d]) i*x i)+nth (s++[d]) n*x n=_;rw[bS (g:=λi=>nth s i*x i) λi hi=>by rw[Bl ⋯],show nth (s++[d]) n=d by rw[<- hs];exact Bt]
theorem JC(J:∀r∈R,r.length=n)(hs:s∈bh R n):eE n R (nth s):=λr hr=>by obtain⟨P,_,_,h1,_⟩:=iH J;rw[fX,bW];exact h1 r hr s hs
theorem Im(hR:∀r∈R,r.length=n)(hd:dem.length=n)(hF:∀y,Fit n R y->a6 n (nth dem) (nth y)<=0):∃z,Fit (n+1) (d5 R n dem) z/\0<nth z n:=by
 have J:∀i,nth (dem.map (- ·)) i= - nth dem i:=λi=>iQ (f:=(- ·)) ∅ dem i;obtain⟨k,k0,T,tl,ht⟩:=NJ hR (c:=dem.map (- ·)) (by rw[sB];exact hd) (λy hy=>by have h1:=hF y hy;have h2:=lK (n:=n) (g:=1) (c:=nth (dem.map (- ·))) (a:=nth dem) (b:=nth dem) (u:= -1) (v:=0) (λi _=>by rw[J];omega) (nth y);omega)
 have zl:((uM n).map λi=> -dC T R i-k*nth dem i).length=n:=by simp
 have za:∀i,i<n->nth (((uM n).map λi=> -dC T R i-k*nth dem i)++[k]) i= -dC T R i-k*nth dem i:=λi hi=>by rw[Bl (by rw[zl];exact hi)];unfold nth;rw[pr,wv,Sd hi];rfl
 have Y:nth (((uM n).map λi=> -dC T R i-k*nth dem i)++[k]) n=k:=by have:=Bt (x:=(uM n).map λi=> -dC T R i-k*nth dem i) (b:=k);rw[zl] at this;exact this
 have U:(((uM n).map λi=> -dC T R i-k*nth dem i)++[k]).length=n+1:=by rw[xL,zl];rfl
 generalize ((uM n).map λi=> -dC T R i-k*nth dem i)++[k]=z at za Y U;refine#[z,#[U,λi=> ?_,λr hr=> ?_,#[n,by rw[Y];omega]],by rw[Y];exact k0];rcases Nat.lt_trichotomy i n with h | h | h
 rw[za i h];have:=ht i h;rw[J,Int.mul_neg] at this;omega;rw[h,Y];omega;rw[jw ⋯];decide;unfold d5 at hr;obtain⟨s,hs,rfl⟩:=ss.mp hr;have sl:=iz hR s hs;rw[sS sl,Y,jm hd];have e:=lK (n:=n) (g:=1) (c:=nth z) (a:=dC T R) (b:=nth dem) (u:= -1) (v:= -k) (λi hi=>by rw[za i hi];grind) (nth s);have o:=i4.dot (n:=n) (R:=R) (x:=dC T R) (y:=nth s) #[1,∅,T,tl,λi _=>⋯] (JC hR hs);rw[o,bW n (nth z),bW n (nth dem)] at e;grind
theorem Hf(J:∀r∈R,r.length=n)(hd:dem.length=n)(U:∀y,Fit n R y->a6 n (nth dem) (nth y)<=0):∃l,cJ (n+1) (d5 R n dem) l/\0<nth l n:=by
 obtain⟨z,Y,z0⟩:=Im J hd U;false_or_by_contra;rename_i h;have:=zI (n:=n+1) (R:=d5 R n dem) (c:=u0 n 0++[-1]) (λl hl=>by
  rw[sS (by simp)];have e:a6 n (nth (u0 n 0)) (nth l)=0:=by
   unfold a6;refine eS λi hi=> ?_;have:nth (u0 n (0:Int)) i=0:=by unfold nth;rw[pr,GX,if_pos hi];rfl
   rw[this,Tc]
  have h1:¬0<nth l n:=λq=>h #[l,hl,q];omega) Y
 rw[sS (by simp)] at this;have e:a6 n (nth (u0 n 0)) (nth z)=0:=by
  unfold a6;refine eS λi hi=> ?_;have:nth (u0 n (0:Int)) i=0:=by unfold nth;rw[pr,GX,if_pos hi];rfl
  rw[this,Tc]
 omega
def kx(l dem:List Int)(t:Int):List Int:=(l.zip dem).map λp=>p.1+t*p.2
theorem yf(J:l.length=n+1)(hd:dem.length=n)(t:Int):(kx l dem t).length=n/\∀i,i<n->nth (kx l dem t) i=nth l i+t*nth dem i:=by refine#[by unfold kx;rw[sB,RA];omega,λi hi=> ?_];unfold kx nth;simp[pr,sK (show i<l.length by omega),sK (show i<dem.length by omega),sK (show i<(l.zip dem).length by rw[RA];omega)]
theorem IZ(J:∀r∈R,r.length=n)(hd:dem.length=n)(f:Fit (n+1) (d5 R n dem) l):i4 n R (nth (kx l dem (nth l n))):=by obtain⟨Y,U⟩:=yf f.len hd (nth l n);refine(oY J _).mp λs hs=> ?_;have sl:=iz J s hs;have h:=f.st (s++[aH s dem]) (by unfold d5;exact ss.mpr #[s,hs,rfl]);rw[sS sl,jm hd] at h;have e:=lK (n:=n) (g:=1) (c:=nth (kx l dem (nth l n))) (a:=nth l) (b:=nth dem) (u:=1) (v:=nth l n) (λi hi=>by rw[U i hi];grind) (nth s);rw[fX,bW];rw[bW n (nth l),bW n (nth dem)] at e;grind
theorem HC(U:∀r∈R,r.length=n)(hd:dem.length=n)(f:Fit (n+1) (d5 R n dem) l):∃b ts,kE R (kx l dem (nth l n))=pc (b,ts)/\0<b/\ts.length=R.length/\∀i,i<n->b*nth l n*nth dem i<=dC ts R i:=by obtain⟨J,Y⟩:=yf f.len hd (nth l n);obtain⟨b,ts,e⟩:=C5 J (IZ U hd f);obtain⟨b0,tl,h⟩:=Ib J e;refine#[b,ts,e,b0,tl,λi hi=> ?_];rw[<- h i hi,Y i hi];have:=Rq (SV b0) (f.nn i);grind
end
end M
namespace Lk38
open PySem PySem.Spec PyProof.Rows L2 M
noncomputable section
variable {fd : RL} {O : aC} {k j i c n b t mg mw a : Nat} {m v da db : Int} {s s1 s2 : S} {z g f h : Str} {d : D} {l : List (Str × Int)} {ds : List D} {goods zs : List Str} {ws : List Wk} {me : EM} {wd : List Nat} {R : List (Option D)} {w y ns x row way : List Int} {A rows : List (List Int)} {L Q : List (Nat × List Int)} {im : IM}
def top(i:Nat):Stmt:=PySem.Challenge.pw_modeyard_k38_whole_no_way_has_more.main.body.getD i (.Pass #[0,0,0,0])
abbrev tI:Stmt:=top 10
abbrev lJ:Stmt:=top 11
abbrev vg:Stmt:=top 12
abbrev yr:Stmt:=top 13
abbrev xM:Stmt:=top 13
abbrev Ag:Stmt:=top 14
abbrev kH:Stmt:=top 16
abbrev Dm:Stmt:=top 17
abbrev Ce:Stmt:=top 17
abbrev Ak:Stmt:=top 18
abbrev z6:Stmt:=top 18
abbrev yx:Stmt:=top 19
abbrev xw:Stmt:=top 19
abbrev yF:Stmt:=top 20
abbrev jS:Stmt:=top 21
abbrev kL:Stmt:=top 22
abbrev vz:Stmt:=top 23
abbrev AU:Stmt:=top 24
abbrev jD:Stmt:=top 25
abbrev Ax:Stmt:=top 26
abbrev vM:Stmt:=top 27
abbrev rW:Stmt:=top 29
abbrev sW:Stmt:=top 30
abbrev lQ:Stmt:=top 31
abbrev j1:Stmt:=top 32
abbrev DO:Stmt:=top 33
abbrev ky:Stmt:=inClass (top 60) 5
abbrev jv:Stmt:=inClass (top 60) 6
abbrev iW:Stmt:=inClass (top 60) 3
abbrev Dr:Stmt:=top 35
abbrev t7:Stmt:=top 37
abbrev pF:Stmt:=top 38
abbrev mF:Stmt:=top 39
abbrev lP:Stmt:=top 41
abbrev oQ:Stmt:=top 42
abbrev ni:Stmt:=top 43
abbrev DK:Stmt:=top 44
abbrev vc:Stmt:=top 49
abbrev qr:Stmt:=top 50
abbrev pY:Stmt:=top 51
abbrev oS:Stmt:=top 52
abbrev pI:Stmt:=top 53
abbrev nC:Stmt:=top 54
abbrev oI:Stmt:=top 55
abbrev oE:Stmt:=top 56
abbrev rL:Stmt:=top 57
abbrev rH:Stmt:=top 58
abbrev rK:Stmt:=top 59
abbrev jy:Stmt:=inClass (top 60) 0
abbrev fF:Stmt:=inClass (top 60) 7
abbrev hZ:Stmt:=inClass (top 60) 8
abbrev fZ:Stmt:=inClass (top 60) 9
abbrev uj:Stmt:=top 62
abbrev vR:Stmt:=top 63
abbrev tL:Stmt:=top 64
abbrev qg:Stmt:=top 65
abbrev rk:Stmt:=top 66
abbrev uX:Stmt:=top 67
abbrev oM:Stmt:=top 68
abbrev rF:Stmt:=top 69
abbrev rD:Stmt:=top 70
abbrev nA:Stmt:=top 71
abbrev rG:Stmt:=top 72
abbrev rm:Stmt:=top 73
abbrev o5:Stmt:=top 74
def caK(K:sH):Nat->Addr:=λn=>match n with
 | 0=>clsAt K "Yard"
 | _=>0
def ze:SM:=
 (bD (yh (unM (oG "int") (aa 0)) (KA (unM (oG "bool") (aa 0)))))
def gB:FM:=runM 1 ze
def vZ:SM:=
 (aK (setM 2 (ak gD (aa 0) (aa 1)))
 (aK (setM 0 (aa 1))
 (setM 1 (aa 2))))
def yg:SM:=
 (aK (setM 0 (bJ yd (af (aa 0) ao)))
 (aK (setM 1 (bJ yd (af (aa 1) ao)))
 (aK (yU (λs=>Av 1 s) (a7 (ak neD (aa 1) (aq (.int 0))))
 vZ)
 (bD (aa 0)))))
def fI:FM:=runM 3 yg
def nP:SM:=
 (setM 1 (aX 2 fI (af (aa 1) (af (aa 2) ao))))
def qO:SM:=
 (aK (setM 1 (aq (.int 0)))
 (aK (eL (listI (aa 0)) (aB 2)
 nP)
 (bD (aa 1))))
def j9:FM:=runM 3 qO
def p8:SM:=
 (aK (setM 1 (aX 1 j9 (af (aa 0) ao)))
 (aK (ifS (a7 (ak eqD (aa 1) (aq (.int 0))))
 (bD (CJ (aa 0)))
 bC)
 (bD (nO 1 [1] (listI (aa 0)) (aB 0) bM (ak d4 (aa 0) (aa 1))))))
def ub:FM:=runM 2 p8
def r9:SM:=
 (aK (setM 1 (aX 1 j9 (af (aa 0) ao)))
 (aK (ifS (a7 (ak eqD (aa 1) (aq (.int 0))))
 (bD (bJ nZ (af (aa 0) ao)))
 bC)
 (bD (bL 1 [1] (listI (aa 0)) (aB 0) bM (ak d4 (aa 0) (aa 1))))))
def iI:FM:=runM 2 r9
def A4:SM:=
 (aK (ifS (orT (jH (a7 (aX 1 gB (af (aa 0) ao)))) (jH (a7 (aX 1 gB (af (aa 1) ao)))))
 nD
 bC)
 (aK (ifS (a7 (ak eqD (aa 1) (aq (.int 0))))
 nD
 bC)
 (aK (setM 2 (aX 2 fI (af (aa 0) (af (aa 1) ao))))
 (aK (ifS (a7 (ak ltD (aa 1) (aq (.int 0))))
 (setM 2 (unM jb (aa 2)))
 bC)
 (bD (jE (af (ak d4 (aa 0) (aa 2)) (af (ak d4 (aa 1) (aa 2)) ao))))))))
def wG:FM:=runM 3 A4
def kJ:SM:=
 (bD (bJ tK (af (bL 2 [] (nF (af (aa 0) (af (aa 1) ao))) (c7 (bc (aB 0) (bc (aB 1) c8)) 2) bM (ak cI (aa 0) (aa 1))) ao)))
def bP:FM:=runM 2 kJ
def D4:SM:=
 (aK (setM 2 (v9 oK (af (aq (.int 0)) ao) (aa 1)))
 (aK (gA (aq (.int 1)) (jJ (aa 2) (aa 0)))
 (bD (aa 2))))
def vE:FM:=runM 3 D4
def vf:SM:=
 (aK (setM 2 (v9 oK (af (aq (.int 0)) ao) (aa 1)))
 (aK (gA (aq (.int 1)) (jJ (aa 2) (aa 0)))
 (bD (iG (aa 2)))))
def oq:FM:=runM 3 vf
def Bb:SM:=
 (bD (bL 1 [0] (fb (af (aa 0) ao)) (aB 0) bM (d3 2 vE (af (aa 0) (af (aa 1) ao)))))
def wJ:FM:=runM 1 Bb
def sX:SM:=
 (bD (bL 1 [0] (fb (af (aa 0) ao)) (aB 0) bM (aX 2 oq (af (aa 0) (af (aa 1) ao)))))
def ng:FM:=runM 1 sX
def yi:SM:=
 (aK (setM 4 (bL 2 [1,3] (nF (af (aa 0) (af (aa 2) ao))) (c7 (bc (aB 0) (bc (aB 1) c8)) 2) bM (ak lV (ak cI (aa 0) (aa 3)) (ak cI (aa 1) (aa 2)))))
 (bD (d3 1 ub (af (aa 4) ao))))
def pG:FM:=runM 5 yi
def rC:SM:=
 (aK (setM 4 (bL 2 [1,3] (nF (af (aa 0) (af (aa 2) ao))) (c7 (bc (aB 0) (bc (aB 1) c8)) 2) bM (ak lV (ak cI (aa 0) (aa 3)) (ak cI (aa 1) (aa 2)))))
 (bD (aX 1 iI (af (aa 4) ao))))
def gF:FM:=runM 5 rC
def xQ:SM:=
 (bD (bL 1 [1] (listI (aa 0)) (aB 0) bM (ak ixD (aa 0) (aa 1))))
def jc:FM:=runM 2 xQ
def cH:SM:=
 (ifS (a7 (ak neD (aa 2) (aq (.int 0))))
 (bD (aa 1))
 bC)
def fV:SM:=
 (aK (eL (dQ (af (aa 0) ao)) (c7 (bc (aB 1) (bc (aB 2) c8)) 2)
 cH)
 (bD (aq .non)))
def dw:FM:=runM 3 fV
def kF:SM:=
 (aK (ifS (a7 (ak gtD (ak ixD (aa 0) (aa 1)) (aq (.int 0))))
 (bD (aa 0))
 bC)
 (bD (bL 1 [] (listI (aa 0)) (aB 0) bM (unM jb (aa 0)))))
def gr:FM:=runM 2 kF
def vU:SM:=
 (aK (ifS (a7 (ak eqD (ak ixD (aa 0) (aa 2)) (aq (.int 0))))
 (bD (aa 0))
 bC)
 (bD (aX 4 gF (af (aa 0) (af (ak ixD (aa 0) (aa 2)) (af (aa 1) (af (ak ixD (aa 1) (aa 2)) ao)))))))
def iq:FM:=runM 3 vU
def j8:SM:=
 (aK (setM 5 (aX 1 dw (af (bN 2 jc (af (aa 2) (af (aa 4) ao))) ao)))
 (ifS (a7 (ak m5 (aa 5) (aq .non)))
 (aK (setM 6 (aX 2 gr (af (CT (aa 2) (aa 5)) (af (aa 4) ao))))
 (aK (setM 2 (nO 1 [4,6] (listI (aa 2)) (aB 0) bM (aX 3 iq (af (aa 0) (af (aa 2) (af (aa 1) ao))))))
 (aK (setM 3 (nO 1 [4,6] (listI (aa 3)) (aB 0) bM (aX 3 iq (af (aa 0) (af (aa 2) (af (aa 1) ao))))))
 (eX (lY (aa 3) (aa 6))))))
 bC))
def Ae:SM:=
 (aK (setM 2 (nO 1 [] (listI (aa 0)) (aB 0) bM (aX 1 iI (af (aa 0) ao))))
 (aK (setM 3 (iL ao))
 (aK (eL (fb (af (aa 1) ao)) (aB 4)
 j8)
 (bD (iG (aa 3))))))
def wN:FM:=runM 7 Ae
def jK:SM:=
 (aK (setM 2 (bL 1 [1] (listI (aa 0)) (aB 0) bM (aX 2 bP (af (aa 1) (af (aa 0) ao)))))
 (aK (setM 3 (aX 1 dw (af (aa 2) ao)))
 (aK (ifS (a7 (ak isD (aa 3) (aq .non)))
 (bD (aa 0))
 bC)
 (aK (setM 4 (ak ixD (aa 0) (aa 3)))
 (aK (setM 5 (ak ixD (aa 2) (aa 3)))
 (bD (bL 2 [4,5,3,2] (dQ (af (aa 0) ao)) (c7 (bc (aB 0) (bc (aB 1) c8)) 2) (a7 (ak neD (aa 0) (aa 4))) (aX 4 gF (af (aa 1) (af (ak ixD (aa 5) (aa 0)) (af (aa 2) (af (aa 3) ao))))))))))))
def fB:FM:=runM 6 jK
def qS:SM:=
 (setM 2 (aX 2 fB (af (aa 2) (af (aa 3) ao))))
def AY:SM:=
 (aK (setM 2 (aX 1 ng (af (aa 1) ao)))
 (aK (eL (listI (aa 0)) (aB 3)
 qS)
 (bD (aX 2 wN (af (aa 2) (af (aa 1) ao))))))
def jr:FM:=runM 4 AY
def uQ:SM:=
 (aK (setM 2 (bL 1 [1,0] (fb (af (bJ cx (af (aa 1) ao)) ao)) (aB 0) bM (bN 2 jc (af (ak cq (kK (af (aa 1) ao)) (aa 2)) (af (aa 0) ao)))))
 (aK (setM 3 (aX 2 jr (af (aa 2) (af (ak cq (aq (.int 1)) (bJ cx (af (aa 0) ao))) ao))))
 (aK (ifS (orT (jH (vD (aa 3))) (a7 (ak eqD (ak ixD (ak ixD (aa 3) (aq (.int 0))) (aq (.int 0))) (aq (.int 0)))))
 (bD (aq .non))
 bC)
 (bD (jE (af (ak ixD (ak ixD (aa 3) (aq (.int 0))) (aq (.int 0))) (af (bL 1 [] (listI (slM (ak ixD (aa 3) (aq (.int 0))) (part (aq (.int 1))) d6)) (aB 0) bM (unM jb (aa 0))) ao)))))))
def oj:FM:=runM 4 uQ
def oO:SM:=
 (aK (setM 1 (ak cI (aa 1) (aq (.int 2))))
 (ifS (a7 (ak gtD (aa 2) (aq (.int 0))))
 (setM 1 (ak cq (aa 1) (aq (.int 1))))
 bC))
def rQ:SM:=
 (aK (setM 1 (aq (.int 0)))
 (aK (eL (listI (aa 0)) (aB 2)
 oO)
 (bD (aa 1))))
def k4:FM:=runM 3 rQ
def tm:SM:=
 (bD (ak eqD (ak orD (aa 0) (aa 1)) (aa 1)))
def mX:FM:=runM 2 tm
def lU:SM:=
 (aK (setM 3 (ak orD (aa 0) (aa 1)))
 (bD (ak eqD (bJ cx (af (bL 1 [3] (listI (aa 2)) (aB 0) (a7 (aX 2 mX (af (aa 0) (af (aa 1) ao)))) (aa 0)) ao)) (aq (.int 2)))))
def gX:FM:=runM 4 lU
def gx:SM:=
 (ifS (a7 (aX 3 gX (af (ak ixD (aa 3) (aa 7)) (af (ak ixD (aa 3) (aa 8)) (af (aa 3) ao)))))
 (eX (lY (aa 4) (yN 4 pG (af (ak ixD (aa 0) (aa 8)) (af (ak ixD (aa 2) (aa 8)) (af (ak ixD (aa 0) (aa 7)) (af (ak ixD (aa 2) (aa 7)) ao)))))))
 bC)
def ja:SM:=
 (eL (listI (aa 6)) (aB 8)
 gx)
def jV:SM:=
 (aK (setM 2 (bL 1 [1] (listI (aa 0)) (aB 0) bM (lr 2 bP (af (aa 1) (af (aa 0) ao)))))
 (aK (setM 3 (bL 1 [] (listI (aa 0)) (aB 0) bM (lr 1 k4 (af (aa 0) ao))))
 (aK (setM 4 (nO 2 [] (nF (af (aa 0) (af (aa 2) ao))) (c7 (bc (aB 0) (bc (aB 1) c8)) 2) (a7 (ak eqD (aa 1) (aq (.int 0)))) (aa 0)))
 (aK (setM 5 (bL 2 [] (dQ (af (aa 2) ao)) (c7 (bc (aB 0) (bc (aB 1) c8)) 2) (a7 (ak gtD (aa 1) (aq (.int 0)))) (aa 0)))
 (aK (setM 6 (bL 2 [] (dQ (af (aa 2) ao)) (c7 (bc (aB 0) (bc (aB 1) c8)) 2) (a7 (ak ltD (aa 1) (aq (.int 0)))) (aa 0)))
 (aK (eL (listI (aa 5)) (aB 7)
 ja)
 (bD (iG (aa 4)))))))))
def iu:FM:=runM 9 jV
def yp:SM:=
 (setM 2 (bN 2 iu (af (aa 2) (af (aa 3) ao))))
def Et:SM:=
 (aK (setM 2 (bN 1 wJ (af (aa 1) ao)))
 (aK (eL (listI (aa 0)) (aB 3)
 yp)
 (bD (wX oK (aa 2)))))
def mH:FM:=runM 4 Et
def mG:SM:=
 (bD (bL 1 [1] (listI (oC 0 "held_changes" (aa 0))) (aB 0) bM (ak ixD (aa 0) (aa 1))))
def mS:FM:=runM 2 mG
def fQ:SM:=
 (bD (bL 1 [0] (fb (af (bJ cx (af (oC 0 "held_goods" (aa 0)) ao)) ao)) (aB 0) bM (methP 0 "row" 1 mS (aa 1) (af (aa 0) ao))))
def eG:FM:=runM 1 fQ
def fo:SM:=
 (bD (bL 1 [] (listI (oC 0 "held_works" (aa 0))) (aB 0) bM (ak ixD (aa 0) (aq (.int 0)))))
def eZ:FM:=runM 1 fo
def Ed:SM:=
 (bD (d3 2 mH (af (methP 0 "rows" 0 eG (aa 0) ao) (af (bJ cx (af (methP 0 "names" 0 eZ (aa 0) ao) ao)) ao))))
def mQ:FM:=runM 1 Ed
def ur:SM:=
 (aK (setM 2 (methP 0 "names" 0 eZ (aa 0) ao))
 (aK (ifS (a7 (ak mK (aa 1) (aa 2)))
 nD
 bC)
 (bD (DM (aa 2) (aa 1)))))
def fS:FM:=runM 3 ur
def cZ:SM:=
 (ifS (a7 (ak gtD (ak ixD (aa 2) (aa 1)) (aq (.int 0))))
 (bD (aa 2))
 bC)
def j7:SM:=
 (aK (eL (listI (aa 0)) (aB 2)
 cZ)
 (bD (aq .non)))
def ka:FM:=runM 3 j7
def mL:SM:=
 (aK (setM 2 (methP 0 "rows" 0 eG (aa 0) ao))
 (aK (setM 3 (bJ cx (af (aa 1) ao)))
 (aK (setM 4 (bL 1 [1] (listI (aX 2 jr (af (aa 2) (af (aa 3) ao)))) (aB 0) bM (ak cq (aa 0) (kK (af (aX 2 bP (af (aa 0) (af (aa 1) ao))) ao)))))
 (aK (setM 5 (bN 2 ka (af (iG (d3 2 mH (af (aa 4) (af (ak cq (aa 3) (aq (.int 1))) ao)))) (af (aa 3) ao))))
 (aK (setM 6 (sf 2 [5,3] (ya (af (aa 5) (af (aa 1) ao))) (c7 (bc (aB 0) (bc (aB 1) c8)) 2) bM (ak cq (aa 0) (ak cI (ak ixD (aa 2) (aa 3)) (aa 1)))))
 (aK (setM 7 (aX 2 oj (af (aa 2) (af (aa 6) ao))))
 (bD (jE (af (ak cI (ak ixD (aa 7) (aq (.int 0))) (ak ixD (aa 5) (aa 3))) (af (ak ixD (aa 7) (aq (.int 1))) ao))))))))))
def f7:FM:=runM 8 mL
def lN:SM:=
 (aK (setM 5 (v9 oK (af (aq (.int 0)) ao) (aa 0)))
 (aK (gA (ak cq (ak ixD (aa 5) (aa 1)) (aa 2)) (jJ (aa 5) (aa 1)))
 (aK (gA (ak cq (ak ixD (aa 5) (aa 3)) (aa 4)) (jJ (aa 5) (aa 3)))
 (bD (iG (aa 5))))))
def fH:FM:=runM 6 lN
def cU:SM:=
 (ifS (vW (a7 (ak gtD (ak ixD (aa 3) (aa 1)) (aq (.int 0)))) (a7 (ak eqD (ak ixD (aa 3) (aa 2)) (aq (.int 0)))))
 (bD (aa 3))
 bC)
def ji:SM:=
 (aK (eL (listI (aa 0)) (aB 3)
 cU)
 (bD (aq .non)))
def jg:FM:=runM 4 ji
def iM:SM:=
 (ifS (a7 (ak gtD (ak cI (ak ixD (aa 4) (aa 1)) (ak ixD (aa 3) (aa 2))) (ak cI (ak ixD (aa 3) (aa 1)) (ak ixD (aa 4) (aa 2)))))
 (setM 3 (aa 4))
 bC)
def mJ:SM:=
 (aK (setM 3 (ak ixD (aa 0) (aq (.int 0))))
 (aK (eL (listI (aa 0)) (aB 4)
 iM)
 (bD (aa 3))))
def jL:FM:=runM 5 mJ
def qu:SM:=
 (aK (setM 3 (aX 2 fS (af (aa 0) (af (aa 1) ao))))
 (aK (setM 4 (aX 2 fS (af (aa 0) (af (aa 2) ao))))
 (aK (setM 5 (iG (d3 1 mQ (af (aa 0) ao))))
 (aK (setM 6 (bJ cx (af (methP 0 "names" 0 eZ (aa 0) ao) ao)))
 (aK (setM 7 (bN 3 jg (af (aa 5) (af (aa 3) (af (aa 4) ao)))))
 (aK (ifS (a7 (ak m5 (aa 7) (aq .non)))
 (bD (jE (af (aq (.str ("free" :Str))) (af (aa 7) ao))))
 bC)
 (aK (setM 8 (bL 1 [4] (listI (aa 5)) (aB 0) (a7 (ak gtD (ak ixD (aa 0) (aa 1)) (aq (.int 0)))) (aa 0)))
 (aK (ifS (jH (vD (aa 8)))
 (aK (setM 9 (aX 2 f7 (af (aa 0) (af (aX 5 fH (af (aa 6) (af (aa 3) (af (aq (.int 1)) (af (aa 4) (af (aq (.int 1)) ao)))))) ao))))
 (bD (jE (af (aq (.str ("never" :Str))) (af (ak ixD (aa 9) (aq (.int 1))) ao)))))
 bC)
 (aK (setM 10 (bN 3 jL (af (aa 8) (af (aa 3) (af (aa 4) ao)))))
 (aK (setM 11 (aX 2 wG (af (ak ixD (aa 10) (aa 3)) (af (ak ixD (aa 10) (aa 4)) ao))))
 (aK (setM 9 (aX 2 f7 (af (aa 0) (af (aX 5 fH (af (aa 6) (af (aa 3) (af (ak ixD (aa 11) (aq (.int 1))) (af (aa 4) (af (unM jb (ak ixD (aa 11) (aq (.int 0)))) ao)))))) ao))))
 (bD (jE (af (aq (.str ("most" :Str))) (af (aa 11) (af (aa 10) (af (ak ixD (aa 9) (aq (.int 0))) (af (ak ixD (aa 9) (aq (.int 1))) ao))))))))))))))))))
def p6:FM:=runM 12 qu
def vJ:SM:=
 (aK (ifS (orT (a7 (ak ltD (bJ cx (af (aa 0) ao)) (aq (.int 1)))) (a7 (ak gtD (bJ cx (af (aa 0) ao)) (aq (.int 8)))))
 (bD (aq (.bl wh)))
 bC)
 (bD (bJ Hn (af (bL 1 [] (Dd (aa 0)) (aB 0) bM (vj uf uf (aq (.str ("a" :Str))) (aa 0) (aq (.str ("z" :Str))))) ao))))
def ot:FM:=runM 1 vJ
def qf:SM:=
 (aK (ifS (a7 (ak gtD (bJ cx (af (aa 0) ao)) (aq (.int 10))))
 nD
 bC)
 (ifS (a7 (ak gtD (bJ cx (af (aa 1) ao)) (aq (.int 10))))
 nD
 bC))
def jX:FM:=runM 2 qf
def pZ:SM:=
 (aK (ifS (jH (a7 (aX 1 ot (af (aa 0) ao))))
 nD
 bC)
 (ifS (a7 (ak inD (aa 0) (aa 1)))
 nD
 bC))
def gP:FM:=runM 2 pZ
def jN:SM:=
 (eX (aX 2 gP (af (aa 2) (af (slM (aa 0) d6 (part (aa 1))) ao))))
def oJ:SM:=
 (eL (dQ (af (aa 0) ao)) (c7 (bc (aB 1) (bc (aB 2) c8)) 2)
 jN)
def jh:FM:=runM 3 oJ
def qi:SM:=
 (aK (ifS (a7 (ak mK (aa 0) (aa 1)))
 nD
 bC)
 (ifS (a7 (ak inD (aa 0) (aa 2)))
 nD
 bC))
def ko:FM:=runM 3 qi
def nv:SM:=
 (ifS (orT (jH (a7 (aX 1 gB (af (aa 0) ao)))) (a7 (ak ltD (aa 0) (aq (.int 1)))))
 nD
 bC)
def i3:FM:=runM 1 nv
def jP:SM:=
 (aK (eX (lr 3 ko (af (aa 3) (af (aa 1) (af (aa 2) ao)))))
 (aK (eX (aX 1 i3 (af (aa 4) ao)))
 (eX (lY (aa 2) (aa 3)))))
def oP:SM:=
 (aK (setM 2 (iL ao))
 (eL (listI (aa 0)) (c7 (bc (aB 3) (bc (aB 4) c8)) 2)
 jP))
def fA:FM:=runM 5 oP
def jM:SM:=
 (aK (eX (lr 2 gP (af (aa 3) (af (aa 2) ao))))
 (aK (eX (aX 2 fA (af (aa 4) (af (aa 1) ao))))
 (aK (eX (aX 2 fA (af (aa 5) (af (aa 1) ao))))
 (eX (lY (aa 2) (aa 3))))))
def oN:SM:=
 (aK (setM 2 (iL ao))
 (eL (listI (aa 0)) (c7 (bc (aB 3) (bc (aB 4) (bc (aB 5) c8))) 3)
 jM))
def jq:FM:=runM 6 oN
def rj:SM:=
 (bD (jE (af (ak ixD (aa 0) (aq (.int 0))) (af (bJ nZ (af (ak ixD (aa 0) (aq (.int 1))) ao)) (af (bJ nZ (af (ak ixD (aa 0) (aq (.int 2))) ao)) ao)))))
def kX:FM:=runM 1 rj
def rA:SM:=
 (bD (bJ tK (af (bL 1 [0] (listI (aa 1)) (aB 0) (a7 (ak eqD (ak ixD (aa 0) (aq (.int 0))) (aa 1))) (ak ixD (aa 0) (aq (.int 1)))) ao)))
def eY:FM:=runM 2 rA
def rE:SM:=
 (bD (bL 1 [0] (listI (aa 1)) (aB 0) bM (ak lV (aX 2 eY (af (aa 0) (af (ak ixD (aa 1) (aq (.int 2))) ao))) (aX 2 eY (af (aa 0) (af (ak ixD (aa 1) (aq (.int 1))) ao))))))
def kU:FM:=runM 2 rE
def kP:SM:=
 (aK (eX (aX 2 jX (af (aa 1) (af (aa 2) ao))))
 (aK (eX (aX 1 jh (af (aa 1) ao)))
 (aK (eX (aX 2 jq (af (aa 2) (af (aa 1) ao))))
 (aK (um 0 "held_goods" (aa 0) (bJ nZ (af (aa 1) ao)))
 (aK (um 0 "held_works" (aa 0) (bL 1 [] (listI (aa 2)) (aB 0) bM (aX 1 kX (af (aa 0) ao))))
 (um 0 "held_changes" (aa 0) (bL 1 [1] (listI (aa 2)) (aB 0) bM (aX 2 kU (af (aa 0) (af (aa 1) ao))))))))))
def kM:FM:=runM 3 kP
def gO:SM:=
 (aK (ifS (a7 (ak neD (bJ cx (af (aa 1) ao)) (bJ cx (af (oC 0 "held_works" (aa 0)) ao))))
 nD
 bC)
 (ifS (a7 (bJ K3 (af (bL 1 [] (listI (aa 1)) (aB 0) bM (ak ltD (aa 0) (aq (.int 0)))) ao)))
 nD
 bC))
def gT:FM:=runM 2 gO
def jo:SM:=
 (aK (eX (methP 0 "check_way" 1 gT (aa 0) (af (aa 1) ao)))
 (bD (bL 1 [1] (listI (methP 0 "rows" 0 eG (aa 0) ao)) (aB 0) bM (aX 2 bP (af (aa 0) (af (aa 1) ao))))))
def ie:FM:=runM 2 jo
def ig:SM:=
 (bD (bJ Hn (af (bL 1 [] (listI (methP 0 "leaves" 1 ie (aa 0) (af (aa 1) ao))) (aB 0) bM (ak eqD (aa 0) (aq (.int 0)))) ao)))
def iy:FM:=runM 2 ig
def tO:SM:=
 (aK (ifS (a7 (ak ltD (aa 1) (bJ cx (af (aa 0) ao))))
 (bD (ak ixD (aa 0) (aa 1)))
 bC)
 (bD (aq (.int 0))))
def cR:FM:=runM 2 tO
def Cf:SM:=
 (bD (iL (af (ak cI (ak gD (ak d4 (aa 0) (aq (.int 2))) (ak hJ (aq (.int 10)) (aq (.int 60)))) (ak gD (aa 0) (aq (.int 2)))) (af (ak gD (ak d4 (aa 0) (aq (.int 2))) (aq (.int 2147483647))) ao))))
def eg:FM:=runM 1 Cf
def mN:SM:=
 (aK (ifS (a7 (ak gtD (ak ixD (aa 0) (aq (.int 0))) (aq (.int 0))))
 (aK (setM 2 (ak gD (ak ixD (aa 0) (aq (.int 0))) (aa 1)))
 (aK (gA (ak d4 (ak ixD (aa 0) (aq (.int 0))) (aa 1)) (jJ (aa 0) (aq (.int 0))))
 (bD (aa 2))))
 bC)
 (aK (gA (ak gD (ak cq (ak cI (ak ixD (aa 0) (aq (.int 1))) (aq (.int 48271))) (aq (.int 4099))) (aq (.int 2147483647))) (jJ (aa 0) (aq (.int 1))))
 (bD (ak gD (ak d4 (ak gD (ak cI (ak ixD (aa 0) (aq (.int 1))) (ak cq (ak d4 (ak ixD (aa 0) (aq (.int 1))) (aq (.int 65536))) (aq (.int 7)))) (aq (.int 2147483629))) (aq (.int 32))) (aa 1)))))
def aQ:FM:=runM 3 mN
def fW:SM:=
 (aK (setM 2 (bN 2 aQ (af (aa 0) (af (aq (.int 6)) ao))))
 (aK (ifS (a7 (ak eqD (aa 2) (aq (.int 4))))
 (bD (aq (.int 0)))
 bC)
 (aK (ifS (a7 (ak eqD (aa 2) (aq (.int 5))))
 (bD (ak lV (ak gD (ak cq (ak cI (bN 2 aQ (af (aa 0) (af (aq (.int 1000)) ao))) (ak hJ (aq (.int 10)) (aq (.int 6)))) (bN 2 aQ (af (aa 0) (af (ak hJ (aq (.int 10)) (aq (.int 6))) ao)))) (aa 1)) (bN 2 aQ (af (aa 0) (af (aq (.int 9)) ao)))))
 bC)
 (bD (ak lV (bN 2 aQ (af (aa 0) (af (aq (.int 7)) ao))) (aq (.int 3)))))))
def fT:FM:=runM 3 fW
def lD:SM:=
 (aK (setM 5 (ak cq (aa 5) (ak ixD (aa 2) (ak gD (aa 4) (aq (.int 26))))))
 (setM 4 (ak cq (ak d4 (aa 4) (aq (.int 26))) (ak cI (aq (.int 5)) (aa 6)))))
def lH:SM:=
 (aK (setM 10 (ak cq (ak cq (slS (aa 5) d6 (part (aa 7))) (aa 9)) (slS (aa 5) (part (ak cq (aa 7) (aq (.int 1)))) d6)))
 (ifS (vW (a7 (ak ltD (bJ cx (af (aa 8) ao)) (aa 1))) (a7 (ak mK (aa 10) (aa 8))))
 (eX (lY (aa 8) (aa 10)))
 bC))
def rN:SM:=
 (aK (setM 2 (aq (.str ("abcdefghijklmnopqrstuvwxyz" :Str))))
 (aK (setM 3 (ak cq (aq (.int 1)) (ak gD (aa 0) (aq (.int 8)))))
 (aK (setM 4 (ak gD (ak d4 (aa 0) (aq (.int 8))) (ak hJ (aq (.int 10)) (aq (.int 18)))))
 (aK (setM 5 (aq (.str ("" :Str))))
 (aK (eL (fb (af (aa 3) ao)) (aB 6)
 lD)
 (aK (setM 7 (ak gD (ak d4 (aa 0) (aq (.int 3))) (aa 3)))
 (aK (setM 8 (iL ao))
 (aK (ifS (a7 (ak eqD (ak gD (ak d4 (aa 0) (aq (.int 5))) (aq (.int 2))) (aq (.int 1))))
 (setM 8 (slC (bL 1 [5] (rS (af (aq (.int 1)) (af (ak cq (aa 3) (aq (.int 1))) ao))) (aB 0) bM (slS (aa 1) d6 (part (aa 0)))) d6 (part (aa 1))))
 bC)
 (aK (eL (Dd (aa 2)) (aB 9)
 lH)
 (bD (iG (aa 8))))))))))))
def iE:FM:=runM 11 rN
def n5:SM:=
 (aK (setM 4 (aq (.int 1)))
 (aK (ifS (a7 (ak ltD (aa 1) (aq (.int 4))))
 (setM 4 (bN 2 aQ (af (aa 0) (af (ak hJ (aq (.int 10)) (aq (.int 6))) ao))))
 bC)
 (eX (lY (aa 2) (ak ixD (kK (af (aq (.int 1)) (af (aq (.int 0)) (af (aq (.int 2)) (af (aq (.int 0)) (af (aq (.int 1)) (af (aq (.int 3)) (af (aa 4) ao)))))))) (bN 2 aQ (af (aa 0) (af (aq (.int 7)) ao))))))))
def vT:SM:=
 (aK (setM 2 (iL (af (aq (.int 1)) ao)))
 (aK (eL (fb (af (ak lV (aa 1) (aq (.int 1))) ao)) (aB 3)
 n5)
 (bD (aa 2))))
def qB:FM:=runM 5 vT
def jO:SM:=
 (aK (setM 6 (d3 1 eg (af (ak cq (ak ixD (aa 0) (ak gD (aa 5) (bJ cx (af (aa 0) ao)))) (ak cI (aq (.int 700001)) (ak d4 (aa 5) (bJ cx (af (aa 0) ao))))) ao)))
 (aK (setM 7 (bL 1 [6,4] (listI (aa 1)) (aB 0) bM (bN 2 fT (af (aa 1) (af (aa 2) ao)))))
 (aK (setM 8 (bN 2 aQ (af (aa 6) (af (aq (.int 12)) ao))))
 (aK (ifS (vW (a7 (ak gtD (aa 8) (aq (.int 9)))) (a7 (ak gtD (aa 5) (aq (.int 0)))))
 (setM 7 (bL 1 [8] (listI (ak ixD (aa 3) (unM jb (aq (.int 1))))) (aB 0) bM (ak cI (aa 0) (ak lV (aq (.int 21)) (ak cI (aq (.int 2)) (aa 1))))))
 bC)
 (aK (ifS (a7 (ak eqD (aa 8) (aq (.int 9))))
 (setM 7 (bL 1 [] (listI (aa 1)) (aB 0) bM (aq (.int 0))))
 bC)
 (eX (lY (aa 3) (aa 7))))))))
def oR:SM:=
 (aK (setM 3 (iL ao))
 (aK (setM 4 (aq (.int 4)))
 (aK (ifS (a7 (ak ltD (bJ cx (af (aa 2) ao)) (aq (.int 4))))
 (setM 4 (ak hJ (aq (.int 10)) (aq (.int 9))))
 bC)
 (aK (eL (fb (af (bJ cx (af (aa 2) ao)) ao)) (aB 5)
 jO)
 (aK (ifS (a7 (ak eqD (ak ixD (aa 2) (aq (.int 0))) (aq (.int 1))))
 (gA (bL 1 [3,2] (fb (af (bJ cx (af (aa 1) ao)) ao)) (aB 0) bM (unM jb (bJ tK (af (bL 1 [0,1,2] (rS (af (aq (.int 1)) (af (bJ cx (af (aa 2) ao)) ao))) (aB 0) bM (ak cI (ak ixD (ak ixD (aa 2) (aa 0)) (aa 1)) (ak ixD (aa 3) (aa 0)))) ao)))) (jJ (aa 3) (aq (.int 0))))
 bC)
 (bD (iG (aa 3))))))))
def jk:FM:=runM 9 oR
def jj:SM:=
 (aK (setM 11 (aq (.int 0)))
 (aK (ifS (a7 (ak eqD (bN 2 aQ (af (aa 0) (af (aq (.int 6)) ao))) (aq (.int 5))))
 (setM 11 (ak cq (aq (.int 1)) (bN 2 aQ (af (aa 0) (af (aq (.int 5)) ao)))))
 bC)
 (aK (ifS (orT (a7 (ak ltD (aa 10) (aq (.int 0)))) (a7 (ak gtD (aa 11) (aq (.int 0)))))
 (eX (lY (aa 7) (jE (af (aa 9) (af (ak cq (bJ uo (af (unM jb (aa 10)) (af (aq (.int 0)) ao))) (aa 11)) ao)))))
 bC)
 (ifS (orT (a7 (ak gtD (aa 10) (aq (.int 0)))) (a7 (ak gtD (aa 11) (aq (.int 0)))))
 (eX (lY (aa 8) (jE (af (aa 9) (af (ak cq (bJ uo (af (aa 10) (af (aq (.int 0)) ao))) (aa 11)) ao)))))
 bC))))
def lF:SM:=
 (aK (setM 7 (iL ao))
 (aK (setM 8 (iL ao))
 (aK (eL (nF (af (aa 2) (af (aa 6) ao))) (c7 (bc (aB 9) (bc (aB 10) c8)) 2)
 jj)
 (eX (lY (aa 4) (jE (af (aa 5) (af (iG (aa 7)) (af (iG (aa 8)) ao)))))))))
def rh:SM:=
 (aK (setM 4 (iL ao))
 (aK (eL (nF (af (aa 1) (af (aa 3) ao))) (c7 (bc (aB 5) (bc (aB 6) c8)) 2)
 lF)
 (bD (iG (aa 4)))))
def n4:FM:=runM 12 rh
def rJ:SM:=
 (aK (setM 3 (d3 1 eg (af (aX 2 cR (af (aa 0) (af (aq (.int 2)) ao))) ao)))
 (aK (setM 4 (aX 2 iE (af (aX 2 cR (af (aa 0) (af (aq (.int 0)) ao))) (af (ak cq (aq (.int 1)) (bN 2 aQ (af (aa 3) (af (aa 1) ao)))) ao))))
 (aK (ifS (a7 (ak eqD (bN 2 aQ (af (aa 3) (af (aq (.int 12)) ao))) (aq (.int 11))))
 (setM 4 (kK ao))
 bC)
 (aK (setM 5 (aX 2 iE (af (aX 2 cR (af (aa 0) (af (aq (.int 1)) ao))) (af (ak cq (aq (.int 1)) (bN 2 aQ (af (aa 3) (af (aa 2) ao)))) ao))))
 (aK (setM 6 (bN 2 qB (af (aa 3) (af (bJ cx (af (aa 5) ao)) ao))))
 (aK (ifS (a7 (ak eqD (bN 2 aQ (af (aa 3) (af (aq (.int 4)) ao))) (aq (.int 3))))
 (gA (aq (.int 0)) (jJ (aa 6) (aq (.int 0))))
 bC)
 (aK (setM 7 (bN 3 jk (af (ak cq (kK (af (aX 2 cR (af (aa 0) (af (aq (.int 3)) ao))) ao)) (slM (aa 0) (part (aq (.int 4))) (part (aq (.int 12))))) (af (aa 4) (af (aa 6) ao)))))
 (aK (setM 8 (bN 2 aQ (af (aa 3) (af (bJ cx (af (aa 5) ao)) ao))))
 (aK (setM 7 (ak cq (slM (aa 7) (part (aa 8)) d6) (slM (aa 7) d6 (part (aa 8)))))
 (aK (setM 6 (ak cq (slM (aa 6) (part (aa 8)) d6) (slM (aa 6) d6 (part (aa 8)))))
 (bD (jE (af (aa 4) (af (bN 4 n4 (af (d3 1 eg (af (ak d4 (aX 2 cR (af (aa 0) (af (aq (.int 3)) ao))) (aq (.int 5))) ao)) (af (aa 5) (af (aa 4) (af (aa 7) ao))))) (af (aa 7) (af (GV (aa 6)) ao))))))))))))))))
def kS:FM:=runM 9 rJ
def dZ:SM:=
 (ifS (a7 (ak neD (bJ tK (af (bL 1 [3,1,0] (fb (af (bJ cx (af (aa 0) ao)) ao)) (aB 0) bM (ak cI (ak ixD (aa 3) (aa 0)) (ak ixD (ak ixD (aa 2) (aa 0)) (aa 1)))) ao)) (aq (.int 0))))
 (bD (aq (.bl wh)))
 bC)
def iY:SM:=
 (aK (eL (fb (af (bJ cx (af (aa 2) ao)) ao)) (aB 3)
 dZ)
 (bD (aq (.bl qc))))
def eU:FM:=runM 4 iY
def rV:SM:=
 (aK (ifS (a7 (ak eqD (ak ixD (aa 0) (aq (.int 0))) (aq (.str ("never" :Str)))))
 (bD (yh (ak eqD (ak ixD (aa 1) (aa 2)) (aq (.int 0))) (ak eqD (ak ixD (aa 1) (aa 3)) (aq (.int 0)))))
 bC)
 (aK (ifS (a7 (ak eqD (ak ixD (aa 0) (aq (.int 0))) (aq (.str ("free" :Str)))))
 (bD (yh (ak gtD (ak cq (ak ixD (aa 1) (aa 2)) (ak ixD (ak ixD (aa 0) (aq (.int 1))) (aa 2))) (ak ixD (aa 1) (aa 2))) (ak eqD (ak cq (ak ixD (aa 1) (aa 3)) (ak ixD (ak ixD (aa 0) (aq (.int 1))) (aa 3))) (ak ixD (aa 1) (aa 3)))))
 bC)
 (bD (yh (ak eqD (ak ixD (aa 0) (aq (.int 0))) (aq (.str ("most" :Str)))) (ak leD (ak cI (ak ixD (ak ixD (aa 0) (aq (.int 1))) (aq (.int 1))) (ak ixD (aa 1) (aa 2))) (ak cI (ak ixD (ak ixD (aa 0) (aq (.int 1))) (aq (.int 0))) (ak ixD (aa 1) (aa 3))))))))
def jz:FM:=runM 4 rV
def lu:SM:=
 (aK (setM 6 (bN 2 aQ (af (aa 0) (af (aq (.int 4)) ao))))
 (aK (ifS (a7 (ak eqD (bN 2 aQ (af (aa 0) (af (aq (.int 9)) ao))) (aq (.int 8))))
 (setM 6 (ak cI (bN 2 aQ (af (aa 0) (af (ak hJ (aq (.int 10)) (aq (.int 6))) ao))) (ak hJ (aq (.int 10)) (aq (.int 6)))))
 bC)
 (setM 4 (sf 2 [6] (ya (af (aa 4) (af (aa 5) ao))) (c7 (bc (aB 0) (bc (aB 1) c8)) 2) bM (ak cq (aa 0) (ak cI (aa 2) (aa 1)))))))
def rB:SM:=
 (aK (setM 3 (bN 2 aQ (af (aa 0) (af (aq (.int 3)) ao))))
 (aK (setM 4 (bL 1 [3] (listI (aa 1)) (aB 0) bM (ak cI (aa 0) (aa 1))))
 (aK (eL (listI (aa 2)) (aB 5)
 lu)
 (bD (aa 4)))))
def iJ:FM:=runM 7 rB
def wM:SM:=
 (ifS (orT (jH (a7 (aX 3 eU (af (aa 9) (af (aa 3) (af (aa 1) ao)))))) (jH (a7 (methP 0 "balanced" 1 iy (aa 5) (af (bJ nZ (af (aa 9) ao)) ao)))))
 (bD (aq (.bl wh)))
 bC)
def Am:SM:=
 (ifS (orT (jH (a7 (bN 4 jz (af (aa 12) (af (aa 9) (af (aa 10) (af (aa 11) ao))))))) (jH (a7 (bN 4 jz (af (aa 13) (af (aa 9) (af (aa 11) (af (aa 10) ao))))))))
 (bD (aq (.bl wh)))
 bC)
def wC:SM:=
 (aK (setM 12 (d3 3 p6 (af (aa 5) (af (ak ixD (ak ixD (aa 2) (aa 10)) (aq (.int 0))) (af (ak ixD (ak ixD (aa 2) (aa 11)) (aq (.int 0))) ao)))))
 (aK (setM 13 (d3 3 p6 (af (aa 5) (af (ak ixD (ak ixD (aa 2) (aa 11)) (aq (.int 0))) (af (ak ixD (ak ixD (aa 2) (aa 10)) (aq (.int 0))) ao)))))
 (eL (listI (aa 8)) (aB 9)
 Am)))
def LU:SM:=
 (aK (gA (aX 3 kS (af (aa 0) (af (aq (.int 4)) (af (aq (.int 5)) ao)))) (c7 (bc (aB 1) (bc (aB 2) (bc (aB 3) (bc (aB 4) c8)))) 4))
 (aK (setM 5 (zD 0 2 kM (af (aa 1) (af (aa 2) ao))))
 (aK (setM 6 (iG (d3 1 mQ (af (aa 5) ao))))
 (aK (setM 7 (d3 1 eg (af (aX 2 cR (af (aa 0) (af (aq (.int 3)) ao))) ao)))
 (aK (ifS (jH (a7 (aX 3 eU (af (aa 4) (af (aa 3) (af (aa 1) ao))))))
 (setM 4 (bL 1 [] (listI (aa 2)) (aB 0) bM (aq (.int 0))))
 bC)
 (aK (setM 8 (ak cq (kK (af (aa 4) ao)) (bL 1 [7,6,4] (fb (af (aq (.int 4)) ao)) (aB 0) bM (bN 3 iJ (af (aa 1) (af (aa 3) (af (aa 2) ao)))))))
 (aK (eL (listI (aa 8)) (aB 9)
 wM)
 (aK (setM 10 (bN 2 aQ (af (aa 7) (af (bJ cx (af (aa 2) ao)) ao))))
 (aK (eL (fb (af (bJ cx (af (aa 2) ao)) ao)) (aB 11)
 wC)
 (bD (aq (.bl qc))))))))))))
def CQ:FM:=runM 14 LU
section
variable {e : Ev}
theorem E7:aY ["value"] ["value"] (aL tI):=cj
abbrev sZ(e:Ev):Prop:=DIn e 35 "is_whole" ["value"] gB
theorem Fw(F:FA e "is_whole" tI)(ab:e.P.given.tree=pi)(J:N0 e "isinstance")(Y:N0 e "int")(U:N0 e "bool"):sZ e:=by
 exact bH F E7 rfl ∅ (bd1 λ_ _ _ _ _ _ _=>rfl) λ_ _ _ _ _ _ _ hr hu ac=>#[_,(aE (bg (zf (bK Ea rfl J Boot.«isinstance» (ah (pv 0) (ah (FD (v:=.ty "int") rfl Y Boot.«int» rfl) au))) (z4 (ON (bK Ea rfl J Boot.«isinstance» (ah (pv 0) (ah (FD (v:=.ty "bool") rfl U Boot.«bool» rfl) au)))))))),
  (bf (wR (Iq ty_int (ae 0)) (Mw (Iq ty_bool (ae 0)))))]
theorem fv:aY ["one","other","rest"] ["one","other"] (aL lJ):=cj
abbrev lM(e:Ev):Prop:=DIn e 35 "measure_of_two" ["one","other"] fI
theorem xc(F:FA e "measure_of_two" lJ)(U:e.P.given.tree=pi)(J:N0 e "abs"):lM e:=by
 exact bH F fv rfl ∅ (bd2 λ_ _ _ _ _ _ _ _=>rfl) λ_ _ _ _ _ _ _ hr hu Y=>#[_,(av (aT (i:=0) fv.nd rfl (r0 rfl) (bK D3 rfl J Boot.«abs» (ah (pv 0) au)))
 (av (aT (i:=1) fv.nd rfl (r0 rfl) (bK D3 rfl J Boot.«abs» (ah (pv 1) au)))
 (av (JP PassesOwn.never (bo (EH hu) (pv 1) ay bu)
 (av (aT (i:=2) fv.nd rfl (r0 rfl) (aW fE (pv 0) (pv 1)))
 (av (aT (i:=0) fv.nd rfl (r0 rfl) (pv 1))
 (aE (aT (i:=1) fv.nd rfl (r0 rfl) (pv 2))))))
 (aE (bg (pv 0)))))),
  (aD (aN (bG IT (ai (ae 0) aw)))
 (aD (aN (bG IT (ai (ae 1) aw)))
 (aD (Ks (bF (ar zc (ae 1) (ax 0)))
 (aD (aN (ar gY (ae 0) (ae 1)))
 (aD (aN (ae 1))
 (aN (ae 2)))))
 (bf (ae 0)))))]
theorem pf:aY ["numbers","common","number"] ["numbers"] (aL vg):=cj
abbrev u7(e:Ev):Prop:=DIn e 36 "measure" ["numbers"] j9
theorem G4(F:FA e "measure" vg)(J:e.P.given.tree=pi)(U:lM e):u7 e:=by
 exact bH F pf rfl ∅ (bd1 λ_ _ _ _ _ _ _=>rfl) λ_ _ _ _ _ _ _ hr hu Y=>#[_,(av (aT (i:=1) pf.nd rfl (r0 rfl) ay)
 (av (dG PassesOwn.never rfl (bQ (pv 0)) (aP (i:=2) pf.nd rfl (r0 rfl))
 (aE (aT (i:=1) pf.nd rfl (r0 rfl) (aI U hr (ah (pv 1) (ah (pv 2) au))))))
 (aE (bg (pv 1))))),
  (aD (aN (ax 0))
 (aD (dE (bR (ae 0)) (aM 2)
 (aN (ba (n:=2) (f:=fI) (ai (ae 1) (ai (ae 2) aw)))))
 (bf (ae 1))))]
theorem BW:aY ["numbers","common"] ["numbers"] (aL yr):=cj
abbrev DS(e:Ev):Prop:=DIn e 37 "lowest" ["numbers"] ub
theorem Jr(F:FA e "lowest" yr)(U:e.P.given.tree=pi)(J:N0 e "list")(uT:u7 e):DS e:=by
 exact bH F BW rfl ∅ (bd1 λ_ _ _ _ _ _ _=>rfl) λ_ _ _ _ _ _ _ hr hu Y=>#[_,(av (aT (i:=1) BW.nd rfl (Rs rfl) (aI uT hr (ah (pv 0) au)))
 (av (cf (bo (fU hu) (pv 1) ay bu)
 (aE (bg (mf iX rfl J Boot.«list» (ah (pv 0) au))))
 bA)
 (aE (bg (cP (own:=["number"]) (cap:=["common"]) (caps:=[1]) rfl (scC #[rfl,r0 rfl,rfl,trivial]) (bQ (pv 0)) (λ_ _ _=>(aP (i:=0) (ndL ["number"] ["common"]) rfl (r0 rfl))) (λ_ _ _=>bX) (λ_ _ _=>(aW (gW Y U #[_,_,rfl,rfl,rfl,rfl,rfl]) (pv 0) (pv 1)))))))),
  (aD (aN (ba (n:=1) (f:=j9) (ai (ae 0) aw)))
 (aD (cg (bF (ar ey (ae 1) (ax 0)))
 (bf (Kx (ae 0)))
 bB)
 (bf (pW (m:=1) (caps:=[1]) (bR (ae 0)) (aM 0) bY (ar fK (ae 0) (ae 1))))))]
theorem wa:aY ["numbers","common"] ["numbers"] (aL xM):=cj
abbrev rT(e:Ev):Prop:=DIn e 37 "lowest" ["numbers"] iI
theorem EV(F:FA e "lowest" xM)(U:e.P.given.tree=pi)(J:N0 e "list")(uT:u7 e):rT e:=by
 exact bH F wa rfl ∅ (bd1 λ_ _ _ _ _ _ _=>rfl) λ_ _ _ _ _ _ _ hr hu Y=>#[_,(av (aT (i:=1) wa.nd rfl (Rs rfl) (aI uT hr (ah (pv 0) au)))
 (av (cf (bo (fU hu) (pv 1) ay bu)
 (aE (bg (mf iX rfl J Boot.«list» (ah (pv 0) au))))
 bA)
 (aE (bg (cP (own:=["number"]) (cap:=["common"]) (caps:=[1]) rfl (scC #[rfl,r0 rfl,rfl,trivial]) (bQ (pv 0)) (λ_ _ _=>(aP (i:=0) (ndL ["number"] ["common"]) rfl (r0 rfl))) (λ_ _ _=>bX) (λ_ _ _=>(aW (gW Y U #[_,_,rfl,rfl,rfl,rfl,rfl]) (pv 0) (pv 1)))))))),
  (aD (aN (ba (n:=1) (f:=j9) (ai (ae 0) aw)))
 (aD (cg (bF (ar ey (ae 1) (ax 0)))
 (bf (bG qs (ai (ae 0) aw)))
 bB)
 (bf (bZ (m:=1) (caps:=[1]) (bR (ae 0)) (aM 0) bY (ar fK (ae 0) (ae 1))))))]
theorem yt:aY ["top","bottom","common"] ["top","bottom"] (aL Ag):=cj
abbrev FX(e:Ev):Prop:=DIn e 36 "ratio" ["top","bottom"] wG
theorem Kf(F:FA e "ratio" Ag)(J:e.P.given.tree=pi)(Y:sZ e)(lW:lM e):FX e:=by
 exact bH F yt rfl ∅ (bd2 λ_ _ _ _ _ _ _ _=>rfl) λ_ _ _ _ _ _ _ hr hu U=>#[_,(av (cf (PW.pt (pw_or (kh (jn (aI Y hr (ah (pv 0) au)))) (pw_or1 (kh (jn (aI Y hr (ah (pv 1) au)))))))
 (aE gj)
 bA)
 (av (cf (bo (fU hu) (pv 1) ay bu)
 (aE gj)
 bA)
 (av (aT (i:=2) yt.nd rfl (r0 rfl) (aI lW hr (ah (pv 0) (ah (pv 1) au))))
 (av (cf (bo nN (pv 1) ay bu)
 (aE (aT (i:=2) yt.nd rfl (r0 rfl) (ua qj (pv 2))))
 bA)
 (aE (bg (jW (ah (aW (gW U J #[_,_,rfl,rfl,rfl,rfl,rfl]) (pv 0) (pv 2)) (ah (aW (gW U J #[_,_,rfl,rfl,rfl,rfl,rfl]) (pv 1) (pv 2)) au))))))))),
  (aD (cg (qT (kg (k9 (ba (n:=1) (f:=gB) (ai (ae 0) aw)))) (kg (k9 (ba (n:=1) (f:=gB) (ai (ae 1) aw)))))
 gc
 bB)
 (aD (cg (bF (ar ey (ae 1) (ax 0)))
 gc
 bB)
 (aD (aN (ba (n:=2) (f:=fI) (ai (ae 0) (ai (ae 1) aw))))
 (aD (cg (bF (ar nR (ae 1) (ax 0)))
 (aN (tq pK (ae 2)))
 bB)
 (bf (j4 (ai (ar fK (ae 0) (ae 2)) (ai (ar fK (ae 1) (ae 2)) aw))))))))]
theorem vS:aY ["numbers","others"] ["numbers","others"] (aL kH):=cj
abbrev gv(e:Ev):Prop:=DIn e 35 "sum_of_products" ["numbers","others"] bP
theorem uS(F:FA e "sum_of_products" kH)(Y:e.P.given.tree=pi)(J:N0 e "zip")(U:N0 e "sum"):gv e:=by
 exact bH F vS rfl ∅ (bd2 λ_ _ _ _ _ _ _ _=>rfl) λ_ _ _ _ _ _ _ hr hu ab=>#[_,(aE (bg (bK (qK rfl) rfl U Boot.«sum» (ah (cP (own:=["number","other"]) (cap:=[]) (caps:=[]) rfl (scC trivial) (ou rfl J (ah (pv 0) (ah (pv 1) au))) (λ_ _ _=>(gu rfl (bU (aP (i:=0) (ndL ["number","other"] []) rfl (r0 rfl)) (bU (aP (i:=1) (ndL ["number","other"] []) rfl (r0 rfl)) ft)))) (λ_ _ _=>bX) (λ_ _ _=>(aW eH (pv 0) (pv 1)))) au)))),
  (bf (bG zm (ai (bZ (m:=2) (caps:=[]) (sx (ai (ae 0) (ai (ae 1) aw))) (fq (bV (aM 0) (bV (aM 1) fu))) bY (ar dF (ae 0) (ae 1))) aw)))]
theorem FO:aY ["at","many","told"] ["at","many"] (aL Dm):=cj
abbrev HI(e:Ev):Prop:=DIn e 35 "unit" ["at","many"] vE
theorem Nd(F:FA e "unit" Dm)(J:e.P.given.tree=pi):HI e:=by
 exact bH F FO rfl ∅ (bd2 λ_ _ _ _ _ _ _ _=>rfl) λ_ _ _ _ _ _ _ hr hu U=>#[_,(av (aT (i:=2) FO.nd rfl (r0 rfl) (aW Eo (fj (ah ay au)) (pv 1)))
 (av (mI ay (og (pv 2) (pv 0) set_list))
 (aE (bg (pv 2))))),
  (aD (aN (Ap (ai (ax 0) aw) (ae 1)))
 (aD (kZ (ax 1) (oh (ae 2) (ae 0)))
 (bf (ae 2))))]
theorem zL:aY ["at","many","told"] ["at","many"] (aL Ce):=cj
abbrev BH(e:Ev):Prop:=DIn e 35 "unit" ["at","many"] oq
theorem He(F:FA e "unit" Ce)(J:e.P.given.tree=pi):BH e:=by
 exact bH F zL rfl ∅ (bd2 λ_ _ _ _ _ _ _ _=>rfl) λ_ _ _ _ _ _ _ hr hu U=>#[_,(av (aT (i:=2) zL.nd rfl (r0 rfl) (aW Eo (fj (ah ay au)) (pv 1)))
 (av (mI ay (og (pv 2) (pv 0) set_list))
 (aE (bg (pv 2))))),
  (aD (aN (Ap (ai (ax 0) aw) (ae 1)))
 (aD (kZ (ax 1) (oh (ae 2) (ae 0)))
 (bf (jf (ae 2)))))]
theorem JT:aY ["many"] ["many"] (aL Ak):=cj
abbrev FQ(e:Ev):Prop:=DIn e 36 "units" ["many"] wJ
theorem Kq(F:FA e "units" Ak)(U:e.P.given.tree=pi)(J:N0 e "range")(Y:HI e):FQ e:=by
 exact bH F JT rfl ∅ (bd1 λ_ _ _ _ _ _ _=>rfl) λ_ _ _ _ _ _ _ hr hu ab=>#[_,(aE (bg (cP (own:=["at"]) (cap:=["many"]) (caps:=[0]) rfl (scC #[rfl,r0 rfl,rfl,trivial]) (eO rfl J (ah (pv 0) au)) (λ_ _ _=>(aP (i:=0) (ndL ["at"] ["many"]) rfl (r0 rfl))) (λ_ _ _=>bX) (λ_ _ _=>(aI Y hr (ah (pv 0) (ah (pv 1) au))))))),
  (bf (bZ (m:=1) (caps:=[0]) (gL (ai (ae 0) aw)) (aM 0) bY (gb (n:=2) (f:=vE) (ai (ae 0) (ai (ae 1) aw)))))]
theorem Ft:aY ["many"] ["many"] (aL z6):=cj
abbrev Ab(e:Ev):Prop:=DIn e 36 "units" ["many"] ng
theorem Fv(F:FA e "units" z6)(U:e.P.given.tree=pi)(J:N0 e "range")(Y:BH e):Ab e:=by
 exact bH F Ft rfl ∅ (bd1 λ_ _ _ _ _ _ _=>rfl) λ_ _ _ _ _ _ _ hr hu ab=>#[_,(aE (bg (cP (own:=["at"]) (cap:=["many"]) (caps:=[0]) rfl (scC #[rfl,r0 rfl,rfl,trivial]) (eO rfl J (ah (pv 0) au)) (λ_ _ _=>(aP (i:=0) (ndL ["at"] ["many"]) rfl (r0 rfl))) (λ_ _ _=>bX) (λ_ _ _=>(aI Y hr (ah (pv 0) (ah (pv 1) au))))))),
  (bf (bZ (m:=1) (caps:=[0]) (gL (ai (ae 0) aw)) (aM 0) bY (ba (n:=2) (f:=oq) (ai (ae 0) (ai (ae 1) aw)))))]
theorem Cc:aY ["one","one_value","other","other_value","mixed"] ["one","one_value","other","other_value"] (aL yx):=cj
abbrev D8(e:Ev):Prop:=DIn e 38 "offset" ["one","one_value","other","other_value"] pG
theorem HU(F:FA e "offset" yx)(U:e.P.given.tree=pi)(J:N0 e "zip")(Y:DS e):D8 e:=by
 exact bH F Cc rfl ∅ (bd4 λ_ _ _ _ _ _ _ _ _ _=>rfl) λ_ _ _ _ _ _ _ hr hu ab=>#[_,(av (cS (i:=4) (own:=["number","other_number"]) (cap:=["one_value","other_value"]) (caps:=[1,3]) rfl (scC #[rfl,r0 rfl,rfl,#[rfl,r0 rfl,rfl,trivial]]) (ou rfl J (ah (pv 0) (ah (pv 2) au))) (λ_ _ _=>(gu rfl (bU (aP (i:=0) (ndL ["number","other_number"] ["one_value","other_value"]) rfl (r0 rfl)) (bU (aP (i:=1) (ndL ["number","other_number"] ["one_value","other_value"]) rfl (r0 rfl)) ft)))) (λ_ _ _=>bX) (λ_ _ _=>(aW pJ (aW eH (pv 0) (pv 3)) (aW eH (pv 1) (pv 2)))) Cc.nd rfl (r0 rfl) rfl)
 (aE (bg (aI Y hr (ah (pv 4) au))))),
  (aD (aN (bZ (m:=2) (caps:=[1,3]) (sx (ai (ae 0) (ai (ae 2) aw))) (fq (bV (aM 0) (bV (aM 1) fu))) bY (ar pS (ar dF (ae 0) (ae 3)) (ar dF (ae 1) (ae 2)))))
 (bf (gb (n:=1) (f:=ub) (ai (ae 4) aw))))]
theorem vV:aY ["one","one_value","other","other_value","mixed"] ["one","one_value","other","other_value"] (aL xw):=cj
abbrev rP(e:Ev):Prop:=DIn e 38 "offset" ["one","one_value","other","other_value"] gF
theorem EU(F:FA e "offset" xw)(U:e.P.given.tree=pi)(J:N0 e "zip")(Y:rT e):rP e:=by
 exact bH F vV rfl ∅ (bd4 λ_ _ _ _ _ _ _ _ _ _=>rfl) λ_ _ _ _ _ _ _ hr hu ab=>#[_,(av (cS (i:=4) (own:=["number","other_number"]) (cap:=["one_value","other_value"]) (caps:=[1,3]) rfl (scC #[rfl,r0 rfl,rfl,#[rfl,r0 rfl,rfl,trivial]]) (ou rfl J (ah (pv 0) (ah (pv 2) au))) (λ_ _ _=>(gu rfl (bU (aP (i:=0) (ndL ["number","other_number"] ["one_value","other_value"]) rfl (r0 rfl)) (bU (aP (i:=1) (ndL ["number","other_number"] ["one_value","other_value"]) rfl (r0 rfl)) ft)))) (λ_ _ _=>bX) (λ_ _ _=>(aW pJ (aW eH (pv 0) (pv 3)) (aW eH (pv 1) (pv 2)))) vV.nd rfl (r0 rfl) rfl)
 (aE (bg (aI Y hr (ah (pv 4) au))))),
  (aD (aN (bZ (m:=2) (caps:=[1,3]) (sx (ai (ae 0) (ai (ae 2) aw))) (fq (bV (aM 0) (bV (aM 1) fu))) bY (ar pS (ar dF (ae 0) (ae 3)) (ar dF (ae 1) (ae 2)))))
 (bf (ba (n:=1) (f:=iI) (ai (ae 4) aw))))]
theorem IB:aY ["rows","at"] ["rows","at"] (aL yF):=cj
abbrev yI(e:Ev):Prop:=DIn e 35 "column" ["rows","at"] jc
theorem IH(F:FA e "column" yF)(J:e.P.given.tree=pi):yI e:=by
 exact bH F IB rfl ∅ (bd2 λ_ _ _ _ _ _ _ _=>rfl) λ_ _ _ _ _ _ _ hr hu U=>#[_,(aE (bg (cP (own:=["row"]) (cap:=["at"]) (caps:=[1]) rfl (scC #[rfl,r0 rfl,rfl,trivial]) (bQ (pv 0)) (λ_ _ _=>(aP (i:=0) (ndL ["row"] ["at"]) rfl (r0 rfl))) (λ_ _ _=>bX) (λ_ _ _=>(a9 aS (pv 0) (pv 1) (λ_ _=>rfl)))))),
  (bf (bZ (m:=1) (caps:=[1]) (bR (ae 0)) (aM 0) bY (ar a8 (ae 0) (ae 1))))]
theorem jG:aY ["numbers","at","number"] ["numbers"] (aL jS):=cj
abbrev j2(e:Ev):Prop:=DIn e 35 "first_not_nought" ["numbers"] dw
theorem uN(F:FA e "first_not_nought" jS)(U:e.P.given.tree=pi)(J:N0 e "enumerate"):j2 e:=by
 exact bH F jG rfl ∅ (bd1 λ_ _ _ _ _ _ _=>rfl) λ_ _ _ _ _ _ _ hr hu Y=>#[_,(av (dG PassesOwn.never rfl (sv rfl J (ah (pv 0) au)) (gu rfl (bU (aP (i:=1) jG.nd rfl (r0 rfl)) (bU (aP (i:=2) jG.nd rfl (r0 rfl)) ft)))
 (aE (cf (bo (EH hu) (pv 2) ay bu)
 (aE (bg (pv 1)))
 bA)))
 (aE (bg pH))),
  (aD (dE (ke (ai (ae 0) aw)) (fq (bV (aM 1) (bV (aM 2) fu)))
 (cg (bF (ar zc (ae 2) (ax 0)))
 (bf (ae 1))
 bB))
 (bf qt))]
theorem v8:aY ["row","at"] ["row","at"] (aL kL):=cj
abbrev oU(e:Ev):Prop:=DIn e 35 "with_sign_above" ["row","at"] gr
theorem vd(F:FA e "with_sign_above" kL)(J:e.P.given.tree=pi):oU e:=by
 exact bH F v8 rfl ∅ (bd2 λ_ _ _ _ _ _ _ _=>rfl) λ_ _ _ _ _ _ _ hr hu U=>#[_,(av (cf (bo ik (a9 aS (pv 0) (pv 1) (λ_ _=>rfl)) ay bu)
 (aE (bg (pv 0)))
 bA)
 (aE (bg (cP (own:=["number"]) (cap:=[]) (caps:=[]) rfl (scC trivial) (bQ (pv 0)) (λ_ _ _=>(aP (i:=0) (ndL ["number"] []) rfl (r0 rfl))) (λ_ _ _=>bX) (λ_ _ _=>(ua qj (pv 0))))))),
  (aD (cg (bF (ar ir (ar a8 (ae 0) (ae 1)) (ax 0)))
 (bf (ae 0))
 bB)
 (bf (bZ (m:=1) (caps:=[]) (bR (ae 0)) (aM 0) bY (tq pK (ae 0)))))]
theorem Hh:aY ["row","lead_row","at"] ["row","lead_row","at"] (aL vz):=cj
abbrev Bj(e:Ev):Prop:=DIn e 39 "cleared" ["row","lead_row","at"] iq
theorem G7(F:FA e "cleared" vz)(J:e.P.given.tree=pi)(U:rP e):Bj e:=by
 exact bH F Hh rfl ∅ (bd3 λ_ _ _ _ _ _ _ _ _=>rfl) λ_ _ _ _ _ _ _ hr hu Y=>#[_,(av (cf (bo (fU hu) (a9 aS (pv 0) (pv 2) (λ_ _=>rfl)) ay bu)
 (aE (bg (pv 0)))
 bA)
 (aE (bg (aI U hr (ah (pv 0) (ah (a9 aS (pv 0) (pv 2) (λ_ _=>rfl)) (ah (pv 1) (ah (a9 aS (pv 1) (pv 2) (λ_ _=>rfl)) au)))))))),
  (aD (cg (bF (ar ey (ar a8 (ae 0) (ae 2)) (ax 0)))
 (bf (ae 0))
 bB)
 (bf (ba (n:=4) (f:=gF) (ai (ae 0) (ai (ar a8 (ae 0) (ae 2)) (ai (ae 1) (ai (ar a8 (ae 1) (ae 2)) aw)))))))]
theorem jR:aY ["rows","many","left","done","at","found","lead_row"] ["rows","many"] (aL AU):=cj
abbrev Gd(e:Ev):Prop:=DIn e 40 "plain" ["rows","many"] wN
theorem K6(F:FA e "plain" AU)(Y:e.P.given.tree=pi)(J:N0 e "range")(rf:rT e)(jU:j2 e)(yG:yI e)(wZ:oU e)(U:Bj e):Gd e:=by
 exact bH F jR rfl ∅ (bd2 λ_ _ _ _ _ _ _ _=>rfl) λ_ _ _ _ _ _ _ hr hu an=>#[_,(av (cS (i:=2) (own:=["row"]) (cap:=[]) (caps:=[]) rfl (scC trivial) (bQ (pv 0)) (λ_ _ _=>(aP (i:=0) (ndL ["row"] []) rfl (r0 rfl))) (λ_ _ _=>bX) (λ_ _ _=>(aI rf hr (ah (pv 0) au))) jR.nd rfl (r0 rfl) rfl)
 (av (aT (i:=3) jR.nd rfl (r0 rfl) (fj au))
 (av (dG PassesOwn.never rfl (eO rfl J (ah (pv 1) au)) (aP (i:=4) jR.nd rfl (Rs rfl))
 (av (aT (i:=5) jR.nd rfl (r0 rfl) (aI jU hr (ah (aI yG hr (ah (pv 2) (ah (pv 4) au))) au)))
 (aE (cf (bo GA (pv 5) pH bu)
 (av (aT (i:=6) jR.nd rfl (Rs rfl) (aI wZ hr (ah (lC Gc PySem.F.slot_list_pop PySem.F.type_list_pop LD (pv 2) (ah (pv 5) au)) (ah (pv 4) au))))
 (av (cS (i:=2) (own:=["row"]) (cap:=["at","lead_row"]) (caps:=[4,6]) rfl (scC #[rfl,r0 rfl,rfl,#[rfl,r0 rfl,rfl,trivial]]) (bQ (pv 2)) (λ_ _ _=>(aP (i:=0) (ndL ["row"] ["at","lead_row"]) rfl (r0 rfl))) (λ_ _ _=>bX) (λ_ _ _=>(aI U hr (ah (pv 0) (ah (pv 2) (ah (pv 1) au))))) jR.nd rfl (r0 rfl) rfl)
 (av (cS (i:=3) (own:=["row"]) (cap:=["at","lead_row"]) (caps:=[4,6]) rfl (scC #[rfl,r0 rfl,rfl,#[rfl,r0 rfl,rfl,trivial]]) (bQ (pv 3)) (λ_ _ _=>(aP (i:=0) (ndL ["row"] ["at","lead_row"]) rfl (r0 rfl))) (λ_ _ _=>bX) (λ_ _ _=>(aI U hr (ah (pv 0) (ah (pv 2) (ah (pv 1) au))))) jR.nd rfl (r0 rfl) rfl)
 (aE (dS (lC Gc M2 Mq fY (pv 3) (ah (pv 6) au)))))))
 bA))))
 (aE (bg (pv 3)))))),
  (aD (aN (pW (m:=1) (caps:=[]) (bR (ae 0)) (aM 0) bY (ba (n:=1) (f:=iI) (ai (ae 0) aw))))
 (aD (aN (jC aw))
 (aD (dE (gL (ai (ae 1) aw)) (aM 4)
 (aD (aN (ba (n:=1) (f:=dw) (ai (b8 (n:=2) (f:=jc) (ai (ae 2) (ai (ae 4) aw))) aw)))
 (cg (bF (ar DT (ae 5) qt))
 (aD (aN (ba (n:=2) (f:=gr) (ai (Oo (ae 2) (ae 5)) (ai (ae 4) aw))))
 (aD (aN (pW (m:=1) (caps:=[4,6]) (bR (ae 2)) (aM 0) bY (ba (n:=3) (f:=iq) (ai (ae 0) (ai (ae 2) (ai (ae 1) aw))))))
 (aD (aN (pW (m:=1) (caps:=[4,6]) (bR (ae 3)) (aM 0) bY (ba (n:=3) (f:=iq) (ai (ae 0) (ai (ae 2) (ai (ae 1) aw))))))
 (dU (kQ (ae 3) (ae 6))))))
 bB)))
 (bf (jf (ae 3))))))]
theorem fe:aY ["lists","row","values","found","base","base_value"] ["lists","row"] (aL jD):=cj
abbrev nj(e:Ev):Prop:=DIn e 39 "still_by_one_more" ["lists","row"] fB
theorem tS(F:FA e "still_by_one_more" jD)(U:e.P.given.tree=pi)(J:N0 e "enumerate")(Y:gv e)(jU:j2 e)(rY:rP e):nj e:=by
 exact bH F fe rfl ∅ (bd2 λ_ _ _ _ _ _ _ _=>rfl) λ_ _ _ _ _ _ _ hr hu al=>#[_,(av (aT (i:=2) fe.nd rfl (Rs rfl) (cP (own:=["one"]) (cap:=["row"]) (caps:=[1]) rfl (scC #[rfl,r0 rfl,rfl,trivial]) (bQ (pv 0)) (λ_ _ _=>(aP (i:=0) (ndL ["one"] ["row"]) rfl (r0 rfl))) (λ_ _ _=>bX) (λ_ _ _=>(aI Y hr (ah (pv 1) (ah (pv 0) au))))))
 (av (aT (i:=3) fe.nd rfl (Rs rfl) (aI jU hr (ah (pv 2) au)))
 (av (cf (bo Qo (pv 3) pH bu)
 (aE (bg (pv 0)))
 bA)
 (av (aT (i:=4) fe.nd rfl (Rs rfl) (a9 aS (pv 0) (pv 3) (λ_ _=>rfl)))
 (av (aT (i:=5) fe.nd rfl (Rs rfl) (a9 aS (pv 2) (pv 3) (λ_ _=>rfl)))
 (aE (bg (cP (own:=["at","one"]) (cap:=["base","base_value","found","values"]) (caps:=[4,5,3,2]) rfl (scC #[rfl,r0 rfl,rfl,#[rfl,r0 rfl,rfl,#[rfl,r0 rfl,rfl,#[rfl,r0 rfl,rfl,trivial]]]]) (sv rfl J (ah (pv 0) au)) (λ_ _ _=>(gu rfl (bU (aP (i:=0) (ndL ["at","one"] ["base","base_value","found","values"]) rfl (r0 rfl)) (bU (aP (i:=1) (ndL ["at","one"] ["base","base_value","found","values"]) rfl (r0 rfl)) ft)))) (λ_ _ _=>(nr (bo (EH hu) (pv 0) (pv 4) bu))) (λ_ _ _=>(aI rY hr (ah (pv 1) (ah (a9 aS (pv 5) (pv 0) (λ_ _=>rfl)) (ah (pv 2) (ah (pv 3) au)))))))))))))),
  (aD (aN (bZ (m:=1) (caps:=[1]) (bR (ae 0)) (aM 0) bY (ba (n:=2) (f:=bP) (ai (ae 1) (ai (ae 0) aw)))))
 (aD (aN (ba (n:=1) (f:=dw) (ai (ae 2) aw)))
 (aD (cg (bF (ar Po (ae 3) qt))
 (bf (ae 0))
 bB)
 (aD (aN (ar a8 (ae 0) (ae 3)))
 (aD (aN (ar a8 (ae 2) (ae 3)))
 (bf (bZ (m:=2) (caps:=[4,5,3,2]) (ke (ai (ae 0) aw)) (fq (bV (aM 0) (bV (aM 1) fu))) (bF (ar zc (ae 0) (ae 4))) (ba (n:=4) (f:=gF) (ai (ae 1) (ai (ar a8 (ae 5) (ae 0)) (ai (ae 2) (ai (ae 3) aw))))))))))))]
theorem ux:aY ["rows","many","lists","row"] ["rows","many"] (aL Ax):=cj
abbrev A7(e:Ev):Prop:=DIn e 41 "still" ["rows","many"] jr
theorem JR(F:FA e "still" Ax)(J:e.P.given.tree=pi)(U:Ab e)(Y:nj e)(Nj:Gd e):A7 e:=by
 exact bH F ux rfl ∅ (bd2 λ_ _ _ _ _ _ _ _=>rfl) λ_ _ _ _ _ _ _ hr hu ac=>#[_,(av (aT (i:=2) ux.nd rfl (r0 rfl) (aI U hr (ah (pv 1) au)))
 (av (dG PassesOwn.never rfl (bQ (pv 0)) (aP (i:=3) ux.nd rfl (r0 rfl))
 (aE (aT (i:=2) ux.nd rfl (r0 rfl) (aI Y hr (ah (pv 2) (ah (pv 3) au))))))
 (aE (bg (aI Nj hr (ah (pv 2) (ah (pv 1) au))))))),
  (aD (aN (ba (n:=1) (f:=ng) (ai (ae 1) aw)))
 (aD (dE (bR (ae 0)) (aM 3)
 (aN (ba (n:=2) (f:=fB) (ai (ae 2) (ai (ae 3) aw)))))
 (bf (ba (n:=2) (f:=wN) (ai (ae 2) (ai (ae 1) aw))))))]
theorem uw:aY ["rows","goal","across","found"] ["rows","goal"] (aL vM):=cj
abbrev Br(e:Ev):Prop:=DIn e 42 "made_of" ["rows","goal"] oj
theorem Hv(F:FA e "made_of" vM)(Y:e.P.given.tree=pi)(J:N0 e "len")(U:N0 e "range")(yG:yI e)(AV:A7 e):Br e:=by
 exact bH F uw rfl ∅ (bd2 λ_ _ _ _ _ _ _ _=>rfl) λ_ _ _ _ _ _ _ hr hu al=>#[_,(av (cS (i:=2) (own:=["at"]) (cap:=["goal","rows"]) (caps:=[1,0]) rfl (scC #[rfl,r0 rfl,rfl,#[rfl,r0 rfl,rfl,trivial]]) (eO rfl U (ah (bK cG rfl J Boot.«len» (ah (pv 1) au)) au)) (λ_ _ _=>(aP (i:=0) (ndL ["at"] ["goal","rows"]) rfl (r0 rfl))) (λ_ _ _=>bX) (λ_ _ _=>(aI yG hr (ah (aW dA (fj (ah (pv 1) au)) (pv 2)) (ah (pv 0) au)))) uw.nd rfl (r0 rfl) rfl)
 (av (aT (i:=3) uw.nd rfl (r0 rfl) (aI AV hr (ah (pv 2) (ah (aW dA ay (bK cG rfl J Boot.«len» (ah (pv 0) au))) au))))
 (av (cf (PW.pt (pw_or (kh (D5 (pv 3) (λ_=>rfl))) (pw_or1 (bo (fU hu) (a9 aS (a9 aS (pv 3) ay (λ_ _=>rfl)) ay (λ_ _=>rfl)) ay bu))))
 (aE (bg pH))
 bA)
 (aE (bg (jW (ah (a9 aS (a9 aS (pv 3) ay (λ_ _=>rfl)) ay (λ_ _=>rfl)) (ah (cP (own:=["number"]) (cap:=[]) (caps:=[]) rfl (scC trivial) (bQ (gS lZ (a9 aS (pv 3) ay (λ_ _=>rfl)) (hU ay) jA)) (λ_ _ _=>(aP (i:=0) (ndL ["number"] []) rfl (r0 rfl))) (λ_ _ _=>bX) (λ_ _ _=>(ua qj (pv 0)))) au)))))))),
  (aD (aN (bZ (m:=1) (caps:=[1,0]) (gL (ai (bG dt (ai (ae 1) aw)) aw)) (aM 0) bY (b8 (n:=2) (f:=jc) (ai (ar cV (sM (ai (ae 1) aw)) (ae 2)) (ai (ae 0) aw)))))
 (aD (aN (ba (n:=2) (f:=jr) (ai (ae 2) (ai (ar cV (ax 1) (bG dt (ai (ae 0) aw))) aw))))
 (aD (cg (qT (kg (JL (ae 3))) (bF (ar ey (ar a8 (ar a8 (ae 3) (ax 0)) (ax 0)) (ax 0))))
 (bf qt)
 bB)
 (bf (j4 (ai (ar a8 (ar a8 (ae 3) (ax 0)) (ax 0)) (ai (bZ (m:=1) (caps:=[]) (bR (uq (ar a8 (ae 3) (ax 0)) (ic (ax 1)) gG)) (aM 0) bY (tq pK (ae 0))) aw)))))))]
theorem kb:aY ["numbers","bits","number"] ["numbers"] (aL rW):=cj
abbrev xH(e:Ev):Prop:=DIn e 35 "places_of" ["numbers"] k4
theorem C3(F:FA e "places_of" rW)(J:e.P.given.tree=pi):xH e:=by
 exact bH F kb rfl ∅ (bd1 λ_ _ _ _ _ _ _=>rfl) λ_ _ _ _ _ _ _ hr hu U=>#[_,(av (aT (i:=1) kb.nd rfl (r0 rfl) ay)
 (av (dG PassesOwn.never rfl (bQ (pv 0)) (aP (i:=2) kb.nd rfl (r0 rfl))
 (av (aT (i:=1) kb.nd rfl (r0 rfl) (aW eH (pv 1) ay))
 (aE (cf (bo ik (pv 2) ay bu)
 (aE (aT (i:=1) kb.nd rfl (r0 rfl) (aW dA (pv 1) ay)))
 bA))))
 (aE (bg (pv 1))))),
  (aD (aN (ax 0))
 (aD (dE (bR (ae 0)) (aM 2)
 (aD (aN (ar dF (ae 1) (ax 2)))
 (cg (bF (ar ir (ae 2) (ax 0)))
 (aN (ar cV (ae 1) (ax 1)))
 bB)))
 (bf (ae 1))))]
theorem Fi:aY ["places","others"] ["places","others"] (aL sW):=cj
abbrev zO(e:Ev):Prop:=DIn e 35 "is_among" ["places","others"] mX
theorem Fm(F:FA e "is_among" sW)(J:e.P.given.tree=pi):zO e:=by
 exact bH F Fi rfl ∅ (bd2 λ_ _ _ _ _ _ _ _=>rfl) λ_ _ _ _ _ _ _ hr hu U=>#[_,(aE (bg (ju (fU hu) (aW L1 (pv 0) (pv 1)) (pv 1) bu))),
  (bf (ar ey (ar Iu (ae 0) (ae 1)) (ae 1)))]
theorem oV:aY ["one","other","all_places","both"] ["one","other","all_places"] (aL lQ):=cj
abbrev qx(e:Ev):Prop:=DIn e 36 "are_neighbours" ["one","other","all_places"] gX
theorem w9(F:FA e "are_neighbours" lQ)(U:e.P.given.tree=pi)(J:N0 e "len")(Y:zO e):qx e:=by
 exact bH F oV rfl ∅ (bd3 λ_ _ _ _ _ _ _ _ _=>rfl) λ_ _ _ _ _ _ _ hr hu ab=>#[_,(av (aT (i:=3) oV.nd rfl (Rs rfl) (aW L1 (pv 0) (pv 1)))
 (aE (bg (ju (fU hu) (bK cG rfl J Boot.«len» (ah (cP (own:=["places"]) (cap:=["both"]) (caps:=[3]) rfl (scC #[rfl,r0 rfl,rfl,trivial]) (bQ (pv 2)) (λ_ _ _=>(aP (i:=0) (ndL ["places"] ["both"]) rfl (r0 rfl))) (λ_ _ _=>(nr (jn (aI Y hr (ah (pv 0) (ah (pv 1) au)))))) (λ_ _ _=>(pv 0))) au)) ay bu)))),
  (aD (aN (ar Iu (ae 0) (ae 1)))
 (bf (ar ey (bG dt (ai (bZ (m:=1) (caps:=[3]) (bR (ae 2)) (aM 0) (k9 (ba (n:=2) (f:=mX) (ai (ae 0) (ai (ae 1) aw)))) (ae 0)) aw)) (ax 2))))]
theorem dj:aY ["lists","row","values","places","told","above","below","high","low"] ["lists","row"] (aL j1):=cj
abbrev oi(e:Ev):Prop:=DIn e 39 "lone_by_one_more" ["lists","row"] iu
theorem uO(F:FA e "lone_by_one_more" j1)(Y:e.P.given.tree=pi)(U:N0 e "zip")(J:N0 e "enumerate")(d8:gv e)(Fc:xH e)(yc:qx e)(Kr:D8 e):oi e:=by
 exact bH F dj rfl ∅ (bd2 λ_ _ _ _ _ _ _ _=>rfl) λ_ _ _ _ _ _ _ hr hu an=>#[_,(av (cS (i:=2) (own:=["one"]) (cap:=["row"]) (caps:=[1]) rfl (scC #[rfl,r0 rfl,rfl,trivial]) (bQ (pv 0)) (λ_ _ _=>(aP (i:=0) (ndL ["one"] ["row"]) rfl (r0 rfl))) (λ_ _ _=>bX) (λ_ _ _=>(aI d8 hr (ah (pv 1) (ah (pv 0) au)))) dj.nd rfl (r0 rfl) rfl)
 (av (cS (i:=3) (own:=["one"]) (cap:=[]) (caps:=[]) rfl (scC trivial) (bQ (pv 0)) (λ_ _ _=>(aP (i:=0) (ndL ["one"] []) rfl (r0 rfl))) (λ_ _ _=>bX) (λ_ _ _=>(aI Fc hr (ah (pv 0) au))) dj.nd rfl (r0 rfl) rfl)
 (av (cS (i:=4) (own:=["one","value"]) (cap:=[]) (caps:=[]) rfl (scC trivial) (ou rfl U (ah (pv 0) (ah (pv 2) au))) (λ_ _ _=>(gu rfl (bU (aP (i:=0) (ndL ["one","value"] []) rfl (r0 rfl)) (bU (aP (i:=1) (ndL ["one","value"] []) rfl (r0 rfl)) ft)))) (λ_ _ _=>(nr (bo (fU hu) (pv 1) ay bu))) (λ_ _ _=>(pv 0)) dj.nd rfl (r0 rfl) rfl)
 (av (cS (i:=5) (own:=["at","value"]) (cap:=[]) (caps:=[]) rfl (scC trivial) (sv rfl J (ah (pv 2) au)) (λ_ _ _=>(gu rfl (bU (aP (i:=0) (ndL ["at","value"] []) rfl (r0 rfl)) (bU (aP (i:=1) (ndL ["at","value"] []) rfl (r0 rfl)) ft)))) (λ_ _ _=>(nr (bo ik (pv 1) ay bu))) (λ_ _ _=>(pv 0)) dj.nd rfl (r0 rfl) rfl)
 (av (cS (i:=6) (own:=["at","value"]) (cap:=[]) (caps:=[]) rfl (scC trivial) (sv rfl J (ah (pv 2) au)) (λ_ _ _=>(gu rfl (bU (aP (i:=0) (ndL ["at","value"] []) rfl (r0 rfl)) (bU (aP (i:=1) (ndL ["at","value"] []) rfl (r0 rfl)) ft)))) (λ_ _ _=>(nr (bo nN (pv 1) ay bu))) (λ_ _ _=>(pv 0)) dj.nd rfl (r0 rfl) rfl)
 (av (dG PassesOwn.never rfl (bQ (pv 5)) (aP (i:=7) dj.nd rfl (r0 rfl))
 (aE (dG PassesOwn.never rfl (bQ (pv 6)) (aP (i:=8) dj.nd rfl (r0 rfl))
 (aE (cf (jn (aI yc hr (ah (a9 aS (pv 3) (pv 7) (λ_ _=>rfl)) (ah (a9 aS (pv 3) (pv 8) (λ_ _=>rfl)) (ah (pv 3) au)))))
 (aE (dS (lC Gc M2 Mq fY (pv 4) (ah (aI Kr hr (ah (a9 aS (pv 0) (pv 8) (λ_ _=>rfl)) (ah (a9 aS (pv 2) (pv 8) (λ_ _=>rfl)) (ah (a9 aS (pv 0) (pv 7) (λ_ _=>rfl)) (ah (a9 aS (pv 2) (pv 7) (λ_ _=>rfl)) au))))) au))))
 bA)))))
 (aE (bg (pv 4))))))))),
  (aD (aN (bZ (m:=1) (caps:=[1]) (bR (ae 0)) (aM 0) bY (tY (n:=2) (f:=bP) (ai (ae 1) (ai (ae 0) aw)))))
 (aD (aN (bZ (m:=1) (caps:=[]) (bR (ae 0)) (aM 0) bY (tY (n:=1) (f:=k4) (ai (ae 0) aw))))
 (aD (aN (pW (m:=2) (caps:=[]) (sx (ai (ae 0) (ai (ae 2) aw))) (fq (bV (aM 0) (bV (aM 1) fu))) (bF (ar ey (ae 1) (ax 0))) (ae 0)))
 (aD (aN (bZ (m:=2) (caps:=[]) (ke (ai (ae 2) aw)) (fq (bV (aM 0) (bV (aM 1) fu))) (bF (ar ir (ae 1) (ax 0))) (ae 0)))
 (aD (aN (bZ (m:=2) (caps:=[]) (ke (ai (ae 2) aw)) (fq (bV (aM 0) (bV (aM 1) fu))) (bF (ar nR (ae 1) (ax 0))) (ae 0)))
 (aD (dE (bR (ae 5)) (aM 7)
 (dE (bR (ae 6)) (aM 8)
 (cg (k9 (ba (n:=3) (f:=gX) (ai (ar a8 (ae 3) (ae 7)) (ai (ar a8 (ae 3) (ae 8)) (ai (ae 3) aw)))))
 (dU (kQ (ae 4) (Lu (n:=4) (f:=pG) (ai (ar a8 (ae 0) (ae 8)) (ai (ar a8 (ae 2) (ae 8)) (ai (ar a8 (ae 0) (ae 7)) (ai (ar a8 (ae 2) (ae 7)) aw)))))))
 bB)))
 (bf (jf (ae 4)))))))))]
theorem wq:aY ["rows","many","lists","row"] ["rows","many"] (aL DO):=cj
abbrev ER(e:Ev):Prop:=DIn e 40 "lone" ["rows","many"] mH
theorem Mp(F:FA e "lone" DO)(U:e.P.given.tree=pi)(J:N0 e "sorted")(Y:FQ e)(va:oi e):ER e:=by
 exact bH F wq rfl ∅ (bd2 λ_ _ _ _ _ _ _ _=>rfl) λ_ _ _ _ _ _ _ hr hu ac=>#[_,(av (aT (i:=2) wq.nd rfl (r0 rfl) (aI Y hr (ah (pv 1) au)))
 (av (dG PassesOwn.never rfl (bQ (pv 0)) (aP (i:=3) wq.nd rfl (r0 rfl))
 (aE (aT (i:=2) wq.nd rfl (r0 rfl) (aI va hr (ah (pv 2) (ah (pv 3) au))))))
 (aE (bg (bK (DV hu) rfl J Boot.«sorted» (ah (pv 2) au)))))),
  (aD (aN (b8 (n:=1) (f:=wJ) (ai (ae 1) aw)))
 (aD (dE (bR (ae 0)) (aM 3)
 (aN (b8 (n:=2) (f:=iu) (ai (ae 2) (ai (ae 3) aw)))))
 (bf (KN (ae 2)))))]
theorem Fe:aY ["self","at"] ["self","at"] (aL ky):=cj
abbrev zF(e:Ev):Prop:=MethAt e.P e.w e.K e.mg e.base e.ca 35 (e.ca 0) "row" ["self","at"] mS
theorem Ff{a:qh}(F:Fun e.K "row" "Yard.row" ky a fd)(hm:Meth e.K (e.ca 0) "row" a)(Y:e.P.given.tree=pi)(U:Cls e.K (e.ca 0))(J:fD e.K (e.ca 0) "held_changes"):zF e:=by
 refine#[a,fd,m9 F Fe rfl λab A outer s H E hr=> ?_,hm,F.binds λ_ _ _ _ _ _ us hl=>match us,hl with | [_,_],_=>rfl];have hu:=hr.units;have al:=ph hr ∅;exact#[_,(aE (bg (cP (own:=["change"]) (cap:=["at"]) (caps:=[1]) rfl (scC #[rfl,r0 rfl,rfl,trivial]) (bQ (zG (pv 0) rfl)) (λ_ _ _=>(aP (i:=0) (ndL ["change"] ["at"]) rfl (r0 rfl))) (λ_ _ _=>bX) (λ_ _ _=>(a9 aS (pv 0) (pv 1) (λ_ _=>rfl)))))),
  (bf (bZ (m:=1) (caps:=[1]) (bR (zV (c:=0) (f:="held_changes") U J (ae 0))) (aM 0) bY (ar a8 (ae 0) (ae 1))))]
theorem EW:aY ["self"] ["self"] (aL jv):=cj
abbrev nW(e:Ev):Prop:=MethAt e.P e.w e.K e.mg e.base e.ca 36 (e.ca 0) "rows" ["self"] eG
theorem DP{a:qh}(F:Fun e.K "rows" "Yard.rows" jv a fd)(hm:Meth e.K (e.ca 0) "rows" a)(as:e.P.given.tree=pi)(ap:N0 e "len")(al:N0 e "range")(U:Cls e.K (e.ca 0))(J:fD e.K (e.ca 0) "held_goods")(Y:zF e):nW e:=by
 obtain⟨an,am,ab,mG,ac⟩:=Y;refine#[a,fd,m9 F EW rfl λaz A outer s H E hr=> ?_,hm,F.binds λ_ _ _ _ _ _ us hl=>match us,hl with | [_],_=>rfl];have hu:=hr.units;have a1:=ph hr ∅;exact#[_,(aE (bg (cP (own:=["at"]) (cap:=["self"]) (caps:=[0]) rfl (scC #[rfl,r0 rfl,rfl,trivial]) (eO rfl al (ah (bK cG rfl ap Boot.«len» (ah (zG (pv 0) rfl) au)) au)) (λ_ _ _=>(aP (i:=0) (ndL ["at"] ["self"]) rfl (r0 rfl))) (λ_ _ _=>bX) (λ_ _ _=>(wj (pv 1) U mG ab (hr.mono ∅) ac .nil lj (ah (pv 0) au)))))),
  (bf (bZ (m:=1) (caps:=[0]) (gL (ai (bG dt (ai (zV (c:=0) (f:="held_goods") U J (ae 0)) aw)) aw)) (aM 0) bY (iK (c:=0) (m:="row") (n:=1) (f:=mS) (ae 1) (ai (ae 0) aw))))]
theorem CH:aY ["self"] ["self"] (aL iW):=cj
abbrev mZ(e:Ev):Prop:=MethAt e.P e.w e.K e.mg e.base e.ca 35 (e.ca 0) "names" ["self"] eZ
theorem CI{a:qh}(F:Fun e.K "names" "Yard.names" iW a fd)(hm:Meth e.K (e.ca 0) "names" a)(Y:e.P.given.tree=pi)(U:Cls e.K (e.ca 0))(J:fD e.K (e.ca 0) "held_works"):mZ e:=by
 refine#[a,fd,m9 F CH rfl λab A outer s H E hr=> ?_,hm,F.binds λ_ _ _ _ _ _ us hl=>match us,hl with | [_],_=>rfl];have hu:=hr.units;have al:=ph hr ∅;exact#[_,(aE (bg (cP (own:=["work"]) (cap:=[]) (caps:=[]) rfl (scC trivial) (bQ (zG (pv 0) rfl)) (λ_ _ _=>(aP (i:=0) (ndL ["work"] []) rfl (r0 rfl))) (λ_ _ _=>bX) (λ_ _ _=>(a9 aS (pv 0) ay (λ_ _=>rfl)))))),
  (bf (bZ (m:=1) (caps:=[]) (bR (zV (c:=0) (f:="held_works") U J (ae 0))) (aM 0) bY (ar a8 (ae 0) (ax 0))))]
theorem MX:aY ["yard"] ["yard"] (aL Dr):=cj
abbrev EC(e:Ev):Prop:=DIn e 41 "ways" ["yard"] mQ
theorem Mn(F:FA e "ways" Dr)(a1:e.P.given.tree=pi)(a0:N0 e "len")(am:Cls e.K (e.ca 0))(CY:ER e)(ab:nW e)(J:mZ e):EC e:=by
 obtain⟨az,ap,ac,fQ,al⟩:=ab;obtain⟨as,an,U,fo,Y⟩:=J;exact bH F MX rfl ∅ (bd1 λ_ _ _ _ _ _ _=>rfl) λ_ _ _ _ _ _ _ hr hu a3=>#[_,(aE (bg (aI CY hr (ah (nK (pv 0) am fQ ac (hr.mono ∅) al .nil lj) (ah (bK cG rfl a0 Boot.«len» (ah (nK (pv 0) am fo U (hr.mono ∅) Y .nil lj) au)) au))))),
  (bf (gb (n:=2) (f:=mH) (ai (iK (c:=0) (m:="rows") (n:=0) (f:=eG) (ae 0) aw) (ai (bG dt (ai (iK (c:=0) (m:="names") (n:=0) (f:=eZ) (ae 0) aw) aw)) aw))))]
theorem xy:aY ["yard","name","names"] ["yard","name"] (aL t7):=cj
abbrev yX(e:Ev):Prop:=DIn e 36 "place_of" ["yard","name"] fS
theorem E4(F:FA e "place_of" t7)(am:e.P.given.tree=pi)(ab:Cls e.K (e.ca 0))(J:mZ e):yX e:=by
 obtain⟨al,ac,U,fo,Y⟩:=J;exact bH F xy rfl ∅ (bd2 λ_ _ _ _ _ _ _ _=>rfl) λ_ _ _ _ _ _ _ hr hu an=>#[_,(av (aT (i:=2) xy.nd rfl (r0 rfl) (nK (pv 0) ab fo U (hr.mono ∅) Y .nil lj))
 (av (cf (bo p7 (pv 1) (pv 2) (by with_unfolding_all rfl))
 (aE gj)
 bA)
 (aE (bg (lC Gc PySem.F.slot_list_index PySem.F.type_list_index Lh (pv 2) (ah (pv 1) au)))))),
  (aD (aN (iK (c:=0) (m:="names") (n:=0) (f:=eZ) (ae 0) aw))
 (aD (cg (bF (ar yn (ae 1) (ae 2)))
 gc
 bB)
 (bf (J1 (ae 2) (ae 1)))))]
theorem uE:aY ["lists","at","one"] ["lists","at"] (aL pF):=cj
abbrev uW(e:Ev):Prop:=DIn e 35 "first_with" ["lists","at"] ka
theorem Cy(F:FA e "first_with" pF)(J:e.P.given.tree=pi):uW e:=by
 exact bH F uE rfl ∅ (bd2 λ_ _ _ _ _ _ _ _=>rfl) λ_ _ _ _ _ _ _ hr hu U=>#[_,(av (dG PassesOwn.never rfl (bQ (pv 0)) (aP (i:=2) uE.nd rfl (r0 rfl))
 (aE (cf (bo ik (a9 aS (pv 2) (pv 1) (λ_ _=>rfl)) ay bu)
 (aE (bg (pv 2)))
 bA)))
 (aE (bg pH))),
  (aD (dE (bR (ae 0)) (aM 2)
 (cg (bF (ar ir (ar a8 (ae 2) (ae 1)) (ax 0)))
 (bf (ae 2))
 bB))
 (bf qt))]
theorem eJ:aY ["yard","demands","rows","many","wanted","found","goal","made"] ["yard","demands"] (aL mF):=cj
abbrev qG(e:Ev):Prop:=DIn e 43 "weights_above" ["yard","demands"] f7
theorem yH(F:FA e "weights_above" mF)(ap:e.P.given.tree=pi)(am:N0 e "len")(an:N0 e "zip")(ab:Cls e.K (e.ca 0))(J:nW e)(AV:A7 e)(d8:gv e)(Dt:uW e)(CY:ER e)(Ie:Br e):qG e:=by
 obtain⟨al,ac,U,fQ,Y⟩:=J;exact bH F eJ rfl ∅ (bd2 λ_ _ _ _ _ _ _ _=>rfl) λ_ _ _ _ _ _ _ hr hu a3=>#[_,(av (aT (i:=2) eJ.nd rfl (r0 rfl) (nK (pv 0) ab fQ U (hr.mono ∅) Y .nil lj))
 (av (aT (i:=3) eJ.nd rfl (Rs rfl) (bK cG rfl am Boot.«len» (ah (pv 1) au)))
 (av (cS (i:=4) (own:=["row"]) (cap:=["demands"]) (caps:=[1]) rfl (scC #[rfl,r0 rfl,rfl,trivial]) (bQ (aI AV hr (ah (pv 2) (ah (pv 3) au)))) (λ_ _ _=>(aP (i:=0) (ndL ["row"] ["demands"]) rfl (r0 rfl))) (λ_ _ _=>bX) (λ_ _ _=>(aW dA (pv 0) (fj (ah (aI d8 hr (ah (pv 0) (ah (pv 1) au))) au)))) eJ.nd rfl (r0 rfl) rfl)
 (av (aT (i:=5) eJ.nd rfl (Rs rfl) (aI Dt hr (ah (aI CY hr (ah (pv 4) (ah (aW dA (pv 3) ay) au))) (ah (pv 3) au))))
 (av (cS (i:=6) (own:=["spare","demand"]) (cap:=["found","many"]) (caps:=[5,3]) rfl (scC #[rfl,r0 rfl,rfl,#[rfl,r0 rfl,rfl,trivial]]) (ou rfl an (ah (pv 5) (ah (pv 1) au))) (λ_ _ _=>(gu rfl (bU (aP (i:=0) (ndL ["spare","demand"] ["found","many"]) rfl (r0 rfl)) (bU (aP (i:=1) (ndL ["spare","demand"] ["found","many"]) rfl (r0 rfl)) ft)))) (λ_ _ _=>bX) (λ_ _ _=>(aW dA (pv 0) (aW eH (a9 aS (pv 2) (pv 3) (λ_ _=>rfl)) (pv 1)))) eJ.nd rfl (r0 rfl) rfl)
 (av (aT (i:=7) eJ.nd rfl (r0 rfl) (aI Ie hr (ah (pv 2) (ah (pv 6) au))))
 (aE (bg (jW (ah (aW eH (a9 aS (pv 7) ay (λ_ _=>rfl)) (a9 aS (pv 5) (pv 3) (λ_ _=>rfl))) (ah (a9 aS (pv 7) ay (λ_ _=>rfl)) au))))))))))),
  (aD (aN (iK (c:=0) (m:="rows") (n:=0) (f:=eG) (ae 0) aw))
 (aD (aN (bG dt (ai (ae 1) aw)))
 (aD (aN (bZ (m:=1) (caps:=[1]) (bR (ba (n:=2) (f:=jr) (ai (ae 2) (ai (ae 3) aw)))) (aM 0) bY (ar cV (ae 0) (sM (ai (ba (n:=2) (f:=bP) (ai (ae 0) (ai (ae 1) aw))) aw)))))
 (aD (aN (b8 (n:=2) (f:=ka) (ai (jf (gb (n:=2) (f:=mH) (ai (ae 4) (ai (ar cV (ae 3) (ax 1)) aw)))) (ai (ae 3) aw))))
 (aD (aN (Bi (m:=2) (caps:=[5,3]) (Gz (ai (ae 5) (ai (ae 1) aw))) (fq (bV (aM 0) (bV (aM 1) fu))) bY (ar cV (ae 0) (ar dF (ar a8 (ae 2) (ae 3)) (ae 1)))))
 (aD (aN (ba (n:=2) (f:=oj) (ai (ae 2) (ai (ae 6) aw))))
 (bf (j4 (ai (ar dF (ar a8 (ae 7) (ax 0)) (ar a8 (ae 5) (ae 3))) (ai (ar a8 (ae 7) (ax 1)) aw))))))))))]
theorem oW:aY ["many","first","first_demand","second","second_demand","told"] ["many","first","first_demand","second","second_demand"] (aL lP):=cj
abbrev pX(e:Ev):Prop:=DIn e 35 "demands_of_two" ["many","first","first_demand","second","second_demand"] fH
theorem xf(F:FA e "demands_of_two" lP)(J:e.P.given.tree=pi):pX e:=by
 exact bH F oW rfl ∅ (bd5 λ_ _ _ _ _ _ _ _ _ _ _=>rfl) λ_ _ _ _ _ _ _ hr hu U=>#[_,(av (aT (i:=5) oW.nd rfl (r0 rfl) (aW Eo (fj (ah ay au)) (pv 0)))
 (av (mI (aW dA (a9 aS (pv 5) (pv 1) (λ_ _=>rfl)) (pv 2)) (og (pv 5) (pv 1) set_list))
 (av (mI (aW dA (a9 aS (pv 5) (pv 3) (λ_ _=>rfl)) (pv 4)) (og (pv 5) (pv 3) set_list))
 (aE (bg (pv 5)))))),
  (aD (aN (Ap (ai (ax 0) aw) (ae 0)))
 (aD (kZ (ar cV (ar a8 (ae 5) (ae 1)) (ae 2)) (oh (ae 5) (ae 1)))
 (aD (kZ (ar cV (ar a8 (ae 5) (ae 3)) (ae 4)) (oh (ae 5) (ae 3)))
 (bf (jf (ae 5))))))]
theorem sE:aY ["found","first","second","way"] ["found","first","second"] (aL oQ):=cj
abbrev uL(e:Ev):Prop:=DIn e 35 "way_without" ["found","first","second"] jg
theorem Ao(F:FA e "way_without" oQ)(J:e.P.given.tree=pi):uL e:=by
 exact bH F sE rfl ∅ (bd3 λ_ _ _ _ _ _ _ _ _=>rfl) λ_ _ _ _ _ _ _ hr hu U=>#[_,(av (dG PassesOwn.never rfl (bQ (pv 0)) (aP (i:=3) sE.nd rfl (r0 rfl))
 (aE (cf (PW.pt (pw_and (bo ik (a9 aS (pv 3) (pv 1) (λ_ _=>rfl)) ay bu) (pw_and1 (bo (fU hu) (a9 aS (pv 3) (pv 2) (λ_ _=>rfl)) ay bu))))
 (aE (bg (pv 3)))
 bA)))
 (aE (bg pH))),
  (aD (dE (bR (ae 0)) (aM 3)
 (cg (Dv (bF (ar ir (ar a8 (ae 3) (ae 1)) (ax 0))) (bF (ar ey (ar a8 (ae 3) (ae 2)) (ax 0))))
 (bf (ae 3))
 bB))
 (bf qt))]
theorem i8:aY ["found","first","second","best","way"] ["found","first","second"] (aL ni):=cj
abbrev qJ(e:Ev):Prop:=DIn e 35 "way_with_most" ["found","first","second"] jL
theorem xU(F:FA e "way_with_most" ni)(J:e.P.given.tree=pi):qJ e:=by
 exact bH F i8 rfl ∅ (bd3 λ_ _ _ _ _ _ _ _ _=>rfl) λ_ _ _ _ _ _ _ hr hu U=>#[_,(av (aT (i:=3) i8.nd rfl (r0 rfl) (a9 aS (pv 0) ay (λ_ _=>rfl)))
 (av (dG PassesOwn.never rfl (bQ (pv 0)) (aP (i:=4) i8.nd rfl (r0 rfl))
 (aE (cf (bo ik (aW eH (a9 aS (pv 4) (pv 1) (λ_ _=>rfl)) (a9 aS (pv 3) (pv 2) (λ_ _=>rfl))) (aW eH (a9 aS (pv 3) (pv 1) (λ_ _=>rfl)) (a9 aS (pv 4) (pv 2) (λ_ _=>rfl))) bu)
 (aE (aT (i:=3) i8.nd rfl (r0 rfl) (pv 4)))
 bA)))
 (aE (bg (pv 3))))),
  (aD (aN (ar a8 (ae 0) (ax 0)))
 (aD (dE (bR (ae 0)) (aM 4)
 (cg (bF (ar ir (ar dF (ar a8 (ae 4) (ae 1)) (ar a8 (ae 3) (ae 2))) (ar dF (ar a8 (ae 3) (ae 1)) (ar a8 (ae 4) (ae 2)))))
 (aN (ae 4))
 bB))
 (bf (ae 3))))]
theorem iO:aY ["yard","one","other","first","second","found","many","free","with_other","told","best","often"] ["yard","one","other"] (aL DK):=cj
abbrev IS(e:Ev):Prop:=DIn e 44 "most" ["yard","one","other"] p6
theorem Nl(F:FA e "most" DK)(az:e.P.given.tree=pi)(am:N0 e "len")(ab:Cls e.K (e.ca 0))(zE:yX e)(EN:EC e)(J:mZ e)(CA:uL e)(qZ:qG e)(pL:pX e)(zr:qJ e)(Nf:FX e):IS e:=by
 obtain⟨al,ac,U,fo,Y⟩:=J;exact bH F iO rfl ∅ (bd3 λ_ _ _ _ _ _ _ _ _=>rfl) λ_ _ _ _ _ _ _ hr hu a4=>#[_,(av (aT (i:=3) iO.nd rfl (r0 rfl) (aI zE hr (ah (pv 0) (ah (pv 1) au))))
 (av (aT (i:=4) iO.nd rfl (Rs rfl) (aI zE hr (ah (pv 0) (ah (pv 2) au))))
 (av (aT (i:=5) iO.nd rfl (r0 rfl) (aI EN hr (ah (pv 0) au)))
 (av (aT (i:=6) iO.nd rfl (r0 rfl) (bK cG rfl am Boot.«len» (ah (nK (pv 0) ab fo U (hr.mono ∅) Y .nil lj) au)))
 (av (aT (i:=7) iO.nd rfl (r0 rfl) (aI CA hr (ah (pv 5) (ah (pv 3) (ah (pv 4) au)))))
 (av (cf (bo GA (pv 7) pH bu)
 (aE (bg (jW (ah kW (ah (pv 7) au)))))
 bA)
 (av (cS (i:=8) (own:=["way"]) (cap:=["second"]) (caps:=[4]) rfl (scC #[rfl,r0 rfl,rfl,trivial]) (bQ (pv 5)) (λ_ _ _=>(aP (i:=0) (ndL ["way"] ["second"]) rfl (r0 rfl))) (λ_ _ _=>(nr (bo ik (a9 aS (pv 0) (pv 1) (λ_ _=>rfl)) ay bu))) (λ_ _ _=>(pv 0)) iO.nd rfl (r0 rfl) rfl)
 (av (cf (kh (D5 (pv 8) (λ_=>rfl)))
 (av (aT (i:=9) iO.nd rfl (r0 rfl) (aI qZ hr (ah (pv 0) (ah (aI pL hr (ah (pv 6) (ah (pv 3) (ah ay (ah (pv 4) (ah ay au)))))) au))))
 (aE (bg (jW (ah kW (ah (a9 aS (pv 9) ay (λ_ _=>rfl)) au))))))
 bA)
 (av (aT (i:=10) iO.nd rfl (r0 rfl) (aI zr hr (ah (pv 8) (ah (pv 3) (ah (pv 4) au)))))
 (av (aT (i:=11) iO.nd rfl (r0 rfl) (aI Nf hr (ah (a9 aS (pv 10) (pv 3) (λ_ _=>rfl)) (ah (a9 aS (pv 10) (pv 4) (λ_ _=>rfl)) au))))
 (av (aT (i:=9) iO.nd rfl (r0 rfl) (aI qZ hr (ah (pv 0) (ah (aI pL hr (ah (pv 6) (ah (pv 3) (ah (a9 aS (pv 11) ay (λ_ _=>rfl)) (ah (pv 4) (ah (ua qj (a9 aS (pv 11) ay (λ_ _=>rfl))) au)))))) au))))
 (aE (bg (jW (ah kW (ah (pv 11) (ah (pv 10) (ah (a9 aS (pv 9) ay (λ_ _=>rfl)) (ah (a9 aS (pv 9) ay (λ_ _=>rfl)) au))))))))))))))))))),
  (aD (aN (ba (n:=2) (f:=fS) (ai (ae 0) (ai (ae 1) aw))))
 (aD (aN (ba (n:=2) (f:=fS) (ai (ae 0) (ai (ae 2) aw))))
 (aD (aN (jf (gb (n:=1) (f:=mQ) (ai (ae 0) aw))))
 (aD (aN (bG dt (ai (iK (c:=0) (m:="names") (n:=0) (f:=eZ) (ae 0) aw) aw)))
 (aD (aN (b8 (n:=3) (f:=jg) (ai (ae 5) (ai (ae 3) (ai (ae 4) aw)))))
 (aD (cg (bF (ar DT (ae 7) qt))
 (bf (j4 (ai (kY ("free" :Str)) (ai (ae 7) aw))))
 bB)
 (aD (aN (bZ (m:=1) (caps:=[4]) (bR (ae 5)) (aM 0) (bF (ar ir (ar a8 (ae 0) (ae 1)) (ax 0))) (ae 0)))
 (aD (cg (kg (JL (ae 8)))
 (aD (aN (ba (n:=2) (f:=f7) (ai (ae 0) (ai (ba (n:=5) (f:=fH) (ai (ae 6) (ai (ae 3) (ai (ax 1) (ai (ae 4) (ai (ax 1) aw)))))) aw))))
 (bf (j4 (ai (kY ("never" :Str)) (ai (ar a8 (ae 9) (ax 1)) aw)))))
 bB)
 (aD (aN (b8 (n:=3) (f:=jL) (ai (ae 8) (ai (ae 3) (ai (ae 4) aw)))))
 (aD (aN (ba (n:=2) (f:=wG) (ai (ar a8 (ae 10) (ae 3)) (ai (ar a8 (ae 10) (ae 4)) aw))))
 (aD (aN (ba (n:=2) (f:=f7) (ai (ae 0) (ai (ba (n:=5) (f:=fH) (ai (ae 6) (ai (ae 3) (ai (ar a8 (ae 11) (ax 1)) (ai (ae 4) (ai (tq pK (ar a8 (ae 11) (ax 0))) aw)))))) aw))))
 (bf (j4 (ai (kY ("most" :Str)) (ai (ae 11) (ai (ae 10) (ai (ar a8 (ae 9) (ax 0)) (ai (ar a8 (ae 9) (ax 1)) aw))))))))))))))))))]
theorem Hb:aY ["text"] ["text"] (aL vc):=cj
abbrev BI(e:Ev):Prop:=DIn e 35 "is_name" ["text"] ot
theorem Ha(F:FA e "is_name" vc)(ab:e.P.given.tree=pi)(U:N0 e "len")(Y:N0 e "all")(J:∃t,e.mg "MOST_LETTERS" =pc (.int 8 t)):BI e:=by
 exact bH F Hb rfl ∅ (bd1 λ_ _ _ _ _ _ _=>rfl) λ_ _ _ _ _ _ _ hr hu ac=>#[_,(av (cf (PW.pt (pw_or (bo nN (bK cG rfl U Boot.«len» (ah (pv 0) au)) ay bu) (pw_or1 (bo ik (bK cG rfl U Boot.«len» (ah (pv 0) au)) (Ah (v:=.int 8) rfl J.choose_spec #[_,rfl]) bu))))
 (aE (bg wK))
 bA)
 (aE (bg (bK (Cb rfl) rfl Y Boot.«all» (ah (cP (own:=["sign"]) (cap:=[]) (caps:=[]) rfl (scC trivial) (JG (pv 0)) (λ_ _ _=>(aP (i:=0) (ndL ["sign"] []) rfl (r0 rfl))) (λ_ _ _=>bX) (λ_ _ _=>(JQ JB JB kW (pv 0) kW))) au))))),
  (aD (cg (qT (bF (ar nR (bG dt (ai (ae 0) aw)) (ax 1))) (bF (ar ir (bG dt (ai (ae 0) aw)) (ax 8))))
 (bf (wI wh))
 bB)
 (bf (bG Il (ai (bZ (m:=1) (caps:=[]) (Gk (ae 0)) (aM 0) bY (Kd ID ID (kY ("a" :Str)) (ae 0) (kY ("z" :Str)))) aw))))]
theorem Cq:aY ["goods","works"] ["goods","works"] (aL qr):=cj
abbrev vi(e:Ev):Prop:=DIn e 35 "check_many" ["goods","works"] jX
theorem CG(F:FA e "check_many" qr)(ab:e.P.given.tree=pi)(Y:N0 e "len")(J:∃t,e.mg "MOST_GOODS" =pc (.int 10 t))(U:∃t,e.mg "MOST_WORKS" =pc (.int 10 t)):vi e:=by
 exact bH F Cq rfl ∅ (bd2 λ_ _ _ _ _ _ _ _=>rfl) λ_ _ _ _ _ _ _ hr hu ac=>#[_,(av (cf (bo ik (bK cG rfl Y Boot.«len» (ah (pv 0) au)) (Ah (v:=.int 10) rfl J.choose_spec #[_,rfl]) bu)
 (aE gj)
 bA)
 (aE (cf (bo ik (bK cG rfl Y Boot.«len» (ah (pv 1) au)) (Ah (v:=.int 10) rfl U.choose_spec #[_,rfl]) bu)
 (aE gj)
 bA))),
  (aD (cg (bF (ar ir (bG dt (ai (ae 0) aw)) (ax 10)))
 gc
 bB)
 (cg (bF (ar ir (bG dt (ai (ae 1) aw)) (ax 10)))
 gc
 bB))]
theorem Cz:aY ["text","earlier"] ["text","earlier"] (aL pY):=cj
abbrev qA(e:Ev):Prop:=DIn e 36 "check_name" ["text","earlier"] gP
theorem CD(F:FA e "check_name" pY)(J:e.P.given.tree=pi)(U:BI e):qA e:=by
 exact bH F Cz rfl ∅ (bd2 λ_ _ _ _ _ _ _ _=>rfl) λ_ _ _ _ _ _ _ hr hu Y=>#[_,(av (cf (kh (jn (aI U hr (ah (pv 0) au))))
 (aE gj)
 bA)
 (aE (cf (bo BA (pv 0) (pv 1) (by with_unfolding_all rfl))
 (aE gj)
 bA))),
  (aD (cg (kg (k9 (ba (n:=1) (f:=ot) (ai (ae 0) aw))))
 gc
 bB)
 (cg (bF (ar L7 (ae 0) (ae 1)))
 gc
 bB))]
theorem nJ:aY ["goods","at","good"] ["goods"] (aL oS):=cj
abbrev uH(e:Ev):Prop:=DIn e 37 "check_goods" ["goods"] jh
theorem AI(F:FA e "check_goods" oS)(U:e.P.given.tree=pi)(J:N0 e "enumerate")(Y:qA e):uH e:=by
 exact bH F nJ rfl ∅ (bd1 λ_ _ _ _ _ _ _=>rfl) λ_ _ _ _ _ _ _ hr hu ab=>#[_,(aE (dG PassesOwn.never rfl (sv rfl J (ah (pv 0) au)) (gu rfl (bU (aP (i:=1) nJ.nd rfl (r0 rfl)) (bU (aP (i:=2) nJ.nd rfl (r0 rfl)) ft)))
 (aE (dS (aI Y hr (ah (pv 2) (ah (gS lZ (pv 0) jA (hU (pv 1))) au))))))),
  (dE (ke (ai (ae 0) aw)) (fq (bV (aM 1) (bV (aM 2) fu)))
 (dU (ba (n:=2) (f:=gP) (ai (ae 2) (ai (uq (ae 0) gG (ic (ae 1))) aw)))))]
theorem CB:aY ["good","goods","earlier"] ["good","goods","earlier"] (aL pI):=cj
abbrev vy(e:Ev):Prop:=DIn e 35 "check_good" ["good","goods","earlier"] ko
theorem Cv(F:FA e "check_good" pI)(J:e.P.given.tree=pi):vy e:=by
 exact bH F CB rfl ∅ (bd3 λ_ _ _ _ _ _ _ _ _=>rfl) λ_ _ _ _ _ _ _ hr hu U=>#[_,(av (cf (bo p7 (pv 0) (pv 1) (by with_unfolding_all rfl))
 (aE gj)
 bA)
 (aE (cf (bo BA (pv 0) (pv 2) (by with_unfolding_all rfl))
 (aE gj)
 bA))),
  (aD (cg (bF (ar yn (ae 0) (ae 1)))
 gc
 bB)
 (cg (bF (ar L7 (ae 0) (ae 2)))
 gc
 bB))]
theorem zy:aY ["amount"] ["amount"] (aL nC):=cj
abbrev sP(e:Ev):Prop:=DIn e 36 "check_amount" ["amount"] i3
theorem z3(F:FA e "check_amount" nC)(J:e.P.given.tree=pi)(U:sZ e):sP e:=by
 exact bH F zy rfl ∅ (bd1 λ_ _ _ _ _ _ _=>rfl) λ_ _ _ _ _ _ _ hr hu Y=>#[_,(aE (cf (PW.pt (pw_or (kh (jn (aI U hr (ah (pv 0) au)))) (pw_or1 (bo nN (pv 0) ay bu))))
 (aE gj)
 bA)),
  (cg (qT (kg (k9 (ba (n:=1) (f:=gB) (ai (ae 0) aw)))) (bF (ar nR (ae 0) (ax 1))))
 gc
 bB)]
theorem kA:aY ["parts","goods","earlier","good","amount"] ["parts","goods"] (aL oI):=cj
abbrev uF(e:Ev):Prop:=DIn e 37 "check_parts" ["parts","goods"] fA
theorem AJ(F:FA e "check_parts" oI)(J:e.P.given.tree=pi)(U:vy e)(Y:sP e):uF e:=by
 exact bH F kA rfl ∅ (bd2 λ_ _ _ _ _ _ _ _=>rfl) λ_ _ _ _ _ _ _ hr hu ab=>#[_,(av (aT (i:=2) kA.nd rfl (r0 rfl) (fj au))
 (aE (dG PassesOwn.never rfl (bQ (pv 0)) (gu rfl (bU (aP (i:=3) kA.nd rfl (r0 rfl)) (bU (aP (i:=4) kA.nd rfl (r0 rfl)) ft)))
 (av (dS (aI U hr (ah (pv 3) (ah (pv 1) (ah (pv 2) au)))))
 (av (dS (aI Y hr (ah (pv 4) au)))
 (aE (dS (lC Gc M2 Mq fY (pv 2) (ah (pv 3) au))))))))),
  (aD (aN (jC aw))
 (dE (bR (ae 0)) (fq (bV (aM 3) (bV (aM 4) fu)))
 (aD (dU (tY (n:=3) (f:=ko) (ai (ae 3) (ai (ae 1) (ai (ae 2) aw)))))
 (aD (dU (ba (n:=1) (f:=i3) (ai (ae 4) aw)))
 (dU (kQ (ae 2) (ae 3)))))))]
theorem iV:aY ["works","goods","earlier","name","uses","makes"] ["works","goods"] (aL oE):=cj
abbrev uz(e:Ev):Prop:=DIn e 38 "check_works" ["works","goods"] jq
theorem A6(F:FA e "check_works" oE)(U:e.P.given.tree=pi)(Y:qA e)(J:uF e):uz e:=by
 exact bH F iV rfl ∅ (bd2 λ_ _ _ _ _ _ _ _=>rfl) λ_ _ _ _ _ _ _ hr hu ab=>#[_,(av (aT (i:=2) iV.nd rfl (r0 rfl) (fj au))
 (aE (dG PassesOwn.never rfl (bQ (pv 0)) (gu rfl (bU (aP (i:=3) iV.nd rfl (r0 rfl)) (bU (aP (i:=4) iV.nd rfl (r0 rfl)) (bU (aP (i:=5) iV.nd rfl (r0 rfl)) ft))))
 (av (dS (aI Y hr (ah (pv 3) (ah (pv 2) au))))
 (av (dS (aI J hr (ah (pv 4) (ah (pv 1) au))))
 (av (dS (aI J hr (ah (pv 5) (ah (pv 1) au))))
 (aE (dS (lC Gc M2 Mq fY (pv 2) (ah (pv 3) au)))))))))),
  (aD (aN (jC aw))
 (dE (bR (ae 0)) (fq (bV (aM 3) (bV (aM 4) (bV (aM 5) fu))))
 (aD (dU (tY (n:=2) (f:=gP) (ai (ae 3) (ai (ae 2) aw))))
 (aD (dU (ba (n:=2) (f:=fA) (ai (ae 4) (ai (ae 1) aw))))
 (aD (dU (ba (n:=2) (f:=fA) (ai (ae 5) (ai (ae 1) aw))))
 (dU (kQ (ae 2) (ae 3))))))))]
theorem Di:aY ["work"] ["work"] (aL rL):=cj
abbrev xN(e:Ev):Prop:=DIn e 35 "copy_work" ["work"] kX
theorem D2(F:FA e "copy_work" rL)(U:e.P.given.tree=pi)(J:N0 e "list"):xN e:=by
 exact bH F Di rfl ∅ (bd1 λ_ _ _ _ _ _ _=>rfl) λ_ _ _ _ _ _ _ hr hu Y=>#[_,(aE (bg (jW (ah (a9 aS (pv 0) ay (λ_ _=>rfl)) (ah (mf iX rfl J Boot.«list» (ah (a9 aS (pv 0) ay (λ_ _=>rfl)) au)) (ah (mf iX rfl J Boot.«list» (ah (a9 aS (pv 0) ay (λ_ _=>rfl)) au)) au)))))),
  (bf (j4 (ai (ar a8 (ae 0) (ax 0)) (ai (bG qs (ai (ar a8 (ae 0) (ax 1)) aw)) (ai (bG qs (ai (ar a8 (ae 0) (ax 2)) aw)) aw)))))]
theorem Ew:aY ["good","parts"] ["good","parts"] (aL rH):=cj
abbrev xx(e:Ev):Prop:=DIn e 35 "amount_of" ["good","parts"] eY
theorem Dx(F:FA e "amount_of" rH)(U:e.P.given.tree=pi)(J:N0 e "sum"):xx e:=by
 exact bH F Ew rfl ∅ (bd2 λ_ _ _ _ _ _ _ _=>rfl) λ_ _ _ _ _ _ _ hr hu Y=>#[_,(aE (bg (bK (qK rfl) rfl J Boot.«sum» (ah (cP (own:=["part"]) (cap:=["good"]) (caps:=[0]) rfl (scC #[rfl,r0 rfl,rfl,trivial]) (bQ (pv 1)) (λ_ _ _=>(aP (i:=0) (ndL ["part"] ["good"]) rfl (r0 rfl))) (λ_ _ _=>(nr (bo (fU hu) (a9 aS (pv 0) ay (λ_ _=>rfl)) (pv 1) bu))) (λ_ _ _=>(a9 aS (pv 0) ay (λ_ _=>rfl)))) au)))),
  (bf (bG zm (ai (bZ (m:=1) (caps:=[0]) (bR (ae 1)) (aM 0) (bF (ar ey (ar a8 (ae 0) (ax 0)) (ae 1))) (ar a8 (ae 0) (ax 1))) aw)))]
theorem Du:aY ["work","goods"] ["work","goods"] (aL rK):=cj
abbrev xr(e:Ev):Prop:=DIn e 36 "change_of" ["work","goods"] kU
theorem Eg(F:FA e "change_of" rK)(U:e.P.given.tree=pi)(J:xx e):xr e:=by
 exact bH F Du rfl ∅ (bd2 λ_ _ _ _ _ _ _ _=>rfl) λ_ _ _ _ _ _ _ hr hu Y=>#[_,(aE (bg (cP (own:=["good"]) (cap:=["work"]) (caps:=[0]) rfl (scC #[rfl,r0 rfl,rfl,trivial]) (bQ (pv 1)) (λ_ _ _=>(aP (i:=0) (ndL ["good"] ["work"]) rfl (r0 rfl))) (λ_ _ _=>bX) (λ_ _ _=>(aW pJ (aI J hr (ah (pv 0) (ah (a9 aS (pv 1) ay (λ_ _=>rfl)) au))) (aI J hr (ah (pv 0) (ah (a9 aS (pv 1) ay (λ_ _=>rfl)) au)))))))),
  (bf (bZ (m:=1) (caps:=[0]) (bR (ae 1)) (aM 0) bY (ar pS (ba (n:=2) (f:=eY) (ai (ae 0) (ai (ar a8 (ae 1) (ax 2)) aw))) (ba (n:=2) (f:=eY) (ai (ae 0) (ai (ar a8 (ae 1) (ax 1)) aw))))))]
theorem DY:aY ["self","goods","works"] ["self","goods","works"] (aL jy):=cj
abbrev xn(e:Ev):Prop:=OI e.P e.w e.K e.mg e.base e.ca 39 (e.ca 0) "Yard" ["self","goods","works"] kM
theorem EX{a:qh}(F:Fun e.K "__init__" "Yard.__init__" jy a fd)(hk:Mk e.K (e.ca 0) a)(hm:e.mg "Yard" =pc (.ref (e.ca 0)))(al:e.P.given.tree=pi)(ac:N0 e "list")(ab:Cls e.K (e.ca 0))(U:fD e.K (e.ca 0) "held_goods")(Y:fD e.K (e.ca 0) "held_works")(J:fD e.K (e.ca 0) "held_changes")(D0:vi e)(Cw:uH e)(CF:uz e)(E9:xN e)(E3:xr e):xn e:=by
 refine#[a,fd,m9 F DY rfl λa0 A outer s H E hr=> ?_,hk,hm,F.binds λ_ _ _ _ _ _ us hl=>match us,hl with | [_,_,_],_=>rfl];have hu:=hr.units;have a2:=ph hr ∅;exact#[_,(av (dS (aI D0 hr (ah (pv 1) (ah (pv 2) au))))
 (av (dS (aI Cw hr (ah (pv 1) au)))
 (av (dS (aI CF hr (ah (pv 2) (ah (pv 1) au))))
 (av (Dq (pv 0) (mf iX rfl ac Boot.«list» (ah (pv 1) au)) rfl)
 (av (Dq (pv 0) (cP (own:=["work"]) (cap:=[]) (caps:=[]) rfl (scC trivial) (bQ (pv 2)) (λ_ _ _=>(aP (i:=0) (ndL ["work"] []) rfl (r0 rfl))) (λ_ _ _=>bX) (λ_ _ _=>(aI E9 hr (ah (pv 0) au)))) rfl)
 (aE (Dq (pv 0) (cP (own:=["work"]) (cap:=["goods"]) (caps:=[1]) rfl (scC #[rfl,r0 rfl,rfl,trivial]) (bQ (pv 2)) (λ_ _ _=>(aP (i:=0) (ndL ["work"] ["goods"]) rfl (r0 rfl))) (λ_ _ _=>bX) (λ_ _ _=>(aI E3 hr (ah (pv 0) (ah (pv 1) au))))) rfl))))))),
  (aD (dU (ba (n:=2) (f:=jX) (ai (ae 1) (ai (ae 2) aw))))
 (aD (dU (ba (n:=1) (f:=jh) (ai (ae 1) aw)))
 (aD (dU (ba (n:=2) (f:=jq) (ai (ae 2) (ai (ae 1) aw))))
 (aD (AQ (c:=0) (f:="held_goods") ab U (ae 0) (bG qs (ai (ae 1) aw)))
 (aD (AQ (c:=0) (f:="held_works") ab Y (ae 0) (bZ (m:=1) (caps:=[]) (bR (ae 2)) (aM 0) bY (ba (n:=1) (f:=kX) (ai (ae 0) aw))))
 (AQ (c:=0) (f:="held_changes") ab J (ae 0) (bZ (m:=1) (caps:=[1]) (bR (ae 2)) (aM 0) bY (ba (n:=2) (f:=kU) (ai (ae 0) (ai (ae 1) aw))))))))))]
theorem w4:aY ["self","way"] ["self","way"] (aL fF):=cj
abbrev qe(e:Ev):Prop:=MethAt e.P e.w e.K e.mg e.base e.ca 35 (e.ca 0) "check_way" ["self","way"] gT
theorem w8{a:qh}(F:Fun e.K "check_way" "Yard.check_way" fF a fd)(hm:Meth e.K (e.ca 0) "check_way" a)(ac:e.P.given.tree=pi)(U:N0 e "len")(ab:N0 e "any")(Y:Cls e.K (e.ca 0))(J:fD e.K (e.ca 0) "held_works"):qe e:=by
 refine#[a,fd,m9 F w4 rfl λal A outer s H E hr=> ?_,hm,F.binds λ_ _ _ _ _ _ us hl=>match us,hl with | [_,_],_=>rfl];have hu:=hr.units;have an:=ph hr ∅;exact#[_,(av (cf (bo (EH hu) (bK cG rfl U Boot.«len» (ah (pv 1) au)) (bK cG rfl U Boot.«len» (ah (zG (pv 0) rfl) au)) bu)
 (aE gj)
 bA)
 (aE (cf (jn (bK (Ia rfl) rfl ab Boot.«any» (ah (cP (own:=["often"]) (cap:=[]) (caps:=[]) rfl (scC trivial) (bQ (pv 1)) (λ_ _ _=>(aP (i:=0) (ndL ["often"] []) rfl (r0 rfl))) (λ_ _ _=>bX) (λ_ _ _=>(ju nN (pv 0) ay bu))) au)))
 (aE gj)
 bA))),
  (aD (cg (bF (ar zc (bG dt (ai (ae 1) aw)) (bG dt (ai (zV (c:=0) (f:="held_works") Y J (ae 0)) aw))))
 gc
 bB)
 (cg (k9 (bG NN (ai (bZ (m:=1) (caps:=[]) (bR (ae 1)) (aM 0) bY (ar nR (ae 0) (ax 0))) aw)))
 gc
 bB))]
theorem AB:aY ["self","way"] ["self","way"] (aL hZ):=cj
abbrev uD(e:Ev):Prop:=MethAt e.P e.w e.K e.mg e.base e.ca 37 (e.ca 0) "leaves" ["self","way"] ie
theorem AO{a:qh}(F:Fun e.K "leaves" "Yard.leaves" hZ a fd)(hm:Meth e.K (e.ca 0) "leaves" a)(a0:e.P.given.tree=pi)(am:Cls e.K (e.ca 0))(J:qe e)(ab:nW e)(d8:gv e):uD e:=by
 obtain⟨ap,an,U,gO,Y⟩:=J;obtain⟨az,as,ac,fQ,al⟩:=ab;refine#[a,fd,m9 F AB rfl λa2 A outer s H E hr=> ?_,hm,F.binds λ_ _ _ _ _ _ us hl=>match us,hl with | [_,_],_=>rfl];have hu:=hr.units;have a4:=ph hr ∅;exact#[_,(av (dS (wj (pv 0) am gO U (hr.mono ∅) Y .nil lj (ah (pv 1) au)))
 (aE (bg (cP (own:=["row"]) (cap:=["way"]) (caps:=[1]) rfl (scC #[rfl,r0 rfl,rfl,trivial]) (bQ (nK (pv 0) am fQ ac (hr.mono ∅) al .nil lj)) (λ_ _ _=>(aP (i:=0) (ndL ["row"] ["way"]) rfl (r0 rfl))) (λ_ _ _=>bX) (λ_ _ _=>(aI d8 hr (ah (pv 0) (ah (pv 1) au)))))))),
  (aD (dU (iK (c:=0) (m:="check_way") (n:=1) (f:=gT) (ae 0) (ai (ae 1) aw)))
 (bf (bZ (m:=1) (caps:=[1]) (bR (iK (c:=0) (m:="rows") (n:=0) (f:=eG) (ae 0) aw)) (aM 0) bY (ba (n:=2) (f:=bP) (ai (ae 0) (ai (ae 1) aw))))))]
theorem yC:aY ["self","way"] ["self","way"] (aL fZ):=cj
abbrev qR(e:Ev):Prop:=MethAt e.P e.w e.K e.mg e.base e.ca 38 (e.ca 0) "balanced" ["self","way"] iy
theorem xX{a:qh}(F:Fun e.K "balanced" "Yard.balanced" fZ a fd)(hm:Meth e.K (e.ca 0) "balanced" a)(an:e.P.given.tree=pi)(am:N0 e "all")(ac:Cls e.K (e.ca 0))(J:uD e):qR e:=by
 obtain⟨al,ab,U,jo,Y⟩:=J;refine#[a,fd,m9 F yC rfl λap A outer s H E hr=> ?_,hm,F.binds λ_ _ _ _ _ _ us hl=>match us,hl with | [_,_],_=>rfl];have hu:=hr.units;have az:=ph hr ∅;exact#[_,(aE (bg (bK (Cb rfl) rfl am Boot.«all» (ah (cP (own:=["left"]) (cap:=[]) (caps:=[]) rfl (scC trivial) (bQ (wj (pv 0) ac jo U (hr.mono ∅) Y .nil lj (ah (pv 1) au))) (λ_ _ _=>(aP (i:=0) (ndL ["left"] []) rfl (r0 rfl))) (λ_ _ _=>bX) (λ_ _ _=>(ju (fU hu) (pv 0) ay bu))) au)))),
  (bf (bG Il (ai (bZ (m:=1) (caps:=[]) (bR (iK (c:=0) (m:="leaves") (n:=1) (f:=ie) (ae 0) (ai (ae 1) aw))) (aM 0) bY (ar ey (ae 0) (ax 0))) aw)))]
theorem Fo:aY ["_law_script","_law_k"] ["_law_script","_law_k"] (aL uj):=cj
abbrev sU(e:Ev):Prop:=DIn e 35 "_law_cell" ["_law_script","_law_k"] cR
theorem Fn(F:FA e "_law_cell" uj)(U:e.P.given.tree=pi)(J:N0 e "len"):sU e:=by
 exact bH F Fo rfl ∅ (bd2 λ_ _ _ _ _ _ _ _=>rfl) λ_ _ _ _ _ _ _ hr hu Y=>#[_,(av (cf (bo nN (pv 1) (bK cG rfl J Boot.«len» (ah (pv 0) au)) bu)
 (aE (bg (a9 aS (pv 0) (pv 1) (λ_ _=>rfl))))
 bA)
 (aE (bg ay))),
  (aD (cg (bF (ar nR (ae 1) (bG dt (ai (ae 0) aw))))
 (bf (ar a8 (ae 0) (ae 1)))
 bB)
 (bf (ax 0)))]
theorem Hw:aY ["_law_cell_here"] ["_law_cell_here"] (aL vR):=cj
abbrev qQ(e:Ev):Prop:=DIn e 35 "_law_bag" ["_law_cell_here"] eg
theorem Hi(F:FA e "_law_bag" vR)(J:e.P.given.tree=pi):qQ e:=by
 exact bH F Hw rfl ∅ (bd1 λ_ _ _ _ _ _ _=>rfl) λ_ _ _ _ _ _ _ hr hu U=>#[_,(aE (bg (fj (ah (aW eH (aW fE (aW (gW U J #[_,_,rfl,rfl,rfl,rfl,rfl]) (pv 0) ay) (aW oz ay ay)) (aW fE (pv 0) ay)) (ah (aW fE (aW (gW U J #[_,_,rfl,rfl,rfl,rfl,rfl]) (pv 0) ay) ay) au))))),
  (bf (jC (ai (ar dF (ar gY (ar fK (ae 0) (ax 2)) (ar ow (ax 10) (ax 60))) (ar gY (ae 0) (ax 2))) (ai (ar gY (ar fK (ae 0) (ax 2)) (ax 2147483647)) aw))))]
theorem xB:aY ["_law_bag_here","_law_many","_law_found"] ["_law_bag_here","_law_many"] (aL tL):=cj
abbrev iD(e:Ev):Prop:=DIn e 35 "_law_draw" ["_law_bag_here","_law_many"] aQ
theorem Fu(F:FA e "_law_draw" tL)(J:e.P.given.tree=pi):iD e:=by
 exact bH F xB rfl ∅ (bd2 λ_ _ _ _ _ _ _ _=>rfl) λ_ _ _ _ _ _ _ hr hu U=>#[_,(av (cf (bo ik (a9 aS (pv 0) ay (λ_ _=>rfl)) ay bu)
 (av (aT (i:=2) xB.nd rfl (r0 rfl) (aW fE (a9 aS (pv 0) ay (λ_ _=>rfl)) (pv 1)))
 (av (mI (aW (gW U J #[_,_,rfl,rfl,rfl,rfl,rfl]) (a9 aS (pv 0) ay (λ_ _=>rfl)) (pv 1)) (og (pv 0) ay set_list))
 (aE (bg (pv 2)))))
 bA)
 (av (mI (aW fE (aW dA (aW eH (a9 aS (pv 0) ay (λ_ _=>rfl)) ay) ay) ay) (og (pv 0) ay set_list))
 (aE (bg (aW fE (aW (gW U J #[_,_,rfl,rfl,rfl,rfl,rfl]) (aW fE (aW eH (a9 aS (pv 0) ay (λ_ _=>rfl)) (aW dA (aW (gW U J #[_,_,rfl,rfl,rfl,rfl,rfl]) (a9 aS (pv 0) ay (λ_ _=>rfl)) ay) ay)) ay) ay) (pv 1)))))),
  (aD (cg (bF (ar ir (ar a8 (ae 0) (ax 0)) (ax 0)))
 (aD (aN (ar gY (ar a8 (ae 0) (ax 0)) (ae 1)))
 (aD (kZ (ar fK (ar a8 (ae 0) (ax 0)) (ae 1)) (oh (ae 0) (ax 0)))
 (bf (ae 2))))
 bB)
 (aD (kZ (ar gY (ar cV (ar dF (ar a8 (ae 0) (ax 1)) (ax 48271)) (ax 4099)) (ax 2147483647)) (oh (ae 0) (ax 1)))
 (bf (ar gY (ar fK (ar gY (ar dF (ar a8 (ae 0) (ax 1)) (ar cV (ar fK (ar a8 (ae 0) (ax 1)) (ax 65536)) (ax 7))) (ax 2147483629)) (ax 32)) (ae 1)))))]
theorem uA:aY ["_law_bag_here","_law_wide","_law_way_here"] ["_law_bag_here","_law_wide"] (aL qg):=cj
abbrev vo(e:Ev):Prop:=DIn e 36 "_law_number" ["_law_bag_here","_law_wide"] fT
theorem Cp(F:FA e "_law_number" qg)(U:e.P.given.tree=pi)(J:iD e):vo e:=by
 exact bH F uA rfl ∅ (bd2 λ_ _ _ _ _ _ _ _=>rfl) λ_ _ _ _ _ _ _ hr hu Y=>#[_,(av (aT (i:=2) uA.nd rfl (r0 rfl) (aI J hr (ah (pv 0) (ah ay au))))
 (av (cf (bo (fU hu) (pv 2) ay bu)
 (aE (bg ay))
 bA)
 (av (cf (bo (fU hu) (pv 2) ay bu)
 (aE (bg (aW pJ (aW fE (aW dA (aW eH (aI J hr (ah (pv 0) (ah ay au))) (aW oz ay ay)) (aI J hr (ah (pv 0) (ah (aW oz ay ay) au)))) (pv 1)) (aI J hr (ah (pv 0) (ah ay au))))))
 bA)
 (aE (bg (aW pJ (aI J hr (ah (pv 0) (ah ay au))) ay)))))),
  (aD (aN (b8 (n:=2) (f:=aQ) (ai (ae 0) (ai (ax 6) aw))))
 (aD (cg (bF (ar ey (ae 2) (ax 4)))
 (bf (ax 0))
 bB)
 (aD (cg (bF (ar ey (ae 2) (ax 5)))
 (bf (ar pS (ar gY (ar cV (ar dF (b8 (n:=2) (f:=aQ) (ai (ae 0) (ai (ax 1000) aw))) (ar ow (ax 10) (ax 6))) (b8 (n:=2) (f:=aQ) (ai (ae 0) (ai (ar ow (ax 10) (ax 6)) aw)))) (ae 1)) (b8 (n:=2) (f:=aQ) (ai (ae 0) (ai (ax 9) aw)))))
 bB)
 (bf (ar pS (b8 (n:=2) (f:=aQ) (ai (ae 0) (ai (ax 7) aw))) (ax 3))))))]
theorem dr:aY ["_law_cell_here","_law_many","_law_letters","_law_size","_law_rest","_law_word","_law_k","_law_spot","_law_made","_law_letter","_law_name"] ["_law_cell_here","_law_many"] (aL rk):=cj
abbrev xh(e:Ev):Prop:=DIn e 35 "_law_words" ["_law_cell_here","_law_many"] iE
theorem ES(F:FA e "_law_words" rk)(U:e.P.given.tree=pi)(J:N0 e "range")(ab:N0 e "len"):xh e:=by
 exact bH F dr rfl ∅ (bd2 λ_ _ _ _ _ _ _ _=>rfl) λ_ _ _ _ _ _ _ hr hu Y=>#[_,(av (aT (i:=2) dr.nd rfl (r0 rfl) kW)
 (av (aT (i:=3) dr.nd rfl (r0 rfl) (aW dA ay (aW fE (pv 0) ay)))
 (av (aT (i:=4) dr.nd rfl (r0 rfl) (aW fE (aW (gW Y U #[_,_,rfl,rfl,rfl,rfl,rfl]) (pv 0) ay) (aW oz ay ay)))
 (av (aT (i:=5) dr.nd rfl (Rs rfl) kW)
 (av (dG PassesOwn.never rfl (eO rfl J (ah (pv 3) au)) (aP (i:=6) dr.nd rfl (r0 rfl))
 (av (aT (i:=5) dr.nd rfl (Rs rfl) (aW dA (pv 5) (a9 aS (pv 2) (aW fE (pv 4) ay) (λ_ _=>rfl))))
 (aE (aT (i:=4) dr.nd rfl (r0 rfl) (aW dA (aW (gW Y U #[_,_,rfl,rfl,rfl,rfl,rfl]) (pv 4) ay) (aW eH ay (pv 6)))))))
 (av (aT (i:=7) dr.nd rfl (r0 rfl) (aW fE (aW (gW Y U #[_,_,rfl,rfl,rfl,rfl,rfl]) (pv 0) ay) (pv 3)))
 (av (aT (i:=8) dr.nd rfl (r0 rfl) (fj au))
 (av (cf (bo (fU hu) (aW fE (aW (gW Y U #[_,_,rfl,rfl,rfl,rfl,rfl]) (pv 0) ay) ay) ay bu)
 (aE (aT (i:=8) dr.nd rfl (r0 rfl) (gS lZ (cP (own:=["_law_k"]) (cap:=["_law_word"]) (caps:=[5]) rfl (scC #[rfl,r0 rfl,rfl,trivial]) (BM rfl J (ah ay (ah (aW dA (pv 3) ay) au))) (λ_ _ _=>(aP (i:=0) (ndL ["_law_k"] ["_law_word"]) rfl (r0 rfl))) (λ_ _ _=>bX) (λ_ _ _=>(gS EL (pv 1) jA (hU (pv 0))))) jA (hU (pv 1)))))
 bA)
 (av (dG PassesOwn.never rfl (JG (pv 2)) (aP (i:=9) dr.nd rfl (r0 rfl))
 (av (aT (i:=10) dr.nd rfl (r0 rfl) (aW dA (aW dA (gS EL (pv 5) jA (hU (pv 7))) (pv 9)) (gS EL (pv 5) (hU (aW dA (pv 7) ay)) jA)))
 (aE (cf (PW.pt (pw_and (bo nN (bK cG rfl ab Boot.«len» (ah (pv 8) au)) (pv 1) bu) (pw_and1 (bo p7 (pv 10) (pv 8) (by with_unfolding_all rfl)))))
 (aE (dS (lC Gc M2 Mq fY (pv 8) (ah (pv 10) au))))
 bA))))
 (aE (bg (pv 8)))))))))))),
  (aD (aN (kY ("abcdefghijklmnopqrstuvwxyz" :Str)))
 (aD (aN (ar cV (ax 1) (ar gY (ae 0) (ax 8))))
 (aD (aN (ar gY (ar fK (ae 0) (ax 8)) (ar ow (ax 10) (ax 18))))
 (aD (aN (kY ("" :Str)))
 (aD (dE (gL (ai (ae 3) aw)) (aM 6)
 (aD (aN (ar cV (ae 5) (ar a8 (ae 2) (ar gY (ae 4) (ax 26)))))
 (aN (ar cV (ar fK (ae 4) (ax 26)) (ar dF (ax 5) (ae 6))))))
 (aD (aN (ar gY (ar fK (ae 0) (ax 3)) (ae 3)))
 (aD (aN (jC aw))
 (aD (cg (bF (ar ey (ar gY (ar fK (ae 0) (ax 5)) (ax 2)) (ax 1)))
 (aN (N8 (bZ (m:=1) (caps:=[5]) (Gw (ai (ax 1) (ai (ar cV (ae 3) (ax 1)) aw))) (aM 0) bY (Eh (ae 1) gG (ic (ae 0)))) gG (ic (ae 1))))
 bB)
 (aD (dE (Gk (ae 2)) (aM 9)
 (aD (aN (ar cV (ar cV (Eh (ae 5) gG (ic (ae 7))) (ae 9)) (Eh (ae 5) (ic (ar cV (ae 7) (ax 1))) gG)))
 (cg (Dv (bF (ar nR (bG dt (ai (ae 8) aw)) (ae 1))) (bF (ar yn (ae 10) (ae 8))))
 (dU (kQ (ae 8) (ae 10)))
 bB)))
 (bf (jf (ae 8))))))))))))]
theorem mO:aY ["_law_bag_here","_law_many","_law_made","_law_k","_law_great"] ["_law_bag_here","_law_many"] (aL uX):=cj
abbrev Bu(e:Ev):Prop:=DIn e 36 "_law_way" ["_law_bag_here","_law_many"] qB
theorem GN(F:FA e "_law_way" uX)(Y:e.P.given.tree=pi)(J:N0 e "range")(U:iD e):Bu e:=by
 exact bH F mO rfl ∅ (bd2 λ_ _ _ _ _ _ _ _=>rfl) λ_ _ _ _ _ _ _ hr hu ab=>#[_,(av (aT (i:=2) mO.nd rfl (r0 rfl) (fj (ah ay au)))
 (av (dG PassesOwn.never rfl (eO rfl J (ah (aW pJ (pv 1) ay) au)) (aP (i:=3) mO.nd rfl (r0 rfl))
 (av (aT (i:=4) mO.nd rfl (r0 rfl) ay)
 (av (cf (bo nN (pv 1) ay bu)
 (aE (aT (i:=4) mO.nd rfl (r0 rfl) (aI U hr (ah (pv 0) (ah (aW oz ay ay) au)))))
 bA)
 (aE (dS (lC Gc M2 Mq fY (pv 2) (ah (a9 aS (fj (ah ay (ah ay (ah ay (ah ay (ah ay (ah ay (ah (pv 4) au)))))))) (aI U hr (ah (pv 0) (ah ay au))) (λ_ _=>rfl)) au)))))))
 (aE (bg (pv 2))))),
  (aD (aN (jC (ai (ax 1) aw)))
 (aD (dE (gL (ai (ar pS (ae 1) (ax 1)) aw)) (aM 3)
 (aD (aN (ax 1))
 (aD (cg (bF (ar nR (ae 1) (ax 4)))
 (aN (b8 (n:=2) (f:=aQ) (ai (ae 0) (ai (ar ow (ax 10) (ax 6)) aw))))
 bB)
 (dU (kQ (ae 2) (ar a8 (sM (ai (ax 1) (ai (ax 0) (ai (ax 2) (ai (ax 0) (ai (ax 1) (ai (ax 3) (ai (ae 4) aw)))))))) (b8 (n:=2) (f:=aQ) (ai (ae 0) (ai (ax 7) aw)))))))))
 (bf (ae 2))))]
theorem dN:aY ["_law_cells","_law_goods","_law_way_here","_law_made","_law_wide","_law_k","_law_here","_law_one","_law_way_on"] ["_law_cells","_law_goods","_law_way_here"] (aL oM):=cj
abbrev uy(e:Ev):Prop:=DIn e 37 "_law_changes" ["_law_cells","_law_goods","_law_way_here"] jk
theorem AG(F:FA e "_law_changes" oM)(ab:e.P.given.tree=pi)(J:N0 e "len")(U:N0 e "range")(Y:N0 e "sum")(md:qQ e)(Ei:vo e)(cb:iD e):uy e:=by
 exact bH F dN rfl ∅ (bd3 λ_ _ _ _ _ _ _ _ _=>rfl) λ_ _ _ _ _ _ _ hr hu ac=>#[_,(av (aT (i:=3) dN.nd rfl (Rs rfl) (fj au))
 (av (aT (i:=4) dN.nd rfl (Rs rfl) ay)
 (av (cf (bo nN (bK cG rfl J Boot.«len» (ah (pv 2) au)) ay bu)
 (aE (aT (i:=4) dN.nd rfl (Rs rfl) (aW oz ay ay)))
 bA)
 (av (dG PassesOwn.never rfl (eO rfl U (ah (bK cG rfl J Boot.«len» (ah (pv 2) au)) au)) (aP (i:=5) dN.nd rfl (r0 rfl))
 (av (aT (i:=6) dN.nd rfl (Rs rfl) (aI md hr (ah (aW dA (a9 aS (pv 0) (aW fE (pv 5) (bK cG rfl J Boot.«len» (ah (pv 0) au))) (λ_ _=>rfl)) (aW eH ay (aW (gW ac ab #[_,_,rfl,rfl,rfl,rfl,rfl]) (pv 5) (bK cG rfl J Boot.«len» (ah (pv 0) au))))) au)))
 (av (cS (i:=7) (own:=["_law_good"]) (cap:=["_law_here","_law_wide"]) (caps:=[6,4]) rfl (scC #[rfl,r0 rfl,rfl,#[rfl,r0 rfl,rfl,trivial]]) (bQ (pv 1)) (λ_ _ _=>(aP (i:=0) (ndL ["_law_good"] ["_law_here","_law_wide"]) rfl (r0 rfl))) (λ_ _ _=>bX) (λ_ _ _=>(aI Ei hr (ah (pv 1) (ah (pv 2) au)))) dN.nd rfl (r0 rfl) rfl)
 (av (aT (i:=8) dN.nd rfl (Rs rfl) (aI cb hr (ah (pv 6) (ah ay au))))
 (av (cf (PW.pt (pw_and (bo ik (pv 8) ay bu) (pw_and1 (bo ik (pv 5) ay bu))))
 (aE (cS (i:=7) (own:=["_law_number_here"]) (cap:=["_law_way_on"]) (caps:=[8]) rfl (scC #[rfl,r0 rfl,rfl,trivial]) (bQ (a9 aS (pv 3) (ua qj ay) (λ_ _=>rfl))) (λ_ _ _=>(aP (i:=0) (ndL ["_law_number_here"] ["_law_way_on"]) rfl (r0 rfl))) (λ_ _ _=>bX) (λ_ _ _=>(aW eH (pv 0) (aW pJ ay (aW eH ay (pv 1))))) dN.nd rfl (r0 rfl) rfl))
 bA)
 (av (cf (bo (fU hu) (pv 8) ay bu)
 (aE (cS (i:=7) (own:=["_law_good"]) (cap:=[]) (caps:=[]) rfl (scC trivial) (bQ (pv 1)) (λ_ _ _=>(aP (i:=0) (ndL ["_law_good"] []) rfl (r0 rfl))) (λ_ _ _=>bX) (λ_ _ _=>ay) dN.nd rfl (r0 rfl) rfl))
 bA)
 (aE (dS (lC Gc M2 Mq fY (pv 3) (ah (pv 7) au))))))))))
 (av (cf (bo (fU hu) (a9 aS (pv 2) ay (λ_ _=>rfl)) ay bu)
 (aE (mI (cP (own:=["_law_at"]) (cap:=["_law_made","_law_way_here"]) (caps:=[3,2]) rfl (scC #[rfl,r0 rfl,rfl,#[rfl,r0 rfl,rfl,trivial]]) (eO rfl U (ah (bK cG rfl J Boot.«len» (ah (pv 1) au)) au)) (λ_ _ _=>(aP (i:=0) (ndL ["_law_at"] ["_law_made","_law_way_here"]) rfl (Rs rfl))) (λ_ _ _=>bX) (λ_ _ _=>(ua qj (bK (qK rfl) rfl Y Boot.«sum» (ah (cP (own:=["_law_k"]) (cap:=["_law_at","_law_made","_law_way_here"]) (caps:=[0,1,2]) rfl (scC #[rfl,r0 rfl,rfl,#[rfl,r0 rfl,rfl,#[rfl,r0 rfl,rfl,trivial]]]) (BM rfl U (ah ay (ah (bK cG rfl J Boot.«len» (ah (pv 2) au)) au))) (λ_ _ _=>(aP (i:=0) (ndL ["_law_k"] ["_law_at","_law_made","_law_way_here"]) rfl (r0 rfl))) (λ_ _ _=>bX) (λ_ _ _=>(aW eH (a9 aS (a9 aS (pv 2) (pv 0) (λ_ _=>rfl)) (pv 1) (λ_ _=>rfl)) (a9 aS (pv 3) (pv 0) (λ_ _=>rfl))))) au))))) (og (pv 3) ay set_list)))
 bA)
 (aE (bg (pv 3)))))))),
  (aD (aN (jC aw))
 (aD (aN (ax 4))
 (aD (cg (bF (ar nR (bG dt (ai (ae 2) aw)) (ax 4)))
 (aN (ar ow (ax 10) (ax 9)))
 bB)
 (aD (dE (gL (ai (bG dt (ai (ae 2) aw)) aw)) (aM 5)
 (aD (aN (gb (n:=1) (f:=eg) (ai (ar cV (ar a8 (ae 0) (ar gY (ae 5) (bG dt (ai (ae 0) aw)))) (ar dF (ax 700001) (ar fK (ae 5) (bG dt (ai (ae 0) aw))))) aw)))
 (aD (aN (bZ (m:=1) (caps:=[6,4]) (bR (ae 1)) (aM 0) bY (b8 (n:=2) (f:=fT) (ai (ae 1) (ai (ae 2) aw)))))
 (aD (aN (b8 (n:=2) (f:=aQ) (ai (ae 6) (ai (ax 12) aw))))
 (aD (cg (Dv (bF (ar ir (ae 8) (ax 9))) (bF (ar ir (ae 5) (ax 0))))
 (aN (bZ (m:=1) (caps:=[8]) (bR (ar a8 (ae 3) (tq pK (ax 1)))) (aM 0) bY (ar dF (ae 0) (ar pS (ax 21) (ar dF (ax 2) (ae 1))))))
 bB)
 (aD (cg (bF (ar ey (ae 8) (ax 9)))
 (aN (bZ (m:=1) (caps:=[]) (bR (ae 1)) (aM 0) bY (ax 0)))
 bB)
 (dU (kQ (ae 3) (ae 7)))))))))
 (aD (cg (bF (ar ey (ar a8 (ae 2) (ax 0)) (ax 1)))
 (kZ (bZ (m:=1) (caps:=[3,2]) (gL (ai (bG dt (ai (ae 1) aw)) aw)) (aM 0) bY (tq pK (bG zm (ai (bZ (m:=1) (caps:=[0,1,2]) (Gw (ai (ax 1) (ai (bG dt (ai (ae 2) aw)) aw))) (aM 0) bY (ar dF (ar a8 (ar a8 (ae 2) (ae 0)) (ae 1)) (ar a8 (ae 3) (ae 0)))) aw)))) (oh (ae 3) (ax 0)))
 bB)
 (bf (jf (ae 3))))))))]
theorem eD:aY ["_law_bag_here","_law_names","_law_goods","_law_changes_here","_law_made","_law_name","_law_change","_law_uses","_law_makes","_law_good","_law_number_here","_law_more"] ["_law_bag_here","_law_names","_law_goods","_law_changes_here"] (aL rF):=cj
abbrev xv(e:Ev):Prop:=DIn e 36 "_law_works" ["_law_bag_here","_law_names","_law_goods","_law_changes_here"] n4
theorem DW(F:FA e "_law_works" rF)(ab:e.P.given.tree=pi)(J:N0 e "zip")(U:N0 e "max")(Y:iD e):xv e:=by
 exact bH F eD rfl ∅ (bd4 λ_ _ _ _ _ _ _ _ _ _=>rfl) λ_ _ _ _ _ _ _ hr hu ac=>#[_,(av (aT (i:=4) eD.nd rfl (r0 rfl) (fj au))
 (av (dG PassesOwn.never rfl (ou rfl J (ah (pv 1) (ah (pv 3) au))) (gu rfl (bU (aP (i:=5) eD.nd rfl (r0 rfl)) (bU (aP (i:=6) eD.nd rfl (r0 rfl)) ft)))
 (av (aT (i:=7) eD.nd rfl (r0 rfl) (fj au))
 (av (aT (i:=8) eD.nd rfl (r0 rfl) (fj au))
 (av (dG PassesOwn.never rfl (ou rfl J (ah (pv 2) (ah (pv 6) au))) (gu rfl (bU (aP (i:=9) eD.nd rfl (r0 rfl)) (bU (aP (i:=10) eD.nd rfl (r0 rfl)) ft)))
 (av (aT (i:=11) eD.nd rfl (r0 rfl) ay)
 (av (cf (bo (fU hu) (aI Y hr (ah (pv 0) (ah ay au))) ay bu)
 (aE (aT (i:=11) eD.nd rfl (r0 rfl) (aW dA ay (aI Y hr (ah (pv 0) (ah ay au))))))
 bA)
 (av (cf (PW.pt (pw_or (bo nN (pv 10) ay bu) (pw_or1 (bo ik (pv 11) ay bu))))
 (aE (dS (lC Gc M2 Mq fY (pv 7) (ah (jW (ah (pv 9) (ah (aW dA (bK (Bk rfl) rfl U Boot.«max» (ah (ua qj (pv 10)) (ah ay au))) (pv 11)) au))) au))))
 bA)
 (aE (cf (PW.pt (pw_or (bo ik (pv 10) ay bu) (pw_or1 (bo ik (pv 11) ay bu))))
 (aE (dS (lC Gc M2 Mq fY (pv 8) (ah (jW (ah (pv 9) (ah (aW dA (bK (Bk rfl) rfl U Boot.«max» (ah (pv 10) (ah ay au))) (pv 11)) au))) au))))
 bA))))))
 (aE (dS (lC Gc M2 Mq fY (pv 4) (ah (jW (ah (pv 5) (ah (pv 7) (ah (pv 8) au)))) au))))))))
 (aE (bg (pv 4))))),
  (aD (aN (jC aw))
 (aD (dE (sx (ai (ae 1) (ai (ae 3) aw))) (fq (bV (aM 5) (bV (aM 6) fu)))
 (aD (aN (jC aw))
 (aD (aN (jC aw))
 (aD (dE (sx (ai (ae 2) (ai (ae 6) aw))) (fq (bV (aM 9) (bV (aM 10) fu)))
 (aD (aN (ax 0))
 (aD (cg (bF (ar ey (b8 (n:=2) (f:=aQ) (ai (ae 0) (ai (ax 6) aw))) (ax 5)))
 (aN (ar cV (ax 1) (b8 (n:=2) (f:=aQ) (ai (ae 0) (ai (ax 5) aw)))))
 bB)
 (aD (cg (qT (bF (ar nR (ae 10) (ax 0))) (bF (ar ir (ae 11) (ax 0))))
 (dU (kQ (ae 7) (j4 (ai (ae 9) (ai (ar cV (bG FE (ai (tq pK (ae 10)) (ai (ax 0) aw))) (ae 11)) aw)))))
 bB)
 (cg (qT (bF (ar ir (ae 10) (ax 0))) (bF (ar ir (ae 11) (ax 0))))
 (dU (kQ (ae 8) (j4 (ai (ae 9) (ai (ar cV (bG FE (ai (ae 10) (ai (ax 0) aw))) (ae 11)) aw)))))
 bB)))))
 (dU (kQ (ae 4) (j4 (ai (ae 5) (ai (jf (ae 7)) (ai (jf (ae 8)) aw))))))))))
 (bf (jf (ae 4)))))]
theorem eC:aY ["_law_script","_law_most_goods","_law_most_works","_law_bag_here","_law_goods","_law_names","_law_way_here","_law_changes_here","_law_turn"] ["_law_script","_law_most_goods","_law_most_works"] (aL rD):=cj
abbrev xq(e:Ev):Prop:=DIn e 38 "_law_parts" ["_law_script","_law_most_goods","_law_most_works"] kS
theorem DB(F:FA e "_law_parts" rD)(ab:e.P.given.tree=pi)(J:N0 e "len")(md:qQ e)(U:sU e)(xC:xh e)(Y:iD e)(Ic:Bu e)(Cr:uy e)(Fh:xv e):xq e:=by
 exact bH F eC rfl ∅ (bd3 λ_ _ _ _ _ _ _ _ _=>rfl) λ_ _ _ _ _ _ _ hr hu ac=>#[_,(av (aT (i:=3) eC.nd rfl (r0 rfl) (aI md hr (ah (aI U hr (ah (pv 0) (ah ay au))) au)))
 (av (aT (i:=4) eC.nd rfl (r0 rfl) (aI xC hr (ah (aI U hr (ah (pv 0) (ah ay au))) (ah (aW dA ay (aI Y hr (ah (pv 3) (ah (pv 1) au)))) au))))
 (av (cf (bo (fU hu) (aI Y hr (ah (pv 3) (ah ay au))) ay bu)
 (aE (aT (i:=4) eC.nd rfl (r0 rfl) (fj au)))
 bA)
 (av (aT (i:=5) eC.nd rfl (r0 rfl) (aI xC hr (ah (aI U hr (ah (pv 0) (ah ay au))) (ah (aW dA ay (aI Y hr (ah (pv 3) (ah (pv 2) au)))) au))))
 (av (aT (i:=6) eC.nd rfl (r0 rfl) (aI Ic hr (ah (pv 3) (ah (bK cG rfl J Boot.«len» (ah (pv 5) au)) au))))
 (av (cf (bo (fU hu) (aI Y hr (ah (pv 3) (ah ay au))) ay bu)
 (aE (mI ay (og (pv 6) ay set_list)))
 bA)
 (av (aT (i:=7) eC.nd rfl (r0 rfl) (aI Cr hr (ah (aW dA (fj (ah (aI U hr (ah (pv 0) (ah ay au))) au)) (gS lZ (pv 0) (hU ay) (hU ay))) (ah (pv 4) (ah (pv 6) au)))))
 (av (aT (i:=8) eC.nd rfl (r0 rfl) (aI Y hr (ah (pv 3) (ah (bK cG rfl J Boot.«len» (ah (pv 5) au)) au))))
 (av (aT (i:=7) eC.nd rfl (r0 rfl) (aW dA (gS lZ (pv 7) (hU (pv 8)) jA) (gS lZ (pv 7) jA (hU (pv 8)))))
 (av (aT (i:=6) eC.nd rfl (r0 rfl) (aW dA (gS lZ (pv 6) (hU (pv 8)) jA) (gS lZ (pv 6) jA (hU (pv 8)))))
 (aE (bg (jW (ah (pv 4) (ah (aI Fh hr (ah (aI md hr (ah (aW (gW ac ab #[_,_,rfl,rfl,rfl,rfl,rfl]) (aI U hr (ah (pv 0) (ah ay au))) ay) au)) (ah (pv 5) (ah (pv 4) (ah (pv 7) au))))) (ah (pv 7) (ah (pv 6) au))))))))))))))))),
  (aD (aN (gb (n:=1) (f:=eg) (ai (ba (n:=2) (f:=cR) (ai (ae 0) (ai (ax 2) aw))) aw)))
 (aD (aN (ba (n:=2) (f:=iE) (ai (ba (n:=2) (f:=cR) (ai (ae 0) (ai (ax 0) aw))) (ai (ar cV (ax 1) (b8 (n:=2) (f:=aQ) (ai (ae 3) (ai (ae 1) aw)))) aw))))
 (aD (cg (bF (ar ey (b8 (n:=2) (f:=aQ) (ai (ae 3) (ai (ax 12) aw))) (ax 11)))
 (aN (sM aw))
 bB)
 (aD (aN (ba (n:=2) (f:=iE) (ai (ba (n:=2) (f:=cR) (ai (ae 0) (ai (ax 1) aw))) (ai (ar cV (ax 1) (b8 (n:=2) (f:=aQ) (ai (ae 3) (ai (ae 2) aw)))) aw))))
 (aD (aN (b8 (n:=2) (f:=qB) (ai (ae 3) (ai (bG dt (ai (ae 5) aw)) aw))))
 (aD (cg (bF (ar ey (b8 (n:=2) (f:=aQ) (ai (ae 3) (ai (ax 4) aw))) (ax 3)))
 (kZ (ax 0) (oh (ae 6) (ax 0)))
 bB)
 (aD (aN (b8 (n:=3) (f:=jk) (ai (ar cV (sM (ai (ba (n:=2) (f:=cR) (ai (ae 0) (ai (ax 3) aw))) aw)) (uq (ae 0) (ic (ax 4)) (ic (ax 12)))) (ai (ae 4) (ai (ae 6) aw)))))
 (aD (aN (b8 (n:=2) (f:=aQ) (ai (ae 3) (ai (bG dt (ai (ae 5) aw)) aw))))
 (aD (aN (ar cV (uq (ae 7) (ic (ae 8)) gG) (uq (ae 7) gG (ic (ae 8)))))
 (aD (aN (ar cV (uq (ae 6) (ic (ae 8)) gG) (uq (ae 6) gG (ic (ae 8)))))
 (bf (j4 (ai (ae 4) (ai (b8 (n:=4) (f:=n4) (ai (gb (n:=1) (f:=eg) (ai (ar fK (ba (n:=2) (f:=cR) (ai (ae 0) (ai (ax 3) aw))) (ax 5)) aw)) (ai (ae 5) (ai (ae 4) (ai (ae 7) aw))))) (ai (ae 7) (ai (Nx (ae 6)) aw))))))))))))))))]
theorem qE:aY ["_law_way_here","_law_changes_here","_law_goods","_law_at"] ["_law_way_here","_law_changes_here","_law_goods"] (aL nA):=cj
abbrev sA(e:Ev):Prop:=DIn e 35 "_law_balances" ["_law_way_here","_law_changes_here","_law_goods"] eU
theorem zR(F:FA e "_law_balances" nA)(ab:e.P.given.tree=pi)(U:N0 e "len")(J:N0 e "range")(Y:N0 e "sum"):sA e:=by
 exact bH F qE rfl ∅ (bd3 λ_ _ _ _ _ _ _ _ _=>rfl) λ_ _ _ _ _ _ _ hr hu ac=>#[_,(av (dG PassesOwn.never rfl (eO rfl J (ah (bK cG rfl U Boot.«len» (ah (pv 2) au)) au)) (aP (i:=3) qE.nd rfl (Rs rfl))
 (aE (cf (bo (EH hu) (bK (qK rfl) rfl Y Boot.«sum» (ah (cP (own:=["_law_k"]) (cap:=["_law_at","_law_changes_here","_law_way_here"]) (caps:=[3,1,0]) rfl (scC #[rfl,r0 rfl,rfl,#[rfl,r0 rfl,rfl,#[rfl,r0 rfl,rfl,trivial]]]) (eO rfl J (ah (bK cG rfl U Boot.«len» (ah (pv 0) au)) au)) (λ_ _ _=>(aP (i:=0) (ndL ["_law_k"] ["_law_at","_law_changes_here","_law_way_here"]) rfl (r0 rfl))) (λ_ _ _=>bX) (λ_ _ _=>(aW eH (a9 aS (pv 3) (pv 0) (λ_ _=>rfl)) (a9 aS (a9 aS (pv 2) (pv 0) (λ_ _=>rfl)) (pv 1) (λ_ _=>rfl))))) au)) ay bu)
 (aE (bg wK))
 bA)))
 (aE (bg wK))),
  (aD (dE (gL (ai (bG dt (ai (ae 2) aw)) aw)) (aM 3)
 (cg (bF (ar zc (bG zm (ai (bZ (m:=1) (caps:=[3,1,0]) (gL (ai (bG dt (ai (ae 0) aw)) aw)) (aM 0) bY (ar dF (ar a8 (ae 3) (ae 0)) (ar a8 (ar a8 (ae 2) (ae 0)) (ae 1)))) aw)) (ax 0)))
 (bf (wI wh))
 bB))
 (bf (wI qc)))]
theorem Ey:aY ["_law_told","_law_way_here","_law_i","_law_j"] ["_law_told","_law_way_here","_law_i","_law_j"] (aL rG):=cj
abbrev xF(e:Ev):Prop:=DIn e 35 "_law_keeps" ["_law_told","_law_way_here","_law_i","_law_j"] jz
theorem CZ(F:FA e "_law_keeps" rG)(J:e.P.given.tree=pi):xF e:=by
 exact bH F Ey rfl ∅ (bd4 λ_ _ _ _ _ _ _ _ _ _=>rfl) λ_ _ _ _ _ _ _ hr hu U=>#[_,(av (cf (bo (fU hu) (a9 aS (pv 0) ay (λ_ _=>rfl)) kW bu)
 (aE (bg (zf (ju (fU hu) (a9 aS (pv 1) (pv 2) (λ_ _=>rfl)) ay bu) (z4 (ju (fU hu) (a9 aS (pv 1) (pv 3) (λ_ _=>rfl)) ay bu)))))
 bA)
 (av (cf (bo (fU hu) (a9 aS (pv 0) ay (λ_ _=>rfl)) kW bu)
 (aE (bg (zf (ju ik (aW dA (a9 aS (pv 1) (pv 2) (λ_ _=>rfl)) (a9 aS (a9 aS (pv 0) ay (λ_ _=>rfl)) (pv 2) (λ_ _=>rfl))) (a9 aS (pv 1) (pv 2) (λ_ _=>rfl)) bu) (z4 (ju (fU hu) (aW dA (a9 aS (pv 1) (pv 3) (λ_ _=>rfl)) (a9 aS (a9 aS (pv 0) ay (λ_ _=>rfl)) (pv 3) (λ_ _=>rfl))) (a9 aS (pv 1) (pv 3) (λ_ _=>rfl)) bu)))))
 bA)
 (aE (bg (zf (ju (fU hu) (a9 aS (pv 0) ay (λ_ _=>rfl)) kW bu) (z4 (ju Pg (aW eH (a9 aS (a9 aS (pv 0) ay (λ_ _=>rfl)) ay (λ_ _=>rfl)) (a9 aS (pv 1) (pv 2) (λ_ _=>rfl))) (aW eH (a9 aS (a9 aS (pv 0) ay (λ_ _=>rfl)) ay (λ_ _=>rfl)) (a9 aS (pv 1) (pv 3) (λ_ _=>rfl))) bu))))))),
  (aD (cg (bF (ar ey (ar a8 (ae 0) (ax 0)) (kY ("never" :Str))))
 (bf (wR (ar ey (ar a8 (ae 1) (ae 2)) (ax 0)) (ar ey (ar a8 (ae 1) (ae 3)) (ax 0))))
 bB)
 (aD (cg (bF (ar ey (ar a8 (ae 0) (ax 0)) (kY ("free" :Str))))
 (bf (wR (ar ir (ar cV (ar a8 (ae 1) (ae 2)) (ar a8 (ar a8 (ae 0) (ax 1)) (ae 2))) (ar a8 (ae 1) (ae 2))) (ar ey (ar cV (ar a8 (ae 1) (ae 3)) (ar a8 (ar a8 (ae 0) (ax 1)) (ae 3))) (ar a8 (ae 1) (ae 3)))))
 bB)
 (bf (wR (ar ey (ar a8 (ae 0) (ax 0)) (kY ("most" :Str))) (ar PF (ar dF (ar a8 (ar a8 (ae 0) (ax 1)) (ax 1)) (ar a8 (ae 1) (ae 2))) (ar dF (ar a8 (ar a8 (ae 0) (ax 1)) (ax 0)) (ar a8 (ae 1) (ae 3))))))))]
theorem g5:aY ["_law_bag_here","_law_way_here","_law_known","_law_share","_law_made","_law_one","_law_often"] ["_law_bag_here","_law_way_here","_law_known"] (aL rm):=cj
abbrev xG(e:Ev):Prop:=DIn e 36 "_law_drawn" ["_law_bag_here","_law_way_here","_law_known"] iJ
theorem DF(F:FA e "_law_drawn" rm)(Y:e.P.given.tree=pi)(J:N0 e "zip")(U:iD e):xG e:=by
 exact bH F g5 rfl ∅ (bd3 λ_ _ _ _ _ _ _ _ _=>rfl) λ_ _ _ _ _ _ _ hr hu ab=>#[_,(av (aT (i:=3) g5.nd rfl (Rs rfl) (aI U hr (ah (pv 0) (ah ay au))))
 (av (cS (i:=4) (own:=["_law_number_here"]) (cap:=["_law_share"]) (caps:=[3]) rfl (scC #[rfl,r0 rfl,rfl,trivial]) (bQ (pv 1)) (λ_ _ _=>(aP (i:=0) (ndL ["_law_number_here"] ["_law_share"]) rfl (r0 rfl))) (λ_ _ _=>bX) (λ_ _ _=>(aW eH (pv 0) (pv 1))) g5.nd rfl (r0 rfl) rfl)
 (av (dG PassesOwn.never rfl (bQ (pv 2)) (aP (i:=5) g5.nd rfl (r0 rfl))
 (av (aT (i:=6) g5.nd rfl (Rs rfl) (aI U hr (ah (pv 0) (ah ay au))))
 (av (cf (bo (fU hu) (aI U hr (ah (pv 0) (ah ay au))) ay bu)
 (aE (aT (i:=6) g5.nd rfl (Rs rfl) (aW eH (aI U hr (ah (pv 0) (ah (aW oz ay ay) au))) (aW oz ay ay))))
 bA)
 (aE (cS (i:=4) (own:=["_law_number_here","_law_here"]) (cap:=["_law_often"]) (caps:=[6]) rfl (scC #[rfl,r0 rfl,rfl,trivial]) (ou rfl J (ah (pv 4) (ah (pv 5) au))) (λ_ _ _=>(gu rfl (bU (aP (i:=0) (ndL ["_law_number_here","_law_here"] ["_law_often"]) rfl (r0 rfl)) (bU (aP (i:=1) (ndL ["_law_number_here","_law_here"] ["_law_often"]) rfl (r0 rfl)) ft)))) (λ_ _ _=>bX) (λ_ _ _=>(aW dA (pv 0) (aW eH (pv 2) (pv 1)))) g5.nd rfl (r0 rfl) rfl)))))
 (aE (bg (pv 4)))))),
  (aD (aN (b8 (n:=2) (f:=aQ) (ai (ae 0) (ai (ax 3) aw))))
 (aD (aN (bZ (m:=1) (caps:=[3]) (bR (ae 1)) (aM 0) bY (ar dF (ae 0) (ae 1))))
 (aD (dE (bR (ae 2)) (aM 5)
 (aD (aN (b8 (n:=2) (f:=aQ) (ai (ae 0) (ai (ax 4) aw))))
 (aD (cg (bF (ar ey (b8 (n:=2) (f:=aQ) (ai (ae 0) (ai (ax 9) aw))) (ax 8)))
 (aN (ar dF (b8 (n:=2) (f:=aQ) (ai (ae 0) (ai (ar ow (ax 10) (ax 6)) aw))) (ar ow (ax 10) (ax 6))))
 bB)
 (aN (Bi (m:=2) (caps:=[6]) (Gz (ai (ae 4) (ai (ae 5) aw))) (fq (bV (aM 0) (bV (aM 1) fu))) bY (ar cV (ae 0) (ar dF (ae 2) (ae 1))))))))
 (bf (ae 4)))))]
theorem gk:aY ["_law_script","_law_goods","_law_works_here","_law_changes_here","_law_way_here","_law_yard","_law_known","_law_bag_here","_law_drawn_here","_law_one","_law_i","_law_j","_law_near","_law_far"] ["_law_script"] (aL o5):=cj
theorem OB{a:qh}(F:Fun e.K "law" "law" o5 a fd)(hm:e.mg "law" =pc (.ref a))(bd:e.P.given.tree=pi)(an:N0 e "range")(a2:N0 e "list")(az:N0 e "len")(a0:Cls e.K (e.ca 0))(Fl:xq e)(ab:xn e)(EN:EC e)(md:qQ e)(je:sU e)(su:sA e)(Fq:xG e)(J:qR e)(cb:iD e)(Jm:IS e)(xK:xF e):LM e.P e.w e.K e.mg e.base e.ca 45 "law" ["_law_script"] CQ a fd:=by
 obtain⟨a3,a1,ac,al,kP,am⟩:=ab;obtain⟨as,ap,U,ig,Y⟩:=J;refine#[m9 F gk rfl λbw A outer s H E hr=> ?_,hm,F.kp,F.binds λ_ _ _ _ _ _ us hl=>match us,hl with | [_],_=>rfl];have hu:=hr.units;have bz:=ph hr ∅;exact#[_,(av (mI (aI Fl hr (ah (pv 0) (ah ay (ah ay au)))) (gu rfl (bU (aP (i:=1) gk.nd rfl (r0 rfl)) (bU (aP (i:=2) gk.nd rfl (r0 rfl)) (bU (aP (i:=3) gk.nd rfl (r0 rfl)) (bU (aP (i:=4) gk.nd rfl (Rs rfl)) ft))))))
 (av (aT (i:=5) gk.nd rfl (r0 rfl) (MV al ac (hr.mono ∅) rfl kP am .nil lj (ah (pv 1) (ah (pv 2) au))))
 (av (aT (i:=6) gk.nd rfl (Rs rfl) (aI EN hr (ah (pv 5) au)))
 (av (aT (i:=7) gk.nd rfl (Rs rfl) (aI md hr (ah (aI je hr (ah (pv 0) (ah ay au))) au)))
 (av (cf (kh (jn (aI su hr (ah (pv 4) (ah (pv 3) (ah (pv 1) au))))))
 (aE (aT (i:=4) gk.nd rfl (Rs rfl) (cP (own:=["_law_told"]) (cap:=[]) (caps:=[]) rfl (scC trivial) (bQ (pv 2)) (λ_ _ _=>(aP (i:=0) (ndL ["_law_told"] []) rfl (r0 rfl))) (λ_ _ _=>bX) (λ_ _ _=>ay))))
 bA)
 (av (aT (i:=8) gk.nd rfl (r0 rfl) (aW dA (fj (ah (pv 4) au)) (cP (own:=["_law_turn"]) (cap:=["_law_bag_here","_law_known","_law_way_here"]) (caps:=[7,6,4]) rfl (scC #[rfl,r0 rfl,rfl,#[rfl,r0 rfl,rfl,#[rfl,r0 rfl,rfl,trivial]]]) (eO rfl an (ah ay au)) (λ_ _ _=>(aP (i:=0) (ndL ["_law_turn"] ["_law_bag_here","_law_known","_law_way_here"]) rfl (r0 rfl))) (λ_ _ _=>bX) (λ_ _ _=>(aI Fq hr (ah (pv 1) (ah (pv 3) (ah (pv 2) au))))))))
 (av (dG PassesOwn.never rfl (bQ (pv 8)) (aP (i:=9) gk.nd rfl (r0 rfl))
 (aE (cf (PW.pt (pw_or (kh (jn (aI su hr (ah (pv 9) (ah (pv 3) (ah (pv 1) au)))))) (pw_or1 (kh (jn (wj (pv 5) a0 ig U (hr.mono ∅) Y .nil lj (ah (mf iX rfl a2 Boot.«list» (ah (pv 9) au)) au)))))))
 (aE (bg wK))
 bA)))
 (av (aT (i:=10) gk.nd rfl (r0 rfl) (aI cb hr (ah (pv 7) (ah (bK cG rfl az Boot.«len» (ah (pv 2) au)) au))))
 (av (dG PassesOwn.never rfl (eO rfl an (ah (bK cG rfl az Boot.«len» (ah (pv 2) au)) au)) (aP (i:=11) gk.nd rfl (r0 rfl))
 (av (aT (i:=12) gk.nd rfl (r0 rfl) (aI Jm hr (ah (pv 5) (ah (a9 aS (a9 aS (pv 2) (pv 10) (λ_ _=>rfl)) ay (λ_ _=>rfl)) (ah (a9 aS (a9 aS (pv 2) (pv 11) (λ_ _=>rfl)) ay (λ_ _=>rfl)) au)))))
 (av (aT (i:=13) gk.nd rfl (r0 rfl) (aI Jm hr (ah (pv 5) (ah (a9 aS (a9 aS (pv 2) (pv 11) (λ_ _=>rfl)) ay (λ_ _=>rfl)) (ah (a9 aS (a9 aS (pv 2) (pv 10) (λ_ _=>rfl)) ay (λ_ _=>rfl)) au)))))
 (aE (dG PassesOwn.never rfl (bQ (pv 8)) (aP (i:=9) gk.nd rfl (r0 rfl))
 (aE (cf (PW.pt (pw_or (kh (jn (aI xK hr (ah (pv 12) (ah (pv 9) (ah (pv 10) (ah (pv 11) au))))))) (pw_or1 (kh (jn (aI xK hr (ah (pv 13) (ah (pv 9) (ah (pv 11) (ah (pv 10) au))))))))))
 (aE (bg wK))
 bA)))))))
 (aE (bg wK))))))))))),
  (aD (kZ (ba (n:=3) (f:=kS) (ai (ae 0) (ai (ax 4) (ai (ax 5) aw)))) (fq (bV (aM 1) (bV (aM 2) (bV (aM 3) (bV (aM 4) fu))))))
 (aD (aN (MY (c:=0) (n:=2) (f:=kM) (ai (ae 1) (ai (ae 2) aw))))
 (aD (aN (jf (gb (n:=1) (f:=mQ) (ai (ae 5) aw))))
 (aD (aN (gb (n:=1) (f:=eg) (ai (ba (n:=2) (f:=cR) (ai (ae 0) (ai (ax 3) aw))) aw)))
 (aD (cg (kg (k9 (ba (n:=3) (f:=eU) (ai (ae 4) (ai (ae 3) (ai (ae 1) aw))))))
 (aN (bZ (m:=1) (caps:=[]) (bR (ae 2)) (aM 0) bY (ax 0)))
 bB)
 (aD (aN (ar cV (sM (ai (ae 4) aw)) (bZ (m:=1) (caps:=[7,6,4]) (gL (ai (ax 4) aw)) (aM 0) bY (b8 (n:=3) (f:=iJ) (ai (ae 1) (ai (ae 3) (ai (ae 2) aw)))))))
 (aD (dE (bR (ae 8)) (aM 9)
 (cg (qT (kg (k9 (ba (n:=3) (f:=eU) (ai (ae 9) (ai (ae 3) (ai (ae 1) aw)))))) (kg (k9 (iK (c:=0) (m:="balanced") (n:=1) (f:=iy) (ae 5) (ai (bG qs (ai (ae 9) aw)) aw)))))
 (bf (wI wh))
 bB))
 (aD (aN (b8 (n:=2) (f:=aQ) (ai (ae 7) (ai (bG dt (ai (ae 2) aw)) aw))))
 (aD (dE (gL (ai (bG dt (ai (ae 2) aw)) aw)) (aM 11)
 (aD (aN (gb (n:=3) (f:=p6) (ai (ae 5) (ai (ar a8 (ar a8 (ae 2) (ae 10)) (ax 0)) (ai (ar a8 (ar a8 (ae 2) (ae 11)) (ax 0)) aw)))))
 (aD (aN (gb (n:=3) (f:=p6) (ai (ae 5) (ai (ar a8 (ar a8 (ae 2) (ae 11)) (ax 0)) (ai (ar a8 (ar a8 (ae 2) (ae 10)) (ax 0)) aw)))))
 (dE (bR (ae 8)) (aM 9)
 (cg (qT (kg (k9 (b8 (n:=4) (f:=jz) (ai (ae 12) (ai (ae 9) (ai (ae 10) (ai (ae 11) aw))))))) (kg (k9 (b8 (n:=4) (f:=jz) (ai (ae 13) (ai (ae 9) (ai (ae 11) (ai (ae 10) aw))))))))
 (bf (wI wh))
 bB)))))
 (bf (wI qc)))))))))))]
end
theorem wm(ns:List Int)(k:Nat):∃c,cR [vI ns,.int (k:Int)] []=.ok (.int c,[])/\(k<ns.length->c=nth ns k):=by by_cases h:k<ns.length;refine#[nth ns k,cv (s:=#[[pc (vI ns),pc (.int (k:Int))],[]]) ?_,λ_=>rfl];have hk:((k:Int)<(ns.length:Int)):=⋯;simp[tO,hk,g9 h];refine#[0,cv (s:=#[[pc (vI ns),pc (.int (k:Int))],[]]) ?_,λz=>absurd z h];have hk:¬((k:Int)<(ns.length:Int)):=⋯;simp[tO,hk]
theorem zo(z:Int):∃a c,eg [.int z] []=.ok (.ptr 0,[.lst [.int a,.int c]]):=by refine#[z/2%10^60*(z%2),z/2%2147483647,cv (s:=#[[pc (.int z)],[.lst [.int (z/2%10^60*(z%2)),.int (z/2%2147483647)]]]) ?_];have hm:RG (z/2%1000000000000000000000000000000000000000000000000000000000000) (z%2):=eN (.inr ⋯);simp[Cf,iF,fJ,j6,cN hm]
theorem pq{a c m:Int}(hk:O[k]? =pc (.lst [.int a,.int c]))(hm:0<m):∃r a' J,aQ [.ptr k,.int m] O=.ok (.int r,O.set k (.lst [.int a',.int J]))/\0<=r/\r<m:=by
 have h0:ixD O (.ptr k) (.int 0)=.ok (.int a):=pV hk rfl;have h1:ixD O (.ptr k) (.int 1)=.ok (.int c):=pV hk rfl;by_cases h:0<a;refine#[a%m,a/m,c,cv (s:=#[[pc (.ptr k),pc (.int m),pc (.int (a%m))],O.set k (.lst [.int (a/m),.int c])]) ?_,So _ ⋯,Sm _ hm];have e1:=dM (i:=2) (m:=ak gD (ak ixD (aa 0) (aq (.int 0))) (aa 1)) (s:=#[[pc (.ptr k),pc (.int m),pi],O]) (s':=#[[pc (.ptr k),pc (.int m),pi],O]) (d:=.int (a%m)) (by simp[h0,fJ hm]);have e2:gA (ak d4 (ak ixD (aa 0) (aq (.int 0))) (aa 1)) (jJ (aa 0) (aq (.int 0))) #[[pc (.ptr k),pc (.int m),pc (.int (a%m))],O]=.next #[[pc (.ptr k),pc (.int m),pc (.int (a%m))],O.set k (.lst [.int (a/m),.int c])]:=by rw[sJ,show ak d4 (ak ixD (aa 0) (aq (.int 0))) (aa 1) #[[pc (.ptr k),pc (.int m),pc (.int (a%m))],O]=.ok (.int (a/m),#[[pc (.ptr k),pc (.int m),pc (.int (a%m))],O]) by simp[h0,mj (show m≠0 by omega),pT hm],aj];rw[lX (k:=k) (a:=0) (ds:=[.int a,.int c]) (ag rfl) rfl hk (by simp)];rfl
 show mN #[[pc (.ptr k),pc (.int m),pi],O]=_;rw[mN];refine eK (wp (o8 (s':=#[[pc (.ptr k),pc (.int m),pi],O]) (by simp[h0,h])) ?_);rw[bE e1];refine wp (bE e2) ?_;exact br (ag rfl);generalize U:(c*48271+4099)%2147483647=J;have an:0<=J:=by rw[<- U];exact So _ ∅
 have ap:J<2147483647:=by rw[<- U];exact Sm _ ∅
 generalize Y:O.set k (.lst [.int a,.int J])=O';have ab:O'[k]? =pc (.lst [.int a,.int J]):=by rw[<- Y];exact dk hk
 have ac:ixD O' (.ptr k) (.int 1)=.ok (.int J):=pV ab rfl;refine#[J*(J/65536+7)%2147483629/32%m,a,J, ?_,So _ ⋯,Sm _ hm];rw[Y];refine cv (s:=#[[pc (.ptr k),pc (.int m),pi],O']) ?_;have e2:gA (ak gD (ak cq (ak cI (ak ixD (aa 0) (aq (.int 1))) (aq (.int 48271))) (aq (.int 4099))) (aq (.int 2147483647))) (jJ (aa 0) (aq (.int 1))) #[[pc (.ptr k),pc (.int m),pi],O]=.next #[[pc (.ptr k),pc (.int m),pi],O']:=by
  rw[sJ,show ak gD (ak cq (ak cI (ak ixD (aa 0) (aq (.int 1))) (aq (.int 48271))) (aq (.int 4099))) (aq (.int 2147483647)) #[[pc (.ptr k),pc (.int m),pi],O]=.ok (.int J,#[[pc (.ptr k),pc (.int m),pi],O]) by rw[<- U];simp[h1,cN (eN (i:=c) (j:=48271) (.inr ∅)),fJ],aj]
  rw[lX (k:=k) (a:=1) (ds:=[.int a,.int c]) (ag rfl) rfl hk (by simp),<- Y];rfl
 show mN #[[pc (.ptr k),pc (.int m),pi],O]=_;rw[mN];refine wp (bE (s':=#[[pc (.ptr k),pc (.int m),pi],O]) (wp (ip (s':=#[[pc (.ptr k),pc (.int m),pi],O]) (by simp[h0,h])) rfl)) ?_;refine wp (bE e2) ?_;refine br ?_;have al:RG J (J/65536+7):=eN (.inl ⋯);simp[ac,iF,cN al,fJ,fJ hm]
theorem IY{a c wide:Int}(hk:O[k]? =pc (.lst [.int a,.int c]))(hw:0<wide)(bz:wide<=1000000000):∃r a' c',fT [.ptr k,.int wide] O=.ok (.int r,O.set k (.lst [.int a',.int c']))/\Sz 31 r:=by
 obtain⟨w,a1,c1,e1,w0,w1⟩:=pq hk (m:=6) ∅;have k1:(O.set k (.lst [.int a1,.int c1]))[k]? =pc (.lst [.int a1,.int c1]):=dk hk;have s1:=dM (i:=2) (m:=bN 2 aQ (af (aa 0) (af (aq (.int 6)) ao))) (s:=#[[pc (.ptr k),pc (.int wide),pi],O]) (jT (n:=2) (ds:=[.ptr k,.int 6]) (s':=#[[pc (.ptr k),pc (.int wide),pi],O]) (by simp) rfl e1);generalize ac:O.set k (.lst [.int a1,.int c1])=O1 at *;have Y:∀x y:Int,O1.set k (.lst [.int x,.int y])=O.set k (.lst [.int x,.int y]):=λx y=>by rw[<- ac,U3]
 have be:∀T,fW=T->fT=runM 3 T:=λT h=>by rw[fT,h]
 by_cases h4:w=4;refine#[0,a1,c1, ?_,Sz.zero 31];rw[ac];refine cv (s:=#[[pc (.ptr k),pc (.int wide),pc (.int w)],O1]) ?_;show fW #[[pc (.ptr k),pc (.int wide),pi],O]=_;rw[fW,bE s1];exact eK (wp (o8 (s':=#[[pc (.ptr k),pc (.int wide),pc (.int w)],O1]) (by simp[h4])) rfl);have f4:ifS (a7 (ak eqD (aa 2) (aq (.int 4)))) (bD (aq (.int 0))) bC #[[pc (.ptr k),pc (.int wide),pc (.int w)],O1]=.next #[[pc (.ptr k),pc (.int wide),pc (.int w)],O1]:=wp (ip (s':=#[[pc (.ptr k),pc (.int wide),pc (.int w)],O1]) (by simp[h4])) rfl
 by_cases h5:w=5;obtain⟨r2,J,U,e2,p2,q2⟩:=pq k1 (m:=1000) ∅;have k2:(O1.set k (.lst [.int J,.int U]))[k]? =pc (.lst [.int J,.int U]):=dk k1;rw[Y] at e2 k2;obtain⟨r3,a3,c3,e3,p3,q3⟩:=pq k2 (m:=1000000) ∅;have k3:((O.set k (.lst [.int J,.int U])).set k (.lst [.int a3,.int c3]))[k]? =pc (.lst [.int a3,.int c3]):=dk k2;rw[U3] at e3 k3;obtain⟨r4,a4,c4,e4,p4,q4⟩:=pq k3 (m:=9) ∅;rw[U3] at e4;refine#[(r2*1000000+r3)%wide-r4,a4,c4, ?_, ?_];refine cv (s:=#[[pc (.ptr k),pc (.int wide),pc (.int w)],O.set k (.lst [.int a4,.int c4])]) ?_;show fW #[[pc (.ptr k),pc (.int wide),pi],O]=_;rw[fW,bE s1];refine wp (bE f4) (eK (wp (o8 (s':=#[[pc (.ptr k),pc (.int wide),pc (.int w)],O1]) (by simp[h5])) ?_));refine br ?_;have t2:=jT (n:=2) (f:=aQ) (ma:=af (aa 0) (af (aq (.int 1000)) ao)) (s:=#[[pc (.ptr k),pc (.int wide),pc (.int w)],O1]) (s':=#[[pc (.ptr k),pc (.int wide),pc (.int w)],O1]) (ds:=[.ptr k,.int 1000]) (by simp) rfl e2;have t3:=jT (n:=2) (f:=aQ) (ma:=af (aa 0) (af (ak hJ (aq (.int 10)) (aq (.int 6))) ao)) (s:=#[[pc (.ptr k),pc (.int wide),pc (.int w)],O.set k (.lst [.int J,.int U])]) (s':=#[[pc (.ptr k),pc (.int wide),pc (.int w)],O.set k (.lst [.int J,.int U])]) (ds:=[.ptr k,.int 1000000]) (by simp[j6]) rfl e3;have t4:=jT (n:=2) (f:=aQ) (ma:=af (aa 0) (af (aq (.int 9)) ao)) (s:=#[[pc (.ptr k),pc (.int wide),pc (.int w)],O.set k (.lst [.int a3,.int c3])]) (s':=#[[pc (.ptr k),pc (.int wide),pc (.int w)],O.set k (.lst [.int a3,.int c3])]) (ds:=[.ptr k,.int 9]) (by simp) rfl e4;have bb:RG r2 1000000:=eN (.inr ∅);have u1:ak cI (bN 2 aQ (af (aa 0) (af (aq (.int 1000)) ao))) (ak hJ (aq (.int 10)) (aq (.int 6))) #[[pc (.ptr k),pc (.int wide),pc (.int w)],O1]=.ok (.int (r2*1000000),#[[pc (.ptr k),pc (.int wide),pc (.int w)],O.set k (.lst [.int J,.int U])]):=by rw[cK,t2,aj];simp[j6,cN bb]
 have u2:ak cq (ak cI (bN 2 aQ (af (aa 0) (af (aq (.int 1000)) ao))) (ak hJ (aq (.int 10)) (aq (.int 6)))) (bN 2 aQ (af (aa 0) (af (ak hJ (aq (.int 10)) (aq (.int 6))) ao))) #[[pc (.ptr k),pc (.int wide),pc (.int w)],O1]=.ok (.int (r2*1000000+r3),#[[pc (.ptr k),pc (.int wide),pc (.int w)],O.set k (.lst [.int a3,.int c3])]):=by rw[cK,u1,aj];dsimp only;rw[t3,aj];rfl
 rw[cK,cK,u2,aj];dsimp only;rw[ag (i:=1) rfl,aj];dsimp only;rw[fJ hw,aj,aj];dsimp only;rw[t4,aj];rfl;unfold Sz;have g1:0<=(r2*1000000+r3)%wide:=So _ ⋯;have g2:(r2*1000000+r3)%wide<wide:=Sm _ hw;have:(2:Nat)^31=2147483648:=∅;omega;have f5:ifS (a7 (ak eqD (aa 2) (aq (.int 5)))) (bD (ak lV (ak gD (ak cq (ak cI (bN 2 aQ (af (aa 0) (af (aq (.int 1000)) ao))) (ak hJ (aq (.int 10)) (aq (.int 6)))) (bN 2 aQ (af (aa 0) (af (ak hJ (aq (.int 10)) (aq (.int 6))) ao)))) (aa 1)) (bN 2 aQ (af (aa 0) (af (aq (.int 9)) ao))))) bC #[[pc (.ptr k),pc (.int wide),pc (.int w)],O1]=.next #[[pc (.ptr k),pc (.int wide),pc (.int w)],O1]:=wp (ip (s':=#[[pc (.ptr k),pc (.int wide),pc (.int w)],O1]) (by simp[h5])) rfl
 obtain⟨r2,J,U,e2,p2,q2⟩:=pq k1 (m:=7) ∅;rw[Y] at e2;refine#[r2-3,J,U, ?_, ?_];refine cv (s:=#[[pc (.ptr k),pc (.int wide),pc (.int w)],O.set k (.lst [.int J,.int U])]) ?_;show fW #[[pc (.ptr k),pc (.int wide),pi],O]=_;rw[fW,bE s1];refine wp (bE f4) (wp (bE f5) (br ?_));have t2:=jT (n:=2) (f:=aQ) (ma:=af (aa 0) (af (aq (.int 7)) ao)) (s:=#[[pc (.ptr k),pc (.int wide),pc (.int w)],O1]) (s':=#[[pc (.ptr k),pc (.int wide),pc (.int w)],O1]) (ds:=[.ptr k,.int 7]) (by simp) rfl e2;rw[cK,t2,aj];rfl;unfold Sz;have:(2:Nat)^31=2147483648:=∅;omega
def cy(O:aC)(j:Nat):Prop:=∃a c:Int,O[j]? =pc (.lst [.int a,.int c])
theorem K0(h:cy O j)(hm:0<m):∃r O',aQ [.ptr j,.int m] O=.ok (.int r,O')/\0<=r/\r<m/\cy O' j/\∀i,i≠j->O'[i]? =O[i]? :=by obtain⟨a,c,h⟩:=h;obtain⟨r,J,U,e,h1,h2⟩:=pq h hm;exact#[r,_,e,h1,h2,#[J,U,dk h],λi hi=>dm λz=>hi z.symm]
theorem Hq{wide:Int}(h:cy O j)(U:0<wide)(J:wide<=1000000000):∃r O',fT [.ptr j,.int wide] O=.ok (.int r,O')/\Sz 31 r/\cy O' j/\∀i,i≠j->O'[i]? =O[i]? :=by obtain⟨a,c,h⟩:=h;obtain⟨r,Y,c',e,h1⟩:=IY h U J;exact#[r,_,e,h1,#[Y,c',dk h],λi hi=>dm λz=>hi z.symm]
def azB(x:Str):Bool:= !decide (x.cps.toList<("a" :Str).cps.toList)&& !decide (("z" :Str).cps.toList<x.cps.toList)
theorem D1{i j:Str}:uf O (.str i) (.str j)=.ok (.bl (!decide (j.cps.toList<i.cps.toList))):=rfl
theorem NQ{x:Str}(h:s.r[i]? =pc (pc (.str x))):vj uf uf (aq (.str ("a" :Str))) (aa i) (aq (.str ("z" :Str))) s=.ok (.bl (azB x),s):=by
 rw[Ig,aF,aj,ag h,aj];dsimp only;rw[D1,aj];unfold azB;cases (!decide (x.cps.toList<("a" :Str).cps.toList)) with
 | false=>rfl
 | true=>
  dsimp only;rw[aF,aj];dsimp only;rw[D1,aj];rfl
def nmB(z:Str):Bool:=decide (1<=z.length)&&decide (z.length<=8)&&z.cps.toList.all λc=>azB #[#v[c]]
theorem len_list:z.cps.toList.length=z.length:=by unfold Str.length;simp
theorem Jl(h:z.length<=1000000):ot [.str z] []=.ok (.bl (nmB z),[]):=by
 have J:bJ cx (af (aa 0) ao) #[[pc (.str z)],[]]=.ok (.int (z.length:Int),#[[pc (.str z)],[]]):=by rw[gI,aV,ag (i:=0) rfl,aj,aG,aj,aj];dsimp only;rw[JZ (kD h),aj]
 have U:orT (a7 (ak ltD (bJ cx (af (aa 0) ao)) (aq (.int 1)))) (a7 (ak gtD (bJ cx (af (aa 0) ao)) (aq (.int 8)))) #[[pc (.str z)],[]]=.ok (decide ((z.length:Int)<1)||decide ((8:Int)<(z.length:Int)),#[[pc (.str z)],[]]):=by rw[sm,gJ,cK,J,aj,aF,aj];dsimp only;rw[nH,aj,aj];dsimp only;rw[aj];dsimp only;rw[gM J];cases decide ((z.length:Int)<1) <;> rfl
 have hc:=dg (l:=z.cps.toList) (item:=λc=>.str #[#v[c]]) (out:=λc=>.bl (azB #[#v[c]])) (caps:=[]) (im:=Dd (aa 0)) (e:=vj uf uf (aq (.str ("a" :Str))) (aa 0) (aq (.str ("z" :Str)))) (k:=pi) (s:=#[[pc (.str z)],[]]) (by rw[GC,ag (i:=0) rfl,aj];rfl) trivial (by rw[len_list];exact kD h) (λc _=>NQ rfl)
 rw[show z.cps.toList.map (λc=>D.bl (azB #[#v[c]]))=(z.cps.toList.map λc=>azB #[#v[c]]).map D.bl by rw[wf];rfl] at hc;refine cv (s:=#[[pc (.str z)],[]]) ?_;show vJ #[[pc (.str z)],[]]=_;rw[vJ];by_cases h1:z.length<1\/8<z.length;rw[show nmB z=wh by
  unfold nmB;rcases h1 with q | q
  rw[decide_eq_false (by omega:¬1<=z.length),T3,T3];rw[decide_eq_false (by omega:¬z.length<=8),UP,T3]]
 refine eK (wp (o8 (s':=#[[pc (.str z)],[]]) ?_) (br (aF _)));rw[U];rcases h1 with q | q
 rw[decide_eq_true (show (z.length:Int)<1 by omega),VS];rw[decide_eq_true (show (8:Int)<(z.length:Int) by omega),Bool.or_true];refine wp (bE (wp (ip (s':=#[[pc (.str z)],[]]) ?_) rfl)) (br ?_);rw[U,decide_eq_false (show ¬(z.length:Int)<1 by omega),decide_eq_false (show ¬(8:Int)<(z.length:Int) by omega),T9];rw[gI,aV,hc,aj,aG,aj,aj];dsimp only;rw[Ee,aj];unfold nmB;rw[decide_eq_true (by omega:1<=z.length),decide_eq_true (by omega:z.length<=8),Tp,Tp,TH];rfl
abbrev ABC:Str:="abcdefghijklmnopqrstuvwxyz"
theorem HH:sg ABC=(uM 26).map (97 + ·):=∅
def mkS(l:List Nat):Str:=#[l.toArray]
theorem gC{l:List Nat}:sg (mkS l)=l:=by simp[sg,mkS]
theorem g8(l:List Nat):(mkS l).length=l.length:=by rw[<- zC,gC]
def azL(l:List Nat):Prop:=∀c∈l,97<=c/\c<=122
theorem Mv:azB #[#v[c]]=(decide (97<=c)&&decide (c<=122)):=by unfold azB;rw[show ("a" :Str).cps.toList=[97] by decide,show ("z" :Str).cps.toList=[122] by decide];show (!decide ([c] < [97])&& !decide ([122] < [c]))=_;rw[StrLaws.lt_cons_cons,StrLaws.lt_cons_cons,StrLaws.lt_nil_nil,UP,T9,UP,T9];congr 1;rw[RH];simp;rw[RH];simp
structure qY(z:Str):Prop where
 lo:1<=z.length
 hi:z.length<=8
 az:azL (sg z)
theorem qY.nm(h:qY z):nmB z=true:=by unfold nmB;rw[decide_eq_true h.lo,decide_eq_true h.hi,Tp,Tp,SD];intro c hc;have:=h.az c hc;rw[Mv,decide_eq_true this.1,decide_eq_true this.2];rfl
theorem Oj{i:Int}(h0:0<=i)(h1:i<26):ixD O (.str ABC) (.int i)=.ok (.str (mkS [97+i.toNat])):=by
 have J:i.toNat<ABC.cps.toList.length:=by rw[show ABC.cps.toList.length=26 by decide];omega
 have ha:=gZ J;rw[show ((i.toNat:Nat):Int)=i by omega] at ha;have U:ABC.cps.toList[i.toNat]=97+i.toNat:=by have:=HH;rw[List.getElem_of_eq this];simp
 rw[U] at ha;show (if ABC.length<=16777216 then (match atI ABC.cps.toList i with
  | some c=>Res.ok (D.str #[#v[c]])
  | none=>.bad) else .bad)=_
 rw[if_pos ∅,ha];rfl
theorem nU{pre rest:List D}(h:(uM n).map (λ(i:Nat)=>D.int (i:Int))=pre++d::rest):d=.int (pre.length:Int)/\pre.length<n:=by
 have h1:((uM n).map (λ(i:Nat)=>D.int (i:Int)))[pre.length]? =pc d:=by rw[h];simp
 have h2:pre.length<n:=by have:=congrArg S7 h;simp at this;omega
 rw[wv,Sd h2] at h1;exact#[by simpa using h1.symm,h2]
abbrev sD(l:List Str):D:=.lst (l.map D.str)
theorem vK{a b:Str}(h:a.length+b.length<=1000000):cq O (.str a) (.str b)=.ok (.str (a++b)):=if_pos (kD h)
abbrev pD(p:Str×Int):D:=.tup [.str p.1,.int p.2]
abbrev psD(l:List (Str×Int)):D:=.lst (l.map pD)
structure Wk where
 nm:Str
 us:List (Str×Int)
 ms:List (Str×Int)
abbrev wD(w:Wk):D:=.tup [.str w.nm,psD w.us,psD w.ms]
abbrev wsD(l:List Wk):D:=.lst (l.map wD)
@[simp] theorem dO {l:List Str}:aR (l.map D.str)=true:=by
 induction l with
 | nil=>rfl
 | cons a l J=>simp[aR,cW,J]
@[simp] theorem iB:aR (l.map pD)=true:=by
 induction l with
 | nil=>rfl
 | cons a l J=>simp[aR,cW,J]
@[simp] theorem mT {l:List Wk}:aR (l.map wD)=true:=by
 induction l with
 | nil=>rfl
 | cons a l J=>simp[aR,cW,J]
theorem qN{l:List Str}:cz O (l.map D.str)=l.map D.str:=by
 induction l with
 | nil=>unfold cz;rfl
 | cons a l J=>rw[ww];unfold cz;rw[J];unfold res;rfl
theorem Ga{l:List Str}:aR [.str z,.lst (l.map D.str)]=true:=by show (qc&&(aR (l.map D.str)&&qc))=qc;rw[dO];rfl
theorem Lw{l m:List Str}:aR [.str z,.lst (l.map D.str),.lst (m.map D.str)]=true:=by show (qc&&(aR (l.map D.str)&&(aR (m.map D.str)&&qc)))=qc;rw[dO,dO];rfl
theorem J0{l:List Str}(h:O[k]? =pc (.lst (l.map D.str))){g:List Str}:cz O (cz O [.str z,.lst (g.map D.str),.ptr k])=[.str z,.lst (g.map D.str),.lst (l.map D.str)]:=by
 have h1:cz O [.str z,.lst (g.map D.str),.ptr k]=[.str z,.lst (g.map D.str),.lst (l.map D.str)]:=by simp only[cz,res,qN,h]
 rw[h1];simp only[cz,res,qN]
theorem M6{l:List Str}(h:O[k]? =pc (.lst (l.map D.str))):cz O (cz O [.str z,.ptr k])=[.str z,.lst (l.map D.str)]:=by
 have h1:cz O [.str z,.ptr k]=[.str z,.lst (l.map D.str)]:=by simp only[cz,res,qN,h]
 rw[h1];simp only[cz,res,qN]
theorem Jw{α:Type}{f:α->D}{l:List α}:fO (l.map f)=l.zipIdx.map λp=>.tup [.int (p.2:Int),f p.1]:=by unfold fO;rw[Sy,TL,wf];rfl
theorem Ep{α:Type}{g:α×Nat->D}{l:List α}{pre rest:List D}(h:l.zipIdx.map g=pre++d::rest):∃(J:pre.length<l.length),d=g (l[pre.length],pre.length):=by
 have J:pre.length<l.length:=by have:=congrArg S7 h;simp at this;omega
 have h1:(l.zipIdx.map g)[pre.length]? =pc d:=by rw[h];simp
 rw[wv,sK (by simpa using J)] at h1;refine#[J, ?_];simpa using h1.symm
theorem i6{α:Type}{g:α->D}{l:List α}{pre rest:List D}(h:l.map g=pre++d::rest):∃(J:pre.length<l.length),d=g (l[pre.length]):=by
 have J:pre.length<l.length:=by have:=congrArg S7 h;simp at this;omega
 have h1:(l.map g)[pre.length]? =pc d:=by rw[h];simp
 rw[wv,sK J] at h1;exact#[J,by simpa using h1.symm]
theorem kv{m:SM}(h:m #[ds.map pc++u0 (n-ds.length) pi,O]=.next s):runM n m ds O=.ok (.non,s.o):=by unfold runM;rw[h]
theorem FP{l:List Str}:inD O (.str z) (sD l)=.ok (.bl (l.any (· == z))):=by unfold inD inB;dsimp only;rw[ia];dsimp only;rw[mU]
theorem yS{l:List Str}:mK O (.str z) (sD l)=.ok (.bl (!l.any (· == z))):=by unfold mK inB;dsimp only;rw[ia];dsimp only;rw[mU]
theorem HN{l:List Str}(h:z∈l):l.any (· == z)=true:=Vv.mpr #[z,h,by simp]
theorem Gp{l:List Str}(h:z∉l):l.any (· == z)=false:=by
 rw[Ug];intro y hy e;have:y=z:=by simpa using e
 exact h (this▸hy)
theorem kB{l:List Str}(h:l.Nodup)(hi:i<l.length):l[i]∉l.take i:=by intro hm;obtain⟨j,J,e⟩:=Rw hm;rw[S3] at J;rw[List.getElem_take] at e;exact Ta.mp h j i ⋯ hi ⋯ e
theorem M1{J:List Wk}(h1:goods.length<=10)(h2:J.length<=10):jX [sD goods,wsD J] []=.ok (.non,[]):=by
 refine kv (s:=#[[pc (sD goods),pc (wsD J)],[]]) ?_;show qf #[[pc (sD goods),pc (wsD J)],[]]=_;rw[qf];have U:∀(i:Nat) (ds:List D),[pc (sD goods),pc (wsD J)][i]? =pc (pc (.lst ds))->bJ cx (af (aa i) ao) #[[pc (sD goods),pc (wsD J)],[]]=.ok (.int (ds.length:Int),#[[pc (sD goods),pc (wsD J)],[]]):=λi ds h=>by rw[gI,aV,ag h,aj,aG,aj,aj];dsimp only;rw[fg,aj]
 refine wp (bE (wp (ip (by rw[gM (U 0 _ rfl),sB,decide_eq_false ⋯])) rfl)) ?_;exact wp (ip (by rw[gM (U 1 _ rfl),sB,decide_eq_false ⋯])) rfl
theorem Fz{l:List Str}(hz:qY z)(J:z∉l):gP [.str z,sD l] []=.ok (.non,[]):=by refine kv (s:=#[[pc (.str z),pc (sD l)],[]]) ?_;show pZ #[[pc (.str z),pc (sD l)],[]]=_;rw[pZ];have h1:aX 1 ot (af (aa 0) ao) #[[pc (.str z),pc (sD l)],[]]=.ok (.bl qc,#[[pc (.str z),pc (sD l)],[]]):=cC (ds:=[.str z]) (by rw[aV,ag (i:=0) rfl];rfl) (by simp) rfl (by rw[Jl (by have:=hz.hi;omega),hz.nm]) (by simp);refine wp (bE (wp (ip (s':=#[[pc (.str z),pc (sD l)],[]]) ?_) rfl)) (wp (ip (s':=#[[pc (.str z),pc (sD l)],[]]) ?_) rfl);rw[sR,gJ,h1];rfl;rw[gJ,cK,ag (i:=0) rfl,aj,ag (i:=1) rfl,aj];dsimp only;rw[FP,Gp J];rfl
theorem J6(h:∀z∈goods,qY z)(nd:goods.Nodup):∃O,jh [sD goods] []=.ok (.non,O):=by
 obtain⟨s',el,J,U,Y⟩:=dh (ok:=okC (fO (goods.map D.str)) pi) (g:=c7 (bc (aB 1) (bc (aB 2) c8)) 2) (body:=jN)
  (λ_ s=>∃J U,s=#[[pc (sD goods),J,U],[]]) (λ_ _ _=>trivial) (fO (goods.map D.str)) [] (by rintro pre d rest ed s ⟨J,U,rfl⟩;rw[wT,Jw] at ed;obtain⟨hl,rfl⟩:=Ep ed;refine#[#[[pc (sD goods),pc (.int (pre.length:Int)),pc (.str (goods[pre.length]))],[]],#[[pc (sD goods),pc (.int (pre.length:Int)),pc (.str (goods[pre.length]))],[]],by rw[tX];rfl,.inl ?_,_,_,rfl];rw[jN];refine dB (cC (ds:=[.str (goods[pre.length]),sD (goods.take pre.length)]) (d:=.non) ?_ Ga rfl (Fz (h _ (AL _)) (kB nd hl)) (by simp));rw[aV,ag (i:=2) rfl,aj,aV,DN,ag (i:=0) rfl,aj,Bv,aj,AR,ag (i:=1) rfl,aj];dsimp only;rw[aj];dsimp only;rw[ia];dsimp only;unfold M.cutD;rw[HT.tx,HT.pB,sB,show min pre.length goods.length=pre.length by omega,TX,U9,<- UY];rfl) #[[pc (sD goods),pi,pi],[]] #[_,_,rfl]
 have hf:=cY (im:=dQ (af (aa 0) ao)) (g:=c7 (bc (aB 1) (bc (aB 2) c8)) 2) (body:=jN) (s:=#[[pc (sD goods),pi,pi],[]]) (ds:=fO (goods.map D.str)) (k:=pi) (s1:=#[[pc (sD goods),pi,pi],[]]) (by rw[uK,aV,ag (i:=0) rfl,aj,aG,aj,aj])
 rw[el,Y] at hf;exact#[_,kv (s:=#[[pc (sD goods),J,U],[]]) (by show oJ #[[pc (sD goods),pi,pi],[]]=_;rw[oJ,hf])]
theorem Nn{goods l:List Str}(h1:z∈goods)(h2:z∉l):ko [.str z,sD goods,sD l] []=.ok (.non,[]):=by refine kv (s:=#[[pc (.str z),pc (sD goods),pc (sD l)],[]]) ?_;show qi #[[pc (.str z),pc (sD goods),pc (sD l)],[]]=_;rw[qi];refine wp (bE (wp (ip (s':=#[[pc (.str z),pc (sD goods),pc (sD l)],[]]) ?_) rfl)) (wp (ip (s':=#[[pc (.str z),pc (sD goods),pc (sD l)],[]]) ?_) rfl);rw[gJ,cK,ag (i:=0) rfl,aj,ag (i:=1) rfl,aj];dsimp only;rw[yS,HN h1];rfl;rw[gJ,cK,ag (i:=0) rfl,aj,ag (i:=2) rfl,aj];dsimp only;rw[FP,Gp h2];rfl
theorem yR(i:Int):gB [.int i] []=.ok (.bl qc,[]):=by refine cv (s:=#[[pc (.int i)],[]]) ?_;simp[ze]
theorem Jf{i:Int}(h:1<=i):i3 [.int i] []=.ok (.non,[]):=by refine kv (s:=#[[pc (.int i)],[]]) ?_;show nv #[[pc (.int i)],[]]=_;rw[nv];refine wp (ip (s':=#[[pc (.int i)],[]]) ?_) rfl;have h1:aX 1 gB (af (aa 0) ao) #[[pc (.int i)],[]]=.ok (.bl qc,#[[pc (.int i)],[]]):=cC (ds:=[.int i]) (by rw[aV,ag (i:=0) rfl];rfl) (by simp) rfl (yR i) (by simp);rw[sm,sR,gJ,h1,aj,aj];dsimp only;rw[aj];dsimp only;rw[if_neg ∅,gJ,cK,ag (i:=0) rfl,aj,aF,aj];dsimp only;rw[nH,decide_eq_false ⋯];rfl
theorem Eb{f:FM}{ma:AM}{s s':S}{ds rs:List D}(h:ma s=.ok (ds,s'))(hr:cz s'.o (cz s'.o ds)=rs)(hp:aR rs=qc)(J:ds.length=n)(U:f rs []=.ok (d,O))(hd:pe d=qc):lr n f ma s=.ok (d,s'):=by unfold lr;rw[h,aj];dsimp only;rw[hr,if_pos #[hp,J],U];dsimp only;rw[if_pos hd]
structure px(goods:List Str)(l:List (Str×Int)):Prop where
 mem:∀p∈l,p.1∈goods
 pos:∀p∈l,1<=p.2
 nd:(l.map (·.1)).Nodup
theorem DL(h:px goods l)(hl:l.length<=1000):∃O,fA [psD l,sD goods] []=.ok (.non,O):=by
 have e2:setM 2 (iL ao) #[[pc (psD l),pc (sD goods),pi,pi,pi],[]]=.next #[[pc (psD l),pc (sD goods),pc (.ptr 0),pi,pi],[.lst []]]:=by simp
 obtain⟨s',el,Y,y4,an⟩:=dh (ok:=okC (l.map pD) pi) (g:=c7 (bc (aB 3) (bc (aB 4) c8)) 2) (body:=jP)
  (λpre s=>∃Y y4,s=#[[pc (psD l),pc (sD goods),pc (.ptr 0),Y,y4],[.lst (((l.map (·.1)).take pre.length).map D.str)]]) (λ_ _ _=>trivial) (l.map pD) [] (by
   rintro pre d rest ed s ⟨Y,y4,rfl⟩;rw[wT] at ed;obtain⟨U,rfl⟩:=i6 ed;have hm:l[pre.length]∈l:=AL _;have J:(l[pre.length]).1∉(l.map (·.1)).take pre.length:=by have:=kB h.nd (i:=pre.length) (by simpa using U);simpa using this
   generalize hx:l[pre.length]=x at hm J;refine#[#[[pc (psD l),pc (sD goods),pc (.ptr 0),pc (.str x.1),pc (.int x.2)],[.lst (((l.map (·.1)).take pre.length).map D.str)]],#[[pc (psD l),pc (sD goods),pc (.ptr 0),pc (.str x.1),pc (.int x.2)],[.lst (((l.map (·.1)).take (pre.length+1)).map D.str)]],by rw[tX];rfl,.inl ?_,pc (.str x.1),pc (.int x.2),by rw[xL,EQ]];rw[jP];have k1:=dB (Eb (n:=3) (f:=ko) (ma:=af (aa 3) (af (aa 1) (af (aa 2) ao))) (s:=#[[pc (psD l),pc (sD goods),pc (.ptr 0),pc (.str x.1),pc (.int x.2)],[.lst (((l.map (·.1)).take pre.length).map D.str)]]) (s':=#[[pc (psD l),pc (sD goods),pc (.ptr 0),pc (.str x.1),pc (.int x.2)],[.lst (((l.map (·.1)).take pre.length).map D.str)]]) (ds:=[.str x.1,sD goods,.ptr 0]) (rs:=[.str x.1,sD goods,sD ((l.map (·.1)).take pre.length)]) (by rw[aV,ag (i:=3) rfl,aj,aV,ag (i:=1) rfl,aj,aV,ag (i:=2) rfl];rfl) (J0 rfl) Lw rfl (Nn (h.mem x hm) J) (by rfl))
   have k2:=dB (cC (n:=1) (f:=i3) (ma:=af (aa 4) ao) (s:=#[[pc (psD l),pc (sD goods),pc (.ptr 0),pc (.str x.1),pc (.int x.2)],[.lst (((l.map (·.1)).take pre.length).map D.str)]]) (s':=#[[pc (psD l),pc (sD goods),pc (.ptr 0),pc (.str x.1),pc (.int x.2)],[.lst (((l.map (·.1)).take pre.length).map D.str)]]) (ds:=[.int x.2]) (by rw[aV,ag (i:=4) rfl];rfl) (by simp) rfl (Jf (h.pos x hm)) (by simp));refine wp (bE k1) (wp (bE k2) ?_);refine wp (dB (wo (mo:=aa 2) (me:=aa 3) (k:=0) (d:=.str x.1) (ag rfl) rfl (ag rfl) rfl (by simp;omega))) ?_;have ht:(l.map (·.1)).take (pre.length+1)=(l.map (·.1)).take pre.length++[x.1]:=by rw[SS,wv,sK U,hx];rfl
   rw[ht,KE];rfl) #[[pc (psD l),pc (sD goods),pc (.ptr 0),pi,pi],[.lst []]] #[_,_,rfl]
 have hf:=cY (im:=listI (aa 0)) (g:=c7 (bc (aB 3) (bc (aB 4) c8)) 2) (body:=jP) (s:=#[[pc (psD l),pc (sD goods),pc (.ptr 0),pi,pi],[.lst []]]) (ds:=l.map pD) (k:=pi) (s1:=#[[pc (psD l),pc (sD goods),pc (.ptr 0),pi,pi],[.lst []]]) (by rw[b9,ag (i:=0) rfl];rfl);rw[el] at hf;exact#[_,kv (s:=s') (by show oP #[[pc (psD l),pc (sD goods),pi,pi,pi],[]]=_;rw[oP,bE e2];exact hf)]
@[simp] theorem Ko {g h i:GM} {a b c:D}:c7 (bc g (bc h (bc i c8))) 3 (.tup [a,b,c]) s=(g a s).bind λs1=>(h b s1).bind λs2=>i c s2:=by show (g a s).bind (λs1=>(h b s1).bind λs2=>(i c s2).bind λJ=>.ok J)=_;congr 1;funext s1;congr 1;funext s2;cases i c s2 <;> rfl
structure A1(goods:List Str)(ws:List Wk):Prop where
 nm:∀w∈ws,qY w.nm
 nd:(ws.map (·.nm)).Nodup
 us:∀w∈ws,px goods w.us/\w.us.length<=100
 ms:∀w∈ws,px goods w.ms/\w.ms.length<=100
theorem LG(h:A1 goods ws)(hl:ws.length<=1000):∃O,jq [wsD ws,sD goods] []=.ok (.non,O):=by
 have e2:setM 2 (iL ao) #[[pc (wsD ws),pc (sD goods),pi,pi,pi,pi],[]]=.next #[[pc (wsD ws),pc (sD goods),pc (.ptr 0),pi,pi,pi],[.lst []]]:=by simp
 obtain⟨s',el,y3,y4,y5,as⟩:=dh (ok:=okC (ws.map wD) pi) (g:=c7 (bc (aB 3) (bc (aB 4) (bc (aB 5) c8))) 3) (body:=jM)
  (λpre s=>∃y3 y4 y5,s=#[[pc (wsD ws),pc (sD goods),pc (.ptr 0),y3,y4,y5],[.lst (((ws.map (·.nm)).take pre.length).map D.str)]]) (λ_ _ _=>trivial) (ws.map wD) [] (by
   rintro pre d rest ed s ⟨y3,y4,y5,rfl⟩;rw[wT] at ed;obtain⟨U,rfl⟩:=i6 ed;have hm:ws[pre.length]∈ws:=AL _;have J:(ws[pre.length]).nm∉(ws.map (·.nm)).take pre.length:=by have:=kB h.nd (i:=pre.length) (by simpa using U);simpa using this
   generalize hx:ws[pre.length]=x at hm J;refine#[#[[pc (wsD ws),pc (sD goods),pc (.ptr 0),pc (.str x.nm),pc (psD x.us),pc (psD x.ms)],[.lst (((ws.map (·.nm)).take pre.length).map D.str)]],#[[pc (wsD ws),pc (sD goods),pc (.ptr 0),pc (.str x.nm),pc (psD x.us),pc (psD x.ms)],[.lst (((ws.map (·.nm)).take (pre.length+1)).map D.str)]],by rw[Ko];rfl,.inl ?_,pc (.str x.nm),pc (psD x.us),pc (psD x.ms),by rw[xL,EQ]];rw[jM];obtain⟨O1,p1⟩:=DL (h.us x hm).1 (by have:=(h.us x hm).2;omega);obtain⟨O2,p2⟩:=DL (h.ms x hm).1 (by have:=(h.ms x hm).2;omega);have k1:=dB (Eb (n:=2) (f:=gP) (ma:=af (aa 3) (af (aa 2) ao)) (s:=#[[pc (wsD ws),pc (sD goods),pc (.ptr 0),pc (.str x.nm),pc (psD x.us),pc (psD x.ms)],[.lst (((ws.map (·.nm)).take pre.length).map D.str)]]) (s':=#[[pc (wsD ws),pc (sD goods),pc (.ptr 0),pc (.str x.nm),pc (psD x.us),pc (psD x.ms)],[.lst (((ws.map (·.nm)).take pre.length).map D.str)]]) (ds:=[.str x.nm,.ptr 0]) (by rw[aV,ag (i:=3) rfl,aj,aV,ag (i:=2) rfl];rfl) (M6 rfl) Ga rfl (Fz (h.nm x hm) J) (by rfl))
   have Y:∀l:List (Str×Int),aR [.lst (l.map pD),.lst (goods.map D.str)]=true:=λl=>by show (aR (l.map pD)&&(aR (goods.map D.str)&&qc))=qc;rw[dO,iB];rfl
   have k2:=dB (cC (n:=2) (f:=fA) (ma:=af (aa 4) (af (aa 1) ao)) (s:=#[[pc (wsD ws),pc (sD goods),pc (.ptr 0),pc (.str x.nm),pc (psD x.us),pc (psD x.ms)],[.lst (((ws.map (·.nm)).take pre.length).map D.str)]]) (s':=#[[pc (wsD ws),pc (sD goods),pc (.ptr 0),pc (.str x.nm),pc (psD x.us),pc (psD x.ms)],[.lst (((ws.map (·.nm)).take pre.length).map D.str)]]) (ds:=[psD x.us,sD goods]) (by rw[aV,ag (i:=4) rfl,aj,aV,ag (i:=1) rfl];rfl) (Y _) rfl p1 (by simp));have k3:=dB (cC (n:=2) (f:=fA) (ma:=af (aa 5) (af (aa 1) ao)) (s:=#[[pc (wsD ws),pc (sD goods),pc (.ptr 0),pc (.str x.nm),pc (psD x.us),pc (psD x.ms)],[.lst (((ws.map (·.nm)).take pre.length).map D.str)]]) (s':=#[[pc (wsD ws),pc (sD goods),pc (.ptr 0),pc (.str x.nm),pc (psD x.us),pc (psD x.ms)],[.lst (((ws.map (·.nm)).take pre.length).map D.str)]]) (ds:=[psD x.ms,sD goods]) (by rw[aV,ag (i:=5) rfl,aj,aV,ag (i:=1) rfl];rfl) (Y _) rfl p2 (by simp));refine wp (bE k1) (wp (bE k2) (wp (bE k3) ?_));refine wp (dB (wo (mo:=aa 2) (me:=aa 3) (k:=0) (d:=.str x.nm) (ag rfl) rfl (ag rfl) rfl (by simp;omega))) ?_;have ht:(ws.map (·.nm)).take (pre.length+1)=(ws.map (·.nm)).take pre.length++[x.nm]:=by rw[SS,wv,sK U,hx];rfl
   rw[ht,KE];rfl) #[[pc (wsD ws),pc (sD goods),pc (.ptr 0),pi,pi,pi],[.lst []]] #[_,_,_,rfl]
 have hf:=cY (im:=listI (aa 0)) (g:=c7 (bc (aB 3) (bc (aB 4) (bc (aB 5) c8))) 3) (body:=jM) (s:=#[[pc (wsD ws),pc (sD goods),pc (.ptr 0),pi,pi,pi],[.lst []]]) (ds:=ws.map wD) (k:=pi) (s1:=#[[pc (wsD ws),pc (sD goods),pc (.ptr 0),pi,pi,pi],[.lst []]]) (by rw[b9,ag (i:=0) rfl];rfl);rw[el] at hf;exact#[_,kv (s:=s') (by show oN #[[pc (wsD ws),pc (sD goods),pi,pi,pi,pi],[]]=_;rw[oN,bE e2];exact hf)]
theorem Ng(w:Wk):kX [wD w] []=.ok (wD w,[]):=by
 refine cv (s:=#[[pc (wD w)],[]]) ?_;show rj #[[pc (wD w)],[]]=_;rw[rj];refine br ?_;have J:∀(k:Int) (d:D),ixD [] (wD w) (.int k)=.ok d->ak ixD (aa 0) (aq (.int k)) #[[pc (wD w)],[]]=.ok (d,#[[pc (wD w)],[]]):=λk d h=>by rw[cK,ag (i:=0) rfl,aj,aF,aj];dsimp only;rw[h];rfl
 rw[AE,aV,J 0 (.str w.nm) rfl,aj,aV,gI,aV,J 1 (psD w.us) rfl,aj,aG,aj,aj];dsimp only;rw[vG,aj,aj,aV,gI,aV,J 2 (psD w.ms) rfl,aj,aG,aj,aj];dsimp only;rw[vG,aj,aj,aG,aj,aj,aj,aj];rfl
def sumOf(g:Str)(l:List (Str×Int)):Int:=((l.filter λp=>decide (p.1=g)).map (·.2)).sum
def chg(w:Wk)(g:Str):Int:=sumOf g w.ms-sumOf g w.us
theorem Gb(J:l.length<=1000):eY [.str g,psD l] []=.ok (.int (sumOf g l),[]):=by
 have hc:=AF (l:=l) (item:=pD) (p:=λp=>decide (p.1=g)) (out:=λp=>.int p.2) (caps:=[0]) (im:=listI (aa 1)) (c:=a7 (ak eqD (ak ixD (aa 0) (aq (.int 0))) (aa 1))) (e:=ak ixD (aa 0) (aq (.int 1))) (k:=pi) (s:=#[[pc (.str g),pc (psD l)],[]]) (by rw[b9,ag (i:=1) rfl];rfl) trivial ⋯ (λp _=>by
  rw[gJ,cK,cK,ag (i:=0) rfl,aj,aF,aj];dsimp only;rw[show ixD [] (pD p) (.int 0)=.ok (.str p.1) from rfl,aj,aj];dsimp only;rw[ag (i:=1) rfl,aj];dsimp only;rw[A9];rfl) (λp _ _=>by
  rw[cK,ag (i:=0) rfl,aj,aF,aj];rfl)
 rw[show (l.filter λp=>decide (p.1=g)).map (λp=>D.int p.2)=((l.filter λp=>decide (p.1=g)).map (·.2)).map D.int by rw[wf];rfl] at hc;refine cv (s:=#[[pc (.str g),pc (psD l)],[]]) ?_;show rA #[[pc (.str g),pc (psD l)],[]]=_;rw[rA];refine br ?_;rw[gI,aV,hc,aj,aG,aj,aj];dsimp only;rw[qI,aj];rfl
theorem Mi{w:Wk}(h1:w.us.length<=1000)(h2:w.ms.length<=1000)(hg:goods.length<=1000):kU [wD w,sD goods] []=.ok (vI (goods.map (chg w)),[]):=by
 have hc:=dg (l:=goods) (item:=D.str) (out:=λg=>.int (chg w g)) (caps:=[0]) (im:=listI (aa 1)) (e:=ak lV (aX 2 eY (af (aa 0) (af (ak ixD (aa 1) (aq (.int 2))) ao))) (aX 2 eY (af (aa 0) (af (ak ixD (aa 1) (aq (.int 1))) ao)))) (k:=pi) (s:=#[[pc (wD w),pc (sD goods)],[]]) (by rw[b9,ag (i:=1) rfl];rfl) trivial ⋯ (λg _=>by
  have J:∀l:List (Str×Int),aR [.str g,.lst (l.map pD)]=true:=λl=>by show (qc&&(aR (l.map pD)&&qc))=qc;rw[iB];rfl
  have U:aX 2 eY (af (aa 0) (af (ak ixD (aa 1) (aq (.int 2))) ao)) #[pc (.str g)::[0].map (λi=>([pc (wD w),pc (sD goods)][i]?).getD pi),[]]=.ok (.int (sumOf g w.ms),#[pc (.str g)::[0].map (λi=>([pc (wD w),pc (sD goods)][i]?).getD pi),[]]):=cC (ds:=[.str g,psD w.ms]) (by rw[aV,ag (i:=0) rfl,aj,aV,cK,ag (i:=1) rfl,aj,aF,aj];rfl) (J _) rfl (Gb h2) (by simp)
  have Y:aX 2 eY (af (aa 0) (af (ak ixD (aa 1) (aq (.int 1))) ao)) #[pc (.str g)::[0].map (λi=>([pc (wD w),pc (sD goods)][i]?).getD pi),[]]=.ok (.int (sumOf g w.us),#[pc (.str g)::[0].map (λi=>([pc (wD w),pc (sD goods)][i]?).getD pi),[]]):=cC (ds:=[.str g,psD w.us]) (by rw[aV,ag (i:=0) rfl,aj,aV,cK,ag (i:=1) rfl,aj,aF,aj];rfl) (J _) rfl (Gb h1) (by simp)
  rw[cK,U,aj];dsimp only;rw[Y,aj];rfl)
 rw[show goods.map (λg=>D.int (chg w g))=(goods.map (chg w)).map D.int by rw[wf];rfl] at hc;refine cv (s:=#[[pc (wD w),pc (sD goods)],[]]) ?_;show rE #[[pc (wD w),pc (sD goods)],[]]=_;rw[rE];exact br hc
abbrev FN:List Str:=["held_goods","held_works","held_changes"]
abbrev yDs(goods:List Str)(ws:List Wk):List D:=[sD goods,wsD ws,vII (ws.map λw=>goods.map (chg w))]
abbrev yD(goods:List Str)(ws:List Wk):D:=.obj 0 FN (yDs goods ws)
theorem gK:aR (yDs goods ws)=true:=by show (aR (goods.map D.str)&&(aR (ws.map wD)&&(aR ((ws.map λw=>goods.map (chg w)).map vI)&&qc)))=qc;rw[dO,mT,i5];rfl
theorem A2{mo mv:EM}{ns:List Str}(J:mv s=.ok (d,s1))(U:mo s1=.ok (.ptr k,s2))(hc:s2.o[k]? =pc (.ins c ns ds))(Y:f∉ns)(hl:ns.length<1000):um c f mo mv s=.next #[s2.r,s2.o.set k (.ins c (ns++[f]) (ds++[d]))]:=by rw[KY,J,kN];dsimp only;rw[U,kN];dsimp only;rw[hc];dsimp only;rw[if_pos #[rfl,Y,hl]]
theorem Ms(hg:∀z∈goods,qY z)(nd:goods.Nodup)(U:A1 goods ws)(h1:goods.length<=10)(h2:ws.length<=10):kM [.ptr 0,sD goods,wsD ws] [.ins 0 [] []]=.ok (.non,[.ins 0 FN (yDs goods ws)]):=by
 obtain⟨O1,k1⟩:=J6 hg nd;obtain⟨O2,k2⟩:=LG U ⋯;refine kv (s:=#[[pc (.ptr 0),pc (sD goods),pc (wsD ws)],[.ins 0 FN (yDs goods ws)]]) ?_;show kP #[[pc (.ptr 0),pc (sD goods),pc (wsD ws)],[.ins 0 [] []]]=_;rw[kP];have pg:aR [.lst (goods.map D.str)]=true:=by show (aR (goods.map D.str)&&qc)=qc;rw[dO];rfl
 have Y:aR [.lst (goods.map D.str),.lst (ws.map wD)]=true:=by show (aR (goods.map D.str)&&(aR (ws.map wD)&&qc))=qc;rw[dO,mT];rfl
 have ab:aR [.lst (ws.map wD),.lst (goods.map D.str)]=true:=by show (aR (ws.map wD)&&(aR (goods.map D.str)&&qc))=qc;rw[dO,mT];rfl
 have e1:=dB (cC (n:=2) (f:=jX) (ma:=af (aa 1) (af (aa 2) ao)) (s:=#[[pc (.ptr 0),pc (sD goods),pc (wsD ws)],[.ins 0 [] []]]) (s':=#[[pc (.ptr 0),pc (sD goods),pc (wsD ws)],[.ins 0 [] []]]) (ds:=[sD goods,wsD ws]) (by rw[aV,ag (i:=1) rfl,aj,aV,ag (i:=2) rfl];rfl) Y rfl (M1 h1 h2) (by simp));have e2:=dB (cC (n:=1) (f:=jh) (ma:=af (aa 1) ao) (s:=#[[pc (.ptr 0),pc (sD goods),pc (wsD ws)],[.ins 0 [] []]]) (s':=#[[pc (.ptr 0),pc (sD goods),pc (wsD ws)],[.ins 0 [] []]]) (ds:=[sD goods]) (by rw[aV,ag (i:=1) rfl];rfl) pg rfl k1 (by simp));have e3:=dB (cC (n:=2) (f:=jq) (ma:=af (aa 2) (af (aa 1) ao)) (s:=#[[pc (.ptr 0),pc (sD goods),pc (wsD ws)],[.ins 0 [] []]]) (s':=#[[pc (.ptr 0),pc (sD goods),pc (wsD ws)],[.ins 0 [] []]]) (ds:=[wsD ws,sD goods]) (by rw[aV,ag (i:=2) rfl,aj,aV,ag (i:=1) rfl];rfl) ab rfl k2 (by simp));have e4:=A2 (c:=0) (f:="held_goods") (mo:=aa 0) (mv:=bJ nZ (af (aa 1) ao)) (s:=#[[pc (.ptr 0),pc (sD goods),pc (wsD ws)],[.ins 0 [] []]]) (s1:=#[[pc (.ptr 0),pc (sD goods),pc (wsD ws)],[.ins 0 [] []]]) (s2:=#[[pc (.ptr 0),pc (sD goods),pc (wsD ws)],[.ins 0 [] []]]) (d:=sD goods) (k:=0) (ns:=[]) (ds:=[]) (by rw[gI,aV,ag (i:=1) rfl,aj,aG,aj,aj];dsimp only;rw[vG,aj]) (ag rfl) rfl (by simp) (by simp)
 have cw:=dg (l:=ws) (item:=wD) (out:=wD) (caps:=[]) (im:=listI (aa 2)) (e:=aX 1 kX (af (aa 0) ao)) (k:=pi) (s:=#[[pc (.ptr 0),pc (sD goods),pc (wsD ws)],[.ins 0 ["held_goods"] [sD goods]]]) (by rw[b9,ag (i:=2) rfl];rfl) trivial ⋯ (λw _=>cC (ds:=[wD w]) (by rw[aV,ag (i:=0) rfl];rfl) (by
  show ((qc&&(aR (w.us.map pD)&&(aR (w.ms.map pD)&&qc)))&&qc)=qc;rw[iB,iB];rfl) rfl (Ng w) (by
  show (qc&&(aR (w.us.map pD)&&(aR (w.ms.map pD)&&qc)))=qc;rw[iB,iB];rfl))
 have e5:=A2 (c:=0) (f:="held_works") (mo:=aa 0) (k:=0) (ns:=["held_goods"]) (ds:=[sD goods]) cw (ag rfl) rfl ∅ (by simp);have cc:=dg (l:=ws) (item:=wD) (out:=λw=>vI (goods.map (chg w))) (caps:=[1]) (im:=listI (aa 2)) (e:=aX 2 kU (af (aa 0) (af (aa 1) ao))) (k:=pi) (s:=#[[pc (.ptr 0),pc (sD goods),pc (wsD ws)],[.ins 0 ["held_goods","held_works"] [sD goods,wsD ws]]]) (by rw[b9,ag (i:=2) rfl];rfl) trivial ⋯ (λw J=>cC (ds:=[wD w,sD goods]) (by rw[aV,ag (i:=0) rfl,aj,aV,ag (i:=1) rfl];rfl) (by show ((qc&&(aR (w.us.map pD)&&(aR (w.ms.map pD)&&qc)))&&(aR (goods.map D.str)&&qc))=qc;rw[iB,iB,dO];rfl) rfl (Mi (by have:=(U.us w J).2;omega) (by have:=(U.ms w J).2;omega) ⋯) (by generalize goods.map (chg w)=r;simp))
 rw[show ws.map (λw=>vI (goods.map (chg w)))=(ws.map λw=>goods.map (chg w)).map vI by rw[wf];rfl] at cc;have e6:=A2 (c:=0) (f:="held_changes") (mo:=aa 0) (k:=0) (ns:=["held_goods","held_works"]) (ds:=[sD goods,wsD ws]) cc (ag rfl) rfl ∅ (by simp);refine wp (bE e1) (wp (bE e2) (wp (bE e3) (wp (bE e4) (wp (bE e5) e6))))
structure Pt(goods:List Str)(i:Nat)(l:List (Str×Int)):Prop where
 mem:∀p∈l,p.1∈goods.take i
 pos:∀p∈l,1<=p.2
 nd:(l.map (·.1)).Nodup
 len:l.length<=i
theorem Pt.same(h:Pt goods i l):Pt goods (i+1) l:=
 #[λp hp=>R0 (i:=i) (by rw[List.take_take,TK (T5 i)];exact h.mem p hp),h.pos,h.nd,Nat.le_succ_of_le h.len]
theorem Pt.more(J:goods.Nodup)(hi:i<goods.length)(h:Pt goods i l){a:Int}(ha:1<=a):Pt goods (i+1) (l++[(goods[i],a)]):=by
 have hs:=h.same;refine#[λp hp=> ?_,λp hp=> ?_, ?_,by rw[xL,EQ];have:=h.len;omega];rcases wE.mp hp with q | q
 exact hs.mem p q;rw[wn.mp q,show goods.take (i+1)=goods.take i++[goods[i]] by rw[SS,sK hi];rfl];exact Fk _ (wn.mpr rfl);rcases wE.mp hp with q | q
 exact h.pos p q;rw[wn.mp q];exact ha;rw[KE];refine Sa.mpr #[h.nd,by simp,λx hx y hy=> ?_];obtain⟨p,hp,rfl⟩:=ss.mp hx;have:y=goods[i]:=by simpa using hy
 subst this;intro e;exact kB J hi (e▸h.mem p hp)
theorem Pt.parts(h:Pt goods i l):px goods l:=#[λp hp=>R0 (h.mem p hp),h.pos,h.nd]
theorem Gr:cX 1 ((n+1:Nat):Int)=(uM n).map λi:Nat=>.int (1+(i:Int)):=by unfold cX;rw[show (((n+1:Nat):Int)-1).toNat=n by omega]
theorem GD{α:Type}(f:α->D)(l:List α)(n:Nat):M.cutD (l.map f) pi (pc (n:Int))=(l.take n).map f:=by
 unfold M.cutD;rw[HT.tx,HT.pB,sB,TX,U9,UY];rcases Nat.le_total n l.length with h | h
 rw[TK h];rw[Nat.min_eq_right h,RE (by simp),RE (by simpa using h)]
theorem ED{m:AM}(h:m s=.ok ([.int 1,.int (n:Int)],s1))(hn:n<=1000000):rS m s=.ok ((cX 1 (n:Int),pi),s1):=by unfold rS;rw[h,aj];dsimp only;rw[if_pos ⋯]
theorem GJ{ml mh:OM}{s s1 s2 J:S}{lo hi:Option Int}(h:me s=.ok (.str z,s1))(U:ml s1=.ok (lo,s2))(Y:mh s2=.ok (hi,J))(hz:z.length<=1000000):slS me ml mh s=.ok (.str (lG z lo hi),J):=by rw[OS,h,aj];dsimp only;rw[U,aj];dsimp only;rw[Y,aj];dsimp only;rw[if_pos ⋯]
theorem Fg{l:List Str}(h:O[k]? =pc (.lst (l.map D.str))):mK O (.str z) (.ptr k)=.ok (.bl (!l.any (· == z))):=by unfold mK inB;dsimp only;rw[jx h];dsimp only;rw[mU]
def nmP(wd:List Nat)(p c:Nat):List Nat:=wd.take p++[c]++wd.drop (p+1)
theorem Kn{p c:Nat}(hp:p<wd.length)(Y:wd.length<=8)(J:azL wd)(hc:97<=c/\c<=122):qY (mkS (nmP wd p c)):=by
 have U:(nmP wd p c).length=wd.length:=by unfold nmP;simp;omega
 refine#[by rw[g8,U];omega,by rw[g8,U];exact Y,λx hx=> ?_];rw[gC] at hx;unfold nmP at hx;rcases wE.mp hx with q | q
 rcases wE.mp q with q | q;exact J x (R0 q);rw[wn.mp q];exact hc;exact J x (TR q)
structure NmI(m:Nat)(l:List Str):Prop where
 g:∀z∈l,qY z
 nd:l.Nodup
 le:l.length<=m
abbrev wpR(c:Int)(m size:Nat)(rest:Int)(wd:List Nat)(x6 x7 x8 x9 x10:Option D):List (Option D):=[pc (.int c),pc (.int (m:Int)),pc (.str ABC),pc (.int (size:Int)),pc (.int rest),pc (.str (mkS wd)),x6,x7,x8,x9,x10]
theorem Mt{c rest:Int}{m size k:Nat}{x7 x8 x9 x10:Option D}(hk:k<100)(U:wd.length<=1000):
 ∃r J,lD #[wpR c m size rest wd (pc (.int (k:Int))) x7 x8 x9 x10,[]]=.next #[wpR c m size J (wd++[r]) (pc (.int (k:Int))) x7 x8 x9 x10,[]]/\97<=r/\r<=122:=by
 refine#[97+(rest%26).toNat,rest/26+5*(k:Int), ?_,⋯,⋯];rw[lD];refine aU (bq (R':=wpR c m size rest (wd++[97+(rest%26).toNat]) (pc (.int (k:Int))) x7 x8 x9 x10) (aO (ag rfl) (aO (ag rfl) (aO (ag rfl) (aF _) (fJ ∅)) (Oj ⋯ ⋯)) ?_) rfl) (bq (aO (aO (ag rfl) (aF _) (iF ∅ ∅)) (aO (aF _) (ag rfl) (cN (eN (.inl ∅)))) d7) rfl);rw[vK (by rw[g8,g8];simp;omega),show mkS wd++mkS [97+(rest%26).toNat]=mkS (wd++[97+(rest%26).toNat]) from sC (by rw[yZ,gC,gC,gC])]
theorem MP{c rest:Int}{m size p c' kk:Nat}{l:List Str}{x6 x10:Option D}(hp:p<wd.length)(h8:wd.length<=8)(ab:azL wd)(hc:97<=c'/\c'<=122)(hm:m<=100)(h:NmI m l)(J:O[kk]? =pc (.lst (l.map D.str))):
 ∃l' O' al,lH #[wpR c m size rest wd x6 (pc (.int (p:Int))) (pc (.ptr kk)) (pc (.str (mkS [c']))) x10,O]=.next #[wpR c m size rest wd x6 (pc (.int (p:Int))) (pc (.ptr kk)) (pc (.str (mkS [c']))) al,O']/\NmI m l'/\O'[kk]? =pc (.lst (l'.map D.str))/\(0<m->0<l'.length):=by
 have U:(mkS wd).length=wd.length:=g8 wd;have p1:lG (mkS wd) pi (pc (p:Int))=mkS (wd.take p):=sC (by rw[Gu ⋯,gC,gC]);have p2:lG (mkS wd) (pc ((p:Int)+1)) pi=mkS (wd.drop (p+1)):=sC (by rw[show (p:Int)+1=((p+1:Nat):Int) by omega,MZ ⋯,gC,gC]);have Y:setM 10 (ak cq (ak cq (slS (aa 5) d6 (part (aa 7))) (aa 9)) (slS (aa 5) (part (ak cq (aa 7) (aq (.int 1)))) d6)) #[wpR c m size rest wd x6 (pc (.int (p:Int))) (pc (.ptr kk)) (pc (.str (mkS [c']))) x10,O]=.next #[wpR c m size rest wd x6 (pc (.int (p:Int))) (pc (.ptr kk)) (pc (.str (mkS [c']))) (pc (.str (mkS (nmP wd p c')))),O]:=by refine bq (aO (aO (GJ (ag rfl) nI (oB (ag rfl)) (by rw[U];omega)) (ag rfl) (vK (by rw[p1,g8,g8];simp;omega))) (GJ (ag rfl) (oB (aO (ag rfl) (aF _) d7)) nI (by rw[U];omega)) ?_) rfl;rw[p1,p2,vK (by rw[show mkS (wd.take p)++mkS [c']=mkS (wd.take p++[c']) from sC (by rw[yZ,gC,gC,gC]),g8,g8];simp;omega)];rw[show mkS (wd.take p)++mkS [c']++mkS (wd.drop (p+1))=mkS (nmP wd p c') from sC (by rw[yZ,yZ,gC,gC,gC,gC];rfl)]
 have t:=GU (eI (aO (hE (aA (ag (i:=8) rfl) aG) (xV J)) (ag (s:=#[wpR c m size rest wd x6 (pc (.int (p:Int))) (pc (.ptr kk)) (pc (.str (mkS [c']))) (pc (.str (mkS (nmP wd p c')))),O]) (i:=1) rfl) nH)) (eI (aO (ag (i:=10) rfl) (ag (i:=8) rfl) (Fg J)));rw[sB] at t;have gd:=Kn hp h8 ab hc;rw[lH];have ll:=h.le;cases hb:(decide ((l.length:Int)<(m:Int))&& !l.any (· == mkS (nmP wd p c'))) with
 | false=>
  refine#[l,O,_,aU Y (dX t hb cD),h,J,λhm=> ?_];cases l with
  | nil=>
   rw[decide_eq_true (by simp;omega)] at hb;cases hb
  | cons _ _=>simp
 | true=>
  obtain⟨b1,b2⟩:=(RJ _ _▸hb:_/\_);have b1:=of_decide_eq_true b1;have am:mkS (nmP wd p c')∉l:=λhz=>by rw[HN hz] at b2;cases b2
  refine#[l++[mkS (nmP wd p c')],O.set kk (.lst (l.map D.str++[.str (mkS (nmP wd p c'))])),_,aU Y (eW t hb (dB (wA (ag rfl) J (ag rfl) J (by simp;omega) rfl))),#[λz hz=> ?_, ?_,by simp;omega],by rw[KE];exact dk J,λ_=>by simp];rcases wE.mp hz with q | q
  exact h.g z q;rw[wn.mp q];exact gd;exact Sa.mpr #[h.nd,by simp,λx hx y hy e=>am (by rw[<- wn.mp hy,<- e];exact hx)]
theorem Jp(c:Int){m:Nat}(h1:1<=m)(h2:m<=100):∃zs O,iE [.int c,.int (m:Int)] []=.ok (sD zs,O)/\NmI m zs/\0<zs.length:=by
 obtain⟨size,hsz,s1,s8⟩:∃size:Nat,1+c%8=(size:Int)/\1<=size/\size<=8:=#[(1+c%8).toNat,⋯,⋯,⋯];obtain⟨s',el,wd,rest,J,wl,U,rfl⟩:=dh (ok:=okC (cX 0 (size:Int)) pi) (g:=aB 6) (body:=lD)
  (λpre s=>∃(wd:List Nat) (rest:Int) (x6:Option D),wd.length=pre.length/\azL wd/\s=#[wpR c m size rest wd x6 pi pi pi pi,[]]) (λ_ _ _=>trivial) (cX 0 (size:Int)) [] (by
   rintro pre d rest Y s ⟨wd,re,x6,wl,U,rfl⟩;rw[wT,ib] at Y;obtain⟨rfl,ab⟩:=nU Y;obtain⟨r,am,eb,r1,r2⟩:=Mt (c:=c) (rest:=re) (m:=m) (size:=size) (k:=pre.length) (wd:=wd) (x7:=pi) (x8:=pi) (x9:=pi) (x10:=pi) ⋯ ⋯;refine#[_,_,rfl,.inl eb,wd++[r],am,_,by simp[wl],λx hx=> ?_,rfl];rcases wE.mp hx with q | q
   exact U x q;rw[wn.mp q];exact#[r1,r2]) #[wpR c m size (c/8%10^18) [] pi pi pi pi pi,[]] #[[],_,pi,rfl,(λx hx=>by cases hx),rfl]
 rw[wT,gh] at wl;have wl:wd.length=size:=⋯;obtain⟨p,hp,p0⟩:∃p:Nat,c/3%(size:Int)=(p:Int)/\p<size:=#[(c/3%(size:Int)).toNat,by have:=So (c/3) (show (size:Int)≠0 by omega);omega,by have:=Sm (c/3) (show (0:Int)<(size:Int) by omega);have:=So (c/3) (show (size:Int)≠0 by omega);omega];have st:∃kk l O,(ifS (a7 (ak eqD (ak gD (ak d4 (aa 0) (aq (.int 5))) (aq (.int 2))) (aq (.int 1)))) (setM 8 (slC (bL 1 [5] (rS (af (aq (.int 1)) (af (ak cq (aa 3) (aq (.int 1))) ao))) (aB 0) bM (slS (aa 1) d6 (part (aa 0)))) d6 (part (aa 1)))) bC) #[wpR c m size rest wd J (pc (.int (p:Int))) (pc (.ptr 0)) pi pi,[.lst []]]=.next #[wpR c m size rest wd J (pc (.int (p:Int))) (pc (.ptr kk)) pi pi,O]/\NmI m l/\O[kk]? =pc (.lst (l.map D.str)):=by
  have t:=eq_test (j:=1) (aO (aO (ag (s:=#[wpR c m size rest wd J (pc (.int (p:Int))) (pc (.ptr 0)) pi pi,[.lst []]]) (i:=0) rfl) (aF _) (iF (j:=5) ∅ ∅)) (aF _) (fJ (j:=2) ∅));by_cases hb:c/5%2=1;have ec:=dg (l:=uM size) (item:=λi:Nat=>D.int (1+(i:Int))) (out:=λi:Nat=>.str (mkS (wd.take (i+1)))) (caps:=[5]) (im:=rS (af (aq (.int 1)) (af (ak cq (aa 3) (aq (.int 1))) ao))) (e:=slS (aa 1) d6 (part (aa 0))) (k:=pi) (s:=#[wpR c m size rest wd J (pc (.int (p:Int))) (pc (.ptr 0)) pi pi,[.lst []]]) (by
   rw[<- Gr];refine ED (aA (aF _) (aA (aO (ag rfl) (aF _) d7) aG)) ⋯) trivial (by simp;omega) (λi hi=>by
   have hi:=AC.mp hi;rw[show mkS (wd.take (i+1))=lG (mkS wd) pi (pc (1+(i:Int))) from (sC (by rw[show 1+(i:Int)=((i+1:Nat):Int) by omega,Gu (by rw[g8];omega),gC,gC]))];exact GJ (ag rfl) nI (oB (ag rfl)) (by rw[g8];omega))
  refine#[1,((uM size).map λi=>mkS (wd.take (i+1))).take m,_,eW t (decide_eq_true hb) (bq (PB ec nI (oB (ag rfl)) ia (by rw[show (uM size).map (λi:Nat=>D.str (mkS (wd.take (i+1))))=((uM size).map λi=>mkS (wd.take (i+1))).map D.str by rw[wf];rfl,GD]) rfl rfl) rfl),#[λz hz=> ?_, ?_, ?_],rfl];obtain⟨i,hi,rfl⟩:=ss.mp (R0 hz);have hi:=AC.mp hi;refine#[by rw[g8];simp;omega,by rw[g8];simp;omega,λx hx=> ?_];rw[gC] at hx;exact U x (R0 hx);refine VV (Ve _ _) ?_;refine Sv.mpr (RY (λ{a b} ha hb ab e=> ?_) List.pairwise_lt_range);have ha:=AC.mp ha;have hb:=AC.mp hb;have:=congrArg Str.length e;rw[g8,g8] at this;simp at this;omega;rw[S3];omega;exact#[0,[],[.lst []],dX t (decide_eq_false hb) cD,#[by simp,by simp,by simp],rfl]
 obtain⟨kk,l,O,es,hl,hO⟩:=st;have ac:ABC.cps.toList=(uM 26).map (97 + ·):=HH;obtain⟨s',as,zs,O2,az,al,hz,a0,a1,rfl⟩:=dh (ok:=okC (ABC.cps.toList.map λc=>D.str #[#v[c]]) pi) (g:=aB 9) (body:=lH)
  (λpre s=>∃(l:List Str) (O:aC) (x9 x10:Option D),NmI m l/\O[kk]? =pc (.lst (l.map D.str))/\(0<pre.length->0<l.length)/\s=#[wpR c m size rest wd J (pc (.int (p:Int))) (pc (.ptr kk)) x9 x10,O]) (λ_ _ _=>trivial) (ABC.cps.toList.map λc=>D.str #[#v[c]]) [] (by rintro pre d a2 Y s ⟨l,O,x9,x10,h,hO,h0,rfl⟩;rw[wT] at Y;obtain⟨ab,rfl⟩:=i6 Y;have hc:ABC.cps.toList[pre.length]∈ABC.cps.toList:=AL _;generalize ABC.cps.toList[pre.length]=c' at hc;rw[ac] at hc;obtain⟨i,hi,rfl⟩:=ss.mp hc;have hi:=AC.mp hi;obtain⟨l',O',bp,eb,h',a3,ne⟩:=MP (c:=c) (rest:=rest) (m:=m) (size:=size) (p:=p) (c':=97+i) (kk:=kk) (wd:=wd) (l:=l) (O:=O) (x6:=J) (x10:=x10) ⋯ ⋯ U ⋯ h2 h hO;exact#[_,_,rfl,.inl eb,l',O',_,_,h',a3,λ_=>ne ⋯,rfl]) #[wpR c m size rest wd J (pc (.int (p:Int))) (pc (.ptr kk)) pi pi,O] #[l,O,pi,pi,hl,hO,λh=>absurd h (by simp),rfl]
 refine#[zs,O2.set kk .dead, ?_,hz,a1 (by rw[wT,sB,ac];simp)];refine de (R:=wpR c m size rest wd J (pc (.int (p:Int))) (pc (.ptr kk)) az al) ?_;show rN #[[pc (.int c),pc (.int (m:Int)),pi,pi,pi,pi,pi,pi,pi,pi,pi],[]]=_;rw[rN];refine aU (bq (aF _) rfl) (aU (bq (d:=.int (size:Int)) (aO (aF _) (aO (ag rfl) (aF _) (fJ ∅)) (by rw[d7,hsz])) rfl) (aU (bq (d:=.int (c/8%10^18)) (aO (aO (ag rfl) (aF _) (iF ∅ ∅)) (aO (aF _) (aF _) (j6 ∅ ∅ ∅)) (fJ ∅)) rfl) (aU (bq (R':=wpR c m size (c/8%10^18) [] pi pi pi pi pi) (aF _) rfl) (aU (s1:=#[wpR c m size rest wd J pi pi pi pi,[]]) ?_ (aU (bq (R':=wpR c m size rest wd J (pc (.int (p:Int))) pi pi pi) (aO (aO (ag rfl) (aF _) (iF ∅ ∅)) (ag rfl) (by rw[fJ (j:=(size:Int)) ⋯,hp])) rfl) (aU (bq (R':=wpR c m size rest wd J (pc (.int (p:Int))) (pc (.ptr 0)) pi pi) (si (O:=[]) aG (by simp) rfl rfl) rfl) (aU es (aU ?_ (br (pj (ag rfl) a0 rfl))))))))));exact(cY (ds:=cX 0 (size:Int)) (k:=pi) (s1:=#[wpR c m size (c/8%10^18) [] pi pi pi pi pi,[]]) (fL (aA (ag rfl) aG) ⋯)).trans el;exact(cY (ds:=ABC.cps.toList.map λc=>D.str #[#v[c]]) (k:=pi) (s1:=#[wpR c m size rest wd J (pc (.int (p:Int))) (pc (.ptr kk)) pi pi,O]) (by rw[GC,ag (i:=2) rfl,aj];rfl)).trans as
theorem iC{mb mm:EM}(h:cy O j)(hm:0<m)(h1:mb #[R,O]=.ok (.ptr j,#[R,O]))(h2:mm #[R,O]=.ok (.int m,#[R,O])):
 ∃(r:Nat) (O':aC),bN 2 aQ (af mb (af mm ao)) #[R,O]=.ok (.int (r:Int),#[R,O'])/\(r:Int)<m/\cy O' j/\∀i,i≠j->O'[i]? =O[i]? :=by
 obtain⟨r,O',e,J,U,hb,hk⟩:=K0 h hm;refine#[r.toNat,O', ?_,⋯,hb,hk];rw[show ((r.toNat:Nat):Int)=r by omega];exact gH (aA h1 (aA h2 aG)) e rfl
theorem cy.app{O E:aC}(h:cy O j):cy (O++E) j:=by obtain⟨a,c,h⟩:=h;exact#[a,c,ee h]
theorem cy.set{c:Cell}(h:cy O j)(hk:k≠j):cy (O.set k c) j:=by obtain⟨a,b,h⟩:=h;exact#[a,b,by rw[dm hk];exact h]
theorem cy.lt(h:cy O j):j<O.length:=by obtain⟨a,c,h⟩:=h;exact mV h
abbrev wyR(j n:Nat)(J x3 x4:Option D):List (Option D):=[pc (.ptr j),pc (.int (n:Int)),J,x3,x4]
theorem Pd{g:Int}(J:0<=g/\g<1000000)(hi:i<7):0<=nth [1,0,2,0,1,3,g] i/\nth [1,0,2,0,1,3,g] i<1000000:=by rcases i with _ | _ | _ | _ | _ | _ | _ | i;exact#[by show (0:Int)<=1;decide,by show (1:Int)<1000000;decide];exact#[by show (0:Int)<=0;decide,by show (0:Int)<1000000;decide];exact#[by show (0:Int)<=2;decide,by show (2:Int)<1000000;decide];exact#[by show (0:Int)<=0;decide,by show (0:Int)<1000000;decide];exact#[by show (0:Int)<=1;decide,by show (1:Int)<1000000;decide];exact#[by show (0:Int)<=3;decide,by show (3:Int)<1000000;decide];exact J;omega
theorem Qc{j n kk:Nat}{x3 x4:Option D}(hb:cy O j)(J:kk≠j)(hO:O[kk]? =pc (.lst (w.map D.int)))(hl:w.length<=1000):
 ∃v O' y4,n5 #[wyR j n (pc (.ptr kk)) x3 x4,O]=.next #[wyR j n (pc (.ptr kk)) x3 y4,O']/\O'[kk]? =pc (.lst ((w++[v]).map D.int))/\(0<=v/\v<1000000)/\cy O' j:=by
 have st:∃(g:Int) (O1:aC),(ifS (a7 (ak ltD (aa 1) (aq (.int 4)))) (setM 4 (bN 2 aQ (af (aa 0) (af (ak hJ (aq (.int 10)) (aq (.int 6))) ao)))) bC) #[wyR j n (pc (.ptr kk)) x3 (pc (.int 1)),O]=.next #[wyR j n (pc (.ptr kk)) x3 (pc (.int g)),O1]/\(0<=g/\g<1000000)/\cy O1 j/\O1[kk]? =pc (.lst (w.map D.int)):=by have t:a7 (ak ltD (aa 1) (aq (.int 4))) #[wyR j n (pc (.ptr kk)) x3 (pc (.int 1)),O]=.ok (decide ((n:Int)<4),#[wyR j n (pc (.ptr kk)) x3 (pc (.int 1)),O]):=eI (aO (ag rfl) (aF _) nH);by_cases h4:(n:Int)<4;obtain⟨r,O1,e,r1,U,ac⟩:=iC (R:=wyR j n (pc (.ptr kk)) x3 (pc (.int 1))) (m:=1000000) hb ∅ (mb:=aa 0) (mm:=ak hJ (aq (.int 10)) (aq (.int 6))) (ag rfl) (aO (aF _) (aF _) (j6 ∅ ∅ ∅));exact#[r,O1,eW t (decide_eq_true h4) (bq e rfl),#[⋯,⋯],U,by rw[ac kk J];exact hO];exact#[1,O,dX t (decide_eq_false h4) cD,#[∅,∅],hb,hO]
 obtain⟨g,O1,e1,hg,U,Y⟩:=st;obtain⟨r,O2,e2,r1,al,am⟩:=iC (R:=wyR j n (pc (.ptr kk)) x3 (pc (.int g))) (m:=7) U ∅ (mb:=aa 0) (mm:=aq (.int 7)) (ag rfl) (aF _);have hr:r < [1,0,2,0,1,3,g].length:=by simp;omega
 have ab:O2[kk]? =pc (.lst (w.map D.int)):=by rw[am kk J];exact Y
 refine#[nth [1,0,2,0,1,3,g] r,O2.set kk (.lst (w.map D.int++[.int (nth [1,0,2,0,1,3,g] r)])),pc (.int g), ?_,by rw[KE];exact dk ab,Pd hg ⋯,al.set J];rw[n5];exact aU (bq (aF _) rfl) (aU e1 (dB (wA (ag rfl) Y (aO (yJ (aA (aF _) (aA (aF _) (aA (aF _) (aA (aF _) (aA (aF _) (aA (aF _) (aA (ag rfl) aG))))))) (by simp)) e2 (g9 hr)) ab (by simp;omega) rfl)))
theorem My(hb:cy O j)(h1:1<=n)(hn:n<=100):∃(w:List Int) (kk:Nat) (O':aC),qB [.ptr j,.int (n:Int)] O=.ok (.ptr kk,O')/\O'[kk]? =pc (.lst (w.map D.int))/\w.length=n/\(∀x∈w,0<=x/\x<1000000)/\cy O' j/\kk≠j:=by
 have jl:=hb.lt;have J:O.length≠j:=⋯;have b0:cy (O++[.lst [.int 1]]) j:=hb.app;have Y:(O++[Cell.lst [.int 1]])[O.length]? =pc (.lst (([1]:List Int).map D.int)):=gE;have e2:setM 2 (iL (af (aq (.int 1)) ao)) #[wyR j n pi pi pi,O]=.next #[wyR j n (pc (.ptr O.length)) pi pi,O++[.lst [.int 1]]]:=bq (si (aA (aF _) aG) (by simp) rfl rfl) rfl
 generalize O++[Cell.lst [.int 1]]=O1 at b0 Y e2;generalize O.length=kk at J Y e2;obtain⟨s',el,w,O',x3,x4,U,wl,wb,hb',rfl⟩:=dh (ok:=okC (cX 0 ((n-1:Nat):Int)) pi) (g:=aB 3) (body:=n5)
  (λpre s=>∃(w:List Int) (O:aC) (x3 x4:Option D),O[kk]? =pc (.lst (w.map D.int))/\w.length=1+pre.length/\(∀x∈w,0<=x/\x<1000000)/\cy O j/\s=#[wyR j n (pc (.ptr kk)) x3 x4,O]) (λ_ _ _=>trivial) (cX 0 ((n-1:Nat):Int)) [] (by
   rintro pre d rest ed s ⟨w,O,x3,x4,hO,wl,wb,hb,rfl⟩;rw[wT,ib] at ed;obtain⟨rfl,an⟩:=nU ed;obtain⟨v,O',y4,eb,U,vb,hb'⟩:=Qc (n:=n) (x3:=pc (.int (pre.length:Int))) (x4:=x4) hb J hO ⋯;refine#[_,_,rfl,.inl eb,w++[v],O',_,_,U,by simp[wl];omega,λx hx=> ?_,hb',rfl];rcases wE.mp hx with q | q
   exact wb x q;rw[wn.mp q];exact vb) #[wyR j n (pc (.ptr kk)) pi pi,O1] #[[1],O1,pi,pi,Y,rfl,(λx hx=>by rw[wn.mp hx];decide),b0,rfl]
 rw[wT,gh] at wl;refine#[w,kk,O', ?_,U,⋯,wb,hb',J];refine de (R:=wyR j n (pc (.ptr kk)) x3 x4) ?_;show vT #[wyR j n pi pi pi,O]=_;rw[vT];refine aU e2 (aU ((cY (ds:=cX 0 ((n-1:Nat):Int)) (k:=pi) (s1:=#[wyR j n (pc (.ptr kk)) pi pi,O1]) (fL (aA (aO (ag rfl) (aF _) ?_) aG) ⋯)).trans el) (br (ag rfl)));rw[C1,show (n:Int)-1=((n-1:Nat):Int) by omega]
theorem zB{b:Nat}:∀(l:List Int),SzL b l->l.sum.natAbs<=l.length*2^b
 | [],_=>by simp
 | x::l,h=>by have h1:=zB l λy hy=>h y (tz _ hy);have h2:x.natAbs<2^b:=h x uC;rw[S6,xa,Nat.add_mul];have:=Tj x l.sum;omega
abbrev chR(cs:List Int)(goods:List Str)(kw km:Nat)(wide:Int)(x5 x6 x7 x8:Option D):List (Option D):=[pc (vI cs),pc (sD goods),pc (.ptr kw),pc (.ptr km),pc (.int wide),x5,x6,x7,x8]
structure ChI(g:Nat)(A:List (List Int)):Prop where
 len:∀r∈A,r.length=g
 sz:cE 31 A
theorem ML{x w:Int}(h:Sz 31 x)(h1:9<w)(h2:w<12):Sz 31 (x*(21-2*w)):=by have q:21-2*w=1\/21-2*w= -1:=⋯;unfold Sz at *;rcases q with q | q <;> rw[q] <;> omega
theorem Lg{cs:List Int}(a2:0<cs.length){kw km k L:Nat}{wide:Int}{O O0:aC}{x6 x7 x8:Option D}(hg:goods.length<=100)(hw:0<wide)(a3:wide<=1000000000)(hL:L<=km)(fr:∀i,i<L->O[i]? =O0[i]?)(hA:O[km]? =pc (.lst (A.map vI)))(hk:A.length=k)(al:k<=100)(h:ChI goods.length A):
 ∃r O' y6 y7 y8,jO #[chR cs goods kw km wide (pc (.int (k:Int))) x6 x7 x8,O]=.next #[chR cs goods kw km wide (pc (.int (k:Int))) y6 y7 y8,O']/\O'[km]? =pc (.lst ((A++[r]).map vI))/\(∀i,i<L->O'[i]? =O0[i]?)/\r.length=goods.length/\SzL 31 r:=by
 have a4:k%cs.length<cs.length:=Nat.mod_lt _ a2;have a5:km<O.length:=mV hA;have hp:(0:Int)<(cs.length:Int):=⋯;obtain⟨a0,c0,eb⟩:=zo (nth cs (k%cs.length)+700001*((k:Int)/(cs.length:Int)));have ln:bJ cx (af (aa 0) ao) #[chR cs goods kw km wide (pc (.int (k:Int))) x6 x7 x8,O]=.ok (.int (cs.length:Int),#[chR cs goods kw km wide (pc (.int (k:Int))) x6 x7 x8,O]):=hE (aA (ag rfl) aG) (by rw[fg,sB]);have e6:setM 6 (d3 1 eg (af (ak cq (ak ixD (aa 0) (ak gD (aa 5) (bJ cx (af (aa 0) ao)))) (ak cI (aq (.int 700001)) (ak d4 (aa 5) (bJ cx (af (aa 0) ao))))) ao)) #[chR cs goods kw km wide (pc (.int (k:Int))) x6 x7 x8,O]=.next #[chR cs goods kw km wide (pc (.int (k:Int))) (pc (.ptr O.length)) x7 x8,O++[.lst [.int a0,.int c0]]]:=by refine bq (jB (aA (aO (aO (ag rfl) (aO (ag rfl) ln (fJ hp)) ?_) (aO (aF _) (aO (ag rfl) ln (d:=.int ((k:Int)/(cs.length:Int))) ?_) (cN (eN (.inl ∅)))) d7) aG) eb rfl rfl iT ?_) rfl;rw[show (k:Int)%(cs.length:Int)=((k%cs.length:Nat):Int) by simp];exact g9 a4;rw[mj ⋯,pT hp];simp[shC,fG,shD]
 have Y:cy (O++[.lst [.int a0,.int c0]]) O.length:=#[a0,c0,gE];have g1:(O++[Cell.lst [.int a0,.int c0]])[km]? =pc (.lst (A.map vI)):=ee hA;have f1:∀i,i<L->(O++[Cell.lst [.int a0,.int c0]])[i]? =O0[i]? :=λi hi=>by rw[wP ⋯];exact fr i hi
 generalize hj:O.length=j at e6 Y a5;generalize O++[Cell.lst [.int a0,.int c0]]=O1 at e6 Y g1 f1;have kj:km≠j:=⋯;have Lj:∀i,i<L->i≠j:=λi hi=>⋯;obtain⟨one,O2,e7,l7,s7,b2,g2,f2⟩:=Jc (caps:=[6,4]) (im:=listI (aa 1)) (e:=bN 2 fT (af (aa 1) (af (aa 2) ao))) (s:=#[chR cs goods kw km wide (pc (.int (k:Int))) (pc (.ptr j)) x7 x8,O1]) (ds:=goods.map D.str) (k:=pi)
  (λO'=>cy O' j/\O'[km]? =pc (.lst (A.map vI))/\∀i,i<L->O'[i]? =O0[i]?) (Sz 31) (by rw[b9,ag (i:=1) rfl,aj];rfl) (λ_ _=>trivial) #[Y,g1,f1] (by simp;omega) (λd _ O' #[hb,hg,hf]=>by obtain⟨r,O2,en,q1,q2,q3⟩:=Hq hb hw a3;exact#[r,O2,gH (aA (ag rfl) (aA (ag rfl) aG)) en rfl,q1,q2,by rw[q3 km kj];exact hg,λi hi=>by rw[q3 i (Lj i hi)];exact hf i hi])
 rw[sB] at l7;obtain⟨w,J,e8,w1,b3,k3⟩:=iC (R:=chR cs goods kw km wide (pc (.int (k:Int))) (pc (.ptr j)) (pc (vI one)) x8) (m:=12) b2 ∅ (mb:=aa 6) (mm:=aq (.int 12)) (ag rfl) (aF _);have g3:J[km]? =pc (.lst (A.map vI)):=by rw[k3 km kj];exact g2
 have f3:∀i,i<L->J[i]? =O0[i]? :=λi hi=>by rw[k3 i (Lj i hi)];exact f2 i hi
 have bd:∃U,(ifS (vW (a7 (ak gtD (aa 8) (aq (.int 9)))) (a7 (ak gtD (aa 5) (aq (.int 0))))) (setM 7 (bL 1 [8] (listI (ak ixD (aa 3) (unM jb (aq (.int 1))))) (aB 0) bM (ak cI (aa 0) (ak lV (aq (.int 21)) (ak cI (aq (.int 2)) (aa 1)))))) bC) #[chR cs goods kw km wide (pc (.int (k:Int))) (pc (.ptr j)) (pc (vI one)) (pc (.int (w:Int))),J]=.next #[chR cs goods kw km wide (pc (.int (k:Int))) (pc (.ptr j)) (pc (vI U)) (pc (.int (w:Int))),J]/\U.length=goods.length/\SzL 31 U:=by
  have t:=GU (gM (j:=9) (ag (s:=#[chR cs goods kw km wide (pc (.int (k:Int))) (pc (.ptr j)) (pc (vI one)) (pc (.int (w:Int))),J]) (i:=8) rfl)) (gM (j:=0) (ag (i:=5) rfl));cases hb:(decide ((9:Int)<(w:Int))&&decide ((0:Int)<(k:Int))) with
  | false=>exact#[one,dX t hb cD,l7,s7]
  | true=>
   obtain⟨Y,b2⟩:=(RJ _ _▸hb:_/\_);have Y:=of_decide_eq_true Y;have b2:=of_decide_eq_true b2;have a1:atI (A.map vI) (-1)=pc (vI (A[A.length-1]'(⋯))):=by have:=M3 (l:=A.map vI) (i:=1) ∅ (by simp;omega);rw[show (-((1:Nat):Int))= -1 by rfl] at this;rw[this];simp
   have m1:A[A.length-1]'(⋯)∈A:=AL _;generalize A[A.length-1]'(⋯)=p1 at a1 m1;have pl:=h.len p1 m1;have ec:=dg (l:=p1) (item:=D.int) (out:=λx=>.int (x*(21-2*(w:Int)))) (caps:=[8]) (im:=listI (ak ixD (aa 3) (unM jb (aq (.int 1))))) (e:=ak cI (aa 0) (ak lV (aq (.int 21)) (ak cI (aq (.int 2)) (aa 1)))) (k:=pi) (s:=#[chR cs goods kw km wide (pc (.int (k:Int))) (pc (.ptr j)) (pc (vI one)) (pc (.int (w:Int))),J]) (by rw[b9,aO (ag (i:=3) rfl) (GR (aF _) tW) (pV g3 a1),aj];rfl) trivial ⋯ (λx _=>aO (ag rfl) (aO (aF _) (aO (aF _) (ag rfl) (cN (eN (.inl ∅)))) C1) (cN (eN (.inr ⋯))))
   rw[show p1.map (λx=>D.int (x*(21-2*(w:Int))))=(p1.map (· * (21-2*(w:Int)))).map D.int by rw[wf];rfl] at ec;refine#[p1.map (· * (21-2*(w:Int))),eW t hb (bq ec rfl),by simp[pl],λx hx=> ?_];obtain⟨y,hy,rfl⟩:=ss.mp hx;exact ML (h.sz p1 m1 y hy) Y w1
 obtain⟨U,e9,l9,s9⟩:=bd;have bi:∃r2,(ifS (a7 (ak eqD (aa 8) (aq (.int 9)))) (setM 7 (bL 1 [] (listI (aa 1)) (aB 0) bM (aq (.int 0)))) bC) #[chR cs goods kw km wide (pc (.int (k:Int))) (pc (.ptr j)) (pc (vI U)) (pc (.int (w:Int))),J]=.next #[chR cs goods kw km wide (pc (.int (k:Int))) (pc (.ptr j)) (pc (vI r2)) (pc (.int (w:Int))),J]/\r2.length=goods.length/\SzL 31 r2:=by have t:=eq_test (j:=9) (ag (s:=#[chR cs goods kw km wide (pc (.int (k:Int))) (pc (.ptr j)) (pc (vI U)) (pc (.int (w:Int))),J]) (i:=8) rfl);by_cases hb:(w:Int)=9;have ec:=dg (l:=goods) (item:=D.str) (out:=λ_=>.int 0) (caps:=[]) (im:=listI (aa 1)) (e:=aq (.int 0)) (k:=pi) (s:=#[chR cs goods kw km wide (pc (.int (k:Int))) (pc (.ptr j)) (pc (vI U)) (pc (.int (w:Int))),J]) (by rw[b9,ag (i:=1) rfl,aj];rfl) trivial ⋯ (λ_ _=>aF _);rw[show goods.map (λ_=>D.int 0)=(goods.map λ_=>(0:Int)).map D.int by rw[wf];rfl] at ec;refine#[goods.map λ_=>0,eW t (decide_eq_true hb) (bq ec rfl),by simp,λx hx=> ?_];obtain⟨y,_,rfl⟩:=ss.mp hx;exact Sz.zero _;exact#[U,dX t (decide_eq_false hb) cD,l9,s9]
 obtain⟨r2,bm,bn,bp⟩:=bi;refine#[r2,J.set km (.lst (A.map vI++[vI r2])),pc (.ptr j),pc (vI r2),pc (.int (w:Int)), ?_,by rw[KE];exact dk g3,λi hi=>by rw[dm ⋯];exact f3 i hi,bn,bp];rw[jO];exact aU e6 (aU (bq e7 rfl) (aU (bq e8 rfl) (aU e9 (aU bm (dB (wA (ag rfl) g3 (ag rfl) g3 (by simp;omega) rfl))))))
theorem Lm(h:O[k]? =pc (.lst (A.map vI)))(hi:i<A.length):ixD O (.ptr k) (.int (i:Int))=.ok (vI (A.getD i [])):=by refine pV h ?_;rw[gZ (by simpa using hi)];simp[pr,hi]
theorem Dk(h:O[k]? =pc (.lst (y.map D.int)))(hi:i<y.length):ixD O (.ptr k) (.int (i:Int))=.ok (.int (nth y i)):=by refine pV h ?_;rw[gZ (by simpa using hi)];simp[nth,pr,hi]
theorem uR(h:i<A.length):A.getD i []∈A:=by rw[pr,sK h];exact AL _
theorem Fj{cs:List Int}(az:0<cs.length){kw:Nat}(hg:goods.length<=100)(h1:1<=w.length)(h6:w.length<=7)(wb:∀x∈w,0<=x/\x<1000000)(hW:O[kw]? =pc (.lst (w.map D.int))):
 ∃A O',jk [vI cs,sD goods,.ptr kw] O=.ok (vII A,O')/\(∀i,i<O.length->O'[i]? =O[i]?)/\A.length=w.length/\(∀r∈A,r.length=goods.length)/\cE 60 A:=by
 have U:kw<O.length:=mV hW;have g0:(O++[Cell.lst []])[O.length]? =pc (.lst (([]:List (List Int)).map vI)):=gE;have f0:∀i,i<O.length->(O++[Cell.lst []])[i]? =O[i]? :=λi hi=>wP hi;have e3:∀x4,setM 3 (iL ao) #[[pc (vI cs),pc (sD goods),pc (.ptr kw),pi,x4,pi,pi,pi,pi],O]=.next #[[pc (vI cs),pc (sD goods),pc (.ptr kw),pc (.ptr O.length),x4,pi,pi,pi,pi],O++[.lst []]]:=λ_=>bq (si aG (by simp) rfl rfl) rfl
 obtain⟨L,hL⟩:∃L,O.length=L:=#[_,rfl];rw[hL] at U g0 f0 e3;generalize O++[Cell.lst []]=O1 at g0 f0 e3;have ln:∀{x4 x5 x6 x7 x8:Option D} {O':aC},O'[kw]? =pc (.lst (w.map D.int))->bJ cx (af (aa 2) ao) #[[pc (vI cs),pc (sD goods),pc (.ptr kw),pc (.ptr L),x4,x5,x6,x7,x8],O']=.ok (.int (w.length:Int),#[[pc (vI cs),pc (sD goods),pc (.ptr kw),pc (.ptr L),x4,x5,x6,x7,x8],O']):=λhO=>hE (aA (ag rfl) aG) (by rw[xV hO,sB]);have W1:O1[kw]? =pc (.lst (w.map D.int)):=by rw[f0 kw U];exact hW
 have a2:∃wide:Int,(0<wide/\wide<=1000000000)/\(ifS (a7 (ak ltD (bJ cx (af (aa 2) ao)) (aq (.int 4)))) (setM 4 (ak hJ (aq (.int 10)) (aq (.int 9)))) bC) #[chR cs goods kw L 4 pi pi pi pi,O1]=.next #[chR cs goods kw L wide pi pi pi pi,O1]:=by have t:=eI (aO (ln (x4:=pc (.int 4)) (x5:=pi) (x6:=pi) (x7:=pi) (x8:=pi) W1) (aF (.int 4)) nH);by_cases h4:(w.length:Int)<4;exact#[1000000000,∅,eW t (decide_eq_true h4) (bq (aO (aF _) (aF _) (j6 ∅ ∅ ∅)) rfl)];exact#[4,∅,dX t (decide_eq_false h4) cD]
 obtain⟨wide,hw,e4⟩:=a2;obtain⟨s',el,A,J,x5,x6,x7,x8,Y,ch,hA,f2,rfl⟩:=dh (ok:=okC (cX 0 (w.length:Int)) pi) (g:=aB 5) (body:=jO)
  (λpre s=>∃(A:List (List Int)) (J:aC) (x5 x6 x7 x8:Option D),A.length=pre.length/\ChI goods.length A/\J[L]? =pc (.lst (A.map vI))/\(∀i,i<L->J[i]? =O[i]?)/\s=#[chR cs goods kw L wide x5 x6 x7 x8,J]) (λ_ _ _=>trivial) (cX 0 (w.length:Int)) [] (by
   rintro pre d rest ed s ⟨A,J,x5,x6,x7,x8,Y,ch,hA,f2,rfl⟩;rw[wT,ib] at ed;obtain⟨rfl,ce⟩:=nU ed;obtain⟨r,O3,y6,y7,y8,eb,ac,f3,rl,rs⟩:=Lg az (goods:=goods) (kw:=kw) (km:=L) (k:=pre.length) (x6:=x6) (x7:=x7) (x8:=x8) hg hw.1 hw.2 (vr L) f2 hA Y ⋯ ch;refine#[_,_,rfl,.inl eb,A++[r],O3,_,_,_,_,by simp[Y],#[λz hz=> ?_,λz hz=> ?_],ac,f3,rfl];rcases wE.mp hz with q | q
   exact ch.len z q;rw[wn.mp q];exact rl;rcases wE.mp hz with q | q
   exact ch.sz z q;rw[wn.mp q];exact rs) #[chR cs goods kw L wide pi pi pi pi,O1] #[[],O1,pi,pi,pi,pi,rfl,#[by simp,λr hr=>by cases hr],g0,f0,rfl]
 rw[wT,gh] at Y;have Y:A.length=w.length:=⋯;have W2:J[kw]? =pc (.lst (w.map D.int)):=by rw[f2 kw U];exact hW
 have zw:SzL 20 w:=λx hx=>by have:=wb x hx;unfold Sz;omega
 have a5:∃A' O3,(ifS (a7 (ak eqD (ak ixD (aa 2) (aq (.int 0))) (aq (.int 1)))) (gA (bL 1 [3,2] (fb (af (bJ cx (af (aa 1) ao)) ao)) (aB 0) bM (unM jb (bJ tK (af (bL 1 [0,1,2] (rS (af (aq (.int 1)) (af (bJ cx (af (aa 2) ao)) ao))) (aB 0) bM (ak cI (ak ixD (ak ixD (aa 2) (aa 0)) (aa 1)) (ak ixD (aa 3) (aa 0)))) ao)))) (jJ (aa 3) (aq (.int 0)))) bC) #[chR cs goods kw L wide x5 x6 x7 x8,J]=.next #[chR cs goods kw L wide x5 x6 x7 x8,O3]/\O3[L]? =pc (.lst (A'.map vI))/\(∀i,i<L->O3[i]? =O[i]?)/\A'.length=w.length/\(∀r∈A',r.length=goods.length)/\cE 60 A':=by
  have t:=eq_test (j:=1) (aO (ag (s:=#[chR cs goods kw L wide x5 x6 x7 x8,J]) (i:=2) rfl) (aF (.int ((0:Nat):Int))) (Dk W2 (show 0<w.length by omega)));by_cases hb:nth w 0=1;have ec:=dg (l:=uM goods.length) (item:=λg:Nat=>D.int (g:Int)) (out:=λg:Nat=>.int (-((uM (w.length-1)).map λk:Nat=>nth (A.getD (k+1) []) g*nth w (k+1)).sum)) (caps:=[3,2]) (im:=fb (af (bJ cx (af (aa 1) ao)) ao)) (e:=unM jb (bJ tK (af (bL 1 [0,1,2] (rS (af (aq (.int 1)) (af (bJ cx (af (aa 2) ao)) ao))) (aB 0) bM (ak cI (ak ixD (ak ixD (aa 2) (aa 0)) (aa 1)) (ak ixD (aa 3) (aa 0)))) ao))) (k:=pi) (s:=#[chR cs goods kw L wide x5 x6 x7 x8,J]) (by
   rw[<- ib];exact fL (aA (hE (aA (ag rfl) aG) (by rw[fg,sB])) aG) ⋯) trivial (by simp;omega) (λg bd=>by
   have be:=AC.mp bd;have ei:=dg (l:=uM (w.length-1)) (item:=λk:Nat=>D.int (1+(k:Int))) (out:=λk:Nat=>.int (nth (A.getD (k+1) []) g*nth w (k+1))) (caps:=[0,1,2]) (im:=rS (af (aq (.int 1)) (af (bJ cx (af (aa 2) ao)) ao))) (e:=ak cI (ak ixD (ak ixD (aa 2) (aa 0)) (aa 1)) (ak ixD (aa 3) (aa 0))) (k:=pi) (s:=#[[pc (.int (g:Int)),pc (.ptr L),pc (.ptr kw)],J]) (by
    rw[<- Gr,show w.length-1+1=w.length by omega];exact ED (aA (aF _) (aA (hE (aA (ag rfl) aG) (by rw[xV W2,sB])) aG)) ⋯) trivial (by simp;omega) (λk hk=>by
    have bi:=AC.mp hk;have q1:ixD J (.ptr L) (.int (1+(k:Int)))=.ok (vI (A.getD (k+1) [])):=by rw[show 1+(k:Int)=((k+1:Nat):Int) by omega];exact Lm hA ⋯
    have q2:ixD J (.ptr kw) (.int (1+(k:Int)))=.ok (.int (nth w (k+1))):=by rw[show 1+(k:Int)=((k+1:Nat):Int) by omega];exact Dk W2 ⋯
    have rl:=ch.len _ (uR (A:=A) (i:=k+1) ⋯);have z2:=zw.nth (k+1);exact aO (aO (aO (ag rfl) (ag rfl) q1) (ag rfl) (g9 ⋯)) (aO (ag rfl) (ag rfl) q2) (cN (eN (.inr (AT z2 ∅)))))
   rw[show (uM (w.length-1)).map (λk:Nat=>D.int (nth (A.getD (k+1) []) g*nth w (k+1)))=((uM (w.length-1)).map λk:Nat=>nth (A.getD (k+1) []) g*nth w (k+1)).map D.int by rw[wf];rfl] at ei;exact GR (hE (aA ei aG) qI) tW)
  rw[show (uM goods.length).map (λg:Nat=>D.int (-((uM (w.length-1)).map λk:Nat=>nth (A.getD (k+1) []) g*nth w (k+1)).sum))=((uM goods.length).map λg:Nat=> -((uM (w.length-1)).map λk:Nat=>nth (A.getD (k+1) []) g*nth w (k+1)).sum).map D.int by rw[wf];rfl] at ec;have zl:((uM goods.length).map λg:Nat=> -((uM (w.length-1)).map λk:Nat=>nth (A.getD (k+1) []) g*nth w (k+1)).sum).length=goods.length:=by simp
  have zz:SzL 60 ((uM goods.length).map λg:Nat=> -((uM (w.length-1)).map λk:Nat=>nth (A.getD (k+1) []) g*nth w (k+1)).sum):=λx hx=>by
   obtain⟨g,be,rfl⟩:=ss.mp hx;refine Sz.neg ?_;have:=zB (b:=51) ((uM (w.length-1)).map λk:Nat=>nth (A.getD (k+1) []) g*nth w (k+1)) (λy hy=>by obtain⟨k,hk,rfl⟩:=ss.mp hy;have bi:=AC.mp hk;exact Sz.mul ((ch.sz _ (uR (A:=A) (i:=k+1) ⋯)).nth g) (zw.nth (k+1)))
   rw[sB,R8] at this;exact Sk this ⋯
  generalize (uM goods.length).map (λg:Nat=> -((uM (w.length-1)).map λk:Nat=>nth (A.getD (k+1) []) g*nth w (k+1)).sum)=z at ec zl zz;refine#[A.set 0 z,J.set L (.lst ((A.map vI).set 0 (vI z))),eW t (decide_eq_true hb) (CK ec (lX (a:=0) (ag rfl) (aF _) hA (by simp;omega))),by rw[dk hA,TJ],λi hi=>by rw[dm ⋯];exact f2 i hi,by simp[Y],λr hr=> ?_,λr hr=> ?_];rcases Sx hr with q | q
  exact ch.len r q;rw[q];exact zl;rcases Sx hr with q | q
  exact(ch.sz r q).mono ∅;rw[q];exact zz;exact#[A,J,dX t (decide_eq_false hb) cD,hA,f2,Y,ch.len,ch.sz.mono ∅]
 obtain⟨A',O3,e6,ac,f3,bm,bn,bp⟩:=a5;refine#[A',O3.set L .dead, ?_,λi hi=>by rw[dm ⋯];exact f3 i ⋯,bm,bn,bp];refine de (R:=chR cs goods kw L wide x5 x6 x7 x8) ?_;show oR #[[pc (vI cs),pc (sD goods),pc (.ptr kw),pi,pi,pi,pi,pi,pi],O]=_;rw[oR];exact aU (e3 _) (aU (bq (aF _) rfl) (aU e4 (aU ((cY (ds:=cX 0 (w.length:Int)) (k:=pi) (s1:=#[chR cs goods kw L wide pi pi pi pi,O1]) (fL (aA (ln W1) aG) ⋯)).trans el) (aU e6 (br (pj (ag rfl) ac rfl))))))
theorem IA{m1 m2:EM}{i j:Int}(h1:m1 s=.ok (.int i,s1))(h2:m2 s1=.ok (.int j,s2)):bJ uo (af m1 (af m2 ao)) s=.ok (.int (max i j),s2):=by refine hE (aA h1 (aA h2 aG)) ?_;show Res.ok (D.int (if j>i then j else i))=_;congr 2;split <;> omega
def rO(l:List (Str×Int))(g:Str)(a:Int):List (Str×Int):=if 0<a then l++[(g,a)] else l
theorem BD{l r:List (Str×Int)}:sumOf h (l++r)=sumOf h l+sumOf h r:=by unfold sumOf;rw[List.filter_append,KE,Vx]
theorem B7{a:Int}:sumOf h [(g,a)]=if g=h then a else 0:=by unfold sumOf;by_cases e:g=h;rw[if_pos e,Go (by simpa using e)];simp;rw[if_neg e,Rl (by simpa using e)];rfl
theorem Ik(e:∀p∈l,p.1≠h):sumOf h l=0:=by unfold sumOf;rw[List.filter_eq_nil_iff.mpr (λp hp=>by simpa using e p hp)];rfl
theorem F8(J:goods.Nodup)(hi:i<goods.length)(h:Pt goods i l){a:Int}:Pt goods (i+1) (rO l goods[i] a):=by unfold rO;split;exact h.more J hi ⋯;exact h.same
theorem BU(J:goods.Nodup)(hi:i<goods.length)(h:Pt goods i l){a:Int}(ha:0<=a):sumOf goods[i] (rO l goods[i] a)=a:=by
 have z:sumOf goods[i] l=0:=Ik λp hp e=>by have:=h.mem p hp;rw[e] at this;exact kB J hi this
 unfold rO;split;rw[BD,z,B7,if_pos rfl,Int.zero_add];rw[z];omega
theorem Aa(J:goods.Nodup)(hi:i<goods.length)(U:j<i)(l:List (Str×Int))(a:Int):sumOf (goods[j]'(⋯)) (rO l goods[i] a)=sumOf (goods[j]'(⋯)) l:=by
 have ne:goods[i]≠goods[j]'(⋯):=λe=>by have:goods[j]'(⋯)∈goods.take i:=IR (i:=j) (by rw[Up U,sK ⋯]);exact kB J hi (by rw[e];exact this)
 unfold rO;split;rw[BD,B7,if_neg ne,Int.add_zero];rfl
structure WkI(goods:List Str)(mv:List Int)(i:Nat)(us ms:List (Str×Int)):Prop where
 u:Pt goods i us
 m:Pt goods i ms
 s:∀j,(hj:j<goods.length)->j<i->sumOf goods[j] ms-sumOf goods[j] us=nth mv j
structure CO(goods:List Str)(w:Wk):Prop where
 us:px goods w.us/\w.us.length<=100
 ms:px goods w.ms/\w.ms.length<=100
theorem Bh{α β:Type}{f:α->D}{g:β->D}{as:List α}{bs:List β}:gg (as.map f) (bs.map g)=(as.zip bs).map λp=>.tup [f p.1,g p.2]:=by
 unfold gg;rw[Uq];induction as generalizing bs with
 | nil=>rfl
 | cons a as J=>
  cases bs with
  | nil=>rfl
  | cons b bs=>simp[J]
theorem Ca{α β:Type}{f:α->D}{g:β->D}{as:List α}{bs:List β}(J:as.length=bs.length){pre rest:List D}(h:gg (as.map f) (bs.map g)=pre++d::rest):∃(h1:pre.length<as.length) (h2:pre.length<bs.length),d=.tup [f as[pre.length],g bs[pre.length]]:=by rw[Bh] at h;obtain⟨q,e⟩:=i6 h;rw[RA] at q;refine#[⋯,⋯, ?_];rw[e];simp
theorem Gy{α β:Type}{f:α->D}{g:β->D}{as:List α}{bs:List β}(J:as.length=bs.length):(gg (as.map f) (bs.map g)).length=as.length:=by rw[Bh];simp[J]
theorem Bm{kk slot:Nat}{c:TM}{p:Bool}{a:Int}(hs:R[slot]? =pc (pc (.ptr kk)))(U:R[9]? =pc (pc (.str g)))(J:O[kk]? =pc (.lst (l.map pD)))(hl:l.length<=1000)(Y:me #[R,O]=.ok (.int a,#[R,O]))(hc:c #[R,O]=.ok (p,#[R,O]))(hp:p=decide (0<a)):
 ∃O',ifS c (eX (lY (aa slot) (jE (af (aa 9) (af me ao))))) bC #[R,O]=.next #[R,O']/\O'[kk]? =pc (.lst ((rO l g a).map pD))/\∀q,q≠kk->O'[q]? =O[q]? :=by
 unfold rO;by_cases h:0<a;rw[if_pos h];refine#[O.set kk (.lst (l.map pD++[pD (g,a)])),eW hc (hp.trans (decide_eq_true h)) (dB (wA (ag hs) J (sY (aA (ag U) (aA Y aG)) (by simp)) J (by simp;omega) rfl)),by rw[dk J,KE];rfl,λq hq=>dm λz=>hq z.symm];rw[if_neg h];exact#[O,dX hc (hp.trans (decide_eq_false h)) cD,J,λ_ _=>rfl]
abbrev wkR(j:Nat)(zs goods:List Str)(A:List (List Int))(km:Nat)(x5 x6 x7 x8 x9 x10 x11:Option D):List (Option D):=[pc (.ptr j),pc (sD zs),pc (sD goods),pc (vII A),pc (.ptr km),x5,x6,x7,x8,x9,x10,x11]
theorem OJ(h:0<=m):(decide (v<0)||decide (0<m))=decide (0<max (-v) 0+m):=by rw[RH];simp only[SJ,decide_eq_true_eq];omega
theorem ME(h:0<=m):(decide (0<v)||decide (0<m))=decide (0<max v 0+m):=by rw[RH];simp only[SJ,decide_eq_true_eq];omega
theorem J3{A:List (List Int)}{goods zs:List Str}{j km i ku kz:Nat}{mv:List Int}{us ms:List (Str×Int)}{x5 x6 x11:Option D}(J:goods.Nodup)(hi:i<goods.length)(hg:goods.length<=100)(hv:nth mv i=v)(Y:ku≠kz)(ab:ku≠j)(ac:kz≠j)(h:WkI goods mv i us ms)(hb:cy O j)(hu:O[ku]? =pc (.lst (us.map pD)))(hm:O[kz]? =pc (.lst (ms.map pD))):
 ∃al am O' as,jj #[wkR j zs goods A km x5 x6 (pc (.ptr ku)) (pc (.ptr kz)) (pc (.str goods[i])) (pc (.int v)) x11,O]=.next #[wkR j zs goods A km x5 x6 (pc (.ptr ku)) (pc (.ptr kz)) (pc (.str goods[i])) (pc (.int v)) as,O']/\WkI goods mv (i+1) al am/\O'[ku]? =pc (.lst (al.map pD))/\O'[kz]? =pc (.lst (am.map pD))/\cy O' j/\∀q,q≠ku->q≠kz->q≠j->O'[q]? =O[q]? :=by
 have st:∃(m:Int) (O1:aC),(ifS (a7 (ak eqD (bN 2 aQ (af (aa 0) (af (aq (.int 6)) ao))) (aq (.int 5)))) (setM 11 (ak cq (aq (.int 1)) (bN 2 aQ (af (aa 0) (af (aq (.int 5)) ao))))) bC) #[wkR j zs goods A km x5 x6 (pc (.ptr ku)) (pc (.ptr kz)) (pc (.str goods[i])) (pc (.int v)) (pc (.int 0)),O]=.next #[wkR j zs goods A km x5 x6 (pc (.ptr ku)) (pc (.ptr kz)) (pc (.str goods[i])) (pc (.int v)) (pc (.int m)),O1]/\0<=m/\cy O1 j/\∀q,q≠j->O1[q]? =O[q]? :=by obtain⟨r,O1,e1,_,an,U⟩:=iC (R:=wkR j zs goods A km x5 x6 (pc (.ptr ku)) (pc (.ptr kz)) (pc (.str goods[i])) (pc (.int v)) (pc (.int 0))) (m:=6) hb ∅ (mb:=aa 0) (mm:=aq (.int 6)) (ag rfl) (aF _);have t:=eq_test (j:=5) e1;by_cases h5:(r:Int)=5;obtain⟨r2,O2,e2,_,a0,k2⟩:=iC (R:=wkR j zs goods A km x5 x6 (pc (.ptr ku)) (pc (.ptr kz)) (pc (.str goods[i])) (pc (.int v)) (pc (.int 0))) (m:=5) an ∅ (mb:=aa 0) (mm:=aq (.int 5)) (ag rfl) (aF _);exact#[1+(r2:Int),O2,eW t (decide_eq_true h5) (bq (aO (aF _) e2 d7) rfl),⋯,a0,λq hq=>by rw[k2 q hq,U q hq]];exact#[0,O1,dX t (decide_eq_false h5) cD,Tn 0,an,U]
 obtain⟨m,O0,e0,m0,a1,k0⟩:=st;have ul:=h.u.len;have ml:=h.m.len;obtain⟨O1,e1,g1,U⟩:=Bm (R:=wkR j zs goods A km x5 x6 (pc (.ptr ku)) (pc (.ptr kz)) (pc (.str goods[i])) (pc (.int v)) (pc (.int m))) (O:=O0) (slot:=7) (l:=us) (c:=orT (a7 (ak ltD (aa 10) (aq (.int 0)))) (a7 (ak gtD (aa 11) (aq (.int 0))))) (me:=ak cq (bJ uo (af (unM jb (aa 10)) (af (aq (.int 0)) ao))) (aa 11)) (a:=max (-v) 0+m) rfl rfl (by rw[k0 _ ab];exact hu) ⋯ (aO (IA (GR (ag rfl) tW) (aF _)) (ag rfl) d7) (OA (eI (aO (ag rfl) (aF _) nH)) (gM (ag rfl))) (OJ m0);obtain⟨O2,e2,g2,k2⟩:=Bm (R:=wkR j zs goods A km x5 x6 (pc (.ptr ku)) (pc (.ptr kz)) (pc (.str goods[i])) (pc (.int v)) (pc (.int m))) (O:=O1) (slot:=8) (l:=ms) (c:=orT (a7 (ak gtD (aa 10) (aq (.int 0)))) (a7 (ak gtD (aa 11) (aq (.int 0))))) (me:=ak cq (bJ uo (af (aa 10) (af (aq (.int 0)) ao))) (aa 11)) (a:=max v 0+m) rfl rfl (by rw[U _ Y.symm,k0 _ ac];exact hm) ⋯ (aO (IA (ag rfl) (aF _)) (ag rfl) d7) (OA (gM (ag rfl)) (gM (ag rfl))) (ME m0);refine#[rO us goods[i] (max (-v) 0+m),rO ms goods[i] (max v 0+m),O2,pc (.int m), ?_,#[F8 J hi h.u,F8 J hi h.m,λj hj bp=> ?_],by rw[k2 _ Y];exact g1,g2, ?_,λq h1 h2 h3=>by rw[k2 q h2,U q h1,k0 q h3]];rw[jj];exact aU (bq (aF _) rfl) (aU e0 (aU e1 e2));by_cases e:j=i;subst e;rw[BU J hi h.m ⋯,BU J hi h.u ⋯,hv];omega;rw[Aa J hi ⋯,Aa J hi ⋯];exact h.s j hj ⋯;obtain⟨a,c,hc⟩:=a1;exact#[a,c,by rw[k2 j (S1 ac),U j (S1 ab)];exact hc]
theorem IQ{A:List (List Int)}{goods zs:List Str}{z:Str}{j km:Nat}{mv:List Int}{W:List Wk}{x7 x8 x9 x10 x11:Option D}(nd:goods.Nodup)(hg:goods.length<=100)(hl:mv.length=goods.length)(wl:W.length<=1000)(ac:km≠j)(hb:cy O j)(hO:O[km]? =pc (.lst (W.map wD))):
 ∃w O' y7 y8 y9 az al,lF #[wkR j zs goods A km (pc (.str z)) (pc (vI mv)) x7 x8 x9 x10 x11,O]=.next #[wkR j zs goods A km (pc (.str z)) (pc (vI mv)) y7 y8 y9 az al,O']/\O'[km]? =pc (.lst ((W++[w]).map wD))/\w.nm=z/\CO goods w/\goods.map (chg w)=mv/\cy O' j:=by
 have o0:km<O.length:=mV hO;have j0:=hb.lt;have e7:setM 7 (iL ao) #[wkR j zs goods A km (pc (.str z)) (pc (vI mv)) x7 x8 x9 x10 x11,O]=.next #[wkR j zs goods A km (pc (.str z)) (pc (vI mv)) (pc (.ptr O.length)) x8 x9 x10 x11,O++[.lst []]]:=bq (si aG (by simp) rfl rfl) rfl
 have e8:setM 8 (iL ao) #[wkR j zs goods A km (pc (.str z)) (pc (vI mv)) (pc (.ptr O.length)) x8 x9 x10 x11,O++[.lst []]]=.next #[wkR j zs goods A km (pc (.str z)) (pc (vI mv)) (pc (.ptr O.length)) (pc (.ptr (O.length+1))) x9 x10 x11,O++[.lst []]++[.lst []]]:=bq (si aG (by simp) (by simp) rfl) rfl
 have cu:(O++[Cell.lst []]++[Cell.lst []])[O.length]? =pc (.lst (([]:List (Str×Int)).map pD)):=ee gE;have cm:(O++[Cell.lst []]++[Cell.lst []])[O.length+1]? =pc (.lst (([]:List (Str×Int)).map pD)):=by have:=gE (O:=O++[Cell.lst []]) (c:=Cell.lst []);rw[xL] at this;exact this
 have c0:(O++[Cell.lst []]++[Cell.lst []])[km]? =pc (.lst (W.map wD)):=ee (ee hO);have b0:cy (O++[Cell.lst []]++[Cell.lst []]) j:=hb.app.app;generalize O++[Cell.lst []]++[Cell.lst []]=O1 at e8 cu cm c0 b0;obtain⟨ku,hku⟩:∃ku,O.length=ku:=#[_,rfl];rw[hku] at e7 e8 cu cm o0 j0;have a3:ku≠ku+1:=⋯;obtain⟨s',el,us,ms,J,am,U,Y,hw,hu,hm,h0,a4,a5⟩:=dh (ok:=okC (gg (goods.map D.str) (mv.map D.int)) pi) (g:=c7 (bc (aB 9) (bc (aB 10) c8)) 2) (body:=jj)
  (λpre s=>∃(us ms:List (Str×Int)) (J:aC) (x9 x10 x11:Option D),WkI goods mv pre.length us ms/\J[ku]? =pc (.lst (us.map pD))/\J[ku+1]? =pc (.lst (ms.map pD))/\J[km]? =pc (.lst (W.map wD))/\cy J j/\s=#[wkR j zs goods A km (pc (.str z)) (pc (vI mv)) (pc (.ptr ku)) (pc (.ptr (ku+1))) x9 x10 x11,J]) (λ_ _ _=>trivial) (gg (goods.map D.str) (mv.map D.int)) [] (by
   rintro pre d rest ed s ⟨us,ms,J,x9,x10,x11,h1,h2,h3,h4,h5,rfl⟩;rw[wT] at ed;obtain⟨bb,an,rfl⟩:=Ca hl.symm ed;obtain⟨bd,be,O3,al,eb,bi,bm,bn,bp,bv⟩:=J3 (A:=A) (goods:=goods) (zs:=zs) (v:=mv[pre.length]) (j:=j) (km:=km) (i:=pre.length) (ku:=ku) (kz:=ku+1) (mv:=mv) (us:=us) (ms:=ms) (O:=J) (x5:=pc (.str z)) (x6:=pc (vI mv)) (x11:=x11) nd bb hg (by unfold nth;rw[pr,sK an];rfl) a3 ⋯ ⋯ h1 h5 h2 h3
   refine#[_,_,by rw[tX];rfl,.inl eb,bd,be,O3,_,_,_, ?_,bm,bn,by rw[bv km ⋯ ⋯ ac];exact h4,bp,rfl];rw[xL,EQ];exact bi) #[wkR j zs goods A km (pc (.str z)) (pc (vI mv)) (pc (.ptr ku)) (pc (.ptr (ku+1))) x9 x10 x11,O1] #[[],[],O1,x9,x10,x11,#[#[by simp,by simp,by simp,by simp],#[by simp,by simp,by simp,by simp],λj _ h=>absurd h (by simp)],cu,cm,c0,b0,rfl]
 rw[wT,Gy hl.symm] at hw;have hf:eL (nF (af (aa 2) (af (aa 6) ao))) (c7 (bc (aB 9) (bc (aB 10) c8)) 2) jj #[wkR j zs goods A km (pc (.str z)) (pc (vI mv)) (pc (.ptr ku)) (pc (.ptr (ku+1))) x9 x10 x11,O1]=.next #[wkR j zs goods A km (pc (.str z)) (pc (vI mv)) (pc (.ptr ku)) (pc (.ptr (ku+1))) am U Y,J]:=by refine(cY (ds:=gg (goods.map D.str) (mv.map D.int)) (k:=pi) (s1:=#[wkR j zs goods A km (pc (.str z)) (pc (vI mv)) (pc (.ptr ku)) (pc (.ptr (ku+1))) x9 x10 x11,O1]) ?_).trans (el.trans (by rw[a5]));rw[AN,aA (ag rfl) (aA (ag rfl) aG),aj]
 have ap:goods.map (chg #[z,us,ms])=mv:=by
  refine S2 (by simp[hl]) λj h1 h2=> ?_;have hj:j<goods.length:=by simpa using h1
  rw[Tt];show sumOf goods[j] ms-sumOf goods[j] us=_;rw[hw.s j hj hj];unfold nth;rw[pr,sK h2];rfl
 have b3:=hw.u.len;have b4:=hw.m.len;refine#[#[z,us,ms],((J.set ku .dead).set (ku+1) .dead).set km (.lst (W.map wD++[wD #[z,us,ms]])),pc (.ptr ku),pc (.ptr (ku+1)),am,U,Y, ?_,(by rw[KE];exact dk (c':=.lst (W.map wD)) (by rw[dm ⋯,dm ⋯];exact h0)),rfl,#[#[hw.u.parts,by show us.length<=100;omega],#[hw.m.parts,by show ms.length<=100;omega]],ap,((a4.set ⋯).set ⋯).set ac];rw[lF];refine aU e7 (aU e8 (aU hf (dB (wA (ag rfl) h0 (sY (aA (ag rfl) (aA (pj (ag rfl) hu rfl) (aA (pj (ag rfl) (by rw[dm ⋯];exact hm) rfl) aG))) (by simp)) (by rw[dm ⋯,dm ⋯];exact h0) (by simp;omega) rfl))))
theorem IL(hb:cy O j)(nd:goods.Nodup)(hg:goods.length<=100)(ha:∀l∈A,l.length=goods.length)(hz:zs.length=A.length)(al:A.length<=100):
 ∃ws O',n4 [.ptr j,sD zs,sD goods,vII A] O=.ok (wsD ws,O')/\ws.map (·.nm)=zs/\(∀w∈ws,CO goods w)/\ws.map (λw=>goods.map (chg w))=A:=by
 have j0:=hb.lt;have g0:(O++[Cell.lst []])[O.length]? =pc (.lst (([]:List Wk).map wD)):=gE;have b0:cy (O++[Cell.lst []]) j:=hb.app;have e4:setM 4 (iL ao) #[[pc (.ptr j),pc (sD zs),pc (sD goods),pc (vII A),pi,pi,pi,pi,pi,pi,pi,pi],O]=.next #[wkR j zs goods A O.length pi pi pi pi pi pi pi,O++[.lst []]]:=bq (si aG (by simp) rfl rfl) rfl
 generalize O++[Cell.lst []]=O1 at g0 b0 e4;generalize O.length=km at j0 g0 e4;obtain⟨s',el,W,O2,Y,x6,x7,x8,x9,x10,x11,h1,h2,J,hO,be,an⟩:=dh (ok:=okC (gg (zs.map D.str) (A.map vI)) pi) (g:=c7 (bc (aB 5) (bc (aB 6) c8)) 2) (body:=lF)
  (λpre s=>∃(W:List Wk) (O:aC) (Y x6 x7 x8 x9 x10 x11:Option D),W.map (·.nm)=zs.take pre.length/\(∀w∈W,CO goods w)/\W.map (λw=>goods.map (chg w))=A.take pre.length/\O[km]? =pc (.lst (W.map wD))/\cy O j/\s=#[wkR j zs goods A km Y x6 x7 x8 x9 x10 x11,O]) (λ_ _ _=>trivial) (gg (zs.map D.str) (A.map vI)) [] (by
   rintro pre d rest ed s ⟨W,O,Y,x6,x7,x8,x9,x10,x11,h1,h2,J,h4,h5,rfl⟩;rw[wT] at ed;obtain⟨ap,U,rfl⟩:=Ca hz ed;have wl:W.length<=1000:=by have:=congrArg S7 J;simp at this;omega
   obtain⟨w,O',y7,y8,y9,bn,bp,eb,as,n1,mk,ch,az⟩:=IQ (A:=A) (goods:=goods) (zs:=zs) (z:=zs[pre.length]) (j:=j) (km:=km) (mv:=A[pre.length]) (W:=W) (O:=O) (x7:=x7) (x8:=x8) (x9:=x9) (x10:=x10) (x11:=x11) nd hg (ha _ (AL _)) wl ⋯ h5 h4;refine#[_,_,by rw[tX];rfl,.inl eb,W++[w],O',_,_,_,_,_,_,_, ?_,λz a0=> ?_, ?_,as,az,rfl];rw[xL,EQ,KE,h1,ww,RZ,n1,SS,sK ap];rfl;rcases wE.mp a0 with q | q
   exact h2 z q;rw[wn.mp q];exact mk;rw[xL,EQ,KE,J,ww,RZ,ch,SS,sK U];rfl) #[wkR j zs goods A km pi pi pi pi pi pi pi,O1] #[[],O1,pi,pi,pi,pi,pi,pi,pi,by simp,by simp,by simp,g0,b0,rfl]
 rw[wT,Gy hz] at h1 J;rw[Vo] at h1;rw[hz,Vo] at J;refine#[W,O2.set km .dead, ?_,h1,h2,J];refine de (R:=wkR j zs goods A km Y x6 x7 x8 x9 x10 x11) ?_;show rh #[[pc (.ptr j),pc (sD zs),pc (sD goods),pc (vII A),pi,pi,pi,pi,pi,pi,pi,pi],O]=_;rw[rh];refine aU e4 (aU ?_ (br (pj (ag rfl) hO rfl)));refine(cY (ds:=gg (zs.map D.str) (A.map vI)) (k:=pi) (s1:=#[wkR j zs goods A km pi pi pi pi pi pi pi,O1]) ?_).trans (el.trans (by rw[an]));rw[AN,aA (ag rfl) (aA (ag rfl) aG),aj]
theorem Hx{α:Type}(f:α->D)(l:List α)(n:Nat)(hn:n<=l.length):M.cutD (l.map f) (pc (n:Int)) pi=(l.drop n).map f:=by unfold M.cutD;rw[HT.tx,HT.pB,sB,TK hn,UW,RE (by simp)]
theorem K4{m:EM}(h:m s=.ok (.lst ds,s1)):GV m s=.ok (.lst ds,s1):=by rw[Nc,h,aj];rfl
structure yW(mg mx:Nat)(goods:List Str)(ws:List Wk)(A:List (List Int))(w:List Int):Prop where
 gd:NmI mg goods
 nm:NmI mx (ws.map (·.nm))
 n0:0<ws.length
 mw:∀x∈ws,CO goods x
 ch:ws.map (λx=>goods.map (chg x))=A
 sz:cE 60 A
 wl:w.length=ws.length
 wb:∀x∈w,0<=x/\x<1000000
abbrev paR(ns:List Int)(mg mw:Nat)(x4 x5 x6 x7 x8:Option D):List (Option D):=[pc (vI ns),pc (.int (mg:Int)),pc (.int (mw:Int)),pc (.ptr 0),x4,x5,x6,x7,x8]
theorem EE{α:Type}{f:α->D}{l:List α}(U:t<=l.length)(Y:l.length<=1000){x:D}(hi:R[i]? =pc (pc x))(J:R[8]? =pc (pc (.int (t:Int))))(hx:lsD O x=pc (l.map f)):ak cq (slM (aa i) (part (aa 8)) d6) (slM (aa i) d6 (part (aa 8))) #[R,O]=.ok (.lst ((l.drop t++l.take t).map f),#[R,O]):=by refine aO (Km (ag hi) (oB (ag J)) nI hx (Hx f l t U)) (Km (ag hi) nI (oB (ag J)) hx (GD f l t)) ?_;rw[pN (by simp;omega),KE]
theorem yA{α:Type}{l:List α}{x:α}(h:x∈l.drop t++l.take t):x∈l:=by rcases wE.mp h with q | q;exact TR q;exact R0 q
theorem Eu{α:Type}{l:List α}(J:t<=l.length):(l.drop t++l.take t).length=l.length:=by simp;omega
theorem zK{mg mw m k i:Nat}{x4 x5 x6 x7 x8:Option D}(hb:cy O 0)(h1:1<=m)(h2:m<=99)(hi:(paR ns mg mw x4 x5 x6 x7 x8)[i]? =pc (pc (.int (m:Int)))):
 ∃zs O',aX 2 iE (af (aX 2 cR (af (aa 0) (af (aq (.int (k:Int))) ao))) (af (ak cq (aq (.int 1)) (bN 2 aQ (af (aa 3) (af (aa i) ao)))) ao)) #[paR ns mg mw x4 x5 x6 x7 x8,O]=.ok (sD zs,#[paR ns mg mw x4 x5 x6 x7 x8,O'])/\NmI m zs/\0<zs.length/\cy O' 0:=by
 obtain⟨c,U,_⟩:=wm ns k;obtain⟨r,O',e,r1,hb',_⟩:=iC (R:=paR ns mg mw x4 x5 x6 x7 x8) (m:=(m:Int)) hb ⋯ (mb:=aa 3) (mm:=aa i) (ag rfl) (ag hi);obtain⟨zs,Y,ez,J,z0⟩:=Jp c (m:=1+r) ⋯ ⋯;refine#[zs,O',dJ (aA (dJ (aA (ag rfl) (aA (aF _) aG)) U (by simp) rfl rfl) (aA (aO (aF _) e d7) aG)) (O1:=Y) ?_ rfl rfl (by simp),#[J.g,J.nd,by have:=J.le;omega],z0,hb'];rw[show (1:Int)+(r:Int)=((1+r:Nat):Int) by omega];exact ez
theorem Jd(ns:List Int)(g1:1<=mg)(g4:mg<=4)(w1:1<=mw)(w6:mw<=6):∃goods ws A w O,kS [vI ns,.int (mg:Int),.int (mw:Int)] []=.ok (.tup [sD goods,wsD ws,vII A,vI w],O)/\yW mg mw goods ws A w:=by
 obtain⟨c2,k2,_⟩:=wm ns 2;obtain⟨c3,k3,_⟩:=wm ns 3;obtain⟨a0,b0,eb⟩:=zo c2;have e3:setM 3 (d3 1 eg (af (aX 2 cR (af (aa 0) (af (aq (.int 2)) ao))) ao)) #[[pc (vI ns),pc (.int (mg:Int)),pc (.int (mw:Int)),pi,pi,pi,pi,pi,pi],[]]=.next #[paR ns mg mw pi pi pi pi pi,[.lst [.int a0,.int b0]]]:=by refine bq (jB (aA (dJ (aA (ag rfl) (aA (aF _) aG)) k2 (by simp) rfl rfl) aG) eb rfl rfl iT ?_) rfl;simp[shC,fG,shD]
 have az:cy [Cell.lst [.int a0,.int b0]] 0:=#[a0,b0,rfl];generalize [Cell.lst [.int a0,.int b0]]=O0 at e3 az;obtain⟨gs,O1,e4,gz,_,bn⟩:=zK (ns:=ns) (mg:=mg) (mw:=mw) (m:=mg) (k:=0) (i:=1) (x4:=pi) (x5:=pi) (x6:=pi) (x7:=pi) (x8:=pi) az g1 ⋯ rfl;have bp:∃goods O2,(ifS (a7 (ak eqD (bN 2 aQ (af (aa 3) (af (aq (.int 12)) ao))) (aq (.int 11)))) (setM 4 (kK ao)) bC) #[paR ns mg mw (pc (sD gs)) pi pi pi pi,O1]=.next #[paR ns mg mw (pc (sD goods)) pi pi pi pi,O2]/\NmI mg goods/\cy O2 0:=by obtain⟨r,O2,e,_,Y,_⟩:=iC (R:=paR ns mg mw (pc (sD gs)) pi pi pi pi) (m:=12) bn ∅ (mb:=aa 3) (mm:=aq (.int 12)) (ag rfl) (aF _);have t:=eq_test (j:=11) e;by_cases h:(r:Int)=11;exact#[[],O2,eW t (decide_eq_true h) (bq (yJ aG (by simp)) rfl),#[by simp,by simp,by simp],Y];exact#[gs,O2,dX t (decide_eq_false h) cD,gz,Y]
 obtain⟨goods,O2,e5,gd,Y⟩:=bp;obtain⟨zs,O3,e6,nz,z0,bv⟩:=zK (ns:=ns) (mg:=mg) (mw:=mw) (m:=mw) (k:=1) (i:=2) (x4:=pc (sD goods)) (x5:=pi) (x6:=pi) (x7:=pi) (x8:=pi) Y w1 ⋯ rfl;have zl:=nz.le;have gl:=gd.le;obtain⟨w,J,O4,e7,hW,wl,wb,bw,ac⟩:=My bv (n:=zs.length) ⋯ ⋯;have ln:∀{x6 x7 x8:Option D} {O:aC},bJ cx (af (aa 5) ao) #[paR ns mg mw (pc (sD goods)) (pc (sD zs)) x6 x7 x8,O]=.ok (.int (zs.length:Int),#[paR ns mg mw (pc (sD goods)) (pc (sD zs)) x6 x7 x8,O]):=hE (aA (ag rfl) aG) (by rw[fg,sB]);have bx:∃(w':List Int) (O5:aC),(ifS (a7 (ak eqD (bN 2 aQ (af (aa 3) (af (aq (.int 4)) ao))) (aq (.int 3)))) (gA (aq (.int 0)) (jJ (aa 6) (aq (.int 0)))) bC) #[paR ns mg mw (pc (sD goods)) (pc (sD zs)) (pc (.ptr J)) pi pi,O4]=.next #[paR ns mg mw (pc (sD goods)) (pc (sD zs)) (pc (.ptr J)) pi pi,O5]/\O5[J]? =pc (.lst (w'.map D.int))/\w'.length=zs.length/\(∀x∈w',0<=x/\x<1000000)/\cy O5 0:=by
  obtain⟨r,O5,e,_,U,k5⟩:=iC (R:=paR ns mg mw (pc (sD goods)) (pc (sD zs)) (pc (.ptr J)) pi pi) (m:=4) bw ∅ (mb:=aa 3) (mm:=aq (.int 4)) (ag rfl) (aF _);have am:O5[J]? =pc (.lst (w.map D.int)):=by rw[k5 J ac];exact hW
  have t:=eq_test (j:=3) e;by_cases h:(r:Int)=3;refine#[w.set 0 0,O5.set J (.lst ((w.map D.int).set 0 (.int 0))),eW t (decide_eq_true h) (CK (aF _) (lX (a:=0) (ag rfl) (aF _) am (by simp;omega))),by rw[dk am,TJ],by simp[wl],λx hx=> ?_,U.set ac];rcases Sx hx with q | q
  exact wb x q;rw[q];decide;exact#[w,O5,dX t (decide_eq_false h) cD,am,wl,wb,U]
 obtain⟨w,O5,e8,hW,wl,wb,U⟩:=bx;obtain⟨ks,bz,kl⟩:=Kc ns 4 12;obtain⟨A,O6,e9,f6,al,Al,As⟩:=Fj (cs:=c3::ks) (by simp) (goods:=goods) ⋯ ⋯ ⋯ wb hW;have j5:=U.lt;have b3:cy O6 0:=by obtain⟨a,c,h⟩:=U;exact#[a,c,by rw[f6 0 j5];exact h]
 have b4:O6[J]? =pc (.lst (w.map D.int)):=by rw[f6 J (mV hW)];exact hW
 have b5:setM 7 (bN 3 jk (af (ak cq (kK (af (aX 2 cR (af (aa 0) (af (aq (.int 3)) ao))) ao)) (slM (aa 0) (part (aq (.int 4))) (part (aq (.int 12))))) (af (aa 4) (af (aa 6) ao)))) #[paR ns mg mw (pc (sD goods)) (pc (sD zs)) (pc (.ptr J)) pi pi,O5]=.next #[paR ns mg mw (pc (sD goods)) (pc (sD zs)) (pc (.ptr J)) (pc (vII A)) pi,O6]:=by refine bq (gH (aA (aO (yJ (aA (dJ (aA (ag rfl) (aA (aF _) aG)) k3 (by simp) rfl rfl) aG) (by simp)) (Km (ag rfl) (oB (aF _)) (oB (aF _)) ia bz) (pN ?_)) (aA (ag rfl) (aA (ag rfl) aG))) e9 rfl) rfl;simp;omega
 obtain⟨t,O7,b6,t1,ed,k7⟩:=iC (R:=paR ns mg mw (pc (sD goods)) (pc (sD zs)) (pc (.ptr J)) (pc (vII A)) pi) (m:=(zs.length:Int)) b3 ⋯ (mb:=aa 3) (mm:=bJ cx (af (aa 5) ao)) (ag rfl) ln;have b7:O7[J]? =pc (.lst (w.map D.int)):=by rw[k7 J ac];exact b4
 have a5:=EE (f:=vI) (l:=A) (t:=t) ⋯ ⋯ (i:=7) (x:=vII A) (R:=paR ns mg mw (pc (sD goods)) (pc (sD zs)) (pc (.ptr J)) (pc (vII A)) (pc (.int (t:Int)))) (O:=O7) rfl rfl ia;have an:=EE (f:=D.int) (l:=w) (t:=t) ⋯ ⋯ (i:=6) (x:=.ptr J) (R:=paR ns mg mw (pc (sD goods)) (pc (sD zs)) (pc (.ptr J)) (pc (vII (A.drop t++A.take t))) (pc (.int (t:Int)))) (O:=O7) rfl rfl (jx b7);have cb:(A.drop t++A.take t).length=A.length:=Eu ⋯;have cc:(w.drop t++w.take t).length=w.length:=Eu ⋯;have bb:∀r∈A.drop t++A.take t,r.length=goods.length:=λr hr=>Al r (yA hr);have bd:cE 60 (A.drop t++A.take t):=λr hr=>As r (yA hr);have be:∀x∈w.drop t++w.take t,0<=x/\x<1000000:=λx hx=>wb x (yA hx);generalize A.drop t++A.take t=A' at a5 an cb bb bd;generalize w.drop t++w.take t=w' at an cc be;obtain⟨a1,b1,ci⟩:=zo (c3/5);have cm:cy (O7++[.lst [.int a1,.int b1]]) O7.length:=#[a1,b1,gE];obtain⟨ws,O8,cn,nm,mk,ch⟩:=IL (A:=A') (goods:=goods) (zs:=zs) cm gd.nd ⋯ bb ⋯ ⋯;have ek:ws.length=zs.length:=by rw[<- nm,sB]
 refine#[goods,ws,A',w',O8, ?_,gd,by rw[nm];exact nz,⋯,mk,ch,bd,⋯,be];refine de (R:=paR ns mg mw (pc (sD goods)) (pc (sD zs)) (pc (vI w')) (pc (vII A')) (pc (.int (t:Int)))) ?_;show rJ #[[pc (vI ns),pc (.int (mg:Int)),pc (.int (mw:Int)),pi,pi,pi,pi,pi,pi],[]]=_;rw[rJ];refine aU e3 (aU (bq e4 rfl) (aU e5 (aU (bq e6 rfl) (aU (bq (gH (aA (ag rfl) (aA ln aG)) e7 rfl) rfl) (aU e8 (aU b5 (aU (bq b6 rfl) (aU (bq a5 rfl) (aU (bq an rfl) (br (sY (aA (ag rfl) (aA (gH (aA (jB (aA (aO (dJ (aA (ag rfl) (aA (aF _) aG)) k3 (by simp) rfl rfl) (aF _) (iF ∅ ∅)) aG) ci rfl rfl iT ?_) (aA (ag rfl) (aA (ag rfl) (aA (ag rfl) aG)))) cn rfl) (aA (ag rfl) (aA (K4 (ag rfl)) aG)))) (by simp))))))))))));simp[shC,fG,shD]
theorem mot{a b:Int}:fI [.int a,.int b] []=.ok (.int (Fa a b:Nat),[]):=IP a b
theorem tU(ns:List Int):j9 [vI ns] []=.ok (.int (cM ns:Nat),[]):=by
 obtain⟨s',e,c,x,h1,h2⟩:=dh (ok:=okC (ns.map D.int) pi) (g:=aB 2) (body:=nP)
  (λpre s=>∃(ms:List Int) (x:Option D),pre=ms.map D.int/\s=#[[pc (vI ns),pc (.int (ms.foldl (λc n=>Sf c n.natAbs) 0:Nat)),x],[]]) (λ_ _ _=>trivial) (ns.map D.int) [] (by
   rintro pre d rest e s ⟨ms,x,rfl,rfl⟩;have hd:d∈ns.map D.int:=by rw[wT] at e;rw[e];simp
   obtain⟨m,_,rfl⟩:=ss.mp hd;refine#[_,_,rfl,.inl ?_,ms++[m],pc (.int m),by simp,rfl];simp[nP,mot,Fa]) #[[pc (vI ns),pc (.int 0),pi],[]] #[[],pi,rfl,rfl]
 rw[wT] at h1;have hc:c=ns:=(RW (λa b h=>by cases h;rfl)).mp h1.symm;subst hc;have J:=cY (im:=listI (aa 0)) (g:=aB 2) (body:=nP) (s:=#[[pc (vI c),pc (.int 0),pi],[]]) (ds:=c.map D.int) (k:=pi) (s1:=#[[pc (vI c),pc (.int 0),pi],[]]) (by simp);rw[e] at J;have q:=cv (n:=3) (m:=qO) (ds:=[vI c]) (O:=[]) (d:=.int (cM c:Nat)) (s:=s') (by show qO #[[pc (vI c),pi,pi],[]]=_;rw[qO,wU];rw[show setM 1 (aq (.int 0)) #[[pc (vI c),pi,pi],[]]=.next #[[pc (vI c),pc (.int 0),pi],[]] by simp];rw[Cd,wU,J,Cd,h2];simp[cM])
 rw[h2] at q;exact q
theorem zN{a b:List Int}(J:a.length<=1000000)(hm:∀p∈a.zip b,RG p.1 p.2):bP [vI a,vI b] []=.ok (.int (aH a b),[]):=by
 have hz:(a.zip b).length<=1000000:=by rw[RA];omega
 have hc:=En (l:=a.zip b) (f:=λp=>.int p.1) (g:=λp=>.int p.2) (out:=λp=>.int (p.1*p.2)) (caps:=[]) (im:=nF (af (aa 0) (af (aa 1) ao))) (e:=ak cI (aa 0) (aa 1)) (k:=pi) (s:=#[[pc (vI a),pc (vI b)],[]]) (by simp[oa]) trivial ⋯ (λp hp=>by simp[cN (hm p hp)])
 rw[show (a.zip b).map (λp=>D.int (p.1*p.2))=(R4 (· * ·) a b).map D.int by rw[<- Nt];simp] at hc;refine cv (s:=#[[pc (vI a),pc (vI b)],[]]) ?_;show kJ #[[pc (vI a),pc (vI b)],[]]=_;rw[kJ];refine br ?_;rw[gI,aV,hc,aj,aG,aj,aj];dsimp only;rw[qI,aj];rfl
theorem Jk(J:ns.length<=1000000):ub [vI ns] []=.ok (.ptr 0,[.lst ((low ns).map D.int)]):=by
 have e1:setM 1 (aX 1 j9 (af (aa 0) ao)) #[[pc (vI ns),pi],[]]=.next #[[pc (vI ns),pc (.int (cM ns:Nat))],[]]:=bq (cC (aA (ag rfl) aG) (kq _) rfl (tU ns) (by simp)) rfl
 by_cases h:cM ns=0;refine de (R:=[pc (vI ns),pc (.int (cM ns:Nat))]) ?_;show p8 #[[pc (vI ns),pi],[]]=_;rw[p8];refine aU e1 (eK (eW (eq_test (ag rfl)) (decide_eq_true ⋯) (br (MW (ag rfl) Ip rfl ?_))));rw[show low ns=ns by unfold low;rw[if_pos h]];rfl;have hc:=zX (l:=ns) (item:=D.int) (out:=λn=>.int (n/(cM ns:Int))) (caps:=[1]) (im:=listI (aa 0)) (e:=ak d4 (aa 0) (aa 1)) (k:=pi) (s:=#[[pc (vI ns),pc (.int (cM ns:Nat))],[]]) (by simp) trivial ⋯ (λa _=>by simp[mj (show (cM ns:Int)≠0 by omega),pT (show (0:Int)<cM ns by omega)])
 refine de (R:=[pc (vI ns),pc (.int (cM ns:Nat))]) ?_;show p8 #[[pc (vI ns),pi],[]]=_;rw[p8];refine aU e1 (aU (dX (eq_test (ag rfl)) (decide_eq_false ⋯) cD) (br (hc.trans ?_)));rw[show (low ns).map D.int=ns.map λn=>.int (n/(cM ns:Int)) by unfold low;rw[if_neg h,wf];rfl];rfl
theorem JD{one other:List Int}{v w:Int}(U:one.length<=1000000)(h1:∀a∈one,RG a w)(h2:∀b∈other,RG b v):pG [vI one,.int v,vI other,.int w] []=.ok (.ptr 0,[.lst ((c9 one v other w).map D.int)]):=by
 have hz:(one.zip other).length<=1000000:=by rw[RA];omega
 have hc:=En (l:=one.zip other) (f:=λp=>.int p.1) (g:=λp=>.int p.2) (out:=λp=>.int (p.1*w-p.2*v)) (caps:=[1,3]) (im:=nF (af (aa 0) (af (aa 2) ao))) (e:=ak lV (ak cI (aa 0) (aa 3)) (ak cI (aa 1) (aa 2))) (k:=pi) (s:=#[[pc (vI one),pc (.int v),pc (vI other),pc (.int w),pi],[]]) (by simp[oa]) trivial ⋯ (λp hp=>by have hp':=Re hp;simp[cN (h1 p.1 hp'.1),cN (h2 p.2 hp'.2)])
 rw[show (one.zip other).map (λp=>D.int (p.1*w-p.2*v))=(g6 one v other w).map D.int by rw[g6,<- zip_map];simp] at hc;have J:(g6 one v other w).length<=1000000:=by unfold g6;rw[RU];omega
 refine de (R:=[pc (vI one),pc (.int v),pc (vI other),pc (.int w),pc (vI (g6 one v other w))]) ?_;show yi #[[pc (vI one),pc (.int v),pc (vI other),pc (.int w),pi],[]]=_;rw[yi];exact aU (dM hc) (br (jB (aA (ag rfl) aG) (Jk J) (kq _) rfl iT (by simp only[ww,RZ,wT,Ge,B4];rfl)))
theorem Ih(a b:Nat):orD O (.int (a:Int)) (.int (b:Int))=.ok (.int ((a|||b:Nat):Int)):=by
 have e:Builtin.bitOr (a:Int) (b:Int)=((a|||b:Nat):Int):=by unfold Builtin.bitOr Builtin.bitAnd Builtin.bitNot;rw[decide_eq_false (show ¬(0:Int)<= -(a:Int)-1 by omega),decide_eq_false (show ¬(0:Int)<= -(b:Int)-1 by omega)];dsimp only;rw[show (-(-(a:Int)-1)-1).toNat=a by omega,show (-(-(b:Int)-1)-1).toNat=b by omega];omega
 show Res.ok (D.int (Builtin.bitOr (a:Int) (b:Int)))=_;rw[e]
theorem Lk(a b:Nat):mX [.int (a:Int),.int (b:Int)] []=.ok (.bl (decide (a|||b=b)),[]):=by refine de (R:=[pc (.int (a:Int)),pc (.int (b:Int))]) ?_;show tm #[[pc (.int (a:Int)),pc (.int (b:Int))],[]]=_;rw[tm];refine br (aO (aO (ag rfl) (ag rfl) (Ih a b)) (ag rfl) ?_);rw[mC];congr 3;rw[eq_iff_iff];omega
abbrev vN(l:List Nat):D:=.lst (l.map λx:Nat=>D.int (x:Int))
theorem MD{l:List Nat}:aR (l.map λx:Nat=>D.int (x:Int))=true:=by
 induction l with
 | nil=>simp
 | cons a l J=>simp[J]
theorem J8{pl:List Nat}(J:pl.length<=1000):gX [.int (a:Int),.int (b:Int),vN pl] []=.ok (.bl ((pl.filter λx=>decide (x|||(a|||b)=a|||b)).length == 2),[]):=by
 have hc:=AF (l:=pl) (item:=λx:Nat=>D.int (x:Int)) (out:=λx:Nat=>D.int (x:Int)) (p:=λx=>decide (x|||(a|||b)=a|||b)) (caps:=[3]) (im:=listI (aa 2)) (c:=a7 (aX 2 mX (af (aa 0) (af (aa 1) ao)))) (e:=aa 0) (k:=pi) (s:=#[[pc (.int (a:Int)),pc (.int (b:Int)),pc (vN pl),pc (.int ((a|||b:Nat):Int))],[]]) (by rw[b9,ag (i:=2) rfl,aj];rfl) trivial ⋯ (λx _=>eI (dJ (aA (ag rfl) (aA (ag rfl) aG)) (Lk x (a|||b)) (by simp) rfl (by simp))) (λx _ _=>ag rfl)
 refine de (R:=[pc (.int (a:Int)),pc (.int (b:Int)),pc (vN pl),pc (.int ((a|||b:Nat):Int))]) ?_;show lU #[[pc (.int (a:Int)),pc (.int (b:Int)),pc (vN pl),pi],[]]=_;rw[lU];refine aU (bq (aO (ag rfl) (ag rfl) (Ih a b)) rfl) (br (aO (hE (aA hc aG) fg) (aF _) ?_));rw[mC,sB];congr 2;rw[RH,decide_eq_true_eq,beq_iff_eq];omega
theorem JE:k4 [vI x] []=.ok (.int (dI x:Nat),[]):=by
 have go:∀(l:List Int) (b:Nat) (z:Option D),∃J,bT (okC (x.map D.int) pi) (aB 2) oO (l.map D.int) #[[pc (vI x),pc (.int (b:Int)),z],[]]=.next #[[pc (vI x),pc (.int ((l.foldl (λb y=>b*2+if 0<y then 1 else 0) b:Nat):Int)),J],[]]:=by
  intro l;induction l with
  | nil=>intro b z;exact#[z,by rw[RZ,bT,if_pos (show okC (x.map D.int) pi _ from trivial)];rfl]
  | cons y l U=>
   intro b z;obtain⟨J,e⟩:=U (b*2+if 0<y then 1 else 0) (pc (.int y));refine#[J, ?_];rw[ww,RX];refine wp (mM (s1:=#[[pc (vI x),pc (.int (b:Int)),pc (.int y)],[]]) (s2:=#[[pc (vI x),pc (.int ((b*2+if 0<y then 1 else 0:Nat):Int)),pc (.int y)],[]]) trivial rfl ?_) e;rw[oO];refine aU (bq (R':=[pc (vI x),pc (.int ((b:Int)*2)),pc (.int y)]) (aO (ag rfl) (aF _) (cN (eN (.inr ∅)))) rfl) ?_;by_cases hy:0<y;refine eW (gM (ag rfl)) (decide_eq_true hy) (bq (d:=.int ((b*2+if 0<y then 1 else 0:Nat):Int)) (R:=[pc (vI x),pc (.int ((b:Int)*2)),pc (.int y)]) (aO (ag rfl) (aF _) ?_) rfl);rw[d7,if_pos hy];congr 2;refine dX (gM (ag rfl)) (decide_eq_false hy) ((cD).trans ?_);rw[if_neg hy,show ((b*2+0:Nat):Int)=(b:Int)*2 by omega]
 obtain⟨J,e⟩:=go x 0 pi;refine de (R:=[pc (vI x),pc (.int (dI x:Nat)),J]) ?_;show rQ #[[pc (vI x),pi,pi],[]]=_;rw[rQ];refine aU (bq (R':=[pc (vI x),pc (.int ((0:Nat):Int)),pi]) (aF _) rfl) (aU ?_ (br (ag rfl)));exact(cY (im:=listI (aa 0)) (ds:=x.map D.int) (k:=pi) (s1:=#[[pc (vI x),pc (.int ((0:Nat):Int)),pi],[]]) (by rw[b9,ag (i:=0) rfl,aj];rfl)).trans e
theorem wx{α:Type}{f:α->D}{l:List α}{a:α}(h:l[i]? =pc a):ixD O (.lst (l.map f)) (.int (i:Int))=.ok (f a):=by
 have hi:i<l.length:=by by_cases z:i<l.length;exact z;rw[SU ⋯] at h;cases h
 refine nG ?_;rw[gZ (by simpa using hi)];rw[sK hi] at h;cases h;simp
structure Wrk(n:Nat)(L:List (Nat×List Int))(row:List Int)(b:Nat):Prop where
 len:∀p∈L,p.2.length=n
 nn:∀p∈L,∀i,0<=nth p.2 i
 few:L.length<64
 rl:row.length=n
 n7:n<=1000
 sz:cE b (L.map (·.2))
 rz:SzL b row
 bb:2*b+20<=60000000
theorem Wrk.dz(h:Wrk n L row b){p:Nat×List Int}(hp:p∈L):Sz (b+b+10) (aH row p.2):=sG h.rz (h.sz _ (G0 hp)) (by rw[h.rl];exact h.n7)
theorem OY(h:Wrk n L row b){p q:Nat×List Int}(hp:p∈L)(hq:q∈L):(((L.map λx=>dI x.2).filter λx=>decide (x|||(dI p.2|||dI q.2)=dI p.2|||dI q.2)).length == 2)=nbB n (L.map (·.2)) p.2 q.2:=by unfold nbB;rw[Sq,sB,Sq,sB];congr 2;refine List.filter_congr λx hx=> ?_;show decide (dI x.2|||(dI p.2|||dI q.2)=dI p.2|||dI q.2)=subB n x.2 p.2 q.2;exact bits_sub (h.len x hx) (h.len p hp) (h.len q hq) (h.nn x hx) (h.nn p hp) (h.nn q hq)
structure Iv(L T:List (Nat×List Int))(t:Nat)(O:aC):Prop where
 told:O[t]? =pc (.lst (bj T))
 l:Sto O L
 s:Sto O T
 tn:∀p∈T,p.1≠t
 ln:∀p∈L,p.1≠t
abbrev mR(L:List (Nat×List Int))(row:List Int)(t:Nat)(ab bl:List Nat)(x7 x8:Option D):List (Option D):=[pc (.lst (bj L)),pc (vI row),pc (.lst (L.map λp=>.int (aH row p.2))),pc (vN (L.map λp=>dI p.2)),pc (.ptr t),pc (vN ab),pc (vN bl),x7,x8]
theorem Ds{n:Nat}{L:List (Nat×List Int)}{row:List Int}{b t:Nat}{ab bl:List Nat}(h:Wrk n L row b){J:(Nat×List Int)×Nat}(hh:L[J.2]? =pc J.1)(K:List D):∀(U:List ((Nat×List Int)×Nat)) (T:List (Nat×List Int)) (O:aC) (x8:Option D),(∀q∈U,L[q.2]? =pc q.1)->T.length+U.length<=100000->Iv L T t O->
 ∃Y O' y8,bT (okC K pi) (aB 8) gx (U.map λq=>D.int (q.2:Int)) #[mR L row t ab bl (pc (.int (J.2:Int))) x8,O]=.next #[mR L row t ab bl (pc (.int (J.2:Int))) y8,O']/\Iv L Y t O'/\Y.length<=T.length+U.length/\
  Y.map (·.2)=T.map (·.2)++((U.filter λq=>nbB n (L.map (·.2)) J.1.2 q.1.2).map λq=>c9 q.1.2 (aH row q.1.2) J.1.2 (aH row J.1.2))
 | [],T,O,x8,_,_,iv=>#[T,O,x8,by rw[RZ,bT,if_pos (show okC K pi _ from trivial)],iv,by simp,by simp]
 | q::U,T,O,x8,hb,hl,iv=>by
  have hq:=hb q uC;have mh:J.1∈L:=IR hh;have mq:q.1∈L:=IR hq;have hb':=λz hz=>hb z (tz _ hz);rw[xa] at hl;have ap:a7 (aX 3 gX (af (ak ixD (aa 3) (aa 7)) (af (ak ixD (aa 3) (aa 8)) (af (aa 3) ao)))) #[mR L row t ab bl (pc (.int (J.2:Int))) (pc (.int (q.2:Int))),O]=.ok (nbB n (L.map (·.2)) J.1.2 q.1.2,#[mR L row t ab bl (pc (.int (J.2:Int))) (pc (.int (q.2:Int))),O]):=by rw[<- OY h mh mq];refine eI (dJ (aA (aO (ag rfl) (ag rfl) (wx (f:=λx:Nat=>D.int (x:Int)) (l:=L.map λp=>dI p.2) (a:=dI J.1.2) (by rw[wv,hh];rfl))) (aA (aO (ag rfl) (ag rfl) (wx (f:=λx:Nat=>D.int (x:Int)) (l:=L.map λp=>dI p.2) (a:=dI q.1.2) (by rw[wv,hq];rfl))) (aA (ag rfl) aG))) (J8 (by rw[sB];have:=h.few;omega)) ?_ rfl (by simp));rw[jt,jt,jt,G9,BE,BE,oo,MD];rfl
  rw[ww];cases hn:nbB n (L.map (·.2)) J.1.2 q.1.2 with
  | false=>
   obtain⟨Y,O',y8,e,a1,a2,a3⟩:=Ds h hh K U T O (pc (.int (q.2:Int))) hb' ⋯ iv;refine#[Y,O',y8, ?_,a1,by rw[xa];omega,by rw[a3,Rl (by rw[hn];decide)]];refine wp (mM (s1:=#[mR L row t ab bl (pc (.int (J.2:Int))) (pc (.int (q.2:Int))),O]) (s2:=#[mR L row t ab bl (pc (.int (J.2:Int))) (pc (.int (q.2:Int))),O]) trivial rfl ?_) e;rw[gx];exact dX ap hn cD
  | true=>
   have zq:=h.sz _ (G0 (f:=(·.2)) mq);have zh:=h.sz _ (G0 (f:=(·.2)) mh);have off:=JD (one:=q.1.2) (other:=J.1.2) (v:=aH row q.1.2) (w:=aH row J.1.2) (by rw[h.len _ mq];have:=h.n7;omega) (λa ha=>gw (by have:=h.bb;omega) (by have:=h.bb;omega) (zq a ha) (h.dz mh)) (λa ha=>gw (by have:=h.bb;omega) (by have:=h.bb;omega) (zh a ha) (h.dz mq));have call:yN 4 pG (af (ak ixD (aa 0) (aa 8)) (af (ak ixD (aa 2) (aa 8)) (af (ak ixD (aa 0) (aa 7)) (af (ak ixD (aa 2) (aa 7)) ao)))) #[mR L row t ab bl (pc (.int (J.2:Int))) (pc (.int (q.2:Int))),O]=.ok (.ptr O.length,#[mR L row t ab bl (pc (.int (J.2:Int))) (pc (.int (q.2:Int))),O++[.lst ((c9 q.1.2 (aH row q.1.2) J.1.2 (aH row J.1.2)).map D.int)]]):=by refine Nh (aA (aO (ag rfl) (ag rfl) (wx (f:=λp:Nat×List Int=>D.ptr p.1) hq)) (aA (aO (ag rfl) (ag rfl) (wx (f:=λp:Nat×List Int=>D.int (aH row p.2)) hq)) (aA (aO (ag rfl) (ag rfl) (wx (f:=λp:Nat×List Int=>D.ptr p.1) hh)) (aA (aO (ag rfl) (ag rfl) (wx (f:=λp:Nat×List Int=>D.int (aH row p.2)) hh)) aG)))) (rs:=[vI q.1.2,.int (aH row q.1.2),vI J.1.2,.int (aH row J.1.2)]) ?_ off (by simp) rfl rfl ?_ iT ?_;simp only[qX,uh,sr (iv.l _ mq),sr (iv.l _ mh),Md,sq,tM];simp[CM,wO];simp
   have a0:Iv L (T++[(O.length,c9 q.1.2 (aH row q.1.2) J.1.2 (aH row J.1.2))]) t ((O++[Cell.lst ((c9 q.1.2 (aH row q.1.2) J.1.2 (aH row J.1.2)).map D.int)]).set t (Cell.lst (bj T++[D.ptr O.length]))):=by
    have tl:=mV iv.told;have ac:(O++[Cell.lst ((c9 q.1.2 (aH row q.1.2) J.1.2 (aH row J.1.2)).map D.int)])[t]? =pc (.lst (bj T)):=ee iv.told;refine#[by rw[dk ac];simp[bj],(iv.l.app _).set iv.ln _,λp hp=> ?_,λp hp=> ?_,iv.ln];rcases wE.mp hp with hp | hp
    exact((iv.s.app _).set iv.tn _) p hp;rw[wn.mp hp];dsimp only;rw[dm ⋯];simp;rcases wE.mp hp with hp | hp
    exact iv.tn p hp;rw[wn.mp hp];dsimp only;omega
   obtain⟨Y,O',y8,e,a1,a2,a3⟩:=Ds h hh K U (T++[(O.length,c9 q.1.2 (aH row q.1.2) J.1.2 (aH row J.1.2))]) _ (pc (.int (q.2:Int))) hb' (by rw[xL,EQ];omega) a0;refine#[Y,O',y8, ?_,a1,by rw[xL,EQ] at a2;rw[xa];omega,by rw[a3,Go (p:=λq:(Nat×List Int)×Nat=>nbB n (L.map (·.2)) J.1.2 q.1.2) (a:=q) (l:=U) hn,KE,ww,R9];rfl];refine wp (mM (s1:=#[mR L row t ab bl (pc (.int (J.2:Int))) (pc (.int (q.2:Int))),O]) (s2:=#[mR L row t ab bl (pc (.int (J.2:Int))) (pc (.int (q.2:Int))),(O++[Cell.lst ((c9 q.1.2 (aH row q.1.2) J.1.2 (aH row J.1.2)).map D.int)]).set t (Cell.lst (bj T++[D.ptr O.length]))]) trivial rfl ?_) e;rw[gx];exact eW ap hn (dB (wA (ag rfl) iv.told call (ee iv.told) (by rw[sB];omega) rfl))
theorem Gh{n:Nat}{L:List (Nat×List Int)}{row:List Int}{b t:Nat}{ab:List Nat}{J:List ((Nat×List Int)×Nat)}(h:Wrk n L row b)(hB:∀q∈J,L[q.2]? =pc q.1)(ac:J.length<=64)(K:List D):∀(U:List ((Nat×List Int)×Nat)) (T:List (Nat×List Int)) (O:aC) (x7 x8:Option D),(∀q∈U,L[q.2]? =pc q.1)->T.length+U.length*64<=10000->Iv L T t O->
 ∃T' O' y7 Y,bT (okC K pi) (aB 7) ja (U.map λq=>D.int (q.2:Int)) #[mR L row t ab (J.map (·.2)) x7 x8,O]=.next #[mR L row t ab (J.map (·.2)) y7 Y,O']/\Iv L T' t O'/\
  T'.map (·.2)=T.map (·.2)++U.flatMap λa=>(J.filter λq=>nbB n (L.map (·.2)) a.1.2 q.1.2).map λq=>c9 q.1.2 (aH row q.1.2) a.1.2 (aH row a.1.2)
 | [],T,O,x7,x8,_,_,iv=>#[T,O,x7,x8,by rw[RZ,bT,if_pos (show okC K pi _ from trivial)],iv,by simp]
 | a::U,T,O,x7,x8,hA,hl,iv=>by rw[xa] at hl;obtain⟨T1,O1,Y,e1,i1,l1,m1⟩:=Ds (ab:=ab) (bl:=J.map (·.2)) h (hA a uC) ((J.map (·.2)).map λx:Nat=>D.int (x:Int)) J T O x8 hB ⋯ iv;obtain⟨T2,O2,z7,z8,e2,i2,m2⟩:=Gh (ab:=ab) h hB ac K U T1 O1 (pc (.int (a.2:Int))) Y (λq hq=>hA q (tz _ hq)) ⋯ i1;refine#[T2,O2,z7,z8, ?_,i2,by rw[m2,m1,List.flatMap_cons,R9]];rw[ww];refine wp (mM (s1:=#[mR L row t ab (J.map (·.2)) (pc (.int (a.2:Int))) x8,O]) (s2:=#[mR L row t ab (J.map (·.2)) (pc (.int (a.2:Int))) Y,O1]) trivial rfl ?_) e2;rw[ja];refine(cY (im:=listI (aa 6)) (ds:=(J.map (·.2)).map λx:Nat=>D.int (x:Int)) (k:=pi) (s1:=#[mR L row t ab (J.map (·.2)) (pc (.int (a.2:Int))) x8,O]) (by rw[b9,ag (i:=6) rfl,aj];rfl)).trans ?_;rw[wf] at e1 ⊢;exact e1
theorem Nu {α:Type} {caps:List Nat} {c:TM} {e:EM} {k:Option Nat} {l:List α} {p:α->Bool} {out:α->D} {f g:α->D} (J:im s=.ok ((l.map (λa=>D.tup [f a,g a]),k),s)) (U:okC (l.map (λa=>D.tup [f a,g a])) k s.o) (Y:l.length<=16777216)
 (hc:∀a∈l,c #[pc (f a)::pc (g a)::caps.map (λi=>(s.r[i]?).getD pi),s.o]=.ok (p a,#[pc (f a)::pc (g a)::caps.map (λi=>(s.r[i]?).getD pi),s.o]))
 (he:∀a∈l,p a=qc->e #[pc (f a)::pc (g a)::caps.map (λi=>(s.r[i]?).getD pi),s.o]=.ok (out a,#[pc (f a)::pc (g a)::caps.map (λi=>(s.r[i]?).getD pi),s.o])):
 nO 2 caps im (c7 (bc (aB 0) (bc (aB 1) c8)) 2) c e s=.ok (.ptr s.o.length,#[s.r,s.o++[.lst ((l.filter p).map out)]]):=by
 rw[D9,Dh J U Y hc he,aj]
theorem JN{α:Type}{f g:α->D}:∀l:List α,gg (l.map f) (l.map g)=l.map λa=>.tup [f a,g a]:=λl=>by unfold gg;rw[Uq,List.zipWith_self]
theorem DU{α:Type}(p:α->Bool)(l:List α):(l.zipIdx.filter λq=>p q.1).map (·.1)=l.filter p:=by
 have h:(l.zipIdx.map (·.1))=l:=by simp
 conv=>rhs;rw[<- h,Sq]
 rfl
theorem MO(h:Wrk n L row b)(hs:Sto O L):∃L' O',iu [.lst (bj L),vI row] O=.ok (.lst (bj L'),O')/\L'.map (·.2)=dY n (L.map (·.2)) row/\Sto O' L':=by
 have few:=h.few;have dz:∀p∈L,bP [vI row,vI p.2] []=.ok (.int (aH row p.2),[]):=λp hp=>zN (by rw[h.rl];have:=h.n7;omega) λq hq=>gw (by have:=h.bb;omega) (by have:=h.bb;omega) (h.rz _ (Re hq).1) (h.sz _ (G0 hp) _ (Re hq).2);have v2:=dg (l:=L) (item:=λp=>.ptr p.1) (out:=λp=>.int (aH row p.2)) (caps:=[1]) (im:=listI (aa 0)) (e:=lr 2 bP (af (aa 1) (af (aa 0) ao))) (k:=pi) (s:=#[[pc (.lst (bj L)),pc (vI row),pi,pi,pi,pi,pi,pi,pi],O]) (by rw[b9,ag (i:=0) rfl,aj];rfl) trivial ⋯
  (λp hp=>F9 (aA (ag rfl) (aA (ag rfl) aG)) (rs:=[vI row,vI p.2]) (by simp only[qX,uh,sr (hs p hp),sq,tM]) (dz p hp) (by simp) rfl rfl)
 have v3:=dg (l:=L) (item:=λp=>.ptr p.1) (out:=λp=>.int (dI p.2:Nat)) (caps:=[]) (im:=listI (aa 0)) (e:=lr 1 k4 (af (aa 0) ao)) (k:=pi) (s:=#[[pc (.lst (bj L)),pc (vI row),pc (.lst (L.map λp=>.int (aH row p.2))),pi,pi,pi,pi,pi,pi],O]) (by rw[b9,ag (i:=0) rfl,aj];rfl) trivial ⋯
  (λp hp=>F9 (aA (ag rfl) aG) (rs:=[vI p.2]) (by simp only[qX,uh,sr (hs p hp),sq,tM]) JE (by simp) rfl rfl)
 rw[show (L.map λp=>D.int (dI p.2:Nat))=(L.map λp=>dI p.2).map (λx:Nat=>D.int (x:Int)) by rw[wf];rfl] at v3;have v4:=Nu (l:=L) (f:=λp=>.ptr p.1) (g:=λp=>.int (aH row p.2)) (p:=λp=>decide (aH row p.2=0)) (out:=λp=>.ptr p.1) (caps:=[]) (im:=nF (af (aa 0) (af (aa 2) ao))) (c:=a7 (ak eqD (aa 1) (aq (.int 0)))) (e:=aa 0) (k:=pi) (s:=#[[pc (.lst (bj L)),pc (vI row),pc (.lst (L.map λp=>.int (aH row p.2))),pc (vN (L.map λp=>dI p.2)),pi,pi,pi,pi,pi],O]) (by rw[AN,aV,ag (i:=0) rfl,aj];dsimp only;rw[aV,ag (i:=2) rfl,aj];dsimp only;rw[aG,aj,aj,aj];dsimp only;rw[JN]) trivial ⋯ (λp _=>eI (aO (ag rfl) (aF _) mC)) (λp _ _=>ag rfl)
 have U:∀(R:List (Option D)) (P:aC),R[2]? =pc (pc (.lst (L.map λp=>.int (aH row p.2))))->dQ (af (aa 2) ao) #[R,P]=.ok ((L.zipIdx.map λq=>D.tup [.int (q.2:Int),.int (aH row q.1.2)],pi),#[R,P]):=λR P hR=>by
  rw[uK,aV,ag (i:=2) hR,aj];dsimp only;rw[aG,aj,aj];dsimp only;rw[show fO (L.map λp=>D.int (aH row p.2))=L.zipIdx.map λq=>D.tup [.int (q.2:Int),.int (aH row q.1.2)] by unfold fO;rw[Sy,TL,wf];rfl]
 have zl:L.zipIdx.length=L.length:=by simp
 have vn:∀Z:List ((Nat×List Int)×Nat),(Z.map λq=>D.int (q.2:Int))=(Z.map (·.2)).map λx:Nat=>D.int (x:Int):=λZ=>by rw[wf];rfl
 have v5:=Ay (l:=L.zipIdx) (f:=λq=>.int (q.2:Int)) (g:=λq=>.int (aH row q.1.2)) (p:=λq=>decide (0<aH row q.1.2)) (out:=λq=>.int (q.2:Int)) (caps:=[]) (im:=dQ (af (aa 2) ao)) (c:=a7 (ak gtD (aa 1) (aq (.int 0)))) (e:=aa 0) (k:=pi) (s:=#[[pc (.lst (bj L)),pc (vI row),pc (.lst (L.map λp=>.int (aH row p.2))),pc (vN (L.map λp=>dI p.2)),pc (.ptr O.length),pi,pi,pi,pi],O++[.lst ((L.filter λp=>decide (aH row p.2=0)).map λp=>.ptr p.1)]]) (U _ _ rfl) trivial ⋯ (λq _=>eI (aO (ag rfl) (aF _) wY)) (λq _ _=>ag rfl);generalize hA:(L.zipIdx.filter λq=>decide (0<aH row q.1.2))=J at v5;rw[vn] at v5;have v6:=Ay (l:=L.zipIdx) (f:=λq=>.int (q.2:Int)) (g:=λq=>.int (aH row q.1.2)) (p:=λq=>decide (aH row q.1.2<0)) (out:=λq=>.int (q.2:Int)) (caps:=[]) (im:=dQ (af (aa 2) ao)) (c:=a7 (ak ltD (aa 1) (aq (.int 0)))) (e:=aa 0) (k:=pi) (s:=#[[pc (.lst (bj L)),pc (vI row),pc (.lst (L.map λp=>.int (aH row p.2))),pc (vN (L.map λp=>dI p.2)),pc (.ptr O.length),pc (vN (J.map (·.2))),pi,pi,pi],O++[.lst ((L.filter λp=>decide (aH row p.2=0)).map λp=>.ptr p.1)]]) (U _ _ rfl) trivial ⋯ (λq _=>eI (aO (ag rfl) (aF _) nH)) (λq _ _=>ag rfl);generalize hB:(L.zipIdx.filter λq=>decide (aH row q.1.2<0))=Bs at v6;rw[vn] at v6;have Y:∀q∈L.zipIdx,L[q.2]? =pc q.1:=λq hq=>List.mem_zipIdx_iff_getElem?.mp hq;have mA:∀q∈J,L[q.2]? =pc q.1:=λq hq=>Y q (by rw[<- hA] at hq;exact(xz.mp hq).1);have mB:∀q∈Bs,L[q.2]? =pc q.1:=λq hq=>Y q (by rw[<- hB] at hq;exact(xz.mp hq).1);have lA:J.length<=L.length:=by rw[<- hA,<- zl];exact Tw _ _
 have lB:Bs.length<=L.length:=by rw[<- hB,<- zl];exact Tw _ _
 have sub:∀p∈L.filter (λp=>decide (aH row p.2=0)),p∈L:=λp hp=>(xz.mp hp).1;have lT:(L.filter λp=>decide (aH row p.2=0)).length<=L.length:=Tw _ _;have iv:Iv L (L.filter λp=>decide (aH row p.2=0)) O.length (O++[.lst ((L.filter λp=>decide (aH row p.2=0)).map λp=>.ptr p.1)]):=#[by simp,hs.app _,λp hp=>(hs.app _) p (sub p hp),λp hp=>Ez (hs.lt (sub p hp)),λp hp=>Ez (hs.lt hp)];obtain⟨T',O',y7,y8,e7,i7,m7⟩:=Gh (ab:=J.map (·.2)) h mB ⋯ ((J.map (·.2)).map λx:Nat=>D.int (x:Int)) J _ _ pi pi mA ⋯ iv;refine#[T',O'.set O.length .dead, ?_, ?_,i7.s.set i7.tn _];refine de (R:=mR L row O.length (J.map (·.2)) (Bs.map (·.2)) y7 y8) ?_;show jV #[[pc (.lst (bj L)),pc (vI row),pi,pi,pi,pi,pi,pi,pi],O]=_;rw[jV];refine aU (bq v2 rfl) (aU (bq v3 rfl) (aU (bq v4 rfl) (aU (bq v5 rfl) (aU (bq v6 rfl) (aU ?_ (br (pj (ag rfl) i7.told rfl)))))));refine(cY (im:=listI (aa 5)) (ds:=(J.map (·.2)).map λx:Nat=>D.int (x:Int)) (k:=pi) (s1:=#[mR L row O.length (J.map (·.2)) (Bs.map (·.2)) pi pi,O++[.lst ((L.filter λp=>decide (aH row p.2=0)).map λp=>.ptr p.1)]]) (by rw[b9,ag (i:=5) rfl,aj];rfl)).trans ?_;rw[<- vn];exact e7;rw[m7];unfold dY;rw[Sq,Sq,Sq];have eA:=DU (λp:Nat×List Int=>decide (0<aH row p.2)) L;have eB:=DU (λp:Nat×List Int=>decide (aH row p.2<0)) L;rw[hA] at eA;rw[hB] at eB;show _=(L.filter λp=>decide (aH row p.2=0)).map (·.2)++((L.filter λp:Nat×List Int=>decide (0<aH row p.2)).map (·.2)).flatMap λh=>(((L.filter λp:Nat×List Int=>decide (aH row p.2<0)).map (·.2)).filter λw=>nbB n (L.map (·.2)) h w).map λw=>c9 w (aH row w) h (aH row h);rw[<- eA,<- eB];congr 1;rw[Vw,Vw];refine congrArg (λF=>J.flatMap F) (funext λa=> ?_);rw[wf,Sq,wf];rfl
theorem Js {α:Type} {l:List α} {item:α->D} {f:α->List Int} {T:α->Nat->Prop} {caps:List Nat} {e:EM} {k:Option Nat} (I:aC->Prop) (Y:∀O E,I O->I (O++E)) (h0:I O) (J:im #[R,O]=.ok ((l.map item,k),#[R,O])) (U:∀O,I O->okC (l.map item) k O) (hl:l.length<=1000000)
 (he:∀a∈l,∀O,I O->∃q E,e #[pc (item a)::caps.map (λi=>(R[i]?).getD pi),O]=.ok (.ptr q,#[pc (item a)::caps.map (λi=>(R[i]?).getD pi),O++E])/\(O++E)[q]? =pc (.lst ((f a).map D.int))/\(T a q\/O.length<=q)):
 ∃(L:List (Nat×List Int)) (E:aC),bL 1 caps im (aB 0) bM e #[R,O]=.ok (.lst (bj L),#[R,O++E])/\L.map (·.2)=l.map f/\Sto (O++E) L:=by
 obtain⟨L,E,x',e1,e2,e3,e4⟩:=yL (ok:=okC (l.map item) k) (e:=e) (cap:=caps.map (λi=>(R[i]?).getD pi)) (T:=T) I Y U l [] pi O h0 (by simp;omega) he;refine#[L,E, ?_,e2,e3];rw[lS,pM,J,aj];dsimp only;rw[show mE 1 caps R=pi::caps.map (λi=>(R[i]?).getD pi) from rfl,e1,aj,aj];rfl
theorem Ml(ha:a<n)(hn:n<=1000000):vE [.int (a:Int),.int (n:Int)] []=.ok (.ptr 0,[.lst ((eh n a).map D.int)]):=by
 have h1:=dM (i:=2) (wp (HD (fin:=oK) (mk:=aa 1) (s:=#[[pc (.int (a:Int)),pc (.int (n:Int)),pi],[]]) (n:=n) (by simp) hn) AZ);have h2:gA (aq (.int 1)) (jJ (aa 2) (aa 0)) #[[pc (.int (a:Int)),pc (.int (n:Int)),pc (.ptr 0)],[.lst ((u0 n (0:Int)).map D.int)]]=.next #[[pc (.int (a:Int)),pc (.int (n:Int)),pc (.ptr 0)],[.lst ((eh n a).map D.int)]]:=by rw[sJ,aF,aj,lX (k:=0) (a:=a) (ds:=(u0 n (0:Int)).map D.int) (s1:=#[[pc (.int (a:Int)),pc (.int (n:Int)),pc (.ptr 0)],[.lst ((u0 n (0:Int)).map D.int)]]) (s2:=#[[pc (.int (a:Int)),pc (.int (n:Int)),pc (.ptr 0)],[.lst ((u0 n (0:Int)).map D.int)]]) (by simp) (by simp) rfl (by simpa using ha)];simp[eh,TJ]
 refine de (R:=[pc (.int (a:Int)),pc (.int (n:Int)),pc (.ptr 0)]) ?_;show D4 #[[pc (.int (a:Int)),pc (.int (n:Int)),pi],[]]=_;rw[D4,bE h1];exact aU h2 (br (ag rfl))
theorem J2(hn:n<=1000)(O:aC):∃L E,wJ [.int (n:Int)] O=.ok (.lst (bj L),O++E)/\L.map (·.2)=cT n/\Sto (O++E) L:=by
 obtain⟨L,E,e,h1,h2⟩:=Js (l:=uM n) (item:=λi:Nat=>D.int (i:Int)) (f:=eh n) (T:=λ_ _=>False) (caps:=[0]) (im:=fb (af (aa 0) ao)) (e:=d3 2 vE (af (aa 0) (af (aa 1) ao))) (k:=pi) (R:=[pc (.int (n:Int))]) (O:=O) (λ_=>True) (λ_ _ _=>trivial) trivial (by
  rw[fL (n:=n) (s1:=#[[pc (.int (n:Int))],O]) (aA (ag rfl) aG) ⋯,ib]) (λ_ _=>trivial) (by rw[R8];omega) (λa ha P _=>
  #[P.length,[.lst ((eh n a).map D.int)],jB (aA (ag rfl) (aA (ag rfl) aG)) (Ml (AC.mp ha) ⋯) (by simp) rfl iT (by simp),by simp,.inr (vr _)])
 refine#[L,E, ?_,h1,h2];refine de (R:=[pc (.int (n:Int))]) ?_;show Bb #[[pc (.int (n:Int))],O]=_;rw[Bb];exact br e
theorem yP{O:aC}:∀{L:List (Nat×List Int)},Sto O L->keyed O (bj L)=pc (L.map λp=>(.ptr p.1,p.2))
 | [],_=>rfl
 | p::L,h=>by
  have e:=yP (L:=L) λq hq=>h q (tz _ hq);have c:zZ O (.ptr p.1)=pc p.2:=by unfold zZ;rw[jx (h p uC)];exact yT _
  show keyed O (.ptr p.1::bj L)=_;unfold keyed;rw[c,e];rfl
theorem Iw:(d9 (L.map λp=>(D.ptr p.1,p.2))).map (·.1)=bj (d9 L):=by rw[n8 (g:=λp:Nat×List Int=>(D.ptr p.1,p.2)) λ_=>rfl,wf];rfl
theorem xW{O:aC}{fin:S->List D->Res (D×S)}(J:me s=.ok (d,s1))(hd:lsD s1.o d=pc (bj L))(hs:Sto s1.o L)(U:L.length<64)(Y:(L.map (·.2)).Nodup):wX fin me s=fin s1 (bj (d9 L)):=by unfold wX;rw[J,aj];dsimp only;rw[hd];dsimp only;rw[yP hs];dsimp only;rw[if_pos #[by rw[sB];exact U,by rw[wf];exact Y],Iw]
def qL(V:List (List Int)):List (List Int):=(d9 (V.map λx=>((),x))).map (·.2)
theorem B0:(d9 L).map (·.2)=qL (L.map (·.2)):=by unfold qL;rw[wf,show ((λx:List Int=>((),x))∘λx:Nat×List Int=>x.2)=λp:Nat×List Int=>((),p.2) from rfl,n8 (g:=λp:Nat×List Int=>((),p.2)) λ_=>rfl,wf];rfl
theorem B1(n:Nat):cE 1 (cT n):=λx hx=>by unfold cT at hx;obtain⟨a,_,rfl⟩:=ss.mp hx;exact Gx n a
structure CN(c B n:Nat)(rows:List (List Int)):Prop where
 len:∀r∈rows,r.length=n
 sz:cE c rows
 big:qC c rows.length 1<=B
 cB:c<=B
 B2:2*B+20<=60000000
 n7:n<=7
theorem DI{c B n:Nat}(h:CN c B n rows){rs:List (List Int)}(hr:∀r∈rs,r∈rows)(U:rs.length<=rows.length):cE B (rs.foldl (dY n) (cT n)):=
 (yb rs 1 _ (λr J=>#[h.sz r (hr r J),by rw[h.len r (hr r J)];have:=h.n7;omega]) (B1 n)).mono (IN (om c rs.length rows.length 1 U) h.big)
theorem DJ{c B n:Nat}(h:CN c B n rows):∃k O Ls,mH [vII rows,.int (n:Int)] []=.ok (.ptr k,O)/\O[k]? =pc (.lst (bj Ls))/\Sto O Ls/\(∀p∈Ls,p.1≠k)/\Ls=d9 Ls/\Ls.map (·.2)=qL (j3 rows n):=by
 have n7:=h.n7;obtain⟨L0,E0,e0,m0,s0⟩:=J2 (n:=n) ⋯ [];rw[wT] at e0 s0;obtain⟨s',el,rs,L,O,x3,Y,ap,J,ml⟩:=dh (ok:=okC (rows.map vI) pi) (g:=aB 3) (body:=yp)
  (λpre s=>∃(rs:List (List Int)) (L:List (Nat×List Int)) (O:aC) (x3:Option D),pre=rs.map vI/\s=#[[pc (vII rows),pc (.int (n:Int)),pc (.lst (bj L)),x3],O]/\Sto O L/\L.map (·.2)=rs.foldl (dY n) (cT n)) (λ_ _ _=>trivial) (rows.map vI) [] (by
   rintro pre d rest ed s ⟨rs,L,O,x3,rfl,rfl,J,ml⟩;rw[wT] at ed;obtain⟨U,l2,e1,e2,e3⟩:=List.map_eq_append_iff.mp ed;cases l2 with
   | nil=>cases e3
   | cons r l2=>
    rw[ww] at e3;injection e3 with e3 e4
    subst e3;have e5:U=rs:=(RW (λa b h=>by
     have:a.map D.int=b.map D.int:=by injection h
     exact(RW (λx y q=>by cases q;rfl)).mp this)).mp e2
    subst e5;have inR:∀q∈U,q∈rows:=λq hq=>by rw[e1];exact RB _ hq
    have rR:r∈rows:=by rw[e1];simp
    have k:kc n U (j3 U n):=oA λq hq=>h.len q (inR q hq);have cl:U.length<=rows.length:=by rw[e1,xL];omega
    have mem:∀p∈L,cJ n U p.2:=λp hp=>(k.all p.2).mp (by show p.2∈U.foldl (dY n) (cT n);rw[<- ml];exact G0 hp)
    have wk:Wrk n L r B:=#[λp hp=>(mem p hp).fit.len,λp hp=>(mem p hp).fit.nn,by
     have:=k.few n7;have e:L.length=(j3 U n).length:=by show _=(U.foldl (dY n) (cT n)).length;rw[<- ml,sB]
     omega,h.len r rR,⋯,by rw[ml];exact DI h inR cl,(h.sz r rR).mono h.cB,h.B2]
    obtain⟨L',O',e6,m6,s6⟩:=MO wk J;refine#[#[[pc (vII rows),pc (.int (n:Int)),pc (.lst (bj L)),pc (vI r)],O],#[[pc (vII rows),pc (.int (n:Int)),pc (.lst (bj L')),pc (vI r)],O'],rfl,.inl ?_,U++[r],L',O',_,by simp,rfl,s6,by rw[m6,ml,Tk];rfl];rw[yp];exact bq (gH (aA (ag rfl) (aA (ag rfl) aG)) e6 rfl) rfl) #[[pc (vII rows),pc (.int (n:Int)),pc (.lst (bj L0)),pi],E0] #[[],L0,E0,pi,rfl,rfl,s0,m0]
 rw[wT] at Y;have e5:rows=rs:=(RW (λa b h=>by
  have:a.map D.int=b.map D.int:=by injection h
  exact(RW (λx y q=>by cases q;rfl)).mp this)).mp Y
 subst e5;subst ap;have k:kc n rows (j3 rows n):=oA h.len;have ab:L.map (·.2)=j3 rows n:=ml;have nd:(L.map (·.2)).Nodup:=by rw[ab];exact k.nd
 have few:L.length<64:=by have:=k.few n7;rw[<- ab,sB] at this;exact this
 have so:wX oK (aa 2) #[[pc (vII rows),pc (.int (n:Int)),pc (.lst (bj L)),x3],O]=.ok (.ptr O.length,#[[pc (vII rows),pc (.int (n:Int)),pc (.lst (bj L)),x3],O++[.lst (bj (d9 L))]]):=(xW (O:=O) (fin:=oK) (ag rfl) rfl J few nd).trans AZ;have mem:∀p∈d9 L,p∈L:=λp hp=>(ix L).mem_iff.mp hp;refine#[O.length,O++[.lst (bj (d9 L))],d9 L, ?_,by simp,λp hp=>(J.app _) p (mem p hp),λp hp=>Ez (J.lt (mem p hp)), ?_,by rw[B0,ab]];refine de (R:=[pc (vII rows),pc (.int (n:Int)),pc (.lst (bj L)),x3]) ?_;show Et #[[pc (vII rows),pc (.int (n:Int)),pi,pi],[]]=_;rw[Et];refine aU (bq (gH (aA (ag rfl) aG) e0 rfl) rfl) (aU ?_ (br so));exact(cY (im:=listI (aa 0)) (ds:=rows.map vI) (k:=pi) (s1:=#[[pc (vII rows),pc (.int (n:Int)),pc (.lst (bj L0)),pi],E0]) (by rw[b9,ag (i:=0) rfl,aj];rfl)).trans el;refine yz (ix _).symm ?_ (o7 L) (o7 _);exact((ix L).map (·.2)).nodup_iff.mpr nd
structure uU(n:Nat)(rows:List (List Int)):Prop where
 len:∀r∈rows,r.length=n
 sz:cE 200 rows
 cnt:rows.length<=5
 n7:n<=7
theorem big:qC 200 5 1<=8000:=∅
theorem JW(h:uU n rows){rs:List (List Int)}(hr:∀r∈rs,r∈rows)(U:rs.length<=5):cE 8000 (rs.foldl (dY n) (cT n)):=by refine(yb rs 1 _ (λr J=>#[h.sz r (hr r J),by rw[h.len r (hr r J)];have:=h.n7;omega]) (B1 n)).mono ?_;exact IN (om 200 rs.length 5 1 U) big
theorem uU.toC(h:uU n rows):CN 200 8000 n rows:=#[h.len,h.sz,IN (om 200 rows.length 5 1 h.cnt) big,∅,∅,h.n7]
theorem Me(h:uU n rows):∃k O J,mH [vII rows,.int (n:Int)] []=.ok (.ptr k,O)/\O[k]? =pc (.lst (bj J))/\Sto O J/\(∀p∈J,p.1≠k)/\J=d9 J/\J.map (·.2)=qL (j3 rows n):=DJ h.toC
theorem CP(h:cW d=qc):aR [vII A,d]=true:=by rw[jt,jt,oo,i5,h];rfl
theorem GB(n:Nat):∀L:List (Nat×List Int),fG n (bj L)=bj (L.map λp=>(n+p.1,p.2))
 | []=>by simp[fG]
 | p::L=>by show fG n (.ptr p.1::bj L)=_;unfold fG;rw[GB n L,iT];rfl
theorem zM{O S:aC}(h:Sto O L):Sto (S++O.map (shC S.length)) (L.map λp=>(S.length+p.1,p.2)):=λq hq=>by obtain⟨p,hp,rfl⟩:=ss.mp hq;dsimp only;rw[wS ⋯,Sb,wv,h p hp];simp
theorem AW{O S:aC}(h:O[k]? =pc (.lst (bj L))):(S++O.map (shC S.length))[S.length+k]? =pc (.lst (bj (L.map λp=>(S.length+p.1,p.2)))):=by rw[wS ⋯,Sb,wv,h];simp only[SH,Ge,GB]
theorem BZ(ns:List Int)(J:ns.length<=1000000):iI [vI ns] []=.ok (vI (low ns),[]):=by
 by_cases h:cM ns=0;refine cv (s:=#[[pc (vI ns),pc (.int 0)],[]]) ?_;simp[r9,tU,h,low];have hc:=dg (l:=ns) (item:=D.int) (out:=λn=>.int (n/(cM ns:Int))) (caps:=[1]) (im:=listI (aa 0)) (e:=ak d4 (aa 0) (aa 1)) (k:=pi) (s:=#[[pc (vI ns),pc (.int (cM ns:Nat))],[]]) (by simp) trivial ⋯ (λa _=>by simp[mj (show (cM ns:Int)≠0 by omega),pT (show (0:Int)<cM ns by omega)])
 refine cv (s:=#[[pc (vI ns),pc (.int (cM ns:Nat))],[]]) ?_;simp[r9,tU,h,hc,low,wf,Sw]
theorem Mg(ha:a<n)(hn:n<=1000000):∃O,oq [.int (a:Int),.int (n:Int)] []=.ok (vI (eh n a),O):=by
 have h1:=dM (i:=2) (wp (HD (fin:=oK) (mk:=aa 1) (s:=#[[pc (.int (a:Int)),pc (.int (n:Int)),pi],[]]) (n:=n) (by simp) hn) AZ);have h2:gA (aq (.int 1)) (jJ (aa 2) (aa 0)) #[[pc (.int (a:Int)),pc (.int (n:Int)),pc (.ptr 0)],[.lst ((u0 n (0:Int)).map D.int)]]=.next #[[pc (.int (a:Int)),pc (.int (n:Int)),pc (.ptr 0)],[.lst ((eh n a).map D.int)]]:=by rw[sJ,aF,aj,lX (k:=0) (a:=a) (ds:=(u0 n (0:Int)).map D.int) (s1:=#[[pc (.int (a:Int)),pc (.int (n:Int)),pc (.ptr 0)],[.lst ((u0 n (0:Int)).map D.int)]]) (s2:=#[[pc (.int (a:Int)),pc (.int (n:Int)),pc (.ptr 0)],[.lst ((u0 n (0:Int)).map D.int)]]) (by simp) (by simp) rfl (by simpa using ha)];simp[eh,TJ]
 refine mr #[#[[pc (.int (a:Int)),pc (.int (n:Int)),pc (.ptr 0)],[.dead]], ?_];show vf #[[pc (.int (a:Int)),pc (.int (n:Int)),pi],[]]=_;rw[vf,bE h1];refine wp (bE h2) ?_;simp
theorem Ja(hn:n<=1000000):ng [.int (n:Int)] []=.ok (vII (cT n),[]):=by
 have hc:=dg (l:=uM n) (item:=λi=>.int (i:Int)) (out:=λi=>vI (eh n i)) (caps:=[0]) (im:=fb (af (aa 0) ao)) (e:=aX 2 oq (af (aa 0) (af (aa 1) ao))) (k:=pi) (s:=#[[pc (.int (n:Int))],[]]) (by
  rw[fL (n:=n) (s1:=#[[pc (.int (n:Int))],[]]) (by simp) hn,ib]) trivial (kD (by rw[R8];exact hn)) (λa ha=>by
  obtain⟨O,e⟩:=Mg (AC.mp ha) hn;exact cC (ds:=[.int (a:Int),.int (n:Int)]) (by simp) (by simp) rfl e (by simp))
 refine cv (s:=#[[pc (.int (n:Int))],[]]) ?_;show sX #[[pc (.int (n:Int))],[]]=_;rw[sX,br hc];simp[cT]
theorem BY{one other:List Int}{v w:Int}(U:one.length<=1000000)(h1:∀a∈one,RG a w)(h2:∀b∈other,RG b v):gF [vI one,.int v,vI other,.int w] []=.ok (vI (c9 one v other w),[]):=by
 have hz:(one.zip other).length<=1000000:=by rw[RA];omega
 have hc:=En (l:=one.zip other) (f:=λp=>.int p.1) (g:=λp=>.int p.2) (out:=λp=>.int (p.1*w-p.2*v)) (caps:=[1,3]) (im:=nF (af (aa 0) (af (aa 2) ao))) (e:=ak lV (ak cI (aa 0) (aa 3)) (ak cI (aa 1) (aa 2))) (k:=pi) (s:=#[[pc (vI one),pc (.int v),pc (vI other),pc (.int w),pi],[]]) (by simp[oa]) trivial ⋯ (λp hp=>by have hp':=Re hp;simp[cN (h1 p.1 hp'.1),cN (h2 p.2 hp'.2)])
 rw[show (one.zip other).map (λp=>D.int (p.1*w-p.2*v))=(g6 one v other w).map D.int by rw[g6,<- zip_map];simp] at hc;have J:(g6 one v other w).length<=1000000:=by unfold g6;rw[RU];omega
 refine cv (s:=#[[pc (vI one),pc (.int v),pc (vI other),pc (.int w),pc (vI (g6 one v other w))],[]]) ?_;show rC #[[pc (vI one),pc (.int v),pc (vI other),pc (.int w),pi],[]]=_;rw[rC,bE (dM hc)];simp[BZ _ J,c9]
theorem Bp{k:Option Nat}(hd:itemsOf O d=.ok (rows.map vI,k))(hk:okC (rows.map vI) k O)(J:rows.length<=1000000)(ha:∀r∈rows,a<r.length):jc [d,.int (a:Int)] O=.ok (vI (rows.map (nth · a)),O):=by
 have hc:=dg (l:=rows) (item:=vI) (out:=λr=>.int (nth r a)) (caps:=[1]) (im:=listI (aa 0)) (e:=ak ixD (aa 0) (aa 1)) (k:=k) (s:=#[[pc d,pc (.int (a:Int))],O]) (by simp[hd]) hk ⋯ (λr hr=>by simp[g9 (ha r hr)])
 refine cv (s:=#[[pc d,pc (.int (a:Int))],O]) ?_;show xQ #[[pc d,pc (.int (a:Int))],O]=_;rw[xQ,br hc];simp[wf,Sw]
theorem Ju(x:Option D)(L:D):∀(ns:List Int) (J:Nat) (U Y:Option D),(dy ns=pi->∃y1 y2,bT (okC (fO [L]) pi) (c7 (bc (aB 1) (bc (aB 2) c8)) 2) cH ((ns.zipIdx J).map λp=>.tup [.int (p.2:Int),.int p.1]) #[[pc L,U,Y],[]]=.next #[[pc L,y1,y2],[]])/\
 ∀j,dy ns=pc j->∃y1 y2,bT (okC (fO [L]) pi) (c7 (bc (aB 1) (bc (aB 2) c8)) 2) cH ((ns.zipIdx J).map λp=>.tup [.int (p.2:Int),.int p.1]) #[[pc L,U,Y],[]]=.ret (.int ((J+j:Nat):Int)) #[[pc L,y1,y2],[]]
 | [],J,U,Y=>#[λ_=>#[U,Y,by simp[bT]],λj h=>by cases h]
 | n::ns,J,U,Y=>by
  have ih:=Ju x L ns (J+1) (pc (.int (J:Int))) (pc (.int n));rw[Ts,ww,bT,if_pos (show okC (fO [L]) pi _ from trivial)];have hg:c7 (bc (aB 1) (bc (aB 2) c8)) 2 (.tup [.int (J:Int),.int n]) #[[pc L,U,Y],[]]=.ok #[[pc L,pc (.int (J:Int)),pc (.int n)],[]]:=by simp
  rw[hg,kN];by_cases hn:n=0;have hb:cH #[[pc L,pc (.int (J:Int)),pc (.int n)],[]]=.next #[[pc L,pc (.int (J:Int)),pc (.int n)],[]]:=by simp[cH,hn]
  rw[hb];dsimp only;constructor;intro h;unfold dy at h;rw[if_neg (by simpa using hn)] at h;exact ih.1 (by simpa using h);intro j h;unfold dy at h;rw[if_neg (by simpa using hn)] at h;cases e:dy ns with
  | none=>rw[e] at h;cases h
  | some i=>
   rw[e] at h;have hj:j=i+1:=by simpa using h.symm
   subst hj;obtain⟨y1,y2,e2⟩:=ih.2 i e;exact#[y1,y2,by rw[e2,show J+1+i=J+(i+1) by omega]]
  have hb:cH #[[pc L,pc (.int (J:Int)),pc (.int n)],[]]=.ret (.int (J:Int)) #[[pc L,pc (.int (J:Int)),pc (.int n)],[]]:=by simp[cH,hn]
  rw[hb];dsimp only;have hs:dy (n::ns)=pc 0:=by unfold dy;rw[if_pos hn]
  rw[hs];refine#[λh=>(by cases h),λj h=> ?_];have hj:j=0:=by simpa using h.symm
  subst hj;exact#[_,_,rfl]
def u9:Option Nat->D
 | none=>.non
 | some k=>.int (k:Int)
theorem Jz:dw [vI ns] []=.ok (u9 (dy ns),[]):=by
 have Y:=cY (im:=dQ (af (aa 0) ao)) (g:=c7 (bc (aB 1) (bc (aB 2) c8)) 2) (body:=cH) (s:=#[[pc (vI ns),pi,pi],[]]) (ds:=(ns.zipIdx 0).map λp=>.tup [.int (p.2:Int),.int p.1]) (k:=pi) (s1:=#[[pc (vI ns),pi,pi],[]]) (by simp[Hl]);have go:=Ju pi (vI ns) ns 0 pi pi;cases e:dy ns with
 | none=>
  obtain⟨J,U,e1⟩:=go.1 e;refine cv (s:=#[[pc (vI ns),J,U],[]]) ?_;show fV #[[pc (vI ns),pi,pi],[]]=_;rw[fV,wU,Y];rw[show bT (okC ((ns.zipIdx 0).map λp=>D.tup [.int (p.2:Int),.int p.1]) pi) (c7 (bc (aB 1) (bc (aB 2) c8)) 2) cH ((ns.zipIdx 0).map λp=>.tup [.int (p.2:Int),.int p.1]) #[[pc (vI ns),pi,pi],[]]=.next #[[pc (vI ns),J,U],[]] from e1];rfl
 | some k=>
  obtain⟨J,U,e1⟩:=go.2 k e;refine cv (s:=#[[pc (vI ns),J,U],[]]) ?_;show fV #[[pc (vI ns),pi,pi],[]]=_;rw[fV,wU,Y];rw[show bT (okC ((ns.zipIdx 0).map λp=>D.tup [.int (p.2:Int),.int p.1]) pi) (c7 (bc (aB 1) (bc (aB 2) c8)) 2) cH ((ns.zipIdx 0).map λp=>.tup [.int (p.2:Int),.int p.1]) #[[pc (vI ns),pi,pi],[]]=.ret (.int ((0+k:Nat):Int)) #[[pc (vI ns),J,U],[]] from e1];rw[Va];rfl
theorem Mf{r:List Int}(ha:a<r.length)(J:r.length<=1000000):gr [vI r,.int (a:Int)] []=.ok (vI (g7 r a),[]):=by have hc:=dg (l:=r) (item:=D.int) (out:=λn=>.int (-n)) (caps:=[]) (im:=listI (aa 0)) (e:=unM jb (aa 0)) (k:=pi) (s:=#[[pc (vI r),pc (.int (a:Int))],[]]) (by simp) trivial ⋯ (λn _=>by simp);refine cv (s:=#[[pc (vI r),pc (.int (a:Int))],[]]) ?_;by_cases h:0<nth r a;simp[kF,g9 ha,h,g7];simp[kF,g9 ha,h,g7,hc,wf,Sw]
theorem GL{row lead:List Int}(h1:a<row.length)(h2:a<lead.length)(Y:row.length<=1000000)(J:∀x∈row,RG x (nth lead a))(U:∀y∈lead,RG y (nth row a)):iq [vI row,vI lead,.int (a:Int)] []=.ok (vI (du lead a row),[]):=by refine cv (s:=#[[pc (vI row),pc (vI lead),pc (.int (a:Int))],[]]) ?_;by_cases h:nth row a=0;simp[vU,g9 h1,h,du];simp[vU,g9 h1,g9 h2,h,du,BY Y J U]
theorem Hy {n a b l d:Nat} {left done:List (List Int)} {x5 x6:Option D} {L:D} (hl:O[l]? =pc (.lst (left.map vI))) (hd:O[d]? =pc (.lst (done.map vI))) (as:l≠d)
 (ll:∀r∈left,r.length=n) (dl:∀r∈done,r.length=n) (ha:a<n) (hn:n<=1000) (c1:left.length<=1000) (c2:done.length<=1000) (s1:cE b left) (s2:cE b done) (hb:b<=60000000):
 ∃O' l' d' y5 y6,j8 #[[pc L,pc (.int (n:Int)),pc (.ptr l),pc (.ptr d),pc (.int (a:Int)),x5,x6],O]=.next #[[pc L,pc (.int (n:Int)),pc (.ptr l'),pc (.ptr d'),pc (.int (a:Int)),y5,y6],O']/\
  O'[l']? =pc (.lst ((di (left,done) a).1.map vI))/\O'[d']? =pc (.lst ((di (left,done) a).2.map vI))/\l'≠d':=by
 have az:jc [.ptr l,.int (a:Int)] O=.ok (vI (left.map (nth · a)),O):=Bp (k:=pc l) (by rw[xj hl]) hl ⋯ λr hr=>by rw[ll r hr];exact ha
 have e5:=dM (i:=5) (cC (n:=1) (f:=dw) (ma:=af (bN 2 jc (af (aa 2) (af (aa 4) ao))) ao) (s:=#[[pc L,pc (.int (n:Int)),pc (.ptr l),pc (.ptr d),pc (.int (a:Int)),x5,x6],O]) (s':=#[[pc L,pc (.int (n:Int)),pc (.ptr l),pc (.ptr d),pc (.int (a:Int)),x5,x6],O]) (ds:=[vI (left.map (nth · a))]) (by rw[aV,jT (n:=2) (ds:=[.ptr l,.int (a:Int)]) (s':=#[[pc L,pc (.int (n:Int)),pc (.ptr l),pc (.ptr d),pc (.int (a:Int)),x5,x6],O]) (by simp) rfl az];rfl) (kq _) rfl Jz (by cases dy (left.map (nth · a)) <;> simp[u9]))
 unfold di;dsimp only;cases e:dy (left.map (nth · a)) with
 | none=>
  rw[e] at e5;refine#[O,l,d,pc .non,x6, ?_,hl,hd,as];rw[j8,bE e5];refine wp (ip (s':=#[[pc L,pc (.int (n:Int)),pc (.ptr l),pc (.ptr d),pc (.int (a:Int)),pc .non,x6],O]) (by simp[u9])) rfl
 | some k=>
  rw[e] at e5;obtain⟨k1,k2,_⟩:=gU e;rw[sB] at k1;have a1:(left.map vI)[k]'(by simpa using k1)=vI (left.getD k []):=by simp[pr,k1]
  have ab:left.getD k []∈left:=getD_mem k1;have a2:(left.map vI).eraseIdx k=(left.eraseIdx k).map vI:=BB _ _ _;generalize a3:left.getD k []=row at *;have rl:row.length=n:=ll row ab;have ap:(g7 row a).length=n:=by rw[xt,rl]
  have bv:=Mf (r:=row) (a:=a) ⋯ ⋯;have a4:SzL b (g7 row a):=(s1 row ab).sgn a;generalize U:g7 row a=lead at *;have clr:∀r:List Int,r.length=n->SzL b r->iq [vI r,vI lead,.int (a:Int)] []=.ok (vI (du lead a r),[]):=λr hr hs=>
   GL ⋯ ⋯ ⋯ (λx hx=>EA hb (hs x hx) (a4.nth a)) (λy hy=>EA hb (a4 y hy) (hs.nth a))
  have ac:(O.set l (.lst ((left.eraseIdx k).map vI)))[l]? =pc (.lst ((left.eraseIdx k).map vI)):=dk hl;have al:(O.set l (.lst ((left.eraseIdx k).map vI)))[d]? =pc (.lst (done.map vI)):=by rw[dm as];exact hd
  have e6:=dM (i:=6) (cC (n:=2) (f:=gr) (ma:=af (CT (aa 2) (aa 5)) (af (aa 4) ao)) (s:=#[[pc L,pc (.int (n:Int)),pc (.ptr l),pc (.ptr d),pc (.int (a:Int)),pc (.int (k:Int)),x6],O]) (s':=#[[pc L,pc (.int (n:Int)),pc (.ptr l),pc (.ptr d),pc (.int (a:Int)),pc (.int (k:Int)),x6],O.set l (.lst ((left.eraseIdx k).map vI))]) (ds:=[vI row,.int (a:Int)]) (by rw[aV,Mj (s1:=#[[pc L,pc (.int (n:Int)),pc (.ptr l),pc (.ptr d),pc (.int (a:Int)),pc (.int (k:Int)),x6],O]) (s2:=#[[pc L,pc (.int (n:Int)),pc (.ptr l),pc (.ptr d),pc (.int (a:Int)),pc (.int (k:Int)),x6],O]) (k:=l) (i:=k) (by simp) hl (by simp) hl (by simpa using k1) ⋯,a1,a2];simp) (by simp) rfl bv (by simp))
  generalize O.set l (.lst ((left.eraseIdx k).map vI))=O1 at *;have e2:=dM (i:=2) (zX (l:=left.eraseIdx k) (item:=vI) (out:=λr=>vI (du lead a r)) (caps:=[4,6]) (im:=listI (aa 2)) (e:=aX 3 iq (af (aa 0) (af (aa 2) (af (aa 1) ao)))) (k:=pc l) (s:=#[[pc L,pc (.int (n:Int)),pc (.ptr l),pc (.ptr d),pc (.int (a:Int)),pc (.int (k:Int)),pc (vI lead)],O1]) (BJ (by simp) ac) ac (by have:=List.length_eraseIdx_le left k;omega) (λr hr=>by have a5:=RK hr;exact cC (ds:=[vI r,vI lead,.int (a:Int)]) (by simp) (by simp) rfl (clr r (ll r a5) (s1 r a5)) (by simp)))
  dsimp only at e2;have am:(O1++[.lst ((left.eraseIdx k).map λr=>vI (du lead a r))])[d]? =pc (.lst (done.map vI)):=ee al;have bb:(O1++[.lst ((left.eraseIdx k).map λr=>vI (du lead a r))])[O1.length]? =pc (.lst ((left.eraseIdx k).map λr=>vI (du lead a r))):=gE;have b2:=mV al;have bw:(O1++[Cell.lst ((left.eraseIdx k).map λr=>vI (du lead a r))]).length=O1.length+1:=by simp
  generalize O1++[Cell.lst ((left.eraseIdx k).map λr=>vI (du lead a r))]=J at *;have e3:=dM (i:=3) (zX (l:=done) (item:=vI) (out:=λr=>vI (du lead a r)) (caps:=[4,6]) (im:=listI (aa 3)) (e:=aX 3 iq (af (aa 0) (af (aa 2) (af (aa 1) ao)))) (k:=pc d) (s:=#[[pc L,pc (.int (n:Int)),pc (.ptr O1.length),pc (.ptr d),pc (.int (a:Int)),pc (.int (k:Int)),pc (vI lead)],J]) (BJ (by simp) am) am ⋯ (λr hr=>
   cC (ds:=[vI r,vI lead,.int (a:Int)]) (by simp) (by simp) rfl (clr r (dl r hr) (s2 r hr)) (by simp)))
  dsimp only at e3;have bd:(J++[.lst (done.map λr=>vI (du lead a r))])[O1.length]? =pc (.lst ((left.eraseIdx k).map λr=>vI (du lead a r))):=ee bb;have Y:(J++[.lst (done.map λr=>vI (du lead a r))])[J.length]? =pc (.lst (done.map λr=>vI (du lead a r))):=gE;generalize J++[Cell.lst (done.map λr=>vI (du lead a r))]=O3 at *;have e7:=dB (wo (mo:=aa 3) (me:=aa 6) (s:=#[[pc L,pc (.int (n:Int)),pc (.ptr O1.length),pc (.ptr J.length),pc (.int (a:Int)),pc (.int (k:Int)),pc (vI lead)],O3]) (s1:=#[[pc L,pc (.int (n:Int)),pc (.ptr O1.length),pc (.ptr J.length),pc (.int (a:Int)),pc (.int (k:Int)),pc (vI lead)],O3]) (s2:=#[[pc L,pc (.int (n:Int)),pc (.ptr O1.length),pc (.ptr J.length),pc (.int (a:Int)),pc (.int (k:Int)),pc (vI lead)],O3]) (k:=J.length) (d:=vI lead) (by simp) Y (by simp) Y (by simp;omega));have be:J.length≠O1.length:=⋯;refine#[O3.set J.length (.lst ((done.map λr=>vI (du lead a r))++[vI lead])),O1.length,J.length,pc (.int (k:Int)),pc (vI lead), ?_, ?_, ?_,⋯];rw[j8,bE e5];refine wp (o8 (s':=#[[pc L,pc (.int (n:Int)),pc (.ptr l),pc (.ptr d),pc (.int (a:Int)),pc (.int (k:Int)),x6],O]) (by simp[u9])) ?_;refine wp (bE e6) ?_;refine wp (bE e2) ?_;refine wp (bE e3) ?_;exact e7;rw[dm be,bd];dsimp only;rw[a3,U,wf];rfl;rw[dk Y];dsimp only;rw[a3,U,KE,wf];rfl
theorem Iy(hn:n<=1000)(hc:rows.length<=1000)(hl:∀r∈rows,r.length=n)(hs:cE b rows)(hb:grow b rows.length<=60000000):∃O,wN [vII rows,.int (n:Int)] []=.ok (vII (cA rows n),O):=by
 have e2:=dM (i:=2) (zX (l:=rows) (item:=vI) (out:=λr=>vI (low r)) (caps:=[]) (im:=listI (aa 0)) (e:=aX 1 iI (af (aa 0) ao)) (k:=pi) (s:=#[[pc (vII rows),pc (.int (n:Int)),pi,pi,pi,pi,pi],[]]) (by simp) trivial ⋯ (λr hr=>
  cC (ds:=[vI r]) (by simp) (by simp) rfl (BZ r (by rw[hl r hr];omega)) (by simp)))
 have e3:setM 3 (iL ao) #[[pc (vII rows),pc (.int (n:Int)),pc (.ptr 0),pi,pi,pi,pi],[.lst (rows.map λr=>vI (low r))]]=.next #[[pc (vII rows),pc (.int (n:Int)),pc (.ptr 0),pc (.ptr 1),pi,pi,pi],[.lst (rows.map λr=>vI (low r)),.lst []]]:=by simp
 have J:∀a,a<=n->∃left done O l d U x5 x6,PSz n b a rows left done/\O[l]? =pc (.lst (left.map vI))/\O[d]? =pc (.lst (done.map vI))/\l≠d/\
  bT (okC (cX 0 (n:Int)) pi) (aB 4) j8 ((uM n).map λ(i:Nat)=>D.int (i:Int)) #[[pc (vII rows),pc (.int (n:Int)),pc (.ptr 0),pc (.ptr 1),pi,pi,pi],[.lst (rows.map λr=>vI (low r)),.lst []]]=
  bT (okC (cX 0 (n:Int)) pi) (aB 4) j8 (((uM n).drop a).map λ(i:Nat)=>D.int (i:Int)) #[[pc (vII rows),pc (.int (n:Int)),pc (.ptr l),pc (.ptr d),U,x5,x6],O]:=by
  intro a;induction a with
  | zero=>exact λ_=>#[rows.map low,[],_,0,1,pi,pi,pi,PSz.start hl hs,by simp,by simp,∅,rfl]
  | succ a ih=>
   intro ha;obtain⟨left,done,O,l,d,U,x5,x6,P,h1,h2,Y,e⟩:=ih ⋯;have am:=P.cnt;have hb':grow b done.length<=60000000:=IN (BC ⋯) hb;obtain⟨O',l',d',y5,y6,eb,q1,q2,q3⟩:=Hy (L:=vII rows) (x5:=x5) (x6:=x6) h1 h2 Y P.ll P.dl (show a<n by omega) hn ⋯ ⋯ P.ls P.ds hb';refine#[_,_,O',l',d',pc (.int (a:Int)),y5,y6,P.step hl ⋯,q1,q2,q3, ?_];rw[e,Ro (by rw[R8];omega),ww,bT,if_pos (show okC _ pi _ from trivial)];rw[List.getElem_range,EK,kN];rw[show (#[List.set [pc (vII rows),pc (.int (n:Int)),pc (.ptr l),pc (.ptr d),U,x5,x6] 4 (pc (.int (a:Int))),O]:S)=#[[pc (vII rows),pc (.int (n:Int)),pc (.ptr l),pc (.ptr d),pc (.int (a:Int)),x5,x6],O] from rfl,eb]
 obtain⟨left,done,O,l,d,U,x5,x6,P,h1,h2,Y,e⟩:=J n (vr n);rw[SQ (by simp),RZ,bT,if_pos (show okC _ pi _ from trivial)] at e;have hf:=cY (im:=fb (af (aa 1) ao)) (g:=aB 4) (body:=j8) (s:=#[[pc (vII rows),pc (.int (n:Int)),pc (.ptr 0),pc (.ptr 1),pi,pi,pi],[.lst (rows.map λr=>vI (low r)),.lst []]]) (fL (s1:=#[[pc (vII rows),pc (.int (n:Int)),pc (.ptr 0),pc (.ptr 1),pi,pi,pi],[.lst (rows.map λr=>vI (low r)),.lst []]]) (n:=n) (by simp) ⋯);rw[show cX 0 (n:Int)=(uM n).map λ(i:Nat)=>D.int (i:Int) from ib n] at hf e;rw[e] at hf;refine mr #[#[[pc (vII rows),pc (.int (n:Int)),pc (.ptr l),pc (.ptr d),U,x5,x6],O.set d .dead], ?_];show Ae #[[pc (vII rows),pc (.int (n:Int)),pi,pi,pi,pi,pi],[]]=_;rw[Ae,bE e2];refine wp (bE e3) ?_;refine wp (bE hf) ?_;rw[P.done];exact br (FT (ag rfl) h2)
theorem MM{lists:List (List Int)}(hn:n<=1000)(hc:lists.length<=1000)(hr:row.length=n)(hl:∀l∈lists,l.length=n)(hs:cE b lists)(al:SzL c row)(hb:b+c+10<=60000000):∃O,fB [vII lists,vI row] []=.ok (vII (eV lists row),O):=by
 have am:∀l∈lists,bP [vI row,vI l] []=.ok (.int (aH row l),[]):=λl h=>zN ⋯ λp hp=>by have hp':=Re hp;exact gw (m:=c) (n:=b) ⋯ ⋯ (al _ hp'.1) (hs l h _ hp'.2)
 have e2:=dM (i:=2) (dg (l:=lists) (item:=vI) (out:=λl=>.int (aH row l)) (caps:=[1]) (im:=listI (aa 0)) (e:=aX 2 bP (af (aa 1) (af (aa 0) ao))) (k:=pi) (s:=#[[pc (vII lists),pc (vI row),pi,pi,pi,pi],[]]) (by simp) trivial ⋯ (λl h=>
  cC (ds:=[vI row,vI l]) (by simp) (by simp) rfl (am l h) (by simp)))
 rw[show lists.map (λl=>D.int (aH row l))=(lists.map (aH row)).map D.int by rw[wf];rfl] at e2;have e3:=dM (i:=3) (cC (n:=1) (f:=dw) (ma:=af (aa 2) ao) (s:=#[[pc (vII lists),pc (vI row),pc (vI (lists.map (aH row))),pi,pi,pi],[]]) (s':=#[[pc (vII lists),pc (vI row),pc (vI (lists.map (aH row))),pi,pi,pi],[]]) (ds:=[vI (lists.map (aH row))]) (by rw[aV,ag rfl];rfl) (kq _) rfl Jz (by cases dy (lists.map (aH row)) <;> simp[u9]))
 have J:jK #[[pc (vII lists),pc (vI row),pi,pi,pi,pi],[]]=(aK (ifS (a7 (ak isD (aa 3) (aq .non))) (bD (aa 0)) bC) (aK (setM 4 (ak ixD (aa 0) (aa 3))) (aK (setM 5 (ak ixD (aa 2) (aa 3))) (bD (bL 2 [4,5,3,2] (dQ (af (aa 0) ao)) (c7 (bc (aB 0) (bc (aB 1) c8)) 2) (a7 (ak neD (aa 0) (aa 4))) (aX 4 gF (af (aa 1) (af (ak ixD (aa 5) (aa 0)) (af (aa 2) (af (aa 3) ao))))))))))
  #[[pc (vII lists),pc (vI row),pc (vI (lists.map (aH row))),pc (u9 (dy (lists.map (aH row)))),pi,pi],[]]:=by
  rw[jK,bE e2];exact bE e3
 unfold eV;cases e:dy (lists.map (aH row)) with
 | none=>
  rw[e] at J;refine mr #[#[[pc (vII lists),pc (vI row),pc (vI (lists.map (aH row))),pc .non,pi,pi],[]], ?_];refine wp J (eK ?_);refine wp (o8 (s':=#[[pc (vII lists),pc (vI row),pc (vI (lists.map (aH row))),pc .non,pi,pi],[]]) (by simp[u9])) ?_;exact br (ag rfl)
 | some k=>
  rw[e] at J;obtain⟨k1,k2,_⟩:=gU e;rw[sB] at k1;have U:lists.getD k []∈lists:=getD_mem k1;have ap:nth (lists.map (aH row)) k=aH row (lists.getD k []):=by unfold nth;simp only[pr,wv,sK k1];rfl
  have e4:=dM (i:=4) (m:=ak ixD (aa 0) (aa 3)) (s:=#[[pc (vII lists),pc (vI row),pc (vI (lists.map (aH row))),pc (.int (k:Int)),pi,pi],[]]) (s':=#[[pc (vII lists),pc (vI row),pc (vI (lists.map (aH row))),pc (.int (k:Int)),pi,pi],[]]) (d:=vI (lists.getD k [])) (by rw[cK,ag rfl,aj,ag rfl,aj,IJ k1];rfl)
  have e5:=dM (i:=5) (m:=ak ixD (aa 2) (aa 3)) (s:=#[[pc (vII lists),pc (vI row),pc (vI (lists.map (aH row))),pc (.int (k:Int)),pc (vI (lists.getD k [])),pi],[]]) (s':=#[[pc (vII lists),pc (vI row),pc (vI (lists.map (aH row))),pc (.int (k:Int)),pc (vI (lists.getD k [])),pi],[]]) (d:=.int (aH row (lists.getD k []))) (by rw[cK,ag rfl,aj,ag rfl,aj,g9 (by simpa using k1),ap];rfl)
  generalize Y:lists.getD k []=base at *;have bl:=hl base U;have bs:=hs base U;have as:∀l∈lists,Sz (b+c+10) (aH row l):=λl h=>sG al (hs l h) (by rw[hr];exact hn);have ab:=Ay (l:=lists.zipIdx) (f:=λp=>.int (p.2:Int)) (g:=λp=>vI p.1) (p:=λp=> !decide (p.2=k)) (out:=λp=>vI (c9 p.1 (aH row p.1) base (aH row base))) (caps:=[4,5,3,2]) (im:=dQ (af (aa 0) ao)) (c:=a7 (ak neD (aa 0) (aa 4))) (e:=aX 4 gF (af (aa 1) (af (ak ixD (aa 5) (aa 0)) (af (aa 2) (af (aa 3) ao))))) (k:=pi) (s:=#[[pc (vII lists),pc (vI row),pc (vI (lists.map (aH row))),pc (.int (k:Int)),pc (vI base),pc (.int (aH row base))],[]]) (by simp[K1]) trivial (by simp;omega)
   (λp hp=>by have:((p.2:Int)=(k:Int))=(p.2=k):=propext #[λh=>⋯,λh=>⋯];simp[this])
   (λp hp _=>by
    obtain⟨i,l⟩:=(#[p.2,p.1]:Nat×List Int);have hm:=List.mem_zipIdx hp;have az:p.2<lists.length:=⋯;have a0:p.1=lists[p.2]:=by have:=hm.2.2;simpa using this
    have ac:p.1∈lists:=by rw[a0];exact AL _
    have hv:nth (lists.map (aH row)) p.2=aH row p.1:=by unfold nth;simp only[pr,wv,sK az,a0];rfl
    refine cC (ds:=[vI p.1,.int (aH row p.1),vI base,.int (aH row base)]) ?_ (by simp) rfl (BY (by rw[hl p.1 ac];omega) (λx hx=>gw (m:=b) (n:=b+c+10) ⋯ ⋯ (hs p.1 ac x hx) (as base U)) (λx hx=>gw (m:=b) (n:=b+c+10) ⋯ ⋯ (bs x hx) (as p.1 ac))) (by simp);have hx:ak ixD (aa 5) (aa 0) #[pc (.int (p.2:Int))::pc (vI p.1)::[4,5,3,2].map (λi=>(([pc (vII lists),pc (vI row),pc (vI (lists.map (aH row))),pc (.int (k:Int)),pc (vI base),pc (.int (aH row base))]:List (Option D))[i]?).getD pi),[]]=.ok (.int (aH row p.1),#[pc (.int (p.2:Int))::pc (vI p.1)::[4,5,3,2].map (λi=>(([pc (vII lists),pc (vI row),pc (vI (lists.map (aH row))),pc (.int (k:Int)),pc (vI base),pc (.int (aH row base))]:List (Option D))[i]?).getD pi),[]]):=by rw[cK,ag rfl,aj,ag rfl,aj,g9 (by simpa using az),hv];rfl
    rw[aV,ag rfl,aj,aV,hx,aj];rfl)
  refine mr #[#[[pc (vII lists),pc (vI row),pc (vI (lists.map (aH row))),pc (.int (k:Int)),pc (vI base),pc (.int (aH row base))],[]], ?_];refine wp J ?_;refine wp (bE (s':=#[[pc (vII lists),pc (vI row),pc (vI (lists.map (aH row))),pc (.int (k:Int)),pi,pi],[]]) (wp (ip (s':=#[[pc (vII lists),pc (vI row),pc (vI (lists.map (aH row))),pc (.int (k:Int)),pi,pi],[]]) (by simp[u9])) rfl)) ?_;refine wp (bE e4) ?_;refine wp (bE e5) ?_;refine wp (br ab) ?_;dsimp only;rw[Y,Dp lists k (λl=>vI (c9 l (aH row l) base (aH row base)))];show Out.ret (.lst _) _=Out.ret (.lst ((List.map _ _).map vI)) _;rw[wf];rfl
theorem B5(hn:n<=1000)(hc:rows.length<=1000)(hl:∀r∈rows,r.length=n)(hs:cE c rows)(hb:jd c n<=60000000):∃O,jr [vII rows,.int (n:Int)] []=.ok (vII (bh rows n),O):=by
 have e2:=dM (i:=2) (cC (n:=1) (f:=ng) (ma:=af (aa 1) ao) (s:=#[[pc (vII rows),pc (.int (n:Int)),pi,pi],[]]) (s':=#[[pc (vII rows),pc (.int (n:Int)),pi,pi],[]]) (ds:=[.int (n:Int)]) (by rw[aV,ag rfl];rfl) (by simp) rfl (Ja ⋯) (by simp));obtain⟨s',e,R,lists,e0,U,Y,as,P,h1⟩:=dh (ok:=okC (rows.map vI) pi) (g:=aB 3) (body:=qS)
  (λpre s=>∃(R lists:List (List Int)) (e:Nat) (U:Option D),pre=R.map vI/\(∀r∈R,r∈rows)/\qk n c R lists e/\s=#[[pc (vII rows),pc (.int (n:Int)),pc (vII lists),U],[]]) (λ_ _ _=>trivial) (rows.map vI) [] (by
   rintro pre d rest ed s ⟨R,lists,e,U,rfl,Y,P,rfl⟩;have hd:d∈rows.map vI:=by rw[wT] at ed;rw[ed];simp
   obtain⟨row,J,rfl⟩:=ss.mp hd;have ab:=P.cnt;have hz:=OZ (c:=c) (e:=e) (n:=n) ⋯;obtain⟨O,eo⟩:=MM (b:=tk c e) (c:=c) hn ⋯ (hl row J) P.ll P.sz (hs row J) ⋯;obtain⟨e',P'⟩:=P.step (hl row J) (hs row J) hn;refine#[_,#[[pc (vII rows),pc (.int (n:Int)),pc (vII (eV lists row)),pc (vI row)],[]],rfl,.inl ?_,R++[row],_,e',pc (vI row),by simp, ?_,P',rfl];rw[qS];exact dM (i:=2) (cC (n:=2) (f:=fB) (ma:=af (aa 2) (af (aa 3) ao)) (s:=#[[pc (vII rows),pc (.int (n:Int)),pc (vII lists),pc (vI row)],[]]) (s':=#[[pc (vII rows),pc (.int (n:Int)),pc (vII lists),pc (vI row)],[]]) (ds:=[vII lists,vI row]) (by rw[aV,ag rfl,aj,aV,ag rfl];rfl) (by simp) rfl eo (by simp));intro r hr;rcases wE.mp hr with q | q
   exact Y r q;rw[wn.mp q];exact J) #[[pc (vII rows),pc (.int (n:Int)),pc (vII (cT n)),pi],[]] #[[],cT n,0,pi,rfl,by simp,qk.start n c,rfl]
 rw[wT] at Y;have al:R=rows:=(RW (λa b h=>NR h)).mp Y.symm;subst al;have am:lists=mz R n:=P.eq.symm;have ab:=P.cnt;obtain⟨O,eo⟩:=Iy (n:=n) (b:=tk c e0) (rows:=lists) hn ⋯ P.ll P.sz (by refine IN ?_ hb;rw[show lists.length=n-e0 by omega];exact Gn ⋯)
 have hf:=cY (im:=listI (aa 0)) (g:=aB 3) (body:=qS) (s:=#[[pc (vII R),pc (.int (n:Int)),pc (vII (cT n)),pi],[]]) (ds:=R.map vI) (k:=pi) (s1:=#[[pc (vII R),pc (.int (n:Int)),pc (vII (cT n)),pi],[]]) (by simp);rw[e,h1] at hf;refine mr #[#[[pc (vII R),pc (.int (n:Int)),pc (vII lists),U],[]], ?_];show AY #[[pc (vII R),pc (.int (n:Int)),pi,pi],[]]=_;rw[AY,bE e2];refine wp (bE hf) ?_;rw[bh,<- am];exact br (cC (ds:=[vII lists,.int (n:Int)]) (by rw[aV,ag rfl,aj,aV,ag rfl];rfl) (by simp) rfl eo (by simp))
def LJ:Option (Int×List Int)->D
 | none=>.non
 | some x=>.tup [.int x.1,vI x.2]
theorem JO{goal:List Int}(hg:goal.length=n)(hn:n<=1000)(hc:rows.length<=900)(hl:∀r∈rows,r.length=n)(hs:cE c rows)(ap:SzL c goal)(hb:jd c (1+rows.length)<=60000000):∃O,oj [vII rows,vI goal] []=.ok (LJ (kE rows goal),O):=by
 have U:∀O,cq O (.lst [vI goal]) (vII rows)=.ok (vII (goal::rows)):=λO=>by rw[pN (by simp;omega)];rfl
 have e2:=dM (i:=2) (dg (l:=uM n) (item:=λ(i:Nat)=>D.int (i:Int)) (out:=λa=>vI ((goal::rows).map (nth · a))) (caps:=[1,0]) (im:=fb (af (bJ cx (af (aa 1) ao)) ao)) (e:=bN 2 jc (af (ak cq (kK (af (aa 1) ao)) (aa 2)) (af (aa 0) ao))) (k:=pi) (s:=#[[pc (vII rows),pc (vI goal),pi,pi],[]]) (by
  rw[fL (n:=n) (s1:=#[[pc (vII rows),pc (vI goal),pi,pi],[]]) (by simp[hg]) ⋯,ib]) trivial (kD (by rw[R8];omega)) (λa ha=>by
  have ha':=AC.mp ha;refine jT (n:=2) (ds:=[vII (goal::rows),.int (a:Int)]) (s':=#[pc (.int (a:Int))::[1,0].map (λi=>(([pc (vII rows),pc (vI goal),pi,pi]:List (Option D))[i]?).getD pi),[]]) ?_ rfl (Bp (k:=pi) rfl trivial (by simp;omega) (λr hr=>by rcases u8.mp hr with rfl | q;omega;rw[hl r q];exact ha'))
  rw[aV,cK,FV,aV,ag (i:=1) rfl,aj,aG,aj,aj,if_pos (by simp),aj];dsimp only;rw[ag (i:=2) rfl,aj];dsimp only;rw[U,aj];rfl))
 have Y:(uM n).map (λa=>vI ((goal::rows).map (nth · a)))=(bI rows goal).map vI:=by unfold bI;rw[hg,wf];rfl
 rw[Y] at e2;have ab:cE c (bI rows goal):=by
  intro r hr x hx;unfold bI at hr;obtain⟨a,_,rfl⟩:=ss.mp hr;obtain⟨q,hq,rfl⟩:=ss.mp hx;rcases u8.mp hq with rfl | hq
  exact ap.nth a;exact(hs q hq).nth a
 have as:(bI rows goal).length<=1000:=by unfold bI;simp;omega
 obtain⟨O3,e3⟩:=B5 (n:=1+rows.length) (c:=c) (rows:=bI rows goal) ⋯ as iw ab hb;have e3:=dM (i:=3) (cC (n:=2) (f:=jr) (ma:=af (aa 2) (af (ak cq (aq (.int 1)) (bJ cx (af (aa 0) ao))) ao)) (s:=#[[pc (vII rows),pc (vI goal),pc (vII (bI rows goal)),pi],[]]) (s':=#[[pc (vII rows),pc (vI goal),pc (vII (bI rows goal)),pi],[]]) (ds:=[vII (bI rows goal),.int ((1+rows.length:Nat):Int)]) (by rw[show ((1+rows.length:Nat):Int)=1+(rows.length:Int) by omega];simp) (by simp) rfl e3 (by simp))
 obtain⟨P,eP,pl,_⟩:=iH (n:=1+rows.length) (rows:=bI rows goal) iw;have az:=iz (n:=1+rows.length) (R:=bI rows goal) iw;have a1:=qW (n:=1+rows.length) ⋯ iw ab;unfold kE;generalize bh (bI rows goal) (1+rows.length)=F at *;have J:uQ #[[pc (vII rows),pc (vI goal),pi,pi],[]]=(aK (ifS (orT (jH (vD (aa 3))) (a7 (ak eqD (ak ixD (ak ixD (aa 3) (aq (.int 0))) (aq (.int 0))) (aq (.int 0))))) (bD (aq .non)) bC) (bD (jE (af (ak ixD (ak ixD (aa 3) (aq (.int 0))) (aq (.int 0))) (af (bL 1 [] (listI (slM (ak ixD (aa 3) (aq (.int 0))) (part (aq (.int 1))) d6)) (aB 0) bM (unM jb (aa 0))) ao))))) #[[pc (vII rows),pc (vI goal),pc (vII (bI rows goal)),pc (vII F)],[]]:=by rw[uQ,bE e2];exact bE e3
 cases F with
 | nil=>
  refine mr #[#[[pc (vII rows),pc (vI goal),pc (vII (bI rows goal)),pc (vII [])],[]], ?_];refine wp J (eK (wp (o8 (s':=#[[pc (vII rows),pc (vI goal),pc (vII (bI rows goal)),pc (vII [])],[]]) ?_) rfl));rw[sm,sR,FC,ag (i:=3) rfl,aj];rfl
 | cons x F=>
  have xl:x.length=1+rows.length:=az x uC;have i0:ak ixD (aa 3) (aq (.int 0)) #[[pc (vII rows),pc (vI goal),pc (vII (bI rows goal)),pc (vII (x::F))],[]]=.ok (vI x,#[[pc (vII rows),pc (vI goal),pc (vII (bI rows goal)),pc (vII (x::F))],[]]):=by rw[cK,ag (i:=3) rfl,aj,aF,aj];dsimp only;rw[show vII (x::F)=D.lst (vI x::F.map vI) from rfl,Qv];rfl
  have ac:ak ixD (ak ixD (aa 3) (aq (.int 0))) (aq (.int 0)) #[[pc (vII rows),pc (vI goal),pc (vII (bI rows goal)),pc (vII (x::F))],[]]=.ok (.int (nth x 0),#[[pc (vII rows),pc (vI goal),pc (vII (bI rows goal)),pc (vII (x::F))],[]]):=by rw[cK,i0,aj,aF,aj];dsimp only;rw[show (D.int 0)=D.int ((0:Nat):Int) from rfl,g9 ⋯];rfl
  have al:orT (jH (vD (aa 3))) (a7 (ak eqD (ak ixD (ak ixD (aa 3) (aq (.int 0))) (aq (.int 0))) (aq (.int 0)))) #[[pc (vII rows),pc (vI goal),pc (vII (bI rows goal)),pc (vII (x::F))],[]]=.ok (decide (nth x 0=0),#[[pc (vII rows),pc (vI goal),pc (vII (bI rows goal)),pc (vII (x::F))],[]]):=by rw[sm,sR,FC,ag (i:=3) rfl,aj];exact eq_test ac
  by_cases hz:nth x 0=0;refine mr #[#[[pc (vII rows),pc (vI goal),pc (vII (bI rows goal)),pc (vII (x::F))],[]], ?_];refine wp J (eK (wp (o8 (s':=#[[pc (vII rows),pc (vI goal),pc (vII (bI rows goal)),pc (vII (x::F))],[]]) ?_) ?_));rw[al,decide_eq_true hz];dsimp only;rw[if_pos hz];rfl;have am:cutD (x.map D.int) (pc 1) pi=(x.drop 1).map D.int:=IG (n:=1) ⋯;have an:=dg (l:=x.drop 1) (item:=D.int) (out:=λy=>.int (-y)) (caps:=[]) (im:=listI (slM (ak ixD (aa 3) (aq (.int 0))) (part (aq (.int 1))) d6)) (e:=unM jb (aa 0)) (k:=pi) (s:=#[[pc (vII rows),pc (vI goal),pc (vII (bI rows goal)),pc (vII (x::F))],[]]) (by rw[b9,DN,i0,aj,AR,aF,aj];dsimp only;rw[aj,Bv,aj];dsimp only;rw[ia];dsimp only;rw[am,aj];rfl) trivial (by rw[S4];omega) (λy _=>by simp)
  rw[show (x.drop 1).map (λy=>D.int (-y))=((x.drop 1).map (- ·)).map D.int by rw[wf];rfl] at an;refine mr #[#[[pc (vII rows),pc (vI goal),pc (vII (bI rows goal)),pc (vII (x::F))],[]], ?_];refine wp J ?_;refine wp (bE (s':=#[[pc (vII rows),pc (vI goal),pc (vII (bI rows goal)),pc (vII (x::F))],[]]) (wp (ip (s':=#[[pc (vII rows),pc (vI goal),pc (vII (bI rows goal)),pc (vII (x::F))],[]]) (by rw[al,decide_eq_false hz])) rfl)) ?_;dsimp only;rw[if_neg hz];refine br ?_;rw[AE,aV,ac,aj,aV,an,aj,aG,aj,aj,aj];rfl
theorem Qg(h:R[i]? =pc (pc (yD goods ws)))(hd:rg f FN (yDs goods ws)=pc d):oC 0 f (aa i) #[R,O]=.ok (d,#[R,O]):=OW (ag h) hd
theorem Mu:aR [yD goods ws]=true:=by show (aR (yDs goods ws)&&qc)=qc;rw[gK];rfl
theorem sN(h:aR ds=qc):aR (yD goods ws::ds)=true:=by show (aR (yDs goods ws)&&aR ds)=qc;rw[gK,h];rfl
theorem vO(goods:List Str)(h:ws.length<=1000):eZ [yD goods ws] []=.ok (sD (ws.map (·.nm)),[]):=by refine de (R:=[pc (yD goods ws)]) ?_;show fo #[[pc (yD goods ws)],[]]=_;rw[fo];have e:=dg (l:=ws) (item:=wD) (out:=λw=>.str w.nm) (caps:=[]) (im:=listI (oC 0 "held_works" (aa 0))) (e:=ak ixD (aa 0) (aq (.int 0))) (k:=pi) (s:=#[[pc (yD goods ws)],[]]) (by rw[b9,Qg (i:=0) rfl rfl,aj];rfl) trivial ⋯ (λw _=>aO (ag rfl) (aF _) rfl);rw[show ws.map (λw=>D.str w.nm)=(ws.map (·.nm)).map D.str by rw[wf];rfl] at e;exact br e
abbrev chL(goods:List Str)(ws:List Wk):List (List Int):=ws.map λw=>goods.map (chg w)
theorem Ec(h:R[i]? =pc (pc (yD goods ws)))(hd:rg f FN (yDs goods ws)=pc d):oC 0 f (aa i) #[R,O]=.ok (d,#[R,O]):=by rw[Gv,ag h,aj];dsimp only;rw[if_pos rfl,hd]
def lO(goods:List Str)(ws:List Wk)(k:Nat):List Int:=ws.map λw=>nth (goods.map (chg w)) k
theorem OC(hk:k<goods.length)(h2:ws.length<=1000):mS [yD goods ws,.int (k:Int)] []=.ok (vI (lO goods ws k),[]):=by
 have hc:=dg (l:=ws.map λw=>goods.map (chg w)) (item:=vI) (out:=λr=>.int (nth r k)) (caps:=[1]) (im:=listI (oC 0 "held_changes" (aa 0))) (e:=ak ixD (aa 0) (aa 1)) (k:=pi) (s:=#[[pc (yD goods ws),pc (.int (k:Int))],[]]) (by
  rw[b9,Ec (d:=vII (ws.map λw=>goods.map (chg w))) rfl (by rfl)];rfl) trivial (by rw[sB];omega) (λr hr=>by
  obtain⟨w,_,rfl⟩:=ss.mp hr;rw[cK,ag (i:=0) rfl,aj,ag (i:=1) rfl,aj];dsimp only;rw[g9 (by rw[sB];exact hk)];rfl)
 rw[show (ws.map λw=>goods.map (chg w)).map (λr=>D.int (nth r k))=(lO goods ws k).map D.int by unfold lO;rw[wf,wf];rfl] at hc;refine cv (s:=#[[pc (yD goods ws),pc (.int (k:Int))],[]]) ?_;show mG #[[pc (yD goods ws),pc (.int (k:Int))],[]]=_;rw[mG];exact br hc
def cF(goods:List Str)(ws:List Wk):List (List Int):=(uM goods.length).map (lO goods ws)
theorem A3(h1:goods.length<=1000)(h2:ws.length<=1000):eG [yD goods ws] []=.ok (vII (cF goods ws),[]):=by
 have hc:=dg (l:=uM goods.length) (item:=λ(i:Nat)=>D.int (i:Int)) (out:=λk=>vI (lO goods ws k)) (caps:=[0]) (im:=fb (af (bJ cx (af (oC 0 "held_goods" (aa 0)) ao)) ao)) (e:=methP 0 "row" 1 mS (aa 1) (af (aa 0) ao)) (k:=pi) (s:=#[[pc (yD goods ws)],[]]) (by
  rw[fL (n:=goods.length) (s1:=#[[pc (yD goods ws)],[]]) (by rw[aV,gI,aV,Ec (d:=sD goods) rfl (by rfl),aj,aG,aj,aj];dsimp only;rw[fg,sB];rfl) ⋯,ib]) trivial (kD (by rw[R8];omega)) (λk hk=>
  tH (ns:=FN) (ds:=yDs goods ws) (args:=[.int (k:Int)]) (ag rfl) ∅ gK (by rw[aV,ag (i:=0) rfl];rfl) (by simp) rfl (OC (AC.mp hk) h2) (by generalize lO goods ws k=r;simp))
 rw[show (uM goods.length).map (λk=>vI (lO goods ws k))=(cF goods ws).map vI by unfold cF;rw[wf];rfl] at hc;refine cv (s:=#[[pc (yD goods ws)],[]]) ?_;show fQ #[[pc (yD goods ws)],[]]=_;rw[fQ];exact br hc
theorem Ou(J:way.length=ws.length)(h2:ws.length<=1000)(h0:∀t∈way,0<=t):gT [yD goods ws,vI way] []=.ok (.non,[]):=by
 refine kv (s:=#[[pc (yD goods ws),pc (vI way)],[]]) ?_;show gO #[[pc (yD goods ws),pc (vI way)],[]]=_;rw[gO];have hc:=dg (l:=way) (item:=D.int) (out:=λt=>.bl (decide (t<0))) (caps:=[]) (im:=listI (aa 1)) (e:=ak ltD (aa 0) (aq (.int 0))) (k:=pi) (s:=#[[pc (yD goods ws),pc (vI way)],[]]) (by rw[b9,ag (i:=1) rfl];rfl) trivial ⋯ (λt _=>by rw[cK,ag (i:=0) rfl,aj,aF,aj];rfl)
 rw[show way.map (λt=>D.bl (decide (t<0)))=(way.map λt=>decide (t<0)).map D.bl by rw[wf];rfl] at hc;refine wp (bE (wp (ip (s':=#[[pc (yD goods ws),pc (vI way)],[]]) ?_) rfl)) (wp (ip (s':=#[[pc (yD goods ws),pc (vI way)],[]]) ?_) rfl);rw[gJ,cK,gI,aV,ag (i:=1) rfl,aj,aG,aj,aj];dsimp only;rw[fg,aj,aj,gI,aV,Ec (d:=wsD ws) rfl (by rfl),aj,aG,aj,aj];dsimp only;rw[fg,aj,aj];dsimp only;rw[sB,sB,MI,J,decide_eq_true rfl];rfl;rw[gJ,gI,aV,hc,aj,aG,aj,aj];dsimp only;rw[Kj,show (way.map λt=>decide (t<0)).any id=wh by rw[Uy,Ug];intro t U;simp[h0 t U]]
 rfl
def lvL(goods:List Str)(ws:List Wk)(way:List Int):List Int:=(cF goods ws).map λr=>aH r way
structure KP(goods:List Str)(ws:List Wk)(way:List Int):Prop where
 ok:∀w∈ws,∀g∈goods,∀t∈way,RG (chg w g) t
theorem Au(hk:k<goods.length){x:Int}(h:x∈lO goods ws k):∃w∈ws,∃g∈goods,x=chg w g:=by unfold lO at h;obtain⟨w,J,rfl⟩:=ss.mp h;have hm:=pA (r:=goods.map (chg w)) (i:=k) (by rw[sB];exact hk);obtain⟨g,U,e⟩:=ss.mp hm;exact#[w,J,g,U,e.symm]
theorem Hr(U:way.length=ws.length)(h1:goods.length<=1000)(h2:ws.length<=1000)(h0:∀t∈way,0<=t)(hm:KP goods ws way):ie [yD goods ws,vI way] []=.ok (vI (lvL goods ws way),[]):=by
 have pv:aR [vI way]=true:=kq way;have e1:=dB (tH (c:=0) (m:="check_way") (n:=1) (f:=gT) (mo:=aa 0) (ma:=af (aa 1) ao) (s:=#[[pc (yD goods ws),pc (vI way)],[]]) (s1:=#[[pc (yD goods ws),pc (vI way)],[]]) (s2:=#[[pc (yD goods ws),pc (vI way)],[]]) (ns:=FN) (ds:=yDs goods ws) (args:=[vI way]) (ag rfl) ∅ gK (by rw[aV,ag (i:=1) rfl];rfl) pv rfl (Ou U h2 h0) (by simp));have hr:=tH (c:=0) (m:="rows") (n:=0) (f:=eG) (mo:=aa 0) (ma:=ao) (s:=#[[pc (yD goods ws),pc (vI way)],[]]) (s1:=#[[pc (yD goods ws),pc (vI way)],[]]) (s2:=#[[pc (yD goods ws),pc (vI way)],[]]) (ns:=FN) (ds:=yDs goods ws) (args:=[]) (ag rfl) ∅ gK rfl rfl rfl (A3 h1 h2) (by generalize cF goods ws=r;simp);have hc:=dg (l:=cF goods ws) (item:=vI) (out:=λr=>.int (aH r way)) (caps:=[1]) (im:=listI (methP 0 "rows" 0 eG (aa 0) ao)) (e:=aX 2 bP (af (aa 0) (af (aa 1) ao))) (k:=pi) (s:=#[[pc (yD goods ws),pc (vI way)],[]]) (by rw[b9,hr];rfl) trivial (by unfold cF;rw[sB,R8];omega) (λr J=>by unfold cF at J;obtain⟨k,hk,rfl⟩:=ss.mp J;refine cC (ds:=[vI (lO goods ws k),vI way]) (by rw[aV,ag (i:=0) rfl,aj,aV,ag (i:=1) rfl];rfl) (by generalize lO goods ws k=r;simp) rfl (zN (by unfold lO;rw[sB];omega) λp hp=> ?_) (by simp);have hp':=Re hp;obtain⟨w,Y,g,hg,e⟩:=Au (AC.mp hk) hp'.1;rw[e];exact hm.ok w Y g hg p.2 hp'.2)
 rw[show (cF goods ws).map (λr=>D.int (aH r way))=(lvL goods ws way).map D.int by unfold lvL;rw[wf];rfl] at hc;refine cv (s:=#[[pc (yD goods ws),pc (vI way)],[]]) ?_;show jo #[[pc (yD goods ws),pc (vI way)],[]]=_;rw[jo,bE e1];exact br hc
theorem kr{V:List (List Int)}:(qL V).Perm V:=by unfold qL;have:=(ix (V.map λx=>((),x))).map (·.2);rw[wf,show ((λx:Unit×List Int=>x.2)∘λx=>((),x))=id from rfl,List.map_id] at this;exact this
theorem Jt{m:AM}{x y:D}{as bs:List D}(h:m s=.ok ([x,y],s1))(h1:lsD s1.o x=pc as)(h2:lsD s1.o y=pc bs):ya m s=.ok ((gg as bs,λO=>lsD O x=pc as/\lsD O y=pc bs),s1):=by unfold ya;rw[h,aj];dsimp only;rw[h1,h2]
theorem Gj {α:Type} {l:List α} {f g out:α->D} {caps:List Nat} {im:IX} {e:EM} {ok:aC->Prop} (J:im s=.ok ((l.map (λa=>D.tup [f a,g a]),ok),s)) (U:ok s.o) (Y:l.length<=16777216)
 (he:∀a∈l,e #[pc (f a)::pc (g a)::caps.map (λi=>(s.r[i]?).getD pi),s.o]=.ok (out a,#[pc (f a)::pc (g a)::caps.map (λi=>(s.r[i]?).getD pi),s.o])):
 sf 2 caps im (c7 (bc (aB 0) (bc (aB 1) c8)) 2) bM e s=.ok (.lst (l.map out),s):=by
 obtain⟨s',e1,x,y,h1⟩:=rq (ok:=ok) (g:=c7 (bc (aB 0) (bc (aB 1) c8)) 2) (c:=bM) (e:=e) (O:=s.o) U (λa=>D.tup [f a,g a]) (λs2=>∃x y,s2=#[x::y::caps.map (λi=>(s.r[i]?).getD pi),s.o]) (by rintro _ ⟨_,_,rfl⟩;rfl) l (λ_=>qc) out (by rintro a ha _ ⟨x,y,rfl⟩;exact#[_,_,by simp,rfl,λ_=>#[_,_,rfl],λ_=>#[_,he a ha,_,_,rfl]]) [] #[mE 2 caps s.r,s.o] (by simpa using Y) #[pi,pi,rfl]
 unfold sf zt;rw[J,aj];dsimp only;rw[e1,aj,aj];subst h1;rw[n6];rfl
theorem fM(h:O[k]? =pc (.lst (y.map D.int)))(hi:i<y.length):ixD O (.ptr k) (.int (i:Int))=.ok (.int (nth y i)):=by refine pV h ?_;rw[gZ (by simpa using hi)];simp[nth,pr,hi]
theorem yB:∀r∈cF goods ws,r.length=ws.length:=λr hr=>by unfold cF at hr;obtain⟨k,_,rfl⟩:=ss.mp hr;unfold lO;simp
theorem EY(g4:goods.length<=5)(w6:ws.length<=7)(hs:cE 90 (chL goods ws)):uU ws.length (cF goods ws):=#[yB,λr hr x hx=>by unfold cF at hr;obtain⟨k,hk,rfl⟩:=ss.mp hr;obtain⟨w,J,g,U,rfl⟩:=Au (AC.mp hk) hx;exact(hs (goods.map (chg w)) (ss.mpr #[w,J,rfl]) _ (G0 U)).mono ∅,by unfold cF;simp;omega,w6]
def fwQ(Q:List (Nat×List Int))(a:Nat):Option (Nat×List Int):=Q.find? λp=>decide (0<nth p.2 a)
def fwD:Option (Nat×List Int)->D
 | none=>.non
 | some p=>.ptr p.1
theorem Dj{O:aC}{a:Nat}{L:D}(K:List D):∀(rest:List (Nat×List Int)) (J:Option D),Sto O rest->(∀p∈rest,a<p.2.length)->
 (fwQ rest a=pi->∃U,bT (okC K pi) (aB 2) cZ (bj rest) #[[pc L,pc (.int (a:Int)),J],O]=.next #[[pc L,pc (.int (a:Int)),U],O])/\
 ∀p,fwQ rest a=pc p->∃U,bT (okC K pi) (aB 2) cZ (bj rest) #[[pc L,pc (.int (a:Int)),J],O]=.ret (.ptr p.1) #[[pc L,pc (.int (a:Int)),U],O]
 | [],J,_,_=>#[λ_=>#[J,by show bT _ _ _ [] _=_;rw[bT,if_pos (show okC K pi _ from trivial)]],λp h=>by cases h]
 | q::rest,J,sQ,hl=>by
  obtain⟨i1,i2⟩:=Dj (L:=L) K rest (pc (.ptr q.1)) (λp hp=>sQ p (tz _ hp)) λp hp=>hl p (tz _ hp);have t:a7 (ak gtD (ak ixD (aa 2) (aa 1)) (aq (.int 0))) #[[pc L,pc (.int (a:Int)),pc (.ptr q.1)],O]=.ok (decide (0<nth q.2 a),#[[pc L,pc (.int (a:Int)),pc (.ptr q.1)],O]):=gM (aO (ag rfl) (ag rfl) (fM (sQ q uC) (hl q uC)));have st:bT (okC K pi) (aB 2) cZ (bj (q::rest)) #[[pc L,pc (.int (a:Int)),J],O]=(match cZ #[[pc L,pc (.int (a:Int)),pc (.ptr q.1)],O] with
   | .next s=>bT (okC K pi) (aB 2) cZ (bj rest) s
   | .cnt s=>bT (okC K pi) (aB 2) cZ (bj rest) s
   | .brk s=>.next s
   | o=>o):=by
   show bT _ _ _ (.ptr q.1::bj rest) _=_;rw[bT,if_pos (show okC K pi _ from trivial)];rfl
  by_cases h:0<nth q.2 a;have e:fwQ (q::rest) a=pc q:=by unfold fwQ;rw[Tz,decide_eq_true h]
  have Y:cZ #[[pc L,pc (.int (a:Int)),pc (.ptr q.1)],O]=.ret (.ptr q.1) #[[pc L,pc (.int (a:Int)),pc (.ptr q.1)],O]:=by rw[cZ];exact eW t (decide_eq_true h) (br (ag rfl))
  rw[e,st,Y];exact#[λz=>(by cases z),λp z=>by cases z;exact#[_,rfl]];have e:fwQ (q::rest) a=fwQ rest a:=by unfold fwQ;rw[Tz,decide_eq_false h]
  have Y:cZ #[[pc L,pc (.int (a:Int)),pc (.ptr q.1)],O]=.next #[[pc L,pc (.int (a:Int)),pc (.ptr q.1)],O]:=by rw[cZ];exact dX t (decide_eq_false h) cD
  rw[e,st,Y];exact#[i1,i2]
theorem Ke{O:aC}{a:Nat}{Q:List (Nat×List Int)}(Y:Sto O Q)(hl:∀p∈Q,a<p.2.length):ka [.lst (bj Q),.int (a:Int)] O=.ok (fwD (fwQ Q a),O):=by
 have U:=cY (im:=listI (aa 0)) (g:=aB 2) (body:=cZ) (s:=#[[pc (.lst (bj Q)),pc (.int (a:Int)),pi],O]) (ds:=bj Q) (k:=pi) (s1:=#[[pc (.lst (bj Q)),pc (.int (a:Int)),pi],O]) (by rw[b9,ag (i:=0) rfl,aj];rfl);obtain⟨i1,i2⟩:=Dj (L:=.lst (bj Q)) (bj Q) Q pi Y hl;cases e:fwQ Q a with
 | none=>
  obtain⟨J,e1⟩:=i1 e;refine de (R:=[pc (.lst (bj Q)),pc (.int (a:Int)),J]) ?_;show j7 #[[pc (.lst (bj Q)),pc (.int (a:Int)),pi],O]=_;rw[j7];exact aU (U.trans e1) (br (aF _))
 | some p=>
  obtain⟨J,e1⟩:=i2 p e;refine de (R:=[pc (.lst (bj Q)),pc (.int (a:Int)),J]) ?_;show j7 #[[pc (.lst (bj Q)),pc (.int (a:Int)),pi],O]=_;rw[j7];exact eK (U.trans e1)
theorem F7{R:List (List Int)}{goal:List Int}{b:Int}{ts:List Int}(Y:goal.length=n)(hc:R.length<=900)(hs:cE c R)(J:SzL c goal)(e:kE R goal=pc (b,ts)):Sz (jd c (1+R.length)) b:=by
 have U:cE c (bI R goal):=by
  intro r hr x hx;unfold bI at hr;obtain⟨a,_,rfl⟩:=ss.mp hr;obtain⟨q,hq,rfl⟩:=ss.mp hx;rcases u8.mp hq with rfl | hq
  exact J.nth a;exact(hs q hq).nth a
 have z:=qW (n:=1+R.length) ⋯ iw U;unfold kE at e;split at e;cases e;rename_i s rest es;split at e;cases e;cases e;exact(z s (by rw[es];exact uC)).nth 0
theorem sg6(h:n<=6):jd 90 n<=6528:=by unfold jd;have:2^n<=2^6:=RC ∅ h;omega
theorem sg5(h:n<=4):jd 1010000 (1+n)<=60000000:=by unfold jd;have:2^(1+n)<=2^5:=RC ∅ ⋯;omega
theorem lg6:qC 15000 6 1<=1000000:=∅
theorem Lp(goods:List Str)(ws:List Wk):(cF goods ws).length=goods.length:=by unfold cF;simp
theorem Nw(hs:cE 90 (chL goods ws)):cE 90 (cF goods ws):=λr hr x hx=>by unfold cF at hr;obtain⟨k,hk,rfl⟩:=ss.mp hr;obtain⟨w,J,g,U,rfl⟩:=Au (AC.mp hk) hx;exact hs (goods.map (chg w)) (ss.mpr #[w,J,rfl]) _ (G0 U)
abbrev wbR(goods:List Str)(ws:List Wk)(dem:List Int)(R:List (List Int))(n:Nat)(x4 x5 x6 x7:Option D):List (Option D):=[pc (yD goods ws),pc (vI dem),pc (vII R),pc (.int (n:Int)),x4,x5,x6,x7]
theorem BK{dem:List Int}(g4:goods.length<=4)(w6:ws.length<=6)(hs:cE 90 (chL goods ws))(hd:dem.length=ws.length)(hz:SzL 8000 dem)(hF:∀y,Fit ws.length (cF goods ws) y->a6 ws.length (nth dem) (nth y)<=0):
 ∃t W O,f7 [yD goods ws,vI dem] []=.ok (.tup [.int t,vI W],O)/\0<t/\W.length=goods.length/\∀i,i<ws.length->t*nth dem i<=dC W (cF goods ws) i:=by
 have Y:=yB (goods:=goods) (ws:=ws);have Rc:=Lp goods ws;have Rz:=Nw hs;have e2:setM 2 (methP 0 "rows" 0 eG (aa 0) ao) #[[pc (yD goods ws),pc (vI dem),pi,pi,pi,pi,pi,pi],[]]=.next #[[pc (yD goods ws),pc (vI dem),pc (vII (cF goods ws)),pi,pi,pi,pi,pi],[]]:=bq (nq (ns:=FN) (ds:=yDs goods ws) (args:=[]) (ag rfl) aG (A3 ⋯ ⋯) ∅ gK rfl rfl (by rw[oo,i5])) rfl
 generalize cF goods ws=R at *;generalize hn:ws.length=n at *;have e3:setM 3 (bJ cx (af (aa 1) ao)) #[[pc (yD goods ws),pc (vI dem),pc (vII R),pi,pi,pi,pi,pi],[]]=.next #[wbR goods ws dem R n pi pi pi pi,[]]:=bq (hE (aA (ag rfl) aG) (by rw[fg,sB,hd])) rfl
 have s6:=sg6 w6;obtain⟨Os,es⟩:=B5 (n:=n) (c:=90) (rows:=R) ⋯ ⋯ Y Rz ⋯;have Sl:=iz Y;have ac:cE 6528 (bh R n):=(qW (n:=n) ⋯ Y Rz).mono s6;have Sc:(bh R n).length<=6:=by have:=count Y;omega
 have az:aX 2 jr (af (aa 2) (af (aa 3) ao)) #[wbR goods ws dem R n pi pi pi pi,[]]=.ok (vII (bh R n),#[wbR goods ws dem R n pi pi pi pi,[]]):=dJ (aA (ag rfl) (aA (ag rfl) aG)) es (CP rfl) rfl (by rw[oo,i5]);have ew:=dg (l:=bh R n) (item:=vI) (out:=λs=>vI (s++[aH s dem])) (caps:=[1]) (im:=listI (aX 2 jr (af (aa 2) (af (aa 3) ao)))) (e:=ak cq (aa 0) (kK (af (aX 2 bP (af (aa 0) (af (aa 1) ao))) ao))) (k:=pi) (s:=#[wbR goods ws dem R n pi pi pi pi,[]]) (by
  rw[b9,az,aj];rfl) trivial ⋯ (λs J=>by have sl:=Sl s J;refine aO (ag rfl) (yJ (aA (dJ (aA (ag rfl) (aA (ag rfl) aG)) (zN (a:=s) (b:=dem) ⋯ λp hp=>gw (m:=6528) (n:=8000) ∅ ∅ (ac s J _ (Re (a:=p.1) (b:=p.2) hp).1) (hz _ (Re (a:=p.1) (b:=p.2) hp).2)) (by simp) rfl rfl) aG) (by simp)) ?_;rw[pN (by simp;omega)];show Res.ok (D.lst (s.map D.int++[D.int (aH s dem)]))=Res.ok (D.lst ((s++[aH s dem]).map D.int));rw[KE];rfl)
 rw[show (bh R n).map (λs=>vI (s++[aH s dem]))=(d5 R n dem).map vI by unfold d5;rw[wf];rfl] at ew;have e4:setM 4 (bL 1 [1] (listI (aX 2 jr (af (aa 2) (af (aa 3) ao)))) (aB 0) bM (ak cq (aa 0) (kK (af (aX 2 bP (af (aa 0) (af (aa 1) ao))) ao)))) #[wbR goods ws dem R n pi pi pi pi,[]]=.next #[wbR goods ws dem R n (pc (vII (d5 R n dem))) pi pi pi,[]]:=bq ew rfl
 have wl:=Hs (dem:=dem) Y;have wc:(d5 R n dem).length<=6:=by unfold d5;rw[sB];exact Sc
 have wz:cE 15000 (d5 R n dem):=λr hr x hx=>by
  unfold d5 at hr;obtain⟨s,J,rfl⟩:=ss.mp hr;rcases wE.mp hx with q | q
  exact(ac s J x q).mono ∅;rw[wn.mp q];exact(sG (ac s J) hz (by rw[Sl s J];omega)).mono ∅
 have rc:CN 15000 1000000 (n+1) (d5 R n dem):=#[wl,wz,IN (om 15000 (d5 R n dem).length 6 1 wc) lg6,∅,∅,⋯];obtain⟨k,Ol,Ls,el,hk,sL,nL,_,vL⟩:=DJ rc;have kn:=oA wl;obtain⟨l0,a1,a2⟩:=Hf Y hd hF;generalize hw:d5 R n dem=U at *;have a3:=AW (S:=[]) hk;have s1:Sto ((([]:aC)++Ol.map (shC 0)).set (0+k) .dead) (Ls.map λp=>(0+p.1,p.2)):=(zM (S:=[]) sL).set (λp hp=>by obtain⟨q,hq,rfl⟩:=ss.mp hp;have:=nL q hq;show 0+q.1≠0+k;omega) _
 have m1:(Ls.map λp=>(0+p.1,p.2)).map (·.2)=Ls.map (·.2):=by rw[wf];rfl
 have ef:iG (d3 2 mH (af (aa 4) (af (ak cq (aa 3) (aq (.int 1))) ao))) #[wbR goods ws dem R n (pc (vII U)) pi pi pi,[]]=.ok (.lst (bj (Ls.map λp=>(0+p.1,p.2))),#[wbR goods ws dem R n (pc (vII U)) pi pi pi,(([]:aC)++Ol.map (shC 0)).set (0+k) .dead]):=pj (jB (aA (ag rfl) (aA (aO (ag rfl) (aF _) d7) aG)) el (CP rfl) rfl iT rfl) a3 rfl;have am:∀p∈Ls.map (λp=>(0+p.1,p.2)),cJ (n+1) U p.2/\SzL 1000000 p.2:=λp hp=>by have:p.2∈j3 U (n+1):=kr.mem_iff.mp (by rw[<- vL,<- m1];exact G0 hp);exact#[(kn.all _).mp this,DI rc (λ_ q=>q) (vr _) _ this]
 have ab:l0∈(Ls.map λp=>(0+p.1,p.2)).map (·.2):=by rw[m1,vL];exact kr.mem_iff.mpr ((kn.all _).mpr a1)
 generalize (([]:aC)++Ol.map (shC 0)).set (0+k) Cell.dead=O1 at ef s1;generalize Ls.map (λp=>(0+p.1,p.2))=Q at ef s1 am ab;have e5:=Ke (a:=n) s1 λp hp=>by rw[(am p hp).1.fit.len];omega
 obtain⟨p,ep⟩:∃p,fwQ Q n=pc p:=by
  cases e:fwQ Q n with
  | some p=>exact#[p,rfl]
  | none=>
   obtain⟨q,hq,rfl⟩:=ss.mp ab;have:=U8.mp e q hq;exact absurd (decide_eq_true a2) this
 have pQ:p∈Q:=Uh ep;have pp:0<nth p.2 n:=of_decide_eq_true (VC (p:=λp:Nat×List Int=>decide (0<nth p.2 n)) ep);obtain⟨lo,pz⟩:=am p pQ;have pl:=lo.fit.len;rw[ep] at e5;have e5:setM 5 (bN 2 ka (af (iG (d3 2 mH (af (aa 4) (af (ak cq (aa 3) (aq (.int 1))) ao)))) (af (aa 3) ao))) #[wbR goods ws dem R n (pc (vII U)) pi pi pi,[]]=.next #[wbR goods ws dem R n (pc (vII U)) (pc (.ptr p.1)) pi pi,O1]:=bq (gH (aA ef (aA (ag rfl) aG)) e5 rfl) rfl
 have t0:Sz 1000000 (nth p.2 n):=pz _ (pA ⋯);have e6:=Gj (l:=p.2.zip dem) (f:=λq=>.int q.1) (g:=λq=>.int q.2) (out:=λq=>.int (q.1+nth p.2 n*q.2)) (caps:=[5,3]) (im:=ya (af (aa 5) (af (aa 1) ao))) (e:=ak cq (aa 0) (ak cI (ak ixD (aa 2) (aa 3)) (aa 1))) (s:=#[wbR goods ws dem R n (pc (vII U)) (pc (.ptr p.1)) pi pi,O1]) (ok:=λO=>lsD O (.ptr p.1)=pc (p.2.map D.int)/\lsD O (vI dem)=pc (dem.map D.int)) (by rw[Jt (as:=p.2.map D.int) (bs:=dem.map D.int) (aA (ag (i:=5) rfl) (aA (ag (i:=1) rfl) aG)) (jx (s1 p pQ)) ia,oa]) #[jx (s1 p pQ),ia] (by rw[RA];omega) (λq hq=>aO (ag rfl) (aO (aO (ag rfl) (ag rfl) (fM (s1 p pQ) ⋯)) (ag rfl) (cN (gw (m:=1000000) (n:=8000) ∅ ∅ t0 (hz _ (Re (a:=q.1) (b:=q.2) hq).2)))) d7)
 rw[show (p.2.zip dem).map (λq=>D.int (q.1+nth p.2 n*q.2))=(kx p.2 dem (nth p.2 n)).map D.int by unfold kx;rw[wf];rfl] at e6;have lf:=lo.fit;rw[<- hw] at lf;obtain⟨b,ts,em,b0,tl,tb⟩:=HC Y hd lf;obtain⟨gl,_⟩:=yf pl hd (nth p.2 n);have gz:SzL 1010000 (kx p.2 dem (nth p.2 n)):=λx hx=>by unfold kx at hx;obtain⟨q,hq,rfl⟩:=ss.mp hx;exact(Sz.add (pz _ (Re (a:=q.1) (b:=q.2) hq).1) (Sz.mul t0 (hz _ (Re (a:=q.1) (b:=q.2) hq).2))).mono ∅
 have s5:=sg5 (n:=R.length) ⋯;obtain⟨Om,eo⟩:=JO (n:=n) (c:=1010000) (rows:=R) (goal:=kx p.2 dem (nth p.2 n)) gl ⋯ ⋯ Y (Rz.mono ∅) gz s5;have bz:=F7 gl ⋯ (Rz.mono (show 90<=1010000 by decide)) gz em;rw[em] at eo;generalize kx p.2 dem (nth p.2 n)=goal at e6 eo;have e7:setM 7 (aX 2 oj (af (aa 2) (af (aa 6) ao))) #[wbR goods ws dem R n (pc (vII U)) (pc (.ptr p.1)) (pc (vI goal)) pi,O1]=.next #[wbR goods ws dem R n (pc (vII U)) (pc (.ptr p.1)) (pc (vI goal)) (pc (.tup [.int b,vI ts])),O1]:=bq (dJ (aA (ag rfl) (aA (ag rfl) aG)) eo (CP (by simp)) rfl (by simp[LJ])) rfl
 refine#[b*nth p.2 n,ts,O1, ?_,RP b0 pp,by rw[tl,Rc],tb];refine de (R:=wbR goods ws dem R n (pc (vII U)) (pc (.ptr p.1)) (pc (vI goal)) (pc (.tup [.int b,vI ts]))) ?_;show mL #[[pc (yD goods ws),pc (vI dem),pi,pi,pi,pi,pi,pi],[]]=_;rw[mL];exact aU e2 (aU e3 (aU e4 (aU e5 (aU (bq e6 rfl) (aU e7 (br (sY (aA (aO (aO (ag rfl) (aF _) (f9 rfl)) (aO (ag rfl) (ag rfl) (fM (s1 p pQ) ⋯)) (cN (gw (n:=1000000) s5 ∅ bz t0))) (aA (aO (ag rfl) (aF _) (f9 rfl)) aG)) (by simp))))))))
theorem Ku(g4:goods.length<=5)(w6:ws.length<=7)(hs:cE 90 (chL goods ws)):∃d O Q,mQ [yD goods ws] []=.ok (.ptr d,O)/\O[d]? =pc (.lst (bj Q))/\Sto O Q/\(∀p∈Q,p.1≠d)/\Q.length<64/\(Q.map (·.2)).Nodup/\qL (Q.map (·.2))=Q.map (·.2)/\(∀p∈Q,cJ ws.length (cF goods ws) p.2/\SzL 8000 p.2)/\∀x,cJ ws.length (cF goods ws) x->x∈Q.map (·.2):=by
 have lR:=yB (goods:=goods) (ws:=ws);have ro:=EY g4 w6 hs;obtain⟨d,Op,Q,ep,hd,sQ,nQ,so,U⟩:=Me ro;have Y:=oA lR;have lq:Q.length<64:=by have:=Y.few w6;have e:=congrArg S7 U;rw[sB,kr.length_eq] at e;omega
 have J:∀p∈Q,p.2∈j3 (cF goods ws) ws.length:=λp hp=>kr.mem_iff.mp (by rw[<- U];exact G0 hp);have nd:(Q.map (·.2)).Nodup:=by rw[U];exact kr.nodup_iff.mpr Y.nd
 have ac:qL (Q.map (·.2))=Q.map (·.2):=by rw[<- B0,<- so]
 have mm:(Q.map λp=>(0+p.1,p.2)).map (·.2)=Q.map (·.2):=by rw[wf];rfl
 refine#[0+d,[]++Op.map (shC 0),Q.map λp=>(0+p.1,p.2), ?_,AW (S:=[]) hd,zM (S:=[]) sQ,λp hp=> ?_,by rw[sB];exact lq,by rw[mm];exact nd,by rw[mm];exact ac,λp hp=> ?_,λx hx=>by rw[mm,U];exact kr.mem_iff.mpr ((Y.all x).mpr hx)];refine de (R:=[pc (yD goods ws)]) ?_;show Ed #[[pc (yD goods ws)],[]]=_;rw[Ed];refine br (jB (aA (nq (ns:=FN) (ds:=yDs goods ws) (args:=[]) (ag rfl) aG (A3 ⋯ ⋯) ∅ gK rfl rfl (by rw[oo,i5])) (aA (hE (aA (nq (ns:=FN) (ds:=yDs goods ws) (args:=[]) (ag rfl) aG (vO goods ⋯) ∅ gK rfl rfl dO) aG) (by rw[fg,sB,sB])) aG)) ep (CP rfl) rfl iT rfl);obtain⟨q,hq,rfl⟩:=ss.mp hp;have:=nQ q hq;dsimp only;omega;obtain⟨q,hq,rfl⟩:=ss.mp hp;exact#[(Y.all _).mp (J q hq),JW ro (λr hr=>hr) ro.cnt _ (J q hq)]
theorem C6(U:ws.length<=1000)(hz:ws.map (·.nm)=zs)(Y:zs.Nodup)(ha:a<zs.length):fS [yD goods ws,.str zs[a]] []=.ok (.int (a:Int),[]):=by have J:=vO goods U;rw[hz] at J;refine de (R:=[pc (yD goods ws),pc (.str zs[a]),pc (sD zs)]) ?_;show ur #[[pc (yD goods ws),pc (.str zs[a]),pi],[]]=_;rw[ur];refine aU (bq (nq (ns:=FN) (ds:=yDs goods ws) (args:=[]) (ag rfl) aG J ∅ gK rfl rfl dO) rfl) (aU (dX (eI (aO (ag rfl) (ag rfl) yS)) ?_ cD) (br ?_));rw[show zs.any (· == zs[a])=qc from Vv.mpr #[zs[a],AL ha,beq_self_eq_true _]];rfl;unfold DM KL;rw[ag (i:=2) rfl,aj];dsimp only;rw[mU];dsimp only;rw[ag (i:=1) rfl,aj];dsimp only;unfold EI;rw[List.Nodup.idxOf_getElem Y a ha,if_pos ha];rfl
theorem tV{R:List (List Int)}(ha:a<n)(h:∀x,cJ n R x->nth x a=0)(J:Fit n R y):nth y a=0:=by
 have e:∀x:List Int,a6 n (nth ((eh n a).map (- ·))) (nth x)= - nth x a:=λx=>by
  unfold a6;rw[bS (g:=λi=>if i=a then-nth x a else 0) λi _=>by rw[iQ (f:=(- ·)) ∅,dv ha];by_cases q:i=a;rw[if_pos q,if_pos q,q];omega;rw[if_neg q,if_neg q];simp]
  exact(gi ha (f:=λi=>if i=a then-nth x a else 0) λi _ q=>if_neg q).trans (if_pos rfl)
 have:=zI (c:=(eh n a).map (- ·)) (λl U=>by rw[e,h l U];decide) J;rw[e] at this;have:=J.nn a;omega
structure YS(goods:List Str)(ws:List Wk)(zs:List Str):Prop where
 g4:goods.length<=4
 w6:ws.length<=6
 hs:cE 90 (chL goods ws)
 nm:ws.map (·.nm)=zs
 nd:zs.Nodup
theorem YS.zl(y:YS goods ws zs):zs.length=ws.length:=by rw[<- y.nm,sB]
theorem Ci(y:YS goods ws zs):∃Q E,(∀{R:List (Option D)} {i:Nat},R[i]? =pc (pc (yD goods ws))->iG (d3 1 mQ (af (aa i) ao)) #[R,[]]=.ok (.lst (bj Q),#[R,E]))/\Sto E Q/\(∀p∈Q,cJ ws.length (cF goods ws) p.2/\SzL 8000 p.2)/\(∀x,cJ ws.length (cF goods ws) x->x∈Q.map (·.2))/\Q.length<64:=by
 have g4:=y.g4;have w6:=y.w6;obtain⟨d,U,Q,Y,J,sQ,nQ,few,nd,so,lo,all⟩:=Ku (goods:=goods) (ws:=ws) ⋯ ⋯ y.hs;refine#[Q.map λp=>(0+p.1,p.2),(([]:aC)++U.map (shC 0)).set (0+d) .dead,λ{R i} hR=>pj (jB (aA (ag hR) aG) Y Mu rfl iT rfl) (AW (S:=[]) J) rfl,(zM (S:=[]) sQ).set (λp hp=>by
  obtain⟨q,hq,rfl⟩:=ss.mp hp;have:=nQ q hq;show 0+q.1≠0+d;omega) _,λp hp=>by
  obtain⟨q,hq,rfl⟩:=ss.mp hp;exact lo q hq,λx hx=>by
  rw[wf];exact all x hx,by rw[sB];exact few]
theorem Lq(hn:n<=9000){a b:Int}(hb:b≠0)(h:Sz n b):wG [.int a,.int b] []=.ok (.tup [.int (rat a b).1,.int (rat a b).2],[]):=by obtain⟨s,e,J⟩:=G6 hn (a:=a) hb h [];have q:=cv (n:=3) (m:=A4) (ds:=[.int a,.int b]) (O:=[]) (s:=s) (wp (by simp[A4,yR,mot,hb,wu]) e);rw[J] at q;exact q
theorem AK{l:List Int}(h:a<l.length)(i:Nat):nth (l.set a v) i=if i=a then v else nth l i:=by unfold nth;rw[pr,pr];by_cases e:i=a;rw[if_pos e,e,Rp h];rfl;rw[if_neg e,Ru (S1 e)]
theorem nM:nth (u0 n (0:Int)) i=0:=by unfold nth;rw[pr,GX];split <;> rfl
def nt(n a:Nat)(da:Int)(b:Nat)(db:Int):List Int:=((u0 n (0:Int)).set a (0+da)).set b (nth ((u0 n (0:Int)).set a (0+da)) b+db)
theorem D6:(nt n a da b db).length=n:=by unfold nt;simp
theorem xZ(da db:Int)(ha:a<n)(hb:b<n)(i:Nat):nth (nt n a da b db) i=(if i=a then da else 0)+(if i=b then db else 0):=by unfold nt;rw[AK (by simpa using hb),AK (by simpa using ha),AK (by simpa using ha),nM,nM];by_cases e:i=b;subst e;by_cases e2:i=a;simp[e2];simp[e2];rw[if_neg e,if_neg e];by_cases e2:i=a;simp[e2];simp[e2]
theorem qp(ha:a<n)(hb:b<n)(x:List Int):a6 n (nth (nt n a da b db)) (nth x)=da*nth x a+db*nth x b:=by
 unfold a6;rw[bS (g:=λi=>(if i=a then da*nth x a else 0)+(if i=b then db*nth x b else 0)) λi _=>by rw[xZ da db ha hb,Int.add_mul];congr 1;by_cases e:i=a;rw[if_pos e,if_pos e,e];rw[if_neg e,if_neg e,Tc];by_cases e:i=b;rw[if_pos e,if_pos e,e];rw[if_neg e,if_neg e,Tc],nE,gi (k:=a) ha λi _ e=>if_neg e,gi (k:=b) hb λi _ e=>if_neg e,if_pos rfl,if_pos rfl]
theorem wg{l:List Int}{x:Int}(h:x∈l):∃i,i<l.length/\x=nth l i:=by obtain⟨i,hi,rfl⟩:=Rw h;exact#[i,hi,by unfold nth;rw[pr,sK hi];rfl]
theorem MH(ha:a<n)(hb:b<n)(h1:Sz c da)(h2:Sz c db):SzL (c+1) (nt n a da b db):=λx hx=>by
 obtain⟨i,_,rfl⟩:=wg hx;rw[xZ da db ha hb];have q1:Sz c (if i=a then da else 0):=by split <;> first | exact h1 | exact Sz.zero c
 have q2:Sz c (if i=b then db else 0):=by split <;> first | exact h2 | exact Sz.zero c
 have:=q1.add q2;rw[Nat.max_self] at this;exact this
theorem IK(da db:Int)(ha:a<n)(hb:b<n)(hn:n<=1000):∃O,fH [.int (n:Int),.int (a:Int),.int da,.int (b:Int),.int db] []=.ok (vI (nt n a da b db),O):=by
 refine#[([Cell.lst ((nt n a da b db).map D.int)]).set 0 .dead,de (R:=[pc (.int (n:Int)),pc (.int (a:Int)),pc (.int da),pc (.int (b:Int)),pc (.int db),pc (.ptr 0)]) ?_];show lN #[[pc (.int (n:Int)),pc (.int (a:Int)),pc (.int da),pc (.int (b:Int)),pc (.int db),pi],[]]=_;rw[lN];have J:setM 5 (v9 oK (af (aq (.int 0)) ao) (aa 0)) #[[pc (.int (n:Int)),pc (.int (a:Int)),pc (.int da),pc (.int (b:Int)),pc (.int db),pi],[]]=.next #[[pc (.int (n:Int)),pc (.int (a:Int)),pc (.int da),pc (.int (b:Int)),pc (.int db),pc (.ptr 0)],[.lst ((u0 n (0:Int)).map D.int)]]:=bq (by rw[HD (n:=n) (ag rfl) ⋯];rfl) rfl
 have step:∀(l:List Int) (i k:Nat) (v:Int) (hk:k<l.length),[pc (D.int (n:Int)),pc (.int (a:Int)),pc (.int da),pc (.int (b:Int)),pc (.int db),pc (.ptr 0)][i]? =pc (pc (.int (k:Int)))->[pc (D.int (n:Int)),pc (.int (a:Int)),pc (.int da),pc (.int (b:Int)),pc (.int db),pc (.ptr 0)][i+1]? =pc (pc (.int v))->gA (ak cq (ak ixD (aa 5) (aa i)) (aa (i+1))) (jJ (aa 5) (aa i)) #[[pc (.int (n:Int)),pc (.int (a:Int)),pc (.int da),pc (.int (b:Int)),pc (.int db),pc (.ptr 0)],[.lst (l.map D.int)]]=.next #[[pc (.int (n:Int)),pc (.int (a:Int)),pc (.int da),pc (.int (b:Int)),pc (.int db),pc (.ptr 0)],[.lst ((l.set k (nth l k+v)).map D.int)]]:=λl i k v hk h1 h2=>by refine CK (aO (aO (ag rfl) (ag h1) (fM (y:=l) rfl hk)) (ag h2) d7) ?_;rw[lX (k:=0) (a:=k) (ds:=l.map D.int) (ag rfl) (ag h1) rfl (by simpa using hk),TJ];rfl
 have s1:=step (u0 n 0) 1 a da (by simpa using ha) rfl rfl;rw[nM] at s1;have s2:=step ((u0 n (0:Int)).set a (0+da)) 3 b db (by simpa using hb) rfl rfl;exact aU J (aU s1 (aU s2 (br (pj (ag rfl) rfl rfl))))
def wwQ(Q:List (Nat×List Int))(a b:Nat):Option (Nat×List Int):=Q.find? λp=>decide (0<nth p.2 a)&&decide (nth p.2 b=0)
theorem LZ{O:aC}{a b:Nat}{L:D}(K:List D):∀(rest:List (Nat×List Int)) (x3:Option D),Sto O rest->(∀p∈rest,a<p.2.length/\b<p.2.length)->
 (wwQ rest a b=pi->∃J,bT (okC K pi) (aB 3) cU (bj rest) #[[pc L,pc (.int (a:Int)),pc (.int (b:Int)),x3],O]=.next #[[pc L,pc (.int (a:Int)),pc (.int (b:Int)),J],O])/\
 ∀p,wwQ rest a b=pc p->∃J,bT (okC K pi) (aB 3) cU (bj rest) #[[pc L,pc (.int (a:Int)),pc (.int (b:Int)),x3],O]=.ret (.ptr p.1) #[[pc L,pc (.int (a:Int)),pc (.int (b:Int)),J],O]
 | [],x3,_,_=>#[λ_=>#[x3,by show bT _ _ _ [] _=_;rw[bT,if_pos (show okC K pi _ from trivial)]],λp h=>by cases h]
 | q::rest,x3,sQ,hl=>by
  obtain⟨Y,i2⟩:=LZ (L:=L) K rest (pc (.ptr q.1)) (λp hp=>sQ p (tz _ hp)) λp hp=>hl p (tz _ hp);have hq:=hl q uC;have t:vW (a7 (ak gtD (ak ixD (aa 3) (aa 1)) (aq (.int 0)))) (a7 (ak eqD (ak ixD (aa 3) (aa 2)) (aq (.int 0)))) #[[pc L,pc (.int (a:Int)),pc (.int (b:Int)),pc (.ptr q.1)],O]=.ok (decide (0<nth q.2 a)&&decide (nth q.2 b=0),#[[pc L,pc (.int (a:Int)),pc (.int (b:Int)),pc (.ptr q.1)],O]):=GU (gM (aO (ag rfl) (ag rfl) (fM (sQ q uC) hq.1))) (eq_test (aO (ag rfl) (ag rfl) (fM (sQ q uC) hq.2)));have st:bT (okC K pi) (aB 3) cU (bj (q::rest)) #[[pc L,pc (.int (a:Int)),pc (.int (b:Int)),x3],O]=(match cU #[[pc L,pc (.int (a:Int)),pc (.int (b:Int)),pc (.ptr q.1)],O] with
   | .next s=>bT (okC K pi) (aB 3) cU (bj rest) s
   | .cnt s=>bT (okC K pi) (aB 3) cU (bj rest) s
   | .brk s=>.next s
   | o=>o):=by
   show bT _ _ _ (.ptr q.1::bj rest) _=_;rw[bT,if_pos (show okC K pi _ from trivial)];rfl
  cases h:(decide (0<nth q.2 a)&&decide (nth q.2 b=0)) with
  | true=>
   have e:wwQ (q::rest) a b=pc q:=by unfold wwQ;rw[Tz,h]
   have U:cU #[[pc L,pc (.int (a:Int)),pc (.int (b:Int)),pc (.ptr q.1)],O]=.ret (.ptr q.1) #[[pc L,pc (.int (a:Int)),pc (.int (b:Int)),pc (.ptr q.1)],O]:=by rw[cU];exact eW t h (br (ag rfl))
   rw[e,st,U];exact#[λz=>(by cases z),λp z=>by cases z;exact#[_,rfl]]
  | false=>
   have e:wwQ (q::rest) a b=wwQ rest a b:=by unfold wwQ;rw[Tz,h]
   have U:cU #[[pc L,pc (.int (a:Int)),pc (.int (b:Int)),pc (.ptr q.1)],O]=.next #[[pc L,pc (.int (a:Int)),pc (.int (b:Int)),pc (.ptr q.1)],O]:=by rw[cU];exact dX t h cD
   rw[e,st,U];exact#[Y,i2]
theorem Pu{O:aC}{a b:Nat}{Q:List (Nat×List Int)}(Y:Sto O Q)(hl:∀p∈Q,a<p.2.length/\b<p.2.length):jg [.lst (bj Q),.int (a:Int),.int (b:Int)] O=.ok (fwD (wwQ Q a b),O):=by
 have U:=cY (im:=listI (aa 0)) (g:=aB 3) (body:=cU) (s:=#[[pc (.lst (bj Q)),pc (.int (a:Int)),pc (.int (b:Int)),pi],O]) (ds:=bj Q) (k:=pi) (s1:=#[[pc (.lst (bj Q)),pc (.int (a:Int)),pc (.int (b:Int)),pi],O]) (by rw[b9,ag (i:=0) rfl,aj];rfl);obtain⟨i1,i2⟩:=LZ (L:=.lst (bj Q)) (bj Q) Q pi Y hl;cases e:wwQ Q a b with
 | none=>
  obtain⟨J,e1⟩:=i1 e;refine de (R:=[pc (.lst (bj Q)),pc (.int (a:Int)),pc (.int (b:Int)),J]) ?_;show ji #[[pc (.lst (bj Q)),pc (.int (a:Int)),pc (.int (b:Int)),pi],O]=_;rw[ji];exact aU (U.trans e1) (br (aF _))
 | some p=>
  obtain⟨J,e1⟩:=i2 p e;refine de (R:=[pc (.lst (bj Q)),pc (.int (a:Int)),pc (.int (b:Int)),J]) ?_;show ji #[[pc (.lst (bj Q)),pc (.int (a:Int)),pc (.int (b:Int)),pi],O]=_;rw[ji];exact eK (U.trans e1)
theorem PD{qa U pa J ra Y:Int}(hp:0<J)(hq:0<U)(hr:0<Y)(h1:qa*J<=pa*U)(h2:pa*Y<ra*J):qa*Y<=ra*U:=by
 refine Ui (a:=J) ?_ hp;have e1:=RI h1 (SV hr);have e2:=RI (SV h2) (SV hq);have t1:J*(qa*Y)=qa*J*Y:=by rw[<- Rt,Rr J qa]
 have t2:J*(ra*U)=ra*J*U:=by rw[<- Rt,Rr J ra]
 have t3:pa*U*Y=pa*Y*U:=by rw[Rt,Rr U Y,<- Rt]
 omega
theorem Py(sQ:Sto O Q)(ha:a<n)(hb:b<n)(hl:∀p∈Q,p.2.length=n)(hz:∀p∈Q,SzL 8000 p.2)(hp:∀p∈Q,0<nth p.2 b)(h0:Q≠[]):∃p∈Q,jL [.lst (bj Q),.int (a:Int),.int (b:Int)] O=.ok (.ptr p.1,O)/\∀q∈Q,nth q.2 a*nth p.2 b<=nth p.2 a*nth q.2 b:=by
 obtain⟨p0,m0,e0⟩:∃p0∈Q,atI (bj Q) 0=pc (.ptr p0.1):=by
  cases Q with
  | nil=>exact absurd rfl h0
  | cons p Q=>exact#[p,uC,gZ (l:=bj (p::Q)) (i:=0) (by simp)]
 obtain⟨s',el,p,J,x4,hm,rfl⟩:=dh (ok:=okC (bj Q) pi) (g:=aB 4) (body:=iM)
  (λpre s=>∃p∈Q,∃x4:Option D,(∀i,i<pre.length->∀(hi:i<Q.length),nth Q[i].2 a*nth p.2 b<=nth p.2 a*nth Q[i].2 b)/\s=#[[pc (.lst (bj Q)),pc (.int (a:Int)),pc (.int (b:Int)),pc (.ptr p.1),x4],O]) (λ_ _ _=>trivial) (bj Q) [] (by
   rintro pre d rest ed s ⟨p,J,x4,hm,rfl⟩;rw[wT] at ed;obtain⟨az,rfl⟩:=i6 ed;have U:Q[pre.length]∈Q:=AL _;generalize hq:Q[pre.length]=q at U;have pl:=hl p J;have ql:=hl q U;have gq:=sQ q U;have gp:=sQ p J;have t:a7 (ak gtD (ak cI (ak ixD (aa 4) (aa 1)) (ak ixD (aa 3) (aa 2))) (ak cI (ak ixD (aa 3) (aa 1)) (ak ixD (aa 4) (aa 2)))) #[[pc (.lst (bj Q)),pc (.int (a:Int)),pc (.int (b:Int)),pc (.ptr p.1),pc (.ptr q.1)],O]=.ok (decide (nth p.2 a*nth q.2 b<nth q.2 a*nth p.2 b),#[[pc (.lst (bj Q)),pc (.int (a:Int)),pc (.int (b:Int)),pc (.ptr p.1),pc (.ptr q.1)],O]):=
    eI (aO (aO (aO (ag rfl) (ag rfl) (fM gq ⋯)) (aO (ag rfl) (ag rfl) (fM gp ⋯)) (cN (gw ∅ ∅ ((hz q U).nth a) ((hz p J).nth b)))) (aO (aO (ag rfl) (ag rfl) (fM gp ⋯)) (aO (ag rfl) (ag rfl) (fM gq ⋯)) (cN (gw ∅ ∅ ((hz p J).nth a) ((hz q U).nth b)))) wY)
   by_cases h:nth p.2 a*nth q.2 b<nth q.2 a*nth p.2 b;refine#[_,#[[pc (.lst (bj Q)),pc (.int (a:Int)),pc (.int (b:Int)),pc (.ptr q.1),pc (.ptr q.1)],O],rfl,.inl ?_,q,U,_,λi hi Y=> ?_,rfl];rw[iM];exact eW t (decide_eq_true h) (bq (ag rfl) rfl);rw[xL,EQ] at hi;by_cases e:i=pre.length;subst e;rw[hq];exact Tn _;exact PD (hp p J) (hp _ (AL _)) (hp q U) (hm i ⋯ Y) h;refine#[_,#[[pc (.lst (bj Q)),pc (.int (a:Int)),pc (.int (b:Int)),pc (.ptr p.1),pc (.ptr q.1)],O],rfl,.inl ?_,p,J,_,λi hi Y=> ?_,rfl];rw[iM];exact dX t (decide_eq_false h) cD;rw[xL,EQ] at hi;by_cases e:i=pre.length;subst e;rw[hq];omega;exact hm i ⋯ Y) #[[pc (.lst (bj Q)),pc (.int (a:Int)),pc (.int (b:Int)),pc (.ptr p0.1),pi],O] #[p0,m0,pi,λi hi=>absurd hi (by simp),rfl]
 refine#[p,J, ?_,λq hq=> ?_];refine de (R:=[pc (.lst (bj Q)),pc (.int (a:Int)),pc (.int (b:Int)),pc (.ptr p.1),x4]) ?_;show mJ #[[pc (.lst (bj Q)),pc (.int (a:Int)),pc (.int (b:Int)),pi,pi],O]=_;rw[mJ];exact aU (bq (aO (ag rfl) (aF _) (nG e0)) rfl) (aU ((cY (ds:=bj Q) (k:=pi) (s1:=#[[pc (.lst (bj Q)),pc (.int (a:Int)),pc (.int (b:Int)),pc (.ptr p0.1),pi],O]) (by rw[b9,ag (i:=0) rfl,aj];rfl)).trans el) (br (ag rfl)));obtain⟨i,hi,rfl⟩:=Rw hq;exact hm i (by rw[wT,sB];exact hi) hi
inductive lI (n:Nat) (R:List (List Int)) (a b:Nat) (O:aC):D->Prop
 | free {k:Nat} {x:List Int} (h:O[k]? =pc (.lst (x.map D.int))) (lo:cJ n R x) (z:SzL 8000 x) (ha:0<nth x a) (hb:nth x b=0):lI n R a b O (.tup [.str "free",.ptr k])
 | never {W:List Int} (h:∀x,cJ n R x->nth x a=0/\nth x b=0):lI n R a b O (.tup [.str "never",vI W])
 | most {k:Nat} {x W:List Int} {t:Int} (h:O[k]? =pc (.lst (x.map D.int))) (lo:cJ n R x) (z:SzL 8000 x) (hb:0<nth x b) (hm:∀l,cJ n R l->nth l a*nth x b<=nth x a*nth l b):lI n R a b O (.tup [.str "most",.tup [.int (rat (nth x a) (nth x b)).1,.int (rat (nth x a) (nth x b)).2],.ptr k,.int t,vI W])
theorem Gq{R:List (List Int)}(ha:a<n)(hb:b<n){u v:Int}(h:∀l,cJ n R l->v*nth l a<=u*nth l b)(J:Fit n R y):a6 n (nth (nt n a v b (-u))) (nth y)<=0:=by
 have:=zI (c:=nt n a (-v) b u) (λl U=>by rw[qp ha hb];have:=h l U;rw[UM];omega) J
 rw[qp ha hb,UM] at this;rw[qp ha hb,UM];omega
theorem Bx{U J Y lb:Int}(hp:0<J)(h:Y*J<=U*lb):(rat U J).2*Y<=(rat U J).1*lb:=by
 obtain⟨g,g0,_,e1,e2,p2,_⟩:=xY (a:=U) (b:=J) ⋯;have gp:0<g:=by rcases Uc g 0 with q | q | q;have:=Uj q p2;omega;exact absurd q g0;exact q
 generalize (rat U J).1=u at *;generalize (rat U J).2=v at *;subst e1;subst e2;refine Ui (a:=g) ?_ gp;have t1:g*(v*Y)=Y*(g*v):=by rw[<- Rt,Rr]
 have t2:g*(u*lb)=g*u*lb:=by rw[Rt]
 omega
theorem LX{m:EM}(h:m s=.ok (.lst ds,s1)):vD m s=.ok (!ds.isEmpty,s1):=by unfold vD;rw[h,aj];rfl
theorem OP{a b:Int}(ha:0<=a)(hb:0<b):0<=(rat a b).1/\0<(rat a b).2:=by
 obtain⟨g,J,_,e1,e2,p2,_⟩:=xY (a:=a) (b:=b) ⋯;refine#[?_,p2];have gp:0<g:=by rcases Uc g 0 with q | q | q;have:=Uj q p2;omega;exact absurd q J;exact q
 rcases Uc (rat a b).1 0 with q | q | q;have:=SA gp q;omega;omega;omega
theorem Lx{v u:Int}(ha:a<n)(hb:b<n)(J:0<=v)(U:0<=u)(h1:Sz c v)(h2:Sz c u):SzL c (nt n a v b (-u)):=λx hx=>by obtain⟨i,_,rfl⟩:=wg hx;rw[xZ _ _ ha hb];unfold Sz at *;split <;> split <;> omega
theorem MG(y:YS goods ws zs)(ha:a<zs.length)(hb:b<zs.length):∃(d:D) (O:aC),p6 [yD goods ws,.str zs[a],.str zs[b]] []=.ok (d,O)/\lI ws.length (cF goods ws) a b O d:=by
 have zl:=y.zl;have w6:=y.w6;have bi:=C6 (goods:=goods) (a:=a) ⋯ y.nm y.nd ha;have bm:=C6 (goods:=goods) (a:=b) ⋯ y.nm y.nd hb;obtain⟨Q,E,ew,sQ,lo,all,few⟩:=Ci y;have en:=vO goods (ws:=ws) ⋯;have Ql:∀p∈Q,p.2.length=ws.length:=λp hp=>(lo p hp).1.fit.len;have e3:∀x4 x5 x6 x7 x8 x9 U Y,setM 3 (aX 2 fS (af (aa 0) (af (aa 1) ao))) #[[pc (yD goods ws),pc (.str zs[a]),pc (.str zs[b]),pi,x4,x5,x6,x7,x8,x9,U,Y],[]]=.next #[[pc (yD goods ws),pc (.str zs[a]),pc (.str zs[b]),pc (.int (a:Int)),x4,x5,x6,x7,x8,x9,U,Y],[]]:=λ_ _ _ _ _ _ _ _=>bq (dJ (aA (ag rfl) (aA (ag rfl) aG)) bi (sN (by simp)) rfl rfl) rfl
 have e4:∀x5 x6 x7 x8 x9 U Y,setM 4 (aX 2 fS (af (aa 0) (af (aa 2) ao))) #[[pc (yD goods ws),pc (.str zs[a]),pc (.str zs[b]),pc (.int (a:Int)),pi,x5,x6,x7,x8,x9,U,Y],[]]=.next #[[pc (yD goods ws),pc (.str zs[a]),pc (.str zs[b]),pc (.int (a:Int)),pc (.int (b:Int)),x5,x6,x7,x8,x9,U,Y],[]]:=λ_ _ _ _ _ _ _=>bq (dJ (aA (ag rfl) (aA (ag rfl) aG)) bm (sN (by simp)) rfl rfl) rfl
 obtain⟨J,hR⟩:∃J:Option D->Option D->Option D->Option D->Option D->List (Option D),J=λx7 x8 x9 U Y=>[pc (yD goods ws),pc (.str zs[a]),pc (.str zs[b]),pc (.int (a:Int)),pc (.int (b:Int)),pc (.lst (bj Q)),pc (.int (ws.length:Int)),x7,x8,x9,U,Y]:=#[_,rfl];have start:∀(m:SM) (o:Out),m #[J pi pi pi pi pi,E]=o->aK (setM 3 (aX 2 fS (af (aa 0) (af (aa 1) ao)))) (aK (setM 4 (aX 2 fS (af (aa 0) (af (aa 2) ao)))) (aK (setM 5 (iG (d3 1 mQ (af (aa 0) ao)))) (aK (setM 6 (bJ cx (af (methP 0 "names" 0 eZ (aa 0) ao) ao))) m))) #[[pc (yD goods ws),pc (.str zs[a]),pc (.str zs[b]),pi,pi,pi,pi,pi,pi,pi,pi,pi],[]]=o:=λm o h=>by refine aU (e3 _ _ _ _ _ _ _ _) (aU (e4 _ _ _ _ _ _ _) (aU (bq (ew rfl) rfl) (aU (s1:=#[J pi pi pi pi pi,E]) ?_ h)));subst hR;exact bq (hE (aA (nq (ns:=FN) (ds:=yDs goods ws) (args:=[]) (ag rfl) aG en ∅ gK rfl rfl dO) aG) (by rw[fg,sB,sB])) rfl
 have e7:setM 7 (bN 3 jg (af (aa 5) (af (aa 3) (af (aa 4) ao)))) #[J pi pi pi pi pi,E]=.next #[J (pc (fwD (wwQ Q a b))) pi pi pi pi,E]:=by subst hR;exact bq (gH (aA (ag rfl) (aA (ag rfl) (aA (ag rfl) aG))) (Pu sQ λp hp=>by rw[Ql p hp];omega) rfl) rfl
 cases hq:wwQ Q a b with
 | some p=>
  rw[hq] at e7;have hp:=Uh hq;have bn:=VC hq;obtain⟨b1,b2⟩:=(RJ _ _▸bn:_/\_);refine#[.tup [.str "free",.ptr p.1],E, ?_,.free (sQ p hp) (lo p hp).1 (lo p hp).2 (of_decide_eq_true b1) (of_decide_eq_true b2)];refine de (R:=J (pc (.ptr p.1)) pi pi pi pi) ?_;show qu #[[pc (yD goods ws),pc (.str zs[a]),pc (.str zs[b]),pi,pi,pi,pi,pi,pi,pi,pi,pi],[]]=_;rw[qu];refine start _ _ (aU e7 ?_);subst hR;exact eK (eW (eI (aO (ag rfl) (aF _) rfl)) rfl (br (sY (aA (aF _) (aA (ag rfl) aG)) (by simp))))
 | none=>
  rw[hq] at e7;have ab:∀l,cJ ws.length (cF goods ws) l->nth l b=0->nth l a=0:=λl hl h0=>by obtain⟨p,hp,rfl⟩:=ss.mp (all l hl);have h1:=U8.mp hq p hp;have h2:=hl.fit.nn a;have h3:¬0<nth p.2 a:=λq=>h1 (by rw[decide_eq_true q,decide_eq_true h0];rfl);omega
  have e8:setM 8 (bL 1 [4] (listI (aa 5)) (aB 0) (a7 (ak gtD (ak ixD (aa 0) (aa 1)) (aq (.int 0)))) (aa 0)) #[J (pc .non) pi pi pi pi,E]=.next #[J (pc .non) (pc (.lst (bj (Q.filter λp=>decide (0<nth p.2 b))))) pi pi pi,E]:=by subst hR;exact bq (AF (l:=Q) (item:=λp=>.ptr p.1) (out:=λp=>.ptr p.1) (p:=λp=>decide (0<nth p.2 b)) (caps:=[4]) (im:=listI (aa 5)) (k:=pi) (by rw[b9,ag (i:=5) rfl,aj];rfl) trivial ⋯ (λp hp=>gM (aO (ag rfl) (ag rfl) (fM (sQ p hp) (by rw[Ql p hp];omega)))) (λp _ _=>ag rfl)) rfl
  have al:∀(m:SM) (o:Out),m #[J (pc .non) (pc (.lst (bj (Q.filter λp=>decide (0<nth p.2 b))))) pi pi pi,E]=o->aK (ifS (a7 (ak m5 (aa 7) (aq .non))) (bD (jE (af (aq (.str ("free" :Str))) (af (aa 7) ao)))) bC) (aK (setM 8 (bL 1 [4] (listI (aa 5)) (aB 0) (a7 (ak gtD (ak ixD (aa 0) (aa 1)) (aq (.int 0)))) (aa 0))) m) #[J (pc .non) pi pi pi pi,E]=o:=λm o h=>by refine aU (s1:=#[J (pc .non) pi pi pi pi,E]) ?_ (aU e8 h);subst hR;exact dX (eI (aO (ag rfl) (aF _) rfl)) rfl cD
  have fm:∀{p},p∈Q.filter (λp=>decide (0<nth p.2 b))->p∈Q/\0<nth p.2 b:=λh=>#[(xz.mp h).1,of_decide_eq_true (xz.mp h).2];have fi:∀{p},p∈Q->0<nth p.2 b->p∈Q.filter (λp=>decide (0<nth p.2 b)):=λh1 h2=>xz.mpr #[h1,decide_eq_true h2];generalize Q.filter (λp=>decide (0<nth p.2 b))=F at al fm fi e8;cases hF:F.isEmpty with
  | true=>
   have am:F=[]:=List.isEmpty_iff.mp hF;have bz:∀l,cJ ws.length (cF goods ws) l->nth l b=0:=λl hl=>by
    obtain⟨p,hp,rfl⟩:=ss.mp (all l hl);have h2:=hl.fit.nn b;have h3:¬0<nth p.2 b:=λq=>by have:=fi hp q;rw[am] at this;cases this
    omega
   have az:∀l,cJ ws.length (cF goods ws) l->nth l a=0:=λl hl=>ab l hl (bz l hl);obtain⟨Od,ed⟩:=IK (n:=ws.length) (a:=a) (b:=b) 1 1 ⋯ ⋯ ⋯;obtain⟨t,W,Oa,ea,_⟩:=BK (dem:=nt ws.length a 1 b 1) y.g4 y.w6 y.hs D6 ((MH (c:=1) ⋯ ⋯ (by unfold Sz;decide) (by unfold Sz;decide)).mono ∅) (λz fz=>by rw[qp ⋯ ⋯,tV ⋯ az fz,tV ⋯ bz fz];decide);refine#[.tup [.str "never",vI W],E, ?_,.never λx hx=>#[az x hx,bz x hx]];refine de (R:=J (pc .non) (pc (.lst (bj F))) (pc (.tup [.int t,vI W])) pi pi) ?_;show qu #[[pc (yD goods ws),pc (.str zs[a]),pc (.str zs[b]),pi,pi,pi,pi,pi,pi,pi,pi,pi],[]]=_;rw[qu];refine start _ _ (aU e7 (al _ _ ?_));subst hR;refine eK (eW (uk (LX (ag rfl))) ?_ (aU (bq (dJ (aA (ag rfl) (aA (dJ (aA (ag rfl) (aA (ag rfl) (aA (aF _) (aA (ag rfl) (aA (aF _) aG))))) ed (by simp) rfl (by simp)) aG)) ea (sN (kq _)) rfl (by simp)) rfl) (br (sY (aA (aF _) (aA (aO (ag rfl) (aF _) (f9 rfl)) aG)) (by simp)))));rw[am];rfl
  | false=>
   have am:F≠[]:=λe=>by subst e;cases hF
   obtain⟨p,mp,em,hm⟩:=Py (O:=E) (a:=a) (b:=b) (n:=ws.length) (Q:=F) (λq hq=>sQ q (fm hq).1) ⋯ ⋯ (λq hq=>Ql q (fm hq).1) (λq hq=>(lo q (fm hq).1).2) (λq hq=>(fm hq).2) am;have pQ:=(fm mp).1;have pb:=(fm mp).2;have pz:=(lo p pQ).2;have most:∀l,cJ ws.length (cF goods ws) l->nth l a*nth p.2 b<=nth p.2 a*nth l b:=λl hl=>by obtain⟨q,hq,rfl⟩:=ss.mp (all l hl);by_cases h:0<nth q.2 b;exact hm q (fi hq h);have:=hl.fit.nn b;have h0:nth q.2 b=0:=⋯;rw[h0,ab _ hl h0];simp
   have er:=Lq (n:=8000) ∅ (a:=nth p.2 a) (b:=nth p.2 b) ⋯ (pz.nth b);have rz:=Sz.rat (n:=8000) (m:=8000) (a:=nth p.2 a) (b:=nth p.2 b) ⋯ (pz.nth a) (pz.nth b);have rn:=OP ((lo p pQ).1.fit.nn a) pb;obtain⟨Od,ed⟩:=IK (n:=ws.length) (a:=a) (b:=b) (rat (nth p.2 a) (nth p.2 b)).2 (-(rat (nth p.2 a) (nth p.2 b)).1) ⋯ ⋯ ⋯;obtain⟨t,W,Oa,ea,_⟩:=BK (dem:=nt ws.length a (rat (nth p.2 a) (nth p.2 b)).2 b (-(rat (nth p.2 a) (nth p.2 b)).1)) y.g4 y.w6 y.hs D6 (Lx ⋯ ⋯ (SV rn.2) rn.1 rz.2 rz.1) (λz fz=>Gq ⋯ ⋯ (λl hl=>Bx pb (most l hl)) fz);refine#[_,E, ?_,.most (t:=t) (W:=W) (sQ p pQ) (lo p pQ).1 pz pb most];refine de (R:=J (pc .non) (pc (.lst (bj F))) (pc (.tup [.int t,vI W])) (pc (.ptr p.1)) (pc (.tup [.int (rat (nth p.2 a) (nth p.2 b)).1,.int (rat (nth p.2 a) (nth p.2 b)).2]))) ?_;show qu #[[pc (yD goods ws),pc (.str zs[a]),pc (.str zs[b]),pi,pi,pi,pi,pi,pi,pi,pi,pi],[]]=_;rw[qu];refine start _ _ (aU e7 (al _ _ ?_));subst hR;refine aU (dX (uk (LX (ag rfl))) ?_ cD) (aU (bq (gH (aA (ag rfl) (aA (ag rfl) (aA (ag rfl) aG))) em rfl) rfl) (aU (bq (dJ (aA (aO (ag rfl) (ag rfl) (fM (sQ p pQ) (by rw[Ql p pQ];omega))) (aA (aO (ag rfl) (ag rfl) (fM (sQ p pQ) (by rw[Ql p pQ];omega))) aG)) er (by simp) rfl rfl) rfl) (aU (bq (dJ (aA (ag rfl) (aA (dJ (aA (ag rfl) (aA (ag rfl) (aA (aO (ag rfl) (aF _) (f9 rfl)) (aA (ag rfl) (aA (GR (aO (ag rfl) (aF _) (f9 rfl)) tW) aG))))) ed (by simp) rfl (by simp)) aG)) ea (sN (kq _)) rfl (by simp)) rfl) (br (sY (aA (aF _) (aA (ag rfl) (aA (ag rfl) (aA (aO (ag rfl) (aF _) (f9 rfl)) (aA (aO (ag rfl) (aF _) (f9 rfl)) aG))))) (by simp))))));cases F with
   | nil=>exact absurd rfl am
   | cons _ _=>rfl
theorem lI.sh{R:List (List Int)}{O S:aC}(h:lI n R a b O d):lI n R a b (S++O.map (shC S.length)) (shD S.length d):=by
 have cell:∀{k:Nat} {x:List Int},O[k]? =pc (.lst (x.map D.int))->(S++O.map (shC S.length))[S.length+k]? =pc (.lst (x.map D.int)):=λ{k x} h=>zM (S:=S) (L:=[(k,x)]) (λp hp=>by rw[wn.mp hp];exact h) (S.length+k,x) (by simp);cases h with
 | free h lo z ha hb=>
  rename_i k x;rw[show shD S.length (.tup [.str "free",.ptr k])=.tup [.str "free",.ptr (S.length+k)] by simp[shD,fG]];exact .free (cell h) lo z ha hb
 | never h=>
  rename_i W;rw[show shD S.length (.tup [.str "never",vI W])=.tup [.str "never",vI W] by simp[shD,fG]];exact .never h
 | most h lo z hb hm=>
  rename_i k x W t;rw[show shD S.length (.tup [.str "most",.tup [.int (rat (nth x a) (nth x b)).1,.int (rat (nth x a) (nth x b)).2],.ptr k,.int t,vI W])=.tup [.str "most",.tup [.int (rat (nth x a) (nth x b)).1,.int (rat (nth x a) (nth x b)).2],.ptr (S.length+k),.int t,vI W] by simp[shD,fG]];exact .most (cell h) lo z hb hm
theorem lI.app{R:List (List Int)}{O E:aC}(h:lI n R a b O d):lI n R a b (O++E) d:=by
 cases h with
 | free h lo z ha hb=>exact .free (ee h) lo z ha hb
 | never h=>exact .never h
 | most h lo z hb hm=>exact .most (ee h) lo z hb hm
theorem HP(y:YS goods ws zs)(ha:a<zs.length)(hb:b<zs.length){m0 m1 m2:EM}(h0:m0 #[R,O]=.ok (yD goods ws,#[R,O]))(h1:m1 #[R,O]=.ok (.str zs[a],#[R,O]))(h2:m2 #[R,O]=.ok (.str zs[b],#[R,O])):∃d E,d3 3 p6 (af m0 (af m1 (af m2 ao))) #[R,O]=.ok (d,#[R,O++E])/\lI ws.length (cF goods ws) a b (O++E) d:=by obtain⟨d,O1,e,m⟩:=MG y ha hb;exact#[shD O.length d,O1.map (shC O.length),jB (aA h0 (aA h1 (aA h2 aG))) e (sN (by simp)) rfl rfl rfl,m.sh]
abbrev pR(ns:List Int)(goods:List Str)(ws:List Wk)(A:List (List Int))(w:List Int)(X:List (Option D)):List (Option D):=pc (vI ns)::pc (sD goods)::pc (wsD ws)::pc (vII A)::pc (vI w)::pc (yD goods ws)::X
theorem yW.ys(p:yW mg mw goods ws A w)(g4:mg<=4)(w6:mw<=6):YS goods ws (ws.map (·.nm)):=by have h1:=p.gd.le;have h2:=p.nm.le;rw[sB] at h2;refine#[⋯,⋯, ?_,rfl,p.nm.nd];have:chL goods ws=A:=p.ch;rw[this];exact p.sz.mono ∅
theorem J4(ns:List Int)(g1:1<=mg)(g4:mg<=4)(w1:1<=mw)(w6:mw<=6)(X:List (Option D))(m:SM)(C:Out->Prop)(hm:∀goods ws A w,yW mg mw goods ws A w->∃o,m #[pR ns goods ws A w X,[]]=o/\C o):
 ∃o,aK (gA (aX 3 kS (af (aa 0) (af (aq (.int (mg:Int))) (af (aq (.int (mw:Int))) ao)))) (c7 (bc (aB 1) (bc (aB 2) (bc (aB 3) (bc (aB 4) c8)))) 4)) (aK (setM 5 (zD 0 2 kM (af (aa 1) (af (aa 2) ao)))) m) #[pc (vI ns)::pi::pi::pi::pi::pi::X,[]]=o/\C o:=by
 obtain⟨goods,ws,A,w,O,e,p⟩:=Jd ns g1 g4 w1 w6;have h1:=p.gd.le;have h2:=p.nm.le;rw[sB] at h2;have U:A1 goods ws:=#[λw J=>p.nm.g _ (G0 J),p.nm.nd,λw J=>(p.mw w J).us,λw J=>(p.mw w J).ms];have pt:cW (.tup [sD goods,wsD ws,vII A,vI w])=true:=by show (aR (goods.map D.str)&&(aR (ws.map wD)&&(aR (A.map vI)&&(aR (w.map D.int)&&qc))))=qc;rw[dO,mT,i5];simp
 have Y:aR [sD goods,wsD ws]=true:=by show (aR (goods.map D.str)&&(aR (ws.map wD)&&qc))=qc;rw[dO,mT];rfl
 obtain⟨o,eo,ho⟩:=hm goods ws A w p;exact#[o,aU (CK (dJ (aA (ag rfl) (aA (aF _) (aA (aF _) aG))) e (by simp) rfl pt) rfl) (aU (dM (i:=5) (s':=#[pc (vI ns)::pc (sD goods)::pc (wsD ws)::pc (vII A)::pc (vI w)::pi::X,[]]) (KG (args:=[sD goods,wsD ws]) (aA (ag rfl) (aA (ag rfl) aG)) Y rfl (Ms p.gd.g p.gd.nd U ⋯ ⋯) gK)) eo),ho]
theorem Nr(J:way.length=ws.length)(h1:goods.length<=1000)(h2:ws.length<=1000)(h0:∀t∈way,0<=t)(mw:KP goods ws way):iy [yD goods ws,vI way] []=.ok (.bl ((lvL goods ws way).all λt=>decide (t=0)),[]):=by
 have J:=nq (c:=0) (m:="leaves") (n:=1) (f:=ie) (mo:=aa 0) (ma:=af (aa 1) ao) (s:=#[[pc (yD goods ws),pc (vI way)],[]]) (ns:=FN) (ds:=yDs goods ws) (args:=[vI way]) (ag rfl) (aA (ag rfl) aG) (Hr J h1 h2 h0 mw) ∅ gK (kq way) rfl (by generalize lvL goods ws way=r;simp);have ll:(lvL goods ws way).length=goods.length:=by unfold lvL cF;simp
 generalize lvL goods ws way=L at J ll;have hc:=dg (l:=L) (item:=D.int) (out:=λx=>.bl (decide (x=0))) (caps:=[]) (im:=listI (methP 0 "leaves" 1 ie (aa 0) (af (aa 1) ao))) (e:=ak eqD (aa 0) (aq (.int 0))) (k:=pi) (s:=#[[pc (yD goods ws),pc (vI way)],[]]) (by rw[b9,J];rfl) trivial ⋯ (λx _=>aO (ag rfl) (aF _) mC);rw[show L.map (λx=>D.bl (decide (x=0)))=(L.map λx=>decide (x=0)).map D.bl by rw[wf];rfl] at hc;refine de (R:=[pc (yD goods ws),pc (vI way)]) ?_;show ig #[[pc (yD goods ws),pc (vI way)],[]]=_;rw[ig];refine br (hE (aA hc aG) ?_);rw[Ee,TH];rfl
theorem IW{f:Nat->Int}:((uM n).map f).sum=bt n f:=by
 induction n with
 | zero=>rfl
 | succ n J=>rw[UF,KE,Vx,J];simp[bt]
theorem DE{Q:List Int->Prop}:∀{outs:List D},(∀y∈outs,∃r,y=vI r/\Q r)->∃L:List (List Int),outs=L.map vI/\∀n∈L,Q n
 | [],_=>#[[],rfl,by simp]
 | y::outs,h=>by
  obtain⟨r,rfl,hr⟩:=h y uC;obtain⟨ns,rfl,hn⟩:=DE (outs:=outs) λz hz=>h z (tz _ hz);exact#[r::ns,rfl,λn J=>by rcases u8.mp J with rfl | q;exact hr;exact hn n q]
theorem Ii {caps:List Nat} {e:EM} {k:Option Nat} (PO:aC->Prop) (Q:List Int->Prop) (J:im s=.ok ((ds,k),s)) (U:∀O,PO O->okC ds k O) (h0:PO s.o) (hl:ds.length<=1000000)
 (he:∀d∈ds,∀O,PO O->∃r O',e #[pc d::caps.map (λi=>(s.r[i]?).getD pi),O]=.ok (vI r,#[pc d::caps.map (λi=>(s.r[i]?).getD pi),O'])/\Q r/\PO O'):
 ∃(L:List (List Int)) (O':aC),bL 1 caps im (aB 0) bM e s=.ok (vII L,#[s.r,O'])/\L.length=ds.length/\(∀n∈L,Q n)/\PO O':=by
 obtain⟨Y,s',e1,h1,h2,x,O',h3,h4⟩:=vq (ok:=okC ds k) (g:=aB 0) (c:=bM) (e:=e) (λs2=>∃x O',s2=#[x::caps.map (λi=>(s.r[i]?).getD pi),O']/\PO O') (λy=>∃r,y=vI r/\Q r) (by rintro _ ⟨_,O',rfl,h⟩;exact U O' h) ds [] #[mE 1 caps s.r,s.o] (by rintro d hd _ ⟨x,O',rfl,h⟩;obtain⟨r,O2,q1,q2,q3⟩:=he d hd O' h;exact#[_,_,vI r,_,rfl,rfl,q1,#[r,rfl,q2],_,O2,rfl,q3]) (by simpa using kD hl) #[pi,s.o,rfl,h0]
 obtain⟨ns,rfl,hn⟩:=DE h2;refine#[ns,O', ?_,by simpa using h1,hn,h4];rw[lS,pM,J,aj];dsimp only;rw[e1,aj,aj];subst h3;rfl
def lfN(A:List (List Int))(x:List Int)(g:Nat):Int:=bt x.length λk=>nth x k*nth (A.getD k []) g
theorem Nk{g:Nat}(hl:x.length<=1000)(la:A.length=x.length)(U:∀r∈A,g<r.length)(Y:SzL 9000 x)(zA:cE 90 A):a7 (ak neD (bJ tK (af (bL 1 [3,1,0] (fb (af (bJ cx (af (aa 0) ao)) ao)) (aB 0) bM (ak cI (ak ixD (aa 3) (aa 0)) (ak ixD (ak ixD (aa 2) (aa 0)) (aa 1)))) ao)) (aq (.int 0))) #[[pc (vI x),pc (vII A),pc (sD goods),pc (.int (g:Int))],[]]=.ok (!decide (lfN A x g=0),#[[pc (vI x),pc (vII A),pc (sD goods),pc (.int (g:Int))],[]]):=by
 have e:=dg (l:=uM x.length) (item:=λi:Nat=>D.int (i:Int)) (out:=λk=>.int (nth x k*nth (A.getD k []) g)) (caps:=[3,1,0]) (im:=fb (af (bJ cx (af (aa 0) ao)) ao)) (e:=ak cI (ak ixD (aa 3) (aa 0)) (ak ixD (ak ixD (aa 2) (aa 0)) (aa 1))) (k:=pi) (s:=#[[pc (vI x),pc (vII A),pc (sD goods),pc (.int (g:Int))],[]]) (by
  rw[<- ib];exact fL (aA (hE (aA (ag rfl) aG) (by rw[fg,sB])) aG) ⋯) trivial (by simp;omega) (λk hk=>by
  have J:=AC.mp hk;have mA:=uR (A:=A) (i:=k) ⋯;exact aO (aO (ag rfl) (ag rfl) (g9 J)) (aO (aO (ag rfl) (ag rfl) (IJ ⋯)) (ag rfl) (g9 (U _ mA))) (cN (gw ∅ ∅ (Y.nth k) ((zA _ mA).nth g))))
 rw[show (uM x.length).map (λk=>D.int (nth x k*nth (A.getD k []) g))=((uM x.length).map λk=>nth x k*nth (A.getD k []) g).map D.int by rw[wf];rfl] at e;refine eI (aO (hE (aA e aG) qI) (aF _) ?_);rw[IW];rfl
theorem okT(K:List D):okC K pi O:=trivial
theorem GQ{ok:aC->Prop}{g:GM}{body:SM}{d v:D}(J:ok s.o)(U:g d s=.ok s1)(hb:body s1=.ret v s2):bT ok g body (d::ds) s=.ret v s2:=by rw[bT,if_pos J,U,kN,hb]
theorem HV{A:List (List Int)}{x:List Int}{goods:List Str}(K:List D)(hl:x.length<=1000)(la:A.length=x.length)(lg:∀r∈A,r.length=goods.length)(zx:SzL 9000 x)(zA:cE 90 A):∀(l:List Nat) (x3:Option D),(∀g∈l,g<goods.length)->
 ((∀g∈l,lfN A x g=0)->∃U,bT (okC K pi) (aB 3) dZ (l.map λg:Nat=>D.int (g:Int)) #[[pc (vI x),pc (vII A),pc (sD goods),x3],[]]=.next #[[pc (vI x),pc (vII A),pc (sD goods),U],[]])/\
 ((∃g∈l,lfN A x g≠0)->∃U,bT (okC K pi) (aB 3) dZ (l.map λg:Nat=>D.int (g:Int)) #[[pc (vI x),pc (vII A),pc (sD goods),x3],[]]=.ret (.bl wh) #[[pc (vI x),pc (vII A),pc (sD goods),U],[]])
 | [],x3,_=>#[λ_=>#[x3,by show bT _ _ _ [] _=_;rw[bT,if_pos (show okC K pi _ from trivial)]],λ#[g,h,_]=>by cases h]
 | g::l,x3,J=>by
  obtain⟨i1,i2⟩:=HV K hl la lg zx zA l (pc (.int (g:Int))) λq hq=>J q (tz _ hq);have t:=Nk (goods:=goods) (g:=g) hl la (λr hr=>by rw[lg r hr];exact J g uC) zx zA;by_cases h:lfN A x g=0;have Y:dZ #[[pc (vI x),pc (vII A),pc (sD goods),pc (.int (g:Int))],[]]=.next #[[pc (vI x),pc (vII A),pc (sD goods),pc (.int (g:Int))],[]]:=by rw[dZ];exact dX t (by rw[decide_eq_true h];rfl) cD
  rw[ww,mM (okT K) (show aB 3 (D.int (g:Int)) #[[pc (vI x),pc (vII A),pc (sD goods),x3],[]]=.ok #[[pc (vI x),pc (vII A),pc (sD goods),pc (.int (g:Int))],[]] from rfl) Y];refine#[λq=>i1 λg J=>q g (tz _ J),λ#[q,hq,hn]=>i2 ?_];rcases u8.mp hq with e | e
  subst e;exact absurd h hn;exact#[q,e,hn];have Y:dZ #[[pc (vI x),pc (vII A),pc (sD goods),pc (.int (g:Int))],[]]=.ret (.bl wh) #[[pc (vI x),pc (vII A),pc (sD goods),pc (.int (g:Int))],[]]:=by rw[dZ];exact eW t (by rw[decide_eq_false h];rfl) (br (aF _))
  rw[ww,GQ (okT K) (show aB 3 (D.int (g:Int)) #[[pc (vI x),pc (vII A),pc (sD goods),x3],[]]=.ok #[[pc (vI x),pc (vII A),pc (sD goods),pc (.int (g:Int))],[]] from rfl) Y];exact#[λq=>absurd (q g uC) h,λ_=>#[_,rfl]]
theorem xm(hl:x.length<=1000)(J:goods.length<=1000)(la:A.length=x.length)(lg:∀r∈A,r.length=goods.length)(zx:SzL 9000 x)(zA:cE 90 A):∃b,eU [vI x,vII A,sD goods] []=.ok (.bl b,[])/\(b=qc↔∀g,g<goods.length->lfN A x g=0):=by
 obtain⟨Y,i2⟩:=HV (cX 0 (goods.length:Int)) hl la lg zx zA (uM goods.length) pi λg J=>AC.mp J;have hf:=cY (im:=fb (af (bJ cx (af (aa 2) ao)) ao)) (g:=aB 3) (body:=dZ) (s:=#[[pc (vI x),pc (vII A),pc (sD goods),pi],[]]) (fL (n:=goods.length) (aA (hE (aA (ag (i:=2) rfl) aG) (by rw[fg,sB])) aG) ⋯);rw[<- ib] at Y i2;by_cases h:∀g,g<goods.length->lfN A x g=0;obtain⟨U,e⟩:=Y λg J=>h g (AC.mp J);refine#[qc,de (R:=[pc (vI x),pc (vII A),pc (sD goods),U]) ?_,λ_=>h,λ_=>rfl];show iY #[[pc (vI x),pc (vII A),pc (sD goods),pi],[]]=_;rw[iY];exact aU (hf.trans e) (br (aF _));obtain⟨U,e⟩:=i2 (by apply Kb;intro q;exact h λg J=>Kb λhn=>q #[g,AC.mpr J,hn])
 refine#[wh,de (R:=[pc (vI x),pc (vII A),pc (sD goods),U]) ?_,(λq=>by cases q),λq=>absurd q h];show iY #[[pc (vI x),pc (vII A),pc (sD goods),pi],[]]=_;rw[iY];exact eK (hf.trans e)
structure oH(goods:List Str)(ws:List Wk)(x:List Int):Prop where
 len:x.length=ws.length
 nn:∀i,0<=nth x i
 st:∀r∈cF goods ws,a6 ws.length (nth r) (nth x)=0
 sz:SzL 8050 x
theorem JF{g:Nat}(J:x.length=ws.length):lfN (chL goods ws) x g=a6 ws.length (nth (lO goods ws g)) (nth x):=by
 unfold lfN a6;rw[J];refine bS λk hk=> ?_;have U:(chL goods ws).getD k []=goods.map (chg ws[k]):=by rw[pr,wv,sK hk];rfl
 have hr:nth (lO goods ws g) k=nth (goods.map (chg ws[k])) g:=by show (List.map (λw=>nth (goods.map (chg w)) g) ws).getD k 0=_;rw[pr,wv,sK hk];rfl
 rw[U,hr,Rr]
theorem oH.lf(b:oH goods ws x):∀g,g<goods.length->lfN (chL goods ws) x g=0:=λg J=>by rw[JF b.len];exact b.st _ (by unfold cF;exact G0 (AC.mpr J))
theorem Pq(U:x.length=ws.length)(h:∀g,g<goods.length->lfN (chL goods ws) x g=0):∀r∈cF goods ws,a6 ws.length (nth r) (nth x)=0:=λr hr=>by unfold cF at hr;obtain⟨g,J,rfl⟩:=ss.mp hr;have J:=AC.mp J;rw[<- JF U];exact h g J
theorem oH.run(b:oH goods ws x)(g4:goods.length<=4)(w6:ws.length<=6)(hs:cE 90 (chL goods ws)):iy [yD goods ws,vI x] []=.ok (.bl qc,[]):=by
 have mw:KP goods ws x:=#[λw U g Y t J=>gw (m:=90) (n:=9000) ∅ ∅ (hs (goods.map (chg w)) (ss.mpr #[w,U,rfl]) _ (G0 Y)) ((b.sz t J).mono ∅)];rw[Nr b.len ⋯ ⋯ (λt J=>by obtain⟨i,_,rfl⟩:=wg J;exact b.nn i) mw,show (lvL goods ws x).all (λt=>decide (t=0))=qc by rw[SD];intro t J;unfold lvL at J;obtain⟨r,hr,rfl⟩:=ss.mp J;rw[jm b.len,b.st r hr];rfl]
theorem oH.cases(b:oH goods ws x):(∀i,nth x i=0)\/Fit ws.length (cF goods ws) x:=by by_cases h:∃i,nth x i≠0;exact .inr #[b.len,b.nn,b.st,h];exact .inl λi=>Kb λq=>h #[i,q]
abbrev dnR(j:Nat)(way:List Int)(Q:List (Nat×List Int))(x3 x4 x5 x6:Option D):List (Option D):=[pc (.ptr j),pc (vI way),pc (.lst (bj Q)),x3,x4,x5,x6]
structure DrI(goods:List Str)(ws:List Wk)(c:Nat)(x:List Int):Prop where
 len:x.length=ws.length
 nn:∀i,0<=nth x i
 st:∀r∈cF goods ws,a6 ws.length (nth r) (nth x)=0
 sz:∀i,(nth x i).natAbs<=(c+1)*2^8040
theorem MT{x l:List Int}{o:Int}(h:x.length=l.length)(i:Nat)(hi:i<x.length):nth ((x.zip l).map λp=>p.1+o*p.2) i=nth x i+o*nth l i:=by unfold nth;rw[pr,wv,sK (by rw[RA];omega),pr,pr,sK hi,sK (show i<l.length by omega)];simp
theorem uc(h:x.length<=i):nth x i=0:=by unfold nth;rw[pr,SU h];rfl
theorem DrI.step{x l:List Int}{o:Int}(d:DrI goods ws c x)(lo:cJ ws.length (cF goods ws) l)(z:SzL 8000 l)(J:0<=o)(Y:o<1000000000000):DrI goods ws (c+1) ((x.zip l).map λp=>p.1+o*p.2):=by
 have ll:=lo.fit.len;have dl:=d.len;have hn:=MT (x:=x) (l:=l) (o:=o) ⋯;have ml:((x.zip l).map λp=>p.1+o*p.2).length=ws.length:=by rw[sB,RA];omega
 refine#[ml,λi=> ?_,λr hr=> ?_,λi=> ?_];by_cases hi:i<x.length;rw[hn i hi];have:=d.nn i;have:=Rq J (lo.fit.nn i);omega;rw[uc ⋯];exact Tn 0;have:a6 ws.length (nth r) (nth ((x.zip l).map λp=>p.1+o*p.2))=a6 ws.length (nth r) (nth x)+o*a6 ws.length (nth r) (nth l):=by unfold a6;rw[<- dD,<- nE];exact bS λi hi=>by rw[hn i ⋯,Int.mul_add,<- Rt,<- Rt,Rr o]
 rw[this,d.st r hr,lo.fit.st r hr];omega;by_cases hi:i<x.length;rw[hn i hi];have h1:=d.sz i;have h2:Sz 8040 (o*nth l i):=(Sz.mul (m:=40) (n:=8000) (by unfold Sz;omega) (z.nth i)).mono ∅;have U:(o*nth l i).natAbs<2^8040:=h2;have h4:=Tj (nth x i) (o*nth l i);rw[Nat.add_mul (c+1) 1];generalize 2^8040=P at h1 U ⊢;generalize (c+1)*P=T at h1 ⊢;omega;rw[uc ⋯];exact Oz _
theorem NY{way x:List Int}{p:Nat×List Int}{x3 x6:Option D}(hb:cy O j)(sQ:Sto O Q)(jQ:∀p∈Q,p.1≠j)(hp:p∈Q)(lo:cJ ws.length (cF goods ws) p.2)(z:SzL 8000 p.2)(w6:ws.length<=6)(d:DrI goods ws c x):
 ∃x' O' y6,lu #[dnR j way Q x3 (pc (vI x)) (pc (.ptr p.1)) x6,O]=.next #[dnR j way Q x3 (pc (vI x')) (pc (.ptr p.1)) y6,O']/\DrI goods ws (c+1) x'/\cy O' j/\∀i,i≠j->O'[i]? =O[i]? :=by
 obtain⟨r1,O1,e1,l1,ac,k1⟩:=iC (R:=dnR j way Q x3 (pc (vI x)) (pc (.ptr p.1)) x6) (m:=4) hb ∅ (mb:=aa 0) (mm:=aq (.int 4)) (ag rfl) (aF _);have st:∃(o:Int) (J:aC),(ifS (a7 (ak eqD (bN 2 aQ (af (aa 0) (af (aq (.int 9)) ao))) (aq (.int 8)))) (setM 6 (ak cI (bN 2 aQ (af (aa 0) (af (ak hJ (aq (.int 10)) (aq (.int 6))) ao))) (ak hJ (aq (.int 10)) (aq (.int 6))))) bC) #[dnR j way Q x3 (pc (vI x)) (pc (.ptr p.1)) (pc (.int (r1:Int))),O1]=.next #[dnR j way Q x3 (pc (vI x)) (pc (.ptr p.1)) (pc (.int o)),J]/\(0<=o/\o<1000000000000)/\cy J j/\∀i,i≠j->J[i]? =O1[i]? :=by obtain⟨r2,J,e2,_,U,Y⟩:=iC (R:=dnR j way Q x3 (pc (vI x)) (pc (.ptr p.1)) (pc (.int (r1:Int)))) (m:=9) ac ∅ (mb:=aa 0) (mm:=aq (.int 9)) (ag rfl) (aF _);have t:=eq_test (j:=8) e2;by_cases h:(r2:Int)=8;obtain⟨r3,O3,e3,l3,al,k3⟩:=iC (R:=dnR j way Q x3 (pc (vI x)) (pc (.ptr p.1)) (pc (.int (r1:Int)))) (m:=1000000) U ∅ (mb:=aa 0) (mm:=ak hJ (aq (.int 10)) (aq (.int 6))) (ag rfl) (aO (aF _) (aF _) (j6 ∅ ∅ ∅));refine#[(r3:Int)*1000000,O3,eW t (decide_eq_true h) (bq (aO e3 (aO (aF _) (aF _) (j6 ∅ ∅ ∅)) (cN (eN (.inr ∅)))) rfl),⋯,al,λi hi=>by rw[k3 i hi,Y i hi]];exact#[(r1:Int),J,dX t (decide_eq_false h) cD,⋯,U,Y]
 obtain⟨o,J,e2,ob,U,Y⟩:=st;have cp:J[p.1]? =pc (.lst (p.2.map D.int)):=by rw[Y _ (jQ p hp),k1 _ (jQ p hp)];exact sQ p hp
 have ec:=Gj (l:=x.zip p.2) (f:=λq=>.int q.1) (g:=λq=>.int q.2) (out:=λq=>.int (q.1+o*q.2)) (caps:=[6]) (im:=ya (af (aa 4) (af (aa 5) ao))) (e:=ak cq (aa 0) (ak cI (aa 2) (aa 1))) (s:=#[dnR j way Q x3 (pc (vI x)) (pc (.ptr p.1)) (pc (.int o)),J]) (ok:=λO=>lsD O (vI x)=pc (x.map D.int)/\lsD O (.ptr p.1)=pc (p.2.map D.int)) (by rw[<- oa];exact Jt (aA (ag rfl) (aA (ag rfl) aG)) ia (jx cp)) #[ia,jx cp] (by rw[RA,d.len];omega) (λq _=>aO (ag rfl) (aO (ag rfl) (ag rfl) (cN (eN (.inl ⋯)))) d7)
 rw[show (x.zip p.2).map (λq=>D.int (q.1+o*q.2))=((x.zip p.2).map λq=>q.1+o*q.2).map D.int by rw[wf];rfl] at ec;refine#[(x.zip p.2).map λq=>q.1+o*q.2,J,pc (.int o), ?_,d.step lo z ob.1 ob.2,U,λi hi=>by rw[Y i hi,k1 i hi]];rw[lu];exact aU (bq e1 rfl) (aU e2 (bq ec rfl))
theorem JX(hb:cy O j)(sQ:Sto O Q)(jQ:∀p∈Q,p.1≠j)(lo:∀p∈Q,cJ ws.length (cF goods ws) p.2/\SzL 8000 p.2)(few:Q.length<64)(w6:ws.length<=6)(b:oH goods ws way)(wb:∀i,nth way i<1000000):
 ∃x O',iJ [.ptr j,vI way,.lst (bj Q)] O=.ok (vI x,O')/\oH goods ws x/\cy O' j/\∀i,i≠j->O'[i]? =O[i]? :=by
 obtain⟨r,O1,e1,l1,al,k1⟩:=iC (R:=dnR j way Q pi pi pi pi) (m:=3) hb ∅ (mb:=aa 0) (mm:=aq (.int 3)) (ag rfl) (aF _);have wl:=b.len;have ec:=dg (l:=way) (item:=D.int) (out:=λq=>.int (q*(r:Int))) (caps:=[3]) (im:=listI (aa 1)) (e:=ak cI (aa 0) (aa 1)) (k:=pi) (s:=#[dnR j way Q (pc (.int (r:Int))) pi pi pi,O1]) (by rw[b9,ag (i:=1) rfl,aj];rfl) trivial ⋯ (λq _=>aO (ag rfl) (ag rfl) (cN (eN (.inr ⋯))));rw[show way.map (λq=>D.int (q*(r:Int)))=(way.map (· * (r:Int))).map D.int by rw[wf];rfl] at ec;have hn:∀i,nth (way.map (· * (r:Int))) i=nth way i*(r:Int):=λi=>iQ (f:=(· * (r:Int))) (by simp) _ _;have d0:DrI goods ws 0 (way.map (· * (r:Int))):=by
  refine#[by rw[sB];exact wl,λi=> ?_,λq hq=> ?_,λi=> ?_];rw[hn];exact Rq (b.nn i) ⋯;have:=b.st q hq;have e:a6 ws.length (nth q) (nth (way.map (· * (r:Int))))=(r:Int)*a6 ws.length (nth q) (nth way):=by unfold a6;rw[<- dD];exact bS λi _=>by rw[hn,Rr (r:Int),Rt]
  rw[e,this,SY];rw[hn];have h1:=b.nn i;have h2:=wb i;have hr:r=0\/r=1\/r=2:=⋯;have h4:(nth way i*(r:Int)).natAbs<=2000000:=by rcases hr with q | q | q <;> rw[q] <;> omega
  have h5:(2000000:Nat)<=2^21:=∅;have h6:(2:Nat)^21<=2^8040:=RC ∅ ∅;rw[Va,Nat.one_mul];exact IN h4 (IN h5 h6)
 obtain⟨s',el,x,U,Y,x6,d,J,k2,rfl⟩:=dh (ok:=okC (bj Q) pi) (g:=aB 5) (body:=lu)
  (λpre s=>∃(x:List Int) (U:aC) (Y x6:Option D),DrI goods ws pre.length x/\cy U j/\(∀i,i≠j->U[i]? =O[i]?)/\s=#[dnR j way Q (pc (.int (r:Int))) (pc (vI x)) Y x6,U]) (λ_ _ _=>trivial) (bj Q) [] (by rintro pre dd rest ed s ⟨x,U,Y,x6,d,J,k2,rfl⟩;rw[wT] at ed;obtain⟨bd,rfl⟩:=i6 ed;have mp:Q[pre.length]∈Q:=AL _;generalize Q[pre.length]=p at mp;obtain⟨x',O3,y6,eb,d',am,k3⟩:=NY (way:=way) (x3:=pc (.int (r:Int))) (x6:=x6) J (λq hq=>by rw[k2 _ (jQ q hq)];exact sQ q hq) jQ mp (lo p mp).1 (lo p mp).2 w6 d;exact#[_,_,rfl,.inl eb,x',O3,_,_,by simpa using d',am,λi hi=>by rw[k3 i hi,k2 i hi],rfl]) #[dnR j way Q (pc (.int (r:Int))) (pc (vI (way.map (· * (r:Int))))) pi pi,O1] #[_,O1,pi,pi,d0,al,k1,rfl]
 rw[wT,sB] at d;refine#[x,U, ?_,#[d.len,d.nn,d.st,λt ht=> ?_],J,k2];refine de (R:=dnR j way Q (pc (.int (r:Int))) (pc (vI x)) Y x6) ?_;show rB #[dnR j way Q pi pi pi pi,O]=_;rw[rB];exact aU (bq e1 rfl) (aU (bq ec rfl) (aU ((cY (ds:=bj Q) (k:=pi) (s1:=#[dnR j way Q (pc (.int (r:Int))) (pc (vI (way.map (· * (r:Int))))) pi pi,O1]) (by rw[b9,ag (i:=2) rfl,aj];rfl)).trans el) (br (ag rfl))));obtain⟨i,_,rfl⟩:=wg ht;have h1:=d.sz i;show _<2^8050;rw[show 8050=8040+10 from rfl,UK];have hp:0<2^8040:=S8 _;refine Sk h1 ?_;rw[TN];exact Nat.mul_lt_mul_of_pos_left ⋯ hp
theorem A9(O:aC)(i j:Str):eqD O (.str i) (.str j)=.ok (.bl (decide (i=j))):=rfl
theorem Aq{s:Str}{r:List D}(t:Str)(h:R[i]? =pc (pc (.tup (.str s::r)))):ak eqD (ak ixD (aa i) (aq (.int 0))) (aq (.str t)) #[R,O]=.ok (.bl (decide (s=t)),#[R,O]):=aO (aO (ag h) (aF _) (f9 (gZ (l:=.str s::r) (i:=0) (by simp)))) (aF _) (A9 _ _ _)
theorem CS{s d:D}{r:List D}(h:R[i]? =pc (pc (.tup (s::d::r)))):ak ixD (aa i) (aq (.int 1)) #[R,O]=.ok (d,#[R,O]):=aO (ag h) (aF _) (f9 (gZ (l:=s::d::r) (i:=1) (by simp)))
theorem EB(ha:a<ws.length)(hb:b<ws.length)(m:lI ws.length (cF goods ws) a b O d)(J:oH goods ws x):jz [d,vI x,.int (a:Int),.int (b:Int)] O=.ok (.bl qc,O):=by
 refine de (R:=[pc d,pc (vI x),pc (.int (a:Int)),pc (.int (b:Int))]) ?_;show rV #[[pc d,pc (vI x),pc (.int (a:Int)),pc (.int (b:Int))],O]=_;rw[rV];have xl:=J.len;have U:ak ixD (aa 1) (aa 2) #[[pc d,pc (vI x),pc (.int (a:Int)),pc (.int (b:Int))],O]=.ok (.int (nth x a),#[[pc d,pc (vI x),pc (.int (a:Int)),pc (.int (b:Int))],O]):=aO (ag rfl) (ag rfl) (g9 ⋯);have Y:ak ixD (aa 1) (aa 3) #[[pc d,pc (vI x),pc (.int (a:Int)),pc (.int (b:Int))],O]=.ok (.int (nth x b),#[[pc d,pc (vI x),pc (.int (a:Int)),pc (.int (b:Int))],O]):=aO (ag rfl) (ag rfl) (g9 ⋯);cases m with
 | never h=>
  have za:nth x a=0:=by rcases J.cases with q | q;exact q a;exact tV ha (λl hl=>(h l hl).1) q
  have zb:nth x b=0:=by rcases J.cases with q | q;exact q b;exact tV hb (λl hl=>(h l hl).2) q
  rw[za] at U;rw[zb] at Y;exact eK (eW (eI (Aq "never" rfl)) ∅ (br (A0 (aO U (aF _) mC) ∅ (aO Y (aF _) mC))))
 | free h lo z h1 h2=>
  rename_i k y;have yl:=lo.fit.len;have pa:ak ixD (ak ixD (aa 0) (aq (.int 1))) (aa 2) #[[pc (.tup [.str "free",.ptr k]),pc (vI x),pc (.int (a:Int)),pc (.int (b:Int))],O]=.ok (.int (nth y a),#[[pc (.tup [.str "free",.ptr k]),pc (vI x),pc (.int (a:Int)),pc (.int (b:Int))],O]):=aO (CS rfl) (ag rfl) (fM h ⋯);have pb:ak ixD (ak ixD (aa 0) (aq (.int 1))) (aa 3) #[[pc (.tup [.str "free",.ptr k]),pc (vI x),pc (.int (a:Int)),pc (.int (b:Int))],O]=.ok (.int (nth y b),#[[pc (.tup [.str "free",.ptr k]),pc (vI x),pc (.int (a:Int)),pc (.int (b:Int))],O]):=aO (CS rfl) (ag rfl) (fM h ⋯);refine aU (dX (eI (Aq "never" rfl)) ∅ cD) (eK (eW (eI (Aq "free" rfl)) ∅ (br (A0 (aO (aO U pa d7) U wY) (decide_eq_true ⋯) ?_))));refine aO (aO Y pb d7) Y ?_;rw[mC,decide_eq_true ⋯]
 | most h lo z ac hm=>
  rename_i k y W t;have i0:∀(u v:Int),atI [D.int u,D.int v] 0=pc (.int u):=λu v=>gZ (l:=[D.int u,D.int v]) (i:=0) (by simp);have i1:∀(u v:Int),atI [D.int u,D.int v] 1=pc (.int v):=λu v=>gZ (l:=[D.int u,D.int v]) (i:=1) (by simp);have rz:=Sz.rat (n:=8000) (m:=8000) (a:=nth y a) (b:=nth y b) ⋯ (z.nth a) (z.nth b);have le:(rat (nth y a) (nth y b)).2*nth x a<=(rat (nth y a) (nth y b)).1*nth x b:=by rcases J.cases with q | q;rw[q a,q b];simp;have:=Gq ha hb (λl hl=>Bx ac (hm l hl)) q;rw[qp ha hb,UM] at this;omega
  refine aU (dX (eI (Aq "never" rfl)) ∅ cD) (aU (dX (eI (Aq "free" rfl)) ∅ cD) (br (A0 (Aq "most" rfl) ∅ (aO (aO (aO (CS rfl) (aF _) (f9 (i1 _ _))) U (cN (gw ∅ ∅ rz.2 (J.sz.nth a)))) (aO (aO (CS rfl) (aF _) (f9 (i0 _ _))) Y (cN (gw ∅ ∅ rz.1 (J.sz.nth b)))) ?_))));rw[MC,decide_eq_true le]
abbrev eR(ns:List Int)(goods:List Str)(ws:List Wk)(A:List (List Int))(w:List Int)(Q:List (Nat×List Int))(j:Nat)(x8 x9 x10 x11 J U:Option D):List (Option D):=pR ns goods ws A w [pc (.lst (bj Q)),pc (.ptr j),x8,x9,x10,x11,J,U]
theorem Pj(h:i<ws.length):ixD O (wsD ws) (.int (i:Int))=.ok (wD ws[i]):=by refine nG ?_;rw[gZ (by simpa using h)];simp
theorem JS(ns:List Int)(h:ns.length<=63):∃O,CQ [.lst (ns.map D.int)] []=.ok (.bl qc,O):=by
 obtain⟨o,eo,R,O,ho⟩:=J4 ns (mg:=4) (mw:=5) ∅ ∅ ∅ ∅ [pi,pi,pi,pi,pi,pi,pi,pi] (aK (setM 6 (iG (d3 1 mQ (af (aa 5) ao)))) (aK (setM 7 (d3 1 eg (af (aX 2 cR (af (aa 0) (af (aq (.int 3)) ao))) ao))) (aK (ifS (jH (a7 (aX 3 eU (af (aa 4) (af (aa 3) (af (aa 1) ao)))))) (setM 4 (bL 1 [] (listI (aa 2)) (aB 0) bM (aq (.int 0)))) bC) (aK (setM 8 (ak cq (kK (af (aa 4) ao)) (bL 1 [7,6,4] (fb (af (aq (.int 4)) ao)) (aB 0) bM (bN 3 iJ (af (aa 1) (af (aa 3) (af (aa 2) ao))))))) (aK (eL (listI (aa 8)) (aB 9) wM) (aK (setM 10 (bN 2 aQ (af (aa 7) (af (bJ cx (af (aa 2) ao)) ao)))) (aK (eL (fb (af (bJ cx (af (aa 2) ao)) ao)) (aB 11) wC) (bD (aq (.bl qc)))))))))) (λo=>∃R O,o=.ret (.bl qc) #[R,O]) (by
  intro goods ws A w p;have y:=p.ys ∅ ∅;have w6:=y.w6;have g4:=y.g4;have n0:=p.n0;have as:chL goods ws=A:=p.ch;have be:A.length=ws.length:=by rw[<- as];simp
  have lg:∀r∈A,r.length=goods.length:=λr hr=>by rw[<- as] at hr;obtain⟨_,_,rfl⟩:=ss.mp hr;simp
  have zA:cE 90 A:=p.sz.mono ∅;have hs:cE 90 (chL goods ws):=y.hs;obtain⟨Q,E,ew,sQ,lo,all,few⟩:=Ci y;obtain⟨c3,k3,_⟩:=wm ns 3;obtain⟨a0,b0,eb⟩:=zo c3;have e7:∀x8 Y am al ac ab,setM 7 (d3 1 eg (af (aX 2 cR (af (aa 0) (af (aq (.int 3)) ao))) ao)) #[pR ns goods ws A w [pc (.lst (bj Q)),pi,x8,Y,am,al,ac,ab],E]=.next #[eR ns goods ws A w Q E.length x8 Y am al ac ab,E++[.lst [.int a0,.int b0]]]:=λ_ _ _ _ _ _=>by refine bq (jB (aA (dJ (aA (ag rfl) (aA (aF _) aG)) k3 (by simp) rfl rfl) aG) eb rfl rfl iT ?_) rfl;simp[shC,fG,shD]
  have az:cy (E++[.lst [.int a0,.int b0]]) E.length:=#[a0,b0,gE];have s0:Sto (E++[.lst [.int a0,.int b0]]) Q:=λq hq=>ee (sQ q hq);have jQ:∀q∈Q,q.1≠E.length:=λq hq=>by have:=mV (sQ q hq);omega
  generalize E++[Cell.lst [.int a0,.int b0]]=O0 at e7 az s0;generalize E.length=j at e7 az jQ;have st:∃U,oH goods ws U/\(∀i,nth U i<1000000)/\(ifS (jH (a7 (aX 3 eU (af (aa 4) (af (aa 3) (af (aa 1) ao)))))) (setM 4 (bL 1 [] (listI (aa 2)) (aB 0) bM (aq (.int 0)))) bC) #[eR ns goods ws A w Q j pi pi pi pi pi pi,O0]=.next #[eR ns goods ws A U Q j pi pi pi pi pi pi,O0]:=by
   have zw:SzL 20 w:=λx hx=>by have:=p.wb x hx;unfold Sz;omega
   obtain⟨b,a1,a2⟩:=xm (A:=A) (x:=w) (goods:=goods) (by rw[p.wl];omega) ⋯ (by rw[be,p.wl]) lg (zw.mono ∅) zA;have t:=uk (eI (dJ (s:=#[eR ns goods ws A w Q j pi pi pi pi pi pi,O0]) (n:=3) (aA (ag (i:=4) rfl) (aA (ag (i:=3) rfl) (aA (ag (i:=1) rfl) aG))) a1 (by show (aR (w.map D.int)&&(aR (A.map vI)&&(aR (goods.map D.str)&&qc)))=qc;rw[i5,dO];simp) rfl rfl))
   cases b with
   | true=>
    refine#[w,#[p.wl,λi=> ?_,Pq p.wl (by rw[as];exact a2.mp rfl),zw.mono ∅],λi=> ?_,dX t rfl cD];by_cases hi:i<w.length;exact(p.wb _ (pA hi)).1;rw[uc ⋯];exact Tn 0;by_cases hi:i<w.length;exact(p.wb _ (pA hi)).2;rw[uc ⋯];decide
   | false=>
    have ec:=dg (l:=ws) (item:=wD) (out:=λ_=>.int 0) (caps:=[]) (im:=listI (aa 2)) (e:=aq (.int 0)) (k:=pi) (s:=#[eR ns goods ws A w Q j pi pi pi pi pi pi,O0]) (by rw[b9,ag (i:=2) rfl,aj];rfl) trivial ⋯ (λ_ _=>aF _);rw[show ws.map (λ_=>D.int 0)=(u0 ws.length (0:Int)).map D.int by rw[List.map_replicate,List.map_const']] at ec;refine#[u0 ws.length 0,#[by simp,λi=>by rw[nM];exact Tn 0,λr _=> ?_,λt ht=> ?_],λi=>by rw[nM];decide,eW t rfl (bq ec rfl)];unfold a6;rw[bS (g:=λ_=>0*0) λi _=>by rw[nM,SY];rfl,dD,Tc];rw[UA ht];exact Sz.zero _
  obtain⟨U,bw,wb,b5⟩:=st;obtain⟨L,O1,ec,Ll,LB,b6,s1⟩:=Ii (caps:=[7,6,4]) (im:=fb (af (aq (.int 4)) ao)) (e:=bN 3 iJ (af (aa 1) (af (aa 3) (af (aa 2) ao)))) (s:=#[eR ns goods ws A U Q j pi pi pi pi pi pi,O0]) (ds:=cX 0 ((4:Nat):Int)) (k:=pi) (λO'=>cy O' j/\Sto O' Q) (oH goods ws) (fL (aA (aF _) aG) ∅) (λ_ _=>trivial) #[az,s0] (by rw[gh];decide) (λd _ O' #[hb,sO]=>by obtain⟨x,O2,ed,bx,bn,k2⟩:=JX hb sO jQ lo few w6 bw wb;exact#[x,O2,gH (aA (ag rfl) (aA (ag rfl) (aA (ag rfl) aG))) ed rfl,bx,bn,λq hq=>by rw[k2 _ (jQ q hq)];exact sO q hq])
  rw[gh] at Ll;have Ll:L.length=4:=by simpa using Ll
  have e8:setM 8 (ak cq (kK (af (aa 4) ao)) (bL 1 [7,6,4] (fb (af (aq (.int 4)) ao)) (aB 0) bM (bN 3 iJ (af (aa 1) (af (aa 3) (af (aa 2) ao)))))) #[eR ns goods ws A U Q j pi pi pi pi pi pi,O0]=.next #[eR ns goods ws A U Q j (pc (vII (U::L))) pi pi pi pi pi,O1]:=bq (aO (yJ (aA (ag rfl) aG) (by simp)) ec (pN (by simp;omega))) rfl
  have a3:∀x∈U::L,oH goods ws x:=λx hx=>by rcases u8.mp hx with q | q;rw[q];exact bw;exact LB x q
  have b7:(U::L).length=5:=by simp[Ll]
  generalize U::L=J at e8 a3 b7;obtain⟨s',el,Y,rfl⟩:=dh (ok:=okC (J.map vI) pi) (g:=aB 9) (body:=wM)
   (λ_ s=>∃Y,s=#[eR ns goods ws A U Q j (pc (vII J)) Y pi pi pi pi,O1]) (λ_ _ _=>trivial) (J.map vI) [] (by
    rintro pre d rest ed s ⟨Y,rfl⟩;rw[wT] at ed;obtain⟨cc,rfl⟩:=i6 ed;have mx:J[pre.length]∈J:=AL _;generalize J[pre.length]=x at mx;have bx:=a3 x mx;obtain⟨b,a1,a2⟩:=xm (A:=A) (x:=x) (goods:=goods) (by rw[bx.len];omega) ⋯ (by rw[be,bx.len]) lg (bx.sz.mono ∅) zA;have ce:b=true:=a2.mpr (by rw[<- as];exact bx.lf);refine#[#[eR ns goods ws A U Q j (pc (vII J)) (pc (vI x)) pi pi pi pi,O1],_,rfl,.inl ?_,pc (vI x),rfl];rw[wM];refine dX (Ma (uk (eI (dJ (aA (ag rfl) (aA (ag rfl) (aA (ag rfl) aG))) a1 (by show (aR (x.map D.int)&&(aR (A.map vI)&&(aR (goods.map D.str)&&qc)))=qc;rw[i5,dO];simp) rfl rfl))) (by rw[ce];rfl) (uk (eI (nq (ns:=FN) (ds:=yDs goods ws) (args:=[vI x]) (ag rfl) (aA (hE (aA (ag rfl) aG) rfl) aG) (bx.run g4 w6 hs) ∅ gK (kq x) rfl rfl)))) rfl cD) #[eR ns goods ws A U Q j (pc (vII J)) pi pi pi pi pi,O1] #[pi,rfl]
  have ln:∀{am al ac ab:Option D} {O:aC},bJ cx (af (aa 2) ao) #[eR ns goods ws A U Q j (pc (vII J)) Y am al ac ab,O]=.ok (.int (ws.length:Int),#[eR ns goods ws A U Q j (pc (vII J)) Y am al ac ab,O]):=hE (aA (ag rfl) aG) (by rw[fg,sB]);obtain⟨i,O2,ci,i1,bn,k2⟩:=iC (R:=eR ns goods ws A U Q j (pc (vII J)) Y pi pi pi pi) (m:=(ws.length:Int)) b6 ⋯ (mb:=aa 7) (mm:=bJ cx (af (aa 2) ao)) (ag rfl) ln;have hi:i<ws.length:=⋯;obtain⟨s',cm,y9,ea,ef,ei,O3,rfl⟩:=dh (ok:=okC (cX 0 (ws.length:Int)) pi) (g:=aB 11) (body:=wC)
   (λ_ s=>∃Y al ac ab O,s=#[eR ns goods ws A U Q j (pc (vII J)) Y (pc (.int (i:Int))) al ac ab,O]) (λ_ _ _=>trivial) (cX 0 (ws.length:Int)) [] (by
    rintro pre dd rest ed s ⟨Y,al,ac,ab,O,rfl⟩;rw[wT,ib] at ed;obtain⟨rfl,hb⟩:=nU ed;generalize pre.length=b at hb;have zi:∀{R:List (Option D)} {O:aC} {v k:Nat} (hk:k<ws.length),R[2]? =pc (pc (wsD ws))->R[v]? =pc (pc (.int (k:Int)))->ak ixD (ak ixD (aa 2) (aa v)) (aq (.int 0)) #[R,O]=.ok (.str ((ws.map (·.nm))[k]'(by simpa using hk)),#[R,O]):=λ{R O v k} hk h2 hv=>by rw[Tt];exact aO (aO (ag h2) (ag hv) (Pj hk)) (aF _) (f9 rfl)
    obtain⟨d1,E1,cn,m1⟩:=HP y (a:=i) (b:=b) (by simpa using hi) (by simpa using hb) (R:=eR ns goods ws A U Q j (pc (vII J)) Y (pc (.int (i:Int))) (pc (.int (b:Int))) ac ab) (O:=O) (m0:=aa 5) (m1:=ak ixD (ak ixD (aa 2) (aa 10)) (aq (.int 0))) (m2:=ak ixD (ak ixD (aa 2) (aa 11)) (aq (.int 0))) (ag rfl) (zi hi rfl rfl) (zi hb rfl rfl);obtain⟨d2,E2,co,m2⟩:=HP y (a:=b) (b:=i) (by simpa using hb) (by simpa using hi) (R:=eR ns goods ws A U Q j (pc (vII J)) Y (pc (.int (i:Int))) (pc (.int (b:Int))) (pc d1) ab) (O:=O++E1) (m0:=aa 5) (m1:=ak ixD (ak ixD (aa 2) (aa 11)) (aq (.int 0))) (m2:=ak ixD (ak ixD (aa 2) (aa 10)) (aq (.int 0))) (ag rfl) (zi hb rfl rfl) (zi hi rfl rfl);have cp:=m1.app (E:=E2);obtain⟨s',el,z9,rfl⟩:=dh (ok:=okC (J.map vI) pi) (g:=aB 9) (body:=Am)
     (λ_ s=>∃Y,s=#[eR ns goods ws A U Q j (pc (vII J)) Y (pc (.int (i:Int))) (pc (.int (b:Int))) (pc d1) (pc d2),O++E1++E2]) (λ_ _ _=>trivial) (J.map vI) [] (by rintro pre d rest ed s ⟨Y,rfl⟩;rw[wT] at ed;obtain⟨cc,rfl⟩:=i6 ed;have mx:J[pre.length]∈J:=AL _;generalize J[pre.length]=x at mx;have bx:=a3 x mx;refine#[#[eR ns goods ws A U Q j (pc (vII J)) (pc (vI x)) (pc (.int (i:Int))) (pc (.int (b:Int))) (pc d1) (pc d2),O++E1++E2],_,rfl,.inl ?_,pc (vI x),rfl];rw[Am];exact dX (Ma (uk (eI (gH (aA (ag rfl) (aA (ag rfl) (aA (ag rfl) (aA (ag rfl) aG)))) (EB hi hb cp bx) rfl))) rfl (uk (eI (gH (aA (ag rfl) (aA (ag rfl) (aA (ag rfl) (aA (ag rfl) aG)))) (EB hb hi m2 bx) rfl)))) rfl cD) #[eR ns goods ws A U Q j (pc (vII J)) Y (pc (.int (i:Int))) (pc (.int (b:Int))) (pc d1) (pc d2),O++E1++E2] #[Y,rfl]
    refine#[#[eR ns goods ws A U Q j (pc (vII J)) Y (pc (.int (i:Int))) (pc (.int (b:Int))) ac ab,O],_,rfl,.inl ?_,z9,pc (.int (b:Int)),pc d1,pc d2,O++E1++E2,rfl];rw[wC];exact aU (bq cn rfl) (aU (bq co rfl) ((cY (ds:=J.map vI) (k:=pi) (s1:=#[eR ns goods ws A U Q j (pc (vII J)) Y (pc (.int (i:Int))) (pc (.int (b:Int))) (pc d1) (pc d2),O++E1++E2]) (by rw[b9,ag (i:=8) rfl,aj];rfl)).trans el))) #[eR ns goods ws A U Q j (pc (vII J)) Y (pc (.int (i:Int))) pi pi pi,O2] #[Y,pi,pi,pi,O2,rfl]
  exact#[_,aU (bq (ew rfl) rfl) (aU (e7 _ _ _ _ _ _) (aU b5 (aU e8 (aU ((cY (ds:=J.map vI) (k:=pi) (s1:=#[eR ns goods ws A U Q j (pc (vII J)) pi pi pi pi pi,O1]) (by rw[b9,ag (i:=8) rfl,aj];rfl)).trans el) (aU (bq ci rfl) (aU ((cY (ds:=cX 0 (ws.length:Int)) (k:=pi) (s1:=#[eR ns goods ws A U Q j (pc (vII J)) Y (pc (.int (i:Int))) pi pi pi,O2]) (fL (aA ln aG) ⋯)).trans cm) (br (aF _)))))))),_,_,rfl])
 rw[ho] at eo;exact#[O,de (R:=R) (wp (by rw[LU];rfl) eo)]
theorem all_mk {l:UH} {w:Ch} {K:sH} {h:FS} {mg:Str->Option qb} {fa e9 fc ff fh fi fl fm gl U:qh} (X:K.In h) (G:h.Ns mainGlobals mg) (kf:mg "law" =pc (.ref fa)) (J:l.prog.given.tree=pi)
 {gz g0 g1 g2 g3 he hf hg hh hj hl ho ht hv hw fy:Option qh} {hA hB hC hD hF hG hH hI:Array (Option qb)} {hK hL hM hN fz hO hP hQ hR hS f0 hT hV hW hX hY f1 h3 h4 h5 h6 h7 f2 h8 h9 ih ii ij f3 il io is iv iP f4 iS i0 i1 i2 i7 f5 je jl f6 f8 ga eA ge:qb} {cc cB c0:Tok}
 (ed:JA K mainGlobals "Yard" =pc (pc (.ref U)))
 (eB:S5 K U Str.empty=qc)
 (eF:Ti K U=qc)
 (eP:Ue K U=qc)
 (eQ:Do K (.ref U) "__setattr__" =pc (pc (.builtin "object.__setattr__")))
 (e0:UG K U=qc)
 (e4:NE K (.ref U)=qc)
 (a5:Do K (.ref U) "held_changes" =pc pi)
 (bd:Do K (.ref U) "held_goods" =pc pi)
 (be:Do K (.ref U) "held_works" =pc pi)
 (l0:FK K "is_whole" tI)
 (l1:FK K "measure_of_two" lJ)
 (l2:FK K "measure" vg)
 (l3:FK K "lowest" yr)
 (l4:FK K "ratio" Ag)
 (l5:FK K "sum_of_products" kH)
 (l6:FK K "unit" Dm)
 (l7:FK K "units" Ak)
 (l8:FK K "offset" yx)
 (l9:FK K "column" yF)
 (kj:FK K "first_not_nought" jS)
 (kk:FK K "with_sign_above" kL)
 (kl:FK K "cleared" vz)
 (km:FK K "plain" AU)
 (kn:FK K "still_by_one_more" jD)
 (kt:FK K "still" Ax)
 (ku:FK K "made_of" vM)
 (kz:FK K "places_of" rW)
 (k0:FK K "is_among" sW)
 (k1:FK K "are_neighbours" lQ)
 (k2:FK K "lone_by_one_more" j1)
 (k3:FK K "lone" DO)
 (k5:Do K (.ref U) "row" =pc (pc (.ref e9)))
 (k7:R6 K (.ref e9)=qc)
 (la:K.lookup e9=pc #[hK,gz,.func (Ix "row" "Yard.row" (dW ky) (dq ky) (aL ky) .none hL hM hN g0 fz hO),hA])
 (lb:Ry K fz "Yard.row" =qc)
 (jp:NE K (.ref e9)=qc)
 (lc:Do K (.ref U) "rows" =pc (pc (.ref fc)))
 (le:R6 K (.ref fc)=qc)
 (lg:K.lookup fc=pc #[hP,g1,.func (Ix "rows" "Yard.rows" (dW jv) (dq jv) (aL jv) .none hQ hR hS g2 f0 hT),hB])
 (lh:Ry K f0 "Yard.rows" =qc)
 (js:NE K (.ref fc)=qc)
 (li:Do K (.ref U) "names" =pc (pc (.ref ff)))
 (lk:R6 K (.ref ff)=qc)
 (lm:K.lookup ff=pc #[hV,g3,.func (Ix "names" "Yard.names" (dW iW) (dq iW) (aL iW) .none hW hX hY he f1 h3),hC])
 (ln:Ry K f1 "Yard.names" =qc)
 (jQ:NE K (.ref ff)=qc)
 (lp:FK K "ways" Dr)
 (lq:FK K "place_of" t7)
 (lv:FK K "first_with" pF)
 (lx:FK K "weights_above" mF)
 (ly:FK K "demands_of_two" lP)
 (lz:FK K "way_without" oQ)
 (lA:FK K "way_with_most" ni)
 (lB:FK K "most" DK)
 (lR:FK K "is_name" vc)
 (lT:FK K "check_many" qr)
 (lW:FK K "check_name" pY)
 (mc:FK K "check_goods" oS)
 (md:FK K "check_good" pI)
 (mi:FK K "check_amount" nC)
 (mk:FK K "check_parts" oI)
 (mm:FK K "check_works" oE)
 (mp:FK K "copy_work" rL)
 (mq:FK K "amount_of" rH)
 (mu:FK K "change_of" rK)
 (mx:Do K (.ref U) "__init__" =pc (pc (.ref fh)))
 (mB:R6 K (.ref fh)=qc)
 (m0:K.lookup fh=pc #[h4,hf,.func (Ix "__init__" "Yard.__init__" (dW jy) (dq jy) (aL jy) .none h5 h6 h7 hg f2 h8),hD])
 (m1:Ry K f2 "Yard.__init__" =qc)
 (m2:NE K (.ref fh)=qc)
 (m3:Do K (.ref U) "check_way" =pc (pc (.ref fi)))
 (m6:R6 K (.ref fi)=qc)
 (m7:K.lookup fi=pc #[h9,hh,.func (Ix "check_way" "Yard.check_way" (dW fF) (dq fF) (aL fF) .none ih ii ij hj f3 il),hF])
 (na:Ry K f3 "Yard.check_way" =qc)
 (jU:NE K (.ref fi)=qc)
 (nb:Do K (.ref U) "leaves" =pc (pc (.ref fl)))
 (nc:R6 K (.ref fl)=qc)
 (nd:K.lookup fl=pc #[io,hl,.func (Ix "leaves" "Yard.leaves" (dW hZ) (dq hZ) (aL hZ) .none is iv iP ho f4 iS),hG])
 (nf:Ry K f4 "Yard.leaves" =qc)
 (j0:NE K (.ref fl)=qc)
 (nh:Do K (.ref U) "balanced" =pc (pc (.ref fm)))
 (nl:R6 K (.ref fm)=qc)
 (nn:K.lookup fm=pc #[i0,ht,.func (Ix "balanced" "Yard.balanced" (dW fZ) (dq fZ) (aL fZ) .none i1 i2 i7 hv f5 je),hH])
 (no:Ry K f5 "Yard.balanced" =qc)
 (j5:NE K (.ref fm)=qc)
 (nu:FK K "_law_cell" uj)
 (nw:FK K "_law_bag" vR)
 (nz:FK K "_law_draw" tL)
 (nL:FK K "_law_number" qg)
 (nQ:FK K "_law_words" rk)
 (nT:FK K "_law_way" uX)
 (n1:FK K "_law_changes" oM)
 (n2:FK K "_law_works" rF)
 (n3:FK K "_law_parts" rD)
 (ob:FK K "_law_balances" nA)
 (oc:FK K "_law_keeps" rG)
 (od:FK K "_law_drawn" rm)
 (kd:JA K mainGlobals "law" =pc (pc (.ref gl)))
 (oe:K.lookup gl=pc #[jl,hw,.func (Ix "law" "law" (dW o5) (dq o5) (aL o5) .none f6 f8 ga fy eA ge),hI])
 (ol:Ry K eA "law" =qc)
 (on:NE K (.ref gl)=qc)
 (c1:JA K mainGlobals "isinstance" =pc pi)
 (gn:JA K mainGlobals "int" =pc pi)
 (fr:JA K mainGlobals "bool" =pc pi)
 (gq:JA K mainGlobals "abs" =pc pi)
 (bw:JA K mainGlobals "list" =pc pi)
 (bn:JA K mainGlobals "zip" =pc pi)
 (dn:JA K mainGlobals "sum" =pc pi)
 (an:JA K mainGlobals "range" =pc pi)
 (a1:JA K mainGlobals "enumerate" =pc pi)
 (ap:JA K mainGlobals "len" =pc pi)
 (ev:JA K mainGlobals "sorted" =pc pi)
 (e5:JA K mainGlobals "all" =pc pi)
 (gs:JA K mainGlobals "any" =pc pi)
 (gt:JA K mainGlobals "max" =pc pi)
 (ce:JA K mainGlobals "MOST_LETTERS" =pc (pc (.int 8 cc)))
 (c2:JA K mainGlobals "MOST_GOODS" =pc (pc (.int 10 cB)))
 (c3:JA K mainGlobals "MOST_WORKS" =pc (pc (.int 10 c0))):
 ∃fd:RL,(∀(s:tt) (v:qb),TZ s fd #[[v],[]] [("_law_script",v)])/\∀base:FS,K.In base->base.Ns mainGlobals mg->kI l.prog w K mg base (CXE l.prog w) 45 fa fd ["_law_script"] (spM K (caK K) 1 CQ):=by
 have e:=kf.symm.trans (SG X G kd);cases e;have ab:caK K 0=U:=by show clsAt K "Yard" =_;unfold clsAt;rw[ed]
 have ac:Cls K (caK K 0):=by rw[ab];exact#[eB,eF,eP,eQ]
 have as:fD K (caK K 0) "held_changes" :=by rw[ab];exact a5
 have az:fD K (caK K 0) "held_goods" :=by rw[ab];exact bd
 have am:fD K (caK K 0) "held_works" :=by rw[ab];exact be
 have ov:=m8 (st:=ky) la lb jp;have oD:=m8 (st:=jv) lg lh js;have oL:=m8 (st:=iW) lm ln jQ;have oT:=m8 (st:=jy) m0 m1 m2;have oX:=m8 (st:=fF) m7 na jU;have o0:=m8 (st:=hZ) nd nf j0;have o1:=m8 (st:=fZ) nn no j5;have o2:=m8 (st:=o5) oe ol on;refine#[Ix "law" "law" (dW o5) (dq o5) (aL o5) .none f6 f8 ga fy eA ge,λs v=>.of_eq rfl,λbase _ _=> ?_];let e:Ev:=#[l.prog,w,K,mg,base,caK K]
 have b7:=Fw (e:=e) (FK.fa X G l0) J (ut X G c1) (ut X G gn) (ut X G fr);have a2:=xc (e:=e) (FK.fa X G l1) J (ut X G gq);have cn:=G4 (e:=e) (FK.fa X G l2) J a2;have ew:=Jr (e:=e) (FK.fa X G l3) J (ut X G bw) cn;have bx:=EV (e:=e) (FK.fa X G l3) J (ut X G bw) cn;have e6:=Kf (e:=e) (FK.fa X G l4) J b7 a2;have Y:=uS (e:=e) (FK.fa X G l5) J (ut X G bn) (ut X G dn);have fw:=Nd (e:=e) (FK.fa X G l6) J;have em:=He (e:=e) (FK.fa X G l6) J;have e7:=Kq (e:=e) (FK.fa X G l7) J (ut X G an) fw;have ef:=Fv (e:=e) (FK.fa X G l7) J (ut X G an) em;have ez:=HU (e:=e) (FK.fa X G l8) J (ut X G bn) ew;have bz:=EU (e:=e) (FK.fa X G l8) J (ut X G bn) bx;have dd:=IH (e:=e) (FK.fa X G l9) J;have a0:=uN (e:=e) (FK.fa X G kj) J (ut X G a1);have bp:=vd (e:=e) (FK.fa X G kk) J;have en:=G7 (e:=e) (FK.fa X G kl) J bz;have e8:=K6 (e:=e) (FK.fa X G km) J (ut X G an) bx a0 dd bp en;have bb:=tS (e:=e) (FK.fa X G kn) J (ut X G a1) Y a0 bz;have ei:=JR (e:=e) (FK.fa X G kt) J ef bb e8;have eo:=Hv (e:=e) (FK.fa X G ku) J (ut X G ap) (ut X G an) dd ei;have dp:=C3 (e:=e) (FK.fa X G kz) J;have ej:=Fm (e:=e) (FK.fa X G k0) J;have b1:=w9 (e:=e) (FK.fa X G k1) J (ut X G ap) ej;have bi:=uO (e:=e) (FK.fa X G k2) J (ut X G bn) (ut X G a1) Y dp b1 ez;have et:=Mp (e:=e) (FK.fa X G k3) J (ut X G ev) e7 bi;have ek:=Ff (e:=e) ov (by show Meth K (caK K 0) _ _;rw[ab];exact#[k5,k7,jp]) J ac as;have a4:=DP (e:=e) oD (by show Meth K (caK K 0) _ _;rw[ab];exact#[lc,le,js]) J (ut X G ap) (ut X G an) ac az ek;have a3:=CI (e:=e) oL (by show Meth K (caK K 0) _ _;rw[ab];exact#[li,lk,jQ]) J ac am;have eu:=Mn (e:=e) (FK.fa X G lp) J (ut X G ap) ac et a4 a3;have el:=E4 (e:=e) (FK.fa X G lq) J ac a3;have c4:=Cy (e:=e) (FK.fa X G lv) J;have b4:=yH (e:=e) (FK.fa X G lx) J (ut X G ap) (ut X G bn) ac a4 ei Y c4 et eo;have b2:=xf (e:=e) (FK.fa X G ly) J;have co:=Ao (e:=e) (FK.fa X G lz) J;have b5:=xU (e:=e) (FK.fa X G lA) J;have fx:=Nl (e:=e) (FK.fa X G lB) J (ut X G ap) ac el eu a3 co b4 b2 b5 e6;have ep:=Ha (e:=e) (FK.fa X G lR) J (ut X G ap) (ut X G e5) #[_,SG X G ce];have c5:=CG (e:=e) (FK.fa X G lT) J (ut X G ap) #[_,SG X G c2] #[_,SG X G c3];have bm:=CD (e:=e) (FK.fa X G lW) J ep;have cp:=AI (e:=e) (FK.fa X G mc) J (ut X G a1) bm;have c6:=Cv (e:=e) (FK.fa X G md) J;have ci:=z3 (e:=e) (FK.fa X G mi) J b7;have cr:=AJ (e:=e) (FK.fa X G mk) J c6 ci;have cs:=A6 (e:=e) (FK.fa X G mm) J bm cr;have dL:=D2 (e:=e) (FK.fa X G mp) J (ut X G bw);have dV:=Dx (e:=e) (FK.fa X G mq) J (ut X G dn);have d0:=Eg (e:=e) (FK.fa X G mu) J dV;have d1:=EX (e:=e) oT (by show Mk K (caK K 0) _;rw[ab];exact#[e0,mx,mB,e4]) (by show mg _=pc (.ref (caK K 0));rw[ab];exact SG X G ed) J (ut X G bw) ac az am as c5 cp cs dL d0;have b3:=w8 (e:=e) oX (by show Meth K (caK K 0) _ _;rw[ab];exact#[m3,m6,jU]) J (ut X G ap) (ut X G gs) ac am;have cu:=AO (e:=e) o0 (by show Meth K (caK K 0) _ _;rw[ab];exact#[nb,nc,j0]) J ac b3 a4 Y;have b6:=xX (e:=e) o1 (by show Meth K (caK K 0) _ _;rw[ab];exact#[nh,nl,j5]) J (ut X G e5) ac cu;have cb:=Fn (e:=e) (FK.fa X G nu) J (ut X G ap);have bv:=Hi (e:=e) (FK.fa X G nw) J;have al:=Fu (e:=e) (FK.fa X G nz) J;have dc:=Cp (e:=e) (FK.fa X G nL) J al;have d2:=ES (e:=e) (FK.fa X G nQ) J (ut X G an) (ut X G ap);have er:=GN (e:=e) (FK.fa X G nT) J (ut X G an) al;have cw:=AG (e:=e) (FK.fa X G n1) J (ut X G ap) (ut X G an) (ut X G dn) bv dc al;have d8:=DW (e:=e) (FK.fa X G n2) J (ut X G bn) (ut X G gt) al;have ea:=DB (e:=e) (FK.fa X G n3) J (ut X G ap) bv cb d2 al er cw d8;have cm:=zR (e:=e) (FK.fa X G ob) J (ut X G ap) (ut X G an) (ut X G dn);have eb:=CZ (e:=e) (FK.fa X G oc) J;have ec:=DF (e:=e) (FK.fa X G od) J (ut X G bn) al;have gy:=OB (e:=e) o2 (SG X G kd) J (ut X G an) (ut X G bw) (ut X G ap) ac ea d1 eu bv cb cm ec b6 al fx eb;exact gy.1
end
end Lk38
open PySem PySem.W PyProof.Rows
theorem PySem.W.Fast.tw1786802501988761217:True:=#[]
theorem PySem.W.Fast.tw12509377838817696327:True:=#[]
theorem PySem.W.Fast.tw15216096186487571897:True:=#[]
theorem PySem.W.Fast.tw6444143571066291912:True:=#[]
theorem PySem.W.Fast.tw14773085647293659234:True:=#[]
theorem PySem.W.Fast.tw8509094243718608111:True:=#[]
theorem PySem.W.Fast.tw16954571605447102305:True:=#[]
theorem PySem.W.Fast.tw9485561737996651663:True:=#[]
theorem PySem.W.Fast.tw990436169812293401:True:=#[]
theorem PySem.W.Fast.tw12319482207021224402:True:=#[]
theorem PySem.W.Fast.tw9773354232201463649:True:=#[]
theorem PySem.W.Fast.tw10169987203504073622:True:=#[]
theorem PySem.W.Fast.tw1435919643845324880:True:=#[]
theorem PySem.W.Fast.tw5717792628967789691:True:=#[]
theorem PySem.W.Fast.tw13255998392548351605:True:=#[]
theorem PySem.W.Fast.tw2765532624400711102:True:=#[]
theorem PySem.W.Fast.tw16484997573178759130:True:=#[]
theorem PySem.W.Fast.tw13346282103129595990:True:=#[]
theorem PySem.W.Fast.tw2906422581155273177:True:=#[]
theorem PySem.W.Fast.tw16890030773651498518:True:=#[]
theorem PySem.W.Fast.tw1477483526802486161:True:=#[]
theorem PySem.W.Fast.tw13717070428786051623:True:=#[]
theorem PySem.W.Fast.tw13746898281001807457:True:=#[]
theorem PySem.W.Fast.tw8298205216846206801:True:=#[]
theorem PySem.W.Fast.tw12178838307890802252:True:=#[]
theorem PySem.W.Fast.tw14362757394545307617:True:=#[]
theorem PySem.W.Fast.tw976416429775070745:True:=#[]
theorem PySem.W.Fast.tw7952223863017532857:True:=#[]
theorem PySem.W.Fast.tw10360521097097030779:True:=#[]
theorem PySem.W.Fast.tw4888949799217569339:True:=#[]
theorem PySem.W.Fast.tw15950290816852734499:True:=#[]
theorem PySem.W.Fast.tw2643255898274245801:True:=#[]
theorem PySem.W.Fast.tw6503581631949235176:True:=#[]
theorem PySem.W.Fast.tw7390848396366654775:True:=#[]
theorem PySem.W.Fast.tw17932609758005456806:True:=#[]
theorem PySem.W.Fast.tw2651307479326728796:True:=#[]
theorem PySem.W.Fast.tw17715541436681950499:True:=#[]
theorem PySem.W.Fast.tw16824953357284009644:True:=#[]
theorem PySem.W.Fast.tw2120280418407800956:True:=#[]
theorem PySem.W.Fast.tw12867067854681132046:True:=#[]
theorem PySem.W.Fast.tw9181715263993279467:True:=#[]
theorem PySem.W.Fast.tw7032625037951052998:True:=#[]
theorem PySem.W.Fast.tw15642455746959315090:True:=#[]
theorem PySem.W.Fast.tw1526699481070678723:True:=#[]
theorem PySem.W.Fast.tw15364572935921961839:True:=#[]
theorem PySem.W.Fast.tw13610803815365399573:True:=#[]
theorem PySem.W.Fast.tw18027728075768433663:True:=#[]
theorem PySem.W.Fast.tw3127373601757400713:True:=#[]
theorem PySem.W.Fast.tw3771104114455915109:True:=#[]
theorem PySem.W.Fast.tw9553766160614863149:True:=#[]
theorem PySem.W.Fast.tw17895921858089690178:True:=#[]
theorem PySem.W.Fast.tw723618390595739029:True:=#[]
theorem PySem.W.Fast.tw3761141086447538344:True:=#[]
theorem PySem.W.Fast.tw15732897182177028364:True:=#[]
theorem PySem.W.Fast.tw7436637137743980085:True:=#[]
theorem PySem.W.Fast.tw10192430996430393344:True:=#[]
theorem PySem.W.Fast.tw8099603032898033488:True:=#[]
theorem PySem.W.Fast.tw3507422968125546489:True:=#[]
theorem PySem.W.Fast.tw6968990330211112264:True:=#[]
theorem PySem.W.Fast.tw14068307977470740533:True:=#[]
set_option maxRecDepth 100000 in
set_option maxHeartbeats 0 in
theorem PySem.Challenge.cw_modeyard_k38_whole_no_way_has_more_holds : PySem.Challenge.rw_modeyard_k38_whole_no_way_has_more.Holds := by
 w_on;o_law;k_head;(case hw=>w_witness2)
 k_fill
 refine L2.KU (l:=PySem.Challenge.rw_modeyard_k38_whole_no_way_has_more) (n:=63) (k:=45) (x:="_law_script") (sp:=λK=>M.spM K (Lk38.caK K) 1 Lk38.CQ) rfl (by decide) rfl ⟨rfl,by decide,by decide⟩ (by decide +kernel) (λw h Y=>PySem.W.kIn_of Y) ?F ?S
 case F=>
  intro w mg fa h KX G hmg
  refine' Lk38.all_mk KX G hmg rfl ?_ ?_ ?_ ?_ ?_ ?_ ?_ ?_ ?_ ?_ ?_ ?_ ?_ ?_ ?_ ?_ ?_ ?_ ?_ ?_ ?_ ?_ ?_ ?_ ?_ ?_ ?_ ?_ ?_ ?_ ?_ ?_ ?_ ?_ ?_ ?_ ?_ ?_ ?_ ?_ ?_ ?_ ?_ ?_ ?_ ?_ ?_ ?_ ?_ ?_ ?_ ?_ ?_ ?_ ?_ ?_ ?_ ?_ ?_ ?_ ?_ ?_ ?_ ?_ ?_ ?_ ?_ ?_ ?_ ?_ ?_ ?_ ?_ ?_ ?_ ?_ ?_ ?_ ?_ ?_ ?_ ?_ ?_ ?_ ?_ ?_ ?_ ?_ ?_ ?_ ?_ ?_ ?_ ?_ ?_ ?_ ?_ ?_ ?_ ?_ ?_ ?_ ?_ ?_ ?_ ?_ ?_ ?_ ?_ ?_ ?_ ?_ ?_ ?_ ?_ ?_ ?_ ?_ ?_
  all_goals try k_is
  all_goals try exact⟨_,_,_,_,_,_,_,_,_,_,by k_is,by k_is,by k_is,by k_is⟩
 case S=>exact λK H a ns hl _ hS=>M.Oy hS (Lk38.JS ns hl)