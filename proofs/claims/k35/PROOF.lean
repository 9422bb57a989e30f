import PyProof.Rows.All
import Wide.All
import OpenK.AllK
import Wide.FinOn
import Lean
import PyProof.EqAt
import PyProof.EqKinds
import PyProof.TupleCall
import PySem.Challenge.RW_modeyard_k35_most_there_and_back
set_option Elab.async false
set_option linter.all false
set_option maxRecDepth 100000
set_option maxHeartbeats 4000000
local macro_rules|`(⋯)=>`(by omega)
local macro_rules|`(∅)=>`(by decide)
local macro_rules|`(#[$x,*])=>`(⟨$x,*⟩)
local macro_rules|`(#v[$x,*])=>`(List.toArray [$x,*])
open Array renaming getD_eq_getD_getElem?→Sb,getElem?_toList→SW,length_toList→S8,perm_iff_toList_perm→T8,toList_inj→Uv,getElem_toList→UK,toList_map→Vm
open Bool renaming true→on,false→tt,false_ne_true→At,eq_iff_iff→Rn,and_eq_true→Rp,beq_eq_decide_eq→RP,or_eq_true→SE,false_and→S0,false_eq_true→Td,and_false→Tl,true_and→Ts,or_false→T9,true_or→VP,or_true→VT
open Classical renaming byContradiction→Rh,propDecidable→UA,axiomOfChoice→UB
open Eq renaming trans→wp
open False renaming elim→pi
open ForInStep renaming yield→SI
open Function renaming comp_def→SS
open Iff renaming rfl→U3
open Int renaming gcd→EQ,mul_eq_zero→Q9,mul_assoc→Re,mul_comm→Rg,mul_nonneg→Rs,mul_pos→Rv,mul_le_mul_of_nonneg_right→RA,natAbs_natCast→RE,emod_lt_of_pos→Sa,natAbs_dvd_natAbs→Sf,emod_nonneg→Sg,mul_nonpos_of_nonneg_of_nonpos→Sk,lt_trichotomy→Sm,mul_neg_of_pos_of_neg→Sr,mul_fdiv_cancel_left→Sw,natAbs_mul→SV,le_of_lt→S2,neg_mul_neg→S9,mul_neg_of_neg_of_pos→Ta,le_of_mul_le_mul_left→Tb,zero_mul→Tf,mul_ediv_cancel_left→Th,natAbs_neg→Tj,mul_zero→TD,natAbs_of_nonneg→TJ,gcd_pos_of_ne_zero_right→TZ,natAbs_add_le→Uc,eq_of_mul_eq_mul_left→Ue,mul_ne_zero→UD,toNat_natCast→U7,mul_left_comm→Va,le_refl→Ve,neg_mul→Vj
open List renaming getD_eq_getElem?_getD→nu,mem_map→pr,getElem?_eq_getElem→sn,length_map→ss,mem_cons_of_mem→sB,mem_cons_self→sH,range→tz,replicate→ux,mem_cons→vr,mem_singleton→wf,map_map→wh,mem_append→wn,getElem?_append_left→wv,map_cons→ww,getElem?_append_right→wE,getElem?_map→wP,mem_filter→wS,length_cons→wT,size_toArray→xg,nil_append→xz,getElem?_eq_some_iff→xL,length_append→x0,getElem_mem→Cg,mem_range→Ch,mem_append_right→Fa,length_singleton→Fk,filter_cons_of_pos→Go,getElem?_replicate→G2,mem_of_getElem?→IN,mem_map_of_mem→Ps,map_append→Q7,pairwise_cons→Q8,filter_cons_of_neg→Rf,drop_eq_getElem_cons→Ri,getElem?_set_self→Rj,of_mem_zip→Rk,getElem?_set_ne→Ro,getElem_of_mem→Rq,replicate_succ→Rr,lookup_cons→Rt,mem_append_left→Ru,take_of_length_le→Rw,toArray→RC,mem_of_mem_eraseIdx→RG,nodup_cons→RK,length_zipWith→RL,map_inj_right→RN,foldl_cons→RQ,append_nil→RT,length_zip→RU,mem_of_mem_take→RW,map_nil→RX,zipWith→RY,nodup_append→R0,flatten_cons→R1,append_assoc→R3,getElem?_range→R5,not_mem_nil→R7,filter_map→Sd,length_range→Sn,pairwise_map→So,mapIdx_eq_zipIdx_map→Sq,mem_or_eq_of_mem_set→Ss,length_take→Su,ext_getElem→Sv,length_drop→Sx,lookup→SJ,drop_eq_nil_of_le→SK,take_add_one→SR,length_replicate→SU,all_eq_true→S4,sum_cons→S5,length→S7,pairwise_iff_getElem→Tc,find?_eq_none→Ti,foldl_append→Tp,all_cons→Tr,zipIdx_cons→Tu,length_filter_le→Tv,getElem?_eq_none→Tx,zipIdx_map→Tz,mem_of_mem_drop→TC,find?_cons→TK,map_set→TQ,filterMap_cons→TU,drop_zero→T0,lookup_append→T6,zip_cons_cons→T7,mem_of_find?_eq_some→Ud,getElem_map→Ui,all_map→Uk,any_eq_true→Ul,zipWith_map→Um,length_erase_of_mem→Uo,getElem?_take_of_lt→Uq,mem_flatMap→Us,drop_length→Ut,eraseIdx_cons_succ→Uz,length_nil→UF,getElem?_zipWith→UI,getElem_zipWith→UL,map_take→UP,map_drop→UR,map_congr_left→US,set_set→UZ,mem_filterMap→U1,take_sublist→U5,any_eq_false→U9,flatMap_map→Vl,mem_nil_iff→Vp,getElem_inj→Vq,take_length→Vs,range_succ→Vu,foldl→Vv,find?_some→Vy,nodup_nil→VC,any_cons→VF,any_map→VU
open List.Nodup renaming idxOf_getElem→Te
open List.Pairwise renaming imp_of_mem→RZ,nil→Vc,sublist→VV
open List.Perm renaming swap→VD
open Nat renaming le_refl→ut,lt_of_lt_of_le→AT,ne_of_lt→FS,le_trans→IR,zero_le→Rb,pow_le_pow_right→RH,lt_irrefl→RM,add_sub_cancel_left→R4,gcd→R6,le_of_lt→R9,lt_of_le_of_lt→SG,lt_succ_of_lt→Tn,le_mul_of_pos_left→Tq,lt_succ_self→Tt,mul_le_mul_right→TF,min_eq_left→TH,two_pow_pos→TN,testBit_or→TW,le_succ→T3,mul_comm→Uh,add_comm→Ux,le_add_right→Uy,mul_assoc→UQ,zero_add→UU,pow_succ→UV,sub_zero→UY,ne_of_gt→U0,pow_add→Vk,not_lt→Vz,dvd_trans→VE
open Ne renaming symm→S1
open Option renaming some→lH,none→na,map_some→SF,getD_some→Uj,isSome_iff_exists→Uw,getD_none→Vo
open Option.some renaming inj→RJ,injEq→Vb
open Or renaming inl→qb,inr→RD
open Prod renaming ext→VQ
open PyProof.Rows renaming callWith_type1→RI,IntsAre→Si,slot_tuple_getitem→SA,AllBare→Tk,subscriptTail_builtinR→UH,listUpdate_at→UO,getElem?_mirror_all→UT,bubble_size→Vf,seqEpoch_at→Vi,lt_int→VM
open PySem renaming Value→ol,Addr→pc,Shared→r0,wpAny_bind→u8,Program→AC,wpAny_pure→BG,World→Db,Expr→Do,Heap→Gc,Around→KE,wpAny_loadPart'→Ra,wpAny_truthy_bool→Ry,FuncData→RB,IntMulOk→RF,NameKind→RV,wpAny_mono→R8,wpAny_passesOwn→Se,Scope→Sj,mem_of_lookup→Sy,sizeLine_eq→SN,wpAny_newObj_type→SQ,Stmt→SX,wpAny_holding→S6,wpAny_Call_Name_kw→Tg,call_meets→TB,wpAny_execs_nil→TR,BindsTo→TY,IsPart→T4,PyData→Up,wpAny_comprehension_free→Ur,codeAny_mono→Uu,wpAny_isTrue_Compare1→UJ,wpAny_standAt→UN,seqIndex_neg→UW,Within→UX,Result→U2,wpAny_assign_Name→U4,wpAny_pyIter_enum→U6,wpAny_pyIter_list→U8,wpAny_field→Vg,seqIndex_of→Vh,GenState→Vn,typeIs_str→Vt,wpAny_Name→Vw,call→Vx,typeIs_int→VA
open PySem.EqMixed renaming ne_str_bool→VH,eq_str_bool→VI,eq_bool_str→VJ,ne_bool_str→VL,eq_int_str→VN,ne_str_int→VO,ne_int_str→VR,eq_str_int→VS
open PySem.F renaming plainAttrs_list→Ix,slot_list_append→M2,type_list_append→NE,slot_list_lt→UM
open PySem.W renaming Frag→qh,mg_none_of→sK,findIn→IG,nsIn→No,fnOf→PP,keepIn→Rm,emptyDict→Rx,codeIn→RO,instObj→RS,mg_of→SD,kia_one→SH,cellsFrom_some→SO,isFn→SY,plainGet→S3,hasDictIn→To,methodCall_KW→Tw,plainGet_of→TV,lookIn→TX,callWith_K→T5,plainOver→Ua,methodObj→Ub,makesIn→UC,takerIn→UE,OpenLaw→UG,specialIn→Vd,handedIn→Vr,kitOne→VB,WalkO→VG
open PySem.W.Looks renaming here→VW
open Sum renaming inr→Uf,inl→Ug
open True renaming intro→TL
namespace L2
open PySem PySem.Spec PyProof.Rows
variable {us : List ol} {u : ol} {H : Hp} {a b it C : pc} {P : AC} {w : Db} {h base : Gc} {o : Obj} {t' i k : Nat} {ch fp : List pc} {x : Str} {M : Model} {A : KE} {E Q : ol → r0 → Prop} {v : V} {X : Cx} {e tg : Do} {s : r0} {pins : List (pc × Obj)} {σ : St} {pos : Pos} {op : CmpOp} {t te : TE} {K : qh} {body : List SX} {r : R2} {f : ol → ol → Sem ol} {kw : List (Str × ol)} {mg : Str → Option ol}
abbrev Key:=Sum Int Str
def LD:Key->ol->Bool
 | .inl k,v=>Value.isInt k v
 | .inr x,v=>Value.isStrOf x v
def PQ(w:Db):Key->Int
 | .inl k=>hashInt k
 | .inr x=>hashStr w x
theorem fG:∀{k:Key} {v:ol},LD k v=on->(∃i t,k=Ug i/\v=Value.int i t)\/(∃x t,k=Uf x/\v=Value.str x t)
 | .inl i,v,h=>by obtain⟨t,e⟩:=Value.isInt_shape (k:=i) (v:=v) h;exact .inl #[i,t,rfl,e]
 | .inr x,v,h=>by obtain⟨t,e⟩:=Value.isStrOf_shape (x:=x) (v:=v) h;exact .inr #[x,t,rfl,e]
theorem Oq{a b:Int}:decide ((Ug a:Key)=Ug b)=(a == b):=by by_cases e:a=b;subst e;simp;have h:¬(Ug a:Key)=Ug b:=λq=>e (Sum.inl.inj q);rw[decide_eq_false h];exact(beq_eq_false_iff_ne.mpr e).symm
theorem NK{a b:Str}:decide ((Uf a:Key)=Uf b)=decide (a=b):=by by_cases e:a=b;subst e;simp;have h:¬(Uf a:Key)=Uf b:=λq=>e (Sum.inr.inj q);rw[decide_eq_false h,decide_eq_false e]
theorem NT{a:Int}{b:Str}:decide ((Ug a:Key)=Uf b)=false:=decide_eq_false (λq=>nomatch q)
theorem Oy{a:Str}{b:Int}:decide ((Uf a:Key)=Ug b)=false:=decide_eq_false (λq=>nomatch q)
def zH(prog:AC)(w:Db):PySem.KeyKind prog w Key where
 is:=LD
 hash:=PQ w
 inj:=λv a b ha hb=>by
  rcases fG ha with⟨i,t,rfl,rfl⟩ | ⟨x,t,rfl,rfl⟩;rcases fG hb with⟨j,u,rfl,e⟩ | ⟨y,u,rfl,e⟩;injection e with e1 _;rw[e1];exact nomatch e
  rcases fG hb with⟨j,u,rfl,e⟩ | ⟨y,u,rfl,e⟩;exact nomatch e
  injection e with e1 _;rw[e1]
 byValue:=λk v h=>by rcases fG h with⟨i,t,rfl,rfl⟩ | ⟨x,t,rfl,rfl⟩ <;> rfl
 pyHash:=λhv h=>by rcases fG hv with⟨i,t,rfl,rfl⟩ | ⟨x,t,rfl,rfl⟩;exact wpAny_pyHash_int h;exact wpAny_pyHash_str h
 eqBool:=λhu hv h=>by rcases fG hu with⟨i,t,rfl,rfl⟩ | ⟨x,t,rfl,rfl⟩;rcases fG hv with⟨j,u,rfl,rfl⟩ | ⟨y,u,rfl,rfl⟩;rw[Oq] at h;exact wpAny_eqBool_int h;rw[NT] at h;exact SeqAt.EqAt.int_str i t y u _ _ _ _ h;rcases fG hv with⟨j,u,rfl,rfl⟩ | ⟨y,u,rfl,rfl⟩;rw[Oy] at h;exact SeqAt.EqAt.str_int x t j u _ _ _ _ h;rw[NK] at h;exact wpAny_eqBool_str h
 «strs»:=λk x t v h=>by
  rcases fG h with⟨i,u,rfl,e⟩ | ⟨y,u,rfl,e⟩;exact nomatch e
  injection e with e1 _
  subst e1;cases v <;> rfl
inductive V where
 | non | bl (b:Bool) | int (i:Int) | str (x:Str) | byt (b:Array UInt8) | flt (b:UInt64) | ref (a:pc) | ty (n:String)
 deriving DecidableEq
def RelV:V->ol->Prop
 | .non,u=>u=Value.none
 | .bl b,u=>u=Value.bool b
 | .int i,u=>∃t,u=Value.int i t
 | .str x,u=>∃t,u=Value.str x t
 | .byt b,u=>∃t,u=Value.bytes b t
 | .flt b,u=>∃t,u=Value.float b t
 | .ref a,u=>u=Value.ref a
 | .ty n,u=>u=Value.type n
abbrev Vals:List V->List ol->Prop:=Paired RelV
theorem Vals.length{xs:List V}(r:Vals xs us):xs.length=us.length:=Paired.length r
theorem Vals.get:∀{xs:List V} {us:List ol} {i:Nat} {x:V},Vals xs us->xs[i]? =lH x->∃u,us[i]? =lH u/\RelV x u
 | _,_,_,_,.nil,e=>by simp at e
 | _,_,0,_,.cons r _,e=>by simp at e;subst e;exact#[_,rfl,r]
 | _,_,i+1,x,.cons _ t,e=>by obtain⟨u,h1,h2⟩:=Vals.get (i:=i) (x:=x) t (by simpa using e);exact#[u,by simpa using h1,h2]
theorem Vals.set{x:V}{u:ol}(r:RelV x u):∀{xs:List V} {us:List ol} (i:Nat),Vals xs us->Vals (xs.set i x) (us.set i u)
 | _,_,_,.nil=>.nil
 | _,_,0,.cons _ t=>.cons r t
 | _,_,i+1,.cons q t=>.cons q (Vals.set r i t)
theorem Vals.append:∀{xs ys:List V} {us ws:List ol},Vals xs us->Vals ys ws->Vals (xs++ys) (us++ws)
 | _,_,_,_,.nil,s=>s
 | _,_,_,_,.cons r t,s=>.cons r (Vals.append t s)
theorem Vals.take:∀{xs:List V} {us:List ol} (n:Nat),Vals xs us->Vals (xs.take n) (us.take n)
 | _,_,0,_=>.nil
 | _,_,_+1,.nil=>.nil
 | _,_,n+1,.cons r t=>.cons r (Vals.take n t)
theorem Vals.drop:∀{xs:List V} {us:List ol} (n:Nat),Vals xs us->Vals (xs.drop n) (us.drop n)
 | _,_,0,r=>r
 | _,_,_+1,.nil=>.nil
 | _,_,n+1,.cons _ t=>Vals.drop n t
def rH:Option V->Option ol->Prop
 | some v,lH u=>RelV v u
 | none,na=>True
 | _,_=>False
def KV{U:Type}:List (U×V)->List (U×ol)->Prop:=Paired λ(p:U×V) (q:U×ol)=>p.1=q.1/\RelV p.2 q.2
def kV:Key->V
 | .inl i=>.int i
 | .inr x=>.str x
inductive HO where
 | lst (xs:List V)
 | tup (xs:List V)
 | dK (kvs:List (Key×V)) | dT (kvs:List (List Key×V))
 | set (S:Int->Bool) (n:Nat)
 | ins (C dx:pc) (fs:List (Str×V))
 | own (x:pc)
 | xd (fs:List (Str×V))
 | met (f x:pc)
 | rng (lo hi:Int)
 | frz (o:Obj) (u:HO)
 | tbl (ps:Array ol)
 | ext (φ:Gc->Prop)
abbrev Hp:=pc->Option HO
def upd(H:Hp)(a:pc)(o:HO):Hp:=λb=>if b=a then lH o else H b
theorem cH{o:HO}:upd H a o a=lH o:=by unfold upd;rw[if_pos rfl]
theorem aY{o:HO}(h:b≠a):upd H a o b=H b:=by unfold upd;rw[if_neg h]
theorem fH{o:HO}(h:H a=lH o)(h':H b=na):a≠b:=by intro e;subst e;rw[h] at h';cases h'
section
variable (P : AC) (w : Db)
def ie(H:Hp)(h:Gc)(a:pc):HO->Prop
 | .lst xs=>xs.length<=sizeLine/\∃(U:List ol) (n:Nat),Vals xs U/\h.get? a=lH {cls:=.type "list",data:=.seq U.toArray n}
 | .tup xs=>xs.length<=sizeLine/\∃U:List ol,Vals xs U/\IsTup h a U.toArray
 | .dK Y=>Y.length<=sizeLine/\(a == sysModules)=tt/\∃vs,KV Y vs/\h.DictOf (zH P w) a vs
 | .dT Y=>Y.length<=sizeLine/\(a == sysModules)=tt/\∃xs:List (List Key×pc×ol),
  Paired (λ(p:List Key×V) (q:List Key×pc×ol)=>p.1=q.1/\H q.2.1=lH (.tup (p.1.map kV))/\RelV p.2 q.2.2) Y xs/\
  ∃o es ep,h.get? a=lH o/\o.ExactDict/\o.data=.dict es ep/\es.toList=xs.map (entryOfKey (tupleKind (zH P w)))/\(xs.map (·.1)).Nodup
 | .set S n=>h.SetOf (intKind P w) a S n
 | .ins C dx fs=>H dx=lH (.own a)/\fs.length<=1000/\dx≠a/\h.get? a=lH (RS C dx)/\
  ∃mA,h.Ns1 dx mA/\(∀f,rH (fs.lookup f) (mA f))/\UX mA (fs.map (·.1))
 | .own _=>∃o,h.get? a=lH o
 | .xd fs=>∃mA,h.Ns1 a mA/\∀f,rH (fs.lookup f) (mA f)
 | .rng lo hi=>∃t u v,h.get? a=lH {cls:=.type "range",data:=.fields #v[.int lo t,.int hi u,.int 1 v]}
 | .frz o u=>h.get? a=lH o/\ie H h a u
 | .tbl ps=>h.get? a=lH {cls:=.none,data:=.fields ps}
 | .met f x=>h.get? a=lH (Ub (.ref f) (.ref x))
 | .ext φ=>φ h/\(∃o,h.get? a=lH o)/\∀h1 h2:Gc,φ h1->(∀o,h1.get? a=lH o->h2.get? a=lH o)->φ h2
def HOk(H:Hp)(h:Gc):Prop:=∀a o,H a=lH o->ie P w H h a o
end
section
variable {P : AC} {w : Db} {H H' : Hp} {h h' : Gc} {a : pc} {o : HO}
theorem ie.lt(x:ie P w H h a o):a<h.objs.size:=by
 cases o with
 | lst xs=>obtain⟨_,_,_,_,e⟩:=x;exact Heap.lt_size e
 | tup xs=>obtain⟨_,_,_,p⟩:=x;exact p.lt
 | dK U=>obtain⟨_,_,_,_,o,_,_,e,_⟩:=x;exact Heap.lt_size e
 | dT U=>obtain⟨_,_,_,_,o,_,_,e,_⟩:=x;exact Heap.lt_size e
 | set S n=>obtain⟨o,_,_,_,e,_⟩:=x;exact Heap.lt_size e
 | ins C dx fs=>obtain⟨_,_,_,e,_⟩:=x;exact Heap.lt_size e
 | own y=>obtain⟨_,e⟩:=x;exact Heap.lt_size e
 | xd fs=>obtain⟨_,⟨_,_,_,e,_⟩,_⟩:=x;exact Heap.lt_size e
 | rng lo hi=>obtain⟨_,_,_,e⟩:=x;exact Heap.lt_size e
 | frz Y u=>obtain⟨e,_⟩:=x;exact Heap.lt_size e
 | tbl ps=>exact Heap.lt_size (show h.get? a=lH _ from x)
 | met f y=>exact Heap.lt_size (show h.get? a=lH _ from x)
 | ext φ=>obtain⟨_,⟨_,e⟩,_⟩:=x;exact Heap.lt_size e
theorem Paired.mapP{α β:Type}{F G:α->β->Prop}:∀{U:List α} {Y:List β},Paired F U Y->(∀a b,F a b->G a b)->Paired G U Y
 | _,_,.nil,_=>.nil
 | _,_,.cons r t,f=>.cons (f _ _ r) (Paired.mapP t f)
theorem ie.stay (x:ie P w H h a o) (k:∀b u,(b=a\/H b=lH (.own a))->h.get? b=lH u->h'.get? b=lH u)
 (ho:∀b,H b=lH (.own a)->H' b=lH (.own a)) (ht:∀b xs,H b=lH (.tup xs)->H' b=lH (.tup xs)):ie P w H' h' a o:=by
 induction o with
 | lst xs=>obtain⟨z,ab,n,r,e⟩:=x;exact#[z,ab,n,r,k _ _ (.inl rfl) e]
 | tup xs=>obtain⟨z,ab,r,U,e,c⟩:=x;exact#[z,ab,r,U,k _ _ (.inl rfl) e,c]
 | dK ac=>obtain⟨z,y,vs,r,U,es,Y,e,c⟩:=x;exact#[z,y,vs,r,U,es,Y,k _ _ (.inl rfl) e,c]
 | dT ac=>
  obtain⟨z,y,xs,r,U,es,Y,e,c⟩:=x;exact#[z,y,xs,Paired.mapP r λp q z=>#[z.1,ht _ _ z.2.1,z.2.2],U,es,Y,k _ _ (.inl rfl) e,c]
 | set S n=>obtain⟨U,es,Y,t,e,c⟩:=x;exact#[U,es,Y,t,k _ _ (.inl rfl) e,c]
 | ins C dx fs=>
  obtain⟨d,z,ne,e,mA,⟨od,es,Y,e2,c⟩,r⟩:=x;exact#[ho _ d,z,ne,k _ _ (.inl rfl) e,mA,#[od,es,Y,k _ _ (.inr d) e2,c],r]
 | own y=>obtain⟨U,e⟩:=x;exact#[U,k _ _ (.inl rfl) e]
 | xd fs=>obtain⟨mA,⟨od,es,Y,e,c⟩,r⟩:=x;exact#[mA,#[od,es,Y,k _ _ (.inl rfl) e,c],r]
 | rng lo hi=>obtain⟨t,u,v,e⟩:=x;exact#[t,u,v,k _ _ (.inl rfl) e]
 | frz U u ih=>obtain⟨e,q⟩:=x;exact#[k _ _ (.inl rfl) e,ih q]
 | tbl ps=>
  have e:h.get? a=lH {cls:=.none,data:=.fields ps}:=x;show h'.get? a=lH {cls:=.none,data:=.fields ps};exact k a _ (.inl rfl) e
 | met f y=>
  have e:h.get? a=lH (Ub (.ref f) (.ref y)):=x;show h'.get? a=lH (Ub (.ref f) (.ref y));exact k a _ (.inl rfl) e
 | ext φ=>obtain⟨p,⟨o,e⟩,st⟩:=x;exact#[st _ _ p λo q=>k _ _ (.inl rfl) q,#[o,k _ _ (.inl rfl) e],st]
theorem HOk.lt(x:HOk P w H h)(e:H a=lH o):a<h.objs.size:=(x a o e).lt
theorem HOk.fresh(x:HOk P w H h)(e:h.objs.size<=a):H a=none:=by
 cases q:H a with
 | none=>rfl
 | some u=>exact absurd (AT (x.lt q) e) (RM _)
theorem HOk.kept(x:HOk P w H h)(k:∀b u,h.get? b=lH u->h'.get? b=lH u):HOk P w H h':=λa o e=>
 (x a o e).stay (λb u _ q=>k b u q) (λ_ q=>q) λ_ _ q=>q
theorem HOk.laid(x:HOk P w H h)(k:∀b u,h.get? b=lH u->h'.get? b=lH u)(hp:h.objs.size<=a)(U:ie P w (upd H a o) h' a o):HOk P w (upd H a o) h':=λb u e=>by have hn:=x.fresh hp;by_cases hb:b=a;subst hb;rw[cH] at e;cases e;exact U;rw[aY hb] at e;exact(x b u e).stay (λc v _ q=>k c v q) (λc q=>by rw[aY (fH q hn)];exact q) λc xs q=>by rw[aY (fH q hn)];exact q
end
def Rd(H:Hp)(a:pc)(u:HO):Prop:=H a=lH u\/∃o,H a=lH (.frz o u)
theorem Rd.ok{u:HO}(r:Rd H a u)(x:HOk P w H h):ie P w H h a u:=by rcases r with r | ⟨o,r⟩;exact x a u r;obtain⟨_,q⟩:=x a _ r;exact q
def Mut:Option HO->Prop
 | some (.lst _)=>True
 | some (.dK _)=>True
 | some (.dT _)=>True
 | some (.set _ _)=>True
 | some (.ins _ _ _)=>True
 | some (.ext _)=>True
 | _=>False
section
variable {P : AC} {w : Db} {H : Hp} {h h' : Gc} {x e : pc} {o' : HO}
theorem HOk.write (ok:HOk P w H h) (mu:Mut (H x)) (he:e=x\/H e=lH (.own x)) (k:∀b u,b≠e->h.get? b=lH u->h'.get? b=lH u) (al:∃u,h'.get? e=lH u)
 (am:ie P w (upd H x o') h' x o'):HOk P w (upd H x o') h':=λb u q=>by
 have Y:∀c y,H c=lH (.own y)->c≠x:=λc y r z=>by subst z;rw[r] at mu;exact mu
 have ab:∀c xs,H c=lH (.tup xs)->c≠x:=λc xs r z=>by subst z;rw[r] at mu;exact mu
 by_cases hb:b=x;subst hb;rw[cH] at q;cases q;exact am;rw[aY hb] at q;by_cases U:b=e;have q':H b=lH (.own x):=by rcases he with z | z;exact absurd (U.trans z) hb;rw[U];exact z
 rw[q] at q';cases q';obtain⟨v,hv⟩:=al;exact#[v,by rw[U];exact hv];refine(ok b u q).stay (λc v hc r=>k c v ?_ r) (λc r=>by rw[aY (Y c b r)];exact r) λc xs r=>by rw[aY (ab c xs r)];exact r
 rcases hc with rfl | hc;exact U;rintro rfl;rcases he with z | z;exact Y c b hc z;rw[hc] at z;cases z;exact hb rfl
end
structure Un(fs ex:List pc)(H H':Hp)(h h':Gc):Prop where
 keep:∀b o,h.get? b=lH o->H b=na->b∉fs->b∉ex->h'.get? b=lH o
 slot:∀b o,h.get? b=lH o->H b=na->b∈fs->b∉ex->∃sl,h'.get? b=lH {o with slots:=sl}
 free:∀b o,h.get? b=lH o->H b=na->b∉ex->H' b=na
 there:∀b o,h.get? b=lH o->b∉ex->∃o',h'.get? b=lH o'
 tups:∀b xs,H b=lH (.tup xs)->H' b=lH (.tup xs)
 frzs:∀b o u,H b=lH (.frz o u)->H' b=lH (.frz o u)
 tbls:∀b ps,H b=lH (.tbl ps)->∃more,H' b=lH (.tbl (ps++more))
section
variable {fs fs' ex ex' : List pc} {H H1 H2 : Hp} {h h1 h2 h' : Gc} {a x e : pc} {o : HO}
theorem Un.any(u:Un fs ex H H1 h h1){U:Obj}(q:h.get? b=lH U)(n:H b=na)(hx:b∉ex):∃sl,h1.get? b=lH {U with slots:=sl}:=by by_cases hb:b∈fs;exact u.slot b U q n hb hx;exact#[U.slots,u.keep b U q n hb hx]
theorem Un.kept(k:∀b u,h.get? b=lH u->h'.get? b=lH u):Un fs ex H H h h':=
 #[λb U q _ _ _=>k b U q,λb U q _ _ _=>#[U.slots,k b U q],λ_ _ _ n _=>n,λb U q _=>#[U,k b U q],λ_ _ q=>q,λ_ _ _ q=>q,λ_ ps q=>#[#v[],by rw[q];simp]]
theorem Un.refl:Un fs ex H H h h:=Un.kept λ_ _ q=>q
theorem Un.laid(k:∀b u,h.get? b=lH u->h'.get? b=lH u)(hp:h.objs.size<=a)(hn:H a=na):Un fs ex H (upd H a o) h h' where
 keep:=λb u q _ _ _=>k b u q
 slot:=λb u q _ _ _=>#[u.slots,k b u q]
 free:=λb u q n _=>by rw[aY (FS (AT (Heap.lt_size q) hp))];exact n
 there:=λb u q _=>#[u,k b u q]
 tups:=λb xs q=>by rw[aY (fH q hn)];exact q
 frzs:=λb u xs q=>by rw[aY (fH q hn)];exact q
 tbls:=λb ps q=>#[#v[],by rw[aY (fH q hn),q];simp]
theorem Un.write(Y:Mut (H x))(he:e=x\/H e=lH (.own x))(k:∀b u,b≠e->h.get? b=lH u->h'.get? b=lH u)(ab:∃u,h'.get? e=lH u):Un fs ex H (upd H x o) h h':=by
 have hx:∀b,H b=na->b≠x:=λb n z=>by subst z;rw[n] at Y;exact Y
 have hb:∀b,H b=na->b≠e:=λb n z=>by
  subst z;rcases he with r | r
  exact hx b n r;rw[n] at r;cases r
 have hm:∀b u,H b=lH u->¬Mut (lH u)->b≠x:=λb u q nm z=>by subst z;rw[q] at Y;exact nm Y
 refine#[λb u q n _ _=>k b u (hb b n) q,λb u q n _ _=>#[u.slots,k b u (hb b n) q],λb u q n _=>by rw[aY (hx b n)];exact n,λb u q _=> ?_,
  λb xs q=>by rw[aY (hm b _ q λz=>z)];exact q,λb u xs q=>by rw[aY (hm b _ q λz=>z)];exact q,λb ps q=>#[#v[],by rw[aY (hm b _ q λz=>z),q];simp]]
 by_cases U:b=e;subst U;exact ab;exact#[u,k b u U q]
end
def trk(h:Gc)(H:Hp):List Addr:=(tz h.objs.size).filter λa=>(H a).isSome
def qN(h:Gc)(H:Hp):Heap:=PySem.W.hideAll h (trk h H)
theorem Ij:(qN h H).objs.size=h.objs.size:=PySem.W.hideAll_size _ _
theorem J6(e:h.get? b=lH o)(n:H b=na):(qN h H).get? b=lH o:=
 PySem.W.hideAll_get _ e λhm=>by have q:(H b).isSome=true:=(wS.mp hm).2;rw[n] at q;simp at q
theorem L5(e:(qN h H).get? b=lH o):h.get? b=lH o/\H b=none:=by
 have e':h.get? b=lH o:=PySem.W.of_hideAll (trk h H) e;refine#[e', ?_];cases q:H b with
 | none=>rfl
 | some x=>
  have hm:b∈trk h H:=wS.mpr #[Ch.mpr (Heap.lt_size e'),by simp[q]];have z:(qN h H).get? b=none:=PySem.W.hideAll_none (trk h H) hm;rw[z] at e;cases e
def MH(g h:Gc)(L:pc):List (pc×Obj):=(tz h.objs.size).filterMap λa=>if a=L\/(g.get? a).isSome=on then na else (h.get? a).map λo=>(a,o)
def rest(g h:Gc)(L d:pc):List (pc×Obj):=(MH g h L).filter λp=>decide (p.1≠d)
structure Mod(K:qh)(mg:Str->Option ol)(base:Gc):Prop where
 kin:K.In base
 glob:base.Ns mainGlobals mg
 blt:∃mb,base.Ns builtinsNs mb/\∀x:Str,x≠"__name__" ->mb x=bootBuiltins x
 nolimit:base.NoLimit
 seer:base.NoSeer
structure Cx where
 prog:AC
 w:Db
 K:qh
 mg:Str->Option ol
 base:Gc
 A:KE
 N:List Str
 s₀:r0
 H₀:Hp
 env:Env
 outer:List Env
 stack:List Env
 ex:List pc
 fn:Str->Bool
 calm:Bool
 pn:List (pc×Obj)
 xe:ol->r0->Prop
def frs(l:List Env):List Addr:=l.filterMap (·.frame)
abbrev Cx.fs(X:Cx):List Addr:=frs X.outer
def Vis(sc:Sj)(x:Str):Prop:=sc.names.lookup x=lH .local\/sc.names.lookup x=lH .cell\/sc.names.lookup x=lH .free
def Loc(sc:Sj)(x:Str):Prop:=sc.names.lookup x=lH .local\/sc.names.lookup x=lH .cell
def Look(env:Env)(h:Gc)(m:Str->Option ol)(x:Str)(u:ol):Prop:=
 (env.kindOf x=lH .local/\m x=lH u)\/((env.kindOf x=lH .cell\/env.kindOf x=lH .free)/\∃c,env.cells.lookup x=lH c/\h.IsCell c (lH u))
structure Cx.Ok(X:Cx):Prop where
 mod:Mod X.K X.mg X.base
 kind:X.env.scope.kind=.function
 glob:X.env.globals=mainGlobals
 blt:X.env.builtins=builtinsNs
 above:X.s₀.heap.objs.size<=X.env.locals
 inj:∀x y c,X.env.cells.lookup x=lH c->X.env.cells.lookup y=lH c->x=y
 has:∀x,(X.env.kindOf x=lH .cell\/X.env.kindOf x=lH .free)->∃c,X.env.cells.lookup x=lH c
 cab:∀x c,X.fn x=on->X.env.cells.lookup x=lH c->X.s₀.heap.objs.size<=c
 hd:X.calm=on->X.A.handled=na
 frames:X.A.frames=lH X.stack
 stk:X.stack=X.outer\/(X.stack=X.env::X.outer/\X.env.frame=lH X.env.locals)
 exf:∀b∈X.ex,b≠X.env.locals/\∀x c,X.env.cells.lookup x=lH c->c≠b
 bs:∀b o,X.base.get? b=lH o->X.s₀.heap.get? b=lH o/\X.H₀ b=na
 bsz:X.base.objs.size<=X.s₀.heap.objs.size
 noex:∀b o,X.base.get? b=lH o->b∉X.ex
 exfs:∀b∈X.ex,b∉X.fs
 funs:X.s₀.heap.FunFrames X.base X.outer
 frf:∀b∈X.fs,X.H₀ b=na
structure Inv(X:Cx)(pins:List (pc×Obj))(σ:List (Option V))(H:Hp)(s:r0):Prop where
 ok:X.Ok
 os:s.os=X.s₀.os
 bare:Tk s.gens
 base:Un X.fs X.ex X.H₀ H X.s₀.heap s.heap
 loc:∃m,s.heap.Ns X.env.locals m/\∀(i:Nat) (x:Str) (v:V),X.N[i]? =lH x->σ[i]? =lH (lH v)->Vis X.env.scope x->∃u,RelV v u/\Look X.env s.heap m x u
 cell:∀x c,X.env.cells.lookup x=lH c->∃v,s.heap.IsCell c v
 free:H X.env.locals=na
 freeC:∀x c,X.env.cells.lookup x=lH c->H c=na
 pin:∀p∈X.pn++pins,s.heap.get? p.1=lH p.2/\H p.1=na/\p.1≠X.env.locals/\p.1∉X.fs/\∀v,p.2.data≠ .cell v
 hok:HOk X.prog X.w H s.heap
 len:σ.length=X.N.length
section
variable {X : Cx} {pins : List (pc × Obj)} {σ : List (Option V)} {H H' : Hp} {s : r0} {h' : Gc}
theorem Cx.Ok.nofr(ok:X.Ok)(e:X.base.get? b=lH o):b∉X.fs:=λhb=>by have:=(ok.funs.mem hb).1;rw[e] at this;cases this
theorem Inv.bs(I:Inv X pins σ H s):∀b o,X.base.get? b=lH o->s.heap.get? b=lH o/\H b=none:=λb o e=>
 #[I.base.keep b o (I.ok.bs b o e).1 (I.ok.bs b o e).2 (I.ok.nofr e) (I.ok.noex b o e),I.base.free b o (I.ok.bs b o e).1 (I.ok.bs b o e).2 (I.ok.noex b o e)]
theorem Inv.bk(I:Inv X pins σ H s):∀b o,X.base.get? b=lH o->s.heap.get? b=lH o:=λb o e=>(I.bs b o e).1
theorem Inv.mod(I:Inv X pins σ H s):Mod X.K X.mg X.base:=I.ok.mod
theorem Inv.kIn(I:Inv X pins σ H s):X.K.In s.heap:=I.ok.mod.kin.keeps I.bk
theorem Inv.nolimit(I:Inv X pins σ H s):s.heap.NoLimit:=I.ok.mod.nolimit.keeps I.bk
theorem Inv.noseer(I:Inv X pins σ H s):s.heap.NoSeer:=I.ok.mod.seer.keeps I.bk
theorem Inv.lt(I:Inv X pins σ H s):X.env.locals<s.heap.objs.size:=let #[_,hn,_]:=I.loc;hn.lt
theorem Inv.sz(I:Inv X pins σ H s):X.s₀.heap.objs.size<=s.heap.objs.size:=IR I.ok.above (R9 I.lt)
theorem Inv.nofs(I:Inv X pins σ H s)(h:s.heap.objs.size<=a):a∉X.fs:=λhb=>by obtain⟨_,o,U,_⟩:=I.ok.funs.mem hb;exact absurd (AT (Heap.lt_size U) (IR I.sz h)) (RM _)
theorem Inv.cne(I:Inv X pins σ H s):∀x c,X.env.cells.lookup x=lH c->c≠X.env.locals:=λx c e z=>by obtain⟨v,o,ho,hd⟩:=I.cell x c e;obtain⟨m,⟨o',es,ep,U,Y,_⟩,_⟩:=I.loc;rw[z,U] at ho;cases ho;rw[Y] at hd;cases hd
theorem Inv.funs(I:Inv X pins σ H s):s.heap.FunFrames X.base X.outer:=by
 have all:∀(l:List Env),(∀b∈frs l,b∈X.fs)->X.s₀.heap.FunFrames X.base l->s.heap.FunFrames X.base l:=by
  intro l;induction l with
  | nil=>intro _ _;trivial
  | cons env r ih=>
   intro hs hl;obtain⟨hk,⟨L,o,U,hn,ho,hd⟩,hr⟩:=hl;have Y:L∈X.fs:=hs L (by unfold frs;rw[TU,U];exact sH);obtain⟨sl,e⟩:=I.base.slot L o ho (I.ok.frf L Y) Y λz=>I.ok.exfs L z Y;exact#[hk,#[L,_,U,hn,e,hd],ih (λb hb=>hs b (by unfold frs;rw[TU,U];exact sB _ hb)) hr]
 exact all X.outer (λ_ hb=>hb) I.ok.funs
theorem Inv.stack(I:Inv X pins σ H s):s.heap.FunFrames X.base X.stack:=by rcases I.ok.stk with e | ⟨e,U⟩;rw[e];exact I.funs;rw[e];obtain⟨m,hn,_⟩:=I.loc;refine .cons (by rw[I.ok.kind];decide) U hn ?_ I.funs;exact Heap.get?_none_of_le (IR I.ok.bsz I.ok.above)
theorem Inv.stkSub(I:Inv X pins σ H s):∀b∈frs X.stack,b∈X.env.locals::X.fs:=λb hb=>by rcases I.ok.stk with e | ⟨e,U⟩;rw[e] at hb;exact sB _ hb;rw[e] at hb;unfold frs at hb;rw[TU,U] at hb;exact hb
theorem Inv.stkFree(I:Inv X pins σ H s):∀b∈frs X.stack,H b=none:=λb hb=>by rcases vr.mp (I.stkSub b hb) with e | hb;rw[e];exact I.free;obtain⟨_,o,U,_⟩:=I.ok.funs.mem hb;exact I.base.free b o U (I.ok.frf b hb) λz=>I.ok.exfs b z hb
theorem Inv.step {g':Array Vn} {t':Nat} {d':Drawn} {ch:List pc} (I:Inv X pins σ H s)
 (U:∀b∈ch,(b∈X.ex\/X.s₀.heap.objs.size<=b)/\b≠X.env.locals/\(∀x c,X.env.cells.lookup x=lH c->c≠b)/\∀p∈X.pn++pins,p.1≠b)
 (keep:∀b o,b≠X.env.locals->b∉X.fs->b∉ch->s.heap.get? b=lH o->H b=na->h'.get? b=lH o)
 (slot:∀b o,b≠X.env.locals->b∈X.fs->b∉ch->s.heap.get? b=lH o->H b=na->∃sl,h'.get? b=lH {o with slots:=sl}) (free:∀b o,b∉ch->s.heap.get? b=lH o->H b=na->H' b=na)
 (there:∀b o,b∉ch->s.heap.get? b=lH o->∃o',h'.get? b=lH o')
 (tups:∀b xs,H b=lH (.tup xs)->H' b=lH (.tup xs)) (frzs:∀b o u,H b=lH (.frz o u)->H' b=lH (.frz o u)) (tbls:∀b ps,H b=lH (.tbl ps)->∃more,H' b=lH (.tbl (ps++more)))
 (ns:∀m,s.heap.Ns X.env.locals m->h'.Ns X.env.locals m) (an:HOk X.prog X.w H' h') (hg:Tk g'):
 Inv X pins σ H' {s with heap:=h',gens:=g',drawn:=d',toks:=t'}:=by
 have am:∀b o,X.s₀.heap.get? b=lH o->b≠X.env.locals:=λb o e=>FS (AT (Heap.lt_size e) I.ok.above);have ac:∀b o,X.s₀.heap.get? b=lH o->b∉X.ex->b∉ch:=λb o e hx hb=>by rcases(U b hb).1 with z | z;exact hx z;exact absurd (AT (Heap.lt_size e) z) (RM _)
 have Y:∀x c,X.env.cells.lookup x=lH c->∀v,s.heap.IsCell c v->h'.IsCell c v:=λx c e v #[o,ho,hd]=>by have ab:c∉ch:=λz=>(U c z).2.2.1 x c e rfl;by_cases hc:c∈X.fs;obtain⟨sl,q⟩:=slot c o (I.cne x c e) hc ab ho (I.freeC x c e);exact#[_,q,hd];exact#[o,keep c o (I.cne x c e) hc ab ho (I.freeC x c e),hd]
 refine#[I.ok,I.os,hg,#[λb o e n hb hx=> ?_,λb o e n hb hx=> ?_,λb o e n hx=> ?_,λb o e hx=> ?_,λb xs e=>tups b xs (I.base.tups b xs e),λb o xs e=>frzs b o xs (I.base.frzs b o xs e),λb ps e=> ?_], ?_,λx c e=> ?_, ?_,λx c e=> ?_,λp hp=> ?_,an,I.len];exact keep b o (am b o e) hb (ac b o e hx) (I.base.keep b o e n hb hx) (I.base.free b o e n hx);obtain⟨sl,e1⟩:=I.base.slot b o e n hb hx;obtain⟨ap,e2⟩:=slot b _ (am b o e) hb (ac b o e hx) e1 (I.base.free b o e n hx);exact#[ap,e2];obtain⟨o',e1⟩:=I.base.there b o e hx;exact free b o' (ac b o e hx) e1 (I.base.free b o e n hx);obtain⟨o',e1⟩:=I.base.there b o e hx;exact there b o' (ac b o e hx) e1;obtain⟨m1,e1⟩:=I.base.tbls b ps e;obtain⟨m2,e2⟩:=tbls b _ e1;exact#[m1++m2,by rw[e2,Array.append_assoc]];obtain⟨m,hn,hl⟩:=I.loc;refine#[m,ns m hn,λi x v e1 e2 e3=> ?_];obtain⟨u,r,l⟩:=hl i x v e1 e2 e3;refine#[u,r, ?_];rcases l with l | ⟨k,c,e,z⟩
 exact .inl l;exact .inr #[k,c,e,Y x c e _ z];obtain⟨v,z⟩:=I.cell x c e;exact#[v,Y x c e v z];obtain⟨m,⟨o,_,_,ho,_⟩,_⟩:=I.loc;exact free _ o (λz=>(U _ z).2.1 rfl) ho I.free;obtain⟨v,o,ho,hd⟩:=I.cell x c e;exact free c o (λz=>(U c z).2.2.1 x c e rfl) ho (I.freeC x c e);obtain⟨e,n,ne,nf,d⟩:=I.pin p hp;have ab:p.1∉ch:=λz=>(U p.1 z).2.2.2 p hp rfl;exact#[keep p.1 p.2 ne nf ab e n,free p.1 p.2 ab e n,ne,nf,d]
theorem Inv.un(I:Inv X pins σ H s)(u:Un X.fs [] H H' s.heap h')(Y:HOk X.prog X.w H' h'):Inv X pins σ H' {s with heap:=h',toks:=t'}:=by
 obtain⟨m,⟨o,es,ep,ho,r⟩,_⟩:=id I.loc;obtain⟨sl,hL⟩:=u.any ho I.free (by simp);exact I.step (g':=s.gens) (d':=s.drawn) (ch:=[]) (λ_ z=>nomatch z) (λb o _ hb _ e n=>u.keep b o e n hb (by simp)) (λb o _ hb _ e n=>u.slot b o e n hb (by simp)) (λb o _ e n=>u.free b o e n (by simp)) (λb o _ e=>u.there b o e (by simp)) u.tups u.frzs u.tbls (λm' hm=>by obtain⟨o',ab,ac,U,r'⟩:=hm;rw[ho] at U;cases U;exact#[_,ab,ac,hL,r']) Y I.bare
theorem Inv.call {g':Array Vn} {t':Nat} {d':Drawn} (I:Inv X pins σ H s) (u:Un (frs X.stack) ch H H' s.heap h') (ab:HOk X.prog X.w H' h') (hg:Tk g')
 (U:∀b∈ch,(b∈X.ex\/X.s₀.heap.objs.size<=b)/\b≠X.env.locals/\(∀x c,X.env.cells.lookup x=lH c->c≠b)/\∀p∈X.pn++pins,p.1≠b):
 Inv X pins σ H' {s with heap:=h',gens:=g',drawn:=d',toks:=t'}:=by
 obtain⟨m,⟨o,es,ep,ho,r⟩,_⟩:=id I.loc;obtain⟨sl,hL⟩:=u.any ho I.free λz=>(U _ z).2.1 rfl;exact I.step (ch:=ch) U (λb o hL hb hc e n=>u.keep b o e n (λz=>(vr.mp (I.stkSub b z)).elim hL hb) hc) (λb o _ _ hc e n=>u.any e n hc) (λb o hc e n=>u.free b o e n hc) (λb o hc e=>u.there b o e hc) u.tups u.frzs u.tbls (λm' hm=>by obtain⟨o',al,am,Y,r'⟩:=hm;rw[ho] at Y;cases Y;exact#[_,al,am,hL,r']) ab hg
theorem Inv.turned {t':Nat} (I:Inv X pins σ H s) (k:∀b o,b≠it->s.heap.get? b=lH o->h'.get? b=lH o) (hn:H it=na) (Y:it≠X.env.locals)
 (h1:it∈X.ex\/X.s₀.heap.objs.size<=it) (h2:∀x c,X.env.cells.lookup x=lH c->c≠it) (h3:∀p∈X.pn++pins,p.1≠it):Inv X pins σ H {s with heap:=h',toks:=t'}:=by
 have U:∀b u,H b=lH u->b≠it:=λb u e z=>by rw[z,hn] at e;cases e
 refine I.step (g':=s.gens) (d':=s.drawn) (ch:=[it]) (λb hb=> ?_) (λb o _ _ hc e _=>k b o (λz=>hc (by simp[z])) e) (λb o _ _ hc e _=>#[o.slots,k b o (λz=>hc (by simp[z])) e]) (λ_ _ _ _ n=>n)
  (λb o hc e=>#[o,k b o (λz=>hc (by simp[z])) e]) (λ_ _ e=>e) (λ_ _ _ e=>e) (λb ps e=>#[#v[],by rw[e];simp]) (λm hm=> ?_) (λb u e=> ?_) I.bare
 have e:b=it:=by simpa using hb
 subst e;exact#[h1,Y,h2,h3];obtain⟨o,es,ep,ho,r⟩:=hm;exact#[o,es,ep,k _ o (S1 Y) ho,r];refine(I.hok b u e).stay (λc v hc q=>k c v ?_ q) (λ_ q=>q) λ_ _ q=>q;rcases hc with z | z
 rw[z];exact U b u e;exact U c _ z
theorem Inv.tok(I:Inv X pins σ H s)(t:Nat):Inv X pins σ H {s with toks:=t}:=I.un (h':=s.heap) (t':=t) Un.refl I.hok
theorem Inv.kept(I:Inv X pins σ H s)(k:∀b u,s.heap.get? b=lH u->h'.get? b=lH u):Inv X pins σ H {s with heap:=h',toks:=t'}:=I.un (Un.kept k) (I.hok.kept k)
theorem Inv.laid{o:HO}{t':Nat}(I:Inv X pins σ H s)(k:∀b u,s.heap.get? b=lH u->h'.get? b=lH u)(hp:s.heap.objs.size<=a)(U:ie X.prog X.w (upd H a o) h' a o):
 Inv X pins σ (upd H a o) {s with heap:=h',toks:=t'}:=I.un (Un.laid k hp (I.hok.fresh hp)) (I.hok.laid k hp U)
theorem Inv.write {x e:pc} {o:HO} {t':Nat} (I:Inv X pins σ H s) (mu:Mut (H x)) (he:e=x\/H e=lH (.own x)) (k:∀b u,b≠e->s.heap.get? b=lH u->h'.get? b=lH u) (U:∃u,h'.get? e=lH u)
 (Y:ie X.prog X.w (upd H x o) h' x o):Inv X pins σ (upd H x o) {s with heap:=h',toks:=t'}:=I.un (Un.write mu he k U) (I.hok.write mu he k U Y)
theorem Inv.pins_of{U:List (pc×Obj)}(I:Inv X pins σ H s)(h:∀p∈U,s.heap.get? p.1=lH p.2/\H p.1=na/\p.1≠X.env.locals/\p.1∉X.fs/\∀v,p.2.data≠ .cell v):Inv X U σ H s:=
 #[I.ok,I.os,I.bare,I.base,I.loc,I.cell,I.free,I.freeC,λp hp=>(wn.mp hp).elim (λz=>I.pin p (Ru _ z)) (h p),I.hok,I.len]
theorem Eh{N:List Str}(U:N.Nodup){i j:Nat}(a:N[i]? =lH x)(b:N[j]? =lH x):i=j:=by obtain⟨h1,e1⟩:=xL.mp a;obtain⟨h2,e2⟩:=xL.mp b;exact(Vq U).mp (e1.trans e2.symm)
theorem BH {M:Model} {A:KE} {E:ol->r0->Prop} {Q:Unit->r0->Prop} (I:Inv X pins σ H s) (hN:X.N.Nodup) (hi:X.N[i]? =lH x) (hx:Loc X.env.scope x) (r:RelV v u)
 (h:∀s',Inv X pins (σ.set i (lH v)) H s'->(∃a,Heap.SameBut a s.heap s'.heap/\(a=X.env.locals\/X.env.cells.lookup x=lH a))->Q () s') (hf:X.fn x=on\/X.env.scope.names.lookup x=lH .local:=by first | exact .inl rfl | exact .inr rfl | assumption):wpAny M A (storeName X.env x u) Q E s:=by
 obtain⟨m,hn,hl⟩:=id I.loc;have am:(X.env.scope.kind == .class||(X.env.scope.kind == .module&&X.env.locals != X.env.globals))=false:=by rw[I.ok.kind];rfl
 have ab:i<σ.length:=by rw[I.len];exact(xL.mp hi).1
 have cne:=I.cne;have U:∀{a:pc} {h':Gc},(∃o,s.heap.get? a=lH o/\H a=na)->Heap.SameBut a s.heap h'->HOk X.prog X.w H h':=λ{a h'} ha hs b ob e=>by
  obtain⟨_,_,Y⟩:=ha;refine(I.hok b ob e).stay (λc w' hc q=>(hs.2 c ?_).trans q) (λ_ q=>q) λ_ _ q=>q;rintro rfl;rcases hc with rfl | hc
  rw[Y] at e;cases e;rw[Y] at hc;cases hc
 rcases hx with hk | hk;refine wpAny_storeName_local hk hn (λh' a2 hs=> ?_) am;obtain⟨oL,_,_,a3,_⟩:=id hn;refine h _ #[I.ok,I.os,I.bare,#[λb o e n hb hx=> ?_,λb o e n hb hx=> ?_,I.base.free,λb o e hx=> ?_,I.base.tups,I.base.frzs,I.base.tbls],#[_,a2,λj y v' e1 e2 e3=> ?_],λy c e=> ?_,I.free,I.freeC,λp hp=> ?_,U #[oL,a3,I.free] hs,by simpa using I.len] #[_,hs,.inl rfl];exact(hs.2 b (FS (AT (Heap.lt_size e) I.ok.above))).trans (I.base.keep b o e n hb hx);obtain⟨sl,e1⟩:=I.base.slot b o e n hb hx;exact#[sl,(hs.2 b (FS (AT (Heap.lt_size e) I.ok.above))).trans e1];obtain⟨o',e1⟩:=I.base.there b o e hx;exact#[o',(hs.2 b (FS (AT (Heap.lt_size e) I.ok.above))).trans e1];by_cases hj:j=i;subst hj;rw[hi] at e1;cases e1;rw[Rj ab] at e2;cases e2;exact#[u,r,.inl #[hk,by simp]];rw[Ro (S1 hj)] at e2;obtain⟨u',r',q⟩:=hl j y v' e1 e2 e3;refine#[u',r', ?_];rcases q with⟨k,e⟩ | ⟨k,c,e,z⟩;refine .inl #[k, ?_];have:y≠x:=λe=>hj (Eh hN e1 (e▸hi))
 simp[this,e];exact .inr #[k,c,e,z.sameBut hs (cne y c e)];obtain⟨w',z⟩:=I.cell y c e;exact#[w',z.sameBut hs (cne y c e)];obtain⟨e,n,ne,nf,d⟩:=I.pin p hp;exact#[(hs.2 p.1 ne).trans e,n,ne,nf,d];have al:X.fn x=true:=by rcases hf with z | z;exact z;rw[z] at hk;cases hk
 obtain⟨c,hc⟩:=I.ok.has x (.inl hk);obtain⟨w',z⟩:=I.cell x c hc;refine wpAny_storeName_cell I.ok.kind hk hc z (λh' an hs=> ?_);obtain⟨oc,ap,as⟩:=id z;refine h {s with heap:=h'} #[I.ok,I.os,I.bare,#[λb o e n hb hx=> ?_,λb o e n hb hx=> ?_,I.base.free,λb o e hx=> ?_,I.base.tups,I.base.frzs,I.base.tbls],#[m,hn.sameBut hs (S1 (cne x c hc)),λj y v' e1 e2 e3=> ?_],λy c' e=> ?_,I.free,I.freeC,λp hp=> ?_,U #[oc,ap,I.freeC x c hc] hs,by simpa using I.len] #[c,hs,.inr hc];exact(hs.2 b (FS (AT (Heap.lt_size e) (I.ok.cab x c al hc)))).trans (I.base.keep b o e n hb hx);obtain⟨sl,e1⟩:=I.base.slot b o e n hb hx;exact#[sl,(hs.2 b (FS (AT (Heap.lt_size e) (I.ok.cab x c al hc)))).trans e1];obtain⟨o',e1⟩:=I.base.there b o e hx;exact#[o',(hs.2 b (FS (AT (Heap.lt_size e) (I.ok.cab x c al hc)))).trans e1];by_cases hj:j=i;subst hj;rw[hi] at e1;cases e1;rw[Rj ab] at e2;cases e2;exact#[u,r,.inr #[.inl hk,c,hc,an]];rw[Ro (S1 hj)] at e2;obtain⟨u',r',q⟩:=hl j y v' e1 e2 e3;refine#[u',r', ?_];rcases q with q | ⟨k,c',e,z'⟩
 exact .inl q;refine .inr #[k,c',e,z'.sameBut hs ?_];rintro rfl;exact hj (Eh hN e1 (I.ok.inj _ _ _ e hc▸hi));by_cases az:c'=c;subst az;exact#[_,an];obtain⟨w2,z2⟩:=I.cell y c' e;exact#[w2,z2.sameBut hs az];obtain⟨e,n,ne,nf,d⟩:=I.pin p hp;refine#[(hs.2 p.1 ?_).trans e,n,ne,nf,d];intro q;rw[q,ap] at e;have q':oc=p.2:=RJ e;exact d w' (by rw[<- q'];exact as)
theorem Ej {M:Model} {A:KE} {E:ol->r0->Prop} {Q:Unit->r0->Prop} (I:Inv X pins σ H s) (U:X.N.Nodup) (hi:X.N[i]? =lH x) (hx:Loc X.env.scope x) (r:RelV v u)
 (h:∀s',Inv X pins (σ.set i (lH v)) H s'->Q () s') (Y:X.fn x=on\/X.env.scope.names.lookup x=lH .local:=by first | exact .inl rfl | exact .inr rfl | assumption):wpAny M A (storeName X.env x u) Q E s:=
 BH I U hi hx r (λs' I' _=>h s' I') Y
theorem Inv.call' {s':r0} (I:Inv X pins σ H s) (ho:s'.os=s.os) (u:Un (frs X.stack) ch H H' s.heap s'.heap) (U:HOk X.prog X.w H' s'.heap) (hg:Tk s'.gens)
 (Y:∀b∈ch,(b∈X.ex\/X.s₀.heap.objs.size<=b)/\b≠X.env.locals/\(∀x c,X.env.cells.lookup x=lH c->c≠b)/\∀p∈X.pn++pins,p.1≠b):Inv X pins σ H' s':=by
 obtain⟨h',g',d',t',o'⟩:=s';have e:o'=s.os:=ho;subst e;exact I.call (g':=g') (t':=t') (d':=d') u U hg Y
end
abbrev XK:=ol->Option pc->Hp->Prop
abbrev St:=List (Option V)
abbrev VK:=V->Hp->Prop
abbrev TE:=St->Hp->VK->Prop
abbrev TT:=St->Hp->(Bool->Hp->Prop)->Prop
abbrev TA:=St->Hp->(List V->Hp->Prop)->Prop
structure Ends where
 nx:St->Hp->Prop
 rt:VK
 bk:St->Hp->Prop:=λ_ _=>False
 ct:St->Hp->Prop:=λ_ _=>False
abbrev TS:=Ends->St->Hp->Prop
def EP(X:Cx)(pins:List (pc×Obj))(σ:St)(Q:VK)(u:ol)(s':r0):Prop:=∃v H',Inv X pins σ H' s'/\RelV v u/\Q v H'
def TP(X:Cx)(pins:List (pc×Obj))(σ:St)(Q:Bool->Hp->Prop)(b:Bool)(s':r0):Prop:=∃H',Inv X pins σ H' s'/\Q b H'
def AP(X:Cx)(pins:List (pc×Obj))(σ:St)(Q:List V->Hp->Prop)(us:List ol)(s':r0):Prop:=∃vs H',Inv X pins σ H' s'/\Vals vs us/\Q vs H'
def SP(X:Cx)(pins:List (pc×Obj))(D:Ends)(f:Flow)(s':r0):Prop:=
 match f with
 | .next=>∃U H',Inv X pins U H' s'/\D.nx U H'
 | .brk=>∃U H',Inv X pins U H' s'/\D.bk U H'
 | .cont=>∃U H',Inv X pins U H' s'/\D.ct U H'
 | .ret u=>∃v U H',Inv X pins U H' s'/\RelV v u/\D.rt v H'
def PE(X:Cx)(e:Do)(t:TE):Prop:=
 ∀(pins:List (pc×Obj)) (s:r0) (σ:St) (H:Hp) (Q:VK),Inv X pins σ H s->t σ H Q->wpAny (model X.prog X.w) X.A (eval e X.env) (EP X pins σ Q) X.xe s
def PT(X:Cx)(e:Do)(t:TT):Prop:=
 ∀(pins:List (pc×Obj)) (s:r0) (σ:St) (H:Hp) (Q:Bool->Hp->Prop),Inv X pins σ H s->t σ H Q->wpAny (model X.prog X.w) X.A (isTrue e X.env (eval e X.env)) (TP X pins σ Q) X.xe s
def PW(X:Cx)(e:Do)(t:TT):Prop:=
 ∀(U:Sem ol) (pins:List (pc×Obj)) (s:r0) (σ:St) (H:Hp) (Q:Bool->Hp->Prop),Inv X pins σ H s->t σ H Q->wpAny (model X.prog X.w) X.A (isTrue e X.env U) (TP X pins σ Q) X.xe s
theorem PW.pt{t:TT}(h:PW X e t):PT X e t:=h _
def PA(X:Cx)(es:List Do)(t:TA):Prop:=
 ∀(pos:Pos) (pins:List (pc×Obj)) (s:r0) (σ:St) (H:Hp) (Q:List V->Hp->Prop),Inv X pins σ H s->t σ H Q->wpAny (model X.prog X.w) X.A (spliced (backTo pos (starEach es X.env))) (AP X pins σ Q) X.xe s
def PS(X:Cx)(st:SX)(t:TS):Prop:=
 ∀(pins:List (pc×Obj)) (s:r0) (σ:St) (H:Hp) (D:Ends),Inv X pins σ H s->t D σ H->wpAny (model X.prog X.w) X.A (exec st X.env) (SP X pins D) X.xe s
def PSs(X:Cx)(st:List SX)(t:TS):Prop:=
 ∀(pins:List (pc×Obj)) (s:r0) (σ:St) (H:Hp) (D:Ends),Inv X pins σ H s->t D σ H->wpAny (model X.prog X.w) X.A (execs st X.env) (SP X pins D) X.xe s
theorem thn{α:Type}{t:Sem α}{Q U:α->r0->Prop}(h:wpAny M A t Q E s)(Y:∀a s,Q a s->U a s):wpAny M A t U E s:=R8 h Y λ_ _ x=>x
section
variable {X : Cx}
theorem bin {a b:Do} {ta tb:TE} (ha:PE X a ta) (hb:PE X b tb) {R:V->V->Hp->Prop} (I:Inv X pins σ H s) (h:ta σ H λx H1=>tb σ H1 λy H2=>R x y H2)
 {α:Type} {Q:α->r0->Prop} {f:ol->ol->Sem α}
 (hf:∀v u s2 x y H2,Inv X pins σ H2 s2->RelV x v->RelV y u->R x y H2->wpAny (model X.prog X.w) X.A (f v u) Q X.xe s2):
 wpAny (model X.prog X.w) X.A (eval a X.env) (λv U=>wpAny (model X.prog X.w) X.A (eval b X.env) (λu Y=>wpAny (model X.prog X.w) X.A (f v u) Q X.xe Y) X.xe U) X.xe s:=by
 refine thn (ha pins s σ H _ I h) λv s1 #[x,H1,I1,r1,q1]=> ?_;refine thn (hb pins s1 σ H1 _ I1 q1) λu s2 #[y,H2,I2,r2,q2]=> ?_;exact hf v u s2 x y H2 I2 r1 r2 q2
def JT(i:Nat):TE:=λσ H Q=>∃v,σ[i]? =lH (lH v)/\Q v H
def tC(v:V):TE:=λ_ H Q=>Q v H
theorem NV(hN:X.N[i]? =lH x)(hv:Vis X.env.scope x)(hd:(x == ("__debug__" :Str))=false:=by decide)(ab:(x == ("__classdict__" :Str))=false:=by decide):PE X (.Name x pos) (JT i):=by
 intro pins s σ H Q I h;obtain⟨v,e,h⟩:=h;obtain⟨m,hn,hl⟩:=I.loc;obtain⟨u,r,l⟩:=hl i x v hN e hv;have Y:EP X pins σ Q u s:=#[v,H,I,r,h];rcases l with⟨hk,hm⟩ | ⟨hk,c,hc,U⟩
 exact Vw (wpAny_loadName_local I.ok.kind hk hn hm Y) hd;rcases hk with hk | hk
 exact Vw (wpAny_loadName_cell I.ok.kind hk hc U Y) hd;exact Vw (wpAny_loadName_free I.ok.kind hk hc U Y ab) hd
theorem ay{i j pos}:PE X (.Constant (.int i) j pos) (tC (.int i)):=λ_ _ _ H _ I h=>wpAny_Constant_int #[.int i,H,I.tok _,#[_,rfl],h]
theorem sr{b j pos}:PE X (.Constant (.bool b) j pos) (tC (.bl b)):=λ_ _ _ H _ I h=>Constant_bool #[.bl b,H,I,rfl,h]
theorem nX{j pos}:PE X (.Constant .none j pos) (tC .non):=λ_ _ _ H _ I h=>Constant_none #[.non,H,I,rfl,h]
theorem dM{x j pos}:PE X (.Constant (.str x) j pos) (tC (.str x)):=λ_ _ _ H _ I h=>Calls.Constant_str #[.str x,H,I.tok _,#[_,rfl],h]
def Gl(X:Cx)(x:Str):Prop:=X.env.kindOf x=lH .globalImplicit
theorem zQ {E:ol->r0->Prop} {pos:Pos} (I:Inv X pins σ H s) (U:Gl X x) (hm:X.mg x=lH u) (h:Q u s)
 (hd:(x == ("__debug__" :Str))=false:=by decide):wpAny (model X.prog X.w) X.A (eval (.Name x pos) X.env) Q E s:=
 Calls.Name_function_global I.ok.kind U (Calls.loadGlobal_global (by rw[I.ok.glob];exact I.mod.glob.keeps I.bk) hm h) hd
theorem pM {E:ol->r0->Prop} {pos:Pos} (I:Inv X pins σ H s) (U:Gl X x) (hm:X.mg x=na) (Y:bootBuiltins x=lH u) (h:Q u s)
 (hn:x≠"__name__" :=by decide) (hd:(x == ("__debug__" :Str))=false:=by decide):wpAny (model X.prog X.w) X.A (eval (.Name x pos) X.env) Q E s:=by
 obtain⟨mb,h1,h2⟩:=I.mod.blt;exact Calls.Name_function_global I.ok.kind U (Calls.loadGlobal_builtin (by rw[I.ok.glob];exact I.mod.glob.keeps I.bk) hm (by rw[I.ok.blt];exact h1.keeps I.bk) ((h2 x hn).trans Y) h) hd
theorem Aw(U:Gl X x)(hm:X.mg x=lH u)(r:RelV v u)(hd:(x == ("__debug__" :Str))=false:=by decide):PE X (.Name x pos) (tC v):=
 λ_ _ _ H _ I h=>zQ I U hm #[v,H,I,r,h] hd
theorem FF(U:Gl X x)(hm:X.mg x=na)(Y:bootBuiltins x=lH u)(r:RelV v u)(hn:x≠"__name__" :=by decide)(hd:(x == ("__debug__" :Str))=false:=by decide):PE X (.Name x pos) (tC v):=
 λ_ _ _ H _ I h=>pM I U hm Y #[v,H,I,r,h] hn hd
variable {a b : Do} {ta tb : TE} {pos : Pos}
def PC(X:Cx)(op:CmpOp)(a b:Do)(t:TE):Prop:=
 ∀(pins:List (pc×Obj)) (s:r0) (σ:St) (H:Hp) (Q:VK),Inv X pins σ H s->t σ H Q->
  wpAny (model X.prog X.w) X.A (eval a X.env) (λv U=>wpAny (model X.prog X.w) X.A (eval b X.env) (λu Y=>wpAny (model X.prog X.w) X.A (compareOp op v u) (EP X pins σ Q) X.xe Y) X.xe U) X.xe s
theorem K1{b:Do}(h:op≠ .In)(h2:op≠ .NotIn):behindInMarks op b=false:=by
 have e1:(op == CmpOp.In)=false:=by cases op <;> first | rfl | exact absurd rfl h
 have e2:(op == CmpOp.NotIn)=false:=by cases op <;> first | rfl | exact absurd rfl h2
 cases b <;> simp[behindInMarks,e1,e2]
def tB(t:TE):TT:=λσ H Q=>t σ H λx H1=>∃c,x=.bl c/\Q c H1
theorem QH(h:PC X op a b t)(h1:behindInMarks op b=false:=by first | exact K1 ∅ ∅ | rfl):PT X (.Compare a [op] [b] pos) (tB t):=by intro pins s σ H Q I U;refine UJ (thn (h pins s σ H _ I U) λv s1 h1=>thn h1 λu s2 h2=>thn h2 λc s3 #[x,H1,I1,r1,q1]=> ?_) h1;obtain⟨d,rfl,q⟩:=q1;cases r1;exact Ry #[H1,I1,q]
theorem lS(h:PE X e t)(Y:∀U,isTrue e X.env U=(do let v <- U;standAt e.pos;holding [v] (truthy v)):=by intro _;rfl):PT X e (tB t):=by intro pins s σ H Q I hw;refine isTrue_plain (thn (h pins s σ H _ I hw) λv s1 #[x,H1,I1,r1,q1]=> ?_) (Y _);obtain⟨d,rfl,q⟩:=q1;cases r1;exact Ry #[H1,I1,q]
variable {tA tB' : TT} {rest : List Do}
def OC(t u:TT):TT:=λσ H Q=>t σ H λc H1=>if c=on then u σ H1 Q else Q tt H1
def tOr(t u:TT):TT:=λσ H Q=>t σ H λc H1=>if c=on then Q on H1 else u σ H1 Q
def NC(t:TT):TT:=λσ H Q=>t σ H λc H1=>Q (!c) H1
theorem pw_and1(ha:PT X a tA):PW X (.BoolOp .And [a] pos) tA:=by
 intro U pins s σ H Q I h;refine isTrue_and (thn (ha pins s σ H Q I h) λc s1 e=> ?_);cases c with
 | true=>exact isTrue_and_nil e
 | false=>exact e
theorem pw_or1(ha:PT X a tA):PW X (.BoolOp .Or [a] pos) tA:=by
 intro U pins s σ H Q I h;refine isTrue_or (thn (ha pins s σ H Q I h) λc s1 e=> ?_);cases c with
 | false=>exact isTrue_or_nil e
 | true=>exact e
theorem pw_and(ha:PT X a tA)(hb:PW X (.BoolOp .And (b::rest) pos) tB'):PW X (.BoolOp .And (a::b::rest) pos) (OC tA tB'):=by
 intro U pins s σ H Q I h;refine isTrue_and (thn (ha pins s σ H _ I h) λc s1 #[H1,I1,q1]=> ?_);cases c with
 | true=>exact hb U pins s1 σ H1 Q I1 q1
 | false=>exact#[H1,I1,q1]
theorem pw_or(ha:PT X a tA)(hb:PW X (.BoolOp .Or (b::rest) pos) tB'):PW X (.BoolOp .Or (a::b::rest) pos) (tOr tA tB'):=by
 intro U pins s σ H Q I h;refine isTrue_or (thn (ha pins s σ H _ I h) λc s1 #[H1,I1,q1]=> ?_);cases c with
 | true=>exact#[H1,I1,q1]
 | false=>exact hb U pins s1 σ H1 Q I1 q1
theorem qc(ha:PT X a tA):PT X (.UnaryOp .Not a pos) (NC tA):=by intro pins s σ H Q I h;exact isTrue_not (ha pins s σ H (λc H1=>Q (!c) H1) I h)
def Lo(ta tb:TE):TE:=λσ H Q=>ta σ H λx H1=>∃c,x=.bl c/\if c=on then tb σ H1 Q else Q (.bl tt) H1
def LH(ta:TE):TE:=λσ H Q=>ta σ H λx H1=>∃c,x=.bl c/\Q (.bl (!c)) H1
theorem vU{op}(h:PE X a t):PE X (.BoolOp op [a] pos) t:=λpins s σ H Q I U=>BoolOp_one (h pins s σ H Q I U)
theorem pJ(ha:PE X a ta)(hb:PE X (.BoolOp .And (b::rest) pos) tb):PE X (.BoolOp .And (a::b::rest) pos) (Lo ta tb):=by
 intro pins s σ H Q I h;refine BoolOp_and (thn (ha pins s σ H _ I h) λv s1 #[x,H1,I1,r1,q1]=> ?_);obtain⟨c,rfl,q1⟩:=q1;cases r1;refine Ry ?_;cases c with
 | true=>exact hb pins s1 σ H1 Q I1 q1
 | false=>exact#[.bl tt,H1,I1,rfl,q1]
theorem Nl(ha:PE X a ta):PE X (.UnaryOp .Not a pos) (LH ta):=by intro pins s σ H Q I h;refine UnaryOp_ (thn (ha pins s σ H _ I h) λv s1 #[x,H1,I1,r1,q1]=> ?_);obtain⟨c,rfl,q1⟩:=q1;cases r1;exact not_of (Ry #[.bl (!c),H1,I1,rfl,q1])
end
def SqL(K:qh)(H:Hp)(a:pc)(xs:List V):Prop:=
 Rd H a (.lst xs)\/
  ∃(o:Obj) (U:Array ol) (n:Nat),K.lookup a=lH o/\o.cls=.type "list" /\o.dict=na/\o.data=.seq U n/\U.size<=sizeLine/\Vals xs U.toList
def SqT(K:qh)(H:Hp)(a:pc)(xs:List V):Prop:=
 Rd H a (.tup xs)\/
  ∃(o:Obj) (U:Array ol) (n:Nat),K.lookup a=lH o/\o.cls=.type "tuple" /\o.data=.seq U n/\U.size<=sizeLine/\Vals xs U.toList
def PY:ol->Option V
 | .none=>lH .non
 | .bool b=>lH (.bl b)
 | .int i _=>lH (.int i)
 | .str x _=>lH (.str x)
 | .bytes b _=>lH (.byt b)
 | .float b _=>lH (.flt b)
 | .ref a=>lH (.ref a)
 | .type n=>lH (.ty n)
 | _=>na
theorem RelV.abs{x:V}(r:RelV x u):PY u=lH x:=by
 cases x with
 | non=>cases r;rfl
 | bl _=>cases r;rfl
 | int _=>obtain⟨t,rfl⟩:=r;rfl
 | str _=>obtain⟨t,rfl⟩:=r;rfl
 | byt _=>obtain⟨t,rfl⟩:=r;rfl
 | flt _=>obtain⟨t,rfl⟩:=r;rfl
 | ref _=>cases r;rfl
 | ty _=>cases r;rfl
theorem RelV.inj{x y:V}(r:RelV x u)(q:RelV y u):x=y:=RJ (r.abs.symm.trans q.abs)
theorem Vals.inj:∀{xs ys:List V} {us:List ol},Vals xs us->Vals ys us->xs=ys
 | _,_,_,.nil,.nil=>rfl
 | _,_,_,.cons r t,.cons r' t'=>by rw[r.inj r',Vals.inj t t']
section
variable {X : Cx} {pins : List (pc × Obj)} {σ : St} {H : Hp} {s : r0} {a : pc} {xs ys : List V}
theorem SqL.of(h:H a=lH (.lst xs)):SqL K H a xs:=.inl (.inl h)
theorem SqT.of(h:H a=lH (.tup xs)):SqT K H a xs:=.inl (.inl h)
theorem Inv.list(I:Inv X pins σ H s)(h:SqL X.K H a xs):∃U:List ol,Vals xs U/\PlainL s.heap a U.toArray/\xs.length<=sizeLine:=by rcases h with h | ⟨o,U,n,hk,hc,hd,hs,hz,r⟩;obtain⟨z,U,n,r,e⟩:=h.ok I.hok;exact#[U,r,#[_,n,e,rfl,rfl,rfl],z];refine#[U.toList,r,#[o,n,I.kIn a o hk,hc,hd,by simpa using hs], ?_];have e:=r.length;simp only[S8] at e;omega
theorem Inv.tuple(I:Inv X pins σ H s)(h:SqT X.K H a xs):∃U:List ol,Vals xs U/\IsTup s.heap a U.toArray/\xs.length<=sizeLine:=by rcases h with h | ⟨o,U,n,hk,hc,hs,hz,r⟩;obtain⟨z,U,r,p⟩:=h.ok I.hok;exact#[U,r,p,z];refine#[U.toList,r,#[o,I.kIn a o hk,hc,n,by simpa using hs], ?_];have e:=r.length;simp only[S8] at e;omega
theorem Inv.list_inj(I:Inv X pins σ H s)(h:SqL X.K H a xs)(h':SqL X.K H a ys):xs=ys:=by
 obtain⟨Y,r,⟨o,n,e,_,_,d⟩,_⟩:=I.list h;obtain⟨U,r',⟨o',n',e',_,_,d'⟩,_⟩:=I.list h';rw[e] at e';cases e';rw[d] at d';injection d' with d1 _
 have:Y=U:=by simpa using congrArg Array.toList d1
 subst this;exact r.inj r'
end
abbrev Cx.wish(X:Cx)(E:ol->r0->Prop):Cx:={X with xe:=E}
abbrev Cx.nox(X:Cx):Cx:=X.wish λ_ _=>False
theorem Cx.Ok.wish(ok:X.Ok)(E:ol->r0->Prop):(X.wish E).Ok:=
 #[ok.mod,ok.kind,ok.glob,ok.blt,ok.above,ok.inj,ok.has,ok.cab,ok.hd,ok.frames,ok.stk,ok.exf,ok.bs,ok.bsz,ok.noex,ok.exfs,ok.funs,ok.frf]
theorem Cx.Ok.unwish(ok:(X.wish E).Ok):X.Ok:=
 #[ok.mod,ok.kind,ok.glob,ok.blt,ok.above,ok.inj,ok.has,ok.cab,ok.hd,ok.frames,ok.stk,ok.exf,ok.bs,ok.bsz,ok.noex,ok.exfs,ok.funs,ok.frf]
section
variable {X : Cx} {pins : List (pc × Obj)} {σ : St} {H : Hp} {s : r0} {E : ol → r0 → Prop}
theorem Inv.wish(I:Inv X pins σ H s)(E:ol->r0->Prop):Inv (X.wish E) pins σ H s:=#[I.ok.wish E,I.os,I.bare,I.base,I.loc,I.cell,I.free,I.freeC,I.pin,I.hok,I.len]
theorem Inv.unwish(I:Inv (X.wish E) pins σ H s):Inv X pins σ H s:=#[I.ok.unwish,I.os,I.bare,I.base,I.loc,I.cell,I.free,I.freeC,I.pin,I.hok,I.len]
theorem SP.unwish{D:Ends}{f:Flow}{s':r0}(h:SP (X.wish E) pins D f s'):SP X pins D f s':=by
 cases f with
 | next=>obtain⟨U,H',I,q⟩:=h;exact#[U,H',I.unwish,q]
 | brk=>obtain⟨U,H',I,q⟩:=h;exact#[U,H',I.unwish,q]
 | cont=>obtain⟨U,H',I,q⟩:=h;exact#[U,H',I.unwish,q]
 | ret u=>obtain⟨v,U,H',I,r,q⟩:=h;exact#[v,U,H',I.unwish,r,q]
theorem PSs.nox{st:List SX}{t:TS}(h:PSs X.nox st t):PSs X st t:=λpins s σ H D I U=>
 R8 (h pins s σ H D (I.wish _) U) (λ_ _ q=>q.unwish) λ_ _ z=>pi z
end
section
variable {X : Cx} {st : SX} {rest : List SX} {t u : TS} {e : Do} {te : TE} {pos : Pos}
def Lh:TS:=λD σ H=>D.nx σ H
def Nq(t u:TS):TS:=λD σ H=>t {D with nx:=u D} σ H
theorem bC:PSs X [] Lh:=λ_ _ σ H _ I h=>TR #[σ,H,I,h]
theorem au(h1:PS X st t)(h2:PSs X rest u):PSs X (st::rest) (Nq t u):=by
 intro pins s σ H D I h;refine wpAny_execs_cons (thn (h1 pins s σ H {D with nx:=u D} I h) λf s1 q=> ?_);cases f with
 | next=>
  obtain⟨U,H',Y,q⟩:=q;exact h2 pins s1 U H' D Y q
 | ret v=>exact q
 | brk=>exact q
 | cont=>exact q
theorem aE(h1:PS X st t):PSs X [st] t:=by
 intro pins s σ H D I h;refine wpAny_execs_cons (thn (h1 pins s σ H D I h) λf s1 q=> ?_);cases f with
 | next=>exact TR q
 | ret v=>exact q
 | brk=>exact q
 | cont=>exact q
theorem Inv.quiet(I:Inv X pins σ H s):interactive X.env=false:=by simp[interactive,I.ok.kind]
def Ll(te:TE):TS:=λD σ H=>te σ H λ_ H1=>D.nx σ H1
theorem d4(U:PE X e te)(hs:swapsWith e na pos.line X.env=pure false:=by rfl):PS X (.Expr e pos) (Ll te):=by intro pins s σ H D I h;exact wpAny_Expr_any (thn (U pins s σ H _ I h) λv s1 #[x,H1,I1,r1,q1]=>#[σ,H1,I1,q1]) I.quiet hs
def ND(te:TE):TS:=λD σ H=>te σ H D.rt
theorem a9(U:PE X e te):PS X (.Return (lH e) pos) (ND te):=by intro pins s σ H D I h;exact wpAny_Return_some (thn (U pins s σ H _ I h) λv s1 #[x,H1,I1,r1,q1]=>#[x,σ,H1,I1,r1,q1])
def N3(c:TT)(t u:TS):TS:=λD σ H=>c σ H λb H1=>if b=on then t D σ H1 else u D σ H1
theorem bW{c:Do}{a b:List SX}{tc:TT}(hc:PT X c tc)(ha:PSs X a t)(hb:PSs X b u):PS X (.If c a b pos) (N3 tc t u):=by
 intro pins s σ H D I h;refine wpAny_If (thn (hc pins s σ H _ I h) λd s1 #[H1,I1,q1]=> ?_);cases d with
 | true=>exact ha pins s1 σ H1 D I1 q1
 | false=>exact hb pins s1 σ H1 D I1 q1
def IK:TS:=λ_ _ _=>False
theorem g7:PS X st IK:=λ_ _ _ _ _ _ h=>h.elim
end
abbrev TG:=V->St->Hp->(St->Hp->Prop)->Prop
abbrev TGs:=List V->St->Hp->(St->Hp->Prop)->Prop
def PG(X:Cx)(U:Do)(t:TG):Prop:=
 ∀(pins:List (pc×Obj)) (s:r0) (σ:St) (H:Hp) (v:V) (u:ol) (Q:St->Hp->Prop),Inv X pins σ H s->RelV v u->t v σ H Q->
  wpAny (model X.prog X.w) X.A (assign U X.env u) (λ_ s'=>∃Y H',Inv X pins Y H' s'/\Q Y H') X.xe s
def PGs(X:Cx)(ts:List Do)(t:TGs):Prop:=
 ∀(pins:List (pc×Obj)) (s:r0) (σ:St) (H:Hp) (vs:List V) (us:List ol) (Q:St->Hp->Prop),Inv X pins σ H s->Vals vs us->t vs σ H Q->
  wpAny (model X.prog X.w) X.A (assignInOrder ((assignEach ts X.env).map (·.2)) us) (λ_ s'=>∃U H',Inv X pins U H' s'/\Q U H') X.xe s
abbrev JE:=V->V->V->Hp->(Hp->Prop)->Prop
def NI(X:Cx)(t:JE):Prop:=
 ∀(pins:List (pc×Obj)) (s:r0) (σ:St) (H:Hp) (o i v:V) (U Y u:ol) (Q:Hp->Prop),Inv X pins σ H s->RelV o U->RelV i Y->RelV v u->t o i v H Q->
  wpAny (model X.prog X.w) X.A (setItem U Y u) (λ_ s'=>∃H',Inv X pins σ H' s'/\Q H') X.xe s
section
variable {X : Cx} {pos : Pos}
def we(i:Nat):TG:=λv σ H Q=>Q (σ.set i (lH v)) H
theorem aQ(U:X.N.Nodup)(hi:X.N[i]? =lH x)(hx:Loc X.env.scope x)(Y:X.fn x=on\/X.env.scope.names.lookup x=lH .local:=by first | exact .inl rfl | exact .inr rfl | assumption):PG X (.Name x pos) (we i):=by intro pins s σ H v u Q I r h;exact U4 (Ej I U hi hx r (λs' I'=>#[_,H,I',h]) Y)
def NA:TGs:=λvs σ H Q=>vs=[]/\Q σ H
def Lx(t:TG)(u:TGs):TGs:=λvs σ H Q=>∃v r,vs=v::r/\t v σ H λU H'=>u r U H' Q
theorem eX:PGs X [] NA:=by intro pins s σ H vs us Q I r h;obtain⟨e,h⟩:=h;subst e;cases r;exact assignInOrder_nil #[σ,H,I,h]
theorem bI {es:List Do} {t:TG} {u:TGs} (h1:PG X e t) (h2:PGs X es u)
 (hs:(assignEach (e::es) X.env).map (·.2)=assign e X.env::(assignEach es X.env).map (·.2):=by rfl):PGs X (e::es) (Lx t u):=by
 intro pins s σ H vs us Q I r h;obtain⟨v,Y,e1,h⟩:=h;subst e1;cases r with
 | cons r U=>
  rw[hs];refine assignInOrder_cons (thn (h1 pins s σ H _ _ _ I r h) λ_ s1 #[σ1,H1,I1,q1]=> ?_);exact h2 pins s1 σ1 H1 _ _ Q I1 U q1
def Nk(K:qh)(n:Nat)(t:TGs):TG:=λv σ H Q=>∃a xs,v=.ref a/\SqT K H a xs/\xs.length=n/\t xs σ H Q
theorem fZ {es:List Do} {k:Nat} {t:TGs} {n:Nat} (hc:X.calm=on) (h:PGs X es t)
 (hn:(assignEach es X.env).length=n:=by rfl) (U:(assignEach es X.env).findIdx? (·.1)=none:=by rfl):PG X (.Tuple es k pos) (Nk X.K n t):=by
 intro pins s σ H v u Q I r Y;obtain⟨a,xs,e1,hq,hl,Y⟩:=Y;subst e1;cases r;obtain⟨al,rv,ht,hz⟩:=I.tuple hq;refine assign_Tuple_tuple (I.ok.hd hc) ht (by simp[hn,<- hl,rv.length]) U λh' hx=> ?_;have I1:Inv X pins σ H {s with heap:=h'}:=I.kept (t':=s.toks) λb o e=>hx b o (FS (Heap.lt_size e)) e;exact h pins _ σ H xs _ Q I1 (by simpa using rv) Y
def M9(to U:TE)(t:JE):TG:=λv σ H Q=>to σ H λo H1=>U σ H1 λi H2=>t o i v H2 λY=>Q σ Y
theorem nM {o i:Do} {to ti:TE} {t:JE} (ho:PE X o to) (hi:PE X i ti) (hs:NI X t)
 (ha:∀v,assign (.Subscript o i pos) X.env v=(do
  let U <- holding [v] (eval o X.env)
  let Y <- holding [v,U] (eval i X.env)
  standAt pos
  holding [v,U,Y] (setItem U Y v)
  release [v,U,Y] []):=by intro _;rfl):PG X (.Subscript o i pos) (M9 to ti t):=by
 intro pins s σ H v u Q I r h;rw[ha];refine u8 (S6 (thn (ho pins s σ H _ I h) λU s1 #[x,H1,I1,r1,q1]=> ?_));refine u8 (S6 (thn (hi pins s1 σ H1 _ I1 q1) λY s2 #[y,H2,I2,r2,q2]=> ?_));refine u8 (UN (u8 (S6 (thn (hs pins s2 σ H2 x y v U Y u _ I2 r1 r2 r q2) λ_ s3 #[H3,I3,q3]=> ?_))));exact wpAny_release #[σ,H3,I3,q3]
def DH(te:TE)(g:TG):TS:=λD σ H=>te σ H λx H1=>g x σ H1 D.nx
theorem mf {g:TG} (U:PE X e te) (Y:PG X tg g) (hs:swapsWithSole [tg] e pos.line X.env=pure false:=by rfl) (hw:swappedStores [tg] e X.env=pure none:=by rfl)
 (h1:(assignEach [tg] X.env).map (·.2)=[assign tg X.env]:=by rfl):PS X (.Assign [tg] e pos) (DH te g):=by
 intro pins s σ H D I h;refine wpAny_Assign_stores (thn (U pins s σ H _ I h) λv s1 #[x,H1,I1,r1,q1]=> ?_) hs hw;rw[h1];exact thn (Y pins s1 σ H1 x v _ I1 r1 q1) λ_ s2 q=>q
theorem aU{pos':Pos}(U:X.N.Nodup)(hi:X.N[i]? =lH x)(hx:Loc X.env.scope x)(Y:PE X e te)(hs:swapsWith e (lH (.Name x pos')) pos.line X.env=pure false:=by rfl)(hf:X.fn x=on\/X.env.scope.names.lookup x=lH .local:=by first | exact .inl rfl | exact .inr rfl | assumption):
 PS X (.Assign [.Name x pos'] e pos) (DH te (we i)):=by
 intro pins s σ H D I h;refine wpAny_Assign_Name (thn (Y pins s σ H _ I h) λv s1 #[y,H1,I1,r1,q1]=> ?_) hs;exact Ej I1 U hi hx r1 (λs2 I2=>#[_,H1,I2,q1]) hf
end
section
variable {X : Cx} {pos : Pos}
def IQ(c:TT)(tb:TS):TS:=λD σ H=>∃W:Nat->St->Hp->Prop,(∃m,W m σ H)/\∀m σ H,W m σ H->
 c σ H λb H1=>if b=on then ∃N:St->Hp->Prop,(∀U H',N U H'->∃Y,Y<m/\W Y U H')/\tb {D with nx:=N,ct:=N,bk:=D.nx} σ H1 else D.nx σ H1
theorem JH{c:Do}{tc:TT}{tb:TS}(hp:PassesOwn (model X.prog X.w) X.A X.env X.xe)(hc:PT X c tc)(hb:PSs X body tb):PS X (.While c body [] pos) (IQ tc tb):=by
 intro pins s σ H D I h;obtain⟨W,⟨m0,w0⟩,ab⟩:=h;refine wpAny_While (codeAny_whileLoop (λn s'=>∃ac H',Inv X pins ac H' s'/\W n ac H') ?_ m0 #[σ,H,I,w0]);rintro n s1 ⟨Y,H1,I1,w1⟩;refine Se hp (thn (hc pins s1 Y H1 _ I1 (ab n Y H1 w1)) λb s2 #[H2,I2,q2]=> ?_);cases b with
 | true=>
  obtain⟨N,hN,q2⟩:=q2;rw[if_pos rfl];refine Se hp (thn (hb pins s2 Y H2 _ I2 q2) λf s3 q3=> ?_);cases f with
  | next=>
   obtain⟨U,H3,I3,n3⟩:=q3;obtain⟨m',hm,w3⟩:=hN U H3 n3;exact#[m',hm,U,H3,I3,w3]
  | cont=>
   obtain⟨U,H3,I3,n3⟩:=q3;obtain⟨m',hm,w3⟩:=hN U H3 n3;exact#[m',hm,U,H3,I3,w3]
  | brk=>exact q3
  | ret v=>exact q3
 | false=>
  rw[if_neg At];exact TR #[Y,H2,I2,q2]
end
structure It where
 go:Nat->Hp->Prop
 yld:Nat->Hp->V->Hp->Prop
 stop:Nat->Hp->Prop
def mV(X:Cx)(pins:List (pc×Obj))(H:Hp)(b:pc):Prop:=
 H b=na/\b≠X.env.locals/\b∉X.fs/\(b∈X.ex\/X.s₀.heap.objs.size<=b)/\(∀x c,X.env.cells.lookup x=lH c->c≠b)/\∀p∈X.pn++pins,p.1≠b
theorem Inv.fpOk{H H':Hp}(I:Inv X pins σ H s)(hb:s.heap.objs.size<=b)(hn:H' b=na):mV X pins H' b:=by refine#[hn,U0 (AT I.lt hb),I.nofs hb,.inr (IR I.sz hb),λx c e z=> ?_,λp hp z=> ?_];obtain⟨v,q⟩:=I.cell x c e;exact absurd (AT q.lt (by rw[z];exact hb)) (RM _);exact absurd (AT (Heap.lt_size (I.pin p hp).1) (by rw[z];exact hb)) (RM _)
structure Turn(P:AC)(w:Db)(K:qh)(tg:Do)(J:It)(fp:List pc)(it:pc)(tn:Nat->Gc->Prop):Prop where
 mem:it∈fp
 obj:∀i h,tn i h->∀b∈fp,∃o,h.get? b=lH o/\∀v,o.data≠ .cell v
 keep:∀i h h',tn i h->(∀b∈fp,∀o,h.get? b=lH o->h'.get? b=lH o)->tn i h'
 item:∀(X:Cx),X.prog=P->X.w=w->X.K=K->X.calm=on->∀(i:Nat) (pins:List (pc×Obj)) (s:r0) (σ:St) (H:Hp) (E:ol->r0->Prop),Inv X pins σ H s->(∀b∈fp,mV X pins H b)->tn i s.heap->J.go i H->
  wpAny (model P w) X.A (pyNext (.ref it)) (λr s1=>∃u,r=lH u/\
   wpAny (model P w) X.A (letOwnedTupleGo tg (.ref it) u) (λ_ s2=>∃x H',Inv X pins σ H' s2/\RelV x u/\J.yld i H x H'/\tn (i+1) s2.heap/\∀b∈fp,H' b=na) E s1) E s
 done:∀(X:Cx),X.prog=P->X.w=w->X.K=K->X.calm=on->∀(i:Nat) (pins:List (pc×Obj)) (s:r0) (σ:St) (H:Hp) (E:ol->r0->Prop),Inv X pins σ H s->(∀b∈fp,mV X pins H b)->tn i s.heap->J.stop i H->
  wpAny (model P w) X.A (pyNext (.ref it)) (λr s1=>r=na/\Inv X pins σ H s1) E s
 self:∀(A:KE) (i:Nat) (s:r0) (Q:ol->r0->Prop) (E:ol->r0->Prop),tn i s.heap->Q (.ref it) s->wpAny (model P w) A (pyIter (.ref it)) Q E s
abbrev TI:=St->Hp->(It->Hp->Prop)->Prop
def PIE(X:Cx)(pins:List (pc×Obj))(σ:St)(tg:Do)(R:It->Hp->Prop)(U:ol)(s2:r0):Prop:=
 ∃(it:pc) (fp:List pc) (Y:Nat->Gc->Prop) (J:It) (H':Hp),U=.ref it/\Inv X pins σ H' s2/\Turn X.prog X.w X.K tg J fp it Y/\Y 0 s2.heap/\(∀b∈fp,mV X pins H' b)/\R J H'
def PI(X:Cx)(tg U:Do)(wi:TI):Prop:=
 ∀(pins:List (pc×Obj)) (s:r0) (σ:St) (H:Hp) (R:It->Hp->Prop),Inv X pins σ H s->wi σ H R->
  wpAny (model X.prog X.w) X.A (eval U X.env) (λv s1=>wpAny (model X.prog X.w) X.A (pyIter v) (PIE X pins σ tg R) X.xe s1) X.xe s
theorem Gw {M:Model} {A:KE} {E:ol->r0->Prop} {tg:Do} {u:ol} {n:String} {vs:Array ol} {Q:Unit->r0->Prop} (Y:s.heap.get? it=lH o) (hc:o.cls=.type n) (hd:o.data=.fields vs)
 (hn:["enumerate","zip","dict_itemiterator","dict_reverseitemiterator","odict_iterator","itertools.zip_longest","itertools.pairwise"].contains n=tt) (U:Q () s):wpAny M A (letOwnedTupleGo tg (.ref it) u) Q E s:=by
 unfold letOwnedTupleGo;cases tg <;> first
  | exact BG U
  | (cases u <;> first
   | exact BG U
   | (
    refine u8 (wpAny_load Y ?_);rw[hc,hd];show wpAny M A (if (["enumerate","zip","dict_itemiterator","dict_reverseitemiterator","odict_iterator","itertools.zip_longest","itertools.pairwise"].contains n&&vs[0]? == lH (rawInt _))=on then _ else _) Q E s;rw[if_neg (by intro h;rw[hn,S0] at h;cases h)];exact BG U))
def Itl(K:qh)(a:pc):It:=
 #[λi H=>∃xs x,SqL K H a xs/\xs[i]? =lH x,λi H x H'=>H'=H/\∀xs,SqL K H a xs->xs[i]? =lH x,λi H=>∃xs,SqL K H a xs/\xs.length<=i]
def Itr(lo:Int)(n:Nat):It:=#[λi _=>i<n,λi H x H'=>H'=H/\x=.int (lo+i),λi _=>n<=i]
theorem Iu(a:pc):Turn P w K tg (Itl K a) [it] it (λi h=>h.IsListIter it a i) where
 mem:=by simp
 obj:=λi h st b hb=>by
  have e:b=it:=by simpa using hb
  subst e;obtain⟨o,e,c,d⟩:=st;exact#[o,e,λv z=>by rw[d] at z;cases z]
 keep:=λi h h' st k=>st.at λo e=>k it (by simp) o e
 item:=by intro X hP hw hK hc i pins s σ H E I hf st hg;subst hP hw hK;obtain⟨xs,x,hq,hx⟩:=hg;obtain⟨its,rv,p,hz⟩:=I.list hq;obtain⟨u,hu,ru⟩:=rv.get hx;obtain⟨f0,f1,f2,f3,f4,f5⟩:=hf it (by simp);refine wpAny_pyNext_list_item st p.isList (x:=u) (by simpa using hu) λh' st' sb=> ?_;have I1:Inv X pins σ H {s with heap:=h'}:=I.turned (t':=s.toks) (λb o hb e=>(sb.2 b hb).trans e) f0 f1 f3 f4 f5;obtain⟨o,e,c,d⟩:=id st';exact#[u,rfl,Gw (s:={s with heap:=h'}) e c d ∅ #[x,H,I1,ru,#[rfl,λys hy=>by rw[I.list_inj hy hq];exact hx],st',λb hb=>(hf b hb).1]]
 done:=by intro X hP hw hK hc i pins s σ H E I hf st hg;subst hP hw hK;obtain⟨xs,hq,hx⟩:=hg;obtain⟨its,rv,p,hz⟩:=I.list hq;obtain⟨f0,f1,f2,f3,f4,f5⟩:=hf it (by simp);have hl:=rv.length;exact wpAny_pyNext_list_end (I.ok.hd hc) st p.isList (by simp;omega) λh' eb=>#[rfl,I.turned (t':=s.toks) (λb o hb e=>eb b o hb e) f0 f1 f3 f4 f5]
 self:=λ_ _ _ _ _ st h=>wpAny_pyIter_listiter st h
theorem Gs(lo:Int)(n:Nat):Turn P w K tg (Itr lo n) [it] it (λi h=>IsRangeIter h it (lo+(i:Nat)*1) ((n:Int)-(i:Nat)) 1) where
 mem:=by simp
 obj:=λi h st b hb=>by
  have e:b=it:=by simpa using hb
  subst e;exact#[_,st,λv z=>by have z':Data.fields _=Data.cell v:=z;cases z']
 keep:=λi h h' st k=>k it (by simp) _ st
 item:=by intro X hP hw hK hc i pins s σ H E I hf st hg;subst hP hw hK;obtain⟨f0,f1,f2,f3,f4,f5⟩:=hf it (by simp);have W:=Walks.range (prog:=X.prog) (w:=X.w) (I.ok.hd hc) it lo 1 n;refine W.item i s _ _ hg st λv h' tk hv st' kk=> ?_;obtain⟨t,rfl⟩:=hv;have I1:Inv X pins σ H {s with heap:=h',toks:=tk}:=I.turned (λb o hb e=>kk b o (by simpa using hb) e) f0 f1 f3 f4 f5;refine#[_,rfl,Gw (s:={s with heap:=h',toks:=tk}) (n:="range_iterator") st' rfl rfl ∅ #[.int (lo+i),H,I1,#[t, ?_],#[rfl,rfl],st',λb hb=>(hf b hb).1]];rw[Int.mul_one]
 done:=by intro X hP hw hK hc i pins s σ H E I hf st hg;subst hP hw hK;obtain⟨f0,f1,f2,f3,f4,f5⟩:=hf it (by simp);exact wpAny_pyNext_range_end (I.ok.hd hc) st (by have:n<=i:=hg;omega) λh' eb=>#[rfl,I.turned (t':=s.toks) (λb o hb e=>eb b o hb e) f0 f1 f3 f4 f5]
 self:=λ_ _ _ _ _ st h=>wpAny_pyIter_rangeiter st h
section
variable {X : Cx} {tg : Do}
def Ln(K:qh)(tl:TE):TI:=λσ H R=>tl σ H λx H1=>∃a,x=.ref a/\(∃xs,SqL K H1 a xs)/\R (Itl K a) H1
theorem bX{l:Do}{tl:TE}(U:PE X l tl):PI X tg l (Ln X.K tl):=by
 intro pins s σ H R I h;refine thn (U pins s σ H _ I h) λv s1 #[x,H1,I1,r1,q1]=> ?_;obtain⟨a,e,⟨xs,hq⟩,q⟩:=q1;subst e;cases r1;obtain⟨Y,rv,p,hz⟩:=I1.list hq;refine U8 p.isList ?_;refine#[s1.heap.objs.size,[s1.heap.objs.size],_,_,H1,rfl,I1.kept (t':=s1.toks) λb o e=>Heap.get?_push_of_some _ e,Iu a,#[_,Heap.get?_push_size _ rfl,rfl,rfl],λb hb=> ?_,q];have e:b=s1.heap.objs.size:=by simpa using hb
 subst e;exact I1.fpOk (ut _) (I1.hok.fresh (ut _))
theorem Cs {R:It->Hp->Prop} {E:ol->r0->Prop} {lo hi:Int} {t u v:Tok} {tk:Nat} (I:Inv X pins σ H s) (h1: -(2^62)<=lo) (h2:lo<2^62) (Y: -(2^62)<=hi) (h4:hi<2^62)
 (q:R (Itr lo (hi-lo).toNat) H):wpAny (model X.prog X.w) X.A (pyIter (.ref s.heap.objs.size)) (PIE X pins σ tg R) E {s with heap:=s.heap.push {cls:=.type "range",data:=.fields #v[.int lo t,.int hi u,.int 1 v]},toks:=tk}:=by
 refine wpAny_pyIter_range (IsRange.new ..) (small_one h1 h2 Y h4) ?_;have U:Inv X pins σ H {s with heap:=s.heap.push {cls:=.type "range",data:=.fields #v[.int lo t,.int hi u,.int 1 v]},toks:=tk}:=I.kept λb o e=>Heap.get?_push_of_some _ e;refine#[(s.heap.push {cls:=.type "range",data:=.fields #v[.int lo t,.int hi u,.int 1 v]}).objs.size,[(s.heap.push {cls:=.type "range",data:=.fields #v[.int lo t,.int hi u,.int 1 v]}).objs.size],_,_,H,rfl,
  U.kept (t':=tk) λb o e=>Heap.get?_push_of_some _ e,Gs lo (hi-lo).toNat, ?_,λb hb=> ?_,q]
 have e1:lo+((0:Nat):Int)*1=lo:=by simp
 have e2:(((hi-lo).toNat:Nat):Int)-((0:Nat):Int)=Builtin.Range.rangeSize lo hi 1:=by rw[rangeSize_one];split <;> omega
 show IsRangeIter _ _ (lo+((0:Nat):Int)*1) ((((hi-lo).toNat:Nat):Int)-((0:Nat):Int)) 1;rw[e1,e2];exact Heap.get?_push_size _ rfl;have e:b=(s.heap.push {cls:=.type "range",data:=.fields #v[.int lo t,.int hi u,.int 1 v]}).objs.size:=by simpa using hb
 subst e;exact U.fpOk (ut _) (U.hok.fresh (ut _))
def Li(ta:TA):TI:=λσ H R=>ta σ H λvs H1=>∃j:Int,vs=[.int j]/\ -(2^62)<=j/\j<2^62/\R (Itr 0 j.toNat) H1
def Lk(ta:TA):TI:=λσ H R=>ta σ H λvs H1=>∃i j:Int,vs=[.int i,.int j]/\(-(2^62)<=i/\i<2^62/\ -(2^62)<=j/\j<2^62)/\R (Itr i (j-i).toNat) H1
theorem fL{a:Do}{ta:TA}{p pos:Pos}(U:Gl X "range")(hm:X.mg "range" =na)(ha:PA X [a] ta)(hs:starEach [a] X.env=[(tt,eval a X.env)]:=by rfl):PI X tg (.Call (.Name "range" p) [a] [] pos) (Li ta):=by
 intro pins s σ H R I h;refine Call_ (pM I U hm boot_range (RI (thn (ha pos pins s σ H _ I h) λus s1 #[vs,H1,I1,r1,q1]=> ?_) hs rfl));obtain⟨j,e,q1,q2,q⟩:=q1;subst e;cases r1 with
 | cons r Y=>
  cases Y;obtain⟨t,rfl⟩:=r;exact call_range_1 (Cs I1 ⋯ ⋯ q1 q2 (by simpa using q))
theorem BD{a b:Do}{ta:TA}{p pos:Pos}(hg:Gl X "range")(hm:X.mg "range" =na)(ha:PA X [a,b] ta)(hs:starEach [a,b] X.env=[(tt,eval a X.env),(tt,eval b X.env)]:=by rfl)(U:starEach [b] X.env=[(tt,eval b X.env)]:=by rfl):
 PI X tg (.Call (.Name "range" p) [a,b] [] pos) (Lk ta):=by
 intro pins s σ H R I h;refine Call_ (pM I hg hm boot_range (RI (thn (ha pos pins s σ H _ I h) λus s1 #[vs,H1,I1,r1,q1]=> ?_) (by rw[hs,U]) (by rw[U];rfl)));obtain⟨i,j,e,⟨q1,q2,q3,q4⟩,q⟩:=q1;subst e;cases r1 with
 | cons r Y=>
  cases Y with
  | cons r' Y=>
   cases Y;obtain⟨t,rfl⟩:=r;obtain⟨t',rfl⟩:=r';exact call_range_2 (Cs I1 q1 q2 q3 q4 q)
def Ov(wi:TI)(g:TG)(tb:TS):TS:=λD σ H=>wi σ H λJ H1=>∃W:Nat->Nat->St->Hp->Prop,(∃m,W 0 m σ H1)/\∀i m σ H,W i m σ H->
 (J.stop i H/\D.nx σ H)\/(J.go i H/\∃N:St->Hp->Prop,(∀U H',N U H'->∃m',m'<m/\W (i+1) m' U H')/\∀x H',J.yld i H x H'->g x σ H' λY H2=>tb {D with nx:=N,ct:=N,bk:=D.nx} Y H2)
def uO(fp:List pc)(h:Gc):List (pc×Obj):=fp.filterMap λb=>(h.get? b).map λo=>(b,o)
theorem oI(hb:b∈fp)(e:h.get? b=lH o):(b,o)∈uO fp h:=U1.mpr #[b,hb,by rw[e];rfl]
theorem HF{p:pc×Obj}(hp:p∈uO fp h):p.1∈fp/\h.get? p.1=lH p.2:=by
 obtain⟨b,hb,e⟩:=U1.mp hp;cases q:h.get? b with
 | none=>rw[q] at e;cases e
 | some o=>
  rw[q] at e;have e':(b,o)=p:=RJ e;subst e';exact#[hb,q]
theorem Inv.pinned(I:Inv X pins σ H s)(U:∀b∈fp,mV X pins H b)(Y:∀b∈fp,∃o,s.heap.get? b=lH o/\∀v,o.data≠ .cell v):Inv X (pins++uO fp s.heap) σ H s:=
 I.pins_of λp hp=>(wn.mp hp).elim (λz=>I.pin p (Fa _ z)) λz=>by obtain⟨hb,e⟩:=HF z;obtain⟨f0,f1,f2,_⟩:=U p.1 hb;obtain⟨o,e',d⟩:=Y p.1 hb;rw[e] at e';cases e';exact#[e,f0,f1,f2,d]
theorem Inv.unpinned{pins pl:List (pc×Obj)}(I:Inv X (pins++pl) σ H s):Inv X pins σ H s:=I.pins_of λp hp=>I.pin p (Fa _ (Ru _ hp))
theorem dX {Y:Do} {wi:TI} {g:TG} {tb:TS} {pos:Pos} (hp:PassesOwn (model X.prog X.w) X.A X.env X.xe) (hc:X.calm=on) (hi:PI X tg Y wi) (hg:PG X tg g) (hb:PSs X body tb)
 (hs:∀x,foldedSetIterable Y X.env x=pure x:=by intro _;rfl):PS X (.For tg Y body [] pos) (Ov wi g tb):=by
 intro pins s σ H D I h;refine wpAny_For (thn (hi pins s σ H _ I h) λv s1 h1=>thn h1 λbn s2 h2=> ?_) hs;obtain⟨it,fp,tn,J,H2,e,I2,T,a3,f2,W,⟨m0,w0⟩,as⟩:=h2;subst e;have ab:∀{H':Hp},(∀b∈fp,H' b=na)->∀b∈fp,mV X pins H' b:=λhn b hb=>#[hn b hb,(f2 b hb).2];refine codeAny_forLoop_any (λn s'=>∃i ac H',Inv X pins ac H' s'/\tn i s'.heap/\(∀b∈fp,H' b=na)/\W i n ac H') ?_ m0 #[0,σ,H2,I2,a3,λb hb=>(f2 b hb).1,w0];rintro n s3 ⟨i,al,H3,I3,az,a0,w3⟩;rcases as i n al H3 w3 with⟨a1,qn⟩ | ⟨go,N,hN,step⟩
 refine Se hp (thn (T.done X rfl rfl rfl hc i pins s3 al H3 X.xe I3 (ab a0) az a1) λr s4 #[hr,I4]=> ?_);subst hr;exact TR #[al,H3,I4,qn]
 ·refine Se hp (thn (T.item X rfl rfl rfl hc i pins s3 al H3 X.xe I3 (ab a0) az go) λr s4 #[u,hr,h4]=> ?_);subst hr;refine Se hp (thn h4 λ_ s5 #[x,H5,I5,r5,y5,st5,fr5]=> ?_);have a4:=I5.pinned (ab fr5) (T.obj _ _ st5);refine Se hp (thn (hg _ s5 al H5 x u _ a4 r5 (step x H5 y5)) λ_ s6 #[σ6,H6,I6,q6]=> ?_);refine Se hp (thn (hb _ s6 σ6 H6 _ I6 q6) λf s7 q7=> ?_);have again:∀{U:St} {H7:Hp},Inv X (pins++uO fp s5.heap) U H7 s7->N U H7->∃m,m<n/\∃i ac H',Inv X pins ac H' s7/\tn i s7.heap/\(∀b∈fp,H' b=na)/\W i m ac H':=λ{U H7} I7 n7=>by obtain⟨m',hm,w7⟩:=hN U H7 n7;refine#[m',hm,i+1,U,H7,I7.unpinned,T.keep _ _ _ st5 λb hb o e=>(I7.pin (b,o) (Fa _ (Fa _ (oI hb e)))).1,λb hb=> ?_,w7];obtain⟨o,e,d⟩:=T.obj _ _ st5 b hb;exact(I7.pin (b,o) (Fa _ (Fa _ (oI hb e)))).2.1
  cases f with
  | next=>obtain⟨U,H7,I7,n7⟩:=q7;exact again I7 n7
  | cont=>obtain⟨U,H7,I7,n7⟩:=q7;exact again I7 n7
  | brk=>obtain⟨U,H7,I7,q7⟩:=q7;exact#[U,H7,I7.unpinned,q7]
  | ret v=>obtain⟨x7,U,H7,I7,r7,q7⟩:=q7;exact#[x7,U,H7,I7.unpinned,r7,q7]
end
abbrev R2:=V->V->Hp->VK->Prop
def OpR(X:Cx)(f:ol->ol->Sem ol)(r:R2):Prop:=
 ∀(pins:List (pc×Obj)) (s:r0) (σ:St) (H:Hp) (x y:V) (v u:ol) (Q:VK),Inv X pins σ H s->RelV x v->RelV y u->r x y H Q->
  wpAny (model X.prog X.w) X.A (f v u) (EP X pins σ Q) X.xe s
def UnR(X:Cx)(f:ol->Sem ol)(r:V->Hp->VK->Prop):Prop:=
 ∀(pins:List (pc×Obj)) (s:r0) (σ:St) (H:Hp) (x:V) (v:ol) (Q:VK),Inv X pins σ H s->RelV x v->r x H Q->
  wpAny (model X.prog X.w) X.A (f v) (EP X pins σ Q) X.xe s
def nt(X:Cx)(f:ol)(r:List V->Hp->VK->Prop):Prop:=
 ∀(pins:List (pc×Obj)) (s:r0) (σ:St) (H:Hp) (xs:List V) (us:List ol) (Q:VK),Inv X pins σ H s->Vals xs us->r xs H Q->
  wpAny (model X.prog X.w) X.A (call f us) (EP X pins σ Q) X.xe s
def PU(X:Cx)(r:V->Hp->(Bool->Hp->Prop)->Prop):Prop:=
 ∀(pins:List (pc×Obj)) (s:r0) (σ:St) (H:Hp) (x:V) (v:ol) (Q:Bool->Hp->Prop),Inv X pins σ H s->RelV x v->r x H Q->
  wpAny (model X.prog X.w) X.A (truthy v) (TP X pins σ Q) X.xe s
def tOp(r:R2)(ta tb:TE):TE:=λσ H Q=>ta σ H λx H1=>tb σ H1 λy H2=>r x y H2 Q
def tUn(r:V->Hp->VK->Prop)(ta:TE):TE:=λσ H Q=>ta σ H λx H1=>r x H1 Q
def rI(C:Int->Int->Prop)(g:Int->Int->V):R2:=λx y H Q=>∃i j,x=.int i/\y=.int j/\C i j/\Q (g i j) H
def rI0(g:Int->Int->V):R2:=λx y H Q=>∃i j,x=.int i/\y=.int j/\Q (g i j) H
def rU(g:Int->V):V->Hp->VK->Prop:=λx H Q=>∃i,x=.int i/\Q (g i) H
section
variable {X : Cx} {a b c : Do} {ta tb tc : TE} {pos : Pos}
theorem J7 (ha:PE X a ta) (hb:PE X b tb) {R:V->V->Hp->Prop} (I:Inv X pins σ H s)
 (h:ta σ H λx H1=>tb σ H1 λy H2=>R x y H2) {Q:ol->r0->Prop} {f:ol->ol->Sem ol}
 (hf:∀v u s2 x y H2,Inv X pins σ H2 s2->RelV x v->RelV y u->R x y H2->wpAny (model X.prog X.w) X.A (f v u) Q X.xe s2):
 wpAny (model X.prog X.w) X.A (eval a X.env) (λv U=>wpAny (model X.prog X.w) X.A (eval b X.env) (λu Y=>wpAny (model X.prog X.w) X.A (f v u) Q X.xe Y) X.xe U) X.xe s:=by
 refine thn (ha pins s σ H _ I h) λv s1 #[x,H1,I1,r1,q1]=> ?_;refine thn (hb pins s1 σ H1 _ I1 q1) λu s2 #[y,H2,I2,r2,q2]=> ?_;exact hf v u s2 x y H2 I2 r1 r2 q2
theorem a6{op:Operator}(U:OpR X (binaryOp op) r)(ha:PE X a ta)(hb:PE X b tb):PE X (.BinOp a op b pos) (tOp r ta tb):=by intro pins s σ H Q I h;exact wpAny_BinOp (J7 ha hb I h λv u s2 x y H2 Y rx ry q=>U pins s2 σ H2 x y v u Q Y rx ry q)
theorem sY{op:UnaryOp}{r:V->Hp->VK->Prop}(U:UnR X (unaryOp op) r)(ha:PE X a ta):PE X (.UnaryOp op a pos) (tUn r ta):=by intro pins s σ H Q I h;exact UnaryOp_ (thn (ha pins s σ H _ I h) λv s1 #[x,H1,I1,r1,q1]=>U pins s1 σ H1 x v Q I1 r1 q1)
theorem opI {f:ol->ol->Sem ol} {C:Int->Int->Prop} {g:Int->Int->Int}
 (rule:∀(i j:Int) (t u:Tok) (s:r0) (Q:ol->r0->Prop) (E:ol->r0->Prop),C i j->Q (.int (g i j) s.toks) {s with toks:=s.toks+1}->wpAny (model X.prog X.w) X.A (f (.int i t) (.int j u)) Q E s):
 OpR X f (rI C λi j=>.int (g i j)):=by
 intro pins s σ H x y v u Q I U Y h;obtain⟨i,j,rfl,rfl,hc,q⟩:=h;obtain⟨t,rfl⟩:=U;obtain⟨t',rfl⟩:=Y;exact rule i j t t' s _ _ hc #[.int (g i j),H,I.tok _,#[_,rfl],q]
theorem Kl {f:ol->ol->Sem ol} {g:Int->Int->Int}
 (rule:∀(i j:Int) (t u:Tok) (s:r0) (Q:ol->r0->Prop) (E:ol->r0->Prop),Q (.int (g i j) s.toks) {s with toks:=s.toks+1}->wpAny (model X.prog X.w) X.A (f (.int i t) (.int j u)) Q E s):
 OpR X f (rI0 λi j=>.int (g i j)):=by
 intro pins s σ H x y v u Q I U Y h;obtain⟨i,j,rfl,rfl,q⟩:=h;obtain⟨t,rfl⟩:=U;obtain⟨t',rfl⟩:=Y;exact rule i j t t' s _ _ #[.int (g i j),H,I.tok _,#[_,rfl],q]
theorem J0 {f:ol->ol->Sem ol} {g:Int->Int->Bool}
 (rule:∀(i j:Int) (t u:Tok) (s:r0) (Q:ol->r0->Prop) (E:ol->r0->Prop),Q (.bool (g i j)) s->wpAny (model X.prog X.w) X.A (f (.int i t) (.int j u)) Q E s):
 OpR X f (rI0 λi j=>.bl (g i j)):=by
 intro pins s σ H x y v u Q I U Y h;obtain⟨i,j,rfl,rfl,q⟩:=h;obtain⟨t,rfl⟩:=U;obtain⟨t',rfl⟩:=Y;exact rule i j t t' s _ _ #[.bl (g i j),H,I,rfl,q]
def Kt(i j:Int):Prop:=0<=j/\j<=1000000/\i.natAbs<2^64
theorem NR:OpR X (binaryOp .Add) (rI0 λi j=>.int (i+j)):=Kl λ_ _ _ _ _ _ _ q=>add_int q
theorem pG:OpR X (binaryOp .Sub) (rI0 λi j=>.int (i-j)):=Kl λ_ _ _ _ _ _ _ q=>sub_int q
theorem fq:OpR X (binaryOp .Mod) (rI (λ_ j=>j≠0) λi j=>.int (i.fmod j)):=opI λ_ _ _ _ _ _ _ hc q=>mod_int' hc q
theorem rY:OpR X (binaryOp .Pow) (rI Kt λi j=>.int (i^j.toNat)):=opI λ_ _ _ _ _ _ _ hc q=>pow_int_small hc.1 hc.2.1 hc.2.2 q
theorem LA:OpR X (binaryOp .BitOr) (rI0 λi j=>.int (Builtin.bitOr i j)):=Kl λ_ _ _ _ _ _ _ q=>or_int q
theorem unI {f:ol->Sem ol} {g:Int->Int}
 (rule:∀(i:Int) (t:Tok) (s:r0) (Q:ol->r0->Prop) (E:ol->r0->Prop),Q (.int (g i) s.toks) {s with toks:=s.toks+1}->wpAny (model X.prog X.w) X.A (f (.int i t)) Q E s):
 UnR X f (rU λi=>.int (g i)):=by
 intro pins s σ H x v Q I U h;obtain⟨i,rfl,q⟩:=h;obtain⟨t,rfl⟩:=U;exact rule i t s _ _ #[.int (g i),H,I.tok _,#[_,rfl],q]
theorem pV:UnR X (unaryOp .USub) (rU λi=>.int (-i)):=unI λ_ _ _ _ _ q=>neg_int q
end
def Oe:V->V->Bool
 | .non,.non=>on | .non,.int _=>on | .int _,.non=>on | .non,.bl _=>on | .bl _,.non=>on | .non,.str _=>on | .str _,.non=>on
 | .int _,.int _=>on | .bl _,.bl _=>on | .str _,.str _=>on | .byt _,.byt _=>on
 | .int _,.str _=>on | .str _,.int _=>on | .bl _,.str _=>on | .str _,.bl _=>on
 | _,_=>tt
def rEq:R2:=λx y H Q=>Oe x y=on/\Q (.bl (decide (x=y))) H
def rNe:R2:=λx y H Q=>Oe x y=on/\Q (.bl (!decide (x=y))) H
theorem vZ{i j:Int}:decide (V.int i=V.int j)=(i == j):=by rw[Rn];simp
theorem yP{i j:Bool}:decide (V.bl i=V.bl j)=(i == j):=by rw[Rn];simp
theorem wx{i j:Str}:decide (V.str i=V.str j)=(i == j):=by rw[Rn];simp
theorem Fv{i j:Array UInt8}:decide (V.byt i=V.byt j)=(i.toList == j.toList):=by rw[Rn];cases i;cases j;simp
section
variable {X : Cx} {a b c : Do} {ta tb tc : TE} {pos : Pos}
theorem cC{Q:VK}{k U:Bool}(I:Inv X pins σ H s)(q:Q (.bl k) H)(e:k=U):EP X pins σ Q (.bool U) s:=by subst e;exact#[.bl k,H,I,rfl,q]
theorem Pm:OpR X (compareOp .Eq) rEq:=by
 intro pins s σ H x y v u Q I Y U h;obtain⟨hs,q⟩:=h;cases x with
 | non=>
  cases Y;cases y with
  | non=>cases U;exact PySem.EqNone.eq_none_none (cC I q (by simp))
  | bl j=>cases U;exact PySem.EqNone.eq_none_bool (cC I q (by simp))
  | int j=>obtain⟨t',rfl⟩:=U;exact PySem.EqNone.eq_none_int (cC I q (by simp))
  | str j=>obtain⟨t',rfl⟩:=U;exact PySem.EqNone.eq_none_str (cC I q (by simp))
  | _=>exact absurd (show tt=on from hs) At
 | bl i=>
  cases Y;cases y with
  | non=>cases U;exact PySem.EqNone.eq_bool_none (cC I q (by simp))
  | bl j=>cases U;exact eq_bool (cC I q yP)
  | str j=>obtain⟨t',rfl⟩:=U;exact VJ (cC I q (by simp))
  | _=>exact absurd (show tt=on from hs) At
 | int i=>
  obtain⟨t,rfl⟩:=Y;cases y with
  | non=>cases U;exact PySem.EqNone.eq_int_none (cC I q (by simp))
  | int j=>obtain⟨t',rfl⟩:=U;exact eq_int (cC I q vZ)
  | str j=>obtain⟨t',rfl⟩:=U;exact VN (cC I q (by simp))
  | _=>exact absurd (show tt=on from hs) At
 | str i=>
  obtain⟨t,rfl⟩:=Y;cases y with
  | non=>cases U;exact PySem.EqNone.eq_str_none (cC I q (by simp))
  | bl j=>cases U;exact VI (cC I q (by simp))
  | int j=>obtain⟨t',rfl⟩:=U;exact VS (cC I q (by simp))
  | str j=>obtain⟨t',rfl⟩:=U;exact eq_str (cC I q wx)
  | _=>exact absurd (show tt=on from hs) At
 | byt i=>
  obtain⟨t,rfl⟩:=Y;cases y with
  | byt j=>obtain⟨t',rfl⟩:=U;exact PySem.W.eq_bytes (cC I q Fv)
  | _=>exact absurd (show tt=on from hs) At
 | _=>cases y <;> exact absurd (show tt=on from hs) At
theorem OK:OpR X (compareOp .NotEq) rNe:=by
 intro pins s σ H x y v u Q I Y U h;obtain⟨hs,q⟩:=h;cases x with
 | non=>
  cases Y;cases y with
  | non=>cases U;exact PySem.EqNone.ne_none_none (cC I q (by simp))
  | bl j=>cases U;exact PySem.EqNone.ne_none_bool (cC I q (by simp))
  | int j=>obtain⟨t',rfl⟩:=U;exact PySem.EqNone.ne_none_int (cC I q (by simp))
  | str j=>obtain⟨t',rfl⟩:=U;exact PySem.EqNone.ne_none_str (cC I q (by simp))
  | _=>exact absurd (show tt=on from hs) At
 | bl i=>
  cases Y;cases y with
  | non=>cases U;exact PySem.EqNone.ne_bool_none (cC I q (by simp))
  | bl j=>cases U;exact ne_bool (cC I q (congrArg not yP))
  | str j=>obtain⟨t',rfl⟩:=U;exact VL (cC I q (by simp))
  | _=>exact absurd (show tt=on from hs) At
 | int i=>
  obtain⟨t,rfl⟩:=Y;cases y with
  | non=>cases U;exact PySem.EqNone.ne_int_none (cC I q (by simp))
  | int j=>obtain⟨t',rfl⟩:=U;exact ne_int (cC I q (congrArg not vZ))
  | str j=>obtain⟨t',rfl⟩:=U;exact VR (cC I q (by simp))
  | _=>exact absurd (show tt=on from hs) At
 | str i=>
  obtain⟨t,rfl⟩:=Y;cases y with
  | non=>cases U;exact PySem.EqNone.ne_str_none (cC I q (by simp))
  | bl j=>cases U;exact VH (cC I q (by simp))
  | int j=>obtain⟨t',rfl⟩:=U;exact VO (cC I q (by simp))
  | str j=>obtain⟨t',rfl⟩:=U;exact ne_str (cC I q (congrArg not wx))
  | _=>exact absurd (show tt=on from hs) At
 | byt i=>
  obtain⟨t,rfl⟩:=Y;cases y with
  | byt j=>obtain⟨t',rfl⟩:=U;exact PySem.W.ne_bytes (cC I q (congrArg not Fv))
  | _=>exact absurd (show tt=on from hs) At
 | _=>cases y <;> exact absurd (show tt=on from hs) At
theorem ny:OpR X (compareOp .Lt) (rI0 λi j=>.bl (decide (i<j))):=J0 λ_ _ _ _ _ _ _ q=>VM q
theorem ip:OpR X (compareOp .Gt) (rI0 λi j=>.bl (decide (j<i))):=J0 λ_ _ _ _ _ _ _ q=>gt_int q
theorem OT:OpR X (compareOp .GtE) (rI0 λi j=>.bl (decide (j<=i))):=J0 λ_ _ _ _ _ _ _ q=>ge_int q
theorem M8:OpR X (compareOp .Is) (λx y H Q=>y=.non/\Q (.bl (decide (x=.non))) H):=by
 intro pins s σ H x y v u Q I U Y h;obtain⟨rfl,q⟩:=h;cases Y;refine is_none_gen (cC I q ?_);cases x <;> first
  | (cases U;rfl)
  | (obtain⟨t,rfl⟩:=U;rfl)
theorem MP:OpR X (compareOp .IsNot) (λx y H Q=>y=.non/\Q (.bl (!decide (x=.non))) H):=by
 intro pins s σ H x y v u Q I U Y h;obtain⟨rfl,q⟩:=h;cases Y;refine isnot_none_gen (cC I q ?_);cases x <;> first
  | (cases U;rfl)
  | (obtain⟨t,rfl⟩:=U;rfl)
theorem OpR.or{r U:R2}(h:OpR X f r)(h':OpR X f U):OpR X f (λx y H Q=>r x y H Q\/U x y H Q):=by
 intro pins s σ H x y v u Q I Y ry q;rcases q with q | q
 exact h pins s σ H x y v u Q I Y ry q;exact h' pins s σ H x y v u Q I Y ry q
theorem bj{b:Do}(h:op≠ .In:=by decide)(h2:op≠ .NotIn:=by decide):behindInMarks op b=false:=by
 have e1:(op == CmpOp.In)=false:=by cases op <;> first | rfl | exact absurd rfl h
 have e2:(op == CmpOp.NotIn)=false:=by cases op <;> first | rfl | exact absurd rfl h2
 cases b <;> simp[behindInMarks,e1,e2]
theorem eZ(U:OpR X (compareOp op) r)(ha:PE X a ta)(hb:PE X b tb)(hm:behindInMarks op b=tt):PE X (.Compare a [op] [b] pos) (tOp r ta tb):=by intro pins s σ H Q I h;exact wpAny_Compare1 (J7 ha hb I h λv u s2 x y H2 Y rx ry q=>U pins s2 σ H2 x y v u Q Y rx ry q) hm
def Lm(t:TE):TT:=λσ H Q=>t σ H λx H'=>∃k,x=.bl k/\Q k H'
theorem bf(U:OpR X (compareOp op) r)(ha:PE X a ta)(hb:PE X b tb)(hm:behindInMarks op b=tt):PT X (.Compare a [op] [b] pos) (Lm (tOp r ta tb)):=by
 intro pins s σ H Q I h;refine UJ (thn (ha pins s σ H _ I h) λv s1 #[x,H1,I1,r1,q1]=>thn (hb pins s1 σ H1 _ I1 q1) λu s2 #[y,H2,I2,r2,q2]=>
  thn (U pins s2 σ H2 x y v u _ I2 r1 r2 q2) λc s3 #[z,H3,I3,r3,k,e,q3]=> ?_) hm
 subst e;cases r3;exact Ry #[H3,I3,q3]
def HB(r Y:R2)(ta tb tc:TE):TE:=λσ H Q=>ta σ H λx H1=>tb σ H1 λy H2=>r x y H2 λz U=>∃k,z=.bl k/\
 (if k=on then tc σ U λw' H4=>Y y w' H4 Q else Q (.bl tt) U)
theorem JM {op U:CmpOp} {r r':R2} (ho:OpR X (compareOp op) r) (Y:OpR X (compareOp U) r') (ha:PE X a ta) (hb:PE X b tb) (hc:PE X c tc)
 (hm:lastMarks [op,U] [b,c]=false:=by with_unfolding_all rfl):PE X (.Compare a [op,U] [b,c] pos) (HB r r' ta tb tc):=by
 intro pins s σ H Q I h;refine Compare_chain (thn (ha pins s σ H _ I h) λv s1 #[x,H1,I1,r1,q1]=>chain_link (thn (hb pins s1 σ H1 _ I1 q1) λu s2 #[y,H2,I2,r2,q2]=>
  thn (ho pins s2 σ H2 x y v u _ I2 r1 r2 q2) λd s3 #[z,H3,I3,r3,k,e,q3]=> ?_)) hm
 subst e;cases r3;refine Ry ?_;cases k with
 | false=>exact ite_ff #[.bl tt,H3,I3,rfl,q3]
 | true=>exact ite_tt (chain_last (thn (hc pins s3 σ H3 _ I3 q3) λw' s4 #[z',H4,I4,r4,q4]=>Y pins s4 σ H4 y z' u w' Q I4 r2 r4 q4))
def JO(K:qh)(x:V)(H:Hp)(k:Bool):Prop:=
 match x with
 | .non=>k=tt
 | .bl b=>k=b
 | .int i=>k=(i != 0)
 | .str y=>y.length<=sizeLine/\k=((y.length:Int) != 0)
 | .byt y=>y.size<=sizeLine/\k=((y.size:Int) != 0)
 | .ref p=>(∃xs,SqL K H p xs/\k= !xs.isEmpty)\/(∃xs,SqT K H p xs/\k= !xs.isEmpty)\/∃U,H p=lH (.dK U)/\k= !U.isEmpty
 | _=>False
theorem Gy{Y:Type}{U:List (Y×V)}{vs:List (Y×ol)}(r:KV U vs):(!vs.isEmpty)= !U.isEmpty:=by cases r <;> rfl
theorem yZ{xs:List V}{U:List ol}(r:Vals xs U):(!U.toArray.isEmpty)= !xs.isEmpty:=by cases r <;> simp
theorem qi:(sizeLine:Nat)<2^63:=by rw[SN];decide
theorem NL:PU X (λx H Q=>∃k,JO X.K x H k/\Q k H):=by
 intro pins s σ H x v Q I rx h;obtain⟨k,e,q⟩:=h;have hl:=qi;have hs:sizeLine=16777216:=SN;cases x with
 | non=>
  cases rx;have e':k=false:=e;subst e';exact truthy_none #[H,I,q]
 | bl b=>
  cases rx;have e':k=b:=e;subst e';exact Ry #[H,I,q]
 | int i=>
  obtain⟨t,rfl⟩:=rx;have e':k=(i != 0):=e;subst e';exact PySem.P.truthy_int #[H,I,q]
 | str y=>
  obtain⟨t,rfl⟩:=rx;obtain⟨hy,e'⟩:y.length<=sizeLine/\k=((y.length:Int) != 0):=e;subst e';exact PySem.P.truthy_str ⋯ #[H,I.tok _,q]
 | byt y=>
  obtain⟨t,rfl⟩:=rx;obtain⟨hy,e'⟩:y.size<=sizeLine/\k=((y.size:Int) != 0):=e;subst e';exact PySem.W.truthy_bytes ⋯ #[H,I.tok _,q]
 | ref p=>
  cases rx;have e':(∃xs,SqL X.K H p xs/\k= !xs.isEmpty)\/(∃xs,SqT X.K H p xs/\k= !xs.isEmpty)\/∃U,H p=lH (.dK U)/\k= !U.isEmpty:=e;rcases e' with⟨xs,hx,e'⟩ | ⟨xs,hx,e'⟩ | ⟨U,hx,e'⟩
  subst e';obtain⟨ac,r,pl,hz⟩:=I.list hx;have Y:=r.length;exact wpAny_truthy_list pl.isList (by simp only[xg];omega) #[H,I.tok _,by rw[yZ r];exact q];subst e';obtain⟨ac,r,pl,hz⟩:=I.tuple hx;have Y:=r.length;exact truthy_tuple pl (by simp only[xg];omega) #[H,I.tok _,by rw[yZ r];exact q];subst e';obtain⟨hz,hS,vs,r,m⟩:U.length<=sizeLine/\(p == sysModules)=tt/\∃vs,KV U vs/\s.heap.DictOf (zH X.prog X.w) p vs:=I.hok p _ hx;have Y:U.length=vs.length:=Paired.length r;exact wpAny_truthy_dict hS m ⋯ #[H,I.tok _,by rw[Gy r];exact q]
 | _=>exact(show False from e).elim
theorem C4(ha:PE X a ta)(Y:∀U,isTrue a X.env U=(do let v <- U;standAt a.pos;holding [v] (truthy v))):
 PT X a (λσ H Q=>ta σ H λx H'=>∃k,JO X.K x H' k/\Q k H'):=by
 intro pins s σ H Q I h;exact isTrue_plain (thn (ha pins s σ H _ I h) λv s1 #[x,H1,I1,r1,q1]=>NL pins s1 σ H1 x v Q I1 r1 q1) (Y _)
theorem He:OpR X (binaryOp .Add) (λx y H Q=>∃i j,x=.str i/\y=.str j/\i.length+j.length<=sizeLine/\Q (.str (i++j)) H):=by intro pins s σ H x y v u Q I U Y h;obtain⟨i,j,rfl,rfl,hz,q⟩:=h;obtain⟨t,rfl⟩:=U;obtain⟨t',rfl⟩:=Y;exact add_str (λt' tk=>#[.str (i++j),H,I.tok _,#[_,rfl],q]) hz
theorem vals1{x:V}(r:Vals [x] us):∃u,us=[u]/\RelV x u:=by
 cases r with
 | cons r1 r2=>cases r2;exact#[_,rfl,r1]
theorem vals2{x y:V}(r:Vals [x,y] us):∃u U,us=[u,U]/\RelV x u/\RelV y U:=by
 cases r with
 | cons r1 r2=>
  cases r2 with
  | cons Y r4=>cases r4;exact#[_,_,rfl,r1,Y]
theorem DT:nt X (.builtin "abs") (λxs H Q=>∃i,xs=[.int i]/\Q (.int (if i<0 then -i else i)) H):=by intro pins s σ H xs us Q I r h;obtain⟨i,rfl,q⟩:=h;obtain⟨u,rfl,t,rfl⟩:=vals1 r;exact call_abs_int λu tk=>#[.int (if i<0 then -i else i),H,I.tok _,#[_,rfl],q]
theorem A9(hc:X.calm=on):nt X (.builtin "max") (λxs H Q=>∃i j,xs=[.int i,.int j]/\Q (.int (if j>i then j else i)) H):=by intro pins s σ H xs us Q I r h;obtain⟨i,j,rfl,q⟩:=h;obtain⟨u,Y,rfl,⟨t,rfl⟩,⟨t',rfl⟩⟩:=vals2 r;refine max_two_ints (I.ok.hd hc) λh' tk k=>#[_,H,I.kept k, ?_,q];by_cases U:j>i;rw[if_pos U,if_pos U];exact#[_,rfl];rw[if_neg U,if_neg U];exact#[_,rfl]
def NN(K:qh)(x:V)(H:Hp)(n:Nat):Prop:=
 match x with
 | .str y=>y.length<=sizeLine/\n=y.length
 | .byt y=>y.size<=sizeLine/\n=y.size
 | .ref p=>(∃xs,SqL K H p xs/\n=xs.length)\/∃xs,SqT K H p xs/\n=xs.length
 | _=>False
theorem cQ:nt X (.builtin "len") (λxs H Q=>∃x n,xs=[x]/\NN X.K x H n/\Q (.int n) H):=by
 intro pins s σ H xs us Q I r h;obtain⟨x,n,rfl,e,q⟩:=h;obtain⟨u,rfl,Y⟩:=vals1 r;have hl:=qi;have hs:sizeLine=16777216:=SN;cases x with
 | str y=>
  obtain⟨t,rfl⟩:=Y;obtain⟨hy,e'⟩:y.length<=sizeLine/\n=y.length:=e;subst e';exact len_str ⋯ #[.int _,H,I.tok _,#[_,rfl],q]
 | byt y=>
  obtain⟨t,rfl⟩:=Y;obtain⟨hy,e'⟩:y.size<=sizeLine/\n=y.size:=e;subst e';exact PySem.W.len_bytes ⋯ #[.int _,H,I.tok _,#[_,rfl],q]
 | ref p=>
  cases Y;have e':(∃xs,SqL X.K H p xs/\n=xs.length)\/∃xs,SqT X.K H p xs/\n=xs.length:=e;rcases e' with⟨xs,hx,e'⟩ | ⟨xs,hx,e'⟩
  subst e';obtain⟨ab,r',pl,hz⟩:=I.list hx;have U:=r'.length;exact Calls.call_len_list pl.isList (by simp only[xg];omega) #[.int xs.length,H,I.tok _,#[_,by simp only[xg];rw[U]],q];subst e';obtain⟨ab,r',pl,hz⟩:=I.tuple hx;have U:=r'.length;exact len_tuple pl (by simp only[xg];omega) #[.int xs.length,H,I.tok _,#[_,by simp only[xg];rw[U]],q]
 | _=>exact(show False from e).elim
end
structure yh(h:Gc)(x dx C:pc)(mA:Str->Option ol):Prop where
 obj:h.get? x=lH (RS C dx)
 ns:h.Ns1 dx mA
 ne:dx≠x
theorem Iq{dx:pc}{mA:Str->Option ol}(n:h.Ns1 dx mA):∃Y,h.get? dx=lH Y/\∀name,TX name Y=lH (mA name):=by
 obtain⟨o,es,ep,ho,hd,hk,_,hm⟩:=n;refine#[o,ho,λname=> ?_];have e:=hm name;unfold nsFind findBy at e;rw[<- Array.find?_toList] at e;unfold TX;rw[hd];dsimp only;split;rename_i y q;rw[q] at e;exact congrArg lH e;rename_i q;rw[q] at e;have a:es.toList.any (·.refKey)=false:=by rw[U9];intro y hy;obtain⟨z,t,U⟩:=hk y (Array.mem_toList_iff.mp hy);simp[DictEntry.refKey,U]
 have a':¬es.toList.any (·.refKey)=true:=by rw[a];exact At
 rw[if_neg a'];exact congrArg lH e
theorem yh.look{x dx C:pc}{mA:Str->Option ol}(I:yh h x dx C mA):∃U,PySem.W.InstAt h x (RS C dx) C (lH U)/\∀name,TX name U=lH (mA name):=
 let #[U,ho,hl]:=Iq I.ns
 #[U,#[I.obj,rfl,rfl,ho],hl]
section
variable {prog : AC} {w : Db} {A : KE} {E : ol → r0 → Prop} {s : r0} {K : qh} {x dx C f : pc} {mA : Str → Option ol} {name : Str} {v : ol}
theorem get_map {U:Bool} {Q:ol->r0->Prop} (X:K.In s.heap) (I:yh s.heap x dx C mA) (hg:S3 K C name=on) (hh:To K C=on)
 (ha:IG K (.ref C) name=lH na) (hv:mA name=lH v) (Y:Vr v=on) (h:Q v {s with toks:=s.toks+1}):
 wpAny (model prog w) A (getAttr (.ref x) name U) Q E s:=by
 obtain⟨od,J,hl⟩:=I.look;exact PySem.W.get_value X J (TV hg).1 (PySem.W.findObj_own hh ha rfl (by rw[hl,hv])) Y h
theorem K9 {pl:Sem Bool} {Q:ol×List ol->r0->Prop} (X:K.In s.heap) (I:yh s.heap x dx C mA) (U:S3 K C name=on)
 (Y:IG K (.ref C) name=lH (lH (.ref f))) (ht:SY K (.ref f)=on) (hv:mA name=na) (h:Q (.ref f,[.ref x]) s):
 wpAny (model prog w) A (getMethod (.ref x) name pl) Q E s:=by
 obtain⟨od,J,hl⟩:=I.look;exact PySem.W.method_fn X J (TV U).1 (TV U).2 Y (beq_iff_eq.mp ht) (by show (TX name od).map (·.isSome)=lH tt;rw[hl,hv];rfl) h
theorem M1 {ns:List Str} {Q:Unit->r0->Prop} (X:K.In s.heap) (I:yh s.heap x dx C mA)
 (hs:IG K (.ref C) "__setattr__" =lH (lH (.builtin "object.__setattr__"))) (hp:Ua K C=on) (ht:UE K C name=lH na) (hh:To K C=on)
 (hw:UX mA ns) (az:ns.length<=sizeLine)
 (h:∀h',yh h' x dx C (λy=>if y=name then lH v else mA y)->Heap.SameBut dx s.heap h'->Q () {s with heap:=h',toks:=s.toks+2}):
 wpAny (model prog w) A (setAttr (.ref x) name v) Q E s:=by
 obtain⟨od,J,hl⟩:=I.look;refine PySem.W.set_plain X J hs (PySem.W.osa_open (s:={s with toks:=s.toks+1}) (r:=na) X J hp ht λb=> ?_);obtain⟨cd,hc,ab⟩:=PySem.W.any_some hh;have hx:s.heap.get? x=lH #[.ref C,lH dx,.plain,#v[]]:=I.obj;refine u8 (BG (u8 (u8 (wpAny_loadPart hx (u8 (VW (s:={s with toks:=s.toks+1}) (PySem.W.looks_clsIn X hc) ?_))))));rw[ab];refine BG (a:=lH dx) (u8 (BG (u8 ?_)));refine wpAny_nsSet1 (s:={s with toks:=s.toks+1}) I.ns λh' U Y=> ?_;obtain⟨oD,a0,a1,ac,al,am⟩:=U.count (PySem.Within.cons name v hw);refine u8 (wpAny_lookBehind ac (by rw[al];exact pastItsLine_dict (IR am (by rw[wT];omega))) ?_);exact BG (h _ #[(Y.2 _ (S1 I.ne)).trans I.obj,U,I.ne] Y)
theorem Km {R:U2->r0->Prop} {vs:List ol} {kw:List (Str×ol)} (X:K.In s.heap) (hm:UC K C=on)
 (hi:IG K (.ref C) "__init__" =lH (lH (.ref f))) (U:PySem.W.typeIn K (.ref f)=lH (.type "function"))
 (h:codeAny (model prog w) (A.under (.builtin "type.__call__" #[.ref C::vs,kw])) (.call (.ref f) #[.ref (s.heap.objs.size+1)::vs,kw]) (PySem.W.InitBack (s.heap.objs.size+1) R)
  {s with heap:=(s.heap.push Rx).push (RS C s.heap.objs.size)}):
 codeAny (model prog w) A (.call (.ref C) #[vs,kw]) R s:=by
 obtain⟨Y,g,d,t,os⟩:=s;exact PySem.W.make_core (PySem.W.makes_of X hm) (PySem.W.looks_findIn X hi) (λself=>PySem.W.bind_fn X self U) (.inl rfl) h
end
def ji(f:Str)(v:V):List (Str×V)->List (Str×V)
 | []=>[(f,v)]
 | (g,x)::r=>if g=f then (g,v)::r else (g,x)::ji f v r
theorem xb(f g:Str)(v:V):∀fs:List (Str×V),(ji f v fs).lookup g=if g=f then lH v else fs.lookup g
 | []=>by show SJ g [(f,v)]=_;by_cases h:g=f;have hb:(g == f)=true:=beq_iff_eq.mpr h;simp only[SJ,hb,if_pos h];have hb:(g == f)=false:=beq_eq_false_iff_ne.mpr h;simp only[SJ,hb,if_neg h]
 | (k,x)::r=>by have U:=xb f g v r;rw[show ji f v ((k,x)::r)=(if k=f then (k,v)::r else (k,x)::ji f v r) from rfl];by_cases hk:k=f;rw[if_pos hk];by_cases h:g=k;have hb:(g == k)=true:=beq_iff_eq.mpr h;simp only[SJ,hb,if_pos (h.trans hk)];have hb:(g == k)=false:=beq_eq_false_iff_ne.mpr h;simp only[SJ,hb,if_neg (λe:g=f=>h (e.trans hk.symm))];rw[if_neg hk];by_cases h:g=k;have hb:(g == k)=true:=beq_iff_eq.mpr h;simp only[SJ,hb,if_neg (λe:g=f=>hk (h.symm.trans e))];have hb:(g == k)=false:=beq_eq_false_iff_ne.mpr h;simp only[SJ,hb];exact U
theorem vS(f:Str)(v:V):∀fs:List (Str×V),f∈(ji f v fs).map (·.1)/\∀g,g∈fs.map (·.1)->g∈(ji f v fs).map (·.1)
 | []=>#[by simp[ji],λg h=>by simp at h]
 | (k,x)::r=>by
  obtain⟨U,Y⟩:=vS f v r;rw[show ji f v ((k,x)::r)=(if k=f then (k,v)::r else (k,x)::ji f v r) from rfl];by_cases hk:k=f;rw[if_pos hk];subst hk;exact#[by simp,λg h=>by simpa using h];rw[if_neg hk];refine#[?_,λg h=> ?_];rw[ww];exact sB _ U;rw[ww] at h ⊢;rcases vr.mp h with e | e
  exact vr.mpr (.inl e);exact sB _ (Y g e)
theorem xm(f:Str)(v:V):∀fs:List (Str×V),(ji f v fs).length<=fs.length+1
 | []=>by simp[ji]
 | (k,x)::r=>by have U:=xm f v r;rw[show ji f v ((k,x)::r)=(if k=f then (k,v)::r else (k,x)::ji f v r) from rfl];by_cases hk:k=f;rw[if_pos hk,wT,wT];omega;rw[if_neg hk,wT,wT];omega
theorem rH.some_of{o:Option ol}(r:rH (lH v) o):∃u,o=lH u/\RelV v u:=by
 cases o with
 | none=>exact(show False from r).elim
 | some u=>exact#[u,rfl,r]
theorem rH.none_of{o:Option ol}(r:rH na o):o=none:=by
 cases o with
 | none=>rfl
 | some u=>exact(show False from r).elim
theorem Hj(r:RelV v u):Vr u=true:=by
 cases v with
 | non=>cases (show u=Value.none from r);rfl
 | bl b=>cases (show u=Value.bool b from r);rfl
 | int i=>obtain⟨t,e⟩:=(show ∃t,u=Value.int i t from r);cases e;rfl
 | str x=>obtain⟨t,e⟩:=(show ∃t,u=Value.str x t from r);cases e;rfl
 | byt b=>obtain⟨t,e⟩:=(show ∃t,u=Value.bytes b t from r);cases e;rfl
 | flt b=>obtain⟨t,e⟩:=(show ∃t,u=Value.float b t from r);cases e;rfl
 | ref a=>cases (show u=Value.ref a from r);rfl
 | ty n=>cases (show u=Value.type n from r);rfl
section
variable {P : AC} {w : Db} {H H' : Hp} {h h' : Gc} {a C dx : pc} {fs fs' : List (Str × V)}
theorem Ar(U:HOk P w H h)(e:H a=lH (.ins C dx fs)):∃mA,yh h a dx C mA/\(∀f,rH (fs.lookup f) (mA f))/\UX mA (fs.map (·.1))/\fs.length<=1000/\H dx=lH (.own a):=by obtain⟨d,z,ne,Y,mA,n,r,q⟩:=(show ie P w H h a (.ins C dx fs) from U a _ e);exact#[mA,#[Y,n,ne],r,q,z,d]
end
structure Cls(K:qh)(C:pc):Prop where
 pg:S3 K C Str.empty=on
 hd:To K C=on
 po:Ua K C=on
 sa:IG K (.ref C) "__setattr__" =lH (lH (.builtin "object.__setattr__"))
theorem Cls.get(c:Cls K C)(f:Str):S3 K C f=true:=c.pg
def fK(K:qh)(C:pc)(f:Str):Prop:=IG K (.ref C) f=lH na
theorem fK.taker{f:Str}(n:fK K C f):UE K C f=lH none:=by unfold UE;rw[show IG K (.ref C) f=lH na from n];rfl
structure Con(K:qh)(C:pc)(f:Str)(v:V)(u:ol):Prop where
 at_:IG K (.ref C) f=lH (lH u)
 rel:RelV v u
 get:Vd K u "__get__" =lH na
 cp:PySem.W.copiedNames.contains f=tt
structure Meth(K:qh)(C:pc)(m:Str)(f:pc):Prop where
 at_:IG K (.ref C) m=lH (lH (.ref f))
 fn:SY K (.ref f)=on
 kp:Rm K (.ref f)=on
section
variable {X : Cx} {pins : List (pc × Obj)} {σ : St} {H : Hp} {s : r0} {a C dx : pc} {fs : List (Str × V)} {f : Str} {v : V} {A : KE} {E : ol → r0 → Prop}
theorem G4 {b:Bool} {Q:ol->r0->Prop} (I:Inv X pins σ H s) (e:H a=lH (.ins C dx fs)) (c:Cls X.K C) (n:fK X.K C f) (l:fs.lookup f=lH v)
 (h:∀u s',Inv X pins σ H s'->RelV v u->Q u s'):wpAny (model X.prog X.w) A (getAttr (.ref a) f b) Q E s:=by
 obtain⟨mA,O,r,_,_,_⟩:=Ar I.hok e;obtain⟨u,hu,U⟩:=rH.some_of (v:=v) (o:=mA f) (by rw[<- l];exact r f);exact get_map I.kIn O (c.get f) c.hd n hu (Hj U) (h u _ (I.tok _) U)
theorem ug {m:Str} {g:pc} {pl:Sem Bool} {Q:ol×List ol->r0->Prop} (I:Inv X pins σ H s) (e:H a=lH (.ins C dx fs)) (c:Cls X.K C) (k:Meth X.K C m g) (l:fs.lookup m=na)
 (h:Q (.ref g,[.ref a]) s):wpAny (model X.prog X.w) A (getMethod (.ref a) m pl) Q E s:=by
 obtain⟨mA,O,r,_,_,_⟩:=Ar I.hok e;have hn:mA m=none:=rH.none_of (by rw[<- l];exact r m);exact K9 I.kIn O (c.get m) k.at_ k.fn hn h
theorem G8 {y:V} {Q:Unit->r0->Prop} (I:Inv X pins σ H s) (e:H a=lH (.ins C dx fs)) (c:Cls X.K C) (n:fK X.K C f) (hl:fs.length<1000) (Y:RelV y u)
 (h:∀s',Inv X pins σ (upd H a (.ins C dx (ji f y fs))) s'->Q () s'):wpAny (model X.prog X.w) A (setAttr (.ref a) f u) Q E s:=by
 obtain⟨mA,O,r,wi,_,U⟩:=Ar I.hok e;have hz:(fs.map (·.1)).length<=sizeLine:=by rw[ss,SN];omega
 refine M1 I.kIn O c.sa c.po n.taker c.hd wi hz λh' O' sb=>h _ ?_;have hd:∃o,h'.get? dx=lH o:=let #[o,_,_,e',_]:=O'.ns;#[o,e']
 refine I.write (x:=a) (e:=dx) (by rw[e];exact TL) (.inr U) (λb q hb z=>(sb.2 b hb).trans z) hd ?_;refine#[by rw[aY O.ne];exact U, ?_,O.ne,O'.obj,_,O'.ns,λg=> ?_,λg hg=> ?_];have:=xm f y fs;omega;show rH ((ji f y fs).lookup g) (if g=f then lH u else mA g);rw[xb];by_cases q:g=f;rw[if_pos q,if_pos q];exact Y;rw[if_neg q,if_neg q];exact r g;by_cases q:g=f;rw[q];exact(vS f y fs).1;refine(vS f y fs).2 g (wi g λz=>hg ?_);show (if g=f then lH u else mA g)=na;rw[if_neg q];exact z
theorem Inv.made(I:Inv X pins σ H s):Inv X pins σ (upd (upd H s.heap.objs.size (.own (s.heap.objs.size+1))) (s.heap.objs.size+1) (.ins C s.heap.objs.size []))
 {s with heap:=(s.heap.push Rx).push (RS C s.heap.objs.size)}:=by
 have e1:(s.heap.push Rx).get? s.heap.objs.size=lH Rx:=Heap.get?_push_size s.heap rfl;have e2:((s.heap.push Rx).push (RS C s.heap.objs.size)).get? (s.heap.objs.size+1)=lH (RS C s.heap.objs.size):=by have:=Heap.get?_push_size (s.heap.push Rx) (o:=RS C s.heap.objs.size) rfl;rwa [Heap.size_push] at this
 have e3:(s.heap.push Rx).Ns s.heap.objs.size (λ_=>na):=#[Rx,#v[],_,e1,rfl,(λe U=>absurd U (by simp)),λ_=>rfl];have Y:=I.laid (a:=s.heap.objs.size) (o:=.own (s.heap.objs.size+1)) (h':=s.heap.push Rx) (t':=s.toks) (λb u q=>Heap.get?_push_of_some _ q) (ut _) #[_,e1];refine Y.laid (a:=s.heap.objs.size+1) (o:=.ins C s.heap.objs.size []) (t':=s.toks) (λb u q=>Heap.get?_push_of_some _ q) (Nat.le_of_eq (Heap.size_push _ _)) ?_;have ne:s.heap.objs.size≠s.heap.objs.size+1:=FS (Tt _);refine#[by rw[aY ne,cH],Rb _,ne,e2,λ_=>na,(Heap.Ns1.of_empty e3).at λo q=>Heap.get?_push_of_some _ q,λ_=>TL,λy hy=>absurd rfl hy]
theorem L9 {prog:AC} {w:Db} {env:Env} {f:Str} {pos:Pos} {s:r0} {Q:ol->r0->Prop} (hb:attributeBase e f env (eval e env)=eval e env)
 (h:wpAny (model prog w) A (eval e env) (λo U=>wpAny (model prog w) A (getAttr o f on) Q E U) E s):wpAny (model prog w) A (eval (.Attribute e f pos) env) Q E s:=
 Attribute_any_ h (by rw[arm_eval_Attribute,hb])
end
def Nf(K:qh)(ta:TE)(f:Str):TE:=λσ H Q=>ta σ H λx H1=>∃a C dx fs v,x=.ref a/\H1 a=lH (.ins C dx fs)/\Cls K C/\fK K C f/\fs.lookup f=lH v/\Q v H1
def Og(K:qh)(ta tv:TE)(f:Str):TS:=λD σ H=>tv σ H λy H1=>ta σ H1 λx H2=>∃a C dx fs,x=.ref a/\H2 a=lH (.ins C dx fs)/\Cls K C/\fK K C f/\fs.length<1000/\
 D.nx σ (upd H2 a (.ins C dx (ji f y fs)))
section
variable {X : Cx} {o e value : Do} {f : Str} {pos pos' tpos : Pos} {ta tv : TE}
theorem Dg(U:PE X e ta)(hb:attributeBase e f X.env (eval e X.env)=eval e X.env):PE X (.Attribute e f pos) (Nf X.K ta f):=by intro pins s σ H Q I h;refine L9 hb (thn (U pins s σ H _ I h) λu s1 #[x,H1,I1,rx,a,C,dx,fs,v,ex,ea,c,n,l,q]=> ?_);subst ex;obtain rfl:u=Value.ref a:=rx;exact G4 I1 ea c n l λu' s2 Y ru=>#[v,H1,Y,ru,q]
theorem CH(ha:PE X o ta)(U:PE X value tv)(hs:swapsWith value (lH (.Attribute o f pos')) pos.line X.env=pure tt):PS X (.Assign [.Attribute o f pos'] value pos) (Og X.K ta tv f):=by intro pins s σ H D I h;refine plainObj_wpAny_Assign_Attribute (thn (U pins s σ H _ I h) λu s1 #[y,H1,I1,ry,q]=>thn (ha pins s1 σ H1 _ I1 q) λov s2 #[x,H2,I2,rx,a,C,dx,fs,ex,ea,c,n,l,q2]=> ?_) hs;subst ex;obtain rfl:ov=Value.ref a:=rx;exact G8 I2 ea c n l ry λs3 Y=>#[σ,_,Y,q2]
theorem OG {pl:Sem Bool} {m:Str} {apos:Pos} {args:List Do} {Q:ol->r0->Prop} (Y:PE X e te) (I:Inv X pins σ H s)
 (h:te σ H λx H1=>∃a C dx fs g,x=.ref a/\H1 a=lH (.ins C dx fs)/\Cls X.K C/\Meth X.K C m g/\fs.lookup m=na/\
  ∀s1,Inv X pins σ H1 s1->wpAny (model X.prog X.w) X.A (callWith pos (.ref g) [.ref a] (backTo pos (starEach args X.env)) (backToKw pos (keywordEach [] X.env))) Q X.xe s1)
 (ht:eval (.Call (.Attribute e m apos) args [] pos) X.env=(do
  let U <- eval e X.env
  standAt apos.atName
  let (f,first) <- holding [U] (getMethod U m pl)
  callWith pos f first (backTo pos (starEach args X.env)) (backToKw pos (keywordEach [] X.env)))):
 wpAny (model X.prog X.w) X.A (eval (.Call (.Attribute e m apos) args [] pos) X.env) Q X.xe s:=by
 refine Tw (pl:=pl) (thn (Y pins s σ H _ I h) λu s1 #[x,H1,I1,rx,a,C,dx,fs,g,ex,ea,c,k,l,q]=> ?_) ht;subst ex;obtain rfl:u=Value.ref a:=rx;exact ug I1 ea c k l (q s1 I1)
end
section
variable {X : Cx} {pins : List (pc × Obj)} {σ : St} {H : Hp} {s : r0} {A : KE} {E : ol → r0 → Prop} {Q : ol → r0 → Prop} {c : ol} {b : Bool}
inductive pL (K:qh) (H:Hp):V->ol->Prop where
 | non:pL K H .non (.type "NoneType")
 | bl (x:Bool):pL K H (.bl x) (.type "bool")
 | int (i:Int):pL K H (.int i) (.type "int")
 | str (x:Str):pL K H (.str x) (.type "str")
 | flt (x:UInt64):pL K H (.flt x) (.type "float")
 | lst {a:pc} {xs:List V} (e:H a=lH (.lst xs)):pL K H (.ref a) (.type "list")
 | frz {a:pc} {o:Obj} {xs:List V} (e:H a=lH (.frz o (.lst xs))):pL K H (.ref a) (.type "list")
 | tup {a:pc} {xs:List V} (e:H a=lH (.tup xs)):pL K H (.ref a) (.type "tuple")
 | dK {a:pc} {kvs:List (Key×V)} (e:H a=lH (.dK kvs)):pL K H (.ref a) (.type "dict")
 | dT {a:pc} {kvs:List (List Key×V)} (e:H a=lH (.dT kvs)):pL K H (.ref a) (.type "dict")
 | ins {a C dx:pc} {fs:List (Str×V)} (e:H a=lH (.ins C dx fs)) (cl:Cls K C) (ha:IG K (.ref C) "__class__" =lH (lH (.builtin "object.__class__")))
  (hn:Vd K (.builtin "object.__class__") "__get__" =lH (lH (.builtin "getset_descriptor.__get__"))) (htk:PySem.W.takesIn K (.builtin "object.__class__")=lH on)
  (hm:PySem.W.mroIn K C (.type "object")=lH on):pL K H (.ref a) (.ref C)
end
structure eR(k:Nat)(A:KE):Prop where
 hd:A.handled=na
 dp:A.depth+3*k+5<recursionLimit
 un:A.units+16*k+200<cLine
theorem eR.mono{j k:Nat}(r:eR k A)(h:j<=k):eR j A:=#[r.hd,by have:=r.dp;omega,by have:=r.un;omega]
theorem eR.deeper(r:eR (k+1) A)(env:Env):eR k (A.deeper env):=
 #[r.hd,by have:=r.dp;show A.depth+1+3*k+5<_;omega,by have:=r.un;show A.units+3+16*k+200<_;omega]
theorem G5:(A.under (.builtin "type.__call__" #[.ref C::us,kw])).depth=A.depth+1:=by first | rfl | simp[Around.under,Code.weight,Code.isCreation,Code.isGuard,Code.isCaller,Code.frames,Code.isFrame,guardIds]
theorem GX:(A.under (.builtin "type.__call__" #[.ref C::us,kw])).units=A.units+1:=by first | rfl | simp[Around.under,Code.cUnits,Code.frames,Code.isFrame]
theorem eR.make(r:eR (k+1) A)(C:pc)(us:List ol)(kw:List (Str×ol)):eR k (A.under (.builtin "type.__call__" #[.ref C::us,kw])):=
 #[r.hd,by have:=r.dp;rw[G5];omega,by have:=r.un;rw[GX];omega]
theorem eR.depth(r:eR k A):A.depth<recursionLimit:=by have:=r.dp;omega
theorem eR.units(r:eR k A):A.units+64<cLine:=by have:=r.un;omega
def p7:TA:=λ_ H Q=>Q [] H
def mj(ta:TE)(U:TA):TA:=λσ H Q=>ta σ H λx H1=>U σ H1 λxs H2=>Q (x::xs) H2
section
variable {X : Cx} {e : Do} {es : List Do} {te : TE} {t : TA} {pos : Pos}
theorem av:PA X [] p7:=λ_ _ _ _ H Q I h=>Calls.spliced_nil #[[],H,I,.nil,h]
theorem ah(ha:PE X e te)(hr:PA X es t)(hs:starEach (e::es) X.env=(tt,eval e X.env)::starEach es X.env:=by rfl):PA X (e::es) (mj te t):=by intro pos pins s σ H Q I h;rw[hs];show wpAny _ _ (spliced ((tt,eval e X.env)::backTo pos (starEach es X.env))) _ _ s;refine Calls.spliced_cons (thn (ha pins s σ H _ I h) λu s1 #[x,H1,I1,r1,q1]=> ?_);exact thn (hr pos pins s1 σ H1 _ I1 q1) λus s2 #[xs,H2,I2,r2,q2]=>#[x::xs,H2,I2,.cons r1 r2,q2]
def Nh(t:TA):TE:=λσ H Q=>t σ H λxs H1=>xs.length<=sizeLine/\∀p,H1 p=na->Q (.ref p) (upd H1 p (.tup xs))
def CV(t:TA):TE:=λσ H Q=>t σ H λxs H1=>xs.length<=sizeLine/\∀p,H1 p=na->Q (.ref p) (upd H1 p (.lst xs))
theorem gK{x1}(h:PA X es t):PE X (.Tuple es x1 pos) (Nh t):=by intro pins s σ H Q I hq;refine wpAny_Tuple_spliced (thn (h pos pins s σ H _ I hq) λus s1 #[xs,H1,I1,r,z,q]=>#[by rw[<- r.length];exact z, ?_]);have U:H1 s1.heap.objs.size=none:=I1.hok.fresh (ut _);refine#[.ref s1.heap.objs.size,upd H1 s1.heap.objs.size (.tup xs),I1.laid (t':=s1.toks) (λb u e=>Heap.get?_push_of_some _ e) (ut _) ?_,rfl,q _ U];exact#[z,us,r,#[_,Heap.get?_push_size _ rfl,rfl,_,rfl]]
theorem eE(h:PA X es t):PE X (.List es pos) (CV t):=by intro pins s σ H Q I hq;refine wpAny_List_spliced (thn (h pos pins s σ H _ I hq) λus s1 #[xs,H1,I1,r,z,q]=>#[by rw[<- r.length];exact z, ?_]);have U:H1 s1.heap.objs.size=none:=I1.hok.fresh (ut _);refine#[.ref s1.heap.objs.size,upd H1 s1.heap.objs.size (.lst xs),I1.laid (t':=s1.toks) (λb u e=>Heap.get?_push_of_some _ e) (ut _) ?_,rfl,q _ U];exact#[z,us,0,r,Heap.get?_push_size _ rfl]
end
abbrev Sp:=List V->Hp->VK->XK->Prop
abbrev CXT:=List Env->Hp->r0->XK->ol->r0->Prop
structure uG(P:AC)(w:Db)(K:qh)(mg:Str->Option ol)(base:Gc)(A:KE)(outer:List Env)(s:r0)(H:Hp):Prop where
 frames:A.frames=lH outer
 mod:Mod K mg base
 bs:∀b o,base.get? b=lH o->s.heap.get? b=lH o/\H b=na
 bsz:base.objs.size<=s.heap.objs.size
 funs:s.heap.FunFrames base outer
 frf:∀b∈frs outer,H b=na
 hok:HOk P w H s.heap
 bare:Tk s.gens
def CE(outer:List Env)(P:AC)(w:Db)(H:Hp)(s:r0)(Q:VK)(u:ol)(s':r0):Prop:=
 ∃v H',s'.os=s.os/\Tk s'.gens/\Un (frs outer) [] H H' s.heap s'.heap/\HOk P w H' s'.heap/\RelV v u/\Q v H'
def CR(CX:CXT)(outer:List Env)(P:AC)(w:Db)(H:Hp)(s:r0)(Q:VK)(E:XK)(r:U2)(s':r0):Prop:=
 match r with
 | .ok (.ret u)=>CE outer P w H s Q u s'
 | .ok _=>False
 | .error e=>CX outer H s E e s'
structure kb(P:AC)(w:Db)(K:qh)(mg:Str->Option ol)(base:Gc)(CX:CXT)(k:Nat)(f:pc)(fd:RB)(ps:List Str)(sp:Sp):Prop where
 len:∀vs H Q E,sp vs H Q E->vs.length=ps.length
 run:∀(A:KE) (outer:List Env) (s:r0) (H:Hp) (args:Args) (us:List ol) (vs:List V) (Q:VK) (E:XK),eR k A->uG P w K mg base A outer s H->TY s fd args (ps.zip us)->Vals vs us->sp vs H Q E->
  codeAny (model P w) A (.call (.ref f) args) (CR CX outer P w H s Q E) s
theorem uG.make{outer:List Env}(e:uG P w K mg base A outer s H)(C:pc)(us:List ol)(kw:List (Str×ol)):
 uG P w K mg base (A.under (.builtin "type.__call__" #[.ref C::us,kw])) outer s H:=#[by first | exact e.frames | (simpa[Around.under,Code.envs,Code.isFrame,pushEnvs] using e.frames),e.mod,e.bs,e.bsz,e.funs,e.frf,e.hok,e.bare]
section
variable {X : Cx} {pins : List (pc × Obj)} {σ : St} {H : Hp} {s s' : r0}
theorem Inv.env0(I:Inv X pins σ H s):uG X.prog X.w X.K X.mg X.base X.A X.stack s H:=
 #[I.ok.frames,I.ok.mod,I.bs,IR I.ok.bsz I.sz,I.stack,I.stkFree,I.hok,I.bare]
theorem Inv.after{Q:VK}(I:Inv X pins σ H s)(h:CE X.stack X.prog X.w H s Q u s'):EP X pins σ Q u s':=by obtain⟨v,H',os,U,un,Y,r,q⟩:=h;obtain⟨hh,g,d,t,ab⟩:=s';obtain rfl:ab=s.os:=os;exact#[v,H',I.call (h':=hh) (g':=g) (d':=d) (t':=t) (ch:=[]) un Y U (λb z=>absurd z (by simp)),r,q]
end
def tG(sp:Sp)(dvs:List V)(E:XK)(t:TA):TE:=λσ H Q=>t σ H λvs H1=>sp (vs++dvs) H1 Q E
def Hg(C:pc)(m:Str)(sp:Sp)(dvs:List V)(E:XK)(ta:TE)(t:TA):TE:=λσ H Q=>ta σ H λx H1=>∃a dx fs,x=.ref a/\H1 a=lH (.ins C dx fs)/\fs.lookup m=na/\
 t σ H1 λvs H2=>sp (x::(vs++dvs)) H2 Q E
def Lp(C:pc)(sp:Sp)(dvs:List V)(E:XK)(t:TA):TE:=λσ H Q=>t σ H λvs H1=>∀x dx,H1 x=na->H1 dx=na->dx≠x->
 sp (.ref x::(vs++dvs)) (upd (upd H1 dx (.own x)) x (.ins C dx [])) (λv H2=>v=.non/\Q (.ref x) H2) E
def Binds(K:qh)(fd:RB)(ps:List Str)(ds:List ol):Prop:=
 ∀(s:r0) (us:List ol),K.In s.heap->(us++ds).length=ps.length->TY s fd #[us,[]] (ps.zip (us++ds))
theorem Binds.all{fd:RB}{ps:List Str}(h:∀us:List ol,us.length=ps.length->bindArgs fd #[us,[]]=pure (ps.zip us)):Binds K fd ps []:=λs us _ U=>by rw[RT] at U ⊢;exact .of_eq (h us U)
def Passes(CX:CXT)(X:Cx)(E:XK):Prop:=∀(pins:List (pc×Obj)) (σ:St) (H:Hp) (s:r0) (e:ol) (s':r0),Inv X pins σ H s->CX X.stack H s E e s'->X.xe e s'
section
variable {X : Cx} {CX : CXT} {k : Nat} {f C : pc} {fd : RB} {ps : List Str} {sp : Sp} {dvs : List V} {ds : List ol} {E : XK} {x m : Str} {p pos apos : Pos} {e o : Do} {es : List Do} {ta : TE} {t : TA}
theorem Er {pins:List (pc×Obj)} {σ:St} {H:Hp} {s:r0} {Q:VK} {us:List ol} {vs:List V} (F:kb X.prog X.w X.K X.mg X.base CX k f fd ps sp) (hr:eR k X.A) (hb:Binds X.K fd ps ds) (hd:Vals dvs ds) (hx:Passes CX X E)
 (I:Inv X pins σ H s) (r:Vals vs us) (h:sp (vs++dvs) H Q E):wpAny (model X.prog X.w) X.A (call (.ref f) us) (EP X pins σ Q) X.xe s:=by
 have r2:Vals (vs++dvs) (us++ds):=r.append hd;have U:(us++ds).length=ps.length:=by rw[<- r2.length];exact F.len _ _ _ _ h
 refine wpAny_call (Uu (F.run X.A X.stack s H #[us,[]] (us++ds) (vs++dvs) Q E hr I.env0 (hb s us I.kIn U) r2 h) λr s' hq=> ?_);cases r with
 | error e=>exact hx pins σ H s e s' I hq
 | ok Y=>
  cases Y with
  | ret u=>exact I.after hq
  | next=>exact pi hq
  | brk=>exact pi hq
  | cont=>exact pi hq
theorem MU (F:kb X.prog X.w X.K X.mg X.base CX k f fd ps sp) (hr:eR k X.A) (hg:Gl X x) (hm:X.mg x=lH (.ref f)) (hk:Rm X.K (.ref f)=on) (hb:Binds X.K fd ps ds) (hd:Vals dvs ds) (hx:Passes CX X E)
 (ha:PA X (e::es) t) (U:(x == ("__debug__" :Str))=false:=by decide) (he:starEach (e::es) X.env=(tt,eval e X.env)::starEach es X.env:=by rfl) (Y:(backTo pos (starEach es X.env)).any (·.1)=false:=by rfl):
 PE X (.Call (.Name x p) (e::es) [] pos) (tG sp dvs E t):=by
 intro pins s σ H Q I h;refine Tg (zQ I hg hm ?_ U);refine T5 (h₀:=X.base) I.ok.mod.kin hk (thn (ha pos pins s σ H _ I h) λus s1 #[vs,H1,I1,r,q]=>#[I1.kIn, ?_]) he Y;exact Er F hr hb hd hx I1 r q
theorem Mw {pl:Sem Bool} (he:PE X o ta) (c:Cls X.K C) (hm:Meth X.K C m f) (F:kb X.prog X.w X.K X.mg X.base CX k f fd ps sp) (hr:eR k X.A) (hb:Binds X.K fd ps ds) (hd:Vals dvs ds) (hx:Passes CX X E) (ha:PA X (e::es) t)
 (U:starEach (e::es) X.env=(tt,eval e X.env)::starEach es X.env:=by rfl) (Y:(backTo pos (starEach es X.env)).any (·.1)=false:=by rfl)
 (ht:eval (.Call (.Attribute o m apos) (e::es) [] pos) X.env=(do
  let ov <- eval o X.env
  standAt apos.atName
  let (f,first) <- holding [ov] (getMethod ov m pl)
  callWith pos f first (backTo pos (starEach (e::es) X.env)) (backToKw pos (keywordEach [] X.env))):=by rfl):
 PE X (.Call (.Attribute o m apos) (e::es) [] pos) (Hg C m sp dvs E ta t):=by
 intro pins s σ H Q I h;refine Tw (pl:=pl) (thn (he pins s σ H _ I h) λu s1 #[x,H1,I1,rx,a,dx,fs,ex,ea,l,q]=> ?_) ht;subst ex;obtain rfl:u=Value.ref a:=rx;refine ug I1 ea c hm l ?_;refine T5 (first:=[.ref a]) (h₀:=X.base) I.ok.mod.kin hm.kp (thn (ha pos pins s1 σ H1 _ I1 q) λus s2 #[vs,H2,I2,r,q2]=>#[I2.kIn, ?_]) U Y;exact Er (us:=.ref a::us) (vs:=.ref a::vs) F hr hb hd hx I2 (.cons rfl r) q2
theorem mP {pl:Sem Bool} (Y:PE X o ta) (c:Cls X.K C) (hm:Meth X.K C m f) (F:kb X.prog X.w X.K X.mg X.base CX k f fd ps sp) (hr:eR k X.A) (hb:Binds X.K fd ps ds) (hd:Vals dvs ds) (hx:Passes CX X E)
 (ht:eval (.Call (.Attribute o m apos) [] [] pos) X.env=(do
  let U <- eval o X.env
  standAt apos.atName
  let (f,first) <- holding [U] (getMethod U m pl)
  callWith pos f first (backTo pos (starEach [] X.env)) (backToKw pos (keywordEach [] X.env))):=by rfl):
 PE X (.Call (.Attribute o m apos) [] [] pos) (Hg C m sp dvs E ta p7):=by
 intro pins s σ H Q I h;refine Tw (pl:=pl) (thn (Y pins s σ H _ I h) λu s1 #[x,H1,I1,rx,a,dx,fs,ex,ea,l,q]=> ?_) ht;subst ex;obtain rfl:u=Value.ref a:=rx;refine ug I1 ea c hm l ?_;exact PySem.W.callWith_K0 (first:=[.ref a]) I1.kIn hm.kp (Er (us:=[.ref a]) (vs:=[.ref a]) F hr hb hd hx I1 (.cons rfl .nil) q)
structure Mk(K:qh)(C f:pc):Prop where
 makes:UC K C=on
 init:IG K (.ref C) "__init__" =lH (lH (.ref f))
 fn:SY K (.ref f)=on
 kp:Rm K (.ref C)=on
theorem JV {pins:List (pc×Obj)} {σ:St} {H:Hp} {s:r0} {Q:VK} {us:List ol} {vs:List V} (M:Mk X.K C f) (F:kb X.prog X.w X.K X.mg X.base CX k f fd ps sp) (hr:eR (k+1) X.A) (hb:Binds X.K fd ps ds) (hd:Vals dvs ds)
 (hx:Passes CX X E) (I:Inv X pins σ H s) (r:Vals vs us)
 (h:∀x dx,H x=na->H dx=na->dx≠x->sp (.ref x::(vs++dvs)) (upd (upd H dx (.own x)) x (.ins C dx [])) (λv H2=>v=.non/\Q (.ref x) H2) E):
 wpAny (model X.prog X.w) X.A (call (.ref C) us) (EP X pins σ Q) X.xe s:=by
 have hq:=h (s.heap.objs.size+1) s.heap.objs.size (I.hok.fresh (T3 _)) (I.hok.fresh (ut _)) (FS (Tt _));have U:=Inv.made (C:=C) I;have r2:Vals (V.ref (s.heap.objs.size+1)::(vs++dvs)) (Value.ref (s.heap.objs.size+1)::(us++ds)):=.cons rfl (r.append hd);have Y:(Value.ref (s.heap.objs.size+1)::us++ds).length=ps.length:=by have e:=r2.length;rw[F.len _ _ _ _ hq] at e;exact e.symm
 refine wpAny_call (Km (f:=f) I.kIn M.makes M.init (beq_iff_eq.mp M.fn) (Uu (F.run _ X.stack _ _ #[Value.ref (s.heap.objs.size+1)::us,[]] (Value.ref (s.heap.objs.size+1)::(us++ds)) _ _ E (hr.make C us [])
  (U.env0.make C us []) (hb _ (Value.ref (s.heap.objs.size+1)::us) U.kIn Y) r2 hq) λr s' hq'=> ?_))
 cases r with
 | error e=>exact hx pins σ _ _ e s' U hq'
 | ok fl=>
  cases fl with
  | ret u=>
   obtain⟨v,H',I3,rv,ev,q3⟩:=U.after hq';subst ev;exact#[rv,#[V.ref (s.heap.objs.size+1),H',I3,rfl,q3]]
  | next=>exact pi hq'
  | brk=>exact pi hq'
  | cont=>exact pi hq'
theorem L3 (M:Mk X.K C f) (F:kb X.prog X.w X.K X.mg X.base CX k f fd ps sp) (hr:eR (k+1) X.A) (hg:Gl X x) (hm:X.mg x=lH (.ref C)) (hb:Binds X.K fd ps ds) (hd:Vals dvs ds) (hx:Passes CX X E)
 (ha:PA X (e::es) t) (U:(x == ("__debug__" :Str))=false:=by decide) (he:starEach (e::es) X.env=(tt,eval e X.env)::starEach es X.env:=by rfl) (Y:(backTo pos (starEach es X.env)).any (·.1)=false:=by rfl):
 PE X (.Call (.Name x p) (e::es) [] pos) (Lp C sp dvs E t):=by
 intro pins s σ H Q I h;refine Tg (zQ I hg hm ?_ U);refine T5 (h₀:=X.base) I.ok.mod.kin M.kp (thn (ha pos pins s σ H _ I h) λus s1 #[vs,H1,I1,r,q]=>#[I1.kIn, ?_]) he Y;exact JV M F hr hb hd hx I1 r q
end
section
variable {X : Cx} {CX : CXT} {k : Nat} {f C : pc} {fd : RB} {ps ks : List Str} {sp : Sp} {E : XK} {x m : Str} {p pos apos kpos : Pos} {e o : Do} {es : List Do} {kws : List Keyword} {te ta : TE} {t tk : TA} {nm : Option Str}
structure QV(K:qh)(fd:RB)(ps ks:List Str)(g:List ol->List ol->List ol)(gV:List V->List V->List V):Prop where
 to:∀(s:r0) (us ws:List ol),K.In s.heap->(g us ws).length=ps.length->TY s fd #[us,ks.zip ws] (ps.zip (g us ws))
 rel:∀{vs:List V} {us:List ol} {zs:List V} {ws:List ol},Vals vs us->Vals zs ws->Vals (gV vs zs) (g us ws)
variable {g : List ol → List ol → List ol} {gV : List V → List V → List V}
end
structure a7(N P:List Str)(sc:Sj):Prop where
 kind:sc.kind=.function
 co:sc.isCoroutine=tt
 gen:sc.isGenerator=tt
 nd:N.Nodup
 pre:N.take P.length=P
 par:∀x∈P,sc.names.lookup x=lH .local\/sc.names.lookup x=lH .cell
 nofree:∀y∈sc.names,y.2≠ .free
theorem AF{kindOf:Str->Option RV}{x:Str}:∀{binds:List (Str×ol)} {m:Str->Option ol},(∀v,(x,v)∉binds)->bindL kindOf binds m x=m x
 | [],_,_=>rfl
 | (n,v)::r,m,h=>by
  unfold bindL;rw[AF λw U=>h w (sB _ U)];split;have:x≠n:=by rintro rfl;exact h v sH
  simp[this];rfl
theorem BK{kindOf:Str->Option RV}{x:Str}:∀{binds:List (Str×ol)} {m:Str->Option ol},(∀v,(x,v)∉binds)->bindC kindOf binds m x=m x
 | [],_,_=>rfl
 | (n,v)::r,m,h=>by
  unfold bindC;rw[BK λw U=>h w (sB _ U)];split;rfl;have:x≠n:=by rintro rfl;exact h v sH
  simp[this]
theorem AU{kindOf:Str->Option RV}{x:Str}{v:ol}:∀{P:List Str} {vs:List ol} {i:Nat} {m:Str->Option ol},P.Nodup->P[i]? =lH x->vs[i]? =lH v->kindOf x=lH .local->
 bindL kindOf (P.zip vs) m x=lH v
 | [],_,_,_,_,h,_,_=>by simp at h
 | _::_,[],_,_,_,_,h,_=>by simp at h
 | p::P,w::vs,0,m,nd,h1,h2,hk=>by simp at h1 h2;subst h1;subst h2;show bindL kindOf ((p,w)::P.zip vs) m p=_;unfold bindL;rw[AF λv U=>(RK.mp nd).1 (Rk U).1,if_pos hk];simp
 | p::P,w::vs,i+1,m,nd,h1,h2,hk=>by show bindL kindOf ((p,w)::P.zip vs) m x=_;unfold bindL;exact AU (i:=i) (RK.mp nd).2 (by simpa using h1) (by simpa using h2) hk
theorem Bo{kindOf:Str->Option RV}{x:Str}{v:ol}:∀{P:List Str} {vs:List ol} {i:Nat} {m:Str->Option ol},P.Nodup->P[i]? =lH x->vs[i]? =lH v->kindOf x≠lH .local->
 bindC kindOf (P.zip vs) m x=lH v
 | [],_,_,_,_,h,_,_=>by simp at h
 | _::_,[],_,_,_,_,h,_=>by simp at h
 | p::P,w::vs,0,m,nd,h1,h2,hk=>by simp at h1 h2;subst h1;subst h2;show bindC kindOf ((p,w)::P.zip vs) m p=_;unfold bindC;rw[BK λv U=>(RK.mp nd).1 (Rk U).1,if_neg hk];simp
 | p::P,w::vs,i+1,m,nd,h1,h2,hk=>by show bindC kindOf ((p,w)::P.zip vs) m x=_;unfold bindC;exact Bo (i:=i) (RK.mp nd).2 (by simpa using h1) (by simpa using h2) hk
def start(N:List Str)(vs:List V):St:=vs.map lH++ux (N.length-vs.length) na
def vE(CX:CXT)(P:AC)(w:Db)(K:qh)(mg:Str->Option ol)(base:Gc)(N:List Str)(qual:Str)(scope:Sj)(f:pc)(cd:ol)(A:KE)(outer:List Env)(s:r0)(H:Hp)(E:XK):Cx where
 prog:=P
 w:=w
 K:=K
 mg:=mg
 base:=base
 A:=A.deeper (envOfC qual scope s.heap.objs.size f cd)
 N:=N
 s₀:=s
 H₀:=H
 env:=envOfC qual scope s.heap.objs.size f cd
 outer:=outer
 stack:=envOfC qual scope s.heap.objs.size f cd::outer
 ex:=[]
 calm:=true
 fn:=λ_=>on
 pn:=[]
 xe:=λe s'=>wpAny (model P w) (A.deeper (envOfC qual scope s.heap.objs.size f cd)) (leaving (envOfC qual scope s.heap.objs.size f cd) e) (λ_ s''=>CX outer H s E e s'') (λe' s''=>CX outer H s E e' s'') s'
theorem DB{sc:Sj}{n:Nat}(h:sc.names.lookup x=lH .cell):∃c,(cellsFrom n sc.names []).lookup x=lH c:=by have q:=SO sc.names n [] (.inl h);exact Uw.mp q
theorem IE {CX:CXT} {P:AC} {w:Db} {K:qh} {mg:Str->Option ol} {base:Gc} {N ps:List Str} {qual:Str} {scope:Sj} {f:pc} {cd:ol} {A:KE} {outer:List Env} {s s1:r0} {H:Hp} {E:XK} {us:List ol} {vs:List V}
 (S:a7 N ps scope) (hd:A.handled=na) (U:uG P w K mg base A outer s H) (hl:vs.length=ps.length) (r:Vals vs us)
 (x:InCallC s s.heap.objs.size (bindL (envOfC qual scope s.heap.objs.size f cd).kindOf (ps.zip us) λ_=>na) (cellsFrom (s.heap.objs.size+1) scope.names []) (bindC (envOfC qual scope s.heap.objs.size f cd).kindOf (ps.zip us) λ_=>na) s1):
 Inv (vE CX P w K mg base N qual scope f cd A outer s H E) [] (start N vs) H s1:=by
 have ac:ps.length<=N.length:=by have:=congrArg S7 S.pre;rw[Su] at this;omega
 obtain⟨h1,tk,rfl,hk⟩:=x.done;have Y:∀b:pc,b∉(vE CX P w K mg base N qual scope f cd A outer s H E).ex:=λb z=>absurd (show b∈([]:List pc) from z) (by simp);refine#[#[U.mod,S.kind,rfl,rfl,ut _,λy z c h1 h2=> ?_,λy hy=> ?_,λy c _ h=> ?_,λ_=>hd,Around.frames_deeper U.frames,.inr #[rfl,rfl],λb z=>absurd z (Y b),U.bs,U.bsz,λb _ _=>Y b,λb z=>absurd z (Y b),U.funs,U.frf],
  rfl,U.bare,Un.kept hk,#[_,x.toInCall.ns,λi y v h1 h2 h3=> ?_],λy c h=>#[_,x.cell y c h],U.hok.fresh (ut _),λy c h=> ?_,λp hp=>absurd (show p∈([]:List (pc×Obj)) from hp) (by simp),U.hok.kept hk, ?_]
 exact name_of_addr x.apart (Sy h1) (Sy h2);have hy:scope.names.lookup y=lH .cell\/scope.names.lookup y=lH .free:=hy;rcases hy with hy | hy
 exact DB hy;exact absurd rfl (S.nofree _ (Sy hy));exact R9 (x.above y c (Sy h));have hi:i<vs.length:=by unfold start at h2;by_cases hi:i<vs.length;exact hi;rw[wE (by simpa using hi)] at h2;rw[G2] at h2;split at h2 <;> cases h2
 have ha:vs[i]? =lH v:=by
  unfold start at h2;rw[wv (by simpa using hi),wP] at h2;cases e:vs[i]? with
  | none=>rw[e] at h2;cases h2
  | some a=>rw[e] at h2;cases h2;rfl
 obtain⟨u,hu,rv⟩:=r.get ha;have hp:ps[i]? =lH y:=by rw[<- S.pre,Uq ⋯];exact h1
 have ab:ps.Nodup:=by rw[<- S.pre];exact S.nd.sublist (U5 _ _)
 refine#[u,rv, ?_];rcases S.par y (IN hp) with k | k
 exact .inl #[k,AU ab hp hu k];obtain⟨c,e⟩:=DB (n:=s.heap.objs.size+1) k;refine .inr #[.inl k,c,e, ?_];have q:=x.cell y c e;rw[Bo ab hp hu (by show scope.names.lookup y≠_;rw[k];decide)] at q;exact q;exact U.hok.fresh (R9 (x.above y c (Sy h)));unfold start;show _=N.length;rw[x0,ss,SU];omega
theorem ON {CX:CXT} {P:AC} {w:Db} {K:qh} {mg:Str->Option ol} {base:Gc} {k:Nat} {f:pc} {name qual:Str} {Y:Arguments} {body:List SX} {scope:Sj} {dV kV am pm U ct oc:ol} {an od:Option pc}
 {a1:Array (Option ol)} {N ps:List Str} {sp:Sp} (lk:K.lookup f=lH #[oc,od,.func (PP name qual Y body scope dV kV am pm an U ct),a1]) (a2:RO K U qual=on) (S:a7 N ps scope)
 (ap:∀vs H Q E,sp vs H Q E->vs.length=ps.length)
 (ac:∀(A:KE) (outer:List Env) (s:r0) (H:Hp) (vs:List V) (Q:VK) (E:XK),eR k (A.deeper (envOfC qual scope s.heap.objs.size f U))->sp vs H Q E->
  ∃t,PSs (vE CX P w K mg base N qual scope f U A outer s H E) body t/\t {nx:=λ_ H'=>Q .non H',rt:=Q} (start N vs) H):
 kb P w K mg base CX (k+1) f (PP name qual Y body scope dV kV am pm an U ct) ps sp:=by
 refine#[ap,λA outer s H args us vs Q E hr e0 hb r az=> ?_];have hl:=ap _ _ _ _ az;have KX:K.In s.heap:=e0.mod.kin.keeps λb o e=>(e0.bs b o e).1;have a3:s.heap.NoLimit:=e0.mod.nolimit.keeps λb o e=>(e0.bs b o e).1;have al:∀y∈ps.zip us,scope.names.lookup y.1=lH .local\/(scope.names.lookup y.1=lH .cell/\((cellsFrom (s.heap.objs.size+1) scope.names []).lookup y.1).isSome=on):=λ#[n,v] hy=>by rcases S.par n (Rk hy).1 with q | q;exact .inl q;exact .inr #[q,SO _ _ _ (.inl q)]
 refine codeAny_call_function hr.depth (KX _ _ lk) rfl S.co S.gen rfl (PySem.W.codeRec_of KX a2) (hb _ _ _ _ ?_);refine wpAny_newFunctionEnv_cells S.kind al λenv he s1 x=> ?_;subst he;refine#[a3.keeps x.toInCall.keep,codeAny_func ?_];obtain⟨t,ht,hq⟩:=ac A outer s H vs Q E (hr.deeper _) az;have I:Inv (vE CX P w K mg base N qual scope f U A outer s H E) [] (start N vs) H s1:=IE S hr.hd e0 hl r x;refine R8 (ht [] s1 (start N vs) H _ I hq) (λfl s' hs=> ?_) λe s' hs=>hs;have a0:∀{ab:St} {H':Hp} {v:V} {u:ol},Inv (vE CX P w K mg base N qual scope f U A outer s H E) [] ab H' s'->RelV v u->Q v H'->CE outer P w H s Q u s':=
  λ{ab H' v u} J rv q=>#[v,H',J.os,J.bare,J.base,J.hok,rv,q]
 cases fl with
 | ret u=>
  obtain⟨v,ab,H',J,rv,q⟩:=hs;exact a0 J rv q
 | next=>
  obtain⟨ab,H',J,q⟩:=hs;exact a0 (v:=V.non) (u:=Value.none) J rfl q
 | brk=>
  obtain⟨_,_,_,q⟩:=hs;exact pi q
 | cont=>
  obtain⟨_,_,_,q⟩:=hs;exact pi q
section
variable {X : Cx} {x : Str} {p pos : Pos} {e : Do} {es : List Do} {t : TA} {id T : String} {r : List V → Hp → VK → Prop}
def tCB(r:List V->Hp->VK->Prop)(t:TA):TE:=λσ H Q=>t σ H λvs H1=>r vs H1 Q
theorem bP (hc:nt X (.builtin id) r) (hg:Gl X x) (hm:X.mg x=na) (hv:bootBuiltins x=lH (.builtin id)) (ha:PA X (e::es) t) (hn:x≠"__name__" :=by decide) (U:(x == ("__debug__" :Str))=false:=by decide)
 (he:starEach (e::es) X.env=(tt,eval e X.env)::starEach es X.env:=by rfl) (Y:(backTo pos (starEach es X.env)).any (·.1)=false:=by rfl):PE X (.Call (.Name x p) (e::es) [] pos) (tCB r t):=by
 intro pins s σ H Q I h;refine Tg (pM I hg hm hv ?_ hn U);exact PyProof.Rows.callWith_builtin1 (thn (ha pos pins s σ H _ I h) λus s1 #[vs,H1,I1,r1,q1]=>hc pins s1 σ H1 vs us Q I1 r1 q1) he Y
theorem nK (hc:nt X (.type T) r) (hg:Gl X x) (hm:X.mg x=na) (hv:bootBuiltins x=lH (.type T)) (ha:PA X (e::es) t) (hn:x≠"__name__" :=by decide) (U:(x == ("__debug__" :Str))=false:=by decide)
 (he:starEach (e::es) X.env=(tt,eval e X.env)::starEach es X.env:=by rfl) (Y:(backTo pos (starEach es X.env)).any (·.1)=false:=by rfl):PE X (.Call (.Name x p) (e::es) [] pos) (tCB r t):=by
 intro pins s σ H Q I h;refine Tg (pM I hg hm hv ?_ hn U);exact RI (thn (ha pos pins s σ H _ I h) λus s1 #[vs,H1,I1,r1,q1]=>hc pins s1 σ H1 vs us Q I1 r1 q1) he Y
end
end L2
namespace HT
open PySem PyProof.Rows
def lexLt:List Int->List Int->Bool
 | [],[]=>tt
 | [],_::_=>on
 | _::_,[]=>tt
 | x::xs,y::ys=>if x=y then lexLt xs ys else decide (x<y)
theorem oV(x y:Int)(xs ys:List Int):lexLt (x::xs) (y::ys)=if x=y then lexLt xs ys else decide (x<y):=rfl
theorem Ju(A:KE)(s:r0)(a:Int)(t:Tok)(c:Int)(u:Tok):∃e,SeqAt.EqAt A s (.int a t) (.int c u) e/\(e=on↔a=c):=
 #[(a == c),SeqAt.EqAt.int_int a t c u,by simp]
theorem JY(A:KE)(s:r0)(a:Int)(t:Tok)(c:Int)(u:Tok)(prog:AC)(w:Db)(E:ol->r0->Prop)(Q:ol->r0->Prop)(h:Q (.bool (decide (a<c))) s):
 wpAny (model prog w) A (richCompare .Lt (.int a t) (.int c u)) Q E s:=
 (VM h:wpAny (model prog w) A (compareOp .Lt (.int a t) (.int c u)) Q E s)
section
open PySem.SeqAt
open PySem.AutoSeq1 (wpAny_loadPart')
open PySem.MeetsSeq PySem.MeetsSeq2 PySem.MeetsSeq3
end
section
variable {prog : AC} {w : Db} {A : KE} {E : ol → r0 → Prop} {s : r0}
def sIx(n d:Nat):Option Int->Nat
 | none=>d
 | some v=>if v<0 then (v+(n:Int)).toNat else min v.toNat n
theorem uj(n d:Nat):sIx n d na=d:=rfl
theorem o4(n d k:Nat):sIx n d (lH (k:Int))=min k n:=by show (if (k:Int)<0 then ((k:Int)+(n:Int)).toNat else min (k:Int).toNat n)=min k n;rw[if_neg ⋯,U7]
theorem NH{n d:Nat}(hd:d<=n)(o:Option Int):sIx n d o<=n:=by
 cases o with
 | none=>exact hd
 | some v=>
  show (if v<0 then (v+(n:Int)).toNat else min v.toNat n)<=n;by_cases U:v<0;rw[if_pos U];omega;rw[if_neg U];exact Nat.min_le_right _ _
theorem Ga(v:Int)(n d:Nat):(if v<0 then max (v+(n:Int)) 0 else min v (n:Int))=((sIx n d (lH v):Nat):Int):=by show (if v<0 then max (v+(n:Int)) 0 else min v (n:Int))=(((if v<0 then (v+(n:Int)).toNat else min v.toNat n):Nat):Int);by_cases U:v<0;simp only[if_pos U];omega;simp only[if_neg U];omega
theorem Gj(lo hi:Option Int)(n:Nat):Builtin.Slice.sliceAdjust lo hi 1 (n:Int)=(((sIx n 0 lo:Nat):Int),((sIx n n hi:Nat):Int)):=by
 have h1:¬((1:Int)<0):=⋯;unfold Builtin.Slice.sliceAdjust;simp only[h1,if_false];refine VQ ?_ ?_;cases lo with
 | none=>rfl
 | some v=>exact Ga v n 0
 cases hi with
 | none=>rfl
 | some v=>exact Ga v n n
theorem GW{i j:Nat}:Builtin.Slice.slicePlaces (i:Int) (j:Int) 1=j-i:=by unfold Builtin.Slice.slicePlaces;have h1:(1:Int)>0:=⋯;simp only[h1,if_true,Int.ediv_one];split <;> omega
theorem zp{v:ol}{o:Option Int}{Q:Option Int->r0->Prop}(p:T4 v o)(h:Q o s):wpAny (model prog w) A (Builtin.Slice.slicePartIndex v) Q E s:=by
 cases p with
 | none=>exact slicePart_none h
 | int i t=>exact slicePart_int h
theorem yo {sl:pc} {vl vu:ol} {lo hi:Option Int} {n:Nat} {Q:Int×Int×Nat->r0->Prop} (hs:s.heap.IsSliceOf sl vl vu .none) (pl:T4 vl lo) (pu:T4 vu hi)
 (h:Q (((sIx n 0 lo:Nat):Int),1,sIx n n hi-sIx n 0 lo) s):wpAny (model prog w) A (Builtin.Slice.sliceApplied (.ref sl) (pure (n:Int))) Q E s:=by
 obtain⟨os,U,am,Y⟩:=id hs;unfold Builtin.Slice.sliceApplied Builtin.Slice.sliceFields;refine u8 (u8 (Vg U Y (x:=vl) rfl (u8 (Vg U Y (x:=vu) rfl (u8 (Vg U Y (x:=.none) rfl (BG ?_)))))));refine u8 (slicePart_none ?_);show wpAny _ _ (if ((1:Int) == 0)=on then _ else _) _ _ s;rw[if_neg ∅];refine u8 (zp pl (u8 (zp pu (u8 (BG ?_)))));show wpAny _ _ (match Builtin.Slice.sliceAdjust lo hi 1 (n:Int) with | (lo,hi)=>pure (lo,(1:Int),Builtin.Slice.slicePlaces lo hi 1)) _ _ s;rw[Gj lo hi n];show wpAny _ _ (pure (((sIx n 0 lo:Nat):Int),(1:Int),Builtin.Slice.slicePlaces ((sIx n 0 lo:Nat):Int) ((sIx n n hi:Nat):Int) 1)) _ _ s;rw[GW];exact BG h
theorem K5{xs:Array ol}{i k:Nat}:((tz k).filterMap λ(m:Nat)=>xs[((i:Int)+(m:Int)*1).toNat]?).toArray=((xs.toList.drop i).take k).toArray:=by
 have e:(λ(m:Nat)=>xs[((i:Int)+(m:Int)*1).toNat]?)=λm=>xs[i+m]? :=by funext m;have:((i:Int)+(m:Int)*1).toNat=i+m:=⋯;rw[this]
 rw[e];have:=pick_run xs i k;rw[List.filterMap_map] at this;have e2:((λx=>xs[x]?)∘λx=>i+x)=λm=>xs[i+m]? :=rfl;rw[e2] at this;rw[this]
theorem wL {t sl:pc} {U:Array ol} {vl vu:ol} {lo hi:Option Int} {Q:ol->r0->Prop} (ht:IsTup s.heap t U) (hs:s.heap.IsSliceOf sl vl vu .none) (pl:T4 vl lo) (pu:T4 vu hi)
 (hw:¬(sIx U.size 0 lo=0/\sIx U.size U.size hi=U.size))
 (h:Q (.ref s.heap.objs.size) {s with heap:=s.heap.push {cls:=.type "tuple",data:=.seq ((U.toList.drop (sIx U.size 0 lo)).take (sIx U.size U.size hi-sIx U.size 0 lo)).toArray}})
 (a1:U.size<=sizeLine):wpAny (model prog w) A (getItem (.ref t) (.ref sl)) Q E s:=by
 have Y:sizeOk (.seq ((U.toList.drop (sIx U.size 0 lo)).take (sIx U.size U.size hi-sIx U.size 0 lo)).toArray):=by show ((U.toList.drop (sIx U.size 0 lo)).take (sIx U.size U.size hi-sIx U.size 0 lo)).toArray.size<=sizeLine;rw[xg,Su,Sx,S8];omega
 have hj:sIx U.size U.size hi<=U.size:=NH (ut _) hi;obtain⟨os,ac,al,a2⟩:=id hs;have am:s.TypeIs (.ref sl) "slice" :=#[os,ac,al];unfold getItem;try with_reducible refine S6 ?_
 first | refine u8 (BG ?_) | skip
 refine u8 (wpAny_sequenceKey ht.typeIs ∅ ?_);refine u8 (wpAny_callSpecial?_slot (name:=Str.ofString "__getitem__") ht.typeIs SA
  (wpAny_call_entry SA ht.typeIs entry_tuple_getitem ?_ (args_tuple_getitem _ _)))
 show wpAny _ _ (Builtin.Tuple.tupleItemsOf (.ref t) >>= _) _ _ s;refine u8 (tupleItemsOf_ ht ?_);refine u8 (wpAny_typeOf am ?_);rw[if_pos ∅];refine u8 (yo hs pl pu ?_);have an:¬((((sIx U.size 0 lo:Nat):Int) == 0&&(1:Int) == 1&&(sIx U.size U.size hi-sIx U.size 0 lo) == U.size)=on):=by intro q;rw[Rp,Rp] at q;have q1:((sIx U.size 0 lo:Nat):Int)=0:=eq_of_beq q.1.1;have q2:sIx U.size U.size hi-sIx U.size 0 lo=U.size:=eq_of_beq q.2;exact hw #[⋯,⋯]
 show wpAny _ _ (if (((sIx U.size 0 lo:Nat):Int) == 0&&(1:Int) == 1&&(sIx U.size U.size hi-sIx U.size 0 lo) == U.size)=on then _ else _) _ _ s;rw[if_neg an,K5];first
  | exact u8 (m:=Builtin.Tuple.tupleExact _) (SQ (BG #[_,rfl,BG h]) Y)
  | exact u8 (m:=Builtin.Tuple.tupleExact _) (SQ (u8 (BG (BG #[_,rfl,BG h]))) Y)
  | exact u8 (u8 (m:=Builtin.Tuple.tupleExact _) (SQ (BG (BG #[_,rfl,BG h])) Y))
  | exact u8 (u8 (m:=Builtin.Tuple.tupleExact _) (SQ (BG #[_,rfl,BG h]) Y))
end
end HT
namespace L2
open PySem PySem.Spec PyProof.Rows
variable {n : Nat} {pins : List (pc × Obj)} {σ : St} {H : Hp} {s : r0} {xs : List V} {x : V}
abbrev TO:=St->Hp->(Option Int->Hp->Prop)->Prop
def PO(X:Cx)(e:Option Do)(t:TO):Prop:=
 ∀(pins:List (pc×Obj)) (s:r0) (σ:St) (H:Hp) (Q:Option Int->Hp->Prop),Inv X pins σ H s->t σ H Q->
  wpAny (model X.prog X.w) X.A (evalPart e X.env) (λu s'=>∃o H',Inv X pins σ H' s'/\T4 u o/\Q o H') X.xe s
def Fi:TO:=λ_ H Q=>Q na H
def Lu(t:TE):TO:=λσ H Q=>t σ H λx H1=>∃i,x=.int i/\Q (lH i) H1
section
variable {X : Cx} {e : Do} {te : TE} {lo hi : Option Do} {tl th : TO} {pos p2 : Pos}
theorem iq:PO X na Fi:=by intro pins s σ H Q I h;rw[evalPart_none];exact BG #[na,H,I,.none,h]
theorem gw(h:PE X e te):PO X (lH e) (Lu te):=by intro pins s σ H Q I U;rw[evalPart_some];refine thn (h pins s σ H _ I U) λu s1 #[x,H1,I1,r1,q1]=> ?_;obtain⟨i,rfl,q⟩:=q1;obtain⟨t,rfl⟩:=r1;exact#[lH i,H1,I1,.int i t,q]
def SlR(X:Cx)(r:V->Option Int->Option Int->Hp->VK->Prop):Prop:=
 ∀(pins:List (pc×Obj)) (s:r0) (σ:St) (H:Hp) (x:V) (v U Y:ol) (lo hi:Option Int) (sl:pc) (Q:VK),Inv X pins σ H s->RelV x v->s.heap.IsSliceOf sl U Y .none->T4 U lo->T4 Y hi->r x lo hi H Q->
  ∃T id,typeLookup (.type T) "__getitem__" =pure (lH (.builtin id))/\s.TypeIs v T/\wpAny (model X.prog X.w) X.A (getItem v (.ref sl)) (EP X pins σ Q) X.xe s
def tSl(r:V->Option Int->Option Int->Hp->VK->Prop)(te:TE)(tl th:TO):TE:=λσ H Q=>te σ H λx H1=>tl σ H1 λl H2=>th σ H2 λu U=>r x l u U Q
theorem fV{r:V->Option Int->Option Int->Hp->VK->Prop}(hr:SlR X r)(U:PE X e te)(Y:PO X lo tl)(hu:PO X hi th):PE X (.Subscript e (.Slice lo hi na p2) pos) (tSl r te tl th):=by intro pins s σ H Q I h;refine Subscript_ (thn (U pins s σ H _ I h) λv s1 #[x,H1,I1,r1,q1]=> ?_);refine wpAny_Slice (thn (Y pins s1 σ H1 _ I1 q1) λvl s2 #[l,H2,I2,pl,q2]=>thn (hu pins s2 σ H2 _ I2 q2) λvu s3 #[u,H3,I3,pu,q3]=> ?_);rw[evalPart_none];refine BG ?_;have I4:Inv X pins σ H3 {s3 with heap:=s3.heap.push {cls:=.type "slice",data:=.fields #v[vl,vu,.none]}}:=I3.kept (t':=s3.toks) λb ob q=>Heap.get?_push_of_some _ q;obtain⟨T,id,hT,ht,hg⟩:=hr pins {s3 with heap:=s3.heap.push {cls:=.type "slice",data:=.fields #v[vl,vu,.none]}} σ H3 x v vl vu l u s3.heap.objs.size Q I4 r1 (Heap.IsSliceOf.new ..) pl pu q3;show wpAny (model X.prog X.w) X.A (subscriptTail e (.Slice lo hi na p2) v (.ref s3.heap.objs.size)) (EP X pins σ Q) X.xe {s3 with heap:=s3.heap.push {cls:=.type "slice",data:=.fields #v[vl,vu,.none]}};exact tail_any (ops:=[.ref s3.heap.objs.size,v]) ht hT hg (by with_unfolding_all rfl)
def vP(xs:List V)(lo hi:Option Int):List V:=(xs.drop (HT.sIx xs.length 0 lo)).take (HT.sIx xs.length xs.length hi-HT.sIx xs.length 0 lo)
theorem wX(xs:List V)(lo hi:Option Int):(vP xs lo hi).length<=xs.length:=by unfold vP;rw[Su,Sx];omega
def Oo(K:qh):V->Option Int->Option Int->Hp->VK->Prop:=λx lo hi H Q=>∃a xs,x=.ref a/\SqT K H a xs/\
 ¬(HT.sIx xs.length 0 lo=0/\HT.sIx xs.length xs.length hi=xs.length)/\∀p,H p=na->Q (.ref p) (upd H p (.tup (vP xs lo hi)))
theorem NJ:SlR X (Oo X.K):=by
 intro pins s σ H x v vl vu lo hi sl Q I rx hs pl pu h;obtain⟨a,xs,rfl,hx,hw,q⟩:=h;cases rx;obtain⟨Y,r,ht,hz⟩:=I.tuple hx;have U:Y.toArray.size=xs.length:=by rw[xg];exact r.length.symm
 refine#["tuple",_,SA.lookup,ht.typeIs, ?_];refine HT.wL ht hs pl pu (by rw[U];exact hw) ?_ (by rw[U];exact hz);rw[U];refine#[.ref s.heap.objs.size,_,I.laid (t':=s.toks) (o:=.tup (vP xs lo hi)) (λb ob q=>Heap.get?_push_of_some _ q) (ut _) ?_,rfl,q _ (I.hok.fresh (ut _))];exact#[IR (wX xs lo hi) hz,_,(r.drop (HT.sIx xs.length 0 lo)).take (HT.sIx xs.length xs.length hi-HT.sIx xs.length 0 lo),IsTup.new _ _]
end
def ixN(n:Nat)(i:Int):Option Nat:=if 0<=i then (if i<n then lH i.toNat else na) else if -(n:Int)<=i then lH (i+n).toNat else na
def atI{α:Type}(xs:List α)(i:Int):Option α:=(ixN xs.length i).bind λj=>xs[j]?
theorem FP{i:Int}{j:Nat}(h:ixN n i=lH j):seqIndex? i n=lH j/\j<n/\ -(n:Int)<=i/\i<n:=by unfold ixN at h;by_cases h0:0<=i;rw[if_pos h0] at h;by_cases h1:i<n;rw[if_pos h1] at h;have e:i.toNat=j:=RJ h;exact#[by rw[Vh h0 h1,e],⋯,⋯,h1];rw[if_neg h1] at h;cases h;rw[if_neg h0] at h;by_cases h1: -(n:Int)<=i;rw[if_pos h1] at h;have e:(i+n).toNat=j:=RJ h;exact#[by rw[UW ⋯ h1,e],⋯,h1,⋯];rw[if_neg h1] at h;cases h
theorem Ah{α:Type}{xs:List α}{i:Int}{v:α}(h:atI xs i=lH v):∃j,seqIndex? i xs.length=lH j/\xs[j]? =lH v/\j<xs.length/\ -(xs.length:Int)<=i/\i<xs.length:=by
 unfold atI at h;cases e:ixN xs.length i with
 | none=>rw[e] at h;cases h
 | some j=>
  rw[e] at h;obtain⟨h1,h2,U,Y⟩:=FP e;exact#[j,h1,h,h2,U,Y]
def LR(b:Do):Prop:=∀o i,subscripted b tt o i=operate [o,i] (getItem o i)
def IxR(X:Cx)(r:R2):Prop:=
 ∀(value U:Do) (pins:List (pc×Obj)) (s:r0) (σ:St) (H:Hp) (x y:V) (v u:ol) (Q:VK),Inv X pins σ H s->RelV x v->RelV y u->r x y H Q->
  subscripted U tt v u=operate [v,u] (getItem v u)->wpAny (model X.prog X.w) X.A (subscriptTail value U v u) (EP X pins σ Q) X.xe s
def MtR(X:Cx)(id:String)(r:V->List V->Hp->VK->Prop):Prop:=
 ∀(pins:List (pc×Obj)) (s:r0) (σ:St) (H:Hp) (x:V) (xs:List V) (v:ol) (us:List ol) (Q:VK),Inv X pins σ H s->RelV x v->Vals xs us->r x xs H Q->
  wpAny (model X.prog X.w) X.A (call (.builtin id) (v::us)) (EP X pins σ Q) X.xe s
section
variable {X : Cx} {a b : Do} {ta tb : TE} {pos : Pos}
theorem IxR.or{r Y:R2}(h:IxR X r)(h':IxR X Y):IxR X (λx y H Q=>r x y H Q\/Y x y H Q):=by
 intro value U pins s σ H x y v u Q I rx ry q hs;rcases q with q | q
 exact h value U pins s σ H x y v u Q I rx ry q hs;exact h' value U pins s σ H x y v u Q I rx ry q hs
theorem aX{r:R2}(hr:IxR X r)(ha:PE X a ta)(hb:PE X b tb)(hs:LR b):PE X (.Subscript a b pos) (tOp r ta tb):=by intro pins s σ H Q I h;exact Subscript_ (J7 ha hb I h λv u s2 x y H2 U Y ry q=>hr a b pins s2 σ H2 x y v u Q U Y ry q (hs _ _))
def NS(K:qh):R2:=λx y H Q=>∃p xs i v,x=.ref p/\y=.int i/\SqL K H p xs/\atI xs i=lH v/\Q v H
def Ot(K:qh):R2:=λx y H Q=>∃p xs i v,x=.ref p/\y=.int i/\SqT K H p xs/\atI xs i=lH v/\Q v H
def Of:R2:=λx y H Q=>∃z i c,x=.str z/\y=.int i/\z.length<=sizeLine/\atI z.cps.toList i=lH c/\Q (.str #[#v[c]]) H
theorem Mi:IxR X (NS X.K):=by
 intro value Y pins s σ H x y v u Q I rx ry h hs;obtain⟨p,xs,i,z,rfl,rfl,hq,he,q⟩:=h;cases rx;obtain⟨t,rfl⟩:=ry;obtain⟨ab,r,pl,hz⟩:=I.list hq;obtain⟨j,h1,h2,h3,h4,h5⟩:=Ah he;obtain⟨w,ew,ac⟩:=r.get h2;have hl:=r.length;have hn:=qi;have U:EP X pins σ Q w s:=#[z,H,I,ac,q];by_cases h0:0<=i;have hj:i.toNat=j:=by rw[Vh h0 h5] at h1;exact RJ h1
 exact item_listR pl.isList h0 ⋯ (by rw[hj];simpa using ew) U hs;have hj:(i+(ab.toArray.size:Int)).toNat=j:=by rw[UW ⋯ h4] at h1;rw[xg,<- hl];exact RJ h1
 exact UH (x:=w) pl.isList.typeIs slot_list_getitem.lookup
  (wpAny_getItem_list_neg (Q:=λr s'=>r=w/\EP X pins σ Q r s') pl.isList ⋯ (by rw[xg] <;> omega) ⋯ (by rw[hj];simpa using ew) #[rfl,U]) hs
theorem OA:IxR X (Ot X.K):=by
 intro value U pins s σ H x y v u Q I rx ry h hs;obtain⟨p,xs,i,z,rfl,rfl,hq,he,q⟩:=h;cases rx;obtain⟨t,rfl⟩:=ry;obtain⟨an,r,pl,hz⟩:=I.tuple hq;obtain⟨j,h1,h2,h3,h4,h5⟩:=Ah he;obtain⟨w,ew,Y⟩:=r.get h2;have hl:=r.length;have hn:=qi;have ab:EP X pins σ Q w s:=#[z,H,I,Y,q];exact UH (x:=w) pl.typeIs slot_tuple_getitem.lookup
  (getItem_tuple (j:=j) (Q:=λr s'=>r=w/\EP X pins σ Q r s') pl ⋯ ⋯ (by rw[xg,<- hl];exact h1) (by simpa using ew) #[rfl,ab]) hs
theorem NB:IxR X Of:=by
 intro value U pins s σ H x y v u Q I Y ry h hs;obtain⟨z,i,c,rfl,rfl,hz,he,q⟩:=h;obtain⟨t,rfl⟩:=Y;obtain⟨t',rfl⟩:=ry;obtain⟨j,h1,h2,h3,h4,h5⟩:=Ah he;have hl:z.cps.toList.length=z.length:=by simp[Str.length]
 rw[hl] at h1 h4 h5;have hn:=qi;exact tail_any (Vt s z t) slot_str_getitem.lookup (getItem_str (c:=c) (by have e1:decide (i < -(2^63:Int))=false:=decide_eq_false ⋯;have e2:decide (i ≥ 2^63)=false:=decide_eq_false ⋯;rw[e1,e2,T9]) (by rw[h1];simpa using h2) #[.str #[#v[c]],H,I.tok _,#[_,rfl],q]) hs
def rIx(K:qh):R2:=λx y H Q=>NS K x y H Q\/Ot K x y H Q\/Of x y H Q
theorem aP:IxR X (rIx X.K):=Mi.or (OA.or NB)
theorem GS(U:List ol)(n j:Nat)(u:ol):Obj.mapSeq (·.setIfInBounds j u) {cls:=.type "list",data:=.seq U.toArray n}={cls:=.type "list",data:=.seq (U.set j u).toArray n}:=by simp[Obj.mapSeq]
theorem Inv.lst{p:pc}(I:Inv X pins σ H s)(h:H p=lH (.lst xs)):
 ∃(U:List ol) (n:Nat),Vals xs U/\s.heap.get? p=lH {cls:=.type "list",data:=.seq U.toArray n}/\xs.length<=sizeLine:=by
 obtain⟨z,U,n,r,e⟩:=I.hok p _ h;exact#[U,n,r,e,z]
theorem Inv.lstUpd {p:pc} {xs ys:List V} {U its':List ol} {n Y:Nat} {f:Obj->Obj} (I:Inv X pins σ H s) (h:H p=lH (.lst xs))
 (ho:s.heap.get? p=lH {cls:=.type "list",data:=.seq U.toArray n}) (hf:f {cls:=.type "list",data:=.seq U.toArray n}={cls:=.type "list",data:=.seq its'.toArray Y}) (r:Vals ys its') (hz:ys.length<=sizeLine) (t:Nat):
 Inv X pins σ (upd H p (.lst ys)) {s with heap:=s.heap.update p f,toks:=t}:=by
 have e:(s.heap.update p f).get? p=lH {cls:=.type "list",data:=.seq its'.toArray Y}:=by rw[Heap.get?_update_self f ho (by rw[hf] <;> rfl),hf]
 refine I.write (x:=p) (e:=p) (by rw[h];trivial) (.inl rfl) (λb u hb q=>(Heap.get?_update_other _ _ (S1 hb)).trans q) #[_,e] ?_;exact#[hz,its',Y,r,e]
def Lg:V->V->V->Hp->(Hp->Prop)->Prop:=λo i v H Q=>∃p xs k j,o=.ref p/\i=.int k/\H p=lH (.lst xs)/\ixN xs.length k=lH j/\Q (upd H p (.lst (xs.set j v)))
theorem set_list:NI X Lg:=by
 intro pins s σ H o i v ov iv u Q I ro ri rv h;obtain⟨p,xs,k,j,rfl,rfl,hp,hj,q⟩:=h;cases ro;obtain⟨t,rfl⟩:=ri;obtain⟨U,n,r,Y,hz⟩:=I.lst hp;obtain⟨h1,h2,h3,h4⟩:=FP hj;have hl:=r.length;have hn:=qi;have I':Inv X pins σ (upd H p (.lst (xs.set j v))) {s with heap:=s.heap.update p (Obj.mapSeq (·.setIfInBounds j u))}:=
  I.lstUpd hp Y (GS U n j u) (r.set rv j) (by rw[List.length_set];exact hz) s.toks
 by_cases h0:0<=k;have hk:k.toNat=j:=by rw[Vh h0 h4] at h1;exact RJ h1
 exact PySem.W.ki_setAt Y h0 ⋯ (by rw[xg,<- hl];exact h4) (by rw[hk];exact#[_,I',q]);have hk:(k+(U.toArray.size:Int)).toNat=j:=by rw[UW ⋯ h3] at h1;rw[xg,<- hl];exact RJ h1
 exact PySem.W.ki_setBack Y ⋯ (by rw[xg,<- hl];exact h3) ⋯ (by rw[hk];exact#[_,I',q])
theorem Dd(lo hi:Option Int)(n:Nat):(sliceBounds lo hi na n).1=((HT.sIx n 0 lo:Nat):Int)/\(sliceBounds lo hi na n).2.1=((HT.sIx n n hi:Nat):Int)/\(sliceBounds lo hi na n).2.2=1:=by
 refine#[?_, ?_,rfl];cases lo with
 | none=>simp[sliceBounds,HT.sIx]
 | some i=>
  simp only[sliceBounds,HT.sIx,Vo,show (1:Int)>0 by decide,if_true];by_cases h:i<0;simp only[h,if_true] <;> omega;simp only[h,if_false] <;> omega
 cases hi with
 | none=>simp[sliceBounds,HT.sIx]
 | some i=>
  simp only[sliceBounds,HT.sIx,Vo,show (1:Int)>0 by decide,if_true];by_cases h:i<0;simp only[h,if_true] <;> omega;simp only[h,if_false] <;> omega
theorem BW{U:List ol}{lo hi:Option Int}:slicePick U.toArray lo hi na=((U.drop (HT.sIx U.length 0 lo)).take (HT.sIx U.length U.length hi-HT.sIx U.length 0 lo)).toArray:=by obtain⟨h1,h2,Y⟩:=Dd lo hi U.toArray.size;unfold slicePick;rw[h1,h2,Y];simp only[sliceRange_one,pick_run,xg] <;> rfl
def La(K:qh):V->Option Int->Option Int->Hp->VK->Prop:=λx lo hi H Q=>∃a xs,x=.ref a/\SqL K H a xs/\∀p,H p=na->Q (.ref p) (upd H p (.lst (vP xs lo hi)))
theorem k9:SlR X (La X.K):=by intro pins s σ H x v vl vu lo hi sl Q I rx hs pl pu h;obtain⟨a,xs,rfl,hx,q⟩:=h;cases rx;obtain⟨al,r,Y,hz⟩:=I.list hx;have U:=r.length;refine#["list",_,slot_list_getitem.lookup,Y.isList.typeIs, ?_];refine wpAny_getItem_list_slice Y.isList hs pl pu .none (by simp) ?_ (by rw[xg] <;> omega);rw[BW,<- U];refine#[.ref s.heap.objs.size,_,I.laid (t':=s.toks) (o:=.lst (vP xs lo hi)) (λb ob q=>Heap.get?_push_of_some _ q) (ut _) ?_,rfl,q _ (I.hok.fresh (ut _))];exact#[IR (wX xs lo hi) hz,_,0,(r.drop (HT.sIx xs.length 0 lo)).take (HT.sIx xs.length xs.length hi-HT.sIx xs.length 0 lo),Heap.get?_push_size _ rfl]
def nA:V->Bool
 | .non=>on
 | .bl _=>on
 | .int _=>on
 | .str _=>on
 | _=>tt
def eqV:V->V->Bool
 | .non,.non=>on
 | .bl a,.bl b=>a == b
 | .bl a,.int b=>(if a then 1 else 0) == b
 | .int a,.bl b=>a == (if b then 1 else 0)
 | .int a,.int b=>a == b
 | .str a,.str b=>a == b
 | _,_=>tt
theorem NF{A:KE}{y x:V}{u v:ol}(Y:RelV y u)(U:RelV x v)(fy:nA y=on)(fx:nA x=on):SeqAt.EqAt A s u v (eqV y x):=by
 cases y with
 | non=>
  cases Y;cases x with
  | non=>cases U;exact SeqAt.EqAt.same _
  | bl b=>cases U;exact SeqAt.EqAt.none_bool b
  | int b=>obtain⟨t,rfl⟩:=U;exact SeqAt.EqAt.none_int b t
  | str b=>obtain⟨t,rfl⟩:=U;exact SeqAt.EqAt.none_str b t
  | _=>exact absurd (show tt=on from fx) At
 | bl a=>
  cases Y;cases x with
  | non=>cases U;exact SeqAt.EqAt.bool_none a
  | bl b=>cases U;exact SeqAt.EqAt.bool_bool a b
  | int b=>obtain⟨t,rfl⟩:=U;exact SeqAt.EqAt.bool_int a b t
  | str b=>obtain⟨t,rfl⟩:=U;exact SeqAt.EqAt.bool_str a b t
  | _=>exact absurd (show tt=on from fx) At
 | int a=>
  obtain⟨t',rfl⟩:=Y;cases x with
  | non=>cases U;exact SeqAt.EqAt.int_none a t'
  | bl b=>cases U;exact SeqAt.EqAt.int_bool a t' b
  | int b=>obtain⟨t,rfl⟩:=U;exact SeqAt.EqAt.int_int a t' b t
  | str b=>obtain⟨t,rfl⟩:=U;exact SeqAt.EqAt.int_str a t' b t
  | _=>exact absurd (show tt=on from fx) At
 | str a=>
  obtain⟨t',rfl⟩:=Y;cases x with
  | non=>cases U;exact SeqAt.EqAt.str_none a t'
  | bl b=>cases U;exact SeqAt.EqAt.str_bool a t' b
  | int b=>obtain⟨t,rfl⟩:=U;exact SeqAt.EqAt.str_int a t' b t
  | str b=>obtain⟨t,rfl⟩:=U;exact SeqAt.EqAt.str_str a t' b t
  | _=>exact absurd (show tt=on from fx) At
 | _=>exact absurd (show tt=on from fy) At
def eqU(x:V)(u:ol):Bool:=match u with
 | .none=>eqV .non x
 | .bool b=>eqV (.bl b) x
 | .int i _=>eqV (.int i) x
 | .str z _=>eqV (.str z) x
 | _=>tt
theorem Ia{x y:V}{u:ol}(r:RelV y u)(f:nA y=on):eqU x u=eqV y x:=by
 cases y with
 | non=>cases r;rfl
 | bl b=>cases r;rfl
 | int i=>obtain⟨t,rfl⟩:=r;rfl
 | str z=>obtain⟨t,rfl⟩:=r;rfl
 | _=>exact absurd (show tt=on from f) At
theorem rV{x:V}:∀{xs:List V} {us:List ol},Vals xs us->xs.all nA=on->us.any (eqU x)=xs.any λy=>eqV y x
 | _,_,.nil,_=>rfl
 | y::xs,u::us,.cons r t,f=>by rw[Tr,Rp] at f;rw[VF,VF,Ia r f.1,rV t f.2]
theorem pq{A:KE}{s:r0}{x:V}{v:ol}(U:RelV x v)(Y:nA x=on):∀{xs:List V} {us:List ol},Vals xs us->xs.all nA=on->∀u∈us,SeqAt.EqAt A s u v (eqU x u)
 | _,_,.nil,_=>λu hu=>by cases hu
 | y::xs,u::us,.cons r t,f=>λu' hu=>by
  rw[Tr,Rp] at f;rcases vr.mp hu with rfl | hu
  rw[Ia r f.1];exact NF r U f.1 Y;exact pq U Y t f.2 u' hu
def inV(x:V)(xs:List V):Bool:=xs.any λy=>eqV y x
def rIn(K:qh)(neg:Bool):R2:=λx y H Q=>∃p xs,y=.ref p/\(SqL K H p xs\/SqT K H p xs)/\nA x=on/\xs.all nA=on/\Q (.bl (if neg then !inV x xs else inV x xs)) H
theorem jF:OpR X (compareOp .In) (rIn X.K tt):=by
 intro pins s σ H x y v u Q I rx ry h;obtain⟨p,xs,rfl,hq,fx,fs,q⟩:=h;cases ry;rcases hq with hq | hq
 obtain⟨U,r,pl,hz⟩:=I.list hq;refine SeqAt.in_listAt (eqU x) pl.isList (λw Y=>pq rx fx r fs w (by simpa using Y)) #[.bl _,H,I,rfl, ?_];rw[show U.toArray.any (eqU x)=U.any (eqU x) by simp,rV r fs];exact q;obtain⟨U,r,pl,hz⟩:=I.tuple hq;refine SeqAt.in_tupleAt (eqU x) pl (λw Y=>pq rx fx r fs w (by simpa using Y)) #[.bl _,H,I,rfl, ?_];rw[show U.toArray.any (eqU x)=U.any (eqU x) by simp,rV r fs];exact q
theorem mC:OpR X (compareOp .NotIn) (rIn X.K on):=by
 intro pins s σ H x y v u Q I rx ry h;obtain⟨p,xs,rfl,hq,fx,fs,q⟩:=h;cases ry;rcases hq with hq | hq
 obtain⟨U,r,pl,hz⟩:=I.list hq;refine SeqAt.notIn_listAt (eqU x) pl.isList (λw Y=>pq rx fx r fs w (by simpa using Y)) #[.bl _,H,I,rfl, ?_];rw[show U.toArray.any (eqU x)=U.any (eqU x) by simp,rV r fs];exact q;obtain⟨U,r,pl,hz⟩:=I.tuple hq;refine SeqAt.notIn_tupleAt (eqU x) pl (λw Y=>pq rx fx r fs w (by simpa using Y)) #[.bl _,H,I,rfl, ?_];rw[show U.toArray.any (eqU x)=U.any (eqU x) by simp,rV r fs];exact q
theorem jI:nt X (.type "list") (λxs H Q=>∃p ys,xs=[.ref p]/\(SqL X.K H p ys\/SqT X.K H p ys)/\∀l,H l=na->Q (.ref l) (upd H l (.lst ys))):=by
 intro pins s σ H xs us Q I r h;obtain⟨p,ys,rfl,hq,q⟩:=h;obtain⟨u,rfl,rx⟩:=vals1 r;cases rx;have ac:∀(U:List ol),Vals ys U->ys.length<=sizeLine->∀(h':Gc) (Y:Nat),(∀b o',s.heap.get? b=lH o'->h'.get? b=lH o')->
  h'.get? s.heap.objs.size=lH {cls:=.type "list",dict:=na,data:=.seq U.toArray Y,slots:= #v[]}->EP X pins σ Q (.ref s.heap.objs.size) {s with heap:=h'}:=λU r' hz h' Y kp e=>
  #[.ref s.heap.objs.size,_,I.laid (t':=s.toks) kp (ut _) (show ie X.prog X.w _ h' _ (.lst ys) from #[hz,U,Y,r',e]),rfl,q _ (I.hok.fresh (ut _))]
 rcases hq with hq | hq;obtain⟨U,r',pl,hz⟩:=I.list hq;have al:=r'.length;obtain⟨o,ho,hc,n,hd⟩:=pl.isList;exact call_list_seq p (.inl rfl) ho hc hd (λh' Y kp e=>ac U r' hz h' Y kp e) (by simp only[xg] <;> omega);obtain⟨U,r',pl,hz⟩:=I.tuple hq;have al:=r'.length;obtain⟨o,ho,hc,n,hd⟩:=pl;exact call_list_seq p (.inr rfl) ho hc hd (λh' Y kp e=>ac U r' hz h' Y kp e) (by simp only[xg] <;> omega)
def tyV(K:qh)(T:String)(x:V)(H:Hp):Prop:=match x with
 | .str _=>T="str"
 | .int _=>T="int"
 | .ref p=>(T="list" /\∃xs,SqL K H p xs)\/(T="tuple" /\∃o,K.lookup p=lH o/\o.cls=.type "tuple" /\o.dict=na)\/
  (T="dict" /\((∃U,H p=lH (.dK U))\/∃U,H p=lH (.dT U)))\/(T="set" /\∃S n,H p=lH (.set S n))
 | _=>False
theorem Nu{T:String}{v:ol}(I:Inv X pins σ H s)(r:RelV x v)(ty:tyV X.K T x H):
 s.TypeIs v T/\∀a,v=.ref a->∃Y,s.heap.get? a=lH Y/\Y.dict=none:=by
 cases x with
 | str z=>
  obtain⟨t,rfl⟩:=r;cases (show T="str" from ty);exact#[Vt s z t,λ_ e=>nomatch e]
 | int i=>
  obtain⟨t,rfl⟩:=r;cases (show T="int" from ty);exact#[VA s i t,λ_ e=>nomatch e]
 | ref p=>
  cases r;rcases ty with⟨rfl,xs,hq⟩ | ⟨rfl,o,hk,hc,hd⟩ | ⟨rfl,hk⟩ | ⟨rfl,S,n,hk⟩
  obtain⟨ab,_,pl,_⟩:=I.list hq;refine#[pl.isList.typeIs,λa e=> ?_];cases e;obtain⟨o,n,e,c,hd,_⟩:=pl;exact#[o,e,hd];refine#[#[o,I.kIn p o hk,hc],λa e=> ?_];cases e;exact#[o,I.kIn _ o hk,hd];have z:∃o,s.heap.get? p=lH o/\o.ExactDict:=by rcases hk with⟨U,hk⟩ | ⟨U,hk⟩;obtain⟨_,_,_,_,o,_,_,e,ex,_⟩:=I.hok p _ hk;exact#[o,e,ex];obtain⟨_,_,_,_,o,_,_,e,ex,_⟩:=I.hok p _ hk;exact#[o,e,ex]
  obtain⟨o,e,ex⟩:=z;refine#[#[o,e,ex.1],λa e2=> ?_];cases e2;exact#[o,e,ex.2.1];obtain⟨o,_,_,_,e,ex,_⟩:=I.hok p _ hk;refine#[#[o,e,ex.1],λa e2=> ?_];cases e2;exact#[o,e,ex.2.1]
 | _=>exact pi ty
def tBM(K:qh)(T:String)(r:V->List V->Hp->VK->Prop)(to:TE)(t:TA):TE:=λσ H Q=>to σ H λx H1=>tyV K T x H1/\t σ H1 λxs H2=>r x xs H2 Q
variable {o e : Do} {es : List Do} {to : TE} {t : TA} {name : Str} {apos cpos : Pos} {T id : String} {r : V → List V → Hp → VK → Prop}
theorem kD (pa:PlainAttrs T) (slot:Slot T name id) (al:typeOf (.builtin id)=pure (.type "method_descriptor")) (hm:MtR X id r) (ho:PE X o to) (ha:PA X (e::es) t)
 (Y:attributeBase o name X.env (eval o X.env)=eval o X.env:=by rfl)
 (ac:((backTo cpos (starEach (e::es) X.env)).all (λx=> !x.1)&&(backToKw cpos (keywordEach [] X.env)).all (λx=>x.1.isSome)
  &&decide ((e::es).length+([]:List Keyword).length+(if ([]:List Keyword).isEmpty then 0 else 1)<30))=true:=by rfl)
 (ab:(apos.endLine == cpos.line)=true:=by rfl) (hs:starEach (e::es) X.env=(tt,eval e X.env)::starEach es X.env:=by rfl) (U:(backTo cpos (starEach es X.env)).any (·.1)=false:=by rfl):
 PE X (.Call (.Attribute o name apos) (e::es) [] cpos) (tBM X.K T r to t):=by
 intro pins s σ H Q I h;refine wpAny_Call_method_late Y ac ab rfl (thn (ho pins s σ H _ I h) λv s1 #[x,H1,I1,r1,ty,q1]=> ?_);obtain⟨h1,h2⟩:=Nu I1 r1 ty;refine#[T,id,pa,slot,al,h1,h2, ?_];have hA:=ha cpos pins s1 σ H1 _ I1 q1;rw[hs] at hA ⊢;refine Calls.callWith_builtin (by show (tt||(backTo cpos (starEach es X.env)).any (·.1))=tt;rw[U] <;> rfl) (Calls.evalArgs_plain ?_);exact thn hA λus s2 #[vs,H2,I2,r2,q2]=>hm pins s2 σ H2 x vs v us Q I2 r1 r2 q2
end
def MtM(X:Cx)(id:String)(r:V->List V->Hp->VK->Prop):Prop:=
 ∀(pins:List (pc×Obj)) (s:r0) (σ:St) (H:Hp) (x:V) (xs:List V) (v:ol) (us:List ol) (Q:VK),Inv X pins σ H s->RelV x v->Vals xs us->r x xs H Q->
  wpAny (model X.prog X.w) X.A (call (.builtin id) (v::us)) (EP X pins σ Q) X.xe s
theorem Vals.one:∀{x:V} {us:List ol},Vals [x] us->∃u,us=[u]/\RelV x u
 | _,_,.cons r .nil=>#[_,rfl,r]
theorem Vals.dropLast{us:List ol}(h:Vals xs us):Vals xs.dropLast us.dropLast:=by
 induction h with
 | nil=>exact .nil
 | cons r t U=>
  cases t with
  | nil=>exact .nil
  | cons q t'=>exact .cons r U
theorem Vals.eraseIdx:∀{xs:List V} {us:List ol} (i:Nat),Vals xs us->Vals (xs.eraseIdx i) (us.eraseIdx i)
 | _,_,_,.nil=>.nil
 | _,_,0,.cons _ t=>t
 | _,_,i+1,.cons r t=>.cons r (Vals.eraseIdx i t)
theorem Vals.rep{xs:List V}{us:List ol}(h:Vals xs us):∀k:Nat,Vals (ux k xs).flatten (ux k us).flatten
 | 0=>.nil
 | k+1=>by rw[Rr,Rr,R1,R1];exact Vals.append h (Vals.rep h k)
theorem Bp{α:Type}:∀(l:List α) (i:Nat),(l.eraseIdx i).length<=l.length
 | [],_=>ut _
 | _::_,0=>T3 _
 | _::r,i+1=>Nat.succ_le_succ (Bp r i)
theorem foldl_rep(U:List ol):∀(k:Nat) (Y:List ol),
 Vv (λx1 x2=>x1++x2) Y.toArray (ux k U.toArray)=(Y++(ux k U).flatten).toArray
 | 0,Y=>by simp
 | k+1,Y=>by
  have e:Y.toArray++U.toArray=(Y++U).toArray:=by simp
  have e2:(Y++U)++(ux k U).flatten=Y++(ux (k+1) U).flatten:=by rw[Rr,R1,R3]
  rw[<- e2,<- foldl_rep U k (Y++U),<- e,Rr,RQ]
section
variable {X : Cx} {pins : List (pc × Obj)} {σ : St} {H : Hp} {s : r0} {l b : pc} {xs ys zs : List V}
theorem Inv.lset {U its':List ol} {n:Nat} {f:Array ol->Array ol} {t':Nat} (I:Inv X pins σ H s) (Y:H l=lH (.lst xs))
 (e:s.heap.get? l=lH {cls:=.type "list",data:=.seq U.toArray n}) (hf:f U.toArray=its'.toArray) (hv:Vals ys its') (hz:ys.length<=sizeLine):
 Inv X pins σ (upd H l (.lst ys)) {s with heap:=s.heap.update l (Obj.mapSeq f),toks:=t'}:=by
 have q:=PySem.IsL.update e f;rw[hf] at q;refine I.write (x:=l) (e:=l) (by rw[Y];exact trivial) (.inl rfl) (λb' u hb hu=>(Heap.get?_update_other s.heap (Obj.mapSeq f) (S1 hb)).trans hu) #[_,q] ?_;exact#[hz,its',_,hv,q]
theorem Inv.lnew{U:List ol}{t':Nat}(I:Inv X pins σ H s)(Y:Vals ys U)(hz:ys.length<=sizeLine):
 Inv X pins σ (upd H s.heap.objs.size (.lst ys)) {s with heap:=s.heap.push {cls:=.type "list",data:=.seq U.toArray},toks:=t'}:=
 I.laid (λ_ _ q=>Heap.get?_push_of_some _ q) (ut _) #[hz,U,0,Y,Heap.get?_push_size _ rfl]
theorem Inv.fresh(I:Inv X pins σ H s):H s.heap.objs.size=none:=I.hok.fresh (ut _)
theorem Inv.lstM(I:Inv X pins σ H s)(Y:H l=lH (.lst xs)):xs.length<=sizeLine/\∃(U:List ol) (n:Nat),Vals xs U/\xs.length=U.length/\s.heap.get? l=lH {cls:=.type "list",data:=.seq U.toArray n}:=by obtain⟨z,U,n,r,e⟩:=I.hok l _ Y;exact#[z,U,n,r,r.length,e]
theorem Jz(h:n<=sizeLine):Builtin.List.listTooLong n=false:=by unfold Builtin.List.listTooLong;exact decide_eq_false ⋯
end
section
variable {X : Cx}
def Fx:V->List V->Hp->VK->Prop:=λx vs H Q=>∃l xs y,x=.ref l/\vs=[y]/\H l=lH (.lst xs)/\xs.length<sizeLine/\Q .non (upd H l (.lst (xs++[y])))
theorem fQ:MtM X "list.append" Fx:=by intro pins s σ H x vs v us Q I rx rv h;obtain⟨l,xs,y,rfl,rfl,Y,hz,q⟩:=h;cases rx;obtain⟨u,rfl,ru⟩:=rv.one;obtain⟨z,U,n,r,hl,e⟩:=I.lstM Y;refine TB F.slot_list_append #[_,e,rfl] F.entry_list_append (F.args_list_append_2 _ _) (PySem.list_append l U.toArray n u (by rw[xg];omega)) #[e, ?_];refine#[.non,_,I.lset (its':=U++[u]) Y e (by simp) (r.append (.cons ru .nil)) ?_,rfl,q];rw[x0,Fk];omega
def HX:V->List V->Hp->VK->Prop:=λx vs H Q=>∃l xs i k y,x=.ref l/\vs=[.int i]/\H l=lH (.lst xs)/\ -(2^63)<=i/\i<2^63/\seqIndex? i xs.length=lH k/\xs[k]? =lH y/\Q y (upd H l (.lst (xs.eraseIdx k)))
theorem Kn:MtM X "list.pop" HX:=by
 intro pins s σ H x vs v us Q I rx rv h;obtain⟨l,xs,i,k,y,rfl,rfl,hH,h1,h2,hk,hy,q⟩:=h;cases rx;obtain⟨u,rfl,ru⟩:=rv.one;obtain⟨t,rfl⟩:=ru;obtain⟨z,U,n,r,hl,e⟩:=I.lstM hH;obtain⟨w,hw,Y⟩:=r.get hy;refine TB F.slot_list_pop #[_,e,rfl] F.entry_list_pop (F.args_list_pop_2 _ _)
  (MeetsSeq.list_pop_at l U.toArray n i t k w (fitsIndex_both h1 h2) (by rw[xg,<- hl];exact hk) (by rw[<- SW];exact hw) (by rw[xg];omega)) #[e, ?_]
 refine#[y,_,I.lset (its':=U.eraseIdx k) hH e ?_ (r.eraseIdx k) ?_,Y,q];show U.toArray.eraseIdxIfInBounds k=(U.eraseIdx k).toArray;rw[List.eraseIdxIfInBounds_toArray];have:=Bp xs k;omega
def JA:R2:=λx y H Q=>∃l k xs,x=.ref l/\y=.int k/\H l=lH (.lst xs)/\ -(2^63)<=k/\k<2^63/\xs.length*k.toNat<=sizeLine/\
 ∀p,H p=na->Q (.ref p) (upd H p (.lst (ux k.toNat xs).flatten))
theorem len_rep{α:Type}{xs:List α}{k:Nat}:(ux k xs).flatten.length=k*xs.length:=by
 induction k with
 | zero=>simp
 | succ k U=>rw[Rr,R1,x0,U,Nat.succ_mul,Ux]
theorem Dk:OpR X (binaryOp .Mult) JA:=by
 intro pins s σ H x y v u Q I rx ry h;obtain⟨l,k,xs,rfl,rfl,hH,h1,h2,hz,q⟩:=h;cases rx;obtain⟨t,rfl⟩:=ry;obtain⟨z,U,n,r,hl,e⟩:=I.lstM hH;have ab:U.toArray.size*k.toNat<=sizeLine:=by rw[xg,<- hl];exact hz
 have ac:¬U.toArray.size*k.toNat>(2^63-1)/8:=by have:(sizeLine:Nat)<=(2^63-1)/8:=∅;omega
 have al:¬(!Builtin.List.listFitsIndex k)=true:=by rw[fitsIndex_both h1 h2];exact At
 have Y:¬Builtin.List.listTooLong (U.toArray.size*k.toNat)=true:=by rw[Jz ab];exact At
 have am:Vv (λx1 x2=>x1++x2) #v[] (ux (if U.toArray.isEmpty=on then 0 else k.toNat) U.toArray)=(ux k.toNat U).flatten.toArray:=by
  have f0:∀m:Nat,Vv (λx1 x2=>x1++x2) #v[] (ux m U.toArray)=(ux m U).flatten.toArray:=λm=>by have:=foldl_rep U m [];rw[xz] at this;exact this
  rw[f0];cases U with
  | nil=>simp
  | cons a r'=>rw[if_neg (by simp)]
 refine wpAny_binaryOp_repeat_ref (T:="list") (U:="int") ∅ #[_,e,rfl] (λs'=>VA s' k t) noFill_list_mul F.fills_int_mul F.slot_int_rmul repeat_list F.slot_int_index.lookup
  (TB F.slot_int_rmul (VA s k t) F.entry_int_rmul (F.args_int_rmul_2 _ _) (int___rmul___int_list k t l U.toArray n)
   #[e,rfl,#[_,e,rfl],TB F.slot_list_mul #[_,e,rfl] F.entry_list_mul (F.args_list_mul_2 _ _) (AutoListH.list___mul___list_int_3 l U.toArray n k t al ac Y) #[e, ?_]])
 rw[am];exact#[.ref _,_,I.lnew (t':=s.toks) (r.rep k.toNat) (by rw[len_rep,Uh];exact hz),rfl,q _ I.fresh]
end
section
variable {prog : AC} {w : Db} {A : KE} {E : ol → r0 → Prop} {s : r0}
end
section
variable {X : Cx}
end
end L2
namespace Att
open PySem PySem.W PySem.Calls PyProof.Rows
theorem yL{P:Params}{h:Gc}:∀(ns:List Int) (vs:List ol),WellAll P h vs (ns.map WData.int)->Si vs ns:=by
 intro ns;induction ns with
 | nil=>
  intro vs w;rw[RX] at w;cases w;exact .nil
 | cons n ns U=>
  intro vs w;rw[ww] at w;cases w with
  | cons a b=>
   cases a;exact .cons _ _ (U _ b)
theorem Jb {l:OpenLaw} {n:Nat} (hn:l.most=lH n) {P:Params} {h:Gc} {args:List WData} {U:List ol}
 (Y:l.row.toRowW.claim.pre args=on) (an:WellAll P h U args):
 ∃a vs ns,U=[Value.ref a]/\args=[WData.list (ns.map WData.int)]/\h.get? a=lH {cls:=.type "list",data:=.seq vs.toArray}/\Si vs ns/\ns.length<=n:=by
 have ap:WShape.hasAll [] args [.list .int]=true:=(pre_splitW Y).1;have hc:l.pre.holds [] {args:=args}=true:=(pre_splitW Y).2;obtain⟨d,r,rfl,h1,h2⟩:=hasAllW_cons ap;obtain rfl:=hasAllW_nil h2;obtain⟨xs,rfl,h3⟩:=hasW_list h1;obtain⟨ns,rfl⟩:=items_int h3;have ab:ns.length<=n:=by
  unfold OpenLaw.pre at hc;have h4:(WTm.not (.lt (.lit (.int (n:Int))) (.len (.arg 0)))).holds [] {args:=[.list (ns.map .int)]}=true:=by have h4:=(holds_andW hc).1;rw[hn] at h4;exact h4
  have h5:=condW_of h4 (w_not (w_lt w_lit (w_len_list (w_arg rfl))));rw[ss] at h5;refine Nat.le_of_not_lt λq=> ?_;have q':(n:Int)<((ns.length:Nat):Int):=⋯;first
   | (rw[decide_eq_true q'] at h5;exact absurd h5 ∅)
   | (simp at h5;omega)
 cases an with
 | cons w1 w2=>
  cases w2;cases w1 with
  | list ho ac=>exact#[_,_,ns,rfl,rfl,ho,yL ns _ ac,ab]
theorem IC(l:OpenLaw){args:List WData}:l.row.toRowW.claim.post args (.bool on) args=true:=
 postW_of (r:=l.row.toRowW) (X:=(on == on))
  (show WShape.has [] (.bool on) .bool=on by first | rfl | decide | simp[WShape.has,WShape.arms,WShape.armsAll])
  (show (WTm.eq .res (.lit (.bool on))).value [] {args:=args,res:=lH (.bool on),after:=args}=lH (.bool (on == on)) from w_eq_bool (w_res rfl) w_lit) rfl
theorem ER {l:OpenLaw} {n:Nat} {q:AC} {ab:List Str} {XP:(Str->Option ol)->Gc->Prop} {YP:Db->Gc->Prop} {d:DefRec}
 (hn:l.most=lH n) (az:d.params.defaults=[])
 (call:∀(w:Db) (s₀ U:r0) (mg mb:Str->Option ol) (fa:pc) (o:Obj) (pm cd ac:ol) (a:pc) (vs:List ol) (ns:List Int),
  Ground q ab [] XP w s₀ mg mb U.heap->YP w U.heap->
  U.heap.get? fa=lH o->o.data=.func (docDef d.name d.params d.body d.scope pm cd ac)->U.heap.CodeRec cd d.name->mg d.name=lH (.ref fa)->
  U.heap.get? a=lH {cls:=.type "list",data:=.seq vs.toArray}->Si vs ns->ns.length<=n->U.gens= #v[]->
  codeAny (model l.prog w) callerA (.call (.ref fa) #[[.ref a],[]]) (λr s'=>r=.ok (.ret (.bool on))/\OldK U.heap s'.heap/\s'.os=U.os/\Tk s'.gens) U):
 WalkO q ab XP YP l.row.toRowW d [] (λf vs=>Vx f vs):=by
 intro w s₀ U mg mb G Y fa o pm cd ac dV kV ho hd a1 hD a2 hg args bd as am be bp a3 bv;obtain rfl:dV=.none:=Dflts.none hD az;obtain rfl:kV=.none:=Dflts.noKw hD;obtain⟨a,vs,ns,rfl,rfl,an,al,ap⟩:=Jb hn am a3;refine enter_call (Uu (call w s₀ U mg mb fa o pm cd ac a vs ns G Y ho (fd_plain hd) a1 a2 an al ap hg) λr s' hq=> ?_);obtain⟨rfl,h2,h3,h4⟩:=hq;exact#[.inl #[.bool on,.bool on,[],rfl,λ_=>rfl,.bool on,IC l,λ_=>#[Vc,λ_ hm=>(nomatch hm)]],h2,h3,h4]
section
variable {prog : AC} {w : Db} {A : KE} {E : ol → r0 → Prop} {s : r0} {K : Frag}
end
end Att
namespace L2
open PySem PySem.Spec PyProof.Rows
variable {P : AC} {w : Db} {K : qh} {fd : RB} {x qual : Str} {vs : List ol} {st : SX} {f : pc} {scope : Sj} {l m : List (Str × pc)} {A : KE} {s : r0} {own cap : List Str} {caps : List Nat} {pins : List (pc × Obj)} {σ : St} {H : Hp} {fp : List pc} {i j n nrem N : Nat} {p : Array Nat}
theorem Bj:∀{vs:List ol} {ns:List Int},Si vs ns->Vals (ns.map V.int) vs
 | _,_,.nil=>.nil
 | _,_,.cons n t h=>.cons #[t,rfl] (Bj h)
def GG(H:Hp):Prop:=∀b,H b=na\/∃o xs,H b=lH (.frz o (.lst xs))
theorem KL {P:AC} {w:Db} {K:qh} {mg mb:Str->Option ol} {CX:CXT} {k:Nat} {fa a:pc} {fd:RB} {x:Str} {sp:Sp} {U:r0} {vs:List ol} {ns:List Int}
 (KX:K.In U.heap) (an:U.heap.Ns mainGlobals mg) (hb:U.heap.Ns builtinsNs mb) (a5:∀x:Str,x≠"__name__" ->mb x=bootBuiltins x) (ap:U.heap.NoLimit) (ab:U.heap.NoSeer) (hg:U.gens= #v[])
 (ha:U.heap.get? a=lH {cls:=.type "list",data:=.seq vs.toArray}) (hi:Si vs ns) (hl:ns.length<=sizeLine) (hr:eR k callerA)
 (F:∀base:Gc,K.In base->base.Ns mainGlobals mg->kb P w K mg base CX k fa fd [x] sp) (am:∀(s:r0) (u:ol),TY s fd #[[u],[]] [(x,u)])
 (bb:∀H:Hp,GG H->SqL K H a (ns.map V.int)->sp [.ref a] H (λv _=>v=.bl on) λ_ _ _=>False)
 (bd:∀H e s',CX [] H U (λ_ _ _=>False) e s'->False):
 codeAny (model P w) callerA (.call (.ref fa) #[[.ref a],[]]) (λr s'=>r=.ok (.ret (.bool on))/\OldK U.heap s'.heap/\s'.os=U.os/\Tk s'.gens) U:=by
 have rv:=Bj hi;have as:=hi.length;have al:∀H:Hp,GG H->SqL K H a (ns.map V.int)->HOk P w H U.heap->(∀b,H b≠na->b=a)->(H a≠na->K.lookup a=na)->
  codeAny (model P w) callerA (.call (.ref fa) #[[.ref a],[]]) (λr s'=>r=.ok (.ret (.bool on))/\OldK U.heap s'.heap/\s'.os=U.os/\Tk s'.gens) U:=by
  intro H hO hS az hA hK;have Y:∀{b:pc} {o:Obj},U.heap.get? b=lH o->H b=na->(qN U.heap H).get? b=lH o:=λe n=>J6 e n;have bi:∀{b:pc} {o:Obj} {es:Array DictEntry} {ep:Nat},U.heap.get? b=lH o->o.data=.dict es ep->H b=none:=λ{b o es ep} e d=>by
   cases q:H b with
   | none=>rfl
   | some u=>
    have e':b=a:=hA b (by rw[q];simp);subst e';rw[ha] at e;cases e;have d':Data.seq vs.toArray _=Data.dict es ep:=d;cases d'
  have ac:∀{b:pc} {m:Str->Option ol},U.heap.Ns b m->(qN U.heap H).Ns b m:=λ{b m} #[o,es,ep,e,d,r]=>#[o,es,ep,Y e (bi e d),d,r];have a1:K.In (qN U.heap H):=λb o e=>Y (KX b o e) (by
   cases q:H b with
   | none=>rfl
   | some u=>
    have e':b=a:=hA b (by rw[q];simp);subst e';rw[hK (by rw[q];simp)] at e;cases e)
  have bn:∀{b:pc} {o:Obj},U.heap.get? b=lH o->o.cls=.type "module" ->H b=none:=λ{b o} e d=>by
   cases q:H b with
   | none=>rfl
   | some u=>
    have e':b=a:=hA b (by rw[q];simp);subst e';rw[ha] at e;cases e;exact absurd (show Value.type "list" =Value.type "module" from d) ∅
  have hN:(qN U.heap H).NoSeer:=#[let #[mc,x,y]:=ab.statics;#[mc,ac x,y],let #[mc,x,y]:=ab.mods;#[mc,ac x,y],let #[mc,x,y]:=ab.imp;#[mc,ac x,y],let #[mg',bm,ob,x,y,z,u,v]:=ab.main;#[mg',bm,ob,ac x,y,Y z (bn z u),u,v]];have hM:Mod K mg (qN U.heap H):=#[a1,ac an,#[mb,ac hb,a5],(let #[mc,h1,h2]:=ap;#[mc,ac h1,h2]),hN];have e0:uG P w K mg (qN U.heap H) callerA [] U H:=#[rfl,hM,λb o e=>L5 e,Nat.le_of_eq Ij,trivial,λb hb=>absurd (show b∈([]:List pc) from hb) (by simp),az,.of_eq hg];refine Uu ((F _ a1 (ac an)).run callerA [] U H #[[.ref a],[]] [.ref a] [.ref a] _ _ hr e0 (am U (.ref a)) (.cons rfl .nil) (bb H hO hS)) λr s' h=> ?_;cases r with
  | error e=>exact(bd H e s' h).elim
  | ok fl=>
   cases fl with
   | next=>exact pi h
   | brk=>exact pi h
   | cont=>exact pi h
   | ret u=>
    obtain⟨v,H',os,a2,un,a3,r',q⟩:=h;have q':v=.bl true:=q;subst q';obtain rfl:u=Value.bool true:=r';refine#[rfl,OldK.of_keep λb o e=> ?_,os,a2];cases q:H b with
    | none=>exact un.keep b o e q (by intro z;exact absurd (show b∈([]:List pc) from z) (by simp)) (by simp)
    | some u=>
     rcases hO b with z | ⟨ob,xs,z⟩;rw[q] at z;cases z;have z2:=un.frzs b ob _ z;obtain⟨e1,_⟩:=az b _ z;obtain⟨e2,_⟩:=a3 b _ z2;rw[e] at e1;cases e1;exact e2
 cases hk:K.lookup a with
 | some o=>
  have e:=KX a o hk;rw[ha] at e;cases e;refine al (λ_=>na) (λ_=>.inl rfl) (.inr #[_,vs.toArray,_,hk,rfl,rfl,rfl,by rw[xg,as];exact hl,by simpa using rv]) (λb u z=>by have z':(na:Option HO)=lH u:=z;cases z') (λb z=>absurd rfl z) λz=>absurd rfl z
 | none=>
  refine al (λb=>if b=a then lH (.frz {cls:=.type "list",data:=.seq vs.toArray} (.lst (ns.map V.int))) else na) (λb=> ?_) (.inl (.inr #[{cls:=.type "list",data:=.seq vs.toArray},if_pos rfl])) (λb u z=> ?_) (λb z=> ?_) λ_=>hk;by_cases hb:b=a;exact .inr #[_,_,if_pos hb];exact .inl (if_neg hb);by_cases hb:b=a;have z':=(if_pos hb).symm.trans z;cases z';subst hb;exact#[ha,by rw[ss];exact hl,vs,_,rv,ha];have z':=(if_neg hb).symm.trans z;cases z';by_cases hb:b=a;exact hb;exact absurd (if_neg hb) z
theorem LL {l:UG} {n k:Nat} {q:AC} {ab:List Str} {XP:(Str->Option ol)->Gc->Prop} {YP:Db->Gc->Prop} {d:DefRec} {K:Params->qh} {CX:Db->CXT} {sp:Db->Sp} {x:Str}
 (hn:l.most=lH n) (an:n<=sizeLine) (ap:d.params.defaults=[]) (hr:eR k callerA) (hi:importsNone q=on)
 (hY:∀(w:Db) (h:Gc),YP w h->(K w.params).In h)
 (F:∀(w:Db) (mg:Str->Option ol) (fa:pc) (h:Gc),(K w.params).In h->h.Ns mainGlobals mg->mg d.name=lH (.ref fa)->
  ∃fd:RB,(∀(s:r0) (u:ol),TY s fd #[[u],[]] [(x,u)])/\
   ∀base:Gc,(K w.params).In base->base.Ns mainGlobals mg->kb l.prog w (K w.params) mg base (CX w) k fa fd [x] (sp w))
 (as:∀(w:Db) (H:Hp) (a:pc) (ns:List Int),ns.length<=n->GG H->SqL (K w.params) H a (ns.map V.int)->sp w [.ref a] H (λv _=>v=.bl on) λ_ _ _=>False)
 (az:∀(w:Db) (H:Hp) (s:r0) (e:ol) (s':r0),CX w [] H s (λ_ _ _=>False) e s'->False):
 VG q ab XP YP l.row.toRowW d [] (λf vs=>Vx f vs):=by
 refine Att.ER hn ap λw s₀ al mg mb fa o pm cd a5 a vs ns G Y ho hd bb a0 am ac U hg=> ?_;have KX:=hY w _ Y;obtain⟨fd,hb,hF⟩:=F w mg fa _ KX G.T.g a0;exact KL KX G.T.g G.T.b G.T.builtins G.T.nolimit (G.T.seer hi) hg am ac (IR U an) hr hF hb (λH hO hS=>as w H a ns U hO hS) λH e s'=>az w H al e s'
def inClass(s:SX)(j:Nat):Stmt:=match s with
 | .ClassDef _ _ _ body _ _ _ _ _ _ _=>body.getD j (.Pass #[0,0,0,0])
 | _=>.Pass #[0,0,0,0]
def eJ(s:SX):Arguments:=match s with
 | .FunctionDef _ a _ _ _ _ _ _ _ _=>a
 | _=>{posonlyargs:=[],args:=[],vararg:=na,kwonlyargs:=[],kw_defaults:=[],kwarg:=na,defaults:=[]}
def dO(s:SX):List Stmt:=match s with
 | .FunctionDef _ _ b _ _ _ _ _ _ _=>b
 | _=>[]
def aL(s:SX):Scope:=match s with
 | .FunctionDef _ _ _ _ _ _ sc _ _ _=>sc
 | _=>{kind:=.function,names:=[],isGenerator:=false,isCoroutine:=false}
abbrev E0:XK:=λ_ _ _=>False
structure Fun(K:qh)(x qual:Str)(st:SX)(f:pc)(fd:RB):Prop where
 ex:∃(oc:ol) (od:Option pc) (kV doc pm:ol) (an:Option pc) (cdv ct:ol) (osl:Array (Option ol)),
  fd=PP x qual (eJ st) (dO st) (aL st) .none kV doc pm an cdv ct/\K.lookup f=lH #[oc,od,.func fd,osl]/\RO K cdv qual=on
 kp:Rm K (.ref f)=on
section
variable {P : AC} {w : Db} {K : qh} {mg : Str → Option ol} {base : Gc}
theorem Fun.binds {ps:List Str} (F:Fun K x qual st f fd)
 (h:∀(kV U pm:ol) (an:Option pc) (Y ct:ol) (us:List ol),us.length=ps.length->bindArgs (PP x qual (eJ st) (dO st) (aL st) .none kV U pm an Y ct) #[us,[]]=pure (ps.zip us)):Binds K fd ps []:=by
 obtain⟨oc,od,kV,U,pm,an,Y,ct,al,rfl,lk,am⟩:=F.ex;exact .all (h kV U pm an Y ct)
theorem rX {oc:ol} {od an:Option pc} {ab:Array (Option ol)} {kV Y pm U ct:ol} (l:K.lookup f=lH #[oc,od,.func (PP x qual (eJ st) (dO st) (aL st) .none kV Y pm an U ct),ab])
 (c:RO K U qual=on) (k:Rm K (.ref f)=on):Fun K x qual st f (PP x qual (eJ st) (dO st) (aL st) .none kV Y pm an U ct):=#[#[oc,od,kV,Y,pm,an,U,ct,ab,rfl,l,c],k]
end
section
variable {X : Cx}
theorem pv (i:Nat) {pos:Pos} (Y:X.N[i]? =lH x:=by rfl) (hv:Vis X.env.scope x:=by first | exact qb rfl | exact RD (qb rfl) | exact RD (RD rfl)) (hd:(x == ("__debug__" :Str))=false:=by decide)
 (U:(x == ("__classdict__" :Str))=false:=by decide):PE X (.Name x pos) (JT i):=NV Y hv hd U
end
theorem vT{A B:Prop}(h:B):if tt=on then A else B:=by rw[if_neg At];exact h
theorem uK{A B:Prop}(h:A):if on=on then A else B:=by rw[if_pos rfl];exact h
def bS(H H':Hp):Prop:=∀b o,H b=lH o->H' b=lH o
theorem bS.refl(H:Hp):bS H H:=λ_ _ h=>h
theorem bS.trans{H H1 H2:Hp}(a:bS H H1)(b:bS H1 H2):bS H H2:=λc o h=>b c o (a c o h)
theorem bS.seq{H H':Hp}{a:pc}{xs:List V}(e:bS H H')(h:SqL K H a xs):SqL K H' a xs:=by rcases h with(h | ⟨o,h⟩) | h;exact .inl (.inl (e _ _ h));exact .inl (.inr #[o,e _ _ h]);exact .inr h
def eL(env:Env):List (Str×RV)->List (Str×pc)->List (Str×pc)
 | [],cs=>cs
 | (n,k)::r,cs=>if k == .free then eL env r ((n,(env.cells.lookup n).getD 0)::cs) else eL env r cs
theorem zF{env:Env}:∀(names:List (Str×RV)) (cs:List (Str×pc)),(∀n,(n,NameKind.free)∈names->∃c,env.cells.lookup n=lH c)->
 (forIn names cs λ(x:Str×RV) (r:List (Str×pc))=>(if (x.2 == NameKind.free)=on then do
  let a <- cellOf env x.1
  pure (SI ((x.1,a)::r)) else pure (SI r):Sem (ForInStep (List (Str×pc)))))=pure (eL env names cs)
 | [],cs,_=>rfl
 | (n,k)::r,cs,h=>by
  rw[List.forIn_cons];by_cases hk:(k == NameKind.free)=on;have U:k=.free:=by simpa using hk
  subst U;obtain⟨c,hc⟩:=h n sH;simp only[hk,if_true,eL,cellOf,hc,pure_bind,Uj];exact zF r _ λm hm=>h m (sB _ hm);simp only[hk,if_false,eL,pure_bind];exact zF r cs λm hm=>h m (sB _ hm)
theorem B3{scope:Sj}{env:Env}(h:∀n,(n,NameKind.free)∈scope.names->∃c,env.cells.lookup n=lH c):closureFor scope env=pure (eL env scope.names []):=by have:=zF scope.names [] h;simp only[closureFor];rw[<- this];exact bind_pure _
theorem tT{env:Env}:∀(names:List (Str×RV)) (cs:List (Str×pc)),(∀n,(n,NameKind.free)∈names->∃c,env.cells.lookup n=lH c)->
 (∀x c,cs.lookup x=lH c->env.cells.lookup x=lH c)->∀x c,(eL env names cs).lookup x=lH c->env.cells.lookup x=lH c
 | [],cs,_,h,x,c,e=>h x c e
 | (n,k)::r,cs,hf,h,x,c,e=>by
  unfold eL at e;by_cases hk:(k == NameKind.free)=on;rw[if_pos hk] at e;have Y:k=.free:=by simpa using hk
  subst Y;refine tT r _ (λm hm=>hf m (sB _ hm)) (λy d q=> ?_) x c e;obtain⟨c',U⟩:=hf n sH;rw[Rt] at q;split at q;rename_i hy;have:y=n:=by simpa using hy
  subst this;rw[U,Uj] at q;rw[U];exact q;exact h y d q;rw[if_neg hk] at e;exact tT r cs (λm hm=>hf m (sB _ hm)) h x c e
theorem qW{env:Env}:∀(names:List (Str×RV)) (cs:List (Str×pc)) (x:Str),(∃c,cs.lookup x=lH c)->∃c,(eL env names cs).lookup x=lH c
 | [],cs,_,h=>h
 | (n,k)::r,cs,x,h=>by unfold eL;by_cases hk:(k == NameKind.free)=on;rw[if_pos hk];refine qW r _ x ?_;rw[Rt];split;exact#[_,rfl];exact h;rw[if_neg hk];exact qW r cs x h
theorem oB{env:Env}:∀(names:List (Str×RV)) (cs:List (Str×pc)) (x:Str),(x,NameKind.free)∈names->∃c,(eL env names cs).lookup x=lH c
 | (n,k)::r,cs,x,h=>by
  unfold eL;rcases vr.mp h with e | h
  cases e;rw[if_pos (by rfl)];refine qW r _ n ?_;exact#[_,by rw[Rt];simp;rfl];by_cases hk:(k == NameKind.free)=on;rw[if_pos hk];exact oB r _ x h;rw[if_neg hk];exact oB r cs x h
theorem fW:∀(names:List (Str×RV)) (n:Nat) (U:List (Str×pc)),cellsFrom n names U=cellsFrom n names []++U
 | [],_,_=>rfl
 | (x,k)::r,n,U=>by unfold cellsFrom;split;rw[fW r (n+1) ((x,n)::U),fW r (n+1) [(x,n)],R3];rfl;exact fW r n U
theorem ou:∀(names:List (Str×RV)) (n:Nat) {x:Str} {c:pc},(x,c)∈cellsFrom n names []->(x,NameKind.cell)∈names
 | [],_,_,_,h=>nomatch h
 | (y,k)::r,n,x,c,h=>by
  unfold cellsFrom at h;split at h;rename_i hk;have U:k=.cell:=by simpa using hk
  rw[fW] at h;rcases wn.mp h with q | q
  exact sB _ (ou r _ q);cases wf.mp q;rw[U];exact sH;exact sB _ (ou r _ h)
theorem Gq{c:pc}(h:(l++m).lookup x=lH c):l.lookup x=lH c\/(l.lookup x=na/\m.lookup x=lH c):=by
 rw[T6] at h;cases e:l.lookup x with
 | none=>rw[e] at h;exact .inr #[rfl,h]
 | some d=>rw[e] at h;exact .inl h
theorem vF(h:l.lookup x=na):(l++m).lookup x=m.lookup x:=by rw[T6,h];rfl
theorem DG(h:∃c,m.lookup x=lH c):∃c,(l++m).lookup x=lH c:=by
 cases e:l.lookup x with
 | none=>rw[vF e];exact h
 | some c=>exact#[c,by rw[T6,e];rfl]
theorem IP{h:Gc}{names:List (Str×RV)}:CellsOk (pushCells (h.push {cls:=.type "dict",data:=.dict #v[]}) names) (h.objs.size+1) (cellsFrom (h.objs.size+1) names []):=by have:=cellsFrom_ok names (h.push {cls:=.type "dict",data:=.dict #v[]}) (h.objs.size+1) [] #[λ_ _ hm=>(nomatch hm),Vc] (by rw[Heap.size_push];exact ut _);rwa [Heap.size_push] at this
theorem EE {M:Model} {A:KE} {E:ol->r0->Prop} {s:r0} {scope:Sj} {globals:pc} {U:List (Str×pc)} {qual:Str} {func:Option pc} {code:ol} {outer:Env} {builtins:pc} {Q:Env->r0->Prop}
 (Y:Q {scope:=scope,locals:=s.heap.objs.size,globals:=globals,cells:=cellsFrom (s.heap.objs.size+1) scope.names U,qual:=qual,func:=func,code:=outer.code,frame:=outer.frame,builtins:=outer.builtins} {s with heap:=pushCells (s.heap.push {cls:=.type "dict",data:=.dict #v[]}) scope.names}):
 wpAny M A (newFunctionEnv scope globals U [] qual func code (lH outer) builtins) Q E s:=by
 simp only[newFunctionEnv,Option.isSome_some,if_true];refine u8 (wpAny_alloc ?_);refine u8 (wpAny_layCells _ (λname kind cells=>by cases hkc:kind == NameKind.cell <;> simp[hkc]) _ _ _ _ ?_);rw[show ({s with heap:=s.heap.push {cls:=.type "dict",data:=.dict #v[]}}:r0).heap.objs.size=s.heap.objs.size+1 from Heap.size_push ..];refine u8 ?_;rw[List.forIn_nil];exact BG (BG Y)
def cxC(X:Cx)(scope:Sj)(N':List Str)(fp:List pc)(s:r0)(H:Hp):Cx where
 prog:=X.prog
 w:=X.w
 K:=X.K
 mg:=X.mg
 base:=X.base
 A:=X.A
 N:=N'
 s₀:=s
 H₀:=H
 env:=compEnvC scope (cellsFrom (s.heap.objs.size+1) scope.names (eL X.env scope.names [])) s.heap.objs.size X.env
 outer:=X.stack
 stack:=X.stack
 ex:=fp
 calm:=X.calm
 fn:=λx=>scope.names.lookup x == lH .cell
 pn:=[]
 xe:=λ_ _=>False
def mz(X:Cx)(scope:Sj):List Str->List Nat->Prop
 | [],[]=>True
 | x::xs,j::js=>X.N[j]? =lH x/\(X.env.scope.names.lookup x=lH .cell\/X.env.scope.names.lookup x=lH .free)/\scope.names.lookup x=lH .free/\mz X scope xs js
 | _,_=>False
theorem mz.get{X:Cx}{scope:Sj}:∀{xs:List Str} {U:List Nat} {i:Nat} {x:Str},mz X scope xs U->xs[i]? =lH x->
 ∃j,U[i]? =lH j/\X.N[j]? =lH x/\(X.env.scope.names.lookup x=lH .cell\/X.env.scope.names.lookup x=lH .free)/\scope.names.lookup x=lH .free
 | [],_,_,_,_,e=>by simp at e
 | _::_,[],_,_,h,_=>h.elim
 | y::ys,j::U,0,x,h,e=>by simp at e;subst e;exact#[j,rfl,h.1,h.2.1,h.2.2.1]
 | y::ys,j::U,i+1,x,h,e=>by obtain⟨Y,e1,r⟩:=mz.get (i:=i) (x:=x) h.2.2.2 (by simpa using e);exact#[Y,by simpa using e1,r]
theorem mz.length{X:Cx}{scope:Sj}:∀{xs:List Str} {U:List Nat},mz X scope xs U->xs.length=U.length
 | [],[],_=>rfl
 | [],_::_,h=>h.elim
 | _::_,[],h=>h.elim
 | _::_,_::_,h=>by rw[wT,wT,mz.length h.2.2.2]
def oO(m:Nat)(caps:List Nat)(σ:St):St:=ux m na++caps.map λi=>(σ[i]?).getD na
theorem lookup_mem{α β:Type}[BEq α][LawfulBEq α]:∀{l:List (α×β)} {x:α} {b:β},l.lookup x=lH b->(x,b)∈l
 | [],_,_,h=>by simp at h
 | (a,c)::r,x,b,h=>by
  rw[Rt] at h;split at h;rename_i q;have:x=a:=by simpa using q
  subst this;cases h;exact sH;exact sB _ (lookup_mem h)
section
variable {X : Cx}
theorem iy{scope:Sj}{env:Env}:∀{names:List (Str×RV)} {x:Str} {k:RV},(names.map λ(n,k)=>if (k == NameKind.free&&env.scope.kind == .function&&env.kindOf n == lH .cell) then (n,NameKind.cell) else (n,k)).lookup x=lH k->
 ∃U,names.lookup x=lH U/\(U=k\/(U=.free/\k=.cell))
 | [],_,_,h=>by simp at h
 | (n,k0)::r,x,k,h=>by
  have h':SJ x ((if (k0 == NameKind.free&&env.scope.kind == .function&&env.kindOf n == lH .cell)=on then (n,NameKind.cell) else (n,k0))::r.map _)=lH k:=h;by_cases hc:(k0 == NameKind.free&&env.scope.kind == .function&&env.kindOf n == lH .cell)=on;rw[if_pos hc,Rt] at h';rw[Rt];split at h';rename_i q;cases h';have hk:k0=.free:=by simp only[Rp] at hc;simpa using hc.1.1
  exact#[k0,rfl,.inr #[hk,rfl]];rename_i q;exact iy (scope:=scope) h';rw[if_neg hc,Rt] at h';rw[Rt];split at h';rename_i q;cases h';exact#[k0,rfl,.inl rfl];rename_i q;exact iy (scope:=scope) h'
structure nP(X:Cx)(scope:Sj)(own cap:List Str)(caps:List Nat):Prop where
 kind:scope.kind=.function
 cell:∀y∈scope.names,y.2=.cell->scope.names.lookup y.1=lH .cell
 nm:∀y∈scope.names,y.2=.local->scope.names.lookup y.1=lH .local
 fr:∀y∈scope.names,y.2=.free->y.1∈cap
 caps:mz X scope cap caps
 nd:(own++cap).Nodup
theorem nP.out{X:Cx}(S:nP X scope own cap caps){n:Str}(h:(n,NameKind.free)∈scope.names):X.env.scope.names.lookup n=lH .cell\/X.env.scope.names.lookup n=lH .free:=by obtain⟨i,hi,e⟩:=Rq (S.fr _ h rfl);obtain⟨_,_,_,k,_⟩:=S.caps.get (i:=i) (x:=n) (by rw[sn hi,e]);exact k
theorem KI {fp:List pc} {h1:Gc} {tk:Nat} (Sc:nP X scope own cap caps) (I:Inv X pins σ H s)
 (ab:∀b∈fp,mV X pins H b) (as:∀b∈fp,∃o,s.heap.get? b=lH o) (a3:h1.Ns s.heap.objs.size λ_=>na)
 (hk:∀b o,s.heap.get? b=lH o->h1.get? b=lH o) (Y:CellsOk h1 (s.heap.objs.size+1) (cellsFrom (s.heap.objs.size+1) scope.names [])):
 Inv (cxC X scope (own++cap) fp s H) [] (oO own.length caps σ) H {s with heap:=h1,toks:=tk}:=by
 have a4:∀n,(n,NameKind.free)∈scope.names->∃c,X.env.cells.lookup n=lH c:=λn hn=>I.ok.has n (Sc.out hn);have sub:∀x c,(eL X.env scope.names []).lookup x=lH c->X.env.cells.lookup x=lH c:=tT scope.names [] a4 (λx c e=>by simp at e);have fresh:H s.heap.objs.size=none:=I.hok.fresh (ut _);have U:∀x c,(cellsFrom (s.heap.objs.size+1) scope.names (eL X.env scope.names [])).lookup x=lH c->((x,c)∈cellsFrom (s.heap.objs.size+1) scope.names []/\s.heap.objs.size<c)\/((cellsFrom (s.heap.objs.size+1) scope.names []).lookup x=na/\X.env.cells.lookup x=lH c/\c<s.heap.objs.size):=λx c e=>by
  rw[fW] at e;rcases Gq e with q | ⟨q0,q⟩
  exact .inl #[mem_of_lookup q,(Y.empty x c (mem_of_lookup q)).2];have q':=sub x c q;obtain⟨v,o,ho,_⟩:=I.cell x c q';exact .inr #[q0,q',Heap.lt_size ho]
 have ac:∀x,scope.names.lookup x=lH .free->(cellsFrom (s.heap.objs.size+1) scope.names []).lookup x=none:=λx hx=>by
  cases e:(cellsFrom (s.heap.objs.size+1) scope.names []).lookup x with
  | none=>rfl
  | some c=>
   have:=Sc.cell _ (ou _ _ (mem_of_lookup e)) rfl;dsimp only at this;rw[hx] at this;cases this
 refine#[#[I.ok.mod,Sc.kind,I.ok.glob,I.ok.blt,ut _,λx y c e1 e2=> ?_,λx hx=> ?_,λx c h e=> ?_,I.ok.hd,I.ok.frames,.inl rfl,λb hb=>#[?_,λx c e=> ?_],I.bs,IR I.ok.bsz I.sz,λb o e hb=> ?_,λb hb hs=> ?_,I.stack,I.stkFree],
  rfl,I.bare,Un.kept hk,#[_,a3,λi x v e1 e2 e3=> ?_],λx c e=> ?_,fresh,λx c e=> ?_,λp hp=>absurd (show p∈([]:List (pc×Obj)) from hp) (by simp),I.hok.kept hk, ?_]
 rcases U x c e1 with⟨p1,p2⟩ | ⟨_,p1,p2⟩ <;> rcases U y c e2 with⟨q1,q2⟩ | ⟨_,q1,q2⟩;exact name_of_addr Y.apart p1 q1;exact absurd p2 (Vz.mpr (R9 q2));exact absurd q2 (Vz.mpr (R9 p2));exact I.ok.inj x y c p1 q1;have a5:(relabel scope X.env).names.lookup x=lH .cell\/(relabel scope X.env).names.lookup x=lH .free:=hx;have:(x,NameKind.free)∈scope.names\/scope.names.lookup x=lH .cell:=by rcases a5 with q | q;obtain⟨k',e1,e2⟩:=iy (scope:=scope) q;rcases e2 with rfl | ⟨rfl,_⟩;exact .inr e1;exact .inl (lookup_mem e1);obtain⟨k',e1,e2⟩:=iy (scope:=scope) q;rcases e2 with rfl | ⟨rfl,z⟩;exact .inl (lookup_mem e1);cases z
 rcases this with q | q;show ∃c,(cellsFrom (s.heap.objs.size+1) scope.names (eL X.env scope.names [])).lookup x=lH c;rw[fW];exact DG (oB scope.names [] x q);exact Uw.mp (SO scope.names _ _ (.inl q));have h':scope.names.lookup x=lH .cell:=by have:(scope.names.lookup x == lH NameKind.cell)=true:=h;simpa using this
 rcases U x c e with⟨_,p⟩ | ⟨p,_⟩;exact R9 p;have:=SO scope.names (s.heap.objs.size+1) [] (.inl h');rw[p] at this;cases this;obtain⟨o,ho⟩:=as b hb;exact FS (Heap.lt_size ho);rcases U x c e with⟨_,p⟩ | ⟨_,p,_⟩;obtain⟨o,ho⟩:=as b hb;exact λz=>absurd (Heap.lt_size ho) (Vz.mpr (R9 (z▸p)))
 exact(ab b hb).2.2.2.2.1 x c p;rcases(ab b hb).2.2.2.1 with z | z
 exact I.ok.noex b o e z;exact absurd (AT (Heap.lt_size e) (IR I.ok.bsz z)) (RM _);rcases vr.mp (I.stkSub b hs) with z | z
 exact(ab b hb).2.1 z;exact(ab b hb).2.2.1 z;have a0:(own++cap)[i]? =lH x:=e1;have hi:own.length<=i:=by by_cases q:i<own.length;unfold oO at e2;rw[wv (by simpa using q),G2] at e2;split at e2 <;> cases e2;omega
 rw[wE hi] at a0;obtain⟨j,hj,hN,a1,al⟩:=Sc.caps.get a0;unfold oO at e2;rw[wE (by simpa using hi)] at e2;simp only[SU,wP,hj,SF,Vb] at e2;have bb:σ[j]? =lH (lH v):=by
  cases q:σ[j]? with
  | none=>rw[q] at e2;simp at e2
  | some ov=>rw[q] at e2;simp at e2;rw[e2]
 obtain⟨m,hm,hl⟩:=I.loc;obtain⟨u,ru,lk⟩:=hl j x v hN bb (a1.elim (λz=>.inr (.inl z)) λz=>.inr (.inr z));refine#[u,ru,.inr #[?_, ?_]];rcases e3 with q | q | q
 obtain⟨k',w1,w2⟩:=iy (scope:=scope) (show (relabel scope X.env).names.lookup x=lH .local from q);rw[al] at w1;cases w1;rcases w2 with w | ⟨_,w⟩ <;> cases w
 exact .inl q;exact .inr q;rcases lk with⟨z,_⟩ | ⟨_,c,ec,hc⟩
 have z':X.env.scope.names.lookup x=lH .local:=z;rcases a1 with q | q <;> (rw[q] at z';cases z')
 obtain⟨c',a2⟩:=oB (env:=X.env) scope.names [] x (lookup_mem al);have:=sub x c' a2;rw[ec] at this;cases this;obtain⟨oc,am,an⟩:=hc;refine#[c, ?_,oc,hk _ _ am,an];show (cellsFrom (s.heap.objs.size+1) scope.names (eL X.env scope.names [])).lookup x=lH c;rw[fW,vF (ac x al)];exact a2;rcases U x c e with⟨p,_⟩ | ⟨_,p,_⟩
 exact#[na,(Y.empty x c p).1];obtain⟨v,oc,am,an⟩:=I.cell x c p;exact#[v,oc,hk _ _ am,an];rcases U x c e with⟨_,p⟩ | ⟨_,p,_⟩
 exact I.hok.fresh (R9 p);exact I.freeC x c p;unfold oO;have:=Sc.caps.length;simp[cxC,this]
theorem Jd {prog:AC} {w:Db} {A:KE} {R:U2->r0->Prop} {s:r0} {a0 U al:Do} {a1:List Do} {scope:Sj} {pos:Pos} {it a2:ol} {env:Env} (I:Nat->r0->Prop)
 (a4:∀n s,I n s->wpAny (model prog w) A (pyNext it) (λr Y=>match r with
  | none=>R (.ok .next) Y
  | some v=>wpAny (model prog w) A (letOwnedTupleGo U it v) (λ_ ab=>wpAny (model prog w) A (assign U env v) (λ_ am=>
   wpAny (model prog w) A (forIn a1 on λc r=>if r=on then do let ok <- isTrue c env (eval c env);pure (SI ok) else pure (SI r)) (λok ac=>
    if ok=on then wpAny (model prog w) A (eval a0 env) (λx an=>
     wpAny (model prog w) A (call (.builtin "list.append") [a2,x]) (λ_ ap=>∃m,m<n/\I m ap) (λ_ _=>False) an) (λ_ _=>False) ac
    else ∃m,m<n/\I m ac) (λ_ _=>False) am) (λ_ _=>False) ab) (λ_ _=>False) Y) (λ_ _=>False) s)
 (n:Nat) (h:I n s):
 codeAny (model prog w) A (.compLoop (.ListComp a0 [#[U,al,a1,0]] scope pos) 0 it a2 env) R s:=by
 refine codeAny_loop rfl I (λn s hI=> ?_) n h;show wpAny _ A ((compTurn (.ListComp a0 [#[U,al,a1,0]] scope pos) 0 it a2 env).onRaise (λx=>do noteFrame x env;theTreesLotGoes x)) _ _ s;refine wpAny_noted ?_;rw[compTurn_list];refine u8 (UN (u8 (R8 (a4 n s hI) (λr Y as=> ?_) λ_ _ h'=>h'.elim)));cases r with
 | none=>exact BG as
 | some v=>
  refine u8 (R8 as (λ_ ab a3=>u8 (R8 a3 (λ_ am a5=>u8 (R8 a5 (λok ac az=> ?_) λ_ _ h'=>h'.elim)) λ_ _ h'=>h'.elim)) λ_ _ h'=>h'.elim);cases ok with
  | false=>exact BG #[rfl,az]
  | true=>
   exact u8 (u8 (R8 az (λx an bb=>u8 (R8 bb (λ_ ap bd=>BG (BG #[rfl,bd])) λ_ _ h'=>h'.elim)) λ_ _ h'=>h'.elim))
def PTs(X:Cx)(U:List Do)(t:TT):Prop:=
 ∀(pins:List (pc×Obj)) (s:r0) (σ:St) (H:Hp) (Q:Bool->Hp->Prop),Inv X pins σ H s->t σ H Q->
  wpAny (model X.prog X.w) X.A (forIn U on λc r=>if r=on then do let ok <- isTrue c X.env (eval c X.env);pure (SI ok) else pure (SI r)) (TP X pins σ Q) X.xe s
def Le:TT:=λ_ H Q=>Q on H
theorem ck:PTs X [] Le:=λ_ _ _ H _ I h=>wpAny_tests_nil #[H,I,h]
theorem lr{c:Do}{t:TT}(h:PT X c t):PTs X [c] t:=λpins s σ H Q I q=>wpAny_tests_one (h pins s σ H Q I q)
def sO(m:Nat)(caps:List Nat)(wi:TI)(g:TG)(tc:TT)(te:TE):TE:=λσ H Q=>wi σ H λJ H1=>∀p,H1 p=na->
 ∃W:Nat->Nat->List V->St->Hp->Prop,(∃k,W 0 k [] (oO m caps σ) (upd H1 p (.lst [])))/\∀i k U ab H',W i k U ab H'->
  (J.stop i H'/\H' p=lH (.lst U)/\Q (.ref p) H')\/(J.go i H'/\∀x H2,J.yld i H' x H2->g x ab H2 λY H3=>tc Y H3 λb H4=>if b=on then
   te Y H4 λy H5=>H5 p=lH (.lst U)/\U.length<sizeLine/\∃k',k'<k/\W (i+1) k' (U++[y]) Y (upd H5 p (.lst (U++[y])))
   else ∃k',k'<k/\W (i+1) k' U Y H4)
theorem Jr{N':List Str}{pins Y:List (pc×Obj)}{σ ac:St}{H3 H':Hp}{s3 s':r0}(I3:Inv X pins σ H3 s3)(I':Inv (cxC X scope N' fp s3 H3) Y ac H' s')(U:∀b∈fp,mV X pins H3 b):Inv X pins σ H' s':=
 I3.call' (ch:=fp) I'.os I'.base I'.hok I'.bare λb hb=>#[(U b hb).2.2.2.1,(U b hb).2.1,(U b hb).2.2.2.2.1,(U b hb).2.2.2.2.2]
theorem zy {ab be bn:Do} {bp:List Do} {scope:Sj} {pos:Pos} {own cap:List Str} {caps:List Nat} {g:TG} {tc:TT} {te:TE} {pins:List (pc×Obj)} {σ:St} {H2:Hp} {U:r0} {it:pc} {fp:List pc} {tn:Nat->Gc->Prop} {J:It} {E:ol->r0->Prop}
 {RR:ol->pc->U2->r0->Prop} {Q:VK}
 (hc:X.calm=on) (Sc:nP X scope own cap caps)
 (hg:∀s H,PG (cxC X scope (own++cap) fp s H) ab g) (ht:∀s H,PTs (cxC X scope (own++cap) fp s H) bp tc) (he:∀s H,PE (cxC X scope (own++cap) fp s H) bn te)
 (I:Inv X pins σ H2 U) (T:Turn X.prog X.w X.K ab J fp it tn) (t0:tn 0 U.heap) (b4:∀b∈fp,mV X pins H2 b)
 (hQ:∀p,H2 p=na->∃W:Nat->Nat->List V->St->Hp->Prop,(∃k,W 0 k [] (oO own.length caps σ) (upd H2 p (.lst [])))/\∀i k Y as H',W i k Y as H'->
  (J.stop i H'/\H' p=lH (.lst Y)/\Q (.ref p) H')\/(J.go i H'/\∀x H2,J.yld i H' x H2->g x as H2 λa5 H3=>tc a5 H3 λb H4=>if b=on then
   te a5 H4 λy H5=>H5 p=lH (.lst Y)/\Y.length<sizeLine/\∃k',k'<k/\W (i+1) k' (Y++[y]) a5 (upd H5 p (.lst (Y++[y])))
   else ∃k',k'<k/\W (i+1) k' Y a5 H4))
 (cB:∀C p H' s' m,X.s₀.heap.objs.size<=C->C≠X.env.locals->(∀x c,X.env.cells.lookup x=lH c->c≠C)->(∀q∈X.pn++pins,q.1≠C)->H' C=na->s'.heap.Ns C m->Inv X pins σ H' s'->Q (.ref p) H'->RR (.ref p) C (.ok .next) s'):
 wpAny (model X.prog X.w) X.A (newList []) (λY b5=>wpAny (model X.prog X.w) X.A (newFunctionEnv scope X.env.globals (eL X.env scope.names []) [] X.env.qual na .none (lH X.env)) (λbi al=>
  codeAny (model X.prog X.w) X.A (.compStart (.ListComp bn [#[ab,be,bp,0]] scope pos) 0 (.ref it) Y {bi with scope:=relabel scope X.env}) (RR Y bi.locals) al) E b5) E U:=by
 refine SQ (EE ?_);dsimp only;have cI:H2 U.heap.objs.size=none:=I.hok.fresh (ut _);have I3:Inv X pins σ (upd H2 U.heap.objs.size (.lst [])) {U with heap:=U.heap.push {cls:=.type "list",dict:=na,data:=.seq ([]:List ol).toArray}}:=I.lnew (t':=U.toks) .nil (Rb _);obtain⟨W,⟨k0,w0⟩,b6⟩:=hQ U.heap.objs.size cI;have b7:∀b o,U.heap.get? b=lH o->(U.heap.push {cls:=.type "list",dict:=na,data:=.seq ([]:List ol).toArray}).get? b=lH o:=λb o e=>Heap.get?_push_of_some _ e;have c0:∀b∈fp,b≠U.heap.objs.size:=λb hb=>by obtain⟨o,ho,_⟩:=T.obj 0 U.heap t0 b hb;exact FS (Heap.lt_size ho)
 have a0:∀b∈fp,mV X pins (upd H2 U.heap.objs.size (.lst [])) b:=λb hb=>#[by rw[aY (c0 b hb)];exact(b4 b hb).1,(b4 b hb).2];have ce:∀b∈fp,∃o,(U.heap.push {cls:=.type "list",dict:=na,data:=.seq ([]:List ol).toArray}).get? b=lH o:=λb hb=>by obtain⟨o,ho,_⟩:=T.obj 0 U.heap t0 b hb;exact#[o,b7 b o ho]
 generalize ac:pushCells ((U.heap.push {cls:=.type "list",dict:=na,data:=.seq ([]:List ol).toArray}).push {cls:=.type "dict",data:=.dict #v[]}) scope.names=am;have ap:am.Ns (U.heap.push {cls:=.type "list",dict:=na,data:=.seq ([]:List ol).toArray}).objs.size λ_=>none:=by rw[<- ac];exact(Heap.Ns.new _ (.type "dict")).keeps (pushCells_keeps _ _)
 have hk:∀b o,(U.heap.push {cls:=.type "list",dict:=na,data:=.seq ([]:List ol).toArray}).get? b=lH o->am.get? b=lH o:=λb o e=>by rw[<- ac];exact pushCells_keeps _ _ b o (Heap.get?_push_of_some _ e)
 have bm:CellsOk am ((U.heap.push {cls:=.type "list",dict:=na,data:=.seq ([]:List ol).toArray}).objs.size+1) (cellsFrom ((U.heap.push {cls:=.type "list",dict:=na,data:=.seq ([]:List ol).toArray}).objs.size+1) scope.names []):=by rw[<- ac];exact IP
 clear ac;have ci:tn 0 am:=T.keep 0 _ _ t0 λb hb o e=>hk b o (b7 b o e);generalize cm:({U with heap:=U.heap.push {cls:=.type "list",dict:=na,data:=.seq ([]:List ol).toArray}}:r0)=s3 at I3;have c1:s3.heap=U.heap.push {cls:=.type "list",dict:=na,data:=.seq ([]:List ol).toArray}:=by rw[<- cm]
 rw[<- c1] at ap ce hk bm ⊢;generalize U.heap.objs.size=D at *;generalize ec:upd H2 D (.lst [])=H3 at *;have cn:∀al:r0,al={s3 with heap:=am}->
  codeAny (model X.prog X.w) X.A (.compLoop (.ListComp bn [#[ab,be,bp,0]] scope pos) 0 (.ref it) (.ref D) (compEnvC scope (cellsFrom (s3.heap.objs.size+1) scope.names (eL X.env scope.names [])) s3.heap.objs.size X.env)) (RR (.ref D) s3.heap.objs.size) al:=by
  rintro al rfl;have I4:=KI (tk:=s3.toks) Sc I3 a0 ce ap hk bm;have a4:∀{H':Hp},(∀b∈fp,H' b=na)->∀b∈fp,mV (cxC X scope (own++cap) fp s3 H3) [] H' b:=λhn b hb=>by refine#[hn b hb,(I4.ok.exf b hb).1,I4.ok.exfs b hb,.inl hb,(I4.ok.exf b hb).2,λp hp=>absurd (show p∈([]:List (pc×Obj)) from hp) (by simp)]
  refine Jd (λn s'=>∃i Y as H',Inv (cxC X scope (own++cap) fp s3 H3) [] as H' s'/\tn i s'.heap/\(∀b∈fp,H' b=na)/\W i n Y as H') ?_ k0 #[0,[],_,_,I4,ci,λb hb=>(a0 b hb).1,w0];rintro n s5 ⟨i,Y,bd,H5,I5,co,cp,w5⟩;rcases b6 i n Y bd H5 w5 with⟨cr,hp,q⟩ | ⟨go,step⟩
  refine thn (T.done (cxC X scope (own++cap) fp s3 H3) rfl rfl rfl hc i [] s5 bd H5 _ I5 (a4 cp) co cr) λr s6 #[hr,I6]=> ?_;subst hr;obtain⟨m,hm,_⟩:=I6.loc;refine cB s3.heap.objs.size D H5 s6 m I3.sz (U0 I3.lt) (λx c e=> ?_) (λp hp=> ?_) I6.free hm (Jr I3 I6 a0) q;obtain⟨v,o,ho,_⟩:=I3.cell x c e;exact FS (Heap.lt_size ho);exact FS (Heap.lt_size (I3.pin p hp).1);refine thn (T.item (cxC X scope (own++cap) fp s3 H3) rfl rfl rfl hc i [] s5 bd H5 _ I5 (a4 cp) co go) λr s6 #[u,hr,h6]=> ?_;subst hr;refine thn h6 λ_ s7 #[x,H7,I7,r7,y7,st7,fr7]=> ?_;have c2:=I7.pinned (a4 fr7) (T.obj _ _ st7);refine thn (hg s3 H3 _ s7 bd H7 x u _ c2 r7 (step x H7 y7)) λ_ s8 #[σ8,H8,I8,q8]=> ?_;refine thn (ht s3 H3 _ s8 σ8 H8 _ I8 q8) λb s9 #[H9,I9,q9]=> ?_;have again:∀{bz:St} {Hz:Hp} {sz:r0},Inv (cxC X scope (own++cap) fp s3 H3) ([]++uO fp s7.heap) bz Hz sz->Inv (cxC X scope (own++cap) fp s3 H3) [] bz Hz sz/\tn (i+1) sz.heap/\∀b∈fp,Hz b=none:=λ{bz Hz sz} Iz=>by refine#[Iz.unpinned,T.keep _ _ _ st7 λb hb o e=>(Iz.pin (b,o) (Fa _ (Fa _ (oI hb e)))).1,λb hb=> ?_];obtain⟨o,e,d⟩:=T.obj _ _ st7 b hb;exact(Iz.pin (b,o) (Fa _ (Fa _ (oI hb e)))).2.1
  cases b with
  | false=>
   rw[if_neg At] at q9 ⊢;obtain⟨k',b1,w'⟩:=q9;obtain⟨a1,a2,a3⟩:=again I9;exact#[k',b1,i+1,Y,σ8,H9,a1,a2,a3,w']
  | true=>
   rw[if_pos rfl] at q9 ⊢;refine thn (he s3 H3 _ s9 σ8 H9 _ I9 q9) λyv s10 #[y,H10,I10,r10,hp,hl,k',b1,w']=> ?_;refine thn (fQ _ s10 σ8 H10 (.ref D) [y] (.ref D) [yv] (λv Hz=>Hz=upd H10 D (.lst (Y++[y]))) I10 rfl (.cons r10 .nil) #[D,Y,y,rfl,rfl,hp,hl,rfl]) λ_ s11 #[_,H11,I11,_,e11]=> ?_;subst e11;obtain⟨a1,a2,a3⟩:=again I11;exact#[k',b1,i+1,Y++[y],σ8,_,a1,a2,a3,w']
 have cs:=cn _ rfl;subst cm;exact codeAny_compStart_list cs (T.self _ _ _ _ _ ci cs)
theorem PTs.ok{X:Cx}(I:Inv X pins σ H s)(U:nP X scope own cap caps):closureFor scope X.env=pure (eL X.env scope.names []):=
 B3 λn hn=>I.ok.has n (U.out hn)
theorem dg {U Y ab:Do} {ac:List Do} {pos:Pos} {wi:TI} {g:TG} {tc:TT} {te:TE} (hc:X.calm=on) (Sc:nP X scope own cap caps) (hi:PI X U Y wi)
 (hg:∀fp s H,PG (cxC X scope (own++cap) fp s H) U g) (ht:∀fp s H,PTs (cxC X scope (own++cap) fp s H) ac tc) (he:∀fp s H,PE (cxC X scope (own++cap) fp s H) ab te)
 (hs:∀x,foldedSetIterable Y X.env x=pure x:=by intro _;rfl):PE X (.ListComp ab [#[U,Y,ac,0]] scope pos) (sO own.length caps wi g tc te):=by
 intro pins s σ H Q I h;rw[eval_ListComp];refine Ur (use:=na) rfl hs (PTs.ok I Sc) Sc.kind Sc.nm (thn (hi pins s σ H _ I h) λv s1 h1=>thn h1 λa1 s2 h2=> ?_);obtain⟨it,fp,tn,J,H2,e,I2,T,am,f2,q⟩:=h2;subst e;refine zy (Q:=Q) (RR:=λan C=>compPost (model X.prog X.w) X.A X.xe na (EP X pins σ Q) an C) hc Sc (hg fp) (ht fp) (he fp) I2 T am f2 q ?_;intro C p H' s' m h1 h2 h3 h4 h5 hn I' q';exact#[m,hn,λh' ap=>#[.ref p,H',I'.turned (it:=C) (t':=s'.toks) (λb o hb e=>ap.extBut b o hb e) h5 (S1 h2.symm) (.inr h1) h3 h4,rfl,q']]
theorem cP {U Y ab:Do} {ac:List Do} {pos al py:Pos} {wi:TI} {g:TG} {tc:TT} {te:TE} {i:Nat} {y:Str} (hc:X.calm=on) (Sc:nP X scope own cap caps) (hi:PI X U Y wi)
 (hg:∀fp s H,PG (cxC X scope (own++cap) fp s H) U g) (ht:∀fp s H,PTs (cxC X scope (own++cap) fp s H) ac tc) (he:∀fp s H,PE (cxC X scope (own++cap) fp s H) ab te)
 (hN:X.N.Nodup) (hx:X.N[i]? =lH y) (hl:Loc X.env.scope y)
 (ap:swapsWith (.ListComp ab [#[U,Y,ac,0]] scope pos) (lH (.Name y py)) al.line X.env=pure on)
 (hs:∀x,foldedSetIterable Y X.env x=pure x:=by intro _;rfl) (hf:X.fn y=on\/X.env.scope.names.lookup y=lH .local:=by first | exact .inl rfl | exact .inr rfl | assumption):
 PS X (.Assign [.Name y py] (.ListComp ab [#[U,Y,ac,0]] scope pos) al) (DH (sO own.length caps wi g tc te) (we i)):=by
 intro pins s σ H D I h;rw[exec_Assign_Name_used _ _ _ _ ap];refine u8 (UN (u8 ?_));show wpAny _ _ (do let _ <- comprehension (.ListComp ab [#[U,Y,ac,0]] scope pos) scope X.env _ (newList []) tt (eval Y X.env) (lH (assign (.Name y py) X.env))) _ _ s;refine u8 (R8 (Ur (use:=lH (assign (.Name y py) X.env)) (Q:=λ_ s'=>SP X pins D .next s') rfl hs (PTs.ok I Sc) Sc.kind Sc.nm
  (thn (hi pins s σ H _ I h) λv s1 h1=>thn h1 λbi s2 h2=> ?_)) (λ_ s' hq=>BG (BG hq)) λ_ _ e=>e)
 obtain⟨it,fp,tn,J,H2,e,I2,T,as,f2,q⟩:=h2;subst e;refine zy (Q:=λv H'=>we i v σ H' D.nx) (RR:=λaz C=>compPost (model X.prog X.w) X.A X.xe (lH (assign (.Name y py) X.env)) (λ_ s'=>SP X pins D .next s') az C) hc Sc (hg fp) (ht fp) (he fp) I2 T as f2 q ?_;intro C p H' s' m h1 h2 h3 h4 h5 hn I' q';show wpAny _ _ (assign (.Name y py) X.env (.ref p)) _ _ _;refine U4 (BH I' hN hx hl (show RelV (.ref p) (.ref p) from rfl) (λs'' I'' #[a,hsb,ha]=> ?_) hf);have a0:C≠a:=by rcases ha with rfl | ha;exact h2;exact(h3 _ _ ha).symm
 exact#[m,hn.sameBut hsb a0,λh' a1=>#[_,H',I''.turned (it:=C) (t':=s''.toks) (λb o hb e=>a1.extBut b o hb e) h5 h2 (.inr h1) h3 h4,q']]
end
section
variable {X : Cx}
def LB(K:qh):R2:=λx y H Q=>∃l b xs zs,x=.ref l/\y=.ref b/\SqL K H l xs/\SqL K H b zs/\xs.length+zs.length<=sizeLine/\∀p,H p=na->Q (.ref p) (upd H p (.lst (xs++zs)))
theorem Mj:OpR X (binaryOp .Add) (LB X.K):=by
 intro pins s σ H x y v u Q I rx ry h;obtain⟨l,b,xs,zs,rfl,rfl,hH,hB,hz,q⟩:=h;cases rx;cases ry;obtain⟨Y,r,pl,_⟩:=I.list hH;obtain⟨U,r2,am,_⟩:=I.list hB;obtain⟨⟨cls,dd,data,sl⟩,ho,hc,n,hd⟩:=pl.isList;obtain⟨⟨az,an,data2,ap⟩,ab,ac,n2,al⟩:=am.isList;simp only at hc hd ac al;subst hc hd ac al;have e:Y.toArray++U.toArray=(Y++U).toArray:=by simp
 have bb:=r.length;have bd:=r2.length;refine concat_meets #[_,ho,rfl] #[_,ab,rfl] noFill_list_add seq_list_add PySem.F.slot_list_add PySem.F.entry_list_add (PySem.F.args_list_add_2 _ _) (list_addW l b Y.toArray U.toArray n n2 dd an sl ap (by simp only[xg];omega)) #[ho,ab, ?_];rw[e];exact#[.ref _,_,I.lnew (t':=s.toks) (r.append r2) (by rw[x0];omega),rfl,q _ I.fresh]
mutual
def RdV(K:qh)(H:Hp):Up->V->Prop
 | .none,v=>v=.non
 | .bool b,v=>v=.bl b
 | .int i,v=>v=.int i
 | .str x,v=>v=.str x
 | .list ds,v=>∃a xs,v=.ref a/\SqL K H a xs/\uc K H ds xs
 | .tuple ds,v=>∃a xs,v=.ref a/\SqT K H a xs/\uc K H ds xs
 | .dict _,_=>False
def uc(K:qh)(H:Hp):List Up->List V->Prop
 | [],xs=>xs=[]
 | d::ds,xs=>∃v r,xs=v::r/\RdV K H d v/\uc K H ds r
end
mutual
theorem n4{pins:List (pc×Obj)}{σ:St}{H:Hp}{s:r0}(I:Inv X pins σ H s):∀{d:Up} {v:V} {u:ol},RdV X.K H d v->RelV v u->∃U,Reads s.heap u d U
 | .none,v,u,h,r=>by unfold RdV at h;subst h;cases (show u=Value.none from r);exact#[_,.none]
 | .bool b,v,u,h,r=>by unfold RdV at h;subst h;cases (show u=Value.bool b from r);exact#[_,.bool b]
 | .int i,v,u,h,r=>by unfold RdV at h;subst h;obtain⟨t,rfl⟩:=(show ∃t,u=Value.int i t from r);exact#[_,.int i t]
 | .str x,v,u,h,r=>by unfold RdV at h;subst h;obtain⟨t,rfl⟩:=(show ∃t,u=Value.str x t from r);exact#[_,.str x t]
 | .list ds,v,u,h,r=>by unfold RdV at h;obtain⟨a,xs,rfl,hs,hr⟩:=h;cases (show u=Value.ref a from r);obtain⟨Y,rv,pl,_⟩:=I.list hs;obtain⟨o,ho,hc,n,hd⟩:=pl.isList;obtain⟨U,ra⟩:=tD I hr rv;exact#[_,.list ho hc hd (by simpa using ra)]
 | .tuple ds,v,u,h,r=>by unfold RdV at h;obtain⟨a,xs,rfl,hs,hr⟩:=h;cases (show u=Value.ref a from r);obtain⟨Y,rv,⟨o,ho,hc,n,hd⟩,_⟩:=I.tuple hs;obtain⟨U,ra⟩:=tD I hr rv;exact#[_,.tuple ho hc hd (by simpa using ra)]
 | .dict _,v,u,h,r=>by unfold RdV at h;exact h.elim
theorem tD{pins:List (pc×Obj)}{σ:St}{H:Hp}{s:r0}(I:Inv X pins σ H s):∀{ds:List Up} {xs:List V} {us:List ol},uc X.K H ds xs->Vals xs us->∃U,ReadsAll s.heap us ds U
 | [],xs,us,h,r=>by unfold uc at h;subst h;cases r;exact#[_,.nil]
 | d::ds,xs,us,h,r=>by
  unfold uc at h;obtain⟨v,w,rfl,h1,h2⟩:=h;cases r with
  | cons r1 r2=>
   obtain⟨U,Y⟩:=n4 I h1 r1;obtain⟨bs,a2⟩:=tD I h2 r2;exact#[_,.cons Y a2]
end
def NG(K:qh):R2:=λx y H Q=>∃d e,RdV K H d x/\RdV K H e y/\SeqAt.shaped d=on/\SeqAt.shaped e=on/\Q (.bl (PyData.eqv d e)) H
def OD(K:qh):R2:=λx y H Q=>∃d e,RdV K H d x/\RdV K H e y/\SeqAt.shaped d=on/\SeqAt.shaped e=on/\Q (.bl (!PyData.eqv d e)) H
theorem NY(hu:X.A.units+64<cLine):OpR X (compareOp .Eq) (NG X.K):=by intro pins s σ H x y v u Q I U Y h;obtain⟨d,e,h1,h2,s1,s2,q⟩:=h;obtain⟨as,ra⟩:=n4 I h1 U;obtain⟨bs,rb⟩:=n4 I h2 Y;exact SeqAt.compareEq_shaped ra rb s1 s2 hu #[.bl _,H,I,rfl,q]
theorem Nx(hu:X.A.units+64<cLine):OpR X (compareOp .NotEq) (OD X.K):=by intro pins s σ H x y v u Q I U Y h;obtain⟨d,e,h1,h2,s1,s2,q⟩:=h;obtain⟨as,ra⟩:=n4 I h1 U;obtain⟨bs,rb⟩:=n4 I h2 Y;exact SeqAt.compareNe_shaped ra rb s1 s2 hu #[.bl _,H,I,rfl,q]
def Pf(K:qh)(H:Hp)(x:V)(T:String):Prop:=match x with
 | .non=>T="NoneType"
 | .bl _=>T="bool"
 | .int _=>T="int"
 | .str _=>T="str"
 | .ref a=>(T="list" /\∃xs,SqL K H a xs)\/(T="tuple" /\∃xs,SqT K H a xs)
 | _=>False
def Ki(K:qh):List V->Hp->VK->Prop:=λxs H Q=>∃x c T b,xs=[x,.ty c]/\Pf K H x T/\VB K (.type T) (.type c)=lH b/\Q (.bl b) H
theorem DF:nt X (.builtin "isinstance") (Ki X.K):=by
 intro pins s σ H xs us Q I r h;obtain⟨x,c,T,b,rfl,Y,hk,q⟩:=h;obtain⟨u,w,rfl,r1,r2⟩:=vals2 r;cases (show w=Value.type c from r2);have U:∀tk,EP X pins σ Q (.bool b) {s with toks:=tk}:=λtk=>#[.bl b,H,I.tok tk,rfl,q];cases x with
 | non=>cases (show u=Value.none from r1);cases (show T="NoneType" from Y);exact SH PySem.W.kitx_none I.kIn TL hk (λz=>nomatch z) U
 | bl y=>cases (show u=Value.bool y from r1);cases (show T="bool" from Y);exact SH PySem.W.kitx_bool I.kIn TL hk (λz=>nomatch z) U
 | int i=>obtain⟨t,e⟩:=(show ∃t,u=Value.int i t from r1);cases e;cases (show T="int" from Y);exact SH PySem.W.kitx_int I.kIn TL hk (λz=>nomatch z) U
 | str y=>obtain⟨t,e⟩:=(show ∃t,u=Value.str y t from r1);cases e;cases (show T="str" from Y);exact SH PySem.W.kitx_str I.kIn TL hk (λz=>nomatch z) U
 | ref a=>
  cases (show u=Value.ref a from r1);rcases Y with⟨rfl,xs,hs⟩ | ⟨rfl,xs,hs⟩
  obtain⟨ab,rv,⟨o,n,ho,hc,_⟩,_⟩:=I.list hs;exact SH PySem.W.kitx_list I.kIn #[o,ho,hc] hk (λz=>nomatch z) U;obtain⟨ab,rv,⟨o,ho,hc,_⟩,_⟩:=I.tuple hs;exact SH PySem.W.kitx_tuple I.kIn #[o,ho,hc] hk (λz=>nomatch z) U
 | byt y=>exact pi Y
 | flt y=>exact pi Y
 | ty y=>exact pi Y
end
structure Q2(S:List pc)(e:pc)(oe:Obj)(h h':Gc)(T:pc):Prop where
 keep:∀b o,h.get? b=lH o->b∉S->b≠e->h'.get? b=lH o
 slot:∀b o,h.get? b=lH o->b∈S->∃sl,h'.get? b=lH {o with slots:=sl}
 new:h.objs.size<=T
 ne:T≠e
 exc:∃oe' vs,h'.get? e=lH oe'/\oe'.cls=oe.cls/\oe'.dict=oe.dict/\oe'.data=.fields vs/\vs[1]? =lH (.ref T)
 trc:∃oT ts,h'.get? T=lH oT/\oT.data=.fields ts/\ts[3]? =lH .none
section
variable {M : Model} {A : KE} {E : ol → r0 → Prop} {s : r0}
structure Trc(h:Gc)(e:pc)(oe:Obj)(T:pc):Prop where
 exc:h.get? e=lH oe
 dat:∃vs,oe.data=.fields vs/\vs[1]? =lH (.ref T)
 ne:T≠e
 trc:∃oT ts,h.get? T=lH oT/\oT.data=.fields ts/\ts[3]? =lH .none
end
structure OZ(P:AC)(w:Db)(fs:List pc)(H:Hp)(h:Gc)(x:pc)(H':Hp)(h':Gc)(oe:Obj)(T C:pc):Prop where
 un:Un fs [] H H' h h'
 hok:HOk P w H' h'
 nx:h.get? x=na
 nT:h.get? T=na
 hx:H' x=na
 hT:H' T=na
 tr:Trc h' x oe T
 cls:oe.cls=.ref C
def CXE(P:AC)(w:Db):CXT:=λouter H s E e s'=>∃x U T H' C,e=.ref x/\s'.os=s.os/\Tk s'.gens/\OZ P w (frs outer) H s.heap x H' s'.heap U T C/\E (.ref C) U.dict H'
section
variable {X : Cx} {pins : List (pc × Obj)} {σ : St} {H : Hp} {s : r0}
end
section
variable {P : AC} {w : Db} {K : qh} {mg : Str → Option ol} {base : Gc} {N : List Str} {qual : Str} {scope : Sj} {f : pc} {cd : ol} {A : KE} {outer : List Env} {s0 : r0} {H0 : Hp} {E : XK}
end
section
variable {X : Cx} {E : XK} {c : Str} {C : pc} {np cpos pos : Pos} {e : Do} {es : List Do} {t : TA} {B newId initId : String} {bmB : List ol}
end
section
variable {P : AC} {w : Db} {K : qh} {mg : Str → Option ol} {base : Gc}
theorem Fun.okE {CX:CXT} {N ps:List Str} {k:Nat} {sp:Sp} (F:Fun K x qual st f fd) (S:a7 N ps (aL st)) (Y:∀vs H Q E,sp vs H Q E->vs.length=ps.length)
 (hb:∀(U:ol) (A:KE) (outer:List Env) (s:r0) (H:Hp) (vs:List V) (Q:VK) (E:XK),eR k (A.deeper (envOfC qual (aL st) s.heap.objs.size f U))->sp vs H Q E->
  ∃t,PSs (vE CX P w K mg base N qual (aL st) f U A outer s H E) (dO st) t/\t {nx:=λ_ H'=>Q .non H',rt:=Q} (start N vs) H):kb P w K mg base CX (k+1) f fd ps sp:=by
 obtain⟨oc,od,kV,ac,pm,an,U,ct,al,rfl,look,ab⟩:=F.ex;exact ON look ab S Y (hb U)
end
theorem Kh {l:UG} {n k:Nat} {q:AC} {U:List Str} {XP:(Str->Option ol)->Gc->Prop} {YP:Db->Gc->Prop} {d:DefRec} {K:Params->qh} {sp:qh->Sp} {x:Str} (hn:l.most=lH n) (Y:n<=sizeLine)
 (ab:d.params.defaults=[]) (hr:eR k callerA) (hi:importsNone q=on) (hY:∀(w:Db) (h:Gc),YP w h->(K w.params).In h) (F:∀(w:Db) (mg:Str->Option ol) (fa:pc) (h:Gc),(K w.params).In h->h.Ns mainGlobals mg->mg d.name=lH (.ref fa)->
  ∃fd:RB,(∀(s:r0) (u:ol),TY s fd #[[u],[]] [(x,u)])/\∀base:Gc,(K w.params).In base->base.Ns mainGlobals mg->kb l.prog w (K w.params) mg base (CXE l.prog w) k fa fd [x] (sp (K w.params)))
 (ac:∀(K:qh) (H:Hp) (a:pc) (ns:List Int),ns.length<=n->GG H->SqL K H a (ns.map V.int)->sp K [.ref a] H (λv _=>v=.bl on) λ_ _ _=>False):VG q U XP YP l.row.toRowW d [] (λf vs=>Vx f vs):=
 LL (K:=K) (CX:=λw=>CXE l.prog w) (sp:=λw=>sp (K w.params)) hn Y ab hr hi hY F (λw H a ns h1 h2 h3=>ac (K w.params) H a ns h1 h2 h3) λ_ _ _ _ _ #[_,_,_,_,_,_,_,_,_,z]=>z
section
variable {X : Cx} {CX : CXT} {k : Nat} {f C : pc} {fd : RB} {ps : List Str} {sp : Sp} {dvs : List V} {ds : List ol} {Es : St → XK} {x m : Str} {p pos apos : Pos} {e o : Do} {es : List Do} {ta : TE} {t : TA}
end
section
variable {X : Cx} {pins : List (pc × Obj)} {σ : St} {H : Hp} {s : r0} {E : ol → r0 → Prop}
end
def exO(a C:pc):HO:=.ext λh=>∃o,h.get? a=lH o/\o.cls=.ref C/\o.dict=na/\(∀cd,o.data≠ .cls cd)
section
variable {X : Cx} {pins : List (pc × Obj)} {σ : St} {H : Hp} {s : r0} {v : ol}
end
structure QP(X:Cx)(pins:List (pc×Obj))(H:Hp)(s:r0)(x C:pc):Prop where
 tr:∃oe T,Trc s.heap x oe T/\oe.cls=.ref C/\oe.dict=na
 hx:H x=na
 h0:X.s₀.heap.get? x=na
 nl:x≠X.env.locals
 nc:∀y c,X.env.cells.lookup y=lH c->c≠x
 np:∀p∈X.pn++pins,p.1≠x
section
variable {X : Cx} {c : Str} {Dc : pc} {np pos : Pos} {b0 : SX} {suite : List SX} {rest : List ExceptHandler} {sub : pc → Option Bool} {tb : TS} {th : pc → TS}
end
open PySem PySem.Spec PyProof.Rows PySem.W
structure ExK(K:qh)(D:pc):Prop where
 ga:findIn K (.ref D) "__getattribute__" =lH (lH (.builtin "BaseException.__getattribute__"))
 hk:findIn K (.ref D) "__getattr__" =lH na
 cl:findIn K (.ref D) "__class__" =lH (lH (.builtin "object.__class__"))
 gt:specialIn K (.builtin "object.__class__") "__get__" =lH (lH (.builtin "getset_descriptor.__get__"))
 tk:takesIn K (.builtin "object.__class__")=lH on
 ob:mroIn K D (.type "object")=lH on
 be:mroIn K D (.type "BaseException")=lH on
section
variable {prog : AC} {w : Db} {A : KE} {E : ol → r0 → Prop} {s : r0} {K : qh} {x D : pc} {ox : Obj}
end
open PySem PySem.Spec PyProof.Rows
section
variable {X : Cx} {pins : List (pc × Obj)} {σ : List (Option V)} {H : Hp} {s : r0} {h' : Gc}
theorem Inv.turnedL{t':Nat}{ch:List pc}(I:Inv X pins σ H s)(k:∀b o,b∉ch->s.heap.get? b=lH o->h'.get? b=lH o)(Y:∀b∈ch,mV X pins H b):Inv X pins σ H {s with heap:=h',toks:=t'}:=by
 have U:∀b u,H b=lH u->b∉ch:=λb u e z=>by rw[(Y b z).1] at e;cases e
 refine I.step (g':=s.gens) (d':=s.drawn) (ch:=ch) (λb hb=> ?_) (λb o _ _ hc e _=>k b o hc e) (λb o _ _ hc e _=>#[o.slots,k b o hc e]) (λ_ _ _ _ n=>n)
  (λb o hc e=>#[o,k b o hc e]) (λ_ _ e=>e) (λ_ _ _ e=>e) (λb ps e=>#[#v[],by rw[e];simp]) (λm hm=> ?_) (λb u e=> ?_) I.bare
 obtain⟨f0,f1,f2,f3,f4,f5⟩:=Y b hb;exact#[f3,f1,f4,f5];obtain⟨o,es,ep,ho,r⟩:=hm;exact#[o,es,ep,k _ o (λz=>(Y _ z).2.1 rfl) ho,r];refine(I.hok b u e).stay (λc v hc q=>k c v ?_ q) (λ_ q=>q) λ_ _ q=>q;rcases hc with z | z
 rw[z];exact U b u e;exact U c _ z
theorem Inv.turnedT {t':Nat} {ch:List pc} {T:pc} {xs:List V} (I:Inv X pins σ H s) (k:∀b o,b∉ch->s.heap.get? b=lH o->h'.get? b=lH o) (Y:∀b∈ch,mV X pins H b) (hT:s.heap.objs.size<=T)
 (ab:ie X.prog X.w (upd H T (.tup xs)) h' T (.tup xs)):Inv X pins σ (upd H T (.tup xs)) {s with heap:=h',toks:=t'}:=by
 have hn:H T=none:=I.hok.fresh hT;have U:∀b u,H b=lH u->b∉ch:=λb u e z=>by rw[(Y b z).1] at e;cases e
 refine I.step (g':=s.gens) (d':=s.drawn) (ch:=ch) (λb hb=> ?_) (λb o _ _ hc e _=>k b o hc e) (λb o _ _ hc e _=>#[o.slots,k b o hc e]) (λb o _ e n=> ?_)
  (λb o hc e=>#[o,k b o hc e]) (λb xs e=>by rw[aY (fH e hn)];exact e) (λb o u e=>by rw[aY (fH e hn)];exact e) (λb ps e=>#[#v[],by rw[aY (fH e hn),e];simp]) (λm hm=> ?_) (λb u e=> ?_) I.bare
 obtain⟨f0,f1,f2,f3,f4,f5⟩:=Y b hb;exact#[f3,f1,f4,f5];have hb:b≠T:=λz=>by subst z;exact absurd (AT (Heap.lt_size e) hT) (RM _)
 rw[aY hb];exact n;obtain⟨o,es,ep,ho,r⟩:=hm;exact#[o,es,ep,k _ o (λz=>(Y _ z).2.1 rfl) ho,r];by_cases hb:b=T;subst hb;rw[cH] at e;cases e;exact ab;rw[aY hb] at e;refine(I.hok b u e).stay (λc v hc q=>k c v ?_ q) (λc q=>by rw[aY (fH q hn)];exact q) λc xs q=>by rw[aY (fH q hn)];exact q
 rcases hc with z | z;rw[z];exact U b u e;exact U c _ z
end
def Itz(K:qh)(a b:pc):It:=
 #[λi H=>∃xs ys x y,SqL K H a xs/\SqL K H b ys/\xs[i]? =lH x/\ys[i]? =lH y,
  λi H v H'=>∃T x y,H T=na/\v=.ref T/\H'=upd H T (.tup [x,y])/\(∀xs,SqL K H a xs->xs[i]? =lH x)/\∀ys,SqL K H b ys->ys[i]? =lH y,
  λi H=>∃xs ys,SqL K H a xs/\SqL K H b ys/\(xs.length<=i\/ys.length<=i)]
def Ite(K:qh)(a:pc):It:=
 #[λi H=>∃xs x,SqL K H a xs/\xs[i]? =lH x,
  λi H v H'=>∃T x,H T=na/\v=.ref T/\H'=upd H T (.tup [.int i,x])/\∀xs,SqL K H a xs->xs[i]? =lH x,
  λi H=>∃xs,SqL K H a xs/\xs.length<=i]
def Its(x:Str):It:=#[λi _=>i<x.cps.size,λi H v H'=>H'=H/\∃c,x.cps[i]? =lH c/\v=.str #[#v[c]],λi _=>x.cps.size<=i]
theorem IZ{h:Gc}{T:pc}{x y:V}{u v:ol}(U:RelV x u)(Y:RelV y v)(hT:h.IsTuple T #v[u,v]):ie P w H h T (.tup [x,y]):=by refine#[by simp only[wT,UF];rw[SN];decide,[u,v],.cons U (.cons Y .nil), ?_];exact hT
theorem J8{P:AC}{w:Db}{K:qh}{elts:List Do}{kk:Nat}{tp:Pos}{z TI TO i1 i2 a b:pc}(D:ZipApart z TI TO i1 i2 a b):
 Turn P w K (.Tuple elts kk tp) (Itz K a b) [z,TI,TO,i1,i2] z (λi h=>IsZip h z TI TO .none/\IsPair h TI (.ref i1) (.ref i2)/\(∃u v,IsPair h TO u v)/\h.IsListIter i1 a i/\h.IsListIter i2 b i) where
 mem:=by simp
 obj:=λi h st c hc=>by
  obtain⟨q1,q2,⟨u,v,q3⟩,⟨o1,e1,c1,d1⟩,⟨o2,e2,c2,d2⟩⟩:=st;simp only[vr,R7,or_false] at hc;rcases hc with rfl | rfl | rfl | rfl | rfl
  exact#[_,q1,λv z=>by have z':Data.fields _=Data.cell v:=z;cases z'];exact#[_,q2,λv z=>by have z':Data.seq _ _=Data.cell v:=z;cases z'];exact#[_,q3,λv z=>by have z':Data.seq _ _=Data.cell v:=z;cases z'];exact#[o1,e1,λv z=>by rw[d1] at z;cases z];exact#[o2,e2,λv z=>by rw[d2] at z;cases z]
 keep:=λi h h' st k=>by obtain⟨q1,q2,⟨u,v,q3⟩,q4,q5⟩:=st;exact#[k z (by simp) _ q1,k TI (by simp) _ q2,#[u,v,k TO (by simp) _ q3],q4.at λo e=>k i1 (by simp) o e,q5.at λo e=>k i2 (by simp) o e]
 item:=by
  intro X hP hw hK hc i pins s σ H E I hf st hg;subst hP hw hK;obtain⟨xs,ys,x,y,hq1,hq2,hx,hy⟩:=hg;obtain⟨its1,rv1,p1,hz1⟩:=I.list hq1;obtain⟨its2,rv2,p2,hz2⟩:=I.list hq2;obtain⟨u,hu,ru⟩:=rv1.get hx;obtain⟨v,hv,rv⟩:=rv2.get hy;obtain⟨q1,q2,q3,q4,q5⟩:=id st;have W:=WalksT.zip2 (prog:=X.prog) (w:=X.w) (A:=X.A) (I.ok.hd hc) z TI TO i1 i2 a b D its1.toArray its2.toArray;have hi1:i<its1.length:=(xL.mp hu).1;have hi2:i<its2.length:=(xL.mp hv).1;refine W.item i s _ _ (by simp;omega) #[q1,q2,q3,q4,q5,p1.isList,p2.isList] λT vals h1 tk hP hT isT mid kk1=>#[.ref T,rfl,W.go elts _ tp i T _ _ _ mid λh2 st2 kk2=> ?_];obtain⟨u',v',e1,e2,rfl⟩:=hP;rw[show its1.toArray[i]? =its1[i]? by simp,hu] at e1;rw[show its2.toArray[i]? =its2[i]? by simp,hv] at e2;cases e1;cases e2;have nT:T∉([z,TO,i1,i2]:List pc):=W.apart i T _ mid;have sub:∀c,c∈([z,TO,i1,i2]:List pc)->c∈([z,TI,TO,i1,i2]:List pc):=λc hc=>by simp only[vr,R7,or_false] at hc ⊢;rcases hc with h | h | h | h <;> simp[h]
  have kk:∀c o,c∉([z,TO,i1,i2]:List pc)->s.heap.get? c=lH o->h2.get? c=lH o:=λc o hc e=>kk2 c o hc (kk1 c o hc e);have isT2:h2.IsTuple T #v[u,v]:=by obtain⟨o,e,c,d⟩:=isT;exact#[o,kk2 T o nT e,c,d]
  have I2:Inv X pins σ (upd H T (.tup [x,y])) {s with heap:=h2,toks:=tk}:=I.turnedT kk (λc hc=>hf c (sub c hc)) hT (IZ ru rv isT2);refine#[.ref T,_,I2,rfl,#[T,x,y,I.hok.fresh hT,rfl,rfl,λxs' h=>by rw[I.list_inj h hq1];exact hx,λys' h=>by rw[I.list_inj h hq2];exact hy],#[st2.1,st2.2.1,st2.2.2.1,st2.2.2.2.1,st2.2.2.2.2.1],λc hc=> ?_];have hc0:=(hf c hc).1;rw[aY (λe=> ?_)];exact hc0;subst e;simp only[vr,R7,or_false] at hc;rcases hc with h | h | h | h | h
  exact nT (by simp[h]);have:TI<s.heap.objs.size:=Heap.lt_size q2;rw[<- h] at this;exact absurd (AT this hT) (RM _);exact nT (by simp[h]);exact nT (by simp[h]);exact nT (by simp[h])
 done:=by
  intro X hP hw hK hc i pins s σ H E I hf st hg;subst hP hw hK;obtain⟨xs,ys,hq1,hq2,hx⟩:=hg;obtain⟨its1,rv1,p1,hz1⟩:=I.list hq1;obtain⟨its2,rv2,p2,hz2⟩:=I.list hq2;have l1:=rv1.length;have l2:=rv2.length;obtain⟨q1,q2,⟨u,v,q3⟩,q4,q5⟩:=id st;refine wpAny_pyNext_zip_end (I.ok.hd hc) D q1 q2 q3 q4 q5 p1.isList p2.isList (by rcases hx with h | h;left;simp;omega;right;simp;omega) λh' hk=>#[rfl, ?_]
  exact I.turnedL (t':=s.toks) (ch:=[z,TI,TO,i1,i2]) (λc o hc e=>hk c o (λx=>hc (by simp[x])) (λx=>hc (by simp[x])) (λx=>hc (by simp[x])) (λx=>hc (by simp[x])) e) hf
 self:=λ_ _ _ _ _ st h=>wpAny_pyIter_zip st.1 h
theorem Jg{P:AC}{w:Db}{K:qh}{elts:List Do}{kk:Nat}{tp:Pos}{e it a:pc}(hei:e≠it)(hle:a≠e)(hli:a≠it):
 Turn P w K (.Tuple elts kk tp) (Ite K a) [e,it] e (λi h=>(∃old,IsEnum h e it i old)/\h.IsListIter it a i) where
 mem:=by simp
 obj:=λi h st c hc=>by
  obtain⟨⟨old,q1⟩,⟨o1,e1,c1,d1⟩⟩:=st;simp only[vr,R7,or_false] at hc;rcases hc with rfl | rfl
  exact#[_,q1,λv z=>by have z':Data.fields _=Data.cell v:=z;cases z'];exact#[o1,e1,λv z=>by rw[d1] at z;cases z]
 keep:=λi h h' st k=>by obtain⟨⟨old,q1⟩,q4⟩:=st;exact#[#[old,k e (by simp) _ q1],q4.at λo e'=>k it (by simp) o e']
 item:=by
  intro X hP hw hK hc i pins s σ H E I hf st hg;subst hP hw hK;obtain⟨xs,x,hq1,hx⟩:=hg;obtain⟨its1,rv1,p1,hz1⟩:=I.list hq1;obtain⟨u,hu,ru⟩:=rv1.get hx;obtain⟨q1,q4⟩:=id st;have W:=WalksT.enumerate (prog:=X.prog) (w:=X.w) (A:=X.A) (I.ok.hd hc) e it a hei hle hli its1.toArray;have hi1:i<its1.length:=(xL.mp hu).1;refine W.item i s _ _ (by simpa using hi1) #[q1,q4,p1.isList] λT vals h1 tk hP hT isT mid kk1=>#[.ref T,rfl,W.go elts _ tp i T _ _ _ mid λh2 st2 kk2=> ?_];obtain⟨t,u',e1,rfl⟩:=hP;rw[show its1.toArray[i]? =its1[i]? by simp,hu] at e1;cases e1;have nT:T∉([e,it]:List pc):=W.apart i T _ mid;have kk:∀c o,c∉([e,it]:List pc)->s.heap.get? c=lH o->h2.get? c=lH o:=λc o hc e=>kk2 c o hc (kk1 c o hc e);have isT2:h2.IsTuple T #v[.int i t,u]:=by obtain⟨o,e,c,d⟩:=isT;exact#[o,kk2 T o nT e,c,d]
  have I2:Inv X pins σ (upd H T (.tup [.int i,x])) {s with heap:=h2,toks:=tk}:=I.turnedT kk hf hT (IZ #[t,rfl] ru isT2);refine#[.ref T,_,I2,rfl,#[T,x,I.hok.fresh hT,rfl,rfl,λxs' h=>by rw[I.list_inj h hq1];exact hx],#[st2.1,st2.2.1],λc hc=> ?_];have hcT:c≠T:=λz=>by subst z;exact nT hc
  rw[aY hcT];exact(hf c hc).1
 done:=by intro X hP hw hK hc i pins s σ H E I hf st hg;subst hP hw hK;obtain⟨xs,hq1,hx⟩:=hg;obtain⟨its1,rv1,p1,hz1⟩:=I.list hq1;have l1:=rv1.length;obtain⟨⟨old,q1⟩,q4⟩:=id st;refine wpAny_pyNext_enum_end (I.ok.hd hc) q1 q4 p1.isList (by simp;omega) λh' hk=>#[rfl, ?_];exact I.turnedL (t':=s.toks) (ch:=[e,it]) (λc o hc e'=>hk c o (λx=>hc (by simp[x])) e') hf
 self:=λ_ _ _ _ _ st h=>let #[_,q]:=st.1;U6 q h
theorem JS{tg:Do}{it:pc}(x:Str)(t:Tok)(ty:String)(hty:ty="str_ascii_iterator" \/ty="str_iterator"):Turn P w K tg (Its x) [it] it (λi h=>h.IsStrIter it ty x t i) where
 mem:=by simp
 obj:=λi h st b hb=>by
  have e:b=it:=by simpa using hb
  subst e;obtain⟨o,e,c,d⟩:=st;exact#[o,e,λv z=>by rw[d] at z;cases z]
 keep:=λi h h' st k=>let #[o,ho,r]:=st;#[o,k it (by simp) o ho,r]
 item:=by
  intro X hP hw hK hc i pins s σ H E I hf st hg;subst hP hw hK;have hg:i<x.cps.size:=hg;have W:Walks X.prog X.w X.A it [it] [it] x.cps.size (SignAt x) (λi h=>h.IsStrIter it ty x t i):=by rcases hty with rfl | rfl;exact Walks.strAscii (I.ok.hd hc) it x t;exact Walks.strWide (I.ok.hd hc) it x t
  refine W.item i s _ _ hg st λv h' tk hv st' kk=> ?_;obtain⟨c,u,hc',rfl⟩:=hv;have I1:Inv X pins σ H {s with heap:=h',toks:=tk}:=I.turnedL kk hf;obtain⟨o,e,hc1,d⟩:=id st';exact#[_,rfl,Gw (s:={s with heap:=h',toks:=tk}) (n:=ty) e hc1 d (by rcases hty with rfl | rfl <;> decide) #[.str #[#v[c]],H,I1,#[u,rfl],#[rfl,c,hc',rfl],st',λb hb=>(hf b hb).1]]
 done:=by
  intro X hP hw hK hc i pins s σ H E I hf st hg;subst hP hw hK;have hg:x.cps.size<=i:=hg;rcases hty with rfl | rfl
  exact wpAny_pyNext_ascii_end (I.ok.hd hc) st (by simp;omega) λh' eb=>#[rfl,I.turnedL (t':=s.toks) (ch:=[it]) (λb o hb e=>eb b o (λz=>hb (by simp[z])) e) hf];exact wpAny_pyNext_wide_end (I.ok.hd hc) st (by simp;omega) λh' eb=>#[rfl,I.turnedL (t':=s.toks) (ch:=[it]) (λb o hb e=>eb b o (λz=>hb (by simp[z])) e) hf]
 self:=λ_ _ _ _ _ st h=>by rcases hty with rfl | rfl;exact wpAny_pyIter_striter_ascii st h;exact wpAny_pyIter_striter_wide st h
section
variable {X : Cx} {tg : Do}
def JX(K:qh)(ta:TA):TI:=λσ H R=>ta σ H λvs H1=>∃a b,vs=[.ref a,.ref b]/\(∃xs,SqL K H1 a xs)/\(∃ys,SqL K H1 b ys)/\R (Itz K a b) H1
def Lr(K:qh)(ta:TA):TI:=λσ H R=>ta σ H λvs H1=>∃a,vs=[.ref a]/\(∃xs,SqL K H1 a xs)/\R (Ite K a) H1
def Ny(te:TE):TI:=λσ H R=>te σ H λx H1=>∃z,x=.str z/\R (Its z) H1
theorem pK{U:List Do}{kk:Nat}{tp:Pos}{a b:Do}{ta:TA}{p pos:Pos}(hg:Gl X "zip")(hm:X.mg "zip" =na)(ha:PA X [a,b] ta)(hs:starEach [a,b] X.env=[(tt,eval a X.env),(tt,eval b X.env)]:=by rfl)(Y:starEach [b] X.env=[(tt,eval b X.env)]:=by rfl):
 PI X (.Tuple U kk tp) (.Call (.Name "zip" p) [a,b] [] pos) (JX X.K ta):=by
 intro pins s σ H R I h;refine Call_ (pM I hg hm Boot.«zip» (RI (thn (ha pos pins s σ H _ I h) λus s1 #[vs,H1,I1,r1,q1]=> ?_) (by rw[hs,Y]) (by rw[Y];rfl)));obtain⟨l1,l2,e,⟨xs,ab⟩,⟨ys,ac⟩,q⟩:=q1;subst e;obtain⟨u,v,rfl,r,r'⟩:=vals2 r1;cases r;cases r';obtain⟨as,bd,p1,be⟩:=I1.list ab;obtain⟨az,bi,p2,bm⟩:=I1.list ac;refine call_zip_2 p1.isList p2.isList λh' hz al am an ap bn hk=> ?_;have a1:l1<s1.heap.objs.size:=by obtain⟨_,e,_⟩:=p1.isList;exact Heap.lt_size e
 have a2:l2<s1.heap.objs.size:=by obtain⟨_,e,_⟩:=p2.isList;exact Heap.lt_size e
 refine wpAny_pyIter_zip hz #[_,_,_,_,H1,rfl,I1.kept (t':=s1.toks) hk,J8 (zipApart_new a1 a2),#[hz,al,#[_,_,am],an,ap],λb hb=> ?_,q];have:s1.heap.objs.size<=b:=by simp only[vr,R7,or_false] at hb;rcases hb with rfl | rfl | rfl | rfl | rfl <;> omega
 exact I1.fpOk this (I1.hok.fresh this)
theorem o7{U:List Do}{kk:Nat}{tp:Pos}{a:Do}{ta:TA}{p pos:Pos}(hg:Gl X "enumerate")(hm:X.mg "enumerate" =na)(ha:PA X [a] ta)(hs:starEach [a] X.env=[(tt,eval a X.env)]:=by rfl):
 PI X (.Tuple U kk tp) (.Call (.Name "enumerate" p) [a] [] pos) (Lr X.K ta):=by
 intro pins s σ H R I h;refine Call_ (pM I hg hm Boot.«enumerate» (RI (thn (ha pos pins s σ H _ I h) λus s1 #[vs,H1,I1,r1,q1]=> ?_) hs rfl));obtain⟨l1,e,⟨xs,Y⟩,q⟩:=q1;subst e;obtain⟨u,rfl,ru⟩:=vals1 r1;cases ru;obtain⟨al,az,p1,a0⟩:=I1.list Y;refine call_enumerate_list p1.isList λh' hz ab a2 hk=> ?_;have a1:l1<s1.heap.objs.size:=by obtain⟨_,e,_⟩:=p1.isList;exact Heap.lt_size e
 refine U6 hz #[_,_,_,_,H1,rfl,I1.kept (t':=s1.toks) hk,Jg (e:=s1.heap.objs.size+1) (it:=s1.heap.objs.size) (a:=l1) (Nat.succ_ne_self _) (FS (Tn a1)) (FS a1),#[#[_,hz],ab],λb hb=> ?_,q];have:s1.heap.objs.size<=b:=by simp only[vr,R7,or_false] at hb;rcases hb with rfl | rfl <;> omega
 exact I1.fpOk this (I1.hok.fresh this)
theorem IU{l:Do}{tl:TE}(hl:PE X l tl):PI X tg l (Ny tl):=by
 intro pins s σ H R I h;refine thn (hl pins s σ H _ I h) λv s1 #[x,H1,I1,r1,q1]=> ?_;obtain⟨z,e,q⟩:=q1;subst e;obtain⟨t,rfl⟩:=r1;have U:∀(ty:String),(ty="str_ascii_iterator" \/ty="str_iterator")->PIE X pins σ tg R (.ref s1.heap.objs.size) {s1 with heap:=s1.heap.push {cls:=.type ty,data:=.fields #v[.str z t,.int 0 0]}}:=λty Y=>by
  refine#[s1.heap.objs.size,[s1.heap.objs.size],_,_,H1,rfl,I1.kept (t':=s1.toks) λb o e=>Heap.get?_push_of_some _ e,JS z t ty Y,#[_,Heap.get?_push_size _ rfl,rfl,rfl],λb hb=> ?_,q];have e:b=s1.heap.objs.size:=by simpa using hb
  subst e;exact I1.fpOk (ut _) (I1.hok.fresh (ut _))
 cases ha:z.cps.all (· < 128);exact wpAny_pyIter_wide ha (U _ (.inr rfl));exact wpAny_pyIter_ascii ha (U _ (.inl rfl))
theorem tY:∀{ns:List Int} {U:List ol},Vals (ns.map V.int) U->Si U ns
 | [],_,r=>by cases r;exact .nil
 | n::ns,_,r=>by
  cases r with
  | cons r1 r2=>
   obtain⟨t,rfl⟩:=r1;exact .cons _ _ (tY r2)
theorem vj(hc:X.calm=true:=by rfl):nt X (.builtin "sum") (λxs H Q=>∃(p:pc) (ns:List Int),xs=[.ref p]/\SqL X.K H p (ns.map V.int)/\Q (.int ns.sum) H):=by intro pins s σ H xs us Q I r h;obtain⟨p,ns,rfl,hq,q⟩:=h;obtain⟨u,rfl,ru⟩:=vals1 r;cases ru;obtain⟨U,rv,pl,hz⟩:=I.list hq;have hI:=tY rv;obtain⟨xs,Y⟩:=hI.allInts.items;have hn:numsOf U=ns:=hI.numsOf;rw[show U=U.toArray.toList by simp,Y,nums_intItems] at hn;refine sum_intListG (I.ok.hd hc) (Y▸pl.isList) λh' tk t' hk=> ?_;rw[preSum_eq,Rw (by simp),hn];exact#[.int ns.sum,H,I.kept (t':=tk) hk,#[t',rfl],q]
theorem Pb{bs:List Bool}{U:List ol}(Y:Vals (bs.map V.bl) U){v:ol}(h:U.toArray[i]? =lH v):v=.bool (bs.getD i tt):=by
 have hi:i<U.length:=by have:=(Array.getElem?_eq_some_iff.mp h).1;simpa using this
 have hb:i<bs.length:=by have:=Y.length;rw[ss] at this;omega
 obtain⟨u,hu,ru⟩:=Y.get (i:=i) (x:=.bl bs[i]) (by simp[hb]);rw[show U.toArray[i]? =U[i]? by simp,hu] at h;cases h;cases ru;simp[nu,hb]
theorem all_range{bs:List Bool}:(tz bs.length).all (λi=>bs.getD i tt)=bs.all id:=by
 induction bs with
 | nil=>rfl
 | cons b bs U=>
  rw[wT,List.range_succ_eq_map,Tr,Uk,Tr];simp only[SS,List.getD_cons_succ,List.getD_cons_zero,id];rw[U]
theorem HN(hc:X.calm=true:=by rfl):nt X (.builtin "all") (λxs H Q=>∃(p:pc) (bs:List Bool),xs=[.ref p]/\SqL X.K H p (bs.map V.bl)/\Q (.bl (bs.all id)) H):=by
 intro pins s σ H xs us Q I r h;obtain⟨p,bs,rfl,hq,q⟩:=h;obtain⟨u,rfl,ru⟩:=vals1 r;cases ru;obtain⟨U,rv,pl,hz⟩:=I.list hq;have hl:=pl.isList;have lt:p<s.heap.objs.size:=by obtain⟨_,e,_⟩:=hl;exact Heap.lt_size e
 have Y:U.toArray.size=bs.length:=by have:=rv.length;rw[ss] at this;simp;omega
 refine call_all_walk (U8 hl ?_);refine#[_,_,_,_,_,_,λi=>bs.getD i tt,rfl,Walks.list (A:=X.A.in1) (I.ok.hd hc) s.heap.objs.size p (FS lt) U.toArray,#[#[_,Heap.get?_push_size _ rfl,rfl,rfl],hl.push _],λi v s' Q' E' hP hQ=> ?_,λh' tk hk=> ?_];rw[Pb rv hP];exact Ry hQ;rw[Y,all_range];refine#[.bl (bs.all id),H,I.kept (t':=tk) λb o e=>hk b o (λz=> ?_) (Heap.get?_push_of_some _ e),rfl,q];have hb:=Heap.lt_size e;rw[wf.mp z] at hb;exact absurd hb (RM _)
end
section
variable {X : Cx} {e se : Do} {te : TE} {lo hi : Option Do} {tl th ts : TO} {pos p2 : Pos}
end
section
variable {X : Cx} {tg : Do}
end
def kE(x:Str)(lo hi:Option Int):Str:=
 if ((Builtin.Str.strSliceIndices lo hi 1 x.length).length == x.length)=on then x else #[((Builtin.Str.strSliceIndices lo hi 1 x.length).filterMap (x.cps[·]?)).toArray]
section
variable {X : Cx}
def LI:V->Option Int->Option Int->Hp->VK->Prop:=λx lo hi H Q=>∃z,x=.str z/\z.length<=sizeLine/\Q (.str (kE z lo hi)) H
theorem Dx:SlR X LI:=by
 intro pins s σ H x v vl vu lo hi sl Q I U hs pl Y h;obtain⟨z,rfl,hz,q⟩:=h;obtain⟨t,rfl⟩:=U;refine#["str",_,F.slot_str_getitem.lookup,Vt _ _ _, ?_];have part:∀{v:ol} {o:Option Int},T4 v o->∃p:Option (Int×Tok),v=partValue p/\p.map (·.1)=o:=λh=>by
  cases h with
  | none=>exact#[na,rfl,rfl]
  | int i t=>exact#[lH (i,t),rfl,rfl]
 obtain⟨l,rfl,rfl⟩:=part pl;obtain⟨u,rfl,rfl⟩:=part Y;refine wpAny_getItem_str_slice (l:=l) (u:=u) (st:=na) hs rfl ?_;unfold sliceMade;show Made.post (if (on&&((Builtin.Str.strSliceIndices (l.map (·.1)) (u.map (·.1)) 1 z.length).length == z.length))=on then _ else _) _ _;unfold kE at q;rw[Ts];by_cases hc:((Builtin.Str.strSliceIndices (l.map (·.1)) (u.map (·.1)) 1 z.length).length == z.length)=on;rw[if_pos hc] at q ⊢;exact#[.str z,H,I,#[t,rfl],q];rw[if_neg hc] at q ⊢;refine#[?_,#[.str _,H,I.tok _,#[_,rfl],q]];show (RC _).size<=_;rw[xg];exact IR (IR (List.length_filterMap_le _ _) (sliceIndices_le _ _ _)) hz
end
section
variable {X : Cx}
end
section
variable {X : Cx}
theorem E4:∀{U:List Str} {Y:List ol},Vals (U.map V.str) Y->∃l:List (Str×Tok),strValues l=Y/\l.map (·.1)=U
 | [],_,h=>by cases h;exact#[[],rfl,rfl]
 | x::U,_,h=>by
  cases h with
  | cons r rs=>
   obtain⟨t,rfl⟩:=r;obtain⟨l,rfl,e⟩:=E4 rs;exact#[(x,t)::l,rfl,by rw[ww,e]]
end
section
variable {X : Cx}
def isT(y:Str):ol->Bool
 | .str a _=>a == y
 | _=>tt
theorem Oh{y:Str}{t:Tok}{l:List (Str×Tok)}:∀v,v∈(strValues l).toArray->SeqAt.EqAt A s v (.str y t) (isT y v):=by
 intro v Y;have U:v∈strValues l:=by simpa using Y
 obtain⟨p,_,rfl⟩:=pr.mp U;exact(eqGives_str p.1 y p.2 t).at A s
theorem Ph{b:pc}{U:List Str}(I:Inv X pins σ H s)(hs:SqL X.K H b (U.map V.str)):
 ∃(l:List (Str×Tok)) (Y:Option pc) (n:Nat) (sl:Array (Option ol)),l.map (·.1)=U/\s.heap.get? b=lH {cls:=.type "list",dict:=Y,data:=.seq (strValues l).toArray n,slots:=sl}/\l.length<=sizeLine:=by
 obtain⟨ab,r',pl,hz⟩:=I.list hs;obtain⟨l,rfl,e⟩:=E4 r';obtain⟨o,ho,hc,n,hd⟩:=pl.isList;obtain⟨oc,od,an,os⟩:=o;dsimp only at hc hd;subst hc hd;refine#[l,od,n,os,e,ho, ?_];rw[<- e,ss,ss] at hz;exact hz
def Io(K:qh):V->List V->Hp->VK->Prop:=λx vs H Q=>∃(b:pc) (U:List Str) (y:Str),x=.ref b/\vs=[.str y]/\SqL K H b (U.map V.str)/\U.idxOf y<U.length/\Q (.int (U.idxOf y:Nat)) H
theorem KD:MtR X "list.index" (Io X.K):=by
 intro pins s σ H x vs v us Q I rx rv h;obtain⟨b,Y,y,rfl,rfl,hs,hj,q⟩:=h;cases rx;obtain⟨u,rfl,t2,rfl⟩:=rv.one;obtain⟨l,dd,n,sl,rfl,ho,hz⟩:=Ph I hs;have hn:=qi;have hl:(strValues l).toArray.size=(l.map (·.1)).length:=by simp[strValues]
 have U:∀(m:Nat) (hm:m<(strValues l).toArray.size),isT y ((strValues l).toArray[m])=((l.map (·.1))[m]'(by rw[<- hl];exact hm) == y):=by intro m hm;simp[strValues,isT]
 refine TB F.slot_list_index #[_,ho,rfl] F.entry_list_index (F.args_list_index_2 _ _) (SeqAt.list_indexAt b _ n dd sl _ (isT y) ((l.map (·.1)).idxOf y) (by rw[hl];exact hj) (by rw[ss] at hj;omega) ?_ ?_) #[ho,Oh, ?_];rw[U];have:=List.getElem_idxOf hj;rw[this];exact beq_self_eq_true y;intro m hm h2;rw[U];exact List.not_of_lt_findIdx (p:=λa=>a == y) h2;exact#[.int _,H,I.tok _,#[_,rfl],q]
end
section
variable {prog : AC} {w : Db} {A : KE} {R : U2 → r0 → Prop} {I : pc} {fp wr : List pc} {G : Array Vn → Array Vn → Prop} {n : Nat} {P : Nat → ol → Prop} {St : Nat → r0 → Prop}
end
section
variable {prog : AC} {w : Db} {A : KE} {E : ol → r0 → Prop} {s : r0}
end
section
variable {X : Cx} {e : Do} {te : TE} {x y : Str} {p1 p2 q1 q2 : Pos}
end
open PySem PySem.Spec PyProof.Rows PySem.W
def jj{α:Type}(lt:Nat->Nat->Bool):KasT α->α
 | .ret a=>a
 | .ask i j k=>jj lt (k (lt i j))
theorem lE{α β:Type}(lt:Nat->Nat->Bool)(f:α->KasT β):∀t:KasT α,jj lt (t.bind f)=jj lt (f (jj lt t))
 | .ret _=>rfl
 | .ask i j k=>lE lt f (k (lt i j))
section
variable {O : KeyOrd} (key : Nat → O.α)
def kAt(p:Array Nat)(i:Nat):O.α:=key (p.getD i 0)
abbrev ltK:Nat->Nat->Bool:=λi j=>O.blt (key i) (key j)
def eI(p:Array Nat)(m:Nat):Prop:=∀i j,i<=j->j<m->O.kle (kAt key p i) (kAt key p j)
def kG(p:Array Nat)(m:Nat):Prop:=∀i j,i<=j->j<m->O.kle (kAt key p j) (kAt key p i)
def yW(p:Array Nat)(n q:Nat):Prop:=∀i,n<=i+(q+1)->i<n->kAt key p i=kAt key p (n-1)
variable {key}
theorem uM{p U:Array Nat}(h:U[i]? =p[j]?):kAt key U i=kAt key p j:=by unfold kAt;rw[Sb,Sb,h]
theorem wt(U:j<=p.size)(k:Nat):kAt key (kas_rev p i j) k=if i<=k/\k<j then kAt key p (i+j-1-k) else kAt key p k:=by have h:=UT (xs:=p) (i:=i) U k;split at h;rename_i c;rw[if_pos c];exact uM h;rename_i c;rw[if_neg c];exact uM h
theorem sC:(kas_rev p i j).Perm p:=mirror_perm _ _ _ _
theorem gN:(kas_rev p i j).size=p.size:=mirror_size _ _ _ _
theorem Cr{n q:Nat}(hn:n<=p.size)(hq:q+1<=n)(h:yW key p n q)(k:Nat):kAt key (kas_rev p (n-(q+1)) n) k=kAt key p k:=by rw[wt hn];split;rename_i c;rw[h _ ⋯ ⋯,h k ⋯ ⋯];rfl
theorem eI.more(h1:1<=n)(h:eI key p n)(hn:O.kle (kAt key p (n-1)) (kAt key p n)):eI key p (n+1):=by intro i j U hj;by_cases Y:j=n;subst Y;by_cases hi:i=j;subst hi;exact KeyOrd.kle_refl _;exact KeyOrd.kle_trans (h i (j-1) ⋯ ⋯) hn;exact h i j U ⋯
theorem kG.more(h1:1<=n)(h:kG key p n)(hn:O.kle (kAt key p n) (kAt key p (n-1))):kG key p (n+1):=by intro i j U hj;by_cases Y:j=n;subst Y;by_cases hi:i=j;subst hi;exact KeyOrd.kle_refl _;exact KeyOrd.kle_trans hn (h i (j-1) ⋯ ⋯);exact h i j U ⋯
theorem Af{p:Array Nat}:∀(f n:Nat),1<=n->eI key p n->∃m,jj (ltK key) (kas_asc p f n)=m/\n<=m/\m<=n+f/\eI key p m/\(m<n+f->O.blt (kAt key p m) (kAt key p (m-1))=on)
 | 0,n,_,h=>#[n,rfl,ut _,ut _,h,λz=>absurd z (RM _)]
 | f+1,n,h1,h=>by
  show ∃m,jj (ltK key) (if O.blt (kAt key p n) (kAt key p (n-1))=on then KasT.ret n else kas_asc p f (n+1))=m/\_;cases hc:O.blt (kAt key p n) (kAt key p (n-1)) with
  | true=>exact#[n,rfl,ut _,⋯,h,λ_=>hc]
  | false=>
   obtain⟨m,e,a1,a2,U,Y⟩:=Af f (n+1) ⋯ (h.more h1 hc);exact#[m,e,⋯,⋯,U,λz=>Y ⋯]
theorem uf:∀(f:Nat) (p:Array Nat) (n q:Nat),1<=n->n+f<=p.size->q+1<=n->kG key p n->yW key p n q->
 ∃Y U q',jj (ltK key) (kas_desc f p n q)=(Y,U,q')/\Y.Perm p/\Y.size=p.size/\n<=U/\U<=n+f/\q'+1<=U/\kG key Y U/\yW key Y U q'
 | 0,p,n,q,_,_,hq,h,he=>#[p,n,q,rfl,.refl _,rfl,ut _,ut _,hq,h,he]
 | f+1,p,n,q,h1,hs,hq,h,he=>by
  have ab:∀p:Array Nat,yW key p (n+1) 0:=λp i a b=>by rw[show i=n by omega];rfl
  show ∃Y U q',jj (ltK key) (if O.blt (kAt key p n) (kAt key p (n-1))=on then (if q>0 then kas_desc f (kas_rev p (n-(q+1)) n) (n+1) 0 else kas_desc f p (n+1) 0)
   else .ask (p.getD (n-1) 0) (p.getD n 0) λd=>if d=on then .ret (p,n,q) else kas_desc f p (n+1) (q+1))=(Y,U,q')/\_
  cases hc:O.blt (kAt key p n) (kAt key p (n-1)) with
  | true=>
   rw[if_pos rfl];have az:O.kle (kAt key p n) (kAt key p (n-1)):=KeyOrd.kle_of_klt hc;have hf:=h.more h1 az;by_cases ac:q>0;rw[if_pos ac];have keep:=Cr (key:=key) (p:=p) (n:=n) (q:=q) ⋯ hq he;have a0:kG key (kas_rev p (n-(q+1)) n) (n+1):=λi j a b=>by rw[keep,keep];exact hf i j a b
   obtain⟨Y,U,q',e,b1,b2,b3,b4,b5,b6,b7⟩:=uf f (kas_rev p (n-(q+1)) n) (n+1) 0 ⋯ (by rw[gN];omega) ⋯ a0 (ab _);exact#[Y,U,q',e,b1.trans sC,b2.trans gN,⋯,⋯,b5,b6,b7];rw[if_neg ac];obtain⟨Y,U,q',e,b1,b2,b3,b4,b5,b6,b7⟩:=uf f p (n+1) 0 ⋯ ⋯ ⋯ hf (ab _);exact#[Y,U,q',e,b1,b2,⋯,⋯,b5,b6,b7]
  | false=>
   rw[if_neg (by simp)];show ∃Y U q',jj (ltK key) (if O.blt (kAt key p (n-1)) (kAt key p n)=on then KasT.ret (p,n,q) else kas_desc f p (n+1) (q+1))=(Y,U,q')/\_;cases hd:O.blt (kAt key p (n-1)) (kAt key p n) with
   | true=>exact#[p,n,q,rfl,.refl _,rfl,ut _,⋯,hq,h,he]
   | false=>
    rw[if_neg (by simp)];have eq:kAt key p n=kAt key p (n-1):=O.total _ _ hc hd;have a1:yW key p (n+1) (q+1):=λi a b=>by show kAt key p i=kAt key p n;by_cases hi:i=n;rw[hi];rw[eq];exact he i ⋯ ⋯
    obtain⟨Y,U,q',e,b1,b2,b3,b4,b5,b6,b7⟩:=uf f p (n+1) (q+1) ⋯ ⋯ ⋯ (h.more h1 (by rw[eq];exact KeyOrd.kle_refl _)) a1;exact#[Y,U,q',e,b1,b2,⋯,⋯,b5,b6,b7]
theorem DJ(h1:1<=n)(hn:n<=nrem)(hs:nrem<=p.size)(h:kG key p n):
 ∃m U,jj (ltK key) (kas_tail3 n nrem p)=(m,U)/\U.Perm p/\U.size=p.size/\1<=m/\m<=nrem/\eI key U m:=by
 have Y:eI key (kas_rev p 0 n) n:=λi j a b=>by rw[wt ⋯,wt ⋯,if_pos #[Rb _,⋯],if_pos #[Rb _,b]];exact h _ _ ⋯ ⋯
 obtain⟨m,e,a1,a2,a3,_⟩:=Af (nrem-n) n h1 Y;refine#[m,kas_rev p 0 n, ?_,sC,gN,⋯,⋯,a3];unfold kas_tail3;rw[lE,e];rfl
theorem Bc(h1:1<=n)(hn:n+1<=nrem)(hs:nrem<=p.size)(h:kG key p (n+1)):
 ∃m U,jj (ltK key) (kas_descPart n nrem p)=(m,U)/\U.Perm p/\U.size=p.size/\1<=m/\m<=nrem/\eI key U m:=by
 obtain⟨p1,Y,q1,e,b1,b2,b3,b4,b5,b6,b7⟩:=uf (key:=key) (nrem-(n+1)) p (n+1) 0 ⋯ ⋯ ⋯ h (λi a b=>by rw[show i=n by omega];rfl);unfold kas_descPart;rw[lE,e];dsimp only;by_cases hq:q1>0;rw[if_pos hq];have keep:=Cr (key:=key) (p:=p1) (n:=Y) (q:=q1) ⋯ b5 b7;obtain⟨m,U,e2,c1,c2,c3,c4,c5⟩:=DJ (key:=key) (p:=kas_rev p1 (Y-(q1+1)) Y) (n:=Y) (nrem:=nrem) ⋯ ⋯ (by rw[gN];omega) (λi j a b=>by rw[keep,keep];exact b6 i j a b);exact#[m,U,e2,c1.trans ((sC).trans b1),c2.trans ((gN).trans b2),c3,c4,c5];rw[if_neg hq];obtain⟨m,U,e2,c1,c2,c3,c4,c5⟩:=DJ (key:=key) (p:=p1) (n:=Y) (nrem:=nrem) ⋯ ⋯ ⋯ b6;exact#[m,U,e2,c1.trans b1,c2.trans b2,c3,c4,c5]
theorem Ih(h1:1<=nrem)(hs:nrem<=p.size):
 ∃m p',jj (ltK key) (kas_count nrem p)=(m,p')/\p'.Perm p/\p'.size=p.size/\1<=m/\m<=nrem/\eI key p' m:=by
 have s1:eI key p 1:=λi j a b=>by rw[show i=j by omega];exact KeyOrd.kle_refl _
 obtain⟨n,e,a1,a2,a3,a4⟩:=Af (key:=key) (p:=p) (nrem-1) 1 (ut _) s1;unfold kas_count;rw[lE,e];by_cases hn:n=nrem;rw[if_pos (by simpa using hn)];exact#[n,p,rfl,.refl _,rfl,a1,⋯,a3];rw[if_neg (by simpa using hn)];have ac:=a4 ⋯;by_cases h2:n>1;rw[if_pos h2];show ∃m p',jj (ltK key) (if O.blt (kAt key p 0) (kAt key p (n-1))=on then KasT.ret (n,p) else kas_descPart n nrem (kas_rev p 0 n))=(m,p')/\_;cases hc:O.blt (kAt key p 0) (kAt key p (n-1)) with
 | true=>exact#[n,p,rfl,.refl _,rfl,a1,⋯,a3]
 | false=>
  rw[if_neg (by simp)];have same:∀i,i<n->kAt key p i=kAt key p (n-1):=λi hi=>by refine KeyOrd.kle_antisymm (a3 i (n-1) ⋯ ⋯) ?_;exact KeyOrd.kle_trans (show O.kle (kAt key p (n-1)) (kAt key p 0) from hc) (a3 0 i (Rb _) hi)
  have U:∀i,i<=n->kAt key (kas_rev p 0 n) i=kAt key p i:=λi hi=>by rw[wt ⋯];split;rename_i c;rw[same _ ⋯,same i ⋯];rfl
  have Y:kG key (kas_rev p 0 n) (n+1):=by refine kG.more ⋯ (λi j a b=> ?_) ?_;rw[U i ⋯,U j ⋯,same i ⋯,same j ⋯];exact KeyOrd.kle_refl _;rw[U n (ut _),U (n-1) ⋯];exact KeyOrd.kle_of_klt ac
  obtain⟨m,p',e2,c1,c2,c3,c4,c5⟩:=Bc (key:=key) (p:=kas_rev p 0 n) (n:=n) (nrem:=nrem) ⋯ ⋯ (by rw[gN];omega) Y;exact#[m,p',e2,c1.trans sC,c2.trans gN,c3,c4,c5]
 rw[if_neg h2];obtain rfl:n=1:=⋯;have Y:kG key p (1+1):=kG.more (ut _) (λi j a b=>by rw[show i=j by omega];exact KeyOrd.kle_refl _) (KeyOrd.kle_of_klt ac);exact Bc ⋯ ⋯ hs Y
theorem vm{p:Array Nat}{k:Nat}(hs:eI key p k):∀(f l r:Nat),l<=r->r<=k->r-l<=f->(∀i,i<l->O.kle (kAt key p i) (kAt key p k))->(∀i,r<=i->i<k->O.kle (kAt key p k) (kAt key p i))->
 ∃m,jj (ltK key) (kas_place p k f l r)=m/\m<=k/\(∀i,i<m->O.kle (kAt key p i) (kAt key p k))/\(∀i,m<=i->i<k->O.kle (kAt key p k) (kAt key p i))
 | 0,l,r,a,b,c,h1,h2=>#[l,rfl,⋯,h1,λi hi hk=>h2 i ⋯ hk]
 | f+1,l,r,a,b,c,h1,h2=>by
  unfold kas_place;by_cases U:l ≥ r;rw[if_pos U];exact#[l,rfl,⋯,h1,λi hi hk=>h2 i ⋯ hk];rw[if_neg U];show ∃m,jj (ltK key) (if O.blt (kAt key p k) (kAt key p ((l+r)/2))=on then kas_place p k f l ((l+r)/2) else kas_place p k f ((l+r)/2+1) r)=m/\_;cases hc:O.blt (kAt key p k) (kAt key p ((l+r)/2)) with
  | true=>
   rw[if_pos rfl];exact vm hs f l ((l+r)/2) ⋯ ⋯ ⋯ h1 λi hi hk=>KeyOrd.kle_trans (KeyOrd.kle_of_klt hc) (hs _ _ hi hk)
  | false=>
   rw[if_neg (by simp)];exact vm hs f ((l+r)/2+1) r ⋯ b ⋯ (λi hi=>KeyOrd.kle_trans (hs i ((l+r)/2) ⋯ ⋯) hc) h2
theorem FL:∀(f:Nat) (p:Array Nat) (k:Nat),k+f<=p.size->eI key p k->∃U,jj (ltK key) (kas_bin f p k)=U/\U.Perm p/\U.size=p.size/\eI key U (k+f)
 | 0,p,k,_,h=>#[p,rfl,.refl _,rfl,h]
 | f+1,p,k,hk,h=>by
  obtain⟨m,e,m1,m2,m3⟩:=vm h k 0 k (Rb _) (ut _) ⋯ (λi hi=>absurd hi ⋯) (λi a b=>absurd b ⋯);have Y:∀i,kAt key (bubble p k (k-m)) i=if i=m then kAt key p k else if m<i/\i<=k then kAt key p (i-1) else kAt key p i:=λi=>by have g:=getElem?_bubble (xs:=p) (src:=k) ⋯ (k-m) ⋯ i;rw[show k-(k-m)=m by omega] at g;split at g;rename_i c;rw[if_pos c];exact uM g;rename_i c;rw[if_neg c];split at g;rename_i d;rw[if_pos d];exact uM g;rename_i d;rw[if_neg d];exact uM g
  have so:eI key (bubble p k (k-m)) (k+1):=λi j a b=>by rw[Y,Y];by_cases hi:i=m;rw[if_pos hi];by_cases hj:j=m;rw[if_pos hj];exact KeyOrd.kle_refl _;rw[if_neg hj,if_pos ⋯];exact m3 _ ⋯ ⋯;rw[if_neg hi];by_cases ac:m<i/\i<=k;rw[if_pos ac,if_neg ⋯,if_pos ⋯];exact h _ _ ⋯ ⋯;rw[if_neg ac];by_cases hj:j=m;rw[if_pos hj];exact m2 i ⋯;rw[if_neg hj];by_cases al:m<j/\j<=k;rw[if_pos al];exact h _ _ ⋯ ⋯;rw[if_neg al];exact h _ _ a ⋯
  obtain⟨U,e2,c1,c2,c3⟩:=FL f (bubble p k (k-m)) (k+1) (by rw[Vf];omega) so;refine#[U, ?_,c1.trans (bubble_perm _ _ _),c2.trans (Vf _ _ _), ?_];unfold kas_bin;rw[lE,e];exact e2;rw[show k+(f+1)=k+1+f by omega];exact c3
theorem xy(h1:1<=n):∃p,jj (ltK key) (kas_sort n)=p/\p.Perm (RC (tz n))/\p.size=n/\eI key p n:=by
 have sz:(RC (tz n)).size=n:=by simp
 obtain⟨m,p1,e,U,a2,a3,a4,Y⟩:=Ih (key:=key) (p:=RC (tz n)) (nrem:=n) h1 ⋯;unfold kas_sort;rw[lE,e];dsimp only;by_cases hm:m<n;rw[if_pos hm,Nat.max_eq_left a3];obtain⟨p2,e2,b1,b2,b3⟩:=FL (key:=key) (n-m) p1 m ⋯ Y;exact#[p2,e2,b1.trans U,⋯,by rw[show m+(n-m)=n by omega] at b3;exact b3];rw[if_neg hm];obtain rfl:m=n:=⋯;exact#[p1,rfl,U,⋯,Y]
end
theorem lex_irrefl:∀a:List Int,HT.lexLt a a=tt
 | []=>rfl
 | x::a=>by rw[HT.oV,if_pos rfl];exact lex_irrefl a
theorem lex_trans:∀a b c:List Int,HT.lexLt a b=on->HT.lexLt b c=on->HT.lexLt a c=on
 | [],[],_,h,_=>by cases h
 | [],_::_,[],_,h=>by cases h
 | [],_::_,_::_,_,_=>rfl
 | _::_,[],_,h,_=>by cases h
 | _::_,_::_,[],_,h=>by cases h
 | x::a,y::b,z::c,h1,h2=>by rw[HT.oV] at h1 h2 ⊢;by_cases e1:x=y;by_cases e2:y=z;rw[if_pos e1] at h1;rw[if_pos e2] at h2;rw[if_pos (e1.trans e2)];exact lex_trans a b c h1 h2;rw[if_neg e2] at h2;rw[e1,if_neg e2];exact h2;rw[if_neg e1] at h1;have U:=of_decide_eq_true h1;by_cases e2:y=z;rw[<- e2,if_neg e1];exact h1;rw[if_neg e2] at h2;have Y:=of_decide_eq_true h2;rw[if_neg ⋯];exact decide_eq_true ⋯
theorem qD:∀a b:List Int,HT.lexLt a b=tt->HT.lexLt b a=tt->a=b
 | [],[],_,_=>rfl
 | [],_::_,h,_=>by cases h
 | _::_,[],_,h=>by cases h
 | x::a,y::b,h1,h2=>by rw[HT.oV] at h1 h2;by_cases e:x=y;rw[if_pos e] at h1;rw[if_pos e.symm] at h2;rw[e,qD a b h1 h2];rw[if_neg e] at h1;rw[if_neg (S1 e)] at h2;have U:=of_decide_eq_false h1;have Y:=of_decide_eq_false h2;omega
def N7:KeyOrd where
 α:=List Int
 blt:=HT.lexLt
 irrefl:=lex_irrefl
 trans:=lex_trans
 negTrans:=λa b c h=>by
  cases h1:HT.lexLt a b with
  | true=>exact .inl rfl
  | false=>
   right;cases h2:HT.lexLt b c with
   | true=>rfl
   | false=>
    cases h3:HT.lexLt b a with
    | true=>
     have:=lex_trans b a c h3 h;rw[h2] at this;cases this
    | false=>
     have:=qD a b h1 h3;subst this;rw[h] at h2;cases h2
 total:=qD
def Lv{α:Type}(N:Nat)(P:α->Prop):KasT α->Prop
 | .ret a=>P a
 | .ask i j k=>i<N/\j<N/\∀b,Lv N P (k b)
theorem Lv.bind{α β:Type}{N:Nat}{P:α->Prop}{P':β->Prop}{f:α->KasT β}(U:∀a,P a->Lv N P' (f a)):∀{t:KasT α},Lv N P t->Lv N P' (t.bind f)
 | .ret a,h=>U a h
 | .ask i j k,h=>#[h.1,h.2.1,λb=>Lv.bind U (h.2.2 b)]
def Und(N:Nat)(p:Array Nat):Prop:=∀i,p.getD i 0<N
theorem Und.of{p U:Array Nat}(h:Und N p)(hp:∀i:Nat,∃j:Nat,U[i]? =p[j]?):Und N U:=λi=>by obtain⟨j,e⟩:=hp i;have:=h j;rw[Sb] at this ⊢;rw[e];exact this
theorem Und.rev(h:Und N p)(U:j<=p.size):Und N (kas_rev p i j):=h.of λk=>by have g:=UT (xs:=p) (i:=i) U k;split at g;exact#[_,g];exact#[_,g]
theorem Und.bub(h:Und N p){k d:Nat}(hk:k<p.size)(hd:d<=k):Und N (bubble p k d):=h.of λi=>by have g:=getElem?_bubble (xs:=p) hk d hd i;split at g;exact#[_,g];split at g;exact#[_,g];exact#[_,g]
theorem Dr{N:Nat}{p:Array Nat}(h:Und N p):∀(f n:Nat),Lv N (λm=>n<=m/\m<=n+f) (kas_asc p f n)
 | 0,n=>#[ut _,ut _]
 | f+1,n=>#[h _,h _,λb=>by
  cases b with
  | true=>exact#[ut _,⋯]
  | false=>
   have:=Lv.bind (f:=KasT.ret) (P':=λm=>n<=m/\m<=n+(f+1)) (λa ha=>(#[⋯,⋯]:n<=a/\a<=n+(f+1))) (Dr h f (n+1));rw[show (kas_asc p f (n+1)).bind KasT.ret=kas_asc p f (n+1) from bind_ret _] at this;exact this]
where bind_ret {α:Type}:∀t:KasT α,t.bind KasT.ret=t
  | .ret _=>rfl
  | .ask i j k=>congrArg (KasT.ask i j) (funext λb=>bind_ret (k b))
theorem Lv.mono{α:Type}{N:Nat}{P P':α->Prop}(h:∀a,P a->P' a):∀{t:KasT α},Lv N P t->Lv N P' t
 | .ret a,x=>h a x
 | .ask i j k,x=>#[x.1,x.2.1,λb=>Lv.mono h (x.2.2 b)]
theorem wo{N S:Nat}:∀(f:Nat) (p:Array Nat) (n q:Nat),p.size=S->n+f<=S->Und N p->Lv N (λr:Array Nat×Nat×Nat=>r.1.size=S/\Und N r.1/\n<=r.2.1/\r.2.1<=n+f) (kas_desc f p n q)
 | 0,p,n,q,hz,_,h=>#[hz,h,ut _,ut _]
 | f+1,p,n,q,hz,hs,h=>#[h _,h _,λc=>by
  have U:∀{t:KasT (Array Nat×Nat×Nat)},Lv N (λr:Array Nat×Nat×Nat=>r.1.size=S/\Und N r.1/\n+1<=r.2.1/\r.2.1<=n+1+f) t->Lv N (λr:Array Nat×Nat×Nat=>r.1.size=S/\Und N r.1/\n<=r.2.1/\r.2.1<=n+(f+1)) t:=
   Lv.mono λr #[a,b,c,d]=>#[a,b,⋯,⋯]
  cases c with
  | true=>
   show Lv N _ (if q>0 then kas_desc f (kas_rev p (n-(q+1)) n) (n+1) 0 else kas_desc f p (n+1) 0);split;exact U (wo f _ (n+1) 0 (by rw[gN];exact hz) ⋯ (h.rev ⋯));exact U (wo f p (n+1) 0 hz ⋯ h)
  | false=>
   refine#[h _,h _,λd=> ?_];cases d with
   | true=>exact#[hz,h,ut _,Uy _ _]
   | false=>exact U (wo f p (n+1) (q+1) hz ⋯ h)]
theorem F7{N S n nrem:Nat}(hz:p.size=S)(hn:n<=nrem)(hs:nrem<=S)(h:Und N p):Lv N (λr:Nat×Array Nat=>r.2.size=S/\Und N r.2/\r.1<=nrem) (kas_tail3 n nrem p):=by have h':Und N (kas_rev p 0 n):=h.rev ⋯;exact Lv.bind (f:=λm=>KasT.ret (m,kas_rev p 0 n)) (P':=λr:Nat×Array Nat=>r.2.size=S/\Und N r.2/\r.1<=nrem) (λm hm=>(#[by rw[gN];exact hz,h',by have:=hm.2;show m<=nrem;omega]:(kas_rev p 0 n).size=S/\Und N (kas_rev p 0 n)/\m<=nrem)) (Dr h' (nrem-n) n)
theorem CS{N S n nrem:Nat}(hz:p.size=S)(hn:n+1<=nrem)(hs:nrem<=S)(h:Und N p):Lv N (λr:Nat×Array Nat=>r.2.size=S/\Und N r.2/\r.1<=nrem) (kas_descPart n nrem p):=by refine Lv.bind (λr hr=> ?_) (wo (nrem-(n+1)) p (n+1) 0 hz ⋯ h);obtain⟨a,b,c,d⟩:=hr;split;exact F7 (by rw[gN];exact a) ⋯ hs (b.rev ⋯);exact F7 a ⋯ hs b
theorem KY{N S nrem:Nat}(hz:p.size=S)(h1:1<=nrem)(hs:nrem<=S)(h:Und N p):Lv N (λr:Nat×Array Nat=>r.2.size=S/\Und N r.2/\r.1<=nrem) (kas_count nrem p):=by
 refine Lv.bind (λn hn=> ?_) (Dr h (nrem-1) 1);split;exact#[hz,h,⋯];rename_i U;have U:¬n=nrem:=by simpa using U
 split;refine#[h _,h _,λc=> ?_];cases c with
 | true=>exact#[hz,h,⋯]
 | false=>exact CS (by rw[gN];exact hz) ⋯ hs (h.rev ⋯)
 exact CS hz ⋯ hs h
theorem xR{N:Nat}{p:Array Nat}{k:Nat}(h:Und N p):∀(f l r:Nat),l<=k->r<=k->Lv N (λm=>m<=k) (kas_place p k f l r)
 | 0,l,r,a,b=>a
 | f+1,l,r,a,b=>by
  unfold kas_place;split;exact a;refine#[h _,h _,λc=> ?_];cases c with
  | true=>exact xR h f l ((l+r)/2) a ⋯
  | false=>exact xR h f ((l+r)/2+1) r ⋯ b
theorem HH{N S:Nat}:∀(f:Nat) (p:Array Nat) (k:Nat),p.size=S->k+f<=S->Und N p->Lv N (λU:Array Nat=>U.size=S) (kas_bin f p k)
 | 0,p,k,hz,_,_=>hz
 | f+1,p,k,hz,hk,h=>Lv.bind (λm hm=>HH f _ (k+1) (by rw[Vf];exact hz) ⋯ (h.bub ⋯ ⋯)) (xR h k 0 k (Rb _) (ut _))
theorem Mv(h1:1<=n):Lv n (λp:Array Nat=>p.size=n) (kas_sort n):=by
 have sz:(RC (tz n)).size=n:=by simp
 have U:Und n (RC (tz n)):=λi=>by rw[Sb,List.getElem?_toArray];by_cases hi:i<n;simp[hi];rw[Tx (by simpa using hi)];exact h1
 refine Lv.bind (λr hr=> ?_) (KY sz h1 (ut _) U);obtain⟨a,b,c⟩:=hr;split;exact HH _ _ _ a ⋯ b;exact a
theorem CG{α:Type}{N:Nat}{P:α->Prop}{lt:Nat->Nat->Bool}{U:Nat->Nat->(Bool->r0->Prop)->r0->Prop}{Q:α->r0->Prop}{s:r0}(hc:∀i j C,i<N->j<N->C (lt i j) s->U i j C s):
 ∀(t:KasT α),Lv N P t->Q (jj lt t) s->t.kasWp U Q s
 | .ret a,_,h=>h
 | .ask i j k,l,h=>hc i j _ l.1 l.2.1 (CG hc (k (lt i j)) (l.2.2 _) h)
section
open PySem.SeqAt
open PySem.AutoSeq1 (wpAny_loadPart')
open PySem.MeetsSeq PySem.MeetsSeq2 PySem.MeetsSeq3
theorem ints_get{ns:List Int}(h:Si vs ns)(hi:i<ns.length):∃t,vs[i]? =lH (.int ns[i] t):=by have U:=h.length;have e:vs[i]? =lH vs[i]:=sn ⋯;obtain⟨t,q⟩:=h.int_at i _ e;refine#[t, ?_];rw[e,q];simp[nu,hi]
theorem K7(l b:pc)(Y U:Array ol)(n n2:Nat)(dd az:Option pc)(sl a0:Array (Option ol))(ns ms:List Int)(hi:Si Y.toList ns)(hj:Si U.toList ms){k:Nat}:
 ∀i:Nat,ns.length-i=k->i<=ns.length->i<=ms.length->Meets (Builtin.«list.__eq__.loop» #[[.ref l,.ref b,rawInt i,rawInt 0],[]])
  (λ_ R s=>s.heap.get? l=lH {cls:=.type "list",dict:=dd,data:=.seq Y n,slots:=sl}/\s.heap.get? b=lH {cls:=.type "list",dict:=az,data:=.seq U n2,slots:=a0}/\
   R (.ok (.ret (.bool (HT.lexLt (ns.drop i) (ms.drop i))))) s):=by
 have z1:Y.size=ns.length:=by rw[<- hi.length];simp
 have z2:U.size=ms.length:=by rw[<- hj.length];simp
 have al:∀i:Nat,i<=ns.length->i<=ms.length->(i=ns.length\/i=ms.length)->HT.lexLt (ns.drop i) (ms.drop i)=decide (Y.size<U.size):=by intro i h1 h2 h3;by_cases e1:i=ns.length;rw[e1,Ut];by_cases e2:ns.length=ms.length;rw[e2,Ut];exact(decide_eq_false ⋯).symm;rw[Ri ⋯];exact(decide_eq_true ⋯).symm;have e2:i=ms.length:=⋯;rw[e2,Ut,Ri ⋯];exact(decide_eq_false ⋯).symm
 induction k with
 | zero=>
  intro i hk h1 h2 prog w A R s h;obtain⟨hp,g,d,tk,os⟩:=s;obtain⟨hl,hb,h⟩:=h;have a1:i=ns.length:=⋯
  wp_walk using Ra hl,Ra hb
  have ab:Y[((i:Nat):Int).toNat]? =none:=by simp;omega
  rw[ab];rw[al i h1 h2 (.inl a1)] at h
  wp_walk using Ra hl,Ra hb
  exact h
 | succ k ih=>
  intro i hk h1 h2 prog w A R s h;obtain⟨hp,g,d,tk,os⟩:=s;obtain⟨hl,hb,h⟩:=h;have ap:i<ns.length:=⋯;obtain⟨t,et⟩:=ints_get hi ap;have ab:Y[((i:Nat):Int).toNat]? =lH (.int ns[i] t):=by rw[SW] at et;simpa using et
  by_cases as:i<ms.length;obtain⟨u,eu⟩:=ints_get hj as;have ac:U[((i:Nat):Int).toNat]? =lH (.int ms[i] u):=by rw[SW] at eu;simpa using eu
  wp_walk using Ra hl,Ra hb
  rw[ab,ac];rw[Ri ap,Ri as,HT.oV] at h;have hc:((i:Int)+1)=((i+1:Nat):Int):=by push_cast;rfl
  obtain⟨e,he,an⟩:=HT.Ju A.in1 #[hp,g,d,tk,os] ns[i] t ms[i] u;refine u8 (he prog w _ _ ?_);cases e with
  | true=>
   rw[if_pos (an.mp rfl)] at h
   wp_walk
   rw[hc];exact#[plainId_quiet plain_eq_loop _,codeAny_builtin entry_eq_loop (by rw[Around.under_plainId plain_eq_loop _];exact ih (i+1) ⋯ ⋯ ⋯ prog w A R _ #[hl,hb,h])]
  | false=>
   rw[if_neg (λq=>absurd (an.mpr q) At)] at h;have a2:=HT.JY A.in1 #[hp,g,d,tk,os] ns[i] t ms[i] u prog w
   wp_walk using Ra hl,Ra hb
   rw[ab,ac]
   wp_walk using a2
   exact h
  have ac:U[((i:Nat):Int).toNat]? =none:=by simp;omega
  wp_walk using Ra hl,Ra hb
  rw[ab,ac];rw[al i h1 h2 (.inr ⋯)] at h
  wp_walk using Ra hl,Ra hb
  exact h
theorem Kb(l b:pc)(Y U:Array ol)(n n2:Nat)(dd ab:Option pc)(sl ac:Array (Option ol))(ns ms:List Int)(hi:Si Y.toList ns)(hj:Si U.toList ms):
 Meets (Builtin.«list.__lt__» #[[.ref l,.ref b],[]])
  (λ_ R s=>s.heap.get? l=lH {cls:=.type "list",dict:=dd,data:=.seq Y n,slots:=sl}/\s.heap.get? b=lH {cls:=.type "list",dict:=ab,data:=.seq U n2,slots:=ac}/\
   R (.ok (.ret (.bool (HT.lexLt ns ms)))) s):=by
 intro prog w A R s h;obtain⟨hp,g,d,tk,os⟩:=s;obtain⟨hl,hb,h⟩:=h;have f2:=AutoSeq1.sub_list_list
 wp_walk using Ra hl,Ra hb
 exact#[plainId_quiet plain_eq_loop _,codeAny_builtin entry_eq_loop (by rw[Around.under_plainId plain_eq_loop _];exact K7 l b Y U n n2 dd ab sl ac ns ms hi hj 0 rfl (Rb _) (Rb _) prog w A R _ #[hl,hb,by simpa using h])]
end
section
variable {prog : AC} {w : Db} {A : KE} {E : ol → r0 → Prop} {s : r0}
theorem EL {l b:pc} {Y U:Array ol} {ns ms:List Int} {Q:Bool->r0->Prop} (hl:s.heap.IsList l Y) (hb:s.heap.IsList b U) (hi:Si Y.toList ns) (hj:Si U.toList ms) (hu:A.units<cLine)
 (h:Q (HT.lexLt ns ms) s):wpAny (model prog w) A (keyLt' oneType' (.ref l) (.ref b)) Q E s:=by
 obtain⟨⟨cls,dd,data,sl⟩,ho,hc,n,hd⟩:=id hl;obtain⟨⟨as,am,data2,an⟩,ap,ab,n2,ac⟩:=id hb;dsimp only at hc hd ab ac;subst hc hd ab ac;rw[keyLt'_oneType,oneLt'_eq];simp only[if_true];refine u8 (wpAny_cRoomFor hu ?_);refine u8 (wpAny_callSpecialIfBound?_slot #[_,ho,rfl] UM (TB UM #[_,ho,rfl] PySem.F.entry_list_lt (PySem.F.args_list_lt_2 _ _) (Kb l b Y U n n2 dd am sl an ns ms hi hj) #[ho,ap, ?_]));exact Ry h
end
section
variable {prog : AC} {w : Db} {A : KE} {E : ol → r0 → Prop} {s : r0}
abbrev CM(nss:List (List Int)):Nat->N7.α:=λi=>nss.getD i []
def qK(vs:List ol)(p:Array Nat):Array Value:=(p.toList.map λi=>vs.getD i Value.none).toArray
def Pa(h:Gc)(vs:List ol)(nss:List (List Int))(a:pc):Prop:=∀i,i<vs.length->∃(l:pc) (U:Array ol),vs.getD i Value.none=.ref l/\l≠a/\h.IsList l U/\Si U.toList (nss.getD i [])
theorem EZ:qK vs (RC (tz vs.length))=vs.toArray:=by unfold qK;congr 1;refine Sv (by simp) λi h1 h2=> ?_;simp[nu,h2]
theorem Nw {a:pc} {nss:List (List Int)} {P:PySem.Fin->r0->Prop} (ho:s.heap.get? a=lH (seqObj "list" vs.toArray n)) (a0:vs.length<64) (hu:A.units<cLine) (ab:Pa s.heap vs nss a)
 (h:∀p:Array Nat,p.Perm (RC (tz vs.length))->eI (CM nss) p vs.length->P (.done (.ret .none)) {s with heap:=sortedHeap s.heap a vs (qK vs p)}):
 wpAny (model prog w) A (Builtin.«list.sort» #[[.ref a],[]]) P E s:=by
 rw[list_sort_plain];have ha:a<s.heap.objs.size:=Heap.lt_size ho;have ac:vs.length<=sizeLine:=by rw[SN];omega
 refine u8 (listItems_at ho rfl ?_);refine u8 (UO ho rfl ?_ (by rw[xg];exact ac) (Rb _));obtain⟨e1,ho1⟩:∃e1,(s.heap.update a (Obj.mapSeq λ_=> #v[])).get? a=lH (seqObj "list" #v[] e1):=#[_,get?_update_seq ho (λ_=> #v[])];refine u8 (Vi ho1 rfl ?_);refine u8 (wpAny_newTuple ?_ ac);refine u8 (wpAny_newList ?_ (Rb _));refine S6 ?_;have al:∀b o,b≠a->s.heap.get? b=lH o->(((s.heap.update a (Obj.mapSeq λ_=> #v[])).push (seqObj "tuple" vs.toArray 0)).push (seqObj "list" #v[] 0)).get? b=lH o:=λb o hb e=>
  Heap.get?_push_of_some _ (Heap.get?_push_of_some _ ((Heap.get?_update_ne _ _ _ _ hb).trans e))
 have Y:(((s.heap.update a (Obj.mapSeq λ_=> #v[])).push (seqObj "tuple" vs.toArray 0)).push (seqObj "list" #v[] 0)).get? a=lH (seqObj "list" #v[] e1):=Heap.get?_push_of_some _ (Heap.get?_push_of_some _ ho1);show wpAny (model prog w) A _ P E {s with heap:=((s.heap.update a (Obj.mapSeq λ_=> #v[])).push (seqObj "tuple" vs.toArray 0)).push (seqObj "list" #v[] 0)};dsimp only;by_cases h2:vs.toArray.size<2;have am:=h (RC (tz vs.length)) (Array.Perm.refl _) λi j b1 hj=>by
  have:i=j:=by rw[xg] at h2;omega
  subst this;exact KeyOrd.kle_refl _
 rw[EZ] at am;rw[if_pos h2,if_pos h2];refine u8 (BG ?_);rw[StateT.run_pure];refine u8 (BG ?_);dsimp only;have hz:(Array.map (λx:Keyed=>x.2) (vs.toArray.zip vs.toArray))=vs.toArray:=by apply Uv.mp;rw[Vm,Array.toList_zip];exact List.map_snd_zip (ut _)
 refine u8 (Vi Y rfl ?_);show wpAny (model prog w) A (Builtin.List.listUpdate (.ref a) (λ_=>Array.map (λx:Keyed=>x.2) (vs.toArray.zip vs.toArray)) >>= _) P E _;rw[hz];refine u8 (UO Y rfl ?_ (Rb _) (by rw[xg];omega));simp only[bne_self_eq_false,Td,if_false];exact BG am;rw[if_neg h2,if_neg h2];have l2:2<=vs.length:=by rw[xg] at h2;omega
 obtain⟨p0,e0,q1,q2,q3⟩:=xy (key:=CM nss) (n:=vs.length) ⋯;refine u8 (kas_kind (T:=.type "list") l2 (λv hv=> ?_) ∅ ∅ ?_);obtain⟨i,hi,rfl⟩:=Rq hv;obtain⟨l,a5,el,la,il,_⟩:=ab i hi;rw[nu,sn hi] at el;rw[show vs[i]=.ref l from el];intro A Q E s' k q;obtain⟨o,be,hc,_⟩:=il;exact wpAny_typeOf (T:="list") #[o,k _ _ (al _ _ la be),hc] q;have bi:SortSt.mk' oneType' (vs.toArray.zip vs.toArray) #v[] 7 na=kas_st oneType' (pairsOf vs) (RC (tz vs.length)):=by have e:=kas_range (pairsOf vs);rw[pairsOf_size] at e;show SortSt.mk' oneType' (pairsOf vs) #v[] 7 na=SortSt.mk' oneType' ((RC (tz vs.length)).map (kas_item (pairsOf vs))) #v[] 7 na;rw[e]
 have ask:(kas_sort vs.length).kasWp (kas_ask prog w A oneType' vs) (λp s'=>p=p0/\s'={s with heap:=((s.heap.update a (Obj.mapSeq λ_=> #v[])).push (seqObj "tuple" vs.toArray 0)).push (seqObj "list" #v[] 0)})
  {s with heap:=((s.heap.update a (Obj.mapSeq λ_=> #v[])).push (seqObj "tuple" vs.toArray 0)).push (seqObj "list" #v[] 0)}:=by
  refine CG (lt:=ltK (CM nss)) (λi j C hi hj hC=> ?_) _ (Mv ⋯) #[e0,rfl];obtain⟨l,a5,el,la,il,ii⟩:=ab i hi;obtain⟨m,bv,em,ma,im,ij⟩:=ab j hj;unfold kas_ask;rw[el,em];have up:∀{x:pc} {xs:Array ol},x≠a->s.heap.IsList x xs->(((s.heap.update a (Obj.mapSeq λ_=> #v[])).push (seqObj "tuple" vs.toArray 0)).push (seqObj "list" #v[] 0)).IsList x xs:=λhx #[o,e,r]=>#[o,al _ _ hx e,r];exact EL (up la il) (up ma im) ii ij hu hC
 rw[kas_ask_eq] at ask;have run:=kas_runs (E:=E) (Q:=λ_ U s'=>arrOf U=p0.map (kas_item (pairsOf vs))/\failedOf U=na/\s'={s with heap:=((s.heap.update a (Obj.mapSeq λ_=> #v[])).push (seqObj "tuple" vs.toArray 0)).push (seqObj "list" #v[] 0)})
  l2 a0 (λp' U s' a1 a2 a3 a4=>#[by rw[a2,a4.1],a3,a4.2]) ask
 rw[<- bi] at run;refine u8 (R8 run ?_ λ_ _ e=>e);rintro ⟨⟨⟩,U⟩ s' ⟨bm,hf,rfl⟩;dsimp only;have an:(arrOf U).map (·.2)=qK vs p0:=by apply Uv.mp;rw[bm,Array.map_map,Vm];exact US λi _=>by show (kas_item (pairsOf vs) i).2=_;rw[kas_item_eq]
 rw[an];refine u8 (Vi Y rfl ?_);refine u8 (UO Y rfl ?_ (Rb _) (by unfold qK;rw[xg,ss,S8,q2];omega));rw[hf];simp only[bne_self_eq_false,Td,if_false];exact BG (h p0 q1 q3)
theorem MX {l:pc} {nss:List (List Int)} {Q:ol->r0->Prop} (hl:s.heap.IsList l vs.toArray) (al:vs.length<64) (hu:A.units+64<cLine)
 (am:∀i,i<vs.length->∃(l:pc) (U:Array ol),vs.getD i Value.none=.ref l/\s.heap.IsList l U/\Si U.toList (nss.getD i []))
 (h:∀p:Array Nat,p.Perm (RC (tz vs.length))->eI (CM nss) p vs.length->Q (.ref (s.heap.objs.size+1)) {s with heap:=sortedAll s.heap vs (qK vs p)}):
 wpAny (model prog w) A (call (.builtin "sorted") [.ref l]) Q E s:=by
 have Y:vs.length<=sizeLine:=by rw[SN];omega
 refine Calls.call_function_entry kind_sorted plain_sorted entry_sorted (args_sorted1 _) ?_;unfold Builtin.«sorted»;refine u8 (m:=checkCount "sorted" 1 1 _) (BG ?_);refine u8 (collect_list hl ?_ Y);refine u8 (wpAny_newList ?_ Y);have ab:((s.heap.push (seqObj "list" #v[] 0)).update s.heap.objs.size (Obj.mapSeq (·++vs.toArray))).objs.size=s.heap.objs.size+1:=by rw[Heap.size_update,size_push']
 have ac:(((s.heap.push (seqObj "list" #v[] 0)).update s.heap.objs.size (Obj.mapSeq (·++vs.toArray))).push (seqObj "list" vs.toArray 0)).get? (s.heap.objs.size+1)=lH (seqObj "list" vs.toArray 0):=by rw[<- ab];exact Heap.get?_push_size _ rfl
 have keep:∀b o,s.heap.get? b=lH o->(((s.heap.push (seqObj "list" #v[] 0)).update s.heap.objs.size (Obj.mapSeq (·++vs.toArray))).push (seqObj "list" vs.toArray 0)).get? b=lH o:=λb o q=>by have an:b<s.heap.objs.size:=Heap.lt_size q;exact Heap.get?_push_of_some _ ((Heap.get?_update_ne _ _ _ _ (FS an)).trans (Heap.get?_push_of_some _ q))
 show wpAny _ _ _ _ _ {s with heap:=((s.heap.push (seqObj "list" #v[] 0)).update s.heap.objs.size (Obj.mapSeq (·++vs.toArray))).push (seqObj "list" vs.toArray 0)};rw[ab];refine u8 (S6 (wpAny_call_entry slot_list_sort #[_,ac,rfl] entry_list_sort (Nw (nss:=nss) ac al ?_ (λi hi=> ?_) λp a1 a2=>#[_,rfl, ?_]) (args_list_sort _)));simp only[units_in1];omega;obtain⟨x,U,e,il,ii⟩:=am i hi;obtain⟨o,ho,r⟩:=il;exact#[x,U,e,FS (Tn (Heap.lt_size ho)),#[o,keep _ _ ho,r],ii];exact BG #[_,rfl,h p a1 a2]
end
section
variable {α β : Type}
def ua(x:α×List Int):List (α×List Int)->List (α×List Int)
 | []=>[x]
 | y::l=>if HT.lexLt x.2 y.2=on then x::y::l else y::ua x l
def d9:List (α×List Int)->List (α×List Int)
 | []=>[]
 | x::l=>ua x (d9 l)
theorem DE{g:α×List Int->β×List Int}(U:∀x,(g x).2=x.2)(x:α×List Int):∀l,ua (g x) (l.map g)=(ua x l).map g
 | []=>rfl
 | y::l=>by rw[ww];unfold ua;rw[U,U];split;rfl;rw[ww,DE U x l]
theorem nH{g:α×List Int->β×List Int}(U:∀x,(g x).2=x.2):∀l,d9 (l.map g)=(d9 l).map g
 | []=>rfl
 | x::l=>by rw[ww];unfold d9;rw[nH U l,DE U]
theorem vi(x:α×List Int):∀l,(ua x l).Perm (x::l)
 | []=>.refl _
 | y::l=>by unfold ua;split;exact .refl _;exact((vi x l).cons y).trans (VD x y l)
theorem gT:∀l:List (α×List Int),(d9 l).Perm l
 | []=>.refl _
 | x::l=>(vi x _).trans ((gT l).cons x)
abbrev Ad(l:List (α×List Int)):Prop:=l.Pairwise λa b=>HT.lexLt b.2 a.2=tt
theorem lex_asymm{a b:List Int}(h:HT.lexLt a b=on):HT.lexLt b a=false:=by
 cases h2:HT.lexLt b a with
 | false=>rfl
 | true=>
  have:=lex_trans a b a h h2;rw[lex_irrefl] at this;cases this
theorem GF{a b c:List Int}(h1:HT.lexLt b a=tt)(h2:HT.lexLt c b=tt):HT.lexLt c a=false:=KeyOrd.kle_trans (O:=N7) (a:=a) (b:=b) (c:=c) h1 h2
theorem Bb(x:α×List Int):∀{l},Ad l->Ad (ua x l)
 | [],_=>List.pairwise_singleton _ _
 | y::l,h=>by
  unfold ua;have hy:=Q8.mp h;split;rename_i c;refine Q8.mpr #[λz hz=> ?_,h];rcases vr.mp hz with rfl | hz
  exact lex_asymm c;exact GF (lex_asymm c) (hy.1 z hz);rename_i c;refine Q8.mpr #[λz hz=> ?_,Bb x hy.2];rcases vr.mp ((vi x l).mem_iff.mp hz) with rfl | hz
  exact eq_false_of_ne_true c;exact hy.1 z hz
theorem oR:∀l:List (α×List Int),Ad (d9 l)
 | []=>.nil
 | x::l=>Bb x (oR l)
theorem Ml{l:List (α×List Int)}(U:(l.map (·.2)).Nodup){a b:α×List Int}(ha:a∈l)(hb:b∈l)(h:a.2=b.2):a=b:=by
 induction l with
 | nil=>cases ha
 | cons x l Y=>
  rw[ww,RK] at U;rcases vr.mp ha with rfl | ha'
  rcases vr.mp hb with rfl | hb;rfl;have q:b.2∈l.map (·.2):=Ps hb;rw[<- h] at q;exact absurd q U.1;rcases vr.mp hb with rfl | hb;have q:a.2∈l.map (·.2):=Ps ha';rw[h] at q;exact absurd q U.1;exact Y U.2 ha' hb
theorem yj:∀{l m:List (α×List Int)},l.Perm m->(l.map (·.2)).Nodup->Ad l->Ad m->l=m
 | [],m,h,_,_,_=>(List.nil_perm.mp h).symm
 | a::l,[],h,_,_,_=>absurd h.symm (by simp)
 | a::l,b::m,h,nd,hl,hm=>by
  have e:a=b:=by
   have ha:a∈b::m:=h.mem_iff.mp sH;have hb:b∈a::l:=h.mem_iff.mpr sH;rcases vr.mp ha with e | ha
   exact e;rcases vr.mp hb with e | hb'
   exact e.symm;refine Ml nd sH hb (qD _ _ ((Q8.mp hm).1 a ha) ((Q8.mp hl).1 b hb'))
  subst e;rw[yj (List.Perm.cons_inv h) (RK.mp nd).2 (Q8.mp hl).2 (Q8.mp hm).2]
end
section
variable {X : Cx}
def yf(K:qh):List V->Hp->VK->Prop:=λxs H Q=>∃(p:pc) (ls:List (pc×List Int)),xs=[.ref p]/\SqL K H p (ls.map λx=>V.ref x.1)/\(∀x∈ls,SqL K H x.1 (x.2.map V.int))/\ls.length<64/\(ls.map (·.2)).Nodup/\
 ∀d,H d=na->Q (.ref d) (upd H d (.lst ((d9 ls).map λx=>V.ref x.1)))
theorem yF:∀{ls:List (pc×List Int)} {U:List ol},Vals (ls.map λx=>V.ref x.1) U->U=ls.map λx=>Value.ref x.1
 | [],_,h=>by cases h;rfl
 | x::ls,_,h=>by
  cases h with
  | cons r Y=>cases r;rw[yF Y];rfl
theorem yt:∀(ls:List (pc×List Int)),Vals (ls.map λx=>V.ref x.1) (ls.map λx=>Value.ref x.1)
 | []=>.nil
 | x::ls=>.cons rfl (yt ls)
theorem El(hu:X.A.units+64<cLine):nt X (.builtin "sorted") (yf X.K):=by
 intro pins s σ H xs us Q I r h;obtain⟨p,ls,rfl,hq,hi,al,nd,q⟩:=h;obtain⟨u,rfl,ru⟩:=vals1 r;cases ru;obtain⟨a5,rv,pl,hz⟩:=I.list hq;obtain rfl:=yF rv;have ln:(ls.map λx=>Value.ref x.1).length=ls.length:=ss _;refine MX (nss:=ls.map (·.2)) pl.isList (by rw[ln];exact al) hu (λi Y=> ?_) λU a1 a2=> ?_;rw[ln] at Y;obtain⟨ab,r2,an,_⟩:=I.list (hi ls[i] (Cg _));refine#[ls[i].1,ab.toArray,by simp[nu,Y],an.isList, ?_];rw[show (ls.map (·.2)).getD i []=ls[i].2 by simp[nu,Y]];simpa using tY r2;rw[ln] at a1 a2;have hm:∀i∈U.toList,i<ls.length:=λi hi=>by have:=(T8.mp a1).mem_iff.mp hi;simpa using this
 have e1:qK (ls.map λx=>Value.ref x.1) U=((U.toList.map λi=>ls.getD i (0,[])).map λx=>Value.ref x.1).toArray:=by unfold qK;congr 1;rw[wh];refine US λi hi=> ?_;have:=hm i hi;simp[nu,this]
 have e2:(U.toList.map λi=>ls.getD i (0,[])).Perm ls:=by have:=(T8.mp a1).map λi=>ls.getD i (0,[]);refine this.trans (List.Perm.of_eq ?_);refine Sv (by simp) λi h1 h2=> ?_;simp[nu,h2]
 have sz:U.size=ls.length:=by have:=a1.size_eq;simpa using this
 have e3:Ad (U.toList.map λi=>ls.getD i (0,[])):=by
  refine Tc.mpr ?_;intro i j hi hj ap;have Y:i<U.size:=by simpa using hi
  have as:j<U.size:=by simpa using hj
  have:=a2 i j (R9 ap) ⋯;have k1:∀(i:Nat) (h:i<U.size),kAt (CM (ls.map (·.2))) U i=(ls.getD U[i] (0,[])).2:=λi h=>by
   have hb:=hm U[i] (by simp);have e:U.getD i 0=U[i]:=by simp[Array.getD,h]
   unfold kAt;rw[e];show (ls.map (·.2)).getD U[i] []=_;rw[nu,wP,nu,sn hb];rfl
  rw[k1 i Y,k1 j as] at this;rw[Ui,Ui,UK,UK];exact this
 have e4:(U.toList.map λi=>ls.getD i (0,[]))=d9 ls:=yj (e2.trans (gT ls).symm) ((e2.map (·.2)).nodup_iff.mpr nd) e3 (oR ls);rw[e1,e4];obtain⟨e,he⟩:=sortedAll_at s.heap (ls.map λx=>Value.ref x.1) ((d9 ls).map λx=>Value.ref x.1).toArray;have fresh:H (s.heap.objs.size+1)=none:=I.hok.fresh (T3 _);refine#[.ref (s.heap.objs.size+1),_,I.laid (t':=s.toks) (o:=.lst ((d9 ls).map λx=>V.ref x.1)) (λb o q=>sortedAll_old q) (T3 _) ?_,rfl,q _ fresh];exact#[by rw[ss,(gT ls).length_eq];rw[ss] at hz;exact hz,_,e,yt _,he]
end
open PySem PySem.Spec PyProof.Rows
section
variable {prog : AC} {w : Db} {A : KE} {R : U2 → r0 → Prop} {I : pc} {fp wr : List pc} {n : Nat} {P : Nat → ol → Prop} {St : Nat → Gc → Prop} {kw : List (Str × ol)}
end
section
variable {prog : AC} {w : Db} {A : KE} {E : ol → r0 → Prop} {s : r0}
end
section
variable {X : Cx} {e d : Do} {te td : TE} {p q kp : Pos}
end
section
variable {X : Cx}
end
section
variable {X : Cx}
end
section
variable {X : Cx}
end
section
variable {prog : AC} {w : Db} {A : KE} {E : ol → r0 → Prop} {s : r0}
end
section
variable {X : Cx} {e d : Do} {te td : TE} {p q kp : Pos}
end
section
variable {prog : AC} {w : Db} {A : KE} {E : ol → r0 → Prop} {s : r0}
end
section
variable {X : Cx}
end
end L2
namespace M
open PySem L2
variable {K : qh} {a : pc} {xs vs : List V} {d x y : D} {v : V} {ds : List D} {H F H1 F1 : Hp} {θ θ1 : List pc} {ca : Nat → pc} {O : aA} {s : S} {C : Ct} {te t to : TE} {ta : TA} {m me mo e : EM} {ma : AM} {n i k c : Nat} {g : TG} {gm : GM} {wi : TI} {im : IM} {tc : TT} {σ : L2.St} {E : XK} {Q : VK} {tl th : TO} {ml mh : OM} {caps : List Nat} {X : Cx} {f : Str} {ns : List Str}
inductive D where
 | non | bl (b:Bool) | int (i:Int) | str (x:Str) | lst (xs:List D) | tup (xs:List D) | ptr (k:Nat) | obj (c:Nat) (ns:List Str) (ds:List D) | exn (c:Nat)
inductive Cell where
 | dead | lst (xs:List D) | ins (c:Nat) (ns:List Str) (ds:List D)
abbrev aA:=List Cell
structure S where
 r:List (Option D)
 o:aA
inductive Res (α:Type) where
 | ok (a:α) | exc (c:Nat) (a:D) (o:S) | bad
def Res.bind{α β:Type}(x:Res α)(f:α->Res β):Res β:=match x with
 | .ok a=>f a
 | .exc c a o=>.exc c a o
 | .bad=>.bad
@[simp] theorem aj {α β:Type} {a:α} {f:α->Res β}:(Res.ok a).bind f=f a:=rfl
@[simp] theorem PV {α β:Type} (c:Nat) (a:D) (o:S) (f:α->Res β):(Res.exc c a o:Res α).bind f=.exc c a o:=rfl
@[simp] theorem PJ {α β:Type} (f:α->Res β):(Res.bad:Res α).bind f=.bad:=rfl
abbrev Wsh:=Nat->D->S->Hp->Hp->List pc->Prop
structure Ct where
 K:qh
 ca:Nat->pc
 W:Wsh
mutual
def Rep(K:qh)(ca:Nat->pc)(θ:List pc)(F:Hp):D->V->Prop
 | .non,v=>v=.non
 | .bl b,v=>v=.bl b
 | .int i,v=>v=.int i
 | .str x,v=>v=.str x
 | .lst ds,v=>∃a xs,v=.ref a/\SqL K F a xs/\aH K ca θ F ds xs
 | .tup ds,v=>∃a xs,v=.ref a/\SqT K F a xs/\aH K ca θ F ds xs
 | .ptr k,v=>∃a,v=.ref a/\θ[k]? =lH a
 | .obj c ns ds,v=>∃a dx xs,v=.ref a/\F a=lH (.ins (ca c) dx (ns.zip xs))/\ns.length=xs.length/\aH K ca θ F ds xs
 | .exn c,v=>∃a,v=.ref a/\F a=lH (exO a (ca c))
def aH(K:qh)(ca:Nat->pc)(θ:List pc)(F:Hp):List D->List V->Prop
 | [],xs=>xs=[]
 | d::ds,xs=>∃v r,xs=v::r/\Rep K ca θ F d v/\aH K ca θ F ds r
end
mutual
def cO:D->Bool
 | .lst ds=>aR ds
 | .tup ds=>aR ds
 | .ptr _=>tt
 | .obj _ _ ds=>aR ds
 | _=>on
def aR:List D->Bool
 | []=>on
 | d::ds=>cO d&&aR ds
end
def oG:D->Bool
 | .non=>on | .bl _=>on | .int _=>on | .str _=>on | _=>tt
theorem bS.seqT{H H':Hp}(e:bS H H')(h:SqT K H a xs):SqT K H' a xs:=by rcases h with(h | ⟨o,h⟩) | h;exact .inl (.inl (e _ _ h));exact .inl (.inr #[o,e _ _ h]);exact .inr h
section
variable {K : qh} {ca : Nat → pc} {θ θ1 : List pc} {F F1 : Hp}
mutual
theorem Rep.mono(Y:bS F F1)(U:∃r,θ1=θ++r):∀{d:D} {v:V},Rep K ca θ F d v->Rep K ca θ1 F1 d v
 | .non,_,h=>h
 | .bl _,_,h=>h
 | .int _,_,h=>h
 | .str _,_,h=>h
 | .lst ds,_,h=>by unfold Rep at h ⊢;obtain⟨a,xs,e,hs,hr⟩:=h;exact#[a,xs,e,Y.seq hs,aH.mono Y U hr]
 | .tup ds,_,h=>by unfold Rep at h ⊢;obtain⟨a,xs,e,hs,hr⟩:=h;exact#[a,xs,e,bS.seqT Y hs,aH.mono Y U hr]
 | .ptr k,_,h=>by unfold Rep at h ⊢;obtain⟨a,e,hk⟩:=h;obtain⟨r,rfl⟩:=U;refine#[a,e, ?_];rw[wv (xL.mp hk).1];exact hk
 | .obj c ns ds,_,h=>by unfold Rep at h ⊢;obtain⟨a,dx,xs,e,ha,hl,hr⟩:=h;exact#[a,dx,xs,e,Y _ _ ha,hl,aH.mono Y U hr]
 | .exn c,_,h=>by unfold Rep at h ⊢;obtain⟨a,e,ha⟩:=h;exact#[a,e,Y _ _ ha]
theorem aH.mono(Y:bS F F1)(U:∃r,θ1=θ++r):∀{ds:List D} {xs:List V},aH K ca θ F ds xs->aH K ca θ1 F1 ds xs
 | [],_,h=>h
 | d::ds,_,h=>by unfold aH at h ⊢;obtain⟨v,r,e,h1,h2⟩:=h;exact#[v,r,e,Rep.mono Y U h1,aH.mono Y U h2]
end
mutual
theorem Rep.pure:∀{d:D} {v:V},cO d=on->Rep K ca θ F d v->Rep K ca θ1 F d v
 | .non,_,_,h=>h
 | .bl _,_,_,h=>h
 | .int _,_,_,h=>h
 | .str _,_,_,h=>h
 | .lst ds,_,p,h=>by unfold Rep at h ⊢;obtain⟨a,xs,e,hs,hr⟩:=h;exact#[a,xs,e,hs,aH.pure (by simpa[cO] using p) hr]
 | .tup ds,_,p,h=>by unfold Rep at h ⊢;obtain⟨a,xs,e,hs,hr⟩:=h;exact#[a,xs,e,hs,aH.pure (by simpa[cO] using p) hr]
 | .ptr k,_,p,h=>by simp[cO] at p
 | .obj c ns ds,_,p,h=>by unfold Rep at h ⊢;obtain⟨a,dx,xs,e,ha,U,hr⟩:=h;exact#[a,dx,xs,e,ha,U,aH.pure (by simpa[cO] using p) hr]
 | .exn c,_,_,h=>by unfold Rep at h ⊢;exact h
theorem aH.pure:∀{ds:List D} {xs:List V},aR ds=on->aH K ca θ F ds xs->aH K ca θ1 F ds xs
 | [],_,_,h=>h
 | d::ds,_,p,h=>by unfold aH at h ⊢;obtain⟨v,r,e,h1,h2⟩:=h;simp only[aR,Rp] at p;exact#[v,r,e,Rep.pure p.1 h1,aH.pure p.2 h2]
end
theorem Rep.scal(p:oG d=on)(h:Rep K ca θ F d v):Rep K ca θ1 F1 d v:=by cases d <;> first | exact h | (simp[oG] at p)
theorem aH.length:∀{ds:List D} {xs:List V},aH K ca θ F ds xs->xs.length=ds.length
 | [],_,h=>by unfold aH at h;rw[h];rfl
 | d::ds,_,h=>by unfold aH at h;obtain⟨v,r,rfl,_,h2⟩:=h;rw[wT,wT,aH.length h2]
theorem aH.get:∀{ds:List D} {xs:List V} {i:Nat} {d:D},aH K ca θ F ds xs->ds[i]? =lH d->∃v,xs[i]? =lH v/\Rep K ca θ F d v
 | [],_,_,_,_,e=>by simp at e
 | d::ds,_,0,_,h,e=>by unfold aH at h;obtain⟨v,r,rfl,h1,_⟩:=h;simp at e;subst e;exact#[v,rfl,h1]
 | d::ds,_,i+1,x,h,e=>by unfold aH at h;obtain⟨v,r,rfl,_,h2⟩:=h;obtain⟨u,e1,e2⟩:=aH.get (i:=i) (d:=x) h2 (by simpa using e);exact#[u,by simpa using e1,e2]
theorem aH.append:∀{ds es:List D} {xs ys:List V},aH K ca θ F ds xs->aH K ca θ F es ys->aH K ca θ F (ds++es) (xs++ys)
 | [],_,_,_,h,k=>by unfold aH at h;rw[h];exact k
 | d::ds,_,_,_,h,k=>by unfold aH at h;obtain⟨v,r,rfl,h1,h2⟩:=h;show aH K ca θ F (d::(ds++_)) (v::(r++_));unfold aH;exact#[v,_,rfl,h1,aH.append h2 k]
theorem aH.one(h:Rep K ca θ F d v):aH K ca θ F [d] [v]:=by unfold aH;exact#[v,[],rfl,h,by unfold aH;rfl]
theorem aH.nil:aH K ca θ F [] []:=by unfold aH;rfl
theorem aH.cons(h:Rep K ca θ F d v)(k:aH K ca θ F ds xs):aH K ca θ F (d::ds) (v::xs):=by unfold aH;exact#[v,xs,rfl,h,k]
theorem aH.take:∀{ds:List D} {xs:List V} (n:Nat),aH K ca θ F ds xs->aH K ca θ F (ds.take n) (xs.take n)
 | _,_,0,_=>by simp;exact aH.nil
 | [],_,n+1,h=>by unfold aH at h;rw[h];exact aH.nil
 | d::ds,_,n+1,h=>by unfold aH at h;obtain⟨v,r,rfl,h1,h2⟩:=h;exact aH.cons h1 (aH.take n h2)
theorem aH.drop:∀{ds:List D} {xs:List V} (n:Nat),aH K ca θ F ds xs->aH K ca θ F (ds.drop n) (xs.drop n)
 | _,_,0,h=>h
 | [],_,n+1,h=>by unfold aH at h;rw[h];exact aH.nil
 | d::ds,_,n+1,h=>by unfold aH at h;obtain⟨v,r,rfl,h1,h2⟩:=h;exact aH.drop n h2
theorem aH.set{d:D}{v:V}(h:Rep K ca θ F d v):∀{ds:List D} {xs:List V} (i:Nat),aH K ca θ F ds xs->aH K ca θ F (ds.set i d) (xs.set i v)
 | [],_,_,k=>by unfold aH at k;rw[k];exact aH.nil
 | _::_,_,0,k=>by unfold aH at k;obtain⟨v,r,rfl,h1,h2⟩:=k;exact aH.cons h h2
 | _::_,_,i+1,k=>by unfold aH at k;obtain⟨v,r,rfl,h1,h2⟩:=k;exact aH.cons h1 (aH.set h i h2)
end
structure Stp(H F:Hp)(θ:List pc)(H1 F1:Hp)(θ1:List pc):Prop where
 ff:bS F F1
 th:∃r,θ1=θ++r/\∀a∈r,H a=na
 kp:∀b o,H b=lH o->b∉θ->H1 b=lH o
 al:∀b o,H b=lH o->∃o',H1 b=lH o'
 nf:∀b o,F1 b=lH o->F b=lH o\/H b=na\/b∈θ
theorem Stp.refl:Stp H F θ H F θ:=#[bS.refl _,#[[],by simp,by simp],λ_ _ h _=>h,λ_ o h=>#[o,h],λ_ _ h=>.inl h]
theorem Stp.pre(x:Stp H F θ H1 F1 θ1):∃r,θ1=θ++r:=let #[r,e,_]:=x.th;#[r,e]
theorem Stp.trans{H F H1 F1 H2 Y:Hp}{θ θ1 θ2:List pc}(x:Stp H F θ H1 F1 θ1)(y:Stp H1 F1 θ1 H2 Y θ2):Stp H F θ H2 Y θ2:=by
 obtain⟨r,rfl,hr⟩:=x.th;obtain⟨r2,rfl,U⟩:=y.th;refine#[x.ff.trans y.ff,#[r++r2,by rw[R3],λa ha=> ?_],λb o h hb=> ?_,λb o h=> ?_,λb o h=> ?_];rcases wn.mp ha with z | z
 exact hr a z;cases e:H a with
 | none=>rfl
 | some o=>
  obtain⟨o',e'⟩:=x.al a o e;rw[U a z] at e';cases e'
 refine y.kp b o (x.kp b o h hb) λhm=> ?_;rcases wn.mp hm with z | z
 exact hb z;rw[hr b z] at h;cases h;obtain⟨o',e'⟩:=x.al b o h;exact y.al b o' e';rcases y.nf b o h with z | z | z
 exact x.nf b o z;refine .inr (.inl ?_);cases e:H b with
 | none=>rfl
 | some o'=>
  obtain⟨o2,e2⟩:=x.al b o' e;rw[z] at e2;cases e2
 rcases wn.mp z with q | q;exact .inr (.inr q);exact .inr (.inl (hr b q))
def jM(K:qh)(ca:Nat->pc)(H F:Hp)(θ:List pc)(a:pc):Cell->Prop
 | .dead=>∃o,H a=lH o
 | .lst ds=>F a=na/\∃xs,H a=lH (.lst xs)/\aH K ca θ F ds xs
 | .ins c ns ds=>F a=na/\∃dx xs,H a=lH (.ins (ca c) dx (ns.zip xs))/\ns.length=xs.length/\aH K ca θ F ds xs
theorem jM.there{c:Cell}(h:jM K ca H F θ a c):∃o,H a=lH o:=by
 cases c with
 | dead=>exact h
 | lst ds=>obtain⟨_,xs,e,_⟩:=h;exact#[_,e]
 | ins c ns ds=>obtain⟨_,dx,xs,e,_⟩:=h;exact#[_,e]
structure Now(K:qh)(ca:Nat->pc)(H F:Hp)(θ:List pc)(O:aA):Prop where
 fh:bS F H
 nd:θ.Nodup
 ln:θ.length=O.length
 ce:∀(k:Nat) a c,θ[k]? =lH a->O[k]? =lH c->jM K ca H F θ a c
theorem Now.there(n:Now K ca H F θ O)(h:a∈θ):∃o,H a=lH o:=by
 obtain⟨k,hk,e⟩:=Rq h;have h1:θ[k]? =lH a:=by rw[sn hk,e]
 have h2:∃c,O[k]? =lH c:=#[O[k]'(by rw[<- n.ln];exact hk),sn _];obtain⟨c,h2⟩:=h2;exact(n.ce k a c h1 h2).there
theorem Now.nil(h:bS F H):Now K ca H F [] []:=#[h,VC,rfl,λk a c e _=>by simp at e]
structure BS(K:qh)(ca:Nat->pc)(σ:St)(H F:Hp)(θ:List pc)(s:S):Prop where
 now:Now K ca H F θ s.o
 len:σ.length=s.r.length
 sl:∀(i:Nat) d,s.r[i]? =lH (lH d)->∃v,σ[i]? =lH (lH v)/\Rep K ca θ F d v
theorem BS.newF{σ:St}(b:BS K ca σ H F θ s){p:pc}(hp:H p=na)(o:HO):
 Stp H F θ (upd H p o) (upd F p o) θ/\BS K ca σ (upd H p o) (upd F p o) θ s/\bS F (upd F p o)/\upd F p o p=lH o:=by
 have nm:∀a u,H a=lH u->a≠p:=λa u e z=>by rw[z,hp] at e;cases e
 have fp:F p=none:=by
  cases e:F p with
  | none=>rfl
  | some u=>rw[b.now.fh p u e] at hp;cases hp
 have U:bS F (upd F p o):=λa u e=>by rw[aY (nm a u (b.now.fh a u e))];exact e
 have Y:bS H (upd H p o):=λa u e=>by rw[aY (nm a u e)];exact e
 refine#[#[U,#[[],by simp,by simp],λa u e _=>Y a u e,λa u e=>#[u,Y a u e],λa u e=> ?_],#[#[λa u e=> ?_,b.now.nd,b.now.ln,λk a c e1 e2=> ?_],b.len,λi d e=> ?_],U,cH];by_cases h:a=p;subst h;exact .inr (.inl hp);rw[aY h] at e;exact .inl e;by_cases h:a=p;subst h;rw[cH] at e ⊢;exact e;rw[aY h] at e ⊢;exact b.now.fh a u e;have q:=b.now.ce k a c e1 e2;obtain⟨u,hu⟩:=q.there;have ne:=nm a u hu;cases c with
 | dead=>exact#[u,Y a u hu]
 | lst ds=>
  obtain⟨q1,xs,q2,q3⟩:=q;exact#[by rw[aY ne];exact q1,xs,Y _ _ q2,q3.mono U #[[],by simp]]
 | ins c ns ds=>
  obtain⟨q1,dx,xs,q2,q3,q4⟩:=q;exact#[by rw[aY ne];exact q1,dx,xs,Y _ _ q2,q3,q4.mono U #[[],by simp]]
 obtain⟨v,h1,h2⟩:=b.sl i d e;exact#[v,h1,h2.mono U #[[],by simp]]
theorem BS.newC{σ:St}(b:BS K ca σ H F θ s){p:pc}(hp:H p=na)(hr:aH K ca θ F ds xs):
 Stp H F θ (upd H p (.lst xs)) F (θ++[p])/\BS K ca σ (upd H p (.lst xs)) F (θ++[p]) #[s.r,s.o++[.lst ds]]/\Rep K ca (θ++[p]) F (.ptr s.o.length) (.ref p):=by
 have nm:∀a u,H a=lH u->a≠p:=λa u e z=>by rw[z,hp] at e;cases e
 have fp:F p=none:=by
  cases e:F p with
  | none=>rfl
  | some u=>rw[b.now.fh p u e] at hp;cases hp
 have U:bS H (upd H p (.lst xs)):=λa u e=>by rw[aY (nm a u e)];exact e
 have pt:p∉θ:=λh=>by obtain⟨u,hu⟩:=b.now.there h;rw[hp] at hu;cases hu
 refine#[#[bS.refl _,#[[p],rfl,by simpa using hp],λa u e _=>U a u e,λa u e=>#[u,U a u e],λa u e=>.inl e],#[#[b.now.fh.trans U, ?_, ?_,λk a c e1 e2=> ?_],b.len,λi d e=> ?_], ?_];refine R0.mpr #[b.now.nd,by simp,λa ha x hx=> ?_];rw[wf.mp hx];rintro rfl;exact pt ha;simp[b.now.ln];by_cases hk:k<θ.length;rw[wv hk] at e1;rw[wv (by rw[<- b.now.ln];exact hk)] at e2;have q:=b.now.ce k a c e1 e2;obtain⟨u,hu⟩:=q.there;cases c with
 | dead=>exact#[u,U a u hu]
 | lst ds=>
  obtain⟨q1,ys,q2,Y⟩:=q;exact#[q1,ys,U _ _ q2,Y.mono (bS.refl _) #[[p],rfl]]
 | ins c ns ds=>
  obtain⟨q1,dx,ys,q2,Y,q4⟩:=q;exact#[q1,dx,ys,U _ _ q2,Y,q4.mono (bS.refl _) #[[p],rfl]]
 have ab:k<(θ++[p]).length:=(xL.mp e1).1;have ac:k=θ.length:=by simp at ab;omega
 subst ac;rw[wE (ut _)] at e1;rw[wE (by rw[b.now.ln];exact ut _),b.now.ln] at e2;simp at e1 e2;subst e1;subst e2;exact#[fp,xs,cH,hr.mono (bS.refl _) #[[p],rfl]];obtain⟨v,h1,h2⟩:=b.sl i d e;exact#[v,h1,h2.mono (bS.refl _) #[[p],rfl]];unfold Rep;exact#[p,rfl,by rw[<- b.now.ln];simp]
theorem BS.set{σ:St}(b:BS K ca σ H F θ s)(h:Rep K ca θ F d v)(i:Nat):BS K ca (σ.set i (lH v)) H F θ #[s.r.set i (lH d),s.o]:=by
 refine#[b.now,by simp[b.len],λj e Y=> ?_];by_cases U:i=j;subst U;have ab:i<s.r.length:=by have:=(xL.mp Y).1;simpa using this
 rw[Rj ab] at Y;cases Y;exact#[v,Rj (by rw[b.len];exact ab),h];rw[Ro U] at Y;obtain⟨u,h1,h2⟩:=b.sl j e Y;exact#[u,by rw[Ro U];exact h1,h2]
abbrev EM:=S->Res (D×S)
abbrev AM:=S->Res (List D×S)
inductive Out where
 | next (s:S) | ret (d:D) (s:S) | brk (s:S) | cnt (s:S) | exc (c:Nat) (a:D) (o:S) | bad
abbrev SM:=S->Out
def PoR{α:Type}(C:Ct)(H F:Hp)(θ:List pc)(x:Res α)(k:α->Hp->Hp->List pc->Prop):Prop:=match x with
 | .ok a=>∀H1 F1 θ1,Stp H F θ H1 F1 θ1->k a H1 F1 θ1
 | .exc c a o=>∀H1 F1 θ1,Stp H F θ H1 F1 θ1->Now C.K C.ca H1 F1 θ1 o.o->C.W c a o H1 F1 θ1
 | .bad=>False
abbrev PoE(C:Ct)(σ:St)(H F:Hp)(θ:List pc)(x:Res (D×S))(Q:VK):Prop:=
 PoR C H F θ x λy H1 F1 θ1=>BS C.K C.ca σ H1 F1 θ1 y.2->∀v,Rep C.K C.ca θ1 F1 y.1 v->Q v H1
abbrev PoA(C:Ct)(σ:St)(H F:Hp)(θ:List pc)(x:Res (List D×S))(Q:List V->Hp->Prop):Prop:=
 PoR C H F θ x λy H1 F1 θ1=>BS C.K C.ca σ H1 F1 θ1 y.2->∀v,aH C.K C.ca θ1 F1 y.1 v->Q v H1
abbrev PoT(C:Ct)(σ:St)(H F:Hp)(θ:List pc)(x:Res (Bool×S))(Q:Bool->Hp->Prop):Prop:=
 PoR C H F θ x λy H1 F1 θ1=>BS C.K C.ca σ H1 F1 θ1 y.2->Q y.1 H1
abbrev PoG(C:Ct)(H F:Hp)(θ:List pc)(x:Res S)(Q:St->Hp->Prop):Prop:=
 PoR C H F θ x λy H1 F1 θ1=>∀U,BS C.K C.ca U H1 F1 θ1 y->Q U H1
def PoS(C:Ct)(H F:Hp)(θ:List pc)(x:Out)(Q:Ends):Prop:=match x with
 | .next s1=>∀U H1 F1 θ1,Stp H F θ H1 F1 θ1->BS C.K C.ca U H1 F1 θ1 s1->Q.nx U H1
 | .ret d s1=>∀v U H1 F1 θ1,Stp H F θ H1 F1 θ1->BS C.K C.ca U H1 F1 θ1 s1->Rep C.K C.ca θ1 F1 d v->Q.rt v H1
 | .brk s1=>∀U H1 F1 θ1,Stp H F θ H1 F1 θ1->BS C.K C.ca U H1 F1 θ1 s1->Q.bk U H1
 | .cnt s1=>∀U H1 F1 θ1,Stp H F θ H1 F1 θ1->BS C.K C.ca U H1 F1 θ1 s1->Q.ct U H1
 | .exc c a o=>∀H1 F1 θ1,Stp H F θ H1 F1 θ1->Now C.K C.ca H1 F1 θ1 o.o->C.W c a o H1 F1 θ1
 | .bad=>False
theorem PoR.after{α:Type}{x:Res α}{k:α->Hp->Hp->List pc->Prop}(st:Stp H F θ H1 F1 θ1)(p:PoR C H F θ x k):PoR C H1 F1 θ1 x k:=by
 unfold PoR at p ⊢;cases x with
 | ok a=>exact λH2 U θ2 s2=>p H2 U θ2 (st.trans s2)
 | exc c a o=>exact λH2 U θ2 s2 n=>p H2 U θ2 (st.trans s2) n
 | bad=>exact p
theorem PoR.bind {α β:Type} {C:Ct} {H F:Hp} {θ:List pc} {x:Res α} {f:α->Res β} {k:α->Hp->Hp->List pc->Prop} {j:β->Hp->Hp->List pc->Prop}
 (p:PoR C H F θ (x.bind f) j) (h:∀a H1 F1 θ1,x=.ok a->Stp H F θ H1 F1 θ1->PoR C H1 F1 θ1 (f a) j->k a H1 F1 θ1):PoR C H F θ x k:=by
 cases x with
 | ok a=>exact λH1 F1 θ1 st=>h a H1 F1 θ1 rfl st (PoR.after st p)
 | exc c a o=>exact p
 | bad=>exact p
theorem PoS.after{x:Out}{Q:Ends}(st:Stp H F θ H1 F1 θ1)(p:PoS C H F θ x Q):PoS C H1 F1 θ1 x Q:=by
 unfold PoS at p ⊢;cases x with
 | next s=>exact λv H2 U θ2 s2 b=>p v H2 U θ2 (st.trans s2) b
 | ret d s=>exact λv Y H2 U θ2 s2 b r=>p v Y H2 U θ2 (st.trans s2) b r
 | brk s=>exact λv H2 U θ2 s2 b=>p v H2 U θ2 (st.trans s2) b
 | cnt s=>exact λv H2 U θ2 s2 b=>p v H2 U θ2 (st.trans s2) b
 | exc c a o=>exact λH2 U θ2 s2 n=>p H2 U θ2 (st.trans s2) n
 | bad=>exact p
def Res.out{α:Type}(x:Res α)(f:α->Out):Out:=match x with
 | .ok a=>f a
 | .exc c a o=>.exc c a o
 | .bad=>.bad
@[simp] theorem my {α:Type} {a:α} {f:α->Out}:(Res.ok a).out f=f a:=rfl
@[simp] theorem Qt {α:Type} (c:Nat) (a:D) (o:S) (f:α->Out):(Res.exc c a o:Res α).out f=.exc c a o:=rfl
@[simp] theorem QE {α:Type} (f:α->Out):(Res.bad:Res α).out f=.bad:=rfl
theorem PoS.out {α:Type} {C:Ct} {H F:Hp} {θ:List pc} {x:Res α} {f:α->Out} {k:α->Hp->Hp->List pc->Prop} {Q:Ends}
 (p:PoS C H F θ (x.out f) Q) (h:∀a H1 F1 θ1,x=.ok a->Stp H F θ H1 F1 θ1->PoS C H1 F1 θ1 (f a) Q->k a H1 F1 θ1):PoR C H F θ x k:=by
 cases x with
 | ok a=>exact λH1 F1 θ1 st=>h a H1 F1 θ1 rfl st (PoS.after st p)
 | exc c a o=>exact p
 | bad=>exact p
def RdE(C:Ct)(t:TE)(m:EM):Prop:=∀σ H F θ s Q,BS C.K C.ca σ H F θ s->PoE C σ H F θ (m s) Q->t σ H Q
def RdA(C:Ct)(t:TA)(m:AM):Prop:=∀σ H F θ s Q,BS C.K C.ca σ H F θ s->PoA C σ H F θ (m s) Q->t σ H Q
abbrev TM:=S->Res (Bool×S)
def RdT(C:Ct)(t:TT)(m:TM):Prop:=∀σ H F θ s Q,BS C.K C.ca σ H F θ s->PoT C σ H F θ (m s) Q->t σ H Q
abbrev GM:=D->S->Res S
def RdG(C:Ct)(t:TG)(m:GM):Prop:=∀σ H F θ s d v Q,BS C.K C.ca σ H F θ s->Rep C.K C.ca θ F d v->PoG C H F θ (m d s) Q->t v σ H Q
def RdS(C:Ct)(t:TS)(m:SM):Prop:=∀σ H F θ s Q,BS C.K C.ca σ H F θ s->PoS C H F θ (m s) Q->t Q σ H
section
variable {C : Ct}
@[simp] theorem gx {K ca θ F v}:Rep K ca θ F .non v↔v=.non:=by unfold Rep;exact U3
@[simp] theorem cK {K ca θ F v b}:Rep K ca θ F (.bl b) v↔v=.bl b:=by unfold Rep;exact U3
@[simp] theorem bH {K ca θ F v i}:Rep K ca θ F (.int i) v↔v=.int i:=by unfold Rep;exact U3
@[simp] theorem cY {K ca θ F v x}:Rep K ca θ F (.str x) v↔v=.str x:=by unfold Rep;exact U3
def aa(i:Nat):EM:=λs=>match s.r[i]? with
 | some (lH d)=>.ok (d,s)
 | _=>.bad
theorem ae(i:Nat):RdE C (JT i) (aa i):=by intro σ H F θ s Q b p;unfold aa at p;split at p;rename_i d e;obtain⟨v,h1,h2⟩:=b.sl i d e;exact#[v,h1,p H F θ .refl b v h2];exact p.elim
def ao(d:D):EM:=λs=>.ok (d,s)
theorem ax(i:Int):RdE C (tC (.int i)) (ao (.int i)):=λσ H F θ s Q b p=>p H F θ .refl b (.int i) (bH.mpr rfl)
theorem tZ(i:Bool):RdE C (tC (.bl i)) (ao (.bl i)):=λσ H F θ s Q b p=>p H F θ .refl b (.bl i) (cK.mpr rfl)
theorem dN(i:Str):RdE C (tC (.str i)) (ao (.str i)):=λσ H F θ s Q b p=>p H F θ .refl b (.str i) (cY.mpr rfl)
theorem nU:RdE C (tC .non) (ao .non):=λσ H F θ s Q b p=>p H F θ .refl b .non (gx.mpr rfl)
abbrev Op2:=aA->D->D->Res D
abbrev Op1:=aA->D->Res D
def gI(C:Ct)(r:R2)(f:Op2):Prop:=∀σ H F θ s x y v w Q,BS C.K C.ca σ H F θ s->Rep C.K C.ca θ F x v->Rep C.K C.ca θ F y w->
 PoE C σ H F θ ((f s.o x y).bind λd=>.ok (d,s)) Q->r v w H Q
def ak(f:Op2)(ma mb:EM):EM:=λs=>(ma s).bind λx=>(mb x.2).bind λy=>(f y.2.o x.1 y.1).bind λd=>.ok (d,y.2)
theorem aq{r:R2}{f:Op2}{ta tb:TE}{ma mb:EM}(Y:gI C r f)(ha:RdE C ta ma)(hb:RdE C tb mb):RdE C (tOp r ta tb) (ak f ma mb):=by intro σ H F θ s Q b p;refine ha σ H F θ s _ b (PoR.bind p ?_);rintro ⟨x,s1⟩ H1 F1 θ1 _ ab p1 b1 v r1;refine hb σ H1 F1 θ1 s1 _ b1 (PoR.bind p1 ?_);rintro ⟨y,s2⟩ H2 F2 θ2 _ U p2 b2 w r2;exact Y σ H2 F2 θ2 s2 x y v w Q b2 (r1.mono U.ff U.pre) r2 p2
def NP(C:Ct)(r:V->Hp->VK->Prop)(f:Op1):Prop:=∀σ H F θ s x v Q,BS C.K C.ca σ H F θ s->Rep C.K C.ca θ F x v->
 PoE C σ H F θ ((f s.o x).bind λd=>.ok (d,s)) Q->r v H Q
def unM(f:Op1)(ma:EM):EM:=λs=>(ma s).bind λx=>(f x.2.o x.1).bind λd=>.ok (d,x.2)
theorem tP{r:V->Hp->VK->Prop}{f:Op1}{ta:TE}{ma:EM}(U:NP C r f)(ha:RdE C ta ma):RdE C (tUn r ta) (unM f ma):=by intro σ H F θ s Q b p;refine ha σ H F θ s _ b (PoR.bind p ?_);rintro ⟨x,s1⟩ H1 F1 θ1 _ Y p1 b1 v r1;exact U σ H1 F1 θ1 s1 x v Q b1 r1 p1
def ar:AM:=λs=>.ok ([],s)
def af(m:EM)(r:AM):AM:=λs=>(m s).bind λx=>(r x.2).bind λy=>.ok (x.1::y.1,y.2)
theorem aw:RdA C p7 ar:=λσ H F θ s Q b p=>p H F θ .refl b [] aH.nil
theorem ai{r:AM}(Y:RdE C te m)(ha:RdA C ta r):RdA C (mj te ta) (af m r):=by intro σ H F θ s Q b p;refine Y σ H F θ s _ b (PoR.bind p ?_);rintro ⟨x,s1⟩ H1 F1 θ1 _ ab p1 b1 v r1;refine ha σ H1 F1 θ1 s1 _ b1 (PoR.bind p1 ?_);rintro ⟨y,s2⟩ H2 F2 θ2 _ U p2 b2 w r2;exact p2 H2 F2 θ2 .refl b2 (v::w) (aH.cons (r1.mono U.ff U.pre) r2)
abbrev OpN:=aA->List D->Res D
def lM(C:Ct)(r:List V->Hp->VK->Prop)(f:OpN):Prop:=∀σ H F θ s xs vs Q,BS C.K C.ca σ H F θ s->aH C.K C.ca θ F xs vs->
 PoE C σ H F θ ((f s.o xs).bind λd=>.ok (d,s)) Q->r vs H Q
def bN(f:OpN)(ma:AM):EM:=λs=>(ma s).bind λx=>(f x.2.o x.1).bind λd=>.ok (d,x.2)
theorem bM{r:List V->Hp->VK->Prop}{f:OpN}(hc:lM C r f)(ha:RdA C ta ma):RdE C (tCB r ta) (bN f ma):=by intro σ H F θ s Q b p;refine ha σ H F θ s _ b (PoR.bind p ?_);rintro ⟨x,s1⟩ H1 F1 θ1 _ U p1 Y v r1;exact hc σ H1 F1 θ1 s1 x v Q Y r1 p1
def gb(ma:AM):EM:=λs=>(ma s).bind λx=>if x.1.length<=16777216 then .ok (.tup x.1,x.2) else .bad
theorem gE(ha:RdA C ta ma):RdE C (Nh ta) (gb ma):=by intro σ H F θ s Q b p;refine ha σ H F θ s _ b (PoR.bind p ?_);rintro ⟨x,s1⟩ H1 F1 θ1 _ U p1 Y v r1;dsimp only at p1;split at p1;rename_i hl;refine#[by rw[r1.length];exact hl,λq hq=> ?_];obtain⟨st,b2,sF,e⟩:=Y.newF hq (.tup v);refine p1 _ _ _ st b2 _ ?_;unfold Rep;exact#[q,v,rfl,SqT.of e,r1.mono sF #[[],by simp]];exact p1.elim
def jn(ma:AM):EM:=λs=>(ma s).bind λx=>if x.1.length<=16777216 then .ok (.lst x.1,x.2) else .bad
theorem nZ(ha:RdA C ta ma):RdE C (CV ta) (jn ma):=by intro σ H F θ s Q b p;refine ha σ H F θ s _ b (PoR.bind p ?_);rintro ⟨x,s1⟩ H1 F1 θ1 _ U p1 Y v r1;dsimp only at p1;split at p1;rename_i hl;refine#[by rw[r1.length];exact hl,λq hq=> ?_];obtain⟨st,b2,sF,e⟩:=Y.newF hq (.lst v);refine p1 _ _ _ st b2 _ ?_;unfold Rep;exact#[q,v,rfl,SqL.of e,r1.mono sF #[[],by simp]];exact p1.elim
def g5(ma:AM):EM:=λs=>(ma s).bind λx=>if x.1.length<=16777216 then .ok (.ptr x.2.o.length,#[x.2.r,x.2.o++[.lst x.1]]) else .bad
theorem i4(ha:RdA C ta ma):RdE C (CV ta) (g5 ma):=by intro σ H F θ s Q b p;refine ha σ H F θ s _ b (PoR.bind p ?_);rintro ⟨x,s1⟩ H1 F1 θ1 _ U p1 Y v r1;dsimp only at p1;split at p1;rename_i hl;refine#[by rw[r1.length];exact hl,λq hq=> ?_];obtain⟨st,b2,rp⟩:=Y.newC hq r1;exact p1 _ _ _ st b2 _ rp;exact p1.elim
def aS(m:EM):TM:=λs=>(m s).bind λx=>match x.1 with
 | .bl b=>.ok (b,x.2)
 | _=>.bad
theorem br(h:RdE C t m):RdT C (Lm t) (aS m):=by
 intro σ H F θ s Q b p;refine h σ H F θ s _ b (PoR.bind p ?_);rintro ⟨x,s1⟩ H1 F1 θ1 _ U p1 Y v r1;cases x <;> first | exact pi p1 | skip
 rename_i k _;exact#[k,cK.mp r1,p1 _ _ _ .refl Y]
theorem oH(h:RdE C t m):RdT C (tB t) (aS m):=br h
def kM(a b:TM):TM:=λs=>(a s).bind λx=>if x.1 then b x.2 else .ok (tt,x.2)
def orT(a b:TM):TM:=λs=>(a s).bind λx=>if x.1 then .ok (on,x.2) else b x.2
def ow(a:TM):TM:=λs=>(a s).bind λx=>.ok (!x.1,x.2)
theorem rO{t u:TT}{a b:TM}(ha:RdT C t a)(hb:RdT C u b):RdT C (OC t u) (kM a b):=by
 intro σ H F θ s Q bs p;refine ha σ H F θ s _ bs (PoR.bind p ?_);rintro ⟨x,s1⟩ H1 F1 θ1 _ Y p1 U;cases x with
 | true=>exact uK (hb σ H1 F1 θ1 s1 Q U p1)
 | false=>exact vT (p1 _ _ _ .refl U)
theorem oJ{t u:TT}{a b:TM}(ha:RdT C t a)(hb:RdT C u b):RdT C (tOr t u) (orT a b):=by
 intro σ H F θ s Q bs p;refine ha σ H F θ s _ bs (PoR.bind p ?_);rintro ⟨x,s1⟩ H1 F1 θ1 _ Y p1 U;cases x with
 | true=>exact uK (p1 _ _ _ .refl U)
 | false=>exact vT (hb σ H1 F1 θ1 s1 Q U p1)
theorem pT{t:TT}{a:TM}(ha:RdT C t a):RdT C (NC t) (ow a):=by intro σ H F θ s Q bs p;refine ha σ H F θ s _ bs (PoR.bind p ?_);rintro ⟨x,s1⟩ H1 F1 θ1 _ U p1 Y;exact p1 _ _ _ .refl Y
def mT(a b:EM):EM:=λs=>(a s).bind λx=>match x.1 with
 | .bl on=>b x.2
 | .bl tt=>.ok (.bl tt,x.2)
 | _=>.bad
def orV(a b:EM):EM:=λs=>(a s).bind λx=>match x.1 with
 | .bl on=>.ok (.bl on,x.2)
 | .bl tt=>b x.2
 | _=>.bad
def KP(a:EM):EM:=λs=>(a s).bind λx=>match x.1 with
 | .bl k=>.ok (.bl (!k),x.2)
 | _=>.bad
theorem m8{t u:TE}{a b:EM}(ha:RdE C t a)(hb:RdE C u b):RdE C (Lo t u) (mT a b):=by
 intro σ H F θ s Q bs p;refine ha σ H F θ s _ bs (PoR.bind p ?_);rintro ⟨x,s1⟩ H1 F1 θ1 _ Y p1 U v r1;cases x <;> first | exact pi p1 | skip
 rename_i k _;refine#[k,cK.mp r1, ?_];cases k with
 | true=>exact uK (hb σ H1 F1 θ1 s1 Q U p1)
 | false=>exact vT (p1 _ _ _ .refl U _ (cK.mpr rfl))
theorem MC{a:EM}(ha:RdE C t a):RdE C (LH t) (KP a):=by
 intro σ H F θ s Q bs p;refine ha σ H F θ s _ bs (PoR.bind p ?_);rintro ⟨x,s1⟩ H1 F1 θ1 _ U p1 Y v r1;cases x <;> first | exact pi p1 | skip
 rename_i k _;exact#[k,cK.mp r1,p1 _ _ _ .refl Y _ (cK.mpr rfl)]
def ifM(c:TM)(a b:EM):EM:=λs=>(c s).bind λx=>if x.1 then a x.2 else b x.2
def Out.then(x:Out)(f:S->Out):Out:=match x with
 | .next s=>f s
 | o=>o
@[simp] theorem Bl {f:S->Out}:(Out.next s).then f=f s:=rfl
@[simp] theorem Qh (d:D) (s:S) (f:S->Out):(Out.ret d s).then f=.ret d s:=rfl
@[simp] theorem Qg (s:S) (f:S->Out):(Out.brk s).then f=.brk s:=rfl
@[simp] theorem PB (s:S) (f:S->Out):(Out.cnt s).then f=.cnt s:=rfl
@[simp] theorem P7 (c:Nat) (a:D) (o:S) (f:S->Out):(Out.exc c a o).then f=.exc c a o:=rfl
@[simp] theorem PL (f:S->Out):Out.bad.then f=.bad:=rfl
def aK(a b:SM):SM:=λs=>(a s).then b
def bB:SM:=λs=>.next s
theorem bD:RdS C Lh bB:=λσ H F θ s Q b p=>p σ H F θ .refl b
theorem aC{t u:TS}{a b:SM}(ha:RdS C t a)(hb:RdS C u b):RdS C (Nq t u) (aK a b):=by
 intro σ H F θ s Q bs p;refine ha σ H F θ s _ bs ?_;unfold aK at p;cases e:a s with
 | next s1=>
  rw[e] at p;intro U H1 F1 θ1 Y b1;exact hb U H1 F1 θ1 s1 Q b1 (PoS.after Y p)
 | ret d s1=>rw[e] at p;exact p
 | brk s1=>rw[e] at p;exact p
 | cnt s1=>rw[e] at p;exact p
 | exc c a o=>rw[e] at p;exact p
 | bad=>rw[e] at p;exact p
def eS(m:EM):SM:=λs=>(m s).out λx=>.next x.2
theorem dY(h:RdE C t m):RdS C (Ll t) (eS m):=by intro σ H F θ s Q b p;refine h σ H F θ s _ b (PoS.out p ?_);rintro ⟨x,s1⟩ H1 F1 θ1 _ U p1 Y v r1;exact p1 σ H1 F1 θ1 .refl Y
def bx(m:EM):SM:=λs=>(m s).out λx=>.ret x.1 x.2
theorem ba(h:RdE C t m):RdS C (ND t) (bx m):=by intro σ H F θ s Q b p;refine h σ H F θ s _ b (PoS.out p ?_);rintro ⟨x,s1⟩ H1 F1 θ1 _ U p1 Y v r1;exact p1 v σ H1 F1 θ1 .refl Y r1
def PK:SM:=λs=>.ret .non s
def ifS(c:TM)(a b:SM):SM:=λs=>(c s).out λx=>if x.1 then a x.2 else b x.2
theorem bU{t:TT}{u w:TS}{c:TM}{a b:SM}(hc:RdT C t c)(ha:RdS C u a)(hb:RdS C w b):RdS C (N3 t u w) (ifS c a b):=by
 intro σ H F θ s Q bs p;refine hc σ H F θ s _ bs (PoS.out p ?_);rintro ⟨x,s1⟩ H1 F1 θ1 _ Y p1 U;cases x with
 | true=>exact uK (ha σ H1 F1 θ1 s1 Q U p1)
 | false=>exact vT (hb σ H1 F1 θ1 s1 Q U p1)
def pC:SM:=λ_=>.bad
theorem hU:RdS C IK pC:=λσ H F θ s Q b p=>p
def aD(i:Nat):GM:=λd s=>.ok #[s.r.set i (lH d),s.o]
theorem aM(i:Nat):RdG C (we i) (aD i):=λσ H F θ s d v Q b r p=>p H F θ .refl _ (b.set r i)
def Hd(C:Ct)(t:TGs)(m:List D->S->Res S):Prop:=∀σ H F θ s ds vs Q,BS C.K C.ca σ H F θ s->aH C.K C.ca θ F ds vs->PoG C H F θ (m ds s) Q->t vs σ H Q
def cW:List D->S->Res S:=λds s=>match ds with
 | []=>.ok s
 | _=>.bad
def a8(g:GM)(r:List D->S->Res S):List D->S->Res S:=λds s=>match ds with
 | d::ds=>(g d s).bind λs1=>r ds s1
 | []=>.bad
theorem fe:Hd C NA cW:=by
 intro σ H F θ s ds vs Q b r p;cases ds with
 | nil=>exact#[by unfold aH at r;exact r,p H F θ .refl σ b]
 | cons d ds=>exact pi p
theorem bJ{t:TG}{u:TGs}{g:GM}{m:List D->S->Res S}(hg:RdG C t g)(hr:Hd C u m):Hd C (Lx t u) (a8 g m):=by
 intro σ H F θ s ds vs Q b r p;cases ds with
 | nil=>exact pi p
 | cons d ds=>
  unfold aH at r;obtain⟨v,w,rfl,r1,r2⟩:=r;refine#[v,w,rfl,hg σ H F θ s d v _ b r1 (PoR.bind p ?_)];intro s1 H1 F1 θ1 _ U p1 Y b1;exact hr Y H1 F1 θ1 s1 ds w Q b1 (r2.mono U.ff U.pre) p1
def cS(m:List D->S->Res S)(n:Nat):GM:=λd s=>match d with
 | .tup ds=>if ds.length=n then m ds s else .bad
 | _=>.bad
theorem eY{t:TGs}{m:List D->S->Res S}(h:Hd C t m):RdG C (Nk C.K n t) (cS m n):=by
 intro σ H F θ s d v Q b r p;cases d <;> first | exact pi p | skip
 rename_i ds;unfold Rep at r;obtain⟨a,xs,rfl,hs,hr⟩:=r;unfold cS at p;dsimp only at p;split at p;rename_i U;exact#[a,xs,rfl,bS.seqT b.now.fh hs,by rw[hr.length];exact U,h σ H F θ s ds xs Q b hr p];exact pi p
def gi(m:EM)(g:GM):SM:=λs=>((m s).bind λx=>g x.1 x.2).out λs=>.next s
theorem kA(h:RdE C t m)(hg:RdG C g gm):RdS C (DH t g) (gi m gm):=by intro σ H F θ s Q b p;have p':PoG C H F θ ((m s).bind λx=>gm x.1 x.2) Q.nx:=PoS.out p λs1 H1 F1 θ1 _ U p1 Y b1=>p1 Y H1 F1 θ1 .refl b1;refine h σ H F θ s _ b (PoR.bind p' ?_);rintro ⟨x,s1⟩ H1 F1 θ1 _ U p1 b1 v r1;exact hg σ H1 F1 θ1 s1 x v Q.nx b1 r1 p1
abbrev setM(i:Nat)(m:EM):SM:=gi m (aD i)
theorem aO(h:RdE C t m):RdS C (DH t (we i)) (setM i m):=kA h (aM i)
def PH(i:Nat)(f:Op2)(m:EM):SM:=setM i (ak f (aa i) m)
end
open PySem PySem.Spec PyProof.Rows L2
section
variable {C : Ct}
structure uN(C:Ct)(J:It)(ds:List D)(ok:aA->Prop)(H F:Hp)(θ:List pc):Prop where
 go:∀(i:Nat) H2 F2 θ2 O2,i<ds.length->Stp H F θ H2 F2 θ2->Now C.K C.ca H2 F2 θ2 O2->ok O2->J.go i H2
 yl:∀(i:Nat) d σ H2 F2 θ2 s2 x H3,ds[i]? =lH d->Stp H F θ H2 F2 θ2->BS C.K C.ca σ H2 F2 θ2 s2->ok s2.o->J.yld i H2 x H3->∃F3,Stp H2 F2 θ2 H3 F3 θ2/\BS C.K C.ca σ H3 F3 θ2 s2/\Rep C.K C.ca θ2 F3 d x
 st:∀(i:Nat) H2 F2 θ2 O2,ds.length<=i->Stp H F θ H2 F2 θ2->Now C.K C.ca H2 F2 θ2 O2->ok O2->J.stop i H2
def okC(ds:List D):Option Nat->aA->Prop
 | none,_=>True
 | some k,O=>O[k]? =lH (.lst ds)
abbrev IM:=S->Res ((List D×Option Nat)×S)
def RdI(C:Ct)(wi:TI)(im:IM):Prop:=∀σ H F θ s R,BS C.K C.ca σ H F θ s->
 PoR C H F θ (im s) (λy H1 F1 θ1=>BS C.K C.ca σ H1 F1 θ1 y.2->∀J,uN C J y.1.1 (okC y.1.1 y.1.2) H1 F1 θ1->R J H1)->wi σ H R
open Classical in
noncomputable def bT (ok:aA->Prop)(g:GM)(body:SM):List D->S->Out
 | [],s=>if ok s.o then .next s else .bad
 | d::ds,s=>if ok s.o then (g d s).out λs1=>match body s1 with
  | .next s2=>bT ok g body ds s2
  | .cnt s2=>bT ok g body ds s2
  | .brk s2=>.next s2
  | o=>o
  else .bad
noncomputable def eV (im:IM)(g:GM)(body:SM):SM:=λs=>(im s).out λy=>bT (okC y.1.1 y.1.2) g body y.1.1 y.2
theorem dR{tb:TS}{bm:SM}(hi:RdI C wi im)(hg:RdG C g gm)(hb:RdS C tb bm):RdS C (Ov wi g tb) (eV im gm bm):=by
 intro σ H F θ s Q b p;refine hi σ H F θ s _ b (PoS.out p ?_);rintro ⟨⟨ds,k⟩,s1⟩ H1 F1 θ1 _ b6 p1 b1 J it;dsimp only at p1 it b1;refine#[λi m ab H'=>m=ds.length-i/\i<=ds.length/\∃F' U s',Stp H1 F1 θ1 H' F' U/\BS C.K C.ca ab H' F' U s'/\PoS C H' F' U (bT (okC ds k) gm bm (ds.drop i) s') Q,#[ds.length,by simp,Rb _,F1,θ1,s1,.refl,b1,by simpa using p1], ?_];rintro i m ab H' ⟨rfl,b7,F',U,s',st,bs,po⟩;by_cases lt:i<ds.length
 ·right;rw[Ri lt,bT] at po;split at po
  ·rename_i al;refine#[it.go i H' F' U s'.o lt st bs.now al,λa3 H2=>i+1<=ds.length/\∃F2 θ2 s2,Stp H1 F1 θ1 H2 F2 θ2/\BS C.K C.ca a3 H2 F2 θ2 s2/\PoS C H2 F2 θ2 (bT (okC ds k) gm bm (ds.drop (i+1)) s2) Q,λa3 H2 n=>#[ds.length-(i+1),⋯,rfl,n], ?_];intro x H3 hy;obtain⟨F3,a4,b3,rp⟩:=it.yl i ds[i] ab H' F' U s' x H3 (sn lt) st bs al hy;refine hg ab H3 F3 U s' ds[i] x _ b3 rp (PoS.out (PoS.after a4 po) ?_);intro s4 H4 F4 a0 _ bn Y bp b4;refine hb bp H4 F4 a0 s4 _ b4 ?_;have a5:∀s5,PoS C H4 F4 a0 (bT (okC ds k) gm bm (ds.drop (i+1)) s5) Q->∀a1 H5 F5 am,Stp H4 F4 a0 H5 F5 am->BS C.K C.ca a1 H5 F5 am s5->i+1<=ds.length/\∃F2 θ2 s2,Stp H1 F1 θ1 H5 F2 θ2/\BS C.K C.ca a1 H5 F2 θ2 s2/\PoS C H5 F2 θ2 (bT (okC ds k) gm bm (ds.drop (i+1)) s2) Q:=
    λs5 p5 a1 H5 F5 am bb b5=>#[lt,F5,am,s5,st.trans (a4.trans (bn.trans bb)),b5,PoS.after bb p5]
   cases e:bm s4 with
   | next s5=>rw[e] at Y;exact a5 s5 Y
   | cnt s5=>rw[e] at Y;exact a5 s5 Y
   | brk s5=>rw[e] at Y;exact Y
   | ret d s5=>rw[e] at Y;exact Y
   | exc c a o=>rw[e] at Y;exact Y
   | bad=>rw[e] at Y;exact Y
  exact pi po
 left;rw[SK ⋯,bT] at po;split at po;rename_i al;exact#[it.st i H' F' U s'.o ⋯ st bs.now al,po ab H' F' U .refl bs];exact pi po
def k4(c:TM)(b:SM):Nat->S->Out
 | 0,_=>.bad
 | n+1,s=>(c s).out λx=>if x.1 then (match b x.2 with
  | .next s2=>k4 c b n s2
  | .cnt s2=>k4 c b n s2
  | .brk s2=>.next s2
  | o=>o) else .next x.2
def zt(U:S->Nat)(c:TM)(b:SM):SM:=λs=>k4 c b (U s) s
theorem JQ{tb:TS}{φ:S->Nat}{c:TM}{b:SM}(hc:RdT C tc c)(hb:RdS C tb b):RdS C (IQ tc tb) (zt φ c b):=by
 intro σ H F θ s Q bs p;refine#[λm U H'=>∃F' Y s',BS C.K C.ca U H' F' Y s'/\PoS C H' F' Y (k4 c b m s') Q,#[φ s,F,θ,s,bs,p], ?_];rintro m U H' ⟨F',Y,s',b',po⟩;cases m with
 | zero=>exact pi po
 | succ m=>
  rw[k4] at po;refine hc U H' F' Y s' _ b' (PoS.out po ?_);rintro ⟨x,s1⟩ H1 F1 θ1 _ a5 p1 b1;cases x with
  | false=>exact vT (p1 U H1 F1 θ1 .refl b1)
  | true=>
   refine uK #[λal H2=>∃F2 θ2 s2,BS C.K C.ca al H2 F2 θ2 s2/\PoS C H2 F2 θ2 (k4 c b m s2) Q,λal H2 n=>#[m,Tt _,n], ?_];refine hb U H1 F1 θ1 s1 _ b1 ?_;dsimp only[if_true] at p1;cases e:b s1 with
   | next s5=>rw[e] at p1;exact λas H5 F5 ab ac b5=>#[F5,ab,s5,b5,PoS.after ac p1]
   | cnt s5=>rw[e] at p1;exact λas H5 F5 ab ac b5=>#[F5,ab,s5,b5,PoS.after ac p1]
   | brk s5=>rw[e] at p1;exact p1
   | ret d s5=>rw[e] at p1;exact p1
   | exc c a o=>rw[e] at p1;exact p1
   | bad=>rw[e] at p1;exact p1
def itemsOf(O:aA):D->Res (List D×Option Nat)
 | .lst ds=>.ok (ds,na)
 | .ptr k=>match O[k]? with
  | some (.lst ds)=>.ok (ds,lH k)
  | _=>.bad
 | _=>.bad
def listI(m:EM):IM:=λs=>(m s).bind λx=>(itemsOf x.2.o x.1).bind λy=>.ok (y,x.2)
theorem Ou(hs:SqL C.K F a xs)(hr:aH C.K C.ca θ F ds xs)(inj:∀{σ H2 F2 θ2 s2},Stp H F θ H2 F2 θ2->BS C.K C.ca σ H2 F2 θ2 s2->SqL C.K H2 a xs):
 uN C (Itl C.K a) ds (okC ds na) H F θ where
 go:=λi H2 F2 θ2 O2 hi st n _=>by obtain⟨x,hx⟩:∃x,xs[i]? =lH x:=#[xs[i]'(by rw[hr.length];exact hi),sn _];exact#[xs,x,n.fh.seq (st.ff.seq hs),hx]
 yl:=λi d σ H2 F2 θ2 s2 x H3 hd st b _ hy=>by obtain⟨rfl,hx⟩:=hy;refine#[F2,.refl,b, ?_];obtain⟨v,h1,h2⟩:=hr.get hd;have:=hx xs (b.now.fh.seq (st.ff.seq hs));rw[h1] at this;cases this;exact h2.mono st.ff st.pre
 st:=λi H2 F2 θ2 O2 hi st n _=>#[xs,n.fh.seq (st.ff.seq hs),by rw[hr.length];exact hi]
theorem bY{tl:TE}(h:RdE C tl m):RdI C (Ln C.K tl) (listI m):=by
 intro σ H F θ s R b p;refine h σ H F θ s _ b (PoR.bind p ?_);rintro ⟨x,s1⟩ H1 F1 θ1 _ an p1 b1 v r1;dsimp only at p1 b1 r1;cases x <;> first | exact pi p1 | skip
 rename_i ds _;unfold Rep at r1;obtain⟨a,xs,rfl,hs,hr⟩:=r1;exact#[a,rfl,#[xs,b1.now.fh.seq hs],p1 _ _ _ .refl b1 _ (Ou hs hr λst b=>b.now.fh.seq (st.ff.seq hs))];rename_i k _;unfold Rep at r1;obtain⟨a,rfl,hk⟩:=r1;unfold itemsOf at p1;dsimp only at p1;split at p1;rename_i ds ek;obtain⟨q1,xs,q2,q3⟩:jM C.K C.ca H1 F1 θ1 a (.lst ds):=b1.now.ce k a _ hk ek;refine#[a,rfl,#[xs,SqL.of q2],p1 _ _ _ .refl b1 _ ?_];have cell:∀{H2 U:Hp} {θ2:List pc} {O2:aA},Stp H1 F1 θ1 H2 U θ2->Now C.K C.ca H2 U θ2 O2->O2[k]? =lH (.lst ds)->∃ys,SqL C.K H2 a ys/\aH C.K C.ca θ2 U ds ys:=λ{H2 U θ2 O2} st n e=>by
  have am:θ2[k]? =lH a:=by obtain⟨r,rfl,_⟩:=st.th;rw[wv (xL.mp hk).1];exact hk
  obtain⟨_,ys,Y,w3⟩:jM C.K C.ca H2 U θ2 a (.lst ds):=n.ce k a _ am e;exact#[ys,SqL.of Y,w3]
 refine#[λi H2 U θ2 O2 hi st n e=> ?_,λi d σ H2 U θ2 s2 x H3 hd st b e hy=> ?_,λi H2 U θ2 O2 hi st n e=> ?_];obtain⟨ys,w1,Y⟩:=cell st n e;exact#[ys,ys[i]'(by rw[Y.length];exact hi),w1,sn _];obtain⟨rfl,hx⟩:=hy;obtain⟨ys,w1,Y⟩:=cell st b.now e;obtain⟨v,h1,h2⟩:=Y.get hd;have:=hx ys w1;rw[h1] at this;cases this;exact#[U,.refl,b,h2];obtain⟨ys,w1,Y⟩:=cell st n e;exact#[ys,w1,by rw[Y.length];exact hi];exact pi p1
def cN(lo hi:Int):List D:=(tz (hi-lo).toNat).map λi=>.int (lo+(i:Nat))
theorem iT{lo hi:Int}:(cN lo hi).length=(hi-lo).toNat:=by unfold cN;simp
theorem CL{lo hi:Int}:uN C (Itr lo (hi-lo).toNat) (cN lo hi) (okC (cN lo hi) na) H F θ where
 go:=λi H2 F2 θ2 O2 h st n _=>by rw[iT] at h;exact h
 yl:=λi d σ H2 F2 θ2 s2 x H3 hd st b _ hy=>by
  obtain⟨rfl,rfl⟩:=hy;refine#[F2,.refl,b, ?_];unfold cN at hd;rw[wP] at hd;cases e:(tz (hi-lo).toNat)[i]? with
  | none=>rw[e] at hd;cases hd
  | some j=>
   rw[e] at hd;cases hd;obtain⟨_,rfl⟩:∃h,j=i:=#[trivial,by have:=(xL.mp e).2;simpa using this.symm];exact bH.mpr rfl
 st:=λi H2 F2 θ2 O2 h st n _=>by rw[iT] at h;exact h
def g9(ma:AM):IM:=λs=>(ma s).bind λx=>match x.1 with
 | [.int j]=>if -(2^62)<=j/\j<2^62 then .ok ((cN 0 j,na),x.2) else .bad
 | _=>.bad
def rf(ma:AM):IM:=λs=>(ma s).bind λx=>match x.1 with
 | [.int i,.int j]=>if (-(2^62)<=i/\i<2^62)/\ -(2^62)<=j/\j<2^62 then .ok ((cN i j,na),x.2) else .bad
 | _=>.bad
theorem sN{K ca θ F i vs}(h:aH K ca θ F [.int i] vs):vs=[.int i]:=by unfold aH at h;obtain⟨v,r,rfl,h1,h2⟩:=h;unfold aH at h2;rw[h2,bH.mp h1]
theorem yz{K ca θ F i j vs}(h:aH K ca θ F [.int i,.int j] vs):vs=[.int i,.int j]:=by unfold aH at h;obtain⟨v,r,rfl,h1,h2⟩:=h;rw[sN h2,bH.mp h1]
theorem ix{m:AM}(h:RdA C ta m):RdI C (Li ta) (g9 m):=by intro σ H F θ s R b p;refine h σ H F θ s _ b (PoR.bind p ?_);rintro ⟨x,s1⟩ H1 F1 θ1 _ ab p1 U v r1;dsimp only at p1 U r1;split at p1;rename_i j _;split at p1;rename_i Y;refine#[j,sN r1,Y.1,Y.2, ?_];have:=p1 _ _ _ .refl U _ (CL (lo:=0) (hi:=j));rw[Int.sub_zero] at this;exact this;exact pi p1;exact pi p1
theorem Fo{m:AM}(h:RdA C ta m):RdI C (Lk ta) (rf m):=by intro σ H F θ s R b p;refine h σ H F θ s _ b (PoR.bind p ?_);rintro ⟨x,s1⟩ H1 F1 θ1 _ ab p1 Y v r1;dsimp only at p1 Y r1;split at p1;rename_i i j _;split at p1;rename_i U;exact#[i,j,yz r1,#[U.1.1,U.1.2,U.2.1,U.2.2],p1 _ _ _ .refl Y _ CL];exact pi p1;exact pi p1
abbrev FM:=List D->aA->Res (D×aA)
def spM(K:qh)(ca:Nat->pc)(n:Nat)(f:FM):Sp:=λvs H Q E=>∃F θ ds O,Now K ca H F θ O/\aH K ca θ F ds vs/\ds.length=n/\match f ds O with
 | .ok (d,O1)=>∀v H1 F1 θ1,Stp H F θ H1 F1 θ1->Now K ca H1 F1 θ1 O1->Rep K ca θ1 F1 d v->Q v H1
 | .exc c _ s1=>∀H1 F1 θ1,Stp H F θ H1 F1 θ1->Now K ca H1 F1 θ1 s1.o->E (.ref (ca c)) na H1
 | .bad=>False
def runM(n:Nat)(m:SM):FM:=λds O=>match m #[ds.map lH++ux (n-ds.length) na,O] with
 | .next s=>.ok (.non,s.o)
 | .ret d s=>.ok (d,s.o)
 | _=>.bad
theorem K8{N:List Str}(n:Now K ca H F θ O)(r:aH K ca θ F ds vs):
 BS K ca (L2.start N vs) H F θ #[ds.map lH++ux (N.length-ds.length) na,O]:=by
 refine#[n,by unfold L2.start;simp[r.length],λi d e=> ?_];dsimp only at e;have hi:i<ds.length:=by by_cases hi:i<ds.length;exact hi;rw[wE (by simpa using hi),G2] at e;split at e <;> cases e
 rw[wv (by simpa using hi),wP] at e;cases e1:ds[i]? with
 | none=>rw[e1] at e;cases e
 | some U=>
  rw[e1] at e;cases e;obtain⟨v,h1,h2⟩:=r.get e1;refine#[v, ?_,h2];unfold L2.start;rw[wv (by simpa[r.length] using hi),wP,h1];rfl
def W0:Wsh:=λ_ _ _ _ _ _=>False
theorem rT {P:AC} {w:Db} {K:qh} {mg:Str->Option ol} {base:Gc} {ca:Nat->pc} {x qual:Str} {st:SX} {f:pc} {fd:RB} {N ps:List Str} {k n:Nat} {m:SM}
 (F:Fun K x qual st f fd) (S:a7 N ps (aL st)) (hn:N.length=n)
 (hm:∀(U:ol) (A:KE) (outer:List Env) (s:r0) (H:Hp) (E:XK),eR k (A.deeper (envOfC qual (aL st) s.heap.objs.size f U))->
  ∃t,PSs (vE (CXE P w) P w K mg base N qual (aL st) f U A outer s H E).nox (dO st) t/\RdS #[K,ca,W0] t m):
 kb P w K mg base (CXE P w) (k+1) f fd ps (spM K ca ps.length (runM n m)):=by
 refine F.okE S (λvs H Q E h=> ?_) (λU A outer s H vs Q E hr h=> ?_);obtain⟨F,θ,ds,O,_,r,hl,_⟩:=h;rw[r.length,hl]
 ·obtain⟨F,θ,ds,O,Y,r,hl,q⟩:=h;obtain⟨t,ht,rd⟩:=hm U A outer s H E hr;refine#[t,ht.nox,rd _ H F θ _ _ (K8 Y r) ?_];subst hn;unfold runM at q;cases e:m #[ds.map lH++ux (N.length-ds.length) na,O] with
  | next s1=>rw[e] at q;exact λab H1 F1 θ1 st b=>q .non H1 F1 θ1 st b.now (gx.mpr rfl)
  | ret d s1=>rw[e] at q;exact λv ab H1 F1 θ1 st b rv=>q v H1 F1 θ1 st b.now rv
  | exc c a o=>rw[e] at q;exact pi q
  | brk s1=>rw[e] at q;exact pi q
  | cnt s1=>rw[e] at q;exact pi q
  | bad=>rw[e] at q;exact pi q
theorem BS.called{O1:aA}(b:BS K ca σ H F θ s)(st:Stp H F [] H1 F1 θ1)(n:Now K ca H1 F1 θ1 O1):
 Stp H F θ H1 F1 θ/\BS K ca σ H1 F1 θ s:=by
 have kp:∀b o,H b=lH o->H1 b=lH o:=λb o h=>st.kp b o h (by simp);have Y:∀b o,F1 b=lH o->F b=lH o\/H b=none:=λb o h=>by rcases st.nf b o h with z | z | z;exact .inl z;exact .inr z;simp at z
 refine#[#[st.ff,#[[],by simp,by simp],λb o h _=>kp b o h,st.al,λb o h=>(Y b o h).elim .inl λz=>.inr (.inl z)],#[#[n.fh,b.now.nd,b.now.ln,λk a c e1 e2=> ?_],b.len,λi d e=> ?_]];have q:=b.now.ce k a c e1 e2;obtain⟨u,hu⟩:=q.there;have fn:F a=na->F1 a=none:=λh=>by
  cases e:F1 a with
  | none=>rfl
  | some o=>
   rcases Y a o e with z | z;rw[h] at z;cases z;rw[hu] at z;cases z
 cases c with
 | dead=>exact#[u,kp a u hu]
 | lst ds=>
  obtain⟨q1,xs,q2,U⟩:=q;exact#[fn q1,xs,kp _ _ q2,U.mono st.ff #[[],by simp]]
 | ins c ns ds=>
  obtain⟨q1,dx,xs,q2,U,q4⟩:=q;exact#[fn q1,dx,xs,kp _ _ q2,U,q4.mono st.ff #[[],by simp]]
 obtain⟨v,h1,h2⟩:=b.sl i d e;exact#[v,h1,h2.mono st.ff #[[],by simp]]
def bc(n:Nat)(f:FM)(ma:AM):EM:=λs=>(ma s).bind λx=>if aR x.1=on/\x.1.length=n then (match f x.1 [] with
 | .ok (d,_)=>if cO d=on then .ok (d,x.2) else .bad
 | _=>.bad) else .bad
theorem bg{f:FM}(ha:RdA C ta ma):RdE C (tG (spM C.K C.ca n f) [] E ta) (bc n f ma):=by intro σ H F θ s Q b p;refine ha σ H F θ s _ b (PoR.bind p ?_);rintro ⟨x,s1⟩ H1 F1 θ1 _ ac p1 U v r1;dsimp only at p1 U r1 ⊢;split at p1;rename_i hp;rw[RT];refine#[F1,[],x,[],Now.nil U.now.fh,r1.pure hp.1,hp.2, ?_];split at p1;rename_i d O1 e;rw[e];intro v H2 F2 θ2 Y n2 rv;split at p1;rename_i pd;obtain⟨ab,b3⟩:=U.called Y n2;exact p1 H2 F2 θ1 ab b3 v (rv.pure pd);exact pi p1;exact pi p1;exact pi p1
end
section
variable {C : Ct}
theorem dB(p:PoE C σ H F θ ((Res.ok d).bind λd=>.ok (d,s)) Q)(b:BS C.K C.ca σ H F θ s)(r:Rep C.K C.ca θ F d v):Q v H:=p H F θ .refl b v r
theorem yK(p:PoE C σ H F θ ((Res.ok (D.lst ds)).bind λd=>.ok (d,s)) Q)(b:BS C.K C.ca σ H F θ s)(r:aH C.K C.ca θ F ds xs):
 ∀q,H q=na->Q (.ref q) (upd H q (.lst xs)):=λq hq=>by
 obtain⟨st,U,Y,e⟩:=b.newF hq (.lst xs);refine p _ _ _ st U _ ?_;unfold Rep;exact#[q,xs,rfl,SqL.of e,r.mono Y #[[],by simp]]
def lsD(O:aA):D->Option (List D)
 | .lst ds=>lH ds
 | .ptr k=>match O[k]? with
  | some (.lst ds)=>lH ds
  | _=>na
 | _=>na
@[simp] theorem ja:lsD O (.lst ds)=lH ds:=rfl
theorem fo(b:BS C.K C.ca σ H F θ s)(r:Rep C.K C.ca θ F d v)(e:lsD s.o d=lH ds):∃a xs,v=.ref a/\SqL C.K H a xs/\aH C.K C.ca θ F ds xs:=by
 cases d <;> first | (simp[lsD] at e;done) | skip
 cases e;unfold Rep at r;obtain⟨a,xs,rfl,hs,hr⟩:=r;exact#[a,xs,rfl,b.now.fh.seq hs,hr];rename_i k;unfold Rep at r;obtain⟨a,rfl,hk⟩:=r;unfold lsD at e;dsimp only at e;split at e;rename_i U Y;cases e;obtain⟨_,xs,h1,h2⟩:jM C.K C.ca H F θ a (.lst ds):=b.now.ce k a _ hk Y;exact#[a,xs,rfl,SqL.of h1,h2];cases e
theorem yC(b:BS C.K C.ca σ H F θ s)(r:Rep C.K C.ca θ F (.tup ds) v):∃a xs,v=.ref a/\SqT C.K H a xs/\aH C.K C.ca θ F ds xs:=by unfold Rep at r;obtain⟨a,xs,rfl,hs,hr⟩:=r;exact#[a,xs,rfl,bS.seqT b.now.fh hs,hr]
def intD(g:Int->Int->Res D):Op2:=λ_ x y=>match x,y with
 | .int i,.int j=>g i j
 | _,_=>.bad
theorem vK{g:Int->Int->V}{f:Int->Int->D}(h:∀K ca θ F i j,Rep K ca θ F (f i j) (g i j)):gI C (rI0 g) (intD λi j=>.ok (f i j)):=by intro σ H F θ s x y v w Q b U Y p;unfold intD at p;split at p;rename_i i j;exact#[i,j,bH.mp U,bH.mp Y,dB p b (h ..)];exact pi p
open Classical in
noncomputable def AA (c:Int->Int->Prop)(f:Int->Int->D):Op2:=intD λi j=>if c i j then .ok (f i j) else .bad
theorem B8{c:Int->Int->Prop}{g:Int->Int->V}{f:Int->Int->D}(h:∀K ca θ F i j,Rep K ca θ F (f i j) (g i j)):gI C (rI c g) (AA c f):=by intro σ H F θ s x y v w Q b U Y p;unfold AA intD at p;split at p;rename_i i j;dsimp only at p;split at p;rename_i hc;exact#[i,j,bH.mp U,bH.mp Y,hc,dB p b (h ..)];exact pi p;exact pi p
def kY:Op2:=intD λi j=>.ok (.int (i-j))
noncomputable def cT:Op2:=AA RF λi j=>.int (i*j)
noncomputable def d3:Op2:=AA (λi j=>j≠0) λi j=>.int (i.fdiv j)
noncomputable def gh:Op2:=AA (λ_ j=>j≠0) λi j=>.int (i.fmod j)
noncomputable def jD:Op2:=AA Kt λi j=>.int (i^j.toNat)
def ltD:Op2:=intD λi j=>.ok (.bl (decide (i<j)))
def leD:Op2:=intD λi j=>.ok (.bl (decide (i<=j)))
def gtD:Op2:=intD λi j=>.ok (.bl (decide (j<i)))
def geD:Op2:=intD λi j=>.ok (.bl (decide (j<=i)))
def iO:Op1:=λ_ x=>match x with
 | .int i=>.ok (.int (-i))
 | _=>.bad
section
variable {X : Cx}
theorem fF:OpR X (binaryOp .Mult) (rI RF λi j=>.int (i*j)):=opI λ_ _ _ _ _ _ _ hc q=>mul_int q hc
theorem gC(hd:X.A.depth+100<recursionLimit)(U:X.prog.given.tree=na)(hs:∃env l,X.stack=env::l/\env.scope.isGenerator=tt/\env.scope.isCoroutine=tt/\env.builtins=builtinsNs/\env.globals=mainGlobals):
 OpR X (binaryOp .FloorDiv) (rI (λi j=>j≠0) λi j=>.int (i.fdiv j)):=by
 intro pins s σ H x y v u Q I Y ry h;obtain⟨i,j,rfl,rfl,hc,q⟩:=h;obtain⟨t,rfl⟩:=Y;obtain⟨t',rfl⟩:=ry;obtain⟨env,l,e,h1,h2,h3,h4⟩:=hs;exact floordiv_int hc #[.int _,H,I.tok _,#[_,rfl],q] (.inr (PylongRoom.of I.nolimit hd (SeerAt.of I.noseer U (I.ok.frames.trans (by rw[e])) h1 h2 h3 h4)))
def GN(K:qh):R2:=λx y H Q=>rI0 (λi j=>.int (i+j)) x y H Q\/(∃i j,x=.str i/\y=.str j/\i.length+j.length<=sizeLine/\Q (.str (i++j)) H)\/LB K x y H Q
theorem dZ:OpR X (binaryOp .Add) (GN X.K):=NR.or (He.or Mj)
end
def Qf:Op2:=intD λi j=>.ok (.int (i+j))
def cx:Op2:=λO x y=>match x,y with
 | .int i,.int j=>.ok (.int (i+j))
 | .str a,.str b=>if a.length+b.length<=16777216 then .ok (.str (a++b)) else .bad
 | x,y=>match lsD O x,lsD O y with
  | some a,lH b=>if a.length+b.length<=16777216 then .ok (.lst (a++b)) else .bad
  | _,_=>.bad
theorem dj:gI C (GN C.K) cx:=by
 intro σ H F θ s x y v w Q b U Y p;have lists:∀{a c:List D},lsD s.o x=lH a->lsD s.o y=lH c->PoE C σ H F θ ((if a.length+c.length<=16777216 then Res.ok (D.lst (a++c)) else .bad).bind λd=>.ok (d,s)) Q->GN C.K v w H Q:=λ{a c} e1 e2 p=>by split at p;rename_i hl;obtain⟨l1,xs,rfl,s1,r1⟩:=fo b U e1;obtain⟨l2,ys,rfl,s2,r2⟩:=fo b Y e2;exact .inr (.inr #[l1,l2,xs,ys,rfl,rfl,s1,s2,by rw[r1.length,r2.length];exact hl,yK p b (r1.append r2)]);exact pi p
 unfold cx at p;split at p;rename_i i j;exact .inl #[i,j,bH.mp U,bH.mp Y,dB p b (bH.mpr rfl)];rename_i i j;split at p;rename_i hl;exact .inr (.inl #[i,j,cY.mp U,cY.mp Y,hl,dB p b (cY.mpr rfl)]);exact pi p;split at p;rename_i a c e1 e2;exact lists e1 e2 p;exact pi p
theorem qo:gI C (rI0 λi j=>.int (i-j)) kY:=vK λ_ _ _ _ _ _=>bH.mpr rfl
theorem eC:gI C (rI RF λi j=>.int (i*j)) cT:=B8 λ_ _ _ _ _ _=>bH.mpr rfl
theorem fB:gI C (rI (λi j=>j≠0) λi j=>.int (i.fdiv j)) d3:=B8 λ_ _ _ _ _ _=>bH.mpr rfl
theorem gH:gI C (rI (λ_ j=>j≠0) λi j=>.int (i.fmod j)) gh:=B8 λ_ _ _ _ _ _=>bH.mpr rfl
theorem sk:gI C (rI Kt λi j=>.int (i^j.toNat)) jD:=B8 λ_ _ _ _ _ _=>bH.mpr rfl
theorem ni:gI C (rI0 λi j=>.bl (decide (i<j))) ltD:=vK λ_ _ _ _ _ _=>cK.mpr rfl
theorem ic:gI C (rI0 λi j=>.bl (decide (j<i))) gtD:=vK λ_ _ _ _ _ _=>cK.mpr rfl
theorem OV:gI C (rI0 λi j=>.bl (decide (j<=i))) geD:=vK λ_ _ _ _ _ _=>cK.mpr rfl
theorem pU:NP C (rU λi=>.int (-i)) iO:=by intro σ H F θ s x v Q b U p;unfold iO at p;split at p;rename_i i;exact#[i,bH.mp U,dB p b (bH.mpr rfl)];exact pi p
mutual
def toPy:D->Option Up
 | .non=>lH .none
 | .bl b=>lH (.bool b)
 | .int i=>lH (.int i)
 | .str x=>lH (.str x)
 | .lst ds=>(jv ds).map .list
 | .tup ds=>(jv ds).map .tuple
 | .ptr _=>na
 | .obj _ _ _=>na
 | .exn _=>na
def jv:List D->Option (List Up)
 | []=>lH []
 | d::ds=>match toPy d,jv ds with
  | some a,lH b=>lH (a::b)
  | _,_=>na
end
mutual
def res(O:aA):D->D
 | .lst ds=>.lst (b8 O ds)
 | .tup ds=>.tup (b8 O ds)
 | .ptr k=>match O[k]? with
  | some (.lst ds)=>.lst ds
  | _=>.ptr k
 | .non=>.non
 | .bl b=>.bl b
 | .int i=>.int i
 | .str x=>.str x
 | .obj c ns ds=>.obj c ns ds
 | .exn c=>.exn c
def b8(O:aA):List D->List D
 | []=>[]
 | d::ds=>res O d::b8 O ds
end
section
variable {K : qh} {ca : Nat → pc} {H F G : Hp} {θ : List pc} {O : aA}
mutual
theorem Ak(n:Now K ca H F θ O)(Y:bS F G)(U:bS G H):∀{d:D} {v:V},Rep K ca θ G d v->Rep K ca θ H (res O d) v
 | .non,_,h=>by unfold res;exact h
 | .bl _,_,h=>by unfold res;exact h
 | .int _,_,h=>by unfold res;exact h
 | .str _,_,h=>by unfold res;exact h
 | .lst ds,_,h=>by unfold res;unfold Rep at h ⊢;obtain⟨a,xs,e,hs,hr⟩:=h;exact#[a,xs,e,U.seq hs,kP n Y U hr]
 | .tup ds,_,h=>by unfold res;unfold Rep at h ⊢;obtain⟨a,xs,e,hs,hr⟩:=h;exact#[a,xs,e,bS.seqT U hs,kP n Y U hr]
 | .ptr k,v,h=>by unfold res;split;rename_i ds e;unfold Rep at h ⊢;obtain⟨a,ev,hk⟩:=h;obtain⟨_,xs,h1,h2⟩:jM K ca H F θ a (.lst ds):=n.ce k a _ hk e;exact#[a,xs,ev,SqL.of h1,h2.mono n.fh #[[],by simp]];exact h.mono U #[[],by simp]
 | .obj c ns ds,_,h=>by unfold res;exact h.mono U #[[],by simp]
 | .exn c,_,h=>by unfold res;exact h.mono U #[[],by simp]
theorem kP(n:Now K ca H F θ O)(U:bS F G)(Y:bS G H):∀{ds:List D} {xs:List V},aH K ca θ G ds xs->aH K ca θ H (b8 O ds) xs
 | [],_,h=>by unfold b8;exact h
 | d::ds,_,h=>by unfold b8;unfold aH at h ⊢;obtain⟨v,r,e,h1,h2⟩:=h;exact#[v,r,e,Ak n U Y h1,kP n U Y h2]
end
mutual
theorem zZ:∀{d:D} {v:V} {p:Up},Rep K ca θ H d v->toPy d=lH p->RdV K H p v
 | .non,_,_,h,e=>by unfold toPy at e;cases e;unfold RdV;exact gx.mp h
 | .bl b,_,_,h,e=>by unfold toPy at e;cases e;unfold RdV;exact cK.mp h
 | .int b,_,_,h,e=>by unfold toPy at e;cases e;unfold RdV;exact bH.mp h
 | .str b,_,_,h,e=>by unfold toPy at e;cases e;unfold RdV;exact cY.mp h
 | .lst ds,_,_,h,e=>by
  unfold toPy at e;cases e1:jv ds with
  | none=>rw[e1] at e;cases e
  | some ps=>
   rw[e1] at e;cases e;unfold Rep at h;obtain⟨a,xs,U,hs,hr⟩:=h;unfold RdV;exact#[a,xs,U,hs,yd hr e1]
 | .tup ds,_,_,h,e=>by
  unfold toPy at e;cases e1:jv ds with
  | none=>rw[e1] at e;cases e
  | some ps=>
   rw[e1] at e;cases e;unfold Rep at h;obtain⟨a,xs,U,hs,hr⟩:=h;unfold RdV;exact#[a,xs,U,hs,yd hr e1]
 | .ptr _,_,_,_,e=>by unfold toPy at e;cases e
 | .obj _ _ _,_,_,_,e=>by unfold toPy at e;cases e
 | .exn _,_,_,_,e=>by unfold toPy at e;cases e
theorem yd:∀{ds:List D} {xs:List V} {ps:List Up},aH K ca θ H ds xs->jv ds=lH ps->uc K H ps xs
 | [],_,_,h,e=>by unfold jv at e;cases e;unfold uc;unfold aH at h;exact h
 | d::ds,_,_,h,e=>by
  unfold jv at e;cases e1:toPy d with
  | none=>rw[e1] at e;cases e
  | some p=>
   cases e2:jv ds with
   | none=>rw[e1,e2] at e;cases e
   | some ps=>
    rw[e1,e2] at e;cases e;unfold aH at h;obtain⟨v,r,U,h1,h2⟩:=h;unfold uc;exact#[v,r,U,zZ h1 e1,yd h2 e2]
end
end
def iR(O:aA)(x y:D):Option Bool:=match toPy (res O (res O x)),toPy (res O (res O y)) with
 | some a,lH b=>if SeqAt.shaped a=on/\SeqAt.shaped b=on then lH (PyData.eqv a b) else na
 | _,_=>na
def eqB(O:aA)(x y:D):Option Bool:=match x,y with
 | .int i,.int j=>lH (decide (i=j))
 | .str i,.str j=>lH (decide (i=j))
 | .bl i,.bl j=>lH (decide (i=j))
 | .non,.non=>lH on
 | x,y=>iR O x y
def eqD:Op2:=λO x y=>match eqB O x y with
 | some b=>.ok (.bl b)
 | none=>.bad
def neD:Op2:=λO x y=>match eqB O x y with
 | some b=>.ok (.bl (!b))
 | none=>.bad
section
variable {X : Cx}
def Na(K:qh):R2:=λx y H Q=>rEq x y H Q\/NG K x y H Q
def Nn(K:qh):R2:=λx y H Q=>rNe x y H Q\/OD K x y H Q
theorem eH(hu:X.A.units+64<cLine):OpR X (compareOp .Eq) (Na X.K):=Pm.or (NY hu)
theorem xF(hu:X.A.units+64<cLine):OpR X (compareOp .NotEq) (Nn X.K):=OK.or (Nx hu)
end
theorem A2{v w:V}{k:Bool}(b:BS C.K C.ca σ H F θ s)(Y:Rep C.K C.ca θ F x v)(ry:Rep C.K C.ca θ F y w)(e:iR s.o x y=lH k):
 ∃d e,RdV C.K H d v/\RdV C.K H e w/\SeqAt.shaped d=on/\SeqAt.shaped e=on/\PyData.eqv d e=k:=by
 unfold iR at e;split at e;rename_i a c e1 e2;split at e;rename_i hs;cases e;have U:∀{d:D} {u:V},Rep C.K C.ca θ F d u->Rep C.K C.ca θ H (res s.o (res s.o d)) u:=λh=>Ak b.now b.now.fh (bS.refl _) (Ak b.now (bS.refl _) b.now.fh h);exact#[a,c,zZ (U Y) e1,zZ (U ry) e2,hs.1,hs.2,rfl];cases e;cases e
theorem dw:gI C (Na C.K) eqD:=by intro σ H F θ s x y v w Q b U Y p;unfold eqD at p;split at p;rename_i k e;have q:=λH' (h:H'=H)=>h▸dB p b (v:=.bl k) (cK.mpr rfl);have q:=q H rfl;unfold eqB at e;split at e;rename_i i j;cases e;cases bH.mp U;cases bH.mp Y;exact .inl #[rfl,by rw[vZ,RP];exact q];cases e;cases cY.mp U;cases cY.mp Y;exact .inl #[rfl,by rw[wx,RP];exact q];cases e;cases cK.mp U;cases cK.mp Y;exact .inl #[rfl,by rw[yP,RP];exact q];cases e;cases gx.mp U;cases gx.mp Y;exact .inl #[rfl,by simpa using q];obtain⟨d,e',h1,h2,h3,h4,h5⟩:=A2 b U Y e;exact .inr #[d,e',h1,h2,h3,h4,by rw[h5];exact q];exact pi p
theorem tI:gI C (Nn C.K) neD:=by intro σ H F θ s x y v w Q b U Y p;unfold neD at p;split at p;rename_i k e;have q:=dB p b (v:=.bl (!k)) (cK.mpr rfl);unfold eqB at e;split at e;rename_i i j;cases e;cases bH.mp U;cases bH.mp Y;exact .inl #[rfl,by rw[vZ,RP];exact q];cases e;cases cY.mp U;cases cY.mp Y;exact .inl #[rfl,by rw[wx,RP];exact q];cases e;cases cK.mp U;cases cK.mp Y;exact .inl #[rfl,by rw[yP,RP];exact q];cases e;cases gx.mp U;cases gx.mp Y;exact .inl #[rfl,by simpa using q];obtain⟨d,e',h1,h2,h3,h4,h5⟩:=A2 b U Y e;exact .inr #[d,e',h1,h2,h3,h4,by rw[h5];exact q];exact pi p
def ixD:Op2:=λO x y=>match y with
 | .int i=>match x with
  | .tup ds=>match atI ds i with
   | some d=>.ok d
   | none=>.bad
  | .str z=>if z.length<=16777216 then (match atI z.cps.toList i with
   | some c=>.ok (.str #[#v[c]])
   | none=>.bad) else .bad
  | x=>match lsD O x with
   | some ds=>match atI ds i with
    | some d=>.ok d
    | none=>.bad
   | none=>.bad
 | _=>.bad
theorem Gb{K ca θ F}{i:Int}(r:aH K ca θ F ds xs)(e:atI ds i=lH d):∃v,atI xs i=lH v/\Rep K ca θ F d v:=by
 unfold atI at e ⊢;rw[r.length];cases q:ixN ds.length i with
 | none=>rw[q] at e;cases e
 | some j=>
  rw[q] at e;exact r.get e
theorem aW:gI C (rIx C.K) ixD:=by intro σ H F θ s x y v w Q b U Y p;unfold ixD at p;split at p;rename_i i;split at p;rename_i ds;obtain⟨a,xs,rfl,hs,hr⟩:=yC b U;split at p;rename_i d e;obtain⟨u,e1,r1⟩:=Gb hr e;exact .inr (.inl #[a,xs,i,u,rfl,bH.mp Y,hs,e1,dB p b r1]);exact pi p;rename_i z;split at p;rename_i hz;split at p;rename_i c e;exact .inr (.inr #[z,i,c,cY.mp U,bH.mp Y,hz,e,dB p b (cY.mpr rfl)]);exact pi p;exact pi p;split at p;rename_i ds e0;obtain⟨a,xs,rfl,hs,hr⟩:=fo b U e0;split at p;rename_i d e;obtain⟨u,e1,r1⟩:=Gb hr e;exact .inl #[a,xs,i,u,rfl,bH.mp Y,hs,e1,dB p b r1];exact pi p;exact pi p;exact pi p
abbrev OM:=S->Res (Option Int×S)
def RdO(C:Ct)(t:TO)(m:OM):Prop:=∀σ H F θ s Q,BS C.K C.ca σ H F θ s->PoR C H F θ (m s) (λy H1 F1 θ1=>BS C.K C.ca σ H1 F1 θ1 y.2->Q y.1 H1)->t σ H Q
def dA:OM:=λs=>.ok (na,s)
def part(m:EM):OM:=λs=>(m s).bind λx=>match x.1 with
 | .int i=>.ok (lH i,x.2)
 | _=>.bad
theorem fP:RdO C Fi dA:=λσ H F θ s Q b p=>p H F θ .refl b
theorem gB(h:RdE C t m):RdO C (Lu t) (part m):=by
 intro σ H F θ s Q b p;refine h σ H F θ s _ b (PoR.bind p ?_);rintro ⟨x,s1⟩ H1 F1 θ1 _ U p1 Y v r1;cases x <;> first | exact pi p1 | skip
 rename_i i _;exact#[i,bH.mp r1,p1 _ _ _ .refl Y]
def cutD(ds:List D)(lo hi:Option Int):List D:=(ds.drop (HT.sIx ds.length 0 lo)).take (HT.sIx ds.length ds.length hi-HT.sIx ds.length 0 lo)
theorem zW{K ca θ F}{lo hi:Option Int}(r:aH K ca θ F ds xs):aH K ca θ F (cutD ds lo hi) (vP xs lo hi):=by unfold cutD vP;rw[r.length];exact(r.drop _).take _
def slM(me:EM)(ml mh:OM):EM:=λs=>(me s).bind λx=>(ml x.2).bind λl=>(mh l.2).bind λh=>match lsD h.2.o x.1 with
 | some ds=>.ok (.lst (cutD ds l.1 h.1),h.2)
 | none=>.bad
theorem uk(he:RdE C te me)(hl:RdO C tl ml)(hh:RdO C th mh):RdE C (tSl (La C.K) te tl th) (slM me ml mh):=by intro σ H F θ s Q b p;refine he σ H F θ s _ b (PoR.bind p ?_);rintro ⟨x,s1⟩ H1 F1 θ1 _ ap p1 b1 v r1;refine hl σ H1 F1 θ1 s1 _ b1 (PoR.bind p1 ?_);rintro ⟨l,s2⟩ H2 F2 θ2 _ U p2 b2;refine hh σ H2 F2 θ2 s2 _ b2 (PoR.bind p2 ?_);rintro ⟨h,s3⟩ H3 F3 a1 _ Y p3 b3;dsimp only at p3 ⊢;split at p3;rename_i ds e;obtain⟨a,xs,rfl,hs,hr⟩:=fo b3 ((r1.mono U.ff U.pre).mono Y.ff Y.pre) e;exact#[a,xs,rfl,hs,yK (ds:=cutD ds l h) p3 b3 (zW hr)];exact pi p3
def cF:OpN:=λO xs=>match xs with
 | [.str z]=>if z.length<=16777216 then .ok (.int z.length) else .bad
 | [.tup ds]=>.ok (.int ds.length)
 | [x]=>match lsD O x with
  | some ds=>.ok (.int ds.length)
  | none=>.bad
 | _=>.bad
theorem oN{K ca θ F}(h:aH K ca θ F [x] vs):∃v,vs=[v]/\Rep K ca θ F x v:=by unfold aH at h;obtain⟨v,r,rfl,h1,h2⟩:=h;unfold aH at h2;rw[h2];exact#[v,rfl,h1]
theorem Ld{K ca θ F}(h:aH K ca θ F [x,y] vs):∃v w,vs=[v,w]/\Rep K ca θ F x v/\Rep K ca θ F y w:=by unfold aH at h;obtain⟨v,r,rfl,h1,h2⟩:=h;obtain⟨w,rfl,U⟩:=oN h2;exact#[v,w,rfl,h1,U]
theorem d6:lM C (λxs H Q=>∃x n,xs=[x]/\NN C.K x H n/\Q (.int n) H) cF:=by intro σ H F θ s xs vs Q b r p;unfold cF at p;split at p;rename_i z;obtain⟨v,rfl,r1⟩:=oN r;cases cY.mp r1;split at p;rename_i hz;exact#[.str z,z.length,rfl,#[hz,rfl],dB p b (bH.mpr rfl)];exact pi p;rename_i ds;obtain⟨v,rfl,r1⟩:=oN r;obtain⟨a,xs,rfl,hs,hr⟩:=yC b r1;exact#[.ref a,ds.length,rfl,.inr #[xs,hs,by rw[hr.length]],dB p b (bH.mpr rfl)];rename_i x _ _;obtain⟨v,rfl,r1⟩:=oN r;split at p;rename_i ds e;obtain⟨a,xs,rfl,hs,hr⟩:=fo b r1 e;exact#[.ref a,ds.length,rfl,.inl #[xs,hs,by rw[hr.length]],dB p b (bH.mpr rfl)];exact pi p;exact pi p
def oK:OpN:=λO xs=>match xs with
 | [.tup ds]=>.ok (.lst ds)
 | [x]=>match lsD O x with
  | some ds=>.ok (.lst ds)
  | none=>.bad
 | _=>.bad
theorem sW:lM C (λxs H Q=>∃p ys,xs=[.ref p]/\(SqL C.K H p ys\/SqT C.K H p ys)/\∀l,H l=na->Q (.ref l) (upd H l (.lst ys))) oK:=by intro σ H F θ s xs vs Q b r p;unfold oK at p;split at p;rename_i ds;obtain⟨v,rfl,r1⟩:=oN r;obtain⟨a,xs,rfl,hs,hr⟩:=yC b r1;exact#[a,xs,rfl,.inr hs,yK p b hr];obtain⟨v,rfl,r1⟩:=oN r;split at p;rename_i ds e;obtain⟨a,xs,rfl,hs,hr⟩:=fo b r1 e;exact#[a,xs,rfl,.inl hs,yK p b hr];exact pi p;exact pi p
def xY:OpN:=λ_ xs=>match xs with
 | [.int i]=>.ok (.int (if i<0 then -i else i))
 | _=>.bad
theorem IL:lM C (λxs H Q=>∃i,xs=[.int i]/\Q (.int (if i<0 then -i else i)) H) xY:=by intro σ H F θ s xs vs Q b r p;unfold xY at p;split at p;rename_i i;exact#[i,sN r,dB p b (bH.mpr rfl)];exact pi p
def intOf:OpN:=λ_ xs=>match xs with
 | [.int i]=>.ok (.int i)
 | [.bl k]=>.ok (.int (if k then 1 else 0))
 | _=>.bad
def tyD(O:aA):D->Option String
 | .non=>lH "NoneType"
 | .bl _=>lH "bool"
 | .int _=>lH "int"
 | .str _=>lH "str"
 | .lst _=>lH "list"
 | .tup _=>lH "tuple"
 | .ptr k=>match O[k]? with
  | some (.lst _)=>lH "list"
  | _=>na
 | .obj _ _ _=>na
 | .exn _=>na
def fD(t c:String):Bool:=t == c||(t == "bool" &&c == "int")
def ot(c:String):Op1:=λO x=>match tyD O x with
 | some t=>.ok (.bl (fD t c))
 | none=>.bad
def zC(c:String):Prop:=∀K:qh,∀t∈["NoneType","bool","int","str","list","tuple"],VB K (.type t) (.type c)=lH (fD t c)
theorem ty_int:zC "int" :=by intro K t U;simp only[vr,Vp,or_false] at U;rcases U with rfl | rfl | rfl | rfl | rfl | rfl <;> rfl
theorem ty_bool:zC "bool" :=by intro K t U;simp only[vr,Vp,or_false] at U;rcases U with rfl | rfl | rfl | rfl | rfl | rfl <;> rfl
theorem Il{c:String}(hc:zC c)(h:RdE C te m):RdE C (tCB (Ki C.K) (mj te (mj (tC (.ty c)) p7))) (unM (ot c) m):=by
 intro σ H F θ s Q b p;refine h σ H F θ s _ b (PoR.bind p ?_);rintro ⟨x,s1⟩ H1 F1 θ1 _ Y p1 U v r1;dsimp only at p1 U r1;show Ki C.K [v,.ty c] H1 Q;unfold ot at p1;split at p1
 ·rename_i t e;have q:=dB p1 U (v:=.bl (fD t c)) (cK.mpr rfl);refine#[v,c,t,fD t c,rfl, ?_, ?_,q]
  ·cases x <;> first | (unfold tyD at e;cases e;done) | skip
   unfold tyD at e;cases e;rw[gx.mp r1];rfl;unfold tyD at e;cases e;rw[cK.mp r1];rfl;unfold tyD at e;cases e;rw[bH.mp r1];rfl;unfold tyD at e;cases e;rw[cY.mp r1];rfl;unfold tyD at e;cases e;unfold Rep at r1;obtain⟨a,xs,rfl,hs,hr⟩:=r1;exact .inl #[rfl,xs,U.now.fh.seq hs];unfold tyD at e;cases e;unfold Rep at r1;obtain⟨a,xs,rfl,hs,hr⟩:=r1;exact .inr #[rfl,xs,bS.seqT U.now.fh hs];rename_i k _;unfold tyD at e;dsimp only at e;split at e;rename_i ds ek;cases e;obtain⟨a,xs,rfl,hs,hr⟩:=fo U r1 (ds:=ds) (by unfold lsD;simp only[ek]);exact .inl #[rfl,xs,hs];cases e
  ·refine hc C.K t ?_;cases x <;> unfold tyD at e <;> dsimp only at e <;> first | (cases e;simp;done) | (cases e;done) | skip
   split at e;cases e;simp;cases e
 exact pi p1
theorem tx{α:Type}{l:List α}(h:l.Nodup){i j:Nat}{x:α}(a:l[i]? =lH x)(b:l[j]? =lH x):i=j:=by obtain⟨h1,e1⟩:=xL.mp a;obtain⟨h2,e2⟩:=xL.mp b;exact(Vq h).mp (e1.trans e2.symm)
theorem BS.setC(b:BS K ca σ H F θ s){c:Cell}(hk:θ[k]? =lH a)(hc:s.o[k]? =lH c)(hF:F a=na)(hr:aH K ca θ F ds xs):
 Stp H F θ (upd H a (.lst xs)) F θ/\BS K ca σ (upd H a (.lst xs)) F θ #[s.r,s.o.set k (.lst ds)]:=by
 have hm:a∈θ:=IN hk;refine#[#[bS.refl _,#[[],by simp,by simp],λe o U hb=> ?_,λe o U=> ?_,λe o U=>.inl U],#[#[λe o U=> ?_,b.now.nd,by simpa using b.now.ln,λj a' c' e1 e2=> ?_],b.len,b.sl]];have ne:e≠a:=λz=>hb (by rw[z];exact hm);rw[aY ne];exact U;by_cases z:e=a;subst z;exact#[_,cH];exact#[o,by rw[aY z];exact U];have ne:e≠a:=λz=>by rw[z,hF] at U;cases U
 rw[aY ne];exact b.now.fh _ _ U;by_cases Y:k=j;subst Y;rw[hk] at e1;cases e1;have:k<s.o.length:=(xL.mp hc).1;rw[Rj this] at e2;cases e2;exact#[hF,xs,cH,hr];rw[Ro Y] at e2;have q:=b.now.ce j a' c' e1 e2;have ne:a'≠a:=λz=>by subst z;exact Y (tx b.now.nd hk e1)
 cases c' with
 | dead=>obtain⟨o,ho⟩:=q;exact#[o,by rw[aY ne];exact ho]
 | lst ds=>obtain⟨q1,ys,q2,q3⟩:=q;exact#[q1,ys,by rw[aY ne];exact q2,q3]
 | ins c ns ds=>obtain⟨q1,dx,ys,q2,q3⟩:=q;exact#[q1,dx,ys,by rw[aY ne];exact q2,q3]
theorem mQ(b:BS C.K C.ca σ H F θ s)(r:Rep C.K C.ca θ F (.ptr k) v)(e:s.o[k]? =lH (.lst ds)):
 ∃a xs,v=.ref a/\θ[k]? =lH a/\F a=na/\H a=lH (.lst xs)/\aH C.K C.ca θ F ds xs:=by
 unfold Rep at r;obtain⟨a,rfl,hk⟩:=r;obtain⟨h0,xs,h1,h2⟩:jM C.K C.ca H F θ a (.lst ds):=b.now.ce k a _ hk e;exact#[a,xs,rfl,hk,h0,h1,h2]
def ke(O:aA):D->Option (Nat×List D)
 | .ptr k=>match O[k]? with
  | some (.lst ds)=>lH (k,ds)
  | _=>na
 | _=>na
theorem pX(h:ke O d=lH (k,ds)):d=.ptr k/\O[k]? =lH (.lst ds):=by
 cases d <;> first | (simp[ke] at h;done) | skip
 rename_i j;unfold ke at h;dsimp only at h;split at h;rename_i es e;cases h;exact#[rfl,e];cases h
def kR(mo me:EM):EM:=λs=>(mo s).bind λx=>match ke x.2.o x.1 with
 | some _=>(me x.2).bind λy=>match ke y.2.o x.1 with
  | some (k,ds)=>if ds.length<16777216 then .ok (.non,#[y.2.r,y.2.o.set k (.lst (ds++[y.1]))]) else .bad
  | none=>.bad
 | none=>.bad
theorem ky(ho:RdE C to mo)(he:RdE C te me):RdE C (tBM C.K "list" Fx to (mj te p7)) (kR mo me):=by intro σ H F θ s Q b p;refine ho σ H F θ s _ b (PoR.bind p ?_);rintro ⟨x,s1⟩ H1 F1 θ1 _ as p1 Y v r1;dsimp only at p1 Y r1;split at p1;rename_i kd e;obtain⟨rfl,e'⟩:=pX (k:=kd.1) (ds:=kd.2) e;obtain⟨a,xs,rfl,hk,_,h1,_⟩:=mQ Y r1 e';refine#[.inl #[rfl,xs,SqL.of h1],he σ H1 F1 θ1 s1 _ Y (PoR.bind p1 ?_)];rintro ⟨y,s2⟩ H2 F2 θ2 _ U p2 b2 w r2;dsimp only at p2 b2 r2;split at p2;rename_i k ds e2;obtain⟨ek,e2⟩:=pX e2;cases ek;obtain⟨a',ys,ea,ac,hF,h2,hr⟩:=mQ b2 (r1.mono U.ff U.pre) e2;cases ea;split at p2;rename_i hl;obtain⟨al,b3⟩:=b2.setC ac e2 hF (hr.append (aH.one r2));exact#[a,ys,w,rfl,rfl,h2,by rw[hr.length];exact hl,p2 _ _ _ al b3 _ (gx.mpr rfl)];exact pi p2;exact pi p2;exact pi p1
def jk(mo U:EM):GM:=λd s=>(mo s).bind λx=>(U x.2).bind λy=>match y.1 with
 | .int i=>match ke y.2.o x.1 with
  | some (k,ds)=>match ixN ds.length i with
   | some j=>.ok #[y.2.r,y.2.o.set k (.lst (ds.set j d))]
   | none=>.bad
  | none=>.bad
 | _=>.bad
theorem nS{to ti:TE}{mo mi:EM}(ho:RdE C to mo)(hi:RdE C ti mi):RdG C (M9 to ti Lg) (jk mo mi):=by intro σ H F θ s d v Q b rd p;refine ho σ H F θ s _ b (PoR.bind p ?_);rintro ⟨x,s1⟩ H1 F1 θ1 _ Y p1 b1 ov r1;refine hi σ H1 F1 θ1 s1 _ b1 (PoR.bind p1 ?_);rintro ⟨y,s2⟩ H2 F2 θ2 _ U p2 b2 iv r2;dsimp only at p2 b2 r2;split at p2;rename_i i _;split at p2;rename_i k ds e;obtain⟨ek,e'⟩:=pX e;subst ek;obtain⟨a,xs,rfl,hk,hF,h1,h2⟩:=mQ b2 (r1.mono U.ff U.pre) e';split at p2;rename_i j ej;obtain⟨ac,b3⟩:=b2.setC hk e' hF (aH.set ((rd.mono Y.ff Y.pre).mono U.ff U.pre) j h2);exact#[a,xs,i,j,rfl,bH.mp r2,h1,by rw[h2.length];exact ej,p2 _ _ _ ac _ b3];exact pi p2;exact pi p2;exact pi p2
theorem BS.frz(b:BS K ca σ H F θ s)(hk:θ[k]? =lH a)(hc:s.o[k]? =lH (.lst ds))(hF:F a=na)(hH:H a=lH (.lst xs))(hr:aH K ca θ F ds xs):
 Stp H F θ H (upd F a (.lst xs)) θ/\BS K ca σ H (upd F a (.lst xs)) θ #[s.r,s.o.set k .dead]/\Rep K ca θ (upd F a (.lst xs)) (.lst ds) (.ref a):=by
 have hm:a∈θ:=IN hk;have Y:bS F (upd F a (.lst xs)):=λe o U=>by rw[aY (λz=>by rw[z,hF] at U;cases U)];exact U
 refine#[#[Y,#[[],by simp,by simp],λe o U _=>U,λe o U=>#[o,U],λe o U=> ?_],#[#[λe o U=> ?_,b.now.nd,by simpa using b.now.ln,λj a' c' e1 e2=> ?_],b.len,λi d e=> ?_], ?_];by_cases z:e=a;exact .inr (.inr (by rw[z];exact hm));rw[aY z] at U;exact .inl U;by_cases z:e=a;subst z;rw[cH] at U;rw[hH];exact U;rw[aY z] at U;exact b.now.fh _ _ U;by_cases hj:k=j;subst hj;rw[hk] at e1;cases e1;have:k<s.o.length:=(xL.mp hc).1;rw[Rj this] at e2;cases e2;exact#[_,hH];rw[Ro hj] at e2;have q:=b.now.ce j a' c' e1 e2;have ne:a'≠a:=λz=>by subst z;exact hj (tx b.now.nd hk e1)
 cases c' with
 | dead=>exact q
 | lst ds=>obtain⟨q1,ys,q2,q3⟩:=q;exact#[by rw[aY ne];exact q1,ys,q2,q3.mono Y #[[],by simp]]
 | ins c ns ds=>obtain⟨q1,dx,ys,q2,q3,q4⟩:=q;exact#[by rw[aY ne];exact q1,dx,ys,q2,q3,q4.mono Y #[[],by simp]]
 obtain⟨v,h1,h2⟩:=b.sl i d e;exact#[v,h1,h2.mono Y #[[],by simp]];unfold Rep;exact#[a,xs,rfl,SqL.of cH,hr.mono Y #[[],by simp]]
def gf(m:EM):EM:=λs=>(m s).bind λx=>match ke x.2.o x.1 with
 | some (k,ds)=>.ok (.lst ds,#[x.2.r,x.2.o.set k .dead])
 | none=>.bad
theorem iD(h:RdE C t m):RdE C t (gf m):=by intro σ H F θ s Q b p;refine h σ H F θ s _ b (PoR.bind p ?_);rintro ⟨x,s1⟩ H1 F1 θ1 _ ab p1 U v r1;dsimp only at p1 U r1;split at p1;rename_i k ds e;obtain⟨rfl,e'⟩:=pX e;obtain⟨a,xs,rfl,hk,hF,h1,h2⟩:=mQ U r1 e';obtain⟨Y,b2,r2⟩:=U.frz hk e' hF h1 h2;exact p1 _ _ _ Y b2 _ r2;exact pi p1
def mW(m:Nat)(caps:List Nat)(r:List (Option D)):List (Option D):=ux m na++caps.map λi=>(r[i]?).getD na
theorem IF(b:BS K ca σ H F θ s)(m:Nat)(caps:List Nat):BS K ca (oO m caps σ) H F θ #[mW m caps s.r,s.o]:=by
 refine#[b.now,by unfold oO mW;simp,λi d e=> ?_];unfold mW at e;dsimp only at e;by_cases hi:i<m;rw[wv (by simpa using hi),G2] at e;split at e <;> cases e;rw[wE (by simpa using hi)] at e;simp only[SU,wP] at e;cases q:caps[i-m]? with
 | none=>rw[q] at e;cases e
 | some j=>
  rw[q] at e;simp only[SF,Vb] at e;have e':s.r[j]? =lH (lH d):=by
   cases z:s.r[j]? with
   | none=>rw[z] at e;simp at e
   | some U=>rw[z] at e;simp at e;rw[e]
  obtain⟨v,h1,h2⟩:=b.sl j d e';refine#[v, ?_,h2];unfold oO;rw[wE (by simpa using hi)];simp only[SU,wP,q,SF,h1,Uj]
def bR:TM:=λs=>.ok (on,s)
theorem cq:RdT C Le bR:=λσ H F θ s Q b p=>p H F θ .refl b
open Classical in
noncomputable def dI (ok:aA->Prop)(g:GM)(c:TM)(e:EM):List D->List D->S->Res (List D×S)
 | [],acc,s=>if ok s.o then .ok (acc,s) else .bad
 | d::ds,acc,s=>if ok s.o/\acc.length<16777216 then (g d s).bind λs1=>(c s1).bind λx=>if x.1 then (e x.2).bind λy=>dI ok g c e ds (acc++[y.1]) y.2 else dI ok g c e ds acc x.2 else .bad
noncomputable def nB (m:Nat)(caps:List Nat)(im:IM)(g:GM)(c:TM)(e:EM):S->Res (List D×S):=λs=>(im s).bind λy=>
 (dI (okC y.1.1 y.1.2) g c e y.1.1 [] #[mW m caps y.2.r,y.2.o]).bind λz=>.ok (z.1,#[y.2.r,z.2.o])
theorem CJ {m:Nat} {caps:List Nat} {c:TM} (hi:RdI C wi im) (hg:RdG C g gm) (hc:RdT C tc c) (he:RdE C te e)
 {σ:L2.St} {H F:Hp} {θ:List pc} {s:S} {Q:VK} (b:BS C.K C.ca σ H F θ s)
 (p:PoR C H F θ (nB m caps im gm c e s) λy H1 F1 θ1=>BS C.K C.ca σ H1 F1 θ1 y.2->∀q xs,H q=na->H1 q=lH (.lst xs)->F1 q=na->q∉θ1->aH C.K C.ca θ1 F1 y.1 xs->Q (.ref q) H1):sO m caps wi g tc te σ H Q:=by
 refine hi σ H F θ s _ b (PoR.bind p ?_);rintro ⟨⟨ds,k⟩,s1⟩ H1 F1 θ1 _ cr p1 b1 J it q hq;dsimp only at p1 b1 it;have cs:Stp H1 F1 θ1 (upd H1 q (.lst [])) F1 θ1:=by
  have nm:∀a u,H1 a=lH u->a≠q:=λa u e z=>by rw[z,hq] at e;cases e
  exact#[bS.refl _,#[[],by simp,by simp],λa u h _=>by rw[aY (nm a u h)];exact h,λa u h=>#[u,by rw[aY (nm a u h)];exact h],λa u h=>.inl h]
 have ci:q∉θ1:=λh=>by obtain⟨u,hu⟩:=b1.now.there h;rw[hq] at hu;cases hu
 have qF:F1 q=none:=by
  cases e:F1 q with
  | none=>rfl
  | some u=>rw[b1.now.fh q u e] at hq;cases hq
 have cu:H q=none:=by
  cases e:H q with
  | none=>rfl
  | some u=>obtain⟨u',e'⟩:=cr.al q u e;rw[hq] at e';cases e'
 have keep:∀{H2 F2 H3 F3:Hp} {θ2 b2:List pc} {o:HO},Stp H2 F2 θ2 H3 F3 b2->H2 q=lH o->F2 q=na->q∉θ2->H3 q=lH o/\F3 q=na/\q∉b2:=λ{H2 F2 H3 F3 θ2 b2 o} st h1 h2 h3=>by
  refine#[st.kp q o h1 h3, ?_, ?_];cases e:F3 q with
  | none=>rfl
  | some u=>
   rcases st.nf q u e with z | z | z;rw[h2] at z;cases z;rw[h1] at z;cases z;exact absurd z h3
  obtain⟨r,rfl,hr⟩:=st.th;intro hm;rcases wn.mp hm with z | z
  exact h3 z;rw[hr q z] at h1;cases h1
 have cm:∀{am:L2.St} {H2 F2:Hp} {θ2:List pc} {s2:S} (o:HO),BS C.K C.ca am H2 F2 θ2 s2->F2 q=na->q∉θ2->BS C.K C.ca am (upd H2 q o) F2 θ2 s2:=λ{am H2 F2 θ2 s2} o b h1 h2=>by
  have ne:∀a,a∈θ2->a≠q:=λa h z=>h2 (z▸h);refine#[#[λa u h=> ?_,b.now.nd,b.now.ln,λj a c e1 e2=> ?_],b.len,b.sl];have:a≠q:=λz=>by rw[z,h1] at h;cases h
  rw[aY this];exact b.now.fh a u h;have hm:=ne a (IN e1);have w:=b.now.ce j a c e1 e2;cases c with
  | dead=>obtain⟨u,hu⟩:=w;exact#[u,by rw[aY hm];exact hu]
  | lst ds=>obtain⟨q1,ys,q2,q3⟩:=w;exact#[q1,ys,by rw[aY hm];exact q2,q3]
  | ins c ns ds=>obtain⟨q1,dx,ys,q2,q3,q4⟩:=w;exact#[q1,dx,ys,by rw[aY hm];exact q2,q3,q4]
 have cB:∀{H2 F2:Hp} {θ2:List pc} (o:HO),Stp H1 F1 θ1 H2 F2 θ2->Stp H1 F1 θ1 (upd H2 q o) F2 θ2:=λ{H2 F2 θ2} o st=>by
  have nm:∀a u,H1 a=lH u->a≠q:=λa u e z=>by rw[z,hq] at e;cases e
  exact#[st.ff,st.th,λa u h1 h2=>by rw[aY (nm a u h1)];exact st.kp a u h1 h2,λa u h1=>by rw[aY (nm a u h1)];exact st.al a u h1,st.nf]
 refine#[λi n Y am H'=>n=ds.length-i/\i<=ds.length/\∃F' U s' as,Stp H1 F1 θ1 H' F' U/\H' q=lH (.lst Y)/\F' q=na/\q∉U/\BS C.K C.ca am H' F' U s'/\aH C.K C.ca U F' as Y/\
  PoR C H1 F1 θ1 ((dI (okC ds k) gm c e (ds.drop i) as s').bind λz=>.ok (z.1,(#[s1.r,z.2.o]:S))) (λy H1 F1 θ1=>BS C.K C.ca σ H1 F1 θ1 y.2->∀q xs,H q=na->H1 q=lH (.lst xs)->F1 q=na->q∉θ1->aH C.K C.ca θ1 F1 y.1 xs->Q (.ref q) H1),
  #[ds.length,by simp,Rb _,F1,θ1,#[mW m caps s1.r,s1.o],[],cs,cH,qF,ci,cm _ (IF b1 m caps) qF ci,aH.nil,by simpa using p1], ?_]
 rintro i n Y am H' ⟨rfl,ec,F',U,s',as,st,hq',cn,bp,bs,bb,po⟩;by_cases lt:i<ds.length;right;rw[Ri lt,dI] at po;split at po;rename_i bd;refine#[it.go i H' F' U s'.o lt st bs.now bd.1, ?_];intro x H3 hy;obtain⟨F3,bi,b3,rp⟩:=it.yl i ds[i] am H' F' U s' x H3 (sn lt) st bs bd.1 hy;obtain⟨k1,k2,k3⟩:=keep bi hq' cn bp;have an:=st.trans bi;have bm:=PoR.after an po;have w1:PoG C H3 F3 U (gm ds[i] s') (λap H4=>tc ap H4 λb H4=>if b=on then
  te ap H4 λy H5=>H5 q=lH (.lst Y)/\Y.length<sizeLine/\∃k',k'<ds.length-i/\(k'=ds.length-(i+1)/\i+1<=ds.length/\∃F' U s' as,Stp H1 F1 θ1 (upd H5 q (.lst (Y++[y]))) F' U/\(upd H5 q (.lst (Y++[y]))) q=lH (.lst (Y++[y]))/\F' q=na/\q∉U/\BS C.K C.ca ap (upd H5 q (.lst (Y++[y]))) F' U s'/\aH C.K C.ca U F' as (Y++[y])/\
   PoR C H1 F1 θ1 ((dI (okC ds k) gm c e (ds.drop (i+1)) as s').bind λz=>.ok (z.1,(#[s1.r,z.2.o]:S))) (λy H1 F1 θ1=>BS C.K C.ca σ H1 F1 θ1 y.2->∀q xs,H q=na->H1 q=lH (.lst xs)->F1 q=na->q∉θ1->aH C.K C.ca θ1 F1 y.1 xs->Q (.ref q) H1))
  else ∃k',k'<ds.length-i/\(k'=ds.length-(i+1)/\i+1<=ds.length/\∃F' U s' as,Stp H1 F1 θ1 H4 F' U/\H4 q=lH (.lst Y)/\F' q=na/\q∉U/\BS C.K C.ca ap H4 F' U s'/\aH C.K C.ca U F' as Y/\
   PoR C H1 F1 θ1 ((dI (okC ds k) gm c e (ds.drop (i+1)) as s').bind λz=>.ok (z.1,(#[s1.r,z.2.o]:S))) (λy H1 F1 θ1=>BS C.K C.ca σ H1 F1 θ1 y.2->∀q xs,H q=na->H1 q=lH (.lst xs)->F1 q=na->q∉θ1->aH C.K C.ca θ1 F1 y.1 xs->Q (.ref q) H1))):=by
  cases e1:gm ds[i] s' with
  | bad=>rw[e1] at bm;exact bm
  | exc a1 a2 a3=>rw[e1] at bm;exact bm
  | ok s4=>
   rw[e1] at po;intro H4 F4 cI az ap b4;obtain⟨l1,l2,l3⟩:=keep az k1 k2 k3;refine hc ap H4 F4 cI s4 _ b4 ?_;cases e2:c s4 with
   | bad=>rw[aj,e2] at po;exact po
   | exc a1 a2 a3=>rw[aj,e2] at po;exact PoR.after (an.trans az) po
   | ok x5=>
    obtain⟨kk,s5⟩:=x5;rw[aj,e2,aj] at po;intro H5 F5 cp a0 b5;obtain⟨m1,m2,m3⟩:=keep a0 l1 l2 l3;have be:=((bb.mono bi.ff bi.pre).mono az.ff az.pre).mono a0.ff a0.pre;cases kk with
    | false=>
     exact vT #[ds.length-(i+1),⋯,rfl,⋯,F5,cp,s5,as,an.trans (az.trans a0),m1,m2,m3,b5,be,by simpa using po]
    | true=>
     refine uK (he ap H5 F5 cp s5 _ b5 ?_);dsimp only[if_true] at po;cases e3:e s5 with
     | bad=>rw[e3] at po;exact po
     | exc a1 a2 a3=>rw[e3] at po;exact PoR.after (an.trans (az.trans a0)) po
     | ok x6=>
      obtain⟨y,s6⟩:=x6;rw[e3,aj] at po;intro H6 F6 c1 bn b6 w r6;obtain⟨n1,n2,n3⟩:=keep bn m1 m2 m3;exact#[n1,by rw[bb.length];exact bd.2,ds.length-(i+1),⋯,rfl,⋯,F6,c1,s6,as++[y],cB _ (an.trans (az.trans (a0.trans bn))),cH,n2,n3,cm _ b6 n2 n3,(be.mono bn.ff bn.pre).append (aH.one r6),po]
 exact hg am H3 F3 U s' ds[i] x _ b3 rp w1;exact pi po;left;rw[SK ⋯,dI] at po;split at po;rename_i bd;refine#[it.st i H' F' U s'.o ⋯ st bs.now bd,hq', ?_];refine po H' F' U st #[bs.now,b1.len,λj d e=> ?_] q Y cu hq' cn bp bb;obtain⟨v,h1,h2⟩:=b1.sl j d e;exact#[v,h1,h2.mono st.ff st.pre];exact pi po
noncomputable def bL (m:Nat)(caps:List Nat)(im:IM)(g:GM)(c:TM)(e:EM):EM:=λs=>(nB m caps im g c e s).bind λy=>.ok (.lst y.1,y.2)
theorem cf{m:Nat}{c:TM}(hi:RdI C wi im)(hg:RdG C g gm)(hc:RdT C tc c)(he:RdE C te e):RdE C (sO m caps wi g tc te) (bL m caps im gm c e):=by
 intro σ H F θ s Q b p;refine CJ hi hg hc he b ?_;unfold bL at p;cases e1:nB m caps im gm c e s with
 | bad=>rw[e1] at p;exact p
 | exc a1 a2 a3=>rw[e1] at p;exact p
 | ok y=>
  rw[e1,aj] at p;intro H1 F1 θ1 U Y q xs h0 h1 h2 h3 hr;have sF:bS F1 (upd F1 q (.lst xs)):=λa u h=>by rw[aY (λz=>by rw[z,h2] at h;cases h)];exact h
  refine p H1 (upd F1 q (.lst xs)) θ1 #[U.ff.trans sF,U.th,U.kp,U.al,λa u h=> ?_] #[#[λa u h=> ?_,Y.now.nd,Y.now.ln,λj a c e2 e3=> ?_],Y.len,λi d e2=> ?_] (.ref q) ?_;by_cases z:a=q;subst z;exact .inr (.inl h0);rw[aY z] at h;exact U.nf a u h;by_cases z:a=q;subst z;rw[cH] at h;rw[h1];exact h;rw[aY z] at h;exact Y.now.fh a u h;have ne:a≠q:=λz=>h3 (z▸IN e2);have w:=Y.now.ce j a c e2 e3;cases c with
  | dead=>exact w
  | lst ds=>obtain⟨q1,ys,q2,q3⟩:=w;exact#[by rw[aY ne];exact q1,ys,q2,q3.mono sF #[[],by simp]]
  | ins c ns ds=>obtain⟨q1,dx,ys,q2,q3,q4⟩:=w;exact#[by rw[aY ne];exact q1,dx,ys,q2,q3,q4.mono sF #[[],by simp]]
  obtain⟨v,w1,w2⟩:=Y.sl i d e2;exact#[v,w1,w2.mono sF #[[],by simp]];unfold Rep;exact#[q,xs,rfl,SqL.of cH,hr.mono sF #[[],by simp]]
noncomputable def lL (m:Nat)(caps:List Nat)(im:IM)(g:GM)(c:TM)(e:EM):EM:=λs=>(nB m caps im g c e s).bind λy=>.ok (.ptr y.2.o.length,#[y.2.r,y.2.o++[.lst y.1]])
theorem mZ{m:Nat}{c:TM}(hi:RdI C wi im)(hg:RdG C g gm)(hc:RdT C tc c)(he:RdE C te e):RdE C (sO m caps wi g tc te) (lL m caps im gm c e):=by
 intro σ H F θ s Q b p;refine CJ hi hg hc he b ?_;unfold lL at p;cases e1:nB m caps im gm c e s with
 | bad=>rw[e1] at p;exact p
 | exc a1 a2 a3=>rw[e1] at p;exact p
 | ok y=>
  rw[e1,aj] at p;intro H1 F1 θ1 U Y q xs h0 h1 h2 h3 hr;obtain⟨r,er,ab⟩:=U.th;refine p H1 F1 (θ1++[q]) #[U.ff,#[r++[q],by rw[er,R3],λa ha=> ?_],U.kp,U.al,U.nf] #[#[Y.now.fh, ?_,by simp[Y.now.ln],λk a c e2 e3=> ?_],Y.len,λi d e2=> ?_] (.ref q) ?_;rcases wn.mp ha with z | z
  exact ab a z;rw[wf.mp z];exact h0;refine R0.mpr #[Y.now.nd,by simp,λa ha x hx=> ?_];rw[wf.mp hx];rintro rfl;exact h3 ha;by_cases hk:k<θ1.length;rw[wv hk] at e2;dsimp only at e3;rw[wv (by rw[<- Y.now.ln];exact hk)] at e3;have w:=Y.now.ce k a c e2 e3;cases c with
  | dead=>exact w
  | lst ds=>obtain⟨q1,ys,q2,q3⟩:=w;exact#[q1,ys,q2,q3.mono (bS.refl _) #[[q],rfl]]
  | ins c ns ds=>obtain⟨q1,dx,ys,q2,q3,q4⟩:=w;exact#[q1,dx,ys,q2,q3,q4.mono (bS.refl _) #[[q],rfl]]
  have am:k<(θ1++[q]).length:=(xL.mp e2).1;have an:k=θ1.length:=by simp at am;omega
  subst an;rw[wE (ut _)] at e2;dsimp only at e3;rw[wE (by rw[Y.now.ln];exact ut _),Y.now.ln] at e3;simp at e2 e3;subst e2;subst e3;exact#[h2,xs,h1,hr.mono (bS.refl _) #[[q],rfl]];obtain⟨v,w1,w2⟩:=Y.sl i d e2;exact#[v,w1,w2.mono (bS.refl _) #[[q],rfl]];unfold Rep;exact#[q,rfl,by rw[<- Y.now.ln];simp]
end
section
variable {C : Ct}
theorem vt(p:PoE C σ H F θ (.ok (.ptr s.o.length,(#[s.r,s.o++[.lst ds]]:S))) Q)(b:BS C.K C.ca σ H F θ s)(r:aH C.K C.ca θ F ds xs):
 ∀q,H q=na->Q (.ref q) (upd H q (.lst xs)):=λq hq=>by
 obtain⟨st,U,Y⟩:=b.newC hq r;exact p _ _ _ st U _ Y
def wH(O:aA):D->Option (List D)
 | .tup ds=>lH ds
 | x=>lsD O x
def B9(m:EM):EM:=λs=>(m s).bind λx=>match wH x.2.o x.1 with
 | some ds=>.ok (.ptr x.2.o.length,#[x.2.r,x.2.o++[.lst ds]])
 | none=>.bad
theorem Js(h:RdE C t m):RdE C (tCB (λxs H Q=>∃p ys,xs=[.ref p]/\(SqL C.K H p ys\/SqT C.K H p ys)/\∀l,H l=na->Q (.ref l) (upd H l (.lst ys))) (mj t p7)) (B9 m):=by
 intro σ H F θ s Q b p;refine h σ H F θ s _ b (PoR.bind p ?_);rintro ⟨x,s1⟩ H1 F1 θ1 _ Y p1 U v r1;dsimp only at p1 U r1;split at p1;rename_i ds e;cases x with
 | tup es=>
  cases e;obtain⟨a,xs,rfl,hs,hr⟩:=yC U r1;exact#[a,xs,rfl,.inr hs,vt p1 U hr]
 | _=>
  obtain⟨a,xs,rfl,hs,hr⟩:=fo U r1 e;exact#[a,xs,rfl,.inl hs,vt p1 U hr]
 exact pi p1
def slC(me:EM)(ml mh:OM):EM:=λs=>(me s).bind λx=>(ml x.2).bind λl=>(mh l.2).bind λh=>match lsD h.2.o x.1 with
 | some ds=>.ok (.ptr h.2.o.length,#[h.2.r,h.2.o++[.lst (cutD ds l.1 h.1)]])
 | none=>.bad
theorem Nm(he:RdE C te me)(hl:RdO C tl ml)(hh:RdO C th mh):RdE C (tSl (La C.K) te tl th) (slC me ml mh):=by intro σ H F θ s Q b p;refine he σ H F θ s _ b (PoR.bind p ?_);rintro ⟨x,s1⟩ H1 F1 θ1 _ ap p1 b1 v r1;refine hl σ H1 F1 θ1 s1 _ b1 (PoR.bind p1 ?_);rintro ⟨l,s2⟩ H2 F2 θ2 _ U p2 b2;refine hh σ H2 F2 θ2 s2 _ b2 (PoR.bind p2 ?_);rintro ⟨h,s3⟩ H3 F3 a1 _ Y p3 b3;dsimp only at p3 ⊢;split at p3;rename_i ds e;obtain⟨a,xs,rfl,hs,hr⟩:=fo b3 ((r1.mono U.ff U.pre).mono Y.ff Y.pre) e;exact#[a,xs,rfl,hs,vt p3 b3 (zW hr)];exact pi p3
mutual
def shD(n:Nat):D->D
 | .lst ds=>.lst (eN n ds)
 | .tup ds=>.tup (eN n ds)
 | .ptr k=>.ptr (n+k)
 | .obj c ns ds=>.obj c ns (eN n ds)
 | .exn c=>.exn c
 | .non=>.non
 | .bl b=>.bl b
 | .int i=>.int i
 | .str x=>.str x
def eN(n:Nat):List D->List D
 | []=>[]
 | d::ds=>shD n d::eN n ds
end
def shC(n:Nat):Cell->Cell
 | .dead=>.dead
 | .lst ds=>.lst (eN n ds)
 | .ins c ns ds=>.ins c ns (eN n ds)
section
variable {K : qh} {ca : Nat → pc} {F : Hp} {θ θ1 : List pc}
mutual
theorem IY:∀{d:D} {v:V},Rep K ca θ1 F d v->Rep K ca (θ++θ1) F (shD θ.length d) v
 | .non,_,h=>by unfold shD;exact h
 | .bl _,_,h=>by unfold shD;exact h
 | .int _,_,h=>by unfold shD;exact h
 | .str _,_,h=>by unfold shD;exact h
 | .lst ds,_,h=>by unfold shD;unfold Rep at h ⊢;obtain⟨a,xs,e,hs,hr⟩:=h;exact#[a,xs,e,hs,oW hr]
 | .tup ds,_,h=>by unfold shD;unfold Rep at h ⊢;obtain⟨a,xs,e,hs,hr⟩:=h;exact#[a,xs,e,hs,oW hr]
 | .ptr k,_,h=>by unfold shD;unfold Rep at h ⊢;obtain⟨a,e,hk⟩:=h;exact#[a,e,by rw[wE (Uy _ _),R4];exact hk]
 | .obj c ns ds,_,h=>by unfold shD;unfold Rep at h ⊢;obtain⟨a,dx,xs,e,ha,U,hr⟩:=h;exact#[a,dx,xs,e,ha,U,oW hr]
 | .exn c,_,h=>by unfold shD;unfold Rep at h ⊢;exact h
theorem oW:∀{ds:List D} {xs:List V},aH K ca θ1 F ds xs->aH K ca (θ++θ1) F (eN θ.length ds) xs
 | [],_,h=>by unfold eN;exact h
 | d::ds,_,h=>by unfold eN;unfold aH at h ⊢;obtain⟨v,r,e,h1,h2⟩:=h;exact#[v,r,e,IY h1,oW h2]
end
end
theorem BS.calledO{O1:aA}(b:BS K ca σ H F θ s)(st:Stp H F [] H1 F1 θ1)(n:Now K ca H1 F1 θ1 O1):
 Stp H F θ H1 F1 (θ++θ1)/\BS K ca σ H1 F1 (θ++θ1) #[s.r,s.o++O1.map (shC s.o.length)]:=by
 obtain⟨U,b0⟩:=b.called st n;obtain⟨r,er,hr⟩:=st.th;rw[xz] at er;subst er;refine#[#[U.ff,#[θ1,rfl,hr],U.kp,U.al,U.nf],#[#[n.fh,R0.mpr #[b.now.nd,n.nd,λa ha x hx=> ?_],by simp[b.now.ln,n.ln],λk a c e1 e2=> ?_],b.len,λi d e=> ?_]];rintro rfl;obtain⟨u,hu⟩:=b.now.there ha;rw[hr a hx] at hu;cases hu;by_cases hk:k<θ.length;rw[wv hk] at e1;dsimp only at e2;rw[wv (by rw[<- b.now.ln];exact hk)] at e2;have w:=b0.now.ce k a c e1 e2;cases c with
 | dead=>exact w
 | lst ds=>obtain⟨q1,ys,q2,Y⟩:=w;exact#[q1,ys,q2,Y.mono (bS.refl _) #[θ1,rfl]]
 | ins c ns ds=>obtain⟨q1,dx,ys,q2,Y,q4⟩:=w;exact#[q1,dx,ys,q2,Y,q4.mono (bS.refl _) #[θ1,rfl]]
 rw[wE ⋯] at e1;dsimp only at e2;rw[wE (by rw[<- b.now.ln];omega),wP,<- b.now.ln] at e2;cases e3:O1[k-θ.length]? with
 | none=>rw[e3] at e2;cases e2
 | some c'=>
  rw[e3] at e2;cases e2;have w:=n.ce _ a c' e1 e3;cases c' with
  | dead=>exact w
  | lst ds=>obtain⟨q1,ys,q2,Y⟩:=w;exact#[q1,ys,q2,oW Y]
  | ins c ns ds=>obtain⟨q1,dx,ys,q2,Y,q4⟩:=w;exact#[q1,dx,ys,q2,Y,oW q4]
 obtain⟨v,h1,h2⟩:=b0.sl i d e;exact#[v,h1,h2.mono (bS.refl _) #[θ1,rfl]]
def dP(n:Nat)(f:FM)(ma:AM):EM:=λs=>(ma s).bind λx=>if aR x.1=on/\x.1.length=n then (match f x.1 [] with
 | .ok (d,O1)=>.ok (shD x.2.o.length d,#[x.2.r,x.2.o++O1.map (shC x.2.o.length)])
 | _=>.bad) else .bad
theorem fC{f:FM}(ha:RdA C ta ma):RdE C (tG (spM C.K C.ca n f) [] E ta) (dP n f ma):=by intro σ H F θ s Q b p;refine ha σ H F θ s _ b (PoR.bind p ?_);rintro ⟨x,s1⟩ H1 F1 θ1 _ ac p1 U v r1;dsimp only at p1 U r1 ⊢;split at p1;rename_i hp;rw[RT];refine#[F1,[],x,[],Now.nil U.now.fh,r1.pure hp.1,hp.2, ?_];split at p1;rename_i d O1 e;rw[e];intro v H2 F2 θ2 Y n2 rv;obtain⟨ab,b3⟩:=U.calledO Y n2;refine p1 H2 F2 _ ab b3 v ?_;rw[<- U.now.ln];exact IY rv;exact pi p1;exact pi p1
def kI(n:Nat)(f:FM)(ma:AM):EM:=λs=>(ma s).bind λx=>if aR (b8 x.2.o (b8 x.2.o x.1))=on/\x.1.length=n then (match f (b8 x.2.o (b8 x.2.o x.1)) [] with
 | .ok (d,_)=>if oG d=on then .ok (d,x.2) else .bad
 | _=>.bad) else .bad
theorem kr(O:aA):∀ds:List D,(b8 O ds).length=ds.length
 | []=>by unfold b8;rfl
 | d::ds=>by unfold b8;rw[wT,wT,kr O ds]
theorem sE{f:FM}(ha:RdA C ta ma):RdE C (tG (spM C.K C.ca n f) [] E ta) (kI n f ma):=by
 intro σ H F θ s Q b p;refine ha σ H F θ s _ b (PoR.bind p ?_);rintro ⟨x,s1⟩ H1 F1 θ1 _ ac p1 U v r1;dsimp only at p1 U r1 ⊢;split at p1;rename_i hp;rw[RT];have rr:aH C.K C.ca θ1 H1 (b8 s1.o (b8 s1.o x)) v:=kP U.now U.now.fh (bS.refl _) (kP U.now (bS.refl _) U.now.fh r1);refine#[H1,[],b8 s1.o (b8 s1.o x),[],Now.nil (bS.refl _),rr.pure hp.1,by rw[kr,kr];exact hp.2, ?_];split at p1;rename_i d O1 e;rw[e];intro v H2 F2 θ2 Y n2 rv;split at p1;rename_i sd;have kp:∀a o,H1 a=lH o->H2 a=lH o:=λa o h=>Y.kp a o h (by simp);refine p1 H2 F1 θ1 #[bS.refl _,#[[],by simp,by simp],λa o h _=>kp a o h,Y.al,λa o h=>.inl h] #[#[λa o h=>kp a o (U.now.fh a o h),U.now.nd,U.now.ln,λk a c e1 e2=> ?_],U.len,U.sl] v (rv.scal sd);have w:=U.now.ce k a c e1 e2;cases c with
 | dead=>obtain⟨o,ho⟩:=w;exact#[o,kp a o ho]
 | lst ds=>obtain⟨q1,ys,q2,q3⟩:=w;exact#[q1,ys,kp _ _ q2,q3]
 | ins c ns ds=>obtain⟨q1,dx,ys,q2,q3,q4⟩:=w;exact#[q1,dx,ys,kp _ _ q2,q3,q4]
 exact pi p1;exact pi p1;exact pi p1
end
def LG(P:AC)(w:Db)(K:qh)(mg:Str->Option ol)(base:Gc)(ca:Nat->pc)(U:Nat)(x:Str)(ps:List Str)(f:FM)(a:pc)(fd:RB):Prop:=
 kb P w K mg base (CXE P w) U a fd ps (spM K ca ps.length f)/\mg x=lH (.ref a)/\Rm K (.ref a)=on/\Binds K fd ps []
def Lw(P:AC)(w:Db)(K:qh)(mg:Str->Option ol)(base:Gc)(ca:Nat->pc)(U:Nat)(x:Str)(ps:List Str)(f:FM):Prop:=∃a fd,LG P w K mg base ca U x ps f a fd
theorem Ba{K:qh}{ca:Nat->pc}{θ:List pc}{F:Hp}:∀ns:List Int,aH K ca θ F (ns.map D.int) (ns.map V.int)
 | []=>aH.nil
 | _::ns=>aH.cons (bH.mpr rfl) (Ba ns)
theorem NX{ns:List Int}{f:FM}(U:SqL K H a (ns.map V.int))(h:∃O,f [.lst (ns.map D.int)] []=.ok (.bl on,O)):spM K ca 1 f [.ref a] H (λv _=>v=.bl on) E:=by obtain⟨O,h⟩:=h;refine#[H,[],[.lst (ns.map D.int)],[],Now.nil (bS.refl _),aH.one ?_,rfl, ?_];unfold Rep;exact#[a,ns.map V.int,rfl,U,Ba ns];rw[h];intro v H1 F1 θ1 _ _ r;exact cK.mp r
theorem wy{A:KE}(hr:eR k A)(hk:32<=k):A.depth+100<recursionLimit:=by have:=hr.dp;omega
def Az(i:Nat)(s:S):Nat:=match s.r[i]? with
 | some (lH (.int j))=>j.natAbs+1
 | _=>0
section
variable {C : Ct}
def fX(as bs:List D):List D:=RY (λa b=>.tup [a,b]) as bs
def mX(m:AM):IM:=λs=>(m s).bind λx=>match x.1 with
 | [.lst as,.lst bs]=>.ok ((fX as bs,na),x.2)
 | _=>.bad
theorem sG{as bs:List D}(h:(fX as bs)[i]? =lH d):∃x y,as[i]? =lH x/\bs[i]? =lH y/\d=.tup [x,y]:=by
 unfold fX at h;rw[UI] at h;cases h1:as[i]? with
 | none=>rw[h1] at h;cases h
 | some x=>
  cases h2:bs[i]? with
  | none=>rw[h1,h2] at h;cases h
  | some y=>
   rw[h1,h2] at h;cases h;exact#[x,y,rfl,rfl,rfl]
theorem NM{a b:pc}{xs ys:List V}{as bs:List D}{H F:Hp}(h1:SqL C.K F a xs)(h2:SqL C.K F b ys)(r1:aH C.K C.ca θ F as xs)(r2:aH C.K C.ca θ F bs ys):
 uN C (Itz C.K a b) (fX as bs) (okC (fX as bs) na) H F θ where
 go:=λi H2 F2 θ2 O2 hi st n _=>by obtain⟨x,y,e1,e2,_⟩:=sG (sn hi);obtain⟨v,q1,_⟩:=r1.get e1;obtain⟨w,q2,_⟩:=r2.get e2;exact#[xs,ys,v,w,n.fh.seq (st.ff.seq h1),n.fh.seq (st.ff.seq h2),q1,q2]
 yl:=λi d σ H2 F2 θ2 s2 x H3 hd st b _ hy=>by obtain⟨T,v,w,hT,rfl,rfl,hv,hw⟩:=hy;obtain⟨x,y,e1,e2,rfl⟩:=sG hd;obtain⟨v',q1,k1⟩:=r1.get e1;obtain⟨w',q2,k2⟩:=r2.get e2;have:=hv xs (b.now.fh.seq (st.ff.seq h1));rw[q1] at this;cases this;have:=hw ys (b.now.fh.seq (st.ff.seq h2));rw[q2] at this;cases this;obtain⟨st3,b3,sF,e3⟩:=b.newF hT (.tup [v,w]);refine#[_,st3,b3, ?_];unfold Rep;exact#[T,[v,w],rfl,SqT.of e3,aH.cons ((k1.mono st.ff st.pre).mono st3.ff st3.pre) (aH.one ((k2.mono st.ff st.pre).mono st3.ff st3.pre))]
 st:=λi H2 F2 θ2 O2 hi st n _=>by refine#[xs,ys,n.fh.seq (st.ff.seq h1),n.fh.seq (st.ff.seq h2), ?_];unfold fX at hi;rw[RL] at hi;rw[r1.length,r2.length];omega
theorem r9{m:AM}(h:RdA C ta m):RdI C (JX C.K ta) (mX m):=by intro σ H F θ s R b p;refine h σ H F θ s _ b (PoR.bind p ?_);rintro ⟨x,s1⟩ H1 F1 θ1 _ am p1 Y v r1;dsimp only at p1 Y r1;split at p1;rename_i as bs;obtain⟨v1,v2,rfl,k1,k2⟩:=Ld r1;unfold Rep at k1 k2;obtain⟨a,xs,rfl,hs,hr⟩:=k1;obtain⟨b',ys,rfl,U,ab⟩:=k2;exact#[a,b',rfl,#[xs,Y.now.fh.seq hs],#[ys,Y.now.fh.seq U],p1 _ _ _ .refl Y _ (NM hs U hr ab)];exact pi p1
def fj(ds:List D):List D:=ds.mapIdx λi d=>.tup [.int (i:Nat),d]
def c8(m:AM):IM:=λs=>(m s).bind λx=>match x.1 with
 | [.lst as]=>.ok ((fj as,na),x.2)
 | _=>.bad
theorem A0{as:List D}(h:(fj as)[i]? =lH d):∃x,as[i]? =lH x/\d=.tup [.int (i:Nat),x]:=by
 unfold fj at h;rw[List.getElem?_mapIdx] at h;cases h1:as[i]? with
 | none=>rw[h1] at h;cases h
 | some x=>
  rw[h1] at h;cases h;exact#[x,rfl,rfl]
theorem Mo{as:List D}(h1:SqL C.K F a xs)(r1:aH C.K C.ca θ F as xs):uN C (Ite C.K a) (fj as) (okC (fj as) na) H F θ where
 go:=λi H2 F2 θ2 O2 hi st n _=>by obtain⟨x,e1,_⟩:=A0 (sn hi);obtain⟨v,q1,_⟩:=r1.get e1;exact#[xs,v,n.fh.seq (st.ff.seq h1),q1]
 yl:=λi d σ H2 F2 θ2 s2 x H3 hd st b _ hy=>by obtain⟨T,v,hT,rfl,rfl,hv⟩:=hy;obtain⟨x,e1,rfl⟩:=A0 hd;obtain⟨v',q1,k1⟩:=r1.get e1;have:=hv xs (b.now.fh.seq (st.ff.seq h1));rw[q1] at this;cases this;obtain⟨st3,b3,sF,e3⟩:=b.newF hT (.tup [.int (i:Nat),v]);refine#[_,st3,b3, ?_];unfold Rep;exact#[T,[.int (i:Nat),v],rfl,SqT.of e3,aH.cons (bH.mpr rfl) (aH.one ((k1.mono st.ff st.pre).mono st3.ff st3.pre))]
 st:=λi H2 F2 θ2 O2 hi st n _=>by refine#[xs,n.fh.seq (st.ff.seq h1), ?_];unfold fj at hi;rw[List.length_mapIdx] at hi;rw[r1.length];exact hi
theorem iG{m:AM}(h:RdA C ta m):RdI C (Lr C.K ta) (c8 m):=by intro σ H F θ s R b p;refine h σ H F θ s _ b (PoR.bind p ?_);rintro ⟨x,s1⟩ H1 F1 θ1 _ ab p1 U v r1;dsimp only at p1 U r1;split at p1;rename_i as;obtain⟨v1,rfl,Y⟩:=oN r1;unfold Rep at Y;obtain⟨a,xs,rfl,hs,hr⟩:=Y;exact#[a,rfl,#[xs,U.now.fh.seq hs],p1 _ _ _ .refl U _ (Mo hs hr)];exact pi p1
def pH(x:Str):List D:=x.cps.toList.map λc=>.str #[#v[c]]
def Cn(m:EM):IM:=λs=>(m s).bind λx=>match x.1 with
 | .str z=>.ok ((pH z,na),x.2)
 | _=>.bad
theorem N5{z:Str}:uN C (Its z) (pH z) (okC (pH z) na) H F θ where
 go:=λi H2 F2 θ2 O2 hi st n _=>by unfold pH at hi;show i<z.cps.size;simpa using hi
 yl:=λi d σ H2 F2 θ2 s2 x H3 hd st b _ hy=>by obtain⟨rfl,c,hc,rfl⟩:=hy;refine#[F2,.refl,b, ?_];unfold pH at hd;rw[wP,SW,hc] at hd;cases hd;exact cY.mpr rfl
 st:=λi H2 F2 θ2 O2 hi st n _=>by unfold pH at hi;show z.cps.size<=i;simpa using hi
theorem Fz(h:RdE C te m):RdI C (Ny te) (Cn m):=by
 intro σ H F θ s R b p;refine h σ H F θ s _ b (PoR.bind p ?_);rintro ⟨x,s1⟩ H1 F1 θ1 _ Y p1 U v r1;dsimp only at p1 U r1;cases x <;> first | exact pi p1 | skip
 rename_i z _;exact#[z,cY.mp r1,p1 _ _ _ .refl U _ N5]
def gW:List D->Option (List Int)
 | []=>lH []
 | .int i::r=>(gW r).map (i:: ·)
 | _=>na
def j7:List D->Option (List Bool)
 | []=>lH []
 | .bl i::r=>(j7 r).map (i:: ·)
 | _=>na
theorem yE{K:qh}{ca:Nat->pc}{θ:List pc}{F:Hp}:∀{ds:List D} {ns:List Int} {xs:List V},gW ds=lH ns->aH K ca θ F ds xs->xs=ns.map V.int
 | [],ns,xs,e,r=>by cases e;unfold aH at r;rw[r];rfl
 | d::ds,ns,xs,e,r=>by
  cases d <;> first | (cases e;done) | skip
  rename_i i;unfold gW at e;cases e2:gW ds with
  | none=>rw[e2] at e;cases e
  | some ms=>
   rw[e2] at e;cases e;unfold aH at r;obtain⟨v,w,rfl,h1,h2⟩:=r;rw[yE e2 h2,bH.mp h1];rfl
theorem xq{K:qh}{ca:Nat->pc}{θ:List pc}{F:Hp}:∀{ds:List D} {ns:List Bool} {xs:List V},j7 ds=lH ns->aH K ca θ F ds xs->xs=ns.map V.bl
 | [],ns,xs,e,r=>by cases e;unfold aH at r;rw[r];rfl
 | d::ds,ns,xs,e,r=>by
  cases d <;> first | (cases e;done) | skip
  rename_i i;unfold j7 at e;cases e2:j7 ds with
  | none=>rw[e2] at e;cases e
  | some ms=>
   rw[e2] at e;cases e;unfold aH at r;obtain⟨v,w,rfl,h1,h2⟩:=r;rw[xq e2 h2,cK.mp h1];rfl
def ofInts(f:List Int->D):OpN:=λO xs=>match xs with
 | [x]=>match lsD O x with
  | some ds=>match gW ds with
   | some ns=>.ok (f ns)
   | none=>.bad
  | none=>.bad
 | _=>.bad
def v8(f:List Bool->D):OpN:=λO xs=>match xs with
 | [x]=>match lsD O x with
  | some ds=>match j7 ds with
   | some ns=>.ok (f ns)
   | none=>.bad
  | none=>.bad
 | _=>.bad
def xI:OpN:=ofInts λns=>.int ns.sum
def KW:OpN:=v8 λbs=>.bl (bs.all id)
def P8:OpN:=v8 λbs=>.bl (bs.any id)
theorem HR{f:List Int->D}{g:List Int->V}(h:∀K ca θ F ns,Rep K ca θ F (f ns) (g ns)):lM C (λxs H Q=>∃(p:pc) (ns:List Int),xs=[.ref p]/\SqL C.K H p (ns.map V.int)/\Q (g ns) H) (ofInts f):=by intro σ H F θ s xs vs Q b r p;unfold ofInts at p;split at p;obtain⟨v,rfl,r1⟩:=oN r;split at p;rename_i ds e;obtain⟨a,ys,rfl,hs,hr⟩:=fo b r1 e;split at p;rename_i ns e2;have:=yE e2 hr;subst this;exact#[a,ns,rfl,hs,dB p b (h ..)];exact pi p;exact pi p;exact pi p
theorem Gn{f:List Bool->D}{g:List Bool->V}(h:∀K ca θ F ns,Rep K ca θ F (f ns) (g ns)):lM C (λxs H Q=>∃(p:pc) (ns:List Bool),xs=[.ref p]/\SqL C.K H p (ns.map V.bl)/\Q (g ns) H) (v8 f):=by intro σ H F θ s xs vs Q b r p;unfold v8 at p;split at p;obtain⟨v,rfl,r1⟩:=oN r;split at p;rename_i ds e;obtain⟨a,ys,rfl,hs,hr⟩:=fo b r1 e;split at p;rename_i ns e2;have:=xq e2 hr;subst this;exact#[a,ns,rfl,hs,dB p b (h ..)];exact pi p;exact pi p;exact pi p
theorem CQ:lM C (λxs H Q=>∃(p:pc) (ns:List Int),xs=[.ref p]/\SqL C.K H p (ns.map V.int)/\Q (.int ns.sum) H) xI:=HR λ_ _ _ _ _=>bH.mpr rfl
theorem NU:lM C (λxs H Q=>∃(p:pc) (bs:List Bool),xs=[.ref p]/\SqL C.K H p (bs.map V.bl)/\Q (.bl (bs.all id)) H) KW:=Gn λ_ _ _ _ _=>cK.mpr rfl
def KC:D->Bool
 | .non=>on
 | _=>tt
def isD:Op2:=λ_ x y=>match x,y with
 | .bl a,.bl b=>.ok (.bl (a == b))
 | x,.non=>.ok (.bl (KC x))
 | _,_=>.bad
def lU:Op2:=λ_ x y=>match y with
 | .non=>.ok (.bl (!KC x))
 | _=>.bad
theorem DD{K ca θ F}(r:Rep K ca θ F x v):decide (v=.non)=KC x:=by
 cases x with
 | non=>rw[gx.mp r];rfl
 | bl b=>rw[cK.mp r];rfl
 | int b=>rw[bH.mp r];rfl
 | str b=>rw[cY.mp r];rfl
 | lst ds=>unfold Rep at r;obtain⟨a,xs,rfl,_⟩:=r;rfl
 | tup ds=>unfold Rep at r;obtain⟨a,xs,rfl,_⟩:=r;rfl
 | ptr k=>unfold Rep at r;obtain⟨a,rfl,_⟩:=r;rfl
 | obj c ns ds=>unfold Rep at r;obtain⟨a,dx,xs,rfl,_⟩:=r;rfl
 | exn c=>unfold Rep at r;obtain⟨a,rfl,_⟩:=r;rfl
theorem OE:OpR X (compareOp .Is) (λx y H Q=>∃a b,x=.bl a/\y=.bl b/\Q (.bl (a == b)) H):=by intro pins s σ H x y v u Q I U Y h;obtain⟨a,b,rfl,rfl,q⟩:=h;cases U;cases Y;exact is_bool (cC I q rfl)
def Ob:R2:=λx y H Q=>(∃a b,x=.bl a/\y=.bl b/\Q (.bl (a == b)) H)\/(y=.non/\Q (.bl (decide (x=.non))) H)
theorem Nd:OpR X (compareOp .Is) Ob:=OE.or M8
theorem Fw:OpR X (compareOp .IsNot) (λx y H Q=>y=.non/\Q (.bl (!decide (x=.non))) H):=MP
theorem LF:gI C Ob isD:=by intro σ H F θ s x y v w Q b U Y p;unfold isD at p;split at p;rename_i a c;exact .inl #[a,c,cK.mp U,cK.mp Y,dB p b (cK.mpr rfl)];exact .inr #[gx.mp Y,dB p b (cK.mpr (by rw[DD U]))];exact pi p
theorem CZ:gI C (λx y H Q=>y=.non/\Q (.bl (!decide (x=.non))) H) lU:=by intro σ H F θ s x y v w Q b U Y p;unfold lU at p;split at p;exact#[gx.mp Y,dB p b (cK.mpr (by rw[DD U]))];exact pi p
theorem HZ:OpR X (compareOp .LtE) (λx y H Q=>∃i j,x=.str i/\y=.str j/\Q (.bl (!decide (j.cps.toList<i.cps.toList))) H):=by intro pins s σ H x y v u Q I U Y h;obtain⟨i,j,rfl,rfl,q⟩:=h;obtain⟨t,rfl⟩:=U;obtain⟨t',rfl⟩:=Y;exact PySem.P.le_str (cC I q rfl)
def tX:Op2:=λ_ x y=>match x,y with
 | .str i,.str j=>.ok (.bl (!decide (j.cps.toList<i.cps.toList)))
 | _,_=>.bad
theorem II:gI C (λx y H Q=>∃i j,x=.str i/\y=.str j/\Q (.bl (!decide (j.cps.toList<i.cps.toList))) H) tX:=by intro σ H F θ s x y v w Q b U Y p;unfold tX at p;split at p;rename_i i j;exact#[i,j,cY.mp U,cY.mp Y,dB p b (cK.mpr rfl)];exact pi p
def vQ(f g:Op2)(a b c:EM):EM:=λs=>(a s).bind λx=>(b x.2).bind λy=>(f y.2.o x.1 y.1).bind λz=>match z with
 | .bl on=>(c y.2).bind λw=>(g w.2.o y.1 w.1).bind λd=>.ok (d,w.2)
 | .bl tt=>.ok (.bl tt,y.2)
 | _=>.bad
theorem J3{r r':R2}{f g:Op2}{ta tb tc:TE}{ma mb mc:EM}(hf:gI C r f)(hg:gI C r' g)(ha:RdE C ta ma)(hb:RdE C tb mb)(hc:RdE C tc mc):RdE C (HB r r' ta tb tc) (vQ f g ma mb mc):=by
 intro σ H F θ s Q b p;refine ha σ H F θ s _ b (PoR.bind p ?_);rintro ⟨x,s1⟩ H1 F1 θ1 _ a0 p1 b1 v r1;refine hb σ H1 F1 θ1 s1 _ b1 (PoR.bind p1 ?_);rintro ⟨y,s2⟩ H2 F2 θ2 _ Y p2 b2 w r2;dsimp only at p2;refine hf σ H2 F2 θ2 s2 x y v w _ b2 (r1.mono Y.ff Y.pre) r2 ?_;cases e:f s2.o x y with
 | bad=>rw[e] at p2;exact p2
 | exc a1 a2 a3=>rw[e] at p2;exact p2
 | ok z=>
  rw[e,aj] at p2;rw[aj];intro H3 F3 ac U b3 u r3;cases z <;> first | exact pi p2 | skip
  rename_i k;refine#[k,cK.mp r3, ?_];cases k with
  | false=>exact vT (PoR.after U p2 _ _ _ .refl b3 _ (cK.mpr rfl))
  | true=>
   refine uK (hc σ H3 F3 ac s2 _ b3 (PoR.bind (PoR.after U p2) ?_));rintro ⟨q,s4⟩ H4 F4 al _ ab p4 b4 w' r4;exact hg σ H4 F4 al s4 y q w w' Q b4 ((r2.mono U.ff U.pre).mono ab.ff ab.pre) r4 p4
def orD:Op2:=intD λi j=>.ok (.int (Builtin.bitOr i j))
theorem HL:gI C (rI0 λi j=>.int (Builtin.bitOr i j)) orD:=vK λ_ _ _ _ _ _=>bH.mpr rfl
def Cu(mo me:EM):EM:=λs=>(mo s).bind λx=>match ke x.2.o x.1 with
 | some _=>(me x.2).bind λy=>match y.1,ke y.2.o x.1 with
  | .int i,lH (k,ds)=>if -(2^63)<=i/\i<2^63 then (match seqIndex? i ds.length with
   | some j=>match ds[j]? with
    | some d=>.ok (d,#[y.2.r,y.2.o.set k (.lst (ds.eraseIdx j))])
    | none=>.bad
   | none=>.bad) else .bad
  | _,_=>.bad
 | none=>.bad
theorem aH.erase{K:qh}{ca:Nat->pc}{θ:List pc}{F:Hp}:∀{ds:List D} {xs:List V} (i:Nat),aH K ca θ F ds xs->aH K ca θ F (ds.eraseIdx i) (xs.eraseIdx i)
 | [],_,_,k=>by unfold aH at k;rw[k];exact aH.nil
 | _::_,_,0,k=>by unfold aH at k;obtain⟨v,r,rfl,h1,h2⟩:=k;exact h2
 | _::_,_,i+1,k=>by unfold aH at k;obtain⟨v,r,rfl,h1,h2⟩:=k;exact aH.cons h1 (aH.erase i h2)
theorem NZ(ho:RdE C to mo)(he:RdE C te me):RdE C (tBM C.K "list" HX to (mj te p7)) (Cu mo me):=by intro σ H F θ s Q b p;refine ho σ H F θ s _ b (PoR.bind p ?_);rintro ⟨x,s1⟩ H1 F1 θ1 _ az p1 b1 v r1;dsimp only at p1 b1 r1;split at p1;rename_i kd e;obtain⟨rfl,e'⟩:=pX (k:=kd.1) (ds:=kd.2) e;obtain⟨a,xs,rfl,hk,_,h1,_⟩:=mQ b1 r1 e';refine#[.inl #[rfl,xs,SqL.of h1],he σ H1 F1 θ1 s1 _ b1 (PoR.bind p1 ?_)];rintro ⟨y,s2⟩ H2 F2 θ2 _ Y p2 b2 w r2;dsimp only at p2 b2 r2;split at p2;rename_i i k ds e2 _;obtain⟨ek,e2⟩:=pX e2;cases ek;obtain⟨a',ys,ea,al,hF,h2,hr⟩:=mQ b2 (r1.mono Y.ff Y.pre) e2;cases ea;split at p2;rename_i hl;split at p2;rename_i j hj;split at p2;rename_i d hd;obtain⟨u,hu,ru⟩:=hr.get hd;obtain⟨U,b3⟩:=b2.setC al e2 hF (hr.erase j);rw[bH.mp r2];exact#[a,ys,i,j,u,rfl,rfl,h2,hl.1,hl.2,by rw[hr.length];exact hj,hu,p2 _ _ _ U b3 _ (ru.mono U.ff U.pre)];exact pi p2;exact pi p2;exact pi p2;exact pi p2;exact pi p1
def bQ(n:Nat)(f:FM)(ma:AM):EM:=λs=>(ma s).bind λx=>if x.1.length=n then (match f x.1 x.2.o with
 | .ok (d,O1)=>.ok (d,#[x.2.r,O1])
 | _=>.bad) else .bad
theorem cv{f:FM}(ha:RdA C ta ma):RdE C (tG (spM C.K C.ca n f) [] E ta) (bQ n f ma):=by
 intro σ H F θ s Q b p;refine ha σ H F θ s _ b (PoR.bind p ?_);rintro ⟨x,s1⟩ H1 F1 θ1 _ ab p1 Y v r1;dsimp only at p1 Y r1 ⊢;split at p1;rename_i hp;rw[RT];refine#[F1,θ1,x,s1.o,Y.now,r1,hp, ?_];split at p1;rename_i d O1 e;rw[e];intro v H2 F2 θ2 U n2 rv;exact p1 H2 F2 θ2 U #[n2,Y.len,λi d e=>by obtain⟨v,h1,h2⟩:=Y.sl i d e;exact#[v,h1,h2.mono U.ff U.pre]] v rv
 exact pi p1;exact pi p1
def Gr(k:Int)(ds:List D):List D:=(ux k.toNat ds).flatten
def uP(fin:S->List D->Res (D×S))(ma:AM)(mk:EM):EM:=λs=>(ma s).bind λx=>if x.1.length<=16777216 then (mk x.2).bind λy=>match y.1 with
 | .int k=>if (-(2^63)<=k/\k<2^63)/\x.1.length*k.toNat<=16777216 then fin y.2 (Gr k x.1) else .bad
 | _=>.bad
 else .bad
def PD:S->List D->Res (D×S):=λs ds=>.ok (.lst ds,s)
def n8:S->List D->Res (D×S):=λs ds=>.ok (.ptr s.o.length,#[s.r,s.o++[.lst ds]])
theorem DR{K ca θ F}{ds:List D}{xs:List V}(r:aH K ca θ F ds xs):∀k:Nat,aH K ca θ F (ux k ds).flatten (ux k xs).flatten
 | 0=>aH.nil
 | k+1=>by rw[Rr,Rr,R1,R1];exact r.append (DR r k)
theorem N9 {fin:S->List D->Res (D×S)} {tk:TE} {mk:EM} (ha:RdA C ta ma) (hk:RdE C tk mk)
 (hf:∀σ H F θ s ds xs Q,BS C.K C.ca σ H F θ s->aH C.K C.ca θ F ds xs->PoE C σ H F θ (fin s ds) Q->∀q,H q=na->Q (.ref q) (upd H q (.lst xs))):RdE C (tOp JA (CV ta) tk) (uP fin ma mk):=by
 intro σ H F θ s Q b p;refine ha σ H F θ s _ b (PoR.bind p ?_);rintro ⟨x,s1⟩ H1 F1 θ1 _ ac p1 b1 v r1;dsimp only at p1;split at p1;rename_i hl;refine#[by rw[r1.length];exact hl,λq hq=> ?_];obtain⟨st,b2,sF,e⟩:=b1.newF hq (.lst v);refine hk σ _ _ _ s1 _ b2 (PoR.bind (PoR.after st p1) ?_);rintro ⟨y,s2⟩ H2 F2 θ2 _ U p2 Y w r2;dsimp only at p2 r2;split at p2;rename_i k _;split at p2;rename_i hk;rw[bH.mp r2];refine#[q,k,v,rfl,rfl,Y.now.fh _ _ (U.ff _ _ e),hk.1.1,hk.1.2,by rw[r1.length];exact hk.2, ?_];exact hf σ H2 F2 θ2 s2 _ _ Q Y (DR (((r1.mono sF #[[],by simp]).mono U.ff U.pre)) k.toNat) p2;exact pi p2;exact pi p2;exact pi p1
theorem zG{tk:TE}{mk:EM}(ha:RdA C ta ma)(hk:RdE C tk mk):RdE C (tOp JA (CV ta) tk) (uP n8 ma mk):=N9 ha hk λσ H F θ s ds xs Q b r p=>vt p b r
def ve(m:EM):TM:=λs=>(m s).bind λx=>match lsD x.2.o x.1 with
 | some ds=>.ok (!ds.isEmpty,x.2)
 | none=>.bad
theorem HC(h:RdE C t m):RdT C (λσ H Q=>t σ H λx H'=>∃k,JO C.K x H' k/\Q k H') (ve m):=by
 intro σ H F θ s Q b p;refine h σ H F θ s _ b (PoR.bind p ?_);rintro ⟨x,s1⟩ H1 F1 θ1 _ Y p1 U v r1;dsimp only at p1 U r1;split at p1
 ·rename_i ds e;obtain⟨a,xs,rfl,hs,hr⟩:=fo U r1 e;refine#[!ds.isEmpty, ?_,p1 _ _ _ .refl U];refine qb #[xs,hs, ?_];have:=hr.length;cases ds <;> cases xs <;> first | rfl | (simp at this)
 exact pi p1
end
section
variable {C : Ct}
end
section
variable {C : Ct}
def GA(m:EM):EM:=λs=>(m s).bind λx=>match ke x.2.o x.1 with
 | some (k,ds)=>.ok (.lst ds,#[x.2.r,x.2.o.set k .dead])
 | none=>.ok x
theorem LN:GA m s=(m s).bind λx=>match ke x.2.o x.1 with
 | some (k,ds)=>.ok (.lst ds,#[x.2.r,x.2.o.set k .dead])
 | none=>.ok x:=rfl
theorem Mb(h:RdE C t m):RdE C t (GA m):=by intro σ H F θ s Q b p;refine h σ H F θ s _ b (PoR.bind p ?_);rintro ⟨x,s1⟩ H1 F1 θ1 _ ab p1 U v r1;dsimp only at p1 U r1;split at p1;rename_i k ds e;obtain⟨rfl,e'⟩:=pX e;obtain⟨a,xs,rfl,hk,hF,h1,h2⟩:=mQ U r1 e';obtain⟨Y,b2,r2⟩:=U.frz hk e' hF h1 h2;exact p1 _ _ _ Y b2 _ r2;exact p1 _ _ _ .refl U _ r1
end
section
variable {C : Ct}
def slS(me:EM)(ml mh:OM):EM:=λs=>(me s).bind λx=>(ml x.2).bind λl=>(mh l.2).bind λh=>match x.1 with
 | .str z=>if z.length<=16777216 then .ok (.str (kE z l.1 h.1),h.2) else .bad
 | _=>.bad
theorem C3(Y:RdE C te me)(hl:RdO C tl ml)(hh:RdO C th mh):RdE C (tSl LI te tl th) (slS me ml mh):=by intro σ H F θ s Q b p;refine Y σ H F θ s _ b (PoR.bind p ?_);rintro ⟨x,s1⟩ H1 F1 θ1 _ al p1 b1 v r1;refine hl σ H1 F1 θ1 s1 _ b1 (PoR.bind p1 ?_);rintro ⟨l,s2⟩ H2 F2 θ2 _ ap p2 b2;refine hh σ H2 F2 θ2 s2 _ b2 (PoR.bind p2 ?_);rintro ⟨h,s3⟩ H3 F3 az _ a0 U b3;dsimp only at U ⊢;split at U;rename_i z _;split at U;rename_i hz;exact#[z,cY.mp r1,by rw[SN];exact hz,U _ _ _ .refl b3 _ (cY.mpr rfl)];exact pi U;exact pi U
theorem Np:slS me ml mh s=(me s).bind λx=>(ml x.2).bind λl=>(mh l.2).bind λh=>match x.1 with
 | .str z=>if z.length<=16777216 then .ok (.str (kE z l.1 h.1),h.2) else .bad
 | _=>.bad:=rfl
end
section
variable {C : Ct}
def lP:List D->Option (List Str)
 | []=>lH []
 | .str z::r=>match lP r with
  | some zs=>lH (z::zs)
  | none=>na
 | _=>na
theorem vz:∀{ds:List D} {zs:List Str},lP ds=lH zs->ds=zs.map D.str
 | [],zs,h=>by cases h;rfl
 | d::ds,zs,h=>by
  cases d <;> first | (simp[lP] at h;done) | skip
  rename_i z;unfold lP at h;cases e:lP ds with
  | none=>rw[e] at h;cases h
  | some ys=>
   rw[e] at h;cases h;rw[vz e];rfl
theorem lY:∀zs:List Str,lP (zs.map D.str)=lH zs
 | []=>rfl
 | z::zs=>by rw[ww];unfold lP;rw[lY zs]
def inB(O:aA)(x y:D):Option Bool:=match x with
 | .str a=>match lsD O y with
  | some ds=>match lP ds with
   | some zs=>lH (zs.any (· == a))
   | none=>na
  | none=>na
 | .int a=>match lsD O y with
  | some ds=>match gW ds with
   | some zs=>lH (zs.any (· == a))
   | none=>na
  | none=>na
 | _=>na
def inD:Op2:=λO x y=>match inB O x y with
 | some b=>.ok (.bl b)
 | none=>.bad
def i3:Op2:=λO x y=>match inB O x y with
 | some b=>.ok (.bl (!b))
 | none=>.bad
theorem AE{K:qh}{ca:Nat->pc}{θ:List pc}{F:Hp}:∀{zs:List Str} {xs:List V},aH K ca θ F (zs.map D.str) xs->xs=zs.map V.str
 | [],xs,h=>by unfold aH at h;exact h
 | z::zs,xs,h=>by rw[ww] at h;unfold aH at h;obtain⟨v,r,rfl,h1,h2⟩:=h;rw[cY.mp h1,AE h2];rfl
theorem tj{K:qh}{ca:Nat->pc}{θ:List pc}{F:Hp}:∀{zs:List Int} {xs:List V},aH K ca θ F (zs.map D.int) xs->xs=zs.map V.int
 | [],xs,h=>by unfold aH at h;exact h
 | z::zs,xs,h=>by rw[ww] at h;unfold aH at h;obtain⟨v,r,rfl,h1,h2⟩:=h;rw[bH.mp h1,tj h2];rfl
theorem yu:∀{ds:List D} {zs:List Int},gW ds=lH zs->ds=zs.map D.int
 | [],zs,h=>by unfold gW at h;cases h;rfl
 | d::ds,zs,h=>by
  cases d <;> first | (simp[gW] at h;done) | skip
  rename_i z;unfold gW at h;cases e:gW ds with
  | none=>rw[e] at h;cases h
  | some ys=>
   rw[e] at h;cases h;rw[yu e];rfl
theorem FI{v w:V}{q:Bool}(b:BS C.K C.ca σ H F θ s)(U:Rep C.K C.ca θ F x v)(Y:Rep C.K C.ca θ F y w)(e:inB s.o x y=lH q):
 ∃p xs,w=.ref p/\SqL C.K H p xs/\nA v=on/\xs.all nA=on/\inV v xs=q:=by
 unfold inB at e;split at e;rename_i a;split at e;rename_i ds e1;split at e;rename_i zs e2;cases e;obtain⟨p,xs,rfl,hs,hr⟩:=fo b Y e1;rw[vz e2] at hr;have hx:=AE hr;subst hx;rw[cY.mp U];refine#[p,_,rfl,hs,rfl, ?_, ?_];rw[Uk,S4];intro z _;rfl;unfold inV;rw[VU];rfl;cases e;cases e;rename_i a;split at e;rename_i ds e1;split at e;rename_i zs e2;cases e;obtain⟨p,xs,rfl,hs,hr⟩:=fo b Y e1;rw[yu e2] at hr;have hx:=tj hr;subst hx;rw[bH.mp U];refine#[p,_,rfl,hs,rfl, ?_, ?_];rw[Uk,S4];intro z _;rfl;unfold inV;rw[VU];rfl;cases e;cases e;cases e
theorem sA:gI C (rIn C.K tt) inD:=by intro σ H F θ s x y v w Q b U Y p;unfold inD at p;split at p;rename_i q e;obtain⟨a,xs,rfl,h1,h2,h3,h4⟩:=FI b U Y e;exact#[a,xs,rfl,.inl h1,h2,h3,dB p b (cK.mpr (by rw[if_neg ∅,h4]))];exact pi p
theorem sX:gI C (rIn C.K on) i3:=by intro σ H F θ s x y v w Q b U Y p;unfold i3 at p;split at p;rename_i q e;obtain⟨a,xs,rfl,h1,h2,h3,h4⟩:=FI b U Y e;exact#[a,xs,rfl,.inl h1,h2,h3,dB p b (cK.mpr (by rw[if_pos rfl,h4]))];exact pi p
def qM(f:Str):List Str->List D->Option D
 | n::ns,d::ds=>if n=f then lH d else qM f ns ds
 | _,_=>na
theorem C6{K:qh}{ca:Nat->pc}{θ:List pc}{F:Hp}{f:Str}:∀{ns:List Str} {ds:List D} {xs:List V} {d:D},aH K ca θ F ds xs->qM f ns ds=lH d->∃v,(ns.zip xs).lookup f=lH v/\Rep K ca θ F d v
 | [],_,_,_,_,e=>by simp[qM] at e
 | _::_,[],_,_,_,e=>by simp[qM] at e
 | n::ns,d::ds,xs,d',h,e=>by unfold aH at h;obtain⟨v,r,rfl,h1,h2⟩:=h;unfold qM at e;rw[T7,Rt];by_cases hn:n=f;rw[if_pos hn] at e;cases e;subst hn;exact#[v,by simp,h1];rw[if_neg hn] at e;obtain⟨u,e1,e2⟩:=C6 h2 e;refine#[u, ?_,e2];rw[show (f == n)=tt by simpa using λz=>hn z.symm];exact e1
def pP(c:Nat)(f:Str)(me:EM):EM:=λs=>(me s).bind λx=>match x.1 with
 | .obj U ns ds=>if U=c then (match qM f ns ds with
  | some d=>.ok (d,x.2)
  | none=>.bad) else .bad
 | _=>.bad
theorem Ek{ta:TE}(hc:Cls C.K (C.ca c))(hn:fK C.K (C.ca c) f)(h:RdE C ta me):RdE C (Nf C.K ta f) (pP c f me):=by intro σ H F θ s Q b p;refine h σ H F θ s _ b (PoR.bind p ?_);rintro ⟨x,s1⟩ H1 F1 θ1 _ ab p1 U v r1;dsimp only at p1 U r1;split at p1;rename_i c' ns ds _;split at p1;rename_i Y;subst Y;split at p1;rename_i d e;unfold Rep at r1;obtain⟨a,dx,xs,rfl,ha,hl,hr⟩:=r1;obtain⟨u,e1,e2⟩:=C6 hr e;exact#[a,_,dx,_,u,rfl,U.now.fh _ _ ha,hc,hn,e1,p1 _ _ _ .refl U _ e2];exact pi p1;exact pi p1;exact pi p1
theorem Fn:pP c f me s=(me s).bind λx=>match x.1 with
 | .obj U ns ds=>if U=c then (match qM f ns ds with
  | some d=>.ok (d,x.2)
  | none=>.bad) else .bad
 | _=>.bad:=rfl
theorem lookup_none{f:Str}:∀{ns:List Str} {xs:List V},f∉ns->(ns.zip xs).lookup f=na
 | [],_,_=>rfl
 | _::_,[],_=>rfl
 | n::ns,x::xs,h=>by rw[T7,Rt,show (f == n)=tt by simpa using λz=>h (by simp[z])];exact lookup_none λz=>h (by simp[z])
theorem CY{f:Str}{y:V}:∀{ns:List Str} {xs:List V},ns.length=xs.length->f∉ns->ji f y (ns.zip xs)=(ns++[f]).zip (xs++[y])
 | [],[],_,_=>rfl
 | n::ns,x::xs,hl,h=>by rw[T7];unfold ji;rw[if_neg (λz=>h (by simp[z])),CY (by simpa using hl) λz=>h (by simp[z])];rfl
theorem BS.setI(b:BS K ca σ H F θ s){a dx:pc}{c:Cell}{cl:Nat}(hk:θ[k]? =lH a)(hc:s.o[k]? =lH c)(hF:F a=na)(hl:ns.length=xs.length)(hr:aH K ca θ F ds xs):
 Stp H F θ (upd H a (.ins (ca cl) dx (ns.zip xs))) F θ/\BS K ca σ (upd H a (.ins (ca cl) dx (ns.zip xs))) F θ #[s.r,s.o.set k (.ins cl ns ds)]:=by
 have hm:a∈θ:=IN hk;refine#[#[bS.refl _,#[[],by simp,by simp],λe o U hb=> ?_,λe o U=> ?_,λe o U=>.inl U],#[#[λe o U=> ?_,b.now.nd,by simpa using b.now.ln,λj a' c' e1 e2=> ?_],b.len,b.sl]];have ne:e≠a:=λz=>hb (by rw[z];exact hm);rw[aY ne];exact U;by_cases z:e=a;subst z;exact#[_,cH];exact#[o,by rw[aY z];exact U];have ne:e≠a:=λz=>by rw[z,hF] at U;cases U
 rw[aY ne];exact b.now.fh _ _ U;by_cases Y:k=j;subst Y;rw[hk] at e1;cases e1;have:k<s.o.length:=(xL.mp hc).1;rw[Rj this] at e2;cases e2;exact#[hF,dx,xs,cH,hl,hr];rw[Ro Y] at e2;have q:=b.now.ce j a' c' e1 e2;have ne:a'≠a:=λz=>by subst z;exact Y (tx b.now.nd hk e1)
 cases c' with
 | dead=>obtain⟨o,ho⟩:=q;exact#[o,by rw[aY ne];exact ho]
 | lst ds=>obtain⟨q1,ys,q2,q3⟩:=q;exact#[q1,ys,by rw[aY ne];exact q2,q3]
 | ins c ns ds=>obtain⟨q1,dx,ys,q2,q3⟩:=q;exact#[q1,dx,ys,by rw[aY ne];exact q2,q3]
def sU(c:Nat)(f:Str)(mo mv:EM):SM:=λs=>(mv s).out λy=>(mo y.2).out λx=>match x.1 with
 | .ptr k=>match x.2.o[k]? with
  | some (.ins c' ns ds)=>if c'=c/\f∉ns/\ns.length<1000 then .next #[x.2.r,x.2.o.set k (.ins c (ns++[f]) (ds++[y.1]))] else .bad
  | _=>.bad
 | _=>.bad
theorem JG{mo mv:EM}:sU c f mo mv s=(mv s).out λy=>(mo y.2).out λx=>match x.1 with
 | .ptr k=>match x.2.o[k]? with
  | some (.ins c' ns ds)=>if c'=c/\f∉ns/\ns.length<1000 then .next #[x.2.r,x.2.o.set k (.ins c (ns++[f]) (ds++[y.1]))] else .bad
  | _=>.bad
 | _=>.bad:=rfl
end
section
variable {C : Ct}
theorem Ab{ta tv:TE}{mo mv:EM}(hc:Cls C.K (C.ca c))(hn:fK C.K (C.ca c) f)(ho:RdE C ta mo)(hv:RdE C tv mv):RdS C (Og C.K ta tv f) (sU c f mo mv):=by
 intro σ H F θ s Q b p;unfold sU at p;refine hv σ H F θ s _ b (PoS.out p ?_);rintro ⟨y,s1⟩ H1 F1 θ1 _ as p1 b1 v r1;dsimp only at p1 b1 r1;refine ho σ H1 F1 θ1 s1 _ b1 (PoS.out p1 ?_);rintro ⟨x,s2⟩ H2 F2 θ2 _ U p2 b2 w r2;dsimp only at p2 b2 r2;split at p2;rename_i k _;split at p2;rename_i c' ns ds e;split at p2;rename_i hh;obtain⟨rfl,hf,hl⟩:=hh;unfold Rep at r2;obtain⟨a,rfl,hk⟩:=r2;obtain⟨h0,dx,xs,h1,h2,h3⟩:jM C.K C.ca H2 F2 θ2 a (.ins c' ns ds):=b2.now.ce k a _ hk e;have Y:(ns++[f]).length=(xs++[v]).length:=by simp[h2]
 obtain⟨ac,b3⟩:=b2.setI (dx:=dx) (cl:=c') (ns:=ns++[f]) hk e h0 Y (h3.append (aH.one (r1.mono U.ff U.pre)));refine#[a,_,dx,_,rfl,h1,hc,hn, ?_, ?_];rw[RU];omega;rw[CY h2 hf];exact p2 σ _ _ _ ac b3;exact pi p2;exact pi p2;exact pi p2
def yV(c n:Nat)(f:FM)(ma:AM):EM:=λs=>(ma s).bind λx=>if aR x.1=on/\x.1.length=n then (match f (.ptr 0::x.1) [.ins c [] []] with
 | .ok (.non,.ins c' ns ds::_)=>if c'=c/\aR ds=on then .ok (.obj c ns ds,x.2) else .bad
 | _=>.bad) else .bad
theorem Now.dies{x:pc}{r:List pc}(n:Now K ca H F (x::r) (.ins c ns ds::O)):
 ∃dx xs,H x=lH (.ins (ca c) dx (ns.zip xs))/\ns.length=xs.length/\aH K ca (x::r) F ds xs/\F x=na/\bS F (upd F x (.ins (ca c) dx (ns.zip xs)))/\Now K ca H (upd F x (.ins (ca c) dx (ns.zip xs))) (x::r) (.dead::O):=by
 obtain⟨h0,dx,xs,h1,h2,h3⟩:jM K ca H F (x::r) x (.ins c ns ds):=n.ce 0 x _ rfl rfl;have sF:bS F (upd F x (.ins (ca c) dx (ns.zip xs))):=λe o U=>by rw[aY (λz=>by rw[z,h0] at U;cases U)];exact U
 refine#[dx,xs,h1,h2,h3,h0,sF,#[λe o U=> ?_,n.nd,n.ln,λj Y c' e1 e2=> ?_]];by_cases z:e=x;subst z;rw[cH] at U;rw[h1];exact U;rw[aY z] at U;exact n.fh _ _ U;cases j with
 | zero=>
  cases e1;cases e2;exact#[_,h1]
 | succ j=>
  have q:=n.ce (j+1) Y c' e1 e2;have ne:Y≠x:=λz=>by subst z;have:=tx n.nd (show (Y::r)[0]? =lH Y from rfl) e1;omega
  cases c' with
  | dead=>exact q
  | lst ds=>obtain⟨q1,ys,q2,q3⟩:=q;exact#[by rw[aY ne];exact q1,ys,q2,q3.mono sF #[[],by simp]]
  | ins c ns ds=>obtain⟨q1,dx,ys,q2,q3,q4⟩:=q;exact#[by rw[aY ne];exact q1,dx,ys,q2,q3,q4.mono sF #[[],by simp]]
theorem MO{f:FM}(ha:RdA C ta ma):RdE C (Lp (C.ca c) (spM C.K C.ca (n+1) f) [] E ta) (yV c n f ma):=by
 intro σ H F θ s Q b p;refine ha σ H F θ s _ b (PoR.bind p ?_);rintro ⟨x,s1⟩ H1 F1 θ1 _ a3 p1 b1 v r1;dsimp only at p1 b1 r1 ⊢;split at p1;rename_i hp;split at p1;rename_i c' ns ds O1 e;split at p1;rename_i hh;obtain⟨rfl,an⟩:=hh;intro y dx hy ap a5;have nx:∀a u,H1 a=lH u->a≠y:=λa u e z=>by rw[z,hy] at e;cases e
 have nd:∀a u,H1 a=lH u->a≠dx:=λa u e z=>by rw[z,ap] at e;cases e
 have Fy:F1 y=none:=by
  cases eF:F1 y with
  | none=>rfl
  | some u=>rw[b1.now.fh y u eF] at hy;cases hy
 have up:∀a u,H1 a=lH u->upd (upd H1 dx (.own y)) y (.ins (C.ca c') dx []) a=lH u:=λa u e=>by rw[aY (nx a u e),aY (nd a u e)];exact e
 have dn:∀a,upd (upd H1 dx (.own y)) y (.ins (C.ca c') dx []) a=na->H1 a=none:=λa z=>by
  cases e:H1 a with
  | none=>rfl
  | some u=>rw[up a u e] at z;cases z
 rw[RT];refine#[F1,[y],.ptr 0::x,[.ins c' [] []],#[λa u e=>up a u (b1.now.fh a u e),by simp,rfl,λk a cc e1 e2=> ?_],aH.cons (by unfold Rep;exact#[y,rfl,rfl]) (r1.pure hp.1),by simp[hp.2], ?_];cases k with
 | zero=>
  cases e1;cases e2;exact#[Fy,dx,[],cH,rfl,aH.nil]
 | succ k=>simp at e1
 rw[e];intro w H2 F2 θ2 U n2 as;refine#[gx.mp as, ?_];obtain⟨r,rfl,hr⟩:=U.th;obtain⟨Y,xs,g1,g2,g3,g4,sF,n3⟩:=Now.dies n2;have az:Stp H1 F1 [] H2 (upd F2 y (.ins (C.ca c') Y (ns.zip xs))) (y::r):=by
  refine#[U.ff.trans sF,#[y::r,rfl,λa ha=> ?_],λa o h _=> ?_,λa o h=>U.al a o (up a o h),λa o h=> ?_];rcases vr.mp ha with rfl | z
  exact hy;exact dn a (hr a z);exact U.kp a o (up a o h) (by simpa using nx a o h);by_cases z:a=y;subst z;exact .inr (.inl hy);rw[aY z] at h;rcases U.nf a o h with q | q | q
  exact .inl q;exact .inr (.inl (dn a q));exact absurd (by simpa using q) z
 obtain⟨a0,b4⟩:=b1.called az n3;refine p1 H2 _ θ1 a0 b4 (.ref y) ?_;unfold Rep;exact#[y,Y,xs,rfl,cH,g2,aH.mono (θ:=θ1) sF #[[],by simp] (aH.pure an g3)];exact pi p1;exact pi p1;exact pi p1
theorem Ks{f:FM}{s s':S}{args ds:List D}(h:ma s=.ok (args,s'))(hp:aR args=on)(U:args.length=n)(Y:f (.ptr 0::args) [.ins c [] []]=.ok (.non,.ins c ns ds::O))(hd:aR ds=on):yV c n f ma s=.ok (.obj c ns ds,s'):=by unfold yV;rw[h,aj];dsimp only;rw[if_pos #[hp,U],Y];dsimp only;rw[if_pos #[rfl,hd]]
def methP(c:Nat)(m:Str)(n:Nat)(f:FM)(mo:EM)(ma:AM):EM:=λs=>(mo s).bind λx=>match x.1 with
 | .obj U ns ds=>if U=c/\m∉ns/\aR ds=on then (ma x.2).bind λy=>if aR y.1=on/\y.1.length=n then (match f (x.1::y.1) [] with
  | .ok (d,_)=>if cO d=on then .ok (d,y.2) else .bad
  | _=>.bad) else .bad else .bad
 | _=>.bad
theorem kK{m:Str}{f:FM}(ho:RdE C to mo)(ha:RdA C ta ma):RdE C (Hg (C.ca c) m (spM C.K C.ca (n+1) f) [] E to ta) (methP c m n f mo ma):=by
 intro σ H F θ s Q b p;refine ho σ H F θ s _ b (PoR.bind p ?_);rintro ⟨x,s1⟩ H1 F1 θ1 _ as p1 Y v r1;dsimp only at p1 Y r1 ⊢;split at p1;rename_i c' ns ds _;split at p1;rename_i hh;obtain⟨rfl,hm,ab⟩:=hh;obtain⟨a,dx,xs,rfl,h1,h2,h3⟩:∃a dx xs,v=.ref a/\F1 a=lH (.ins (C.ca c') dx (ns.zip xs))/\ns.length=xs.length/\aH C.K C.ca θ1 F1 ds xs:=by unfold Rep at r1;exact r1
 refine#[a,dx,_,rfl,Y.now.fh _ _ h1,lookup_none hm,ha σ H1 F1 θ1 s1 _ Y (PoR.bind p1 ?_)];rintro ⟨y,s2⟩ H2 F2 θ2 _ U p2 b2 w r2;dsimp only at p2 b2 r2 ⊢;split at p2;rename_i hp;rw[RT];refine#[F2,[],.obj c' ns ds::y,[],Now.nil b2.now.fh,aH.cons ((r1.mono U.ff U.pre).pure (by unfold cO;exact ab)) (r2.pure hp.1),by simp[hp.2], ?_];split at p2;rename_i d O1 e;rw[e];intro v H3 F3 a3 al n3 rv;obtain⟨am,b4⟩:=b2.called al n3;split at p2;rename_i hd;exact p2 H3 F3 _ am b4 v (rv.pure hd);exact pi p2;exact pi p2;exact pi p2;exact pi p1;exact pi p1
theorem Dm{m:Str}{f:FM}{s s1 s2:S}{ds args:List D}(U:mo s=.ok (.obj c ns ds,s1))(hm:m∉ns)(hd:aR ds=on)(ha:ma s1=.ok (args,s2))(hp:aR args=on)(Y:args.length=n)(hf:f (.obj c ns ds::args) []=.ok (d,O))(hr:cO d=on):
 methP c m n f mo ma s=.ok (d,s2):=by
 unfold methP;rw[U,aj];dsimp only;rw[if_pos #[rfl,hm,hd],ha,aj];dsimp only;rw[if_pos #[hp,Y],hf];dsimp only;rw[if_pos hr]
def MethAt(P:AC)(w:Db)(K:qh)(mg:Str->Option ol)(base:Gc)(ca:Nat->pc)(U:Nat)(C:pc)(x:Str)(ps:List Str)(f:FM):Prop:=
 ∃a fd,kb P w K mg base (CXE P w) U a fd ps (spM K ca ps.length f)/\Meth K C x a/\Binds K fd ps []
def Ni(P:AC)(w:Db)(K:qh)(mg:Str->Option ol)(base:Gc)(ca:Nat->pc)(U:Nat)(C:pc)(x:Str)(ps:List Str)(f:FM):Prop:=
 ∃a fd,kb P w K mg base (CXE P w) U a fd ps (spM K ca ps.length f)/\Mk K C a/\mg x=lH (.ref C)/\Binds K fd ps []
end
section
variable {K : qh} {ca : Nat → pc} {θ : List pc} {F G : Hp}
end
open Classical in
noncomputable def Q0 (F H:Hp)(θ:List pc):Hp:=λa=>if a∈θ then (match H a with
 | some (.lst xs)=>lH (.lst xs)
 | _=>F a) else F a
section
variable {C : Ct}
end
def clsAt(K:qh)(x:Str):Addr:=match No K mainGlobals x with
 | some (lH (.ref C))=>C
 | _=>0
section
variable {C : Ct}
def sZ:OpN:=λ_ xs=>match xs with
 | [.int i,.int j]=>.ok (.int (if j>i then j else i))
 | _=>.bad
theorem FY:lM C (λxs H Q=>∃i j,xs=[.int i,.int j]/\Q (.int (if j>i then j else i)) H) sZ:=by intro σ H F θ s xs vs Q b r p;unfold sZ at p;split at p;rename_i i j;exact#[i,j,yz r,dB p b (bH.mpr rfl)];exact pi p
end
section
variable {C : Ct} {Es : L2.St → XK}
end
theorem oS{P:AC}{w:Db}:Passes (CXE P w) X E0:=λ_ _ _ _ _ _ _ #[_,_,_,_,_,_,_,_,_,z]=>z.elim
section
variable {C : Ct}
end
def vY:D->Bool
 | .non=>on | .bl _=>on | .int _=>on | .str _=>on | .ptr _=>on | _=>tt
def Ca:Cell->Bool
 | .dead=>on
 | .lst ds=>ds.all vY
 | _=>tt
theorem Cp{F G:Hp}(h:vY d=on)(r:Rep K ca θ1 F d v):Rep K ca (θ++θ1) G (shD θ.length d) v:=by
 cases d with
 | non=>unfold shD;unfold Rep at r ⊢;exact r
 | bl b=>unfold shD;unfold Rep at r ⊢;exact r
 | int i=>unfold shD;unfold Rep at r ⊢;exact r
 | str z=>unfold shD;unfold Rep at r ⊢;exact r
 | ptr k=>
  unfold shD;unfold Rep at r ⊢;obtain⟨a,e,hk⟩:=r;exact#[a,e,by rw[wE (Uy _ _),R4];exact hk]
 | lst ds=>cases h
 | tup ds=>cases h
 | obj c ns ds=>cases h
 | exn c=>cases h
theorem BM{K:qh}{ca:Nat->pc}{F G:Hp}{θ θ1:List pc}:∀{ds:List D} {xs:List V},ds.all vY=on->aH K ca θ1 F ds xs->aH K ca (θ++θ1) G (eN θ.length ds) xs
 | [],_,_,h=>by unfold eN;unfold aH at h ⊢;exact h
 | d::ds,_,hf,h=>by rw[Tr,Rp] at hf;unfold eN;unfold aH at h ⊢;obtain⟨v,r,e,h1,h2⟩:=h;exact#[v,r,e,Cp hf.1 h1,BM hf.2 h2]
section
variable {C : Ct}
def yT(n:Nat)(f:FM)(ma:AM):EM:=λs=>(ma s).bind λx=>if aR (b8 x.2.o (b8 x.2.o x.1))=on/\x.1.length=n then (match f (b8 x.2.o (b8 x.2.o x.1)) [] with
 | .ok (d,O1)=>if vY d=on/\O1.all Ca=on then .ok (shD x.2.o.length d,#[x.2.r,x.2.o++O1.map (shC x.2.o.length)]) else .bad
 | _=>.bad) else .bad
theorem J1{f:FM}(ha:RdA C ta ma):RdE C (tG (spM C.K C.ca n f) [] E ta) (yT n f ma):=by
 intro σ H F θ s Q b p;refine ha σ H F θ s _ b (PoR.bind p ?_);rintro ⟨x,s1⟩ H1 F1 θ1 _ a0 p1 U v r1;dsimp only at p1 U r1 ⊢;split at p1;rename_i hp;rw[RT];have rr:aH C.K C.ca θ1 H1 (b8 s1.o (b8 s1.o x)) v:=kP U.now U.now.fh (bS.refl _) (kP U.now (bS.refl _) U.now.fh r1);refine#[H1,[],b8 s1.o (b8 s1.o x),[],Now.nil (bS.refl _),rr.pure hp.1,by rw[kr,kr];exact hp.2, ?_];split at p1;rename_i d O1 e;rw[e];intro v H2 F2 θ2 Y n2 rv;split at p1;rename_i sd;have kp:∀a o,H1 a=lH o->H2 a=lH o:=λa o h=>Y.kp a o h (by simp);obtain⟨r,er,hr⟩:=Y.th;rw[xz] at er;subst er;refine p1 H2 F1 (θ1++θ2) #[bS.refl _,#[θ2,rfl,hr],λa o h _=>kp a o h,Y.al,λa o h=>.inl h] #[#[λa o h=>kp a o (U.now.fh a o h),R0.mpr #[U.now.nd,n2.nd,λa ha x hx=> ?_],by simp[U.now.ln,n2.ln],λk a c e1 e2=> ?_],U.len,λi d e=> ?_] v ?_;rintro rfl;obtain⟨u,hu⟩:=U.now.there ha;rw[hr a hx] at hu;cases hu;by_cases hk:k<θ1.length;rw[wv hk] at e1;dsimp only at e2;rw[wv (by rw[<- U.now.ln];exact hk)] at e2;have w:=U.now.ce k a c e1 e2;cases c with
 | dead=>obtain⟨o,ho⟩:=w;exact#[o,kp a o ho]
 | lst ds=>obtain⟨q1,ys,q2,q3⟩:=w;exact#[q1,ys,kp _ _ q2,q3.mono (bS.refl _) #[θ2,rfl]]
 | ins c ns ds=>obtain⟨q1,dx,ys,q2,q3,q4⟩:=w;exact#[q1,dx,ys,kp _ _ q2,q3,q4.mono (bS.refl _) #[θ2,rfl]]
 rw[wE ⋯] at e1;dsimp only at e2;rw[wE (by rw[<- U.now.ln];omega),wP,<- U.now.ln] at e2;cases e3:O1[k-θ1.length]? with
 | none=>rw[e3] at e2;cases e2
 | some c'=>
  rw[e3] at e2;cases e2;have w:=n2.ce _ a c' e1 e3;have fc:Ca c'=true:=(S4.mp sd.2) c' (IN e3);have an:F1 a=none:=by
   cases ea:F1 a with
   | none=>rfl
   | some o=>
    have h1:=U.now.fh a o ea;have h2:=hr a (IN e1);rw[h2] at h1;cases h1
  cases c' with
  | dead=>exact w
  | lst ds=>obtain⟨q1,ys,q2,q3⟩:=w;exact#[an,ys,q2,BM fc q3]
  | ins c ns ds=>cases fc
 obtain⟨v,h1,h2⟩:=U.sl i d e;exact#[v,h1,h2.mono (bS.refl _) #[θ2,rfl]];rw[<- U.now.ln];exact Cp sd.1 rv;exact pi p1;exact pi p1;exact pi p1
end
section
variable {C : Ct}
theorem yH{K:qh}{ca:Nat->pc}{θ:List pc}{F:Hp}:∀{zs:List Str} {xs:List V},aH K ca θ F (zs.map D.str) xs->xs=zs.map V.str
 | [],xs,h=>by unfold aH at h;exact h
 | z::zs,xs,h=>by rw[ww] at h;unfold aH at h;obtain⟨v,r,rfl,h1,h2⟩:=h;rw[cY.mp h1,yH h2];rfl
theorem Kx{H H':Hp}(e:bS H H')(h:SqL K H a xs):SqL K H' a xs:=by rcases h with(h | ⟨o,h⟩) | h;exact .inl (.inl (e _ _ h));exact .inl (.inr #[o,e _ _ h]);exact .inr h
end
section
variable {C : Ct}
def Q4(f:Str->Str->Res D)(ms me:EM):EM:=λs=>(ms s).bind λx=>match x.1 with
 | .str z=>(me x.2).bind λy=>match y.1 with
  | .str c=>(f z c).bind λd=>.ok (d,y.2)
  | _=>.bad
 | _=>.bad
def JI(f:List Str->Str->Res D)(mo me:EM):EM:=λs=>(mo s).bind λx=>match x.1 with
 | .lst ds=>match lP ds with
  | some zs=>(me x.2).bind λy=>match y.1 with
   | .str c=>(f zs c).bind λd=>.ok (d,y.2)
   | _=>.bad
  | none=>.bad
 | _=>.bad
def DC:List Str->Str->Res D:=λzs c=>if zs.idxOf c<zs.length then .ok (.int (zs.idxOf c:Nat)) else .bad
def C1(mo me:EM):EM:=JI DC mo me
theorem OB {f:List Str->Str->Res D} {r:V->List V->Hp->VK->Prop} (ho:RdE C to mo) (he:RdE C te me)
 (hr:∀{σ:L2.St} {H F:Hp} {θ:List pc} {s:S} {a:pc} {zs:List Str} {c:Str} {Q:VK},BS C.K C.ca σ H F θ s->SqL C.K H a (zs.map V.str)->PoE C σ H F θ ((f zs c).bind λd=>.ok (d,s)) Q->r (.ref a) [.str c] H Q):
 RdE C (tBM C.K "list" r to (mj te p7)) (JI f mo me):=by
 intro σ H F θ s Q b p;refine ho σ H F θ s _ b (PoR.bind p ?_);rintro ⟨x,s1⟩ H1 F1 θ1 _ am p1 U v r1;dsimp only at p1 U r1;split at p1;rename_i ds _;split at p1;rename_i zs e;rw[vz e] at r1;unfold Rep at r1;obtain⟨a,xs,rfl,hs,hx⟩:=r1;rw[yH hx] at hs;refine#[.inl #[rfl,_,U.now.fh.seq hs],he σ H1 F1 θ1 s1 _ U (PoR.bind p1 ?_)];rintro ⟨y,s2⟩ H2 F2 θ2 _ Y p2 b2 w r2;dsimp only at p2 b2 r2;split at p2;rename_i c _;cases cY.mp r2;exact hr b2 (b2.now.fh.seq (Kx Y.ff hs)) p2;exact pi p2;exact pi p1;exact pi p1
theorem J9(U:RdE C to mo)(Y:RdE C te me):RdE C (tBM C.K "list" (Io C.K) to (mj te p7)) (C1 mo me):=OB U Y λ{σ H F θ s a zs c Q} b hs p=>by unfold DC at p;split at p;rename_i h;exact#[a,zs,c,rfl,rfl,hs,h,dB p b (bH.mpr rfl)];exact pi p
theorem NW(p:PoE C σ H F θ (.ok (D.tup ds,s)) Q)(b:BS C.K C.ca σ H F θ s)(r:aH C.K C.ca θ F ds xs):
 ∀q,H q=na->Q (.ref q) (upd H q (.tup xs)):=λq hq=>by
 obtain⟨st,U,Y,e⟩:=b.newF hq (.tup xs);refine p _ _ _ st U _ ?_;unfold Rep;exact#[q,xs,rfl,SqT.of e,r.mono Y #[[],by simp]]
def slT(me:EM)(ml mh:OM):EM:=λs=>(me s).bind λx=>(ml x.2).bind λl=>(mh l.2).bind λh=>match x.1 with
 | .tup ds=>if HT.sIx ds.length 0 l.1=0/\HT.sIx ds.length ds.length h.1=ds.length then .bad else .ok (.tup (cutD ds l.1 h.1),h.2)
 | _=>.bad
theorem Nv(he:RdE C te me)(hl:RdO C tl ml)(hh:RdO C th mh):RdE C (tSl (Oo C.K) te tl th) (slT me ml mh):=by intro σ H F θ s Q b p;refine he σ H F θ s _ b (PoR.bind p ?_);rintro ⟨x,s1⟩ H1 F1 θ1 _ as p1 b1 v r1;refine hl σ H1 F1 θ1 s1 _ b1 (PoR.bind p1 ?_);rintro ⟨l,s2⟩ H2 F2 θ2 _ Y p2 b2;refine hh σ H2 F2 θ2 s2 _ b2 (PoR.bind p2 ?_);rintro ⟨h,s3⟩ H3 F3 a2 _ ab U b3;dsimp only at U ⊢;split at U;rename_i ds _;split at U;exact pi U;rename_i hw;have r3:=(r1.mono Y.ff Y.pre).mono ab.ff ab.pre;unfold Rep at r3;obtain⟨a,xs,rfl,hs,hx⟩:=r3;refine#[a,xs,rfl,bS.seqT b3.now.fh hs,by rw[hx.length];exact hw, ?_];exact NW U b3 (zW hx);exact pi U
end
section
variable {C : Ct}
def pE:List D->Option (List Int)
 | []=>lH []
 | .int i::r=>match pE r with
  | some l=>lH (i::l)
  | none=>na
 | _=>na
theorem BI:∀{ds:List D} {ns:List Int},pE ds=lH ns->ds=ns.map D.int
 | [],ns,h=>by cases h;rfl
 | d::ds,ns,h=>by
  cases d <;> first | (simp[pE] at h;done) | skip
  rename_i i;unfold pE at h;split at h;rename_i l e;cases h;rw[BI e];rfl;cases h
theorem zo:∀ns:List Int,pE (ns.map D.int)=lH ns
 | []=>rfl
 | n::ns=>by rw[ww];unfold pE;rw[zo ns]
def zk(O:aA)(d:D):Option (List Int):=match lsD O d with
 | some ds=>pE ds
 | none=>na
theorem Ir{ns:List Int}(b:BS C.K C.ca σ H F θ s)(r:Rep C.K C.ca θ F d v)(e:zk s.o d=lH ns):∃a,v=.ref a/\SqL C.K H a (ns.map V.int):=by unfold zk at e;split at e;rename_i ds U;obtain⟨a,xs,rfl,hs,hr⟩:=fo b r U;rw[BI e] at hr;rw[tj hr] at hs;exact#[a,rfl,hs];cases e
def keyed(O:aA):List D->Option (List (D×List Int))
 | []=>lH []
 | d::ds=>match zk O d,keyed O ds with
  | some ns,lH r=>lH ((d,ns)::r)
  | _,_=>na
theorem AD{σ:L2.St}{H F:Hp}{θ:List pc}{s:S}(b:BS C.K C.ca σ H F θ s):∀{ds:List D} {Y:List (D×List Int)} {xs:List V},keyed s.o ds=lH Y->aH C.K C.ca θ F ds xs->
 ∃U:List ((pc×D)×List Int),Y=U.map (λx=>(x.1.2,x.2))/\xs=U.map (λx=>V.ref x.1.1)/\∀x∈U,SqL C.K H x.1.1 (x.2.map V.int)/\Rep C.K C.ca θ F x.1.2 (.ref x.1.1)
 | [],Y,xs,e,r=>by cases e;unfold aH at r;subst r;exact#[[],rfl,rfl,λx hx=>by cases hx]
 | d::ds,Y,xs,e,r=>by
  unfold keyed at e;split at e;rename_i ns k2 e1 e2;cases e;unfold aH at r;obtain⟨v,ab,rfl,h1,h2⟩:=r;obtain⟨a,rfl,hs⟩:=Ir b h1 e1;obtain⟨U,q1,q2,q3⟩:=AD b e2 h2;refine#[((a,d),ns)::U,by rw[q1];rfl,by rw[q2];rfl,λx hx=> ?_];rcases vr.mp hx with rfl | hx
  exact#[hs,h1];exact q3 x hx;cases e
theorem FR{K:qh}{ca:Nat->pc}{θ:List pc}{F:Hp}:∀{U:List ((pc×D)×List Int)},(∀x∈U,Rep K ca θ F x.1.2 (.ref x.1.1))->aH K ca θ F (U.map λx=>x.1.2) (U.map λx=>V.ref x.1.1)
 | [],_=>aH.nil
 | x::U,h=>aH.cons (h x sH) (FR λy hy=>h y (sB _ hy))
def wA(fin:S->List D->Res (D×S))(me:EM):EM:=λs=>(me s).bind λx=>match lsD x.2.o x.1 with
 | some ds=>match keyed x.2.o ds with
  | some U=>if U.length<64/\(U.map (·.2)).Nodup then fin x.2 ((d9 U).map (·.1)) else .bad
  | none=>.bad
 | none=>.bad
theorem Mf {fin:S->List D->Res (D×S)} (he:RdE C te me)
 (hf:∀σ H F θ s ds xs Q,BS C.K C.ca σ H F θ s->aH C.K C.ca θ F ds xs->PoE C σ H F θ (fin s ds) Q->∀q,H q=na->Q (.ref q) (upd H q (.lst xs))):RdE C (tCB (yf C.K) (mj te p7)) (wA fin me):=by
 intro σ H F θ s Q b p;refine he σ H F θ s _ b (PoR.bind p ?_);rintro ⟨x,s1⟩ H1 F1 θ1 _ am p1 U v r1;dsimp only at p1 U r1;split at p1;rename_i ds el;split at p1;rename_i kd ek;split at p1;rename_i hc;obtain⟨a,xs,rfl,hs,hr⟩:=fo U r1 el;obtain⟨Y,rfl,rfl,q3⟩:=AD U ek hr;have n1:∀l:List ((pc×D)×List Int),d9 (l.map λx=>(x.1.1,x.2))=(d9 l).map λx=>(x.1.1,x.2):=nH λ_=>rfl;have n2:∀l:List ((pc×D)×List Int),d9 (l.map λx=>(x.1.2,x.2))=(d9 l).map λx=>(x.1.2,x.2):=nH λ_=>rfl;refine#[a,Y.map λx=>(x.1.1,x.2),rfl,by rw[wh];exact hs,λy hy=> ?_,by have:=hc.1;rw[ss] at this ⊢;exact this,by have:=hc.2;rw[wh] at this ⊢;exact this, ?_];obtain⟨x,hx,rfl⟩:=pr.mp hy;exact(q3 x hx).1;rw[n2,wh] at p1;rw[n1,wh];exact hf σ H1 F1 θ1 s1 _ _ Q U (FR λx hx=>(q3 x ((gT Y).mem_iff.mp hx)).2) p1;exact pi p1;exact pi p1;exact pi p1
theorem KH(U:RdE C te me):RdE C (tCB (yf C.K) (mj te p7)) (wA n8 me):=Mf U λσ H F θ s ds xs Q b r p=>vt p b r
end
section
variable {C : Ct}
end
section
variable {C : Ct}
abbrev IX:=S->Res ((List D×(aA->Prop))×S)
def Kw(C:Ct)(wi:TI)(im:IX):Prop:=∀σ H F θ s R,BS C.K C.ca σ H F θ s->
 PoR C H F θ (im s) (λy H1 F1 θ1=>BS C.K C.ca σ H1 F1 θ1 y.2->∀J,uN C J y.1.1 y.1.2 H1 F1 θ1->R J H1)->wi σ H R
theorem lsN{H F H2 U:Hp}{θ θ2:List pc}{Y:aA}(st:Stp H F θ H2 U θ2)(n:Now C.K C.ca H2 U θ2 Y)(r:Rep C.K C.ca θ F x v)(e:lsD Y x=lH ds):∃a xs,v=.ref a/\SqL C.K H2 a xs/\aH C.K C.ca θ2 U ds xs:=by
 replace r:=r.mono st.ff st.pre;cases x <;> first | (simp[lsD] at e;done) | skip
 cases e;unfold Rep at r;obtain⟨a,xs,rfl,hs,hr⟩:=r;exact#[a,xs,rfl,n.fh.seq hs,hr];rename_i k;unfold Rep at r;obtain⟨a,rfl,hk⟩:=r;unfold lsD at e;dsimp only at e;split at e;rename_i ab ek;cases e;obtain⟨_,xs,h1,h2⟩:jM C.K C.ca H2 U θ2 a (.lst ds):=n.ce k a _ hk ek;exact#[a,xs,rfl,SqL.of h1,h2];cases e
def CU(m:AM):IX:=λs=>(m s).bind λx=>match x.1 with
 | [a,b]=>match lsD x.2.o a,lsD x.2.o b with
  | some as,lH bs=>.ok ((fX as bs,λO=>lsD O a=lH as/\lsD O b=lH bs),x.2)
  | _,_=>.bad
 | _=>.bad
theorem MR{a b:pc}{as bs:List D}{H F:Hp}(r1:Rep C.K C.ca θ F x (.ref a))(r2:Rep C.K C.ca θ F y (.ref b)):
 uN C (Itz C.K a b) (fX as bs) (λO=>lsD O x=lH as/\lsD O y=lH bs) H F θ where
 go:=λi H2 F2 θ2 O2 hi st n ok=>by obtain⟨_,_,e1,e2,_⟩:=sG (sn hi);obtain⟨_,xs,q,h1,k1⟩:=lsN st n r1 ok.1;cases q;obtain⟨_,ys,q,h2,k2⟩:=lsN st n r2 ok.2;cases q;obtain⟨v,q1,_⟩:=k1.get e1;obtain⟨w,q2,_⟩:=k2.get e2;exact#[xs,ys,v,w,h1,h2,q1,q2]
 yl:=λi d σ H2 F2 θ2 s2 z H3 hd st b ok hy=>by obtain⟨T,v,w,hT,rfl,rfl,hv,hw⟩:=hy;obtain⟨_,_,e1,e2,rfl⟩:=sG hd;obtain⟨_,xs,q,h1,k1⟩:=lsN st b.now r1 ok.1;cases q;obtain⟨_,ys,q,h2,k2⟩:=lsN st b.now r2 ok.2;cases q;obtain⟨v',q1,k1⟩:=k1.get e1;obtain⟨w',q2,k2⟩:=k2.get e2;have:=hv xs h1;rw[q1] at this;cases this;have:=hw ys h2;rw[q2] at this;cases this;obtain⟨st3,b3,sF,e3⟩:=b.newF hT (.tup [v,w]);refine#[_,st3,b3, ?_];unfold Rep;exact#[T,[v,w],rfl,SqT.of e3,aH.cons (k1.mono st3.ff st3.pre) (aH.one (k2.mono st3.ff st3.pre))]
 st:=λi H2 F2 θ2 O2 hi st n ok=>by obtain⟨_,xs,q,h1,k1⟩:=lsN st n r1 ok.1;cases q;obtain⟨_,ys,q,h2,k2⟩:=lsN st n r2 ok.2;cases q;refine#[xs,ys,h1,h2, ?_];unfold fX at hi;rw[RL] at hi;rw[k1.length,k2.length];omega
theorem Me{m:AM}(h:RdA C ta m):Kw C (JX C.K ta) (CU m):=by intro σ H F θ s R b p;refine h σ H F θ s _ b (PoR.bind p ?_);rintro ⟨x,s1⟩ H1 F1 θ1 _ al p1 U v r1;dsimp only at p1 U r1;split at p1;rename_i x y;split at p1;rename_i as bs e1 e2;obtain⟨v1,v2,rfl,k1,k2⟩:=Ld r1;obtain⟨a,xs,rfl,hs,hr⟩:=fo U k1 e1;obtain⟨b',ys,rfl,Y,an⟩:=fo U k2 e2;exact#[a,b',rfl,#[xs,hs],#[ys,Y],p1 _ _ _ .refl U _ (MR k1 k2)];exact pi p1;exact pi p1
noncomputable def zA (m:Nat)(caps:List Nat)(im:IX)(g:GM)(c:TM)(e:EM):S->Res (List D×S):=λs=>(im s).bind λy=>
 (dI y.1.2 g c e y.1.1 [] #[mW m caps y.2.r,y.2.o]).bind λz=>.ok (z.1,#[y.2.r,z.2.o])
theorem Ii {m:Nat} {caps:List Nat} {im:IX} {c:TM} (hi:Kw C wi im) (hg:RdG C g gm) (hc:RdT C tc c) (he:RdE C te e)
 {σ:L2.St} {H F:Hp} {θ:List pc} {s:S} {Q:VK} (b:BS C.K C.ca σ H F θ s)
 (p:PoR C H F θ (zA m caps im gm c e s) λy H1 F1 θ1=>BS C.K C.ca σ H1 F1 θ1 y.2->∀q xs,H q=na->H1 q=lH (.lst xs)->F1 q=na->q∉θ1->aH C.K C.ca θ1 F1 y.1 xs->Q (.ref q) H1):sO m caps wi g tc te σ H Q:=by
 refine hi σ H F θ s _ b (PoR.bind p ?_);rintro ⟨⟨ds,k⟩,s1⟩ H1 F1 θ1 _ cr p1 b1 J it q hq;dsimp only at p1 b1 it;have cs:Stp H1 F1 θ1 (upd H1 q (.lst [])) F1 θ1:=by
  have nm:∀a u,H1 a=lH u->a≠q:=λa u e z=>by rw[z,hq] at e;cases e
  exact#[bS.refl _,#[[],by simp,by simp],λa u h _=>by rw[aY (nm a u h)];exact h,λa u h=>#[u,by rw[aY (nm a u h)];exact h],λa u h=>.inl h]
 have ci:q∉θ1:=λh=>by obtain⟨u,hu⟩:=b1.now.there h;rw[hq] at hu;cases hu
 have qF:F1 q=none:=by
  cases e:F1 q with
  | none=>rfl
  | some u=>rw[b1.now.fh q u e] at hq;cases hq
 have cu:H q=none:=by
  cases e:H q with
  | none=>rfl
  | some u=>obtain⟨u',e'⟩:=cr.al q u e;rw[hq] at e';cases e'
 have keep:∀{H2 F2 H3 F3:Hp} {θ2 b2:List pc} {o:HO},Stp H2 F2 θ2 H3 F3 b2->H2 q=lH o->F2 q=na->q∉θ2->H3 q=lH o/\F3 q=na/\q∉b2:=λ{H2 F2 H3 F3 θ2 b2 o} st h1 h2 h3=>by
  refine#[st.kp q o h1 h3, ?_, ?_];cases e:F3 q with
  | none=>rfl
  | some u=>
   rcases st.nf q u e with z | z | z;rw[h2] at z;cases z;rw[h1] at z;cases z;exact absurd z h3
  obtain⟨r,rfl,hr⟩:=st.th;intro hm;rcases wn.mp hm with z | z
  exact h3 z;rw[hr q z] at h1;cases h1
 have cm:∀{am:L2.St} {H2 F2:Hp} {θ2:List pc} {s2:S} (o:HO),BS C.K C.ca am H2 F2 θ2 s2->F2 q=na->q∉θ2->BS C.K C.ca am (upd H2 q o) F2 θ2 s2:=λ{am H2 F2 θ2 s2} o b h1 h2=>by
  have ne:∀a,a∈θ2->a≠q:=λa h z=>h2 (z▸h);refine#[#[λa u h=> ?_,b.now.nd,b.now.ln,λj a c e1 e2=> ?_],b.len,b.sl];have:a≠q:=λz=>by rw[z,h1] at h;cases h
  rw[aY this];exact b.now.fh a u h;have hm:=ne a (IN e1);have w:=b.now.ce j a c e1 e2;cases c with
  | dead=>obtain⟨u,hu⟩:=w;exact#[u,by rw[aY hm];exact hu]
  | lst ds=>obtain⟨q1,ys,q2,q3⟩:=w;exact#[q1,ys,by rw[aY hm];exact q2,q3]
  | ins c ns ds=>obtain⟨q1,dx,ys,q2,q3,q4⟩:=w;exact#[q1,dx,ys,by rw[aY hm];exact q2,q3,q4]
 have cB:∀{H2 F2:Hp} {θ2:List pc} (o:HO),Stp H1 F1 θ1 H2 F2 θ2->Stp H1 F1 θ1 (upd H2 q o) F2 θ2:=λ{H2 F2 θ2} o st=>by
  have nm:∀a u,H1 a=lH u->a≠q:=λa u e z=>by rw[z,hq] at e;cases e
  exact#[st.ff,st.th,λa u h1 h2=>by rw[aY (nm a u h1)];exact st.kp a u h1 h2,λa u h1=>by rw[aY (nm a u h1)];exact st.al a u h1,st.nf]
 refine#[λi n Y am H'=>n=ds.length-i/\i<=ds.length/\∃F' U s' as,Stp H1 F1 θ1 H' F' U/\H' q=lH (.lst Y)/\F' q=na/\q∉U/\BS C.K C.ca am H' F' U s'/\aH C.K C.ca U F' as Y/\
  PoR C H1 F1 θ1 ((dI (k) gm c e (ds.drop i) as s').bind λz=>.ok (z.1,(#[s1.r,z.2.o]:S))) (λy H1 F1 θ1=>BS C.K C.ca σ H1 F1 θ1 y.2->∀q xs,H q=na->H1 q=lH (.lst xs)->F1 q=na->q∉θ1->aH C.K C.ca θ1 F1 y.1 xs->Q (.ref q) H1),
  #[ds.length,by simp,Rb _,F1,θ1,#[mW m caps s1.r,s1.o],[],cs,cH,qF,ci,cm _ (IF b1 m caps) qF ci,aH.nil,by simpa using p1], ?_]
 rintro i n Y am H' ⟨rfl,ec,F',U,s',as,st,hq',cn,bp,bs,bb,po⟩;by_cases lt:i<ds.length;right;rw[Ri lt,dI] at po;split at po;rename_i bd;refine#[it.go i H' F' U s'.o lt st bs.now bd.1, ?_];intro x H3 hy;obtain⟨F3,bi,b3,rp⟩:=it.yl i ds[i] am H' F' U s' x H3 (sn lt) st bs bd.1 hy;obtain⟨k1,k2,k3⟩:=keep bi hq' cn bp;have an:=st.trans bi;have bm:=PoR.after an po;have w1:PoG C H3 F3 U (gm ds[i] s') (λap H4=>tc ap H4 λb H4=>if b=on then
  te ap H4 λy H5=>H5 q=lH (.lst Y)/\Y.length<sizeLine/\∃k',k'<ds.length-i/\(k'=ds.length-(i+1)/\i+1<=ds.length/\∃F' U s' as,Stp H1 F1 θ1 (upd H5 q (.lst (Y++[y]))) F' U/\(upd H5 q (.lst (Y++[y]))) q=lH (.lst (Y++[y]))/\F' q=na/\q∉U/\BS C.K C.ca ap (upd H5 q (.lst (Y++[y]))) F' U s'/\aH C.K C.ca U F' as (Y++[y])/\
   PoR C H1 F1 θ1 ((dI (k) gm c e (ds.drop (i+1)) as s').bind λz=>.ok (z.1,(#[s1.r,z.2.o]:S))) (λy H1 F1 θ1=>BS C.K C.ca σ H1 F1 θ1 y.2->∀q xs,H q=na->H1 q=lH (.lst xs)->F1 q=na->q∉θ1->aH C.K C.ca θ1 F1 y.1 xs->Q (.ref q) H1))
  else ∃k',k'<ds.length-i/\(k'=ds.length-(i+1)/\i+1<=ds.length/\∃F' U s' as,Stp H1 F1 θ1 H4 F' U/\H4 q=lH (.lst Y)/\F' q=na/\q∉U/\BS C.K C.ca ap H4 F' U s'/\aH C.K C.ca U F' as Y/\
   PoR C H1 F1 θ1 ((dI (k) gm c e (ds.drop (i+1)) as s').bind λz=>.ok (z.1,(#[s1.r,z.2.o]:S))) (λy H1 F1 θ1=>BS C.K C.ca σ H1 F1 θ1 y.2->∀q xs,H q=na->H1 q=lH (.lst xs)->F1 q=na->q∉θ1->aH C.K C.ca θ1 F1 y.1 xs->Q (.ref q) H1))):=by
  cases e1:gm ds[i] s' with
  | bad=>rw[e1] at bm;exact bm
  | exc a1 a2 a3=>rw[e1] at bm;exact bm
  | ok s4=>
   rw[e1] at po;intro H4 F4 cI az ap b4;obtain⟨l1,l2,l3⟩:=keep az k1 k2 k3;refine hc ap H4 F4 cI s4 _ b4 ?_;cases e2:c s4 with
   | bad=>rw[aj,e2] at po;exact po
   | exc a1 a2 a3=>rw[aj,e2] at po;exact PoR.after (an.trans az) po
   | ok x5=>
    obtain⟨kk,s5⟩:=x5;rw[aj,e2,aj] at po;intro H5 F5 cp a0 b5;obtain⟨m1,m2,m3⟩:=keep a0 l1 l2 l3;have be:=((bb.mono bi.ff bi.pre).mono az.ff az.pre).mono a0.ff a0.pre;cases kk with
    | false=>
     exact vT #[ds.length-(i+1),⋯,rfl,⋯,F5,cp,s5,as,an.trans (az.trans a0),m1,m2,m3,b5,be,by simpa using po]
    | true=>
     refine uK (he ap H5 F5 cp s5 _ b5 ?_);dsimp only[if_true] at po;cases e3:e s5 with
     | bad=>rw[e3] at po;exact po
     | exc a1 a2 a3=>rw[e3] at po;exact PoR.after (an.trans (az.trans a0)) po
     | ok x6=>
      obtain⟨y,s6⟩:=x6;rw[e3,aj] at po;intro H6 F6 c1 bn b6 w r6;obtain⟨n1,n2,n3⟩:=keep bn m1 m2 m3;exact#[n1,by rw[bb.length];exact bd.2,ds.length-(i+1),⋯,rfl,⋯,F6,c1,s6,as++[y],cB _ (an.trans (az.trans (a0.trans bn))),cH,n2,n3,cm _ b6 n2 n3,(be.mono bn.ff bn.pre).append (aH.one r6),po]
 exact hg am H3 F3 U s' ds[i] x _ b3 rp w1;exact pi po;left;rw[SK ⋯,dI] at po;split at po;rename_i bd;refine#[it.st i H' F' U s'.o ⋯ st bs.now bd,hq', ?_];refine po H' F' U st #[bs.now,b1.len,λj d e=> ?_] q Y cu hq' cn bp bb;obtain⟨v,h1,h2⟩:=b1.sl j d e;exact#[v,h1,h2.mono st.ff st.pre];exact pi po
noncomputable def uF (m:Nat)(caps:List Nat)(im:IX)(g:GM)(c:TM)(e:EM):EM:=λs=>(zA m caps im g c e s).bind λy=>.ok (.lst y.1,y.2)
theorem Ja{m:Nat}{im:IX}{c:TM}(hi:Kw C wi im)(hg:RdG C g gm)(hc:RdT C tc c)(he:RdE C te e):RdE C (sO m caps wi g tc te) (uF m caps im gm c e):=by
 intro σ H F θ s Q b p;refine Ii hi hg hc he b ?_;unfold uF at p;cases e1:zA m caps im gm c e s with
 | bad=>rw[e1] at p;exact p
 | exc a1 a2 a3=>rw[e1] at p;exact p
 | ok y=>
  rw[e1,aj] at p;intro H1 F1 θ1 U Y q xs h0 h1 h2 h3 hr;have sF:bS F1 (upd F1 q (.lst xs)):=λa u h=>by rw[aY (λz=>by rw[z,h2] at h;cases h)];exact h
  refine p H1 (upd F1 q (.lst xs)) θ1 #[U.ff.trans sF,U.th,U.kp,U.al,λa u h=> ?_] #[#[λa u h=> ?_,Y.now.nd,Y.now.ln,λj a c e2 e3=> ?_],Y.len,λi d e2=> ?_] (.ref q) ?_;by_cases z:a=q;subst z;exact .inr (.inl h0);rw[aY z] at h;exact U.nf a u h;by_cases z:a=q;subst z;rw[cH] at h;rw[h1];exact h;rw[aY z] at h;exact Y.now.fh a u h;have ne:a≠q:=λz=>h3 (z▸IN e2);have w:=Y.now.ce j a c e2 e3;cases c with
  | dead=>exact w
  | lst ds=>obtain⟨q1,ys,q2,q3⟩:=w;exact#[by rw[aY ne];exact q1,ys,q2,q3.mono sF #[[],by simp]]
  | ins c ns ds=>obtain⟨q1,dx,ys,q2,q3,q4⟩:=w;exact#[by rw[aY ne];exact q1,dx,ys,q2,q3,q4.mono sF #[[],by simp]]
  obtain⟨v,w1,w2⟩:=Y.sl i d e2;exact#[v,w1,w2.mono sF #[[],by simp]];unfold Rep;exact#[q,xs,rfl,SqL.of cH,hr.mono sF #[[],by simp]]
end
section
variable {C : Ct}
end
end M
namespace L2
open PySem PySem.Spec PyProof.Rows
structure Pg(k:Nat)(A:KE):Prop where
 dp:A.depth+3*k+5<recursionLimit
 un:A.units+16*k+200<cLine
structure Q1(P:AC)(w:Db)(K:qh)(mg:Str->Option ol)(base:Gc)(CX:CXT)(k:Nat)(f:pc)(fd:RB)(ps:List Str)(sp:Sp):Prop where
 len:∀vs H Q E,sp vs H Q E->vs.length=ps.length
 run:∀(A:KE) (outer:List Env) (s:r0) (H:Hp) (args:Args) (us:List ol) (vs:List V) (Q:VK) (E:XK),Pg k A->uG P w K mg base A outer s H->TY s fd args (ps.zip us)->Vals vs us->sp vs H Q E->
  codeAny (model P w) A (.call (.ref f) args) (CR CX outer P w H s Q E) s
section
variable {X : Cx} {CX : CXT} {k : Nat} {f C : pc} {fd : RB} {ps : List Str} {sp : Sp} {dvs : List V} {ds : List ol} {E : XK} {x m : Str} {p pos apos : Pos} {e o : Do} {es : List Do} {ta : TE} {t : TA}
end
section
variable {P : AC} {w : Db} {K : qh} {mg : Str → Option ol} {base : Gc}
end
end L2
namespace M
open PySem PySem.Spec PyProof.Rows L2
variable {st : SX} {k n a b c : Nat} {caps : List Nat} {i j : Int} {ds ds0 : List D} {d : D} {O O1 : aA} {ns r row T goal s l x y z h w : List Int} {m me e mo : EM} {ml mh : OM} {im : IM} {body A B : SM} {f g : Nat → Int} {left rows R : List (List Int)} {P L : List (Nat × List Int)} {p : Nat × List Int} {ma : AM} {lo hi : Option Int}
section
variable {C : Ct}
end
section
variable {C : Ct} {Es : L2.St → XK}
end
structure Ev where
 P:AC
 w:Db
 K:qh
 mg:Str->Option ol
 base:Gc
 ca:Nat->pc
abbrev DIn(e:Ev)(U:Nat)(x:Str)(ps:List Str)(f:FM):Prop:=Lw e.P e.w e.K e.mg e.base e.ca U x ps f
abbrev N0(e:Ev)(x:Str):Prop:=e.mg x=na
def FA(e:Ev)(x:Str)(st:SX):Prop:=∃a fd,Fun e.K x x st a fd/\e.mg x=lH (.ref a)
def FK(K:qh)(x:Str)(st:SX):Prop:=∃(f:pc) (U:ol) (Y:Option pc) (kV dc pm:ol) (an:Option pc) (cd ct:ol) (sl:Array (Option ol)),No K mainGlobals x=lH (lH (.ref f))/\
 K.lookup f=lH #[U,Y,.func (PP x x (eJ st) (dO st) (aL st) .none kV dc pm an cd ct),sl]/\RO K cd x=on/\Rm K (.ref f)=on
theorem FK.fa{e:Ev}{h:Gc}{x:Str}(X:e.K.In h)(G:h.Ns mainGlobals e.mg)(k:FK e.K x st):FA e x st:=by obtain⟨f,U,Y,kV,dc,pm,an,cd,ct,sl,a,l,c,kp⟩:=k;exact#[f,_,rX l c kp,SD X G a]
abbrev rP(x:Str)(ps:List Str)(st:SX):Prop:=∀(kV U pm:ol) (an:Option pc) (Y ct:ol) (us:List ol),us.length=ps.length->bindArgs (PP x x (eJ st) (dO st) (aL st) .none kV U pm an Y ct) #[us,[]]=pure (ps.zip us)
theorem bd1{x p0:Str}(h:∀(kV U pm:ol) (an:Option pc) (Y ct u0:ol),bindArgs (PP x x (eJ st) (dO st) (aL st) .none kV U pm an Y ct) #[[u0],[]]=pure [(p0,u0)]):rP x [p0] st:=λkV U pm an Y ct us hl=>match us,hl with | [u0],_=>h kV U pm an Y ct u0
theorem bd2{x p0 p1:Str}(h:∀(kV U pm:ol) (an:Option pc) (Y ct u0 u1:ol),bindArgs (PP x x (eJ st) (dO st) (aL st) .none kV U pm an Y ct) #[[u0,u1],[]]=pure [(p0,u0),(p1,u1)]):rP x [p0,p1] st:=λkV U pm an Y ct us hl=>match us,hl with | [u0,u1],_=>h kV U pm an Y ct u0 u1
theorem bd3{x p0 p1 p2:Str}(h:∀(kV U pm:ol) (an:Option pc) (Y ct u0 u1 u2:ol),bindArgs (PP x x (eJ st) (dO st) (aL st) .none kV U pm an Y ct) #[[u0,u1,u2],[]]=pure [(p0,u0),(p1,u1),(p2,u2)]):rP x [p0,p1,p2] st:=λkV U pm an Y ct us hl=>match us,hl with | [u0,u1,u2],_=>h kV U pm an Y ct u0 u1 u2
theorem bd4{x p0 p1 p2 p3:Str}(h:∀(kV U pm:ol) (an:Option pc) (Y ct u0 u1 u2 u3:ol),bindArgs (PP x x (eJ st) (dO st) (aL st) .none kV U pm an Y ct) #[[u0,u1,u2,u3],[]]=pure [(p0,u0),(p1,u1),(p2,u2),(p3,u3)]):rP x [p0,p1,p2,p3] st:=λkV U pm an Y ct us hl=>match us,hl with | [u0,u1,u2,u3],_=>h kV U pm an Y ct u0 u1 u2 u3
theorem bd5{x p0 p1 p2 p3 p4:Str}(h:∀(kV U pm:ol) (an:Option pc) (Y ct u0 u1 u2 u3 u4:ol),bindArgs (PP x x (eJ st) (dO st) (aL st) .none kV U pm an Y ct) #[[u0,u1,u2,u3,u4],[]]=pure [(p0,u0),(p1,u1),(p2,u2),(p3,u3),(p4,u4)]):rP x [p0,p1,p2,p3,p4] st:=λkV U pm an Y ct us hl=>match us,hl with | [u0,u1,u2,u3,u4],_=>h kV U pm an Y ct u0 u1 u2 u3 u4
theorem bG {e:Ev} {x:Str} {N ps:List Str} {m:SM} (F:FA e x st) (S:a7 N ps (aL st)) (hn:N.length=n) (hk:32<=k) (hb:rP x ps st)
 (hm:∀(f:pc) (U:ol) (A:KE) (outer:List Env) (s:r0) (H:Hp) (E:XK),eR k (A.deeper (envOfC x (aL st) s.heap.objs.size f U))->(A.deeper (envOfC x (aL st) s.heap.objs.size f U)).units+64<cLine->(A.deeper (envOfC x (aL st) s.heap.objs.size f U)).depth+100<recursionLimit->
  ∃t,PSs (vE (CXE e.P e.w) e.P e.w e.K e.mg e.base N x (aL st) f U A outer s H E).nox (dO st) t/\RdS #[e.K,e.ca,W0] t m):DIn e (k+1) x ps (runM n m):=by
 obtain⟨a,fd,F,Y⟩:=F;exact#[a,fd,rT F S hn λU A outer s H E hr=>hm a U A outer s H E hr hr.units (wy hr hk),Y,F.kp,F.binds hb]
def PR(X:Cx)(P:AC)(w:Db)(K:qh)(mg:Str->Option ol)(base:Gc):Prop:=X.prog=P/\X.w=w/\X.K=K/\X.mg=mg/\X.base=base
theorem cb{N P:List Str}{sc:Sj}(U:N.Nodup:=by decide +kernel)(Y:N.take P.length=P:=by rfl)(h6:∀x∈P,sc.names.lookup x=lH .local\/sc.names.lookup x=lH .cell:=by decide +kernel)(h7:∀y∈sc.names,y.2≠ .free:=by decide +kernel)(h1:sc.kind=.function:=by rfl)(h2:sc.isCoroutine=false:=by rfl)(h3:sc.isGenerator=false:=by rfl):a7 N P sc:=#[h1,h2,h3,U,Y,h6,h7]
theorem ndL(a b:List Str)(h:(a++b).Nodup:=by decide +kernel):(a++b).Nodup:=h
theorem scC{X:Cx}{scope:Sj}{own cap:List Str}(U:mz X scope cap caps)(h1:scope.kind=.function:=by rfl)(h2:∀y∈scope.names,y.2=.cell->scope.names.lookup y.1=lH .cell:=by decide +kernel)(Y:∀y∈scope.names,y.2=.local->scope.names.lookup y.1=lH .local:=by decide +kernel)(h4:∀y∈scope.names,y.2=.free->y.1∈cap:=by decide +kernel)(h6:(own++cap).Nodup:=by decide +kernel):nP X scope own cap caps:=#[h1,h2,Y,h4,U,h6]
section
variable {X : Cx} {P : AC} {w : Db} {K : qh} {mg : Str → Option ol} {base : Gc} {ca : Nat → pc} {k j : Nat} {x : Str} {ps : List Str} {f : FM} {e : Do} {es : List Do} {t : TA} {p pos : Pos} {Es : L2.St → XK}
theorem aJ(D:Lw P w K mg base ca k x ps f)(hr:eR j X.A)(ha:PA X (e::es) t)(hj:k<=j:=by decide)(hX:PR X P w K mg base:=by exact#[rfl,rfl,rfl,rfl,rfl])(hg:Gl X x:=by rfl)(U:(x == ("__debug__" :Str))=false:=by decide)(he:starEach (e::es) X.env=(tt,eval e X.env)::starEach es X.env:=by rfl)(Y:(backTo pos (starEach es X.env)).any (·.1)=false:=by rfl):
 PE X (.Call (.Name x p) (e::es) [] pos) (tG (spM K ca ps.length f) [] E0 t):=by
 obtain⟨rfl,rfl,rfl,rfl,rfl⟩:=hX;obtain⟨a,fd,G,m,k,b⟩:=D;exact MU G (hr.mono hj) hg m k b .nil oS ha U he Y
end
section
variable {C : Ct}
end
section
variable {C : Ct}
end
@[simp] theorem PM (ds:List D) (O:aA):okC ds na O=True:=rfl
@[simp] theorem P4 (ds:List D) (k:Nat) (O:aA):okC ds (lH k) O=(O[k]? =lH (.lst ds)):=rfl
theorem Fd(h:i.natAbs<2^n):Builtin.Int.intBits i<=n:=by
 unfold Builtin.Int.intBits;split;exact Rb _;rename_i h0;have hp:i.natAbs≠0:=by intro z;apply h0;simpa using z
 have:=(Nat.log2_lt hp).mpr h;omega
def Sz(n:Nat)(i:Int):Prop:=i.natAbs<2^n
theorem Sz.mono{m n:Nat}(h:Sz m i)(U:m<=n):Sz n i:=AT h (RH ∅ U)
theorem gQ{m n:Nat}(hm:m<=60000000)(hn:n<=60000000)(h:Sz m i)(h':Sz n j):RF i j:=by
 have h1:=Fd h;have h2:=Fd h';have e:Builtin.Int.intTooBig (Builtin.Int.intBits i+Builtin.Int.intBits j)=false:=by unfold Builtin.Int.intTooBig;rw[bitsLine_eq];exact decide_eq_false ⋯
 unfold RF;rw[e];simp
theorem gk(h:i.natAbs<2^64\/j.natAbs<2^64):RF i j:=by rcases h with h | h;exact .of_left (intBits_le_64 ⋯ ⋯);exact .of_right (intBits_le_64 ⋯ ⋯)
theorem Sz.mul{m n:Nat}(h:Sz m i)(h':Sz n j):Sz (m+n) (i*j):=by unfold Sz at *;rw[SV,Vk];exact Nat.mul_lt_mul'' h h'
theorem Sz.add{m n:Nat}(h:Sz m i)(h':Sz n j):Sz (max m n+1) (i+j):=by unfold Sz at *;have h1:=AT h (RH ∅ (Nat.le_max_left m n));have h2:=AT h' (RH ∅ (Nat.le_max_right m n));have U:(i+j).natAbs<=i.natAbs+j.natAbs:=Uc i j;rw[UV];omega
theorem pk(h:0<j):i.fdiv j=i/j:=Int.fdiv_eq_ediv_of_nonneg i (S2 h)
theorem KZ(h:0<j):i.fmod j=i%j:=Int.fmod_eq_emod_of_nonneg i (S2 h)
section
variable {O : aA}
@[simp] theorem Ef:kY O (.int i) (.int j)=.ok (.int (i-j)):=rfl
@[simp] theorem fv:cx O (.int i) (.int j)=.ok (.int (i+j)):=rfl
@[simp] theorem Qa (i j:Int):Qf O (.int i) (.int j)=.ok (.int (i+j)):=rfl
@[simp] theorem k6:ltD O (.int i) (.int j)=.ok (.bl (decide (i<j))):=rfl
@[simp] theorem Qo (i j:Int):leD O (.int i) (.int j)=.ok (.bl (decide (i<=j))):=rfl
@[simp] theorem Am:gtD O (.int i) (.int j)=.ok (.bl (decide (j<i))):=rfl
@[simp] theorem LS:geD O (.int i) (.int j)=.ok (.bl (decide (j<=i))):=rfl
@[simp] theorem tE:iO O (.int i)=.ok (.int (-i)):=rfl
@[simp] theorem wg:eqD O (.int i) (.int j)=.ok (.bl (decide (i=j))):=rfl
@[simp] theorem Qm (i j:Int):neD O (.int i) (.int j)=.ok (.bl (!decide (i=j))):=rfl
@[simp] theorem zO (i j:Str):eqD O (.str i) (.str j)=.ok (.bl (decide (i=j))):=rfl
@[simp] theorem Qn (i j:Str):neD O (.str i) (.str j)=.ok (.bl (!decide (i=j))):=rfl
@[simp] theorem QJ (i j:Bool):eqD O (.bl i) (.bl j)=.ok (.bl (decide (i=j))):=rfl
@[simp] theorem DW (i j:Bool):neD O (.bl i) (.bl j)=.ok (.bl (!decide (i=j))):=rfl
theorem cV(h:RF i j):cT O (.int i) (.int j)=.ok (.int (i*j)):=if_pos h
theorem lD(h:j≠0):d3 O (.int i) (.int j)=.ok (.int (i.fdiv j)):=if_pos h
theorem ib(h:0<j)(h2:j<1073741824):d3 O (.int i) (.int j)=.ok (.int (i/j)):=by rw[lD ⋯,pk h]
theorem fu(h:0<j):gh O (.int i) (.int j)=.ok (.int (i%j)):=by rw[<- KZ h];exact if_pos ⋯
theorem mO(h:0<=j)(h2:j<=1000000)(U:i.natAbs<2^64):jD O (.int i) (.int j)=.ok (.int (i^j.toNat)):=if_pos #[h,h2,U]
@[simp] theorem Pz (i:Int):xY O [.int i]=.ok (.int (i.natAbs:Int)):=by show Res.ok (D.int (if i<0 then -i else i))=_;congr 2;split <;> omega
@[simp] theorem hZ:cF O [.lst ds]=.ok (.int ds.length):=rfl
@[simp] theorem P6 (ds:List D):cF O [.tup ds]=.ok (.int ds.length):=rfl
theorem Kj{x:Str}(h:x.length<=16777216):cF O [.str x]=.ok (.int x.length):=if_pos h
@[simp] theorem uJ:oK O [.lst ds]=.ok (.lst ds):=rfl
@[simp] theorem Po (ds:List D):oK O [.tup ds]=.ok (.lst ds):=rfl
@[simp] theorem Pu (i:Int):intOf O [.int i]=.ok (.int i):=rfl
@[simp] theorem PN (b:Bool):intOf O [.bl b]=.ok (.int (if b then 1 else 0)):=rfl
@[simp] theorem QC (c:String) (i:Int):ot c O (.int i)=.ok (.bl (fD "int" c)):=rfl
@[simp] theorem QZ (c:String) (i:Bool):ot c O (.bl i)=.ok (.bl (fD "bool" c)):=rfl
@[simp] theorem Qs (c:String) (i:Str):ot c O (.str i)=.ok (.bl (fD "str" c)):=rfl
@[simp] theorem Qy (c:String) (i:List D):ot c O (.lst i)=.ok (.bl (fD "list" c)):=rfl
@[simp] theorem Qr (c:String) (i:List D):ot c O (.tup i)=.ok (.bl (fD "tuple" c)):=rfl
@[simp] theorem QD (c:String):ot c O .non=.ok (.bl (fD "NoneType" c)):=rfl
@[simp] theorem QS:fD "int" "int" =true:=∅
@[simp] theorem QW:fD "int" "bool" =false:=∅
@[simp] theorem QM:fD "bool" "bool" =true:=∅
@[simp] theorem QX:fD "bool" "int" =true:=∅
@[simp] theorem QY:fD "list" "list" =true:=∅
@[simp] theorem sub_tt:fD "tuple" "tuple" =true:=∅
@[simp] theorem sub_lt:fD "list" "tuple" =false:=∅
@[simp] theorem QI:fD "tuple" "list" =false:=∅
@[simp] theorem QT:fD "str" "int" =false:=∅
@[simp] theorem QU:fD "NoneType" "int" =false:=∅
theorem mY(h:atI ds i=lH d):ixD O (.lst ds) (.int i)=.ok d:=by
 show (match lsD O (D.lst ds) with
  | some ds=>match atI ds i with
   | some d=>Res.ok d
   | none=>.bad
  | none=>.bad)=_
 rw[ja];dsimp only;rw[h]
theorem d0(h:atI ds i=lH d):ixD O (.tup ds) (.int i)=.ok d:=by
 show (
  match atI ds i with
  | some d=>Res.ok d
  | none=>.bad)=_
 rw[h]
theorem pe{α:Type}{l:List α}(h0:0<=i)(h1:i<l.length):atI l i=lH (l[i.toNat]'(⋯)):=by unfold atI ixN;rw[if_pos h0,if_pos h1];show l[i.toNat]? =_;exact sn _
theorem sV:∀ns:List Int,jv (ns.map D.int)=lH (ns.map PyData.int)
 | []=>by simp[jv]
 | n::ns=>by simp[jv,toPy,sV ns]
theorem qJ:∀ns:List Int,b8 O (ns.map D.int)=ns.map D.int
 | []=>by simp[b8]
 | n::ns=>by simp[b8,res,qJ ns]
theorem rB:∀ns:List Int,PyData.canLayAll0 (ns.map PyData.int)=on
 | []=>by simp[PyData.canLayAll0]
 | n::ns=>by simp[PyData.canLayAll0,PyData.canLay0,rB ns]
theorem sJ:∀ns:List Int,PyData.depthAll (ns.map PyData.int)=0
 | []=>by simp[PyData.depthAll]
 | n::ns=>by simp[PyData.depthAll,PyData.depth,sJ ns]
theorem shaped_ints(ns:List Int):SeqAt.shaped (.list (ns.map PyData.int))=true:=by simp[SeqAt.shaped,PyData.canLay0,rB,PyData.depth,sJ]
theorem xC:∀ns ms:List Int,PyData.eqvAll (ns.map PyData.int) (ms.map PyData.int)=decide (ns=ms)
 | [],[]=>by simp[PyData.eqvAll]
 | [],_::_=>by simp[PyData.eqvAll]
 | _::_,[]=>by simp[PyData.eqvAll]
 | a::r,b::t=>by simp only[ww,PyData.eqvAll,PyData.eqv,xC r t];by_cases h:a=b <;> by_cases h':r=t <;> simp[h,h']
theorem CO{ns ms:List Int}:eqB O (.lst (ns.map D.int)) (.lst (ms.map D.int))=lH (decide (ns=ms)):=by show iR O _ _=_;unfold iR;simp only[res,qJ,toPy,sV,SF];rw[if_pos #[shaped_ints ns,shaped_ints ms]];simp only[PyData.eqv,xC]
@[simp] theorem P5 (ns ms:List Int):eqD O (.lst (ns.map D.int)) (.lst (ms.map D.int))=.ok (.bl (decide (ns=ms))):=by unfold eqD;rw[CO]
@[simp] theorem Qb (ns ms:List Int):neD O (.lst (ns.map D.int)) (.lst (ms.map D.int))=.ok (.bl (!decide (ns=ms))):=by unfold neD;rw[CO]
theorem u6:∀ns:List Int,aR (ns.map D.int)=on
 | []=>by simp[aR]
 | n::ns=>by simp[aR,cO,u6 ns]
@[simp] theorem OI (ns:List Int):cO (.lst (ns.map D.int))=true:=by simp[cO,u6]
end
noncomputable def wu:SM:=aK (setM 2 (ak gh (aa 0) (aa 1))) (aK (setM 0 (aa 1)) (setM 1 (aa 2)))
theorem KQ{a b:Int}{x:Option D}(hb:0<b):wu #[[lH (.int a),lH (.int b),x],O]=.next #[[lH (.int b),lH (.int (a%b)),lH (.int (a%b))],O]:=by simp[wu,aK,setM,gi,aD,ak,aa,fu hb]
theorem BC{c:TM}(hc:∀(a b:Int) x O,0<=b->c #[[lH (.int a),lH (.int b),x],O]=.ok (decide (b≠0),#[[lH (.int a),lH (.int b),x],O])):
 ∀(n:Nat) (a b:Int) x O,0<=a->0<=b->b.natAbs<n->∃y,k4 c wu n #[[lH (.int a),lH (.int b),x],O]=.next #[[lH (.int (R6 a.natAbs b.natAbs:Nat)),lH (.int 0),y],O]
 | 0,_,_,_,_,_,_,h=>⋯
 | n+1,a,b,x,O,ha,hb,hn=>by
  rw[k4,hc a b x O hb,my];by_cases h:b=0;subst h;refine#[x, ?_];have e:((R6 a.natAbs (0:Int).natAbs:Nat):Int)=a:=by rw[Int.natAbs_zero,Nat.gcd_zero_right];omega
  rw[e];simp;have hb':0<b:=⋯;have h1:0<=a%b:=Sg a h;have h2:a%b<b:=Sa a hb';obtain⟨y,e⟩:=BC hc n b (a%b) (lH (.int (a%b))) O hb h1 ⋯;refine#[y, ?_];simp only[h,ne_eq,not_false_eq_true,decide_true,if_true,KQ hb'];rw[e];have e2:(a%b).natAbs=a.natAbs%b.natAbs:=by
   have:((a%b).natAbs:Int)=((a.natAbs%b.natAbs:Nat):Int):=by rw[TJ h1,Int.natCast_emod,TJ ha,TJ hb]
   omega
  rw[e2,<- Nat.gcd_rec' a.natAbs b.natAbs]
where Nat.gcd_rec' (m n:Nat):R6 m n=R6 n (m%n):=by rw[Nat.gcd_comm m n,Nat.gcd_rec n m,Nat.gcd_comm]
noncomputable def Hh:SM:=aK (setM 0 (bN xY (af (aa 0) ar))) (aK (setM 1 (bN xY (af (aa 1) ar))) (aK (zt (λs=>Az 1 s) (aS (ak neD (aa 1) (ao (.int 0)))) wu) (bx (aa 0))))
theorem Kf(a b:Int)(O:aA):∃s,Hh #[[lH (.int a),lH (.int b),na],O]=.ret (.int (EQ a b:Nat)) s/\s.o=O:=by obtain⟨y,e⟩:=BC (c:=aS (ak neD (aa 1) (ao (.int 0)))) (λa b x O h=>by simp[aS,ak,aa,ao]) (b.natAbs+1) (a.natAbs:Int) (b.natAbs:Int) na O ⋯ ⋯ ⋯;refine#[#[[lH (.int (EQ a b:Nat)),lH (.int 0),y],O], ?_,rfl];simp only[RE] at e;simp[Hh,aK,setM,gi,aD,bN,af,ar,aa,zt,Az,e,bx,EQ]
theorem b9{m:SM}{s:S}(h:m #[ds.map lH++ux (n-ds.length) na,O]=.ret d s):runM n m ds O=.ok (d,s.o):=by unfold runM;rw[h]
theorem Iy(a b:Int):runM 3 Hh [.int a,.int b] []=.ok (.int (EQ a b:Nat),[]):=by obtain⟨s,e,U⟩:=Kf a b [];rw[b9 (s:=s) (by exact e),U]
def cE(ns:List Int):Nat:=ns.foldl (λc n=>R6 c n.natAbs) 0
theorem um:∀(ns:List Int) (c:Nat),ns.foldl (λc n=>R6 c n.natAbs) c ∣ c/\∀n∈ns,ns.foldl (λc n=>R6 c n.natAbs) c ∣ n.natAbs
 | [],c=>#[Nat.dvd_refl _,by simp]
 | m::ns,c=>by
  obtain⟨h1,h2⟩:=um ns (R6 c m.natAbs);rw[RQ];refine#[VE h1 (Nat.gcd_dvd_left _ _),λn hn=> ?_];rcases vr.mp hn with rfl | hn
  exact VE h1 (Nat.gcd_dvd_right _ _);exact h2 n hn
theorem C9{n:Int}(h:n∈ns):((cE ns:Nat):Int) ∣ n:=Sf.mp (by rw[RE];exact(um ns 0).2 n h)
theorem uw(g:Nat)(U:0<g):∀(ns:List Int) (c:Nat),g ∣ c->(∀n∈ns,(g:Int) ∣ n)->
 (ns.map (· / (g:Int))).foldl (λc n=>R6 c n.natAbs) (c/g)=ns.foldl (λc n=>R6 c n.natAbs) c/g
 | [],c,_,_=>rfl
 | m::ns,c,hc,h=>by
  have hm:g ∣ m.natAbs:=by have:=Sf.mpr (h m sH);rwa [RE] at this
  have e:(m/(g:Int)).natAbs=m.natAbs/g:=by obtain⟨k,rfl⟩:=h m sH;rw[Th _ (by omega:(g:Int)≠0),SV,RE,Nat.mul_div_cancel_left _ U]
  rw[ww,RQ,RQ,e,Nat.gcd_div hc hm];exact uw g U ns _ (Nat.dvd_gcd hc hm) λn hn=>h n (sB _ hn)
theorem KG(h:0<cE ns):cE (ns.map (· / (cE ns:Int)))=1:=by have:=uw (cE ns) h ns 0 (Nat.dvd_zero _) λn hn=>C9 hn;rw[Nat.zero_div] at this;rw[show cE (ns.map (· / (cE ns:Int)))=(ns.map (· / (cE ns:Int))).foldl (λc n=>R6 c n.natAbs) 0 from rfl,this];exact Nat.div_self h
section
variable {s s1 : S} {d : D}
@[simp] theorem ag {i:Nat} (h:s.r[i]? =lH (lH d)):aa i s=.ok (d,s):=by unfold aa;rw[h]
@[simp] theorem aF (d:D) {s:S}:ao d s=.ok (d,s):=rfl
@[simp] theorem cL {f:Op2} {a b:EM} {s:S}:ak f a b s=(a s).bind λx=>(b x.2).bind λy=>(f y.2.o x.1 y.1).bind λd=>.ok (d,y.2):=rfl
@[simp] theorem N1 {f:Op1} {a:EM} {s:S}:unM f a s=(a s).bind λx=>(f x.2.o x.1).bind λd=>.ok (d,x.2):=rfl
@[simp] theorem aI {s:S}:ar s=.ok ([],s):=rfl
@[simp] theorem aZ {r:AM} {s:S}:af m r s=(m s).bind λx=>(r x.2).bind λy=>.ok (x.1::y.1,y.2):=rfl
@[simp] theorem i5 {f:OpN} {m:AM} {s:S}:bN f m s=(m s).bind λx=>(f x.2.o x.1).bind λd=>.ok (d,x.2):=rfl
@[simp] theorem zB {m:AM} {s:S}:gb m s=(m s).bind λx=>if x.1.length<=16777216 then .ok (.tup x.1,x.2) else .bad:=rfl
@[simp] theorem FD {m:AM} {s:S}:jn m s=(m s).bind λx=>if x.1.length<=16777216 then .ok (.lst x.1,x.2) else .bad:=rfl
@[simp] theorem L6 {m:AM} {s:S}:g5 m s=(m s).bind λx=>if x.1.length<=16777216 then .ok (.ptr x.2.o.length,#[x.2.r,x.2.o++[.lst x.1]]) else .bad:=rfl
@[simp] theorem iu {s:S}:aS m s=(m s).bind λx=>match x.1 with
 | .bl b=>.ok (b,x.2)
 | _=>.bad:=rfl
@[simp] theorem zL {a b:TM} {s:S}:kM a b s=(a s).bind λx=>if x.1 then b x.2 else .ok (tt,x.2):=rfl
@[simp] theorem r8 {a b:TM} {s:S}:orT a b s=(a s).bind λx=>if x.1 then .ok (on,x.2) else b x.2:=rfl
@[simp] theorem rZ {a:TM} {s:S}:ow a s=(a s).bind λx=>.ok (!x.1,x.2):=rfl
@[simp] theorem Fu {a b:EM} {s:S}:mT a b s=(a s).bind λx=>match x.1 with
 | .bl on=>b x.2
 | .bl tt=>.ok (.bl tt,x.2)
 | _=>.bad:=rfl
@[simp] theorem QQ (a b:EM) (s:S):orV a b s=(a s).bind λx=>match x.1 with
 | .bl on=>.ok (.bl on,x.2)
 | .bl tt=>b x.2
 | _=>.bad:=rfl
@[simp] theorem Qw (a:EM) (s:S):KP a s=(a s).bind λx=>match x.1 with
 | .bl k=>.ok (.bl (!k),x.2)
 | _=>.bad:=rfl
@[simp] theorem wm {a b:SM} {s:S}:aK a b s=(a s).then b:=rfl
@[simp] theorem cg {s:S}:bB s=.next s:=rfl
@[simp] theorem Qc (m:EM) (s:S):eS m s=(m s).out λx=>.next x.2:=rfl
@[simp] theorem QA (m:EM) (s:S):bx m s=(m s).out λx=>.ret x.1 x.2:=rfl
@[simp] theorem QG (s:S):PK s=.ret .non s:=rfl
@[simp] theorem QN (c:TM) (a b:SM) (s:S):ifS c a b s=(c s).out λx=>if x.1 then a x.2 else b x.2:=rfl
@[simp] theorem QR (c:TM) (a b:EM) (s:S):ifM c a b s=(c s).bind λx=>if x.1 then a x.2 else b x.2:=rfl
@[simp] theorem De {i:Nat} {d:D} {s:S}:aD i d s=.ok #[s.r.set i (lH d),s.o]:=rfl
@[simp] theorem rK {g:GM} {s:S}:gi m g s=((m s).bind λx=>g x.1 x.2).out λs=>.next s:=rfl
@[simp] theorem QF (i:Nat) (f:Op2) (m:EM) (s:S):PH i f m s=gi (ak f (aa i) m) (aD i) s:=rfl
@[simp] theorem JL {s:S}:bR s=.ok (on,s):=rfl
@[simp] theorem Bq {s:S}:dA s=.ok (na,s):=rfl
@[simp] theorem Ay {s:S}:part m s=(m s).bind λx=>match x.1 with
 | .int i=>.ok (lH i,x.2)
 | _=>.bad:=rfl
@[simp] theorem Dh {s:S}:slM me ml mh s=(me s).bind λx=>(ml x.2).bind λl=>(mh l.2).bind λh=>match lsD h.2.o x.1 with
 | some ds=>.ok (.lst (cutD ds l.1 h.1),h.2)
 | none=>.bad:=rfl
@[simp] theorem cz {s:S}:listI m s=(m s).bind λx=>(itemsOf x.2.o x.1).bind λy=>.ok (y,x.2):=rfl
@[simp] theorem OF (O:aA) (ds:List D):itemsOf O (.lst ds)=.ok (ds,na):=rfl
theorem Mz{g:GM}{s:S}:eV im g body s=(im s).out λy=>bT (okC y.1.1 y.1.2) g body y.1.1 y.2:=rfl
theorem tW{m:Nat}{g:GM}{c:TM}{s:S}:nB m caps im g c e s=(im s).bind λy=>
 (dI (okC y.1.1 y.1.2) g c e y.1.1 [] #[mW m caps y.2.r,y.2.o]).bind λz=>.ok (z.1,#[y.2.r,z.2.o]):=rfl
theorem mM{m:Nat}{g:GM}{c:TM}{s:S}:bL m caps im g c e s=(nB m caps im g c e s).bind λy=>.ok (.lst y.1,y.2):=rfl
theorem DO{m:Nat}{g:GM}{c:TM}{s:S}:lL m caps im g c e s=(nB m caps im g c e s).bind λy=>.ok (.ptr y.2.o.length,#[y.2.r,y.2.o++[.lst y.1]]):=rfl
@[simp] theorem Jp {f:FM} {m:AM} {s:S}:bc n f m s=(m s).bind λx=>if aR x.1=on/\x.1.length=n then (match f x.1 [] with
 | .ok (d,_)=>if cO d=on then .ok (d,x.2) else .bad
 | _=>.bad) else .bad:=rfl
@[simp] theorem Kr {f:FM} {m:AM} {s:S}:dP n f m s=(m s).bind λx=>if aR x.1=on/\x.1.length=n then (match f x.1 [] with
 | .ok (d,O1)=>.ok (shD x.2.o.length d,#[x.2.r,x.2.o++O1.map (shC x.2.o.length)])
 | _=>.bad) else .bad:=rfl
@[simp] theorem Qe (n:Nat) (f:FM) (m:AM) (s:S):kI n f m s=(m s).bind λx=>if aR (b8 x.2.o (b8 x.2.o x.1))=on/\x.1.length=n then (match f (b8 x.2.o (b8 x.2.o x.1)) [] with
 | .ok (d,_)=>if oG d=on then .ok (d,x.2) else .bad
 | _=>.bad) else .bad:=rfl
@[simp] theorem K0 {s:S}:B9 m s=(m s).bind λx=>match wH x.2.o x.1 with
 | some ds=>.ok (.ptr x.2.o.length,#[x.2.r,x.2.o++[.lst ds]])
 | none=>.bad:=rfl
@[simp] theorem Mp {s:S}:gf m s=(m s).bind λx=>match ke x.2.o x.1 with
 | some (k,ds)=>.ok (.lst ds,#[x.2.r,x.2.o.set k .dead])
 | none=>.bad:=rfl
@[simp] theorem Mh {s:S}:kR mo me s=(mo s).bind λx=>match ke x.2.o x.1 with
 | some _=>(me x.2).bind λy=>match ke y.2.o x.1 with
  | some (k,ds)=>if ds.length<16777216 then .ok (.non,#[y.2.r,y.2.o.set k (.lst (ds++[y.1]))]) else .bad
  | none=>.bad
 | none=>.bad:=rfl
@[simp] theorem lC (h:O[k]? =lH (.lst ds)):lsD O (.ptr k)=lH ds:=by unfold lsD;simp only[h]
@[simp] theorem m5 (h:O[k]? =lH (.lst ds)):ke O (.ptr k)=lH (k,ds):=by unfold ke;simp only[h]
@[simp] theorem Hu:wH O (.lst ds)=lH ds:=rfl
@[simp] theorem Px (O:aA) (ds:List D):wH O (.tup ds)=lH ds:=rfl
@[simp] theorem Py (h:O[k]? =lH (.lst ds)):wH O (.ptr k)=lH ds:=by show lsD O (.ptr k)=_;exact lC h
@[simp] theorem w4 (h:O[k]? =lH (.lst ds)):itemsOf O (.ptr k)=.ok (ds,lH k):=by unfold itemsOf;simp only[h]
@[simp] theorem iI:shD n (.ptr k)=.ptr (n+k):=by unfold shD;rfl
@[simp] theorem GB:aR []=true:=by unfold aR;rfl
@[simp] theorem jc {d:D}:aR (d::ds)=(cO d&&aR ds):=by conv=>lhs;unfold aR
@[simp] theorem AR:cO (.int i)=true:=by unfold cO;rfl
@[simp] theorem PF (i:Bool):cO (.bl i)=true:=by unfold cO;rfl
@[simp] theorem Pn (i:Str):cO (.str i)=true:=by unfold cO;rfl
@[simp] theorem Pq:cO .non=true:=by unfold cO;rfl
@[simp] theorem nG:cO (.lst ds)=aR ds:=by conv=>lhs;unfold cO
@[simp] theorem Pp (ds:List D):cO (.tup ds)=aR ds:=by conv=>lhs;unfold cO
@[simp] theorem OH (ns:List Int):aR (ns.map D.int)=true:=u6 ns
@[simp] theorem My:res O (.int i)=.int i:=by unfold res;rfl
@[simp] theorem QO (O:aA) (i:Bool):res O (.bl i)=.bl i:=by unfold res;rfl
@[simp] theorem Qz (O:aA) (i:Str):res O (.str i)=.str i:=by unfold res;rfl
@[simp] theorem Qp (O:aA):res O .non=.non:=by unfold res;rfl
@[simp] theorem rN:res O (.lst ds)=.lst (b8 O ds):=by conv=>lhs;unfold res
@[simp] theorem Mn:res O (.tup ds)=.tup (b8 O ds):=by conv=>lhs;unfold res
@[simp] theorem rM (h:O[k]? =lH (.lst ds)):res O (.ptr k)=.lst ds:=by conv=>lhs;unfold res;simp only[h]
@[simp] theorem ue (O:aA):b8 O []=[]:=by unfold b8;rfl
@[simp] theorem qw {d:D}:b8 O (d::ds)=res O d::b8 O ds:=by conv=>lhs;unfold b8
@[simp] theorem t5:b8 O (ns.map D.int)=ns.map D.int:=qJ ns
@[simp] theorem P9 (b:Bool):oG (.bl b)=true:=rfl
@[simp] theorem Pw (b:Int):oG (.int b)=true:=rfl
@[simp] theorem Pr (b:Str):oG (.str b)=true:=rfl
@[simp] theorem Qx (h:O[k]? =lH (.lst ds)) (c:String):ot c O (.ptr k)=.ok (.bl (fD "list" c)):=by unfold ot tyD;simp only[h]
@[simp] theorem A4 (n:Nat):∀ns:List Int,eN n (ns.map D.int)=ns.map D.int
 | []=>by simp[eN]
 | m::ns=>by simp[eN,shD,A4 n ns]
@[simp] theorem E5:shC n (.lst ds)=.lst (eN n ds):=rfl
theorem k8{m:SM}{d:D}(h:∃s,m #[ds.map lH++ux (n-ds.length) na,O]=.ret d s):∃O1,runM n m ds O=.ok (d,O1):=by obtain⟨s,h⟩:=h;exact#[s.o,b9 h]
end
mutual
theorem Jx{O:aA}:∀{d:D},cO d=on->res O d=d
 | .non,_=>by unfold res;rfl
 | .bl _,_=>by unfold res;rfl
 | .int _,_=>by unfold res;rfl
 | .str _,_=>by unfold res;rfl
 | .lst ds,h=>by rw[rN,qv (by simpa using h)]
 | .tup ds,h=>by rw[Mn,qv (by simpa using h)]
 | .ptr _,h=>by unfold cO at h;cases h
 | .obj c ns ds,h=>by unfold res;rfl
 | .exn c,h=>by unfold res;rfl
theorem qv{O:aA}:∀{ds:List D},aR ds=on->b8 O ds=ds
 | [],_=>ue O
 | d::ds,h=>by rw[jc,Rp] at h;rw[qw,Jx h.1,qv h.2]
end
theorem FE(h:O[k]? =lH (.lst ds))(hp:aR ds=on)(es:List D):eqB O (.ptr k) (.lst es)=eqB O (.lst ds) (.lst es):=by show iR O _ _=iR O _ _;unfold iR;simp only[rM h,rN,qv hp]
@[simp] theorem Qq (h:O[k]? =lH (.lst ds)) (hp:aR ds=on) (es:List D):eqD O (.ptr k) (.lst es)=eqD O (.lst ds) (.lst es):=by unfold eqD;rw[FE h hp]
@[simp] theorem Qk (h:O[k]? =lH (.lst ds)) (hp:aR ds=on) (es:List D):neD O (.ptr k) (.lst es)=neD O (.lst ds) (.lst es):=by unfold neD;rw[FE h hp]
def rat(a b:Int):Int×Int:=(a.fdiv (if b<0 then -(EQ a b:Int) else EQ a b),b.fdiv (if b<0 then -(EQ a b:Int) else EQ a b))
theorem mS{a b:Int}(h:b≠0):∃g:Int,g≠0/\g.natAbs=EQ a b/\a=g*(rat a b).1/\b=g*(rat a b).2/\0<(rat a b).2/\EQ (rat a b).1 (rat a b).2=1:=by
 have Y:0<EQ a b:=TZ a h;have ha:(EQ a b:Int) ∣ a:=Int.gcd_dvd_left a b;have hb:(EQ a b:Int) ∣ b:=Int.gcd_dvd_right a b;obtain⟨x,hx⟩:=ha;obtain⟨y,hy⟩:=hb;have one:EQ x y=1:=by
  have e:EQ a b=EQ a b*EQ x y:=by
   have U:EQ ((EQ a b:Int)*x) ((EQ a b:Int)*y)=EQ a b*EQ x y:=by rw[Int.gcd_mul_left,RE]
   rw[<- hx,<- hy] at U;exact U
  have:EQ a b*1=EQ a b*EQ x y:=by rw[Nat.mul_one];exact e
  exact(Nat.eq_of_mul_eq_mul_left Y this).symm
 by_cases hn:b<0
 ·have hc:(-(EQ a b:Int))≠0:=⋯;have e1:(rat a b).1= -x:=by
   unfold rat;rw[if_pos hn];show a.fdiv _=_;conv=>lhs;lhs;rw[hx,<- S9]
   exact Sw _ hc
  have e2:(rat a b).2= -y:=by
   unfold rat;rw[if_pos hn];show b.fdiv _=_;conv=>lhs;lhs;rw[hy,<- S9]
   exact Sw _ hc
  refine#[-(EQ a b:Int),hc,by rw[Tj,RE],by rw[e1,S9];exact hx,by rw[e2,S9];exact hy, ?_, ?_];rw[e2];have:¬0<=y:=λz=>by have:=Rs (show (0:Int)<=(EQ a b:Int) by omega) z;omega
  omega;rw[e1,e2,Int.neg_gcd,Int.gcd_neg];exact one
 ·have hc:(EQ a b:Int)≠0:=⋯;have e1:(rat a b).1=x:=by
   unfold rat;rw[if_neg hn];show a.fdiv _=_;conv=>lhs;lhs;rw[hx]
   exact Sw _ hc
  have e2:(rat a b).2=y:=by
   unfold rat;rw[if_neg hn];show b.fdiv _=_;conv=>lhs;lhs;rw[hy]
   exact Sw _ hc
  refine#[(EQ a b:Int),hc,by rw[RE],by rw[e1];exact hx,by rw[e2];exact hy, ?_, ?_];rw[e2];have ab:0<b:=⋯;have:¬y<=0:=λz=>by have:=Sk (show (0:Int)<=(EQ a b:Int) by omega) z;omega
  omega;rw[e1,e2];exact one
theorem yM{k m n:Int}(h:EQ k m=1)(d:k ∣ m*n):k ∣ n:=by have U:=Sf.mpr d;rw[SV] at U;exact Sf.mp (Nat.Coprime.dvd_of_dvd_mul_left (show Nat.Coprime k.natAbs m.natAbs from h) U)
theorem K3{t b u c:Int}(hb:0<b)(hc:0<c)(h1:EQ t b=1)(h2:EQ u c=1)(e:t*c=u*b):t=u/\b=c:=by
 have Y:b ∣ c:=by have:b ∣ t*c:=#[u,by rw[e,Rg]];exact yM (by rw[Int.gcd_comm];exact h1) this
 have d2:c ∣ b:=by have:c ∣ u*b:=#[t,by rw[<- e,Rg]];exact yM (by rw[Int.gcd_comm];exact h2) this
 have U:b=c:=Int.dvd_antisymm ⋯ ⋯ Y d2;subst U;exact#[Int.eq_of_mul_eq_mul_right ⋯ e,rfl]
theorem xT{t b T B:Int}(hb:0<b)(h1:EQ t b=1)(U:B≠0)(e:t*B=T*b):rat T B=(t,b):=by
 obtain⟨g,Y,_,e1,e2,h2,h3⟩:=mS (a:=T) U;have e':(rat T B).1*b=t*(rat T B).2:=by
  have:g*((rat T B).1*b)=g*(t*(rat T B).2):=by rw[<- Re,<- e1,<- e,Va,<- e2]
  exact Ue Y this
 obtain⟨q1,q2⟩:=K3 h2 hb h3 h1 e';exact VQ q1 q2
theorem Fb{a b:Int}(h:b≠0):(rat a b).1.natAbs<=a.natAbs/\(rat a b).2.natAbs<=b.natAbs:=by
 obtain⟨g,Y,_,e1,e2,_⟩:=mS (a:=a) h;have U:1<=g.natAbs:=⋯;constructor
 ·conv=>rhs;rw[e1,SV]
  exact Tq _ U
 ·conv=>rhs;rw[e2,SV]
  exact Tq _ U
theorem dF{ok:aA->Prop}{g:GM}{body:SM}(P:List D->S->Prop)(Y:∀pre s,P pre s->ok s.o):∀(ds pre:List D),
 (∀U d rest,pre++ds=U++d::rest->∀s,P U s->∃s1 s2,g d s=.ok s1/\(body s1=.next s2\/body s1=.cnt s2)/\P (U++[d]) s2)->∀s,P pre s->∃s',bT ok g body ds s=.next s'/\P (pre++ds) s'
 | [],pre,_,s,h=>#[s,by rw[bT,if_pos (Y _ _ h)],by simpa using h]
 | d::ds,pre,step,s,h=>by obtain⟨s1,s2,e1,e2,h2⟩:=step pre d ds rfl s h;obtain⟨s',e3,h3⟩:=dF P Y ds (pre++[d]) (λU d' rest e=>step U d' rest (by simpa using e)) s2 h2;refine#[s', ?_,by simpa using h3];rw[bT,if_pos (Y _ _ h),e1,my];rcases e2 with e2 | e2 <;> (rw[e2];exact e3)
theorem dh{g:GM}{s s1:S}{k:Option Nat}(h:im s=.ok ((ds,k),s1)):eV im g body s=bT (okC ds k) g body ds s1:=by rw[Mz,h,my]
theorem gD{m:AM}{s s1:S}(h:m s=.ok ([.int (n:Int)],s1))(hn:n<=1000000):g9 m s=.ok ((cN 0 (n:Int),na),s1):=by show (m s).bind _=_;rw[h,aj];dsimp only;rw[if_pos (by constructor <;> omega)]
section
variable {O : aA}
@[simp] theorem Q6 (d:D) (ds:List D):ixD O (.tup (d::ds)) (.int 0)=.ok d:=d0 (by rw[pe ∅ (by simp)];rfl)
@[simp] theorem Q5 (d e:D) (ds:List D):ixD O (.tup (d::e::ds)) (.int 1)=.ok e:=d0 (by rw[pe ∅ (by simp;omega)];rfl)
@[simp] theorem PX:ixD O (.lst (d::ds)) (.int 0)=.ok d:=mY (by rw[pe ∅ (by simp)];rfl)
@[simp] theorem Q3 (d e:D) (ds:List D):ixD O (.lst (d::e::ds)) (.int 1)=.ok e:=mY (by rw[pe ∅ (by simp;omega)];rfl)
theorem vk(ns:List Int):SeqAt.shaped (.tuple (ns.map PyData.int))=true:=by simp[SeqAt.shaped,PyData.canLay0,rB,PyData.depth,sJ]
theorem AK(ns ms:List Int):eqB O (.tup (ns.map D.int)) (.tup (ms.map D.int))=lH (decide (ns=ms)):=by show iR O _ _=_;unfold iR;simp only[res,qJ,toPy,sV,SF];rw[if_pos #[vk ns,vk ms]];simp only[PyData.eqv,xC]
@[simp] theorem QL (a b c d:Int):eqD O (.tup [.int a,.int b]) (.tup [.int c,.int d])=.ok (.bl (decide (a=c/\b=d))):=by have:=AK (O:=O) [a,b] [c,d];unfold eqD;rw[show eqB O (.tup [.int a,.int b]) (.tup [.int c,.int d])=_ from this];simp
@[simp] theorem QK (a b c d:Int):neD O (.tup [.int a,.int b]) (.tup [.int c,.int d])=.ok (.bl (!decide (a=c/\b=d))):=by have:=AK (O:=O) [a,b] [c,d];unfold neD;rw[show eqB O (.tup [.int a,.int b]) (.tup [.int c,.int d])=_ from this];simp
theorem Br(hn:n<=9000)(h:j≠0)(h2:Sz n j):d3 O (.int i) (.int j)=.ok (.int (i.fdiv j)):=lD h
end
noncomputable def wj:SM:=(aK (ifS (aS (ak ltD (aa 1) (ao (.int 0)))) (setM 2 (unM iO (aa 2))) bB) (bx (gb (af (ak d3 (aa 0) (aa 2)) (af (ak d3 (aa 1) (aa 2)) ar)))))
theorem Nt{a b:Int}(hb:b≠0)(h:Sz n b):Sz n (EQ a b:Int):=by unfold Sz at *;rw[RE];exact SG (Nat.gcd_le_right _ ⋯) h
theorem Gg(hn:n<=9000){a b:Int}(hb:b≠0)(h:Sz n b)(O:aA):∃s,wj #[[lH (.int a),lH (.int b),lH (.int (EQ a b:Int))],O]=.ret (.tup [.int (rat a b).1,.int (rat a b).2]) s/\s.o=O:=by
 have hg:0<EQ a b:=TZ a hb;have hz:=Nt (a:=a) hb h;by_cases U:b<0;have Y:Sz n (-(EQ a b:Int)):=by unfold Sz at *;rw[Tj];exact hz
 refine#[#[[lH (.int a),lH (.int b),lH (.int (-(EQ a b:Int)))],O], ?_,rfl];simp[wj,U,Br hn (show -(EQ a b:Int)≠0 by omega) Y,rat];refine#[#[[lH (.int a),lH (.int b),lH (.int (EQ a b:Int))],O], ?_,rfl];simp[wj,U,Br hn (show (EQ a b:Int)≠0 by omega) hz,rat]
theorem Sz.rat{n m:Nat}{a b:Int}(hb:b≠0)(h:Sz n a)(h':Sz m b):Sz n (rat a b).1/\Sz m (rat a b).2:=
 #[SG (Fb hb).1 h,SG (Fb hb).2 h']
theorem Sz.sub{m n:Nat}(h:Sz m i)(h':Sz n j):Sz (max m n+1) (i-j):=by rw[Int.sub_eq_add_neg];refine Sz.add h ?_;unfold Sz at *;rw[Tj];exact h'
theorem Sz.neg{m:Nat}(h:Sz m i):Sz m (-i):=by unfold Sz at *;rw[Tj];exact h
def bu:Nat->(Nat->Int)->Int
 | 0,_=>0
 | n+1,f=>bu n f+f n
theorem bV{n:Nat}{f g:Nat->Int}(h:∀i,i<n->f i=g i):bu n f=bu n g:=by
 induction n with
 | zero=>rfl
 | succ n U=>rw[bu,bu,U λi hi=>h i ⋯,h n ⋯]
theorem eM{n:Nat}{f:Nat->Int}(h:∀i,i<n->f i=0):bu n f=0:=by
 induction n with
 | zero=>rfl
 | succ n U=>rw[bu,U λi hi=>h i ⋯,h n ⋯];rfl
theorem pA:bu n (λi=>f i+g i)=bu n f+bu n g:=by
 induction n with
 | zero=>rfl
 | succ n U=>simp only[bu,U];omega
theorem d8{c:Int}:bu n (λi=>c*f i)=c*bu n f:=by
 induction n with
 | zero=>simp[bu]
 | succ n U=>simp only[bu,U,Int.mul_add]
theorem fU{n k:Nat}(hk:k<n){f:Nat->Int}(h:∀i,i<n->i≠k->f i=0):bu n f=f k:=by
 induction n with
 | zero=>omega
 | succ n U=>
  rw[bu];by_cases e:k=n;subst e;rw[eM λi hi=>h i ⋯ ⋯];omega;rw[U ⋯ λi hi=>h i ⋯,h n ⋯ ⋯];omega
def nth(r:List Int)(i:Nat):Int:=r.getD i 0
def dH(n:Nat)(r:List Int)(x:Nat->Int):Int:=bu n λi=>nth r i*x i
def eD(n:Nat)(R:List (List Int))(x:Nat->Int):Prop:=∀r∈R,dH n r x=0
def low(ns:List Int):List Int:=if cE ns=0 then ns else ns.map (· / (cE ns:Int))
theorem low_length:(low ns).length=ns.length:=by unfold low;split <;> simp
theorem je{f:Int->Int}(h0:f 0=0)(r:List Int)(i:Nat):nth (r.map f) i=f (nth r i):=by
 unfold nth;rw[nu,nu,wP];cases r[i]? with
 | none=>exact h0.symm
 | some a=>rfl
theorem wC{i:Nat}(h:i<r.length):nth r i∈r:=by unfold nth;rw[nu,sn h];exact Cg h
theorem i8{i:Nat}(h:r.length<=i):nth r i=0:=by unfold nth;rw[nu,Tx h];rfl
theorem pN(r:List Int)(i:Nat):((cE r:Nat):Int) ∣ nth r i:=by by_cases h:i<r.length;exact C9 (wC h);rw[i8 ⋯];exact Int.dvd_zero _
def yO(r:List Int):Int:=if cE r=0 then 1 else (cE r:Int)
theorem qy(r:List Int):0<yO r:=by unfold yO;split <;> omega
theorem rQ(r:List Int)(i:Nat):nth r i=yO r*nth (low r) i:=by unfold low yO;split;omega;rw[je (by simp),Int.mul_ediv_cancel' (pN r i)]
theorem DQ(h:cE r=0)(i:Nat):nth r i=0:=by have:=pN r i;rw[h] at this;simpa using this
theorem Fh{i:Nat}(h:nth r i≠0):cE (low r)=1:=by have h0:cE r≠0:=λe=>h (DQ e i);unfold low;rw[if_neg h0];exact KG (Nat.pos_of_ne_zero h0)
def gM(one:List Int)(v:Int)(other:List Int)(w:Int):List Int:=RY (λa b=>a*w-b*v) one other
def cX(one:List Int)(v:Int)(other:List Int)(w:Int):List Int:=low (gM one v other w)
theorem nD{one other:List Int}(h:one.length=other.length)(v w:Int):(gM one v other w).length=one.length:=by unfold gM;rw[RL,<- h,Nat.min_self]
theorem tS{one other:List Int}(h:one.length=other.length)(v w:Int)(i:Nat):nth (gM one v other w) i=nth one i*w-nth other i*v:=by by_cases hi:i<one.length;unfold gM nth;simp only[nu,UI,sn hi,sn (h▸hi:i<other.length)];rfl;rw[i8 (by rw[nD h];omega),i8 (r:=one) ⋯,i8 (r:=other) ⋯];simp
theorem nq{one other:List Int}(h:one.length=other.length)(v w:Int):(cX one v other w).length=one.length:=by unfold cX;rw[low_length,nD h]
theorem tV{one other:List Int}(h:one.length=other.length)(v w:Int):∃g:Int,0<g/\∀i,g*nth (cX one v other w) i=nth one i*w-nth other i*v:=by refine#[yO (gM one v other w),qy _,λi=> ?_];unfold cX;rw[<- rQ,tS h]
theorem Du{a b c:List Int}{g u v:Int}(h:∀i,g*nth c i=u*nth a i+v*nth b i)(x:Nat->Int):g*dH n c x=u*dH n a x+v*dH n b x:=by unfold dH;rw[<- d8,<- d8,<- d8,<- pA];refine bV λi _=> ?_;have:=h i;grind
theorem t8{a c:List Int}{g:Int}(h:∀i,nth a i=g*nth c i)(x:Nat->Int):dH n a x=g*dH n c x:=by unfold dH;rw[<- d8];refine bV λi _=> ?_;rw[h i,Re]
theorem xV{one other:List Int}(h:one.length=other.length)(v w:Int)(x:Nat->Int):∃g:Int,0<g/\g*dH n (cX one v other w) x=w*dH n one x-v*dH n other x:=by obtain⟨g,U,e⟩:=tV h v w;refine#[g,U, ?_];have:=Du (n:=n) (c:=cX one v other w) (a:=one) (b:=other) (g:=g) (u:=w) (v:= -v) (λi=>by rw[e i];grind) x;rw[this];grind
theorem yi(n:Nat)(r:List Int)(x:Nat->Int):dH n (low r) x=0↔dH n r x=0:=by
 rw[t8 (λi=>rQ r i) x];have:=qy r;constructor;intro h;rw[h];simp;intro h;rcases Q9.mp h with z | z
 omega;exact z
def dt:List Int->Option Nat
 | []=>na
 | a::r=>if a≠0 then lH 0 else (dt r).map (· + 1)
theorem pj:∀{l:List Int},dt l=na->∀a∈l,a=0
 | [],_,_,h=>by simp at h
 | b::r,e,a,h=>by
  unfold dt at e;split at e;cases e;rename_i hb;rcases vr.mp h with rfl | h
  simpa using hb;exact pj (by simpa using e) a h
theorem gO:∀{l:List Int} {k:Nat},dt l=lH k->k<l.length/\nth l k≠0/\∀i,i<k->nth l i=0
 | [],_,e=>by cases e
 | b::r,k,e=>by
  unfold dt at e;split at e;rename_i hb;cases e;exact#[by simp,hb,λi hi=>⋯];rename_i hb;cases e2:dt r with
  | none=>rw[e2] at e;cases e
  | some j=>
   rw[e2] at e;cases e;obtain⟨h1,h2,U⟩:=gO e2;refine#[by simp;omega,by simpa[nth] using h2,λi hi=> ?_];cases i with
   | zero=>simpa[nth] using hb
   | succ i=>simpa[nth] using U i (Nat.lt_of_succ_lt_succ hi)
def gJ(row:List Int)(U:Nat):List Int:=if nth row U>0 then row else row.map (- ·)
def dm(lead:List Int)(U:Nat)(row:List Int):List Int:=if nth row U=0 then row else cX row (nth row U) lead (nth lead U)
def c7(s:List (List Int)×List (List Int))(U:Nat):List (List Int)×List (List Int):=
 match dt (s.1.map (nth · U)) with
 | none=>s
 | some k=>((s.1.eraseIdx k).map (dm (gJ (s.1.getD k []) U) U),s.2.map (dm (gJ (s.1.getD k []) U) U)++[gJ (s.1.getD k []) U])
def cj(rows:List (List Int))(n:Nat):List (List Int):=((tz n).foldl c7 (rows.map low,[])).2
structure Good(n:Nat)(p:Nat×List Int):Prop where
 len:p.2.length=n
 lt:p.1<n
 pos:0<nth p.2 p.1
 zero:∀i,i<p.1->nth p.2 i=0
 one:cE p.2=1
structure Pl(n:Nat)(P:List (Nat×List Int)):Prop where
 good:∀p∈P,Good n p
 pw:P.Pairwise λp q=>p.1<q.1/\nth p.2 q.1=0
def vv(r:List Int):Prop:=∀i,nth r i≠0->cE r=1
theorem tN(r:List Int):vv (low r):=λi h=>Fh (i:=i) λz=>by
 have:=rQ r i;rw[z] at this;rcases Q9.mp this.symm with q | q
 have:=qy r;omega;exact h q
theorem JU:cE (r.map (- ·))=cE r:=by
 unfold cE;have:∀(l:List Int) (c:Nat),(l.map (- ·)).foldl (λc n=>R6 c n.natAbs) c=l.foldl (λc n=>R6 c n.natAbs) c:=by
  intro l;induction l with
  | nil=>intro c;rfl
  | cons a l U=>intro c;simp only[ww,RQ,Tj];exact U _
 exact this r 0
theorem wY:(gJ row a).length=row.length:=by unfold gJ;split <;> simp
theorem Ei(row:List Int)(a:Nat):∃g:Int,(g=1\/g= -1)/\∀i,nth (gJ row a) i=g*nth row i:=by unfold gJ;split;exact#[1,.inl rfl,λi=>⋯];exact#[-1,.inr rfl,λi=>by rw[je (by simp)];omega]
theorem HD(h:vv row):vv (gJ row a):=by unfold gJ;split;exact h;intro i hi;rw[JU];refine h i λz=>hi ?_;rw[je (by simp),z];rfl
theorem JP(h:nth row a≠0):0<nth (gJ row a) a:=by unfold gJ;split;assumption;rw[je (by simp)];omega
theorem Mc(n:Nat)(row:List Int)(a:Nat)(x:Nat->Int):dH n (gJ row a) x=0↔dH n row x=0:=by obtain⟨g,U,e⟩:=Ei row a;have:=t8 (n:=n) (a:=gJ row a) (c:=row) e x;rw[this];rcases U with rfl | rfl <;> omega
section
variable {lead row : List Int} {a : Nat}
theorem xj(h:row.length=lead.length):(dm lead a row).length=row.length:=by unfold dm;split;rfl;exact nq h _ _
theorem yn(U:0<nth lead a)(h:row.length=lead.length):∃g u:Int,0<g/\0<u/\∃v:Int,(nth row a=0->v=0)/\∀i,g*nth (dm lead a row) i=u*nth row i-v*nth lead i:=by unfold dm;split;exact#[1,1,⋯,⋯,0,λ_=>rfl,λi=>⋯];rename_i hz;obtain⟨g,Y,e⟩:=tV h (nth row a) (nth lead a);exact#[g,nth lead a,Y,U,nth row a,λz=>absurd z hz,λi=>by rw[e i];grind]
theorem FW(U:0<nth lead a)(h:row.length=lead.length):nth (dm lead a row) a=0:=by
 unfold dm;split;assumption;obtain⟨g,Y,e⟩:=tV h (nth row a) (nth lead a);have:=e a;have:g*nth (cX row (nth row a) lead (nth lead a)) a=0:=by rw[this];grind
 rcases Q9.mp this with z | z;omega;exact z
theorem A1(h:vv row):vv (dm lead a row):=by unfold dm;split;exact h;exact tN _
theorem vc(U:0<nth lead a)(h:row.length=lead.length){i:Nat}(h1:nth row i=0)(h2:nth lead i=0):nth (dm lead a row) i=0:=by
 obtain⟨g,u,Y,hu,v,_,e⟩:=yn U h;have:=e i;rw[h1,h2] at this;have:g*nth (dm lead a row) i=0:=by rw[this];grind
 rcases Q9.mp this with z | z;omega;exact z
theorem Kk(U:0<nth lead a)(h:row.length=lead.length){i:Nat}(h1:0<nth row i)(h2:nth lead i=0):0<nth (dm lead a row) i:=by
 obtain⟨g,u,Y,hu,v,_,e⟩:=yn U h;have e':=e i;rw[h2] at e';have:0<g*nth (dm lead a row) i:=by rw[e'];have:=Rv hu h1;omega
 by_cases hn:nth (dm lead a row) i<=0;have:=Sk (show 0<=g by omega) hn;omega;omega
theorem wF(n:Nat)(U:0<nth lead a)(h:row.length=lead.length){x:Nat->Int}(hx:dH n lead x=0):dH n (dm lead a row) x=0↔dH n row x=0:=by
 obtain⟨g,u,Y,hu,v,_,e⟩:=yn U h;have:=Du (n:=n) (c:=dm lead a row) (a:=row) (b:=lead) (g:=g) (u:=u) (v:= -v) (λi=>by rw[e i];grind) x;rw[hx] at this;constructor;intro z;rw[z] at this;have:u*dH n row x=0:=⋯;rcases Q9.mp this with q | q
 omega;exact q;intro z;rw[z] at this;have:g*dH n (dm lead a row) x=0:=⋯;rcases Q9.mp this with q | q
 omega;exact q
end
structure PSt(n a:Nat)(left:List (List Int))(P:List (Nat×List Int)):Prop where
 ll:∀r∈left,r.length=n
 lz:∀r∈left,∀i,i<a->nth r i=0
 lw:∀r∈left,vv r
 pl:Pl n P
 pa:∀p∈P,p.1<a
theorem xc:nth (left.map (nth · a)) k=nth (left.getD k []) a:=by
 unfold nth;simp only[nu,wP];cases left[k]? with
 | none=>rfl
 | some r=>rfl
theorem getD_mem(h:k<left.length):left.getD k []∈left:=by rw[nu,sn h];exact Cg h
theorem tK:∀{l:List (List Int)} {k:Nat} (h:k<l.length),l.Perm (l[k]::l.eraseIdx k)
 | [],k,h=>by simp at h
 | a::l,0,h=>by simp
 | a::l,k+1,h=>by have:=tK (l:=l) (k:=k) (by simpa using h);simp only[List.getElem_cons_succ,Uz];exact(this.cons a).trans (VD _ _ _)
theorem MK(ha:a<n)(h:PSt n a left P):
 ∃U P',c7 (left,P.map (·.2)) a=(U,P'.map (·.2))/\PSt n (a+1) U P'/\U.length+P'.length=left.length+P.length/\∀x,eD n (P'.map (·.2)++U) x↔eD n (P.map (·.2)++left) x:=by
 unfold c7;dsimp only;split;rename_i e;refine#[left,P,rfl,#[h.ll,λr hr i hi=> ?_,h.lw,h.pl,λp hp=>Tn (h.pa p hp)],rfl,λx=>U3];by_cases an:i=a;subst an;exact pj e _ (pr.mpr #[r,hr,rfl]);exact h.lz r hr i ⋯;rename_i k e;obtain⟨k1,k2,_⟩:=gO e;rw[ss] at k1;rw[xc] at k2;have hm:left.getD k []∈left:=getD_mem k1;have ab:left.Perm (left.getD k []::left.eraseIdx k):=by rw[nu,sn k1];exact tK k1
 generalize left.getD k []=row at *;generalize ac:gJ row a=lead at *;have ll:lead.length=n:=by rw[<- ac,wY];exact h.ll row hm
 have lp:0<nth lead a:=by rw[<- ac];exact JP k2
 have lz:∀i,i<a->nth lead i=0:=λi hi=>by obtain⟨g,_,e⟩:=Ei row a;rw[<- ac,e,h.lz row hm i hi];omega
 have lw:vv lead:=by rw[<- ac];exact HD (h.lw row hm)
 have sub:∀r∈left.eraseIdx k,r∈left:=λr hr=>RG hr;refine#[(left.eraseIdx k).map (dm lead a),P.map (λp=>(p.1,dm lead a p.2))++[(a,lead)], ?_,#[?_, ?_, ?_,#[?_, ?_], ?_], ?_, ?_];simp[SS];intro r hr;obtain⟨q,hq,rfl⟩:=pr.mp hr;rw[xj (by rw[ll,h.ll q (sub q hq)]),h.ll q (sub q hq)];intro r hr i hi;obtain⟨q,hq,rfl⟩:=pr.mp hr;have Y:q.length=lead.length:=by rw[ll,h.ll q (sub q hq)]
 by_cases an:i=a;subst an;exact FW lp Y;exact vc lp Y (h.lz q (sub q hq) i ⋯) (lz i ⋯);intro r hr;obtain⟨q,hq,rfl⟩:=pr.mp hr;exact A1 (h.lw q (sub q hq));intro p hp;rcases wn.mp hp with hp | hp
 obtain⟨q,hq,rfl⟩:=pr.mp hp;have g:=h.pl.good q hq;have Y:q.2.length=lead.length:=by rw[ll,g.len]
 have pp:=Kk lp Y g.pos (lz q.1 (h.pa q hq));exact#[by rw[xj Y];exact g.len,g.lt,pp,λi hi=>vc lp Y (g.zero i hi) (lz i (Nat.lt_trans hi (h.pa q hq))),A1 (λi _=>g.one) q.1 ⋯];rw[wf.mp hp];exact#[ll,ha,lp,lz,lw a ⋯];rw[List.pairwise_append];refine#[?_,by simp,λp hp q hq=> ?_];rw[So];refine RZ (λ{p q} hp hq hpq=> ?_) h.pl.pw;refine#[hpq.1, ?_];have g:=h.pl.good p hp;exact vc lp (by rw[ll,g.len]) hpq.2 (lz q.1 (h.pa q hq));obtain⟨p',hp',rfl⟩:=pr.mp hp;rw[wf.mp hq];exact#[h.pa p' hp',FW lp (by rw[ll,(h.pl.good p' hp').len])];intro p hp;rcases wn.mp hp with hp | hp
 obtain⟨q,hq,rfl⟩:=pr.mp hp;exact Tn (h.pa q hq);rw[wf.mp hp];exact Tt a;have:=ab.length_eq;simp only[ss,x0,wT,UF] at *;omega;intro x;have am:dH n lead x=0↔dH n row x=0:=by rw[<- ac];exact Mc n row a x
 constructor;intro hx r hr;have h0:dH n lead x=0:=hx lead (by simp);rcases wn.mp hr with hr | hr
 obtain⟨p,hp,rfl⟩:=pr.mp hr;exact(wF n lp (by rw[ll,(h.pl.good p hp).len]) h0).mp (hx _ (Ru _ (pr.mpr #[(p.1,dm lead a p.2),by simp;exact .inl #[p.1,p.2,hp,rfl,rfl],rfl])));rcases vr.mp (ab.mem_iff.mp hr) with rfl | hr
 exact am.mp h0;exact(wF n lp (by rw[ll,h.ll r (sub r hr)]) h0).mp (hx _ (Fa _ (pr.mpr #[r,hr,rfl])));intro hx r hr;have h0:dH n lead x=0:=am.mpr (hx row (Fa _ hm));rcases wn.mp hr with hr | hr
 obtain⟨q,hq,rfl⟩:=pr.mp hr;rcases wn.mp hq with hq | hq
 obtain⟨p,hp,rfl⟩:=pr.mp hq;exact(wF n lp (by rw[ll,(h.pl.good p hp).len]) h0).mpr (hx _ (Ru _ (pr.mpr #[p,hp,rfl])));rw[wf.mp hq];exact h0;obtain⟨q,hq,rfl⟩:=pr.mp hr;exact(wF n lp (by rw[ll,h.ll q (sub q hq)]) h0).mpr (hx _ (Fa _ (sub q hq)))
theorem xD{n:Nat}{left:List (List Int)}(hl:∀r∈left,r.length=n)(hw:∀r∈left,vv r):∀a,a<=n->
 ∃U Y,(tz a).foldl c7 (left,[])=(U,Y.map (·.2))/\PSt n a U Y/\U.length+Y.length=left.length/\∀x,eD n (Y.map (·.2)++U) x↔eD n left x
 | 0,_=>#[left,[],rfl,#[hl,λ_ _ i hi=>⋯,hw,#[by simp,by simp],by simp],by simp,λx=>by simp]
 | a+1,ha=>by obtain⟨l1,P1,e1,s1,c1,n1⟩:=xD hl hw a ⋯;obtain⟨l2,P2,e2,s2,c2,n2⟩:=MK ⋯ s1;refine#[l2,P2, ?_,s2,⋯,λx=>(n2 x).trans (n1 x)];rw[Vu,Tp,e1];exact e2
theorem Jl(h:∀i,i<n->nth r i=0)(x:Nat->Int):dH n r x=0:=eM λi hi=>by rw[h i hi];omega
theorem jL(U:∀r∈rows,r.length=n):∃P,cj rows n=P.map (·.2)/\Pl n P/\P.length<=rows.length/\∀x,eD n (cj rows n) x↔eD n rows x:=by
 obtain⟨l,P,e,s,c,Y⟩:=xD (n:=n) (left:=rows.map low) (λr hr=>by
  obtain⟨q,hq,rfl⟩:=pr.mp hr;rw[low_length];exact U q hq) (λr hr=>by
  obtain⟨q,hq,rfl⟩:=pr.mp hr;exact tN q) n (ut n)
 have e':cj rows n=P.map (·.2):=by unfold cj;rw[e]
 refine#[P,e',s.pl,by rw[ss] at c;omega,λx=> ?_];rw[e'];have n1:eD n (P.map (·.2)++l) x↔eD n (P.map (·.2)) x:=by
  constructor;exact λh r hr=>h r (Ru _ hr);intro h r hr;rcases wn.mp hr with hr | hr
  exact h r hr;exact Jl (s.lz r hr) x
 have n2:eD n (rows.map low) x↔eD n rows x:=by constructor;exact λh r hr=>(yi n r x).mp (h _ (pr.mpr #[r,hr,rfl]));intro h r hr;obtain⟨q,hq,rfl⟩:=pr.mp hr;exact(yi n q x).mpr (h q hq)
 exact n1.symm.trans ((Y x).trans n2)
def bh(n:Nat)(f g:Nat->Int):Int:=bu n λi=>f i*g i
theorem bK(n:Nat)(f g:Nat->Int):bh n f g=bh n g f:=bV λi _=>Rg _ _
theorem fM{x:Nat->Int}:dH n r x=bh n (nth r) x:=rfl
theorem kU{a b c:Nat->Int}{g u v:Int}(h:∀i,i<n->g*c i=u*a i+v*b i)(x:Nat->Int):g*bh n c x=u*bh n a x+v*bh n b x:=by unfold bh;rw[<- d8,<- d8,<- d8,<- pA];refine bV λi hi=> ?_;have:=h i hi;grind
theorem By{a b:Nat->Int}{u v:Int}(x:Nat->Int):bh n x (λi=>u*a i+v*b i)=u*bh n x a+v*bh n x b:=by rw[bK n x a,bK n x b,bK,<- kU (g:=1) (c:=λi=>u*a i+v*b i) (λi _=>⋯) x];omega
theorem Gk{n:Nat}{a b:Nat->Int}(h:∀i,i<n->a i=b i)(x:Nat->Int):bh n a x=bh n b x:=bV λi hi=>by rw[h i hi]
def dy(T:List Int)(R:List (List Int))(i:Nat):Int:=bu R.length λj=>nth T j*nth (R.getD j []) i
theorem qA{m n:Nat}{f:Nat->Nat->Int}:bu m (λi=>bu n λj=>f i j)=bu n λj=>bu m λi=>f i j:=by
 induction m with
 | zero=>rw[eM (n:=n) (f:=λj=>bu 0 λi=>f i j) λ_ _=>rfl];rfl
 | succ m U=>simp only[bu];rw[pA,U]
theorem K2{x:Nat->Int}:bh n (dy T R) x=bu R.length λj=>nth T j*dH n (R.getD j []) x:=by
 unfold bh dy;have:∀i,(bu R.length λj=>nth T j*nth (R.getD j []) i)*x i=bu R.length λj=>nth T j*(nth (R.getD j []) i*x i):=λi=>by rw[Rg,<- d8];refine bV λj _=>by grind
 rw[bV λi _=>this i,qA];refine bV λj _=> ?_;unfold dH;rw[<- d8]
theorem B7{x:Nat->Int}(h:eD n R x):bh n (dy T R) x=0:=by rw[K2];refine eM λj U=> ?_;rw[h _ (getD_mem U)];omega
def iC(n:Nat)(R:List (List Int))(x:Nat->Int):Prop:=∃k:Int,k≠0/\∃T:List Int,T.length=R.length/\∀i,i<n->k*x i=dy T R i
theorem iC.dot{x y:Nat->Int}(h:iC n R x)(hy:eD n R y):bh n x y=0:=by
 obtain⟨k,hk,T,_,e⟩:=h;have h1:k*bh n x y=1*bh n (dy T R) y+0*bh n x y:=kU (g:=k) (c:=x) (a:=dy T R) (b:=x) (u:=1) (v:=0) (λi hi=>by rw[e i hi];omega) y;rw[B7 hy] at h1;have:k*bh n x y=0:=⋯;rcases Q9.mp this with z | z
 exact absurd z hk;exact z
theorem tq(U:T.length=R.length)(c:Int)(r:List Int)(i:Nat):dy (T++[c]) (R++[r]) i=dy T R i+c*nth r i:=by unfold dy;rw[x0,Fk,bu];congr 1;refine bV λj Y=> ?_;simp only[nth,nu];rw[wv ⋯,wv Y];simp only[nth,nu];rw[wE ⋯,wE ⋯,U];simp
def ee(n a:Nat):List Int:=(ux n 0).set a 1
theorem dr(ha:a<n)(i:Nat):nth (ee n a) i=if i=a then 1 else 0:=by unfold ee nth;rw[nu,List.getElem?_set];by_cases h:a=i;subst h;simp[ha];rw[if_neg h,if_neg (λz=>h z.symm)];rw[G2];split <;> rfl
def cJ(n:Nat):List (List Int):=(tz n).map (ee n)
def aG(a b:List Int):Int:=(RY (· * ·) a b).sum
def eK(lists:List (List Int))(row:List Int):List (List Int):=
 match dt (lists.map (aG row)) with
 | none=>lists
 | some k=>(lists.eraseIdx k).map λone=>cX one (aG row one) (lists.getD k []) (aG row (lists.getD k []))
def lG(rows:List (List Int))(n:Nat):List (List Int):=rows.foldl eK (cJ n)
def bo(rows:List (List Int))(n:Nat):List (List Int):=cj (lG rows n) n
theorem Eb:∀(a b:List Int),aG a b=bu b.length λi=>nth a i*nth b i
 | _,[]=>by unfold aG;simp[bu]
 | [],b::r=>by unfold aG;rw[eM λi _=>by unfold nth;simp];simp
 | a::l,b::r=>by
  have Y:=Eb l r;unfold aG at *;rw[List.zipWith_cons_cons,S5,Y,wT];have:∀(n:Nat) (f:Nat->Int),bu (n+1) f=f 0+bu n λi=>f (i+1):=by
   intro n f;induction n with
   | zero=>simp[bu]
   | succ n U=>rw[bu,U,bu];omega
  rw[this];congr 1
theorem jT{a b:List Int}(hb:b.length=n):aG a b=bh n (nth a) (nth b):=by rw[Eb,hb];rfl
structure SSt(n:Nat)(R lists:List (List Int)):Prop where
 len:∀l∈lists,l.length=n
 nul:∀r∈R,∀l∈lists,bh n (nth r) (nth l)=0
 spn:∀x,eD n lists x->iC n R x
theorem J4(n:Nat):SSt n [] (cJ n):=by refine#[λl U=> ?_,λr hr=>by simp at hr,λx hx=>#[1,∅,[],rfl,λi hi=> ?_]];obtain⟨a,_,rfl⟩:=pr.mp U;unfold ee;simp;have:=hx (ee n i) (pr.mpr #[i,Ch.mpr hi,rfl]);unfold dH at this;rw[fU hi (λj _ Y=>by rw[dr hi,if_neg Y];omega),dr hi,if_pos rfl] at this;rw[show dy [] [] i=0 from rfl];omega
theorem DX{R lists:List (List Int)}(hr:row.length=n)(s:SSt n R lists):SSt n (R++[row]) (eK lists row):=by
 unfold eK;split;rename_i e;have z:∀l∈lists,aG row l=0:=λl U=>pj e _ (pr.mpr #[l,U,rfl]);refine#[s.len,λr ab l U=> ?_,λx hx=> ?_];rcases wn.mp ab with q | q
 exact s.nul r q l U;rw[wf.mp q,<- jT (s.len l U)];exact z l U;obtain⟨k,hk,T,hT,e⟩:=s.spn x hx;exact#[k,hk,T++[0],by simp[hT],λi hi=>by rw[tq hT,e i hi];omega];rename_i k e;obtain⟨k1,k2,_⟩:=gO e;rw[ss] at k1;have hm:=getD_mem k1;have ac:lists.Perm (lists.getD k []::lists.eraseIdx k):=by rw[nu,sn k1];exact tK k1
 have hv:nth (lists.map (aG row)) k=aG row (lists.getD k []):=by unfold nth;simp only[nu,wP,sn k1];rfl
 rw[hv] at k2;generalize lists.getD k []=base at *;have Y:=s.len base hm;have sub:∀l∈lists.eraseIdx k,l∈lists:=λl U=>RG U;refine#[λl U=> ?_,λr ab l U=> ?_,λx hx=> ?_];obtain⟨q,hq,rfl⟩:=pr.mp U;rw[nq (by rw[Y,s.len q (sub q hq)]),s.len q (sub q hq)];obtain⟨q,hq,rfl⟩:=pr.mp U;have an:=s.len q (sub q hq);obtain⟨g,hg,e⟩:=xV (n:=n) (one:=q) (other:=base) (by rw[Y,an]) (aG row q) (aG row base) (nth r);rw[bK];simp only[fM] at e;rw[bK n (nth q),bK n (nth base)] at e;have z:g*bh n (nth (cX q (aG row q) base (aG row base))) (nth r)=0:=by rcases wn.mp ab with q' | q';rw[e,s.nul r q' q (sub q hq),s.nul r q' base hm];omega;rw[wf.mp q'] at e ⊢;rw[e,<- jT an,<- jT Y];grind
 rcases Q9.mp z with z | z;omega;exact z;have hc:∀l∈lists,aG row base*dH n l x=aG row l*dH n base x:=λl U=>by rcases vr.mp (ac.mem_iff.mp U) with rfl | hl';rfl;obtain⟨g,hg,e⟩:=xV (n:=n) (one:=l) (other:=base) (by rw[Y,s.len l U]) (aG row l) (aG row base) x;rw[hx _ (pr.mpr #[l,hl',rfl])] at e;omega
 have ap:eD n lists (λi=>aG row base*x i+(-(dH n base x))*nth row i):=λl U=>by rw[fM,By,<- fM,hc l U,bK,<- jT (s.len l U)];grind
 obtain⟨k',as,T,hT,e'⟩:=s.spn _ ap;refine#[k'*aG row base,UD as k2,T++[k'*dH n base x],by simp[hT],λi hi=> ?_];rw[tq hT,<- e' i hi];grind
theorem zr{n:Nat}:∀{rows:List (List Int)},(∀r∈rows,r.length=n)->∀{R lists:List (List Int)},SSt n R lists->SSt n (R++rows) (rows.foldl eK lists)
 | [],_,R,lists,s=>by simpa using s
 | row::rows,h,R,lists,s=>by have:=zr (rows:=rows) (λr hr=>h r (sB _ hr)) (DX (h row sH) s);simpa using this
theorem qf(h:∀r∈rows,r.length=n):SSt n rows (lG rows n):=by have:=zr h (J4 n);rw[xz] at this;exact this
theorem g6(h:∀r∈rows,r.length=n):
 ∃P,bo rows n=P.map (·.2)/\Pl n P/\(∀r∈rows,∀l∈bo rows n,bh n (nth l) (nth r)=0)/\∀x,eD n (bo rows n) x->iC n rows x:=by
 have s:=qf h;obtain⟨P,e,pl,_,Y⟩:=jL (n:=n) (rows:=lG rows n) s.len;refine#[P,e,pl,λr hr l U=> ?_,λx hx=>s.spn x ((Y x).mp hx)];have:eD n (lG rows n) (nth r):=λl U=>by rw[fM,bK];exact s.nul r hr l U
 exact(Y _).mpr this l U
theorem oF(h:∀r∈rows,r.length=n)(x:Nat->Int):eD n (bo rows n) x↔iC n rows x:=by obtain⟨P,_,_,h1,h2⟩:=g6 h;refine#[h2 x,λs l U=> ?_];rw[fM,bK];exact s.dot λr hr=>by rw[fM,bK];exact h1 r hr l U
theorem Jm:bu (n+1) f=f 0+bu n λi=>f (i+1):=by
 induction n with
 | zero=>simp[bu]
 | succ n U=>rw[bu,U,bu];omega
theorem Jc{i:Nat}:nth (r.drop 1) i=nth r (i+1):=by unfold nth;rw[nu,nu,List.getElem?_drop,Ux]
def bF(rows:List (List Int))(goal:List Int):List (List Int):=(tz goal.length).map λa=>(goal::rows).map (nth · a)
def jV(rows:List (List Int))(goal:List Int):Option (Int×List Int):=match bo (bF rows goal) (1+rows.length) with
 | []=>na
 | s::_=>if nth s 0=0 then na else lH (nth s 0,(s.drop 1).map (- ·))
theorem gY:∀r∈bF rows goal,r.length=1+rows.length:=by intro r hr;obtain⟨a,_,rfl⟩:=pr.mp hr;simp;omega
theorem sP(rows:List (List Int))(goal:List Int)(h:a<goal.length)(j:Nat):nth ((bF rows goal).getD a []) j=nth ((goal::rows).getD j []) a:=by
 have:(bF rows goal).getD a []=(goal::rows).map (nth · a):=by unfold bF;rw[nu,wP,R5 h];rfl
 rw[this,xc]
theorem HA(Y:goal.length=n){b:Int}{ts:List Int}(e:jV rows goal=lH (b,ts)):
 0<b/\ts.length=rows.length/\∀i,i<n->b*nth goal i=dy ts rows i:=by
 obtain⟨P,U,pl,h1,_⟩:=g6 (n:=1+rows.length) (rows:=bF rows goal) gY;unfold jV at e;split at e;cases e;rename_i s rest es;split at e;cases e;rename_i hz;cases e;have hs:s∈bo (bF rows goal) (1+rows.length):=by rw[es];exact sH
 rw[U] at hs;obtain⟨p,hp,rfl⟩:=pr.mp hs;have g:=pl.good p hp;have h0:p.1=0:=by by_cases h:p.1=0;exact h;exact absurd (g.zero 0 ⋯) hz
 have gp:=g.pos;rw[h0] at gp;refine#[gp,by rw[ss,Sx,g.len];omega,λi hi=> ?_];have hd:=h1 ((bF rows goal).getD i []) (getD_mem (by unfold bF;simp;omega)) p.2 (by rw[U];exact hs);unfold bh at hd;rw[Ux 1,Jm] at hd;rw[sP rows goal ⋯] at hd;unfold dy;have e2:(bu rows.length λj=>nth ((p.2.drop 1).map (- ·)) j*nth (rows.getD j []) i)=(-1)*bu rows.length λj=>nth p.2 (j+1)*nth ((bF rows goal).getD i []) (j+1):=by rw[<- d8];refine bV λj _=> ?_;rw[je (by simp),Jc,sP rows goal ⋯];show _= -1*(nth p.2 (j+1)*nth (rows.getD j []) i);grind
 rw[e2];have:nth ((goal::rows).getD 0 []) i=nth goal i:=rfl;rw[this] at hd;omega
theorem IS(hg:goal.length=n)(e:jV rows goal=na):∃t,eD n rows t/\bh n (nth goal) t≠0:=by
 obtain⟨P,eP,pl,_,h2⟩:=g6 (n:=1+rows.length) (rows:=bF rows goal) gY;have hz:∀l∈bo (bF rows goal) (1+rows.length),nth l 0=0:=by
  unfold jV at e;split at e;rename_i es;rw[es];simp;rename_i s rest es;split at e;rename_i hz;rw[eP] at es ⊢;cases P with
  | nil=>simp
  | cons p P=>
   rw[ww] at es;injection es with e1 e2
   intro l U;obtain⟨q,hq,rfl⟩:=pr.mp U;rcases vr.mp hq with rfl | hq'
   rw[e1];exact hz;have:=(Q8.mp pl.pw).1 q hq';exact(pl.good q hq).zero 0 ⋯
  cases e
 have hx:eD (1+rows.length) (bo (bF rows goal) (1+rows.length)) (λi=>if i=0 then 1 else 0):=λl U=>by unfold dH;rw[fU (k:=0) ⋯ (λi _ hi=>by dsimp only;rw[if_neg hi];omega)];dsimp only;rw[if_pos rfl,hz l U];rfl
 obtain⟨k,hk,T,hT,e3⟩:=h2 _ hx;have U:(bF rows goal).length=n:=by unfold bF;simp[hg]
 have ec:∀j,dy T (bF rows goal) j=bh n (nth ((goal::rows).getD j [])) (nth T):=λj=>by unfold dy bh;rw[U];refine bV λi hi=> ?_;rw[sP rows goal ⋯,Rg]
 refine#[nth T,λr hr=> ?_, ?_];obtain⟨j,hj,rfl⟩:=Rq hr;have:=e3 (j+1) ⋯;dsimp only at this;rw[ec,if_neg ⋯] at this;rw[fM];have Y:(goal::rows).getD (j+1) []=rows[j]:=by simp[nu,hj]
 rw[Y] at this;omega;have:=e3 0 ⋯;dsimp only at this;rw[ec,if_pos rfl] at this;have Y:(goal::rows).getD 0 []=goal:=rfl;rw[Y] at this;omega
theorem DA(U:goal.length=n)(h:iC n rows (nth goal)):∃b ts,jV rows goal=lH (b,ts):=by
 cases e:jV rows goal with
 | some x=>exact#[x.1,x.2,rfl]
 | none=>
  obtain⟨t,h1,h2⟩:=IS U e;exact absurd (h.dot h1) h2
def iw(P:List (Nat×List Int)):Int:=(P.map λp=>nth p.2 p.1).foldr (· * ·) 1
theorem yX:∀{P:List (Nat×List Int)},(∀p∈P,0<nth p.2 p.1)->0<iw P
 | [],_=>∅
 | p::P,h=>Rv (h p sH) (yX λq hq=>h q (sB _ hq))
theorem su:∀{P:List (Nat×List Int)} {p:Nat×List Int},p∈P->nth p.2 p.1 ∣ iw P
 | q::P,p,h=>by rcases vr.mp h with rfl | h;exact Int.dvd_mul_right _ _;exact Int.dvd_trans (su h) (Int.dvd_mul_left _ _)
def sI(P:List (Nat×List Int))(L:Int)(f i:Nat):Int:=(P.map λp=>if i=p.1 then nth p.2 f*(L/nth p.2 p.1) else 0).sum
def iN(P:List (Nat×List Int))(f i:Nat):Int:=(if i=f then iw P else 0)-sI P (iw P) f i
theorem jC{L:Int}{f i:Nat}:∀{P:List (Nat×List Int)},(∀p∈P,p.1≠i)->sI P L f i=0
 | [],_=>rfl
 | p::P,h=>by unfold sI;rw[ww,S5,if_neg (λz=>h p sH z.symm)];have:=jC (L:=L) (f:=f) (i:=i) (P:=P) λq hq=>h q (sB _ hq);unfold sI at this;omega
theorem xW{L:Int}{f:Nat}:∀{P:List (Nat×List Int)} {p:Nat×List Int},P.Pairwise (λp q=>p.1<q.1/\nth p.2 q.1=0)->p∈P->sI P L f p.1=nth p.2 f*(L/nth p.2 p.1)
 | q::P,p,pw,h=>by
  have h0:=Q8.mp pw;rcases vr.mp h with rfl | hp'
  have:=jC (L:=L) (f:=f) (i:=p.1) (P:=P) λr hr=>by have:=(h0.1 r hr).1;omega
  unfold sI at *;rw[ww,S5,if_pos rfl,this];omega;have U:=xW (L:=L) (f:=f) h0.2 hp';have:=(h0.1 p hp').1;unfold sI at *;rw[ww,S5,if_neg ⋯,U];omega
theorem Pl.other(pl:Pl n P):∀{p q:Nat×List Int},p∈P->q∈P->p.1≠q.1->nth p.2 q.1=0:=by
 intro p q hp hq U;by_cases h:q.1<p.1;exact(pl.good p hp).zero _ h;have:∀{P:List (Nat×List Int)},P.Pairwise (λp q=>p.1<q.1/\nth p.2 q.1=0)->p∈P->q∈P->p.1<q.1->nth p.2 q.1=0:=by
  intro P pw hp hq Y;induction P with
  | nil=>cases hp
  | cons r P ih=>
   have h0:=Q8.mp pw;rcases vr.mp hp with rfl | hp
   rcases vr.mp hq with rfl | hq;omega;exact(h0.1 q hq).2;rcases vr.mp hq with rfl | hq;have:=(h0.1 p (by assumption)).1;omega;exact ih h0.2 hp hq
 exact this pl.pw hp hq ⋯
theorem Kg{n f c:Nat}(Y:f<n)(hc:c<n)(U:f≠c)(h:∀i,i<n->i≠f->i≠c->g i=0):bu n g=g f+g c:=by
 have:bu n g=bu n (λi=>if i=f then g f else 0)+bu n (λi=>if i=c then g c else 0):=by rw[<- pA];refine bV λi hi=> ?_;by_cases h1:i=f;subst h1;rw[if_pos rfl,if_neg U];omega;by_cases h2:i=c;subst h2;rw[if_neg h1,if_pos rfl];omega;rw[if_neg h1,if_neg h2,h i hi h1 h2];rfl
 rw[this,fU Y (λi _ hi=>by rw[if_neg hi]),fU hc (λi _ hi=>by rw[if_neg hi]),if_pos rfl,if_pos rfl]
theorem AH(pl:Pl n P){f:Nat}(Y:f<n)(U:∀p∈P,p.1≠f)(hp:p∈P)(hr:∀q∈P,q.1≠p.1->nth r q.1=0):
 dH n r (iN P f)=nth r f*iw P-nth r p.1*(nth p.2 f*(iw P/nth p.2 p.1)):=by
 unfold dH;rw[Kg Y (pl.good p hp).lt (λz=>U p hp z.symm) (λi _ h1 h2=> ?_)];have e1:iN P f f=iw P:=by unfold iN;rw[if_pos rfl,jC U];omega
 have e2:iN P f p.1= -(nth p.2 f*(iw P/nth p.2 p.1)):=by unfold iN;rw[if_neg (U p hp),xW pl.pw hp];omega
 rw[e1,e2];grind;by_cases hq:∃q∈P,q.1=i;obtain⟨q,hq,rfl⟩:=hq;rw[hr q hq h2];omega;have:iN P f i=0:=by unfold iN;rw[if_neg h1,jC λq hq' z=>hq #[q,hq',z]];rfl
 rw[this];omega
theorem tJ(pl:Pl n P){f:Nat}(hf:f<n)(U:∀p∈P,p.1≠f):eD n (P.map (·.2)) (iN P f):=by
 intro r hr;obtain⟨p,hp,rfl⟩:=pr.mp hr;rw[AH pl hf U hp λq hq h=>pl.other hp hq λz=>h z.symm];have hd:=su hp;have Y:=(pl.good p hp).pos;obtain⟨k,hk⟩:=hd;have:iw P/nth p.2 p.1=k:=by rw[hk,Th _ ⋯]
 rw[this,hk];grind
theorem Gv(pl:Pl n P){f:Nat}(U:∀p∈P,p.1≠f){i:Nat}(hi:f<i):iN P f i=0:=by unfold iN;rw[if_neg ⋯];by_cases hq:∃q∈P,q.1=i;obtain⟨q,hq,rfl⟩:=hq;rw[xW pl.pw hq,(pl.good q hq).zero f hi];omega;rw[jC λq hq' z=>hq #[q,hq',z]];rfl
theorem Pl.leads_pos(pl:Pl n P):0<iw P:=yX λp hp=>(pl.good p hp).pos
theorem wJ{P Q:List (Nat×List Int)}(pl:Pl n P)(Y:Pl n Q)(h:∀x,eD n (Q.map (·.2)) x->eD n (P.map (·.2)) x)(hp:p∈P):∃q∈Q,q.1=p.1:=by
 apply Rh;intro hn;have U:∀q∈Q,q.1≠p.1:=λq hq z=>hn #[q,hq,z];have g:=pl.good p hp;have:=h _ (tJ Y g.lt U) p.2 (pr.mpr #[p,hp,rfl]);unfold dH at this;rw[fU g.lt λi _ hi=> ?_] at this;have e:iN Q p.1 p.1=iw Q:=by unfold iN;rw[if_pos rfl,jC U];omega
 rw[e] at this;have h1:=Y.leads_pos;have h2:=g.pos;have:=Rv h2 h1;omega;by_cases ab:i<p.1;rw[g.zero i ab];omega;rw[Gv Y U ⋯];omega
theorem BL:∀{l m:List Nat},l.Pairwise (· < ·)->m.Pairwise (· < ·)->(∀x,x∈l↔x∈m)->l=m
 | [],[],_,_,_=>rfl
 | [],b::m,_,_,h=>by have:=(h b).mpr sH;cases this
 | a::l,[],_,_,h=>by have:=(h a).mp sH;cases this
 | a::l,b::m,hl,hm,h=>by
  have h1:=Q8.mp hl;have h2:=Q8.mp hm;have U:a=b:=by rcases vr.mp ((h a).mp sH) with e | e;exact e;rcases vr.mp ((h b).mpr sH) with e' | e';exact e'.symm;have:=h1.1 b e';have:=h2.1 a e;omega
  subst U;congr 1;refine BL h1.2 h2.2 λx=>#[λhx=> ?_,λhx=> ?_];rcases vr.mp ((h x).mp (sB _ hx)) with e | e
  have:=h1.1 x hx;omega;exact e;rcases vr.mp ((h x).mpr (sB _ hx)) with e | e
  have:=h2.1 x hx;omega;exact e
theorem D3(a:Int)(r:List Int):cE (r.map (a * ·))=a.natAbs*cE r:=by
 unfold cE;have:∀(l:List Int) (c:Nat),(l.map (a * ·)).foldl (λc n=>R6 c n.natAbs) (a.natAbs*c)=a.natAbs*l.foldl (λc n=>R6 c n.natAbs) c:=by
  intro l;induction l with
  | nil=>intro c;rfl
  | cons b l U=>intro c;simp only[ww,RQ,SV,Nat.gcd_mul_left];exact U _
 exact this r 0
theorem uT(U:r.length=s.length)(h:∀i,i<r.length->nth r i=nth s i):r=s:=by refine Sv U λi h1 h2=> ?_;have:=h i h1;unfold nth at this;simpa[nu,h1,h2] using this
theorem Fq(Y:r.length=s.length)(h1:cE r=1)(h2:cE s=1){a b:Int}(ha:0<a)(hb:0<b)(h:∀i,i<r.length->a*nth r i=b*nth s i):r=s:=by
 have e:r.map (a * ·)=s.map (b * ·):=uT (by simp[Y]) λi hi=>by rw[je (by simp),je (by simp)];exact h i (by simpa using hi)
 have e2:=D3 a r;rw[e,D3,h1,h2] at e2;have U:a=b:=⋯;subst U;exact uT Y λi hi=>Ue ⋯ (h i hi)
theorem Gu{P Q:List (Nat×List Int)}(pl:Pl n P)(Y:Pl n Q)(h:∀x,eD n (P.map (·.2)) x↔eD n (Q.map (·.2)) x):P=Q:=by
 have hf:P.map (·.1)=Q.map (·.1):=by refine BL (So.mpr (pl.pw.imp λh=>h.1)) (So.mpr (Y.pw.imp λh=>h.1)) λx=>#[λhx=> ?_,λhx=> ?_];obtain⟨p,hp,rfl⟩:=pr.mp hx;obtain⟨q,hq,e⟩:=wJ pl Y (λx=>(h x).mpr) hp;exact pr.mpr #[q,hq,e];obtain⟨p,hp,rfl⟩:=pr.mp hx;obtain⟨q,hq,e⟩:=wJ Y pl (λx=>(h x).mp) hp;exact pr.mpr #[q,hq,e]
 have key:∀p∈P,∀q∈Q,p.1=q.1->p.2=q.2:=λp hp q hq ac=>by
  have gp:=pl.good p hp;have gq:=Y.good q hq;refine Fq (by rw[gp.len,gq.len]) gp.one gq.one (a:=nth q.2 q.1) (b:=nth p.2 p.1) gq.pos gp.pos λi hi=> ?_;by_cases ab:∃p'∈P,p'.1=i;obtain⟨p',hp',rfl⟩:=ab;by_cases hc:p'.1=p.1;rw[hc,<- ac];grind;obtain⟨q',hq',e⟩:=wJ pl Y (λx=>(h x).mpr) hp';rw[pl.other hp hp' (λz=>hc z.symm),<- e,Y.other hq hq' ⋯];omega;have U:∀p∈P,p.1≠i:=λp' hp' z=>ab #[p',hp',z];have am:i<n:=by rw[gp.len] at hi;exact hi
  have:=(h _).mp (tJ pl am U) q.2 (pr.mpr #[q,hq,rfl]);rw[AH pl am U hp (r:=q.2) λp' hp' a1=>by obtain⟨q',hq',e⟩:=wJ pl Y (λx=>(h x).mpr) hp';rw[<- e];exact Y.other hq hq' ⋯] at this
  obtain⟨k,hk⟩:=su hp;have a0:=gp.pos;have e1:iw P/nth p.2 p.1=k:=by rw[hk,Th _ ⋯]
  have as:k≠0:=λz=>by have:=pl.leads_pos;rw[hk,z] at this;omega
  rw[e1,hk,ac] at this;have:k*(nth q.2 q.1*nth p.2 i-nth p.2 p.1*nth q.2 i)=0:=by rw[ac];grind
  rcases Q9.mp this with z | z;exact absurd z as;omega
 have an:P.length=Q.length:=by have:=congrArg S7 hf;simpa using this
 refine Sv an λi h1 h2=> ?_;have e1:P[i].1=Q[i].1:=by
  have:(P.map (·.1))[i]'(by simpa using h1)=(Q.map (·.1))[i]'(by simpa using h2):=by simp only[hf]
  simpa using this
 exact VQ e1 (key _ (Cg h1) _ (Cg h2) e1)
theorem AQ{R S:List (List Int)}(U:∀r∈R,r.length=n)(Y:∀r∈S,r.length=n)(h:∀x,eD n R x↔eD n S x):cj R n=cj S n:=by
 obtain⟨P,e1,p1,_,n1⟩:=jL U;obtain⟨Q,e2,p2,_,n2⟩:=jL Y;have:P=Q:=Gu p1 p2 λx=>by rw[<- e1,<- e2];exact(n1 x).trans ((h x).trans (n2 x).symm)
 rw[e1,e2,this]
theorem oE(U:∀r∈R,r.length=n):∀r∈cj R n,r.length=n:=by obtain⟨P,e1,p1,_⟩:=jL U;rw[e1];intro r hr;obtain⟨p,hp,rfl⟩:=pr.mp hr;exact(p1.good p hp).len
theorem wZ(U:∀r∈R,r.length=n):cj (cj R n) n=cj R n:=by obtain⟨P,e1,p1,_,Y⟩:=jL U;exact AQ (oE U) U Y
theorem gU(U:∀r∈R,r.length=n):∀r∈bo R n,r.length=n:=oE (qf U).len
theorem wW(U:∀r∈R,r.length=n):bo (bo R n) n=cj R n:=by
 have Y:=gU U;obtain⟨P,_,_,h1,h2⟩:=g6 U;obtain⟨Q,_,_,h3,h4⟩:=g6 Y;have ab:=gU Y;rw[<- wZ U];have:bo (bo R n) n=cj (bo (bo R n) n) n:=(wZ (R:=lG (bo R n) n) (qf Y).len).symm;rw[this];refine AQ ab (oE U) λx=> ?_;obtain⟨_,_,_,_,n1⟩:=jL U;rw[n1,oF Y];constructor;intro s r hr;rw[fM,bK];exact s.dot λl hl=>h1 r hr l hl;intro hx;refine h4 x λl hl=> ?_;have:eD n (bo R n) (nth l):=λq hq=>by rw[fM,bK];exact h3 q hq l hl
 exact(h2 _ this).dot hx
def SzL(b:Nat)(r:List Int):Prop:=∀x∈r,Sz b x
def cD(b:Nat)(R:List (List Int)):Prop:=∀r∈R,SzL b r
theorem SzL.mono(h:SzL b r)(U:b<=c):SzL c r:=λx hx=>(h x hx).mono U
theorem cD.mono{r:List (List Int)}(h:cD b r)(U:b<=c):cD c r:=λx hx=>(h x hx).mono U
theorem Sz.zero(b:Nat):Sz b 0:=by unfold Sz;simp;exact TN b
theorem SzL.nth(h:SzL b r)(i:Nat):Sz b (M.nth r i):=by by_cases hi:i<r.length;exact h _ (wC hi);rw[i8 ⋯];exact Sz.zero b
theorem SzL.low(h:SzL b r):SzL b (M.low r):=by intro x hx;unfold M.low at hx;split at hx;exact h x hx;obtain⟨y,hy,rfl⟩:=pr.mp hx;exact SG (Int.natAbs_ediv_le_natAbs y _) (h y hy)
theorem SzL.mix{U Y bv bw:Nat}{one other:List Int}{v w:Int}(h1:SzL U one)(h2:SzL Y other)(hv:Sz bv v)(hw:Sz bw w):SzL (max (U+bw) (Y+bv)+1) (gM one v other w):=by intro x hx;unfold gM at hx;obtain⟨i,hi,e⟩:=Rq hx;rw[UL] at e;subst e;exact Sz.sub (Sz.mul (h1 _ (Cg _)) hw) (Sz.mul (h2 _ (Cg _)) hv)
theorem SzL.off{U Y bv bw:Nat}{one other:List Int}{v w:Int}(h1:SzL U one)(h2:SzL Y other)(hv:Sz bv v)(hw:Sz bw w):SzL (max (U+bw) (Y+bv)+1) (cX one v other w):=(SzL.mix h1 h2 hv hw).low
theorem SzL.sgn(h:SzL b r)(a:Nat):SzL b (gJ r a):=by unfold gJ;split;exact h;intro x hx;obtain⟨y,hy,rfl⟩:=pr.mp hx;exact(h y hy).neg
theorem SzL.clr{row lead:List Int}(h1:SzL b row)(h2:SzL b lead)(a:Nat):SzL (2*b+1) (dm lead a row):=by unfold dm;split;exact h1.mono ⋯;exact(SzL.off h1 h2 (h1.nth a) (h2.nth a)).mono ⋯
theorem uH{left done:List (List Int)}(h1:cD b left)(h2:cD b done):cD (2*b+1) (c7 (left,done) a).1/\cD (2*b+1) (c7 (left,done) a).2:=by
 unfold c7;dsimp only;split;exact#[h1.mono ⋯,h2.mono ⋯];rename_i k e;have Y:=(gO e).1;rw[ss] at Y;have U:SzL b (gJ (left.getD k []) a):=SzL.sgn (h1 _ (getD_mem Y)) a;refine#[λr hr=> ?_,λr hr=> ?_];obtain⟨q,hq,rfl⟩:=pr.mp hr;exact SzL.clr (h1 q (RG hq)) U a;rcases wn.mp hr with hr | hr
 obtain⟨q,hq,rfl⟩:=pr.mp hr;exact SzL.clr (h2 q hq) U a;rw[wf.mp hr];exact U.mono ⋯
def grow(b p:Nat):Nat:=2^p*(b+1)-1
theorem Ib:grow b 0=b:=by unfold grow;simp
theorem BE{b p:Nat}:2*grow b p+1=grow b (p+1):=by
 unfold grow;have h:0<2^p*(b+1):=Nat.mul_pos (TN p) (Nat.succ_pos b);have e:2^(p+1)*(b+1)=2*(2^p*(b+1)):=by rw[UV,Uh (2^p) 2,UQ]
 rw[e];omega
theorem Bh{b p q:Nat}(h:p<=q):grow b p<=grow b q:=by unfold grow;have:2^p*(b+1)<=2^q*(b+1):=TF _ (RH ∅ h);omega
theorem uv{left done:List (List Int)}:((c7 (left,done) a)=(left,done))\/(c7 (left,done) a).2.length=done.length+1:=by unfold c7;dsimp only;split;exact .inl rfl;exact .inr (by simp)
structure PSz(n b a:Nat)(rows:List (List Int))(left done:List (List Int)):Prop where
 eq:(tz a).foldl c7 (rows.map low,[])=(left,done)
 ll:∀r∈left,r.length=n
 dl:∀r∈done,r.length=n
 cnt:left.length+done.length=rows.length
 ls:cD (grow b done.length) left
 ds:cD (grow b done.length) done
theorem PSz.start(U:∀r∈rows,r.length=n)(hs:cD b rows):PSz n b 0 rows (rows.map low) []:=by refine#[rfl,λr hr=> ?_,by simp,by simp,λr hr=> ?_,λr hr=>by cases hr];obtain⟨q,hq,rfl⟩:=pr.mp hr;rw[low_length];exact U q hq;obtain⟨q,hq,rfl⟩:=pr.mp hr;rw[UF,Ib];exact(hs q hq).low
theorem PSz.step{rows left done:List (List Int)}(h:PSz n b a rows left done)(Y:∀r∈rows,r.length=n)(ha:a<n):PSz n b (a+1) rows (c7 (left,done) a).1 (c7 (left,done) a).2:=by
 have U:(tz (a+1)).foldl c7 (rows.map low,[])=c7 (left,done) a:=by rw[Vu,Tp,h.eq];rfl
 obtain⟨l',P',e,s,c,_⟩:=xD (n:=n) (left:=rows.map low) (λr hr=>by
  obtain⟨q,hq,rfl⟩:=pr.mp hr;rw[low_length];exact Y q hq) (λr hr=>by
  obtain⟨q,hq,rfl⟩:=pr.mp hr;exact tN q) (a+1) ⋯
 rw[U] at e;refine#[U,λr hr=> ?_,λr hr=> ?_, ?_, ?_, ?_];rw[e] at hr;exact s.ll r hr;rw[e] at hr;obtain⟨p,hp,rfl⟩:=pr.mp hr;exact(s.pl.good p hp).len;rw[e];simp;simpa using c
 ·rcases uv (a:=a) (left:=left) (done:=done) with q | q;rw[q];exact h.ls;rw[q,<- BE];exact(uH h.ls h.ds).1
 ·rcases uv (a:=a) (left:=left) (done:=done) with q | q;rw[q];exact h.ds;rw[q,<- BE];exact(uH h.ls h.ds).2
theorem PSz.done{rows left done:List (List Int)}(h:PSz n b n rows left done):cj rows n=done:=by unfold cj;rw[h.eq]
theorem HW(U:∀r∈rows,r.length=n)(hs:cD b rows):cD (grow b rows.length) (cj rows n):=by
 have:∀a,a<=n->∃left done,PSz n b a rows left done:=by
  intro a;induction a with
  | zero=>exact λ_=>#[_,_,PSz.start U hs]
  | succ a Y=>
   intro ha;obtain⟨l,d,h⟩:=Y ⋯;exact#[_,_,h.step U ⋯]
 obtain⟨l,d,h⟩:=this n (ut n);rw[h.done];exact h.ds.mono (Bh (by have:=h.cnt;omega))
section
variable {s s1 : S} {d : D}
@[simp] theorem Ag {m:AM} {s:S}:mX m s=(m s).bind λx=>match x.1 with
 | [.lst as,.lst bs]=>.ok ((fX as bs,na),x.2)
 | _=>.bad:=rfl
@[simp] theorem oi {m:AM} {s:S}:c8 m s=(m s).bind λx=>match x.1 with
 | [.lst as]=>.ok ((fj as,na),x.2)
 | _=>.bad:=rfl
@[simp] theorem Fe {s:S}:Cn m s=(m s).bind λx=>match x.1 with
 | .str z=>.ok ((pH z,na),x.2)
 | _=>.bad:=rfl
@[simp] theorem Hi {f g:Op2} {a b c:EM} {s:S}:vQ f g a b c s=(a s).bind λx=>(b x.2).bind λy=>(f y.2.o x.1 y.1).bind λz=>match z with
 | .bl on=>(c y.2).bind λw=>(g w.2.o y.1 w.1).bind λd=>.ok (d,w.2)
 | .bl tt=>.ok (.bl tt,y.2)
 | _=>.bad:=rfl
@[simp] theorem Ko {f:FM} {m:AM} {s:S}:bQ n f m s=(m s).bind λx=>if x.1.length=n then (match f x.1 x.2.o with
 | .ok (d,O1)=>.ok (d,#[x.2.r,O1])
 | _=>.bad) else .bad:=rfl
@[simp] theorem F0 {s:S}:ve m s=(m s).bind λx=>match lsD x.2.o x.1 with
 | some ds=>.ok (!ds.isEmpty,x.2)
 | none=>.bad:=rfl
@[simp] theorem MD {fin:S->List D->Res (D×S)} {mk:EM} {s:S}:uP fin ma mk s=(ma s).bind λx=>if x.1.length<=16777216 then (mk x.2).bind λy=>match y.1 with
 | .int k=>if (-(2^63)<=k/\k<2^63)/\x.1.length*k.toNat<=16777216 then fin y.2 (Gr k x.1) else .bad
 | _=>.bad
 else .bad:=rfl
@[simp] theorem Qi (s:S) (ds:List D):PD s ds=.ok (.lst ds,s):=rfl
@[simp] theorem zD {s:S}:n8 s ds=.ok (.ptr s.o.length,#[s.r,s.o++[.lst ds]]):=rfl
@[simp] theorem QB (O:aA):isD O .non .non=.ok (.bl on):=rfl
@[simp] theorem Qj (O:aA) (i:Int):isD O (.int i) .non=.ok (.bl tt):=rfl
@[simp] theorem Qu (O:aA) (i:List D):isD O (.lst i) .non=.ok (.bl tt):=rfl
@[simp] theorem Qv (O:aA) (i:List D):isD O (.tup i) .non=.ok (.bl tt):=rfl
@[simp] theorem OP (O:aA):lU O .non .non=.ok (.bl tt):=rfl
@[simp] theorem O9 (O:aA) (i:Int):lU O (.int i) .non=.ok (.bl on):=rfl
@[simp] theorem OJ (O:aA) (i:List D):lU O (.lst i) .non=.ok (.bl on):=rfl
@[simp] theorem OL (O:aA) (i:List D):lU O (.tup i) .non=.ok (.bl on):=rfl
@[simp] theorem tu {g h:GM} {a b:D} {s:S}:cS (a8 g (a8 h cW)) 2 (.tup [a,b]) s=(g a s).bind λs1=>h b s1:=by show (g a s).bind (λs1=>(h b s1).bind λs2=>.ok s2)=_;congr 1;funext s1;cases h b s1 <;> rfl
@[simp] theorem E3:gW (ns.map D.int)=lH ns:=by
 induction ns with
 | nil=>rfl
 | cons n ns U=>rw[ww,gW,U];rfl
@[simp] theorem xp {ns:List Bool}:j7 (ns.map D.bl)=lH ns:=by
 induction ns with
 | nil=>rfl
 | cons n ns U=>rw[ww,j7,U];rfl
@[simp] theorem vD:xI O [.lst (ns.map D.int)]=.ok (.int ns.sum):=by
 show (match gW (ns.map D.int) with
  | some ns=>Res.ok (D.int ns.sum)
  | none=>.bad)=_
 rw[E3]
@[simp] theorem Lb {ns:List Bool}:KW O [.lst (ns.map D.bl)]=.ok (.bl (ns.all id)):=by
 show (match j7 (ns.map D.bl) with
  | some ns=>Res.ok (D.bl (ns.all id))
  | none=>.bad)=_
 rw[xp]
@[simp] theorem PZ (O:aA) (ns:List Bool):P8 O [.lst (ns.map D.bl)]=.ok (.bl (ns.any id)):=by
 show (match j7 (ns.map D.bl) with
  | some ns=>Res.ok (D.bl (ns.any id))
  | none=>.bad)=_
 rw[xp]
end
theorem qZ {α:Type} {ok:aA->Prop} {g:GM} {c:TM} {e:EM} {O:aA} (Y:ok O) (item:α->D) (P:S->Prop) (hP:∀s,P s->s.o=O) (l:List α) (p:α->Bool) (out:α->D)
 (step:∀a∈l,∀s,P s->∃s1 s2,g (item a) s=.ok s1/\c s1=.ok (p a,s2)/\(p a=tt->P s2)/\(p a=on->∃s3,e s2=.ok (out a,s3)/\P s3)):
 ∀(U:List D) (s:S),U.length+l.length<=16777216->P s->∃s',dI ok g c e (l.map item) U s=.ok (U++(l.filter p).map out,s')/\P s':=by
 induction l with
 | nil=>
  intro U s _ h;exact#[s,by rw[RX,dI,if_pos (by rw[hP s h];exact Y)];simp,h]
 | cons a l ih=>
  intro U s hl h;rw[wT] at hl;obtain⟨s1,s2,e1,e2,h2,h3⟩:=step a sH s h;rw[ww,dI,if_pos #[by rw[hP s h];exact Y,⋯],e1,aj,e2,aj];cases hp:p a with
  | false=>
   obtain⟨s',e3,h4⟩:=ih (λb hb=>step b (sB _ hb)) U s2 ⋯ (h2 hp);refine#[s', ?_,h4];rw[Rf (by simp[hp])];simpa using e3
  | true=>
   obtain⟨s3,e3,h4⟩:=h3 hp;obtain⟨s',e5,h5⟩:=ih (λb hb=>step b (sB _ hb)) (U++[out a]) s3 (by rw[x0,Fk];omega) h4;refine#[s', ?_,h5];rw[Go hp];simp only[if_true,e3,aj,e5];simp
section
variable {α : Type} {caps : List Nat} {im : IM} {c : TM} {e : EM} {s : S} {k : Option Nat} {l : List α} {item out : α → D} {p : α → Bool}
theorem CK (U:im s=.ok ((l.map item,k),s)) (Y:okC (l.map item) k s.o) (hl:l.length<=16777216)
 (hc:∀a∈l,c #[lH (item a)::caps.map (λi=>(s.r[i]?).getD na),s.o]=.ok (p a,#[lH (item a)::caps.map (λi=>(s.r[i]?).getD na),s.o]))
 (he:∀a∈l,p a=on->e #[lH (item a)::caps.map (λi=>(s.r[i]?).getD na),s.o]=.ok (out a,#[lH (item a)::caps.map (λi=>(s.r[i]?).getD na),s.o])):
 nB 1 caps im (aD 0) c e s=.ok ((l.filter p).map out,s):=by
 obtain⟨s',e1,x,h1⟩:=qZ (ok:=okC (l.map item) k) (g:=aD 0) (c:=c) (e:=e) (O:=s.o) Y item (λs2=>∃x,s2=#[x::caps.map (λi=>(s.r[i]?).getD na),s.o]) (by rintro _ ⟨_,rfl⟩;rfl) l p out (by rintro a ha _ ⟨x,rfl⟩;exact#[_,_,rfl,hc a ha,λ_=>#[_,rfl],λhp=>#[_,he a ha hp,_,rfl]]) [] #[mW 1 caps s.r,s.o] (by simpa using hl) #[na,rfl]
 rw[tW,U,aj];dsimp only;rw[e1,aj];subst h1;rfl
theorem C5 {f g:α->D} (U:im s=.ok ((l.map (λa=>D.tup [f a,g a]),k),s)) (Y:okC (l.map (λa=>D.tup [f a,g a])) k s.o) (hl:l.length<=16777216)
 (hc:∀a∈l,c #[lH (f a)::lH (g a)::caps.map (λi=>(s.r[i]?).getD na),s.o]=.ok (p a,#[lH (f a)::lH (g a)::caps.map (λi=>(s.r[i]?).getD na),s.o]))
 (he:∀a∈l,p a=on->e #[lH (f a)::lH (g a)::caps.map (λi=>(s.r[i]?).getD na),s.o]=.ok (out a,#[lH (f a)::lH (g a)::caps.map (λi=>(s.r[i]?).getD na),s.o])):
 nB 2 caps im (cS (a8 (aD 0) (a8 (aD 1) cW)) 2) c e s=.ok ((l.filter p).map out,s):=by
 obtain⟨s',e1,x,y,h1⟩:=qZ (ok:=okC (l.map (λa=>D.tup [f a,g a])) k) (g:=cS (a8 (aD 0) (a8 (aD 1) cW)) 2) (c:=c) (e:=e) (O:=s.o) Y (λa=>D.tup [f a,g a]) (λs2=>∃x y,s2=#[x::y::caps.map (λi=>(s.r[i]?).getD na),s.o]) (by rintro _ ⟨_,_,rfl⟩;rfl) l p out (by rintro a ha _ ⟨x,y,rfl⟩;exact#[_,_,by simp,hc a ha,λ_=>#[_,_,rfl],λhp=>#[_,he a ha hp,_,_,rfl]]) [] #[mW 2 caps s.r,s.o] (by simpa using hl) #[na,na,rfl]
 rw[tW,U,aj];dsimp only;rw[e1,aj];subst h1;rfl
theorem nk{l:List α}:l.filter (λ_=>on)=l:=by simp
theorem dS (U:im s=.ok ((l.map item,k),s)) (Y:okC (l.map item) k s.o) (hl:l.length<=16777216)
 (he:∀a∈l,e #[lH (item a)::caps.map (λi=>(s.r[i]?).getD na),s.o]=.ok (out a,#[lH (item a)::caps.map (λi=>(s.r[i]?).getD na),s.o])):
 bL 1 caps im (aD 0) bR e s=.ok (.lst (l.map out),s):=by
 rw[mM,CK (p:=λ_=>on) U Y hl (λ_ _=>rfl) (λa ha _=>he a ha),aj,nk]
theorem Ai (U:im s=.ok ((l.map item,k),s)) (Y:okC (l.map item) k s.o) (hl:l.length<=16777216)
 (hc:∀a∈l,c #[lH (item a)::caps.map (λi=>(s.r[i]?).getD na),s.o]=.ok (p a,#[lH (item a)::caps.map (λi=>(s.r[i]?).getD na),s.o]))
 (he:∀a∈l,p a=on->e #[lH (item a)::caps.map (λi=>(s.r[i]?).getD na),s.o]=.ok (out a,#[lH (item a)::caps.map (λi=>(s.r[i]?).getD na),s.o])):
 bL 1 caps im (aD 0) c e s=.ok (.lst ((l.filter p).map out),s):=by
 rw[mM,CK U Y hl hc he,aj]
theorem Dn {f g:α->D} (U:im s=.ok ((l.map (λa=>D.tup [f a,g a]),k),s)) (Y:okC (l.map (λa=>D.tup [f a,g a])) k s.o) (hl:l.length<=16777216)
 (he:∀a∈l,e #[lH (f a)::lH (g a)::caps.map (λi=>(s.r[i]?).getD na),s.o]=.ok (out a,#[lH (f a)::lH (g a)::caps.map (λi=>(s.r[i]?).getD na),s.o])):
 bL 2 caps im (cS (a8 (aD 0) (a8 (aD 1) cW)) 2) bR e s=.ok (.lst (l.map out),s):=by
 rw[mM,C5 (p:=λ_=>on) U Y hl (λ_ _=>rfl) (λa ha _=>he a ha),aj,nk]
theorem z4 {f g:α->D} (U:im s=.ok ((l.map (λa=>D.tup [f a,g a]),k),s)) (Y:okC (l.map (λa=>D.tup [f a,g a])) k s.o) (hl:l.length<=16777216)
 (hc:∀a∈l,c #[lH (f a)::lH (g a)::caps.map (λi=>(s.r[i]?).getD na),s.o]=.ok (p a,#[lH (f a)::lH (g a)::caps.map (λi=>(s.r[i]?).getD na),s.o]))
 (he:∀a∈l,p a=on->e #[lH (f a)::lH (g a)::caps.map (λi=>(s.r[i]?).getD na),s.o]=.ok (out a,#[lH (f a)::lH (g a)::caps.map (λi=>(s.r[i]?).getD na),s.o])):
 bL 2 caps im (cS (a8 (aD 0) (a8 (aD 1) cW)) 2) c e s=.ok (.lst ((l.filter p).map out),s):=by
 rw[mM,C5 U Y hl hc he,aj]
theorem yx (U:im s=.ok ((l.map item,k),s)) (Y:okC (l.map item) k s.o) (hl:l.length<=16777216)
 (he:∀a∈l,e #[lH (item a)::caps.map (λi=>(s.r[i]?).getD na),s.o]=.ok (out a,#[lH (item a)::caps.map (λi=>(s.r[i]?).getD na),s.o])):
 lL 1 caps im (aD 0) bR e s=.ok (.ptr s.o.length,#[s.r,s.o++[.lst (l.map out)]]):=by
 rw[DO,CK (p:=λ_=>on) U Y hl (λ_ _=>rfl) (λa ha _=>he a ha),aj,nk]
end
abbrev vI(r:List Int):D:=.lst (r.map .int)
abbrev vII(R:List (List Int)):D:=.lst (R.map vI)
@[simp] theorem lF:aR (R.map vI)=true:=by
 induction R with
 | nil=>rfl
 | cons r R U=>simp[U]
theorem qu{as bs:List Int}:fX (as.map D.int) (bs.map D.int)=(as.zip bs).map λp=>.tup [.int p.1,.int p.2]:=by unfold fX;rw[Um,List.zip_eq_zipWith,List.map_zipWith]
theorem Hb{as:List Int}:fj (as.map D.int)=as.zipIdx.map λp=>.tup [.int (p.2:Int),.int p.1]:=by unfold fj;rw[Sq,Tz,wh];rfl
theorem Kp{as:List (List Int)}:fj (as.map vI)=as.zipIdx.map λp=>.tup [.int (p.2:Int),vI p.1]:=by unfold fj;rw[Sq,Tz,wh];rfl
theorem jo{i:Nat}(h:i<r.length):ixD O (vI r) (.int (i:Int))=.ok (.int (nth r i)):=by refine mY ?_;rw[pe ⋯ (by simpa using h)];simp[nth,nu,h]
theorem Oj{i:Nat}(h:i<R.length):ixD O (vII R) (.int (i:Int))=.ok (vI (R.getD i [])):=by refine mY ?_;rw[pe ⋯ (by simpa using h)];simp[nu,h]
theorem iF(n:Nat):cN 0 (n:Int)=(tz n).map λi=>.int (i:Int):=by unfold cN;simp
theorem lu(h:n<=1000000):n<=16777216:=IR h ∅
theorem zip_map{f:Int->Int->Int}:∀(a b:List Int),(a.zip b).map (λp=>f p.1 p.2)=RY f a b
 | [],_=>by simp
 | _::_,[]=>by simp
 | x::a,y::b=>by simp[zip_map a b]
theorem MI{a b:List Int}:(a.zip b).map (λp=>p.1*p.2)=RY (· * ·) a b:=zip_map a b
theorem Ht:Gr (n:Int) [.int 0]=(ux n (0:Int)).map D.int:=by
 unfold Gr;rw[show (n:Int).toNat=n from U7 n];induction n with
 | zero=>rfl
 | succ n U=>rw[Rr,R1,U];simp[Rr]
theorem kN{mo U:EM}{d:D}{s s1 s2:S}(h1:mo s=.ok (.ptr k,s1))(h2:U s1=.ok (.int (a:Int),s2))(Y:s2.o[k]? =lH (.lst ds))(ha:a<ds.length):
 jk mo U d s=.ok #[s2.r,s2.o.set k (.lst (ds.set a d))]:=by
 unfold jk;rw[h1,aj];dsimp only;rw[h2,aj];dsimp only;rw[m5 Y];dsimp only;have e:ixN ds.length (a:Int)=lH a:=by unfold ixN;rw[if_pos ⋯,if_pos ⋯];simp
 rw[e]
theorem dD{i:Nat}{s s':S}(h:m s=.ok (d,s')):setM i m s=.next #[s'.r.set i (lH d),s'.o]:=by show ((m s).bind _).out _=_;rw[h];rfl
theorem bt{s s':S}(h:m s=.ok (d,s')):bx m s=.ret d s':=by show (m s).out _=_;rw[h];rfl
theorem oU{c:TM}{a b:SM}{s s':S}(h:c s=.ok (on,s')):ifS c a b s=a s':=by show (c s).out _=_;rw[h];rfl
theorem iM{c:TM}{a b:SM}{s s':S}(h:c s=.ok (tt,s')):ifS c a b s=b s':=by show (c s).out _=_;rw[h];rfl
theorem bE{a b:SM}{s s':S}(h:a s=.next s'):aK a b s=b s':=by show (a s).then b=_;rw[h];rfl
theorem d7{a b:SM}{s s':S}(h:a s=.ret d s'):aK a b s=.ret d s':=by show (a s).then b=_;rw[h];rfl
theorem GI{fin:S->List D->Res (D×S)}{mk:EM}{s:S}(h:mk s=.ok (.int (n:Int),s))(hn:n<=1000000):uP fin (af (ao (.int 0)) ar) mk s=fin s ((ux n (0:Int)).map D.int):=by rw[MD,aZ,aF,aj,aI,aj,aj];dsimp only;rw[if_pos ∅,h,aj];dsimp only;rw[if_pos #[#[⋯,⋯],by simp;omega],Ht]
theorem cy{f:FM}{s s':S}(h:ma s=.ok (ds,s'))(hp:aR ds=on)(U:ds.length=n)(Y:f ds []=.ok (d,O))(hd:cO d=on):bc n f ma s=.ok (d,s'):=by rw[Jp,h,aj,if_pos #[hp,U]];dsimp only;rw[Y];dsimp only;rw[if_pos hd]
theorem jQ{f:FM}{s s':S}(h:ma s=.ok (ds,s'))(U:ds.length=n)(Y:f ds s'.o=.ok (d,O)):bQ n f ma s=.ok (d,#[s'.r,O]):=by rw[Ko,h,aj,if_pos U];dsimp only;rw[Y]
theorem M0{s s1 s2:S}{k i:Nat}(h1:mo s=.ok (.ptr k,s1))(Y:s1.o[k]? =lH (.lst ds0))(h2:me s1=.ok (.int (i:Int),s2))(c2:s2.o[k]? =lH (.lst ds))(hi:i<ds.length)(hb:i<=1000000):
 Cu mo me s=.ok (ds[i],#[s2.r,s2.o.set k (.lst (ds.eraseIdx i))]):=by
 unfold Cu;rw[h1,aj];dsimp only;rw[m5 Y];dsimp only;rw[h2,aj];dsimp only;rw[m5 c2];dsimp only;have e:seqIndex? (i:Int) ds.length=lH i:=by have U:¬((i:Int)<0):=⋯;simp only[seqIndex?,U,if_false];simp[hi]
 rw[if_pos #[⋯,⋯],e];dsimp only;rw[sn hi]
theorem vV{s s1 s2:S}(h1:mo s=.ok (.ptr k,s1))(U:s1.o[k]? =lH (.lst ds0))(h2:me s1=.ok (d,s2))(Y:s2.o[k]? =lH (.lst ds))(hb:ds.length<=1000000):
 kR mo me s=.ok (.non,#[s2.r,s2.o.set k (.lst (ds++[d]))]):=by
 rw[Mh,h1,aj];dsimp only;rw[m5 U];dsimp only;rw[h2,aj];dsimp only;rw[m5 Y];dsimp only;rw[if_pos ⋯]
theorem dG{s s':S}(h:m s=.ok (d,s')):eS m s=.next s':=by show (m s).out _=_;rw[h];rfl
theorem Ge{s s':S}(h:m s=.ok (.ptr k,s'))(c:s'.o[k]? =lH (.lst ds)):gf m s=.ok (.lst ds,#[s'.r,s'.o.set k .dead]):=by rw[Mp,h,aj];dsimp only;rw[m5 c]
theorem AV{s s':S}(h:m s=.ok (.ptr k,s'))(c:s'.o[k]? =lH (.lst ds)):listI m s=.ok ((ds,lH k),s'):=by rw[cz,h,aj];dsimp only;rw[w4 c,aj]
theorem de{O:aA}{k j:Nat}{c:Cell}(h:k≠j):(O.set k c)[j]? =O[j]? :=Ro h
theorem df{c c':Cell}(h:O[k]? =lH c'):(O.set k c)[k]? =lH c:=by rw[Rj (xL.mp h).1]
theorem fJ{O E:aA}{c:Cell}(h:O[k]? =lH c):(O++E)[k]? =lH c:=by rw[wv (xL.mp h).1];exact h
theorem gj{c:Cell}:(O++[c])[O.length]? =lH c:=by simp
theorem nO{c:Cell}(h:O[k]? =lH c):k<O.length:=(xL.mp h).1
theorem DV(hb:b<=60000000){x y:Int}(hx:Sz b x)(hy:Sz b y):RF x y:=gQ hb hb hx hy
theorem AO{α β:Type}(f:α->β):∀(l:List α) (k:Nat),(l.map f).eraseIdx k=(l.eraseIdx k).map f
 | [],_=>rfl
 | _::_,0=>rfl
 | a::l,k+1=>by simp[AO f l k]
theorem o8:aR [vI r]=true:=by simp
theorem yy{α β:Type}(g:α->β)(k:Nat):∀(l:List α) (j:Nat),((l.zipIdx j).filter (λp=> !decide (p.2=j+k))).map (λp=>g p.1)=(l.eraseIdx k).map g:=by
 induction k with
 | zero=>
  intro l j;cases l with
  | nil=>rfl
  | cons a l=>
   rw[Tu,Rf (by simp),List.eraseIdx_cons_zero];have:∀(l:List α) (i:Nat),j<i->((l.zipIdx i).filter (λp=> !decide (p.2=j+0))).map (λp=>g p.1)=l.map g:=by
    intro l;induction l with
    | nil=>intro i _;rfl
    | cons b l U=>
     intro i hi;rw[Tu,Go (by simp;omega),ww,ww,U (i+1) ⋯]
   exact this l (j+1) ⋯
 | succ k U=>
  intro l j;cases l with
  | nil=>rfl
  | cons a l=>
   rw[Tu,Go (by simp),Uz,ww,ww];congr 1;have:=U l (j+1);rw[show j+1+k=j+(k+1) by omega] at this;exact this
theorem Cw{α β:Type}(l:List α)(k:Nat)(g:α->β):(l.zipIdx.filter (λp=> !decide (p.2=k))).map (λp=>g p.1)=(l.eraseIdx k).map g:=by have:=yy g k l 0;rw[UU] at this;exact this
theorem yY{b:Nat}:∀(l:List Int) (k:Nat),(∀x∈l,x.natAbs<2^b)->l.length<=2^k->l.sum.natAbs<=l.length*2^b:=by
 intro l k h _;induction l with
 | nil=>simp
 | cons a l U=>
  rw[S5,wT,Nat.succ_mul];have h1:=h a sH;have h2:=U (λx hx=>h x (sB _ hx)) (by simp at *;omega);have:=Uc a l.sum;omega
theorem si(hr:SzL c row)(U:SzL b l)(hn:row.length<=1000):Sz (b+c+10) (aG row l):=by
 unfold aG;have h:∀x∈RY (· * ·) row l,x.natAbs<2^(c+b):=λx hx=>by obtain⟨i,hi,e⟩:=Rq hx;rw[UL] at e;subst e;exact Sz.mul (hr _ (Cg _)) (U _ (Cg _))
 have h2:=yY (RY (· * ·) row l) 10 h (by rw[RL];simp;omega);unfold Sz;have Y:(RY (· * ·) row l).length<=1000:=by rw[RL];omega
 have h4:(RY (· * ·) row l).length*2^(c+b)<=1000*2^(c+b):=TF _ Y;have h5:2^(b+c+10)=1024*2^(c+b):=by rw[Vk,Ux b c,Uh]
 have h6:0<2^(c+b):=TN _;rw[h5];omega
theorem N6{a b:List Int}(h:vI a=vI b):a=b:=by
 injection h with h
 exact(RN (λx y e=>by cases e;rfl)).mp h
theorem AL{ok:aA->Prop}{g:GM}{c:TM}{e:EM}(P:S->Prop)(G:D->Prop)(ab:∀s,P s->ok s.o):∀(ds Y:List D) (s:S),
 (∀d∈ds,∀s,P s->∃s1 s2 y s3,g d s=.ok s1/\c s1=.ok (on,s2)/\e s2=.ok (y,s3)/\G y/\P s3)->Y.length+ds.length<=16777216->P s->
 ∃U s',dI ok g c e ds Y s=.ok (Y++U,s')/\U.length=ds.length/\(∀y∈U,G y)/\P s'
 | [],Y,s,_,_,h=>#[[],s,by rw[dI,if_pos (ab _ h)];simp,rfl,by simp,h]
 | d::ds,Y,s,step,hl,h=>by
  obtain⟨s1,s2,y,s3,e1,e2,e3,gy,h3⟩:=step d sH s h;rw[wT] at hl;rw[dI,if_pos #[ab _ h,⋯],e1,aj,e2,aj];obtain⟨U,s',e4,h4,h5,h6⟩:=AL P G ab ds (Y++[y]) s3 (λd hd=>step d (sB _ hd)) (by rw[x0,Fk];omega) h3;refine#[y::U,s', ?_,by simp[h4], ?_,h6];simp only[if_true,e3,aj,e4];simp;intro z hz;rcases vr.mp hz with rfl | hz
  exact gy;exact h5 z hz
theorem E8{Q:Int->Prop}:∀{outs:List D},(∀y∈outs,∃r,y=.int r/\Q r)->∃ns:List Int,outs=ns.map D.int/\∀n∈ns,Q n
 | [],_=>#[[],rfl,by simp]
 | y::outs,h=>by
  obtain⟨r,rfl,hr⟩:=h y sH;obtain⟨ns,rfl,hn⟩:=E8 (outs:=outs) λz hz=>h z (sB _ hz);exact#[r::ns,rfl,λn U=>by rcases vr.mp U with rfl | q;exact hr;exact hn n q]
theorem IW {caps:List Nat} {e:EM} {s:S} {k:Option Nat} (PO:aA->Prop) (Q:Int->Prop) (U:im s=.ok ((ds,k),s)) (Y:∀O,PO O->okC ds k O) (h0:PO s.o) (hl:ds.length<=1000000)
 (he:∀d∈ds,∀O,PO O->∃r O',e #[lH d::caps.map (λi=>(s.r[i]?).getD na),O]=.ok (.int r,#[lH d::caps.map (λi=>(s.r[i]?).getD na),O'])/\Q r/\PO O'):
 ∃(ns:List Int) (O':aA),bL 1 caps im (aD 0) bR e s=.ok (vI ns,#[s.r,O'])/\ns.length=ds.length/\(∀n∈ns,Q n)/\PO O':=by
 obtain⟨ab,s',e1,h1,h2,x,O',h3,h4⟩:=AL (ok:=okC ds k) (g:=aD 0) (c:=bR) (e:=e) (λs2=>∃x O',s2=#[x::caps.map (λi=>(s.r[i]?).getD na),O']/\PO O') (λy=>∃r,y=.int r/\Q r) (by rintro _ ⟨_,O',rfl,h⟩;exact Y O' h) ds [] #[mW 1 caps s.r,s.o] (by rintro d hd _ ⟨x,O',rfl,h⟩;obtain⟨r,O2,q1,q2,q3⟩:=he d hd O' h;exact#[_,_,.int r,_,rfl,rfl,q1,#[r,rfl,q2],_,O2,rfl,q3]) (by simpa using lu hl) #[na,s.o,rfl,h0]
 obtain⟨ns,rfl,hn⟩:=E8 h2;refine#[ns,O', ?_,by simpa using h1,hn,h4];rw[mM,tW,U,aj];dsimp only;rw[e1,aj,aj];subst h3;rfl
theorem Jw{f:FM}{s s':S}(h:ma s=.ok (ds,s'))(hp:aR ds=on)(U:ds.length=n)(Y:f ds []=.ok (d,O1)):dP n f ma s=.ok (shD s'.o.length d,#[s'.r,s'.o++O1.map (shC s'.o.length)]):=by rw[Kr,h,aj,if_pos #[hp,U]];dsimp only;rw[Y]
theorem p6(h:O[k]? =lH (.lst ds))(hi:atI ds i=lH d):ixD O (.ptr k) (.int i)=.ok d:=by
 show (match lsD O (D.ptr k) with
  | some ds=>match atI ds i with
   | some d=>Res.ok d
   | none=>.bad
  | none=>.bad)=_
 rw[lC h];dsimp only;rw[hi]
theorem eU{α:Type}{l:List α}{i:Nat}(h:i<l.length):atI l (i:Int)=lH l[i]:=by rw[pe ⋯ ⋯];simp
theorem LJ{α:Type}{l:List α}{i:Nat}(h0:1<=i)(h:i<=l.length):atI l (-(i:Int))=lH (l[l.length-i]'(⋯)):=by unfold atI ixN;have e:(-(i:Int)+(l.length:Int)).toNat=l.length-i:=⋯;rw[if_neg ⋯,if_pos ⋯,e];exact sn _
theorem ym(h:O[k]? =lH (.lst ds)):cF O [.ptr k]=.ok (.int ds.length):=by unfold cF;simp only[lC h]
theorem gv{s s':S}(h:m s=.ok (.int i,s')):aS (ak gtD m (ao (.int j))) s=.ok (decide (j<i),s'):=by rw[iu,cL,h,aj,aF,aj,Am,aj,aj]
theorem eq_test{s s':S}(h:m s=.ok (.int i,s')):aS (ak eqD m (ao (.int j))) s=.ok (decide (i=j),s'):=by rw[iu,cL,h,aj,aF,aj,wg,aj,aj]
theorem sT{a b:List D}(h:a.length+b.length<=1000000):cx O (.lst a) (.lst b)=.ok (.lst (a++b)):=by show (if a.length+b.length<=16777216 then Res.ok (D.lst (a++b)) else .bad)=_;rw[if_pos (lu h)]
theorem Ik{ms:List Int}(h:n<=ms.length):cutD (ms.map D.int) (lH (n:Int)) na=(ms.drop n).map D.int:=by unfold cutD;rw[HT.uj,HT.o4,ss,TH h,<- UR,Rw (by simp)]
def tk(c e:Nat):Nat:=2^e*(c+12)-(c+11)
def iK(c n:Nat):Nat:=2^n*(c+12)
theorem G6(c e:Nat):c+12<=2^e*(c+12):=Tq _ (TN e)
theorem L4:tk c 0=1:=by unfold tk;simp
theorem LZ{c e:Nat}:2*tk c e+c+11=tk c (e+1):=by
 unfold tk;have h:=G6 c e;have e2:2^(e+1)*(c+12)=2*(2^e*(c+12)):=by rw[UV,Uh (2^e) 2,UQ]
 rw[e2];omega
theorem Pd{c e n:Nat}(h:e<=n):tk c e+c+10<=iK c n:=by unfold tk iK;have h1:=G6 c e;have h2:2^e*(c+12)<=2^n*(c+12):=TF _ (RH ∅ h);omega
theorem F9{c e n:Nat}(h:e<=n):grow (tk c e) (n-e)<=iK c n:=by
 unfold grow;have h1:tk c e+1<=2^e*(c+12):=by unfold tk;have:=G6 c e;omega
 have h2:2^(n-e)*(tk c e+1)<=2^(n-e)*(2^e*(c+12)):=Nat.mul_le_mul_left _ h1;have U:2^(n-e)*(2^e*(c+12))=iK c n:=by unfold iK;rw[<- UQ,<- Vk,Nat.sub_add_cancel h]
 omega
structure qm(n c:Nat)(R lists:List (List Int))(e:Nat):Prop where
 eq:R.foldl eK (cJ n)=lists
 ll:∀l∈lists,l.length=n
 cnt:lists.length+e=n
 sz:cD (tk c e) lists
theorem Gd(n a:Nat):SzL 1 (ee n a):=by
 intro x hx;unfold ee at hx;rcases Ss hx with h | h
 rw[List.eq_of_mem_replicate h];exact Sz.zero 1;rw[h];unfold Sz;decide
theorem qm.start(n c:Nat):qm n c [] (cJ n) 0:=by refine#[rfl,λl U=> ?_,by unfold cJ;simp,λl U=> ?_];obtain⟨a,_,rfl⟩:=pr.mp U;unfold ee;simp;obtain⟨a,_,rfl⟩:=pr.mp U;rw[L4];exact Gd n a
theorem qm.step{n c e:Nat}{R lists:List (List Int)}(h:qm n c R lists e)(hr:row.length=n)(hs:SzL c row)(hn:n<=1000):∃e',qm n c (R++[row]) (eK lists row) e':=by
 have U:(R++[row]).foldl eK (cJ n)=eK lists row:=by rw[Tp,h.eq];rfl
 unfold eK at *;split;rename_i Y;rw[Y] at U;exact#[e,U,h.ll,h.cnt,h.sz];rename_i k Y;rw[Y] at U;have k1:=(gO Y).1;rw[ss] at k1;have hm:=getD_mem k1;refine#[e+1,U,λl hl=> ?_, ?_,λl hl=> ?_];obtain⟨q,hq,rfl⟩:=pr.mp hl;have hq':=RG hq;rw[nq (by rw[h.ll q hq',h.ll _ hm]),h.ll q hq'];rw[ss,List.length_eraseIdx_of_lt k1];have:=h.cnt;omega;obtain⟨q,hq,rfl⟩:=pr.mp hl;have hq':=RG hq;have hz:∀l∈lists,Sz (tk c e+c+10) (aG row l):=λl h'=>si hs (h.sz l h') (by rw[hr];exact hn);exact(SzL.off (h.sz q hq') (h.sz _ hm) (hz q hq') (hz _ hm)).mono (by rw[<- LZ];omega)
theorem JZ(hn:n<=1000)(U:∀r∈rows,r.length=n)(hs:cD c rows):∃e,qm n c rows (lG rows n) e:=by
 have:∀(S R lists:List (List Int)) (e:Nat),(∀r∈S,r.length=n)->cD c S->qm n c R lists e->∃e',qm n c (R++S) (S.foldl eK lists) e':=by
  intro S;induction S with
  | nil=>intro R lists e _ _ h;exact#[e,by simpa using h]
  | cons r S Y=>
   intro R lists e h1 h2 h;obtain⟨e1,h3⟩:=h.step (h1 r sH) (h2 r sH) hn;obtain⟨e2,h4⟩:=Y (R++[r]) _ e1 (λq hq=>h1 q (sB _ hq)) (λq hq=>h2 q (sB _ hq)) h3;exact#[e2,by simpa using h4]
 obtain⟨e,h⟩:=this rows [] (cJ n) 0 U hs (qm.start n c);rw[xz] at h;exact#[e,h]
theorem qB(hn:n<=1000)(U:∀r∈rows,r.length=n)(hs:cD c rows):cD (iK c n) (bo rows n):=by obtain⟨e,h⟩:=JZ hn U hs;have hc:=h.cnt;have:=HW h.ll h.sz;refine this.mono ?_;rw[show (lG rows n).length=n-e by omega];exact F9 ⋯
theorem hole:∀(n:Nat) (L:List Nat),L.length<n->∃f,f<n/\f∉L
 | 0,L,h=>⋯
 | n+1,L,h=>by
  by_cases hn:n∈L;obtain⟨f,h1,h2⟩:=hole n (L.erase n) (by rw[Uo hn];have:=List.length_pos_of_mem hn;omega)
  exact#[f,⋯,λU=>h2 ((List.mem_erase_of_ne ⋯).mpr U)];exact#[n,⋯,hn]
theorem Jo{f:Nat}(pl:Pl n P)(U:∀p∈P,p.1≠f):iN P f f≠0:=by have h1:=pl.leads_pos;have h2:=jC (L:=iw P) (f:=f) (i:=f) U;unfold iN;simp;omega
theorem EU{A:List (List Int)}(hA:∀r∈A,r.length=n)(h:A.length<n):∃t:Nat->Int,(∃j,j<n/\t j≠0)/\eD n A t:=by obtain⟨P,eP,pl,hP,Y⟩:=jL hA;obtain⟨f,hf,ab⟩:=hole n (P.map (·.1)) (by rw[ss];omega);have U:∀p∈P,p.1≠f:=λp hp e=>ab (pr.mpr #[p,hp,e]);refine#[iN P f,#[f,hf,Jo pl U],(Y _).mp ?_];rw[eP];exact tJ pl hf U
def Indep(n:Nat)(V:List (List Int)):Prop:=∀t:Nat->Int,(∀i,i<n->bu V.length (λj=>t j*nth (V.getD j []) i)=0)->∀j,j<V.length->t j=0
theorem CW{V W:List (List Int)}(hV:Indep n V)(h:∀v∈V,iC n W (nth v)):V.length<=W.length:=by
 refine Rh λa0=> ?_;have ch:∀j,∃k:Int,∃T:List Int,j<V.length->k≠0/\∀i,i<n->k*nth (V.getD j []) i=dy T W i:=λj=>by by_cases U:j<V.length;obtain⟨k,hk,T,_,e⟩:=h (V.getD j []) (getD_mem U);exact#[k,T,λ_=>#[hk,e]];exact#[1,[],λz=>absurd z U]
 obtain⟨kf,al⟩:=UB ch;obtain⟨Y,ab⟩:=UB al;obtain⟨t,⟨j0,ac,am⟩,hn⟩:=EU (n:=V.length) (A:=(tz W.length).map λm=>(tz V.length).map λj=>nth (Y j) m) (λr hr=>by obtain⟨m,_,rfl⟩:=pr.mp hr;simp) (by simp;omega)
 have an:∀m,m<W.length->bu V.length (λj=>nth (Y j) m*t j)=0:=λm hm=>by have:=hn _ (pr.mpr #[m,Ch.mpr hm,rfl]);rw[<- this];refine bV λj U=> ?_;congr 1;unfold nth;simp[nu,wP,R5,U]
 have hz:=hV (λj=>t j*kf j) (λi hi=> ?_) j0 ac;rcases Q9.mp hz with q | q
 exact am q;exact(ab j0 ac).1 q;have e1:bu V.length (λj=>t j*kf j*nth (V.getD j []) i)=bu V.length (λj=>bu W.length λm=>t j*(nth (Y j) m*nth (W.getD m []) i)):=bV λj U=>by rw[Re,(ab j U).2 i hi];unfold dy;rw[d8]
 rw[e1,qA];refine eM λm hm=> ?_;have e2:bu V.length (λj=>t j*(nth (Y j) m*nth (W.getD m []) i))=nth (W.getD m []) i*bu V.length (λj=>nth (Y j) m*t j):=by rw[<- d8];refine bV λj U=> ?_;rw[<- Re,Rg (nth (W.getD m []) i),Rg (t j)]
 rw[e2,an m hm,TD]
theorem DU(pl:Pl n P):Indep n (P.map (·.2)):=λt h j U=>by
 rw[ss] at U;have hg:∀j (U:j<P.length),(P.map (·.2)).getD j []=P[j].2:=λj U=>by simp[nu,sn U]
 have hm:P[j]∈P:=Cg U;have g:=pl.good _ hm;have e:=h P[j].1 g.lt;rw[ss,fU (k:=j) U λm Y ac=> ?_,hg j U] at e;rcases Q9.mp e with q | q
 exact q;have:=g.pos;omega;rw[hg m Y];have al:P[m]∈P:=Cg Y;have ab:P[m].1≠P[j].1:=by
  have pw:=Tc.mp pl.pw;rcases Nat.lt_or_gt_of_ne ac with q | q
  exact FS (pw m j Y U q).1;exact U0 (pw j m U Y q).1
 rw[pl.other al hm ab,TD]
theorem tF{n j:Nat}(U:j<n):(cJ n).getD j []=ee n j:=by unfold cJ;simp[nu,wP,R5,U]
theorem iz:(cJ n).length=n:=by unfold cJ;simp
theorem EW(n:Nat):Indep n (cJ n):=λt h j U=>by rw[iz] at U;have e:=h j U;rw[iz,fU (k:=j) U λm hm Y=> ?_,tF U,dr U,if_pos rfl,Int.mul_one] at e;exact e;rw[tF hm,dr hm,if_neg (λz=>Y z.symm),TD]
theorem BP(n:Nat){x:Nat->Int}:iC n (cJ n) x:=#[1,∅,(tz n).map x,by rw[iz];simp,λi hi=>by unfold dy;rw[iz,fU (k:=i) hi λm hm U=> ?_,tF hi,dr hi,if_pos rfl];unfold nth;simp[nu,wP,R5,hi];rw[tF hm,dr hm,if_neg (λz=>U z.symm),TD]]
theorem sq_nonneg(a:Int):0<=a*a:=by rcases Int.le_total 0 a with h | h;exact Rs h h;have:=Rs (show 0<= -a by omega) (show 0<= -a by omega);rwa [S9] at this
theorem uB(z:Nat->Int):∀n,0<=bu n λi=>z i*z i
 | 0=>Ve 0
 | n+1=>by have:=uB z n;have:=sq_nonneg (z n);show 0<=bu n _+z n*z n;omega
theorem Ao{z:Nat->Int}:∀{n:Nat},(bu n λi=>z i*z i)=0->∀i,i<n->z i=0
 | 0,_,i,hi=>⋯
 | n+1,h,i,hi=>by
  have h1:=uB z n;have h2:=sq_nonneg (z n);have Y:(bu n λi=>z i*z i)+z n*z n=0:=h;rcases Nat.lt_or_ge i n with q | q
  exact Ao (n:=n) ⋯ i q;have:i=n:=⋯;subst this;have U:z i*z i=0:=⋯;rcases Q9.mp U with r | r <;> exact r
theorem count(Y:∀r∈R,r.length=n):(bo R n).length+(cj R n).length=n:=by
 obtain⟨P,eP,pl,_,a1⟩:=jL Y;have hS:=gU Y;obtain⟨Q,eQ,ql,_,_⟩:=g6 Y;have ac:∀s∈bo R n,∀p∈cj R n,bh n (nth s) (nth p)=0:=λs hs p hp=>by obtain⟨_,_,_,h3,_⟩:=g6 hS;rw[wW Y] at h3;rw[bK];exact h3 s hs p hp
 have ap:∀z:Nat->Int,eD n (cj R n) z->iC n (bo R n) z:=λz hz=>by refine(oF hS z).mp ?_;rw[wW Y];exact hz
 have U:∀(t:Nat->Int) (A B:List (List Int)) (i:Nat),bu (A++B).length (λj=>t j*nth ((A++B).getD j []) i)=bu A.length (λj=>t j*nth (A.getD j []) i)+bu B.length (λj=>t (A.length+j)*nth (B.getD j []) i):=λt A B i=>by
  have split:∀(a b:Nat) (f:Nat->Int),bu (a+b) f=bu a f+bu b λj=>f (a+j):=λa b f=>by
   induction b with
   | zero=>show bu a f=bu a f+0;omega
   | succ b ih=>
    show bu (a+b) f+f (a+b)=bu a f+(bu b (λj=>f (a+j))+f (a+b));rw[ih];omega
  rw[x0,split];congr 1;exact bV λj hj=>by rw[nu,wv hj,<- nu]
  exact bV λj hj=>by rw[nu,wE ⋯,R4,<- nu]
 have lo:n<=(bo R n++cj R n).length:=by
  have:=CW (n:=n) (V:=cJ n) (W:=bo R n++cj R n) (EW n) λv _=>by
   have hA:∀r∈bo R n++cj R n,r.length=n:=λr hr=>by rcases wn.mp hr with q | q;exact hS r q;exact oE Y r q
   refine(oF hA _).mp λz hz=> ?_;obtain⟨_,_,_,h3,_⟩:=g6 hA;have zP:eD n (cj R n) (nth z):=λp hp=>by rw[fM,bK];exact h3 p (by simp[hp]) z hz
   have zS:eD n (bo R n) (nth z):=λp hp=>by rw[fM,bK];exact h3 p (by simp[hp]) z hz
   have zz:=(ap (nth z) zP).dot zS;have z0:=Ao zz;rw[fM];exact eM λi hi=>by rw[z0 i hi,Tf]
  rwa [iz] at this
 have hi:(bo R n++cj R n).length<=n:=by
  have:=CW (n:=n) (V:=bo R n++cj R n) (W:=cJ n) (λt h=> ?_) λv _=>BP n;rwa [iz] at this
  ·have y0:∀i,i<n->bu (bo R n).length (λj=>t j*nth ((bo R n).getD j []) i)=0:=by
    refine Ao (z:=λi=>bu (bo R n).length (λj=>t j*nth ((bo R n).getD j []) i)) ?_;have e1:∀i,i<n->bu (bo R n).length (λj=>t j*nth ((bo R n).getD j []) i)= - bu (cj R n).length (λj=>t ((bo R n).length+j)*nth ((cj R n).getD j []) i):=λi hi=>by have:=h i hi;rw[U] at this;omega
    have am:∀(a b:Nat) (f g:Nat->Int),bu a f*bu b g=bu a λj=>bu b λm=>f j*g m:=λa b f g=>by rw[Rg,<- d8];refine bV λj _=> ?_;rw[Rg,<- d8]
    have e2:(bu n λi=>(bu (bo R n).length λj=>t j*nth ((bo R n).getD j []) i)*(bu (bo R n).length λj=>t j*nth ((bo R n).getD j []) i))=bu n λi=>(-1)*((bu (bo R n).length λj=>t j*nth ((bo R n).getD j []) i)*(bu (cj R n).length λj=>t ((bo R n).length+j)*nth ((cj R n).getD j []) i)):=bV λi hi=>by
     conv=>lhs;arg 2;rw[e1 i hi]
     rw[Int.mul_neg];omega
    rw[e2,d8];have e3:(bu n λi=>(bu (bo R n).length λj=>t j*nth ((bo R n).getD j []) i)*(bu (cj R n).length λj=>t ((bo R n).length+j)*nth ((cj R n).getD j []) i))=bu n λi=>bu (bo R n).length λj=>bu (cj R n).length λm=>(t j*t ((bo R n).length+m))*(nth ((bo R n).getD j []) i*nth ((cj R n).getD m []) i):=bV λi _=>by rw[am];refine bV λj _=>bV λm _=> ?_;rw[Re,Re,Va (nth ((bo R n).getD j []) i)]
    rw[e3,qA];suffices q:bu (bo R n).length (λj=>bu n λi=>bu (cj R n).length λm=>(t j*t ((bo R n).length+m))*(nth ((bo R n).getD j []) i*nth ((cj R n).getD m []) i))=0 by rw[q];rfl
    refine eM λj hj=> ?_;rw[qA];refine eM λm hm=> ?_;rw[d8];have:=ac _ (getD_mem hj) _ (getD_mem hm);unfold bh at this;rw[this,TD]
   have p0:∀i,i<n->bu (cj R n).length (λj=>t ((bo R n).length+j)*nth ((cj R n).getD j []) i)=0:=λi hi=>by have:=h i hi;rw[U,y0 i hi] at this;omega
   have iS:Indep n (bo R n):=by rw[eQ];exact DU ql
   have iP:Indep n (cj R n):=by rw[eP];exact DU pl
   intro j hj;rw[x0] at hj;rcases Nat.lt_or_ge j (bo R n).length with q | q
   exact iS t y0 j q;have:=iP (λm=>t ((bo R n).length+m)) p0 (j-(bo R n).length) ⋯;rwa [show (bo R n).length+(j-(bo R n).length)=j by omega] at this
 rw[x0] at lo hi;omega
structure Fit(n:Nat)(R:List (List Int))(x:List Int):Prop where
 len:x.length=n
 nn:∀i,0<=nth x i
 st:∀r∈R,bh n (nth r) (nth x)=0
 nz:∃i,nth x i≠0
def Sub(x y:List Int):Prop:=∀i,nth x i≠0->nth y i≠0
structure bO(n:Nat)(R:List (List Int))(x:List Int):Prop where
 fit:Fit n R x
 one:cE x=1
 min:∀y,Fit n R y->Sub y x->Sub x y
theorem Sub.trans(a:Sub x y)(b:Sub y z):Sub x z:=λi h=>b i (a i h)
theorem Fit.lt(f:Fit n R x){i:Nat}(h:nth x i≠0):i<n:=by by_cases hi:i<n;exact hi;exact absurd (i8 (by rw[f.len];omega)) h
theorem Fit.low(f:Fit n R x):Fit n R (low x)/\cE (M.low x)=1/\Sub (M.low x) x/\Sub x (M.low x):=by
 have hp:=qy x;have hi:∀i,nth (M.low x) i≠0↔nth x i≠0:=λi=>by rw[rQ x i];constructor;exact λh=>UD ⋯ h;intro h z;rw[z] at h;exact h ⋯
 obtain⟨j,U⟩:=f.nz;refine#[#[by rw[low_length,f.len],λi=> ?_,λr hr=> ?_,#[j,(hi j).mpr U]],Fh U,λi=>(hi i).mp,λi=>(hi i).mpr];have:=f.nn i;rw[rQ x i] at this;by_cases h:0<=nth (M.low x) i;exact h;have:=Sr hp (by omega:nth (M.low x) i<0);omega;have:=f.st r hr;rw[bK];rw[bK] at this;exact(yi n x (nth r)).mpr this
theorem wR{a b c d e f:Int}(hb:0<b)(hd:0<d)(U:0<f)(h1:a*d<=c*b)(h2:c*f<=e*d):a*f<=e*b:=by
 have e1:a*d*f<=c*b*f:=RA h1 ⋯;have e2:c*f*b<=e*d*b:=RA h2 ⋯;have:(a*f)*d<=(e*b)*d:=by
  have q1:a*d*f=(a*f)*d:=by grind
  have q2:c*b*f=c*f*b:=by grind
  have Y:e*d*b=(e*b)*d:=by grind
  omega
 exact Int.le_of_mul_le_mul_right this hd
theorem HI(a b:Nat->Int)(hb:∀i,0<=b i):∀n,(∃i,i<n/\b i≠0)->∃m,m<n/\b m≠0/\∀i,i<n->b i≠0->a m*b i<=a i*b m
 | 0,h=>by obtain⟨i,hi,_⟩:=h;omega
 | n+1,h=>by
  by_cases hn:∃i,i<n/\b i≠0;obtain⟨m,hm,hz,hl⟩:=HI a b hb n hn;by_cases Y:b n=0;refine#[m,⋯,hz,λi hi U=> ?_];by_cases e:i=n;subst e;exact absurd Y U;exact hl i ⋯ U;by_cases hc:a m*b n<=a n*b m;refine#[m,⋯,hz,λi hi U=> ?_];by_cases e:i=n;subst e;exact hc;exact hl i ⋯ U;refine#[n,⋯,Y,λi hi U=> ?_];by_cases e:i=n;subst e;omega;have:=hb n;have:=hb m;have:=hb i;exact wR ⋯ (by omega:0<b m) ⋯ ⋯ (hl i ⋯ U);obtain⟨i,hi,U⟩:=h;have e:i=n:=by by_cases e:i=n;exact e;exact absurd #[i,⋯,U] hn
  subst e;refine#[i,⋯,U,λj hj ac=> ?_];by_cases e:j=i;subst e;omega;exact absurd #[j,⋯,ac] hn
theorem xH(fx:Fit n R x)(fy:Fit n R y)(hs:Sub y x):
 ∃z:List Int,z.length=n/\(∀i,0<=nth z i)/\Sub z x/\∃c d:Int,0<c/\0<d/\(∀i,nth z i=c*nth x i-d*nth y i)/\∃m,nth y m≠0/\nth z m=0:=by
 obtain⟨j,hj⟩:=fy.nz;obtain⟨m,hm,hz,hl⟩:=HI (nth x) (nth y) fy.nn n #[j,fy.lt hj,hj];have Y:x.length=y.length:=by rw[fx.len,fy.len]
 have as:=fx.nn m;have al:=fy.nn m;have an:=hs m hz;have U:∀i,nth (gM x (nth x m) y (nth y m)) i=nth y m*nth x i-nth x m*nth y i:=λi=>by rw[tS Y];grind
 refine#[gM x (nth x m) y (nth y m),by rw[nD Y,fx.len],λi=> ?_,λi hi=> ?_,nth y m,nth x m,⋯,⋯,U,m,hz,by rw[U];grind];rw[U];by_cases hy:nth y i=0;rw[hy];have:=Rs al (fx.nn i);omega;have:=hl i (fy.lt hy) hy;have:nth y m*nth x i=nth x i*nth y m:=Rg _ _;omega;rw[U] at hi;intro z;apply hi;have:nth y i=0:=by by_cases hy:nth y i=0;exact hy;exact absurd z (hs i hy)
 rw[z,this];omega
theorem zR{c d:Int}(h:∀i,nth z i=c*nth x i-d*nth y i)(r:Nat->Int):bh n r (nth z)=c*bh n r (nth x)-d*bh n r (nth y):=by have:=By (n:=n) (a:=nth x) (b:=nth y) (u:=c) (v:= -d) r;rw[bK,Gk (b:=λi=>c*nth x i + -d*nth y i) (λi _=>by rw[h i];grind),bK,this];grind
theorem zY(U:Fit n R x)(Y:Fit n R y)(hl:z.length=n)(hn:∀i,0<=nth z i){c d:Int}(h:∀i,nth z i=c*nth x i-d*nth y i)(hz:∃i,nth z i≠0):Fit n R z:=
 #[hl,hn,λr hr=>by rw[zR h,U.st r hr,Y.st r hr];omega,hz]
theorem bO.prop(l:bO n R x)(Y:Fit n R y)(hs:Sub y x):∃a b:Int,0<a/\0<b/\∀i,a*nth x i=b*nth y i:=by
 obtain⟨z,zl,zn,zs,c,d,hc,hd,h,m,hm,U⟩:=xH l.fit Y hs;by_cases hz:∃i,nth z i≠0;have fz:=zY l.fit Y zl zn h hz;exact absurd U (l.min z fz zs m (hs m hm));refine#[c,d,hc,hd,λi=> ?_];have:nth z i=0:=by by_cases e:nth z i=0;exact e;exact absurd #[i,e] hz
 rw[h i] at this;omega
theorem bO.eq(l:bO n R x)(U:Fit n R y)(h1:cE y=1)(hs:Sub y x):x=y:=by obtain⟨a,b,ha,hb,h⟩:=l.prop U hs;exact Fq (by rw[l.fit.len,U.len]) l.one h1 ha hb λi _=>h i
def cnt(x:List Int):Nat:=(x.filter (·≠0)).length
theorem Jj:∀{x y:List Int},x.length=y.length->Sub x y->cnt x<=cnt y
 | [],[],_,_=>ut _
 | a::x,b::y,hl,hs=>by have U:=Jj (x:=x) (y:=y) (by simpa using hl) λi h=>hs (i+1) h;have h0:a≠0->b≠0:=hs 0;unfold cnt at *;by_cases ha:a=0;rw[Rf (by simpa using ha)];by_cases hb:b=0;rw[Rf (by simpa using hb)];exact U;rw[Go (by simpa using hb),wT];omega;rw[Go (by simpa using ha),Go (by simpa using h0 ha),wT,wT];omega
theorem vq:∀{x y:List Int} {m:Nat},x.length=y.length->Sub x y->nth y m≠0->nth x m=0->cnt x<cnt y
 | [],[],m,_,_,h,_=>by simp[nth] at h
 | a::x,b::y,0,hl,hs,h,h'=>by have U:=Jj (x:=x) (y:=y) (by simpa using hl) λi h=>hs (i+1) h;have ha:a=0:=h';have hb:b≠0:=h;unfold cnt at *;rw[Rf (by simpa using ha),Go (by simpa using hb),wT];omega
 | a::x,b::y,m+1,hl,hs,h,h'=>by have U:=vq (x:=x) (y:=y) (m:=m) (by simpa using hl) (λi h=>hs (i+1) h) h h';have h0:a≠0->b≠0:=hs 0;unfold cnt at *;by_cases ha:a=0;rw[Rf (by simpa using ha)];by_cases hb:b=0;rw[Rf (by simpa using hb)];exact U;rw[Go (by simpa using hb),wT];omega;rw[Go (by simpa using ha),Go (by simpa using h0 ha),wT,wT];omega
theorem zN{n:Nat}{R:List (List Int)}:∀(k:Nat) {x:List Int},cnt x<=k->Fit n R x->∃l,bO n R l/\Sub l x:=by
 intro k;induction k with
 | zero=>
  intro x hk f;obtain⟨i,hi⟩:=f.nz;have:cnt (ux n (0:Int))<cnt x:=vq (m:=i) (by rw[f.len];simp) (λj h=>by
   exfalso;apply h;unfold nth;rw[nu,G2];split <;> rfl) hi (by
   unfold nth;rw[nu,G2];split <;> rfl)
  omega
 | succ k ih=>
  intro x hk f;by_cases h:∃y,Fit n R y/\Sub y x/\¬Sub x y;obtain⟨y,U,h1,h2⟩:=h;have:∃m,nth x m≠0/\nth y m=0:=by apply Rh;intro hn;exact h2 λi hi=>λz=>hn #[i,hi,z]
  obtain⟨m,hm,Y⟩:=this;have:=vq (by rw[U.len,f.len]) h1 hm Y;obtain⟨l,hl,hs⟩:=ih (x:=y) ⋯ U;exact#[l,hl,hs.trans h1];obtain⟨q1,q2,q3,q4⟩:=f.low;refine#[low x,#[q1,q2,λy U hs=> ?_],q3];apply Rh;intro hn;exact h #[y,U,hs.trans q3,λz=>hn (q3.trans z)]
theorem yR{n:Nat}{R:List (List Int)}(r:List Int):∀(k:Nat) {x:List Int},cnt x<=k->Fit n R x->0<bh n (nth r) (nth x)->∃l,bO n R l/\Sub l x/\0<bh n (nth r) (nth l):=by
 intro k;induction k with
 | zero=>
  intro x hk f hv;obtain⟨l,U,hs⟩:=zN 0 hk f;obtain⟨i,hi⟩:=f.nz;have:cnt (ux n (0:Int))<cnt x:=vq (m:=i) (by rw[f.len];simp) (λj h=>by
   exfalso;apply h;unfold nth;rw[nu,G2];split <;> rfl) hi (by
   unfold nth;rw[nu,G2];split <;> rfl)
  omega
 | succ k ih=>
  intro x hk f hv;obtain⟨l,U,hs⟩:=zN (k+1) hk f;by_cases hp:0<bh n (nth r) (nth l);exact#[l,U,hs,hp];obtain⟨z,zl,zn,zs,c,d,hc,hd,h,m,hm,Y⟩:=xH f U.fit hs;have ev:=zR (n:=n) h (nth r);have h1:=Rv hc hv;have h2:=Sk (show 0<=d by omega) (show bh n (nth r) (nth l)<=0 by omega);have hz:∃i,nth z i≠0:=by
   apply Rh;intro hn;have:bh n (nth r) (nth z)=0:=eM λi _=>by
    have:nth z i=0:=by by_cases e:nth z i=0;exact e;exact absurd #[i,e] hn
    rw[this];omega
   omega
  have fz:=zY f U.fit zl zn h hz;have:=vq (by rw[zl,f.len]) zs (hs m hm) Y;obtain⟨l',q1,q2,q3⟩:=ih (x:=z) ⋯ fz ⋯;exact#[l',q1,q2.trans zs,q3]
theorem kh:bh n (nth (r.map (- ·))) (nth x)= -bh n (nth r) (nth x):=by have:=t8 (n:=n) (a:=r.map (- ·)) (c:=r) (g:= -1) (λi=>by rw[je (by simp)];omega) (nth x);rw[<- fM,this,fM];omega
theorem zi(r:List Int)(f:Fit n R x)(Y:bh n (nth r) (nth x)<0):∃l,bO n R l/\Sub l x/\bh n (nth r) (nth l)<0:=by obtain⟨l,h1,h2,U⟩:=yR (r.map (- ·)) _ (ut _) f (by rw[kh];omega);rw[kh] at U;exact#[l,h1,h2,⋯]
theorem Bx(r:List Int)(f:Fit n R x)(hv:bh n (nth r) (nth x)=0):
 (∃l,bO n R l/\Sub l x/\bh n (nth r) (nth l)=0)\/∃h w,bO n R h/\bO n R w/\Sub h x/\Sub w x/\0<bh n (nth r) (nth h)/\bh n (nth r) (nth w)<0:=by
 obtain⟨l,U,hs⟩:=zN _ (ut _) f;by_cases h0:bh n (nth r) (nth l)=0;exact .inl #[l,U,hs,h0];obtain⟨z,zl,zn,zs,c,d,hc,hd,h,m,hm,az⟩:=xH f U.fit hs;have ev:=zR (n:=n) h (nth r);rw[hv] at ev;have Y:bh n (nth r) (nth z)≠0:=by rw[ev];have:=UD (show d≠0 by omega) h0;omega
 have hz:∃i,nth z i≠0:=by
  apply Rh;intro hn;exact Y (eM λi _=>by
   have:nth z i=0:=by by_cases e:nth z i=0;exact e;exact absurd #[i,e] hn
   rw[this];omega)
 have fz:=zY f U.fit zl zn h hz;by_cases hp:0<bh n (nth r) (nth l);have:=Rv hd hp;obtain⟨w,w1,w2,w3⟩:=zi r fz ⋯;exact .inr #[l,w,U,w1,hs,w2.trans zs,hp,w3];have:=Sr hd (show bh n (nth r) (nth l)<0 by omega);obtain⟨w,w1,w2,w3⟩:=yR r _ (ut _) fz ⋯;exact .inr #[w,l,w1,U,w2.trans zs,hs,w3,⋯]
def subB(n:Nat)(l h w:List Int):Bool:=(tz n).all λi=>decide (nth l i=0)||decide (nth h i≠0)||decide (nth w i≠0)
def nbB(n:Nat)(L:List (List Int))(h w:List Int):Bool:=(L.filter λl=>subB n l h w).length == 2
def dQ(n:Nat)(L:List (List Int))(r:List Int):List (List Int):=
 (L.filter λl=>decide (aG r l=0))++(L.filter λl=>decide (0<aG r l)).flatMap λh=>((L.filter λl=>decide (aG r l<0)).filter λw=>nbB n L h w).map λw=>cX w (aG r w) h (aG r h)
theorem xU(U:l.length=n):subB n l h w=on↔∀i,nth l i≠0->nth h i≠0\/nth w i≠0:=by
 unfold subB;rw[S4];constructor;intro H i hi;have lt:i<n:=by by_cases e:i<n;exact e;exact absurd (i8 ⋯) hi
 have:=H i (Ch.mpr lt);simp only[SE,decide_eq_true_eq] at this;rcases this with(z | z) | z
 exact absurd z hi;exact .inl z;exact .inr z;intro H i _;simp only[SE,decide_eq_true_eq];by_cases e:nth l i=0;exact .inl (.inl e);rcases H i e with z | z
 exact .inl (.inr z);exact .inr z
theorem G0{α:Type}{L:List α}(hd:L.Nodup)(U:L.length=2){h w:α}(hh:h∈L)(hw:w∈L)(Y:h≠w):∀l∈L,l=h\/l=w:=by
 match L,U with
 | [a,b],_=>
  intro l U;simp only[vr,R7,or_false] at hh hw U;rcases hh with rfl | rfl <;> rcases hw with rfl | rfl <;> rcases U with rfl | rfl <;> first | exact .inl rfl | exact .inr rfl | exact absurd rfl Y
theorem GH{α:Type}{L:List α}(hd:L.Nodup){h w:α}(U:h∈L)(Y:w∈L)(ab:h≠w)(ha:∀l∈L,l=h\/l=w):L.length=2:=by
 have h1:L.length<=2:=by
  match L,hd with
  | [],_=>simp
  | [_],_=>simp
  | [_,_],_=>simp
  | a::b::c::r,hd=>
   exfalso;have ac:=ha a (by simp);have al:=ha b (by simp);have am:=ha c (by simp);simp only[RK,vr,not_or] at hd;rcases ac with e1 | e1 <;> rcases al with e2 | e2 <;> rcases am with e3 | e3 <;> simp_all
 match L,U,Y,h1 with
 | [a],U,Y,_=>
  simp only[wf] at U Y;exact absurd (U.trans Y.symm) ab
 | [a,b],_,_,_=>rfl
section
variable {n : Nat} {R L : List (List Int)} {r : List Int}
structure jS(n:Nat)(R L:List (List Int)):Prop where
 all:∀x,x∈L↔bO n R x
 nd:L.Nodup
theorem jS.dot(k:jS n R L)(h:l∈L)(r:List Int):aG r l=bh n (nth r) (nth l):=jT ((k.all l).mp h).fit.len
theorem ze(k:jS n R L)(hh:h∈L)(hw:w∈L)(U:h≠w):nbB n L h w=on↔∀l∈L,(∀i,nth l i≠0->nth h i≠0\/nth w i≠0)->l=h\/l=w:=by
 have mem:∀l,l∈L.filter (λl=>subB n l h w)↔l∈L/\∀i,nth l i≠0->nth h i≠0\/nth w i≠0:=λl=>by rw[wS];constructor;exact λ#[a,b]=>#[a,(xU ((k.all l).mp a).fit.len).mp b];exact λ#[a,b]=>#[a,(xU ((k.all l).mp a).fit.len).mpr b]
 have nd:(L.filter (λl=>subB n l h w)).Nodup:=k.nd.filter _;have m1:h∈L.filter (λl=>subB n l h w):=(mem h).mpr #[hh,λi hi=>.inl hi];have m2:w∈L.filter (λl=>subB n l h w):=(mem w).mpr #[hw,λi hi=>.inr hi];unfold nbB;rw[beq_iff_eq];constructor;exact λY l h1 h2=>G0 nd Y m1 m2 U l ((mem l).mpr #[h1,h2]);exact λha=>GH nd m1 m2 U λl Y=>let #[a,b]:=(mem l).mp Y;ha l a b
theorem lg(hr:r.length=n)(Y:Fit n R h)(fw:Fit n R w)(vh:0<aG r h)(vw:aG r w<0):
 Fit n (R++[r]) (cX w (aG r w) h (aG r h))/\cE (cX w (aG r w) h (aG r h))=1/\(∀i,nth (cX w (aG r w) h (aG r h)) i≠0↔nth h i≠0\/nth w i≠0)/\
 ∃g:Int,0<g/\∀i,g*nth (cX w (aG r w) h (aG r h)) i=nth w i*aG r h+nth h i*(-(aG r w)):=by
 have U:w.length=h.length:=by rw[fw.len,Y.len]
 obtain⟨g,hg,e⟩:=tV U (aG r w) (aG r h);have e':∀i,g*nth (cX w (aG r w) h (aG r h)) i=nth w i*aG r h+nth h i*(-(aG r w)):=λi=>by rw[e i];grind
 have nz:∀i,nth (cX w (aG r w) h (aG r h)) i≠0↔nth h i≠0\/nth w i≠0:=λi=>by
  have h1:=Rs (fw.nn i) (show 0<=aG r h by omega);have h2:=Rs (Y.nn i) (show 0<= -(aG r w) by omega);constructor;intro hz;apply Rh;intro hn;have q1:nth h i=0:=by by_cases q:nth h i=0;exact q;exact absurd (.inl q) hn
  have q2:nth w i=0:=by by_cases q:nth w i=0;exact q;exact absurd (.inr q) hn
  have:=e' i;rw[q1,q2] at this;have:g*nth (cX w (aG r w) h (aG r h)) i=0:=by rw[this];omega
  rcases Q9.mp this with z | z;omega;exact hz z;intro al z;have:=e' i;rw[z] at this;have hs:nth w i*aG r h+nth h i*(-(aG r w))=0:=⋯;rcases al with q | q;have:=Rv (show 0<nth h i by have:=Y.nn i;omega) (show 0 < -(aG r w) by omega);omega;have:=Rv (show 0<nth w i by have:=fw.nn i;omega) vh;omega
 have one:cE (cX w (aG r w) h (aG r h))=1:=by obtain⟨i,hi⟩:=Y.nz;have q:nth (cX w (aG r w) h (aG r h)) i≠0:=(nz i).mpr (.inl hi);exact tN _ i q
 refine#[#[by rw[nq U,fw.len],λi=> ?_,λq hq=> ?_, ?_],one,nz,g,hg,e'];have h1:=Rs (fw.nn i) (show 0<=aG r h by omega);have h2:=Rs (Y.nn i) (show 0<= -(aG r w) by omega);have:=e' i;by_cases z:0<=nth (cX w (aG r w) h (aG r h)) i;exact z;have:=Sr hg (show nth (cX w (aG r w) h (aG r h)) i<0 by omega);omega;obtain⟨g',az,ed⟩:=xV (n:=n) U (aG r w) (aG r h) (nth q);simp only[fM] at ed;rw[bK];have z:g'*bh n (nth (cX w (aG r w) h (aG r h))) (nth q)=0:=by
  rw[ed,bK n (nth w),bK n (nth h)];rcases wn.mp hq with hq | hq
  rw[fw.st q hq,Y.st q hq];omega;rw[wf.mp hq,<- jT fw.len,<- jT Y.len];grind
 rcases Q9.mp z with z | z;omega;exact z;obtain⟨i,hi⟩:=Y.nz;exact#[i,(nz i).mpr (.inl hi)]
theorem Fit.less{R S:List (List Int)}(f:Fit n (R++S) x):Fit n R x:=#[f.len,f.nn,λr hr=>f.st r (Ru _ hr),f.nz]
theorem Fit.more(f:Fit n R x)(h:bh n (nth r) (nth x)=0):Fit n (R++[r]) x:=#[f.len,f.nn,λq hq=>by rcases wn.mp hq with z | z;exact f.st q z;rw[wf.mp z];exact h,f.nz]
theorem bO.same(a:bO n R x)(b:bO n R y)(h:Sub y x):x=y:=a.eq b.fit b.one h
theorem wQ(hr:r.length=n)(U:bO n R h)(ll:bO n R l)(lw:bO n R w)(Y:bO n (R++[r]) x)(vh:0<aG r h)(vl:0<aG r l)(vw:aG r w<0)(sh:Sub h x)(sl:Sub l x)(sw:Sub w x):l=h:=by
 obtain⟨f1,g1,z1,a,ha,e1⟩:=lg hr U.fit lw.fit vh vw;obtain⟨f2,g2,z2,b,hb,e2⟩:=lg hr ll.fit lw.fit vl vw;have x1:=Y.eq f1 g1 λi hi=>((z1 i).mp hi).elim (sh i) (sw i);have x2:=Y.eq f2 g2 λi hi=>((z2 i).mp hi).elim (sl i) (sw i);rw[<- x1] at e1;rw[<- x2] at e2;have key:∀i,b*(nth h i*(-(aG r w)))+(b*aG r h-a*aG r l)*nth w i=a*(nth l i*(-(aG r w))):=λi=>by
  have q1:=e1 i;have q2:=e2 i;have:b*(a*nth x i)=a*(b*nth x i):=by grind
  rw[q1,q2] at this;grind
 have hu:0 < -(aG r w):=⋯;by_cases hm:0<=b*aG r h-a*aG r l;refine(bO.same ll U λi hi=> ?_);intro z;have q:=key i;rw[z] at q;have h1:=Rv hb (Rv (show 0<nth h i by have:=U.fit.nn i;omega) hu);have h2:=Rs hm (lw.fit.nn i);have h3:a*(0*(-(aG r w)))=0:=by simp
 omega;refine(bO.same U ll λi hi=> ?_).symm;intro z;have q:=key i;rw[z] at q;have h1:=Rv ha (Rv (show 0<nth l i by have:=ll.fit.nn i;omega) hu);have h2:=Int.mul_nonpos_of_nonpos_of_nonneg (show b*aG r h-a*aG r l<=0 by omega) (lw.fit.nn i);have h3:b*(0*(-(aG r w)))=0:=by simp
 omega
theorem xA(U:l.length=n):aG (r.map (- ·)) l= -(aG r l):=by rw[jT U,jT U,kh]
theorem bO.neg(l:bO n (R++[r]) x):bO n (R++[r.map (- ·)]) x:=by
 have U:∀y,Fit n (R++[r]) y↔Fit n (R++[r.map (- ·)]) y:=λy=>by constructor;refine λf=>Fit.more f.less ?_;rw[kh,f.st r (by simp)];rfl;refine λf=>Fit.more f.less ?_;have:=f.st (r.map (- ·)) (by simp);rw[kh] at this;omega
 exact#[(U x).mp l.fit,l.one,λy Y=>l.min y ((U y).mpr Y)]
theorem Dv(hr:r.length=n)(U:bO n R h)(ll:bO n R l)(lw:bO n R w)(Y:bO n (R++[r]) x)(vh:0<aG r h)(vl:aG r l<0)(vw:aG r w<0)(sh:Sub h x)(sl:Sub l x)(sw:Sub w x):l=w:=
 wQ (r:=r.map (- ·)) (h:=w) (l:=l) (w:=h) (by simpa using hr) lw ll U Y.neg (by rw[xA lw.fit.len];omega) (by rw[xA ll.fit.len];omega) (by rw[xA U.fit.len];omega) sw sl sh
theorem vo:x∈dQ n L r↔(x∈L/\aG r x=0)\/∃h w,h∈L/\w∈L/\0<aG r h/\aG r w<0/\nbB n L h w=on/\x=cX w (aG r w) h (aG r h):=by unfold dQ;rw[wn];constructor;rintro (h | h);rw[wS,decide_eq_true_eq] at h;exact .inl h;obtain⟨h',q1,q2⟩:=Us.mp h;obtain⟨w,U,rfl⟩:=pr.mp q2;rw[wS,decide_eq_true_eq] at q1;rw[wS,wS,decide_eq_true_eq] at U;exact .inr #[h',w,q1.1,U.1.1,q1.2,U.1.2,U.2,rfl];rintro (h | ⟨h',w,q1,q2,U,Y,q5,rfl⟩);exact .inl (by rw[wS,decide_eq_true_eq];exact h);refine .inr (Us.mpr #[h',by rw[wS,decide_eq_true_eq];exact#[q1,U],pr.mpr #[w, ?_,rfl]]);rw[wS,wS,decide_eq_true_eq];exact#[#[q2,Y],q5]
theorem Et(hr:r.length=n)(k:jS n R L)(x:List Int):x∈dQ n L r↔bO n (R++[r]) x:=by
 rw[vo];constructor;rintro (⟨hx,v⟩ | ⟨h,w,hh,hw,U,vw,nb,rfl⟩);have l:=(k.all x).mp hx;rw[k.dot hx] at v;exact#[l.fit.more v,l.one,λy fy=>l.min y fy.less];have lh:=(k.all h).mp hh;have lw:=(k.all w).mp hw;have ac:h≠w:=λe=>by rw[e] at U;omega
 obtain⟨f1,g1,z1,_⟩:=lg hr lh.fit lw.fit U vw;refine#[f1,g1,λy fy sy=> ?_];have al:=(ze k hh hw ac).mp nb;rcases Bx r fy.less (fy.st r (by simp)) with⟨l,ll,sl,v⟩ | ⟨h',w',bv,bw,a1,a2,a3,a4⟩
 have Y:=(k.all l).mpr ll;have:=al l Y λi hi=>(z1 i).mp (sy i (sl i hi));rw[<- k.dot Y] at v;rcases this with rfl | rfl <;> omega
 have a5:=(k.all h').mpr bv;have bb:=(k.all w').mpr bw;rw[<- k.dot a5] at a3;rw[<- k.dot bb] at a4;have e1:h'=h:=by
  rcases al h' a5 λi hi=>(z1 i).mp (sy i (a1 i hi)) with e | e
  exact e;rw[e] at a3;omega
 have e2:w'=w:=by
  rcases al w' bb λi hi=>(z1 i).mp (sy i (a2 i hi)) with e | e
  rw[e] at a4;omega;exact e
 subst e1 e2;exact λi hi=>((z1 i).mp hi).elim (a1 i) (a2 i);intro lx;by_cases hz:∃l,bO n R l/\Sub l x/\bh n (nth r) (nth l)=0;obtain⟨l,ll,sl,v⟩:=hz;have e:=lx.eq (ll.fit.more v) ll.one sl;subst e;have Y:=(k.all x).mpr ll;exact .inl #[Y,by rw[k.dot Y];exact v];rcases Bx r lx.fit.less (lx.fit.st r (by simp)) with h0 | ⟨h,w,lh,lw,sh,sw,U,vw⟩
 exact absurd h0 hz;have hh:=(k.all h).mpr lh;have hw:=(k.all w).mpr lw;rw[<- k.dot hh] at U;rw[<- k.dot hw] at vw;have ac:h≠w:=λe=>by rw[e] at U;omega
 obtain⟨f1,g1,z1,_⟩:=lg hr lh.fit lw.fit U vw;refine .inr #[h,w,hh,hw,U,vw,(ze k hh hw ac).mpr λl Y sl=> ?_,lx.eq f1 g1 λi hi=>((z1 i).mp hi).elim (sh i) (sw i)];have ll:=(k.all l).mp Y;have am:Sub l x:=λi hi=>(sl i hi).elim (sh i) (sw i);by_cases v0:aG r l=0;exact absurd #[l,ll,am,by rw[<- k.dot Y];exact v0] hz;by_cases vp:0<aG r l;exact .inl (wQ hr lh ll lw lx U vp vw sh am sw);exact .inr (Dv hr lh ll lw lx U ⋯ vw sh am sw)
end
section
variable {n : Nat} {R L : List (List Int)} {r : List Int}
theorem Fg (hr:r.length=n) (k:jS n R L) {h w h' U:List Int} (hh:h∈L) (hw:w∈L) (vh:0<aG r h) (vw:aG r w<0) (nb:nbB n L h w=on)
 (Y:h'∈L) (ab:U∈L) (ac:0<aG r h') (al:aG r U<0) (e:cX w (aG r w) h (aG r h)=cX U (aG r U) h' (aG r h')):h=h'/\w=U:=by
 have an:h≠w:=λe=>by rw[e] at vh;omega
 obtain⟨_,_,z1,_⟩:=lg hr ((k.all h).mp hh).fit ((k.all w).mp hw).fit vh vw;obtain⟨_,_,z2,_⟩:=lg hr ((k.all h').mp Y).fit ((k.all U).mp ab).fit ac al;rw[e] at z1;have am:=(ze k hh hw an).mp nb;constructor;rcases am h' Y λi hi=>(z1 i).mp ((z2 i).mpr (.inl hi)) with q | q
 exact q.symm;rw[q] at ac;omega;rcases am U ab λi hi=>(z1 i).mp ((z2 i).mpr (.inr hi)) with q | q
 rw[q] at al;omega;exact q.symm
theorem Ey(hr:r.length=n)(k:jS n R L):(dQ n L r).Nodup:=by
 unfold dQ;rw[R0];refine#[k.nd.filter _, ?_,λx hx y hy e=> ?_];unfold List.Nodup;rw[List.pairwise_flatMap];constructor;intro h U;rw[wS,decide_eq_true_eq] at U;rw[So];refine RZ (λ{w w'} Y ab ac=> ?_) ((k.nd.filter _).filter _);rw[wS,wS,decide_eq_true_eq] at Y ab;exact λe=>ac (Fg hr k U.1 Y.1.1 U.2 Y.1.2 Y.2 U.1 ab.1.1 U.2 ab.1.2 e).2;refine RZ (λ{h h'} U hh' ac x hx y hy=> ?_) (k.nd.filter _);rw[wS,decide_eq_true_eq] at U hh';obtain⟨w,Y,rfl⟩:=pr.mp hx;obtain⟨w',ab,rfl⟩:=pr.mp hy;rw[wS,wS,decide_eq_true_eq] at Y ab;exact λe=>ac (Fg hr k U.1 Y.1.1 U.2 Y.1.2 Y.2 hh'.1 ab.1.1 hh'.2 ab.1.2 e).1;subst e;rw[wS,decide_eq_true_eq] at hx;obtain⟨h,U,hy⟩:=Us.mp hy;obtain⟨w,Y,e⟩:=pr.mp hy;rw[wS,decide_eq_true_eq] at U;rw[wS,wS,decide_eq_true_eq] at Y;have ac:h≠w:=λe=>by rw[e] at U;omega
 obtain⟨_,_,z1,_⟩:=lg hr ((k.all h).mp U.1).fit ((k.all w).mp Y.1.1).fit U.2 Y.1.2;rw[e] at z1;rcases(ze k U.1 Y.1.1 ac).mp Y.2 x hx.1 λi hi=>(z1 i).mp hi with q | q
 rw[q] at hx;omega;rw[q] at hx;omega
theorem jS.step(hr:r.length=n)(k:jS n R L):jS n (R++[r]) (dQ n L r):=#[Et hr k,Ey hr k]
theorem Bg(ha:a<n):cE (ee n a)=1:=by have:=pN (ee n a) a;rw[dr ha,if_pos rfl] at this;have:(cE (ee n a):Int).natAbs ∣ (1:Int).natAbs:=Sf.mpr this;simpa using this
theorem yk(ha:a<n):Fit n [] (ee n a):=by refine#[by unfold ee;simp,λi=> ?_,by simp,#[a, ?_]];rw[dr ha];split <;> omega;rw[dr ha,if_pos rfl];decide
theorem HK(ha:a<n):bO n [] (ee n a):=by refine#[yk ha,Bg ha,λy Y sy=>λi hi=> ?_];rw[dr ha] at hi;by_cases e:i=a;subst e;obtain⟨j,U⟩:=Y.nz;have:=sy j U;rw[dr ha] at this;by_cases e:j=i;rw[<- e];exact U;rw[if_neg e] at this;exact absurd rfl this;rw[if_neg e] at hi;exact absurd rfl hi
theorem GD(n:Nat):jS n [] (cJ n):=by
 refine#[λx=>#[λhx=> ?_,λl=> ?_], ?_];obtain⟨a,ha,rfl⟩:=pr.mp hx;exact HK (Ch.mp ha);obtain⟨i,hi⟩:=l.fit.nz;have lt:=l.fit.lt hi;have:=l.eq (yk lt) (Bg lt) λj U=>by rw[dr lt] at U;by_cases e:j=i;rw[e];exact hi;rw[if_neg e] at U;exact absurd rfl U
 rw[this];exact pr.mpr #[i,Ch.mpr lt,rfl];unfold cJ List.Nodup;rw[So];refine RZ (λ{a b} ha hb hne e=>hne ?_) List.nodup_range;have h1:=dr (Ch.mp ha) a;rw[e,dr (Ch.mp hb),if_pos rfl] at h1;by_cases q:a=b;exact q;rw[if_neg q] at h1;cases h1
theorem BA:∀{rows:List (List Int)},(∀r∈rows,r.length=n)->∀{R L:List (List Int)},jS n R L->jS n (R++rows) (rows.foldl (dQ n) L)
 | [],_,R,L,k=>by simpa using k
 | row::rows,h,R,L,k=>by have:=BA (rows:=rows) (λr hr=>h r (sB _ hr)) (k.step (h row sH));simpa using this
def jy(rows:List (List Int))(n:Nat):List (List Int):=rows.foldl (dQ n) (cJ n)
theorem nN(h:∀r∈rows,r.length=n):jS n rows (jy rows n):=by have:=BA h (GD n);rw[xz] at this;exact this
end
section
variable {n : Nat} {R L : List (List Int)}
theorem zv{c:List Int}(h:∀l,bO n R l->0<=bh n (nth c) (nth l))(U:Fit n R y):0<=bh n (nth c) (nth y):=by by_cases Y:0<=bh n (nth c) (nth y);exact Y;obtain⟨l,h1,_,h3⟩:=zi c U ⋯;have:=h l h1;omega
theorem between{α:Type}(a b:α->Int):∀(A B:List α),(∀x∈A,0<b x)->(∀x∈B,0<b x)->(∀x∈A,∀y∈B,a x*b y<=a y*b x)->
 ∃p q:Int,0<q/\(∀x∈A,a x*q<=p*b x)/\∀y∈B,p*b y<=a y*q:=by
 have U:∀B:List α,B≠[]->(∀x∈B,0<b x)->∃m∈B,∀y∈B,a m*b y<=a y*b m:=by
  intro B;induction B with
  | nil=>intro h;exact absurd rfl h
  | cons x B ih=>
   intro _ hb;by_cases Y:B=[];subst Y;exact#[x,by simp,λy hy=>by rw[wf.mp hy];omega];obtain⟨m,hm,hl⟩:=ih Y λy hy=>hb y (sB _ hy);have b1:=hb x sH;have b2:=hb m (sB _ hm);by_cases hc:a m*b x<=a x*b m;refine#[m,sB _ hm,λy hy=> ?_];rcases vr.mp hy with rfl | hy
   exact hc;exact hl y hy;refine#[x,sH,λy hy=> ?_];rcases vr.mp hy with rfl | hy
   omega;exact wR b1 b2 (hb y (sB _ hy)) ⋯ (hl y hy)
 intro A B hA Y ab;by_cases ac:B=[];subst ac;have:∃p:Int,∀x∈A,a x<=p*b x:=by
  clear ab;induction A with
  | nil=>exact#[0,by simp]
  | cons x A ih=>
   obtain⟨p,hp⟩:=ih (λy hy=>hA y (sB _ hy));refine#[max p (max (a x) 0),λy hy=> ?_];have b1:=hA y hy;rcases vr.mp hy with rfl | hy
   have:max p (max (a y) 0)*1<=max p (max (a y) 0)*b y:=Int.mul_le_mul_of_nonneg_left ⋯ ⋯;omega;have h1:=hp y hy;have:p*b y<=max p (max (a x) 0)*b y:=RA ⋯ ⋯;omega
 obtain⟨p,hp⟩:=this;exact#[p,1,∅,λx hx=>by have:=hp x hx;omega,by simp];obtain⟨m,hm,hl⟩:=U B ac Y;exact#[a m,b m,Y m hm,λx hx=>ab x hx m hm,hl]
theorem Nb:∀{rows:List (List Int)},(∀r∈rows,r.length=n)->∀{c:List Int},c.length=n->(∀y,Fit n rows y->0<=bh n (nth c) (nth y))->
 ∃k:Int,0<k/\∃T:List Int,T.length=rows.length/\∀i,i<n->dy T rows i<=k*nth c i:=by
 intro rows;suffices H:∀(m:Nat) (rows:List (List Int)),rows.length=m->(∀r∈rows,r.length=n)->∀{c:List Int},c.length=n->(∀y,Fit n rows y->0<=bh n (nth c) (nth y))->
  ∃k:Int,0<k/\∃T:List Int,T.length=rows.length/\∀i,i<n->dy T rows i<=k*nth c i from λh c hc hy=>H rows.length rows rfl h hc hy
 intro m;induction m with
 | zero=>
  intro rows hm _ c hc hy;have e:rows=[]:=List.length_eq_zero_iff.mp hm;subst e;refine#[1,∅,[],rfl,λi hi=> ?_];have:=hy _ (yk hi);unfold bh at this;rw[fU hi λj _ hj=>by rw[dr hi,if_neg hj];omega,dr hi,if_pos rfl] at this;rw[show dy [] [] i=0 from rfl];omega
 | succ m ih=>
  intro rows hm hl c hc hy;obtain⟨R,r,rfl⟩:∃R r,rows=R++[r]:=by rcases List.eq_nil_or_concat rows with h | ⟨R,r,h⟩;subst h;simp at hm;exact#[R,r,by rw[h];simp]
  have Y:∀q∈R,q.length=n:=λq hq=>hl q (Ru _ hq);have hr:r.length=n:=hl r (by simp);have k:=nN Y;obtain⟨p,q,hq,h1,h2⟩:=between (α:=Bool×List Int) (λx=>if x.1 then bh n (nth c) (nth x.2) else -(bh n (nth c) (nth x.2))) (λx=>if x.1 then bh n (nth r) (nth x.2) else -(bh n (nth r) (nth x.2)))
   (((jy R n).filter λl=>decide (bh n (nth r) (nth l)<0)).map λl=>(tt,l)) (((jy R n).filter λl=>decide (0<bh n (nth r) (nth l))).map λl=>(on,l))
   (λx hx=>by obtain⟨l,hl',rfl⟩:=pr.mp hx;rw[wS,decide_eq_true_eq] at hl';simp;exact hl'.2)
   (λx hx=>by obtain⟨l,hl',rfl⟩:=pr.mp hx;rw[wS,decide_eq_true_eq] at hl';simp;exact hl'.2)
   (λx hx y an=>by
    obtain⟨w,hw,rfl⟩:=pr.mp hx;obtain⟨h,hh,rfl⟩:=pr.mp an;rw[wS,decide_eq_true_eq] at hw hh;have lw:=(k.all w).mp hw.1;have lh:=(k.all h).mp hh.1;have vh:0<aG r h:=by rw[k.dot hh.1];exact hh.2
    have vw:aG r w<0:=by rw[k.dot hw.1];exact hw.2
    obtain⟨f1,_,_,g,hg,e⟩:=lg hr lh.fit lw.fit vh vw;have ap:=hy _ f1;have ed:g*bh n (nth c) (nth (cX w (aG r w) h (aG r h)))=aG r h*bh n (nth c) (nth w)+(-(aG r w))*bh n (nth c) (nth h):=by rw[bK,kU (g:=g) (c:=nth (cX w (aG r w) h (aG r h))) (a:=nth w) (b:=nth h) (u:=aG r h) (v:= -(aG r w)) (λi _=>by rw[e i];grind),bK n (nth w),bK n (nth h)]
    have:=Rs (show 0<=g by omega) ap;conv at ed=>rhs;rw[k.dot hh.1,k.dot hw.1]
    simp only[Td,if_false,if_true];have q1: -(bh n (nth c) (nth w))*bh n (nth r) (nth h)= -(bh n (nth r) (nth h)*bh n (nth c) (nth w)):=by grind
    have q2:bh n (nth c) (nth h) * -(bh n (nth r) (nth w))= -(bh n (nth r) (nth w))*bh n (nth c) (nth h):=by grind
    omega)
  have U:c.length=r.length:=by rw[hc,hr]
  obtain⟨k',az,T,hT,a0⟩:=ih R (by simpa using hm) Y (c:=gM c p r q) (by rw[nD U,hc]) (λy fy=>by
   refine zv (λl ll=> ?_) fy;have am:=(k.all l).mpr ll;have ed:bh n (nth (gM c p r q)) (nth l)=q*bh n (nth c) (nth l)-p*bh n (nth r) (nth l):=by
    have:=kU (n:=n) (g:=1) (c:=nth (gM c p r q)) (a:=nth c) (b:=nth r) (u:=q) (v:= -p) (λi _=>by rw[tS U];grind) (nth l);have e2: -p*bh n (nth r) (nth l)= -(p*bh n (nth r) (nth l)):=by grind
    omega
   rw[ed];by_cases v0:bh n (nth r) (nth l)=0;have:=Rs (show 0<=q by omega) (hy l (ll.fit.more v0));rw[v0];omega;by_cases vp:0<bh n (nth r) (nth l);have:=h2 (on,l) (pr.mpr #[l,by rw[wS,decide_eq_true_eq];exact#[am,vp],rfl]);simp only[if_true] at this;have e2:bh n (nth c) (nth l)*q=q*bh n (nth c) (nth l):=Rg _ _;omega;have:=h1 (tt,l) (pr.mpr #[l,by rw[wS,decide_eq_true_eq];exact#[am,⋯],rfl]);simp only[Td,if_false] at this;have e2: -(bh n (nth c) (nth l))*q= -(q*bh n (nth c) (nth l)):=by grind
   have e3:p * -(bh n (nth r) (nth l))= -(p*bh n (nth r) (nth l)):=by grind
   omega)
  refine#[k'*q,Rv az hq,T++[k'*p],by simp[hT],λi hi=> ?_];have:=a0 i hi;rw[tS U] at this;rw[tq hT];have e1:k'*(nth c i*q-nth r i*p)=k'*q*nth c i-k'*p*nth r i:=by grind
  omega
end
theorem xw:∀(N:Nat) (l:List Nat),l.Nodup->(∀x∈l,x<N)->l.length<=N
 | 0,l,_,h=>by
  cases l with
  | nil=>exact ut _
  | cons a l=>exact absurd (h a sH) ⋯
 | N+1,l,nd,h=>by
  by_cases hm:N∈l;have:=xw N (l.erase N) (nd.erase N) (λx hx=>by have h1:=(nd.mem_erase_iff.mp hx);have:=h x h1.2;have:=h1.1;omega)
  rw[Uo hm] at this;omega;have:=xw N l nd (λx hx=>by have h1:=h x hx;have:x≠N:=λe=>hm (e▸hx);omega)
  omega
def at0(x:List Int)(i:Nat):Bool:=decide (nth x i≠0)
def cl3(a b c:Bool):Nat:=match a,b,c with
 | false,on,_=>1
 | false,tt,on=>2
 | true,tt,on=>2
 | _,_,_=>0
theorem Ed(a b c:Bool):cl3 a b c<=2:=by revert a b c;decide
theorem Hv:∀a b c U Y c':Bool,cl3 a b c=cl3 U Y c'->((a=on->U=on)/\(b=on->Y=on)/\(c=on->c'=on))\/((U=on->a=on)/\(Y=on->b=on)/\(c'=on->c=on)):=∅
def Av(x:List Int):Nat:=3*((at0 x 3).toNat+2*(at0 x 4).toNat+4*(at0 x 5).toNat+8*(at0 x 6).toNat)+cl3 (at0 x 0) (at0 x 1) (at0 x 2)
theorem toNat_le(b:Bool):b.toNat<=1:=by cases b <;> decide
theorem toNat_inj{a b:Bool}(h:a.toNat=b.toNat):a=b:=by revert a b;decide
theorem LK(x:List Int):Av x<48:=by have:=Ed (at0 x 0) (at0 x 1) (at0 x 2);have:=toNat_le (at0 x 3);have:=toNat_le (at0 x 4);have:=toNat_le (at0 x 5);have:=toNat_le (at0 x 6);unfold Av;omega
theorem IT(hx:x.length<=7)(h:∀i,i<7->at0 x i=on->at0 y i=on):Sub x y:=λi hi=>by by_cases U:i<7;exact of_decide_eq_true (h i U (decide_eq_true hi));exact absurd (i8 ⋯) hi
theorem MF(hn:n<=7)(lx:bO n R x)(ly:bO n R y)(h:Av x=Av y):x=y:=by
 have a1:=Ed (at0 x 0) (at0 x 1) (at0 x 2);have a2:=Ed (at0 y 0) (at0 y 1) (at0 y 2);have b3:=toNat_le (at0 x 3);have c3:=toNat_le (at0 y 3);have b4:=toNat_le (at0 x 4);have c4:=toNat_le (at0 y 4);have b5:=toNat_le (at0 x 5);have c5:=toNat_le (at0 y 5);have b6:=toNat_le (at0 x 6);have c6:=toNat_le (at0 y 6);unfold Av at h;have e3:at0 x 3=at0 y 3:=toNat_inj ⋯;have e4:at0 x 4=at0 y 4:=toNat_inj ⋯;have e5:at0 x 5=at0 y 5:=toNat_inj ⋯;have e6:at0 x 6=at0 y 6:=toNat_inj ⋯;have e:cl3 (at0 x 0) (at0 x 1) (at0 x 2)=cl3 (at0 y 0) (at0 y 1) (at0 y 2):=⋯;have Y:x.length<=7:=by rw[lx.fit.len];exact hn
 have ab:y.length<=7:=by rw[ly.fit.len];exact hn
 rcases Hv _ _ _ _ _ _ e with⟨q0,q1,q2⟩ | ⟨q0,q1,q2⟩;refine(ly.same lx (IT Y λi hi U=> ?_)).symm;have:i=0\/i=1\/i=2\/i=3\/i=4\/i=5\/i=6:=⋯;rcases this with rfl | rfl | rfl | rfl | rfl | rfl | rfl;exact q0 U;exact q1 U;exact q2 U;rw[<- e3];exact U;rw[<- e4];exact U;rw[<- e5];exact U;rw[<- e6];exact U;refine lx.same ly (IT ab λi hi U=> ?_);have:i=0\/i=1\/i=2\/i=3\/i=4\/i=5\/i=6:=⋯;rcases this with rfl | rfl | rfl | rfl | rfl | rfl | rfl;exact q0 U;exact q1 U;exact q2 U;rw[e3];exact U;rw[e4];exact U;rw[e5];exact U;rw[e6];exact U
theorem Bu{α β:Type}{f:α->β}:∀{l:List α},l.Nodup->(∀x∈l,∀y∈l,f x=f y->x=y)->(l.map f).Nodup
 | [],_,_=>VC
 | a::l,nd,h=>by rw[ww,RK];rw[RK] at nd;refine#[λhm=> ?_,Bu nd.2 λx hx y hy=>h x (sB _ hx) y (sB _ hy)];obtain⟨b,hb,e⟩:=pr.mp hm;exact nd.1 (h b (sB _ hb) a sH e▸hb)
theorem jS.few{R L:List (List Int)}(k:jS n R L)(hn:n<=7):L.length<64:=by
 have:=xw 48 (L.map Av) (Bu k.nd λx hx y hy e=>MF hn ((k.all x).mp hx) ((k.all y).mp hy) e) λc hc=>by obtain⟨x,_,rfl⟩:=pr.mp hc;exact LK x
 rw[ss] at this;omega
theorem Ka{L:List (List Int)}(hr:SzL c r)(Y:r.length<=1000)(U:cD b L):cD (2*b+c+12) (dQ n L r):=by
 intro x hx;rcases vo.mp hx with⟨h,_⟩ | ⟨h,w,hh,hw,_,_,_,rfl⟩
 exact(U x h).mono ⋯;exact(SzL.off (U w hw) (U h hh) (si hr (U w hw) Y) (si hr (U h hh) Y)).mono ⋯
def qp(c:Nat):Nat->Nat->Nat
 | 0,b=>b
 | m+1,b=>qp c m (2*b+c+12)
theorem xS{n c:Nat}:∀(rows:List (List Int)) (b:Nat) (L:List (List Int)),(∀r∈rows,SzL c r/\r.length<=1000)->cD b L->cD (qp c rows.length b) (rows.foldl (dQ n) L)
 | [],b,L,_,h=>h
 | r::rows,b,L,hr,h=>xS rows _ _ (λq hq=>hr q (sB _ hq)) (Ka (hr r sH).1 (hr r sH).2 h)
theorem Dp(c:Nat):∀(m b:Nat),b<=qp c m b
 | 0,_=>ut _
 | m+1,b=>IR ⋯ (Dp c m (2*b+c+12))
theorem nF(c:Nat):∀(m U b:Nat),m<=U->qp c m b<=qp c U b
 | 0,U,b,_=>Dp c U b
 | m+1,0,b,h=>absurd h ⋯
 | m+1,U+1,b,h=>nF c m U _ ⋯
def dC(x:List Int):Nat:=x.foldl (λb y=>b*2+if 0<y then 1 else 0) 0
theorem FC:∀(x:List Int) (b i:Nat),(x.foldl (λb y=>b*2+if 0<y then 1 else 0) b).testBit i=if i<x.length then decide (0<nth x (x.length-1-i)) else b.testBit (i-x.length)
 | [],b,i=>by simp
 | y::x,b,i=>by
  rw[RQ,FC x];have Y:(if 0<y then 1 else 0:Nat)<=1:=by split <;> omega
  have U:decide ((if 0<y then 1 else 0:Nat)=1)=decide (0<y):=by by_cases hy:0<y;rw[if_pos hy,decide_eq_true hy];rfl;rw[if_neg hy,decide_eq_false hy];rfl
  generalize (if 0<y then 1 else 0:Nat)=c at Y U;by_cases h:i<x.length;rw[if_pos h,if_pos (by simp;omega)];congr 2;show nth x (x.length-1-i)=nth (y::x) (x.length+1-1-i);rw[show x.length+1-1-i=(x.length-1-i)+1 by omega];rfl;rw[if_neg h];by_cases h2:i=x.length;subst h2;rw[if_pos (by simp),Nat.sub_self,Nat.testBit_zero];show _=decide (0<nth (y::x) (x.length+1-1-x.length));rw[show x.length+1-1-x.length=0 by omega];show _=decide (0<y);rw[<- U];congr 1;rw[eq_iff_iff];omega;rw[if_neg (by simp;omega),wT,show i-x.length=(i-(x.length+1))+1 by omega,Nat.testBit_succ];congr 1;omega
theorem o6{i:Nat}:(dC x).testBit i=decide (i<x.length/\0<nth x (x.length-1-i)):=by unfold dC;rw[FC];by_cases h:i<x.length;rw[if_pos h];by_cases h2:0<nth x (x.length-1-i);rw[decide_eq_true h2,decide_eq_true #[h,h2]];rw[decide_eq_false h2,decide_eq_false (λz=>h2 z.2)];rw[if_neg h,decide_eq_false (λz=>h z.1),Nat.zero_testBit]
theorem Ho:a|||b=b↔∀i,a.testBit i=on->b.testBit i=true:=by
 constructor;intro h i hi;rw[<- h,TW,hi,VP];intro h;refine Nat.eq_of_testBit_eq λi=> ?_;rw[TW];cases ha:a.testBit i with
 | true=>rw[h i ha];rfl
 | false=>rw[Bool.false_or]
theorem bits_sub(U:l.length=n)(Y:h.length=n)(hw:w.length=n)(nl:∀i,0<=nth l i)(nh:∀i,0<=nth h i)(nw:∀i,0<=nth w i):decide (dC l|||(dC h|||dC w)=dC h|||dC w)=subB n l h w:=by
 rw[Rn,decide_eq_true_eq,Ho,xU U];constructor;intro H i hi;have lt:i<n:=by by_cases e:i<n;exact e;exact absurd (i8 ⋯) hi
 have:=H (n-1-i) (by rw[o6];refine decide_eq_true #[⋯, ?_];rw[U,show n-1-(n-1-i)=i by omega];have:=nl i;omega)
 rw[TW,SE,o6,o6,decide_eq_true_eq,decide_eq_true_eq,Y,hw,show n-1-(n-1-i)=i by omega] at this;rcases this with z | z
 exact .inl ⋯;exact .inr ⋯;intro H i hi;rw[o6,decide_eq_true_eq,U] at hi;rw[TW,SE,o6,o6,decide_eq_true_eq,decide_eq_true_eq,Y,hw];rcases H (n-1-i) ⋯ with z | z
 have:=nh (n-1-i);exact .inl #[hi.1,⋯];have:=nw (n-1-i);exact .inr #[hi.1,⋯]
structure Tight(left y:List Int)(a:Nat):Prop where
 pos:0<nth y a
 min:∀i,0<nth y i->nth left a*nth y i<=nth left i*nth y a
abbrev Sh:Type:=(Int×Int)×List Int
def psS(i:Nat)(T:List Sh):Int×Int:=T.foldl (λq s=>(q.1*s.1.2,s.1.2*q.2+s.1.1*q.1*nth s.2 i)) (1,0)
theorem AS{i:Nat}(h:i<x.length):nth (x++y) i=nth x i:=by unfold nth;rw[nu,nu,wv h]
theorem AN{b:Int}:nth (x++[b]) x.length=b:=by unfold nth;rw[nu];simp
structure Red(n:Nat)(left y:List Int)(bot:Int)(a:Nat)(g:Int)(l':List Int)(b':Int):Prop where
 gp:0<g
 len:l'.length=n
 lv:∀i,g*nth l' i=nth left i*nth y a-nth y i*nth left a
 bv:g*b'=bot*nth y a
structure Shr(n:Nat)(R:List (List Int))(fit:List Int)(c:Nat)(ps:List (List Int))(T:List Sh)(left:List Int)(bot:Int):Prop where
 len:left.length=n
 nn:∀i,0<=nth left i
 bp:0<bot
 st:∀r∈R,bh n (nth r) (nth left)=0
 sub:Sub left fit
 cn:T.length+cnt left<=cnt fit
 good:∀s∈T,0<s.1.1/\0<s.1.2/\EQ s.1.1 s.1.2=1/\Sub s.2 fit
 sl:(T.map (·.2)).Sublist ps
 eq:∀i,bot*(psS i T).2+(psS i T).1*nth left i=(psS i T).1*bot*nth fit i
 no:∀y∈ps,¬Sub y left
 sz:SzL (c+8001*T.length) left
 szb:Sz (c+8001*T.length) bot
 szt:∀s∈T,Sz (c+8001*T.length) s.1.1/\Sz (c+8001*T.length) s.1.2
def mkS(C:Int)(i:Nat)(m:Int)(T:List Sh):Int:=T.foldl (λm s=>m+s.1.1*(C/s.1.2)*nth s.2 i) m
theorem Kz(ms:List Int)(lo hi:Nat):∃ks:List Int,cutD (ms.map D.int) (lH (lo:Int)) (lH (hi:Int))=ks.map D.int/\ks.length<=hi-lo:=by refine#[(ms.drop (min lo ms.length)).take (min hi ms.length-min lo ms.length), ?_, ?_];unfold cutD;rw[HT.o4,HT.o4,ss,UP,UR];rw[Su,Sx];omega
theorem F8(hg:goal.length=n)(hc:rows.length<=900)(hs:cD c rows)(U:SzL c goal){b:Int}{ts:List Int}(e:jV rows goal=lH (b,ts)):Sz (iK c (1+rows.length)) b/\SzL (iK c (1+rows.length)) ts:=by
 have Y:cD c (bF rows goal):=by
  intro r hr x hx;unfold bF at hr;obtain⟨a,_,rfl⟩:=pr.mp hr;obtain⟨q,hq,rfl⟩:=pr.mp hx;rcases vr.mp hq with rfl | hq
  exact U.nth a;exact(hs q hq).nth a
 have h:=qB (n:=1+rows.length) ⋯ gY Y;unfold jV at e;split at e;cases e;rename_i x F es;rw[es] at h;have hx:=h x sH;split at e;cases e;cases e;refine#[hx.nth 0,λy hy=> ?_];obtain⟨z,hz,rfl⟩:=pr.mp hy;exact(hx z (TC hz)).neg
theorem jX{ok:aA->Prop}{g:GM}{s s1 s2:S}(U:ok s.o)(Y:g d s=.ok s1)(hb:body s1=.next s2):bT ok g body (d::ds) s=bT ok g body ds s2:=by rw[bT,if_pos U,Y,my,hb]
theorem yb{B:Int}(U:B≠0):rat 0 B=(0,1):=xT ∅ ∅ U ⋯
abbrev sg(z:Str):List Nat:=z.cps.toList
theorem yN{z:Str}:(sg z).length=z.length:=by unfold Str.length;simp
theorem rL{a b:Str}(h:sg a=sg b):a=b:=Str.ext' (Uv.mp h)
theorem zg{a b:Str}:sg (a++b)=sg a++sg b:=by show ((a++b:Str).cps).toList=_;rw[Str.cps_append];simp
theorem En{z:Str}(Y:a<=b)(hb:b<=z.length)(h:Builtin.Str.strSliceIndices lo hi 1 z.length=(tz (b-a)).map (λk=>a+k)):sg (kE z lo hi)=((sg z).drop a).take (b-a):=by
 have key:(((tz (b-a)).map (λk=>a+k)).filterMap (λi=>(sg z)[i]?))=((sg z).drop a).take (b-a):=StrLaws.picks (sg z) (b-a) a (by rw[yN];omega);unfold kE;rw[h];split;rename_i U;have U:b-a=z.length:=by simpa using U
 have ha:a=0:=⋯;subst ha;rw[T0,Rw (by rw[yN];omega)];rw[<- key];simp[sg]
theorem OO(h:b<=n):Builtin.Str.strSliceIndices na (lH (b:Int)) 1 n=(tz (b-0)).map (λk=>0+k):=by rw[<- StrLaws.strSliceIndices_plain (Rb b) h];unfold Builtin.Str.strSliceIndices;simp;rw[show max (0:Int) (min 0 (n:Int))=0 by omega]
theorem Pj(h:a<=n):Builtin.Str.strSliceIndices (lH (a:Int)) na 1 n=(tz (n-a)).map (λk=>a+k):=by rw[<- StrLaws.strSliceIndices_plain h (ut n)];unfold Builtin.Str.strSliceIndices;simp;rw[if_neg (show ¬(n:Int)<0 by omega),show max (0:Int) (min (n:Int) (n:Int))=(n:Int) by omega]
theorem FH{z:Str}(h:b<=z.length):sg (kE z na (lH (b:Int)))=(sg z).take b:=by rw[En (Rb b) h (OO h),T0,UY]
theorem LV{z:Str}(h:a<=z.length):sg (kE z (lH (a:Int)) na)=(sg z).drop a:=by rw[En h (ut _) (Pj h),Rw];rw[Sx,yN];omega
section
variable {s s1 s2 : S} {R R' : List (Option D)} {O O' : aA} {d x y : D} {xs ys : List D}
theorem aN{f:Op2}{ma mb:EM}(ha:ma s=.ok (x,s1))(hb:mb s1=.ok (y,s2))(U:f s2.o x y=.ok d):ak f ma mb s=.ok (d,s2):=by rw[cL,ha,aj];dsimp only;rw[hb,aj];dsimp only;rw[U,aj]
theorem Hf{f:Op1}{ma:EM}(ha:ma s=.ok (x,s1))(U:f s1.o x=.ok d):unM f ma s=.ok (d,s1):=by rw[N1,ha,aj];dsimp only;rw[U,aj]
theorem jW{f:OpN}(ha:ma s=.ok (xs,s1))(U:f s1.o xs=.ok d):bN f ma s=.ok (d,s1):=by rw[i5,ha,aj];dsimp only;rw[U,aj]
theorem aB{r:AM}(ha:m s=.ok (x,s1))(hb:r s1=.ok (ys,s2)):af m r s=.ok (x::ys,s2):=by rw[aZ,ha,aj];dsimp only;rw[hb,aj]
theorem lX(ha:ma s=.ok (xs,s1))(U:xs.length<=16777216):gb ma s=.ok (.tup xs,s1):=by rw[zB,ha,aj];dsimp only;rw[if_pos U]
theorem wI(ha:ma s=.ok (xs,s1))(U:xs.length<=16777216):jn ma s=.ok (.lst xs,s1):=by rw[FD,ha,aj];dsimp only;rw[if_pos U]
theorem sj(ha:ma s=.ok (xs,#[R,O]))(U:xs.length<=16777216)(hn:O.length=n)(Y:O++[.lst xs]=O'):g5 ma s=.ok (.ptr n,#[R,O']):=by rw[L6,ha,aj];dsimp only;rw[if_pos U,hn,Y]
theorem c9{b:Bool}(h:m s=.ok (.bl b,s1)):aS m s=.ok (b,s1):=by rw[iu,h,aj]
theorem Gm{m:TM}{b:Bool}(h:m s=.ok (b,s1)):ow m s=.ok (!b,s1):=by rw[rZ,h,aj]
theorem JN{a b:TM}{p q:Bool}(h:a s=.ok (p,s1))(h2:b s1=.ok (q,s1)):orT a b s=.ok (p||q,s1):=by rw[r8,h,aj];dsimp only;cases p;rw[if_neg ∅,h2];rfl;rfl
theorem Gh{a b:TM}{p q:Bool}(h:a s=.ok (p,s1))(hp:p=tt)(h2:b s1=.ok (q,s2)):orT a b s=.ok (q,s2):=by subst hp;rw[r8,h,aj];exact h2
theorem Gx{a b:TM}{p q:Bool}(h:a s=.ok (p,s1))(h2:b s1=.ok (q,s1)):kM a b s=.ok (p&&q,s1):=by rw[zL,h,aj];dsimp only;cases p;rfl;rw[if_pos rfl,h2];rfl
theorem Cj{a b:TM}{p q:Bool}(h:a s=.ok (p,s1))(hp:p=on)(h2:b s1=.ok (q,s2)):kM a b s=.ok (q,s2):=by subst hp;rw[zL,h,aj];exact h2
theorem Cm{a b:TM}{p:Bool}(h:a s=.ok (p,s1))(hp:p=tt):kM a b s=.ok (tt,s1):=by subst hp;rw[zL,h,aj];rfl
theorem o5{a b:EM}{p:Bool}(h:a s=.ok (.bl p,s1))(hp:p=on)(h2:b s1=.ok (x,s2)):mT a b s=.ok (x,s2):=by subst hp;rw[Fu,h,aj];exact h2
theorem bA{i:Nat}(h:m s=.ok (d,#[R,O]))(U:R.set i (lH d)=R'):setM i m s=.next #[R',O]:=by subst U;exact dD h
theorem vW(h1:mo s=.ok (.ptr k,s1))(U:s1.o[k]? =lH (.lst ds0))(h2:me s1=.ok (d,#[R,O]))(Y:O[k]? =lH (.lst ds))(hb:ds.length<=1000000)(hO:O.set k (.lst (ds++[d]))=O'):kR mo me s=.ok (.non,#[R,O']):=by subst hO;exact vV (s2:=#[R,O]) h1 U h2 Y hb
theorem nC(h:m s=.ok (.ptr k,#[R,O]))(c:O[k]? =lH (.lst ds))(U:O.set k .dead=O'):gf m s=.ok (.lst ds,#[R,O']):=by subst U;exact Ge h c
theorem Mg(h:m s=.ok (x,#[R,O]))(hs:wH O x=lH ds)(hn:O.length=n)(U:O++[.lst ds]=O'):B9 m s=.ok (.ptr n,#[R,O']):=by rw[K0,h,aj];dsimp only;rw[hs];dsimp only;rw[hn,U]
theorem Pe{f:Str}{ns:List Str}(h:m s=.ok (.obj c ns ds,s1))(hd:qM f ns ds=lH d):pP c f m s=.ok (d,s1):=by rw[Fn,h,aj];dsimp only;rw[if_pos rfl,hd]
theorem oZ{m:Str}{f:FM}{ns:List Str}{ds args:List D}(U:mo s=.ok (.obj c ns ds,s1))(ha:ma s1=.ok (args,s2))(Y:f (.obj c ns ds::args) []=.ok (x,O1))(hm:m∉ns)(hd:aR ds=on)(hp:aR args=on)(hl:args.length=n)(hr:cO x=on):
 methP c m n f mo ma s=.ok (x,s2):=Dm U hm hd ha hp hl Y hr
theorem eg{f:FM}(h:ma s=.ok (ds,s1))(U:f ds []=.ok (d,O1))(hp:aR ds=on)(Y:ds.length=n)(hd:cO d=on):bc n f ma s=.ok (d,s1):=cy h hp Y U hd
theorem i6{f:FM}(h:ma s=.ok (ds,#[R,O]))(U:f ds []=.ok (x,O1))(hp:aR ds=on)(Y:ds.length=n)(hx:shD O.length x=y)(hO:O++O1.map (shC O.length)=O'):dP n f ma s=.ok (y,#[R,O']):=by subst hx;subst hO;exact Jw h hp Y U
theorem Fj{f:FM}{ds rs:List D}(h:ma s=.ok (ds,s1))(hr:b8 s1.o (b8 s1.o ds)=rs)(U:f rs []=.ok (d,O1))(hp:aR rs=on)(Y:ds.length=n)(hd:oG d=on):kI n f ma s=.ok (d,s1):=by unfold kI;rw[h,aj];dsimp only;rw[hr,if_pos #[hp,Y],U];dsimp only;rw[if_pos hd]
theorem gP{f:FM}(h:ma s=.ok (ds,#[R,O]))(U:f ds O=.ok (d,O1))(Y:ds.length=n):bQ n f ma s=.ok (d,#[R,O1]):=jQ h Y U
theorem Pc{c:TM}{p:Bool}(h:c s=.ok (p,s1))(hp:p=on):ifS c A B s=A s1:=by subst hp;exact oU h
theorem OR{c:TM}{p:Bool}(h:c s=.ok (p,s1))(hp:p=tt):ifS c A B s=B s1:=by subst hp;exact iM h
theorem kS{s:S}:dA s=.ok (na,s):=rfl
theorem lJ(h:m s=.ok (.int i,s1)):part m s=.ok (lH i,s1):=by rw[Ay,h,aj]
theorem KN{U:S}{ds es:List D}(h:me s=.ok (x,s1))(Y:ml s1=.ok (lo,s2))(hh:mh s2=.ok (hi,U))(hd:lsD U.o x=lH ds)(he:cutD ds lo hi=es):slM me ml mh s=.ok (.lst es,U):=by rw[Dh,h,aj];dsimp only;rw[Y,aj];dsimp only;rw[hh,aj];dsimp only;rw[hd];dsimp only;rw[he]
theorem OX{ds es:List D}(h:me s=.ok (x,s1))(U:ml s1=.ok (lo,s2))(Y:mh s2=.ok (hi,#[R,O]))(hd:lsD O x=lH ds)(he:cutD ds lo hi=es)(hn:O.length=n)(hO:O++[.lst es]=O'):slC me ml mh s=.ok (.ptr n,#[R,O']):=by unfold slC;rw[h,aj];dsimp only;rw[U,aj];dsimp only;rw[Y,aj];dsimp only;rw[hd];dsimp only;rw[he,hn,hO]
theorem Cb{g:GM}(h:m s=.ok (d,s1))(U:g d s1=.ok s2):gi m g s=.next s2:=by rw[rK,h,aj];dsimp only;rw[U,my]
end
section
variable {s s1 : S} {o : Out}
theorem aT{a b:SM}(h:a s=.next s1)(k:b s1=o):aK a b s=o:=(bE h).trans k
theorem eT{c:TM}{p:Bool}(h:c s=.ok (p,s1))(hp:p=on)(k:A s1=o):ifS c A B s=o:=(Pc h hp).trans k
theorem dJ{c:TM}{p:Bool}(h:c s=.ok (p,s1))(hp:p=tt)(k:B s1=o):ifS c A B s=o:=(OR h hp).trans k
theorem du{m:SM}{R:List (Option D)}(h:m #[ds.map lH++ux (n-ds.length) na,O]=.ret d #[R,O1]):runM n m ds O=.ok (d,O1):=b9 h
end
section
variable {s s1 s2 : S} {c : Nat} {a : D} {o : Out}
end
theorem LP{f:FM}{s:S}{R:List (Option D)}{O O1 O':aA}{x y:D}{ds rs:List D}(h:ma s=.ok (ds,#[R,O]))(hr:b8 O (b8 O ds)=rs)(Y:f rs []=.ok (x,O1))(hp:aR rs=on)(hl:ds.length=n)(hd:vY x=on)(U:O1.all Ca=on)(hx:shD O.length x=y)(hO:O++O1.map (shC O.length)=O'):yT n f ma s=.ok (y,#[R,O']):=by subst hx;subst hO;unfold yT;rw[h,aj];dsimp only;rw[hr,if_pos #[hp,hl],Y];dsimp only;rw[if_pos #[hd,U]]
abbrev bq(L:List (Nat×List Int)):List D:=L.map λp=>.ptr p.1
def Sto(O:aA)(L:List (Nat×List Int)):Prop:=∀p∈L,O[p.1]? =lH (.lst (p.2.map D.int))
theorem Sto.app(h:Sto O L)(E:aA):Sto (O++E) L:=λp hp=>fJ (h p hp)
theorem Sto.set{O:aA}{L:List (Nat×List Int)}(h:Sto O L){k:Nat}(hk:∀p∈L,p.1≠k)(c:Cell):Sto (O.set k c) L:=λp hp=>by rw[de λz=>hk p hp z.symm];exact h p hp
theorem Sto.lt(h:Sto O L)(hp:p∈L):p.1<O.length:=nO (h p hp)
theorem yA{α:Type}{ok:aA->Prop}{e:EM}{cap:List (Option D)}{item:α->D}{f:α->List Int}{T:α->Nat->Prop}(I:aA->Prop)(hI:∀O E,I O->I (O++E))(Y:∀O,I O->ok O):
 ∀(l:List α) (U:List D) (x:Option D) (O:aA),I O->U.length+l.length<=16777216->
 (∀a∈l,∀O,I O->∃q E,e #[lH (item a)::cap,O]=.ok (.ptr q,#[lH (item a)::cap,O++E])/\(O++E)[q]? =lH (.lst ((f a).map D.int))/\(T a q\/O.length<=q))->
 ∃(L:List (Nat×List Int)) (E:aA) (x':Option D),dI ok (aD 0) bR e (l.map item) U #[x::cap,O]=.ok (U++bq L,#[x'::cap,O++E])/\L.map (·.2)=l.map f/\Sto (O++E) L/\∀p∈L,(∃a∈l,T a p.1)\/O.length<=p.1
 | [],U,x,O,h,_,_=>#[[],[],x,by rw[RX,dI,if_pos (Y _ h)];simp,rfl,(λp hp=>by cases hp),(λp hp=>by cases hp)]
 | a::l,U,x,O,h,hl,he=>by
  obtain⟨q,E,e1,e2,e3⟩:=he a sH O h;rw[wT] at hl;obtain⟨L,E',x',e4,e5,e6,e7⟩:=yA (T:=T) I hI Y l (U++[.ptr q]) (lH (item a)) (O++E) (hI O E h) (by simp;omega) (λa ha=>he a (sB _ ha));refine#[(q,f a)::L,E++E',x', ?_,by simp[e5],λp hp=> ?_,λp hp=> ?_];rw[ww,dI,if_pos #[Y _ h,⋯],De,aj,JL,aj];dsimp only;rw[if_pos rfl,show (#[List.set (x::cap) 0 (lH (item a)),O]:S)=#[lH (item a)::cap,O] from rfl,e1,aj];dsimp only;rw[e4];simp;rw[<- R3];rcases vr.mp hp with rfl | hp
  exact fJ e2;exact e6 p hp;rcases vr.mp hp with rfl | hp
  rcases e3 with e3 | e3;exact .inl #[a,sH,e3];exact .inr e3;rcases e7 p hp with⟨b,hb,z⟩ | z;exact .inl #[b,sB _ hb,z];exact .inr (by rw[x0] at z;omega)
section
variable {α β : Type} (f g : α → β)
end
section
variable {n : Nat} {R : List (List Int)} {dem : List Int}
def d5(R:List (List Int))(n:Nat)(dem:List Int):List (List Int):=(bo R n).map λs=>s++[aG s dem]
theorem G7(U:∀r∈R,r.length=n):∀r∈d5 R n dem,r.length=n+1:=by intro r hr;unfold d5 at hr;obtain⟨s,hs,rfl⟩:=pr.mp hr;rw[x0,gU U s hs];rfl
theorem uh(hs:s.length=n)(d:Int)(x:Nat->Int):bh (n+1) (nth (s++[d])) x=bh n (nth s) x+d*x n:=by unfold bh;show bu n (λi=>nth (s++[d]) i*x i)+nth (s++[d]) n*x n=_;rw[bV (g:=λi=>nth s i*x i) λi hi=>by rw[AS ⋯],show nth (s++[d]) n=d by rw[<- hs];exact AN]
theorem IV(U:∀r∈R,r.length=n)(hs:s∈bo R n):eD n R (nth s):=λr hr=>by obtain⟨P,_,_,h1,_⟩:=g6 U;rw[fM,bK];exact h1 r hr s hs
theorem Je(hR:∀r∈R,r.length=n)(hd:dem.length=n)(hF:∀y,Fit n R y->bh n (nth dem) (nth y)<=0):∃z,Fit (n+1) (d5 R n dem) z/\0<nth z n:=by
 have U:∀i,nth (dem.map (- ·)) i= - nth dem i:=λi=>je (f:=(- ·)) ∅ dem i;obtain⟨k,k0,T,tl,ht⟩:=Nb hR (c:=dem.map (- ·)) (by rw[ss];exact hd) (λy hy=>by have h1:=hF y hy;have h2:=kU (n:=n) (g:=1) (c:=nth (dem.map (- ·))) (a:=nth dem) (b:=nth dem) (u:= -1) (v:=0) (λi _=>by rw[U];omega) (nth y);omega)
 have zl:((tz n).map λi=> -dy T R i-k*nth dem i).length=n:=by simp
 have za:∀i,i<n->nth (((tz n).map λi=> -dy T R i-k*nth dem i)++[k]) i= -dy T R i-k*nth dem i:=λi hi=>by rw[AS (by rw[zl];exact hi)];unfold nth;rw[nu,wP,R5 hi];rfl
 have zn:nth (((tz n).map λi=> -dy T R i-k*nth dem i)++[k]) n=k:=by have:=AN (x:=(tz n).map λi=> -dy T R i-k*nth dem i) (b:=k);rw[zl] at this;exact this
 have Y:(((tz n).map λi=> -dy T R i-k*nth dem i)++[k]).length=n+1:=by rw[x0,zl];rfl
 generalize ((tz n).map λi=> -dy T R i-k*nth dem i)++[k]=z at za zn Y;refine#[z,#[Y,λi=> ?_,λr hr=> ?_,#[n,by rw[zn];omega]],by rw[zn];exact k0];rcases Nat.lt_trichotomy i n with h | h | h
 rw[za i h];have:=ht i h;rw[U,Int.mul_neg] at this;omega;rw[h,zn];omega;rw[i8 ⋯];decide;unfold d5 at hr;obtain⟨s,hs,rfl⟩:=pr.mp hr;have sl:=gU hR s hs;rw[uh sl,zn,jT hd];have e:=kU (n:=n) (g:=1) (c:=nth z) (a:=dy T R) (b:=nth dem) (u:= -1) (v:= -k) (λi hi=>by rw[za i hi];grind) (nth s);have o:=iC.dot (n:=n) (R:=R) (x:=dy T R) (y:=nth s) #[1,∅,T,tl,λi _=>⋯] (IV hR hs);rw[o,bK n (nth z),bK n (nth dem)] at e;grind
theorem GL(U:∀r∈R,r.length=n)(hd:dem.length=n)(Y:∀y,Fit n R y->bh n (nth dem) (nth y)<=0):∃l,bO (n+1) (d5 R n dem) l/\0<nth l n:=by
 obtain⟨z,fz,z0⟩:=Je U hd Y;false_or_by_contra;rename_i h;have:=zv (n:=n+1) (R:=d5 R n dem) (c:=ux n 0++[-1]) (λl hl=>by
  rw[uh (by simp)];have e:bh n (nth (ux n 0)) (nth l)=0:=by
   unfold bh;refine eM λi hi=> ?_;have:nth (ux n (0:Int)) i=0:=by unfold nth;rw[nu,G2,if_pos hi];rfl
   rw[this,Tf]
  have h1:¬0<nth l n:=λq=>h #[l,hl,q];omega) fz
 rw[uh (by simp)] at this;have e:bh n (nth (ux n 0)) (nth z)=0:=by
  unfold bh;refine eM λi hi=> ?_;have:nth (ux n (0:Int)) i=0:=by unfold nth;rw[nu,G2,if_pos hi];rfl
  rw[this,Tf]
 omega
def j4(l dem:List Int)(t:Int):List Int:=(l.zip dem).map λp=>p.1+t*p.2
theorem xO(U:l.length=n+1)(hd:dem.length=n)(t:Int):(j4 l dem t).length=n/\∀i,i<n->nth (j4 l dem t) i=nth l i+t*nth dem i:=by refine#[by unfold j4;rw[ss,RU];omega,λi hi=> ?_];unfold j4 nth;simp[nu,sn (show i<l.length by omega),sn (show i<dem.length by omega),sn (show i<(l.zip dem).length by rw[RU];omega)]
theorem HQ(U:∀r∈R,r.length=n)(hd:dem.length=n)(f:Fit (n+1) (d5 R n dem) l):iC n R (nth (j4 l dem (nth l n))):=by obtain⟨gl,Y⟩:=xO f.len hd (nth l n);refine(oF U _).mp λs hs=> ?_;have sl:=gU U s hs;have h:=f.st (s++[aG s dem]) (by unfold d5;exact pr.mpr #[s,hs,rfl]);rw[uh sl,jT hd] at h;have e:=kU (n:=n) (g:=1) (c:=nth (j4 l dem (nth l n))) (a:=nth l) (b:=nth dem) (u:=1) (v:=nth l n) (λi hi=>by rw[Y i hi];grind) (nth s);rw[fM,bK];rw[bK n (nth l),bK n (nth dem)] at e;grind
theorem G3(Y:∀r∈R,r.length=n)(hd:dem.length=n)(f:Fit (n+1) (d5 R n dem) l):∃b ts,jV R (j4 l dem (nth l n))=lH (b,ts)/\0<b/\ts.length=R.length/\∀i,i<n->b*nth l n*nth dem i<=dy ts R i:=by obtain⟨U,gn⟩:=xO f.len hd (nth l n);obtain⟨b,ts,e⟩:=DA U (HQ Y hd f);obtain⟨b0,tl,h⟩:=HA U e;refine#[b,ts,e,b0,tl,λi hi=> ?_];rw[<- h i hi,gn i hi];have:=Rs (S2 b0) (f.nn i);grind
end
end M
namespace Lk35
open PySem PySem.Spec PyProof.Rows L2 M
noncomputable section
variable {fd : RB} {O : aA} {k j i c n b t mg mw a : Nat} {m v da db u : Int} {s s1 : S} {z g f h : Str} {d : D} {l : List (Str × Int)} {ds r r1 r2 : List D} {goods zs : List Str} {ws : List Wk} {me : EM} {wd : List Nat} {R : List (Option D)} {w y ns row : List Int} {A rows : List (List Int)} {L Q : List (Nat × List Int)} {I J : Bool}
def top(i:Nat):Stmt:=PySem.Challenge.pw_modeyard_k35_most_there_and_back.main.body.getD i (.Pass #[0,0,0,0])
abbrev tO:Stmt:=top 10
abbrev kL:Stmt:=top 11
abbrev uQ:Stmt:=top 12
abbrev xv:Stmt:=top 13
abbrev xt:Stmt:=top 13
abbrev z9:Stmt:=top 14
abbrev kg:Stmt:=top 16
abbrev Em:Stmt:=top 17
abbrev Bw:Stmt:=top 17
abbrev zU:Stmt:=top 18
abbrev zd:Stmt:=top 18
abbrev xQ:Stmt:=top 19
abbrev xr:Stmt:=top 19
abbrev xZ:Stmt:=top 20
abbrev jH:Stmt:=top 21
abbrev ka:Stmt:=top 22
abbrev uR:Stmt:=top 23
abbrev Ap:Stmt:=top 24
abbrev jh:Stmt:=top 25
abbrev zJ:Stmt:=top 26
abbrev vB:Stmt:=top 27
abbrev qY:Stmt:=top 29
abbrev tw:Stmt:=top 30
abbrev kO:Stmt:=top 31
abbrev jP:Stmt:=top 32
abbrev D5:Stmt:=top 33
abbrev j6:Stmt:=inClass (top 61) 5
abbrev i9:Stmt:=inClass (top 61) 6
abbrev iB:Stmt:=inClass (top 61) 3
abbrev Eg:Stmt:=top 35
abbrev sx:Stmt:=top 37
abbrev qe:Stmt:=top 38
abbrev lW:Stmt:=top 39
abbrev Dl:Stmt:=top 40
abbrev kX:Stmt:=top 42
abbrev n9:Stmt:=top 43
abbrev mn:Stmt:=top 44
abbrev DS:Stmt:=top 45
abbrev vg:Stmt:=top 50
abbrev qk:Stmt:=top 51
abbrev pW:Stmt:=top 52
abbrev om:Stmt:=top 53
abbrev px:Stmt:=top 54
abbrev mL:Stmt:=top 55
abbrev n5:Stmt:=top 56
abbrev og:Stmt:=top 57
abbrev rE:Stmt:=top 58
abbrev qU:Stmt:=top 59
abbrev rJ:Stmt:=top 60
abbrev jf:Stmt:=inClass (top 61) 0
abbrev tL:Stmt:=top 63
abbrev uX:Stmt:=top 64
abbrev sM:Stmt:=top 65
abbrev pZ:Stmt:=top 66
abbrev rF:Stmt:=top 67
abbrev u5:Stmt:=top 68
abbrev oh:Stmt:=top 69
abbrev rD:Stmt:=top 70
abbrev rG:Stmt:=top 71
abbrev t9:Stmt:=top 72
abbrev oC:Stmt:=top 73
def caK(K:qh):Nat->Addr:=λn=>match n with
 | 0=>clsAt K "Yard"
 | _=>0
def yq:SM:=
 (bx (mT (unM (ot "int") (aa 0)) (KP (unM (ot "bool") (aa 0)))))
def gc:FM:=runM 1 yq
def uZ:SM:=
 (aK (setM 2 (ak gh (aa 0) (aa 1)))
 (aK (setM 0 (aa 1))
 (setM 1 (aa 2))))
def xE:SM:=
 (aK (setM 0 (bN xY (af (aa 0) ar)))
 (aK (setM 1 (bN xY (af (aa 1) ar)))
 (aK (zt (λs=>Az 1 s) (aS (ak neD (aa 1) (ao (.int 0))))
 uZ)
 (bx (aa 0)))))
def fA:FM:=runM 3 xE
def nj:SM:=
 (setM 1 (bc 2 fA (af (aa 1) (af (aa 2) ar))))
def qH:SM:=
 (aK (setM 1 (ao (.int 0)))
 (aK (eV (listI (aa 0)) (aD 2)
 nj)
 (bx (aa 1))))
def jA:FM:=runM 3 qH
def pB:SM:=
 (aK (setM 1 (bc 1 jA (af (aa 0) ar)))
 (aK (ifS (aS (ak eqD (aa 1) (ao (.int 0))))
 (bx (B9 (aa 0)))
 bB)
 (bx (lL 1 [1] (listI (aa 0)) (aD 0) bR (ak d3 (aa 0) (aa 1))))))
def tm:FM:=runM 2 pB
def rA:SM:=
 (aK (setM 1 (bc 1 jA (af (aa 0) ar)))
 (aK (ifS (aS (ak eqD (aa 1) (ao (.int 0))))
 (bx (bN oK (af (aa 0) ar)))
 bB)
 (bx (bL 1 [1] (listI (aa 0)) (aD 0) bR (ak d3 (aa 0) (aa 1))))))
def gZ:FM:=runM 2 rA
def zT:SM:=
 (aK (ifS (orT (ow (aS (bc 1 gc (af (aa 0) ar)))) (ow (aS (bc 1 gc (af (aa 1) ar)))))
 pC
 bB)
 (aK (ifS (aS (ak eqD (aa 1) (ao (.int 0))))
 pC
 bB)
 (aK (setM 2 (bc 2 fA (af (aa 0) (af (aa 1) ar))))
 (aK (ifS (aS (ak ltD (aa 1) (ao (.int 0))))
 (setM 2 (unM iO (aa 2)))
 bB)
 (bx (gb (af (ak d3 (aa 0) (aa 2)) (af (ak d3 (aa 1) (aa 2)) ar))))))))
def wB:FM:=runM 3 zT
def kc:SM:=
 (bx (bN xI (af (bL 2 [] (mX (af (aa 0) (af (aa 1) ar))) (cS (a8 (aD 0) (a8 (aD 1) cW)) 2) bR (ak cT (aa 0) (aa 1))) ar)))
def bZ:FM:=runM 2 kc
def CP:SM:=
 (aK (setM 2 (uP n8 (af (ao (.int 0)) ar) (aa 1)))
 (aK (gi (ao (.int 1)) (jk (aa 2) (aa 0)))
 (bx (aa 2))))
def u7:FM:=runM 3 CP
def vG:SM:=
 (aK (setM 2 (uP n8 (af (ao (.int 0)) ar) (aa 1)))
 (aK (gi (ao (.int 1)) (jk (aa 2) (aa 0)))
 (bx (gf (aa 2)))))
def nY:FM:=runM 3 vG
def zK:SM:=
 (bx (bL 1 [0] (g9 (af (aa 0) ar)) (aD 0) bR (dP 2 u7 (af (aa 0) (af (aa 1) ar)))))
def v9:FM:=runM 1 zK
def ui:SM:=
 (bx (bL 1 [0] (g9 (af (aa 0) ar)) (aD 0) bR (bc 2 nY (af (aa 0) (af (aa 1) ar)))))
def lN:FM:=runM 1 ui
def ye:SM:=
 (aK (setM 4 (bL 2 [1,3] (mX (af (aa 0) (af (aa 2) ar))) (cS (a8 (aD 0) (a8 (aD 1) cW)) 2) bR (ak kY (ak cT (aa 0) (aa 3)) (ak cT (aa 1) (aa 2)))))
 (bx (dP 1 tm (af (aa 4) ar))))
def pY:FM:=runM 5 ye
def rg:SM:=
 (aK (setM 4 (bL 2 [1,3] (mX (af (aa 0) (af (aa 2) ar))) (cS (a8 (aD 0) (a8 (aD 1) cW)) 2) bR (ak kY (ak cT (aa 0) (aa 3)) (ak cT (aa 1) (aa 2)))))
 (bx (bc 1 gZ (af (aa 4) ar))))
def gr:FM:=runM 5 rg
def ya:SM:=
 (bx (bL 1 [1] (listI (aa 0)) (aD 0) bR (ak ixD (aa 0) (aa 1))))
def iQ:FM:=runM 2 ya
def cA:SM:=
 (ifS (aS (ak neD (aa 2) (ao (.int 0))))
 (bx (aa 1))
 bB)
def fS:SM:=
 (aK (eV (c8 (af (aa 0) ar)) (cS (a8 (aD 1) (a8 (aD 2) cW)) 2)
 cA)
 (bx (ao .non)))
def dq:FM:=runM 3 fS
def j9:SM:=
 (aK (ifS (aS (ak gtD (ak ixD (aa 0) (aa 1)) (ao (.int 0))))
 (bx (aa 0))
 bB)
 (bx (bL 1 [] (listI (aa 0)) (aD 0) bR (unM iO (aa 0)))))
def f7:FM:=runM 2 j9
def uW:SM:=
 (aK (ifS (aS (ak eqD (ak ixD (aa 0) (aa 2)) (ao (.int 0))))
 (bx (aa 0))
 bB)
 (bx (bc 4 gr (af (aa 0) (af (ak ixD (aa 0) (aa 2)) (af (aa 1) (af (ak ixD (aa 1) (aa 2)) ar)))))))
def gR:FM:=runM 3 uW
def jJ:SM:=
 (aK (setM 5 (bc 1 dq (af (bQ 2 iQ (af (aa 2) (af (aa 4) ar))) ar)))
 (ifS (aS (ak lU (aa 5) (ao .non)))
 (aK (setM 6 (bc 2 f7 (af (Cu (aa 2) (aa 5)) (af (aa 4) ar))))
 (aK (setM 2 (lL 1 [4,6] (listI (aa 2)) (aD 0) bR (bc 3 gR (af (aa 0) (af (aa 2) (af (aa 1) ar))))))
 (aK (setM 3 (lL 1 [4,6] (listI (aa 3)) (aD 0) bR (bc 3 gR (af (aa 0) (af (aa 2) (af (aa 1) ar))))))
 (eS (kR (aa 3) (aa 6))))))
 bB))
def An:SM:=
 (aK (setM 2 (lL 1 [] (listI (aa 0)) (aD 0) bR (bc 1 gZ (af (aa 0) ar))))
 (aK (setM 3 (g5 ar))
 (aK (eV (g9 (af (aa 1) ar)) (aD 4)
 jJ)
 (bx (gf (aa 3))))))
def vX:FM:=runM 7 An
def jg:SM:=
 (aK (setM 2 (bL 1 [1] (listI (aa 0)) (aD 0) bR (bc 2 bZ (af (aa 1) (af (aa 0) ar)))))
 (aK (setM 3 (bc 1 dq (af (aa 2) ar)))
 (aK (ifS (aS (ak isD (aa 3) (ao .non)))
 (bx (aa 0))
 bB)
 (aK (setM 4 (ak ixD (aa 0) (aa 3)))
 (aK (setM 5 (ak ixD (aa 2) (aa 3)))
 (bx (bL 2 [4,5,3,2] (c8 (af (aa 0) ar)) (cS (a8 (aD 0) (a8 (aD 1) cW)) 2) (aS (ak neD (aa 0) (aa 4))) (bc 4 gr (af (aa 1) (af (ak ixD (aa 5) (aa 0)) (af (aa 2) (af (aa 3) ar))))))))))))
def fk:FM:=runM 6 jg
def qx:SM:=
 (setM 2 (bc 2 fk (af (aa 2) (af (aa 3) ar))))
def Ax:SM:=
 (aK (setM 2 (bc 1 lN (af (aa 1) ar)))
 (aK (eV (listI (aa 0)) (aD 3)
 qx)
 (bx (bc 2 vX (af (aa 2) (af (aa 1) ar))))))
def jd:FM:=runM 4 Ax
def vH:SM:=
 (aK (setM 2 (bL 1 [1,0] (g9 (af (bN cF (af (aa 1) ar)) ar)) (aD 0) bR (bQ 2 iQ (af (ak cx (jn (af (aa 1) ar)) (aa 2)) (af (aa 0) ar)))))
 (aK (setM 3 (bc 2 jd (af (aa 2) (af (ak cx (ao (.int 1)) (bN cF (af (aa 0) ar))) ar))))
 (aK (ifS (orT (ow (ve (aa 3))) (aS (ak eqD (ak ixD (ak ixD (aa 3) (ao (.int 0))) (ao (.int 0))) (ao (.int 0)))))
 (bx (ao .non))
 bB)
 (bx (gb (af (ak ixD (ak ixD (aa 3) (ao (.int 0))) (ao (.int 0))) (af (bL 1 [] (listI (slM (ak ixD (aa 3) (ao (.int 0))) (part (ao (.int 1))) dA)) (aD 0) bR (unM iO (aa 0))) ar)))))))
def nE:FM:=runM 4 vH
def oo:SM:=
 (aK (setM 1 (ak cT (aa 1) (ao (.int 2))))
 (ifS (aS (ak gtD (aa 2) (ao (.int 0))))
 (setM 1 (ak cx (aa 1) (ao (.int 1))))
 bB))
def qS:SM:=
 (aK (setM 1 (ao (.int 0)))
 (aK (eV (listI (aa 0)) (aD 2)
 oo)
 (bx (aa 1))))
def kx:FM:=runM 3 qS
def sS:SM:=
 (bx (ak eqD (ak orD (aa 0) (aa 1)) (aa 1)))
def mH:FM:=runM 2 sS
def kQ:SM:=
 (aK (setM 3 (ak orD (aa 0) (aa 1)))
 (bx (ak eqD (bN cF (af (bL 1 [3] (listI (aa 2)) (aD 0) (aS (bc 2 mH (af (aa 0) (af (aa 1) ar)))) (aa 0)) ar)) (ao (.int 2)))))
def gF:FM:=runM 4 kQ
def f9:SM:=
 (ifS (aS (bc 3 gF (af (ak ixD (aa 3) (aa 7)) (af (ak ixD (aa 3) (aa 8)) (af (aa 3) ar)))))
 (eS (kR (aa 4) (yT 4 pY (af (ak ixD (aa 0) (aa 8)) (af (ak ixD (aa 2) (aa 8)) (af (ak ixD (aa 0) (aa 7)) (af (ak ixD (aa 2) (aa 7)) ar)))))))
 bB)
def iJ:SM:=
 (eV (listI (aa 6)) (aD 8)
 f9)
def jz:SM:=
 (aK (setM 2 (bL 1 [1] (listI (aa 0)) (aD 0) bR (kI 2 bZ (af (aa 1) (af (aa 0) ar)))))
 (aK (setM 3 (bL 1 [] (listI (aa 0)) (aD 0) bR (kI 1 kx (af (aa 0) ar))))
 (aK (setM 4 (lL 2 [] (mX (af (aa 0) (af (aa 2) ar))) (cS (a8 (aD 0) (a8 (aD 1) cW)) 2) (aS (ak eqD (aa 1) (ao (.int 0)))) (aa 0)))
 (aK (setM 5 (bL 2 [] (c8 (af (aa 2) ar)) (cS (a8 (aD 0) (a8 (aD 1) cW)) 2) (aS (ak gtD (aa 1) (ao (.int 0)))) (aa 0)))
 (aK (setM 6 (bL 2 [] (c8 (af (aa 2) ar)) (cS (a8 (aD 0) (a8 (aD 1) cW)) 2) (aS (ak ltD (aa 1) (ao (.int 0)))) (aa 0)))
 (aK (eV (listI (aa 5)) (aD 7)
 iJ)
 (bx (gf (aa 4)))))))))
def gS:FM:=runM 9 jz
def xB:SM:=
 (setM 2 (bQ 2 gS (af (aa 2) (af (aa 3) ar))))
def Dy:SM:=
 (aK (setM 2 (bQ 1 v9 (af (aa 1) ar)))
 (aK (eV (listI (aa 0)) (aD 3)
 xB)
 (bx (wA n8 (aa 2)))))
def lK:FM:=runM 4 Dy
def mr:SM:=
 (bx (bL 1 [1] (listI (pP 0 "held_changes" (aa 0))) (aD 0) bR (ak ixD (aa 0) (aa 1))))
def lZ:FM:=runM 2 mr
def ia:SM:=
 (bx (bL 1 [0] (g9 (af (bN cF (af (pP 0 "held_goods" (aa 0)) ar)) ar)) (aD 0) bR (methP 0 "row" 1 lZ (aa 1) (af (aa 0) ar))))
def hE:FM:=runM 1 ia
def dW:SM:=
 (bx (bL 1 [] (listI (pP 0 "held_works" (aa 0))) (aD 0) bR (ak ixD (aa 0) (ao (.int 0)))))
def dk:FM:=runM 1 dW
def D8:SM:=
 (bx (dP 2 lK (af (methP 0 "rows" 0 hE (aa 0) ar) (af (bN cF (af (methP 0 "names" 0 dk (aa 0) ar) ar)) ar))))
def lV:FM:=runM 1 D8
def tR:SM:=
 (aK (setM 2 (methP 0 "names" 0 dk (aa 0) ar))
 (aK (ifS (aS (ak i3 (aa 1) (aa 2)))
 pC
 bB)
 (bx (C1 (aa 2) (aa 1)))))
def fE:FM:=runM 3 tR
def cR:SM:=
 (ifS (aS (ak gtD (ak ixD (aa 2) (aa 1)) (ao (.int 0))))
 (bx (aa 2))
 bB)
def jN:SM:=
 (aK (eV (listI (aa 0)) (aD 2)
 cR)
 (bx (ao .non)))
def fI:FM:=runM 3 jN
def mG:SM:=
 (aK (setM 2 (methP 0 "rows" 0 hE (aa 0) ar))
 (aK (setM 3 (bN cF (af (aa 1) ar)))
 (aK (setM 4 (bL 1 [1] (listI (bc 2 jd (af (aa 2) (af (aa 3) ar)))) (aD 0) bR (ak cx (aa 0) (jn (af (bc 2 bZ (af (aa 0) (af (aa 1) ar))) ar)))))
 (aK (setM 5 (bQ 2 fI (af (gf (dP 2 lK (af (aa 4) (af (ak cx (aa 3) (ao (.int 1))) ar)))) (af (aa 3) ar))))
 (aK (setM 6 (uF 2 [5,3] (CU (af (aa 5) (af (aa 1) ar))) (cS (a8 (aD 0) (a8 (aD 1) cW)) 2) bR (ak cx (aa 0) (ak cT (ak ixD (aa 2) (aa 3)) (aa 1)))))
 (aK (setM 7 (bc 2 nE (af (aa 2) (af (aa 6) ar))))
 (bx (gb (af (ak cT (ak ixD (aa 7) (ao (.int 0))) (ak ixD (aa 5) (aa 3))) (af (ak ixD (aa 7) (ao (.int 1))) ar))))))))))
def fT:FM:=runM 8 mG
def Dq:SM:=
 (aK (setM 1 (gf (dP 1 lV (af (aa 0) ar))))
 (bx (lL 2 [1] (c8 (af (methP 0 "names" 0 dk (aa 0) ar) ar)) (cS (a8 (aD 0) (a8 (aD 1) cW)) 2) (aS (ak isD (bQ 2 fI (af (aa 2) (af (aa 0) ar))) (ao .non))) (aa 1))))
def rW:FM:=runM 2 Dq
def kT:SM:=
 (aK (setM 5 (uP n8 (af (ao (.int 0)) ar) (aa 0)))
 (aK (gi (ak cx (ak ixD (aa 5) (aa 1)) (aa 2)) (jk (aa 5) (aa 1)))
 (aK (gi (ak cx (ak ixD (aa 5) (aa 3)) (aa 4)) (jk (aa 5) (aa 3)))
 (bx (gf (aa 5))))))
def ft:FM:=runM 6 kT
def cM:SM:=
 (ifS (kM (aS (ak gtD (ak ixD (aa 3) (aa 1)) (ao (.int 0)))) (aS (ak eqD (ak ixD (aa 3) (aa 2)) (ao (.int 0)))))
 (bx (aa 3))
 bB)
def iV:SM:=
 (aK (eV (listI (aa 0)) (aD 3)
 cM)
 (bx (ao .non)))
def iZ:FM:=runM 4 iV
def ig:SM:=
 (ifS (aS (ak gtD (ak cT (ak ixD (aa 4) (aa 1)) (ak ixD (aa 3) (aa 2))) (ak cT (ak ixD (aa 3) (aa 1)) (ak ixD (aa 4) (aa 2)))))
 (setM 3 (aa 4))
 bB)
def mF:SM:=
 (aK (setM 3 (ak ixD (aa 0) (ao (.int 0))))
 (aK (eV (listI (aa 0)) (aD 4)
 ig)
 (bx (aa 3))))
def jw:FM:=runM 5 mF
def qd:SM:=
 (aK (setM 3 (bc 2 fE (af (aa 0) (af (aa 1) ar))))
 (aK (setM 4 (bc 2 fE (af (aa 0) (af (aa 2) ar))))
 (aK (setM 5 (gf (dP 1 lV (af (aa 0) ar))))
 (aK (setM 6 (bN cF (af (methP 0 "names" 0 dk (aa 0) ar) ar)))
 (aK (setM 7 (bQ 3 iZ (af (aa 5) (af (aa 3) (af (aa 4) ar)))))
 (aK (ifS (aS (ak lU (aa 7) (ao .non)))
 (bx (gb (af (ao (.str ("free" :Str))) (af (aa 7) ar))))
 bB)
 (aK (setM 8 (bL 1 [4] (listI (aa 5)) (aD 0) (aS (ak gtD (ak ixD (aa 0) (aa 1)) (ao (.int 0)))) (aa 0)))
 (aK (ifS (ow (ve (aa 8)))
 (aK (setM 9 (bc 2 fT (af (aa 0) (af (bc 5 ft (af (aa 6) (af (aa 3) (af (ao (.int 1)) (af (aa 4) (af (ao (.int 1)) ar)))))) ar))))
 (bx (gb (af (ao (.str ("never" :Str))) (af (ak ixD (aa 9) (ao (.int 1))) ar)))))
 bB)
 (aK (setM 10 (bQ 3 jw (af (aa 8) (af (aa 3) (af (aa 4) ar)))))
 (aK (setM 11 (bc 2 wB (af (ak ixD (aa 10) (aa 3)) (af (ak ixD (aa 10) (aa 4)) ar))))
 (aK (setM 9 (bc 2 fT (af (aa 0) (af (bc 5 ft (af (aa 6) (af (aa 3) (af (ak ixD (aa 11) (ao (.int 1))) (af (aa 4) (af (unM iO (ak ixD (aa 11) (ao (.int 0)))) ar)))))) ar))))
 (bx (gb (af (ao (.str ("most" :Str))) (af (aa 11) (af (aa 10) (af (ak ixD (aa 9) (ao (.int 0))) (af (ak ixD (aa 9) (ao (.int 1))) ar))))))))))))))))))
def mE:FM:=runM 12 qd
def vx:SM:=
 (aK (ifS (orT (aS (ak ltD (bN cF (af (aa 0) ar)) (ao (.int 1)))) (aS (ak gtD (bN cF (af (aa 0) ar)) (ao (.int 8)))))
 (bx (ao (.bl tt)))
 bB)
 (bx (bN KW (af (bL 1 [] (Cn (aa 0)) (aD 0) bR (vQ tX tX (ao (.str ("a" :Str))) (aa 0) (ao (.str ("z" :Str))))) ar))))
def nW:FM:=runM 1 vx
def pF:SM:=
 (aK (ifS (aS (ak gtD (bN cF (af (aa 0) ar)) (ao (.int 10))))
 pC
 bB)
 (ifS (aS (ak gtD (bN cF (af (aa 1) ar)) (ao (.int 10))))
 pC
 bB))
def jG:FM:=runM 2 pF
def pO:SM:=
 (aK (ifS (ow (aS (bc 1 nW (af (aa 0) ar))))
 pC
 bB)
 (ifS (aS (ak inD (aa 0) (aa 1)))
 pC
 bB))
def gG:FM:=runM 2 pO
def ju:SM:=
 (eS (bc 2 gG (af (aa 2) (af (slM (aa 0) dA (part (aa 1))) ar))))
def oj:SM:=
 (eV (c8 (af (aa 0) ar)) (cS (a8 (aD 1) (a8 (aD 2) cW)) 2)
 ju)
def iU:FM:=runM 3 oj
def ph:SM:=
 (aK (ifS (aS (ak i3 (aa 0) (aa 1)))
 pC
 bB)
 (ifS (aS (ak inD (aa 0) (aa 2)))
 pC
 bB))
def jB:FM:=runM 3 ph
def mN:SM:=
 (ifS (orT (ow (aS (bc 1 gc (af (aa 0) ar)))) (aS (ak ltD (aa 0) (ao (.int 1)))))
 pC
 bB)
def iA:FM:=runM 1 mN
def jr:SM:=
 (aK (eS (kI 3 jB (af (aa 3) (af (aa 1) (af (aa 2) ar)))))
 (aK (eS (bc 1 iA (af (aa 4) ar)))
 (eS (kR (aa 2) (aa 3)))))
def oa:SM:=
 (aK (setM 2 (g5 ar))
 (eV (listI (aa 0)) (cS (a8 (aD 3) (a8 (aD 4) cW)) 2)
 jr))
def fg:FM:=runM 5 oa
def jt:SM:=
 (aK (eS (kI 2 gG (af (aa 3) (af (aa 2) ar))))
 (aK (eS (bc 2 fg (af (aa 4) (af (aa 1) ar))))
 (aK (eS (bc 2 fg (af (aa 5) (af (aa 1) ar))))
 (eS (kR (aa 2) (aa 3))))))
def n6:SM:=
 (aK (setM 2 (g5 ar))
 (eV (listI (aa 0)) (cS (a8 (aD 3) (a8 (aD 4) (a8 (aD 5) cW))) 3)
 jt))
def iX:FM:=runM 6 n6
def rm:SM:=
 (bx (gb (af (ak ixD (aa 0) (ao (.int 0))) (af (bN oK (af (ak ixD (aa 0) (ao (.int 1))) ar)) (af (bN oK (af (ak ixD (aa 0) (ao (.int 2))) ar)) ar)))))
def kv:FM:=runM 1 rm
def rh:SM:=
 (bx (bN xI (af (bL 1 [0] (listI (aa 1)) (aD 0) (aS (ak eqD (ak ixD (aa 0) (ao (.int 0))) (aa 1))) (ak ixD (aa 0) (ao (.int 1)))) ar)))
def eO:FM:=runM 2 rh
def qP:SM:=
 (bx (bL 1 [0] (listI (aa 1)) (aD 0) bR (ak kY (bc 2 eO (af (aa 0) (af (ak ixD (aa 1) (ao (.int 2))) ar))) (bc 2 eO (af (aa 0) (af (ak ixD (aa 1) (ao (.int 1))) ar))))))
def kC:FM:=runM 2 qP
def ko:SM:=
 (aK (eS (bc 2 jG (af (aa 1) (af (aa 2) ar))))
 (aK (eS (bc 1 iU (af (aa 1) ar)))
 (aK (eS (bc 2 iX (af (aa 2) (af (aa 1) ar))))
 (aK (sU 0 "held_goods" (aa 0) (bN oK (af (aa 1) ar)))
 (aK (sU 0 "held_works" (aa 0) (bL 1 [] (listI (aa 2)) (aD 0) bR (bc 1 kv (af (aa 0) ar))))
 (sU 0 "held_changes" (aa 0) (bL 1 [1] (listI (aa 2)) (aD 0) bR (bc 2 kC (af (aa 0) (af (aa 1) ar))))))))))
def ki:FM:=runM 3 ko
def t7:SM:=
 (aK (ifS (aS (ak ltD (aa 1) (bN cF (af (aa 0) ar))))
 (bx (ak ixD (aa 0) (aa 1)))
 bB)
 (bx (ao (.int 0))))
def dv:FM:=runM 2 t7
def AI:SM:=
 (bx (g5 (af (ak cT (ak gh (ak d3 (aa 0) (ao (.int 2))) (ak jD (ao (.int 10)) (ao (.int 60)))) (ak gh (aa 0) (ao (.int 2)))) (af (ak gh (ak d3 (aa 0) (ao (.int 2))) (ao (.int 2147483647))) ar))))
def gu:FM:=runM 1 AI
def lO:SM:=
 (aK (ifS (aS (ak gtD (ak ixD (aa 0) (ao (.int 0))) (ao (.int 0))))
 (aK (setM 2 (ak gh (ak ixD (aa 0) (ao (.int 0))) (aa 1)))
 (aK (gi (ak d3 (ak ixD (aa 0) (ao (.int 0))) (aa 1)) (jk (aa 0) (ao (.int 0))))
 (bx (aa 2))))
 bB)
 (aK (gi (ak gh (ak cx (ak cT (ak ixD (aa 0) (ao (.int 1))) (ao (.int 48271))) (ao (.int 4099))) (ao (.int 2147483647))) (jk (aa 0) (ao (.int 1))))
 (bx (ak gh (ak d3 (ak gh (ak cT (ak ixD (aa 0) (ao (.int 1))) (ak cx (ak d3 (ak ixD (aa 0) (ao (.int 1))) (ao (.int 65536))) (ao (.int 7)))) (ao (.int 2147483629))) (ao (.int 32))) (aa 1)))))
def aV:FM:=runM 3 lO
def fO:SM:=
 (aK (setM 2 (bQ 2 aV (af (aa 0) (af (ao (.int 6)) ar))))
 (aK (ifS (aS (ak eqD (aa 2) (ao (.int 4))))
 (bx (ao (.int 0)))
 bB)
 (aK (ifS (aS (ak eqD (aa 2) (ao (.int 5))))
 (bx (ak kY (ak gh (ak cx (ak cT (bQ 2 aV (af (aa 0) (af (ao (.int 1000)) ar))) (ak jD (ao (.int 10)) (ao (.int 6)))) (bQ 2 aV (af (aa 0) (af (ak jD (ao (.int 10)) (ao (.int 6))) ar)))) (aa 1)) (bQ 2 aV (af (aa 0) (af (ao (.int 9)) ar)))))
 bB)
 (bx (ak kY (bQ 2 aV (af (aa 0) (af (ao (.int 7)) ar))) (ao (.int 3)))))))
def fN:FM:=runM 3 fO
def kH:SM:=
 (aK (setM 5 (ak cx (aa 5) (ak ixD (aa 2) (ak gh (aa 4) (ao (.int 26))))))
 (setM 4 (ak cx (ak d3 (aa 4) (ao (.int 26))) (ak cT (ao (.int 5)) (aa 6)))))
def kJ:SM:=
 (aK (setM 10 (ak cx (ak cx (slS (aa 5) dA (part (aa 7))) (aa 9)) (slS (aa 5) (part (ak cx (aa 7) (ao (.int 1)))) dA)))
 (ifS (kM (aS (ak ltD (bN cF (af (aa 8) ar)) (aa 1))) (aS (ak i3 (aa 10) (aa 8))))
 (eS (kR (aa 8) (aa 10)))
 bB))
def qO:SM:=
 (aK (setM 2 (ao (.str ("abcdefghijklmnopqrstuvwxyz" :Str))))
 (aK (setM 3 (ak cx (ao (.int 1)) (ak gh (aa 0) (ao (.int 8)))))
 (aK (setM 4 (ak gh (ak d3 (aa 0) (ao (.int 8))) (ak jD (ao (.int 10)) (ao (.int 18)))))
 (aK (setM 5 (ao (.str ("" :Str))))
 (aK (eV (g9 (af (aa 3) ar)) (aD 6)
 kH)
 (aK (setM 7 (ak gh (ak d3 (aa 0) (ao (.int 3))) (aa 3)))
 (aK (setM 8 (g5 ar))
 (aK (ifS (aS (ak eqD (ak gh (ak d3 (aa 0) (ao (.int 5))) (ao (.int 2))) (ao (.int 1))))
 (setM 8 (slC (bL 1 [5] (rf (af (ao (.int 1)) (af (ak cx (aa 3) (ao (.int 1))) ar))) (aD 0) bR (slS (aa 1) dA (part (aa 0)))) dA (part (aa 1))))
 bB)
 (aK (eV (Cn (aa 2)) (aD 9)
 kJ)
 (bx (gf (aa 8))))))))))))
def g8:FM:=runM 11 qO
def nv:SM:=
 (aK (setM 4 (ao (.int 1)))
 (aK (ifS (aS (ak ltD (aa 1) (ao (.int 4))))
 (setM 4 (bQ 2 aV (af (aa 0) (af (ak jD (ao (.int 10)) (ao (.int 6))) ar))))
 bB)
 (eS (kR (aa 2) (ak ixD (jn (af (ao (.int 1)) (af (ao (.int 0)) (af (ao (.int 2)) (af (ao (.int 0)) (af (ao (.int 1)) (af (ao (.int 3)) (af (aa 4) ar)))))))) (bQ 2 aV (af (aa 0) (af (ao (.int 7)) ar))))))))
def uV:SM:=
 (aK (setM 2 (g5 (af (ao (.int 1)) ar)))
 (aK (eV (g9 (af (ak kY (aa 1) (ao (.int 1))) ar)) (aD 3)
 nv)
 (bx (aa 2))))
def qs:FM:=runM 5 uV
def jq:SM:=
 (aK (setM 6 (dP 1 gu (af (ak cx (ak ixD (aa 0) (ak gh (aa 5) (bN cF (af (aa 0) ar)))) (ak cT (ao (.int 700001)) (ak d3 (aa 5) (bN cF (af (aa 0) ar))))) ar)))
 (aK (setM 7 (bL 1 [6,4] (listI (aa 1)) (aD 0) bR (bQ 2 fN (af (aa 1) (af (aa 2) ar)))))
 (aK (setM 8 (bQ 2 aV (af (aa 6) (af (ao (.int 12)) ar))))
 (aK (ifS (kM (aS (ak gtD (aa 8) (ao (.int 9)))) (aS (ak gtD (aa 5) (ao (.int 0)))))
 (setM 7 (bL 1 [8] (listI (ak ixD (aa 3) (unM iO (ao (.int 1))))) (aD 0) bR (ak cT (aa 0) (ak kY (ao (.int 21)) (ak cT (ao (.int 2)) (aa 1))))))
 bB)
 (aK (ifS (aS (ak eqD (aa 8) (ao (.int 9))))
 (setM 7 (bL 1 [] (listI (aa 1)) (aD 0) bR (ao (.int 0))))
 bB)
 (eS (kR (aa 3) (aa 7))))))))
def oq:SM:=
 (aK (setM 3 (g5 ar))
 (aK (setM 4 (ao (.int 4)))
 (aK (ifS (aS (ak ltD (bN cF (af (aa 2) ar)) (ao (.int 4))))
 (setM 4 (ak jD (ao (.int 10)) (ao (.int 9))))
 bB)
 (aK (eV (g9 (af (bN cF (af (aa 2) ar)) ar)) (aD 5)
 jq)
 (aK (ifS (aS (ak eqD (ak ixD (aa 2) (ao (.int 0))) (ao (.int 1))))
 (gi (bL 1 [3,2] (g9 (af (bN cF (af (aa 1) ar)) ar)) (aD 0) bR (unM iO (bN xI (af (bL 1 [0,1,2] (rf (af (ao (.int 1)) (af (bN cF (af (aa 2) ar)) ar))) (aD 0) bR (ak cT (ak ixD (ak ixD (aa 2) (aa 0)) (aa 1)) (ak ixD (aa 3) (aa 0)))) ar)))) (jk (aa 3) (ao (.int 0))))
 bB)
 (bx (gf (aa 3))))))))
def iW:FM:=runM 9 oq
def iY:SM:=
 (aK (setM 11 (ao (.int 0)))
 (aK (ifS (aS (ak eqD (bQ 2 aV (af (aa 0) (af (ao (.int 6)) ar))) (ao (.int 5))))
 (setM 11 (ak cx (ao (.int 1)) (bQ 2 aV (af (aa 0) (af (ao (.int 5)) ar)))))
 bB)
 (aK (ifS (orT (aS (ak ltD (aa 10) (ao (.int 0)))) (aS (ak gtD (aa 11) (ao (.int 0)))))
 (eS (kR (aa 7) (gb (af (aa 9) (af (ak cx (bN sZ (af (unM iO (aa 10)) (af (ao (.int 0)) ar))) (aa 11)) ar)))))
 bB)
 (ifS (orT (aS (ak gtD (aa 10) (ao (.int 0)))) (aS (ak gtD (aa 11) (ao (.int 0)))))
 (eS (kR (aa 8) (gb (af (aa 9) (af (ak cx (bN sZ (af (aa 10) (af (ao (.int 0)) ar))) (aa 11)) ar)))))
 bB))))
def kF:SM:=
 (aK (setM 7 (g5 ar))
 (aK (setM 8 (g5 ar))
 (aK (eV (mX (af (aa 2) (af (aa 6) ar))) (cS (a8 (aD 9) (a8 (aD 10) cW)) 2)
 iY)
 (eS (kR (aa 4) (gb (af (aa 5) (af (gf (aa 7)) (af (gf (aa 8)) ar)))))))))
def qL:SM:=
 (aK (setM 4 (g5 ar))
 (aK (eV (mX (af (aa 1) (af (aa 3) ar))) (cS (a8 (aD 5) (a8 (aD 6) cW)) 2)
 kF)
 (bx (gf (aa 4)))))
def nr:FM:=runM 12 qL
def rq:SM:=
 (aK (setM 3 (dP 1 gu (af (bc 2 dv (af (aa 0) (af (ao (.int 2)) ar))) ar)))
 (aK (setM 4 (bc 2 g8 (af (bc 2 dv (af (aa 0) (af (ao (.int 0)) ar))) (af (ak cx (ao (.int 1)) (bQ 2 aV (af (aa 3) (af (aa 1) ar)))) ar))))
 (aK (ifS (aS (ak eqD (bQ 2 aV (af (aa 3) (af (ao (.int 12)) ar))) (ao (.int 11))))
 (setM 4 (jn ar))
 bB)
 (aK (setM 5 (bc 2 g8 (af (bc 2 dv (af (aa 0) (af (ao (.int 1)) ar))) (af (ak cx (ao (.int 1)) (bQ 2 aV (af (aa 3) (af (aa 2) ar)))) ar))))
 (aK (setM 6 (bQ 2 qs (af (aa 3) (af (bN cF (af (aa 5) ar)) ar))))
 (aK (ifS (aS (ak eqD (bQ 2 aV (af (aa 3) (af (ao (.int 4)) ar))) (ao (.int 3))))
 (gi (ao (.int 0)) (jk (aa 6) (ao (.int 0))))
 bB)
 (aK (setM 7 (bQ 3 iW (af (ak cx (jn (af (bc 2 dv (af (aa 0) (af (ao (.int 3)) ar))) ar)) (slM (aa 0) (part (ao (.int 4))) (part (ao (.int 12))))) (af (aa 4) (af (aa 6) ar)))))
 (aK (setM 8 (bQ 2 aV (af (aa 3) (af (bN cF (af (aa 5) ar)) ar))))
 (aK (setM 7 (ak cx (slM (aa 7) (part (aa 8)) dA) (slM (aa 7) dA (part (aa 8)))))
 (aK (setM 6 (ak cx (slM (aa 6) (part (aa 8)) dA) (slM (aa 6) dA (part (aa 8)))))
 (bx (gb (af (aa 4) (af (bQ 4 nr (af (dP 1 gu (af (ak d3 (bc 2 dv (af (aa 0) (af (ao (.int 3)) ar))) (ao (.int 5))) ar)) (af (aa 5) (af (aa 4) (af (aa 7) ar))))) (af (aa 7) (af (GA (aa 6)) ar))))))))))))))))
def kq:FM:=runM 9 rq
def md:SM:=
 (ifS (kM (aS (ak eqD (ak ixD (aa 4) (ao (.int 0))) (ao (.str ("most" :Str))))) (aS (ak ltD (ak ixD (ak ixD (aa 4) (ao (.int 1))) (ao (.int 0))) (ao (.int 1)))))
 (bx (ao (.bl tt)))
 bB)
def j2:SM:=
 (aK (ifS (orT (aS (ak neD (ak eqD (ak ixD (aa 0) (ao (.int 0))) (ao (.str ("never" :Str)))) (mT (aa 2) (aa 3)))) (aS (ak neD (ak eqD (ak ixD (aa 1) (ao (.int 0))) (ao (.str ("never" :Str)))) (ak eqD (ak ixD (aa 0) (ao (.int 0))) (ao (.str ("never" :Str)))))))
 (bx (ao (.bl tt)))
 bB)
 (aK (ifS (aS (ak eqD (ak ixD (aa 0) (ao (.int 0))) (ao (.str ("never" :Str)))))
 (bx (ao (.bl on)))
 bB)
 (aK (ifS (aS (aa 3))
 (bx (mT (ak eqD (ak ixD (aa 0) (ao (.int 0))) (ao (.str ("free" :Str)))) (mT (ak eqD (ak ixD (aa 1) (ao (.int 0))) (ao (.str ("most" :Str)))) (ak eqD (ak ixD (aa 1) (ao (.int 1))) (gb (af (ao (.int 0)) (af (ao (.int 1)) ar)))))))
 bB)
 (aK (ifS (aS (aa 2))
 (bx (mT (ak eqD (ak ixD (aa 1) (ao (.int 0))) (ao (.str ("free" :Str)))) (mT (ak eqD (ak ixD (aa 0) (ao (.int 0))) (ao (.str ("most" :Str)))) (ak eqD (ak ixD (aa 0) (ao (.int 1))) (gb (af (ao (.int 0)) (af (ao (.int 1)) ar)))))))
 bB)
 (aK (eV (listI (jn (af (aa 0) (af (aa 1) ar)))) (aD 4)
 md)
 (aK (ifS (orT (aS (ak eqD (ak ixD (aa 0) (ao (.int 0))) (ao (.str ("free" :Str))))) (aS (ak eqD (ak ixD (aa 1) (ao (.int 0))) (ao (.str ("free" :Str))))))
 (bx (mT (ak inD (ak ixD (aa 0) (ao (.int 0))) (jn (af (ao (.str ("free" :Str))) (af (ao (.str ("most" :Str))) ar)))) (ak inD (ak ixD (aa 1) (ao (.int 0))) (jn (af (ao (.str ("free" :Str))) (af (ao (.str ("most" :Str))) ar))))))
 bB)
 (bx (ak geD (ak cT (ak ixD (ak ixD (aa 0) (ao (.int 1))) (ao (.int 0))) (ak ixD (ak ixD (aa 1) (ao (.int 1))) (ao (.int 0)))) (ak cT (ak ixD (ak ixD (aa 0) (ao (.int 1))) (ao (.int 1))) (ak ixD (ak ixD (aa 1) (ao (.int 1))) (ao (.int 1))))))))))))
def jZ:FM:=runM 5 j2
def wq:SM:=
 (aK (setM 11 (dP 3 mE (af (aa 5) (af (ak ixD (aa 7) (aa 8)) (af (ak ixD (aa 7) (aa 10)) ar)))))
 (aK (setM 12 (dP 3 mE (af (aa 5) (af (ak ixD (aa 7) (aa 10)) (af (ak ixD (aa 7) (aa 8)) ar)))))
 (ifS (ow (aS (bQ 4 jZ (af (aa 11) (af (aa 12) (af (ak inD (ak ixD (aa 7) (aa 8)) (aa 6)) (af (ak inD (ak ixD (aa 7) (aa 10)) (aa 6)) ar)))))))
 (bx (ao (.bl tt)))
 bB)))
def wG:SM:=
 (aK (setM 9 (dP 3 mE (af (aa 5) (af (ak ixD (aa 7) (aa 8)) (af (ak ixD (aa 7) (aa 8)) ar)))))
 (aK (ifS (orT (kM (aS (ak inD (ak ixD (aa 7) (aa 8)) (aa 6))) (aS (ak neD (ak ixD (aa 9) (ao (.int 0))) (ao (.str ("never" :Str)))))) (kM (aS (ak i3 (ak ixD (aa 7) (aa 8)) (aa 6))) (aS (ak neD (slT (aa 9) dA (part (ao (.int 2)))) (gb (af (ao (.str ("most" :Str))) (af (gb (af (ao (.int 1)) (af (ao (.int 1)) ar))) ar)))))))
 (bx (ao (.bl tt)))
 bB)
 (eV (g9 (af (aa 8) ar)) (aD 10)
 wq)))
def LC:SM:=
 (aK (gi (bc 3 kq (af (aa 0) (af (ao (.int 3)) (af (ao (.int 4)) ar)))) (cS (a8 (aD 1) (a8 (aD 2) (a8 (aD 3) (a8 (aD 4) cW)))) 4))
 (aK (setM 5 (yV 0 2 ki (af (aa 1) (af (aa 2) ar))))
 (aK (setM 6 (gf (dP 1 rW (af (aa 5) ar))))
 (aK (setM 7 (bL 1 [] (listI (aa 2)) (aD 0) bR (ak ixD (aa 0) (ao (.int 0)))))
 (aK (eV (g9 (af (bN cF (af (aa 7) ar)) ar)) (aD 8)
 wG)
 (bx (ao (.bl on))))))))
def Cc:FM:=runM 13 LC
section
variable {e : Ev}
theorem EG:a7 ["value"] ["value"] (aL tO):=cb
abbrev sR(e:Ev):Prop:=DIn e 35 "is_whole" ["value"] gc
theorem EV(F:FA e "is_whole" tO)(ac:e.P.given.tree=na)(U:N0 e "isinstance")(ab:N0 e "int")(Y:N0 e "bool"):sR e:=by
 exact bG F EG rfl ∅ (bd1 λ_ _ _ _ _ _ _=>rfl) λ_ _ _ _ _ _ _ hr hu al=>#[_,(aE (a9 (pJ (bP DF rfl U Boot.«isinstance» (ah (pv 0) (ah (FF (v:=.ty "int") rfl ab Boot.«int» rfl) av))) (vU (Nl (bP DF rfl U Boot.«isinstance» (ah (pv 0) (ah (FF (v:=.ty "bool") rfl Y Boot.«bool» rfl) av)))))))),
  (ba (m8 (Il ty_int (ae 0)) (MC (Il ty_bool (ae 0)))))]
theorem fb:a7 ["one","other","rest"] ["one","other"] (aL kL):=cb
abbrev kZ(e:Ev):Prop:=DIn e 35 "measure_of_two" ["one","other"] fA
theorem wK(F:FA e "measure_of_two" kL)(Y:e.P.given.tree=na)(U:N0 e "abs"):kZ e:=by
 exact bG F fb rfl ∅ (bd2 λ_ _ _ _ _ _ _ _=>rfl) λ_ _ _ _ _ _ _ hr hu ab=>#[_,(au (aU (i:=0) fb.nd rfl (qb rfl) (bP DT rfl U Boot.«abs» (ah (pv 0) av)))
 (au (aU (i:=1) fb.nd rfl (qb rfl) (bP DT rfl U Boot.«abs» (ah (pv 1) av)))
 (au (JH PassesOwn.never (bf (xF hu) (pv 1) ay bj)
 (au (aU (i:=2) fb.nd rfl (qb rfl) (a6 fq (pv 0) (pv 1)))
 (au (aU (i:=0) fb.nd rfl (qb rfl) (pv 1))
 (aE (aU (i:=1) fb.nd rfl (qb rfl) (pv 2))))))
 (aE (a9 (pv 0)))))),
  (aC (aO (bM IL (ai (ae 0) aw)))
 (aC (aO (bM IL (ai (ae 1) aw)))
 (aC (JQ (br (aq tI (ae 1) (ax 0)))
 (aC (aO (aq gH (ae 0) (ae 1)))
 (aC (aO (ae 1))
 (aO (ae 2)))))
 (ba (ae 0)))))]
theorem oP:a7 ["numbers","common","number"] ["numbers"] (aL uQ):=cb
abbrev uY(e:Ev):Prop:=DIn e 36 "measure" ["numbers"] jA
theorem GQ(F:FA e "measure" uQ)(U:e.P.given.tree=na)(Y:kZ e):uY e:=by
 exact bG F oP rfl ∅ (bd1 λ_ _ _ _ _ _ _=>rfl) λ_ _ _ _ _ _ _ hr hu ab=>#[_,(au (aU (i:=1) oP.nd rfl (qb rfl) ay)
 (au (dX PassesOwn.never rfl (bX (pv 0)) (aQ (i:=2) oP.nd rfl (qb rfl))
 (aE (aU (i:=1) oP.nd rfl (qb rfl) (aJ Y hr (ah (pv 1) (ah (pv 2) av))))))
 (aE (a9 (pv 1))))),
  (aC (aO (ax 0))
 (aC (dR (bY (ae 0)) (aM 2)
 (aO (bg (n:=2) (f:=fA) (ai (ae 1) (ai (ae 2) aw)))))
 (ba (ae 1))))]
theorem AJ:a7 ["numbers","common"] ["numbers"] (aL xv):=cb
abbrev C8(e:Ev):Prop:=DIn e 37 "lowest" ["numbers"] tm
theorem I0(F:FA e "lowest" xv)(Y:e.P.given.tree=na)(U:N0 e "list")(uS:uY e):C8 e:=by
 exact bG F AJ rfl ∅ (bd1 λ_ _ _ _ _ _ _=>rfl) λ_ _ _ _ _ _ _ hr hu ab=>#[_,(au (aU (i:=1) AJ.nd rfl (RD rfl) (aJ uS hr (ah (pv 0) av)))
 (au (bW (bf (eH hu) (pv 1) ay bj)
 (aE (a9 (nK jI rfl U Boot.«list» (ah (pv 0) av))))
 bC)
 (aE (a9 (dg (own:=["number"]) (cap:=["common"]) (caps:=[1]) rfl (scC #[rfl,qb rfl,rfl,trivial]) (bX (pv 0)) (λ_ _ _=>(aQ (i:=0) (ndL ["number"] ["common"]) rfl (qb rfl))) (λ_ _ _=>ck) (λ_ _ _=>(a6 (gC ab Y #[_,_,rfl,rfl,rfl,rfl,rfl]) (pv 0) (pv 1)))))))),
  (aC (aO (bg (n:=1) (f:=jA) (ai (ae 0) aw)))
 (aC (bU (br (aq dw (ae 1) (ax 0)))
 (ba (Js (ae 0)))
 bD)
 (ba (mZ (m:=1) (caps:=[1]) (bY (ae 0)) (aM 0) cq (aq fB (ae 0) (ae 1))))))]
theorem uL:a7 ["numbers","common"] ["numbers"] (aL xt):=cb
abbrev rj(e:Ev):Prop:=DIn e 37 "lowest" ["numbers"] gZ
theorem CN(F:FA e "lowest" xt)(Y:e.P.given.tree=na)(U:N0 e "list")(uS:uY e):rj e:=by
 exact bG F uL rfl ∅ (bd1 λ_ _ _ _ _ _ _=>rfl) λ_ _ _ _ _ _ _ hr hu ab=>#[_,(au (aU (i:=1) uL.nd rfl (RD rfl) (aJ uS hr (ah (pv 0) av)))
 (au (bW (bf (eH hu) (pv 1) ay bj)
 (aE (a9 (nK jI rfl U Boot.«list» (ah (pv 0) av))))
 bC)
 (aE (a9 (dg (own:=["number"]) (cap:=["common"]) (caps:=[1]) rfl (scC #[rfl,qb rfl,rfl,trivial]) (bX (pv 0)) (λ_ _ _=>(aQ (i:=0) (ndL ["number"] ["common"]) rfl (qb rfl))) (λ_ _ _=>ck) (λ_ _ _=>(a6 (gC ab Y #[_,_,rfl,rfl,rfl,rfl,rfl]) (pv 0) (pv 1)))))))),
  (aC (aO (bg (n:=1) (f:=jA) (ai (ae 0) aw)))
 (aC (bU (br (aq dw (ae 1) (ax 0)))
 (ba (bM sW (ai (ae 0) aw)))
 bD)
 (ba (cf (m:=1) (caps:=[1]) (bY (ae 0)) (aM 0) cq (aq fB (ae 0) (ae 1))))))]
theorem xG:a7 ["top","bottom","common"] ["top","bottom"] (aL z9):=cb
abbrev Gf(e:Ev):Prop:=DIn e 36 "ratio" ["top","bottom"] wB
theorem K4(F:FA e "ratio" z9)(U:e.P.given.tree=na)(oM:sR e)(kW:kZ e):Gf e:=by
 exact bG F xG rfl ∅ (bd2 λ_ _ _ _ _ _ _ _=>rfl) λ_ _ _ _ _ _ _ hr hu Y=>#[_,(au (bW (PW.pt (pw_or (qc (lS (aJ oM hr (ah (pv 0) av)))) (pw_or1 (qc (lS (aJ oM hr (ah (pv 1) av)))))))
 (aE g7)
 bC)
 (au (bW (bf (eH hu) (pv 1) ay bj)
 (aE g7)
 bC)
 (au (aU (i:=2) xG.nd rfl (qb rfl) (aJ kW hr (ah (pv 0) (ah (pv 1) av))))
 (au (bW (bf ny (pv 1) ay bj)
 (aE (aU (i:=2) xG.nd rfl (qb rfl) (sY pV (pv 2))))
 bC)
 (aE (a9 (gK (ah (a6 (gC Y U #[_,_,rfl,rfl,rfl,rfl,rfl]) (pv 0) (pv 2)) (ah (a6 (gC Y U #[_,_,rfl,rfl,rfl,rfl,rfl]) (pv 1) (pv 2)) av))))))))),
  (aC (bU (oJ (pT (oH (bg (n:=1) (f:=gc) (ai (ae 0) aw)))) (pT (oH (bg (n:=1) (f:=gc) (ai (ae 1) aw)))))
 hU
 bD)
 (aC (bU (br (aq dw (ae 1) (ax 0)))
 hU
 bD)
 (aC (aO (bg (n:=2) (f:=fA) (ai (ae 0) (ai (ae 1) aw))))
 (aC (bU (br (aq ni (ae 1) (ax 0)))
 (aO (tP pU (ae 2)))
 bD)
 (ba (gE (ai (aq fB (ae 0) (ae 2)) (ai (aq fB (ae 1) (ae 2)) aw))))))))]
theorem vO:a7 ["numbers","others"] ["numbers","others"] (aL kg):=cb
abbrev ik(e:Ev):Prop:=DIn e 35 "sum_of_products" ["numbers","others"] bZ
theorem va(F:FA e "sum_of_products" kg)(ab:e.P.given.tree=na)(U:N0 e "zip")(Y:N0 e "sum"):ik e:=by
 exact bG F vO rfl ∅ (bd2 λ_ _ _ _ _ _ _ _=>rfl) λ_ _ _ _ _ _ _ hr hu ac=>#[_,(aE (a9 (bP (vj rfl) rfl Y Boot.«sum» (ah (dg (own:=["number","other"]) (cap:=[]) (caps:=[]) rfl (scC trivial) (pK rfl U (ah (pv 0) (ah (pv 1) av))) (λ_ _ _=>(fZ rfl (bI (aQ (i:=0) (ndL ["number","other"] []) rfl (qb rfl)) (bI (aQ (i:=1) (ndL ["number","other"] []) rfl (qb rfl)) eX)))) (λ_ _ _=>ck) (λ_ _ _=>(a6 fF (pv 0) (pv 1)))) av)))),
  (ba (bM CQ (ai (cf (m:=2) (caps:=[]) (r9 (ai (ae 0) (ai (ae 1) aw))) (eY (bJ (aM 0) (bJ (aM 1) fe))) cq (aq eC (ae 0) (ae 1))) aw)))]
theorem FX:a7 ["at","many","told"] ["at","many"] (aL Em):=cb
abbrev Ic(e:Ev):Prop:=DIn e 35 "unit" ["at","many"] u7
theorem MT(F:FA e "unit" Em)(U:e.P.given.tree=na):Ic e:=by
 exact bG F FX rfl ∅ (bd2 λ_ _ _ _ _ _ _ _=>rfl) λ_ _ _ _ _ _ _ hr hu Y=>#[_,(au (aU (i:=2) FX.nd rfl (qb rfl) (a6 Dk (eE (ah ay av)) (pv 1)))
 (au (mf ay (nM (pv 2) (pv 0) set_list))
 (aE (a9 (pv 2))))),
  (aC (aO (zG (ai (ax 0) aw) (ae 1)))
 (aC (kA (ax 1) (nS (ae 2) (ae 0)))
 (ba (ae 2))))]
theorem yI:a7 ["at","many","told"] ["at","many"] (aL Bw):=cb
abbrev Bi(e:Ev):Prop:=DIn e 35 "unit" ["at","many"] nY
theorem GC(F:FA e "unit" Bw)(U:e.P.given.tree=na):Bi e:=by
 exact bG F yI rfl ∅ (bd2 λ_ _ _ _ _ _ _ _=>rfl) λ_ _ _ _ _ _ _ hr hu Y=>#[_,(au (aU (i:=2) yI.nd rfl (qb rfl) (a6 Dk (eE (ah ay av)) (pv 1)))
 (au (mf ay (nM (pv 2) (pv 0) set_list))
 (aE (a9 (pv 2))))),
  (aC (aO (zG (ai (ax 0) aw) (ae 1)))
 (aC (kA (ax 1) (nS (ae 2) (ae 0)))
 (ba (iD (ae 2)))))]
theorem K6:a7 ["many"] ["many"] (aL zU):=cb
abbrev Fs(e:Ev):Prop:=DIn e 36 "units" ["many"] v9
theorem Kv(F:FA e "units" zU)(Y:e.P.given.tree=na)(U:N0 e "range")(N4:Ic e):Fs e:=by
 exact bG F K6 rfl ∅ (bd1 λ_ _ _ _ _ _ _=>rfl) λ_ _ _ _ _ _ _ hr hu ac=>#[_,(aE (a9 (dg (own:=["at"]) (cap:=["many"]) (caps:=[0]) rfl (scC #[rfl,qb rfl,rfl,trivial]) (fL rfl U (ah (pv 0) av)) (λ_ _ _=>(aQ (i:=0) (ndL ["at"] ["many"]) rfl (qb rfl))) (λ_ _ _=>ck) (λ_ _ _=>(aJ N4 hr (ah (pv 0) (ah (pv 1) av))))))),
  (ba (cf (m:=1) (caps:=[0]) (ix (ai (ae 0) aw)) (aM 0) cq (fC (n:=2) (f:=u7) (ai (ae 0) (ai (ae 1) aw)))))]
theorem EH:a7 ["many"] ["many"] (aL zd):=cb
abbrev zj(e:Ev):Prop:=DIn e 36 "units" ["many"] lN
theorem Ew(F:FA e "units" zd)(Y:e.P.given.tree=na)(U:N0 e "range")(HS:Bi e):zj e:=by
 exact bG F EH rfl ∅ (bd1 λ_ _ _ _ _ _ _=>rfl) λ_ _ _ _ _ _ _ hr hu ac=>#[_,(aE (a9 (dg (own:=["at"]) (cap:=["many"]) (caps:=[0]) rfl (scC #[rfl,qb rfl,rfl,trivial]) (fL rfl U (ah (pv 0) av)) (λ_ _ _=>(aQ (i:=0) (ndL ["at"] ["many"]) rfl (qb rfl))) (λ_ _ _=>ck) (λ_ _ _=>(aJ HS hr (ah (pv 0) (ah (pv 1) av))))))),
  (ba (cf (m:=1) (caps:=[0]) (ix (ai (ae 0) aw)) (aM 0) cq (bg (n:=2) (f:=nY) (ai (ae 0) (ai (ae 1) aw)))))]
theorem Bz:a7 ["one","one_value","other","other_value","mixed"] ["one","one_value","other","other_value"] (aL xQ):=cb
abbrev DI(e:Ev):Prop:=DIn e 38 "offset" ["one","one_value","other","other_value"] pY
theorem Jk(F:FA e "offset" xQ)(Y:e.P.given.tree=na)(U:N0 e "zip")(JR:C8 e):DI e:=by
 exact bG F Bz rfl ∅ (bd4 λ_ _ _ _ _ _ _ _ _ _=>rfl) λ_ _ _ _ _ _ _ hr hu ac=>#[_,(au (cP (i:=4) (own:=["number","other_number"]) (cap:=["one_value","other_value"]) (caps:=[1,3]) rfl (scC #[rfl,qb rfl,rfl,#[rfl,qb rfl,rfl,trivial]]) (pK rfl U (ah (pv 0) (ah (pv 2) av))) (λ_ _ _=>(fZ rfl (bI (aQ (i:=0) (ndL ["number","other_number"] ["one_value","other_value"]) rfl (qb rfl)) (bI (aQ (i:=1) (ndL ["number","other_number"] ["one_value","other_value"]) rfl (qb rfl)) eX)))) (λ_ _ _=>ck) (λ_ _ _=>(a6 pG (a6 fF (pv 0) (pv 3)) (a6 fF (pv 1) (pv 2)))) Bz.nd rfl (qb rfl) rfl)
 (aE (a9 (aJ JR hr (ah (pv 4) av))))),
  (aC (aO (cf (m:=2) (caps:=[1,3]) (r9 (ai (ae 0) (ai (ae 2) aw))) (eY (bJ (aM 0) (bJ (aM 1) fe))) cq (aq qo (aq eC (ae 0) (ae 3)) (aq eC (ae 1) (ae 2)))))
 (ba (fC (n:=1) (f:=tm) (ai (ae 4) aw))))]
theorem vf:a7 ["one","one_value","other","other_value","mixed"] ["one","one_value","other","other_value"] (aL xr):=cb
abbrev qX(e:Ev):Prop:=DIn e 38 "offset" ["one","one_value","other","other_value"] gr
theorem D1(F:FA e "offset" xr)(Y:e.P.given.tree=na)(U:N0 e "zip")(qT:rj e):qX e:=by
 exact bG F vf rfl ∅ (bd4 λ_ _ _ _ _ _ _ _ _ _=>rfl) λ_ _ _ _ _ _ _ hr hu ac=>#[_,(au (cP (i:=4) (own:=["number","other_number"]) (cap:=["one_value","other_value"]) (caps:=[1,3]) rfl (scC #[rfl,qb rfl,rfl,#[rfl,qb rfl,rfl,trivial]]) (pK rfl U (ah (pv 0) (ah (pv 2) av))) (λ_ _ _=>(fZ rfl (bI (aQ (i:=0) (ndL ["number","other_number"] ["one_value","other_value"]) rfl (qb rfl)) (bI (aQ (i:=1) (ndL ["number","other_number"] ["one_value","other_value"]) rfl (qb rfl)) eX)))) (λ_ _ _=>ck) (λ_ _ _=>(a6 pG (a6 fF (pv 0) (pv 3)) (a6 fF (pv 1) (pv 2)))) vf.nd rfl (qb rfl) rfl)
 (aE (a9 (aJ qT hr (ah (pv 4) av))))),
  (aC (aO (cf (m:=2) (caps:=[1,3]) (r9 (ai (ae 0) (ai (ae 2) aw))) (eY (bJ (aM 0) (bJ (aM 1) fe))) cq (aq qo (aq eC (ae 0) (ae 3)) (aq eC (ae 1) (ae 2)))))
 (ba (bg (n:=1) (f:=gZ) (ai (ae 4) aw))))]
theorem HJ:a7 ["rows","at"] ["rows","at"] (aL xZ):=cb
abbrev xx(e:Ev):Prop:=DIn e 35 "column" ["rows","at"] iQ
theorem Hr(F:FA e "column" xZ)(U:e.P.given.tree=na):xx e:=by
 exact bG F HJ rfl ∅ (bd2 λ_ _ _ _ _ _ _ _=>rfl) λ_ _ _ _ _ _ _ hr hu Y=>#[_,(aE (a9 (dg (own:=["row"]) (cap:=["at"]) (caps:=[1]) rfl (scC #[rfl,qb rfl,rfl,trivial]) (bX (pv 0)) (λ_ _ _=>(aQ (i:=0) (ndL ["row"] ["at"]) rfl (qb rfl))) (λ_ _ _=>ck) (λ_ _ _=>(aX aP (pv 0) (pv 1) (λ_ _=>rfl)))))),
  (ba (cf (m:=1) (caps:=[1]) (bY (ae 0)) (aM 0) cq (aq aW (ae 0) (ae 1))))]
theorem jm:a7 ["numbers","at","number"] ["numbers"] (aL jH):=cb
abbrev jE(e:Ev):Prop:=DIn e 35 "first_not_nought" ["numbers"] dq
theorem uD(F:FA e "first_not_nought" jH)(Y:e.P.given.tree=na)(U:N0 e "enumerate"):jE e:=by
 exact bG F jm rfl ∅ (bd1 λ_ _ _ _ _ _ _=>rfl) λ_ _ _ _ _ _ _ hr hu ab=>#[_,(au (dX PassesOwn.never rfl (o7 rfl U (ah (pv 0) av)) (fZ rfl (bI (aQ (i:=1) jm.nd rfl (qb rfl)) (bI (aQ (i:=2) jm.nd rfl (qb rfl)) eX)))
 (aE (bW (bf (xF hu) (pv 2) ay bj)
 (aE (a9 (pv 1)))
 bC)))
 (aE (a9 nX))),
  (aC (dR (iG (ai (ae 0) aw)) (eY (bJ (aM 1) (bJ (aM 2) fe)))
 (bU (br (aq tI (ae 2) (ax 0)))
 (ba (ae 1))
 bD))
 (ba nU))]
theorem vA:a7 ["row","at"] ["row","at"] (aL ka):=cb
abbrev oy(e:Ev):Prop:=DIn e 35 "with_sign_above" ["row","at"] f7
theorem uU(F:FA e "with_sign_above" ka)(U:e.P.given.tree=na):oy e:=by
 exact bG F vA rfl ∅ (bd2 λ_ _ _ _ _ _ _ _=>rfl) λ_ _ _ _ _ _ _ hr hu Y=>#[_,(au (bW (bf ip (aX aP (pv 0) (pv 1) (λ_ _=>rfl)) ay bj)
 (aE (a9 (pv 0)))
 bC)
 (aE (a9 (dg (own:=["number"]) (cap:=[]) (caps:=[]) rfl (scC trivial) (bX (pv 0)) (λ_ _ _=>(aQ (i:=0) (ndL ["number"] []) rfl (qb rfl))) (λ_ _ _=>ck) (λ_ _ _=>(sY pV (pv 0))))))),
  (aC (bU (br (aq ic (aq aW (ae 0) (ae 1)) (ax 0)))
 (ba (ae 0))
 bD)
 (ba (cf (m:=1) (caps:=[]) (bY (ae 0)) (aM 0) cq (tP pU (ae 0)))))]
theorem GZ:a7 ["row","lead_row","at"] ["row","lead_row","at"] (aL uR):=cb
abbrev A7(e:Ev):Prop:=DIn e 39 "cleared" ["row","lead_row","at"] gR
theorem GY(F:FA e "cleared" uR)(U:e.P.given.tree=na)(Y:qX e):A7 e:=by
 exact bG F GZ rfl ∅ (bd3 λ_ _ _ _ _ _ _ _ _=>rfl) λ_ _ _ _ _ _ _ hr hu ab=>#[_,(au (bW (bf (eH hu) (aX aP (pv 0) (pv 2) (λ_ _=>rfl)) ay bj)
 (aE (a9 (pv 0)))
 bC)
 (aE (a9 (aJ Y hr (ah (pv 0) (ah (aX aP (pv 0) (pv 2) (λ_ _=>rfl)) (ah (pv 1) (ah (aX aP (pv 1) (pv 2) (λ_ _=>rfl)) av)))))))),
  (aC (bU (br (aq dw (aq aW (ae 0) (ae 2)) (ax 0)))
 (ba (ae 0))
 bD)
 (ba (bg (n:=4) (f:=gr) (ai (ae 0) (ai (aq aW (ae 0) (ae 2)) (ai (ae 1) (ai (aq aW (ae 1) (ae 2)) aw)))))))]
theorem jO:a7 ["rows","many","left","done","at","found","lead_row"] ["rows","many"] (aL Ap):=cb
abbrev FQ(e:Ev):Prop:=DIn e 40 "plain" ["rows","many"] vX
theorem KJ(F:FA e "plain" Ap)(ab:e.P.given.tree=na)(U:N0 e "range")(qT:rj e)(jx:jE e)(xK:xx e)(wM:oy e)(Y:A7 e):FQ e:=by
 exact bG F jO rfl ∅ (bd2 λ_ _ _ _ _ _ _ _=>rfl) λ_ _ _ _ _ _ _ hr hu ap=>#[_,(au (cP (i:=2) (own:=["row"]) (cap:=[]) (caps:=[]) rfl (scC trivial) (bX (pv 0)) (λ_ _ _=>(aQ (i:=0) (ndL ["row"] []) rfl (qb rfl))) (λ_ _ _=>ck) (λ_ _ _=>(aJ qT hr (ah (pv 0) av))) jO.nd rfl (qb rfl) rfl)
 (au (aU (i:=3) jO.nd rfl (qb rfl) (eE av))
 (au (dX PassesOwn.never rfl (fL rfl U (ah (pv 1) av)) (aQ (i:=4) jO.nd rfl (RD rfl))
 (au (aU (i:=5) jO.nd rfl (qb rfl) (aJ jx hr (ah (aJ xK hr (ah (pv 2) (ah (pv 4) av))) av)))
 (aE (bW (bf Fw (pv 5) nX bj)
 (au (aU (i:=6) jO.nd rfl (RD rfl) (aJ wM hr (ah (kD Ix PySem.F.slot_list_pop PySem.F.type_list_pop Kn (pv 2) (ah (pv 5) av)) (ah (pv 4) av))))
 (au (cP (i:=2) (own:=["row"]) (cap:=["at","lead_row"]) (caps:=[4,6]) rfl (scC #[rfl,qb rfl,rfl,#[rfl,qb rfl,rfl,trivial]]) (bX (pv 2)) (λ_ _ _=>(aQ (i:=0) (ndL ["row"] ["at","lead_row"]) rfl (qb rfl))) (λ_ _ _=>ck) (λ_ _ _=>(aJ Y hr (ah (pv 0) (ah (pv 2) (ah (pv 1) av))))) jO.nd rfl (qb rfl) rfl)
 (au (cP (i:=3) (own:=["row"]) (cap:=["at","lead_row"]) (caps:=[4,6]) rfl (scC #[rfl,qb rfl,rfl,#[rfl,qb rfl,rfl,trivial]]) (bX (pv 3)) (λ_ _ _=>(aQ (i:=0) (ndL ["row"] ["at","lead_row"]) rfl (qb rfl))) (λ_ _ _=>ck) (λ_ _ _=>(aJ Y hr (ah (pv 0) (ah (pv 2) (ah (pv 1) av))))) jO.nd rfl (qb rfl) rfl)
 (aE (d4 (kD Ix M2 NE fQ (pv 3) (ah (pv 6) av)))))))
 bC))))
 (aE (a9 (pv 3)))))),
  (aC (aO (mZ (m:=1) (caps:=[]) (bY (ae 0)) (aM 0) cq (bg (n:=1) (f:=gZ) (ai (ae 0) aw))))
 (aC (aO (i4 aw))
 (aC (dR (ix (ai (ae 1) aw)) (aM 4)
 (aC (aO (bg (n:=1) (f:=dq) (ai (cv (n:=2) (f:=iQ) (ai (ae 2) (ai (ae 4) aw))) aw)))
 (bU (br (aq CZ (ae 5) nU))
 (aC (aO (bg (n:=2) (f:=f7) (ai (NZ (ae 2) (ae 5)) (ai (ae 4) aw))))
 (aC (aO (mZ (m:=1) (caps:=[4,6]) (bY (ae 2)) (aM 0) cq (bg (n:=3) (f:=gR) (ai (ae 0) (ai (ae 2) (ai (ae 1) aw))))))
 (aC (aO (mZ (m:=1) (caps:=[4,6]) (bY (ae 3)) (aM 0) cq (bg (n:=3) (f:=gR) (ai (ae 0) (ai (ae 2) (ai (ae 1) aw))))))
 (dY (ky (ae 3) (ae 6))))))
 bD)))
 (ba (iD (ae 3))))))]
theorem eW:a7 ["lists","row","values","found","base","base_value"] ["lists","row"] (aL jh):=cb
abbrev mJ(e:Ev):Prop:=DIn e 39 "still_by_one_more" ["lists","row"] fk
theorem tU(F:FA e "still_by_one_more" jh)(Y:e.P.given.tree=na)(U:N0 e "enumerate")(fY:ik e)(jx:jE e)(qV:qX e):mJ e:=by
 exact bG F eW rfl ∅ (bd2 λ_ _ _ _ _ _ _ _=>rfl) λ_ _ _ _ _ _ _ hr hu am=>#[_,(au (aU (i:=2) eW.nd rfl (RD rfl) (dg (own:=["one"]) (cap:=["row"]) (caps:=[1]) rfl (scC #[rfl,qb rfl,rfl,trivial]) (bX (pv 0)) (λ_ _ _=>(aQ (i:=0) (ndL ["one"] ["row"]) rfl (qb rfl))) (λ_ _ _=>ck) (λ_ _ _=>(aJ fY hr (ah (pv 1) (ah (pv 0) av))))))
 (au (aU (i:=3) eW.nd rfl (RD rfl) (aJ jx hr (ah (pv 2) av)))
 (au (bW (bf Nd (pv 3) nX bj)
 (aE (a9 (pv 0)))
 bC)
 (au (aU (i:=4) eW.nd rfl (RD rfl) (aX aP (pv 0) (pv 3) (λ_ _=>rfl)))
 (au (aU (i:=5) eW.nd rfl (RD rfl) (aX aP (pv 2) (pv 3) (λ_ _=>rfl)))
 (aE (a9 (dg (own:=["at","one"]) (cap:=["base","base_value","found","values"]) (caps:=[4,5,3,2]) rfl (scC #[rfl,qb rfl,rfl,#[rfl,qb rfl,rfl,#[rfl,qb rfl,rfl,#[rfl,qb rfl,rfl,trivial]]]]) (o7 rfl U (ah (pv 0) av)) (λ_ _ _=>(fZ rfl (bI (aQ (i:=0) (ndL ["at","one"] ["base","base_value","found","values"]) rfl (qb rfl)) (bI (aQ (i:=1) (ndL ["at","one"] ["base","base_value","found","values"]) rfl (qb rfl)) eX)))) (λ_ _ _=>(lr (bf (xF hu) (pv 0) (pv 4) bj))) (λ_ _ _=>(aJ qV hr (ah (pv 1) (ah (aX aP (pv 5) (pv 0) (λ_ _=>rfl)) (ah (pv 2) (ah (pv 3) av)))))))))))))),
  (aC (aO (cf (m:=1) (caps:=[1]) (bY (ae 0)) (aM 0) cq (bg (n:=2) (f:=bZ) (ai (ae 1) (ai (ae 0) aw)))))
 (aC (aO (bg (n:=1) (f:=dq) (ai (ae 2) aw)))
 (aC (bU (br (aq LF (ae 3) nU))
 (ba (ae 0))
 bD)
 (aC (aO (aq aW (ae 0) (ae 3)))
 (aC (aO (aq aW (ae 2) (ae 3)))
 (ba (cf (m:=2) (caps:=[4,5,3,2]) (iG (ai (ae 0) aw)) (eY (bJ (aM 0) (bJ (aM 1) fe))) (br (aq tI (ae 0) (ae 4))) (bg (n:=4) (f:=gr) (ai (ae 1) (ai (aq aW (ae 5) (ae 0)) (ai (ae 2) (ai (ae 3) aw))))))))))))]
theorem sv:a7 ["rows","many","lists","row"] ["rows","many"] (aL zJ):=cb
abbrev zV(e:Ev):Prop:=DIn e 41 "still" ["rows","many"] jd
theorem Jy(F:FA e "still" zJ)(U:e.P.given.tree=na)(Y:zj e)(uE:mJ e)(Md:FQ e):zV e:=by
 exact bG F sv rfl ∅ (bd2 λ_ _ _ _ _ _ _ _=>rfl) λ_ _ _ _ _ _ _ hr hu al=>#[_,(au (aU (i:=2) sv.nd rfl (qb rfl) (aJ Y hr (ah (pv 1) av)))
 (au (dX PassesOwn.never rfl (bX (pv 0)) (aQ (i:=3) sv.nd rfl (qb rfl))
 (aE (aU (i:=2) sv.nd rfl (qb rfl) (aJ uE hr (ah (pv 2) (ah (pv 3) av))))))
 (aE (a9 (aJ Md hr (ah (pv 2) (ah (pv 1) av))))))),
  (aC (aO (bg (n:=1) (f:=lN) (ai (ae 1) aw)))
 (aC (dR (bY (ae 0)) (aM 3)
 (aO (bg (n:=2) (f:=fk) (ai (ae 2) (ai (ae 3) aw)))))
 (ba (bg (n:=2) (f:=vX) (ai (ae 2) (ai (ae 1) aw))))))]
theorem ud:a7 ["rows","goal","across","found"] ["rows","goal"] (aL vB):=cb
abbrev AZ(e:Ev):Prop:=DIn e 42 "made_of" ["rows","goal"] nE
theorem GV(F:FA e "made_of" vB)(ab:e.P.given.tree=na)(U:N0 e "len")(Y:N0 e "range")(xK:xx e)(z3:zV e):AZ e:=by
 exact bG F ud rfl ∅ (bd2 λ_ _ _ _ _ _ _ _=>rfl) λ_ _ _ _ _ _ _ hr hu am=>#[_,(au (cP (i:=2) (own:=["at"]) (cap:=["goal","rows"]) (caps:=[1,0]) rfl (scC #[rfl,qb rfl,rfl,#[rfl,qb rfl,rfl,trivial]]) (fL rfl Y (ah (bP cQ rfl U Boot.«len» (ah (pv 1) av)) av)) (λ_ _ _=>(aQ (i:=0) (ndL ["at"] ["goal","rows"]) rfl (qb rfl))) (λ_ _ _=>ck) (λ_ _ _=>(aJ xK hr (ah (a6 dZ (eE (ah (pv 1) av)) (pv 2)) (ah (pv 0) av)))) ud.nd rfl (qb rfl) rfl)
 (au (aU (i:=3) ud.nd rfl (qb rfl) (aJ z3 hr (ah (pv 2) (ah (a6 dZ ay (bP cQ rfl U Boot.«len» (ah (pv 0) av))) av))))
 (au (bW (PW.pt (pw_or (qc (C4 (pv 3) (λ_=>rfl))) (pw_or1 (bf (eH hu) (aX aP (aX aP (pv 3) ay (λ_ _=>rfl)) ay (λ_ _=>rfl)) ay bj))))
 (aE (a9 nX))
 bC)
 (aE (a9 (gK (ah (aX aP (aX aP (pv 3) ay (λ_ _=>rfl)) ay (λ_ _=>rfl)) (ah (dg (own:=["number"]) (cap:=[]) (caps:=[]) rfl (scC trivial) (bX (fV k9 (aX aP (pv 3) ay (λ_ _=>rfl)) (gw ay) iq)) (λ_ _ _=>(aQ (i:=0) (ndL ["number"] []) rfl (qb rfl))) (λ_ _ _=>ck) (λ_ _ _=>(sY pV (pv 0)))) av)))))))),
  (aC (aO (cf (m:=1) (caps:=[1,0]) (ix (ai (bM d6 (ai (ae 1) aw)) aw)) (aM 0) cq (cv (n:=2) (f:=iQ) (ai (aq dj (nZ (ai (ae 1) aw)) (ae 2)) (ai (ae 0) aw)))))
 (aC (aO (bg (n:=2) (f:=jd) (ai (ae 2) (ai (aq dj (ax 1) (bM d6 (ai (ae 0) aw))) aw))))
 (aC (bU (oJ (pT (HC (ae 3))) (br (aq dw (aq aW (aq aW (ae 3) (ax 0)) (ax 0)) (ax 0))))
 (ba nU)
 bD)
 (ba (gE (ai (aq aW (aq aW (ae 3) (ax 0)) (ax 0)) (ai (cf (m:=1) (caps:=[]) (bY (uk (aq aW (ae 3) (ax 0)) (gB (ax 1)) fP)) (aM 0) cq (tP pU (ae 0))) aw)))))))]
theorem jR:a7 ["numbers","bits","number"] ["numbers"] (aL qY):=cb
abbrev xi(e:Ev):Prop:=DIn e 35 "places_of" ["numbers"] kx
theorem CI(F:FA e "places_of" qY)(U:e.P.given.tree=na):xi e:=by
 exact bG F jR rfl ∅ (bd1 λ_ _ _ _ _ _ _=>rfl) λ_ _ _ _ _ _ _ hr hu Y=>#[_,(au (aU (i:=1) jR.nd rfl (qb rfl) ay)
 (au (dX PassesOwn.never rfl (bX (pv 0)) (aQ (i:=2) jR.nd rfl (qb rfl))
 (au (aU (i:=1) jR.nd rfl (qb rfl) (a6 fF (pv 1) ay))
 (aE (bW (bf ip (pv 2) ay bj)
 (aE (aU (i:=1) jR.nd rfl (qb rfl) (a6 dZ (pv 1) ay)))
 bC))))
 (aE (a9 (pv 1))))),
  (aC (aO (ax 0))
 (aC (dR (bY (ae 0)) (aM 2)
 (aC (aO (aq eC (ae 1) (ax 2)))
 (bU (br (aq ic (ae 2) (ax 0)))
 (aO (aq dj (ae 1) (ax 1)))
 bD)))
 (ba (ae 1))))]
theorem EK:a7 ["places","others"] ["places","others"] (aL tw):=cb
abbrev yB(e:Ev):Prop:=DIn e 35 "is_among" ["places","others"] mH
theorem EY(F:FA e "is_among" tw)(U:e.P.given.tree=na):yB e:=by
 exact bG F EK rfl ∅ (bd2 λ_ _ _ _ _ _ _ _=>rfl) λ_ _ _ _ _ _ _ hr hu Y=>#[_,(aE (a9 (eZ (eH hu) (a6 LA (pv 0) (pv 1)) (pv 1) bj))),
  (ba (aq dw (aq HL (ae 0) (ae 1)) (ae 1)))]
theorem oA:a7 ["one","other","all_places","both"] ["one","other","all_places"] (aL kO):=cb
abbrev qj(e:Ev):Prop:=DIn e 36 "are_neighbours" ["one","other","all_places"] gF
theorem wN(F:FA e "are_neighbours" kO)(Y:e.P.given.tree=na)(U:N0 e "len")(GU:yB e):qj e:=by
 exact bG F oA rfl ∅ (bd3 λ_ _ _ _ _ _ _ _ _=>rfl) λ_ _ _ _ _ _ _ hr hu ac=>#[_,(au (aU (i:=3) oA.nd rfl (RD rfl) (a6 LA (pv 0) (pv 1)))
 (aE (a9 (eZ (eH hu) (bP cQ rfl U Boot.«len» (ah (dg (own:=["places"]) (cap:=["both"]) (caps:=[3]) rfl (scC #[rfl,qb rfl,rfl,trivial]) (bX (pv 2)) (λ_ _ _=>(aQ (i:=0) (ndL ["places"] ["both"]) rfl (qb rfl))) (λ_ _ _=>(lr (lS (aJ GU hr (ah (pv 0) (ah (pv 1) av)))))) (λ_ _ _=>(pv 0))) av)) ay bj)))),
  (aC (aO (aq HL (ae 0) (ae 1)))
 (ba (aq dw (bM d6 (ai (cf (m:=1) (caps:=[3]) (bY (ae 2)) (aM 0) (oH (bg (n:=2) (f:=mH) (ai (ae 0) (ai (ae 1) aw)))) (ae 0)) aw)) (ax 2))))]
theorem cZ:a7 ["lists","row","values","places","told","above","below","high","low"] ["lists","row"] (aL jP):=cb
abbrev nV(e:Ev):Prop:=DIn e 39 "lone_by_one_more" ["lists","row"] gS
theorem uC(F:FA e "lone_by_one_more" jP)(ab:e.P.given.tree=na)(Y:N0 e "zip")(U:N0 e "enumerate")(fY:ik e)(EI:xi e)(yg:qj e)(JD:DI e):nV e:=by
 exact bG F cZ rfl ∅ (bd2 λ_ _ _ _ _ _ _ _=>rfl) λ_ _ _ _ _ _ _ hr hu ap=>#[_,(au (cP (i:=2) (own:=["one"]) (cap:=["row"]) (caps:=[1]) rfl (scC #[rfl,qb rfl,rfl,trivial]) (bX (pv 0)) (λ_ _ _=>(aQ (i:=0) (ndL ["one"] ["row"]) rfl (qb rfl))) (λ_ _ _=>ck) (λ_ _ _=>(aJ fY hr (ah (pv 1) (ah (pv 0) av)))) cZ.nd rfl (qb rfl) rfl)
 (au (cP (i:=3) (own:=["one"]) (cap:=[]) (caps:=[]) rfl (scC trivial) (bX (pv 0)) (λ_ _ _=>(aQ (i:=0) (ndL ["one"] []) rfl (qb rfl))) (λ_ _ _=>ck) (λ_ _ _=>(aJ EI hr (ah (pv 0) av))) cZ.nd rfl (qb rfl) rfl)
 (au (cP (i:=4) (own:=["one","value"]) (cap:=[]) (caps:=[]) rfl (scC trivial) (pK rfl Y (ah (pv 0) (ah (pv 2) av))) (λ_ _ _=>(fZ rfl (bI (aQ (i:=0) (ndL ["one","value"] []) rfl (qb rfl)) (bI (aQ (i:=1) (ndL ["one","value"] []) rfl (qb rfl)) eX)))) (λ_ _ _=>(lr (bf (eH hu) (pv 1) ay bj))) (λ_ _ _=>(pv 0)) cZ.nd rfl (qb rfl) rfl)
 (au (cP (i:=5) (own:=["at","value"]) (cap:=[]) (caps:=[]) rfl (scC trivial) (o7 rfl U (ah (pv 2) av)) (λ_ _ _=>(fZ rfl (bI (aQ (i:=0) (ndL ["at","value"] []) rfl (qb rfl)) (bI (aQ (i:=1) (ndL ["at","value"] []) rfl (qb rfl)) eX)))) (λ_ _ _=>(lr (bf ip (pv 1) ay bj))) (λ_ _ _=>(pv 0)) cZ.nd rfl (qb rfl) rfl)
 (au (cP (i:=6) (own:=["at","value"]) (cap:=[]) (caps:=[]) rfl (scC trivial) (o7 rfl U (ah (pv 2) av)) (λ_ _ _=>(fZ rfl (bI (aQ (i:=0) (ndL ["at","value"] []) rfl (qb rfl)) (bI (aQ (i:=1) (ndL ["at","value"] []) rfl (qb rfl)) eX)))) (λ_ _ _=>(lr (bf ny (pv 1) ay bj))) (λ_ _ _=>(pv 0)) cZ.nd rfl (qb rfl) rfl)
 (au (dX PassesOwn.never rfl (bX (pv 5)) (aQ (i:=7) cZ.nd rfl (qb rfl))
 (aE (dX PassesOwn.never rfl (bX (pv 6)) (aQ (i:=8) cZ.nd rfl (qb rfl))
 (aE (bW (lS (aJ yg hr (ah (aX aP (pv 3) (pv 7) (λ_ _=>rfl)) (ah (aX aP (pv 3) (pv 8) (λ_ _=>rfl)) (ah (pv 3) av)))))
 (aE (d4 (kD Ix M2 NE fQ (pv 4) (ah (aJ JD hr (ah (aX aP (pv 0) (pv 8) (λ_ _=>rfl)) (ah (aX aP (pv 2) (pv 8) (λ_ _=>rfl)) (ah (aX aP (pv 0) (pv 7) (λ_ _=>rfl)) (ah (aX aP (pv 2) (pv 7) (λ_ _=>rfl)) av))))) av))))
 bC)))))
 (aE (a9 (pv 4))))))))),
  (aC (aO (cf (m:=1) (caps:=[1]) (bY (ae 0)) (aM 0) cq (sE (n:=2) (f:=bZ) (ai (ae 1) (ai (ae 0) aw)))))
 (aC (aO (cf (m:=1) (caps:=[]) (bY (ae 0)) (aM 0) cq (sE (n:=1) (f:=kx) (ai (ae 0) aw))))
 (aC (aO (mZ (m:=2) (caps:=[]) (r9 (ai (ae 0) (ai (ae 2) aw))) (eY (bJ (aM 0) (bJ (aM 1) fe))) (br (aq dw (ae 1) (ax 0))) (ae 0)))
 (aC (aO (cf (m:=2) (caps:=[]) (iG (ai (ae 2) aw)) (eY (bJ (aM 0) (bJ (aM 1) fe))) (br (aq ic (ae 1) (ax 0))) (ae 0)))
 (aC (aO (cf (m:=2) (caps:=[]) (iG (ai (ae 2) aw)) (eY (bJ (aM 0) (bJ (aM 1) fe))) (br (aq ni (ae 1) (ax 0))) (ae 0)))
 (aC (dR (bY (ae 5)) (aM 7)
 (dR (bY (ae 6)) (aM 8)
 (bU (oH (bg (n:=3) (f:=gF) (ai (aq aW (ae 3) (ae 7)) (ai (aq aW (ae 3) (ae 8)) (ai (ae 3) aw)))))
 (dY (ky (ae 4) (J1 (n:=4) (f:=pY) (ai (aq aW (ae 0) (ae 8)) (ai (aq aW (ae 2) (ae 8)) (ai (aq aW (ae 0) (ae 7)) (ai (aq aW (ae 2) (ae 7)) aw)))))))
 bD)))
 (ba (iD (ae 4)))))))))]
theorem wa:a7 ["rows","many","lists","row"] ["rows","many"] (aL D5):=cb
abbrev Cq(e:Ev):Prop:=DIn e 40 "lone" ["rows","many"] lK
theorem Mq(F:FA e "lone" D5)(Y:e.P.given.tree=na)(U:N0 e "sorted")(MS:Fs e)(vJ:nV e):Cq e:=by
 exact bG F wa rfl ∅ (bd2 λ_ _ _ _ _ _ _ _=>rfl) λ_ _ _ _ _ _ _ hr hu al=>#[_,(au (aU (i:=2) wa.nd rfl (qb rfl) (aJ MS hr (ah (pv 1) av)))
 (au (dX PassesOwn.never rfl (bX (pv 0)) (aQ (i:=3) wa.nd rfl (qb rfl))
 (aE (aU (i:=2) wa.nd rfl (qb rfl) (aJ vJ hr (ah (pv 2) (ah (pv 3) av))))))
 (aE (a9 (bP (El hu) rfl U Boot.«sorted» (ah (pv 2) av)))))),
  (aC (aO (cv (n:=1) (f:=v9) (ai (ae 1) aw)))
 (aC (dR (bY (ae 0)) (aM 3)
 (aO (cv (n:=2) (f:=gS) (ai (ae 2) (ai (ae 3) aw)))))
 (ba (KH (ae 2)))))]
theorem Ex:a7 ["self","at"] ["self","at"] (aL j6):=cb
abbrev yw(e:Ev):Prop:=MethAt e.P e.w e.K e.mg e.base e.ca 35 (e.ca 0) "row" ["self","at"] lZ
theorem Ez{a:pc}(F:Fun e.K "row" "Yard.row" j6 a fd)(hm:Meth e.K (e.ca 0) "row" a)(ab:e.P.given.tree=na)(Y:Cls e.K (e.ca 0))(U:fK e.K (e.ca 0) "held_changes"):yw e:=by
 refine#[a,fd,rT F Ex rfl λac A outer s H E hr=> ?_,hm,F.binds λ_ _ _ _ _ _ us hl=>match us,hl with | [_,_],_=>rfl];have hu:=hr.units;have am:=wy hr ∅;exact#[_,(aE (a9 (dg (own:=["change"]) (cap:=["at"]) (caps:=[1]) rfl (scC #[rfl,qb rfl,rfl,trivial]) (bX (Dg (pv 0) rfl)) (λ_ _ _=>(aQ (i:=0) (ndL ["change"] ["at"]) rfl (qb rfl))) (λ_ _ _=>ck) (λ_ _ _=>(aX aP (pv 0) (pv 1) (λ_ _=>rfl)))))),
  (ba (cf (m:=1) (caps:=[1]) (bY (Ek (c:=0) (f:="held_changes") Y U (ae 0))) (aM 0) cq (aq aW (ae 0) (ae 1))))]
theorem Cz:a7 ["self"] ["self"] (aL i9):=cb
abbrev rC(e:Ev):Prop:=MethAt e.P e.w e.K e.mg e.base e.ca 36 (e.ca 0) "rows" ["self"] hE
theorem Co{a:pc}(F:Fun e.K "rows" "Yard.rows" i9 a fd)(hm:Meth e.K (e.ca 0) "rows" a)(az:e.P.given.tree=na)(as:N0 e "len")(am:N0 e "range")(Y:Cls e.K (e.ca 0))(U:fK e.K (e.ca 0) "held_goods")(ab:yw e):rC e:=by
 obtain⟨ap,an,ac,mr,al⟩:=ab;refine#[a,fd,rT F Cz rfl λa0 A outer s H E hr=> ?_,hm,F.binds λ_ _ _ _ _ _ us hl=>match us,hl with | [_],_=>rfl];have hu:=hr.units;have a2:=wy hr ∅;exact#[_,(aE (a9 (dg (own:=["at"]) (cap:=["self"]) (caps:=[0]) rfl (scC #[rfl,qb rfl,rfl,trivial]) (fL rfl am (ah (bP cQ rfl as Boot.«len» (ah (Dg (pv 0) rfl) av)) av)) (λ_ _ _=>(aQ (i:=0) (ndL ["at"] ["self"]) rfl (qb rfl))) (λ_ _ _=>ck) (λ_ _ _=>(Mw (pv 1) Y mr ac (hr.mono ∅) al .nil oS (ah (pv 0) av)))))),
  (ba (cf (m:=1) (caps:=[0]) (ix (ai (bM d6 (ai (Ek (c:=0) (f:="held_goods") Y U (ae 0)) aw)) aw)) (aM 0) cq (kK (c:=0) (m:="row") (n:=1) (f:=lZ) (ae 1) (ai (ae 0) aw))))]
theorem BZ:a7 ["self"] ["self"] (aL iB):=cb
abbrev jK(e:Ev):Prop:=MethAt e.P e.w e.K e.mg e.base e.ca 35 (e.ca 0) "names" ["self"] dk
theorem BN{a:pc}(F:Fun e.K "names" "Yard.names" iB a fd)(hm:Meth e.K (e.ca 0) "names" a)(ab:e.P.given.tree=na)(Y:Cls e.K (e.ca 0))(U:fK e.K (e.ca 0) "held_works"):jK e:=by
 refine#[a,fd,rT F BZ rfl λac A outer s H E hr=> ?_,hm,F.binds λ_ _ _ _ _ _ us hl=>match us,hl with | [_],_=>rfl];have hu:=hr.units;have am:=wy hr ∅;exact#[_,(aE (a9 (dg (own:=["work"]) (cap:=[]) (caps:=[]) rfl (scC trivial) (bX (Dg (pv 0) rfl)) (λ_ _ _=>(aQ (i:=0) (ndL ["work"] []) rfl (qb rfl))) (λ_ _ _=>ck) (λ_ _ _=>(aX aP (pv 0) ay (λ_ _=>rfl)))))),
  (ba (cf (m:=1) (caps:=[]) (bY (Ek (c:=0) (f:="held_works") Y U (ae 0))) (aM 0) cq (aq aW (ae 0) (ax 0))))]
theorem MM:a7 ["yard"] ["yard"] (aL Eg):=cb
abbrev Dt(e:Ev):Prop:=DIn e 41 "ways" ["yard"] lV
theorem LU(F:FA e "ways" Eg)(a2:e.P.given.tree=na)(a1:N0 e "len")(an:Cls e.K (e.ca 0))(Di:Cq e)(ac:rC e)(U:jK e):Dt e:=by
 obtain⟨a0,as,al,ia,am⟩:=ac;obtain⟨az,ap,Y,dW,ab⟩:=U;exact bG F MM rfl ∅ (bd1 λ_ _ _ _ _ _ _=>rfl) λ_ _ _ _ _ _ _ hr hu a4=>#[_,(aE (a9 (aJ Di hr (ah (mP (pv 0) an ia al (hr.mono ∅) am .nil oS) (ah (bP cQ rfl a1 Boot.«len» (ah (mP (pv 0) an dW Y (hr.mono ∅) ab .nil oS) av)) av))))),
  (ba (fC (n:=2) (f:=lK) (ai (kK (c:=0) (m:="rows") (n:=0) (f:=hE) (ae 0) aw) (ai (bM d6 (ai (kK (c:=0) (m:="names") (n:=0) (f:=dk) (ae 0) aw) aw)) aw))))]
theorem w8:a7 ["yard","name","names"] ["yard","name"] (aL sx):=cb
abbrev yp(e:Ev):Prop:=DIn e 36 "place_of" ["yard","name"] fE
theorem EC(F:FA e "place_of" sx)(an:e.P.given.tree=na)(ac:Cls e.K (e.ca 0))(U:jK e):yp e:=by
 obtain⟨am,al,Y,dW,ab⟩:=U;exact bG F w8 rfl ∅ (bd2 λ_ _ _ _ _ _ _ _=>rfl) λ_ _ _ _ _ _ _ hr hu ap=>#[_,(au (aU (i:=2) w8.nd rfl (qb rfl) (mP (pv 0) ac dW Y (hr.mono ∅) ab .nil oS))
 (au (bW (bf mC (pv 1) (pv 2) (by with_unfolding_all rfl))
 (aE g7)
 bC)
 (aE (a9 (kD Ix PySem.F.slot_list_index PySem.F.type_list_index KD (pv 2) (ah (pv 1) av)))))),
  (aC (aO (kK (c:=0) (m:="names") (n:=0) (f:=dk) (ae 0) aw))
 (aC (bU (br (aq sX (ae 1) (ae 2)))
 hU
 bD)
 (ba (J9 (ae 2) (ae 1)))))]
theorem uz:a7 ["lists","at","one"] ["lists","at"] (aL qe):=cb
abbrev pf(e:Ev):Prop:=DIn e 35 "first_with" ["lists","at"] fI
theorem BO(F:FA e "first_with" qe)(U:e.P.given.tree=na):pf e:=by
 exact bG F uz rfl ∅ (bd2 λ_ _ _ _ _ _ _ _=>rfl) λ_ _ _ _ _ _ _ hr hu Y=>#[_,(au (dX PassesOwn.never rfl (bX (pv 0)) (aQ (i:=2) uz.nd rfl (qb rfl))
 (aE (bW (bf ip (aX aP (pv 2) (pv 1) (λ_ _=>rfl)) ay bj)
 (aE (a9 (pv 2)))
 bC)))
 (aE (a9 nX))),
  (aC (dR (bY (ae 0)) (aM 2)
 (bU (br (aq ic (aq aW (ae 2) (ae 1)) (ax 0)))
 (ba (ae 2))
 bD))
 (ba nU))]
theorem eG:a7 ["yard","demands","rows","many","wanted","found","goal","made"] ["yard","demands"] (aL lW):=cb
abbrev qI(e:Ev):Prop:=DIn e 43 "weights_above" ["yard","demands"] fT
theorem xJ(F:FA e "weights_above" lW)(as:e.P.given.tree=na)(an:N0 e "len")(ap:N0 e "zip")(ac:Cls e.K (e.ca 0))(U:rC e)(z3:zV e)(fY:ik e)(qg:pf e)(Di:Cq e)(Ig:AZ e):qI e:=by
 obtain⟨am,al,Y,ia,ab⟩:=U;exact bG F eG rfl ∅ (bd2 λ_ _ _ _ _ _ _ _=>rfl) λ_ _ _ _ _ _ _ hr hu a4=>#[_,(au (aU (i:=2) eG.nd rfl (qb rfl) (mP (pv 0) ac ia Y (hr.mono ∅) ab .nil oS))
 (au (aU (i:=3) eG.nd rfl (RD rfl) (bP cQ rfl an Boot.«len» (ah (pv 1) av)))
 (au (cP (i:=4) (own:=["row"]) (cap:=["demands"]) (caps:=[1]) rfl (scC #[rfl,qb rfl,rfl,trivial]) (bX (aJ z3 hr (ah (pv 2) (ah (pv 3) av)))) (λ_ _ _=>(aQ (i:=0) (ndL ["row"] ["demands"]) rfl (qb rfl))) (λ_ _ _=>ck) (λ_ _ _=>(a6 dZ (pv 0) (eE (ah (aJ fY hr (ah (pv 0) (ah (pv 1) av))) av)))) eG.nd rfl (qb rfl) rfl)
 (au (aU (i:=5) eG.nd rfl (RD rfl) (aJ qg hr (ah (aJ Di hr (ah (pv 4) (ah (a6 dZ (pv 3) ay) av))) (ah (pv 3) av))))
 (au (cP (i:=6) (own:=["spare","demand"]) (cap:=["found","many"]) (caps:=[5,3]) rfl (scC #[rfl,qb rfl,rfl,#[rfl,qb rfl,rfl,trivial]]) (pK rfl ap (ah (pv 5) (ah (pv 1) av))) (λ_ _ _=>(fZ rfl (bI (aQ (i:=0) (ndL ["spare","demand"] ["found","many"]) rfl (qb rfl)) (bI (aQ (i:=1) (ndL ["spare","demand"] ["found","many"]) rfl (qb rfl)) eX)))) (λ_ _ _=>ck) (λ_ _ _=>(a6 dZ (pv 0) (a6 fF (aX aP (pv 2) (pv 3) (λ_ _=>rfl)) (pv 1)))) eG.nd rfl (qb rfl) rfl)
 (au (aU (i:=7) eG.nd rfl (qb rfl) (aJ Ig hr (ah (pv 2) (ah (pv 6) av))))
 (aE (a9 (gK (ah (a6 fF (aX aP (pv 7) ay (λ_ _=>rfl)) (aX aP (pv 5) (pv 3) (λ_ _=>rfl))) (ah (aX aP (pv 7) ay (λ_ _=>rfl)) av))))))))))),
  (aC (aO (kK (c:=0) (m:="rows") (n:=0) (f:=hE) (ae 0) aw))
 (aC (aO (bM d6 (ai (ae 1) aw)))
 (aC (aO (cf (m:=1) (caps:=[1]) (bY (bg (n:=2) (f:=jd) (ai (ae 2) (ai (ae 3) aw)))) (aM 0) cq (aq dj (ae 0) (nZ (ai (bg (n:=2) (f:=bZ) (ai (ae 0) (ai (ae 1) aw))) aw)))))
 (aC (aO (cv (n:=2) (f:=fI) (ai (iD (fC (n:=2) (f:=lK) (ai (ae 4) (ai (aq dj (ae 3) (ax 1)) aw)))) (ai (ae 3) aw))))
 (aC (aO (Ja (m:=2) (caps:=[5,3]) (Me (ai (ae 5) (ai (ae 1) aw))) (eY (bJ (aM 0) (bJ (aM 1) fe))) cq (aq dj (ae 0) (aq eC (aq aW (ae 2) (ae 3)) (ae 1)))))
 (aC (aO (bg (n:=2) (f:=nE) (ai (ae 2) (ai (ae 6) aw))))
 (ba (gE (ai (aq eC (aq aW (ae 7) (ax 0)) (aq aW (ae 5) (ae 3))) (ai (aq aW (ae 7) (ax 1)) aw))))))))))]
theorem E9:a7 ["yard","found"] ["yard"] (aL Dl):=cb
abbrev Hy(e:Ev):Prop:=DIn e 42 "idle" ["yard"] rW
theorem Mr(F:FA e "idle" Dl)(ap:e.P.given.tree=na)(ac:N0 e "enumerate")(al:Cls e.K (e.ca 0))(Ep:Dt e)(U:jK e)(qg:pf e):Hy e:=by
 obtain⟨an,am,Y,dW,ab⟩:=U;exact bG F E9 rfl ∅ (bd1 λ_ _ _ _ _ _ _=>rfl) λ_ _ _ _ _ _ _ hr hu a0=>#[_,(au (aU (i:=1) E9.nd rfl (RD rfl) (aJ Ep hr (ah (pv 0) av)))
 (aE (a9 (dg (own:=["at","name"]) (cap:=["found"]) (caps:=[1]) rfl (scC #[rfl,qb rfl,rfl,trivial]) (o7 rfl ac (ah (mP (pv 0) al dW Y (hr.mono ∅) ab .nil oS) av)) (λ_ _ _=>(fZ rfl (bI (aQ (i:=0) (ndL ["at","name"] ["found"]) rfl (qb rfl)) (bI (aQ (i:=1) (ndL ["at","name"] ["found"]) rfl (qb rfl)) eX)))) (λ_ _ _=>(lr (bf Nd (aJ qg hr (ah (pv 2) (ah (pv 0) av))) nX bj))) (λ_ _ _=>(pv 1)))))),
  (aC (aO (iD (fC (n:=1) (f:=lV) (ai (ae 0) aw))))
 (ba (mZ (m:=2) (caps:=[1]) (iG (ai (kK (c:=0) (m:="names") (n:=0) (f:=dk) (ae 0) aw) aw)) (eY (bJ (aM 0) (bJ (aM 1) fe))) (br (aq LF (cv (n:=2) (f:=fI) (ai (ae 2) (ai (ae 0) aw))) nU)) (ae 1))))]
theorem oz:a7 ["many","first","first_demand","second","second_demand","told"] ["many","first","first_demand","second","second_demand"] (aL kX):=cb
abbrev p9(e:Ev):Prop:=DIn e 35 "demands_of_two" ["many","first","first_demand","second","second_demand"] ft
theorem wO(F:FA e "demands_of_two" kX)(U:e.P.given.tree=na):p9 e:=by
 exact bG F oz rfl ∅ (bd5 λ_ _ _ _ _ _ _ _ _ _ _=>rfl) λ_ _ _ _ _ _ _ hr hu Y=>#[_,(au (aU (i:=5) oz.nd rfl (qb rfl) (a6 Dk (eE (ah ay av)) (pv 0)))
 (au (mf (a6 dZ (aX aP (pv 5) (pv 1) (λ_ _=>rfl)) (pv 2)) (nM (pv 5) (pv 1) set_list))
 (au (mf (a6 dZ (aX aP (pv 5) (pv 3) (λ_ _=>rfl)) (pv 4)) (nM (pv 5) (pv 3) set_list))
 (aE (a9 (pv 5)))))),
  (aC (aO (zG (ai (ax 0) aw) (ae 0)))
 (aC (kA (aq dj (aq aW (ae 5) (ae 1)) (ae 2)) (nS (ae 5) (ae 1)))
 (aC (kA (aq dj (aq aW (ae 5) (ae 3)) (ae 4)) (nS (ae 5) (ae 3)))
 (ba (iD (ae 5))))))]
theorem sq:a7 ["found","first","second","way"] ["found","first","second"] (aL n9):=cb
abbrev uA(e:Ev):Prop:=DIn e 35 "way_without" ["found","first","second"] iZ
theorem z5(F:FA e "way_without" n9)(U:e.P.given.tree=na):uA e:=by
 exact bG F sq rfl ∅ (bd3 λ_ _ _ _ _ _ _ _ _=>rfl) λ_ _ _ _ _ _ _ hr hu Y=>#[_,(au (dX PassesOwn.never rfl (bX (pv 0)) (aQ (i:=3) sq.nd rfl (qb rfl))
 (aE (bW (PW.pt (pw_and (bf ip (aX aP (pv 3) (pv 1) (λ_ _=>rfl)) ay bj) (pw_and1 (bf (eH hu) (aX aP (pv 3) (pv 2) (λ_ _=>rfl)) ay bj))))
 (aE (a9 (pv 3)))
 bC)))
 (aE (a9 nX))),
  (aC (dR (bY (ae 0)) (aM 3)
 (bU (rO (br (aq ic (aq aW (ae 3) (ae 1)) (ax 0))) (br (aq dw (aq aW (ae 3) (ae 2)) (ax 0))))
 (ba (ae 3))
 bD))
 (ba nU))]
theorem iL:a7 ["found","first","second","best","way"] ["found","first","second"] (aL mn):=cb
abbrev qr(e:Ev):Prop:=DIn e 35 "way_with_most" ["found","first","second"] jw
theorem xP(F:FA e "way_with_most" mn)(U:e.P.given.tree=na):qr e:=by
 exact bG F iL rfl ∅ (bd3 λ_ _ _ _ _ _ _ _ _=>rfl) λ_ _ _ _ _ _ _ hr hu Y=>#[_,(au (aU (i:=3) iL.nd rfl (qb rfl) (aX aP (pv 0) ay (λ_ _=>rfl)))
 (au (dX PassesOwn.never rfl (bX (pv 0)) (aQ (i:=4) iL.nd rfl (qb rfl))
 (aE (bW (bf ip (a6 fF (aX aP (pv 4) (pv 1) (λ_ _=>rfl)) (aX aP (pv 3) (pv 2) (λ_ _=>rfl))) (a6 fF (aX aP (pv 3) (pv 1) (λ_ _=>rfl)) (aX aP (pv 4) (pv 2) (λ_ _=>rfl))) bj)
 (aE (aU (i:=3) iL.nd rfl (qb rfl) (pv 4)))
 bC)))
 (aE (a9 (pv 3))))),
  (aC (aO (aq aW (ae 0) (ax 0)))
 (aC (dR (bY (ae 0)) (aM 4)
 (bU (br (aq ic (aq eC (aq aW (ae 4) (ae 1)) (aq aW (ae 3) (ae 2))) (aq eC (aq aW (ae 3) (ae 1)) (aq aW (ae 4) (ae 2)))))
 (aO (ae 4))
 bD))
 (ba (ae 3))))]
theorem iE:a7 ["yard","one","other","first","second","found","many","free","with_other","told","best","often"] ["yard","one","other"] (aL DS):=cb
abbrev HM(e:Ev):Prop:=DIn e 44 "most" ["yard","one","other"] mE
theorem LO(F:FA e "most" DS)(a0:e.P.given.tree=na)(an:N0 e "len")(ac:Cls e.K (e.ca 0))(yG:yp e)(Ep:Dt e)(U:jK e)(BX:uA e)(qz:qI e)(p8:p9 e)(zb:qr e)(MZ:Gf e):HM e:=by
 obtain⟨am,al,Y,dW,ab⟩:=U;exact bG F iE rfl ∅ (bd3 λ_ _ _ _ _ _ _ _ _=>rfl) λ_ _ _ _ _ _ _ hr hu a5=>#[_,(au (aU (i:=3) iE.nd rfl (qb rfl) (aJ yG hr (ah (pv 0) (ah (pv 1) av))))
 (au (aU (i:=4) iE.nd rfl (RD rfl) (aJ yG hr (ah (pv 0) (ah (pv 2) av))))
 (au (aU (i:=5) iE.nd rfl (qb rfl) (aJ Ep hr (ah (pv 0) av)))
 (au (aU (i:=6) iE.nd rfl (qb rfl) (bP cQ rfl an Boot.«len» (ah (mP (pv 0) ac dW Y (hr.mono ∅) ab .nil oS) av)))
 (au (aU (i:=7) iE.nd rfl (qb rfl) (aJ BX hr (ah (pv 5) (ah (pv 3) (ah (pv 4) av)))))
 (au (bW (bf Fw (pv 7) nX bj)
 (aE (a9 (gK (ah dM (ah (pv 7) av)))))
 bC)
 (au (cP (i:=8) (own:=["way"]) (cap:=["second"]) (caps:=[4]) rfl (scC #[rfl,qb rfl,rfl,trivial]) (bX (pv 5)) (λ_ _ _=>(aQ (i:=0) (ndL ["way"] ["second"]) rfl (qb rfl))) (λ_ _ _=>(lr (bf ip (aX aP (pv 0) (pv 1) (λ_ _=>rfl)) ay bj))) (λ_ _ _=>(pv 0)) iE.nd rfl (qb rfl) rfl)
 (au (bW (qc (C4 (pv 8) (λ_=>rfl)))
 (au (aU (i:=9) iE.nd rfl (qb rfl) (aJ qz hr (ah (pv 0) (ah (aJ p8 hr (ah (pv 6) (ah (pv 3) (ah ay (ah (pv 4) (ah ay av)))))) av))))
 (aE (a9 (gK (ah dM (ah (aX aP (pv 9) ay (λ_ _=>rfl)) av))))))
 bC)
 (au (aU (i:=10) iE.nd rfl (qb rfl) (aJ zb hr (ah (pv 8) (ah (pv 3) (ah (pv 4) av)))))
 (au (aU (i:=11) iE.nd rfl (qb rfl) (aJ MZ hr (ah (aX aP (pv 10) (pv 3) (λ_ _=>rfl)) (ah (aX aP (pv 10) (pv 4) (λ_ _=>rfl)) av))))
 (au (aU (i:=9) iE.nd rfl (qb rfl) (aJ qz hr (ah (pv 0) (ah (aJ p8 hr (ah (pv 6) (ah (pv 3) (ah (aX aP (pv 11) ay (λ_ _=>rfl)) (ah (pv 4) (ah (sY pV (aX aP (pv 11) ay (λ_ _=>rfl))) av)))))) av))))
 (aE (a9 (gK (ah dM (ah (pv 11) (ah (pv 10) (ah (aX aP (pv 9) ay (λ_ _=>rfl)) (ah (aX aP (pv 9) ay (λ_ _=>rfl)) av))))))))))))))))))),
  (aC (aO (bg (n:=2) (f:=fE) (ai (ae 0) (ai (ae 1) aw))))
 (aC (aO (bg (n:=2) (f:=fE) (ai (ae 0) (ai (ae 2) aw))))
 (aC (aO (iD (fC (n:=1) (f:=lV) (ai (ae 0) aw))))
 (aC (aO (bM d6 (ai (kK (c:=0) (m:="names") (n:=0) (f:=dk) (ae 0) aw) aw)))
 (aC (aO (cv (n:=3) (f:=iZ) (ai (ae 5) (ai (ae 3) (ai (ae 4) aw)))))
 (aC (bU (br (aq CZ (ae 7) nU))
 (ba (gE (ai (dN ("free" :Str)) (ai (ae 7) aw))))
 bD)
 (aC (aO (cf (m:=1) (caps:=[4]) (bY (ae 5)) (aM 0) (br (aq ic (aq aW (ae 0) (ae 1)) (ax 0))) (ae 0)))
 (aC (bU (pT (HC (ae 8)))
 (aC (aO (bg (n:=2) (f:=fT) (ai (ae 0) (ai (bg (n:=5) (f:=ft) (ai (ae 6) (ai (ae 3) (ai (ax 1) (ai (ae 4) (ai (ax 1) aw)))))) aw))))
 (ba (gE (ai (dN ("never" :Str)) (ai (aq aW (ae 9) (ax 1)) aw)))))
 bD)
 (aC (aO (cv (n:=3) (f:=jw) (ai (ae 8) (ai (ae 3) (ai (ae 4) aw)))))
 (aC (aO (bg (n:=2) (f:=wB) (ai (aq aW (ae 10) (ae 3)) (ai (aq aW (ae 10) (ae 4)) aw))))
 (aC (aO (bg (n:=2) (f:=fT) (ai (ae 0) (ai (bg (n:=5) (f:=ft) (ai (ae 6) (ai (ae 3) (ai (aq aW (ae 11) (ax 1)) (ai (ae 4) (ai (tP pU (aq aW (ae 11) (ax 0))) aw)))))) aw))))
 (ba (gE (ai (dN ("most" :Str)) (ai (ae 11) (ai (ae 10) (ai (aq aW (ae 9) (ax 0)) (ai (aq aW (ae 9) (ax 1)) aw))))))))))))))))))]
theorem Ha:a7 ["text"] ["text"] (aL vg):=cb
abbrev Bn(e:Ev):Prop:=DIn e 35 "is_name" ["text"] nW
theorem Hc(F:FA e "is_name" vg)(ac:e.P.given.tree=na)(Y:N0 e "len")(ab:N0 e "all")(U:∃t,e.mg "MOST_LETTERS" =lH (.int 8 t)):Bn e:=by
 exact bG F Ha rfl ∅ (bd1 λ_ _ _ _ _ _ _=>rfl) λ_ _ _ _ _ _ _ hr hu al=>#[_,(au (bW (PW.pt (pw_or (bf ny (bP cQ rfl Y Boot.«len» (ah (pv 0) av)) ay bj) (pw_or1 (bf ip (bP cQ rfl Y Boot.«len» (ah (pv 0) av)) (Aw (v:=.int 8) rfl U.choose_spec #[_,rfl]) bj))))
 (aE (a9 sr))
 bC)
 (aE (a9 (bP (HN rfl) rfl ab Boot.«all» (ah (dg (own:=["sign"]) (cap:=[]) (caps:=[]) rfl (scC trivial) (IU (pv 0)) (λ_ _ _=>(aQ (i:=0) (ndL ["sign"] []) rfl (qb rfl))) (λ_ _ _=>ck) (λ_ _ _=>(JM HZ HZ dM (pv 0) dM))) av))))),
  (aC (bU (oJ (br (aq ni (bM d6 (ai (ae 0) aw)) (ax 1))) (br (aq ic (bM d6 (ai (ae 0) aw)) (ax 8))))
 (ba (tZ tt))
 bD)
 (ba (bM NU (ai (cf (m:=1) (caps:=[]) (Fz (ae 0)) (aM 0) cq (J3 II II (dN ("a" :Str)) (ae 0) (dN ("z" :Str)))) aw))))]
theorem B6:a7 ["goods","works"] ["goods","works"] (aL qk):=cb
abbrev vM(e:Ev):Prop:=DIn e 35 "check_many" ["goods","works"] jG
theorem B1(F:FA e "check_many" qk)(ac:e.P.given.tree=na)(ab:N0 e "len")(U:∃t,e.mg "MOST_GOODS" =lH (.int 10 t))(Y:∃t,e.mg "MOST_WORKS" =lH (.int 10 t)):vM e:=by
 exact bG F B6 rfl ∅ (bd2 λ_ _ _ _ _ _ _ _=>rfl) λ_ _ _ _ _ _ _ hr hu al=>#[_,(au (bW (bf ip (bP cQ rfl ab Boot.«len» (ah (pv 0) av)) (Aw (v:=.int 10) rfl U.choose_spec #[_,rfl]) bj)
 (aE g7)
 bC)
 (aE (bW (bf ip (bP cQ rfl ab Boot.«len» (ah (pv 1) av)) (Aw (v:=.int 10) rfl Y.choose_spec #[_,rfl]) bj)
 (aE g7)
 bC))),
  (aC (bU (br (aq ic (bM d6 (ai (ae 0) aw)) (ax 10)))
 hU
 bD)
 (bU (br (aq ic (bM d6 (ai (ae 1) aw)) (ax 10)))
 hU
 bD))]
theorem BR:a7 ["text","earlier"] ["text","earlier"] (aL pW):=cb
abbrev pI(e:Ev):Prop:=DIn e 36 "check_name" ["text","earlier"] gG
theorem B4(F:FA e "check_name" pW)(U:e.P.given.tree=na)(Y:Bn e):pI e:=by
 exact bG F BR rfl ∅ (bd2 λ_ _ _ _ _ _ _ _=>rfl) λ_ _ _ _ _ _ _ hr hu ab=>#[_,(au (bW (qc (lS (aJ Y hr (ah (pv 0) av))))
 (aE g7)
 bC)
 (aE (bW (bf jF (pv 0) (pv 1) (by with_unfolding_all rfl))
 (aE g7)
 bC))),
  (aC (bU (pT (oH (bg (n:=1) (f:=nW) (ai (ae 0) aw))))
 hU
 bD)
 (bU (br (aq sA (ae 0) (ae 1)))
 hU
 bD))]
theorem mK:a7 ["goods","at","good"] ["goods"] (aL om):=cb
abbrev uy(e:Ev):Prop:=DIn e 37 "check_goods" ["goods"] iU
theorem zX(F:FA e "check_goods" om)(Y:e.P.given.tree=na)(U:N0 e "enumerate")(o9:pI e):uy e:=by
 exact bG F mK rfl ∅ (bd1 λ_ _ _ _ _ _ _=>rfl) λ_ _ _ _ _ _ _ hr hu ac=>#[_,(aE (dX PassesOwn.never rfl (o7 rfl U (ah (pv 0) av)) (fZ rfl (bI (aQ (i:=1) mK.nd rfl (qb rfl)) (bI (aQ (i:=2) mK.nd rfl (qb rfl)) eX)))
 (aE (d4 (aJ o9 hr (ah (pv 2) (ah (fV k9 (pv 0) iq (gw (pv 1))) av))))))),
  (dR (iG (ai (ae 0) aw)) (eY (bJ (aM 1) (bJ (aM 2) fe)))
 (dY (bg (n:=2) (f:=gG) (ai (ae 2) (ai (uk (ae 0) fP (gB (ae 1))) aw)))))]
theorem BV:a7 ["good","goods","earlier"] ["good","goods","earlier"] (aL px):=cb
abbrev vC(e:Ev):Prop:=DIn e 35 "check_good" ["good","goods","earlier"] jB
theorem BY(F:FA e "check_good" px)(U:e.P.given.tree=na):vC e:=by
 exact bG F BV rfl ∅ (bd3 λ_ _ _ _ _ _ _ _ _=>rfl) λ_ _ _ _ _ _ _ hr hu Y=>#[_,(au (bW (bf mC (pv 0) (pv 1) (by with_unfolding_all rfl))
 (aE g7)
 bC)
 (aE (bW (bf jF (pv 0) (pv 2) (by with_unfolding_all rfl))
 (aE g7)
 bC))),
  (aC (bU (br (aq sX (ae 0) (ae 1)))
 hU
 bD)
 (bU (br (aq sA (ae 0) (ae 2)))
 hU
 bD))]
theorem yU:a7 ["amount"] ["amount"] (aL mL):=cb
abbrev sf(e:Ev):Prop:=DIn e 36 "check_amount" ["amount"] iA
theorem zf(F:FA e "check_amount" mL)(U:e.P.given.tree=na)(Y:sR e):sf e:=by
 exact bG F yU rfl ∅ (bd1 λ_ _ _ _ _ _ _=>rfl) λ_ _ _ _ _ _ _ hr hu ab=>#[_,(aE (bW (PW.pt (pw_or (qc (lS (aJ Y hr (ah (pv 0) av)))) (pw_or1 (bf ny (pv 0) ay bj))))
 (aE g7)
 bC)),
  (bU (oJ (pT (oH (bg (n:=1) (f:=gc) (ai (ae 0) aw)))) (br (aq ni (ae 0) (ax 1))))
 hU
 bD)]
theorem j8:a7 ["parts","goods","earlier","good","amount"] ["parts","goods"] (aL n5):=cb
abbrev uu(e:Ev):Prop:=DIn e 37 "check_parts" ["parts","goods"] fg
theorem zI(F:FA e "check_parts" n5)(U:e.P.given.tree=na)(Y:vC e)(zM:sf e):uu e:=by
 exact bG F j8 rfl ∅ (bd2 λ_ _ _ _ _ _ _ _=>rfl) λ_ _ _ _ _ _ _ hr hu ac=>#[_,(au (aU (i:=2) j8.nd rfl (qb rfl) (eE av))
 (aE (dX PassesOwn.never rfl (bX (pv 0)) (fZ rfl (bI (aQ (i:=3) j8.nd rfl (qb rfl)) (bI (aQ (i:=4) j8.nd rfl (qb rfl)) eX)))
 (au (d4 (aJ Y hr (ah (pv 3) (ah (pv 1) (ah (pv 2) av)))))
 (au (d4 (aJ zM hr (ah (pv 4) av)))
 (aE (d4 (kD Ix M2 NE fQ (pv 2) (ah (pv 3) av))))))))),
  (aC (aO (i4 aw))
 (dR (bY (ae 0)) (eY (bJ (aM 3) (bJ (aM 4) fe)))
 (aC (dY (sE (n:=3) (f:=jB) (ai (ae 3) (ai (ae 1) (ai (ae 2) aw)))))
 (aC (dY (bg (n:=1) (f:=iA) (ai (ae 4) aw)))
 (dY (ky (ae 2) (ae 3)))))))]
theorem iH:a7 ["works","goods","earlier","name","uses","makes"] ["works","goods"] (aL og):=cb
abbrev uo(e:Ev):Prop:=DIn e 38 "check_works" ["works","goods"] iX
theorem z6(F:FA e "check_works" og)(Y:e.P.given.tree=na)(o9:pI e)(U:uu e):uo e:=by
 exact bG F iH rfl ∅ (bd2 λ_ _ _ _ _ _ _ _=>rfl) λ_ _ _ _ _ _ _ hr hu ac=>#[_,(au (aU (i:=2) iH.nd rfl (qb rfl) (eE av))
 (aE (dX PassesOwn.never rfl (bX (pv 0)) (fZ rfl (bI (aQ (i:=3) iH.nd rfl (qb rfl)) (bI (aQ (i:=4) iH.nd rfl (qb rfl)) (bI (aQ (i:=5) iH.nd rfl (qb rfl)) eX))))
 (au (d4 (aJ o9 hr (ah (pv 3) (ah (pv 2) av))))
 (au (d4 (aJ U hr (ah (pv 4) (ah (pv 1) av))))
 (au (d4 (aJ U hr (ah (pv 5) (ah (pv 1) av))))
 (aE (d4 (kD Ix M2 NE fQ (pv 2) (ah (pv 3) av)))))))))),
  (aC (aO (i4 aw))
 (dR (bY (ae 0)) (eY (bJ (aM 3) (bJ (aM 4) (bJ (aM 5) fe))))
 (aC (dY (sE (n:=2) (f:=gG) (ai (ae 3) (ai (ae 2) aw))))
 (aC (dY (bg (n:=2) (f:=fg) (ai (ae 4) (ai (ae 1) aw))))
 (aC (dY (bg (n:=2) (f:=fg) (ai (ae 5) (ai (ae 1) aw))))
 (dY (ky (ae 2) (ae 3))))))))]
theorem D2:a7 ["work"] ["work"] (aL rE):=cb
abbrev wV(e:Ev):Prop:=DIn e 35 "copy_work" ["work"] kv
theorem DN(F:FA e "copy_work" rE)(Y:e.P.given.tree=na)(U:N0 e "list"):wV e:=by
 exact bG F D2 rfl ∅ (bd1 λ_ _ _ _ _ _ _=>rfl) λ_ _ _ _ _ _ _ hr hu ab=>#[_,(aE (a9 (gK (ah (aX aP (pv 0) ay (λ_ _=>rfl)) (ah (nK jI rfl U Boot.«list» (ah (aX aP (pv 0) ay (λ_ _=>rfl)) av)) (ah (nK jI rfl U Boot.«list» (ah (aX aP (pv 0) ay (λ_ _=>rfl)) av)) av)))))),
  (ba (gE (ai (aq aW (ae 0) (ax 0)) (ai (bM sW (ai (aq aW (ae 0) (ax 1)) aw)) (ai (bM sW (ai (aq aW (ae 0) (ax 2)) aw)) aw)))))]
theorem D7:a7 ["good","parts"] ["good","parts"] (aL qU):=cb
abbrev xf(e:Ev):Prop:=DIn e 35 "amount_of" ["good","parts"] eO
theorem D0(F:FA e "amount_of" qU)(Y:e.P.given.tree=na)(U:N0 e "sum"):xf e:=by
 exact bG F D7 rfl ∅ (bd2 λ_ _ _ _ _ _ _ _=>rfl) λ_ _ _ _ _ _ _ hr hu ab=>#[_,(aE (a9 (bP (vj rfl) rfl U Boot.«sum» (ah (dg (own:=["part"]) (cap:=["good"]) (caps:=[0]) rfl (scC #[rfl,qb rfl,rfl,trivial]) (bX (pv 1)) (λ_ _ _=>(aQ (i:=0) (ndL ["part"] ["good"]) rfl (qb rfl))) (λ_ _ _=>(lr (bf (eH hu) (aX aP (pv 0) ay (λ_ _=>rfl)) (pv 1) bj))) (λ_ _ _=>(aX aP (pv 0) ay (λ_ _=>rfl)))) av)))),
  (ba (bM CQ (ai (cf (m:=1) (caps:=[0]) (bY (ae 1)) (aM 0) (br (aq dw (aq aW (ae 0) (ax 0)) (ae 1))) (aq aW (ae 0) (ax 1))) aw)))]
theorem C7:a7 ["work","goods"] ["work","goods"] (aL rJ):=cb
abbrev w9(e:Ev):Prop:=DIn e 36 "change_of" ["work","goods"] kC
theorem DM(F:FA e "change_of" rJ)(Y:e.P.given.tree=na)(U:xf e):w9 e:=by
 exact bG F C7 rfl ∅ (bd2 λ_ _ _ _ _ _ _ _=>rfl) λ_ _ _ _ _ _ _ hr hu ab=>#[_,(aE (a9 (dg (own:=["good"]) (cap:=["work"]) (caps:=[0]) rfl (scC #[rfl,qb rfl,rfl,trivial]) (bX (pv 1)) (λ_ _ _=>(aQ (i:=0) (ndL ["good"] ["work"]) rfl (qb rfl))) (λ_ _ _=>ck) (λ_ _ _=>(a6 pG (aJ U hr (ah (pv 0) (ah (aX aP (pv 1) ay (λ_ _=>rfl)) av))) (aJ U hr (ah (pv 0) (ah (aX aP (pv 1) ay (λ_ _=>rfl)) av)))))))),
  (ba (cf (m:=1) (caps:=[0]) (bY (ae 1)) (aM 0) cq (aq qo (bg (n:=2) (f:=eO) (ai (ae 0) (ai (aq aW (ae 1) (ax 2)) aw))) (bg (n:=2) (f:=eO) (ai (ae 0) (ai (aq aW (ae 1) (ax 1)) aw))))))]
theorem Ec:a7 ["self","goods","works"] ["self","goods","works"] (aL jf):=cb
abbrev xa(e:Ev):Prop:=Ni e.P e.w e.K e.mg e.base e.ca 39 (e.ca 0) "Yard" ["self","goods","works"] ki
theorem CB{a:pc}(F:Fun e.K "__init__" "Yard.__init__" jf a fd)(hk:Mk e.K (e.ca 0) a)(hm:e.mg "Yard" =lH (.ref (e.ca 0)))(am:e.P.given.tree=na)(al:N0 e "list")(ac:Cls e.K (e.ca 0))(Y:fK e.K (e.ca 0) "held_goods")(ab:fK e.K (e.ca 0) "held_works")(U:fK e.K (e.ca 0) "held_changes")(Ee:vM e)(B0:uy e)(BQ:uo e)(ET:wV e)(ES:w9 e):xa e:=by
 refine#[a,fd,rT F Ec rfl λa1 A outer s H E hr=> ?_,hk,hm,F.binds λ_ _ _ _ _ _ us hl=>match us,hl with | [_,_,_],_=>rfl];have hu:=hr.units;have a3:=wy hr ∅;exact#[_,(au (d4 (aJ Ee hr (ah (pv 1) (ah (pv 2) av))))
 (au (d4 (aJ B0 hr (ah (pv 1) av)))
 (au (d4 (aJ BQ hr (ah (pv 2) (ah (pv 1) av))))
 (au (CH (pv 0) (nK jI rfl al Boot.«list» (ah (pv 1) av)) rfl)
 (au (CH (pv 0) (dg (own:=["work"]) (cap:=[]) (caps:=[]) rfl (scC trivial) (bX (pv 2)) (λ_ _ _=>(aQ (i:=0) (ndL ["work"] []) rfl (qb rfl))) (λ_ _ _=>ck) (λ_ _ _=>(aJ ET hr (ah (pv 0) av)))) rfl)
 (aE (CH (pv 0) (dg (own:=["work"]) (cap:=["goods"]) (caps:=[1]) rfl (scC #[rfl,qb rfl,rfl,trivial]) (bX (pv 2)) (λ_ _ _=>(aQ (i:=0) (ndL ["work"] ["goods"]) rfl (qb rfl))) (λ_ _ _=>ck) (λ_ _ _=>(aJ ES hr (ah (pv 0) (ah (pv 1) av))))) rfl))))))),
  (aC (dY (bg (n:=2) (f:=jG) (ai (ae 1) (ai (ae 2) aw))))
 (aC (dY (bg (n:=1) (f:=iU) (ai (ae 1) aw)))
 (aC (dY (bg (n:=2) (f:=iX) (ai (ae 2) (ai (ae 1) aw))))
 (aC (Ab (c:=0) (f:="held_goods") ac Y (ae 0) (bM sW (ai (ae 1) aw)))
 (aC (Ab (c:=0) (f:="held_works") ac ab (ae 0) (cf (m:=1) (caps:=[]) (bY (ae 2)) (aM 0) cq (bg (n:=1) (f:=kv) (ai (ae 0) aw))))
 (Ab (c:=0) (f:="held_changes") ac U (ae 0) (cf (m:=1) (caps:=[1]) (bY (ae 2)) (aM 0) cq (bg (n:=2) (f:=kC) (ai (ae 0) (ai (ae 1) aw))))))))))]
theorem Eu:a7 ["_law_script","_law_k"] ["_law_script","_law_k"] (aL tL):=cb
abbrev zm(e:Ev):Prop:=DIn e 35 "_law_cell" ["_law_script","_law_k"] dv
theorem EF(F:FA e "_law_cell" tL)(Y:e.P.given.tree=na)(U:N0 e "len"):zm e:=by
 exact bG F Eu rfl ∅ (bd2 λ_ _ _ _ _ _ _ _=>rfl) λ_ _ _ _ _ _ _ hr hu ab=>#[_,(au (bW (bf ny (pv 1) (bP cQ rfl U Boot.«len» (ah (pv 0) av)) bj)
 (aE (a9 (aX aP (pv 0) (pv 1) (λ_ _=>rfl))))
 bC)
 (aE (a9 ay))),
  (aC (bU (br (aq ni (ae 1) (bM d6 (ai (ae 0) aw))))
 (ba (aq aW (ae 0) (ae 1)))
 bD)
 (ba (ax 0)))]
theorem GR:a7 ["_law_cell_here"] ["_law_cell_here"] (aL uX):=cb
abbrev vR(e:Ev):Prop:=DIn e 35 "_law_bag" ["_law_cell_here"] gu
theorem Gz(F:FA e "_law_bag" uX)(U:e.P.given.tree=na):vR e:=by
 exact bG F GR rfl ∅ (bd1 λ_ _ _ _ _ _ _=>rfl) λ_ _ _ _ _ _ _ hr hu Y=>#[_,(aE (a9 (eE (ah (a6 fF (a6 fq (a6 (gC Y U #[_,_,rfl,rfl,rfl,rfl,rfl]) (pv 0) ay) (a6 rY ay ay)) (a6 fq (pv 0) ay)) (ah (a6 fq (a6 (gC Y U #[_,_,rfl,rfl,rfl,rfl,rfl]) (pv 0) ay) ay) av))))),
  (ba (i4 (ai (aq eC (aq gH (aq fB (ae 0) (ax 2)) (aq sk (ax 10) (ax 60))) (aq gH (ae 0) (ax 2))) (ai (aq gH (aq fB (ae 0) (ax 2)) (ax 2147483647)) aw))))]
theorem xh:a7 ["_law_bag_here","_law_many","_law_found"] ["_law_bag_here","_law_many"] (aL sM):=cb
abbrev jY(e:Ev):Prop:=DIn e 35 "_law_draw" ["_law_bag_here","_law_many"] aV
theorem EN(F:FA e "_law_draw" sM)(U:e.P.given.tree=na):jY e:=by
 exact bG F xh rfl ∅ (bd2 λ_ _ _ _ _ _ _ _=>rfl) λ_ _ _ _ _ _ _ hr hu Y=>#[_,(au (bW (bf ip (aX aP (pv 0) ay (λ_ _=>rfl)) ay bj)
 (au (aU (i:=2) xh.nd rfl (qb rfl) (a6 fq (aX aP (pv 0) ay (λ_ _=>rfl)) (pv 1)))
 (au (mf (a6 (gC Y U #[_,_,rfl,rfl,rfl,rfl,rfl]) (aX aP (pv 0) ay (λ_ _=>rfl)) (pv 1)) (nM (pv 0) ay set_list))
 (aE (a9 (pv 2)))))
 bC)
 (au (mf (a6 fq (a6 dZ (a6 fF (aX aP (pv 0) ay (λ_ _=>rfl)) ay) ay) ay) (nM (pv 0) ay set_list))
 (aE (a9 (a6 fq (a6 (gC Y U #[_,_,rfl,rfl,rfl,rfl,rfl]) (a6 fq (a6 fF (aX aP (pv 0) ay (λ_ _=>rfl)) (a6 dZ (a6 (gC Y U #[_,_,rfl,rfl,rfl,rfl,rfl]) (aX aP (pv 0) ay (λ_ _=>rfl)) ay) ay)) ay) ay) (pv 1)))))),
  (aC (bU (br (aq ic (aq aW (ae 0) (ax 0)) (ax 0)))
 (aC (aO (aq gH (aq aW (ae 0) (ax 0)) (ae 1)))
 (aC (kA (aq fB (aq aW (ae 0) (ax 0)) (ae 1)) (nS (ae 0) (ax 0)))
 (ba (ae 2))))
 bD)
 (aC (kA (aq gH (aq dj (aq eC (aq aW (ae 0) (ax 1)) (ax 48271)) (ax 4099)) (ax 2147483647)) (nS (ae 0) (ax 1)))
 (ba (aq gH (aq fB (aq gH (aq eC (aq aW (ae 0) (ax 1)) (aq dj (aq fB (aq aW (ae 0) (ax 1)) (ax 65536)) (ax 7))) (ax 2147483629)) (ax 32)) (ae 1)))))]
theorem ur:a7 ["_law_bag_here","_law_wide","_law_way_here"] ["_law_bag_here","_law_wide"] (aL pZ):=cb
abbrev vy(e:Ev):Prop:=DIn e 36 "_law_number" ["_law_bag_here","_law_wide"] fN
theorem B5(F:FA e "_law_number" pZ)(Y:e.P.given.tree=na)(U:jY e):vy e:=by
 exact bG F ur rfl ∅ (bd2 λ_ _ _ _ _ _ _ _=>rfl) λ_ _ _ _ _ _ _ hr hu ab=>#[_,(au (aU (i:=2) ur.nd rfl (qb rfl) (aJ U hr (ah (pv 0) (ah ay av))))
 (au (bW (bf (eH hu) (pv 2) ay bj)
 (aE (a9 ay))
 bC)
 (au (bW (bf (eH hu) (pv 2) ay bj)
 (aE (a9 (a6 pG (a6 fq (a6 dZ (a6 fF (aJ U hr (ah (pv 0) (ah ay av))) (a6 rY ay ay)) (aJ U hr (ah (pv 0) (ah (a6 rY ay ay) av)))) (pv 1)) (aJ U hr (ah (pv 0) (ah ay av))))))
 bC)
 (aE (a9 (a6 pG (aJ U hr (ah (pv 0) (ah ay av))) ay)))))),
  (aC (aO (cv (n:=2) (f:=aV) (ai (ae 0) (ai (ax 6) aw))))
 (aC (bU (br (aq dw (ae 2) (ax 4)))
 (ba (ax 0))
 bD)
 (aC (bU (br (aq dw (ae 2) (ax 5)))
 (ba (aq qo (aq gH (aq dj (aq eC (cv (n:=2) (f:=aV) (ai (ae 0) (ai (ax 1000) aw))) (aq sk (ax 10) (ax 6))) (cv (n:=2) (f:=aV) (ai (ae 0) (ai (aq sk (ax 10) (ax 6)) aw)))) (ae 1)) (cv (n:=2) (f:=aV) (ai (ae 0) (ai (ax 9) aw)))))
 bD)
 (ba (aq qo (cv (n:=2) (f:=aV) (ai (ae 0) (ai (ax 7) aw))) (ax 3))))))]
theorem di:a7 ["_law_cell_here","_law_many","_law_letters","_law_size","_law_rest","_law_word","_law_k","_law_spot","_law_made","_law_letter","_law_name"] ["_law_cell_here","_law_many"] (aL rF):=cb
abbrev xn(e:Ev):Prop:=DIn e 35 "_law_words" ["_law_cell_here","_law_many"] g8
theorem CD(F:FA e "_law_words" rF)(Y:e.P.given.tree=na)(U:N0 e "range")(ac:N0 e "len"):xn e:=by
 exact bG F di rfl ∅ (bd2 λ_ _ _ _ _ _ _ _=>rfl) λ_ _ _ _ _ _ _ hr hu ab=>#[_,(au (aU (i:=2) di.nd rfl (qb rfl) dM)
 (au (aU (i:=3) di.nd rfl (qb rfl) (a6 dZ ay (a6 fq (pv 0) ay)))
 (au (aU (i:=4) di.nd rfl (qb rfl) (a6 fq (a6 (gC ab Y #[_,_,rfl,rfl,rfl,rfl,rfl]) (pv 0) ay) (a6 rY ay ay)))
 (au (aU (i:=5) di.nd rfl (RD rfl) dM)
 (au (dX PassesOwn.never rfl (fL rfl U (ah (pv 3) av)) (aQ (i:=6) di.nd rfl (qb rfl))
 (au (aU (i:=5) di.nd rfl (RD rfl) (a6 dZ (pv 5) (aX aP (pv 2) (a6 fq (pv 4) ay) (λ_ _=>rfl))))
 (aE (aU (i:=4) di.nd rfl (qb rfl) (a6 dZ (a6 (gC ab Y #[_,_,rfl,rfl,rfl,rfl,rfl]) (pv 4) ay) (a6 fF ay (pv 6)))))))
 (au (aU (i:=7) di.nd rfl (qb rfl) (a6 fq (a6 (gC ab Y #[_,_,rfl,rfl,rfl,rfl,rfl]) (pv 0) ay) (pv 3)))
 (au (aU (i:=8) di.nd rfl (qb rfl) (eE av))
 (au (bW (bf (eH hu) (a6 fq (a6 (gC ab Y #[_,_,rfl,rfl,rfl,rfl,rfl]) (pv 0) ay) ay) ay bj)
 (aE (aU (i:=8) di.nd rfl (qb rfl) (fV k9 (dg (own:=["_law_k"]) (cap:=["_law_word"]) (caps:=[5]) rfl (scC #[rfl,qb rfl,rfl,trivial]) (BD rfl U (ah ay (ah (a6 dZ (pv 3) ay) av))) (λ_ _ _=>(aQ (i:=0) (ndL ["_law_k"] ["_law_word"]) rfl (qb rfl))) (λ_ _ _=>ck) (λ_ _ _=>(fV Dx (pv 1) iq (gw (pv 0))))) iq (gw (pv 1)))))
 bC)
 (au (dX PassesOwn.never rfl (IU (pv 2)) (aQ (i:=9) di.nd rfl (qb rfl))
 (au (aU (i:=10) di.nd rfl (qb rfl) (a6 dZ (a6 dZ (fV Dx (pv 5) iq (gw (pv 7))) (pv 9)) (fV Dx (pv 5) (gw (a6 dZ (pv 7) ay)) iq)))
 (aE (bW (PW.pt (pw_and (bf ny (bP cQ rfl ac Boot.«len» (ah (pv 8) av)) (pv 1) bj) (pw_and1 (bf mC (pv 10) (pv 8) (by with_unfolding_all rfl)))))
 (aE (d4 (kD Ix M2 NE fQ (pv 8) (ah (pv 10) av))))
 bC))))
 (aE (a9 (pv 8)))))))))))),
  (aC (aO (dN ("abcdefghijklmnopqrstuvwxyz" :Str)))
 (aC (aO (aq dj (ax 1) (aq gH (ae 0) (ax 8))))
 (aC (aO (aq gH (aq fB (ae 0) (ax 8)) (aq sk (ax 10) (ax 18))))
 (aC (aO (dN ("" :Str)))
 (aC (dR (ix (ai (ae 3) aw)) (aM 6)
 (aC (aO (aq dj (ae 5) (aq aW (ae 2) (aq gH (ae 4) (ax 26)))))
 (aO (aq dj (aq fB (ae 4) (ax 26)) (aq eC (ax 5) (ae 6))))))
 (aC (aO (aq gH (aq fB (ae 0) (ax 3)) (ae 3)))
 (aC (aO (i4 aw))
 (aC (bU (br (aq dw (aq gH (aq fB (ae 0) (ax 5)) (ax 2)) (ax 1)))
 (aO (Nm (cf (m:=1) (caps:=[5]) (Fo (ai (ax 1) (ai (aq dj (ae 3) (ax 1)) aw))) (aM 0) cq (C3 (ae 1) fP (gB (ae 0)))) fP (gB (ae 1))))
 bD)
 (aC (dR (Fz (ae 2)) (aM 9)
 (aC (aO (aq dj (aq dj (C3 (ae 5) fP (gB (ae 7))) (ae 9)) (C3 (ae 5) (gB (aq dj (ae 7) (ax 1))) fP)))
 (bU (rO (br (aq ni (bM d6 (ai (ae 8) aw)) (ae 1))) (br (aq sX (ae 10) (ae 8))))
 (dY (ky (ae 8) (ae 10)))
 bD)))
 (ba (iD (ae 8))))))))))))]
theorem mD:a7 ["_law_bag_here","_law_many","_law_made","_law_k","_law_great"] ["_law_bag_here","_law_many"] (aL u5):=cb
abbrev Bt(e:Ev):Prop:=DIn e 36 "_law_way" ["_law_bag_here","_law_many"] qs
theorem GK(F:FA e "_law_way" u5)(ab:e.P.given.tree=na)(U:N0 e "range")(Y:jY e):Bt e:=by
 exact bG F mD rfl ∅ (bd2 λ_ _ _ _ _ _ _ _=>rfl) λ_ _ _ _ _ _ _ hr hu ac=>#[_,(au (aU (i:=2) mD.nd rfl (qb rfl) (eE (ah ay av)))
 (au (dX PassesOwn.never rfl (fL rfl U (ah (a6 pG (pv 1) ay) av)) (aQ (i:=3) mD.nd rfl (qb rfl))
 (au (aU (i:=4) mD.nd rfl (qb rfl) ay)
 (au (bW (bf ny (pv 1) ay bj)
 (aE (aU (i:=4) mD.nd rfl (qb rfl) (aJ Y hr (ah (pv 0) (ah (a6 rY ay ay) av)))))
 bC)
 (aE (d4 (kD Ix M2 NE fQ (pv 2) (ah (aX aP (eE (ah ay (ah ay (ah ay (ah ay (ah ay (ah ay (ah (pv 4) av)))))))) (aJ Y hr (ah (pv 0) (ah ay av))) (λ_ _=>rfl)) av)))))))
 (aE (a9 (pv 2))))),
  (aC (aO (i4 (ai (ax 1) aw)))
 (aC (dR (ix (ai (aq qo (ae 1) (ax 1)) aw)) (aM 3)
 (aC (aO (ax 1))
 (aC (bU (br (aq ni (ae 1) (ax 4)))
 (aO (cv (n:=2) (f:=aV) (ai (ae 0) (ai (aq sk (ax 10) (ax 6)) aw))))
 bD)
 (dY (ky (ae 2) (aq aW (nZ (ai (ax 1) (ai (ax 0) (ai (ax 2) (ai (ax 0) (ai (ax 1) (ai (ax 3) (ai (ae 4) aw)))))))) (cv (n:=2) (f:=aV) (ai (ae 0) (ai (ax 7) aw)))))))))
 (ba (ae 2))))]
theorem dE:a7 ["_law_cells","_law_goods","_law_way_here","_law_made","_law_wide","_law_k","_law_here","_law_one","_law_way_on"] ["_law_cells","_law_goods","_law_way_here"] (aL oh):=cb
abbrev uq(e:Ev):Prop:=DIn e 37 "_law_changes" ["_law_cells","_law_goods","_law_way_here"] iW
theorem Aj(F:FA e "_law_changes" oh)(ac:e.P.given.tree=na)(U:N0 e "len")(Y:N0 e "range")(ab:N0 e "sum")(qG:vR e)(DP:vy e)(cI:jY e):uq e:=by
 exact bG F dE rfl ∅ (bd3 λ_ _ _ _ _ _ _ _ _=>rfl) λ_ _ _ _ _ _ _ hr hu al=>#[_,(au (aU (i:=3) dE.nd rfl (RD rfl) (eE av))
 (au (aU (i:=4) dE.nd rfl (RD rfl) ay)
 (au (bW (bf ny (bP cQ rfl U Boot.«len» (ah (pv 2) av)) ay bj)
 (aE (aU (i:=4) dE.nd rfl (RD rfl) (a6 rY ay ay)))
 bC)
 (au (dX PassesOwn.never rfl (fL rfl Y (ah (bP cQ rfl U Boot.«len» (ah (pv 2) av)) av)) (aQ (i:=5) dE.nd rfl (qb rfl))
 (au (aU (i:=6) dE.nd rfl (RD rfl) (aJ qG hr (ah (a6 dZ (aX aP (pv 0) (a6 fq (pv 5) (bP cQ rfl U Boot.«len» (ah (pv 0) av))) (λ_ _=>rfl)) (a6 fF ay (a6 (gC al ac #[_,_,rfl,rfl,rfl,rfl,rfl]) (pv 5) (bP cQ rfl U Boot.«len» (ah (pv 0) av))))) av)))
 (au (cP (i:=7) (own:=["_law_good"]) (cap:=["_law_here","_law_wide"]) (caps:=[6,4]) rfl (scC #[rfl,qb rfl,rfl,#[rfl,qb rfl,rfl,trivial]]) (bX (pv 1)) (λ_ _ _=>(aQ (i:=0) (ndL ["_law_good"] ["_law_here","_law_wide"]) rfl (qb rfl))) (λ_ _ _=>ck) (λ_ _ _=>(aJ DP hr (ah (pv 1) (ah (pv 2) av)))) dE.nd rfl (qb rfl) rfl)
 (au (aU (i:=8) dE.nd rfl (RD rfl) (aJ cI hr (ah (pv 6) (ah ay av))))
 (au (bW (PW.pt (pw_and (bf ip (pv 8) ay bj) (pw_and1 (bf ip (pv 5) ay bj))))
 (aE (cP (i:=7) (own:=["_law_number_here"]) (cap:=["_law_way_on"]) (caps:=[8]) rfl (scC #[rfl,qb rfl,rfl,trivial]) (bX (aX aP (pv 3) (sY pV ay) (λ_ _=>rfl))) (λ_ _ _=>(aQ (i:=0) (ndL ["_law_number_here"] ["_law_way_on"]) rfl (qb rfl))) (λ_ _ _=>ck) (λ_ _ _=>(a6 fF (pv 0) (a6 pG ay (a6 fF ay (pv 1))))) dE.nd rfl (qb rfl) rfl))
 bC)
 (au (bW (bf (eH hu) (pv 8) ay bj)
 (aE (cP (i:=7) (own:=["_law_good"]) (cap:=[]) (caps:=[]) rfl (scC trivial) (bX (pv 1)) (λ_ _ _=>(aQ (i:=0) (ndL ["_law_good"] []) rfl (qb rfl))) (λ_ _ _=>ck) (λ_ _ _=>ay) dE.nd rfl (qb rfl) rfl))
 bC)
 (aE (d4 (kD Ix M2 NE fQ (pv 3) (ah (pv 7) av))))))))))
 (au (bW (bf (eH hu) (aX aP (pv 2) ay (λ_ _=>rfl)) ay bj)
 (aE (mf (dg (own:=["_law_at"]) (cap:=["_law_made","_law_way_here"]) (caps:=[3,2]) rfl (scC #[rfl,qb rfl,rfl,#[rfl,qb rfl,rfl,trivial]]) (fL rfl Y (ah (bP cQ rfl U Boot.«len» (ah (pv 1) av)) av)) (λ_ _ _=>(aQ (i:=0) (ndL ["_law_at"] ["_law_made","_law_way_here"]) rfl (RD rfl))) (λ_ _ _=>ck) (λ_ _ _=>(sY pV (bP (vj rfl) rfl ab Boot.«sum» (ah (dg (own:=["_law_k"]) (cap:=["_law_at","_law_made","_law_way_here"]) (caps:=[0,1,2]) rfl (scC #[rfl,qb rfl,rfl,#[rfl,qb rfl,rfl,#[rfl,qb rfl,rfl,trivial]]]) (BD rfl Y (ah ay (ah (bP cQ rfl U Boot.«len» (ah (pv 2) av)) av))) (λ_ _ _=>(aQ (i:=0) (ndL ["_law_k"] ["_law_at","_law_made","_law_way_here"]) rfl (qb rfl))) (λ_ _ _=>ck) (λ_ _ _=>(a6 fF (aX aP (aX aP (pv 2) (pv 0) (λ_ _=>rfl)) (pv 1) (λ_ _=>rfl)) (aX aP (pv 3) (pv 0) (λ_ _=>rfl))))) av))))) (nM (pv 3) ay set_list)))
 bC)
 (aE (a9 (pv 3)))))))),
  (aC (aO (i4 aw))
 (aC (aO (ax 4))
 (aC (bU (br (aq ni (bM d6 (ai (ae 2) aw)) (ax 4)))
 (aO (aq sk (ax 10) (ax 9)))
 bD)
 (aC (dR (ix (ai (bM d6 (ai (ae 2) aw)) aw)) (aM 5)
 (aC (aO (fC (n:=1) (f:=gu) (ai (aq dj (aq aW (ae 0) (aq gH (ae 5) (bM d6 (ai (ae 0) aw)))) (aq eC (ax 700001) (aq fB (ae 5) (bM d6 (ai (ae 0) aw))))) aw)))
 (aC (aO (cf (m:=1) (caps:=[6,4]) (bY (ae 1)) (aM 0) cq (cv (n:=2) (f:=fN) (ai (ae 1) (ai (ae 2) aw)))))
 (aC (aO (cv (n:=2) (f:=aV) (ai (ae 6) (ai (ax 12) aw))))
 (aC (bU (rO (br (aq ic (ae 8) (ax 9))) (br (aq ic (ae 5) (ax 0))))
 (aO (cf (m:=1) (caps:=[8]) (bY (aq aW (ae 3) (tP pU (ax 1)))) (aM 0) cq (aq eC (ae 0) (aq qo (ax 21) (aq eC (ax 2) (ae 1))))))
 bD)
 (aC (bU (br (aq dw (ae 8) (ax 9)))
 (aO (cf (m:=1) (caps:=[]) (bY (ae 1)) (aM 0) cq (ax 0)))
 bD)
 (dY (ky (ae 3) (ae 7)))))))))
 (aC (bU (br (aq dw (aq aW (ae 2) (ax 0)) (ax 1)))
 (kA (cf (m:=1) (caps:=[3,2]) (ix (ai (bM d6 (ai (ae 1) aw)) aw)) (aM 0) cq (tP pU (bM CQ (ai (cf (m:=1) (caps:=[0,1,2]) (Fo (ai (ax 1) (ai (bM d6 (ai (ae 2) aw)) aw))) (aM 0) cq (aq eC (aq aW (aq aW (ae 2) (ae 0)) (ae 1)) (aq aW (ae 3) (ae 0)))) aw)))) (nS (ae 3) (ax 0)))
 bD)
 (ba (iD (ae 3))))))))]
theorem eh:a7 ["_law_bag_here","_law_names","_law_goods","_law_changes_here","_law_made","_law_name","_law_change","_law_uses","_law_makes","_law_good","_law_number_here","_law_more"] ["_law_bag_here","_law_names","_law_goods","_law_changes_here"] (aL rD):=cb
abbrev xk(e:Ev):Prop:=DIn e 36 "_law_works" ["_law_bag_here","_law_names","_law_goods","_law_changes_here"] nr
theorem CC(F:FA e "_law_works" rD)(ac:e.P.given.tree=na)(U:N0 e "zip")(Y:N0 e "max")(cI:jY e):xk e:=by
 exact bG F eh rfl ∅ (bd4 λ_ _ _ _ _ _ _ _ _ _=>rfl) λ_ _ _ _ _ _ _ hr hu al=>#[_,(au (aU (i:=4) eh.nd rfl (qb rfl) (eE av))
 (au (dX PassesOwn.never rfl (pK rfl U (ah (pv 1) (ah (pv 3) av))) (fZ rfl (bI (aQ (i:=5) eh.nd rfl (qb rfl)) (bI (aQ (i:=6) eh.nd rfl (qb rfl)) eX)))
 (au (aU (i:=7) eh.nd rfl (qb rfl) (eE av))
 (au (aU (i:=8) eh.nd rfl (qb rfl) (eE av))
 (au (dX PassesOwn.never rfl (pK rfl U (ah (pv 2) (ah (pv 6) av))) (fZ rfl (bI (aQ (i:=9) eh.nd rfl (qb rfl)) (bI (aQ (i:=10) eh.nd rfl (qb rfl)) eX)))
 (au (aU (i:=11) eh.nd rfl (qb rfl) ay)
 (au (bW (bf (eH hu) (aJ cI hr (ah (pv 0) (ah ay av))) ay bj)
 (aE (aU (i:=11) eh.nd rfl (qb rfl) (a6 dZ ay (aJ cI hr (ah (pv 0) (ah ay av))))))
 bC)
 (au (bW (PW.pt (pw_or (bf ny (pv 10) ay bj) (pw_or1 (bf ip (pv 11) ay bj))))
 (aE (d4 (kD Ix M2 NE fQ (pv 7) (ah (gK (ah (pv 9) (ah (a6 dZ (bP (A9 rfl) rfl Y Boot.«max» (ah (sY pV (pv 10)) (ah ay av))) (pv 11)) av))) av))))
 bC)
 (aE (bW (PW.pt (pw_or (bf ip (pv 10) ay bj) (pw_or1 (bf ip (pv 11) ay bj))))
 (aE (d4 (kD Ix M2 NE fQ (pv 8) (ah (gK (ah (pv 9) (ah (a6 dZ (bP (A9 rfl) rfl Y Boot.«max» (ah (pv 10) (ah ay av))) (pv 11)) av))) av))))
 bC))))))
 (aE (d4 (kD Ix M2 NE fQ (pv 4) (ah (gK (ah (pv 5) (ah (pv 7) (ah (pv 8) av)))) av))))))))
 (aE (a9 (pv 4))))),
  (aC (aO (i4 aw))
 (aC (dR (r9 (ai (ae 1) (ai (ae 3) aw))) (eY (bJ (aM 5) (bJ (aM 6) fe)))
 (aC (aO (i4 aw))
 (aC (aO (i4 aw))
 (aC (dR (r9 (ai (ae 2) (ai (ae 6) aw))) (eY (bJ (aM 9) (bJ (aM 10) fe)))
 (aC (aO (ax 0))
 (aC (bU (br (aq dw (cv (n:=2) (f:=aV) (ai (ae 0) (ai (ax 6) aw))) (ax 5)))
 (aO (aq dj (ax 1) (cv (n:=2) (f:=aV) (ai (ae 0) (ai (ax 5) aw)))))
 bD)
 (aC (bU (oJ (br (aq ni (ae 10) (ax 0))) (br (aq ic (ae 11) (ax 0))))
 (dY (ky (ae 7) (gE (ai (ae 9) (ai (aq dj (bM FY (ai (tP pU (ae 10)) (ai (ax 0) aw))) (ae 11)) aw)))))
 bD)
 (bU (oJ (br (aq ic (ae 10) (ax 0))) (br (aq ic (ae 11) (ax 0))))
 (dY (ky (ae 8) (gE (ai (ae 9) (ai (aq dj (bM FY (ai (ae 10) (ai (ax 0) aw))) (ae 11)) aw)))))
 bD)))))
 (dY (ky (ae 4) (gE (ai (ae 5) (ai (iD (ae 7)) (ai (iD (ae 8)) aw))))))))))
 (ba (iD (ae 4)))))]
theorem ey:a7 ["_law_script","_law_most_goods","_law_most_works","_law_bag_here","_law_goods","_law_names","_law_way_here","_law_changes_here","_law_turn"] ["_law_script","_law_most_goods","_law_most_works"] (aL rG):=cb
abbrev xu(e:Ev):Prop:=DIn e 38 "_law_parts" ["_law_script","_law_most_goods","_law_most_works"] kq
theorem D9(F:FA e "_law_parts" rG)(ac:e.P.given.tree=na)(U:N0 e "len")(qG:vR e)(Y:zm e)(xo:xn e)(cI:jY e)(Hm:Bt e)(BU:uq e)(EO:xk e):xu e:=by
 exact bG F ey rfl ∅ (bd3 λ_ _ _ _ _ _ _ _ _=>rfl) λ_ _ _ _ _ _ _ hr hu al=>#[_,(au (aU (i:=3) ey.nd rfl (qb rfl) (aJ qG hr (ah (aJ Y hr (ah (pv 0) (ah ay av))) av)))
 (au (aU (i:=4) ey.nd rfl (qb rfl) (aJ xo hr (ah (aJ Y hr (ah (pv 0) (ah ay av))) (ah (a6 dZ ay (aJ cI hr (ah (pv 3) (ah (pv 1) av)))) av))))
 (au (bW (bf (eH hu) (aJ cI hr (ah (pv 3) (ah ay av))) ay bj)
 (aE (aU (i:=4) ey.nd rfl (qb rfl) (eE av)))
 bC)
 (au (aU (i:=5) ey.nd rfl (qb rfl) (aJ xo hr (ah (aJ Y hr (ah (pv 0) (ah ay av))) (ah (a6 dZ ay (aJ cI hr (ah (pv 3) (ah (pv 2) av)))) av))))
 (au (aU (i:=6) ey.nd rfl (qb rfl) (aJ Hm hr (ah (pv 3) (ah (bP cQ rfl U Boot.«len» (ah (pv 5) av)) av))))
 (au (bW (bf (eH hu) (aJ cI hr (ah (pv 3) (ah ay av))) ay bj)
 (aE (mf ay (nM (pv 6) ay set_list)))
 bC)
 (au (aU (i:=7) ey.nd rfl (qb rfl) (aJ BU hr (ah (a6 dZ (eE (ah (aJ Y hr (ah (pv 0) (ah ay av))) av)) (fV k9 (pv 0) (gw ay) (gw ay))) (ah (pv 4) (ah (pv 6) av)))))
 (au (aU (i:=8) ey.nd rfl (qb rfl) (aJ cI hr (ah (pv 3) (ah (bP cQ rfl U Boot.«len» (ah (pv 5) av)) av))))
 (au (aU (i:=7) ey.nd rfl (qb rfl) (a6 dZ (fV k9 (pv 7) (gw (pv 8)) iq) (fV k9 (pv 7) iq (gw (pv 8)))))
 (au (aU (i:=6) ey.nd rfl (qb rfl) (a6 dZ (fV k9 (pv 6) (gw (pv 8)) iq) (fV k9 (pv 6) iq (gw (pv 8)))))
 (aE (a9 (gK (ah (pv 4) (ah (aJ EO hr (ah (aJ qG hr (ah (a6 (gC al ac #[_,_,rfl,rfl,rfl,rfl,rfl]) (aJ Y hr (ah (pv 0) (ah ay av))) ay) av)) (ah (pv 5) (ah (pv 4) (ah (pv 7) av))))) (ah (pv 7) (ah (pv 6) av))))))))))))))))),
  (aC (aO (fC (n:=1) (f:=gu) (ai (bg (n:=2) (f:=dv) (ai (ae 0) (ai (ax 2) aw))) aw)))
 (aC (aO (bg (n:=2) (f:=g8) (ai (bg (n:=2) (f:=dv) (ai (ae 0) (ai (ax 0) aw))) (ai (aq dj (ax 1) (cv (n:=2) (f:=aV) (ai (ae 3) (ai (ae 1) aw)))) aw))))
 (aC (bU (br (aq dw (cv (n:=2) (f:=aV) (ai (ae 3) (ai (ax 12) aw))) (ax 11)))
 (aO (nZ aw))
 bD)
 (aC (aO (bg (n:=2) (f:=g8) (ai (bg (n:=2) (f:=dv) (ai (ae 0) (ai (ax 1) aw))) (ai (aq dj (ax 1) (cv (n:=2) (f:=aV) (ai (ae 3) (ai (ae 2) aw)))) aw))))
 (aC (aO (cv (n:=2) (f:=qs) (ai (ae 3) (ai (bM d6 (ai (ae 5) aw)) aw))))
 (aC (bU (br (aq dw (cv (n:=2) (f:=aV) (ai (ae 3) (ai (ax 4) aw))) (ax 3)))
 (kA (ax 0) (nS (ae 6) (ax 0)))
 bD)
 (aC (aO (cv (n:=3) (f:=iW) (ai (aq dj (nZ (ai (bg (n:=2) (f:=dv) (ai (ae 0) (ai (ax 3) aw))) aw)) (uk (ae 0) (gB (ax 4)) (gB (ax 12)))) (ai (ae 4) (ai (ae 6) aw)))))
 (aC (aO (cv (n:=2) (f:=aV) (ai (ae 3) (ai (bM d6 (ai (ae 5) aw)) aw))))
 (aC (aO (aq dj (uk (ae 7) (gB (ae 8)) fP) (uk (ae 7) fP (gB (ae 8)))))
 (aC (aO (aq dj (uk (ae 6) (gB (ae 8)) fP) (uk (ae 6) fP (gB (ae 8)))))
 (ba (gE (ai (ae 4) (ai (cv (n:=4) (f:=nr) (ai (fC (n:=1) (f:=gu) (ai (aq fB (bg (n:=2) (f:=dv) (ai (ae 0) (ai (ax 3) aw))) (ax 5)) aw)) (ai (ae 5) (ai (ae 4) (ai (ae 7) aw))))) (ai (ae 7) (ai (Mb (ae 6)) aw))))))))))))))))]
theorem wU:a7 ["_law_near","_law_far","_law_still_one","_law_still_other","_law_told"] ["_law_near","_law_far","_law_still_one","_law_still_other"] (aL t9):=cb
abbrev yJ(e:Ev):Prop:=DIn e 35 "_law_pair" ["_law_near","_law_far","_law_still_one","_law_still_other"] jZ
theorem EB(F:FA e "_law_pair" t9)(U:e.P.given.tree=na):yJ e:=by
 exact bG F wU rfl ∅ (bd4 λ_ _ _ _ _ _ _ _ _ _=>rfl) λ_ _ _ _ _ _ _ hr hu Y=>#[_,(au (bW (PW.pt (pw_or (bf (xF hu) (eZ (eH hu) (aX aP (pv 0) ay (λ_ _=>rfl)) dM bj) (pJ (pv 2) (vU (pv 3))) bj) (pw_or1 (bf (xF hu) (eZ (eH hu) (aX aP (pv 1) ay (λ_ _=>rfl)) dM bj) (eZ (eH hu) (aX aP (pv 0) ay (λ_ _=>rfl)) dM bj) bj))))
 (aE (a9 sr))
 bC)
 (au (bW (bf (eH hu) (aX aP (pv 0) ay (λ_ _=>rfl)) dM bj)
 (aE (a9 sr))
 bC)
 (au (bW (lS (pv 3))
 (aE (a9 (pJ (eZ (eH hu) (aX aP (pv 0) ay (λ_ _=>rfl)) dM bj) (pJ (eZ (eH hu) (aX aP (pv 1) ay (λ_ _=>rfl)) dM bj) (vU (eZ (eH hu) (aX aP (pv 1) ay (λ_ _=>rfl)) (gK (ah ay (ah ay av))) bj))))))
 bC)
 (au (bW (lS (pv 2))
 (aE (a9 (pJ (eZ (eH hu) (aX aP (pv 1) ay (λ_ _=>rfl)) dM bj) (pJ (eZ (eH hu) (aX aP (pv 0) ay (λ_ _=>rfl)) dM bj) (vU (eZ (eH hu) (aX aP (pv 0) ay (λ_ _=>rfl)) (gK (ah ay (ah ay av))) bj))))))
 bC)
 (au (dX PassesOwn.never rfl (bX (eE (ah (pv 0) (ah (pv 1) av)))) (aQ (i:=4) wU.nd rfl (qb rfl))
 (aE (bW (PW.pt (pw_and (bf (eH hu) (aX aP (pv 4) ay (λ_ _=>rfl)) dM bj) (pw_and1 (bf ny (aX aP (aX aP (pv 4) ay (λ_ _=>rfl)) ay (λ_ _=>rfl)) ay bj))))
 (aE (a9 sr))
 bC)))
 (au (bW (PW.pt (pw_or (bf (eH hu) (aX aP (pv 0) ay (λ_ _=>rfl)) dM bj) (pw_or1 (bf (eH hu) (aX aP (pv 1) ay (λ_ _=>rfl)) dM bj))))
 (aE (a9 (pJ (eZ jF (aX aP (pv 0) ay (λ_ _=>rfl)) (eE (ah dM (ah dM av))) (by with_unfolding_all rfl)) (vU (eZ jF (aX aP (pv 1) ay (λ_ _=>rfl)) (eE (ah dM (ah dM av))) (by with_unfolding_all rfl))))))
 bC)
 (aE (a9 (eZ OT (a6 fF (aX aP (aX aP (pv 0) ay (λ_ _=>rfl)) ay (λ_ _=>rfl)) (aX aP (aX aP (pv 1) ay (λ_ _=>rfl)) ay (λ_ _=>rfl))) (a6 fF (aX aP (aX aP (pv 0) ay (λ_ _=>rfl)) ay (λ_ _=>rfl)) (aX aP (aX aP (pv 1) ay (λ_ _=>rfl)) ay (λ_ _=>rfl))) bj))))))))),
  (aC (bU (oJ (br (aq tI (aq dw (aq aW (ae 0) (ax 0)) (dN ("never" :Str))) (m8 (ae 2) (ae 3)))) (br (aq tI (aq dw (aq aW (ae 1) (ax 0)) (dN ("never" :Str))) (aq dw (aq aW (ae 0) (ax 0)) (dN ("never" :Str))))))
 (ba (tZ tt))
 bD)
 (aC (bU (br (aq dw (aq aW (ae 0) (ax 0)) (dN ("never" :Str))))
 (ba (tZ on))
 bD)
 (aC (bU (oH (ae 3))
 (ba (m8 (aq dw (aq aW (ae 0) (ax 0)) (dN ("free" :Str))) (m8 (aq dw (aq aW (ae 1) (ax 0)) (dN ("most" :Str))) (aq dw (aq aW (ae 1) (ax 1)) (gE (ai (ax 0) (ai (ax 1) aw)))))))
 bD)
 (aC (bU (oH (ae 2))
 (ba (m8 (aq dw (aq aW (ae 1) (ax 0)) (dN ("free" :Str))) (m8 (aq dw (aq aW (ae 0) (ax 0)) (dN ("most" :Str))) (aq dw (aq aW (ae 0) (ax 1)) (gE (ai (ax 0) (ai (ax 1) aw)))))))
 bD)
 (aC (dR (bY (nZ (ai (ae 0) (ai (ae 1) aw)))) (aM 4)
 (bU (rO (br (aq dw (aq aW (ae 4) (ax 0)) (dN ("most" :Str)))) (br (aq ni (aq aW (aq aW (ae 4) (ax 1)) (ax 0)) (ax 1))))
 (ba (tZ tt))
 bD))
 (aC (bU (oJ (br (aq dw (aq aW (ae 0) (ax 0)) (dN ("free" :Str)))) (br (aq dw (aq aW (ae 1) (ax 0)) (dN ("free" :Str)))))
 (ba (m8 (aq sA (aq aW (ae 0) (ax 0)) (nZ (ai (dN ("free" :Str)) (ai (dN ("most" :Str)) aw)))) (aq sA (aq aW (ae 1) (ax 0)) (nZ (ai (dN ("free" :Str)) (ai (dN ("most" :Str)) aw))))))
 bD)
 (ba (aq OV (aq eC (aq aW (aq aW (ae 0) (ax 1)) (ax 0)) (aq aW (aq aW (ae 1) (ax 1)) (ax 0))) (aq eC (aq aW (aq aW (ae 0) (ax 1)) (ax 1)) (aq aW (aq aW (ae 1) (ax 1)) (ax 1)))))))))))]
theorem ir:a7 ["_law_script","_law_goods","_law_works_here","_law_changes_here","_law_way_here","_law_yard","_law_quiet","_law_names","_law_at","_law_own","_law_k","_law_near","_law_far"] ["_law_script"] (aL oC):=cb
theorem Ox{a:pc}(F:Fun e.K "law" "law" oC a fd)(hm:e.mg "law" =lH (.ref a))(az:e.P.given.tree=na)(ap:N0 e "len")(al:N0 e "range")(EA:xu e)(U:xa e)(N2:Hy e)(DL:HM e)(GP:yJ e):LG e.P e.w e.K e.mg e.base e.ca 45 "law" ["_law_script"] Cc a fd:=by
 obtain⟨an,am,Y,ab,ko,ac⟩:=U;refine#[rT F ir rfl λa3 A outer s H E hr=> ?_,hm,F.kp,F.binds λ_ _ _ _ _ _ us hl=>match us,hl with | [_],_=>rfl];have hu:=hr.units;have a5:=wy hr ∅;exact#[_,(au (mf (aJ EA hr (ah (pv 0) (ah ay (ah ay av)))) (fZ rfl (bI (aQ (i:=1) ir.nd rfl (qb rfl)) (bI (aQ (i:=2) ir.nd rfl (qb rfl)) (bI (aQ (i:=3) ir.nd rfl (qb rfl)) (bI (aQ (i:=4) ir.nd rfl (qb rfl)) eX))))))
 (au (aU (i:=5) ir.nd rfl (qb rfl) (L3 ab Y (hr.mono ∅) rfl ko ac .nil oS (ah (pv 1) (ah (pv 2) av))))
 (au (aU (i:=6) ir.nd rfl (qb rfl) (aJ N2 hr (ah (pv 5) av)))
 (au (cP (i:=7) (own:=["_law_told"]) (cap:=[]) (caps:=[]) rfl (scC trivial) (bX (pv 2)) (λ_ _ _=>(aQ (i:=0) (ndL ["_law_told"] []) rfl (qb rfl))) (λ_ _ _=>ck) (λ_ _ _=>(aX aP (pv 0) ay (λ_ _=>rfl))) ir.nd rfl (qb rfl) rfl)
 (au (dX PassesOwn.never rfl (fL rfl al (ah (bP cQ rfl ap Boot.«len» (ah (pv 7) av)) av)) (aQ (i:=8) ir.nd rfl (qb rfl))
 (au (aU (i:=9) ir.nd rfl (qb rfl) (aJ DL hr (ah (pv 5) (ah (aX aP (pv 7) (pv 8) (λ_ _=>rfl)) (ah (aX aP (pv 7) (pv 8) (λ_ _=>rfl)) av)))))
 (au (bW (PW.pt (pw_or (PW.pt (pw_and (bf jF (aX aP (pv 7) (pv 8) (λ_ _=>rfl)) (pv 6) (by with_unfolding_all rfl)) (pw_and1 (bf (xF hu) (aX aP (pv 9) ay (λ_ _=>rfl)) dM bj)))) (pw_or1 (PW.pt (pw_and (bf mC (aX aP (pv 7) (pv 8) (λ_ _=>rfl)) (pv 6) (by with_unfolding_all rfl)) (pw_and1 (bf (xF hu) (fV NJ (pv 9) iq (gw ay)) (gK (ah dM (ah (gK (ah ay (ah ay av))) av))) bj)))))))
 (aE (a9 sr))
 bC)
 (aE (dX PassesOwn.never rfl (fL rfl al (ah (pv 8) av)) (aQ (i:=10) ir.nd rfl (qb rfl))
 (au (aU (i:=11) ir.nd rfl (qb rfl) (aJ DL hr (ah (pv 5) (ah (aX aP (pv 7) (pv 8) (λ_ _=>rfl)) (ah (aX aP (pv 7) (pv 10) (λ_ _=>rfl)) av)))))
 (au (aU (i:=12) ir.nd rfl (qb rfl) (aJ DL hr (ah (pv 5) (ah (aX aP (pv 7) (pv 10) (λ_ _=>rfl)) (ah (aX aP (pv 7) (pv 8) (λ_ _=>rfl)) av)))))
 (aE (bW (qc (lS (aJ GP hr (ah (pv 11) (ah (pv 12) (ah (eZ jF (aX aP (pv 7) (pv 8) (λ_ _=>rfl)) (pv 6) (by with_unfolding_all rfl)) (ah (eZ jF (aX aP (pv 7) (pv 10) (λ_ _=>rfl)) (pv 6) (by with_unfolding_all rfl)) av)))))))
 (aE (a9 sr))
 bC)))))))))
 (aE (a9 sr))))))),
  (aC (kA (bg (n:=3) (f:=kq) (ai (ae 0) (ai (ax 3) (ai (ax 4) aw)))) (eY (bJ (aM 1) (bJ (aM 2) (bJ (aM 3) (bJ (aM 4) fe))))))
 (aC (aO (MO (c:=0) (n:=2) (f:=ki) (ai (ae 1) (ai (ae 2) aw))))
 (aC (aO (iD (fC (n:=1) (f:=rW) (ai (ae 5) aw))))
 (aC (aO (cf (m:=1) (caps:=[]) (bY (ae 2)) (aM 0) cq (aq aW (ae 0) (ax 0))))
 (aC (dR (ix (ai (bM d6 (ai (ae 7) aw)) aw)) (aM 8)
 (aC (aO (fC (n:=3) (f:=mE) (ai (ae 5) (ai (aq aW (ae 7) (ae 8)) (ai (aq aW (ae 7) (ae 8)) aw)))))
 (aC (bU (oJ (rO (br (aq sA (aq aW (ae 7) (ae 8)) (ae 6))) (br (aq tI (aq aW (ae 9) (ax 0)) (dN ("never" :Str))))) (rO (br (aq sX (aq aW (ae 7) (ae 8)) (ae 6))) (br (aq tI (Nv (ae 9) fP (gB (ax 2))) (gE (ai (dN ("most" :Str)) (ai (gE (ai (ax 1) (ai (ax 1) aw))) aw)))))))
 (ba (tZ tt))
 bD)
 (dR (ix (ai (ae 8) aw)) (aM 10)
 (aC (aO (fC (n:=3) (f:=mE) (ai (ae 5) (ai (aq aW (ae 7) (ae 8)) (ai (aq aW (ae 7) (ae 10)) aw)))))
 (aC (aO (fC (n:=3) (f:=mE) (ai (ae 5) (ai (aq aW (ae 7) (ae 10)) (ai (aq aW (ae 7) (ae 8)) aw)))))
 (bU (pT (oH (cv (n:=4) (f:=jZ) (ai (ae 11) (ai (ae 12) (ai (aq sA (aq aW (ae 7) (ae 8)) (ae 6)) (ai (aq sA (aq aW (ae 7) (ae 10)) (ae 6)) aw)))))))
 (ba (tZ tt))
 bD)))))))
 (ba (tZ on)))))))]
end
theorem Ac(ns:List Int)(k:Nat):∃c,dv [vI ns,.int (k:Int)] []=.ok (.int c,[])/\(k<ns.length->c=nth ns k):=by by_cases h:k<ns.length;refine#[nth ns k,b9 (s:=#[[lH (vI ns),lH (.int (k:Int))],[]]) ?_,λ_=>rfl];have hk:((k:Int)<(ns.length:Int)):=⋯;simp[t7,hk,jo h];refine#[0,b9 (s:=#[[lH (vI ns),lH (.int (k:Int))],[]]) ?_,λz=>absurd z h];have hk:¬((k:Int)<(ns.length:Int)):=⋯;simp[t7,hk]
theorem C2(z:Int):∃a c,gu [.int z] []=.ok (.ptr 0,[.lst [.int a,.int c]]):=by refine#[z/2%10^60*(z%2),z/2%2147483647,b9 (s:=#[[lH (.int z)],[.lst [.int (z/2%10^60*(z%2)),.int (z/2%2147483647)]]]) ?_];have hm:RF (z/2%1000000000000000000000000000000000000000000000000000000000000) (z%2):=gk (.inr ⋯);simp[AI,ib,fu,mO,cV hm]
theorem oX{a c m:Int}(hk:O[k]? =lH (.lst [.int a,.int c]))(hm:0<m):∃r a' U,aV [.ptr k,.int m] O=.ok (.int r,O.set k (.lst [.int a',.int U]))/\0<=r/\r<m:=by
 have h0:ixD O (.ptr k) (.int 0)=.ok (.int a):=p6 hk rfl;have h1:ixD O (.ptr k) (.int 1)=.ok (.int c):=p6 hk rfl;by_cases h:0<a;refine#[a%m,a/m,c,b9 (s:=#[[lH (.ptr k),lH (.int m),lH (.int (a%m))],O.set k (.lst [.int (a/m),.int c])]) ?_,Sg _ ⋯,Sa _ hm];have e1:=dD (i:=2) (m:=ak gh (ak ixD (aa 0) (ao (.int 0))) (aa 1)) (s:=#[[lH (.ptr k),lH (.int m),na],O]) (s':=#[[lH (.ptr k),lH (.int m),na],O]) (d:=.int (a%m)) (by simp[h0,fu hm]);have e2:gi (ak d3 (ak ixD (aa 0) (ao (.int 0))) (aa 1)) (jk (aa 0) (ao (.int 0))) #[[lH (.ptr k),lH (.int m),lH (.int (a%m))],O]=.next #[[lH (.ptr k),lH (.int m),lH (.int (a%m))],O.set k (.lst [.int (a/m),.int c])]:=by rw[rK,show ak d3 (ak ixD (aa 0) (ao (.int 0))) (aa 1) #[[lH (.ptr k),lH (.int m),lH (.int (a%m))],O]=.ok (.int (a/m),#[[lH (.ptr k),lH (.int m),lH (.int (a%m))],O]) by simp[h0,lD (show m≠0 by omega),pk hm],aj];rw[kN (k:=k) (a:=0) (ds:=[.int a,.int c]) (ag rfl) rfl hk (by simp)];rfl
 show lO #[[lH (.ptr k),lH (.int m),na],O]=_;rw[lO];refine d7 (wp (oU (s':=#[[lH (.ptr k),lH (.int m),na],O]) (by simp[h0,h])) ?_);rw[bE e1];refine wp (bE e2) ?_;exact bt (ag rfl);generalize Y:(c*48271+4099)%2147483647=U;have ap:0<=U:=by rw[<- Y];exact Sg _ ∅
 have as:U<2147483647:=by rw[<- Y];exact Sa _ ∅
 generalize hO:O.set k (.lst [.int a,.int U])=O';have ac:O'[k]? =lH (.lst [.int a,.int U]):=by rw[<- hO];exact df hk
 have al:ixD O' (.ptr k) (.int 1)=.ok (.int U):=p6 ac rfl;refine#[U*(U/65536+7)%2147483629/32%m,a,U, ?_,Sg _ ⋯,Sa _ hm];rw[hO];refine b9 (s:=#[[lH (.ptr k),lH (.int m),na],O']) ?_;have e2:gi (ak gh (ak cx (ak cT (ak ixD (aa 0) (ao (.int 1))) (ao (.int 48271))) (ao (.int 4099))) (ao (.int 2147483647))) (jk (aa 0) (ao (.int 1))) #[[lH (.ptr k),lH (.int m),na],O]=.next #[[lH (.ptr k),lH (.int m),na],O']:=by
  rw[rK,show ak gh (ak cx (ak cT (ak ixD (aa 0) (ao (.int 1))) (ao (.int 48271))) (ao (.int 4099))) (ao (.int 2147483647)) #[[lH (.ptr k),lH (.int m),na],O]=.ok (.int U,#[[lH (.ptr k),lH (.int m),na],O]) by rw[<- Y];simp[h1,cV (gk (i:=c) (j:=48271) (.inr ∅)),fu],aj]
  rw[kN (k:=k) (a:=1) (ds:=[.int a,.int c]) (ag rfl) rfl hk (by simp),<- hO];rfl
 show lO #[[lH (.ptr k),lH (.int m),na],O]=_;rw[lO];refine wp (bE (s':=#[[lH (.ptr k),lH (.int m),na],O]) (wp (iM (s':=#[[lH (.ptr k),lH (.int m),na],O]) (by simp[h0,h])) rfl)) ?_;refine wp (bE e2) ?_;refine bt ?_;have am:RF U (U/65536+7):=gk (.inl ⋯);simp[al,ib,cV am,fu,fu hm]
theorem Hs{a c wide:Int}(hk:O[k]? =lH (.lst [.int a,.int c]))(hw:0<wide)(b1:wide<=1000000000):∃r a' c',fN [.ptr k,.int wide] O=.ok (.int r,O.set k (.lst [.int a',.int c']))/\Sz 31 r:=by
 obtain⟨w,a1,c1,e1,w0,w1⟩:=oX hk (m:=6) ∅;have k1:(O.set k (.lst [.int a1,.int c1]))[k]? =lH (.lst [.int a1,.int c1]):=df hk;have s1:=dD (i:=2) (m:=bQ 2 aV (af (aa 0) (af (ao (.int 6)) ar))) (s:=#[[lH (.ptr k),lH (.int wide),na],O]) (jQ (n:=2) (ds:=[.ptr k,.int 6]) (s':=#[[lH (.ptr k),lH (.int wide),na],O]) (by simp) rfl e1);generalize ac:O.set k (.lst [.int a1,.int c1])=O1 at *;have ab:∀x y:Int,O1.set k (.lst [.int x,.int y])=O.set k (.lst [.int x,.int y]):=λx y=>by rw[<- ac,UZ]
 have be:∀T,fO=T->fN=runM 3 T:=λT h=>by rw[fN,h]
 by_cases h4:w=4;refine#[0,a1,c1, ?_,Sz.zero 31];rw[ac];refine b9 (s:=#[[lH (.ptr k),lH (.int wide),lH (.int w)],O1]) ?_;show fO #[[lH (.ptr k),lH (.int wide),na],O]=_;rw[fO,bE s1];exact d7 (wp (oU (s':=#[[lH (.ptr k),lH (.int wide),lH (.int w)],O1]) (by simp[h4])) rfl);have f4:ifS (aS (ak eqD (aa 2) (ao (.int 4)))) (bx (ao (.int 0))) bB #[[lH (.ptr k),lH (.int wide),lH (.int w)],O1]=.next #[[lH (.ptr k),lH (.int wide),lH (.int w)],O1]:=wp (iM (s':=#[[lH (.ptr k),lH (.int wide),lH (.int w)],O1]) (by simp[h4])) rfl
 by_cases h5:w=5;obtain⟨r2,U,Y,e2,p2,q2⟩:=oX k1 (m:=1000) ∅;have k2:(O1.set k (.lst [.int U,.int Y]))[k]? =lH (.lst [.int U,.int Y]):=df k1;rw[ab] at e2 k2;obtain⟨r3,a3,c3,e3,p3,q3⟩:=oX k2 (m:=1000000) ∅;have k3:((O.set k (.lst [.int U,.int Y])).set k (.lst [.int a3,.int c3]))[k]? =lH (.lst [.int a3,.int c3]):=df k2;rw[UZ] at e3 k3;obtain⟨r4,a4,c4,e4,p4,q4⟩:=oX k3 (m:=9) ∅;rw[UZ] at e4;refine#[(r2*1000000+r3)%wide-r4,a4,c4, ?_, ?_];refine b9 (s:=#[[lH (.ptr k),lH (.int wide),lH (.int w)],O.set k (.lst [.int a4,.int c4])]) ?_;show fO #[[lH (.ptr k),lH (.int wide),na],O]=_;rw[fO,bE s1];refine wp (bE f4) (d7 (wp (oU (s':=#[[lH (.ptr k),lH (.int wide),lH (.int w)],O1]) (by simp[h5])) ?_));refine bt ?_;have t2:=jQ (n:=2) (f:=aV) (ma:=af (aa 0) (af (ao (.int 1000)) ar)) (s:=#[[lH (.ptr k),lH (.int wide),lH (.int w)],O1]) (s':=#[[lH (.ptr k),lH (.int wide),lH (.int w)],O1]) (ds:=[.ptr k,.int 1000]) (by simp) rfl e2;have t3:=jQ (n:=2) (f:=aV) (ma:=af (aa 0) (af (ak jD (ao (.int 10)) (ao (.int 6))) ar)) (s:=#[[lH (.ptr k),lH (.int wide),lH (.int w)],O.set k (.lst [.int U,.int Y])]) (s':=#[[lH (.ptr k),lH (.int wide),lH (.int w)],O.set k (.lst [.int U,.int Y])]) (ds:=[.ptr k,.int 1000000]) (by simp[mO]) rfl e3;have t4:=jQ (n:=2) (f:=aV) (ma:=af (aa 0) (af (ao (.int 9)) ar)) (s:=#[[lH (.ptr k),lH (.int wide),lH (.int w)],O.set k (.lst [.int a3,.int c3])]) (s':=#[[lH (.ptr k),lH (.int wide),lH (.int w)],O.set k (.lst [.int a3,.int c3])]) (ds:=[.ptr k,.int 9]) (by simp) rfl e4;have bb:RF r2 1000000:=gk (.inr ∅);have u1:ak cT (bQ 2 aV (af (aa 0) (af (ao (.int 1000)) ar))) (ak jD (ao (.int 10)) (ao (.int 6))) #[[lH (.ptr k),lH (.int wide),lH (.int w)],O1]=.ok (.int (r2*1000000),#[[lH (.ptr k),lH (.int wide),lH (.int w)],O.set k (.lst [.int U,.int Y])]):=by rw[cL,t2,aj];simp[mO,cV bb]
 have u2:ak cx (ak cT (bQ 2 aV (af (aa 0) (af (ao (.int 1000)) ar))) (ak jD (ao (.int 10)) (ao (.int 6)))) (bQ 2 aV (af (aa 0) (af (ak jD (ao (.int 10)) (ao (.int 6))) ar))) #[[lH (.ptr k),lH (.int wide),lH (.int w)],O1]=.ok (.int (r2*1000000+r3),#[[lH (.ptr k),lH (.int wide),lH (.int w)],O.set k (.lst [.int a3,.int c3])]):=by rw[cL,u1,aj];dsimp only;rw[t3,aj];rfl
 rw[cL,cL,u2,aj];dsimp only;rw[ag (i:=1) rfl,aj];dsimp only;rw[fu hw,aj,aj];dsimp only;rw[t4,aj];rfl;unfold Sz;have g1:0<=(r2*1000000+r3)%wide:=Sg _ ⋯;have g2:(r2*1000000+r3)%wide<wide:=Sa _ hw;have:(2:Nat)^31=2147483648:=∅;omega;have f5:ifS (aS (ak eqD (aa 2) (ao (.int 5)))) (bx (ak kY (ak gh (ak cx (ak cT (bQ 2 aV (af (aa 0) (af (ao (.int 1000)) ar))) (ak jD (ao (.int 10)) (ao (.int 6)))) (bQ 2 aV (af (aa 0) (af (ak jD (ao (.int 10)) (ao (.int 6))) ar)))) (aa 1)) (bQ 2 aV (af (aa 0) (af (ao (.int 9)) ar))))) bB #[[lH (.ptr k),lH (.int wide),lH (.int w)],O1]=.next #[[lH (.ptr k),lH (.int wide),lH (.int w)],O1]:=wp (iM (s':=#[[lH (.ptr k),lH (.int wide),lH (.int w)],O1]) (by simp[h5])) rfl
 obtain⟨r2,U,Y,e2,p2,q2⟩:=oX k1 (m:=7) ∅;rw[ab] at e2;refine#[r2-3,U,Y, ?_, ?_];refine b9 (s:=#[[lH (.ptr k),lH (.int wide),lH (.int w)],O.set k (.lst [.int U,.int Y])]) ?_;show fO #[[lH (.ptr k),lH (.int wide),na],O]=_;rw[fO,bE s1];refine wp (bE f4) (wp (bE f5) (bt ?_));have t2:=jQ (n:=2) (f:=aV) (ma:=af (aa 0) (af (ao (.int 7)) ar)) (s:=#[[lH (.ptr k),lH (.int wide),lH (.int w)],O1]) (s':=#[[lH (.ptr k),lH (.int wide),lH (.int w)],O1]) (ds:=[.ptr k,.int 7]) (by simp) rfl e2;rw[cL,t2,aj];rfl;unfold Sz;have:(2:Nat)^31=2147483648:=∅;omega
def cG(O:aA)(j:Nat):Prop:=∃a c:Int,O[j]? =lH (.lst [.int a,.int c])
theorem J5(h:cG O j)(hm:0<m):∃r O',aV [.ptr j,.int m] O=.ok (.int r,O')/\0<=r/\r<m/\cG O' j/\∀i,i≠j->O'[i]? =O[i]? :=by obtain⟨a,c,h⟩:=h;obtain⟨r,U,Y,e,h1,h2⟩:=oX h hm;exact#[r,_,e,h1,h2,#[U,Y,df h],λi hi=>de λz=>hi z.symm]
theorem G9{wide:Int}(h:cG O j)(Y:0<wide)(U:wide<=1000000000):∃r O',fN [.ptr j,.int wide] O=.ok (.int r,O')/\Sz 31 r/\cG O' j/\∀i,i≠j->O'[i]? =O[i]? :=by obtain⟨a,c,h⟩:=h;obtain⟨r,a',c',e,h1⟩:=Hs h Y U;exact#[r,_,e,h1,#[a',c',df h],λi hi=>de λz=>hi z.symm]
def azB(x:Str):Bool:= !decide (x.cps.toList<("a" :Str).cps.toList)&& !decide (("z" :Str).cps.toList<x.cps.toList)
theorem Cy{i j:Str}:tX O (.str i) (.str j)=.ok (.bl (!decide (j.cps.toList<i.cps.toList))):=rfl
theorem N8{x:Str}(h:s.r[i]? =lH (lH (.str x))):vQ tX tX (ao (.str ("a" :Str))) (aa i) (ao (.str ("z" :Str))) s=.ok (.bl (azB x),s):=by
 rw[Hi,aF,aj,ag h,aj];dsimp only;rw[Cy,aj];unfold azB;cases (!decide (x.cps.toList<("a" :Str).cps.toList)) with
 | false=>rfl
 | true=>
  dsimp only;rw[aF,aj];dsimp only;rw[Cy,aj];rfl
def nmB(z:Str):Bool:=decide (1<=z.length)&&decide (z.length<=8)&&z.cps.toList.all λc=>azB #[#v[c]]
theorem len_list:z.cps.toList.length=z.length:=by unfold Str.length;simp
theorem Hq(h:z.length<=1000000):nW [.str z] []=.ok (.bl (nmB z),[]):=by
 have U:bN cF (af (aa 0) ar) #[[lH (.str z)],[]]=.ok (.int (z.length:Int),#[[lH (.str z)],[]]):=by rw[i5,aZ,ag (i:=0) rfl,aj,aI,aj,aj];dsimp only;rw[Kj (lu h),aj]
 have Y:orT (aS (ak ltD (bN cF (af (aa 0) ar)) (ao (.int 1)))) (aS (ak gtD (bN cF (af (aa 0) ar)) (ao (.int 8)))) #[[lH (.str z)],[]]=.ok (decide ((z.length:Int)<1)||decide ((8:Int)<(z.length:Int)),#[[lH (.str z)],[]]):=by rw[r8,iu,cL,U,aj,aF,aj];dsimp only;rw[k6,aj,aj];dsimp only;rw[aj];dsimp only;rw[gv U];cases decide ((z.length:Int)<1) <;> rfl
 have hc:=dS (l:=z.cps.toList) (item:=λc=>.str #[#v[c]]) (out:=λc=>.bl (azB #[#v[c]])) (caps:=[]) (im:=Cn (aa 0)) (e:=vQ tX tX (ao (.str ("a" :Str))) (aa 0) (ao (.str ("z" :Str)))) (k:=na) (s:=#[[lH (.str z)],[]]) (by rw[Fe,ag (i:=0) rfl,aj];rfl) trivial (by rw[len_list];exact lu h) (λc _=>N8 rfl)
 rw[show z.cps.toList.map (λc=>D.bl (azB #[#v[c]]))=(z.cps.toList.map λc=>azB #[#v[c]]).map D.bl by rw[wh];rfl] at hc;refine b9 (s:=#[[lH (.str z)],[]]) ?_;show vx #[[lH (.str z)],[]]=_;rw[vx];by_cases h1:z.length<1\/8<z.length;rw[show nmB z=tt by
  unfold nmB;rcases h1 with q | q
  rw[decide_eq_false (by omega:¬1<=z.length),S0,S0];rw[decide_eq_false (by omega:¬z.length<=8),Tl,S0]]
 refine d7 (wp (oU (s':=#[[lH (.str z)],[]]) ?_) (bt (aF _)));rw[Y];rcases h1 with q | q
 rw[decide_eq_true (show (z.length:Int)<1 by omega),VP];rw[decide_eq_true (show (8:Int)<(z.length:Int) by omega),VT];refine wp (bE (wp (iM (s':=#[[lH (.str z)],[]]) ?_) rfl)) (bt ?_);rw[Y,decide_eq_false (show ¬(z.length:Int)<1 by omega),decide_eq_false (show ¬(8:Int)<(z.length:Int) by omega),T9];rw[i5,aZ,hc,aj,aI,aj,aj];dsimp only;rw[Lb,aj];unfold nmB;rw[decide_eq_true (by omega:1<=z.length),decide_eq_true (by omega:z.length<=8),Ts,Ts,Uk];rfl
abbrev ABC:Str:="abcdefghijklmnopqrstuvwxyz"
theorem HE:sg ABC=(tz 26).map (97 + ·):=∅
def mkS(l:List Nat):Str:=#[l.toArray]
theorem gg{l:List Nat}:sg (mkS l)=l:=by simp[sg,mkS]
theorem gL(l:List Nat):(mkS l).length=l.length:=by rw[<- yN,gg]
def azL(l:List Nat):Prop:=∀c∈l,97<=c/\c<=122
theorem MV:azB #[#v[c]]=(decide (97<=c)&&decide (c<=122)):=by unfold azB;rw[show ("a" :Str).cps.toList=[97] by decide,show ("z" :Str).cps.toList=[122] by decide];show (!decide ([c] < [97])&& !decide ([122] < [c]))=_;rw[StrLaws.lt_cons_cons,StrLaws.lt_cons_cons,StrLaws.lt_nil_nil,Tl,T9,Tl,T9];congr 1;rw[Rn];simp;rw[Rn];simp
structure qq(z:Str):Prop where
 lo:1<=z.length
 hi:z.length<=8
 az:azL (sg z)
theorem qq.nm(h:qq z):nmB z=true:=by unfold nmB;rw[decide_eq_true h.lo,decide_eq_true h.hi,Ts,Ts,S4];intro c hc;have:=h.az c hc;rw[MV,decide_eq_true this.1,decide_eq_true this.2];rfl
theorem NQ{i:Int}(h0:0<=i)(h1:i<26):ixD O (.str ABC) (.int i)=.ok (.str (mkS [97+i.toNat])):=by
 have U:i.toNat<ABC.cps.toList.length:=by rw[show ABC.cps.toList.length=26 by decide];omega
 have ha:=eU U;rw[show ((i.toNat:Nat):Int)=i by omega] at ha;have Y:ABC.cps.toList[i.toNat]=97+i.toNat:=by have:=HE;rw[List.getElem_of_eq this];simp
 rw[Y] at ha;show (if ABC.length<=16777216 then (match atI ABC.cps.toList i with
  | some c=>Res.ok (D.str #[#v[c]])
  | none=>.bad) else .bad)=_
 rw[if_pos ∅,ha];rfl
theorem kB{pre rest:List D}(h:(tz n).map (λ(i:Nat)=>D.int (i:Int))=pre++d::rest):d=.int (pre.length:Int)/\pre.length<n:=by
 have h1:((tz n).map (λ(i:Nat)=>D.int (i:Int)))[pre.length]? =lH d:=by rw[h];simp
 have h2:pre.length<n:=by have:=congrArg S7 h;simp at this;omega
 rw[wP,R5 h2] at h1;exact#[by simpa using h1.symm,h2]
abbrev sD(l:List Str):D:=.lst (l.map D.str)
theorem uI{a b:Str}(h:a.length+b.length<=1000000):cx O (.str a) (.str b)=.ok (.str (a++b)):=if_pos (lu h)
abbrev pD(p:Str×Int):D:=.tup [.str p.1,.int p.2]
abbrev psD(l:List (Str×Int)):D:=.lst (l.map pD)
structure Wk where
 nm:Str
 us:List (Str×Int)
 ms:List (Str×Int)
abbrev wD(w:Wk):D:=.tup [.str w.nm,psD w.us,psD w.ms]
abbrev wsD(l:List Wk):D:=.lst (l.map wD)
@[simp] theorem dU {l:List Str}:aR (l.map D.str)=true:=by
 induction l with
 | nil=>rfl
 | cons a l U=>simp[aR,cO,U]
@[simp] theorem gX:aR (l.map pD)=true:=by
 induction l with
 | nil=>rfl
 | cons a l U=>simp[aR,cO,U]
@[simp] theorem lQ {l:List Wk}:aR (l.map wD)=true:=by
 induction l with
 | nil=>rfl
 | cons a l U=>simp[aR,cO,U]
theorem qE{l:List Str}:b8 O (l.map D.str)=l.map D.str:=by
 induction l with
 | nil=>unfold b8;rfl
 | cons a l U=>rw[ww];unfold b8;rw[U];unfold res;rfl
theorem Fl{l:List Str}:aR [.str z,.lst (l.map D.str)]=true:=by show (on&&(aR (l.map D.str)&&on))=on;rw[dU];rfl
theorem Jq{l m:List Str}:aR [.str z,.lst (l.map D.str),.lst (m.map D.str)]=true:=by show (on&&(aR (l.map D.str)&&(aR (m.map D.str)&&on)))=on;rw[dU,dU];rfl
theorem KU{l:List Str}(h:O[k]? =lH (.lst (l.map D.str))){g:List Str}:b8 O (b8 O [.str z,.lst (g.map D.str),.ptr k])=[.str z,.lst (g.map D.str),.lst (l.map D.str)]:=by
 have h1:b8 O [.str z,.lst (g.map D.str),.ptr k]=[.str z,.lst (g.map D.str),.lst (l.map D.str)]:=by simp only[b8,res,qE,h]
 rw[h1];simp only[b8,res,qE]
theorem Mt{l:List Str}(h:O[k]? =lH (.lst (l.map D.str))):b8 O (b8 O [.str z,.ptr k])=[.str z,.lst (l.map D.str)]:=by
 have h1:b8 O [.str z,.ptr k]=[.str z,.lst (l.map D.str)]:=by simp only[b8,res,qE,h]
 rw[h1];simp only[b8,res,qE]
theorem Bv{α:Type}{f:α->D}{l:List α}:fj (l.map f)=l.zipIdx.map λp=>.tup [.int (p.2:Int),f p.1]:=by unfold fj;rw[Sq,Tz,wh];rfl
theorem Ci{α:Type}{g:α×Nat->D}{l:List α}{pre rest:List D}(h:l.zipIdx.map g=pre++d::rest):∃(U:pre.length<l.length),d=g (l[pre.length],pre.length):=by
 have U:pre.length<l.length:=by have:=congrArg S7 h;simp at this;omega
 have h1:(l.zipIdx.map g)[pre.length]? =lH d:=by rw[h];simp
 rw[wP,sn (by simpa using U)] at h1;refine#[U, ?_];simpa using h1.symm
theorem nR{α:Type}{g:α->D}{l:List α}{pre rest:List D}(h:l.map g=pre++d::rest):∃(U:pre.length<l.length),d=g (l[pre.length]):=by
 have U:pre.length<l.length:=by have:=congrArg S7 h;simp at this;omega
 have h1:(l.map g)[pre.length]? =lH d:=by rw[h];simp
 rw[wP,sn U] at h1;exact#[U,by simpa using h1.symm]
theorem lj{m:SM}(h:m #[ds.map lH++ux (n-ds.length) na,O]=.next s):runM n m ds O=.ok (.non,s.o):=by unfold runM;rw[h]
theorem o3(z:Str)(l:List Str):inD O (.str z) (sD l)=.ok (.bl (l.any (· == z))):=by unfold inD inB;dsimp only;rw[ja];dsimp only;rw[lY]
theorem t6(z:Str)(l:List Str):i3 O (.str z) (sD l)=.ok (.bl (!l.any (· == z))):=by unfold i3 inB;dsimp only;rw[ja];dsimp only;rw[lY]
theorem IJ{l:List Str}(h:z∈l):l.any (· == z)=true:=Ul.mpr #[z,h,by simp]
theorem Fm{l:List Str}(h:z∉l):l.any (· == z)=false:=by
 rw[U9];intro y hy e;have:y=z:=by simpa using e
 exact h (this▸hy)
theorem jU{l:List Str}(h:l.Nodup)(hi:i<l.length):l[i]∉l.take i:=by intro hm;obtain⟨j,U,e⟩:=Rq hm;rw[Su] at U;rw[List.getElem_take] at e;exact Tc.mp h j i ⋯ hi ⋯ e
theorem Mx{U:List Wk}(h1:goods.length<=10)(h2:U.length<=10):jG [sD goods,wsD U] []=.ok (.non,[]):=by
 refine lj (s:=#[[lH (sD goods),lH (wsD U)],[]]) ?_;show pF #[[lH (sD goods),lH (wsD U)],[]]=_;rw[pF];have Y:∀(i:Nat) (ds:List D),[lH (sD goods),lH (wsD U)][i]? =lH (lH (.lst ds))->bN cF (af (aa i) ar) #[[lH (sD goods),lH (wsD U)],[]]=.ok (.int (ds.length:Int),#[[lH (sD goods),lH (wsD U)],[]]):=λi ds h=>by rw[i5,aZ,ag h,aj,aI,aj,aj];dsimp only;rw[hZ,aj]
 refine wp (bE (wp (iM (by rw[gv (Y 0 _ rfl),ss,decide_eq_false ⋯])) rfl)) ?_;exact wp (iM (by rw[gv (Y 1 _ rfl),ss,decide_eq_false ⋯])) rfl
theorem FU{l:List Str}(hz:qq z)(U:z∉l):gG [.str z,sD l] []=.ok (.non,[]):=by refine lj (s:=#[[lH (.str z),lH (sD l)],[]]) ?_;show pO #[[lH (.str z),lH (sD l)],[]]=_;rw[pO];have h1:bc 1 nW (af (aa 0) ar) #[[lH (.str z),lH (sD l)],[]]=.ok (.bl on,#[[lH (.str z),lH (sD l)],[]]):=cy (ds:=[.str z]) (by rw[aZ,ag (i:=0) rfl];rfl) (by simp) rfl (by rw[Hq (by have:=hz.hi;omega),hz.nm]) (by simp);refine wp (bE (wp (iM (s':=#[[lH (.str z),lH (sD l)],[]]) ?_) rfl)) (wp (iM (s':=#[[lH (.str z),lH (sD l)],[]]) ?_) rfl);rw[rZ,iu,h1];rfl;rw[iu,cL,ag (i:=0) rfl,aj,ag (i:=1) rfl,aj];dsimp only;rw[o3,Fm U];rfl
theorem KA(h:∀z∈goods,qq z)(nd:goods.Nodup):∃O,iU [sD goods] []=.ok (.non,O):=by
 obtain⟨s',el,U,Y,ab⟩:=dF (ok:=okC (fj (goods.map D.str)) na) (g:=cS (a8 (aD 1) (a8 (aD 2) cW)) 2) (body:=ju)
  (λ_ s=>∃U Y,s=#[[lH (sD goods),U,Y],[]]) (λ_ _ _=>trivial) (fj (goods.map D.str)) [] (by rintro pre d rest ed s ⟨U,Y,rfl⟩;rw[xz,Bv] at ed;obtain⟨hl,rfl⟩:=Ci ed;refine#[#[[lH (sD goods),lH (.int (pre.length:Int)),lH (.str (goods[pre.length]))],[]],#[[lH (sD goods),lH (.int (pre.length:Int)),lH (.str (goods[pre.length]))],[]],by rw[tu];rfl,.inl ?_,_,_,rfl];rw[ju];refine dG (cy (ds:=[.str (goods[pre.length]),sD (goods.take pre.length)]) (d:=.non) ?_ Fl rfl (FU (h _ (Cg _)) (jU nd hl)) (by simp));rw[aZ,ag (i:=2) rfl,aj,aZ,Dh,ag (i:=0) rfl,aj,Bq,aj,Ay,ag (i:=1) rfl,aj];dsimp only;rw[aj];dsimp only;rw[ja];dsimp only;unfold M.cutD;rw[HT.uj,HT.o4,ss,show min pre.length goods.length=pre.length by omega,T0,UY,<- UP];rfl) #[[lH (sD goods),na,na],[]] #[_,_,rfl]
 have hf:=dh (im:=c8 (af (aa 0) ar)) (g:=cS (a8 (aD 1) (a8 (aD 2) cW)) 2) (body:=ju) (s:=#[[lH (sD goods),na,na],[]]) (ds:=fj (goods.map D.str)) (k:=na) (s1:=#[[lH (sD goods),na,na],[]]) (by rw[oi,aZ,ag (i:=0) rfl,aj,aI,aj,aj])
 rw[el,ab] at hf;exact#[_,lj (s:=#[[lH (sD goods),U,Y],[]]) (by show oj #[[lH (sD goods),na,na],[]]=_;rw[oj,hf])]
theorem LY{goods l:List Str}(h1:z∈goods)(h2:z∉l):jB [.str z,sD goods,sD l] []=.ok (.non,[]):=by refine lj (s:=#[[lH (.str z),lH (sD goods),lH (sD l)],[]]) ?_;show ph #[[lH (.str z),lH (sD goods),lH (sD l)],[]]=_;rw[ph];refine wp (bE (wp (iM (s':=#[[lH (.str z),lH (sD goods),lH (sD l)],[]]) ?_) rfl)) (wp (iM (s':=#[[lH (.str z),lH (sD goods),lH (sD l)],[]]) ?_) rfl);rw[iu,cL,ag (i:=0) rfl,aj,ag (i:=1) rfl,aj];dsimp only;rw[t6,IJ h1];rfl;rw[iu,cL,ag (i:=0) rfl,aj,ag (i:=2) rfl,aj];dsimp only;rw[o3,Fm h2];rfl
theorem yQ(i:Int):gc [.int i] []=.ok (.bl on,[]):=by refine b9 (s:=#[[lH (.int i)],[]]) ?_;simp[yq]
theorem Im{i:Int}(h:1<=i):iA [.int i] []=.ok (.non,[]):=by refine lj (s:=#[[lH (.int i)],[]]) ?_;show mN #[[lH (.int i)],[]]=_;rw[mN];refine wp (iM (s':=#[[lH (.int i)],[]]) ?_) rfl;have h1:bc 1 gc (af (aa 0) ar) #[[lH (.int i)],[]]=.ok (.bl on,#[[lH (.int i)],[]]):=cy (ds:=[.int i]) (by rw[aZ,ag (i:=0) rfl];rfl) (by simp) rfl (yQ i) (by simp);rw[r8,rZ,iu,h1,aj,aj];dsimp only;rw[aj];dsimp only;rw[if_neg ∅,iu,cL,ag (i:=0) rfl,aj,aF,aj];dsimp only;rw[k6,decide_eq_false ⋯];rfl
theorem C0{f:FM}{ma:AM}{s s':S}{ds rs:List D}(h:ma s=.ok (ds,s'))(hr:b8 s'.o (b8 s'.o ds)=rs)(hp:aR rs=on)(U:ds.length=n)(Y:f rs []=.ok (d,O))(hd:oG d=on):kI n f ma s=.ok (d,s'):=by unfold kI;rw[h,aj];dsimp only;rw[hr,if_pos #[hp,U],Y];dsimp only;rw[if_pos hd]
structure oY(goods:List Str)(l:List (Str×Int)):Prop where
 mem:∀p∈l,p.1∈goods
 pos:∀p∈l,1<=p.2
 nd:(l.map (·.1)).Nodup
theorem DZ(h:oY goods l)(hl:l.length<=1000):∃O,fg [psD l,sD goods] []=.ok (.non,O):=by
 have e2:setM 2 (g5 ar) #[[lH (psD l),lH (sD goods),na,na,na],[]]=.next #[[lH (psD l),lH (sD goods),lH (.ptr 0),na,na],[.lst []]]:=by simp
 obtain⟨s',el,y3,y4,ap⟩:=dF (ok:=okC (l.map pD) na) (g:=cS (a8 (aD 3) (a8 (aD 4) cW)) 2) (body:=jr)
  (λpre s=>∃y3 y4,s=#[[lH (psD l),lH (sD goods),lH (.ptr 0),y3,y4],[.lst (((l.map (·.1)).take pre.length).map D.str)]]) (λ_ _ _=>trivial) (l.map pD) [] (by
   rintro pre d rest ed s ⟨y3,y4,rfl⟩;rw[xz] at ed;obtain⟨Y,rfl⟩:=nR ed;have hm:l[pre.length]∈l:=Cg _;have U:(l[pre.length]).1∉(l.map (·.1)).take pre.length:=by have:=jU h.nd (i:=pre.length) (by simpa using Y);simpa using this
   generalize hx:l[pre.length]=x at hm U;refine#[#[[lH (psD l),lH (sD goods),lH (.ptr 0),lH (.str x.1),lH (.int x.2)],[.lst (((l.map (·.1)).take pre.length).map D.str)]],#[[lH (psD l),lH (sD goods),lH (.ptr 0),lH (.str x.1),lH (.int x.2)],[.lst (((l.map (·.1)).take (pre.length+1)).map D.str)]],by rw[tu];rfl,.inl ?_,lH (.str x.1),lH (.int x.2),by rw[x0,Fk]];rw[jr];have k1:=dG (C0 (n:=3) (f:=jB) (ma:=af (aa 3) (af (aa 1) (af (aa 2) ar))) (s:=#[[lH (psD l),lH (sD goods),lH (.ptr 0),lH (.str x.1),lH (.int x.2)],[.lst (((l.map (·.1)).take pre.length).map D.str)]]) (s':=#[[lH (psD l),lH (sD goods),lH (.ptr 0),lH (.str x.1),lH (.int x.2)],[.lst (((l.map (·.1)).take pre.length).map D.str)]]) (ds:=[.str x.1,sD goods,.ptr 0]) (rs:=[.str x.1,sD goods,sD ((l.map (·.1)).take pre.length)]) (by rw[aZ,ag (i:=3) rfl,aj,aZ,ag (i:=1) rfl,aj,aZ,ag (i:=2) rfl];rfl) (KU rfl) Jq rfl (LY (h.mem x hm) U) (by rfl))
   have k2:=dG (cy (n:=1) (f:=iA) (ma:=af (aa 4) ar) (s:=#[[lH (psD l),lH (sD goods),lH (.ptr 0),lH (.str x.1),lH (.int x.2)],[.lst (((l.map (·.1)).take pre.length).map D.str)]]) (s':=#[[lH (psD l),lH (sD goods),lH (.ptr 0),lH (.str x.1),lH (.int x.2)],[.lst (((l.map (·.1)).take pre.length).map D.str)]]) (ds:=[.int x.2]) (by rw[aZ,ag (i:=4) rfl];rfl) (by simp) rfl (Im (h.pos x hm)) (by simp));refine wp (bE k1) (wp (bE k2) ?_);refine wp (dG (vV (mo:=aa 2) (me:=aa 3) (k:=0) (d:=.str x.1) (ag rfl) rfl (ag rfl) rfl (by simp;omega))) ?_;have ht:(l.map (·.1)).take (pre.length+1)=(l.map (·.1)).take pre.length++[x.1]:=by rw[SR,wP,sn Y,hx];rfl
   rw[ht,Q7];rfl) #[[lH (psD l),lH (sD goods),lH (.ptr 0),na,na],[.lst []]] #[_,_,rfl]
 have hf:=dh (im:=listI (aa 0)) (g:=cS (a8 (aD 3) (a8 (aD 4) cW)) 2) (body:=jr) (s:=#[[lH (psD l),lH (sD goods),lH (.ptr 0),na,na],[.lst []]]) (ds:=l.map pD) (k:=na) (s1:=#[[lH (psD l),lH (sD goods),lH (.ptr 0),na,na],[.lst []]]) (by rw[cz,ag (i:=0) rfl];rfl);rw[el] at hf;exact#[_,lj (s:=s') (by show oa #[[lH (psD l),lH (sD goods),na,na,na],[]]=_;rw[oa,bE e2];exact hf)]
@[simp] theorem JF {g h i:GM} {a b c:D}:cS (a8 g (a8 h (a8 i cW))) 3 (.tup [a,b,c]) s=(g a s).bind λs1=>(h b s1).bind λs2=>i c s2:=by show (g a s).bind (λs1=>(h b s1).bind λs2=>(i c s2).bind λU=>.ok U)=_;congr 1;funext s1;congr 1;funext s2;cases i c s2 <;> rfl
structure Aa(goods:List Str)(ws:List Wk):Prop where
 nm:∀w∈ws,qq w.nm
 nd:(ws.map (·.nm)).Nodup
 us:∀w∈ws,oY goods w.us/\w.us.length<=100
 ms:∀w∈ws,oY goods w.ms/\w.ms.length<=100
theorem Kc(h:Aa goods ws)(hl:ws.length<=1000):∃O,iX [wsD ws,sD goods] []=.ok (.non,O):=by
 have e2:setM 2 (g5 ar) #[[lH (wsD ws),lH (sD goods),na,na,na,na],[]]=.next #[[lH (wsD ws),lH (sD goods),lH (.ptr 0),na,na,na],[.lst []]]:=by simp
 obtain⟨s',el,y3,y4,y5,az⟩:=dF (ok:=okC (ws.map wD) na) (g:=cS (a8 (aD 3) (a8 (aD 4) (a8 (aD 5) cW))) 3) (body:=jt)
  (λpre s=>∃y3 y4 y5,s=#[[lH (wsD ws),lH (sD goods),lH (.ptr 0),y3,y4,y5],[.lst (((ws.map (·.nm)).take pre.length).map D.str)]]) (λ_ _ _=>trivial) (ws.map wD) [] (by
   rintro pre d rest ed s ⟨y3,y4,y5,rfl⟩;rw[xz] at ed;obtain⟨Y,rfl⟩:=nR ed;have hm:ws[pre.length]∈ws:=Cg _;have U:(ws[pre.length]).nm∉(ws.map (·.nm)).take pre.length:=by have:=jU h.nd (i:=pre.length) (by simpa using Y);simpa using this
   generalize hx:ws[pre.length]=x at hm U;refine#[#[[lH (wsD ws),lH (sD goods),lH (.ptr 0),lH (.str x.nm),lH (psD x.us),lH (psD x.ms)],[.lst (((ws.map (·.nm)).take pre.length).map D.str)]],#[[lH (wsD ws),lH (sD goods),lH (.ptr 0),lH (.str x.nm),lH (psD x.us),lH (psD x.ms)],[.lst (((ws.map (·.nm)).take (pre.length+1)).map D.str)]],by rw[JF];rfl,.inl ?_,lH (.str x.nm),lH (psD x.us),lH (psD x.ms),by rw[x0,Fk]];rw[jt];obtain⟨O1,p1⟩:=DZ (h.us x hm).1 (by have:=(h.us x hm).2;omega);obtain⟨O2,p2⟩:=DZ (h.ms x hm).1 (by have:=(h.ms x hm).2;omega);have k1:=dG (C0 (n:=2) (f:=gG) (ma:=af (aa 3) (af (aa 2) ar)) (s:=#[[lH (wsD ws),lH (sD goods),lH (.ptr 0),lH (.str x.nm),lH (psD x.us),lH (psD x.ms)],[.lst (((ws.map (·.nm)).take pre.length).map D.str)]]) (s':=#[[lH (wsD ws),lH (sD goods),lH (.ptr 0),lH (.str x.nm),lH (psD x.us),lH (psD x.ms)],[.lst (((ws.map (·.nm)).take pre.length).map D.str)]]) (ds:=[.str x.nm,.ptr 0]) (by rw[aZ,ag (i:=3) rfl,aj,aZ,ag (i:=2) rfl];rfl) (Mt rfl) Fl rfl (FU (h.nm x hm) U) (by rfl))
   have ab:∀l:List (Str×Int),aR [.lst (l.map pD),.lst (goods.map D.str)]=true:=λl=>by show (aR (l.map pD)&&(aR (goods.map D.str)&&on))=on;rw[dU,gX];rfl
   have k2:=dG (cy (n:=2) (f:=fg) (ma:=af (aa 4) (af (aa 1) ar)) (s:=#[[lH (wsD ws),lH (sD goods),lH (.ptr 0),lH (.str x.nm),lH (psD x.us),lH (psD x.ms)],[.lst (((ws.map (·.nm)).take pre.length).map D.str)]]) (s':=#[[lH (wsD ws),lH (sD goods),lH (.ptr 0),lH (.str x.nm),lH (psD x.us),lH (psD x.ms)],[.lst (((ws.map (·.nm)).take pre.length).map D.str)]]) (ds:=[psD x.us,sD goods]) (by rw[aZ,ag (i:=4) rfl,aj,aZ,ag (i:=1) rfl];rfl) (ab _) rfl p1 (by simp));have k3:=dG (cy (n:=2) (f:=fg) (ma:=af (aa 5) (af (aa 1) ar)) (s:=#[[lH (wsD ws),lH (sD goods),lH (.ptr 0),lH (.str x.nm),lH (psD x.us),lH (psD x.ms)],[.lst (((ws.map (·.nm)).take pre.length).map D.str)]]) (s':=#[[lH (wsD ws),lH (sD goods),lH (.ptr 0),lH (.str x.nm),lH (psD x.us),lH (psD x.ms)],[.lst (((ws.map (·.nm)).take pre.length).map D.str)]]) (ds:=[psD x.ms,sD goods]) (by rw[aZ,ag (i:=5) rfl,aj,aZ,ag (i:=1) rfl];rfl) (ab _) rfl p2 (by simp));refine wp (bE k1) (wp (bE k2) (wp (bE k3) ?_));refine wp (dG (vV (mo:=aa 2) (me:=aa 3) (k:=0) (d:=.str x.nm) (ag rfl) rfl (ag rfl) rfl (by simp;omega))) ?_;have ht:(ws.map (·.nm)).take (pre.length+1)=(ws.map (·.nm)).take pre.length++[x.nm]:=by rw[SR,wP,sn Y,hx];rfl
   rw[ht,Q7];rfl) #[[lH (wsD ws),lH (sD goods),lH (.ptr 0),na,na,na],[.lst []]] #[_,_,_,rfl]
 have hf:=dh (im:=listI (aa 0)) (g:=cS (a8 (aD 3) (a8 (aD 4) (a8 (aD 5) cW))) 3) (body:=jt) (s:=#[[lH (wsD ws),lH (sD goods),lH (.ptr 0),na,na,na],[.lst []]]) (ds:=ws.map wD) (k:=na) (s1:=#[[lH (wsD ws),lH (sD goods),lH (.ptr 0),na,na,na],[.lst []]]) (by rw[cz,ag (i:=0) rfl];rfl);rw[el] at hf;exact#[_,lj (s:=s') (by show n6 #[[lH (wsD ws),lH (sD goods),na,na,na,na],[]]=_;rw[n6,bE e2];exact hf)]
theorem MG(w:Wk):kv [wD w] []=.ok (wD w,[]):=by
 refine b9 (s:=#[[lH (wD w)],[]]) ?_;show rm #[[lH (wD w)],[]]=_;rw[rm];refine bt ?_;have U:∀(k:Int) (d:D),ixD [] (wD w) (.int k)=.ok d->ak ixD (aa 0) (ao (.int k)) #[[lH (wD w)],[]]=.ok (d,#[[lH (wD w)],[]]):=λk d h=>by rw[cL,ag (i:=0) rfl,aj,aF,aj];dsimp only;rw[h];rfl
 rw[zB,aZ,U 0 (.str w.nm) rfl,aj,aZ,i5,aZ,U 1 (psD w.us) rfl,aj,aI,aj,aj];dsimp only;rw[uJ,aj,aj,aZ,i5,aZ,U 2 (psD w.ms) rfl,aj,aI,aj,aj];dsimp only;rw[uJ,aj,aj,aI,aj,aj,aj,aj];rfl
def sumOf(g:Str)(l:List (Str×Int)):Int:=((l.filter λp=>decide (p.1=g)).map (·.2)).sum
def chg(w:Wk)(g:Str):Int:=sumOf g w.ms-sumOf g w.us
theorem FO(U:l.length<=1000):eO [.str g,psD l] []=.ok (.int (sumOf g l),[]):=by
 have hc:=Ai (l:=l) (item:=pD) (p:=λp=>decide (p.1=g)) (out:=λp=>.int p.2) (caps:=[0]) (im:=listI (aa 1)) (c:=aS (ak eqD (ak ixD (aa 0) (ao (.int 0))) (aa 1))) (e:=ak ixD (aa 0) (ao (.int 1))) (k:=na) (s:=#[[lH (.str g),lH (psD l)],[]]) (by rw[cz,ag (i:=1) rfl];rfl) trivial ⋯ (λp _=>by
  rw[iu,cL,cL,ag (i:=0) rfl,aj,aF,aj];dsimp only;rw[show ixD [] (pD p) (.int 0)=.ok (.str p.1) from rfl,aj,aj];dsimp only;rw[ag (i:=1) rfl,aj];dsimp only;rw[zO];rfl) (λp _ _=>by
  rw[cL,ag (i:=0) rfl,aj,aF,aj];rfl)
 rw[show (l.filter λp=>decide (p.1=g)).map (λp=>D.int p.2)=((l.filter λp=>decide (p.1=g)).map (·.2)).map D.int by rw[wh];rfl] at hc;refine b9 (s:=#[[lH (.str g),lH (psD l)],[]]) ?_;show rh #[[lH (.str g),lH (psD l)],[]]=_;rw[rh];refine bt ?_;rw[i5,aZ,hc,aj,aI,aj,aj];dsimp only;rw[vD,aj];rfl
theorem M4{w:Wk}(h1:w.us.length<=1000)(h2:w.ms.length<=1000)(hg:goods.length<=1000):kC [wD w,sD goods] []=.ok (vI (goods.map (chg w)),[]):=by
 have hc:=dS (l:=goods) (item:=D.str) (out:=λg=>.int (chg w g)) (caps:=[0]) (im:=listI (aa 1)) (e:=ak kY (bc 2 eO (af (aa 0) (af (ak ixD (aa 1) (ao (.int 2))) ar))) (bc 2 eO (af (aa 0) (af (ak ixD (aa 1) (ao (.int 1))) ar)))) (k:=na) (s:=#[[lH (wD w),lH (sD goods)],[]]) (by rw[cz,ag (i:=1) rfl];rfl) trivial ⋯ (λg _=>by
  have U:∀l:List (Str×Int),aR [.str g,.lst (l.map pD)]=true:=λl=>by show (on&&(aR (l.map pD)&&on))=on;rw[gX];rfl
  have Y:bc 2 eO (af (aa 0) (af (ak ixD (aa 1) (ao (.int 2))) ar)) #[lH (.str g)::[0].map (λi=>([lH (wD w),lH (sD goods)][i]?).getD na),[]]=.ok (.int (sumOf g w.ms),#[lH (.str g)::[0].map (λi=>([lH (wD w),lH (sD goods)][i]?).getD na),[]]):=cy (ds:=[.str g,psD w.ms]) (by rw[aZ,ag (i:=0) rfl,aj,aZ,cL,ag (i:=1) rfl,aj,aF,aj];rfl) (U _) rfl (FO h2) (by simp)
  have c1:bc 2 eO (af (aa 0) (af (ak ixD (aa 1) (ao (.int 1))) ar)) #[lH (.str g)::[0].map (λi=>([lH (wD w),lH (sD goods)][i]?).getD na),[]]=.ok (.int (sumOf g w.us),#[lH (.str g)::[0].map (λi=>([lH (wD w),lH (sD goods)][i]?).getD na),[]]):=cy (ds:=[.str g,psD w.us]) (by rw[aZ,ag (i:=0) rfl,aj,aZ,cL,ag (i:=1) rfl,aj,aF,aj];rfl) (U _) rfl (FO h1) (by simp)
  rw[cL,Y,aj];dsimp only;rw[c1,aj];rfl)
 rw[show goods.map (λg=>D.int (chg w g))=(goods.map (chg w)).map D.int by rw[wh];rfl] at hc;refine b9 (s:=#[[lH (wD w),lH (sD goods)],[]]) ?_;show qP #[[lH (wD w),lH (sD goods)],[]]=_;rw[qP];exact bt hc
abbrev FN:List Str:=["held_goods","held_works","held_changes"]
abbrev yDs(goods:List Str)(ws:List Wk):List D:=[sD goods,wsD ws,vII (ws.map λw=>goods.map (chg w))]
abbrev yD(goods:List Str)(ws:List Wk):D:=.obj 0 FN (yDs goods ws)
theorem jb:aR (yDs goods ws)=true:=by show (aR (goods.map D.str)&&(aR (ws.map wD)&&(aR ((ws.map λw=>goods.map (chg w)).map vI)&&on)))=on;rw[dU,lQ,lF];rfl
theorem Aq{mo mv:EM}{s s1 s2:S}{ns:List Str}(U:mv s=.ok (d,s1))(Y:mo s1=.ok (.ptr k,s2))(hc:s2.o[k]? =lH (.ins c ns ds))(hf:f∉ns)(hl:ns.length<1000):sU c f mo mv s=.next #[s2.r,s2.o.set k (.ins c (ns++[f]) (ds++[d]))]:=by rw[JG,U,my];dsimp only;rw[Y,my];dsimp only;rw[hc];dsimp only;rw[if_pos #[rfl,hf,hl]]
theorem Ma(hg:∀z∈goods,qq z)(nd:goods.Nodup)(Y:Aa goods ws)(h1:goods.length<=10)(h2:ws.length<=10):ki [.ptr 0,sD goods,wsD ws] [.ins 0 [] []]=.ok (.non,[.ins 0 FN (yDs goods ws)]):=by
 obtain⟨O1,k1⟩:=KA hg nd;obtain⟨O2,k2⟩:=Kc Y ⋯;refine lj (s:=#[[lH (.ptr 0),lH (sD goods),lH (wsD ws)],[.ins 0 FN (yDs goods ws)]]) ?_;show ko #[[lH (.ptr 0),lH (sD goods),lH (wsD ws)],[.ins 0 [] []]]=_;rw[ko];have pg:aR [.lst (goods.map D.str)]=true:=by show (aR (goods.map D.str)&&on)=on;rw[dU];rfl
 have ab:aR [.lst (goods.map D.str),.lst (ws.map wD)]=true:=by show (aR (goods.map D.str)&&(aR (ws.map wD)&&on))=on;rw[dU,lQ];rfl
 have ac:aR [.lst (ws.map wD),.lst (goods.map D.str)]=true:=by show (aR (ws.map wD)&&(aR (goods.map D.str)&&on))=on;rw[dU,lQ];rfl
 have e1:=dG (cy (n:=2) (f:=jG) (ma:=af (aa 1) (af (aa 2) ar)) (s:=#[[lH (.ptr 0),lH (sD goods),lH (wsD ws)],[.ins 0 [] []]]) (s':=#[[lH (.ptr 0),lH (sD goods),lH (wsD ws)],[.ins 0 [] []]]) (ds:=[sD goods,wsD ws]) (by rw[aZ,ag (i:=1) rfl,aj,aZ,ag (i:=2) rfl];rfl) ab rfl (Mx h1 h2) (by simp));have e2:=dG (cy (n:=1) (f:=iU) (ma:=af (aa 1) ar) (s:=#[[lH (.ptr 0),lH (sD goods),lH (wsD ws)],[.ins 0 [] []]]) (s':=#[[lH (.ptr 0),lH (sD goods),lH (wsD ws)],[.ins 0 [] []]]) (ds:=[sD goods]) (by rw[aZ,ag (i:=1) rfl];rfl) pg rfl k1 (by simp));have e3:=dG (cy (n:=2) (f:=iX) (ma:=af (aa 2) (af (aa 1) ar)) (s:=#[[lH (.ptr 0),lH (sD goods),lH (wsD ws)],[.ins 0 [] []]]) (s':=#[[lH (.ptr 0),lH (sD goods),lH (wsD ws)],[.ins 0 [] []]]) (ds:=[wsD ws,sD goods]) (by rw[aZ,ag (i:=2) rfl,aj,aZ,ag (i:=1) rfl];rfl) ac rfl k2 (by simp));have e4:=Aq (c:=0) (f:="held_goods") (mo:=aa 0) (mv:=bN oK (af (aa 1) ar)) (s:=#[[lH (.ptr 0),lH (sD goods),lH (wsD ws)],[.ins 0 [] []]]) (s1:=#[[lH (.ptr 0),lH (sD goods),lH (wsD ws)],[.ins 0 [] []]]) (s2:=#[[lH (.ptr 0),lH (sD goods),lH (wsD ws)],[.ins 0 [] []]]) (d:=sD goods) (k:=0) (ns:=[]) (ds:=[]) (by rw[i5,aZ,ag (i:=1) rfl,aj,aI,aj,aj];dsimp only;rw[uJ,aj]) (ag rfl) rfl (by simp) (by simp)
 have cw:=dS (l:=ws) (item:=wD) (out:=wD) (caps:=[]) (im:=listI (aa 2)) (e:=bc 1 kv (af (aa 0) ar)) (k:=na) (s:=#[[lH (.ptr 0),lH (sD goods),lH (wsD ws)],[.ins 0 ["held_goods"] [sD goods]]]) (by rw[cz,ag (i:=2) rfl];rfl) trivial ⋯ (λw _=>cy (ds:=[wD w]) (by rw[aZ,ag (i:=0) rfl];rfl) (by
  show ((on&&(aR (w.us.map pD)&&(aR (w.ms.map pD)&&on)))&&on)=on;rw[gX,gX];rfl) rfl (MG w) (by
  show (on&&(aR (w.us.map pD)&&(aR (w.ms.map pD)&&on)))=on;rw[gX,gX];rfl))
 have e5:=Aq (c:=0) (f:="held_works") (mo:=aa 0) (k:=0) (ns:=["held_goods"]) (ds:=[sD goods]) cw (ag rfl) rfl ∅ (by simp);have cc:=dS (l:=ws) (item:=wD) (out:=λw=>vI (goods.map (chg w))) (caps:=[1]) (im:=listI (aa 2)) (e:=bc 2 kC (af (aa 0) (af (aa 1) ar))) (k:=na) (s:=#[[lH (.ptr 0),lH (sD goods),lH (wsD ws)],[.ins 0 ["held_goods","held_works"] [sD goods,wsD ws]]]) (by rw[cz,ag (i:=2) rfl];rfl) trivial ⋯ (λw U=>cy (ds:=[wD w,sD goods]) (by rw[aZ,ag (i:=0) rfl,aj,aZ,ag (i:=1) rfl];rfl) (by show ((on&&(aR (w.us.map pD)&&(aR (w.ms.map pD)&&on)))&&(aR (goods.map D.str)&&on))=on;rw[gX,gX,dU];rfl) rfl (M4 (by have:=(Y.us w U).2;omega) (by have:=(Y.ms w U).2;omega) ⋯) (by generalize goods.map (chg w)=r;simp))
 rw[show ws.map (λw=>vI (goods.map (chg w)))=(ws.map λw=>goods.map (chg w)).map vI by rw[wh];rfl] at cc;have e6:=Aq (c:=0) (f:="held_changes") (mo:=aa 0) (k:=0) (ns:=["held_goods","held_works"]) (ds:=[sD goods,wsD ws]) cc (ag rfl) rfl ∅ (by simp);refine wp (bE e1) (wp (bE e2) (wp (bE e3) (wp (bE e4) (wp (bE e5) e6))))
structure Pt(goods:List Str)(i:Nat)(l:List (Str×Int)):Prop where
 mem:∀p∈l,p.1∈goods.take i
 pos:∀p∈l,1<=p.2
 nd:(l.map (·.1)).Nodup
 len:l.length<=i
theorem Pt.same(h:Pt goods i l):Pt goods (i+1) l:=
 #[λp hp=>RW (i:=i) (by rw[List.take_take,TH (T3 i)];exact h.mem p hp),h.pos,h.nd,Nat.le_succ_of_le h.len]
theorem Pt.more(U:goods.Nodup)(hi:i<goods.length)(h:Pt goods i l){a:Int}(ha:1<=a):Pt goods (i+1) (l++[(goods[i],a)]):=by
 have hs:=h.same;refine#[λp hp=> ?_,λp hp=> ?_, ?_,by rw[x0,Fk];have:=h.len;omega];rcases wn.mp hp with q | q
 exact hs.mem p q;rw[wf.mp q,show goods.take (i+1)=goods.take i++[goods[i]] by rw[SR,sn hi];rfl];exact Fa _ (wf.mpr rfl);rcases wn.mp hp with q | q
 exact h.pos p q;rw[wf.mp q];exact ha;rw[Q7];refine R0.mpr #[h.nd,by simp,λx hx y hy=> ?_];obtain⟨p,hp,rfl⟩:=pr.mp hx;have:y=goods[i]:=by simpa using hy
 subst this;intro e;exact jU U hi (e▸h.mem p hp)
theorem Pt.parts(h:Pt goods i l):oY goods l:=#[λp hp=>RW (h.mem p hp),h.pos,h.nd]
theorem E7:cN 1 ((n+1:Nat):Int)=(tz n).map λi:Nat=>.int (1+(i:Int)):=by unfold cN;rw[show (((n+1:Nat):Int)-1).toNat=n by omega]
theorem FV{α:Type}(f:α->D)(l:List α)(n:Nat):M.cutD (l.map f) na (lH (n:Int))=(l.take n).map f:=by
 unfold M.cutD;rw[HT.uj,HT.o4,ss,T0,UY,UP];rcases Nat.le_total n l.length with h | h
 rw[TH h];rw[Nat.min_eq_right h,Rw (by simp),Rw (by simpa using h)]
theorem Eo{m:AM}(h:m s=.ok ([.int 1,.int (n:Int)],s1))(hn:n<=1000000):rf m s=.ok ((cN 1 (n:Int),na),s1):=by unfold rf;rw[h,aj];dsimp only;rw[if_pos ⋯]
theorem GJ{ml mh:OM}{s s1 s2 U:S}{lo hi:Option Int}(h:me s=.ok (.str z,s1))(Y:ml s1=.ok (lo,s2))(hh:mh s2=.ok (hi,U))(hz:z.length<=1000000):slS me ml mh s=.ok (.str (kE z lo hi),U):=by rw[Np,h,aj];dsimp only;rw[Y,aj];dsimp only;rw[hh,aj];dsimp only;rw[if_pos ⋯]
theorem ED{l:List Str}(h:O[k]? =lH (.lst (l.map D.str))):i3 O (.str z) (.ptr k)=.ok (.bl (!l.any (· == z))):=by unfold i3 inB;dsimp only;rw[lC h];dsimp only;rw[lY]
def nmP(wd:List Nat)(p c:Nat):List Nat:=wd.take p++[c]++wd.drop (p+1)
theorem Kq{p c:Nat}(hp:p<wd.length)(h8:wd.length<=8)(U:azL wd)(hc:97<=c/\c<=122):qq (mkS (nmP wd p c)):=by
 have Y:(nmP wd p c).length=wd.length:=by unfold nmP;simp;omega
 refine#[by rw[gL,Y];omega,by rw[gL,Y];exact h8,λx hx=> ?_];rw[gg] at hx;unfold nmP at hx;rcases wn.mp hx with q | q
 rcases wn.mp q with q | q;exact U x (RW q);rw[wf.mp q];exact hc;exact U x (TC q)
structure NmI(m:Nat)(l:List Str):Prop where
 g:∀z∈l,qq z
 nd:l.Nodup
 le:l.length<=m
abbrev wpR(c:Int)(m size:Nat)(rest:Int)(wd:List Nat)(x6 x7 x8 x9 x10:Option D):List (Option D):=[lH (.int c),lH (.int (m:Int)),lH (.str ABC),lH (.int (size:Int)),lH (.int rest),lH (.str (mkS wd)),x6,x7,x8,x9,x10]
theorem LM{c rest:Int}{m size k:Nat}{x7 x8 x9 x10:Option D}(hk:k<100)(Y:wd.length<=1000):
 ∃r U,kH #[wpR c m size rest wd (lH (.int (k:Int))) x7 x8 x9 x10,[]]=.next #[wpR c m size U (wd++[r]) (lH (.int (k:Int))) x7 x8 x9 x10,[]]/\97<=r/\r<=122:=by
 refine#[97+(rest%26).toNat,rest/26+5*(k:Int), ?_,⋯,⋯];rw[kH];refine aT (bA (R':=wpR c m size rest (wd++[97+(rest%26).toNat]) (lH (.int (k:Int))) x7 x8 x9 x10) (aN (ag rfl) (aN (ag rfl) (aN (ag rfl) (aF _) (fu ∅)) (NQ ⋯ ⋯)) ?_) rfl) (bA (aN (aN (ag rfl) (aF _) (ib ∅ ∅)) (aN (aF _) (ag rfl) (cV (gk (.inl ∅)))) fv) rfl);rw[uI (by rw[gL,gL];simp;omega),show mkS wd++mkS [97+(rest%26).toNat]=mkS (wd++[97+(rest%26).toNat]) from rL (by rw[zg,gg,gg,gg])]
theorem M3{c rest:Int}{m size p c' kk:Nat}{l:List Str}{x6 x10:Option D}(hp:p<wd.length)(h8:wd.length<=8)(ac:azL wd)(hc:97<=c'/\c'<=122)(hm:m<=100)(h:NmI m l)(U:O[kk]? =lH (.lst (l.map D.str))):
 ∃l' O' am,kJ #[wpR c m size rest wd x6 (lH (.int (p:Int))) (lH (.ptr kk)) (lH (.str (mkS [c']))) x10,O]=.next #[wpR c m size rest wd x6 (lH (.int (p:Int))) (lH (.ptr kk)) (lH (.str (mkS [c']))) am,O']/\NmI m l'/\O'[kk]? =lH (.lst (l'.map D.str))/\(0<m->0<l'.length):=by
 have Y:(mkS wd).length=wd.length:=gL wd;have p1:kE (mkS wd) na (lH (p:Int))=mkS (wd.take p):=rL (by rw[FH ⋯,gg,gg]);have p2:kE (mkS wd) (lH ((p:Int)+1)) na=mkS (wd.drop (p+1)):=rL (by rw[show (p:Int)+1=((p+1:Nat):Int) by omega,LV ⋯,gg,gg]);have ab:setM 10 (ak cx (ak cx (slS (aa 5) dA (part (aa 7))) (aa 9)) (slS (aa 5) (part (ak cx (aa 7) (ao (.int 1)))) dA)) #[wpR c m size rest wd x6 (lH (.int (p:Int))) (lH (.ptr kk)) (lH (.str (mkS [c']))) x10,O]=.next #[wpR c m size rest wd x6 (lH (.int (p:Int))) (lH (.ptr kk)) (lH (.str (mkS [c']))) (lH (.str (mkS (nmP wd p c')))),O]:=by refine bA (aN (aN (GJ (ag rfl) kS (lJ (ag rfl)) (by rw[Y];omega)) (ag rfl) (uI (by rw[p1,gL,gL];simp;omega))) (GJ (ag rfl) (lJ (aN (ag rfl) (aF _) fv)) kS (by rw[Y];omega)) ?_) rfl;rw[p1,p2,uI (by rw[show mkS (wd.take p)++mkS [c']=mkS (wd.take p++[c']) from rL (by rw[zg,gg,gg,gg]),gL,gL];simp;omega)];rw[show mkS (wd.take p)++mkS [c']++mkS (wd.drop (p+1))=mkS (nmP wd p c') from rL (by rw[zg,zg,gg,gg,gg,gg];rfl)]
 have t:=Gx (c9 (aN (jW (aB (ag (i:=8) rfl) aI) (ym U)) (ag (s:=#[wpR c m size rest wd x6 (lH (.int (p:Int))) (lH (.ptr kk)) (lH (.str (mkS [c']))) (lH (.str (mkS (nmP wd p c')))),O]) (i:=1) rfl) k6)) (c9 (aN (ag (i:=10) rfl) (ag (i:=8) rfl) (ED U)));rw[ss] at t;have gd:=Kq hp h8 ac hc;rw[kJ];have ll:=h.le;cases hb:(decide ((l.length:Int)<(m:Int))&& !l.any (· == mkS (nmP wd p c'))) with
 | false=>
  refine#[l,O,_,aT ab (dJ t hb cg),h,U,λhm=> ?_];cases l with
  | nil=>
   rw[decide_eq_true (by simp;omega)] at hb;cases hb
  | cons _ _=>simp
 | true=>
  obtain⟨b1,b2⟩:=(Rp _ _▸hb:_/\_);have b1:=of_decide_eq_true b1;have an:mkS (nmP wd p c')∉l:=λhz=>by rw[IJ hz] at b2;cases b2
  refine#[l++[mkS (nmP wd p c')],O.set kk (.lst (l.map D.str++[.str (mkS (nmP wd p c'))])),_,aT ab (eT t hb (dG (vW (ag rfl) U (ag rfl) U (by simp;omega) rfl))),#[λz hz=> ?_, ?_,by simp;omega],by rw[Q7];exact df U,λ_=>by simp];rcases wn.mp hz with q | q
  exact h.g z q;rw[wf.mp q];exact gd;exact R0.mpr #[h.nd,by simp,λx hx y hy e=>an (by rw[<- wf.mp hy,<- e];exact hx)]
theorem Jf(c:Int){m:Nat}(h1:1<=m)(h2:m<=100):∃zs O,g8 [.int c,.int (m:Int)] []=.ok (sD zs,O)/\NmI m zs/\0<zs.length:=by
 obtain⟨size,hsz,s1,s8⟩:∃size:Nat,1+c%8=(size:Int)/\1<=size/\size<=8:=#[(1+c%8).toNat,⋯,⋯,⋯];obtain⟨s',el,wd,rest,U,wl,Y,rfl⟩:=dF (ok:=okC (cN 0 (size:Int)) na) (g:=aD 6) (body:=kH)
  (λpre s=>∃(wd:List Nat) (rest:Int) (x6:Option D),wd.length=pre.length/\azL wd/\s=#[wpR c m size rest wd x6 na na na na,[]]) (λ_ _ _=>trivial) (cN 0 (size:Int)) [] (by
   rintro pre d rest ed s ⟨wd,re,x6,wl,Y,rfl⟩;rw[xz,iF] at ed;obtain⟨rfl,ac⟩:=kB ed;obtain⟨r,an,eb,r1,r2⟩:=LM (c:=c) (rest:=re) (m:=m) (size:=size) (k:=pre.length) (wd:=wd) (x7:=na) (x8:=na) (x9:=na) (x10:=na) ⋯ ⋯;refine#[_,_,rfl,.inl eb,wd++[r],an,_,by simp[wl],λx hx=> ?_,rfl];rcases wn.mp hx with q | q
   exact Y x q;rw[wf.mp q];exact#[r1,r2]) #[wpR c m size (c/8%10^18) [] na na na na na,[]] #[[],_,na,rfl,(λx hx=>by cases hx),rfl]
 rw[xz,iT] at wl;have wl:wd.length=size:=⋯;obtain⟨p,hp,p0⟩:∃p:Nat,c/3%(size:Int)=(p:Int)/\p<size:=#[(c/3%(size:Int)).toNat,by have:=Sg (c/3) (show (size:Int)≠0 by omega);omega,by have:=Sa (c/3) (show (0:Int)<(size:Int) by omega);have:=Sg (c/3) (show (size:Int)≠0 by omega);omega];have st:∃kk l O,(ifS (aS (ak eqD (ak gh (ak d3 (aa 0) (ao (.int 5))) (ao (.int 2))) (ao (.int 1)))) (setM 8 (slC (bL 1 [5] (rf (af (ao (.int 1)) (af (ak cx (aa 3) (ao (.int 1))) ar))) (aD 0) bR (slS (aa 1) dA (part (aa 0)))) dA (part (aa 1)))) bB) #[wpR c m size rest wd U (lH (.int (p:Int))) (lH (.ptr 0)) na na,[.lst []]]=.next #[wpR c m size rest wd U (lH (.int (p:Int))) (lH (.ptr kk)) na na,O]/\NmI m l/\O[kk]? =lH (.lst (l.map D.str)):=by
  have t:=eq_test (j:=1) (aN (aN (ag (s:=#[wpR c m size rest wd U (lH (.int (p:Int))) (lH (.ptr 0)) na na,[.lst []]]) (i:=0) rfl) (aF _) (ib (j:=5) ∅ ∅)) (aF _) (fu (j:=2) ∅));by_cases hb:c/5%2=1;have ec:=dS (l:=tz size) (item:=λi:Nat=>D.int (1+(i:Int))) (out:=λi:Nat=>.str (mkS (wd.take (i+1)))) (caps:=[5]) (im:=rf (af (ao (.int 1)) (af (ak cx (aa 3) (ao (.int 1))) ar))) (e:=slS (aa 1) dA (part (aa 0))) (k:=na) (s:=#[wpR c m size rest wd U (lH (.int (p:Int))) (lH (.ptr 0)) na na,[.lst []]]) (by
   rw[<- E7];refine Eo (aB (aF _) (aB (aN (ag rfl) (aF _) fv) aI)) ⋯) trivial (by simp;omega) (λi hi=>by
   have hi:=Ch.mp hi;rw[show mkS (wd.take (i+1))=kE (mkS wd) na (lH (1+(i:Int))) from (rL (by rw[show 1+(i:Int)=((i+1:Nat):Int) by omega,FH (by rw[gL];omega),gg,gg]))];exact GJ (ag rfl) kS (lJ (ag rfl)) (by rw[gL];omega))
  refine#[1,((tz size).map λi=>mkS (wd.take (i+1))).take m,_,eT t (decide_eq_true hb) (bA (OX ec kS (lJ (ag rfl)) ja (by rw[show (tz size).map (λi:Nat=>D.str (mkS (wd.take (i+1))))=((tz size).map λi=>mkS (wd.take (i+1))).map D.str by rw[wh];rfl,FV]) rfl rfl) rfl),#[λz hz=> ?_, ?_, ?_],rfl];obtain⟨i,hi,rfl⟩:=pr.mp (RW hz);have hi:=Ch.mp hi;refine#[by rw[gL];simp;omega,by rw[gL];simp;omega,λx hx=> ?_];rw[gg] at hx;exact Y x (RW hx);refine VV (U5 _ _) ?_;refine So.mpr (RZ (λ{a b} ha hb ac e=> ?_) List.pairwise_lt_range);have ha:=Ch.mp ha;have hb:=Ch.mp hb;have:=congrArg Str.length e;rw[gL,gL] at this;simp at this;omega;rw[Su];omega;exact#[0,[],[.lst []],dJ t (decide_eq_false hb) cg,#[by simp,by simp,by simp],rfl]
 obtain⟨kk,l,O,es,hl,hO⟩:=st;have al:ABC.cps.toList=(tz 26).map (97 + ·):=HE;obtain⟨s',az,zs,O2,a0,am,hz,a1,a2,rfl⟩:=dF (ok:=okC (ABC.cps.toList.map λc=>D.str #[#v[c]]) na) (g:=aD 9) (body:=kJ)
  (λpre s=>∃(l:List Str) (O:aA) (x9 x10:Option D),NmI m l/\O[kk]? =lH (.lst (l.map D.str))/\(0<pre.length->0<l.length)/\s=#[wpR c m size rest wd U (lH (.int (p:Int))) (lH (.ptr kk)) x9 x10,O]) (λ_ _ _=>trivial) (ABC.cps.toList.map λc=>D.str #[#v[c]]) [] (by rintro pre d a3 ed s ⟨l,O,x9,x10,h,hO,h0,rfl⟩;rw[xz] at ed;obtain⟨ac,rfl⟩:=nR ed;have hc:ABC.cps.toList[pre.length]∈ABC.cps.toList:=Cg _;generalize ABC.cps.toList[pre.length]=c' at hc;rw[al] at hc;obtain⟨i,hi,rfl⟩:=pr.mp hc;have hi:=Ch.mp hi;obtain⟨l',O',bn,eb,h',a4,ne⟩:=M3 (c:=c) (rest:=rest) (m:=m) (size:=size) (p:=p) (c':=97+i) (kk:=kk) (wd:=wd) (l:=l) (O:=O) (x6:=U) (x10:=x10) ⋯ ⋯ Y ⋯ h2 h hO;exact#[_,_,rfl,.inl eb,l',O',_,_,h',a4,λ_=>ne ⋯,rfl]) #[wpR c m size rest wd U (lH (.int (p:Int))) (lH (.ptr kk)) na na,O] #[l,O,na,na,hl,hO,λh=>absurd h (by simp),rfl]
 refine#[zs,O2.set kk .dead, ?_,hz,a2 (by rw[xz,ss,al];simp)];refine du (R:=wpR c m size rest wd U (lH (.int (p:Int))) (lH (.ptr kk)) a0 am) ?_;show qO #[[lH (.int c),lH (.int (m:Int)),na,na,na,na,na,na,na,na,na],[]]=_;rw[qO];refine aT (bA (aF _) rfl) (aT (bA (d:=.int (size:Int)) (aN (aF _) (aN (ag rfl) (aF _) (fu ∅)) (by rw[fv,hsz])) rfl) (aT (bA (d:=.int (c/8%10^18)) (aN (aN (ag rfl) (aF _) (ib ∅ ∅)) (aN (aF _) (aF _) (mO ∅ ∅ ∅)) (fu ∅)) rfl) (aT (bA (R':=wpR c m size (c/8%10^18) [] na na na na na) (aF _) rfl) (aT (s1:=#[wpR c m size rest wd U na na na na,[]]) ?_ (aT (bA (R':=wpR c m size rest wd U (lH (.int (p:Int))) na na na) (aN (aN (ag rfl) (aF _) (ib ∅ ∅)) (ag rfl) (by rw[fu (j:=(size:Int)) ⋯,hp])) rfl) (aT (bA (R':=wpR c m size rest wd U (lH (.int (p:Int))) (lH (.ptr 0)) na na) (sj (O:=[]) aI (by simp) rfl rfl) rfl) (aT es (aT ?_ (bt (nC (ag rfl) a1 rfl))))))))));exact(dh (ds:=cN 0 (size:Int)) (k:=na) (s1:=#[wpR c m size (c/8%10^18) [] na na na na na,[]]) (gD (aB (ag rfl) aI) ⋯)).trans el;exact(dh (ds:=ABC.cps.toList.map λc=>D.str #[#v[c]]) (k:=na) (s1:=#[wpR c m size rest wd U (lH (.int (p:Int))) (lH (.ptr kk)) na na,O]) (by rw[Fe,ag (i:=2) rfl,aj];rfl)).trans az
theorem lI{mb mm:EM}(h:cG O j)(hm:0<m)(h1:mb #[R,O]=.ok (.ptr j,#[R,O]))(h2:mm #[R,O]=.ok (.int m,#[R,O])):
 ∃(r:Nat) (O':aA),bQ 2 aV (af mb (af mm ar)) #[R,O]=.ok (.int (r:Int),#[R,O'])/\(r:Int)<m/\cG O' j/\∀i,i≠j->O'[i]? =O[i]? :=by
 obtain⟨r,O',e,U,r1,hb,hk⟩:=J5 h hm;refine#[r.toNat,O', ?_,⋯,hb,hk];rw[show ((r.toNat:Nat):Int)=r by omega];exact gP (aB h1 (aB h2 aI)) e rfl
theorem cG.app{O E:aA}(h:cG O j):cG (O++E) j:=by obtain⟨a,c,h⟩:=h;exact#[a,c,fJ h]
theorem cG.set{c:Cell}(h:cG O j)(hk:k≠j):cG (O.set k c) j:=by obtain⟨a,b,h⟩:=h;exact#[a,b,by rw[de hk];exact h]
theorem cG.lt(h:cG O j):j<O.length:=by obtain⟨a,c,h⟩:=h;exact nO h
abbrev wyR(j n:Nat)(U x3 x4:Option D):List (Option D):=[lH (.ptr j),lH (.int (n:Int)),U,x3,x4]
theorem Pk{g:Int}(U:0<=g/\g<1000000)(hi:i<7):0<=nth [1,0,2,0,1,3,g] i/\nth [1,0,2,0,1,3,g] i<1000000:=by rcases i with _ | _ | _ | _ | _ | _ | _ | i;exact#[by show (0:Int)<=1;decide,by show (1:Int)<1000000;decide];exact#[by show (0:Int)<=0;decide,by show (0:Int)<1000000;decide];exact#[by show (0:Int)<=2;decide,by show (2:Int)<1000000;decide];exact#[by show (0:Int)<=0;decide,by show (0:Int)<1000000;decide];exact#[by show (0:Int)<=1;decide,by show (1:Int)<1000000;decide];exact#[by show (0:Int)<=3;decide,by show (3:Int)<1000000;decide];exact U;omega
theorem P0{j n kk:Nat}{x3 x4:Option D}(hb:cG O j)(U:kk≠j)(hO:O[kk]? =lH (.lst (w.map D.int)))(hl:w.length<=1000):
 ∃v O' y4,nv #[wyR j n (lH (.ptr kk)) x3 x4,O]=.next #[wyR j n (lH (.ptr kk)) x3 y4,O']/\O'[kk]? =lH (.lst ((w++[v]).map D.int))/\(0<=v/\v<1000000)/\cG O' j:=by
 have st:∃(g:Int) (O1:aA),(ifS (aS (ak ltD (aa 1) (ao (.int 4)))) (setM 4 (bQ 2 aV (af (aa 0) (af (ak jD (ao (.int 10)) (ao (.int 6))) ar)))) bB) #[wyR j n (lH (.ptr kk)) x3 (lH (.int 1)),O]=.next #[wyR j n (lH (.ptr kk)) x3 (lH (.int g)),O1]/\(0<=g/\g<1000000)/\cG O1 j/\O1[kk]? =lH (.lst (w.map D.int)):=by have t:aS (ak ltD (aa 1) (ao (.int 4))) #[wyR j n (lH (.ptr kk)) x3 (lH (.int 1)),O]=.ok (decide ((n:Int)<4),#[wyR j n (lH (.ptr kk)) x3 (lH (.int 1)),O]):=c9 (aN (ag rfl) (aF _) k6);by_cases h4:(n:Int)<4;obtain⟨r,O1,e,r1,Y,al⟩:=lI (R:=wyR j n (lH (.ptr kk)) x3 (lH (.int 1))) (m:=1000000) hb ∅ (mb:=aa 0) (mm:=ak jD (ao (.int 10)) (ao (.int 6))) (ag rfl) (aN (aF _) (aF _) (mO ∅ ∅ ∅));exact#[r,O1,eT t (decide_eq_true h4) (bA e rfl),#[⋯,⋯],Y,by rw[al kk U];exact hO];exact#[1,O,dJ t (decide_eq_false h4) cg,#[∅,∅],hb,hO]
 obtain⟨g,O1,e1,hg,Y,ab⟩:=st;obtain⟨r,O2,e2,r1,am,an⟩:=lI (R:=wyR j n (lH (.ptr kk)) x3 (lH (.int g))) (m:=7) Y ∅ (mb:=aa 0) (mm:=ao (.int 7)) (ag rfl) (aF _);have hr:r < [1,0,2,0,1,3,g].length:=by simp;omega
 have ac:O2[kk]? =lH (.lst (w.map D.int)):=by rw[an kk U];exact ab
 refine#[nth [1,0,2,0,1,3,g] r,O2.set kk (.lst (w.map D.int++[.int (nth [1,0,2,0,1,3,g] r)])),lH (.int g), ?_,by rw[Q7];exact df ac,Pk hg ⋯,am.set U];rw[nv];exact aT (bA (aF _) rfl) (aT e1 (dG (vW (ag rfl) ab (aN (wI (aB (aF _) (aB (aF _) (aB (aF _) (aB (aF _) (aB (aF _) (aB (aF _) (aB (ag rfl) aI))))))) (by simp)) e2 (jo hr)) ac (by simp;omega) rfl)))
theorem L8(hb:cG O j)(h1:1<=n)(hn:n<=100):∃(w:List Int) (kk:Nat) (O':aA),qs [.ptr j,.int (n:Int)] O=.ok (.ptr kk,O')/\O'[kk]? =lH (.lst (w.map D.int))/\w.length=n/\(∀x∈w,0<=x/\x<1000000)/\cG O' j/\kk≠j:=by
 have jl:=hb.lt;have U:O.length≠j:=⋯;have b0:cG (O++[.lst [.int 1]]) j:=hb.app;have g0:(O++[Cell.lst [.int 1]])[O.length]? =lH (.lst (([1]:List Int).map D.int)):=gj;have e2:setM 2 (g5 (af (ao (.int 1)) ar)) #[wyR j n na na na,O]=.next #[wyR j n (lH (.ptr O.length)) na na,O++[.lst [.int 1]]]:=bA (sj (aB (aF _) aI) (by simp) rfl rfl) rfl
 generalize O++[Cell.lst [.int 1]]=O1 at b0 g0 e2;generalize O.length=kk at U g0 e2;obtain⟨s',el,w,O',x3,x4,Y,wl,wb,hb',rfl⟩:=dF (ok:=okC (cN 0 ((n-1:Nat):Int)) na) (g:=aD 3) (body:=nv)
  (λpre s=>∃(w:List Int) (O:aA) (x3 x4:Option D),O[kk]? =lH (.lst (w.map D.int))/\w.length=1+pre.length/\(∀x∈w,0<=x/\x<1000000)/\cG O j/\s=#[wyR j n (lH (.ptr kk)) x3 x4,O]) (λ_ _ _=>trivial) (cN 0 ((n-1:Nat):Int)) [] (by
   rintro pre d rest ed s ⟨w,O,x3,x4,hO,wl,wb,hb,rfl⟩;rw[xz,iF] at ed;obtain⟨rfl,ap⟩:=kB ed;obtain⟨v,O',y4,eb,Y,vb,hb'⟩:=P0 (n:=n) (x3:=lH (.int (pre.length:Int))) (x4:=x4) hb U hO ⋯;refine#[_,_,rfl,.inl eb,w++[v],O',_,_,Y,by simp[wl];omega,λx hx=> ?_,hb',rfl];rcases wn.mp hx with q | q
   exact wb x q;rw[wf.mp q];exact vb) #[wyR j n (lH (.ptr kk)) na na,O1] #[[1],O1,na,na,g0,rfl,(λx hx=>by rw[wf.mp hx];decide),b0,rfl]
 rw[xz,iT] at wl;refine#[w,kk,O', ?_,Y,⋯,wb,hb',U];refine du (R:=wyR j n (lH (.ptr kk)) x3 x4) ?_;show uV #[wyR j n na na na,O]=_;rw[uV];refine aT e2 (aT ((dh (ds:=cN 0 ((n-1:Nat):Int)) (k:=na) (s1:=#[wyR j n (lH (.ptr kk)) na na,O1]) (gD (aB (aN (ag rfl) (aF _) ?_) aI) ⋯)).trans el) (bt (ag rfl)));rw[Ef,show (n:Int)-1=((n-1:Nat):Int) by omega]
theorem yY{b:Nat}:∀(l:List Int),SzL b l->l.sum.natAbs<=l.length*2^b
 | [],_=>by simp
 | x::l,h=>by have h1:=yY l λy hy=>h y (sB _ hy);have h2:x.natAbs<2^b:=h x sH;rw[S5,wT,Nat.add_mul];have:=Uc x l.sum;omega
abbrev chR(cs:List Int)(goods:List Str)(kw km:Nat)(wide:Int)(x5 x6 x7 x8:Option D):List (Option D):=[lH (vI cs),lH (sD goods),lH (.ptr kw),lH (.ptr km),lH (.int wide),x5,x6,x7,x8]
structure ChI(g:Nat)(A:List (List Int)):Prop where
 len:∀r∈A,r.length=g
 sz:cD 31 A
theorem M6{x w:Int}(h:Sz 31 x)(h1:9<w)(h2:w<12):Sz 31 (x*(21-2*w)):=by have q:21-2*w=1\/21-2*w= -1:=⋯;unfold Sz at *;rcases q with q | q <;> rw[q] <;> omega
theorem JB{cs:List Int}(az:0<cs.length){kw km k L:Nat}{wide:Int}{O O0:aA}{x6 x7 x8:Option D}(hg:goods.length<=100)(hw:0<wide)(a2:wide<=1000000000)(hL:L<=km)(fr:∀i,i<L->O[i]? =O0[i]?)(hA:O[km]? =lH (.lst (A.map vI)))(hk:A.length=k)(al:k<=100)(h:ChI goods.length A):
 ∃r O' y6 y7 y8,jq #[chR cs goods kw km wide (lH (.int (k:Int))) x6 x7 x8,O]=.next #[chR cs goods kw km wide (lH (.int (k:Int))) y6 y7 y8,O']/\O'[km]? =lH (.lst ((A++[r]).map vI))/\(∀i,i<L->O'[i]? =O0[i]?)/\r.length=goods.length/\SzL 31 r:=by
 have a3:k%cs.length<cs.length:=Nat.mod_lt _ az;have a4:km<O.length:=nO hA;have hp:(0:Int)<(cs.length:Int):=⋯;obtain⟨a0,c0,eb⟩:=C2 (nth cs (k%cs.length)+700001*((k:Int)/(cs.length:Int)));have ln:bN cF (af (aa 0) ar) #[chR cs goods kw km wide (lH (.int (k:Int))) x6 x7 x8,O]=.ok (.int (cs.length:Int),#[chR cs goods kw km wide (lH (.int (k:Int))) x6 x7 x8,O]):=jW (aB (ag rfl) aI) (by rw[hZ,ss]);have e6:setM 6 (dP 1 gu (af (ak cx (ak ixD (aa 0) (ak gh (aa 5) (bN cF (af (aa 0) ar)))) (ak cT (ao (.int 700001)) (ak d3 (aa 5) (bN cF (af (aa 0) ar))))) ar)) #[chR cs goods kw km wide (lH (.int (k:Int))) x6 x7 x8,O]=.next #[chR cs goods kw km wide (lH (.int (k:Int))) (lH (.ptr O.length)) x7 x8,O++[.lst [.int a0,.int c0]]]:=by refine bA (i6 (aB (aN (aN (ag rfl) (aN (ag rfl) ln (fu hp)) ?_) (aN (aF _) (aN (ag rfl) ln (d:=.int ((k:Int)/(cs.length:Int))) ?_) (cV (gk (.inl ∅)))) fv) aI) eb rfl rfl iI ?_) rfl;rw[show (k:Int)%(cs.length:Int)=((k%cs.length:Nat):Int) by simp];exact jo a3;rw[lD ⋯,pk hp];simp[shC,eN,shD]
 have Y:cG (O++[.lst [.int a0,.int c0]]) O.length:=#[a0,c0,gj];have g1:(O++[Cell.lst [.int a0,.int c0]])[km]? =lH (.lst (A.map vI)):=fJ hA;have f1:∀i,i<L->(O++[Cell.lst [.int a0,.int c0]])[i]? =O0[i]? :=λi hi=>by rw[wv ⋯];exact fr i hi
 generalize hj:O.length=j at e6 Y a4;generalize O++[Cell.lst [.int a0,.int c0]]=O1 at e6 Y g1 f1;have kj:km≠j:=⋯;have Lj:∀i,i<L->i≠j:=λi hi=>⋯;obtain⟨one,O2,e7,l7,s7,b2,g2,f2⟩:=IW (caps:=[6,4]) (im:=listI (aa 1)) (e:=bQ 2 fN (af (aa 1) (af (aa 2) ar))) (s:=#[chR cs goods kw km wide (lH (.int (k:Int))) (lH (.ptr j)) x7 x8,O1]) (ds:=goods.map D.str) (k:=na)
  (λO'=>cG O' j/\O'[km]? =lH (.lst (A.map vI))/\∀i,i<L->O'[i]? =O0[i]?) (Sz 31) (by rw[cz,ag (i:=1) rfl,aj];rfl) (λ_ _=>trivial) #[Y,g1,f1] (by simp;omega) (λd _ O' #[hb,hg,hf]=>by obtain⟨r,O2,en,q1,q2,q3⟩:=G9 hb hw a2;exact#[r,O2,gP (aB (ag rfl) (aB (ag rfl) aI)) en rfl,q1,q2,by rw[q3 km kj];exact hg,λi hi=>by rw[q3 i (Lj i hi)];exact hf i hi])
 rw[ss] at l7;obtain⟨w,U,e8,w1,b3,k3⟩:=lI (R:=chR cs goods kw km wide (lH (.int (k:Int))) (lH (.ptr j)) (lH (vI one)) x8) (m:=12) b2 ∅ (mb:=aa 6) (mm:=ao (.int 12)) (ag rfl) (aF _);have g3:U[km]? =lH (.lst (A.map vI)):=by rw[k3 km kj];exact g2
 have f3:∀i,i<L->U[i]? =O0[i]? :=λi hi=>by rw[k3 i (Lj i hi)];exact f2 i hi
 have bb:∃r1,(ifS (kM (aS (ak gtD (aa 8) (ao (.int 9)))) (aS (ak gtD (aa 5) (ao (.int 0))))) (setM 7 (bL 1 [8] (listI (ak ixD (aa 3) (unM iO (ao (.int 1))))) (aD 0) bR (ak cT (aa 0) (ak kY (ao (.int 21)) (ak cT (ao (.int 2)) (aa 1)))))) bB) #[chR cs goods kw km wide (lH (.int (k:Int))) (lH (.ptr j)) (lH (vI one)) (lH (.int (w:Int))),U]=.next #[chR cs goods kw km wide (lH (.int (k:Int))) (lH (.ptr j)) (lH (vI r1)) (lH (.int (w:Int))),U]/\r1.length=goods.length/\SzL 31 r1:=by
  have t:=Gx (gv (j:=9) (ag (s:=#[chR cs goods kw km wide (lH (.int (k:Int))) (lH (.ptr j)) (lH (vI one)) (lH (.int (w:Int))),U]) (i:=8) rfl)) (gv (j:=0) (ag (i:=5) rfl));cases hb:(decide ((9:Int)<(w:Int))&&decide ((0:Int)<(k:Int))) with
  | false=>exact#[one,dJ t hb cg,l7,s7]
  | true=>
   obtain⟨Y,b2⟩:=(Rp _ _▸hb:_/\_);have Y:=of_decide_eq_true Y;have b2:=of_decide_eq_true b2;have a1:atI (A.map vI) (-1)=lH (vI (A[A.length-1]'(⋯))):=by have:=LJ (l:=A.map vI) (i:=1) ∅ (by simp;omega);rw[show (-((1:Nat):Int))= -1 by rfl] at this;rw[this];simp
   have m1:A[A.length-1]'(⋯)∈A:=Cg _;generalize A[A.length-1]'(⋯)=p1 at a1 m1;have pl:=h.len p1 m1;have ec:=dS (l:=p1) (item:=D.int) (out:=λx=>.int (x*(21-2*(w:Int)))) (caps:=[8]) (im:=listI (ak ixD (aa 3) (unM iO (ao (.int 1))))) (e:=ak cT (aa 0) (ak kY (ao (.int 21)) (ak cT (ao (.int 2)) (aa 1)))) (k:=na) (s:=#[chR cs goods kw km wide (lH (.int (k:Int))) (lH (.ptr j)) (lH (vI one)) (lH (.int (w:Int))),U]) (by rw[cz,aN (ag (i:=3) rfl) (Hf (aF _) tE) (p6 g3 a1),aj];rfl) trivial ⋯ (λx _=>aN (ag rfl) (aN (aF _) (aN (aF _) (ag rfl) (cV (gk (.inl ∅)))) Ef) (cV (gk (.inr ⋯))))
   rw[show p1.map (λx=>D.int (x*(21-2*(w:Int))))=(p1.map (· * (21-2*(w:Int)))).map D.int by rw[wh];rfl] at ec;refine#[p1.map (· * (21-2*(w:Int))),eT t hb (bA ec rfl),by simp[pl],λx hx=> ?_];obtain⟨y,hy,rfl⟩:=pr.mp hx;exact M6 (h.sz p1 m1 y hy) Y w1
 obtain⟨r1,e9,l9,s9⟩:=bb;have be:∃r2,(ifS (aS (ak eqD (aa 8) (ao (.int 9)))) (setM 7 (bL 1 [] (listI (aa 1)) (aD 0) bR (ao (.int 0)))) bB) #[chR cs goods kw km wide (lH (.int (k:Int))) (lH (.ptr j)) (lH (vI r1)) (lH (.int (w:Int))),U]=.next #[chR cs goods kw km wide (lH (.int (k:Int))) (lH (.ptr j)) (lH (vI r2)) (lH (.int (w:Int))),U]/\r2.length=goods.length/\SzL 31 r2:=by have t:=eq_test (j:=9) (ag (s:=#[chR cs goods kw km wide (lH (.int (k:Int))) (lH (.ptr j)) (lH (vI r1)) (lH (.int (w:Int))),U]) (i:=8) rfl);by_cases hb:(w:Int)=9;have ec:=dS (l:=goods) (item:=D.str) (out:=λ_=>.int 0) (caps:=[]) (im:=listI (aa 1)) (e:=ao (.int 0)) (k:=na) (s:=#[chR cs goods kw km wide (lH (.int (k:Int))) (lH (.ptr j)) (lH (vI r1)) (lH (.int (w:Int))),U]) (by rw[cz,ag (i:=1) rfl,aj];rfl) trivial ⋯ (λ_ _=>aF _);rw[show goods.map (λ_=>D.int 0)=(goods.map λ_=>(0:Int)).map D.int by rw[wh];rfl] at ec;refine#[goods.map λ_=>0,eT t (decide_eq_true hb) (bA ec rfl),by simp,λx hx=> ?_];obtain⟨y,_,rfl⟩:=pr.mp hx;exact Sz.zero _;exact#[r1,dJ t (decide_eq_false hb) cg,l9,s9]
 obtain⟨r2,bi,bm,bn⟩:=be;refine#[r2,U.set km (.lst (A.map vI++[vI r2])),lH (.ptr j),lH (vI r2),lH (.int (w:Int)), ?_,by rw[Q7];exact df g3,λi hi=>by rw[de ⋯];exact f3 i hi,bm,bn];rw[jq];exact aT e6 (aT (bA e7 rfl) (aT (bA e8 rfl) (aT e9 (aT bi (dG (vW (ag rfl) g3 (ag rfl) g3 (by simp;omega) rfl))))))
theorem Jt(h:O[k]? =lH (.lst (A.map vI)))(hi:i<A.length):ixD O (.ptr k) (.int (i:Int))=.ok (vI (A.getD i [])):=by refine p6 h ?_;rw[eU (by simpa using hi)];simp[nu,hi]
theorem Ea(h:O[k]? =lH (.lst (y.map D.int)))(hi:i<y.length):ixD O (.ptr k) (.int (i:Int))=.ok (.int (nth y i)):=by refine p6 h ?_;rw[eU (by simpa using hi)];simp[nth,nu,hi]
theorem A8(h:i<A.length):A.getD i []∈A:=by rw[nu,sn h];exact Cg _
theorem EX{cs:List Int}(a0:0<cs.length){kw:Nat}(hg:goods.length<=100)(h1:1<=w.length)(h6:w.length<=7)(wb:∀x∈w,0<=x/\x<1000000)(hW:O[kw]? =lH (.lst (w.map D.int))):
 ∃A O',iW [vI cs,sD goods,.ptr kw] O=.ok (vII A,O')/\(∀i,i<O.length->O'[i]? =O[i]?)/\A.length=w.length/\(∀r∈A,r.length=goods.length)/\cD 60 A:=by
 have Y:kw<O.length:=nO hW;have g0:(O++[Cell.lst []])[O.length]? =lH (.lst (([]:List (List Int)).map vI)):=gj;have f0:∀i,i<O.length->(O++[Cell.lst []])[i]? =O[i]? :=λi hi=>wv hi;have e3:∀x4,setM 3 (g5 ar) #[[lH (vI cs),lH (sD goods),lH (.ptr kw),na,x4,na,na,na,na],O]=.next #[[lH (vI cs),lH (sD goods),lH (.ptr kw),lH (.ptr O.length),x4,na,na,na,na],O++[.lst []]]:=λ_=>bA (sj aI (by simp) rfl rfl) rfl
 obtain⟨L,hL⟩:∃L,O.length=L:=#[_,rfl];rw[hL] at Y g0 f0 e3;generalize O++[Cell.lst []]=O1 at g0 f0 e3;have ln:∀{x4 x5 x6 x7 x8:Option D} {O':aA},O'[kw]? =lH (.lst (w.map D.int))->bN cF (af (aa 2) ar) #[[lH (vI cs),lH (sD goods),lH (.ptr kw),lH (.ptr L),x4,x5,x6,x7,x8],O']=.ok (.int (w.length:Int),#[[lH (vI cs),lH (sD goods),lH (.ptr kw),lH (.ptr L),x4,x5,x6,x7,x8],O']):=λhO=>jW (aB (ag rfl) aI) (by rw[ym hO,ss]);have W1:O1[kw]? =lH (.lst (w.map D.int)):=by rw[f0 kw Y];exact hW
 have a3:∃wide:Int,(0<wide/\wide<=1000000000)/\(ifS (aS (ak ltD (bN cF (af (aa 2) ar)) (ao (.int 4)))) (setM 4 (ak jD (ao (.int 10)) (ao (.int 9)))) bB) #[chR cs goods kw L 4 na na na na,O1]=.next #[chR cs goods kw L wide na na na na,O1]:=by have t:=c9 (aN (ln (x4:=lH (.int 4)) (x5:=na) (x6:=na) (x7:=na) (x8:=na) W1) (aF (.int 4)) k6);by_cases h4:(w.length:Int)<4;exact#[1000000000,∅,eT t (decide_eq_true h4) (bA (aN (aF _) (aF _) (mO ∅ ∅ ∅)) rfl)];exact#[4,∅,dJ t (decide_eq_false h4) cg]
 obtain⟨wide,hw,e4⟩:=a3;obtain⟨s',el,A,U,x5,x6,x7,x8,al,ch,hA,f2,rfl⟩:=dF (ok:=okC (cN 0 (w.length:Int)) na) (g:=aD 5) (body:=jq)
  (λpre s=>∃(A:List (List Int)) (U:aA) (x5 x6 x7 x8:Option D),A.length=pre.length/\ChI goods.length A/\U[L]? =lH (.lst (A.map vI))/\(∀i,i<L->U[i]? =O[i]?)/\s=#[chR cs goods kw L wide x5 x6 x7 x8,U]) (λ_ _ _=>trivial) (cN 0 (w.length:Int)) [] (by
   rintro pre d rest ed s ⟨A,U,x5,x6,x7,x8,al,ch,hA,f2,rfl⟩;rw[xz,iF] at ed;obtain⟨rfl,cn⟩:=kB ed;obtain⟨r,O3,y6,y7,y8,eb,am,f3,rl,rs⟩:=JB a0 (goods:=goods) (kw:=kw) (km:=L) (k:=pre.length) (x6:=x6) (x7:=x7) (x8:=x8) hg hw.1 hw.2 (ut L) f2 hA al ⋯ ch;refine#[_,_,rfl,.inl eb,A++[r],O3,_,_,_,_,by simp[al],#[λz hz=> ?_,λz hz=> ?_],am,f3,rfl];rcases wn.mp hz with q | q
   exact ch.len z q;rw[wf.mp q];exact rl;rcases wn.mp hz with q | q
   exact ch.sz z q;rw[wf.mp q];exact rs) #[chR cs goods kw L wide na na na na,O1] #[[],O1,na,na,na,na,rfl,#[by simp,λr hr=>by cases hr],g0,f0,rfl]
 rw[xz,iT] at al;have al:A.length=w.length:=⋯;have W2:U[kw]? =lH (.lst (w.map D.int)):=by rw[f2 kw Y];exact hW
 have zw:SzL 20 w:=λx hx=>by have:=wb x hx;unfold Sz;omega
 have bb:∃A' O3,(ifS (aS (ak eqD (ak ixD (aa 2) (ao (.int 0))) (ao (.int 1)))) (gi (bL 1 [3,2] (g9 (af (bN cF (af (aa 1) ar)) ar)) (aD 0) bR (unM iO (bN xI (af (bL 1 [0,1,2] (rf (af (ao (.int 1)) (af (bN cF (af (aa 2) ar)) ar))) (aD 0) bR (ak cT (ak ixD (ak ixD (aa 2) (aa 0)) (aa 1)) (ak ixD (aa 3) (aa 0)))) ar)))) (jk (aa 3) (ao (.int 0)))) bB) #[chR cs goods kw L wide x5 x6 x7 x8,U]=.next #[chR cs goods kw L wide x5 x6 x7 x8,O3]/\O3[L]? =lH (.lst (A'.map vI))/\(∀i,i<L->O3[i]? =O[i]?)/\A'.length=w.length/\(∀r∈A',r.length=goods.length)/\cD 60 A':=by
  have t:=eq_test (j:=1) (aN (ag (s:=#[chR cs goods kw L wide x5 x6 x7 x8,U]) (i:=2) rfl) (aF (.int ((0:Nat):Int))) (Ea W2 (show 0<w.length by omega)));by_cases hb:nth w 0=1;have ec:=dS (l:=tz goods.length) (item:=λg:Nat=>D.int (g:Int)) (out:=λg:Nat=>.int (-((tz (w.length-1)).map λk:Nat=>nth (A.getD (k+1) []) g*nth w (k+1)).sum)) (caps:=[3,2]) (im:=g9 (af (bN cF (af (aa 1) ar)) ar)) (e:=unM iO (bN xI (af (bL 1 [0,1,2] (rf (af (ao (.int 1)) (af (bN cF (af (aa 2) ar)) ar))) (aD 0) bR (ak cT (ak ixD (ak ixD (aa 2) (aa 0)) (aa 1)) (ak ixD (aa 3) (aa 0)))) ar))) (k:=na) (s:=#[chR cs goods kw L wide x5 x6 x7 x8,U]) (by
   rw[<- iF];exact gD (aB (jW (aB (ag rfl) aI) (by rw[hZ,ss])) aI) ⋯) trivial (by simp;omega) (λg be=>by
   have bi:=Ch.mp be;have ei:=dS (l:=tz (w.length-1)) (item:=λk:Nat=>D.int (1+(k:Int))) (out:=λk:Nat=>.int (nth (A.getD (k+1) []) g*nth w (k+1))) (caps:=[0,1,2]) (im:=rf (af (ao (.int 1)) (af (bN cF (af (aa 2) ar)) ar))) (e:=ak cT (ak ixD (ak ixD (aa 2) (aa 0)) (aa 1)) (ak ixD (aa 3) (aa 0))) (k:=na) (s:=#[[lH (.int (g:Int)),lH (.ptr L),lH (.ptr kw)],U]) (by
    rw[<- E7,show w.length-1+1=w.length by omega];exact Eo (aB (aF _) (aB (jW (aB (ag rfl) aI) (by rw[ym W2,ss])) aI)) ⋯) trivial (by simp;omega) (λk hk=>by
    have bm:=Ch.mp hk;have q1:ixD U (.ptr L) (.int (1+(k:Int)))=.ok (vI (A.getD (k+1) [])):=by rw[show 1+(k:Int)=((k+1:Nat):Int) by omega];exact Jt hA ⋯
    have q2:ixD U (.ptr kw) (.int (1+(k:Int)))=.ok (.int (nth w (k+1))):=by rw[show 1+(k:Int)=((k+1:Nat):Int) by omega];exact Ea W2 ⋯
    have rl:=ch.len _ (A8 (A:=A) (i:=k+1) ⋯);have z2:=zw.nth (k+1);exact aN (aN (aN (ag rfl) (ag rfl) q1) (ag rfl) (jo ⋯)) (aN (ag rfl) (ag rfl) q2) (cV (gk (.inr (AT z2 ∅)))))
   rw[show (tz (w.length-1)).map (λk:Nat=>D.int (nth (A.getD (k+1) []) g*nth w (k+1)))=((tz (w.length-1)).map λk:Nat=>nth (A.getD (k+1) []) g*nth w (k+1)).map D.int by rw[wh];rfl] at ei;exact Hf (jW (aB ei aI) vD) tE)
  rw[show (tz goods.length).map (λg:Nat=>D.int (-((tz (w.length-1)).map λk:Nat=>nth (A.getD (k+1) []) g*nth w (k+1)).sum))=((tz goods.length).map λg:Nat=> -((tz (w.length-1)).map λk:Nat=>nth (A.getD (k+1) []) g*nth w (k+1)).sum).map D.int by rw[wh];rfl] at ec;have zl:((tz goods.length).map λg:Nat=> -((tz (w.length-1)).map λk:Nat=>nth (A.getD (k+1) []) g*nth w (k+1)).sum).length=goods.length:=by simp
  have zz:SzL 60 ((tz goods.length).map λg:Nat=> -((tz (w.length-1)).map λk:Nat=>nth (A.getD (k+1) []) g*nth w (k+1)).sum):=λx hx=>by
   obtain⟨g,bi,rfl⟩:=pr.mp hx;refine Sz.neg ?_;have:=yY (b:=51) ((tz (w.length-1)).map λk:Nat=>nth (A.getD (k+1) []) g*nth w (k+1)) (λy hy=>by obtain⟨k,hk,rfl⟩:=pr.mp hy;have bm:=Ch.mp hk;exact Sz.mul ((ch.sz _ (A8 (A:=A) (i:=k+1) ⋯)).nth g) (zw.nth (k+1)))
   rw[ss,Sn] at this;exact SG this ⋯
  generalize (tz goods.length).map (λg:Nat=> -((tz (w.length-1)).map λk:Nat=>nth (A.getD (k+1) []) g*nth w (k+1)).sum)=z at ec zl zz;refine#[A.set 0 z,U.set L (.lst ((A.map vI).set 0 (vI z))),eT t (decide_eq_true hb) (Cb ec (kN (a:=0) (ag rfl) (aF _) hA (by simp;omega))),by rw[df hA,TQ],λi hi=>by rw[de ⋯];exact f2 i hi,by simp[al],λr hr=> ?_,λr hr=> ?_];rcases Ss hr with q | q
  exact ch.len r q;rw[q];exact zl;rcases Ss hr with q | q
  exact(ch.sz r q).mono ∅;rw[q];exact zz;exact#[A,U,dJ t (decide_eq_false hb) cg,hA,f2,al,ch.len,ch.sz.mono ∅]
 obtain⟨A',O3,e6,am,f3,bn,bp,bv⟩:=bb;refine#[A',O3.set L .dead, ?_,λi hi=>by rw[de ⋯];exact f3 i ⋯,bn,bp,bv];refine du (R:=chR cs goods kw L wide x5 x6 x7 x8) ?_;show oq #[[lH (vI cs),lH (sD goods),lH (.ptr kw),na,na,na,na,na,na],O]=_;rw[oq];exact aT (e3 _) (aT (bA (aF _) rfl) (aT e4 (aT ((dh (ds:=cN 0 (w.length:Int)) (k:=na) (s1:=#[chR cs goods kw L wide na na na na,O1]) (gD (aB (ln W1) aI) ⋯)).trans el) (aT e6 (bt (nC (ag rfl) am rfl))))))
theorem HU{m1 m2:EM}{s s1 s2:S}{i j:Int}(h1:m1 s=.ok (.int i,s1))(h2:m2 s1=.ok (.int j,s2)):bN sZ (af m1 (af m2 ar)) s=.ok (.int (max i j),s2):=by refine jW (aB h1 (aB h2 aI)) ?_;show Res.ok (D.int (if j>i then j else i))=_;congr 2;split <;> omega
def rk(l:List (Str×Int))(g:Str)(a:Int):List (Str×Int):=if 0<a then l++[(g,a)] else l
theorem Be{l r:List (Str×Int)}:sumOf h (l++r)=sumOf h l+sumOf h r:=by unfold sumOf;rw[List.filter_append,Q7,List.sum_append]
theorem Bf{a:Int}:sumOf h [(g,a)]=if g=h then a else 0:=by unfold sumOf;by_cases e:g=h;rw[if_pos e,Go (by simpa using e)];simp;rw[if_neg e,Rf (by simpa using e)];rfl
theorem Ji(e:∀p∈l,p.1≠h):sumOf h l=0:=by unfold sumOf;rw[List.filter_eq_nil_iff.mpr (λp hp=>by simpa using e p hp)];rfl
theorem E6(U:goods.Nodup)(hi:i<goods.length)(h:Pt goods i l){a:Int}:Pt goods (i+1) (rk l goods[i] a):=by unfold rk;split;exact h.more U hi ⋯;exact h.same
theorem Bm(U:goods.Nodup)(hi:i<goods.length)(h:Pt goods i l){a:Int}(ha:0<=a):sumOf goods[i] (rk l goods[i] a)=a:=by
 have z:sumOf goods[i] l=0:=Ji λp hp e=>by have:=h.mem p hp;rw[e] at this;exact jU U hi this
 unfold rk;split;rw[Be,z,Bf,if_pos rfl,Int.zero_add];rw[z];omega
theorem zu(U:goods.Nodup)(hi:i<goods.length)(Y:j<i)(l:List (Str×Int))(a:Int):sumOf (goods[j]'(⋯)) (rk l goods[i] a)=sumOf (goods[j]'(⋯)) l:=by
 have ne:goods[i]≠goods[j]'(⋯):=λe=>by have:goods[j]'(⋯)∈goods.take i:=IN (i:=j) (by rw[Uq Y,sn ⋯]);exact jU U hi (by rw[e];exact this)
 unfold rk;split;rw[Be,Bf,if_neg ne,Int.add_zero];rfl
structure WkI(goods:List Str)(mv:List Int)(i:Nat)(us ms:List (Str×Int)):Prop where
 u:Pt goods i us
 m:Pt goods i ms
 s:∀j,(hj:j<goods.length)->j<i->sumOf goods[j] ms-sumOf goods[j] us=nth mv j
theorem ng{l:List Str}(h:i<l.length):ixD O (sD l) (.int (i:Int))=.ok (.str l[i]):=by refine mY ?_;rw[eU (by simpa using h)];simp
structure Cd(goods:List Str)(w:Wk):Prop where
 us:oY goods w.us/\w.us.length<=100
 ms:oY goods w.ms/\w.ms.length<=100
theorem AG{α β:Type}{f:α->D}{g:β->D}{as:List α}{bs:List β}:fX (as.map f) (bs.map g)=(as.zip bs).map λp=>.tup [f p.1,g p.2]:=by
 unfold fX;rw[Um];induction as generalizing bs with
 | nil=>rfl
 | cons a as U=>
  cases bs with
  | nil=>rfl
  | cons b bs=>simp[U]
theorem BB{α β:Type}{f:α->D}{g:β->D}{as:List α}{bs:List β}(U:as.length=bs.length){pre rest:List D}(h:fX (as.map f) (bs.map g)=pre++d::rest):∃(h1:pre.length<as.length) (h2:pre.length<bs.length),d=.tup [f as[pre.length],g bs[pre.length]]:=by rw[AG] at h;obtain⟨q,e⟩:=nR h;rw[RU] at q;refine#[⋯,⋯, ?_];rw[e];simp
theorem Fc{α β:Type}{f:α->D}{g:β->D}{as:List α}{bs:List β}(U:as.length=bs.length):(fX (as.map f) (bs.map g)).length=as.length:=by rw[AG];simp[U]
theorem A6{kk slot:Nat}{c:TM}{p:Bool}{a:Int}(hs:R[slot]? =lH (lH (.ptr kk)))(Y:R[9]? =lH (lH (.str g)))(U:O[kk]? =lH (.lst (l.map pD)))(hl:l.length<=1000)(he:me #[R,O]=.ok (.int a,#[R,O]))(hc:c #[R,O]=.ok (p,#[R,O]))(hp:p=decide (0<a)):
 ∃O',ifS c (eS (kR (aa slot) (gb (af (aa 9) (af me ar))))) bB #[R,O]=.next #[R,O']/\O'[kk]? =lH (.lst ((rk l g a).map pD))/\∀q,q≠kk->O'[q]? =O[q]? :=by
 unfold rk;by_cases h:0<a;rw[if_pos h];refine#[O.set kk (.lst (l.map pD++[pD (g,a)])),eT hc (hp.trans (decide_eq_true h)) (dG (vW (ag hs) U (lX (aB (ag Y) (aB he aI)) (by simp)) U (by simp;omega) rfl)),by rw[df U,Q7];rfl,λq hq=>de λz=>hq z.symm];rw[if_neg h];exact#[O,dJ hc (hp.trans (decide_eq_false h)) cg,U,λ_ _=>rfl]
abbrev wkR(j:Nat)(zs goods:List Str)(A:List (List Int))(km:Nat)(x5 x6 x7 x8 x9 x10 x11:Option D):List (Option D):=[lH (.ptr j),lH (sD zs),lH (sD goods),lH (vII A),lH (.ptr km),x5,x6,x7,x8,x9,x10,x11]
theorem Ng(h:0<=m):(decide (v<0)||decide (0<m))=decide (0<max (-v) 0+m):=by rw[Rn];simp only[SE,decide_eq_true_eq];omega
theorem M5(h:0<=m):(decide (0<v)||decide (0<m))=decide (0<max v 0+m):=by rw[Rn];simp only[SE,decide_eq_true_eq];omega
theorem Ky{A:List (List Int)}{goods zs:List Str}{j km i ku kz:Nat}{mv:List Int}{us ms:List (Str×Int)}{x5 x6 x11:Option D}(U:goods.Nodup)(hi:i<goods.length)(hg:goods.length<=100)(hv:nth mv i=v)(ab:ku≠kz)(ac:ku≠j)(al:kz≠j)(h:WkI goods mv i us ms)(hb:cG O j)(hu:O[ku]? =lH (.lst (us.map pD)))(hm:O[kz]? =lH (.lst (ms.map pD))):
 ∃am an O' az,iY #[wkR j zs goods A km x5 x6 (lH (.ptr ku)) (lH (.ptr kz)) (lH (.str goods[i])) (lH (.int v)) x11,O]=.next #[wkR j zs goods A km x5 x6 (lH (.ptr ku)) (lH (.ptr kz)) (lH (.str goods[i])) (lH (.int v)) az,O']/\WkI goods mv (i+1) am an/\O'[ku]? =lH (.lst (am.map pD))/\O'[kz]? =lH (.lst (an.map pD))/\cG O' j/\∀q,q≠ku->q≠kz->q≠j->O'[q]? =O[q]? :=by
 have st:∃(m:Int) (O1:aA),(ifS (aS (ak eqD (bQ 2 aV (af (aa 0) (af (ao (.int 6)) ar))) (ao (.int 5)))) (setM 11 (ak cx (ao (.int 1)) (bQ 2 aV (af (aa 0) (af (ao (.int 5)) ar))))) bB) #[wkR j zs goods A km x5 x6 (lH (.ptr ku)) (lH (.ptr kz)) (lH (.str goods[i])) (lH (.int v)) (lH (.int 0)),O]=.next #[wkR j zs goods A km x5 x6 (lH (.ptr ku)) (lH (.ptr kz)) (lH (.str goods[i])) (lH (.int v)) (lH (.int m)),O1]/\0<=m/\cG O1 j/\∀q,q≠j->O1[q]? =O[q]? :=by obtain⟨r,O1,e1,_,ap,Y⟩:=lI (R:=wkR j zs goods A km x5 x6 (lH (.ptr ku)) (lH (.ptr kz)) (lH (.str goods[i])) (lH (.int v)) (lH (.int 0))) (m:=6) hb ∅ (mb:=aa 0) (mm:=ao (.int 6)) (ag rfl) (aF _);have t:=eq_test (j:=5) e1;by_cases h5:(r:Int)=5;obtain⟨r2,O2,e2,_,a1,k2⟩:=lI (R:=wkR j zs goods A km x5 x6 (lH (.ptr ku)) (lH (.ptr kz)) (lH (.str goods[i])) (lH (.int v)) (lH (.int 0))) (m:=5) ap ∅ (mb:=aa 0) (mm:=ao (.int 5)) (ag rfl) (aF _);exact#[1+(r2:Int),O2,eT t (decide_eq_true h5) (bA (aN (aF _) e2 fv) rfl),⋯,a1,λq hq=>by rw[k2 q hq,Y q hq]];exact#[0,O1,dJ t (decide_eq_false h5) cg,Ve 0,ap,Y]
 obtain⟨m,O0,e0,m0,a2,k0⟩:=st;have ul:=h.u.len;have ml:=h.m.len;obtain⟨O1,e1,g1,Y⟩:=A6 (R:=wkR j zs goods A km x5 x6 (lH (.ptr ku)) (lH (.ptr kz)) (lH (.str goods[i])) (lH (.int v)) (lH (.int m))) (O:=O0) (slot:=7) (l:=us) (c:=orT (aS (ak ltD (aa 10) (ao (.int 0)))) (aS (ak gtD (aa 11) (ao (.int 0))))) (me:=ak cx (bN sZ (af (unM iO (aa 10)) (af (ao (.int 0)) ar))) (aa 11)) (a:=max (-v) 0+m) rfl rfl (by rw[k0 _ ac];exact hu) ⋯ (aN (HU (Hf (ag rfl) tE) (aF _)) (ag rfl) fv) (JN (c9 (aN (ag rfl) (aF _) k6)) (gv (ag rfl))) (Ng m0);obtain⟨O2,e2,g2,k2⟩:=A6 (R:=wkR j zs goods A km x5 x6 (lH (.ptr ku)) (lH (.ptr kz)) (lH (.str goods[i])) (lH (.int v)) (lH (.int m))) (O:=O1) (slot:=8) (l:=ms) (c:=orT (aS (ak gtD (aa 10) (ao (.int 0)))) (aS (ak gtD (aa 11) (ao (.int 0))))) (me:=ak cx (bN sZ (af (aa 10) (af (ao (.int 0)) ar))) (aa 11)) (a:=max v 0+m) rfl rfl (by rw[Y _ ab.symm,k0 _ al];exact hm) ⋯ (aN (HU (ag rfl) (aF _)) (ag rfl) fv) (JN (gv (ag rfl)) (gv (ag rfl))) (M5 m0);refine#[rk us goods[i] (max (-v) 0+m),rk ms goods[i] (max v 0+m),O2,lH (.int m), ?_,#[E6 U hi h.u,E6 U hi h.m,λj hj bp=> ?_],by rw[k2 _ ab];exact g1,g2, ?_,λq h1 h2 h3=>by rw[k2 q h2,Y q h1,k0 q h3]];rw[iY];exact aT (bA (aF _) rfl) (aT e0 (aT e1 e2));by_cases e:j=i;subst e;rw[Bm U hi h.m ⋯,Bm U hi h.u ⋯,hv];omega;rw[zu U hi ⋯,zu U hi ⋯];exact h.s j hj ⋯;obtain⟨a,c,hc⟩:=a2;exact#[a,c,by rw[k2 j (S1 al),Y j (S1 ac)];exact hc]
theorem ID{A:List (List Int)}{goods zs:List Str}{z:Str}{j km:Nat}{mv:List Int}{W:List Wk}{x7 x8 x9 x10 x11:Option D}(nd:goods.Nodup)(hg:goods.length<=100)(hl:mv.length=goods.length)(wl:W.length<=1000)(al:km≠j)(hb:cG O j)(hO:O[km]? =lH (.lst (W.map wD))):
 ∃w O' y7 y8 y9 a0 am,kF #[wkR j zs goods A km (lH (.str z)) (lH (vI mv)) x7 x8 x9 x10 x11,O]=.next #[wkR j zs goods A km (lH (.str z)) (lH (vI mv)) y7 y8 y9 a0 am,O']/\O'[km]? =lH (.lst ((W++[w]).map wD))/\w.nm=z/\Cd goods w/\goods.map (chg w)=mv/\cG O' j:=by
 have o0:km<O.length:=nO hO;have j0:=hb.lt;have e7:setM 7 (g5 ar) #[wkR j zs goods A km (lH (.str z)) (lH (vI mv)) x7 x8 x9 x10 x11,O]=.next #[wkR j zs goods A km (lH (.str z)) (lH (vI mv)) (lH (.ptr O.length)) x8 x9 x10 x11,O++[.lst []]]:=bA (sj aI (by simp) rfl rfl) rfl
 have e8:setM 8 (g5 ar) #[wkR j zs goods A km (lH (.str z)) (lH (vI mv)) (lH (.ptr O.length)) x8 x9 x10 x11,O++[.lst []]]=.next #[wkR j zs goods A km (lH (.str z)) (lH (vI mv)) (lH (.ptr O.length)) (lH (.ptr (O.length+1))) x9 x10 x11,O++[.lst []]++[.lst []]]:=bA (sj aI (by simp) (by simp) rfl) rfl
 have cu:(O++[Cell.lst []]++[Cell.lst []])[O.length]? =lH (.lst (([]:List (Str×Int)).map pD)):=fJ gj;have cm:(O++[Cell.lst []]++[Cell.lst []])[O.length+1]? =lH (.lst (([]:List (Str×Int)).map pD)):=by have:=gj (O:=O++[Cell.lst []]) (c:=Cell.lst []);rw[x0] at this;exact this
 have c0:(O++[Cell.lst []]++[Cell.lst []])[km]? =lH (.lst (W.map wD)):=fJ (fJ hO);have b0:cG (O++[Cell.lst []]++[Cell.lst []]) j:=hb.app.app;generalize O++[Cell.lst []]++[Cell.lst []]=O1 at e8 cu cm c0 b0;obtain⟨ku,hku⟩:∃ku,O.length=ku:=#[_,rfl];rw[hku] at e7 e8 cu cm o0 j0;have a4:ku≠ku+1:=⋯;obtain⟨s',el,us,ms,U,an,Y,ab,hw,hu,hm,h0,a5,bb⟩:=dF (ok:=okC (fX (goods.map D.str) (mv.map D.int)) na) (g:=cS (a8 (aD 9) (a8 (aD 10) cW)) 2) (body:=iY)
  (λpre s=>∃(us ms:List (Str×Int)) (U:aA) (x9 x10 x11:Option D),WkI goods mv pre.length us ms/\U[ku]? =lH (.lst (us.map pD))/\U[ku+1]? =lH (.lst (ms.map pD))/\U[km]? =lH (.lst (W.map wD))/\cG U j/\s=#[wkR j zs goods A km (lH (.str z)) (lH (vI mv)) (lH (.ptr ku)) (lH (.ptr (ku+1))) x9 x10 x11,U]) (λ_ _ _=>trivial) (fX (goods.map D.str) (mv.map D.int)) [] (by
   rintro pre d rest ed s ⟨us,ms,U,x9,x10,x11,h1,h2,h3,h4,h5,rfl⟩;rw[xz] at ed;obtain⟨bd,ap,rfl⟩:=BB hl.symm ed;obtain⟨be,bi,O3,am,eb,bm,bn,bp,bv,bw⟩:=Ky (A:=A) (goods:=goods) (zs:=zs) (v:=mv[pre.length]) (j:=j) (km:=km) (i:=pre.length) (ku:=ku) (kz:=ku+1) (mv:=mv) (us:=us) (ms:=ms) (O:=U) (x5:=lH (.str z)) (x6:=lH (vI mv)) (x11:=x11) nd bd hg (by unfold nth;rw[nu,sn ap];rfl) a4 ⋯ ⋯ h1 h5 h2 h3
   refine#[_,_,by rw[tu];rfl,.inl eb,be,bi,O3,_,_,_, ?_,bn,bp,by rw[bw km ⋯ ⋯ al];exact h4,bv,rfl];rw[x0,Fk];exact bm) #[wkR j zs goods A km (lH (.str z)) (lH (vI mv)) (lH (.ptr ku)) (lH (.ptr (ku+1))) x9 x10 x11,O1] #[[],[],O1,x9,x10,x11,#[#[by simp,by simp,by simp,by simp],#[by simp,by simp,by simp,by simp],λj _ h=>absurd h (by simp)],cu,cm,c0,b0,rfl]
 rw[xz,Fc hl.symm] at hw;have hf:eV (mX (af (aa 2) (af (aa 6) ar))) (cS (a8 (aD 9) (a8 (aD 10) cW)) 2) iY #[wkR j zs goods A km (lH (.str z)) (lH (vI mv)) (lH (.ptr ku)) (lH (.ptr (ku+1))) x9 x10 x11,O1]=.next #[wkR j zs goods A km (lH (.str z)) (lH (vI mv)) (lH (.ptr ku)) (lH (.ptr (ku+1))) an Y ab,U]:=by refine(dh (ds:=fX (goods.map D.str) (mv.map D.int)) (k:=na) (s1:=#[wkR j zs goods A km (lH (.str z)) (lH (vI mv)) (lH (.ptr ku)) (lH (.ptr (ku+1))) x9 x10 x11,O1]) ?_).trans (el.trans (by rw[bb]));rw[Ag,aB (ag rfl) (aB (ag rfl) aI),aj]
 have as:goods.map (chg #[z,us,ms])=mv:=by
  refine Sv (by simp[hl]) λj h1 h2=> ?_;have hj:j<goods.length:=by simpa using h1
  rw[Ui];show sumOf goods[j] ms-sumOf goods[j] us=_;rw[hw.s j hj hj];unfold nth;rw[nu,sn h2];rfl
 have b5:=hw.u.len;have b6:=hw.m.len;refine#[#[z,us,ms],((U.set ku .dead).set (ku+1) .dead).set km (.lst (W.map wD++[wD #[z,us,ms]])),lH (.ptr ku),lH (.ptr (ku+1)),an,Y,ab, ?_,(by rw[Q7];exact df (c':=.lst (W.map wD)) (by rw[de ⋯,de ⋯];exact h0)),rfl,#[#[hw.u.parts,by show us.length<=100;omega],#[hw.m.parts,by show ms.length<=100;omega]],as,((a5.set ⋯).set ⋯).set al];rw[kF];refine aT e7 (aT e8 (aT hf (dG (vW (ag rfl) h0 (lX (aB (ag rfl) (aB (nC (ag rfl) hu rfl) (aB (nC (ag rfl) (by rw[de ⋯];exact hm) rfl) aI))) (by simp)) (by rw[de ⋯,de ⋯];exact h0) (by simp;omega) rfl))))
theorem Hw(hb:cG O j)(nd:goods.Nodup)(hg:goods.length<=100)(ha:∀l∈A,l.length=goods.length)(hz:zs.length=A.length)(al:A.length<=100):
 ∃ws O',nr [.ptr j,sD zs,sD goods,vII A] O=.ok (wsD ws,O')/\ws.map (·.nm)=zs/\(∀w∈ws,Cd goods w)/\ws.map (λw=>goods.map (chg w))=A:=by
 have j0:=hb.lt;have g0:(O++[Cell.lst []])[O.length]? =lH (.lst (([]:List Wk).map wD)):=gj;have b0:cG (O++[Cell.lst []]) j:=hb.app;have e4:setM 4 (g5 ar) #[[lH (.ptr j),lH (sD zs),lH (sD goods),lH (vII A),na,na,na,na,na,na,na,na],O]=.next #[wkR j zs goods A O.length na na na na na na na,O++[.lst []]]:=bA (sj aI (by simp) rfl rfl) rfl
 generalize O++[Cell.lst []]=O1 at g0 b0 e4;generalize O.length=km at j0 g0 e4;obtain⟨s',el,W,O2,x5,x6,x7,x8,x9,x10,x11,h1,h2,U,hO,bi,ap⟩:=dF (ok:=okC (fX (zs.map D.str) (A.map vI)) na) (g:=cS (a8 (aD 5) (a8 (aD 6) cW)) 2) (body:=kF)
  (λpre s=>∃(W:List Wk) (O:aA) (x5 x6 x7 x8 x9 x10 x11:Option D),W.map (·.nm)=zs.take pre.length/\(∀w∈W,Cd goods w)/\W.map (λw=>goods.map (chg w))=A.take pre.length/\O[km]? =lH (.lst (W.map wD))/\cG O j/\s=#[wkR j zs goods A km x5 x6 x7 x8 x9 x10 x11,O]) (λ_ _ _=>trivial) (fX (zs.map D.str) (A.map vI)) [] (by
   rintro pre d rest ed s ⟨W,O,x5,x6,x7,x8,x9,x10,x11,h1,h2,U,h4,h5,rfl⟩;rw[xz] at ed;obtain⟨as,Y,rfl⟩:=BB hz ed;have wl:W.length<=1000:=by have:=congrArg S7 U;simp at this;omega
   obtain⟨w,O',y7,y8,y9,bp,bv,eb,az,n1,mk,ch,a0⟩:=ID (A:=A) (goods:=goods) (zs:=zs) (z:=zs[pre.length]) (j:=j) (km:=km) (mv:=A[pre.length]) (W:=W) (O:=O) (x7:=x7) (x8:=x8) (x9:=x9) (x10:=x10) (x11:=x11) nd hg (ha _ (Cg _)) wl ⋯ h5 h4;refine#[_,_,by rw[tu];rfl,.inl eb,W++[w],O',_,_,_,_,_,_,_, ?_,λz a1=> ?_, ?_,az,a0,rfl];rw[x0,Fk,Q7,h1,ww,RX,n1,SR,sn as];rfl;rcases wn.mp a1 with q | q
   exact h2 z q;rw[wf.mp q];exact mk;rw[x0,Fk,Q7,U,ww,RX,ch,SR,sn Y];rfl) #[wkR j zs goods A km na na na na na na na,O1] #[[],O1,na,na,na,na,na,na,na,by simp,by simp,by simp,g0,b0,rfl]
 rw[xz,Fc hz] at h1 U;rw[Vs] at h1;rw[hz,Vs] at U;refine#[W,O2.set km .dead, ?_,h1,h2,U];refine du (R:=wkR j zs goods A km x5 x6 x7 x8 x9 x10 x11) ?_;show qL #[[lH (.ptr j),lH (sD zs),lH (sD goods),lH (vII A),na,na,na,na,na,na,na,na],O]=_;rw[qL];refine aT e4 (aT ?_ (bt (nC (ag rfl) hO rfl)));refine(dh (ds:=fX (zs.map D.str) (A.map vI)) (k:=na) (s1:=#[wkR j zs goods A km na na na na na na na,O1]) ?_).trans (el.trans (by rw[ap]));rw[Ag,aB (ag rfl) (aB (ag rfl) aI),aj]
theorem Gi{α:Type}(f:α->D)(l:List α)(n:Nat)(hn:n<=l.length):M.cutD (l.map f) (lH (n:Int)) na=(l.drop n).map f:=by unfold M.cutD;rw[HT.uj,HT.o4,ss,TH hn,UR,Rw (by simp)]
theorem JC{m:EM}(h:m s=.ok (.lst ds,s1)):GA m s=.ok (.lst ds,s1):=by rw[LN,h,aj];rfl
structure zc(mg mx:Nat)(goods:List Str)(ws:List Wk)(A:List (List Int))(w:List Int):Prop where
 gd:NmI mg goods
 nm:NmI mx (ws.map (·.nm))
 n0:0<ws.length
 mw:∀x∈ws,Cd goods x
 ch:ws.map (λx=>goods.map (chg x))=A
 sz:cD 60 A
 wl:w.length=ws.length
 wb:∀x∈w,0<=x/\x<1000000
abbrev paR(ns:List Int)(mg mw:Nat)(x4 x5 x6 x7 x8:Option D):List (Option D):=[lH (vI ns),lH (.int (mg:Int)),lH (.int (mw:Int)),lH (.ptr 0),x4,x5,x6,x7,x8]
theorem DK{α:Type}{f:α->D}{l:List α}(Y:t<=l.length)(hl:l.length<=1000){x:D}(hi:R[i]? =lH (lH x))(U:R[8]? =lH (lH (.int (t:Int))))(hx:lsD O x=lH (l.map f)):ak cx (slM (aa i) (part (aa 8)) dA) (slM (aa i) dA (part (aa 8))) #[R,O]=.ok (.lst ((l.drop t++l.take t).map f),#[R,O]):=by refine aN (KN (ag hi) (lJ (ag U)) kS hx (Gi f l t Y)) (KN (ag hi) kS (lJ (ag U)) hx (FV f l t)) ?_;rw[sT (by simp;omega),Q7]
theorem xX{α:Type}{l:List α}{x:α}(h:x∈l.drop t++l.take t):x∈l:=by rcases wn.mp h with q | q;exact TC q;exact RW q
theorem Dw{α:Type}{l:List α}(U:t<=l.length):(l.drop t++l.take t).length=l.length:=by simp;omega
theorem yr{mg mw m k i:Nat}{x4 x5 x6 x7 x8:Option D}(hb:cG O 0)(h1:1<=m)(h2:m<=99)(hi:(paR ns mg mw x4 x5 x6 x7 x8)[i]? =lH (lH (.int (m:Int)))):
 ∃zs O',bc 2 g8 (af (bc 2 dv (af (aa 0) (af (ao (.int (k:Int))) ar))) (af (ak cx (ao (.int 1)) (bQ 2 aV (af (aa 3) (af (aa i) ar)))) ar)) #[paR ns mg mw x4 x5 x6 x7 x8,O]=.ok (sD zs,#[paR ns mg mw x4 x5 x6 x7 x8,O'])/\NmI m zs/\0<zs.length/\cG O' 0:=by
 obtain⟨c,Y,_⟩:=Ac ns k;obtain⟨r,O',e,r1,hb',_⟩:=lI (R:=paR ns mg mw x4 x5 x6 x7 x8) (m:=(m:Int)) hb ⋯ (mb:=aa 3) (mm:=aa i) (ag rfl) (ag hi);obtain⟨zs,Oz,ez,U,z0⟩:=Jf c (m:=1+r) ⋯ ⋯;refine#[zs,O',eg (aB (eg (aB (ag rfl) (aB (aF _) aI)) Y (by simp) rfl rfl) (aB (aN (aF _) e fv) aI)) (O1:=Oz) ?_ rfl rfl (by simp),#[U.g,U.nd,by have:=U.le;omega],z0,hb'];rw[show (1:Int)+(r:Int)=((1+r:Nat):Int) by omega];exact ez
theorem HG(ns:List Int)(g1:1<=mg)(g4:mg<=4)(w1:1<=mw)(w6:mw<=6):∃goods ws A w O,kq [vI ns,.int (mg:Int),.int (mw:Int)] []=.ok (.tup [sD goods,wsD ws,vII A,vI w],O)/\zc mg mw goods ws A w:=by
 obtain⟨c2,k2,_⟩:=Ac ns 2;obtain⟨c3,k3,_⟩:=Ac ns 3;obtain⟨a0,b0,eb⟩:=C2 c2;have e3:setM 3 (dP 1 gu (af (bc 2 dv (af (aa 0) (af (ao (.int 2)) ar))) ar)) #[[lH (vI ns),lH (.int (mg:Int)),lH (.int (mw:Int)),na,na,na,na,na,na],[]]=.next #[paR ns mg mw na na na na na,[.lst [.int a0,.int b0]]]:=by refine bA (i6 (aB (eg (aB (ag rfl) (aB (aF _) aI)) k2 (by simp) rfl rfl) aI) eb rfl rfl iI ?_) rfl;simp[shC,eN,shD]
 have a2:cG [Cell.lst [.int a0,.int b0]] 0:=#[a0,b0,rfl];generalize [Cell.lst [.int a0,.int b0]]=O0 at e3 a2;obtain⟨gs,O1,e4,gz,_,bp⟩:=yr (ns:=ns) (mg:=mg) (mw:=mw) (m:=mg) (k:=0) (i:=1) (x4:=na) (x5:=na) (x6:=na) (x7:=na) (x8:=na) a2 g1 ⋯ rfl;have bv:∃goods O2,(ifS (aS (ak eqD (bQ 2 aV (af (aa 3) (af (ao (.int 12)) ar))) (ao (.int 11)))) (setM 4 (jn ar)) bB) #[paR ns mg mw (lH (sD gs)) na na na na,O1]=.next #[paR ns mg mw (lH (sD goods)) na na na na,O2]/\NmI mg goods/\cG O2 0:=by obtain⟨r,O2,e,_,ab,_⟩:=lI (R:=paR ns mg mw (lH (sD gs)) na na na na) (m:=12) bp ∅ (mb:=aa 3) (mm:=ao (.int 12)) (ag rfl) (aF _);have t:=eq_test (j:=11) e;by_cases h:(r:Int)=11;exact#[[],O2,eT t (decide_eq_true h) (bA (wI aI (by simp)) rfl),#[by simp,by simp,by simp],ab];exact#[gs,O2,dJ t (decide_eq_false h) cg,gz,ab]
 obtain⟨goods,O2,e5,gd,ab⟩:=bv;obtain⟨zs,O3,e6,nz,z0,bw⟩:=yr (ns:=ns) (mg:=mg) (mw:=mw) (m:=mw) (k:=1) (i:=2) (x4:=lH (sD goods)) (x5:=na) (x6:=na) (x7:=na) (x8:=na) ab w1 ⋯ rfl;have zl:=nz.le;have gl:=gd.le;obtain⟨w,U,O4,e7,hW,wl,wb,bz,am⟩:=L8 bw (n:=zs.length) ⋯ ⋯;have ln:∀{x6 x7 x8:Option D} {O:aA},bN cF (af (aa 5) ar) #[paR ns mg mw (lH (sD goods)) (lH (sD zs)) x6 x7 x8,O]=.ok (.int (zs.length:Int),#[paR ns mg mw (lH (sD goods)) (lH (sD zs)) x6 x7 x8,O]):=jW (aB (ag rfl) aI) (by rw[hZ,ss]);have b2:∃(w':List Int) (O5:aA),(ifS (aS (ak eqD (bQ 2 aV (af (aa 3) (af (ao (.int 4)) ar))) (ao (.int 3)))) (gi (ao (.int 0)) (jk (aa 6) (ao (.int 0)))) bB) #[paR ns mg mw (lH (sD goods)) (lH (sD zs)) (lH (.ptr U)) na na,O4]=.next #[paR ns mg mw (lH (sD goods)) (lH (sD zs)) (lH (.ptr U)) na na,O5]/\O5[U]? =lH (.lst (w'.map D.int))/\w'.length=zs.length/\(∀x∈w',0<=x/\x<1000000)/\cG O5 0:=by
  obtain⟨r,O5,e,_,Y,k5⟩:=lI (R:=paR ns mg mw (lH (sD goods)) (lH (sD zs)) (lH (.ptr U)) na na) (m:=4) bz ∅ (mb:=aa 3) (mm:=ao (.int 4)) (ag rfl) (aF _);have an:O5[U]? =lH (.lst (w.map D.int)):=by rw[k5 U am];exact hW
  have t:=eq_test (j:=3) e;by_cases h:(r:Int)=3;refine#[w.set 0 0,O5.set U (.lst ((w.map D.int).set 0 (.int 0))),eT t (decide_eq_true h) (Cb (aF _) (kN (a:=0) (ag rfl) (aF _) an (by simp;omega))),by rw[df an,TQ],by simp[wl],λx hx=> ?_,Y.set am];rcases Ss hx with q | q
  exact wb x q;rw[q];decide;exact#[w,O5,dJ t (decide_eq_false h) cg,an,wl,wb,Y]
 obtain⟨w,O5,e8,hW,wl,wb,Y⟩:=b2;obtain⟨ks,b3,kl⟩:=Kz ns 4 12;obtain⟨A,O6,e9,f6,al,Al,As⟩:=EX (cs:=c3::ks) (by simp) (goods:=goods) ⋯ ⋯ ⋯ wb hW;have j5:=Y.lt;have b5:cG O6 0:=by obtain⟨a,c,h⟩:=Y;exact#[a,c,by rw[f6 0 j5];exact h]
 have b6:O6[U]? =lH (.lst (w.map D.int)):=by rw[f6 U (nO hW)];exact hW
 have b7:setM 7 (bQ 3 iW (af (ak cx (jn (af (bc 2 dv (af (aa 0) (af (ao (.int 3)) ar))) ar)) (slM (aa 0) (part (ao (.int 4))) (part (ao (.int 12))))) (af (aa 4) (af (aa 6) ar)))) #[paR ns mg mw (lH (sD goods)) (lH (sD zs)) (lH (.ptr U)) na na,O5]=.next #[paR ns mg mw (lH (sD goods)) (lH (sD zs)) (lH (.ptr U)) (lH (vII A)) na,O6]:=by refine bA (gP (aB (aN (wI (aB (eg (aB (ag rfl) (aB (aF _) aI)) k3 (by simp) rfl rfl) aI) (by simp)) (KN (ag rfl) (lJ (aF _)) (lJ (aF _)) ja b3) (sT ?_)) (aB (ag rfl) (aB (ag rfl) aI))) e9 rfl) rfl;simp;omega
 obtain⟨t,O7,cc,t1,ek,k7⟩:=lI (R:=paR ns mg mw (lH (sD goods)) (lH (sD zs)) (lH (.ptr U)) (lH (vII A)) na) (m:=(zs.length:Int)) b5 ⋯ (mb:=aa 3) (mm:=bN cF (af (aa 5) ar)) (ag rfl) ln;have ce:O7[U]? =lH (.lst (w.map D.int)):=by rw[k7 U am];exact b6
 have bb:=DK (f:=vI) (l:=A) (t:=t) ⋯ ⋯ (i:=7) (x:=vII A) (R:=paR ns mg mw (lH (sD goods)) (lH (sD zs)) (lH (.ptr U)) (lH (vII A)) (lH (.int (t:Int)))) (O:=O7) rfl rfl ja;have ap:=DK (f:=D.int) (l:=w) (t:=t) ⋯ ⋯ (i:=6) (x:=.ptr U) (R:=paR ns mg mw (lH (sD goods)) (lH (sD zs)) (lH (.ptr U)) (lH (vII (A.drop t++A.take t))) (lH (.int (t:Int)))) (O:=O7) rfl rfl (lC ce);have ci:(A.drop t++A.take t).length=A.length:=Dw ⋯;have cm:(w.drop t++w.take t).length=w.length:=Dw ⋯;have bd:∀r∈A.drop t++A.take t,r.length=goods.length:=λr hr=>Al r (xX hr);have be:cD 60 (A.drop t++A.take t):=λr hr=>As r (xX hr);have bi:∀x∈w.drop t++w.take t,0<=x/\x<1000000:=λx hx=>wb x (xX hx);generalize A.drop t++A.take t=A' at bb ap ci bd be;generalize w.drop t++w.take t=w' at ap cm bi;obtain⟨a1,b1,co⟩:=C2 (c3/5);have cp:cG (O7++[.lst [.int a1,.int b1]]) O7.length:=#[a1,b1,gj];obtain⟨ws,O8,cr,nm,mk,ch⟩:=Hw (A:=A') (goods:=goods) (zs:=zs) cp gd.nd ⋯ bd ⋯ ⋯;have eo:ws.length=zs.length:=by rw[<- nm,ss]
 refine#[goods,ws,A',w',O8, ?_,gd,by rw[nm];exact nz,⋯,mk,ch,be,⋯,bi];refine du (R:=paR ns mg mw (lH (sD goods)) (lH (sD zs)) (lH (vI w')) (lH (vII A')) (lH (.int (t:Int)))) ?_;show rq #[[lH (vI ns),lH (.int (mg:Int)),lH (.int (mw:Int)),na,na,na,na,na,na],[]]=_;rw[rq];refine aT e3 (aT (bA e4 rfl) (aT e5 (aT (bA e6 rfl) (aT (bA (gP (aB (ag rfl) (aB ln aI)) e7 rfl) rfl) (aT e8 (aT b7 (aT (bA cc rfl) (aT (bA bb rfl) (aT (bA ap rfl) (bt (lX (aB (ag rfl) (aB (gP (aB (i6 (aB (aN (eg (aB (ag rfl) (aB (aF _) aI)) k3 (by simp) rfl rfl) (aF _) (ib ∅ ∅)) aI) co rfl rfl iI ?_) (aB (ag rfl) (aB (ag rfl) (aB (ag rfl) aI)))) cr rfl) (aB (ag rfl) (aB (JC (ag rfl)) aI)))) (by simp))))))))))));simp[shC,eN,shD]
theorem mot{a b:Int}:fA [.int a,.int b] []=.ok (.int (EQ a b:Nat),[]):=Iy a b
theorem tM(ns:List Int):jA [vI ns] []=.ok (.int (cE ns:Nat),[]):=by
 obtain⟨s',e,c,x,h1,h2⟩:=dF (ok:=okC (ns.map D.int) na) (g:=aD 2) (body:=nj)
  (λpre s=>∃(ms:List Int) (x:Option D),pre=ms.map D.int/\s=#[[lH (vI ns),lH (.int (ms.foldl (λc n=>R6 c n.natAbs) 0:Nat)),x],[]]) (λ_ _ _=>trivial) (ns.map D.int) [] (by
   rintro pre d rest e s ⟨ms,x,rfl,rfl⟩;have hd:d∈ns.map D.int:=by rw[xz] at e;rw[e];simp
   obtain⟨m,_,rfl⟩:=pr.mp hd;refine#[_,_,rfl,.inl ?_,ms++[m],lH (.int m),by simp,rfl];simp[nj,mot,EQ]) #[[lH (vI ns),lH (.int 0),na],[]] #[[],na,rfl,rfl]
 rw[xz] at h1;have hc:c=ns:=(RN (λa b h=>by cases h;rfl)).mp h1.symm;subst hc;have U:=dh (im:=listI (aa 0)) (g:=aD 2) (body:=nj) (s:=#[[lH (vI c),lH (.int 0),na],[]]) (ds:=c.map D.int) (k:=na) (s1:=#[[lH (vI c),lH (.int 0),na],[]]) (by simp);rw[e] at U;have q:=b9 (n:=3) (m:=qH) (ds:=[vI c]) (O:=[]) (d:=.int (cE c:Nat)) (s:=s') (by show qH #[[lH (vI c),na,na],[]]=_;rw[qH,wm];rw[show setM 1 (ao (.int 0)) #[[lH (vI c),na,na],[]]=.next #[[lH (vI c),lH (.int 0),na],[]] by simp];rw[Bl,wm,U,Bl,h2];simp[cE])
 rw[h2] at q;exact q
theorem CT{a b:List Int}(U:a.length<=1000000)(hm:∀p∈a.zip b,RF p.1 p.2):bZ [vI a,vI b] []=.ok (.int (aG a b),[]):=by
 have hz:(a.zip b).length<=1000000:=by rw[RU];omega
 have hc:=Dn (l:=a.zip b) (f:=λp=>.int p.1) (g:=λp=>.int p.2) (out:=λp=>.int (p.1*p.2)) (caps:=[]) (im:=mX (af (aa 0) (af (aa 1) ar))) (e:=ak cT (aa 0) (aa 1)) (k:=na) (s:=#[[lH (vI a),lH (vI b)],[]]) (by simp[qu]) trivial ⋯ (λp hp=>by simp[cV (hm p hp)])
 rw[show (a.zip b).map (λp=>D.int (p.1*p.2))=(RY (· * ·) a b).map D.int by rw[<- MI];simp] at hc;refine b9 (s:=#[[lH (vI a),lH (vI b)],[]]) ?_;show kc #[[lH (vI a),lH (vI b)],[]]=_;rw[kc];refine bt ?_;rw[i5,aZ,hc,aj,aI,aj,aj];dsimp only;rw[vD,aj];rfl
theorem IA(U:ns.length<=1000000):tm [vI ns] []=.ok (.ptr 0,[.lst ((low ns).map D.int)]):=by
 have e1:setM 1 (bc 1 jA (af (aa 0) ar)) #[[lH (vI ns),na],[]]=.next #[[lH (vI ns),lH (.int (cE ns:Nat))],[]]:=bA (cy (aB (ag rfl) aI) o8 rfl (tM ns) (by simp)) rfl
 by_cases h:cE ns=0;refine du (R:=[lH (vI ns),lH (.int (cE ns:Nat))]) ?_;show pB #[[lH (vI ns),na],[]]=_;rw[pB];refine aT e1 (d7 (eT (eq_test (ag rfl)) (decide_eq_true ⋯) (bt (Mg (ag rfl) Hu rfl ?_))));rw[show low ns=ns by unfold low;rw[if_pos h]];rfl;have hc:=yx (l:=ns) (item:=D.int) (out:=λn=>.int (n/(cE ns:Int))) (caps:=[1]) (im:=listI (aa 0)) (e:=ak d3 (aa 0) (aa 1)) (k:=na) (s:=#[[lH (vI ns),lH (.int (cE ns:Nat))],[]]) (by simp) trivial ⋯ (λa _=>by simp[lD (show (cE ns:Int)≠0 by omega),pk (show (0:Int)<cE ns by omega)])
 refine du (R:=[lH (vI ns),lH (.int (cE ns:Nat))]) ?_;show pB #[[lH (vI ns),na],[]]=_;rw[pB];refine aT e1 (aT (dJ (eq_test (ag rfl)) (decide_eq_false ⋯) cg) (bt (hc.trans ?_)));rw[show (low ns).map D.int=ns.map λn=>.int (n/(cE ns:Int)) by unfold low;rw[if_neg h,wh];rfl];rfl
theorem Iw{one other:List Int}{v w:Int}(Y:one.length<=1000000)(h1:∀a∈one,RF a w)(h2:∀b∈other,RF b v):pY [vI one,.int v,vI other,.int w] []=.ok (.ptr 0,[.lst ((cX one v other w).map D.int)]):=by
 have hz:(one.zip other).length<=1000000:=by rw[RU];omega
 have hc:=Dn (l:=one.zip other) (f:=λp=>.int p.1) (g:=λp=>.int p.2) (out:=λp=>.int (p.1*w-p.2*v)) (caps:=[1,3]) (im:=mX (af (aa 0) (af (aa 2) ar))) (e:=ak kY (ak cT (aa 0) (aa 3)) (ak cT (aa 1) (aa 2))) (k:=na) (s:=#[[lH (vI one),lH (.int v),lH (vI other),lH (.int w),na],[]]) (by simp[qu]) trivial ⋯ (λp hp=>by have hp':=Rk hp;simp[cV (h1 p.1 hp'.1),cV (h2 p.2 hp'.2)])
 rw[show (one.zip other).map (λp=>D.int (p.1*w-p.2*v))=(gM one v other w).map D.int by rw[gM,<- zip_map];simp] at hc;have U:(gM one v other w).length<=1000000:=by unfold gM;rw[RL];omega
 refine du (R:=[lH (vI one),lH (.int v),lH (vI other),lH (.int w),lH (vI (gM one v other w))]) ?_;show ye #[[lH (vI one),lH (.int v),lH (vI other),lH (.int w),na],[]]=_;rw[ye];exact aT (dD hc) (bt (i6 (aB (ag rfl) aI) (IA U) o8 rfl iI (by simp only[ww,RX,xz,E5,A4];rfl)))
theorem Hl(a b:Nat):orD O (.int (a:Int)) (.int (b:Int))=.ok (.int ((a|||b:Nat):Int)):=by
 have e:Builtin.bitOr (a:Int) (b:Int)=((a|||b:Nat):Int):=by unfold Builtin.bitOr Builtin.bitAnd Builtin.bitNot;rw[decide_eq_false (show ¬(0:Int)<= -(a:Int)-1 by omega),decide_eq_false (show ¬(0:Int)<= -(b:Int)-1 by omega)];dsimp only;rw[show (-(-(a:Int)-1)-1).toNat=a by omega,show (-(-(b:Int)-1)-1).toNat=b by omega];omega
 show Res.ok (D.int (Builtin.bitOr (a:Int) (b:Int)))=_;rw[e]
theorem KS(a b:Nat):mH [.int (a:Int),.int (b:Int)] []=.ok (.bl (decide (a|||b=b)),[]):=by refine du (R:=[lH (.int (a:Int)),lH (.int (b:Int))]) ?_;show sS #[[lH (.int (a:Int)),lH (.int (b:Int))],[]]=_;rw[sS];refine bt (aN (aN (ag rfl) (ag rfl) (Hl a b)) (ag rfl) ?_);rw[wg];congr 3;rw[eq_iff_iff];omega
abbrev vN(l:List Nat):D:=.lst (l.map λx:Nat=>D.int (x:Int))
theorem MB{l:List Nat}:aR (l.map λx:Nat=>D.int (x:Int))=true:=by
 induction l with
 | nil=>simp
 | cons a l U=>simp[U]
theorem JW{pl:List Nat}(U:pl.length<=1000):gF [.int (a:Int),.int (b:Int),vN pl] []=.ok (.bl ((pl.filter λx=>decide (x|||(a|||b)=a|||b)).length == 2),[]):=by
 have hc:=Ai (l:=pl) (item:=λx:Nat=>D.int (x:Int)) (out:=λx:Nat=>D.int (x:Int)) (p:=λx=>decide (x|||(a|||b)=a|||b)) (caps:=[3]) (im:=listI (aa 2)) (c:=aS (bc 2 mH (af (aa 0) (af (aa 1) ar)))) (e:=aa 0) (k:=na) (s:=#[[lH (.int (a:Int)),lH (.int (b:Int)),lH (vN pl),lH (.int ((a|||b:Nat):Int))],[]]) (by rw[cz,ag (i:=2) rfl,aj];rfl) trivial ⋯ (λx _=>c9 (eg (aB (ag rfl) (aB (ag rfl) aI)) (KS x (a|||b)) (by simp) rfl (by simp))) (λx _ _=>ag rfl)
 refine du (R:=[lH (.int (a:Int)),lH (.int (b:Int)),lH (vN pl),lH (.int ((a|||b:Nat):Int))]) ?_;show kQ #[[lH (.int (a:Int)),lH (.int (b:Int)),lH (vN pl),na],[]]=_;rw[kQ];refine aT (bA (aN (ag rfl) (ag rfl) (Hl a b)) rfl) (bt (aN (jW (aB hc aI) hZ) (aF _) ?_));rw[wg,ss];congr 2;rw[Rn,decide_eq_true_eq,beq_iff_eq];omega
theorem HY{x:List Int}:kx [vI x] []=.ok (.int (dC x:Nat),[]):=by
 have go:∀(l:List Int) (b:Nat) (z:Option D),∃U,bT (okC (x.map D.int) na) (aD 2) oo (l.map D.int) #[[lH (vI x),lH (.int (b:Int)),z],[]]=.next #[[lH (vI x),lH (.int ((l.foldl (λb y=>b*2+if 0<y then 1 else 0) b:Nat):Int)),U],[]]:=by
  intro l;induction l with
  | nil=>intro b z;exact#[z,by rw[RX,bT,if_pos (show okC (x.map D.int) na _ from trivial)];rfl]
  | cons y l Y=>
   intro b z;obtain⟨U,e⟩:=Y (b*2+if 0<y then 1 else 0) (lH (.int y));refine#[U, ?_];rw[ww,RQ];refine wp (jX (s1:=#[[lH (vI x),lH (.int (b:Int)),lH (.int y)],[]]) (s2:=#[[lH (vI x),lH (.int ((b*2+if 0<y then 1 else 0:Nat):Int)),lH (.int y)],[]]) trivial rfl ?_) e;rw[oo];refine aT (bA (R':=[lH (vI x),lH (.int ((b:Int)*2)),lH (.int y)]) (aN (ag rfl) (aF _) (cV (gk (.inr ∅)))) rfl) ?_;by_cases hy:0<y;refine eT (gv (ag rfl)) (decide_eq_true hy) (bA (d:=.int ((b*2+if 0<y then 1 else 0:Nat):Int)) (R:=[lH (vI x),lH (.int ((b:Int)*2)),lH (.int y)]) (aN (ag rfl) (aF _) ?_) rfl);rw[fv,if_pos hy];congr 2;refine dJ (gv (ag rfl)) (decide_eq_false hy) ((cg).trans ?_);rw[if_neg hy,show ((b*2+0:Nat):Int)=(b:Int)*2 by omega]
 obtain⟨U,e⟩:=go x 0 na;refine du (R:=[lH (vI x),lH (.int (dC x:Nat)),U]) ?_;show qS #[[lH (vI x),na,na],[]]=_;rw[qS];refine aT (bA (R':=[lH (vI x),lH (.int ((0:Nat):Int)),na]) (aF _) rfl) (aT ?_ (bt (ag rfl)));exact(dh (im:=listI (aa 0)) (ds:=x.map D.int) (k:=na) (s1:=#[[lH (vI x),lH (.int ((0:Nat):Int)),na],[]]) (by rw[cz,ag (i:=0) rfl,aj];rfl)).trans e
theorem v7{α:Type}{f:α->D}{l:List α}{a:α}(h:l[i]? =lH a):ixD O (.lst (l.map f)) (.int (i:Int))=.ok (f a):=by
 have hi:i<l.length:=by by_cases z:i<l.length;exact z;rw[Tx ⋯] at h;cases h
 refine mY ?_;rw[eU (by simpa using hi)];rw[sn hi] at h;cases h;simp
structure Wrk(n:Nat)(L:List (Nat×List Int))(row:List Int)(b:Nat):Prop where
 len:∀p∈L,p.2.length=n
 nn:∀p∈L,∀i,0<=nth p.2 i
 few:L.length<64
 rl:row.length=n
 n7:n<=1000
 sz:cD b (L.map (·.2))
 rz:SzL b row
 bb:2*b+20<=60000000
theorem Wrk.dz(h:Wrk n L row b){p:Nat×List Int}(hp:p∈L):Sz (b+b+10) (aG row p.2):=si h.rz (h.sz _ (Ps hp)) (by rw[h.rl];exact h.n7)
theorem OW(h:Wrk n L row b){p q:Nat×List Int}(hp:p∈L)(hq:q∈L):(((L.map λx=>dC x.2).filter λx=>decide (x|||(dC p.2|||dC q.2)=dC p.2|||dC q.2)).length == 2)=nbB n (L.map (·.2)) p.2 q.2:=by unfold nbB;rw[Sd,ss,Sd,ss];congr 2;refine List.filter_congr λx hx=> ?_;show decide (dC x.2|||(dC p.2|||dC q.2)=dC p.2|||dC q.2)=subB n x.2 p.2 q.2;exact bits_sub (h.len x hx) (h.len p hp) (h.len q hq) (h.nn x hx) (h.nn p hp) (h.nn q hq)
structure Iv(L T:List (Nat×List Int))(t:Nat)(O:aA):Prop where
 told:O[t]? =lH (.lst (bq T))
 l:Sto O L
 s:Sto O T
 tn:∀p∈T,p.1≠t
 ln:∀p∈L,p.1≠t
abbrev mR(L:List (Nat×List Int))(row:List Int)(t:Nat)(ab bl:List Nat)(x7 x8:Option D):List (Option D):=[lH (.lst (bq L)),lH (vI row),lH (.lst (L.map λp=>.int (aG row p.2))),lH (vN (L.map λp=>dC p.2)),lH (.ptr t),lH (vN ab),lH (vN bl),x7,x8]
theorem Ds{n:Nat}{L:List (Nat×List Int)}{row:List Int}{b t:Nat}{ab bl:List Nat}(h:Wrk n L row b){U:(Nat×List Int)×Nat}(hh:L[U.2]? =lH U.1)(K:List D):∀(Y:List ((Nat×List Int)×Nat)) (T:List (Nat×List Int)) (O:aA) (x8:Option D),(∀q∈Y,L[q.2]? =lH q.1)->T.length+Y.length<=100000->Iv L T t O->
 ∃T' O' y8,bT (okC K na) (aD 8) f9 (Y.map λq=>D.int (q.2:Int)) #[mR L row t ab bl (lH (.int (U.2:Int))) x8,O]=.next #[mR L row t ab bl (lH (.int (U.2:Int))) y8,O']/\Iv L T' t O'/\T'.length<=T.length+Y.length/\
  T'.map (·.2)=T.map (·.2)++((Y.filter λq=>nbB n (L.map (·.2)) U.1.2 q.1.2).map λq=>cX q.1.2 (aG row q.1.2) U.1.2 (aG row U.1.2))
 | [],T,O,x8,_,_,iv=>#[T,O,x8,by rw[RX,bT,if_pos (show okC K na _ from trivial)],iv,by simp,by simp]
 | q::Y,T,O,x8,hb,hl,iv=>by
  have hq:=hb q sH;have mh:U.1∈L:=IN hh;have mq:q.1∈L:=IN hq;have hb':=λz hz=>hb z (sB _ hz);rw[wT] at hl;have as:aS (bc 3 gF (af (ak ixD (aa 3) (aa 7)) (af (ak ixD (aa 3) (aa 8)) (af (aa 3) ar)))) #[mR L row t ab bl (lH (.int (U.2:Int))) (lH (.int (q.2:Int))),O]=.ok (nbB n (L.map (·.2)) U.1.2 q.1.2,#[mR L row t ab bl (lH (.int (U.2:Int))) (lH (.int (q.2:Int))),O]):=by rw[<- OW h mh mq];refine c9 (eg (aB (aN (ag rfl) (ag rfl) (v7 (f:=λx:Nat=>D.int (x:Int)) (l:=L.map λp=>dC p.2) (a:=dC U.1.2) (by rw[wP,hh];rfl))) (aB (aN (ag rfl) (ag rfl) (v7 (f:=λx:Nat=>D.int (x:Int)) (l:=L.map λp=>dC p.2) (a:=dC q.1.2) (by rw[wP,hq];rfl))) (aB (ag rfl) aI))) (JW (by rw[ss];have:=h.few;omega)) ?_ rfl (by simp));rw[jc,jc,jc,GB,AR,AR,nG,MB];rfl
  rw[ww];cases hn:nbB n (L.map (·.2)) U.1.2 q.1.2 with
  | false=>
   obtain⟨T',O',y8,e,a1,a2,a3⟩:=Ds h hh K Y T O (lH (.int (q.2:Int))) hb' ⋯ iv;refine#[T',O',y8, ?_,a1,by rw[wT];omega,by rw[a3,Rf (by rw[hn];decide)]];refine wp (jX (s1:=#[mR L row t ab bl (lH (.int (U.2:Int))) (lH (.int (q.2:Int))),O]) (s2:=#[mR L row t ab bl (lH (.int (U.2:Int))) (lH (.int (q.2:Int))),O]) trivial rfl ?_) e;rw[f9];exact dJ as hn cg
  | true=>
   have zq:=h.sz _ (Ps (f:=(·.2)) mq);have zh:=h.sz _ (Ps (f:=(·.2)) mh);have off:=Iw (one:=q.1.2) (other:=U.1.2) (v:=aG row q.1.2) (w:=aG row U.1.2) (by rw[h.len _ mq];have:=h.n7;omega) (λa ha=>gQ (by have:=h.bb;omega) (by have:=h.bb;omega) (zq a ha) (h.dz mh)) (λa ha=>gQ (by have:=h.bb;omega) (by have:=h.bb;omega) (zh a ha) (h.dz mq));have call:yT 4 pY (af (ak ixD (aa 0) (aa 8)) (af (ak ixD (aa 2) (aa 8)) (af (ak ixD (aa 0) (aa 7)) (af (ak ixD (aa 2) (aa 7)) ar)))) #[mR L row t ab bl (lH (.int (U.2:Int))) (lH (.int (q.2:Int))),O]=.ok (.ptr O.length,#[mR L row t ab bl (lH (.int (U.2:Int))) (lH (.int (q.2:Int))),O++[.lst ((cX q.1.2 (aG row q.1.2) U.1.2 (aG row U.1.2)).map D.int)]]):=by refine LP (aB (aN (ag rfl) (ag rfl) (v7 (f:=λp:Nat×List Int=>D.ptr p.1) hq)) (aB (aN (ag rfl) (ag rfl) (v7 (f:=λp:Nat×List Int=>D.int (aG row p.2)) hq)) (aB (aN (ag rfl) (ag rfl) (v7 (f:=λp:Nat×List Int=>D.ptr p.1) hh)) (aB (aN (ag rfl) (ag rfl) (v7 (f:=λp:Nat×List Int=>D.int (aG row p.2)) hh)) aI)))) (rs:=[vI q.1.2,.int (aG row q.1.2),vI U.1.2,.int (aG row U.1.2)]) ?_ off (by simp) rfl rfl ?_ iI ?_;simp only[qw,ue,rM (iv.l _ mq),rM (iv.l _ mh),My,rN,t5];simp[Ca,vY];simp
   have a4:Iv L (T++[(O.length,cX q.1.2 (aG row q.1.2) U.1.2 (aG row U.1.2))]) t ((O++[Cell.lst ((cX q.1.2 (aG row q.1.2) U.1.2 (aG row U.1.2)).map D.int)]).set t (Cell.lst (bq T++[D.ptr O.length]))):=by
    have tl:=nO iv.told;have al:(O++[Cell.lst ((cX q.1.2 (aG row q.1.2) U.1.2 (aG row U.1.2)).map D.int)])[t]? =lH (.lst (bq T)):=fJ iv.told;refine#[by rw[df al];simp[bq],(iv.l.app _).set iv.ln _,λp hp=> ?_,λp hp=> ?_,iv.ln];rcases wn.mp hp with hp | hp
    exact((iv.s.app _).set iv.tn _) p hp;rw[wf.mp hp];dsimp only;rw[de ⋯];simp;rcases wn.mp hp with hp | hp
    exact iv.tn p hp;rw[wf.mp hp];dsimp only;omega
   obtain⟨T',O',y8,e,a1,a2,a3⟩:=Ds h hh K Y (T++[(O.length,cX q.1.2 (aG row q.1.2) U.1.2 (aG row U.1.2))]) _ (lH (.int (q.2:Int))) hb' (by rw[x0,Fk];omega) a4;refine#[T',O',y8, ?_,a1,by rw[x0,Fk] at a2;rw[wT];omega,by rw[a3,Go (p:=λq:(Nat×List Int)×Nat=>nbB n (L.map (·.2)) U.1.2 q.1.2) (a:=q) (l:=Y) hn,Q7,ww,R3];rfl];refine wp (jX (s1:=#[mR L row t ab bl (lH (.int (U.2:Int))) (lH (.int (q.2:Int))),O]) (s2:=#[mR L row t ab bl (lH (.int (U.2:Int))) (lH (.int (q.2:Int))),(O++[Cell.lst ((cX q.1.2 (aG row q.1.2) U.1.2 (aG row U.1.2)).map D.int)]).set t (Cell.lst (bq T++[D.ptr O.length]))]) trivial rfl ?_) e;rw[f9];exact eT as hn (dG (vW (ag rfl) iv.told call (fJ iv.told) (by rw[ss];omega) rfl))
theorem FJ{n:Nat}{L:List (Nat×List Int)}{row:List Int}{b t:Nat}{ab:List Nat}{U:List ((Nat×List Int)×Nat)}(h:Wrk n L row b)(hB:∀q∈U,L[q.2]? =lH q.1)(al:U.length<=64)(K:List D):∀(Y:List ((Nat×List Int)×Nat)) (T:List (Nat×List Int)) (O:aA) (x7 x8:Option D),(∀q∈Y,L[q.2]? =lH q.1)->T.length+Y.length*64<=10000->Iv L T t O->
 ∃T' O' y7 y8,bT (okC K na) (aD 7) iJ (Y.map λq=>D.int (q.2:Int)) #[mR L row t ab (U.map (·.2)) x7 x8,O]=.next #[mR L row t ab (U.map (·.2)) y7 y8,O']/\Iv L T' t O'/\
  T'.map (·.2)=T.map (·.2)++Y.flatMap λa=>(U.filter λq=>nbB n (L.map (·.2)) a.1.2 q.1.2).map λq=>cX q.1.2 (aG row q.1.2) a.1.2 (aG row a.1.2)
 | [],T,O,x7,x8,_,_,iv=>#[T,O,x7,x8,by rw[RX,bT,if_pos (show okC K na _ from trivial)],iv,by simp]
 | a::Y,T,O,x7,x8,hA,hl,iv=>by rw[wT] at hl;obtain⟨T1,O1,y8,e1,i1,l1,m1⟩:=Ds (ab:=ab) (bl:=U.map (·.2)) h (hA a sH) ((U.map (·.2)).map λx:Nat=>D.int (x:Int)) U T O x8 hB ⋯ iv;obtain⟨T2,O2,z7,z8,e2,i2,m2⟩:=FJ (ab:=ab) h hB al K Y T1 O1 (lH (.int (a.2:Int))) y8 (λq hq=>hA q (sB _ hq)) ⋯ i1;refine#[T2,O2,z7,z8, ?_,i2,by rw[m2,m1,List.flatMap_cons,R3]];rw[ww];refine wp (jX (s1:=#[mR L row t ab (U.map (·.2)) (lH (.int (a.2:Int))) x8,O]) (s2:=#[mR L row t ab (U.map (·.2)) (lH (.int (a.2:Int))) y8,O1]) trivial rfl ?_) e2;rw[iJ];refine(dh (im:=listI (aa 6)) (ds:=(U.map (·.2)).map λx:Nat=>D.int (x:Int)) (k:=na) (s1:=#[mR L row t ab (U.map (·.2)) (lH (.int (a.2:Int))) x8,O]) (by rw[cz,ag (i:=6) rfl,aj];rfl)).trans ?_;rw[wh] at e1 ⊢;exact e1
theorem FZ {α:Type} {caps:List Nat} {im:IM} {c:TM} {e:EM} {k:Option Nat} {l:List α} {p:α->Bool} {out:α->D} {f g:α->D} (U:im s=.ok ((l.map (λa=>D.tup [f a,g a]),k),s)) (Y:okC (l.map (λa=>D.tup [f a,g a])) k s.o) (hl:l.length<=16777216)
 (hc:∀a∈l,c #[lH (f a)::lH (g a)::caps.map (λi=>(s.r[i]?).getD na),s.o]=.ok (p a,#[lH (f a)::lH (g a)::caps.map (λi=>(s.r[i]?).getD na),s.o]))
 (he:∀a∈l,p a=on->e #[lH (f a)::lH (g a)::caps.map (λi=>(s.r[i]?).getD na),s.o]=.ok (out a,#[lH (f a)::lH (g a)::caps.map (λi=>(s.r[i]?).getD na),s.o])):
 lL 2 caps im (cS (a8 (aD 0) (a8 (aD 1) cW)) 2) c e s=.ok (.ptr s.o.length,#[s.r,s.o++[.lst ((l.filter p).map out)]]):=by
 rw[DO,C5 U Y hl hc he,aj]
theorem Lc{α:Type}{f g:α->D}:∀l:List α,fX (l.map f) (l.map g)=l.map λa=>.tup [f a,g a]:=λl=>by unfold fX;rw[Um,List.zipWith_self]
theorem Dz{α:Type}(p:α->Bool)(l:List α):(l.zipIdx.filter λq=>p q.1).map (·.1)=l.filter p:=by
 have h:(l.zipIdx.map (·.1))=l:=by simp
 conv=>rhs;rw[<- h,Sd]
 rfl
theorem Ms(h:Wrk n L row b)(hs:Sto O L):∃L' O',gS [.lst (bq L),vI row] O=.ok (.lst (bq L'),O')/\L'.map (·.2)=dQ n (L.map (·.2)) row/\Sto O' L':=by
 have few:=h.few;have dz:∀p∈L,bZ [vI row,vI p.2] []=.ok (.int (aG row p.2),[]):=λp hp=>CT (by rw[h.rl];have:=h.n7;omega) λq hq=>gQ (by have:=h.bb;omega) (by have:=h.bb;omega) (h.rz _ (Rk hq).1) (h.sz _ (Ps hp) _ (Rk hq).2);have v2:=dS (l:=L) (item:=λp=>.ptr p.1) (out:=λp=>.int (aG row p.2)) (caps:=[1]) (im:=listI (aa 0)) (e:=kI 2 bZ (af (aa 1) (af (aa 0) ar))) (k:=na) (s:=#[[lH (.lst (bq L)),lH (vI row),na,na,na,na,na,na,na],O]) (by rw[cz,ag (i:=0) rfl,aj];rfl) trivial ⋯
  (λp hp=>Fj (aB (ag rfl) (aB (ag rfl) aI)) (rs:=[vI row,vI p.2]) (by simp only[qw,ue,rM (hs p hp),rN,t5]) (dz p hp) (by simp) rfl rfl)
 have v3:=dS (l:=L) (item:=λp=>.ptr p.1) (out:=λp=>.int (dC p.2:Nat)) (caps:=[]) (im:=listI (aa 0)) (e:=kI 1 kx (af (aa 0) ar)) (k:=na) (s:=#[[lH (.lst (bq L)),lH (vI row),lH (.lst (L.map λp=>.int (aG row p.2))),na,na,na,na,na,na],O]) (by rw[cz,ag (i:=0) rfl,aj];rfl) trivial ⋯
  (λp hp=>Fj (aB (ag rfl) aI) (rs:=[vI p.2]) (by simp only[qw,ue,rM (hs p hp),rN,t5]) HY (by simp) rfl rfl)
 rw[show (L.map λp=>D.int (dC p.2:Nat))=(L.map λp=>dC p.2).map (λx:Nat=>D.int (x:Int)) by rw[wh];rfl] at v3;have v4:=FZ (l:=L) (f:=λp=>.ptr p.1) (g:=λp=>.int (aG row p.2)) (p:=λp=>decide (aG row p.2=0)) (out:=λp=>.ptr p.1) (caps:=[]) (im:=mX (af (aa 0) (af (aa 2) ar))) (c:=aS (ak eqD (aa 1) (ao (.int 0)))) (e:=aa 0) (k:=na) (s:=#[[lH (.lst (bq L)),lH (vI row),lH (.lst (L.map λp=>.int (aG row p.2))),lH (vN (L.map λp=>dC p.2)),na,na,na,na,na],O]) (by rw[Ag,aZ,ag (i:=0) rfl,aj];dsimp only;rw[aZ,ag (i:=2) rfl,aj];dsimp only;rw[aI,aj,aj,aj];dsimp only;rw[Lc]) trivial ⋯ (λp _=>c9 (aN (ag rfl) (aF _) wg)) (λp _ _=>ag rfl)
 have Y:∀(R:List (Option D)) (P:aA),R[2]? =lH (lH (.lst (L.map λp=>.int (aG row p.2))))->c8 (af (aa 2) ar) #[R,P]=.ok ((L.zipIdx.map λq=>D.tup [.int (q.2:Int),.int (aG row q.1.2)],na),#[R,P]):=λR P hR=>by
  rw[oi,aZ,ag (i:=2) hR,aj];dsimp only;rw[aI,aj,aj];dsimp only;rw[show fj (L.map λp=>D.int (aG row p.2))=L.zipIdx.map λq=>D.tup [.int (q.2:Int),.int (aG row q.1.2)] by unfold fj;rw[Sq,Tz,wh];rfl]
 have zl:L.zipIdx.length=L.length:=by simp
 have vn:∀Z:List ((Nat×List Int)×Nat),(Z.map λq=>D.int (q.2:Int))=(Z.map (·.2)).map λx:Nat=>D.int (x:Int):=λZ=>by rw[wh];rfl
 have v5:=z4 (l:=L.zipIdx) (f:=λq=>.int (q.2:Int)) (g:=λq=>.int (aG row q.1.2)) (p:=λq=>decide (0<aG row q.1.2)) (out:=λq=>.int (q.2:Int)) (caps:=[]) (im:=c8 (af (aa 2) ar)) (c:=aS (ak gtD (aa 1) (ao (.int 0)))) (e:=aa 0) (k:=na) (s:=#[[lH (.lst (bq L)),lH (vI row),lH (.lst (L.map λp=>.int (aG row p.2))),lH (vN (L.map λp=>dC p.2)),lH (.ptr O.length),na,na,na,na],O++[.lst ((L.filter λp=>decide (aG row p.2=0)).map λp=>.ptr p.1)]]) (Y _ _ rfl) trivial ⋯ (λq _=>c9 (aN (ag rfl) (aF _) Am)) (λq _ _=>ag rfl);generalize hA:(L.zipIdx.filter λq=>decide (0<aG row q.1.2))=U at v5;rw[vn] at v5;have v6:=z4 (l:=L.zipIdx) (f:=λq=>.int (q.2:Int)) (g:=λq=>.int (aG row q.1.2)) (p:=λq=>decide (aG row q.1.2<0)) (out:=λq=>.int (q.2:Int)) (caps:=[]) (im:=c8 (af (aa 2) ar)) (c:=aS (ak ltD (aa 1) (ao (.int 0)))) (e:=aa 0) (k:=na) (s:=#[[lH (.lst (bq L)),lH (vI row),lH (.lst (L.map λp=>.int (aG row p.2))),lH (vN (L.map λp=>dC p.2)),lH (.ptr O.length),lH (vN (U.map (·.2))),na,na,na],O++[.lst ((L.filter λp=>decide (aG row p.2=0)).map λp=>.ptr p.1)]]) (Y _ _ rfl) trivial ⋯ (λq _=>c9 (aN (ag rfl) (aF _) k6)) (λq _ _=>ag rfl);generalize hB:(L.zipIdx.filter λq=>decide (aG row q.1.2<0))=Bs at v6;rw[vn] at v6;have ab:∀q∈L.zipIdx,L[q.2]? =lH q.1:=λq hq=>List.mem_zipIdx_iff_getElem?.mp hq;have mA:∀q∈U,L[q.2]? =lH q.1:=λq hq=>ab q (by rw[<- hA] at hq;exact(wS.mp hq).1);have mB:∀q∈Bs,L[q.2]? =lH q.1:=λq hq=>ab q (by rw[<- hB] at hq;exact(wS.mp hq).1);have lA:U.length<=L.length:=by rw[<- hA,<- zl];exact Tv _ _
 have lB:Bs.length<=L.length:=by rw[<- hB,<- zl];exact Tv _ _
 have sub:∀p∈L.filter (λp=>decide (aG row p.2=0)),p∈L:=λp hp=>(wS.mp hp).1;have lT:(L.filter λp=>decide (aG row p.2=0)).length<=L.length:=Tv _ _;have iv:Iv L (L.filter λp=>decide (aG row p.2=0)) O.length (O++[.lst ((L.filter λp=>decide (aG row p.2=0)).map λp=>.ptr p.1)]):=#[by simp,hs.app _,λp hp=>(hs.app _) p (sub p hp),λp hp=>FS (hs.lt (sub p hp)),λp hp=>FS (hs.lt hp)];obtain⟨T',O',y7,y8,e7,i7,m7⟩:=FJ (ab:=U.map (·.2)) h mB ⋯ ((U.map (·.2)).map λx:Nat=>D.int (x:Int)) U _ _ na na mA ⋯ iv;refine#[T',O'.set O.length .dead, ?_, ?_,i7.s.set i7.tn _];refine du (R:=mR L row O.length (U.map (·.2)) (Bs.map (·.2)) y7 y8) ?_;show jz #[[lH (.lst (bq L)),lH (vI row),na,na,na,na,na,na,na],O]=_;rw[jz];refine aT (bA v2 rfl) (aT (bA v3 rfl) (aT (bA v4 rfl) (aT (bA v5 rfl) (aT (bA v6 rfl) (aT ?_ (bt (nC (ag rfl) i7.told rfl)))))));refine(dh (im:=listI (aa 5)) (ds:=(U.map (·.2)).map λx:Nat=>D.int (x:Int)) (k:=na) (s1:=#[mR L row O.length (U.map (·.2)) (Bs.map (·.2)) na na,O++[.lst ((L.filter λp=>decide (aG row p.2=0)).map λp=>.ptr p.1)]]) (by rw[cz,ag (i:=5) rfl,aj];rfl)).trans ?_;rw[<- vn];exact e7;rw[m7];unfold dQ;rw[Sd,Sd,Sd];have eA:=Dz (λp:Nat×List Int=>decide (0<aG row p.2)) L;have eB:=Dz (λp:Nat×List Int=>decide (aG row p.2<0)) L;rw[hA] at eA;rw[hB] at eB;show _=(L.filter λp=>decide (aG row p.2=0)).map (·.2)++((L.filter λp:Nat×List Int=>decide (0<aG row p.2)).map (·.2)).flatMap λh=>(((L.filter λp:Nat×List Int=>decide (aG row p.2<0)).map (·.2)).filter λw=>nbB n (L.map (·.2)) h w).map λw=>cX w (aG row w) h (aG row h);rw[<- eA,<- eB];congr 1;rw[Vl,Vl];refine congrArg (λF=>U.flatMap F) (funext λa=> ?_);rw[wh,Sd,wh];rfl
theorem HP {α:Type} {l:List α} {item:α->D} {f:α->List Int} {T:α->Nat->Prop} {caps:List Nat} {im:IM} {e:EM} {k:Option Nat} (I:aA->Prop) (hI:∀O E,I O->I (O++E)) (h0:I O) (U:im #[R,O]=.ok ((l.map item,k),#[R,O])) (Y:∀O,I O->okC (l.map item) k O) (hl:l.length<=1000000)
 (he:∀a∈l,∀O,I O->∃q E,e #[lH (item a)::caps.map (λi=>(R[i]?).getD na),O]=.ok (.ptr q,#[lH (item a)::caps.map (λi=>(R[i]?).getD na),O++E])/\(O++E)[q]? =lH (.lst ((f a).map D.int))/\(T a q\/O.length<=q)):
 ∃(L:List (Nat×List Int)) (E:aA),bL 1 caps im (aD 0) bR e #[R,O]=.ok (.lst (bq L),#[R,O++E])/\L.map (·.2)=l.map f/\Sto (O++E) L:=by
 obtain⟨L,E,x',e1,e2,e3,e4⟩:=yA (ok:=okC (l.map item) k) (e:=e) (cap:=caps.map (λi=>(R[i]?).getD na)) (T:=T) I hI Y l [] na O h0 (by simp;omega) he;refine#[L,E, ?_,e2,e3];rw[mM,tW,U,aj];dsimp only;rw[show mW 1 caps R=na::caps.map (λi=>(R[i]?).getD na) from rfl,e1,aj,aj];rfl
theorem LW(ha:a<n)(hn:n<=1000000):u7 [.int (a:Int),.int (n:Int)] []=.ok (.ptr 0,[.lst ((ee n a).map D.int)]):=by
 have h1:=dD (i:=2) (wp (GI (fin:=n8) (mk:=aa 1) (s:=#[[lH (.int (a:Int)),lH (.int (n:Int)),na],[]]) (n:=n) (by simp) hn) zD);have h2:gi (ao (.int 1)) (jk (aa 2) (aa 0)) #[[lH (.int (a:Int)),lH (.int (n:Int)),lH (.ptr 0)],[.lst ((ux n (0:Int)).map D.int)]]=.next #[[lH (.int (a:Int)),lH (.int (n:Int)),lH (.ptr 0)],[.lst ((ee n a).map D.int)]]:=by rw[rK,aF,aj,kN (k:=0) (a:=a) (ds:=(ux n (0:Int)).map D.int) (s1:=#[[lH (.int (a:Int)),lH (.int (n:Int)),lH (.ptr 0)],[.lst ((ux n (0:Int)).map D.int)]]) (s2:=#[[lH (.int (a:Int)),lH (.int (n:Int)),lH (.ptr 0)],[.lst ((ux n (0:Int)).map D.int)]]) (by simp) (by simp) rfl (by simpa using ha)];simp[ee,TQ]
 refine du (R:=[lH (.int (a:Int)),lH (.int (n:Int)),lH (.ptr 0)]) ?_;show CP #[[lH (.int (a:Int)),lH (.int (n:Int)),na],[]]=_;rw[CP,bE h1];exact aT h2 (bt (ag rfl))
theorem KO(hn:n<=1000)(O:aA):∃L E,v9 [.int (n:Int)] O=.ok (.lst (bq L),O++E)/\L.map (·.2)=cJ n/\Sto (O++E) L:=by
 obtain⟨L,E,e,h1,h2⟩:=HP (l:=tz n) (item:=λi:Nat=>D.int (i:Int)) (f:=ee n) (T:=λ_ _=>False) (caps:=[0]) (im:=g9 (af (aa 0) ar)) (e:=dP 2 u7 (af (aa 0) (af (aa 1) ar))) (k:=na) (R:=[lH (.int (n:Int))]) (O:=O) (λ_=>True) (λ_ _ _=>trivial) trivial (by
  rw[gD (n:=n) (s1:=#[[lH (.int (n:Int))],O]) (aB (ag rfl) aI) ⋯,iF]) (λ_ _=>trivial) (by rw[Sn];omega) (λa ha P _=>
  #[P.length,[.lst ((ee n a).map D.int)],i6 (aB (ag rfl) (aB (ag rfl) aI)) (LW (Ch.mp ha) ⋯) (by simp) rfl iI (by simp),by simp,.inr (ut _)])
 refine#[L,E, ?_,h1,h2];refine du (R:=[lH (.int (n:Int))]) ?_;show zK #[[lH (.int (n:Int))],O]=_;rw[zK];exact bt e
theorem yS{O:aA}:∀{L:List (Nat×List Int)},Sto O L->keyed O (bq L)=lH (L.map λp=>(.ptr p.1,p.2))
 | [],_=>rfl
 | p::L,h=>by
  have e:=yS (L:=L) λq hq=>h q (sB _ hq);have c:zk O (.ptr p.1)=lH p.2:=by unfold zk;rw[lC (h p sH)];exact zo _
  show keyed O (.ptr p.1::bq L)=_;unfold keyed;rw[c,e];rfl
theorem Hn:(d9 (L.map λp=>(D.ptr p.1,p.2))).map (·.1)=bq (d9 L):=by rw[nH (g:=λp:Nat×List Int=>(D.ptr p.1,p.2)) λ_=>rfl,wh];rfl
theorem xy{O:aA}{fin:S->List D->Res (D×S)}(U:me s=.ok (d,s1))(hd:lsD s1.o d=lH (bq L))(hs:Sto s1.o L)(Y:L.length<64)(nd:(L.map (·.2)).Nodup):wA fin me s=fin s1 (bq (d9 L)):=by unfold wA;rw[U,aj];dsimp only;rw[hd];dsimp only;rw[yS hs];dsimp only;rw[if_pos #[by rw[ss];exact Y,by rw[wh];exact nd],Hn]
def qt(V:List (List Int)):List (List Int):=(d9 (V.map λx=>((),x))).map (·.2)
theorem A5:(d9 L).map (·.2)=qt (L.map (·.2)):=by unfold qt;rw[wh,show ((λx:List Int=>((),x))∘λx:Nat×List Int=>x.2)=λp:Nat×List Int=>((),p.2) from rfl,nH (g:=λp:Nat×List Int=>((),p.2)) λ_=>rfl,wh];rfl
theorem AX(n:Nat):cD 1 (cJ n):=λx hx=>by unfold cJ at hx;obtain⟨a,_,rfl⟩:=pr.mp hx;exact Gd n a
structure Ce(c B n:Nat)(rows:List (List Int)):Prop where
 len:∀r∈rows,r.length=n
 sz:cD c rows
 big:qp c rows.length 1<=B
 cB:c<=B
 B2:2*B+20<=60000000
 n7:n<=7
theorem D4{c B n:Nat}(h:Ce c B n rows){rs:List (List Int)}(hr:∀r∈rs,r∈rows)(Y:rs.length<=rows.length):cD B (rs.foldl (dQ n) (cJ n)):=
 (xS rs 1 _ (λr U=>#[h.sz r (hr r U),by rw[h.len r (hr r U)];have:=h.n7;omega]) (AX n)).mono (IR (nF c rs.length rows.length 1 Y) h.big)
theorem CF{c B n:Nat}(h:Ce c B n rows):∃k O Ls,lK [vII rows,.int (n:Int)] []=.ok (.ptr k,O)/\O[k]? =lH (.lst (bq Ls))/\Sto O Ls/\(∀p∈Ls,p.1≠k)/\Ls=d9 Ls/\Ls.map (·.2)=qt (jy rows n):=by
 have n7:=h.n7;obtain⟨L0,E0,e0,m0,s0⟩:=KO (n:=n) ⋯ [];rw[xz] at e0 s0;obtain⟨s',el,rs,L,O,x3,ab,as,U,ml⟩:=dF (ok:=okC (rows.map vI) na) (g:=aD 3) (body:=xB)
  (λpre s=>∃(rs:List (List Int)) (L:List (Nat×List Int)) (O:aA) (x3:Option D),pre=rs.map vI/\s=#[[lH (vII rows),lH (.int (n:Int)),lH (.lst (bq L)),x3],O]/\Sto O L/\L.map (·.2)=rs.foldl (dQ n) (cJ n)) (λ_ _ _=>trivial) (rows.map vI) [] (by
   rintro pre d rest ed s ⟨rs,L,O,x3,rfl,rfl,U,ml⟩;rw[xz] at ed;obtain⟨Y,l2,e1,e2,e3⟩:=List.map_eq_append_iff.mp ed;cases l2 with
   | nil=>cases e3
   | cons r l2=>
    rw[ww] at e3;injection e3 with e3 e4
    subst e3;have e5:Y=rs:=(RN (λa b h=>by
     have:a.map D.int=b.map D.int:=by injection h
     exact(RN (λx y q=>by cases q;rfl)).mp this)).mp e2
    subst e5;have inR:∀q∈Y,q∈rows:=λq hq=>by rw[e1];exact Ru _ hq
    have rR:r∈rows:=by rw[e1];simp
    have k:jS n Y (jy Y n):=nN λq hq=>h.len q (inR q hq);have cl:Y.length<=rows.length:=by rw[e1,x0];omega
    have mem:∀p∈L,bO n Y p.2:=λp hp=>(k.all p.2).mp (by show p.2∈Y.foldl (dQ n) (cJ n);rw[<- ml];exact Ps hp)
    have wk:Wrk n L r B:=#[λp hp=>(mem p hp).fit.len,λp hp=>(mem p hp).fit.nn,by
     have:=k.few n7;have e:L.length=(jy Y n).length:=by show _=(Y.foldl (dQ n) (cJ n)).length;rw[<- ml,ss]
     omega,h.len r rR,⋯,by rw[ml];exact D4 h inR cl,(h.sz r rR).mono h.cB,h.B2]
    obtain⟨L',O',e6,m6,s6⟩:=Ms wk U;refine#[#[[lH (vII rows),lH (.int (n:Int)),lH (.lst (bq L)),lH (vI r)],O],#[[lH (vII rows),lH (.int (n:Int)),lH (.lst (bq L')),lH (vI r)],O'],rfl,.inl ?_,Y++[r],L',O',_,by simp,rfl,s6,by rw[m6,ml,Tp];rfl];rw[xB];exact bA (gP (aB (ag rfl) (aB (ag rfl) aI)) e6 rfl) rfl) #[[lH (vII rows),lH (.int (n:Int)),lH (.lst (bq L0)),na],E0] #[[],L0,E0,na,rfl,rfl,s0,m0]
 rw[xz] at ab;have e5:rows=rs:=(RN (λa b h=>by
  have:a.map D.int=b.map D.int:=by injection h
  exact(RN (λx y q=>by cases q;rfl)).mp this)).mp ab
 subst e5;subst as;have k:jS n rows (jy rows n):=nN h.len;have ac:L.map (·.2)=jy rows n:=ml;have nd:(L.map (·.2)).Nodup:=by rw[ac];exact k.nd
 have few:L.length<64:=by have:=k.few n7;rw[<- ac,ss] at this;exact this
 have so:wA n8 (aa 2) #[[lH (vII rows),lH (.int (n:Int)),lH (.lst (bq L)),x3],O]=.ok (.ptr O.length,#[[lH (vII rows),lH (.int (n:Int)),lH (.lst (bq L)),x3],O++[.lst (bq (d9 L))]]):=(xy (O:=O) (fin:=n8) (ag rfl) rfl U few nd).trans zD;have mem:∀p∈d9 L,p∈L:=λp hp=>(gT L).mem_iff.mp hp;refine#[O.length,O++[.lst (bq (d9 L))],d9 L, ?_,by simp,λp hp=>(U.app _) p (mem p hp),λp hp=>FS (U.lt (mem p hp)), ?_,by rw[A5,ac]];refine du (R:=[lH (vII rows),lH (.int (n:Int)),lH (.lst (bq L)),x3]) ?_;show Dy #[[lH (vII rows),lH (.int (n:Int)),na,na],[]]=_;rw[Dy];refine aT (bA (gP (aB (ag rfl) aI) e0 rfl) rfl) (aT ?_ (bt so));exact(dh (im:=listI (aa 0)) (ds:=rows.map vI) (k:=na) (s1:=#[[lH (vII rows),lH (.int (n:Int)),lH (.lst (bq L0)),na],E0]) (by rw[cz,ag (i:=0) rfl,aj];rfl)).trans el;refine yj (gT _).symm ?_ (oR L) (oR _);exact((gT L).map (·.2)).nodup_iff.mpr nd
structure u9(n:Nat)(rows:List (List Int)):Prop where
 len:∀r∈rows,r.length=n
 sz:cD 200 rows
 cnt:rows.length<=5
 n7:n<=7
theorem big:qp 200 5 1<=8000:=∅
theorem Kd(h:u9 n rows){rs:List (List Int)}(hr:∀r∈rs,r∈rows)(Y:rs.length<=5):cD 8000 (rs.foldl (dQ n) (cJ n)):=by refine(xS rs 1 _ (λr U=>#[h.sz r (hr r U),by rw[h.len r (hr r U)];have:=h.n7;omega]) (AX n)).mono ?_;exact IR (nF 200 rs.length 5 1 Y) big
theorem u9.toC(h:u9 n rows):Ce 200 8000 n rows:=#[h.len,h.sz,IR (nF 200 rows.length 5 1 h.cnt) big,∅,∅,h.n7]
theorem LQ(h:u9 n rows):∃k O U,lK [vII rows,.int (n:Int)] []=.ok (.ptr k,O)/\O[k]? =lH (.lst (bq U))/\Sto O U/\(∀p∈U,p.1≠k)/\U=d9 U/\U.map (·.2)=qt (jy rows n):=CF h.toC
theorem Cf(h:cO d=on):aR [vII A,d]=true:=by rw[jc,jc,nG,lF,h];rfl
theorem FG(n:Nat):∀L:List (Nat×List Int),eN n (bq L)=bq (L.map λp=>(n+p.1,p.2))
 | []=>by simp[eN]
 | p::L=>by show eN n (.ptr p.1::bq L)=_;unfold eN;rw[FG n L,iI];rfl
theorem zx{O S:aA}(h:Sto O L):Sto (S++O.map (shC S.length)) (L.map λp=>(S.length+p.1,p.2)):=λq hq=>by obtain⟨p,hp,rfl⟩:=pr.mp hq;dsimp only;rw[wE ⋯,R4,wP,h p hp];simp
theorem Ae{O S:aA}(h:O[k]? =lH (.lst (bq L))):(S++O.map (shC S.length))[S.length+k]? =lH (.lst (bq (L.map λp=>(S.length+p.1,p.2)))):=by rw[wE ⋯,R4,wP,h];simp only[SF,E5,FG]
theorem Bk(ns:List Int)(U:ns.length<=1000000):gZ [vI ns] []=.ok (vI (low ns),[]):=by
 by_cases h:cE ns=0;refine b9 (s:=#[[lH (vI ns),lH (.int 0)],[]]) ?_;simp[rA,tM,h,low];have hc:=dS (l:=ns) (item:=D.int) (out:=λn=>.int (n/(cE ns:Int))) (caps:=[1]) (im:=listI (aa 0)) (e:=ak d3 (aa 0) (aa 1)) (k:=na) (s:=#[[lH (vI ns),lH (.int (cE ns:Nat))],[]]) (by simp) trivial ⋯ (λa _=>by simp[lD (show (cE ns:Int)≠0 by omega),pk (show (0:Int)<cE ns by omega)])
 refine b9 (s:=#[[lH (vI ns),lH (.int (cE ns:Nat))],[]]) ?_;simp[rA,tM,h,hc,low,wh,SS]
theorem Mu(ha:a<n)(hn:n<=1000000):∃O,nY [.int (a:Int),.int (n:Int)] []=.ok (vI (ee n a),O):=by
 have h1:=dD (i:=2) (wp (GI (fin:=n8) (mk:=aa 1) (s:=#[[lH (.int (a:Int)),lH (.int (n:Int)),na],[]]) (n:=n) (by simp) hn) zD);have h2:gi (ao (.int 1)) (jk (aa 2) (aa 0)) #[[lH (.int (a:Int)),lH (.int (n:Int)),lH (.ptr 0)],[.lst ((ux n (0:Int)).map D.int)]]=.next #[[lH (.int (a:Int)),lH (.int (n:Int)),lH (.ptr 0)],[.lst ((ee n a).map D.int)]]:=by rw[rK,aF,aj,kN (k:=0) (a:=a) (ds:=(ux n (0:Int)).map D.int) (s1:=#[[lH (.int (a:Int)),lH (.int (n:Int)),lH (.ptr 0)],[.lst ((ux n (0:Int)).map D.int)]]) (s2:=#[[lH (.int (a:Int)),lH (.int (n:Int)),lH (.ptr 0)],[.lst ((ux n (0:Int)).map D.int)]]) (by simp) (by simp) rfl (by simpa using ha)];simp[ee,TQ]
 refine k8 #[#[[lH (.int (a:Int)),lH (.int (n:Int)),lH (.ptr 0)],[.dead]], ?_];show vG #[[lH (.int (a:Int)),lH (.int (n:Int)),na],[]]=_;rw[vG,bE h1];refine wp (bE h2) ?_;simp
theorem Jh(hn:n<=1000000):lN [.int (n:Int)] []=.ok (vII (cJ n),[]):=by
 have hc:=dS (l:=tz n) (item:=λi=>.int (i:Int)) (out:=λi=>vI (ee n i)) (caps:=[0]) (im:=g9 (af (aa 0) ar)) (e:=bc 2 nY (af (aa 0) (af (aa 1) ar))) (k:=na) (s:=#[[lH (.int (n:Int))],[]]) (by
  rw[gD (n:=n) (s1:=#[[lH (.int (n:Int))],[]]) (by simp) hn,iF]) trivial (lu (by rw[Sn];exact hn)) (λa ha=>by
  obtain⟨O,e⟩:=Mu (Ch.mp ha) hn;exact cy (ds:=[.int (a:Int),.int (n:Int)]) (by simp) (by simp) rfl e (by simp))
 refine b9 (s:=#[[lH (.int (n:Int))],[]]) ?_;show ui #[[lH (.int (n:Int))],[]]=_;rw[ui,bt hc];simp[cJ]
theorem Bd{one other:List Int}{v w:Int}(Y:one.length<=1000000)(h1:∀a∈one,RF a w)(h2:∀b∈other,RF b v):gr [vI one,.int v,vI other,.int w] []=.ok (vI (cX one v other w),[]):=by
 have hz:(one.zip other).length<=1000000:=by rw[RU];omega
 have hc:=Dn (l:=one.zip other) (f:=λp=>.int p.1) (g:=λp=>.int p.2) (out:=λp=>.int (p.1*w-p.2*v)) (caps:=[1,3]) (im:=mX (af (aa 0) (af (aa 2) ar))) (e:=ak kY (ak cT (aa 0) (aa 3)) (ak cT (aa 1) (aa 2))) (k:=na) (s:=#[[lH (vI one),lH (.int v),lH (vI other),lH (.int w),na],[]]) (by simp[qu]) trivial ⋯ (λp hp=>by have hp':=Rk hp;simp[cV (h1 p.1 hp'.1),cV (h2 p.2 hp'.2)])
 rw[show (one.zip other).map (λp=>D.int (p.1*w-p.2*v))=(gM one v other w).map D.int by rw[gM,<- zip_map];simp] at hc;have U:(gM one v other w).length<=1000000:=by unfold gM;rw[RL];omega
 refine b9 (s:=#[[lH (vI one),lH (.int v),lH (vI other),lH (.int w),lH (vI (gM one v other w))],[]]) ?_;show rg #[[lH (vI one),lH (.int v),lH (vI other),lH (.int w),na],[]]=_;rw[rg,bE (dD hc)];simp[Bk _ U,cX]
theorem AW{k:Option Nat}(hd:itemsOf O d=.ok (rows.map vI,k))(hk:okC (rows.map vI) k O)(U:rows.length<=1000000)(ha:∀r∈rows,a<r.length):iQ [d,.int (a:Int)] O=.ok (vI (rows.map (nth · a)),O):=by
 have hc:=dS (l:=rows) (item:=vI) (out:=λr=>.int (nth r a)) (caps:=[1]) (im:=listI (aa 0)) (e:=ak ixD (aa 0) (aa 1)) (k:=k) (s:=#[[lH d,lH (.int (a:Int))],O]) (by simp[hd]) hk ⋯ (λr hr=>by simp[jo (ha r hr)])
 refine b9 (s:=#[[lH d,lH (.int (a:Int))],O]) ?_;show ya #[[lH d,lH (.int (a:Int))],O]=_;rw[ya,bt hc];simp[wh,SS]
theorem Hx(x:Option D)(L:D):∀(ns:List Int) (U:Nat) (Y x2:Option D),(dt ns=na->∃y1 y2,bT (okC (fj [L]) na) (cS (a8 (aD 1) (a8 (aD 2) cW)) 2) cA ((ns.zipIdx U).map λp=>.tup [.int (p.2:Int),.int p.1]) #[[lH L,Y,x2],[]]=.next #[[lH L,y1,y2],[]])/\
 ∀j,dt ns=lH j->∃y1 y2,bT (okC (fj [L]) na) (cS (a8 (aD 1) (a8 (aD 2) cW)) 2) cA ((ns.zipIdx U).map λp=>.tup [.int (p.2:Int),.int p.1]) #[[lH L,Y,x2],[]]=.ret (.int ((U+j:Nat):Int)) #[[lH L,y1,y2],[]]
 | [],U,Y,x2=>#[λ_=>#[Y,x2,by simp[bT]],λj h=>by cases h]
 | n::ns,U,Y,x2=>by
  have ih:=Hx x L ns (U+1) (lH (.int (U:Int))) (lH (.int n));rw[Tu,ww,bT,if_pos (show okC (fj [L]) na _ from trivial)];have hg:cS (a8 (aD 1) (a8 (aD 2) cW)) 2 (.tup [.int (U:Int),.int n]) #[[lH L,Y,x2],[]]=.ok #[[lH L,lH (.int (U:Int)),lH (.int n)],[]]:=by simp
  rw[hg,my];by_cases hn:n=0;have hb:cA #[[lH L,lH (.int (U:Int)),lH (.int n)],[]]=.next #[[lH L,lH (.int (U:Int)),lH (.int n)],[]]:=by simp[cA,hn]
  rw[hb];dsimp only;constructor;intro h;unfold dt at h;rw[if_neg (by simpa using hn)] at h;exact ih.1 (by simpa using h);intro j h;unfold dt at h;rw[if_neg (by simpa using hn)] at h;cases e:dt ns with
  | none=>rw[e] at h;cases h
  | some i=>
   rw[e] at h;have hj:j=i+1:=by simpa using h.symm
   subst hj;obtain⟨y1,y2,e2⟩:=ih.2 i e;exact#[y1,y2,by rw[e2,show U+1+i=U+(i+1) by omega]]
  have hb:cA #[[lH L,lH (.int (U:Int)),lH (.int n)],[]]=.ret (.int (U:Int)) #[[lH L,lH (.int (U:Int)),lH (.int n)],[]]:=by simp[cA,hn]
  rw[hb];dsimp only;have hs:dt (n::ns)=lH 0:=by unfold dt;rw[if_pos hn]
  rw[hs];refine#[λh=>(by cases h),λj h=> ?_];have hj:j=0:=by simpa using h.symm
  subst hj;exact#[_,_,rfl]
def vd:Option Nat->D
 | none=>.non
 | some k=>.int (k:Int)
theorem Ie:dq [vI ns] []=.ok (vd (dt ns),[]):=by
 have hf:=dh (im:=c8 (af (aa 0) ar)) (g:=cS (a8 (aD 1) (a8 (aD 2) cW)) 2) (body:=cA) (s:=#[[lH (vI ns),na,na],[]]) (ds:=(ns.zipIdx 0).map λp=>.tup [.int (p.2:Int),.int p.1]) (k:=na) (s1:=#[[lH (vI ns),na,na],[]]) (by simp[Hb]);have go:=Hx na (vI ns) ns 0 na na;cases e:dt ns with
 | none=>
  obtain⟨U,Y,e1⟩:=go.1 e;refine b9 (s:=#[[lH (vI ns),U,Y],[]]) ?_;show fS #[[lH (vI ns),na,na],[]]=_;rw[fS,wm,hf];rw[show bT (okC ((ns.zipIdx 0).map λp=>D.tup [.int (p.2:Int),.int p.1]) na) (cS (a8 (aD 1) (a8 (aD 2) cW)) 2) cA ((ns.zipIdx 0).map λp=>.tup [.int (p.2:Int),.int p.1]) #[[lH (vI ns),na,na],[]]=.next #[[lH (vI ns),U,Y],[]] from e1];rfl
 | some k=>
  obtain⟨U,Y,e1⟩:=go.2 k e;refine b9 (s:=#[[lH (vI ns),U,Y],[]]) ?_;show fS #[[lH (vI ns),na,na],[]]=_;rw[fS,wm,hf];rw[show bT (okC ((ns.zipIdx 0).map λp=>D.tup [.int (p.2:Int),.int p.1]) na) (cS (a8 (aD 1) (a8 (aD 2) cW)) 2) cA ((ns.zipIdx 0).map λp=>.tup [.int (p.2:Int),.int p.1]) #[[lH (vI ns),na,na],[]]=.ret (.int ((0+k:Nat):Int)) #[[lH (vI ns),U,Y],[]] from e1];rw[UU];rfl
theorem L7{r:List Int}(ha:a<r.length)(U:r.length<=1000000):f7 [vI r,.int (a:Int)] []=.ok (vI (gJ r a),[]):=by have hc:=dS (l:=r) (item:=D.int) (out:=λn=>.int (-n)) (caps:=[]) (im:=listI (aa 0)) (e:=unM iO (aa 0)) (k:=na) (s:=#[[lH (vI r),lH (.int (a:Int))],[]]) (by simp) trivial ⋯ (λn _=>by simp);refine b9 (s:=#[[lH (vI r),lH (.int (a:Int))],[]]) ?_;by_cases h:0<nth r a;simp[j9,jo ha,h,gJ];simp[j9,jo ha,h,gJ,hc,wh,SS]
theorem GO{row lead:List Int}(h1:a<row.length)(h2:a<lead.length)(hl:row.length<=1000000)(U:∀x∈row,RF x (nth lead a))(Y:∀y∈lead,RF y (nth row a)):gR [vI row,vI lead,.int (a:Int)] []=.ok (vI (dm lead a row),[]):=by refine b9 (s:=#[[lH (vI row),lH (vI lead),lH (.int (a:Int))],[]]) ?_;by_cases h:nth row a=0;simp[uW,jo h1,h,dm];simp[uW,jo h1,jo h2,h,dm,Bd hl U Y]
theorem G1 {n a b l d:Nat} {left done:List (List Int)} {x5 x6:Option D} {L:D} (hl:O[l]? =lH (.lst (left.map vI))) (hd:O[d]? =lH (.lst (done.map vI))) (az:l≠d)
 (ll:∀r∈left,r.length=n) (dl:∀r∈done,r.length=n) (ha:a<n) (hn:n<=1000) (c1:left.length<=1000) (c2:done.length<=1000) (s1:cD b left) (s2:cD b done) (hb:b<=60000000):
 ∃O' l' d' y5 y6,jJ #[[lH L,lH (.int (n:Int)),lH (.ptr l),lH (.ptr d),lH (.int (a:Int)),x5,x6],O]=.next #[[lH L,lH (.int (n:Int)),lH (.ptr l'),lH (.ptr d'),lH (.int (a:Int)),y5,y6],O']/\
  O'[l']? =lH (.lst ((c7 (left,done) a).1.map vI))/\O'[d']? =lH (.lst ((c7 (left,done) a).2.map vI))/\l'≠d':=by
 have a0:iQ [.ptr l,.int (a:Int)] O=.ok (vI (left.map (nth · a)),O):=AW (k:=lH l) (by rw[w4 hl]) hl ⋯ λr hr=>by rw[ll r hr];exact ha
 have e5:=dD (i:=5) (cy (n:=1) (f:=dq) (ma:=af (bQ 2 iQ (af (aa 2) (af (aa 4) ar))) ar) (s:=#[[lH L,lH (.int (n:Int)),lH (.ptr l),lH (.ptr d),lH (.int (a:Int)),x5,x6],O]) (s':=#[[lH L,lH (.int (n:Int)),lH (.ptr l),lH (.ptr d),lH (.int (a:Int)),x5,x6],O]) (ds:=[vI (left.map (nth · a))]) (by rw[aZ,jQ (n:=2) (ds:=[.ptr l,.int (a:Int)]) (s':=#[[lH L,lH (.int (n:Int)),lH (.ptr l),lH (.ptr d),lH (.int (a:Int)),x5,x6],O]) (by simp) rfl a0];rfl) o8 rfl Ie (by cases dt (left.map (nth · a)) <;> simp[vd]))
 unfold c7;dsimp only;cases e:dt (left.map (nth · a)) with
 | none=>
  rw[e] at e5;refine#[O,l,d,lH .non,x6, ?_,hl,hd,az];rw[jJ,bE e5];refine wp (iM (s':=#[[lH L,lH (.int (n:Int)),lH (.ptr l),lH (.ptr d),lH (.int (a:Int)),lH .non,x6],O]) (by simp[vd])) rfl
 | some k=>
  rw[e] at e5;obtain⟨k1,k2,_⟩:=gO e;rw[ss] at k1;have a2:(left.map vI)[k]'(by simpa using k1)=vI (left.getD k []):=by simp[nu,k1]
  have ac:left.getD k []∈left:=getD_mem k1;have a3:(left.map vI).eraseIdx k=(left.eraseIdx k).map vI:=AO _ _ _;generalize a4:left.getD k []=row at *;have rl:row.length=n:=ll row ac;have as:(gJ row a).length=n:=by rw[wY,rl]
  have bw:=L7 (r:=row) (a:=a) ⋯ ⋯;have a5:SzL b (gJ row a):=(s1 row ac).sgn a;generalize Y:gJ row a=lead at *;have clr:∀r:List Int,r.length=n->SzL b r->gR [vI r,vI lead,.int (a:Int)] []=.ok (vI (dm lead a r),[]):=λr hr hs=>
   GO ⋯ ⋯ ⋯ (λx hx=>DV hb (hs x hx) (a5.nth a)) (λy hy=>DV hb (a5 y hy) (hs.nth a))
  have al:(O.set l (.lst ((left.eraseIdx k).map vI)))[l]? =lH (.lst ((left.eraseIdx k).map vI)):=df hl;have am:(O.set l (.lst ((left.eraseIdx k).map vI)))[d]? =lH (.lst (done.map vI)):=by rw[de az];exact hd
  have e6:=dD (i:=6) (cy (n:=2) (f:=f7) (ma:=af (Cu (aa 2) (aa 5)) (af (aa 4) ar)) (s:=#[[lH L,lH (.int (n:Int)),lH (.ptr l),lH (.ptr d),lH (.int (a:Int)),lH (.int (k:Int)),x6],O]) (s':=#[[lH L,lH (.int (n:Int)),lH (.ptr l),lH (.ptr d),lH (.int (a:Int)),lH (.int (k:Int)),x6],O.set l (.lst ((left.eraseIdx k).map vI))]) (ds:=[vI row,.int (a:Int)]) (by rw[aZ,M0 (s1:=#[[lH L,lH (.int (n:Int)),lH (.ptr l),lH (.ptr d),lH (.int (a:Int)),lH (.int (k:Int)),x6],O]) (s2:=#[[lH L,lH (.int (n:Int)),lH (.ptr l),lH (.ptr d),lH (.int (a:Int)),lH (.int (k:Int)),x6],O]) (k:=l) (i:=k) (by simp) hl (by simp) hl (by simpa using k1) ⋯,a2,a3];simp) (by simp) rfl bw (by simp))
  generalize O.set l (.lst ((left.eraseIdx k).map vI))=O1 at *;have e2:=dD (i:=2) (yx (l:=left.eraseIdx k) (item:=vI) (out:=λr=>vI (dm lead a r)) (caps:=[4,6]) (im:=listI (aa 2)) (e:=bc 3 gR (af (aa 0) (af (aa 2) (af (aa 1) ar)))) (k:=lH l) (s:=#[[lH L,lH (.int (n:Int)),lH (.ptr l),lH (.ptr d),lH (.int (a:Int)),lH (.int (k:Int)),lH (vI lead)],O1]) (AV (by simp) al) al (by have:=List.length_eraseIdx_le left k;omega) (λr hr=>by have bb:=RG hr;exact cy (ds:=[vI r,vI lead,.int (a:Int)]) (by simp) (by simp) rfl (clr r (ll r bb) (s1 r bb)) (by simp)))
  dsimp only at e2;have an:(O1++[.lst ((left.eraseIdx k).map λr=>vI (dm lead a r))])[d]? =lH (.lst (done.map vI)):=fJ am;have bd:(O1++[.lst ((left.eraseIdx k).map λr=>vI (dm lead a r))])[O1.length]? =lH (.lst ((left.eraseIdx k).map λr=>vI (dm lead a r))):=gj;have b4:=nO am;have bz:(O1++[Cell.lst ((left.eraseIdx k).map λr=>vI (dm lead a r))]).length=O1.length+1:=by simp
  generalize O1++[Cell.lst ((left.eraseIdx k).map λr=>vI (dm lead a r))]=U at *;have e3:=dD (i:=3) (yx (l:=done) (item:=vI) (out:=λr=>vI (dm lead a r)) (caps:=[4,6]) (im:=listI (aa 3)) (e:=bc 3 gR (af (aa 0) (af (aa 2) (af (aa 1) ar)))) (k:=lH d) (s:=#[[lH L,lH (.int (n:Int)),lH (.ptr O1.length),lH (.ptr d),lH (.int (a:Int)),lH (.int (k:Int)),lH (vI lead)],U]) (AV (by simp) an) an ⋯ (λr hr=>
   cy (ds:=[vI r,vI lead,.int (a:Int)]) (by simp) (by simp) rfl (clr r (dl r hr) (s2 r hr)) (by simp)))
  dsimp only at e3;have be:(U++[.lst (done.map λr=>vI (dm lead a r))])[O1.length]? =lH (.lst ((left.eraseIdx k).map λr=>vI (dm lead a r))):=fJ bd;have ab:(U++[.lst (done.map λr=>vI (dm lead a r))])[U.length]? =lH (.lst (done.map λr=>vI (dm lead a r))):=gj;generalize U++[Cell.lst (done.map λr=>vI (dm lead a r))]=O3 at *;have e7:=dG (vV (mo:=aa 3) (me:=aa 6) (s:=#[[lH L,lH (.int (n:Int)),lH (.ptr O1.length),lH (.ptr U.length),lH (.int (a:Int)),lH (.int (k:Int)),lH (vI lead)],O3]) (s1:=#[[lH L,lH (.int (n:Int)),lH (.ptr O1.length),lH (.ptr U.length),lH (.int (a:Int)),lH (.int (k:Int)),lH (vI lead)],O3]) (s2:=#[[lH L,lH (.int (n:Int)),lH (.ptr O1.length),lH (.ptr U.length),lH (.int (a:Int)),lH (.int (k:Int)),lH (vI lead)],O3]) (k:=U.length) (d:=vI lead) (by simp) ab (by simp) ab (by simp;omega));have bi:U.length≠O1.length:=⋯;refine#[O3.set U.length (.lst ((done.map λr=>vI (dm lead a r))++[vI lead])),O1.length,U.length,lH (.int (k:Int)),lH (vI lead), ?_, ?_, ?_,⋯];rw[jJ,bE e5];refine wp (oU (s':=#[[lH L,lH (.int (n:Int)),lH (.ptr l),lH (.ptr d),lH (.int (a:Int)),lH (.int (k:Int)),x6],O]) (by simp[vd])) ?_;refine wp (bE e6) ?_;refine wp (bE e2) ?_;refine wp (bE e3) ?_;exact e7;rw[de bi,be];dsimp only;rw[a4,Y,wh];rfl;rw[df ab];dsimp only;rw[a4,Y,Q7,wh];rfl
theorem IH(hn:n<=1000)(hc:rows.length<=1000)(hl:∀r∈rows,r.length=n)(hs:cD b rows)(hb:grow b rows.length<=60000000):∃O,vX [vII rows,.int (n:Int)] []=.ok (vII (cj rows n),O):=by
 have e2:=dD (i:=2) (yx (l:=rows) (item:=vI) (out:=λr=>vI (low r)) (caps:=[]) (im:=listI (aa 0)) (e:=bc 1 gZ (af (aa 0) ar)) (k:=na) (s:=#[[lH (vII rows),lH (.int (n:Int)),na,na,na,na,na],[]]) (by simp) trivial ⋯ (λr hr=>
  cy (ds:=[vI r]) (by simp) (by simp) rfl (Bk r (by rw[hl r hr];omega)) (by simp)))
 have e3:setM 3 (g5 ar) #[[lH (vII rows),lH (.int (n:Int)),lH (.ptr 0),na,na,na,na],[.lst (rows.map λr=>vI (low r))]]=.next #[[lH (vII rows),lH (.int (n:Int)),lH (.ptr 0),lH (.ptr 1),na,na,na],[.lst (rows.map λr=>vI (low r)),.lst []]]:=by simp
 have U:∀a,a<=n->∃left done O l d Y x5 x6,PSz n b a rows left done/\O[l]? =lH (.lst (left.map vI))/\O[d]? =lH (.lst (done.map vI))/\l≠d/\
  bT (okC (cN 0 (n:Int)) na) (aD 4) jJ ((tz n).map λ(i:Nat)=>D.int (i:Int)) #[[lH (vII rows),lH (.int (n:Int)),lH (.ptr 0),lH (.ptr 1),na,na,na],[.lst (rows.map λr=>vI (low r)),.lst []]]=
  bT (okC (cN 0 (n:Int)) na) (aD 4) jJ (((tz n).drop a).map λ(i:Nat)=>D.int (i:Int)) #[[lH (vII rows),lH (.int (n:Int)),lH (.ptr l),lH (.ptr d),Y,x5,x6],O]:=by
  intro a;induction a with
  | zero=>exact λ_=>#[rows.map low,[],_,0,1,na,na,na,PSz.start hl hs,by simp,by simp,∅,rfl]
  | succ a ih=>
   intro ha;obtain⟨left,done,O,l,d,Y,x5,x6,P,h1,h2,ab,e⟩:=ih ⋯;have an:=P.cnt;have hb':grow b done.length<=60000000:=IR (Bh ⋯) hb;obtain⟨O',l',d',y5,y6,eb,q1,q2,q3⟩:=G1 (L:=vII rows) (x5:=x5) (x6:=x6) h1 h2 ab P.ll P.dl (show a<n by omega) hn ⋯ ⋯ P.ls P.ds hb';refine#[_,_,O',l',d',lH (.int (a:Int)),y5,y6,P.step hl ⋯,q1,q2,q3, ?_];rw[e,Ri (by rw[Sn];omega),ww,bT,if_pos (show okC _ na _ from trivial)];rw[List.getElem_range,De,my];rw[show (#[List.set [lH (vII rows),lH (.int (n:Int)),lH (.ptr l),lH (.ptr d),Y,x5,x6] 4 (lH (.int (a:Int))),O]:S)=#[[lH (vII rows),lH (.int (n:Int)),lH (.ptr l),lH (.ptr d),lH (.int (a:Int)),x5,x6],O] from rfl,eb]
 obtain⟨left,done,O,l,d,Y,x5,x6,P,h1,h2,ab,e⟩:=U n (ut n);rw[SK (by simp),RX,bT,if_pos (show okC _ na _ from trivial)] at e;have hf:=dh (im:=g9 (af (aa 1) ar)) (g:=aD 4) (body:=jJ) (s:=#[[lH (vII rows),lH (.int (n:Int)),lH (.ptr 0),lH (.ptr 1),na,na,na],[.lst (rows.map λr=>vI (low r)),.lst []]]) (gD (s1:=#[[lH (vII rows),lH (.int (n:Int)),lH (.ptr 0),lH (.ptr 1),na,na,na],[.lst (rows.map λr=>vI (low r)),.lst []]]) (n:=n) (by simp) ⋯);rw[show cN 0 (n:Int)=(tz n).map λ(i:Nat)=>D.int (i:Int) from iF n] at hf e;rw[e] at hf;refine k8 #[#[[lH (vII rows),lH (.int (n:Int)),lH (.ptr l),lH (.ptr d),Y,x5,x6],O.set d .dead], ?_];show An #[[lH (vII rows),lH (.int (n:Int)),na,na,na,na,na],[]]=_;rw[An,bE e2];refine wp (bE e3) ?_;refine wp (bE hf) ?_;rw[P.done];exact bt (Ge (ag rfl) h2)
theorem MQ{lists:List (List Int)}(hn:n<=1000)(hc:lists.length<=1000)(hr:row.length=n)(hl:∀l∈lists,l.length=n)(hs:cD b lists)(am:SzL c row)(hb:b+c+10<=60000000):∃O,fk [vII lists,vI row] []=.ok (vII (eK lists row),O):=by
 have an:∀l∈lists,bZ [vI row,vI l] []=.ok (.int (aG row l),[]):=λl h=>CT ⋯ λp hp=>by have hp':=Rk hp;exact gQ (m:=c) (n:=b) ⋯ ⋯ (am _ hp'.1) (hs l h _ hp'.2)
 have e2:=dD (i:=2) (dS (l:=lists) (item:=vI) (out:=λl=>.int (aG row l)) (caps:=[1]) (im:=listI (aa 0)) (e:=bc 2 bZ (af (aa 1) (af (aa 0) ar))) (k:=na) (s:=#[[lH (vII lists),lH (vI row),na,na,na,na],[]]) (by simp) trivial ⋯ (λl h=>
  cy (ds:=[vI row,vI l]) (by simp) (by simp) rfl (an l h) (by simp)))
 rw[show lists.map (λl=>D.int (aG row l))=(lists.map (aG row)).map D.int by rw[wh];rfl] at e2;have e3:=dD (i:=3) (cy (n:=1) (f:=dq) (ma:=af (aa 2) ar) (s:=#[[lH (vII lists),lH (vI row),lH (vI (lists.map (aG row))),na,na,na],[]]) (s':=#[[lH (vII lists),lH (vI row),lH (vI (lists.map (aG row))),na,na,na],[]]) (ds:=[vI (lists.map (aG row))]) (by rw[aZ,ag rfl];rfl) o8 rfl Ie (by cases dt (lists.map (aG row)) <;> simp[vd]))
 have U:jg #[[lH (vII lists),lH (vI row),na,na,na,na],[]]=(aK (ifS (aS (ak isD (aa 3) (ao .non))) (bx (aa 0)) bB) (aK (setM 4 (ak ixD (aa 0) (aa 3))) (aK (setM 5 (ak ixD (aa 2) (aa 3))) (bx (bL 2 [4,5,3,2] (c8 (af (aa 0) ar)) (cS (a8 (aD 0) (a8 (aD 1) cW)) 2) (aS (ak neD (aa 0) (aa 4))) (bc 4 gr (af (aa 1) (af (ak ixD (aa 5) (aa 0)) (af (aa 2) (af (aa 3) ar))))))))))
  #[[lH (vII lists),lH (vI row),lH (vI (lists.map (aG row))),lH (vd (dt (lists.map (aG row)))),na,na],[]]:=by
  rw[jg,bE e2];exact bE e3
 unfold eK;cases e:dt (lists.map (aG row)) with
 | none=>
  rw[e] at U;refine k8 #[#[[lH (vII lists),lH (vI row),lH (vI (lists.map (aG row))),lH .non,na,na],[]], ?_];refine wp U (d7 ?_);refine wp (oU (s':=#[[lH (vII lists),lH (vI row),lH (vI (lists.map (aG row))),lH .non,na,na],[]]) (by simp[vd])) ?_;exact bt (ag rfl)
 | some k=>
  rw[e] at U;obtain⟨k1,k2,_⟩:=gO e;rw[ss] at k1;have Y:lists.getD k []∈lists:=getD_mem k1;have as:nth (lists.map (aG row)) k=aG row (lists.getD k []):=by unfold nth;simp only[nu,wP,sn k1];rfl
  have e4:=dD (i:=4) (m:=ak ixD (aa 0) (aa 3)) (s:=#[[lH (vII lists),lH (vI row),lH (vI (lists.map (aG row))),lH (.int (k:Int)),na,na],[]]) (s':=#[[lH (vII lists),lH (vI row),lH (vI (lists.map (aG row))),lH (.int (k:Int)),na,na],[]]) (d:=vI (lists.getD k [])) (by rw[cL,ag rfl,aj,ag rfl,aj,Oj k1];rfl)
  have e5:=dD (i:=5) (m:=ak ixD (aa 2) (aa 3)) (s:=#[[lH (vII lists),lH (vI row),lH (vI (lists.map (aG row))),lH (.int (k:Int)),lH (vI (lists.getD k [])),na],[]]) (s':=#[[lH (vII lists),lH (vI row),lH (vI (lists.map (aG row))),lH (.int (k:Int)),lH (vI (lists.getD k [])),na],[]]) (d:=.int (aG row (lists.getD k []))) (by rw[cL,ag rfl,aj,ag rfl,aj,jo (by simpa using k1),as];rfl)
  generalize ab:lists.getD k []=base at *;have bl:=hl base Y;have bs:=hs base Y;have az:∀l∈lists,Sz (b+c+10) (aG row l):=λl h=>si am (hs l h) (by rw[hr];exact hn);have ac:=z4 (l:=lists.zipIdx) (f:=λp=>.int (p.2:Int)) (g:=λp=>vI p.1) (p:=λp=> !decide (p.2=k)) (out:=λp=>vI (cX p.1 (aG row p.1) base (aG row base))) (caps:=[4,5,3,2]) (im:=c8 (af (aa 0) ar)) (c:=aS (ak neD (aa 0) (aa 4))) (e:=bc 4 gr (af (aa 1) (af (ak ixD (aa 5) (aa 0)) (af (aa 2) (af (aa 3) ar))))) (k:=na) (s:=#[[lH (vII lists),lH (vI row),lH (vI (lists.map (aG row))),lH (.int (k:Int)),lH (vI base),lH (.int (aG row base))],[]]) (by simp[Kp]) trivial (by simp;omega)
   (λp hp=>by have:((p.2:Int)=(k:Int))=(p.2=k):=propext #[λh=>⋯,λh=>⋯];simp[this])
   (λp hp _=>by
    obtain⟨i,l⟩:=(#[p.2,p.1]:Nat×List Int);have hm:=List.mem_zipIdx hp;have a0:p.2<lists.length:=⋯;have a1:p.1=lists[p.2]:=by have:=hm.2.2;simpa using this
    have al:p.1∈lists:=by rw[a1];exact Cg _
    have hv:nth (lists.map (aG row)) p.2=aG row p.1:=by unfold nth;simp only[nu,wP,sn a0,a1];rfl
    refine cy (ds:=[vI p.1,.int (aG row p.1),vI base,.int (aG row base)]) ?_ (by simp) rfl (Bd (by rw[hl p.1 al];omega) (λx hx=>gQ (m:=b) (n:=b+c+10) ⋯ ⋯ (hs p.1 al x hx) (az base Y)) (λx hx=>gQ (m:=b) (n:=b+c+10) ⋯ ⋯ (bs x hx) (az p.1 al))) (by simp);have hx:ak ixD (aa 5) (aa 0) #[lH (.int (p.2:Int))::lH (vI p.1)::[4,5,3,2].map (λi=>(([lH (vII lists),lH (vI row),lH (vI (lists.map (aG row))),lH (.int (k:Int)),lH (vI base),lH (.int (aG row base))]:List (Option D))[i]?).getD na),[]]=.ok (.int (aG row p.1),#[lH (.int (p.2:Int))::lH (vI p.1)::[4,5,3,2].map (λi=>(([lH (vII lists),lH (vI row),lH (vI (lists.map (aG row))),lH (.int (k:Int)),lH (vI base),lH (.int (aG row base))]:List (Option D))[i]?).getD na),[]]):=by rw[cL,ag rfl,aj,ag rfl,aj,jo (by simpa using a0),hv];rfl
    rw[aZ,ag rfl,aj,aZ,hx,aj];rfl)
  refine k8 #[#[[lH (vII lists),lH (vI row),lH (vI (lists.map (aG row))),lH (.int (k:Int)),lH (vI base),lH (.int (aG row base))],[]], ?_];refine wp U ?_;refine wp (bE (s':=#[[lH (vII lists),lH (vI row),lH (vI (lists.map (aG row))),lH (.int (k:Int)),na,na],[]]) (wp (iM (s':=#[[lH (vII lists),lH (vI row),lH (vI (lists.map (aG row))),lH (.int (k:Int)),na,na],[]]) (by simp[vd])) rfl)) ?_;refine wp (bE e4) ?_;refine wp (bE e5) ?_;refine wp (bt ac) ?_;dsimp only;rw[ab,Cw lists k (λl=>vI (cX l (aG row l) base (aG row base)))];show Out.ret (.lst _) _=Out.ret (.lst ((List.map _ _).map vI)) _;rw[wh];rfl
theorem A3(hn:n<=1000)(hc:rows.length<=1000)(hl:∀r∈rows,r.length=n)(hs:cD c rows)(hb:iK c n<=60000000):∃O,jd [vII rows,.int (n:Int)] []=.ok (vII (bo rows n),O):=by
 have e2:=dD (i:=2) (cy (n:=1) (f:=lN) (ma:=af (aa 1) ar) (s:=#[[lH (vII rows),lH (.int (n:Int)),na,na],[]]) (s':=#[[lH (vII rows),lH (.int (n:Int)),na,na],[]]) (ds:=[.int (n:Int)]) (by rw[aZ,ag rfl];rfl) (by simp) rfl (Jh ⋯) (by simp));obtain⟨s',e,R,lists,e0,Y,hR,az,P,h1⟩:=dF (ok:=okC (rows.map vI) na) (g:=aD 3) (body:=qx)
  (λpre s=>∃(R lists:List (List Int)) (e:Nat) (Y:Option D),pre=R.map vI/\(∀r∈R,r∈rows)/\qm n c R lists e/\s=#[[lH (vII rows),lH (.int (n:Int)),lH (vII lists),Y],[]]) (λ_ _ _=>trivial) (rows.map vI) [] (by
   rintro pre d rest ed s ⟨R,lists,e,Y,rfl,hR,P,rfl⟩;have hd:d∈rows.map vI:=by rw[xz] at ed;rw[ed];simp
   obtain⟨row,U,rfl⟩:=pr.mp hd;have ac:=P.cnt;have hz:=Pd (c:=c) (e:=e) (n:=n) ⋯;obtain⟨O,eo⟩:=MQ (b:=tk c e) (c:=c) hn ⋯ (hl row U) P.ll P.sz (hs row U) ⋯;obtain⟨e',P'⟩:=P.step (hl row U) (hs row U) hn;refine#[_,#[[lH (vII rows),lH (.int (n:Int)),lH (vII (eK lists row)),lH (vI row)],[]],rfl,.inl ?_,R++[row],_,e',lH (vI row),by simp, ?_,P',rfl];rw[qx];exact dD (i:=2) (cy (n:=2) (f:=fk) (ma:=af (aa 2) (af (aa 3) ar)) (s:=#[[lH (vII rows),lH (.int (n:Int)),lH (vII lists),lH (vI row)],[]]) (s':=#[[lH (vII rows),lH (.int (n:Int)),lH (vII lists),lH (vI row)],[]]) (ds:=[vII lists,vI row]) (by rw[aZ,ag rfl,aj,aZ,ag rfl];rfl) (by simp) rfl eo (by simp));intro r hr;rcases wn.mp hr with q | q
   exact hR r q;rw[wf.mp q];exact U) #[[lH (vII rows),lH (.int (n:Int)),lH (vII (cJ n)),na],[]] #[[],cJ n,0,na,rfl,by simp,qm.start n c,rfl]
 rw[xz] at hR;have am:R=rows:=(RN (λa b h=>N6 h)).mp hR.symm;subst am;have an:lists=lG R n:=P.eq.symm;have ac:=P.cnt;obtain⟨O,eo⟩:=IH (n:=n) (b:=tk c e0) (rows:=lists) hn ⋯ P.ll P.sz (by refine IR ?_ hb;rw[show lists.length=n-e0 by omega];exact F9 ⋯)
 have hf:=dh (im:=listI (aa 0)) (g:=aD 3) (body:=qx) (s:=#[[lH (vII R),lH (.int (n:Int)),lH (vII (cJ n)),na],[]]) (ds:=R.map vI) (k:=na) (s1:=#[[lH (vII R),lH (.int (n:Int)),lH (vII (cJ n)),na],[]]) (by simp);rw[e,h1] at hf;refine k8 #[#[[lH (vII R),lH (.int (n:Int)),lH (vII lists),Y],[]], ?_];show Ax #[[lH (vII R),lH (.int (n:Int)),na,na],[]]=_;rw[Ax,bE e2];refine wp (bE hf) ?_;rw[bo,<- an];exact bt (cy (ds:=[vII lists,.int (n:Int)]) (by rw[aZ,ag rfl,aj,aZ,ag rfl];rfl) (by simp) rfl eo (by simp))
def Lf:Option (Int×List Int)->D
 | none=>.non
 | some x=>.tup [.int x.1,vI x.2]
theorem Ku{goal:List Int}(hg:goal.length=n)(hn:n<=1000)(hc:rows.length<=900)(hl:∀r∈rows,r.length=n)(hs:cD c rows)(as:SzL c goal)(hb:iK c (1+rows.length)<=60000000):∃O,nE [vII rows,vI goal] []=.ok (Lf (jV rows goal),O):=by
 have Y:∀O,cx O (.lst [vI goal]) (vII rows)=.ok (vII (goal::rows)):=λO=>by rw[sT (by simp;omega)];rfl
 have e2:=dD (i:=2) (dS (l:=tz n) (item:=λ(i:Nat)=>D.int (i:Int)) (out:=λa=>vI ((goal::rows).map (nth · a))) (caps:=[1,0]) (im:=g9 (af (bN cF (af (aa 1) ar)) ar)) (e:=bQ 2 iQ (af (ak cx (jn (af (aa 1) ar)) (aa 2)) (af (aa 0) ar))) (k:=na) (s:=#[[lH (vII rows),lH (vI goal),na,na],[]]) (by
  rw[gD (n:=n) (s1:=#[[lH (vII rows),lH (vI goal),na,na],[]]) (by simp[hg]) ⋯,iF]) trivial (lu (by rw[Sn];omega)) (λa ha=>by
  have ha':=Ch.mp ha;refine jQ (n:=2) (ds:=[vII (goal::rows),.int (a:Int)]) (s':=#[lH (.int (a:Int))::[1,0].map (λi=>(([lH (vII rows),lH (vI goal),na,na]:List (Option D))[i]?).getD na),[]]) ?_ rfl (AW (k:=na) rfl trivial (by simp;omega) (λr hr=>by rcases vr.mp hr with rfl | q;omega;rw[hl r q];exact ha'))
  rw[aZ,cL,FD,aZ,ag (i:=1) rfl,aj,aI,aj,aj,if_pos (by simp),aj];dsimp only;rw[ag (i:=2) rfl,aj];dsimp only;rw[Y,aj];rfl))
 have ab:(tz n).map (λa=>vI ((goal::rows).map (nth · a)))=(bF rows goal).map vI:=by unfold bF;rw[hg,wh];rfl
 rw[ab] at e2;have ac:cD c (bF rows goal):=by
  intro r hr x hx;unfold bF at hr;obtain⟨a,_,rfl⟩:=pr.mp hr;obtain⟨q,hq,rfl⟩:=pr.mp hx;rcases vr.mp hq with rfl | hq
  exact as.nth a;exact(hs q hq).nth a
 have az:(bF rows goal).length<=1000:=by unfold bF;simp;omega
 obtain⟨O3,e3⟩:=A3 (n:=1+rows.length) (c:=c) (rows:=bF rows goal) ⋯ az gY ac hb;have e3:=dD (i:=3) (cy (n:=2) (f:=jd) (ma:=af (aa 2) (af (ak cx (ao (.int 1)) (bN cF (af (aa 0) ar))) ar)) (s:=#[[lH (vII rows),lH (vI goal),lH (vII (bF rows goal)),na],[]]) (s':=#[[lH (vII rows),lH (vI goal),lH (vII (bF rows goal)),na],[]]) (ds:=[vII (bF rows goal),.int ((1+rows.length:Nat):Int)]) (by rw[show ((1+rows.length:Nat):Int)=1+(rows.length:Int) by omega];simp) (by simp) rfl e3 (by simp))
 obtain⟨P,eP,pl,_⟩:=g6 (n:=1+rows.length) (rows:=bF rows goal) gY;have a0:=gU (n:=1+rows.length) (R:=bF rows goal) gY;have a2:=qB (n:=1+rows.length) ⋯ gY ac;unfold jV;generalize bo (bF rows goal) (1+rows.length)=F at *;have U:vH #[[lH (vII rows),lH (vI goal),na,na],[]]=(aK (ifS (orT (ow (ve (aa 3))) (aS (ak eqD (ak ixD (ak ixD (aa 3) (ao (.int 0))) (ao (.int 0))) (ao (.int 0))))) (bx (ao .non)) bB) (bx (gb (af (ak ixD (ak ixD (aa 3) (ao (.int 0))) (ao (.int 0))) (af (bL 1 [] (listI (slM (ak ixD (aa 3) (ao (.int 0))) (part (ao (.int 1))) dA)) (aD 0) bR (unM iO (aa 0))) ar))))) #[[lH (vII rows),lH (vI goal),lH (vII (bF rows goal)),lH (vII F)],[]]:=by rw[vH,bE e2];exact bE e3
 cases F with
 | nil=>
  refine k8 #[#[[lH (vII rows),lH (vI goal),lH (vII (bF rows goal)),lH (vII [])],[]], ?_];refine wp U (d7 (wp (oU (s':=#[[lH (vII rows),lH (vI goal),lH (vII (bF rows goal)),lH (vII [])],[]]) ?_) rfl));rw[r8,rZ,F0,ag (i:=3) rfl,aj];rfl
 | cons x F=>
  have xl:x.length=1+rows.length:=a0 x sH;have i0:ak ixD (aa 3) (ao (.int 0)) #[[lH (vII rows),lH (vI goal),lH (vII (bF rows goal)),lH (vII (x::F))],[]]=.ok (vI x,#[[lH (vII rows),lH (vI goal),lH (vII (bF rows goal)),lH (vII (x::F))],[]]):=by rw[cL,ag (i:=3) rfl,aj,aF,aj];dsimp only;rw[show vII (x::F)=D.lst (vI x::F.map vI) from rfl,PX];rfl
  have al:ak ixD (ak ixD (aa 3) (ao (.int 0))) (ao (.int 0)) #[[lH (vII rows),lH (vI goal),lH (vII (bF rows goal)),lH (vII (x::F))],[]]=.ok (.int (nth x 0),#[[lH (vII rows),lH (vI goal),lH (vII (bF rows goal)),lH (vII (x::F))],[]]):=by rw[cL,i0,aj,aF,aj];dsimp only;rw[show (D.int 0)=D.int ((0:Nat):Int) from rfl,jo ⋯];rfl
  have am:orT (ow (ve (aa 3))) (aS (ak eqD (ak ixD (ak ixD (aa 3) (ao (.int 0))) (ao (.int 0))) (ao (.int 0)))) #[[lH (vII rows),lH (vI goal),lH (vII (bF rows goal)),lH (vII (x::F))],[]]=.ok (decide (nth x 0=0),#[[lH (vII rows),lH (vI goal),lH (vII (bF rows goal)),lH (vII (x::F))],[]]):=by rw[r8,rZ,F0,ag (i:=3) rfl,aj];exact eq_test al
  by_cases hz:nth x 0=0;refine k8 #[#[[lH (vII rows),lH (vI goal),lH (vII (bF rows goal)),lH (vII (x::F))],[]], ?_];refine wp U (d7 (wp (oU (s':=#[[lH (vII rows),lH (vI goal),lH (vII (bF rows goal)),lH (vII (x::F))],[]]) ?_) ?_));rw[am,decide_eq_true hz];dsimp only;rw[if_pos hz];rfl;have an:cutD (x.map D.int) (lH 1) na=(x.drop 1).map D.int:=Ik (n:=1) ⋯;have ap:=dS (l:=x.drop 1) (item:=D.int) (out:=λy=>.int (-y)) (caps:=[]) (im:=listI (slM (ak ixD (aa 3) (ao (.int 0))) (part (ao (.int 1))) dA)) (e:=unM iO (aa 0)) (k:=na) (s:=#[[lH (vII rows),lH (vI goal),lH (vII (bF rows goal)),lH (vII (x::F))],[]]) (by rw[cz,Dh,i0,aj,Ay,aF,aj];dsimp only;rw[aj,Bq,aj];dsimp only;rw[ja];dsimp only;rw[an,aj];rfl) trivial (by rw[Sx];omega) (λy _=>by simp)
  rw[show (x.drop 1).map (λy=>D.int (-y))=((x.drop 1).map (- ·)).map D.int by rw[wh];rfl] at ap;refine k8 #[#[[lH (vII rows),lH (vI goal),lH (vII (bF rows goal)),lH (vII (x::F))],[]], ?_];refine wp U ?_;refine wp (bE (s':=#[[lH (vII rows),lH (vI goal),lH (vII (bF rows goal)),lH (vII (x::F))],[]]) (wp (iM (s':=#[[lH (vII rows),lH (vI goal),lH (vII (bF rows goal)),lH (vII (x::F))],[]]) (by rw[am,decide_eq_false hz])) rfl)) ?_;dsimp only;rw[if_neg hz];refine bt ?_;rw[zB,aZ,al,aj,aZ,ap,aj,aI,aj,aj,aj];rfl
theorem Qd(h:R[i]? =lH (lH (yD goods ws)))(hd:qM f FN (yDs goods ws)=lH d):pP 0 f (aa i) #[R,O]=.ok (d,#[R,O]):=Pe (ag h) hd
theorem Ff:aR [yD goods ws]=true:=by show (aR (yDs goods ws)&&on)=on;rw[jb];rfl
theorem sm(h:aR ds=on):aR (yD goods ws::ds)=true:=by show (aR (yDs goods ws)&&aR ds)=on;rw[jb,h];rfl
theorem qC(goods:List Str)(h:ws.length<=1000):dk [yD goods ws] []=.ok (sD (ws.map (·.nm)),[]):=by refine du (R:=[lH (yD goods ws)]) ?_;show dW #[[lH (yD goods ws)],[]]=_;rw[dW];have e:=dS (l:=ws) (item:=wD) (out:=λw=>.str w.nm) (caps:=[]) (im:=listI (pP 0 "held_works" (aa 0))) (e:=ak ixD (aa 0) (ao (.int 0))) (k:=na) (s:=#[[lH (yD goods ws)],[]]) (by rw[cz,Qd (i:=0) rfl rfl,aj];rfl) trivial ⋯ (λw _=>aN (ag rfl) (aF _) rfl);rw[show ws.map (λw=>D.str w.nm)=(ws.map (·.nm)).map D.str by rw[wh];rfl] at e;exact bt e
abbrev chL(goods:List Str)(ws:List Wk):List (List Int):=ws.map λw=>goods.map (chg w)
theorem HV(h:R[i]? =lH (lH (yD goods ws)))(hd:qM f FN (yDs goods ws)=lH d):pP 0 f (aa i) #[R,O]=.ok (d,#[R,O]):=by rw[Fn,ag h,aj];dsimp only;rw[if_pos rfl,hd]
def qQ(goods:List Str)(ws:List Wk)(k:Nat):List Int:=ws.map λw=>nth (goods.map (chg w)) k
theorem Nc(hk:k<goods.length)(h2:ws.length<=1000):lZ [yD goods ws,.int (k:Int)] []=.ok (vI (qQ goods ws k),[]):=by
 have hc:=dS (l:=ws.map λw=>goods.map (chg w)) (item:=vI) (out:=λr=>.int (nth r k)) (caps:=[1]) (im:=listI (pP 0 "held_changes" (aa 0))) (e:=ak ixD (aa 0) (aa 1)) (k:=na) (s:=#[[lH (yD goods ws),lH (.int (k:Int))],[]]) (by
  rw[cz,HV (d:=vII (ws.map λw=>goods.map (chg w))) rfl (by rfl)];rfl) trivial (by rw[ss];omega) (λr hr=>by
  obtain⟨w,_,rfl⟩:=pr.mp hr;rw[cL,ag (i:=0) rfl,aj,ag (i:=1) rfl,aj];dsimp only;rw[jo (by rw[ss];exact hk)];rfl)
 rw[show (ws.map λw=>goods.map (chg w)).map (λr=>D.int (nth r k))=(qQ goods ws k).map D.int by unfold qQ;rw[wh,wh];rfl] at hc;refine b9 (s:=#[[lH (yD goods ws),lH (.int (k:Int))],[]]) ?_;show mr #[[lH (yD goods ws),lH (.int (k:Int))],[]]=_;rw[mr];exact bt hc
def cU(goods:List Str)(ws:List Wk):List (List Int):=(tz goods.length).map (qQ goods ws)
theorem FT(h1:goods.length<=1000)(h2:ws.length<=1000):hE [yD goods ws] []=.ok (vII (cU goods ws),[]):=by
 have hc:=dS (l:=tz goods.length) (item:=λ(i:Nat)=>D.int (i:Int)) (out:=λk=>vI (qQ goods ws k)) (caps:=[0]) (im:=g9 (af (bN cF (af (pP 0 "held_goods" (aa 0)) ar)) ar)) (e:=methP 0 "row" 1 lZ (aa 1) (af (aa 0) ar)) (k:=na) (s:=#[[lH (yD goods ws)],[]]) (by
  rw[gD (n:=goods.length) (s1:=#[[lH (yD goods ws)],[]]) (by rw[aZ,i5,aZ,HV (d:=sD goods) rfl (by rfl),aj,aI,aj,aj];dsimp only;rw[hZ,ss];rfl) ⋯,iF]) trivial (lu (by rw[Sn];omega)) (λk hk=>
  Dm (ns:=FN) (ds:=yDs goods ws) (args:=[.int (k:Int)]) (ag rfl) ∅ jb (by rw[aZ,ag (i:=0) rfl];rfl) (by simp) rfl (Nc (Ch.mp hk) h2) (by generalize qQ goods ws k=r;simp))
 rw[show (tz goods.length).map (λk=>vI (qQ goods ws k))=(cU goods ws).map vI by unfold cU;rw[wh];rfl] at hc;refine b9 (s:=#[[lH (yD goods ws)],[]]) ?_;show ia #[[lH (yD goods ws)],[]]=_;rw[ia];exact bt hc
theorem Fp(hk:k<goods.length){x:Int}(h:x∈qQ goods ws k):∃w∈ws,∃g∈goods,x=chg w g:=by unfold qQ at h;obtain⟨w,U,rfl⟩:=pr.mp h;have hm:=wC (r:=goods.map (chg w)) (i:=k) (by rw[ss];exact hk);obtain⟨g,Y,e⟩:=pr.mp hm;exact#[w,U,g,Y,e.symm]
theorem j3{V:List (List Int)}:(qt V).Perm V:=by unfold qt;have:=(gT (V.map λx=>((),x))).map (·.2);rw[wh,show ((λx:Unit×List Int=>x.2)∘λx=>((),x))=id from rfl,List.map_id] at this;exact this
theorem Nz{m:AM}{x y:D}{as bs:List D}(h:m s=.ok ([x,y],s1))(h1:lsD s1.o x=lH as)(h2:lsD s1.o y=lH bs):CU m s=.ok ((fX as bs,λO=>lsD O x=lH as/\lsD O y=lH bs),s1):=by unfold CU;rw[h,aj];dsimp only;rw[h1,h2]
theorem MN {α:Type} {l:List α} {f g out:α->D} {caps:List Nat} {im:IX} {e:EM} {ok:aA->Prop} (U:im s=.ok ((l.map (λa=>D.tup [f a,g a]),ok),s)) (Y:ok s.o) (hl:l.length<=16777216)
 (he:∀a∈l,e #[lH (f a)::lH (g a)::caps.map (λi=>(s.r[i]?).getD na),s.o]=.ok (out a,#[lH (f a)::lH (g a)::caps.map (λi=>(s.r[i]?).getD na),s.o])):
 uF 2 caps im (cS (a8 (aD 0) (a8 (aD 1) cW)) 2) bR e s=.ok (.lst (l.map out),s):=by
 obtain⟨s',e1,x,y,h1⟩:=qZ (ok:=ok) (g:=cS (a8 (aD 0) (a8 (aD 1) cW)) 2) (c:=bR) (e:=e) (O:=s.o) Y (λa=>D.tup [f a,g a]) (λs2=>∃x y,s2=#[x::y::caps.map (λi=>(s.r[i]?).getD na),s.o]) (by rintro _ ⟨_,_,rfl⟩;rfl) l (λ_=>on) out (by rintro a ha _ ⟨x,y,rfl⟩;exact#[_,_,by simp,rfl,λ_=>#[_,_,rfl],λ_=>#[_,he a ha,_,_,rfl]]) [] #[mW 2 caps s.r,s.o] (by simpa using hl) #[na,na,rfl]
 unfold uF zA;rw[U,aj];dsimp only;rw[e1,aj,aj];subst h1;rw[nk];rfl
theorem gA(h:O[k]? =lH (.lst (y.map D.int)))(hi:i<y.length):ixD O (.ptr k) (.int (i:Int))=.ok (.int (nth y i)):=by refine p6 h ?_;rw[eU (by simpa using hi)];simp[nth,nu,hi]
theorem xM:∀r∈cU goods ws,r.length=ws.length:=λr hr=>by unfold cU at hr;obtain⟨k,_,rfl⟩:=pr.mp hr;unfold qQ;simp
theorem EJ(g4:goods.length<=5)(w6:ws.length<=7)(hs:cD 90 (chL goods ws)):u9 ws.length (cU goods ws):=#[xM,λr hr x hx=>by unfold cU at hr;obtain⟨k,hk,rfl⟩:=pr.mp hr;obtain⟨w,U,g,Y,rfl⟩:=Fp (Ch.mp hk) hx;exact(hs (goods.map (chg w)) (pr.mpr #[w,U,rfl]) _ (Ps Y)).mono ∅,by unfold cU;simp;omega,w6]
def fwQ(Q:List (Nat×List Int))(a:Nat):Option (Nat×List Int):=Q.find? λp=>decide (0<nth p.2 a)
def fwD:Option (Nat×List Int)->D
 | none=>.non
 | some p=>.ptr p.1
theorem CA{O:aA}{a:Nat}{L:D}(K:List D):∀(rest:List (Nat×List Int)) (U:Option D),Sto O rest->(∀p∈rest,a<p.2.length)->
 (fwQ rest a=na->∃Y,bT (okC K na) (aD 2) cR (bq rest) #[[lH L,lH (.int (a:Int)),U],O]=.next #[[lH L,lH (.int (a:Int)),Y],O])/\
 ∀p,fwQ rest a=lH p->∃Y,bT (okC K na) (aD 2) cR (bq rest) #[[lH L,lH (.int (a:Int)),U],O]=.ret (.ptr p.1) #[[lH L,lH (.int (a:Int)),Y],O]
 | [],U,_,_=>#[λ_=>#[U,by show bT _ _ _ [] _=_;rw[bT,if_pos (show okC K na _ from trivial)]],λp h=>by cases h]
 | q::rest,U,sQ,hl=>by
  obtain⟨i1,i2⟩:=CA (L:=L) K rest (lH (.ptr q.1)) (λp hp=>sQ p (sB _ hp)) λp hp=>hl p (sB _ hp);have t:aS (ak gtD (ak ixD (aa 2) (aa 1)) (ao (.int 0))) #[[lH L,lH (.int (a:Int)),lH (.ptr q.1)],O]=.ok (decide (0<nth q.2 a),#[[lH L,lH (.int (a:Int)),lH (.ptr q.1)],O]):=gv (aN (ag rfl) (ag rfl) (gA (sQ q sH) (hl q sH)));have st:bT (okC K na) (aD 2) cR (bq (q::rest)) #[[lH L,lH (.int (a:Int)),U],O]=(match cR #[[lH L,lH (.int (a:Int)),lH (.ptr q.1)],O] with
   | .next s=>bT (okC K na) (aD 2) cR (bq rest) s
   | .cnt s=>bT (okC K na) (aD 2) cR (bq rest) s
   | .brk s=>.next s
   | o=>o):=by
   show bT _ _ _ (.ptr q.1::bq rest) _=_;rw[bT,if_pos (show okC K na _ from trivial)];rfl
  by_cases h:0<nth q.2 a;have e:fwQ (q::rest) a=lH q:=by unfold fwQ;rw[TK,decide_eq_true h]
  have eb:cR #[[lH L,lH (.int (a:Int)),lH (.ptr q.1)],O]=.ret (.ptr q.1) #[[lH L,lH (.int (a:Int)),lH (.ptr q.1)],O]:=by rw[cR];exact eT t (decide_eq_true h) (bt (ag rfl))
  rw[e,st,eb];exact#[λz=>(by cases z),λp z=>by cases z;exact#[_,rfl]];have e:fwQ (q::rest) a=fwQ rest a:=by unfold fwQ;rw[TK,decide_eq_false h]
  have eb:cR #[[lH L,lH (.int (a:Int)),lH (.ptr q.1)],O]=.next #[[lH L,lH (.int (a:Int)),lH (.ptr q.1)],O]:=by rw[cR];exact dJ t (decide_eq_false h) cg
  rw[e,st,eb];exact#[i1,i2]
theorem Dj{O:aA}{a:Nat}{Q:List (Nat×List Int)}(sQ:Sto O Q)(hl:∀p∈Q,a<p.2.length):fI [.lst (bq Q),.int (a:Int)] O=.ok (fwD (fwQ Q a),O):=by
 have Y:=dh (im:=listI (aa 0)) (g:=aD 2) (body:=cR) (s:=#[[lH (.lst (bq Q)),lH (.int (a:Int)),na],O]) (ds:=bq Q) (k:=na) (s1:=#[[lH (.lst (bq Q)),lH (.int (a:Int)),na],O]) (by rw[cz,ag (i:=0) rfl,aj];rfl);obtain⟨i1,i2⟩:=CA (L:=.lst (bq Q)) (bq Q) Q na sQ hl;cases e:fwQ Q a with
 | none=>
  obtain⟨U,e1⟩:=i1 e;refine du (R:=[lH (.lst (bq Q)),lH (.int (a:Int)),U]) ?_;show jN #[[lH (.lst (bq Q)),lH (.int (a:Int)),na],O]=_;rw[jN];exact aT (Y.trans e1) (bt (aF _))
 | some p=>
  obtain⟨U,e1⟩:=i2 p e;refine du (R:=[lH (.lst (bq Q)),lH (.int (a:Int)),U]) ?_;show jN #[[lH (.lst (bq Q)),lH (.int (a:Int)),na],O]=_;rw[jN];exact d7 (Y.trans e1)
theorem F8{R:List (List Int)}{goal:List Int}{b:Int}{ts:List Int}(hg:goal.length=n)(hc:R.length<=900)(hs:cD c R)(U:SzL c goal)(e:jV R goal=lH (b,ts)):Sz (iK c (1+R.length)) b:=by
 have Y:cD c (bF R goal):=by
  intro r hr x hx;unfold bF at hr;obtain⟨a,_,rfl⟩:=pr.mp hr;obtain⟨q,hq,rfl⟩:=pr.mp hx;rcases vr.mp hq with rfl | hq
  exact U.nth a;exact(hs q hq).nth a
 have z:=qB (n:=1+R.length) ⋯ gY Y;unfold jV at e;split at e;cases e;rename_i s rest es;split at e;cases e;cases e;exact(z s (by rw[es];exact sH)).nth 0
theorem sg6(h:n<=6):iK 90 n<=6528:=by unfold iK;have:2^n<=2^6:=RH ∅ h;omega
theorem sg5(h:n<=4):iK 1010000 (1+n)<=60000000:=by unfold iK;have:2^(1+n)<=2^5:=RH ∅ ⋯;omega
theorem lg6:qp 15000 6 1<=1000000:=∅
theorem JJ(goods:List Str)(ws:List Wk):(cU goods ws).length=goods.length:=by unfold cU;simp
theorem L1(hs:cD 90 (chL goods ws)):cD 90 (cU goods ws):=λr hr x hx=>by unfold cU at hr;obtain⟨k,hk,rfl⟩:=pr.mp hr;obtain⟨w,U,g,Y,rfl⟩:=Fp (Ch.mp hk) hx;exact hs (goods.map (chg w)) (pr.mpr #[w,U,rfl]) _ (Ps Y)
abbrev wbR(goods:List Str)(ws:List Wk)(dem:List Int)(R:List (List Int))(n:Nat)(x4 x5 x6 x7:Option D):List (Option D):=[lH (yD goods ws),lH (vI dem),lH (vII R),lH (.int (n:Int)),x4,x5,x6,x7]
theorem AB{dem:List Int}(g4:goods.length<=4)(w6:ws.length<=6)(hs:cD 90 (chL goods ws))(hd:dem.length=ws.length)(hz:SzL 8000 dem)(hF:∀y,Fit ws.length (cU goods ws) y->bh ws.length (nth dem) (nth y)<=0):
 ∃t W O,fT [yD goods ws,vI dem] []=.ok (.tup [.int t,vI W],O)/\0<t/\W.length=goods.length/\∀i,i<ws.length->t*nth dem i<=dy W (cU goods ws) i:=by
 have Rl:=xM (goods:=goods) (ws:=ws);have Rc:=JJ goods ws;have Rz:=L1 hs;have e2:setM 2 (methP 0 "rows" 0 hE (aa 0) ar) #[[lH (yD goods ws),lH (vI dem),na,na,na,na,na,na],[]]=.next #[[lH (yD goods ws),lH (vI dem),lH (vII (cU goods ws)),na,na,na,na,na],[]]:=bA (oZ (ns:=FN) (ds:=yDs goods ws) (args:=[]) (ag rfl) aI (FT ⋯ ⋯) ∅ jb rfl rfl (by rw[nG,lF])) rfl
 generalize cU goods ws=R at *;generalize hn:ws.length=n at *;have e3:setM 3 (bN cF (af (aa 1) ar)) #[[lH (yD goods ws),lH (vI dem),lH (vII R),na,na,na,na,na],[]]=.next #[wbR goods ws dem R n na na na na,[]]:=bA (jW (aB (ag rfl) aI) (by rw[hZ,ss,hd])) rfl
 have s6:=sg6 w6;obtain⟨Os,es⟩:=A3 (n:=n) (c:=90) (rows:=R) ⋯ ⋯ Rl Rz ⋯;have Sl:=gU Rl;have al:cD 6528 (bo R n):=(qB (n:=n) ⋯ Rl Rz).mono s6;have Sc:(bo R n).length<=6:=by have:=count Rl;omega
 have a0:bc 2 jd (af (aa 2) (af (aa 3) ar)) #[wbR goods ws dem R n na na na na,[]]=.ok (vII (bo R n),#[wbR goods ws dem R n na na na na,[]]):=eg (aB (ag rfl) (aB (ag rfl) aI)) es (Cf rfl) rfl (by rw[nG,lF]);have ew:=dS (l:=bo R n) (item:=vI) (out:=λs=>vI (s++[aG s dem])) (caps:=[1]) (im:=listI (bc 2 jd (af (aa 2) (af (aa 3) ar)))) (e:=ak cx (aa 0) (jn (af (bc 2 bZ (af (aa 0) (af (aa 1) ar))) ar))) (k:=na) (s:=#[wbR goods ws dem R n na na na na,[]]) (by
  rw[cz,a0,aj];rfl) trivial ⋯ (λs U=>by have sl:=Sl s U;refine aN (ag rfl) (wI (aB (eg (aB (ag rfl) (aB (ag rfl) aI)) (CT (a:=s) (b:=dem) ⋯ λp hp=>gQ (m:=6528) (n:=8000) ∅ ∅ (al s U _ (Rk (a:=p.1) (b:=p.2) hp).1) (hz _ (Rk (a:=p.1) (b:=p.2) hp).2)) (by simp) rfl rfl) aI) (by simp)) ?_;rw[sT (by simp;omega)];show Res.ok (D.lst (s.map D.int++[D.int (aG s dem)]))=Res.ok (D.lst ((s++[aG s dem]).map D.int));rw[Q7];rfl)
 rw[show (bo R n).map (λs=>vI (s++[aG s dem]))=(d5 R n dem).map vI by unfold d5;rw[wh];rfl] at ew;have e4:setM 4 (bL 1 [1] (listI (bc 2 jd (af (aa 2) (af (aa 3) ar)))) (aD 0) bR (ak cx (aa 0) (jn (af (bc 2 bZ (af (aa 0) (af (aa 1) ar))) ar)))) #[wbR goods ws dem R n na na na na,[]]=.next #[wbR goods ws dem R n (lH (vII (d5 R n dem))) na na na,[]]:=bA ew rfl
 have wl:=G7 (dem:=dem) Rl;have wc:(d5 R n dem).length<=6:=by unfold d5;rw[ss];exact Sc
 have wz:cD 15000 (d5 R n dem):=λr hr x hx=>by
  unfold d5 at hr;obtain⟨s,U,rfl⟩:=pr.mp hr;rcases wn.mp hx with q | q
  exact(al s U x q).mono ∅;rw[wf.mp q];exact(si (al s U) hz (by rw[Sl s U];omega)).mono ∅
 have rc:Ce 15000 1000000 (n+1) (d5 R n dem):=#[wl,wz,IR (nF 15000 (d5 R n dem).length 6 1 wc) lg6,∅,∅,⋯];obtain⟨k,Ol,Ls,el,hk,sL,nL,_,vL⟩:=CF rc;have kn:=nN wl;obtain⟨l0,a2,a3⟩:=GL Rl hd hF;generalize hw:d5 R n dem=Y at *;have a4:=Ae (S:=[]) hk;have s1:Sto ((([]:aA)++Ol.map (shC 0)).set (0+k) .dead) (Ls.map λp=>(0+p.1,p.2)):=(zx (S:=[]) sL).set (λp hp=>by obtain⟨q,hq,rfl⟩:=pr.mp hp;have:=nL q hq;show 0+q.1≠0+k;omega) _
 have m1:(Ls.map λp=>(0+p.1,p.2)).map (·.2)=Ls.map (·.2):=by rw[wh];rfl
 have ef:gf (dP 2 lK (af (aa 4) (af (ak cx (aa 3) (ao (.int 1))) ar))) #[wbR goods ws dem R n (lH (vII Y)) na na na,[]]=.ok (.lst (bq (Ls.map λp=>(0+p.1,p.2))),#[wbR goods ws dem R n (lH (vII Y)) na na na,(([]:aA)++Ol.map (shC 0)).set (0+k) .dead]):=nC (i6 (aB (ag rfl) (aB (aN (ag rfl) (aF _) fv) aI)) el (Cf rfl) rfl iI rfl) a4 rfl;have an:∀p∈Ls.map (λp=>(0+p.1,p.2)),bO (n+1) Y p.2/\SzL 1000000 p.2:=λp hp=>by have:p.2∈jy Y (n+1):=j3.mem_iff.mp (by rw[<- vL,<- m1];exact Ps hp);exact#[(kn.all _).mp this,D4 rc (λ_ q=>q) (ut _) _ this]
 have ac:l0∈(Ls.map λp=>(0+p.1,p.2)).map (·.2):=by rw[m1,vL];exact j3.mem_iff.mpr ((kn.all _).mpr a2)
 generalize (([]:aA)++Ol.map (shC 0)).set (0+k) Cell.dead=O1 at ef s1;generalize Ls.map (λp=>(0+p.1,p.2))=Q at ef s1 an ac;have e5:=Dj (a:=n) s1 λp hp=>by rw[(an p hp).1.fit.len];omega
 obtain⟨p,ep⟩:∃p,fwQ Q n=lH p:=by
  cases e:fwQ Q n with
  | some p=>exact#[p,rfl]
  | none=>
   obtain⟨q,hq,rfl⟩:=pr.mp ac;have:=Ti.mp e q hq;exact absurd (decide_eq_true a3) this
 have pQ:p∈Q:=Ud ep;have pp:0<nth p.2 n:=of_decide_eq_true (Vy (p:=λp:Nat×List Int=>decide (0<nth p.2 n)) ep);obtain⟨lo,pz⟩:=an p pQ;have pl:=lo.fit.len;rw[ep] at e5;have e5:setM 5 (bQ 2 fI (af (gf (dP 2 lK (af (aa 4) (af (ak cx (aa 3) (ao (.int 1))) ar)))) (af (aa 3) ar))) #[wbR goods ws dem R n (lH (vII Y)) na na na,[]]=.next #[wbR goods ws dem R n (lH (vII Y)) (lH (.ptr p.1)) na na,O1]:=bA (gP (aB ef (aB (ag rfl) aI)) e5 rfl) rfl
 have t0:Sz 1000000 (nth p.2 n):=pz _ (wC ⋯);have e6:=MN (l:=p.2.zip dem) (f:=λq=>.int q.1) (g:=λq=>.int q.2) (out:=λq=>.int (q.1+nth p.2 n*q.2)) (caps:=[5,3]) (im:=CU (af (aa 5) (af (aa 1) ar))) (e:=ak cx (aa 0) (ak cT (ak ixD (aa 2) (aa 3)) (aa 1))) (s:=#[wbR goods ws dem R n (lH (vII Y)) (lH (.ptr p.1)) na na,O1]) (ok:=λO=>lsD O (.ptr p.1)=lH (p.2.map D.int)/\lsD O (vI dem)=lH (dem.map D.int)) (by rw[Nz (as:=p.2.map D.int) (bs:=dem.map D.int) (aB (ag (i:=5) rfl) (aB (ag (i:=1) rfl) aI)) (lC (s1 p pQ)) ja,qu]) #[lC (s1 p pQ),ja] (by rw[RU];omega) (λq hq=>aN (ag rfl) (aN (aN (ag rfl) (ag rfl) (gA (s1 p pQ) ⋯)) (ag rfl) (cV (gQ (m:=1000000) (n:=8000) ∅ ∅ t0 (hz _ (Rk (a:=q.1) (b:=q.2) hq).2)))) fv)
 rw[show (p.2.zip dem).map (λq=>D.int (q.1+nth p.2 n*q.2))=(j4 p.2 dem (nth p.2 n)).map D.int by unfold j4;rw[wh];rfl] at e6;have lf:=lo.fit;rw[<- hw] at lf;obtain⟨b,ts,em,b0,tl,tb⟩:=G3 Rl hd lf;obtain⟨gl,_⟩:=xO pl hd (nth p.2 n);have gz:SzL 1010000 (j4 p.2 dem (nth p.2 n)):=λx hx=>by unfold j4 at hx;obtain⟨q,hq,rfl⟩:=pr.mp hx;exact(Sz.add (pz _ (Rk (a:=q.1) (b:=q.2) hq).1) (Sz.mul t0 (hz _ (Rk (a:=q.1) (b:=q.2) hq).2))).mono ∅
 have s5:=sg5 (n:=R.length) ⋯;obtain⟨Om,eo⟩:=Ku (n:=n) (c:=1010000) (rows:=R) (goal:=j4 p.2 dem (nth p.2 n)) gl ⋯ ⋯ Rl (Rz.mono ∅) gz s5;have bz:=F8 gl ⋯ (Rz.mono (show 90<=1010000 by decide)) gz em;rw[em] at eo;generalize j4 p.2 dem (nth p.2 n)=goal at e6 eo;have e7:setM 7 (bc 2 nE (af (aa 2) (af (aa 6) ar))) #[wbR goods ws dem R n (lH (vII Y)) (lH (.ptr p.1)) (lH (vI goal)) na,O1]=.next #[wbR goods ws dem R n (lH (vII Y)) (lH (.ptr p.1)) (lH (vI goal)) (lH (.tup [.int b,vI ts])),O1]:=bA (eg (aB (ag rfl) (aB (ag rfl) aI)) eo (Cf (by simp)) rfl (by simp[Lf])) rfl
 refine#[b*nth p.2 n,ts,O1, ?_,Rv b0 pp,by rw[tl,Rc],tb];refine du (R:=wbR goods ws dem R n (lH (vII Y)) (lH (.ptr p.1)) (lH (vI goal)) (lH (.tup [.int b,vI ts]))) ?_;show mG #[[lH (yD goods ws),lH (vI dem),na,na,na,na,na,na],[]]=_;rw[mG];exact aT e2 (aT e3 (aT e4 (aT e5 (aT (bA e6 rfl) (aT e7 (bt (lX (aB (aN (aN (ag rfl) (aF _) (d0 rfl)) (aN (ag rfl) (ag rfl) (gA (s1 p pQ) ⋯)) (cV (gQ (n:=1000000) s5 ∅ bz t0))) (aB (aN (ag rfl) (aF _) (d0 rfl)) aI)) (by simp))))))))
theorem J2(g4:goods.length<=5)(w6:ws.length<=7)(hs:cD 90 (chL goods ws)):∃d O Q,lV [yD goods ws] []=.ok (.ptr d,O)/\O[d]? =lH (.lst (bq Q))/\Sto O Q/\(∀p∈Q,p.1≠d)/\Q.length<64/\(Q.map (·.2)).Nodup/\qt (Q.map (·.2))=Q.map (·.2)/\(∀p∈Q,bO ws.length (cU goods ws) p.2/\SzL 8000 p.2)/\∀x,bO ws.length (cU goods ws) x->x∈Q.map (·.2):=by
 have lR:=xM (goods:=goods) (ws:=ws);have ro:=EJ g4 w6 hs;obtain⟨d,Op,Q,ep,hd,sQ,nQ,so,Y⟩:=LQ ro;have kn:=nN lR;have lq:Q.length<64:=by have:=kn.few w6;have e:=congrArg S7 Y;rw[ss,j3.length_eq] at e;omega
 have U:∀p∈Q,p.2∈jy (cU goods ws) ws.length:=λp hp=>j3.mem_iff.mp (by rw[<- Y];exact Ps hp);have nd:(Q.map (·.2)).Nodup:=by rw[Y];exact j3.nodup_iff.mpr kn.nd
 have al:qt (Q.map (·.2))=Q.map (·.2):=by rw[<- A5,<- so]
 have mm:(Q.map λp=>(0+p.1,p.2)).map (·.2)=Q.map (·.2):=by rw[wh];rfl
 refine#[0+d,[]++Op.map (shC 0),Q.map λp=>(0+p.1,p.2), ?_,Ae (S:=[]) hd,zx (S:=[]) sQ,λp hp=> ?_,by rw[ss];exact lq,by rw[mm];exact nd,by rw[mm];exact al,λp hp=> ?_,λx hx=>by rw[mm,Y];exact j3.mem_iff.mpr ((kn.all x).mpr hx)];refine du (R:=[lH (yD goods ws)]) ?_;show D8 #[[lH (yD goods ws)],[]]=_;rw[D8];refine bt (i6 (aB (oZ (ns:=FN) (ds:=yDs goods ws) (args:=[]) (ag rfl) aI (FT ⋯ ⋯) ∅ jb rfl rfl (by rw[nG,lF])) (aB (jW (aB (oZ (ns:=FN) (ds:=yDs goods ws) (args:=[]) (ag rfl) aI (qC goods ⋯) ∅ jb rfl rfl dU) aI) (by rw[hZ,ss,ss])) aI)) ep (Cf rfl) rfl iI rfl);obtain⟨q,hq,rfl⟩:=pr.mp hp;have:=nQ q hq;dsimp only;omega;obtain⟨q,hq,rfl⟩:=pr.mp hp;exact#[(kn.all _).mp (U q hq),Kd ro (λr hr=>hr) ro.cnt _ (U q hq)]
theorem Ck(Y:ws.length<=1000)(hz:ws.map (·.nm)=zs)(nd:zs.Nodup)(ha:a<zs.length):fE [yD goods ws,.str zs[a]] []=.ok (.int (a:Int),[]):=by have U:=qC goods Y;rw[hz] at U;refine du (R:=[lH (yD goods ws),lH (.str zs[a]),lH (sD zs)]) ?_;show tR #[[lH (yD goods ws),lH (.str zs[a]),na],[]]=_;rw[tR];refine aT (bA (oZ (ns:=FN) (ds:=yDs goods ws) (args:=[]) (ag rfl) aI U ∅ jb rfl rfl dU) rfl) (aT (dJ (c9 (aN (ag rfl) (ag rfl) (t6 _ _))) ?_ cg) (bt ?_));rw[show zs.any (· == zs[a])=on from Ul.mpr #[zs[a],Cg ha,beq_self_eq_true _]];rfl;unfold C1 JI;rw[ag (i:=2) rfl,aj];dsimp only;rw[lY];dsimp only;rw[ag (i:=1) rfl,aj];dsimp only;unfold DC;rw[Te nd a ha,if_pos ha];rfl
theorem ML{R:List (List Int)}(lo:∀p∈Q,bO n R p.2)(all:∀x,bO n R x->x∈Q.map (·.2)):fwQ Q a=na↔∀x,bO n R x->nth x a=0:=by constructor;intro h x hx;obtain⟨p,hp,rfl⟩:=pr.mp (all x hx);have h1:=Ti.mp h p hp;have h2:=hx.fit.nn a;have U:¬0<nth p.2 a:=λq=>h1 (decide_eq_true q);omega;intro h;refine Ti.mpr λp hp=> ?_;have:=h p.2 (lo p hp);rw[this];decide
theorem Cv{R:List (List Int)}(ha:a<n)(h:∀x,bO n R x->nth x a=0)(U:Fit n R y):nth y a=0:=by
 have e:∀x:List Int,bh n (nth ((ee n a).map (- ·))) (nth x)= - nth x a:=λx=>by
  unfold bh;rw[bV (g:=λi=>if i=a then-nth x a else 0) λi _=>by rw[je (f:=(- ·)) ∅,dr ha];by_cases q:i=a;rw[if_pos q,if_pos q,q];omega;rw[if_neg q,if_neg q];simp]
  exact(fU ha (f:=λi=>if i=a then-nth x a else 0) λi _ q=>if_neg q).trans (if_pos rfl)
 have:=zv (c:=(ee n a).map (- ·)) (λl Y=>by rw[e,h l Y];decide) U;rw[e] at this;have:=U.nn a;omega
structure YS(goods:List Str)(ws:List Wk)(zs:List Str):Prop where
 g4:goods.length<=4
 w6:ws.length<=6
 hs:cD 90 (chL goods ws)
 nm:ws.map (·.nm)=zs
 nd:zs.Nodup
theorem YS.zl(y:YS goods ws zs):zs.length=ws.length:=by rw[<- y.nm,ss]
theorem BJ(y:YS goods ws zs):∃Q E,(∀{R:List (Option D)} {i:Nat},R[i]? =lH (lH (yD goods ws))->gf (dP 1 lV (af (aa i) ar)) #[R,[]]=.ok (.lst (bq Q),#[R,E]))/\Sto E Q/\(∀p∈Q,bO ws.length (cU goods ws) p.2/\SzL 8000 p.2)/\(∀x,bO ws.length (cU goods ws) x->x∈Q.map (·.2))/\Q.length<64:=by
 have g4:=y.g4;have w6:=y.w6;obtain⟨d,Y,Q,ep,U,sQ,nQ,few,nd,so,lo,all⟩:=J2 (goods:=goods) (ws:=ws) ⋯ ⋯ y.hs;refine#[Q.map λp=>(0+p.1,p.2),(([]:aA)++Y.map (shC 0)).set (0+d) .dead,λ{R i} hR=>nC (i6 (aB (ag hR) aI) ep Ff rfl iI rfl) (Ae (S:=[]) U) rfl,(zx (S:=[]) sQ).set (λp hp=>by
  obtain⟨q,hq,rfl⟩:=pr.mp hp;have:=nQ q hq;show 0+q.1≠0+d;omega) _,λp hp=>by
  obtain⟨q,hq,rfl⟩:=pr.mp hp;exact lo q hq,λx hx=>by
  rw[wh];exact all x hx,by rw[ss];exact few]
theorem JK(y:YS goods ws zs):∃Q E,(∀{R:List (Option D)} {i:Nat},R[i]? =lH (lH (yD goods ws))->gf (dP 1 lV (af (aa i) ar)) #[R,[]]=.ok (.lst (bq Q),#[R,E]))/\Sto E Q/\(∀p∈Q,bO ws.length (cU goods ws) p.2/\SzL 8000 p.2)/\∀x,bO ws.length (cU goods ws) x->x∈Q.map (·.2):=by obtain⟨Q,E,U,Y,lo,all,_⟩:=BJ y;exact#[Q,E,U,Y,lo,all]
theorem KR(hn:n<=9000){a b:Int}(hb:b≠0)(h:Sz n b):wB [.int a,.int b] []=.ok (.tup [.int (rat a b).1,.int (rat a b).2],[]):=by obtain⟨s,e,U⟩:=Gg hn (a:=a) hb h [];have q:=b9 (n:=3) (m:=zT) (ds:=[.int a,.int b]) (O:=[]) (s:=s) (wp (by simp[zT,yQ,mot,hb,wj]) e);rw[U] at q;exact q
theorem zE{l:List Int}(h:a<l.length)(i:Nat):nth (l.set a v) i=if i=a then v else nth l i:=by unfold nth;rw[nu,nu];by_cases e:i=a;rw[if_pos e,e,Rj h];rfl;rw[if_neg e,Ro (S1 e)]
theorem xN:nth (ux n (0:Int)) i=0:=by unfold nth;rw[nu,G2];split <;> rfl
def m4(n a:Nat)(da:Int)(b:Nat)(db:Int):List Int:=((ux n (0:Int)).set a (0+da)).set b (nth ((ux n (0:Int)).set a (0+da)) b+db)
theorem D6:(m4 n a da b db).length=n:=by unfold m4;simp
theorem yc(da db:Int)(ha:a<n)(hb:b<n)(i:Nat):nth (m4 n a da b db) i=(if i=a then da else 0)+(if i=b then db else 0):=by unfold m4;rw[zE (by simpa using hb),zE (by simpa using ha),zE (by simpa using ha),xN,xN];by_cases e:i=b;subst e;by_cases e2:i=a;simp[e2];simp[e2];rw[if_neg e,if_neg e];by_cases e2:i=a;simp[e2];simp[e2]
theorem ub(ha:a<n)(hb:b<n)(x:List Int):bh n (nth (m4 n a da b db)) (nth x)=da*nth x a+db*nth x b:=by
 unfold bh;rw[bV (g:=λi=>(if i=a then da*nth x a else 0)+(if i=b then db*nth x b else 0)) λi _=>by rw[yc da db ha hb,Int.add_mul];congr 1;by_cases e:i=a;rw[if_pos e,if_pos e,e];rw[if_neg e,if_neg e,Tf];by_cases e:i=b;rw[if_pos e,if_pos e,e];rw[if_neg e,if_neg e,Tf],pA,fU (k:=a) ha λi _ e=>if_neg e,fU (k:=b) hb λi _ e=>if_neg e,if_pos rfl,if_pos rfl]
theorem Ft{l:List Int}{x:Int}(h:x∈l):∃i,i<l.length/\x=nth l i:=by obtain⟨i,hi,rfl⟩:=Rq h;exact#[i,hi,by unfold nth;rw[nu,sn hi];rfl]
theorem MW(ha:a<n)(hb:b<n)(h1:Sz c da)(h2:Sz c db):SzL (c+1) (m4 n a da b db):=λx hx=>by
 obtain⟨i,_,rfl⟩:=Ft hx;rw[yc da db ha hb];have q1:Sz c (if i=a then da else 0):=by split <;> first | exact h1 | exact Sz.zero c
 have q2:Sz c (if i=b then db else 0):=by split <;> first | exact h2 | exact Sz.zero c
 have:=q1.add q2;rw[Nat.max_self] at this;exact this
theorem Ip(da db:Int)(ha:a<n)(hb:b<n)(hn:n<=1000):∃O,ft [.int (n:Int),.int (a:Int),.int da,.int (b:Int),.int db] []=.ok (vI (m4 n a da b db),O):=by
 refine#[([Cell.lst ((m4 n a da b db).map D.int)]).set 0 .dead,du (R:=[lH (.int (n:Int)),lH (.int (a:Int)),lH (.int da),lH (.int (b:Int)),lH (.int db),lH (.ptr 0)]) ?_];show kT #[[lH (.int (n:Int)),lH (.int (a:Int)),lH (.int da),lH (.int (b:Int)),lH (.int db),na],[]]=_;rw[kT];have U:setM 5 (uP n8 (af (ao (.int 0)) ar) (aa 0)) #[[lH (.int (n:Int)),lH (.int (a:Int)),lH (.int da),lH (.int (b:Int)),lH (.int db),na],[]]=.next #[[lH (.int (n:Int)),lH (.int (a:Int)),lH (.int da),lH (.int (b:Int)),lH (.int db),lH (.ptr 0)],[.lst ((ux n (0:Int)).map D.int)]]:=bA (by rw[GI (n:=n) (ag rfl) ⋯];rfl) rfl
 have step:∀(l:List Int) (i k:Nat) (v:Int) (hk:k<l.length),[lH (D.int (n:Int)),lH (.int (a:Int)),lH (.int da),lH (.int (b:Int)),lH (.int db),lH (.ptr 0)][i]? =lH (lH (.int (k:Int)))->[lH (D.int (n:Int)),lH (.int (a:Int)),lH (.int da),lH (.int (b:Int)),lH (.int db),lH (.ptr 0)][i+1]? =lH (lH (.int v))->gi (ak cx (ak ixD (aa 5) (aa i)) (aa (i+1))) (jk (aa 5) (aa i)) #[[lH (.int (n:Int)),lH (.int (a:Int)),lH (.int da),lH (.int (b:Int)),lH (.int db),lH (.ptr 0)],[.lst (l.map D.int)]]=.next #[[lH (.int (n:Int)),lH (.int (a:Int)),lH (.int da),lH (.int (b:Int)),lH (.int db),lH (.ptr 0)],[.lst ((l.set k (nth l k+v)).map D.int)]]:=λl i k v hk h1 h2=>by refine Cb (aN (aN (ag rfl) (ag h1) (gA (y:=l) rfl hk)) (ag h2) fv) ?_;rw[kN (k:=0) (a:=k) (ds:=l.map D.int) (ag rfl) (ag h1) rfl (by simpa using hk),TQ];rfl
 have s1:=step (ux n 0) 1 a da (by simpa using ha) rfl rfl;rw[xN] at s1;have s2:=step ((ux n (0:Int)).set a (0+da)) 3 b db (by simpa using hb) rfl rfl;exact aT U (aT s1 (aT s2 (bt (nC (ag rfl) rfl rfl))))
def wwQ(Q:List (Nat×List Int))(a b:Nat):Option (Nat×List Int):=Q.find? λp=>decide (0<nth p.2 a)&&decide (nth p.2 b=0)
theorem Lq{O:aA}{a b:Nat}{L:D}(K:List D):∀(rest:List (Nat×List Int)) (x3:Option D),Sto O rest->(∀p∈rest,a<p.2.length/\b<p.2.length)->
 (wwQ rest a b=na->∃U,bT (okC K na) (aD 3) cM (bq rest) #[[lH L,lH (.int (a:Int)),lH (.int (b:Int)),x3],O]=.next #[[lH L,lH (.int (a:Int)),lH (.int (b:Int)),U],O])/\
 ∀p,wwQ rest a b=lH p->∃U,bT (okC K na) (aD 3) cM (bq rest) #[[lH L,lH (.int (a:Int)),lH (.int (b:Int)),x3],O]=.ret (.ptr p.1) #[[lH L,lH (.int (a:Int)),lH (.int (b:Int)),U],O]
 | [],x3,_,_=>#[λ_=>#[x3,by show bT _ _ _ [] _=_;rw[bT,if_pos (show okC K na _ from trivial)]],λp h=>by cases h]
 | q::rest,x3,sQ,hl=>by
  obtain⟨i1,i2⟩:=Lq (L:=L) K rest (lH (.ptr q.1)) (λp hp=>sQ p (sB _ hp)) λp hp=>hl p (sB _ hp);have hq:=hl q sH;have t:kM (aS (ak gtD (ak ixD (aa 3) (aa 1)) (ao (.int 0)))) (aS (ak eqD (ak ixD (aa 3) (aa 2)) (ao (.int 0)))) #[[lH L,lH (.int (a:Int)),lH (.int (b:Int)),lH (.ptr q.1)],O]=.ok (decide (0<nth q.2 a)&&decide (nth q.2 b=0),#[[lH L,lH (.int (a:Int)),lH (.int (b:Int)),lH (.ptr q.1)],O]):=Gx (gv (aN (ag rfl) (ag rfl) (gA (sQ q sH) hq.1))) (eq_test (aN (ag rfl) (ag rfl) (gA (sQ q sH) hq.2)));have st:bT (okC K na) (aD 3) cM (bq (q::rest)) #[[lH L,lH (.int (a:Int)),lH (.int (b:Int)),x3],O]=(match cM #[[lH L,lH (.int (a:Int)),lH (.int (b:Int)),lH (.ptr q.1)],O] with
   | .next s=>bT (okC K na) (aD 3) cM (bq rest) s
   | .cnt s=>bT (okC K na) (aD 3) cM (bq rest) s
   | .brk s=>.next s
   | o=>o):=by
   show bT _ _ _ (.ptr q.1::bq rest) _=_;rw[bT,if_pos (show okC K na _ from trivial)];rfl
  cases h:(decide (0<nth q.2 a)&&decide (nth q.2 b=0)) with
  | true=>
   have e:wwQ (q::rest) a b=lH q:=by unfold wwQ;rw[TK,h]
   have Y:cM #[[lH L,lH (.int (a:Int)),lH (.int (b:Int)),lH (.ptr q.1)],O]=.ret (.ptr q.1) #[[lH L,lH (.int (a:Int)),lH (.int (b:Int)),lH (.ptr q.1)],O]:=by rw[cM];exact eT t h (bt (ag rfl))
   rw[e,st,Y];exact#[λz=>(by cases z),λp z=>by cases z;exact#[_,rfl]]
  | false=>
   have e:wwQ (q::rest) a b=wwQ rest a b:=by unfold wwQ;rw[TK,h]
   have Y:cM #[[lH L,lH (.int (a:Int)),lH (.int (b:Int)),lH (.ptr q.1)],O]=.next #[[lH L,lH (.int (a:Int)),lH (.int (b:Int)),lH (.ptr q.1)],O]:=by rw[cM];exact dJ t h cg
   rw[e,st,Y];exact#[i1,i2]
theorem OU{O:aA}{a b:Nat}{Q:List (Nat×List Int)}(sQ:Sto O Q)(hl:∀p∈Q,a<p.2.length/\b<p.2.length):iZ [.lst (bq Q),.int (a:Int),.int (b:Int)] O=.ok (fwD (wwQ Q a b),O):=by
 have Y:=dh (im:=listI (aa 0)) (g:=aD 3) (body:=cM) (s:=#[[lH (.lst (bq Q)),lH (.int (a:Int)),lH (.int (b:Int)),na],O]) (ds:=bq Q) (k:=na) (s1:=#[[lH (.lst (bq Q)),lH (.int (a:Int)),lH (.int (b:Int)),na],O]) (by rw[cz,ag (i:=0) rfl,aj];rfl);obtain⟨i1,i2⟩:=Lq (L:=.lst (bq Q)) (bq Q) Q na sQ hl;cases e:wwQ Q a b with
 | none=>
  obtain⟨U,e1⟩:=i1 e;refine du (R:=[lH (.lst (bq Q)),lH (.int (a:Int)),lH (.int (b:Int)),U]) ?_;show iV #[[lH (.lst (bq Q)),lH (.int (a:Int)),lH (.int (b:Int)),na],O]=_;rw[iV];exact aT (Y.trans e1) (bt (aF _))
 | some p=>
  obtain⟨U,e1⟩:=i2 p e;refine du (R:=[lH (.lst (bq Q)),lH (.int (a:Int)),lH (.int (b:Int)),U]) ?_;show iV #[[lH (.lst (bq Q)),lH (.int (a:Int)),lH (.int (b:Int)),na],O]=_;rw[iV];exact d7 (Y.trans e1)
theorem OS{qa Y pa U ra rb:Int}(hp:0<U)(hq:0<Y)(hr:0<rb)(h1:qa*U<=pa*Y)(h2:pa*rb<ra*U):qa*rb<=ra*Y:=by
 refine Tb (a:=U) ?_ hp;have e1:=RA h1 (S2 hr);have e2:=RA (S2 h2) (S2 hq);have t1:U*(qa*rb)=qa*U*rb:=by rw[<- Re,Rg U qa]
 have t2:U*(ra*Y)=ra*U*Y:=by rw[<- Re,Rg U ra]
 have t3:pa*Y*rb=pa*rb*Y:=by rw[Re,Rg Y rb,<- Re]
 omega
theorem OQ(sQ:Sto O Q)(ha:a<n)(hb:b<n)(hl:∀p∈Q,p.2.length=n)(hz:∀p∈Q,SzL 8000 p.2)(hp:∀p∈Q,0<nth p.2 b)(h0:Q≠[]):∃p∈Q,jw [.lst (bq Q),.int (a:Int),.int (b:Int)] O=.ok (.ptr p.1,O)/\∀q∈Q,nth q.2 a*nth p.2 b<=nth p.2 a*nth q.2 b:=by
 obtain⟨p0,m0,e0⟩:∃p0∈Q,atI (bq Q) 0=lH (.ptr p0.1):=by
  cases Q with
  | nil=>exact absurd rfl h0
  | cons p Q=>exact#[p,sH,eU (l:=bq (p::Q)) (i:=0) (by simp)]
 obtain⟨s',el,p,U,x4,hm,rfl⟩:=dF (ok:=okC (bq Q) na) (g:=aD 4) (body:=ig)
  (λpre s=>∃p∈Q,∃x4:Option D,(∀i,i<pre.length->∀(hi:i<Q.length),nth Q[i].2 a*nth p.2 b<=nth p.2 a*nth Q[i].2 b)/\s=#[[lH (.lst (bq Q)),lH (.int (a:Int)),lH (.int (b:Int)),lH (.ptr p.1),x4],O]) (λ_ _ _=>trivial) (bq Q) [] (by
   rintro pre d rest ed s ⟨p,U,x4,hm,rfl⟩;rw[xz] at ed;obtain⟨a0,rfl⟩:=nR ed;have Y:Q[pre.length]∈Q:=Cg _;generalize hq:Q[pre.length]=q at Y;have pl:=hl p U;have ql:=hl q Y;have gq:=sQ q Y;have gp:=sQ p U;have t:aS (ak gtD (ak cT (ak ixD (aa 4) (aa 1)) (ak ixD (aa 3) (aa 2))) (ak cT (ak ixD (aa 3) (aa 1)) (ak ixD (aa 4) (aa 2)))) #[[lH (.lst (bq Q)),lH (.int (a:Int)),lH (.int (b:Int)),lH (.ptr p.1),lH (.ptr q.1)],O]=.ok (decide (nth p.2 a*nth q.2 b<nth q.2 a*nth p.2 b),#[[lH (.lst (bq Q)),lH (.int (a:Int)),lH (.int (b:Int)),lH (.ptr p.1),lH (.ptr q.1)],O]):=
    c9 (aN (aN (aN (ag rfl) (ag rfl) (gA gq ⋯)) (aN (ag rfl) (ag rfl) (gA gp ⋯)) (cV (gQ ∅ ∅ ((hz q Y).nth a) ((hz p U).nth b)))) (aN (aN (ag rfl) (ag rfl) (gA gp ⋯)) (aN (ag rfl) (ag rfl) (gA gq ⋯)) (cV (gQ ∅ ∅ ((hz p U).nth a) ((hz q Y).nth b)))) Am)
   by_cases h:nth p.2 a*nth q.2 b<nth q.2 a*nth p.2 b;refine#[_,#[[lH (.lst (bq Q)),lH (.int (a:Int)),lH (.int (b:Int)),lH (.ptr q.1),lH (.ptr q.1)],O],rfl,.inl ?_,q,Y,_,λi hi ab=> ?_,rfl];rw[ig];exact eT t (decide_eq_true h) (bA (ag rfl) rfl);rw[x0,Fk] at hi;by_cases e:i=pre.length;subst e;rw[hq];exact Ve _;exact OS (hp p U) (hp _ (Cg _)) (hp q Y) (hm i ⋯ ab) h;refine#[_,#[[lH (.lst (bq Q)),lH (.int (a:Int)),lH (.int (b:Int)),lH (.ptr p.1),lH (.ptr q.1)],O],rfl,.inl ?_,p,U,_,λi hi ab=> ?_,rfl];rw[ig];exact dJ t (decide_eq_false h) cg;rw[x0,Fk] at hi;by_cases e:i=pre.length;subst e;rw[hq];omega;exact hm i ⋯ ab) #[[lH (.lst (bq Q)),lH (.int (a:Int)),lH (.int (b:Int)),lH (.ptr p0.1),na],O] #[p0,m0,na,λi hi=>absurd hi (by simp),rfl]
 refine#[p,U, ?_,λq hq=> ?_];refine du (R:=[lH (.lst (bq Q)),lH (.int (a:Int)),lH (.int (b:Int)),lH (.ptr p.1),x4]) ?_;show mF #[[lH (.lst (bq Q)),lH (.int (a:Int)),lH (.int (b:Int)),na,na],O]=_;rw[mF];exact aT (bA (aN (ag rfl) (aF _) (mY e0)) rfl) (aT ((dh (ds:=bq Q) (k:=na) (s1:=#[[lH (.lst (bq Q)),lH (.int (a:Int)),lH (.int (b:Int)),lH (.ptr p0.1),na],O]) (by rw[cz,ag (i:=0) rfl,aj];rfl)).trans el) (bt (ag rfl)));obtain⟨i,hi,rfl⟩:=Rq hq;exact hm i (by rw[xz,ss];exact hi) hi
inductive mI (n:Nat) (R:List (List Int)) (a b:Nat) (O:aA):D->Prop
 | free {k:Nat} {x:List Int} (h:O[k]? =lH (.lst (x.map D.int))) (lo:bO n R x) (z:SzL 8000 x) (ha:0<nth x a) (hb:nth x b=0):mI n R a b O (.tup [.str "free",.ptr k])
 | never {W:List Int} (h:∀x,bO n R x->nth x a=0/\nth x b=0):mI n R a b O (.tup [.str "never",vI W])
 | most {k:Nat} {x W:List Int} {t:Int} (h:O[k]? =lH (.lst (x.map D.int))) (lo:bO n R x) (z:SzL 8000 x) (hb:0<nth x b) (hm:∀l,bO n R l->nth l a*nth x b<=nth x a*nth l b):mI n R a b O (.tup [.str "most",.tup [.int (rat (nth x a) (nth x b)).1,.int (rat (nth x a) (nth x b)).2],.ptr k,.int t,vI W])
theorem Mm{R:List (List Int)}(ha:a<n)(hb:b<n)(h:∀l,bO n R l->v*nth l a<=u*nth l b)(U:Fit n R y):bh n (nth (m4 n a v b (-u))) (nth y)<=0:=by
 have:=zv (c:=m4 n a (-v) b u) (λl Y=>by rw[ub ha hb];have:=h l Y;rw[Vj];omega) U
 rw[ub ha hb,Vj] at this;rw[ub ha hb,Vj];omega
theorem AY{Y U la lb:Int}(hp:0<U)(h:la*U<=Y*lb):(rat Y U).2*la<=(rat Y U).1*lb:=by
 obtain⟨g,g0,_,e1,e2,p2,_⟩:=mS (a:=Y) (b:=U) ⋯;have gp:0<g:=by rcases Sm g 0 with q | q | q;have:=Ta q p2;omega;exact absurd q g0;exact q
 generalize (rat Y U).1=u at *;generalize (rat Y U).2=v at *;subst e1;subst e2;refine Tb (a:=g) ?_ gp;have t1:g*(v*la)=la*(g*v):=by rw[<- Re,Rg]
 have t2:g*(u*lb)=g*u*lb:=by rw[Re]
 omega
theorem Lz{m:EM}(h:m s=.ok (.lst ds,s1)):ve m s=.ok (!ds.isEmpty,s1):=by unfold ve;rw[h,aj];rfl
theorem Hk{a b:Int}(ha:0<=a)(hb:0<b):0<=(rat a b).1/\0<(rat a b).2:=by
 obtain⟨g,U,_,e1,e2,p2,_⟩:=mS (a:=a) (b:=b) ⋯;refine#[?_,p2];have gp:0<g:=by rcases Sm g 0 with q | q | q;have:=Ta q p2;omega;exact absurd q U;exact q
 rcases Sm (rat a b).1 0 with q | q | q;have:=Sr gp q;omega;omega;omega
theorem Jn(ha:a<n)(hb:b<n)(U:0<=v)(Y:0<=u)(h1:Sz c v)(h2:Sz c u):SzL c (m4 n a v b (-u)):=λx hx=>by obtain⟨i,_,rfl⟩:=Ft hx;rw[yc _ _ ha hb];unfold Sz at *;split <;> split <;> omega
theorem MJ(y:YS goods ws zs)(ha:a<zs.length)(hb:b<zs.length):∃(d:D) (O:aA),mE [yD goods ws,.str zs[a],.str zs[b]] []=.ok (d,O)/\mI ws.length (cU goods ws) a b O d:=by
 have zl:=y.zl;have w6:=y.w6;have bm:=Ck (goods:=goods) (a:=a) ⋯ y.nm y.nd ha;have bn:=Ck (goods:=goods) (a:=b) ⋯ y.nm y.nd hb;obtain⟨Q,E,ew,sQ,lo,all,few⟩:=BJ y;have en:=qC goods (ws:=ws) ⋯;have Ql:∀p∈Q,p.2.length=ws.length:=λp hp=>(lo p hp).1.fit.len;have e3:∀x4 x5 x6 x7 x8 x9 Y ab,setM 3 (bc 2 fE (af (aa 0) (af (aa 1) ar))) #[[lH (yD goods ws),lH (.str zs[a]),lH (.str zs[b]),na,x4,x5,x6,x7,x8,x9,Y,ab],[]]=.next #[[lH (yD goods ws),lH (.str zs[a]),lH (.str zs[b]),lH (.int (a:Int)),x4,x5,x6,x7,x8,x9,Y,ab],[]]:=λ_ _ _ _ _ _ _ _=>bA (eg (aB (ag rfl) (aB (ag rfl) aI)) bm (sm (by simp)) rfl rfl) rfl
 have e4:∀x5 x6 x7 x8 x9 Y ab,setM 4 (bc 2 fE (af (aa 0) (af (aa 2) ar))) #[[lH (yD goods ws),lH (.str zs[a]),lH (.str zs[b]),lH (.int (a:Int)),na,x5,x6,x7,x8,x9,Y,ab],[]]=.next #[[lH (yD goods ws),lH (.str zs[a]),lH (.str zs[b]),lH (.int (a:Int)),lH (.int (b:Int)),x5,x6,x7,x8,x9,Y,ab],[]]:=λ_ _ _ _ _ _ _=>bA (eg (aB (ag rfl) (aB (ag rfl) aI)) bn (sm (by simp)) rfl rfl) rfl
 obtain⟨U,hR⟩:∃U:Option D->Option D->Option D->Option D->Option D->List (Option D),U=λx7 x8 x9 Y ab=>[lH (yD goods ws),lH (.str zs[a]),lH (.str zs[b]),lH (.int (a:Int)),lH (.int (b:Int)),lH (.lst (bq Q)),lH (.int (ws.length:Int)),x7,x8,x9,Y,ab]:=#[_,rfl];have start:∀(m:SM) (o:Out),m #[U na na na na na,E]=o->aK (setM 3 (bc 2 fE (af (aa 0) (af (aa 1) ar)))) (aK (setM 4 (bc 2 fE (af (aa 0) (af (aa 2) ar)))) (aK (setM 5 (gf (dP 1 lV (af (aa 0) ar)))) (aK (setM 6 (bN cF (af (methP 0 "names" 0 dk (aa 0) ar) ar))) m))) #[[lH (yD goods ws),lH (.str zs[a]),lH (.str zs[b]),na,na,na,na,na,na,na,na,na],[]]=o:=λm o h=>by refine aT (e3 _ _ _ _ _ _ _ _) (aT (e4 _ _ _ _ _ _ _) (aT (bA (ew rfl) rfl) (aT (s1:=#[U na na na na na,E]) ?_ h)));subst hR;exact bA (jW (aB (oZ (ns:=FN) (ds:=yDs goods ws) (args:=[]) (ag rfl) aI en ∅ jb rfl rfl dU) aI) (by rw[hZ,ss,ss])) rfl
 have e7:setM 7 (bQ 3 iZ (af (aa 5) (af (aa 3) (af (aa 4) ar)))) #[U na na na na na,E]=.next #[U (lH (fwD (wwQ Q a b))) na na na na,E]:=by subst hR;exact bA (gP (aB (ag rfl) (aB (ag rfl) (aB (ag rfl) aI))) (OU sQ λp hp=>by rw[Ql p hp];omega) rfl) rfl
 cases hq:wwQ Q a b with
 | some p=>
  rw[hq] at e7;have hp:=Ud hq;have bp:=Vy hq;obtain⟨b1,b2⟩:=(Rp _ _▸bp:_/\_);refine#[.tup [.str "free",.ptr p.1],E, ?_,.free (sQ p hp) (lo p hp).1 (lo p hp).2 (of_decide_eq_true b1) (of_decide_eq_true b2)];refine du (R:=U (lH (.ptr p.1)) na na na na) ?_;show qd #[[lH (yD goods ws),lH (.str zs[a]),lH (.str zs[b]),na,na,na,na,na,na,na,na,na],[]]=_;rw[qd];refine start _ _ (aT e7 ?_);subst hR;exact d7 (eT (c9 (aN (ag rfl) (aF _) rfl)) rfl (bt (lX (aB (aF _) (aB (ag rfl) aI)) (by simp))))
 | none=>
  rw[hq] at e7;have ac:∀l,bO ws.length (cU goods ws) l->nth l b=0->nth l a=0:=λl hl h0=>by obtain⟨p,hp,rfl⟩:=pr.mp (all l hl);have h1:=Ti.mp hq p hp;have h2:=hl.fit.nn a;have h3:¬0<nth p.2 a:=λq=>h1 (by rw[decide_eq_true q,decide_eq_true h0];rfl);omega
  have e8:setM 8 (bL 1 [4] (listI (aa 5)) (aD 0) (aS (ak gtD (ak ixD (aa 0) (aa 1)) (ao (.int 0)))) (aa 0)) #[U (lH .non) na na na na,E]=.next #[U (lH .non) (lH (.lst (bq (Q.filter λp=>decide (0<nth p.2 b))))) na na na,E]:=by subst hR;exact bA (Ai (l:=Q) (item:=λp=>.ptr p.1) (out:=λp=>.ptr p.1) (p:=λp=>decide (0<nth p.2 b)) (caps:=[4]) (im:=listI (aa 5)) (k:=na) (by rw[cz,ag (i:=5) rfl,aj];rfl) trivial ⋯ (λp hp=>gv (aN (ag rfl) (ag rfl) (gA (sQ p hp) (by rw[Ql p hp];omega)))) (λp _ _=>ag rfl)) rfl
  have am:∀(m:SM) (o:Out),m #[U (lH .non) (lH (.lst (bq (Q.filter λp=>decide (0<nth p.2 b))))) na na na,E]=o->aK (ifS (aS (ak lU (aa 7) (ao .non))) (bx (gb (af (ao (.str ("free" :Str))) (af (aa 7) ar)))) bB) (aK (setM 8 (bL 1 [4] (listI (aa 5)) (aD 0) (aS (ak gtD (ak ixD (aa 0) (aa 1)) (ao (.int 0)))) (aa 0))) m) #[U (lH .non) na na na na,E]=o:=λm o h=>by refine aT (s1:=#[U (lH .non) na na na na,E]) ?_ (aT e8 h);subst hR;exact dJ (c9 (aN (ag rfl) (aF _) rfl)) rfl cg
  have fm:∀{p},p∈Q.filter (λp=>decide (0<nth p.2 b))->p∈Q/\0<nth p.2 b:=λh=>#[(wS.mp h).1,of_decide_eq_true (wS.mp h).2];have fi:∀{p},p∈Q->0<nth p.2 b->p∈Q.filter (λp=>decide (0<nth p.2 b)):=λh1 h2=>wS.mpr #[h1,decide_eq_true h2];generalize Q.filter (λp=>decide (0<nth p.2 b))=F at am fm fi e8;cases hF:F.isEmpty with
  | true=>
   have an:F=[]:=List.isEmpty_iff.mp hF;have bz:∀l,bO ws.length (cU goods ws) l->nth l b=0:=λl hl=>by
    obtain⟨p,hp,rfl⟩:=pr.mp (all l hl);have h2:=hl.fit.nn b;have h3:¬0<nth p.2 b:=λq=>by have:=fi hp q;rw[an] at this;cases this
    omega
   have az:∀l,bO ws.length (cU goods ws) l->nth l a=0:=λl hl=>ac l hl (bz l hl);obtain⟨Od,ed⟩:=Ip (n:=ws.length) (a:=a) (b:=b) 1 1 ⋯ ⋯ ⋯;obtain⟨t,W,Oa,ea,_⟩:=AB (dem:=m4 ws.length a 1 b 1) y.g4 y.w6 y.hs D6 ((MW (c:=1) ⋯ ⋯ (by unfold Sz;decide) (by unfold Sz;decide)).mono ∅) (λz fz=>by rw[ub ⋯ ⋯,Cv ⋯ az fz,Cv ⋯ bz fz];decide);refine#[.tup [.str "never",vI W],E, ?_,.never λx hx=>#[az x hx,bz x hx]];refine du (R:=U (lH .non) (lH (.lst (bq F))) (lH (.tup [.int t,vI W])) na na) ?_;show qd #[[lH (yD goods ws),lH (.str zs[a]),lH (.str zs[b]),na,na,na,na,na,na,na,na,na],[]]=_;rw[qd];refine start _ _ (aT e7 (am _ _ ?_));subst hR;refine d7 (eT (Gm (Lz (ag rfl))) ?_ (aT (bA (eg (aB (ag rfl) (aB (eg (aB (ag rfl) (aB (ag rfl) (aB (aF _) (aB (ag rfl) (aB (aF _) aI))))) ed (by simp) rfl (by simp)) aI)) ea (sm o8) rfl (by simp)) rfl) (bt (lX (aB (aF _) (aB (aN (ag rfl) (aF _) (d0 rfl)) aI)) (by simp)))));rw[an];rfl
  | false=>
   have an:F≠[]:=λe=>by subst e;cases hF
   obtain⟨p,mp,em,hm⟩:=OQ (O:=E) (a:=a) (b:=b) (n:=ws.length) (Q:=F) (λq hq=>sQ q (fm hq).1) ⋯ ⋯ (λq hq=>Ql q (fm hq).1) (λq hq=>(lo q (fm hq).1).2) (λq hq=>(fm hq).2) an;have pQ:=(fm mp).1;have pb:=(fm mp).2;have pz:=(lo p pQ).2;have most:∀l,bO ws.length (cU goods ws) l->nth l a*nth p.2 b<=nth p.2 a*nth l b:=λl hl=>by obtain⟨q,hq,rfl⟩:=pr.mp (all l hl);by_cases h:0<nth q.2 b;exact hm q (fi hq h);have:=hl.fit.nn b;have h0:nth q.2 b=0:=⋯;rw[h0,ac _ hl h0];simp
   have er:=KR (n:=8000) ∅ (a:=nth p.2 a) (b:=nth p.2 b) ⋯ (pz.nth b);have rz:=Sz.rat (n:=8000) (m:=8000) (a:=nth p.2 a) (b:=nth p.2 b) ⋯ (pz.nth a) (pz.nth b);have rn:=Hk ((lo p pQ).1.fit.nn a) pb;obtain⟨Od,ed⟩:=Ip (n:=ws.length) (a:=a) (b:=b) (rat (nth p.2 a) (nth p.2 b)).2 (-(rat (nth p.2 a) (nth p.2 b)).1) ⋯ ⋯ ⋯;obtain⟨t,W,Oa,ea,_⟩:=AB (dem:=m4 ws.length a (rat (nth p.2 a) (nth p.2 b)).2 b (-(rat (nth p.2 a) (nth p.2 b)).1)) y.g4 y.w6 y.hs D6 (Jn ⋯ ⋯ (S2 rn.2) rn.1 rz.2 rz.1) (λz fz=>Mm ⋯ ⋯ (λl hl=>AY pb (most l hl)) fz);refine#[_,E, ?_,.most (t:=t) (W:=W) (sQ p pQ) (lo p pQ).1 pz pb most];refine du (R:=U (lH .non) (lH (.lst (bq F))) (lH (.tup [.int t,vI W])) (lH (.ptr p.1)) (lH (.tup [.int (rat (nth p.2 a) (nth p.2 b)).1,.int (rat (nth p.2 a) (nth p.2 b)).2]))) ?_;show qd #[[lH (yD goods ws),lH (.str zs[a]),lH (.str zs[b]),na,na,na,na,na,na,na,na,na],[]]=_;rw[qd];refine start _ _ (aT e7 (am _ _ ?_));subst hR;refine aT (dJ (Gm (Lz (ag rfl))) ?_ cg) (aT (bA (gP (aB (ag rfl) (aB (ag rfl) (aB (ag rfl) aI))) em rfl) rfl) (aT (bA (eg (aB (aN (ag rfl) (ag rfl) (gA (sQ p pQ) (by rw[Ql p pQ];omega))) (aB (aN (ag rfl) (ag rfl) (gA (sQ p pQ) (by rw[Ql p pQ];omega))) aI)) er (by simp) rfl rfl) rfl) (aT (bA (eg (aB (ag rfl) (aB (eg (aB (ag rfl) (aB (ag rfl) (aB (aN (ag rfl) (aF _) (d0 rfl)) (aB (ag rfl) (aB (Hf (aN (ag rfl) (aF _) (d0 rfl)) tE) aI))))) ed (by simp) rfl (by simp)) aI)) ea (sm o8) rfl (by simp)) rfl) (bt (lX (aB (aF _) (aB (ag rfl) (aB (ag rfl) (aB (aN (ag rfl) (aF _) (d0 rfl)) (aB (aN (ag rfl) (aF _) (d0 rfl)) aI))))) (by simp))))));cases F with
   | nil=>exact absurd rfl an
   | cons _ _=>rfl
theorem mI.sh{R:List (List Int)}{O S:aA}(h:mI n R a b O d):mI n R a b (S++O.map (shC S.length)) (shD S.length d):=by
 have cell:∀{k:Nat} {x:List Int},O[k]? =lH (.lst (x.map D.int))->(S++O.map (shC S.length))[S.length+k]? =lH (.lst (x.map D.int)):=λ{k x} h=>zx (S:=S) (L:=[(k,x)]) (λp hp=>by rw[wf.mp hp];exact h) (S.length+k,x) (by simp);cases h with
 | free h lo z ha hb=>
  rename_i k x;rw[show shD S.length (.tup [.str "free",.ptr k])=.tup [.str "free",.ptr (S.length+k)] by simp[shD,eN]];exact .free (cell h) lo z ha hb
 | never h=>
  rename_i W;rw[show shD S.length (.tup [.str "never",vI W])=.tup [.str "never",vI W] by simp[shD,eN]];exact .never h
 | most h lo z hb hm=>
  rename_i k x W t;rw[show shD S.length (.tup [.str "most",.tup [.int (rat (nth x a) (nth x b)).1,.int (rat (nth x a) (nth x b)).2],.ptr k,.int t,vI W])=.tup [.str "most",.tup [.int (rat (nth x a) (nth x b)).1,.int (rat (nth x a) (nth x b)).2],.ptr (S.length+k),.int t,vI W] by simp[shD,eN]];exact .most (cell h) lo z hb hm
theorem DY(y:YS goods ws zs)(ha:a<zs.length)(hb:b<zs.length){m0 m1 m2:EM}(h0:m0 #[R,O]=.ok (yD goods ws,#[R,O]))(h1:m1 #[R,O]=.ok (.str zs[a],#[R,O]))(h2:m2 #[R,O]=.ok (.str zs[b],#[R,O])):∃d E,dP 3 mE (af m0 (af m1 (af m2 ar))) #[R,O]=.ok (d,#[R,O++E])/\mI ws.length (cU goods ws) a b (O++E) d:=by obtain⟨d,O1,e,m⟩:=MJ y ha hb;exact#[shD O.length d,O1.map (shC O.length),i6 (aB h0 (aB h1 (aB h2 aI))) e (sm (by simp)) rfl rfl rfl,m.sh]
abbrev pR(ns:List Int)(goods:List Str)(ws:List Wk)(A:List (List Int))(w:List Int)(X:List (Option D)):List (Option D):=lH (vI ns)::lH (sD goods)::lH (wsD ws)::lH (vII A)::lH (vI w)::lH (yD goods ws)::X
theorem zc.ys(p:zc mg mw goods ws A w)(g4:mg<=4)(w6:mw<=6):YS goods ws (ws.map (·.nm)):=by have h1:=p.gd.le;have h2:=p.nm.le;rw[ss] at h2;refine#[⋯,⋯, ?_,rfl,p.nm.nd];have:chL goods ws=A:=p.ch;rw[this];exact p.sz.mono ∅
theorem Jv(ns:List Int)(g1:1<=mg)(g4:mg<=4)(w1:1<=mw)(w6:mw<=6)(X:List (Option D))(m:SM)(C:Out->Prop)(hm:∀goods ws A w,zc mg mw goods ws A w->∃o,m #[pR ns goods ws A w X,[]]=o/\C o):
 ∃o,aK (gi (bc 3 kq (af (aa 0) (af (ao (.int (mg:Int))) (af (ao (.int (mw:Int))) ar)))) (cS (a8 (aD 1) (a8 (aD 2) (a8 (aD 3) (a8 (aD 4) cW)))) 4)) (aK (setM 5 (yV 0 2 ki (af (aa 1) (af (aa 2) ar)))) m) #[lH (vI ns)::na::na::na::na::na::X,[]]=o/\C o:=by
 obtain⟨goods,ws,A,w,O,e,p⟩:=HG ns g1 g4 w1 w6;have h1:=p.gd.le;have h2:=p.nm.le;rw[ss] at h2;have Y:Aa goods ws:=#[λw U=>p.nm.g _ (Ps U),p.nm.nd,λw U=>(p.mw w U).us,λw U=>(p.mw w U).ms];have pt:cO (.tup [sD goods,wsD ws,vII A,vI w])=true:=by show (aR (goods.map D.str)&&(aR (ws.map wD)&&(aR (A.map vI)&&(aR (w.map D.int)&&on))))=on;rw[dU,lQ,lF];simp
 have ab:aR [sD goods,wsD ws]=true:=by show (aR (goods.map D.str)&&(aR (ws.map wD)&&on))=on;rw[dU,lQ];rfl
 obtain⟨o,eo,ho⟩:=hm goods ws A w p;exact#[o,aT (Cb (eg (aB (ag rfl) (aB (aF _) (aB (aF _) aI))) e (by simp) rfl pt) rfl) (aT (dD (i:=5) (s':=#[lH (vI ns)::lH (sD goods)::lH (wsD ws)::lH (vII A)::lH (vI w)::na::X,[]]) (Ks (args:=[sD goods,wsD ws]) (aB (ag rfl) (aB (ag rfl) aI)) ab rfl (Ma p.gd.g p.gd.nd Y ⋯ ⋯) jb)) eo),ho]
def idB(goods:List Str)(ws:List Wk)(a:Nat):Bool:=@decide (∀x,bO ws.length (cU goods ws) x->nth x a=0) (UA _)
theorem rS:idB goods ws a=on↔∀x,bO ws.length (cU goods ws) x->nth x a=0:=by unfold idB;exact @decide_eq_true_iff _ (UA _)
theorem Nj(lo:∀p∈Q,bO ws.length (cU goods ws) p.2)(all:∀x,bO ws.length (cU goods ws) x->x∈Q.map (·.2)):(fwQ Q a).isNone=idB goods ws a:=by rw[Rn,rS,<- ML lo all];simp
def fR(goods:List Str)(ws:List Wk)(zs:List Str):List Str:=((tz zs.length).filter (idB goods ws)).map λa=>zs.getD a ""
theorem IB:fj (zs.map D.str)=(tz zs.length).map λa:Nat=>.tup [.int (a:Int),.str (zs.getD a "")]:=by
 rw[Bv];refine Sv (by simp) λi h1 h2=> ?_;have hi:i<zs.length:=by simpa using h1
 simp[nu,sn hi]
theorem NO{r:Option (Nat×List Int)}:isD O (fwD r) .non=.ok (.bl r.isNone):=by cases r <;> rfl
theorem MA(y:YS goods ws zs):∃d O,rW [yD goods ws] []=.ok (.ptr d,O)/\O[d]? =lH (.lst ((fR goods ws zs).map D.str)):=by
 have zl:=y.zl;have w6:=y.w6;obtain⟨Q,E,Y,sQ,lo,all⟩:=JK y;have U:=qC goods (ws:=ws) ⋯;rw[y.nm] at U;have ex:af (methP 0 "names" 0 dk (aa 0) ar) ar #[[lH (yD goods ws),lH (.lst (bq Q))],E]=.ok ([sD zs],#[[lH (yD goods ws),lH (.lst (bq Q))],E]):=aB (oZ (ns:=FN) (ds:=yDs goods ws) (args:=[]) (ag rfl) aI U ∅ jb rfl rfl dU) aI;have ec:=FZ (l:=tz zs.length) (f:=λa:Nat=>.int (a:Int)) (g:=λa=>.str (zs.getD a "")) (p:=idB goods ws) (out:=λa=>.str (zs.getD a "")) (caps:=[1]) (im:=c8 (af (methP 0 "names" 0 dk (aa 0) ar) ar)) (c:=aS (ak isD (bQ 2 fI (af (aa 2) (af (aa 0) ar))) (ao .non))) (e:=aa 1) (k:=na) (s:=#[[lH (yD goods ws),lH (.lst (bq Q))],E]) (by
  rw[oi,ex,aj,<- IB]) trivial (by simp;omega) (λa ha=>by have ha':=Ch.mp ha;rw[<- Nj (a:=a) (λp hp=>(lo p hp).1) all];exact c9 (aN (gP (aB (ag rfl) (aB (ag rfl) aI)) (Dj (a:=a) sQ λp hp=>by rw[(lo p hp).1.fit.len];omega) rfl) (aF _) NO)) (λa _ _=>ag rfl)
 refine#[E.length,E++[.lst (((tz zs.length).filter (idB goods ws)).map λa=>.str (zs.getD a ""))], ?_, ?_];refine du (R:=[lH (yD goods ws),lH (.lst (bq Q))]) ?_;show Dq #[[lH (yD goods ws),na],[]]=_;rw[Dq];exact aT (bA (Y rfl) rfl) (bt ec);rw[gj];unfold fR;rw[wh];rfl
theorem Au(Y:zs.Nodup)(ha:a<zs.length):(fR goods ws zs).any (· == zs[a])=idB goods ws a:=by
 rw[Rn,Ul];unfold fR;constructor;rintro ⟨z,hz,e⟩;obtain⟨i,hi,rfl⟩:=pr.mp hz;have U:=Ch.mp (wS.mp hi).1;have e:zs.getD i "" =zs[a]:=by simpa using e
 rw[nu,sn U] at e;have e:zs[i]=zs[a]:=e;have q:=Te Y i U;rw[e,Te Y a ha] at q;subst q;exact(wS.mp hi).2;intro h;refine#[zs[a],pr.mpr #[a,wS.mpr #[Ch.mpr ha,h], ?_],by simp];rw[nu,sn ha];rfl
theorem yb{c:Int}(h:0<c):rat 0 c=(0,1):=xT ∅ ∅ ⋯ ⋯
theorem ME{c:Int}(h:0<c):rat c c=(1,1):=xT ∅ ∅ ⋯ ⋯
theorem LX{a b:Int}(ha:0<a)(hb:0<b):1<=(rat a b).1:=by
 obtain⟨g,U,_,e1,e2,p2,_⟩:=mS (a:=a) (b:=b) ⋯;have:=(Hk (a:=a) (b:=b) ⋯ hb).1;rcases Sm (rat a b).1 0 with q | q | q
 omega;rw[q] at e1;omega;omega
theorem Ly:eqD O (.tup [.int 0,.int 1]) (.tup [.int 0,.int 1])=.ok (.bl on):=by simp[eqD,eqB,iR,M.res,M.b8,toPy,jv,SeqAt.shaped,PyData.canLay0,PyData.canLayAll0,PyData.depth,PyData.depthAll,PyData.eqv,PyData.eqvAll]
theorem Ow:neD O (.tup [.str "most",.tup [.int 1,.int 1]]) (.tup [.str "most",.tup [.int 1,.int 1]])=.ok (.bl tt):=by
 have h:PyData.strOk ("most" :Str)=true:=by unfold PyData.strOk;rw[<- Array.all_toList,show ("most" :Str).cps.toList=[109,111,115,116] by decide];decide
 simp[neD,eqB,iR,M.res,M.b8,toPy,jv,SeqAt.shaped,PyData.canLay0,PyData.canLayAll0,PyData.depth,PyData.depthAll,PyData.eqv,PyData.eqvAll,h]
theorem M7{a b:EM}{p:Bool}(h:a s=.ok (.bl p,s1))(hp:p=tt):mT a b s=.ok (.bl tt,s1):=by subst hp;rw[Fu,h,aj]
theorem zO(O:aA)(i j:Str):eqD O (.str i) (.str j)=.ok (.bl (decide (i=j))):=rfl
theorem DW(O:aA)(i j:Bool):neD O (.bl i) (.bl j)=.ok (.bl (!decide (i=j))):=rfl
theorem mU{s:Str}(t:Str)(h:R[i]? =lH (lH (.tup (.str s::r)))):ak eqD (ak ixD (aa i) (ao (.int 0))) (ao (.str t)) #[R,O]=.ok (.bl (decide (s=t)),#[R,O]):=aN (aN (ag h) (aF _) (d0 (eU (l:=.str s::r) (i:=0) (by simp)))) (aF _) (zO _ _ _)
theorem tH{s d:D}(h:R[i]? =lH (lH (.tup (s::d::r)))):ak ixD (aa i) (ao (.int 1)) #[R,O]=.ok (d,#[R,O]):=aN (ag h) (aF _) (d0 (eU (l:=s::d::r) (i:=1) (by simp)))
abbrev prR(s1:Str)(r1:List D)(s2:Str)(r2:List D)(I J:Bool)(x4:Option D):List (Option D):=[lH (.tup (.str s1::r1)),lH (.tup (.str s2::r2)),lH (.bl I),lH (.bl J),x4]
def Pas(s:Str)(r:List D):Prop:=s="free" \/s="most" /\∃u v U,r=.tup [.int u,.int v]::U/\1<=u
theorem Df{s1 s2 s:Str}(h:Pas s r):md #[prR s1 r1 s2 r2 I J (lH (.tup (.str s::r))),O]=.next #[prR s1 r1 s2 r2 I J (lH (.tup (.str s::r))),O]:=by
 rw[md];rcases h with rfl | ⟨rfl,u,v,U,rfl,hu⟩
 exact dJ (Cm (c9 (mU "most" rfl)) ∅) rfl cg;exact dJ (Cj (c9 (mU "most" rfl)) ∅ (c9 (aN (aN (tH rfl) (aF _) (d0 (eU (l:=[D.int u,D.int v]) (i:=0) (by simp)))) (aF _) k6))) (decide_eq_false ⋯) cg
theorem oQ{s1 s2:Str}(h1:decide (s1="never")=(I&&J))(h2:decide (s2="never")=decide (s1="never")){m:SM}{o:Out}(h:m #[prR s1 r1 s2 r2 I J na,O]=o):aK (ifS (orT (aS (ak neD (ak eqD (ak ixD (aa 0) (ao (.int 0))) (ao (.str ("never" :Str)))) (mT (aa 2) (aa 3)))) (aS (ak neD (ak eqD (ak ixD (aa 1) (ao (.int 0))) (ao (.str ("never" :Str)))) (ak eqD (ak ixD (aa 0) (ao (.int 0))) (ao (.str ("never" :Str))))))) (bx (ao (.bl tt))) bB) m #[prR s1 r1 s2 r2 I J na,O]=o:=by
 have ha:mT (aa 2) (aa 3) #[prR s1 r1 s2 r2 I J na,O]=.ok (.bl (I&&J),#[prR s1 r1 s2 r2 I J na,O]):=by
  cases I with
  | false=>exact M7 (ag rfl) rfl
  | true=>exact o5 (ag rfl) rfl (ag rfl)
 refine aT (dJ (Gh (c9 (aN (mU "never" rfl) ha (DW _ _ _))) ?_ (c9 (aN (mU "never" rfl) (mU "never" rfl) (DW _ _ _)))) ?_ cg) h;rw[h1];simp;rw[h2];simp
theorem pS {s1 s2:Str} {r1 r2:List D} {O:aA} (h1:decide (s1="never")=(I&&J)) (h2:decide (s2="never")=decide (s1="never"))
 (hJ:J=on->s1≠"never" ->s1="free" /\s2="most" /\∃U,r2=.tup [.int 0,.int 1]::U) (hI:J=tt->I=on->s1="most" /\s2="free" /\∃U,r1=.tup [.int 0,.int 1]::U)
 (hP:I=tt->J=tt->Pas s1 r1/\Pas s2 r2/\(s1="free" \/s2="free" \/∃u1 v1 u2 v2 Y ab,r1=.tup [.int u1,.int v1]::Y/\r2=.tup [.int u2,.int v2]::ab/\(Sz 8000 u1/\Sz 8000 v1/\Sz 8000 u2/\Sz 8000 v2)/\v1*v2<=u1*u2)):
 ∃O',jZ [.tup (.str s1::r1),.tup (.str s2::r2),.bl I,.bl J] O=.ok (.bl on,O'):=by
 have go:∀{x4:Option D} {O':aA},j2 #[prR s1 r1 s2 r2 I J na,O]=.ret (.bl on) #[prR s1 r1 s2 r2 I J x4,O']->∃O',jZ [.tup (.str s1::r1),.tup (.str s2::r2),.bl I,.bl J] O=.ok (.bl on,O'):=λ{x4 O'} h=>#[O',du h];by_cases n1:s1="never";refine go (x4:=na) (O':=O) ?_;rw[j2];exact oQ h1 h2 (d7 (eT (c9 (mU "never" rfl)) (decide_eq_true n1) (bt (aF _))));have s3:∀{m:SM} {o:Out},m #[prR s1 r1 s2 r2 I J na,O]=o->aK (ifS (aS (ak eqD (ak ixD (aa 0) (ao (.int 0))) (ao (.str ("never" :Str))))) (bx (ao (.bl on))) bB) m #[prR s1 r1 s2 r2 I J na,O]=o:=λh=>aT (dJ (c9 (mU "never" rfl)) (decide_eq_false n1) cg) h;cases J with
 | true=>
  obtain⟨q1,q2,U,q3⟩:=hJ rfl n1;refine go (x4:=na) (O':=O) ?_;rw[j2];subst q1;subst q2;subst q3;exact oQ h1 h2 (s3 (d7 (eT (c9 (ag rfl)) rfl (bt (o5 (mU "free" rfl) ∅ (o5 (mU "most" rfl) ∅ (aN (tH rfl) (lX (aB (aF _) (aB (aF _) aI)) (by simp)) Ly)))))))
 | false=>
  have s4:∀{m:SM} {o:Out} {a:EM},m #[prR s1 r1 s2 r2 I tt na,O]=o->aK (ifS (aS (aa 3)) (bx a) bB) m #[prR s1 r1 s2 r2 I tt na,O]=o:=λh=>aT (dJ (c9 (ag rfl)) rfl cg) h;cases I with
  | true=>
   obtain⟨q1,q2,U,q3⟩:=hI rfl rfl;refine go (x4:=na) (O':=O) ?_;rw[j2];subst q1;subst q2;subst q3;exact oQ h1 h2 (s3 (s4 (d7 (eT (c9 (ag rfl)) rfl (bt (o5 (mU "free" rfl) ∅ (o5 (mU "most" rfl) ∅ (aN (tH rfl) (lX (aB (aF _) (aB (aF _) aI)) (by simp)) Ly))))))))
  | false=>
   obtain⟨p1,p2,hp⟩:=hP rfl rfl;have s5:∀{m:SM} {o:Out} {a:EM},m #[prR s1 r1 s2 r2 tt tt na,O]=o->aK (ifS (aS (aa 2)) (bx a) bB) m #[prR s1 r1 s2 r2 tt tt na,O]=o:=λh=>aT (dJ (c9 (ag rfl)) rfl cg) h;have s6:eV (listI (jn (af (aa 0) (af (aa 1) ar)))) (aD 4) md #[prR s1 r1 s2 r2 tt tt na,O]=.next #[prR s1 r1 s2 r2 tt tt (lH (.tup (.str s2::r2))),O]:=by refine(dh (ds:=[.tup (.str s1::r1),.tup (.str s2::r2)]) (k:=na) (s1:=#[prR s1 r1 s2 r2 tt tt na,O]) ?_).trans ?_;rw[cz,wI (aB (ag rfl) (aB (ag rfl) aI)) (by simp),aj];rfl;refine(jX (s1:=#[prR s1 r1 s2 r2 tt tt (lH (.tup (.str s1::r1))),O]) trivial rfl (Df p1)).trans ((jX (s1:=#[prR s1 r1 s2 r2 tt tt (lH (.tup (.str s2::r2))),O]) trivial rfl (Df p2)).trans ?_);rw[bT,if_pos (show okC _ na _ from trivial)]
   have ins:∀{s:Str} {r:List D} {i:Nat},Pas s r->(prR s1 r1 s2 r2 tt tt (lH (.tup (.str s2::r2))))[i]? =lH (lH (.tup (.str s::r)))->ak inD (ak ixD (aa i) (ao (.int 0))) (jn (af (ao (.str ("free" :Str))) (af (ao (.str ("most" :Str))) ar))) #[prR s1 r1 s2 r2 tt tt (lH (.tup (.str s2::r2))),O]=.ok (.bl on,#[prR s1 r1 s2 r2 tt tt (lH (.tup (.str s2::r2))),O]):=λ{s r i} hs hi=>by
    refine aN (aN (ag hi) (aF _) (d0 (eU (l:=.str s::r) (i:=0) (by simp)))) (wI (aB (aF _) (aB (aF _) aI)) (by simp)) ?_;have:=o3 (O:=O) s ["free","most"];rw[show (["free","most"]:List Str).any (· == s)=on by rcases hs with rfl | ⟨rfl,_⟩ <;> decide] at this
    exact this
   have tf:orT (aS (ak eqD (ak ixD (aa 0) (ao (.int 0))) (ao (.str ("free" :Str))))) (aS (ak eqD (ak ixD (aa 1) (ao (.int 0))) (ao (.str ("free" :Str))))) #[prR s1 r1 s2 r2 tt tt (lH (.tup (.str s2::r2))),O]=.ok (decide (s1="free")||decide (s2="free"),#[prR s1 r1 s2 r2 tt tt (lH (.tup (.str s2::r2))),O]):=JN (c9 (mU "free" rfl)) (c9 (mU "free" rfl));refine go (x4:=lH (.tup (.str s2::r2))) (O':=O) ?_;rw[j2];refine oQ h1 h2 (s3 (s4 (s5 (aT s6 ?_))));cases hf:(decide (s1="free")||decide (s2="free")) with
   | true=>exact d7 (eT tf hf (bt (o5 (ins p1 rfl) rfl (ins p2 rfl))))
   | false=>
    refine aT (dJ tf hf cg) (bt ?_);rcases hp with q | q | ⟨u1,v1,u2,v2,Y,ab,rfl,rfl,hz,hc⟩
    rw[decide_eq_true q] at hf;cases hf;rw[decide_eq_true q,VT] at hf;cases hf;have i0:∀(u v:Int),atI [D.int u,D.int v] 0=lH (.int u):=λu v=>eU (l:=[D.int u,D.int v]) (i:=0) (by simp);have i1:∀(u v:Int),atI [D.int u,D.int v] 1=lH (.int v):=λu v=>eU (l:=[D.int u,D.int v]) (i:=1) (by simp);refine aN (aN (aN (tH rfl) (aF _) (d0 (i0 _ _))) (aN (tH rfl) (aF _) (d0 (i0 _ _))) (cV (gQ ∅ ∅ hz.1 hz.2.2.1))) (aN (aN (tH rfl) (aF _) (d0 (i1 _ _))) (aN (tH rfl) (aF _) (d0 (i1 _ _))) (cV (gQ ∅ ∅ hz.2.1 hz.2.2.2))) ?_;rw[LS,decide_eq_true hc]
theorem Gp{Y U u v:Int}(hp:0<U)(h:v*U<=u*Y):v*(rat Y U).2<=u*(rat Y U).1:=by
 obtain⟨g,g0,_,e1,e2,p2,_⟩:=mS (a:=Y) (b:=U) ⋯;have gp:0<g:=by rcases Sm g 0 with q | q | q;have:=Ta q p2;omega;exact absurd q g0;exact q
 generalize (rat Y U).1=s at *;generalize (rat Y U).2=t at *;subst e1;subst e2;refine Tb (a:=g) ?_ gp;have t1:g*(v*t)=v*(g*t):=by rw[<- Re,Rg g v,Re]
 have t2:g*(u*s)=u*(g*s):=by rw[<- Re,Rg g u,Re]
 omega
theorem tQ{R:List (List Int)}{x:List Int}(Y:I=on↔∀x,bO n R x->nth x a=0)(h:I=tt)(lo:bO n R x)(hb:0<nth x b)(hm:∀l,bO n R l->nth l a*nth x b<=nth x a*nth l b):1<=(rat (nth x a) (nth x b)).1:=by
 refine LX ?_ hb;apply Rh;intro q;have q0:=lo.fit.nn a;have q1:nth x a=0:=⋯;have:I=true:=Y.mpr λl U=>by
  have h1:=hm l U;rw[q1,Tf] at h1;have h2:=U.fit.nn a;rcases Sm (nth l a) 0 with q | q | q
  omega;exact q;have:=Rv q hb;omega
 rw[h] at this;cases this
theorem MY{R:List (List Int)}{O O1 O2:aA}{d1 d2:D}(m1:mI n R a b O1 d1)(m2:mI n R b a O2 d2)(hI:I=on↔∀x,bO n R x->nth x a=0)(hJ:J=on↔∀x,bO n R x->nth x b=0):∃O',jZ [d1,d2,.bl I,.bl J] O=.ok (.bl on,O'):=by
 have nI:∀{x},bO n R x->0<nth x a->I=false:=λlo h=>by
  cases hi:I with
  | false=>rfl
  | true=>have:=hI.mp hi _ lo;omega
 have nJ:∀{x},bO n R x->0<nth x b->J=false:=λlo h=>by
  cases hi:J with
  | false=>rfl
  | true=>have:=hJ.mp hi _ lo;omega
 cases m1 with
 | never h=>
  have i1:I=true:=hI.mpr λx hx=>(h x hx).1;have j1:J=true:=hJ.mpr λx hx=>(h x hx).2;cases m2 with
  | never _=>exact pS (by rw[i1,j1];decide) rfl (λ_ h=>absurd rfl h) (λh=>by rw[j1] at h;cases h) (λh=>by rw[i1] at h;cases h)
  | free _ lo _ hb _=>have:=nJ lo hb;rw[j1] at this;cases this
  | most _ lo _ hb _=>have:=nI lo hb;rw[i1] at this;cases this
 | free _ lo _ ha hb=>
  have i0:I=false:=nI lo ha;cases m2 with
  | never h=>have:=hI.mpr λx hx=>(h x hx).2;rw[i0] at this;cases this
  | free _ Y _ U _=>
   have j0:J=false:=nJ Y U;exact pS (by rw[i0,S0];decide) ∅ (λh=>by rw[j0] at h;cases h) (λ_ h=>by rw[i0] at h;cases h) (λ_ _=>#[.inl rfl,.inl rfl,.inl rfl])
  | most _ Y z2 U al=>
   refine pS (by rw[i0,S0];decide) ∅ (λh _=>#[rfl,rfl, ?_]) (λ_ h=>by rw[i0] at h;cases h) (λ_ h=>#[.inl rfl,.inr #[rfl,_,_,_,rfl,tQ hJ h Y U al],.inl rfl]);rw[hJ.mp h _ Y,yb U];exact#[_,rfl]
 | most _ lo z hb hm=>
  have j0:J=false:=nJ lo hb;cases m2 with
  | never h=>have:=hJ.mpr λx hx=>(h x hx).1;rw[j0] at this;cases this
  | free _ Y _ U _=>
   refine pS (by rw[j0,Tl];decide) ∅ (λh=>by rw[j0] at h;cases h) (λ_ h=>#[rfl,rfl, ?_]) (λh _=>#[.inr #[rfl,_,_,_,rfl,tQ hI h lo hb hm],.inl rfl,.inr (.inl rfl)]);rw[hI.mp h _ lo,yb hb];exact#[_,rfl]
  | most _ Y z2 U al=>
   have i0:I=false:=nI Y U;refine pS (by rw[j0,Tl];decide) ∅ (λh=>by rw[j0] at h;cases h) (λ_ h=>by rw[i0] at h;cases h) (λh1 h2=>#[.inr #[rfl,_,_,_,rfl,tQ hI h1 lo hb hm],.inr #[rfl,_,_,_,rfl,tQ hJ h2 Y U al],.inr (.inr #[_,_,_,_,_,_,rfl,rfl, ?_, ?_])]);have r1:=Sz.rat (Int.ne_of_gt hb) (z.nth a) (z.nth b);have r2:=Sz.rat (Int.ne_of_gt U) (z2.nth b) (z2.nth a);exact#[r1.1,r1.2,r2.1,r2.2];have c:=AY hb (hm _ Y);exact Gp U c
theorem BF(n:Nat):∀l:List Str,eN n (l.map D.str)=l.map D.str
 | []=>by simp[eN]
 | z::l=>by rw[ww];simp[eN,shD,BF n l]
abbrev qR(ns:List Int)(goods:List Str)(ws:List Wk)(A:List (List Int))(w:List Int)(U zs:List Str)(x8 x9 x10 x11 Y:Option D):List (Option D):=pR ns goods ws A w [lH (sD U),lH (sD zs),x8,x9,x10,x11,Y]
theorem OY{ns:List Int}{A:List (List Int)}{w:List Int}(y:YS goods ws zs)(ha:a<zs.length)(hk:k<zs.length)(x9 x11 U:Option D)(O:aA):
 ∃ab ac O',wq #[qR ns goods ws A w (fR goods ws zs) zs (lH (.int (a:Int))) x9 (lH (.int (k:Int))) x11 U,O]=.next #[qR ns goods ws A w (fR goods ws zs) zs (lH (.int (a:Int))) x9 (lH (.int (k:Int))) ab ac,O']:=by
 obtain⟨d1,Y,e1,m1⟩:=DY y ha hk (R:=qR ns goods ws A w (fR goods ws zs) zs (lH (.int (a:Int))) x9 (lH (.int (k:Int))) x11 U) (O:=O) (m0:=aa 5) (m1:=ak ixD (aa 7) (aa 8)) (m2:=ak ixD (aa 7) (aa 10)) (ag rfl) (aN (ag rfl) (ag rfl) (ng ha)) (aN (ag rfl) (ag rfl) (ng hk));obtain⟨d2,E2,e2,m2⟩:=DY y hk ha (R:=qR ns goods ws A w (fR goods ws zs) zs (lH (.int (a:Int))) x9 (lH (.int (k:Int))) (lH d1) U) (O:=O++Y) (m0:=aa 5) (m1:=ak ixD (aa 7) (aa 10)) (m2:=ak ixD (aa 7) (aa 8)) (ag rfl) (aN (ag rfl) (ag rfl) (ng hk)) (aN (ag rfl) (ag rfl) (ng ha));obtain⟨O',ep⟩:=MY (O:=O++Y++E2) (I:=idB goods ws a) (J:=idB goods ws k) m1 m2 rS rS;refine#[lH d1,lH d2,O', ?_];rw[wq];have i1:=o3 (O:=O++Y++E2) zs[a] (fR goods ws zs);have i2:=o3 (O:=O++Y++E2) zs[k] (fR goods ws zs);rw[Au y.nd ha] at i1;rw[Au y.nd hk] at i2;exact aT (bA e1 rfl) (aT (bA e2 rfl) (dJ (Gm (c9 (gP (aB (ag rfl) (aB (ag rfl) (aB (aN (aN (ag rfl) (ag rfl) (ng ha)) (ag rfl) i1) (aB (aN (aN (ag rfl) (ag rfl) (ng hk)) (ag rfl) i2) aI)))) ep rfl))) rfl cg))
theorem Oc{m:EM}{a b c d e:D}(h:m #[R,O]=.ok (.tup [a,b,c,d,e],#[R,O])):slT m dA (part (ao (.int 2))) #[R,O]=.ok (.tup [a,b],#[R,O]):=by unfold slT;rw[h,aj];dsimp only;rw[kS,aj];dsimp only;rw[lJ (aF _),aj];rfl
theorem Nr{O O1:aA}(y:YS goods ws zs)(ha:a<zs.length)(m:mI ws.length (cU goods ws) a a O1 d)(U:R[6]? =lH (lH (sD (fR goods ws zs))))(Y:R[7]? =lH (lH (sD zs)))(h8:R[8]? =lH (lH (.int (a:Int))))(h9:R[9]? =lH (lH d)):
 orT (kM (aS (ak inD (ak ixD (aa 7) (aa 8)) (aa 6))) (aS (ak neD (ak ixD (aa 9) (ao (.int 0))) (ao (.str ("never" :Str)))))) (kM (aS (ak i3 (ak ixD (aa 7) (aa 8)) (aa 6))) (aS (ak neD (slT (aa 9) dA (part (ao (.int 2)))) (gb (af (ao (.str ("most" :Str))) (af (gb (af (ao (.int 1)) (af (ao (.int 1)) ar))) ar)))))) #[R,O]=.ok (tt,#[R,O]):=by
 have i1:=o3 (O:=O) zs[a] (fR goods ws zs);have i2:=t6 (O:=O) zs[a] (fR goods ws zs);rw[Au y.nd ha] at i1 i2;have t1:aS (ak inD (ak ixD (aa 7) (aa 8)) (aa 6)) #[R,O]=.ok (idB goods ws a,#[R,O]):=c9 (aN (aN (ag Y) (ag h8) (ng ha)) (ag U) i1);have t2:aS (ak i3 (ak ixD (aa 7) (aa 8)) (aa 6)) #[R,O]=.ok (!idB goods ws a,#[R,O]):=c9 (aN (aN (ag Y) (ag h8) (ng ha)) (ag U) i2);have nI:∀{x},bO ws.length (cU goods ws) x->0<nth x a->idB goods ws a=false:=λlo h=>by
  cases hi:idB goods ws a with
  | false=>rfl
  | true=>have:=rS.mp hi _ lo;omega
 cases m with
 | free _ _ _ h1 h2=>omega
 | never h=>
  have hi:idB goods ws a=true:=rS.mpr λx hx=>(h x hx).1;exact Gh (Cj t1 hi (c9 (aN (aN (ag h9) (aF _) (d0 (eU (l:=[D.str "never",_]) (i:=0) (by simp)))) (aF _) rfl))) ∅ (Cm t2 (by rw[hi];rfl))
 | most _ lo _ hb _=>
  have hi:=nI lo hb;refine Gh (Cm t1 hi) rfl (Cj t2 (by rw[hi];rfl) (c9 (aN (Oc (ag h9)) (lX (aB (aF _) (aB (lX (aB (aF _) (aB (aF _) aI)) (by simp)) aI)) (by simp)) ?_)));rw[ME hb];exact Ow
theorem Ke(ns:List Int)(h:ns.length<=63):∃O,Cc [.lst (ns.map D.int)] []=.ok (.bl on,O):=by
 obtain⟨o,eo,R,O,ho⟩:=Jv ns (mg:=3) (mw:=4) ∅ ∅ ∅ ∅ [na,na,na,na,na,na,na] (aK (setM 6 (gf (dP 1 rW (af (aa 5) ar)))) (aK (setM 7 (bL 1 [] (listI (aa 2)) (aD 0) bR (ak ixD (aa 0) (ao (.int 0))))) (aK (eV (g9 (af (bN cF (af (aa 7) ar)) ar)) (aD 8) wG) (bx (ao (.bl on)))))) (λo=>∃R O,o=.ret (.bl on) #[R,O]) (by
  intro goods ws A w p;have y:=p.ys ∅ ∅;have w6:=y.w6;obtain⟨zs,hzs⟩:∃zs,ws.map (·.nm)=zs:=#[_,rfl];rw[hzs] at y;have zl:=y.zl;obtain⟨d,Oi,ei,ci⟩:=MA y;have c6:([]++Oi.map (shC 0))[0+d]? =lH (.lst ((fR goods ws zs).map D.str)):=by rw[xz,UU,wP,ci];show lH (Cell.lst (eN 0 ((fR goods ws zs).map D.str)))=_;rw[BF]
  have e6:setM 6 (gf (dP 1 rW (af (aa 5) ar))) #[pR ns goods ws A w [na,na,na,na,na,na,na],[]]=.next #[pR ns goods ws A w [lH (sD (fR goods ws zs)),na,na,na,na,na,na],([]++Oi.map (shC 0)).set (0+d) .dead]:=bA (nC (i6 (aB (ag rfl) aI) ei Ff rfl iI rfl) c6 rfl) rfl
  generalize (([]:aA)++Oi.map (shC 0)).set (0+d) .dead=O1 at e6;have e7:=dS (l:=ws) (item:=wD) (out:=λx=>.str x.nm) (caps:=[]) (im:=listI (aa 2)) (e:=ak ixD (aa 0) (ao (.int 0))) (k:=na) (s:=#[pR ns goods ws A w [lH (sD (fR goods ws zs)),na,na,na,na,na,na],O1]) (by rw[cz,ag (i:=2) rfl,aj];rfl) trivial ⋯ (λx _=>aN (ag rfl) (aF _) (d0 rfl));rw[show ws.map (λx=>D.str x.nm)=zs.map D.str by rw[<- hzs,wh];rfl] at e7;obtain⟨s',el,x8,x9,ab,U,Y,O2,rfl⟩:=dF (ok:=okC (cN 0 (zs.length:Int)) na) (g:=aD 8) (body:=wG)
   (λ_ s=>∃x8 x9 ab U Y O,s=#[qR ns goods ws A w (fR goods ws zs) zs x8 x9 ab U Y,O]) (λ_ _ _=>trivial) (cN 0 (zs.length:Int)) [] (by
    rintro pre dd rest ed s ⟨x8,x9,ab,U,Y,O,rfl⟩;rw[xz,iF] at ed;obtain⟨rfl,ha⟩:=kB ed;generalize pre.length=a at ha;obtain⟨d1,E1,e9,m9⟩:=DY y ha ha (R:=qR ns goods ws A w (fR goods ws zs) zs (lH (.int (a:Int))) x9 ab U Y) (O:=O) (m0:=aa 5) (m1:=ak ixD (aa 7) (aa 8)) (m2:=ak ixD (aa 7) (aa 8)) (ag rfl) (aN (ag rfl) (ag rfl) (ng ha)) (aN (ag rfl) (ag rfl) (ng ha));obtain⟨s',el,a1,an,ap,O2,rfl⟩:=dF (ok:=okC (cN 0 (a:Int)) na) (g:=aD 10) (body:=wq)
     (λ_ s=>∃ab U Y O,s=#[qR ns goods ws A w (fR goods ws zs) zs (lH (.int (a:Int))) (lH d1) ab U Y,O]) (λ_ _ _=>trivial) (cN 0 (a:Int)) [] (by rintro pre dd rest ed s ⟨ab,U,Y,O,rfl⟩;rw[xz,iF] at ed;obtain⟨rfl,hk⟩:=kB ed;obtain⟨an,ap,O',eb⟩:=OY (ns:=ns) (A:=A) (w:=w) y ha (k:=pre.length) ⋯ (lH d1) U Y O;exact#[_,_,rfl,.inl eb,_,_,_,_,rfl]) #[qR ns goods ws A w (fR goods ws zs) zs (lH (.int (a:Int))) (lH d1) ab U Y,O++E1] #[_,_,_,_,rfl]
    refine#[#[qR ns goods ws A w (fR goods ws zs) zs (lH (.int (a:Int))) x9 ab U Y,O],_,rfl,.inl ?_,lH (.int (a:Int)),lH d1,a1,an,ap,O2,rfl];rw[wG];exact aT (bA e9 rfl) (aT (dJ (Nr y ha m9 rfl rfl rfl rfl) rfl cg) ((dh (ds:=cN 0 (a:Int)) (k:=na) (s1:=#[qR ns goods ws A w (fR goods ws zs) zs (lH (.int (a:Int))) (lH d1) ab U Y,O++E1]) (gD (aB (ag rfl) aI) ⋯)).trans el))) #[qR ns goods ws A w (fR goods ws zs) zs na na na na na,O1] #[_,_,_,_,_,_,rfl]
  exact#[_,aT e6 (aT (bA (R':=qR ns goods ws A w (fR goods ws zs) zs na na na na na) e7 rfl) (aT ((dh (ds:=cN 0 (zs.length:Int)) (k:=na) (s1:=#[qR ns goods ws A w (fR goods ws zs) zs na na na na na,O1]) (gD (aB (jW (aB (ag rfl) aI) (by rw[hZ,ss])) aI) ⋯)).trans el) (bt (aF _)))),_,_,rfl])
 rw[ho] at eo;exact#[O,du (R:=R) (wp (by rw[LC];rfl) eo)]
theorem all_mk {l:UG} {w:Db} {K:qh} {h:Gc} {mg:Str->Option ol} {fa e7 e8 e9 fc f2 Y:pc} (X:K.In h) (G:h.Ns mainGlobals mg) (hR:mg "law" =lH (.ref fa)) (U:l.prog.given.tree=na)
 {ga ge gl gn gq gs gt gy gz fm:Option pc} {g0 g1 g2 g3 he:Array (Option ol)} {hf hg hh hj fr hl ho ht hv hw fw hA hB hC hD hF fx hG hH hI hJ hK fy hL hM fz fY f0 ez f1:ol} {b7 cw cB:Tok}
 (d2:No K mainGlobals "Yard" =lH (lH (.ref Y)))
 (eA:S3 K Y Str.empty=on)
 (eB:To K Y=on)
 (eF:Ua K Y=on)
 (eP:IG K (.ref Y) "__setattr__" =lH (lH (.builtin "object.__setattr__")))
 (eQ:UC K Y=on)
 (e0:Rm K (.ref Y)=on)
 (a5:IG K (.ref Y) "held_changes" =lH na)
 (bd:IG K (.ref Y) "held_goods" =lH na)
 (be:IG K (.ref Y) "held_works" =lH na)
 (l0:FK K "is_whole" tO)
 (l1:FK K "measure_of_two" kL)
 (l2:FK K "measure" uQ)
 (l3:FK K "lowest" xv)
 (l4:FK K "ratio" z9)
 (l5:FK K "sum_of_products" kg)
 (l6:FK K "unit" Em)
 (l7:FK K "units" zU)
 (l8:FK K "offset" xQ)
 (l9:FK K "column" xZ)
 (hS:FK K "first_not_nought" jH)
 (hT:FK K "with_sign_above" ka)
 (hV:FK K "cleared" uR)
 (hW:FK K "plain" Ap)
 (hX:FK K "still_by_one_more" jh)
 (hY:FK K "still" zJ)
 (h3:FK K "made_of" vB)
 (h4:FK K "places_of" qY)
 (h5:FK K "is_among" tw)
 (h6:FK K "are_neighbours" kO)
 (h7:FK K "lone_by_one_more" jP)
 (h8:FK K "lone" D5)
 (h9:IG K (.ref Y) "row" =lH (lH (.ref e7)))
 (ih:SY K (.ref e7)=on)
 (ii:K.lookup e7=lH #[hf,ga,.func (PP "row" "Yard.row" (eJ j6) (dO j6) (aL j6) .none hg hh hj ge fr hl),g0])
 (ij:RO K fr "Yard.row" =on)
 (hN:Rm K (.ref e7)=on)
 (il:IG K (.ref Y) "rows" =lH (lH (.ref e8)))
 (io:SY K (.ref e8)=on)
 (is:K.lookup e8=lH #[ho,gl,.func (PP "rows" "Yard.rows" (eJ i9) (dO i9) (aL i9) .none ht hv hw gn fw hA),g1])
 (iv:RO K fw "Yard.rows" =on)
 (hO:Rm K (.ref e8)=on)
 (iP:IG K (.ref Y) "names" =lH (lH (.ref e9)))
 (iS:SY K (.ref e9)=on)
 (i0:K.lookup e9=lH #[hB,gq,.func (PP "names" "Yard.names" (eJ iB) (dO iB) (aL iB) .none hC hD hF gs fx hG),g2])
 (i1:RO K fx "Yard.names" =on)
 (hP:Rm K (.ref e9)=on)
 (i2:FK K "ways" Eg)
 (i7:FK K "place_of" sx)
 (jl:FK K "first_with" qe)
 (jp:FK K "weights_above" lW)
 (js:FK K "idle" Dl)
 (jx:FK K "demands_of_two" kX)
 (j0:FK K "way_without" n9)
 (j1:FK K "way_with_most" mn)
 (j5:FK K "most" DS)
 (kd:FK K "is_name" vg)
 (kf:FK K "check_many" qk)
 (kj:FK K "check_name" pW)
 (kk:FK K "check_goods" om)
 (kl:FK K "check_good" px)
 (km:FK K "check_amount" mL)
 (kn:FK K "check_parts" n5)
 (kt:FK K "check_works" og)
 (ku:FK K "copy_work" rE)
 (kz:FK K "amount_of" qU)
 (kW:FK K "change_of" rJ)
 (k0:IG K (.ref Y) "__init__" =lH (lH (.ref fc)))
 (k1:SY K (.ref fc)=on)
 (k2:K.lookup fc=lH #[hH,gt,.func (PP "__init__" "Yard.__init__" (eJ jf) (dO jf) (aL jf) .none hI hJ hK gy fy hL),g3])
 (k3:RO K fy "Yard.__init__" =on)
 (k5:Rm K (.ref fc)=on)
 (k7:FK K "_law_cell" tL)
 (la:FK K "_law_bag" uX)
 (lb:FK K "_law_draw" sM)
 (lc:FK K "_law_number" pZ)
 (le:FK K "_law_words" rF)
 (lf:FK K "_law_way" u5)
 (lh:FK K "_law_changes" oh)
 (li:FK K "_law_works" rD)
 (lk:FK K "_law_parts" rG)
 (lm:FK K "_law_pair" t9)
 (hQ:No K mainGlobals "law" =lH (lH (.ref f2)))
 (ln:K.lookup f2=lH #[hM,gz,.func (PP "law" "law" (eJ oC) (dO oC) (aL oC) .none fz fY f0 fm ez f1),he])
 (lp:RO K ez "law" =on)
 (lq:Rm K (.ref f2)=on)
 (cI:No K mainGlobals "isinstance" =lH na)
 (f3:No K mainGlobals "int" =lH na)
 (ff:No K mainGlobals "bool" =lH na)
 (f4:No K mainGlobals "abs" =lH na)
 (ci:No K mainGlobals "list" =lH na)
 (b3:No K mainGlobals "zip" =lH na)
 (ek:No K mainGlobals "sum" =lH na)
 (ac:No K mainGlobals "range" =lH na)
 (al:No K mainGlobals "enumerate" =lH na)
 (as:No K mainGlobals "len" =lH na)
 (eu:No K mainGlobals "sorted" =lH na)
 (f5:No K mainGlobals "all" =lH na)
 (f6:No K mainGlobals "max" =lH na)
 (cc:No K mainGlobals "MOST_LETTERS" =lH (lH (.int 8 b7)))
 (c0:No K mainGlobals "MOST_GOODS" =lH (lH (.int 10 cw)))
 (c1:No K mainGlobals "MOST_WORKS" =lH (lH (.int 10 cB))):
 ∃fd:RB,(∀(s:r0) (v:ol),TY s fd #[[v],[]] [("_law_script",v)])/\∀base:Gc,K.In base->base.Ns mainGlobals mg->kb l.prog w K mg base (CXE l.prog w) 45 fa fd ["_law_script"] (spM K (caK K) 1 Cc):=by
 have e:=hR.symm.trans (SD X G hQ);cases e;have am:caK K 0=Y:=by show clsAt K "Yard" =_;unfold clsAt;rw[d2]
 have an:Cls K (caK K 0):=by rw[am];exact#[eA,eB,eF,eP]
 have ap:fK K (caK K 0) "held_changes" :=by rw[am];exact a5
 have a1:fK K (caK K 0) "held_goods" :=by rw[am];exact bd
 have a2:fK K (caK K 0) "held_works" :=by rw[am];exact be
 have lv:=rX (st:=j6) ii ij hN;have lx:=rX (st:=i9) is iv hO;have ly:=rX (st:=iB) i0 i1 hP;have lz:=rX (st:=jf) k2 k3 k5;have lA:=rX (st:=oC) ln lp lq;refine#[PP "law" "law" (eJ oC) (dO oC) (aL oC) .none fz fY f0 fm ez f1,λs v=>.of_eq rfl,λbase _ _=> ?_];let e:Ev:=#[l.prog,w,K,mg,base,caK K]
 have b6:=EV (e:=e) (FK.fa X G l0) U (sK X G cI) (sK X G f3) (sK X G ff);have a4:=wK (e:=e) (FK.fa X G l1) U (sK X G f4);have cm:=GQ (e:=e) (FK.fa X G l2) U a4;have ev:=I0 (e:=e) (FK.fa X G l3) U (sK X G ci) cm;have bv:=CN (e:=e) (FK.fa X G l3) U (sK X G ci) cm;have e4:=K4 (e:=e) (FK.fa X G l4) U b6 a4;have ab:=va (e:=e) (FK.fa X G l5) U (sK X G b3) (sK X G ek);have fh:=MT (e:=e) (FK.fa X G l6) U;have el:=GC (e:=e) (FK.fa X G l6) U;have e5:=Kv (e:=e) (FK.fa X G l7) U (sK X G ac) fh;have ea:=Ew (e:=e) (FK.fa X G l7) U (sK X G ac) el;have ew:=Jk (e:=e) (FK.fa X G l8) U (sK X G b3) ev;have bw:=D1 (e:=e) (FK.fa X G l8) U (sK X G b3) bv;have c5:=Hr (e:=e) (FK.fa X G l9) U;have a3:=uD (e:=e) (FK.fa X G hS) U (sK X G al);have bp:=uU (e:=e) (FK.fa X G hT) U;have em:=GY (e:=e) (FK.fa X G hV) U bw;have e6:=KJ (e:=e) (FK.fa X G hW) U (sK X G ac) bv a3 c5 bp em;have bb:=tU (e:=e) (FK.fa X G hX) U (sK X G al) ab a3 bw;have eb:=Jy (e:=e) (FK.fa X G hY) U ea bb e6;have en:=GV (e:=e) (FK.fa X G h3) U (sK X G as) (sK X G ac) c5 eb;have c6:=CI (e:=e) (FK.fa X G h4) U;have ec:=EY (e:=e) (FK.fa X G h5) U;have bz:=wN (e:=e) (FK.fa X G h6) U (sK X G as) ec;have bi:=uC (e:=e) (FK.fa X G h7) U (sK X G b3) (sK X G al) ab c6 bz ew;have er:=Mq (e:=e) (FK.fa X G h8) U (sK X G eu) e5 bi;have ed:=Ez (e:=e) lv (by show Meth K (caK K 0) _ _;rw[am];exact#[h9,ih,hN]) U an ap;have b1:=Co (e:=e) lx (by show Meth K (caK K 0) _ _;rw[am];exact#[il,io,hO]) U (sK X G as) (sK X G ac) an a1 ed;have az:=BN (e:=e) ly (by show Meth K (caK K 0) _ _;rw[am];exact#[iP,iS,hP]) U an a2;have et:=LU (e:=e) (FK.fa X G i2) U (sK X G as) an er b1 az;have ef:=EC (e:=e) (FK.fa X G i7) U an az;have bm:=BO (e:=e) (FK.fa X G jl) U;have b4:=xJ (e:=e) (FK.fa X G jp) U (sK X G as) (sK X G b3) an b1 eb ab bm er en;have fi:=Mr (e:=e) (FK.fa X G js) U (sK X G al) an et az bm;have b2:=wO (e:=e) (FK.fa X G jx) U;have cn:=z5 (e:=e) (FK.fa X G j0) U;have b5:=xP (e:=e) (FK.fa X G j1) U;have fl:=LO (e:=e) (FK.fa X G j5) U (sK X G as) an ef et az cn b4 b2 b5 e4;have eo:=Hc (e:=e) (FK.fa X G kd) U (sK X G as) (sK X G f5) #[_,SD X G cc];have c2:=B1 (e:=e) (FK.fa X G kf) U (sK X G as) #[_,SD X G c0] #[_,SD X G c1];have bn:=B4 (e:=e) (FK.fa X G kj) U eo;have co:=zX (e:=e) (FK.fa X G kk) U (sK X G al) bn;have c3:=BY (e:=e) (FK.fa X G kl) U;have ce:=zf (e:=e) (FK.fa X G km) U b6;have cp:=zI (e:=e) (FK.fa X G kn) U c3 ce;have cr:=z6 (e:=e) (FK.fa X G kt) U bn cp;have dc:=DN (e:=e) (FK.fa X G ku) U (sK X G ci);have dd:=D0 (e:=e) (FK.fa X G kz) U (sK X G ek);have dn:=DM (e:=e) (FK.fa X G kW) U dd;have dp:=CB (e:=e) lz (by show Mk K (caK K 0) _;rw[am];exact#[eQ,k0,k1,e0]) (by show mg _=lH (.ref (caK K 0));rw[am];exact SD X G d2) U (sK X G ci) an a1 a2 ap c2 co cr dc dn;have ei:=EF (e:=e) (FK.fa X G k7) U (sK X G as);have cs:=Gz (e:=e) (FK.fa X G la) U;have a0:=EN (e:=e) (FK.fa X G lb) U;have c4:=B5 (e:=e) (FK.fa X G lc) U a0;have dL:=CD (e:=e) (FK.fa X G le) U (sK X G ac) (sK X G as);have ep:=GK (e:=e) (FK.fa X G lf) U (sK X G ac) a0;have cu:=Aj (e:=e) (FK.fa X G lh) U (sK X G as) (sK X G ac) (sK X G ek) cs c4 a0;have dV:=CC (e:=e) (FK.fa X G li) U (sK X G b3) (sK X G f6) a0;have d1:=D9 (e:=e) (FK.fa X G lk) U (sK X G as) cs ei dL a0 ep cu dV;have ej:=EB (e:=e) (FK.fa X G lm) U;have f8:=Ox (e:=e) lA (SD X G hQ) U (sK X G as) (sK X G ac) d1 dp fi fl ej;exact f8.1
end
end Lk35
open PySem PySem.W PyProof.Rows
theorem PySem.W.Fast.tw5001649520144652291:True:=#[]
theorem PySem.W.Fast.tw3407483240888025513:True:=#[]
theorem PySem.W.Fast.tw13988787886664996734:True:=#[]
theorem PySem.W.Fast.tw7952747345505013157:True:=#[]
theorem PySem.W.Fast.tw15919724715314103044:True:=#[]
theorem PySem.W.Fast.tw8467995898144332367:True:=#[]
theorem PySem.W.Fast.tw14054039862167024718:True:=#[]
theorem PySem.W.Fast.tw5589519818744089064:True:=#[]
theorem PySem.W.Fast.tw7436679579941707843:True:=#[]
theorem PySem.W.Fast.tw1842526740231194864:True:=#[]
theorem PySem.W.Fast.tw12633224501625973778:True:=#[]
theorem PySem.W.Fast.tw12457920096557175866:True:=#[]
theorem PySem.W.Fast.tw16557085665858097749:True:=#[]
theorem PySem.W.Fast.tw7859347529864533987:True:=#[]
theorem PySem.W.Fast.tw3830017127677503663:True:=#[]
theorem PySem.W.Fast.tw12482299048276941112:True:=#[]
theorem PySem.W.Fast.tw6448801330480398868:True:=#[]
theorem PySem.W.Fast.tw18324870778612621478:True:=#[]
theorem PySem.W.Fast.tw13145162214828043493:True:=#[]
theorem PySem.W.Fast.tw12477890789864599764:True:=#[]
theorem PySem.W.Fast.tw7004739559261823433:True:=#[]
theorem PySem.W.Fast.tw15124070939886912801:True:=#[]
theorem PySem.W.Fast.tw9761714078454018033:True:=#[]
theorem PySem.W.Fast.tw13872071739905768397:True:=#[]
theorem PySem.W.Fast.tw1252199692588138681:True:=#[]
theorem PySem.W.Fast.tw9124059844182027682:True:=#[]
theorem PySem.W.Fast.tw17815539998778374571:True:=#[]
theorem PySem.W.Fast.tw9774024453694070003:True:=#[]
theorem PySem.W.Fast.tw2686384158734771109:True:=#[]
theorem PySem.W.Fast.tw14885193092570400770:True:=#[]
theorem PySem.W.Fast.tw8801834784208703127:True:=#[]
theorem PySem.W.Fast.tw15010257554145634164:True:=#[]
theorem PySem.W.Fast.tw15840114397291591497:True:=#[]
theorem PySem.W.Fast.tw7305909079363843158:True:=#[]
theorem PySem.W.Fast.tw8461378026744039739:True:=#[]
theorem PySem.W.Fast.tw15529954770641235448:True:=#[]
theorem PySem.W.Fast.tw9753999156223490413:True:=#[]
theorem PySem.W.Fast.tw12214544620690667575:True:=#[]
theorem PySem.W.Fast.tw6222587585458263799:True:=#[]
theorem PySem.W.Fast.tw7585961554084305261:True:=#[]
theorem PySem.W.Fast.tw17052831551364030571:True:=#[]
theorem PySem.W.Fast.tw7450149766982416575:True:=#[]
theorem PySem.W.Fast.tw17771555541330620818:True:=#[]
theorem PySem.W.Fast.tw16477082387156813165:True:=#[]
theorem PySem.W.Fast.tw5960717572722014614:True:=#[]
theorem PySem.W.Fast.tw6762692954143920867:True:=#[]
theorem PySem.W.Fast.tw11811786161977148948:True:=#[]
theorem PySem.W.Fast.tw17914556992579332350:True:=#[]
theorem PySem.W.Fast.tw8153430106451059482:True:=#[]
theorem PySem.W.Fast.tw11233138621181601578:True:=#[]
theorem PySem.W.Fast.tw7612953138487845541:True:=#[]
theorem PySem.W.Fast.tw17486878458790318453:True:=#[]
theorem PySem.W.Fast.tw4813291319432432881:True:=#[]
theorem PySem.W.Fast.tw6403474053959563683:True:=#[]
theorem PySem.W.Fast.tw10474257471626624053:True:=#[]
theorem PySem.W.Fast.tw17851062771395908480:True:=#[]
theorem PySem.W.Fast.tw14418783932138647200:True:=#[]
theorem PySem.W.Fast.tw7290158625367631991:True:=#[]
theorem PySem.W.Fast.tw16205944111959741084:True:=#[]
theorem PySem.W.Fast.tw6687063144555288646:True:=#[]
set_option maxRecDepth 100000 in
set_option maxHeartbeats 0 in
theorem PySem.Challenge.cw_modeyard_k35_most_there_and_back_holds : PySem.Challenge.rw_modeyard_k35_most_there_and_back.Holds := by
 w_on;o_law;k_head;(case hw=>w_witness2)
 k_fill
 refine L2.Kh (l:=PySem.Challenge.rw_modeyard_k35_most_there_and_back) (n:=63) (k:=45) (x:="_law_script") (sp:=λK=>M.spM K (Lk35.caK K) 1 Lk35.Cc) rfl (by decide) rfl ⟨rfl,by decide,by decide⟩ (by decide +kernel) (λw h Y=>PySem.W.kIn_of Y) ?F ?S
 case F=>
  intro w mg fa h KX G hmg
  refine' Lk35.all_mk KX G hmg rfl ?_ ?_ ?_ ?_ ?_ ?_ ?_ ?_ ?_ ?_ ?_ ?_ ?_ ?_ ?_ ?_ ?_ ?_ ?_ ?_ ?_ ?_ ?_ ?_ ?_ ?_ ?_ ?_ ?_ ?_ ?_ ?_ ?_ ?_ ?_ ?_ ?_ ?_ ?_ ?_ ?_ ?_ ?_ ?_ ?_ ?_ ?_ ?_ ?_ ?_ ?_ ?_ ?_ ?_ ?_ ?_ ?_ ?_ ?_ ?_ ?_ ?_ ?_ ?_ ?_ ?_ ?_ ?_ ?_ ?_ ?_ ?_ ?_ ?_ ?_ ?_ ?_ ?_ ?_ ?_ ?_ ?_ ?_ ?_ ?_ ?_ ?_ ?_ ?_ ?_ ?_ ?_ ?_ ?_ ?_ ?_ ?_ ?_ ?_ ?_ ?_ ?_
  all_goals try k_is
  all_goals try exact⟨_,_,_,_,_,_,_,_,_,_,by k_is,by k_is,by k_is,by k_is⟩
 case S=>exact λK H a ns hl _ hS=>M.NX hS (Lk35.Ke ns hl)