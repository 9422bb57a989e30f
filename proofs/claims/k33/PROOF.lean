import PyProof.Rows.All
import Wide.All
import OpenK.AllK
import Wide.FinOn
import Lean
import PyProof.EqAt
import PyProof.EqKinds
import PyProof.TupleCall
import PySem.Challenge.RW_modeyard_k33_whole_never_is_never
set_option Elab.async false
set_option linter.all false
set_option maxRecDepth 100000
set_option maxHeartbeats 4000000
local macro_rules|`(⋯)=>`(by omega)
local macro_rules|`(∅)=>`(by decide)
local macro_rules|`(#[$x,*])=>`(⟨$x,*⟩)
local macro_rules|`(#v[$x,*])=>`(List.toArray [$x,*])
open Array renaming getD_eq_getD_getElem?→T4,getElem?_toList→UA,length_toList→Vg,perm_iff_toList_perm→VA,toList_inj→VO,getElem_toList→Wn,toList_map→WY
open Bool renaming true→ss,false→xL,false_ne_true→Eb,and_eq_true→Tp,beq_eq_decide_eq→TF,eq_iff_iff→TR,false_eq_true→T5,true_and→UI,or_eq_true→Vb,false_and→Vr,or_false→VB,and_false→Wh,eq_false_iff→WO,true_or→XD
open Classical renaming byContradiction→S8,axiomOfChoice→V2
open Eq renaming trans→Db
open False renaming elim→sH
open ForInStep renaming yield→Uo
open Function renaming comp_def→Uf
open Iff renaming rfl→WK
open Int renaming gcd→SF,mul_eq_zero→SK,mul_nonneg→SS,mul_comm→S1,mul_pos→S7,emod_lt_of_pos→Tq,zero_mul→Tt,natAbs_natCast→TC,mul_zero→TN,emod_nonneg→TU,mul_nonpos_of_nonneg_of_nonpos→Ug,mul_fdiv_cancel_left→Ui,mul_le_mul_of_nonneg_right→Up,mul_assoc→UJ,mul_neg_of_pos_of_neg→UK,eq_of_mul_eq_mul_left→UL,neg_mul_neg→UM,mul_ediv_cancel_left→UR,le_of_lt→UT,natAbs_dvd_natAbs→U4,natAbs_of_nonneg→U8,mul_ne_zero→Vf,gcd_pos_of_ne_zero_right→Vn,natAbs_neg→Vp,natAbs_mul→Vq,le_refl→Wg,le_trans→WC,add_zero→WJ,natAbs_add_le→WQ,toNat_natCast→WR,mul_left_comm→WT
open List renaming getD_eq_getElem?_getD→re,mem_map→sB,length_map→t3,getElem?_eq_getElem→ut,mem_cons_of_mem→wf,range→wh,replicate→wn,mem_cons_self→wp,map_map→wv,mem_singleton→ww,mem_cons→wE,getElem?_append_right→wP,getElem?_map→wT,mem_append→xz,map_cons→x0,size_toArray→Ae,length_cons→AC,getElem?_append_left→AT,getElem?_eq_some_iff→Ch,nil_append→Cs,length_append→Do,mem_filter→EQ,map_append→Fa,of_mem_zip→Fk,mem_map_of_mem→Hf,getElem?_replicate→IR,getElem_mem→NE,mem_append_right→PP,length_singleton→Re,mem_range→SA,filter_cons_of_pos→SD,mem_of_getElem?→SI,length_zip→SJ,pairwise_cons→SV,getElem_of_mem→SX,filter_cons_of_neg→SY,drop_eq_getElem_cons→S0,take_of_length_le→S5,getElem?_set_self→S6,replicate_succ→S9,append_assoc→Ta,lookup_cons→Tb,getElem?_set_ne→Tc,mem_append_left→Td,map_nil→Te,zipWith→Tf,length_zipWith→Ti,getElem?_range→Tk,mem_of_mem_eraseIdx→To,toArray→Ts,nodup_cons→Tv,filterMap_cons→Tx,not_mem_nil→TB,map_inj_right→TD,length→TH,append_nil→TJ,foldl_cons→TL,flatten_cons→TW,length_take→TY,all_eq_true→TZ,filter_map→T9,length_range→Ub,pairwise_map→Ud,nodup_append→Ue,mapIdx_eq_zipIdx_map→Uh,sum_cons→Ul,lookup→Us,drop_eq_nil_of_le→Ut,foldl_append→Uv,take_add_one→Uw,length_filter_le→Uz,length_replicate→UB,getElem?_eq_none→UC,ext_getElem→UE,zipIdx_cons→UG,pairwise_iff_getElem→UP,all_map→US,range_succ_eq_map→UY,all_cons→U0,length_drop→U1,getElem?_zipWith→U3,mem_of_mem_take→U5,mem_of_mem_drop→Va,range_succ→Vc,zipIdx_map→Ve,map_congr_left→Vh,drop_zero→Vm,lookup_append→Vt,map_replicate→Vu,mem_replicate→Vw,find?_eq_none→Vx,zip_cons_cons→Vy,any_cons→Vz,any_eq_false→VC,mem_of_find?_eq_some→VF,getElem?_eq_none_iff→VG,length_erase_of_mem→VM,mem_flatMap→VT,getElem_map→VX,getElem?_take_of_lt→VY,map_zipWith→VZ,any_map→V0,drop_length→V1,eraseIdx_cons_succ→V4,length_nil→V7,map_const'→Wc,getElem_zipWith→Wm,zip_eq_zipWith→Wv,getD_cons_succ→Ww,getD_cons_zero→Wx,mem_filterMap→Wy,zipWith_map→WZ,any_eq_true→W2,map_reverse→W5,mem_reverse→W6,mem_nil_iff→W7,getElem_inj→Xa,flatMap_map→Xb,find?_cons→Xh,find?_some→Xi,sum_append→Xk,Nodup→Xl,foldl→Xm,nodup_nil→Xo,map_take→Xq,map_set→XC
open List.Pairwise renaming imp_of_mem→TQ,nil→WM
open List.Perm renaming swap→Xp
open Nat renaming le_refl→wS,lt_of_lt_of_le→Gc,ne_of_lt→Ix,le_trans→SE,add_sub_cancel_left→SR,zero_le→SU,pow_le_pow_right→S4,lt_irrefl→Tu,gcd→T0,le_of_lt→T6,lt_succ_of_lt→Uc,lt_succ_self→UF,two_pow_pos→UN,ne_of_gt→U6,mul_le_mul_right→U7,testBit_or→Vl,le_succ→Vs,add_comm→VR,lt_or_ge→VU,mul_comm→VV,le_add_right→VW,min_eq_left→V9,le_mul_of_pos_left→Wd,mul_assoc→Wt,pow_succ→WA,sub_self→WD,add_zero→WE,sub_zero→WG,zero_add→WH,pow_add→WU,not_lt→Xc,dvd_trans→Xs
open Ne renaming symm→Ux
open Option renaming some→pr,none→qh,map_some→Tn,getD_some→VL,isSome_iff_exists→VS,getD_none→W9
open Option.some renaming inj→Tw,injEq→WS
open Or renaming inl→tt,inr→S2
open PyProof.Rows renaming IntsAre→TX,callWith_type1→T7,AllBare→UU,subscriptTail_builtinR→Wf,listUpdate_at→Wq,getElem?_mirror_all→Wu,seqEpoch_at→WV,bubble_size→WX,Subscript_→Xe,lt_int→Xw
open PySem renaming Value→sn,Addr→sK,Shared→vr,wpAny_bind→xY,Program→FS,World→IN,Expr→KE,wpAny_pure→Ps,Heap→Rs,Around→SN,wpAny_truthy_bool→SQ,wpAny_loadPart'→SW,IntMulOk→Tj,FuncData→Tr,NameKind→TV,wpAny_mono→T3,wpAny_passesOwn→T8,Scope→Ua,mem_of_lookup→Uj,wpAny_holding→Uk,sizeLine_eq→Ur,Stmt→Uy,plainId_quiet→UH,codeAny_builtin→UO,wpAny_Call_Name_kw→UQ,call_meets→UV,wpAny_pyIter_list→UW,wpAny_execs_nil→Vd,wpAny_tryCatch→Vj,BindsTo→Vk,PyData→VJ,wpAny_getItem_list_slice→VN,codeAny_mono→VP,wpAny_comprehension_free→VQ,wpAny_updateSeq→V8,wpAny_letGo→We,wpAny_isTrue_Compare1→Wi,wpAny_seqItems→Wj,wpAny_newList→Wr,wpAny_standAt→Ws,Within→WB,Result→WF,seqIndex_neg→WI,wpAny_pyIter_enum→WL,wpAny_assign_Name→WP,seqIndex_of→WW,GenState→W8,call→Xd,typeIs_int→Xf,wpAny_Name→Xg,typeIs_str→Xj
open PySem.EqMixed renaming eq_bool_str→Xt,ne_bool_str→Xu,eq_str_bool→Xv,ne_str_bool→Xx,eq_str_int→Xy,ne_str_int→Xz,eq_int_str→XA,ne_int_str→XB
open PySem.F renaming plainAttrs_list→Go,type_list_append→M2,slot_list_append→No,plain_min_loop→Tg,entry_min_loop→UZ,slot_list_lt→Wo
open PySem.W renaming Frag→uY,mg_none_of→u8,findIn→Jn,nsIn→SG,fnOf→SH,keepIn→SO,codeIn→S3,emptyDict→Th,isFn→Tz,instObj→TK,mg_of→Um,kia_one→Uq,cellsFrom_some→Uu,plainGet→UD,hasDictIn→UX,methodCall_KW→U2,plainGet_of→Vi,lookIn→Vo,callWith_K→Vv,plainOver→VD,methodObj→VE,OpenLaw→V5,takerIn→V6,makesIn→Wa,specialIn→WN,handedIn→W1,kitOne→Xn,WalkO→Xr
open PySem.W.Looks renaming here→XE
open PySem.W.WData renaming weightAll→V3,weight→Wp,int→XF
open Sum renaming inl→VH,inr→VI
open True renaming intro→U9
namespace L2
open PySem PySem.Spec PyProof.Rows
variable {us : List sn} {u : sn} {H : Hp} {a b it C : sK} {P : FS} {w : IN} {h base : Rs} {o : Obj} {t' i k : Nat} {ch fp : List sK} {x : Str} {M : Model} {A : SN} {E Q : sn → vr → Prop} {v : V} {X : Cx} {e tg : KE} {s : vr} {pins : List (sK × Obj)} {σ : St} {pos : Pos} {op : CmpOp} {t te : TE} {K : uY} {body : List Uy} {r r' : R2} {f : sn → sn → Sem sn} {kw : List (Str × sn)} {mg : Str → Option sn}
abbrev Key:=Sum Int Str
def MT:Key->sn->Bool
 | .inl k,v=>Value.isInt k v
 | .inr x,v=>Value.isStrOf x v
def Rr(w:IN):Key->Int
 | .inl k=>hashInt k
 | .inr x=>hashStr w x
theorem gc:∀{k:Key} {v:sn},MT k v=ss->(∃i t,k=VH i/\v=Value.int i t)\/(∃x t,k=VI x/\v=Value.str x t)
 | .inl i,v,h=>by obtain⟨t,e⟩:=Value.isInt_shape (k:=i) (v:=v) h;exact .inl #[i,t,rfl,e]
 | .inr x,v,h=>by obtain⟨t,e⟩:=Value.isStrOf_shape (x:=x) (v:=v) h;exact .inr #[x,t,rfl,e]
theorem Pd{a b:Int}:decide ((VH a:Key)=VH b)=(a == b):=by by_cases e:a=b;subst e;simp;have h:¬(VH a:Key)=VH b:=λq=>e (Sum.inl.inj q);rw[decide_eq_false h];exact(beq_eq_false_iff_ne.mpr e).symm
theorem PQ{a b:Str}:decide ((VI a:Key)=VI b)=decide (a=b):=by by_cases e:a=b;subst e;simp;have h:¬(VI a:Key)=VI b:=λq=>e (Sum.inr.inj q);rw[decide_eq_false h,decide_eq_false e]
theorem Pn{a:Int}{b:Str}:decide ((VH a:Key)=VI b)=false:=decide_eq_false (λq=>nomatch q)
theorem Qp{a:Str}{b:Int}:decide ((VI a:Key)=VH b)=false:=decide_eq_false (λq=>nomatch q)
def Bx(prog:FS)(w:IN):PySem.KeyKind prog w Key where
 is:=MT
 hash:=Rr w
 inj:=λv a b ha hb=>by
  rcases gc ha with⟨i,t,rfl,rfl⟩ | ⟨x,t,rfl,rfl⟩;rcases gc hb with⟨j,u,rfl,e⟩ | ⟨y,u,rfl,e⟩;injection e with e1 _;rw[e1];exact nomatch e
  rcases gc hb with⟨j,u,rfl,e⟩ | ⟨y,u,rfl,e⟩;exact nomatch e
  injection e with e1 _;rw[e1]
 byValue:=λk v h=>by rcases gc h with⟨i,t,rfl,rfl⟩ | ⟨x,t,rfl,rfl⟩ <;> rfl
 pyHash:=λhv h=>by rcases gc hv with⟨i,t,rfl,rfl⟩ | ⟨x,t,rfl,rfl⟩;exact wpAny_pyHash_int h;exact wpAny_pyHash_str h
 eqBool:=λhu hv h=>by rcases gc hu with⟨i,t,rfl,rfl⟩ | ⟨x,t,rfl,rfl⟩;rcases gc hv with⟨j,u,rfl,rfl⟩ | ⟨y,u,rfl,rfl⟩;rw[Pd] at h;exact wpAny_eqBool_int h;rw[Pn] at h;exact SeqAt.EqAt.int_str i t y u _ _ _ _ h;rcases gc hv with⟨j,u,rfl,rfl⟩ | ⟨y,u,rfl,rfl⟩;rw[Qp] at h;exact SeqAt.EqAt.str_int x t j u _ _ _ _ h;rw[PQ] at h;exact wpAny_eqBool_str h
 «strs»:=λk x t v h=>by
  rcases gc h with⟨i,u,rfl,e⟩ | ⟨y,u,rfl,e⟩;exact nomatch e
  injection e with e1 _
  subst e1;cases v <;> rfl
inductive V where
 | non | bl (b:Bool) | int (i:Int) | str (x:Str) | byt (b:Array UInt8) | flt (b:UInt64) | ref (a:sK) | ty (n:String)
 deriving DecidableEq
def RelV:V->sn->Prop
 | .non,u=>u=Value.none
 | .bl b,u=>u=Value.bool b
 | .int i,u=>∃t,u=Value.int i t
 | .str x,u=>∃t,u=Value.str x t
 | .byt b,u=>∃t,u=Value.bytes b t
 | .flt b,u=>∃t,u=Value.float b t
 | .ref a,u=>u=Value.ref a
 | .ty n,u=>u=Value.type n
abbrev Vals:List V->List sn->Prop:=Paired RelV
theorem Vals.length{xs:List V}(r:Vals xs us):xs.length=us.length:=Paired.length r
theorem Vals.get:∀{xs:List V} {us:List sn} {i:Nat} {x:V},Vals xs us->xs[i]? =pr x->∃u,us[i]? =pr u/\RelV x u
 | _,_,_,_,.nil,e=>by simp at e
 | _,_,0,_,.cons r _,e=>by simp at e;subst e;exact#[_,rfl,r]
 | _,_,i+1,x,.cons _ t,e=>by obtain⟨u,h1,h2⟩:=Vals.get (i:=i) (x:=x) t (by simpa using e);exact#[u,by simpa using h1,h2]
theorem Vals.set{x:V}{u:sn}(r:RelV x u):∀{xs:List V} {us:List sn} (i:Nat),Vals xs us->Vals (xs.set i x) (us.set i u)
 | _,_,_,.nil=>.nil
 | _,_,0,.cons _ t=>.cons r t
 | _,_,i+1,.cons q t=>.cons q (Vals.set r i t)
theorem Vals.append:∀{xs ys:List V} {us ws:List sn},Vals xs us->Vals ys ws->Vals (xs++ys) (us++ws)
 | _,_,_,_,.nil,s=>s
 | _,_,_,_,.cons r t,s=>.cons r (Vals.append t s)
theorem Vals.take:∀{xs:List V} {us:List sn} (n:Nat),Vals xs us->Vals (xs.take n) (us.take n)
 | _,_,0,_=>.nil
 | _,_,_+1,.nil=>.nil
 | _,_,n+1,.cons r t=>.cons r (Vals.take n t)
theorem Vals.drop:∀{xs:List V} {us:List sn} (n:Nat),Vals xs us->Vals (xs.drop n) (us.drop n)
 | _,_,0,r=>r
 | _,_,_+1,.nil=>.nil
 | _,_,n+1,.cons _ t=>Vals.drop n t
def su:Option V->Option sn->Prop
 | some v,pr u=>RelV v u
 | none,qh=>True
 | _,_=>False
def KV{J:Type}:List (J×V)->List (J×sn)->Prop:=Paired λ(p:J×V) (q:J×sn)=>p.1=q.1/\RelV p.2 q.2
def kV:Key->V
 | .inl i=>.int i
 | .inr x=>.str x
inductive HO where
 | lst (xs:List V)
 | tup (xs:List V)
 | dK (kvs:List (Key×V)) | dT (kvs:List (List Key×V))
 | set (S:Int->Bool) (n:Nat)
 | ins (C dx:sK) (fs:List (Str×V))
 | own (x:sK)
 | xd (fs:List (Str×V))
 | met (f x:sK)
 | rng (lo hi:Int)
 | frz (o:Obj) (u:HO)
 | tbl (ps:Array sn)
 | ext (φ:Rs->Prop)
abbrev Hp:=sK->Option HO
def upd(H:Hp)(a:sK)(o:HO):Hp:=λb=>if b=a then pr o else H b
theorem dg{o:HO}:upd H a o a=pr o:=by unfold upd;rw[if_pos rfl]
theorem aZ{o:HO}(h:b≠a):upd H a o b=H b:=by unfold upd;rw[if_neg h]
theorem gf{o:HO}(h:H a=pr o)(h':H b=qh):a≠b:=by intro e;subst e;rw[h] at h';cases h'
section
variable (P : FS) (w : IN)
def iV(H:Hp)(h:Rs)(a:sK):HO->Prop
 | .lst xs=>xs.length<=sizeLine/\∃(J:List sn) (n:Nat),Vals xs J/\h.get? a=pr {cls:=.type "list",data:=.seq J.toArray n}
 | .tup xs=>xs.length<=sizeLine/\∃J:List sn,Vals xs J/\IsTup h a J.toArray
 | .dK Y=>Y.length<=sizeLine/\(a == sysModules)=xL/\∃vs,KV Y vs/\h.DictOf (Bx P w) a vs
 | .dT Y=>Y.length<=sizeLine/\(a == sysModules)=xL/\∃xs:List (List Key×sK×sn),
  Paired (λ(p:List Key×V) (q:List Key×sK×sn)=>p.1=q.1/\H q.2.1=pr (.tup (p.1.map kV))/\RelV p.2 q.2.2) Y xs/\
  ∃o es ep,h.get? a=pr o/\o.ExactDict/\o.data=.dict es ep/\es.toList=xs.map (entryOfKey (tupleKind (Bx P w)))/\(xs.map (·.1)).Nodup
 | .set S n=>h.SetOf (intKind P w) a S n
 | .ins C dx fs=>H dx=pr (.own a)/\fs.length<=1000/\dx≠a/\h.get? a=pr (TK C dx)/\
  ∃mA,h.Ns1 dx mA/\(∀f,su (fs.lookup f) (mA f))/\WB mA (fs.map (·.1))
 | .own _=>∃o,h.get? a=pr o
 | .xd fs=>∃mA,h.Ns1 a mA/\∀f,su (fs.lookup f) (mA f)
 | .rng lo hi=>∃t u v,h.get? a=pr {cls:=.type "range",data:=.fields #v[.int lo t,.int hi u,.int 1 v]}
 | .frz o u=>h.get? a=pr o/\iV H h a u
 | .tbl ps=>h.get? a=pr {cls:=.none,data:=.fields ps}
 | .met f x=>h.get? a=pr (VE (.ref f) (.ref x))
 | .ext φ=>φ h/\(∃o,h.get? a=pr o)/\∀h1 h2:Rs,φ h1->(∀o,h1.get? a=pr o->h2.get? a=pr o)->φ h2
def HOk(H:Hp)(h:Rs):Prop:=∀a o,H a=pr o->iV P w H h a o
end
section
variable {P : FS} {w : IN} {H H' : Hp} {h h' : Rs} {a : sK} {o : HO}
theorem iV.lt(x:iV P w H h a o):a<h.objs.size:=by
 cases o with
 | lst xs=>obtain⟨_,_,_,_,e⟩:=x;exact Heap.lt_size e
 | tup xs=>obtain⟨_,_,_,p⟩:=x;exact p.lt
 | dK J=>obtain⟨_,_,_,_,o,_,_,e,_⟩:=x;exact Heap.lt_size e
 | dT J=>obtain⟨_,_,_,_,o,_,_,e,_⟩:=x;exact Heap.lt_size e
 | set S n=>obtain⟨o,_,_,_,e,_⟩:=x;exact Heap.lt_size e
 | ins C dx fs=>obtain⟨_,_,_,e,_⟩:=x;exact Heap.lt_size e
 | own y=>obtain⟨_,e⟩:=x;exact Heap.lt_size e
 | xd fs=>obtain⟨_,⟨_,_,_,e,_⟩,_⟩:=x;exact Heap.lt_size e
 | rng lo hi=>obtain⟨_,_,_,e⟩:=x;exact Heap.lt_size e
 | frz Y u=>obtain⟨e,_⟩:=x;exact Heap.lt_size e
 | tbl ps=>exact Heap.lt_size (show h.get? a=pr _ from x)
 | met f y=>exact Heap.lt_size (show h.get? a=pr _ from x)
 | ext φ=>obtain⟨_,⟨_,e⟩,_⟩:=x;exact Heap.lt_size e
theorem Paired.mapP{α β:Type}{F G:α->β->Prop}:∀{J:List α} {Y:List β},Paired F J Y->(∀a b,F a b->G a b)->Paired G J Y
 | _,_,.nil,_=>.nil
 | _,_,.cons r t,f=>.cons (f _ _ r) (Paired.mapP t f)
theorem iV.stay (x:iV P w H h a o) (k:∀b u,(b=a\/H b=pr (.own a))->h.get? b=pr u->h'.get? b=pr u)
 (ho:∀b,H b=pr (.own a)->H' b=pr (.own a)) (ht:∀b xs,H b=pr (.tup xs)->H' b=pr (.tup xs)):iV P w H' h' a o:=by
 induction o with
 | lst xs=>obtain⟨z,ab,n,r,e⟩:=x;exact#[z,ab,n,r,k _ _ (.inl rfl) e]
 | tup xs=>obtain⟨z,ab,r,J,e,c⟩:=x;exact#[z,ab,r,J,k _ _ (.inl rfl) e,c]
 | dK ac=>obtain⟨z,y,vs,r,J,es,Y,e,c⟩:=x;exact#[z,y,vs,r,J,es,Y,k _ _ (.inl rfl) e,c]
 | dT ac=>
  obtain⟨z,y,xs,r,J,es,Y,e,c⟩:=x;exact#[z,y,xs,Paired.mapP r λp q z=>#[z.1,ht _ _ z.2.1,z.2.2],J,es,Y,k _ _ (.inl rfl) e,c]
 | set S n=>obtain⟨J,es,Y,t,e,c⟩:=x;exact#[J,es,Y,t,k _ _ (.inl rfl) e,c]
 | ins C dx fs=>
  obtain⟨d,z,ne,e,mA,⟨od,es,Y,e2,c⟩,r⟩:=x;exact#[ho _ d,z,ne,k _ _ (.inl rfl) e,mA,#[od,es,Y,k _ _ (.inr d) e2,c],r]
 | own y=>obtain⟨J,e⟩:=x;exact#[J,k _ _ (.inl rfl) e]
 | xd fs=>obtain⟨mA,⟨od,es,Y,e,c⟩,r⟩:=x;exact#[mA,#[od,es,Y,k _ _ (.inl rfl) e,c],r]
 | rng lo hi=>obtain⟨t,u,v,e⟩:=x;exact#[t,u,v,k _ _ (.inl rfl) e]
 | frz J u ih=>obtain⟨e,q⟩:=x;exact#[k _ _ (.inl rfl) e,ih q]
 | tbl ps=>
  have e:h.get? a=pr {cls:=.none,data:=.fields ps}:=x;show h'.get? a=pr {cls:=.none,data:=.fields ps};exact k a _ (.inl rfl) e
 | met f y=>
  have e:h.get? a=pr (VE (.ref f) (.ref y)):=x;show h'.get? a=pr (VE (.ref f) (.ref y));exact k a _ (.inl rfl) e
 | ext φ=>obtain⟨p,⟨o,e⟩,st⟩:=x;exact#[st _ _ p λo q=>k _ _ (.inl rfl) q,#[o,k _ _ (.inl rfl) e],st]
theorem HOk.lt(x:HOk P w H h)(e:H a=pr o):a<h.objs.size:=(x a o e).lt
theorem HOk.fresh(x:HOk P w H h)(e:h.objs.size<=a):H a=none:=by
 cases q:H a with
 | none=>rfl
 | some u=>exact absurd (Gc (x.lt q) e) (Tu _)
theorem HOk.kept(x:HOk P w H h)(k:∀b u,h.get? b=pr u->h'.get? b=pr u):HOk P w H h':=λa o e=>
 (x a o e).stay (λb u _ q=>k b u q) (λ_ q=>q) λ_ _ q=>q
theorem HOk.laid(x:HOk P w H h)(k:∀b u,h.get? b=pr u->h'.get? b=pr u)(hp:h.objs.size<=a)(J:iV P w (upd H a o) h' a o):HOk P w (upd H a o) h':=λb u e=>by have hn:=x.fresh hp;by_cases hb:b=a;subst hb;rw[dg] at e;cases e;exact J;rw[aZ hb] at e;exact(x b u e).stay (λc v _ q=>k c v q) (λc q=>by rw[aZ (gf q hn)];exact q) λc xs q=>by rw[aZ (gf q hn)];exact q
end
def Rd(H:Hp)(a:sK)(u:HO):Prop:=H a=pr u\/∃o,H a=pr (.frz o u)
theorem Rd.ok{u:HO}(r:Rd H a u)(x:HOk P w H h):iV P w H h a u:=by rcases r with r | ⟨o,r⟩;exact x a u r;obtain⟨_,q⟩:=x a _ r;exact q
def Mut:Option HO->Prop
 | some (.lst _)=>True
 | some (.dK _)=>True
 | some (.dT _)=>True
 | some (.set _ _)=>True
 | some (.ins _ _ _)=>True
 | some (.ext _)=>True
 | _=>False
section
variable {P : FS} {w : IN} {H : Hp} {h h' : Rs} {x e : sK} {o' : HO}
theorem HOk.write (ok:HOk P w H h) (mu:Mut (H x)) (he:e=x\/H e=pr (.own x)) (k:∀b u,b≠e->h.get? b=pr u->h'.get? b=pr u) (am:∃u,h'.get? e=pr u)
 (an:iV P w (upd H x o') h' x o'):HOk P w (upd H x o') h':=λb u q=>by
 have Y:∀c y,H c=pr (.own y)->c≠x:=λc y r z=>by subst z;rw[r] at mu;exact mu
 have ab:∀c xs,H c=pr (.tup xs)->c≠x:=λc xs r z=>by subst z;rw[r] at mu;exact mu
 by_cases hb:b=x;subst hb;rw[dg] at q;cases q;exact an;rw[aZ hb] at q;by_cases J:b=e;have q':H b=pr (.own x):=by rcases he with z | z;exact absurd (J.trans z) hb;rw[J];exact z
 rw[q] at q';cases q';obtain⟨v,hv⟩:=am;exact#[v,by rw[J];exact hv];refine(ok b u q).stay (λc v hc r=>k c v ?_ r) (λc r=>by rw[aZ (Y c b r)];exact r) λc xs r=>by rw[aZ (ab c xs r)];exact r
 rcases hc with rfl | hc;exact J;rintro rfl;rcases he with z | z;exact Y c b hc z;rw[hc] at z;cases z;exact hb rfl
end
structure Un(fs ex:List sK)(H H':Hp)(h h':Rs):Prop where
 keep:∀b o,h.get? b=pr o->H b=qh->b∉fs->b∉ex->h'.get? b=pr o
 slot:∀b o,h.get? b=pr o->H b=qh->b∈fs->b∉ex->∃sl,h'.get? b=pr {o with slots:=sl}
 free:∀b o,h.get? b=pr o->H b=qh->b∉ex->H' b=qh
 there:∀b o,h.get? b=pr o->b∉ex->∃o',h'.get? b=pr o'
 tups:∀b xs,H b=pr (.tup xs)->H' b=pr (.tup xs)
 frzs:∀b o u,H b=pr (.frz o u)->H' b=pr (.frz o u)
 tbls:∀b ps,H b=pr (.tbl ps)->∃more,H' b=pr (.tbl (ps++more))
section
variable {fs fs' ex ex' : List sK} {H H1 H2 : Hp} {h h1 h2 h' : Rs} {a x e : sK} {o : HO}
theorem Un.any(u:Un fs ex H H1 h h1){J:Obj}(q:h.get? b=pr J)(n:H b=qh)(hx:b∉ex):∃sl,h1.get? b=pr {J with slots:=sl}:=by by_cases hb:b∈fs;exact u.slot b J q n hb hx;exact#[J.slots,u.keep b J q n hb hx]
theorem Un.kept(k:∀b u,h.get? b=pr u->h'.get? b=pr u):Un fs ex H H h h':=
 #[λb J q _ _ _=>k b J q,λb J q _ _ _=>#[J.slots,k b J q],λ_ _ _ n _=>n,λb J q _=>#[J,k b J q],λ_ _ q=>q,λ_ _ _ q=>q,λ_ ps q=>#[#v[],by rw[q];simp]]
theorem Un.refl:Un fs ex H H h h:=Un.kept λ_ _ q=>q
theorem Un.laid(k:∀b u,h.get? b=pr u->h'.get? b=pr u)(hp:h.objs.size<=a)(hn:H a=qh):Un fs ex H (upd H a o) h h' where
 keep:=λb u q _ _ _=>k b u q
 slot:=λb u q _ _ _=>#[u.slots,k b u q]
 free:=λb u q n _=>by rw[aZ (Ix (Gc (Heap.lt_size q) hp))];exact n
 there:=λb u q _=>#[u,k b u q]
 tups:=λb xs q=>by rw[aZ (gf q hn)];exact q
 frzs:=λb u xs q=>by rw[aZ (gf q hn)];exact q
 tbls:=λb ps q=>#[#v[],by rw[aZ (gf q hn),q];simp]
theorem Un.write(Y:Mut (H x))(he:e=x\/H e=pr (.own x))(k:∀b u,b≠e->h.get? b=pr u->h'.get? b=pr u)(ab:∃u,h'.get? e=pr u):Un fs ex H (upd H x o) h h':=by
 have hx:∀b,H b=qh->b≠x:=λb n z=>by subst z;rw[n] at Y;exact Y
 have hb:∀b,H b=qh->b≠e:=λb n z=>by
  subst z;rcases he with r | r
  exact hx b n r;rw[n] at r;cases r
 have hm:∀b u,H b=pr u->¬Mut (pr u)->b≠x:=λb u q nm z=>by subst z;rw[q] at Y;exact nm Y
 refine#[λb u q n _ _=>k b u (hb b n) q,λb u q n _ _=>#[u.slots,k b u (hb b n) q],λb u q n _=>by rw[aZ (hx b n)];exact n,λb u q _=> ?_,
  λb xs q=>by rw[aZ (hm b _ q λz=>z)];exact q,λb u xs q=>by rw[aZ (hm b _ q λz=>z)];exact q,λb ps q=>#[#v[],by rw[aZ (hm b _ q λz=>z),q];simp]]
 by_cases J:b=e;subst J;exact ab;exact#[u,k b u J q]
end
def trk(h:Rs)(H:Hp):List Addr:=(wh h.objs.size).filter λa=>(H a).isSome
def sC(h:Rs)(H:Hp):Heap:=PySem.W.hideAll h (trk h H)
theorem IL:(sC h H).objs.size=h.objs.size:=PySem.W.hideAll_size _ _
theorem Le(e:h.get? b=pr o)(n:H b=qh):(sC h H).get? b=pr o:=
 PySem.W.hideAll_get _ e λhm=>by have q:(H b).isSome=true:=(EQ.mp hm).2;rw[n] at q;simp at q
theorem OD(e:(sC h H).get? b=pr o):h.get? b=pr o/\H b=none:=by
 have e':h.get? b=pr o:=PySem.W.of_hideAll (trk h H) e;refine#[e', ?_];cases q:H b with
 | none=>rfl
 | some x=>
  have hm:b∈trk h H:=EQ.mpr #[SA.mpr (Heap.lt_size e'),by simp[q]];have z:(sC h H).get? b=none:=PySem.W.hideAll_none (trk h H) hm;rw[z] at e;cases e
def Ow(g h:Rs)(L:sK):List (sK×Obj):=(wh h.objs.size).filterMap λa=>if a=L\/(g.get? a).isSome=ss then qh else (h.get? a).map λo=>(a,o)
def rest(g h:Rs)(L d:sK):List (sK×Obj):=(Ow g h L).filter λp=>decide (p.1≠d)
structure Mod(K:uY)(mg:Str->Option sn)(base:Rs):Prop where
 kin:K.In base
 glob:base.Ns mainGlobals mg
 blt:∃mb,base.Ns builtinsNs mb/\∀x:Str,x≠"__name__" ->mb x=bootBuiltins x
 nolimit:base.NoLimit
 seer:base.NoSeer
structure Cx where
 prog:FS
 w:IN
 K:uY
 mg:Str->Option sn
 base:Rs
 A:SN
 N:List Str
 s₀:vr
 H₀:Hp
 env:Env
 outer:List Env
 stack:List Env
 ex:List sK
 fn:Str->Bool
 calm:Bool
 pn:List (sK×Obj)
 xe:sn->vr->Prop
def frs(l:List Env):List Addr:=l.filterMap (·.frame)
abbrev Cx.fs(X:Cx):List Addr:=frs X.outer
def Vis(sc:Ua)(x:Str):Prop:=sc.names.lookup x=pr .local\/sc.names.lookup x=pr .cell\/sc.names.lookup x=pr .free
def Loc(sc:Ua)(x:Str):Prop:=sc.names.lookup x=pr .local\/sc.names.lookup x=pr .cell
def Look(env:Env)(h:Rs)(m:Str->Option sn)(x:Str)(u:sn):Prop:=
 (env.kindOf x=pr .local/\m x=pr u)\/((env.kindOf x=pr .cell\/env.kindOf x=pr .free)/\∃c,env.cells.lookup x=pr c/\h.IsCell c (pr u))
structure Cx.Ok(X:Cx):Prop where
 mod:Mod X.K X.mg X.base
 kind:X.env.scope.kind=.function
 glob:X.env.globals=mainGlobals
 blt:X.env.builtins=builtinsNs
 above:X.s₀.heap.objs.size<=X.env.locals
 inj:∀x y c,X.env.cells.lookup x=pr c->X.env.cells.lookup y=pr c->x=y
 has:∀x,(X.env.kindOf x=pr .cell\/X.env.kindOf x=pr .free)->∃c,X.env.cells.lookup x=pr c
 cab:∀x c,X.fn x=ss->X.env.cells.lookup x=pr c->X.s₀.heap.objs.size<=c
 hd:X.calm=ss->X.A.handled=qh
 frames:X.A.frames=pr X.stack
 stk:X.stack=X.outer\/(X.stack=X.env::X.outer/\X.env.frame=pr X.env.locals)
 exf:∀b∈X.ex,b≠X.env.locals/\∀x c,X.env.cells.lookup x=pr c->c≠b
 bs:∀b o,X.base.get? b=pr o->X.s₀.heap.get? b=pr o/\X.H₀ b=qh
 bsz:X.base.objs.size<=X.s₀.heap.objs.size
 noex:∀b o,X.base.get? b=pr o->b∉X.ex
 exfs:∀b∈X.ex,b∉X.fs
 funs:X.s₀.heap.FunFrames X.base X.outer
 frf:∀b∈X.fs,X.H₀ b=qh
structure Inv(X:Cx)(pins:List (sK×Obj))(σ:List (Option V))(H:Hp)(s:vr):Prop where
 ok:X.Ok
 os:s.os=X.s₀.os
 bare:UU s.gens
 base:Un X.fs X.ex X.H₀ H X.s₀.heap s.heap
 loc:∃m,s.heap.Ns X.env.locals m/\∀(i:Nat) (x:Str) (v:V),X.N[i]? =pr x->σ[i]? =pr (pr v)->Vis X.env.scope x->∃u,RelV v u/\Look X.env s.heap m x u
 cell:∀x c,X.env.cells.lookup x=pr c->∃v,s.heap.IsCell c v
 free:H X.env.locals=qh
 freeC:∀x c,X.env.cells.lookup x=pr c->H c=qh
 pin:∀p∈X.pn++pins,s.heap.get? p.1=pr p.2/\H p.1=qh/\p.1≠X.env.locals/\p.1∉X.fs/\∀v,p.2.data≠ .cell v
 hok:HOk X.prog X.w H s.heap
 len:σ.length=X.N.length
section
variable {X : Cx} {pins : List (sK × Obj)} {σ : List (Option V)} {H H' : Hp} {s : vr} {h' : Rs}
theorem Cx.Ok.nofr(ok:X.Ok)(e:X.base.get? b=pr o):b∉X.fs:=λhb=>by have:=(ok.funs.mem hb).1;rw[e] at this;cases this
theorem Inv.bs(I:Inv X pins σ H s):∀b o,X.base.get? b=pr o->s.heap.get? b=pr o/\H b=none:=λb o e=>
 #[I.base.keep b o (I.ok.bs b o e).1 (I.ok.bs b o e).2 (I.ok.nofr e) (I.ok.noex b o e),I.base.free b o (I.ok.bs b o e).1 (I.ok.bs b o e).2 (I.ok.noex b o e)]
theorem Inv.bk(I:Inv X pins σ H s):∀b o,X.base.get? b=pr o->s.heap.get? b=pr o:=λb o e=>(I.bs b o e).1
theorem Inv.mod(I:Inv X pins σ H s):Mod X.K X.mg X.base:=I.ok.mod
theorem Inv.kIn(I:Inv X pins σ H s):X.K.In s.heap:=I.ok.mod.kin.keeps I.bk
theorem Inv.nolimit(I:Inv X pins σ H s):s.heap.NoLimit:=I.ok.mod.nolimit.keeps I.bk
theorem Inv.noseer(I:Inv X pins σ H s):s.heap.NoSeer:=I.ok.mod.seer.keeps I.bk
theorem Inv.lt(I:Inv X pins σ H s):X.env.locals<s.heap.objs.size:=let #[_,hn,_]:=I.loc;hn.lt
theorem Inv.sz(I:Inv X pins σ H s):X.s₀.heap.objs.size<=s.heap.objs.size:=SE I.ok.above (T6 I.lt)
theorem Inv.nofs(I:Inv X pins σ H s)(h:s.heap.objs.size<=a):a∉X.fs:=λhb=>by obtain⟨_,o,J,_⟩:=I.ok.funs.mem hb;exact absurd (Gc (Heap.lt_size J) (SE I.sz h)) (Tu _)
theorem Inv.cne(I:Inv X pins σ H s):∀x c,X.env.cells.lookup x=pr c->c≠X.env.locals:=λx c e z=>by obtain⟨v,o,ho,hd⟩:=I.cell x c e;obtain⟨m,⟨o',es,ep,J,Y,_⟩,_⟩:=I.loc;rw[z,J] at ho;cases ho;rw[Y] at hd;cases hd
theorem Inv.funs(I:Inv X pins σ H s):s.heap.FunFrames X.base X.outer:=by
 have all:∀(l:List Env),(∀b∈frs l,b∈X.fs)->X.s₀.heap.FunFrames X.base l->s.heap.FunFrames X.base l:=by
  intro l;induction l with
  | nil=>intro _ _;trivial
  | cons env r ih=>
   intro hs hl;obtain⟨hk,⟨L,o,J,hn,ho,hd⟩,hr⟩:=hl;have Y:L∈X.fs:=hs L (by unfold frs;rw[Tx,J];exact wp);obtain⟨sl,e⟩:=I.base.slot L o ho (I.ok.frf L Y) Y λz=>I.ok.exfs L z Y;exact#[hk,#[L,_,J,hn,e,hd],ih (λb hb=>hs b (by unfold frs;rw[Tx,J];exact wf _ hb)) hr]
 exact all X.outer (λ_ hb=>hb) I.ok.funs
theorem Inv.stack(I:Inv X pins σ H s):s.heap.FunFrames X.base X.stack:=by rcases I.ok.stk with e | ⟨e,J⟩;rw[e];exact I.funs;rw[e];obtain⟨m,hn,_⟩:=I.loc;refine .cons (by rw[I.ok.kind];decide) J hn ?_ I.funs;exact Heap.get?_none_of_le (SE I.ok.bsz I.ok.above)
theorem Inv.stkSub(I:Inv X pins σ H s):∀b∈frs X.stack,b∈X.env.locals::X.fs:=λb hb=>by rcases I.ok.stk with e | ⟨e,J⟩;rw[e] at hb;exact wf _ hb;rw[e] at hb;unfold frs at hb;rw[Tx,J] at hb;exact hb
theorem Inv.stkFree(I:Inv X pins σ H s):∀b∈frs X.stack,H b=none:=λb hb=>by rcases wE.mp (I.stkSub b hb) with e | hb;rw[e];exact I.free;obtain⟨_,o,J,_⟩:=I.ok.funs.mem hb;exact I.base.free b o J (I.ok.frf b hb) λz=>I.ok.exfs b z hb
theorem Inv.step {g':Array W8} {t':Nat} {d':Drawn} {ch:List sK} (I:Inv X pins σ H s)
 (J:∀b∈ch,(b∈X.ex\/X.s₀.heap.objs.size<=b)/\b≠X.env.locals/\(∀x c,X.env.cells.lookup x=pr c->c≠b)/\∀p∈X.pn++pins,p.1≠b)
 (keep:∀b o,b≠X.env.locals->b∉X.fs->b∉ch->s.heap.get? b=pr o->H b=qh->h'.get? b=pr o)
 (slot:∀b o,b≠X.env.locals->b∈X.fs->b∉ch->s.heap.get? b=pr o->H b=qh->∃sl,h'.get? b=pr {o with slots:=sl}) (free:∀b o,b∉ch->s.heap.get? b=pr o->H b=qh->H' b=qh)
 (there:∀b o,b∉ch->s.heap.get? b=pr o->∃o',h'.get? b=pr o')
 (tups:∀b xs,H b=pr (.tup xs)->H' b=pr (.tup xs)) (frzs:∀b o u,H b=pr (.frz o u)->H' b=pr (.frz o u)) (tbls:∀b ps,H b=pr (.tbl ps)->∃more,H' b=pr (.tbl (ps++more)))
 (ns:∀m,s.heap.Ns X.env.locals m->h'.Ns X.env.locals m) (ap:HOk X.prog X.w H' h') (hg:UU g'):
 Inv X pins σ H' {s with heap:=h',gens:=g',drawn:=d',toks:=t'}:=by
 have an:∀b o,X.s₀.heap.get? b=pr o->b≠X.env.locals:=λb o e=>Ix (Gc (Heap.lt_size e) I.ok.above);have ac:∀b o,X.s₀.heap.get? b=pr o->b∉X.ex->b∉ch:=λb o e hx hb=>by rcases(J b hb).1 with z | z;exact hx z;exact absurd (Gc (Heap.lt_size e) z) (Tu _)
 have Y:∀x c,X.env.cells.lookup x=pr c->∀v,s.heap.IsCell c v->h'.IsCell c v:=λx c e v #[o,ho,hd]=>by have ab:c∉ch:=λz=>(J c z).2.2.1 x c e rfl;by_cases hc:c∈X.fs;obtain⟨sl,q⟩:=slot c o (I.cne x c e) hc ab ho (I.freeC x c e);exact#[_,q,hd];exact#[o,keep c o (I.cne x c e) hc ab ho (I.freeC x c e),hd]
 refine#[I.ok,I.os,hg,#[λb o e n hb hx=> ?_,λb o e n hb hx=> ?_,λb o e n hx=> ?_,λb o e hx=> ?_,λb xs e=>tups b xs (I.base.tups b xs e),λb o xs e=>frzs b o xs (I.base.frzs b o xs e),λb ps e=> ?_], ?_,λx c e=> ?_, ?_,λx c e=> ?_,λp hp=> ?_,ap,I.len];exact keep b o (an b o e) hb (ac b o e hx) (I.base.keep b o e n hb hx) (I.base.free b o e n hx);obtain⟨sl,e1⟩:=I.base.slot b o e n hb hx;obtain⟨as,e2⟩:=slot b _ (an b o e) hb (ac b o e hx) e1 (I.base.free b o e n hx);exact#[as,e2];obtain⟨o',e1⟩:=I.base.there b o e hx;exact free b o' (ac b o e hx) e1 (I.base.free b o e n hx);obtain⟨o',e1⟩:=I.base.there b o e hx;exact there b o' (ac b o e hx) e1;obtain⟨m1,e1⟩:=I.base.tbls b ps e;obtain⟨m2,e2⟩:=tbls b _ e1;exact#[m1++m2,by rw[e2,Array.append_assoc]];obtain⟨m,hn,hl⟩:=I.loc;refine#[m,ns m hn,λi x v e1 e2 e3=> ?_];obtain⟨u,r,l⟩:=hl i x v e1 e2 e3;refine#[u,r, ?_];rcases l with l | ⟨k,c,e,z⟩
 exact .inl l;exact .inr #[k,c,e,Y x c e _ z];obtain⟨v,z⟩:=I.cell x c e;exact#[v,Y x c e v z];obtain⟨m,⟨o,_,_,ho,_⟩,_⟩:=I.loc;exact free _ o (λz=>(J _ z).2.1 rfl) ho I.free;obtain⟨v,o,ho,hd⟩:=I.cell x c e;exact free c o (λz=>(J c z).2.2.1 x c e rfl) ho (I.freeC x c e);obtain⟨e,n,ne,nf,d⟩:=I.pin p hp;have ab:p.1∉ch:=λz=>(J p.1 z).2.2.2 p hp rfl;exact#[keep p.1 p.2 ne nf ab e n,free p.1 p.2 ab e n,ne,nf,d]
theorem Inv.un(I:Inv X pins σ H s)(u:Un X.fs [] H H' s.heap h')(Y:HOk X.prog X.w H' h'):Inv X pins σ H' {s with heap:=h',toks:=t'}:=by
 obtain⟨m,⟨o,es,ep,ho,r⟩,_⟩:=id I.loc;obtain⟨sl,hL⟩:=u.any ho I.free (by simp);exact I.step (g':=s.gens) (d':=s.drawn) (ch:=[]) (λ_ z=>nomatch z) (λb o _ hb _ e n=>u.keep b o e n hb (by simp)) (λb o _ hb _ e n=>u.slot b o e n hb (by simp)) (λb o _ e n=>u.free b o e n (by simp)) (λb o _ e=>u.there b o e (by simp)) u.tups u.frzs u.tbls (λm' hm=>by obtain⟨o',ab,ac,J,r'⟩:=hm;rw[ho] at J;cases J;exact#[_,ab,ac,hL,r']) Y I.bare
theorem Inv.call {g':Array W8} {t':Nat} {d':Drawn} (I:Inv X pins σ H s) (u:Un (frs X.stack) ch H H' s.heap h') (ab:HOk X.prog X.w H' h') (hg:UU g')
 (J:∀b∈ch,(b∈X.ex\/X.s₀.heap.objs.size<=b)/\b≠X.env.locals/\(∀x c,X.env.cells.lookup x=pr c->c≠b)/\∀p∈X.pn++pins,p.1≠b):
 Inv X pins σ H' {s with heap:=h',gens:=g',drawn:=d',toks:=t'}:=by
 obtain⟨m,⟨o,es,ep,ho,r⟩,_⟩:=id I.loc;obtain⟨sl,hL⟩:=u.any ho I.free λz=>(J _ z).2.1 rfl;exact I.step (ch:=ch) J (λb o hL hb hc e n=>u.keep b o e n (λz=>(wE.mp (I.stkSub b z)).elim hL hb) hc) (λb o _ _ hc e n=>u.any e n hc) (λb o hc e n=>u.free b o e n hc) (λb o hc e=>u.there b o e hc) u.tups u.frzs u.tbls (λm' hm=>by obtain⟨o',am,an,Y,r'⟩:=hm;rw[ho] at Y;cases Y;exact#[_,am,an,hL,r']) ab hg
theorem Inv.turned {t':Nat} (I:Inv X pins σ H s) (k:∀b o,b≠it->s.heap.get? b=pr o->h'.get? b=pr o) (hn:H it=qh) (Y:it≠X.env.locals)
 (h1:it∈X.ex\/X.s₀.heap.objs.size<=it) (h2:∀x c,X.env.cells.lookup x=pr c->c≠it) (h3:∀p∈X.pn++pins,p.1≠it):Inv X pins σ H {s with heap:=h',toks:=t'}:=by
 have J:∀b u,H b=pr u->b≠it:=λb u e z=>by rw[z,hn] at e;cases e
 refine I.step (g':=s.gens) (d':=s.drawn) (ch:=[it]) (λb hb=> ?_) (λb o _ _ hc e _=>k b o (λz=>hc (by simp[z])) e) (λb o _ _ hc e _=>#[o.slots,k b o (λz=>hc (by simp[z])) e]) (λ_ _ _ _ n=>n)
  (λb o hc e=>#[o,k b o (λz=>hc (by simp[z])) e]) (λ_ _ e=>e) (λ_ _ _ e=>e) (λb ps e=>#[#v[],by rw[e];simp]) (λm hm=> ?_) (λb u e=> ?_) I.bare
 have e:b=it:=by simpa using hb
 subst e;exact#[h1,Y,h2,h3];obtain⟨o,es,ep,ho,r⟩:=hm;exact#[o,es,ep,k _ o (Ux Y) ho,r];refine(I.hok b u e).stay (λc v hc q=>k c v ?_ q) (λ_ q=>q) λ_ _ q=>q;rcases hc with z | z
 rw[z];exact J b u e;exact J c _ z
theorem Inv.tok(I:Inv X pins σ H s)(t:Nat):Inv X pins σ H {s with toks:=t}:=I.un (h':=s.heap) (t':=t) Un.refl I.hok
theorem Inv.kept(I:Inv X pins σ H s)(k:∀b u,s.heap.get? b=pr u->h'.get? b=pr u):Inv X pins σ H {s with heap:=h',toks:=t'}:=I.un (Un.kept k) (I.hok.kept k)
theorem Inv.laid{o:HO}{t':Nat}(I:Inv X pins σ H s)(k:∀b u,s.heap.get? b=pr u->h'.get? b=pr u)(hp:s.heap.objs.size<=a)(J:iV X.prog X.w (upd H a o) h' a o):
 Inv X pins σ (upd H a o) {s with heap:=h',toks:=t'}:=I.un (Un.laid k hp (I.hok.fresh hp)) (I.hok.laid k hp J)
theorem Inv.write {x e:sK} {o:HO} {t':Nat} (I:Inv X pins σ H s) (mu:Mut (H x)) (he:e=x\/H e=pr (.own x)) (k:∀b u,b≠e->s.heap.get? b=pr u->h'.get? b=pr u) (J:∃u,h'.get? e=pr u)
 (Y:iV X.prog X.w (upd H x o) h' x o):Inv X pins σ (upd H x o) {s with heap:=h',toks:=t'}:=I.un (Un.write mu he k J) (I.hok.write mu he k J Y)
theorem Inv.pins_of{J:List (sK×Obj)}(I:Inv X pins σ H s)(h:∀p∈J,s.heap.get? p.1=pr p.2/\H p.1=qh/\p.1≠X.env.locals/\p.1∉X.fs/\∀v,p.2.data≠ .cell v):Inv X J σ H s:=
 #[I.ok,I.os,I.bare,I.base,I.loc,I.cell,I.free,I.freeC,λp hp=>(xz.mp hp).elim (λz=>I.pin p (Td _ z)) (h p),I.hok,I.len]
theorem Dp{N:List Str}(J:N.Nodup){i j:Nat}(a:N[i]? =pr x)(b:N[j]? =pr x):i=j:=by obtain⟨h1,e1⟩:=Ch.mp a;obtain⟨h2,e2⟩:=Ch.mp b;exact(Xa J).mp (e1.trans e2.symm)
theorem Ci {M:Model} {A:SN} {E:sn->vr->Prop} {Q:Unit->vr->Prop} (I:Inv X pins σ H s) (hN:X.N.Nodup) (hi:X.N[i]? =pr x) (hx:Loc X.env.scope x) (r:RelV v u)
 (h:∀s',Inv X pins (σ.set i (pr v)) H s'->(∃a,Heap.SameBut a s.heap s'.heap/\(a=X.env.locals\/X.env.cells.lookup x=pr a))->Q () s') (hf:X.fn x=ss\/X.env.scope.names.lookup x=pr .local:=by first | exact .inl rfl | exact .inr rfl | assumption):wpAny M A (storeName X.env x u) Q E s:=by
 obtain⟨m,hn,hl⟩:=id I.loc;have an:(X.env.scope.kind == .class||(X.env.scope.kind == .module&&X.env.locals != X.env.globals))=false:=by rw[I.ok.kind];rfl
 have ab:i<σ.length:=by rw[I.len];exact(Ch.mp hi).1
 have cne:=I.cne;have J:∀{a:sK} {h':Rs},(∃o,s.heap.get? a=pr o/\H a=qh)->Heap.SameBut a s.heap h'->HOk X.prog X.w H h':=λ{a h'} ha hs b ob e=>by
  obtain⟨_,_,Y⟩:=ha;refine(I.hok b ob e).stay (λc w' hc q=>(hs.2 c ?_).trans q) (λ_ q=>q) λ_ _ q=>q;rintro rfl;rcases hc with rfl | hc
  rw[Y] at e;cases e;rw[Y] at hc;cases hc
 rcases hx with hk | hk;refine wpAny_storeName_local hk hn (λh' a4 hs=> ?_) an;obtain⟨oL,_,_,a5,_⟩:=id hn;refine h _ #[I.ok,I.os,I.bare,#[λb o e n hb hx=> ?_,λb o e n hb hx=> ?_,I.base.free,λb o e hx=> ?_,I.base.tups,I.base.frzs,I.base.tbls],#[_,a4,λj y v' e1 e2 e3=> ?_],λy c e=> ?_,I.free,I.freeC,λp hp=> ?_,J #[oL,a5,I.free] hs,by simpa using I.len] #[_,hs,.inl rfl];exact(hs.2 b (Ix (Gc (Heap.lt_size e) I.ok.above))).trans (I.base.keep b o e n hb hx);obtain⟨sl,e1⟩:=I.base.slot b o e n hb hx;exact#[sl,(hs.2 b (Ix (Gc (Heap.lt_size e) I.ok.above))).trans e1];obtain⟨o',e1⟩:=I.base.there b o e hx;exact#[o',(hs.2 b (Ix (Gc (Heap.lt_size e) I.ok.above))).trans e1];by_cases hj:j=i;subst hj;rw[hi] at e1;cases e1;rw[S6 ab] at e2;cases e2;exact#[u,r,.inl #[hk,by simp]];rw[Tc (Ux hj)] at e2;obtain⟨u',r',q⟩:=hl j y v' e1 e2 e3;refine#[u',r', ?_];rcases q with⟨k,e⟩ | ⟨k,c,e,z⟩;refine .inl #[k, ?_];have:y≠x:=λe=>hj (Dp hN e1 (e▸hi))
 simp[this,e];exact .inr #[k,c,e,z.sameBut hs (cne y c e)];obtain⟨w',z⟩:=I.cell y c e;exact#[w',z.sameBut hs (cne y c e)];obtain⟨e,n,ne,nf,d⟩:=I.pin p hp;exact#[(hs.2 p.1 ne).trans e,n,ne,nf,d];have am:X.fn x=true:=by rcases hf with z | z;exact z;rw[z] at hk;cases hk
 obtain⟨c,hc⟩:=I.ok.has x (.inl hk);obtain⟨w',z⟩:=I.cell x c hc;refine wpAny_storeName_cell I.ok.kind hk hc z (λh' ap hs=> ?_);obtain⟨oc,as,az⟩:=id z;refine h {s with heap:=h'} #[I.ok,I.os,I.bare,#[λb o e n hb hx=> ?_,λb o e n hb hx=> ?_,I.base.free,λb o e hx=> ?_,I.base.tups,I.base.frzs,I.base.tbls],#[m,hn.sameBut hs (Ux (cne x c hc)),λj y v' e1 e2 e3=> ?_],λy c' e=> ?_,I.free,I.freeC,λp hp=> ?_,J #[oc,as,I.freeC x c hc] hs,by simpa using I.len] #[c,hs,.inr hc];exact(hs.2 b (Ix (Gc (Heap.lt_size e) (I.ok.cab x c am hc)))).trans (I.base.keep b o e n hb hx);obtain⟨sl,e1⟩:=I.base.slot b o e n hb hx;exact#[sl,(hs.2 b (Ix (Gc (Heap.lt_size e) (I.ok.cab x c am hc)))).trans e1];obtain⟨o',e1⟩:=I.base.there b o e hx;exact#[o',(hs.2 b (Ix (Gc (Heap.lt_size e) (I.ok.cab x c am hc)))).trans e1];by_cases hj:j=i;subst hj;rw[hi] at e1;cases e1;rw[S6 ab] at e2;cases e2;exact#[u,r,.inr #[.inl hk,c,hc,ap]];rw[Tc (Ux hj)] at e2;obtain⟨u',r',q⟩:=hl j y v' e1 e2 e3;refine#[u',r', ?_];rcases q with q | ⟨k,c',e,z'⟩
 exact .inl q;refine .inr #[k,c',e,z'.sameBut hs ?_];rintro rfl;exact hj (Dp hN e1 (I.ok.inj _ _ _ e hc▸hi));by_cases a1:c'=c;subst a1;exact#[_,ap];obtain⟨w2,z2⟩:=I.cell y c' e;exact#[w2,z2.sameBut hs a1];obtain⟨e,n,ne,nf,d⟩:=I.pin p hp;refine#[(hs.2 p.1 ?_).trans e,n,ne,nf,d];intro q;rw[q,as] at e;have q':oc=p.2:=Tw e;exact d w' (by rw[<- q'];exact az)
theorem EG {M:Model} {A:SN} {E:sn->vr->Prop} {Q:Unit->vr->Prop} (I:Inv X pins σ H s) (J:X.N.Nodup) (hi:X.N[i]? =pr x) (hx:Loc X.env.scope x) (r:RelV v u)
 (h:∀s',Inv X pins (σ.set i (pr v)) H s'->Q () s') (Y:X.fn x=ss\/X.env.scope.names.lookup x=pr .local:=by first | exact .inl rfl | exact .inr rfl | assumption):wpAny M A (storeName X.env x u) Q E s:=
 Ci I J hi hx r (λs' I' _=>h s' I') Y
theorem Inv.call' {s':vr} (I:Inv X pins σ H s) (ho:s'.os=s.os) (u:Un (frs X.stack) ch H H' s.heap s'.heap) (J:HOk X.prog X.w H' s'.heap) (hg:UU s'.gens)
 (Y:∀b∈ch,(b∈X.ex\/X.s₀.heap.objs.size<=b)/\b≠X.env.locals/\(∀x c,X.env.cells.lookup x=pr c->c≠b)/\∀p∈X.pn++pins,p.1≠b):Inv X pins σ H' s':=by
 obtain⟨h',g',d',t',o'⟩:=s';have e:o'=s.os:=ho;subst e;exact I.call (g':=g') (t':=t') (d':=d') u J hg Y
end
abbrev XK:=sn->Option sK->Hp->Prop
abbrev St:=List (Option V)
abbrev VK:=V->Hp->Prop
abbrev TE:=St->Hp->VK->Prop
abbrev TT:=St->Hp->(Bool->Hp->Prop)->Prop
abbrev TA:=St->Hp->(List V->Hp->Prop)->Prop
structure Ends where
 nx:St->Hp->Prop
 rt:VK
 bk:St->Hp->Prop:=λ_ _=>False
 ct:St->Hp->Prop:=λ_ _=>False
abbrev TS:=Ends->St->Hp->Prop
def EP(X:Cx)(pins:List (sK×Obj))(σ:St)(Q:VK)(u:sn)(s':vr):Prop:=∃v H',Inv X pins σ H' s'/\RelV v u/\Q v H'
def TP(X:Cx)(pins:List (sK×Obj))(σ:St)(Q:Bool->Hp->Prop)(b:Bool)(s':vr):Prop:=∃H',Inv X pins σ H' s'/\Q b H'
def AP(X:Cx)(pins:List (sK×Obj))(σ:St)(Q:List V->Hp->Prop)(us:List sn)(s':vr):Prop:=∃vs H',Inv X pins σ H' s'/\Vals vs us/\Q vs H'
def SP(X:Cx)(pins:List (sK×Obj))(D:Ends)(f:Flow)(s':vr):Prop:=
 match f with
 | .next=>∃J H',Inv X pins J H' s'/\D.nx J H'
 | .brk=>∃J H',Inv X pins J H' s'/\D.bk J H'
 | .cont=>∃J H',Inv X pins J H' s'/\D.ct J H'
 | .ret u=>∃v J H',Inv X pins J H' s'/\RelV v u/\D.rt v H'
def PE(X:Cx)(e:KE)(t:TE):Prop:=
 ∀(pins:List (sK×Obj)) (s:vr) (σ:St) (H:Hp) (Q:VK),Inv X pins σ H s->t σ H Q->wpAny (model X.prog X.w) X.A (eval e X.env) (EP X pins σ Q) X.xe s
def PT(X:Cx)(e:KE)(t:TT):Prop:=
 ∀(pins:List (sK×Obj)) (s:vr) (σ:St) (H:Hp) (Q:Bool->Hp->Prop),Inv X pins σ H s->t σ H Q->wpAny (model X.prog X.w) X.A (isTrue e X.env (eval e X.env)) (TP X pins σ Q) X.xe s
def PW(X:Cx)(e:KE)(t:TT):Prop:=
 ∀(J:Sem sn) (pins:List (sK×Obj)) (s:vr) (σ:St) (H:Hp) (Q:Bool->Hp->Prop),Inv X pins σ H s->t σ H Q->wpAny (model X.prog X.w) X.A (isTrue e X.env J) (TP X pins σ Q) X.xe s
theorem PW.pt{t:TT}(h:PW X e t):PT X e t:=h _
def PA(X:Cx)(es:List KE)(t:TA):Prop:=
 ∀(pos:Pos) (pins:List (sK×Obj)) (s:vr) (σ:St) (H:Hp) (Q:List V->Hp->Prop),Inv X pins σ H s->t σ H Q->wpAny (model X.prog X.w) X.A (spliced (backTo pos (starEach es X.env))) (AP X pins σ Q) X.xe s
def PS(X:Cx)(st:Uy)(t:TS):Prop:=
 ∀(pins:List (sK×Obj)) (s:vr) (σ:St) (H:Hp) (D:Ends),Inv X pins σ H s->t D σ H->wpAny (model X.prog X.w) X.A (exec st X.env) (SP X pins D) X.xe s
def PSs(X:Cx)(st:List Uy)(t:TS):Prop:=
 ∀(pins:List (sK×Obj)) (s:vr) (σ:St) (H:Hp) (D:Ends),Inv X pins σ H s->t D σ H->wpAny (model X.prog X.w) X.A (execs st X.env) (SP X pins D) X.xe s
theorem thn{α:Type}{t:Sem α}{Q J:α->vr->Prop}(h:wpAny M A t Q E s)(Y:∀a s,Q a s->J a s):wpAny M A t J E s:=T3 h Y λ_ _ x=>x
section
variable {X : Cx}
theorem bin {a b:KE} {ta tb:TE} (ha:PE X a ta) (hb:PE X b tb) {R:V->V->Hp->Prop} (I:Inv X pins σ H s) (h:ta σ H λx H1=>tb σ H1 λy H2=>R x y H2)
 {α:Type} {Q:α->vr->Prop} {f:sn->sn->Sem α}
 (hf:∀v u s2 x y H2,Inv X pins σ H2 s2->RelV x v->RelV y u->R x y H2->wpAny (model X.prog X.w) X.A (f v u) Q X.xe s2):
 wpAny (model X.prog X.w) X.A (eval a X.env) (λv J=>wpAny (model X.prog X.w) X.A (eval b X.env) (λu Y=>wpAny (model X.prog X.w) X.A (f v u) Q X.xe Y) X.xe J) X.xe s:=by
 refine thn (ha pins s σ H _ I h) λv s1 #[x,H1,I1,r1,q1]=> ?_;refine thn (hb pins s1 σ H1 _ I1 q1) λu s2 #[y,H2,I2,r2,q2]=> ?_;exact hf v u s2 x y H2 I2 r1 r2 q2
def KA(i:Nat):TE:=λσ H Q=>∃v,σ[i]? =pr (pr v)/\Q v H
def tC(v:V):TE:=λ_ H Q=>Q v H
theorem Qa(hN:X.N[i]? =pr x)(hv:Vis X.env.scope x)(hd:(x == ("__debug__" :Str))=false:=by decide)(ab:(x == ("__classdict__" :Str))=false:=by decide):PE X (.Name x pos) (KA i):=by
 intro pins s σ H Q I h;obtain⟨v,e,h⟩:=h;obtain⟨m,hn,hl⟩:=I.loc;obtain⟨u,r,l⟩:=hl i x v hN e hv;have Y:EP X pins σ Q u s:=#[v,H,I,r,h];rcases l with⟨hk,hm⟩ | ⟨hk,c,hc,J⟩
 exact Xg (wpAny_loadName_local I.ok.kind hk hn hm Y) hd;rcases hk with hk | hk
 exact Xg (wpAny_loadName_cell I.ok.kind hk hc J Y) hd;exact Xg (wpAny_loadName_free I.ok.kind hk hc J Y ab) hd
theorem aF{i j pos}:PE X (.Constant (.int i) j pos) (tC (.int i)):=λ_ _ _ H _ I h=>wpAny_Constant_int #[.int i,H,I.tok _,#[_,rfl],h]
theorem qP{b j pos}:PE X (.Constant (.bool b) j pos) (tC (.bl b)):=λ_ _ _ H _ I h=>Constant_bool #[.bl b,H,I,rfl,h]
theorem tm{j pos}:PE X (.Constant .none j pos) (tC .non):=λ_ _ _ H _ I h=>Constant_none #[.non,H,I,rfl,h]
theorem qK{x j pos}:PE X (.Constant (.str x) j pos) (tC (.str x)):=λ_ _ _ H _ I h=>Calls.Constant_str #[.str x,H,I.tok _,#[_,rfl],h]
def Gl(X:Cx)(x:Str):Prop:=X.env.kindOf x=pr .globalImplicit
theorem Bk {E:sn->vr->Prop} {pos:Pos} (I:Inv X pins σ H s) (J:Gl X x) (hm:X.mg x=pr u) (h:Q u s)
 (hd:(x == ("__debug__" :Str))=false:=by decide):wpAny (model X.prog X.w) X.A (eval (.Name x pos) X.env) Q E s:=
 Calls.Name_function_global I.ok.kind J (Calls.loadGlobal_global (by rw[I.ok.glob];exact I.mod.glob.keeps I.bk) hm h) hd
theorem sP {E:sn->vr->Prop} {pos:Pos} (I:Inv X pins σ H s) (J:Gl X x) (hm:X.mg x=qh) (Y:bootBuiltins x=pr u) (h:Q u s)
 (hn:x≠"__name__" :=by decide) (hd:(x == ("__debug__" :Str))=false:=by decide):wpAny (model X.prog X.w) X.A (eval (.Name x pos) X.env) Q E s:=by
 obtain⟨mb,h1,h2⟩:=I.mod.blt;exact Calls.Name_function_global I.ok.kind J (Calls.loadGlobal_builtin (by rw[I.ok.glob];exact I.mod.glob.keeps I.bk) hm (by rw[I.ok.blt];exact h1.keeps I.bk) ((h2 x hn).trans Y) h) hd
theorem AJ(J:Gl X x)(hm:X.mg x=pr u)(r:RelV v u)(hd:(x == ("__debug__" :Str))=false:=by decide):PE X (.Name x pos) (tC v):=
 λ_ _ _ H _ I h=>Bk I J hm #[v,H,I,r,h] hd
theorem GH(J:Gl X x)(hm:X.mg x=qh)(Y:bootBuiltins x=pr u)(r:RelV v u)(hn:x≠"__name__" :=by decide)(hd:(x == ("__debug__" :Str))=false:=by decide):PE X (.Name x pos) (tC v):=
 λ_ _ _ H _ I h=>sP I J hm Y #[v,H,I,r,h] hn hd
variable {a b : KE} {ta tb : TE} {pos : Pos}
def PC(X:Cx)(op:CmpOp)(a b:KE)(t:TE):Prop:=
 ∀(pins:List (sK×Obj)) (s:vr) (σ:St) (H:Hp) (Q:VK),Inv X pins σ H s->t σ H Q->
  wpAny (model X.prog X.w) X.A (eval a X.env) (λv J=>wpAny (model X.prog X.w) X.A (eval b X.env) (λu Y=>wpAny (model X.prog X.w) X.A (compareOp op v u) (EP X pins σ Q) X.xe Y) X.xe J) X.xe s
theorem L6{b:KE}(h:op≠ .In)(h2:op≠ .NotIn):behindInMarks op b=false:=by
 have e1:(op == CmpOp.In)=false:=by cases op <;> first | rfl | exact absurd rfl h
 have e2:(op == CmpOp.NotIn)=false:=by cases op <;> first | rfl | exact absurd rfl h2
 cases b <;> simp[behindInMarks,e1,e2]
def tB(t:TE):TT:=λσ H Q=>t σ H λx H1=>∃c,x=.bl c/\Q c H1
theorem Sj(h:PC X op a b t)(h1:behindInMarks op b=false:=by first | exact L6 ∅ ∅ | rfl):PT X (.Compare a [op] [b] pos) (tB t):=by intro pins s σ H Q I J;refine Wi (thn (h pins s σ H _ I J) λv s1 h1=>thn h1 λu s2 h2=>thn h2 λc s3 #[x,H1,I1,r1,q1]=> ?_) h1;obtain⟨d,rfl,q⟩:=q1;cases r1;exact SQ #[H1,I1,q]
theorem i6(h:PE X e t)(Y:∀J,isTrue e X.env J=(do let v <- J;standAt e.pos;holding [v] (truthy v)):=by intro _;rfl):PT X e (tB t):=by intro pins s σ H Q I hw;refine isTrue_plain (thn (h pins s σ H _ I hw) λv s1 #[x,H1,I1,r1,q1]=> ?_) (Y _);obtain⟨d,rfl,q⟩:=q1;cases r1;exact SQ #[H1,I1,q]
variable {tA tB' : TT} {rest : List KE}
def Pg(t u:TT):TT:=λσ H Q=>t σ H λc H1=>if c=ss then u σ H1 Q else Q xL H1
def tOr(t u:TT):TT:=λσ H Q=>t σ H λc H1=>if c=ss then Q ss H1 else u σ H1 Q
def Qb(t:TT):TT:=λσ H Q=>t σ H λc H1=>Q (!c) H1
theorem pw_and1(ha:PT X a tA):PW X (.BoolOp .And [a] pos) tA:=by
 intro J pins s σ H Q I h;refine isTrue_and (thn (ha pins s σ H Q I h) λc s1 e=> ?_);cases c with
 | true=>exact isTrue_and_nil e
 | false=>exact e
theorem pw_or1(ha:PT X a tA):PW X (.BoolOp .Or [a] pos) tA:=by
 intro J pins s σ H Q I h;refine isTrue_or (thn (ha pins s σ H Q I h) λc s1 e=> ?_);cases c with
 | false=>exact isTrue_or_nil e
 | true=>exact e
theorem pw_and(ha:PT X a tA)(hb:PW X (.BoolOp .And (b::rest) pos) tB'):PW X (.BoolOp .And (a::b::rest) pos) (Pg tA tB'):=by
 intro J pins s σ H Q I h;refine isTrue_and (thn (ha pins s σ H _ I h) λc s1 #[H1,I1,q1]=> ?_);cases c with
 | true=>exact hb J pins s1 σ H1 Q I1 q1
 | false=>exact#[H1,I1,q1]
theorem pw_or(ha:PT X a tA)(hb:PW X (.BoolOp .Or (b::rest) pos) tB'):PW X (.BoolOp .Or (a::b::rest) pos) (tOr tA tB'):=by
 intro J pins s σ H Q I h;refine isTrue_or (thn (ha pins s σ H _ I h) λc s1 #[H1,I1,q1]=> ?_);cases c with
 | true=>exact#[H1,I1,q1]
 | false=>exact hb J pins s1 σ H1 Q I1 q1
theorem qa(ha:PT X a tA):PT X (.UnaryOp .Not a pos) (Qb tA):=by intro pins s σ H Q I h;exact isTrue_not (ha pins s σ H (λc H1=>Q (!c) H1) I h)
def Mx(ta tb:TE):TE:=λσ H Q=>ta σ H λx H1=>∃c,x=.bl c/\if c=ss then tb σ H1 Q else Q (.bl xL) H1
def Pa(ta tb:TE):TE:=λσ H Q=>ta σ H λx H1=>∃c,x=.bl c/\if c=ss then Q (.bl ss) H1 else tb σ H1 Q
def MF(ta:TE):TE:=λσ H Q=>ta σ H λx H1=>∃c,x=.bl c/\Q (.bl (!c)) H1
theorem Ew{op}(h:PE X a t):PE X (.BoolOp op [a] pos) t:=λpins s σ H Q I J=>BoolOp_one (h pins s σ H Q I J)
theorem JB(ha:PE X a ta)(hb:PE X (.BoolOp .And (b::rest) pos) tb):PE X (.BoolOp .And (a::b::rest) pos) (Mx ta tb):=by
 intro pins s σ H Q I h;refine BoolOp_and (thn (ha pins s σ H _ I h) λv s1 #[x,H1,I1,r1,q1]=> ?_);obtain⟨c,rfl,q1⟩:=q1;cases r1;refine SQ ?_;cases c with
 | true=>exact hb pins s1 σ H1 Q I1 q1
 | false=>exact#[.bl xL,H1,I1,rfl,q1]
theorem QS(ha:PE X a ta)(hb:PE X (.BoolOp .Or (b::rest) pos) tb):PE X (.BoolOp .Or (a::b::rest) pos) (Pa ta tb):=by
 intro pins s σ H Q I h;refine BoolOp_or (thn (ha pins s σ H _ I h) λv s1 #[x,H1,I1,r1,q1]=> ?_);obtain⟨c,rfl,q1⟩:=q1;cases r1;refine SQ ?_;cases c with
 | false=>exact hb pins s1 σ H1 Q I1 q1
 | true=>exact#[.bl ss,H1,I1,rfl,q1]
theorem P8(ha:PE X a ta):PE X (.UnaryOp .Not a pos) (MF ta):=by intro pins s σ H Q I h;refine UnaryOp_ (thn (ha pins s σ H _ I h) λv s1 #[x,H1,I1,r1,q1]=> ?_);obtain⟨c,rfl,q1⟩:=q1;cases r1;exact not_of (SQ #[.bl (!c),H1,I1,rfl,q1])
end
def SqL(K:uY)(H:Hp)(a:sK)(xs:List V):Prop:=
 Rd H a (.lst xs)\/
  ∃(o:Obj) (J:Array sn) (n:Nat),K.lookup a=pr o/\o.cls=.type "list" /\o.dict=qh/\o.data=.seq J n/\J.size<=sizeLine/\Vals xs J.toList
def SqT(K:uY)(H:Hp)(a:sK)(xs:List V):Prop:=
 Rd H a (.tup xs)\/
  ∃(o:Obj) (J:Array sn) (n:Nat),K.lookup a=pr o/\o.cls=.type "tuple" /\o.data=.seq J n/\J.size<=sizeLine/\Vals xs J.toList
def Rj:sn->Option V
 | .none=>pr .non
 | .bool b=>pr (.bl b)
 | .int i _=>pr (.int i)
 | .str x _=>pr (.str x)
 | .bytes b _=>pr (.byt b)
 | .float b _=>pr (.flt b)
 | .ref a=>pr (.ref a)
 | .type n=>pr (.ty n)
 | _=>qh
theorem RelV.abs{x:V}(r:RelV x u):Rj u=pr x:=by
 cases x with
 | non=>cases r;rfl
 | bl _=>cases r;rfl
 | int _=>obtain⟨t,rfl⟩:=r;rfl
 | str _=>obtain⟨t,rfl⟩:=r;rfl
 | byt _=>obtain⟨t,rfl⟩:=r;rfl
 | flt _=>obtain⟨t,rfl⟩:=r;rfl
 | ref _=>cases r;rfl
 | ty _=>cases r;rfl
theorem RelV.inj{x y:V}(r:RelV x u)(q:RelV y u):x=y:=Tw (r.abs.symm.trans q.abs)
theorem Vals.inj:∀{xs ys:List V} {us:List sn},Vals xs us->Vals ys us->xs=ys
 | _,_,_,.nil,.nil=>rfl
 | _,_,_,.cons r t,.cons r' t'=>by rw[r.inj r',Vals.inj t t']
section
variable {X : Cx} {pins : List (sK × Obj)} {σ : St} {H : Hp} {s : vr} {a : sK} {xs ys : List V}
theorem SqL.of(h:H a=pr (.lst xs)):SqL K H a xs:=.inl (.inl h)
theorem SqT.of(h:H a=pr (.tup xs)):SqT K H a xs:=.inl (.inl h)
theorem Inv.list(I:Inv X pins σ H s)(h:SqL X.K H a xs):∃J:List sn,Vals xs J/\PlainL s.heap a J.toArray/\xs.length<=sizeLine:=by rcases h with h | ⟨o,J,n,hk,hc,hd,hs,hz,r⟩;obtain⟨z,J,n,r,e⟩:=h.ok I.hok;exact#[J,r,#[_,n,e,rfl,rfl,rfl],z];refine#[J.toList,r,#[o,n,I.kIn a o hk,hc,hd,by simpa using hs], ?_];have e:=r.length;simp only[Vg] at e;omega
theorem Inv.tuple(I:Inv X pins σ H s)(h:SqT X.K H a xs):∃J:List sn,Vals xs J/\IsTup s.heap a J.toArray/\xs.length<=sizeLine:=by rcases h with h | ⟨o,J,n,hk,hc,hs,hz,r⟩;obtain⟨z,J,r,p⟩:=h.ok I.hok;exact#[J,r,p,z];refine#[J.toList,r,#[o,I.kIn a o hk,hc,n,by simpa using hs], ?_];have e:=r.length;simp only[Vg] at e;omega
theorem Inv.list_inj(I:Inv X pins σ H s)(h:SqL X.K H a xs)(h':SqL X.K H a ys):xs=ys:=by
 obtain⟨Y,r,⟨o,n,e,_,_,d⟩,_⟩:=I.list h;obtain⟨J,r',⟨o',n',e',_,_,d'⟩,_⟩:=I.list h';rw[e] at e';cases e';rw[d] at d';injection d' with d1 _
 have:Y=J:=by simpa using congrArg Array.toList d1
 subst this;exact r.inj r'
end
abbrev Cx.wish(X:Cx)(E:sn->vr->Prop):Cx:={X with xe:=E}
abbrev Cx.nox(X:Cx):Cx:=X.wish λ_ _=>False
theorem Cx.Ok.wish(ok:X.Ok)(E:sn->vr->Prop):(X.wish E).Ok:=
 #[ok.mod,ok.kind,ok.glob,ok.blt,ok.above,ok.inj,ok.has,ok.cab,ok.hd,ok.frames,ok.stk,ok.exf,ok.bs,ok.bsz,ok.noex,ok.exfs,ok.funs,ok.frf]
theorem Cx.Ok.unwish(ok:(X.wish E).Ok):X.Ok:=
 #[ok.mod,ok.kind,ok.glob,ok.blt,ok.above,ok.inj,ok.has,ok.cab,ok.hd,ok.frames,ok.stk,ok.exf,ok.bs,ok.bsz,ok.noex,ok.exfs,ok.funs,ok.frf]
section
variable {X : Cx} {pins : List (sK × Obj)} {σ : St} {H : Hp} {s : vr} {E : sn → vr → Prop}
theorem Inv.wish(I:Inv X pins σ H s)(E:sn->vr->Prop):Inv (X.wish E) pins σ H s:=#[I.ok.wish E,I.os,I.bare,I.base,I.loc,I.cell,I.free,I.freeC,I.pin,I.hok,I.len]
theorem Inv.unwish(I:Inv (X.wish E) pins σ H s):Inv X pins σ H s:=#[I.ok.unwish,I.os,I.bare,I.base,I.loc,I.cell,I.free,I.freeC,I.pin,I.hok,I.len]
theorem SP.unwish{D:Ends}{f:Flow}{s':vr}(h:SP (X.wish E) pins D f s'):SP X pins D f s':=by
 cases f with
 | next=>obtain⟨J,H',I,q⟩:=h;exact#[J,H',I.unwish,q]
 | brk=>obtain⟨J,H',I,q⟩:=h;exact#[J,H',I.unwish,q]
 | cont=>obtain⟨J,H',I,q⟩:=h;exact#[J,H',I.unwish,q]
 | ret u=>obtain⟨v,J,H',I,r,q⟩:=h;exact#[v,J,H',I.unwish,r,q]
theorem PSs.nox{st:List Uy}{t:TS}(h:PSs X.nox st t):PSs X st t:=λpins s σ H D I J=>
 T3 (h pins s σ H D (I.wish _) J) (λ_ _ q=>q.unwish) λ_ _ z=>sH z
end
section
variable {X : Cx} {st : Uy} {rest : List Uy} {t u : TS} {e : KE} {te : TE} {pos : Pos}
def MB:TS:=λD σ H=>D.nx σ H
def Qg(t u:TS):TS:=λD σ H=>t {D with nx:=u D} σ H
theorem bM:PSs X [] MB:=λ_ _ σ H _ I h=>Vd #[σ,H,I,h]
theorem ax(h1:PS X st t)(h2:PSs X rest u):PSs X (st::rest) (Qg t u):=by
 intro pins s σ H D I h;refine wpAny_execs_cons (thn (h1 pins s σ H {D with nx:=u D} I h) λf s1 q=> ?_);cases f with
 | next=>
  obtain⟨J,H',Y,q⟩:=q;exact h2 pins s1 J H' D Y q
 | ret v=>exact q
 | brk=>exact q
 | cont=>exact q
theorem aG(h1:PS X st t):PSs X [st] t:=by
 intro pins s σ H D I h;refine wpAny_execs_cons (thn (h1 pins s σ H D I h) λf s1 q=> ?_);cases f with
 | next=>exact Vd q
 | ret v=>exact q
 | brk=>exact q
 | cont=>exact q
theorem Inv.quiet(I:Inv X pins σ H s):interactive X.env=false:=by simp[interactive,I.ok.kind]
def MM(te:TE):TS:=λD σ H=>te σ H λ_ H1=>D.nx σ H1
theorem du(J:PE X e te)(hs:swapsWith e qh pos.line X.env=pure false:=by rfl):PS X (.Expr e pos) (MM te):=by intro pins s σ H D I h;exact wpAny_Expr_any (thn (J pins s σ H _ I h) λv s1 #[x,H1,I1,r1,q1]=>#[σ,H1,I1,q1]) I.quiet hs
def Qs(te:TE):TS:=λD σ H=>te σ H D.rt
theorem bc(J:PE X e te):PS X (.Return (pr e) pos) (Qs te):=by intro pins s σ H D I h;exact wpAny_Return_some (thn (J pins s σ H _ I h) λv s1 #[x,H1,I1,r1,q1]=>#[x,σ,H1,I1,r1,q1])
def OY(c:TT)(t u:TS):TS:=λD σ H=>c σ H λb H1=>if b=ss then t D σ H1 else u D σ H1
theorem cE{c:KE}{a b:List Uy}{tc:TT}(hc:PT X c tc)(ha:PSs X a t)(hb:PSs X b u):PS X (.If c a b pos) (OY tc t u):=by
 intro pins s σ H D I h;refine wpAny_If (thn (hc pins s σ H _ I h) λd s1 #[H1,I1,q1]=> ?_);cases d with
 | true=>exact ha pins s1 σ H1 D I1 q1
 | false=>exact hb pins s1 σ H1 D I1 q1
def Jq:TS:=λ_ _ _=>False
theorem eU:PS X st Jq:=λ_ _ _ _ _ _ h=>h.elim
end
abbrev TG:=V->St->Hp->(St->Hp->Prop)->Prop
abbrev TGs:=List V->St->Hp->(St->Hp->Prop)->Prop
def PG(X:Cx)(J:KE)(t:TG):Prop:=
 ∀(pins:List (sK×Obj)) (s:vr) (σ:St) (H:Hp) (v:V) (u:sn) (Q:St->Hp->Prop),Inv X pins σ H s->RelV v u->t v σ H Q->
  wpAny (model X.prog X.w) X.A (assign J X.env u) (λ_ s'=>∃Y H',Inv X pins Y H' s'/\Q Y H') X.xe s
def PGs(X:Cx)(ts:List KE)(t:TGs):Prop:=
 ∀(pins:List (sK×Obj)) (s:vr) (σ:St) (H:Hp) (vs:List V) (us:List sn) (Q:St->Hp->Prop),Inv X pins σ H s->Vals vs us->t vs σ H Q->
  wpAny (model X.prog X.w) X.A (assignInOrder ((assignEach ts X.env).map (·.2)) us) (λ_ s'=>∃J H',Inv X pins J H' s'/\Q J H') X.xe s
abbrev Ms:=V->V->V->Hp->(Hp->Prop)->Prop
def O6(X:Cx)(t:Ms):Prop:=
 ∀(pins:List (sK×Obj)) (s:vr) (σ:St) (H:Hp) (o i v:V) (J Y u:sn) (Q:Hp->Prop),Inv X pins σ H s->RelV o J->RelV i Y->RelV v u->t o i v H Q->
  wpAny (model X.prog X.w) X.A (setItem J Y u) (λ_ s'=>∃H',Inv X pins σ H' s'/\Q H') X.xe s
section
variable {X : Cx} {pos : Pos}
def xx(i:Nat):TG:=λv σ H Q=>Q (σ.set i (pr v)) H
theorem aO(J:X.N.Nodup)(hi:X.N[i]? =pr x)(hx:Loc X.env.scope x)(Y:X.fn x=ss\/X.env.scope.names.lookup x=pr .local:=by first | exact .inl rfl | exact .inr rfl | assumption):PG X (.Name x pos) (xx i):=by intro pins s σ H v u Q I r h;exact WP (EG I J hi hx r (λs' I'=>#[_,H,I',h]) Y)
def Po:TGs:=λvs σ H Q=>vs=[]/\Q σ H
def MC(t:TG)(u:TGs):TGs:=λvs σ H Q=>∃v r,vs=v::r/\t v σ H λJ H'=>u r J H' Q
theorem dZ:PGs X [] Po:=by intro pins s σ H vs us Q I r h;obtain⟨e,h⟩:=h;subst e;cases r;exact assignInOrder_nil #[σ,H,I,h]
theorem bu {es:List KE} {t:TG} {u:TGs} (h1:PG X e t) (h2:PGs X es u)
 (hs:(assignEach (e::es) X.env).map (·.2)=assign e X.env::(assignEach es X.env).map (·.2):=by rfl):PGs X (e::es) (MC t u):=by
 intro pins s σ H vs us Q I r h;obtain⟨v,Y,e1,h⟩:=h;subst e1;cases r with
 | cons r J=>
  rw[hs];refine assignInOrder_cons (thn (h1 pins s σ H _ _ _ I r h) λ_ s1 #[σ1,H1,I1,q1]=> ?_);exact h2 pins s1 σ1 H1 _ _ Q I1 J q1
def Py(K:uY)(n:Nat)(t:TGs):TG:=λv σ H Q=>∃a xs,v=.ref a/\SqT K H a xs/\xs.length=n/\t xs σ H Q
theorem eR {es:List KE} {k:Nat} {t:TGs} {n:Nat} (hc:X.calm=ss) (h:PGs X es t)
 (hn:(assignEach es X.env).length=n:=by rfl) (J:(assignEach es X.env).findIdx? (·.1)=none:=by rfl):PG X (.Tuple es k pos) (Py X.K n t):=by
 intro pins s σ H v u Q I r Y;obtain⟨a,xs,e1,hq,hl,Y⟩:=Y;subst e1;cases r;obtain⟨am,rv,ht,hz⟩:=I.tuple hq;refine assign_Tuple_tuple (I.ok.hd hc) ht (by simp[hn,<- hl,rv.length]) J λh' hx=> ?_;have I1:Inv X pins σ H {s with heap:=h'}:=I.kept (t':=s.toks) λb o e=>hx b o (Ix (Heap.lt_size e)) e;exact h pins _ σ H xs _ Q I1 (by simpa using rv) Y
def PX(to J:TE)(t:Ms):TG:=λv σ H Q=>to σ H λo H1=>J σ H1 λi H2=>t o i v H2 λY=>Q σ Y
theorem JZ {o i:KE} {to ti:TE} {t:Ms} (ho:PE X o to) (hi:PE X i ti) (hs:O6 X t)
 (ha:∀v,assign (.Subscript o i pos) X.env v=(do
  let J <- holding [v] (eval o X.env)
  let Y <- holding [v,J] (eval i X.env)
  standAt pos
  holding [v,J,Y] (setItem J Y v)
  release [v,J,Y] []):=by intro _;rfl):PG X (.Subscript o i pos) (PX to ti t):=by
 intro pins s σ H v u Q I r h;rw[ha];refine xY (Uk (thn (ho pins s σ H _ I h) λJ s1 #[x,H1,I1,r1,q1]=> ?_));refine xY (Uk (thn (hi pins s1 σ H1 _ I1 q1) λY s2 #[y,H2,I2,r2,q2]=> ?_));refine xY (Ws (xY (Uk (thn (hs pins s2 σ H2 x y v J Y u _ I2 r1 r2 r q2) λ_ s3 #[H3,I3,q3]=> ?_))));exact wpAny_release #[σ,H3,I3,q3]
def EC(te:TE)(g:TG):TS:=λD σ H=>te σ H λx H1=>g x σ H1 D.nx
theorem zX {g:TG} (J:PE X e te) (Y:PG X tg g) (hs:swapsWithSole [tg] e pos.line X.env=pure false:=by rfl) (hw:swappedStores [tg] e X.env=pure none:=by rfl)
 (h1:(assignEach [tg] X.env).map (·.2)=[assign tg X.env]:=by rfl):PS X (.Assign [tg] e pos) (EC te g):=by
 intro pins s σ H D I h;refine wpAny_Assign_stores (thn (J pins s σ H _ I h) λv s1 #[x,H1,I1,r1,q1]=> ?_) hs hw;rw[h1];exact thn (Y pins s1 σ H1 x v _ I1 r1 q1) λ_ s2 q=>q
theorem a0{pos':Pos}(J:X.N.Nodup)(hi:X.N[i]? =pr x)(hx:Loc X.env.scope x)(Y:PE X e te)(hs:swapsWith e (pr (.Name x pos')) pos.line X.env=pure false:=by rfl)(hf:X.fn x=ss\/X.env.scope.names.lookup x=pr .local:=by first | exact .inl rfl | exact .inr rfl | assumption):
 PS X (.Assign [.Name x pos'] e pos) (EC te (xx i)):=by
 intro pins s σ H D I h;refine wpAny_Assign_Name (thn (Y pins s σ H _ I h) λv s1 #[y,H1,I1,r1,q1]=> ?_) hs;exact EG I1 J hi hx r1 (λs2 I2=>#[_,H1,I2,q1]) hf
end
section
variable {X : Cx} {pos : Pos}
def IH(c:TT)(tb:TS):TS:=λD σ H=>∃W:Nat->St->Hp->Prop,(∃m,W m σ H)/\∀m σ H,W m σ H->
 c σ H λb H1=>if b=ss then ∃N:St->Hp->Prop,(∀J H',N J H'->∃Y,Y<m/\W Y J H')/\tb {D with nx:=N,ct:=N,bk:=D.nx} σ H1 else D.nx σ H1
theorem L1{c:KE}{tc:TT}{tb:TS}(hp:PassesOwn (model X.prog X.w) X.A X.env X.xe)(hc:PT X c tc)(hb:PSs X body tb):PS X (.While c body [] pos) (IH tc tb):=by
 intro pins s σ H D I h;obtain⟨W,⟨m0,w0⟩,ab⟩:=h;refine wpAny_While (codeAny_whileLoop (λn s'=>∃ac H',Inv X pins ac H' s'/\W n ac H') ?_ m0 #[σ,H,I,w0]);rintro n s1 ⟨Y,H1,I1,w1⟩;refine T8 hp (thn (hc pins s1 Y H1 _ I1 (ab n Y H1 w1)) λb s2 #[H2,I2,q2]=> ?_);cases b with
 | true=>
  obtain⟨N,hN,q2⟩:=q2;rw[if_pos rfl];refine T8 hp (thn (hb pins s2 Y H2 _ I2 q2) λf s3 q3=> ?_);cases f with
  | next=>
   obtain⟨J,H3,I3,n3⟩:=q3;obtain⟨m',hm,w3⟩:=hN J H3 n3;exact#[m',hm,J,H3,I3,w3]
  | cont=>
   obtain⟨J,H3,I3,n3⟩:=q3;obtain⟨m',hm,w3⟩:=hN J H3 n3;exact#[m',hm,J,H3,I3,w3]
  | brk=>exact q3
  | ret v=>exact q3
 | false=>
  rw[if_neg Eb];exact Vd #[Y,H2,I2,q2]
end
structure It where
 go:Nat->Hp->Prop
 yld:Nat->Hp->V->Hp->Prop
 stop:Nat->Hp->Prop
def nN(X:Cx)(pins:List (sK×Obj))(H:Hp)(b:sK):Prop:=
 H b=qh/\b≠X.env.locals/\b∉X.fs/\(b∈X.ex\/X.s₀.heap.objs.size<=b)/\(∀x c,X.env.cells.lookup x=pr c->c≠b)/\∀p∈X.pn++pins,p.1≠b
theorem Inv.fpOk{H H':Hp}(I:Inv X pins σ H s)(hb:s.heap.objs.size<=b)(hn:H' b=qh):nN X pins H' b:=by refine#[hn,U6 (Gc I.lt hb),I.nofs hb,.inr (SE I.sz hb),λx c e z=> ?_,λp hp z=> ?_];obtain⟨v,q⟩:=I.cell x c e;exact absurd (Gc q.lt (by rw[z];exact hb)) (Tu _);exact absurd (Gc (Heap.lt_size (I.pin p hp).1) (by rw[z];exact hb)) (Tu _)
structure Turn(P:FS)(w:IN)(K:uY)(tg:KE)(J:It)(fp:List sK)(it:sK)(tn:Nat->Rs->Prop):Prop where
 mem:it∈fp
 obj:∀i h,tn i h->∀b∈fp,∃o,h.get? b=pr o/\∀v,o.data≠ .cell v
 keep:∀i h h',tn i h->(∀b∈fp,∀o,h.get? b=pr o->h'.get? b=pr o)->tn i h'
 item:∀(X:Cx),X.prog=P->X.w=w->X.K=K->X.calm=ss->∀(i:Nat) (pins:List (sK×Obj)) (s:vr) (σ:St) (H:Hp) (E:sn->vr->Prop),Inv X pins σ H s->(∀b∈fp,nN X pins H b)->tn i s.heap->J.go i H->
  wpAny (model P w) X.A (pyNext (.ref it)) (λr s1=>∃u,r=pr u/\
   wpAny (model P w) X.A (letOwnedTupleGo tg (.ref it) u) (λ_ s2=>∃x H',Inv X pins σ H' s2/\RelV x u/\J.yld i H x H'/\tn (i+1) s2.heap/\∀b∈fp,H' b=qh) E s1) E s
 done:∀(X:Cx),X.prog=P->X.w=w->X.K=K->X.calm=ss->∀(i:Nat) (pins:List (sK×Obj)) (s:vr) (σ:St) (H:Hp) (E:sn->vr->Prop),Inv X pins σ H s->(∀b∈fp,nN X pins H b)->tn i s.heap->J.stop i H->
  wpAny (model P w) X.A (pyNext (.ref it)) (λr s1=>r=qh/\Inv X pins σ H s1) E s
 self:∀(A:SN) (i:Nat) (s:vr) (Q:sn->vr->Prop) (E:sn->vr->Prop),tn i s.heap->Q (.ref it) s->wpAny (model P w) A (pyIter (.ref it)) Q E s
abbrev TI:=St->Hp->(It->Hp->Prop)->Prop
def PIE(X:Cx)(pins:List (sK×Obj))(σ:St)(tg:KE)(R:It->Hp->Prop)(Y:sn)(s2:vr):Prop:=
 ∃(it:sK) (fp:List sK) (tn:Nat->Rs->Prop) (J:It) (H':Hp),Y=.ref it/\Inv X pins σ H' s2/\Turn X.prog X.w X.K tg J fp it tn/\tn 0 s2.heap/\(∀b∈fp,nN X pins H' b)/\R J H'
def PI(X:Cx)(tg J:KE)(wi:TI):Prop:=
 ∀(pins:List (sK×Obj)) (s:vr) (σ:St) (H:Hp) (R:It->Hp->Prop),Inv X pins σ H s->wi σ H R->
  wpAny (model X.prog X.w) X.A (eval J X.env) (λv s1=>wpAny (model X.prog X.w) X.A (pyIter v) (PIE X pins σ tg R) X.xe s1) X.xe s
theorem HL {M:Model} {A:SN} {E:sn->vr->Prop} {tg:KE} {u:sn} {n:String} {vs:Array sn} {Q:Unit->vr->Prop} (Y:s.heap.get? it=pr o) (hc:o.cls=.type n) (hd:o.data=.fields vs)
 (hn:["enumerate","zip","dict_itemiterator","dict_reverseitemiterator","odict_iterator","itertools.zip_longest","itertools.pairwise"].contains n=xL) (J:Q () s):wpAny M A (letOwnedTupleGo tg (.ref it) u) Q E s:=by
 unfold letOwnedTupleGo;cases tg <;> first
  | exact Ps J
  | (cases u <;> first
   | exact Ps J
   | (
    refine xY (wpAny_load Y ?_);rw[hc,hd];show wpAny M A (if (["enumerate","zip","dict_itemiterator","dict_reverseitemiterator","odict_iterator","itertools.zip_longest","itertools.pairwise"].contains n&&vs[0]? == pr (rawInt _))=ss then _ else _) Q E s;rw[if_neg (by intro h;rw[hn,Vr] at h;cases h)];exact Ps J))
def Itl(K:uY)(a:sK):It:=
 #[λi H=>∃xs x,SqL K H a xs/\xs[i]? =pr x,λi H x H'=>H'=H/\∀xs,SqL K H a xs->xs[i]? =pr x,λi H=>∃xs,SqL K H a xs/\xs.length<=i]
def Itr(lo:Int)(n:Nat):It:=#[λi _=>i<n,λi H x H'=>H'=H/\x=.int (lo+i),λi _=>n<=i]
theorem Js(a:sK):Turn P w K tg (Itl K a) [it] it (λi h=>h.IsListIter it a i) where
 mem:=by simp
 obj:=λi h st b hb=>by
  have e:b=it:=by simpa using hb
  subst e;obtain⟨o,e,c,d⟩:=st;exact#[o,e,λv z=>by rw[d] at z;cases z]
 keep:=λi h h' st k=>st.at λo e=>k it (by simp) o e
 item:=by intro X hP hw hK hc i pins s σ H E I hf st hg;subst hP hw hK;obtain⟨xs,x,hq,hx⟩:=hg;obtain⟨its,rv,p,hz⟩:=I.list hq;obtain⟨u,hu,ru⟩:=rv.get hx;obtain⟨f0,f1,f2,f3,f4,f5⟩:=hf it (by simp);refine wpAny_pyNext_list_item st p.isList (x:=u) (by simpa using hu) λh' st' sb=> ?_;have I1:Inv X pins σ H {s with heap:=h'}:=I.turned (t':=s.toks) (λb o hb e=>(sb.2 b hb).trans e) f0 f1 f3 f4 f5;obtain⟨o,e,c,d⟩:=id st';exact#[u,rfl,HL (s:={s with heap:=h'}) e c d ∅ #[x,H,I1,ru,#[rfl,λys hy=>by rw[I.list_inj hy hq];exact hx],st',λb hb=>(hf b hb).1]]
 done:=by intro X hP hw hK hc i pins s σ H E I hf st hg;subst hP hw hK;obtain⟨xs,hq,hx⟩:=hg;obtain⟨its,rv,p,hz⟩:=I.list hq;obtain⟨f0,f1,f2,f3,f4,f5⟩:=hf it (by simp);have hl:=rv.length;exact wpAny_pyNext_list_end (I.ok.hd hc) st p.isList (by simp;omega) λh' eb=>#[rfl,I.turned (t':=s.toks) (λb o hb e=>eb b o hb e) f0 f1 f3 f4 f5]
 self:=λ_ _ _ _ _ st h=>wpAny_pyIter_listiter st h
theorem HN(lo:Int)(n:Nat):Turn P w K tg (Itr lo n) [it] it (λi h=>IsRangeIter h it (lo+(i:Nat)*1) ((n:Int)-(i:Nat)) 1) where
 mem:=by simp
 obj:=λi h st b hb=>by
  have e:b=it:=by simpa using hb
  subst e;exact#[_,st,λv z=>by have z':Data.fields _=Data.cell v:=z;cases z']
 keep:=λi h h' st k=>k it (by simp) _ st
 item:=by intro X hP hw hK hc i pins s σ H E I hf st hg;subst hP hw hK;obtain⟨f0,f1,f2,f3,f4,f5⟩:=hf it (by simp);have W:=Walks.range (prog:=X.prog) (w:=X.w) (I.ok.hd hc) it lo 1 n;refine W.item i s _ _ hg st λv h' tk hv st' kk=> ?_;obtain⟨t,rfl⟩:=hv;have I1:Inv X pins σ H {s with heap:=h',toks:=tk}:=I.turned (λb o hb e=>kk b o (by simpa using hb) e) f0 f1 f3 f4 f5;refine#[_,rfl,HL (s:={s with heap:=h',toks:=tk}) (n:="range_iterator") st' rfl rfl ∅ #[.int (lo+i),H,I1,#[t, ?_],#[rfl,rfl],st',λb hb=>(hf b hb).1]];rw[Int.mul_one]
 done:=by intro X hP hw hK hc i pins s σ H E I hf st hg;subst hP hw hK;obtain⟨f0,f1,f2,f3,f4,f5⟩:=hf it (by simp);exact wpAny_pyNext_range_end (I.ok.hd hc) st (by have:n<=i:=hg;omega) λh' eb=>#[rfl,I.turned (t':=s.toks) (λb o hb e=>eb b o hb e) f0 f1 f3 f4 f5]
 self:=λ_ _ _ _ _ st h=>wpAny_pyIter_rangeiter st h
section
variable {X : Cx} {tg : KE}
def MG(K:uY)(tl:TE):TI:=λσ H R=>tl σ H λx H1=>∃a,x=.ref a/\(∃xs,SqL K H1 a xs)/\R (Itl K a) H1
theorem b9{l:KE}{tl:TE}(J:PE X l tl):PI X tg l (MG X.K tl):=by
 intro pins s σ H R I h;refine thn (J pins s σ H _ I h) λv s1 #[x,H1,I1,r1,q1]=> ?_;obtain⟨a,e,⟨xs,hq⟩,q⟩:=q1;subst e;cases r1;obtain⟨Y,rv,p,hz⟩:=I1.list hq;refine UW p.isList ?_;refine#[s1.heap.objs.size,[s1.heap.objs.size],_,_,H1,rfl,I1.kept (t':=s1.toks) λb o e=>Heap.get?_push_of_some _ e,Js a,#[_,Heap.get?_push_size _ rfl,rfl,rfl],λb hb=> ?_,q];have e:b=s1.heap.objs.size:=by simpa using hb
 subst e;exact I1.fpOk (wS _) (I1.hok.fresh (wS _))
theorem Lf {R:It->Hp->Prop} {E:sn->vr->Prop} {lo hi:Int} {t u v:Tok} {tk:Nat} (I:Inv X pins σ H s) (h1: -(2^62)<=lo) (h2:lo<2^62) (Y: -(2^62)<=hi) (h4:hi<2^62)
 (q:R (Itr lo (hi-lo).toNat) H):wpAny (model X.prog X.w) X.A (pyIter (.ref s.heap.objs.size)) (PIE X pins σ tg R) E {s with heap:=s.heap.push {cls:=.type "range",data:=.fields #v[.int lo t,.int hi u,.int 1 v]},toks:=tk}:=by
 refine wpAny_pyIter_range (IsRange.new ..) (small_one h1 h2 Y h4) ?_;have J:Inv X pins σ H {s with heap:=s.heap.push {cls:=.type "range",data:=.fields #v[.int lo t,.int hi u,.int 1 v]},toks:=tk}:=I.kept λb o e=>Heap.get?_push_of_some _ e;refine#[(s.heap.push {cls:=.type "range",data:=.fields #v[.int lo t,.int hi u,.int 1 v]}).objs.size,[(s.heap.push {cls:=.type "range",data:=.fields #v[.int lo t,.int hi u,.int 1 v]}).objs.size],_,_,H,rfl,
  J.kept (t':=tk) λb o e=>Heap.get?_push_of_some _ e,HN lo (hi-lo).toNat, ?_,λb hb=> ?_,q]
 have e1:lo+((0:Nat):Int)*1=lo:=by simp
 have e2:(((hi-lo).toNat:Nat):Int)-((0:Nat):Int)=Builtin.Range.rangeSize lo hi 1:=by rw[rangeSize_one];split <;> omega
 show IsRangeIter _ _ (lo+((0:Nat):Int)*1) ((((hi-lo).toNat:Nat):Int)-((0:Nat):Int)) 1;rw[e1,e2];exact Heap.get?_push_size _ rfl;have e:b=(s.heap.push {cls:=.type "range",data:=.fields #v[.int lo t,.int hi u,.int 1 v]}).objs.size:=by simpa using hb
 subst e;exact J.fpOk (wS _) (J.hok.fresh (wS _))
def MD(ta:TA):TI:=λσ H R=>ta σ H λvs H1=>∃j:Int,vs=[.int j]/\ -(2^62)<=j/\j<2^62/\R (Itr 0 j.toNat) H1
theorem dQ{a:KE}{ta:TA}{p pos:Pos}(J:Gl X "range")(hm:X.mg "range" =qh)(ha:PA X [a] ta)(hs:starEach [a] X.env=[(xL,eval a X.env)]:=by rfl):PI X tg (.Call (.Name "range" p) [a] [] pos) (MD ta):=by
 intro pins s σ H R I h;refine Call_ (sP I J hm boot_range (T7 (thn (ha pos pins s σ H _ I h) λus s1 #[vs,H1,I1,r1,q1]=> ?_) hs rfl));obtain⟨j,e,q1,q2,q⟩:=q1;subst e;cases r1 with
 | cons r Y=>
  cases Y;obtain⟨t,rfl⟩:=r;exact call_range_1 (Lf I1 ⋯ ⋯ q1 q2 (by simpa using q))
def OG(wi:TI)(g:TG)(tb:TS):TS:=λD σ H=>wi σ H λJ H1=>∃W:Nat->Nat->St->Hp->Prop,(∃m,W 0 m σ H1)/\∀i m σ H,W i m σ H->
 (J.stop i H/\D.nx σ H)\/(J.go i H/\∃N:St->Hp->Prop,(∀Y H',N Y H'->∃m',m'<m/\W (i+1) m' Y H')/\∀x H',J.yld i H x H'->g x σ H' λab H2=>tb {D with nx:=N,ct:=N,bk:=D.nx} ab H2)
def vA(fp:List sK)(h:Rs):List (sK×Obj):=fp.filterMap λb=>(h.get? b).map λo=>(b,o)
theorem pL(hb:b∈fp)(e:h.get? b=pr o):(b,o)∈vA fp h:=Wy.mpr #[b,hb,by rw[e];rfl]
theorem IG{p:sK×Obj}(hp:p∈vA fp h):p.1∈fp/\h.get? p.1=pr p.2:=by
 obtain⟨b,hb,e⟩:=Wy.mp hp;cases q:h.get? b with
 | none=>rw[q] at e;cases e
 | some o=>
  rw[q] at e;have e':(b,o)=p:=Tw e;subst e';exact#[hb,q]
theorem Inv.pinned(I:Inv X pins σ H s)(J:∀b∈fp,nN X pins H b)(Y:∀b∈fp,∃o,s.heap.get? b=pr o/\∀v,o.data≠ .cell v):Inv X (pins++vA fp s.heap) σ H s:=
 I.pins_of λp hp=>(xz.mp hp).elim (λz=>I.pin p (PP _ z)) λz=>by obtain⟨hb,e⟩:=IG z;obtain⟨f0,f1,f2,_⟩:=J p.1 hb;obtain⟨o,e',d⟩:=Y p.1 hb;rw[e] at e';cases e';exact#[e,f0,f1,f2,d]
theorem Inv.unpinned{pins pl:List (sK×Obj)}(I:Inv X (pins++pl) σ H s):Inv X pins σ H s:=I.pins_of λp hp=>I.pin p (PP _ (Td _ hp))
theorem eY {ab:KE} {wi:TI} {g:TG} {tb:TS} {pos:Pos} (hp:PassesOwn (model X.prog X.w) X.A X.env X.xe) (hc:X.calm=ss) (hi:PI X tg ab wi) (hg:PG X tg g) (hb:PSs X body tb)
 (hs:∀x,foldedSetIterable ab X.env x=pure x:=by intro _;rfl):PS X (.For tg ab body [] pos) (OG wi g tb):=by
 intro pins s σ H D I h;refine wpAny_For (thn (hi pins s σ H _ I h) λv s1 h1=>thn h1 λbp s2 h2=> ?_) hs;obtain⟨it,fp,tn,J,H2,e,I2,T,bb,f2,W,⟨m0,w0⟩,a1⟩:=h2;subst e;have ac:∀{H':Hp},(∀b∈fp,H' b=qh)->∀b∈fp,nN X pins H' b:=λhn b hb=>#[hn b hb,(f2 b hb).2];refine codeAny_forLoop_any (λn s'=>∃i am H',Inv X pins am H' s'/\tn i s'.heap/\(∀b∈fp,H' b=qh)/\W i n am H') ?_ m0 #[0,σ,H2,I2,bb,λb hb=>(f2 b hb).1,w0];rintro n s3 ⟨i,an,H3,I3,a2,a3,w3⟩;rcases a1 i n an H3 w3 with⟨a4,qn⟩ | ⟨go,N,hN,step⟩
 refine T8 hp (thn (T.done X rfl rfl rfl hc i pins s3 an H3 X.xe I3 (ac a3) a2 a4) λr s4 #[hr,I4]=> ?_);subst hr;exact Vd #[an,H3,I4,qn]
 ·refine T8 hp (thn (T.item X rfl rfl rfl hc i pins s3 an H3 X.xe I3 (ac a3) a2 go) λr s4 #[u,hr,h4]=> ?_);subst hr;refine T8 hp (thn h4 λ_ s5 #[x,H5,I5,r5,y5,st5,fr5]=> ?_);have bd:=I5.pinned (ac fr5) (T.obj _ _ st5);refine T8 hp (thn (hg _ s5 an H5 x u _ bd r5 (step x H5 y5)) λ_ s6 #[σ6,H6,I6,q6]=> ?_);refine T8 hp (thn (hb _ s6 σ6 H6 _ I6 q6) λf s7 q7=> ?_);have again:∀{Y:St} {H7:Hp},Inv X (pins++vA fp s5.heap) Y H7 s7->N Y H7->∃m,m<n/\∃i am H',Inv X pins am H' s7/\tn i s7.heap/\(∀b∈fp,H' b=qh)/\W i m am H':=λ{Y H7} I7 n7=>by obtain⟨m',hm,w7⟩:=hN Y H7 n7;refine#[m',hm,i+1,Y,H7,I7.unpinned,T.keep _ _ _ st5 λb hb o e=>(I7.pin (b,o) (PP _ (PP _ (pL hb e)))).1,λb hb=> ?_,w7];obtain⟨o,e,d⟩:=T.obj _ _ st5 b hb;exact(I7.pin (b,o) (PP _ (PP _ (pL hb e)))).2.1
  cases f with
  | next=>obtain⟨Y,H7,I7,n7⟩:=q7;exact again I7 n7
  | cont=>obtain⟨Y,H7,I7,n7⟩:=q7;exact again I7 n7
  | brk=>obtain⟨Y,H7,I7,q7⟩:=q7;exact#[Y,H7,I7.unpinned,q7]
  | ret v=>obtain⟨x7,Y,H7,I7,r7,q7⟩:=q7;exact#[x7,Y,H7,I7.unpinned,r7,q7]
end
abbrev R2:=V->V->Hp->VK->Prop
def OpR(X:Cx)(f:sn->sn->Sem sn)(r:R2):Prop:=
 ∀(pins:List (sK×Obj)) (s:vr) (σ:St) (H:Hp) (x y:V) (v u:sn) (Q:VK),Inv X pins σ H s->RelV x v->RelV y u->r x y H Q->
  wpAny (model X.prog X.w) X.A (f v u) (EP X pins σ Q) X.xe s
def UnR(X:Cx)(f:sn->Sem sn)(r:V->Hp->VK->Prop):Prop:=
 ∀(pins:List (sK×Obj)) (s:vr) (σ:St) (H:Hp) (x:V) (v:sn) (Q:VK),Inv X pins σ H s->RelV x v->r x H Q->
  wpAny (model X.prog X.w) X.A (f v) (EP X pins σ Q) X.xe s
def kT(X:Cx)(f:sn)(r:List V->Hp->VK->Prop):Prop:=
 ∀(pins:List (sK×Obj)) (s:vr) (σ:St) (H:Hp) (xs:List V) (us:List sn) (Q:VK),Inv X pins σ H s->Vals xs us->r xs H Q->
  wpAny (model X.prog X.w) X.A (call f us) (EP X pins σ Q) X.xe s
def Rp(X:Cx)(r:V->Hp->(Bool->Hp->Prop)->Prop):Prop:=
 ∀(pins:List (sK×Obj)) (s:vr) (σ:St) (H:Hp) (x:V) (v:sn) (Q:Bool->Hp->Prop),Inv X pins σ H s->RelV x v->r x H Q->
  wpAny (model X.prog X.w) X.A (truthy v) (TP X pins σ Q) X.xe s
def tOp(r:R2)(ta tb:TE):TE:=λσ H Q=>ta σ H λx H1=>tb σ H1 λy H2=>r x y H2 Q
def tUn(r:V->Hp->VK->Prop)(ta:TE):TE:=λσ H Q=>ta σ H λx H1=>r x H1 Q
def rI(C:Int->Int->Prop)(g:Int->Int->V):R2:=λx y H Q=>∃i j,x=.int i/\y=.int j/\C i j/\Q (g i j) H
def rI0(g:Int->Int->V):R2:=λx y H Q=>∃i j,x=.int i/\y=.int j/\Q (g i j) H
def rU(g:Int->V):V->Hp->VK->Prop:=λx H Q=>∃i,x=.int i/\Q (g i) H
section
variable {X : Cx} {a b c : KE} {ta tb tc : TE} {pos : Pos}
theorem Kn (ha:PE X a ta) (hb:PE X b tb) {R:V->V->Hp->Prop} (I:Inv X pins σ H s)
 (h:ta σ H λx H1=>tb σ H1 λy H2=>R x y H2) {Q:sn->vr->Prop} {f:sn->sn->Sem sn}
 (hf:∀v u s2 x y H2,Inv X pins σ H2 s2->RelV x v->RelV y u->R x y H2->wpAny (model X.prog X.w) X.A (f v u) Q X.xe s2):
 wpAny (model X.prog X.w) X.A (eval a X.env) (λv J=>wpAny (model X.prog X.w) X.A (eval b X.env) (λu Y=>wpAny (model X.prog X.w) X.A (f v u) Q X.xe Y) X.xe J) X.xe s:=by
 refine thn (ha pins s σ H _ I h) λv s1 #[x,H1,I1,r1,q1]=> ?_;refine thn (hb pins s1 σ H1 _ I1 q1) λu s2 #[y,H2,I2,r2,q2]=> ?_;exact hf v u s2 x y H2 I2 r1 r2 q2
theorem aV{op:Operator}(J:OpR X (binaryOp op) r)(ha:PE X a ta)(hb:PE X b tb):PE X (.BinOp a op b pos) (tOp r ta tb):=by intro pins s σ H Q I h;exact wpAny_BinOp (Kn ha hb I h λv u s2 x y H2 Y rx ry q=>J pins s2 σ H2 x y v u Q Y rx ry q)
theorem rh{op:UnaryOp}{r:V->Hp->VK->Prop}(J:UnR X (unaryOp op) r)(ha:PE X a ta):PE X (.UnaryOp op a pos) (tUn r ta):=by intro pins s σ H Q I h;exact UnaryOp_ (thn (ha pins s σ H _ I h) λv s1 #[x,H1,I1,r1,q1]=>J pins s1 σ H1 x v Q I1 r1 q1)
theorem opI {f:sn->sn->Sem sn} {C:Int->Int->Prop} {g:Int->Int->Int}
 (rule:∀(i j:Int) (t u:Tok) (s:vr) (Q:sn->vr->Prop) (E:sn->vr->Prop),C i j->Q (.int (g i j) s.toks) {s with toks:=s.toks+1}->wpAny (model X.prog X.w) X.A (f (.int i t) (.int j u)) Q E s):
 OpR X f (rI C λi j=>.int (g i j)):=by
 intro pins s σ H x y v u Q I J Y h;obtain⟨i,j,rfl,rfl,hc,q⟩:=h;obtain⟨t,rfl⟩:=J;obtain⟨t',rfl⟩:=Y;exact rule i j t t' s _ _ hc #[.int (g i j),H,I.tok _,#[_,rfl],q]
theorem Ki {f:sn->sn->Sem sn} {g:Int->Int->Int}
 (rule:∀(i j:Int) (t u:Tok) (s:vr) (Q:sn->vr->Prop) (E:sn->vr->Prop),Q (.int (g i j) s.toks) {s with toks:=s.toks+1}->wpAny (model X.prog X.w) X.A (f (.int i t) (.int j u)) Q E s):
 OpR X f (rI0 λi j=>.int (g i j)):=by
 intro pins s σ H x y v u Q I J Y h;obtain⟨i,j,rfl,rfl,q⟩:=h;obtain⟨t,rfl⟩:=J;obtain⟨t',rfl⟩:=Y;exact rule i j t t' s _ _ #[.int (g i j),H,I.tok _,#[_,rfl],q]
theorem Qt {f:sn->sn->Sem sn} {g:Int->Int->Bool}
 (rule:∀(i j:Int) (t u:Tok) (s:vr) (Q:sn->vr->Prop) (E:sn->vr->Prop),Q (.bool (g i j)) s->wpAny (model X.prog X.w) X.A (f (.int i t) (.int j u)) Q E s):
 OpR X f (rI0 λi j=>.bl (g i j)):=by
 intro pins s σ H x y v u Q I J Y h;obtain⟨i,j,rfl,rfl,q⟩:=h;obtain⟨t,rfl⟩:=J;obtain⟨t',rfl⟩:=Y;exact rule i j t t' s _ _ #[.bl (g i j),H,I,rfl,q]
def L8(i j:Int):Prop:=0<=j/\j<=1000000/\i.natAbs<2^64
theorem Pb:OpR X (binaryOp .Add) (rI0 λi j=>.int (i+j)):=Ki λ_ _ _ _ _ _ _ q=>add_int q
theorem nr:OpR X (binaryOp .Sub) (rI0 λi j=>.int (i-j)):=Ki λ_ _ _ _ _ _ _ q=>sub_int q
theorem iC:OpR X (binaryOp .Mod) (rI (λ_ j=>j≠0) λi j=>.int (i.fmod j)):=opI λ_ _ _ _ _ _ _ hc q=>mod_int' hc q
theorem DD:OpR X (binaryOp .Pow) (rI L8 λi j=>.int (i^j.toNat)):=opI λ_ _ _ _ _ _ _ hc q=>pow_int_small hc.1 hc.2.1 hc.2.2 q
theorem MH:OpR X (binaryOp .BitOr) (rI0 λi j=>.int (Builtin.bitOr i j)):=Ki λ_ _ _ _ _ _ _ q=>or_int q
theorem unI {f:sn->Sem sn} {g:Int->Int}
 (rule:∀(i:Int) (t:Tok) (s:vr) (Q:sn->vr->Prop) (E:sn->vr->Prop),Q (.int (g i) s.toks) {s with toks:=s.toks+1}->wpAny (model X.prog X.w) X.A (f (.int i t)) Q E s):
 UnR X f (rU λi=>.int (g i)):=by
 intro pins s σ H x v Q I J h;obtain⟨i,rfl,q⟩:=h;obtain⟨t,rfl⟩:=J;exact rule i t s _ _ #[.int (g i),H,I.tok _,#[_,rfl],q]
theorem oO:UnR X (unaryOp .USub) (rU λi=>.int (-i)):=unI λ_ _ _ _ _ q=>neg_int q
end
def OT:V->V->Bool
 | .non,.non=>ss | .non,.int _=>ss | .int _,.non=>ss | .non,.bl _=>ss | .bl _,.non=>ss | .non,.str _=>ss | .str _,.non=>ss
 | .int _,.int _=>ss | .bl _,.bl _=>ss | .str _,.str _=>ss | .byt _,.byt _=>ss
 | .int _,.str _=>ss | .str _,.int _=>ss | .bl _,.str _=>ss | .str _,.bl _=>ss
 | _,_=>xL
def rEq:R2:=λx y H Q=>OT x y=ss/\Q (.bl (decide (x=y))) H
def rNe:R2:=λx y H Q=>OT x y=ss/\Q (.bl (!decide (x=y))) H
theorem wO{i j:Int}:decide (V.int i=V.int j)=(i == j):=by rw[TR];simp
theorem Am{i j:Bool}:decide (V.bl i=V.bl j)=(i == j):=by rw[TR];simp
theorem xj{i j:Str}:decide (V.str i=V.str j)=(i == j):=by rw[TR];simp
theorem GI{i j:Array UInt8}:decide (V.byt i=V.byt j)=(i.toList == j.toList):=by rw[TR];cases i;cases j;simp
section
variable {X : Cx} {a b c : KE} {ta tb tc : TE} {pos : Pos}
theorem cU{Q:VK}{k J:Bool}(I:Inv X pins σ H s)(q:Q (.bl k) H)(e:k=J):EP X pins σ Q (.bool J) s:=by subst e;exact#[.bl k,H,I,rfl,q]
theorem QK:OpR X (compareOp .Eq) rEq:=by
 intro pins s σ H x y v u Q I Y J h;obtain⟨hs,q⟩:=h;cases x with
 | non=>
  cases Y;cases y with
  | non=>cases J;exact PySem.EqNone.eq_none_none (cU I q (by simp))
  | bl j=>cases J;exact PySem.EqNone.eq_none_bool (cU I q (by simp))
  | int j=>obtain⟨t',rfl⟩:=J;exact PySem.EqNone.eq_none_int (cU I q (by simp))
  | str j=>obtain⟨t',rfl⟩:=J;exact PySem.EqNone.eq_none_str (cU I q (by simp))
  | _=>exact absurd (show xL=ss from hs) Eb
 | bl i=>
  cases Y;cases y with
  | non=>cases J;exact PySem.EqNone.eq_bool_none (cU I q (by simp))
  | bl j=>cases J;exact eq_bool (cU I q Am)
  | str j=>obtain⟨t',rfl⟩:=J;exact Xt (cU I q (by simp))
  | _=>exact absurd (show xL=ss from hs) Eb
 | int i=>
  obtain⟨t,rfl⟩:=Y;cases y with
  | non=>cases J;exact PySem.EqNone.eq_int_none (cU I q (by simp))
  | int j=>obtain⟨t',rfl⟩:=J;exact eq_int (cU I q wO)
  | str j=>obtain⟨t',rfl⟩:=J;exact XA (cU I q (by simp))
  | _=>exact absurd (show xL=ss from hs) Eb
 | str i=>
  obtain⟨t,rfl⟩:=Y;cases y with
  | non=>cases J;exact PySem.EqNone.eq_str_none (cU I q (by simp))
  | bl j=>cases J;exact Xv (cU I q (by simp))
  | int j=>obtain⟨t',rfl⟩:=J;exact Xy (cU I q (by simp))
  | str j=>obtain⟨t',rfl⟩:=J;exact eq_str (cU I q xj)
  | _=>exact absurd (show xL=ss from hs) Eb
 | byt i=>
  obtain⟨t,rfl⟩:=Y;cases y with
  | byt j=>obtain⟨t',rfl⟩:=J;exact PySem.W.eq_bytes (cU I q GI)
  | _=>exact absurd (show xL=ss from hs) Eb
 | _=>cases y <;> exact absurd (show xL=ss from hs) Eb
theorem QJ:OpR X (compareOp .NotEq) rNe:=by
 intro pins s σ H x y v u Q I Y J h;obtain⟨hs,q⟩:=h;cases x with
 | non=>
  cases Y;cases y with
  | non=>cases J;exact PySem.EqNone.ne_none_none (cU I q (by simp))
  | bl j=>cases J;exact PySem.EqNone.ne_none_bool (cU I q (by simp))
  | int j=>obtain⟨t',rfl⟩:=J;exact PySem.EqNone.ne_none_int (cU I q (by simp))
  | str j=>obtain⟨t',rfl⟩:=J;exact PySem.EqNone.ne_none_str (cU I q (by simp))
  | _=>exact absurd (show xL=ss from hs) Eb
 | bl i=>
  cases Y;cases y with
  | non=>cases J;exact PySem.EqNone.ne_bool_none (cU I q (by simp))
  | bl j=>cases J;exact ne_bool (cU I q (congrArg not Am))
  | str j=>obtain⟨t',rfl⟩:=J;exact Xu (cU I q (by simp))
  | _=>exact absurd (show xL=ss from hs) Eb
 | int i=>
  obtain⟨t,rfl⟩:=Y;cases y with
  | non=>cases J;exact PySem.EqNone.ne_int_none (cU I q (by simp))
  | int j=>obtain⟨t',rfl⟩:=J;exact ne_int (cU I q (congrArg not wO))
  | str j=>obtain⟨t',rfl⟩:=J;exact XB (cU I q (by simp))
  | _=>exact absurd (show xL=ss from hs) Eb
 | str i=>
  obtain⟨t,rfl⟩:=Y;cases y with
  | non=>cases J;exact PySem.EqNone.ne_str_none (cU I q (by simp))
  | bl j=>cases J;exact Xx (cU I q (by simp))
  | int j=>obtain⟨t',rfl⟩:=J;exact Xz (cU I q (by simp))
  | str j=>obtain⟨t',rfl⟩:=J;exact ne_str (cU I q (congrArg not xj))
  | _=>exact absurd (show xL=ss from hs) Eb
 | byt i=>
  obtain⟨t,rfl⟩:=Y;cases y with
  | byt j=>obtain⟨t',rfl⟩:=J;exact PySem.W.ne_bytes (cU I q (congrArg not GI))
  | _=>exact absurd (show xL=ss from hs) Eb
 | _=>cases y <;> exact absurd (show xL=ss from hs) Eb
theorem kM:OpR X (compareOp .Lt) (rI0 λi j=>.bl (decide (i<j))):=Qt λ_ _ _ _ _ _ _ q=>Xw q
theorem lZ:OpR X (compareOp .Gt) (rI0 λi j=>.bl (decide (j<i))):=Qt λ_ _ _ _ _ _ _ q=>gt_int q
theorem ON:OpR X (compareOp .Is) (λx y H Q=>y=.non/\Q (.bl (decide (x=.non))) H):=by
 intro pins s σ H x y v u Q I J Y h;obtain⟨rfl,q⟩:=h;cases Y;refine is_none_gen (cU I q ?_);cases x <;> first
  | (cases J;rfl)
  | (obtain⟨t,rfl⟩:=J;rfl)
theorem Of:OpR X (compareOp .IsNot) (λx y H Q=>y=.non/\Q (.bl (!decide (x=.non))) H):=by
 intro pins s σ H x y v u Q I J Y h;obtain⟨rfl,q⟩:=h;cases Y;refine isnot_none_gen (cU I q ?_);cases x <;> first
  | (cases J;rfl)
  | (obtain⟨t,rfl⟩:=J;rfl)
theorem OpR.or(h:OpR X f r)(h':OpR X f r'):OpR X f (λx y H Q=>r x y H Q\/r' x y H Q):=by
 intro pins s σ H x y v u Q I J Y q;rcases q with q | q
 exact h pins s σ H x y v u Q I J Y q;exact h' pins s σ H x y v u Q I J Y q
theorem bK{b:KE}(h:op≠ .In:=by decide)(h2:op≠ .NotIn:=by decide):behindInMarks op b=false:=by
 have e1:(op == CmpOp.In)=false:=by cases op <;> first | rfl | exact absurd rfl h
 have e2:(op == CmpOp.NotIn)=false:=by cases op <;> first | rfl | exact absurd rfl h2
 cases b <;> simp[behindInMarks,e1,e2]
theorem jM(J:OpR X (compareOp op) r)(ha:PE X a ta)(hb:PE X b tb)(hm:behindInMarks op b=xL):PE X (.Compare a [op] [b] pos) (tOp r ta tb):=by intro pins s σ H Q I h;exact wpAny_Compare1 (Kn ha hb I h λv u s2 x y H2 Y rx ry q=>J pins s2 σ H2 x y v u Q Y rx ry q) hm
def Ii(t:TE):TT:=λσ H Q=>t σ H λx H'=>∃k,x=.bl k/\Q k H'
theorem bC(J:OpR X (compareOp op) r)(ha:PE X a ta)(hb:PE X b tb)(hm:behindInMarks op b=xL):PT X (.Compare a [op] [b] pos) (Ii (tOp r ta tb)):=by
 intro pins s σ H Q I h;refine Wi (thn (ha pins s σ H _ I h) λv s1 #[x,H1,I1,r1,q1]=>thn (hb pins s1 σ H1 _ I1 q1) λu s2 #[y,H2,I2,r2,q2]=>
  thn (J pins s2 σ H2 x y v u _ I2 r1 r2 q2) λc s3 #[z,H3,I3,r3,k,e,q3]=> ?_) hm
 subst e;cases r3;exact SQ #[H3,I3,q3]
def En(r r':R2)(ta tb tc:TE):TE:=λσ H Q=>ta σ H λx H1=>tb σ H1 λy H2=>r x y H2 λz J=>∃k,z=.bl k/\
 (if k=ss then tc σ J λY H4=>r' y Y H4 Q else Q (.bl xL) J)
theorem Kp {op J:CmpOp} (ho:OpR X (compareOp op) r) (Y:OpR X (compareOp J) r') (ha:PE X a ta) (hb:PE X b tb) (hc:PE X c tc)
 (hm:lastMarks [op,J] [b,c]=false:=by with_unfolding_all rfl):PE X (.Compare a [op,J] [b,c] pos) (En r r' ta tb tc):=by
 intro pins s σ H Q I h;refine Compare_chain (thn (ha pins s σ H _ I h) λv s1 #[x,H1,I1,r1,q1]=>chain_link (thn (hb pins s1 σ H1 _ I1 q1) λu s2 #[y,H2,I2,r2,q2]=>
  thn (ho pins s2 σ H2 x y v u _ I2 r1 r2 q2) λd s3 #[z,H3,I3,r3,k,e,q3]=> ?_)) hm
 subst e;cases r3;refine SQ ?_;cases k with
 | false=>exact ite_ff #[.bl xL,H3,I3,rfl,q3]
 | true=>exact ite_tt (chain_last (thn (hc pins s3 σ H3 _ I3 q3) λw' s4 #[z',H4,I4,r4,q4]=>Y pins s4 σ H4 y z' u w' Q I4 r2 r4 q4))
theorem Kt {op J:CmpOp} (ho:OpR X (compareOp op) r) (Y:OpR X (compareOp J) r') (ha:PE X a ta) (hb:PE X b tb) (hc:PE X c tc)
 (hm:lastMarks [op,J] [b,c]=false:=by with_unfolding_all rfl):PT X (.Compare a [op,J] [b,c] pos) (Ii (En r r' ta tb tc)):=by
 intro pins s σ H Q I h;refine isTrue_chain (thn (ha pins s σ H _ I h) λv s1 #[x,H1,I1,r1,q1]=>test_link (thn (hb pins s1 σ H1 _ I1 q1) λu s2 #[y,H2,I2,r2,q2]=>
  thn (ho pins s2 σ H2 x y v u _ I2 r1 r2 q2) λd s3 #[z,H3,I3,r3,k,e,q3]=> ?_)) hm
 subst e;cases r3;refine SQ ?_;cases k with
 | false=>
  obtain⟨k',e',q'⟩:=q3;cases e';exact ite_ff #[H3,I3,q']
 | true=>
  refine ite_tt (test_last (thn (hc pins s3 σ H3 _ I3 q3) λw' s4 #[z',H4,I4,r4,q4]=>thn (Y pins s4 σ H4 y z' u w' _ I4 r2 r4 q4) λd' s5 #[z2,H5,I5,r5,k2,e2,q5]=> ?_));subst e2;cases r5;exact SQ #[H5,I5,q5]
def Km(K:uY)(x:V)(H:Hp)(k:Bool):Prop:=
 match x with
 | .non=>k=xL
 | .bl b=>k=b
 | .int i=>k=(i != 0)
 | .str y=>y.length<=sizeLine/\k=((y.length:Int) != 0)
 | .byt y=>y.size<=sizeLine/\k=((y.size:Int) != 0)
 | .ref p=>(∃xs,SqL K H p xs/\k= !xs.isEmpty)\/(∃xs,SqT K H p xs/\k= !xs.isEmpty)\/∃J,H p=pr (.dK J)/\k= !J.isEmpty
 | _=>False
theorem Hl{Y:Type}{J:List (Y×V)}{vs:List (Y×sn)}(r:KV J vs):(!vs.isEmpty)= !J.isEmpty:=by cases r <;> rfl
theorem Aj{xs:List V}{J:List sn}(r:Vals xs J):(!J.toArray.isEmpty)= !xs.isEmpty:=by cases r <;> simp
theorem qd:(sizeLine:Nat)<2^63:=by rw[Ur];decide
theorem PZ:Rp X (λx H Q=>∃k,Km X.K x H k/\Q k H):=by
 intro pins s σ H x v Q I rx h;obtain⟨k,e,q⟩:=h;have hl:=qd;have hs:sizeLine=16777216:=Ur;cases x with
 | non=>
  cases rx;have e':k=false:=e;subst e';exact truthy_none #[H,I,q]
 | bl b=>
  cases rx;have e':k=b:=e;subst e';exact SQ #[H,I,q]
 | int i=>
  obtain⟨t,rfl⟩:=rx;have e':k=(i != 0):=e;subst e';exact PySem.P.truthy_int #[H,I,q]
 | str y=>
  obtain⟨t,rfl⟩:=rx;obtain⟨hy,e'⟩:y.length<=sizeLine/\k=((y.length:Int) != 0):=e;subst e';exact PySem.P.truthy_str ⋯ #[H,I.tok _,q]
 | byt y=>
  obtain⟨t,rfl⟩:=rx;obtain⟨hy,e'⟩:y.size<=sizeLine/\k=((y.size:Int) != 0):=e;subst e';exact PySem.W.truthy_bytes ⋯ #[H,I.tok _,q]
 | ref p=>
  cases rx;have e':(∃xs,SqL X.K H p xs/\k= !xs.isEmpty)\/(∃xs,SqT X.K H p xs/\k= !xs.isEmpty)\/∃J,H p=pr (.dK J)/\k= !J.isEmpty:=e;rcases e' with⟨xs,hx,e'⟩ | ⟨xs,hx,e'⟩ | ⟨J,hx,e'⟩
  subst e';obtain⟨ac,r,pl,hz⟩:=I.list hx;have Y:=r.length;exact wpAny_truthy_list pl.isList (by simp only[Ae];omega) #[H,I.tok _,by rw[Aj r];exact q];subst e';obtain⟨ac,r,pl,hz⟩:=I.tuple hx;have Y:=r.length;exact truthy_tuple pl (by simp only[Ae];omega) #[H,I.tok _,by rw[Aj r];exact q];subst e';obtain⟨hz,hS,vs,r,m⟩:J.length<=sizeLine/\(p == sysModules)=xL/\∃vs,KV J vs/\s.heap.DictOf (Bx X.prog X.w) p vs:=I.hok p _ hx;have Y:J.length=vs.length:=Paired.length r;exact wpAny_truthy_dict hS m ⋯ #[H,I.tok _,by rw[Hl r];exact q]
 | _=>exact(show False from e).elim
theorem KG(ha:PE X a ta)(Y:∀J,isTrue a X.env J=(do let v <- J;standAt a.pos;holding [v] (truthy v))):
 PT X a (λσ H Q=>ta σ H λx H'=>∃k,Km X.K x H' k/\Q k H'):=by
 intro pins s σ H Q I h;exact isTrue_plain (thn (ha pins s σ H _ I h) λv s1 #[x,H1,I1,r1,q1]=>PZ pins s1 σ H1 x v Q I1 r1 q1) (Y _)
theorem HR:OpR X (binaryOp .Add) (λx y H Q=>∃i j,x=.str i/\y=.str j/\i.length+j.length<=sizeLine/\Q (.str (i++j)) H):=by intro pins s σ H x y v u Q I J Y h;obtain⟨i,j,rfl,rfl,hz,q⟩:=h;obtain⟨t,rfl⟩:=J;obtain⟨t',rfl⟩:=Y;exact add_str (λt' tk=>#[.str (i++j),H,I.tok _,#[_,rfl],q]) hz
theorem vals1{x:V}(r:Vals [x] us):∃u,us=[u]/\RelV x u:=by
 cases r with
 | cons J Y=>cases Y;exact#[_,rfl,J]
theorem vals2{x y:V}(r:Vals [x,y] us):∃u J,us=[u,J]/\RelV x u/\RelV y J:=by
 cases r with
 | cons Y r2=>
  cases r2 with
  | cons r3 r4=>cases r4;exact#[_,_,rfl,Y,r3]
theorem Du:kT X (.builtin "abs") (λxs H Q=>∃i,xs=[.int i]/\Q (.int (if i<0 then -i else i)) H):=by intro pins s σ H xs us Q I r h;obtain⟨i,rfl,q⟩:=h;obtain⟨u,rfl,t,rfl⟩:=vals1 r;exact call_abs_int λu tk=>#[.int (if i<0 then -i else i),H,I.tok _,#[_,rfl],q]
theorem qQ(hc:X.calm=ss):kT X (.builtin "max") (λxs H Q=>∃i j,xs=[.int i,.int j]/\Q (.int (if j>i then j else i)) H):=by intro pins s σ H xs us Q I r h;obtain⟨i,j,rfl,q⟩:=h;obtain⟨u,Y,rfl,⟨t,rfl⟩,⟨t',rfl⟩⟩:=vals2 r;refine max_two_ints (I.ok.hd hc) λh' tk k=>#[_,H,I.kept k, ?_,q];by_cases J:j>i;rw[if_pos J,if_pos J];exact#[_,rfl];rw[if_neg J,if_neg J];exact#[_,rfl]
theorem vg:kT X (.type "int") (λxs H Q=>(∃i,xs=[.int i]/\Q (.int i) H)\/∃k,xs=[.bl k]/\Q (.int (if k then 1 else 0)) H):=by
 intro pins s σ H xs us Q I r h;rcases h with⟨i,rfl,q⟩ | ⟨k,rfl,q⟩
 obtain⟨u,rfl,t,rfl⟩:=vals1 r;exact call_int_int #[.int i,H,I,#[_,rfl],q];obtain⟨u,rfl,J⟩:=vals1 r;cases J;exact call_int_bool #[.int (if k then 1 else 0),H,I.tok _,#[_,rfl],q]
def Qo(K:uY)(x:V)(H:Hp)(n:Nat):Prop:=
 match x with
 | .str y=>y.length<=sizeLine/\n=y.length
 | .byt y=>y.size<=sizeLine/\n=y.size
 | .ref p=>(∃xs,SqL K H p xs/\n=xs.length)\/∃xs,SqT K H p xs/\n=xs.length
 | _=>False
theorem cy:kT X (.builtin "len") (λxs H Q=>∃x n,xs=[x]/\Qo X.K x H n/\Q (.int n) H):=by
 intro pins s σ H xs us Q I r h;obtain⟨x,n,rfl,e,q⟩:=h;obtain⟨u,rfl,Y⟩:=vals1 r;have hl:=qd;have hs:sizeLine=16777216:=Ur;cases x with
 | str y=>
  obtain⟨t,rfl⟩:=Y;obtain⟨hy,e'⟩:y.length<=sizeLine/\n=y.length:=e;subst e';exact len_str ⋯ #[.int _,H,I.tok _,#[_,rfl],q]
 | byt y=>
  obtain⟨t,rfl⟩:=Y;obtain⟨hy,e'⟩:y.size<=sizeLine/\n=y.size:=e;subst e';exact PySem.W.len_bytes ⋯ #[.int _,H,I.tok _,#[_,rfl],q]
 | ref p=>
  cases Y;have e':(∃xs,SqL X.K H p xs/\n=xs.length)\/∃xs,SqT X.K H p xs/\n=xs.length:=e;rcases e' with⟨xs,hx,e'⟩ | ⟨xs,hx,e'⟩
  subst e';obtain⟨ab,r',pl,hz⟩:=I.list hx;have J:=r'.length;exact Calls.call_len_list pl.isList (by simp only[Ae];omega) #[.int xs.length,H,I.tok _,#[_,by simp only[Ae];rw[J]],q];subst e';obtain⟨ab,r',pl,hz⟩:=I.tuple hx;have J:=r'.length;exact len_tuple pl (by simp only[Ae];omega) #[.int xs.length,H,I.tok _,#[_,by simp only[Ae];rw[J]],q]
 | _=>exact(show False from e).elim
end
structure yq(h:Rs)(x dx C:sK)(mA:Str->Option sn):Prop where
 obj:h.get? x=pr (TK C dx)
 ns:h.Ns1 dx mA
 ne:dx≠x
theorem Kg{dx:sK}{mA:Str->Option sn}(n:h.Ns1 dx mA):∃Y,h.get? dx=pr Y/\∀name,Vo name Y=pr (mA name):=by
 obtain⟨o,es,ep,ho,hd,hk,_,hm⟩:=n;refine#[o,ho,λname=> ?_];have e:=hm name;unfold nsFind findBy at e;rw[<- Array.find?_toList] at e;unfold Vo;rw[hd];dsimp only;split;rename_i y q;rw[q] at e;exact congrArg pr e;rename_i q;rw[q] at e;have a:es.toList.any (·.refKey)=false:=by rw[VC];intro y hy;obtain⟨z,t,J⟩:=hk y (Array.mem_toList_iff.mp hy);simp[DictEntry.refKey,J]
 have a':¬es.toList.any (·.refKey)=true:=by rw[a];exact Eb
 rw[if_neg a'];exact congrArg pr e
theorem yq.look{x dx C:sK}{mA:Str->Option sn}(I:yq h x dx C mA):∃J,PySem.W.InstAt h x (TK C dx) C (pr J)/\∀name,Vo name J=pr (mA name):=
 let #[J,ho,hl]:=Kg I.ns
 #[J,#[I.obj,rfl,rfl,ho],hl]
section
variable {prog : FS} {w : IN} {A : SN} {E : sn → vr → Prop} {s : vr} {K : uY} {x dx C f : sK} {mA : Str → Option sn} {name : Str} {v : sn}
theorem get_map {Y:Bool} {Q:sn->vr->Prop} (X:K.In s.heap) (I:yq s.heap x dx C mA) (hg:UD K C name=ss) (hh:UX K C=ss)
 (ha:Jn K (.ref C) name=pr qh) (hv:mA name=pr v) (ab:W1 v=ss) (h:Q v {s with toks:=s.toks+1}):
 wpAny (model prog w) A (getAttr (.ref x) name Y) Q E s:=by
 obtain⟨od,J,hl⟩:=I.look;exact PySem.W.get_value X J (Vi hg).1 (PySem.W.findObj_own hh ha rfl (by rw[hl,hv])) ab h
theorem Lc {pl:Sem Bool} {Q:sn×List sn->vr->Prop} (X:K.In s.heap) (I:yq s.heap x dx C mA) (Y:UD K C name=ss)
 (hf:Jn K (.ref C) name=pr (pr (.ref f))) (ht:Tz K (.ref f)=ss) (hv:mA name=qh) (h:Q (.ref f,[.ref x]) s):
 wpAny (model prog w) A (getMethod (.ref x) name pl) Q E s:=by
 obtain⟨od,J,hl⟩:=I.look;exact PySem.W.method_fn X J (Vi Y).1 (Vi Y).2 hf (beq_iff_eq.mp ht) (by show (Vo name od).map (·.isSome)=pr xL;rw[hl,hv];rfl) h
theorem OC {ns:List Str} {Q:Unit->vr->Prop} (X:K.In s.heap) (I:yq s.heap x dx C mA)
 (hs:Jn K (.ref C) "__setattr__" =pr (pr (.builtin "object.__setattr__"))) (hp:VD K C=ss) (ht:V6 K C name=pr qh) (hh:UX K C=ss)
 (hw:WB mA ns) (a2:ns.length<=sizeLine)
 (h:∀h',yq h' x dx C (λy=>if y=name then pr v else mA y)->Heap.SameBut dx s.heap h'->Q () {s with heap:=h',toks:=s.toks+2}):
 wpAny (model prog w) A (setAttr (.ref x) name v) Q E s:=by
 obtain⟨od,J,hl⟩:=I.look;refine PySem.W.set_plain X J hs (PySem.W.osa_open (s:={s with toks:=s.toks+1}) (r:=qh) X J hp ht λb=> ?_);obtain⟨cd,hc,ac⟩:=PySem.W.any_some hh;have hx:s.heap.get? x=pr #[.ref C,pr dx,.plain,#v[]]:=I.obj;refine xY (Ps (xY (xY (wpAny_loadPart hx (xY (XE (s:={s with toks:=s.toks+1}) (PySem.W.looks_clsIn X hc) ?_))))));rw[ac];refine Ps (a:=pr dx) (xY (Ps (xY ?_)));refine wpAny_nsSet1 (s:={s with toks:=s.toks+1}) I.ns λh' Y ab=> ?_;obtain⟨oD,a3,a4,am,an,ap⟩:=Y.count (PySem.Within.cons name v hw);refine xY (wpAny_lookBehind am (by rw[an];exact pastItsLine_dict (SE ap (by rw[AC];omega))) ?_);exact Ps (h _ #[(ab.2 _ (Ux I.ne)).trans I.obj,Y,I.ne] ab)
theorem LN {R:WF->vr->Prop} {vs:List sn} {kw:List (Str×sn)} (X:K.In s.heap) (hm:Wa K C=ss)
 (hi:Jn K (.ref C) "__init__" =pr (pr (.ref f))) (J:PySem.W.typeIn K (.ref f)=pr (.type "function"))
 (h:codeAny (model prog w) (A.under (.builtin "type.__call__" #[.ref C::vs,kw])) (.call (.ref f) #[.ref (s.heap.objs.size+1)::vs,kw]) (PySem.W.InitBack (s.heap.objs.size+1) R)
  {s with heap:=(s.heap.push Th).push (TK C s.heap.objs.size)}):
 codeAny (model prog w) A (.call (.ref C) #[vs,kw]) R s:=by
 obtain⟨Y,g,d,t,os⟩:=s;exact PySem.W.make_core (PySem.W.makes_of X hm) (PySem.W.looks_findIn X hi) (λself=>PySem.W.bind_fn X self J) (.inl rfl) h
end
def jZ(f:Str)(v:V):List (Str×V)->List (Str×V)
 | []=>[(f,v)]
 | (g,x)::r=>if g=f then (g,v)::r else (g,x)::jZ f v r
theorem yi(f g:Str)(v:V):∀fs:List (Str×V),(jZ f v fs).lookup g=if g=f then pr v else fs.lookup g
 | []=>by show Us g [(f,v)]=_;by_cases h:g=f;have hb:(g == f)=true:=beq_iff_eq.mpr h;simp only[Us,hb,if_pos h];have hb:(g == f)=false:=beq_eq_false_iff_ne.mpr h;simp only[Us,hb,if_neg h]
 | (k,x)::r=>by have J:=yi f g v r;rw[show jZ f v ((k,x)::r)=(if k=f then (k,v)::r else (k,x)::jZ f v r) from rfl];by_cases hk:k=f;rw[if_pos hk];by_cases h:g=k;have hb:(g == k)=true:=beq_iff_eq.mpr h;simp only[Us,hb,if_pos (h.trans hk)];have hb:(g == k)=false:=beq_eq_false_iff_ne.mpr h;simp only[Us,hb,if_neg (λe:g=f=>h (e.trans hk.symm))];rw[if_neg hk];by_cases h:g=k;have hb:(g == k)=true:=beq_iff_eq.mpr h;simp only[Us,hb,if_neg (λe:g=f=>hk (h.symm.trans e))];have hb:(g == k)=false:=beq_eq_false_iff_ne.mpr h;simp only[Us,hb];exact J
theorem wu(f:Str)(v:V):∀fs:List (Str×V),f∈(jZ f v fs).map (·.1)/\∀g,g∈fs.map (·.1)->g∈(jZ f v fs).map (·.1)
 | []=>#[by simp[jZ],λg h=>by simp at h]
 | (k,x)::r=>by
  obtain⟨J,Y⟩:=wu f v r;rw[show jZ f v ((k,x)::r)=(if k=f then (k,v)::r else (k,x)::jZ f v r) from rfl];by_cases hk:k=f;rw[if_pos hk];subst hk;exact#[by simp,λg h=>by simpa using h];rw[if_neg hk];refine#[?_,λg h=> ?_];rw[x0];exact wf _ J;rw[x0] at h ⊢;rcases wE.mp h with e | e
  exact wE.mpr (.inl e);exact wf _ (Y g e)
theorem yk(f:Str)(v:V):∀fs:List (Str×V),(jZ f v fs).length<=fs.length+1
 | []=>by simp[jZ]
 | (k,x)::r=>by have J:=yk f v r;rw[show jZ f v ((k,x)::r)=(if k=f then (k,v)::r else (k,x)::jZ f v r) from rfl];by_cases hk:k=f;rw[if_pos hk,AC,AC];omega;rw[if_neg hk,AC,AC];omega
theorem su.some_of{o:Option sn}(r:su (pr v) o):∃u,o=pr u/\RelV v u:=by
 cases o with
 | none=>exact(show False from r).elim
 | some u=>exact#[u,rfl,r]
theorem su.none_of{o:Option sn}(r:su qh o):o=none:=by
 cases o with
 | none=>rfl
 | some u=>exact(show False from r).elim
theorem JS(r:RelV v u):W1 u=true:=by
 cases v with
 | non=>cases (show u=Value.none from r);rfl
 | bl b=>cases (show u=Value.bool b from r);rfl
 | int i=>obtain⟨t,e⟩:=(show ∃t,u=Value.int i t from r);cases e;rfl
 | str x=>obtain⟨t,e⟩:=(show ∃t,u=Value.str x t from r);cases e;rfl
 | byt b=>obtain⟨t,e⟩:=(show ∃t,u=Value.bytes b t from r);cases e;rfl
 | flt b=>obtain⟨t,e⟩:=(show ∃t,u=Value.float b t from r);cases e;rfl
 | ref a=>cases (show u=Value.ref a from r);rfl
 | ty n=>cases (show u=Value.type n from r);rfl
section
variable {P : FS} {w : IN} {H H' : Hp} {h h' : Rs} {a C dx : sK} {fs fs' : List (Str × V)}
theorem Bu(J:HOk P w H h)(e:H a=pr (.ins C dx fs)):∃mA,yq h a dx C mA/\(∀f,su (fs.lookup f) (mA f))/\WB mA (fs.map (·.1))/\fs.length<=1000/\H dx=pr (.own a):=by obtain⟨d,z,ne,Y,mA,n,r,q⟩:=(show iV P w H h a (.ins C dx fs) from J a _ e);exact#[mA,#[Y,n,ne],r,q,z,d]
end
structure Cls(K:uY)(C:sK):Prop where
 pg:UD K C Str.empty=ss
 hd:UX K C=ss
 po:VD K C=ss
 sa:Jn K (.ref C) "__setattr__" =pr (pr (.builtin "object.__setattr__"))
theorem Cls.get(c:Cls K C)(f:Str):UD K C f=true:=c.pg
def fS(K:uY)(C:sK)(f:Str):Prop:=Jn K (.ref C) f=pr qh
theorem fS.taker{f:Str}(n:fS K C f):V6 K C f=pr none:=by unfold V6;rw[show Jn K (.ref C) f=pr qh from n];rfl
structure Con(K:uY)(C:sK)(f:Str)(v:V)(u:sn):Prop where
 at_:Jn K (.ref C) f=pr (pr u)
 rel:RelV v u
 get:WN K u "__get__" =pr qh
 cp:PySem.W.copiedNames.contains f=xL
structure Meth(K:uY)(C:sK)(m:Str)(f:sK):Prop where
 at_:Jn K (.ref C) m=pr (pr (.ref f))
 fn:Tz K (.ref f)=ss
 kp:SO K (.ref f)=ss
section
variable {X : Cx} {pins : List (sK × Obj)} {σ : St} {H : Hp} {s : vr} {a C dx : sK} {fs : List (Str × V)} {f : Str} {v : V} {A : SN} {E : sn → vr → Prop}
theorem HW {b:Bool} {Q:sn->vr->Prop} (I:Inv X pins σ H s) (e:H a=pr (.ins C dx fs)) (c:Cls X.K C) (n:fS X.K C f) (l:fs.lookup f=pr v)
 (h:∀u s',Inv X pins σ H s'->RelV v u->Q u s'):wpAny (model X.prog X.w) A (getAttr (.ref a) f b) Q E s:=by
 obtain⟨mA,O,r,_,_,_⟩:=Bu I.hok e;obtain⟨u,hu,J⟩:=su.some_of (v:=v) (o:=mA f) (by rw[<- l];exact r f);exact get_map I.kIn O (c.get f) c.hd n hu (JS J) (h u _ (I.tok _) J)
theorem tF {m:Str} {g:sK} {pl:Sem Bool} {Q:sn×List sn->vr->Prop} (I:Inv X pins σ H s) (e:H a=pr (.ins C dx fs)) (c:Cls X.K C) (k:Meth X.K C m g) (l:fs.lookup m=qh)
 (h:Q (.ref g,[.ref a]) s):wpAny (model X.prog X.w) A (getMethod (.ref a) m pl) Q E s:=by
 obtain⟨mA,O,r,_,_,_⟩:=Bu I.hok e;have hn:mA m=none:=su.none_of (by rw[<- l];exact r m);exact Lc I.kIn O (c.get m) k.at_ k.fn hn h
theorem HM {y:V} {Q:Unit->vr->Prop} (I:Inv X pins σ H s) (e:H a=pr (.ins C dx fs)) (c:Cls X.K C) (n:fS X.K C f) (hl:fs.length<1000) (Y:RelV y u)
 (h:∀s',Inv X pins σ (upd H a (.ins C dx (jZ f y fs))) s'->Q () s'):wpAny (model X.prog X.w) A (setAttr (.ref a) f u) Q E s:=by
 obtain⟨mA,O,r,wi,_,J⟩:=Bu I.hok e;have hz:(fs.map (·.1)).length<=sizeLine:=by rw[t3,Ur];omega
 refine OC I.kIn O c.sa c.po n.taker c.hd wi hz λh' O' sb=>h _ ?_;have hd:∃o,h'.get? dx=pr o:=let #[o,_,_,e',_]:=O'.ns;#[o,e']
 refine I.write (x:=a) (e:=dx) (by rw[e];exact U9) (.inr J) (λb q hb z=>(sb.2 b hb).trans z) hd ?_;refine#[by rw[aZ O.ne];exact J, ?_,O.ne,O'.obj,_,O'.ns,λg=> ?_,λg hg=> ?_];have:=yk f y fs;omega;show su ((jZ f y fs).lookup g) (if g=f then pr u else mA g);rw[yi];by_cases q:g=f;rw[if_pos q,if_pos q];exact Y;rw[if_neg q,if_neg q];exact r g;by_cases q:g=f;rw[q];exact(wu f y fs).1;refine(wu f y fs).2 g (wi g λz=>hg ?_);show (if g=f then pr u else mA g)=qh;rw[if_neg q];exact z
theorem Inv.made(I:Inv X pins σ H s):Inv X pins σ (upd (upd H s.heap.objs.size (.own (s.heap.objs.size+1))) (s.heap.objs.size+1) (.ins C s.heap.objs.size []))
 {s with heap:=(s.heap.push Th).push (TK C s.heap.objs.size)}:=by
 have e1:(s.heap.push Th).get? s.heap.objs.size=pr Th:=Heap.get?_push_size s.heap rfl;have e2:((s.heap.push Th).push (TK C s.heap.objs.size)).get? (s.heap.objs.size+1)=pr (TK C s.heap.objs.size):=by have:=Heap.get?_push_size (s.heap.push Th) (o:=TK C s.heap.objs.size) rfl;rwa [Heap.size_push] at this
 have e3:(s.heap.push Th).Ns s.heap.objs.size (λ_=>qh):=#[Th,#v[],_,e1,rfl,(λe J=>absurd J (by simp)),λ_=>rfl];have Y:=I.laid (a:=s.heap.objs.size) (o:=.own (s.heap.objs.size+1)) (h':=s.heap.push Th) (t':=s.toks) (λb u q=>Heap.get?_push_of_some _ q) (wS _) #[_,e1];refine Y.laid (a:=s.heap.objs.size+1) (o:=.ins C s.heap.objs.size []) (t':=s.toks) (λb u q=>Heap.get?_push_of_some _ q) (Nat.le_of_eq (Heap.size_push _ _)) ?_;have ne:s.heap.objs.size≠s.heap.objs.size+1:=Ix (UF _);refine#[by rw[aZ ne,dg],SU _,ne,e2,λ_=>qh,(Heap.Ns1.of_empty e3).at λo q=>Heap.get?_push_of_some _ q,λ_=>U9,λy hy=>absurd rfl hy]
theorem NZ {prog:FS} {w:IN} {env:Env} {f:Str} {pos:Pos} {s:vr} {Q:sn->vr->Prop} (hb:attributeBase e f env (eval e env)=eval e env)
 (h:wpAny (model prog w) A (eval e env) (λo J=>wpAny (model prog w) A (getAttr o f ss) Q E J) E s):wpAny (model prog w) A (eval (.Attribute e f pos) env) Q E s:=
 Attribute_any_ h (by rw[arm_eval_Attribute,hb])
end
def Qi(K:uY)(ta:TE)(f:Str):TE:=λσ H Q=>ta σ H λx H1=>∃a C dx fs v,x=.ref a/\H1 a=pr (.ins C dx fs)/\Cls K C/\fS K C f/\fs.lookup f=pr v/\Q v H1
def Qr(K:uY)(ta tv:TE)(f:Str):TS:=λD σ H=>tv σ H λy H1=>ta σ H1 λx H2=>∃a C dx fs,x=.ref a/\H2 a=pr (.ins C dx fs)/\Cls K C/\fS K C f/\fs.length<1000/\
 D.nx σ (upd H2 a (.ins C dx (jZ f y fs)))
section
variable {X : Cx} {o e value : KE} {f : Str} {pos pos' tpos : Pos} {ta tv : TE}
theorem vV(J:PE X e ta)(hb:attributeBase e f X.env (eval e X.env)=eval e X.env):PE X (.Attribute e f pos) (Qi X.K ta f):=by intro pins s σ H Q I h;refine NZ hb (thn (J pins s σ H _ I h) λu s1 #[x,H1,I1,rx,a,C,dx,fs,v,ex,ea,c,n,l,q]=> ?_);subst ex;obtain rfl:u=Value.ref a:=rx;exact HW I1 ea c n l λu' s2 Y ru=>#[v,H1,Y,ru,q]
theorem E3(ha:PE X o ta)(J:PE X value tv)(hs:swapsWith value (pr (.Attribute o f pos')) pos.line X.env=pure xL):PS X (.Assign [.Attribute o f pos'] value pos) (Qr X.K ta tv f):=by intro pins s σ H D I h;refine plainObj_wpAny_Assign_Attribute (thn (J pins s σ H _ I h) λu s1 #[y,H1,I1,ry,q]=>thn (ha pins s1 σ H1 _ I1 q) λov s2 #[x,H2,I2,rx,a,C,dx,fs,ex,ea,c,n,l,q2]=> ?_) hs;subst ex;obtain rfl:ov=Value.ref a:=rx;exact HM I2 ea c n l ry λs3 Y=>#[σ,_,Y,q2]
theorem Qw {pl:Sem Bool} {m:Str} {apos:Pos} {args:List KE} {Q:sn->vr->Prop} (Y:PE X e te) (I:Inv X pins σ H s)
 (h:te σ H λx H1=>∃a C dx fs g,x=.ref a/\H1 a=pr (.ins C dx fs)/\Cls X.K C/\Meth X.K C m g/\fs.lookup m=qh/\
  ∀s1,Inv X pins σ H1 s1->wpAny (model X.prog X.w) X.A (callWith pos (.ref g) [.ref a] (backTo pos (starEach args X.env)) (backToKw pos (keywordEach [] X.env))) Q X.xe s1)
 (ht:eval (.Call (.Attribute e m apos) args [] pos) X.env=(do
  let J <- eval e X.env
  standAt apos.atName
  let (f,first) <- holding [J] (getMethod J m pl)
  callWith pos f first (backTo pos (starEach args X.env)) (backToKw pos (keywordEach [] X.env)))):
 wpAny (model X.prog X.w) X.A (eval (.Call (.Attribute e m apos) args [] pos) X.env) Q X.xe s:=by
 refine U2 (pl:=pl) (thn (Y pins s σ H _ I h) λu s1 #[x,H1,I1,rx,a,C,dx,fs,g,ex,ea,c,k,l,q]=> ?_) ht;subst ex;obtain rfl:u=Value.ref a:=rx;exact tF I1 ea c k l (q s1 I1)
end
section
variable {X : Cx} {pins : List (sK × Obj)} {σ : St} {H : Hp} {s : vr} {A : SN} {E : sn → vr → Prop} {Q : sn → vr → Prop} {c : sn} {b : Bool}
inductive qA (K:uY) (H:Hp):V->sn->Prop where
 | non:qA K H .non (.type "NoneType")
 | bl (x:Bool):qA K H (.bl x) (.type "bool")
 | int (i:Int):qA K H (.int i) (.type "int")
 | str (x:Str):qA K H (.str x) (.type "str")
 | flt (x:UInt64):qA K H (.flt x) (.type "float")
 | lst {a:sK} {xs:List V} (e:H a=pr (.lst xs)):qA K H (.ref a) (.type "list")
 | frz {a:sK} {o:Obj} {xs:List V} (e:H a=pr (.frz o (.lst xs))):qA K H (.ref a) (.type "list")
 | tup {a:sK} {xs:List V} (e:H a=pr (.tup xs)):qA K H (.ref a) (.type "tuple")
 | dK {a:sK} {kvs:List (Key×V)} (e:H a=pr (.dK kvs)):qA K H (.ref a) (.type "dict")
 | dT {a:sK} {kvs:List (List Key×V)} (e:H a=pr (.dT kvs)):qA K H (.ref a) (.type "dict")
 | ins {a C dx:sK} {fs:List (Str×V)} (e:H a=pr (.ins C dx fs)) (cl:Cls K C) (ha:Jn K (.ref C) "__class__" =pr (pr (.builtin "object.__class__")))
  (hn:WN K (.builtin "object.__class__") "__get__" =pr (pr (.builtin "getset_descriptor.__get__"))) (htk:PySem.W.takesIn K (.builtin "object.__class__")=pr ss)
  (hm:PySem.W.mroIn K C (.type "object")=pr ss):qA K H (.ref a) (.ref C)
end
structure fU(k:Nat)(A:SN):Prop where
 hd:A.handled=qh
 dp:A.depth+3*k+5<recursionLimit
 un:A.units+16*k+200<cLine
theorem fU.mono{j k:Nat}(r:fU k A)(h:j<=k):fU j A:=#[r.hd,by have:=r.dp;omega,by have:=r.un;omega]
theorem fU.deeper(r:fU (k+1) A)(env:Env):fU k (A.deeper env):=
 #[r.hd,by have:=r.dp;show A.depth+1+3*k+5<_;omega,by have:=r.un;show A.units+3+16*k+200<_;omega]
theorem HP:(A.under (.builtin "type.__call__" #[.ref C::us,kw])).depth=A.depth+1:=by first | rfl | simp[Around.under,Code.weight,Code.isCreation,Code.isGuard,Code.isCaller,Code.frames,Code.isFrame,guardIds]
theorem Hx:(A.under (.builtin "type.__call__" #[.ref C::us,kw])).units=A.units+1:=by first | rfl | simp[Around.under,Code.cUnits,Code.frames,Code.isFrame]
theorem fU.make(r:fU (k+1) A)(C:sK)(us:List sn)(kw:List (Str×sn)):fU k (A.under (.builtin "type.__call__" #[.ref C::us,kw])):=
 #[r.hd,by have:=r.dp;rw[HP];omega,by have:=r.un;rw[Hx];omega]
theorem fU.depth(r:fU k A):A.depth<recursionLimit:=by have:=r.dp;omega
theorem fU.units(r:fU k A):A.units+64<cLine:=by have:=r.un;omega
def o5:TA:=λ_ H Q=>Q [] H
def kR(ta:TE)(J:TA):TA:=λσ H Q=>ta σ H λx H1=>J σ H1 λxs H2=>Q (x::xs) H2
section
variable {X : Cx} {e : KE} {es : List KE} {te : TE} {t : TA} {pos : Pos}
theorem aq:PA X [] o5:=λ_ _ _ _ H Q I h=>Calls.spliced_nil #[[],H,I,.nil,h]
theorem ah(ha:PE X e te)(hr:PA X es t)(hs:starEach (e::es) X.env=(xL,eval e X.env)::starEach es X.env:=by rfl):PA X (e::es) (kR te t):=by intro pos pins s σ H Q I h;rw[hs];show wpAny _ _ (spliced ((xL,eval e X.env)::backTo pos (starEach es X.env))) _ _ s;refine Calls.spliced_cons (thn (ha pins s σ H _ I h) λu s1 #[x,H1,I1,r1,q1]=> ?_);exact thn (hr pos pins s1 σ H1 _ I1 q1) λus s2 #[xs,H2,I2,r2,q2]=>#[x::xs,H2,I2,.cons r1 r2,q2]
def O7(t:TA):TE:=λσ H Q=>t σ H λxs H1=>xs.length<=sizeLine/\∀p,H1 p=qh->Q (.ref p) (upd H1 p (.tup xs))
def ER(t:TA):TE:=λσ H Q=>t σ H λxs H1=>xs.length<=sizeLine/\∀p,H1 p=qh->Q (.ref p) (upd H1 p (.lst xs))
theorem ko{x1}(h:PA X es t):PE X (.Tuple es x1 pos) (O7 t):=by intro pins s σ H Q I hq;refine wpAny_Tuple_spliced (thn (h pos pins s σ H _ I hq) λus s1 #[xs,H1,I1,r,z,q]=>#[by rw[<- r.length];exact z, ?_]);have J:H1 s1.heap.objs.size=none:=I1.hok.fresh (wS _);refine#[.ref s1.heap.objs.size,upd H1 s1.heap.objs.size (.tup xs),I1.laid (t':=s1.toks) (λb u e=>Heap.get?_push_of_some _ e) (wS _) ?_,rfl,q _ J];exact#[z,us,r,#[_,Heap.get?_push_size _ rfl,rfl,_,rfl]]
theorem fJ(h:PA X es t):PE X (.List es pos) (ER t):=by intro pins s σ H Q I hq;refine wpAny_List_spliced (thn (h pos pins s σ H _ I hq) λus s1 #[xs,H1,I1,r,z,q]=>#[by rw[<- r.length];exact z, ?_]);have J:H1 s1.heap.objs.size=none:=I1.hok.fresh (wS _);refine#[.ref s1.heap.objs.size,upd H1 s1.heap.objs.size (.lst xs),I1.laid (t':=s1.toks) (λb u e=>Heap.get?_push_of_some _ e) (wS _) ?_,rfl,q _ J];exact#[z,us,0,r,Heap.get?_push_size _ rfl]
end
abbrev Sp:=List V->Hp->VK->XK->Prop
abbrev CXT:=List Env->Hp->vr->XK->sn->vr->Prop
structure vR(P:FS)(w:IN)(K:uY)(mg:Str->Option sn)(base:Rs)(A:SN)(outer:List Env)(s:vr)(H:Hp):Prop where
 frames:A.frames=pr outer
 mod:Mod K mg base
 bs:∀b o,base.get? b=pr o->s.heap.get? b=pr o/\H b=qh
 bsz:base.objs.size<=s.heap.objs.size
 funs:s.heap.FunFrames base outer
 frf:∀b∈frs outer,H b=qh
 hok:HOk P w H s.heap
 bare:UU s.gens
def CE(outer:List Env)(P:FS)(w:IN)(H:Hp)(s:vr)(Q:VK)(u:sn)(s':vr):Prop:=
 ∃v H',s'.os=s.os/\UU s'.gens/\Un (frs outer) [] H H' s.heap s'.heap/\HOk P w H' s'.heap/\RelV v u/\Q v H'
def CR(CX:CXT)(outer:List Env)(P:FS)(w:IN)(H:Hp)(s:vr)(Q:VK)(E:XK)(r:WF)(s':vr):Prop:=
 match r with
 | .ok (.ret u)=>CE outer P w H s Q u s'
 | .ok _=>False
 | .error e=>CX outer H s E e s'
structure lE(P:FS)(w:IN)(K:uY)(mg:Str->Option sn)(base:Rs)(CX:CXT)(k:Nat)(f:sK)(fd:Tr)(ps:List Str)(sp:Sp):Prop where
 len:∀vs H Q E,sp vs H Q E->vs.length=ps.length
 run:∀(A:SN) (outer:List Env) (s:vr) (H:Hp) (args:Args) (us:List sn) (vs:List V) (Q:VK) (E:XK),fU k A->vR P w K mg base A outer s H->Vk s fd args (ps.zip us)->Vals vs us->sp vs H Q E->
  codeAny (model P w) A (.call (.ref f) args) (CR CX outer P w H s Q E) s
theorem vR.make{outer:List Env}(e:vR P w K mg base A outer s H)(C:sK)(us:List sn)(kw:List (Str×sn)):
 vR P w K mg base (A.under (.builtin "type.__call__" #[.ref C::us,kw])) outer s H:=#[by first | exact e.frames | (simpa[Around.under,Code.envs,Code.isFrame,pushEnvs] using e.frames),e.mod,e.bs,e.bsz,e.funs,e.frf,e.hok,e.bare]
section
variable {X : Cx} {pins : List (sK × Obj)} {σ : St} {H : Hp} {s s' : vr}
theorem Inv.env0(I:Inv X pins σ H s):vR X.prog X.w X.K X.mg X.base X.A X.stack s H:=
 #[I.ok.frames,I.ok.mod,I.bs,SE I.ok.bsz I.sz,I.stack,I.stkFree,I.hok,I.bare]
theorem Inv.after{Q:VK}(I:Inv X pins σ H s)(h:CE X.stack X.prog X.w H s Q u s'):EP X pins σ Q u s':=by obtain⟨v,H',os,J,un,Y,r,q⟩:=h;obtain⟨hh,g,d,t,ab⟩:=s';obtain rfl:ab=s.os:=os;exact#[v,H',I.call (h':=hh) (g':=g) (d':=d) (t':=t) (ch:=[]) un Y J (λb z=>absurd z (by simp)),r,q]
end
def uk(sp:Sp)(dvs:List V)(E:XK)(t:TA):TE:=λσ H Q=>t σ H λvs H1=>sp (vs++dvs) H1 Q E
def Hu(C:sK)(m:Str)(sp:Sp)(dvs:List V)(E:XK)(ta:TE)(t:TA):TE:=λσ H Q=>ta σ H λx H1=>∃a dx fs,x=.ref a/\H1 a=pr (.ins C dx fs)/\fs.lookup m=qh/\
 t σ H1 λvs H2=>sp (x::(vs++dvs)) H2 Q E
def Mu(C:sK)(sp:Sp)(dvs:List V)(E:XK)(t:TA):TE:=λσ H Q=>t σ H λvs H1=>∀x dx,H1 x=qh->H1 dx=qh->dx≠x->
 sp (.ref x::(vs++dvs)) (upd (upd H1 dx (.own x)) x (.ins C dx [])) (λv H2=>v=.non/\Q (.ref x) H2) E
def Binds(K:uY)(fd:Tr)(ps:List Str)(ds:List sn):Prop:=
 ∀(s:vr) (us:List sn),K.In s.heap->(us++ds).length=ps.length->Vk s fd #[us,[]] (ps.zip (us++ds))
theorem Binds.all{fd:Tr}{ps:List Str}(h:∀us:List sn,us.length=ps.length->bindArgs fd #[us,[]]=pure (ps.zip us)):Binds K fd ps []:=λs us _ J=>by rw[TJ] at J ⊢;exact .of_eq (h us J)
def Passes(CX:CXT)(X:Cx)(E:XK):Prop:=∀(pins:List (sK×Obj)) (σ:St) (H:Hp) (s:vr) (e:sn) (s':vr),Inv X pins σ H s->CX X.stack H s E e s'->X.xe e s'
section
variable {X : Cx} {CX : CXT} {k : Nat} {f C : sK} {fd : Tr} {ps : List Str} {sp : Sp} {dvs : List V} {ds : List sn} {E : XK} {x m : Str} {p pos apos : Pos} {e o : KE} {es : List KE} {ta : TE} {t : TA}
theorem DG {pins:List (sK×Obj)} {σ:St} {H:Hp} {s:vr} {Q:VK} {us:List sn} {vs:List V} (F:lE X.prog X.w X.K X.mg X.base CX k f fd ps sp) (hr:fU k X.A) (hb:Binds X.K fd ps ds) (hd:Vals dvs ds) (hx:Passes CX X E)
 (I:Inv X pins σ H s) (r:Vals vs us) (h:sp (vs++dvs) H Q E):wpAny (model X.prog X.w) X.A (call (.ref f) us) (EP X pins σ Q) X.xe s:=by
 have J:Vals (vs++dvs) (us++ds):=r.append hd;have Y:(us++ds).length=ps.length:=by rw[<- J.length];exact F.len _ _ _ _ h
 refine wpAny_call (VP (F.run X.A X.stack s H #[us,[]] (us++ds) (vs++dvs) Q E hr I.env0 (hb s us I.kIn Y) J h) λr s' hq=> ?_);cases r with
 | error e=>exact hx pins σ H s e s' I hq
 | ok fl=>
  cases fl with
  | ret u=>exact I.after hq
  | next=>exact sH hq
  | brk=>exact sH hq
  | cont=>exact sH hq
theorem Nl (F:lE X.prog X.w X.K X.mg X.base CX k f fd ps sp) (hr:fU k X.A) (hg:Gl X x) (hm:X.mg x=pr (.ref f)) (hk:SO X.K (.ref f)=ss) (hb:Binds X.K fd ps ds) (hd:Vals dvs ds) (hx:Passes CX X E)
 (ha:PA X (e::es) t) (J:(x == ("__debug__" :Str))=false:=by decide) (he:starEach (e::es) X.env=(xL,eval e X.env)::starEach es X.env:=by rfl) (Y:(backTo pos (starEach es X.env)).any (·.1)=false:=by rfl):
 PE X (.Call (.Name x p) (e::es) [] pos) (uk sp dvs E t):=by
 intro pins s σ H Q I h;refine UQ (Bk I hg hm ?_ J);refine Vv (h₀:=X.base) I.ok.mod.kin hk (thn (ha pos pins s σ H _ I h) λus s1 #[vs,H1,I1,r,q]=>#[I1.kIn, ?_]) he Y;exact DG F hr hb hd hx I1 r q
theorem nM {pl:Sem Bool} (he:PE X o ta) (c:Cls X.K C) (hm:Meth X.K C m f) (F:lE X.prog X.w X.K X.mg X.base CX k f fd ps sp) (hr:fU k X.A) (hb:Binds X.K fd ps ds) (hd:Vals dvs ds) (hx:Passes CX X E) (ha:PA X (e::es) t)
 (J:starEach (e::es) X.env=(xL,eval e X.env)::starEach es X.env:=by rfl) (Y:(backTo pos (starEach es X.env)).any (·.1)=false:=by rfl)
 (ht:eval (.Call (.Attribute o m apos) (e::es) [] pos) X.env=(do
  let ov <- eval o X.env
  standAt apos.atName
  let (f,first) <- holding [ov] (getMethod ov m pl)
  callWith pos f first (backTo pos (starEach (e::es) X.env)) (backToKw pos (keywordEach [] X.env))):=by rfl):
 PE X (.Call (.Attribute o m apos) (e::es) [] pos) (Hu C m sp dvs E ta t):=by
 intro pins s σ H Q I h;refine U2 (pl:=pl) (thn (he pins s σ H _ I h) λu s1 #[x,H1,I1,rx,a,dx,fs,ex,ea,l,q]=> ?_) ht;subst ex;obtain rfl:u=Value.ref a:=rx;refine tF I1 ea c hm l ?_;refine Vv (first:=[.ref a]) (h₀:=X.base) I.ok.mod.kin hm.kp (thn (ha pos pins s1 σ H1 _ I1 q) λus s2 #[vs,H2,I2,r,q2]=>#[I2.kIn, ?_]) J Y;exact DG (us:=.ref a::us) (vs:=.ref a::vs) F hr hb hd hx I2 (.cons rfl r) q2
theorem jq {pl:Sem Bool} (Y:PE X o ta) (c:Cls X.K C) (hm:Meth X.K C m f) (F:lE X.prog X.w X.K X.mg X.base CX k f fd ps sp) (hr:fU k X.A) (hb:Binds X.K fd ps ds) (hd:Vals dvs ds) (hx:Passes CX X E)
 (ht:eval (.Call (.Attribute o m apos) [] [] pos) X.env=(do
  let J <- eval o X.env
  standAt apos.atName
  let (f,first) <- holding [J] (getMethod J m pl)
  callWith pos f first (backTo pos (starEach [] X.env)) (backToKw pos (keywordEach [] X.env))):=by rfl):
 PE X (.Call (.Attribute o m apos) [] [] pos) (Hu C m sp dvs E ta o5):=by
 intro pins s σ H Q I h;refine U2 (pl:=pl) (thn (Y pins s σ H _ I h) λu s1 #[x,H1,I1,rx,a,dx,fs,ex,ea,l,q]=> ?_) ht;subst ex;obtain rfl:u=Value.ref a:=rx;refine tF I1 ea c hm l ?_;exact PySem.W.callWith_K0 (first:=[.ref a]) I1.kIn hm.kp (DG (us:=[.ref a]) (vs:=[.ref a]) F hr hb hd hx I1 (.cons rfl .nil) q)
structure Mk(K:uY)(C f:sK):Prop where
 makes:Wa K C=ss
 init:Jn K (.ref C) "__init__" =pr (pr (.ref f))
 fn:Tz K (.ref f)=ss
 kp:SO K (.ref C)=ss
theorem KI {pins:List (sK×Obj)} {σ:St} {H:Hp} {s:vr} {Q:VK} {us:List sn} {vs:List V} (M:Mk X.K C f) (F:lE X.prog X.w X.K X.mg X.base CX k f fd ps sp) (hr:fU (k+1) X.A) (hb:Binds X.K fd ps ds) (hd:Vals dvs ds)
 (hx:Passes CX X E) (I:Inv X pins σ H s) (r:Vals vs us)
 (h:∀x dx,H x=qh->H dx=qh->dx≠x->sp (.ref x::(vs++dvs)) (upd (upd H dx (.own x)) x (.ins C dx [])) (λv H2=>v=.non/\Q (.ref x) H2) E):
 wpAny (model X.prog X.w) X.A (call (.ref C) us) (EP X pins σ Q) X.xe s:=by
 have hq:=h (s.heap.objs.size+1) s.heap.objs.size (I.hok.fresh (Vs _)) (I.hok.fresh (wS _)) (Ix (UF _));have J:=Inv.made (C:=C) I;have Y:Vals (V.ref (s.heap.objs.size+1)::(vs++dvs)) (Value.ref (s.heap.objs.size+1)::(us++ds)):=.cons rfl (r.append hd);have hl:(Value.ref (s.heap.objs.size+1)::us++ds).length=ps.length:=by have e:=Y.length;rw[F.len _ _ _ _ hq] at e;exact e.symm
 refine wpAny_call (LN (f:=f) I.kIn M.makes M.init (beq_iff_eq.mp M.fn) (VP (F.run _ X.stack _ _ #[Value.ref (s.heap.objs.size+1)::us,[]] (Value.ref (s.heap.objs.size+1)::(us++ds)) _ _ E (hr.make C us [])
  (J.env0.make C us []) (hb _ (Value.ref (s.heap.objs.size+1)::us) J.kIn hl) Y hq) λr s' hq'=> ?_))
 cases r with
 | error e=>exact hx pins σ _ _ e s' J hq'
 | ok fl=>
  cases fl with
  | ret u=>
   obtain⟨v,H',I3,rv,ev,q3⟩:=J.after hq';subst ev;exact#[rv,#[V.ref (s.heap.objs.size+1),H',I3,rfl,q3]]
  | next=>exact sH hq'
  | brk=>exact sH hq'
  | cont=>exact sH hq'
theorem NC (M:Mk X.K C f) (F:lE X.prog X.w X.K X.mg X.base CX k f fd ps sp) (hr:fU (k+1) X.A) (hg:Gl X x) (hm:X.mg x=pr (.ref C)) (hb:Binds X.K fd ps ds) (hd:Vals dvs ds) (hx:Passes CX X E)
 (ha:PA X (e::es) t) (J:(x == ("__debug__" :Str))=false:=by decide) (he:starEach (e::es) X.env=(xL,eval e X.env)::starEach es X.env:=by rfl) (Y:(backTo pos (starEach es X.env)).any (·.1)=false:=by rfl):
 PE X (.Call (.Name x p) (e::es) [] pos) (Mu C sp dvs E t):=by
 intro pins s σ H Q I h;refine UQ (Bk I hg hm ?_ J);refine Vv (h₀:=X.base) I.ok.mod.kin M.kp (thn (ha pos pins s σ H _ I h) λus s1 #[vs,H1,I1,r,q]=>#[I1.kIn, ?_]) he Y;exact KI M F hr hb hd hx I1 r q
end
section
variable {X : Cx} {CX : CXT} {k : Nat} {f C : sK} {fd : Tr} {ps ks : List Str} {sp : Sp} {E : XK} {x m : Str} {p pos apos kpos : Pos} {e o : KE} {es : List KE} {kws : List Keyword} {te ta : TE} {t tk : TA} {nm : Option Str}
structure R4(K:uY)(fd:Tr)(ps ks:List Str)(g:List sn->List sn->List sn)(gV:List V->List V->List V):Prop where
 to:∀(s:vr) (us ws:List sn),K.In s.heap->(g us ws).length=ps.length->Vk s fd #[us,ks.zip ws] (ps.zip (g us ws))
 rel:∀{vs:List V} {us:List sn} {zs:List V} {ws:List sn},Vals vs us->Vals zs ws->Vals (gV vs zs) (g us ws)
variable {g : List sn → List sn → List sn} {gV : List V → List V → List V}
end
structure aY(N P:List Str)(sc:Ua):Prop where
 kind:sc.kind=.function
 co:sc.isCoroutine=xL
 gen:sc.isGenerator=xL
 nd:N.Nodup
 pre:N.take P.length=P
 par:∀x∈P,sc.names.lookup x=pr .local\/sc.names.lookup x=pr .cell
 nofree:∀y∈sc.names,y.2≠ .free
theorem B5{kindOf:Str->Option TV}{x:Str}:∀{binds:List (Str×sn)} {m:Str->Option sn},(∀v,(x,v)∉binds)->bindL kindOf binds m x=m x
 | [],_,_=>rfl
 | (n,v)::r,m,h=>by
  unfold bindL;rw[B5 λw J=>h w (wf _ J)];split;have:x≠n:=by rintro rfl;exact h v wp
  simp[this];rfl
theorem B8{kindOf:Str->Option TV}{x:Str}:∀{binds:List (Str×sn)} {m:Str->Option sn},(∀v,(x,v)∉binds)->bindC kindOf binds m x=m x
 | [],_,_=>rfl
 | (n,v)::r,m,h=>by
  unfold bindC;rw[B8 λw J=>h w (wf _ J)];split;rfl;have:x≠n:=by rintro rfl;exact h v wp
  simp[this]
theorem CD{kindOf:Str->Option TV}{x:Str}{v:sn}:∀{P:List Str} {vs:List sn} {i:Nat} {m:Str->Option sn},P.Nodup->P[i]? =pr x->vs[i]? =pr v->kindOf x=pr .local->
 bindL kindOf (P.zip vs) m x=pr v
 | [],_,_,_,_,h,_,_=>by simp at h
 | _::_,[],_,_,_,_,h,_=>by simp at h
 | p::P,w::vs,0,m,nd,h1,h2,hk=>by simp at h1 h2;subst h1;subst h2;show bindL kindOf ((p,w)::P.zip vs) m p=_;unfold bindL;rw[B5 λv J=>(Tv.mp nd).1 (Fk J).1,if_pos hk];simp
 | p::P,w::vs,i+1,m,nd,h1,h2,hk=>by show bindL kindOf ((p,w)::P.zip vs) m x=_;unfold bindL;exact CD (i:=i) (Tv.mp nd).2 (by simpa using h1) (by simpa using h2) hk
theorem Cq{kindOf:Str->Option TV}{x:Str}{v:sn}:∀{P:List Str} {vs:List sn} {i:Nat} {m:Str->Option sn},P.Nodup->P[i]? =pr x->vs[i]? =pr v->kindOf x≠pr .local->
 bindC kindOf (P.zip vs) m x=pr v
 | [],_,_,_,_,h,_,_=>by simp at h
 | _::_,[],_,_,_,_,h,_=>by simp at h
 | p::P,w::vs,0,m,nd,h1,h2,hk=>by simp at h1 h2;subst h1;subst h2;show bindC kindOf ((p,w)::P.zip vs) m p=_;unfold bindC;rw[B8 λv J=>(Tv.mp nd).1 (Fk J).1,if_neg hk];simp
 | p::P,w::vs,i+1,m,nd,h1,h2,hk=>by show bindC kindOf ((p,w)::P.zip vs) m x=_;unfold bindC;exact Cq (i:=i) (Tv.mp nd).2 (by simpa using h1) (by simpa using h2) hk
def start(N:List Str)(vs:List V):St:=vs.map pr++wn (N.length-vs.length) qh
def wM(CX:CXT)(P:FS)(w:IN)(K:uY)(mg:Str->Option sn)(base:Rs)(N:List Str)(qual:Str)(scope:Ua)(f:sK)(cd:sn)(A:SN)(outer:List Env)(s:vr)(H:Hp)(E:XK):Cx where
 prog:=P
 w:=w
 K:=K
 mg:=mg
 base:=base
 A:=A.deeper (envOfC qual scope s.heap.objs.size f cd)
 N:=N
 s₀:=s
 H₀:=H
 env:=envOfC qual scope s.heap.objs.size f cd
 outer:=outer
 stack:=envOfC qual scope s.heap.objs.size f cd::outer
 ex:=[]
 calm:=true
 fn:=λ_=>ss
 pn:=[]
 xe:=λe s'=>wpAny (model P w) (A.deeper (envOfC qual scope s.heap.objs.size f cd)) (leaving (envOfC qual scope s.heap.objs.size f cd) e) (λ_ s''=>CX outer H s E e s'') (λe' s''=>CX outer H s E e' s'') s'
theorem DY{sc:Ua}{n:Nat}(h:sc.names.lookup x=pr .cell):∃c,(cellsFrom n sc.names []).lookup x=pr c:=by have q:=Uu sc.names n [] (.inl h);exact VS.mp q
theorem Ir {CX:CXT} {P:FS} {w:IN} {K:uY} {mg:Str->Option sn} {base:Rs} {N ps:List Str} {qual:Str} {scope:Ua} {f:sK} {cd:sn} {A:SN} {outer:List Env} {s s1:vr} {H:Hp} {E:XK} {us:List sn} {vs:List V}
 (S:aY N ps scope) (hd:A.handled=qh) (J:vR P w K mg base A outer s H) (hl:vs.length=ps.length) (r:Vals vs us)
 (x:InCallC s s.heap.objs.size (bindL (envOfC qual scope s.heap.objs.size f cd).kindOf (ps.zip us) λ_=>qh) (cellsFrom (s.heap.objs.size+1) scope.names []) (bindC (envOfC qual scope s.heap.objs.size f cd).kindOf (ps.zip us) λ_=>qh) s1):
 Inv (wM CX P w K mg base N qual scope f cd A outer s H E) [] (start N vs) H s1:=by
 have ac:ps.length<=N.length:=by have:=congrArg TH S.pre;rw[TY] at this;omega
 obtain⟨h1,tk,rfl,hk⟩:=x.done;have Y:∀b:sK,b∉(wM CX P w K mg base N qual scope f cd A outer s H E).ex:=λb z=>absurd (show b∈([]:List sK) from z) (by simp);refine#[#[J.mod,S.kind,rfl,rfl,wS _,λy z c h1 h2=> ?_,λy hy=> ?_,λy c _ h=> ?_,λ_=>hd,Around.frames_deeper J.frames,.inr #[rfl,rfl],λb z=>absurd z (Y b),J.bs,J.bsz,λb _ _=>Y b,λb z=>absurd z (Y b),J.funs,J.frf],
  rfl,J.bare,Un.kept hk,#[_,x.toInCall.ns,λi y v h1 h2 h3=> ?_],λy c h=>#[_,x.cell y c h],J.hok.fresh (wS _),λy c h=> ?_,λp hp=>absurd (show p∈([]:List (sK×Obj)) from hp) (by simp),J.hok.kept hk, ?_]
 exact name_of_addr x.apart (Uj h1) (Uj h2);have hy:scope.names.lookup y=pr .cell\/scope.names.lookup y=pr .free:=hy;rcases hy with hy | hy
 exact DY hy;exact absurd rfl (S.nofree _ (Uj hy));exact T6 (x.above y c (Uj h));have hi:i<vs.length:=by unfold start at h2;by_cases hi:i<vs.length;exact hi;rw[wP (by simpa using hi)] at h2;rw[IR] at h2;split at h2 <;> cases h2
 have ha:vs[i]? =pr v:=by
  unfold start at h2;rw[AT (by simpa using hi),wT] at h2;cases e:vs[i]? with
  | none=>rw[e] at h2;cases h2
  | some a=>rw[e] at h2;cases h2;rfl
 obtain⟨u,hu,rv⟩:=r.get ha;have hp:ps[i]? =pr y:=by rw[<- S.pre,VY ⋯];exact h1
 have ab:ps.Nodup:=by rw[<- S.pre];exact S.nd.sublist (List.take_sublist _ _)
 refine#[u,rv, ?_];rcases S.par y (SI hp) with k | k
 exact .inl #[k,CD ab hp hu k];obtain⟨c,e⟩:=DY (n:=s.heap.objs.size+1) k;refine .inr #[.inl k,c,e, ?_];have q:=x.cell y c e;rw[Cq ab hp hu (by show scope.names.lookup y≠_;rw[k];decide)] at q;exact q;exact J.hok.fresh (T6 (x.above y c (Uj h)));unfold start;show _=N.length;rw[Do,t3,UB];omega
theorem QQ {CX:CXT} {P:FS} {w:IN} {K:uY} {mg:Str->Option sn} {base:Rs} {k:Nat} {f:sK} {name qual:Str} {ab:Arguments} {body:List Uy} {scope:Ua} {dV kV as pm Y ct oc:sn} {an od:Option sK}
 {a4:Array (Option sn)} {N ps:List Str} {sp:Sp} (lk:K.lookup f=pr #[oc,od,.func (SH name qual ab body scope dV kV as pm an Y ct),a4]) (a5:S3 K Y qual=ss) (S:aY N ps scope)
 (az:∀vs H Q E,sp vs H Q E->vs.length=ps.length)
 (am:∀(A:SN) (outer:List Env) (s:vr) (H:Hp) (vs:List V) (Q:VK) (E:XK),fU k (A.deeper (envOfC qual scope s.heap.objs.size f Y))->sp vs H Q E->
  ∃t,PSs (wM CX P w K mg base N qual scope f Y A outer s H E) body t/\t {nx:=λ_ H'=>Q .non H',rt:=Q} (start N vs) H):
 lE P w K mg base CX (k+1) f (SH name qual ab body scope dV kV as pm an Y ct) ps sp:=by
 refine#[az,λA outer s H args us vs Q E hr e0 hb r a2=> ?_];have hl:=az _ _ _ _ a2;have KX:K.In s.heap:=e0.mod.kin.keeps λb o e=>(e0.bs b o e).1;have bb:s.heap.NoLimit:=e0.mod.nolimit.keeps λb o e=>(e0.bs b o e).1;have ap:∀y∈ps.zip us,scope.names.lookup y.1=pr .local\/(scope.names.lookup y.1=pr .cell/\((cellsFrom (s.heap.objs.size+1) scope.names []).lookup y.1).isSome=ss):=λ#[n,v] hy=>by rcases S.par n (Fk hy).1 with q | q;exact .inl q;exact .inr #[q,Uu _ _ _ (.inl q)]
 refine codeAny_call_function hr.depth (KX _ _ lk) rfl S.co S.gen rfl (PySem.W.codeRec_of KX a5) (hb _ _ _ _ ?_);refine wpAny_newFunctionEnv_cells S.kind ap λenv he s1 x=> ?_;subst he;refine#[bb.keeps x.toInCall.keep,codeAny_func ?_];obtain⟨t,ht,hq⟩:=am A outer s H vs Q E (hr.deeper _) a2;have I:Inv (wM CX P w K mg base N qual scope f Y A outer s H E) [] (start N vs) H s1:=Ir S hr.hd e0 hl r x;refine T3 (ht [] s1 (start N vs) H _ I hq) (λfl s' hs=> ?_) λe s' hs=>hs;have a3:∀{ac:St} {H':Hp} {v:V} {u:sn},Inv (wM CX P w K mg base N qual scope f Y A outer s H E) [] ac H' s'->RelV v u->Q v H'->CE outer P w H s Q u s':=
  λ{ac H' v u} J rv q=>#[v,H',J.os,J.bare,J.base,J.hok,rv,q]
 cases fl with
 | ret u=>
  obtain⟨v,ac,H',J,rv,q⟩:=hs;exact a3 J rv q
 | next=>
  obtain⟨ac,H',J,q⟩:=hs;exact a3 (v:=V.non) (u:=Value.none) J rfl q
 | brk=>
  obtain⟨_,_,_,q⟩:=hs;exact sH q
 | cont=>
  obtain⟨_,_,_,q⟩:=hs;exact sH q
section
variable {X : Cx} {x : Str} {p pos : Pos} {e : KE} {es : List KE} {t : TA} {id T : String} {r : List V → Hp → VK → Prop}
def tCB(r:List V->Hp->VK->Prop)(t:TA):TE:=λσ H Q=>t σ H λvs H1=>r vs H1 Q
theorem bj (hc:kT X (.builtin id) r) (hg:Gl X x) (hm:X.mg x=qh) (hv:bootBuiltins x=pr (.builtin id)) (ha:PA X (e::es) t) (hn:x≠"__name__" :=by decide) (J:(x == ("__debug__" :Str))=false:=by decide)
 (he:starEach (e::es) X.env=(xL,eval e X.env)::starEach es X.env:=by rfl) (Y:(backTo pos (starEach es X.env)).any (·.1)=false:=by rfl):PE X (.Call (.Name x p) (e::es) [] pos) (tCB r t):=by
 intro pins s σ H Q I h;refine UQ (sP I hg hm hv ?_ hn J);exact PyProof.Rows.callWith_builtin1 (thn (ha pos pins s σ H _ I h) λus s1 #[vs,H1,I1,r1,q1]=>hc pins s1 σ H1 vs us Q I1 r1 q1) he Y
theorem gw (hc:kT X (.type T) r) (hg:Gl X x) (hm:X.mg x=qh) (hv:bootBuiltins x=pr (.type T)) (ha:PA X (e::es) t) (hn:x≠"__name__" :=by decide) (J:(x == ("__debug__" :Str))=false:=by decide)
 (he:starEach (e::es) X.env=(xL,eval e X.env)::starEach es X.env:=by rfl) (Y:(backTo pos (starEach es X.env)).any (·.1)=false:=by rfl):PE X (.Call (.Name x p) (e::es) [] pos) (tCB r t):=by
 intro pins s σ H Q I h;refine UQ (sP I hg hm hv ?_ hn J);exact T7 (thn (ha pos pins s σ H _ I h) λus s1 #[vs,H1,I1,r1,q1]=>hc pins s1 σ H1 vs us Q I1 r1 q1) he Y
end
end L2
namespace HT
open PySem PyProof.Rows
def lexLt:List Int->List Int->Bool
 | [],[]=>xL
 | [],_::_=>ss
 | _::_,[]=>xL
 | x::xs,y::ys=>if x=y then lexLt xs ys else decide (x<y)
theorem pF(x y:Int)(xs ys:List Int):lexLt (x::xs) (y::ys)=if x=y then lexLt xs ys else decide (x<y):=rfl
theorem Mn(A:SN)(s:vr)(a:Int)(t:Tok)(c:Int)(u:Tok):∃e,SeqAt.EqAt A s (.int a t) (.int c u) e/\(e=ss↔a=c):=
 #[(a == c),SeqAt.EqAt.int_int a t c u,by simp]
theorem E9(A:SN)(s:vr)(a:Int)(t:Tok)(c:Int)(u:Tok)(prog:FS)(w:IN)(E:sn->vr->Prop)(Q:sn->vr->Prop)(h:Q (.bool (decide (a<c))) s):
 wpAny (model prog w) A (richCompare .Lt (.int a t) (.int c u)) Q E s:=
 (Xw h:wpAny (model prog w) A (compareOp .Lt (.int a t) (.int c u)) Q E s)
section
open PySem.SeqAt
open PySem.AutoSeq1 (wpAny_loadPart')
open PySem.MeetsSeq PySem.MeetsSeq2 PySem.MeetsSeq3
end
section
variable {prog : FS} {w : IN} {A : SN} {E : sn → vr → Prop} {s : vr}
def sIx(n d:Nat):Option Int->Nat
 | none=>d
 | some v=>if v<0 then (v+(n:Int)).toNat else min v.toNat n
theorem zC(n d:Nat):sIx n d qh=d:=rfl
theorem AZ(n d k:Nat):sIx n d (pr (k:Int))=min k n:=by show (if (k:Int)<0 then ((k:Int)+(n:Int)).toNat else min (k:Int).toNat n)=min k n;rw[if_neg ⋯,WR]
end
end HT
namespace L2
open PySem PySem.Spec PyProof.Rows
variable {n : Nat} {pins : List (sK × Obj)} {σ : St} {H : Hp} {s : vr} {xs : List V} {x : V}
abbrev TO:=St->Hp->(Option Int->Hp->Prop)->Prop
def PO(X:Cx)(e:Option KE)(t:TO):Prop:=
 ∀(pins:List (sK×Obj)) (s:vr) (σ:St) (H:Hp) (Q:Option Int->Hp->Prop),Inv X pins σ H s->t σ H Q->
  wpAny (model X.prog X.w) X.A (evalPart e X.env) (λu s'=>∃o H',Inv X pins σ H' s'/\IsPart u o/\Q o H') X.xe s
def GZ:TO:=λ_ H Q=>Q qh H
def MR(t:TE):TO:=λσ H Q=>t σ H λx H1=>∃i,x=.int i/\Q (pr i) H1
section
variable {X : Cx} {e : KE} {te : TE} {lo hi : Option KE} {tl th : TO} {pos p2 : Pos}
theorem n9:PO X qh GZ:=by intro pins s σ H Q I h;rw[evalPart_none];exact Ps #[qh,H,I,.none,h]
theorem pW(h:PE X e te):PO X (pr e) (MR te):=by intro pins s σ H Q I J;rw[evalPart_some];refine thn (h pins s σ H _ I J) λu s1 #[x,H1,I1,r1,q1]=> ?_;obtain⟨i,rfl,q⟩:=q1;obtain⟨t,rfl⟩:=r1;exact#[pr i,H1,I1,.int i t,q]
def SlR(X:Cx)(r:V->Option Int->Option Int->Hp->VK->Prop):Prop:=
 ∀(pins:List (sK×Obj)) (s:vr) (σ:St) (H:Hp) (x:V) (v J Y:sn) (lo hi:Option Int) (sl:sK) (Q:VK),Inv X pins σ H s->RelV x v->s.heap.IsSliceOf sl J Y .none->IsPart J lo->IsPart Y hi->r x lo hi H Q->
  ∃T id,typeLookup (.type T) "__getitem__" =pure (pr (.builtin id))/\s.TypeIs v T/\wpAny (model X.prog X.w) X.A (getItem v (.ref sl)) (EP X pins σ Q) X.xe s
def tSl(r:V->Option Int->Option Int->Hp->VK->Prop)(te:TE)(tl th:TO):TE:=λσ H Q=>te σ H λx H1=>tl σ H1 λl H2=>th σ H2 λu J=>r x l u J Q
theorem qt{r:V->Option Int->Option Int->Hp->VK->Prop}(hr:SlR X r)(J:PE X e te)(Y:PO X lo tl)(hu:PO X hi th):PE X (.Subscript e (.Slice lo hi qh p2) pos) (tSl r te tl th):=by intro pins s σ H Q I h;refine Xe (thn (J pins s σ H _ I h) λv s1 #[x,H1,I1,r1,q1]=> ?_);refine wpAny_Slice (thn (Y pins s1 σ H1 _ I1 q1) λvl s2 #[l,H2,I2,pl,q2]=>thn (hu pins s2 σ H2 _ I2 q2) λvu s3 #[u,H3,I3,pu,q3]=> ?_);rw[evalPart_none];refine Ps ?_;have I4:Inv X pins σ H3 {s3 with heap:=s3.heap.push {cls:=.type "slice",data:=.fields #v[vl,vu,.none]}}:=I3.kept (t':=s3.toks) λb ob q=>Heap.get?_push_of_some _ q;obtain⟨T,id,hT,ht,hg⟩:=hr pins {s3 with heap:=s3.heap.push {cls:=.type "slice",data:=.fields #v[vl,vu,.none]}} σ H3 x v vl vu l u s3.heap.objs.size Q I4 r1 (Heap.IsSliceOf.new ..) pl pu q3;show wpAny (model X.prog X.w) X.A (subscriptTail e (.Slice lo hi qh p2) v (.ref s3.heap.objs.size)) (EP X pins σ Q) X.xe {s3 with heap:=s3.heap.push {cls:=.type "slice",data:=.fields #v[vl,vu,.none]}};exact tail_any (ops:=[.ref s3.heap.objs.size,v]) ht hT hg (by with_unfolding_all rfl)
def AW(xs:List V)(lo hi:Option Int):List V:=(xs.drop (HT.sIx xs.length 0 lo)).take (HT.sIx xs.length xs.length hi-HT.sIx xs.length 0 lo)
theorem Fz(xs:List V)(lo hi:Option Int):(AW xs lo hi).length<=xs.length:=by unfold AW;rw[TY,U1];omega
end
def ixN(n:Nat)(i:Int):Option Nat:=if 0<=i then (if i<n then pr i.toNat else qh) else if -(n:Int)<=i then pr (i+n).toNat else qh
def atI{α:Type}(xs:List α)(i:Int):Option α:=(ixN xs.length i).bind λj=>xs[j]?
theorem GF{i:Int}{j:Nat}(h:ixN n i=pr j):seqIndex? i n=pr j/\j<n/\ -(n:Int)<=i/\i<n:=by unfold ixN at h;by_cases h0:0<=i;rw[if_pos h0] at h;by_cases h1:i<n;rw[if_pos h1] at h;have e:i.toNat=j:=Tw h;exact#[by rw[WW h0 h1,e],⋯,⋯,h1];rw[if_neg h1] at h;cases h;rw[if_neg h0] at h;by_cases h1: -(n:Int)<=i;rw[if_pos h1] at h;have e:(i+n).toNat=j:=Tw h;exact#[by rw[WI ⋯ h1,e],⋯,h1,⋯];rw[if_neg h1] at h;cases h
theorem Br{α:Type}{xs:List α}{i:Int}{v:α}(h:atI xs i=pr v):∃j,seqIndex? i xs.length=pr j/\xs[j]? =pr v/\j<xs.length/\ -(xs.length:Int)<=i/\i<xs.length:=by
 unfold atI at h;cases e:ixN xs.length i with
 | none=>rw[e] at h;cases h
 | some j=>
  rw[e] at h;obtain⟨h1,h2,J,Y⟩:=GF e;exact#[j,h1,h,h2,J,Y]
def N3(b:KE):Prop:=∀o i,subscripted b xL o i=operate [o,i] (getItem o i)
def IxR(X:Cx)(r:R2):Prop:=
 ∀(value J:KE) (pins:List (sK×Obj)) (s:vr) (σ:St) (H:Hp) (x y:V) (v u:sn) (Q:VK),Inv X pins σ H s->RelV x v->RelV y u->r x y H Q->
  subscripted J xL v u=operate [v,u] (getItem v u)->wpAny (model X.prog X.w) X.A (subscriptTail value J v u) (EP X pins σ Q) X.xe s
def MtR(X:Cx)(id:String)(r:V->List V->Hp->VK->Prop):Prop:=
 ∀(pins:List (sK×Obj)) (s:vr) (σ:St) (H:Hp) (x:V) (xs:List V) (v:sn) (us:List sn) (Q:VK),Inv X pins σ H s->RelV x v->Vals xs us->r x xs H Q->
  wpAny (model X.prog X.w) X.A (call (.builtin id) (v::us)) (EP X pins σ Q) X.xe s
section
variable {X : Cx} {a b : KE} {ta tb : TE} {pos : Pos}
theorem IxR.or{r r':R2}(h:IxR X r)(h':IxR X r'):IxR X (λx y H Q=>r x y H Q\/r' x y H Q):=by
 intro value J pins s σ H x y v u Q I Y ry q hs;rcases q with q | q
 exact h value J pins s σ H x y v u Q I Y ry q hs;exact h' value J pins s σ H x y v u Q I Y ry q hs
theorem bS{r:R2}(hr:IxR X r)(ha:PE X a ta)(hb:PE X b tb)(hs:N3 b):PE X (.Subscript a b pos) (tOp r ta tb):=by intro pins s σ H Q I h;exact Xe (Kn ha hb I h λv u s2 x y H2 J Y ry q=>hr a b pins s2 σ H2 x y v u Q J Y ry q (hs _ _))
def O9(K:uY):R2:=λx y H Q=>∃p xs i v,x=.ref p/\y=.int i/\SqL K H p xs/\atI xs i=pr v/\Q v H
def PV(K:uY):R2:=λx y H Q=>∃p xs i v,x=.ref p/\y=.int i/\SqT K H p xs/\atI xs i=pr v/\Q v H
def OV:R2:=λx y H Q=>∃z i c,x=.str z/\y=.int i/\z.length<=sizeLine/\atI z.cps.toList i=pr c/\Q (.str #[#v[c]]) H
theorem M6:IxR X (O9 X.K):=by
 intro value Y pins s σ H x y v u Q I rx ry h hs;obtain⟨p,xs,i,z,rfl,rfl,hq,he,q⟩:=h;cases rx;obtain⟨t,rfl⟩:=ry;obtain⟨ab,r,pl,hz⟩:=I.list hq;obtain⟨j,h1,h2,h3,h4,h5⟩:=Br he;obtain⟨w,ew,ac⟩:=r.get h2;have hl:=r.length;have hn:=qd;have J:EP X pins σ Q w s:=#[z,H,I,ac,q];by_cases h0:0<=i;have hj:i.toNat=j:=by rw[WW h0 h5] at h1;exact Tw h1
 exact item_listR pl.isList h0 ⋯ (by rw[hj];simpa using ew) J hs;have hj:(i+(ab.toArray.size:Int)).toNat=j:=by rw[WI ⋯ h4] at h1;rw[Ae,<- hl];exact Tw h1
 exact Wf (x:=w) pl.isList.typeIs slot_list_getitem.lookup
  (wpAny_getItem_list_neg (Q:=λr s'=>r=w/\EP X pins σ Q r s') pl.isList ⋯ (by rw[Ae] <;> omega) ⋯ (by rw[hj];simpa using ew) #[rfl,J]) hs
theorem OQ:IxR X (PV X.K):=by
 intro value J pins s σ H x y v u Q I rx ry h hs;obtain⟨p,xs,i,z,rfl,rfl,hq,he,q⟩:=h;cases rx;obtain⟨t,rfl⟩:=ry;obtain⟨ap,r,pl,hz⟩:=I.tuple hq;obtain⟨j,h1,h2,h3,h4,h5⟩:=Br he;obtain⟨w,ew,Y⟩:=r.get h2;have hl:=r.length;have hn:=qd;have ab:EP X pins σ Q w s:=#[z,H,I,Y,q];exact Wf (x:=w) pl.typeIs slot_tuple_getitem.lookup
  (getItem_tuple (j:=j) (Q:=λr s'=>r=w/\EP X pins σ Q r s') pl ⋯ ⋯ (by rw[Ae,<- hl];exact h1) (by simpa using ew) #[rfl,ab]) hs
theorem PJ:IxR X OV:=by
 intro value J pins s σ H x y v u Q I Y ry h hs;obtain⟨z,i,c,rfl,rfl,hz,he,q⟩:=h;obtain⟨t,rfl⟩:=Y;obtain⟨t',rfl⟩:=ry;obtain⟨j,h1,h2,h3,h4,h5⟩:=Br he;have hl:z.cps.toList.length=z.length:=by simp[Str.length]
 rw[hl] at h1 h4 h5;have hn:=qd;exact tail_any (Xj s z t) slot_str_getitem.lookup (getItem_str (c:=c) (by have e1:decide (i < -(2^63:Int))=false:=decide_eq_false ⋯;have e2:decide (i ≥ 2^63)=false:=decide_eq_false ⋯;rw[e1,e2,VB]) (by rw[h1];simpa using h2) #[.str #[#v[c]],H,I.tok _,#[_,rfl],q]) hs
def rIx(K:uY):R2:=λx y H Q=>O9 K x y H Q\/PV K x y H Q\/OV x y H Q
theorem bE:IxR X (rIx X.K):=M6.or (OQ.or PJ)
theorem HF(J:List sn)(n j:Nat)(u:sn):Obj.mapSeq (·.setIfInBounds j u) {cls:=.type "list",data:=.seq J.toArray n}={cls:=.type "list",data:=.seq (J.set j u).toArray n}:=by simp[Obj.mapSeq]
theorem Inv.lst{p:sK}(I:Inv X pins σ H s)(h:H p=pr (.lst xs)):
 ∃(J:List sn) (n:Nat),Vals xs J/\s.heap.get? p=pr {cls:=.type "list",data:=.seq J.toArray n}/\xs.length<=sizeLine:=by
 obtain⟨z,J,n,r,e⟩:=I.hok p _ h;exact#[J,n,r,e,z]
theorem Inv.lstUpd {p:sK} {xs ys:List V} {J its':List sn} {n Y:Nat} {f:Obj->Obj} (I:Inv X pins σ H s) (h:H p=pr (.lst xs))
 (ho:s.heap.get? p=pr {cls:=.type "list",data:=.seq J.toArray n}) (hf:f {cls:=.type "list",data:=.seq J.toArray n}={cls:=.type "list",data:=.seq its'.toArray Y}) (r:Vals ys its') (hz:ys.length<=sizeLine) (t:Nat):
 Inv X pins σ (upd H p (.lst ys)) {s with heap:=s.heap.update p f,toks:=t}:=by
 have e:(s.heap.update p f).get? p=pr {cls:=.type "list",data:=.seq its'.toArray Y}:=by rw[Heap.get?_update_self f ho (by rw[hf] <;> rfl),hf]
 refine I.write (x:=p) (e:=p) (by rw[h];trivial) (.inl rfl) (λb u hb q=>(Heap.get?_update_other _ _ (Ux hb)).trans q) #[_,e] ?_;exact#[hz,its',Y,r,e]
def Mw:V->V->V->Hp->(Hp->Prop)->Prop:=λo i v H Q=>∃p xs k j,o=.ref p/\i=.int k/\H p=pr (.lst xs)/\ixN xs.length k=pr j/\Q (upd H p (.lst (xs.set j v)))
theorem set_list:O6 X Mw:=by
 intro pins s σ H o i v ov iv u Q I ro ri rv h;obtain⟨p,xs,k,j,rfl,rfl,hp,hj,q⟩:=h;cases ro;obtain⟨t,rfl⟩:=ri;obtain⟨J,n,r,Y,hz⟩:=I.lst hp;obtain⟨h1,h2,h3,h4⟩:=GF hj;have hl:=r.length;have hn:=qd;have I':Inv X pins σ (upd H p (.lst (xs.set j v))) {s with heap:=s.heap.update p (Obj.mapSeq (·.setIfInBounds j u))}:=
  I.lstUpd hp Y (HF J n j u) (r.set rv j) (by rw[List.length_set];exact hz) s.toks
 by_cases h0:0<=k;have hk:k.toNat=j:=by rw[WW h0 h4] at h1;exact Tw h1
 exact PySem.W.ki_setAt Y h0 ⋯ (by rw[Ae,<- hl];exact h4) (by rw[hk];exact#[_,I',q]);have hk:(k+(J.toArray.size:Int)).toNat=j:=by rw[WI ⋯ h3] at h1;rw[Ae,<- hl];exact Tw h1
 exact PySem.W.ki_setBack Y ⋯ (by rw[Ae,<- hl];exact h3) ⋯ (by rw[hk];exact#[_,I',q])
theorem DF(lo hi:Option Int)(n:Nat):(sliceBounds lo hi qh n).1=((HT.sIx n 0 lo:Nat):Int)/\(sliceBounds lo hi qh n).2.1=((HT.sIx n n hi:Nat):Int)/\(sliceBounds lo hi qh n).2.2=1:=by
 refine#[?_, ?_,rfl];cases lo with
 | none=>simp[sliceBounds,HT.sIx]
 | some i=>
  simp only[sliceBounds,HT.sIx,W9,show (1:Int)>0 by decide,if_true];by_cases h:i<0;simp only[h,if_true] <;> omega;simp only[h,if_false] <;> omega
 cases hi with
 | none=>simp[sliceBounds,HT.sIx]
 | some i=>
  simp only[sliceBounds,HT.sIx,W9,show (1:Int)>0 by decide,if_true];by_cases h:i<0;simp only[h,if_true] <;> omega;simp only[h,if_false] <;> omega
theorem C2{J:List sn}{lo hi:Option Int}:slicePick J.toArray lo hi qh=((J.drop (HT.sIx J.length 0 lo)).take (HT.sIx J.length J.length hi-HT.sIx J.length 0 lo)).toArray:=by obtain⟨h1,h2,Y⟩:=DF lo hi J.toArray.size;unfold slicePick;rw[h1,h2,Y];simp only[sliceRange_one,pick_run,Ae] <;> rfl
def P5(K:uY):V->Option Int->Option Int->Hp->VK->Prop:=λx lo hi H Q=>∃a xs,x=.ref a/\SqL K H a xs/\∀p,H p=qh->Q (.ref p) (upd H p (.lst (AW xs lo hi)))
theorem Bo:SlR X (P5 X.K):=by intro pins s σ H x v vl vu lo hi sl Q I rx hs pl pu h;obtain⟨a,xs,rfl,hx,q⟩:=h;cases rx;obtain⟨am,r,Y,hz⟩:=I.list hx;have J:=r.length;refine#["list",_,slot_list_getitem.lookup,Y.isList.typeIs, ?_];refine VN Y.isList hs pl pu .none (by simp) ?_ (by rw[Ae] <;> omega);rw[C2,<- J];refine#[.ref s.heap.objs.size,_,I.laid (t':=s.toks) (o:=.lst (AW xs lo hi)) (λb ob q=>Heap.get?_push_of_some _ q) (wS _) ?_,rfl,q _ (I.hok.fresh (wS _))];exact#[SE (Fz xs lo hi) hz,_,0,(r.drop (HT.sIx xs.length 0 lo)).take (HT.sIx xs.length xs.length hi-HT.sIx xs.length 0 lo),Heap.get?_push_size _ rfl]
def om:V->Bool
 | .non=>ss
 | .bl _=>ss
 | .int _=>ss
 | .str _=>ss
 | _=>xL
def eqV:V->V->Bool
 | .non,.non=>ss
 | .bl a,.bl b=>a == b
 | .bl a,.int b=>(if a then 1 else 0) == b
 | .int a,.bl b=>a == (if b then 1 else 0)
 | .int a,.int b=>a == b
 | .str a,.str b=>a == b
 | _,_=>xL
theorem PB{A:SN}{y x:V}{u v:sn}(Y:RelV y u)(J:RelV x v)(fy:om y=ss)(fx:om x=ss):SeqAt.EqAt A s u v (eqV y x):=by
 cases y with
 | non=>
  cases Y;cases x with
  | non=>cases J;exact SeqAt.EqAt.same _
  | bl b=>cases J;exact SeqAt.EqAt.none_bool b
  | int b=>obtain⟨t,rfl⟩:=J;exact SeqAt.EqAt.none_int b t
  | str b=>obtain⟨t,rfl⟩:=J;exact SeqAt.EqAt.none_str b t
  | _=>exact absurd (show xL=ss from fx) Eb
 | bl a=>
  cases Y;cases x with
  | non=>cases J;exact SeqAt.EqAt.bool_none a
  | bl b=>cases J;exact SeqAt.EqAt.bool_bool a b
  | int b=>obtain⟨t,rfl⟩:=J;exact SeqAt.EqAt.bool_int a b t
  | str b=>obtain⟨t,rfl⟩:=J;exact SeqAt.EqAt.bool_str a b t
  | _=>exact absurd (show xL=ss from fx) Eb
 | int a=>
  obtain⟨t',rfl⟩:=Y;cases x with
  | non=>cases J;exact SeqAt.EqAt.int_none a t'
  | bl b=>cases J;exact SeqAt.EqAt.int_bool a t' b
  | int b=>obtain⟨t,rfl⟩:=J;exact SeqAt.EqAt.int_int a t' b t
  | str b=>obtain⟨t,rfl⟩:=J;exact SeqAt.EqAt.int_str a t' b t
  | _=>exact absurd (show xL=ss from fx) Eb
 | str a=>
  obtain⟨t',rfl⟩:=Y;cases x with
  | non=>cases J;exact SeqAt.EqAt.str_none a t'
  | bl b=>cases J;exact SeqAt.EqAt.str_bool a t' b
  | int b=>obtain⟨t,rfl⟩:=J;exact SeqAt.EqAt.str_int a t' b t
  | str b=>obtain⟨t,rfl⟩:=J;exact SeqAt.EqAt.str_str a t' b t
  | _=>exact absurd (show xL=ss from fx) Eb
 | _=>exact absurd (show xL=ss from fy) Eb
def eqU(x:V)(u:sn):Bool:=match u with
 | .none=>eqV .non x
 | .bool b=>eqV (.bl b) x
 | .int i _=>eqV (.int i) x
 | .str z _=>eqV (.str z) x
 | _=>xL
theorem IP{x y:V}{u:sn}(r:RelV y u)(f:om y=ss):eqU x u=eqV y x:=by
 cases y with
 | non=>cases r;rfl
 | bl b=>cases r;rfl
 | int i=>obtain⟨t,rfl⟩:=r;rfl
 | str z=>obtain⟨t,rfl⟩:=r;rfl
 | _=>exact absurd (show xL=ss from f) Eb
theorem tq{x:V}:∀{xs:List V} {us:List sn},Vals xs us->xs.all om=ss->us.any (eqU x)=xs.any λy=>eqV y x
 | _,_,.nil,_=>rfl
 | y::xs,u::us,.cons r t,f=>by rw[U0,Tp] at f;rw[Vz,Vz,IP r f.1,tq t f.2]
theorem qk{A:SN}{s:vr}{x:V}{v:sn}(J:RelV x v)(Y:om x=ss):∀{xs:List V} {us:List sn},Vals xs us->xs.all om=ss->∀u∈us,SeqAt.EqAt A s u v (eqU x u)
 | _,_,.nil,_=>λu hu=>by cases hu
 | y::xs,u::us,.cons r t,f=>λu' hu=>by
  rw[U0,Tp] at f;rcases wE.mp hu with rfl | hu
  rw[IP r f.1];exact PB r J f.1 Y;exact qk J Y t f.2 u' hu
def inV(x:V)(xs:List V):Bool:=xs.any λy=>eqV y x
def rIn(K:uY)(neg:Bool):R2:=λx y H Q=>∃p xs,y=.ref p/\(SqL K H p xs\/SqT K H p xs)/\om x=ss/\xs.all om=ss/\Q (.bl (if neg then !inV x xs else inV x xs)) H
theorem CH:OpR X (compareOp .In) (rIn X.K xL):=by
 intro pins s σ H x y v u Q I rx ry h;obtain⟨p,xs,rfl,hq,fx,fs,q⟩:=h;cases ry;rcases hq with hq | hq
 obtain⟨J,r,pl,hz⟩:=I.list hq;refine SeqAt.in_listAt (eqU x) pl.isList (λw Y=>qk rx fx r fs w (by simpa using Y)) #[.bl _,H,I,rfl, ?_];rw[show J.toArray.any (eqU x)=J.any (eqU x) by simp,tq r fs];exact q;obtain⟨J,r,pl,hz⟩:=I.tuple hq;refine SeqAt.in_tupleAt (eqU x) pl (λw Y=>qk rx fx r fs w (by simpa using Y)) #[.bl _,H,I,rfl, ?_];rw[show J.toArray.any (eqU x)=J.any (eqU x) by simp,tq r fs];exact q
theorem vX:OpR X (compareOp .NotIn) (rIn X.K ss):=by
 intro pins s σ H x y v u Q I rx ry h;obtain⟨p,xs,rfl,hq,fx,fs,q⟩:=h;cases ry;rcases hq with hq | hq
 obtain⟨J,r,pl,hz⟩:=I.list hq;refine SeqAt.notIn_listAt (eqU x) pl.isList (λw Y=>qk rx fx r fs w (by simpa using Y)) #[.bl _,H,I,rfl, ?_];rw[show J.toArray.any (eqU x)=J.any (eqU x) by simp,tq r fs];exact q;obtain⟨J,r,pl,hz⟩:=I.tuple hq;refine SeqAt.notIn_tupleAt (eqU x) pl (λw Y=>qk rx fx r fs w (by simpa using Y)) #[.bl _,H,I,rfl, ?_];rw[show J.toArray.any (eqU x)=J.any (eqU x) by simp,tq r fs];exact q
theorem gi:kT X (.type "list") (λxs H Q=>∃p ys,xs=[.ref p]/\(SqL X.K H p ys\/SqT X.K H p ys)/\∀l,H l=qh->Q (.ref l) (upd H l (.lst ys))):=by
 intro pins s σ H xs us Q I r h;obtain⟨p,ys,rfl,hq,q⟩:=h;obtain⟨u,rfl,rx⟩:=vals1 r;cases rx;have ab:∀(J:List sn),Vals ys J->ys.length<=sizeLine->∀(h':Rs) (Y:Nat),(∀b o',s.heap.get? b=pr o'->h'.get? b=pr o')->
  h'.get? s.heap.objs.size=pr {cls:=.type "list",dict:=qh,data:=.seq J.toArray Y,slots:= #v[]}->EP X pins σ Q (.ref s.heap.objs.size) {s with heap:=h'}:=λJ r' hz h' Y kp e=>
  #[.ref s.heap.objs.size,_,I.laid (t':=s.toks) kp (wS _) (show iV X.prog X.w _ h' _ (.lst ys) from #[hz,J,Y,r',e]),rfl,q _ (I.hok.fresh (wS _))]
 rcases hq with hq | hq;obtain⟨J,r',pl,hz⟩:=I.list hq;have ac:=r'.length;obtain⟨o,ho,hc,n,hd⟩:=pl.isList;exact call_list_seq p (.inl rfl) ho hc hd (λh' Y kp e=>ab J r' hz h' Y kp e) (by simp only[Ae] <;> omega);obtain⟨J,r',pl,hz⟩:=I.tuple hq;have ac:=r'.length;obtain⟨o,ho,hc,n,hd⟩:=pl;exact call_list_seq p (.inr rfl) ho hc hd (λh' Y kp e=>ab J r' hz h' Y kp e) (by simp only[Ae] <;> omega)
def tyV(K:uY)(T:String)(x:V)(H:Hp):Prop:=match x with
 | .str _=>T="str"
 | .int _=>T="int"
 | .ref p=>(T="list" /\∃xs,SqL K H p xs)\/(T="tuple" /\∃o,K.lookup p=pr o/\o.cls=.type "tuple" /\o.dict=qh)\/
  (T="dict" /\((∃J,H p=pr (.dK J))\/∃J,H p=pr (.dT J)))\/(T="set" /\∃S n,H p=pr (.set S n))
 | _=>False
theorem PF{T:String}{v:sn}(I:Inv X pins σ H s)(r:RelV x v)(ty:tyV X.K T x H):
 s.TypeIs v T/\∀a,v=.ref a->∃Y,s.heap.get? a=pr Y/\Y.dict=none:=by
 cases x with
 | str z=>
  obtain⟨t,rfl⟩:=r;cases (show T="str" from ty);exact#[Xj s z t,λ_ e=>nomatch e]
 | int i=>
  obtain⟨t,rfl⟩:=r;cases (show T="int" from ty);exact#[Xf s i t,λ_ e=>nomatch e]
 | ref p=>
  cases r;rcases ty with⟨rfl,xs,hq⟩ | ⟨rfl,o,hk,hc,hd⟩ | ⟨rfl,hk⟩ | ⟨rfl,S,n,hk⟩
  obtain⟨ab,_,pl,_⟩:=I.list hq;refine#[pl.isList.typeIs,λa e=> ?_];cases e;obtain⟨o,n,e,c,hd,_⟩:=pl;exact#[o,e,hd];refine#[#[o,I.kIn p o hk,hc],λa e=> ?_];cases e;exact#[o,I.kIn _ o hk,hd];have z:∃o,s.heap.get? p=pr o/\o.ExactDict:=by rcases hk with⟨J,hk⟩ | ⟨J,hk⟩;obtain⟨_,_,_,_,o,_,_,e,ex,_⟩:=I.hok p _ hk;exact#[o,e,ex];obtain⟨_,_,_,_,o,_,_,e,ex,_⟩:=I.hok p _ hk;exact#[o,e,ex]
  obtain⟨o,e,ex⟩:=z;refine#[#[o,e,ex.1],λa e2=> ?_];cases e2;exact#[o,e,ex.2.1];obtain⟨o,_,_,_,e,ex,_⟩:=I.hok p _ hk;refine#[#[o,e,ex.1],λa e2=> ?_];cases e2;exact#[o,e,ex.2.1]
 | _=>exact sH ty
def tBM(K:uY)(T:String)(r:V->List V->Hp->VK->Prop)(to:TE)(t:TA):TE:=λσ H Q=>to σ H λx H1=>tyV K T x H1/\t σ H1 λxs H2=>r x xs H2 Q
variable {o e : KE} {es : List KE} {to : TE} {t : TA} {name : Str} {apos cpos : Pos} {T id : String} {r : V → List V → Hp → VK → Prop}
theorem iW (pa:PlainAttrs T) (slot:Slot T name id) (am:typeOf (.builtin id)=pure (.type "method_descriptor")) (hm:MtR X id r) (ho:PE X o to) (ha:PA X (e::es) t)
 (Y:attributeBase o name X.env (eval o X.env)=eval o X.env:=by rfl)
 (ac:((backTo cpos (starEach (e::es) X.env)).all (λx=> !x.1)&&(backToKw cpos (keywordEach [] X.env)).all (λx=>x.1.isSome)
  &&decide ((e::es).length+([]:List Keyword).length+(if ([]:List Keyword).isEmpty then 0 else 1)<30))=true:=by rfl)
 (ab:(apos.endLine == cpos.line)=true:=by rfl) (hs:starEach (e::es) X.env=(xL,eval e X.env)::starEach es X.env:=by rfl) (J:(backTo cpos (starEach es X.env)).any (·.1)=false:=by rfl):
 PE X (.Call (.Attribute o name apos) (e::es) [] cpos) (tBM X.K T r to t):=by
 intro pins s σ H Q I h;refine wpAny_Call_method_late Y ac ab rfl (thn (ho pins s σ H _ I h) λv s1 #[x,H1,I1,r1,ty,q1]=> ?_);obtain⟨h1,h2⟩:=PF I1 r1 ty;refine#[T,id,pa,slot,am,h1,h2, ?_];have hA:=ha cpos pins s1 σ H1 _ I1 q1;rw[hs] at hA ⊢;refine Calls.callWith_builtin (by show (xL||(backTo cpos (starEach es X.env)).any (·.1))=xL;rw[J] <;> rfl) (Calls.evalArgs_plain ?_);exact thn hA λus s2 #[vs,H2,I2,r2,q2]=>hm pins s2 σ H2 x vs v us Q I2 r1 r2 q2
end
def MtM(X:Cx)(id:String)(r:V->List V->Hp->VK->Prop):Prop:=
 ∀(pins:List (sK×Obj)) (s:vr) (σ:St) (H:Hp) (x:V) (xs:List V) (v:sn) (us:List sn) (Q:VK),Inv X pins σ H s->RelV x v->Vals xs us->r x xs H Q->
  wpAny (model X.prog X.w) X.A (call (.builtin id) (v::us)) (EP X pins σ Q) X.xe s
theorem Vals.one:∀{x:V} {us:List sn},Vals [x] us->∃u,us=[u]/\RelV x u
 | _,_,.cons r .nil=>#[_,rfl,r]
theorem Vals.dropLast{us:List sn}(h:Vals xs us):Vals xs.dropLast us.dropLast:=by
 induction h with
 | nil=>exact .nil
 | cons r t J=>
  cases t with
  | nil=>exact .nil
  | cons q t'=>exact .cons r J
theorem Vals.eraseIdx:∀{xs:List V} {us:List sn} (i:Nat),Vals xs us->Vals (xs.eraseIdx i) (us.eraseIdx i)
 | _,_,_,.nil=>.nil
 | _,_,0,.cons _ t=>t
 | _,_,i+1,.cons r t=>.cons r (Vals.eraseIdx i t)
theorem Vals.rep{xs:List V}{us:List sn}(h:Vals xs us):∀k:Nat,Vals (wn k xs).flatten (wn k us).flatten
 | 0=>.nil
 | k+1=>by rw[S9,S9,TW,TW];exact Vals.append h (Vals.rep h k)
theorem B7{α:Type}:∀(l:List α) (i:Nat),(l.eraseIdx i).length<=l.length
 | [],_=>wS _
 | _::_,0=>Vs _
 | _::r,i+1=>Nat.succ_le_succ (B7 r i)
theorem foldl_rep(J:List sn):∀(k:Nat) (Y:List sn),
 Xm (λx1 x2=>x1++x2) Y.toArray (wn k J.toArray)=(Y++(wn k J).flatten).toArray
 | 0,Y=>by simp
 | k+1,Y=>by
  have e:Y.toArray++J.toArray=(Y++J).toArray:=by simp
  have e2:(Y++J)++(wn k J).flatten=Y++(wn (k+1) J).flatten:=by rw[S9,TW,Ta]
  rw[<- e2,<- foldl_rep J k (Y++J),<- e,S9,TL]
section
variable {X : Cx} {pins : List (sK × Obj)} {σ : St} {H : Hp} {s : vr} {l b : sK} {xs ys zs : List V}
theorem Inv.lset {J its':List sn} {n:Nat} {f:Array sn->Array sn} {t':Nat} (I:Inv X pins σ H s) (Y:H l=pr (.lst xs))
 (e:s.heap.get? l=pr {cls:=.type "list",data:=.seq J.toArray n}) (hf:f J.toArray=its'.toArray) (hv:Vals ys its') (hz:ys.length<=sizeLine):
 Inv X pins σ (upd H l (.lst ys)) {s with heap:=s.heap.update l (Obj.mapSeq f),toks:=t'}:=by
 have q:=PySem.IsL.update e f;rw[hf] at q;refine I.write (x:=l) (e:=l) (by rw[Y];exact trivial) (.inl rfl) (λb' u hb hu=>(Heap.get?_update_other s.heap (Obj.mapSeq f) (Ux hb)).trans hu) #[_,q] ?_;exact#[hz,its',_,hv,q]
theorem Inv.lnew{J:List sn}{t':Nat}(I:Inv X pins σ H s)(Y:Vals ys J)(hz:ys.length<=sizeLine):
 Inv X pins σ (upd H s.heap.objs.size (.lst ys)) {s with heap:=s.heap.push {cls:=.type "list",data:=.seq J.toArray},toks:=t'}:=
 I.laid (λ_ _ q=>Heap.get?_push_of_some _ q) (wS _) #[hz,J,0,Y,Heap.get?_push_size _ rfl]
theorem Inv.fresh(I:Inv X pins σ H s):H s.heap.objs.size=none:=I.hok.fresh (wS _)
theorem Inv.lstM(I:Inv X pins σ H s)(Y:H l=pr (.lst xs)):xs.length<=sizeLine/\∃(J:List sn) (n:Nat),Vals xs J/\xs.length=J.length/\s.heap.get? l=pr {cls:=.type "list",data:=.seq J.toArray n}:=by obtain⟨z,J,n,r,e⟩:=I.hok l _ Y;exact#[z,J,n,r,r.length,e]
theorem KJ(h:n<=sizeLine):Builtin.List.listTooLong n=false:=by unfold Builtin.List.listTooLong;exact decide_eq_false ⋯
end
section
variable {X : Cx}
def GO:V->List V->Hp->VK->Prop:=λx vs H Q=>∃l xs y,x=.ref l/\vs=[y]/\H l=pr (.lst xs)/\xs.length<sizeLine/\Q .non (upd H l (.lst (xs++[y])))
theorem fo:MtM X "list.append" GO:=by intro pins s σ H x vs v us Q I rx rv h;obtain⟨l,xs,y,rfl,rfl,Y,hz,q⟩:=h;cases rx;obtain⟨u,rfl,ru⟩:=rv.one;obtain⟨z,J,n,r,hl,e⟩:=I.lstM Y;refine UV F.slot_list_append #[_,e,rfl] F.entry_list_append (F.args_list_append_2 _ _) (PySem.list_append l J.toArray n u (by rw[Ae];omega)) #[e, ?_];refine#[.non,_,I.lset (its':=J++[u]) Y e (by simp) (r.append (.cons ru .nil)) ?_,rfl,q];rw[Do,Re];omega
def Jp:V->List V->Hp->VK->Prop:=λx vs H Q=>∃l xs i k y,x=.ref l/\vs=[.int i]/\H l=pr (.lst xs)/\ -(2^63)<=i/\i<2^63/\seqIndex? i xs.length=pr k/\xs[k]? =pr y/\Q y (upd H l (.lst (xs.eraseIdx k)))
theorem Kk:MtM X "list.pop" Jp:=by
 intro pins s σ H x vs v us Q I rx rv h;obtain⟨l,xs,i,k,y,rfl,rfl,hH,h1,h2,hk,hy,q⟩:=h;cases rx;obtain⟨u,rfl,ru⟩:=rv.one;obtain⟨t,rfl⟩:=ru;obtain⟨z,J,n,r,hl,e⟩:=I.lstM hH;obtain⟨w,hw,Y⟩:=r.get hy;refine UV F.slot_list_pop #[_,e,rfl] F.entry_list_pop (F.args_list_pop_2 _ _)
  (MeetsSeq.list_pop_at l J.toArray n i t k w (fitsIndex_both h1 h2) (by rw[Ae,<- hl];exact hk) (by rw[<- UA];exact hw) (by rw[Ae];omega)) #[e, ?_]
 refine#[y,_,I.lset (its':=J.eraseIdx k) hH e ?_ (r.eraseIdx k) ?_,Y,q];show J.toArray.eraseIdxIfInBounds k=(J.eraseIdx k).toArray;rw[List.eraseIdxIfInBounds_toArray];have:=B7 xs k;omega
def KH:R2:=λx y H Q=>∃l k xs,x=.ref l/\y=.int k/\H l=pr (.lst xs)/\ -(2^63)<=k/\k<2^63/\xs.length*k.toNat<=sizeLine/\
 ∀p,H p=qh->Q (.ref p) (upd H p (.lst (wn k.toNat xs).flatten))
theorem len_rep{α:Type}{xs:List α}{k:Nat}:(wn k xs).flatten.length=k*xs.length:=by
 induction k with
 | zero=>simp
 | succ k J=>rw[S9,TW,Do,J,Nat.succ_mul,VR]
theorem Ja:OpR X (binaryOp .Mult) KH:=by
 intro pins s σ H x y v u Q I rx ry h;obtain⟨l,k,xs,rfl,rfl,hH,h1,h2,hz,q⟩:=h;cases rx;obtain⟨t,rfl⟩:=ry;obtain⟨z,J,n,r,hl,e⟩:=I.lstM hH;have ab:J.toArray.size*k.toNat<=sizeLine:=by rw[Ae,<- hl];exact hz
 have ac:¬J.toArray.size*k.toNat>(2^63-1)/8:=by have:(sizeLine:Nat)<=(2^63-1)/8:=∅;omega
 have am:¬(!Builtin.List.listFitsIndex k)=true:=by rw[fitsIndex_both h1 h2];exact Eb
 have Y:¬Builtin.List.listTooLong (J.toArray.size*k.toNat)=true:=by rw[KJ ab];exact Eb
 have an:Xm (λx1 x2=>x1++x2) #v[] (wn (if J.toArray.isEmpty=ss then 0 else k.toNat) J.toArray)=(wn k.toNat J).flatten.toArray:=by
  have f0:∀m:Nat,Xm (λx1 x2=>x1++x2) #v[] (wn m J.toArray)=(wn m J).flatten.toArray:=λm=>by have:=foldl_rep J m [];rw[Cs] at this;exact this
  rw[f0];cases J with
  | nil=>simp
  | cons a r'=>rw[if_neg (by simp)]
 refine wpAny_binaryOp_repeat_ref (T:="list") (U:="int") ∅ #[_,e,rfl] (λs'=>Xf s' k t) noFill_list_mul F.fills_int_mul F.slot_int_rmul repeat_list F.slot_int_index.lookup
  (UV F.slot_int_rmul (Xf s k t) F.entry_int_rmul (F.args_int_rmul_2 _ _) (int___rmul___int_list k t l J.toArray n)
   #[e,rfl,#[_,e,rfl],UV F.slot_list_mul #[_,e,rfl] F.entry_list_mul (F.args_list_mul_2 _ _) (AutoListH.list___mul___list_int_3 l J.toArray n k t am ac Y) #[e, ?_]])
 rw[an];exact#[.ref _,_,I.lnew (t':=s.toks) (r.rep k.toNat) (by rw[len_rep,VV];exact hz),rfl,q _ I.fresh]
end
section
variable {prog : FS} {w : IN} {A : SN} {E : sn → vr → Prop} {s : vr}
end
section
variable {X : Cx}
end
end L2
namespace Att
open PySem PySem.W PySem.Calls PyProof.Rows
theorem Ao{P:Params}{h:Rs}:∀(ns:List Int) (vs:List sn),WellAll P h vs (ns.map WData.int)->TX vs ns:=by
 intro ns;induction ns with
 | nil=>
  intro vs w;rw[Te] at w;cases w;exact .nil
 | cons n ns J=>
  intro vs w;rw[x0] at w;cases w with
  | cons a b=>
   cases a;exact .cons _ _ (J _ b)
theorem Jy {l:OpenLaw} {n:Nat} (hn:l.most=pr n) {P:Params} {h:Rs} {args:List WData} {J:List sn}
 (Y:l.row.toRowW.claim.pre args=ss) (ap:WellAll P h J args):
 ∃a vs ns,J=[Value.ref a]/\args=[WData.list (ns.map WData.int)]/\h.get? a=pr {cls:=.type "list",data:=.seq vs.toArray}/\TX vs ns/\ns.length<=n:=by
 have as:WShape.hasAll [] args [.list .int]=true:=(pre_splitW Y).1;have hc:l.pre.holds [] {args:=args}=true:=(pre_splitW Y).2;obtain⟨d,r,rfl,h1,h2⟩:=hasAllW_cons as;obtain rfl:=hasAllW_nil h2;obtain⟨xs,rfl,h3⟩:=hasW_list h1;obtain⟨ns,rfl⟩:=items_int h3;have ab:ns.length<=n:=by
  unfold OpenLaw.pre at hc;have h4:(WTm.not (.lt (.lit (.int (n:Int))) (.len (.arg 0)))).holds [] {args:=[.list (ns.map .int)]}=true:=by have h4:=(holds_andW hc).1;rw[hn] at h4;exact h4
  have h5:=condW_of h4 (w_not (w_lt w_lit (w_len_list (w_arg rfl))));rw[t3] at h5;refine Nat.le_of_not_lt λq=> ?_;have q':(n:Int)<((ns.length:Nat):Int):=⋯;first
   | (rw[decide_eq_true q'] at h5;exact absurd h5 ∅)
   | (simp at h5;omega)
 cases ap with
 | cons w1 w2=>
  cases w2;cases w1 with
  | list ho ac=>exact#[_,_,ns,rfl,rfl,ho,Ao ns _ ac,ab]
theorem Im(l:OpenLaw){args:List WData}:l.row.toRowW.claim.post args (.bool ss) args=true:=
 postW_of (r:=l.row.toRowW) (X:=(ss == ss))
  (show WShape.has [] (.bool ss) .bool=ss by first | rfl | decide | simp[WShape.has,WShape.arms,WShape.armsAll])
  (show (WTm.eq .res (.lit (.bool ss))).value [] {args:=args,res:=pr (.bool ss),after:=args}=pr (.bool (ss == ss)) from w_eq_bool (w_res rfl) w_lit) rfl
theorem Gb {l:OpenLaw} {n:Nat} {q:FS} {ab:List Str} {XP:(Str->Option sn)->Rs->Prop} {YP:IN->Rs->Prop} {d:DefRec}
 (hn:l.most=pr n) (a1:d.params.defaults=[])
 (call:∀(w:IN) (s₀ J:vr) (mg mb:Str->Option sn) (fa:sK) (o:Obj) (pm cd ac:sn) (a:sK) (vs:List sn) (ns:List Int),
  Ground q ab [] XP w s₀ mg mb J.heap->YP w J.heap->
  J.heap.get? fa=pr o->o.data=.func (docDef d.name d.params d.body d.scope pm cd ac)->J.heap.CodeRec cd d.name->mg d.name=pr (.ref fa)->
  J.heap.get? a=pr {cls:=.type "list",data:=.seq vs.toArray}->TX vs ns->ns.length<=n->J.gens= #v[]->
  codeAny (model l.prog w) callerA (.call (.ref fa) #[[.ref a],[]]) (λr s'=>r=.ok (.ret (.bool ss))/\OldK J.heap s'.heap/\s'.os=J.os/\UU s'.gens) J):
 WalkO q ab XP YP l.row.toRowW d [] (λf vs=>Xd f vs):=by
 intro w s₀ J mg mb G Y fa o pm cd ac dV kV ho hd a3 hD a4 hg args bf as an bi bt a5 bv;obtain rfl:dV=.none:=Dflts.none hD a1;obtain rfl:kV=.none:=Dflts.noKw hD;obtain⟨a,vs,ns,rfl,rfl,ap,am,az⟩:=Jy hn an a5;refine enter_call (VP (call w s₀ J mg mb fa o pm cd ac a vs ns G Y ho (fd_plain hd) a3 a4 ap am az hg) λr s' hq=> ?_);obtain⟨rfl,h2,h3,h4⟩:=hq;exact#[.inl #[.bool ss,.bool ss,[],rfl,λ_=>rfl,.bool ss,Im l,λ_=>#[WM,λ_ hm=>(nomatch hm)]],h2,h3,h4]
section
variable {prog : FS} {w : IN} {A : SN} {E : sn → vr → Prop} {s : vr} {K : Frag}
end
end Att
namespace L2
open PySem PySem.Spec PyProof.Rows
variable {P : FS} {w : IN} {K : uY} {fd : Tr} {x qual : Str} {vs : List sn} {ns : List Int} {st : Uy} {f : sK} {xs : List V} {scope : Ua} {l m : List (Str × sK)} {A : SN} {s : vr} {own cap : List Str} {caps : List Nat} {pins : List (sK × Obj)} {σ : St} {H : Hp} {fp : List sK} {i j n nrem N : Nat} {p : Array Nat}
theorem B0:∀{vs:List sn} {ns:List Int},TX vs ns->Vals (ns.map V.int) vs
 | _,_,.nil=>.nil
 | _,_,.cons n t h=>.cons #[t,rfl] (B0 h)
def HS(H:Hp):Prop:=∀b,H b=qh\/∃o xs,H b=pr (.frz o (.lst xs))
theorem Lm {P:FS} {w:IN} {K:uY} {mg mb:Str->Option sn} {CX:CXT} {k:Nat} {fa a:sK} {fd:Tr} {x:Str} {sp:Sp} {J:vr} {vs:List sn} {ns:List Int}
 (KX:K.In J.heap) (ap:J.heap.Ns mainGlobals mg) (hb:J.heap.Ns builtinsNs mb) (bd:∀x:Str,x≠"__name__" ->mb x=bootBuiltins x) (as:J.heap.NoLimit) (ab:J.heap.NoSeer) (hg:J.gens= #v[])
 (ha:J.heap.get? a=pr {cls:=.type "list",data:=.seq vs.toArray}) (hi:TX vs ns) (hl:ns.length<=sizeLine) (hr:fU k callerA)
 (F:∀base:Rs,K.In base->base.Ns mainGlobals mg->lE P w K mg base CX k fa fd [x] sp) (an:∀(s:vr) (u:sn),Vk s fd #[[u],[]] [(x,u)])
 (be:∀H:Hp,HS H->SqL K H a (ns.map V.int)->sp [.ref a] H (λv _=>v=.bl ss) λ_ _ _=>False)
 (bf:∀H e s',CX [] H J (λ_ _ _=>False) e s'->False):
 codeAny (model P w) callerA (.call (.ref fa) #[[.ref a],[]]) (λr s'=>r=.ok (.ret (.bool ss))/\OldK J.heap s'.heap/\s'.os=J.os/\UU s'.gens) J:=by
 have rv:=B0 hi;have az:=hi.length;have am:∀H:Hp,HS H->SqL K H a (ns.map V.int)->HOk P w H J.heap->(∀b,H b≠qh->b=a)->(H a≠qh->K.lookup a=qh)->
  codeAny (model P w) callerA (.call (.ref fa) #[[.ref a],[]]) (λr s'=>r=.ok (.ret (.bool ss))/\OldK J.heap s'.heap/\s'.os=J.os/\UU s'.gens) J:=by
  intro H hO hS a1 hA hK;have Y:∀{b:sK} {o:Obj},J.heap.get? b=pr o->H b=qh->(sC J.heap H).get? b=pr o:=λe n=>Le e n;have bn:∀{b:sK} {o:Obj} {es:Array DictEntry} {ep:Nat},J.heap.get? b=pr o->o.data=.dict es ep->H b=none:=λ{b o es ep} e d=>by
   cases q:H b with
   | none=>rfl
   | some u=>
    have e':b=a:=hA b (by rw[q];simp);subst e';rw[ha] at e;cases e;have d':Data.seq vs.toArray _=Data.dict es ep:=d;cases d'
  have ac:∀{b:sK} {m:Str->Option sn},J.heap.Ns b m->(sC J.heap H).Ns b m:=λ{b m} #[o,es,ep,e,d,r]=>#[o,es,ep,Y e (bn e d),d,r];have a3:K.In (sC J.heap H):=λb o e=>Y (KX b o e) (by
   cases q:H b with
   | none=>rfl
   | some u=>
    have e':b=a:=hA b (by rw[q];simp);subst e';rw[hK (by rw[q];simp)] at e;cases e)
  have bp:∀{b:sK} {o:Obj},J.heap.get? b=pr o->o.cls=.type "module" ->H b=none:=λ{b o} e d=>by
   cases q:H b with
   | none=>rfl
   | some u=>
    have e':b=a:=hA b (by rw[q];simp);subst e';rw[ha] at e;cases e;exact absurd (show Value.type "list" =Value.type "module" from d) ∅
  have hN:(sC J.heap H).NoSeer:=#[let #[mc,x,y]:=ab.statics;#[mc,ac x,y],let #[mc,x,y]:=ab.mods;#[mc,ac x,y],let #[mc,x,y]:=ab.imp;#[mc,ac x,y],let #[mg',bm,ob,x,y,z,u,v]:=ab.main;#[mg',bm,ob,ac x,y,Y z (bp z u),u,v]];have hM:Mod K mg (sC J.heap H):=#[a3,ac ap,#[mb,ac hb,bd],(let #[mc,h1,h2]:=as;#[mc,ac h1,h2]),hN];have e0:vR P w K mg (sC J.heap H) callerA [] J H:=#[rfl,hM,λb o e=>OD e,Nat.le_of_eq IL,trivial,λb hb=>absurd (show b∈([]:List sK) from hb) (by simp),a1,.of_eq hg];refine VP ((F _ a3 (ac ap)).run callerA [] J H #[[.ref a],[]] [.ref a] [.ref a] _ _ hr e0 (an J (.ref a)) (.cons rfl .nil) (be H hO hS)) λr s' h=> ?_;cases r with
  | error e=>exact(bf H e s' h).elim
  | ok fl=>
   cases fl with
   | next=>exact sH h
   | brk=>exact sH h
   | cont=>exact sH h
   | ret u=>
    obtain⟨v,H',os,a4,un,a5,r',q⟩:=h;have q':v=.bl true:=q;subst q';obtain rfl:u=Value.bool true:=r';refine#[rfl,OldK.of_keep λb o e=> ?_,os,a4];cases q:H b with
    | none=>exact un.keep b o e q (by intro z;exact absurd (show b∈([]:List sK) from z) (by simp)) (by simp)
    | some u=>
     rcases hO b with z | ⟨ob,xs,z⟩;rw[q] at z;cases z;have z2:=un.frzs b ob _ z;obtain⟨e1,_⟩:=a1 b _ z;obtain⟨e2,_⟩:=a5 b _ z2;rw[e] at e1;cases e1;exact e2
 cases hk:K.lookup a with
 | some o=>
  have e:=KX a o hk;rw[ha] at e;cases e;refine am (λ_=>qh) (λ_=>.inl rfl) (.inr #[_,vs.toArray,_,hk,rfl,rfl,rfl,by rw[Ae,az];exact hl,by simpa using rv]) (λb u z=>by have z':(qh:Option HO)=pr u:=z;cases z') (λb z=>absurd rfl z) λz=>absurd rfl z
 | none=>
  refine am (λb=>if b=a then pr (.frz {cls:=.type "list",data:=.seq vs.toArray} (.lst (ns.map V.int))) else qh) (λb=> ?_) (.inl (.inr #[{cls:=.type "list",data:=.seq vs.toArray},if_pos rfl])) (λb u z=> ?_) (λb z=> ?_) λ_=>hk;by_cases hb:b=a;exact .inr #[_,_,if_pos hb];exact .inl (if_neg hb);by_cases hb:b=a;have z':=(if_pos hb).symm.trans z;cases z';subst hb;exact#[ha,by rw[t3];exact hl,vs,_,rv,ha];have z':=(if_neg hb).symm.trans z;cases z';by_cases hb:b=a;exact hb;exact absurd (if_neg hb) z
theorem Ng {l:V5} {n k:Nat} {q:FS} {ab:List Str} {XP:(Str->Option sn)->Rs->Prop} {YP:IN->Rs->Prop} {d:DefRec} {K:Params->uY} {CX:IN->CXT} {sp:IN->Sp} {x:Str}
 (hn:l.most=pr n) (ap:n<=sizeLine) (as:d.params.defaults=[]) (hr:fU k callerA) (hi:importsNone q=ss)
 (hY:∀(w:IN) (h:Rs),YP w h->(K w.params).In h)
 (F:∀(w:IN) (mg:Str->Option sn) (fa:sK) (h:Rs),(K w.params).In h->h.Ns mainGlobals mg->mg d.name=pr (.ref fa)->
  ∃fd:Tr,(∀(s:vr) (u:sn),Vk s fd #[[u],[]] [(x,u)])/\
   ∀base:Rs,(K w.params).In base->base.Ns mainGlobals mg->lE l.prog w (K w.params) mg base (CX w) k fa fd [x] (sp w))
 (az:∀(w:IN) (H:Hp) (a:sK) (ns:List Int),ns.length<=n->HS H->SqL (K w.params) H a (ns.map V.int)->sp w [.ref a] H (λv _=>v=.bl ss) λ_ _ _=>False)
 (a1:∀(w:IN) (H:Hp) (s:vr) (e:sn) (s':vr),CX w [] H s (λ_ _ _=>False) e s'->False):
 Xr q ab XP YP l.row.toRowW d [] (λf vs=>Xd f vs):=by
 refine Att.Gb hn as λw s₀ am mg mb fa o pm cd bd a vs ns G Y ho hd be a2 an ac J hg=> ?_;have KX:=hY w _ Y;obtain⟨fd,hb,hF⟩:=F w mg fa _ KX G.T.g a2;exact Lm KX G.T.g G.T.b G.T.builtins G.T.nolimit (G.T.seer hi) hg an ac (SE J ap) hr hF hb (λH hO hS=>az w H a ns J hO hS) λH e s'=>a1 w H am e s'
def inClass(s:Uy)(j:Nat):Stmt:=match s with
 | .ClassDef _ _ _ body _ _ _ _ _ _ _=>body.getD j (.Pass #[0,0,0,0])
 | _=>.Pass #[0,0,0,0]
def eK(s:Uy):Arguments:=match s with
 | .FunctionDef _ a _ _ _ _ _ _ _ _=>a
 | _=>{posonlyargs:=[],args:=[],vararg:=qh,kwonlyargs:=[],kw_defaults:=[],kwarg:=qh,defaults:=[]}
def d3(s:Uy):List Stmt:=match s with
 | .FunctionDef _ _ b _ _ _ _ _ _ _=>b
 | _=>[]
def aM(s:Uy):Scope:=match s with
 | .FunctionDef _ _ _ _ _ _ sc _ _ _=>sc
 | _=>{kind:=.function,names:=[],isGenerator:=false,isCoroutine:=false}
abbrev E0:XK:=λ_ _ _=>False
structure Fun(K:uY)(x qual:Str)(st:Uy)(f:sK)(fd:Tr):Prop where
 ex:∃(oc:sn) (od:Option sK) (kV doc pm:sn) (an:Option sK) (cdv ct:sn) (osl:Array (Option sn)),
  fd=SH x qual (eK st) (d3 st) (aM st) .none kV doc pm an cdv ct/\K.lookup f=pr #[oc,od,.func fd,osl]/\S3 K cdv qual=ss
 kp:SO K (.ref f)=ss
section
variable {P : FS} {w : IN} {K : uY} {mg : Str → Option sn} {base : Rs}
theorem Fun.binds {ps:List Str} (F:Fun K x qual st f fd)
 (h:∀(kV J pm:sn) (an:Option sK) (Y ct:sn) (us:List sn),us.length=ps.length->bindArgs (SH x qual (eK st) (d3 st) (aM st) .none kV J pm an Y ct) #[us,[]]=pure (ps.zip us)):Binds K fd ps []:=by
 obtain⟨oc,od,kV,J,pm,an,Y,ct,am,rfl,lk,ap⟩:=F.ex;exact .all (h kV J pm an Y ct)
theorem lG {oc:sn} {od an:Option sK} {ab:Array (Option sn)} {kV Y pm J ct:sn} (l:K.lookup f=pr #[oc,od,.func (SH x qual (eK st) (d3 st) (aM st) .none kV Y pm an J ct),ab])
 (c:S3 K J qual=ss) (k:SO K (.ref f)=ss):Fun K x qual st f (SH x qual (eK st) (d3 st) (aM st) .none kV Y pm an J ct):=#[#[oc,od,kV,Y,pm,an,J,ct,ab,rfl,l,c],k]
end
section
variable {X : Cx}
theorem pv (i:Nat) {pos:Pos} (Y:X.N[i]? =pr x:=by rfl) (hv:Vis X.env.scope x:=by first | exact tt rfl | exact S2 (tt rfl) | exact S2 (S2 rfl)) (hd:(x == ("__debug__" :Str))=false:=by decide)
 (J:(x == ("__classdict__" :Str))=false:=by decide):PE X (.Name x pos) (KA i):=Qa Y hv hd J
end
theorem t8{A B:Prop}(h:B):if xL=ss then A else B:=by rw[if_neg Eb];exact h
theorem tK{A B:Prop}(h:A):if ss=ss then A else B:=by rw[if_pos rfl];exact h
def cg(H H':Hp):Prop:=∀b o,H b=pr o->H' b=pr o
theorem cg.refl(H:Hp):cg H H:=λ_ _ h=>h
theorem cg.trans{H H1 H2:Hp}(a:cg H H1)(b:cg H1 H2):cg H H2:=λc o h=>b c o (a c o h)
theorem cg.seq{H H':Hp}{a:sK}(e:cg H H')(h:SqL K H a xs):SqL K H' a xs:=by rcases h with(h | ⟨o,h⟩) | h;exact .inl (.inl (e _ _ h));exact .inl (.inr #[o,e _ _ h]);exact .inr h
def fK(env:Env):List (Str×TV)->List (Str×sK)->List (Str×sK)
 | [],cs=>cs
 | (n,k)::r,cs=>if k == .free then fK env r ((n,(env.cells.lookup n).getD 0)::cs) else fK env r cs
theorem BC{env:Env}:∀(names:List (Str×TV)) (J:List (Str×sK)),(∀n,(n,NameKind.free)∈names->∃c,env.cells.lookup n=pr c)->
 (forIn names J λ(x:Str×TV) (r:List (Str×sK))=>(if (x.2 == NameKind.free)=ss then do
  let a <- cellOf env x.1
  pure (Uo ((x.1,a)::r)) else pure (Uo r):Sem (ForInStep (List (Str×sK)))))=pure (fK env names J)
 | [],J,_=>rfl
 | (n,k)::r,J,h=>by
  rw[List.forIn_cons];by_cases hk:(k == NameKind.free)=ss;have Y:k=.free:=by simpa using hk
  subst Y;obtain⟨c,hc⟩:=h n wp;simp only[hk,if_true,fK,cellOf,hc,pure_bind,VL];exact BC r _ λm hm=>h m (wf _ hm);simp only[hk,if_false,fK,pure_bind];exact BC r J λm hm=>h m (wf _ hm)
theorem C4{scope:Ua}{env:Env}(h:∀n,(n,NameKind.free)∈scope.names->∃c,env.cells.lookup n=pr c):closureFor scope env=pure (fK env scope.names []):=by have:=BC scope.names [] h;simp only[closureFor];rw[<- this];exact bind_pure _
theorem t6{env:Env}:∀(names:List (Str×TV)) (J:List (Str×sK)),(∀n,(n,NameKind.free)∈names->∃c,env.cells.lookup n=pr c)->
 (∀x c,J.lookup x=pr c->env.cells.lookup x=pr c)->∀x c,(fK env names J).lookup x=pr c->env.cells.lookup x=pr c
 | [],J,_,h,x,c,e=>h x c e
 | (n,k)::r,J,hf,h,x,c,e=>by
  unfold fK at e;by_cases hk:(k == NameKind.free)=ss;rw[if_pos hk] at e;have ab:k=.free:=by simpa using hk
  subst ab;refine t6 r _ (λm hm=>hf m (wf _ hm)) (λy d q=> ?_) x c e;obtain⟨c',Y⟩:=hf n wp;rw[Tb] at q;split at q;rename_i hy;have:y=n:=by simpa using hy
  subst this;rw[Y,VL] at q;rw[Y];exact q;exact h y d q;rw[if_neg hk] at e;exact t6 r J (λm hm=>hf m (wf _ hm)) h x c e
theorem r9{env:Env}:∀(names:List (Str×TV)) (J:List (Str×sK)) (x:Str),(∃c,J.lookup x=pr c)->∃c,(fK env names J).lookup x=pr c
 | [],J,_,h=>h
 | (n,k)::r,J,x,h=>by unfold fK;by_cases hk:(k == NameKind.free)=ss;rw[if_pos hk];refine r9 r _ x ?_;rw[Tb];split;exact#[_,rfl];exact h;rw[if_neg hk];exact r9 r J x h
theorem pP{env:Env}:∀(names:List (Str×TV)) (J:List (Str×sK)) (x:Str),(x,NameKind.free)∈names->∃c,(fK env names J).lookup x=pr c
 | (n,k)::r,J,x,h=>by
  unfold fK;rcases wE.mp h with e | h
  cases e;rw[if_pos (by rfl)];refine r9 r _ n ?_;exact#[_,by rw[Tb];simp;rfl];by_cases hk:(k == NameKind.free)=ss;rw[if_pos hk];exact pP r _ x h;rw[if_neg hk];exact pP r J x h
theorem gG:∀(names:List (Str×TV)) (n:Nat) (J:List (Str×sK)),cellsFrom n names J=cellsFrom n names []++J
 | [],_,_=>rfl
 | (x,k)::r,n,J=>by unfold cellsFrom;split;rw[gG r (n+1) ((x,n)::J),gG r (n+1) [(x,n)],Ta];rfl;exact gG r n J
theorem o4:∀(names:List (Str×TV)) (n:Nat) {x:Str} {c:sK},(x,c)∈cellsFrom n names []->(x,NameKind.cell)∈names
 | [],_,_,_,h=>nomatch h
 | (y,k)::r,n,x,c,h=>by
  unfold cellsFrom at h;split at h;rename_i hk;have J:k=.cell:=by simpa using hk
  rw[gG] at h;rcases xz.mp h with q | q
  exact wf _ (o4 r _ q);cases ww.mp q;rw[J];exact wp;exact wf _ (o4 r _ h)
theorem HZ{c:sK}(h:(l++m).lookup x=pr c):l.lookup x=pr c\/(l.lookup x=qh/\m.lookup x=pr c):=by
 rw[Vt] at h;cases e:l.lookup x with
 | none=>rw[e] at h;exact .inr #[rfl,h]
 | some d=>rw[e] at h;exact .inl h
theorem ve(h:l.lookup x=qh):(l++m).lookup x=m.lookup x:=by rw[Vt,h];rfl
theorem Fo(h:∃c,m.lookup x=pr c):∃c,(l++m).lookup x=pr c:=by
 cases e:l.lookup x with
 | none=>rw[ve e];exact h
 | some c=>exact#[c,by rw[Vt,e];rfl]
theorem JO{h:Rs}{names:List (Str×TV)}:CellsOk (pushCells (h.push {cls:=.type "dict",data:=.dict #v[]}) names) (h.objs.size+1) (cellsFrom (h.objs.size+1) names []):=by have:=cellsFrom_ok names (h.push {cls:=.type "dict",data:=.dict #v[]}) (h.objs.size+1) [] #[λ_ _ hm=>(nomatch hm),WM] (by rw[Heap.size_push];exact wS _);rwa [Heap.size_push] at this
theorem FX {M:Model} {A:SN} {E:sn->vr->Prop} {s:vr} {scope:Ua} {globals:sK} {J:List (Str×sK)} {qual:Str} {func:Option sK} {code:sn} {outer:Env} {builtins:sK} {Q:Env->vr->Prop}
 (Y:Q {scope:=scope,locals:=s.heap.objs.size,globals:=globals,cells:=cellsFrom (s.heap.objs.size+1) scope.names J,qual:=qual,func:=func,code:=outer.code,frame:=outer.frame,builtins:=outer.builtins} {s with heap:=pushCells (s.heap.push {cls:=.type "dict",data:=.dict #v[]}) scope.names}):
 wpAny M A (newFunctionEnv scope globals J [] qual func code (pr outer) builtins) Q E s:=by
 simp only[newFunctionEnv,Option.isSome_some,if_true];refine xY (wpAny_alloc ?_);refine xY (wpAny_layCells _ (λname kind cells=>by cases hkc:kind == NameKind.cell <;> simp[hkc]) _ _ _ _ ?_);rw[show ({s with heap:=s.heap.push {cls:=.type "dict",data:=.dict #v[]}}:vr).heap.objs.size=s.heap.objs.size+1 from Heap.size_push ..];refine xY ?_;rw[List.forIn_nil];exact Ps (Ps Y)
def cxC(X:Cx)(scope:Ua)(N':List Str)(fp:List sK)(s:vr)(H:Hp):Cx where
 prog:=X.prog
 w:=X.w
 K:=X.K
 mg:=X.mg
 base:=X.base
 A:=X.A
 N:=N'
 s₀:=s
 H₀:=H
 env:=compEnvC scope (cellsFrom (s.heap.objs.size+1) scope.names (fK X.env scope.names [])) s.heap.objs.size X.env
 outer:=X.stack
 stack:=X.stack
 ex:=fp
 calm:=X.calm
 fn:=λx=>scope.names.lookup x == pr .cell
 pn:=[]
 xe:=λ_ _=>False
def mX(X:Cx)(scope:Ua):List Str->List Nat->Prop
 | [],[]=>True
 | x::xs,j::js=>X.N[j]? =pr x/\(X.env.scope.names.lookup x=pr .cell\/X.env.scope.names.lookup x=pr .free)/\scope.names.lookup x=pr .free/\mX X scope xs js
 | _,_=>False
theorem mX.get{X:Cx}{scope:Ua}:∀{xs:List Str} {J:List Nat} {i:Nat} {x:Str},mX X scope xs J->xs[i]? =pr x->
 ∃j,J[i]? =pr j/\X.N[j]? =pr x/\(X.env.scope.names.lookup x=pr .cell\/X.env.scope.names.lookup x=pr .free)/\scope.names.lookup x=pr .free
 | [],_,_,_,_,e=>by simp at e
 | _::_,[],_,_,h,_=>h.elim
 | y::ys,j::J,0,x,h,e=>by simp at e;subst e;exact#[j,rfl,h.1,h.2.1,h.2.2.1]
 | y::ys,j::J,i+1,x,h,e=>by obtain⟨Y,e1,r⟩:=mX.get (i:=i) (x:=x) h.2.2.2 (by simpa using e);exact#[Y,by simpa using e1,r]
theorem mX.length{X:Cx}{scope:Ua}:∀{xs:List Str} {J:List Nat},mX X scope xs J->xs.length=J.length
 | [],[],_=>rfl
 | [],_::_,h=>h.elim
 | _::_,[],h=>h.elim
 | _::_,_::_,h=>by rw[AC,AC,mX.length h.2.2.2]
def pq(m:Nat)(caps:List Nat)(σ:St):St:=wn m qh++caps.map λi=>(σ[i]?).getD qh
theorem lookup_mem{α β:Type}[BEq α][LawfulBEq α]:∀{l:List (α×β)} {x:α} {b:β},l.lookup x=pr b->(x,b)∈l
 | [],_,_,h=>by simp at h
 | (a,c)::r,x,b,h=>by
  rw[Tb] at h;split at h;rename_i q;have:x=a:=by simpa using q
  subst this;cases h;exact wp;exact wf _ (lookup_mem h)
section
variable {X : Cx}
theorem jf{scope:Ua}{env:Env}:∀{names:List (Str×TV)} {x:Str} {k:TV},(names.map λ(n,k)=>if (k == NameKind.free&&env.scope.kind == .function&&env.kindOf n == pr .cell) then (n,NameKind.cell) else (n,k)).lookup x=pr k->
 ∃J,names.lookup x=pr J/\(J=k\/(J=.free/\k=.cell))
 | [],_,_,h=>by simp at h
 | (n,k0)::r,x,k,h=>by
  have h':Us x ((if (k0 == NameKind.free&&env.scope.kind == .function&&env.kindOf n == pr .cell)=ss then (n,NameKind.cell) else (n,k0))::r.map _)=pr k:=h;by_cases hc:(k0 == NameKind.free&&env.scope.kind == .function&&env.kindOf n == pr .cell)=ss;rw[if_pos hc,Tb] at h';rw[Tb];split at h';rename_i q;cases h';have hk:k0=.free:=by simp only[Tp] at hc;simpa using hc.1.1
  exact#[k0,rfl,.inr #[hk,rfl]];rename_i q;exact jf (scope:=scope) h';rw[if_neg hc,Tb] at h';rw[Tb];split at h';rename_i q;cases h';exact#[k0,rfl,.inl rfl];rename_i q;exact jf (scope:=scope) h'
structure oC(X:Cx)(scope:Ua)(own cap:List Str)(caps:List Nat):Prop where
 kind:scope.kind=.function
 cell:∀y∈scope.names,y.2=.cell->scope.names.lookup y.1=pr .cell
 nm:∀y∈scope.names,y.2=.local->scope.names.lookup y.1=pr .local
 fr:∀y∈scope.names,y.2=.free->y.1∈cap
 caps:mX X scope cap caps
 nd:(own++cap).Nodup
theorem oC.out{X:Cx}(S:oC X scope own cap caps){n:Str}(h:(n,NameKind.free)∈scope.names):X.env.scope.names.lookup n=pr .cell\/X.env.scope.names.lookup n=pr .free:=by obtain⟨i,hi,e⟩:=SX (S.fr _ h rfl);obtain⟨_,_,_,k,_⟩:=S.caps.get (i:=i) (x:=n) (by rw[ut hi,e]);exact k
theorem K2 {fp:List sK} {h1:Rs} {tk:Nat} (Sc:oC X scope own cap caps) (I:Inv X pins σ H s)
 (ab:∀b∈fp,nN X pins H b) (az:∀b∈fp,∃o,s.heap.get? b=pr o) (a5:h1.Ns s.heap.objs.size λ_=>qh)
 (hk:∀b o,s.heap.get? b=pr o->h1.get? b=pr o) (Y:CellsOk h1 (s.heap.objs.size+1) (cellsFrom (s.heap.objs.size+1) scope.names [])):
 Inv (cxC X scope (own++cap) fp s H) [] (pq own.length caps σ) H {s with heap:=h1,toks:=tk}:=by
 have bb:∀n,(n,NameKind.free)∈scope.names->∃c,X.env.cells.lookup n=pr c:=λn hn=>I.ok.has n (Sc.out hn);have sub:∀x c,(fK X.env scope.names []).lookup x=pr c->X.env.cells.lookup x=pr c:=t6 scope.names [] bb (λx c e=>by simp at e);have fresh:H s.heap.objs.size=none:=I.hok.fresh (wS _);have J:∀x c,(cellsFrom (s.heap.objs.size+1) scope.names (fK X.env scope.names [])).lookup x=pr c->((x,c)∈cellsFrom (s.heap.objs.size+1) scope.names []/\s.heap.objs.size<c)\/((cellsFrom (s.heap.objs.size+1) scope.names []).lookup x=qh/\X.env.cells.lookup x=pr c/\c<s.heap.objs.size):=λx c e=>by
  rw[gG] at e;rcases HZ e with q | ⟨q0,q⟩
  exact .inl #[mem_of_lookup q,(Y.empty x c (mem_of_lookup q)).2];have q':=sub x c q;obtain⟨v,o,ho,_⟩:=I.cell x c q';exact .inr #[q0,q',Heap.lt_size ho]
 have ac:∀x,scope.names.lookup x=pr .free->(cellsFrom (s.heap.objs.size+1) scope.names []).lookup x=none:=λx hx=>by
  cases e:(cellsFrom (s.heap.objs.size+1) scope.names []).lookup x with
  | none=>rfl
  | some c=>
   have:=Sc.cell _ (o4 _ _ (mem_of_lookup e)) rfl;dsimp only at this;rw[hx] at this;cases this
 refine#[#[I.ok.mod,Sc.kind,I.ok.glob,I.ok.blt,wS _,λx y c e1 e2=> ?_,λx hx=> ?_,λx c h e=> ?_,I.ok.hd,I.ok.frames,.inl rfl,λb hb=>#[?_,λx c e=> ?_],I.bs,SE I.ok.bsz I.sz,λb o e hb=> ?_,λb hb hs=> ?_,I.stack,I.stkFree],
  rfl,I.bare,Un.kept hk,#[_,a5,λi x v e1 e2 e3=> ?_],λx c e=> ?_,fresh,λx c e=> ?_,λp hp=>absurd (show p∈([]:List (sK×Obj)) from hp) (by simp),I.hok.kept hk, ?_]
 rcases J x c e1 with⟨p1,p2⟩ | ⟨_,p1,p2⟩ <;> rcases J y c e2 with⟨q1,q2⟩ | ⟨_,q1,q2⟩;exact name_of_addr Y.apart p1 q1;exact absurd p2 (Xc.mpr (T6 q2));exact absurd q2 (Xc.mpr (T6 p2));exact I.ok.inj x y c p1 q1;have bd:(relabel scope X.env).names.lookup x=pr .cell\/(relabel scope X.env).names.lookup x=pr .free:=hx;have:(x,NameKind.free)∈scope.names\/scope.names.lookup x=pr .cell:=by rcases bd with q | q;obtain⟨k',e1,e2⟩:=jf (scope:=scope) q;rcases e2 with rfl | ⟨rfl,_⟩;exact .inr e1;exact .inl (lookup_mem e1);obtain⟨k',e1,e2⟩:=jf (scope:=scope) q;rcases e2 with rfl | ⟨rfl,z⟩;exact .inl (lookup_mem e1);cases z
 rcases this with q | q;show ∃c,(cellsFrom (s.heap.objs.size+1) scope.names (fK X.env scope.names [])).lookup x=pr c;rw[gG];exact Fo (pP scope.names [] x q);exact VS.mp (Uu scope.names _ _ (.inl q));have h':scope.names.lookup x=pr .cell:=by have:(scope.names.lookup x == pr NameKind.cell)=true:=h;simpa using this
 rcases J x c e with⟨_,p⟩ | ⟨p,_⟩;exact T6 p;have:=Uu scope.names (s.heap.objs.size+1) [] (.inl h');rw[p] at this;cases this;obtain⟨o,ho⟩:=az b hb;exact Ix (Heap.lt_size ho);rcases J x c e with⟨_,p⟩ | ⟨_,p,_⟩;obtain⟨o,ho⟩:=az b hb;exact λz=>absurd (Heap.lt_size ho) (Xc.mpr (T6 (z▸p)))
 exact(ab b hb).2.2.2.2.1 x c p;rcases(ab b hb).2.2.2.1 with z | z
 exact I.ok.noex b o e z;exact absurd (Gc (Heap.lt_size e) (SE I.ok.bsz z)) (Tu _);rcases wE.mp (I.stkSub b hs) with z | z
 exact(ab b hb).2.1 z;exact(ab b hb).2.2.1 z;have a2:(own++cap)[i]? =pr x:=e1;have hi:own.length<=i:=by by_cases q:i<own.length;unfold pq at e2;rw[AT (by simpa using q),IR] at e2;split at e2 <;> cases e2;omega
 rw[wP hi] at a2;obtain⟨j,hj,hN,a3,am⟩:=Sc.caps.get a2;unfold pq at e2;rw[wP (by simpa using hi)] at e2;simp only[UB,wT,hj,Tn,WS] at e2;have be:σ[j]? =pr (pr v):=by
  cases q:σ[j]? with
  | none=>rw[q] at e2;simp at e2
  | some ov=>rw[q] at e2;simp at e2;rw[e2]
 obtain⟨m,hm,hl⟩:=I.loc;obtain⟨u,ru,lk⟩:=hl j x v hN be (a3.elim (λz=>.inr (.inl z)) λz=>.inr (.inr z));refine#[u,ru,.inr #[?_, ?_]];rcases e3 with q | q | q
 obtain⟨k',w1,w2⟩:=jf (scope:=scope) (show (relabel scope X.env).names.lookup x=pr .local from q);rw[am] at w1;cases w1;rcases w2 with w | ⟨_,w⟩ <;> cases w
 exact .inl q;exact .inr q;rcases lk with⟨z,_⟩ | ⟨_,c,ec,hc⟩
 have z':X.env.scope.names.lookup x=pr .local:=z;rcases a3 with q | q <;> (rw[q] at z';cases z')
 obtain⟨c',a4⟩:=pP (env:=X.env) scope.names [] x (lookup_mem am);have:=sub x c' a4;rw[ec] at this;cases this;obtain⟨oc,an,ap⟩:=hc;refine#[c, ?_,oc,hk _ _ an,ap];show (cellsFrom (s.heap.objs.size+1) scope.names (fK X.env scope.names [])).lookup x=pr c;rw[gG,ve (ac x am)];exact a4;rcases J x c e with⟨p,_⟩ | ⟨_,p,_⟩
 exact#[qh,(Y.empty x c p).1];obtain⟨v,oc,an,ap⟩:=I.cell x c p;exact#[v,oc,hk _ _ an,ap];rcases J x c e with⟨_,p⟩ | ⟨_,p,_⟩
 exact I.hok.fresh (T6 p);exact I.freeC x c p;unfold pq;have:=Sc.caps.length;simp[cxC,this]
theorem Jk {prog:FS} {w:IN} {A:SN} {R:WF->vr->Prop} {s:vr} {a2 J am:KE} {a3:List KE} {scope:Ua} {pos:Pos} {it a4:sn} {env:Env} (I:Nat->vr->Prop)
 (bb:∀n s,I n s->wpAny (model prog w) A (pyNext it) (λr Y=>match r with
  | none=>R (.ok .next) Y
  | some v=>wpAny (model prog w) A (letOwnedTupleGo J it v) (λ_ ab=>wpAny (model prog w) A (assign J env v) (λ_ an=>
   wpAny (model prog w) A (forIn a3 ss λc r=>if r=ss then do let ok <- isTrue c env (eval c env);pure (Uo ok) else pure (Uo r)) (λok ac=>
    if ok=ss then wpAny (model prog w) A (eval a2 env) (λx ap=>
     wpAny (model prog w) A (call (.builtin "list.append") [a4,x]) (λ_ as=>∃m,m<n/\I m as) (λ_ _=>False) ap) (λ_ _=>False) ac
    else ∃m,m<n/\I m ac) (λ_ _=>False) an) (λ_ _=>False) ab) (λ_ _=>False) Y) (λ_ _=>False) s)
 (n:Nat) (h:I n s):
 codeAny (model prog w) A (.compLoop (.ListComp a2 [#[J,am,a3,0]] scope pos) 0 it a4 env) R s:=by
 refine codeAny_loop rfl I (λn s hI=> ?_) n h;show wpAny _ A ((compTurn (.ListComp a2 [#[J,am,a3,0]] scope pos) 0 it a4 env).onRaise (λx=>do noteFrame x env;theTreesLotGoes x)) _ _ s;refine wpAny_noted ?_;rw[compTurn_list];refine xY (Ws (xY (T3 (bb n s hI) (λr Y az=> ?_) λ_ _ h'=>h'.elim)));cases r with
 | none=>exact Ps az
 | some v=>
  refine xY (T3 az (λ_ ab a5=>xY (T3 a5 (λ_ an bd=>xY (T3 bd (λok ac a1=> ?_) λ_ _ h'=>h'.elim)) λ_ _ h'=>h'.elim)) λ_ _ h'=>h'.elim);cases ok with
  | false=>exact Ps #[rfl,a1]
  | true=>
   exact xY (xY (T3 a1 (λx ap be=>xY (T3 be (λ_ as bf=>Ps (Ps #[rfl,bf])) λ_ _ h'=>h'.elim)) λ_ _ h'=>h'.elim))
def PTs(X:Cx)(J:List KE)(t:TT):Prop:=
 ∀(pins:List (sK×Obj)) (s:vr) (σ:St) (H:Hp) (Q:Bool->Hp->Prop),Inv X pins σ H s->t σ H Q->
  wpAny (model X.prog X.w) X.A (forIn J ss λc r=>if r=ss then do let ok <- isTrue c X.env (eval c X.env);pure (Uo ok) else pure (Uo r)) (TP X pins σ Q) X.xe s
def MQ:TT:=λ_ H Q=>Q ss H
theorem bI:PTs X [] MQ:=λ_ _ _ H _ I h=>wpAny_tests_nil #[H,I,h]
theorem pT{c:KE}{t:TT}(h:PT X c t):PTs X [c] t:=λpins s σ H Q I q=>wpAny_tests_one (h pins s σ H Q I q)
def tW(m:Nat)(caps:List Nat)(wi:TI)(g:TG)(tc:TT)(te:TE):TE:=λσ H Q=>wi σ H λJ H1=>∀p,H1 p=qh->
 ∃W:Nat->Nat->List V->St->Hp->Prop,(∃k,W 0 k [] (pq m caps σ) (upd H1 p (.lst [])))/\∀i k Y ac H',W i k Y ac H'->
  (J.stop i H'/\H' p=pr (.lst Y)/\Q (.ref p) H')\/(J.go i H'/\∀x H2,J.yld i H' x H2->g x ac H2 λab H3=>tc ab H3 λb H4=>if b=ss then
   te ab H4 λy H5=>H5 p=pr (.lst Y)/\Y.length<sizeLine/\∃k',k'<k/\W (i+1) k' (Y++[y]) ab (upd H5 p (.lst (Y++[y])))
   else ∃k',k'<k/\W (i+1) k' Y ab H4)
theorem Ku{N':List Str}{pins Y:List (sK×Obj)}{σ ac:St}{H3 H':Hp}{s3 s':vr}(I3:Inv X pins σ H3 s3)(I':Inv (cxC X scope N' fp s3 H3) Y ac H' s')(J:∀b∈fp,nN X pins H3 b):Inv X pins σ H' s':=
 I3.call' (ch:=fp) I'.os I'.base I'.hok I'.bare λb hb=>#[(J b hb).2.2.2.1,(J b hb).2.1,(J b hb).2.2.2.2.1,(J b hb).2.2.2.2.2]
theorem z3 {ac bm bt:KE} {bv:List KE} {scope:Ua} {pos:Pos} {own cap:List Str} {caps:List Nat} {g:TG} {tc:TT} {te:TE} {pins:List (sK×Obj)} {σ:St} {H2:Hp} {Y:vr} {it:sK} {fp:List sK} {tn:Nat->Rs->Prop} {J:It} {E:sn->vr->Prop}
 {RR:sn->sK->WF->vr->Prop} {Q:VK}
 (hc:X.calm=ss) (Sc:oC X scope own cap caps)
 (hg:∀s H,PG (cxC X scope (own++cap) fp s H) ac g) (ht:∀s H,PTs (cxC X scope (own++cap) fp s H) bv tc) (he:∀s H,PE (cxC X scope (own++cap) fp s H) bt te)
 (I:Inv X pins σ H2 Y) (T:Turn X.prog X.w X.K ac J fp it tn) (t0:tn 0 Y.heap) (b4:∀b∈fp,nN X pins H2 b)
 (hQ:∀p,H2 p=qh->∃W:Nat->Nat->List V->St->Hp->Prop,(∃k,W 0 k [] (pq own.length caps σ) (upd H2 p (.lst [])))/\∀i k ab a4 H',W i k ab a4 H'->
  (J.stop i H'/\H' p=pr (.lst ab)/\Q (.ref p) H')\/(J.go i H'/\∀x H2,J.yld i H' x H2->g x a4 H2 λbe H3=>tc be H3 λb H4=>if b=ss then
   te be H4 λy H5=>H5 p=pr (.lst ab)/\ab.length<sizeLine/\∃k',k'<k/\W (i+1) k' (ab++[y]) be (upd H5 p (.lst (ab++[y])))
   else ∃k',k'<k/\W (i+1) k' ab be H4))
 (cu:∀C p H' s' m,X.s₀.heap.objs.size<=C->C≠X.env.locals->(∀x c,X.env.cells.lookup x=pr c->c≠C)->(∀q∈X.pn++pins,q.1≠C)->H' C=qh->s'.heap.Ns C m->Inv X pins σ H' s'->Q (.ref p) H'->RR (.ref p) C (.ok .next) s'):
 wpAny (model X.prog X.w) X.A (newList []) (λab b5=>wpAny (model X.prog X.w) X.A (newFunctionEnv scope X.env.globals (fK X.env scope.names []) [] X.env.qual qh .none (pr X.env)) (λbn an=>
  codeAny (model X.prog X.w) X.A (.compStart (.ListComp bt [#[ac,bm,bv,0]] scope pos) 0 (.ref it) ab {bn with scope:=relabel scope X.env}) (RR ab bn.locals) an) E b5) E Y:=by
 refine wpAny_newObj_type (FX ?_);dsimp only;have cw:H2 Y.heap.objs.size=none:=I.hok.fresh (wS _);have I3:Inv X pins σ (upd H2 Y.heap.objs.size (.lst [])) {Y with heap:=Y.heap.push {cls:=.type "list",dict:=qh,data:=.seq ([]:List sn).toArray}}:=I.lnew (t':=Y.toks) .nil (SU _);obtain⟨W,⟨k0,w0⟩,b6⟩:=hQ Y.heap.objs.size cw;have b7:∀b o,Y.heap.get? b=pr o->(Y.heap.push {cls:=.type "list",dict:=qh,data:=.seq ([]:List sn).toArray}).get? b=pr o:=λb o e=>Heap.get?_push_of_some _ e;have cx:∀b∈fp,b≠Y.heap.objs.size:=λb hb=>by obtain⟨o,ho,_⟩:=T.obj 0 Y.heap t0 b hb;exact Ix (Heap.lt_size ho)
 have bb:∀b∈fp,nN X pins (upd H2 Y.heap.objs.size (.lst [])) b:=λb hb=>#[by rw[aZ (cx b hb)];exact(b4 b hb).1,(b4 b hb).2];have cc:∀b∈fp,∃o,(Y.heap.push {cls:=.type "list",dict:=qh,data:=.seq ([]:List sn).toArray}).get? b=pr o:=λb hb=>by obtain⟨o,ho,_⟩:=T.obj 0 Y.heap t0 b hb;exact#[o,b7 b o ho]
 generalize am:pushCells ((Y.heap.push {cls:=.type "list",dict:=qh,data:=.seq ([]:List sn).toArray}).push {cls:=.type "dict",data:=.dict #v[]}) scope.names=ap;have az:ap.Ns (Y.heap.push {cls:=.type "list",dict:=qh,data:=.seq ([]:List sn).toArray}).objs.size λ_=>none:=by rw[<- am];exact(Heap.Ns.new _ (.type "dict")).keeps (pushCells_keeps _ _)
 have hk:∀b o,(Y.heap.push {cls:=.type "list",dict:=qh,data:=.seq ([]:List sn).toArray}).get? b=pr o->ap.get? b=pr o:=λb o e=>by rw[<- am];exact pushCells_keeps _ _ b o (Heap.get?_push_of_some _ e)
 have bp:CellsOk ap ((Y.heap.push {cls:=.type "list",dict:=qh,data:=.seq ([]:List sn).toArray}).objs.size+1) (cellsFrom ((Y.heap.push {cls:=.type "list",dict:=qh,data:=.seq ([]:List sn).toArray}).objs.size+1) scope.names []):=by rw[<- am];exact JO
 clear am;have ce:tn 0 ap:=T.keep 0 _ _ t0 λb hb o e=>hk b o (b7 b o e);generalize ci:({Y with heap:=Y.heap.push {cls:=.type "list",dict:=qh,data:=.seq ([]:List sn).toArray}}:vr)=s3 at I3;have cA:s3.heap=Y.heap.push {cls:=.type "list",dict:=qh,data:=.seq ([]:List sn).toArray}:=by rw[<- ci]
 rw[<- cA] at az cc hk bp ⊢;generalize Y.heap.objs.size=D at *;generalize dn:upd H2 D (.lst [])=H3 at *;have ck:∀an:vr,an={s3 with heap:=ap}->
  codeAny (model X.prog X.w) X.A (.compLoop (.ListComp bt [#[ac,bm,bv,0]] scope pos) 0 (.ref it) (.ref D) (compEnvC scope (cellsFrom (s3.heap.objs.size+1) scope.names (fK X.env scope.names [])) s3.heap.objs.size X.env)) (RR (.ref D) s3.heap.objs.size) an:=by
  rintro an rfl;have I4:=K2 (tk:=s3.toks) Sc I3 bb cc az hk bp;have bd:∀{H':Hp},(∀b∈fp,H' b=qh)->∀b∈fp,nN (cxC X scope (own++cap) fp s3 H3) [] H' b:=λhn b hb=>by refine#[hn b hb,(I4.ok.exf b hb).1,I4.ok.exfs b hb,.inl hb,(I4.ok.exf b hb).2,λp hp=>absurd (show p∈([]:List (sK×Obj)) from hp) (by simp)]
  refine Jk (λn s'=>∃i ab a4 H',Inv (cxC X scope (own++cap) fp s3 H3) [] a4 H' s'/\tn i s'.heap/\(∀b∈fp,H' b=qh)/\W i n ab a4 H') ?_ k0 #[0,[],_,_,I4,ce,λb hb=>(bb b hb).1,w0];rintro n s5 ⟨i,ab,bi,H5,I5,cm,cn,w5⟩;rcases b6 i n ab bi H5 w5 with⟨co,hp,q⟩ | ⟨go,step⟩
  refine thn (T.done (cxC X scope (own++cap) fp s3 H3) rfl rfl rfl hc i [] s5 bi H5 _ I5 (bd cn) cm co) λr s6 #[hr,I6]=> ?_;subst hr;obtain⟨m,hm,_⟩:=I6.loc;refine cu s3.heap.objs.size D H5 s6 m I3.sz (U6 I3.lt) (λx c e=> ?_) (λp hp=> ?_) I6.free hm (Ku I3 I6 bb) q;obtain⟨v,o,ho,_⟩:=I3.cell x c e;exact Ix (Heap.lt_size ho);exact Ix (Heap.lt_size (I3.pin p hp).1);refine thn (T.item (cxC X scope (own++cap) fp s3 H3) rfl rfl rfl hc i [] s5 bi H5 _ I5 (bd cn) cm go) λr s6 #[u,hr,h6]=> ?_;subst hr;refine thn h6 λ_ s7 #[x,H7,I7,r7,y7,st7,fr7]=> ?_;have cB:=I7.pinned (bd fr7) (T.obj _ _ st7);refine thn (hg s3 H3 _ s7 bi H7 x u _ cB r7 (step x H7 y7)) λ_ s8 #[σ8,H8,I8,q8]=> ?_;refine thn (ht s3 H3 _ s8 σ8 H8 _ I8 q8) λb s9 #[H9,I9,q9]=> ?_;have again:∀{b1:St} {Hz:Hp} {sz:vr},Inv (cxC X scope (own++cap) fp s3 H3) ([]++vA fp s7.heap) b1 Hz sz->Inv (cxC X scope (own++cap) fp s3 H3) [] b1 Hz sz/\tn (i+1) sz.heap/\∀b∈fp,Hz b=none:=λ{b1 Hz sz} Iz=>by refine#[Iz.unpinned,T.keep _ _ _ st7 λb hb o e=>(Iz.pin (b,o) (PP _ (PP _ (pL hb e)))).1,λb hb=> ?_];obtain⟨o,e,d⟩:=T.obj _ _ st7 b hb;exact(Iz.pin (b,o) (PP _ (PP _ (pL hb e)))).2.1
  cases b with
  | false=>
   rw[if_neg Eb] at q9 ⊢;obtain⟨k',b2,w'⟩:=q9;obtain⟨a1,a2,a3⟩:=again I9;exact#[k',b2,i+1,ab,σ8,H9,a1,a2,a3,w']
  | true=>
   rw[if_pos rfl] at q9 ⊢;refine thn (he s3 H3 _ s9 σ8 H9 _ I9 q9) λyv s10 #[y,H10,I10,r10,hp,hl,k',b2,w']=> ?_;refine thn (fo _ s10 σ8 H10 (.ref D) [y] (.ref D) [yv] (λv Hz=>Hz=upd H10 D (.lst (ab++[y]))) I10 rfl (.cons r10 .nil) #[D,ab,y,rfl,rfl,hp,hl,rfl]) λ_ s11 #[_,H11,I11,_,e11]=> ?_;subst e11;obtain⟨a1,a2,a3⟩:=again I11;exact#[k',b2,i+1,ab++[y],σ8,_,a1,a2,a3,w']
 have cp:=ck _ rfl;subst ci;exact codeAny_compStart_list cp (T.self _ _ _ _ _ ce cp)
theorem PTs.ok{X:Cx}(I:Inv X pins σ H s)(J:oC X scope own cap caps):closureFor scope X.env=pure (fK X.env scope.names []):=
 C4 λn hn=>I.ok.has n (J.out hn)
theorem cz {Y ab ac:KE} {am:List KE} {pos:Pos} {wi:TI} {g:TG} {tc:TT} {te:TE} (hc:X.calm=ss) (Sc:oC X scope own cap caps) (hi:PI X Y ab wi)
 (hg:∀fp s H,PG (cxC X scope (own++cap) fp s H) Y g) (ht:∀fp s H,PTs (cxC X scope (own++cap) fp s H) am tc) (he:∀fp s H,PE (cxC X scope (own++cap) fp s H) ac te)
 (hs:∀x,foldedSetIterable ab X.env x=pure x:=by intro _;rfl):PE X (.ListComp ac [#[Y,ab,am,0]] scope pos) (tW own.length caps wi g tc te):=by
 intro pins s σ H Q I h;rw[eval_ListComp];refine VQ (use:=qh) rfl hs (PTs.ok I Sc) Sc.kind Sc.nm (thn (hi pins s σ H _ I h) λv s1 h1=>thn h1 λa4 s2 h2=> ?_);obtain⟨it,fp,tn,J,H2,e,I2,T,ap,f2,q⟩:=h2;subst e;refine z3 (Q:=Q) (RR:=λas C=>compPost (model X.prog X.w) X.A X.xe qh (EP X pins σ Q) as C) hc Sc (hg fp) (ht fp) (he fp) I2 T ap f2 q ?_;intro C p H' s' m h1 h2 h3 h4 h5 hn I' q';exact#[m,hn,λh' az=>#[.ref p,H',I'.turned (it:=C) (t':=s'.toks) (λb o hb e=>az.extBut b o hb e) h5 (Ux h2.symm) (.inr h1) h3 h4,rfl,q']]
theorem c9 {Y ab ac:KE} {am:List KE} {pos an py:Pos} {wi:TI} {g:TG} {tc:TT} {te:TE} {i:Nat} {y:Str} (hc:X.calm=ss) (Sc:oC X scope own cap caps) (hi:PI X Y ab wi)
 (hg:∀fp s H,PG (cxC X scope (own++cap) fp s H) Y g) (ht:∀fp s H,PTs (cxC X scope (own++cap) fp s H) am tc) (he:∀fp s H,PE (cxC X scope (own++cap) fp s H) ac te)
 (hN:X.N.Nodup) (hx:X.N[i]? =pr y) (hl:Loc X.env.scope y)
 (az:swapsWith (.ListComp ac [#[Y,ab,am,0]] scope pos) (pr (.Name y py)) an.line X.env=pure ss)
 (hs:∀x,foldedSetIterable ab X.env x=pure x:=by intro _;rfl) (hf:X.fn y=ss\/X.env.scope.names.lookup y=pr .local:=by first | exact .inl rfl | exact .inr rfl | assumption):
 PS X (.Assign [.Name y py] (.ListComp ac [#[Y,ab,am,0]] scope pos) an) (EC (tW own.length caps wi g tc te) (xx i)):=by
 intro pins s σ H D I h;rw[exec_Assign_Name_used _ _ _ _ az];refine xY (Ws (xY ?_));show wpAny _ _ (do let _ <- comprehension (.ListComp ac [#[Y,ab,am,0]] scope pos) scope X.env _ (newList []) xL (eval ab X.env) (pr (assign (.Name y py) X.env))) _ _ s;refine xY (T3 (VQ (use:=pr (assign (.Name y py) X.env)) (Q:=λ_ s'=>SP X pins D .next s') rfl hs (PTs.ok I Sc) Sc.kind Sc.nm
  (thn (hi pins s σ H _ I h) λv s1 h1=>thn h1 λbn s2 h2=> ?_)) (λ_ s' hq=>Ps (Ps hq)) λ_ _ e=>e)
 obtain⟨it,fp,tn,J,H2,e,I2,T,a1,f2,q⟩:=h2;subst e;refine z3 (Q:=λv H'=>xx i v σ H' D.nx) (RR:=λa2 C=>compPost (model X.prog X.w) X.A X.xe (pr (assign (.Name y py) X.env)) (λ_ s'=>SP X pins D .next s') a2 C) hc Sc (hg fp) (ht fp) (he fp) I2 T a1 f2 q ?_;intro C p H' s' m h1 h2 h3 h4 h5 hn I' q';show wpAny _ _ (assign (.Name y py) X.env (.ref p)) _ _ _;refine WP (Ci I' hN hx hl (show RelV (.ref p) (.ref p) from rfl) (λs'' I'' #[a,hsb,ha]=> ?_) hf);have a3:C≠a:=by rcases ha with rfl | ha;exact h2;exact(h3 _ _ ha).symm
 exact#[m,hn.sameBut hsb a3,λh' a4=>#[_,H',I''.turned (it:=C) (t':=s''.toks) (λb o hb e=>a4.extBut b o hb e) h5 h2 (.inr h1) h3 h4,q']]
end
section
variable {X : Cx}
def MO(K:uY):R2:=λx y H Q=>∃l b xs zs,x=.ref l/\y=.ref b/\SqL K H l xs/\SqL K H b zs/\xs.length+zs.length<=sizeLine/\∀p,H p=qh->Q (.ref p) (upd H p (.lst (xs++zs)))
theorem M5:OpR X (binaryOp .Add) (MO X.K):=by
 intro pins s σ H x y v u Q I rx ry h;obtain⟨l,b,xs,zs,rfl,rfl,hH,hB,hz,q⟩:=h;cases rx;cases ry;obtain⟨Y,r,pl,_⟩:=I.list hH;obtain⟨J,r2,an,_⟩:=I.list hB;obtain⟨⟨cls,dd,data,sl⟩,ho,hc,n,hd⟩:=pl.isList;obtain⟨⟨a2,ap,data2,as⟩,ab,ac,n2,am⟩:=an.isList;simp only at hc hd ac am;subst hc hd ac am;have e:Y.toArray++J.toArray=(Y++J).toArray:=by simp
 have bf:=r.length;have bi:=r2.length;refine concat_meets #[_,ho,rfl] #[_,ab,rfl] noFill_list_add seq_list_add PySem.F.slot_list_add PySem.F.entry_list_add (PySem.F.args_list_add_2 _ _) (list_addW l b Y.toArray J.toArray n n2 dd ap sl as (by simp only[Ae];omega)) #[ho,ab, ?_];rw[e];exact#[.ref _,_,I.lnew (t':=s.toks) (r.append r2) (by rw[Do];omega),rfl,q _ I.fresh]
mutual
def RdV(K:uY)(H:Hp):VJ->V->Prop
 | .none,v=>v=.non
 | .bool b,v=>v=.bl b
 | .int i,v=>v=.int i
 | .str x,v=>v=.str x
 | .list ds,v=>∃a xs,v=.ref a/\SqL K H a xs/\uh K H ds xs
 | .tuple ds,v=>∃a xs,v=.ref a/\SqT K H a xs/\uh K H ds xs
 | .dict _,_=>False
def uh(K:uY)(H:Hp):List VJ->List V->Prop
 | [],xs=>xs=[]
 | d::ds,xs=>∃v r,xs=v::r/\RdV K H d v/\uh K H ds r
end
mutual
theorem oH{pins:List (sK×Obj)}{σ:St}{H:Hp}{s:vr}(I:Inv X pins σ H s):∀{d:VJ} {v:V} {u:sn},RdV X.K H d v->RelV v u->∃J,Reads s.heap u d J
 | .none,v,u,h,r=>by unfold RdV at h;subst h;cases (show u=Value.none from r);exact#[_,.none]
 | .bool b,v,u,h,r=>by unfold RdV at h;subst h;cases (show u=Value.bool b from r);exact#[_,.bool b]
 | .int i,v,u,h,r=>by unfold RdV at h;subst h;obtain⟨t,rfl⟩:=(show ∃t,u=Value.int i t from r);exact#[_,.int i t]
 | .str x,v,u,h,r=>by unfold RdV at h;subst h;obtain⟨t,rfl⟩:=(show ∃t,u=Value.str x t from r);exact#[_,.str x t]
 | .list ds,v,u,h,r=>by unfold RdV at h;obtain⟨a,xs,rfl,hs,hr⟩:=h;cases (show u=Value.ref a from r);obtain⟨Y,rv,pl,_⟩:=I.list hs;obtain⟨o,ho,hc,n,hd⟩:=pl.isList;obtain⟨J,ra⟩:=t4 I hr rv;exact#[_,.list ho hc hd (by simpa using ra)]
 | .tuple ds,v,u,h,r=>by unfold RdV at h;obtain⟨a,xs,rfl,hs,hr⟩:=h;cases (show u=Value.ref a from r);obtain⟨Y,rv,⟨o,ho,hc,n,hd⟩,_⟩:=I.tuple hs;obtain⟨J,ra⟩:=t4 I hr rv;exact#[_,.tuple ho hc hd (by simpa using ra)]
 | .dict _,v,u,h,r=>by unfold RdV at h;exact h.elim
theorem t4{pins:List (sK×Obj)}{σ:St}{H:Hp}{s:vr}(I:Inv X pins σ H s):∀{ds:List VJ} {xs:List V} {us:List sn},uh X.K H ds xs->Vals xs us->∃J,ReadsAll s.heap us ds J
 | [],xs,us,h,r=>by unfold uh at h;subst h;cases r;exact#[_,.nil]
 | d::ds,xs,us,h,r=>by
  unfold uh at h;obtain⟨v,w,rfl,h1,h2⟩:=h;cases r with
  | cons Y r2=>
   obtain⟨J,a1⟩:=oH I h1 Y;obtain⟨bs,a2⟩:=t4 I h2 r2;exact#[_,.cons a1 a2]
end
def OH(K:uY):R2:=λx y H Q=>∃d e,RdV K H d x/\RdV K H e y/\SeqAt.shaped d=ss/\SeqAt.shaped e=ss/\Q (.bl (PyData.eqv d e)) H
def Qd(K:uY):R2:=λx y H Q=>∃d e,RdV K H d x/\RdV K H e y/\SeqAt.shaped d=ss/\SeqAt.shaped e=ss/\Q (.bl (!PyData.eqv d e)) H
theorem OJ(hu:X.A.units+64<cLine):OpR X (compareOp .Eq) (OH X.K):=by intro pins s σ H x y v u Q I J Y h;obtain⟨d,e,h1,h2,s1,s2,q⟩:=h;obtain⟨as,ra⟩:=oH I h1 J;obtain⟨bs,rb⟩:=oH I h2 Y;exact SeqAt.compareEq_shaped ra rb s1 s2 hu #[.bl _,H,I,rfl,q]
theorem Pw(hu:X.A.units+64<cLine):OpR X (compareOp .NotEq) (Qd X.K):=by intro pins s σ H x y v u Q I J Y h;obtain⟨d,e,h1,h2,s1,s2,q⟩:=h;obtain⟨as,ra⟩:=oH I h1 J;obtain⟨bs,rb⟩:=oH I h2 Y;exact SeqAt.compareNe_shaped ra rb s1 s2 hu #[.bl _,H,I,rfl,q]
def QI(K:uY)(H:Hp)(x:V)(T:String):Prop:=match x with
 | .non=>T="NoneType"
 | .bl _=>T="bool"
 | .int _=>T="int"
 | .str _=>T="str"
 | .ref a=>(T="list" /\∃xs,SqL K H a xs)\/(T="tuple" /\∃xs,SqT K H a xs)
 | _=>False
def LR(K:uY):List V->Hp->VK->Prop:=λxs H Q=>∃x c T b,xs=[x,.ty c]/\QI K H x T/\Xn K (.type T) (.type c)=pr b/\Q (.bl b) H
theorem EW:kT X (.builtin "isinstance") (LR X.K):=by
 intro pins s σ H xs us Q I r h;obtain⟨x,c,T,b,rfl,Y,hk,q⟩:=h;obtain⟨u,w,rfl,r1,r2⟩:=vals2 r;cases (show w=Value.type c from r2);have J:∀tk,EP X pins σ Q (.bool b) {s with toks:=tk}:=λtk=>#[.bl b,H,I.tok tk,rfl,q];cases x with
 | non=>cases (show u=Value.none from r1);cases (show T="NoneType" from Y);exact Uq PySem.W.kitx_none I.kIn U9 hk (λz=>nomatch z) J
 | bl y=>cases (show u=Value.bool y from r1);cases (show T="bool" from Y);exact Uq PySem.W.kitx_bool I.kIn U9 hk (λz=>nomatch z) J
 | int i=>obtain⟨t,e⟩:=(show ∃t,u=Value.int i t from r1);cases e;cases (show T="int" from Y);exact Uq PySem.W.kitx_int I.kIn U9 hk (λz=>nomatch z) J
 | str y=>obtain⟨t,e⟩:=(show ∃t,u=Value.str y t from r1);cases e;cases (show T="str" from Y);exact Uq PySem.W.kitx_str I.kIn U9 hk (λz=>nomatch z) J
 | ref a=>
  cases (show u=Value.ref a from r1);rcases Y with⟨rfl,xs,hs⟩ | ⟨rfl,xs,hs⟩
  obtain⟨ac,rv,⟨o,n,ho,hc,_⟩,_⟩:=I.list hs;exact Uq PySem.W.kitx_list I.kIn #[o,ho,hc] hk (λz=>nomatch z) J;obtain⟨ac,rv,⟨o,ho,hc,_⟩,_⟩:=I.tuple hs;exact Uq PySem.W.kitx_tuple I.kIn #[o,ho,hc] hk (λz=>nomatch z) J
 | byt y=>exact sH Y
 | flt y=>exact sH Y
 | ty y=>exact sH Y
end
structure Su(S:List sK)(e:sK)(oe:Obj)(h h':Rs)(T:sK):Prop where
 keep:∀b o,h.get? b=pr o->b∉S->b≠e->h'.get? b=pr o
 slot:∀b o,h.get? b=pr o->b∈S->∃sl,h'.get? b=pr {o with slots:=sl}
 new:h.objs.size<=T
 ne:T≠e
 exc:∃oe' vs,h'.get? e=pr oe'/\oe'.cls=oe.cls/\oe'.dict=oe.dict/\oe'.data=.fields vs/\vs[1]? =pr (.ref T)
 trc:∃oT ts,h'.get? T=pr oT/\oT.data=.fields ts/\ts[3]? =pr .none
section
variable {M : Model} {A : SN} {E : sn → vr → Prop} {s : vr}
structure Trc(h:Rs)(e:sK)(oe:Obj)(T:sK):Prop where
 exc:h.get? e=pr oe
 dat:∃vs,oe.data=.fields vs/\vs[1]? =pr (.ref T)
 ne:T≠e
 trc:∃oT ts,h.get? T=pr oT/\oT.data=.fields ts/\ts[3]? =pr .none
end
structure QB(P:FS)(w:IN)(fs:List sK)(H:Hp)(h:Rs)(x:sK)(H':Hp)(h':Rs)(oe:Obj)(T C:sK):Prop where
 un:Un fs [] H H' h h'
 hok:HOk P w H' h'
 nx:h.get? x=qh
 nT:h.get? T=qh
 hx:H' x=qh
 hT:H' T=qh
 tr:Trc h' x oe T
 cls:oe.cls=.ref C
def CXE(P:FS)(w:IN):CXT:=λouter H s E e s'=>∃x J T H' C,e=.ref x/\s'.os=s.os/\UU s'.gens/\QB P w (frs outer) H s.heap x H' s'.heap J T C/\E (.ref C) J.dict H'
section
variable {X : Cx} {pins : List (sK × Obj)} {σ : St} {H : Hp} {s : vr}
end
section
variable {P : FS} {w : IN} {K : uY} {mg : Str → Option sn} {base : Rs} {N : List Str} {qual : Str} {scope : Ua} {f : sK} {cd : sn} {A : SN} {outer : List Env} {s0 : vr} {H0 : Hp} {E : XK}
end
section
variable {X : Cx} {E : XK} {c : Str} {C : sK} {np cpos pos : Pos} {e : KE} {es : List KE} {t : TA} {B newId initId : String} {bmB : List sn}
end
section
variable {P : FS} {w : IN} {K : uY} {mg : Str → Option sn} {base : Rs}
theorem Fun.okE {CX:CXT} {N ps:List Str} {k:Nat} {sp:Sp} (F:Fun K x qual st f fd) (S:aY N ps (aM st)) (Y:∀vs H Q E,sp vs H Q E->vs.length=ps.length)
 (hb:∀(J:sn) (A:SN) (outer:List Env) (s:vr) (H:Hp) (vs:List V) (Q:VK) (E:XK),fU k (A.deeper (envOfC qual (aM st) s.heap.objs.size f J))->sp vs H Q E->
  ∃t,PSs (wM CX P w K mg base N qual (aM st) f J A outer s H E) (d3 st) t/\t {nx:=λ_ H'=>Q .non H',rt:=Q} (start N vs) H):lE P w K mg base CX (k+1) f fd ps sp:=by
 obtain⟨oc,od,kV,ac,pm,an,J,ct,am,rfl,look,ab⟩:=F.ex;exact QQ look ab S Y (hb J)
end
theorem Mf {l:V5} {n k:Nat} {q:FS} {J:List Str} {XP:(Str->Option sn)->Rs->Prop} {YP:IN->Rs->Prop} {d:DefRec} {K:Params->uY} {sp:uY->Sp} {x:Str} (hn:l.most=pr n) (Y:n<=sizeLine)
 (ab:d.params.defaults=[]) (hr:fU k callerA) (hi:importsNone q=ss) (hY:∀(w:IN) (h:Rs),YP w h->(K w.params).In h) (F:∀(w:IN) (mg:Str->Option sn) (fa:sK) (h:Rs),(K w.params).In h->h.Ns mainGlobals mg->mg d.name=pr (.ref fa)->
  ∃fd:Tr,(∀(s:vr) (u:sn),Vk s fd #[[u],[]] [(x,u)])/\∀base:Rs,(K w.params).In base->base.Ns mainGlobals mg->lE l.prog w (K w.params) mg base (CXE l.prog w) k fa fd [x] (sp (K w.params)))
 (ac:∀(K:uY) (H:Hp) (a:sK) (ns:List Int),ns.length<=n->HS H->SqL K H a (ns.map V.int)->sp K [.ref a] H (λv _=>v=.bl ss) λ_ _ _=>False):Xr q J XP YP l.row.toRowW d [] (λf vs=>Xd f vs):=
 Ng (K:=K) (CX:=λw=>CXE l.prog w) (sp:=λw=>sp (K w.params)) hn Y ab hr hi hY F (λw H a ns h1 h2 h3=>ac (K w.params) H a ns h1 h2 h3) λ_ _ _ _ _ #[_,_,_,_,_,_,_,_,_,z]=>z
section
variable {X : Cx} {CX : CXT} {k : Nat} {f C : sK} {fd : Tr} {ps : List Str} {sp : Sp} {dvs : List V} {ds : List sn} {Es : St → XK} {x m : Str} {p pos apos : Pos} {e o : KE} {es : List KE} {ta : TE} {t : TA}
end
section
variable {X : Cx} {pins : List (sK × Obj)} {σ : St} {H : Hp} {s : vr} {E : sn → vr → Prop}
end
def exO(a C:sK):HO:=.ext λh=>∃o,h.get? a=pr o/\o.cls=.ref C/\o.dict=qh/\(∀cd,o.data≠ .cls cd)
section
variable {X : Cx} {pins : List (sK × Obj)} {σ : St} {H : Hp} {s : vr} {v : sn}
end
structure So(X:Cx)(pins:List (sK×Obj))(H:Hp)(s:vr)(x C:sK):Prop where
 tr:∃oe T,Trc s.heap x oe T/\oe.cls=.ref C/\oe.dict=qh
 hx:H x=qh
 h0:X.s₀.heap.get? x=qh
 nl:x≠X.env.locals
 nc:∀y c,X.env.cells.lookup y=pr c->c≠x
 np:∀p∈X.pn++pins,p.1≠x
section
variable {X : Cx} {c : Str} {Dc : sK} {np pos : Pos} {b0 : Uy} {suite : List Uy} {rest : List ExceptHandler} {sub : sK → Option Bool} {tb : TS} {th : sK → TS}
end
open PySem PySem.Spec PyProof.Rows PySem.W
structure ExK(K:uY)(D:sK):Prop where
 ga:findIn K (.ref D) "__getattribute__" =pr (pr (.builtin "BaseException.__getattribute__"))
 hk:findIn K (.ref D) "__getattr__" =pr qh
 cl:findIn K (.ref D) "__class__" =pr (pr (.builtin "object.__class__"))
 gt:specialIn K (.builtin "object.__class__") "__get__" =pr (pr (.builtin "getset_descriptor.__get__"))
 tk:takesIn K (.builtin "object.__class__")=pr ss
 ob:mroIn K D (.type "object")=pr ss
 be:mroIn K D (.type "BaseException")=pr ss
section
variable {prog : FS} {w : IN} {A : SN} {E : sn → vr → Prop} {s : vr} {K : uY} {x D : sK} {ox : Obj}
end
open PySem PySem.Spec PyProof.Rows
section
variable {X : Cx} {pins : List (sK × Obj)} {σ : List (Option V)} {H : Hp} {s : vr} {h' : Rs}
theorem Inv.turnedL{t':Nat}{ch:List sK}(I:Inv X pins σ H s)(k:∀b o,b∉ch->s.heap.get? b=pr o->h'.get? b=pr o)(Y:∀b∈ch,nN X pins H b):Inv X pins σ H {s with heap:=h',toks:=t'}:=by
 have J:∀b u,H b=pr u->b∉ch:=λb u e z=>by rw[(Y b z).1] at e;cases e
 refine I.step (g':=s.gens) (d':=s.drawn) (ch:=ch) (λb hb=> ?_) (λb o _ _ hc e _=>k b o hc e) (λb o _ _ hc e _=>#[o.slots,k b o hc e]) (λ_ _ _ _ n=>n)
  (λb o hc e=>#[o,k b o hc e]) (λ_ _ e=>e) (λ_ _ _ e=>e) (λb ps e=>#[#v[],by rw[e];simp]) (λm hm=> ?_) (λb u e=> ?_) I.bare
 obtain⟨f0,f1,f2,f3,f4,f5⟩:=Y b hb;exact#[f3,f1,f4,f5];obtain⟨o,es,ep,ho,r⟩:=hm;exact#[o,es,ep,k _ o (λz=>(Y _ z).2.1 rfl) ho,r];refine(I.hok b u e).stay (λc v hc q=>k c v ?_ q) (λ_ q=>q) λ_ _ q=>q;rcases hc with z | z
 rw[z];exact J b u e;exact J c _ z
theorem Inv.turnedT {t':Nat} {ch:List sK} {T:sK} {xs:List V} (I:Inv X pins σ H s) (k:∀b o,b∉ch->s.heap.get? b=pr o->h'.get? b=pr o) (Y:∀b∈ch,nN X pins H b) (hT:s.heap.objs.size<=T)
 (ab:iV X.prog X.w (upd H T (.tup xs)) h' T (.tup xs)):Inv X pins σ (upd H T (.tup xs)) {s with heap:=h',toks:=t'}:=by
 have hn:H T=none:=I.hok.fresh hT;have J:∀b u,H b=pr u->b∉ch:=λb u e z=>by rw[(Y b z).1] at e;cases e
 refine I.step (g':=s.gens) (d':=s.drawn) (ch:=ch) (λb hb=> ?_) (λb o _ _ hc e _=>k b o hc e) (λb o _ _ hc e _=>#[o.slots,k b o hc e]) (λb o _ e n=> ?_)
  (λb o hc e=>#[o,k b o hc e]) (λb xs e=>by rw[aZ (gf e hn)];exact e) (λb o u e=>by rw[aZ (gf e hn)];exact e) (λb ps e=>#[#v[],by rw[aZ (gf e hn),e];simp]) (λm hm=> ?_) (λb u e=> ?_) I.bare
 obtain⟨f0,f1,f2,f3,f4,f5⟩:=Y b hb;exact#[f3,f1,f4,f5];have hb:b≠T:=λz=>by subst z;exact absurd (Gc (Heap.lt_size e) hT) (Tu _)
 rw[aZ hb];exact n;obtain⟨o,es,ep,ho,r⟩:=hm;exact#[o,es,ep,k _ o (λz=>(Y _ z).2.1 rfl) ho,r];by_cases hb:b=T;subst hb;rw[dg] at e;cases e;exact ab;rw[aZ hb] at e;refine(I.hok b u e).stay (λc v hc q=>k c v ?_ q) (λc q=>by rw[aZ (gf q hn)];exact q) λc xs q=>by rw[aZ (gf q hn)];exact q
 rcases hc with z | z;rw[z];exact J b u e;exact J c _ z
end
def Itz(K:uY)(a b:sK):It:=
 #[λi H=>∃xs ys x y,SqL K H a xs/\SqL K H b ys/\xs[i]? =pr x/\ys[i]? =pr y,
  λi H v H'=>∃T x y,H T=qh/\v=.ref T/\H'=upd H T (.tup [x,y])/\(∀xs,SqL K H a xs->xs[i]? =pr x)/\∀ys,SqL K H b ys->ys[i]? =pr y,
  λi H=>∃xs ys,SqL K H a xs/\SqL K H b ys/\(xs.length<=i\/ys.length<=i)]
def Ite(K:uY)(a:sK):It:=
 #[λi H=>∃xs x,SqL K H a xs/\xs[i]? =pr x,
  λi H v H'=>∃T x,H T=qh/\v=.ref T/\H'=upd H T (.tup [.int i,x])/\∀xs,SqL K H a xs->xs[i]? =pr x,
  λi H=>∃xs,SqL K H a xs/\xs.length<=i]
def Its(x:Str):It:=#[λi _=>i<x.cps.size,λi H v H'=>H'=H/\∃c,x.cps[i]? =pr c/\v=.str #[#v[c]],λi _=>x.cps.size<=i]
theorem J9{h:Rs}{T:sK}{x y:V}{u v:sn}(J:RelV x u)(Y:RelV y v)(hT:h.IsTuple T #v[u,v]):iV P w H h T (.tup [x,y]):=by refine#[by simp only[AC,V7];rw[Ur];decide,[u,v],.cons J (.cons Y .nil), ?_];exact hT
theorem Mb{P:FS}{w:IN}{K:uY}{elts:List KE}{kk:Nat}{tp:Pos}{z TI TO i1 i2 a b:sK}(D:ZipApart z TI TO i1 i2 a b):
 Turn P w K (.Tuple elts kk tp) (Itz K a b) [z,TI,TO,i1,i2] z (λi h=>IsZip h z TI TO .none/\IsPair h TI (.ref i1) (.ref i2)/\(∃u v,IsPair h TO u v)/\h.IsListIter i1 a i/\h.IsListIter i2 b i) where
 mem:=by simp
 obj:=λi h st c hc=>by
  obtain⟨q1,q2,⟨u,v,q3⟩,⟨o1,e1,c1,d1⟩,⟨o2,e2,c2,d2⟩⟩:=st;simp only[wE,TB,or_false] at hc;rcases hc with rfl | rfl | rfl | rfl | rfl
  exact#[_,q1,λv z=>by have z':Data.fields _=Data.cell v:=z;cases z'];exact#[_,q2,λv z=>by have z':Data.seq _ _=Data.cell v:=z;cases z'];exact#[_,q3,λv z=>by have z':Data.seq _ _=Data.cell v:=z;cases z'];exact#[o1,e1,λv z=>by rw[d1] at z;cases z];exact#[o2,e2,λv z=>by rw[d2] at z;cases z]
 keep:=λi h h' st k=>by obtain⟨q1,q2,⟨u,v,q3⟩,q4,q5⟩:=st;exact#[k z (by simp) _ q1,k TI (by simp) _ q2,#[u,v,k TO (by simp) _ q3],q4.at λo e=>k i1 (by simp) o e,q5.at λo e=>k i2 (by simp) o e]
 item:=by
  intro X hP hw hK hc i pins s σ H E I hf st hg;subst hP hw hK;obtain⟨xs,ys,x,y,hq1,hq2,hx,hy⟩:=hg;obtain⟨its1,rv1,p1,hz1⟩:=I.list hq1;obtain⟨its2,rv2,p2,hz2⟩:=I.list hq2;obtain⟨u,hu,ru⟩:=rv1.get hx;obtain⟨v,hv,rv⟩:=rv2.get hy;obtain⟨q1,q2,q3,q4,q5⟩:=id st;have W:=WalksT.zip2 (prog:=X.prog) (w:=X.w) (A:=X.A) (I.ok.hd hc) z TI TO i1 i2 a b D its1.toArray its2.toArray;have hi1:i<its1.length:=(Ch.mp hu).1;have hi2:i<its2.length:=(Ch.mp hv).1;refine W.item i s _ _ (by simp;omega) #[q1,q2,q3,q4,q5,p1.isList,p2.isList] λT vals h1 tk hP hT isT mid kk1=>#[.ref T,rfl,W.go elts _ tp i T _ _ _ mid λh2 st2 kk2=> ?_];obtain⟨u',v',e1,e2,rfl⟩:=hP;rw[show its1.toArray[i]? =its1[i]? by simp,hu] at e1;rw[show its2.toArray[i]? =its2[i]? by simp,hv] at e2;cases e1;cases e2;have nT:T∉([z,TO,i1,i2]:List sK):=W.apart i T _ mid;have sub:∀c,c∈([z,TO,i1,i2]:List sK)->c∈([z,TI,TO,i1,i2]:List sK):=λc hc=>by simp only[wE,TB,or_false] at hc ⊢;rcases hc with h | h | h | h <;> simp[h]
  have kk:∀c o,c∉([z,TO,i1,i2]:List sK)->s.heap.get? c=pr o->h2.get? c=pr o:=λc o hc e=>kk2 c o hc (kk1 c o hc e);have isT2:h2.IsTuple T #v[u,v]:=by obtain⟨o,e,c,d⟩:=isT;exact#[o,kk2 T o nT e,c,d]
  have I2:Inv X pins σ (upd H T (.tup [x,y])) {s with heap:=h2,toks:=tk}:=I.turnedT kk (λc hc=>hf c (sub c hc)) hT (J9 ru rv isT2);refine#[.ref T,_,I2,rfl,#[T,x,y,I.hok.fresh hT,rfl,rfl,λxs' h=>by rw[I.list_inj h hq1];exact hx,λys' h=>by rw[I.list_inj h hq2];exact hy],#[st2.1,st2.2.1,st2.2.2.1,st2.2.2.2.1,st2.2.2.2.2.1],λc hc=> ?_];have hc0:=(hf c hc).1;rw[aZ (λe=> ?_)];exact hc0;subst e;simp only[wE,TB,or_false] at hc;rcases hc with h | h | h | h | h
  exact nT (by simp[h]);have:TI<s.heap.objs.size:=Heap.lt_size q2;rw[<- h] at this;exact absurd (Gc this hT) (Tu _);exact nT (by simp[h]);exact nT (by simp[h]);exact nT (by simp[h])
 done:=by
  intro X hP hw hK hc i pins s σ H E I hf st hg;subst hP hw hK;obtain⟨xs,ys,hq1,hq2,hx⟩:=hg;obtain⟨its1,rv1,p1,hz1⟩:=I.list hq1;obtain⟨its2,rv2,p2,hz2⟩:=I.list hq2;have l1:=rv1.length;have l2:=rv2.length;obtain⟨q1,q2,⟨u,v,q3⟩,q4,q5⟩:=id st;refine wpAny_pyNext_zip_end (I.ok.hd hc) D q1 q2 q3 q4 q5 p1.isList p2.isList (by rcases hx with h | h;left;simp;omega;right;simp;omega) λh' hk=>#[rfl, ?_]
  exact I.turnedL (t':=s.toks) (ch:=[z,TI,TO,i1,i2]) (λc o hc e=>hk c o (λx=>hc (by simp[x])) (λx=>hc (by simp[x])) (λx=>hc (by simp[x])) (λx=>hc (by simp[x])) e) hf
 self:=λ_ _ _ _ _ st h=>wpAny_pyIter_zip st.1 h
theorem JL{P:FS}{w:IN}{K:uY}{elts:List KE}{kk:Nat}{tp:Pos}{e it a:sK}(hei:e≠it)(hle:a≠e)(hli:a≠it):
 Turn P w K (.Tuple elts kk tp) (Ite K a) [e,it] e (λi h=>(∃old,IsEnum h e it i old)/\h.IsListIter it a i) where
 mem:=by simp
 obj:=λi h st c hc=>by
  obtain⟨⟨old,q1⟩,⟨o1,e1,c1,d1⟩⟩:=st;simp only[wE,TB,or_false] at hc;rcases hc with rfl | rfl
  exact#[_,q1,λv z=>by have z':Data.fields _=Data.cell v:=z;cases z'];exact#[o1,e1,λv z=>by rw[d1] at z;cases z]
 keep:=λi h h' st k=>by obtain⟨⟨old,q1⟩,q4⟩:=st;exact#[#[old,k e (by simp) _ q1],q4.at λo e'=>k it (by simp) o e']
 item:=by
  intro X hP hw hK hc i pins s σ H E I hf st hg;subst hP hw hK;obtain⟨xs,x,hq1,hx⟩:=hg;obtain⟨its1,rv1,p1,hz1⟩:=I.list hq1;obtain⟨u,hu,ru⟩:=rv1.get hx;obtain⟨q1,q4⟩:=id st;have W:=WalksT.enumerate (prog:=X.prog) (w:=X.w) (A:=X.A) (I.ok.hd hc) e it a hei hle hli its1.toArray;have hi1:i<its1.length:=(Ch.mp hu).1;refine W.item i s _ _ (by simpa using hi1) #[q1,q4,p1.isList] λT vals h1 tk hP hT isT mid kk1=>#[.ref T,rfl,W.go elts _ tp i T _ _ _ mid λh2 st2 kk2=> ?_];obtain⟨t,u',e1,rfl⟩:=hP;rw[show its1.toArray[i]? =its1[i]? by simp,hu] at e1;cases e1;have nT:T∉([e,it]:List sK):=W.apart i T _ mid;have kk:∀c o,c∉([e,it]:List sK)->s.heap.get? c=pr o->h2.get? c=pr o:=λc o hc e=>kk2 c o hc (kk1 c o hc e);have isT2:h2.IsTuple T #v[.int i t,u]:=by obtain⟨o,e,c,d⟩:=isT;exact#[o,kk2 T o nT e,c,d]
  have I2:Inv X pins σ (upd H T (.tup [.int i,x])) {s with heap:=h2,toks:=tk}:=I.turnedT kk hf hT (J9 #[t,rfl] ru isT2);refine#[.ref T,_,I2,rfl,#[T,x,I.hok.fresh hT,rfl,rfl,λxs' h=>by rw[I.list_inj h hq1];exact hx],#[st2.1,st2.2.1],λc hc=> ?_];have hcT:c≠T:=λz=>by subst z;exact nT hc
  rw[aZ hcT];exact(hf c hc).1
 done:=by intro X hP hw hK hc i pins s σ H E I hf st hg;subst hP hw hK;obtain⟨xs,hq1,hx⟩:=hg;obtain⟨its1,rv1,p1,hz1⟩:=I.list hq1;have l1:=rv1.length;obtain⟨⟨old,q1⟩,q4⟩:=id st;refine wpAny_pyNext_enum_end (I.ok.hd hc) q1 q4 p1.isList (by simp;omega) λh' hk=>#[rfl, ?_];exact I.turnedL (t':=s.toks) (ch:=[e,it]) (λc o hc e'=>hk c o (λx=>hc (by simp[x])) e') hf
 self:=λ_ _ _ _ _ st h=>let #[_,q]:=st.1;WL q h
theorem Lb{tg:KE}{it:sK}(x:Str)(t:Tok)(ty:String)(hty:ty="str_ascii_iterator" \/ty="str_iterator"):Turn P w K tg (Its x) [it] it (λi h=>h.IsStrIter it ty x t i) where
 mem:=by simp
 obj:=λi h st b hb=>by
  have e:b=it:=by simpa using hb
  subst e;obtain⟨o,e,c,d⟩:=st;exact#[o,e,λv z=>by rw[d] at z;cases z]
 keep:=λi h h' st k=>let #[o,ho,r]:=st;#[o,k it (by simp) o ho,r]
 item:=by
  intro X hP hw hK hc i pins s σ H E I hf st hg;subst hP hw hK;have hg:i<x.cps.size:=hg;have W:Walks X.prog X.w X.A it [it] [it] x.cps.size (SignAt x) (λi h=>h.IsStrIter it ty x t i):=by rcases hty with rfl | rfl;exact Walks.strAscii (I.ok.hd hc) it x t;exact Walks.strWide (I.ok.hd hc) it x t
  refine W.item i s _ _ hg st λv h' tk hv st' kk=> ?_;obtain⟨c,u,hc',rfl⟩:=hv;have I1:Inv X pins σ H {s with heap:=h',toks:=tk}:=I.turnedL kk hf;obtain⟨o,e,hc1,d⟩:=id st';exact#[_,rfl,HL (s:={s with heap:=h',toks:=tk}) (n:=ty) e hc1 d (by rcases hty with rfl | rfl <;> decide) #[.str #[#v[c]],H,I1,#[u,rfl],#[rfl,c,hc',rfl],st',λb hb=>(hf b hb).1]]
 done:=by
  intro X hP hw hK hc i pins s σ H E I hf st hg;subst hP hw hK;have hg:x.cps.size<=i:=hg;rcases hty with rfl | rfl
  exact wpAny_pyNext_ascii_end (I.ok.hd hc) st (by simp;omega) λh' eb=>#[rfl,I.turnedL (t':=s.toks) (ch:=[it]) (λb o hb e=>eb b o (λz=>hb (by simp[z])) e) hf];exact wpAny_pyNext_wide_end (I.ok.hd hc) st (by simp;omega) λh' eb=>#[rfl,I.turnedL (t':=s.toks) (ch:=[it]) (λb o hb e=>eb b o (λz=>hb (by simp[z])) e) hf]
 self:=λ_ _ _ _ _ st h=>by rcases hty with rfl | rfl;exact wpAny_pyIter_striter_ascii st h;exact wpAny_pyIter_striter_wide st h
section
variable {X : Cx} {tg : KE}
def KW(K:uY)(ta:TA):TI:=λσ H R=>ta σ H λvs H1=>∃a b,vs=[.ref a,.ref b]/\(∃xs,SqL K H1 a xs)/\(∃ys,SqL K H1 b ys)/\R (Itz K a b) H1
def MI(K:uY)(ta:TA):TI:=λσ H R=>ta σ H λvs H1=>∃a,vs=[.ref a]/\(∃xs,SqL K H1 a xs)/\R (Ite K a) H1
def Pz(te:TE):TI:=λσ H R=>te σ H λx H1=>∃z,x=.str z/\R (Its z) H1
theorem lS{J:List KE}{kk:Nat}{tp:Pos}{a b:KE}{ta:TA}{p pos:Pos}(hg:Gl X "zip")(hm:X.mg "zip" =qh)(ha:PA X [a,b] ta)(hs:starEach [a,b] X.env=[(xL,eval a X.env),(xL,eval b X.env)]:=by rfl)(Y:starEach [b] X.env=[(xL,eval b X.env)]:=by rfl):
 PI X (.Tuple J kk tp) (.Call (.Name "zip" p) [a,b] [] pos) (KW X.K ta):=by
 intro pins s σ H R I h;refine Call_ (sP I hg hm Boot.«zip» (T7 (thn (ha pos pins s σ H _ I h) λus s1 #[vs,H1,I1,r1,q1]=> ?_) (by rw[hs,Y]) (by rw[Y];rfl)));obtain⟨l1,l2,e,⟨xs,ab⟩,⟨ys,ac⟩,q⟩:=q1;subst e;obtain⟨u,v,rfl,r,r'⟩:=vals2 r1;cases r;cases r';obtain⟨az,bf,p1,bi⟩:=I1.list ab;obtain⟨a3,bm,p2,bn⟩:=I1.list ac;refine call_zip_2 p1.isList p2.isList λh' hz am an ap as bp hk=> ?_;have a1:l1<s1.heap.objs.size:=by obtain⟨_,e,_⟩:=p1.isList;exact Heap.lt_size e
 have a2:l2<s1.heap.objs.size:=by obtain⟨_,e,_⟩:=p2.isList;exact Heap.lt_size e
 refine wpAny_pyIter_zip hz #[_,_,_,_,H1,rfl,I1.kept (t':=s1.toks) hk,Mb (zipApart_new a1 a2),#[hz,am,#[_,_,an],ap,as],λb hb=> ?_,q];have:s1.heap.objs.size<=b:=by simp only[wE,TB,or_false] at hb;rcases hb with rfl | rfl | rfl | rfl | rfl <;> omega
 exact I1.fpOk this (I1.hok.fresh this)
theorem k7{J:List KE}{kk:Nat}{tp:Pos}{a:KE}{ta:TA}{p pos:Pos}(hg:Gl X "enumerate")(hm:X.mg "enumerate" =qh)(ha:PA X [a] ta)(hs:starEach [a] X.env=[(xL,eval a X.env)]:=by rfl):
 PI X (.Tuple J kk tp) (.Call (.Name "enumerate" p) [a] [] pos) (MI X.K ta):=by
 intro pins s σ H R I h;refine Call_ (sP I hg hm Boot.«enumerate» (T7 (thn (ha pos pins s σ H _ I h) λus s1 #[vs,H1,I1,r1,q1]=> ?_) hs rfl));obtain⟨l1,e,⟨xs,Y⟩,q⟩:=q1;subst e;obtain⟨u,rfl,ru⟩:=vals1 r1;cases ru;obtain⟨am,a3,p1,a4⟩:=I1.list Y;refine call_enumerate_list p1.isList λh' hz ab a5 hk=> ?_;have a1:l1<s1.heap.objs.size:=by obtain⟨_,e,_⟩:=p1.isList;exact Heap.lt_size e
 refine WL hz #[_,_,_,_,H1,rfl,I1.kept (t':=s1.toks) hk,JL (e:=s1.heap.objs.size+1) (it:=s1.heap.objs.size) (a:=l1) (Nat.succ_ne_self _) (Ix (Uc a1)) (Ix a1),#[#[_,hz],ab],λb hb=> ?_,q];have:s1.heap.objs.size<=b:=by simp only[wE,TB,or_false] at hb;rcases hb with rfl | rfl <;> omega
 exact I1.fpOk this (I1.hok.fresh this)
theorem P0{l:KE}{tl:TE}(hl:PE X l tl):PI X tg l (Pz tl):=by
 intro pins s σ H R I h;refine thn (hl pins s σ H _ I h) λv s1 #[x,H1,I1,r1,q1]=> ?_;obtain⟨z,e,q⟩:=q1;subst e;obtain⟨t,rfl⟩:=r1;have J:∀(ty:String),(ty="str_ascii_iterator" \/ty="str_iterator")->PIE X pins σ tg R (.ref s1.heap.objs.size) {s1 with heap:=s1.heap.push {cls:=.type ty,data:=.fields #v[.str z t,.int 0 0]}}:=λty Y=>by
  refine#[s1.heap.objs.size,[s1.heap.objs.size],_,_,H1,rfl,I1.kept (t':=s1.toks) λb o e=>Heap.get?_push_of_some _ e,Lb z t ty Y,#[_,Heap.get?_push_size _ rfl,rfl,rfl],λb hb=> ?_,q];have e:b=s1.heap.objs.size:=by simpa using hb
  subst e;exact I1.fpOk (wS _) (I1.hok.fresh (wS _))
 cases ha:z.cps.all (· < 128);exact wpAny_pyIter_wide ha (J _ (.inr rfl));exact wpAny_pyIter_ascii ha (J _ (.inl rfl))
theorem pK:∀{ns:List Int} {J:List sn},Vals (ns.map V.int) J->TX J ns
 | [],_,r=>by cases r;exact .nil
 | n::ns,_,r=>by
  cases r with
  | cons Y r2=>
   obtain⟨t,rfl⟩:=Y;exact .cons _ _ (pK r2)
theorem oF(hc:X.calm=true:=by rfl):kT X (.builtin "sum") (λxs H Q=>∃(p:sK) (ns:List Int),xs=[.ref p]/\SqL X.K H p (ns.map V.int)/\Q (.int ns.sum) H):=by intro pins s σ H xs us Q I r h;obtain⟨p,ns,rfl,hq,q⟩:=h;obtain⟨u,rfl,ru⟩:=vals1 r;cases ru;obtain⟨J,rv,pl,hz⟩:=I.list hq;have hI:=pK rv;obtain⟨xs,Y⟩:=hI.allInts.items;have hn:numsOf J=ns:=hI.numsOf;rw[show J=J.toArray.toList by simp,Y,nums_intItems] at hn;refine sum_intListG (I.ok.hd hc) (Y▸pl.isList) λh' tk t' hk=> ?_;rw[preSum_eq,S5 (by simp),hn];exact#[.int ns.sum,H,I.kept (t':=tk) hk,#[t',rfl],q]
theorem MN{bs:List Bool}{J:List sn}(Y:Vals (bs.map V.bl) J){v:sn}(h:J.toArray[i]? =pr v):v=.bool (bs.getD i xL):=by
 have hi:i<J.length:=by have:=(Array.getElem?_eq_some_iff.mp h).1;simpa using this
 have hb:i<bs.length:=by have:=Y.length;rw[t3] at this;omega
 obtain⟨u,hu,ru⟩:=Y.get (i:=i) (x:=.bl bs[i]) (by simp[hb]);rw[show J.toArray[i]? =J[i]? by simp,hu] at h;cases h;cases ru;simp[re,hb]
theorem all_range{bs:List Bool}:(wh bs.length).all (λi=>bs.getD i xL)=bs.all id:=by
 induction bs with
 | nil=>rfl
 | cons b bs J=>
  rw[AC,UY,U0,US,U0];simp only[Uf,Ww,Wx,id];rw[J]
theorem any_range{bs:List Bool}:(wh bs.length).any (λi=>bs.getD i xL)=bs.any id:=by
 induction bs with
 | nil=>rfl
 | cons b bs J=>
  rw[AC,UY,Vz,V0,Vz];simp only[Uf,Ww,Wx,id];rw[J]
theorem Ce(hc:X.calm=true:=by rfl):kT X (.builtin "all") (λxs H Q=>∃(p:sK) (bs:List Bool),xs=[.ref p]/\SqL X.K H p (bs.map V.bl)/\Q (.bl (bs.all id)) H):=by
 intro pins s σ H xs us Q I r h;obtain⟨p,bs,rfl,hq,q⟩:=h;obtain⟨u,rfl,ru⟩:=vals1 r;cases ru;obtain⟨J,rv,pl,hz⟩:=I.list hq;have hl:=pl.isList;have lt:p<s.heap.objs.size:=by obtain⟨_,e,_⟩:=hl;exact Heap.lt_size e
 have Y:J.toArray.size=bs.length:=by have:=rv.length;rw[t3] at this;simp;omega
 refine call_all_walk (UW hl ?_);refine#[_,_,_,_,_,_,λi=>bs.getD i xL,rfl,Walks.list (A:=X.A.in1) (I.ok.hd hc) s.heap.objs.size p (Ix lt) J.toArray,#[#[_,Heap.get?_push_size _ rfl,rfl,rfl],hl.push _],λi v s' Q' E' hP hQ=> ?_,λh' tk hk=> ?_];rw[MN rv hP];exact SQ hQ;rw[Y,all_range];refine#[.bl (bs.all id),H,I.kept (t':=tk) λb o e=>hk b o (λz=> ?_) (Heap.get?_push_of_some _ e),rfl,q];have hb:=Heap.lt_size e;rw[ww.mp z] at hb;exact absurd hb (Tu _)
theorem vx(hc:X.calm=true:=by rfl):kT X (.builtin "any") (λxs H Q=>∃(p:sK) (bs:List Bool),xs=[.ref p]/\SqL X.K H p (bs.map V.bl)/\Q (.bl (bs.any id)) H):=by
 intro pins s σ H xs us Q I r h;obtain⟨p,bs,rfl,hq,q⟩:=h;obtain⟨u,rfl,ru⟩:=vals1 r;cases ru;obtain⟨J,rv,pl,hz⟩:=I.list hq;have hl:=pl.isList;have lt:p<s.heap.objs.size:=by obtain⟨_,e,_⟩:=hl;exact Heap.lt_size e
 have Y:J.toArray.size=bs.length:=by have:=rv.length;rw[t3] at this;simp;omega
 refine call_any_walk (UW hl ?_);refine#[_,_,_,_,_,_,λi=>bs.getD i xL,rfl,Walks.list (A:=X.A.in1) (I.ok.hd hc) s.heap.objs.size p (Ix lt) J.toArray,#[#[_,Heap.get?_push_size _ rfl,rfl,rfl],hl.push _],λi v s' Q' E' hP hQ=> ?_,λh' tk hk=> ?_];rw[MN rv hP];exact SQ hQ;rw[Y,any_range];refine#[.bl (bs.any id),H,I.kept (t':=tk) λb o e=>hk b o (λz=> ?_) (Heap.get?_push_of_some _ e),rfl,q];have hb:=Heap.lt_size e;rw[ww.mp z] at hb;exact absurd hb (Tu _)
end
def pick{α:Type}(xs:List α)(lo hi st:Option Int):List α:=(sliceRange (sliceBounds lo hi st xs.length).1 (sliceBounds lo hi st xs.length).2.1 (sliceBounds lo hi st xs.length).2.2).filterMap (xs[·]?)
theorem rE{xs:List V}{us:List sn}(r:Vals xs us):∀J:List Nat,Vals (J.filterMap (xs[·]?)) (J.filterMap (us[·]?))
 | []=>.nil
 | j::J=>by
  have Y:=rE r J;cases hn:xs[j]? with
  | some x=>
   obtain⟨u,hu,ru⟩:=r.get hn;simp only[Tx,hn,hu];exact .cons ru Y
  | none=>
   have hv:us[j]? =none:=by rw[VG] at hn ⊢;rw[<- r.length];exact hn
   simp only[Tx,hn,hv];exact Y
def Rf(K:uY):V->Option Int->Option Int->Option Int->Hp->VK->Prop:=λx lo hi st H Q=>∃a xs,x=.ref a/\SqL K H a xs/\st≠pr 0/\∀p,H p=qh->Q (.ref p) (upd H p (.lst (pick xs lo hi st)))
def L7(K:uY)(te:TE)(tl th ts:TO):TE:=λσ H Q=>te σ H λx H1=>tl σ H1 λl H2=>th σ H2 λu J=>ts σ J λst Y=>Rf K x l u st Y Q
section
variable {X : Cx} {e se : KE} {te : TE} {lo hi : Option KE} {tl th ts : TO} {pos p2 : Pos}
theorem Nd(he:PE X e te)(hl:PO X lo tl)(hu:PO X hi th)(hs:PO X (pr se) ts):PE X (.Subscript e (.Slice lo hi (pr se) p2) pos) (L7 X.K te tl th ts):=by
 intro pins s σ H Q I h;refine Xe (thn (he pins s σ H _ I h) λv s1 #[x,H1,I1,r1,q1]=> ?_);refine wpAny_Slice (thn (hl pins s1 σ H1 _ I1 q1) λvl s2 #[l,H2,I2,pl,q2]=>thn (hu pins s2 σ H2 _ I2 q2) λvu s3 #[u,H3,I3,pu,q3]=>thn (hs pins s3 σ H3 _ I3 q3) λvs s4 #[st,H4,I4,ps,q4]=> ?_);have I5:Inv X pins σ H4 {s4 with heap:=s4.heap.push {cls:=.type "slice",data:=.fields #v[vl,vu,vs]}}:=I4.kept (t':=s4.toks) λb ob q=>Heap.get?_push_of_some _ q;obtain⟨a,xs,rfl,hx,h0,q⟩:=q4;cases r1;obtain⟨Y,r,ht,hz⟩:=I5.list hx;have J:=r.length;show wpAny (model X.prog X.w) X.A (subscriptTail e (.Slice lo hi (pr se) p2) (.ref a) (.ref s4.heap.objs.size)) (EP X pins σ Q) X.xe {s4 with heap:=s4.heap.push {cls:=.type "slice",data:=.fields #v[vl,vu,vs]}};refine tail_any (ops:=[.ref a,.ref s4.heap.objs.size]) ht.isList.typeIs slot_list_getitem.lookup ?_ (by with_unfolding_all rfl);refine VN ht.isList (Heap.IsSliceOf.new ..) pl pu ps h0 ?_ (by rw[Ae] <;> omega);have hp:slicePick Y.toArray l u st=((sliceRange (sliceBounds l u st xs.length).1 (sliceBounds l u st xs.length).2.1 (sliceBounds l u st xs.length).2.2).filterMap (Y[·]?)).toArray:=by unfold slicePick;rw[Ae,<- J];simp
 have ac:(pick xs l u st).length<=xs.length:=by have h1:=slicePick_size_le Y.toArray l u st;rw[hp,Ae,Ae,<- J] at h1;have h2:=(rE r (sliceRange (sliceBounds l u st xs.length).1 (sliceBounds l u st xs.length).2.1 (sliceBounds l u st xs.length).2.2)).length;show (List.filterMap (xs[·]?) _).length<=_;rw[h2];exact h1
 rw[hp];refine#[.ref _,_,I5.laid (t':=s4.toks) (o:=.lst (pick xs l u st)) (λb ob q=>Heap.get?_push_of_some _ q) (wS _) ?_,rfl,q _ (I5.hok.fresh (wS _))];exact#[SE ac hz,_,0,rE r _,Heap.get?_push_size _ rfl]
end
section
variable {X : Cx} {tg : KE}
end
def m9(x:Str)(lo hi:Option Int):Str:=
 if ((Builtin.Str.strSliceIndices lo hi 1 x.length).length == x.length)=ss then x else #[((Builtin.Str.strSliceIndices lo hi 1 x.length).filterMap (x.cps[·]?)).toArray]
section
variable {X : Cx}
def MS:V->Option Int->Option Int->Hp->VK->Prop:=λx lo hi H Q=>∃z,x=.str z/\z.length<=sizeLine/\Q (.str (m9 z lo hi)) H
theorem Jd:SlR X MS:=by
 intro pins s σ H x v vl vu lo hi sl Q I J hs pl Y h;obtain⟨z,rfl,hz,q⟩:=h;obtain⟨t,rfl⟩:=J;refine#["str",_,F.slot_str_getitem.lookup,Xj _ _ _, ?_];have part:∀{v:sn} {o:Option Int},IsPart v o->∃p:Option (Int×Tok),v=partValue p/\p.map (·.1)=o:=λh=>by
  cases h with
  | none=>exact#[qh,rfl,rfl]
  | int i t=>exact#[pr (i,t),rfl,rfl]
 obtain⟨l,rfl,rfl⟩:=part pl;obtain⟨u,rfl,rfl⟩:=part Y;refine wpAny_getItem_str_slice (l:=l) (u:=u) (st:=qh) hs rfl ?_;unfold sliceMade;show Made.post (if (ss&&((Builtin.Str.strSliceIndices (l.map (·.1)) (u.map (·.1)) 1 z.length).length == z.length))=ss then _ else _) _ _;unfold m9 at q;rw[UI];by_cases hc:((Builtin.Str.strSliceIndices (l.map (·.1)) (u.map (·.1)) 1 z.length).length == z.length)=ss;rw[if_pos hc] at q ⊢;exact#[.str z,H,I,#[t,rfl],q];rw[if_neg hc] at q ⊢;refine#[?_,#[.str _,H,I.tok _,#[_,rfl],q]];show (Ts _).size<=_;rw[Ae];exact SE (SE (List.length_filterMap_le _ _) (sliceIndices_le _ _ _)) hz
end
section
variable {X : Cx}
end
section
variable {X : Cx}
theorem GW:∀{J:List Str} {Y:List sn},Vals (J.map V.str) Y->∃l:List (Str×Tok),strValues l=Y/\l.map (·.1)=J
 | [],_,h=>by cases h;exact#[[],rfl,rfl]
 | x::J,_,h=>by
  cases h with
  | cons r rs=>
   obtain⟨t,rfl⟩:=r;obtain⟨l,rfl,e⟩:=GW rs;exact#[(x,t)::l,rfl,by rw[x0,e]]
end
theorem RO{ns:List Int}:∀{m:Nat},V3 (ns.map XF)<=m->∀n∈ns,n.natAbs<2^(m+1):=by
 induction ns with
 | nil=>intro m _ n hn;cases hn
 | cons a ns J=>
  intro m h n hn;rw[x0] at h;unfold V3 at h;rcases wE.mp hn with rfl | hn
  have h1:Wp (.int n)<=m:=⋯;unfold Wp at h1;split at h1;rename_i hz;have:n=0:=by simpa using hz
  subst this;exact UN _;have h2:n.natAbs<2^(n.natAbs.log2+1):=Nat.lt_log2_self;exact Gc h2 (S4 ∅ ⋯);exact J (m:=m) ⋯ n hn
section
variable {X : Cx}
def isT(y:Str):sn->Bool
 | .str a _=>a == y
 | _=>xL
theorem Pu{y:Str}{t:Tok}{l:List (Str×Tok)}:∀v,v∈(strValues l).toArray->SeqAt.EqAt A s v (.str y t) (isT y v):=by
 intro v Y;have J:v∈strValues l:=by simpa using Y
 obtain⟨p,_,rfl⟩:=sB.mp J;exact(eqGives_str p.1 y p.2 t).at A s
theorem QP{b:sK}{J:List Str}(I:Inv X pins σ H s)(hs:SqL X.K H b (J.map V.str)):
 ∃(l:List (Str×Tok)) (Y:Option sK) (n:Nat) (sl:Array (Option sn)),l.map (·.1)=J/\s.heap.get? b=pr {cls:=.type "list",dict:=Y,data:=.seq (strValues l).toArray n,slots:=sl}/\l.length<=sizeLine:=by
 obtain⟨ab,r',pl,hz⟩:=I.list hs;obtain⟨l,rfl,e⟩:=GW r';obtain⟨o,ho,hc,n,hd⟩:=pl.isList;obtain⟨oc,od,an,os⟩:=o;dsimp only at hc hd;subst hc hd;refine#[l,od,n,os,e,ho, ?_];rw[<- e,t3,t3] at hz;exact hz
def II(K:uY):V->List V->Hp->VK->Prop:=λx vs H Q=>∃(b:sK) (J:List Str) (y:Str),x=.ref b/\vs=[.str y]/\SqL K H b (J.map V.str)/\J.idxOf y<J.length/\Q (.int (J.idxOf y:Nat)) H
theorem Mr:MtR X "list.index" (II X.K):=by
 intro pins s σ H x vs v us Q I rx rv h;obtain⟨b,J,y,rfl,rfl,hs,Y,q⟩:=h;cases rx;obtain⟨u,rfl,t2,rfl⟩:=rv.one;obtain⟨l,dd,n,sl,rfl,ho,hz⟩:=QP I hs;have hn:=qd;have hl:(strValues l).toArray.size=(l.map (·.1)).length:=by simp[strValues]
 have at_:∀(m:Nat) (hm:m<(strValues l).toArray.size),isT y ((strValues l).toArray[m])=((l.map (·.1))[m]'(by rw[<- hl];exact hm) == y):=by intro m hm;simp[strValues,isT]
 refine UV F.slot_list_index #[_,ho,rfl] F.entry_list_index (F.args_list_index_2 _ _) (SeqAt.list_indexAt b _ n dd sl _ (isT y) ((l.map (·.1)).idxOf y) (by rw[hl];exact Y) (by rw[t3] at Y;omega) ?_ ?_) #[ho,Pu, ?_];rw[at_];have:=List.getElem_idxOf Y;rw[this];exact beq_self_eq_true y;intro m hm h2;rw[at_];exact List.not_of_lt_findIdx (p:=λa=>a == y) h2;exact#[.int _,H,I.tok _,#[_,rfl],q]
end
section
variable {prog : FS} {w : IN} {A : SN} {R : WF → vr → Prop} {I : sK} {fp wr : List sK} {G : Array W8 → Array W8 → Prop} {n : Nat} {P : Nat → sn → Prop} {St : Nat → vr → Prop}
end
section
variable {prog : FS} {w : IN} {A : SN} {E : sn → vr → Prop} {s : vr}
end
section
variable {X : Cx} {e : KE} {te : TE} {x y : Str} {p1 p2 q1 q2 : Pos}
end
open PySem PySem.Spec PyProof.Rows PySem.W
def jR{α:Type}(lt:Nat->Nat->Bool):KasT α->α
 | .ret a=>a
 | .ask i j k=>jR lt (k (lt i j))
theorem mM{α β:Type}(lt:Nat->Nat->Bool)(f:α->KasT β):∀t:KasT α,jR lt (t.bind f)=jR lt (f (jR lt t))
 | .ret _=>rfl
 | .ask i j k=>mM lt f (k (lt i j))
section
variable {O : KeyOrd} (key : Nat → O.α)
def kAt(p:Array Nat)(i:Nat):O.α:=key (p.getD i 0)
abbrev ltK:Nat->Nat->Bool:=λi j=>O.blt (key i) (key j)
def fH(p:Array Nat)(m:Nat):Prop:=∀i j,i<=j->j<m->O.kle (kAt key p i) (kAt key p j)
def lW(p:Array Nat)(m:Nat):Prop:=∀i j,i<=j->j<m->O.kle (kAt key p j) (kAt key p i)
def Ab(p:Array Nat)(n q:Nat):Prop:=∀i,n<=i+(q+1)->i<n->kAt key p i=kAt key p (n-1)
variable {key}
theorem vD{p J:Array Nat}(h:J[i]? =p[j]?):kAt key J i=kAt key p j:=by unfold kAt;rw[T4,T4,h]
theorem wV(J:j<=p.size)(k:Nat):kAt key (kas_rev p i j) k=if i<=k/\k<j then kAt key p (i+j-1-k) else kAt key p k:=by have h:=Wu (xs:=p) (i:=i) J k;split at h;rename_i c;rw[if_pos c];exact vD h;rename_i c;rw[if_neg c];exact vD h
theorem ux:(kas_rev p i j).Perm p:=mirror_perm _ _ _ _
theorem g7:(kas_rev p i j).size=p.size:=mirror_size _ _ _ _
theorem E6{n q:Nat}(hn:n<=p.size)(hq:q+1<=n)(h:Ab key p n q)(k:Nat):kAt key (kas_rev p (n-(q+1)) n) k=kAt key p k:=by rw[wV hn];split;rename_i c;rw[h _ ⋯ ⋯,h k ⋯ ⋯];rfl
theorem fH.more(h1:1<=n)(h:fH key p n)(hn:O.kle (kAt key p (n-1)) (kAt key p n)):fH key p (n+1):=by intro i j J hj;by_cases Y:j=n;subst Y;by_cases hi:i=j;subst hi;exact KeyOrd.kle_refl _;exact KeyOrd.kle_trans (h i (j-1) ⋯ ⋯) hn;exact h i j J ⋯
theorem lW.more(h1:1<=n)(h:lW key p n)(hn:O.kle (kAt key p n) (kAt key p (n-1))):lW key p (n+1):=by intro i j J hj;by_cases Y:j=n;subst Y;by_cases hi:i=j;subst hi;exact KeyOrd.kle_refl _;exact KeyOrd.kle_trans hn (h i (j-1) ⋯ ⋯);exact h i j J ⋯
theorem AV{p:Array Nat}:∀(f n:Nat),1<=n->fH key p n->∃m,jR (ltK key) (kas_asc p f n)=m/\n<=m/\m<=n+f/\fH key p m/\(m<n+f->O.blt (kAt key p m) (kAt key p (m-1))=ss)
 | 0,n,_,h=>#[n,rfl,wS _,wS _,h,λz=>absurd z (Tu _)]
 | f+1,n,h1,h=>by
  show ∃m,jR (ltK key) (if O.blt (kAt key p n) (kAt key p (n-1))=ss then KasT.ret n else kas_asc p f (n+1))=m/\_;cases hc:O.blt (kAt key p n) (kAt key p (n-1)) with
  | true=>exact#[n,rfl,wS _,⋯,h,λ_=>hc]
  | false=>
   obtain⟨m,e,a1,a2,J,Y⟩:=AV f (n+1) ⋯ (h.more h1 hc);exact#[m,e,⋯,⋯,J,λz=>Y ⋯]
theorem tJ:∀(f:Nat) (p:Array Nat) (n q:Nat),1<=n->n+f<=p.size->q+1<=n->lW key p n->Ab key p n q->
 ∃Y J q',jR (ltK key) (kas_desc f p n q)=(Y,J,q')/\Y.Perm p/\Y.size=p.size/\n<=J/\J<=n+f/\q'+1<=J/\lW key Y J/\Ab key Y J q'
 | 0,p,n,q,_,_,hq,h,he=>#[p,n,q,rfl,.refl _,rfl,wS _,wS _,hq,h,he]
 | f+1,p,n,q,h1,hs,hq,h,he=>by
  have ab:∀p:Array Nat,Ab key p (n+1) 0:=λp i a b=>by rw[show i=n by omega];rfl
  show ∃Y J q',jR (ltK key) (if O.blt (kAt key p n) (kAt key p (n-1))=ss then (if q>0 then kas_desc f (kas_rev p (n-(q+1)) n) (n+1) 0 else kas_desc f p (n+1) 0)
   else .ask (p.getD (n-1) 0) (p.getD n 0) λd=>if d=ss then .ret (p,n,q) else kas_desc f p (n+1) (q+1))=(Y,J,q')/\_
  cases hc:O.blt (kAt key p n) (kAt key p (n-1)) with
  | true=>
   rw[if_pos rfl];have a1:O.kle (kAt key p n) (kAt key p (n-1)):=KeyOrd.kle_of_klt hc;have hf:=h.more h1 a1;by_cases ac:q>0;rw[if_pos ac];have keep:=E6 (key:=key) (p:=p) (n:=n) (q:=q) ⋯ hq he;have a2:lW key (kas_rev p (n-(q+1)) n) (n+1):=λi j a b=>by rw[keep,keep];exact hf i j a b
   obtain⟨Y,J,q',e,b1,b2,b3,b4,b5,b6,b7⟩:=tJ f (kas_rev p (n-(q+1)) n) (n+1) 0 ⋯ (by rw[g7];omega) ⋯ a2 (ab _);exact#[Y,J,q',e,b1.trans ux,b2.trans g7,⋯,⋯,b5,b6,b7];rw[if_neg ac];obtain⟨Y,J,q',e,b1,b2,b3,b4,b5,b6,b7⟩:=tJ f p (n+1) 0 ⋯ ⋯ ⋯ hf (ab _);exact#[Y,J,q',e,b1,b2,⋯,⋯,b5,b6,b7]
  | false=>
   rw[if_neg (by simp)];show ∃Y J q',jR (ltK key) (if O.blt (kAt key p (n-1)) (kAt key p n)=ss then KasT.ret (p,n,q) else kas_desc f p (n+1) (q+1))=(Y,J,q')/\_;cases hd:O.blt (kAt key p (n-1)) (kAt key p n) with
   | true=>exact#[p,n,q,rfl,.refl _,rfl,wS _,⋯,hq,h,he]
   | false=>
    rw[if_neg (by simp)];have eq:kAt key p n=kAt key p (n-1):=O.total _ _ hc hd;have a3:Ab key p (n+1) (q+1):=λi a b=>by show kAt key p i=kAt key p n;by_cases hi:i=n;rw[hi];rw[eq];exact he i ⋯ ⋯
    obtain⟨Y,J,q',e,b1,b2,b3,b4,b5,b6,b7⟩:=tJ f p (n+1) (q+1) ⋯ ⋯ ⋯ (h.more h1 (by rw[eq];exact KeyOrd.kle_refl _)) a3;exact#[Y,J,q',e,b1,b2,⋯,⋯,b5,b6,b7]
theorem Fc(h1:1<=n)(hn:n<=nrem)(hs:nrem<=p.size)(h:lW key p n):
 ∃m J,jR (ltK key) (kas_tail3 n nrem p)=(m,J)/\J.Perm p/\J.size=p.size/\1<=m/\m<=nrem/\fH key J m:=by
 have Y:fH key (kas_rev p 0 n) n:=λi j a b=>by rw[wV ⋯,wV ⋯,if_pos #[SU _,⋯],if_pos #[SU _,b]];exact h _ _ ⋯ ⋯
 obtain⟨m,e,a1,a2,a3,_⟩:=AV (nrem-n) n h1 Y;refine#[m,kas_rev p 0 n, ?_,ux,g7,⋯,⋯,a3];unfold kas_tail3;rw[mM,e];rfl
theorem Cy(h1:1<=n)(hn:n+1<=nrem)(hs:nrem<=p.size)(h:lW key p (n+1)):
 ∃m J,jR (ltK key) (kas_descPart n nrem p)=(m,J)/\J.Perm p/\J.size=p.size/\1<=m/\m<=nrem/\fH key J m:=by
 obtain⟨p1,Y,q1,e,b1,b2,b3,b4,b5,b6,b7⟩:=tJ (key:=key) (nrem-(n+1)) p (n+1) 0 ⋯ ⋯ ⋯ h (λi a b=>by rw[show i=n by omega];rfl);unfold kas_descPart;rw[mM,e];dsimp only;by_cases hq:q1>0;rw[if_pos hq];have keep:=E6 (key:=key) (p:=p1) (n:=Y) (q:=q1) ⋯ b5 b7;obtain⟨m,J,e2,c1,c2,c3,c4,c5⟩:=Fc (key:=key) (p:=kas_rev p1 (Y-(q1+1)) Y) (n:=Y) (nrem:=nrem) ⋯ ⋯ (by rw[g7];omega) (λi j a b=>by rw[keep,keep];exact b6 i j a b);exact#[m,J,e2,c1.trans ((ux).trans b1),c2.trans ((g7).trans b2),c3,c4,c5];rw[if_neg hq];obtain⟨m,J,e2,c1,c2,c3,c4,c5⟩:=Fc (key:=key) (p:=p1) (n:=Y) (nrem:=nrem) ⋯ ⋯ ⋯ b6;exact#[m,J,e2,c1.trans b1,c2.trans b2,c3,c4,c5]
theorem Kd(h1:1<=nrem)(hs:nrem<=p.size):
 ∃m p',jR (ltK key) (kas_count nrem p)=(m,p')/\p'.Perm p/\p'.size=p.size/\1<=m/\m<=nrem/\fH key p' m:=by
 have s1:fH key p 1:=λi j a b=>by rw[show i=j by omega];exact KeyOrd.kle_refl _
 obtain⟨n,e,a1,a2,a3,a4⟩:=AV (key:=key) (p:=p) (nrem-1) 1 (wS _) s1;unfold kas_count;rw[mM,e];by_cases hn:n=nrem;rw[if_pos (by simpa using hn)];exact#[n,p,rfl,.refl _,rfl,a1,⋯,a3];rw[if_neg (by simpa using hn)];have ac:=a4 ⋯;by_cases h2:n>1;rw[if_pos h2];show ∃m p',jR (ltK key) (if O.blt (kAt key p 0) (kAt key p (n-1))=ss then KasT.ret (n,p) else kas_descPart n nrem (kas_rev p 0 n))=(m,p')/\_;cases hc:O.blt (kAt key p 0) (kAt key p (n-1)) with
 | true=>exact#[n,p,rfl,.refl _,rfl,a1,⋯,a3]
 | false=>
  rw[if_neg (by simp)];have same:∀i,i<n->kAt key p i=kAt key p (n-1):=λi hi=>by refine KeyOrd.kle_antisymm (a3 i (n-1) ⋯ ⋯) ?_;exact KeyOrd.kle_trans (show O.kle (kAt key p (n-1)) (kAt key p 0) from hc) (a3 0 i (SU _) hi)
  have J:∀i,i<=n->kAt key (kas_rev p 0 n) i=kAt key p i:=λi hi=>by rw[wV ⋯];split;rename_i c;rw[same _ ⋯,same i ⋯];rfl
  have Y:lW key (kas_rev p 0 n) (n+1):=by refine lW.more ⋯ (λi j a b=> ?_) ?_;rw[J i ⋯,J j ⋯,same i ⋯,same j ⋯];exact KeyOrd.kle_refl _;rw[J n (wS _),J (n-1) ⋯];exact KeyOrd.kle_of_klt ac
  obtain⟨m,p',e2,c1,c2,c3,c4,c5⟩:=Cy (key:=key) (p:=kas_rev p 0 n) (n:=n) (nrem:=nrem) ⋯ ⋯ (by rw[g7];omega) Y;exact#[m,p',e2,c1.trans ux,c2.trans g7,c3,c4,c5]
 rw[if_neg h2];obtain rfl:n=1:=⋯;have Y:lW key p (1+1):=lW.more (wS _) (λi j a b=>by rw[show i=j by omega];exact KeyOrd.kle_refl _) (KeyOrd.kle_of_klt ac);exact Cy ⋯ ⋯ hs Y
theorem vt{p:Array Nat}{k:Nat}(hs:fH key p k):∀(f l r:Nat),l<=r->r<=k->r-l<=f->(∀i,i<l->O.kle (kAt key p i) (kAt key p k))->(∀i,r<=i->i<k->O.kle (kAt key p k) (kAt key p i))->
 ∃m,jR (ltK key) (kas_place p k f l r)=m/\m<=k/\(∀i,i<m->O.kle (kAt key p i) (kAt key p k))/\(∀i,m<=i->i<k->O.kle (kAt key p k) (kAt key p i))
 | 0,l,r,a,b,c,h1,h2=>#[l,rfl,⋯,h1,λi hi hk=>h2 i ⋯ hk]
 | f+1,l,r,a,b,c,h1,h2=>by
  unfold kas_place;by_cases J:l ≥ r;rw[if_pos J];exact#[l,rfl,⋯,h1,λi hi hk=>h2 i ⋯ hk];rw[if_neg J];show ∃m,jR (ltK key) (if O.blt (kAt key p k) (kAt key p ((l+r)/2))=ss then kas_place p k f l ((l+r)/2) else kas_place p k f ((l+r)/2+1) r)=m/\_;cases hc:O.blt (kAt key p k) (kAt key p ((l+r)/2)) with
  | true=>
   rw[if_pos rfl];exact vt hs f l ((l+r)/2) ⋯ ⋯ ⋯ h1 λi hi hk=>KeyOrd.kle_trans (KeyOrd.kle_of_klt hc) (hs _ _ hi hk)
  | false=>
   rw[if_neg (by simp)];exact vt hs f ((l+r)/2+1) r ⋯ b ⋯ (λi hi=>KeyOrd.kle_trans (hs i ((l+r)/2) ⋯ ⋯) hc) h2
theorem GC:∀(f:Nat) (p:Array Nat) (k:Nat),k+f<=p.size->fH key p k->∃J,jR (ltK key) (kas_bin f p k)=J/\J.Perm p/\J.size=p.size/\fH key J (k+f)
 | 0,p,k,_,h=>#[p,rfl,.refl _,rfl,h]
 | f+1,p,k,hk,h=>by
  obtain⟨m,e,m1,m2,m3⟩:=vt h k 0 k (SU _) (wS _) ⋯ (λi hi=>absurd hi ⋯) (λi a b=>absurd b ⋯);have at_:∀i,kAt key (bubble p k (k-m)) i=if i=m then kAt key p k else if m<i/\i<=k then kAt key p (i-1) else kAt key p i:=λi=>by have g:=getElem?_bubble (xs:=p) (src:=k) ⋯ (k-m) ⋯ i;rw[show k-(k-m)=m by omega] at g;split at g;rename_i c;rw[if_pos c];exact vD g;rename_i c;rw[if_neg c];split at g;rename_i d;rw[if_pos d];exact vD g;rename_i d;rw[if_neg d];exact vD g
  have so:fH key (bubble p k (k-m)) (k+1):=λi j a b=>by rw[at_,at_];by_cases hi:i=m;rw[if_pos hi];by_cases Y:j=m;rw[if_pos Y];exact KeyOrd.kle_refl _;rw[if_neg Y,if_pos ⋯];exact m3 _ ⋯ ⋯;rw[if_neg hi];by_cases ab:m<i/\i<=k;rw[if_pos ab,if_neg ⋯,if_pos ⋯];exact h _ _ ⋯ ⋯;rw[if_neg ab];by_cases Y:j=m;rw[if_pos Y];exact m2 i ⋯;rw[if_neg Y];by_cases ac:m<j/\j<=k;rw[if_pos ac];exact h _ _ ⋯ ⋯;rw[if_neg ac];exact h _ _ a ⋯
  obtain⟨J,e2,c1,c2,c3⟩:=GC f (bubble p k (k-m)) (k+1) (by rw[WX];omega) so;refine#[J, ?_,c1.trans (bubble_perm _ _ _),c2.trans (WX _ _ _), ?_];unfold kas_bin;rw[mM,e];exact e2;rw[show k+(f+1)=k+1+f by omega];exact c3
theorem yY(h1:1<=n):∃p,jR (ltK key) (kas_sort n)=p/\p.Perm (Ts (wh n))/\p.size=n/\fH key p n:=by
 have sz:(Ts (wh n)).size=n:=by simp
 obtain⟨m,p1,e,J,a2,a3,a4,Y⟩:=Kd (key:=key) (p:=Ts (wh n)) (nrem:=n) h1 ⋯;unfold kas_sort;rw[mM,e];dsimp only;by_cases hm:m<n;rw[if_pos hm,Nat.max_eq_left a3];obtain⟨p2,e2,b1,b2,b3⟩:=GC (key:=key) (n-m) p1 m ⋯ Y;exact#[p2,e2,b1.trans J,⋯,by rw[show m+(n-m)=n by omega] at b3;exact b3];rw[if_neg hm];obtain rfl:m=n:=⋯;exact#[p1,rfl,J,⋯,Y]
end
theorem lex_irrefl:∀a:List Int,HT.lexLt a a=xL
 | []=>rfl
 | x::a=>by rw[HT.pF,if_pos rfl];exact lex_irrefl a
theorem lex_trans:∀a b c:List Int,HT.lexLt a b=ss->HT.lexLt b c=ss->HT.lexLt a c=ss
 | [],[],_,h,_=>by cases h
 | [],_::_,[],_,h=>by cases h
 | [],_::_,_::_,_,_=>rfl
 | _::_,[],_,h,_=>by cases h
 | _::_,_::_,[],_,h=>by cases h
 | x::a,y::b,z::c,h1,h2=>by rw[HT.pF] at h1 h2 ⊢;by_cases e1:x=y;by_cases e2:y=z;rw[if_pos e1] at h1;rw[if_pos e2] at h2;rw[if_pos (e1.trans e2)];exact lex_trans a b c h1 h2;rw[if_neg e2] at h2;rw[e1,if_neg e2];exact h2;rw[if_neg e1] at h1;have J:=of_decide_eq_true h1;by_cases e2:y=z;rw[<- e2,if_neg e1];exact h1;rw[if_neg e2] at h2;have Y:=of_decide_eq_true h2;rw[if_neg ⋯];exact decide_eq_true ⋯
theorem qR:∀a b:List Int,HT.lexLt a b=xL->HT.lexLt b a=xL->a=b
 | [],[],_,_=>rfl
 | [],_::_,h,_=>by cases h
 | _::_,[],_,h=>by cases h
 | x::a,y::b,h1,h2=>by rw[HT.pF] at h1 h2;by_cases e:x=y;rw[if_pos e] at h1;rw[if_pos e.symm] at h2;rw[e,qR a b h1 h2];rw[if_neg e] at h1;rw[if_neg (Ux e)] at h2;have J:=of_decide_eq_false h1;have Y:=of_decide_eq_false h2;omega
def PD:KeyOrd where
 α:=List Int
 blt:=HT.lexLt
 irrefl:=lex_irrefl
 trans:=lex_trans
 negTrans:=λa b c h=>by
  cases h1:HT.lexLt a b with
  | true=>exact .inl rfl
  | false=>
   right;cases h2:HT.lexLt b c with
   | true=>rfl
   | false=>
    cases h3:HT.lexLt b a with
    | true=>
     have:=lex_trans b a c h3 h;rw[h2] at this;cases this
    | false=>
     have:=qR a b h1 h3;subst this;rw[h] at h2;cases h2
 total:=qR
def Lv{α:Type}(N:Nat)(P:α->Prop):KasT α->Prop
 | .ret a=>P a
 | .ask i j k=>i<N/\j<N/\∀b,Lv N P (k b)
theorem Lv.bind{α β:Type}{N:Nat}{P:α->Prop}{P':β->Prop}{f:α->KasT β}(J:∀a,P a->Lv N P' (f a)):∀{t:KasT α},Lv N P t->Lv N P' (t.bind f)
 | .ret a,h=>J a h
 | .ask i j k,h=>#[h.1,h.2.1,λb=>Lv.bind J (h.2.2 b)]
def Und(N:Nat)(p:Array Nat):Prop:=∀i,p.getD i 0<N
theorem Und.of{p J:Array Nat}(h:Und N p)(hp:∀i:Nat,∃j:Nat,J[i]? =p[j]?):Und N J:=λi=>by obtain⟨j,e⟩:=hp i;have:=h j;rw[T4] at this ⊢;rw[e];exact this
theorem Und.rev(h:Und N p)(J:j<=p.size):Und N (kas_rev p i j):=h.of λk=>by have g:=Wu (xs:=p) (i:=i) J k;split at g;exact#[_,g];exact#[_,g]
theorem Und.bub(h:Und N p){k d:Nat}(hk:k<p.size)(hd:d<=k):Und N (bubble p k d):=h.of λi=>by have g:=getElem?_bubble (xs:=p) hk d hd i;split at g;exact#[_,g];split at g;exact#[_,g];exact#[_,g]
theorem E2{N:Nat}{p:Array Nat}(h:Und N p):∀(f n:Nat),Lv N (λm=>n<=m/\m<=n+f) (kas_asc p f n)
 | 0,n=>#[wS _,wS _]
 | f+1,n=>#[h _,h _,λb=>by
  cases b with
  | true=>exact#[wS _,⋯]
  | false=>
   have:=Lv.bind (f:=KasT.ret) (P':=λm=>n<=m/\m<=n+(f+1)) (λa ha=>(#[⋯,⋯]:n<=a/\a<=n+(f+1))) (E2 h f (n+1));rw[show (kas_asc p f (n+1)).bind KasT.ret=kas_asc p f (n+1) from bind_ret _] at this;exact this]
where bind_ret {α:Type}:∀t:KasT α,t.bind KasT.ret=t
  | .ret _=>rfl
  | .ask i j k=>congrArg (KasT.ask i j) (funext λb=>bind_ret (k b))
theorem Lv.mono{α:Type}{N:Nat}{P P':α->Prop}(h:∀a,P a->P' a):∀{t:KasT α},Lv N P t->Lv N P' t
 | .ret a,x=>h a x
 | .ask i j k,x=>#[x.1,x.2.1,λb=>Lv.mono h (x.2.2 b)]
theorem wZ{N S:Nat}:∀(f:Nat) (p:Array Nat) (n q:Nat),p.size=S->n+f<=S->Und N p->Lv N (λr:Array Nat×Nat×Nat=>r.1.size=S/\Und N r.1/\n<=r.2.1/\r.2.1<=n+f) (kas_desc f p n q)
 | 0,p,n,q,hz,_,h=>#[hz,h,wS _,wS _]
 | f+1,p,n,q,hz,hs,h=>#[h _,h _,λc=>by
  have J:∀{t:KasT (Array Nat×Nat×Nat)},Lv N (λr:Array Nat×Nat×Nat=>r.1.size=S/\Und N r.1/\n+1<=r.2.1/\r.2.1<=n+1+f) t->Lv N (λr:Array Nat×Nat×Nat=>r.1.size=S/\Und N r.1/\n<=r.2.1/\r.2.1<=n+(f+1)) t:=
   Lv.mono λr #[a,b,c,d]=>#[a,b,⋯,⋯]
  cases c with
  | true=>
   show Lv N _ (if q>0 then kas_desc f (kas_rev p (n-(q+1)) n) (n+1) 0 else kas_desc f p (n+1) 0);split;exact J (wZ f _ (n+1) 0 (by rw[g7];exact hz) ⋯ (h.rev ⋯));exact J (wZ f p (n+1) 0 hz ⋯ h)
  | false=>
   refine#[h _,h _,λd=> ?_];cases d with
   | true=>exact#[hz,h,wS _,VW _ _]
   | false=>exact J (wZ f p (n+1) (q+1) hz ⋯ h)]
theorem Gp{N S n nrem:Nat}(hz:p.size=S)(hn:n<=nrem)(hs:nrem<=S)(h:Und N p):Lv N (λr:Nat×Array Nat=>r.2.size=S/\Und N r.2/\r.1<=nrem) (kas_tail3 n nrem p):=by have h':Und N (kas_rev p 0 n):=h.rev ⋯;exact Lv.bind (f:=λm=>KasT.ret (m,kas_rev p 0 n)) (P':=λr:Nat×Array Nat=>r.2.size=S/\Und N r.2/\r.1<=nrem) (λm hm=>(#[by rw[g7];exact hz,h',by have:=hm.2;show m<=nrem;omega]:(kas_rev p 0 n).size=S/\Und N (kas_rev p 0 n)/\m<=nrem)) (E2 h' (nrem-n) n)
theorem EL{N S n nrem:Nat}(hz:p.size=S)(hn:n+1<=nrem)(hs:nrem<=S)(h:Und N p):Lv N (λr:Nat×Array Nat=>r.2.size=S/\Und N r.2/\r.1<=nrem) (kas_descPart n nrem p):=by refine Lv.bind (λr hr=> ?_) (wZ (nrem-(n+1)) p (n+1) 0 hz ⋯ h);obtain⟨a,b,c,d⟩:=hr;split;exact Gp (by rw[g7];exact a) ⋯ hs (b.rev ⋯);exact Gp a ⋯ hs b
theorem Lk{N S nrem:Nat}(hz:p.size=S)(h1:1<=nrem)(hs:nrem<=S)(h:Und N p):Lv N (λr:Nat×Array Nat=>r.2.size=S/\Und N r.2/\r.1<=nrem) (kas_count nrem p):=by
 refine Lv.bind (λn hn=> ?_) (E2 h (nrem-1) 1);split;exact#[hz,h,⋯];rename_i J;have J:¬n=nrem:=by simpa using J
 split;refine#[h _,h _,λc=> ?_];cases c with
 | true=>exact#[hz,h,⋯]
 | false=>exact EL (by rw[g7];exact hz) ⋯ hs (h.rev ⋯)
 exact EL hz ⋯ hs h
theorem yx{N:Nat}{p:Array Nat}{k:Nat}(h:Und N p):∀(f l r:Nat),l<=k->r<=k->Lv N (λm=>m<=k) (kas_place p k f l r)
 | 0,l,r,a,b=>a
 | f+1,l,r,a,b=>by
  unfold kas_place;split;exact a;refine#[h _,h _,λc=> ?_];cases c with
  | true=>exact yx h f l ((l+r)/2) a ⋯
  | false=>exact yx h f ((l+r)/2+1) r ⋯ b
theorem JF{N S:Nat}:∀(f:Nat) (p:Array Nat) (k:Nat),p.size=S->k+f<=S->Und N p->Lv N (λJ:Array Nat=>J.size=S) (kas_bin f p k)
 | 0,p,k,hz,_,_=>hz
 | f+1,p,k,hz,hk,h=>Lv.bind (λm hm=>JF f _ (k+1) (by rw[WX];exact hz) ⋯ (h.bub ⋯ ⋯)) (yx h k 0 k (SU _) (wS _))
theorem Nx(h1:1<=n):Lv n (λp:Array Nat=>p.size=n) (kas_sort n):=by
 have sz:(Ts (wh n)).size=n:=by simp
 have J:Und n (Ts (wh n)):=λi=>by rw[T4,List.getElem?_toArray];by_cases hi:i<n;simp[hi];rw[UC (by simpa using hi)];exact h1
 refine Lv.bind (λr hr=> ?_) (Lk sz h1 (wS _) J);obtain⟨a,b,c⟩:=hr;split;exact JF _ _ _ a ⋯ b;exact a
theorem Ey{α:Type}{N:Nat}{P:α->Prop}{lt:Nat->Nat->Bool}{J:Nat->Nat->(Bool->vr->Prop)->vr->Prop}{Q:α->vr->Prop}{s:vr}(hc:∀i j C,i<N->j<N->C (lt i j) s->J i j C s):
 ∀(t:KasT α),Lv N P t->Q (jR lt t) s->t.kasWp J Q s
 | .ret a,_,h=>h
 | .ask i j k,l,h=>hc i j _ l.1 l.2.1 (Ey hc (k (lt i j)) (l.2.2 _) h)
section
open PySem.SeqAt
open PySem.AutoSeq1 (wpAny_loadPart')
open PySem.MeetsSeq PySem.MeetsSeq2 PySem.MeetsSeq3
theorem ints_get(h:TX vs ns)(hi:i<ns.length):∃t,vs[i]? =pr (.int ns[i] t):=by have J:=h.length;have e:vs[i]? =pr vs[i]:=ut ⋯;obtain⟨t,q⟩:=h.int_at i _ e;refine#[t, ?_];rw[e,q];simp[re,hi]
theorem Ln(l b:sK)(Y J:Array sn)(n n2:Nat)(dd a1:Option sK)(sl a2:Array (Option sn))(ns ms:List Int)(hi:TX Y.toList ns)(hj:TX J.toList ms){k:Nat}:
 ∀i:Nat,ns.length-i=k->i<=ns.length->i<=ms.length->Meets (Builtin.«list.__eq__.loop» #[[.ref l,.ref b,rawInt i,rawInt 0],[]])
  (λ_ R s=>s.heap.get? l=pr {cls:=.type "list",dict:=dd,data:=.seq Y n,slots:=sl}/\s.heap.get? b=pr {cls:=.type "list",dict:=a1,data:=.seq J n2,slots:=a2}/\
   R (.ok (.ret (.bool (HT.lexLt (ns.drop i) (ms.drop i))))) s):=by
 have z1:Y.size=ns.length:=by rw[<- hi.length];simp
 have z2:J.size=ms.length:=by rw[<- hj.length];simp
 have am:∀i:Nat,i<=ns.length->i<=ms.length->(i=ns.length\/i=ms.length)->HT.lexLt (ns.drop i) (ms.drop i)=decide (Y.size<J.size):=by intro i h1 h2 h3;by_cases e1:i=ns.length;rw[e1,V1];by_cases e2:ns.length=ms.length;rw[e2,V1];exact(decide_eq_false ⋯).symm;rw[S0 ⋯];exact(decide_eq_true ⋯).symm;have e2:i=ms.length:=⋯;rw[e2,V1,S0 ⋯];exact(decide_eq_false ⋯).symm
 induction k with
 | zero=>
  intro i hk h1 h2 prog w A R s h;obtain⟨hp,g,d,tk,os⟩:=s;obtain⟨hl,hb,h⟩:=h;have a3:i=ns.length:=⋯
  wp_walk using SW hl,SW hb
  have ab:Y[((i:Nat):Int).toNat]? =none:=by simp;omega
  rw[ab];rw[am i h1 h2 (.inl a3)] at h
  wp_walk using SW hl,SW hb
  exact h
 | succ k ih=>
  intro i hk h1 h2 prog w A R s h;obtain⟨hp,g,d,tk,os⟩:=s;obtain⟨hl,hb,h⟩:=h;have as:i<ns.length:=⋯;obtain⟨t,et⟩:=ints_get hi as;have ab:Y[((i:Nat):Int).toNat]? =pr (.int ns[i] t):=by rw[UA] at et;simpa using et
  by_cases az:i<ms.length;obtain⟨u,eu⟩:=ints_get hj az;have ac:J[((i:Nat):Int).toNat]? =pr (.int ms[i] u):=by rw[UA] at eu;simpa using eu
  wp_walk using SW hl,SW hb
  rw[ab,ac];rw[S0 as,S0 az,HT.pF] at h;have hc:((i:Int)+1)=((i+1:Nat):Int):=by push_cast;rfl
  obtain⟨e,he,ap⟩:=HT.Mn A.in1 #[hp,g,d,tk,os] ns[i] t ms[i] u;refine xY (he prog w _ _ ?_);cases e with
  | true=>
   rw[if_pos (ap.mp rfl)] at h
   wp_walk
   rw[hc];exact#[UH plain_eq_loop _,UO entry_eq_loop (by rw[Around.under_plainId plain_eq_loop _];exact ih (i+1) ⋯ ⋯ ⋯ prog w A R _ #[hl,hb,h])]
  | false=>
   rw[if_neg (λq=>absurd (ap.mpr q) Eb)] at h;have a4:=HT.E9 A.in1 #[hp,g,d,tk,os] ns[i] t ms[i] u prog w
   wp_walk using SW hl,SW hb
   rw[ab,ac]
   wp_walk using a4
   exact h
  have ac:J[((i:Nat):Int).toNat]? =none:=by simp;omega
  wp_walk using SW hl,SW hb
  rw[ab,ac];rw[am i h1 h2 (.inr ⋯)] at h
  wp_walk using SW hl,SW hb
  exact h
theorem K7(l b:sK)(Y J:Array sn)(n n2:Nat)(dd ab:Option sK)(sl ac:Array (Option sn))(ns ms:List Int)(hi:TX Y.toList ns)(hj:TX J.toList ms):
 Meets (Builtin.«list.__lt__» #[[.ref l,.ref b],[]])
  (λ_ R s=>s.heap.get? l=pr {cls:=.type "list",dict:=dd,data:=.seq Y n,slots:=sl}/\s.heap.get? b=pr {cls:=.type "list",dict:=ab,data:=.seq J n2,slots:=ac}/\
   R (.ok (.ret (.bool (HT.lexLt ns ms)))) s):=by
 intro prog w A R s h;obtain⟨hp,g,d,tk,os⟩:=s;obtain⟨hl,hb,h⟩:=h;have f2:=AutoSeq1.sub_list_list
 wp_walk using SW hl,SW hb
 exact#[UH plain_eq_loop _,UO entry_eq_loop (by rw[Around.under_plainId plain_eq_loop _];exact Ln l b Y J n n2 dd ab sl ac ns ms hi hj 0 rfl (SU _) (SU _) prog w A R _ #[hl,hb,by simpa using h])]
end
section
variable {prog : FS} {w : IN} {A : SN} {E : sn → vr → Prop} {s : vr}
theorem FC {l b:sK} {Y J:Array sn} {ns ms:List Int} {Q:Bool->vr->Prop} (hl:s.heap.IsList l Y) (hb:s.heap.IsList b J) (hi:TX Y.toList ns) (hj:TX J.toList ms) (hu:A.units<cLine)
 (h:Q (HT.lexLt ns ms) s):wpAny (model prog w) A (keyLt' oneType' (.ref l) (.ref b)) Q E s:=by
 obtain⟨⟨cls,dd,data,sl⟩,ho,hc,n,hd⟩:=id hl;obtain⟨⟨az,an,data2,ap⟩,as,ab,n2,ac⟩:=id hb;dsimp only at hc hd ab ac;subst hc hd ab ac;rw[keyLt'_oneType,oneLt'_eq];simp only[if_true];refine xY (wpAny_cRoomFor hu ?_);refine xY (wpAny_callSpecialIfBound?_slot #[_,ho,rfl] Wo (UV Wo #[_,ho,rfl] PySem.F.entry_list_lt (PySem.F.args_list_lt_2 _ _) (K7 l b Y J n n2 dd an sl ap ns ms hi hj) #[ho,as, ?_]));exact SQ h
end
section
variable {prog : FS} {w : IN} {A : SN} {E : sn → vr → Prop} {s : vr}
abbrev EJ(nss:List (List Int)):Nat->PD.α:=λi=>nss.getD i []
def rB(vs:List sn)(p:Array Nat):Array Value:=(p.toList.map λi=>vs.getD i Value.none).toArray
def QD(h:Rs)(vs:List sn)(nss:List (List Int))(a:sK):Prop:=∀i,i<vs.length->∃(l:sK) (J:Array sn),vs.getD i Value.none=.ref l/\l≠a/\h.IsList l J/\TX J.toList (nss.getD i [])
theorem FJ:rB vs (Ts (wh vs.length))=vs.toArray:=by unfold rB;congr 1;refine UE (by simp) λi h1 h2=> ?_;simp[re,h2]
theorem Pc {a:sK} {nss:List (List Int)} {P:PySem.Fin->vr->Prop} (ho:s.heap.get? a=pr (seqObj "list" vs.toArray n)) (bb:vs.length<64) (hu:A.units<cLine) (ab:QD s.heap vs nss a)
 (h:∀p:Array Nat,p.Perm (Ts (wh vs.length))->fH (EJ nss) p vs.length->P (.done (.ret .none)) {s with heap:=sortedHeap s.heap a vs (rB vs p)}):
 wpAny (model prog w) A (Builtin.«list.sort» #[[.ref a],[]]) P E s:=by
 rw[list_sort_plain];have ha:a<s.heap.objs.size:=Heap.lt_size ho;have ac:vs.length<=sizeLine:=by rw[Ur];omega
 refine xY (listItems_at ho rfl ?_);refine xY (Wq ho rfl ?_ (by rw[Ae];exact ac) (SU _));obtain⟨e1,ho1⟩:∃e1,(s.heap.update a (Obj.mapSeq λ_=> #v[])).get? a=pr (seqObj "list" #v[] e1):=#[_,get?_update_seq ho (λ_=> #v[])];refine xY (WV ho1 rfl ?_);refine xY (wpAny_newTuple ?_ ac);refine xY (Wr ?_ (SU _));refine Uk ?_;have am:∀b o,b≠a->s.heap.get? b=pr o->(((s.heap.update a (Obj.mapSeq λ_=> #v[])).push (seqObj "tuple" vs.toArray 0)).push (seqObj "list" #v[] 0)).get? b=pr o:=λb o hb e=>
  Heap.get?_push_of_some _ (Heap.get?_push_of_some _ ((Heap.get?_update_ne _ _ _ _ hb).trans e))
 have Y:(((s.heap.update a (Obj.mapSeq λ_=> #v[])).push (seqObj "tuple" vs.toArray 0)).push (seqObj "list" #v[] 0)).get? a=pr (seqObj "list" #v[] e1):=Heap.get?_push_of_some _ (Heap.get?_push_of_some _ ho1);show wpAny (model prog w) A _ P E {s with heap:=((s.heap.update a (Obj.mapSeq λ_=> #v[])).push (seqObj "tuple" vs.toArray 0)).push (seqObj "list" #v[] 0)};dsimp only;by_cases h2:vs.toArray.size<2;have an:=h (Ts (wh vs.length)) (Array.Perm.refl _) λi j b1 hj=>by
  have:i=j:=by rw[Ae] at h2;omega
  subst this;exact KeyOrd.kle_refl _
 rw[FJ] at an;rw[if_pos h2,if_pos h2];refine xY (Ps ?_);rw[StateT.run_pure];refine xY (Ps ?_);dsimp only;have hz:(Array.map (λx:Keyed=>x.2) (vs.toArray.zip vs.toArray))=vs.toArray:=by apply VO.mp;rw[WY,Array.toList_zip];exact List.map_snd_zip (wS _)
 refine xY (WV Y rfl ?_);show wpAny (model prog w) A (Builtin.List.listUpdate (.ref a) (λ_=>Array.map (λx:Keyed=>x.2) (vs.toArray.zip vs.toArray)) >>= _) P E _;rw[hz];refine xY (Wq Y rfl ?_ (SU _) (by rw[Ae];omega));simp only[bne_self_eq_false,T5,if_false];exact Ps an;rw[if_neg h2,if_neg h2];have l2:2<=vs.length:=by rw[Ae] at h2;omega
 obtain⟨p0,e0,q1,q2,q3⟩:=yY (key:=EJ nss) (n:=vs.length) ⋯;refine xY (kas_kind (T:=.type "list") l2 (λv hv=> ?_) ∅ ∅ ?_);obtain⟨i,hi,rfl⟩:=SX hv;obtain⟨l,bd,el,la,il,_⟩:=ab i hi;rw[re,ut hi] at el;rw[show vs[i]=.ref l from el];intro A Q E s' k q;obtain⟨o,bi,hc,_⟩:=il;exact wpAny_typeOf (T:="list") #[o,k _ _ (am _ _ la bi),hc] q;have bm:SortSt.mk' oneType' (vs.toArray.zip vs.toArray) #v[] 7 qh=kas_st oneType' (pairsOf vs) (Ts (wh vs.length)):=by have e:=kas_range (pairsOf vs);rw[pairsOf_size] at e;show SortSt.mk' oneType' (pairsOf vs) #v[] 7 qh=SortSt.mk' oneType' ((Ts (wh vs.length)).map (kas_item (pairsOf vs))) #v[] 7 qh;rw[e]
 have ask:(kas_sort vs.length).kasWp (kas_ask prog w A oneType' vs) (λp s'=>p=p0/\s'={s with heap:=((s.heap.update a (Obj.mapSeq λ_=> #v[])).push (seqObj "tuple" vs.toArray 0)).push (seqObj "list" #v[] 0)})
  {s with heap:=((s.heap.update a (Obj.mapSeq λ_=> #v[])).push (seqObj "tuple" vs.toArray 0)).push (seqObj "list" #v[] 0)}:=by
  refine Ey (lt:=ltK (EJ nss)) (λi j C hi hj hC=> ?_) _ (Nx ⋯) #[e0,rfl];obtain⟨l,bd,el,la,il,ii⟩:=ab i hi;obtain⟨m,bv,em,ma,im,ij⟩:=ab j hj;unfold kas_ask;rw[el,em];have up:∀{x:sK} {xs:Array sn},x≠a->s.heap.IsList x xs->(((s.heap.update a (Obj.mapSeq λ_=> #v[])).push (seqObj "tuple" vs.toArray 0)).push (seqObj "list" #v[] 0)).IsList x xs:=λhx #[o,e,r]=>#[o,am _ _ hx e,r];exact FC (up la il) (up ma im) ii ij hu hC
 rw[kas_ask_eq] at ask;have run:=kas_runs (E:=E) (Q:=λ_ J s'=>arrOf J=p0.map (kas_item (pairsOf vs))/\failedOf J=qh/\s'={s with heap:=((s.heap.update a (Obj.mapSeq λ_=> #v[])).push (seqObj "tuple" vs.toArray 0)).push (seqObj "list" #v[] 0)})
  l2 bb (λp' J s' a1 a2 a3 a4=>#[by rw[a2,a4.1],a3,a4.2]) ask
 rw[<- bm] at run;refine xY (T3 run ?_ λ_ _ e=>e);rintro ⟨⟨⟩,J⟩ s' ⟨bn,hf,rfl⟩;dsimp only;have ap:(arrOf J).map (·.2)=rB vs p0:=by apply VO.mp;rw[bn,Array.map_map,WY];exact Vh λi _=>by show (kas_item (pairsOf vs) i).2=_;rw[kas_item_eq]
 rw[ap];refine xY (WV Y rfl ?_);refine xY (Wq Y rfl ?_ (SU _) (by unfold rB;rw[Ae,t3,Vg,q2];omega));rw[hf];simp only[bne_self_eq_false,T5,if_false];exact Ps (h p0 q1 q3)
theorem ND {l:sK} {nss:List (List Int)} {Q:sn->vr->Prop} (hl:s.heap.IsList l vs.toArray) (am:vs.length<64) (hu:A.units+64<cLine)
 (an:∀i,i<vs.length->∃(l:sK) (J:Array sn),vs.getD i Value.none=.ref l/\s.heap.IsList l J/\TX J.toList (nss.getD i []))
 (h:∀p:Array Nat,p.Perm (Ts (wh vs.length))->fH (EJ nss) p vs.length->Q (.ref (s.heap.objs.size+1)) {s with heap:=sortedAll s.heap vs (rB vs p)}):
 wpAny (model prog w) A (call (.builtin "sorted") [.ref l]) Q E s:=by
 have Y:vs.length<=sizeLine:=by rw[Ur];omega
 refine Calls.call_function_entry kind_sorted plain_sorted entry_sorted (args_sorted1 _) ?_;unfold Builtin.«sorted»;refine xY (m:=checkCount "sorted" 1 1 _) (Ps ?_);refine xY (collect_list hl ?_ Y);refine xY (Wr ?_ Y);have ab:((s.heap.push (seqObj "list" #v[] 0)).update s.heap.objs.size (Obj.mapSeq (·++vs.toArray))).objs.size=s.heap.objs.size+1:=by rw[Heap.size_update,size_push']
 have ac:(((s.heap.push (seqObj "list" #v[] 0)).update s.heap.objs.size (Obj.mapSeq (·++vs.toArray))).push (seqObj "list" vs.toArray 0)).get? (s.heap.objs.size+1)=pr (seqObj "list" vs.toArray 0):=by rw[<- ab];exact Heap.get?_push_size _ rfl
 have keep:∀b o,s.heap.get? b=pr o->(((s.heap.push (seqObj "list" #v[] 0)).update s.heap.objs.size (Obj.mapSeq (·++vs.toArray))).push (seqObj "list" vs.toArray 0)).get? b=pr o:=λb o q=>by have ap:b<s.heap.objs.size:=Heap.lt_size q;exact Heap.get?_push_of_some _ ((Heap.get?_update_ne _ _ _ _ (Ix ap)).trans (Heap.get?_push_of_some _ q))
 show wpAny _ _ _ _ _ {s with heap:=((s.heap.push (seqObj "list" #v[] 0)).update s.heap.objs.size (Obj.mapSeq (·++vs.toArray))).push (seqObj "list" vs.toArray 0)};rw[ab];refine xY (Uk (wpAny_call_entry slot_list_sort #[_,ac,rfl] entry_list_sort (Pc (nss:=nss) ac am ?_ (λi hi=> ?_) λp a1 a2=>#[_,rfl, ?_]) (args_list_sort _)));simp only[units_in1];omega;obtain⟨x,J,e,il,ii⟩:=an i hi;obtain⟨o,ho,r⟩:=il;exact#[x,J,e,Ix (Uc (Heap.lt_size ho)),#[o,keep _ _ ho,r],ii];exact Ps #[_,rfl,h p a1 a2]
end
section
variable {α β : Type}
def uv(x:α×List Int):List (α×List Int)->List (α×List Int)
 | []=>[x]
 | y::l=>if HT.lexLt x.2 y.2=ss then x::y::l else y::uv x l
def fk:List (α×List Int)->List (α×List Int)
 | []=>[]
 | x::l=>uv x (fk l)
theorem EX{g:α×List Int->β×List Int}(J:∀x,(g x).2=x.2)(x:α×List Int):∀l,uv (g x) (l.map g)=(uv x l).map g
 | []=>rfl
 | y::l=>by rw[x0];unfold uv;rw[J,J];split;rfl;rw[x0,EX J x l]
theorem oK{g:α×List Int->β×List Int}(J:∀x,(g x).2=x.2):∀l,fk (l.map g)=(fk l).map g
 | []=>rfl
 | x::l=>by rw[x0];unfold fk;rw[oK J l,EX J]
theorem wg(x:α×List Int):∀l,(uv x l).Perm (x::l)
 | []=>.refl _
 | y::l=>by unfold uv;split;exact .refl _;exact((wg x l).cons y).trans (Xp x y l)
theorem iE:∀l:List (α×List Int),(fk l).Perm l
 | []=>.refl _
 | x::l=>(wg x _).trans ((iE l).cons x)
abbrev AN(l:List (α×List Int)):Prop:=l.Pairwise λa b=>HT.lexLt b.2 a.2=xL
theorem lex_asymm{a b:List Int}(h:HT.lexLt a b=ss):HT.lexLt b a=false:=by
 cases h2:HT.lexLt b a with
 | false=>rfl
 | true=>
  have:=lex_trans a b a h h2;rw[lex_irrefl] at this;cases this
theorem HJ{a b c:List Int}(h1:HT.lexLt b a=xL)(h2:HT.lexLt c b=xL):HT.lexLt c a=false:=KeyOrd.kle_trans (O:=PD) (a:=a) (b:=b) (c:=c) h1 h2
theorem CJ(x:α×List Int):∀{l},AN l->AN (uv x l)
 | [],_=>List.pairwise_singleton _ _
 | y::l,h=>by
  unfold uv;have hy:=SV.mp h;split;rename_i c;refine SV.mpr #[λz hz=> ?_,h];rcases wE.mp hz with rfl | hz
  exact lex_asymm c;exact HJ (lex_asymm c) (hy.1 z hz);rename_i c;refine SV.mpr #[λz hz=> ?_,CJ x hy.2];rcases wE.mp ((wg x l).mem_iff.mp hz) with rfl | hz
  exact eq_false_of_ne_true c;exact hy.1 z hz
theorem pH:∀l:List (α×List Int),AN (fk l)
 | []=>.nil
 | x::l=>CJ x (pH l)
theorem Ov{l:List (α×List Int)}(J:(l.map (·.2)).Nodup){a b:α×List Int}(ha:a∈l)(hb:b∈l)(h:a.2=b.2):a=b:=by
 induction l with
 | nil=>cases ha
 | cons x l Y=>
  rw[x0,Tv] at J;rcases wE.mp ha with rfl | ha'
  rcases wE.mp hb with rfl | hb;rfl;have q:b.2∈l.map (·.2):=Hf hb;rw[<- h] at q;exact absurd q J.1;rcases wE.mp hb with rfl | hb;have q:a.2∈l.map (·.2):=Hf ha';rw[h] at q;exact absurd q J.1;exact Y J.2 ha' hb
theorem yJ:∀{l m:List (α×List Int)},l.Perm m->(l.map (·.2)).Nodup->AN l->AN m->l=m
 | [],m,h,_,_,_=>(List.nil_perm.mp h).symm
 | a::l,[],h,_,_,_=>absurd h.symm (by simp)
 | a::l,b::m,h,nd,hl,hm=>by
  have e:a=b:=by
   have ha:a∈b::m:=h.mem_iff.mp wp;have hb:b∈a::l:=h.mem_iff.mpr wp;rcases wE.mp ha with e | ha
   exact e;rcases wE.mp hb with e | hb'
   exact e.symm;refine Ov nd wp hb (qR _ _ ((SV.mp hm).1 a ha) ((SV.mp hl).1 b hb'))
  subst e;rw[yJ (List.Perm.cons_inv h) (Tv.mp nd).2 (SV.mp hl).2 (SV.mp hm).2]
end
section
variable {X : Cx}
def yo(K:uY):List V->Hp->VK->Prop:=λxs H Q=>∃(p:sK) (ls:List (sK×List Int)),xs=[.ref p]/\SqL K H p (ls.map λx=>V.ref x.1)/\(∀x∈ls,SqL K H x.1 (x.2.map V.int))/\ls.length<64/\(ls.map (·.2)).Nodup/\
 ∀d,H d=qh->Q (.ref d) (upd H d (.lst ((fk ls).map λx=>V.ref x.1)))
theorem zW:∀{ls:List (sK×List Int)} {J:List sn},Vals (ls.map λx=>V.ref x.1) J->J=ls.map λx=>Value.ref x.1
 | [],_,h=>by cases h;rfl
 | x::ls,_,h=>by
  cases h with
  | cons r Y=>cases r;rw[zW Y];rfl
theorem An:∀(ls:List (sK×List Int)),Vals (ls.map λx=>V.ref x.1) (ls.map λx=>Value.ref x.1)
 | []=>.nil
 | x::ls=>.cons rfl (An ls)
theorem EY(hu:X.A.units+64<cLine):kT X (.builtin "sorted") (yo X.K):=by
 intro pins s σ H xs us Q I r h;obtain⟨p,ls,rfl,hq,hi,am,nd,q⟩:=h;obtain⟨u,rfl,ru⟩:=vals1 r;cases ru;obtain⟨bd,rv,pl,hz⟩:=I.list hq;obtain rfl:=zW rv;have ln:(ls.map λx=>Value.ref x.1).length=ls.length:=t3 _;refine ND (nss:=ls.map (·.2)) pl.isList (by rw[ln];exact am) hu (λi Y=> ?_) λJ a1 a2=> ?_;rw[ln] at Y;obtain⟨ab,r2,ap,_⟩:=I.list (hi ls[i] (NE _));refine#[ls[i].1,ab.toArray,by simp[re,Y],ap.isList, ?_];rw[show (ls.map (·.2)).getD i []=ls[i].2 by simp[re,Y]];simpa using pK r2;rw[ln] at a1 a2;have hm:∀i∈J.toList,i<ls.length:=λi hi=>by have:=(VA.mp a1).mem_iff.mp hi;simpa using this
 have e1:rB (ls.map λx=>Value.ref x.1) J=((J.toList.map λi=>ls.getD i (0,[])).map λx=>Value.ref x.1).toArray:=by unfold rB;congr 1;rw[wv];refine Vh λi hi=> ?_;have:=hm i hi;simp[re,this]
 have e2:(J.toList.map λi=>ls.getD i (0,[])).Perm ls:=by have:=(VA.mp a1).map λi=>ls.getD i (0,[]);refine this.trans (List.Perm.of_eq ?_);refine UE (by simp) λi h1 h2=> ?_;simp[re,h2]
 have sz:J.size=ls.length:=by have:=a1.size_eq;simpa using this
 have e3:AN (J.toList.map λi=>ls.getD i (0,[])):=by
  refine UP.mpr ?_;intro i j hi hj as;have Y:i<J.size:=by simpa using hi
  have az:j<J.size:=by simpa using hj
  have:=a2 i j (T6 as) ⋯;have k1:∀(i:Nat) (h:i<J.size),kAt (EJ (ls.map (·.2))) J i=(ls.getD J[i] (0,[])).2:=λi h=>by
   have hb:=hm J[i] (by simp);have e:J.getD i 0=J[i]:=by simp[Array.getD,h]
   unfold kAt;rw[e];show (ls.map (·.2)).getD J[i] []=_;rw[re,wT,re,ut hb];rfl
  rw[k1 i Y,k1 j az] at this;rw[VX,VX,Wn,Wn];exact this
 have e4:(J.toList.map λi=>ls.getD i (0,[]))=fk ls:=yJ (e2.trans (iE ls).symm) ((e2.map (·.2)).nodup_iff.mpr nd) e3 (pH ls);rw[e1,e4];obtain⟨e,he⟩:=sortedAll_at s.heap (ls.map λx=>Value.ref x.1) ((fk ls).map λx=>Value.ref x.1).toArray;have fresh:H (s.heap.objs.size+1)=none:=I.hok.fresh (Vs _);refine#[.ref (s.heap.objs.size+1),_,I.laid (t':=s.toks) (o:=.lst ((fk ls).map λx=>V.ref x.1)) (λb o q=>sortedAll_old q) (Vs _) ?_,rfl,q _ fresh];exact#[by rw[t3,(iE ls).length_eq];rw[t3] at hz;exact hz,_,e,An _,he]
end
open PySem PySem.Spec PyProof.Rows
section
variable {prog : FS} {w : IN} {A : SN} {R : WF → vr → Prop} {I : sK} {fp wr : List sK} {n : Nat} {P : Nat → sn → Prop} {St : Nat → Rs → Prop} {kw : List (Str × sn)}
theorem xn:(toString "min" ++toString ".loop" :String)="min.loop" :=∅
theorem MZ(W:Walks prog w A.in1 I fp wr n P St)(bt:Nat->Nat->Bool)(a2:CmpOf prog w A.in1 .Lt P bt){S:sK}(a3:S∉fp):∀(k j:Nat) (s:vr) (vb:sn) (c:Nat),n-(j+1)=k->j+1<=n->St (j+1) s.heap->P (argBest bt j) vb->
 s.heap.get? S=pr {cls:=.type "list",dict:=qh,data:=.seq #v[vb,vb] c,slots:= #v[]}->
 (∀v h' tk,P (argBest bt (n-1)) v->(∀b o,b∉wr->b≠S->s.heap.get? b=pr o->h'.get? b=pr o)->R (.ok (.ret v)) {s with heap:=h',toks:=tk})->
 codeAny (model prog w) A (.builtin "min.loop" #[[.ref I,.none,.ref S],kw]) R s:=by
 have nw:S∉wr:=λh=>a3 (W.sub _ h);intro k;induction k with
 | zero=>
  intro j s vb c hk hj an ac hS hR;have e:j+1=n:=⋯;refine UO UZ ?_;rw[Around.under_plainId Tg _];show wpAny _ A.in1 (seqItems? (.ref S) >>= _) _ _ s;refine xY (Wj hS rfl ?_);show wpAny _ A.in1 (tryCatch (pyNext (.ref I)) _ >>= _) _ _ s;refine xY (Vj (W.done s _ _ (e▸an) λh' tk J=> ?_));have Y:=J S _ nw hS;show wpAny _ A.in1 (updateSeq S (λ_=> #v[]) >>= _) _ _ _;refine xY ?_;refine V8 Y rfl (xY (We (Ps ?_)));exact hR vb _ tk (by rw[<- e];exact ac) λb o h1 h2 q=>(Heap.get?_update_other _ _ (Ux h2)).trans (J b o h1 q)
 | succ k ih=>
  intro j s vb c hk hj an ac hS hR;have lt:j+1<n:=⋯;refine UO UZ ?_;rw[Around.under_plainId Tg _];show wpAny _ A.in1 (seqItems? (.ref S) >>= _) _ _ s;refine xY (Wj hS rfl ?_);show wpAny _ A.in1 (tryCatch (pyNext (.ref I)) _ >>= _) _ _ s;refine xY (Vj (W.item (j+1) s _ _ lt an λv h' tk hP am J=> ?_));have Y:=J S _ nw hS;show wpAny _ A.in1 (tryCatch (holding [v,v] (richCompare .Lt v vb >>= _)) _ >>= _) _ _ _;refine xY (Vj (Uk (xY (a2 (j+1) (argBest bt j) v vb _ _ _ hP ac ?_))));refine xY (Uk (SQ (xY (We (Ps ?_)))));cases hb:bt (j+1) (argBest bt j) with
  | true=>
   simp only[if_true];refine xY ?_;refine V8 Y rfl (xY (We ?_));rw[xn];refine Ps #[UH Tg _,ih (j+1) _ v _ ⋯ lt (W.frame _ _ _ am λb h1 o q=> ?_) (by simp only[argBest,hb,if_true];exact hP) (Heap.get?_update_self _ Y rfl) λv1 h2 ap as az=> ?_];exact(Heap.get?_update_other _ _ (λh:S=b=>a3 (by rw[h];exact h1))).trans q;exact hR v1 h2 ap as λb o h3 h4 q=>az b o h3 h4 ((Heap.get?_update_other _ _ (Ux h4)).trans (J b o h3 q))
  | false=>
   simp only[T5,if_false];refine xY (We ?_);rw[xn];refine Ps #[UH Tg _,ih (j+1) _ vb c ⋯ lt am (by simp only[argBest,hb,T5,if_false];exact ac) Y λv1 h2 ap as az=> ?_];exact hR v1 h2 ap as λb o h3 h4 q=>az b o h3 h4 (J b o h3 q)
end
section
variable {prog : FS} {w : IN} {A : SN} {E : sn → vr → Prop} {s : vr}
end
section
variable {X : Cx} {e d : KE} {te td : TE} {p q kp : Pos}
end
section
variable {X : Cx}
end
section
variable {X : Cx}
end
section
variable {X : Cx}
def Mz:V->List V->Hp->VK->Prop:=λx vs H Q=>∃l xs y,x=.ref l/\vs=[.int 0,y]/\H l=pr (.lst xs)/\xs.length<sizeLine/\Q .non (upd H l (.lst (y::xs)))
theorem MW:MtM X "list.insert" Mz:=by
 intro pins s σ H x vs v us Q I rx Y h;obtain⟨l,xs,y,rfl,rfl,hH,hz,q⟩:=h;cases rx;cases Y with
 | cons r0 Y=>
  obtain⟨u,rfl,ru⟩:=Vals.one (show Vals [y] _ from Y);obtain⟨t,rfl⟩:=r0;obtain⟨z,J,n,r,hl,e⟩:=I.lstM hH;refine UV F.slot_list_insert #[_,e,rfl] F.entry_list_insert (F.args_list_insert_3 _ _ _) (AutoSeq1.list_insert_list_int_val_1 l J.toArray n 0 t u ∅ (by rw[Ae];omega)) #[e, ?_];refine#[.non,_,I.lset (its':=u::J) hH e (by simp) (.cons ru r) ?_,rfl,q];rw[AC];omega
end
section
variable {prog : FS} {w : IN} {A : SN} {E : sn → vr → Prop} {s : vr}
end
section
variable {X : Cx} {e d : KE} {te td : TE} {p q kp : Pos}
end
section
variable {prog : FS} {w : IN} {A : SN} {E : sn → vr → Prop} {s : vr}
theorem K1{a:sn}:argsOk "min" #[[a],[]]:=by unfold argsOk;kernel_rfl
theorem MX {l:sK} {J:List sn} {Q:sn->vr->Prop} (hh:A.handled=qh) (hl:s.heap.IsList l J.toArray) (hI:TX J ns) (ab:0<ns.length)
 (h:∀(m:Int) (t:Tok) (h':Rs) (k:Nat),m∈ns->(∀x∈ns,m<=x)->(∀b o,s.heap.get? b=pr o->h'.get? b=pr o)->Q (.int m t) {s with heap:=h',toks:=k}):
 wpAny (model prog w) A (call (.builtin "min") [.ref l] []) Q E s:=by
 have ac:J.length=ns.length:=hI.length;have Y:∀(i:Nat) (v:sn),J.toArray[i]? =pr v->∃t,v=.int (ns.getD i 0) t:=λi v e=>hI.int_at i v (by simpa using e);refine PyProof.Rows.kmk_tree PySem.F.kind_min PySem.F.plain_min PySem.F.entry_min K1 ?_;show wpAny _ A.in1 (Builtin.Builtins.bindParams "min" ["key","default"] 0 #[[],[]] >>= _) _ _ s;refine xY (wpAny_of_eq (show Builtin.Builtins.bindParams "min" ["key","default"] 0 #[[],[]]=pure [qh,qh] from rfl) ?_);refine xY (Ps (xY (UW hl ?_)));refine xY (Wr ?_ (SU _));rw[xn];have lt:l<s.heap.objs.size:=by obtain⟨_,e,_⟩:=hl;exact Heap.lt_size e
 have W:=Walks.list (prog:=prog) (w:=w) (A:=A.in1) hh s.heap.objs.size l (Ix lt) J.toArray;have sz:J.toArray.size=ns.length:=by simp[ac]
 have hS:(s.heap.push {cls:=.type "list_iterator",data:=.fields #v[.ref l,.int 0 0]}).objs.size=s.heap.objs.size+1:=size_push' ..;have as:CmpOf prog w A.in1 .Lt (λi v=>J.toArray[i]? =pr v) (λi j=>decide (ns.getD i 0<ns.getD j 0)):=λi j vi vj s' Q' E' hi hj hq=>by obtain⟨t,rfl⟩:=Y i vi hi;obtain⟨u,rfl⟩:=Y j vj hj;exact HT.E9 _ _ _ _ _ _ _ _ _ _ hq
 obtain⟨b1,b2⟩:=argBest_lt (λi=>ns.getD i 0) (ns.length-1);refine Ps #[UH Tg _,UO UZ ?_];rw[Around.under_plainId Tg _];have gS:((s.heap.push {cls:=.type "list_iterator",data:=.fields #v[.ref l,.int 0 0]}).push (seqObj "list" #v[] 0)).get? (s.heap.push {cls:=.type "list_iterator",data:=.fields #v[.ref l,.int 0 0]}).objs.size=pr (seqObj "list" #v[] 0):=Heap.get?_push_size _ rfl;have gI:((s.heap.push {cls:=.type "list_iterator",data:=.fields #v[.ref l,.int 0 0]}).push (seqObj "list" #v[] 0)).get? s.heap.objs.size=pr {cls:=.type "list_iterator",data:=.fields #v[.ref l,.int 0 0]}:=Heap.get?_push_of_some _ (Heap.get?_push_size _ rfl);have nf:(s.heap.push {cls:=.type "list_iterator",data:=.fields #v[.ref l,.int 0 0]}).objs.size∉[s.heap.objs.size,l]:=by rw[hS];simp only[wE,ww,TB,or_false,not_or];exact#[U6 (UF _),U6 (Uc lt)]
 have nw:(s.heap.push {cls:=.type "list_iterator",data:=.fields #v[.ref l,.int 0 0]}).objs.size∉[s.heap.objs.size]:=λq=>nf (by rw[ww.mp q];exact wp);show wpAny _ A.in1 (seqItems? (.ref _) >>= _) _ _ _;refine xY (Wj gS rfl ?_);show wpAny _ A.in1 (tryCatch (pyNext (.ref s.heap.objs.size)) _ >>= _) _ _ _;refine xY (Vj (W.item 0 _ _ _ (by rw[sz];exact ab) #[#[_,gI,rfl,rfl],(hl.push _).push _] λv h1 k1 hP a2 am=> ?_));have an:=am _ _ nw gS;show wpAny _ A.in1 (updateSeq _ (λ_=> #v[v,v]) >>= _) _ _ _;refine xY ?_;refine V8 an rfl ?_;rw[xn];refine Ps #[UH Tg _,MZ W (λi j=>decide (ns.getD i 0<ns.getD j 0)) as nf _ 0 _ v _ rfl (by rw[sz];exact ab) (W.frame _ _ _ a2 λb h2 o q=> ?_) hP (Heap.get?_update_self _ an rfl) λv2 h2 k2 a3 a4=> ?_];exact(Heap.get?_update_other _ _ (λq1=>nf (by rw[q1];exact h2))).trans q;obtain⟨t,rfl⟩:=Y _ _ a3;rw[sz];have lb:argBest (λi j=>decide (ns.getD i 0<ns.getD j 0)) (ns.length-1)<ns.length:=⋯;refine h _ t h2 k2 ?_ (λx hx=> ?_) λb o e=> ?_;rw[re,ut lb];exact NE _;obtain⟨j,hj,rfl⟩:=SX hx;have:=b2 j ⋯;simpa[re,hj] using this;have hb:=Heap.lt_size e;have n1:b≠s.heap.objs.size:=Ix hb;have n2:b≠(s.heap.push {cls:=.type "list_iterator",data:=.fields #v[.ref l,.int 0 0]}).objs.size:=by rw[hS];exact Ix (Uc hb)
 refine a4 b o (by simpa using n1) n2 ((Heap.get?_update_other _ _ (Ux n2)).trans (am b o (by simpa using n1) (Heap.get?_push_of_some _ (Heap.get?_push_of_some _ e))))
end
section
variable {X : Cx}
theorem JJ(hc:X.calm=true:=by rfl):kT X (.builtin "min") (λxs H Q=>∃(p:sK) (ns:List Int),xs=[.ref p]/\SqL X.K H p (ns.map V.int)/\0<ns.length/\∀m:Int,m∈ns->(∀x∈ns,m<=x)->Q (.int m) H):=by intro pins s σ H xs us Q I r h;obtain⟨p,ns,rfl,hq,h0,q⟩:=h;obtain⟨u,rfl,J⟩:=vals1 r;cases J;obtain⟨Y,rv,pl,hz⟩:=I.list hq;exact MX (I.ok.hd hc) pl.isList (pK rv) h0 λm t h' k a1 a2 a3=>#[.int m,H,I.kept (t':=k) a3,#[t,rfl],q m a1 a2]
end
end L2
namespace M
open PySem L2
variable {K : uY} {a : sK} {xs vs : List V} {d x y : D} {v : V} {ds : List D} {H F H1 F1 : Hp} {θ θ1 : List sK} {ca : Nat → sK} {O O1 : aD} {s : S} {C : Ct} {te t to : TE} {ta : TA} {m me mo e : EM} {ma : AM} {n i k c : Nat} {g : TG} {gm : GM} {wi : TI} {im : IM} {tc : TT} {σ : L2.St} {E : XK} {Q : VK} {ml mh : OM} {caps : List Nat} {X : Cx} {f : Str} {ns : List Str}
inductive D where
 | non | bl (b:Bool) | int (i:Int) | str (x:Str) | lst (xs:List D) | tup (xs:List D) | ptr (k:Nat) | obj (c:Nat) (ns:List Str) (ds:List D) | exn (c:Nat)
inductive Cell where
 | dead | lst (xs:List D) | ins (c:Nat) (ns:List Str) (ds:List D)
abbrev aD:=List Cell
structure S where
 r:List (Option D)
 o:aD
inductive Res (α:Type) where
 | ok (a:α) | exc (c:Nat) (a:D) (o:S) | bad
def Res.bind{α β:Type}(x:Res α)(f:α->Res β):Res β:=match x with
 | .ok a=>f a
 | .exc c a o=>.exc c a o
 | .bad=>.bad
@[simp] theorem aj {α β:Type} {a:α} {f:α->Res β}:(Res.ok a).bind f=f a:=rfl
@[simp] theorem Rx {α β:Type} (c:Nat) (a:D) (o:S) (f:α->Res β):(Res.exc c a o:Res α).bind f=.exc c a o:=rfl
@[simp] theorem Rg {α β:Type} (f:α->Res β):(Res.bad:Res α).bind f=.bad:=rfl
abbrev Wsh:=Nat->D->S->Hp->Hp->List sK->Prop
structure Ct where
 K:uY
 ca:Nat->sK
 W:Wsh
mutual
def Rep(K:uY)(ca:Nat->sK)(θ:List sK)(F:Hp):D->V->Prop
 | .non,v=>v=.non
 | .bl b,v=>v=.bl b
 | .int i,v=>v=.int i
 | .str x,v=>v=.str x
 | .lst ds,v=>∃a xs,v=.ref a/\SqL K F a xs/\aI K ca θ F ds xs
 | .tup ds,v=>∃a xs,v=.ref a/\SqT K F a xs/\aI K ca θ F ds xs
 | .ptr k,v=>∃a,v=.ref a/\θ[k]? =pr a
 | .obj c ns ds,v=>∃a dx xs,v=.ref a/\F a=pr (.ins (ca c) dx (ns.zip xs))/\ns.length=xs.length/\aI K ca θ F ds xs
 | .exn c,v=>∃a,v=.ref a/\F a=pr (exO a (ca c))
def aI(K:uY)(ca:Nat->sK)(θ:List sK)(F:Hp):List D->List V->Prop
 | [],xs=>xs=[]
 | d::ds,xs=>∃v r,xs=v::r/\Rep K ca θ F d v/\aI K ca θ F ds r
end
mutual
def dq:D->Bool
 | .lst ds=>aU ds
 | .tup ds=>aU ds
 | .ptr _=>xL
 | .obj _ _ ds=>aU ds
 | _=>ss
def aU:List D->Bool
 | []=>ss
 | d::ds=>dq d&&aU ds
end
def px:D->Bool
 | .non=>ss | .bl _=>ss | .int _=>ss | .str _=>ss | _=>xL
theorem cg.seqT{H H':Hp}(e:cg H H')(h:SqT K H a xs):SqT K H' a xs:=by rcases h with(h | ⟨o,h⟩) | h;exact .inl (.inl (e _ _ h));exact .inl (.inr #[o,e _ _ h]);exact .inr h
section
variable {K : uY} {ca : Nat → sK} {θ θ1 : List sK} {F F1 : Hp}
mutual
theorem Rep.mono(Y:cg F F1)(J:∃r,θ1=θ++r):∀{d:D} {v:V},Rep K ca θ F d v->Rep K ca θ1 F1 d v
 | .non,_,h=>h
 | .bl _,_,h=>h
 | .int _,_,h=>h
 | .str _,_,h=>h
 | .lst ds,_,h=>by unfold Rep at h ⊢;obtain⟨a,xs,e,hs,hr⟩:=h;exact#[a,xs,e,Y.seq hs,aI.mono Y J hr]
 | .tup ds,_,h=>by unfold Rep at h ⊢;obtain⟨a,xs,e,hs,hr⟩:=h;exact#[a,xs,e,cg.seqT Y hs,aI.mono Y J hr]
 | .ptr k,_,h=>by unfold Rep at h ⊢;obtain⟨a,e,hk⟩:=h;obtain⟨r,rfl⟩:=J;refine#[a,e, ?_];rw[AT (Ch.mp hk).1];exact hk
 | .obj c ns ds,_,h=>by unfold Rep at h ⊢;obtain⟨a,dx,xs,e,ha,hl,hr⟩:=h;exact#[a,dx,xs,e,Y _ _ ha,hl,aI.mono Y J hr]
 | .exn c,_,h=>by unfold Rep at h ⊢;obtain⟨a,e,ha⟩:=h;exact#[a,e,Y _ _ ha]
theorem aI.mono(Y:cg F F1)(J:∃r,θ1=θ++r):∀{ds:List D} {xs:List V},aI K ca θ F ds xs->aI K ca θ1 F1 ds xs
 | [],_,h=>h
 | d::ds,_,h=>by unfold aI at h ⊢;obtain⟨v,r,e,h1,h2⟩:=h;exact#[v,r,e,Rep.mono Y J h1,aI.mono Y J h2]
end
mutual
theorem Rep.pure:∀{d:D} {v:V},dq d=ss->Rep K ca θ F d v->Rep K ca θ1 F d v
 | .non,_,_,h=>h
 | .bl _,_,_,h=>h
 | .int _,_,_,h=>h
 | .str _,_,_,h=>h
 | .lst ds,_,p,h=>by unfold Rep at h ⊢;obtain⟨a,xs,e,hs,hr⟩:=h;exact#[a,xs,e,hs,aI.pure (by simpa[dq] using p) hr]
 | .tup ds,_,p,h=>by unfold Rep at h ⊢;obtain⟨a,xs,e,hs,hr⟩:=h;exact#[a,xs,e,hs,aI.pure (by simpa[dq] using p) hr]
 | .ptr k,_,p,h=>by simp[dq] at p
 | .obj c ns ds,_,p,h=>by unfold Rep at h ⊢;obtain⟨a,dx,xs,e,ha,J,hr⟩:=h;exact#[a,dx,xs,e,ha,J,aI.pure (by simpa[dq] using p) hr]
 | .exn c,_,_,h=>by unfold Rep at h ⊢;exact h
theorem aI.pure:∀{ds:List D} {xs:List V},aU ds=ss->aI K ca θ F ds xs->aI K ca θ1 F ds xs
 | [],_,_,h=>h
 | d::ds,_,p,h=>by unfold aI at h ⊢;obtain⟨v,r,e,h1,h2⟩:=h;simp only[aU,Tp] at p;exact#[v,r,e,Rep.pure p.1 h1,aI.pure p.2 h2]
end
theorem Rep.scal(p:px d=ss)(h:Rep K ca θ F d v):Rep K ca θ1 F1 d v:=by cases d <;> first | exact h | (simp[px] at p)
theorem aI.length:∀{ds:List D} {xs:List V},aI K ca θ F ds xs->xs.length=ds.length
 | [],_,h=>by unfold aI at h;rw[h];rfl
 | d::ds,_,h=>by unfold aI at h;obtain⟨v,r,rfl,_,h2⟩:=h;rw[AC,AC,aI.length h2]
theorem aI.get:∀{ds:List D} {xs:List V} {i:Nat} {d:D},aI K ca θ F ds xs->ds[i]? =pr d->∃v,xs[i]? =pr v/\Rep K ca θ F d v
 | [],_,_,_,_,e=>by simp at e
 | d::ds,_,0,_,h,e=>by unfold aI at h;obtain⟨v,r,rfl,h1,_⟩:=h;simp at e;subst e;exact#[v,rfl,h1]
 | d::ds,_,i+1,x,h,e=>by unfold aI at h;obtain⟨v,r,rfl,_,h2⟩:=h;obtain⟨u,e1,e2⟩:=aI.get (i:=i) (d:=x) h2 (by simpa using e);exact#[u,by simpa using e1,e2]
theorem aI.append:∀{ds es:List D} {xs ys:List V},aI K ca θ F ds xs->aI K ca θ F es ys->aI K ca θ F (ds++es) (xs++ys)
 | [],_,_,_,h,k=>by unfold aI at h;rw[h];exact k
 | d::ds,_,_,_,h,k=>by unfold aI at h;obtain⟨v,r,rfl,h1,h2⟩:=h;show aI K ca θ F (d::(ds++_)) (v::(r++_));unfold aI;exact#[v,_,rfl,h1,aI.append h2 k]
theorem aI.one(h:Rep K ca θ F d v):aI K ca θ F [d] [v]:=by unfold aI;exact#[v,[],rfl,h,by unfold aI;rfl]
theorem aI.nil:aI K ca θ F [] []:=by unfold aI;rfl
theorem aI.cons(h:Rep K ca θ F d v)(k:aI K ca θ F ds xs):aI K ca θ F (d::ds) (v::xs):=by unfold aI;exact#[v,xs,rfl,h,k]
theorem aI.take:∀{ds:List D} {xs:List V} (n:Nat),aI K ca θ F ds xs->aI K ca θ F (ds.take n) (xs.take n)
 | _,_,0,_=>by simp;exact aI.nil
 | [],_,n+1,h=>by unfold aI at h;rw[h];exact aI.nil
 | d::ds,_,n+1,h=>by unfold aI at h;obtain⟨v,r,rfl,h1,h2⟩:=h;exact aI.cons h1 (aI.take n h2)
theorem aI.drop:∀{ds:List D} {xs:List V} (n:Nat),aI K ca θ F ds xs->aI K ca θ F (ds.drop n) (xs.drop n)
 | _,_,0,h=>h
 | [],_,n+1,h=>by unfold aI at h;rw[h];exact aI.nil
 | d::ds,_,n+1,h=>by unfold aI at h;obtain⟨v,r,rfl,h1,h2⟩:=h;exact aI.drop n h2
theorem aI.set{d:D}{v:V}(h:Rep K ca θ F d v):∀{ds:List D} {xs:List V} (i:Nat),aI K ca θ F ds xs->aI K ca θ F (ds.set i d) (xs.set i v)
 | [],_,_,k=>by unfold aI at k;rw[k];exact aI.nil
 | _::_,_,0,k=>by unfold aI at k;obtain⟨v,r,rfl,h1,h2⟩:=k;exact aI.cons h h2
 | _::_,_,i+1,k=>by unfold aI at k;obtain⟨v,r,rfl,h1,h2⟩:=k;exact aI.cons h1 (aI.set h i h2)
end
structure Stp(H F:Hp)(θ:List sK)(H1 F1:Hp)(θ1:List sK):Prop where
 ff:cg F F1
 th:∃r,θ1=θ++r/\∀a∈r,H a=qh
 kp:∀b o,H b=pr o->b∉θ->H1 b=pr o
 al:∀b o,H b=pr o->∃o',H1 b=pr o'
 nf:∀b o,F1 b=pr o->F b=pr o\/H b=qh\/b∈θ
theorem Stp.refl:Stp H F θ H F θ:=#[cg.refl _,#[[],by simp,by simp],λ_ _ h _=>h,λ_ o h=>#[o,h],λ_ _ h=>.inl h]
theorem Stp.pre(x:Stp H F θ H1 F1 θ1):∃r,θ1=θ++r:=let #[r,e,_]:=x.th;#[r,e]
theorem Stp.trans{H F H1 F1 H2 Y:Hp}{θ θ1 θ2:List sK}(x:Stp H F θ H1 F1 θ1)(y:Stp H1 F1 θ1 H2 Y θ2):Stp H F θ H2 Y θ2:=by
 obtain⟨r,rfl,hr⟩:=x.th;obtain⟨r2,rfl,J⟩:=y.th;refine#[x.ff.trans y.ff,#[r++r2,by rw[Ta],λa ha=> ?_],λb o h hb=> ?_,λb o h=> ?_,λb o h=> ?_];rcases xz.mp ha with z | z
 exact hr a z;cases e:H a with
 | none=>rfl
 | some o=>
  obtain⟨o',e'⟩:=x.al a o e;rw[J a z] at e';cases e'
 refine y.kp b o (x.kp b o h hb) λhm=> ?_;rcases xz.mp hm with z | z
 exact hb z;rw[hr b z] at h;cases h;obtain⟨o',e'⟩:=x.al b o h;exact y.al b o' e';rcases y.nf b o h with z | z | z
 exact x.nf b o z;refine .inr (.inl ?_);cases e:H b with
 | none=>rfl
 | some o'=>
  obtain⟨o2,e2⟩:=x.al b o' e;rw[z] at e2;cases e2
 rcases xz.mp z with q | q;exact .inr (.inr q);exact .inr (.inl (hr b q))
def kz(K:uY)(ca:Nat->sK)(H F:Hp)(θ:List sK)(a:sK):Cell->Prop
 | .dead=>∃o,H a=pr o
 | .lst ds=>F a=qh/\∃xs,H a=pr (.lst xs)/\aI K ca θ F ds xs
 | .ins c ns ds=>F a=qh/\∃dx xs,H a=pr (.ins (ca c) dx (ns.zip xs))/\ns.length=xs.length/\aI K ca θ F ds xs
theorem kz.there{c:Cell}(h:kz K ca H F θ a c):∃o,H a=pr o:=by
 cases c with
 | dead=>exact h
 | lst ds=>obtain⟨_,xs,e,_⟩:=h;exact#[_,e]
 | ins c ns ds=>obtain⟨_,dx,xs,e,_⟩:=h;exact#[_,e]
structure Now(K:uY)(ca:Nat->sK)(H F:Hp)(θ:List sK)(O:aD):Prop where
 fh:cg F H
 nd:θ.Nodup
 ln:θ.length=O.length
 ce:∀(k:Nat) a c,θ[k]? =pr a->O[k]? =pr c->kz K ca H F θ a c
theorem Now.there(n:Now K ca H F θ O)(h:a∈θ):∃o,H a=pr o:=by
 obtain⟨k,hk,e⟩:=SX h;have h1:θ[k]? =pr a:=by rw[ut hk,e]
 have h2:∃c,O[k]? =pr c:=#[O[k]'(by rw[<- n.ln];exact hk),ut _];obtain⟨c,h2⟩:=h2;exact(n.ce k a c h1 h2).there
theorem Now.nil(h:cg F H):Now K ca H F [] []:=#[h,Xo,rfl,λk a c e _=>by simp at e]
structure BS(K:uY)(ca:Nat->sK)(σ:St)(H F:Hp)(θ:List sK)(s:S):Prop where
 now:Now K ca H F θ s.o
 len:σ.length=s.r.length
 sl:∀(i:Nat) d,s.r[i]? =pr (pr d)->∃v,σ[i]? =pr (pr v)/\Rep K ca θ F d v
theorem BS.newF{σ:St}(b:BS K ca σ H F θ s){p:sK}(hp:H p=qh)(o:HO):
 Stp H F θ (upd H p o) (upd F p o) θ/\BS K ca σ (upd H p o) (upd F p o) θ s/\cg F (upd F p o)/\upd F p o p=pr o:=by
 have nm:∀a u,H a=pr u->a≠p:=λa u e z=>by rw[z,hp] at e;cases e
 have fp:F p=none:=by
  cases e:F p with
  | none=>rfl
  | some u=>rw[b.now.fh p u e] at hp;cases hp
 have J:cg F (upd F p o):=λa u e=>by rw[aZ (nm a u (b.now.fh a u e))];exact e
 have Y:cg H (upd H p o):=λa u e=>by rw[aZ (nm a u e)];exact e
 refine#[#[J,#[[],by simp,by simp],λa u e _=>Y a u e,λa u e=>#[u,Y a u e],λa u e=> ?_],#[#[λa u e=> ?_,b.now.nd,b.now.ln,λk a c e1 e2=> ?_],b.len,λi d e=> ?_],J,dg];by_cases h:a=p;subst h;exact .inr (.inl hp);rw[aZ h] at e;exact .inl e;by_cases h:a=p;subst h;rw[dg] at e ⊢;exact e;rw[aZ h] at e ⊢;exact b.now.fh a u e;have q:=b.now.ce k a c e1 e2;obtain⟨u,hu⟩:=q.there;have ne:=nm a u hu;cases c with
 | dead=>exact#[u,Y a u hu]
 | lst ds=>
  obtain⟨q1,xs,q2,q3⟩:=q;exact#[by rw[aZ ne];exact q1,xs,Y _ _ q2,q3.mono J #[[],by simp]]
 | ins c ns ds=>
  obtain⟨q1,dx,xs,q2,q3,q4⟩:=q;exact#[by rw[aZ ne];exact q1,dx,xs,Y _ _ q2,q3,q4.mono J #[[],by simp]]
 obtain⟨v,h1,h2⟩:=b.sl i d e;exact#[v,h1,h2.mono J #[[],by simp]]
theorem BS.newC{σ:St}(b:BS K ca σ H F θ s){p:sK}(hp:H p=qh)(hr:aI K ca θ F ds xs):
 Stp H F θ (upd H p (.lst xs)) F (θ++[p])/\BS K ca σ (upd H p (.lst xs)) F (θ++[p]) #[s.r,s.o++[.lst ds]]/\Rep K ca (θ++[p]) F (.ptr s.o.length) (.ref p):=by
 have nm:∀a u,H a=pr u->a≠p:=λa u e z=>by rw[z,hp] at e;cases e
 have fp:F p=none:=by
  cases e:F p with
  | none=>rfl
  | some u=>rw[b.now.fh p u e] at hp;cases hp
 have J:cg H (upd H p (.lst xs)):=λa u e=>by rw[aZ (nm a u e)];exact e
 have pt:p∉θ:=λh=>by obtain⟨u,hu⟩:=b.now.there h;rw[hp] at hu;cases hu
 refine#[#[cg.refl _,#[[p],rfl,by simpa using hp],λa u e _=>J a u e,λa u e=>#[u,J a u e],λa u e=>.inl e],#[#[b.now.fh.trans J, ?_, ?_,λk a c e1 e2=> ?_],b.len,λi d e=> ?_], ?_];refine Ue.mpr #[b.now.nd,by simp,λa ha x hx=> ?_];rw[ww.mp hx];rintro rfl;exact pt ha;simp[b.now.ln];by_cases hk:k<θ.length;rw[AT hk] at e1;rw[AT (by rw[<- b.now.ln];exact hk)] at e2;have q:=b.now.ce k a c e1 e2;obtain⟨u,hu⟩:=q.there;cases c with
 | dead=>exact#[u,J a u hu]
 | lst ds=>
  obtain⟨q1,ys,q2,Y⟩:=q;exact#[q1,ys,J _ _ q2,Y.mono (cg.refl _) #[[p],rfl]]
 | ins c ns ds=>
  obtain⟨q1,dx,ys,q2,Y,q4⟩:=q;exact#[q1,dx,ys,J _ _ q2,Y,q4.mono (cg.refl _) #[[p],rfl]]
 have ab:k<(θ++[p]).length:=(Ch.mp e1).1;have ac:k=θ.length:=by simp at ab;omega
 subst ac;rw[wP (wS _)] at e1;rw[wP (by rw[b.now.ln];exact wS _),b.now.ln] at e2;simp at e1 e2;subst e1;subst e2;exact#[fp,xs,dg,hr.mono (cg.refl _) #[[p],rfl]];obtain⟨v,h1,h2⟩:=b.sl i d e;exact#[v,h1,h2.mono (cg.refl _) #[[p],rfl]];unfold Rep;exact#[p,rfl,by rw[<- b.now.ln];simp]
theorem BS.set{σ:St}(b:BS K ca σ H F θ s)(h:Rep K ca θ F d v)(i:Nat):BS K ca (σ.set i (pr v)) H F θ #[s.r.set i (pr d),s.o]:=by
 refine#[b.now,by simp[b.len],λj e Y=> ?_];by_cases J:i=j;subst J;have ab:i<s.r.length:=by have:=(Ch.mp Y).1;simpa using this
 rw[S6 ab] at Y;cases Y;exact#[v,S6 (by rw[b.len];exact ab),h];rw[Tc J] at Y;obtain⟨u,h1,h2⟩:=b.sl j e Y;exact#[u,by rw[Tc J];exact h1,h2]
abbrev EM:=S->Res (D×S)
abbrev AM:=S->Res (List D×S)
inductive Out where
 | next (s:S) | ret (d:D) (s:S) | brk (s:S) | cnt (s:S) | exc (c:Nat) (a:D) (o:S) | bad
abbrev SM:=S->Out
def PoR{α:Type}(C:Ct)(H F:Hp)(θ:List sK)(x:Res α)(k:α->Hp->Hp->List sK->Prop):Prop:=match x with
 | .ok a=>∀H1 F1 θ1,Stp H F θ H1 F1 θ1->k a H1 F1 θ1
 | .exc c a o=>∀H1 F1 θ1,Stp H F θ H1 F1 θ1->Now C.K C.ca H1 F1 θ1 o.o->C.W c a o H1 F1 θ1
 | .bad=>False
abbrev PoE(C:Ct)(σ:St)(H F:Hp)(θ:List sK)(x:Res (D×S))(Q:VK):Prop:=
 PoR C H F θ x λy H1 F1 θ1=>BS C.K C.ca σ H1 F1 θ1 y.2->∀v,Rep C.K C.ca θ1 F1 y.1 v->Q v H1
abbrev PoA(C:Ct)(σ:St)(H F:Hp)(θ:List sK)(x:Res (List D×S))(Q:List V->Hp->Prop):Prop:=
 PoR C H F θ x λy H1 F1 θ1=>BS C.K C.ca σ H1 F1 θ1 y.2->∀v,aI C.K C.ca θ1 F1 y.1 v->Q v H1
abbrev PoT(C:Ct)(σ:St)(H F:Hp)(θ:List sK)(x:Res (Bool×S))(Q:Bool->Hp->Prop):Prop:=
 PoR C H F θ x λy H1 F1 θ1=>BS C.K C.ca σ H1 F1 θ1 y.2->Q y.1 H1
abbrev PoG(C:Ct)(H F:Hp)(θ:List sK)(x:Res S)(Q:St->Hp->Prop):Prop:=
 PoR C H F θ x λy H1 F1 θ1=>∀J,BS C.K C.ca J H1 F1 θ1 y->Q J H1
def PoS(C:Ct)(H F:Hp)(θ:List sK)(x:Out)(Q:Ends):Prop:=match x with
 | .next s1=>∀J H1 F1 θ1,Stp H F θ H1 F1 θ1->BS C.K C.ca J H1 F1 θ1 s1->Q.nx J H1
 | .ret d s1=>∀v J H1 F1 θ1,Stp H F θ H1 F1 θ1->BS C.K C.ca J H1 F1 θ1 s1->Rep C.K C.ca θ1 F1 d v->Q.rt v H1
 | .brk s1=>∀J H1 F1 θ1,Stp H F θ H1 F1 θ1->BS C.K C.ca J H1 F1 θ1 s1->Q.bk J H1
 | .cnt s1=>∀J H1 F1 θ1,Stp H F θ H1 F1 θ1->BS C.K C.ca J H1 F1 θ1 s1->Q.ct J H1
 | .exc c a o=>∀H1 F1 θ1,Stp H F θ H1 F1 θ1->Now C.K C.ca H1 F1 θ1 o.o->C.W c a o H1 F1 θ1
 | .bad=>False
theorem PoR.after{α:Type}{x:Res α}{k:α->Hp->Hp->List sK->Prop}(st:Stp H F θ H1 F1 θ1)(p:PoR C H F θ x k):PoR C H1 F1 θ1 x k:=by
 unfold PoR at p ⊢;cases x with
 | ok a=>exact λH2 J θ2 s2=>p H2 J θ2 (st.trans s2)
 | exc c a o=>exact λH2 J θ2 s2 n=>p H2 J θ2 (st.trans s2) n
 | bad=>exact p
theorem PoR.bind {α β:Type} {C:Ct} {H F:Hp} {θ:List sK} {x:Res α} {f:α->Res β} {k:α->Hp->Hp->List sK->Prop} {j:β->Hp->Hp->List sK->Prop}
 (p:PoR C H F θ (x.bind f) j) (h:∀a H1 F1 θ1,x=.ok a->Stp H F θ H1 F1 θ1->PoR C H1 F1 θ1 (f a) j->k a H1 F1 θ1):PoR C H F θ x k:=by
 cases x with
 | ok a=>exact λH1 F1 θ1 st=>h a H1 F1 θ1 rfl st (PoR.after st p)
 | exc c a o=>exact p
 | bad=>exact p
theorem PoS.after{x:Out}{Q:Ends}(st:Stp H F θ H1 F1 θ1)(p:PoS C H F θ x Q):PoS C H1 F1 θ1 x Q:=by
 unfold PoS at p ⊢;cases x with
 | next s=>exact λv H2 J θ2 s2 b=>p v H2 J θ2 (st.trans s2) b
 | ret d s=>exact λv Y H2 J θ2 s2 b r=>p v Y H2 J θ2 (st.trans s2) b r
 | brk s=>exact λv H2 J θ2 s2 b=>p v H2 J θ2 (st.trans s2) b
 | cnt s=>exact λv H2 J θ2 s2 b=>p v H2 J θ2 (st.trans s2) b
 | exc c a o=>exact λH2 J θ2 s2 n=>p H2 J θ2 (st.trans s2) n
 | bad=>exact p
def Res.out{α:Type}(x:Res α)(f:α->Out):Out:=match x with
 | .ok a=>f a
 | .exc c a o=>.exc c a o
 | .bad=>.bad
@[simp] theorem lH {α:Type} {a:α} {f:α->Out}:(Res.ok a).out f=f a:=rfl
@[simp] theorem RD {α:Type} (c:Nat) (a:D) (o:S) (f:α->Out):(Res.exc c a o:Res α).out f=.exc c a o:=rfl
@[simp] theorem RX {α:Type} (f:α->Out):(Res.bad:Res α).out f=.bad:=rfl
theorem PoS.out {α:Type} {C:Ct} {H F:Hp} {θ:List sK} {x:Res α} {f:α->Out} {k:α->Hp->Hp->List sK->Prop} {Q:Ends}
 (p:PoS C H F θ (x.out f) Q) (h:∀a H1 F1 θ1,x=.ok a->Stp H F θ H1 F1 θ1->PoS C H1 F1 θ1 (f a) Q->k a H1 F1 θ1):PoR C H F θ x k:=by
 cases x with
 | ok a=>exact λH1 F1 θ1 st=>h a H1 F1 θ1 rfl st (PoS.after st p)
 | exc c a o=>exact p
 | bad=>exact p
def RdE(C:Ct)(t:TE)(m:EM):Prop:=∀σ H F θ s Q,BS C.K C.ca σ H F θ s->PoE C σ H F θ (m s) Q->t σ H Q
def RdA(C:Ct)(t:TA)(m:AM):Prop:=∀σ H F θ s Q,BS C.K C.ca σ H F θ s->PoA C σ H F θ (m s) Q->t σ H Q
abbrev TM:=S->Res (Bool×S)
def RdT(C:Ct)(t:TT)(m:TM):Prop:=∀σ H F θ s Q,BS C.K C.ca σ H F θ s->PoT C σ H F θ (m s) Q->t σ H Q
abbrev GM:=D->S->Res S
def RdG(C:Ct)(t:TG)(m:GM):Prop:=∀σ H F θ s d v Q,BS C.K C.ca σ H F θ s->Rep C.K C.ca θ F d v->PoG C H F θ (m d s) Q->t v σ H Q
def RdS(C:Ct)(t:TS)(m:SM):Prop:=∀σ H F θ s Q,BS C.K C.ca σ H F θ s->PoS C H F θ (m s) Q->t Q σ H
section
variable {C : Ct}
@[simp] theorem gD {K ca θ F v}:Rep K ca θ F .non v↔v=.non:=by unfold Rep;exact WK
@[simp] theorem cM {K ca θ F v b}:Rep K ca θ F (.bl b) v↔v=.bl b:=by unfold Rep;exact WK
@[simp] theorem bH {K ca θ F v i}:Rep K ca θ F (.int i) v↔v=.int i:=by unfold Rep;exact WK
@[simp] theorem dM {K ca θ F v x}:Rep K ca θ F (.str x) v↔v=.str x:=by unfold Rep;exact WK
def aa(i:Nat):EM:=λs=>match s.r[i]? with
 | some (pr d)=>.ok (d,s)
 | _=>.bad
theorem af(i:Nat):RdE C (KA i) (aa i):=by intro σ H F θ s Q b p;unfold aa at p;split at p;rename_i d e;obtain⟨v,h1,h2⟩:=b.sl i d e;exact#[v,h1,p H F θ .refl b v h2];exact p.elim
def au(d:D):EM:=λs=>.ok (d,s)
theorem aE(i:Int):RdE C (tC (.int i)) (au (.int i)):=λσ H F θ s Q b p=>p H F θ .refl b (.int i) (bH.mpr rfl)
theorem qU(i:Bool):RdE C (tC (.bl i)) (au (.bl i)):=λσ H F θ s Q b p=>p H F θ .refl b (.bl i) (cM.mpr rfl)
theorem qi(i:Str):RdE C (tC (.str i)) (au (.str i)):=λσ H F θ s Q b p=>p H F θ .refl b (.str i) (dM.mpr rfl)
theorem tj:RdE C (tC .non) (au .non):=λσ H F θ s Q b p=>p H F θ .refl b .non (gD.mpr rfl)
abbrev Op2:=aD->D->D->Res D
abbrev Op1:=aD->D->Res D
def ie(C:Ct)(r:R2)(f:Op2):Prop:=∀σ H F θ s x y v w Q,BS C.K C.ca σ H F θ s->Rep C.K C.ca θ F x v->Rep C.K C.ca θ F y w->
 PoE C σ H F θ ((f s.o x y).bind λd=>.ok (d,s)) Q->r v w H Q
def ao(f:Op2)(ma mb:EM):EM:=λs=>(ma s).bind λx=>(mb x.2).bind λy=>(f y.2.o x.1 y.1).bind λd=>.ok (d,y.2)
theorem av{r:R2}{f:Op2}{ta tb:TE}{ma mb:EM}(Y:ie C r f)(ha:RdE C ta ma)(hb:RdE C tb mb):RdE C (tOp r ta tb) (ao f ma mb):=by intro σ H F θ s Q b p;refine ha σ H F θ s _ b (PoR.bind p ?_);rintro ⟨x,s1⟩ H1 F1 θ1 _ ab p1 b1 v r1;refine hb σ H1 F1 θ1 s1 _ b1 (PoR.bind p1 ?_);rintro ⟨y,s2⟩ H2 F2 θ2 _ J p2 b2 w r2;exact Y σ H2 F2 θ2 s2 x y v w Q b2 (r1.mono J.ff J.pre) r2 p2
def OS(C:Ct)(r:V->Hp->VK->Prop)(f:Op1):Prop:=∀σ H F θ s x v Q,BS C.K C.ca σ H F θ s->Rep C.K C.ca θ F x v->
 PoE C σ H F θ ((f s.o x).bind λd=>.ok (d,s)) Q->r v H Q
def unM(f:Op1)(ma:EM):EM:=λs=>(ma s).bind λx=>(f x.2.o x.1).bind λd=>.ok (d,x.2)
theorem rk{r:V->Hp->VK->Prop}{f:Op1}{ta:TE}{ma:EM}(J:OS C r f)(ha:RdE C ta ma):RdE C (tUn r ta) (unM f ma):=by intro σ H F θ s Q b p;refine ha σ H F θ s _ b (PoR.bind p ?_);rintro ⟨x,s1⟩ H1 F1 θ1 _ Y p1 b1 v r1;exact J σ H1 F1 θ1 s1 x v Q b1 r1 p1
def ak:AM:=λs=>.ok ([],s)
def ae(m:EM)(r:AM):AM:=λs=>(m s).bind λx=>(r x.2).bind λy=>.ok (x.1::y.1,y.2)
theorem ar:RdA C o5 ak:=λσ H F θ s Q b p=>p H F θ .refl b [] aI.nil
theorem ai{r:AM}(Y:RdE C te m)(ha:RdA C ta r):RdA C (kR te ta) (ae m r):=by intro σ H F θ s Q b p;refine Y σ H F θ s _ b (PoR.bind p ?_);rintro ⟨x,s1⟩ H1 F1 θ1 _ ab p1 b1 v r1;refine ha σ H1 F1 θ1 s1 _ b1 (PoR.bind p1 ?_);rintro ⟨y,s2⟩ H2 F2 θ2 _ J p2 b2 w r2;exact p2 H2 F2 θ2 .refl b2 (v::w) (aI.cons (r1.mono J.ff J.pre) r2)
abbrev OpN:=aD->List D->Res D
def jA(C:Ct)(r:List V->Hp->VK->Prop)(f:OpN):Prop:=∀σ H F θ s xs vs Q,BS C.K C.ca σ H F θ s->aI C.K C.ca θ F xs vs->
 PoE C σ H F θ ((f s.o xs).bind λd=>.ok (d,s)) Q->r vs H Q
def a8(f:OpN)(ma:AM):EM:=λs=>(ma s).bind λx=>(f x.2.o x.1).bind λd=>.ok (d,x.2)
theorem a7{r:List V->Hp->VK->Prop}{f:OpN}(hc:jA C r f)(ha:RdA C ta ma):RdE C (tCB r ta) (a8 f ma):=by intro σ H F θ s Q b p;refine ha σ H F θ s _ b (PoR.bind p ?_);rintro ⟨x,s1⟩ H1 F1 θ1 _ J p1 Y v r1;exact hc σ H1 F1 θ1 s1 x v Q Y r1 p1
def jT(ma:AM):EM:=λs=>(ma s).bind λx=>if x.1.length<=16777216 then .ok (.tup x.1,x.2) else .bad
theorem kj(ha:RdA C ta ma):RdE C (O7 ta) (jT ma):=by intro σ H F θ s Q b p;refine ha σ H F θ s _ b (PoR.bind p ?_);rintro ⟨x,s1⟩ H1 F1 θ1 _ Y p1 b1 v J;dsimp only at p1;split at p1;rename_i hl;refine#[by rw[J.length];exact hl,λq hq=> ?_];obtain⟨st,b2,sF,e⟩:=b1.newF hq (.tup v);refine p1 _ _ _ st b2 _ ?_;unfold Rep;exact#[q,v,rfl,SqT.of e,J.mono sF #[[],by simp]];exact p1.elim
def iT(ma:AM):EM:=λs=>(ma s).bind λx=>if x.1.length<=16777216 then .ok (.lst x.1,x.2) else .bad
theorem oQ(ha:RdA C ta ma):RdE C (ER ta) (iT ma):=by intro σ H F θ s Q b p;refine ha σ H F θ s _ b (PoR.bind p ?_);rintro ⟨x,s1⟩ H1 F1 θ1 _ Y p1 b1 v J;dsimp only at p1;split at p1;rename_i hl;refine#[by rw[J.length];exact hl,λq hq=> ?_];obtain⟨st,b2,sF,e⟩:=b1.newF hq (.lst v);refine p1 _ _ _ st b2 _ ?_;unfold Rep;exact#[q,v,rfl,SqL.of e,J.mono sF #[[],by simp]];exact p1.elim
def jk(ma:AM):EM:=λs=>(ma s).bind λx=>if x.1.length<=16777216 then .ok (.ptr x.2.o.length,#[x.2.r,x.2.o++[.lst x.1]]) else .bad
theorem jK(ha:RdA C ta ma):RdE C (ER ta) (jk ma):=by intro σ H F θ s Q b p;refine ha σ H F θ s _ b (PoR.bind p ?_);rintro ⟨x,s1⟩ H1 F1 θ1 _ Y p1 b1 v J;dsimp only at p1;split at p1;rename_i hl;refine#[by rw[J.length];exact hl,λq hq=> ?_];obtain⟨st,b2,rp⟩:=b1.newC hq J;exact p1 _ _ _ st b2 _ rp;exact p1.elim
def a9(m:EM):TM:=λs=>(m s).bind λx=>match x.1 with
 | .bl b=>.ok (b,x.2)
 | _=>.bad
theorem bP(h:RdE C t m):RdT C (Ii t) (a9 m):=by
 intro σ H F θ s Q b p;refine h σ H F θ s _ b (PoR.bind p ?_);rintro ⟨x,s1⟩ H1 F1 θ1 _ J p1 Y v r1;cases x <;> first | exact sH p1 | skip
 rename_i k _;exact#[k,cM.mp r1,p1 _ _ _ .refl Y]
theorem kX(h:RdE C t m):RdT C (tB t) (a9 m):=bP h
def o8(a b:TM):TM:=λs=>(a s).bind λx=>if x.1 then b x.2 else .ok (xL,x.2)
def orT(a b:TM):TM:=λs=>(a s).bind λx=>if x.1 then .ok (ss,x.2) else b x.2
def pb(a:TM):TM:=λs=>(a s).bind λx=>.ok (!x.1,x.2)
theorem zG{t u:TT}{a b:TM}(ha:RdT C t a)(hb:RdT C u b):RdT C (Pg t u) (o8 a b):=by
 intro σ H F θ s Q bs p;refine ha σ H F θ s _ bs (PoR.bind p ?_);rintro ⟨x,s1⟩ H1 F1 θ1 _ Y p1 J;cases x with
 | true=>exact tK (hb σ H1 F1 θ1 s1 Q J p1)
 | false=>exact t8 (p1 _ _ _ .refl J)
theorem tZ{t u:TT}{a b:TM}(ha:RdT C t a)(hb:RdT C u b):RdT C (tOr t u) (orT a b):=by
 intro σ H F θ s Q bs p;refine ha σ H F θ s _ bs (PoR.bind p ?_);rintro ⟨x,s1⟩ H1 F1 θ1 _ Y p1 J;cases x with
 | true=>exact tK (p1 _ _ _ .refl J)
 | false=>exact t8 (hb σ H1 F1 θ1 s1 Q J p1)
theorem qp{t:TT}{a:TM}(ha:RdT C t a):RdT C (Qb t) (pb a):=by intro σ H F θ s Q bs p;refine ha σ H F θ s _ bs (PoR.bind p ?_);rintro ⟨x,s1⟩ H1 F1 θ1 _ J p1 Y;exact p1 _ _ _ .refl Y
def EK(a b:EM):EM:=λs=>(a s).bind λx=>match x.1 with
 | .bl ss=>b x.2
 | .bl xL=>.ok (.bl xL,x.2)
 | _=>.bad
def orV(a b:EM):EM:=λs=>(a s).bind λx=>match x.1 with
 | .bl ss=>.ok (.bl ss,x.2)
 | .bl xL=>b x.2
 | _=>.bad
def KY(a:EM):EM:=λs=>(a s).bind λx=>match x.1 with
 | .bl k=>.ok (.bl (!k),x.2)
 | _=>.bad
theorem GR{t u:TE}{a b:EM}(ha:RdE C t a)(hb:RdE C u b):RdE C (Mx t u) (EK a b):=by
 intro σ H F θ s Q bs p;refine ha σ H F θ s _ bs (PoR.bind p ?_);rintro ⟨x,s1⟩ H1 F1 θ1 _ Y p1 J v r1;cases x <;> first | exact sH p1 | skip
 rename_i k _;refine#[k,cM.mp r1, ?_];cases k with
 | true=>exact tK (hb σ H1 F1 θ1 s1 Q J p1)
 | false=>exact t8 (p1 _ _ _ .refl J _ (cM.mpr rfl))
theorem Qh{t u:TE}{a b:EM}(ha:RdE C t a)(hb:RdE C u b):RdE C (Pa t u) (orV a b):=by
 intro σ H F θ s Q bs p;refine ha σ H F θ s _ bs (PoR.bind p ?_);rintro ⟨x,s1⟩ H1 F1 θ1 _ Y p1 J v r1;cases x <;> first | exact sH p1 | skip
 rename_i k _;refine#[k,cM.mp r1, ?_];cases k with
 | true=>exact tK (p1 _ _ _ .refl J _ (cM.mpr rfl))
 | false=>exact t8 (hb σ H1 F1 θ1 s1 Q J p1)
theorem NI{a:EM}(ha:RdE C t a):RdE C (MF t) (KY a):=by
 intro σ H F θ s Q bs p;refine ha σ H F θ s _ bs (PoR.bind p ?_);rintro ⟨x,s1⟩ H1 F1 θ1 _ J p1 Y v r1;cases x <;> first | exact sH p1 | skip
 rename_i k _;exact#[k,cM.mp r1,p1 _ _ _ .refl Y _ (cM.mpr rfl)]
def ifM(c:TM)(a b:EM):EM:=λs=>(c s).bind λx=>if x.1 then a x.2 else b x.2
def Out.then(x:Out)(f:S->Out):Out:=match x with
 | .next s=>f s
 | o=>o
@[simp] theorem BW {f:S->Out}:(Out.next s).then f=f s:=rfl
@[simp] theorem Ra (d:D) (s:S) (f:S->Out):(Out.ret d s).then f=.ret d s:=rfl
@[simp] theorem Q6 (s:S) (f:S->Out):(Out.brk s).then f=.brk s:=rfl
@[simp] theorem Rt (s:S) (f:S->Out):(Out.cnt s).then f=.cnt s:=rfl
@[simp] theorem Q7 (c:Nat) (a:D) (o:S) (f:S->Out):(Out.exc c a o).then f=.exc c a o:=rfl
@[simp] theorem Q8 (f:S->Out):Out.bad.then f=.bad:=rfl
def aP(a b:SM):SM:=λs=>(a s).then b
def bX:SM:=λs=>.next s
theorem bN:RdS C MB bX:=λσ H F θ s Q b p=>p σ H F θ .refl b
theorem aH{t u:TS}{a b:SM}(ha:RdS C t a)(hb:RdS C u b):RdS C (Qg t u) (aP a b):=by
 intro σ H F θ s Q bs p;refine ha σ H F θ s _ bs ?_;unfold aP at p;cases e:a s with
 | next s1=>
  rw[e] at p;intro J H1 F1 θ1 Y b1;exact hb J H1 F1 θ1 s1 Q b1 (PoS.after Y p)
 | ret d s1=>rw[e] at p;exact p
 | brk s1=>rw[e] at p;exact p
 | cnt s1=>rw[e] at p;exact p
 | exc c a o=>rw[e] at p;exact p
 | bad=>rw[e] at p;exact p
def dA(m:EM):SM:=λs=>(m s).out λx=>.next x.2
theorem dv(h:RdE C t m):RdS C (MM t) (dA m):=by intro σ H F θ s Q b p;refine h σ H F θ s _ b (PoS.out p ?_);rintro ⟨x,s1⟩ H1 F1 θ1 _ J p1 Y v r1;exact p1 σ H1 F1 θ1 .refl Y
def bQ(m:EM):SM:=λs=>(m s).out λx=>.ret x.1 x.2
theorem ba(h:RdE C t m):RdS C (Qs t) (bQ m):=by intro σ H F θ s Q b p;refine h σ H F θ s _ b (PoS.out p ?_);rintro ⟨x,s1⟩ H1 F1 θ1 _ J p1 Y v r1;exact p1 v σ H1 F1 θ1 .refl Y r1
def Q4:SM:=λs=>.ret .non s
def ifS(c:TM)(a b:SM):SM:=λs=>(c s).out λx=>if x.1 then a x.2 else b x.2
theorem cJ{t:TT}{u w:TS}{c:TM}{a b:SM}(hc:RdT C t c)(ha:RdS C u a)(hb:RdS C w b):RdS C (OY t u w) (ifS c a b):=by
 intro σ H F θ s Q bs p;refine hc σ H F θ s _ bs (PoS.out p ?_);rintro ⟨x,s1⟩ H1 F1 θ1 _ Y p1 J;cases x with
 | true=>exact tK (ha σ H1 F1 θ1 s1 Q J p1)
 | false=>exact t8 (hb σ H1 F1 θ1 s1 Q J p1)
def jV:SM:=λ_=>.bad
theorem eT:RdS C Jq jV:=λσ H F θ s Q b p=>p
def aA(i:Nat):GM:=λd s=>.ok #[s.r.set i (pr d),s.o]
theorem aK(i:Nat):RdG C (xx i) (aA i):=λσ H F θ s d v Q b r p=>p H F θ .refl _ (b.set r i)
def Ig(C:Ct)(t:TGs)(m:List D->S->Res S):Prop:=∀σ H F θ s ds vs Q,BS C.K C.ca σ H F θ s->aI C.K C.ca θ F ds vs->PoG C H F θ (m ds s) Q->t vs σ H Q
def cL:List D->S->Res S:=λds s=>match ds with
 | []=>.ok s
 | _=>.bad
def aT(g:GM)(r:List D->S->Res S):List D->S->Res S:=λds s=>match ds with
 | d::ds=>(g d s).bind λs1=>r ds s1
 | []=>.bad
theorem dW:Ig C Po cL:=by
 intro σ H F θ s ds vs Q b r p;cases ds with
 | nil=>exact#[by unfold aI at r;exact r,p H F θ .refl σ b]
 | cons d ds=>exact sH p
theorem br{t:TG}{u:TGs}{g:GM}{m:List D->S->Res S}(hg:RdG C t g)(hr:Ig C u m):Ig C (MC t u) (aT g m):=by
 intro σ H F θ s ds vs Q b r p;cases ds with
 | nil=>exact sH p
 | cons d ds=>
  unfold aI at r;obtain⟨v,w,rfl,r1,r2⟩:=r;refine#[v,w,rfl,hg σ H F θ s d v _ b r1 (PoR.bind p ?_)];intro s1 H1 F1 θ1 _ J p1 Y b1;exact hr Y H1 F1 θ1 s1 ds w Q b1 (r2.mono J.ff J.pre) p1
def cH(m:List D->S->Res S)(n:Nat):GM:=λd s=>match d with
 | .tup ds=>if ds.length=n then m ds s else .bad
 | _=>.bad
theorem d0{t:TGs}{m:List D->S->Res S}(h:Ig C t m):RdG C (Py C.K n t) (cH m n):=by
 intro σ H F θ s d v Q b r p;cases d <;> first | exact sH p | skip
 rename_i ds;unfold Rep at r;obtain⟨a,xs,rfl,hs,hr⟩:=r;unfold cH at p;dsimp only at p;split at p;rename_i J;exact#[a,xs,rfl,cg.seqT b.now.fh hs,by rw[hr.length];exact J,h σ H F θ s ds xs Q b hr p];exact sH p
def kL(m:EM)(g:GM):SM:=λs=>((m s).bind λx=>g x.1 x.2).out λs=>.next s
theorem vk(h:RdE C t m)(hg:RdG C g gm):RdS C (EC t g) (kL m gm):=by intro σ H F θ s Q b p;have p':PoG C H F θ ((m s).bind λx=>gm x.1 x.2) Q.nx:=PoS.out p λs1 H1 F1 θ1 _ J p1 Y b1=>p1 Y H1 F1 θ1 .refl b1;refine h σ H F θ s _ b (PoR.bind p' ?_);rintro ⟨x,s1⟩ H1 F1 θ1 _ J p1 b1 v r1;exact hg σ H1 F1 θ1 s1 x v Q.nx b1 r1 p1
abbrev setM(i:Nat)(m:EM):SM:=kL m (aA i)
theorem aS(h:RdE C t m):RdS C (EC t (xx i)) (setM i m):=vk h (aK i)
def Ro(i:Nat)(f:Op2)(m:EM):SM:=setM i (ao f (aa i) m)
end
open PySem PySem.Spec PyProof.Rows L2
section
variable {C : Ct}
structure wm(C:Ct)(J:It)(ds:List D)(ok:aD->Prop)(H F:Hp)(θ:List sK):Prop where
 go:∀(i:Nat) H2 F2 θ2 O2,i<ds.length->Stp H F θ H2 F2 θ2->Now C.K C.ca H2 F2 θ2 O2->ok O2->J.go i H2
 yl:∀(i:Nat) d σ H2 F2 θ2 s2 x H3,ds[i]? =pr d->Stp H F θ H2 F2 θ2->BS C.K C.ca σ H2 F2 θ2 s2->ok s2.o->J.yld i H2 x H3->∃F3,Stp H2 F2 θ2 H3 F3 θ2/\BS C.K C.ca σ H3 F3 θ2 s2/\Rep C.K C.ca θ2 F3 d x
 st:∀(i:Nat) H2 F2 θ2 O2,ds.length<=i->Stp H F θ H2 F2 θ2->Now C.K C.ca H2 F2 θ2 O2->ok O2->J.stop i H2
def okC(ds:List D):Option Nat->aD->Prop
 | none,_=>True
 | some k,O=>O[k]? =pr (.lst ds)
abbrev IM:=S->Res ((List D×Option Nat)×S)
def RdI(C:Ct)(wi:TI)(im:IM):Prop:=∀σ H F θ s R,BS C.K C.ca σ H F θ s->
 PoR C H F θ (im s) (λy H1 F1 θ1=>BS C.K C.ca σ H1 F1 θ1 y.2->∀J,wm C J y.1.1 (okC y.1.1 y.1.2) H1 F1 θ1->R J H1)->wi σ H R
open Classical in
noncomputable def cj (ok:aD->Prop)(g:GM)(body:SM):List D->S->Out
 | [],s=>if ok s.o then .next s else .bad
 | d::ds,s=>if ok s.o then (g d s).out λs1=>match body s1 with
  | .next s2=>cj ok g body ds s2
  | .cnt s2=>cj ok g body ds s2
  | .brk s2=>.next s2
  | o=>o
  else .bad
noncomputable def fO (im:IM)(g:GM)(body:SM):SM:=λs=>(im s).out λy=>cj (okC y.1.1 y.1.2) g body y.1.1 y.2
theorem fb{tb:TS}{bm:SM}(hi:RdI C wi im)(hg:RdG C g gm)(hb:RdS C tb bm):RdS C (OG wi g tb) (fO im gm bm):=by
 intro σ H F θ s Q b p;refine hi σ H F θ s _ b (PoS.out p ?_);rintro ⟨⟨ds,k⟩,s1⟩ H1 F1 θ1 _ b7 p1 b1 J it;dsimp only at p1 it b1;refine#[λi m ac H'=>m=ds.length-i/\i<=ds.length/\∃F' Y s',Stp H1 F1 θ1 H' F' Y/\BS C.K C.ca ac H' F' Y s'/\PoS C H' F' Y (cj (okC ds k) gm bm (ds.drop i) s') Q,#[ds.length,by simp,SU _,F1,θ1,s1,.refl,b1,by simpa using p1], ?_];rintro i m ac H' ⟨rfl,cb,F',Y,s',st,bs,po⟩;by_cases lt:i<ds.length
 ·right;rw[S0 lt,cj] at po;split at po
  ·rename_i an;refine#[it.go i H' F' Y s'.o lt st bs.now an,λbb H2=>i+1<=ds.length/\∃F2 θ2 s2,Stp H1 F1 θ1 H2 F2 θ2/\BS C.K C.ca bb H2 F2 θ2 s2/\PoS C H2 F2 θ2 (cj (okC ds k) gm bm (ds.drop (i+1)) s2) Q,λbb H2 n=>#[ds.length-(i+1),⋯,rfl,n], ?_];intro x H3 hy;obtain⟨F3,bd,b3,rp⟩:=it.yl i ds[i] ac H' F' Y s' x H3 (ut lt) st bs an hy;refine hg ac H3 F3 Y s' ds[i] x _ b3 rp (PoS.out (PoS.after bd po) ?_);intro s4 H4 F4 a3 _ bt p4 bv b4;refine hb bv H4 F4 a3 s4 _ b4 ?_;have be:∀s5,PoS C H4 F4 a3 (cj (okC ds k) gm bm (ds.drop (i+1)) s5) Q->∀a4 H5 F5 ap,Stp H4 F4 a3 H5 F5 ap->BS C.K C.ca a4 H5 F5 ap s5->i+1<=ds.length/\∃F2 θ2 s2,Stp H1 F1 θ1 H5 F2 θ2/\BS C.K C.ca a4 H5 F2 θ2 s2/\PoS C H5 F2 θ2 (cj (okC ds k) gm bm (ds.drop (i+1)) s2) Q:=
    λs5 p5 a4 H5 F5 ap bf b5=>#[lt,F5,ap,s5,st.trans (bd.trans (bt.trans bf)),b5,PoS.after bf p5]
   cases e:bm s4 with
   | next s5=>rw[e] at p4;exact be s5 p4
   | cnt s5=>rw[e] at p4;exact be s5 p4
   | brk s5=>rw[e] at p4;exact p4
   | ret d s5=>rw[e] at p4;exact p4
   | exc c a o=>rw[e] at p4;exact p4
   | bad=>rw[e] at p4;exact p4
  exact sH po
 left;rw[Ut ⋯,cj] at po;split at po;rename_i an;exact#[it.st i H' F' Y s'.o ⋯ st bs.now an,po ac H' F' Y .refl bs];exact sH po
def mU(c:TM)(b:SM):Nat->S->Out
 | 0,_=>.bad
 | n+1,s=>(c s).out λx=>if x.1 then (match b x.2 with
  | .next s2=>mU c b n s2
  | .cnt s2=>mU c b n s2
  | .brk s2=>.next s2
  | o=>o) else .next x.2
def Ah(J:S->Nat)(c:TM)(b:SM):SM:=λs=>mU c b (J s) s
theorem LV{tb:TS}{φ:S->Nat}{c:TM}{b:SM}(hc:RdT C tc c)(hb:RdS C tb b):RdS C (IH tc tb) (Ah φ c b):=by
 intro σ H F θ s Q bs p;refine#[λm J H'=>∃F' Y s',BS C.K C.ca J H' F' Y s'/\PoS C H' F' Y (mU c b m s') Q,#[φ s,F,θ,s,bs,p], ?_];rintro m J H' ⟨F',Y,s',b',po⟩;cases m with
 | zero=>exact sH po
 | succ m=>
  rw[mU] at po;refine hc J H' F' Y s' _ b' (PoS.out po ?_);rintro ⟨x,s1⟩ H1 F1 θ1 _ bb p1 b1;cases x with
  | false=>exact t8 (p1 J H1 F1 θ1 .refl b1)
  | true=>
   refine tK #[λam H2=>∃F2 θ2 s2,BS C.K C.ca am H2 F2 θ2 s2/\PoS C H2 F2 θ2 (mU c b m s2) Q,λam H2 n=>#[m,UF _,n], ?_];refine hb J H1 F1 θ1 s1 _ b1 ?_;dsimp only[if_true] at p1;cases e:b s1 with
   | next s5=>rw[e] at p1;exact λaz H5 F5 ab ac b5=>#[F5,ab,s5,b5,PoS.after ac p1]
   | cnt s5=>rw[e] at p1;exact λaz H5 F5 ab ac b5=>#[F5,ab,s5,b5,PoS.after ac p1]
   | brk s5=>rw[e] at p1;exact p1
   | ret d s5=>rw[e] at p1;exact p1
   | exc c a o=>rw[e] at p1;exact p1
   | bad=>rw[e] at p1;exact p1
def itemsOf(O:aD):D->Res (List D×Option Nat)
 | .lst ds=>.ok (ds,qh)
 | .ptr k=>match O[k]? with
  | some (.lst ds)=>.ok (ds,pr k)
  | _=>.bad
 | _=>.bad
def listI(m:EM):IM:=λs=>(m s).bind λx=>(itemsOf x.2.o x.1).bind λy=>.ok (y,x.2)
theorem Pq(hs:SqL C.K F a xs)(hr:aI C.K C.ca θ F ds xs)(inj:∀{σ H2 F2 θ2 s2},Stp H F θ H2 F2 θ2->BS C.K C.ca σ H2 F2 θ2 s2->SqL C.K H2 a xs):
 wm C (Itl C.K a) ds (okC ds qh) H F θ where
 go:=λi H2 F2 θ2 O2 hi st n _=>by obtain⟨x,hx⟩:∃x,xs[i]? =pr x:=#[xs[i]'(by rw[hr.length];exact hi),ut _];exact#[xs,x,n.fh.seq (st.ff.seq hs),hx]
 yl:=λi d σ H2 F2 θ2 s2 x H3 hd st b _ hy=>by obtain⟨rfl,hx⟩:=hy;refine#[F2,.refl,b, ?_];obtain⟨v,h1,h2⟩:=hr.get hd;have:=hx xs (b.now.fh.seq (st.ff.seq hs));rw[h1] at this;cases this;exact h2.mono st.ff st.pre
 st:=λi H2 F2 θ2 O2 hi st n _=>#[xs,n.fh.seq (st.ff.seq hs),by rw[hr.length];exact hi]
theorem cf{tl:TE}(h:RdE C tl m):RdI C (MG C.K tl) (listI m):=by
 intro σ H F θ s R b p;refine h σ H F θ s _ b (PoR.bind p ?_);rintro ⟨x,s1⟩ H1 F1 θ1 _ as p1 b1 v r1;dsimp only at p1 b1 r1;cases x <;> first | exact sH p1 | skip
 rename_i ds _;unfold Rep at r1;obtain⟨a,xs,rfl,hs,hr⟩:=r1;exact#[a,rfl,#[xs,b1.now.fh.seq hs],p1 _ _ _ .refl b1 _ (Pq hs hr λst b=>b.now.fh.seq (st.ff.seq hs))];rename_i k _;unfold Rep at r1;obtain⟨a,rfl,hk⟩:=r1;unfold itemsOf at p1;dsimp only at p1;split at p1;rename_i ds ek;obtain⟨q1,xs,q2,q3⟩:kz C.K C.ca H1 F1 θ1 a (.lst ds):=b1.now.ce k a _ hk ek;refine#[a,rfl,#[xs,SqL.of q2],p1 _ _ _ .refl b1 _ ?_];have cell:∀{H2 J:Hp} {θ2:List sK} {O2:aD},Stp H1 F1 θ1 H2 J θ2->Now C.K C.ca H2 J θ2 O2->O2[k]? =pr (.lst ds)->∃ys,SqL C.K H2 a ys/\aI C.K C.ca θ2 J ds ys:=λ{H2 J θ2 O2} st n e=>by
  have ap:θ2[k]? =pr a:=by obtain⟨r,rfl,_⟩:=st.th;rw[AT (Ch.mp hk).1];exact hk
  obtain⟨_,ys,Y,w3⟩:kz C.K C.ca H2 J θ2 a (.lst ds):=n.ce k a _ ap e;exact#[ys,SqL.of Y,w3]
 refine#[λi H2 J θ2 O2 hi st n e=> ?_,λi d σ H2 J θ2 s2 x H3 hd st b e hy=> ?_,λi H2 J θ2 O2 hi st n e=> ?_];obtain⟨ys,w1,Y⟩:=cell st n e;exact#[ys,ys[i]'(by rw[Y.length];exact hi),w1,ut _];obtain⟨rfl,hx⟩:=hy;obtain⟨ys,w1,Y⟩:=cell st b.now e;obtain⟨v,h1,h2⟩:=Y.get hd;have:=hx ys w1;rw[h1] at this;cases this;exact#[J,.refl,b,h2];obtain⟨ys,w1,Y⟩:=cell st n e;exact#[ys,w1,by rw[Y.length];exact hi];exact sH p1
def dY(lo hi:Int):List D:=(wh (hi-lo).toNat).map λi=>.int (lo+(i:Nat))
theorem iB{lo hi:Int}:(dY lo hi).length=(hi-lo).toNat:=by unfold dY;simp
theorem LO{lo hi:Int}:wm C (Itr lo (hi-lo).toNat) (dY lo hi) (okC (dY lo hi) qh) H F θ where
 go:=λi H2 F2 θ2 O2 h st n _=>by rw[iB] at h;exact h
 yl:=λi d σ H2 F2 θ2 s2 x H3 hd st b _ hy=>by
  obtain⟨rfl,rfl⟩:=hy;refine#[F2,.refl,b, ?_];unfold dY at hd;rw[wT] at hd;cases e:(wh (hi-lo).toNat)[i]? with
  | none=>rw[e] at hd;cases hd
  | some j=>
   rw[e] at hd;cases hd;obtain⟨_,rfl⟩:∃h,j=i:=#[trivial,by have:=(Ch.mp e).2;simpa using this.symm];exact bH.mpr rfl
 st:=λi H2 F2 θ2 O2 h st n _=>by rw[iB] at h;exact h
def dB(ma:AM):IM:=λs=>(ma s).bind λx=>match x.1 with
 | [.int j]=>if -(2^62)<=j/\j<2^62 then .ok ((dY 0 j,qh),x.2) else .bad
 | _=>.bad
theorem pJ{K ca θ F i vs}(h:aI K ca θ F [.int i] vs):vs=[.int i]:=by unfold aI at h;obtain⟨v,r,rfl,h1,h2⟩:=h;unfold aI at h2;rw[h2,bH.mp h1]
theorem G9{K ca θ F i j vs}(h:aI K ca θ F [.int i,.int j] vs):vs=[.int i,.int j]:=by unfold aI at h;obtain⟨v,r,rfl,h1,h2⟩:=h;rw[pJ h2,bH.mp h1]
theorem ft{m:AM}(h:RdA C ta m):RdI C (MD ta) (dB m):=by intro σ H F θ s R b p;refine h σ H F θ s _ b (PoR.bind p ?_);rintro ⟨x,s1⟩ H1 F1 θ1 _ ac p1 J v Y;dsimp only at p1 J Y;split at p1;rename_i j _;split at p1;rename_i hj;refine#[j,pJ Y,hj.1,hj.2, ?_];have:=p1 _ _ _ .refl J _ (LO (lo:=0) (hi:=j));rw[Int.sub_zero] at this;exact this;exact sH p1;exact sH p1
abbrev FM:=List D->aD->Res (D×aD)
def spM(K:uY)(ca:Nat->sK)(n:Nat)(f:FM):Sp:=λvs H Q E=>∃F θ ds O,Now K ca H F θ O/\aI K ca θ F ds vs/\ds.length=n/\match f ds O with
 | .ok (d,O1)=>∀v H1 F1 θ1,Stp H F θ H1 F1 θ1->Now K ca H1 F1 θ1 O1->Rep K ca θ1 F1 d v->Q v H1
 | .exc c _ s1=>∀H1 F1 θ1,Stp H F θ H1 F1 θ1->Now K ca H1 F1 θ1 s1.o->E (.ref (ca c)) qh H1
 | .bad=>False
def runM(n:Nat)(m:SM):FM:=λds O=>match m #[ds.map pr++wn (n-ds.length) qh,O] with
 | .next s=>.ok (.non,s.o)
 | .ret d s=>.ok (d,s.o)
 | _=>.bad
theorem LM{N:List Str}(n:Now K ca H F θ O)(r:aI K ca θ F ds vs):
 BS K ca (L2.start N vs) H F θ #[ds.map pr++wn (N.length-ds.length) qh,O]:=by
 refine#[n,by unfold L2.start;simp[r.length],λi d e=> ?_];dsimp only at e;have hi:i<ds.length:=by by_cases hi:i<ds.length;exact hi;rw[wP (by simpa using hi),IR] at e;split at e <;> cases e
 rw[AT (by simpa using hi),wT] at e;cases e1:ds[i]? with
 | none=>rw[e1] at e;cases e
 | some J=>
  rw[e1] at e;cases e;obtain⟨v,h1,h2⟩:=r.get e1;refine#[v, ?_,h2];unfold L2.start;rw[AT (by simpa[r.length] using hi),wT,h1];rfl
def W0:Wsh:=λ_ _ _ _ _ _=>False
theorem lL {P:FS} {w:IN} {K:uY} {mg:Str->Option sn} {base:Rs} {ca:Nat->sK} {x qual:Str} {st:Uy} {f:sK} {fd:Tr} {N ps:List Str} {k n:Nat} {m:SM}
 (F:Fun K x qual st f fd) (S:aY N ps (aM st)) (hn:N.length=n)
 (hm:∀(J:sn) (A:SN) (outer:List Env) (s:vr) (H:Hp) (E:XK),fU k (A.deeper (envOfC qual (aM st) s.heap.objs.size f J))->
  ∃t,PSs (wM (CXE P w) P w K mg base N qual (aM st) f J A outer s H E).nox (d3 st) t/\RdS #[K,ca,W0] t m):
 lE P w K mg base (CXE P w) (k+1) f fd ps (spM K ca ps.length (runM n m)):=by
 refine F.okE S (λvs H Q E h=> ?_) (λJ A outer s H vs Q E hr h=> ?_);obtain⟨F,θ,ds,O,_,r,hl,_⟩:=h;rw[r.length,hl]
 ·obtain⟨F,θ,ds,O,Y,r,hl,q⟩:=h;obtain⟨t,ht,rd⟩:=hm J A outer s H E hr;refine#[t,ht.nox,rd _ H F θ _ _ (LM Y r) ?_];subst hn;unfold runM at q;cases e:m #[ds.map pr++wn (N.length-ds.length) qh,O] with
  | next s1=>rw[e] at q;exact λab H1 F1 θ1 st b=>q .non H1 F1 θ1 st b.now (gD.mpr rfl)
  | ret d s1=>rw[e] at q;exact λv ab H1 F1 θ1 st b rv=>q v H1 F1 θ1 st b.now rv
  | exc c a o=>rw[e] at q;exact sH q
  | brk s1=>rw[e] at q;exact sH q
  | cnt s1=>rw[e] at q;exact sH q
  | bad=>rw[e] at q;exact sH q
theorem BS.called(b:BS K ca σ H F θ s)(st:Stp H F [] H1 F1 θ1)(n:Now K ca H1 F1 θ1 O1):
 Stp H F θ H1 F1 θ/\BS K ca σ H1 F1 θ s:=by
 have kp:∀b o,H b=pr o->H1 b=pr o:=λb o h=>st.kp b o h (by simp);have Y:∀b o,F1 b=pr o->F b=pr o\/H b=none:=λb o h=>by rcases st.nf b o h with z | z | z;exact .inl z;exact .inr z;simp at z
 refine#[#[st.ff,#[[],by simp,by simp],λb o h _=>kp b o h,st.al,λb o h=>(Y b o h).elim .inl λz=>.inr (.inl z)],#[#[n.fh,b.now.nd,b.now.ln,λk a c e1 e2=> ?_],b.len,λi d e=> ?_]];have q:=b.now.ce k a c e1 e2;obtain⟨u,hu⟩:=q.there;have fn:F a=qh->F1 a=none:=λh=>by
  cases e:F1 a with
  | none=>rfl
  | some o=>
   rcases Y a o e with z | z;rw[h] at z;cases z;rw[hu] at z;cases z
 cases c with
 | dead=>exact#[u,kp a u hu]
 | lst ds=>
  obtain⟨q1,xs,q2,J⟩:=q;exact#[fn q1,xs,kp _ _ q2,J.mono st.ff #[[],by simp]]
 | ins c ns ds=>
  obtain⟨q1,dx,xs,q2,J,q4⟩:=q;exact#[fn q1,dx,xs,kp _ _ q2,J,q4.mono st.ff #[[],by simp]]
 obtain⟨v,h1,h2⟩:=b.sl i d e;exact#[v,h1,h2.mono st.ff #[[],by simp]]
def aN(n:Nat)(f:FM)(ma:AM):EM:=λs=>(ma s).bind λx=>if aU x.1=ss/\x.1.length=n then (match f x.1 [] with
 | .ok (d,_)=>if dq d=ss then .ok (d,x.2) else .bad
 | _=>.bad) else .bad
theorem aQ{f:FM}(ha:RdA C ta ma):RdE C (uk (spM C.K C.ca n f) [] E ta) (aN n f ma):=by intro σ H F θ s Q b p;refine ha σ H F θ s _ b (PoR.bind p ?_);rintro ⟨x,s1⟩ H1 F1 θ1 _ am p1 J v r1;dsimp only at p1 J r1 ⊢;split at p1;rename_i hp;rw[TJ];refine#[F1,[],x,[],Now.nil J.now.fh,r1.pure hp.1,hp.2, ?_];split at p1;rename_i d O1 e;rw[e];intro v H2 F2 θ2 Y n2 rv;split at p1;rename_i pd;obtain⟨ab,b3⟩:=J.called Y n2;exact p1 H2 F2 θ1 ab b3 v (rv.pure pd);exact sH p1;exact sH p1;exact sH p1
end
section
variable {C : Ct}
theorem dF(p:PoE C σ H F θ ((Res.ok d).bind λd=>.ok (d,s)) Q)(b:BS C.K C.ca σ H F θ s)(r:Rep C.K C.ca θ F d v):Q v H:=p H F θ .refl b v r
theorem v9(p:PoE C σ H F θ ((Res.ok (D.lst ds)).bind λd=>.ok (d,s)) Q)(b:BS C.K C.ca σ H F θ s)(r:aI C.K C.ca θ F ds xs):
 ∀q,H q=qh->Q (.ref q) (upd H q (.lst xs)):=λq hq=>by
 obtain⟨st,J,Y,e⟩:=b.newF hq (.lst xs);refine p _ _ _ st J _ ?_;unfold Rep;exact#[q,xs,rfl,SqL.of e,r.mono Y #[[],by simp]]
def lsD(O:aD):D->Option (List D)
 | .lst ds=>pr ds
 | .ptr k=>match O[k]? with
  | some (.lst ds)=>pr ds
  | _=>qh
 | _=>qh
@[simp] theorem gW:lsD O (.lst ds)=pr ds:=rfl
theorem fu(b:BS C.K C.ca σ H F θ s)(r:Rep C.K C.ca θ F d v)(e:lsD s.o d=pr ds):∃a xs,v=.ref a/\SqL C.K H a xs/\aI C.K C.ca θ F ds xs:=by
 cases d <;> first | (simp[lsD] at e;done) | skip
 cases e;unfold Rep at r;obtain⟨a,xs,rfl,hs,hr⟩:=r;exact#[a,xs,rfl,b.now.fh.seq hs,hr];rename_i k;unfold Rep at r;obtain⟨a,rfl,hk⟩:=r;unfold lsD at e;dsimp only at e;split at e;rename_i J Y;cases e;obtain⟨_,xs,h1,h2⟩:kz C.K C.ca H F θ a (.lst ds):=b.now.ce k a _ hk Y;exact#[a,xs,rfl,SqL.of h1,h2];cases e
theorem zY(b:BS C.K C.ca σ H F θ s)(r:Rep C.K C.ca θ F (.tup ds) v):∃a xs,v=.ref a/\SqT C.K H a xs/\aI C.K C.ca θ F ds xs:=by unfold Rep at r;obtain⟨a,xs,rfl,hs,hr⟩:=r;exact#[a,xs,rfl,cg.seqT b.now.fh hs,hr]
def intD(g:Int->Int->Res D):Op2:=λ_ x y=>match x,y with
 | .int i,.int j=>g i j
 | _,_=>.bad
theorem z4{g:Int->Int->V}{f:Int->Int->D}(h:∀K ca θ F i j,Rep K ca θ F (f i j) (g i j)):ie C (rI0 g) (intD λi j=>.ok (f i j)):=by intro σ H F θ s x y v w Q b J Y p;unfold intD at p;split at p;rename_i i j;exact#[i,j,bH.mp J,bH.mp Y,dF p b (h ..)];exact sH p
open Classical in
noncomputable def Bi (c:Int->Int->Prop)(f:Int->Int->D):Op2:=intD λi j=>if c i j then .ok (f i j) else .bad
theorem De{c:Int->Int->Prop}{g:Int->Int->V}{f:Int->Int->D}(h:∀K ca θ F i j,Rep K ca θ F (f i j) (g i j)):ie C (rI c g) (Bi c f):=by intro σ H F θ s x y v w Q b J Y p;unfold Bi intD at p;split at p;rename_i i j;dsimp only at p;split at p;rename_i hc;exact#[i,j,bH.mp J,bH.mp Y,hc,dF p b (h ..)];exact sH p;exact sH p
def iR:Op2:=intD λi j=>.ok (.int (i-j))
noncomputable def cG:Op2:=Bi Tj λi j=>.int (i*j)
noncomputable def gy:Op2:=Bi (λi j=>j≠0) λi j=>.int (i.fdiv j)
noncomputable def ik:Op2:=Bi (λ_ j=>j≠0) λi j=>.int (i.fmod j)
noncomputable def tR:Op2:=Bi L8 λi j=>.int (i^j.toNat)
def ltD:Op2:=intD λi j=>.ok (.bl (decide (i<j)))
def leD:Op2:=intD λi j=>.ok (.bl (decide (i<=j)))
def gtD:Op2:=intD λi j=>.ok (.bl (decide (j<i)))
def geD:Op2:=intD λi j=>.ok (.bl (decide (j<=i)))
def jb:Op1:=λ_ x=>match x with
 | .int i=>.ok (.int (-i))
 | _=>.bad
section
variable {X : Cx}
theorem eM:OpR X (binaryOp .Mult) (rI Tj λi j=>.int (i*j)):=opI λ_ _ _ _ _ _ _ hc q=>mul_int q hc
theorem lM(hd:X.A.depth+100<recursionLimit)(J:X.prog.given.tree=qh)(hs:∃env l,X.stack=env::l/\env.scope.isGenerator=xL/\env.scope.isCoroutine=xL/\env.builtins=builtinsNs/\env.globals=mainGlobals):
 OpR X (binaryOp .FloorDiv) (rI (λi j=>j≠0) λi j=>.int (i.fdiv j)):=by
 intro pins s σ H x y v u Q I Y ry h;obtain⟨i,j,rfl,rfl,hc,q⟩:=h;obtain⟨t,rfl⟩:=Y;obtain⟨t',rfl⟩:=ry;obtain⟨env,l,e,h1,h2,h3,h4⟩:=hs;exact floordiv_int hc #[.int _,H,I.tok _,#[_,rfl],q] (.inr (PylongRoom.of I.nolimit hd (SeerAt.of I.noseer J (I.ok.frames.trans (by rw[e])) h1 h2 h3 h4)))
def C8(K:uY):R2:=λx y H Q=>rI0 (λi j=>.int (i+j)) x y H Q\/(∃i j,x=.str i/\y=.str j/\i.length+j.length<=sizeLine/\Q (.str (i++j)) H)\/MO K x y H Q
theorem cF:OpR X (binaryOp .Add) (C8 X.K):=Pb.or (HR.or M5)
end
def Rw:Op2:=intD λi j=>.ok (.int (i+j))
def bh:Op2:=λO x y=>match x,y with
 | .int i,.int j=>.ok (.int (i+j))
 | .str a,.str b=>if a.length+b.length<=16777216 then .ok (.str (a++b)) else .bad
 | x,y=>match lsD O x,lsD O y with
  | some a,pr b=>if a.length+b.length<=16777216 then .ok (.lst (a++b)) else .bad
  | _,_=>.bad
theorem bZ:ie C (C8 C.K) bh:=by
 intro σ H F θ s x y v w Q b J Y p;have lists:∀{a c:List D},lsD s.o x=pr a->lsD s.o y=pr c->PoE C σ H F θ ((if a.length+c.length<=16777216 then Res.ok (D.lst (a++c)) else .bad).bind λd=>.ok (d,s)) Q->C8 C.K v w H Q:=λ{a c} e1 e2 p=>by split at p;rename_i hl;obtain⟨l1,xs,rfl,s1,r1⟩:=fu b J e1;obtain⟨l2,ys,rfl,s2,r2⟩:=fu b Y e2;exact .inr (.inr #[l1,l2,xs,ys,rfl,rfl,s1,s2,by rw[r1.length,r2.length];exact hl,v9 p b (r1.append r2)]);exact sH p
 unfold bh at p;split at p;rename_i i j;exact .inl #[i,j,bH.mp J,bH.mp Y,dF p b (bH.mpr rfl)];rename_i i j;split at p;rename_i hl;exact .inr (.inl #[i,j,dM.mp J,dM.mp Y,hl,dF p b (dM.mpr rfl)]);exact sH p;split at p;rename_i a c e1 e2;exact lists e1 e2 p;exact sH p
theorem nF:ie C (rI0 λi j=>.int (i-j)) iR:=z4 λ_ _ _ _ _ _=>bH.mpr rfl
theorem dN:ie C (rI Tj λi j=>.int (i*j)) cG:=De λ_ _ _ _ _ _=>bH.mpr rfl
theorem jI:ie C (rI (λi j=>j≠0) λi j=>.int (i.fdiv j)) gy:=De λ_ _ _ _ _ _=>bH.mpr rfl
theorem jC:ie C (rI (λ_ j=>j≠0) λi j=>.int (i.fmod j)) ik:=De λ_ _ _ _ _ _=>bH.mpr rfl
theorem D0:ie C (rI L8 λi j=>.int (i^j.toNat)) tR:=De λ_ _ _ _ _ _=>bH.mpr rfl
theorem k9:ie C (rI0 λi j=>.bl (decide (i<j))) ltD:=z4 λ_ _ _ _ _ _=>cM.mpr rfl
theorem lX:ie C (rI0 λi j=>.bl (decide (j<i))) gtD:=z4 λ_ _ _ _ _ _=>cM.mpr rfl
theorem oN:OS C (rU λi=>.int (-i)) jb:=by intro σ H F θ s x v Q b J p;unfold jb at p;split at p;rename_i i;exact#[i,bH.mp J,dF p b (bH.mpr rfl)];exact sH p
mutual
def toPy:D->Option VJ
 | .non=>pr .none
 | .bl b=>pr (.bool b)
 | .int i=>pr (.int i)
 | .str x=>pr (.str x)
 | .lst ds=>(lV ds).map .list
 | .tup ds=>(lV ds).map .tuple
 | .ptr _=>qh
 | .obj _ _ _=>qh
 | .exn _=>qh
def lV:List D->Option (List VJ)
 | []=>pr []
 | d::ds=>match toPy d,lV ds with
  | some a,pr b=>pr (a::b)
  | _,_=>qh
end
mutual
def res(O:aD):D->D
 | .lst ds=>.lst (cD O ds)
 | .tup ds=>.tup (cD O ds)
 | .ptr k=>match O[k]? with
  | some (.lst ds)=>.lst ds
  | _=>.ptr k
 | .non=>.non
 | .bl b=>.bl b
 | .int i=>.int i
 | .str x=>.str x
 | .obj c ns ds=>.obj c ns ds
 | .exn c=>.exn c
def cD(O:aD):List D->List D
 | []=>[]
 | d::ds=>res O d::cD O ds
end
section
variable {K : uY} {ca : Nat → sK} {H F G : Hp} {θ : List sK} {O : aD}
mutual
theorem BD(n:Now K ca H F θ O)(Y:cg F G)(J:cg G H):∀{d:D} {v:V},Rep K ca θ G d v->Rep K ca θ H (res O d) v
 | .non,_,h=>by unfold res;exact h
 | .bl _,_,h=>by unfold res;exact h
 | .int _,_,h=>by unfold res;exact h
 | .str _,_,h=>by unfold res;exact h
 | .lst ds,_,h=>by unfold res;unfold Rep at h ⊢;obtain⟨a,xs,e,hs,hr⟩:=h;exact#[a,xs,e,J.seq hs,mJ n Y J hr]
 | .tup ds,_,h=>by unfold res;unfold Rep at h ⊢;obtain⟨a,xs,e,hs,hr⟩:=h;exact#[a,xs,e,cg.seqT J hs,mJ n Y J hr]
 | .ptr k,v,h=>by unfold res;split;rename_i ds e;unfold Rep at h ⊢;obtain⟨a,ev,hk⟩:=h;obtain⟨_,xs,h1,h2⟩:kz K ca H F θ a (.lst ds):=n.ce k a _ hk e;exact#[a,xs,ev,SqL.of h1,h2.mono n.fh #[[],by simp]];exact h.mono J #[[],by simp]
 | .obj c ns ds,_,h=>by unfold res;exact h.mono J #[[],by simp]
 | .exn c,_,h=>by unfold res;exact h.mono J #[[],by simp]
theorem mJ(n:Now K ca H F θ O)(J:cg F G)(Y:cg G H):∀{ds:List D} {xs:List V},aI K ca θ G ds xs->aI K ca θ H (cD O ds) xs
 | [],_,h=>by unfold cD;exact h
 | d::ds,_,h=>by unfold cD;unfold aI at h ⊢;obtain⟨v,r,e,h1,h2⟩:=h;exact#[v,r,e,BD n J Y h1,mJ n J Y h2]
end
mutual
theorem Bt:∀{d:D} {v:V} {p:VJ},Rep K ca θ H d v->toPy d=pr p->RdV K H p v
 | .non,_,_,h,e=>by unfold toPy at e;cases e;unfold RdV;exact gD.mp h
 | .bl b,_,_,h,e=>by unfold toPy at e;cases e;unfold RdV;exact cM.mp h
 | .int b,_,_,h,e=>by unfold toPy at e;cases e;unfold RdV;exact bH.mp h
 | .str b,_,_,h,e=>by unfold toPy at e;cases e;unfold RdV;exact dM.mp h
 | .lst ds,_,_,h,e=>by
  unfold toPy at e;cases e1:lV ds with
  | none=>rw[e1] at e;cases e
  | some ps=>
   rw[e1] at e;cases e;unfold Rep at h;obtain⟨a,xs,J,hs,hr⟩:=h;unfold RdV;exact#[a,xs,J,hs,yu hr e1]
 | .tup ds,_,_,h,e=>by
  unfold toPy at e;cases e1:lV ds with
  | none=>rw[e1] at e;cases e
  | some ps=>
   rw[e1] at e;cases e;unfold Rep at h;obtain⟨a,xs,J,hs,hr⟩:=h;unfold RdV;exact#[a,xs,J,hs,yu hr e1]
 | .ptr _,_,_,_,e=>by unfold toPy at e;cases e
 | .obj _ _ _,_,_,_,e=>by unfold toPy at e;cases e
 | .exn _,_,_,_,e=>by unfold toPy at e;cases e
theorem yu:∀{ds:List D} {xs:List V} {ps:List VJ},aI K ca θ H ds xs->lV ds=pr ps->uh K H ps xs
 | [],_,_,h,e=>by unfold lV at e;cases e;unfold uh;unfold aI at h;exact h
 | d::ds,_,_,h,e=>by
  unfold lV at e;cases e1:toPy d with
  | none=>rw[e1] at e;cases e
  | some p=>
   cases e2:lV ds with
   | none=>rw[e1,e2] at e;cases e
   | some ps=>
    rw[e1,e2] at e;cases e;unfold aI at h;obtain⟨v,r,J,h1,h2⟩:=h;unfold uh;exact#[v,r,J,Bt h1 e1,yu h2 e2]
end
end
def lQ(O:aD)(x y:D):Option Bool:=match toPy (res O (res O x)),toPy (res O (res O y)) with
 | some a,pr b=>if SeqAt.shaped a=ss/\SeqAt.shaped b=ss then pr (PyData.eqv a b) else qh
 | _,_=>qh
def eqB(O:aD)(x y:D):Option Bool:=match x,y with
 | .int i,.int j=>pr (decide (i=j))
 | .str i,.str j=>pr (decide (i=j))
 | .bl i,.bl j=>pr (decide (i=j))
 | .non,.non=>pr ss
 | x,y=>lQ O x y
def eqD:Op2:=λO x y=>match eqB O x y with
 | some b=>.ok (.bl b)
 | none=>.bad
def neD:Op2:=λO x y=>match eqB O x y with
 | some b=>.ok (.bl (!b))
 | none=>.bad
section
variable {X : Cx}
def PN(K:uY):R2:=λx y H Q=>rEq x y H Q\/OH K x y H Q
def Qj(K:uY):R2:=λx y H Q=>rNe x y H Q\/Qd K x y H Q
theorem jn(hu:X.A.units+64<cLine):OpR X (compareOp .Eq) (PN X.K):=QK.or (OJ hu)
theorem um(hu:X.A.units+64<cLine):OpR X (compareOp .NotEq) (Qj X.K):=QJ.or (Pw hu)
end
theorem B1{v w:V}{k:Bool}(b:BS C.K C.ca σ H F θ s)(Y:Rep C.K C.ca θ F x v)(ry:Rep C.K C.ca θ F y w)(e:lQ s.o x y=pr k):
 ∃d e,RdV C.K H d v/\RdV C.K H e w/\SeqAt.shaped d=ss/\SeqAt.shaped e=ss/\PyData.eqv d e=k:=by
 unfold lQ at e;split at e;rename_i a c e1 e2;split at e;rename_i hs;cases e;have J:∀{d:D} {u:V},Rep C.K C.ca θ F d u->Rep C.K C.ca θ H (res s.o (res s.o d)) u:=λh=>BD b.now b.now.fh (cg.refl _) (BD b.now (cg.refl _) b.now.fh h);exact#[a,c,Bt (J Y) e1,Bt (J ry) e2,hs.1,hs.2,rfl];cases e;cases e
theorem gP:ie C (PN C.K) eqD:=by intro σ H F θ s x y v w Q b J Y p;unfold eqD at p;split at p;rename_i k e;have q:=λH' (h:H'=H)=>h▸dF p b (v:=.bl k) (cM.mpr rfl);have q:=q H rfl;unfold eqB at e;split at e;rename_i i j;cases e;cases bH.mp J;cases bH.mp Y;exact .inl #[rfl,by rw[wO,TF];exact q];cases e;cases dM.mp J;cases dM.mp Y;exact .inl #[rfl,by rw[xj,TF];exact q];cases e;cases cM.mp J;cases cM.mp Y;exact .inl #[rfl,by rw[Am,TF];exact q];cases e;cases gD.mp J;cases gD.mp Y;exact .inl #[rfl,by simpa using q];obtain⟨d,e',h1,h2,h3,h4,h5⟩:=B1 b J Y e;exact .inr #[d,e',h1,h2,h3,h4,by rw[h5];exact q];exact sH p
theorem pB:ie C (Qj C.K) neD:=by intro σ H F θ s x y v w Q b J Y p;unfold neD at p;split at p;rename_i k e;have q:=dF p b (v:=.bl (!k)) (cM.mpr rfl);unfold eqB at e;split at e;rename_i i j;cases e;cases bH.mp J;cases bH.mp Y;exact .inl #[rfl,by rw[wO,TF];exact q];cases e;cases dM.mp J;cases dM.mp Y;exact .inl #[rfl,by rw[xj,TF];exact q];cases e;cases cM.mp J;cases cM.mp Y;exact .inl #[rfl,by rw[Am,TF];exact q];cases e;cases gD.mp J;cases gD.mp Y;exact .inl #[rfl,by simpa using q];obtain⟨d,e',h1,h2,h3,h4,h5⟩:=B1 b J Y e;exact .inr #[d,e',h1,h2,h3,h4,by rw[h5];exact q];exact sH p
def ixD:Op2:=λO x y=>match y with
 | .int i=>match x with
  | .tup ds=>match atI ds i with
   | some d=>.ok d
   | none=>.bad
  | .str z=>if z.length<=16777216 then (match atI z.cps.toList i with
   | some c=>.ok (.str #[#v[c]])
   | none=>.bad) else .bad
  | x=>match lsD O x with
   | some ds=>match atI ds i with
    | some d=>.ok d
    | none=>.bad
   | none=>.bad
 | _=>.bad
theorem Gq{K ca θ F}{i:Int}(r:aI K ca θ F ds xs)(e:atI ds i=pr d):∃v,atI xs i=pr v/\Rep K ca θ F d v:=by
 unfold atI at e ⊢;rw[r.length];cases q:ixN ds.length i with
 | none=>rw[q] at e;cases e
 | some j=>
  rw[q] at e;exact r.get e
theorem bR:ie C (rIx C.K) ixD:=by intro σ H F θ s x y v w Q b J Y p;unfold ixD at p;split at p;rename_i i;split at p;rename_i ds;obtain⟨a,xs,rfl,hs,hr⟩:=zY b J;split at p;rename_i d e;obtain⟨u,e1,r1⟩:=Gq hr e;exact .inr (.inl #[a,xs,i,u,rfl,bH.mp Y,hs,e1,dF p b r1]);exact sH p;rename_i z;split at p;rename_i hz;split at p;rename_i c e;exact .inr (.inr #[z,i,c,dM.mp J,bH.mp Y,hz,e,dF p b (dM.mpr rfl)]);exact sH p;exact sH p;split at p;rename_i ds e0;obtain⟨a,xs,rfl,hs,hr⟩:=fu b J e0;split at p;rename_i d e;obtain⟨u,e1,r1⟩:=Gq hr e;exact .inl #[a,xs,i,u,rfl,bH.mp Y,hs,e1,dF p b r1];exact sH p;exact sH p;exact sH p
abbrev OM:=S->Res (Option Int×S)
def RdO(C:Ct)(t:TO)(m:OM):Prop:=∀σ H F θ s Q,BS C.K C.ca σ H F θ s->PoR C H F θ (m s) (λy H1 F1 θ1=>BS C.K C.ca σ H1 F1 θ1 y.2->Q y.1 H1)->t σ H Q
def gj:OM:=λs=>.ok (qh,s)
def part(m:EM):OM:=λs=>(m s).bind λx=>match x.1 with
 | .int i=>.ok (pr i,x.2)
 | _=>.bad
theorem kb:RdO C GZ gj:=λσ H F θ s Q b p=>p H F θ .refl b
theorem pZ(h:RdE C t m):RdO C (MR t) (part m):=by
 intro σ H F θ s Q b p;refine h σ H F θ s _ b (PoR.bind p ?_);rintro ⟨x,s1⟩ H1 F1 θ1 _ J p1 Y v r1;cases x <;> first | exact sH p1 | skip
 rename_i i _;exact#[i,bH.mp r1,p1 _ _ _ .refl Y]
def cutD(ds:List D)(lo hi:Option Int):List D:=(ds.drop (HT.sIx ds.length 0 lo)).take (HT.sIx ds.length ds.length hi-HT.sIx ds.length 0 lo)
theorem Nc{K ca θ F}{lo hi:Option Int}(r:aI K ca θ F ds xs):aI K ca θ F (cutD ds lo hi) (AW xs lo hi):=by unfold cutD AW;rw[r.length];exact(r.drop _).take _
def slM(me:EM)(ml mh:OM):EM:=λs=>(me s).bind λx=>(ml x.2).bind λl=>(mh l.2).bind λh=>match lsD h.2.o x.1 with
 | some ds=>.ok (.lst (cutD ds l.1 h.1),h.2)
 | none=>.bad
theorem G8{tl th:TO}(he:RdE C te me)(hl:RdO C tl ml)(hh:RdO C th mh):RdE C (tSl (P5 C.K) te tl th) (slM me ml mh):=by intro σ H F θ s Q b p;refine he σ H F θ s _ b (PoR.bind p ?_);rintro ⟨x,s1⟩ H1 F1 θ1 _ as p1 b1 v r1;refine hl σ H1 F1 θ1 s1 _ b1 (PoR.bind p1 ?_);rintro ⟨l,s2⟩ H2 F2 θ2 _ J p2 b2;refine hh σ H2 F2 θ2 s2 _ b2 (PoR.bind p2 ?_);rintro ⟨h,s3⟩ H3 F3 a4 _ Y p3 b3;dsimp only at p3 ⊢;split at p3;rename_i ds e;obtain⟨a,xs,rfl,hs,hr⟩:=fu b3 ((r1.mono J.ff J.pre).mono Y.ff Y.pre) e;exact#[a,xs,rfl,hs,v9 (ds:=cutD ds l h) p3 b3 (Nc hr)];exact sH p3
def bY:OpN:=λO xs=>match xs with
 | [.str z]=>if z.length<=16777216 then .ok (.int z.length) else .bad
 | [.tup ds]=>.ok (.int ds.length)
 | [x]=>match lsD O x with
  | some ds=>.ok (.int ds.length)
  | none=>.bad
 | _=>.bad
theorem nC{K ca θ F}(h:aI K ca θ F [x] vs):∃v,vs=[v]/\Rep K ca θ F x v:=by unfold aI at h;obtain⟨v,r,rfl,h1,h2⟩:=h;unfold aI at h2;rw[h2];exact#[v,rfl,h1]
theorem ML{K ca θ F}(h:aI K ca θ F [x,y] vs):∃v w,vs=[v,w]/\Rep K ca θ F x v/\Rep K ca θ F y w:=by unfold aI at h;obtain⟨v,r,rfl,h1,h2⟩:=h;obtain⟨w,rfl,J⟩:=nC h2;exact#[v,w,rfl,h1,J]
theorem dy:jA C (λxs H Q=>∃x n,xs=[x]/\Qo C.K x H n/\Q (.int n) H) bY:=by intro σ H F θ s xs vs Q b r p;unfold bY at p;split at p;rename_i z;obtain⟨v,rfl,J⟩:=nC r;cases dM.mp J;split at p;rename_i hz;exact#[.str z,z.length,rfl,#[hz,rfl],dF p b (bH.mpr rfl)];exact sH p;rename_i ds;obtain⟨v,rfl,J⟩:=nC r;obtain⟨a,xs,rfl,hs,hr⟩:=zY b J;exact#[.ref a,ds.length,rfl,.inr #[xs,hs,by rw[hr.length]],dF p b (bH.mpr rfl)];rename_i x _ _;obtain⟨v,rfl,J⟩:=nC r;split at p;rename_i ds e;obtain⟨a,xs,rfl,hs,hr⟩:=fu b J e;exact#[.ref a,ds.length,rfl,.inl #[xs,hs,by rw[hr.length]],dF p b (bH.mpr rfl)];exact sH p;exact sH p
def j9:OpN:=λO xs=>match xs with
 | [.tup ds]=>.ok (.lst ds)
 | [x]=>match lsD O x with
  | some ds=>.ok (.lst ds)
  | none=>.bad
 | _=>.bad
theorem my:jA C (λxs H Q=>∃p ys,xs=[.ref p]/\(SqL C.K H p ys\/SqT C.K H p ys)/\∀l,H l=qh->Q (.ref l) (upd H l (.lst ys))) j9:=by intro σ H F θ s xs vs Q b r p;unfold j9 at p;split at p;rename_i ds;obtain⟨v,rfl,J⟩:=nC r;obtain⟨a,xs,rfl,hs,hr⟩:=zY b J;exact#[a,xs,rfl,.inr hs,v9 p b hr];obtain⟨v,rfl,J⟩:=nC r;split at p;rename_i ds e;obtain⟨a,xs,rfl,hs,hr⟩:=fu b J e;exact#[a,xs,rfl,.inl hs,v9 p b hr];exact sH p;exact sH p
def yC:OpN:=λ_ xs=>match xs with
 | [.int i]=>.ok (.int (if i<0 then -i else i))
 | _=>.bad
theorem Jc:jA C (λxs H Q=>∃i,xs=[.int i]/\Q (.int (if i<0 then -i else i)) H) yC:=by intro σ H F θ s xs vs Q b r p;unfold yC at p;split at p;rename_i i;exact#[i,pJ r,dF p b (bH.mpr rfl)];exact sH p
def intOf:OpN:=λ_ xs=>match xs with
 | [.int i]=>.ok (.int i)
 | [.bl k]=>.ok (.int (if k then 1 else 0))
 | _=>.bad
theorem yF:jA C (λxs H Q=>(∃i,xs=[.int i]/\Q (.int i) H)\/∃k,xs=[.bl k]/\Q (.int (if k then 1 else 0)) H) intOf:=by intro σ H F θ s xs vs Q b r p;unfold intOf at p;split at p;rename_i i;exact .inl #[i,pJ r,dF p b (bH.mpr rfl)];rename_i k;obtain⟨v,rfl,J⟩:=nC r;cases cM.mp J;exact .inr #[k,rfl,dF p b (bH.mpr rfl)];exact sH p
def tyD(O:aD):D->Option String
 | .non=>pr "NoneType"
 | .bl _=>pr "bool"
 | .int _=>pr "int"
 | .str _=>pr "str"
 | .lst _=>pr "list"
 | .tup _=>pr "tuple"
 | .ptr k=>match O[k]? with
  | some (.lst _)=>pr "list"
  | _=>qh
 | .obj _ _ _=>qh
 | .exn _=>qh
def gb(t c:String):Bool:=t == c||(t == "bool" &&c == "int")
def o9(c:String):Op1:=λO x=>match tyD O x with
 | some t=>.ok (.bl (gb t c))
 | none=>.bad
def Be(c:String):Prop:=∀K:uY,∀t∈["NoneType","bool","int","str","list","tuple"],Xn K (.type t) (.type c)=pr (gb t c)
theorem ty_int:Be "int" :=by intro K t J;simp only[wE,W7,or_false] at J;rcases J with rfl | rfl | rfl | rfl | rfl | rfl <;> rfl
theorem ty_bool:Be "bool" :=by intro K t J;simp only[wE,W7,or_false] at J;rcases J with rfl | rfl | rfl | rfl | rfl | rfl <;> rfl
theorem Jw{c:String}(hc:Be c)(h:RdE C te m):RdE C (tCB (LR C.K) (kR te (kR (tC (.ty c)) o5))) (unM (o9 c) m):=by
 intro σ H F θ s Q b p;refine h σ H F θ s _ b (PoR.bind p ?_);rintro ⟨x,s1⟩ H1 F1 θ1 _ ab p1 Y v J;dsimp only at p1 Y J;show LR C.K [v,.ty c] H1 Q;unfold o9 at p1;split at p1
 ·rename_i t e;have q:=dF p1 Y (v:=.bl (gb t c)) (cM.mpr rfl);refine#[v,c,t,gb t c,rfl, ?_, ?_,q]
  ·cases x <;> first | (unfold tyD at e;cases e;done) | skip
   unfold tyD at e;cases e;rw[gD.mp J];rfl;unfold tyD at e;cases e;rw[cM.mp J];rfl;unfold tyD at e;cases e;rw[bH.mp J];rfl;unfold tyD at e;cases e;rw[dM.mp J];rfl;unfold tyD at e;cases e;unfold Rep at J;obtain⟨a,xs,rfl,hs,hr⟩:=J;exact .inl #[rfl,xs,Y.now.fh.seq hs];unfold tyD at e;cases e;unfold Rep at J;obtain⟨a,xs,rfl,hs,hr⟩:=J;exact .inr #[rfl,xs,cg.seqT Y.now.fh hs];rename_i k _;unfold tyD at e;dsimp only at e;split at e;rename_i ds ek;cases e;obtain⟨a,xs,rfl,hs,hr⟩:=fu Y J (ds:=ds) (by unfold lsD;simp only[ek]);exact .inl #[rfl,xs,hs];cases e
  ·refine hc C.K t ?_;cases x <;> unfold tyD at e <;> dsimp only at e <;> first | (cases e;simp;done) | (cases e;done) | skip
   split at e;cases e;simp;cases e
 exact sH p1
theorem uE{α:Type}{l:List α}(h:l.Nodup){i j:Nat}{x:α}(a:l[i]? =pr x)(b:l[j]? =pr x):i=j:=by obtain⟨h1,e1⟩:=Ch.mp a;obtain⟨h2,e2⟩:=Ch.mp b;exact(Xa h).mp (e1.trans e2.symm)
theorem BS.setC(b:BS K ca σ H F θ s){c:Cell}(hk:θ[k]? =pr a)(hc:s.o[k]? =pr c)(hF:F a=qh)(hr:aI K ca θ F ds xs):
 Stp H F θ (upd H a (.lst xs)) F θ/\BS K ca σ (upd H a (.lst xs)) F θ #[s.r,s.o.set k (.lst ds)]:=by
 have hm:a∈θ:=SI hk;refine#[#[cg.refl _,#[[],by simp,by simp],λe o J hb=> ?_,λe o J=> ?_,λe o J=>.inl J],#[#[λe o J=> ?_,b.now.nd,by simpa using b.now.ln,λj a' c' e1 e2=> ?_],b.len,b.sl]];have ne:e≠a:=λz=>hb (by rw[z];exact hm);rw[aZ ne];exact J;by_cases z:e=a;subst z;exact#[_,dg];exact#[o,by rw[aZ z];exact J];have ne:e≠a:=λz=>by rw[z,hF] at J;cases J
 rw[aZ ne];exact b.now.fh _ _ J;by_cases Y:k=j;subst Y;rw[hk] at e1;cases e1;have:k<s.o.length:=(Ch.mp hc).1;rw[S6 this] at e2;cases e2;exact#[hF,xs,dg,hr];rw[Tc Y] at e2;have q:=b.now.ce j a' c' e1 e2;have ne:a'≠a:=λz=>by subst z;exact Y (uE b.now.nd hk e1)
 cases c' with
 | dead=>obtain⟨o,ho⟩:=q;exact#[o,by rw[aZ ne];exact ho]
 | lst ds=>obtain⟨q1,ys,q2,q3⟩:=q;exact#[q1,ys,by rw[aZ ne];exact q2,q3]
 | ins c ns ds=>obtain⟨q1,dx,ys,q2,q3⟩:=q;exact#[q1,dx,ys,by rw[aZ ne];exact q2,q3]
theorem jO(b:BS C.K C.ca σ H F θ s)(r:Rep C.K C.ca θ F (.ptr k) v)(e:s.o[k]? =pr (.lst ds)):
 ∃a xs,v=.ref a/\θ[k]? =pr a/\F a=qh/\H a=pr (.lst xs)/\aI C.K C.ca θ F ds xs:=by
 unfold Rep at r;obtain⟨a,rfl,hk⟩:=r;obtain⟨h0,xs,h1,h2⟩:kz C.K C.ca H F θ a (.lst ds):=b.now.ce k a _ hk e;exact#[a,xs,rfl,hk,h0,h1,h2]
def gO(O:aD):D->Option (Nat×List D)
 | .ptr k=>match O[k]? with
  | some (.lst ds)=>pr (k,ds)
  | _=>qh
 | _=>qh
theorem mY(h:gO O d=pr (k,ds)):d=.ptr k/\O[k]? =pr (.lst ds):=by
 cases d <;> first | (simp[gO] at h;done) | skip
 rename_i j;unfold gO at h;dsimp only at h;split at h;rename_i es e;cases h;exact#[rfl,e];cases h
def ir(mo me:EM):EM:=λs=>(mo s).bind λx=>match gO x.2.o x.1 with
 | some _=>(me x.2).bind λy=>match gO y.2.o x.1 with
  | some (k,ds)=>if ds.length<16777216 then .ok (.non,#[y.2.r,y.2.o.set k (.lst (ds++[y.1]))]) else .bad
  | none=>.bad
 | none=>.bad
theorem jc(ho:RdE C to mo)(he:RdE C te me):RdE C (tBM C.K "list" GO to (kR te o5)) (ir mo me):=by intro σ H F θ s Q b p;refine ho σ H F θ s _ b (PoR.bind p ?_);rintro ⟨x,s1⟩ H1 F1 θ1 _ a2 p1 Y v r1;dsimp only at p1 Y r1;split at p1;rename_i kd e;obtain⟨rfl,e'⟩:=mY (k:=kd.1) (ds:=kd.2) e;obtain⟨a,xs,rfl,hk,_,h1,_⟩:=jO Y r1 e';refine#[.inl #[rfl,xs,SqL.of h1],he σ H1 F1 θ1 s1 _ Y (PoR.bind p1 ?_)];rintro ⟨y,s2⟩ H2 F2 θ2 _ J p2 b2 w r2;dsimp only at p2 b2 r2;split at p2;rename_i k ds e2;obtain⟨ek,e2⟩:=mY e2;cases ek;obtain⟨a',ys,ea,am,hF,h2,hr⟩:=jO b2 (r1.mono J.ff J.pre) e2;cases ea;split at p2;rename_i hl;obtain⟨an,b3⟩:=b2.setC am e2 hF (hr.append (aI.one r2));exact#[a,ys,w,rfl,rfl,h2,by rw[hr.length];exact hl,p2 _ _ _ an b3 _ (gD.mpr rfl)];exact sH p2;exact sH p2;exact sH p1
def zc(mo J:EM):GM:=λd s=>(mo s).bind λx=>(J x.2).bind λy=>match y.1 with
 | .int i=>match gO y.2.o x.1 with
  | some (k,ds)=>match ixN ds.length i with
   | some j=>.ok #[y.2.r,y.2.o.set k (.lst (ds.set j d))]
   | none=>.bad
  | none=>.bad
 | _=>.bad
theorem JR{to ti:TE}{mo mi:EM}(ho:RdE C to mo)(hi:RdE C ti mi):RdG C (PX to ti Mw) (zc mo mi):=by intro σ H F θ s d v Q b rd p;refine ho σ H F θ s _ b (PoR.bind p ?_);rintro ⟨x,s1⟩ H1 F1 θ1 _ Y p1 b1 ov r1;refine hi σ H1 F1 θ1 s1 _ b1 (PoR.bind p1 ?_);rintro ⟨y,s2⟩ H2 F2 θ2 _ J p2 b2 iv r2;dsimp only at p2 b2 r2;split at p2;rename_i i _;split at p2;rename_i k ds e;obtain⟨ek,e'⟩:=mY e;subst ek;obtain⟨a,xs,rfl,hk,hF,h1,h2⟩:=jO b2 (r1.mono J.ff J.pre) e';split at p2;rename_i j ej;obtain⟨ac,b3⟩:=b2.setC hk e' hF (aI.set ((rd.mono Y.ff Y.pre).mono J.ff J.pre) j h2);exact#[a,xs,i,j,rfl,bH.mp r2,h1,by rw[h2.length];exact ej,p2 _ _ _ ac _ b3];exact sH p2;exact sH p2;exact sH p2
theorem BS.frz(b:BS K ca σ H F θ s)(hk:θ[k]? =pr a)(hc:s.o[k]? =pr (.lst ds))(hF:F a=qh)(hH:H a=pr (.lst xs))(hr:aI K ca θ F ds xs):
 Stp H F θ H (upd F a (.lst xs)) θ/\BS K ca σ H (upd F a (.lst xs)) θ #[s.r,s.o.set k .dead]/\Rep K ca θ (upd F a (.lst xs)) (.lst ds) (.ref a):=by
 have hm:a∈θ:=SI hk;have Y:cg F (upd F a (.lst xs)):=λe o J=>by rw[aZ (λz=>by rw[z,hF] at J;cases J)];exact J
 refine#[#[Y,#[[],by simp,by simp],λe o J _=>J,λe o J=>#[o,J],λe o J=> ?_],#[#[λe o J=> ?_,b.now.nd,by simpa using b.now.ln,λj a' c' e1 e2=> ?_],b.len,λi d e=> ?_], ?_];by_cases z:e=a;exact .inr (.inr (by rw[z];exact hm));rw[aZ z] at J;exact .inl J;by_cases z:e=a;subst z;rw[dg] at J;rw[hH];exact J;rw[aZ z] at J;exact b.now.fh _ _ J;by_cases hj:k=j;subst hj;rw[hk] at e1;cases e1;have:k<s.o.length:=(Ch.mp hc).1;rw[S6 this] at e2;cases e2;exact#[_,hH];rw[Tc hj] at e2;have q:=b.now.ce j a' c' e1 e2;have ne:a'≠a:=λz=>by subst z;exact hj (uE b.now.nd hk e1)
 cases c' with
 | dead=>exact q
 | lst ds=>obtain⟨q1,ys,q2,q3⟩:=q;exact#[by rw[aZ ne];exact q1,ys,q2,q3.mono Y #[[],by simp]]
 | ins c ns ds=>obtain⟨q1,dx,ys,q2,q3,q4⟩:=q;exact#[by rw[aZ ne];exact q1,dx,ys,q2,q3,q4.mono Y #[[],by simp]]
 obtain⟨v,h1,h2⟩:=b.sl i d e;exact#[v,h1,h2.mono Y #[[],by simp]];unfold Rep;exact#[a,xs,rfl,SqL.of dg,hr.mono Y #[[],by simp]]
def iu(m:EM):EM:=λs=>(m s).bind λx=>match gO x.2.o x.1 with
 | some (k,ds)=>.ok (.lst ds,#[x.2.r,x.2.o.set k .dead])
 | none=>.bad
theorem kK(h:RdE C t m):RdE C t (iu m):=by intro σ H F θ s Q b p;refine h σ H F θ s _ b (PoR.bind p ?_);rintro ⟨x,s1⟩ H1 F1 θ1 _ ac p1 J v r1;dsimp only at p1 J r1;split at p1;rename_i k ds e;obtain⟨rfl,e'⟩:=mY e;obtain⟨a,xs,rfl,hk,hF,h1,h2⟩:=jO J r1 e';obtain⟨Y,b2,r2⟩:=J.frz hk e' hF h1 h2;exact p1 _ _ _ Y b2 _ r2;exact sH p1
def o6(m:Nat)(caps:List Nat)(r:List (Option D)):List (Option D):=wn m qh++caps.map λi=>(r[i]?).getD qh
theorem JX(b:BS K ca σ H F θ s)(m:Nat)(caps:List Nat):BS K ca (pq m caps σ) H F θ #[o6 m caps s.r,s.o]:=by
 refine#[b.now,by unfold pq o6;simp,λi d e=> ?_];unfold o6 at e;dsimp only at e;by_cases hi:i<m;rw[AT (by simpa using hi),IR] at e;split at e <;> cases e;rw[wP (by simpa using hi)] at e;simp only[UB,wT] at e;cases q:caps[i-m]? with
 | none=>rw[q] at e;cases e
 | some j=>
  rw[q] at e;simp only[Tn,WS] at e;have e':s.r[j]? =pr (pr d):=by
   cases z:s.r[j]? with
   | none=>rw[z] at e;simp at e
   | some J=>rw[z] at e;simp at e;rw[e]
  obtain⟨v,h1,h2⟩:=b.sl j d e';refine#[v, ?_,h2];unfold pq;rw[wP (by simpa using hi)];simp only[UB,wT,q,Tn,h1,VL]
def bA:TM:=λs=>.ok (ss,s)
theorem bG:RdT C MQ bA:=λσ H F θ s Q b p=>p H F θ .refl b
open Classical in
noncomputable def fv (ok:aD->Prop)(g:GM)(c:TM)(e:EM):List D->List D->S->Res (List D×S)
 | [],acc,s=>if ok s.o then .ok (acc,s) else .bad
 | d::ds,acc,s=>if ok s.o/\acc.length<16777216 then (g d s).bind λs1=>(c s1).bind λx=>if x.1 then (e x.2).bind λy=>fv ok g c e ds (acc++[y.1]) y.2 else fv ok g c e ds acc x.2 else .bad
noncomputable def oy (m:Nat)(caps:List Nat)(im:IM)(g:GM)(c:TM)(e:EM):S->Res (List D×S):=λs=>(im s).bind λy=>
 (fv (okC y.1.1 y.1.2) g c e y.1.1 [] #[o6 m caps y.2.r,y.2.o]).bind λz=>.ok (z.1,#[y.2.r,z.2.o])
theorem Fs {m:Nat} {caps:List Nat} {c:TM} (hi:RdI C wi im) (hg:RdG C g gm) (hc:RdT C tc c) (he:RdE C te e)
 {σ:L2.St} {H F:Hp} {θ:List sK} {s:S} {Q:VK} (b:BS C.K C.ca σ H F θ s)
 (p:PoR C H F θ (oy m caps im gm c e s) λy H1 F1 θ1=>BS C.K C.ca σ H1 F1 θ1 y.2->∀q xs,H q=qh->H1 q=pr (.lst xs)->F1 q=qh->q∉θ1->aI C.K C.ca θ1 F1 y.1 xs->Q (.ref q) H1):tW m caps wi g tc te σ H Q:=by
 refine hi σ H F θ s _ b (PoR.bind p ?_);rintro ⟨⟨ds,k⟩,s1⟩ H1 F1 θ1 _ co p1 b1 J it q hq;dsimp only at p1 b1 it;have cp:Stp H1 F1 θ1 (upd H1 q (.lst [])) F1 θ1:=by
  have nm:∀a u,H1 a=pr u->a≠q:=λa u e z=>by rw[z,hq] at e;cases e
  exact#[cg.refl _,#[[],by simp,by simp],λa u h _=>by rw[aZ (nm a u h)];exact h,λa u h=>#[u,by rw[aZ (nm a u h)];exact h],λa u h=>.inl h]
 have cc:q∉θ1:=λh=>by obtain⟨u,hu⟩:=b1.now.there h;rw[hq] at hu;cases hu
 have qF:F1 q=none:=by
  cases e:F1 q with
  | none=>rfl
  | some u=>rw[b1.now.fh q u e] at hq;cases hq
 have cr:H q=none:=by
  cases e:H q with
  | none=>rfl
  | some u=>obtain⟨u',e'⟩:=co.al q u e;rw[hq] at e';cases e'
 have keep:∀{H2 F2 H3 F3:Hp} {θ2 b2:List sK} {o:HO},Stp H2 F2 θ2 H3 F3 b2->H2 q=pr o->F2 q=qh->q∉θ2->H3 q=pr o/\F3 q=qh/\q∉b2:=λ{H2 F2 H3 F3 θ2 b2 o} st h1 h2 h3=>by
  refine#[st.kp q o h1 h3, ?_, ?_];cases e:F3 q with
  | none=>rfl
  | some u=>
   rcases st.nf q u e with z | z | z;rw[h2] at z;cases z;rw[h1] at z;cases z;exact absurd z h3
  obtain⟨r,rfl,hr⟩:=st.th;intro hm;rcases xz.mp hm with z | z
  exact h3 z;rw[hr q z] at h1;cases h1
 have ci:∀{an:L2.St} {H2 F2:Hp} {θ2:List sK} {s2:S} (o:HO),BS C.K C.ca an H2 F2 θ2 s2->F2 q=qh->q∉θ2->BS C.K C.ca an (upd H2 q o) F2 θ2 s2:=λ{an H2 F2 θ2 s2} o b h1 h2=>by
  have ne:∀a,a∈θ2->a≠q:=λa h z=>h2 (z▸h);refine#[#[λa u h=> ?_,b.now.nd,b.now.ln,λj a c e1 e2=> ?_],b.len,b.sl];have:a≠q:=λz=>by rw[z,h1] at h;cases h
  rw[aZ this];exact b.now.fh a u h;have hm:=ne a (SI e1);have w:=b.now.ce j a c e1 e2;cases c with
  | dead=>obtain⟨u,hu⟩:=w;exact#[u,by rw[aZ hm];exact hu]
  | lst ds=>obtain⟨q1,ys,q2,q3⟩:=w;exact#[q1,ys,by rw[aZ hm];exact q2,q3]
  | ins c ns ds=>obtain⟨q1,dx,ys,q2,q3,q4⟩:=w;exact#[q1,dx,ys,by rw[aZ hm];exact q2,q3,q4]
 have cu:∀{H2 F2:Hp} {θ2:List sK} (o:HO),Stp H1 F1 θ1 H2 F2 θ2->Stp H1 F1 θ1 (upd H2 q o) F2 θ2:=λ{H2 F2 θ2} o st=>by
  have nm:∀a u,H1 a=pr u->a≠q:=λa u e z=>by rw[z,hq] at e;cases e
  exact#[st.ff,st.th,λa u h1 h2=>by rw[aZ (nm a u h1)];exact st.kp a u h1 h2,λa u h1=>by rw[aZ (nm a u h1)];exact st.al a u h1,st.nf]
 refine#[λi n ab an H'=>n=ds.length-i/\i<=ds.length/\∃F' Y s' as,Stp H1 F1 θ1 H' F' Y/\H' q=pr (.lst ab)/\F' q=qh/\q∉Y/\BS C.K C.ca an H' F' Y s'/\aI C.K C.ca Y F' as ab/\
  PoR C H1 F1 θ1 ((fv (okC ds k) gm c e (ds.drop i) as s').bind λz=>.ok (z.1,(#[s1.r,z.2.o]:S))) (λy H1 F1 θ1=>BS C.K C.ca σ H1 F1 θ1 y.2->∀q xs,H q=qh->H1 q=pr (.lst xs)->F1 q=qh->q∉θ1->aI C.K C.ca θ1 F1 y.1 xs->Q (.ref q) H1),
  #[ds.length,by simp,SU _,F1,θ1,#[o6 m caps s1.r,s1.o],[],cp,dg,qF,cc,ci _ (JX b1 m caps) qF cc,aI.nil,by simpa using p1], ?_]
 rintro i n ab an H' ⟨rfl,dn,F',Y,s',as,st,hq',ck,bt,bs,be,po⟩;by_cases lt:i<ds.length;right;rw[S0 lt,fv] at po;split at po;rename_i bf;refine#[it.go i H' F' Y s'.o lt st bs.now bf.1, ?_];intro x H3 hy;obtain⟨F3,bm,b3,rp⟩:=it.yl i ds[i] an H' F' Y s' x H3 (ut lt) st bs bf.1 hy;obtain⟨k1,k2,k3⟩:=keep bm hq' ck bt;have ap:=st.trans bm;have bn:=PoR.after ap po;have w1:PoG C H3 F3 Y (gm ds[i] s') (λaz H4=>tc az H4 λb H4=>if b=ss then
  te az H4 λy H5=>H5 q=pr (.lst ab)/\ab.length<sizeLine/\∃k',k'<ds.length-i/\(k'=ds.length-(i+1)/\i+1<=ds.length/\∃F' Y s' as,Stp H1 F1 θ1 (upd H5 q (.lst (ab++[y]))) F' Y/\(upd H5 q (.lst (ab++[y]))) q=pr (.lst (ab++[y]))/\F' q=qh/\q∉Y/\BS C.K C.ca az (upd H5 q (.lst (ab++[y]))) F' Y s'/\aI C.K C.ca Y F' as (ab++[y])/\
   PoR C H1 F1 θ1 ((fv (okC ds k) gm c e (ds.drop (i+1)) as s').bind λz=>.ok (z.1,(#[s1.r,z.2.o]:S))) (λy H1 F1 θ1=>BS C.K C.ca σ H1 F1 θ1 y.2->∀q xs,H q=qh->H1 q=pr (.lst xs)->F1 q=qh->q∉θ1->aI C.K C.ca θ1 F1 y.1 xs->Q (.ref q) H1))
  else ∃k',k'<ds.length-i/\(k'=ds.length-(i+1)/\i+1<=ds.length/\∃F' Y s' as,Stp H1 F1 θ1 H4 F' Y/\H4 q=pr (.lst ab)/\F' q=qh/\q∉Y/\BS C.K C.ca az H4 F' Y s'/\aI C.K C.ca Y F' as ab/\
   PoR C H1 F1 θ1 ((fv (okC ds k) gm c e (ds.drop (i+1)) as s').bind λz=>.ok (z.1,(#[s1.r,z.2.o]:S))) (λy H1 F1 θ1=>BS C.K C.ca σ H1 F1 θ1 y.2->∀q xs,H q=qh->H1 q=pr (.lst xs)->F1 q=qh->q∉θ1->aI C.K C.ca θ1 F1 y.1 xs->Q (.ref q) H1))):=by
  cases e1:gm ds[i] s' with
  | bad=>rw[e1] at bn;exact bn
  | exc a1 a2 a3=>rw[e1] at bn;exact bn
  | ok s4=>
   rw[e1] at po;intro H4 F4 cw a4 az b4;obtain⟨l1,l2,l3⟩:=keep a4 k1 k2 k3;refine hc az H4 F4 cw s4 _ b4 ?_;cases e2:c s4 with
   | bad=>rw[aj,e2] at po;exact po
   | exc a1 a2 a3=>rw[aj,e2] at po;exact PoR.after (ap.trans a4) po
   | ok x5=>
    obtain⟨kk,s5⟩:=x5;rw[aj,e2,aj] at po;intro H5 F5 cn a5 b5;obtain⟨m1,m2,m3⟩:=keep a5 l1 l2 l3;have bi:=((be.mono bm.ff bm.pre).mono a4.ff a4.pre).mono a5.ff a5.pre;cases kk with
    | false=>
     exact t8 #[ds.length-(i+1),⋯,rfl,⋯,F5,cn,s5,as,ap.trans (a4.trans a5),m1,m2,m3,b5,bi,by simpa using po]
    | true=>
     refine tK (he az H5 F5 cn s5 _ b5 ?_);dsimp only[if_true] at po;cases e3:e s5 with
     | bad=>rw[e3] at po;exact po
     | exc a1 a2 a3=>rw[e3] at po;exact PoR.after (ap.trans (a4.trans a5)) po
     | ok x6=>
      obtain⟨y,s6⟩:=x6;rw[e3,aj] at po;intro H6 F6 cA bp b6 w r6;obtain⟨n1,n2,n3⟩:=keep bp m1 m2 m3;exact#[n1,by rw[be.length];exact bf.2,ds.length-(i+1),⋯,rfl,⋯,F6,cA,s6,as++[y],cu _ (ap.trans (a4.trans (a5.trans bp))),dg,n2,n3,ci _ b6 n2 n3,(bi.mono bp.ff bp.pre).append (aI.one r6),po]
 exact hg an H3 F3 Y s' ds[i] x _ b3 rp w1;exact sH po;left;rw[Ut ⋯,fv] at po;split at po;rename_i bf;refine#[it.st i H' F' Y s'.o ⋯ st bs.now bf,hq', ?_];refine po H' F' Y st #[bs.now,b1.len,λj d e=> ?_] q ab cr hq' ck bt be;obtain⟨v,h1,h2⟩:=b1.sl j d e;exact#[v,h1,h2.mono st.ff st.pre];exact sH po
noncomputable def bF (m:Nat)(caps:List Nat)(im:IM)(g:GM)(c:TM)(e:EM):EM:=λs=>(oy m caps im g c e s).bind λy=>.ok (.lst y.1,y.2)
theorem bO{m:Nat}{c:TM}(hi:RdI C wi im)(hg:RdG C g gm)(hc:RdT C tc c)(he:RdE C te e):RdE C (tW m caps wi g tc te) (bF m caps im gm c e):=by
 intro σ H F θ s Q b p;refine Fs hi hg hc he b ?_;unfold bF at p;cases e1:oy m caps im gm c e s with
 | bad=>rw[e1] at p;exact p
 | exc a1 a2 a3=>rw[e1] at p;exact p
 | ok y=>
  rw[e1,aj] at p;intro H1 F1 θ1 J Y q xs h0 h1 h2 h3 hr;have sF:cg F1 (upd F1 q (.lst xs)):=λa u h=>by rw[aZ (λz=>by rw[z,h2] at h;cases h)];exact h
  refine p H1 (upd F1 q (.lst xs)) θ1 #[J.ff.trans sF,J.th,J.kp,J.al,λa u h=> ?_] #[#[λa u h=> ?_,Y.now.nd,Y.now.ln,λj a c e2 e3=> ?_],Y.len,λi d e2=> ?_] (.ref q) ?_;by_cases z:a=q;subst z;exact .inr (.inl h0);rw[aZ z] at h;exact J.nf a u h;by_cases z:a=q;subst z;rw[dg] at h;rw[h1];exact h;rw[aZ z] at h;exact Y.now.fh a u h;have ne:a≠q:=λz=>h3 (z▸SI e2);have w:=Y.now.ce j a c e2 e3;cases c with
  | dead=>exact w
  | lst ds=>obtain⟨q1,ys,q2,q3⟩:=w;exact#[by rw[aZ ne];exact q1,ys,q2,q3.mono sF #[[],by simp]]
  | ins c ns ds=>obtain⟨q1,dx,ys,q2,q3,q4⟩:=w;exact#[by rw[aZ ne];exact q1,dx,ys,q2,q3,q4.mono sF #[[],by simp]]
  obtain⟨v,w1,w2⟩:=Y.sl i d e2;exact#[v,w1,w2.mono sF #[[],by simp]];unfold Rep;exact#[q,xs,rfl,SqL.of dg,hr.mono sF #[[],by simp]]
noncomputable def nv (m:Nat)(caps:List Nat)(im:IM)(g:GM)(c:TM)(e:EM):EM:=λs=>(oy m caps im g c e s).bind λy=>.ok (.ptr y.2.o.length,#[y.2.r,y.2.o++[.lst y.1]])
theorem nU{m:Nat}{c:TM}(hi:RdI C wi im)(hg:RdG C g gm)(hc:RdT C tc c)(he:RdE C te e):RdE C (tW m caps wi g tc te) (nv m caps im gm c e):=by
 intro σ H F θ s Q b p;refine Fs hi hg hc he b ?_;unfold nv at p;cases e1:oy m caps im gm c e s with
 | bad=>rw[e1] at p;exact p
 | exc a1 a2 a3=>rw[e1] at p;exact p
 | ok y=>
  rw[e1,aj] at p;intro H1 F1 θ1 J Y q xs h0 h1 h2 h3 hr;obtain⟨r,er,ab⟩:=J.th;refine p H1 F1 (θ1++[q]) #[J.ff,#[r++[q],by rw[er,Ta],λa ha=> ?_],J.kp,J.al,J.nf] #[#[Y.now.fh, ?_,by simp[Y.now.ln],λk a c e2 e3=> ?_],Y.len,λi d e2=> ?_] (.ref q) ?_;rcases xz.mp ha with z | z
  exact ab a z;rw[ww.mp z];exact h0;refine Ue.mpr #[Y.now.nd,by simp,λa ha x hx=> ?_];rw[ww.mp hx];rintro rfl;exact h3 ha;by_cases hk:k<θ1.length;rw[AT hk] at e2;dsimp only at e3;rw[AT (by rw[<- Y.now.ln];exact hk)] at e3;have w:=Y.now.ce k a c e2 e3;cases c with
  | dead=>exact w
  | lst ds=>obtain⟨q1,ys,q2,q3⟩:=w;exact#[q1,ys,q2,q3.mono (cg.refl _) #[[q],rfl]]
  | ins c ns ds=>obtain⟨q1,dx,ys,q2,q3,q4⟩:=w;exact#[q1,dx,ys,q2,q3,q4.mono (cg.refl _) #[[q],rfl]]
  have am:k<(θ1++[q]).length:=(Ch.mp e2).1;have an:k=θ1.length:=by simp at am;omega
  subst an;rw[wP (wS _)] at e2;dsimp only at e3;rw[wP (by rw[Y.now.ln];exact wS _),Y.now.ln] at e3;simp at e2 e3;subst e2;subst e3;exact#[h2,xs,h1,hr.mono (cg.refl _) #[[q],rfl]];obtain⟨v,w1,w2⟩:=Y.sl i d e2;exact#[v,w1,w2.mono (cg.refl _) #[[q],rfl]];unfold Rep;exact#[q,rfl,by rw[<- Y.now.ln];simp]
end
section
variable {C : Ct}
theorem wI(p:PoE C σ H F θ (.ok (.ptr s.o.length,(#[s.r,s.o++[.lst ds]]:S))) Q)(b:BS C.K C.ca σ H F θ s)(r:aI C.K C.ca θ F ds xs):
 ∀q,H q=qh->Q (.ref q) (upd H q (.lst xs)):=λq hq=>by
 obtain⟨st,J,Y⟩:=b.newC hq r;exact p _ _ _ st J _ Y
def xp(O:aD):D->Option (List D)
 | .tup ds=>pr ds
 | x=>lsD O x
def Dd(m:EM):EM:=λs=>(m s).bind λx=>match xp x.2.o x.1 with
 | some ds=>.ok (.ptr x.2.o.length,#[x.2.r,x.2.o++[.lst ds]])
 | none=>.bad
theorem Md(h:RdE C t m):RdE C (tCB (λxs H Q=>∃p ys,xs=[.ref p]/\(SqL C.K H p ys\/SqT C.K H p ys)/\∀l,H l=qh->Q (.ref l) (upd H l (.lst ys))) (kR t o5)) (Dd m):=by
 intro σ H F θ s Q b p;refine h σ H F θ s _ b (PoR.bind p ?_);rintro ⟨x,s1⟩ H1 F1 θ1 _ ab p1 J v Y;dsimp only at p1 J Y;split at p1;rename_i ds e;cases x with
 | tup es=>
  cases e;obtain⟨a,xs,rfl,hs,hr⟩:=zY J Y;exact#[a,xs,rfl,.inr hs,wI p1 J hr]
 | _=>
  obtain⟨a,xs,rfl,hs,hr⟩:=fu J Y e;exact#[a,xs,rfl,.inl hs,wI p1 J hr]
 exact sH p1
mutual
def shD(n:Nat):D->D
 | .lst ds=>.lst (fL n ds)
 | .tup ds=>.tup (fL n ds)
 | .ptr k=>.ptr (n+k)
 | .obj c ns ds=>.obj c ns (fL n ds)
 | .exn c=>.exn c
 | .non=>.non
 | .bl b=>.bl b
 | .int i=>.int i
 | .str x=>.str x
def fL(n:Nat):List D->List D
 | []=>[]
 | d::ds=>shD n d::fL n ds
end
def shC(n:Nat):Cell->Cell
 | .dead=>.dead
 | .lst ds=>.lst (fL n ds)
 | .ins c ns ds=>.ins c ns (fL n ds)
section
variable {K : uY} {ca : Nat → sK} {F : Hp} {θ θ1 : List sK}
mutual
theorem Ju:∀{d:D} {v:V},Rep K ca θ1 F d v->Rep K ca (θ++θ1) F (shD θ.length d) v
 | .non,_,h=>by unfold shD;exact h
 | .bl _,_,h=>by unfold shD;exact h
 | .int _,_,h=>by unfold shD;exact h
 | .str _,_,h=>by unfold shD;exact h
 | .lst ds,_,h=>by unfold shD;unfold Rep at h ⊢;obtain⟨a,xs,e,hs,hr⟩:=h;exact#[a,xs,e,hs,p6 hr]
 | .tup ds,_,h=>by unfold shD;unfold Rep at h ⊢;obtain⟨a,xs,e,hs,hr⟩:=h;exact#[a,xs,e,hs,p6 hr]
 | .ptr k,_,h=>by unfold shD;unfold Rep at h ⊢;obtain⟨a,e,hk⟩:=h;exact#[a,e,by rw[wP (VW _ _),SR];exact hk]
 | .obj c ns ds,_,h=>by unfold shD;unfold Rep at h ⊢;obtain⟨a,dx,xs,e,ha,J,hr⟩:=h;exact#[a,dx,xs,e,ha,J,p6 hr]
 | .exn c,_,h=>by unfold shD;unfold Rep at h ⊢;exact h
theorem p6:∀{ds:List D} {xs:List V},aI K ca θ1 F ds xs->aI K ca (θ++θ1) F (fL θ.length ds) xs
 | [],_,h=>by unfold fL;exact h
 | d::ds,_,h=>by unfold fL;unfold aI at h ⊢;obtain⟨v,r,e,h1,h2⟩:=h;exact#[v,r,e,Ju h1,p6 h2]
end
end
theorem BS.calledO(b:BS K ca σ H F θ s)(st:Stp H F [] H1 F1 θ1)(n:Now K ca H1 F1 θ1 O1):
 Stp H F θ H1 F1 (θ++θ1)/\BS K ca σ H1 F1 (θ++θ1) #[s.r,s.o++O1.map (shC s.o.length)]:=by
 obtain⟨J,b0⟩:=b.called st n;obtain⟨r,er,hr⟩:=st.th;rw[Cs] at er;subst er;refine#[#[J.ff,#[θ1,rfl,hr],J.kp,J.al,J.nf],#[#[n.fh,Ue.mpr #[b.now.nd,n.nd,λa ha x hx=> ?_],by simp[b.now.ln,n.ln],λk a c e1 e2=> ?_],b.len,λi d e=> ?_]];rintro rfl;obtain⟨u,hu⟩:=b.now.there ha;rw[hr a hx] at hu;cases hu;by_cases hk:k<θ.length;rw[AT hk] at e1;dsimp only at e2;rw[AT (by rw[<- b.now.ln];exact hk)] at e2;have w:=b0.now.ce k a c e1 e2;cases c with
 | dead=>exact w
 | lst ds=>obtain⟨q1,ys,q2,Y⟩:=w;exact#[q1,ys,q2,Y.mono (cg.refl _) #[θ1,rfl]]
 | ins c ns ds=>obtain⟨q1,dx,ys,q2,Y,q4⟩:=w;exact#[q1,dx,ys,q2,Y,q4.mono (cg.refl _) #[θ1,rfl]]
 rw[wP ⋯] at e1;dsimp only at e2;rw[wP (by rw[<- b.now.ln];omega),wT,<- b.now.ln] at e2;cases e3:O1[k-θ.length]? with
 | none=>rw[e3] at e2;cases e2
 | some c'=>
  rw[e3] at e2;cases e2;have w:=n.ce _ a c' e1 e3;cases c' with
  | dead=>exact w
  | lst ds=>obtain⟨q1,ys,q2,Y⟩:=w;exact#[q1,ys,q2,p6 Y]
  | ins c ns ds=>obtain⟨q1,dx,ys,q2,Y,q4⟩:=w;exact#[q1,dx,ys,q2,Y,p6 q4]
 obtain⟨v,h1,h2⟩:=b0.sl i d e;exact#[v,h1,h2.mono (cg.refl _) #[θ1,rfl]]
def d9(n:Nat)(f:FM)(ma:AM):EM:=λs=>(ma s).bind λx=>if aU x.1=ss/\x.1.length=n then (match f x.1 [] with
 | .ok (d,O1)=>.ok (shD x.2.o.length d,#[x.2.r,x.2.o++O1.map (shC x.2.o.length)])
 | _=>.bad) else .bad
theorem gH{f:FM}(ha:RdA C ta ma):RdE C (uk (spM C.K C.ca n f) [] E ta) (d9 n f ma):=by intro σ H F θ s Q b p;refine ha σ H F θ s _ b (PoR.bind p ?_);rintro ⟨x,s1⟩ H1 F1 θ1 _ am p1 J v r1;dsimp only at p1 J r1 ⊢;split at p1;rename_i hp;rw[TJ];refine#[F1,[],x,[],Now.nil J.now.fh,r1.pure hp.1,hp.2, ?_];split at p1;rename_i d O1 e;rw[e];intro v H2 F2 θ2 Y n2 rv;obtain⟨ab,b3⟩:=J.calledO Y n2;refine p1 H2 F2 _ ab b3 v ?_;rw[<- J.now.ln];exact Ju rv;exact sH p1;exact sH p1
def gC(n:Nat)(f:FM)(ma:AM):EM:=λs=>(ma s).bind λx=>if aU (cD x.2.o (cD x.2.o x.1))=ss/\x.1.length=n then (match f (cD x.2.o (cD x.2.o x.1)) [] with
 | .ok (d,_)=>if px d=ss then .ok (d,x.2) else .bad
 | _=>.bad) else .bad
theorem lO(O:aD):∀ds:List D,(cD O ds).length=ds.length
 | []=>by unfold cD;rfl
 | d::ds=>by unfold cD;rw[AC,AC,lO O ds]
theorem mD{f:FM}(ha:RdA C ta ma):RdE C (uk (spM C.K C.ca n f) [] E ta) (gC n f ma):=by
 intro σ H F θ s Q b p;refine ha σ H F θ s _ b (PoR.bind p ?_);rintro ⟨x,s1⟩ H1 F1 θ1 _ am p1 J v r1;dsimp only at p1 J r1 ⊢;split at p1;rename_i hp;rw[TJ];have rr:aI C.K C.ca θ1 H1 (cD s1.o (cD s1.o x)) v:=mJ J.now J.now.fh (cg.refl _) (mJ J.now (cg.refl _) J.now.fh r1);refine#[H1,[],cD s1.o (cD s1.o x),[],Now.nil (cg.refl _),rr.pure hp.1,by rw[lO,lO];exact hp.2, ?_];split at p1;rename_i d O1 e;rw[e];intro v H2 F2 θ2 Y n2 rv;split at p1;rename_i sd;have kp:∀a o,H1 a=pr o->H2 a=pr o:=λa o h=>Y.kp a o h (by simp);refine p1 H2 F1 θ1 #[cg.refl _,#[[],by simp,by simp],λa o h _=>kp a o h,Y.al,λa o h=>.inl h] #[#[λa o h=>kp a o (J.now.fh a o h),J.now.nd,J.now.ln,λk a c e1 e2=> ?_],J.len,J.sl] v (rv.scal sd);have w:=J.now.ce k a c e1 e2;cases c with
 | dead=>obtain⟨o,ho⟩:=w;exact#[o,kp a o ho]
 | lst ds=>obtain⟨q1,ys,q2,q3⟩:=w;exact#[q1,ys,kp _ _ q2,q3]
 | ins c ns ds=>obtain⟨q1,dx,ys,q2,q3,q4⟩:=w;exact#[q1,dx,ys,kp _ _ q2,q3,q4]
 exact sH p1;exact sH p1;exact sH p1
end
def MA(P:FS)(w:IN)(K:uY)(mg:Str->Option sn)(base:Rs)(ca:Nat->sK)(lv:Nat)(x:Str)(ps:List Str)(f:FM)(a:sK)(fd:Tr):Prop:=
 lE P w K mg base (CXE P w) lv a fd ps (spM K ca ps.length f)/\mg x=pr (.ref a)/\SO K (.ref a)=ss/\Binds K fd ps []
def MP(P:FS)(w:IN)(K:uY)(mg:Str->Option sn)(base:Rs)(ca:Nat->sK)(lv:Nat)(x:Str)(ps:List Str)(f:FM):Prop:=∃a fd,MA P w K mg base ca lv x ps f a fd
theorem Cp{K:uY}{ca:Nat->sK}{θ:List sK}{F:Hp}:∀ns:List Int,aI K ca θ F (ns.map D.int) (ns.map V.int)
 | []=>aI.nil
 | _::ns=>aI.cons (bH.mpr rfl) (Cp ns)
theorem OR{ns:List Int}{f:FM}(J:SqL K H a (ns.map V.int))(h:∃O,f [.lst (ns.map D.int)] []=.ok (.bl ss,O)):spM K ca 1 f [.ref a] H (λv _=>v=.bl ss) E:=by obtain⟨O,h⟩:=h;refine#[H,[],[.lst (ns.map D.int)],[],Now.nil (cg.refl _),aI.one ?_,rfl, ?_];unfold Rep;exact#[a,ns.map V.int,rfl,J,Cp ns];rw[h];intro v H1 F1 θ1 _ _ r;exact cM.mp r
theorem oh{A:SN}(hr:fU k A)(hk:32<=k):A.depth+100<recursionLimit:=by have:=hr.dp;omega
def A2(i:Nat)(s:S):Nat:=match s.r[i]? with
 | some (pr (.int j))=>j.natAbs+1
 | _=>0
section
variable {C : Ct}
def mn(as bs:List D):List D:=Tf (λa b=>.tup [a,b]) as bs
def kr(m:AM):IM:=λs=>(m s).bind λx=>match x.1 with
 | [.lst as,.lst bs]=>.ok ((mn as bs,qh),x.2)
 | _=>.bad
theorem tQ{as bs:List D}(h:(mn as bs)[i]? =pr d):∃x y,as[i]? =pr x/\bs[i]? =pr y/\d=.tup [x,y]:=by
 unfold mn at h;rw[U3] at h;cases h1:as[i]? with
 | none=>rw[h1] at h;cases h
 | some x=>
  cases h2:bs[i]? with
  | none=>rw[h1,h2] at h;cases h
  | some y=>
   rw[h1,h2] at h;cases h;exact#[x,y,rfl,rfl,rfl]
theorem OP{a b:sK}{xs ys:List V}{as bs:List D}{H F:Hp}(h1:SqL C.K F a xs)(h2:SqL C.K F b ys)(r1:aI C.K C.ca θ F as xs)(r2:aI C.K C.ca θ F bs ys):
 wm C (Itz C.K a b) (mn as bs) (okC (mn as bs) qh) H F θ where
 go:=λi H2 F2 θ2 O2 hi st n _=>by obtain⟨x,y,e1,e2,_⟩:=tQ (ut hi);obtain⟨v,q1,_⟩:=r1.get e1;obtain⟨w,q2,_⟩:=r2.get e2;exact#[xs,ys,v,w,n.fh.seq (st.ff.seq h1),n.fh.seq (st.ff.seq h2),q1,q2]
 yl:=λi d σ H2 F2 θ2 s2 x H3 hd st b _ hy=>by obtain⟨T,v,w,hT,rfl,rfl,hv,hw⟩:=hy;obtain⟨x,y,e1,e2,rfl⟩:=tQ hd;obtain⟨v',q1,k1⟩:=r1.get e1;obtain⟨w',q2,k2⟩:=r2.get e2;have:=hv xs (b.now.fh.seq (st.ff.seq h1));rw[q1] at this;cases this;have:=hw ys (b.now.fh.seq (st.ff.seq h2));rw[q2] at this;cases this;obtain⟨st3,b3,sF,e3⟩:=b.newF hT (.tup [v,w]);refine#[_,st3,b3, ?_];unfold Rep;exact#[T,[v,w],rfl,SqT.of e3,aI.cons ((k1.mono st.ff st.pre).mono st3.ff st3.pre) (aI.one ((k2.mono st.ff st.pre).mono st3.ff st3.pre))]
 st:=λi H2 F2 θ2 O2 hi st n _=>by refine#[xs,ys,n.fh.seq (st.ff.seq h1),n.fh.seq (st.ff.seq h2), ?_];unfold mn at hi;rw[Ti] at hi;rw[r1.length,r2.length];omega
theorem qM{m:AM}(h:RdA C ta m):RdI C (KW C.K ta) (kr m):=by intro σ H F θ s R b p;refine h σ H F θ s _ b (PoR.bind p ?_);rintro ⟨x,s1⟩ H1 F1 θ1 _ ap p1 Y v r1;dsimp only at p1 Y r1;split at p1;rename_i as bs;obtain⟨v1,v2,rfl,k1,k2⟩:=ML r1;unfold Rep at k1 k2;obtain⟨a,xs,rfl,hs,hr⟩:=k1;obtain⟨b',ys,rfl,J,ab⟩:=k2;exact#[a,b',rfl,#[xs,Y.now.fh.seq hs],#[ys,Y.now.fh.seq J],p1 _ _ _ .refl Y _ (OP hs J hr ab)];exact sH p1
def dR(ds:List D):List D:=ds.mapIdx λi d=>.tup [.int (i:Nat),d]
def cZ(m:AM):IM:=λs=>(m s).bind λx=>match x.1 with
 | [.lst as]=>.ok ((dR as,qh),x.2)
 | _=>.bad
theorem CA{as:List D}(h:(dR as)[i]? =pr d):∃x,as[i]? =pr x/\d=.tup [.int (i:Nat),x]:=by
 unfold dR at h;rw[List.getElem?_mapIdx] at h;cases h1:as[i]? with
 | none=>rw[h1] at h;cases h
 | some x=>
  rw[h1] at h;cases h;exact#[x,rfl,rfl]
theorem NO{as:List D}(h1:SqL C.K F a xs)(r1:aI C.K C.ca θ F as xs):wm C (Ite C.K a) (dR as) (okC (dR as) qh) H F θ where
 go:=λi H2 F2 θ2 O2 hi st n _=>by obtain⟨x,e1,_⟩:=CA (ut hi);obtain⟨v,q1,_⟩:=r1.get e1;exact#[xs,v,n.fh.seq (st.ff.seq h1),q1]
 yl:=λi d σ H2 F2 θ2 s2 x H3 hd st b _ hy=>by obtain⟨T,v,hT,rfl,rfl,hv⟩:=hy;obtain⟨x,e1,rfl⟩:=CA hd;obtain⟨v',q1,k1⟩:=r1.get e1;have:=hv xs (b.now.fh.seq (st.ff.seq h1));rw[q1] at this;cases this;obtain⟨st3,b3,sF,e3⟩:=b.newF hT (.tup [.int (i:Nat),v]);refine#[_,st3,b3, ?_];unfold Rep;exact#[T,[.int (i:Nat),v],rfl,SqT.of e3,aI.cons (bH.mpr rfl) (aI.one ((k1.mono st.ff st.pre).mono st3.ff st3.pre))]
 st:=λi H2 F2 θ2 O2 hi st n _=>by refine#[xs,n.fh.seq (st.ff.seq h1), ?_];unfold dR at hi;rw[List.length_mapIdx] at hi;rw[r1.length];exact hi
theorem fP{m:AM}(h:RdA C ta m):RdI C (MI C.K ta) (cZ m):=by intro σ H F θ s R b p;refine h σ H F θ s _ b (PoR.bind p ?_);rintro ⟨x,s1⟩ H1 F1 θ1 _ ac p1 J v Y;dsimp only at p1 J Y;split at p1;rename_i as;obtain⟨v1,rfl,k1⟩:=nC Y;unfold Rep at k1;obtain⟨a,xs,rfl,hs,hr⟩:=k1;exact#[a,rfl,#[xs,J.now.fh.seq hs],p1 _ _ _ .refl J _ (NO hs hr)];exact sH p1
def qz(x:Str):List D:=x.cps.toList.map λc=>.str #[#v[c]]
def Hh(m:EM):IM:=λs=>(m s).bind λx=>match x.1 with
 | .str z=>.ok ((qz z,qh),x.2)
 | _=>.bad
theorem Ph{z:Str}:wm C (Its z) (qz z) (okC (qz z) qh) H F θ where
 go:=λi H2 F2 θ2 O2 hi st n _=>by unfold qz at hi;show i<z.cps.size;simpa using hi
 yl:=λi d σ H2 F2 θ2 s2 x H3 hd st b _ hy=>by obtain⟨rfl,c,hc,rfl⟩:=hy;refine#[F2,.refl,b, ?_];unfold qz at hd;rw[wT,UA,hc] at hd;cases hd;exact dM.mpr rfl
 st:=λi H2 F2 θ2 O2 hi st n _=>by unfold qz at hi;show z.cps.size<=i;simpa using hi
theorem NQ(h:RdE C te m):RdI C (Pz te) (Hh m):=by
 intro σ H F θ s R b p;refine h σ H F θ s _ b (PoR.bind p ?_);rintro ⟨x,s1⟩ H1 F1 θ1 _ ab p1 J v Y;dsimp only at p1 J Y;cases x <;> first | exact sH p1 | skip
 rename_i z _;exact#[z,dM.mp Y,p1 _ _ _ .refl J _ Ph]
def ic:List D->Option (List Int)
 | []=>pr []
 | .int i::r=>(ic r).map (i:: ·)
 | _=>qh
def kW:List D->Option (List Bool)
 | []=>pr []
 | .bl i::r=>(kW r).map (i:: ·)
 | _=>qh
theorem tE{K:uY}{ca:Nat->sK}{θ:List sK}{F:Hp}:∀{ds:List D} {ns:List Int} {xs:List V},ic ds=pr ns->aI K ca θ F ds xs->xs=ns.map V.int
 | [],ns,xs,e,r=>by cases e;unfold aI at r;rw[r];rfl
 | d::ds,ns,xs,e,r=>by
  cases d <;> first | (cases e;done) | skip
  rename_i i;unfold ic at e;cases e2:ic ds with
  | none=>rw[e2] at e;cases e
  | some ms=>
   rw[e2] at e;cases e;unfold aI at r;obtain⟨v,w,rfl,h1,h2⟩:=r;rw[tE e2 h2,bH.mp h1];rfl
theorem xQ{K:uY}{ca:Nat->sK}{θ:List sK}{F:Hp}:∀{ds:List D} {ns:List Bool} {xs:List V},kW ds=pr ns->aI K ca θ F ds xs->xs=ns.map V.bl
 | [],ns,xs,e,r=>by cases e;unfold aI at r;rw[r];rfl
 | d::ds,ns,xs,e,r=>by
  cases d <;> first | (cases e;done) | skip
  rename_i i;unfold kW at e;cases e2:kW ds with
  | none=>rw[e2] at e;cases e
  | some ms=>
   rw[e2] at e;cases e;unfold aI at r;obtain⟨v,w,rfl,h1,h2⟩:=r;rw[xQ e2 h2,cM.mp h1];rfl
def ofInts(f:List Int->D):OpN:=λO xs=>match xs with
 | [x]=>match lsD O x with
  | some ds=>match ic ds with
   | some ns=>.ok (f ns)
   | none=>.bad
  | none=>.bad
 | _=>.bad
def xq(f:List Bool->D):OpN:=λO xs=>match xs with
 | [x]=>match lsD O x with
  | some ds=>match kW ds with
   | some ns=>.ok (f ns)
   | none=>.bad
  | none=>.bad
 | _=>.bad
def pe:OpN:=ofInts λns=>.int ns.sum
def Ht:OpN:=xq λbs=>.bl (bs.all id)
def Ea:OpN:=xq λbs=>.bl (bs.any id)
theorem J5{f:List Int->D}{g:List Int->V}(h:∀K ca θ F ns,Rep K ca θ F (f ns) (g ns)):jA C (λxs H Q=>∃(p:sK) (ns:List Int),xs=[.ref p]/\SqL C.K H p (ns.map V.int)/\Q (g ns) H) (ofInts f):=by intro σ H F θ s xs vs Q b r p;unfold ofInts at p;split at p;obtain⟨v,rfl,J⟩:=nC r;split at p;rename_i ds e;obtain⟨a,ys,rfl,hs,hr⟩:=fu b J e;split at p;rename_i ns e2;have:=tE e2 hr;subst this;exact#[a,ns,rfl,hs,dF p b (h ..)];exact sH p;exact sH p;exact sH p
theorem zV{f:List Bool->D}{g:List Bool->V}(h:∀K ca θ F ns,Rep K ca θ F (f ns) (g ns)):jA C (λxs H Q=>∃(p:sK) (ns:List Bool),xs=[.ref p]/\SqL C.K H p (ns.map V.bl)/\Q (g ns) H) (xq f):=by intro σ H F θ s xs vs Q b r p;unfold xq at p;split at p;obtain⟨v,rfl,J⟩:=nC r;split at p;rename_i ds e;obtain⟨a,ys,rfl,hs,hr⟩:=fu b J e;split at p;rename_i ns e2;have:=xQ e2 hr;subst this;exact#[a,ns,rfl,hs,dF p b (h ..)];exact sH p;exact sH p;exact sH p
theorem vS:jA C (λxs H Q=>∃(p:sK) (ns:List Int),xs=[.ref p]/\SqL C.K H p (ns.map V.int)/\Q (.int ns.sum) H) pe:=J5 λ_ _ _ _ _=>bH.mpr rfl
theorem IY:jA C (λxs H Q=>∃(p:sK) (bs:List Bool),xs=[.ref p]/\SqL C.K H p (bs.map V.bl)/\Q (.bl (bs.all id)) H) Ht:=zV λ_ _ _ _ _=>cM.mpr rfl
theorem Dt:jA C (λxs H Q=>∃(p:sK) (bs:List Bool),xs=[.ref p]/\SqL C.K H p (bs.map V.bl)/\Q (.bl (bs.any id)) H) Ea:=zV λ_ _ _ _ _=>cM.mpr rfl
def Ml:D->Bool
 | .non=>ss
 | _=>xL
def isD:Op2:=λ_ x y=>match x,y with
 | .bl a,.bl b=>.ok (.bl (a == b))
 | x,.non=>.ok (.bl (Ml x))
 | _,_=>.bad
def oP:Op2:=λ_ x y=>match y with
 | .non=>.ok (.bl (!Ml x))
 | _=>.bad
theorem Fq{K ca θ F}(r:Rep K ca θ F x v):decide (v=.non)=Ml x:=by
 cases x with
 | non=>rw[gD.mp r];rfl
 | bl b=>rw[cM.mp r];rfl
 | int b=>rw[bH.mp r];rfl
 | str b=>rw[dM.mp r];rfl
 | lst ds=>unfold Rep at r;obtain⟨a,xs,rfl,_⟩:=r;rfl
 | tup ds=>unfold Rep at r;obtain⟨a,xs,rfl,_⟩:=r;rfl
 | ptr k=>unfold Rep at r;obtain⟨a,rfl,_⟩:=r;rfl
 | obj c ns ds=>unfold Rep at r;obtain⟨a,dx,xs,rfl,_⟩:=r;rfl
 | exn c=>unfold Rep at r;obtain⟨a,rfl,_⟩:=r;rfl
theorem OL:OpR X (compareOp .Is) (λx y H Q=>∃a b,x=.bl a/\y=.bl b/\Q (.bl (a == b)) H):=by intro pins s σ H x y v u Q I J Y h;obtain⟨a,b,rfl,rfl,q⟩:=h;cases J;cases Y;exact is_bool (cU I q rfl)
def OW:R2:=λx y H Q=>(∃a b,x=.bl a/\y=.bl b/\Q (.bl (a == b)) H)\/(y=.non/\Q (.bl (decide (x=.non))) H)
theorem Qu:OpR X (compareOp .Is) OW:=OL.or ON
theorem G0:OpR X (compareOp .IsNot) (λx y H Q=>y=.non/\Q (.bl (!decide (x=.non))) H):=Of
theorem MK:ie C OW isD:=by intro σ H F θ s x y v w Q b J Y p;unfold isD at p;split at p;rename_i a c;exact .inl #[a,c,cM.mp J,cM.mp Y,dF p b (cM.mpr rfl)];exact .inr #[gD.mp Y,dF p b (cM.mpr (by rw[Fq J]))];exact sH p
theorem DQ:ie C (λx y H Q=>y=.non/\Q (.bl (!decide (x=.non))) H) oP:=by intro σ H F θ s x y v w Q b J Y p;unfold oP at p;split at p;exact#[gD.mp Y,dF p b (cM.mpr (by rw[Fq J]))];exact sH p
theorem JQ:OpR X (compareOp .LtE) (λx y H Q=>∃i j,x=.str i/\y=.str j/\Q (.bl (!decide (j.cps.toList<i.cps.toList))) H):=by intro pins s σ H x y v u Q I J Y h;obtain⟨i,j,rfl,rfl,q⟩:=h;obtain⟨t,rfl⟩:=J;obtain⟨t',rfl⟩:=Y;exact PySem.P.le_str (cU I q rfl)
def uz:Op2:=λ_ x y=>match x,y with
 | .str i,.str j=>.ok (.bl (!decide (j.cps.toList<i.cps.toList)))
 | _,_=>.bad
theorem J3:ie C (λx y H Q=>∃i j,x=.str i/\y=.str j/\Q (.bl (!decide (j.cps.toList<i.cps.toList))) H) uz:=by intro σ H F θ s x y v w Q b J Y p;unfold uz at p;split at p;rename_i i j;exact#[i,j,dM.mp J,dM.mp Y,dF p b (cM.mpr rfl)];exact sH p
def nD(f g:Op2)(a b c:EM):EM:=λs=>(a s).bind λx=>(b x.2).bind λy=>(f y.2.o x.1 y.1).bind λz=>match z with
 | .bl ss=>(c y.2).bind λw=>(g w.2.o y.1 w.1).bind λd=>.ok (d,w.2)
 | .bl xL=>.ok (.bl xL,y.2)
 | _=>.bad
theorem D5{r r':R2}{f g:Op2}{ta tb tc:TE}{ma mb mc:EM}(hf:ie C r f)(hg:ie C r' g)(ha:RdE C ta ma)(hb:RdE C tb mb)(hc:RdE C tc mc):RdE C (En r r' ta tb tc) (nD f g ma mb mc):=by
 intro σ H F θ s Q b p;refine ha σ H F θ s _ b (PoR.bind p ?_);rintro ⟨x,s1⟩ H1 F1 θ1 _ a4 p1 b1 v r1;refine hb σ H1 F1 θ1 s1 _ b1 (PoR.bind p1 ?_);rintro ⟨y,s2⟩ H2 F2 θ2 _ Y p2 b2 w r2;dsimp only at p2;refine hf σ H2 F2 θ2 s2 x y v w _ b2 (r1.mono Y.ff Y.pre) r2 ?_;cases e:f s2.o x y with
 | bad=>rw[e] at p2;exact p2
 | exc a1 a2 a3=>rw[e] at p2;exact p2
 | ok z=>
  rw[e,aj] at p2;rw[aj];intro H3 F3 ac J b3 u r3;cases z <;> first | exact sH p2 | skip
  rename_i k;refine#[k,cM.mp r3, ?_];cases k with
  | false=>exact t8 (PoR.after J p2 _ _ _ .refl b3 _ (cM.mpr rfl))
  | true=>
   refine tK (hc σ H3 F3 ac s2 _ b3 (PoR.bind (PoR.after J p2) ?_));rintro ⟨q,s4⟩ H4 F4 am _ ab p4 b4 w' r4;exact hg σ H4 F4 am s4 y q w w' Q b4 ((r2.mono J.ff J.pre).mono ab.ff ab.pre) r4 p4
def orD:Op2:=intD λi j=>.ok (.int (Builtin.bitOr i j))
theorem IU:ie C (rI0 λi j=>.int (Builtin.bitOr i j)) orD:=z4 λ_ _ _ _ _ _=>bH.mpr rfl
def Fe(mo me:EM):EM:=λs=>(mo s).bind λx=>match gO x.2.o x.1 with
 | some _=>(me x.2).bind λy=>match y.1,gO y.2.o x.1 with
  | .int i,pr (k,ds)=>if -(2^63)<=i/\i<2^63 then (match seqIndex? i ds.length with
   | some j=>match ds[j]? with
    | some d=>.ok (d,#[y.2.r,y.2.o.set k (.lst (ds.eraseIdx j))])
    | none=>.bad
   | none=>.bad) else .bad
  | _,_=>.bad
 | none=>.bad
theorem aI.erase{K:uY}{ca:Nat->sK}{θ:List sK}{F:Hp}:∀{ds:List D} {xs:List V} (i:Nat),aI K ca θ F ds xs->aI K ca θ F (ds.eraseIdx i) (xs.eraseIdx i)
 | [],_,_,k=>by unfold aI at k;rw[k];exact aI.nil
 | _::_,_,0,k=>by unfold aI at k;obtain⟨v,r,rfl,h1,h2⟩:=k;exact h2
 | _::_,_,i+1,k=>by unfold aI at k;obtain⟨v,r,rfl,h1,h2⟩:=k;exact aI.cons h1 (aI.erase i h2)
theorem Qc(ho:RdE C to mo)(he:RdE C te me):RdE C (tBM C.K "list" Jp to (kR te o5)) (Fe mo me):=by intro σ H F θ s Q b p;refine ho σ H F θ s _ b (PoR.bind p ?_);rintro ⟨x,s1⟩ H1 F1 θ1 _ a3 p1 b1 v r1;dsimp only at p1 b1 r1;split at p1;rename_i kd e;obtain⟨rfl,e'⟩:=mY (k:=kd.1) (ds:=kd.2) e;obtain⟨a,xs,rfl,hk,_,h1,_⟩:=jO b1 r1 e';refine#[.inl #[rfl,xs,SqL.of h1],he σ H1 F1 θ1 s1 _ b1 (PoR.bind p1 ?_)];rintro ⟨y,s2⟩ H2 F2 θ2 _ Y p2 b2 w r2;dsimp only at p2 b2 r2;split at p2;rename_i i k ds e2 _;obtain⟨ek,e2⟩:=mY e2;cases ek;obtain⟨a',ys,ea,an,hF,h2,hr⟩:=jO b2 (r1.mono Y.ff Y.pre) e2;cases ea;split at p2;rename_i hl;split at p2;rename_i j hj;split at p2;rename_i d hd;obtain⟨u,hu,ru⟩:=hr.get hd;obtain⟨J,b3⟩:=b2.setC an e2 hF (hr.erase j);rw[bH.mp r2];exact#[a,ys,i,j,u,rfl,rfl,h2,hl.1,hl.2,by rw[hr.length];exact hj,hu,p2 _ _ _ J b3 _ (ru.mono J.ff J.pre)];exact sH p2;exact sH p2;exact sH p2;exact sH p2;exact sH p1
def j8(n:Nat)(f:FM)(ma:AM):EM:=λs=>(ma s).bind λx=>if x.1.length=n then (match f x.1 x.2.o with
 | .ok (d,O1)=>.ok (d,#[x.2.r,O1])
 | _=>.bad) else .bad
theorem nK{f:FM}(ha:RdA C ta ma):RdE C (uk (spM C.K C.ca n f) [] E ta) (j8 n f ma):=by
 intro σ H F θ s Q b p;refine ha σ H F θ s _ b (PoR.bind p ?_);rintro ⟨x,s1⟩ H1 F1 θ1 _ ac p1 Y v r1;dsimp only at p1 Y r1 ⊢;split at p1;rename_i hp;rw[TJ];refine#[F1,θ1,x,s1.o,Y.now,r1,hp, ?_];split at p1;rename_i d O1 e;rw[e];intro v H2 F2 θ2 J n2 rv;exact p1 H2 F2 θ2 J #[n2,Y.len,λi d e=>by obtain⟨v,h1,h2⟩:=Y.sl i d e;exact#[v,h1,h2.mono J.ff J.pre]] v rv
 exact sH p1;exact sH p1
def Hs(k:Int)(ds:List D):List D:=(wn k.toNat ds).flatten
def BH(fin:S->List D->Res (D×S))(ma:AM)(mk:EM):EM:=λs=>(ma s).bind λx=>if x.1.length<=16777216 then (mk x.2).bind λy=>match y.1 with
 | .int k=>if (-(2^63)<=k/\k<2^63)/\x.1.length*k.toNat<=16777216 then fin y.2 (Hs k x.1) else .bad
 | _=>.bad
 else .bad
def Ho:S->List D->Res (D×S):=λs ds=>.ok (.lst ds,s)
def rV:S->List D->Res (D×S):=λs ds=>.ok (.ptr s.o.length,#[s.r,s.o++[.lst ds]])
theorem E7{K ca θ F}{ds:List D}{xs:List V}(r:aI K ca θ F ds xs):∀k:Nat,aI K ca θ F (wn k ds).flatten (wn k xs).flatten
 | 0=>aI.nil
 | k+1=>by rw[S9,S9,TW,TW];exact r.append (E7 r k)
theorem PK {fin:S->List D->Res (D×S)} {tk:TE} {mk:EM} (ha:RdA C ta ma) (hk:RdE C tk mk)
 (hf:∀σ H F θ s ds xs Q,BS C.K C.ca σ H F θ s->aI C.K C.ca θ F ds xs->PoE C σ H F θ (fin s ds) Q->∀q,H q=qh->Q (.ref q) (upd H q (.lst xs))):RdE C (tOp KH (ER ta) tk) (BH fin ma mk):=by
 intro σ H F θ s Q b p;refine ha σ H F θ s _ b (PoR.bind p ?_);rintro ⟨x,s1⟩ H1 F1 θ1 _ an p1 b1 v Y;dsimp only at p1;split at p1;rename_i hl;refine#[by rw[Y.length];exact hl,λq hq=> ?_];obtain⟨st,b2,sF,e⟩:=b1.newF hq (.lst v);refine hk σ _ _ _ s1 _ b2 (PoR.bind (PoR.after st p1) ?_);rintro ⟨y,s2⟩ H2 F2 θ2 _ J p2 b3 w r2;dsimp only at p2 r2;split at p2;rename_i k _;split at p2;rename_i hk;rw[bH.mp r2];refine#[q,k,v,rfl,rfl,b3.now.fh _ _ (J.ff _ _ e),hk.1.1,hk.1.2,by rw[Y.length];exact hk.2, ?_];exact hf σ H2 F2 θ2 s2 _ _ Q b3 (E7 (((Y.mono sF #[[],by simp]).mono J.ff J.pre)) k.toNat) p2;exact sH p2;exact sH p2;exact sH p1
theorem Gn{tk:TE}{mk:EM}(ha:RdA C ta ma)(hk:RdE C tk mk):RdE C (tOp KH (ER ta) tk) (BH rV ma mk):=PK ha hk λσ H F θ s ds xs Q b r p=>wI p b r
def Dk(m:EM):TM:=λs=>(m s).bind λx=>match lsD x.2.o x.1 with
 | some ds=>.ok (!ds.isEmpty,x.2)
 | none=>.bad
theorem Pp(h:RdE C t m):RdT C (λσ H Q=>t σ H λx H'=>∃k,Km C.K x H' k/\Q k H') (Dk m):=by
 intro σ H F θ s Q b p;refine h σ H F θ s _ b (PoR.bind p ?_);rintro ⟨x,s1⟩ H1 F1 θ1 _ ab p1 J v Y;dsimp only at p1 J Y;split at p1
 ·rename_i ds e;obtain⟨a,xs,rfl,hs,hr⟩:=fu J Y e;refine#[!ds.isEmpty, ?_,p1 _ _ _ .refl J];refine tt #[xs,hs, ?_];have:=hr.length;cases ds <;> cases xs <;> first | rfl | (simp at this)
 exact sH p1
end
section
variable {C : Ct}
theorem aI.places{K:uY}{ca:Nat->sK}{θ:List sK}{F:Hp}{ds:List D}{xs:List V}(r:aI K ca θ F ds xs):∀J:List Nat,aI K ca θ F (J.filterMap (ds[·]?)) (J.filterMap (xs[·]?))
 | []=>aI.nil
 | j::J=>by
  have ih:=aI.places r J;cases hn:ds[j]? with
  | some d=>
   obtain⟨v,Y,rv⟩:=r.get hn;simp only[Tx,hn,Y];exact aI.cons rv ih
  | none=>
   have Y:xs[j]? =none:=by rw[VG] at hn ⊢;rw[r.length];exact hn
   simp only[Tx,hn,Y];exact ih
def Ek(fin:S->List D->Res (D×S))(me:EM)(ml mh ms:OM):EM:=λs=>(me s).bind λx=>(ml x.2).bind λl=>(mh l.2).bind λh=>(ms h.2).bind λt=>match lsD t.2.o x.1 with
 | some ds=>if t.1=pr 0 then .bad else fin t.2 (pick ds l.1 h.1 t.1)
 | none=>.bad
theorem Ql {fin:S->List D->Res (D×S)} {tl th ts:TO} {ml mh ms:OM} (he:RdE C te me) (hl:RdO C tl ml) (hh:RdO C th mh) (ht:RdO C ts ms)
 (hf:∀σ H F θ s ds xs Q,BS C.K C.ca σ H F θ s->aI C.K C.ca θ F ds xs->PoE C σ H F θ (fin s ds) Q->∀q,H q=qh->Q (.ref q) (upd H q (.lst xs))):RdE C (L7 C.K te tl th ts) (Ek fin me ml mh ms):=by
 intro σ H F θ s Q b p;refine he σ H F θ s _ b (PoR.bind p ?_);rintro ⟨x,s1⟩ H1 F1 θ1 _ a5 p1 b1 v r1;refine hl σ H1 F1 θ1 s1 _ b1 (PoR.bind p1 ?_);rintro ⟨l,s2⟩ H2 F2 θ2 _ Y p2 b2;refine hh σ H2 F2 θ2 s2 _ b2 (PoR.bind p2 ?_);rintro ⟨h,s3⟩ H3 F3 an _ ab p3 b3;refine ht σ H3 F3 an s3 _ b3 (PoR.bind p3 ?_);rintro ⟨t,s4⟩ H4 F4 ac _ am J b4;dsimp only at J ⊢;split at J;rename_i ds e;split at J;exact sH J;rename_i h0;obtain⟨a,xs,rfl,hs,hr⟩:=fu b4 (((r1.mono Y.ff Y.pre).mono ab.ff ab.pre).mono am.ff am.pre) e;refine#[a,xs,rfl,hs,h0, ?_];have hp:aI C.K C.ca ac F4 (pick ds l h t) (pick xs l h t):=by unfold pick;rw[hr.length];exact hr.places _
 exact hf σ H4 F4 ac s4 _ _ Q b4 hp J;exact sH J
theorem NL{tl th ts:TO}{ml mh ms:OM}(J:RdE C te me)(Y:RdO C tl ml)(hh:RdO C th mh)(ht:RdO C ts ms):RdE C (L7 C.K te tl th ts) (Ek Ho me ml mh ms):=Ql J Y hh ht λσ H F θ s ds xs Q b r p=>v9 p b r
end
section
variable {C : Ct}
def Ef(m:EM):EM:=λs=>(m s).bind λx=>match gO x.2.o x.1 with
 | some (k,ds)=>.ok (.lst ds,#[x.2.r,x.2.o.set k .dead])
 | none=>.ok x
theorem GV:Ef m s=(m s).bind λx=>match gO x.2.o x.1 with
 | some (k,ds)=>.ok (.lst ds,#[x.2.r,x.2.o.set k .dead])
 | none=>.ok x:=rfl
theorem M3(h:RdE C t m):RdE C t (Ef m):=by intro σ H F θ s Q b p;refine h σ H F θ s _ b (PoR.bind p ?_);rintro ⟨x,s1⟩ H1 F1 θ1 _ ac p1 J v Y;dsimp only at p1 J Y;split at p1;rename_i k ds e;obtain⟨rfl,e'⟩:=mY e;obtain⟨a,xs,rfl,hk,hF,h1,h2⟩:=jO J Y e';obtain⟨ab,b2,r2⟩:=J.frz hk e' hF h1 h2;exact p1 _ _ _ ab b2 _ r2;exact p1 _ _ _ .refl J _ Y
end
section
variable {C : Ct}
def slS(me:EM)(ml mh:OM):EM:=λs=>(me s).bind λx=>(ml x.2).bind λl=>(mh l.2).bind λh=>match x.1 with
 | .str z=>if z.length<=16777216 then .ok (.str (m9 z l.1 h.1),h.2) else .bad
 | _=>.bad
theorem Kf{tl th:TO}(Y:RdE C te me)(hl:RdO C tl ml)(hh:RdO C th mh):RdE C (tSl MS te tl th) (slS me ml mh):=by intro σ H F θ s Q b p;refine Y σ H F θ s _ b (PoR.bind p ?_);rintro ⟨x,s1⟩ H1 F1 θ1 _ am p1 b1 v r1;refine hl σ H1 F1 θ1 s1 _ b1 (PoR.bind p1 ?_);rintro ⟨l,s2⟩ H2 F2 θ2 _ az p2 b2;refine hh σ H2 F2 θ2 s2 _ b2 (PoR.bind p2 ?_);rintro ⟨h,s3⟩ H3 F3 a2 _ a3 J b3;dsimp only at J ⊢;split at J;rename_i z _;split at J;rename_i hz;exact#[z,dM.mp r1,by rw[Ur];exact hz,J _ _ _ .refl b3 _ (dM.mpr rfl)];exact sH J;exact sH J
theorem Pe:slS me ml mh s=(me s).bind λx=>(ml x.2).bind λl=>(mh l.2).bind λh=>match x.1 with
 | .str z=>if z.length<=16777216 then .ok (.str (m9 z l.1 h.1),h.2) else .bad
 | _=>.bad:=rfl
end
section
variable {C : Ct}
def nH:List D->Option (List Str)
 | []=>pr []
 | .str z::r=>match nH r with
  | some zs=>pr (z::zs)
  | none=>qh
 | _=>qh
theorem wG:∀{ds:List D} {zs:List Str},nH ds=pr zs->ds=zs.map D.str
 | [],zs,h=>by cases h;rfl
 | d::ds,zs,h=>by
  cases d <;> first | (simp[nH] at h;done) | skip
  rename_i z;unfold nH at h;cases e:nH ds with
  | none=>rw[e] at h;cases h
  | some ys=>
   rw[e] at h;cases h;rw[wG e];rfl
theorem pO:∀zs:List Str,nH (zs.map D.str)=pr zs
 | []=>rfl
 | z::zs=>by rw[x0];unfold nH;rw[pO zs]
def inB(O:aD)(x y:D):Option Bool:=match x with
 | .str a=>match lsD O y with
  | some ds=>match nH ds with
   | some zs=>pr (zs.any (· == a))
   | none=>qh
  | none=>qh
 | .int a=>match lsD O y with
  | some ds=>match ic ds with
   | some zs=>pr (zs.any (· == a))
   | none=>qh
  | none=>qh
 | _=>qh
def inD:Op2:=λO x y=>match inB O x y with
 | some b=>.ok (.bl b)
 | none=>.bad
def tf:Op2:=λO x y=>match inB O x y with
 | some b=>.ok (.bl (!b))
 | none=>.bad
theorem BX{K:uY}{ca:Nat->sK}{θ:List sK}{F:Hp}:∀{zs:List Str} {xs:List V},aI K ca θ F (zs.map D.str) xs->xs=zs.map V.str
 | [],xs,h=>by unfold aI at h;exact h
 | z::zs,xs,h=>by rw[x0] at h;unfold aI at h;obtain⟨v,r,rfl,h1,h2⟩:=h;rw[dM.mp h1,BX h2];rfl
theorem uL{K:uY}{ca:Nat->sK}{θ:List sK}{F:Hp}:∀{zs:List Int} {xs:List V},aI K ca θ F (zs.map D.int) xs->xs=zs.map V.int
 | [],xs,h=>by unfold aI at h;exact h
 | z::zs,xs,h=>by rw[x0] at h;unfold aI at h;obtain⟨v,r,rfl,h1,h2⟩:=h;rw[bH.mp h1,uL h2];rfl
theorem Ag:∀{ds:List D} {zs:List Int},ic ds=pr zs->ds=zs.map D.int
 | [],zs,h=>by unfold ic at h;cases h;rfl
 | d::ds,zs,h=>by
  cases d <;> first | (simp[ic] at h;done) | skip
  rename_i z;unfold ic at h;cases e:ic ds with
  | none=>rw[e] at h;cases h
  | some ys=>
   rw[e] at h;cases h;rw[Ag e];rfl
theorem Gw{v w:V}{q:Bool}(b:BS C.K C.ca σ H F θ s)(J:Rep C.K C.ca θ F x v)(Y:Rep C.K C.ca θ F y w)(e:inB s.o x y=pr q):
 ∃p xs,w=.ref p/\SqL C.K H p xs/\om v=ss/\xs.all om=ss/\inV v xs=q:=by
 unfold inB at e;split at e;rename_i a;split at e;rename_i ds e1;split at e;rename_i zs e2;cases e;obtain⟨p,xs,rfl,hs,hr⟩:=fu b Y e1;rw[wG e2] at hr;have hx:=BX hr;subst hx;rw[dM.mp J];refine#[p,_,rfl,hs,rfl, ?_, ?_];rw[US,TZ];intro z _;rfl;unfold inV;rw[V0];rfl;cases e;cases e;rename_i a;split at e;rename_i ds e1;split at e;rename_i zs e2;cases e;obtain⟨p,xs,rfl,hs,hr⟩:=fu b Y e1;rw[Ag e2] at hr;have hx:=uL hr;subst hx;rw[bH.mp J];refine#[p,_,rfl,hs,rfl, ?_, ?_];rw[US,TZ];intro z _;rfl;unfold inV;rw[V0];rfl;cases e;cases e;cases e
theorem MV:ie C (rIn C.K xL) inD:=by intro σ H F θ s x y v w Q b J Y p;unfold inD at p;split at p;rename_i q e;obtain⟨a,xs,rfl,h1,h2,h3,h4⟩:=Gw b J Y e;exact#[a,xs,rfl,.inl h1,h2,h3,dF p b (cM.mpr (by rw[if_neg ∅,h4]))];exact sH p
theorem E4:ie C (rIn C.K ss) tf:=by intro σ H F θ s x y v w Q b J Y p;unfold tf at p;split at p;rename_i q e;obtain⟨a,xs,rfl,h1,h2,h3,h4⟩:=Gw b J Y e;exact#[a,xs,rfl,.inl h1,h2,h3,dF p b (cM.mpr (by rw[if_pos rfl,h4]))];exact sH p
def rH(f:Str):List Str->List D->Option D
 | n::ns,d::ds=>if n=f then pr d else rH f ns ds
 | _,_=>qh
theorem Di{K:uY}{ca:Nat->sK}{θ:List sK}{F:Hp}{f:Str}:∀{ns:List Str} {ds:List D} {xs:List V} {d:D},aI K ca θ F ds xs->rH f ns ds=pr d->∃v,(ns.zip xs).lookup f=pr v/\Rep K ca θ F d v
 | [],_,_,_,_,e=>by simp[rH] at e
 | _::_,[],_,_,_,e=>by simp[rH] at e
 | n::ns,d::ds,xs,d',h,e=>by unfold aI at h;obtain⟨v,r,rfl,h1,h2⟩:=h;unfold rH at e;rw[Vy,Tb];by_cases hn:n=f;rw[if_pos hn] at e;cases e;subst hn;exact#[v,by simp,h1];rw[if_neg hn] at e;obtain⟨u,e1,e2⟩:=Di h2 e;refine#[u, ?_,e2];rw[show (f == n)=xL by simpa using λz=>hn z.symm];exact e1
def oa(c:Nat)(f:Str)(me:EM):EM:=λs=>(me s).bind λx=>match x.1 with
 | .obj J ns ds=>if J=c then (match rH f ns ds with
  | some d=>.ok (d,x.2)
  | none=>.bad) else .bad
 | _=>.bad
theorem vC{ta:TE}(hc:Cls C.K (C.ca c))(hn:fS C.K (C.ca c) f)(h:RdE C ta me):RdE C (Qi C.K ta f) (oa c f me):=by intro σ H F θ s Q b p;refine h σ H F θ s _ b (PoR.bind p ?_);rintro ⟨x,s1⟩ H1 F1 θ1 _ ac p1 J v Y;dsimp only at p1 J Y;split at p1;rename_i c' ns ds _;split at p1;rename_i ab;subst ab;split at p1;rename_i d e;unfold Rep at Y;obtain⟨a,dx,xs,rfl,ha,hl,hr⟩:=Y;obtain⟨u,e1,e2⟩:=Di hr e;exact#[a,_,dx,_,u,rfl,J.now.fh _ _ ha,hc,hn,e1,p1 _ _ _ .refl J _ e2];exact sH p1;exact sH p1;exact sH p1
theorem GX:oa c f me s=(me s).bind λx=>match x.1 with
 | .obj J ns ds=>if J=c then (match rH f ns ds with
  | some d=>.ok (d,x.2)
  | none=>.bad) else .bad
 | _=>.bad:=rfl
theorem lookup_none{f:Str}:∀{ns:List Str} {xs:List V},f∉ns->(ns.zip xs).lookup f=qh
 | [],_,_=>rfl
 | _::_,[],_=>rfl
 | n::ns,x::xs,h=>by rw[Vy,Tb,show (f == n)=xL by simpa using λz=>h (by simp[z])];exact lookup_none λz=>h (by simp[z])
theorem Ez{f:Str}{y:V}:∀{ns:List Str} {xs:List V},ns.length=xs.length->f∉ns->jZ f y (ns.zip xs)=(ns++[f]).zip (xs++[y])
 | [],[],_,_=>rfl
 | n::ns,x::xs,hl,h=>by rw[Vy];unfold jZ;rw[if_neg (λz=>h (by simp[z])),Ez (by simpa using hl) λz=>h (by simp[z])];rfl
theorem BS.setI(b:BS K ca σ H F θ s){a dx:sK}{c:Cell}{cl:Nat}(hk:θ[k]? =pr a)(hc:s.o[k]? =pr c)(hF:F a=qh)(hl:ns.length=xs.length)(hr:aI K ca θ F ds xs):
 Stp H F θ (upd H a (.ins (ca cl) dx (ns.zip xs))) F θ/\BS K ca σ (upd H a (.ins (ca cl) dx (ns.zip xs))) F θ #[s.r,s.o.set k (.ins cl ns ds)]:=by
 have hm:a∈θ:=SI hk;refine#[#[cg.refl _,#[[],by simp,by simp],λe o J hb=> ?_,λe o J=> ?_,λe o J=>.inl J],#[#[λe o J=> ?_,b.now.nd,by simpa using b.now.ln,λj a' c' e1 e2=> ?_],b.len,b.sl]];have ne:e≠a:=λz=>hb (by rw[z];exact hm);rw[aZ ne];exact J;by_cases z:e=a;subst z;exact#[_,dg];exact#[o,by rw[aZ z];exact J];have ne:e≠a:=λz=>by rw[z,hF] at J;cases J
 rw[aZ ne];exact b.now.fh _ _ J;by_cases Y:k=j;subst Y;rw[hk] at e1;cases e1;have:k<s.o.length:=(Ch.mp hc).1;rw[S6 this] at e2;cases e2;exact#[hF,dx,xs,dg,hl,hr];rw[Tc Y] at e2;have q:=b.now.ce j a' c' e1 e2;have ne:a'≠a:=λz=>by subst z;exact Y (uE b.now.nd hk e1)
 cases c' with
 | dead=>obtain⟨o,ho⟩:=q;exact#[o,by rw[aZ ne];exact ho]
 | lst ds=>obtain⟨q1,ys,q2,q3⟩:=q;exact#[q1,ys,by rw[aZ ne];exact q2,q3]
 | ins c ns ds=>obtain⟨q1,dx,ys,q2,q3⟩:=q;exact#[q1,dx,ys,by rw[aZ ne];exact q2,q3]
def uj(c:Nat)(f:Str)(mo mv:EM):SM:=λs=>(mv s).out λy=>(mo y.2).out λx=>match x.1 with
 | .ptr k=>match x.2.o[k]? with
  | some (.ins c' ns ds)=>if c'=c/\f∉ns/\ns.length<1000 then .next #[x.2.r,x.2.o.set k (.ins c (ns++[f]) (ds++[y.1]))] else .bad
  | _=>.bad
 | _=>.bad
theorem LS{mo mv:EM}:uj c f mo mv s=(mv s).out λy=>(mo y.2).out λx=>match x.1 with
 | .ptr k=>match x.2.o[k]? with
  | some (.ins c' ns ds)=>if c'=c/\f∉ns/\ns.length<1000 then .next #[x.2.r,x.2.o.set k (.ins c (ns++[f]) (ds++[y.1]))] else .bad
  | _=>.bad
 | _=>.bad:=rfl
end
section
variable {C : Ct}
theorem Bw{ta tv:TE}{mo mv:EM}(hc:Cls C.K (C.ca c))(hn:fS C.K (C.ca c) f)(ho:RdE C ta mo)(hv:RdE C tv mv):RdS C (Qr C.K ta tv f) (uj c f mo mv):=by
 intro σ H F θ s Q b p;unfold uj at p;refine hv σ H F θ s _ b (PoS.out p ?_);rintro ⟨y,s1⟩ H1 F1 θ1 _ a2 p1 b1 v r1;dsimp only at p1 b1 r1;refine ho σ H1 F1 θ1 s1 _ b1 (PoS.out p1 ?_);rintro ⟨x,s2⟩ H2 F2 θ2 _ J p2 b2 w r2;dsimp only at p2 b2 r2;split at p2;rename_i k _;split at p2;rename_i c' ns ds e;split at p2;rename_i hh;obtain⟨rfl,hf,hl⟩:=hh;unfold Rep at r2;obtain⟨a,rfl,hk⟩:=r2;obtain⟨h0,dx,xs,h1,h2,h3⟩:kz C.K C.ca H2 F2 θ2 a (.ins c' ns ds):=b2.now.ce k a _ hk e;have Y:(ns++[f]).length=(xs++[v]).length:=by simp[h2]
 obtain⟨am,b3⟩:=b2.setI (dx:=dx) (cl:=c') (ns:=ns++[f]) hk e h0 Y (h3.append (aI.one (r1.mono J.ff J.pre)));refine#[a,_,dx,_,rfl,h1,hc,hn, ?_, ?_];rw[SJ];omega;rw[Ez h2 hf];exact p2 σ _ _ _ am b3;exact sH p2;exact sH p2;exact sH p2
def xi(c n:Nat)(f:FM)(ma:AM):EM:=λs=>(ma s).bind λx=>if aU x.1=ss/\x.1.length=n then (match f (.ptr 0::x.1) [.ins c [] []] with
 | .ok (.non,.ins c' ns ds::_)=>if c'=c/\aU ds=ss then .ok (.obj c ns ds,x.2) else .bad
 | _=>.bad) else .bad
theorem Now.dies{x:sK}{r:List sK}(n:Now K ca H F (x::r) (.ins c ns ds::O)):
 ∃dx xs,H x=pr (.ins (ca c) dx (ns.zip xs))/\ns.length=xs.length/\aI K ca (x::r) F ds xs/\F x=qh/\cg F (upd F x (.ins (ca c) dx (ns.zip xs)))/\Now K ca H (upd F x (.ins (ca c) dx (ns.zip xs))) (x::r) (.dead::O):=by
 obtain⟨h0,dx,xs,h1,h2,h3⟩:kz K ca H F (x::r) x (.ins c ns ds):=n.ce 0 x _ rfl rfl;have sF:cg F (upd F x (.ins (ca c) dx (ns.zip xs))):=λe o J=>by rw[aZ (λz=>by rw[z,h0] at J;cases J)];exact J
 refine#[dx,xs,h1,h2,h3,h0,sF,#[λe o J=> ?_,n.nd,n.ln,λj Y c' e1 e2=> ?_]];by_cases z:e=x;subst z;rw[dg] at J;rw[h1];exact J;rw[aZ z] at J;exact n.fh _ _ J;cases j with
 | zero=>
  cases e1;cases e2;exact#[_,h1]
 | succ j=>
  have q:=n.ce (j+1) Y c' e1 e2;have ne:Y≠x:=λz=>by subst z;have:=uE n.nd (show (Y::r)[0]? =pr Y from rfl) e1;omega
  cases c' with
  | dead=>exact q
  | lst ds=>obtain⟨q1,ys,q2,q3⟩:=q;exact#[by rw[aZ ne];exact q1,ys,q2,q3.mono sF #[[],by simp]]
  | ins c ns ds=>obtain⟨q1,dx,ys,q2,q3,q4⟩:=q;exact#[by rw[aZ ne];exact q1,dx,ys,q2,q3,q4.mono sF #[[],by simp]]
theorem NG{f:FM}(ha:RdA C ta ma):RdE C (Mu (C.ca c) (spM C.K C.ca (n+1) f) [] E ta) (xi c n f ma):=by
 intro σ H F θ s Q b p;refine ha σ H F θ s _ b (PoR.bind p ?_);rintro ⟨x,s1⟩ H1 F1 θ1 _ a5 p1 b1 v r1;dsimp only at p1 b1 r1 ⊢;split at p1;rename_i hp;split at p1;rename_i c' ns ds O1 e;split at p1;rename_i hh;obtain⟨rfl,an⟩:=hh;intro y dx hy ap bd;have nx:∀a u,H1 a=pr u->a≠y:=λa u e z=>by rw[z,hy] at e;cases e
 have nd:∀a u,H1 a=pr u->a≠dx:=λa u e z=>by rw[z,ap] at e;cases e
 have Fy:F1 y=none:=by
  cases eF:F1 y with
  | none=>rfl
  | some u=>rw[b1.now.fh y u eF] at hy;cases hy
 have up:∀a u,H1 a=pr u->upd (upd H1 dx (.own y)) y (.ins (C.ca c') dx []) a=pr u:=λa u e=>by rw[aZ (nx a u e),aZ (nd a u e)];exact e
 have dn:∀a,upd (upd H1 dx (.own y)) y (.ins (C.ca c') dx []) a=qh->H1 a=none:=λa z=>by
  cases e:H1 a with
  | none=>rfl
  | some u=>rw[up a u e] at z;cases z
 rw[TJ];refine#[F1,[y],.ptr 0::x,[.ins c' [] []],#[λa u e=>up a u (b1.now.fh a u e),by simp,rfl,λk a cc e1 e2=> ?_],aI.cons (by unfold Rep;exact#[y,rfl,rfl]) (r1.pure hp.1),by simp[hp.2], ?_];cases k with
 | zero=>
  cases e1;cases e2;exact#[Fy,dx,[],dg,rfl,aI.nil]
 | succ k=>simp at e1
 rw[e];intro w H2 F2 θ2 J n2 as;refine#[gD.mp as, ?_];obtain⟨r,rfl,hr⟩:=J.th;obtain⟨Y,xs,g1,g2,g3,g4,sF,n3⟩:=Now.dies n2;have az:Stp H1 F1 [] H2 (upd F2 y (.ins (C.ca c') Y (ns.zip xs))) (y::r):=by
  refine#[J.ff.trans sF,#[y::r,rfl,λa ha=> ?_],λa o h _=> ?_,λa o h=>J.al a o (up a o h),λa o h=> ?_];rcases wE.mp ha with rfl | z
  exact hy;exact dn a (hr a z);exact J.kp a o (up a o h) (by simpa using nx a o h);by_cases z:a=y;subst z;exact .inr (.inl hy);rw[aZ z] at h;rcases J.nf a o h with q | q | q
  exact .inl q;exact .inr (.inl (dn a q));exact absurd (by simpa using q) z
 obtain⟨a1,b4⟩:=b1.called az n3;refine p1 H2 _ θ1 a1 b4 (.ref y) ?_;unfold Rep;exact#[y,Y,xs,rfl,dg,g2,aI.mono (θ:=θ1) sF #[[],by simp] (aI.pure an g3)];exact sH p1;exact sH p1;exact sH p1
theorem LJ{f:FM}{s s':S}{args ds:List D}(h:ma s=.ok (args,s'))(hp:aU args=ss)(J:args.length=n)(Y:f (.ptr 0::args) [.ins c [] []]=.ok (.non,.ins c ns ds::O))(hd:aU ds=ss):xi c n f ma s=.ok (.obj c ns ds,s'):=by unfold xi;rw[h,aj];dsimp only;rw[if_pos #[hp,J],Y];dsimp only;rw[if_pos #[rfl,hd]]
def methP(c:Nat)(m:Str)(n:Nat)(f:FM)(mo:EM)(ma:AM):EM:=λs=>(mo s).bind λx=>match x.1 with
 | .obj J ns ds=>if J=c/\m∉ns/\aU ds=ss then (ma x.2).bind λy=>if aU y.1=ss/\y.1.length=n then (match f (x.1::y.1) [] with
  | .ok (d,_)=>if dq d=ss then .ok (d,y.2) else .bad
  | _=>.bad) else .bad else .bad
 | _=>.bad
theorem fg{m:Str}{f:FM}(ho:RdE C to mo)(ha:RdA C ta ma):RdE C (Hu (C.ca c) m (spM C.K C.ca (n+1) f) [] E to ta) (methP c m n f mo ma):=by
 intro σ H F θ s Q b p;refine ho σ H F θ s _ b (PoR.bind p ?_);rintro ⟨x,s1⟩ H1 F1 θ1 _ a2 p1 b1 v Y;dsimp only at p1 b1 Y ⊢;split at p1;rename_i c' ns ds _;split at p1;rename_i hh;obtain⟨rfl,hm,ac⟩:=hh;obtain⟨a,dx,xs,rfl,h1,h2,h3⟩:∃a dx xs,v=.ref a/\F1 a=pr (.ins (C.ca c') dx (ns.zip xs))/\ns.length=xs.length/\aI C.K C.ca θ1 F1 ds xs:=by unfold Rep at Y;exact Y
 refine#[a,dx,_,rfl,b1.now.fh _ _ h1,lookup_none hm,ha σ H1 F1 θ1 s1 _ b1 (PoR.bind p1 ?_)];rintro ⟨y,s2⟩ H2 F2 θ2 _ J p2 b2 w r2;dsimp only at p2 b2 r2 ⊢;split at p2;rename_i hp;rw[TJ];refine#[F2,[],.obj c' ns ds::y,[],Now.nil b2.now.fh,aI.cons ((Y.mono J.ff J.pre).pure (by unfold dq;exact ac)) (r2.pure hp.1),by simp[hp.2], ?_];split at p2;rename_i d O1 e;rw[e];intro v H3 F3 bd an n3 rv;obtain⟨ap,b4⟩:=b2.called an n3;split at p2;rename_i hd;exact p2 H3 F3 _ ap b4 v (rv.pure hd);exact sH p2;exact sH p2;exact sH p2;exact sH p1;exact sH p1
theorem tV{m:Str}{f:FM}{s s1 s2:S}{ds args:List D}(J:mo s=.ok (.obj c ns ds,s1))(hm:m∉ns)(hd:aU ds=ss)(ha:ma s1=.ok (args,s2))(hp:aU args=ss)(Y:args.length=n)(hf:f (.obj c ns ds::args) []=.ok (d,O))(hr:dq d=ss):
 methP c m n f mo ma s=.ok (d,s2):=by
 unfold methP;rw[J,aj];dsimp only;rw[if_pos #[rfl,hm,hd],ha,aj];dsimp only;rw[if_pos #[hp,Y],hf];dsimp only;rw[if_pos hr]
def MethAt(P:FS)(w:IN)(K:uY)(mg:Str->Option sn)(base:Rs)(ca:Nat->sK)(lv:Nat)(C:sK)(x:Str)(ps:List Str)(f:FM):Prop:=
 ∃a fd,lE P w K mg base (CXE P w) lv a fd ps (spM K ca ps.length f)/\Meth K C x a/\Binds K fd ps []
def P9(P:FS)(w:IN)(K:uY)(mg:Str->Option sn)(base:Rs)(ca:Nat->sK)(lv:Nat)(C:sK)(x:Str)(ps:List Str)(f:FM):Prop:=
 ∃a fd,lE P w K mg base (CXE P w) lv a fd ps (spM K ca ps.length f)/\Mk K C a/\mg x=pr (.ref C)/\Binds K fd ps []
end
section
variable {K : uY} {ca : Nat → sK} {θ : List sK} {F G : Hp}
end
open Classical in
noncomputable def Sr (F H:Hp)(θ:List sK):Hp:=λa=>if a∈θ then (match H a with
 | some (.lst xs)=>pr (.lst xs)
 | _=>F a) else F a
section
variable {C : Ct}
def rK:List D->aD->Option (List D×aD)
 | [],O=>pr ([],O)
 | .ptr k::ds,O=>match O[k]? with
  | some (.lst es)=>match rK ds (O.set k .dead) with
   | some (rs,O1)=>pr (.lst es::rs,O1)
   | none=>qh
  | _=>qh
 | d::ds,O=>match rK ds O with
  | some (rs,O1)=>pr (d::rs,O1)
  | none=>qh
theorem yH{σ:L2.St}{H:Hp}{θ:List sK}{r:List (Option D)}:∀{ds J:List D} {O O1:aD} {F:Hp} {xs:List V},BS C.K C.ca σ H F θ #[r,O]->aI C.K C.ca θ F ds xs->rK ds O=pr (J,O1)->
 ∃F1,Stp H F θ H F1 θ/\BS C.K C.ca σ H F1 θ #[r,O1]/\aI C.K C.ca θ F1 J xs
 | [],J,O,O1,F,xs,b,hr,e=>by cases e;exact#[F,.refl,b,hr]
 | d::ds,J,O,O1,F,xs,b,hr,e=>by
  have as:=hr;unfold aI at hr;obtain⟨v,q,rfl,h1,h2⟩:=hr;have other:(match rK ds O with
   | some (J,O1)=>pr (d::J,O1)
   | none=>qh)=pr (J,O1)->∃F1,Stp H F θ H F1 θ/\BS C.K C.ca σ H F1 θ #[r,O1]/\aI C.K C.ca θ F1 J (v::q):=λe=>by
   split at e;rename_i ab ac e';cases e;obtain⟨F1,st,b1,r1⟩:=yH b h2 e';exact#[F1,st,b1,aI.cons (h1.mono st.ff st.pre) r1];cases e
  cases d with
  | ptr k=>
   unfold rK at e;split at e;rename_i es ek;split at e;rename_i ab ac e';cases e;obtain⟨a,ys,rfl,hk,hF,g1,g2⟩:=jO b h1 ek;obtain⟨Y,b2,r2⟩:=b.frz hk ek hF g1 g2;obtain⟨F1,st,b1,r1⟩:=yH b2 (h2.mono Y.ff Y.pre) e';exact#[F1,Y.trans st,b1,aI.cons (r2.mono st.ff st.pre) r1];cases e;cases e
  | _=>exact other e
def BE(m:EM):EM:=λs=>(m s).bind λx=>match x.1 with
 | .tup ds=>match rK ds x.2.o with
  | some (rs,O1)=>.ok (.tup rs,#[x.2.r,O1])
  | none=>.bad
 | _=>.bad
theorem Nq(h:RdE C t m):RdE C t (BE m):=by intro σ H F θ s Q b p;refine h σ H F θ s _ b (PoR.bind p ?_);rintro ⟨x,s1⟩ H1 F1 θ1 _ ac p1 b1 v Y;dsimp only at p1 b1 Y;split at p1;rename_i ds _;split at p1;rename_i rs O1 e;unfold Rep at Y;obtain⟨a,xs,rfl,hs,hr⟩:=Y;obtain⟨F2,J,b2,r2⟩:=yH b1 hr e;refine p1 _ _ _ J b2 _ ?_;unfold Rep;exact#[a,xs,rfl,cg.seqT J.ff hs,r2];exact sH p1;exact sH p1
theorem N1{s s':S}{ds rs:List D}(h:m s=.ok (.tup ds,s'))(J:rK ds s'.o=pr (rs,O1)):BE m s=.ok (.tup rs,#[s'.r,O1]):=by unfold BE;rw[h,aj];dsimp only;rw[J]
end
def clsAt(K:uY)(x:Str):Addr:=match SG K mainGlobals x with
 | some (pr (.ref C))=>C
 | _=>0
section
variable {C : Ct}
def pG:OpN:=λ_ xs=>match xs with
 | [.int i,.int j]=>.ok (.int (if j>i then j else i))
 | _=>.bad
theorem xv:jA C (λxs H Q=>∃i j,xs=[.int i,.int j]/\Q (.int (if j>i then j else i)) H) pG:=by intro σ H F θ s xs vs Q b r p;unfold pG at p;split at p;rename_i i j;exact#[i,j,G9 r,dF p b (bH.mpr rfl)];exact sH p
end
section
variable {C : Ct} {Es : L2.St → XK}
end
theorem iq{P:FS}{w:IN}:Passes (CXE P w) X E0:=λ_ _ _ _ _ _ _ #[_,_,_,_,_,_,_,_,_,z]=>z.elim
section
variable {C : Ct}
def E5(ma mb:EM):EM:=λs=>(ma s).bind λx=>(mb x.2).bind λy=>match lsD y.2.o x.1,lsD y.2.o y.1 with
 | some a,pr b=>if a.length+b.length<=16777216 then .ok (.ptr y.2.o.length,#[y.2.r,y.2.o++[.lst (a++b)]]) else .bad
 | _,_=>.bad
theorem Ox{ta tb:TE}{ma mb:EM}(ha:RdE C ta ma)(hb:RdE C tb mb):RdE C (tOp (C8 C.K) ta tb) (E5 ma mb):=by intro σ H F θ s Q b p;refine ha σ H F θ s _ b (PoR.bind p ?_);rintro ⟨x,s1⟩ H1 F1 θ1 _ as p1 b1 v r1;dsimp only at p1 b1 r1;refine hb σ H1 F1 θ1 s1 _ b1 (PoR.bind p1 ?_);rintro ⟨y,s2⟩ H2 F2 θ2 _ J p2 Y w r2;dsimp only at p2 Y r2;split at p2;rename_i a c e1 e2;split at p2;rename_i hl;obtain⟨l1,xs,rfl,q1,g1⟩:=fu Y (r1.mono J.ff J.pre) e1;obtain⟨l2,ys,rfl,q2,g2⟩:=fu Y r2 e2;exact .inr (.inr #[l1,l2,xs,ys,rfl,rfl,q1,q2,by rw[g1.length,g2.length];exact hl,wI p2 Y (g1.append g2)]);exact sH p2;exact sH p2
end
def wQ:D->Bool
 | .non=>ss | .bl _=>ss | .int _=>ss | .str _=>ss | .ptr _=>ss | _=>xL
def Df:Cell->Bool
 | .dead=>ss
 | .lst ds=>ds.all wQ
 | _=>xL
theorem ET{F G:Hp}(h:wQ d=ss)(r:Rep K ca θ1 F d v):Rep K ca (θ++θ1) G (shD θ.length d) v:=by
 cases d with
 | non=>unfold shD;unfold Rep at r ⊢;exact r
 | bl b=>unfold shD;unfold Rep at r ⊢;exact r
 | int i=>unfold shD;unfold Rep at r ⊢;exact r
 | str z=>unfold shD;unfold Rep at r ⊢;exact r
 | ptr k=>
  unfold shD;unfold Rep at r ⊢;obtain⟨a,e,hk⟩:=r;exact#[a,e,by rw[wP (VW _ _),SR];exact hk]
 | lst ds=>cases h
 | tup ds=>cases h
 | obj c ns ds=>cases h
 | exn c=>cases h
theorem Cn{K:uY}{ca:Nat->sK}{F G:Hp}{θ θ1:List sK}:∀{ds:List D} {xs:List V},ds.all wQ=ss->aI K ca θ1 F ds xs->aI K ca (θ++θ1) G (fL θ.length ds) xs
 | [],_,_,h=>by unfold fL;unfold aI at h ⊢;exact h
 | d::ds,_,hf,h=>by rw[U0,Tp] at hf;unfold fL;unfold aI at h ⊢;obtain⟨v,r,e,h1,h2⟩:=h;exact#[v,r,e,ET hf.1 h1,Cn hf.2 h2]
section
variable {C : Ct}
def zK(n:Nat)(f:FM)(ma:AM):EM:=λs=>(ma s).bind λx=>if aU (cD x.2.o (cD x.2.o x.1))=ss/\x.1.length=n then (match f (cD x.2.o (cD x.2.o x.1)) [] with
 | .ok (d,O1)=>if wQ d=ss/\O1.all Df=ss then .ok (shD x.2.o.length d,#[x.2.r,x.2.o++O1.map (shC x.2.o.length)]) else .bad
 | _=>.bad) else .bad
theorem Ld{f:FM}(ha:RdA C ta ma):RdE C (uk (spM C.K C.ca n f) [] E ta) (zK n f ma):=by
 intro σ H F θ s Q b p;refine ha σ H F θ s _ b (PoR.bind p ?_);rintro ⟨x,s1⟩ H1 F1 θ1 _ a2 p1 J v r1;dsimp only at p1 J r1 ⊢;split at p1;rename_i hp;rw[TJ];have rr:aI C.K C.ca θ1 H1 (cD s1.o (cD s1.o x)) v:=mJ J.now J.now.fh (cg.refl _) (mJ J.now (cg.refl _) J.now.fh r1);refine#[H1,[],cD s1.o (cD s1.o x),[],Now.nil (cg.refl _),rr.pure hp.1,by rw[lO,lO];exact hp.2, ?_];split at p1;rename_i d O1 e;rw[e];intro v H2 F2 θ2 Y n2 rv;split at p1;rename_i sd;have kp:∀a o,H1 a=pr o->H2 a=pr o:=λa o h=>Y.kp a o h (by simp);obtain⟨r,er,hr⟩:=Y.th;rw[Cs] at er;subst er;refine p1 H2 F1 (θ1++θ2) #[cg.refl _,#[θ2,rfl,hr],λa o h _=>kp a o h,Y.al,λa o h=>.inl h] #[#[λa o h=>kp a o (J.now.fh a o h),Ue.mpr #[J.now.nd,n2.nd,λa ha x hx=> ?_],by simp[J.now.ln,n2.ln],λk a c e1 e2=> ?_],J.len,λi d e=> ?_] v ?_;rintro rfl;obtain⟨u,hu⟩:=J.now.there ha;rw[hr a hx] at hu;cases hu;by_cases hk:k<θ1.length;rw[AT hk] at e1;dsimp only at e2;rw[AT (by rw[<- J.now.ln];exact hk)] at e2;have w:=J.now.ce k a c e1 e2;cases c with
 | dead=>obtain⟨o,ho⟩:=w;exact#[o,kp a o ho]
 | lst ds=>obtain⟨q1,ys,q2,q3⟩:=w;exact#[q1,ys,kp _ _ q2,q3.mono (cg.refl _) #[θ2,rfl]]
 | ins c ns ds=>obtain⟨q1,dx,ys,q2,q3,q4⟩:=w;exact#[q1,dx,ys,kp _ _ q2,q3,q4.mono (cg.refl _) #[θ2,rfl]]
 rw[wP ⋯] at e1;dsimp only at e2;rw[wP (by rw[<- J.now.ln];omega),wT,<- J.now.ln] at e2;cases e3:O1[k-θ1.length]? with
 | none=>rw[e3] at e2;cases e2
 | some c'=>
  rw[e3] at e2;cases e2;have w:=n2.ce _ a c' e1 e3;have fc:Df c'=true:=(TZ.mp sd.2) c' (SI e3);have an:F1 a=none:=by
   cases ea:F1 a with
   | none=>rfl
   | some o=>
    have h1:=J.now.fh a o ea;have h2:=hr a (SI e1);rw[h2] at h1;cases h1
  cases c' with
  | dead=>exact w
  | lst ds=>obtain⟨q1,ys,q2,q3⟩:=w;exact#[an,ys,q2,Cn fc q3]
  | ins c ns ds=>cases fc
 obtain⟨v,h1,h2⟩:=J.sl i d e;exact#[v,h1,h2.mono (cg.refl _) #[θ2,rfl]];rw[<- J.now.ln];exact ET sd.1 rv;exact sH p1;exact sH p1;exact sH p1
end
section
variable {C : Ct}
theorem Aa{K:uY}{ca:Nat->sK}{θ:List sK}{F:Hp}:∀{zs:List Str} {xs:List V},aI K ca θ F (zs.map D.str) xs->xs=zs.map V.str
 | [],xs,h=>by unfold aI at h;exact h
 | z::zs,xs,h=>by rw[x0] at h;unfold aI at h;obtain⟨v,r,rfl,h1,h2⟩:=h;rw[dM.mp h1,Aa h2];rfl
theorem Kl{H H':Hp}(e:cg H H')(h:SqL K H a xs):SqL K H' a xs:=by rcases h with(h | ⟨o,h⟩) | h;exact .inl (.inl (e _ _ h));exact .inl (.inr #[o,e _ _ h]);exact .inr h
end
section
variable {C : Ct}
def Sw(f:Str->Str->Res D)(ms me:EM):EM:=λs=>(ms s).bind λx=>match x.1 with
 | .str z=>(me x.2).bind λy=>match y.1 with
  | .str c=>(f z c).bind λd=>.ok (d,y.2)
  | _=>.bad
 | _=>.bad
def Mm(f:List Str->Str->Res D)(mo me:EM):EM:=λs=>(mo s).bind λx=>match x.1 with
 | .lst ds=>match nH ds with
  | some zs=>(me x.2).bind λy=>match y.1 with
   | .str c=>(f zs c).bind λd=>.ok (d,y.2)
   | _=>.bad
  | none=>.bad
 | _=>.bad
def DW:List Str->Str->Res D:=λzs c=>if zs.idxOf c<zs.length then .ok (.int (zs.idxOf c:Nat)) else .bad
def Dy(mo me:EM):EM:=Mm DW mo me
theorem Pk {f:List Str->Str->Res D} {r:V->List V->Hp->VK->Prop} (ho:RdE C to mo) (he:RdE C te me)
 (hr:∀{σ:L2.St} {H F:Hp} {θ:List sK} {s:S} {a:sK} {zs:List Str} {c:Str} {Q:VK},BS C.K C.ca σ H F θ s->SqL C.K H a (zs.map V.str)->PoE C σ H F θ ((f zs c).bind λd=>.ok (d,s)) Q->r (.ref a) [.str c] H Q):
 RdE C (tBM C.K "list" r to (kR te o5)) (Mm f mo me):=by
 intro σ H F θ s Q b p;refine ho σ H F θ s _ b (PoR.bind p ?_);rintro ⟨x,s1⟩ H1 F1 θ1 _ as p1 Y v J;dsimp only at p1 Y J;split at p1;rename_i ds _;split at p1;rename_i zs e;rw[wG e] at J;unfold Rep at J;obtain⟨a,xs,rfl,hs,hx⟩:=J;rw[Aa hx] at hs;refine#[.inl #[rfl,_,Y.now.fh.seq hs],he σ H1 F1 θ1 s1 _ Y (PoR.bind p1 ?_)];rintro ⟨y,s2⟩ H2 F2 θ2 _ ab p2 b2 w r2;dsimp only at p2 b2 r2;split at p2;rename_i c _;cases dM.mp r2;exact hr b2 (b2.now.fh.seq (Kl ab.ff hs)) p2;exact sH p2;exact sH p1;exact sH p1
theorem LF(J:RdE C to mo)(Y:RdE C te me):RdE C (tBM C.K "list" (II C.K) to (kR te o5)) (Dy mo me):=Pk J Y λ{σ H F θ s a zs c Q} b hs p=>by unfold DW at p;split at p;rename_i h;exact#[a,zs,c,rfl,rfl,hs,h,dF p b (bH.mpr rfl)];exact sH p
end
section
variable {C : Ct}
def qu:List D->Option (List Int)
 | []=>pr []
 | .int i::r=>match qu r with
  | some l=>pr (i::l)
  | none=>qh
 | _=>qh
theorem BQ:∀{ds:List D} {ns:List Int},qu ds=pr ns->ds=ns.map D.int
 | [],ns,h=>by cases h;rfl
 | d::ds,ns,h=>by
  cases d <;> first | (simp[qu] at h;done) | skip
  rename_i i;unfold qu at h;split at h;rename_i l e;cases h;rw[BQ e];rfl;cases h
theorem Ap:∀ns:List Int,qu (ns.map D.int)=pr ns
 | []=>rfl
 | n::ns=>by rw[x0];unfold qu;rw[Ap ns]
def zU(O:aD)(d:D):Option (List Int):=match lsD O d with
 | some ds=>qu ds
 | none=>qh
theorem Jr{ns:List Int}(b:BS C.K C.ca σ H F θ s)(r:Rep C.K C.ca θ F d v)(e:zU s.o d=pr ns):∃a,v=.ref a/\SqL C.K H a (ns.map V.int):=by unfold zU at e;split at e;rename_i ds J;obtain⟨a,xs,rfl,hs,hr⟩:=fu b r J;rw[BQ e] at hr;rw[uL hr] at hs;exact#[a,rfl,hs];cases e
def keyed(O:aD):List D->Option (List (D×List Int))
 | []=>pr []
 | d::ds=>match zU O d,keyed O ds with
  | some ns,pr r=>pr ((d,ns)::r)
  | _,_=>qh
theorem BL{σ:L2.St}{H F:Hp}{θ:List sK}{s:S}(b:BS C.K C.ca σ H F θ s):∀{ds:List D} {Y:List (D×List Int)} {xs:List V},keyed s.o ds=pr Y->aI C.K C.ca θ F ds xs->
 ∃J:List ((sK×D)×List Int),Y=J.map (λx=>(x.1.2,x.2))/\xs=J.map (λx=>V.ref x.1.1)/\∀x∈J,SqL C.K H x.1.1 (x.2.map V.int)/\Rep C.K C.ca θ F x.1.2 (.ref x.1.1)
 | [],Y,xs,e,r=>by cases e;unfold aI at r;subst r;exact#[[],rfl,rfl,λx hx=>by cases hx]
 | d::ds,Y,xs,e,r=>by
  unfold keyed at e;split at e;rename_i ns k2 e1 e2;cases e;unfold aI at r;obtain⟨v,ab,rfl,h1,h2⟩:=r;obtain⟨a,rfl,hs⟩:=Jr b h1 e1;obtain⟨J,q1,q2,q3⟩:=BL b e2 h2;refine#[((a,d),ns)::J,by rw[q1];rfl,by rw[q2];rfl,λx hx=> ?_];rcases wE.mp hx with rfl | hx
  exact#[hs,h1];exact q3 x hx;cases e
theorem Gf{K:uY}{ca:Nat->sK}{θ:List sK}{F:Hp}:∀{J:List ((sK×D)×List Int)},(∀x∈J,Rep K ca θ F x.1.2 (.ref x.1.1))->aI K ca θ F (J.map λx=>x.1.2) (J.map λx=>V.ref x.1.1)
 | [],_=>aI.nil
 | x::J,h=>aI.cons (h x wp) (Gf λy hy=>h y (wf _ hy))
def w9(fin:S->List D->Res (D×S))(me:EM):EM:=λs=>(me s).bind λx=>match lsD x.2.o x.1 with
 | some ds=>match keyed x.2.o ds with
  | some J=>if J.length<64/\(J.map (·.2)).Nodup then fin x.2 ((fk J).map (·.1)) else .bad
  | none=>.bad
 | none=>.bad
theorem Nv {fin:S->List D->Res (D×S)} (he:RdE C te me)
 (hf:∀σ H F θ s ds xs Q,BS C.K C.ca σ H F θ s->aI C.K C.ca θ F ds xs->PoE C σ H F θ (fin s ds) Q->∀q,H q=qh->Q (.ref q) (upd H q (.lst xs))):RdE C (tCB (yo C.K) (kR te o5)) (w9 fin me):=by
 intro σ H F θ s Q b p;refine he σ H F θ s _ b (PoR.bind p ?_);rintro ⟨x,s1⟩ H1 F1 θ1 _ ap p1 J v Y;dsimp only at p1 J Y;split at p1;rename_i ds el;split at p1;rename_i kd ek;split at p1;rename_i hc;obtain⟨a,xs,rfl,hs,hr⟩:=fu J Y el;obtain⟨l3,rfl,rfl,q3⟩:=BL J ek hr;have n1:∀l:List ((sK×D)×List Int),fk (l.map λx=>(x.1.1,x.2))=(fk l).map λx=>(x.1.1,x.2):=oK λ_=>rfl;have n2:∀l:List ((sK×D)×List Int),fk (l.map λx=>(x.1.2,x.2))=(fk l).map λx=>(x.1.2,x.2):=oK λ_=>rfl;refine#[a,l3.map λx=>(x.1.1,x.2),rfl,by rw[wv];exact hs,λy hy=> ?_,by have:=hc.1;rw[t3] at this ⊢;exact this,by have:=hc.2;rw[wv] at this ⊢;exact this, ?_];obtain⟨x,hx,rfl⟩:=sB.mp hy;exact(q3 x hx).1;rw[n2,wv] at p1;rw[n1,wv];exact hf σ H1 F1 θ1 s1 _ _ Q J (Gf λx hx=>(q3 x ((iE l3).mem_iff.mp hx)).2) p1;exact sH p1;exact sH p1;exact sH p1
theorem Mo(J:RdE C te me):RdE C (tCB (yo C.K) (kR te o5)) (w9 rV me):=Nv J λσ H F θ s ds xs Q b r p=>wI p b r
def rQ(n:Int)(ns:List Int):Int:=ns.foldl (λa b=>if b<a then b else a) n
theorem GG:∀(ns:List Int) (n:Int),rQ n ns<=n/\∀x∈ns,rQ n ns<=x
 | [],n=>#[Wg _,λx hx=>by cases hx]
 | b::ns,n=>by
  obtain⟨h1,h2⟩:=GG ns (if b<n then b else n);have e:rQ n (b::ns)=rQ (if b<n then b else n) ns:=rfl;rw[e];have le:(if b<n then b else n)<=n/\(if b<n then b else n)<=b:=by split <;> omega
  generalize (if b<n then b else n)=c at h1 h2 le;refine#[WC h1 le.1,λx hx=> ?_];rcases wE.mp hx with rfl | hx
  exact WC h1 le.2;exact h2 x hx
theorem yQ:∀(ns:List Int) (n:Int),rQ n ns∈n::ns
 | [],n=>wp
 | b::ns,n=>by
  have h:=yQ ns (if b<n then b else n);have e:rQ n (b::ns)=rQ (if b<n then b else n) ns:=rfl;rw[e];rcases wE.mp h with h | h
  rw[h];split;exact wf _ wp;exact wp;exact wf _ (wf _ h)
end
section
variable {C : Ct}
end
section
variable {C : Ct}
abbrev IX:=S->Res ((List D×(aD->Prop))×S)
def LD(C:Ct)(wi:TI)(im:IX):Prop:=∀σ H F θ s R,BS C.K C.ca σ H F θ s->
 PoR C H F θ (im s) (λy H1 F1 θ1=>BS C.K C.ca σ H1 F1 θ1 y.2->∀J,wm C J y.1.1 y.1.2 H1 F1 θ1->R J H1)->wi σ H R
theorem lsN{H F H2 J:Hp}{θ θ2:List sK}{Y:aD}(st:Stp H F θ H2 J θ2)(n:Now C.K C.ca H2 J θ2 Y)(r:Rep C.K C.ca θ F x v)(e:lsD Y x=pr ds):∃a xs,v=.ref a/\SqL C.K H2 a xs/\aI C.K C.ca θ2 J ds xs:=by
 replace r:=r.mono st.ff st.pre;cases x <;> first | (simp[lsD] at e;done) | skip
 cases e;unfold Rep at r;obtain⟨a,xs,rfl,hs,hr⟩:=r;exact#[a,xs,rfl,n.fh.seq hs,hr];rename_i k;unfold Rep at r;obtain⟨a,rfl,hk⟩:=r;unfold lsD at e;dsimp only at e;split at e;rename_i ab ek;cases e;obtain⟨_,xs,h1,h2⟩:kz C.K C.ca H2 J θ2 a (.lst ds):=n.ce k a _ hk ek;exact#[a,xs,rfl,SqL.of h1,h2];cases e
def tx(m:AM):IX:=λs=>(m s).bind λx=>match x.1 with
 | [a,b]=>match lsD x.2.o a,lsD x.2.o b with
  | some as,pr bs=>.ok ((mn as bs,λO=>lsD O a=pr as/\lsD O b=pr bs),x.2)
  | _,_=>.bad
 | _=>.bad
theorem NW{a b:sK}{as bs:List D}{H F:Hp}(r1:Rep C.K C.ca θ F x (.ref a))(r2:Rep C.K C.ca θ F y (.ref b)):
 wm C (Itz C.K a b) (mn as bs) (λO=>lsD O x=pr as/\lsD O y=pr bs) H F θ where
 go:=λi H2 F2 θ2 O2 hi st n ok=>by obtain⟨_,_,e1,e2,_⟩:=tQ (ut hi);obtain⟨_,xs,q,h1,k1⟩:=lsN st n r1 ok.1;cases q;obtain⟨_,ys,q,h2,k2⟩:=lsN st n r2 ok.2;cases q;obtain⟨v,q1,_⟩:=k1.get e1;obtain⟨w,q2,_⟩:=k2.get e2;exact#[xs,ys,v,w,h1,h2,q1,q2]
 yl:=λi d σ H2 F2 θ2 s2 z H3 hd st b ok hy=>by obtain⟨T,v,w,hT,rfl,rfl,hv,hw⟩:=hy;obtain⟨_,_,e1,e2,rfl⟩:=tQ hd;obtain⟨_,xs,q,h1,k1⟩:=lsN st b.now r1 ok.1;cases q;obtain⟨_,ys,q,h2,k2⟩:=lsN st b.now r2 ok.2;cases q;obtain⟨v',q1,k1⟩:=k1.get e1;obtain⟨w',q2,k2⟩:=k2.get e2;have:=hv xs h1;rw[q1] at this;cases this;have:=hw ys h2;rw[q2] at this;cases this;obtain⟨st3,b3,sF,e3⟩:=b.newF hT (.tup [v,w]);refine#[_,st3,b3, ?_];unfold Rep;exact#[T,[v,w],rfl,SqT.of e3,aI.cons (k1.mono st3.ff st3.pre) (aI.one (k2.mono st3.ff st3.pre))]
 st:=λi H2 F2 θ2 O2 hi st n ok=>by obtain⟨_,xs,q,h1,k1⟩:=lsN st n r1 ok.1;cases q;obtain⟨_,ys,q,h2,k2⟩:=lsN st n r2 ok.2;cases q;refine#[xs,ys,h1,h2, ?_];unfold mn at hi;rw[Ti] at hi;rw[k1.length,k2.length];omega
theorem Bg{m:AM}(h:RdA C ta m):LD C (KW C.K ta) (tx m):=by intro σ H F θ s R b p;refine h σ H F θ s _ b (PoR.bind p ?_);rintro ⟨x,s1⟩ H1 F1 θ1 _ an p1 J v r1;dsimp only at p1 J r1;split at p1;rename_i x y;split at p1;rename_i as bs e1 e2;obtain⟨v1,v2,rfl,k1,k2⟩:=ML r1;obtain⟨a,xs,rfl,hs,hr⟩:=fu J k1 e1;obtain⟨b',ys,rfl,Y,ap⟩:=fu J k2 e2;exact#[a,b',rfl,#[xs,hs],#[ys,Y],p1 _ _ _ .refl J _ (NW k1 k2)];exact sH p1;exact sH p1
noncomputable def zN (m:Nat)(caps:List Nat)(im:IX)(g:GM)(c:TM)(e:EM):S->Res (List D×S):=λs=>(im s).bind λy=>
 (fv y.1.2 g c e y.1.1 [] #[o6 m caps y.2.r,y.2.o]).bind λz=>.ok (z.1,#[y.2.r,z.2.o])
theorem Jl {m:Nat} {caps:List Nat} {im:IX} {c:TM} (hi:LD C wi im) (hg:RdG C g gm) (hc:RdT C tc c) (he:RdE C te e)
 {σ:L2.St} {H F:Hp} {θ:List sK} {s:S} {Q:VK} (b:BS C.K C.ca σ H F θ s)
 (p:PoR C H F θ (zN m caps im gm c e s) λy H1 F1 θ1=>BS C.K C.ca σ H1 F1 θ1 y.2->∀q xs,H q=qh->H1 q=pr (.lst xs)->F1 q=qh->q∉θ1->aI C.K C.ca θ1 F1 y.1 xs->Q (.ref q) H1):tW m caps wi g tc te σ H Q:=by
 refine hi σ H F θ s _ b (PoR.bind p ?_);rintro ⟨⟨ds,k⟩,s1⟩ H1 F1 θ1 _ co p1 b1 J it q hq;dsimp only at p1 b1 it;have cp:Stp H1 F1 θ1 (upd H1 q (.lst [])) F1 θ1:=by
  have nm:∀a u,H1 a=pr u->a≠q:=λa u e z=>by rw[z,hq] at e;cases e
  exact#[cg.refl _,#[[],by simp,by simp],λa u h _=>by rw[aZ (nm a u h)];exact h,λa u h=>#[u,by rw[aZ (nm a u h)];exact h],λa u h=>.inl h]
 have cc:q∉θ1:=λh=>by obtain⟨u,hu⟩:=b1.now.there h;rw[hq] at hu;cases hu
 have qF:F1 q=none:=by
  cases e:F1 q with
  | none=>rfl
  | some u=>rw[b1.now.fh q u e] at hq;cases hq
 have cr:H q=none:=by
  cases e:H q with
  | none=>rfl
  | some u=>obtain⟨u',e'⟩:=co.al q u e;rw[hq] at e';cases e'
 have keep:∀{H2 F2 H3 F3:Hp} {θ2 b2:List sK} {o:HO},Stp H2 F2 θ2 H3 F3 b2->H2 q=pr o->F2 q=qh->q∉θ2->H3 q=pr o/\F3 q=qh/\q∉b2:=λ{H2 F2 H3 F3 θ2 b2 o} st h1 h2 h3=>by
  refine#[st.kp q o h1 h3, ?_, ?_];cases e:F3 q with
  | none=>rfl
  | some u=>
   rcases st.nf q u e with z | z | z;rw[h2] at z;cases z;rw[h1] at z;cases z;exact absurd z h3
  obtain⟨r,rfl,hr⟩:=st.th;intro hm;rcases xz.mp hm with z | z
  exact h3 z;rw[hr q z] at h1;cases h1
 have ci:∀{an:L2.St} {H2 F2:Hp} {θ2:List sK} {s2:S} (o:HO),BS C.K C.ca an H2 F2 θ2 s2->F2 q=qh->q∉θ2->BS C.K C.ca an (upd H2 q o) F2 θ2 s2:=λ{an H2 F2 θ2 s2} o b h1 h2=>by
  have ne:∀a,a∈θ2->a≠q:=λa h z=>h2 (z▸h);refine#[#[λa u h=> ?_,b.now.nd,b.now.ln,λj a c e1 e2=> ?_],b.len,b.sl];have:a≠q:=λz=>by rw[z,h1] at h;cases h
  rw[aZ this];exact b.now.fh a u h;have hm:=ne a (SI e1);have w:=b.now.ce j a c e1 e2;cases c with
  | dead=>obtain⟨u,hu⟩:=w;exact#[u,by rw[aZ hm];exact hu]
  | lst ds=>obtain⟨q1,ys,q2,q3⟩:=w;exact#[q1,ys,by rw[aZ hm];exact q2,q3]
  | ins c ns ds=>obtain⟨q1,dx,ys,q2,q3,q4⟩:=w;exact#[q1,dx,ys,by rw[aZ hm];exact q2,q3,q4]
 have cu:∀{H2 F2:Hp} {θ2:List sK} (o:HO),Stp H1 F1 θ1 H2 F2 θ2->Stp H1 F1 θ1 (upd H2 q o) F2 θ2:=λ{H2 F2 θ2} o st=>by
  have nm:∀a u,H1 a=pr u->a≠q:=λa u e z=>by rw[z,hq] at e;cases e
  exact#[st.ff,st.th,λa u h1 h2=>by rw[aZ (nm a u h1)];exact st.kp a u h1 h2,λa u h1=>by rw[aZ (nm a u h1)];exact st.al a u h1,st.nf]
 refine#[λi n ab an H'=>n=ds.length-i/\i<=ds.length/\∃F' Y s' as,Stp H1 F1 θ1 H' F' Y/\H' q=pr (.lst ab)/\F' q=qh/\q∉Y/\BS C.K C.ca an H' F' Y s'/\aI C.K C.ca Y F' as ab/\
  PoR C H1 F1 θ1 ((fv (k) gm c e (ds.drop i) as s').bind λz=>.ok (z.1,(#[s1.r,z.2.o]:S))) (λy H1 F1 θ1=>BS C.K C.ca σ H1 F1 θ1 y.2->∀q xs,H q=qh->H1 q=pr (.lst xs)->F1 q=qh->q∉θ1->aI C.K C.ca θ1 F1 y.1 xs->Q (.ref q) H1),
  #[ds.length,by simp,SU _,F1,θ1,#[o6 m caps s1.r,s1.o],[],cp,dg,qF,cc,ci _ (JX b1 m caps) qF cc,aI.nil,by simpa using p1], ?_]
 rintro i n ab an H' ⟨rfl,dn,F',Y,s',as,st,hq',ck,bt,bs,be,po⟩;by_cases lt:i<ds.length;right;rw[S0 lt,fv] at po;split at po;rename_i bf;refine#[it.go i H' F' Y s'.o lt st bs.now bf.1, ?_];intro x H3 hy;obtain⟨F3,bm,b3,rp⟩:=it.yl i ds[i] an H' F' Y s' x H3 (ut lt) st bs bf.1 hy;obtain⟨k1,k2,k3⟩:=keep bm hq' ck bt;have ap:=st.trans bm;have bn:=PoR.after ap po;have w1:PoG C H3 F3 Y (gm ds[i] s') (λaz H4=>tc az H4 λb H4=>if b=ss then
  te az H4 λy H5=>H5 q=pr (.lst ab)/\ab.length<sizeLine/\∃k',k'<ds.length-i/\(k'=ds.length-(i+1)/\i+1<=ds.length/\∃F' Y s' as,Stp H1 F1 θ1 (upd H5 q (.lst (ab++[y]))) F' Y/\(upd H5 q (.lst (ab++[y]))) q=pr (.lst (ab++[y]))/\F' q=qh/\q∉Y/\BS C.K C.ca az (upd H5 q (.lst (ab++[y]))) F' Y s'/\aI C.K C.ca Y F' as (ab++[y])/\
   PoR C H1 F1 θ1 ((fv (k) gm c e (ds.drop (i+1)) as s').bind λz=>.ok (z.1,(#[s1.r,z.2.o]:S))) (λy H1 F1 θ1=>BS C.K C.ca σ H1 F1 θ1 y.2->∀q xs,H q=qh->H1 q=pr (.lst xs)->F1 q=qh->q∉θ1->aI C.K C.ca θ1 F1 y.1 xs->Q (.ref q) H1))
  else ∃k',k'<ds.length-i/\(k'=ds.length-(i+1)/\i+1<=ds.length/\∃F' Y s' as,Stp H1 F1 θ1 H4 F' Y/\H4 q=pr (.lst ab)/\F' q=qh/\q∉Y/\BS C.K C.ca az H4 F' Y s'/\aI C.K C.ca Y F' as ab/\
   PoR C H1 F1 θ1 ((fv (k) gm c e (ds.drop (i+1)) as s').bind λz=>.ok (z.1,(#[s1.r,z.2.o]:S))) (λy H1 F1 θ1=>BS C.K C.ca σ H1 F1 θ1 y.2->∀q xs,H q=qh->H1 q=pr (.lst xs)->F1 q=qh->q∉θ1->aI C.K C.ca θ1 F1 y.1 xs->Q (.ref q) H1))):=by
  cases e1:gm ds[i] s' with
  | bad=>rw[e1] at bn;exact bn
  | exc a1 a2 a3=>rw[e1] at bn;exact bn
  | ok s4=>
   rw[e1] at po;intro H4 F4 cw a4 az b4;obtain⟨l1,l2,l3⟩:=keep a4 k1 k2 k3;refine hc az H4 F4 cw s4 _ b4 ?_;cases e2:c s4 with
   | bad=>rw[aj,e2] at po;exact po
   | exc a1 a2 a3=>rw[aj,e2] at po;exact PoR.after (ap.trans a4) po
   | ok x5=>
    obtain⟨kk,s5⟩:=x5;rw[aj,e2,aj] at po;intro H5 F5 cn a5 b5;obtain⟨m1,m2,m3⟩:=keep a5 l1 l2 l3;have bi:=((be.mono bm.ff bm.pre).mono a4.ff a4.pre).mono a5.ff a5.pre;cases kk with
    | false=>
     exact t8 #[ds.length-(i+1),⋯,rfl,⋯,F5,cn,s5,as,ap.trans (a4.trans a5),m1,m2,m3,b5,bi,by simpa using po]
    | true=>
     refine tK (he az H5 F5 cn s5 _ b5 ?_);dsimp only[if_true] at po;cases e3:e s5 with
     | bad=>rw[e3] at po;exact po
     | exc a1 a2 a3=>rw[e3] at po;exact PoR.after (ap.trans (a4.trans a5)) po
     | ok x6=>
      obtain⟨y,s6⟩:=x6;rw[e3,aj] at po;intro H6 F6 cA bp b6 w r6;obtain⟨n1,n2,n3⟩:=keep bp m1 m2 m3;exact#[n1,by rw[be.length];exact bf.2,ds.length-(i+1),⋯,rfl,⋯,F6,cA,s6,as++[y],cu _ (ap.trans (a4.trans (a5.trans bp))),dg,n2,n3,ci _ b6 n2 n3,(bi.mono bp.ff bp.pre).append (aI.one r6),po]
 exact hg an H3 F3 Y s' ds[i] x _ b3 rp w1;exact sH po;left;rw[Ut ⋯,fv] at po;split at po;rename_i bf;refine#[it.st i H' F' Y s'.o ⋯ st bs.now bf,hq', ?_];refine po H' F' Y st #[bs.now,b1.len,λj d e=> ?_] q ab cr hq' ck bt be;obtain⟨v,h1,h2⟩:=b1.sl j d e;exact#[v,h1,h2.mono st.ff st.pre];exact sH po
noncomputable def p9 (m:Nat)(caps:List Nat)(im:IX)(g:GM)(c:TM)(e:EM):EM:=λs=>(zN m caps im g c e s).bind λy=>.ok (.lst y.1,y.2)
theorem v7{m:Nat}{im:IX}{c:TM}(hi:LD C wi im)(hg:RdG C g gm)(hc:RdT C tc c)(he:RdE C te e):RdE C (tW m caps wi g tc te) (p9 m caps im gm c e):=by
 intro σ H F θ s Q b p;refine Jl hi hg hc he b ?_;unfold p9 at p;cases e1:zN m caps im gm c e s with
 | bad=>rw[e1] at p;exact p
 | exc a1 a2 a3=>rw[e1] at p;exact p
 | ok y=>
  rw[e1,aj] at p;intro H1 F1 θ1 J Y q xs h0 h1 h2 h3 hr;have sF:cg F1 (upd F1 q (.lst xs)):=λa u h=>by rw[aZ (λz=>by rw[z,h2] at h;cases h)];exact h
  refine p H1 (upd F1 q (.lst xs)) θ1 #[J.ff.trans sF,J.th,J.kp,J.al,λa u h=> ?_] #[#[λa u h=> ?_,Y.now.nd,Y.now.ln,λj a c e2 e3=> ?_],Y.len,λi d e2=> ?_] (.ref q) ?_;by_cases z:a=q;subst z;exact .inr (.inl h0);rw[aZ z] at h;exact J.nf a u h;by_cases z:a=q;subst z;rw[dg] at h;rw[h1];exact h;rw[aZ z] at h;exact Y.now.fh a u h;have ne:a≠q:=λz=>h3 (z▸SI e2);have w:=Y.now.ce j a c e2 e3;cases c with
  | dead=>exact w
  | lst ds=>obtain⟨q1,ys,q2,q3⟩:=w;exact#[by rw[aZ ne];exact q1,ys,q2,q3.mono sF #[[],by simp]]
  | ins c ns ds=>obtain⟨q1,dx,ys,q2,q3,q4⟩:=w;exact#[by rw[aZ ne];exact q1,dx,ys,q2,q3,q4.mono sF #[[],by simp]]
  obtain⟨v,w1,w2⟩:=Y.sl i d e2;exact#[v,w1,w2.mono sF #[[],by simp]];unfold Rep;exact#[q,xs,rfl,SqL.of dg,hr.mono sF #[[],by simp]]
end
section
variable {C : Ct}
end
end M
namespace L2
open PySem PySem.Spec PyProof.Rows
structure QL(k:Nat)(A:SN):Prop where
 dp:A.depth+3*k+5<recursionLimit
 un:A.units+16*k+200<cLine
structure Ss(P:FS)(w:IN)(K:uY)(mg:Str->Option sn)(base:Rs)(CX:CXT)(k:Nat)(f:sK)(fd:Tr)(ps:List Str)(sp:Sp):Prop where
 len:∀vs H Q E,sp vs H Q E->vs.length=ps.length
 run:∀(A:SN) (outer:List Env) (s:vr) (H:Hp) (args:Args) (us:List sn) (vs:List V) (Q:VK) (E:XK),QL k A->vR P w K mg base A outer s H->Vk s fd args (ps.zip us)->Vals vs us->sp vs H Q E->
  codeAny (model P w) A (.call (.ref f) args) (CR CX outer P w H s Q E) s
section
variable {X : Cx} {CX : CXT} {k : Nat} {f C : sK} {fd : Tr} {ps : List Str} {sp : Sp} {dvs : List V} {ds : List sn} {E : XK} {x m : Str} {p pos apos : Pos} {e o : KE} {es : List KE} {ta : TE} {t : TA}
end
section
variable {P : FS} {w : IN} {K : uY} {mg : Str → Option sn} {base : Rs}
end
end L2
namespace M
open PySem PySem.Spec PyProof.Rows L2
variable {mo me m : EM} {k n a b c e : Nat} {d : D} {ds0 ds : List D} {st : Uy} {caps : List Nat} {i j bot : Int} {ns ms r row goal s l x y z h w fit : List Int} {O O1 : aD} {im : IM} {body A B : SM} {f g : Nat → Int} {left rows R ps : List (List Int)} {P L : List (Nat × List Int)} {p : Nat × List Int} {ma : AM} {T : List Sh}
section
variable {C : Ct}
def xk(mo me:EM):EM:=λs=>(mo s).bind λx=>match gO x.2.o x.1 with
 | some _=>(me x.2).bind λy=>match gO y.2.o x.1 with
  | some (k,ds)=>if ds.length<16777216 then .ok (.non,#[y.2.r,y.2.o.set k (.lst (y.1::ds))]) else .bad
  | none=>.bad
 | none=>.bad
theorem NY{to te:TE}(ho:RdE C to mo)(he:RdE C te me):RdE C (tBM C.K "list" Mz to (kR (tC (.int 0)) (kR te o5))) (xk mo me):=by intro σ H F θ s Q b p;refine ho σ H F θ s _ b (PoR.bind p ?_);rintro ⟨x,s1⟩ H1 F1 θ1 _ a2 p1 Y v r1;dsimp only at p1 Y r1;split at p1;rename_i kd e;obtain⟨rfl,e'⟩:=mY (k:=kd.1) (ds:=kd.2) e;obtain⟨a,xs,rfl,hk,_,h1,_⟩:=jO Y r1 e';refine#[.inl #[rfl,xs,SqL.of h1],he σ H1 F1 θ1 s1 _ Y (PoR.bind p1 ?_)];rintro ⟨y,s2⟩ H2 F2 θ2 _ J p2 b2 w r2;dsimp only at p2 b2 r2;split at p2;rename_i k ds e2;obtain⟨ek,e2⟩:=mY e2;cases ek;obtain⟨a',ys,ea,am,hF,h2,hr⟩:=jO b2 (r1.mono J.ff J.pre) e2;cases ea;split at p2;rename_i hl;obtain⟨an,b3⟩:=b2.setC am e2 hF (aI.cons r2 hr);exact#[a,ys,w,rfl,rfl,h2,by rw[hr.length];exact hl,p2 _ _ _ an b3 _ (gD.mpr rfl)];exact sH p2;exact sH p2;exact sH p1
end
theorem PH{s s1:S}{R:List (Option D)}{O O':aD}(h1:mo s=.ok (.ptr k,s1))(J:s1.o[k]? =pr (.lst ds0))(h2:me s1=.ok (d,#[R,O]))(Y:O[k]? =pr (.lst ds))(hb:ds.length<=1000000)(hO:O.set k (.lst (d::ds))=O'):xk mo me s=.ok (.non,#[R,O']):=by
 subst hO;unfold xk;rw[h1];show (match gO s1.o (.ptr k) with | some _=>_ | none=>_)=_;have e1:gO s1.o (.ptr k)=pr (k,ds0):=by unfold gO;simp only[J]
 have e2:gO O (.ptr k)=pr (k,ds):=by unfold gO;simp only[Y]
 rw[e1];show (me s1).bind _=_;rw[h2];show (match gO O (.ptr k) with | some (k,ds)=>_ | none=>_)=_;rw[e2];show (if ds.length<16777216 then _ else _)=_;rw[if_pos ⋯]
section
variable {C : Ct} {Es : L2.St → XK}
end
structure Ev where
 P:FS
 w:IN
 K:uY
 mg:Str->Option sn
 base:Rs
 ca:Nat->sK
abbrev DIn(e:Ev)(lv:Nat)(x:Str)(ps:List Str)(f:FM):Prop:=MP e.P e.w e.K e.mg e.base e.ca lv x ps f
abbrev N0(e:Ev)(x:Str):Prop:=e.mg x=qh
def FA(e:Ev)(x:Str)(st:Uy):Prop:=∃a fd,Fun e.K x x st a fd/\e.mg x=pr (.ref a)
def FK(K:uY)(x:Str)(st:Uy):Prop:=∃(f:sK) (J:sn) (Y:Option sK) (kV dc pm:sn) (an:Option sK) (cd ct:sn) (sl:Array (Option sn)),SG K mainGlobals x=pr (pr (.ref f))/\
 K.lookup f=pr #[J,Y,.func (SH x x (eK st) (d3 st) (aM st) .none kV dc pm an cd ct),sl]/\S3 K cd x=ss/\SO K (.ref f)=ss
theorem FK.fa{e:Ev}{h:Rs}{x:Str}(X:e.K.In h)(G:h.Ns mainGlobals e.mg)(k:FK e.K x st):FA e x st:=by obtain⟨f,J,Y,kV,dc,pm,an,cd,ct,sl,a,l,c,kp⟩:=k;exact#[f,_,lG l c kp,Um X G a]
abbrev wa(x:Str)(ps:List Str)(st:Uy):Prop:=∀(kV J pm:sn) (an:Option sK) (Y ct:sn) (us:List sn),us.length=ps.length->bindArgs (SH x x (eK st) (d3 st) (aM st) .none kV J pm an Y ct) #[us,[]]=pure (ps.zip us)
theorem bd1{x p0:Str}(h:∀(kV J pm:sn) (an:Option sK) (Y ct u0:sn),bindArgs (SH x x (eK st) (d3 st) (aM st) .none kV J pm an Y ct) #[[u0],[]]=pure [(p0,u0)]):wa x [p0] st:=λkV J pm an Y ct us hl=>match us,hl with | [u0],_=>h kV J pm an Y ct u0
theorem bd2{x p0 p1:Str}(h:∀(kV J pm:sn) (an:Option sK) (Y ct u0 u1:sn),bindArgs (SH x x (eK st) (d3 st) (aM st) .none kV J pm an Y ct) #[[u0,u1],[]]=pure [(p0,u0),(p1,u1)]):wa x [p0,p1] st:=λkV J pm an Y ct us hl=>match us,hl with | [u0,u1],_=>h kV J pm an Y ct u0 u1
theorem bd3{x p0 p1 p2:Str}(h:∀(kV J pm:sn) (an:Option sK) (Y ct u0 u1 u2:sn),bindArgs (SH x x (eK st) (d3 st) (aM st) .none kV J pm an Y ct) #[[u0,u1,u2],[]]=pure [(p0,u0),(p1,u1),(p2,u2)]):wa x [p0,p1,p2] st:=λkV J pm an Y ct us hl=>match us,hl with | [u0,u1,u2],_=>h kV J pm an Y ct u0 u1 u2
theorem bd4{x p0 p1 p2 p3:Str}(h:∀(kV J pm:sn) (an:Option sK) (Y ct u0 u1 u2 u3:sn),bindArgs (SH x x (eK st) (d3 st) (aM st) .none kV J pm an Y ct) #[[u0,u1,u2,u3],[]]=pure [(p0,u0),(p1,u1),(p2,u2),(p3,u3)]):wa x [p0,p1,p2,p3] st:=λkV J pm an Y ct us hl=>match us,hl with | [u0,u1,u2,u3],_=>h kV J pm an Y ct u0 u1 u2 u3
theorem bJ {e:Ev} {x:Str} {N ps:List Str} {m:SM} (F:FA e x st) (S:aY N ps (aM st)) (hn:N.length=n) (hk:32<=k) (hb:wa x ps st)
 (hm:∀(f:sK) (J:sn) (A:SN) (outer:List Env) (s:vr) (H:Hp) (E:XK),fU k (A.deeper (envOfC x (aM st) s.heap.objs.size f J))->(A.deeper (envOfC x (aM st) s.heap.objs.size f J)).units+64<cLine->(A.deeper (envOfC x (aM st) s.heap.objs.size f J)).depth+100<recursionLimit->
  ∃t,PSs (wM (CXE e.P e.w) e.P e.w e.K e.mg e.base N x (aM st) f J A outer s H E).nox (d3 st) t/\RdS #[e.K,e.ca,W0] t m):DIn e (k+1) x ps (runM n m):=by
 obtain⟨a,fd,F,Y⟩:=F;exact#[a,fd,lL F S hn λJ A outer s H E hr=>hm a J A outer s H E hr hr.units (oh hr hk),Y,F.kp,F.binds hb]
def RA(X:Cx)(P:FS)(w:IN)(K:uY)(mg:Str->Option sn)(base:Rs):Prop:=X.prog=P/\X.w=w/\X.K=K/\X.mg=mg/\X.base=base
theorem cq{N P:List Str}{sc:Ua}(J:N.Nodup:=by decide +kernel)(Y:N.take P.length=P:=by rfl)(h6:∀x∈P,sc.names.lookup x=pr .local\/sc.names.lookup x=pr .cell:=by decide +kernel)(h7:∀y∈sc.names,y.2≠ .free:=by decide +kernel)(h1:sc.kind=.function:=by rfl)(h2:sc.isCoroutine=false:=by rfl)(h3:sc.isGenerator=false:=by rfl):aY N P sc:=#[h1,h2,h3,J,Y,h6,h7]
theorem ndL(a b:List Str)(h:(a++b).Nodup:=by decide +kernel):(a++b).Nodup:=h
theorem scC{X:Cx}{scope:Ua}{own cap:List Str}(J:mX X scope cap caps)(h1:scope.kind=.function:=by rfl)(h2:∀y∈scope.names,y.2=.cell->scope.names.lookup y.1=pr .cell:=by decide +kernel)(Y:∀y∈scope.names,y.2=.local->scope.names.lookup y.1=pr .local:=by decide +kernel)(h4:∀y∈scope.names,y.2=.free->y.1∈cap:=by decide +kernel)(h6:(own++cap).Nodup:=by decide +kernel):oC X scope own cap caps:=#[h1,h2,Y,h4,J,h6]
section
variable {X : Cx} {P : FS} {w : IN} {K : uY} {mg : Str → Option sn} {base : Rs} {ca : Nat → sK} {k j : Nat} {x : Str} {ps : List Str} {f : FM} {e : KE} {es : List KE} {t : TA} {p pos : Pos} {Es : L2.St → XK}
theorem aJ(D:MP P w K mg base ca k x ps f)(hr:fU j X.A)(ha:PA X (e::es) t)(hj:k<=j:=by decide)(hX:RA X P w K mg base:=by exact#[rfl,rfl,rfl,rfl,rfl])(hg:Gl X x:=by rfl)(J:(x == ("__debug__" :Str))=false:=by decide)(he:starEach (e::es) X.env=(xL,eval e X.env)::starEach es X.env:=by rfl)(Y:(backTo pos (starEach es X.env)).any (·.1)=false:=by rfl):
 PE X (.Call (.Name x p) (e::es) [] pos) (uk (spM K ca ps.length f) [] E0 t):=by
 obtain⟨rfl,rfl,rfl,rfl,rfl⟩:=hX;obtain⟨a,fd,G,m,k,b⟩:=D;exact Nl G (hr.mono hj) hg m k b .nil iq ha J he Y
end
section
variable {C : Ct}
end
section
variable {C : Ct}
def Aq:OpN:=λO xs=>match xs with
 | [x]=>match lsD O x with
  | some ds=>match ic ds with
   | some (n::ns)=>.ok (.int (rQ n ns))
   | _=>.bad
  | none=>.bad
 | _=>.bad
theorem NJ:jA C (λxs H Q=>∃(p:sK) (ns:List Int),xs=[.ref p]/\SqL C.K H p (ns.map V.int)/\0<ns.length/\∀m:Int,m∈ns->(∀x∈ns,m<=x)->Q (.int m) H) Aq:=by
 intro σ H F θ s xs vs Q b r p;unfold Aq at p;split at p;obtain⟨v,rfl,J⟩:=nC r;split at p;rename_i ds e;obtain⟨a,ys,rfl,hs,hr⟩:=fu b J e;split at p;rename_i n ns e2;have:=tE e2 hr;subst this;refine#[a,n::ns,rfl,hs,by simp,λm hm Y=> ?_];have e1:m=rQ n ns:=by
  have h1:=Y _ (yQ ns n);have h2:=GG ns n;rcases wE.mp hm with rfl | hm
  omega;have:=h2.2 m hm;omega
 rw[e1];exact dF p b (bH.mpr rfl);exact sH p;exact sH p;exact sH p
theorem O0{X:Cx}:OpR X (compareOp .IsNot) (λx y H Q=>∃a b,x=.bl a/\y=.bl b/\Q (.bl (a != b)) H):=by intro pins s σ H x y v u Q I J Y h;obtain⟨a,b,rfl,rfl,q⟩:=h;cases J;cases Y;exact isnot_bool (cU I q rfl)
def Ia:Op2:=λ_ x y=>match x,y with
 | .bl a,.bl b=>.ok (.bl (a != b))
 | _,_=>.bad
theorem N2:ie C (λx y H Q=>∃a b,x=.bl a/\y=.bl b/\Q (.bl (a != b)) H) Ia:=by intro σ H F θ s x y v w Q b J Y p;unfold Ia at p;split at p;rename_i a c;exact#[a,c,cM.mp J,cM.mp Y,dF p b (cM.mpr rfl)];exact sH p
end
@[simp] theorem Rm (ds:List D) (O:aD):okC ds qh O=True:=rfl
@[simp] theorem Rq (ds:List D) (k:Nat) (O:aD):okC ds (pr k) O=(O[k]? =pr (.lst ds)):=rfl
theorem Gy(h:i.natAbs<2^n):Builtin.Int.intBits i<=n:=by
 unfold Builtin.Int.intBits;split;exact SU _;rename_i h0;have hp:i.natAbs≠0:=by intro z;apply h0;simpa using z
 have:=(Nat.log2_lt hp).mpr h;omega
def Sz(n:Nat)(i:Int):Prop:=i.natAbs<2^n
theorem Sz.mono{m n:Nat}(h:Sz m i)(J:m<=n):Sz n i:=Gc h (S4 ∅ J)
theorem eZ{m n:Nat}(hm:m<=60000000)(hn:n<=60000000)(h:Sz m i)(h':Sz n j):Tj i j:=by
 have h1:=Gy h;have h2:=Gy h';have e:Builtin.Int.intTooBig (Builtin.Int.intBits i+Builtin.Int.intBits j)=false:=by unfold Builtin.Int.intTooBig;rw[bitsLine_eq];exact decide_eq_false ⋯
 unfold Tj;rw[e];simp
theorem fX(h:i.natAbs<2^64\/j.natAbs<2^64):Tj i j:=by rcases h with h | h;exact .of_left (intBits_le_64 ⋯ ⋯);exact .of_right (intBits_le_64 ⋯ ⋯)
theorem Sz.mul{m n:Nat}(h:Sz m i)(h':Sz n j):Sz (m+n) (i*j):=by unfold Sz at *;rw[Vq,WU];exact Nat.mul_lt_mul'' h h'
theorem Sz.add{m n:Nat}(h:Sz m i)(h':Sz n j):Sz (max m n+1) (i+j):=by unfold Sz at *;have h1:=Gc h (S4 ∅ (Nat.le_max_left m n));have h2:=Gc h' (S4 ∅ (Nat.le_max_right m n));have J:(i+j).natAbs<=i.natAbs+j.natAbs:=WQ i j;rw[WA];omega
theorem uM(h:0<j):i.fdiv j=i/j:=Int.fdiv_eq_ediv_of_nonneg i (UT h)
theorem Kr(h:0<j):i.fmod j=i%j:=Int.fmod_eq_emod_of_nonneg i (UT h)
section
variable {O : aD}
@[simp] theorem nS:iR O (.int i) (.int j)=.ok (.int (i-j)):=rfl
@[simp] theorem b8:bh O (.int i) (.int j)=.ok (.int (i+j)):=rfl
@[simp] theorem Ru (i j:Int):Rw O (.int i) (.int j)=.ok (.int (i+j)):=rfl
@[simp] theorem iX:ltD O (.int i) (.int j)=.ok (.bl (decide (i<j))):=rfl
@[simp] theorem RZ (i j:Int):leD O (.int i) (.int j)=.ok (.bl (decide (i<=j))):=rfl
@[simp] theorem AO:gtD O (.int i) (.int j)=.ok (.bl (decide (j<i))):=rfl
@[simp] theorem RV (i j:Int):geD O (.int i) (.int j)=.ok (.bl (decide (j<=i))):=rfl
@[simp] theorem tN:jb O (.int i)=.ok (.int (-i)):=rfl
@[simp] theorem jL:eqD O (.int i) (.int j)=.ok (.bl (decide (i=j))):=rfl
@[simp] theorem pV:neD O (.int i) (.int j)=.ok (.bl (!decide (i=j))):=rfl
@[simp] theorem Nt {i j:Str}:eqD O (.str i) (.str j)=.ok (.bl (decide (i=j))):=rfl
@[simp] theorem RN (i j:Str):neD O (.str i) (.str j)=.ok (.bl (!decide (i=j))):=rfl
@[simp] theorem Sb (i j:Bool):eqD O (.bl i) (.bl j)=.ok (.bl (decide (i=j))):=rfl
@[simp] theorem R3 (i j:Bool):neD O (.bl i) (.bl j)=.ok (.bl (!decide (i=j))):=rfl
theorem cT(h:Tj i j):cG O (.int i) (.int j)=.ok (.int (i*j)):=if_pos h
theorem mL(h:j≠0):gy O (.int i) (.int j)=.ok (.int (i.fdiv j)):=if_pos h
theorem xI(h:0<j)(h2:j<1073741824):gy O (.int i) (.int j)=.ok (.int (i/j)):=by rw[mL ⋯,uM h]
theorem gE(h:0<j):ik O (.int i) (.int j)=.ok (.int (i%j)):=by rw[<- Kr h];exact if_pos ⋯
theorem Lw(h:0<=j)(h2:j<=1000000)(J:i.natAbs<2^64):tR O (.int i) (.int j)=.ok (.int (i^j.toNat)):=if_pos #[h,h2,J]
@[simp] theorem Ri (i:Int):yC O [.int i]=.ok (.int (i.natAbs:Int)):=by show Res.ok (D.int (if i<0 then -i else i))=_;congr 2;split <;> omega
@[simp] theorem eG:bY O [.lst ds]=.ok (.int ds.length):=rfl
@[simp] theorem Q5 (ds:List D):bY O [.tup ds]=.ok (.int ds.length):=rfl
theorem EZ{x:Str}(h:x.length<=16777216):bY O [.str x]=.ok (.int x.length):=if_pos h
@[simp] theorem mQ:j9 O [.lst ds]=.ok (.lst ds):=rfl
@[simp] theorem QY (ds:List D):j9 O [.tup ds]=.ok (.lst ds):=rfl
@[simp] theorem QU (i:Int):intOf O [.int i]=.ok (.int i):=rfl
@[simp] theorem yp {b:Bool}:intOf O [.bl b]=.ok (.int (if b then 1 else 0)):=rfl
@[simp] theorem RQ (c:String) (i:Int):o9 c O (.int i)=.ok (.bl (gb "int" c)):=rfl
@[simp] theorem Sm (c:String) (i:Bool):o9 c O (.bl i)=.ok (.bl (gb "bool" c)):=rfl
@[simp] theorem RU (c:String) (i:Str):o9 c O (.str i)=.ok (.bl (gb "str" c)):=rfl
@[simp] theorem RI (c:String) (i:List D):o9 c O (.lst i)=.ok (.bl (gb "list" c)):=rfl
@[simp] theorem RC (c:String) (i:List D):o9 c O (.tup i)=.ok (.bl (gb "tuple" c)):=rfl
@[simp] theorem RT (c:String):o9 c O .non=.ok (.bl (gb "NoneType" c)):=rfl
@[simp] theorem Sk:gb "int" "int" =true:=∅
@[simp] theorem Sa:gb "int" "bool" =false:=∅
@[simp] theorem R8:gb "bool" "bool" =true:=∅
@[simp] theorem Sn:gb "bool" "int" =true:=∅
@[simp] theorem Se:gb "list" "list" =true:=∅
@[simp] theorem sub_tt:gb "tuple" "tuple" =true:=∅
@[simp] theorem sub_lt:gb "list" "tuple" =false:=∅
@[simp] theorem Sg:gb "tuple" "list" =false:=∅
@[simp] theorem R7:gb "str" "int" =false:=∅
@[simp] theorem Si:gb "NoneType" "int" =false:=∅
theorem pY(h:atI ds i=pr d):ixD O (.lst ds) (.int i)=.ok d:=by
 show (match lsD O (D.lst ds) with
  | some ds=>match atI ds i with
   | some d=>Res.ok d
   | none=>.bad
  | none=>.bad)=_
 rw[gW];dsimp only;rw[h]
theorem sZ(h:atI ds i=pr d):ixD O (.tup ds) (.int i)=.ok d:=by
 show (
  match atI ds i with
  | some d=>Res.ok d
  | none=>.bad)=_
 rw[h]
theorem qg{α:Type}{l:List α}(h0:0<=i)(h1:i<l.length):atI l i=pr (l[i.toNat]'(⋯)):=by unfold atI ixN;rw[if_pos h0,if_pos h1];show l[i.toNat]? =_;exact ut _
theorem tY:∀ns:List Int,lV (ns.map D.int)=pr (ns.map PyData.int)
 | []=>by simp[lV]
 | n::ns=>by simp[lV,toPy,tY ns]
theorem qZ:∀ns:List Int,cD O (ns.map D.int)=ns.map D.int
 | []=>by simp[cD]
 | n::ns=>by simp[cD,res,qZ ns]
theorem sk:∀ns:List Int,PyData.canLayAll0 (ns.map PyData.int)=ss
 | []=>by simp[PyData.canLayAll0]
 | n::ns=>by simp[PyData.canLayAll0,PyData.canLay0,sk ns]
theorem uo:∀ns:List Int,PyData.depthAll (ns.map PyData.int)=0
 | []=>by simp[PyData.depthAll]
 | n::ns=>by simp[PyData.depthAll,PyData.depth,uo ns]
theorem shaped_ints(ns:List Int):SeqAt.shaped (.list (ns.map PyData.int))=true:=by simp[SeqAt.shaped,PyData.canLay0,sk,PyData.depth,uo]
theorem yn:∀ns ms:List Int,PyData.eqvAll (ns.map PyData.int) (ms.map PyData.int)=decide (ns=ms)
 | [],[]=>by simp[PyData.eqvAll]
 | [],_::_=>by simp[PyData.eqvAll]
 | _::_,[]=>by simp[PyData.eqvAll]
 | a::r,b::t=>by simp only[x0,PyData.eqvAll,PyData.eqv,yn r t];by_cases h:a=b <;> by_cases h':r=t <;> simp[h,h']
theorem D1:eqB O (.lst (ns.map D.int)) (.lst (ms.map D.int))=pr (decide (ns=ms)):=by show lQ O _ _=_;unfold lQ;simp only[res,qZ,toPy,tY,Tn];rw[if_pos #[shaped_ints ns,shaped_ints ms]];simp only[PyData.eqv,yn]
@[simp] theorem Rv (ns ms:List Int):eqD O (.lst (ns.map D.int)) (.lst (ms.map D.int))=.ok (.bl (decide (ns=ms))):=by unfold eqD;rw[D1]
@[simp] theorem Rk (ns ms:List Int):neD O (.lst (ns.map D.int)) (.lst (ms.map D.int))=.ok (.bl (!decide (ns=ms))):=by unfold neD;rw[D1]
theorem wb:∀ns:List Int,aU (ns.map D.int)=ss
 | []=>by simp[aU]
 | n::ns=>by simp[aU,dq,wb ns]
@[simp] theorem QE (ns:List Int):dq (.lst (ns.map D.int))=true:=by simp[dq,wb]
end
noncomputable def wN:SM:=aP (setM 2 (ao ik (aa 0) (aa 1))) (aP (setM 0 (aa 1)) (setM 1 (aa 2)))
theorem Lu{a b:Int}{x:Option D}(hb:0<b):wN #[[pr (.int a),pr (.int b),x],O]=.next #[[pr (.int b),pr (.int (a%b)),pr (.int (a%b))],O]:=by simp[wN,aP,setM,kL,aA,ao,aa,gE hb]
theorem CC{c:TM}(hc:∀(a b:Int) x O,0<=b->c #[[pr (.int a),pr (.int b),x],O]=.ok (decide (b≠0),#[[pr (.int a),pr (.int b),x],O])):
 ∀(n:Nat) (a b:Int) x O,0<=a->0<=b->b.natAbs<n->∃y,mU c wN n #[[pr (.int a),pr (.int b),x],O]=.next #[[pr (.int (T0 a.natAbs b.natAbs:Nat)),pr (.int 0),y],O]
 | 0,_,_,_,_,_,_,h=>⋯
 | n+1,a,b,x,O,ha,hb,hn=>by
  rw[mU,hc a b x O hb,lH];by_cases h:b=0;subst h;refine#[x, ?_];have e:((T0 a.natAbs (0:Int).natAbs:Nat):Int)=a:=by rw[Int.natAbs_zero,Nat.gcd_zero_right];omega
  rw[e];simp;have hb':0<b:=⋯;have h1:0<=a%b:=TU a h;have h2:a%b<b:=Tq a hb';obtain⟨y,e⟩:=CC hc n b (a%b) (pr (.int (a%b))) O hb h1 ⋯;refine#[y, ?_];simp only[h,ne_eq,not_false_eq_true,decide_true,if_true,Lu hb'];rw[e];have e2:(a%b).natAbs=a.natAbs%b.natAbs:=by
   have:((a%b).natAbs:Int)=((a.natAbs%b.natAbs:Nat):Int):=by rw[U8 h1,Int.natCast_emod,U8 ha,U8 hb]
   omega
  rw[e2,<- Nat.gcd_rec' a.natAbs b.natAbs]
where Nat.gcd_rec' (m n:Nat):T0 m n=T0 n (m%n):=by rw[Nat.gcd_comm m n,Nat.gcd_rec n m,Nat.gcd_comm]
noncomputable def Hq:SM:=aP (setM 0 (a8 yC (ae (aa 0) ak))) (aP (setM 1 (a8 yC (ae (aa 1) ak))) (aP (Ah (λs=>A2 1 s) (a9 (ao neD (aa 1) (au (.int 0)))) wN) (bQ (aa 0))))
theorem K6(a b:Int)(O:aD):∃s,Hq #[[pr (.int a),pr (.int b),qh],O]=.ret (.int (SF a b:Nat)) s/\s.o=O:=by obtain⟨y,e⟩:=CC (c:=a9 (ao neD (aa 1) (au (.int 0)))) (λa b x O h=>by simp[a9,ao,aa,au]) (b.natAbs+1) (a.natAbs:Int) (b.natAbs:Int) qh O ⋯ ⋯ ⋯;refine#[#[[pr (.int (SF a b:Nat)),pr (.int 0),y],O], ?_,rfl];simp only[TC] at e;simp[Hq,aP,setM,kL,aA,a8,ae,ak,aa,Ah,A2,e,bQ,SF]
theorem df{m:SM}{s:S}(h:m #[ds.map pr++wn (n-ds.length) qh,O]=.ret d s):runM n m ds O=.ok (d,s.o):=by unfold runM;rw[h]
theorem JM(a b:Int):runM 3 Hq [.int a,.int b] []=.ok (.int (SF a b:Nat),[]):=by obtain⟨s,e,J⟩:=K6 a b [];rw[df (s:=s) (by exact e),J]
def da(ns:List Int):Nat:=ns.foldl (λc n=>T0 c n.natAbs) 0
theorem uW:∀(ns:List Int) (c:Nat),ns.foldl (λc n=>T0 c n.natAbs) c ∣ c/\∀n∈ns,ns.foldl (λc n=>T0 c n.natAbs) c ∣ n.natAbs
 | [],c=>#[Nat.dvd_refl _,by simp]
 | m::ns,c=>by
  obtain⟨h1,h2⟩:=uW ns (T0 c m.natAbs);rw[TL];refine#[Xs h1 (Nat.gcd_dvd_left _ _),λn hn=> ?_];rcases wE.mp hn with rfl | hn
  exact Xs h1 (Nat.gcd_dvd_right _ _);exact h2 n hn
theorem El{n:Int}(h:n∈ns):((da ns:Nat):Int) ∣ n:=U4.mp (by rw[TC];exact(uW ns 0).2 n h)
theorem uR(g:Nat)(J:0<g):∀(ns:List Int) (c:Nat),g ∣ c->(∀n∈ns,(g:Int) ∣ n)->
 (ns.map (· / (g:Int))).foldl (λc n=>T0 c n.natAbs) (c/g)=ns.foldl (λc n=>T0 c n.natAbs) c/g
 | [],c,_,_=>rfl
 | m::ns,c,hc,h=>by
  have hm:g ∣ m.natAbs:=by have:=U4.mpr (h m wp);rwa [TC] at this
  have e:(m/(g:Int)).natAbs=m.natAbs/g:=by obtain⟨k,rfl⟩:=h m wp;rw[UR _ (by omega:(g:Int)≠0),Vq,TC,Nat.mul_div_cancel_left _ J]
  rw[x0,TL,TL,e,Nat.gcd_div hc hm];exact uR g J ns _ (Nat.dvd_gcd hc hm) λn hn=>h n (wf _ hn)
theorem KS(h:0<da ns):da (ns.map (· / (da ns:Int)))=1:=by have:=uR (da ns) h ns 0 (Nat.dvd_zero _) λn hn=>El hn;rw[Nat.zero_div] at this;rw[show da (ns.map (· / (da ns:Int)))=(ns.map (· / (da ns:Int))).foldl (λc n=>T0 c n.natAbs) 0 from rfl,this];exact Nat.div_self h
section
variable {s s1 : S} {d : D}
@[simp] theorem ag {i:Nat} (h:s.r[i]? =pr (pr d)):aa i s=.ok (d,s):=by unfold aa;rw[h]
@[simp] theorem aB {d:D} {s:S}:au d s=.ok (d,s):=rfl
@[simp] theorem dJ {f:Op2} {a b:EM} {s:S}:ao f a b s=(a s).bind λx=>(b x.2).bind λy=>(f y.2.o x.1 y.1).bind λd=>.ok (d,y.2):=rfl
@[simp] theorem OX {f:Op1} {a:EM} {s:S}:unM f a s=(a s).bind λx=>(f x.2.o x.1).bind λd=>.ok (d,x.2):=rfl
@[simp] theorem ay {s:S}:ak s=.ok ([],s):=rfl
@[simp] theorem aW {r:AM} {s:S}:ae m r s=(m s).bind λx=>(r x.2).bind λy=>.ok (x.1::y.1,y.2):=rfl
@[simp] theorem gU {f:OpN} {m:AM} {s:S}:a8 f m s=(m s).bind λx=>(f x.2.o x.1).bind λd=>.ok (d,x.2):=rfl
@[simp] theorem Bv {m:AM} {s:S}:jT m s=(m s).bind λx=>if x.1.length<=16777216 then .ok (.tup x.1,x.2) else .bad:=rfl
@[simp] theorem GY {m:AM} {s:S}:iT m s=(m s).bind λx=>if x.1.length<=16777216 then .ok (.lst x.1,x.2) else .bad:=rfl
@[simp] theorem Np {m:AM} {s:S}:jk m s=(m s).bind λx=>if x.1.length<=16777216 then .ok (.ptr x.2.o.length,#[x.2.r,x.2.o++[.lst x.1]]) else .bad:=rfl
@[simp] theorem gZ {s:S}:a9 m s=(m s).bind λx=>match x.1 with
 | .bl b=>.ok (b,x.2)
 | _=>.bad:=rfl
@[simp] theorem AQ {a b:TM} {s:S}:o8 a b s=(a s).bind λx=>if x.1 then b x.2 else .ok (xL,x.2):=rfl
@[simp] theorem vm {a b:TM} {s:S}:orT a b s=(a s).bind λx=>if x.1 then .ok (ss,x.2) else b x.2:=rfl
@[simp] theorem sU {a:TM} {s:S}:pb a s=(a s).bind λx=>.ok (!x.1,x.2):=rfl
@[simp] theorem NR {a b:EM} {s:S}:EK a b s=(a s).bind λx=>match x.1 with
 | .bl ss=>b x.2
 | .bl xL=>.ok (.bl xL,x.2)
 | _=>.bad:=rfl
@[simp] theorem JU {a b:EM} {s:S}:orV a b s=(a s).bind λx=>match x.1 with
 | .bl ss=>.ok (.bl ss,x.2)
 | .bl xL=>b x.2
 | _=>.bad:=rfl
@[simp] theorem RM (a:EM) (s:S):KY a s=(a s).bind λx=>match x.1 with
 | .bl k=>.ok (.bl (!k),x.2)
 | _=>.bad:=rfl
@[simp] theorem wR {a b:SM} {s:S}:aP a b s=(a s).then b:=rfl
@[simp] theorem cN {s:S}:bX s=.next s:=rfl
@[simp] theorem Q3 (m:EM) (s:S):dA m s=(m s).out λx=>.next x.2:=rfl
@[simp] theorem RP (m:EM) (s:S):bQ m s=(m s).out λx=>.ret x.1 x.2:=rfl
@[simp] theorem RS (s:S):Q4 s=.ret .non s:=rfl
@[simp] theorem Sf (c:TM) (a b:SM) (s:S):ifS c a b s=(c s).out λx=>if x.1 then a x.2 else b x.2:=rfl
@[simp] theorem R6 (c:TM) (a b:EM) (s:S):ifM c a b s=(c s).bind λx=>if x.1 then a x.2 else b x.2:=rfl
@[simp] theorem DL {i:Nat} {d:D} {s:S}:aA i d s=.ok #[s.r.set i (pr d),s.o]:=rfl
@[simp] theorem AU {g:GM} {s:S}:kL m g s=((m s).bind λx=>g x.1 x.2).out λs=>.next s:=rfl
@[simp] theorem R1 (i:Nat) (f:Op2) (m:EM) (s:S):Ro i f m s=kL (ao f (aa i) m) (aA i) s:=rfl
@[simp] theorem L4 {s:S}:bA s=.ok (ss,s):=rfl
@[simp] theorem B3 {s:S}:gj s=.ok (qh,s):=rfl
@[simp] theorem BG {s:S}:part m s=(m s).bind λx=>match x.1 with
 | .int i=>.ok (pr i,x.2)
 | _=>.bad:=rfl
@[simp] theorem Ej {ml mh:OM} {s:S}:slM me ml mh s=(me s).bind λx=>(ml x.2).bind λl=>(mh l.2).bind λh=>match lsD h.2.o x.1 with
 | some ds=>.ok (.lst (cutD ds l.1 h.1),h.2)
 | none=>.bad:=rfl
@[simp] theorem cO {s:S}:listI m s=(m s).bind λx=>(itemsOf x.2.o x.1).bind λy=>.ok (y,x.2):=rfl
@[simp] theorem Qv (O:aD) (ds:List D):itemsOf O (.lst ds)=.ok (ds,qh):=rfl
theorem N5{g:GM}{s:S}:fO im g body s=(im s).out λy=>cj (okC y.1.1 y.1.2) g body y.1.1 y.2:=rfl
theorem yZ{m:Nat}{g:GM}{c:TM}{e:EM}{s:S}:oy m caps im g c e s=(im s).bind λy=>
 (fv (okC y.1.1 y.1.2) g c e y.1.1 [] #[o6 m caps y.2.r,y.2.o]).bind λz=>.ok (z.1,#[y.2.r,z.2.o]):=rfl
theorem qI{m:Nat}{g:GM}{c:TM}{e:EM}{s:S}:bF m caps im g c e s=(oy m caps im g c e s).bind λy=>.ok (.lst y.1,y.2):=rfl
theorem Ee{m:Nat}{g:GM}{c:TM}{e:EM}{s:S}:nv m caps im g c e s=(oy m caps im g c e s).bind λy=>.ok (.ptr y.2.o.length,#[y.2.r,y.2.o++[.lst y.1]]):=rfl
@[simp] theorem LY {f:FM} {m:AM} {s:S}:aN n f m s=(m s).bind λx=>if aU x.1=ss/\x.1.length=n then (match f x.1 [] with
 | .ok (d,_)=>if dq d=ss then .ok (d,x.2) else .bad
 | _=>.bad) else .bad:=rfl
@[simp] theorem KC {f:FM} {m:AM} {s:S}:d9 n f m s=(m s).bind λx=>if aU x.1=ss/\x.1.length=n then (match f x.1 [] with
 | .ok (d,O1)=>.ok (shD x.2.o.length d,#[x.2.r,x.2.o++O1.map (shC x.2.o.length)])
 | _=>.bad) else .bad:=rfl
@[simp] theorem Rh (n:Nat) (f:FM) (m:AM) (s:S):gC n f m s=(m s).bind λx=>if aU (cD x.2.o (cD x.2.o x.1))=ss/\x.1.length=n then (match f (cD x.2.o (cD x.2.o x.1)) [] with
 | .ok (d,_)=>if px d=ss then .ok (d,x.2) else .bad
 | _=>.bad) else .bad:=rfl
@[simp] theorem LI {s:S}:Dd m s=(m s).bind λx=>match xp x.2.o x.1 with
 | some ds=>.ok (.ptr x.2.o.length,#[x.2.r,x.2.o++[.lst ds]])
 | none=>.bad:=rfl
@[simp] theorem Ni {s:S}:iu m s=(m s).bind λx=>match gO x.2.o x.1 with
 | some (k,ds)=>.ok (.lst ds,#[x.2.r,x.2.o.set k .dead])
 | none=>.bad:=rfl
@[simp] theorem Ot {s:S}:ir mo me s=(mo s).bind λx=>match gO x.2.o x.1 with
 | some _=>(me x.2).bind λy=>match gO y.2.o x.1 with
  | some (k,ds)=>if ds.length<16777216 then .ok (.non,#[y.2.r,y.2.o.set k (.lst (ds++[y.1]))]) else .bad
  | none=>.bad
 | none=>.bad:=rfl
@[simp] theorem jg (h:O[k]? =pr (.lst ds)):lsD O (.ptr k)=pr ds:=by unfold lsD;simp only[h]
@[simp] theorem md (h:O[k]? =pr (.lst ds)):gO O (.ptr k)=pr (k,ds):=by unfold gO;simp only[h]
@[simp] theorem IT:xp O (.lst ds)=pr ds:=rfl
@[simp] theorem Q2 (O:aD) (ds:List D):xp O (.tup ds)=pr ds:=rfl
@[simp] theorem QW (h:O[k]? =pr (.lst ds)):xp O (.ptr k)=pr ds:=by show lsD O (.ptr k)=_;exact jg h
@[simp] theorem xX (h:O[k]? =pr (.lst ds)):itemsOf O (.ptr k)=.ok (ds,pr k):=by unfold itemsOf;simp only[h]
@[simp] theorem iy:shD n (.ptr k)=.ptr (n+k):=by unfold shD;rfl
@[simp] theorem HC:aU []=true:=by unfold aU;rfl
@[simp] theorem fD {d:D}:aU (d::ds)=(dq d&&aU ds):=by conv=>lhs;unfold aU
@[simp] theorem B6:dq (.int i)=true:=by unfold dq;rfl
@[simp] theorem Ry (i:Bool):dq (.bl i)=true:=by unfold dq;rfl
@[simp] theorem Q0 (i:Str):dq (.str i)=true:=by unfold dq;rfl
@[simp] theorem QX:dq .non=true:=by unfold dq;rfl
@[simp] theorem gk:dq (.lst ds)=aU ds:=by conv=>lhs;unfold dq
@[simp] theorem QZ (ds:List D):dq (.tup ds)=aU ds:=by conv=>lhs;unfold dq
@[simp] theorem FZ:aU (ns.map D.int)=true:=wb ns
@[simp] theorem Nn:res O (.int i)=.int i:=by unfold res;rfl
@[simp] theorem R9 (O:aD) (i:Bool):res O (.bl i)=.bl i:=by unfold res;rfl
@[simp] theorem RE (O:aD) (i:Str):res O (.str i)=.str i:=by unfold res;rfl
@[simp] theorem RJ (O:aD):res O .non=.non:=by unfold res;rfl
@[simp] theorem mO:res O (.lst ds)=.lst (cD O ds):=by conv=>lhs;unfold res
@[simp] theorem OA:res O (.tup ds)=.tup (cD O ds):=by conv=>lhs;unfold res
@[simp] theorem nY (h:O[k]? =pr (.lst ds)):res O (.ptr k)=.lst ds:=by conv=>lhs;unfold res;simp only[h]
@[simp] theorem mf (O:aD):cD O []=[]:=by unfold cD;rfl
@[simp] theorem kc {d:D}:cD O (d::ds)=res O d::cD O ds:=by conv=>lhs;unfold cD
@[simp] theorem kY:cD O (ns.map D.int)=ns.map D.int:=qZ ns
@[simp] theorem Q9 (b:Bool):px (.bl b)=true:=rfl
@[simp] theorem QV (b:Int):px (.int b)=true:=rfl
@[simp] theorem QT (b:Str):px (.str b)=true:=rfl
@[simp] theorem RY (h:O[k]? =pr (.lst ds)) (c:String):o9 c O (.ptr k)=.ok (.bl (gb "list" c)):=by unfold o9 tyD;simp only[h]
@[simp] theorem mT (n:Nat):∀ns:List Int,fL n (ns.map D.int)=ns.map D.int
 | []=>by simp[fL]
 | m::ns=>by simp[fL,shD,mT n ns]
@[simp] theorem nZ:shC n (.lst ds)=.lst (fL n ds):=rfl
theorem kO{m:SM}{d:D}(h:∃s,m #[ds.map pr++wn (n-ds.length) qh,O]=.ret d s):∃O1,runM n m ds O=.ok (d,O1):=by obtain⟨s,h⟩:=h;exact#[s.o,df h]
end
mutual
theorem Kv{O:aD}:∀{d:D},dq d=ss->res O d=d
 | .non,_=>by unfold res;rfl
 | .bl _,_=>by unfold res;rfl
 | .int _,_=>by unfold res;rfl
 | .str _,_=>by unfold res;rfl
 | .lst ds,h=>by rw[mO,qO (by simpa using h)]
 | .tup ds,h=>by rw[OA,qO (by simpa using h)]
 | .ptr _,h=>by unfold dq at h;cases h
 | .obj c ns ds,h=>by unfold res;rfl
 | .exn c,h=>by unfold res;rfl
theorem qO{O:aD}:∀{ds:List D},aU ds=ss->cD O ds=ds
 | [],_=>mf O
 | d::ds,h=>by rw[fD,Tp] at h;rw[kc,Kv h.1,qO h.2]
end
theorem G5(h:O[k]? =pr (.lst ds))(hp:aU ds=ss)(es:List D):eqB O (.ptr k) (.lst es)=eqB O (.lst ds) (.lst es):=by show lQ O _ _=lQ O _ _;unfold lQ;simp only[nY h,mO,qO hp]
@[simp] theorem RF (h:O[k]? =pr (.lst ds)) (hp:aU ds=ss) (es:List D):eqD O (.ptr k) (.lst es)=eqD O (.lst ds) (.lst es):=by unfold eqD;rw[G5 h hp]
@[simp] theorem RG (h:O[k]? =pr (.lst ds)) (hp:aU ds=ss) (es:List D):neD O (.ptr k) (.lst es)=neD O (.lst ds) (.lst es):=by unfold neD;rw[G5 h hp]
theorem Jx:cutD (ms.map D.int) qh (pr (n:Int))=(ms.take n).map D.int:=by unfold cutD;rw[HT.zC,HT.AZ,Vm,WG,t3,<- Xq];congr 1;by_cases h:n<=ms.length;rw[V9 h];rw[Nat.min_eq_right ⋯,S5 (wS _),S5 ⋯]
def rat(a b:Int):Int×Int:=(a.fdiv (if b<0 then -(SF a b:Int) else SF a b),b.fdiv (if b<0 then -(SF a b:Int) else SF a b))
theorem Ma{a b:Int}(h:b≠0):∃g:Int,g≠0/\g.natAbs=SF a b/\a=g*(rat a b).1/\b=g*(rat a b).2/\0<(rat a b).2/\SF (rat a b).1 (rat a b).2=1:=by
 have Y:0<SF a b:=Vn a h;have ha:(SF a b:Int) ∣ a:=Int.gcd_dvd_left a b;have hb:(SF a b:Int) ∣ b:=Int.gcd_dvd_right a b;obtain⟨x,hx⟩:=ha;obtain⟨y,hy⟩:=hb;have one:SF x y=1:=by
  have e:SF a b=SF a b*SF x y:=by
   have J:SF ((SF a b:Int)*x) ((SF a b:Int)*y)=SF a b*SF x y:=by rw[Int.gcd_mul_left,TC]
   rw[<- hx,<- hy] at J;exact J
  have:SF a b*1=SF a b*SF x y:=by rw[Nat.mul_one];exact e
  exact(Nat.eq_of_mul_eq_mul_left Y this).symm
 by_cases hn:b<0
 ·have hc:(-(SF a b:Int))≠0:=⋯;have e1:(rat a b).1= -x:=by
   unfold rat;rw[if_pos hn];show a.fdiv _=_;conv=>lhs;lhs;rw[hx,<- UM]
   exact Ui _ hc
  have e2:(rat a b).2= -y:=by
   unfold rat;rw[if_pos hn];show b.fdiv _=_;conv=>lhs;lhs;rw[hy,<- UM]
   exact Ui _ hc
  refine#[-(SF a b:Int),hc,by rw[Vp,TC],by rw[e1,UM];exact hx,by rw[e2,UM];exact hy, ?_, ?_];rw[e2];have:¬0<=y:=λz=>by have:=SS (show (0:Int)<=(SF a b:Int) by omega) z;omega
  omega;rw[e1,e2,Int.neg_gcd,Int.gcd_neg];exact one
 ·have hc:(SF a b:Int)≠0:=⋯;have e1:(rat a b).1=x:=by
   unfold rat;rw[if_neg hn];show a.fdiv _=_;conv=>lhs;lhs;rw[hx]
   exact Ui _ hc
  have e2:(rat a b).2=y:=by
   unfold rat;rw[if_neg hn];show b.fdiv _=_;conv=>lhs;lhs;rw[hy]
   exact Ui _ hc
  refine#[(SF a b:Int),hc,by rw[TC],by rw[e1];exact hx,by rw[e2];exact hy, ?_, ?_];rw[e2];have ab:0<b:=⋯;have:¬y<=0:=λz=>by have:=Ug (show (0:Int)<=(SF a b:Int) by omega) z;omega
  omega;rw[e1,e2];exact one
theorem CM{ok:aD->Prop}{g:GM}{body:SM}(P:S->Prop)(J:∀s,P s->ok s.o):∀(ds:List D),
 (∀d∈ds,∀s,P s->∃s1 s2,g d s=.ok s1/\(body s1=.next s2\/body s1=.cnt s2)/\P s2)->∀s,P s->∃s',cj ok g body ds s=.next s'/\P s'
 | [],_,s,h=>#[s,by rw[cj,if_pos (J _ h)],h]
 | d::ds,step,s,h=>by obtain⟨s1,s2,e1,e2,h2⟩:=step d wp s h;obtain⟨s',e3,Y⟩:=CM P J ds (λd hd=>step d (wf _ hd)) s2 h2;refine#[s', ?_,Y];rw[cj,if_pos (J _ h),e1,lH];rcases e2 with e2 | e2 <;> (rw[e2];exact e3)
theorem fj{ok:aD->Prop}{g:GM}{body:SM}(P:List D->S->Prop)(Y:∀pre s,P pre s->ok s.o):∀(ds pre:List D),
 (∀J d rest,pre++ds=J++d::rest->∀s,P J s->∃s1 s2,g d s=.ok s1/\(body s1=.next s2\/body s1=.cnt s2)/\P (J++[d]) s2)->∀s,P pre s->∃s',cj ok g body ds s=.next s'/\P (pre++ds) s'
 | [],pre,_,s,h=>#[s,by rw[cj,if_pos (Y _ _ h)],by simpa using h]
 | d::ds,pre,step,s,h=>by obtain⟨s1,s2,e1,e2,h2⟩:=step pre d ds rfl s h;obtain⟨s',e3,h3⟩:=fj P Y ds (pre++[d]) (λJ d' rest e=>step J d' rest (by simpa using e)) s2 h2;refine#[s', ?_,by simpa using h3];rw[cj,if_pos (Y _ _ h),e1,lH];rcases e2 with e2 | e2 <;> (rw[e2];exact e3)
theorem d6{g:GM}{s s1:S}{k:Option Nat}(h:im s=.ok ((ds,k),s1)):fO im g body s=cj (okC ds k) g body ds s1:=by rw[N5,h,lH]
theorem eC{m:AM}{s s1:S}(h:m s=.ok ([.int (n:Int)],s1))(hn:n<=1000000):dB m s=.ok ((dY 0 (n:Int),qh),s1):=by show (m s).bind _=_;rw[h,aj];dsimp only;rw[if_pos (by constructor <;> omega)]
section
variable {O : aD}
@[simp] theorem Sv (d:D) (ds:List D):ixD O (.tup (d::ds)) (.int 0)=.ok d:=sZ (by rw[qg ∅ (by simp)];rfl)
@[simp] theorem Sx (d e:D) (ds:List D):ixD O (.tup (d::e::ds)) (.int 1)=.ok e:=sZ (by rw[qg ∅ (by simp;omega)];rfl)
@[simp] theorem Rn:ixD O (.lst (d::ds)) (.int 0)=.ok d:=pY (by rw[qg ∅ (by simp)];rfl)
@[simp] theorem Sy (d e:D) (ds:List D):ixD O (.lst (d::e::ds)) (.int 1)=.ok e:=pY (by rw[qg ∅ (by simp;omega)];rfl)
theorem vB(ns:List Int):SeqAt.shaped (.tuple (ns.map PyData.int))=true:=by simp[SeqAt.shaped,PyData.canLay0,sk,PyData.depth,uo]
theorem CN(ns ms:List Int):eqB O (.tup (ns.map D.int)) (.tup (ms.map D.int))=pr (decide (ns=ms)):=by show lQ O _ _=_;unfold lQ;simp only[res,qZ,toPy,tY,Tn];rw[if_pos #[vB ns,vB ms]];simp only[PyData.eqv,yn]
@[simp] theorem R5 (a b c d:Int):eqD O (.tup [.int a,.int b]) (.tup [.int c,.int d])=.ok (.bl (decide (a=c/\b=d))):=by have:=CN (O:=O) [a,b] [c,d];unfold eqD;rw[show eqB O (.tup [.int a,.int b]) (.tup [.int c,.int d])=_ from this];simp
@[simp] theorem Sq (a b c d:Int):neD O (.tup [.int a,.int b]) (.tup [.int c,.int d])=.ok (.bl (!decide (a=c/\b=d))):=by have:=CN (O:=O) [a,b] [c,d];unfold neD;rw[show eqB O (.tup [.int a,.int b]) (.tup [.int c,.int d])=_ from this];simp
end
theorem Sz.sub{m n:Nat}(h:Sz m i)(h':Sz n j):Sz (max m n+1) (i-j):=by rw[Int.sub_eq_add_neg];refine Sz.add h ?_;unfold Sz at *;rw[Vp];exact h'
theorem Sz.neg{m:Nat}(h:Sz m i):Sz m (-i):=by unfold Sz at *;rw[Vp];exact h
def bo:Nat->(Nat->Int)->Int
 | 0,_=>0
 | n+1,f=>bo n f+f n
theorem bL{n:Nat}{f g:Nat->Int}(h:∀i,i<n->f i=g i):bo n f=bo n g:=by
 induction n with
 | zero=>rfl
 | succ n J=>rw[bo,bo,J λi hi=>h i ⋯,h n ⋯]
theorem d5{n:Nat}{f:Nat->Int}(h:∀i,i<n->f i=0):bo n f=0:=by
 induction n with
 | zero=>rfl
 | succ n J=>rw[bo,J λi hi=>h i ⋯,h n ⋯];rfl
theorem nV:bo n (λi=>f i+g i)=bo n f+bo n g:=by
 induction n with
 | zero=>rfl
 | succ n J=>simp only[bo,J];omega
theorem eE{c:Int}:bo n (λi=>c*f i)=c*bo n f:=by
 induction n with
 | zero=>simp[bo]
 | succ n J=>simp only[bo,J,Int.mul_add]
theorem g5{n k:Nat}(hk:k<n){f:Nat->Int}(h:∀i,i<n->i≠k->f i=0):bo n f=f k:=by
 induction n with
 | zero=>omega
 | succ n J=>
  rw[bo];by_cases e:k=n;subst e;rw[d5 λi hi=>h i ⋯ ⋯];omega;rw[J ⋯ λi hi=>h i ⋯,h n ⋯ ⋯];omega
def nth(r:List Int)(i:Nat):Int:=r.getD i 0
def eD(n:Nat)(r:List Int)(x:Nat->Int):Int:=bo n λi=>nth r i*x i
def fA(n:Nat)(R:List (List Int))(x:Nat->Int):Prop:=∀r∈R,eD n r x=0
def low(ns:List Int):List Int:=if da ns=0 then ns else ns.map (· / (da ns:Int))
theorem low_length:(low ns).length=ns.length:=by unfold low;split <;> simp
theorem ja{f:Int->Int}(h0:f 0=0)(r:List Int)(i:Nat):nth (r.map f) i=f (nth r i):=by
 unfold nth;rw[re,re,wT];cases r[i]? with
 | none=>exact h0.symm
 | some a=>rfl
theorem eI{i:Nat}(h:i<r.length):nth r i∈r:=by unfold nth;rw[re,ut h];exact NE h
theorem dX{i:Nat}(h:r.length<=i):nth r i=0:=by unfold nth;rw[re,UC h];rfl
theorem qE(r:List Int)(i:Nat):((da r:Nat):Int) ∣ nth r i:=by by_cases h:i<r.length;exact El (eI h);rw[dX ⋯];exact Int.dvd_zero _
def wX(r:List Int):Int:=if da r=0 then 1 else (da r:Int)
theorem oJ(r:List Int):0<wX r:=by unfold wX;split <;> omega
theorem nP(r:List Int)(i:Nat):nth r i=wX r*nth (low r) i:=by unfold low wX;split;omega;rw[ja (by simp),Int.mul_ediv_cancel' (qE r i)]
theorem EF(h:da r=0)(i:Nat):nth r i=0:=by have:=qE r i;rw[h] at this;simpa using this
theorem Gr{i:Nat}(h:nth r i≠0):da (low r)=1:=by have h0:da r≠0:=λe=>h (EF e i);unfold low;rw[if_neg h0];exact KS (Nat.pos_of_ne_zero h0)
def ib(one:List Int)(v:Int)(other:List Int)(w:Int):List Int:=Tf (λa b=>a*w-b*v) one other
def dG(one:List Int)(v:Int)(other:List Int)(w:Int):List Int:=low (ib one v other w)
theorem oz{one other:List Int}(h:one.length=other.length)(v w:Int):(ib one v other w).length=one.length:=by unfold ib;rw[Ti,<- h,Nat.min_self]
theorem tH{one other:List Int}(h:one.length=other.length)(v w:Int)(i:Nat):nth (ib one v other w) i=nth one i*w-nth other i*v:=by by_cases hi:i<one.length;unfold ib nth;simp only[re,U3,ut hi,ut (h▸hi:i<other.length)];rfl;rw[dX (by rw[oz h];omega),dX (r:=one) ⋯,dX (r:=other) ⋯];simp
theorem oA{one other:List Int}(h:one.length=other.length)(v w:Int):(dG one v other w).length=one.length:=by unfold dG;rw[low_length,oz h]
theorem tU{one other:List Int}(h:one.length=other.length)(v w:Int):∃g:Int,0<g/\∀i,g*nth (dG one v other w) i=nth one i*w-nth other i*v:=by refine#[wX (ib one v other w),oJ _,λi=> ?_];unfold dG;rw[<- nP,tH h]
theorem Fj{a b c:List Int}{g u v:Int}(h:∀i,g*nth c i=u*nth a i+v*nth b i)(x:Nat->Int):g*eD n c x=u*eD n a x+v*eD n b x:=by unfold eD;rw[<- eE,<- eE,<- eE,<- nV];refine bL λi _=> ?_;have:=h i;grind
theorem uH{a c:List Int}{g:Int}(h:∀i,nth a i=g*nth c i)(x:Nat->Int):eD n a x=g*eD n c x:=by unfold eD;rw[<- eE];refine bL λi _=> ?_;rw[h i,UJ]
theorem yW{one other:List Int}(h:one.length=other.length)(v w:Int)(x:Nat->Int):∃g:Int,0<g/\g*eD n (dG one v other w) x=w*eD n one x-v*eD n other x:=by obtain⟨g,J,e⟩:=tU h v w;refine#[g,J, ?_];have:=Fj (n:=n) (c:=dG one v other w) (a:=one) (b:=other) (g:=g) (u:=w) (v:= -v) (λi=>by rw[e i];grind) x;rw[this];grind
theorem zu(n:Nat)(r:List Int)(x:Nat->Int):eD n (low r) x=0↔eD n r x=0:=by
 rw[uH (λi=>nP r i) x];have:=oJ r;constructor;intro h;rw[h];simp;intro h;rcases SK.mp h with z | z
 omega;exact z
def dH:List Int->Option Nat
 | []=>qh
 | a::r=>if a≠0 then pr 0 else (dH r).map (· + 1)
theorem m4:∀{l:List Int},dH l=qh->∀a∈l,a=0
 | [],_,_,h=>by simp at h
 | b::r,e,a,h=>by
  unfold dH at e;split at e;cases e;rename_i hb;rcases wE.mp h with rfl | h
  simpa using hb;exact m4 (by simpa using e) a h
theorem gv:∀{l:List Int} {k:Nat},dH l=pr k->k<l.length/\nth l k≠0/\∀i,i<k->nth l i=0
 | [],_,e=>by cases e
 | b::r,k,e=>by
  unfold dH at e;split at e;rename_i hb;cases e;exact#[by simp,hb,λi hi=>⋯];rename_i hb;cases e2:dH r with
  | none=>rw[e2] at e;cases e
  | some j=>
   rw[e2] at e;cases e;obtain⟨h1,h2,J⟩:=gv e2;refine#[by simp;omega,by simpa[nth] using h2,λi hi=> ?_];cases i with
   | zero=>simpa[nth] using hb
   | succ i=>simpa[nth] using J i (Nat.lt_of_succ_lt_succ hi)
def ig(row:List Int)(at_:Nat):List Int:=if nth row at_>0 then row else row.map (- ·)
def d4(lead:List Int)(at_:Nat)(row:List Int):List Int:=if nth row at_=0 then row else dG row (nth row at_) lead (nth lead at_)
def dO(s:List (List Int)×List (List Int))(at_:Nat):List (List Int)×List (List Int):=
 match dH (s.1.map (nth · at_)) with
 | none=>s
 | some k=>((s.1.eraseIdx k).map (d4 (ig (s.1.getD k []) at_) at_),s.2.map (d4 (ig (s.1.getD k []) at_) at_)++[ig (s.1.getD k []) at_])
def cK(rows:List (List Int))(n:Nat):List (List Int):=((wh n).foldl dO (rows.map low,[])).2
structure Good(n:Nat)(p:Nat×List Int):Prop where
 len:p.2.length=n
 lt:p.1<n
 pos:0<nth p.2 p.1
 zero:∀i,i<p.1->nth p.2 i=0
 one:da p.2=1
structure Pl(n:Nat)(P:List (Nat×List Int)):Prop where
 good:∀p∈P,Good n p
 pw:P.Pairwise λp q=>p.1<q.1/\nth p.2 q.1=0
def vJ(r:List Int):Prop:=∀i,nth r i≠0->da r=1
theorem uu(r:List Int):vJ (low r):=λi h=>Gr (i:=i) λz=>by
 have:=nP r i;rw[z] at this;rcases SK.mp this.symm with q | q
 have:=oJ r;omega;exact h q
theorem LL:da (r.map (- ·))=da r:=by
 unfold da;have:∀(l:List Int) (c:Nat),(l.map (- ·)).foldl (λc n=>T0 c n.natAbs) c=l.foldl (λc n=>T0 c n.natAbs) c:=by
  intro l;induction l with
  | nil=>intro c;rfl
  | cons a l J=>intro c;simp only[x0,TL,Vp];exact J _
 exact this r 0
theorem xG:(ig row a).length=row.length:=by unfold ig;split <;> simp
theorem Fg(row:List Int)(a:Nat):∃g:Int,(g=1\/g= -1)/\∀i,nth (ig row a) i=g*nth row i:=by unfold ig;split;exact#[1,.inl rfl,λi=>⋯];exact#[-1,.inr rfl,λi=>by rw[ja (by simp)];omega]
theorem IS(h:vJ row):vJ (ig row a):=by unfold ig;split;exact h;intro i hi;rw[LL];refine h i λz=>hi ?_;rw[ja (by simp),z];rfl
theorem K5(h:nth row a≠0):0<nth (ig row a) a:=by unfold ig;split;assumption;rw[ja (by simp)];omega
theorem N7(n:Nat)(row:List Int)(a:Nat)(x:Nat->Int):eD n (ig row a) x=0↔eD n row x=0:=by obtain⟨g,J,e⟩:=Fg row a;have:=uH (n:=n) (a:=ig row a) (c:=row) e x;rw[this];rcases J with rfl | rfl <;> omega
section
variable {lead row : List Int} {a : Nat}
theorem yb(h:row.length=lead.length):(d4 lead a row).length=row.length:=by unfold d4;split;rfl;exact oA h _ _
theorem yB(J:0<nth lead a)(h:row.length=lead.length):∃g u:Int,0<g/\0<u/\∃v:Int,(nth row a=0->v=0)/\∀i,g*nth (d4 lead a row) i=u*nth row i-v*nth lead i:=by unfold d4;split;exact#[1,1,⋯,⋯,0,λ_=>rfl,λi=>⋯];rename_i hz;obtain⟨g,Y,e⟩:=tU h (nth row a) (nth lead a);exact#[g,nth lead a,Y,J,nth row a,λz=>absurd z hz,λi=>by rw[e i];grind]
theorem GL(J:0<nth lead a)(h:row.length=lead.length):nth (d4 lead a row) a=0:=by
 unfold d4;split;assumption;obtain⟨g,Y,e⟩:=tU h (nth row a) (nth lead a);have:=e a;have:g*nth (dG row (nth row a) lead (nth lead a)) a=0:=by rw[this];grind
 rcases SK.mp this with z | z;omega;exact z
theorem Cr(h:vJ row):vJ (d4 lead a row):=by unfold d4;split;exact h;exact uu _
theorem vY(J:0<nth lead a)(h:row.length=lead.length){i:Nat}(h1:nth row i=0)(h2:nth lead i=0):nth (d4 lead a row) i=0:=by
 obtain⟨g,u,Y,hu,v,_,e⟩:=yB J h;have:=e i;rw[h1,h2] at this;have:g*nth (d4 lead a row) i=0:=by rw[this];grind
 rcases SK.mp this with z | z;omega;exact z
theorem L9(J:0<nth lead a)(h:row.length=lead.length){i:Nat}(h1:0<nth row i)(h2:nth lead i=0):0<nth (d4 lead a row) i:=by
 obtain⟨g,u,Y,hu,v,_,e⟩:=yB J h;have e':=e i;rw[h2] at e';have:0<g*nth (d4 lead a row) i:=by rw[e'];have:=S7 hu h1;omega
 by_cases hn:nth (d4 lead a row) i<=0;have:=Ug (show 0<=g by omega) hn;omega;omega
theorem xb(n:Nat)(J:0<nth lead a)(h:row.length=lead.length){x:Nat->Int}(hx:eD n lead x=0):eD n (d4 lead a row) x=0↔eD n row x=0:=by
 obtain⟨g,u,Y,hu,v,_,e⟩:=yB J h;have:=Fj (n:=n) (c:=d4 lead a row) (a:=row) (b:=lead) (g:=g) (u:=u) (v:= -v) (λi=>by rw[e i];grind) x;rw[hx] at this;constructor;intro z;rw[z] at this;have:u*eD n row x=0:=⋯;rcases SK.mp this with q | q
 omega;exact q;intro z;rw[z] at this;have:g*eD n (d4 lead a row) x=0:=⋯;rcases SK.mp this with q | q
 omega;exact q
end
structure PSt(n a:Nat)(left:List (List Int))(P:List (Nat×List Int)):Prop where
 ll:∀r∈left,r.length=n
 lz:∀r∈left,∀i,i<a->nth r i=0
 lw:∀r∈left,vJ r
 pl:Pl n P
 pa:∀p∈P,p.1<a
theorem ou:nth (left.map (nth · a)) k=nth (left.getD k []) a:=by
 unfold nth;simp only[re,wT];cases left[k]? with
 | none=>rfl
 | some r=>rfl
theorem getD_mem(h:k<left.length):left.getD k []∈left:=by rw[re,ut h];exact NE h
theorem t5:∀{l:List (List Int)} {k:Nat} (h:k<l.length),l.Perm (l[k]::l.eraseIdx k)
 | [],k,h=>by simp at h
 | a::l,0,h=>by simp
 | a::l,k+1,h=>by have:=t5 (l:=l) (k:=k) (by simpa using h);simp only[List.getElem_cons_succ,V4];exact(this.cons a).trans (Xp _ _ _)
theorem M0(ha:a<n)(h:PSt n a left P):
 ∃J P',dO (left,P.map (·.2)) a=(J,P'.map (·.2))/\PSt n (a+1) J P'/\J.length+P'.length=left.length+P.length/\∀x,fA n (P'.map (·.2)++J) x↔fA n (P.map (·.2)++left) x:=by
 unfold dO;dsimp only;split;rename_i e;refine#[left,P,rfl,#[h.ll,λr hr i hi=> ?_,h.lw,h.pl,λp hp=>Uc (h.pa p hp)],rfl,λx=>WK];by_cases ap:i=a;subst ap;exact m4 e _ (sB.mpr #[r,hr,rfl]);exact h.lz r hr i ⋯;rename_i k e;obtain⟨k1,k2,_⟩:=gv e;rw[t3] at k1;rw[ou] at k2;have hm:left.getD k []∈left:=getD_mem k1;have ab:left.Perm (left.getD k []::left.eraseIdx k):=by rw[re,ut k1];exact t5 k1
 generalize left.getD k []=row at *;generalize ac:ig row a=lead at *;have ll:lead.length=n:=by rw[<- ac,xG];exact h.ll row hm
 have lp:0<nth lead a:=by rw[<- ac];exact K5 k2
 have lz:∀i,i<a->nth lead i=0:=λi hi=>by obtain⟨g,_,e⟩:=Fg row a;rw[<- ac,e,h.lz row hm i hi];omega
 have lw:vJ lead:=by rw[<- ac];exact IS (h.lw row hm)
 have sub:∀r∈left.eraseIdx k,r∈left:=λr hr=>To hr;refine#[(left.eraseIdx k).map (d4 lead a),P.map (λp=>(p.1,d4 lead a p.2))++[(a,lead)], ?_,#[?_, ?_, ?_,#[?_, ?_], ?_], ?_, ?_];simp[Uf];intro r hr;obtain⟨q,hq,rfl⟩:=sB.mp hr;rw[yb (by rw[ll,h.ll q (sub q hq)]),h.ll q (sub q hq)];intro r hr i hi;obtain⟨q,hq,rfl⟩:=sB.mp hr;have Y:q.length=lead.length:=by rw[ll,h.ll q (sub q hq)]
 by_cases ap:i=a;subst ap;exact GL lp Y;exact vY lp Y (h.lz q (sub q hq) i ⋯) (lz i ⋯);intro r hr;obtain⟨q,hq,rfl⟩:=sB.mp hr;exact Cr (h.lw q (sub q hq));intro p hp;rcases xz.mp hp with hp | hp
 obtain⟨q,hq,rfl⟩:=sB.mp hp;have g:=h.pl.good q hq;have Y:q.2.length=lead.length:=by rw[ll,g.len]
 have pp:=L9 lp Y g.pos (lz q.1 (h.pa q hq));exact#[by rw[yb Y];exact g.len,g.lt,pp,λi hi=>vY lp Y (g.zero i hi) (lz i (Nat.lt_trans hi (h.pa q hq))),Cr (λi _=>g.one) q.1 ⋯];rw[ww.mp hp];exact#[ll,ha,lp,lz,lw a ⋯];rw[List.pairwise_append];refine#[?_,by simp,λp hp q hq=> ?_];rw[Ud];refine TQ (λ{p q} hp hq hpq=> ?_) h.pl.pw;refine#[hpq.1, ?_];have g:=h.pl.good p hp;exact vY lp (by rw[ll,g.len]) hpq.2 (lz q.1 (h.pa q hq));obtain⟨p',hp',rfl⟩:=sB.mp hp;rw[ww.mp hq];exact#[h.pa p' hp',GL lp (by rw[ll,(h.pl.good p' hp').len])];intro p hp;rcases xz.mp hp with hp | hp
 obtain⟨q,hq,rfl⟩:=sB.mp hp;exact Uc (h.pa q hq);rw[ww.mp hp];exact UF a;have:=ab.length_eq;simp only[t3,Do,AC,V7] at *;omega;intro x;have an:eD n lead x=0↔eD n row x=0:=by rw[<- ac];exact N7 n row a x
 constructor;intro hx r hr;have h0:eD n lead x=0:=hx lead (by simp);rcases xz.mp hr with hr | hr
 obtain⟨p,hp,rfl⟩:=sB.mp hr;exact(xb n lp (by rw[ll,(h.pl.good p hp).len]) h0).mp (hx _ (Td _ (sB.mpr #[(p.1,d4 lead a p.2),by simp;exact .inl #[p.1,p.2,hp,rfl,rfl],rfl])));rcases wE.mp (ab.mem_iff.mp hr) with rfl | hr
 exact an.mp h0;exact(xb n lp (by rw[ll,h.ll r (sub r hr)]) h0).mp (hx _ (PP _ (sB.mpr #[r,hr,rfl])));intro hx r hr;have h0:eD n lead x=0:=an.mpr (hx row (PP _ hm));rcases xz.mp hr with hr | hr
 obtain⟨q,hq,rfl⟩:=sB.mp hr;rcases xz.mp hq with hq | hq
 obtain⟨p,hp,rfl⟩:=sB.mp hq;exact(xb n lp (by rw[ll,(h.pl.good p hp).len]) h0).mpr (hx _ (Td _ (sB.mpr #[p,hp,rfl])));rw[ww.mp hq];exact h0;obtain⟨q,hq,rfl⟩:=sB.mp hr;exact(xb n lp (by rw[ll,h.ll q (sub q hq)]) h0).mpr (hx _ (PP _ (sub q hq)))
theorem yS{n:Nat}{left:List (List Int)}(hl:∀r∈left,r.length=n)(hw:∀r∈left,vJ r):∀a,a<=n->
 ∃J Y,(wh a).foldl dO (left,[])=(J,Y.map (·.2))/\PSt n a J Y/\J.length+Y.length=left.length/\∀x,fA n (Y.map (·.2)++J) x↔fA n left x
 | 0,_=>#[left,[],rfl,#[hl,λ_ _ i hi=>⋯,hw,#[by simp,by simp],by simp],by simp,λx=>by simp]
 | a+1,ha=>by obtain⟨l1,P1,e1,s1,c1,n1⟩:=yS hl hw a ⋯;obtain⟨l2,P2,e2,s2,c2,n2⟩:=M0 ⋯ s1;refine#[l2,P2, ?_,s2,⋯,λx=>(n2 x).trans (n1 x)];rw[Vc,Uv,e1];exact e2
theorem Ka(h:∀i,i<n->nth r i=0)(x:Nat->Int):eD n r x=0:=d5 λi hi=>by rw[h i hi];omega
theorem kE(J:∀r∈rows,r.length=n):∃P,cK rows n=P.map (·.2)/\Pl n P/\P.length<=rows.length/\∀x,fA n (cK rows n) x↔fA n rows x:=by
 obtain⟨l,P,e,s,c,Y⟩:=yS (n:=n) (left:=rows.map low) (λr hr=>by
  obtain⟨q,hq,rfl⟩:=sB.mp hr;rw[low_length];exact J q hq) (λr hr=>by
  obtain⟨q,hq,rfl⟩:=sB.mp hr;exact uu q) n (wS n)
 have e':cK rows n=P.map (·.2):=by unfold cK;rw[e]
 refine#[P,e',s.pl,by rw[t3] at c;omega,λx=> ?_];rw[e'];have n1:fA n (P.map (·.2)++l) x↔fA n (P.map (·.2)) x:=by
  constructor;exact λh r hr=>h r (Td _ hr);intro h r hr;rcases xz.mp hr with hr | hr
  exact h r hr;exact Ka (s.lz r hr) x
 have n2:fA n (rows.map low) x↔fA n rows x:=by constructor;exact λh r hr=>(zu n r x).mp (h _ (sB.mpr #[r,hr,rfl]));intro h r hr;obtain⟨q,hq,rfl⟩:=sB.mp hr;exact(zu n q x).mpr (h q hq)
 exact n1.symm.trans ((Y x).trans n2)
def a6(n:Nat)(f g:Nat->Int):Int:=bo n λi=>f i*g i
theorem bW(n:Nat)(f g:Nat->Int):a6 n f g=a6 n g f:=bL λi _=>S1 _ _
theorem gu{x:Nat->Int}:eD n r x=a6 n (nth r) x:=rfl
theorem mF{a b c:Nat->Int}{g u v:Int}(h:∀i,i<n->g*c i=u*a i+v*b i)(x:Nat->Int):g*a6 n c x=u*a6 n a x+v*a6 n b x:=by unfold a6;rw[<- eE,<- eE,<- eE,<- nV];refine bL λi hi=> ?_;have:=h i hi;grind
theorem BK{a b:Nat->Int}{u v:Int}(x:Nat->Int):a6 n x (λi=>u*a i+v*b i)=u*a6 n x a+v*a6 n x b:=by rw[bW n x a,bW n x b,bW,<- mF (g:=1) (c:=λi=>u*a i+v*b i) (λi _=>⋯) x];omega
theorem AF{n:Nat}{a b:Nat->Int}(h:∀i,i<n->a i=b i)(x:Nat->Int):a6 n a x=a6 n b x:=bL λi hi=>by rw[h i hi]
def bT(T:List Int)(R:List (List Int))(i:Nat):Int:=bo R.length λj=>nth T j*nth (R.getD j []) i
theorem qT{m n:Nat}{f:Nat->Nat->Int}:bo m (λi=>bo n λj=>f i j)=bo n λj=>bo m λi=>f i j:=by
 induction m with
 | zero=>rw[d5 (n:=n) (f:=λj=>bo 0 λi=>f i j) λ_ _=>rfl];rfl
 | succ m J=>simp only[bo];rw[nV,J]
theorem DN{T:List Int}{x:Nat->Int}:a6 n (bT T R) x=bo R.length λj=>nth T j*eD n (R.getD j []) x:=by
 unfold a6 bT;have:∀i,(bo R.length λj=>nth T j*nth (R.getD j []) i)*x i=bo R.length λj=>nth T j*(nth (R.getD j []) i*x i):=λi=>by rw[S1,<- eE];refine bL λj _=>by grind
 rw[bL λi _=>this i,qT];refine bL λj _=> ?_;unfold eD;rw[<- eE]
theorem C5{T:List Int}{x:Nat->Int}(h:fA n R x):a6 n (bT T R) x=0:=by rw[DN];refine d5 λj J=> ?_;rw[h _ (getD_mem J)];omega
def i5(n:Nat)(R:List (List Int))(x:Nat->Int):Prop:=∃k:Int,k≠0/\∃T:List Int,T.length=R.length/\∀i,i<n->k*x i=bT T R i
theorem i5.dot{x y:Nat->Int}(h:i5 n R x)(hy:fA n R y):a6 n x y=0:=by
 obtain⟨k,hk,T,_,e⟩:=h;have h1:k*a6 n x y=1*a6 n (bT T R) y+0*a6 n x y:=mF (g:=k) (c:=x) (a:=bT T R) (b:=x) (u:=1) (v:=0) (λi hi=>by rw[e i hi];omega) y;rw[C5 hy] at h1;have:k*a6 n x y=0:=⋯;rcases SK.mp this with z | z
 exact absurd z hk;exact z
theorem pC{T:List Int}(J:T.length=R.length)(c:Int)(r:List Int)(i:Nat):bT (T++[c]) (R++[r]) i=bT T R i+c*nth r i:=by unfold bT;rw[Do,Re,bo];congr 1;refine bL λj Y=> ?_;simp only[nth,re];rw[AT ⋯,AT Y];simp only[nth,re];rw[wP ⋯,wP ⋯,J];simp
def d8(n a:Nat):List Int:=(wn n 0).set a 1
theorem dt(ha:a<n)(i:Nat):nth (d8 n a) i=if i=a then 1 else 0:=by unfold d8 nth;rw[re,List.getElem?_set];by_cases h:a=i;subst h;simp[ha];rw[if_neg h,if_neg (λz=>h z.symm)];rw[IR];split <;> rfl
def dh(n:Nat):List (List Int):=(wh n).map (d8 n)
def aC(a b:List Int):Int:=(Tf (· * ·) a b).sum
def fI(lists:List (List Int))(row:List Int):List (List Int):=
 match dH (lists.map (aC row)) with
 | none=>lists
 | some k=>(lists.eraseIdx k).map λone=>dG one (aC row one) (lists.getD k []) (aC row (lists.getD k []))
def mN(rows:List (List Int))(n:Nat):List (List Int):=rows.foldl fI (dh n)
def bg(rows:List (List Int))(n:Nat):List (List Int):=cK (mN rows n) n
theorem Eg:∀(a b:List Int),aC a b=bo b.length λi=>nth a i*nth b i
 | _,[]=>by unfold aC;simp[bo]
 | [],b::r=>by unfold aC;rw[d5 λi _=>by unfold nth;simp];simp
 | a::l,b::r=>by
  have Y:=Eg l r;unfold aC at *;rw[List.zipWith_cons_cons,Ul,Y,AC];have:∀(n:Nat) (f:Nat->Int),bo (n+1) f=f 0+bo n λi=>f (i+1):=by
   intro n f;induction n with
   | zero=>simp[bo]
   | succ n J=>rw[bo,J,bo];omega
  rw[this];congr 1
theorem fT{a b:List Int}(hb:b.length=n):aC a b=a6 n (nth a) (nth b):=by rw[Eg,hb];rfl
structure SSt(n:Nat)(R lists:List (List Int)):Prop where
 len:∀l∈lists,l.length=n
 nul:∀r∈R,∀l∈lists,a6 n (nth r) (nth l)=0
 spn:∀x,fA n lists x->i5 n R x
theorem LW(n:Nat):SSt n [] (dh n):=by refine#[λl J=> ?_,λr hr=>by simp at hr,λx hx=>#[1,∅,[],rfl,λi hi=> ?_]];obtain⟨a,_,rfl⟩:=sB.mp J;unfold d8;simp;have:=hx (d8 n i) (sB.mpr #[i,SA.mpr hi,rfl]);unfold eD at this;rw[g5 hi (λj _ Y=>by rw[dt hi,if_neg Y];omega),dt hi,if_pos rfl] at this;rw[show bT [] [] i=0 from rfl];omega
theorem Eh{R lists:List (List Int)}(hr:row.length=n)(s:SSt n R lists):SSt n (R++[row]) (fI lists row):=by
 unfold fI;split;rename_i e;have z:∀l∈lists,aC row l=0:=λl J=>m4 e _ (sB.mpr #[l,J,rfl]);refine#[s.len,λr ab l J=> ?_,λx hx=> ?_];rcases xz.mp ab with q | q
 exact s.nul r q l J;rw[ww.mp q,<- fT (s.len l J)];exact z l J;obtain⟨k,hk,T,hT,e⟩:=s.spn x hx;exact#[k,hk,T++[0],by simp[hT],λi hi=>by rw[pC hT,e i hi];omega];rename_i k e;obtain⟨k1,k2,_⟩:=gv e;rw[t3] at k1;have hm:=getD_mem k1;have ac:lists.Perm (lists.getD k []::lists.eraseIdx k):=by rw[re,ut k1];exact t5 k1
 have hv:nth (lists.map (aC row)) k=aC row (lists.getD k []):=by unfold nth;simp only[re,wT,ut k1];rfl
 rw[hv] at k2;generalize lists.getD k []=base at *;have Y:=s.len base hm;have sub:∀l∈lists.eraseIdx k,l∈lists:=λl J=>To J;refine#[λl J=> ?_,λr ab l J=> ?_,λx hx=> ?_];obtain⟨q,hq,rfl⟩:=sB.mp J;rw[oA (by rw[Y,s.len q (sub q hq)]),s.len q (sub q hq)];obtain⟨q,hq,rfl⟩:=sB.mp J;have ap:=s.len q (sub q hq);obtain⟨g,hg,e⟩:=yW (n:=n) (one:=q) (other:=base) (by rw[Y,ap]) (aC row q) (aC row base) (nth r);rw[bW];simp only[gu] at e;rw[bW n (nth q),bW n (nth base)] at e;have z:g*a6 n (nth (dG q (aC row q) base (aC row base))) (nth r)=0:=by rcases xz.mp ab with q' | q';rw[e,s.nul r q' q (sub q hq),s.nul r q' base hm];omega;rw[ww.mp q'] at e ⊢;rw[e,<- fT ap,<- fT Y];grind
 rcases SK.mp z with z | z;omega;exact z;have hc:∀l∈lists,aC row base*eD n l x=aC row l*eD n base x:=λl J=>by rcases wE.mp (ac.mem_iff.mp J) with rfl | hl';rfl;obtain⟨g,hg,e⟩:=yW (n:=n) (one:=l) (other:=base) (by rw[Y,s.len l J]) (aC row l) (aC row base) x;rw[hx _ (sB.mpr #[l,hl',rfl])] at e;omega
 have as:fA n lists (λi=>aC row base*x i+(-(eD n base x))*nth row i):=λl J=>by rw[gu,BK,<- gu,hc l J,bW,<- fT (s.len l J)];grind
 obtain⟨k',az,T,hT,e'⟩:=s.spn _ as;refine#[k'*aC row base,Vf az k2,T++[k'*eD n base x],by simp[hT],λi hi=> ?_];rw[pC hT,<- e' i hi];grind
theorem Ay{n:Nat}:∀{rows:List (List Int)},(∀r∈rows,r.length=n)->∀{R lists:List (List Int)},SSt n R lists->SSt n (R++rows) (rows.foldl fI lists)
 | [],_,R,lists,s=>by simpa using s
 | row::rows,h,R,lists,s=>by have:=Ay (rows:=rows) (λr hr=>h r (wf _ hr)) (Eh (h row wp) s);simpa using this
theorem qx(h:∀r∈rows,r.length=n):SSt n rows (mN rows n):=by have:=Ay h (LW n);rw[Cs] at this;exact this
theorem iO(h:∀r∈rows,r.length=n):
 ∃P,bg rows n=P.map (·.2)/\Pl n P/\(∀r∈rows,∀l∈bg rows n,a6 n (nth l) (nth r)=0)/\∀x,fA n (bg rows n) x->i5 n rows x:=by
 have s:=qx h;obtain⟨P,e,pl,_,Y⟩:=kE (n:=n) (rows:=mN rows n) s.len;refine#[P,e,pl,λr hr l J=> ?_,λx hx=>s.spn x ((Y x).mp hx)];have:fA n (mN rows n) (nth r):=λl J=>by rw[gu,bW];exact s.nul r hr l J
 exact(Y _).mpr this l J
theorem pN(h:∀r∈rows,r.length=n)(x:Nat->Int):fA n (bg rows n) x↔i5 n rows x:=by obtain⟨P,_,_,h1,h2⟩:=iO h;refine#[h2 x,λs l J=> ?_];rw[gu,bW];exact s.dot λr hr=>by rw[gu,bW];exact h1 r hr l J
theorem Ca:bo (n+1) f=f 0+bo n λi=>f (i+1):=by
 induction n with
 | zero=>simp[bo]
 | succ n J=>rw[bo,J,bo];omega
theorem Iq{i:Nat}:nth (r.drop 1) i=nth r (i+1):=by unfold nth;rw[re,re,List.getElem?_drop,VR]
def bB(rows:List (List Int))(goal:List Int):List (List Int):=(wh goal.length).map λa=>(goal::rows).map (nth · a)
def jv(rows:List (List Int))(goal:List Int):Option (Int×List Int):=match bg (bB rows goal) (1+rows.length) with
 | []=>qh
 | s::_=>if nth s 0=0 then qh else pr (nth s 0,(s.drop 1).map (- ·))
theorem gM:∀r∈bB rows goal,r.length=1+rows.length:=by intro r hr;obtain⟨a,_,rfl⟩:=sB.mp hr;simp;omega
theorem t7(rows:List (List Int))(goal:List Int)(h:a<goal.length)(j:Nat):nth ((bB rows goal).getD a []) j=nth ((goal::rows).getD j []) a:=by
 have:(bB rows goal).getD a []=(goal::rows).map (nth · a):=by unfold bB;rw[re,wT,Tk h];rfl
 rw[this,ou]
theorem J4(Y:goal.length=n){b:Int}{ts:List Int}(e:jv rows goal=pr (b,ts)):
 0<b/\ts.length=rows.length/\∀i,i<n->b*nth goal i=bT ts rows i:=by
 obtain⟨P,J,pl,h1,_⟩:=iO (n:=1+rows.length) (rows:=bB rows goal) gM;unfold jv at e;split at e;cases e;rename_i s rest es;split at e;cases e;rename_i hz;cases e;have hs:s∈bg (bB rows goal) (1+rows.length):=by rw[es];exact wp
 rw[J] at hs;obtain⟨p,hp,rfl⟩:=sB.mp hs;have g:=pl.good p hp;have h0:p.1=0:=by by_cases h:p.1=0;exact h;exact absurd (g.zero 0 ⋯) hz
 have gp:=g.pos;rw[h0] at gp;refine#[gp,by rw[t3,U1,g.len];omega,λi hi=> ?_];have hd:=h1 ((bB rows goal).getD i []) (getD_mem (by unfold bB;simp;omega)) p.2 (by rw[J];exact hs);unfold a6 at hd;rw[VR 1,Ca] at hd;rw[t7 rows goal ⋯] at hd;unfold bT;have e2:(bo rows.length λj=>nth ((p.2.drop 1).map (- ·)) j*nth (rows.getD j []) i)=(-1)*bo rows.length λj=>nth p.2 (j+1)*nth ((bB rows goal).getD i []) (j+1):=by rw[<- eE];refine bL λj _=> ?_;rw[ja (by simp),Iq,t7 rows goal ⋯];show _= -1*(nth p.2 (j+1)*nth (rows.getD j []) i);grind
 rw[e2];have:nth ((goal::rows).getD 0 []) i=nth goal i:=rfl;rw[this] at hd;omega
theorem ID(hg:goal.length=n)(e:jv rows goal=qh):∃t,fA n rows t/\a6 n (nth goal) t≠0:=by
 obtain⟨P,eP,pl,_,h2⟩:=iO (n:=1+rows.length) (rows:=bB rows goal) gM;have hz:∀l∈bg (bB rows goal) (1+rows.length),nth l 0=0:=by
  unfold jv at e;split at e;rename_i es;rw[es];simp;rename_i s rest es;split at e;rename_i hz;rw[eP] at es ⊢;cases P with
  | nil=>simp
  | cons p P=>
   rw[x0] at es;injection es with e1 e2
   intro l J;obtain⟨q,hq,rfl⟩:=sB.mp J;rcases wE.mp hq with rfl | hq'
   rw[e1];exact hz;have:=(SV.mp pl.pw).1 q hq';exact(pl.good q hq).zero 0 ⋯
  cases e
 have hx:fA (1+rows.length) (bg (bB rows goal) (1+rows.length)) (λi=>if i=0 then 1 else 0):=λl J=>by unfold eD;rw[g5 (k:=0) ⋯ (λi _ hi=>by dsimp only;rw[if_neg hi];omega)];dsimp only;rw[if_pos rfl,hz l J];rfl
 obtain⟨k,hk,T,hT,e3⟩:=h2 _ hx;have J:(bB rows goal).length=n:=by unfold bB;simp[hg]
 have ec:∀j,bT T (bB rows goal) j=a6 n (nth ((goal::rows).getD j [])) (nth T):=λj=>by unfold bT a6;rw[J];refine bL λi hi=> ?_;rw[t7 rows goal ⋯,S1]
 refine#[nth T,λr hr=> ?_, ?_];obtain⟨j,hj,rfl⟩:=SX hr;have:=e3 (j+1) ⋯;dsimp only at this;rw[ec,if_neg ⋯] at this;rw[gu];have Y:(goal::rows).getD (j+1) []=rows[j]:=by simp[re,hj]
 rw[Y] at this;omega;have:=e3 0 ⋯;dsimp only at this;rw[ec,if_pos rfl] at this;have Y:(goal::rows).getD 0 []=goal:=rfl;rw[Y] at this;omega
theorem Dw(J:goal.length=n)(h:i5 n rows (nth goal)):∃b ts,jv rows goal=pr (b,ts):=by
 cases e:jv rows goal with
 | some x=>exact#[x.1,x.2,rfl]
 | none=>
  obtain⟨t,h1,h2⟩:=ID J e;exact absurd (h.dot h1) h2
def iZ(P:List (Nat×List Int)):Int:=(P.map λp=>nth p.2 p.1).foldr (· * ·) 1
theorem zH:∀{P:List (Nat×List Int)},(∀p∈P,0<nth p.2 p.1)->0<iZ P
 | [],_=>∅
 | p::P,h=>S7 (h p wp) (zH λq hq=>h q (wf _ hq))
theorem uw:∀{P:List (Nat×List Int)} {p:Nat×List Int},p∈P->nth p.2 p.1 ∣ iZ P
 | q::P,p,h=>by rcases wE.mp h with rfl | h;exact Int.dvd_mul_right _ _;exact Int.dvd_trans (uw h) (Int.dvd_mul_left _ _)
def uq(P:List (Nat×List Int))(L:Int)(f i:Nat):Int:=(P.map λp=>if i=p.1 then nth p.2 f*(L/nth p.2 p.1) else 0).sum
def jt(P:List (Nat×List Int))(f i:Nat):Int:=(if i=f then iZ P else 0)-uq P (iZ P) f i
theorem kH{L:Int}{f i:Nat}:∀{P:List (Nat×List Int)},(∀p∈P,p.1≠i)->uq P L f i=0
 | [],_=>rfl
 | p::P,h=>by unfold uq;rw[x0,Ul,if_neg (λz=>h p wp z.symm)];have:=kH (L:=L) (f:=f) (i:=i) (P:=P) λq hq=>h q (wf _ hq);unfold uq at this;omega
theorem yI{L:Int}{f:Nat}:∀{P:List (Nat×List Int)} {p:Nat×List Int},P.Pairwise (λp q=>p.1<q.1/\nth p.2 q.1=0)->p∈P->uq P L f p.1=nth p.2 f*(L/nth p.2 p.1)
 | q::P,p,pw,h=>by
  have h0:=SV.mp pw;rcases wE.mp h with rfl | hp'
  have:=kH (L:=L) (f:=f) (i:=p.1) (P:=P) λr hr=>by have:=(h0.1 r hr).1;omega
  unfold uq at *;rw[x0,Ul,if_pos rfl,this];omega;have J:=yI (L:=L) (f:=f) h0.2 hp';have:=(h0.1 p hp').1;unfold uq at *;rw[x0,Ul,if_neg ⋯,J];omega
theorem Pl.other(pl:Pl n P):∀{p q:Nat×List Int},p∈P->q∈P->p.1≠q.1->nth p.2 q.1=0:=by
 intro p q hp hq J;by_cases h:q.1<p.1;exact(pl.good p hp).zero _ h;have:∀{P:List (Nat×List Int)},P.Pairwise (λp q=>p.1<q.1/\nth p.2 q.1=0)->p∈P->q∈P->p.1<q.1->nth p.2 q.1=0:=by
  intro P pw hp hq Y;induction P with
  | nil=>cases hp
  | cons r P ih=>
   have h0:=SV.mp pw;rcases wE.mp hp with rfl | hp
   rcases wE.mp hq with rfl | hq;omega;exact(h0.1 q hq).2;rcases wE.mp hq with rfl | hq;have:=(h0.1 p (by assumption)).1;omega;exact ih h0.2 hp hq
 exact this pl.pw hp hq ⋯
theorem KO{n f c:Nat}(Y:f<n)(hc:c<n)(J:f≠c)(h:∀i,i<n->i≠f->i≠c->g i=0):bo n g=g f+g c:=by
 have:bo n g=bo n (λi=>if i=f then g f else 0)+bo n (λi=>if i=c then g c else 0):=by rw[<- nV];refine bL λi hi=> ?_;by_cases h1:i=f;subst h1;rw[if_pos rfl,if_neg J];omega;by_cases h2:i=c;subst h2;rw[if_neg h1,if_pos rfl];omega;rw[if_neg h1,if_neg h2,h i hi h1 h2];rfl
 rw[this,g5 Y (λi _ hi=>by rw[if_neg hi]),g5 hc (λi _ hi=>by rw[if_neg hi]),if_pos rfl,if_pos rfl]
theorem Ck(pl:Pl n P){f:Nat}(Y:f<n)(J:∀p∈P,p.1≠f)(hp:p∈P)(hr:∀q∈P,q.1≠p.1->nth r q.1=0):
 eD n r (jt P f)=nth r f*iZ P-nth r p.1*(nth p.2 f*(iZ P/nth p.2 p.1)):=by
 unfold eD;rw[KO Y (pl.good p hp).lt (λz=>J p hp z.symm) (λi _ h1 h2=> ?_)];have e1:jt P f f=iZ P:=by unfold jt;rw[if_pos rfl,kH J];omega
 have e2:jt P f p.1= -(nth p.2 f*(iZ P/nth p.2 p.1)):=by unfold jt;rw[if_neg (J p hp),yI pl.pw hp];omega
 rw[e1,e2];grind;by_cases hq:∃q∈P,q.1=i;obtain⟨q,hq,rfl⟩:=hq;rw[hr q hq h2];omega;have:jt P f i=0:=by unfold jt;rw[if_neg h1,kH λq hq' z=>hq #[q,hq',z]];rfl
 rw[this];omega
theorem uD(pl:Pl n P){f:Nat}(hf:f<n)(J:∀p∈P,p.1≠f):fA n (P.map (·.2)) (jt P f):=by
 intro r hr;obtain⟨p,hp,rfl⟩:=sB.mp hr;rw[Ck pl hf J hp λq hq h=>pl.other hp hq λz=>h z.symm];have hd:=uw hp;have Y:=(pl.good p hp).pos;obtain⟨k,hk⟩:=hd;have:iZ P/nth p.2 p.1=k:=by rw[hk,UR _ ⋯]
 rw[this,hk];grind
theorem Hg(pl:Pl n P){f:Nat}(J:∀p∈P,p.1≠f){i:Nat}(hi:f<i):jt P f i=0:=by unfold jt;rw[if_neg ⋯];by_cases hq:∃q∈P,q.1=i;obtain⟨q,hq,rfl⟩:=hq;rw[yI pl.pw hq,(pl.good q hq).zero f hi];omega;rw[kH λq hq' z=>hq #[q,hq',z]];rfl
theorem Pl.leads_pos(pl:Pl n P):0<iZ P:=zH λp hp=>(pl.good p hp).pos
theorem xc{P Q:List (Nat×List Int)}(pl:Pl n P)(Y:Pl n Q)(h:∀x,fA n (Q.map (·.2)) x->fA n (P.map (·.2)) x)(hp:p∈P):∃q∈Q,q.1=p.1:=by
 apply S8;intro hn;have J:∀q∈Q,q.1≠p.1:=λq hq z=>hn #[q,hq,z];have g:=pl.good p hp;have:=h _ (uD Y g.lt J) p.2 (sB.mpr #[p,hp,rfl]);unfold eD at this;rw[g5 g.lt λi _ hi=> ?_] at this;have e:jt Q p.1 p.1=iZ Q:=by unfold jt;rw[if_pos rfl,kH J];omega
 rw[e] at this;have h1:=Y.leads_pos;have h2:=g.pos;have:=S7 h2 h1;omega;by_cases ab:i<p.1;rw[g.zero i ab];omega;rw[Hg Y J ⋯];omega
theorem Cg:∀{l m:List Nat},l.Pairwise (· < ·)->m.Pairwise (· < ·)->(∀x,x∈l↔x∈m)->l=m
 | [],[],_,_,_=>rfl
 | [],b::m,_,_,h=>by have:=(h b).mpr wp;cases this
 | a::l,[],_,_,h=>by have:=(h a).mp wp;cases this
 | a::l,b::m,hl,hm,h=>by
  have h1:=SV.mp hl;have h2:=SV.mp hm;have J:a=b:=by rcases wE.mp ((h a).mp wp) with e | e;exact e;rcases wE.mp ((h b).mpr wp) with e' | e';exact e'.symm;have:=h1.1 b e';have:=h2.1 a e;omega
  subst J;congr 1;refine Cg h1.2 h2.2 λx=>#[λhx=> ?_,λhx=> ?_];rcases wE.mp ((h x).mp (wf _ hx)) with e | e
  have:=h1.1 x hx;omega;exact e;rcases wE.mp ((h x).mpr (wf _ hx)) with e | e
  have:=h2.1 x hx;omega;exact e
theorem Fm(a:Int)(r:List Int):da (r.map (a * ·))=a.natAbs*da r:=by
 unfold da;have:∀(l:List Int) (c:Nat),(l.map (a * ·)).foldl (λc n=>T0 c n.natAbs) (a.natAbs*c)=a.natAbs*l.foldl (λc n=>T0 c n.natAbs) c:=by
  intro l;induction l with
  | nil=>intro c;rfl
  | cons b l J=>intro c;simp only[x0,TL,Vq,Nat.gcd_mul_left];exact J _
 exact this r 0
theorem wx(J:r.length=s.length)(h:∀i,i<r.length->nth r i=nth s i):r=s:=by refine UE J λi h1 h2=> ?_;have:=h i h1;unfold nth at this;simpa[re,h1,h2] using this
theorem GQ(Y:r.length=s.length)(h1:da r=1)(h2:da s=1){a b:Int}(ha:0<a)(hb:0<b)(h:∀i,i<r.length->a*nth r i=b*nth s i):r=s:=by
 have e:r.map (a * ·)=s.map (b * ·):=wx (by simp[Y]) λi hi=>by rw[ja (by simp),ja (by simp)];exact h i (by simpa using hi)
 have e2:=Fm a r;rw[e,Fm,h1,h2] at e2;have J:a=b:=⋯;subst J;exact wx Y λi hi=>UL ⋯ (h i hi)
theorem HE{P Q:List (Nat×List Int)}(pl:Pl n P)(Y:Pl n Q)(h:∀x,fA n (P.map (·.2)) x↔fA n (Q.map (·.2)) x):P=Q:=by
 have hf:P.map (·.1)=Q.map (·.1):=by refine Cg (Ud.mpr (pl.pw.imp λh=>h.1)) (Ud.mpr (Y.pw.imp λh=>h.1)) λx=>#[λhx=> ?_,λhx=> ?_];obtain⟨p,hp,rfl⟩:=sB.mp hx;obtain⟨q,hq,e⟩:=xc pl Y (λx=>(h x).mpr) hp;exact sB.mpr #[q,hq,e];obtain⟨p,hp,rfl⟩:=sB.mp hx;obtain⟨q,hq,e⟩:=xc Y pl (λx=>(h x).mp) hp;exact sB.mpr #[q,hq,e]
 have key:∀p∈P,∀q∈Q,p.1=q.1->p.2=q.2:=λp hp q hq ac=>by
  have gp:=pl.good p hp;have gq:=Y.good q hq;refine GQ (by rw[gp.len,gq.len]) gp.one gq.one (a:=nth q.2 q.1) (b:=nth p.2 p.1) gq.pos gp.pos λi hi=> ?_;by_cases ab:∃p'∈P,p'.1=i;obtain⟨p',hp',rfl⟩:=ab;by_cases hc:p'.1=p.1;rw[hc,<- ac];grind;obtain⟨q',hq',e⟩:=xc pl Y (λx=>(h x).mpr) hp';rw[pl.other hp hp' (λz=>hc z.symm),<- e,Y.other hq hq' ⋯];omega;have J:∀p∈P,p.1≠i:=λp' hp' z=>ab #[p',hp',z];have an:i<n:=by rw[gp.len] at hi;exact hi
  have:=(h _).mp (uD pl an J) q.2 (sB.mpr #[q,hq,rfl]);rw[Ck pl an J hp (r:=q.2) λp' hp' a3=>by obtain⟨q',hq',e⟩:=xc pl Y (λx=>(h x).mpr) hp';rw[<- e];exact Y.other hq hq' ⋯] at this
  obtain⟨k,hk⟩:=uw hp;have a2:=gp.pos;have e1:iZ P/nth p.2 p.1=k:=by rw[hk,UR _ ⋯]
  have az:k≠0:=λz=>by have:=pl.leads_pos;rw[hk,z] at this;omega
  rw[e1,hk,ac] at this;have:k*(nth q.2 q.1*nth p.2 i-nth p.2 p.1*nth q.2 i)=0:=by rw[ac];grind
  rcases SK.mp this with z | z;exact absurd z az;omega
 have ap:P.length=Q.length:=by have:=congrArg TH hf;simpa using this
 refine UE ap λi h1 h2=> ?_;have e1:P[i].1=Q[i].1:=by
  have:(P.map (·.1))[i]'(by simpa using h1)=(Q.map (·.1))[i]'(by simpa using h2):=by simp only[hf]
  simpa using this
 exact Prod.ext e1 (key _ (NE h1) _ (NE h2) e1)
theorem Cm{R S:List (List Int)}(J:∀r∈R,r.length=n)(Y:∀r∈S,r.length=n)(h:∀x,fA n R x↔fA n S x):cK R n=cK S n:=by
 obtain⟨P,e1,p1,_,n1⟩:=kE J;obtain⟨Q,e2,p2,_,n2⟩:=kE Y;have:P=Q:=HE p1 p2 λx=>by rw[<- e1,<- e2];exact(n1 x).trans ((h x).trans (n2 x).symm)
 rw[e1,e2,this]
theorem pE(J:∀r∈R,r.length=n):∀r∈cK R n,r.length=n:=by obtain⟨P,e1,p1,_⟩:=kE J;rw[e1];intro r hr;obtain⟨p,hp,rfl⟩:=sB.mp hr;exact(p1.good p hp).len
theorem xU(J:∀r∈R,r.length=n):cK (cK R n) n=cK R n:=by obtain⟨P,e1,p1,_,Y⟩:=kE J;exact Cm (pE J) J Y
theorem iI(J:∀r∈R,r.length=n):∀r∈bg R n,r.length=n:=pE (qx J).len
theorem xJ(J:∀r∈R,r.length=n):bg (bg R n) n=cK R n:=by
 have Y:=iI J;obtain⟨P,_,_,h1,h2⟩:=iO J;obtain⟨Q,_,_,h3,h4⟩:=iO Y;have ab:=iI Y;rw[<- xU J];have:bg (bg R n) n=cK (bg (bg R n) n) n:=(xU (R:=mN (bg R n) n) (qx Y).len).symm;rw[this];refine Cm ab (pE J) λx=> ?_;obtain⟨_,_,_,_,n1⟩:=kE J;rw[n1,pN Y];constructor;intro s r hr;rw[gu,bW];exact s.dot λl hl=>h1 r hr l hl;intro hx;refine h4 x λl hl=> ?_;have:fA n (bg R n) (nth l):=λq hq=>by rw[gu,bW];exact h3 q hq l hl
 exact(h2 _ this).dot hx
def SzL(b:Nat)(r:List Int):Prop:=∀x∈r,Sz b x
def cP(b:Nat)(R:List (List Int)):Prop:=∀r∈R,SzL b r
theorem SzL.mono(h:SzL b r)(J:b<=c):SzL c r:=λx hx=>(h x hx).mono J
theorem cP.mono{r:List (List Int)}(h:cP b r)(J:b<=c):cP c r:=λx hx=>(h x hx).mono J
theorem Sz.zero(b:Nat):Sz b 0:=by unfold Sz;simp;exact UN b
theorem SzL.nth(h:SzL b r)(i:Nat):Sz b (M.nth r i):=by by_cases hi:i<r.length;exact h _ (eI hi);rw[dX ⋯];exact Sz.zero b
theorem SzL.low(h:SzL b r):SzL b (M.low r):=by intro x hx;unfold M.low at hx;split at hx;exact h x hx;obtain⟨y,hy,rfl⟩:=sB.mp hx;exact Nat.lt_of_le_of_lt (Int.natAbs_ediv_le_natAbs y _) (h y hy)
theorem SzL.mix{J Y bv bw:Nat}{one other:List Int}{v w:Int}(h1:SzL J one)(h2:SzL Y other)(hv:Sz bv v)(hw:Sz bw w):SzL (max (J+bw) (Y+bv)+1) (ib one v other w):=by intro x hx;unfold ib at hx;obtain⟨i,hi,e⟩:=SX hx;rw[Wm] at e;subst e;exact Sz.sub (Sz.mul (h1 _ (NE _)) hw) (Sz.mul (h2 _ (NE _)) hv)
theorem SzL.off{J Y bv bw:Nat}{one other:List Int}{v w:Int}(h1:SzL J one)(h2:SzL Y other)(hv:Sz bv v)(hw:Sz bw w):SzL (max (J+bw) (Y+bv)+1) (dG one v other w):=(SzL.mix h1 h2 hv hw).low
theorem SzL.sgn(h:SzL b r)(a:Nat):SzL b (ig r a):=by unfold ig;split;exact h;intro x hx;obtain⟨y,hy,rfl⟩:=sB.mp hx;exact(h y hy).neg
theorem SzL.clr{row lead:List Int}(h1:SzL b row)(h2:SzL b lead)(a:Nat):SzL (2*b+1) (d4 lead a row):=by unfold d4;split;exact h1.mono ⋯;exact(SzL.off h1 h2 (h1.nth a) (h2.nth a)).mono ⋯
theorem wF{left done:List (List Int)}(h1:cP b left)(h2:cP b done):cP (2*b+1) (dO (left,done) a).1/\cP (2*b+1) (dO (left,done) a).2:=by
 unfold dO;dsimp only;split;exact#[h1.mono ⋯,h2.mono ⋯];rename_i k e;have Y:=(gv e).1;rw[t3] at Y;have J:SzL b (ig (left.getD k []) a):=SzL.sgn (h1 _ (getD_mem Y)) a;refine#[λr hr=> ?_,λr hr=> ?_];obtain⟨q,hq,rfl⟩:=sB.mp hr;exact SzL.clr (h1 q (To hq)) J a;rcases xz.mp hr with hr | hr
 obtain⟨q,hq,rfl⟩:=sB.mp hr;exact SzL.clr (h2 q hq) J a;rw[ww.mp hr];exact J.mono ⋯
def grow(b p:Nat):Nat:=2^p*(b+1)-1
theorem JV:grow b 0=b:=by unfold grow;simp
theorem Cf{b p:Nat}:2*grow b p+1=grow b (p+1):=by
 unfold grow;have h:0<2^p*(b+1):=Nat.mul_pos (UN p) (Nat.succ_pos b);have e:2^(p+1)*(b+1)=2*(2^p*(b+1)):=by rw[WA,VV (2^p) 2,Wt]
 rw[e];omega
theorem Cj{b p q:Nat}(h:p<=q):grow b p<=grow b q:=by unfold grow;have:2^p*(b+1)<=2^q*(b+1):=U7 _ (S4 ∅ h);omega
theorem uQ{left done:List (List Int)}:((dO (left,done) a)=(left,done))\/(dO (left,done) a).2.length=done.length+1:=by unfold dO;dsimp only;split;exact .inl rfl;exact .inr (by simp)
structure PSz(n b a:Nat)(rows:List (List Int))(left done:List (List Int)):Prop where
 eq:(wh a).foldl dO (rows.map low,[])=(left,done)
 ll:∀r∈left,r.length=n
 dl:∀r∈done,r.length=n
 cnt:left.length+done.length=rows.length
 ls:cP (grow b done.length) left
 ds:cP (grow b done.length) done
theorem PSz.start(J:∀r∈rows,r.length=n)(hs:cP b rows):PSz n b 0 rows (rows.map low) []:=by refine#[rfl,λr hr=> ?_,by simp,by simp,λr hr=> ?_,λr hr=>by cases hr];obtain⟨q,hq,rfl⟩:=sB.mp hr;rw[low_length];exact J q hq;obtain⟨q,hq,rfl⟩:=sB.mp hr;rw[V7,JV];exact(hs q hq).low
theorem PSz.step{rows left done:List (List Int)}(h:PSz n b a rows left done)(Y:∀r∈rows,r.length=n)(ha:a<n):PSz n b (a+1) rows (dO (left,done) a).1 (dO (left,done) a).2:=by
 have J:(wh (a+1)).foldl dO (rows.map low,[])=dO (left,done) a:=by rw[Vc,Uv,h.eq];rfl
 obtain⟨l',P',e,s,c,_⟩:=yS (n:=n) (left:=rows.map low) (λr hr=>by
  obtain⟨q,hq,rfl⟩:=sB.mp hr;rw[low_length];exact Y q hq) (λr hr=>by
  obtain⟨q,hq,rfl⟩:=sB.mp hr;exact uu q) (a+1) ⋯
 rw[J] at e;refine#[J,λr hr=> ?_,λr hr=> ?_, ?_, ?_, ?_];rw[e] at hr;exact s.ll r hr;rw[e] at hr;obtain⟨p,hp,rfl⟩:=sB.mp hr;exact(s.pl.good p hp).len;rw[e];simp;simpa using c
 ·rcases uQ (a:=a) (left:=left) (done:=done) with q | q;rw[q];exact h.ls;rw[q,<- Cf];exact(wF h.ls h.ds).1
 ·rcases uQ (a:=a) (left:=left) (done:=done) with q | q;rw[q];exact h.ds;rw[q,<- Cf];exact(wF h.ls h.ds).2
theorem PSz.done{rows left done:List (List Int)}(h:PSz n b n rows left done):cK rows n=done:=by unfold cK;rw[h.eq]
theorem IW(J:∀r∈rows,r.length=n)(hs:cP b rows):cP (grow b rows.length) (cK rows n):=by
 have:∀a,a<=n->∃left done,PSz n b a rows left done:=by
  intro a;induction a with
  | zero=>exact λ_=>#[_,_,PSz.start J hs]
  | succ a Y=>
   intro ha;obtain⟨l,d,h⟩:=Y ⋯;exact#[_,_,h.step J ⋯]
 obtain⟨l,d,h⟩:=this n (wS n);rw[h.done];exact h.ds.mono (Cj (by have:=h.cnt;omega))
section
variable {s s1 : S} {d : D}
@[simp] theorem G3 {m:AM} {s:S}:kr m s=(m s).bind λx=>match x.1 with
 | [.lst as,.lst bs]=>.ok ((mn as bs,qh),x.2)
 | _=>.bad:=rfl
@[simp] theorem iA {m:AM} {s:S}:cZ m s=(m s).bind λx=>match x.1 with
 | [.lst as]=>.ok ((dR as,qh),x.2)
 | _=>.bad:=rfl
@[simp] theorem NU {s:S}:Hh m s=(m s).bind λx=>match x.1 with
 | .str z=>.ok ((qz z,qh),x.2)
 | _=>.bad:=rfl
@[simp] theorem Cc {f g:Op2} {a b c:EM} {s:S}:nD f g a b c s=(a s).bind λx=>(b x.2).bind λy=>(f y.2.o x.1 y.1).bind λz=>match z with
 | .bl ss=>(c y.2).bind λw=>(g w.2.o y.1 w.1).bind λd=>.ok (d,w.2)
 | .bl xL=>.ok (.bl xL,y.2)
 | _=>.bad:=rfl
@[simp] theorem KP {f:FM} {m:AM} {s:S}:j8 n f m s=(m s).bind λx=>if x.1.length=n then (match f x.1 x.2.o with
 | .ok (d,O1)=>.ok (d,#[x.2.r,O1])
 | _=>.bad) else .bad:=rfl
@[simp] theorem GU {s:S}:Dk m s=(m s).bind λx=>match lsD x.2.o x.1 with
 | some ds=>.ok (!ds.isEmpty,x.2)
 | none=>.bad:=rfl
@[simp] theorem NT {fin:S->List D->Res (D×S)} {mk:EM} {s:S}:BH fin ma mk s=(ma s).bind λx=>if x.1.length<=16777216 then (mk x.2).bind λy=>match y.1 with
 | .int k=>if (-(2^63)<=k/\k<2^63)/\x.1.length*k.toNat<=16777216 then fin y.2 (Hs k x.1) else .bad
 | _=>.bad
 else .bad:=rfl
@[simp] theorem RW (s:S) (ds:List D):Ho s ds=.ok (.lst ds,s):=rfl
@[simp] theorem AH {s:S}:rV s ds=.ok (.ptr s.o.length,#[s.r,s.o++[.lst ds]]):=rfl
@[simp] theorem RH (O:aD):isD O .non .non=.ok (.bl ss):=rfl
@[simp] theorem R0 (O:aD) (i:Int):isD O (.int i) .non=.ok (.bl xL):=rfl
@[simp] theorem RK (O:aD) (i:List D):isD O (.lst i) .non=.ok (.bl xL):=rfl
@[simp] theorem RL (O:aD) (i:List D):isD O (.tup i) .non=.ok (.bl xL):=rfl
@[simp] theorem Qy (O:aD):oP O .non .non=.ok (.bl xL):=rfl
@[simp] theorem QC (O:aD) (i:Int):oP O (.int i) .non=.ok (.bl ss):=rfl
@[simp] theorem QO (O:aD) (i:List D):oP O (.lst i) .non=.ok (.bl ss):=rfl
@[simp] theorem QM (O:aD) (i:List D):oP O (.tup i) .non=.ok (.bl ss):=rfl
@[simp] theorem jx {g h:GM} {a b:D} {s:S}:cH (aT g (aT h cL)) 2 (.tup [a,b]) s=(g a s).bind λs1=>h b s1:=by show (g a s).bind (λs1=>(h b s1).bind λs2=>.ok s2)=_;congr 1;funext s1;cases h b s1 <;> rfl
@[simp] theorem xN:ic (ns.map D.int)=pr ns:=by
 induction ns with
 | nil=>rfl
 | cons n ns J=>rw[x0,ic,J];rfl
@[simp] theorem xV {ns:List Bool}:kW (ns.map D.bl)=pr ns:=by
 induction ns with
 | nil=>rfl
 | cons n ns J=>rw[x0,kW,J];rfl
@[simp] theorem qW:pe O [.lst (ns.map D.int)]=.ok (.int ns.sum):=by
 show (match ic (ns.map D.int) with
  | some ns=>Res.ok (D.int ns.sum)
  | none=>.bad)=_
 rw[xN]
@[simp] theorem yE {ns:List Bool}:Ht O [.lst (ns.map D.bl)]=.ok (.bl (ns.all id)):=by
 show (match kW (ns.map D.bl) with
  | some ns=>Res.ok (D.bl (ns.all id))
  | none=>.bad)=_
 rw[xV]
@[simp] theorem zy {ns:List Bool}:Ea O [.lst (ns.map D.bl)]=.ok (.bl (ns.any id)):=by
 show (match kW (ns.map D.bl) with
  | some ns=>Res.ok (D.bl (ns.any id))
  | none=>.bad)=_
 rw[xV]
end
theorem sm {α:Type} {ok:aD->Prop} {g:GM} {c:TM} {e:EM} {O:aD} (Y:ok O) (item:α->D) (P:S->Prop) (hP:∀s,P s->s.o=O) (l:List α) (p:α->Bool) (out:α->D)
 (step:∀a∈l,∀s,P s->∃s1 s2,g (item a) s=.ok s1/\c s1=.ok (p a,s2)/\(p a=xL->P s2)/\(p a=ss->∃s3,e s2=.ok (out a,s3)/\P s3)):
 ∀(J:List D) (s:S),J.length+l.length<=16777216->P s->∃s',fv ok g c e (l.map item) J s=.ok (J++(l.filter p).map out,s')/\P s':=by
 induction l with
 | nil=>
  intro J s _ h;exact#[s,by rw[Te,fv,if_pos (by rw[hP s h];exact Y)];simp,h]
 | cons a l ih=>
  intro J s hl h;rw[AC] at hl;obtain⟨s1,s2,e1,e2,h2,h3⟩:=step a wp s h;rw[x0,fv,if_pos #[by rw[hP s h];exact Y,⋯],e1,aj,e2,aj];cases hp:p a with
  | false=>
   obtain⟨s',e3,h4⟩:=ih (λb hb=>step b (wf _ hb)) J s2 ⋯ (h2 hp);refine#[s', ?_,h4];rw[SY (by simp[hp])];simpa using e3
  | true=>
   obtain⟨s3,e3,h4⟩:=h3 hp;obtain⟨s',e5,h5⟩:=ih (λb hb=>step b (wf _ hb)) (J++[out a]) s3 (by rw[Do,Re];omega) h4;refine#[s', ?_,h5];rw[SD hp];simp only[if_true,e3,aj,e5];simp
section
variable {α : Type} {caps : List Nat} {im : IM} {c : TM} {e : EM} {s : S} {k : Option Nat} {l : List α} {item out : α → D} {p : α → Bool}
theorem Fh (J:im s=.ok ((l.map item,k),s)) (Y:okC (l.map item) k s.o) (hl:l.length<=16777216)
 (hc:∀a∈l,c #[pr (item a)::caps.map (λi=>(s.r[i]?).getD qh),s.o]=.ok (p a,#[pr (item a)::caps.map (λi=>(s.r[i]?).getD qh),s.o]))
 (he:∀a∈l,p a=ss->e #[pr (item a)::caps.map (λi=>(s.r[i]?).getD qh),s.o]=.ok (out a,#[pr (item a)::caps.map (λi=>(s.r[i]?).getD qh),s.o])):
 oy 1 caps im (aA 0) c e s=.ok ((l.filter p).map out,s):=by
 obtain⟨s',e1,x,h1⟩:=sm (ok:=okC (l.map item) k) (g:=aA 0) (c:=c) (e:=e) (O:=s.o) Y item (λs2=>∃x,s2=#[x::caps.map (λi=>(s.r[i]?).getD qh),s.o]) (by rintro _ ⟨_,rfl⟩;rfl) l p out (by rintro a ha _ ⟨x,rfl⟩;exact#[_,_,rfl,hc a ha,λ_=>#[_,rfl],λhp=>#[_,he a ha hp,_,rfl]]) [] #[o6 1 caps s.r,s.o] (by simpa using hl) #[qh,rfl]
 rw[yZ,J,aj];dsimp only;rw[e1,aj];subst h1;rfl
theorem D8 {f g:α->D} (J:im s=.ok ((l.map (λa=>D.tup [f a,g a]),k),s)) (Y:okC (l.map (λa=>D.tup [f a,g a])) k s.o) (hl:l.length<=16777216)
 (hc:∀a∈l,c #[pr (f a)::pr (g a)::caps.map (λi=>(s.r[i]?).getD qh),s.o]=.ok (p a,#[pr (f a)::pr (g a)::caps.map (λi=>(s.r[i]?).getD qh),s.o]))
 (he:∀a∈l,p a=ss->e #[pr (f a)::pr (g a)::caps.map (λi=>(s.r[i]?).getD qh),s.o]=.ok (out a,#[pr (f a)::pr (g a)::caps.map (λi=>(s.r[i]?).getD qh),s.o])):
 oy 2 caps im (cH (aT (aA 0) (aT (aA 1) cL)) 2) c e s=.ok ((l.filter p).map out,s):=by
 obtain⟨s',e1,x,y,h1⟩:=sm (ok:=okC (l.map (λa=>D.tup [f a,g a])) k) (g:=cH (aT (aA 0) (aT (aA 1) cL)) 2) (c:=c) (e:=e) (O:=s.o) Y (λa=>D.tup [f a,g a]) (λs2=>∃x y,s2=#[x::y::caps.map (λi=>(s.r[i]?).getD qh),s.o]) (by rintro _ ⟨_,_,rfl⟩;rfl) l p out (by rintro a ha _ ⟨x,y,rfl⟩;exact#[_,_,by simp,hc a ha,λ_=>#[_,_,rfl],λhp=>#[_,he a ha hp,_,_,rfl]]) [] #[o6 2 caps s.r,s.o] (by simpa using hl) #[qh,qh,rfl]
 rw[yZ,J,aj];dsimp only;rw[e1,aj];subst h1;rfl
theorem og{l:List α}:l.filter (λ_=>ss)=l:=by simp
theorem c7 (J:im s=.ok ((l.map item,k),s)) (Y:okC (l.map item) k s.o) (hl:l.length<=16777216)
 (he:∀a∈l,e #[pr (item a)::caps.map (λi=>(s.r[i]?).getD qh),s.o]=.ok (out a,#[pr (item a)::caps.map (λi=>(s.r[i]?).getD qh),s.o])):
 bF 1 caps im (aA 0) bA e s=.ok (.lst (l.map out),s):=by
 rw[qI,Fh (p:=λ_=>ss) J Y hl (λ_ _=>rfl) (λa ha _=>he a ha),aj,og]
theorem GA (J:im s=.ok ((l.map item,k),s)) (Y:okC (l.map item) k s.o) (hl:l.length<=16777216)
 (hc:∀a∈l,c #[pr (item a)::caps.map (λi=>(s.r[i]?).getD qh),s.o]=.ok (p a,#[pr (item a)::caps.map (λi=>(s.r[i]?).getD qh),s.o]))
 (he:∀a∈l,p a=ss->e #[pr (item a)::caps.map (λi=>(s.r[i]?).getD qh),s.o]=.ok (out a,#[pr (item a)::caps.map (λi=>(s.r[i]?).getD qh),s.o])):
 bF 1 caps im (aA 0) c e s=.ok (.lst ((l.filter p).map out),s):=by
 rw[qI,Fh J Y hl hc he,aj]
theorem vZ {f g:α->D} (J:im s=.ok ((l.map (λa=>D.tup [f a,g a]),k),s)) (Y:okC (l.map (λa=>D.tup [f a,g a])) k s.o) (hl:l.length<=16777216)
 (he:∀a∈l,e #[pr (f a)::pr (g a)::caps.map (λi=>(s.r[i]?).getD qh),s.o]=.ok (out a,#[pr (f a)::pr (g a)::caps.map (λi=>(s.r[i]?).getD qh),s.o])):
 bF 2 caps im (cH (aT (aA 0) (aT (aA 1) cL)) 2) bA e s=.ok (.lst (l.map out),s):=by
 rw[qI,D8 (p:=λ_=>ss) J Y hl (λ_ _=>rfl) (λa ha _=>he a ha),aj,og]
theorem Bh {f g:α->D} (J:im s=.ok ((l.map (λa=>D.tup [f a,g a]),k),s)) (Y:okC (l.map (λa=>D.tup [f a,g a])) k s.o) (hl:l.length<=16777216)
 (hc:∀a∈l,c #[pr (f a)::pr (g a)::caps.map (λi=>(s.r[i]?).getD qh),s.o]=.ok (p a,#[pr (f a)::pr (g a)::caps.map (λi=>(s.r[i]?).getD qh),s.o]))
 (he:∀a∈l,p a=ss->e #[pr (f a)::pr (g a)::caps.map (λi=>(s.r[i]?).getD qh),s.o]=.ok (out a,#[pr (f a)::pr (g a)::caps.map (λi=>(s.r[i]?).getD qh),s.o])):
 bF 2 caps im (cH (aT (aA 0) (aT (aA 1) cL)) 2) c e s=.ok (.lst ((l.filter p).map out),s):=by
 rw[qI,D8 J Y hl hc he,aj]
theorem wJ (J:im s=.ok ((l.map item,k),s)) (Y:okC (l.map item) k s.o) (hl:l.length<=16777216)
 (he:∀a∈l,e #[pr (item a)::caps.map (λi=>(s.r[i]?).getD qh),s.o]=.ok (out a,#[pr (item a)::caps.map (λi=>(s.r[i]?).getD qh),s.o])):
 nv 1 caps im (aA 0) bA e s=.ok (.ptr s.o.length,#[s.r,s.o++[.lst (l.map out)]]):=by
 rw[Ee,Fh (p:=λ_=>ss) J Y hl (λ_ _=>rfl) (λa ha _=>he a ha),aj,og]
end
abbrev vI(r:List Int):D:=.lst (r.map .int)
abbrev vII(R:List (List Int)):D:=.lst (R.map vI)
@[simp] theorem gQ:aU (R.map vI)=true:=by
 induction R with
 | nil=>rfl
 | cons r R J=>simp[J]
theorem ji{as bs:List Int}:mn (as.map D.int) (bs.map D.int)=(as.zip bs).map λp=>.tup [.int p.1,.int p.2]:=by unfold mn;rw[WZ,Wv,VZ]
theorem Au{as:List Int}:dR (as.map D.int)=as.zipIdx.map λp=>.tup [.int (p.2:Int),.int p.1]:=by unfold dR;rw[Uh,Ve,wv];rfl
theorem LP{as:List (List Int)}:dR (as.map vI)=as.zipIdx.map λp=>.tup [.int (p.2:Int),vI p.1]:=by unfold dR;rw[Uh,Ve,wv];rfl
theorem fY{i:Nat}(h:i<r.length):ixD O (vI r) (.int (i:Int))=.ok (.int (nth r i)):=by refine pY ?_;rw[qg ⋯ (by simpa using h)];simp[nth,re,h]
theorem Pf{i:Nat}(h:i<R.length):ixD O (vII R) (.int (i:Int))=.ok (vI (R.getD i [])):=by refine pY ?_;rw[qg ⋯ (by simpa using h)];simp[re,h]
theorem fq(n:Nat):dY 0 (n:Int)=(wh n).map λi=>.int (i:Int):=by unfold dY;simp
theorem nX(h:n<=1000000):n<=16777216:=SE h ∅
theorem zip_map{f:Int->Int->Int}:∀(a b:List Int),(a.zip b).map (λp=>f p.1 p.2)=Tf f a b
 | [],_=>by simp
 | _::_,[]=>by simp
 | x::a,y::b=>by simp[zip_map a b]
theorem NX{a b:List Int}:(a.zip b).map (λp=>p.1*p.2)=Tf (· * ·) a b:=zip_map a b
theorem Jb:Hs (n:Int) [.int 0]=(wn n (0:Int)).map D.int:=by
 unfold Hs;rw[show (n:Int).toNat=n from WR n];induction n with
 | zero=>rfl
 | succ n J=>rw[S9,TW,J];simp[S9]
theorem DK{mo J:EM}{d:D}{s s1 s2:S}(h1:mo s=.ok (.ptr k,s1))(h2:J s1=.ok (.int (a:Int),s2))(Y:s2.o[k]? =pr (.lst ds))(ha:a<ds.length):
 zc mo J d s=.ok #[s2.r,s2.o.set k (.lst (ds.set a d))]:=by
 unfold zc;rw[h1,aj];dsimp only;rw[h2,aj];dsimp only;rw[md Y];dsimp only;have e:ixN ds.length (a:Int)=pr a:=by unfold ixN;rw[if_pos ⋯,if_pos ⋯];simp
 rw[e]
theorem eX{i:Nat}{s s':S}(h:m s=.ok (d,s')):setM i m s=.next #[s'.r.set i (pr d),s'.o]:=by show ((m s).bind _).out _=_;rw[h];rfl
theorem bD{s s':S}(h:m s=.ok (d,s')):bQ m s=.ret d s':=by show (m s).out _=_;rw[h];rfl
theorem xw{c:TM}{a b:SM}{s s':S}(h:c s=.ok (ss,s')):ifS c a b s=a s':=by show (c s).out _=_;rw[h];rfl
theorem j5{c:TM}{a b:SM}{s s':S}(h:c s=.ok (xL,s')):ifS c a b s=b s':=by show (c s).out _=_;rw[h];rfl
theorem bV{a b:SM}{s s':S}(h:a s=.next s'):aP a b s=b s':=by show (a s).then b=_;rw[h];rfl
theorem mG{a b:SM}{s s':S}(h:a s=.ret d s'):aP a b s=.ret d s':=by show (a s).then b=_;rw[h];rfl
theorem MJ{fin:S->List D->Res (D×S)}{mk:EM}{s:S}(h:mk s=.ok (.int (n:Int),s))(hn:n<=1000000):BH fin (ae (au (.int 0)) ak) mk s=fin s ((wn n (0:Int)).map D.int):=by rw[NT,aW,aB,aj,ay,aj,aj];dsimp only;rw[if_pos ∅,h,aj];dsimp only;rw[if_pos #[#[⋯,⋯],by simp;omega],Jb]
theorem cI{f:FM}{s s':S}(h:ma s=.ok (ds,s'))(hp:aU ds=ss)(J:ds.length=n)(Y:f ds []=.ok (d,O))(hd:dq d=ss):aN n f ma s=.ok (d,s'):=by rw[LY,h,aj,if_pos #[hp,J]];dsimp only;rw[Y];dsimp only;rw[if_pos hd]
theorem yw{f:FM}{s s':S}(h:ma s=.ok (ds,s'))(J:ds.length=n)(Y:f ds s'.o=.ok (d,O)):j8 n f ma s=.ok (d,#[s'.r,O]):=by rw[KP,h,aj,if_pos J];dsimp only;rw[Y]
theorem OF{s s1 s2:S}{k i:Nat}(h1:mo s=.ok (.ptr k,s1))(Y:s1.o[k]? =pr (.lst ds0))(h2:me s1=.ok (.int (i:Int),s2))(c2:s2.o[k]? =pr (.lst ds))(hi:i<ds.length)(hb:i<=1000000):
 Fe mo me s=.ok (ds[i],#[s2.r,s2.o.set k (.lst (ds.eraseIdx i))]):=by
 unfold Fe;rw[h1,aj];dsimp only;rw[md Y];dsimp only;rw[h2,aj];dsimp only;rw[md c2];dsimp only;have e:seqIndex? (i:Int) ds.length=pr i:=by have J:¬((i:Int)<0):=⋯;simp only[seqIndex?,J,if_false];simp[hi]
 rw[if_pos #[⋯,⋯],e];dsimp only;rw[ut hi]
theorem xf{s s1 s2:S}(h1:mo s=.ok (.ptr k,s1))(J:s1.o[k]? =pr (.lst ds0))(h2:me s1=.ok (d,s2))(Y:s2.o[k]? =pr (.lst ds))(hb:ds.length<=1000000):
 ir mo me s=.ok (.non,#[s2.r,s2.o.set k (.lst (ds++[d]))]):=by
 rw[Ot,h1,aj];dsimp only;rw[md J];dsimp only;rw[h2,aj];dsimp only;rw[md Y];dsimp only;rw[if_pos ⋯]
theorem cV{s s':S}(h:m s=.ok (d,s')):dA m s=.next s':=by show (m s).out _=_;rw[h];rfl
theorem Gj{s s':S}(h:m s=.ok (.ptr k,s'))(c:s'.o[k]? =pr (.lst ds)):iu m s=.ok (.lst ds,#[s'.r,s'.o.set k .dead]):=by rw[Ni,h,aj];dsimp only;rw[md c]
theorem qY{s s':S}(h:m s=.ok (.ptr k,s'))(c:s'.o[k]? =pr (.lst ds)):listI m s=.ok ((ds,pr k),s'):=by rw[cO,h,aj];dsimp only;rw[xX c,aj]
theorem cY{k j:Nat}{c:Cell}(h:k≠j):(O.set k c)[j]? =O[j]? :=Tc h
theorem fF{c c':Cell}(h:O[k]? =pr c'):(O.set k c)[k]? =pr c:=by rw[S6 (Ch.mp h).1]
theorem fm{O E:aD}{c:Cell}(h:O[k]? =pr c):(O++E)[k]? =pr c:=by rw[AT (Ch.mp h).1];exact h
theorem jj{c:Cell}:(O++[c])[O.length]? =pr c:=by simp
theorem oS{c:Cell}(h:O[k]? =pr c):k<O.length:=(Ch.mp h).1
theorem EA(hb:b<=60000000){x y:Int}(hx:Sz b x)(hy:Sz b y):Tj x y:=eZ hb hb hx hy
theorem Cu{α β:Type}(f:α->β):∀(l:List α) (k:Nat),(l.map f).eraseIdx k=(l.eraseIdx k).map f
 | [],_=>rfl
 | _::_,0=>rfl
 | a::l,k+1=>by simp[Cu f l k]
theorem gX(r:List Int):aU [vI r]=true:=by simp
theorem Ax{α β:Type}(g:α->β)(k:Nat):∀(l:List α) (j:Nat),((l.zipIdx j).filter (λp=> !decide (p.2=j+k))).map (λp=>g p.1)=(l.eraseIdx k).map g:=by
 induction k with
 | zero=>
  intro l j;cases l with
  | nil=>rfl
  | cons a l=>
   rw[UG,SY (by simp),List.eraseIdx_cons_zero];have:∀(l:List α) (i:Nat),j<i->((l.zipIdx i).filter (λp=> !decide (p.2=j+0))).map (λp=>g p.1)=l.map g:=by
    intro l;induction l with
    | nil=>intro i _;rfl
    | cons b l J=>
     intro i hi;rw[UG,SD (by simp;omega),x0,x0,J (i+1) ⋯]
   exact this l (j+1) ⋯
 | succ k J=>
  intro l j;cases l with
  | nil=>rfl
  | cons a l=>
   rw[UG,SD (by simp),V4,x0,x0];congr 1;have:=J l (j+1);rw[show j+1+k=j+(k+1) by omega] at this;exact this
theorem Fp{α β:Type}(l:List α)(k:Nat)(g:α->β):(l.zipIdx.filter (λp=> !decide (p.2=k))).map (λp=>g p.1)=(l.eraseIdx k).map g:=by have:=Ax g k l 0;rw[WH] at this;exact this
theorem Qf{b:Nat}:∀(l:List Int) (k:Nat),(∀x∈l,x.natAbs<2^b)->l.length<=2^k->l.sum.natAbs<=l.length*2^b:=by
 intro l k h _;induction l with
 | nil=>simp
 | cons a l J=>
  rw[Ul,AC,Nat.succ_mul];have h1:=h a wp;have h2:=J (λx hx=>h x (wf _ hx)) (by simp at *;omega);have:=WQ a l.sum;omega
theorem nG(hr:SzL c row)(J:SzL b l)(hn:row.length<=1000):Sz (b+c+10) (aC row l):=by
 unfold aC;have h:∀x∈Tf (· * ·) row l,x.natAbs<2^(c+b):=λx hx=>by obtain⟨i,hi,e⟩:=SX hx;rw[Wm] at e;subst e;exact Sz.mul (hr _ (NE _)) (J _ (NE _))
 have h2:=Qf (Tf (· * ·) row l) 10 h (by rw[Ti];simp;omega);unfold Sz;have Y:(Tf (· * ·) row l).length<=1000:=by rw[Ti];omega
 have h4:(Tf (· * ·) row l).length*2^(c+b)<=1000*2^(c+b):=U7 _ Y;have h5:2^(b+c+10)=1024*2^(c+b):=by rw[WU,VR b c,VV]
 have h6:0<2^(c+b):=UN _;rw[h5];omega
theorem Qq{a b:List Int}(h:vI a=vI b):a=b:=by
 injection h with h
 exact(TD (λx y e=>by cases e;rfl)).mp h
theorem LG{f:FM}{s s':S}(h:ma s=.ok (ds,s'))(hp:aU ds=ss)(J:ds.length=n)(Y:f ds []=.ok (d,O1)):d9 n f ma s=.ok (shD s'.o.length d,#[s'.r,s'.o++O1.map (shC s'.o.length)]):=by rw[KC,h,aj,if_pos #[hp,J]];dsimp only;rw[Y]
theorem ED(h:O[k]? =pr (.lst ds))(hi:atI ds i=pr d):ixD O (.ptr k) (.int i)=.ok d:=by
 show (match lsD O (D.ptr k) with
  | some ds=>match atI ds i with
   | some d=>Res.ok d
   | none=>.bad
  | none=>.bad)=_
 rw[jg h];dsimp only;rw[hi]
theorem qr{α:Type}{l:List α}{i:Nat}(h:i<l.length):atI l (i:Int)=pr l[i]:=by rw[qg ⋯ ⋯];simp
theorem uI(h:O[k]? =pr (.lst ds)):bY O [.ptr k]=.ok (.int ds.length):=by unfold bY;simp only[jg h]
theorem kP{s s':S}(h:m s=.ok (.int i,s')):a9 (ao gtD m (au (.int j))) s=.ok (decide (j<i),s'):=by rw[gZ,dJ,h,aj,aB,aj,AO,aj,aj]
theorem eq_test{s s':S}(h:m s=.ok (.int i,s')):a9 (ao eqD m (au (.int j))) s=.ok (decide (i=j),s'):=by rw[gZ,dJ,h,aj,aB,aj,jL,aj,aj]
theorem AX{a b:TM}{s:S}{p q:Bool}(ha:a s=.ok (p,s))(hb:b s=.ok (q,s)):o8 a b s=.ok (p&&q,s):=by
 rw[AQ,ha,aj];cases p with
 | true=>exact hb
 | false=>rfl
theorem nO{a b:List D}(h:a.length+b.length<=1000000):bh O (.lst a) (.lst b)=.ok (.lst (a++b)):=by show (if a.length+b.length<=16777216 then Res.ok (D.lst (a++b)) else .bad)=_;rw[if_pos (nX h)]
theorem IZ(h:n<=ms.length):cutD (ms.map D.int) (pr (n:Int)) qh=(ms.drop n).map D.int:=by unfold cutD;rw[HT.zC,HT.AZ,t3,V9 h,<- List.map_drop,S5 (by simp)]
def tk(c e:Nat):Nat:=2^e*(c+12)-(c+11)
def iU(c n:Nat):Nat:=2^n*(c+12)
theorem Hk(c e:Nat):c+12<=2^e*(c+12):=Wd _ (UN e)
theorem M9:tk c 0=1:=by unfold tk;simp
theorem MY:2*tk c e+c+11=tk c (e+1):=by
 unfold tk;have h:=Hk c e;have e2:2^(e+1)*(c+12)=2*(2^e*(c+12)):=by rw[WA,VV (2^e) 2,Wt]
 rw[e2];omega
theorem Qx(h:e<=n):tk c e+c+10<=iU c n:=by unfold tk iU;have h1:=Hk c e;have h2:2^e*(c+12)<=2^n*(c+12):=U7 _ (S4 ∅ h);omega
theorem Gk(h:e<=n):grow (tk c e) (n-e)<=iU c n:=by
 unfold grow;have h1:tk c e+1<=2^e*(c+12):=by unfold tk;have:=Hk c e;omega
 have h2:2^(n-e)*(tk c e+1)<=2^(n-e)*(2^e*(c+12)):=Nat.mul_le_mul_left _ h1;have J:2^(n-e)*(2^e*(c+12))=iU c n:=by unfold iU;rw[<- Wt,<- WU,Nat.sub_add_cancel h]
 omega
structure qe(n c:Nat)(R lists:List (List Int))(e:Nat):Prop where
 eq:R.foldl fI (dh n)=lists
 ll:∀l∈lists,l.length=n
 cnt:lists.length+e=n
 sz:cP (tk c e) lists
theorem Bj(n a:Nat):SzL 1 (d8 n a):=by
 intro x hx;unfold d8 at hx;rcases List.mem_or_eq_of_mem_set hx with h | h
 rw[List.eq_of_mem_replicate h];exact Sz.zero 1;rw[h];unfold Sz;decide
theorem qe.start(n c:Nat):qe n c [] (dh n) 0:=by refine#[rfl,λl J=> ?_,by unfold dh;simp,λl J=> ?_];obtain⟨a,_,rfl⟩:=sB.mp J;unfold d8;simp;obtain⟨a,_,rfl⟩:=sB.mp J;rw[M9];exact Bj n a
theorem qe.step{R lists:List (List Int)}(h:qe n c R lists e)(hr:row.length=n)(hs:SzL c row)(hn:n<=1000):∃e',qe n c (R++[row]) (fI lists row) e':=by
 have J:(R++[row]).foldl fI (dh n)=fI lists row:=by rw[Uv,h.eq];rfl
 unfold fI at *;split;rename_i Y;rw[Y] at J;exact#[e,J,h.ll,h.cnt,h.sz];rename_i k Y;rw[Y] at J;have k1:=(gv Y).1;rw[t3] at k1;have hm:=getD_mem k1;refine#[e+1,J,λl hl=> ?_, ?_,λl hl=> ?_];obtain⟨q,hq,rfl⟩:=sB.mp hl;have hq':=To hq;rw[oA (by rw[h.ll q hq',h.ll _ hm]),h.ll q hq'];rw[t3,List.length_eraseIdx_of_lt k1];have:=h.cnt;omega;obtain⟨q,hq,rfl⟩:=sB.mp hl;have hq':=To hq;have hz:∀l∈lists,Sz (tk c e+c+10) (aC row l):=λl h'=>nG hs (h.sz l h') (by rw[hr];exact hn);exact(SzL.off (h.sz q hq') (h.sz _ hm) (hz q hq') (hz _ hm)).mono (by rw[<- MY];omega)
theorem Mh(hn:n<=1000)(J:∀r∈rows,r.length=n)(hs:cP c rows):∃e,qe n c rows (mN rows n) e:=by
 have:∀(S R lists:List (List Int)) (e:Nat),(∀r∈S,r.length=n)->cP c S->qe n c R lists e->∃e',qe n c (R++S) (S.foldl fI lists) e':=by
  intro S;induction S with
  | nil=>intro R lists e _ _ h;exact#[e,by simpa using h]
  | cons r S Y=>
   intro R lists e h1 h2 h;obtain⟨e1,h3⟩:=h.step (h1 r wp) (h2 r wp) hn;obtain⟨e2,h4⟩:=Y (R++[r]) _ e1 (λq hq=>h1 q (wf _ hq)) (λq hq=>h2 q (wf _ hq)) h3;exact#[e2,by simpa using h4]
 obtain⟨e,h⟩:=this rows [] (dh n) 0 J hs (qe.start n c);rw[Cs] at h;exact#[e,h]
theorem oG(hn:n<=1000)(J:∀r∈rows,r.length=n)(hs:cP c rows):cP (iU c n) (bg rows n):=by obtain⟨e,h⟩:=Mh hn J hs;have hc:=h.cnt;have:=IW h.ll h.sz;refine this.mono ?_;rw[show (mN rows n).length=n-e by omega];exact Gk ⋯
theorem hole:∀(n:Nat) (L:List Nat),L.length<n->∃f,f<n/\f∉L
 | 0,L,h=>⋯
 | n+1,L,h=>by
  by_cases hn:n∈L;obtain⟨f,h1,h2⟩:=hole n (L.erase n) (by rw[VM hn];have:=List.length_pos_of_mem hn;omega)
  exact#[f,⋯,λJ=>h2 ((List.mem_erase_of_ne ⋯).mpr J)];exact#[n,⋯,hn]
theorem Ko{f:Nat}(pl:Pl n P)(J:∀p∈P,p.1≠f):jt P f f≠0:=by have h1:=pl.leads_pos;have h2:=kH (L:=iZ P) (f:=f) (i:=f) J;unfold jt;simp;omega
theorem FT{A:List (List Int)}(hA:∀r∈A,r.length=n)(h:A.length<n):∃t:Nat->Int,(∃j,j<n/\t j≠0)/\fA n A t:=by obtain⟨P,eP,pl,hP,Y⟩:=kE hA;obtain⟨f,hf,ab⟩:=hole n (P.map (·.1)) (by rw[t3];omega);have J:∀p∈P,p.1≠f:=λp hp e=>ab (sB.mpr #[p,hp,e]);refine#[jt P f,#[f,hf,Ko pl J],(Y _).mp ?_];rw[eP];exact uD pl hf J
def Indep(n:Nat)(V:List (List Int)):Prop:=∀t:Nat->Int,(∀i,i<n->bo V.length (λj=>t j*nth (V.getD j []) i)=0)->∀j,j<V.length->t j=0
theorem Ep{V W:List (List Int)}(hV:Indep n V)(h:∀v∈V,i5 n W (nth v)):V.length<=W.length:=by
 refine S8 λa2=> ?_;have ch:∀j,∃k:Int,∃T:List Int,j<V.length->k≠0/\∀i,i<n->k*nth (V.getD j []) i=bT T W i:=λj=>by by_cases J:j<V.length;obtain⟨k,hk,T,_,e⟩:=h (V.getD j []) (getD_mem J);exact#[k,T,λ_=>#[hk,e]];exact#[1,[],λz=>absurd z J]
 obtain⟨kf,am⟩:=V2 ch;obtain⟨Y,ab⟩:=V2 am;obtain⟨t,⟨j0,ac,an⟩,hn⟩:=FT (n:=V.length) (A:=(wh W.length).map λm=>(wh V.length).map λj=>nth (Y j) m) (λr hr=>by obtain⟨m,_,rfl⟩:=sB.mp hr;simp) (by simp;omega)
 have ap:∀m,m<W.length->bo V.length (λj=>nth (Y j) m*t j)=0:=λm hm=>by have:=hn _ (sB.mpr #[m,SA.mpr hm,rfl]);rw[<- this];refine bL λj J=> ?_;congr 1;unfold nth;simp[re,wT,Tk,J]
 have hz:=hV (λj=>t j*kf j) (λi hi=> ?_) j0 ac;rcases SK.mp hz with q | q
 exact an q;exact(ab j0 ac).1 q;have e1:bo V.length (λj=>t j*kf j*nth (V.getD j []) i)=bo V.length (λj=>bo W.length λm=>t j*(nth (Y j) m*nth (W.getD m []) i)):=bL λj J=>by rw[UJ,(ab j J).2 i hi];unfold bT;rw[eE]
 rw[e1,qT];refine d5 λm hm=> ?_;have e2:bo V.length (λj=>t j*(nth (Y j) m*nth (W.getD m []) i))=nth (W.getD m []) i*bo V.length (λj=>nth (Y j) m*t j):=by rw[<- eE];refine bL λj J=> ?_;rw[<- UJ,S1 (nth (W.getD m []) i),S1 (t j)]
 rw[e2,ap m hm,TN]
theorem D7(pl:Pl n P):Indep n (P.map (·.2)):=λt h j J=>by
 rw[t3] at J;have hg:∀j (J:j<P.length),(P.map (·.2)).getD j []=P[j].2:=λj J=>by simp[re,ut J]
 have hm:P[j]∈P:=NE J;have g:=pl.good _ hm;have e:=h P[j].1 g.lt;rw[t3,g5 (k:=j) J λm Y ac=> ?_,hg j J] at e;rcases SK.mp e with q | q
 exact q;have:=g.pos;omega;rw[hg m Y];have am:P[m]∈P:=NE Y;have ab:P[m].1≠P[j].1:=by
  have pw:=UP.mp pl.pw;rcases Nat.lt_or_gt_of_ne ac with q | q
  exact Ix (pw m j Y J q).1;exact U6 (pw j m J Y q).1
 rw[pl.other am hm ab,TN]
theorem tG{n j:Nat}(J:j<n):(dh n).getD j []=d8 n j:=by unfold dh;simp[re,wT,Tk,J]
theorem jh:(dh n).length=n:=by unfold dh;simp
theorem FR(n:Nat):Indep n (dh n):=λt h j J=>by rw[jh] at J;have e:=h j J;rw[jh,g5 (k:=j) J λm hm Y=> ?_,tG J,dt J,if_pos rfl,Int.mul_one] at e;exact e;rw[tG hm,dt hm,if_neg (λz=>Y z.symm),TN]
theorem C0(n:Nat){x:Nat->Int}:i5 n (dh n) x:=#[1,∅,(wh n).map x,by rw[jh];simp,λi hi=>by unfold bT;rw[jh,g5 (k:=i) hi λm hm J=> ?_,tG hi,dt hi,if_pos rfl];unfold nth;simp[re,wT,Tk,hi];rw[tG hm,dt hm,if_neg (λz=>J z.symm),TN]]
theorem sq_nonneg(a:Int):0<=a*a:=by rcases Int.le_total 0 a with h | h;exact SS h h;have:=SS (show 0<= -a by omega) (show 0<= -a by omega);rwa [UM] at this
theorem uV(z:Nat->Int):∀n,0<=bo n λi=>z i*z i
 | 0=>Wg 0
 | n+1=>by have:=uV z n;have:=sq_nonneg (z n);show 0<=bo n _+z n*z n;omega
theorem A9{z:Nat->Int}:∀{n:Nat},(bo n λi=>z i*z i)=0->∀i,i<n->z i=0
 | 0,_,i,hi=>⋯
 | n+1,h,i,hi=>by
  have h1:=uV z n;have h2:=sq_nonneg (z n);have Y:(bo n λi=>z i*z i)+z n*z n=0:=h;rcases VU i n with q | q
  exact A9 (n:=n) ⋯ i q;have:i=n:=⋯;subst this;have J:z i*z i=0:=⋯;rcases SK.mp J with r | r <;> exact r
theorem count(Y:∀r∈R,r.length=n):(bg R n).length+(cK R n).length=n:=by
 obtain⟨P,eP,pl,_,a3⟩:=kE Y;have hS:=iI Y;obtain⟨Q,eQ,ql,_,_⟩:=iO Y;have ac:∀s∈bg R n,∀p∈cK R n,a6 n (nth s) (nth p)=0:=λs hs p hp=>by obtain⟨_,_,_,h3,_⟩:=iO hS;rw[xJ Y] at h3;rw[bW];exact h3 s hs p hp
 have as:∀z:Nat->Int,fA n (cK R n) z->i5 n (bg R n) z:=λz hz=>by refine(pN hS z).mp ?_;rw[xJ Y];exact hz
 have J:∀(t:Nat->Int) (A B:List (List Int)) (i:Nat),bo (A++B).length (λj=>t j*nth ((A++B).getD j []) i)=bo A.length (λj=>t j*nth (A.getD j []) i)+bo B.length (λj=>t (A.length+j)*nth (B.getD j []) i):=λt A B i=>by
  have split:∀(a b:Nat) (f:Nat->Int),bo (a+b) f=bo a f+bo b λj=>f (a+j):=λa b f=>by
   induction b with
   | zero=>show bo a f=bo a f+0;omega
   | succ b ih=>
    show bo (a+b) f+f (a+b)=bo a f+(bo b (λj=>f (a+j))+f (a+b));rw[ih];omega
  rw[Do,split];congr 1;exact bL λj hj=>by rw[re,AT hj,<- re]
  exact bL λj hj=>by rw[re,wP ⋯,SR,<- re]
 have lo:n<=(bg R n++cK R n).length:=by
  have:=Ep (n:=n) (V:=dh n) (W:=bg R n++cK R n) (FR n) λv _=>by
   have hA:∀r∈bg R n++cK R n,r.length=n:=λr hr=>by rcases xz.mp hr with q | q;exact hS r q;exact pE Y r q
   refine(pN hA _).mp λz hz=> ?_;obtain⟨_,_,_,h3,_⟩:=iO hA;have zP:fA n (cK R n) (nth z):=λp hp=>by rw[gu,bW];exact h3 p (by simp[hp]) z hz
   have zS:fA n (bg R n) (nth z):=λp hp=>by rw[gu,bW];exact h3 p (by simp[hp]) z hz
   have zz:=(as (nth z) zP).dot zS;have z0:=A9 zz;rw[gu];exact d5 λi hi=>by rw[z0 i hi,Tt]
  rwa [jh] at this
 have hi:(bg R n++cK R n).length<=n:=by
  have:=Ep (n:=n) (V:=bg R n++cK R n) (W:=dh n) (λt h=> ?_) λv _=>C0 n;rwa [jh] at this
  ·have y0:∀i,i<n->bo (bg R n).length (λj=>t j*nth ((bg R n).getD j []) i)=0:=by
    refine A9 (z:=λi=>bo (bg R n).length (λj=>t j*nth ((bg R n).getD j []) i)) ?_;have e1:∀i,i<n->bo (bg R n).length (λj=>t j*nth ((bg R n).getD j []) i)= - bo (cK R n).length (λj=>t ((bg R n).length+j)*nth ((cK R n).getD j []) i):=λi hi=>by have:=h i hi;rw[J] at this;omega
    have an:∀(a b:Nat) (f g:Nat->Int),bo a f*bo b g=bo a λj=>bo b λm=>f j*g m:=λa b f g=>by rw[S1,<- eE];refine bL λj _=> ?_;rw[S1,<- eE]
    have e2:(bo n λi=>(bo (bg R n).length λj=>t j*nth ((bg R n).getD j []) i)*(bo (bg R n).length λj=>t j*nth ((bg R n).getD j []) i))=bo n λi=>(-1)*((bo (bg R n).length λj=>t j*nth ((bg R n).getD j []) i)*(bo (cK R n).length λj=>t ((bg R n).length+j)*nth ((cK R n).getD j []) i)):=bL λi hi=>by
     conv=>lhs;arg 2;rw[e1 i hi]
     rw[Int.mul_neg];omega
    rw[e2,eE];have e3:(bo n λi=>(bo (bg R n).length λj=>t j*nth ((bg R n).getD j []) i)*(bo (cK R n).length λj=>t ((bg R n).length+j)*nth ((cK R n).getD j []) i))=bo n λi=>bo (bg R n).length λj=>bo (cK R n).length λm=>(t j*t ((bg R n).length+m))*(nth ((bg R n).getD j []) i*nth ((cK R n).getD m []) i):=bL λi _=>by rw[an];refine bL λj _=>bL λm _=> ?_;rw[UJ,UJ,WT (nth ((bg R n).getD j []) i)]
    rw[e3,qT];suffices q:bo (bg R n).length (λj=>bo n λi=>bo (cK R n).length λm=>(t j*t ((bg R n).length+m))*(nth ((bg R n).getD j []) i*nth ((cK R n).getD m []) i))=0 by rw[q];rfl
    refine d5 λj hj=> ?_;rw[qT];refine d5 λm hm=> ?_;rw[eE];have:=ac _ (getD_mem hj) _ (getD_mem hm);unfold a6 at this;rw[this,TN]
   have p0:∀i,i<n->bo (cK R n).length (λj=>t ((bg R n).length+j)*nth ((cK R n).getD j []) i)=0:=λi hi=>by have:=h i hi;rw[J,y0 i hi] at this;omega
   have iS:Indep n (bg R n):=by rw[eQ];exact D7 ql
   have iP:Indep n (cK R n):=by rw[eP];exact D7 pl
   intro j hj;rw[Do] at hj;rcases VU j (bg R n).length with q | q
   exact iS t y0 j q;have:=iP (λm=>t ((bg R n).length+m)) p0 (j-(bg R n).length) ⋯;rwa [show (bg R n).length+(j-(bg R n).length)=j by omega] at this
 rw[Do] at lo hi;omega
structure Fit(n:Nat)(R:List (List Int))(x:List Int):Prop where
 len:x.length=n
 nn:∀i,0<=nth x i
 st:∀r∈R,a6 n (nth r) (nth x)=0
 nz:∃i,nth x i≠0
def Sub(x y:List Int):Prop:=∀i,nth x i≠0->nth y i≠0
structure cR(n:Nat)(R:List (List Int))(x:List Int):Prop where
 fit:Fit n R x
 one:da x=1
 min:∀y,Fit n R y->Sub y x->Sub x y
theorem Sub.refl(x:List Int):Sub x x:=λ_ h=>h
theorem Sub.trans(a:Sub x y)(b:Sub y z):Sub x z:=λi h=>b i (a i h)
theorem Fit.lt(f:Fit n R x){i:Nat}(h:nth x i≠0):i<n:=by by_cases hi:i<n;exact hi;exact absurd (dX (by rw[f.len];omega)) h
theorem Fit.low(f:Fit n R x):Fit n R (low x)/\da (M.low x)=1/\Sub (M.low x) x/\Sub x (M.low x):=by
 have hp:=oJ x;have hi:∀i,nth (M.low x) i≠0↔nth x i≠0:=λi=>by rw[nP x i];constructor;exact λh=>Vf ⋯ h;intro h z;rw[z] at h;exact h ⋯
 obtain⟨j,J⟩:=f.nz;refine#[#[by rw[low_length,f.len],λi=> ?_,λr hr=> ?_,#[j,(hi j).mpr J]],Gr J,λi=>(hi i).mp,λi=>(hi i).mpr];have:=f.nn i;rw[nP x i] at this;by_cases h:0<=nth (M.low x) i;exact h;have:=UK hp (by omega:nth (M.low x) i<0);omega;have:=f.st r hr;rw[bW];rw[bW] at this;exact(zu n x (nth r)).mpr this
theorem rT{a b c d e f:Int}(hb:0<b)(hd:0<d)(J:0<f)(h1:a*d<=c*b)(h2:c*f<=e*d):a*f<=e*b:=by
 have e1:a*d*f<=c*b*f:=Up h1 ⋯;have e2:c*f*b<=e*d*b:=Up h2 ⋯;have:(a*f)*d<=(e*b)*d:=by
  have q1:a*d*f=(a*f)*d:=by grind
  have q2:c*b*f=c*f*b:=by grind
  have Y:e*d*b=(e*b)*d:=by grind
  omega
 exact Int.le_of_mul_le_mul_right this hd
theorem J6(a b:Nat->Int)(hb:∀i,0<=b i):∀n,(∃i,i<n/\b i≠0)->∃m,m<n/\b m≠0/\∀i,i<n->b i≠0->a m*b i<=a i*b m
 | 0,h=>by obtain⟨i,hi,_⟩:=h;omega
 | n+1,h=>by
  by_cases hn:∃i,i<n/\b i≠0;obtain⟨m,hm,hz,hl⟩:=J6 a b hb n hn;by_cases Y:b n=0;refine#[m,⋯,hz,λi hi J=> ?_];by_cases e:i=n;subst e;exact absurd Y J;exact hl i ⋯ J;by_cases hc:a m*b n<=a n*b m;refine#[m,⋯,hz,λi hi J=> ?_];by_cases e:i=n;subst e;exact hc;exact hl i ⋯ J;refine#[n,⋯,Y,λi hi J=> ?_];by_cases e:i=n;subst e;omega;have:=hb n;have:=hb m;have:=hb i;exact rT ⋯ (by omega:0<b m) ⋯ ⋯ (hl i ⋯ J);obtain⟨i,hi,J⟩:=h;have e:i=n:=by by_cases e:i=n;exact e;exact absurd #[i,⋯,J] hn
  subst e;refine#[i,⋯,J,λj hj ac=> ?_];by_cases e:j=i;subst e;omega;exact absurd #[j,⋯,ac] hn
theorem ym(fx:Fit n R x)(fy:Fit n R y)(hs:Sub y x):
 ∃z:List Int,z.length=n/\(∀i,0<=nth z i)/\Sub z x/\∃c d:Int,0<c/\0<d/\(∀i,nth z i=c*nth x i-d*nth y i)/\∃m,nth y m≠0/\nth z m=0:=by
 obtain⟨j,hj⟩:=fy.nz;obtain⟨m,hm,hz,hl⟩:=J6 (nth x) (nth y) fy.nn n #[j,fy.lt hj,hj];have Y:x.length=y.length:=by rw[fx.len,fy.len]
 have az:=fx.nn m;have am:=fy.nn m;have ap:=hs m hz;have J:∀i,nth (ib x (nth x m) y (nth y m)) i=nth y m*nth x i-nth x m*nth y i:=λi=>by rw[tH Y];grind
 refine#[ib x (nth x m) y (nth y m),by rw[oz Y,fx.len],λi=> ?_,λi hi=> ?_,nth y m,nth x m,⋯,⋯,J,m,hz,by rw[J];grind];rw[J];by_cases hy:nth y i=0;rw[hy];have:=SS am (fx.nn i);omega;have:=hl i (fy.lt hy) hy;have:nth y m*nth x i=nth x i*nth y m:=S1 _ _;omega;rw[J] at hi;intro z;apply hi;have:nth y i=0:=by by_cases hy:nth y i=0;exact hy;exact absurd z (hs i hy)
 rw[z,this];omega
theorem xu{c d:Int}(h:∀i,nth z i=c*nth x i-d*nth y i)(r:Nat->Int):a6 n r (nth z)=c*a6 n r (nth x)-d*a6 n r (nth y):=by have:=BK (n:=n) (a:=nth x) (b:=nth y) (u:=c) (v:= -d) r;rw[bW,AF (b:=λi=>c*nth x i + -d*nth y i) (λi _=>by rw[h i];grind),bW,this];grind
theorem A0(J:Fit n R x)(Y:Fit n R y)(hl:z.length=n)(hn:∀i,0<=nth z i){c d:Int}(h:∀i,nth z i=c*nth x i-d*nth y i)(hz:∃i,nth z i≠0):Fit n R z:=
 #[hl,hn,λr hr=>by rw[xu h,J.st r hr,Y.st r hr];omega,hz]
theorem cR.prop(l:cR n R x)(Y:Fit n R y)(hs:Sub y x):∃a b:Int,0<a/\0<b/\∀i,a*nth x i=b*nth y i:=by
 obtain⟨z,zl,zn,zs,c,d,hc,hd,h,m,hm,J⟩:=ym l.fit Y hs;by_cases hz:∃i,nth z i≠0;have fz:=A0 l.fit Y zl zn h hz;exact absurd J (l.min z fz zs m (hs m hm));refine#[c,d,hc,hd,λi=> ?_];have:nth z i=0:=by by_cases e:nth z i=0;exact e;exact absurd #[i,e] hz
 rw[h i] at this;omega
theorem cR.eq(l:cR n R x)(J:Fit n R y)(h1:da y=1)(hs:Sub y x):x=y:=by obtain⟨a,b,ha,hb,h⟩:=l.prop J hs;exact GQ (by rw[l.fit.len,J.len]) l.one h1 ha hb λi _=>h i
def cnt(x:List Int):Nat:=(x.filter (·≠0)).length
theorem J1:∀{x y:List Int},x.length=y.length->Sub x y->cnt x<=cnt y
 | [],[],_,_=>wS _
 | a::x,b::y,hl,hs=>by have J:=J1 (x:=x) (y:=y) (by simpa using hl) λi h=>hs (i+1) h;have h0:a≠0->b≠0:=hs 0;unfold cnt at *;by_cases ha:a=0;rw[SY (by simpa using ha)];by_cases hb:b=0;rw[SY (by simpa using hb)];exact J;rw[SD (by simpa using hb),AC];omega;rw[SD (by simpa using ha),SD (by simpa using h0 ha),AC,AC];omega
theorem sX:∀{x y:List Int} {m:Nat},x.length=y.length->Sub x y->nth y m≠0->nth x m=0->cnt x<cnt y
 | [],[],m,_,_,h,_=>by simp[nth] at h
 | a::x,b::y,0,hl,hs,h,h'=>by have J:=J1 (x:=x) (y:=y) (by simpa using hl) λi h=>hs (i+1) h;have ha:a=0:=h';have hb:b≠0:=h;unfold cnt at *;rw[SY (by simpa using ha),SD (by simpa using hb),AC];omega
 | a::x,b::y,m+1,hl,hs,h,h'=>by have J:=sX (x:=x) (y:=y) (m:=m) (by simpa using hl) (λi h=>hs (i+1) h) h h';have h0:a≠0->b≠0:=hs 0;unfold cnt at *;by_cases ha:a=0;rw[SY (by simpa using ha)];by_cases hb:b=0;rw[SY (by simpa using hb)];exact J;rw[SD (by simpa using hb),AC];omega;rw[SD (by simpa using ha),SD (by simpa using h0 ha),AC,AC];omega
theorem wU{n:Nat}{R:List (List Int)}:∀(k:Nat) {x:List Int},cnt x<=k->Fit n R x->∃l,cR n R l/\Sub l x:=by
 intro k;induction k with
 | zero=>
  intro x hk f;obtain⟨i,hi⟩:=f.nz;have:cnt (wn n (0:Int))<cnt x:=sX (m:=i) (by rw[f.len];simp) (λj h=>by
   exfalso;apply h;unfold nth;rw[re,IR];split <;> rfl) hi (by
   unfold nth;rw[re,IR];split <;> rfl)
  omega
 | succ k ih=>
  intro x hk f;by_cases h:∃y,Fit n R y/\Sub y x/\¬Sub x y;obtain⟨y,J,h1,h2⟩:=h;have:∃m,nth x m≠0/\nth y m=0:=by apply S8;intro hn;exact h2 λi hi=>λz=>hn #[i,hi,z]
  obtain⟨m,hm,Y⟩:=this;have:=sX (by rw[J.len,f.len]) h1 hm Y;obtain⟨l,hl,hs⟩:=ih (x:=y) ⋯ J;exact#[l,hl,hs.trans h1];obtain⟨q1,q2,q3,q4⟩:=f.low;refine#[low x,#[q1,q2,λy J hs=> ?_],q3];apply S8;intro hn;exact h #[y,J,hs.trans q3,λz=>hn (q3.trans z)]
theorem AE{n:Nat}{R:List (List Int)}(r:List Int):∀(k:Nat) {x:List Int},cnt x<=k->Fit n R x->0<a6 n (nth r) (nth x)->∃l,cR n R l/\Sub l x/\0<a6 n (nth r) (nth l):=by
 intro k;induction k with
 | zero=>
  intro x hk f hv;obtain⟨l,J,hs⟩:=wU 0 hk f;obtain⟨i,hi⟩:=f.nz;have:cnt (wn n (0:Int))<cnt x:=sX (m:=i) (by rw[f.len];simp) (λj h=>by
   exfalso;apply h;unfold nth;rw[re,IR];split <;> rfl) hi (by
   unfold nth;rw[re,IR];split <;> rfl)
  omega
 | succ k ih=>
  intro x hk f hv;obtain⟨l,J,hs⟩:=wU (k+1) hk f;by_cases hp:0<a6 n (nth r) (nth l);exact#[l,J,hs,hp];obtain⟨z,zl,zn,zs,c,d,hc,hd,h,m,hm,Y⟩:=ym f J.fit hs;have ev:=xu (n:=n) h (nth r);have h1:=S7 hc hv;have h2:=Ug (show 0<=d by omega) (show a6 n (nth r) (nth l)<=0 by omega);have hz:∃i,nth z i≠0:=by
   apply S8;intro hn;have:a6 n (nth r) (nth z)=0:=d5 λi _=>by
    have:nth z i=0:=by by_cases e:nth z i=0;exact e;exact absurd #[i,e] hn
    rw[this];omega
   omega
  have fz:=A0 f J.fit zl zn h hz;have:=sX (by rw[zl,f.len]) zs (hs m hm) Y;obtain⟨l',q1,q2,q3⟩:=ih (x:=z) ⋯ fz ⋯;exact#[l',q1,q2.trans zs,q3]
theorem lN:a6 n (nth (r.map (- ·))) (nth x)= -a6 n (nth r) (nth x):=by have:=uH (n:=n) (a:=r.map (- ·)) (c:=r) (g:= -1) (λi=>by rw[ja (by simp)];omega) (nth x);rw[<- gu,this,gu];omega
theorem AD(r:List Int)(f:Fit n R x)(Y:a6 n (nth r) (nth x)<0):∃l,cR n R l/\Sub l x/\a6 n (nth r) (nth l)<0:=by obtain⟨l,h1,h2,J⟩:=AE (r.map (- ·)) _ (wS _) f (by rw[lN];omega);rw[lN] at J;exact#[l,h1,h2,⋯]
theorem Cb(r:List Int)(f:Fit n R x)(hv:a6 n (nth r) (nth x)=0):
 (∃l,cR n R l/\Sub l x/\a6 n (nth r) (nth l)=0)\/∃h w,cR n R h/\cR n R w/\Sub h x/\Sub w x/\0<a6 n (nth r) (nth h)/\a6 n (nth r) (nth w)<0:=by
 obtain⟨l,J,hs⟩:=wU _ (wS _) f;by_cases h0:a6 n (nth r) (nth l)=0;exact .inl #[l,J,hs,h0];obtain⟨z,zl,zn,zs,c,d,hc,hd,h,m,hm,a1⟩:=ym f J.fit hs;have ev:=xu (n:=n) h (nth r);rw[hv] at ev;have Y:a6 n (nth r) (nth z)≠0:=by rw[ev];have:=Vf (show d≠0 by omega) h0;omega
 have hz:∃i,nth z i≠0:=by
  apply S8;intro hn;exact Y (d5 λi _=>by
   have:nth z i=0:=by by_cases e:nth z i=0;exact e;exact absurd #[i,e] hn
   rw[this];omega)
 have fz:=A0 f J.fit zl zn h hz;by_cases hp:0<a6 n (nth r) (nth l);have:=S7 hd hp;obtain⟨w,w1,w2,w3⟩:=AD r fz ⋯;exact .inr #[l,w,J,w1,hs,w2.trans zs,hp,w3];have:=UK hd (show a6 n (nth r) (nth l)<0 by omega);obtain⟨w,w1,w2,w3⟩:=AE r _ (wS _) fz ⋯;exact .inr #[w,l,w1,J,w2.trans zs,hs,w3,⋯]
def subB(n:Nat)(l h w:List Int):Bool:=(wh n).all λi=>decide (nth l i=0)||decide (nth h i≠0)||decide (nth w i≠0)
def nbB(n:Nat)(L:List (List Int))(h w:List Int):Bool:=(L.filter λl=>subB n l h w).length == 2
def eS(n:Nat)(L:List (List Int))(r:List Int):List (List Int):=
 (L.filter λl=>decide (aC r l=0))++(L.filter λl=>decide (0<aC r l)).flatMap λh=>((L.filter λl=>decide (aC r l<0)).filter λw=>nbB n L h w).map λw=>dG w (aC r w) h (aC r h)
theorem tI(J:l.length=n):subB n l h w=ss↔∀i,nth l i≠0->nth h i≠0\/nth w i≠0:=by
 unfold subB;rw[TZ];constructor;intro H i hi;have lt:i<n:=by by_cases e:i<n;exact e;exact absurd (dX ⋯) hi
 have:=H i (SA.mpr lt);simp only[Vb,decide_eq_true_eq] at this;rcases this with(z | z) | z
 exact absurd z hi;exact .inl z;exact .inr z;intro H i _;simp only[Vb,decide_eq_true_eq];by_cases e:nth l i=0;exact .inl (.inl e);rcases H i e with z | z
 exact .inl (.inr z);exact .inr z
theorem HK{α:Type}{L:List α}(hd:L.Nodup)(J:L.length=2){h w:α}(hh:h∈L)(hw:w∈L)(Y:h≠w):∀l∈L,l=h\/l=w:=by
 match L,J with
 | [a,b],_=>
  intro l J;simp only[wE,TB,or_false] at hh hw J;rcases hh with rfl | rfl <;> rcases hw with rfl | rfl <;> rcases J with rfl | rfl <;> first | exact .inl rfl | exact .inr rfl | exact absurd rfl Y
theorem Hi{α:Type}{L:List α}(hd:L.Nodup){h w:α}(J:h∈L)(Y:w∈L)(ab:h≠w)(ha:∀l∈L,l=h\/l=w):L.length=2:=by
 have h1:L.length<=2:=by
  match L,hd with
  | [],_=>simp
  | [_],_=>simp
  | [_,_],_=>simp
  | a::b::c::r,hd=>
   exfalso;have ac:=ha a (by simp);have am:=ha b (by simp);have an:=ha c (by simp);simp only[Tv,wE,not_or] at hd;rcases ac with e1 | e1 <;> rcases am with e2 | e2 <;> rcases an with e3 | e3 <;> simp_all
 match L,J,Y,h1 with
 | [a],J,Y,_=>
  simp only[ww] at J Y;exact absurd (J.trans Y.symm) ab
 | [a,b],_,_,_=>rfl
section
variable {n : Nat} {R L : List (List Int)} {r : List Int}
structure jX(n:Nat)(R L:List (List Int)):Prop where
 all:∀x,x∈L↔cR n R x
 nd:L.Nodup
theorem jX.dot(k:jX n R L)(h:l∈L)(r:List Int):aC r l=a6 n (nth r) (nth l):=fT ((k.all l).mp h).fit.len
theorem Az(k:jX n R L)(hh:h∈L)(hw:w∈L)(J:h≠w):nbB n L h w=ss↔∀l∈L,(∀i,nth l i≠0->nth h i≠0\/nth w i≠0)->l=h\/l=w:=by
 have mem:∀l,l∈L.filter (λl=>subB n l h w)↔l∈L/\∀i,nth l i≠0->nth h i≠0\/nth w i≠0:=λl=>by rw[EQ];constructor;exact λ#[a,b]=>#[a,(tI ((k.all l).mp a).fit.len).mp b];exact λ#[a,b]=>#[a,(tI ((k.all l).mp a).fit.len).mpr b]
 have nd:(L.filter (λl=>subB n l h w)).Nodup:=k.nd.filter _;have m1:h∈L.filter (λl=>subB n l h w):=(mem h).mpr #[hh,λi hi=>.inl hi];have m2:w∈L.filter (λl=>subB n l h w):=(mem w).mpr #[hw,λi hi=>.inr hi];unfold nbB;rw[beq_iff_eq];constructor;exact λY l h1 h2=>HK nd Y m1 m2 J l ((mem l).mpr #[h1,h2]);exact λha=>Hi nd m1 m2 J λl Y=>let #[a,b]:=(mem l).mp Y;ha l a b
theorem mS(hr:r.length=n)(Y:Fit n R h)(fw:Fit n R w)(vh:0<aC r h)(vw:aC r w<0):
 Fit n (R++[r]) (dG w (aC r w) h (aC r h))/\da (dG w (aC r w) h (aC r h))=1/\(∀i,nth (dG w (aC r w) h (aC r h)) i≠0↔nth h i≠0\/nth w i≠0)/\
 ∃g:Int,0<g/\∀i,g*nth (dG w (aC r w) h (aC r h)) i=nth w i*aC r h+nth h i*(-(aC r w)):=by
 have J:w.length=h.length:=by rw[fw.len,Y.len]
 obtain⟨g,hg,e⟩:=tU J (aC r w) (aC r h);have e':∀i,g*nth (dG w (aC r w) h (aC r h)) i=nth w i*aC r h+nth h i*(-(aC r w)):=λi=>by rw[e i];grind
 have nz:∀i,nth (dG w (aC r w) h (aC r h)) i≠0↔nth h i≠0\/nth w i≠0:=λi=>by
  have h1:=SS (fw.nn i) (show 0<=aC r h by omega);have h2:=SS (Y.nn i) (show 0<= -(aC r w) by omega);constructor;intro hz;apply S8;intro hn;have q1:nth h i=0:=by by_cases q:nth h i=0;exact q;exact absurd (.inl q) hn
  have q2:nth w i=0:=by by_cases q:nth w i=0;exact q;exact absurd (.inr q) hn
  have:=e' i;rw[q1,q2] at this;have:g*nth (dG w (aC r w) h (aC r h)) i=0:=by rw[this];omega
  rcases SK.mp this with z | z;omega;exact hz z;intro am z;have:=e' i;rw[z] at this;have hs:nth w i*aC r h+nth h i*(-(aC r w))=0:=⋯;rcases am with q | q;have:=S7 (show 0<nth h i by have:=Y.nn i;omega) (show 0 < -(aC r w) by omega);omega;have:=S7 (show 0<nth w i by have:=fw.nn i;omega) vh;omega
 have one:da (dG w (aC r w) h (aC r h))=1:=by obtain⟨i,hi⟩:=Y.nz;have q:nth (dG w (aC r w) h (aC r h)) i≠0:=(nz i).mpr (.inl hi);exact uu _ i q
 refine#[#[by rw[oA J,fw.len],λi=> ?_,λq hq=> ?_, ?_],one,nz,g,hg,e'];have h1:=SS (fw.nn i) (show 0<=aC r h by omega);have h2:=SS (Y.nn i) (show 0<= -(aC r w) by omega);have:=e' i;by_cases z:0<=nth (dG w (aC r w) h (aC r h)) i;exact z;have:=UK hg (show nth (dG w (aC r w) h (aC r h)) i<0 by omega);omega;obtain⟨g',a1,ed⟩:=yW (n:=n) J (aC r w) (aC r h) (nth q);simp only[gu] at ed;rw[bW];have z:g'*a6 n (nth (dG w (aC r w) h (aC r h))) (nth q)=0:=by
  rw[ed,bW n (nth w),bW n (nth h)];rcases xz.mp hq with hq | hq
  rw[fw.st q hq,Y.st q hq];omega;rw[ww.mp hq,<- fT fw.len,<- fT Y.len];grind
 rcases SK.mp z with z | z;omega;exact z;obtain⟨i,hi⟩:=Y.nz;exact#[i,(nz i).mpr (.inl hi)]
theorem Fit.less{R S:List (List Int)}(f:Fit n (R++S) x):Fit n R x:=#[f.len,f.nn,λr hr=>f.st r (Td _ hr),f.nz]
theorem Fit.more(f:Fit n R x)(h:a6 n (nth r) (nth x)=0):Fit n (R++[r]) x:=#[f.len,f.nn,λq hq=>by rcases xz.mp hq with z | z;exact f.st q z;rw[ww.mp z];exact h,f.nz]
theorem cR.same(a:cR n R x)(b:cR n R y)(h:Sub y x):x=y:=a.eq b.fit b.one h
theorem xZ(hr:r.length=n)(J:cR n R h)(ll:cR n R l)(lw:cR n R w)(Y:cR n (R++[r]) x)(vh:0<aC r h)(vl:0<aC r l)(vw:aC r w<0)(sh:Sub h x)(sl:Sub l x)(sw:Sub w x):l=h:=by
 obtain⟨f1,g1,z1,a,ha,e1⟩:=mS hr J.fit lw.fit vh vw;obtain⟨f2,g2,z2,b,hb,e2⟩:=mS hr ll.fit lw.fit vl vw;have x1:=Y.eq f1 g1 λi hi=>((z1 i).mp hi).elim (sh i) (sw i);have x2:=Y.eq f2 g2 λi hi=>((z2 i).mp hi).elim (sl i) (sw i);rw[<- x1] at e1;rw[<- x2] at e2;have key:∀i,b*(nth h i*(-(aC r w)))+(b*aC r h-a*aC r l)*nth w i=a*(nth l i*(-(aC r w))):=λi=>by
  have q1:=e1 i;have q2:=e2 i;have:b*(a*nth x i)=a*(b*nth x i):=by grind
  rw[q1,q2] at this;grind
 have hu:0 < -(aC r w):=⋯;by_cases hm:0<=b*aC r h-a*aC r l;refine(cR.same ll J λi hi=> ?_);intro z;have q:=key i;rw[z] at q;have h1:=S7 hb (S7 (show 0<nth h i by have:=J.fit.nn i;omega) hu);have h2:=SS hm (lw.fit.nn i);have h3:a*(0*(-(aC r w)))=0:=by simp
 omega;refine(cR.same J ll λi hi=> ?_).symm;intro z;have q:=key i;rw[z] at q;have h1:=S7 ha (S7 (show 0<nth l i by have:=ll.fit.nn i;omega) hu);have h2:=Int.mul_nonpos_of_nonpos_of_nonneg (show b*aC r h-a*aC r l<=0 by omega) (lw.fit.nn i);have h3:b*(0*(-(aC r w)))=0:=by simp
 omega
theorem zd(J:l.length=n):aC (r.map (- ·)) l= -(aC r l):=by rw[fT J,fT J,lN]
theorem cR.neg(l:cR n (R++[r]) x):cR n (R++[r.map (- ·)]) x:=by
 have J:∀y,Fit n (R++[r]) y↔Fit n (R++[r.map (- ·)]) y:=λy=>by constructor;refine λf=>Fit.more f.less ?_;rw[lN,f.st r (by simp)];rfl;refine λf=>Fit.more f.less ?_;have:=f.st (r.map (- ·)) (by simp);rw[lN] at this;omega
 exact#[(J x).mp l.fit,l.one,λy Y=>l.min y ((J y).mpr Y)]
theorem Dx(hr:r.length=n)(J:cR n R h)(ll:cR n R l)(lw:cR n R w)(Y:cR n (R++[r]) x)(vh:0<aC r h)(vl:aC r l<0)(vw:aC r w<0)(sh:Sub h x)(sl:Sub l x)(sw:Sub w x):l=w:=
 xZ (r:=r.map (- ·)) (h:=w) (l:=l) (w:=h) (by simpa using hr) lw ll J Y.neg (by rw[zd lw.fit.len];omega) (by rw[zd ll.fit.len];omega) (by rw[zd J.fit.len];omega) sw sl sh
theorem vP:x∈eS n L r↔(x∈L/\aC r x=0)\/∃h w,h∈L/\w∈L/\0<aC r h/\aC r w<0/\nbB n L h w=ss/\x=dG w (aC r w) h (aC r h):=by unfold eS;rw[xz];constructor;rintro (h | h);rw[EQ,decide_eq_true_eq] at h;exact .inl h;obtain⟨h',q1,q2⟩:=VT.mp h;obtain⟨w,J,rfl⟩:=sB.mp q2;rw[EQ,decide_eq_true_eq] at q1;rw[EQ,EQ,decide_eq_true_eq] at J;exact .inr #[h',w,q1.1,J.1.1,q1.2,J.1.2,J.2,rfl];rintro (h | ⟨h',w,q1,q2,J,Y,q5,rfl⟩);exact .inl (by rw[EQ,decide_eq_true_eq];exact h);refine .inr (VT.mpr #[h',by rw[EQ,decide_eq_true_eq];exact#[q1,J],sB.mpr #[w, ?_,rfl]]);rw[EQ,EQ,decide_eq_true_eq];exact#[#[q2,Y],q5]
theorem DJ(hr:r.length=n)(k:jX n R L)(x:List Int):x∈eS n L r↔cR n (R++[r]) x:=by
 rw[vP];constructor;rintro (⟨hx,v⟩ | ⟨h,w,hh,hw,J,vw,nb,rfl⟩);have l:=(k.all x).mp hx;rw[k.dot hx] at v;exact#[l.fit.more v,l.one,λy fy=>l.min y fy.less];have lh:=(k.all h).mp hh;have lw:=(k.all w).mp hw;have ac:h≠w:=λe=>by rw[e] at J;omega
 obtain⟨f1,g1,z1,_⟩:=mS hr lh.fit lw.fit J vw;refine#[f1,g1,λy fy sy=> ?_];have am:=(Az k hh hw ac).mp nb;rcases Cb r fy.less (fy.st r (by simp)) with⟨l,ll,sl,v⟩ | ⟨h',w',bw,bz,a3,a4,a5,bb⟩
 have Y:=(k.all l).mpr ll;have:=am l Y λi hi=>(z1 i).mp (sy i (sl i hi));rw[<- k.dot Y] at v;rcases this with rfl | rfl <;> omega
 have bd:=(k.all h').mpr bw;have be:=(k.all w').mpr bz;rw[<- k.dot bd] at a5;rw[<- k.dot be] at bb;have e1:h'=h:=by
  rcases am h' bd λi hi=>(z1 i).mp (sy i (a3 i hi)) with e | e
  exact e;rw[e] at a5;omega
 have e2:w'=w:=by
  rcases am w' be λi hi=>(z1 i).mp (sy i (a4 i hi)) with e | e
  rw[e] at bb;omega;exact e
 subst e1 e2;exact λi hi=>((z1 i).mp hi).elim (a3 i) (a4 i);intro lx;by_cases hz:∃l,cR n R l/\Sub l x/\a6 n (nth r) (nth l)=0;obtain⟨l,ll,sl,v⟩:=hz;have e:=lx.eq (ll.fit.more v) ll.one sl;subst e;have Y:=(k.all x).mpr ll;exact .inl #[Y,by rw[k.dot Y];exact v];rcases Cb r lx.fit.less (lx.fit.st r (by simp)) with h0 | ⟨h,w,lh,lw,sh,sw,J,vw⟩
 exact absurd h0 hz;have hh:=(k.all h).mpr lh;have hw:=(k.all w).mpr lw;rw[<- k.dot hh] at J;rw[<- k.dot hw] at vw;have ac:h≠w:=λe=>by rw[e] at J;omega
 obtain⟨f1,g1,z1,_⟩:=mS hr lh.fit lw.fit J vw;refine .inr #[h,w,hh,hw,J,vw,(Az k hh hw ac).mpr λl Y sl=> ?_,lx.eq f1 g1 λi hi=>((z1 i).mp hi).elim (sh i) (sw i)];have ll:=(k.all l).mp Y;have an:Sub l x:=λi hi=>(sl i hi).elim (sh i) (sw i);by_cases v0:aC r l=0;exact absurd #[l,ll,an,by rw[<- k.dot Y];exact v0] hz;by_cases vp:0<aC r l;exact .inl (xZ hr lh ll lw lx J vp vw sh an sw);exact .inr (Dx hr lh ll lw lx J ⋯ vw sh an sw)
end
section
variable {n : Nat} {R L : List (List Int)} {r : List Int}
theorem GS (hr:r.length=n) (k:jX n R L) {h w h' J:List Int} (hh:h∈L) (hw:w∈L) (vh:0<aC r h) (vw:aC r w<0) (nb:nbB n L h w=ss)
 (Y:h'∈L) (ab:J∈L) (ac:0<aC r h') (am:aC r J<0) (e:dG w (aC r w) h (aC r h)=dG J (aC r J) h' (aC r h')):h=h'/\w=J:=by
 have ap:h≠w:=λe=>by rw[e] at vh;omega
 obtain⟨_,_,z1,_⟩:=mS hr ((k.all h).mp hh).fit ((k.all w).mp hw).fit vh vw;obtain⟨_,_,z2,_⟩:=mS hr ((k.all h').mp Y).fit ((k.all J).mp ab).fit ac am;rw[e] at z1;have an:=(Az k hh hw ap).mp nb;constructor;rcases an h' Y λi hi=>(z1 i).mp ((z2 i).mpr (.inl hi)) with q | q
 exact q.symm;rw[q] at ac;omega;rcases an J ab λi hi=>(z1 i).mp ((z2 i).mpr (.inr hi)) with q | q
 rw[q] at am;omega;exact q.symm
theorem FF(hr:r.length=n)(k:jX n R L):(eS n L r).Nodup:=by
 unfold eS;rw[Ue];refine#[k.nd.filter _, ?_,λx hx y hy e=> ?_];unfold Xl;rw[List.pairwise_flatMap];constructor;intro h J;rw[EQ,decide_eq_true_eq] at J;rw[Ud];refine TQ (λ{w w'} Y ab ac=> ?_) ((k.nd.filter _).filter _);rw[EQ,EQ,decide_eq_true_eq] at Y ab;exact λe=>ac (GS hr k J.1 Y.1.1 J.2 Y.1.2 Y.2 J.1 ab.1.1 J.2 ab.1.2 e).2;refine TQ (λ{h h'} J hh' ac x hx y hy=> ?_) (k.nd.filter _);rw[EQ,decide_eq_true_eq] at J hh';obtain⟨w,Y,rfl⟩:=sB.mp hx;obtain⟨w',ab,rfl⟩:=sB.mp hy;rw[EQ,EQ,decide_eq_true_eq] at Y ab;exact λe=>ac (GS hr k J.1 Y.1.1 J.2 Y.1.2 Y.2 hh'.1 ab.1.1 hh'.2 ab.1.2 e).1;subst e;rw[EQ,decide_eq_true_eq] at hx;obtain⟨h,J,hy⟩:=VT.mp hy;obtain⟨w,Y,e⟩:=sB.mp hy;rw[EQ,decide_eq_true_eq] at J;rw[EQ,EQ,decide_eq_true_eq] at Y;have ac:h≠w:=λe=>by rw[e] at J;omega
 obtain⟨_,_,z1,_⟩:=mS hr ((k.all h).mp J.1).fit ((k.all w).mp Y.1.1).fit J.2 Y.1.2;rw[e] at z1;rcases(Az k J.1 Y.1.1 ac).mp Y.2 x hx.1 λi hi=>(z1 i).mp hi with q | q
 rw[q] at hx;omega;rw[q] at hx;omega
theorem jX.step(hr:r.length=n)(k:jX n R L):jX n (R++[r]) (eS n L r):=#[DJ hr k,FF hr k]
theorem BY(ha:a<n):da (d8 n a)=1:=by have:=qE (d8 n a) a;rw[dt ha,if_pos rfl] at this;have:(da (d8 n a):Int).natAbs ∣ (1:Int).natAbs:=U4.mpr this;simpa using this
theorem zB(ha:a<n):Fit n [] (d8 n a):=by refine#[by unfold d8;simp,λi=> ?_,by simp,#[a, ?_]];rw[dt ha];split <;> omega;rw[dt ha,if_pos rfl];decide
theorem Ke(ha:a<n):cR n [] (d8 n a):=by refine#[zB ha,BY ha,λy Y sy=>λi hi=> ?_];rw[dt ha] at hi;by_cases e:i=a;subst e;obtain⟨j,J⟩:=Y.nz;have:=sy j J;rw[dt ha] at this;by_cases e:j=i;rw[<- e];exact J;rw[if_neg e] at this;exact absurd rfl this;rw[if_neg e] at hi;exact absurd rfl hi
theorem HB(n:Nat):jX n [] (dh n):=by
 refine#[λx=>#[λhx=> ?_,λl=> ?_], ?_];obtain⟨a,ha,rfl⟩:=sB.mp hx;exact Ke (SA.mp ha);obtain⟨i,hi⟩:=l.fit.nz;have lt:=l.fit.lt hi;have:=l.eq (zB lt) (BY lt) λj J=>by rw[dt lt] at J;by_cases e:j=i;rw[e];exact hi;rw[if_neg e] at J;exact absurd rfl J
 rw[this];exact sB.mpr #[i,SA.mpr lt,rfl];unfold dh Xl;rw[Ud];refine TQ (λ{a b} ha hb hne e=>hne ?_) List.nodup_range;have h1:=dt (SA.mp ha) a;rw[e,dt (SA.mp hb),if_pos rfl] at h1;by_cases q:a=b;exact q;rw[if_neg q] at h1;cases h1
theorem BM:∀{rows:List (List Int)},(∀r∈rows,r.length=n)->∀{R L:List (List Int)},jX n R L->jX n (R++rows) (rows.foldl (eS n) L)
 | [],_,R,L,k=>by simpa using k
 | row::rows,h,R,L,k=>by have:=BM (rows:=rows) (λr hr=>h r (wf _ hr)) (k.step (h row wp));simpa using this
def i8(rows:List (List Int))(n:Nat):List (List Int):=rows.foldl (eS n) (dh n)
theorem mV(h:∀r∈rows,r.length=n):jX n rows (i8 rows n):=by have:=BM h (HB n);rw[Cs] at this;exact this
end
section
variable {n : Nat} {R L : List (List Int)}
theorem Fn{c:List Int}(h:∀l,cR n R l->0<=a6 n (nth c) (nth l))(J:Fit n R y):0<=a6 n (nth c) (nth y):=by by_cases Y:0<=a6 n (nth c) (nth y);exact Y;obtain⟨l,h1,_,h3⟩:=AD c J ⋯;have:=h l h1;omega
theorem between{α:Type}(a b:α->Int):∀(A B:List α),(∀x∈A,0<b x)->(∀x∈B,0<b x)->(∀x∈A,∀y∈B,a x*b y<=a y*b x)->
 ∃p q:Int,0<q/\(∀x∈A,a x*q<=p*b x)/\∀y∈B,p*b y<=a y*q:=by
 have J:∀B:List α,B≠[]->(∀x∈B,0<b x)->∃m∈B,∀y∈B,a m*b y<=a y*b m:=by
  intro B;induction B with
  | nil=>intro h;exact absurd rfl h
  | cons x B ih=>
   intro _ hb;by_cases Y:B=[];subst Y;exact#[x,by simp,λy hy=>by rw[ww.mp hy];omega];obtain⟨m,hm,hl⟩:=ih Y λy hy=>hb y (wf _ hy);have b1:=hb x wp;have b2:=hb m (wf _ hm);by_cases hc:a m*b x<=a x*b m;refine#[m,wf _ hm,λy hy=> ?_];rcases wE.mp hy with rfl | hy
   exact hc;exact hl y hy;refine#[x,wp,λy hy=> ?_];rcases wE.mp hy with rfl | hy
   omega;exact rT b1 b2 (hb y (wf _ hy)) ⋯ (hl y hy)
 intro A B hA Y ab;by_cases ac:B=[];subst ac;have:∃p:Int,∀x∈A,a x<=p*b x:=by
  clear ab;induction A with
  | nil=>exact#[0,by simp]
  | cons x A ih=>
   obtain⟨p,hp⟩:=ih (λy hy=>hA y (wf _ hy));refine#[max p (max (a x) 0),λy hy=> ?_];have b1:=hA y hy;rcases wE.mp hy with rfl | hy
   have:max p (max (a y) 0)*1<=max p (max (a y) 0)*b y:=Int.mul_le_mul_of_nonneg_left ⋯ ⋯;omega;have h1:=hp y hy;have:p*b y<=max p (max (a x) 0)*b y:=Up ⋯ ⋯;omega
 obtain⟨p,hp⟩:=this;exact#[p,1,∅,λx hx=>by have:=hp x hx;omega,by simp];obtain⟨m,hm,hl⟩:=J B ac Y;exact#[a m,b m,Y m hm,λx hx=>ab x hx m hm,hl]
theorem Pm:∀{rows:List (List Int)},(∀r∈rows,r.length=n)->∀{c:List Int},c.length=n->(∀y,Fit n rows y->0<=a6 n (nth c) (nth y))->
 ∃k:Int,0<k/\∃T:List Int,T.length=rows.length/\∀i,i<n->bT T rows i<=k*nth c i:=by
 intro rows;suffices H:∀(m:Nat) (rows:List (List Int)),rows.length=m->(∀r∈rows,r.length=n)->∀{c:List Int},c.length=n->(∀y,Fit n rows y->0<=a6 n (nth c) (nth y))->
  ∃k:Int,0<k/\∃T:List Int,T.length=rows.length/\∀i,i<n->bT T rows i<=k*nth c i from λh c hc hy=>H rows.length rows rfl h hc hy
 intro m;induction m with
 | zero=>
  intro rows hm _ c hc hy;have e:rows=[]:=List.length_eq_zero_iff.mp hm;subst e;refine#[1,∅,[],rfl,λi hi=> ?_];have:=hy _ (zB hi);unfold a6 at this;rw[g5 hi λj _ hj=>by rw[dt hi,if_neg hj];omega,dt hi,if_pos rfl] at this;rw[show bT [] [] i=0 from rfl];omega
 | succ m ih=>
  intro rows hm hl c hc hy;obtain⟨R,r,rfl⟩:∃R r,rows=R++[r]:=by rcases List.eq_nil_or_concat rows with h | ⟨R,r,h⟩;subst h;simp at hm;exact#[R,r,by rw[h];simp]
  have Y:∀q∈R,q.length=n:=λq hq=>hl q (Td _ hq);have hr:r.length=n:=hl r (by simp);have k:=mV Y;obtain⟨p,q,hq,h1,h2⟩:=between (α:=Bool×List Int) (λx=>if x.1 then a6 n (nth c) (nth x.2) else -(a6 n (nth c) (nth x.2))) (λx=>if x.1 then a6 n (nth r) (nth x.2) else -(a6 n (nth r) (nth x.2)))
   (((i8 R n).filter λl=>decide (a6 n (nth r) (nth l)<0)).map λl=>(xL,l)) (((i8 R n).filter λl=>decide (0<a6 n (nth r) (nth l))).map λl=>(ss,l))
   (λx hx=>by obtain⟨l,hl',rfl⟩:=sB.mp hx;rw[EQ,decide_eq_true_eq] at hl';simp;exact hl'.2)
   (λx hx=>by obtain⟨l,hl',rfl⟩:=sB.mp hx;rw[EQ,decide_eq_true_eq] at hl';simp;exact hl'.2)
   (λx hx y ap=>by
    obtain⟨w,hw,rfl⟩:=sB.mp hx;obtain⟨h,hh,rfl⟩:=sB.mp ap;rw[EQ,decide_eq_true_eq] at hw hh;have lw:=(k.all w).mp hw.1;have lh:=(k.all h).mp hh.1;have vh:0<aC r h:=by rw[k.dot hh.1];exact hh.2
    have vw:aC r w<0:=by rw[k.dot hw.1];exact hw.2
    obtain⟨f1,_,_,g,hg,e⟩:=mS hr lh.fit lw.fit vh vw;have as:=hy _ f1;have ed:g*a6 n (nth c) (nth (dG w (aC r w) h (aC r h)))=aC r h*a6 n (nth c) (nth w)+(-(aC r w))*a6 n (nth c) (nth h):=by rw[bW,mF (g:=g) (c:=nth (dG w (aC r w) h (aC r h))) (a:=nth w) (b:=nth h) (u:=aC r h) (v:= -(aC r w)) (λi _=>by rw[e i];grind),bW n (nth w),bW n (nth h)]
    have:=SS (show 0<=g by omega) as;conv at ed=>rhs;rw[k.dot hh.1,k.dot hw.1]
    simp only[T5,if_false,if_true];have q1: -(a6 n (nth c) (nth w))*a6 n (nth r) (nth h)= -(a6 n (nth r) (nth h)*a6 n (nth c) (nth w)):=by grind
    have q2:a6 n (nth c) (nth h) * -(a6 n (nth r) (nth w))= -(a6 n (nth r) (nth w))*a6 n (nth c) (nth h):=by grind
    omega)
  have J:c.length=r.length:=by rw[hc,hr]
  obtain⟨k',a1,T,hT,a2⟩:=ih R (by simpa using hm) Y (c:=ib c p r q) (by rw[oz J,hc]) (λy fy=>by
   refine Fn (λl ll=> ?_) fy;have an:=(k.all l).mpr ll;have ed:a6 n (nth (ib c p r q)) (nth l)=q*a6 n (nth c) (nth l)-p*a6 n (nth r) (nth l):=by
    have:=mF (n:=n) (g:=1) (c:=nth (ib c p r q)) (a:=nth c) (b:=nth r) (u:=q) (v:= -p) (λi _=>by rw[tH J];grind) (nth l);have e2: -p*a6 n (nth r) (nth l)= -(p*a6 n (nth r) (nth l)):=by grind
    omega
   rw[ed];by_cases v0:a6 n (nth r) (nth l)=0;have:=SS (show 0<=q by omega) (hy l (ll.fit.more v0));rw[v0];omega;by_cases vp:0<a6 n (nth r) (nth l);have:=h2 (ss,l) (sB.mpr #[l,by rw[EQ,decide_eq_true_eq];exact#[an,vp],rfl]);simp only[if_true] at this;have e2:a6 n (nth c) (nth l)*q=q*a6 n (nth c) (nth l):=S1 _ _;omega;have:=h1 (xL,l) (sB.mpr #[l,by rw[EQ,decide_eq_true_eq];exact#[an,⋯],rfl]);simp only[T5,if_false] at this;have e2: -(a6 n (nth c) (nth l))*q= -(q*a6 n (nth c) (nth l)):=by grind
   have e3:p * -(a6 n (nth r) (nth l))= -(p*a6 n (nth r) (nth l)):=by grind
   omega)
  refine#[k'*q,S7 a1 hq,T++[k'*p],by simp[hT],λi hi=> ?_];have:=a2 i hi;rw[tH J] at this;rw[pC hT];have e1:k'*(nth c i*q-nth r i*p)=k'*q*nth c i-k'*p*nth r i:=by grind
  omega
end
theorem ze:∀(N:Nat) (l:List Nat),l.Nodup->(∀x∈l,x<N)->l.length<=N
 | 0,l,_,h=>by
  cases l with
  | nil=>exact wS _
  | cons a l=>exact absurd (h a wp) ⋯
 | N+1,l,nd,h=>by
  by_cases hm:N∈l;have:=ze N (l.erase N) (nd.erase N) (λx hx=>by have h1:=(nd.mem_erase_iff.mp hx);have:=h x h1.2;have:=h1.1;omega)
  rw[VM hm] at this;omega;have:=ze N l nd (λx hx=>by have h1:=h x hx;have:x≠N:=λe=>hm (e▸hx);omega)
  omega
def at0(x:List Int)(i:Nat):Bool:=decide (nth x i≠0)
def cl3(a b c:Bool):Nat:=match a,b,c with
 | false,ss,_=>1
 | false,xL,ss=>2
 | true,xL,ss=>2
 | _,_,_=>0
theorem Dm(a b c:Bool):cl3 a b c<=2:=by revert a b c;decide
theorem Ij:∀a b c J b' Y:Bool,cl3 a b c=cl3 J b' Y->((a=ss->J=ss)/\(b=ss->b'=ss)/\(c=ss->Y=ss))\/((J=ss->a=ss)/\(b'=ss->b=ss)/\(Y=ss->c=ss)):=∅
def A8(x:List Int):Nat:=3*((at0 x 3).toNat+2*(at0 x 4).toNat+4*(at0 x 5).toNat+8*(at0 x 6).toNat)+cl3 (at0 x 0) (at0 x 1) (at0 x 2)
theorem toNat_le(b:Bool):b.toNat<=1:=by cases b <;> decide
theorem toNat_inj{a b:Bool}(h:a.toNat=b.toNat):a=b:=by revert a b;decide
theorem M7(x:List Int):A8 x<48:=by have:=Dm (at0 x 0) (at0 x 1) (at0 x 2);have:=toNat_le (at0 x 3);have:=toNat_le (at0 x 4);have:=toNat_le (at0 x 5);have:=toNat_le (at0 x 6);unfold A8;omega
theorem Jf(hx:x.length<=7)(h:∀i,i<7->at0 x i=ss->at0 y i=ss):Sub x y:=λi hi=>by by_cases J:i<7;exact of_decide_eq_true (h i J (decide_eq_true hi));exact absurd (dX ⋯) hi
theorem Nu(hn:n<=7)(lx:cR n R x)(ly:cR n R y)(h:A8 x=A8 y):x=y:=by
 have a1:=Dm (at0 x 0) (at0 x 1) (at0 x 2);have a2:=Dm (at0 y 0) (at0 y 1) (at0 y 2);have b3:=toNat_le (at0 x 3);have c3:=toNat_le (at0 y 3);have b4:=toNat_le (at0 x 4);have c4:=toNat_le (at0 y 4);have b5:=toNat_le (at0 x 5);have c5:=toNat_le (at0 y 5);have b6:=toNat_le (at0 x 6);have c6:=toNat_le (at0 y 6);unfold A8 at h;have e3:at0 x 3=at0 y 3:=toNat_inj ⋯;have e4:at0 x 4=at0 y 4:=toNat_inj ⋯;have e5:at0 x 5=at0 y 5:=toNat_inj ⋯;have e6:at0 x 6=at0 y 6:=toNat_inj ⋯;have e:cl3 (at0 x 0) (at0 x 1) (at0 x 2)=cl3 (at0 y 0) (at0 y 1) (at0 y 2):=⋯;have Y:x.length<=7:=by rw[lx.fit.len];exact hn
 have ab:y.length<=7:=by rw[ly.fit.len];exact hn
 rcases Ij _ _ _ _ _ _ e with⟨q0,q1,q2⟩ | ⟨q0,q1,q2⟩;refine(ly.same lx (Jf Y λi hi J=> ?_)).symm;have:i=0\/i=1\/i=2\/i=3\/i=4\/i=5\/i=6:=⋯;rcases this with rfl | rfl | rfl | rfl | rfl | rfl | rfl;exact q0 J;exact q1 J;exact q2 J;rw[<- e3];exact J;rw[<- e4];exact J;rw[<- e5];exact J;rw[<- e6];exact J;refine lx.same ly (Jf ab λi hi J=> ?_);have:i=0\/i=1\/i=2\/i=3\/i=4\/i=5\/i=6:=⋯;rcases this with rfl | rfl | rfl | rfl | rfl | rfl | rfl;exact q0 J;exact q1 J;exact q2 J;rw[e3];exact J;rw[e4];exact J;rw[e5];exact J;rw[e6];exact J
theorem Cz{α β:Type}{f:α->β}:∀{l:List α},l.Nodup->(∀x∈l,∀y∈l,f x=f y->x=y)->(l.map f).Nodup
 | [],_,_=>Xo
 | a::l,nd,h=>by rw[x0,Tv];rw[Tv] at nd;refine#[λhm=> ?_,Cz nd.2 λx hx y hy=>h x (wf _ hx) y (wf _ hy)];obtain⟨b,hb,e⟩:=sB.mp hm;exact nd.1 (h b (wf _ hb) a wp e▸hb)
theorem jX.few{R L:List (List Int)}(k:jX n R L)(hn:n<=7):L.length<64:=by
 have:=ze 48 (L.map A8) (Cz k.nd λx hx y hy e=>Nu hn ((k.all x).mp hx) ((k.all y).mp hy) e) λc hc=>by obtain⟨x,_,rfl⟩:=sB.mp hc;exact M7 x
 rw[t3] at this;omega
theorem Mg{L:List (List Int)}(hr:SzL c r)(Y:r.length<=1000)(J:cP b L):cP (2*b+c+12) (eS n L r):=by
 intro x hx;rcases vP.mp hx with⟨h,_⟩ | ⟨h,w,hh,hw,_,_,_,rfl⟩
 exact(J x h).mono ⋯;exact(SzL.off (J w hw) (J h hh) (nG hr (J w hw) Y) (nG hr (J h hh) Y)).mono ⋯
def qX(c:Nat):Nat->Nat->Nat
 | 0,b=>b
 | m+1,b=>qX c m (2*b+c+12)
theorem yN{n c:Nat}:∀(rows:List (List Int)) (b:Nat) (L:List (List Int)),(∀r∈rows,SzL c r/\r.length<=1000)->cP b L->cP (qX c rows.length b) (rows.foldl (eS n) L)
 | [],b,L,_,h=>h
 | r::rows,b,L,hr,h=>yN rows _ _ (λq hq=>hr q (wf _ hq)) (Mg (hr r wp).1 (hr r wp).2 h)
theorem EH(c:Nat):∀(m b:Nat),b<=qX c m b
 | 0,_=>wS _
 | m+1,b=>SE ⋯ (EH c m (2*b+c+12))
theorem oU(c:Nat):∀(m J b:Nat),m<=J->qX c m b<=qX c J b
 | 0,J,b,_=>EH c J b
 | m+1,0,b,h=>absurd h ⋯
 | m+1,J+1,b,h=>oU c m J _ ⋯
def dj(x:List Int):Nat:=x.foldl (λb y=>b*2+if 0<y then 1 else 0) 0
theorem G1:∀(x:List Int) (b i:Nat),(x.foldl (λb y=>b*2+if 0<y then 1 else 0) b).testBit i=if i<x.length then decide (0<nth x (x.length-1-i)) else b.testBit (i-x.length)
 | [],b,i=>by simp
 | y::x,b,i=>by
  rw[TL,G1 x];have Y:(if 0<y then 1 else 0:Nat)<=1:=by split <;> omega
  have J:decide ((if 0<y then 1 else 0:Nat)=1)=decide (0<y):=by by_cases hy:0<y;rw[if_pos hy,decide_eq_true hy];rfl;rw[if_neg hy,decide_eq_false hy];rfl
  generalize (if 0<y then 1 else 0:Nat)=c at Y J;by_cases h:i<x.length;rw[if_pos h,if_pos (by simp;omega)];congr 2;show nth x (x.length-1-i)=nth (y::x) (x.length+1-1-i);rw[show x.length+1-1-i=(x.length-1-i)+1 by omega];rfl;rw[if_neg h];by_cases h2:i=x.length;subst h2;rw[if_pos (by simp),WD,Nat.testBit_zero];show _=decide (0<nth (y::x) (x.length+1-1-x.length));rw[show x.length+1-1-x.length=0 by omega];show _=decide (0<y);rw[<- J];congr 1;rw[eq_iff_iff];omega;rw[if_neg (by simp;omega),AC,show i-x.length=(i-(x.length+1))+1 by omega,Nat.testBit_succ];congr 1;omega
theorem p7{i:Nat}:(dj x).testBit i=decide (i<x.length/\0<nth x (x.length-1-i)):=by unfold dj;rw[G1];by_cases h:i<x.length;rw[if_pos h];by_cases h2:0<nth x (x.length-1-i);rw[decide_eq_true h2,decide_eq_true #[h,h2]];rw[decide_eq_false h2,decide_eq_false (λz=>h2 z.2)];rw[if_neg h,decide_eq_false (λz=>h z.1),Nat.zero_testBit]
theorem IJ:a|||b=b↔∀i,a.testBit i=ss->b.testBit i=true:=by
 constructor;intro h i hi;rw[<- h,Vl,hi,XD];intro h;refine Nat.eq_of_testBit_eq λi=> ?_;rw[Vl];cases ha:a.testBit i with
 | true=>rw[h i ha];rfl
 | false=>rw[Bool.false_or]
theorem bits_sub(J:l.length=n)(Y:h.length=n)(hw:w.length=n)(nl:∀i,0<=nth l i)(nh:∀i,0<=nth h i)(nw:∀i,0<=nth w i):decide (dj l|||(dj h|||dj w)=dj h|||dj w)=subB n l h w:=by
 rw[TR,decide_eq_true_eq,IJ,tI J];constructor;intro H i hi;have lt:i<n:=by by_cases e:i<n;exact e;exact absurd (dX ⋯) hi
 have:=H (n-1-i) (by rw[p7];refine decide_eq_true #[⋯, ?_];rw[J,show n-1-(n-1-i)=i by omega];have:=nl i;omega)
 rw[Vl,Vb,p7,p7,decide_eq_true_eq,decide_eq_true_eq,Y,hw,show n-1-(n-1-i)=i by omega] at this;rcases this with z | z
 exact .inl ⋯;exact .inr ⋯;intro H i hi;rw[p7,decide_eq_true_eq,J] at hi;rw[Vl,Vb,p7,p7,decide_eq_true_eq,decide_eq_true_eq,Y,hw];rcases H (n-1-i) ⋯ with z | z
 have:=nh (n-1-i);exact .inl #[hi.1,⋯];have:=nw (n-1-i);exact .inr #[hi.1,⋯]
structure Tight(left y:List Int)(a:Nat):Prop where
 pos:0<nth y a
 min:∀i,0<nth y i->nth left a*nth y i<=nth left i*nth y a
def fR(left y:List Int)(a:Nat):List Int:=(left.zip y).map λp=>p.1*nth y a-p.2*nth left a
def i3(left y:List Int)(bot:Int)(a:Nat):List Int:=low (fR left y a++[bot*nth y a])
abbrev Sh:Type:=(Int×Int)×List Int
def psS(i:Nat)(T:List Sh):Int×Int:=T.foldl (λq s=>(q.1*s.1.2,s.1.2*q.2+s.1.1*q.1*nth s.2 i)) (1,0)
theorem Lq{i:Nat}{s:Sh}:psS i (T++[s])=((psS i T).1*s.1.2,s.1.2*(psS i T).2+s.1.1*(psS i T).1*nth s.2 i):=by unfold psS;rw[Uv];rfl
theorem uJ{left y:List Int}(J:left.length=n)(hy:y.length=n)(i:Nat):nth (fR left y a) i=nth left i*nth y a-nth y i*nth left a:=by
 have ll:(fR left y a).length=n:=by unfold fR;rw[t3,SJ];omega
 by_cases h:i<n;unfold fR nth;simp[re,ut (show i<left.length by omega),ut (show i<y.length by omega),ut (show i<(left.zip y).length by rw[SJ];omega)];rw[dX (r:=fR left y a) (i:=i) ⋯,dX (r:=left) (i:=i) ⋯,dX (r:=y) (i:=i) ⋯,Tt,Tt];rfl
theorem DH{left y:List Int}(J:left.length=n)(hy:y.length=n):(fR left y a).length=n:=by unfold fR;rw[t3,SJ];omega
theorem wH{i:Nat}(h:i<x.length):nth (x++y) i=nth x i:=by unfold nth;rw[re,re,AT h]
theorem vz{b:Int}:nth (x++[b]) x.length=b:=by unfold nth;rw[re];simp
theorem Li{n i:Nat}(h:i<n):nth (x.take n) i=nth x i:=by unfold nth;rw[re,re,List.getElem?_take,if_pos h]
structure Red(n:Nat)(left y:List Int)(bot:Int)(a:Nat)(g:Int)(l':List Int)(b':Int):Prop where
 gp:0<g
 len:l'.length=n
 lv:∀i,g*nth l' i=nth left i*nth y a-nth y i*nth left a
 bv:g*b'=bot*nth y a
theorem O8{left y:List Int}(J:left.length=n)(hy:y.length=n):Red n left y bot a (wX (fR left y a++[bot*nth y a])) ((i3 left y bot a).take n) (nth (i3 left y bot a) n):=by
 have rl:=DH (a:=a) J hy;have Y:(i3 left y bot a).length=n+1:=by unfold i3;rw[low_length];simp[rl]
 refine#[oJ _,by rw[TY,Y];omega,λi=> ?_, ?_];by_cases h:i<n;rw[Li h];unfold i3;rw[<- nP,wH ⋯,uJ J hy];rw[dX (r:=(i3 left y bot a).take n) (by rw[TY];omega),<- uJ (a:=a) J hy,dX (r:=fR left y a) ⋯];omega
 ·unfold i3;rw[<- nP];conv=>lhs;rw[<- rl]
  exact vz
structure Shr(n:Nat)(R:List (List Int))(fit:List Int)(c:Nat)(ps:List (List Int))(T:List Sh)(left:List Int)(bot:Int):Prop where
 len:left.length=n
 nn:∀i,0<=nth left i
 bp:0<bot
 st:∀r∈R,a6 n (nth r) (nth left)=0
 sub:Sub left fit
 cn:T.length+cnt left<=cnt fit
 good:∀s∈T,0<s.1.1/\0<s.1.2/\SF s.1.1 s.1.2=1/\Sub s.2 fit
 sl:(T.map (·.2)).Sublist ps
 eq:∀i,bot*(psS i T).2+(psS i T).1*nth left i=(psS i T).1*bot*nth fit i
 no:∀y∈ps,¬Sub y left
 sz:SzL (c+8001*T.length) left
 szb:Sz (c+8001*T.length) bot
 szt:∀s∈T,Sz (c+8001*T.length) s.1.1/\Sz (c+8001*T.length) s.1.2
theorem Kx(J:fit.length=n)(hn:∀i,0<=nth fit i)(hs:∀r∈R,a6 n (nth r) (nth fit)=0)(hz:SzL c fit)(hc:1<=c):Shr n R fit c [] [] fit 1:=
 #[J,hn,∅,hs,Sub.refl _,by simp,by simp,by simp,λi=>by simp[psS],by simp,λx hx=>(hz x hx).mono (by simp),by unfold Sz;have:2^1<=2^(c+8001*([]:List Sh).length):=S4 ∅ (by simp;omega);omega,by simp]
theorem LX{left y:List Int}(h:Shr n R fit c ps T left bot)(hy:¬Sub y left):Shr n R fit c (ps++[y]) T left bot:=
 #[h.len,h.nn,h.bp,h.st,h.sub,h.cn,h.good,h.sl.trans (List.sublist_append_left _ _),h.eq,λz hz=>by rcases xz.mp hz with q | q;exact h.no z q;rw[ww.mp q];exact hy,h.sz,h.szb,h.szt]
theorem xg{m:Nat}{g x z:Int}(J:0<g)(e:g*x=z)(hz:Sz m z):Sz m x:=by
 unfold Sz at *;have:x.natAbs<=z.natAbs:=by rw[<- e,Vq];exact Wd _ ⋯
 omega
theorem HV{g x:Int}(J:0<g)(h:0<g*x):0<x:=Int.lt_of_mul_lt_mul_left (a:=g) (by rw[TN];exact h) (UT J)
theorem Rb{g x:Int}(J:0<g)(h:0<=g*x):0<=x:=Int.le_of_mul_le_mul_left (a:=g) (by rw[TN];exact h) J
theorem Jg(g h B S P l J y la t b bot f Y b':Int)(hg:g≠0)(hh:h≠0)(e1:la=h*t)(e2:bot*J=h*b)(e3:g*Y=l*J-y*la)(e4:g*b'=bot*J)(hi:bot*S+P*l=P*bot*f):
 b'*(b*S+t*P*y)+P*b*Y=P*b*b'*f:=by
 have k:g*h*(b'*(b*S+t*P*y)+P*b*Y)=g*h*(P*b*b'*f):=by grind
 exact UL (Vf hg hh) k
theorem KN{left y Y:List Int}{bot b' g:Int}(h:Shr n R fit c ps T left bot)(ly:cR n R y)(hs:Sub y left)(hz:SzL 8000 y)(t:Tight left y a)(r:Red n left y bot a g Y b'):
 Shr n R fit c (ps++[y]) (T++[(rat (nth left a) (bot*nth y a),y)]) Y b':=by
 have yl:=ly.fit.len;have an:a<n:=ly.fit.lt (i:=a) (by have:=t.pos;omega);have ya:=t.pos;have la:0<nth left a:=by have h1:=hs a ⋯;have h2:=h.nn a;omega
 have Bp:0<bot*nth y a:=S7 h.bp ya;obtain⟨k,k0,_,k1,k2,k3,k4⟩:=Ma (a:=nth left a) (b:=bot*nth y a) ⋯;have kp:0<k:=by
  have:0<k*(rat (nth left a) (bot*nth y a)).2:=by rw[<- k2];exact Bp
  exact HV (g:=(rat (nth left a) (bot*nth y a)).2) k3 (by rw[S1];exact this)
 have k5:0<(rat (nth left a) (bot*nth y a)).1:=by
  have:0<k*(rat (nth left a) (bot*nth y a)).1:=by rw[<- k1];exact la
  exact HV kp this
 have y0:=ly.fit.nn;have J:Sub Y left:=λi hi hz=>by
  have a1:nth y i=0:=by by_cases q:nth y i=0;exact q;exact absurd hz (hs i q)
  have:=r.lv i;rw[hz,a1,Tt,Tt,Int.sub_self] at this;rcases SK.mp this with q | q
  have:=r.gp;omega;exact hi q
 have at0:nth Y a=0:=by
  have:=r.lv a;rw[S1 (nth left a),Int.sub_self] at this;rcases SK.mp this with q | q
  have:=r.gp;omega;exact q
 have am:∀i,Sz (c+8001*T.length+8001) (nth left i*nth y a-nth y i*nth left a):=λi=>by
  have z1:∀j,Sz (c+8001*T.length) (nth left j):=λj=>by by_cases q:j<left.length;exact h.sz _ (eI q);rw[dX ⋯];exact Sz.zero _
  have z2:∀j,Sz 8000 (nth y j):=λj=>by by_cases q:j<y.length;exact hz _ (eI q);rw[dX ⋯];exact Sz.zero _
  have:=Sz.sub (Sz.mul (z1 i) (z2 a)) (Sz.mul (z2 i) (z1 a));exact this.mono ⋯
 have zb:Sz (c+8001*T.length+8001) (bot*nth y a):=(Sz.mul h.szb (hz _ (eI (show a<y.length by omega)))).mono ⋯;have zl:Sz (c+8001*T.length) (nth left a):=h.sz _ (eI (by rw[h.len];exact an));have tl:(T++[((rat (nth left a) (bot*nth y a),y):Sh)]).length=T.length+1:=by simp
 refine#[r.len,λi=> ?_, ?_,λq hq=> ?_,λi hi=>h.sub i (J i hi), ?_,λs ab=> ?_, ?_,λi=> ?_,λz a2=> ?_,λx hx=> ?_, ?_,λs ab=> ?_];have e:=r.lv i;have:0<=g*nth Y i:=by
  rw[e];by_cases q:0<nth y i;have:=t.min i q;rw[S1 (nth y i)];omega;have:nth y i=0:=by have:=y0 i;omega
  rw[this,Tt,Int.sub_zero];exact SS (h.nn i) ⋯
 exact Rb r.gp this;have:0<g*b':=by rw[r.bv];exact Bp
 exact HV r.gp this;have e1:=h.st q hq;have e2:=ly.fit.st q hq;have e3:a6 n (nth q) (nth (fR left y a))=0:=by rw[xu (c:=nth y a) (d:=nth left a) (x:=left) (y:=y) (λi=>by rw[uJ h.len yl,S1 (nth left i),S1 (nth y i)]),e1,e2];omega
 have e4:a6 n (nth q) (nth (fR left y a))=g*a6 n (nth q) (nth Y):=by unfold a6;rw[<- eE];refine bL λi _=> ?_;rw[uJ h.len yl,<- r.lv i,WT]
 rw[e4] at e3;rcases SK.mp e3 with z | z
 have:=r.gp;omega;exact z;have:=sX (x:=Y) (y:=left) (m:=a) (by rw[r.len,h.len]) J ⋯ at0;have:=h.cn;omega;rcases xz.mp ab with q | q
 exact h.good s q;rw[ww.mp q];exact#[k5,k3,k4,λi hi=>h.sub i (hs i hi)];rw[Fa];exact h.sl.append (List.Sublist.refl _);rw[Lq];exact Jg g k (bot*nth y a) (psS i T).2 (psS i T).1 (nth left i) (nth y a) (nth y i) (nth left a) _ _ bot (nth fit i) (nth Y i) b' (by have:=r.gp;omega) k0 k1 k2 (r.lv i) r.bv (h.eq i);rcases xz.mp a2 with q | q
 exact λz2=>h.no z q λi hi=>J i (z2 i hi);rw[ww.mp q];exact λz2=>z2 a ⋯ at0;obtain⟨i,hi,rfl⟩:=SX hx;have e:Y[i]=nth Y i:=by unfold nth;rw[re,ut hi];rfl
 rw[e,tl];exact(xg r.gp (r.lv i) (am i)).mono ⋯;rw[tl];exact(xg r.gp r.bv zb).mono ⋯;rw[tl];rcases xz.mp ab with q | q
 exact#[(h.szt s q).1.mono ⋯,(h.szt s q).2.mono ⋯];rw[ww.mp q];exact#[(xg kp k1.symm zl).mono ⋯,(xg kp k2.symm zb).mono ⋯]
theorem N6{left:List Int}(h:Shr n R fit c ps T left bot)(all:∀l,cR n R l->l∈ps)(i:Nat):(psS i T).2=(psS i T).1*nth fit i:=by
 have z:∀i,nth left i=0:=λi=>by by_cases q:nth left i=0;exact q;obtain⟨l,h1,h2⟩:=wU (cnt left) (wS _) (#[h.len,h.nn,h.st,i,q]:Fit n R left);exact absurd h2 (h.no l (all l h1))
 have e:=h.eq i;rw[z i,TN,WJ,S1 (psS i T).1 bot,UJ] at e;exact UL (by have:=h.bp;omega) e
def mkS(C:Int)(i:Nat)(m:Int)(T:List Sh):Int:=T.foldl (λm s=>m+s.1.1*(C/s.1.2)*nth s.2 i) m
theorem G6(hg:goal.length=n)(hc:rows.length<=900)(hs:cP c rows)(J:SzL c goal){b:Int}{ts:List Int}(e:jv rows goal=pr (b,ts)):Sz (iU c (1+rows.length)) b/\SzL (iU c (1+rows.length)) ts:=by
 have Y:cP c (bB rows goal):=by
  intro r hr x hx;unfold bB at hr;obtain⟨a,_,rfl⟩:=sB.mp hr;obtain⟨q,hq,rfl⟩:=sB.mp hx;rcases wE.mp hq with rfl | hq
  exact J.nth a;exact(hs q hq).nth a
 have h:=oG (n:=1+rows.length) ⋯ gM Y;unfold jv at e;split at e;cases e;rename_i x F es;rw[es] at h;have hx:=h x wp;split at e;cases e;cases e;refine#[hx.nth 0,λy hy=> ?_];obtain⟨z,hz,rfl⟩:=sB.mp hy;exact(hx z (Va hz)).neg
def jH(made:List Int)(t:Int)(row:List Int):List Int:=Tf (λx y=>x+t*y) made row
theorem HX{made row:List Int}(h:made.length=row.length)(t:Int):(jH made t row).length=made.length:=by unfold jH;rw[Ti,<- h,Nat.min_self]
theorem kN{ok:aD->Prop}{g:GM}{s s1 s2:S}(J:ok s.o)(Y:g d s=.ok s1)(hb:body s1=.next s2):cj ok g body (d::ds) s=cj ok g body ds s2:=by rw[cj,if_pos J,Y,lH,hb]
theorem K0{α:Type}{l:List α}:pick l qh qh (pr (-1))=l.reverse:=by
 have hb:sliceBounds qh qh (pr (-1)) l.length=((l.length:Int)-1,-1,-1):=by unfold sliceBounds;rfl
 have hr:sliceRange ((l.length:Int)-1) (-1) (-1)=(wh l.length).map λ(k:Nat)=>((l.length:Int)-1 + -1*(k:Int)).toNat:=by
  unfold sliceRange;have hc:(if (-1:Int)>0 then (if (l.length:Int)-1 < -1 then (-1-((l.length:Int)-1) + -1-1) / -1 else 0) else (if (l.length:Int)-1 > -1 then ((l.length:Int)-1 - -1 - -1-1) / - -1 else 0)).toNat=l.length:=by rw[if_neg ∅];split;rw[show (- -1:Int)=1 by decide,Int.ediv_one];omega;omega
  dsimp only;rw[hc]
 unfold pick;rw[hb];dsimp only;rw[hr];have key:∀m,m<=l.length->((wh m).map λ(k:Nat)=>((l.length:Int)-1 + -1*(k:Int)).toNat).filterMap (l[·]?)=(l.reverse).take m:=by
  intro m;induction m with
  | zero=>intro _;rfl
  | succ m J=>
   intro hm;rw[Vc,Fa,List.filterMap_append,J ⋯,List.take_succ,List.getElem?_reverse ⋯];congr 1;rw[List.map_singleton,show ((l.length:Int)-1 + -1*(m:Int)).toNat=l.length-1-m by omega,ut ⋯];simp[ut (show l.length-1-m<l.length by omega)]
 rw[key l.length (wS _),S5 (by simp)]
abbrev sg(z:Str):List Nat:=z.cps.toList
theorem Ai{z:Str}:(sg z).length=z.length:=by unfold Str.length;simp
theorem wL{a b:Str}(h:sg a=sg b):a=b:=Str.ext' (VO.mp h)
theorem EV{a b:Str}:sg (a++b)=sg a++sg b:=by show ((a++b:Str).cps).toList=_;rw[Str.cps_append];simp
theorem Ds{z:Str}{lo hi:Option Int}(Y:a<=b)(hb:b<=z.length)(h:Builtin.Str.strSliceIndices lo hi 1 z.length=(wh (b-a)).map (λk=>a+k)):sg (m9 z lo hi)=((sg z).drop a).take (b-a):=by
 have key:(((wh (b-a)).map (λk=>a+k)).filterMap (λi=>(sg z)[i]?))=((sg z).drop a).take (b-a):=StrLaws.picks (sg z) (b-a) a (by rw[Ai];omega);unfold m9;rw[h];split;rename_i J;have J:b-a=z.length:=by simpa using J
 have ha:a=0:=⋯;subst ha;rw[Vm,S5 (by rw[Ai];omega)];rw[<- key];simp[sg]
theorem QR(h:b<=n):Builtin.Str.strSliceIndices qh (pr (b:Int)) 1 n=(wh (b-0)).map (λk=>0+k):=by rw[<- StrLaws.strSliceIndices_plain (SU b) h];unfold Builtin.Str.strSliceIndices;simp;rw[show max (0:Int) (min 0 (n:Int))=0 by omega]
theorem QN(h:a<=n):Builtin.Str.strSliceIndices (pr (a:Int)) qh 1 n=(wh (n-a)).map (λk=>a+k):=by rw[<- StrLaws.strSliceIndices_plain h (wS n)];unfold Builtin.Str.strSliceIndices;simp;rw[if_neg (show ¬(n:Int)<0 by omega),show max (0:Int) (min (n:Int) (n:Int))=(n:Int) by omega]
theorem Nr{z:Str}(h:b<=z.length):sg (m9 z qh (pr (b:Int)))=(sg z).take b:=by rw[Ds (SU b) h (QR h),Vm,WG]
theorem NV{z:Str}(h:a<=z.length):sg (m9 z (pr (a:Int)) qh)=(sg z).drop a:=by rw[Ds h (wS _) (QN h),S5];rw[U1,Ai];omega
section
variable {s s1 s2 : S} {R R' : List (Option D)} {O O' : aD} {d x y : D} {xs ys : List D}
theorem aL{f:Op2}{ma mb:EM}(ha:ma s=.ok (x,s1))(hb:mb s1=.ok (y,s2))(J:f s2.o x y=.ok d):ao f ma mb s=.ok (d,s2):=by rw[dJ,ha,aj];dsimp only;rw[hb,aj];dsimp only;rw[J,aj]
theorem Ib{f:Op1}{ma:EM}(ha:ma s=.ok (x,s1))(J:f s1.o x=.ok d):unM f ma s=.ok (d,s1):=by rw[OX,ha,aj];dsimp only;rw[J,aj]
theorem dI{f:OpN}(ha:ma s=.ok (xs,s1))(J:f s1.o xs=.ok d):a8 f ma s=.ok (d,s1):=by rw[gU,ha,aj];dsimp only;rw[J,aj]
theorem aw{r:AM}(ha:m s=.ok (x,s1))(hb:r s1=.ok (ys,s2)):ae m r s=.ok (x::ys,s2):=by rw[aW,ha,aj];dsimp only;rw[hb,aj]
theorem pI(ha:ma s=.ok (xs,s1))(J:xs.length<=16777216):jT ma s=.ok (.tup xs,s1):=by rw[Bv,ha,aj];dsimp only;rw[if_pos J]
theorem uC(ha:ma s=.ok (xs,s1))(J:xs.length<=16777216):iT ma s=.ok (.lst xs,s1):=by rw[GY,ha,aj];dsimp only;rw[if_pos J]
theorem qG(ha:ma s=.ok (xs,#[R,O]))(J:xs.length<=16777216)(hn:O.length=n)(Y:O++[.lst xs]=O'):jk ma s=.ok (.ptr n,#[R,O']):=by rw[Np,ha,aj];dsimp only;rw[if_pos J,hn,Y]
theorem d7{b:Bool}(h:m s=.ok (.bl b,s1)):a9 m s=.ok (b,s1):=by rw[gZ,h,aj]
theorem C7{m:TM}{b:Bool}(h:m s=.ok (b,s1)):pb m s=.ok (!b,s1):=by rw[sU,h,aj]
theorem C9{a b:TM}{p q:Bool}(h:a s=.ok (p,s1))(hp:p=xL)(h2:b s1=.ok (q,s2)):orT a b s=.ok (q,s2):=by subst hp;rw[vm,h,aj];exact h2
theorem Jm{a b:TM}{p q:Bool}(h:a s=.ok (p,s1))(hp:p=ss)(h2:b s1=.ok (q,s2)):o8 a b s=.ok (q,s2):=by subst hp;rw[AQ,h,aj];exact h2
theorem Qe{a b:TM}{p:Bool}(h:a s=.ok (p,s1))(hp:p=xL):o8 a b s=.ok (xL,s1):=by subst hp;rw[AQ,h,aj];rfl
theorem NP{a b:EM}{p:Bool}(h:a s=.ok (.bl p,s1))(hp:p=ss)(h2:b s1=.ok (x,s2)):EK a b s=.ok (x,s2):=by subst hp;rw[NR,h,aj];exact h2
theorem bx{i:Nat}(h:m s=.ok (d,#[R,O]))(J:R.set i (pr d)=R'):setM i m s=.next #[R',O]:=by subst J;exact eX h
theorem oq(h1:mo s=.ok (.ptr k,s1))(J:s1.o[k]? =pr (.lst ds0))(h2:me s1=.ok (d,#[R,O]))(Y:O[k]? =pr (.lst ds))(hb:ds.length<=1000000)(hO:O.set k (.lst (ds++[d]))=O'):ir mo me s=.ok (.non,#[R,O']):=by subst hO;exact xf (s2:=#[R,O]) h1 J h2 Y hb
theorem ot(h:m s=.ok (.ptr k,#[R,O]))(c:O[k]? =pr (.lst ds))(J:O.set k .dead=O'):iu m s=.ok (.lst ds,#[R,O']):=by subst J;exact Gj h c
theorem Od(h:m s=.ok (x,#[R,O]))(hs:xp O x=pr ds)(hn:O.length=n)(J:O++[.lst ds]=O'):Dd m s=.ok (.ptr n,#[R,O']):=by rw[LI,h,aj];dsimp only;rw[hs];dsimp only;rw[hn,J]
theorem QF{f:Str}{ns:List Str}(h:m s=.ok (.obj c ns ds,s1))(hd:rH f ns ds=pr d):oa c f m s=.ok (d,s1):=by rw[GX,h,aj];dsimp only;rw[if_pos rfl,hd]
theorem gB{m:Str}{f:FM}{ns:List Str}{ds args:List D}(J:mo s=.ok (.obj c ns ds,s1))(ha:ma s1=.ok (args,s2))(Y:f (.obj c ns ds::args) []=.ok (x,O1))(hm:m∉ns)(hd:aU ds=ss)(hp:aU args=ss)(hl:args.length=n)(hr:dq x=ss):
 methP c m n f mo ma s=.ok (x,s2):=tV J hm hd ha hp hl Y hr
theorem cX{f:FM}(h:ma s=.ok (ds,s1))(J:f ds []=.ok (d,O1))(hp:aU ds=ss)(Y:ds.length=n)(hd:dq d=ss):aN n f ma s=.ok (d,s1):=cI h hp Y J hd
theorem gY{f:FM}(h:ma s=.ok (ds,#[R,O]))(J:f ds []=.ok (x,O1))(hp:aU ds=ss)(Y:ds.length=n)(hx:shD O.length x=y)(hO:O++O1.map (shC O.length)=O'):d9 n f ma s=.ok (y,#[R,O']):=by subst hx;subst hO;exact LG h hp Y J
theorem sV{f:FM}{ds rs:List D}(h:ma s=.ok (ds,s1))(hr:cD s1.o (cD s1.o ds)=rs)(J:f rs []=.ok (d,O1))(hp:aU rs=ss)(Y:ds.length=n)(hd:px d=ss):gC n f ma s=.ok (d,s1):=by unfold gC;rw[h,aj];dsimp only;rw[hr,if_pos #[hp,Y],J];dsimp only;rw[if_pos hd]
theorem xo{f:FM}(h:ma s=.ok (ds,#[R,O]))(J:f ds O=.ok (d,O1))(Y:ds.length=n):j8 n f ma s=.ok (d,#[R,O1]):=yw h Y J
theorem QG{c:TM}{p:Bool}(h:c s=.ok (p,s1))(hp:p=ss):ifS c A B s=A s1:=by subst hp;exact xw h
theorem QA{c:TM}{p:Bool}(h:c s=.ok (p,s1))(hp:p=xL):ifS c A B s=B s1:=by subst hp;exact j5 h
theorem qC{s:S}:gj s=.ok (qh,s):=rfl
theorem zZ(h:m s=.ok (.int i,s1)):part m s=.ok (pr i,s1):=by rw[BG,h,aj]
theorem RB{ml mh:OM}{lo hi:Option Int}{J:S}{ds es:List D}(h:me s=.ok (x,s1))(Y:ml s1=.ok (lo,s2))(hh:mh s2=.ok (hi,J))(hd:lsD J.o x=pr ds)(he:cutD ds lo hi=es):slM me ml mh s=.ok (.lst es,J):=by rw[Ej,h,aj];dsimp only;rw[Y,aj];dsimp only;rw[hh,aj];dsimp only;rw[hd];dsimp only;rw[he]
theorem G7{g:GM}(h:m s=.ok (d,s1))(J:g d s1=.ok s2):kL m g s=.next s2:=by rw[AU,h,aj];dsimp only;rw[J,lH]
end
section
variable {s s1 : S} {o : Out}
theorem aX{a b:SM}(h:a s=.next s1)(k:b s1=o):aP a b s=o:=(bV h).trans k
theorem jo{c:TM}{p:Bool}(h:c s=.ok (p,s1))(hp:p=ss)(k:A s1=o):ifS c A B s=o:=(QG h hp).trans k
theorem eH{c:TM}{p:Bool}(h:c s=.ok (p,s1))(hp:p=xL)(k:B s1=o):ifS c A B s=o:=(QA h hp).trans k
theorem dS{m:SM}{R:List (Option D)}(h:m #[ds.map pr++wn (n-ds.length) qh,O]=.ret d #[R,O1]):runM n m ds O=.ok (d,O1):=df h
theorem Il{m:SM}{R:List (Option D)}(h:m #[ds.map pr++wn (n-ds.length) qh,O]=.next #[R,O1]):runM n m ds O=.ok (.non,O1):=by unfold runM;rw[h]
end
section
variable {s s1 s2 : S} {c : Nat} {a : D} {o : Out}
end
theorem Oi{f:FM}{s:S}{R:List (Option D)}{O O1 O':aD}{x y:D}{ds rs:List D}(h:ma s=.ok (ds,#[R,O]))(hr:cD O (cD O ds)=rs)(Y:f rs []=.ok (x,O1))(hp:aU rs=ss)(hl:ds.length=n)(hd:wQ x=ss)(J:O1.all Df=ss)(hx:shD O.length x=y)(hO:O++O1.map (shC O.length)=O'):zK n f ma s=.ok (y,#[R,O']):=by subst hx;subst hO;unfold zK;rw[h,aj];dsimp only;rw[hr,if_pos #[hp,hl],Y];dsimp only;rw[if_pos #[hd,J]]
abbrev cv(L:List (Nat×List Int)):List D:=L.map λp=>.ptr p.1
def Sto(O:aD)(L:List (Nat×List Int)):Prop:=∀p∈L,O[p.1]? =pr (.lst (p.2.map D.int))
theorem Sto.app(h:Sto O L)(E:aD):Sto (O++E) L:=λp hp=>fm (h p hp)
theorem Sto.set{O:aD}{L:List (Nat×List Int)}(h:Sto O L){k:Nat}(hk:∀p∈L,p.1≠k)(c:Cell):Sto (O.set k c) L:=λp hp=>by rw[cY λz=>hk p hp z.symm];exact h p hp
theorem Sto.lt(h:Sto O L)(hp:p∈L):p.1<O.length:=oS (h p hp)
theorem Ak{α:Type}{ok:aD->Prop}{e:EM}{cap:List (Option D)}{item:α->D}{f:α->List Int}{T:α->Nat->Prop}(I:aD->Prop)(hI:∀O E,I O->I (O++E))(Y:∀O,I O->ok O):
 ∀(l:List α) (J:List D) (x:Option D) (O:aD),I O->J.length+l.length<=16777216->
 (∀a∈l,∀O,I O->∃q E,e #[pr (item a)::cap,O]=.ok (.ptr q,#[pr (item a)::cap,O++E])/\(O++E)[q]? =pr (.lst ((f a).map D.int))/\(T a q\/O.length<=q))->
 ∃(L:List (Nat×List Int)) (E:aD) (x':Option D),fv ok (aA 0) bA e (l.map item) J #[x::cap,O]=.ok (J++cv L,#[x'::cap,O++E])/\L.map (·.2)=l.map f/\Sto (O++E) L/\∀p∈L,(∃a∈l,T a p.1)\/O.length<=p.1
 | [],J,x,O,h,_,_=>#[[],[],x,by rw[Te,fv,if_pos (Y _ h)];simp,rfl,(λp hp=>by cases hp),(λp hp=>by cases hp)]
 | a::l,J,x,O,h,hl,he=>by
  obtain⟨q,E,e1,e2,e3⟩:=he a wp O h;rw[AC] at hl;obtain⟨L,E',x',e4,e5,e6,e7⟩:=Ak (T:=T) I hI Y l (J++[.ptr q]) (pr (item a)) (O++E) (hI O E h) (by simp;omega) (λa ha=>he a (wf _ ha));refine#[(q,f a)::L,E++E',x', ?_,by simp[e5],λp hp=> ?_,λp hp=> ?_];rw[x0,fv,if_pos #[Y _ h,⋯],DL,aj,L4,aj];dsimp only;rw[if_pos rfl,show (#[List.set (x::cap) 0 (pr (item a)),O]:S)=#[pr (item a)::cap,O] from rfl,e1,aj];dsimp only;rw[e4];simp;rw[<- Ta];rcases wE.mp hp with rfl | hp
  exact fm e2;exact e6 p hp;rcases wE.mp hp with rfl | hp
  rcases e3 with e3 | e3;exact .inl #[a,wp,e3];exact .inr e3;rcases e7 p hp with⟨b,hb,z⟩ | z;exact .inl #[b,wf _ hb,z];exact .inr (by rw[Do] at z;omega)
theorem Me{c d:Cell}:(O++[c]).set O.length d=O++[d]:=by
 induction O with
 | nil=>rfl
 | cons a O J=>exact congrArg (a:: ·) J
section
variable {α β : Type} (f g : α → β)
end
section
variable {n : Nat} {R : List (List Int)} {dem : List Int}
def eW(R:List (List Int))(n:Nat)(dem:List Int):List (List Int):=(bg R n).map λs=>s++[aC s dem]
theorem Ic(J:∀r∈R,r.length=n):∀r∈eW R n dem,r.length=n+1:=by intro r hr;unfold eW at hr;obtain⟨s,hs,rfl⟩:=sB.mp hr;rw[Do,iI J s hs];rfl
theorem ua(hs:s.length=n)(d:Int)(x:Nat->Int):a6 (n+1) (nth (s++[d])) x=a6 n (nth s) x+d*x n:=by unfold a6;show bo n (λi=>nth (s++[d]) i*x i)+nth (s++[d]) n*x n=_;rw[bL (g:=λi=>nth s i*x i) λi hi=>by rw[wH ⋯],show nth (s++[d]) n=d by rw[<- hs];exact vz]
theorem Jh(J:∀r∈R,r.length=n)(hs:s∈bg R n):fA n R (nth s):=λr hr=>by obtain⟨P,_,_,h1,_⟩:=iO J;rw[gu,bW];exact h1 r hr s hs
theorem JA(hR:∀r∈R,r.length=n)(hd:dem.length=n)(hF:∀y,Fit n R y->a6 n (nth dem) (nth y)<=0):∃z,Fit (n+1) (eW R n dem) z/\0<nth z n:=by
 have J:∀i,nth (dem.map (- ·)) i= - nth dem i:=λi=>ja (f:=(- ·)) ∅ dem i;obtain⟨k,k0,T,tl,ht⟩:=Pm hR (c:=dem.map (- ·)) (by rw[t3];exact hd) (λy hy=>by have h1:=hF y hy;have h2:=mF (n:=n) (g:=1) (c:=nth (dem.map (- ·))) (a:=nth dem) (b:=nth dem) (u:= -1) (v:=0) (λi _=>by rw[J];omega) (nth y);omega)
 have zl:((wh n).map λi=> -bT T R i-k*nth dem i).length=n:=by simp
 have za:∀i,i<n->nth (((wh n).map λi=> -bT T R i-k*nth dem i)++[k]) i= -bT T R i-k*nth dem i:=λi hi=>by rw[wH (by rw[zl];exact hi)];unfold nth;rw[re,wT,Tk hi];rfl
 have zn:nth (((wh n).map λi=> -bT T R i-k*nth dem i)++[k]) n=k:=by have:=vz (x:=(wh n).map λi=> -bT T R i-k*nth dem i) (b:=k);rw[zl] at this;exact this
 have Y:(((wh n).map λi=> -bT T R i-k*nth dem i)++[k]).length=n+1:=by rw[Do,zl];rfl
 generalize ((wh n).map λi=> -bT T R i-k*nth dem i)++[k]=z at za zn Y;refine#[z,#[Y,λi=> ?_,λr hr=> ?_,#[n,by rw[zn];omega]],by rw[zn];exact k0];rcases Nat.lt_trichotomy i n with h | h | h
 rw[za i h];have:=ht i h;rw[J,Int.mul_neg] at this;omega;rw[h,zn];omega;rw[dX ⋯];decide;unfold eW at hr;obtain⟨s,hs,rfl⟩:=sB.mp hr;have sl:=iI hR s hs;rw[ua sl,zn,fT hd];have e:=mF (n:=n) (g:=1) (c:=nth z) (a:=bT T R) (b:=nth dem) (u:= -1) (v:= -k) (λi hi=>by rw[za i hi];grind) (nth s);have o:=i5.dot (n:=n) (R:=R) (x:=bT T R) (y:=nth s) #[1,∅,T,tl,λi _=>⋯] (Jh hR hs);rw[o,bW n (nth z),bW n (nth dem)] at e;grind
theorem He(J:∀r∈R,r.length=n)(hd:dem.length=n)(Y:∀y,Fit n R y->a6 n (nth dem) (nth y)<=0):∃l,cR (n+1) (eW R n dem) l/\0<nth l n:=by
 obtain⟨z,fz,z0⟩:=JA J hd Y;false_or_by_contra;rename_i h;have:=Fn (n:=n+1) (R:=eW R n dem) (c:=wn n 0++[-1]) (λl hl=>by
  rw[ua (by simp)];have e:a6 n (nth (wn n 0)) (nth l)=0:=by
   unfold a6;refine d5 λi hi=> ?_;have:nth (wn n (0:Int)) i=0:=by unfold nth;rw[re,IR,if_pos hi];rfl
   rw[this,Tt]
  have h1:¬0<nth l n:=λq=>h #[l,hl,q];omega) fz
 rw[ua (by simp)] at this;have e:a6 n (nth (wn n 0)) (nth z)=0:=by
  unfold a6;refine d5 λi hi=> ?_;have:nth (wn n (0:Int)) i=0:=by unfold nth;rw[re,IR,if_pos hi];rfl
  rw[this,Tt]
 omega
def kU(l dem:List Int)(t:Int):List Int:=(l.zip dem).map λp=>p.1+t*p.2
theorem yV(J:l.length=n+1)(hd:dem.length=n)(t:Int):(kU l dem t).length=n/\∀i,i<n->nth (kU l dem t) i=nth l i+t*nth dem i:=by refine#[by unfold kU;rw[t3,SJ];omega,λi hi=> ?_];unfold kU nth;simp[re,ut (show i<l.length by omega),ut (show i<dem.length by omega),ut (show i<(l.zip dem).length by rw[SJ];omega)]
theorem I0(J:∀r∈R,r.length=n)(hd:dem.length=n)(f:Fit (n+1) (eW R n dem) l):i5 n R (nth (kU l dem (nth l n))):=by obtain⟨gl,Y⟩:=yV f.len hd (nth l n);refine(pN J _).mp λs hs=> ?_;have sl:=iI J s hs;have h:=f.st (s++[aC s dem]) (by unfold eW;exact sB.mpr #[s,hs,rfl]);rw[ua sl,fT hd] at h;have e:=mF (n:=n) (g:=1) (c:=nth (kU l dem (nth l n))) (a:=nth l) (b:=nth dem) (u:=1) (v:=nth l n) (λi hi=>by rw[Y i hi];grind) (nth s);rw[gu,bW];rw[bW n (nth l),bW n (nth dem)] at e;grind
theorem Ie(J:∀r∈R,r.length=n)(hd:dem.length=n)(f:Fit (n+1) (eW R n dem) l):∃b ts,jv R (kU l dem (nth l n))=pr (b,ts)/\0<b/\ts.length=R.length/\∀i,i<n->b*nth l n*nth dem i<=bT ts R i:=by obtain⟨gl,Y⟩:=yV f.len hd (nth l n);obtain⟨b,ts,e⟩:=Dw gl (I0 J hd f);obtain⟨b0,tl,h⟩:=J4 gl e;refine#[b,ts,e,b0,tl,λi hi=> ?_];rw[<- h i hi,Y i hi];have:=SS (UT b0) (f.nn i);grind
end
end M
namespace Lk33
open PySem PySem.Spec PyProof.Rows L2 M
noncomputable section
variable {fd : Tr} {O : aD} {s s1 s2 : S} {i c n k sp j g a b : Nat} {z f : Str} {d : D} {wd : List Nat} {l : List (Str × Int)} {ds : List D} {goods zs : List Str} {ws : List Wk} {fi : Int} {me : EM} {R : List (Option D)} {A W rows : List (List Int)} {way w v ns x row goal fit left y : List Int} {L Q : List (Nat × List Int)} {T : List Tl}
def top(i:Nat):Stmt:=PySem.Challenge.pw_modeyard_k33_whole_never_is_never.main.body.getD i (.Pass #[0,0,0,0])
abbrev uy:Stmt:=top 13
abbrev mr:Stmt:=top 14
abbrev vE:Stmt:=top 15
abbrev yP:Stmt:=top 16
abbrev xR:Stmt:=top 16
abbrev BI:Stmt:=top 17
abbrev lu:Stmt:=top 19
abbrev Em:Stmt:=top 20
abbrev CL:Stmt:=top 20
abbrev AI:Stmt:=top 21
abbrev zT:Stmt:=top 21
abbrev yU:Stmt:=top 22
abbrev xH:Stmt:=top 22
abbrev zF:Stmt:=top 23
abbrev ke:Stmt:=top 24
abbrev lr:Stmt:=top 25
abbrev va:Stmt:=top 26
abbrev Bq:Stmt:=top 27
abbrev jS:Stmt:=top 28
abbrev AL:Stmt:=top 29
abbrev we:Stmt:=top 30
abbrev rL:Stmt:=top 32
abbrev uc:Stmt:=top 33
abbrev mC:Stmt:=top 34
abbrev kh:Stmt:=top 35
abbrev Fl:Stmt:=top 36
abbrev rM:Stmt:=top 37
abbrev mH:Stmt:=top 38
abbrev zf:Stmt:=top 39
abbrev kS:Stmt:=inClass (top 66) 5
abbrev jP:Stmt:=inClass (top 66) 6
abbrev iY:Stmt:=inClass (top 66) 3
abbrev DZ:Stmt:=top 41
abbrev f9:Stmt:=inClass (top 66) 7
abbrev iz:Stmt:=inClass (top 66) 8
abbrev gA:Stmt:=inClass (top 66) 9
abbrev yA:Stmt:=top 42
abbrev uK:Stmt:=top 44
abbrev qJ:Stmt:=top 45
abbrev nk:Stmt:=top 46
abbrev Ft:Stmt:=top 47
abbrev jd:Stmt:=inClass (top 66) 1
abbrev nt:Stmt:=top 49
abbrev vU:Stmt:=top 50
abbrev vG:Stmt:=top 55
abbrev qc:Stmt:=top 56
abbrev qy:Stmt:=top 57
abbrev oV:Stmt:=top 58
abbrev qv:Stmt:=top 59
abbrev nW:Stmt:=top 60
abbrev oW:Stmt:=top 61
abbrev oX:Stmt:=top 62
abbrev rP:Stmt:=top 63
abbrev sq:Stmt:=top 64
abbrev rZ:Stmt:=top 65
abbrev jJ:Stmt:=inClass (top 66) 0
abbrev tP:Stmt:=top 68
abbrev uA:Stmt:=top 69
abbrev rX:Stmt:=top 70
abbrev tT:Stmt:=top 71
abbrev rW:Stmt:=top 72
abbrev sj:Stmt:=top 73
abbrev rJ:Stmt:=top 74
abbrev sf:Stmt:=top 75
abbrev pM:Stmt:=top 76
def caK(K:uY):Nat->Addr:=λn=>match n with
 | 0=>clsAt K "Yard"
 | _=>0
def zL:SM:=
 (bQ (EK (unM (o9 "int") (aa 0)) (KY (unM (o9 "bool") (aa 0)))))
def gd:FM:=runM 1 zL
def vQ:SM:=
 (aP (setM 2 (ao ik (aa 0) (aa 1)))
 (aP (setM 0 (aa 1))
 (setM 1 (aa 2))))
def zk:SM:=
 (aP (setM 0 (a8 yC (ae (aa 0) ak)))
 (aP (setM 1 (a8 yC (ae (aa 1) ak)))
 (aP (Ah (λs=>A2 1 s) (a9 (ao neD (aa 1) (au (.int 0))))
 vQ)
 (bQ (aa 0)))))
def f7:FM:=runM 3 zk
def oi:SM:=
 (setM 1 (aN 2 f7 (ae (aa 1) (ae (aa 2) ak))))
def rq:SM:=
 (aP (setM 1 (au (.int 0)))
 (aP (fO (listI (aa 0)) (aA 2)
 oi)
 (bQ (aa 1))))
def kx:FM:=runM 3 rq
def p8:SM:=
 (aP (setM 1 (aN 1 kx (ae (aa 0) ak)))
 (aP (ifS (a9 (ao eqD (aa 1) (au (.int 0))))
 (bQ (Dd (aa 0)))
 bX)
 (bQ (nv 1 [1] (listI (aa 0)) (aA 0) bA (ao gy (aa 0) (aa 1))))))
def mj:FM:=runM 2 p8
def rN:SM:=
 (aP (setM 1 (aN 1 kx (ae (aa 0) ak)))
 (aP (ifS (a9 (ao eqD (aa 1) (au (.int 0))))
 (bQ (a8 j9 (ae (aa 0) ak)))
 bX)
 (bQ (bF 1 [1] (listI (aa 0)) (aA 0) bA (ao gy (aa 0) (aa 1))))))
def iQ:FM:=runM 2 rN
def Bm:SM:=
 (aP (ifS (orT (pb (a9 (aN 1 gd (ae (aa 0) ak)))) (pb (a9 (aN 1 gd (ae (aa 1) ak)))))
 jV
 bX)
 (aP (ifS (a9 (ao eqD (aa 1) (au (.int 0))))
 jV
 bX)
 (aP (setM 2 (aN 2 f7 (ae (aa 0) (ae (aa 1) ak))))
 (aP (ifS (a9 (ao ltD (aa 1) (au (.int 0))))
 (setM 2 (unM jb (aa 2)))
 bX)
 (bQ (jT (ae (ao gy (aa 0) (aa 2)) (ae (ao gy (aa 1) (aa 2)) ak))))))))
def pX:FM:=runM 3 Bm
def lD:SM:=
 (bQ (a8 pe (ae (bF 2 [] (kr (ae (aa 0) (ae (aa 1) ak))) (cH (aT (aA 0) (aT (aA 1) cL)) 2) bA (ao cG (aa 0) (aa 1))) ak)))
def bq:FM:=runM 2 lD
def D2:SM:=
 (aP (setM 2 (BH rV (ae (au (.int 0)) ak) (aa 1)))
 (aP (kL (au (.int 1)) (zc (aa 2) (aa 0)))
 (bQ (aa 2))))
def vo:FM:=runM 3 D2
def vT:SM:=
 (aP (setM 2 (BH rV (ae (au (.int 0)) ak) (aa 1)))
 (aP (kL (au (.int 1)) (zc (aa 2) (aa 0)))
 (bQ (iu (aa 2)))))
def ki:FM:=runM 3 vT
def Bb:SM:=
 (bQ (bF 1 [0] (dB (ae (aa 0) ak)) (aA 0) bA (d9 2 vo (ae (aa 0) (ae (aa 1) ak)))))
def wY:FM:=runM 1 Bb
def tS:SM:=
 (bQ (bF 1 [0] (dB (ae (aa 0) ak)) (aA 0) bA (aN 2 ki (ae (aa 0) (ae (aa 1) ak)))))
def nA:FM:=runM 1 tS
def zo:SM:=
 (aP (setM 4 (bF 2 [1,3] (kr (ae (aa 0) (ae (aa 2) ak))) (cH (aT (aA 0) (aT (aA 1) cL)) 2) bA (ao iR (ao cG (aa 0) (aa 3)) (ao cG (aa 1) (aa 2)))))
 (bQ (d9 1 mj (ae (aa 4) ak))))
def qq:FM:=runM 5 zo
def sI:SM:=
 (aP (setM 4 (bF 2 [1,3] (kr (ae (aa 0) (ae (aa 2) ak))) (cH (aT (aA 0) (aT (aA 1) cL)) 2) bA (ao iR (ao cG (aa 0) (aa 3)) (ao cG (aa 1) (aa 2)))))
 (bQ (aN 1 iQ (ae (aa 4) ak))))
def gT:FM:=runM 5 sI
def yK:SM:=
 (bQ (bF 1 [1] (listI (aa 0)) (aA 0) bA (ao ixD (aa 0) (aa 1))))
def jw:FM:=runM 2 yK
def cS:SM:=
 (ifS (a9 (ao neD (aa 2) (au (.int 0))))
 (bQ (aa 1))
 bX)
def gs:SM:=
 (aP (fO (cZ (ae (aa 0) ak)) (cH (aT (aA 1) (aT (aA 2) cL)) 2)
 cS)
 (bQ (au .non)))
def di:FM:=runM 3 gs
def lC:SM:=
 (aP (ifS (a9 (ao gtD (ao ixD (aa 0) (aa 1)) (au (.int 0))))
 (bQ (aa 0))
 bX)
 (bQ (bF 1 [] (listI (aa 0)) (aA 0) bA (unM jb (aa 0)))))
def gK:FM:=runM 2 lC
def vK:SM:=
 (aP (ifS (a9 (ao eqD (ao ixD (aa 0) (aa 2)) (au (.int 0))))
 (bQ (aa 0))
 bX)
 (bQ (aN 4 gT (ae (aa 0) (ae (ao ixD (aa 0) (aa 2)) (ae (aa 1) (ae (ao ixD (aa 1) (aa 2)) ak)))))))
def iL:FM:=runM 3 vK
def kJ:SM:=
 (aP (setM 5 (aN 1 di (ae (j8 2 jw (ae (aa 2) (ae (aa 4) ak))) ak)))
 (ifS (a9 (ao oP (aa 5) (au .non)))
 (aP (setM 6 (aN 2 gK (ae (Fe (aa 2) (aa 5)) (ae (aa 4) ak))))
 (aP (setM 2 (nv 1 [4,6] (listI (aa 2)) (aA 0) bA (aN 3 iL (ae (aa 0) (ae (aa 2) (ae (aa 1) ak))))))
 (aP (setM 3 (nv 1 [4,6] (listI (aa 3)) (aA 0) bA (aN 3 iL (ae (aa 0) (ae (aa 2) (ae (aa 1) ak))))))
 (dA (ir (aa 3) (aa 6))))))
 bX))
def BF:SM:=
 (aP (setM 2 (nv 1 [] (listI (aa 0)) (aA 0) bA (aN 1 iQ (ae (aa 0) ak))))
 (aP (setM 3 (jk ak))
 (aP (fO (dB (ae (aa 1) ak)) (aA 4)
 kJ)
 (bQ (iu (aa 3))))))
def xh:FM:=runM 7 BF
def jW:SM:=
 (aP (setM 2 (bF 1 [1] (listI (aa 0)) (aA 0) bA (aN 2 bq (ae (aa 1) (ae (aa 0) ak)))))
 (aP (setM 3 (aN 1 di (ae (aa 2) ak)))
 (aP (ifS (a9 (ao isD (aa 3) (au .non)))
 (bQ (aa 0))
 bX)
 (aP (setM 4 (ao ixD (aa 0) (aa 3)))
 (aP (setM 5 (ao ixD (aa 2) (aa 3)))
 (bQ (bF 2 [4,5,3,2] (cZ (ae (aa 0) ak)) (cH (aT (aA 0) (aT (aA 1) cL)) 2) (a9 (ao neD (aa 0) (aa 4))) (aN 4 gT (ae (aa 1) (ae (ao ixD (aa 5) (aa 0)) (ae (aa 2) (ae (aa 3) ak))))))))))))
def f6:FM:=runM 6 jW
def rm:SM:=
 (setM 2 (aN 2 f6 (ae (aa 2) (ae (aa 3) ak))))
def By:SM:=
 (aP (setM 2 (aN 1 nA (ae (aa 1) ak)))
 (aP (fO (listI (aa 0)) (aA 3)
 rm)
 (bQ (aN 2 xh (ae (aa 2) (ae (aa 1) ak))))))
def jQ:FM:=runM 4 By
def u6:SM:=
 (aP (setM 2 (bF 1 [1,0] (dB (ae (a8 bY (ae (aa 1) ak)) ak)) (aA 0) bA (j8 2 jw (ae (ao bh (iT (ae (aa 1) ak)) (aa 2)) (ae (aa 0) ak)))))
 (aP (setM 3 (aN 2 jQ (ae (aa 2) (ae (ao bh (au (.int 1)) (a8 bY (ae (aa 0) ak))) ak))))
 (aP (ifS (orT (pb (Dk (aa 3))) (a9 (ao eqD (ao ixD (ao ixD (aa 3) (au (.int 0))) (au (.int 0))) (au (.int 0)))))
 (bQ (au .non))
 bX)
 (bQ (jT (ae (ao ixD (ao ixD (aa 3) (au (.int 0))) (au (.int 0))) (ae (bF 1 [] (listI (slM (ao ixD (aa 3) (au (.int 0))) (part (au (.int 1))) gj)) (aA 0) bA (unM jb (aa 0))) ak)))))))
def oR:FM:=runM 4 u6
def pf:SM:=
 (aP (setM 1 (ao cG (aa 1) (au (.int 2))))
 (ifS (a9 (ao gtD (aa 2) (au (.int 0))))
 (setM 1 (ao bh (aa 1) (au (.int 1))))
 bX))
def sG:SM:=
 (aP (setM 1 (au (.int 0)))
 (aP (fO (listI (aa 0)) (aA 2)
 pf)
 (bQ (aa 1))))
def ey:FM:=runM 3 sG
def uP:SM:=
 (bQ (ao eqD (ao orD (aa 0) (aa 1)) (aa 1)))
def iD:FM:=runM 2 uP
def mx:SM:=
 (aP (setM 3 (ao orD (aa 0) (aa 1)))
 (bQ (ao eqD (a8 bY (ae (bF 1 [3] (listI (aa 2)) (aA 0) (a9 (aN 2 iD (ae (aa 0) (ae (aa 1) ak)))) (aa 0)) ak)) (au (.int 2)))))
def hU:FM:=runM 4 mx
def gN:SM:=
 (ifS (a9 (aN 3 hU (ae (ao ixD (aa 3) (aa 7)) (ae (ao ixD (aa 3) (aa 8)) (ae (aa 3) ak)))))
 (dA (ir (aa 4) (zK 4 qq (ae (ao ixD (aa 0) (aa 8)) (ae (ao ixD (aa 2) (aa 8)) (ae (ao ixD (aa 0) (aa 7)) (ae (ao ixD (aa 2) (aa 7)) ak)))))))
 bX)
def jm:SM:=
 (fO (listI (aa 6)) (aA 8)
 gN)
def kv:SM:=
 (aP (setM 2 (bF 1 [1] (listI (aa 0)) (aA 0) bA (gC 2 bq (ae (aa 1) (ae (aa 0) ak)))))
 (aP (setM 3 (bF 1 [] (listI (aa 0)) (aA 0) bA (gC 1 ey (ae (aa 0) ak))))
 (aP (setM 4 (nv 2 [] (kr (ae (aa 0) (ae (aa 2) ak))) (cH (aT (aA 0) (aT (aA 1) cL)) 2) (a9 (ao eqD (aa 1) (au (.int 0)))) (aa 0)))
 (aP (setM 5 (bF 2 [] (cZ (ae (aa 2) ak)) (cH (aT (aA 0) (aT (aA 1) cL)) 2) (a9 (ao gtD (aa 1) (au (.int 0)))) (aa 0)))
 (aP (setM 6 (bF 2 [] (cZ (ae (aa 2) ak)) (cH (aT (aA 0) (aT (aA 1) cL)) 2) (a9 (ao ltD (aa 1) (au (.int 0)))) (aa 0)))
 (aP (fO (listI (aa 5)) (aA 7)
 jm)
 (bQ (iu (aa 4)))))))))
def iG:FM:=runM 9 kv
def zD:SM:=
 (setM 2 (j8 2 iG (ae (aa 2) (ae (aa 3) ak))))
def Et:SM:=
 (aP (setM 2 (j8 1 wY (ae (aa 1) ak)))
 (aP (fO (listI (aa 0)) (aA 3)
 zD)
 (bQ (w9 rV (aa 2)))))
def i4:FM:=runM 4 Et
def sv:SM:=
 (aP (ifS (a9 (ao neD (a8 bY (ae (aa 2) ak)) (aa 1)))
 jV
 bX)
 (aP (ifS (a9 (a8 Ea (ae (bF 1 [] (listI (aa 2)) (aA 0) bA (ao ltD (aa 0) (au (.int 0)))) ak)))
 jV
 bX)
 (ifS (a9 (a8 Ea (ae (bF 1 [2] (listI (aa 0)) (aA 0) bA (ao neD (aN 2 bq (ae (aa 0) (ae (aa 1) ak))) (au (.int 0)))) ak)))
 jV
 bX)))
def oB:FM:=runM 3 sv
def eV:SM:=
 (ifS (o8 (a9 (ao gtD (aa 4) (au (.int 0)))) (a9 (ao ltD (ao cG (ao ixD (aa 0) (aa 3)) (ao ixD (aa 1) (aa 2))) (ao cG (ao ixD (aa 0) (aa 2)) (aa 4)))))
 (setM 2 (aa 3))
 bX)
def mI:SM:=
 (aP (setM 2 (aN 1 di (ae (aa 1) ak)))
 (aP (fO (cZ (ae (aa 1) ak)) (cH (aT (aA 3) (aT (aA 4) cL)) 2)
 eV)
 (bQ (aa 2))))
def hE:FM:=runM 5 mI
def m8:SM:=
 (ifS (a9 (aN 2 iD (ae (gC 1 ey (ae (aa 6) ak)) (ae (gC 1 ey (ae (aa 4) ak)) ak))))
 (aP (setM 7 (gC 2 hE (ae (aa 4) (ae (aa 6) ak))))
 (aP (dA (ir (aa 3) (jT (ae (aN 2 pX (ae (ao ixD (aa 4) (aa 7)) (ae (ao cG (aa 5) (ao ixD (aa 6) (aa 7))) ak))) (ae (aa 6) ak)))))
 (aP (setM 8 (p9 2 [7,4,6] (tx (ae (aa 4) (ae (aa 6) ak))) (cH (aT (aA 0) (aT (aA 1) cL)) 2) bA (ao iR (ao cG (aa 0) (ao ixD (aa 4) (aa 2))) (ao cG (aa 1) (ao ixD (aa 3) (aa 2))))))
 (aP (setM 9 (iu (d9 1 mj (ae (ao bh (aa 8) (iT (ae (ao cG (aa 5) (ao ixD (aa 6) (aa 7))) ak))) ak))))
 (aP (setM 4 (slM (aa 9) gj (part (aa 1))))
 (setM 5 (ao ixD (aa 9) (aa 1))))))))
 bX)
def zr:SM:=
 (aP (dA (aN 3 oB (ae (aa 0) (ae (aa 1) (ae (aa 2) ak)))))
 (aP (setM 3 (jk ak))
 (aP (setM 4 (a8 j9 (ae (aa 2) ak)))
 (aP (setM 5 (au (.int 1)))
 (aP (fO (listI (iu (d9 2 i4 (ae (aa 0) (ae (aa 1) ak))))) (aA 6)
 m8)
 (bQ (aa 3)))))))
def ui:FM:=runM 10 zr
def nj:SM:=
 (bQ (bF 1 [1] (listI (oa 0 "held_changes" (aa 0))) (aA 0) bA (ao ixD (aa 0) (aa 1))))
def ni:FM:=runM 2 nj
def fE:SM:=
 (bQ (bF 1 [0] (dB (ae (a8 bY (ae (oa 0 "held_goods" (aa 0)) ak)) ak)) (aA 0) bA (methP 0 "row" 1 ni (aa 1) (ae (aa 0) ak))))
def ee:FM:=runM 1 fE
def eN:SM:=
 (bQ (bF 1 [] (listI (oa 0 "held_works" (aa 0))) (aA 0) bA (ao ixD (aa 0) (au (.int 0)))))
def eO:FM:=runM 1 eN
def Er:SM:=
 (bQ (d9 2 i4 (ae (methP 0 "rows" 0 ee (aa 0) ak) (ae (a8 bY (ae (methP 0 "names" 0 eO (aa 0) ak) ak)) ak))))
def tu:FM:=runM 1 Er
def ip:SM:=
 (aP (ifS (a9 (ao neD (a8 bY (ae (aa 1) ak)) (a8 bY (ae (oa 0 "held_works" (aa 0)) ak))))
 jV
 bX)
 (ifS (a9 (a8 Ea (ae (bF 1 [] (listI (aa 1)) (aA 0) bA (ao ltD (aa 0) (au (.int 0)))) ak)))
 jV
 bX))
def g6:FM:=runM 2 ip
def gJ:SM:=
 (aP (dA (methP 0 "check_way" 1 g6 (aa 0) (ae (aa 1) ak)))
 (bQ (bF 1 [1] (listI (methP 0 "rows" 0 ee (aa 0) ak)) (aA 0) bA (aN 2 bq (ae (aa 0) (ae (aa 1) ak))))))
def dU:FM:=runM 2 gJ
def dE:SM:=
 (bQ (a8 Ht (ae (bF 1 [] (listI (methP 0 "leaves" 1 dU (aa 0) (ae (aa 1) ak))) (aA 0) bA (ao eqD (aa 0) (au (.int 0)))) ak)))
def dk:FM:=runM 2 dE
def yX:SM:=
 (aP (ifS (pb (a9 (methP 0 "balanced" 1 dk (aa 0) (ae (aa 1) ak))))
 jV
 bX)
 (bQ (d9 3 ui (ae (methP 0 "rows" 0 ee (aa 0) ak) (ae (a8 bY (ae (methP 0 "names" 0 eO (aa 0) ak) ak)) (ae (aa 1) ak))))))
def ud:FM:=runM 2 yX
def tL:SM:=
 (aP (setM 2 (methP 0 "names" 0 eO (aa 0) ak))
 (aP (ifS (a9 (ao tf (aa 1) (aa 2)))
 jV
 bX)
 (bQ (Dy (aa 2) (aa 1)))))
def m5:FM:=runM 3 tL
def dC:SM:=
 (ifS (a9 (ao gtD (ao ixD (aa 2) (aa 1)) (au (.int 0))))
 (bQ (aa 2))
 bX)
def kG:SM:=
 (aP (fO (listI (aa 0)) (aA 2)
 dC)
 (bQ (au .non)))
def gr:FM:=runM 3 kG
def nE:SM:=
 (aP (setM 2 (methP 0 "rows" 0 ee (aa 0) ak))
 (aP (setM 3 (a8 bY (ae (aa 1) ak)))
 (aP (setM 4 (bF 1 [1] (listI (aN 2 jQ (ae (aa 2) (ae (aa 3) ak)))) (aA 0) bA (ao bh (aa 0) (iT (ae (aN 2 bq (ae (aa 0) (ae (aa 1) ak))) ak)))))
 (aP (setM 5 (j8 2 gr (ae (iu (d9 2 i4 (ae (aa 4) (ae (ao bh (aa 3) (au (.int 1))) ak)))) (ae (aa 3) ak))))
 (aP (setM 6 (p9 2 [5,3] (tx (ae (aa 5) (ae (aa 1) ak))) (cH (aT (aA 0) (aT (aA 1) cL)) 2) bA (ao bh (aa 0) (ao cG (ao ixD (aa 2) (aa 3)) (aa 1)))))
 (aP (setM 7 (aN 2 oR (ae (aa 2) (ae (aa 6) ak))))
 (bQ (jT (ae (ao cG (ao ixD (aa 7) (au (.int 0))) (ao ixD (aa 5) (aa 3))) (ae (ao ixD (aa 7) (au (.int 1))) ak))))))))))
def j6:FM:=runM 8 nE
def vd:SM:=
 (aP (setM 2 (aN 2 m5 (ae (aa 0) (ae (aa 1) ak))))
 (aP (setM 3 (j8 2 gr (ae (iu (d9 1 tu (ae (aa 0) ak))) (ae (aa 2) ak))))
 (aP (ifS (a9 (ao oP (aa 3) (au .non)))
 (bQ (jT (ae (au (.str ("goes" :Str))) (ae (aa 3) ak))))
 bX)
 (aP (setM 4 (aN 2 j6 (ae (aa 0) (ae (aN 2 ki (ae (aa 2) (ae (a8 bY (ae (methP 0 "names" 0 eO (aa 0) ak) ak)) ak))) ak))))
 (bQ (jT (ae (au (.str ("never" :Str))) (ae (ao ixD (aa 4) (au (.int 1))) ak))))))))
def sW:FM:=runM 5 vd
def kC:SM:=
 (bQ (a8 j9 (ae (oa 0 "held_goods" (aa 0)) ak)))
def nB:FM:=runM 1 kC
def ng:SM:=
 (ifS (a9 (ao neD (a8 bY (ae (aa 1) ak)) (a8 bY (ae (methP 0 "goods" 0 nB (aa 0) ak) ak))))
 jV
 bX)
def j7:FM:=runM 2 ng
def vF:SM:=
 (aP (dA (aN 2 j7 (ae (aa 0) (ae (aa 1) ak))))
 (bQ (aN 2 bq (ae (aa 1) (ae (aa 2) ak)))))
def oM:FM:=runM 3 vF
def vf:SM:=
 (aP (ifS (orT (a9 (ao ltD (a8 bY (ae (aa 0) ak)) (au (.int 1)))) (a9 (ao gtD (a8 bY (ae (aa 0) ak)) (au (.int 8)))))
 (bQ (au (.bl xL)))
 bX)
 (bQ (a8 Ht (ae (bF 1 [] (Hh (aa 0)) (aA 0) bA (nD uz uz (au (.str ("a" :Str))) (aa 0) (au (.str ("z" :Str))))) ak))))
def oE:FM:=runM 1 vf
def qH:SM:=
 (aP (ifS (a9 (ao gtD (a8 bY (ae (aa 0) ak)) (au (.int 10))))
 jV
 bX)
 (ifS (a9 (ao gtD (a8 bY (ae (aa 1) ak)) (au (.int 10))))
 jV
 bX))
def ky:FM:=runM 2 qH
def qf:SM:=
 (aP (ifS (pb (a9 (aN 1 oE (ae (aa 0) ak))))
 jV
 bX)
 (ifS (a9 (ao inD (aa 0) (aa 1)))
 jV
 bX))
def g9:FM:=runM 2 qf
def j4:SM:=
 (dA (aN 2 g9 (ae (aa 2) (ae (slM (aa 0) gj (part (aa 1))) ak))))
def o3:SM:=
 (fO (cZ (ae (aa 0) ak)) (cH (aT (aA 1) (aT (aA 2) cL)) 2)
 j4)
def jD:FM:=runM 3 o3
def qL:SM:=
 (aP (ifS (a9 (ao tf (aa 0) (aa 1)))
 jV
 bX)
 (ifS (a9 (ao inD (aa 0) (aa 2)))
 jV
 bX))
def kD:FM:=runM 3 qL
def n8:SM:=
 (ifS (orT (pb (a9 (aN 1 gd (ae (aa 0) ak)))) (a9 (ao ltD (aa 0) (au (.int 1)))))
 jV
 bX)
def je:FM:=runM 1 n8
def j1:SM:=
 (aP (dA (gC 3 kD (ae (aa 3) (ae (aa 1) (ae (aa 2) ak)))))
 (aP (dA (aN 1 je (ae (aa 4) ak)))
 (dA (ir (aa 2) (aa 3)))))
def o7:SM:=
 (aP (setM 2 (jk ak))
 (fO (listI (aa 0)) (cH (aT (aA 3) (aT (aA 4) cL)) 2)
 j1))
def fW:FM:=runM 5 o7
def j3:SM:=
 (aP (dA (gC 2 g9 (ae (aa 3) (ae (aa 2) ak))))
 (aP (dA (aN 2 fW (ae (aa 4) (ae (aa 1) ak))))
 (aP (dA (aN 2 fW (ae (aa 5) (ae (aa 1) ak))))
 (dA (ir (aa 2) (aa 3))))))
def oY:SM:=
 (aP (setM 2 (jk ak))
 (fO (listI (aa 0)) (cH (aT (aA 3) (aT (aA 4) (aT (aA 5) cL))) 3)
 j3))
def jz:FM:=runM 6 oY
def sJ:SM:=
 (bQ (jT (ae (ao ixD (aa 0) (au (.int 0))) (ae (a8 j9 (ae (ao ixD (aa 0) (au (.int 1))) ak)) (ae (a8 j9 (ae (ao ixD (aa 0) (au (.int 2))) ak)) ak)))))
def lK:FM:=runM 1 sJ
def si:SM:=
 (bQ (a8 pe (ae (bF 1 [0] (listI (aa 1)) (aA 0) (a9 (ao eqD (ao ixD (aa 0) (au (.int 0))) (aa 1))) (ao ixD (aa 0) (au (.int 1)))) ak)))
def fN:FM:=runM 2 si
def rO:SM:=
 (bQ (bF 1 [0] (listI (aa 1)) (aA 0) bA (ao iR (aN 2 fN (ae (aa 0) (ae (ao ixD (aa 1) (au (.int 2))) ak))) (aN 2 fN (ae (aa 0) (ae (ao ixD (aa 1) (au (.int 1))) ak))))))
def lF:FM:=runM 2 rO
def lJ:SM:=
 (aP (dA (aN 2 ky (ae (aa 1) (ae (aa 2) ak))))
 (aP (dA (aN 1 jD (ae (aa 1) ak)))
 (aP (dA (aN 2 jz (ae (aa 2) (ae (aa 1) ak))))
 (aP (uj 0 "held_goods" (aa 0) (a8 j9 (ae (aa 1) ak)))
 (aP (uj 0 "held_works" (aa 0) (bF 1 [] (listI (aa 2)) (aA 0) bA (aN 1 lK (ae (aa 0) ak))))
 (uj 0 "held_changes" (aa 0) (bF 1 [1] (listI (aa 2)) (aA 0) bA (aN 2 lF (ae (aa 0) (ae (aa 1) ak))))))))))
def jN:FM:=runM 3 lJ
def ug:SM:=
 (aP (ifS (a9 (ao ltD (aa 1) (a8 bY (ae (aa 0) ak))))
 (bQ (ao ixD (aa 0) (aa 1)))
 bX)
 (bQ (au (.int 0))))
def cQ:FM:=runM 2 ug
def uf:SM:=
 (aP (setM 3 (ao ik (ao cG (ao bh (ao ik (aa 0) (au (.int 2147483647))) (au (.int 7))) (ao bh (au (.int 48271)) (ao cG (au (.int 7919)) (aa 1)))) (au (.int 2147483647))))
 (bQ (ao ik (ao gy (ao ik (ao cG (aa 3) (au (.int 16807))) (au (.int 2147483647))) (au (.int 8))) (aa 2))))
def aR:FM:=runM 4 uf
def jE:SM:=
 (setM 3 (ao bh (aa 3) (ao ixD (aa 2) (aN 3 aR (ae (aa 0) (ae (ao bh (au (.int 2)) (aa 4)) (ae (au (.int 26)) ak)))))))
def sA:SM:=
 (aP (setM 2 (au (.str ("abcdefghijklmnopqrstuvwxyz" :Str))))
 (aP (setM 3 (au (.str ("" :Str))))
 (aP (fO (dB (ae (aN 3 aR (ae (aa 0) (ae (au (.int 1)) (ae (au (.int 8)) ak)))) ak)) (aA 4)
 jE)
 (aP (setM 5 (aN 3 aR (ae (aa 0) (ae (au (.int 10)) (ae (ao bh (a8 bY (ae (aa 3) ak)) (au (.int 1))) ak)))))
 (aP (setM 6 (aN 3 aR (ae (aa 0) (ae (au (.int 11)) (ae (au (.int 26)) ak)))))
 (bQ (bF 1 [6,2,5,3] (dB (ae (aa 1) ak)) (aA 0) bA (ao bh (ao bh (slS (aa 4) gj (part (aa 3))) (ao ixD (aa 2) (ao ik (ao bh (aa 1) (ao cG (au (.int 5)) (aa 0))) (au (.int 26))))) (slS (aa 4) (part (aa 3)) gj)))))))))
def fM:FM:=runM 7 sA
def nq:SM:=
 (aP (setM 7 (ao iR (aN 3 aR (ae (aa 0) (ae (ao bh (au (.int 20)) (aa 6)) (ae (au (.int 7)) ak)))) (au (.int 3))))
 (aP (ifS (a9 (aa 2))
 (setM 7 (ao iR (ao bh (ao cG (aa 7) (ao ik (aa 0) (ao tR (au (.int 10)) (au (.int 12))))) (aN 3 aR (ae (aa 0) (ae (ao bh (au (.int 30)) (aa 6)) (ae (au (.int 2000)) ak))))) (au (.int 1000))))
 bX)
 (aP (ifS (o8 (a9 (ao eqD (ao ik (aa 0) (au (.int 2))) (au (.int 1)))) (a9 (ao gtD (aa 4) (au (.int 0)))))
 (aP (setM 7 (ao iR (ao ik (aa 4) (aa 5)) (ao gy (aa 5) (au (.int 2)))))
 (setM 4 (ao gy (aa 4) (aa 5))))
 bX)
 (dA (ir (aa 3) (aa 7))))))
def ue:SM:=
 (aP (setM 3 (jk ak))
 (aP (setM 4 (ao gy (aa 0) (au (.int 2))))
 (aP (setM 5 (ao ixD (iT (ae (au (.int 7)) (ae (ao bh (ao cG (au (.int 2)) (ao tR (au (.int 10)) (au (.int 12)))) (au (.int 1))) ak))) (a8 intOf (ae (aa 2) ak))))
 (aP (fO (dB (ae (aa 1) ak)) (aA 6)
 nq)
 (bQ (aa 3))))))
def nI:FM:=runM 8 ue
def jF:SM:=
 (dA (ir (aa 4) (iu (d9 3 nI (ae (ao bh (aN 2 cQ (ae (aa 0) (ae (ao bh (ao bh (aa 1) (au (.int 1))) (aa 6)) ak))) (ao cG (au (.int 13)) (aa 6))) (ae (aa 2) (ae (aa 5) ak)))))))
def jB:SM:=
 (aP (setM 8 (bF 1 [3,6] (dB (ae (a8 bY (ae (aa 4) ak)) ak)) (aA 0) bA (ao ik (aN 3 aR (ae (aa 1) (ae (ao bh (ao bh (au (.int 50)) (ao cG (au (.int 7)) (aa 2))) (aa 0)) (ae (au (.int 4)) ak)))) (au (.int 3)))))
 (aP (setM 9 (bF 1 [4,8] (dB (ae (aa 2) ak)) (aA 0) bA (a8 pe (ae (bF 1 [0,1,2] (dB (ae (a8 bY (ae (aa 1) ak)) ak)) (aA 0) bA (ao cG (ao ixD (aa 3) (aa 0)) (ao ixD (ao ixD (aa 2) (aa 0)) (aa 1)))) ak))))
 (aP (dA (ir (aa 4) (bF 1 [] (listI (aa 9)) (aA 0) bA (unM jb (aa 0)))))
 (dA (ir (aa 7) (ao bh (aa 8) (iT (ae (au (.int 1)) ak))))))))
def sN:SM:=
 (aP (setM 3 (aN 2 cQ (ae (aa 0) (ae (aa 1) ak))))
 (aP (setM 4 (jk ak))
 (aP (setM 5 (ao eqD (aN 3 aR (ae (aa 3) (ae (au (.int 41)) (ae (au (.int 6)) ak)))) (au (.int 0))))
 (aP (fO (dB (ae (ao ik (aN 3 aR (ae (aa 3) (ae (au (.int 40)) (ae (au (.int 5)) ak)))) (ao iR (au (.int 5)) (ao cG (au (.int 2)) (a8 intOf (ae (aa 5) ak))))) ak)) (aA 6)
 jF)
 (aP (setM 7 (jk ak))
 (aP (fO (dB (ae (ao gy (aN 3 aR (ae (aa 3) (ae (au (.int 42)) (ae (au (.int 3)) ak)))) (ao bh (au (.int 1)) (a8 intOf (ae (aa 5) ak)))) ak)) (aA 6)
 jB)
 (aP (ifS (o8 (a9 (ao eqD (aN 3 aR (ae (aa 3) (ae (au (.int 43)) (ae (au (.int 5)) ak)))) (au (.int 0)))) (a9 (ao ltD (a8 bY (ae (aa 4) ak)) (au (.int 6)))))
 (aP (dA (xk (aa 4) (bF 1 [] (dB (ae (aa 2) ak)) (aA 0) bA (au (.int 0)))))
 (setM 7 (E5 (bF 1 [] (listI (aa 7)) (aA 0) bA (ao bh (iT (ae (au (.int 0)) ak)) (aa 0))) (iT (ae (iT (ae (au (.int 1)) ak)) ak)))))
 bX)
 (aP (ifS (o8 (a9 (ao eqD (aN 3 aR (ae (aa 3) (ae (au (.int 44)) (ae (au (.int 5)) ak)))) (au (.int 0)))) (a9 (nD ltD ltD (au (.int 0)) (a8 bY (ae (aa 4) ak)) (au (.int 6)))))
 (dA (ir (aa 4) (a8 j9 (ae (ao ixD (aa 4) (unM jb (au (.int 1)))) ak))))
 bX)
 (bQ (jT (ae (aa 4) (ae (nv 1 [4] (listI (aa 7)) (aA 0) bA (ao bh (aa 0) (bF 1 [] (dB (ae (ao iR (a8 bY (ae (aa 1) ak)) (a8 bY (ae (aa 0) ak))) ak)) (aA 0) bA (au (.int 0))))) ak))))))))))))
def iM:FM:=runM 10 sN
def jG:SM:=
 (aP (setM 11 (ao cG (ao gy (aN 3 aR (ae (ao bh (aa 3) (aa 5)) (ae (ao bh (au (.int 70)) (aa 9)) (ae (au (.int 4)) ak)))) (au (.int 3))) (ao bh (au (.int 1)) (aN 3 aR (ae (ao bh (aa 3) (aa 5)) (ae (ao bh (au (.int 80)) (aa 9)) (ae (au (.int 9)) ak)))))))
 (aP (ifS (a9 (ao gtD (ao bh (aa 11) (a8 pG (ae (au (.int 0)) (ae (unM jb (aa 10)) ak)))) (au (.int 0))))
 (dA (ir (aa 7) (jT (ae (ao ixD (aa 1) (aa 9)) (ae (ao bh (aa 11) (a8 pG (ae (au (.int 0)) (ae (unM jb (aa 10)) ak)))) ak)))))
 bX)
 (ifS (a9 (ao gtD (ao bh (aa 11) (a8 pG (ae (au (.int 0)) (ae (aa 10) ak)))) (au (.int 0))))
 (dA (ir (aa 8) (jT (ae (ao ixD (aa 1) (aa 9)) (ae (ao bh (aa 11) (a8 pG (ae (au (.int 0)) (ae (aa 10) ak)))) ak)))))
 bX)))
def jy:SM:=
 (aP (setM 7 (jk ak))
 (aP (setM 8 (jk ak))
 (aP (fO (cZ (ae (aa 6) ak)) (cH (aT (aA 9) (aT (aA 10) cL)) 2)
 jG)
 (aP (ifS (a9 (ao eqD (aN 3 aR (ae (ao bh (aa 3) (aa 5)) (ae (au (.int 90)) (ae (au (.int 2)) ak)))) (au (.int 1))))
 (setM 7 (Ek Ho (aa 7) gj gj (part (unM jb (au (.int 1))))))
 bX)
 (dA (ir (aa 4) (jT (ae (ao ixD (aa 2) (aa 5)) (ae (Ef (aa 7)) (ae (iu (aa 8)) ak))))))))))
def sr:SM:=
 (aP (setM 4 (jk ak))
 (aP (fO (cZ (ae (aa 0) ak)) (cH (aT (aA 5) (aT (aA 6) cL)) 2)
 jy)
 (bQ (iu (aa 4)))))
def iN:FM:=runM 12 sr
def lU:SM:=
 (aP (setM 6 (aN 3 aR (ae (aa 2) (ae (ao bh (au (.int 100)) (aa 4)) (ae (au (.int 4)) ak)))))
 (aP (ifS (a9 (ao eqD (aN 3 aR (ae (aa 2) (ae (ao bh (au (.int 110)) (aa 4)) (ae (au (.int 4)) ak)))) (au (.int 0))))
 (setM 6 (ao ik (aa 2) (ao tR (au (.int 10)) (au (.int 12)))))
 bX)
 (setM 3 (bF 2 [6] (kr (ae (aa 3) (ae (aa 5) ak))) (cH (aT (aA 0) (aT (aA 1) cL)) 2) bA (ao bh (aa 0) (ao cG (aa 2) (aa 1)))))))
def sM:SM:=
 (aP (setM 3 (bF 1 [] (dB (ae (aa 1) ak)) (aA 0) bA (au (.int 0))))
 (aP (fO (cZ (ae (aa 0) ak)) (cH (aT (aA 4) (aT (aA 5) cL)) 2)
 lU)
 (bQ (aa 3))))
def lP:FM:=runM 7 sM
def rG:SM:=
 (aP (setM 6 (bF 1 [2] (listI (aa 1)) (aA 0) bA (a8 pe (ae (bF 2 [] (kr (ae (aa 1) (ae (aa 0) ak))) (cH (aT (aA 0) (aT (aA 1) cL)) 2) bA (ao cG (aa 0) (aa 1))) ak))))
 (aP (ifS (orT (a9 (ao neD (ao ixD (aa 5) (aa 3)) (au (.int 0)))) (a9 (ao ltD (a8 Aq (ae (aa 6) ak)) (au (.int 0)))))
 (bQ (au (.bl xL)))
 bX)
 (aP (setM 7 (a8 pe (ae (bF 2 [] (kr (ae (aa 6) (ae (aa 4) ak))) (cH (aT (aA 0) (aT (aA 1) cL)) 2) bA (ao cG (aa 0) (aa 1))) ak)))
 (aP (ifS (a9 (ao neD (aN 3 oM (ae (aa 0) (ae (aa 2) (ae (methP 0 "leaves" 1 dU (aa 0) (ae (aa 4) ak)) ak)))) (aa 7)))
 (bQ (au (.bl xL)))
 bX)
 (bQ (orV (ao eqD (ao ixD (aa 4) (aa 3)) (au (.int 0))) (EK (ao gtD (aa 7) (au (.int 0))) (ao isD (methP 0 "balanced" 1 dk (aa 0) (ae (aa 4) ak)) (au (.bl xL))))))))))
def ow:FM:=runM 8 rG
def sS:SM:=
 (aP (kL (d9 2 sW (ae (aa 7) (ae (ao ixD (aa 6) (aa 9)) ak))) (cH (aT (aA 10) (aT (aA 11) cL)) 2))
 (aP (setM 12 (bF 1 [9,0] (dB (ae (a8 bY (ae (aa 3) ak)) ak)) (aA 0) bA (aN 3 aR (ae (ao bh (aN 2 cQ (ae (aa 2) (ae (au (.int 6)) ak))) (aa 1)) (ae (ao bh (au (.int 10)) (aa 0)) (ae (au (.int 4)) ak))))))
 (ifS (a9 (ao eqD (aa 10) (au (.str ("never" :Str)))))
 (ifS (pb (a9 (aN 6 ow (ae (aa 7) (ae (aa 3) (ae (aa 11) (ae (aa 9) (ae (aa 12) (ae (aa 8) ak)))))))))
 (bQ (au (.bl xL)))
 bX)
 (aP (setM 13 (p9 2 [] (tx (ae (aa 11) (ae (aa 8) ak))) (cH (aT (aA 0) (aT (aA 1) cL)) 2) bA (ao bh (aa 0) (aa 1))))
 (ifS (orT (a9 (ao ltD (ao ixD (aa 11) (aa 9)) (au (.int 1)))) (orT (a9 (ao Ia (methP 0 "balanced" 1 dk (aa 7) (ae (aa 13) ak)) (au (.bl ss)))) (a9 (ao eqD (a8 bY (ae (iu (d9 2 ud (ae (aa 7) (ae (aa 13) ak)))) ak)) (au (.int 0))))))
 (bQ (au (.bl xL)))
 bX)))))
def HI:SM:=
 (aP (setM 1 (aN 2 cQ (ae (aa 0) (ae (au (.int 0)) ak))))
 (aP (setM 2 (ao bh (au (.int 1)) (aN 3 aR (ae (aa 1) (ae (au (.int 45)) (ae (au (.int 4)) ak))))))
 (aP (kL (BE (d9 3 iM (ae (aa 0) (ae (au (.int 0)) (ae (aa 2) ak))))) (cH (aT (aA 3) (aT (aA 4) cL)) 2))
 (aP (setM 5 (aN 2 fM (ae (ao bh (aa 1) (au (.int 1))) (ae (aa 2) ak))))
 (aP (setM 6 (aN 2 fM (ae (aa 1) (ae (a8 bY (ae (aa 3) ak)) ak))))
 (aP (setM 7 (xi 0 2 jN (ae (aa 5) (ae (aN 4 iN (ae (aa 3) (ae (aa 5) (ae (aa 6) (ae (aa 1) ak))))) ak))))
 (aP (setM 8 (aN 3 lP (ae (aa 4) (ae (a8 bY (ae (aa 3) ak)) (ae (aN 2 cQ (ae (aa 0) (ae (au (.int 5)) ak))) ak)))))
 (aP (fO (dB (ae (a8 bY (ae (aa 3) ak)) ak)) (aA 9)
 sS)
 (bQ (au (.bl ss)))))))))))
def Dh:FM:=runM 14 HI
section
variable {e : Ev}
theorem Fx:aY ["value"] ["value"] (aM uy):=cq
abbrev tO(e:Ev):Prop:=DIn e 35 "is_whole" ["value"] gd
theorem F0(F:FA e "is_whole" uy)(ac:e.P.given.tree=qh)(J:N0 e "isinstance")(ab:N0 e "int")(Y:N0 e "bool"):tO e:=by
 exact bJ F Fx rfl ∅ (bd1 λ_ _ _ _ _ _ _=>rfl) λ_ _ _ _ _ _ _ hr hu am=>#[_,(aG (bc (JB (bj EW rfl J Boot.«isinstance» (ah (pv 0) (ah (GH (v:=.ty "int") rfl ab Boot.«int» rfl) aq))) (Ew (P8 (bj EW rfl J Boot.«isinstance» (ah (pv 0) (ah (GH (v:=.ty "bool") rfl Y Boot.«bool» rfl) aq)))))))),
  (ba (GR (Jw ty_int (af 0)) (NI (Jw ty_bool (af 0)))))]
theorem fV:aY ["one","other","rest"] ["one","other"] (aM mr):=cq
abbrev mK(e:Ev):Prop:=DIn e 35 "measure_of_two" ["one","other"] f7
theorem xC(F:FA e "measure_of_two" mr)(Y:e.P.given.tree=qh)(J:N0 e "abs"):mK e:=by
 exact bJ F fV rfl ∅ (bd2 λ_ _ _ _ _ _ _ _=>rfl) λ_ _ _ _ _ _ _ hr hu ab=>#[_,(ax (a0 (i:=0) fV.nd rfl (tt rfl) (bj Du rfl J Boot.«abs» (ah (pv 0) aq)))
 (ax (a0 (i:=1) fV.nd rfl (tt rfl) (bj Du rfl J Boot.«abs» (ah (pv 1) aq)))
 (ax (L1 PassesOwn.never (bC (um hu) (pv 1) aF bK)
 (ax (a0 (i:=2) fV.nd rfl (tt rfl) (aV iC (pv 0) (pv 1)))
 (ax (a0 (i:=0) fV.nd rfl (tt rfl) (pv 1))
 (aG (a0 (i:=1) fV.nd rfl (tt rfl) (pv 2))))))
 (aG (bc (pv 0)))))),
  (aH (aS (a7 Jc (ai (af 0) ar)))
 (aH (aS (a7 Jc (ai (af 1) ar)))
 (aH (LV (bP (av pB (af 1) (aE 0)))
 (aH (aS (av jC (af 0) (af 1)))
 (aH (aS (af 1))
 (aS (af 2)))))
 (ba (af 0)))))]
theorem pR:aY ["numbers","common","number"] ["numbers"] (aM vE):=cq
abbrev wK(e:Ev):Prop:=DIn e 36 "measure" ["numbers"] kx
theorem Hc(F:FA e "measure" vE)(J:e.P.given.tree=qh)(Y:mK e):wK e:=by
 exact bJ F pR rfl ∅ (bd1 λ_ _ _ _ _ _ _=>rfl) λ_ _ _ _ _ _ _ hr hu ab=>#[_,(ax (a0 (i:=1) pR.nd rfl (tt rfl) aF)
 (ax (eY PassesOwn.never rfl (b9 (pv 0)) (aO (i:=2) pR.nd rfl (tt rfl))
 (aG (a0 (i:=1) pR.nd rfl (tt rfl) (aJ Y hr (ah (pv 1) (ah (pv 2) aq))))))
 (aG (bc (pv 1))))),
  (aH (aS (aE 0))
 (aH (fb (cf (af 0)) (aK 2)
 (aS (aQ (n:=2) (f:=f7) (ai (af 1) (ai (af 2) ar)))))
 (ba (af 1))))]
theorem BN:aY ["numbers","common"] ["numbers"] (aM yP):=cq
abbrev yy(e:Ev):Prop:=DIn e 37 "lowest" ["numbers"] mj
theorem Iy(F:FA e "lowest" yP)(Y:e.P.given.tree=qh)(J:N0 e "list")(wB:wK e):yy e:=by
 exact bJ F BN rfl ∅ (bd1 λ_ _ _ _ _ _ _=>rfl) λ_ _ _ _ _ _ _ hr hu ab=>#[_,(ax (a0 (i:=1) BN.nd rfl (S2 rfl) (aJ wB hr (ah (pv 0) aq)))
 (ax (cE (bC (jn hu) (pv 1) aF bK)
 (aG (bc (gw gi rfl J Boot.«list» (ah (pv 0) aq))))
 bM)
 (aG (bc (cz (own:=["number"]) (cap:=["common"]) (caps:=[1]) rfl (scC #[rfl,tt rfl,rfl,trivial]) (b9 (pv 0)) (λ_ _ _=>(aO (i:=0) (ndL ["number"] ["common"]) rfl (tt rfl))) (λ_ _ _=>bI) (λ_ _ _=>(aV (lM ab Y #[_,_,rfl,rfl,rfl,rfl,rfl]) (pv 0) (pv 1)))))))),
  (aH (aS (aQ (n:=1) (f:=kx) (ai (af 0) ar)))
 (aH (cJ (bP (av gP (af 1) (aE 0)))
 (ba (Md (af 0)))
 bN)
 (ba (nU (m:=1) (caps:=[1]) (cf (af 0)) (aK 0) bG (av jI (af 0) (af 1))))))]
theorem wC:aY ["numbers","common"] ["numbers"] (aM xR):=cq
abbrev sx(e:Ev):Prop:=DIn e 37 "lowest" ["numbers"] iQ
theorem Eo(F:FA e "lowest" xR)(Y:e.P.given.tree=qh)(J:N0 e "list")(wB:wK e):sx e:=by
 exact bJ F wC rfl ∅ (bd1 λ_ _ _ _ _ _ _=>rfl) λ_ _ _ _ _ _ _ hr hu ab=>#[_,(ax (a0 (i:=1) wC.nd rfl (S2 rfl) (aJ wB hr (ah (pv 0) aq)))
 (ax (cE (bC (jn hu) (pv 1) aF bK)
 (aG (bc (gw gi rfl J Boot.«list» (ah (pv 0) aq))))
 bM)
 (aG (bc (cz (own:=["number"]) (cap:=["common"]) (caps:=[1]) rfl (scC #[rfl,tt rfl,rfl,trivial]) (b9 (pv 0)) (λ_ _ _=>(aO (i:=0) (ndL ["number"] ["common"]) rfl (tt rfl))) (λ_ _ _=>bI) (λ_ _ _=>(aV (lM ab Y #[_,_,rfl,rfl,rfl,rfl,rfl]) (pv 0) (pv 1)))))))),
  (aH (aS (aQ (n:=1) (f:=kx) (ai (af 0) ar)))
 (aH (cJ (bP (av gP (af 1) (aE 0)))
 (ba (a7 my (ai (af 0) ar)))
 bN)
 (ba (bO (m:=1) (caps:=[1]) (cf (af 0)) (aK 0) bG (av jI (af 0) (af 1))))))]
theorem yL:aY ["top","bottom","common"] ["top","bottom"] (aM BI):=cq
abbrev GJ(e:Ev):Prop:=DIn e 36 "ratio" ["top","bottom"] pX
theorem K9(F:FA e "ratio" BI)(J:e.P.given.tree=qh)(pS:tO e)(mE:mK e):GJ e:=by
 exact bJ F yL rfl ∅ (bd2 λ_ _ _ _ _ _ _ _=>rfl) λ_ _ _ _ _ _ _ hr hu Y=>#[_,(ax (cE (PW.pt (pw_or (qa (i6 (aJ pS hr (ah (pv 0) aq)))) (pw_or1 (qa (i6 (aJ pS hr (ah (pv 1) aq)))))))
 (aG eU)
 bM)
 (ax (cE (bC (jn hu) (pv 1) aF bK)
 (aG eU)
 bM)
 (ax (a0 (i:=2) yL.nd rfl (tt rfl) (aJ mE hr (ah (pv 0) (ah (pv 1) aq))))
 (ax (cE (bC kM (pv 1) aF bK)
 (aG (a0 (i:=2) yL.nd rfl (tt rfl) (rh oO (pv 2))))
 bM)
 (aG (bc (ko (ah (aV (lM Y J #[_,_,rfl,rfl,rfl,rfl,rfl]) (pv 0) (pv 2)) (ah (aV (lM Y J #[_,_,rfl,rfl,rfl,rfl,rfl]) (pv 1) (pv 2)) aq))))))))),
  (aH (cJ (tZ (qp (kX (aQ (n:=1) (f:=gd) (ai (af 0) ar)))) (qp (kX (aQ (n:=1) (f:=gd) (ai (af 1) ar)))))
 eT
 bN)
 (aH (cJ (bP (av gP (af 1) (aE 0)))
 eT
 bN)
 (aH (aS (aQ (n:=2) (f:=f7) (ai (af 0) (ai (af 1) ar))))
 (aH (cJ (bP (av k9 (af 1) (aE 0)))
 (aS (rk oN (af 2)))
 bN)
 (ba (kj (ai (av jI (af 0) (af 2)) (ai (av jI (af 1) (af 2)) ar))))))))]
theorem vH:aY ["numbers","others"] ["numbers","others"] (aM lu):=cq
abbrev fe(e:Ev):Prop:=DIn e 35 "sum_of_products" ["numbers","others"] bq
theorem wA(F:FA e "sum_of_products" lu)(ab:e.P.given.tree=qh)(J:N0 e "zip")(Y:N0 e "sum"):fe e:=by
 exact bJ F vH rfl ∅ (bd2 λ_ _ _ _ _ _ _ _=>rfl) λ_ _ _ _ _ _ _ hr hu ac=>#[_,(aG (bc (bj (oF rfl) rfl Y Boot.«sum» (ah (cz (own:=["number","other"]) (cap:=[]) (caps:=[]) rfl (scC trivial) (lS rfl J (ah (pv 0) (ah (pv 1) aq))) (λ_ _ _=>(eR rfl (bu (aO (i:=0) (ndL ["number","other"] []) rfl (tt rfl)) (bu (aO (i:=1) (ndL ["number","other"] []) rfl (tt rfl)) dZ)))) (λ_ _ _=>bI) (λ_ _ _=>(aV eM (pv 0) (pv 1)))) aq)))),
  (ba (a7 vS (ai (bO (m:=2) (caps:=[]) (qM (ai (af 0) (ai (af 1) ar))) (d0 (br (aK 0) (br (aK 1) dW))) bG (av dN (af 0) (af 1))) ar)))]
theorem GD:aY ["at","many","told"] ["at","many"] (aM Em):=cq
abbrev JC(e:Ev):Prop:=DIn e 35 "unit" ["at","many"] vo
theorem Nj(F:FA e "unit" Em)(J:e.P.given.tree=qh):JC e:=by
 exact bJ F GD rfl ∅ (bd2 λ_ _ _ _ _ _ _ _=>rfl) λ_ _ _ _ _ _ _ hr hu Y=>#[_,(ax (a0 (i:=2) GD.nd rfl (tt rfl) (aV Ja (fJ (ah aF aq)) (pv 1)))
 (ax (zX aF (JZ (pv 2) (pv 0) set_list))
 (aG (bc (pv 2))))),
  (aH (aS (Gn (ai (aE 0) ar) (af 1)))
 (aH (vk (aE 1) (JR (af 2) (af 0)))
 (ba (af 2))))]
theorem zM:aY ["at","many","told"] ["at","many"] (aM CL):=cq
abbrev u7(e:Ev):Prop:=DIn e 35 "unit" ["at","many"] ki
theorem HG(F:FA e "unit" CL)(J:e.P.given.tree=qh):u7 e:=by
 exact bJ F zM rfl ∅ (bd2 λ_ _ _ _ _ _ _ _=>rfl) λ_ _ _ _ _ _ _ hr hu Y=>#[_,(ax (a0 (i:=2) zM.nd rfl (tt rfl) (aV Ja (fJ (ah aF aq)) (pv 1)))
 (ax (zX aF (JZ (pv 2) (pv 0) set_list))
 (aG (bc (pv 2))))),
  (aH (aS (Gn (ai (aE 0) ar) (af 1)))
 (aH (vk (aE 1) (JR (af 2) (af 0)))
 (ba (kK (af 2)))))]
theorem Lr:aY ["many"] ["many"] (aM AI):=cq
abbrev GK(e:Ev):Prop:=DIn e 36 "units" ["many"] wY
theorem Lx(F:FA e "units" AI)(Y:e.P.given.tree=qh)(J:N0 e "range")(Qn:JC e):GK e:=by
 exact bJ F Lr rfl ∅ (bd1 λ_ _ _ _ _ _ _=>rfl) λ_ _ _ _ _ _ _ hr hu ac=>#[_,(aG (bc (cz (own:=["at"]) (cap:=["many"]) (caps:=[0]) rfl (scC #[rfl,tt rfl,rfl,trivial]) (dQ rfl J (ah (pv 0) aq)) (λ_ _ _=>(aO (i:=0) (ndL ["at"] ["many"]) rfl (tt rfl))) (λ_ _ _=>bI) (λ_ _ _=>(aJ Qn hr (ah (pv 0) (ah (pv 1) aq))))))),
  (ba (bO (m:=1) (caps:=[0]) (ft (ai (af 0) ar)) (aK 0) bG (gH (n:=2) (f:=vo) (ai (af 0) (ai (af 1) ar)))))]
theorem Fu:aY ["many"] ["many"] (aM zT):=cq
abbrev Ad(e:Ev):Prop:=DIn e 36 "units" ["many"] nA
theorem FP(F:FA e "units" zT)(Y:e.P.given.tree=qh)(J:N0 e "range")(v8:u7 e):Ad e:=by
 exact bJ F Fu rfl ∅ (bd1 λ_ _ _ _ _ _ _=>rfl) λ_ _ _ _ _ _ _ hr hu ac=>#[_,(aG (bc (cz (own:=["at"]) (cap:=["many"]) (caps:=[0]) rfl (scC #[rfl,tt rfl,rfl,trivial]) (dQ rfl J (ah (pv 0) aq)) (λ_ _ _=>(aO (i:=0) (ndL ["at"] ["many"]) rfl (tt rfl))) (λ_ _ _=>bI) (λ_ _ _=>(aJ v8 hr (ah (pv 0) (ah (pv 1) aq))))))),
  (ba (bO (m:=1) (caps:=[0]) (ft (ai (af 0) ar)) (aK 0) bG (aQ (n:=2) (f:=ki) (ai (af 0) (ai (af 1) ar)))))]
theorem Co:aY ["one","one_value","other","other_value","mixed"] ["one","one_value","other","other_value"] (aM yU):=cq
abbrev Dv(e:Ev):Prop:=DIn e 38 "offset" ["one","one_value","other","other_value"] qq
theorem JD(F:FA e "offset" yU)(Y:e.P.given.tree=qh)(J:N0 e "zip")(yG:yy e):Dv e:=by
 exact bJ F Co rfl ∅ (bd4 λ_ _ _ _ _ _ _ _ _ _=>rfl) λ_ _ _ _ _ _ _ hr hu ac=>#[_,(ax (c9 (i:=4) (own:=["number","other_number"]) (cap:=["one_value","other_value"]) (caps:=[1,3]) rfl (scC #[rfl,tt rfl,rfl,#[rfl,tt rfl,rfl,trivial]]) (lS rfl J (ah (pv 0) (ah (pv 2) aq))) (λ_ _ _=>(eR rfl (bu (aO (i:=0) (ndL ["number","other_number"] ["one_value","other_value"]) rfl (tt rfl)) (bu (aO (i:=1) (ndL ["number","other_number"] ["one_value","other_value"]) rfl (tt rfl)) dZ)))) (λ_ _ _=>bI) (λ_ _ _=>(aV nr (aV eM (pv 0) (pv 3)) (aV eM (pv 1) (pv 2)))) Co.nd rfl (tt rfl) rfl)
 (aG (bc (aJ yG hr (ah (pv 4) aq))))),
  (aH (aS (bO (m:=2) (caps:=[1,3]) (qM (ai (af 0) (ai (af 2) ar))) (d0 (br (aK 0) (br (aK 1) dW))) bG (av nF (av dN (af 0) (af 3)) (av dN (af 1) (af 2)))))
 (ba (gH (n:=1) (f:=mj) (ai (af 4) ar))))]
theorem vO:aY ["one","one_value","other","other_value","mixed"] ["one","one_value","other","other_value"] (aM xH):=cq
abbrev r8(e:Ev):Prop:=DIn e 38 "offset" ["one","one_value","other","other_value"] gT
theorem D9(F:FA e "offset" xH)(Y:e.P.given.tree=qh)(J:N0 e "zip")(rS:sx e):r8 e:=by
 exact bJ F vO rfl ∅ (bd4 λ_ _ _ _ _ _ _ _ _ _=>rfl) λ_ _ _ _ _ _ _ hr hu ac=>#[_,(ax (c9 (i:=4) (own:=["number","other_number"]) (cap:=["one_value","other_value"]) (caps:=[1,3]) rfl (scC #[rfl,tt rfl,rfl,#[rfl,tt rfl,rfl,trivial]]) (lS rfl J (ah (pv 0) (ah (pv 2) aq))) (λ_ _ _=>(eR rfl (bu (aO (i:=0) (ndL ["number","other_number"] ["one_value","other_value"]) rfl (tt rfl)) (bu (aO (i:=1) (ndL ["number","other_number"] ["one_value","other_value"]) rfl (tt rfl)) dZ)))) (λ_ _ _=>bI) (λ_ _ _=>(aV nr (aV eM (pv 0) (pv 3)) (aV eM (pv 1) (pv 2)))) vO.nd rfl (tt rfl) rfl)
 (aG (bc (aJ rS hr (ah (pv 4) aq))))),
  (aH (aS (bO (m:=2) (caps:=[1,3]) (qM (ai (af 0) (ai (af 2) ar))) (d0 (br (aK 0) (br (aK 1) dW))) bG (av nF (av dN (af 0) (af 3)) (av dN (af 1) (af 2)))))
 (ba (aQ (n:=1) (f:=iQ) (ai (af 4) ar))))]
theorem JH:aY ["rows","at"] ["rows","at"] (aM zF):=cq
abbrev yt(e:Ev):Prop:=DIn e 35 "column" ["rows","at"] jw
theorem JY(F:FA e "column" zF)(J:e.P.given.tree=qh):yt e:=by
 exact bJ F JH rfl ∅ (bd2 λ_ _ _ _ _ _ _ _=>rfl) λ_ _ _ _ _ _ _ hr hu Y=>#[_,(aG (bc (cz (own:=["row"]) (cap:=["at"]) (caps:=[1]) rfl (scC #[rfl,tt rfl,rfl,trivial]) (b9 (pv 0)) (λ_ _ _=>(aO (i:=0) (ndL ["row"] ["at"]) rfl (tt rfl))) (λ_ _ _=>bI) (λ_ _ _=>(bS bE (pv 0) (pv 1) (λ_ _=>rfl)))))),
  (ba (bO (m:=1) (caps:=[1]) (cf (af 0)) (aK 0) bG (av bR (af 0) (af 1))))]
theorem jU:aY ["numbers","at","number"] ["numbers"] (aM ke):=cq
abbrev iH(e:Ev):Prop:=DIn e 35 "first_not_nought" ["numbers"] di
theorem u4(F:FA e "first_not_nought" ke)(Y:e.P.given.tree=qh)(J:N0 e "enumerate"):iH e:=by
 exact bJ F jU rfl ∅ (bd1 λ_ _ _ _ _ _ _=>rfl) λ_ _ _ _ _ _ _ hr hu ab=>#[_,(ax (eY PassesOwn.never rfl (k7 rfl J (ah (pv 0) aq)) (eR rfl (bu (aO (i:=1) jU.nd rfl (tt rfl)) (bu (aO (i:=2) jU.nd rfl (tt rfl)) dZ)))
 (aG (cE (bC (um hu) (pv 2) aF bK)
 (aG (bc (pv 1)))
 bM)))
 (aG (bc tm))),
  (aH (fb (fP (ai (af 0) ar)) (d0 (br (aK 1) (br (aK 2) dW)))
 (cJ (bP (av pB (af 2) (aE 0)))
 (ba (af 1))
 bN))
 (ba tj))]
theorem vq:aY ["row","at"] ["row","at"] (aM lr):=cq
abbrev pj(e:Ev):Prop:=DIn e 35 "with_sign_above" ["row","at"] gK
theorem wj(F:FA e "with_sign_above" lr)(J:e.P.given.tree=qh):pj e:=by
 exact bJ F vq rfl ∅ (bd2 λ_ _ _ _ _ _ _ _=>rfl) λ_ _ _ _ _ _ _ hr hu Y=>#[_,(ax (cE (bC lZ (bS bE (pv 0) (pv 1) (λ_ _=>rfl)) aF bK)
 (aG (bc (pv 0)))
 bM)
 (aG (bc (cz (own:=["number"]) (cap:=[]) (caps:=[]) rfl (scC trivial) (b9 (pv 0)) (λ_ _ _=>(aO (i:=0) (ndL ["number"] []) rfl (tt rfl))) (λ_ _ _=>bI) (λ_ _ _=>(rh oO (pv 0))))))),
  (aH (cJ (bP (av lX (av bR (af 0) (af 1)) (aE 0)))
 (ba (af 0))
 bN)
 (ba (bO (m:=1) (caps:=[]) (cf (af 0)) (aK 0) bG (rk oN (af 0)))))]
theorem HD:aY ["row","lead_row","at"] ["row","lead_row","at"] (aM va):=cq
abbrev CG(e:Ev):Prop:=DIn e 39 "cleared" ["row","lead_row","at"] iL
theorem Hy(F:FA e "cleared" va)(J:e.P.given.tree=qh)(Y:r8 e):CG e:=by
 exact bJ F HD rfl ∅ (bd3 λ_ _ _ _ _ _ _ _ _=>rfl) λ_ _ _ _ _ _ _ hr hu ab=>#[_,(ax (cE (bC (jn hu) (bS bE (pv 0) (pv 2) (λ_ _=>rfl)) aF bK)
 (aG (bc (pv 0)))
 bM)
 (aG (bc (aJ Y hr (ah (pv 0) (ah (bS bE (pv 0) (pv 2) (λ_ _=>rfl)) (ah (pv 1) (ah (bS bE (pv 1) (pv 2) (λ_ _=>rfl)) aq)))))))),
  (aH (cJ (bP (av gP (av bR (af 0) (af 2)) (aE 0)))
 (ba (af 0))
 bN)
 (ba (aQ (n:=4) (f:=gT) (ai (af 0) (ai (av bR (af 0) (af 2)) (ai (af 1) (ai (av bR (af 1) (af 2)) ar)))))))]
theorem kF:aY ["rows","many","left","done","at","found","lead_row"] ["rows","many"] (aM Bq):=cq
abbrev GN(e:Ev):Prop:=DIn e 40 "plain" ["rows","many"] xh
theorem Kh(F:FA e "plain" Bq)(ab:e.P.given.tree=qh)(J:N0 e "range")(rS:sx e)(gx:iH e)(zj:yt e)(xA:pj e)(Y:CG e):GN e:=by
 exact bJ F kF rfl ∅ (bd2 λ_ _ _ _ _ _ _ _=>rfl) λ_ _ _ _ _ _ _ hr hu as=>#[_,(ax (c9 (i:=2) (own:=["row"]) (cap:=[]) (caps:=[]) rfl (scC trivial) (b9 (pv 0)) (λ_ _ _=>(aO (i:=0) (ndL ["row"] []) rfl (tt rfl))) (λ_ _ _=>bI) (λ_ _ _=>(aJ rS hr (ah (pv 0) aq))) kF.nd rfl (tt rfl) rfl)
 (ax (a0 (i:=3) kF.nd rfl (tt rfl) (fJ aq))
 (ax (eY PassesOwn.never rfl (dQ rfl J (ah (pv 1) aq)) (aO (i:=4) kF.nd rfl (S2 rfl))
 (ax (a0 (i:=5) kF.nd rfl (tt rfl) (aJ gx hr (ah (aJ zj hr (ah (pv 2) (ah (pv 4) aq))) aq)))
 (aG (cE (bC G0 (pv 5) tm bK)
 (ax (a0 (i:=6) kF.nd rfl (S2 rfl) (aJ xA hr (ah (iW Go PySem.F.slot_list_pop PySem.F.type_list_pop Kk (pv 2) (ah (pv 5) aq)) (ah (pv 4) aq))))
 (ax (c9 (i:=2) (own:=["row"]) (cap:=["at","lead_row"]) (caps:=[4,6]) rfl (scC #[rfl,tt rfl,rfl,#[rfl,tt rfl,rfl,trivial]]) (b9 (pv 2)) (λ_ _ _=>(aO (i:=0) (ndL ["row"] ["at","lead_row"]) rfl (tt rfl))) (λ_ _ _=>bI) (λ_ _ _=>(aJ Y hr (ah (pv 0) (ah (pv 2) (ah (pv 1) aq))))) kF.nd rfl (tt rfl) rfl)
 (ax (c9 (i:=3) (own:=["row"]) (cap:=["at","lead_row"]) (caps:=[4,6]) rfl (scC #[rfl,tt rfl,rfl,#[rfl,tt rfl,rfl,trivial]]) (b9 (pv 3)) (λ_ _ _=>(aO (i:=0) (ndL ["row"] ["at","lead_row"]) rfl (tt rfl))) (λ_ _ _=>bI) (λ_ _ _=>(aJ Y hr (ah (pv 0) (ah (pv 2) (ah (pv 1) aq))))) kF.nd rfl (tt rfl) rfl)
 (aG (du (iW Go No M2 fo (pv 3) (ah (pv 6) aq)))))))
 bM))))
 (aG (bc (pv 3)))))),
  (aH (aS (nU (m:=1) (caps:=[]) (cf (af 0)) (aK 0) bG (aQ (n:=1) (f:=iQ) (ai (af 0) ar))))
 (aH (aS (jK ar))
 (aH (fb (ft (ai (af 1) ar)) (aK 4)
 (aH (aS (aQ (n:=1) (f:=di) (ai (nK (n:=2) (f:=jw) (ai (af 2) (ai (af 4) ar))) ar)))
 (cJ (bP (av DQ (af 5) tj))
 (aH (aS (aQ (n:=2) (f:=gK) (ai (Qc (af 2) (af 5)) (ai (af 4) ar))))
 (aH (aS (nU (m:=1) (caps:=[4,6]) (cf (af 2)) (aK 0) bG (aQ (n:=3) (f:=iL) (ai (af 0) (ai (af 2) (ai (af 1) ar))))))
 (aH (aS (nU (m:=1) (caps:=[4,6]) (cf (af 3)) (aK 0) bG (aQ (n:=3) (f:=iL) (ai (af 0) (ai (af 2) (ai (af 1) ar))))))
 (dv (jc (af 3) (af 6))))))
 bN)))
 (ba (kK (af 3))))))]
theorem fQ:aY ["lists","row","values","found","base","base_value"] ["lists","row"] (aM jS):=cq
abbrev nJ(e:Ev):Prop:=DIn e 39 "still_by_one_more" ["lists","row"] f6
theorem tw(F:FA e "still_by_one_more" jS)(Y:e.P.given.tree=qh)(J:N0 e "enumerate")(de:fe e)(gx:iH e)(rY:r8 e):nJ e:=by
 exact bJ F fQ rfl ∅ (bd2 λ_ _ _ _ _ _ _ _=>rfl) λ_ _ _ _ _ _ _ hr hu an=>#[_,(ax (a0 (i:=2) fQ.nd rfl (S2 rfl) (cz (own:=["one"]) (cap:=["row"]) (caps:=[1]) rfl (scC #[rfl,tt rfl,rfl,trivial]) (b9 (pv 0)) (λ_ _ _=>(aO (i:=0) (ndL ["one"] ["row"]) rfl (tt rfl))) (λ_ _ _=>bI) (λ_ _ _=>(aJ de hr (ah (pv 1) (ah (pv 0) aq))))))
 (ax (a0 (i:=3) fQ.nd rfl (S2 rfl) (aJ gx hr (ah (pv 2) aq)))
 (ax (cE (bC Qu (pv 3) tm bK)
 (aG (bc (pv 0)))
 bM)
 (ax (a0 (i:=4) fQ.nd rfl (S2 rfl) (bS bE (pv 0) (pv 3) (λ_ _=>rfl)))
 (ax (a0 (i:=5) fQ.nd rfl (S2 rfl) (bS bE (pv 2) (pv 3) (λ_ _=>rfl)))
 (aG (bc (cz (own:=["at","one"]) (cap:=["base","base_value","found","values"]) (caps:=[4,5,3,2]) rfl (scC #[rfl,tt rfl,rfl,#[rfl,tt rfl,rfl,#[rfl,tt rfl,rfl,#[rfl,tt rfl,rfl,trivial]]]]) (k7 rfl J (ah (pv 0) aq)) (λ_ _ _=>(eR rfl (bu (aO (i:=0) (ndL ["at","one"] ["base","base_value","found","values"]) rfl (tt rfl)) (bu (aO (i:=1) (ndL ["at","one"] ["base","base_value","found","values"]) rfl (tt rfl)) dZ)))) (λ_ _ _=>(pT (bC (um hu) (pv 0) (pv 4) bK))) (λ_ _ _=>(aJ rY hr (ah (pv 1) (ah (bS bE (pv 5) (pv 0) (λ_ _=>rfl)) (ah (pv 2) (ah (pv 3) aq)))))))))))))),
  (aH (aS (bO (m:=1) (caps:=[1]) (cf (af 0)) (aK 0) bG (aQ (n:=2) (f:=bq) (ai (af 1) (ai (af 0) ar)))))
 (aH (aS (aQ (n:=1) (f:=di) (ai (af 2) ar)))
 (aH (cJ (bP (av MK (af 3) tj))
 (ba (af 0))
 bN)
 (aH (aS (av bR (af 0) (af 3)))
 (aH (aS (av bR (af 2) (af 3)))
 (ba (bO (m:=2) (caps:=[4,5,3,2]) (fP (ai (af 0) ar)) (d0 (br (aK 0) (br (aK 1) dW))) (bP (av pB (af 0) (af 4))) (aQ (n:=4) (f:=gT) (ai (af 1) (ai (av bR (af 5) (af 0)) (ai (af 2) (ai (af 3) ar))))))))))))]
theorem ur:aY ["rows","many","lists","row"] ["rows","many"] (aM AL):=cq
abbrev AY(e:Ev):Prop:=DIn e 41 "still" ["rows","many"] jQ
theorem L3(F:FA e "still" AL)(J:e.P.given.tree=qh)(Y:Ad e)(u5:nJ e)(NB:GN e):AY e:=by
 exact bJ F ur rfl ∅ (bd2 λ_ _ _ _ _ _ _ _=>rfl) λ_ _ _ _ _ _ _ hr hu am=>#[_,(ax (a0 (i:=2) ur.nd rfl (tt rfl) (aJ Y hr (ah (pv 1) aq)))
 (ax (eY PassesOwn.never rfl (b9 (pv 0)) (aO (i:=3) ur.nd rfl (tt rfl))
 (aG (a0 (i:=2) ur.nd rfl (tt rfl) (aJ u5 hr (ah (pv 2) (ah (pv 3) aq))))))
 (aG (bc (aJ NB hr (ah (pv 2) (ah (pv 1) aq))))))),
  (aH (aS (aQ (n:=1) (f:=nA) (ai (af 1) ar)))
 (aH (fb (cf (af 0)) (aK 3)
 (aS (aQ (n:=2) (f:=f6) (ai (af 2) (ai (af 3) ar)))))
 (ba (aQ (n:=2) (f:=xh) (ai (af 2) (ai (af 1) ar))))))]
theorem tM:aY ["rows","goal","across","found"] ["rows","goal"] (aM we):=cq
abbrev BU(e:Ev):Prop:=DIn e 42 "made_of" ["rows","goal"] oR
theorem Hv(F:FA e "made_of" we)(ab:e.P.given.tree=qh)(J:N0 e "len")(Y:N0 e "range")(zj:yt e)(Bc:AY e):BU e:=by
 exact bJ F tM rfl ∅ (bd2 λ_ _ _ _ _ _ _ _=>rfl) λ_ _ _ _ _ _ _ hr hu an=>#[_,(ax (c9 (i:=2) (own:=["at"]) (cap:=["goal","rows"]) (caps:=[1,0]) rfl (scC #[rfl,tt rfl,rfl,#[rfl,tt rfl,rfl,trivial]]) (dQ rfl Y (ah (bj cy rfl J Boot.«len» (ah (pv 1) aq)) aq)) (λ_ _ _=>(aO (i:=0) (ndL ["at"] ["goal","rows"]) rfl (tt rfl))) (λ_ _ _=>bI) (λ_ _ _=>(aJ zj hr (ah (aV cF (fJ (ah (pv 1) aq)) (pv 2)) (ah (pv 0) aq)))) tM.nd rfl (tt rfl) rfl)
 (ax (a0 (i:=3) tM.nd rfl (tt rfl) (aJ Bc hr (ah (pv 2) (ah (aV cF aF (bj cy rfl J Boot.«len» (ah (pv 0) aq))) aq))))
 (ax (cE (PW.pt (pw_or (qa (KG (pv 3) (λ_=>rfl))) (pw_or1 (bC (jn hu) (bS bE (bS bE (pv 3) aF (λ_ _=>rfl)) aF (λ_ _=>rfl)) aF bK))))
 (aG (bc tm))
 bM)
 (aG (bc (ko (ah (bS bE (bS bE (pv 3) aF (λ_ _=>rfl)) aF (λ_ _=>rfl)) (ah (cz (own:=["number"]) (cap:=[]) (caps:=[]) rfl (scC trivial) (b9 (qt Bo (bS bE (pv 3) aF (λ_ _=>rfl)) (pW aF) n9)) (λ_ _ _=>(aO (i:=0) (ndL ["number"] []) rfl (tt rfl))) (λ_ _ _=>bI) (λ_ _ _=>(rh oO (pv 0)))) aq)))))))),
  (aH (aS (bO (m:=1) (caps:=[1,0]) (ft (ai (a7 dy (ai (af 1) ar)) ar)) (aK 0) bG (nK (n:=2) (f:=jw) (ai (av bZ (oQ (ai (af 1) ar)) (af 2)) (ai (af 0) ar)))))
 (aH (aS (aQ (n:=2) (f:=jQ) (ai (af 2) (ai (av bZ (aE 1) (a7 dy (ai (af 0) ar))) ar))))
 (aH (cJ (tZ (qp (Pp (af 3))) (bP (av gP (av bR (av bR (af 3) (aE 0)) (aE 0)) (aE 0))))
 (ba tj)
 bN)
 (ba (kj (ai (av bR (av bR (af 3) (aE 0)) (aE 0)) (ai (bO (m:=1) (caps:=[]) (cf (G8 (av bR (af 3) (aE 0)) (pZ (aE 1)) kb)) (aK 0) bG (rk oN (af 0))) ar)))))))]
theorem kB:aY ["numbers","bits","number"] ["numbers"] (aM rL):=cq
abbrev rF(e:Ev):Prop:=DIn e 35 "places_of" ["numbers"] ey
theorem D6(F:FA e "places_of" rL)(J:e.P.given.tree=qh):rF e:=by
 exact bJ F kB rfl ∅ (bd1 λ_ _ _ _ _ _ _=>rfl) λ_ _ _ _ _ _ _ hr hu Y=>#[_,(ax (a0 (i:=1) kB.nd rfl (tt rfl) aF)
 (ax (eY PassesOwn.never rfl (b9 (pv 0)) (aO (i:=2) kB.nd rfl (tt rfl))
 (ax (a0 (i:=1) kB.nd rfl (tt rfl) (aV eM (pv 1) aF))
 (aG (cE (bC lZ (pv 2) aF bK)
 (aG (a0 (i:=1) kB.nd rfl (tt rfl) (aV cF (pv 1) aF)))
 bM))))
 (aG (bc (pv 1))))),
  (aH (aS (aE 0))
 (aH (fb (cf (af 0)) (aK 2)
 (aH (aS (av dN (af 1) (aE 2)))
 (cJ (bP (av lX (af 2) (aE 0)))
 (aS (av bZ (af 1) (aE 1)))
 bN)))
 (ba (af 1))))]
theorem FE:aY ["places","others"] ["places","others"] (aM uc):=cq
abbrev tX(e:Ev):Prop:=DIn e 35 "is_among" ["places","others"] iD
theorem FW(F:FA e "is_among" uc)(J:e.P.given.tree=qh):tX e:=by
 exact bJ F FE rfl ∅ (bd2 λ_ _ _ _ _ _ _ _=>rfl) λ_ _ _ _ _ _ _ hr hu Y=>#[_,(aG (bc (jM (jn hu) (aV MH (pv 0) (pv 1)) (pv 1) bK))),
  (ba (av gP (av IU (af 0) (af 1)) (af 1)))]
theorem ph:aY ["one","other","all_places","both"] ["one","other","all_places"] (aM mC):=cq
abbrev qs(e:Ev):Prop:=DIn e 36 "are_neighbours" ["one","other","all_places"] hU
theorem xD(F:FA e "are_neighbours" mC)(Y:e.P.given.tree=qh)(J:N0 e "len")(uO:tX e):qs e:=by
 exact bJ F ph rfl ∅ (bd3 λ_ _ _ _ _ _ _ _ _=>rfl) λ_ _ _ _ _ _ _ hr hu ac=>#[_,(ax (a0 (i:=3) ph.nd rfl (S2 rfl) (aV MH (pv 0) (pv 1)))
 (aG (bc (jM (jn hu) (bj cy rfl J Boot.«len» (ah (cz (own:=["places"]) (cap:=["both"]) (caps:=[3]) rfl (scC #[rfl,tt rfl,rfl,trivial]) (b9 (pv 2)) (λ_ _ _=>(aO (i:=0) (ndL ["places"] ["both"]) rfl (tt rfl))) (λ_ _ _=>(pT (i6 (aJ uO hr (ah (pv 0) (ah (pv 1) aq)))))) (λ_ _ _=>(pv 0))) aq)) aF bK)))),
  (aH (aS (av IU (af 0) (af 1)))
 (ba (av gP (a7 dy (ai (bO (m:=1) (caps:=[3]) (cf (af 2)) (aK 0) (kX (aQ (n:=2) (f:=iD) (ai (af 0) (ai (af 1) ar)))) (af 0)) ar)) (aE 2))))]
theorem dP:aY ["lists","row","values","places","told","above","below","high","low"] ["lists","row"] (aM kh):=cq
abbrev oI(e:Ev):Prop:=DIn e 39 "lone_by_one_more" ["lists","row"] iG
theorem uZ(F:FA e "lone_by_one_more" kh)(ab:e.P.given.tree=qh)(Y:N0 e "zip")(J:N0 e "enumerate")(de:fe e)(oj:rF e)(zE:qs e)(Ly:Dv e):oI e:=by
 exact bJ F dP rfl ∅ (bd2 λ_ _ _ _ _ _ _ _=>rfl) λ_ _ _ _ _ _ _ hr hu as=>#[_,(ax (c9 (i:=2) (own:=["one"]) (cap:=["row"]) (caps:=[1]) rfl (scC #[rfl,tt rfl,rfl,trivial]) (b9 (pv 0)) (λ_ _ _=>(aO (i:=0) (ndL ["one"] ["row"]) rfl (tt rfl))) (λ_ _ _=>bI) (λ_ _ _=>(aJ de hr (ah (pv 1) (ah (pv 0) aq)))) dP.nd rfl (tt rfl) rfl)
 (ax (c9 (i:=3) (own:=["one"]) (cap:=[]) (caps:=[]) rfl (scC trivial) (b9 (pv 0)) (λ_ _ _=>(aO (i:=0) (ndL ["one"] []) rfl (tt rfl))) (λ_ _ _=>bI) (λ_ _ _=>(aJ oj hr (ah (pv 0) aq))) dP.nd rfl (tt rfl) rfl)
 (ax (c9 (i:=4) (own:=["one","value"]) (cap:=[]) (caps:=[]) rfl (scC trivial) (lS rfl Y (ah (pv 0) (ah (pv 2) aq))) (λ_ _ _=>(eR rfl (bu (aO (i:=0) (ndL ["one","value"] []) rfl (tt rfl)) (bu (aO (i:=1) (ndL ["one","value"] []) rfl (tt rfl)) dZ)))) (λ_ _ _=>(pT (bC (jn hu) (pv 1) aF bK))) (λ_ _ _=>(pv 0)) dP.nd rfl (tt rfl) rfl)
 (ax (c9 (i:=5) (own:=["at","value"]) (cap:=[]) (caps:=[]) rfl (scC trivial) (k7 rfl J (ah (pv 2) aq)) (λ_ _ _=>(eR rfl (bu (aO (i:=0) (ndL ["at","value"] []) rfl (tt rfl)) (bu (aO (i:=1) (ndL ["at","value"] []) rfl (tt rfl)) dZ)))) (λ_ _ _=>(pT (bC lZ (pv 1) aF bK))) (λ_ _ _=>(pv 0)) dP.nd rfl (tt rfl) rfl)
 (ax (c9 (i:=6) (own:=["at","value"]) (cap:=[]) (caps:=[]) rfl (scC trivial) (k7 rfl J (ah (pv 2) aq)) (λ_ _ _=>(eR rfl (bu (aO (i:=0) (ndL ["at","value"] []) rfl (tt rfl)) (bu (aO (i:=1) (ndL ["at","value"] []) rfl (tt rfl)) dZ)))) (λ_ _ _=>(pT (bC kM (pv 1) aF bK))) (λ_ _ _=>(pv 0)) dP.nd rfl (tt rfl) rfl)
 (ax (eY PassesOwn.never rfl (b9 (pv 5)) (aO (i:=7) dP.nd rfl (tt rfl))
 (aG (eY PassesOwn.never rfl (b9 (pv 6)) (aO (i:=8) dP.nd rfl (tt rfl))
 (aG (cE (i6 (aJ zE hr (ah (bS bE (pv 3) (pv 7) (λ_ _=>rfl)) (ah (bS bE (pv 3) (pv 8) (λ_ _=>rfl)) (ah (pv 3) aq)))))
 (aG (du (iW Go No M2 fo (pv 4) (ah (aJ Ly hr (ah (bS bE (pv 0) (pv 8) (λ_ _=>rfl)) (ah (bS bE (pv 2) (pv 8) (λ_ _=>rfl)) (ah (bS bE (pv 0) (pv 7) (λ_ _=>rfl)) (ah (bS bE (pv 2) (pv 7) (λ_ _=>rfl)) aq))))) aq))))
 bM)))))
 (aG (bc (pv 4))))))))),
  (aH (aS (bO (m:=1) (caps:=[1]) (cf (af 0)) (aK 0) bG (mD (n:=2) (f:=bq) (ai (af 1) (ai (af 0) ar)))))
 (aH (aS (bO (m:=1) (caps:=[]) (cf (af 0)) (aK 0) bG (mD (n:=1) (f:=ey) (ai (af 0) ar))))
 (aH (aS (nU (m:=2) (caps:=[]) (qM (ai (af 0) (ai (af 2) ar))) (d0 (br (aK 0) (br (aK 1) dW))) (bP (av gP (af 1) (aE 0))) (af 0)))
 (aH (aS (bO (m:=2) (caps:=[]) (fP (ai (af 2) ar)) (d0 (br (aK 0) (br (aK 1) dW))) (bP (av lX (af 1) (aE 0))) (af 0)))
 (aH (aS (bO (m:=2) (caps:=[]) (fP (ai (af 2) ar)) (d0 (br (aK 0) (br (aK 1) dW))) (bP (av k9 (af 1) (aE 0))) (af 0)))
 (aH (fb (cf (af 5)) (aK 7)
 (fb (cf (af 6)) (aK 8)
 (cJ (kX (aQ (n:=3) (f:=hU) (ai (av bR (af 3) (af 7)) (ai (av bR (af 3) (af 8)) (ai (af 3) ar)))))
 (dv (jc (af 4) (Ld (n:=4) (f:=qq) (ai (av bR (af 0) (af 8)) (ai (av bR (af 2) (af 8)) (ai (av bR (af 0) (af 7)) (ai (av bR (af 2) (af 7)) ar)))))))
 bN)))
 (ba (kK (af 4)))))))))]
theorem xm:aY ["rows","many","lists","row"] ["rows","many"] (aM Fl):=cq
abbrev Av(e:Ev):Prop:=DIn e 40 "lone" ["rows","many"] i4
theorem NM(F:FA e "lone" Fl)(Y:e.P.given.tree=qh)(J:N0 e "sorted")(NF:GK e)(u9:oI e):Av e:=by
 exact bJ F xm rfl ∅ (bd2 λ_ _ _ _ _ _ _ _=>rfl) λ_ _ _ _ _ _ _ hr hu am=>#[_,(ax (a0 (i:=2) xm.nd rfl (tt rfl) (aJ NF hr (ah (pv 1) aq)))
 (ax (eY PassesOwn.never rfl (b9 (pv 0)) (aO (i:=3) xm.nd rfl (tt rfl))
 (aG (a0 (i:=2) xm.nd rfl (tt rfl) (aJ u9 hr (ah (pv 2) (ah (pv 3) aq))))))
 (aG (bc (bj (EY hu) rfl J Boot.«sorted» (ah (pv 2) aq)))))),
  (aH (aS (nK (n:=1) (f:=wY) (ai (af 1) ar)))
 (aH (fb (cf (af 0)) (aK 3)
 (aS (nK (n:=2) (f:=iG) (ai (af 2) (ai (af 3) ar)))))
 (ba (Mo (af 2)))))]
theorem Dn:aY ["rows","many","fit"] ["rows","many","fit"] (aM rM):=cq
abbrev xO(e:Ev):Prop:=DIn e 36 "check_fit" ["rows","many","fit"] oB
theorem DV(F:FA e "check_fit" rM)(ab:e.P.given.tree=qh)(Y:N0 e "len")(J:N0 e "any")(de:fe e):xO e:=by
 exact bJ F Dn rfl ∅ (bd3 λ_ _ _ _ _ _ _ _ _=>rfl) λ_ _ _ _ _ _ _ hr hu am=>#[_,(ax (cE (bC (um hu) (bj cy rfl Y Boot.«len» (ah (pv 2) aq)) (pv 1) bK)
 (aG eU)
 bM)
 (ax (cE (i6 (bj (vx rfl) rfl J Boot.«any» (ah (cz (own:=["number"]) (cap:=[]) (caps:=[]) rfl (scC trivial) (b9 (pv 2)) (λ_ _ _=>(aO (i:=0) (ndL ["number"] []) rfl (tt rfl))) (λ_ _ _=>bI) (λ_ _ _=>(jM kM (pv 0) aF bK))) aq)))
 (aG eU)
 bM)
 (aG (cE (i6 (bj (vx rfl) rfl J Boot.«any» (ah (cz (own:=["row"]) (cap:=["fit"]) (caps:=[2]) rfl (scC #[rfl,tt rfl,rfl,trivial]) (b9 (pv 0)) (λ_ _ _=>(aO (i:=0) (ndL ["row"] ["fit"]) rfl (tt rfl))) (λ_ _ _=>bI) (λ_ _ _=>(jM (um hu) (aJ de hr (ah (pv 0) (ah (pv 1) aq))) aF bK))) aq)))
 (aG eU)
 bM)))),
  (aH (cJ (bP (av pB (a7 dy (ai (af 2) ar)) (af 1)))
 eT
 bN)
 (aH (cJ (kX (a7 Dt (ai (bO (m:=1) (caps:=[]) (cf (af 2)) (aK 0) bG (av k9 (af 0) (aE 0))) ar)))
 eT
 bN)
 (cJ (kX (a7 Dt (ai (bO (m:=1) (caps:=[2]) (cf (af 0)) (aK 0) bG (av pB (aQ (n:=2) (f:=bq) (ai (af 0) (ai (af 1) ar))) (aE 0))) ar)))
 eT
 bN)))]
theorem gL:aY ["left","one","best","at","number"] ["left","one"] (aM mH):=cq
abbrev qD(e:Ev):Prop:=DIn e 36 "tightest_place" ["left","one"] hE
theorem xB(F:FA e "tightest_place" mH)(Y:e.P.given.tree=qh)(J:N0 e "enumerate")(gx:iH e):qD e:=by
 exact bJ F gL rfl ∅ (bd2 λ_ _ _ _ _ _ _ _=>rfl) λ_ _ _ _ _ _ _ hr hu ac=>#[_,(ax (a0 (i:=2) gL.nd rfl (tt rfl) (aJ gx hr (ah (pv 1) aq)))
 (ax (eY PassesOwn.never rfl (k7 rfl J (ah (pv 1) aq)) (eR rfl (bu (aO (i:=3) gL.nd rfl (tt rfl)) (bu (aO (i:=4) gL.nd rfl (tt rfl)) dZ)))
 (aG (cE (PW.pt (pw_and (bC lZ (pv 4) aF bK) (pw_and1 (bC kM (aV eM (bS bE (pv 0) (pv 3) (λ_ _=>rfl)) (bS bE (pv 1) (pv 2) (λ_ _=>rfl))) (aV eM (bS bE (pv 0) (pv 2) (λ_ _=>rfl)) (pv 4)) bK))))
 (aG (a0 (i:=2) gL.nd rfl (tt rfl) (pv 3)))
 bM)))
 (aG (bc (pv 2))))),
  (aH (aS (aQ (n:=1) (f:=di) (ai (af 1) ar)))
 (aH (fb (fP (ai (af 1) ar)) (d0 (br (aK 3) (br (aK 4) dW)))
 (cJ (zG (bP (av lX (af 4) (aE 0))) (bP (av k9 (av dN (av bR (af 0) (af 3)) (av bR (af 1) (af 2))) (av dN (av bR (af 0) (af 2)) (af 4)))))
 (aS (af 3))
 bN))
 (ba (af 2))))]
theorem gR:aY ["rows","many","fit","told","left","bottom","one","at","rest","reduced"] ["rows","many","fit"] (aM zf):=cq
abbrev EI(e:Ev):Prop:=DIn e 41 "shares" ["rows","many","fit"] ui
theorem Jt(F:FA e "shares" zf)(ac:e.P.given.tree=qh)(J:N0 e "list")(Y:N0 e "zip")(Ga:xO e)(vv:Av e)(uO:tX e)(oj:rF e)(yR:qD e)(N9:GJ e)(yG:yy e):EI e:=by
 exact bJ F gR rfl ∅ (bd3 λ_ _ _ _ _ _ _ _ _=>rfl) λ_ _ _ _ _ _ _ hr hu a2=>#[_,(ax (du (aJ Ga hr (ah (pv 0) (ah (pv 1) (ah (pv 2) aq)))))
 (ax (a0 (i:=3) gR.nd rfl (tt rfl) (fJ aq))
 (ax (a0 (i:=4) gR.nd rfl (S2 rfl) (gw gi rfl J Boot.«list» (ah (pv 2) aq)))
 (ax (a0 (i:=5) gR.nd rfl (tt rfl) aF)
 (ax (eY PassesOwn.never rfl (b9 (aJ vv hr (ah (pv 0) (ah (pv 1) aq)))) (aO (i:=6) gR.nd rfl (S2 rfl))
 (aG (cE (i6 (aJ uO hr (ah (aJ oj hr (ah (pv 6) aq)) (ah (aJ oj hr (ah (pv 4) aq)) aq))))
 (ax (a0 (i:=7) gR.nd rfl (S2 rfl) (aJ yR hr (ah (pv 4) (ah (pv 6) aq))))
 (ax (du (iW Go No M2 fo (pv 3) (ah (ko (ah (aJ N9 hr (ah (bS bE (pv 4) (pv 7) (λ_ _=>rfl)) (ah (aV eM (pv 5) (bS bE (pv 6) (pv 7) (λ_ _=>rfl))) aq))) (ah (pv 6) aq))) aq)))
 (ax (c9 (i:=8) (own:=["number","other"]) (cap:=["at","left","one"]) (caps:=[7,4,6]) rfl (scC #[rfl,tt rfl,rfl,#[rfl,tt rfl,rfl,#[rfl,tt rfl,rfl,trivial]]]) (lS rfl Y (ah (pv 4) (ah (pv 6) aq))) (λ_ _ _=>(eR rfl (bu (aO (i:=0) (ndL ["number","other"] ["at","left","one"]) rfl (tt rfl)) (bu (aO (i:=1) (ndL ["number","other"] ["at","left","one"]) rfl (tt rfl)) dZ)))) (λ_ _ _=>bI) (λ_ _ _=>(aV nr (aV eM (pv 0) (bS bE (pv 4) (pv 2) (λ_ _=>rfl))) (aV eM (pv 1) (bS bE (pv 3) (pv 2) (λ_ _=>rfl))))) gR.nd rfl (tt rfl) rfl)
 (ax (a0 (i:=9) gR.nd rfl (tt rfl) (aJ yG hr (ah (aV cF (pv 8) (fJ (ah (aV eM (pv 5) (bS bE (pv 6) (pv 7) (λ_ _=>rfl))) aq))) aq)))
 (ax (a0 (i:=4) gR.nd rfl (S2 rfl) (qt Bo (pv 9) n9 (pW (pv 1))))
 (aG (a0 (i:=5) gR.nd rfl (tt rfl) (bS bE (pv 9) (pv 1) (λ_ _=>rfl)))))))))
 bM)))
 (aG (bc (pv 3)))))))),
  (aH (dv (aQ (n:=3) (f:=oB) (ai (af 0) (ai (af 1) (ai (af 2) ar)))))
 (aH (aS (jK ar))
 (aH (aS (a7 my (ai (af 2) ar)))
 (aH (aS (aE 1))
 (aH (fb (cf (kK (gH (n:=2) (f:=i4) (ai (af 0) (ai (af 1) ar))))) (aK 6)
 (cJ (kX (aQ (n:=2) (f:=iD) (ai (mD (n:=1) (f:=ey) (ai (af 6) ar)) (ai (mD (n:=1) (f:=ey) (ai (af 4) ar)) ar))))
 (aH (aS (mD (n:=2) (f:=hE) (ai (af 4) (ai (af 6) ar))))
 (aH (dv (jc (af 3) (kj (ai (aQ (n:=2) (f:=pX) (ai (av bR (af 4) (af 7)) (ai (av dN (af 5) (av bR (af 6) (af 7))) ar))) (ai (af 6) ar)))))
 (aH (aS (v7 (m:=2) (caps:=[7,4,6]) (Bg (ai (af 4) (ai (af 6) ar))) (d0 (br (aK 0) (br (aK 1) dW))) bG (av nF (av dN (af 0) (av bR (af 4) (af 2))) (av dN (af 1) (av bR (af 3) (af 2))))))
 (aH (aS (kK (gH (n:=1) (f:=mj) (ai (av bZ (af 8) (oQ (ai (av dN (af 5) (av bR (af 6) (af 7))) ar))) ar))))
 (aH (aS (G8 (af 9) kb (pZ (af 1))))
 (aS (av bR (af 9) (af 1))))))))
 bN))
 (ba (af 3)))))))]
theorem FY:aY ["self","at"] ["self","at"] (aM kS):=cq
abbrev AA(e:Ev):Prop:=MethAt e.P e.w e.K e.mg e.base e.ca 35 (e.ca 0) "row" ["self","at"] ni
theorem Ge{a:sK}(F:Fun e.K "row" "Yard.row" kS a fd)(hm:Meth e.K (e.ca 0) "row" a)(ab:e.P.given.tree=qh)(Y:Cls e.K (e.ca 0))(J:fS e.K (e.ca 0) "held_changes"):AA e:=by
 refine#[a,fd,lL F FY rfl λac A outer s H E hr=> ?_,hm,F.binds λ_ _ _ _ _ _ us hl=>match us,hl with | [_,_],_=>rfl];have hu:=hr.units;have an:=oh hr ∅;exact#[_,(aG (bc (cz (own:=["change"]) (cap:=["at"]) (caps:=[1]) rfl (scC #[rfl,tt rfl,rfl,trivial]) (b9 (vV (pv 0) rfl)) (λ_ _ _=>(aO (i:=0) (ndL ["change"] ["at"]) rfl (tt rfl))) (λ_ _ _=>bI) (λ_ _ _=>(bS bE (pv 0) (pv 1) (λ_ _=>rfl)))))),
  (ba (bO (m:=1) (caps:=[1]) (cf (vC (c:=0) (f:="held_changes") Y J (af 0))) (aK 0) bG (av bR (af 0) (af 1))))]
theorem DP:aY ["self"] ["self"] (aM jP):=cq
abbrev lI(e:Ev):Prop:=MethAt e.P e.w e.K e.mg e.base e.ca 36 (e.ca 0) "rows" ["self"] ee
theorem DA{a:sK}(F:Fun e.K "rows" "Yard.rows" jP a fd)(hm:Meth e.K (e.ca 0) "rows" a)(a1:e.P.given.tree=qh)(az:N0 e "len")(an:N0 e "range")(Y:Cls e.K (e.ca 0))(J:fS e.K (e.ca 0) "held_goods")(ab:AA e):lI e:=by
 obtain⟨as,ap,ac,nj,am⟩:=ab;refine#[a,fd,lL F DP rfl λa2 A outer s H E hr=> ?_,hm,F.binds λ_ _ _ _ _ _ us hl=>match us,hl with | [_],_=>rfl];have hu:=hr.units;have a4:=oh hr ∅;exact#[_,(aG (bc (cz (own:=["at"]) (cap:=["self"]) (caps:=[0]) rfl (scC #[rfl,tt rfl,rfl,trivial]) (dQ rfl an (ah (bj cy rfl az Boot.«len» (ah (vV (pv 0) rfl) aq)) aq)) (λ_ _ _=>(aO (i:=0) (ndL ["at"] ["self"]) rfl (tt rfl))) (λ_ _ _=>bI) (λ_ _ _=>(nM (pv 1) Y nj ac (hr.mono ∅) am .nil iq (ah (pv 0) aq)))))),
  (ba (bO (m:=1) (caps:=[0]) (ft (ai (a7 dy (ai (vC (c:=0) (f:="held_goods") Y J (af 0)) ar)) ar)) (aK 0) bG (fg (c:=0) (m:="row") (n:=1) (f:=ni) (af 1) (ai (af 0) ar))))]
theorem CW:aY ["self"] ["self"] (aM iY):=cq
abbrev kA(e:Ev):Prop:=MethAt e.P e.w e.K e.mg e.base e.ca 35 (e.ca 0) "names" ["self"] eO
theorem CP{a:sK}(F:Fun e.K "names" "Yard.names" iY a fd)(hm:Meth e.K (e.ca 0) "names" a)(ab:e.P.given.tree=qh)(Y:Cls e.K (e.ca 0))(J:fS e.K (e.ca 0) "held_works"):kA e:=by
 refine#[a,fd,lL F CW rfl λac A outer s H E hr=> ?_,hm,F.binds λ_ _ _ _ _ _ us hl=>match us,hl with | [_],_=>rfl];have hu:=hr.units;have an:=oh hr ∅;exact#[_,(aG (bc (cz (own:=["work"]) (cap:=[]) (caps:=[]) rfl (scC trivial) (b9 (vV (pv 0) rfl)) (λ_ _ _=>(aO (i:=0) (ndL ["work"] []) rfl (tt rfl))) (λ_ _ _=>bI) (λ_ _ _=>(bS bE (pv 0) aF (λ_ _=>rfl)))))),
  (ba (bO (m:=1) (caps:=[]) (cf (vC (c:=0) (f:="held_works") Y J (af 0))) (aK 0) bG (av bR (af 0) (aE 0))))]
theorem Nf:aY ["yard"] ["yard"] (aM DZ):=cq
abbrev IQ(e:Ev):Prop:=DIn e 41 "ways" ["yard"] tu
theorem NN(F:FA e "ways" DZ)(a4:e.P.given.tree=qh)(a3:N0 e "len")(ap:Cls e.K (e.ca 0))(vv:Av e)(ac:lI e)(J:kA e):IQ e:=by
 obtain⟨a2,az,am,fE,an⟩:=ac;obtain⟨a1,as,Y,eN,ab⟩:=J;exact bJ F Nf rfl ∅ (bd1 λ_ _ _ _ _ _ _=>rfl) λ_ _ _ _ _ _ _ hr hu bb=>#[_,(aG (bc (aJ vv hr (ah (jq (pv 0) ap fE am (hr.mono ∅) an .nil iq) (ah (bj cy rfl a3 Boot.«len» (ah (jq (pv 0) ap eN Y (hr.mono ∅) ab .nil iq) aq)) aq))))),
  (ba (gH (n:=2) (f:=i4) (ai (fg (c:=0) (m:="rows") (n:=0) (f:=ee) (af 0) ar) (ai (a7 dy (ai (fg (c:=0) (m:="names") (n:=0) (f:=eO) (af 0) ar) ar)) ar))))]
theorem xE:aY ["self","way"] ["self","way"] (aM f9):=cq
abbrev qb(e:Ev):Prop:=MethAt e.P e.w e.K e.mg e.base e.ca 35 (e.ca 0) "check_way" ["self","way"] g6
theorem xy{a:sK}(F:Fun e.K "check_way" "Yard.check_way" f9 a fd)(hm:Meth e.K (e.ca 0) "check_way" a)(am:e.P.given.tree=qh)(Y:N0 e "len")(ac:N0 e "any")(ab:Cls e.K (e.ca 0))(J:fS e.K (e.ca 0) "held_works"):qb e:=by
 refine#[a,fd,lL F xE rfl λan A outer s H E hr=> ?_,hm,F.binds λ_ _ _ _ _ _ us hl=>match us,hl with | [_,_],_=>rfl];have hu:=hr.units;have as:=oh hr ∅;exact#[_,(ax (cE (bC (um hu) (bj cy rfl Y Boot.«len» (ah (pv 1) aq)) (bj cy rfl Y Boot.«len» (ah (vV (pv 0) rfl) aq)) bK)
 (aG eU)
 bM)
 (aG (cE (i6 (bj (vx rfl) rfl ac Boot.«any» (ah (cz (own:=["often"]) (cap:=[]) (caps:=[]) rfl (scC trivial) (b9 (pv 1)) (λ_ _ _=>(aO (i:=0) (ndL ["often"] []) rfl (tt rfl))) (λ_ _ _=>bI) (λ_ _ _=>(jM kM (pv 0) aF bK))) aq)))
 (aG eU)
 bM))),
  (aH (cJ (bP (av pB (a7 dy (ai (af 1) ar)) (a7 dy (ai (vC (c:=0) (f:="held_works") ab J (af 0)) ar))))
 eT
 bN)
 (cJ (kX (a7 Dt (ai (bO (m:=1) (caps:=[]) (cf (af 1)) (aK 0) bG (av k9 (af 0) (aE 0))) ar)))
 eT
 bN))]
theorem AK:aY ["self","way"] ["self","way"] (aM iz):=cq
abbrev oZ(e:Ev):Prop:=MethAt e.P e.w e.K e.mg e.base e.ca 37 (e.ca 0) "leaves" ["self","way"] dU
theorem BA{a:sK}(F:Fun e.K "leaves" "Yard.leaves" iz a fd)(hm:Meth e.K (e.ca 0) "leaves" a)(a3:e.P.given.tree=qh)(ap:Cls e.K (e.ca 0))(J:qb e)(ac:lI e)(de:fe e):oZ e:=by
 obtain⟨az,as,Y,ip,ab⟩:=J;obtain⟨a2,a1,am,fE,an⟩:=ac;refine#[a,fd,lL F AK rfl λa5 A outer s H E hr=> ?_,hm,F.binds λ_ _ _ _ _ _ us hl=>match us,hl with | [_,_],_=>rfl];have hu:=hr.units;have bd:=oh hr ∅;exact#[_,(ax (du (nM (pv 0) ap ip Y (hr.mono ∅) ab .nil iq (ah (pv 1) aq)))
 (aG (bc (cz (own:=["row"]) (cap:=["way"]) (caps:=[1]) rfl (scC #[rfl,tt rfl,rfl,trivial]) (b9 (jq (pv 0) ap fE am (hr.mono ∅) an .nil iq)) (λ_ _ _=>(aO (i:=0) (ndL ["row"] ["way"]) rfl (tt rfl))) (λ_ _ _=>bI) (λ_ _ _=>(aJ de hr (ah (pv 0) (ah (pv 1) aq)))))))),
  (aH (dv (fg (c:=0) (m:="check_way") (n:=1) (f:=g6) (af 0) (ai (af 1) ar)))
 (ba (bO (m:=1) (caps:=[1]) (cf (fg (c:=0) (m:="rows") (n:=0) (f:=ee) (af 0) ar)) (aK 0) bG (aQ (n:=2) (f:=bq) (ai (af 0) (ai (af 1) ar))))))]
theorem zi:aY ["self","way"] ["self","way"] (aM gA):=cq
abbrev j2(e:Ev):Prop:=MethAt e.P e.w e.K e.mg e.base e.ca 38 (e.ca 0) "balanced" ["self","way"] dk
theorem yz{a:sK}(F:Fun e.K "balanced" "Yard.balanced" gA a fd)(hm:Meth e.K (e.ca 0) "balanced" a)(as:e.P.given.tree=qh)(ap:N0 e "all")(am:Cls e.K (e.ca 0))(J:oZ e):j2 e:=by
 obtain⟨an,ac,Y,gJ,ab⟩:=J;refine#[a,fd,lL F zi rfl λaz A outer s H E hr=> ?_,hm,F.binds λ_ _ _ _ _ _ us hl=>match us,hl with | [_,_],_=>rfl];have hu:=hr.units;have a2:=oh hr ∅;exact#[_,(aG (bc (bj (Ce rfl) rfl ap Boot.«all» (ah (cz (own:=["left"]) (cap:=[]) (caps:=[]) rfl (scC trivial) (b9 (nM (pv 0) am gJ Y (hr.mono ∅) ab .nil iq (ah (pv 1) aq))) (λ_ _ _=>(aO (i:=0) (ndL ["left"] []) rfl (tt rfl))) (λ_ _ _=>bI) (λ_ _ _=>(jM (jn hu) (pv 0) aF bK))) aq)))),
  (ba (a7 IY (ai (bO (m:=1) (caps:=[]) (cf (fg (c:=0) (m:="leaves") (n:=1) (f:=dU) (af 0) (ai (af 1) ar))) (aK 0) bG (av gP (af 0) (aE 0))) ar)))]
theorem Io:aY ["yard","way"] ["yard","way"] (aM yA):=cq
abbrev DO(e:Ev):Prop:=DIn e 42 "parted" ["yard","way"] ud
theorem JG(F:FA e "parted" yA)(bf:e.P.given.tree=qh)(be:N0 e "len")(ac:Cls e.K (e.ca 0))(J:j2 e)(KD:EI e)(as:lI e)(am:kA e):DO e:=by
 obtain⟨a3,a2,Y,dE,ab⟩:=J;obtain⟨bd,a5,az,fE,a1⟩:=as;obtain⟨bb,a4,an,eN,ap⟩:=am;exact bJ F Io rfl ∅ (bd2 λ_ _ _ _ _ _ _ _=>rfl) λ_ _ _ _ _ _ _ hr hu bm=>#[_,(ax (cE (qa (i6 (nM (pv 0) ac dE Y (hr.mono ∅) ab .nil iq (ah (pv 1) aq))))
 (aG eU)
 bM)
 (aG (bc (aJ KD hr (ah (jq (pv 0) ac fE az (hr.mono ∅) a1 .nil iq) (ah (bj cy rfl be Boot.«len» (ah (jq (pv 0) ac eN an (hr.mono ∅) ap .nil iq) aq)) (ah (pv 1) aq))))))),
  (aH (cJ (qp (kX (fg (c:=0) (m:="balanced") (n:=1) (f:=dk) (af 0) (ai (af 1) ar))))
 eT
 bN)
 (ba (gH (n:=3) (f:=ui) (ai (fg (c:=0) (m:="rows") (n:=0) (f:=ee) (af 0) ar) (ai (a7 dy (ai (fg (c:=0) (m:="names") (n:=0) (f:=eO) (af 0) ar) ar)) (ai (af 1) ar))))))]
theorem yh:aY ["yard","name","names"] ["yard","name"] (aM uK):=cq
abbrev Ac(e:Ev):Prop:=DIn e 36 "place_of" ["yard","name"] m5
theorem FI(F:FA e "place_of" uK)(ap:e.P.given.tree=qh)(ac:Cls e.K (e.ca 0))(J:kA e):Ac e:=by
 obtain⟨an,am,Y,eN,ab⟩:=J;exact bJ F yh rfl ∅ (bd2 λ_ _ _ _ _ _ _ _=>rfl) λ_ _ _ _ _ _ _ hr hu as=>#[_,(ax (a0 (i:=2) yh.nd rfl (tt rfl) (jq (pv 0) ac eN Y (hr.mono ∅) ab .nil iq))
 (ax (cE (bC vX (pv 1) (pv 2) (by with_unfolding_all rfl))
 (aG eU)
 bM)
 (aG (bc (iW Go PySem.F.slot_list_index PySem.F.type_list_index Mr (pv 2) (ah (pv 1) aq)))))),
  (aH (aS (fg (c:=0) (m:="names") (n:=0) (f:=eO) (af 0) ar))
 (aH (cJ (bP (av E4 (af 1) (af 2)))
 eT
 bN)
 (ba (LF (af 2) (af 1)))))]
theorem uS:aY ["lists","at","one"] ["lists","at"] (aM qJ):=cq
abbrev qo(e:Ev):Prop:=DIn e 35 "first_with" ["lists","at"] gr
theorem C6(F:FA e "first_with" qJ)(J:e.P.given.tree=qh):qo e:=by
 exact bJ F uS rfl ∅ (bd2 λ_ _ _ _ _ _ _ _=>rfl) λ_ _ _ _ _ _ _ hr hu Y=>#[_,(ax (eY PassesOwn.never rfl (b9 (pv 0)) (aO (i:=2) uS.nd rfl (tt rfl))
 (aG (cE (bC lZ (bS bE (pv 2) (pv 1) (λ_ _=>rfl)) aF bK)
 (aG (bc (pv 2)))
 bM)))
 (aG (bc tm))),
  (aH (fb (cf (af 0)) (aK 2)
 (cJ (bP (av lX (av bR (af 2) (af 1)) (aE 0)))
 (ba (af 2))
 bN))
 (ba tj))]
theorem fG:aY ["yard","demands","rows","many","wanted","found","goal","made"] ["yard","demands"] (aM nk):=cq
abbrev rf(e:Ev):Prop:=DIn e 43 "weights_above" ["yard","demands"] j6
theorem zx(F:FA e "weights_above" nk)(az:e.P.given.tree=qh)(ap:N0 e "len")(as:N0 e "zip")(ac:Cls e.K (e.ca 0))(J:lI e)(Bc:AY e)(de:fe e)(qN:qo e)(vv:Av e)(Ji:BU e):rf e:=by
 obtain⟨an,am,Y,fE,ab⟩:=J;exact bJ F fG rfl ∅ (bd2 λ_ _ _ _ _ _ _ _=>rfl) λ_ _ _ _ _ _ _ hr hu bb=>#[_,(ax (a0 (i:=2) fG.nd rfl (tt rfl) (jq (pv 0) ac fE Y (hr.mono ∅) ab .nil iq))
 (ax (a0 (i:=3) fG.nd rfl (S2 rfl) (bj cy rfl ap Boot.«len» (ah (pv 1) aq)))
 (ax (c9 (i:=4) (own:=["row"]) (cap:=["demands"]) (caps:=[1]) rfl (scC #[rfl,tt rfl,rfl,trivial]) (b9 (aJ Bc hr (ah (pv 2) (ah (pv 3) aq)))) (λ_ _ _=>(aO (i:=0) (ndL ["row"] ["demands"]) rfl (tt rfl))) (λ_ _ _=>bI) (λ_ _ _=>(aV cF (pv 0) (fJ (ah (aJ de hr (ah (pv 0) (ah (pv 1) aq))) aq)))) fG.nd rfl (tt rfl) rfl)
 (ax (a0 (i:=5) fG.nd rfl (S2 rfl) (aJ qN hr (ah (aJ vv hr (ah (pv 4) (ah (aV cF (pv 3) aF) aq))) (ah (pv 3) aq))))
 (ax (c9 (i:=6) (own:=["spare","demand"]) (cap:=["found","many"]) (caps:=[5,3]) rfl (scC #[rfl,tt rfl,rfl,#[rfl,tt rfl,rfl,trivial]]) (lS rfl as (ah (pv 5) (ah (pv 1) aq))) (λ_ _ _=>(eR rfl (bu (aO (i:=0) (ndL ["spare","demand"] ["found","many"]) rfl (tt rfl)) (bu (aO (i:=1) (ndL ["spare","demand"] ["found","many"]) rfl (tt rfl)) dZ)))) (λ_ _ _=>bI) (λ_ _ _=>(aV cF (pv 0) (aV eM (bS bE (pv 2) (pv 3) (λ_ _=>rfl)) (pv 1)))) fG.nd rfl (tt rfl) rfl)
 (ax (a0 (i:=7) fG.nd rfl (tt rfl) (aJ Ji hr (ah (pv 2) (ah (pv 6) aq))))
 (aG (bc (ko (ah (aV eM (bS bE (pv 7) aF (λ_ _=>rfl)) (bS bE (pv 5) (pv 3) (λ_ _=>rfl))) (ah (bS bE (pv 7) aF (λ_ _=>rfl)) aq))))))))))),
  (aH (aS (fg (c:=0) (m:="rows") (n:=0) (f:=ee) (af 0) ar))
 (aH (aS (a7 dy (ai (af 1) ar)))
 (aH (aS (bO (m:=1) (caps:=[1]) (cf (aQ (n:=2) (f:=jQ) (ai (af 2) (ai (af 3) ar)))) (aK 0) bG (av bZ (af 0) (oQ (ai (aQ (n:=2) (f:=bq) (ai (af 0) (ai (af 1) ar))) ar)))))
 (aH (aS (nK (n:=2) (f:=gr) (ai (kK (gH (n:=2) (f:=i4) (ai (af 4) (ai (av bZ (af 3) (aE 1)) ar)))) (ai (af 3) ar))))
 (aH (aS (v7 (m:=2) (caps:=[5,3]) (Bg (ai (af 5) (ai (af 1) ar))) (d0 (br (aK 0) (br (aK 1) dW))) bG (av bZ (af 0) (av dN (av bR (af 2) (af 3)) (af 1)))))
 (aH (aS (aQ (n:=2) (f:=oR) (ai (af 2) (ai (af 6) ar))))
 (ba (kj (ai (av dN (av bR (af 7) (aE 0)) (av bR (af 5) (af 3))) (ai (av bR (af 7) (aE 1)) ar))))))))))]
theorem xr:aY ["yard","name","at","way","told"] ["yard","name"] (aM Ft):=cq
abbrev Jo(e:Ev):Prop:=DIn e 44 "seen" ["yard","name"] sW
theorem Nw(F:FA e "seen" Ft)(as:e.P.given.tree=qh)(ap:N0 e "len")(ac:Cls e.K (e.ca 0))(Hn:Ac e)(qN:qo e)(P6:IQ e)(zO:rf e)(v8:u7 e)(J:kA e):Jo e:=by
 obtain⟨an,am,Y,eN,ab⟩:=J;exact bJ F xr rfl ∅ (bd2 λ_ _ _ _ _ _ _ _=>rfl) λ_ _ _ _ _ _ _ hr hu a5=>#[_,(ax (a0 (i:=2) xr.nd rfl (tt rfl) (aJ Hn hr (ah (pv 0) (ah (pv 1) aq))))
 (ax (a0 (i:=3) xr.nd rfl (tt rfl) (aJ qN hr (ah (aJ P6 hr (ah (pv 0) aq)) (ah (pv 2) aq))))
 (ax (cE (bC G0 (pv 3) tm bK)
 (aG (bc (ko (ah qK (ah (pv 3) aq)))))
 bM)
 (ax (a0 (i:=4) xr.nd rfl (tt rfl) (aJ zO hr (ah (pv 0) (ah (aJ v8 hr (ah (pv 2) (ah (bj cy rfl ap Boot.«len» (ah (jq (pv 0) ac eN Y (hr.mono ∅) ab .nil iq) aq)) aq))) aq))))
 (aG (bc (ko (ah qK (ah (bS bE (pv 4) aF (λ_ _=>rfl)) aq))))))))),
  (aH (aS (aQ (n:=2) (f:=m5) (ai (af 0) (ai (af 1) ar))))
 (aH (aS (nK (n:=2) (f:=gr) (ai (kK (gH (n:=1) (f:=tu) (ai (af 0) ar))) (ai (af 2) ar))))
 (aH (cJ (bP (av DQ (af 3) tj))
 (ba (kj (ai (qi ("goes" :Str)) (ai (af 3) ar))))
 bN)
 (aH (aS (aQ (n:=2) (f:=j6) (ai (af 0) (ai (aQ (n:=2) (f:=ki) (ai (af 2) (ai (a7 dy (ai (fg (c:=0) (m:="names") (n:=0) (f:=eO) (af 0) ar) ar)) ar))) ar))))
 (ba (kj (ai (qi ("never" :Str)) (ai (av bR (af 4) (aE 1)) ar))))))))]
theorem CU:aY ["self"] ["self"] (aM jd):=cq
abbrev wt(e:Ev):Prop:=MethAt e.P e.w e.K e.mg e.base e.ca 35 (e.ca 0) "goods" ["self"] nB
theorem C1{a:sK}(F:Fun e.K "goods" "Yard.goods" jd a fd)(hm:Meth e.K (e.ca 0) "goods" a)(ac:e.P.given.tree=qh)(ab:N0 e "list")(Y:Cls e.K (e.ca 0))(J:fS e.K (e.ca 0) "held_goods"):wt e:=by
 refine#[a,fd,lL F CU rfl λam A outer s H E hr=> ?_,hm,F.binds λ_ _ _ _ _ _ us hl=>match us,hl with | [_],_=>rfl];have hu:=hr.units;have ap:=oh hr ∅;exact#[_,(aG (bc (gw gi rfl ab Boot.«list» (ah (vV (pv 0) rfl) aq)))),
  (ba (a7 my (ai (vC (c:=0) (f:="held_goods") Y J (af 0)) ar)))]
theorem yO:aY ["yard","weights"] ["yard","weights"] (aM nt):=cq
abbrev rg(e:Ev):Prop:=DIn e 36 "check_weights" ["yard","weights"] j7
theorem yT(F:FA e "check_weights" nt)(as:e.P.given.tree=qh)(ac:N0 e "len")(am:Cls e.K (e.ca 0))(J:wt e):rg e:=by
 obtain⟨ap,an,Y,kC,ab⟩:=J;exact bJ F yO rfl ∅ (bd2 λ_ _ _ _ _ _ _ _=>rfl) λ_ _ _ _ _ _ _ hr hu az=>#[_,(aG (cE (bC (um hu) (bj cy rfl ac Boot.«len» (ah (pv 1) aq)) (bj cy rfl ac Boot.«len» (ah (jq (pv 0) am kC Y (hr.mono ∅) ab .nil iq) aq)) bK)
 (aG eU)
 bM)),
  (cJ (bP (av pB (a7 dy (ai (af 1) ar)) (a7 dy (ai (fg (c:=0) (m:="goods") (n:=0) (f:=nB) (af 0) ar) ar))))
 eT
 bN)]
theorem HQ:aY ["yard","weights","amounts"] ["yard","weights","amounts"] (aM vU):=cq
abbrev BO(e:Ev):Prop:=DIn e 37 "weighed" ["yard","weights","amounts"] oM
theorem Hw(F:FA e "weighed" vU)(J:e.P.given.tree=qh)(Y:rg e)(de:fe e):BO e:=by
 exact bJ F HQ rfl ∅ (bd3 λ_ _ _ _ _ _ _ _ _=>rfl) λ_ _ _ _ _ _ _ hr hu ac=>#[_,(ax (du (aJ Y hr (ah (pv 0) (ah (pv 1) aq))))
 (aG (bc (aJ de hr (ah (pv 1) (ah (pv 2) aq)))))),
  (aH (dv (aQ (n:=2) (f:=j7) (ai (af 0) (ai (af 1) ar))))
 (ba (aQ (n:=2) (f:=bq) (ai (af 1) (ai (af 2) ar)))))]
theorem HA:aY ["text"] ["text"] (aM vG):=cq
abbrev Cd(e:Ev):Prop:=DIn e 35 "is_name" ["text"] oE
theorem Hd(F:FA e "is_name" vG)(ac:e.P.given.tree=qh)(Y:N0 e "len")(ab:N0 e "all")(J:∃t,e.mg "MOST_LETTERS" =pr (.int 8 t)):Cd e:=by
 exact bJ F HA rfl ∅ (bd1 λ_ _ _ _ _ _ _=>rfl) λ_ _ _ _ _ _ _ hr hu am=>#[_,(ax (cE (PW.pt (pw_or (bC kM (bj cy rfl Y Boot.«len» (ah (pv 0) aq)) aF bK) (pw_or1 (bC lZ (bj cy rfl Y Boot.«len» (ah (pv 0) aq)) (AJ (v:=.int 8) rfl J.choose_spec #[_,rfl]) bK))))
 (aG (bc qP))
 bM)
 (aG (bc (bj (Ce rfl) rfl ab Boot.«all» (ah (cz (own:=["sign"]) (cap:=[]) (caps:=[]) rfl (scC trivial) (P0 (pv 0)) (λ_ _ _=>(aO (i:=0) (ndL ["sign"] []) rfl (tt rfl))) (λ_ _ _=>bI) (λ_ _ _=>(Kp JQ JQ qK (pv 0) qK))) aq))))),
  (aH (cJ (tZ (bP (av k9 (a7 dy (ai (af 0) ar)) (aE 1))) (bP (av lX (a7 dy (ai (af 0) ar)) (aE 8))))
 (ba (qU xL))
 bN)
 (ba (a7 IY (ai (bO (m:=1) (caps:=[]) (NQ (af 0)) (aK 0) bG (D5 J3 J3 (qi ("a" :Str)) (af 0) (qi ("z" :Str)))) ar))))]
theorem CQ:aY ["goods","works"] ["goods","works"] (aM qc):=cq
abbrev vc(e:Ev):Prop:=DIn e 35 "check_many" ["goods","works"] ky
theorem CS(F:FA e "check_many" qc)(ac:e.P.given.tree=qh)(ab:N0 e "len")(J:∃t,e.mg "MOST_GOODS" =pr (.int 10 t))(Y:∃t,e.mg "MOST_WORKS" =pr (.int 10 t)):vc e:=by
 exact bJ F CQ rfl ∅ (bd2 λ_ _ _ _ _ _ _ _=>rfl) λ_ _ _ _ _ _ _ hr hu am=>#[_,(ax (cE (bC lZ (bj cy rfl ab Boot.«len» (ah (pv 0) aq)) (AJ (v:=.int 10) rfl J.choose_spec #[_,rfl]) bK)
 (aG eU)
 bM)
 (aG (cE (bC lZ (bj cy rfl ab Boot.«len» (ah (pv 1) aq)) (AJ (v:=.int 10) rfl Y.choose_spec #[_,rfl]) bK)
 (aG eU)
 bM))),
  (aH (cJ (bP (av lX (a7 dy (ai (af 0) ar)) (aE 10)))
 eT
 bN)
 (cJ (bP (av lX (a7 dy (ai (af 1) ar)) (aE 10)))
 eT
 bN))]
theorem CV:aY ["text","earlier"] ["text","earlier"] (aM qy):=cq
abbrev qB(e:Ev):Prop:=DIn e 36 "check_name" ["text","earlier"] g9
theorem CZ(F:FA e "check_name" qy)(J:e.P.given.tree=qh)(Y:Cd e):qB e:=by
 exact bJ F CV rfl ∅ (bd2 λ_ _ _ _ _ _ _ _=>rfl) λ_ _ _ _ _ _ _ hr hu ab=>#[_,(ax (cE (qa (i6 (aJ Y hr (ah (pv 0) aq))))
 (aG eU)
 bM)
 (aG (cE (bC CH (pv 0) (pv 1) (by with_unfolding_all rfl))
 (aG eU)
 bM))),
  (aH (cJ (qp (kX (aQ (n:=1) (f:=oE) (ai (af 0) ar))))
 eT
 bN)
 (cJ (bP (av MV (af 0) (af 1)))
 eT
 bN))]
theorem n5:aY ["goods","at","good"] ["goods"] (aM oV):=cq
abbrev uT(e:Ev):Prop:=DIn e 37 "check_goods" ["goods"] jD
theorem AS(F:FA e "check_goods" oV)(Y:e.P.given.tree=qh)(J:N0 e "enumerate")(qj:qB e):uT e:=by
 exact bJ F n5 rfl ∅ (bd1 λ_ _ _ _ _ _ _=>rfl) λ_ _ _ _ _ _ _ hr hu ac=>#[_,(aG (eY PassesOwn.never rfl (k7 rfl J (ah (pv 0) aq)) (eR rfl (bu (aO (i:=1) n5.nd rfl (tt rfl)) (bu (aO (i:=2) n5.nd rfl (tt rfl)) dZ)))
 (aG (du (aJ qj hr (ah (pv 2) (ah (qt Bo (pv 0) n9 (pW (pv 1))) aq))))))),
  (fb (fP (ai (af 0) ar)) (d0 (br (aK 1) (br (aK 2) dW)))
 (dv (aQ (n:=2) (f:=g9) (ai (af 2) (ai (G8 (af 0) kb (pZ (af 1))) ar)))))]
theorem C3:aY ["good","goods","earlier"] ["good","goods","earlier"] (aM qv):=cq
abbrev vW(e:Ev):Prop:=DIn e 35 "check_good" ["good","goods","earlier"] kD
theorem CT(F:FA e "check_good" qv)(J:e.P.given.tree=qh):vW e:=by
 exact bJ F C3 rfl ∅ (bd3 λ_ _ _ _ _ _ _ _ _=>rfl) λ_ _ _ _ _ _ _ hr hu Y=>#[_,(ax (cE (bC vX (pv 0) (pv 1) (by with_unfolding_all rfl))
 (aG eU)
 bM)
 (aG (cE (bC CH (pv 0) (pv 2) (by with_unfolding_all rfl))
 (aG eU)
 bM))),
  (aH (cJ (bP (av E4 (af 0) (af 1)))
 eT
 bN)
 (cJ (bP (av MV (af 0) (af 2)))
 eT
 bN))]
theorem zJ:aY ["amount"] ["amount"] (aM nW):=cq
abbrev sT(e:Ev):Prop:=DIn e 36 "check_amount" ["amount"] je
theorem Al(F:FA e "check_amount" nW)(J:e.P.given.tree=qh)(Y:tO e):sT e:=by
 exact bJ F zJ rfl ∅ (bd1 λ_ _ _ _ _ _ _=>rfl) λ_ _ _ _ _ _ _ hr hu ab=>#[_,(aG (cE (PW.pt (pw_or (qa (i6 (aJ Y hr (ah (pv 0) aq)))) (pw_or1 (bC kM (pv 0) aF bK))))
 (aG eU)
 bM)),
  (cJ (tZ (qp (kX (aQ (n:=1) (f:=gd) (ai (af 0) ar)))) (bP (av k9 (af 0) (aE 1))))
 eT
 bN)]
theorem k8:aY ["parts","goods","earlier","good","amount"] ["parts","goods"] (aM oW):=cq
abbrev uU(e:Ev):Prop:=DIn e 37 "check_parts" ["parts","goods"] fW
theorem A6(F:FA e "check_parts" oW)(J:e.P.given.tree=qh)(Y:vW e)(AG:sT e):uU e:=by
 exact bJ F k8 rfl ∅ (bd2 λ_ _ _ _ _ _ _ _=>rfl) λ_ _ _ _ _ _ _ hr hu ac=>#[_,(ax (a0 (i:=2) k8.nd rfl (tt rfl) (fJ aq))
 (aG (eY PassesOwn.never rfl (b9 (pv 0)) (eR rfl (bu (aO (i:=3) k8.nd rfl (tt rfl)) (bu (aO (i:=4) k8.nd rfl (tt rfl)) dZ)))
 (ax (du (aJ Y hr (ah (pv 3) (ah (pv 1) (ah (pv 2) aq)))))
 (ax (du (aJ AG hr (ah (pv 4) aq)))
 (aG (du (iW Go No M2 fo (pv 2) (ah (pv 3) aq))))))))),
  (aH (aS (jK ar))
 (fb (cf (af 0)) (d0 (br (aK 3) (br (aK 4) dW)))
 (aH (dv (mD (n:=3) (f:=kD) (ai (af 3) (ai (af 1) (ai (af 2) ar)))))
 (aH (dv (aQ (n:=1) (f:=je) (ai (af 4) ar)))
 (dv (jc (af 2) (af 3)))))))]
theorem i9:aY ["works","goods","earlier","name","uses","makes"] ["works","goods"] (aM oX):=cq
abbrev uX(e:Ev):Prop:=DIn e 38 "check_works" ["works","goods"] jz
theorem AR(F:FA e "check_works" oX)(Y:e.P.given.tree=qh)(qj:qB e)(J:uU e):uX e:=by
 exact bJ F i9 rfl ∅ (bd2 λ_ _ _ _ _ _ _ _=>rfl) λ_ _ _ _ _ _ _ hr hu ac=>#[_,(ax (a0 (i:=2) i9.nd rfl (tt rfl) (fJ aq))
 (aG (eY PassesOwn.never rfl (b9 (pv 0)) (eR rfl (bu (aO (i:=3) i9.nd rfl (tt rfl)) (bu (aO (i:=4) i9.nd rfl (tt rfl)) (bu (aO (i:=5) i9.nd rfl (tt rfl)) dZ))))
 (ax (du (aJ qj hr (ah (pv 3) (ah (pv 2) aq))))
 (ax (du (aJ J hr (ah (pv 4) (ah (pv 1) aq))))
 (ax (du (aJ J hr (ah (pv 5) (ah (pv 1) aq))))
 (aG (du (iW Go No M2 fo (pv 2) (ah (pv 3) aq)))))))))),
  (aH (aS (jK ar))
 (fb (cf (af 0)) (d0 (br (aK 3) (br (aK 4) (br (aK 5) dW))))
 (aH (dv (mD (n:=2) (f:=g9) (ai (af 3) (ai (af 2) ar))))
 (aH (dv (aQ (n:=2) (f:=fW) (ai (af 4) (ai (af 1) ar))))
 (aH (dv (aQ (n:=2) (f:=fW) (ai (af 5) (ai (af 1) ar))))
 (dv (jc (af 2) (af 3))))))))]
theorem Ei:aY ["work"] ["work"] (aM rP):=cq
abbrev xW(e:Ev):Prop:=DIn e 35 "copy_work" ["work"] lK
theorem EB(F:FA e "copy_work" rP)(Y:e.P.given.tree=qh)(J:N0 e "list"):xW e:=by
 exact bJ F Ei rfl ∅ (bd1 λ_ _ _ _ _ _ _=>rfl) λ_ _ _ _ _ _ _ hr hu ab=>#[_,(aG (bc (ko (ah (bS bE (pv 0) aF (λ_ _=>rfl)) (ah (gw gi rfl J Boot.«list» (ah (bS bE (pv 0) aF (λ_ _=>rfl)) aq)) (ah (gw gi rfl J Boot.«list» (ah (bS bE (pv 0) aF (λ_ _=>rfl)) aq)) aq)))))),
  (ba (kj (ai (av bR (af 0) (aE 0)) (ai (a7 my (ai (av bR (af 0) (aE 1)) ar)) (ai (a7 my (ai (av bR (af 0) (aE 2)) ar)) ar)))))]
theorem EN:aY ["good","parts"] ["good","parts"] (aM sq):=cq
abbrev yc(e:Ev):Prop:=DIn e 35 "amount_of" ["good","parts"] fN
theorem Eu(F:FA e "amount_of" sq)(Y:e.P.given.tree=qh)(J:N0 e "sum"):yc e:=by
 exact bJ F EN rfl ∅ (bd2 λ_ _ _ _ _ _ _ _=>rfl) λ_ _ _ _ _ _ _ hr hu ab=>#[_,(aG (bc (bj (oF rfl) rfl J Boot.«sum» (ah (cz (own:=["part"]) (cap:=["good"]) (caps:=[0]) rfl (scC #[rfl,tt rfl,rfl,trivial]) (b9 (pv 1)) (λ_ _ _=>(aO (i:=0) (ndL ["part"] ["good"]) rfl (tt rfl))) (λ_ _ _=>(pT (bC (jn hu) (bS bE (pv 0) aF (λ_ _=>rfl)) (pv 1) bK))) (λ_ _ _=>(bS bE (pv 0) aF (λ_ _=>rfl)))) aq)))),
  (ba (a7 vS (ai (bO (m:=1) (caps:=[0]) (cf (af 1)) (aK 0) (bP (av gP (av bR (af 0) (aE 0)) (af 1))) (av bR (af 0) (aE 1))) ar)))]
theorem EE:aY ["work","goods"] ["work","goods"] (aM rZ):=cq
abbrev xS(e:Ev):Prop:=DIn e 36 "change_of" ["work","goods"] lF
theorem DU(F:FA e "change_of" rZ)(Y:e.P.given.tree=qh)(J:yc e):xS e:=by
 exact bJ F EE rfl ∅ (bd2 λ_ _ _ _ _ _ _ _=>rfl) λ_ _ _ _ _ _ _ hr hu ab=>#[_,(aG (bc (cz (own:=["good"]) (cap:=["work"]) (caps:=[0]) rfl (scC #[rfl,tt rfl,rfl,trivial]) (b9 (pv 1)) (λ_ _ _=>(aO (i:=0) (ndL ["good"] ["work"]) rfl (tt rfl))) (λ_ _ _=>bI) (λ_ _ _=>(aV nr (aJ J hr (ah (pv 0) (ah (bS bE (pv 1) aF (λ_ _=>rfl)) aq))) (aJ J hr (ah (pv 0) (ah (bS bE (pv 1) aF (λ_ _=>rfl)) aq)))))))),
  (ba (bO (m:=1) (caps:=[0]) (cf (af 1)) (aK 0) bG (av nF (aQ (n:=2) (f:=fN) (ai (af 0) (ai (av bR (af 1) (aE 2)) ar))) (aQ (n:=2) (f:=fN) (ai (af 0) (ai (av bR (af 1) (aE 1)) ar))))))]
theorem DE:aY ["self","goods","works"] ["self","goods","works"] (aM jJ):=cq
abbrev xM(e:Ev):Prop:=P9 e.P e.w e.K e.mg e.base e.ca 39 (e.ca 0) "Yard" ["self","goods","works"] jN
theorem EO{a:sK}(F:Fun e.K "__init__" "Yard.__init__" jJ a fd)(hk:Mk e.K (e.ca 0) a)(hm:e.mg "Yard" =pr (.ref (e.ca 0)))(an:e.P.given.tree=qh)(am:N0 e "list")(ac:Cls e.K (e.ca 0))(Y:fS e.K (e.ca 0) "held_goods")(ab:fS e.K (e.ca 0) "held_works")(J:fS e.K (e.ca 0) "held_changes")(EU:vc e)(CY:uT e)(CO:uX e)(Fv:xW e)(FH:xS e):xM e:=by
 refine#[a,fd,lL F DE rfl λa3 A outer s H E hr=> ?_,hk,hm,F.binds λ_ _ _ _ _ _ us hl=>match us,hl with | [_,_,_],_=>rfl];have hu:=hr.units;have a5:=oh hr ∅;exact#[_,(ax (du (aJ EU hr (ah (pv 1) (ah (pv 2) aq))))
 (ax (du (aJ CY hr (ah (pv 1) aq)))
 (ax (du (aJ CO hr (ah (pv 2) (ah (pv 1) aq))))
 (ax (E3 (pv 0) (gw gi rfl am Boot.«list» (ah (pv 1) aq)) rfl)
 (ax (E3 (pv 0) (cz (own:=["work"]) (cap:=[]) (caps:=[]) rfl (scC trivial) (b9 (pv 2)) (λ_ _ _=>(aO (i:=0) (ndL ["work"] []) rfl (tt rfl))) (λ_ _ _=>bI) (λ_ _ _=>(aJ Fv hr (ah (pv 0) aq)))) rfl)
 (aG (E3 (pv 0) (cz (own:=["work"]) (cap:=["goods"]) (caps:=[1]) rfl (scC #[rfl,tt rfl,rfl,trivial]) (b9 (pv 2)) (λ_ _ _=>(aO (i:=0) (ndL ["work"] ["goods"]) rfl (tt rfl))) (λ_ _ _=>bI) (λ_ _ _=>(aJ FH hr (ah (pv 0) (ah (pv 1) aq))))) rfl))))))),
  (aH (dv (aQ (n:=2) (f:=ky) (ai (af 1) (ai (af 2) ar))))
 (aH (dv (aQ (n:=1) (f:=jD) (ai (af 1) ar)))
 (aH (dv (aQ (n:=2) (f:=jz) (ai (af 2) (ai (af 1) ar))))
 (aH (Bw (c:=0) (f:="held_goods") ac Y (af 0) (a7 my (ai (af 1) ar)))
 (aH (Bw (c:=0) (f:="held_works") ac ab (af 0) (bO (m:=1) (caps:=[]) (cf (af 2)) (aK 0) bG (aQ (n:=1) (f:=lK) (ai (af 0) ar))))
 (Bw (c:=0) (f:="held_changes") ac J (af 0) (bO (m:=1) (caps:=[1]) (cf (af 2)) (aK 0) bG (aQ (n:=2) (f:=lF) (ai (af 0) (ai (af 1) ar))))))))))]
theorem FQ:aY ["_law_script","_law_k"] ["_law_script","_law_k"] (aM tP):=cq
abbrev uN(e:Ev):Prop:=DIn e 35 "_law_cell" ["_law_script","_law_k"] cQ
theorem F7(F:FA e "_law_cell" tP)(Y:e.P.given.tree=qh)(J:N0 e "len"):uN e:=by
 exact bJ F FQ rfl ∅ (bd2 λ_ _ _ _ _ _ _ _=>rfl) λ_ _ _ _ _ _ _ hr hu ab=>#[_,(ax (cE (bC kM (pv 1) (bj cy rfl J Boot.«len» (ah (pv 0) aq)) bK)
 (aG (bc (bS bE (pv 0) (pv 1) (λ_ _=>rfl))))
 bM)
 (aG (bc aF))),
  (aH (cJ (bP (av k9 (af 1) (a7 dy (ai (af 0) ar))))
 (ba (av bR (af 0) (af 1)))
 bN)
 (ba (aE 0)))]
theorem yf:aY ["_law_cell_here","_law_turn","_law_many","_law_blent"] ["_law_cell_here","_law_turn","_law_many"] (aM uA):=cq
abbrev jr(e:Ev):Prop:=DIn e 35 "_law_pick" ["_law_cell_here","_law_turn","_law_many"] aR
theorem Fw(F:FA e "_law_pick" uA)(J:e.P.given.tree=qh):jr e:=by
 exact bJ F yf rfl ∅ (bd3 λ_ _ _ _ _ _ _ _ _=>rfl) λ_ _ _ _ _ _ _ hr hu Y=>#[_,(ax (a0 (i:=3) yf.nd rfl (tt rfl) (aV iC (aV eM (aV cF (aV iC (pv 0) aF) aF) (aV cF aF (aV eM aF (pv 1)))) aF))
 (aG (bc (aV iC (aV (lM Y J #[_,_,rfl,rfl,rfl,rfl,rfl]) (aV iC (aV eM (pv 3) aF) aF) aF) (pv 2))))),
  (aH (aS (av jC (av dN (av bZ (av jC (af 0) (aE 2147483647)) (aE 7)) (av bZ (aE 48271) (av dN (aE 7919) (af 1)))) (aE 2147483647)))
 (ba (av jC (av jI (av jC (av dN (af 3) (aE 16807)) (aE 2147483647)) (aE 8)) (af 2))))]
theorem hZ:aY ["_law_cell_here","_law_many","_law_letters","_law_word","_law_k","_law_spot","_law_first"] ["_law_cell_here","_law_many"] (aM rX):=cq
abbrev xF(e:Ev):Prop:=DIn e 36 "_law_names" ["_law_cell_here","_law_many"] fM
theorem Fb(F:FA e "_law_names" rX)(ac:e.P.given.tree=qh)(J:N0 e "range")(Y:N0 e "len")(cx:jr e):xF e:=by
 exact bJ F hZ rfl ∅ (bd2 λ_ _ _ _ _ _ _ _=>rfl) λ_ _ _ _ _ _ _ hr hu am=>#[_,(ax (a0 (i:=2) hZ.nd rfl (S2 rfl) qK)
 (ax (a0 (i:=3) hZ.nd rfl (S2 rfl) qK)
 (ax (eY PassesOwn.never rfl (dQ rfl J (ah (aJ cx hr (ah (pv 0) (ah aF (ah aF aq)))) aq)) (aO (i:=4) hZ.nd rfl (tt rfl))
 (aG (a0 (i:=3) hZ.nd rfl (S2 rfl) (aV cF (pv 3) (bS bE (pv 2) (aJ cx hr (ah (pv 0) (ah (aV cF aF (pv 4)) (ah aF aq)))) (λ_ _=>rfl))))))
 (ax (a0 (i:=5) hZ.nd rfl (S2 rfl) (aJ cx hr (ah (pv 0) (ah aF (ah (aV cF (bj cy rfl Y Boot.«len» (ah (pv 3) aq)) aF) aq)))))
 (ax (a0 (i:=6) hZ.nd rfl (S2 rfl) (aJ cx hr (ah (pv 0) (ah aF (ah aF aq)))))
 (aG (bc (cz (own:=["_law_k"]) (cap:=["_law_first","_law_letters","_law_spot","_law_word"]) (caps:=[6,2,5,3]) rfl (scC #[rfl,tt rfl,rfl,#[rfl,tt rfl,rfl,#[rfl,tt rfl,rfl,#[rfl,tt rfl,rfl,trivial]]]]) (dQ rfl J (ah (pv 1) aq)) (λ_ _ _=>(aO (i:=0) (ndL ["_law_k"] ["_law_first","_law_letters","_law_spot","_law_word"]) rfl (tt rfl))) (λ_ _ _=>bI) (λ_ _ _=>(aV cF (aV cF (qt Jd (pv 4) n9 (pW (pv 3))) (bS bE (pv 2) (aV iC (aV cF (pv 1) (aV eM aF (pv 0))) aF) (λ_ _=>rfl))) (qt Jd (pv 4) (pW (pv 3)) n9))))))))))),
  (aH (aS (qi ("abcdefghijklmnopqrstuvwxyz" :Str)))
 (aH (aS (qi ("" :Str)))
 (aH (fb (ft (ai (aQ (n:=3) (f:=aR) (ai (af 0) (ai (aE 1) (ai (aE 8) ar)))) ar)) (aK 4)
 (aS (av bZ (af 3) (av bR (af 2) (aQ (n:=3) (f:=aR) (ai (af 0) (ai (av bZ (aE 2) (af 4)) (ai (aE 26) ar))))))))
 (aH (aS (aQ (n:=3) (f:=aR) (ai (af 0) (ai (aE 10) (ai (av bZ (a7 dy (ai (af 3) ar)) (aE 1)) ar)))))
 (aH (aS (aQ (n:=3) (f:=aR) (ai (af 0) (ai (aE 11) (ai (aE 26) ar)))))
 (ba (bO (m:=1) (caps:=[6,2,5,3]) (ft (ai (af 1) ar)) (aK 0) bG (av bZ (av bZ (Kf (af 4) kb (pZ (af 3))) (av bR (af 2) (av jC (av bZ (af 1) (av dN (aE 5) (af 0))) (aE 26)))) (Kf (af 4) (pZ (af 3)) kb)))))))))]
theorem gh:aY ["_law_cell_here","_law_many","_law_wide","_law_made","_law_rest","_law_span","_law_g","_law_number"] ["_law_cell_here","_law_many","_law_wide"] (aM tT):=cq
abbrev zR(e:Ev):Prop:=DIn e 36 "_law_move" ["_law_cell_here","_law_many","_law_wide"] nI
theorem FL(F:FA e "_law_move" tT)(Y:e.P.given.tree=qh)(ab:N0 e "int")(J:N0 e "range")(cx:jr e):zR e:=by
 exact bJ F gh rfl ∅ (bd3 λ_ _ _ _ _ _ _ _ _=>rfl) λ_ _ _ _ _ _ _ hr hu ac=>#[_,(ax (a0 (i:=3) gh.nd rfl (tt rfl) (fJ aq))
 (ax (a0 (i:=4) gh.nd rfl (tt rfl) (aV (lM ac Y #[_,_,rfl,rfl,rfl,rfl,rfl]) (pv 0) aF))
 (ax (a0 (i:=5) gh.nd rfl (tt rfl) (bS bE (fJ (ah aF (ah (aV cF (aV eM aF (aV DD aF aF)) aF) aq))) (gw vg rfl ab Boot.«int» (ah (pv 2) aq)) (λ_ _=>rfl)))
 (ax (eY PassesOwn.never rfl (dQ rfl J (ah (pv 1) aq)) (aO (i:=6) gh.nd rfl (tt rfl))
 (ax (a0 (i:=7) gh.nd rfl (tt rfl) (aV nr (aJ cx hr (ah (pv 0) (ah (aV cF aF (pv 6)) (ah aF aq)))) aF))
 (ax (cE (i6 (pv 2))
 (aG (a0 (i:=7) gh.nd rfl (tt rfl) (aV nr (aV cF (aV eM (pv 7) (aV iC (pv 0) (aV DD aF aF))) (aJ cx hr (ah (pv 0) (ah (aV cF aF (pv 6)) (ah aF aq))))) aF)))
 bM)
 (ax (cE (PW.pt (pw_and (bC (jn hu) (aV iC (pv 0) aF) aF bK) (pw_and1 (bC lZ (pv 4) aF bK))))
 (ax (a0 (i:=7) gh.nd rfl (tt rfl) (aV nr (aV iC (pv 4) (pv 5)) (aV (lM ac Y #[_,_,rfl,rfl,rfl,rfl,rfl]) (pv 5) aF)))
 (aG (a0 (i:=4) gh.nd rfl (tt rfl) (aV (lM ac Y #[_,_,rfl,rfl,rfl,rfl,rfl]) (pv 4) (pv 5)))))
 bM)
 (aG (du (iW Go No M2 fo (pv 3) (ah (pv 7) aq))))))))
 (aG (bc (pv 3))))))),
  (aH (aS (jK ar))
 (aH (aS (av jI (af 0) (aE 2)))
 (aH (aS (av bR (oQ (ai (aE 7) (ai (av bZ (av dN (aE 2) (av D0 (aE 10) (aE 12))) (aE 1)) ar))) (a7 yF (ai (af 2) ar))))
 (aH (fb (ft (ai (af 1) ar)) (aK 6)
 (aH (aS (av nF (aQ (n:=3) (f:=aR) (ai (af 0) (ai (av bZ (aE 20) (af 6)) (ai (aE 7) ar)))) (aE 3)))
 (aH (cJ (kX (af 2))
 (aS (av nF (av bZ (av dN (af 7) (av jC (af 0) (av D0 (aE 10) (aE 12)))) (aQ (n:=3) (f:=aR) (ai (af 0) (ai (av bZ (aE 30) (af 6)) (ai (aE 2000) ar))))) (aE 1000)))
 bN)
 (aH (cJ (zG (bP (av gP (av jC (af 0) (aE 2)) (aE 1))) (bP (av lX (af 4) (aE 0))))
 (aH (aS (av nF (av jC (af 4) (af 5)) (av jI (af 5) (aE 2))))
 (aS (av jI (af 4) (af 5))))
 bN)
 (dv (jc (af 3) (af 7)))))))
 (ba (af 3))))))]
theorem fB:aY ["_law_script","_law_begin","_law_many","_law_head","_law_moves_here","_law_wide","_law_k","_law_found","_law_way","_law_left"] ["_law_script","_law_begin","_law_many"] (aM rW):=cq
abbrev ye(e:Ev):Prop:=DIn e 37 "_law_moves" ["_law_script","_law_begin","_law_many"] iM
theorem DX(F:FA e "_law_moves" rW)(ap:e.P.given.tree=qh)(ab:N0 e "int")(J:N0 e "range")(Y:N0 e "len")(am:N0 e "sum")(ac:N0 e "list")(lg:uN e)(cx:jr e)(HH:zR e):ye e:=by
 exact bJ F fB rfl ∅ (bd3 λ_ _ _ _ _ _ _ _ _=>rfl) λ_ _ _ _ _ _ _ hr hu as=>#[_,(ax (a0 (i:=3) fB.nd rfl (S2 rfl) (aJ lg hr (ah (pv 0) (ah (pv 1) aq))))
 (ax (a0 (i:=4) fB.nd rfl (S2 rfl) (fJ aq))
 (ax (a0 (i:=5) fB.nd rfl (tt rfl) (jM (jn hu) (aJ cx hr (ah (pv 3) (ah aF (ah aF aq)))) aF bK))
 (ax (eY PassesOwn.never rfl (dQ rfl J (ah (aV iC (aJ cx hr (ah (pv 3) (ah aF (ah aF aq)))) (aV nr aF (aV eM aF (gw vg rfl ab Boot.«int» (ah (pv 5) aq))))) aq)) (aO (i:=6) fB.nd rfl (S2 rfl))
 (aG (du (iW Go No M2 fo (pv 4) (ah (aJ HH hr (ah (aV cF (aJ lg hr (ah (pv 0) (ah (aV cF (aV cF (pv 1) aF) (pv 6)) aq))) (aV eM aF (pv 6))) (ah (pv 2) (ah (pv 5) aq)))) aq)))))
 (ax (a0 (i:=7) fB.nd rfl (tt rfl) (fJ aq))
 (ax (eY PassesOwn.never rfl (dQ rfl J (ah (aV (lM as ap #[_,_,rfl,rfl,rfl,rfl,rfl]) (aJ cx hr (ah (pv 3) (ah aF (ah aF aq)))) (aV cF aF (gw vg rfl ab Boot.«int» (ah (pv 5) aq)))) aq)) (aO (i:=6) fB.nd rfl (S2 rfl))
 (ax (a0 (i:=8) fB.nd rfl (S2 rfl) (cz (own:=["_law_at"]) (cap:=["_law_head","_law_k"]) (caps:=[3,6]) rfl (scC #[rfl,tt rfl,rfl,#[rfl,tt rfl,rfl,trivial]]) (dQ rfl J (ah (bj cy rfl Y Boot.«len» (ah (pv 4) aq)) aq)) (λ_ _ _=>(aO (i:=0) (ndL ["_law_at"] ["_law_head","_law_k"]) rfl (tt rfl))) (λ_ _ _=>bI) (λ_ _ _=>(aV iC (aJ cx hr (ah (pv 1) (ah (aV cF (aV cF aF (aV eM aF (pv 2))) (pv 0)) (ah aF aq)))) aF))))
 (ax (c9 (i:=9) (own:=["_law_g"]) (cap:=["_law_moves_here","_law_way"]) (caps:=[4,8]) rfl (scC #[rfl,tt rfl,rfl,#[rfl,tt rfl,rfl,trivial]]) (dQ rfl J (ah (pv 2) aq)) (λ_ _ _=>(aO (i:=0) (ndL ["_law_g"] ["_law_moves_here","_law_way"]) rfl (S2 rfl))) (λ_ _ _=>bI) (λ_ _ _=>(bj (oF rfl) rfl am Boot.«sum» (ah (cz (own:=["_law_at"]) (cap:=["_law_g","_law_moves_here","_law_way"]) (caps:=[0,1,2]) rfl (scC #[rfl,tt rfl,rfl,#[rfl,tt rfl,rfl,#[rfl,tt rfl,rfl,trivial]]]) (dQ rfl J (ah (bj cy rfl Y Boot.«len» (ah (pv 1) aq)) aq)) (λ_ _ _=>(aO (i:=0) (ndL ["_law_at"] ["_law_g","_law_moves_here","_law_way"]) rfl (tt rfl))) (λ_ _ _=>bI) (λ_ _ _=>(aV eM (bS bE (pv 3) (pv 0) (λ_ _=>rfl)) (bS bE (bS bE (pv 2) (pv 0) (λ_ _=>rfl)) (pv 1) (λ_ _=>rfl))))) aq))) fB.nd rfl (tt rfl) rfl)
 (ax (du (iW Go No M2 fo (pv 4) (ah (cz (own:=["_law_number"]) (cap:=[]) (caps:=[]) rfl (scC trivial) (b9 (pv 9)) (λ_ _ _=>(aO (i:=0) (ndL ["_law_number"] []) rfl (tt rfl))) (λ_ _ _=>bI) (λ_ _ _=>(rh oO (pv 0)))) aq)))
 (aG (du (iW Go No M2 fo (pv 7) (ah (aV cF (pv 8) (fJ (ah aF aq))) aq))))))))
 (ax (cE (PW.pt (pw_and (bC (jn hu) (aJ cx hr (ah (pv 3) (ah aF (ah aF aq)))) aF bK) (pw_and1 (bC kM (bj cy rfl Y Boot.«len» (ah (pv 4) aq)) aF bK))))
 (ax (du (iW Go PySem.F.slot_list_insert PySem.F.type_list_insert MW (pv 4) (ah aF (ah (cz (own:=["_law_g"]) (cap:=[]) (caps:=[]) rfl (scC trivial) (dQ rfl J (ah (pv 2) aq)) (λ_ _ _=>(aO (i:=0) (ndL ["_law_g"] []) rfl (tt rfl))) (λ_ _ _=>bI) (λ_ _ _=>aF)) aq))))
 (aG (a0 (i:=7) fB.nd rfl (tt rfl) (aV cF (cz (own:=["_law_way"]) (cap:=[]) (caps:=[]) rfl (scC trivial) (b9 (pv 7)) (λ_ _ _=>(aO (i:=0) (ndL ["_law_way"] []) rfl (tt rfl))) (λ_ _ _=>bI) (λ_ _ _=>(aV cF (fJ (ah aF aq)) (pv 0)))) (fJ (ah (fJ (ah aF aq)) aq))))))
 bM)
 (ax (cE (PW.pt (pw_and (bC (jn hu) (aJ cx hr (ah (pv 3) (ah aF (ah aF aq)))) aF bK) (pw_and1 (Kt kM kM aF (bj cy rfl Y Boot.«len» (ah (pv 4) aq)) aF))))
 (aG (du (iW Go No M2 fo (pv 4) (ah (gw gi rfl ac Boot.«list» (ah (bS bE (pv 4) (rh oO aF) (λ_ _=>rfl)) aq)) aq))))
 bM)
 (aG (bc (ko (ah (pv 4) (ah (cz (own:=["_law_way"]) (cap:=["_law_moves_here"]) (caps:=[4]) rfl (scC #[rfl,tt rfl,rfl,trivial]) (b9 (pv 7)) (λ_ _ _=>(aO (i:=0) (ndL ["_law_way"] ["_law_moves_here"]) rfl (tt rfl))) (λ_ _ _=>bI) (λ_ _ _=>(aV cF (pv 0) (cz (own:=["_law_k"]) (cap:=[]) (caps:=[]) rfl (scC trivial) (dQ rfl J (ah (aV nr (bj cy rfl Y Boot.«len» (ah (pv 1) aq)) (bj cy rfl Y Boot.«len» (ah (pv 0) aq))) aq)) (λ_ _ _=>(aO (i:=0) (ndL ["_law_k"] []) rfl (tt rfl))) (λ_ _ _=>bI) (λ_ _ _=>aF))))) aq))))))))))))),
  (aH (aS (aQ (n:=2) (f:=cQ) (ai (af 0) (ai (af 1) ar))))
 (aH (aS (jK ar))
 (aH (aS (av gP (aQ (n:=3) (f:=aR) (ai (af 3) (ai (aE 41) (ai (aE 6) ar)))) (aE 0)))
 (aH (fb (ft (ai (av jC (aQ (n:=3) (f:=aR) (ai (af 3) (ai (aE 40) (ai (aE 5) ar)))) (av nF (aE 5) (av dN (aE 2) (a7 yF (ai (af 5) ar))))) ar)) (aK 6)
 (dv (jc (af 4) (kK (gH (n:=3) (f:=nI) (ai (av bZ (aQ (n:=2) (f:=cQ) (ai (af 0) (ai (av bZ (av bZ (af 1) (aE 1)) (af 6)) ar))) (av dN (aE 13) (af 6))) (ai (af 2) (ai (af 5) ar))))))))
 (aH (aS (jK ar))
 (aH (fb (ft (ai (av jI (aQ (n:=3) (f:=aR) (ai (af 3) (ai (aE 42) (ai (aE 3) ar)))) (av bZ (aE 1) (a7 yF (ai (af 5) ar)))) ar)) (aK 6)
 (aH (aS (bO (m:=1) (caps:=[3,6]) (ft (ai (a7 dy (ai (af 4) ar)) ar)) (aK 0) bG (av jC (aQ (n:=3) (f:=aR) (ai (af 1) (ai (av bZ (av bZ (aE 50) (av dN (aE 7) (af 2))) (af 0)) (ai (aE 4) ar)))) (aE 3))))
 (aH (aS (bO (m:=1) (caps:=[4,8]) (ft (ai (af 2) ar)) (aK 0) bG (a7 vS (ai (bO (m:=1) (caps:=[0,1,2]) (ft (ai (a7 dy (ai (af 1) ar)) ar)) (aK 0) bG (av dN (av bR (af 3) (af 0)) (av bR (av bR (af 2) (af 0)) (af 1)))) ar))))
 (aH (dv (jc (af 4) (bO (m:=1) (caps:=[]) (cf (af 9)) (aK 0) bG (rk oN (af 0)))))
 (dv (jc (af 7) (av bZ (af 8) (oQ (ai (aE 1) ar)))))))))
 (aH (cJ (zG (bP (av gP (aQ (n:=3) (f:=aR) (ai (af 3) (ai (aE 43) (ai (aE 5) ar)))) (aE 0))) (bP (av k9 (a7 dy (ai (af 4) ar)) (aE 6))))
 (aH (dv (NY (af 4) (bO (m:=1) (caps:=[]) (ft (ai (af 2) ar)) (aK 0) bG (aE 0))))
 (aS (Ox (bO (m:=1) (caps:=[]) (cf (af 7)) (aK 0) bG (av bZ (oQ (ai (aE 0) ar)) (af 0))) (oQ (ai (oQ (ai (aE 1) ar)) ar)))))
 bN)
 (aH (cJ (zG (bP (av gP (aQ (n:=3) (f:=aR) (ai (af 3) (ai (aE 44) (ai (aE 5) ar)))) (aE 0))) (bP (D5 k9 k9 (aE 0) (a7 dy (ai (af 4) ar)) (aE 6))))
 (dv (jc (af 4) (a7 my (ai (av bR (af 4) (rk oN (aE 1))) ar))))
 bN)
 (ba (kj (ai (af 4) (ai (nU (m:=1) (caps:=[4]) (cf (af 7)) (aK 0) bG (av bZ (af 0) (bO (m:=1) (caps:=[]) (ft (ai (av nF (a7 dy (ai (af 1) ar)) (a7 dy (ai (af 0) ar))) ar)) (aK 0) bG (aE 0)))) ar))))))))))))]
theorem fC:aY ["_law_moves_here","_law_stuff","_law_called","_law_cell_here","_law_made","_law_k","_law_move_here","_law_uses","_law_makes","_law_g","_law_number","_law_more"] ["_law_moves_here","_law_stuff","_law_called","_law_cell_here"] (aM sj):=cq
abbrev xT(e:Ev):Prop:=DIn e 36 "_law_works" ["_law_moves_here","_law_stuff","_law_called","_law_cell_here"] iN
theorem Ff(F:FA e "_law_works" sj)(ab:e.P.given.tree=qh)(J:N0 e "enumerate")(Y:N0 e "max")(cx:jr e):xT e:=by
 exact bJ F fC rfl ∅ (bd4 λ_ _ _ _ _ _ _ _ _ _=>rfl) λ_ _ _ _ _ _ _ hr hu am=>#[_,(ax (a0 (i:=4) fC.nd rfl (tt rfl) (fJ aq))
 (ax (eY PassesOwn.never rfl (k7 rfl J (ah (pv 0) aq)) (eR rfl (bu (aO (i:=5) fC.nd rfl (tt rfl)) (bu (aO (i:=6) fC.nd rfl (tt rfl)) dZ)))
 (ax (a0 (i:=7) fC.nd rfl (tt rfl) (fJ aq))
 (ax (a0 (i:=8) fC.nd rfl (tt rfl) (fJ aq))
 (ax (eY PassesOwn.never rfl (k7 rfl J (ah (pv 6) aq)) (eR rfl (bu (aO (i:=9) fC.nd rfl (tt rfl)) (bu (aO (i:=10) fC.nd rfl (tt rfl)) dZ)))
 (ax (a0 (i:=11) fC.nd rfl (tt rfl) (aV eM (aV (lM am ab #[_,_,rfl,rfl,rfl,rfl,rfl]) (aJ cx hr (ah (aV cF (pv 3) (pv 5)) (ah (aV cF aF (pv 9)) (ah aF aq)))) aF) (aV cF aF (aJ cx hr (ah (aV cF (pv 3) (pv 5)) (ah (aV cF aF (pv 9)) (ah aF aq)))))))
 (ax (cE (bC lZ (aV cF (pv 11) (bj (qQ rfl) rfl Y Boot.«max» (ah aF (ah (rh oO (pv 10)) aq)))) aF bK)
 (aG (du (iW Go No M2 fo (pv 7) (ah (ko (ah (bS bE (pv 1) (pv 9) (λ_ _=>rfl)) (ah (aV cF (pv 11) (bj (qQ rfl) rfl Y Boot.«max» (ah aF (ah (rh oO (pv 10)) aq)))) aq))) aq))))
 bM)
 (aG (cE (bC lZ (aV cF (pv 11) (bj (qQ rfl) rfl Y Boot.«max» (ah aF (ah (pv 10) aq)))) aF bK)
 (aG (du (iW Go No M2 fo (pv 8) (ah (ko (ah (bS bE (pv 1) (pv 9) (λ_ _=>rfl)) (ah (aV cF (pv 11) (bj (qQ rfl) rfl Y Boot.«max» (ah aF (ah (pv 10) aq)))) aq))) aq))))
 bM)))))
 (ax (cE (bC (jn hu) (aJ cx hr (ah (aV cF (pv 3) (pv 5)) (ah aF (ah aF aq)))) aF bK)
 (aG (a0 (i:=7) fC.nd rfl (tt rfl) (Nd (pv 7) n9 n9 (pW (rh oO aF)))))
 bM)
 (aG (du (iW Go No M2 fo (pv 4) (ah (ko (ah (bS bE (pv 2) (pv 5) (λ_ _=>rfl)) (ah (pv 7) (ah (pv 8) aq)))) aq)))))))))
 (aG (bc (pv 4))))),
  (aH (aS (jK ar))
 (aH (fb (fP (ai (af 0) ar)) (d0 (br (aK 5) (br (aK 6) dW)))
 (aH (aS (jK ar))
 (aH (aS (jK ar))
 (aH (fb (fP (ai (af 6) ar)) (d0 (br (aK 9) (br (aK 10) dW)))
 (aH (aS (av dN (av jI (aQ (n:=3) (f:=aR) (ai (av bZ (af 3) (af 5)) (ai (av bZ (aE 70) (af 9)) (ai (aE 4) ar)))) (aE 3)) (av bZ (aE 1) (aQ (n:=3) (f:=aR) (ai (av bZ (af 3) (af 5)) (ai (av bZ (aE 80) (af 9)) (ai (aE 9) ar)))))))
 (aH (cJ (bP (av lX (av bZ (af 11) (a7 xv (ai (aE 0) (ai (rk oN (af 10)) ar)))) (aE 0)))
 (dv (jc (af 7) (kj (ai (av bR (af 1) (af 9)) (ai (av bZ (af 11) (a7 xv (ai (aE 0) (ai (rk oN (af 10)) ar)))) ar)))))
 bN)
 (cJ (bP (av lX (av bZ (af 11) (a7 xv (ai (aE 0) (ai (af 10) ar)))) (aE 0)))
 (dv (jc (af 8) (kj (ai (av bR (af 1) (af 9)) (ai (av bZ (af 11) (a7 xv (ai (aE 0) (ai (af 10) ar)))) ar)))))
 bN))))
 (aH (cJ (bP (av gP (aQ (n:=3) (f:=aR) (ai (av bZ (af 3) (af 5)) (ai (aE 90) (ai (aE 2) ar)))) (aE 1)))
 (aS (NL (af 7) kb kb (pZ (rk oN (aE 1)))))
 bN)
 (dv (jc (af 4) (kj (ai (av bR (af 2) (af 5)) (ai (M3 (af 7)) (ai (kK (af 8)) ar)))))))))))
 (ba (kK (af 4)))))]
theorem hJ:aY ["_law_known","_law_many","_law_cell_here","_law_made","_law_k","_law_way","_law_often"] ["_law_known","_law_many","_law_cell_here"] (aM rJ):=cq
abbrev yg(e:Ev):Prop:=DIn e 36 "_law_drawn" ["_law_known","_law_many","_law_cell_here"] lP
theorem DB(F:FA e "_law_drawn" rJ)(am:e.P.given.tree=qh)(Y:N0 e "range")(J:N0 e "enumerate")(ab:N0 e "zip")(cx:jr e):yg e:=by
 exact bJ F hJ rfl ∅ (bd3 λ_ _ _ _ _ _ _ _ _=>rfl) λ_ _ _ _ _ _ _ hr hu an=>#[_,(ax (c9 (i:=3) (own:=["_law_at"]) (cap:=[]) (caps:=[]) rfl (scC trivial) (dQ rfl Y (ah (pv 1) aq)) (λ_ _ _=>(aO (i:=0) (ndL ["_law_at"] []) rfl (tt rfl))) (λ_ _ _=>bI) (λ_ _ _=>aF) hJ.nd rfl (tt rfl) rfl)
 (ax (eY PassesOwn.never rfl (k7 rfl J (ah (pv 0) aq)) (eR rfl (bu (aO (i:=4) hJ.nd rfl (tt rfl)) (bu (aO (i:=5) hJ.nd rfl (tt rfl)) dZ)))
 (ax (a0 (i:=6) hJ.nd rfl (S2 rfl) (aJ cx hr (ah (pv 2) (ah (aV cF aF (pv 4)) (ah aF aq)))))
 (ax (cE (bC (jn hu) (aJ cx hr (ah (pv 2) (ah (aV cF aF (pv 4)) (ah aF aq)))) aF bK)
 (aG (a0 (i:=6) hJ.nd rfl (S2 rfl) (aV iC (pv 2) (aV DD aF aF))))
 bM)
 (aG (c9 (i:=3) (own:=["_law_number","_law_one"]) (cap:=["_law_often"]) (caps:=[6]) rfl (scC #[rfl,tt rfl,rfl,trivial]) (lS rfl ab (ah (pv 3) (ah (pv 5) aq))) (λ_ _ _=>(eR rfl (bu (aO (i:=0) (ndL ["_law_number","_law_one"] ["_law_often"]) rfl (tt rfl)) (bu (aO (i:=1) (ndL ["_law_number","_law_one"] ["_law_often"]) rfl (tt rfl)) dZ)))) (λ_ _ _=>bI) (λ_ _ _=>(aV cF (pv 0) (aV eM (pv 2) (pv 1)))) hJ.nd rfl (tt rfl) rfl)))))
 (aG (bc (pv 3))))),
  (aH (aS (bO (m:=1) (caps:=[]) (ft (ai (af 1) ar)) (aK 0) bG (aE 0)))
 (aH (fb (fP (ai (af 0) ar)) (d0 (br (aK 4) (br (aK 5) dW)))
 (aH (aS (aQ (n:=3) (f:=aR) (ai (af 2) (ai (av bZ (aE 100) (af 4)) (ai (aE 4) ar)))))
 (aH (cJ (bP (av gP (aQ (n:=3) (f:=aR) (ai (af 2) (ai (av bZ (aE 110) (af 4)) (ai (aE 4) ar)))) (aE 0)))
 (aS (av jC (af 2) (av D0 (aE 10) (aE 12))))
 bN)
 (aS (bO (m:=2) (caps:=[6]) (qM (ai (af 3) (ai (af 5) ar))) (d0 (br (aK 0) (br (aK 1) dW))) bG (av bZ (af 0) (av dN (af 2) (af 1))))))))
 (ba (af 3))))]
theorem qm:aY ["_law_yard","_law_moves_here","_law_weights","_law_at","_law_any_way","_law_balanced_way","_law_burdens","_law_due"] ["_law_yard","_law_moves_here","_law_weights","_law_at","_law_any_way","_law_balanced_way"] (aM sf):=cq
abbrev xP(e:Ev):Prop:=DIn e 39 "_law_never" ["_law_yard","_law_moves_here","_law_weights","_law_at","_law_any_way","_law_balanced_way"] ow
theorem D4(F:FA e "_law_never" sf)(bb:e.P.given.tree=qh)(a2:N0 e "zip")(a3:N0 e "sum")(a5:N0 e "min")(ap:Cls e.K (e.ca 0))(Iu:BO e)(ac:oZ e)(J:j2 e):xP e:=by
 obtain⟨a4,a1,am,gJ,an⟩:=ac;obtain⟨az,as,Y,dE,ab⟩:=J;exact bJ F qm rfl ∅ (λ_ _ _ _ _ _ us hl=>match us,hl with | [_,_,_,_,_,_],_=>rfl) λ_ _ _ _ _ _ _ hr hu bf=>#[_,(ax (c9 (i:=6) (own:=["_law_move_here"]) (cap:=["_law_weights"]) (caps:=[2]) rfl (scC #[rfl,tt rfl,rfl,trivial]) (b9 (pv 1)) (λ_ _ _=>(aO (i:=0) (ndL ["_law_move_here"] ["_law_weights"]) rfl (tt rfl))) (λ_ _ _=>bI) (λ_ _ _=>(by exact(bj (oF rfl) rfl a3 Boot.«sum» (ah (cz (own:=["_law_a","_law_b"]) (cap:=[]) (caps:=[]) rfl (scC trivial) (lS rfl a2 (ah (pv 1) (ah (pv 0) aq))) (λ_ _ _=>(eR rfl (bu (aO (i:=0) (ndL ["_law_a","_law_b"] []) rfl (tt rfl)) (bu (aO (i:=1) (ndL ["_law_a","_law_b"] []) rfl (tt rfl)) dZ)))) (λ_ _ _=>bI) (λ_ _ _=>(aV eM (pv 0) (pv 1)))) aq)))) qm.nd rfl (tt rfl) rfl)
 (ax (cE (PW.pt (pw_or (bC (um hu) (bS bE (pv 5) (pv 3) (λ_ _=>rfl)) aF bK) (pw_or1 (bC kM (bj (JJ rfl) rfl a5 Boot.«min» (ah (pv 6) aq)) aF bK))))
 (aG (bc qP))
 bM)
 (ax (a0 (i:=7) qm.nd rfl (tt rfl) (bj (oF rfl) rfl a3 Boot.«sum» (ah (cz (own:=["_law_load","_law_often"]) (cap:=[]) (caps:=[]) rfl (scC trivial) (lS rfl a2 (ah (pv 6) (ah (pv 4) aq))) (λ_ _ _=>(eR rfl (bu (aO (i:=0) (ndL ["_law_load","_law_often"] []) rfl (tt rfl)) (bu (aO (i:=1) (ndL ["_law_load","_law_often"] []) rfl (tt rfl)) dZ)))) (λ_ _ _=>bI) (λ_ _ _=>(aV eM (pv 0) (pv 1)))) aq)))
 (ax (cE (bC (um hu) (aJ Iu hr (ah (pv 0) (ah (pv 2) (ah (nM (pv 0) ap gJ am (hr.mono ∅) an .nil iq (ah (pv 4) aq)) aq)))) (pv 7) bK)
 (aG (bc qP))
 bM)
 (aG (bc (QS (jM (jn hu) (bS bE (pv 4) (pv 3) (λ_ _=>rfl)) aF bK) (Ew (JB (jM lZ (pv 7) aF bK) (Ew (jM Qu (nM (pv 0) ap dE Y (hr.mono ∅) ab .nil iq (ah (pv 4) aq)) qP bK))))))))))),
  (aH (aS (bO (m:=1) (caps:=[2]) (cf (af 1)) (aK 0) bG (a7 vS (ai (bO (m:=2) (caps:=[]) (qM (ai (af 1) (ai (af 0) ar))) (d0 (br (aK 0) (br (aK 1) dW))) bG (av dN (af 0) (af 1))) ar))))
 (aH (cJ (tZ (bP (av pB (av bR (af 5) (af 3)) (aE 0))) (bP (av k9 (a7 NJ (ai (af 6) ar)) (aE 0))))
 (ba (qU xL))
 bN)
 (aH (aS (a7 vS (ai (bO (m:=2) (caps:=[]) (qM (ai (af 6) (ai (af 4) ar))) (d0 (br (aK 0) (br (aK 1) dW))) bG (av dN (af 0) (af 1))) ar)))
 (aH (cJ (bP (av pB (aQ (n:=3) (f:=oM) (ai (af 0) (ai (af 2) (ai (fg (c:=0) (m:="leaves") (n:=1) (f:=dU) (af 0) (ai (af 4) ar)) ar)))) (af 7)))
 (ba (qU xL))
 bN)
 (ba (Qh (av gP (av bR (af 4) (af 3)) (aE 0)) (GR (av lX (af 7) (aE 0)) (av MK (fg (c:=0) (m:="balanced") (n:=1) (f:=dk) (af 0) (ai (af 4) ar)) (qU xL)))))))))]
theorem iF:aY ["_law_script","_law_head","_law_many","_law_moves_here","_law_known","_law_stuff","_law_called","_law_yard","_law_good","_law_at","_law_word","_law_told","_law_any_way","_law_both"] ["_law_script"] (aM pM):=cq
theorem PR{a:sK}(F:Fun e.K "law" "law" pM a fd)(hm:e.mg "law" =pr (.ref a))(bi:e.P.given.tree=qh)(ac:N0 e "len")(az:N0 e "range")(bb:N0 e "zip")(a3:Cls e.K (e.ca 0))(lg:uN e)(cx:jr e)(FU:ye e)(yj:xF e)(am:xM e)(FV:xT e)(FG:yg e)(Pj:Jo e)(Gd:xP e)(J:j2 e)(K8:DO e):MA e.P e.w e.K e.mg e.base e.ca 45 "law" ["_law_script"] Dh a fd:=by
 obtain⟨a5,a4,an,ap,lJ,as⟩:=am;obtain⟨a2,a1,Y,dE,ab⟩:=J;refine#[lL F iF rfl λbz A outer s H E hr=> ?_,hm,F.kp,F.binds λ_ _ _ _ _ _ us hl=>match us,hl with | [_],_=>rfl];have hu:=hr.units;have b2:=oh hr ∅;exact#[_,(ax (a0 (i:=1) iF.nd rfl (tt rfl) (aJ lg hr (ah (pv 0) (ah aF aq))))
 (ax (a0 (i:=2) iF.nd rfl (tt rfl) (aV cF aF (aJ cx hr (ah (pv 1) (ah aF (ah aF aq))))))
 (ax (zX (aJ FU hr (ah (pv 0) (ah aF (ah (pv 2) aq)))) (eR rfl (bu (aO (i:=3) iF.nd rfl (tt rfl)) (bu (aO (i:=4) iF.nd rfl (tt rfl)) dZ))))
 (ax (a0 (i:=5) iF.nd rfl (tt rfl) (aJ yj hr (ah (aV cF (pv 1) aF) (ah (pv 2) aq))))
 (ax (a0 (i:=6) iF.nd rfl (tt rfl) (aJ yj hr (ah (pv 1) (ah (bj cy rfl ac Boot.«len» (ah (pv 3) aq)) aq))))
 (ax (a0 (i:=7) iF.nd rfl (tt rfl) (NC ap an (hr.mono ∅) rfl lJ as .nil iq (ah (pv 5) (ah (aJ FV hr (ah (pv 3) (ah (pv 5) (ah (pv 6) (ah (pv 1) aq))))) aq))))
 (ax (a0 (i:=8) iF.nd rfl (tt rfl) (aJ FG hr (ah (pv 4) (ah (bj cy rfl ac Boot.«len» (ah (pv 3) aq)) (ah (aJ lg hr (ah (pv 0) (ah aF aq))) aq)))))
 (ax (eY PassesOwn.never rfl (dQ rfl az (ah (bj cy rfl ac Boot.«len» (ah (pv 3) aq)) aq)) (aO (i:=9) iF.nd rfl (S2 rfl))
 (ax (zX (aJ Pj hr (ah (pv 7) (ah (bS bE (pv 6) (pv 9) (λ_ _=>rfl)) aq))) (eR rfl (bu (aO (i:=10) iF.nd rfl (tt rfl)) (bu (aO (i:=11) iF.nd rfl (tt rfl)) dZ))))
 (ax (c9 (i:=12) (own:=["_law_k"]) (cap:=["_law_at","_law_script"]) (caps:=[9,0]) rfl (scC #[rfl,tt rfl,rfl,#[rfl,tt rfl,rfl,trivial]]) (dQ rfl az (ah (bj cy rfl ac Boot.«len» (ah (pv 3) aq)) aq)) (λ_ _ _=>(aO (i:=0) (ndL ["_law_k"] ["_law_at","_law_script"]) rfl (tt rfl))) (λ_ _ _=>bI) (λ_ _ _=>(aJ cx hr (ah (aV cF (aJ lg hr (ah (pv 2) (ah aF aq))) (pv 1)) (ah (aV cF aF (pv 0)) (ah aF aq))))) iF.nd rfl (tt rfl) rfl)
 (aG (cE (bC (jn hu) (pv 10) qK bK)
 (aG (cE (qa (i6 (aJ Gd hr (ah (pv 7) (ah (pv 3) (ah (pv 11) (ah (pv 9) (ah (pv 12) (ah (pv 8) aq)))))))))
 (aG (bc qP))
 bM))
 (ax (c9 (i:=13) (own:=["_law_one","_law_other"]) (cap:=[]) (caps:=[]) rfl (scC trivial) (lS rfl bb (ah (pv 11) (ah (pv 8) aq))) (λ_ _ _=>(eR rfl (bu (aO (i:=0) (ndL ["_law_one","_law_other"] []) rfl (tt rfl)) (bu (aO (i:=1) (ndL ["_law_one","_law_other"] []) rfl (tt rfl)) dZ)))) (λ_ _ _=>bI) (λ_ _ _=>(aV cF (pv 0) (pv 1))) iF.nd rfl (tt rfl) rfl)
 (aG (cE (PW.pt (pw_or (bC kM (bS bE (pv 11) (pv 9) (λ_ _=>rfl)) aF bK) (pw_or (bC O0 (nM (pv 7) a3 dE Y (hr.mono ∅) ab .nil iq (ah (pv 13) aq)) qP bK) (pw_or1 (bC (jn hu) (bj cy rfl ac Boot.«len» (ah (aJ K8 hr (ah (pv 7) (ah (pv 13) aq))) aq)) aF bK)))))
 (aG (bc qP))
 bM))))))))
 (aG (bc qP)))))))))),
  (aH (aS (aQ (n:=2) (f:=cQ) (ai (af 0) (ai (aE 0) ar))))
 (aH (aS (av bZ (aE 1) (aQ (n:=3) (f:=aR) (ai (af 1) (ai (aE 45) (ai (aE 4) ar))))))
 (aH (vk (Nq (gH (n:=3) (f:=iM) (ai (af 0) (ai (aE 0) (ai (af 2) ar))))) (d0 (br (aK 3) (br (aK 4) dW))))
 (aH (aS (aQ (n:=2) (f:=fM) (ai (av bZ (af 1) (aE 1)) (ai (af 2) ar))))
 (aH (aS (aQ (n:=2) (f:=fM) (ai (af 1) (ai (a7 dy (ai (af 3) ar)) ar))))
 (aH (aS (NG (c:=0) (n:=2) (f:=jN) (ai (af 5) (ai (aQ (n:=4) (f:=iN) (ai (af 3) (ai (af 5) (ai (af 6) (ai (af 1) ar))))) ar))))
 (aH (aS (aQ (n:=3) (f:=lP) (ai (af 4) (ai (a7 dy (ai (af 3) ar)) (ai (aQ (n:=2) (f:=cQ) (ai (af 0) (ai (aE 5) ar))) ar)))))
 (aH (fb (ft (ai (a7 dy (ai (af 3) ar)) ar)) (aK 9)
 (aH (vk (gH (n:=2) (f:=sW) (ai (af 7) (ai (av bR (af 6) (af 9)) ar))) (d0 (br (aK 10) (br (aK 11) dW))))
 (aH (aS (bO (m:=1) (caps:=[9,0]) (ft (ai (a7 dy (ai (af 3) ar)) ar)) (aK 0) bG (aQ (n:=3) (f:=aR) (ai (av bZ (aQ (n:=2) (f:=cQ) (ai (af 2) (ai (aE 6) ar))) (af 1)) (ai (av bZ (aE 10) (af 0)) (ai (aE 4) ar))))))
 (cJ (bP (av gP (af 10) (qi ("never" :Str))))
 (cJ (qp (kX (aQ (n:=6) (f:=ow) (ai (af 7) (ai (af 3) (ai (af 11) (ai (af 9) (ai (af 12) (ai (af 8) ar)))))))))
 (ba (qU xL))
 bN)
 (aH (aS (v7 (m:=2) (caps:=[]) (Bg (ai (af 11) (ai (af 8) ar))) (d0 (br (aK 0) (br (aK 1) dW))) bG (av bZ (af 0) (af 1))))
 (cJ (tZ (bP (av k9 (av bR (af 11) (af 9)) (aE 1))) (tZ (bP (av N2 (fg (c:=0) (m:="balanced") (n:=1) (f:=dk) (af 7) (ai (af 13) ar)) (qU ss))) (bP (av gP (a7 dy (ai (kK (gH (n:=2) (f:=ud) (ai (af 7) (ai (af 13) ar)))) ar)) (aE 0)))))
 (ba (qU xL))
 bN))))))
 (ba (qU ss))))))))))]
end
theorem sO(ns:List Int)(k:Nat):∃c,cQ [vI ns,.int (k:Int)] []=.ok (.int c,[])/\(k<ns.length->c=nth ns k):=by by_cases h:k<ns.length;refine#[nth ns k,df (s:=#[[pr (vI ns),pr (.int (k:Int))],[]]) ?_,λ_=>rfl];have hk:((k:Int)<(ns.length:Int)):=⋯;simp[ug,hk,fY h];refine#[0,df (s:=#[[pr (vI ns),pr (.int (k:Int))],[]]) ?_,λz=>absurd z h];have hk:¬((k:Int)<(ns.length:Int)):=⋯;simp[ug,hk]
def azB(x:Str):Bool:= !decide (x.cps.toList<("a" :Str).cps.toList)&& !decide (("z" :Str).cps.toList<x.cps.toList)
theorem ES{i j:Str}:uz O (.str i) (.str j)=.ok (.bl (!decide (j.cps.toList<i.cps.toList))):=rfl
theorem Pr{x:Str}(h:s.r[i]? =pr (pr (.str x))):nD uz uz (au (.str ("a" :Str))) (aa i) (au (.str ("z" :Str))) s=.ok (.bl (azB x),s):=by
 rw[Cc,aB,aj,ag h,aj];dsimp only;rw[ES,aj];unfold azB;cases (!decide (x.cps.toList<("a" :Str).cps.toList)) with
 | false=>rfl
 | true=>
  dsimp only;rw[aB,aj];dsimp only;rw[ES,aj];rfl
def nmB(z:Str):Bool:=decide (1<=z.length)&&decide (z.length<=8)&&z.cps.toList.all λc=>azB #[#v[c]]
theorem len_list:z.cps.toList.length=z.length:=by unfold Str.length;simp
theorem IE(h:z.length<=1000000):oE [.str z] []=.ok (.bl (nmB z),[]):=by
 have J:a8 bY (ae (aa 0) ak) #[[pr (.str z)],[]]=.ok (.int (z.length:Int),#[[pr (.str z)],[]]):=by rw[gU,aW,ag (i:=0) rfl,aj,ay,aj,aj];dsimp only;rw[EZ (nX h),aj]
 have Y:orT (a9 (ao ltD (a8 bY (ae (aa 0) ak)) (au (.int 1)))) (a9 (ao gtD (a8 bY (ae (aa 0) ak)) (au (.int 8)))) #[[pr (.str z)],[]]=.ok (decide ((z.length:Int)<1)||decide ((8:Int)<(z.length:Int)),#[[pr (.str z)],[]]):=by rw[vm,gZ,dJ,J,aj,aB,aj];dsimp only;rw[iX,aj,aj];dsimp only;rw[aj];dsimp only;rw[kP J];cases decide ((z.length:Int)<1) <;> rfl
 have hc:=c7 (l:=z.cps.toList) (item:=λc=>.str #[#v[c]]) (out:=λc=>.bl (azB #[#v[c]])) (caps:=[]) (im:=Hh (aa 0)) (e:=nD uz uz (au (.str ("a" :Str))) (aa 0) (au (.str ("z" :Str)))) (k:=qh) (s:=#[[pr (.str z)],[]]) (by rw[NU,ag (i:=0) rfl,aj];rfl) trivial (by rw[len_list];exact nX h) (λc _=>Pr rfl)
 rw[show z.cps.toList.map (λc=>D.bl (azB #[#v[c]]))=(z.cps.toList.map λc=>azB #[#v[c]]).map D.bl by rw[wv];rfl] at hc;refine df (s:=#[[pr (.str z)],[]]) ?_;show vf #[[pr (.str z)],[]]=_;rw[vf];by_cases h1:z.length<1\/8<z.length;rw[show nmB z=xL by
  unfold nmB;rcases h1 with q | q
  rw[decide_eq_false (by omega:¬1<=z.length),Vr,Vr];rw[decide_eq_false (by omega:¬z.length<=8),Wh,Vr]]
 refine mG (Db (xw (s':=#[[pr (.str z)],[]]) ?_) (bD aB));rw[Y];rcases h1 with q | q
 rw[decide_eq_true (show (z.length:Int)<1 by omega),XD];rw[decide_eq_true (show (8:Int)<(z.length:Int) by omega),Bool.or_true];refine Db (bV (Db (j5 (s':=#[[pr (.str z)],[]]) ?_) rfl)) (bD ?_);rw[Y,decide_eq_false (show ¬(z.length:Int)<1 by omega),decide_eq_false (show ¬(8:Int)<(z.length:Int) by omega),VB];rw[gU,aW,hc,aj,ay,aj,aj];dsimp only;rw[yE,aj];unfold nmB;rw[decide_eq_true (by omega:1<=z.length),decide_eq_true (by omega:z.length<=8),UI,UI,US];rfl
abbrev ABC:Str:="abcdefghijklmnopqrstuvwxyz"
theorem OU:sg ABC=(wh 26).map (97 + ·):=∅
def mkS(l:List Nat):Str:=#[l.toArray]
theorem iJ{l:List Nat}:sg (mkS l)=l:=by simp[sg,mkS]
theorem kI(l:List Nat):(mkS l).length=l.length:=by rw[<- Ai,iJ]
def azL(l:List Nat):Prop:=∀c∈l,97<=c/\c<=122
theorem N4:azB #[#v[c]]=(decide (97<=c)&&decide (c<=122)):=by unfold azB;rw[show ("a" :Str).cps.toList=[97] by decide,show ("z" :Str).cps.toList=[122] by decide];show (!decide ([c] < [97])&& !decide ([122] < [c]))=_;rw[StrLaws.lt_cons_cons,StrLaws.lt_cons_cons,StrLaws.lt_nil_nil,Wh,VB,Wh,VB];congr 1;rw[TR];simp;rw[TR];simp
structure pA(z:Str):Prop where
 lo:1<=z.length
 hi:z.length<=8
 az:azL (sg z)
theorem pA.nm(h:pA z):nmB z=true:=by unfold nmB;rw[decide_eq_true h.lo,decide_eq_true h.hi,UI,UI,TZ];intro c hc;have:=h.az c hc;rw[N4,decide_eq_true this.1,decide_eq_true this.2];rfl
theorem J2{i:Int}(h0:0<=i)(h1:i<26):ixD O (.str ABC) (.int i)=.ok (.str (mkS [97+i.toNat])):=by
 have J:i.toNat<ABC.cps.toList.length:=by rw[show ABC.cps.toList.length=26 by decide];omega
 have ha:=qr J;rw[show ((i.toNat:Nat):Int)=i by omega] at ha;have Y:ABC.cps.toList[i.toNat]=97+i.toNat:=by have:=OU;rw[List.getElem_of_eq this];simp
 rw[Y] at ha;show (if ABC.length<=16777216 then (match atI ABC.cps.toList i with
  | some c=>Res.ok (D.str #[#v[c]])
  | none=>.bad) else .bad)=_
 rw[if_pos ∅,ha];rfl
theorem oo{pre rest:List D}(h:(wh n).map (λ(i:Nat)=>D.int (i:Int))=pre++d::rest):d=.int (pre.length:Int)/\pre.length<n:=by
 have h1:((wh n).map (λ(i:Nat)=>D.int (i:Int)))[pre.length]? =pr d:=by rw[h];simp
 have h2:pre.length<n:=by have:=congrArg TH h;simp at this;omega
 rw[wT,Tk h2] at h1;exact#[by simpa using h1.symm,h2]
def uG(q:Int)(k:Nat):Nat:=97+((q+3*(k:Int)+1)%26).toNat
def nmK(wd:List Nat)(at_:Nat)(q:Int)(B:Bool)(k:Nat):List Nat:=
 if B then (if k=0 then wd else if k=1 then wd.take (wd.length-1) else wd++[uG q k]) else wd.take at_++[uG q k]++wd.drop (at_+1)
theorem Gv{at_ k:Nat}{q:Int}{B:Bool}(h:at_<wd.length):(nmK wd at_ q B k).length=if B then (if k=0 then wd.length else if k=1 then wd.length-1 else wd.length+1) else wd.length:=by
 unfold nmK;cases B with
 | false=>simp;omega
 | true=>
  by_cases h0:k=0;simp[h0];by_cases h1:k=1;simp[h1];simp[h0,h1]
theorem Sd{at_ i j:Nat}{q:Int}{B:Bool}(h:at_<wd.length)(h2:2<=wd.length)(Y:i<j)(hj:j<8):nmK wd at_ q B i≠nmK wd at_ q B j:=by
 intro e;have hs:uG q i≠uG q j:=by unfold uG;omega
 cases B with
 | false=>
  unfold nmK at e;simp only[if_neg Eb] at e;have J:(wd.take at_).length=at_:=by rw[TY];omega
  have key:∀x:Nat,(wd.take at_++[x]++wd.drop (at_+1))[at_]? =pr x:=λx=>by rw[Ta,wP ⋯,J,WD];rfl
  have e1:(wd.take at_++[uG q i]++wd.drop (at_+1))[at_]? =(wd.take at_++[uG q j]++wd.drop (at_+1))[at_]? :=by rw[e]
  rw[key,key] at e1;have e1:uG q i=uG q j:=by simpa using e1
  exact hs e1
 | true=>
  have J:=congrArg TH e;rw[Gv h,Gv h] at J;simp only[if_true] at J;by_cases h0:i=0;subst h0;rw[if_pos rfl,if_neg ⋯] at J;split at J <;> omega;rw[if_neg h0,if_neg (show ¬j=0 by omega)] at J;by_cases h1:i=1;rw[if_pos h1,if_neg ⋯] at J;omega;unfold nmK at e;rw[if_pos rfl,if_pos rfl,if_neg h0,if_neg h1,if_neg (show ¬j=0 by omega),if_neg (show ¬j=1 by omega)] at e;have:=List.append_cancel_left e;simp at this;exact hs this
abbrev sD(l:List Str):D:=.lst (l.map D.str)
theorem wq{a b:Str}(h:a.length+b.length<=1000000):bh O (.str a) (.str b)=.ok (.str (a++b)):=if_pos (nX h)
abbrev pD(p:Str×Int):D:=.tup [.str p.1,.int p.2]
abbrev psD(l:List (Str×Int)):D:=.lst (l.map pD)
structure Wk where
 nm:Str
 us:List (Str×Int)
 ms:List (Str×Int)
abbrev wD(w:Wk):D:=.tup [.str w.nm,psD w.us,psD w.ms]
abbrev wsD(l:List Wk):D:=.lst (l.map wD)
@[simp] theorem dD {l:List Str}:aU (l.map D.str)=true:=by
 induction l with
 | nil=>rfl
 | cons a l J=>simp[aU,dq,J]
@[simp] theorem iK:aU (l.map pD)=true:=by
 induction l with
 | nil=>rfl
 | cons a l J=>simp[aU,dq,J]
@[simp] theorem mW (l:List Wk):aU (l.map wD)=true:=by
 induction l with
 | nil=>rfl
 | cons a l J=>simp[aU,dq,J]
theorem rn{l:List Str}:cD O (l.map D.str)=l.map D.str:=by
 induction l with
 | nil=>unfold cD;rfl
 | cons a l J=>rw[x0];unfold cD;rw[J];unfold res;rfl
theorem Gx{l:List Str}:aU [.str z,.lst (l.map D.str)]=true:=by show (ss&&(aU (l.map D.str)&&ss))=ss;rw[dD];rfl
theorem KZ{l m:List Str}:aU [.str z,.lst (l.map D.str),.lst (m.map D.str)]=true:=by show (ss&&(aU (l.map D.str)&&(aU (m.map D.str)&&ss)))=ss;rw[dD,dD];rfl
theorem KQ{l:List Str}(h:O[k]? =pr (.lst (l.map D.str))){g:List Str}:cD O (cD O [.str z,.lst (g.map D.str),.ptr k])=[.str z,.lst (g.map D.str),.lst (l.map D.str)]:=by
 have h1:cD O [.str z,.lst (g.map D.str),.ptr k]=[.str z,.lst (g.map D.str),.lst (l.map D.str)]:=by simp only[cD,res,rn,h]
 rw[h1];simp only[cD,res,rn]
theorem Oy{l:List Str}(h:O[k]? =pr (.lst (l.map D.str))):cD O (cD O [.str z,.ptr k])=[.str z,.lst (l.map D.str)]:=by
 have h1:cD O [.str z,.ptr k]=[.str z,.lst (l.map D.str)]:=by simp only[cD,res,rn,h]
 rw[h1];simp only[cD,res,rn]
theorem kq{α:Type}{f:α->D}{l:List α}:dR (l.map f)=l.zipIdx.map λp=>.tup [.int (p.2:Int),f p.1]:=by unfold dR;rw[Uh,Ve,wv];rfl
theorem mZ{α:Type}{g:α×Nat->D}{l:List α}{pre rest:List D}(h:l.zipIdx.map g=pre++d::rest):∃(J:pre.length<l.length),d=g (l[pre.length],pre.length):=by
 have J:pre.length<l.length:=by have:=congrArg TH h;simp at this;omega
 have h1:(l.zipIdx.map g)[pre.length]? =pr d:=by rw[h];simp
 rw[wT,ut (by simpa using J)] at h1;refine#[J, ?_];simpa using h1.symm
theorem B4{α:Type}{g:α->D}{l:List α}{pre rest:List D}(h:l.map g=pre++d::rest):∃(J:pre.length<l.length),d=g (l[pre.length]):=by
 have J:pre.length<l.length:=by have:=congrArg TH h;simp at this;omega
 have h1:(l.map g)[pre.length]? =pr d:=by rw[h];simp
 rw[wT,ut J] at h1;exact#[J,by simpa using h1.symm]
theorem lj{m:SM}(h:m #[ds.map pr++wn (n-ds.length) qh,O]=.next s):runM n m ds O=.ok (.non,s.o):=by unfold runM;rw[h]
theorem Gi{l:List Str}:inD O (.str z) (sD l)=.ok (.bl (l.any (· == z))):=by unfold inD inB;dsimp only;rw[gW];dsimp only;rw[pO]
theorem zI{l:List Str}:tf O (.str z) (sD l)=.ok (.bl (!l.any (· == z))):=by unfold tf inB;dsimp only;rw[gW];dsimp only;rw[pO]
theorem OI{l:List Str}(h:z∈l):l.any (· == z)=true:=W2.mpr #[z,h,by simp]
theorem Gg{l:List Str}(h:z∉l):l.any (· == z)=false:=by
 rw[VC];intro y hy e;have:y=z:=by simpa using e
 exact h (this▸hy)
theorem kZ{l:List Str}(h:l.Nodup)(hi:i<l.length):l[i]∉l.take i:=by intro hm;obtain⟨j,J,e⟩:=SX hm;rw[TY] at J;rw[List.getElem_take] at e;exact UP.mp h j i ⋯ hi ⋯ e
theorem NK{J:List Wk}(h1:goods.length<=10)(h2:J.length<=10):ky [sD goods,wsD J] []=.ok (.non,[]):=by
 refine lj (s:=#[[pr (sD goods),pr (wsD J)],[]]) ?_;show qH #[[pr (sD goods),pr (wsD J)],[]]=_;rw[qH];have Y:∀(i:Nat) (ds:List D),[pr (sD goods),pr (wsD J)][i]? =pr (pr (.lst ds))->a8 bY (ae (aa i) ak) #[[pr (sD goods),pr (wsD J)],[]]=.ok (.int (ds.length:Int),#[[pr (sD goods),pr (wsD J)],[]]):=λi ds h=>by rw[gU,aW,ag h,aj,ay,aj,aj];dsimp only;rw[eG,aj]
 refine Db (bV (Db (j5 (by rw[kP (Y 0 _ rfl),t3,decide_eq_false ⋯])) rfl)) ?_;exact Db (j5 (by rw[kP (Y 1 _ rfl),t3,decide_eq_false ⋯])) rfl
theorem GB{l:List Str}(hz:pA z)(J:z∉l):g9 [.str z,sD l] []=.ok (.non,[]):=by refine lj (s:=#[[pr (.str z),pr (sD l)],[]]) ?_;show qf #[[pr (.str z),pr (sD l)],[]]=_;rw[qf];have h1:aN 1 oE (ae (aa 0) ak) #[[pr (.str z),pr (sD l)],[]]=.ok (.bl ss,#[[pr (.str z),pr (sD l)],[]]):=cI (ds:=[.str z]) (by rw[aW,ag (i:=0) rfl];rfl) (by simp) rfl (by rw[IE (by have:=hz.hi;omega),hz.nm]) (by simp);refine Db (bV (Db (j5 (s':=#[[pr (.str z),pr (sD l)],[]]) ?_) rfl)) (Db (j5 (s':=#[[pr (.str z),pr (sD l)],[]]) ?_) rfl);rw[sU,gZ,h1];rfl;rw[gZ,dJ,ag (i:=0) rfl,aj,ag (i:=1) rfl,aj];dsimp only;rw[Gi,Gg J];rfl
theorem Mq(h:∀z∈goods,pA z)(nd:goods.Nodup):∃O,jD [sD goods] []=.ok (.non,O):=by
 obtain⟨s',el,J,Y,ab⟩:=fj (ok:=okC (dR (goods.map D.str)) qh) (g:=cH (aT (aA 1) (aT (aA 2) cL)) 2) (body:=j4)
  (λ_ s=>∃J Y,s=#[[pr (sD goods),J,Y],[]]) (λ_ _ _=>trivial) (dR (goods.map D.str)) [] (by rintro pre d rest ed s ⟨J,Y,rfl⟩;rw[Cs,kq] at ed;obtain⟨hl,rfl⟩:=mZ ed;refine#[#[[pr (sD goods),pr (.int (pre.length:Int)),pr (.str (goods[pre.length]))],[]],#[[pr (sD goods),pr (.int (pre.length:Int)),pr (.str (goods[pre.length]))],[]],by rw[jx];rfl,.inl ?_,_,_,rfl];rw[j4];refine cV (cI (ds:=[.str (goods[pre.length]),sD (goods.take pre.length)]) (d:=.non) ?_ Gx rfl (GB (h _ (NE _)) (kZ nd hl)) (by simp));rw[aW,ag (i:=2) rfl,aj,aW,Ej,ag (i:=0) rfl,aj,B3,aj,BG,ag (i:=1) rfl,aj];dsimp only;rw[aj];dsimp only;rw[gW];dsimp only;unfold M.cutD;rw[HT.zC,HT.AZ,t3,show min pre.length goods.length=pre.length by omega,Vm,WG,<- Xq];rfl) #[[pr (sD goods),qh,qh],[]] #[_,_,rfl]
 have hf:=d6 (im:=cZ (ae (aa 0) ak)) (g:=cH (aT (aA 1) (aT (aA 2) cL)) 2) (body:=j4) (s:=#[[pr (sD goods),qh,qh],[]]) (ds:=dR (goods.map D.str)) (k:=qh) (s1:=#[[pr (sD goods),qh,qh],[]]) (by rw[iA,aW,ag (i:=0) rfl,aj,ay,aj,aj])
 rw[el,ab] at hf;exact#[_,lj (s:=#[[pr (sD goods),J,Y],[]]) (by show o3 #[[pr (sD goods),qh,qh],[]]=_;rw[o3,hf])]
theorem M4{goods l:List Str}(h1:z∈goods)(h2:z∉l):kD [.str z,sD goods,sD l] []=.ok (.non,[]):=by refine lj (s:=#[[pr (.str z),pr (sD goods),pr (sD l)],[]]) ?_;show qL #[[pr (.str z),pr (sD goods),pr (sD l)],[]]=_;rw[qL];refine Db (bV (Db (j5 (s':=#[[pr (.str z),pr (sD goods),pr (sD l)],[]]) ?_) rfl)) (Db (j5 (s':=#[[pr (.str z),pr (sD goods),pr (sD l)],[]]) ?_) rfl);rw[gZ,dJ,ag (i:=0) rfl,aj,ag (i:=1) rfl,aj];dsimp only;rw[zI,OI h1];rfl;rw[gZ,dJ,ag (i:=0) rfl,aj,ag (i:=2) rfl,aj];dsimp only;rw[Gi,Gg h2];rfl
theorem AB(i:Int):gd [.int i] []=.ok (.bl ss,[]):=by refine df (s:=#[[pr (.int i)],[]]) ?_;simp[zL]
theorem Kc{i:Int}(h:1<=i):je [.int i] []=.ok (.non,[]):=by refine lj (s:=#[[pr (.int i)],[]]) ?_;show n8 #[[pr (.int i)],[]]=_;rw[n8];refine Db (j5 (s':=#[[pr (.int i)],[]]) ?_) rfl;have h1:aN 1 gd (ae (aa 0) ak) #[[pr (.int i)],[]]=.ok (.bl ss,#[[pr (.int i)],[]]):=cI (ds:=[.int i]) (by rw[aW,ag (i:=0) rfl];rfl) (by simp) rfl (AB i) (by simp);rw[vm,sU,gZ,h1,aj,aj];dsimp only;rw[aj];dsimp only;rw[if_neg ∅,gZ,dJ,ag (i:=0) rfl,aj,aB,aj];dsimp only;rw[iX,decide_eq_false ⋯];rfl
theorem Dz{f:FM}{ma:AM}{s s':S}{ds rs:List D}(h:ma s=.ok (ds,s'))(hr:cD s'.o (cD s'.o ds)=rs)(hp:aU rs=ss)(J:ds.length=n)(Y:f rs []=.ok (d,O))(hd:px d=ss):gC n f ma s=.ok (d,s'):=by unfold gC;rw[h,aj];dsimp only;rw[hr,if_pos #[hp,J],Y];dsimp only;rw[if_pos hd]
structure kQ(goods:List Str)(l:List (Str×Int)):Prop where
 mem:∀p∈l,p.1∈goods
 pos:∀p∈l,1<=p.2
 nd:(l.map (·.1)).Nodup
theorem DR(h:kQ goods l)(hl:l.length<=1000):∃O,fW [psD l,sD goods] []=.ok (.non,O):=by
 have e2:setM 2 (jk ak) #[[pr (psD l),pr (sD goods),qh,qh,qh],[]]=.next #[[pr (psD l),pr (sD goods),pr (.ptr 0),qh,qh],[.lst []]]:=by simp
 obtain⟨s',el,y3,y4,as⟩:=fj (ok:=okC (l.map pD) qh) (g:=cH (aT (aA 3) (aT (aA 4) cL)) 2) (body:=j1)
  (λpre s=>∃y3 y4,s=#[[pr (psD l),pr (sD goods),pr (.ptr 0),y3,y4],[.lst (((l.map (·.1)).take pre.length).map D.str)]]) (λ_ _ _=>trivial) (l.map pD) [] (by
   rintro pre d rest ed s ⟨y3,y4,rfl⟩;rw[Cs] at ed;obtain⟨Y,rfl⟩:=B4 ed;have hm:l[pre.length]∈l:=NE _;have J:(l[pre.length]).1∉(l.map (·.1)).take pre.length:=by have:=kZ h.nd (i:=pre.length) (by simpa using Y);simpa using this
   generalize hx:l[pre.length]=x at hm J;refine#[#[[pr (psD l),pr (sD goods),pr (.ptr 0),pr (.str x.1),pr (.int x.2)],[.lst (((l.map (·.1)).take pre.length).map D.str)]],#[[pr (psD l),pr (sD goods),pr (.ptr 0),pr (.str x.1),pr (.int x.2)],[.lst (((l.map (·.1)).take (pre.length+1)).map D.str)]],by rw[jx];rfl,.inl ?_,pr (.str x.1),pr (.int x.2),by rw[Do,Re]];rw[j1];have k1:=cV (Dz (n:=3) (f:=kD) (ma:=ae (aa 3) (ae (aa 1) (ae (aa 2) ak))) (s:=#[[pr (psD l),pr (sD goods),pr (.ptr 0),pr (.str x.1),pr (.int x.2)],[.lst (((l.map (·.1)).take pre.length).map D.str)]]) (s':=#[[pr (psD l),pr (sD goods),pr (.ptr 0),pr (.str x.1),pr (.int x.2)],[.lst (((l.map (·.1)).take pre.length).map D.str)]]) (ds:=[.str x.1,sD goods,.ptr 0]) (rs:=[.str x.1,sD goods,sD ((l.map (·.1)).take pre.length)]) (by rw[aW,ag (i:=3) rfl,aj,aW,ag (i:=1) rfl,aj,aW,ag (i:=2) rfl];rfl) (KQ rfl) KZ rfl (M4 (h.mem x hm) J) (by rfl))
   have k2:=cV (cI (n:=1) (f:=je) (ma:=ae (aa 4) ak) (s:=#[[pr (psD l),pr (sD goods),pr (.ptr 0),pr (.str x.1),pr (.int x.2)],[.lst (((l.map (·.1)).take pre.length).map D.str)]]) (s':=#[[pr (psD l),pr (sD goods),pr (.ptr 0),pr (.str x.1),pr (.int x.2)],[.lst (((l.map (·.1)).take pre.length).map D.str)]]) (ds:=[.int x.2]) (by rw[aW,ag (i:=4) rfl];rfl) (by simp) rfl (Kc (h.pos x hm)) (by simp));refine Db (bV k1) (Db (bV k2) ?_);refine Db (cV (xf (mo:=aa 2) (me:=aa 3) (k:=0) (d:=.str x.1) (ag rfl) rfl (ag rfl) rfl (by simp;omega))) ?_;have ht:(l.map (·.1)).take (pre.length+1)=(l.map (·.1)).take pre.length++[x.1]:=by rw[Uw,wT,ut Y,hx];rfl
   rw[ht,Fa];rfl) #[[pr (psD l),pr (sD goods),pr (.ptr 0),qh,qh],[.lst []]] #[_,_,rfl]
 have hf:=d6 (im:=listI (aa 0)) (g:=cH (aT (aA 3) (aT (aA 4) cL)) 2) (body:=j1) (s:=#[[pr (psD l),pr (sD goods),pr (.ptr 0),qh,qh],[.lst []]]) (ds:=l.map pD) (k:=qh) (s1:=#[[pr (psD l),pr (sD goods),pr (.ptr 0),qh,qh],[.lst []]]) (by rw[cO,ag (i:=0) rfl];rfl);rw[el] at hf;exact#[_,lj (s:=s') (by show o7 #[[pr (psD l),pr (sD goods),qh,qh,qh],[]]=_;rw[o7,bV e2];exact hf)]
@[simp] theorem LH {g h i:GM} {a b c:D}:cH (aT g (aT h (aT i cL))) 3 (.tup [a,b,c]) s=(g a s).bind λs1=>(h b s1).bind λs2=>i c s2:=by show (g a s).bind (λs1=>(h b s1).bind λs2=>(i c s2).bind λJ=>.ok J)=_;congr 1;funext s1;congr 1;funext s2;cases i c s2 <;> rfl
structure Bf(goods:List Str)(ws:List Wk):Prop where
 nm:∀w∈ws,pA w.nm
 nd:(ws.map (·.nm)).Nodup
 us:∀w∈ws,kQ goods w.us/\w.us.length<=100
 ms:∀w∈ws,kQ goods w.ms/\w.ms.length<=100
theorem LB(h:Bf goods ws)(hl:ws.length<=1000):∃O,jz [wsD ws,sD goods] []=.ok (.non,O):=by
 have e2:setM 2 (jk ak) #[[pr (wsD ws),pr (sD goods),qh,qh,qh,qh],[]]=.next #[[pr (wsD ws),pr (sD goods),pr (.ptr 0),qh,qh,qh],[.lst []]]:=by simp
 obtain⟨s',el,y3,y4,y5,a1⟩:=fj (ok:=okC (ws.map wD) qh) (g:=cH (aT (aA 3) (aT (aA 4) (aT (aA 5) cL))) 3) (body:=j3)
  (λpre s=>∃y3 y4 y5,s=#[[pr (wsD ws),pr (sD goods),pr (.ptr 0),y3,y4,y5],[.lst (((ws.map (·.nm)).take pre.length).map D.str)]]) (λ_ _ _=>trivial) (ws.map wD) [] (by
   rintro pre d rest ed s ⟨y3,y4,y5,rfl⟩;rw[Cs] at ed;obtain⟨Y,rfl⟩:=B4 ed;have hm:ws[pre.length]∈ws:=NE _;have J:(ws[pre.length]).nm∉(ws.map (·.nm)).take pre.length:=by have:=kZ h.nd (i:=pre.length) (by simpa using Y);simpa using this
   generalize hx:ws[pre.length]=x at hm J;refine#[#[[pr (wsD ws),pr (sD goods),pr (.ptr 0),pr (.str x.nm),pr (psD x.us),pr (psD x.ms)],[.lst (((ws.map (·.nm)).take pre.length).map D.str)]],#[[pr (wsD ws),pr (sD goods),pr (.ptr 0),pr (.str x.nm),pr (psD x.us),pr (psD x.ms)],[.lst (((ws.map (·.nm)).take (pre.length+1)).map D.str)]],by rw[LH];rfl,.inl ?_,pr (.str x.nm),pr (psD x.us),pr (psD x.ms),by rw[Do,Re]];rw[j3];obtain⟨O1,p1⟩:=DR (h.us x hm).1 (by have:=(h.us x hm).2;omega);obtain⟨O2,p2⟩:=DR (h.ms x hm).1 (by have:=(h.ms x hm).2;omega);have k1:=cV (Dz (n:=2) (f:=g9) (ma:=ae (aa 3) (ae (aa 2) ak)) (s:=#[[pr (wsD ws),pr (sD goods),pr (.ptr 0),pr (.str x.nm),pr (psD x.us),pr (psD x.ms)],[.lst (((ws.map (·.nm)).take pre.length).map D.str)]]) (s':=#[[pr (wsD ws),pr (sD goods),pr (.ptr 0),pr (.str x.nm),pr (psD x.us),pr (psD x.ms)],[.lst (((ws.map (·.nm)).take pre.length).map D.str)]]) (ds:=[.str x.nm,.ptr 0]) (by rw[aW,ag (i:=3) rfl,aj,aW,ag (i:=2) rfl];rfl) (Oy rfl) Gx rfl (GB (h.nm x hm) J) (by rfl))
   have ab:∀l:List (Str×Int),aU [.lst (l.map pD),.lst (goods.map D.str)]=true:=λl=>by show (aU (l.map pD)&&(aU (goods.map D.str)&&ss))=ss;rw[dD,iK];rfl
   have k2:=cV (cI (n:=2) (f:=fW) (ma:=ae (aa 4) (ae (aa 1) ak)) (s:=#[[pr (wsD ws),pr (sD goods),pr (.ptr 0),pr (.str x.nm),pr (psD x.us),pr (psD x.ms)],[.lst (((ws.map (·.nm)).take pre.length).map D.str)]]) (s':=#[[pr (wsD ws),pr (sD goods),pr (.ptr 0),pr (.str x.nm),pr (psD x.us),pr (psD x.ms)],[.lst (((ws.map (·.nm)).take pre.length).map D.str)]]) (ds:=[psD x.us,sD goods]) (by rw[aW,ag (i:=4) rfl,aj,aW,ag (i:=1) rfl];rfl) (ab _) rfl p1 (by simp));have k3:=cV (cI (n:=2) (f:=fW) (ma:=ae (aa 5) (ae (aa 1) ak)) (s:=#[[pr (wsD ws),pr (sD goods),pr (.ptr 0),pr (.str x.nm),pr (psD x.us),pr (psD x.ms)],[.lst (((ws.map (·.nm)).take pre.length).map D.str)]]) (s':=#[[pr (wsD ws),pr (sD goods),pr (.ptr 0),pr (.str x.nm),pr (psD x.us),pr (psD x.ms)],[.lst (((ws.map (·.nm)).take pre.length).map D.str)]]) (ds:=[psD x.ms,sD goods]) (by rw[aW,ag (i:=5) rfl,aj,aW,ag (i:=1) rfl];rfl) (ab _) rfl p2 (by simp));refine Db (bV k1) (Db (bV k2) (Db (bV k3) ?_));refine Db (cV (xf (mo:=aa 2) (me:=aa 3) (k:=0) (d:=.str x.nm) (ag rfl) rfl (ag rfl) rfl (by simp;omega))) ?_;have ht:(ws.map (·.nm)).take (pre.length+1)=(ws.map (·.nm)).take pre.length++[x.nm]:=by rw[Uw,wT,ut Y,hx];rfl
   rw[ht,Fa];rfl) #[[pr (wsD ws),pr (sD goods),pr (.ptr 0),qh,qh,qh],[.lst []]] #[_,_,_,rfl]
 have hf:=d6 (im:=listI (aa 0)) (g:=cH (aT (aA 3) (aT (aA 4) (aT (aA 5) cL))) 3) (body:=j3) (s:=#[[pr (wsD ws),pr (sD goods),pr (.ptr 0),qh,qh,qh],[.lst []]]) (ds:=ws.map wD) (k:=qh) (s1:=#[[pr (wsD ws),pr (sD goods),pr (.ptr 0),qh,qh,qh],[.lst []]]) (by rw[cO,ag (i:=0) rfl];rfl);rw[el] at hf;exact#[_,lj (s:=s') (by show oY #[[pr (wsD ws),pr (sD goods),qh,qh,qh,qh],[]]=_;rw[oY,bV e2];exact hf)]
theorem Nk(w:Wk):lK [wD w] []=.ok (wD w,[]):=by
 refine df (s:=#[[pr (wD w)],[]]) ?_;show sJ #[[pr (wD w)],[]]=_;rw[sJ];refine bD ?_;have J:∀(k:Int) (d:D),ixD [] (wD w) (.int k)=.ok d->ao ixD (aa 0) (au (.int k)) #[[pr (wD w)],[]]=.ok (d,#[[pr (wD w)],[]]):=λk d h=>by rw[dJ,ag (i:=0) rfl,aj,aB,aj];dsimp only;rw[h];rfl
 rw[Bv,aW,J 0 (.str w.nm) rfl,aj,aW,gU,aW,J 1 (psD w.us) rfl,aj,ay,aj,aj];dsimp only;rw[mQ,aj,aj,aW,gU,aW,J 2 (psD w.ms) rfl,aj,ay,aj,aj];dsimp only;rw[mQ,aj,aj,ay,aj,aj,aj,aj];rfl
def sumOf(g:Str)(l:List (Str×Int)):Int:=((l.filter λp=>decide (p.1=g)).map (·.2)).sum
def chg(w:Wk)(g:Str):Int:=sumOf g w.ms-sumOf g w.us
theorem G2{g:Str}(J:l.length<=1000):fN [.str g,psD l] []=.ok (.int (sumOf g l),[]):=by
 have hc:=GA (l:=l) (item:=pD) (p:=λp=>decide (p.1=g)) (out:=λp=>.int p.2) (caps:=[0]) (im:=listI (aa 1)) (c:=a9 (ao eqD (ao ixD (aa 0) (au (.int 0))) (aa 1))) (e:=ao ixD (aa 0) (au (.int 1))) (k:=qh) (s:=#[[pr (.str g),pr (psD l)],[]]) (by rw[cO,ag (i:=1) rfl];rfl) trivial ⋯ (λp _=>by
  rw[gZ,dJ,dJ,ag (i:=0) rfl,aj,aB,aj];dsimp only;rw[show ixD [] (pD p) (.int 0)=.ok (.str p.1) from rfl,aj,aj];dsimp only;rw[ag (i:=1) rfl,aj];dsimp only;rw[Nt];rfl) (λp _ _=>by
  rw[dJ,ag (i:=0) rfl,aj,aB,aj];rfl)
 rw[show (l.filter λp=>decide (p.1=g)).map (λp=>D.int p.2)=((l.filter λp=>decide (p.1=g)).map (·.2)).map D.int by rw[wv];rfl] at hc;refine df (s:=#[[pr (.str g),pr (psD l)],[]]) ?_;show si #[[pr (.str g),pr (psD l)],[]]=_;rw[si];refine bD ?_;rw[gU,aW,hc,aj,ay,aj,aj];dsimp only;rw[qW,aj];rfl
theorem Na{w:Wk}(h1:w.us.length<=1000)(h2:w.ms.length<=1000)(hg:goods.length<=1000):lF [wD w,sD goods] []=.ok (vI (goods.map (chg w)),[]):=by
 have hc:=c7 (l:=goods) (item:=D.str) (out:=λg=>.int (chg w g)) (caps:=[0]) (im:=listI (aa 1)) (e:=ao iR (aN 2 fN (ae (aa 0) (ae (ao ixD (aa 1) (au (.int 2))) ak))) (aN 2 fN (ae (aa 0) (ae (ao ixD (aa 1) (au (.int 1))) ak)))) (k:=qh) (s:=#[[pr (wD w),pr (sD goods)],[]]) (by rw[cO,ag (i:=1) rfl];rfl) trivial ⋯ (λg _=>by
  have J:∀l:List (Str×Int),aU [.str g,.lst (l.map pD)]=true:=λl=>by show (ss&&(aU (l.map pD)&&ss))=ss;rw[iK];rfl
  have Y:aN 2 fN (ae (aa 0) (ae (ao ixD (aa 1) (au (.int 2))) ak)) #[pr (.str g)::[0].map (λi=>([pr (wD w),pr (sD goods)][i]?).getD qh),[]]=.ok (.int (sumOf g w.ms),#[pr (.str g)::[0].map (λi=>([pr (wD w),pr (sD goods)][i]?).getD qh),[]]):=cI (ds:=[.str g,psD w.ms]) (by rw[aW,ag (i:=0) rfl,aj,aW,dJ,ag (i:=1) rfl,aj,aB,aj];rfl) (J _) rfl (G2 h2) (by simp)
  have c1:aN 2 fN (ae (aa 0) (ae (ao ixD (aa 1) (au (.int 1))) ak)) #[pr (.str g)::[0].map (λi=>([pr (wD w),pr (sD goods)][i]?).getD qh),[]]=.ok (.int (sumOf g w.us),#[pr (.str g)::[0].map (λi=>([pr (wD w),pr (sD goods)][i]?).getD qh),[]]):=cI (ds:=[.str g,psD w.us]) (by rw[aW,ag (i:=0) rfl,aj,aW,dJ,ag (i:=1) rfl,aj,aB,aj];rfl) (J _) rfl (G2 h1) (by simp)
  rw[dJ,Y,aj];dsimp only;rw[c1,aj];rfl)
 rw[show goods.map (λg=>D.int (chg w g))=(goods.map (chg w)).map D.int by rw[wv];rfl] at hc;refine df (s:=#[[pr (wD w),pr (sD goods)],[]]) ?_;show rO #[[pr (wD w),pr (sD goods)],[]]=_;rw[rO];exact bD hc
abbrev FN:List Str:=["held_goods","held_works","held_changes"]
abbrev yDs(goods:List Str)(ws:List Wk):List D:=[sD goods,wsD ws,vII (ws.map λw=>goods.map (chg w))]
abbrev yD(goods:List Str)(ws:List Wk):D:=.obj 0 FN (yDs goods ws)
theorem eJ:aU (yDs goods ws)=true:=by show (aU (goods.map D.str)&&(aU (ws.map wD)&&(aU ((ws.map λw=>goods.map (chg w)).map vI)&&ss)))=ss;rw[dD,mW,gQ];rfl
theorem BB{mo mv:EM}{ns:List Str}(J:mv s=.ok (d,s1))(Y:mo s1=.ok (.ptr k,s2))(hc:s2.o[k]? =pr (.ins c ns ds))(hf:f∉ns)(hl:ns.length<1000):uj c f mo mv s=.next #[s2.r,s2.o.set k (.ins c (ns++[f]) (ds++[d]))]:=by rw[LS,J,lH];dsimp only;rw[Y,lH];dsimp only;rw[hc];dsimp only;rw[if_pos #[rfl,hf,hl]]
theorem Nz(hg:∀z∈goods,pA z)(nd:goods.Nodup)(Y:Bf goods ws)(h1:goods.length<=10)(h2:ws.length<=10):jN [.ptr 0,sD goods,wsD ws] [.ins 0 [] []]=.ok (.non,[.ins 0 FN (yDs goods ws)]):=by
 obtain⟨O1,k1⟩:=Mq hg nd;obtain⟨O2,k2⟩:=LB Y ⋯;refine lj (s:=#[[pr (.ptr 0),pr (sD goods),pr (wsD ws)],[.ins 0 FN (yDs goods ws)]]) ?_;show lJ #[[pr (.ptr 0),pr (sD goods),pr (wsD ws)],[.ins 0 [] []]]=_;rw[lJ];have pg:aU [.lst (goods.map D.str)]=true:=by show (aU (goods.map D.str)&&ss)=ss;rw[dD];rfl
 have ab:aU [.lst (goods.map D.str),.lst (ws.map wD)]=true:=by show (aU (goods.map D.str)&&(aU (ws.map wD)&&ss))=ss;rw[dD,mW];rfl
 have ac:aU [.lst (ws.map wD),.lst (goods.map D.str)]=true:=by show (aU (ws.map wD)&&(aU (goods.map D.str)&&ss))=ss;rw[dD,mW];rfl
 have e1:=cV (cI (n:=2) (f:=ky) (ma:=ae (aa 1) (ae (aa 2) ak)) (s:=#[[pr (.ptr 0),pr (sD goods),pr (wsD ws)],[.ins 0 [] []]]) (s':=#[[pr (.ptr 0),pr (sD goods),pr (wsD ws)],[.ins 0 [] []]]) (ds:=[sD goods,wsD ws]) (by rw[aW,ag (i:=1) rfl,aj,aW,ag (i:=2) rfl];rfl) ab rfl (NK h1 h2) (by simp));have e2:=cV (cI (n:=1) (f:=jD) (ma:=ae (aa 1) ak) (s:=#[[pr (.ptr 0),pr (sD goods),pr (wsD ws)],[.ins 0 [] []]]) (s':=#[[pr (.ptr 0),pr (sD goods),pr (wsD ws)],[.ins 0 [] []]]) (ds:=[sD goods]) (by rw[aW,ag (i:=1) rfl];rfl) pg rfl k1 (by simp));have e3:=cV (cI (n:=2) (f:=jz) (ma:=ae (aa 2) (ae (aa 1) ak)) (s:=#[[pr (.ptr 0),pr (sD goods),pr (wsD ws)],[.ins 0 [] []]]) (s':=#[[pr (.ptr 0),pr (sD goods),pr (wsD ws)],[.ins 0 [] []]]) (ds:=[wsD ws,sD goods]) (by rw[aW,ag (i:=2) rfl,aj,aW,ag (i:=1) rfl];rfl) ac rfl k2 (by simp));have e4:=BB (c:=0) (f:="held_goods") (mo:=aa 0) (mv:=a8 j9 (ae (aa 1) ak)) (s:=#[[pr (.ptr 0),pr (sD goods),pr (wsD ws)],[.ins 0 [] []]]) (s1:=#[[pr (.ptr 0),pr (sD goods),pr (wsD ws)],[.ins 0 [] []]]) (s2:=#[[pr (.ptr 0),pr (sD goods),pr (wsD ws)],[.ins 0 [] []]]) (d:=sD goods) (k:=0) (ns:=[]) (ds:=[]) (by rw[gU,aW,ag (i:=1) rfl,aj,ay,aj,aj];dsimp only;rw[mQ,aj]) (ag rfl) rfl (by simp) (by simp)
 have cw:=c7 (l:=ws) (item:=wD) (out:=wD) (caps:=[]) (im:=listI (aa 2)) (e:=aN 1 lK (ae (aa 0) ak)) (k:=qh) (s:=#[[pr (.ptr 0),pr (sD goods),pr (wsD ws)],[.ins 0 ["held_goods"] [sD goods]]]) (by rw[cO,ag (i:=2) rfl];rfl) trivial ⋯ (λw _=>cI (ds:=[wD w]) (by rw[aW,ag (i:=0) rfl];rfl) (by
  show ((ss&&(aU (w.us.map pD)&&(aU (w.ms.map pD)&&ss)))&&ss)=ss;rw[iK,iK];rfl) rfl (Nk w) (by
  show (ss&&(aU (w.us.map pD)&&(aU (w.ms.map pD)&&ss)))=ss;rw[iK,iK];rfl))
 have e5:=BB (c:=0) (f:="held_works") (mo:=aa 0) (k:=0) (ns:=["held_goods"]) (ds:=[sD goods]) cw (ag rfl) rfl ∅ (by simp);have cc:=c7 (l:=ws) (item:=wD) (out:=λw=>vI (goods.map (chg w))) (caps:=[1]) (im:=listI (aa 2)) (e:=aN 2 lF (ae (aa 0) (ae (aa 1) ak))) (k:=qh) (s:=#[[pr (.ptr 0),pr (sD goods),pr (wsD ws)],[.ins 0 ["held_goods","held_works"] [sD goods,wsD ws]]]) (by rw[cO,ag (i:=2) rfl];rfl) trivial ⋯ (λw J=>cI (ds:=[wD w,sD goods]) (by rw[aW,ag (i:=0) rfl,aj,aW,ag (i:=1) rfl];rfl) (by show ((ss&&(aU (w.us.map pD)&&(aU (w.ms.map pD)&&ss)))&&(aU (goods.map D.str)&&ss))=ss;rw[iK,iK,dD];rfl) rfl (Na (by have:=(Y.us w J).2;omega) (by have:=(Y.ms w J).2;omega) ⋯) (by generalize goods.map (chg w)=r;simp))
 rw[show ws.map (λw=>vI (goods.map (chg w)))=(ws.map λw=>goods.map (chg w)).map vI by rw[wv];rfl] at cc;have e6:=BB (c:=0) (f:="held_changes") (mo:=aa 0) (k:=0) (ns:=["held_goods","held_works"]) (ds:=[sD goods,wsD ws]) cc (ag rfl) rfl ∅ (by simp);refine Db (bV e1) (Db (bV e2) (Db (bV e3) (Db (bV e4) (Db (bV e5) e6))))
structure Pt(goods:List Str)(i:Nat)(l:List (Str×Int)):Prop where
 mem:∀p∈l,p.1∈goods.take i
 pos:∀p∈l,1<=p.2
 nd:(l.map (·.1)).Nodup
 len:l.length<=i
theorem Pt.same(h:Pt goods i l):Pt goods (i+1) l:=
 #[λp hp=>U5 (i:=i) (by rw[List.take_take,V9 (Vs i)];exact h.mem p hp),h.pos,h.nd,Nat.le_succ_of_le h.len]
theorem Pt.more(J:goods.Nodup)(hi:i<goods.length)(h:Pt goods i l){a:Int}(ha:1<=a):Pt goods (i+1) (l++[(goods[i],a)]):=by
 have hs:=h.same;refine#[λp hp=> ?_,λp hp=> ?_, ?_,by rw[Do,Re];have:=h.len;omega];rcases xz.mp hp with q | q
 exact hs.mem p q;rw[ww.mp q,show goods.take (i+1)=goods.take i++[goods[i]] by rw[Uw,ut hi];rfl];exact PP _ (ww.mpr rfl);rcases xz.mp hp with q | q
 exact h.pos p q;rw[ww.mp q];exact ha;rw[Fa];refine Ue.mpr #[h.nd,by simp,λx hx y hy=> ?_];obtain⟨p,hp,rfl⟩:=sB.mp hx;have:y=goods[i]:=by simpa using hy
 subst this;intro e;exact kZ J hi (e▸h.mem p hp)
theorem Pt.parts(h:Pt goods i l):kQ goods l:=#[λp hp=>U5 (h.mem p hp),h.pos,h.nd]
theorem kQ.rev(h:kQ goods l):kQ goods l.reverse:=
 #[λp hp=>h.mem p (W6.mp hp),λp hp=>h.pos p (W6.mp hp),by rw[W5];exact List.pairwise_reverse.mpr (h.nd.imp λe=>e.symm)]
def bU(c t m:Int):Int:=(c%2147483647+7)*(48271+7919*t)%2147483647*16807%2147483647/8%m
theorem ju{c t m:Int}(hm:0<m):0<=bU c t m:=TU _ ⋯
theorem mz{c t m:Int}(hm:0<m):bU c t m<m:=Tq _ hm
theorem rj(c t:Int){m:Nat}(hm:0<m):∃r:Nat,bU c t (m:Int)=(r:Int)/\r<m:=#[(bU c t (m:Int)).toNat,by have:=ju (c:=c) (t:=t) (m:=(m:Int)) ⋯;omega,by have:=ju (c:=c) (t:=t) (m:=(m:Int)) ⋯;have:=mz (c:=c) (t:=t) (m:=(m:Int)) ⋯;omega]
theorem Oq{c t m:Int}(hm:0<m):aR [.int c,.int t,.int m] []=.ok (.int (bU c t m),[]):=by have h0:0<=c%2147483647:=TU _ ∅;have h1:c%2147483647<2147483647:=Tq _ ∅;refine dS (R:=[pr (.int c),pr (.int t),pr (.int m),pr (.int ((c%2147483647+7)*(48271+7919*t)%2147483647))]) ?_;show uf #[[pr (.int c),pr (.int t),pr (.int m),qh],[]]=_;rw[uf];refine aX (bx (aL (aL (aL (aL (ag rfl) aB (gE ∅)) aB b8) (aL aB (aL aB (ag rfl) (cT (fX (.inl ∅)))) b8) (cT (fX (.inl ⋯)))) aB (gE ∅)) rfl) ?_;exact bD (aL (aL (aL (aL (ag rfl) aB (cT (fX (.inr ∅)))) aB (gE ∅)) aB (xI ∅ ∅)) (ag rfl) (gE hm))
theorem fZ{ma mb mc:EM}{c t m:Int}(h1:ma s=.ok (.int c,s))(h2:mb s=.ok (.int t,s))(J:mc s=.ok (.int m,s))(hm:0<m):aN 3 aR (ae ma (ae mb (ae mc ak))) s=.ok (.int (bU c t m),s):=cX (aw h1 (aw h2 (aw J ay))) (Oq hm) rfl rfl rfl
def sgP(fi:Int)(k:Nat):Nat:=97+((fi+5*(k:Int))%26).toNat
def nmP(wd:List Nat)(sp:Nat)(fi:Int)(k:Nat):List Nat:=wd.take sp++[sgP fi k]++wd.drop sp
theorem PU(fi:Int)(k:Nat):97<=sgP fi k/\sgP fi k<=122:=by unfold sgP;omega
theorem Ks(h:sp<=wd.length)(h7:wd.length<=7)(J:azL wd):pA (mkS (nmP wd sp fi k)):=by
 have Y:(nmP wd sp fi k).length=wd.length+1:=by unfold nmP;simp;omega
 refine#[by rw[kI,Y];omega,by rw[kI,Y];omega, ?_];rw[iJ];intro c hc;unfold nmP at hc;rcases xz.mp hc with z | z
 rcases xz.mp z with y | y;exact J c (U5 y);rw[ww.mp y];exact PU fi k;exact J c (Va z)
theorem Qk(h:sp<=wd.length)(J:i<j)(hj:j<26):nmP wd sp fi i≠nmP wd sp fi j:=by
 intro e;have hs:sgP fi i≠sgP fi j:=by unfold sgP;omega
 have Y:(wd.take sp).length=sp:=by rw[TY];omega
 have key:∀x:Nat,(wd.take sp++[x]++wd.drop sp)[sp]? =pr x:=λx=>by rw[Ta,wP ⋯,Y,WD];rfl
 have e1:(nmP wd sp fi i)[sp]? =(nmP wd sp fi j)[sp]? :=by rw[e]
 unfold nmP at e1;rw[key,key] at e1;have e1:sgP fi i=sgP fi j:=by simpa using e1
 exact hs e1
theorem names_nodup(h:sp<=wd.length)(hn:n<=26):((wh n).map λk=>mkS (nmP wd sp fi k)).Nodup:=by unfold Xl;rw[Ud];refine TQ ?_ (List.pairwise_lt_range (n:=n));intro i j _ Y J e;have:=congrArg sg e;rw[iJ,iJ] at this;exact Qk h J (by have:=SA.mp Y;omega) this
theorem Mv{ml mh:OM}{s s1 s2 J:S}{z y:Str}{lo hi:Option Int}(h:me s=.ok (.str z,s1))(Y:ml s1=.ok (lo,s2))(hh:mh s2=.ok (hi,J))(hz:z.length<=1000000)(hy:m9 z lo hi=y):slS me ml mh s=.ok (.str y,J):=by rw[Pe,h,aj];dsimp only;rw[Y,aj];dsimp only;rw[hh,aj];dsimp only;rw[if_pos ⋯,hy]
abbrev naR(c:Int)(n:Nat)(wd:List Nat)(J x5 x6:Option D):List (Option D):=[pr (.int c),pr (.int (n:Int)),pr (.str ABC),pr (.str (mkS wd)),J,x5,x6]
theorem Ha{c:Int}(Y:wd.length<=1000):∃r,jE #[naR c n wd (pr (.int (k:Int))) qh qh,[]]=.next #[naR c n (wd++[r]) (pr (.int (k:Int))) qh qh,[]]/\97<=r/\r<=122:=by have J:=ju (c:=c) (t:=2+(k:Int)) (m:=26) ∅;have p1:=mz (c:=c) (t:=2+(k:Int)) (m:=26) ∅;refine#[97+(bU c (2+(k:Int)) 26).toNat, ?_,⋯,⋯];rw[jE];refine bx (aL (ag rfl) (aL (ag rfl) (fZ (ag rfl) (aL aB (ag rfl) b8) aB ∅) (J2 J p1)) ?_) rfl;rw[wq (by rw[kI,kI];simp;omega)];rw[show mkS wd++mkS [97+(bU c (2+(k:Int)) 26).toNat]=mkS (wd++[97+(bU c (2+(k:Int)) 26).toNat]) from wL (by rw[EV,iJ,iJ,iJ])]
theorem Fd(c:Int)(hn:n<=20):∃zs O,fM [.int c,.int (n:Int)] []=.ok (sD zs,O)/\zs.length=n/\(∀z∈zs,pA z)/\zs.Nodup:=by
 obtain⟨sz,Y,a1⟩:=rj c 1 (m:=8) ∅;have Y:bU c 1 8=(sz:Int):=Y;obtain⟨s',el,wd,J,ab,ac,am⟩:=fj (ok:=okC (dY 0 (sz:Int)) qh) (g:=aA 4) (body:=jE)
  (λpre s=>∃(wd:List Nat) (J:Option D),wd.length=pre.length/\azL wd/\s=#[naR c n wd J qh qh,[]]) (λ_ _ _=>trivial) (dY 0 (sz:Int)) [] (by
   rintro pre d rest ed s ⟨wd,J,h1,h2,rfl⟩;rw[Cs,fq] at ed;obtain⟨rfl,a3⟩:=oo ed;obtain⟨r,eb,r1,r2⟩:=Ha (c:=c) (n:=n) (k:=pre.length) (wd:=wd) ⋯;refine#[_,_,rfl,.inl eb,wd++[r],_,by simp[h1],λz hz=> ?_,rfl];rcases xz.mp hz with q | q
   exact h2 z q;rw[ww.mp q];exact#[r1,r2]) #[naR c n [] qh qh qh,[]] #[[],qh,rfl,(λ_ h=>by cases h),rfl]
 rw[Cs,iB] at ab;have ab:wd.length=sz:=⋯;have hf:fO (dB (ae (aN 3 aR (ae (aa 0) (ae (au (.int 1)) (ae (au (.int 8)) ak)))) ak)) (aA 4) jE #[naR c n [] qh qh qh,[]]=.next #[naR c n wd J qh qh,[]]:=by refine(d6 (ds:=dY 0 (sz:Int)) (k:=qh) (s1:=#[naR c n [] qh qh qh,[]]) (eC (n:=sz) ?_ ⋯)).trans (el.trans (by rw[am]));rw[<- Y];exact aw (fZ (ag rfl) aB aB ∅) ay
 obtain⟨sp,an,be⟩:=rj c 10 (m:=wd.length+1) ⋯;have e5:setM 5 (aN 3 aR (ae (aa 0) (ae (au (.int 10)) (ae (ao bh (a8 bY (ae (aa 3) ak)) (au (.int 1))) ak)))) #[naR c n wd J qh qh,[]]=.next #[naR c n wd J (pr (.int (sp:Int))) qh,[]]:=by rw[<- an];refine bx (fZ (ag rfl) aB (aL (dI (aw (ag rfl) ay) (EZ (by rw[kI];omega))) aB ?_) ⋯) rfl;rw[b8,kI];rfl
 have e6:setM 6 (aN 3 aR (ae (aa 0) (ae (au (.int 11)) (ae (au (.int 26)) ak)))) #[naR c n wd J (pr (.int (sp:Int))) qh,[]]=.next #[naR c n wd J (pr (.int (sp:Int))) (pr (.int (bU c 11 26))),[]]:=bx (fZ (ag rfl) aB aB ∅) rfl
 generalize bU c 11 26=fi at e6;have bi:(mkS wd).length=wd.length:=kI wd;have ec:=c7 (l:=wh n) (item:=λi:Nat=>D.int (i:Int)) (out:=λk=>.str (mkS (nmP wd sp fi k))) (caps:=[6,2,5,3]) (im:=dB (ae (aa 1) ak)) (e:=ao bh (ao bh (slS (aa 4) gj (part (aa 3))) (ao ixD (aa 2) (ao ik (ao bh (aa 1) (ao cG (au (.int 5)) (aa 0))) (au (.int 26))))) (slS (aa 4) (part (aa 3)) gj)) (k:=qh) (s:=#[naR c n wd J (pr (.int (sp:Int))) (pr (.int fi)),[]]) (by
  rw[<- fq];exact eC (aw (ag rfl) ay) ⋯) trivial (by simp;omega) (λk hk=>by have p1:m9 (mkS wd) qh (pr (sp:Int))=mkS (wd.take sp):=wL (by rw[Nr ⋯,iJ,iJ]);have p2:m9 (mkS wd) (pr (sp:Int)) qh=mkS (wd.drop sp):=wL (by rw[NV ⋯,iJ,iJ]);refine aL (aL (Mv (ag rfl) qC (zZ (ag rfl)) ⋯ p1) (aL (ag rfl) (aL (aL (ag rfl) (aL aB (ag rfl) (cT (fX (.inl ∅)))) b8) aB (gE ∅)) (J2 ⋯ ⋯)) (d:=.str (mkS (wd.take sp++[sgP fi k]))) ?_) (Mv (ag rfl) (zZ (ag rfl)) qC ⋯ p2) ?_;rw[wq (by rw[kI,kI];simp;omega)];exact congrArg (λz=>Res.ok (D.str z)) (wL (by rw[EV,iJ,iJ,iJ];rfl));rw[wq (by rw[kI,kI];simp;omega)];exact congrArg (λz=>Res.ok (D.str z)) (wL (by rw[EV,iJ,iJ,iJ];rfl)))
 refine#[(wh n).map λk=>mkS (nmP wd sp fi k),[], ?_,by simp,λz hz=> ?_,names_nodup ⋯ ⋯];refine dS (R:=naR c n wd J (pr (.int (sp:Int))) (pr (.int fi))) ?_;show sA #[[pr (.int c),pr (.int (n:Int)),qh,qh,qh,qh,qh],[]]=_;rw[sA];rw[show (wh n).map (λk=>D.str (mkS (nmP wd sp fi k)))=((wh n).map λk=>mkS (nmP wd sp fi k)).map D.str by rw[wv];rfl] at ec;exact aX (bx aB rfl) (aX (bx (R':=naR c n [] qh qh qh) aB rfl) (aX hf (aX e5 (aX e6 (bD ec)))));obtain⟨k,_,rfl⟩:=sB.mp hz;exact Ks ⋯ ⋯ ac
theorem vy:tR O (.int 10) (.int 12)=.ok (.int 1000000000000):=Lw ∅ ∅ ∅
theorem uB{i j:Int}(h:0<j):gy O (.int i) (.int j)=.ok (.int (i/j)):=by rw[mL ⋯,uM h]
abbrev moR(c:Int)(n:Nat)(w:Bool)(rest span:Int)(x6 x7:Option D):List (Option D):=[pr (.int c),pr (.int (n:Int)),pr (.bl w),pr (.ptr 0),pr (.int rest),pr (.int span),x6,x7]
theorem Iw{c:Int}{n k:Nat}{w:Bool}{rest span:Int}{l:List Int}{x7:Option D}(hs:7<=span)(ap:span<=2000000000001)(hl:l.length<=1000):
 ∃(v J:Int),nq #[moR c n w rest span (pr (.int (k:Int))) x7,[.lst (l.map D.int)]]=.next #[moR c n w J span (pr (.int (k:Int))) (pr (.int v)),[.lst ((l++[v]).map D.int)]]/\Sz 50 v:=by
 have p0:=ju (c:=c) (t:=20+(k:Int)) (m:=7) ∅;have p1:=mz (c:=c) (t:=20+(k:Int)) (m:=7) ∅;have q0:=ju (c:=c) (t:=30+(k:Int)) (m:=2000) ∅;have q1:=mz (c:=c) (t:=30+(k:Int)) (m:=2000) ∅;have e7:setM 7 (ao iR (aN 3 aR (ae (aa 0) (ae (ao bh (au (.int 20)) (aa 6)) (ae (au (.int 7)) ak)))) (au (.int 3))) #[moR c n w rest span (pr (.int (k:Int))) x7,[.lst (l.map D.int)]]=.next #[moR c n w rest span (pr (.int (k:Int))) (pr (.int (bU c (20+(k:Int)) 7-3))),[.lst (l.map D.int)]]:=bx (aL (fZ (ag rfl) (aL aB (ag rfl) b8) aB ∅) aB nS) rfl
 generalize bU c (20+(k:Int)) 7=p at e7 p0 p1;have m0:0<=c%1000000000000:=TU _ ∅;have m1:c%1000000000000<1000000000000:=Tq _ ∅;have e8:∃v,ifS (a9 (aa 2)) (setM 7 (ao iR (ao bh (ao cG (aa 7) (ao ik (aa 0) (ao tR (au (.int 10)) (au (.int 12))))) (aN 3 aR (ae (aa 0) (ae (ao bh (au (.int 30)) (aa 6)) (ae (au (.int 2000)) ak))))) (au (.int 1000)))) bX #[moR c n w rest span (pr (.int (k:Int))) (pr (.int (p-3))),[.lst (l.map D.int)]]=.next #[moR c n w rest span (pr (.int (k:Int))) (pr (.int v)),[.lst (l.map D.int)]]/\Sz 50 v:=by
  cases w with
  | true=>
   refine#[(p-3)*(c%1000000000000)+bU c (30+(k:Int)) 2000-1000,jo (d7 (ag rfl)) rfl (bx (aL (aL (aL (ag rfl) (aL (ag rfl) (aL aB aB vy) (gE ∅)) (cT (fX (.inl ⋯)))) (fZ (ag rfl) (aL aB (ag rfl) b8) aB ∅) b8) aB nS) rfl), ?_];generalize bU c (30+(k:Int)) 2000=q at q0 q1;generalize c%1000000000000=m at m0 m1;have hp:p=0\/p=1\/p=2\/p=3\/p=4\/p=5\/p=6:=⋯;unfold Sz;rcases hp with rfl | rfl | rfl | rfl | rfl | rfl | rfl <;> omega
  | false=>exact#[p-3,eH (d7 (ag rfl)) rfl cN,by unfold Sz;omega]
 obtain⟨v,e8,zv⟩:=e8;have e9:∃Y J,ifS (o8 (a9 (ao eqD (ao ik (aa 0) (au (.int 2))) (au (.int 1)))) (a9 (ao gtD (aa 4) (au (.int 0))))) (aP (setM 7 (ao iR (ao ik (aa 4) (aa 5)) (ao gy (aa 5) (au (.int 2))))) (setM 4 (ao gy (aa 4) (aa 5)))) bX #[moR c n w rest span (pr (.int (k:Int))) (pr (.int v)),[.lst (l.map D.int)]]=.next #[moR c n w J span (pr (.int (k:Int))) (pr (.int Y)),[.lst (l.map D.int)]]/\Sz 50 Y:=by
  have t1:a9 (ao eqD (ao ik (aa 0) (au (.int 2))) (au (.int 1))) #[moR c n w rest span (pr (.int (k:Int))) (pr (.int v)),[.lst (l.map D.int)]]=.ok (decide (c%2=1),#[moR c n w rest span (pr (.int (k:Int))) (pr (.int v)),[.lst (l.map D.int)]]):=eq_test (aL (ag rfl) aB (gE ∅));have t2:a9 (ao gtD (aa 4) (au (.int 0))) #[moR c n w rest span (pr (.int (k:Int))) (pr (.int v)),[.lst (l.map D.int)]]=.ok (decide (0<rest),#[moR c n w rest span (pr (.int (k:Int))) (pr (.int v)),[.lst (l.map D.int)]]):=kP (ag rfl);have ta:=AX t1 t2;cases hb:(decide (c%2=1)&&decide (0<rest)) with
  | true=>
   refine#[rest%span-span/2,rest/span,jo ta hb (aX (bx (aL (aL (ag rfl) (ag rfl) (gE ⋯)) (aL (ag rfl) aB (uB ∅)) nS) rfl) (bx (aL (ag rfl) (ag rfl) (uB ⋯)) rfl)), ?_];have r0:0<=rest%span:=TU _ ⋯;have r1:rest%span<span:=Tq _ ⋯;unfold Sz;omega
  | false=>exact#[v,rest,eH ta hb cN,zv]
 obtain⟨Y,J,e9,am⟩:=e9;refine#[Y,J, ?_,am];rw[nq];refine aX e7 (aX e8 (aX e9 (cV (oq (ag rfl) rfl (ag rfl) rfl (by simp;omega) ?_))));rw[Fa];rfl
theorem NA(c:Int)(w:Bool)(hn:n<=100):∃l:List Int,nI [.int c,.int (n:Int),.bl w] []=.ok (.ptr 0,[.lst (l.map D.int)])/\l.length=n/\SzL 50 l:=by
 obtain⟨J,hsp,s0,s1⟩:∃J:Int,(if w=ss then 2000000000001 else 7)=J/\7<=J/\J<=2000000000001:=#[_,rfl,by split <;> decide,by split <;> decide];have e5:setM 5 (ao ixD (iT (ae (au (.int 7)) (ae (ao bh (ao cG (au (.int 2)) (ao tR (au (.int 10)) (au (.int 12)))) (au (.int 1))) ak))) (a8 intOf (ae (aa 2) ak))) #[[pr (.int c),pr (.int (n:Int)),pr (.bl w),pr (.ptr 0),pr (.int (c/2)),qh,qh,qh],[.lst []]]=.next #[moR c n w (c/2) J qh qh,[.lst []]]:=by refine bx (aL (uC (aw aB (aw (aL (aL aB (aL aB aB vy) (cT (fX (.inl ∅)))) aB b8) ay)) (by simp)) (dI (aw (ag rfl) ay) yp) ?_) rfl;subst hsp;cases w <;> rfl
 obtain⟨s',el,l,rest,x6,Y,hl,hz,ac⟩:=fj (ok:=okC (dY 0 (n:Int)) qh) (g:=aA 6) (body:=nq)
  (λpre s=>∃(l:List Int) (rest:Int) (x6 Y:Option D),l.length=pre.length/\SzL 50 l/\s=#[moR c n w rest J x6 Y,[.lst (l.map D.int)]]) (λ_ _ _=>trivial) (dY 0 (n:Int)) [] (by
   rintro pre d rest ed s ⟨l,r,x6,Y,h1,h2,rfl⟩;rw[Cs,fq] at ed;obtain⟨rfl,az⟩:=oo ed;obtain⟨v,r',eb,zv⟩:=Iw (c:=c) (n:=n) (k:=pre.length) (w:=w) (rest:=r) (span:=J) (l:=l) (x7:=Y) s0 s1 ⋯;refine#[_,_,rfl,.inl eb,l++[v],r',_,_,by simp[h1],λz hz=> ?_,rfl];rcases xz.mp hz with q | q
   exact h2 z q;rw[ww.mp q];exact zv) #[moR c n w (c/2) J qh qh,[.lst []]] #[[],_,qh,qh,rfl,(λ_ h=>by cases h),rfl]
 rw[Cs,iB] at hl;refine#[l, ?_,⋯,hz];refine dS (R:=moR c n w rest J x6 Y) ?_;show ue #[[pr (.int c),pr (.int (n:Int)),pr (.bl w),qh,qh,qh,qh,qh],[]]=_;rw[ue];refine aX (bx (qG ay (by simp) rfl rfl) rfl) (aX (bx (aL (ag rfl) aB (uB ∅)) rfl) (aX e5 (aX ?_ (bD (ag rfl)))));exact(d6 (ds:=dY 0 (n:Int)) (k:=qh) (s1:=#[moR c n w (c/2) J qh qh,[.lst []]]) (eC (n:=n) (aw (ag rfl) ay) ⋯)).trans (el.trans (by rw[ac]))
theorem BZ:∀(a b:List Int),a.length=b.length->((wh b.length).map λk=>nth a k*nth b k).sum=aC a b
 | [],[],_=>rfl
 | x::a,y::b,h=>by have J:=BZ a b (by simpa using h);rw[AC,UY,x0,wv,Ul];show x*y+((wh b.length).map λk=>nth a k*nth b k).sum=(x*y::Tf (· * ·) a b).sum;rw[J,Ul];rfl
theorem PL{ma mb:EM}{O O':aD}{x y:D}{a b:List D}(h1:ma s=.ok (x,s1))(h2:mb s1=.ok (y,#[R,O]))(ha:lsD O x=pr a)(hb:lsD O y=pr b)(Y:a.length+b.length<=1000000)(hk:O.length=k)(J:O++[.lst (a++b)]=O'):E5 ma mb s=.ok (.ptr k,#[R,O']):=by unfold E5;rw[h1,aj];dsimp only;rw[h2,aj];dsimp only;rw[ha,hb];dsimp only;rw[if_pos ⋯,hk,J]
def lY(A:List (List Int))(way:List Int)(n:Nat):List Int:=(wh n).map λg=>((wh A.length).map λk=>nth way k*nth (A.getD k []) g).sum
theorem J7{f:Nat->Int}:((wh n).map f).sum=bo n f:=by
 induction n with
 | zero=>rfl
 | succ n J=>rw[Vc,Fa,Xk,J];simp[bo]
theorem LU(J:g<n):nth (lY A way n) g=bT way A g:=by unfold lY bT;rw[<- J7];unfold nth;rw[re,wT,Tk J];rfl
theorem Dl(A:List (List Int))(way:List Int)(n:Nat):(lY A way n).length=n:=by unfold lY;simp
theorem Kq(ha:A.length<=1000)(lw:way.length=A.length)(J:SzL 2 way)(Y:cP c A):SzL (c+12) (lY A way n):=λx hx=>by
 unfold lY at hx;obtain⟨g,_,rfl⟩:=sB.mp hx;have l1:way.length=(A.map (nth · g)).length:=by simp[lw]
 have:=BZ way (A.map (nth · g)) l1;rw[show (A.map (nth · g)).length=A.length by simp] at this;rw[show (wh A.length).map (λk=>nth way k*nth (A.getD k []) g)=(wh A.length).map (λk=>nth way k*nth (A.map (nth · g)) k) from Vh λk _=>by rw[ou],this];refine(nG (b:=c) (c:=2) J (λz hz=> ?_) ⋯).mono ⋯;obtain⟨l,hl,rfl⟩:=sB.mp hz;exact(Y l hl).nth _
theorem JT{n c ia iw i2:Nat}{dm:D}(h4:s.r[ia]? =pr (pr dm))(h8:s.r[iw]? =pr (pr (vI way)))(h2:s.r[i2]? =pr (pr (.int (n:Int))))(ix:∀k,k<A.length->ixD s.o dm (.int (k:Int))=.ok (vI (A.getD k [])))(ln:bY s.o [dm]=.ok (.int (A.length:Int)))(hn:n<=1000)(ha:A.length<=1000)(la:∀l∈A,l.length=n)(lw:way.length=A.length)(zw:SzL 2 way)(zA:cP c A)(hc:c<=60000000):
 bF 1 [ia,iw] (dB (ae (aa i2) ak)) (aA 0) bA (a8 pe (ae (bF 1 [0,1,2] (dB (ae (a8 bY (ae (aa 1) ak)) ak)) (aA 0) bA (ao cG (ao ixD (aa 3) (aa 0)) (ao ixD (ao ixD (aa 2) (aa 0)) (aa 1)))) ak)) s=.ok (vI (lY A way n),s):=by
 have J:∀g,g<n->a8 pe (ae (bF 1 [0,1,2] (dB (ae (a8 bY (ae (aa 1) ak)) ak)) (aA 0) bA (ao cG (ao ixD (aa 3) (aa 0)) (ao ixD (ao ixD (aa 2) (aa 0)) (aa 1)))) ak) #[[pr (.int (g:Int)),pr dm,pr (vI way)],s.o]=.ok (.int ((wh A.length).map λk=>nth way k*nth (A.getD k []) g).sum,#[[pr (.int (g:Int)),pr dm,pr (vI way)],s.o]):=λg hg=>by
  have e:=c7 (l:=wh A.length) (item:=λi:Nat=>D.int (i:Int)) (out:=λk=>.int (nth way k*nth (A.getD k []) g)) (caps:=[0,1,2]) (im:=dB (ae (a8 bY (ae (aa 1) ak)) ak)) (e:=ao cG (ao ixD (aa 3) (aa 0)) (ao ixD (ao ixD (aa 2) (aa 0)) (aa 1))) (k:=qh) (s:=#[[pr (.int (g:Int)),pr dm,pr (vI way)],s.o]) (by
   rw[<- fq];exact eC (aw (dI (aw (ag rfl) ay) ln) ay) ⋯) trivial (by simp;omega) (λk hk=>by have Y:=SA.mp hk;have hm:A.getD k []∈A:=getD_mem Y;exact aL (aL (ag rfl) (ag rfl) (fY ⋯)) (aL (aL (ag rfl) (ag rfl) (ix k Y)) (ag rfl) (fY (by rw[la _ hm];exact hg))) (cT (eZ (m:=2) (n:=c) ∅ hc (zw.nth _) ((zA _ hm).nth _))))
  rw[show (wh A.length).map (λk=>D.int (nth way k*nth (A.getD k []) g))=((wh A.length).map λk=>nth way k*nth (A.getD k []) g).map D.int by rw[wv];rfl] at e;exact dI (aw e ay) qW
 have e:=c7 (l:=wh n) (item:=λi:Nat=>D.int (i:Int)) (out:=λg=>.int ((wh A.length).map λk=>nth way k*nth (A.getD k []) g).sum) (caps:=[ia,iw]) (im:=dB (ae (aa i2) ak)) (e:=a8 pe (ae (bF 1 [0,1,2] (dB (ae (a8 bY (ae (aa 1) ak)) ak)) (aA 0) bA (ao cG (ao ixD (aa 3) (aa 0)) (ao ixD (ao ixD (aa 2) (aa 0)) (aa 1)))) ak)) (k:=qh) (s:=s) (by
  rw[<- fq];exact eC (aw (ag h2) ay) ⋯) trivial (by simp;omega) (λg hg=>by rw[show [ia,iw].map (λi=>(s.r[i]?).getD qh)=[pr dm,pr (vI way)] by simp[h4,h8]];exact J g (SA.mp hg))
 rw[show (wh n).map (λg=>D.int ((wh A.length).map λk=>nth way k*nth (A.getD k []) g).sum)=(lY A way n).map D.int by unfold lY;rw[wv];rfl] at e;exact e
theorem Lj{m:List Int}(h:w.length<=A.length):bT w (A++[m]) g=bT w A g:=by unfold bT;rw[Do,Re];show bo A.length _+_=_;dsimp only;rw[dX h,Tt,WJ];exact bL λj J=>by rw[re,AT J,<- re]
theorem CK{a:Int}{z:List Int}:bT (a::w) (z::A) g=a*nth z g+bT w A g:=by unfold bT;rw[AC,Ca];rfl
theorem LQ(h:∀j,nth v j=nth w j):bT v A g=bT w A g:=by unfold bT;exact bL λj _=>by rw[h j]
theorem Nm(w:List Int){m:Nat}(j:Nat):nth (w++wn m 0) j=nth w j:=by
 unfold nth;rw[re,re];rcases VU j w.length with h | h
 rw[AT h];rw[wP h,UC h,IR];split <;> rfl
structure MU(n:Nat)(A:List (List Int))(w:List Int):Prop where
 le:w.length<=A.length
 lo:∀t∈w,0<=t/\t<=2
 bal:∀g,g<n->bT w A g=0
structure MvI(n c:Nat)(A W:List (List Int)):Prop where
 len:∀l∈A,l.length=n
 sz:cP c A
 ws:∀w∈W,MU n A w
theorem MvI.more{n c c':Nat}{m:List Int}(h:MvI n c A W)(hm:m.length=n)(zm:SzL c' m)(hc:c<=c'):MvI n c' (A++[m]) W:=
 #[λl Y=>by
  rcases xz.mp Y with q | q;exact h.len l q;rw[ww.mp q];exact hm,λl Y=>by
  rcases xz.mp Y with q | q;exact(h.sz l q).mono hc;rw[ww.mp q];exact zm,λw J=>#[by have:=(h.ws w J).le;simp;omega,(h.ws w J).lo,λg hg=>by rw[Lj (h.ws w J).le];exact(h.ws w J).bal g hg]]
theorem MvI.close(h:MvI n c A W)(lw:way.length=A.length)(Y:∀t∈way,0<=t/\t<=2)(ha:A.length<=1000):MvI n (c+12) (A++[(lY A way n).map (- ·)]) (W++[way++[1]]):=by
 have zw:SzL 2 way:=λt J=>by have:=Y t J;unfold Sz;omega
 have base:=h.more (m:=(lY A way n).map (- ·)) (c':=c+12) (by rw[t3,Dl]) (λx hx=>by obtain⟨y,hy,rfl⟩:=sB.mp hx;exact(Kq ha lw zw h.sz y hy).neg) ⋯
 refine#[base.len,base.sz,λw hw=> ?_];rcases xz.mp hw with q | q
 exact base.ws w q;rw[ww.mp q];refine#[by simp[lw],λt J=> ?_,λg hg=> ?_];rcases xz.mp J with z | z
 exact Y t z;rw[ww.mp z];decide;rw[pC lw,ja (f:=(- ·)) (by simp),LU hg];omega
theorem MvI.zero(h:MvI n c A W):MvI n c (wn n 0::A) (W.map (0:: ·)++[[1]]):=by
 have z0:∀g,nth (wn n (0:Int)) g=0:=λg=>by unfold nth;rw[re,IR];split <;> rfl
 refine#[λl Y=> ?_,λl Y=> ?_,λw hw=> ?_];rcases wE.mp Y with rfl | q
 simp;exact h.len l q;rcases wE.mp Y with rfl | q
 intro x hx;rw[(Vw.mp hx).2];exact Sz.zero _;exact h.sz l q;rcases xz.mp hw with q | q
 obtain⟨v,hv,rfl⟩:=sB.mp q;have J:=h.ws v hv;refine#[by have:=J.le;simp;omega,λt ht=> ?_,λg hg=> ?_];rcases wE.mp ht with rfl | z
 decide;exact J.lo t z;rw[CK,Tt,J.bal g hg];rfl;rw[ww.mp q];refine#[by simp,λt ht=>by rw[ww.mp ht];decide,λg hg=> ?_];rw[CK,z0,TN];unfold bT;rw[d5 λj _=> ?_];rfl;rw[dX (by simp),Tt]
abbrev mvR(ns:List Int)(b n:Nat)(hd:Int)(w:Bool)(x6 x7 x8 x9:Option D):List (Option D):=[pr (vI ns),pr (.int (b:Int)),pr (.int (n:Int)),pr (.int hd),pr (.ptr 0),pr (.bl w),x6,x7,x8,x9]
theorem KL{ns:List Int}{b n k:Nat}{hd:Int}{w:Bool}{x7 x8 x9:Option D}(hn:n<=100)(Y:O[0]? =pr (.lst (A.map vI)))(al:A.length<=1000):
 ∃l O',jF #[mvR ns b n hd w (pr (.int (k:Int))) x7 x8 x9,O]=.next #[mvR ns b n hd w (pr (.int (k:Int))) x7 x8 x9,O']/\O'[0]? =pr (.lst ((A++[l]).map vI))/\l.length=n/\SzL 50 l:=by
 obtain⟨c,ec,_⟩:=sO ns (b+1+k);have hc:aN 2 cQ (ae (aa 0) (ae (ao bh (ao bh (aa 1) (au (.int 1))) (aa 6)) ak)) #[mvR ns b n hd w (pr (.int (k:Int))) x7 x8 x9,O]=.ok (.int c,#[mvR ns b n hd w (pr (.int (k:Int))) x7 x8 x9,O]):=by refine cX (O1:=[]) (aw (ag rfl) (aw (aL (aL (ag rfl) aB b8) (ag rfl) b8) ay)) ?_ (by simp) rfl rfl;rw[show (b:Int)+1+(k:Int)=((b+1+k:Nat):Int) by omega];exact ec
 obtain⟨l,em,ll,lz⟩:=NA (c+13*(k:Int)) w hn;have e8:d9 3 nI (ae (ao bh (aN 2 cQ (ae (aa 0) (ae (ao bh (ao bh (aa 1) (au (.int 1))) (aa 6)) ak))) (ao cG (au (.int 13)) (aa 6))) (ae (aa 2) (ae (aa 5) ak))) #[mvR ns b n hd w (pr (.int (k:Int))) x7 x8 x9,O]=.ok (.ptr O.length,#[mvR ns b n hd w (pr (.int (k:Int))) x7 x8 x9,O++[.lst (l.map D.int)]]):=by refine gY (aw (aL hc (aL aB (ag rfl) (cT (fX (.inl ∅)))) b8) (aw (ag rfl) (aw (ag rfl) ay))) em rfl rfl iy ?_;simp only[x0,Te,nZ,mT]
 have J:O.length≠0:=by have:=oS Y;omega
 have c8:(O++[Cell.lst (l.map D.int)])[O.length]? =pr (.lst (l.map D.int)):=jj;have g8:(O++[Cell.lst (l.map D.int)])[0]? =pr (.lst (A.map vI)):=fm Y;generalize O++[Cell.lst (l.map D.int)]=O1 at e8 c8 g8;generalize O.length=kk at e8 c8 J;refine#[l,(O1.set kk .dead).set 0 (.lst (A.map vI++[vI l])), ?_,(by rw[Fa];exact fF (c':=.lst (A.map vI)) (by rw[cY J];exact g8)),ll,lz];rw[jF];exact cV (oq (ag rfl) Y (ot e8 c8 rfl) (by rw[cY J];exact g8) (by simp;omega) rfl)
theorem LK(h:O[k]? =pr (.lst (A.map vI)))(hi:i<A.length):ixD O (.ptr k) (.int (i:Int))=.ok (vI (A.getD i [])):=by refine ED h ?_;rw[qr (by simpa using hi)];simp[re,hi]
theorem Mj{ns:List Int}{b n k J c:Nat}{hd:Int}{w:Bool}{x8 x9:Option D}(hn:n<=100)(al:A.length<=100)(wl:W.length<=100)(hc:c<=1000)(h:MvI n c A W)(hO:O[0]? =pr (.lst (A.map vI)))(hF:O[J]? =pr (.lst (W.map vI)))(k0:J≠0):
 ∃m v O' y8 y9,jB #[mvR ns b n hd w (pr (.int (k:Int))) (pr (.ptr J)) x8 x9,O]=.next #[mvR ns b n hd w (pr (.int (k:Int))) (pr (.ptr J)) y8 y9,O']/\MvI n (c+12) (A++[m]) (W++[v])/\O'[0]? =pr (.lst ((A++[m]).map vI))/\O'[J]? =pr (.lst ((W++[v]).map vI)):=by
 have ln:bY O [.ptr 0]=.ok (.int (A.length:Int)):=by rw[uI hO,t3]
 have ew:=c7 (l:=wh A.length) (item:=λi:Nat=>D.int (i:Int)) (out:=λi=>.int (bU hd (50+7*(k:Int)+(i:Int)) 4%3)) (caps:=[3,6]) (im:=dB (ae (a8 bY (ae (aa 4) ak)) ak)) (e:=ao ik (aN 3 aR (ae (aa 1) (ae (ao bh (ao bh (au (.int 50)) (ao cG (au (.int 7)) (aa 2))) (aa 0)) (ae (au (.int 4)) ak)))) (au (.int 3))) (k:=qh) (s:=#[mvR ns b n hd w (pr (.int (k:Int))) (pr (.ptr J)) x8 x9,O]) (by rw[<- fq];exact eC (aw (dI (aw (ag rfl) ay) ln) ay) ⋯) trivial (by simp;omega) (λi _=>aL (fZ (ag rfl) (aL (aL aB (aL aB (ag rfl) (cT (fX (.inl ∅)))) b8) (ag rfl) b8) aB ∅) aB (gE ∅))
 rw[show (wh A.length).map (λi:Nat=>D.int (bU hd (50+7*(k:Int)+(i:Int)) 4%3))=((wh A.length).map λi:Nat=>bU hd (50+7*(k:Int)+(i:Int)) 4%3).map D.int by rw[wv];rfl] at ew;have lw:((wh A.length).map λi:Nat=>bU hd (50+7*(k:Int)+(i:Int)) 4%3).length=A.length:=by simp
 have w0:∀t∈(wh A.length).map (λi:Nat=>bU hd (50+7*(k:Int)+(i:Int)) 4%3),0<=t/\t<=2:=λt ht=>by obtain⟨i,_,rfl⟩:=sB.mp ht;have h1:=TU (bU hd (50+7*(k:Int)+(i:Int)) 4) (show (3:Int)≠0 by decide);have h2:=Tq (bU hd (50+7*(k:Int)+(i:Int)) 4) (show (0:Int)<3 by decide);exact#[h1,⋯]
 generalize (wh A.length).map (λi:Nat=>bU hd (50+7*(k:Int)+(i:Int)) 4%3)=way at ew lw w0;have zw:SzL 2 way:=λt ht=>by have:=w0 t ht;unfold Sz;omega
 have el:=JT (A:=A) (way:=way) (n:=n) (c:=c) (ia:=4) (iw:=8) (i2:=2) (s:=#[mvR ns b n hd w (pr (.int (k:Int))) (pr (.ptr J)) (pr (vI way)) x9,O]) (dm:=.ptr 0) rfl rfl rfl (λi hi=>LK hO hi) ln ⋯ ⋯ h.len lw zw h.sz ⋯;have cl:=h.close lw w0 ⋯;have ll:=Dl A way n;generalize lY A way n=Y at el cl ll;have en:=c7 (l:=Y) (item:=D.int) (out:=λx=>.int (-x)) (caps:=[]) (im:=listI (aa 9)) (e:=unM jb (aa 0)) (k:=qh) (s:=#[mvR ns b n hd w (pr (.int (k:Int))) (pr (.ptr J)) (pr (vI way)) (pr (vI Y)),O]) (by rw[cO,ag (i:=9) rfl,aj];rfl) trivial ⋯ (λx _=>Ib (ag rfl) tN);rw[show Y.map (λx=>D.int (-x))=(Y.map (- ·)).map D.int by rw[wv];rfl] at en;have gF:(O.set 0 (.lst (A.map vI++[vI (Y.map (- ·))])))[J]? =pr (.lst (W.map vI)):=by rw[cY (λz=>k0 z.symm)];exact hF
 have g0:(O.set 0 (.lst (A.map vI++[vI (Y.map (- ·))])))[0]? =pr (.lst ((A++[Y.map (- ·)]).map vI)):=by rw[Fa];exact fF hO
 have ea:dA (ir (aa 4) (bF 1 [] (listI (aa 9)) (aA 0) bA (unM jb (aa 0)))) #[mvR ns b n hd w (pr (.int (k:Int))) (pr (.ptr J)) (pr (vI way)) (pr (vI Y)),O]=.next #[mvR ns b n hd w (pr (.int (k:Int))) (pr (.ptr J)) (pr (vI way)) (pr (vI Y)),O.set 0 (.lst (A.map vI++[vI (Y.map (- ·))]))]:=cV (oq (ag rfl) hO en hO (by simp;omega) rfl)
 generalize O.set 0 (.lst (A.map vI++[vI (Y.map (- ·))]))=O1 at ea gF g0;have ef:dA (ir (aa 7) (ao bh (aa 8) (iT (ae (au (.int 1)) ak)))) #[mvR ns b n hd w (pr (.int (k:Int))) (pr (.ptr J)) (pr (vI way)) (pr (vI Y)),O1]=.next #[mvR ns b n hd w (pr (.int (k:Int))) (pr (.ptr J)) (pr (vI way)) (pr (vI Y)),O1.set J (.lst (W.map vI++[vI (way++[1])]))]:=by refine cV (oq (ag rfl) gF (aL (ag rfl) (uC (aw aB ay) (by simp)) (d:=vI (way++[1])) ?_) gF (by simp;omega) rfl);rw[nO (by simp;omega)];exact congrArg (λz=>Res.ok (D.lst z)) (by rw[Fa];rfl)
 refine#[Y.map (- ·),way++[1],O1.set J (.lst (W.map vI++[vI (way++[1])])),pr (vI way),pr (vI Y), ?_,cl,by rw[cY k0];exact g0,by rw[Fa];exact fF gF];rw[jB];exact aX (bx (R':=mvR ns b n hd w (pr (.int (k:Int))) (pr (.ptr J)) (pr (vI way)) x9) ew rfl) (aX (bx (R':=mvR ns b n hd w (pr (.int (k:Int))) (pr (.ptr J)) (pr (vI way)) (pr (vI Y))) el rfl) (aX ea ef))
theorem Kb(J:R[i]? =pr (pr (.ptr k)))(Y:O[k]? =pr (.lst ds)):a9 (nD ltD ltD (au (.int 0)) (a8 bY (ae (aa i) ak)) (au (.int 6))) #[R,O]=.ok (decide (0<ds.length)&&decide (ds.length<6),#[R,O]):=by
 have el:a8 bY (ae (aa i) ak) #[R,O]=.ok (.int (ds.length:Int),#[R,O]):=dI (aw (ag J) ay) (uI Y);have e:nD ltD ltD (au (.int 0)) (a8 bY (ae (aa i) ak)) (au (.int 6)) #[R,O]=.ok (.bl (decide (0<ds.length)&&decide (ds.length<6)),#[R,O]):=by rw[Cc,aB,aj];dsimp only;rw[el,aj];dsimp only;rw[iX,aj];by_cases h:0<ds.length;rw[decide_eq_true (show (0:Int)<(ds.length:Int) by omega),decide_eq_true h];dsimp only;rw[aB,aj];dsimp only;rw[iX,aj,UI];congr 3;exact decide_eq_decide.mpr ⋯;rw[decide_eq_false (show ¬(0:Int)<(ds.length:Int) by omega),decide_eq_false h];rfl
 exact d7 e
theorem Kz(ns:List Int)(b:Nat)(hn:n<=100):∃(A W:List (List Int)) (O:aD) (Y:Nat),iM [vI ns,.int (b:Int),.int (n:Int)] []=.ok (.tup [.ptr 0,.ptr Y],O)/\O[0]? =pr (.lst (A.map vI))/\O[Y]? =pr (.lst (W.map vI))/\Y≠0/\MvI n 90 A W/\A.length<=6/\(∀w∈W,w.length=A.length)/\W.length<=4:=by
 obtain⟨hd,eh,_⟩:=sO ns b;have e3:setM 3 (aN 2 cQ (ae (aa 0) (ae (aa 1) ak))) #[[pr (vI ns),pr (.int (b:Int)),pr (.int (n:Int)),qh,qh,qh,qh,qh,qh,qh],[]]=.next #[[pr (vI ns),pr (.int (b:Int)),pr (.int (n:Int)),pr (.int hd),qh,qh,qh,qh,qh,qh],[]]:=bx (cX (aw (ag rfl) (aw (ag rfl) ay)) eh (by simp) rfl rfl) rfl
 have e5:setM 5 (ao eqD (aN 3 aR (ae (aa 3) (ae (au (.int 41)) (ae (au (.int 6)) ak)))) (au (.int 0))) #[[pr (vI ns),pr (.int (b:Int)),pr (.int (n:Int)),pr (.int hd),pr (.ptr 0),qh,qh,qh,qh,qh],[.lst []]]=.next #[mvR ns b n hd (decide (bU hd 41 6=0)) qh qh qh qh,[.lst []]]:=bx (aL (fZ (ag rfl) aB aB ∅) aB jL) rfl
 generalize decide (bU hd 41 6=0)=w at e5;obtain⟨cnt,hcnt,c4⟩:∃cnt:Nat,bU hd 40 5%(5-2*(if w=ss then 1 else 0))=(cnt:Int)/\cnt<=4:=by
  have h0:(0:Int)<5-2*(if w=ss then 1 else 0):=by split <;> decide
  have h6:(5:Int)-2*(if w=ss then 1 else 0)<=5:=by split <;> decide
  generalize (5:Int)-2*(if w=ss then 1 else 0)=m at h0 h6;have r0:=TU (bU hd 40 5) (show m≠0 by omega);have r1:=Tq (bU hd 40 5) h0;exact#[(bU hd 40 5%m).toNat,⋯,⋯]
 obtain⟨s1,co,A1,O1,x6,bv,b5,b6,cr⟩:=fj (ok:=okC (dY 0 (cnt:Int)) qh) (g:=aA 6) (body:=jF)
  (λpre s=>∃(A:List (List Int)) (O:aD) (x6:Option D),A.length=pre.length/\(∀l∈A,l.length=n/\SzL 50 l)/\O[0]? =pr (.lst (A.map vI))/\s=#[mvR ns b n hd w x6 qh qh qh,O]) (λ_ _ _=>trivial) (dY 0 (cnt:Int)) [] (by
   rintro pre d rest ed s ⟨A,O,x6,h1,h2,h3,rfl⟩;rw[Cs,fq] at ed;obtain⟨rfl,as⟩:=oo ed;obtain⟨l,O',eb,cw,ll,lz⟩:=KL (ns:=ns) (b:=b) (k:=pre.length) (hd:=hd) (w:=w) (x7:=qh) (x8:=qh) (x9:=qh) hn h3 ⋯;refine#[_,_,rfl,.inl eb,A++[l],O',_,by simp[h1],λz hz=> ?_,cw,rfl];rcases xz.mp hz with q | q
   exact h2 z q;rw[ww.mp q];exact#[ll,lz]) #[mvR ns b n hd w qh qh qh qh,[.lst []]] #[[],[.lst []],qh,rfl,(λ_ h=>by cases h),rfl,rfl]
 rw[Cs,iB] at bv;have bv:A1.length=cnt:=⋯;have cx:fO (dB (ae (ao ik (aN 3 aR (ae (aa 3) (ae (au (.int 40)) (ae (au (.int 5)) ak)))) (ao iR (au (.int 5)) (ao cG (au (.int 2)) (a8 intOf (ae (aa 5) ak))))) ak)) (aA 6) jF #[mvR ns b n hd w qh qh qh qh,[.lst []]]=.next #[mvR ns b n hd w x6 qh qh qh,O1]:=by refine(d6 (ds:=dY 0 (cnt:Int)) (k:=qh) (s1:=#[mvR ns b n hd w qh qh qh qh,[.lst []]]) (eC (n:=cnt) ?_ ⋯)).trans (co.trans (by rw[cr]));rw[<- hcnt];refine aw (aL (fZ (ag rfl) aB aB ∅) (aL aB (aL aB (dI (aw (ag rfl) ay) yp) (cT (fX (.inl ∅)))) nS) (gE ?_)) ay;split <;> decide
 have e7:setM 7 (jk ak) #[mvR ns b n hd w x6 qh qh qh,O1]=.next #[mvR ns b n hd w x6 (pr (.ptr O1.length)) qh qh,O1++[.lst []]]:=bx (qG ay (by simp) rfl rfl) rfl
 have k0:O1.length≠0:=by have:=oS b6;omega
 have g0:(O1++[Cell.lst []])[0]? =pr (.lst (A1.map vI)):=fm b6;have gF:(O1++[Cell.lst []])[O1.length]? =pr (.lst (([]:List (List Int)).map vI)):=jj;generalize O1++[Cell.lst []]=O2 at e7 g0 gF;generalize O1.length=Y at e7 gF k0;obtain⟨J,hcnt2,c2⟩:∃J:Nat,bU hd 42 3/(1+(if w=ss then 1 else 0))=(J:Int)/\J<=2:=by
  have p0:=ju (c:=hd) (t:=42) (m:=3) ∅;have p1:=mz (c:=hd) (t:=42) (m:=3) ∅;cases w with
  | true=>exact#[(bU hd 42 3/(1+1)).toNat,by simp;omega,⋯]
  | false=>exact#[(bU hd 42 3/(1+0)).toNat,by simp;omega,⋯]
 obtain⟨s3,cW,A3,W3,O3,y6,y8,y9,c0,c1,an,bd,cb,c3⟩:=fj (ok:=okC (dY 0 (J:Int)) qh) (g:=aA 6) (body:=jB)
  (λpre s=>∃(A W:List (List Int)) (O:aD) (x6 x8 x9:Option D),A.length=cnt+pre.length/\W.length=pre.length/\MvI n (50+12*pre.length) A W/\O[0]? =pr (.lst (A.map vI))/\O[Y]? =pr (.lst (W.map vI))/\s=#[mvR ns b n hd w x6 (pr (.ptr Y)) x8 x9,O]) (λ_ _ _=>trivial) (dY 0 (J:Int)) [] (by rintro pre d rest ed s ⟨A,W,O,x6,x8,x9,h1,h2,h3,h4,h5,rfl⟩;rw[Cs,fq] at ed;obtain⟨rfl,as⟩:=oo ed;obtain⟨m,v,O',y8,y9,eb,mv,c5,c6⟩:=Mj (ns:=ns) (b:=b) (k:=pre.length) (hd:=hd) (w:=w) (x8:=x8) (x9:=x9) hn ⋯ ⋯ ⋯ h3 h4 h5 k0;refine#[_,_,rfl,.inl eb,A++[m],W++[v],O',_,_,_,by simp[h1];omega,by simp[h2], ?_,c5,c6,rfl];rw[Do,Re];exact mv) #[mvR ns b n hd w x6 (pr (.ptr Y)) qh qh,O2] #[A1,[],O2,_,_,_,by simp[bv],rfl,#[λl hl=>(b5 l hl).1,λl hl=>(b5 l hl).2,λ_ h=>by cases h],g0,gF,rfl]
 rw[Cs,iB] at c0 c1 an;have an:MvI n 90 A3 W3:=#[an.len,λl hl=>(an.sz l hl).mono ⋯,an.ws];have c8:fO (dB (ae (ao gy (aN 3 aR (ae (aa 3) (ae (au (.int 42)) (ae (au (.int 3)) ak)))) (ao bh (au (.int 1)) (a8 intOf (ae (aa 5) ak)))) ak)) (aA 6) jB #[mvR ns b n hd w x6 (pr (.ptr Y)) qh qh,O2]=.next #[mvR ns b n hd w y6 (pr (.ptr Y)) y8 y9,O3]:=by refine(d6 (ds:=dY 0 (J:Int)) (k:=qh) (s1:=#[mvR ns b n hd w x6 (pr (.ptr Y)) qh qh,O2]) (eC (n:=J) ?_ ⋯)).trans (cW.trans (by rw[c3]));rw[<- hcnt2];refine aw (aL (fZ (ag rfl) aB aB ∅) (aL aB (dI (aw (ag rfl) ay) yp) b8) (uB ?_)) ay;split <;> decide
 have a3:A3.length<=6:=⋯;have w3:W3.length<=3:=⋯;have pk:∀(t:Int) (x7 x8 x9:Option D) (O:aD),a9 (ao eqD (aN 3 aR (ae (aa 3) (ae (au (.int t)) (ae (au (.int 5)) ak)))) (au (.int 0))) #[mvR ns b n hd w y6 x7 x8 x9,O]=.ok (decide (bU hd t 5=0),#[mvR ns b n hd w y6 x7 x8 x9,O]):=λt x7 x8 x9 O=>eq_test (fZ (ag rfl) aB aB ∅);have dc:∃(A W:List (List Int)) (O:aD) (kg:Nat),ifS (o8 (a9 (ao eqD (aN 3 aR (ae (aa 3) (ae (au (.int 43)) (ae (au (.int 5)) ak)))) (au (.int 0)))) (a9 (ao ltD (a8 bY (ae (aa 4) ak)) (au (.int 6))))) (aP (dA (xk (aa 4) (bF 1 [] (dB (ae (aa 2) ak)) (aA 0) bA (au (.int 0))))) (setM 7 (E5 (bF 1 [] (listI (aa 7)) (aA 0) bA (ao bh (iT (ae (au (.int 0)) ak)) (aa 0))) (iT (ae (iT (ae (au (.int 1)) ak)) ak))))) bX #[mvR ns b n hd w y6 (pr (.ptr Y)) y8 y9,O3]=.next #[mvR ns b n hd w y6 (pr (.ptr kg)) y8 y9,O]/\MvI n 90 A W/\A.length<=6/\W.length<=4/\O[0]? =pr (.lst (A.map vI))/\O[kg]? =pr (.lst (W.map vI))/\kg≠0:=by
  have t2:a9 (ao ltD (a8 bY (ae (aa 4) ak)) (au (.int 6))) #[mvR ns b n hd w y6 (pr (.ptr Y)) y8 y9,O3]=.ok (decide (((A3.map vI).length:Int)<6),#[mvR ns b n hd w y6 (pr (.ptr Y)) y8 y9,O3]):=d7 (aL (dI (aw (ag rfl) ay) (uI bd)) aB iX);have ta:=AX (pk 43 (pr (.ptr Y)) y8 y9 O3) t2;cases hb:(decide (bU hd 43 5=0)&&decide (((A3.map vI).length:Int)<6)) with
  | false=>exact#[A3,W3,O3,Y,eH ta hb cN,an,a3,⋯,bd,cb,k0]
  | true=>
   have as:A3.length<6:=by have:=(Tp _ _▸hb).2;rw[t3] at this;have:=of_decide_eq_true this;omega
   have ez:=c7 (l:=wh n) (item:=λi:Nat=>D.int (i:Int)) (out:=λ_=>.int 0) (caps:=[]) (im:=dB (ae (aa 2) ak)) (e:=au (.int 0)) (k:=qh) (s:=#[mvR ns b n hd w y6 (pr (.ptr Y)) y8 y9,O3]) (by rw[<- fq];exact eC (aw (ag rfl) ay) ⋯) trivial (by simp;omega) (λ_ _=>aB)
   rw[show (wh n).map (λ_=>D.int 0)=(wn n (0:Int)).map D.int by rw[Vu];simp[Wc]] at ez;have ei:dA (xk (aa 4) (bF 1 [] (dB (ae (aa 2) ak)) (aA 0) bA (au (.int 0)))) #[mvR ns b n hd w y6 (pr (.ptr Y)) y8 y9,O3]=.next #[mvR ns b n hd w y6 (pr (.ptr Y)) y8 y9,O3.set 0 (.lst (vI (wn n (0:Int))::A3.map vI))]:=cV (PH (ag rfl) bd ez bd (by simp;omega) rfl)
   have h0:(O3.set 0 (.lst (vI (wn n (0:Int))::A3.map vI)))[0]? =pr (.lst ((wn n 0::A3).map vI)):=fF bd;have hF:(O3.set 0 (.lst (vI (wn n (0:Int))::A3.map vI)))[Y]? =pr (.lst (W3.map vI)):=by rw[cY (λz=>k0 z.symm)];exact cb
   generalize O3.set 0 (.lst (vI (wn n (0:Int))::A3.map vI))=O4 at ei h0 hF;have ew:=c7 (l:=W3) (item:=vI) (out:=λv=>vI (0::v)) (caps:=[]) (im:=listI (aa 7)) (e:=ao bh (iT (ae (au (.int 0)) ak)) (aa 0)) (k:=pr Y) (s:=#[mvR ns b n hd w y6 (pr (.ptr Y)) y8 y9,O4]) (qY (ag rfl) hF) hF ⋯ (λv hv=>by refine aL (uC (aw aB ay) (by simp)) (ag rfl) ?_;rw[nO (by have:=(an.ws v hv).le;simp;omega)];rfl)
   have em:=oS h0;refine#[wn n 0::A3,W3.map (0:: ·)++[[1]],O4++[.lst ((W3.map (0:: ·)++[[1]]).map vI)],O4.length,jo ta hb (aX ei (bx (PL (a:=W3.map λv=>vI (0::v)) (b:=[vI [1]]) ew (uC (aw (uC (aw aB ay) (by simp)) ay) (by simp)) rfl rfl (by simp;omega) rfl ?_) rfl)),an.zero,by simp;omega,by simp;omega,fm h0,jj,⋯];rw[Fa,wv];rfl
 obtain⟨A4,W4,O4,kg,de,bm,a4,w4,az,ce,dm⟩:=dc;have dn:∃(A:List (List Int)) (O:aD),ifS (o8 (a9 (ao eqD (aN 3 aR (ae (aa 3) (ae (au (.int 44)) (ae (au (.int 5)) ak)))) (au (.int 0)))) (a9 (nD ltD ltD (au (.int 0)) (a8 bY (ae (aa 4) ak)) (au (.int 6))))) (dA (ir (aa 4) (a8 j9 (ae (ao ixD (aa 4) (unM jb (au (.int 1)))) ak)))) bX #[mvR ns b n hd w y6 (pr (.ptr kg)) y8 y9,O4]=.next #[mvR ns b n hd w y6 (pr (.ptr kg)) y8 y9,O]/\MvI n 90 A W4/\A.length<=6/\O[0]? =pr (.lst (A.map vI))/\O[kg]? =pr (.lst (W4.map vI)):=by
  have ta:=AX (pk 44 (pr (.ptr kg)) y8 y9 O4) (Kb (i:=4) (R:=mvR ns b n hd w y6 (pr (.ptr kg)) y8 y9) rfl az);cases hb:(decide (bU hd 44 5=0)&&(decide (0<(A4.map vI).length)&&decide ((A4.map vI).length<6))) with
  | false=>exact#[A4,O4,eH ta hb cN,bm,a4,az,ce]
  | true=>
   have as:0<A4.length/\A4.length<6:=by have h1:=(Tp _ _▸hb).2;have h2:=Tp _ _▸h1;rw[t3] at h2;exact#[of_decide_eq_true h2.1,of_decide_eq_true h2.2]
   obtain⟨A',m,rfl⟩:∃A' m,A4=A'++[m]:=#[A4.dropLast,A4.getLast (by intro z;rw[z] at as;simp at as),(List.dropLast_concat_getLast _).symm];have hm:m∈A'++[m]:=by simp
   have ex:ixD O4 (.ptr 0) (.int (-1))=.ok (vI m):=by
    refine ED az ?_;rw[Fa];unfold atI;have hx:ixN (A'.map vI++[m].map vI).length (-1)=pr A'.length:=by
     have hl:(A'.map vI++[m].map vI).length=A'.length+1:=by simp
     rw[hl];unfold ixN;rw[if_neg ∅,if_pos ⋯];congr 1;omega
    rw[hx];simp
   have eL:a8 j9 (ae (ao ixD (aa 4) (unM jb (au (.int 1)))) ak) #[mvR ns b n hd w y6 (pr (.ptr kg)) y8 y9,O4]=.ok (vI m,#[mvR ns b n hd w y6 (pr (.ptr kg)) y8 y9,O4]):=dI (aw (aL (ag rfl) (Ib aB tN) ex) ay) mQ;refine#[A'++[m]++[m],O4.set 0 (.lst ((A'++[m]).map vI++[vI m])),jo ta hb (cV (oq (ag rfl) az eL az (by rw[t3];omega) rfl)),bm.more (bm.len m hm) (bm.sz m hm) (wS _),by have:=as.2;simp at this ⊢;omega,(by have q:(A'++[m]++[m]).map vI=(A'++[m]).map vI++[vI m]:=Fa;rw[q];exact fF az),by rw[cY (λz=>dm z.symm)];exact ce]
 obtain⟨A5,O5,dp,bi,a5,b4,ci⟩:=dn;have ep:=wJ (l:=W4) (item:=vI) (out:=λv=>vI (v++wn (A5.length-v.length) 0)) (caps:=[4]) (im:=listI (aa 7)) (e:=ao bh (aa 0) (bF 1 [] (dB (ae (ao iR (a8 bY (ae (aa 1) ak)) (a8 bY (ae (aa 0) ak))) ak)) (aA 0) bA (au (.int 0)))) (k:=pr kg) (s:=#[mvR ns b n hd w y6 (pr (.ptr kg)) y8 y9,O5]) (qY (ag rfl) ci) ci ⋯ (λv hv=>by
  have le:=(bi.ws v hv).le;have ez:=c7 (l:=wh (A5.length-v.length)) (item:=λi:Nat=>D.int (i:Int)) (out:=λ_=>.int 0) (caps:=[]) (im:=dB (ae (ao iR (a8 bY (ae (aa 1) ak)) (a8 bY (ae (aa 0) ak))) ak)) (e:=au (.int 0)) (k:=qh) (s:=#[[pr (vI v),pr (.ptr 0)],O5]) (by rw[<- fq];refine eC (aw (aL (dI (aw (ag rfl) ay) (uI b4)) (dI (aw (ag rfl) ay) eG) ?_) ay) ⋯;rw[nS,t3,t3];congr 2;omega) trivial (by simp;omega) (λ_ _=>aB)
  rw[show (wh (A5.length-v.length)).map (λ_=>D.int 0)=(wn (A5.length-v.length) (0:Int)).map D.int by rw[Vu];simp[Wc]] at ez;refine aL (ag rfl) ez ?_;rw[nO (by simp;omega)];exact congrArg (λz=>Res.ok (D.lst z)) Fa.symm)
 have et:=oS b4;refine#[A5,W4.map λv=>v++wn (A5.length-v.length) 0,O5++[.lst ((W4.map λv=>v++wn (A5.length-v.length) 0).map vI)],O5.length, ?_,fm b4,jj,⋯,#[bi.len,bi.sz,λv hv=> ?_],a5,λv hv=> ?_,by rw[t3];exact w4];refine dS (R:=mvR ns b n hd w y6 (pr (.ptr kg)) y8 y9) ?_;show sN #[[pr (vI ns),pr (.int (b:Int)),pr (.int (n:Int)),qh,qh,qh,qh,qh,qh,qh],[]]=_;rw[sN];rw[show W4.map (λv=>vI (v++wn (A5.length-v.length) 0))=(W4.map λv=>v++wn (A5.length-v.length) 0).map vI by rw[wv];rfl] at ep;exact aX e3 (aX (bx (qG ay (by simp) rfl rfl) rfl) (aX e5 (aX cx (aX e7 (aX c8 (aX de (aX dp (bD (pI (aw (ag rfl) (aw ep ay)) (by simp))))))))));obtain⟨u,hu,rfl⟩:=sB.mp hv;have:=bi.ws u hu;refine#[by have:=this.le;simp;omega,λt ht=> ?_,λg hg=>by rw[LQ (Nm u)];exact this.bal g hg];rcases xz.mp ht with q | q
 exact this.lo t q;rw[(Vw.mp q).2];decide;obtain⟨u,hu,rfl⟩:=sB.mp hv;have:=(bi.ws u hu).le;simp;omega
theorem mot(a b:Int):f7 [.int a,.int b] []=.ok (.int (SF a b:Nat),[]):=JM a b
theorem t9(ns:List Int):kx [vI ns] []=.ok (.int (da ns:Nat),[]):=by
 obtain⟨s',e,c,x,h1,h2⟩:=fj (ok:=okC (ns.map D.int) qh) (g:=aA 2) (body:=oi)
  (λpre s=>∃(ms:List Int) (x:Option D),pre=ms.map D.int/\s=#[[pr (vI ns),pr (.int (ms.foldl (λc n=>T0 c n.natAbs) 0:Nat)),x],[]]) (λ_ _ _=>trivial) (ns.map D.int) [] (by
   rintro pre d rest e s ⟨ms,x,rfl,rfl⟩;have hd:d∈ns.map D.int:=by rw[Cs] at e;rw[e];simp
   obtain⟨m,_,rfl⟩:=sB.mp hd;refine#[_,_,rfl,.inl ?_,ms++[m],pr (.int m),by simp,rfl];simp[oi,mot,SF]) #[[pr (vI ns),pr (.int 0),qh],[]] #[[],qh,rfl,rfl]
 rw[Cs] at h1;have hc:c=ns:=(TD (λa b h=>by cases h;rfl)).mp h1.symm;subst hc;have J:=d6 (im:=listI (aa 0)) (g:=aA 2) (body:=oi) (s:=#[[pr (vI c),pr (.int 0),qh],[]]) (ds:=c.map D.int) (k:=qh) (s1:=#[[pr (vI c),pr (.int 0),qh],[]]) (by simp);rw[e] at J;have q:=df (n:=3) (m:=rq) (ds:=[vI c]) (O:=[]) (d:=.int (da c:Nat)) (s:=s') (by show rq #[[pr (vI c),qh,qh],[]]=_;rw[rq,wR];rw[show setM 1 (au (.int 0)) #[[pr (vI c),qh,qh],[]]=.next #[[pr (vI c),pr (.int 0),qh],[]] by simp];rw[BW,wR,J,BW,h2];simp[da])
 rw[h2] at q;exact q
theorem sY{a b:List Int}(J:a.length<=1000000)(hm:∀p∈a.zip b,Tj p.1 p.2):bq [vI a,vI b] []=.ok (.int (aC a b),[]):=by
 have hz:(a.zip b).length<=1000000:=by rw[SJ];omega
 have hc:=vZ (l:=a.zip b) (f:=λp=>.int p.1) (g:=λp=>.int p.2) (out:=λp=>.int (p.1*p.2)) (caps:=[]) (im:=kr (ae (aa 0) (ae (aa 1) ak))) (e:=ao cG (aa 0) (aa 1)) (k:=qh) (s:=#[[pr (vI a),pr (vI b)],[]]) (by simp[ji]) trivial ⋯ (λp hp=>by simp[cT (hm p hp)])
 rw[show (a.zip b).map (λp=>D.int (p.1*p.2))=(Tf (· * ·) a b).map D.int by rw[<- NX];simp] at hc;refine df (s:=#[[pr (vI a),pr (vI b)],[]]) ?_;show lD #[[pr (vI a),pr (vI b)],[]]=_;rw[lD];refine bD ?_;rw[gU,aW,hc,aj,ay,aj,aj];dsimp only;rw[qW,aj];rfl
theorem BJ(J:ns.length<=1000000):mj [vI ns] []=.ok (.ptr 0,[.lst ((low ns).map D.int)]):=by
 have e1:setM 1 (aN 1 kx (ae (aa 0) ak)) #[[pr (vI ns),qh],[]]=.next #[[pr (vI ns),pr (.int (da ns:Nat))],[]]:=bx (cI (aw (ag rfl) ay) (gX _) rfl (t9 ns) (by simp)) rfl
 by_cases h:da ns=0;refine dS (R:=[pr (vI ns),pr (.int (da ns:Nat))]) ?_;show p8 #[[pr (vI ns),qh],[]]=_;rw[p8];refine aX e1 (mG (jo (eq_test (ag rfl)) (decide_eq_true ⋯) (bD (Od (ag rfl) IT rfl ?_))));rw[show low ns=ns by unfold low;rw[if_pos h]];rfl;have hc:=wJ (l:=ns) (item:=D.int) (out:=λn=>.int (n/(da ns:Int))) (caps:=[1]) (im:=listI (aa 0)) (e:=ao gy (aa 0) (aa 1)) (k:=qh) (s:=#[[pr (vI ns),pr (.int (da ns:Nat))],[]]) (by simp) trivial ⋯ (λa _=>by simp[mL (show (da ns:Int)≠0 by omega),uM (show (0:Int)<da ns by omega)])
 refine dS (R:=[pr (vI ns),pr (.int (da ns:Nat))]) ?_;show p8 #[[pr (vI ns),qh],[]]=_;rw[p8];refine aX e1 (aX (eH (eq_test (ag rfl)) (decide_eq_false ⋯) cN) (bD (hc.trans ?_)));rw[show (low ns).map D.int=ns.map λn=>.int (n/(da ns:Int)) by unfold low;rw[if_neg h,wv];rfl];rfl
theorem JI{one other:List Int}{v w:Int}(Y:one.length<=1000000)(h1:∀a∈one,Tj a w)(h2:∀b∈other,Tj b v):qq [vI one,.int v,vI other,.int w] []=.ok (.ptr 0,[.lst ((dG one v other w).map D.int)]):=by
 have hz:(one.zip other).length<=1000000:=by rw[SJ];omega
 have hc:=vZ (l:=one.zip other) (f:=λp=>.int p.1) (g:=λp=>.int p.2) (out:=λp=>.int (p.1*w-p.2*v)) (caps:=[1,3]) (im:=kr (ae (aa 0) (ae (aa 2) ak))) (e:=ao iR (ao cG (aa 0) (aa 3)) (ao cG (aa 1) (aa 2))) (k:=qh) (s:=#[[pr (vI one),pr (.int v),pr (vI other),pr (.int w),qh],[]]) (by simp[ji]) trivial ⋯ (λp hp=>by have hp':=Fk hp;simp[cT (h1 p.1 hp'.1),cT (h2 p.2 hp'.2)])
 rw[show (one.zip other).map (λp=>D.int (p.1*w-p.2*v))=(ib one v other w).map D.int by rw[ib,<- zip_map];simp] at hc;have J:(ib one v other w).length<=1000000:=by unfold ib;rw[Ti];omega
 refine dS (R:=[pr (vI one),pr (.int v),pr (vI other),pr (.int w),pr (vI (ib one v other w))]) ?_;show zo #[[pr (vI one),pr (.int v),pr (vI other),pr (.int w),qh],[]]=_;rw[zo];exact aX (eX hc) (bD (gY (aw (ag rfl) ay) (BJ J) (gX _) rfl iy (by simp only[x0,Te,Cs,nZ,mT];rfl)))
theorem IF(a b:Nat):orD O (.int (a:Int)) (.int (b:Int))=.ok (.int ((a|||b:Nat):Int)):=by
 have e:Builtin.bitOr (a:Int) (b:Int)=((a|||b:Nat):Int):=by unfold Builtin.bitOr Builtin.bitAnd Builtin.bitNot;rw[decide_eq_false (show ¬(0:Int)<= -(a:Int)-1 by omega),decide_eq_false (show ¬(0:Int)<= -(b:Int)-1 by omega)];dsimp only;rw[show (-(-(a:Int)-1)-1).toNat=a by omega,show (-(-(b:Int)-1)-1).toNat=b by omega];omega
 show Res.ok (D.int (Builtin.bitOr (a:Int) (b:Int)))=_;rw[e]
theorem Ec(a b:Nat):iD [.int (a:Int),.int (b:Int)] []=.ok (.bl (decide (a|||b=b)),[]):=by refine dS (R:=[pr (.int (a:Int)),pr (.int (b:Int))]) ?_;show uP #[[pr (.int (a:Int)),pr (.int (b:Int))],[]]=_;rw[uP];refine bD (aL (aL (ag rfl) (ag rfl) (IF a b)) (ag rfl) ?_);rw[jL];congr 3;rw[eq_iff_iff];omega
abbrev vN(l:List Nat):D:=.lst (l.map λx:Nat=>D.int (x:Int))
theorem OE{l:List Nat}:aU (l.map λx:Nat=>D.int (x:Int))=true:=by
 induction l with
 | nil=>simp
 | cons a l J=>simp[J]
theorem KR{pl:List Nat}(J:pl.length<=1000):hU [.int (a:Int),.int (b:Int),vN pl] []=.ok (.bl ((pl.filter λx=>decide (x|||(a|||b)=a|||b)).length == 2),[]):=by
 have hc:=GA (l:=pl) (item:=λx:Nat=>D.int (x:Int)) (out:=λx:Nat=>D.int (x:Int)) (p:=λx=>decide (x|||(a|||b)=a|||b)) (caps:=[3]) (im:=listI (aa 2)) (c:=a9 (aN 2 iD (ae (aa 0) (ae (aa 1) ak)))) (e:=aa 0) (k:=qh) (s:=#[[pr (.int (a:Int)),pr (.int (b:Int)),pr (vN pl),pr (.int ((a|||b:Nat):Int))],[]]) (by rw[cO,ag (i:=2) rfl,aj];rfl) trivial ⋯ (λx _=>d7 (cX (aw (ag rfl) (aw (ag rfl) ay)) (Ec x (a|||b)) (by simp) rfl (by simp))) (λx _ _=>ag rfl)
 refine dS (R:=[pr (.int (a:Int)),pr (.int (b:Int)),pr (vN pl),pr (.int ((a|||b:Nat):Int))]) ?_;show mx #[[pr (.int (a:Int)),pr (.int (b:Int)),pr (vN pl),qh],[]]=_;rw[mx];refine aX (bx (aL (ag rfl) (ag rfl) (IF a b)) rfl) (bD (aL (dI (aw hc ay) eG) aB ?_));rw[jL,t3];congr 2;rw[TR,decide_eq_true_eq,beq_iff_eq];omega
theorem vM:ey [vI x] []=.ok (.int (dj x:Nat),[]):=by
 have go:∀(l:List Int) (b:Nat) (z:Option D),∃J,cj (okC (x.map D.int) qh) (aA 2) pf (l.map D.int) #[[pr (vI x),pr (.int (b:Int)),z],[]]=.next #[[pr (vI x),pr (.int ((l.foldl (λb y=>b*2+if 0<y then 1 else 0) b:Nat):Int)),J],[]]:=by
  intro l;induction l with
  | nil=>intro b z;exact#[z,by rw[Te,cj,if_pos (show okC (x.map D.int) qh _ from trivial)];rfl]
  | cons y l Y=>
   intro b z;obtain⟨J,e⟩:=Y (b*2+if 0<y then 1 else 0) (pr (.int y));refine#[J, ?_];rw[x0,TL];refine Db (kN (s1:=#[[pr (vI x),pr (.int (b:Int)),pr (.int y)],[]]) (s2:=#[[pr (vI x),pr (.int ((b*2+if 0<y then 1 else 0:Nat):Int)),pr (.int y)],[]]) trivial rfl ?_) e;rw[pf];refine aX (bx (R':=[pr (vI x),pr (.int ((b:Int)*2)),pr (.int y)]) (aL (ag rfl) aB (cT (fX (.inr ∅)))) rfl) ?_;by_cases hy:0<y;refine jo (kP (ag rfl)) (decide_eq_true hy) (bx (d:=.int ((b*2+if 0<y then 1 else 0:Nat):Int)) (R:=[pr (vI x),pr (.int ((b:Int)*2)),pr (.int y)]) (aL (ag rfl) aB ?_) rfl);rw[b8,if_pos hy];congr 2;refine eH (kP (ag rfl)) (decide_eq_false hy) ((cN).trans ?_);rw[if_neg hy,show ((b*2+0:Nat):Int)=(b:Int)*2 by omega]
 obtain⟨J,e⟩:=go x 0 qh;refine dS (R:=[pr (vI x),pr (.int (dj x:Nat)),J]) ?_;show sG #[[pr (vI x),qh,qh],[]]=_;rw[sG];refine aX (bx (R':=[pr (vI x),pr (.int ((0:Nat):Int)),qh]) aB rfl) (aX ?_ (bD (ag rfl)));exact(d6 (im:=listI (aa 0)) (ds:=x.map D.int) (k:=qh) (s1:=#[[pr (vI x),pr (.int ((0:Nat):Int)),qh],[]]) (by rw[cO,ag (i:=0) rfl,aj];rfl)).trans e
theorem wW{α:Type}{f:α->D}{l:List α}{a:α}(h:l[i]? =pr a):ixD O (.lst (l.map f)) (.int (i:Int))=.ok (f a):=by
 have hi:i<l.length:=by by_cases z:i<l.length;exact z;rw[UC ⋯] at h;cases h
 refine pY ?_;rw[qr (by simpa using hi)];rw[ut hi] at h;cases h;simp
structure Wrk(n:Nat)(L:List (Nat×List Int))(row:List Int)(b:Nat):Prop where
 len:∀p∈L,p.2.length=n
 nn:∀p∈L,∀i,0<=nth p.2 i
 few:L.length<64
 rl:row.length=n
 n7:n<=1000
 sz:cP b (L.map (·.2))
 rz:SzL b row
 bb:2*b+20<=60000000
theorem Wrk.dz(h:Wrk n L row b){p:Nat×List Int}(hp:p∈L):Sz (b+b+10) (aC row p.2):=nG h.rz (h.sz _ (Hf hp)) (by rw[h.rl];exact h.n7)
theorem QH(h:Wrk n L row b){p q:Nat×List Int}(hp:p∈L)(hq:q∈L):(((L.map λx=>dj x.2).filter λx=>decide (x|||(dj p.2|||dj q.2)=dj p.2|||dj q.2)).length == 2)=nbB n (L.map (·.2)) p.2 q.2:=by unfold nbB;rw[T9,t3,T9,t3];congr 2;refine List.filter_congr λx hx=> ?_;show decide (dj x.2|||(dj p.2|||dj q.2)=dj p.2|||dj q.2)=subB n x.2 p.2 q.2;exact bits_sub (h.len x hx) (h.len p hp) (h.len q hq) (h.nn x hx) (h.nn p hp) (h.nn q hq)
structure Iv(L T:List (Nat×List Int))(t:Nat)(O:aD):Prop where
 told:O[t]? =pr (.lst (cv T))
 l:Sto O L
 s:Sto O T
 tn:∀p∈T,p.1≠t
 ln:∀p∈L,p.1≠t
abbrev mR(L:List (Nat×List Int))(row:List Int)(t:Nat)(ab bl:List Nat)(x7 x8:Option D):List (Option D):=[pr (.lst (cv L)),pr (vI row),pr (.lst (L.map λp=>.int (aC row p.2))),pr (vN (L.map λp=>dj p.2)),pr (.ptr t),pr (vN ab),pr (vN bl),x7,x8]
theorem DS{n:Nat}{L:List (Nat×List Int)}{row:List Int}{b t:Nat}{ab bl:List Nat}(h:Wrk n L row b){J:(Nat×List Int)×Nat}(hh:L[J.2]? =pr J.1)(K:List D):∀(Y:List ((Nat×List Int)×Nat)) (T:List (Nat×List Int)) (O:aD) (x8:Option D),(∀q∈Y,L[q.2]? =pr q.1)->T.length+Y.length<=100000->Iv L T t O->
 ∃T' O' y8,cj (okC K qh) (aA 8) gN (Y.map λq=>D.int (q.2:Int)) #[mR L row t ab bl (pr (.int (J.2:Int))) x8,O]=.next #[mR L row t ab bl (pr (.int (J.2:Int))) y8,O']/\Iv L T' t O'/\T'.length<=T.length+Y.length/\
  T'.map (·.2)=T.map (·.2)++((Y.filter λq=>nbB n (L.map (·.2)) J.1.2 q.1.2).map λq=>dG q.1.2 (aC row q.1.2) J.1.2 (aC row J.1.2))
 | [],T,O,x8,_,_,iv=>#[T,O,x8,by rw[Te,cj,if_pos (show okC K qh _ from trivial)],iv,by simp,by simp]
 | q::Y,T,O,x8,hb,hl,iv=>by
  have hq:=hb q wp;have mh:J.1∈L:=SI hh;have mq:q.1∈L:=SI hq;have hb':=λz hz=>hb z (wf _ hz);rw[AC] at hl;have az:a9 (aN 3 hU (ae (ao ixD (aa 3) (aa 7)) (ae (ao ixD (aa 3) (aa 8)) (ae (aa 3) ak)))) #[mR L row t ab bl (pr (.int (J.2:Int))) (pr (.int (q.2:Int))),O]=.ok (nbB n (L.map (·.2)) J.1.2 q.1.2,#[mR L row t ab bl (pr (.int (J.2:Int))) (pr (.int (q.2:Int))),O]):=by rw[<- QH h mh mq];refine d7 (cX (aw (aL (ag rfl) (ag rfl) (wW (f:=λx:Nat=>D.int (x:Int)) (l:=L.map λp=>dj p.2) (a:=dj J.1.2) (by rw[wT,hh];rfl))) (aw (aL (ag rfl) (ag rfl) (wW (f:=λx:Nat=>D.int (x:Int)) (l:=L.map λp=>dj p.2) (a:=dj q.1.2) (by rw[wT,hq];rfl))) (aw (ag rfl) ay))) (KR (by rw[t3];have:=h.few;omega)) ?_ rfl (by simp));rw[fD,fD,fD,HC,B6,B6,gk,OE];rfl
  rw[x0];cases hn:nbB n (L.map (·.2)) J.1.2 q.1.2 with
  | false=>
   obtain⟨T',O',y8,e,a1,a2,a3⟩:=DS h hh K Y T O (pr (.int (q.2:Int))) hb' ⋯ iv;refine#[T',O',y8, ?_,a1,by rw[AC];omega,by rw[a3,SY (by rw[hn];decide)]];refine Db (kN (s1:=#[mR L row t ab bl (pr (.int (J.2:Int))) (pr (.int (q.2:Int))),O]) (s2:=#[mR L row t ab bl (pr (.int (J.2:Int))) (pr (.int (q.2:Int))),O]) trivial rfl ?_) e;rw[gN];exact eH az hn cN
  | true=>
   have zq:=h.sz _ (Hf (f:=(·.2)) mq);have zh:=h.sz _ (Hf (f:=(·.2)) mh);have off:=JI (one:=q.1.2) (other:=J.1.2) (v:=aC row q.1.2) (w:=aC row J.1.2) (by rw[h.len _ mq];have:=h.n7;omega) (λa ha=>eZ (by have:=h.bb;omega) (by have:=h.bb;omega) (zq a ha) (h.dz mh)) (λa ha=>eZ (by have:=h.bb;omega) (by have:=h.bb;omega) (zh a ha) (h.dz mq));have call:zK 4 qq (ae (ao ixD (aa 0) (aa 8)) (ae (ao ixD (aa 2) (aa 8)) (ae (ao ixD (aa 0) (aa 7)) (ae (ao ixD (aa 2) (aa 7)) ak)))) #[mR L row t ab bl (pr (.int (J.2:Int))) (pr (.int (q.2:Int))),O]=.ok (.ptr O.length,#[mR L row t ab bl (pr (.int (J.2:Int))) (pr (.int (q.2:Int))),O++[.lst ((dG q.1.2 (aC row q.1.2) J.1.2 (aC row J.1.2)).map D.int)]]):=by refine Oi (aw (aL (ag rfl) (ag rfl) (wW (f:=λp:Nat×List Int=>D.ptr p.1) hq)) (aw (aL (ag rfl) (ag rfl) (wW (f:=λp:Nat×List Int=>D.int (aC row p.2)) hq)) (aw (aL (ag rfl) (ag rfl) (wW (f:=λp:Nat×List Int=>D.ptr p.1) hh)) (aw (aL (ag rfl) (ag rfl) (wW (f:=λp:Nat×List Int=>D.int (aC row p.2)) hh)) ay)))) (rs:=[vI q.1.2,.int (aC row q.1.2),vI J.1.2,.int (aC row J.1.2)]) ?_ off (by simp) rfl rfl ?_ iy ?_;simp only[kc,mf,nY (iv.l _ mq),nY (iv.l _ mh),Nn,mO,kY];simp[Df,wQ];simp
   have be:Iv L (T++[(O.length,dG q.1.2 (aC row q.1.2) J.1.2 (aC row J.1.2))]) t ((O++[Cell.lst ((dG q.1.2 (aC row q.1.2) J.1.2 (aC row J.1.2)).map D.int)]).set t (Cell.lst (cv T++[D.ptr O.length]))):=by
    have tl:=oS iv.told;have am:(O++[Cell.lst ((dG q.1.2 (aC row q.1.2) J.1.2 (aC row J.1.2)).map D.int)])[t]? =pr (.lst (cv T)):=fm iv.told;refine#[by rw[fF am];simp[cv],(iv.l.app _).set iv.ln _,λp hp=> ?_,λp hp=> ?_,iv.ln];rcases xz.mp hp with hp | hp
    exact((iv.s.app _).set iv.tn _) p hp;rw[ww.mp hp];dsimp only;rw[cY ⋯];simp;rcases xz.mp hp with hp | hp
    exact iv.tn p hp;rw[ww.mp hp];dsimp only;omega
   obtain⟨T',O',y8,e,a1,a2,a3⟩:=DS h hh K Y (T++[(O.length,dG q.1.2 (aC row q.1.2) J.1.2 (aC row J.1.2))]) _ (pr (.int (q.2:Int))) hb' (by rw[Do,Re];omega) be;refine#[T',O',y8, ?_,a1,by rw[Do,Re] at a2;rw[AC];omega,by rw[a3,SD (p:=λq:(Nat×List Int)×Nat=>nbB n (L.map (·.2)) J.1.2 q.1.2) (a:=q) (l:=Y) hn,Fa,x0,Ta];rfl];refine Db (kN (s1:=#[mR L row t ab bl (pr (.int (J.2:Int))) (pr (.int (q.2:Int))),O]) (s2:=#[mR L row t ab bl (pr (.int (J.2:Int))) (pr (.int (q.2:Int))),(O++[Cell.lst ((dG q.1.2 (aC row q.1.2) J.1.2 (aC row J.1.2)).map D.int)]).set t (Cell.lst (cv T++[D.ptr O.length]))]) trivial rfl ?_) e;rw[gN];exact jo az hn (cV (oq (ag rfl) iv.told call (fm iv.told) (by rw[t3];omega) rfl))
theorem Gz{n:Nat}{L:List (Nat×List Int)}{row:List Int}{b t:Nat}{ab:List Nat}{J:List ((Nat×List Int)×Nat)}(h:Wrk n L row b)(hB:∀q∈J,L[q.2]? =pr q.1)(ap:J.length<=64)(K:List D):∀(As:List ((Nat×List Int)×Nat)) (T:List (Nat×List Int)) (O:aD) (x7 Y:Option D),(∀q∈As,L[q.2]? =pr q.1)->T.length+As.length*64<=10000->Iv L T t O->
 ∃T' O' y7 y8,cj (okC K qh) (aA 7) jm (As.map λq=>D.int (q.2:Int)) #[mR L row t ab (J.map (·.2)) x7 Y,O]=.next #[mR L row t ab (J.map (·.2)) y7 y8,O']/\Iv L T' t O'/\
  T'.map (·.2)=T.map (·.2)++As.flatMap λa=>(J.filter λq=>nbB n (L.map (·.2)) a.1.2 q.1.2).map λq=>dG q.1.2 (aC row q.1.2) a.1.2 (aC row a.1.2)
 | [],T,O,x7,Y,_,_,iv=>#[T,O,x7,Y,by rw[Te,cj,if_pos (show okC K qh _ from trivial)],iv,by simp]
 | a::As,T,O,x7,Y,hA,hl,iv=>by rw[AC] at hl;obtain⟨T1,O1,y8,e1,i1,l1,m1⟩:=DS (ab:=ab) (bl:=J.map (·.2)) h (hA a wp) ((J.map (·.2)).map λx:Nat=>D.int (x:Int)) J T O Y hB ⋯ iv;obtain⟨T2,O2,z7,z8,e2,i2,m2⟩:=Gz (ab:=ab) h hB ap K As T1 O1 (pr (.int (a.2:Int))) y8 (λq hq=>hA q (wf _ hq)) ⋯ i1;refine#[T2,O2,z7,z8, ?_,i2,by rw[m2,m1,List.flatMap_cons,Ta]];rw[x0];refine Db (kN (s1:=#[mR L row t ab (J.map (·.2)) (pr (.int (a.2:Int))) Y,O]) (s2:=#[mR L row t ab (J.map (·.2)) (pr (.int (a.2:Int))) y8,O1]) trivial rfl ?_) e2;rw[jm];refine(d6 (im:=listI (aa 6)) (ds:=(J.map (·.2)).map λx:Nat=>D.int (x:Int)) (k:=qh) (s1:=#[mR L row t ab (J.map (·.2)) (pr (.int (a.2:Int))) Y,O]) (by rw[cO,ag (i:=6) rfl,aj];rfl)).trans ?_;rw[wv] at e1 ⊢;exact e1
theorem NH {α:Type} {caps:List Nat} {im:IM} {c:TM} {e:EM} {k:Option Nat} {l:List α} {p:α->Bool} {out:α->D} {f g:α->D} (J:im s=.ok ((l.map (λa=>D.tup [f a,g a]),k),s)) (Y:okC (l.map (λa=>D.tup [f a,g a])) k s.o) (hl:l.length<=16777216)
 (hc:∀a∈l,c #[pr (f a)::pr (g a)::caps.map (λi=>(s.r[i]?).getD qh),s.o]=.ok (p a,#[pr (f a)::pr (g a)::caps.map (λi=>(s.r[i]?).getD qh),s.o]))
 (he:∀a∈l,p a=ss->e #[pr (f a)::pr (g a)::caps.map (λi=>(s.r[i]?).getD qh),s.o]=.ok (out a,#[pr (f a)::pr (g a)::caps.map (λi=>(s.r[i]?).getD qh),s.o])):
 nv 2 caps im (cH (aT (aA 0) (aT (aA 1) cL)) 2) c e s=.ok (.ptr s.o.length,#[s.r,s.o++[.lst ((l.filter p).map out)]]):=by
 rw[Ee,D8 J Y hl hc he,aj]
theorem Lp{α:Type}{f g:α->D}:∀l:List α,mn (l.map f) (l.map g)=l.map λa=>.tup [f a,g a]:=λl=>by unfold mn;rw[WZ,List.zipWith_self]
theorem Ed{α:Type}(p:α->Bool)(l:List α):(l.zipIdx.filter λq=>p q.1).map (·.1)=l.filter p:=by
 have h:(l.zipIdx.map (·.1))=l:=by simp
 conv=>rhs;rw[<- h,T9]
 rfl
theorem Oh(h:Wrk n L row b)(hs:Sto O L):∃L' O',iG [.lst (cv L),vI row] O=.ok (.lst (cv L'),O')/\L'.map (·.2)=eS n (L.map (·.2)) row/\Sto O' L':=by
 have few:=h.few;have dz:∀p∈L,bq [vI row,vI p.2] []=.ok (.int (aC row p.2),[]):=λp hp=>sY (by rw[h.rl];have:=h.n7;omega) λq hq=>eZ (by have:=h.bb;omega) (by have:=h.bb;omega) (h.rz _ (Fk hq).1) (h.sz _ (Hf hp) _ (Fk hq).2);have v2:=c7 (l:=L) (item:=λp=>.ptr p.1) (out:=λp=>.int (aC row p.2)) (caps:=[1]) (im:=listI (aa 0)) (e:=gC 2 bq (ae (aa 1) (ae (aa 0) ak))) (k:=qh) (s:=#[[pr (.lst (cv L)),pr (vI row),qh,qh,qh,qh,qh,qh,qh],O]) (by rw[cO,ag (i:=0) rfl,aj];rfl) trivial ⋯
  (λp hp=>sV (aw (ag rfl) (aw (ag rfl) ay)) (rs:=[vI row,vI p.2]) (by simp only[kc,mf,nY (hs p hp),mO,kY]) (dz p hp) (by simp) rfl rfl)
 have v3:=c7 (l:=L) (item:=λp=>.ptr p.1) (out:=λp=>.int (dj p.2:Nat)) (caps:=[]) (im:=listI (aa 0)) (e:=gC 1 ey (ae (aa 0) ak)) (k:=qh) (s:=#[[pr (.lst (cv L)),pr (vI row),pr (.lst (L.map λp=>.int (aC row p.2))),qh,qh,qh,qh,qh,qh],O]) (by rw[cO,ag (i:=0) rfl,aj];rfl) trivial ⋯
  (λp hp=>sV (aw (ag rfl) ay) (rs:=[vI p.2]) (by simp only[kc,mf,nY (hs p hp),mO,kY]) vM (by simp) rfl rfl)
 rw[show (L.map λp=>D.int (dj p.2:Nat))=(L.map λp=>dj p.2).map (λx:Nat=>D.int (x:Int)) by rw[wv];rfl] at v3;have v4:=NH (l:=L) (f:=λp=>.ptr p.1) (g:=λp=>.int (aC row p.2)) (p:=λp=>decide (aC row p.2=0)) (out:=λp=>.ptr p.1) (caps:=[]) (im:=kr (ae (aa 0) (ae (aa 2) ak))) (c:=a9 (ao eqD (aa 1) (au (.int 0)))) (e:=aa 0) (k:=qh) (s:=#[[pr (.lst (cv L)),pr (vI row),pr (.lst (L.map λp=>.int (aC row p.2))),pr (vN (L.map λp=>dj p.2)),qh,qh,qh,qh,qh],O]) (by rw[G3,aW,ag (i:=0) rfl,aj];dsimp only;rw[aW,ag (i:=2) rfl,aj];dsimp only;rw[ay,aj,aj,aj];dsimp only;rw[Lp]) trivial ⋯ (λp _=>d7 (aL (ag rfl) aB jL)) (λp _ _=>ag rfl)
 have Y:∀(R:List (Option D)) (P:aD),R[2]? =pr (pr (.lst (L.map λp=>.int (aC row p.2))))->cZ (ae (aa 2) ak) #[R,P]=.ok ((L.zipIdx.map λq=>D.tup [.int (q.2:Int),.int (aC row q.1.2)],qh),#[R,P]):=λR P hR=>by
  rw[iA,aW,ag (i:=2) hR,aj];dsimp only;rw[ay,aj,aj];dsimp only;rw[show dR (L.map λp=>D.int (aC row p.2))=L.zipIdx.map λq=>D.tup [.int (q.2:Int),.int (aC row q.1.2)] by unfold dR;rw[Uh,Ve,wv];rfl]
 have zl:L.zipIdx.length=L.length:=by simp
 have vn:∀Z:List ((Nat×List Int)×Nat),(Z.map λq=>D.int (q.2:Int))=(Z.map (·.2)).map λx:Nat=>D.int (x:Int):=λZ=>by rw[wv];rfl
 have v5:=Bh (l:=L.zipIdx) (f:=λq=>.int (q.2:Int)) (g:=λq=>.int (aC row q.1.2)) (p:=λq=>decide (0<aC row q.1.2)) (out:=λq=>.int (q.2:Int)) (caps:=[]) (im:=cZ (ae (aa 2) ak)) (c:=a9 (ao gtD (aa 1) (au (.int 0)))) (e:=aa 0) (k:=qh) (s:=#[[pr (.lst (cv L)),pr (vI row),pr (.lst (L.map λp=>.int (aC row p.2))),pr (vN (L.map λp=>dj p.2)),pr (.ptr O.length),qh,qh,qh,qh],O++[.lst ((L.filter λp=>decide (aC row p.2=0)).map λp=>.ptr p.1)]]) (Y _ _ rfl) trivial ⋯ (λq _=>d7 (aL (ag rfl) aB AO)) (λq _ _=>ag rfl);generalize hA:(L.zipIdx.filter λq=>decide (0<aC row q.1.2))=J at v5;rw[vn] at v5;have v6:=Bh (l:=L.zipIdx) (f:=λq=>.int (q.2:Int)) (g:=λq=>.int (aC row q.1.2)) (p:=λq=>decide (aC row q.1.2<0)) (out:=λq=>.int (q.2:Int)) (caps:=[]) (im:=cZ (ae (aa 2) ak)) (c:=a9 (ao ltD (aa 1) (au (.int 0)))) (e:=aa 0) (k:=qh) (s:=#[[pr (.lst (cv L)),pr (vI row),pr (.lst (L.map λp=>.int (aC row p.2))),pr (vN (L.map λp=>dj p.2)),pr (.ptr O.length),pr (vN (J.map (·.2))),qh,qh,qh],O++[.lst ((L.filter λp=>decide (aC row p.2=0)).map λp=>.ptr p.1)]]) (Y _ _ rfl) trivial ⋯ (λq _=>d7 (aL (ag rfl) aB iX)) (λq _ _=>ag rfl);generalize hB:(L.zipIdx.filter λq=>decide (aC row q.1.2<0))=Bs at v6;rw[vn] at v6;have at_:∀q∈L.zipIdx,L[q.2]? =pr q.1:=λq hq=>List.mem_zipIdx_iff_getElem?.mp hq;have mA:∀q∈J,L[q.2]? =pr q.1:=λq hq=>at_ q (by rw[<- hA] at hq;exact(EQ.mp hq).1);have mB:∀q∈Bs,L[q.2]? =pr q.1:=λq hq=>at_ q (by rw[<- hB] at hq;exact(EQ.mp hq).1);have lA:J.length<=L.length:=by rw[<- hA,<- zl];exact Uz _ _
 have lB:Bs.length<=L.length:=by rw[<- hB,<- zl];exact Uz _ _
 have sub:∀p∈L.filter (λp=>decide (aC row p.2=0)),p∈L:=λp hp=>(EQ.mp hp).1;have lT:(L.filter λp=>decide (aC row p.2=0)).length<=L.length:=Uz _ _;have iv:Iv L (L.filter λp=>decide (aC row p.2=0)) O.length (O++[.lst ((L.filter λp=>decide (aC row p.2=0)).map λp=>.ptr p.1)]):=#[by simp,hs.app _,λp hp=>(hs.app _) p (sub p hp),λp hp=>Ix (hs.lt (sub p hp)),λp hp=>Ix (hs.lt hp)];obtain⟨T',O',y7,y8,e7,i7,m7⟩:=Gz (ab:=J.map (·.2)) h mB ⋯ ((J.map (·.2)).map λx:Nat=>D.int (x:Int)) J _ _ qh qh mA ⋯ iv;refine#[T',O'.set O.length .dead, ?_, ?_,i7.s.set i7.tn _];refine dS (R:=mR L row O.length (J.map (·.2)) (Bs.map (·.2)) y7 y8) ?_;show kv #[[pr (.lst (cv L)),pr (vI row),qh,qh,qh,qh,qh,qh,qh],O]=_;rw[kv];refine aX (bx v2 rfl) (aX (bx v3 rfl) (aX (bx v4 rfl) (aX (bx v5 rfl) (aX (bx v6 rfl) (aX ?_ (bD (ot (ag rfl) i7.told rfl)))))));refine(d6 (im:=listI (aa 5)) (ds:=(J.map (·.2)).map λx:Nat=>D.int (x:Int)) (k:=qh) (s1:=#[mR L row O.length (J.map (·.2)) (Bs.map (·.2)) qh qh,O++[.lst ((L.filter λp=>decide (aC row p.2=0)).map λp=>.ptr p.1)]]) (by rw[cO,ag (i:=5) rfl,aj];rfl)).trans ?_;rw[<- vn];exact e7;rw[m7];unfold eS;rw[T9,T9,T9];have eA:=Ed (λp:Nat×List Int=>decide (0<aC row p.2)) L;have eB:=Ed (λp:Nat×List Int=>decide (aC row p.2<0)) L;rw[hA] at eA;rw[hB] at eB;show _=(L.filter λp=>decide (aC row p.2=0)).map (·.2)++((L.filter λp:Nat×List Int=>decide (0<aC row p.2)).map (·.2)).flatMap λh=>(((L.filter λp:Nat×List Int=>decide (aC row p.2<0)).map (·.2)).filter λw=>nbB n (L.map (·.2)) h w).map λw=>dG w (aC row w) h (aC row h);rw[<- eA,<- eB];congr 1;rw[Xb,Xb];refine congrArg (λF=>J.flatMap F) (funext λa=> ?_);rw[wv,T9,wv];rfl
theorem Ip {α:Type} {l:List α} {item:α->D} {f:α->List Int} {T:α->Nat->Prop} {caps:List Nat} {im:IM} {e:EM} {k:Option Nat} (I:aD->Prop) (hI:∀O E,I O->I (O++E)) (h0:I O) (J:im #[R,O]=.ok ((l.map item,k),#[R,O])) (Y:∀O,I O->okC (l.map item) k O) (hl:l.length<=1000000)
 (he:∀a∈l,∀O,I O->∃q E,e #[pr (item a)::caps.map (λi=>(R[i]?).getD qh),O]=.ok (.ptr q,#[pr (item a)::caps.map (λi=>(R[i]?).getD qh),O++E])/\(O++E)[q]? =pr (.lst ((f a).map D.int))/\(T a q\/O.length<=q)):
 ∃(L:List (Nat×List Int)) (E:aD),bF 1 caps im (aA 0) bA e #[R,O]=.ok (.lst (cv L),#[R,O++E])/\L.map (·.2)=l.map f/\Sto (O++E) L:=by
 obtain⟨L,E,x',e1,e2,e3,e4⟩:=Ak (ok:=okC (l.map item) k) (e:=e) (cap:=caps.map (λi=>(R[i]?).getD qh)) (T:=T) I hI Y l [] qh O h0 (by simp;omega) he;refine#[L,E, ?_,e2,e3];rw[qI,yZ,J,aj];dsimp only;rw[show o6 1 caps R=qh::caps.map (λi=>(R[i]?).getD qh) from rfl,e1,aj,aj];rfl
theorem Oc(ha:a<n)(hn:n<=1000000):vo [.int (a:Int),.int (n:Int)] []=.ok (.ptr 0,[.lst ((d8 n a).map D.int)]):=by
 have h1:=eX (i:=2) (Db (MJ (fin:=rV) (mk:=aa 1) (s:=#[[pr (.int (a:Int)),pr (.int (n:Int)),qh],[]]) (n:=n) (by simp) hn) AH);have h2:kL (au (.int 1)) (zc (aa 2) (aa 0)) #[[pr (.int (a:Int)),pr (.int (n:Int)),pr (.ptr 0)],[.lst ((wn n (0:Int)).map D.int)]]=.next #[[pr (.int (a:Int)),pr (.int (n:Int)),pr (.ptr 0)],[.lst ((d8 n a).map D.int)]]:=by rw[AU,aB,aj,DK (k:=0) (a:=a) (ds:=(wn n (0:Int)).map D.int) (s1:=#[[pr (.int (a:Int)),pr (.int (n:Int)),pr (.ptr 0)],[.lst ((wn n (0:Int)).map D.int)]]) (s2:=#[[pr (.int (a:Int)),pr (.int (n:Int)),pr (.ptr 0)],[.lst ((wn n (0:Int)).map D.int)]]) (by simp) (by simp) rfl (by simpa using ha)];simp[d8,XC]
 refine dS (R:=[pr (.int (a:Int)),pr (.int (n:Int)),pr (.ptr 0)]) ?_;show D2 #[[pr (.int (a:Int)),pr (.int (n:Int)),qh],[]]=_;rw[D2,bV h1];exact aX h2 (bD (ag rfl))
theorem KU(hn:n<=1000)(O:aD):∃L E,wY [.int (n:Int)] O=.ok (.lst (cv L),O++E)/\L.map (·.2)=dh n/\Sto (O++E) L:=by
 obtain⟨L,E,e,h1,h2⟩:=Ip (l:=wh n) (item:=λi:Nat=>D.int (i:Int)) (f:=d8 n) (T:=λ_ _=>False) (caps:=[0]) (im:=dB (ae (aa 0) ak)) (e:=d9 2 vo (ae (aa 0) (ae (aa 1) ak))) (k:=qh) (R:=[pr (.int (n:Int))]) (O:=O) (λ_=>True) (λ_ _ _=>trivial) trivial (by
  rw[eC (n:=n) (s1:=#[[pr (.int (n:Int))],O]) (aw (ag rfl) ay) ⋯,fq]) (λ_ _=>trivial) (by rw[Ub];omega) (λa ha P _=>
  #[P.length,[.lst ((d8 n a).map D.int)],gY (aw (ag rfl) (aw (ag rfl) ay)) (Oc (SA.mp ha) ⋯) (by simp) rfl iy (by simp),by simp,.inr (wS _)])
 refine#[L,E, ?_,h1,h2];refine dS (R:=[pr (.int (n:Int))]) ?_;show Bb #[[pr (.int (n:Int))],O]=_;rw[Bb];exact bD e
theorem Af{O:aD}:∀{L:List (Nat×List Int)},Sto O L->keyed O (cv L)=pr (L.map λp=>(.ptr p.1,p.2))
 | [],_=>rfl
 | p::L,h=>by
  have e:=Af (L:=L) λq hq=>h q (wf _ hq);have c:zU O (.ptr p.1)=pr p.2:=by unfold zU;rw[jg (h p wp)];exact Ap _
  show keyed O (.ptr p.1::cv L)=_;unfold keyed;rw[c,e];rfl
theorem J0:(fk (L.map λp=>(D.ptr p.1,p.2))).map (·.1)=cv (fk L):=by rw[oK (g:=λp:Nat×List Int=>(D.ptr p.1,p.2)) λ_=>rfl,wv];rfl
theorem yY{O:aD}{fin:S->List D->Res (D×S)}(J:me s=.ok (d,s1))(hd:lsD s1.o d=pr (cv L))(hs:Sto s1.o L)(Y:L.length<64)(nd:(L.map (·.2)).Nodup):w9 fin me s=fin s1 (cv (fk L)):=by unfold w9;rw[J,aj];dsimp only;rw[hd];dsimp only;rw[Af hs];dsimp only;rw[if_pos #[by rw[t3];exact Y,by rw[wv];exact nd],J0]
def rA(V:List (List Int)):List (List Int):=(fk (V.map λx=>((),x))).map (·.2)
theorem BV:(fk L).map (·.2)=rA (L.map (·.2)):=by unfold rA;rw[wv,show ((λx:List Int=>((),x))∘λx:Nat×List Int=>x.2)=λp:Nat×List Int=>((),p.2) from rfl,oK (g:=λp:Nat×List Int=>((),p.2)) λ_=>rfl,wv];rfl
theorem B9(n:Nat):cP 1 (dh n):=λx hx=>by unfold dh at hx;obtain⟨a,_,rfl⟩:=sB.mp hx;exact Bj n a
structure Dg(c B n:Nat)(rows:List (List Int)):Prop where
 len:∀r∈rows,r.length=n
 sz:cP c rows
 big:qX c rows.length 1<=B
 cB:c<=B
 B2:2*B+20<=60000000
 n7:n<=7
theorem D3{c B n:Nat}(h:Dg c B n rows){rs:List (List Int)}(hr:∀r∈rs,r∈rows)(Y:rs.length<=rows.length):cP B (rs.foldl (eS n) (dh n)):=
 (yN rs 1 _ (λr J=>#[h.sz r (hr r J),by rw[h.len r (hr r J)];have:=h.n7;omega]) (B9 n)).mono (SE (oU c rs.length rows.length 1 Y) h.big)
theorem Dq{c B n:Nat}(h:Dg c B n rows):∃k O Ls,i4 [vII rows,.int (n:Int)] []=.ok (.ptr k,O)/\O[k]? =pr (.lst (cv Ls))/\Sto O Ls/\(∀p∈Ls,p.1≠k)/\Ls=fk Ls/\Ls.map (·.2)=rA (i8 rows n):=by
 have n7:=h.n7;obtain⟨L0,E0,e0,m0,s0⟩:=KU (n:=n) ⋯ [];rw[Cs] at e0 s0;obtain⟨s',el,rs,L,O,x3,ab,az,J,ml⟩:=fj (ok:=okC (rows.map vI) qh) (g:=aA 3) (body:=zD)
  (λpre s=>∃(rs:List (List Int)) (L:List (Nat×List Int)) (O:aD) (x3:Option D),pre=rs.map vI/\s=#[[pr (vII rows),pr (.int (n:Int)),pr (.lst (cv L)),x3],O]/\Sto O L/\L.map (·.2)=rs.foldl (eS n) (dh n)) (λ_ _ _=>trivial) (rows.map vI) [] (by
   rintro pre d rest ed s ⟨rs,L,O,x3,rfl,rfl,J,ml⟩;rw[Cs] at ed;obtain⟨Y,l2,e1,e2,e3⟩:=List.map_eq_append_iff.mp ed;cases l2 with
   | nil=>cases e3
   | cons r l2=>
    rw[x0] at e3;injection e3 with e3 e4
    subst e3;have e5:Y=rs:=(TD (λa b h=>by
     have:a.map D.int=b.map D.int:=by injection h
     exact(TD (λx y q=>by cases q;rfl)).mp this)).mp e2
    subst e5;have inR:∀q∈Y,q∈rows:=λq hq=>by rw[e1];exact Td _ hq
    have rR:r∈rows:=by rw[e1];simp
    have k:jX n Y (i8 Y n):=mV λq hq=>h.len q (inR q hq);have cl:Y.length<=rows.length:=by rw[e1,Do];omega
    have mem:∀p∈L,cR n Y p.2:=λp hp=>(k.all p.2).mp (by show p.2∈Y.foldl (eS n) (dh n);rw[<- ml];exact Hf hp)
    have wk:Wrk n L r B:=#[λp hp=>(mem p hp).fit.len,λp hp=>(mem p hp).fit.nn,by
     have:=k.few n7;have e:L.length=(i8 Y n).length:=by show _=(Y.foldl (eS n) (dh n)).length;rw[<- ml,t3]
     omega,h.len r rR,⋯,by rw[ml];exact D3 h inR cl,(h.sz r rR).mono h.cB,h.B2]
    obtain⟨L',O',e6,m6,s6⟩:=Oh wk J;refine#[#[[pr (vII rows),pr (.int (n:Int)),pr (.lst (cv L)),pr (vI r)],O],#[[pr (vII rows),pr (.int (n:Int)),pr (.lst (cv L')),pr (vI r)],O'],rfl,.inl ?_,Y++[r],L',O',_,by simp,rfl,s6,by rw[m6,ml,Uv];rfl];rw[zD];exact bx (xo (aw (ag rfl) (aw (ag rfl) ay)) e6 rfl) rfl) #[[pr (vII rows),pr (.int (n:Int)),pr (.lst (cv L0)),qh],E0] #[[],L0,E0,qh,rfl,rfl,s0,m0]
 rw[Cs] at ab;have e5:rows=rs:=(TD (λa b h=>by
  have:a.map D.int=b.map D.int:=by injection h
  exact(TD (λx y q=>by cases q;rfl)).mp this)).mp ab
 subst e5;subst az;have k:jX n rows (i8 rows n):=mV h.len;have ac:L.map (·.2)=i8 rows n:=ml;have nd:(L.map (·.2)).Nodup:=by rw[ac];exact k.nd
 have few:L.length<64:=by have:=k.few n7;rw[<- ac,t3] at this;exact this
 have so:w9 rV (aa 2) #[[pr (vII rows),pr (.int (n:Int)),pr (.lst (cv L)),x3],O]=.ok (.ptr O.length,#[[pr (vII rows),pr (.int (n:Int)),pr (.lst (cv L)),x3],O++[.lst (cv (fk L))]]):=(yY (O:=O) (fin:=rV) (ag rfl) rfl J few nd).trans AH;have mem:∀p∈fk L,p∈L:=λp hp=>(iE L).mem_iff.mp hp;refine#[O.length,O++[.lst (cv (fk L))],fk L, ?_,by simp,λp hp=>(J.app _) p (mem p hp),λp hp=>Ix (J.lt (mem p hp)), ?_,by rw[BV,ac]];refine dS (R:=[pr (vII rows),pr (.int (n:Int)),pr (.lst (cv L)),x3]) ?_;show Et #[[pr (vII rows),pr (.int (n:Int)),qh,qh],[]]=_;rw[Et];refine aX (bx (xo (aw (ag rfl) ay) e0 rfl) rfl) (aX ?_ (bD so));exact(d6 (im:=listI (aa 0)) (ds:=rows.map vI) (k:=qh) (s1:=#[[pr (vII rows),pr (.int (n:Int)),pr (.lst (cv L0)),qh],E0]) (by rw[cO,ag (i:=0) rfl,aj];rfl)).trans el;refine yJ (iE _).symm ?_ (pH L) (pH _);exact((iE L).map (·.2)).nodup_iff.mpr nd
structure qw(n:Nat)(rows:List (List Int)):Prop where
 len:∀r∈rows,r.length=n
 sz:cP 200 rows
 cnt:rows.length<=5
 n7:n<=7
theorem big:qX 200 5 1<=8000:=∅
theorem Fi(h:qw n rows){rs:List (List Int)}(hr:∀r∈rs,r∈rows)(Y:rs.length<=5):cP 8000 (rs.foldl (eS n) (dh n)):=by refine(yN rs 1 _ (λr J=>#[h.sz r (hr r J),by rw[h.len r (hr r J)];have:=h.n7;omega]) (B9 n)).mono ?_;exact SE (oU 200 rs.length 5 1 Y) big
theorem qw.toC(h:qw n rows):Dg 200 8000 n rows:=#[h.len,h.sz,SE (oU 200 rows.length 5 1 h.cnt) big,∅,∅,h.n7]
theorem GP(h:qw n rows):∃k O J,i4 [vII rows,.int (n:Int)] []=.ok (.ptr k,O)/\O[k]? =pr (.lst (cv J))/\Sto O J/\(∀p∈J,p.1≠k)/\J=fk J/\J.map (·.2)=rA (i8 rows n):=Dq h.toC
theorem z5(h:dq d=ss):aU [vII A,d]=true:=by rw[fD,fD,gk,gQ,h];rfl
theorem Gu(n:Nat):∀L:List (Nat×List Int),fL n (cv L)=cv (L.map λp=>(n+p.1,p.2))
 | []=>by simp[fL]
 | p::L=>by show fL n (.ptr p.1::cv L)=_;unfold fL;rw[Gu n L,iy];rfl
theorem Aw{O S:aD}(h:Sto O L):Sto (S++O.map (shC S.length)) (L.map λp=>(S.length+p.1,p.2)):=λq hq=>by obtain⟨p,hp,rfl⟩:=sB.mp hq;dsimp only;rw[wP ⋯,SR,wT,h p hp];simp
theorem w8{O S:aD}(h:O[k]? =pr (.lst (cv L))):(S++O.map (shC S.length))[S.length+k]? =pr (.lst (cv (L.map λp=>(S.length+p.1,p.2)))):=by rw[wP ⋯,SR,wT,h];simp only[Tn,nZ,Gu]
theorem CB(ns:List Int)(J:ns.length<=1000000):iQ [vI ns] []=.ok (vI (low ns),[]):=by
 by_cases h:da ns=0;refine df (s:=#[[pr (vI ns),pr (.int 0)],[]]) ?_;simp[rN,t9,h,low];have hc:=c7 (l:=ns) (item:=D.int) (out:=λn=>.int (n/(da ns:Int))) (caps:=[1]) (im:=listI (aa 0)) (e:=ao gy (aa 0) (aa 1)) (k:=qh) (s:=#[[pr (vI ns),pr (.int (da ns:Nat))],[]]) (by simp) trivial ⋯ (λa _=>by simp[mL (show (da ns:Int)≠0 by omega),uM (show (0:Int)<da ns by omega)])
 refine df (s:=#[[pr (vI ns),pr (.int (da ns:Nat))],[]]) ?_;simp[rN,t9,h,hc,low,wv,Uf]
theorem Gh(ha:a<n)(hn:n<=1000000):∃O,ki [.int (a:Int),.int (n:Int)] []=.ok (vI (d8 n a),O):=by
 have h1:=eX (i:=2) (Db (MJ (fin:=rV) (mk:=aa 1) (s:=#[[pr (.int (a:Int)),pr (.int (n:Int)),qh],[]]) (n:=n) (by simp) hn) AH);have h2:kL (au (.int 1)) (zc (aa 2) (aa 0)) #[[pr (.int (a:Int)),pr (.int (n:Int)),pr (.ptr 0)],[.lst ((wn n (0:Int)).map D.int)]]=.next #[[pr (.int (a:Int)),pr (.int (n:Int)),pr (.ptr 0)],[.lst ((d8 n a).map D.int)]]:=by rw[AU,aB,aj,DK (k:=0) (a:=a) (ds:=(wn n (0:Int)).map D.int) (s1:=#[[pr (.int (a:Int)),pr (.int (n:Int)),pr (.ptr 0)],[.lst ((wn n (0:Int)).map D.int)]]) (s2:=#[[pr (.int (a:Int)),pr (.int (n:Int)),pr (.ptr 0)],[.lst ((wn n (0:Int)).map D.int)]]) (by simp) (by simp) rfl (by simpa using ha)];simp[d8,XC]
 refine kO #[#[[pr (.int (a:Int)),pr (.int (n:Int)),pr (.ptr 0)],[.dead]], ?_];show vT #[[pr (.int (a:Int)),pr (.int (n:Int)),qh],[]]=_;rw[vT,bV h1];refine Db (bV h2) ?_;simp
theorem Jv(hn:n<=1000000):nA [.int (n:Int)] []=.ok (vII (dh n),[]):=by
 have hc:=c7 (l:=wh n) (item:=λi=>.int (i:Int)) (out:=λi=>vI (d8 n i)) (caps:=[0]) (im:=dB (ae (aa 0) ak)) (e:=aN 2 ki (ae (aa 0) (ae (aa 1) ak))) (k:=qh) (s:=#[[pr (.int (n:Int))],[]]) (by
  rw[eC (n:=n) (s1:=#[[pr (.int (n:Int))],[]]) (by simp) hn,fq]) trivial (nX (by rw[Ub];exact hn)) (λa ha=>by
  obtain⟨O,e⟩:=Gh (SA.mp ha) hn;exact cI (ds:=[.int (a:Int),.int (n:Int)]) (by simp) (by simp) rfl e (by simp))
 refine df (s:=#[[pr (.int (n:Int))],[]]) ?_;show tS #[[pr (.int (n:Int))],[]]=_;rw[tS,bD hc];simp[dh]
theorem BR{one other:List Int}{v w:Int}(Y:one.length<=1000000)(h1:∀a∈one,Tj a w)(h2:∀b∈other,Tj b v):gT [vI one,.int v,vI other,.int w] []=.ok (vI (dG one v other w),[]):=by
 have hz:(one.zip other).length<=1000000:=by rw[SJ];omega
 have hc:=vZ (l:=one.zip other) (f:=λp=>.int p.1) (g:=λp=>.int p.2) (out:=λp=>.int (p.1*w-p.2*v)) (caps:=[1,3]) (im:=kr (ae (aa 0) (ae (aa 2) ak))) (e:=ao iR (ao cG (aa 0) (aa 3)) (ao cG (aa 1) (aa 2))) (k:=qh) (s:=#[[pr (vI one),pr (.int v),pr (vI other),pr (.int w),qh],[]]) (by simp[ji]) trivial ⋯ (λp hp=>by have hp':=Fk hp;simp[cT (h1 p.1 hp'.1),cT (h2 p.2 hp'.2)])
 rw[show (one.zip other).map (λp=>D.int (p.1*w-p.2*v))=(ib one v other w).map D.int by rw[ib,<- zip_map];simp] at hc;have J:(ib one v other w).length<=1000000:=by unfold ib;rw[Ti];omega
 refine df (s:=#[[pr (vI one),pr (.int v),pr (vI other),pr (.int w),pr (vI (ib one v other w))],[]]) ?_;show sI #[[pr (vI one),pr (.int v),pr (vI other),pr (.int w),qh],[]]=_;rw[sI,bV (eX hc)];simp[CB _ J,dG]
theorem BP{k:Option Nat}(hd:itemsOf O d=.ok (rows.map vI,k))(hk:okC (rows.map vI) k O)(J:rows.length<=1000000)(ha:∀r∈rows,a<r.length):jw [d,.int (a:Int)] O=.ok (vI (rows.map (nth · a)),O):=by
 have hc:=c7 (l:=rows) (item:=vI) (out:=λr=>.int (nth r a)) (caps:=[1]) (im:=listI (aa 0)) (e:=ao ixD (aa 0) (aa 1)) (k:=k) (s:=#[[pr d,pr (.int (a:Int))],O]) (by simp[hd]) hk ⋯ (λr hr=>by simp[fY (ha r hr)])
 refine df (s:=#[[pr d,pr (.int (a:Int))],O]) ?_;show yK #[[pr d,pr (.int (a:Int))],O]=_;rw[yK,bD hc];simp[wv,Uf]
theorem JW(x:Option D)(L:D):∀(ns:List Int) (J:Nat) (Y x2:Option D),(dH ns=qh->∃y1 y2,cj (okC (dR [L]) qh) (cH (aT (aA 1) (aT (aA 2) cL)) 2) cS ((ns.zipIdx J).map λp=>.tup [.int (p.2:Int),.int p.1]) #[[pr L,Y,x2],[]]=.next #[[pr L,y1,y2],[]])/\
 ∀j,dH ns=pr j->∃y1 y2,cj (okC (dR [L]) qh) (cH (aT (aA 1) (aT (aA 2) cL)) 2) cS ((ns.zipIdx J).map λp=>.tup [.int (p.2:Int),.int p.1]) #[[pr L,Y,x2],[]]=.ret (.int ((J+j:Nat):Int)) #[[pr L,y1,y2],[]]
 | [],J,Y,x2=>#[λ_=>#[Y,x2,by simp[cj]],λj h=>by cases h]
 | n::ns,J,Y,x2=>by
  have ih:=JW x L ns (J+1) (pr (.int (J:Int))) (pr (.int n));rw[UG,x0,cj,if_pos (show okC (dR [L]) qh _ from trivial)];have hg:cH (aT (aA 1) (aT (aA 2) cL)) 2 (.tup [.int (J:Int),.int n]) #[[pr L,Y,x2],[]]=.ok #[[pr L,pr (.int (J:Int)),pr (.int n)],[]]:=by simp
  rw[hg,lH];by_cases hn:n=0;have hb:cS #[[pr L,pr (.int (J:Int)),pr (.int n)],[]]=.next #[[pr L,pr (.int (J:Int)),pr (.int n)],[]]:=by simp[cS,hn]
  rw[hb];dsimp only;constructor;intro h;unfold dH at h;rw[if_neg (by simpa using hn)] at h;exact ih.1 (by simpa using h);intro j h;unfold dH at h;rw[if_neg (by simpa using hn)] at h;cases e:dH ns with
  | none=>rw[e] at h;cases h
  | some i=>
   rw[e] at h;have hj:j=i+1:=by simpa using h.symm
   subst hj;obtain⟨y1,y2,e2⟩:=ih.2 i e;exact#[y1,y2,by rw[e2,show J+1+i=J+(i+1) by omega]]
  have hb:cS #[[pr L,pr (.int (J:Int)),pr (.int n)],[]]=.ret (.int (J:Int)) #[[pr L,pr (.int (J:Int)),pr (.int n)],[]]:=by simp[cS,hn]
  rw[hb];dsimp only;have hs:dH (n::ns)=pr 0:=by unfold dH;rw[if_pos hn]
  rw[hs];refine#[λh=>(by cases h),λj h=> ?_];have hj:j=0:=by simpa using h.symm
  subst hj;exact#[_,_,rfl]
def wy:Option Nat->D
 | none=>.non
 | some k=>.int (k:Int)
theorem E8(ns:List Int):di [vI ns] []=.ok (wy (dH ns),[]):=by
 have hf:=d6 (im:=cZ (ae (aa 0) ak)) (g:=cH (aT (aA 1) (aT (aA 2) cL)) 2) (body:=cS) (s:=#[[pr (vI ns),qh,qh],[]]) (ds:=(ns.zipIdx 0).map λp=>.tup [.int (p.2:Int),.int p.1]) (k:=qh) (s1:=#[[pr (vI ns),qh,qh],[]]) (by simp[Au]);have go:=JW qh (vI ns) ns 0 qh qh;cases e:dH ns with
 | none=>
  obtain⟨J,Y,e1⟩:=go.1 e;refine df (s:=#[[pr (vI ns),J,Y],[]]) ?_;show gs #[[pr (vI ns),qh,qh],[]]=_;rw[gs,wR,hf];rw[show cj (okC ((ns.zipIdx 0).map λp=>D.tup [.int (p.2:Int),.int p.1]) qh) (cH (aT (aA 1) (aT (aA 2) cL)) 2) cS ((ns.zipIdx 0).map λp=>.tup [.int (p.2:Int),.int p.1]) #[[pr (vI ns),qh,qh],[]]=.next #[[pr (vI ns),J,Y],[]] from e1];rfl
 | some k=>
  obtain⟨J,Y,e1⟩:=go.2 k e;refine df (s:=#[[pr (vI ns),J,Y],[]]) ?_;show gs #[[pr (vI ns),qh,qh],[]]=_;rw[gs,wR,hf];rw[show cj (okC ((ns.zipIdx 0).map λp=>D.tup [.int (p.2:Int),.int p.1]) qh) (cH (aT (aA 1) (aT (aA 2) cL)) 2) cS ((ns.zipIdx 0).map λp=>.tup [.int (p.2:Int),.int p.1]) #[[pr (vI ns),qh,qh],[]]=.ret (.int ((0+k:Nat):Int)) #[[pr (vI ns),J,Y],[]] from e1];rw[WH];rfl
theorem OB{r:List Int}(ha:a<r.length)(J:r.length<=1000000):gK [vI r,.int (a:Int)] []=.ok (vI (ig r a),[]):=by have hc:=c7 (l:=r) (item:=D.int) (out:=λn=>.int (-n)) (caps:=[]) (im:=listI (aa 0)) (e:=unM jb (aa 0)) (k:=qh) (s:=#[[pr (vI r),pr (.int (a:Int))],[]]) (by simp) trivial ⋯ (λn _=>by simp);refine df (s:=#[[pr (vI r),pr (.int (a:Int))],[]]) ?_;by_cases h:0<nth r a;simp[lC,fY ha,h,ig];simp[lC,fY ha,h,ig,hc,wv,Uf]
theorem Hj{row lead:List Int}(h1:a<row.length)(h2:a<lead.length)(hl:row.length<=1000000)(J:∀x∈row,Tj x (nth lead a))(Y:∀y∈lead,Tj y (nth row a)):iL [vI row,vI lead,.int (a:Int)] []=.ok (vI (d4 lead a row),[]):=by refine df (s:=#[[pr (vI row),pr (vI lead),pr (.int (a:Int))],[]]) ?_;by_cases h:nth row a=0;simp[vK,fY h1,h,d4];simp[vK,fY h1,fY h2,h,d4,BR hl J Y]
theorem HU {n a b l d:Nat} {left done:List (List Int)} {x5 x6:Option D} {L:D} (hl:O[l]? =pr (.lst (left.map vI))) (hd:O[d]? =pr (.lst (done.map vI))) (a1:l≠d)
 (ll:∀r∈left,r.length=n) (dl:∀r∈done,r.length=n) (ha:a<n) (hn:n<=1000) (c1:left.length<=1000) (c2:done.length<=1000) (s1:cP b left) (s2:cP b done) (hb:b<=60000000):
 ∃O' l' d' y5 y6,kJ #[[pr L,pr (.int (n:Int)),pr (.ptr l),pr (.ptr d),pr (.int (a:Int)),x5,x6],O]=.next #[[pr L,pr (.int (n:Int)),pr (.ptr l'),pr (.ptr d'),pr (.int (a:Int)),y5,y6],O']/\
  O'[l']? =pr (.lst ((dO (left,done) a).1.map vI))/\O'[d']? =pr (.lst ((dO (left,done) a).2.map vI))/\l'≠d':=by
 have a2:jw [.ptr l,.int (a:Int)] O=.ok (vI (left.map (nth · a)),O):=BP (k:=pr l) (by rw[xX hl]) hl ⋯ λr hr=>by rw[ll r hr];exact ha
 have e5:=eX (i:=5) (cI (n:=1) (f:=di) (ma:=ae (j8 2 jw (ae (aa 2) (ae (aa 4) ak))) ak) (s:=#[[pr L,pr (.int (n:Int)),pr (.ptr l),pr (.ptr d),pr (.int (a:Int)),x5,x6],O]) (s':=#[[pr L,pr (.int (n:Int)),pr (.ptr l),pr (.ptr d),pr (.int (a:Int)),x5,x6],O]) (ds:=[vI (left.map (nth · a))]) (by rw[aW,yw (n:=2) (ds:=[.ptr l,.int (a:Int)]) (s':=#[[pr L,pr (.int (n:Int)),pr (.ptr l),pr (.ptr d),pr (.int (a:Int)),x5,x6],O]) (by simp) rfl a2];rfl) (gX _) rfl (E8 _) (by cases dH (left.map (nth · a)) <;> simp[wy]))
 unfold dO;dsimp only;cases e:dH (left.map (nth · a)) with
 | none=>
  rw[e] at e5;refine#[O,l,d,pr .non,x6, ?_,hl,hd,a1];rw[kJ,bV e5];refine Db (j5 (s':=#[[pr L,pr (.int (n:Int)),pr (.ptr l),pr (.ptr d),pr (.int (a:Int)),pr .non,x6],O]) (by simp[wy])) rfl
 | some k=>
  rw[e] at e5;obtain⟨k1,k2,_⟩:=gv e;rw[t3] at k1;have a4:(left.map vI)[k]'(by simpa using k1)=vI (left.getD k []):=by simp[re,k1]
  have ac:left.getD k []∈left:=getD_mem k1;have a5:(left.map vI).eraseIdx k=(left.eraseIdx k).map vI:=Cu _ _ _;generalize bb:left.getD k []=row at *;have rl:row.length=n:=ll row ac;have az:(ig row a).length=n:=by rw[xG,rl]
  have bw:=OB (r:=row) (a:=a) ⋯ ⋯;have bd:SzL b (ig row a):=(s1 row ac).sgn a;generalize Y:ig row a=lead at *;have clr:∀r:List Int,r.length=n->SzL b r->iL [vI r,vI lead,.int (a:Int)] []=.ok (vI (d4 lead a r),[]):=λr hr hs=>
   Hj ⋯ ⋯ ⋯ (λx hx=>EA hb (hs x hx) (bd.nth a)) (λy hy=>EA hb (bd y hy) (hs.nth a))
  have am:(O.set l (.lst ((left.eraseIdx k).map vI)))[l]? =pr (.lst ((left.eraseIdx k).map vI)):=fF hl;have an:(O.set l (.lst ((left.eraseIdx k).map vI)))[d]? =pr (.lst (done.map vI)):=by rw[cY a1];exact hd
  have e6:=eX (i:=6) (cI (n:=2) (f:=gK) (ma:=ae (Fe (aa 2) (aa 5)) (ae (aa 4) ak)) (s:=#[[pr L,pr (.int (n:Int)),pr (.ptr l),pr (.ptr d),pr (.int (a:Int)),pr (.int (k:Int)),x6],O]) (s':=#[[pr L,pr (.int (n:Int)),pr (.ptr l),pr (.ptr d),pr (.int (a:Int)),pr (.int (k:Int)),x6],O.set l (.lst ((left.eraseIdx k).map vI))]) (ds:=[vI row,.int (a:Int)]) (by rw[aW,OF (s1:=#[[pr L,pr (.int (n:Int)),pr (.ptr l),pr (.ptr d),pr (.int (a:Int)),pr (.int (k:Int)),x6],O]) (s2:=#[[pr L,pr (.int (n:Int)),pr (.ptr l),pr (.ptr d),pr (.int (a:Int)),pr (.int (k:Int)),x6],O]) (k:=l) (i:=k) (by simp) hl (by simp) hl (by simpa using k1) ⋯,a4,a5];simp) (by simp) rfl bw (by simp))
  generalize O.set l (.lst ((left.eraseIdx k).map vI))=O1 at *;have e2:=eX (i:=2) (wJ (l:=left.eraseIdx k) (item:=vI) (out:=λr=>vI (d4 lead a r)) (caps:=[4,6]) (im:=listI (aa 2)) (e:=aN 3 iL (ae (aa 0) (ae (aa 2) (ae (aa 1) ak)))) (k:=pr l) (s:=#[[pr L,pr (.int (n:Int)),pr (.ptr l),pr (.ptr d),pr (.int (a:Int)),pr (.int (k:Int)),pr (vI lead)],O1]) (qY (by simp) am) am (by have:=List.length_eraseIdx_le left k;omega) (λr hr=>by have be:=To hr;exact cI (ds:=[vI r,vI lead,.int (a:Int)]) (by simp) (by simp) rfl (clr r (ll r be) (s1 r be)) (by simp)))
  dsimp only at e2;have ap:(O1++[.lst ((left.eraseIdx k).map λr=>vI (d4 lead a r))])[d]? =pr (.lst (done.map vI)):=fm an;have bf:(O1++[.lst ((left.eraseIdx k).map λr=>vI (d4 lead a r))])[O1.length]? =pr (.lst ((left.eraseIdx k).map λr=>vI (d4 lead a r))):=jj;have b4:=oS an;have bz:(O1++[Cell.lst ((left.eraseIdx k).map λr=>vI (d4 lead a r))]).length=O1.length+1:=by simp
  generalize O1++[Cell.lst ((left.eraseIdx k).map λr=>vI (d4 lead a r))]=J at *;have e3:=eX (i:=3) (wJ (l:=done) (item:=vI) (out:=λr=>vI (d4 lead a r)) (caps:=[4,6]) (im:=listI (aa 3)) (e:=aN 3 iL (ae (aa 0) (ae (aa 2) (ae (aa 1) ak)))) (k:=pr d) (s:=#[[pr L,pr (.int (n:Int)),pr (.ptr O1.length),pr (.ptr d),pr (.int (a:Int)),pr (.int (k:Int)),pr (vI lead)],J]) (qY (by simp) ap) ap ⋯ (λr hr=>
   cI (ds:=[vI r,vI lead,.int (a:Int)]) (by simp) (by simp) rfl (clr r (dl r hr) (s2 r hr)) (by simp)))
  dsimp only at e3;have bi:(J++[.lst (done.map λr=>vI (d4 lead a r))])[O1.length]? =pr (.lst ((left.eraseIdx k).map λr=>vI (d4 lead a r))):=fm bf;have ab:(J++[.lst (done.map λr=>vI (d4 lead a r))])[J.length]? =pr (.lst (done.map λr=>vI (d4 lead a r))):=jj;generalize J++[Cell.lst (done.map λr=>vI (d4 lead a r))]=O3 at *;have e7:=cV (xf (mo:=aa 3) (me:=aa 6) (s:=#[[pr L,pr (.int (n:Int)),pr (.ptr O1.length),pr (.ptr J.length),pr (.int (a:Int)),pr (.int (k:Int)),pr (vI lead)],O3]) (s1:=#[[pr L,pr (.int (n:Int)),pr (.ptr O1.length),pr (.ptr J.length),pr (.int (a:Int)),pr (.int (k:Int)),pr (vI lead)],O3]) (s2:=#[[pr L,pr (.int (n:Int)),pr (.ptr O1.length),pr (.ptr J.length),pr (.int (a:Int)),pr (.int (k:Int)),pr (vI lead)],O3]) (k:=J.length) (d:=vI lead) (by simp) ab (by simp) ab (by simp;omega));have bm:J.length≠O1.length:=⋯;refine#[O3.set J.length (.lst ((done.map λr=>vI (d4 lead a r))++[vI lead])),O1.length,J.length,pr (.int (k:Int)),pr (vI lead), ?_, ?_, ?_,⋯];rw[kJ,bV e5];refine Db (xw (s':=#[[pr L,pr (.int (n:Int)),pr (.ptr l),pr (.ptr d),pr (.int (a:Int)),pr (.int (k:Int)),x6],O]) (by simp[wy])) ?_;refine Db (bV e6) ?_;refine Db (bV e2) ?_;refine Db (bV e3) ?_;exact e7;rw[cY bm,bi];dsimp only;rw[bb,Y,wv];rfl;rw[fF ab];dsimp only;rw[bb,Y,Fa,wv];rfl
theorem JK(hn:n<=1000)(hc:rows.length<=1000)(hl:∀r∈rows,r.length=n)(hs:cP b rows)(hb:grow b rows.length<=60000000):∃O,xh [vII rows,.int (n:Int)] []=.ok (vII (cK rows n),O):=by
 have e2:=eX (i:=2) (wJ (l:=rows) (item:=vI) (out:=λr=>vI (low r)) (caps:=[]) (im:=listI (aa 0)) (e:=aN 1 iQ (ae (aa 0) ak)) (k:=qh) (s:=#[[pr (vII rows),pr (.int (n:Int)),qh,qh,qh,qh,qh],[]]) (by simp) trivial ⋯ (λr hr=>
  cI (ds:=[vI r]) (by simp) (by simp) rfl (CB r (by rw[hl r hr];omega)) (by simp)))
 have e3:setM 3 (jk ak) #[[pr (vII rows),pr (.int (n:Int)),pr (.ptr 0),qh,qh,qh,qh],[.lst (rows.map λr=>vI (low r))]]=.next #[[pr (vII rows),pr (.int (n:Int)),pr (.ptr 0),pr (.ptr 1),qh,qh,qh],[.lst (rows.map λr=>vI (low r)),.lst []]]:=by simp
 have ab:∀a,a<=n->∃left done O l d x4 J Y,PSz n b a rows left done/\O[l]? =pr (.lst (left.map vI))/\O[d]? =pr (.lst (done.map vI))/\l≠d/\
  cj (okC (dY 0 (n:Int)) qh) (aA 4) kJ ((wh n).map λ(i:Nat)=>D.int (i:Int)) #[[pr (vII rows),pr (.int (n:Int)),pr (.ptr 0),pr (.ptr 1),qh,qh,qh],[.lst (rows.map λr=>vI (low r)),.lst []]]=
  cj (okC (dY 0 (n:Int)) qh) (aA 4) kJ (((wh n).drop a).map λ(i:Nat)=>D.int (i:Int)) #[[pr (vII rows),pr (.int (n:Int)),pr (.ptr l),pr (.ptr d),x4,J,Y],O]:=by
  intro a;induction a with
  | zero=>exact λ_=>#[rows.map low,[],_,0,1,qh,qh,qh,PSz.start hl hs,by simp,by simp,∅,rfl]
  | succ a ih=>
   intro ha;obtain⟨left,done,O,l,d,x4,J,Y,P,h1,h2,am,e⟩:=ih ⋯;have az:=P.cnt;have hb':grow b done.length<=60000000:=SE (Cj ⋯) hb;obtain⟨O',l',d',y5,y6,eb,q1,q2,q3⟩:=HU (L:=vII rows) (x5:=J) (x6:=Y) h1 h2 am P.ll P.dl (show a<n by omega) hn ⋯ ⋯ P.ls P.ds hb';refine#[_,_,O',l',d',pr (.int (a:Int)),y5,y6,P.step hl ⋯,q1,q2,q3, ?_];rw[e,S0 (by rw[Ub];omega),x0,cj,if_pos (show okC _ qh _ from trivial)];rw[List.getElem_range,DL,lH];rw[show (#[List.set [pr (vII rows),pr (.int (n:Int)),pr (.ptr l),pr (.ptr d),x4,J,Y] 4 (pr (.int (a:Int))),O]:S)=#[[pr (vII rows),pr (.int (n:Int)),pr (.ptr l),pr (.ptr d),pr (.int (a:Int)),J,Y],O] from rfl,eb]
 obtain⟨left,done,O,l,d,x4,J,Y,P,h1,h2,am,e⟩:=ab n (wS n);rw[Ut (by simp),Te,cj,if_pos (show okC _ qh _ from trivial)] at e;have hf:=d6 (im:=dB (ae (aa 1) ak)) (g:=aA 4) (body:=kJ) (s:=#[[pr (vII rows),pr (.int (n:Int)),pr (.ptr 0),pr (.ptr 1),qh,qh,qh],[.lst (rows.map λr=>vI (low r)),.lst []]]) (eC (s1:=#[[pr (vII rows),pr (.int (n:Int)),pr (.ptr 0),pr (.ptr 1),qh,qh,qh],[.lst (rows.map λr=>vI (low r)),.lst []]]) (n:=n) (by simp) ⋯);rw[show dY 0 (n:Int)=(wh n).map λ(i:Nat)=>D.int (i:Int) from fq n] at hf e;rw[e] at hf;refine kO #[#[[pr (vII rows),pr (.int (n:Int)),pr (.ptr l),pr (.ptr d),x4,J,Y],O.set d .dead], ?_];show BF #[[pr (vII rows),pr (.int (n:Int)),qh,qh,qh,qh,qh],[]]=_;rw[BF,bV e2];refine Db (bV e3) ?_;refine Db (bV hf) ?_;rw[P.done];exact bD (Gj (ag rfl) h2)
theorem Nh{lists:List (List Int)}(hn:n<=1000)(hc:lists.length<=1000)(hr:row.length=n)(hl:∀l∈lists,l.length=n)(hs:cP b lists)(an:SzL c row)(hb:b+c+10<=60000000):∃O,f6 [vII lists,vI row] []=.ok (vII (fI lists row),O):=by
 have ap:∀l∈lists,bq [vI row,vI l] []=.ok (.int (aC row l),[]):=λl h=>sY ⋯ λp hp=>by have hp':=Fk hp;exact eZ (m:=c) (n:=b) ⋯ ⋯ (an _ hp'.1) (hs l h _ hp'.2)
 have e2:=eX (i:=2) (c7 (l:=lists) (item:=vI) (out:=λl=>.int (aC row l)) (caps:=[1]) (im:=listI (aa 0)) (e:=aN 2 bq (ae (aa 1) (ae (aa 0) ak))) (k:=qh) (s:=#[[pr (vII lists),pr (vI row),qh,qh,qh,qh],[]]) (by simp) trivial ⋯ (λl h=>
  cI (ds:=[vI row,vI l]) (by simp) (by simp) rfl (ap l h) (by simp)))
 rw[show lists.map (λl=>D.int (aC row l))=(lists.map (aC row)).map D.int by rw[wv];rfl] at e2;have e3:=eX (i:=3) (cI (n:=1) (f:=di) (ma:=ae (aa 2) ak) (s:=#[[pr (vII lists),pr (vI row),pr (vI (lists.map (aC row))),qh,qh,qh],[]]) (s':=#[[pr (vII lists),pr (vI row),pr (vI (lists.map (aC row))),qh,qh,qh],[]]) (ds:=[vI (lists.map (aC row))]) (by rw[aW,ag rfl];rfl) (gX _) rfl (E8 _) (by cases dH (lists.map (aC row)) <;> simp[wy]))
 have J:jW #[[pr (vII lists),pr (vI row),qh,qh,qh,qh],[]]=(aP (ifS (a9 (ao isD (aa 3) (au .non))) (bQ (aa 0)) bX) (aP (setM 4 (ao ixD (aa 0) (aa 3))) (aP (setM 5 (ao ixD (aa 2) (aa 3))) (bQ (bF 2 [4,5,3,2] (cZ (ae (aa 0) ak)) (cH (aT (aA 0) (aT (aA 1) cL)) 2) (a9 (ao neD (aa 0) (aa 4))) (aN 4 gT (ae (aa 1) (ae (ao ixD (aa 5) (aa 0)) (ae (aa 2) (ae (aa 3) ak))))))))))
  #[[pr (vII lists),pr (vI row),pr (vI (lists.map (aC row))),pr (wy (dH (lists.map (aC row)))),qh,qh],[]]:=by
  rw[jW,bV e2];exact bV e3
 unfold fI;cases e:dH (lists.map (aC row)) with
 | none=>
  rw[e] at J;refine kO #[#[[pr (vII lists),pr (vI row),pr (vI (lists.map (aC row))),pr .non,qh,qh],[]], ?_];refine Db J (mG ?_);refine Db (xw (s':=#[[pr (vII lists),pr (vI row),pr (vI (lists.map (aC row))),pr .non,qh,qh],[]]) (by simp[wy])) ?_;exact bD (ag rfl)
 | some k=>
  rw[e] at J;obtain⟨k1,k2,_⟩:=gv e;rw[t3] at k1;have Y:lists.getD k []∈lists:=getD_mem k1;have az:nth (lists.map (aC row)) k=aC row (lists.getD k []):=by unfold nth;simp only[re,wT,ut k1];rfl
  have e4:=eX (i:=4) (m:=ao ixD (aa 0) (aa 3)) (s:=#[[pr (vII lists),pr (vI row),pr (vI (lists.map (aC row))),pr (.int (k:Int)),qh,qh],[]]) (s':=#[[pr (vII lists),pr (vI row),pr (vI (lists.map (aC row))),pr (.int (k:Int)),qh,qh],[]]) (d:=vI (lists.getD k [])) (by rw[dJ,ag rfl,aj,ag rfl,aj,Pf k1];rfl)
  have e5:=eX (i:=5) (m:=ao ixD (aa 2) (aa 3)) (s:=#[[pr (vII lists),pr (vI row),pr (vI (lists.map (aC row))),pr (.int (k:Int)),pr (vI (lists.getD k [])),qh],[]]) (s':=#[[pr (vII lists),pr (vI row),pr (vI (lists.map (aC row))),pr (.int (k:Int)),pr (vI (lists.getD k [])),qh],[]]) (d:=.int (aC row (lists.getD k []))) (by rw[dJ,ag rfl,aj,ag rfl,aj,fY (by simpa using k1),az];rfl)
  generalize ab:lists.getD k []=base at *;have bl:=hl base Y;have bs:=hs base Y;have a1:∀l∈lists,Sz (b+c+10) (aC row l):=λl h=>nG an (hs l h) (by rw[hr];exact hn);have ac:=Bh (l:=lists.zipIdx) (f:=λp=>.int (p.2:Int)) (g:=λp=>vI p.1) (p:=λp=> !decide (p.2=k)) (out:=λp=>vI (dG p.1 (aC row p.1) base (aC row base))) (caps:=[4,5,3,2]) (im:=cZ (ae (aa 0) ak)) (c:=a9 (ao neD (aa 0) (aa 4))) (e:=aN 4 gT (ae (aa 1) (ae (ao ixD (aa 5) (aa 0)) (ae (aa 2) (ae (aa 3) ak))))) (k:=qh) (s:=#[[pr (vII lists),pr (vI row),pr (vI (lists.map (aC row))),pr (.int (k:Int)),pr (vI base),pr (.int (aC row base))],[]]) (by simp[LP]) trivial (by simp;omega)
   (λp hp=>by have:((p.2:Int)=(k:Int))=(p.2=k):=propext #[λh=>⋯,λh=>⋯];simp[this])
   (λp hp _=>by
    obtain⟨i,l⟩:=(#[p.2,p.1]:Nat×List Int);have hm:=List.mem_zipIdx hp;have a2:p.2<lists.length:=⋯;have a3:p.1=lists[p.2]:=by have:=hm.2.2;simpa using this
    have am:p.1∈lists:=by rw[a3];exact NE _
    have hv:nth (lists.map (aC row)) p.2=aC row p.1:=by unfold nth;simp only[re,wT,ut a2,a3];rfl
    refine cI (ds:=[vI p.1,.int (aC row p.1),vI base,.int (aC row base)]) ?_ (by simp) rfl (BR (by rw[hl p.1 am];omega) (λx hx=>eZ (m:=b) (n:=b+c+10) ⋯ ⋯ (hs p.1 am x hx) (a1 base Y)) (λx hx=>eZ (m:=b) (n:=b+c+10) ⋯ ⋯ (bs x hx) (a1 p.1 am))) (by simp);have hx:ao ixD (aa 5) (aa 0) #[pr (.int (p.2:Int))::pr (vI p.1)::[4,5,3,2].map (λi=>(([pr (vII lists),pr (vI row),pr (vI (lists.map (aC row))),pr (.int (k:Int)),pr (vI base),pr (.int (aC row base))]:List (Option D))[i]?).getD qh),[]]=.ok (.int (aC row p.1),#[pr (.int (p.2:Int))::pr (vI p.1)::[4,5,3,2].map (λi=>(([pr (vII lists),pr (vI row),pr (vI (lists.map (aC row))),pr (.int (k:Int)),pr (vI base),pr (.int (aC row base))]:List (Option D))[i]?).getD qh),[]]):=by rw[dJ,ag rfl,aj,ag rfl,aj,fY (by simpa using a2),hv];rfl
    rw[aW,ag rfl,aj,aW,hx,aj];rfl)
  refine kO #[#[[pr (vII lists),pr (vI row),pr (vI (lists.map (aC row))),pr (.int (k:Int)),pr (vI base),pr (.int (aC row base))],[]], ?_];refine Db J ?_;refine Db (bV (s':=#[[pr (vII lists),pr (vI row),pr (vI (lists.map (aC row))),pr (.int (k:Int)),qh,qh],[]]) (Db (j5 (s':=#[[pr (vII lists),pr (vI row),pr (vI (lists.map (aC row))),pr (.int (k:Int)),qh,qh],[]]) (by simp[wy])) rfl)) ?_;refine Db (bV e4) ?_;refine Db (bV e5) ?_;refine Db (bD ac) ?_;dsimp only;rw[ab,Fp lists k (λl=>vI (dG l (aC row l) base (aC row base)))];show Out.ret (.lst _) _=Out.ret (.lst ((List.map _ _).map vI)) _;rw[wv];rfl
theorem CF(hn:n<=1000)(hc:rows.length<=1000)(hl:∀r∈rows,r.length=n)(hs:cP c rows)(hb:iU c n<=60000000):∃O,jQ [vII rows,.int (n:Int)] []=.ok (vII (bg rows n),O):=by
 have e2:=eX (i:=2) (cI (n:=1) (f:=nA) (ma:=ae (aa 1) ak) (s:=#[[pr (vII rows),pr (.int (n:Int)),qh,qh],[]]) (s':=#[[pr (vII rows),pr (.int (n:Int)),qh,qh],[]]) (ds:=[.int (n:Int)]) (by rw[aW,ag rfl];rfl) (by simp) rfl (Jv ⋯) (by simp));obtain⟨s',e,R,lists,e0,Y,hR,a1,P,h1⟩:=fj (ok:=okC (rows.map vI) qh) (g:=aA 3) (body:=rm)
  (λpre s=>∃(R lists:List (List Int)) (e:Nat) (Y:Option D),pre=R.map vI/\(∀r∈R,r∈rows)/\qe n c R lists e/\s=#[[pr (vII rows),pr (.int (n:Int)),pr (vII lists),Y],[]]) (λ_ _ _=>trivial) (rows.map vI) [] (by
   rintro pre d rest ed s ⟨R,lists,e,Y,rfl,hR,P,rfl⟩;have hd:d∈rows.map vI:=by rw[Cs] at ed;rw[ed];simp
   obtain⟨row,J,rfl⟩:=sB.mp hd;have ac:=P.cnt;have hz:=Qx (c:=c) (e:=e) (n:=n) ⋯;obtain⟨O,eo⟩:=Nh (b:=tk c e) (c:=c) hn ⋯ (hl row J) P.ll P.sz (hs row J) ⋯;obtain⟨e',P'⟩:=P.step (hl row J) (hs row J) hn;refine#[_,#[[pr (vII rows),pr (.int (n:Int)),pr (vII (fI lists row)),pr (vI row)],[]],rfl,.inl ?_,R++[row],_,e',pr (vI row),by simp, ?_,P',rfl];rw[rm];exact eX (i:=2) (cI (n:=2) (f:=f6) (ma:=ae (aa 2) (ae (aa 3) ak)) (s:=#[[pr (vII rows),pr (.int (n:Int)),pr (vII lists),pr (vI row)],[]]) (s':=#[[pr (vII rows),pr (.int (n:Int)),pr (vII lists),pr (vI row)],[]]) (ds:=[vII lists,vI row]) (by rw[aW,ag rfl,aj,aW,ag rfl];rfl) (by simp) rfl eo (by simp));intro r hr;rcases xz.mp hr with q | q
   exact hR r q;rw[ww.mp q];exact J) #[[pr (vII rows),pr (.int (n:Int)),pr (vII (dh n)),qh],[]] #[[],dh n,0,qh,rfl,by simp,qe.start n c,rfl]
 rw[Cs] at hR;have an:R=rows:=(TD (λa b h=>Qq h)).mp hR.symm;subst an;have ap:lists=mN R n:=P.eq.symm;have ac:=P.cnt;obtain⟨O,eo⟩:=JK (n:=n) (b:=tk c e0) (rows:=lists) hn ⋯ P.ll P.sz (by refine SE ?_ hb;rw[show lists.length=n-e0 by omega];exact Gk ⋯)
 have hf:=d6 (im:=listI (aa 0)) (g:=aA 3) (body:=rm) (s:=#[[pr (vII R),pr (.int (n:Int)),pr (vII (dh n)),qh],[]]) (ds:=R.map vI) (k:=qh) (s1:=#[[pr (vII R),pr (.int (n:Int)),pr (vII (dh n)),qh],[]]) (by simp);rw[e,h1] at hf;refine kO #[#[[pr (vII R),pr (.int (n:Int)),pr (vII lists),Y],[]], ?_];show By #[[pr (vII R),pr (.int (n:Int)),qh,qh],[]]=_;rw[By,bV e2];refine Db (bV hf) ?_;rw[bg,<- ap];exact bD (cI (ds:=[vII lists,.int (n:Int)]) (by rw[aW,ag rfl,aj,aW,ag rfl];rfl) (by simp) rfl eo (by simp))
def My:Option (Int×List Int)->D
 | none=>.non
 | some x=>.tup [.int x.1,vI x.2]
theorem Lh(hg:goal.length=n)(hn:n<=1000)(hc:rows.length<=900)(hl:∀r∈rows,r.length=n)(hs:cP c rows)(az:SzL c goal)(hb:iU c (1+rows.length)<=60000000):∃O,oR [vII rows,vI goal] []=.ok (My (jv rows goal),O):=by
 have Y:∀O,bh O (.lst [vI goal]) (vII rows)=.ok (vII (goal::rows)):=λO=>by rw[nO (by simp;omega)];rfl
 have e2:=eX (i:=2) (c7 (l:=wh n) (item:=λ(i:Nat)=>D.int (i:Int)) (out:=λa=>vI ((goal::rows).map (nth · a))) (caps:=[1,0]) (im:=dB (ae (a8 bY (ae (aa 1) ak)) ak)) (e:=j8 2 jw (ae (ao bh (iT (ae (aa 1) ak)) (aa 2)) (ae (aa 0) ak))) (k:=qh) (s:=#[[pr (vII rows),pr (vI goal),qh,qh],[]]) (by
  rw[eC (n:=n) (s1:=#[[pr (vII rows),pr (vI goal),qh,qh],[]]) (by simp[hg]) ⋯,fq]) trivial (nX (by rw[Ub];omega)) (λa ha=>by
  have ha':=SA.mp ha;refine yw (n:=2) (ds:=[vII (goal::rows),.int (a:Int)]) (s':=#[pr (.int (a:Int))::[1,0].map (λi=>(([pr (vII rows),pr (vI goal),qh,qh]:List (Option D))[i]?).getD qh),[]]) ?_ rfl (BP (k:=qh) rfl trivial (by simp;omega) (λr hr=>by rcases wE.mp hr with rfl | q;omega;rw[hl r q];exact ha'))
  rw[aW,dJ,GY,aW,ag (i:=1) rfl,aj,ay,aj,aj,if_pos (by simp),aj];dsimp only;rw[ag (i:=2) rfl,aj];dsimp only;rw[Y,aj];rfl))
 have ab:(wh n).map (λa=>vI ((goal::rows).map (nth · a)))=(bB rows goal).map vI:=by unfold bB;rw[hg,wv];rfl
 rw[ab] at e2;have ac:cP c (bB rows goal):=by
  intro r hr x hx;unfold bB at hr;obtain⟨a,_,rfl⟩:=sB.mp hr;obtain⟨q,hq,rfl⟩:=sB.mp hx;rcases wE.mp hq with rfl | hq
  exact az.nth a;exact(hs q hq).nth a
 have a1:(bB rows goal).length<=1000:=by unfold bB;simp;omega
 obtain⟨O3,e3⟩:=CF (n:=1+rows.length) (c:=c) (rows:=bB rows goal) ⋯ a1 gM ac hb;have e3:=eX (i:=3) (cI (n:=2) (f:=jQ) (ma:=ae (aa 2) (ae (ao bh (au (.int 1)) (a8 bY (ae (aa 0) ak))) ak)) (s:=#[[pr (vII rows),pr (vI goal),pr (vII (bB rows goal)),qh],[]]) (s':=#[[pr (vII rows),pr (vI goal),pr (vII (bB rows goal)),qh],[]]) (ds:=[vII (bB rows goal),.int ((1+rows.length:Nat):Int)]) (by rw[show ((1+rows.length:Nat):Int)=1+(rows.length:Int) by omega];simp) (by simp) rfl e3 (by simp))
 obtain⟨P,eP,pl,_⟩:=iO (n:=1+rows.length) (rows:=bB rows goal) gM;have a2:=iI (n:=1+rows.length) (R:=bB rows goal) gM;have a4:=oG (n:=1+rows.length) ⋯ gM ac;unfold jv;generalize bg (bB rows goal) (1+rows.length)=F at *;have J:u6 #[[pr (vII rows),pr (vI goal),qh,qh],[]]=(aP (ifS (orT (pb (Dk (aa 3))) (a9 (ao eqD (ao ixD (ao ixD (aa 3) (au (.int 0))) (au (.int 0))) (au (.int 0))))) (bQ (au .non)) bX) (bQ (jT (ae (ao ixD (ao ixD (aa 3) (au (.int 0))) (au (.int 0))) (ae (bF 1 [] (listI (slM (ao ixD (aa 3) (au (.int 0))) (part (au (.int 1))) gj)) (aA 0) bA (unM jb (aa 0))) ak))))) #[[pr (vII rows),pr (vI goal),pr (vII (bB rows goal)),pr (vII F)],[]]:=by rw[u6,bV e2];exact bV e3
 cases F with
 | nil=>
  refine kO #[#[[pr (vII rows),pr (vI goal),pr (vII (bB rows goal)),pr (vII [])],[]], ?_];refine Db J (mG (Db (xw (s':=#[[pr (vII rows),pr (vI goal),pr (vII (bB rows goal)),pr (vII [])],[]]) ?_) rfl));rw[vm,sU,GU,ag (i:=3) rfl,aj];rfl
 | cons x F=>
  have xl:x.length=1+rows.length:=a2 x wp;have i0:ao ixD (aa 3) (au (.int 0)) #[[pr (vII rows),pr (vI goal),pr (vII (bB rows goal)),pr (vII (x::F))],[]]=.ok (vI x,#[[pr (vII rows),pr (vI goal),pr (vII (bB rows goal)),pr (vII (x::F))],[]]):=by rw[dJ,ag (i:=3) rfl,aj,aB,aj];dsimp only;rw[show vII (x::F)=D.lst (vI x::F.map vI) from rfl,Rn];rfl
  have am:ao ixD (ao ixD (aa 3) (au (.int 0))) (au (.int 0)) #[[pr (vII rows),pr (vI goal),pr (vII (bB rows goal)),pr (vII (x::F))],[]]=.ok (.int (nth x 0),#[[pr (vII rows),pr (vI goal),pr (vII (bB rows goal)),pr (vII (x::F))],[]]):=by rw[dJ,i0,aj,aB,aj];dsimp only;rw[show (D.int 0)=D.int ((0:Nat):Int) from rfl,fY ⋯];rfl
  have an:orT (pb (Dk (aa 3))) (a9 (ao eqD (ao ixD (ao ixD (aa 3) (au (.int 0))) (au (.int 0))) (au (.int 0)))) #[[pr (vII rows),pr (vI goal),pr (vII (bB rows goal)),pr (vII (x::F))],[]]=.ok (decide (nth x 0=0),#[[pr (vII rows),pr (vI goal),pr (vII (bB rows goal)),pr (vII (x::F))],[]]):=by rw[vm,sU,GU,ag (i:=3) rfl,aj];exact eq_test am
  by_cases hz:nth x 0=0;refine kO #[#[[pr (vII rows),pr (vI goal),pr (vII (bB rows goal)),pr (vII (x::F))],[]], ?_];refine Db J (mG (Db (xw (s':=#[[pr (vII rows),pr (vI goal),pr (vII (bB rows goal)),pr (vII (x::F))],[]]) ?_) ?_));rw[an,decide_eq_true hz];dsimp only;rw[if_pos hz];rfl;have ap:cutD (x.map D.int) (pr 1) qh=(x.drop 1).map D.int:=IZ (n:=1) ⋯;have as:=c7 (l:=x.drop 1) (item:=D.int) (out:=λy=>.int (-y)) (caps:=[]) (im:=listI (slM (ao ixD (aa 3) (au (.int 0))) (part (au (.int 1))) gj)) (e:=unM jb (aa 0)) (k:=qh) (s:=#[[pr (vII rows),pr (vI goal),pr (vII (bB rows goal)),pr (vII (x::F))],[]]) (by rw[cO,Ej,i0,aj,BG,aB,aj];dsimp only;rw[aj,B3,aj];dsimp only;rw[gW];dsimp only;rw[ap,aj];rfl) trivial (by rw[U1];omega) (λy _=>by simp)
  rw[show (x.drop 1).map (λy=>D.int (-y))=((x.drop 1).map (- ·)).map D.int by rw[wv];rfl] at as;refine kO #[#[[pr (vII rows),pr (vI goal),pr (vII (bB rows goal)),pr (vII (x::F))],[]], ?_];refine Db J ?_;refine Db (bV (s':=#[[pr (vII rows),pr (vI goal),pr (vII (bB rows goal)),pr (vII (x::F))],[]]) (Db (j5 (s':=#[[pr (vII rows),pr (vI goal),pr (vII (bB rows goal)),pr (vII (x::F))],[]]) (by rw[an,decide_eq_false hz])) rfl)) ?_;dsimp only;rw[if_neg hz];refine bD ?_;rw[Bv,aW,am,aj,aW,as,aj,ay,aj,aj,aj];rfl
theorem JN{J Y:EM}{i j:Int}(h1:J s=.ok (.int i,s1))(h2:Y s1=.ok (.int j,s2)):a8 pG (ae J (ae Y ak)) s=.ok (.int (max i j),s2):=by refine dI (aw h1 (aw h2 ay)) ?_;show Res.ok (D.int (if j>i then j else i))=_;congr 2;split <;> omega
def sE(l:List (Str×Int))(g:Str)(a:Int):List (Str×Int):=if 0<a then l++[(g,a)] else l
theorem rC{h:Str}{l r:List (Str×Int)}:sumOf h (l++r)=sumOf h l+sumOf h r:=by unfold sumOf;rw[List.filter_append,Fa,Xk]
theorem Jz(h:Str)(l:List (Str×Int)):sumOf h l.reverse=sumOf h l:=by
 induction l with
 | nil=>rfl
 | cons p l J=>
  rw[List.reverse_cons,rC,J,show p::l=[p]++l from rfl,rC,Int.add_comm]
theorem Cw{h g:Str}{a:Int}:sumOf h [(g,a)]=if g=h then a else 0:=by unfold sumOf;by_cases e:g=h;rw[if_pos e,SD (by simpa using e)];simp;rw[if_neg e,SY (by simpa using e)];rfl
theorem IB{h:Str}(e:∀p∈l,p.1≠h):sumOf h l=0:=by unfold sumOf;rw[List.filter_eq_nil_iff.mpr (λp hp=>by simpa using e p hp)];rfl
theorem Gs(J:goods.Nodup)(hi:i<goods.length)(h:Pt goods i l){a:Int}:Pt goods (i+1) (sE l goods[i] a):=by unfold sE;split;exact h.more J hi ⋯;exact h.same
theorem CI(J:goods.Nodup)(hi:i<goods.length)(h:Pt goods i l){a:Int}(ha:0<=a):sumOf goods[i] (sE l goods[i] a)=a:=by
 have z:sumOf goods[i] l=0:=IB λp hp e=>by have:=h.mem p hp;rw[e] at this;exact kZ J hi this
 unfold sE;split;rw[rC,z,Cw,if_pos rfl,Int.zero_add];rw[z];omega
theorem zQ(J:goods.Nodup)(hi:i<goods.length)(Y:j<i)(l:List (Str×Int))(a:Int):sumOf (goods[j]'(⋯)) (sE l goods[i] a)=sumOf (goods[j]'(⋯)) l:=by
 have ne:goods[i]≠goods[j]'(⋯):=λe=>by have:goods[j]'(⋯)∈goods.take i:=SI (i:=j) (by rw[VY Y,ut ⋯]);exact kZ J hi (by rw[e];exact this)
 unfold sE;split;rw[rC,Cw,if_neg ne,WJ];rfl
structure WkI(goods:List Str)(mv:List Int)(i:Nat)(us ms:List (Str×Int)):Prop where
 u:Pt goods i us
 m:Pt goods i ms
 s:∀j,(hj:j<goods.length)->j<i->sumOf goods[j] ms-sumOf goods[j] us=nth mv j
abbrev woR(A:List (List Int))(goods zs:List Str)(c:Int)(x5 x6 x7 x8 x9 x10 x11:Option D):List (Option D):=[pr (vII A),pr (sD goods),pr (sD zs),pr (.int c),pr (.ptr 0),x5,x6,x7,x8,x9,x10,x11]
theorem Ar{l:List Str}(h:i<l.length):ixD O (sD l) (.int (i:Int))=.ok (.str l[i]):=by refine pY ?_;rw[qr (by simpa using h)];simp
theorem Dj{J slot i:Nat}{a:Int}(hi:i<goods.length)(h1:R[1]? =pr (pr (sD goods)))(h9:R[9]? =pr (pr (.int (i:Int))))(hs:R[slot]? =pr (pr (.ptr J)))(Y:O[J]? =pr (.lst (l.map pD)))(hl:l.length<=1000)(he:me #[R,O]=.ok (.int a,#[R,O])):
 ∃O',ifS (a9 (ao gtD me (au (.int 0)))) (dA (ir (aa slot) (jT (ae (ao ixD (aa 1) (aa 9)) (ae me ak))))) bX #[R,O]=.next #[R,O']/\O'[J]? =pr (.lst ((sE l goods[i] a).map pD))/\∀q,q≠J->O'[q]? =O[q]? :=by
 have t:=kP (j:=0) he;unfold sE;by_cases h:0<a;rw[if_pos h];refine#[O.set J (.lst (l.map pD++[pD (goods[i],a)])),jo t (decide_eq_true h) (cV (oq (ag hs) Y (pI (aw (aL (ag h1) (ag h9) (Ar hi)) (aw he ay)) (by simp)) Y (by simp;omega) rfl)),by rw[fF Y,Fa];rfl,λq hq=>cY λz=>hq z.symm];rw[if_neg h];exact#[O,eH t (decide_eq_false h) cN,Y,λ_ _=>rfl]
theorem N8{A:List (List Int)}{goods zs:List Str}{c v:Int}{k i ku km:Nat}{mv:List Int}{us ms:List (Str×Int)}{x11:Option D}(J:goods.Nodup)(hi:i<goods.length)(hg:goods.length<=100)(hv:nth mv i=v)(Y:ku≠km)(h:WkI goods mv i us ms)(hu:O[ku]? =pr (.lst (us.map pD)))(hm:O[km]? =pr (.lst (ms.map pD))):
 ∃ab ac O' an,jG #[woR A goods zs c (pr (.int (k:Int))) (pr (vI mv)) (pr (.ptr ku)) (pr (.ptr km)) (pr (.int (i:Int))) (pr (.int v)) x11,O]=.next #[woR A goods zs c (pr (.int (k:Int))) (pr (vI mv)) (pr (.ptr ku)) (pr (.ptr km)) (pr (.int (i:Int))) (pr (.int v)) an,O']/\WkI goods mv (i+1) ab ac/\O'[ku]? =pr (.lst (ab.map pD))/\O'[km]? =pr (.lst (ac.map pD))/\∀q,q≠ku->q≠km->O'[q]? =O[q]? :=by
 have p0:=ju (c:=c+(k:Int)) (t:=70+(i:Int)) (m:=4) ∅;have q0:=ju (c:=c+(k:Int)) (t:=80+(i:Int)) (m:=9) ∅;have p1:=mz (c:=c+(k:Int)) (t:=70+(i:Int)) (m:=4) ∅;have am:setM 11 (ao cG (ao gy (aN 3 aR (ae (ao bh (aa 3) (aa 5)) (ae (ao bh (au (.int 70)) (aa 9)) (ae (au (.int 4)) ak)))) (au (.int 3))) (ao bh (au (.int 1)) (aN 3 aR (ae (ao bh (aa 3) (aa 5)) (ae (ao bh (au (.int 80)) (aa 9)) (ae (au (.int 9)) ak)))))) #[woR A goods zs c (pr (.int (k:Int))) (pr (vI mv)) (pr (.ptr ku)) (pr (.ptr km)) (pr (.int (i:Int))) (pr (.int v)) x11,O]=.next #[woR A goods zs c (pr (.int (k:Int))) (pr (vI mv)) (pr (.ptr ku)) (pr (.ptr km)) (pr (.int (i:Int))) (pr (.int v)) (pr (.int (bU (c+(k:Int)) (70+(i:Int)) 4/3*(1+bU (c+(k:Int)) (80+(i:Int)) 9)))),O]:=
  bx (aL (aL (fZ (aL (ag rfl) (ag rfl) b8) (aL aB (ag rfl) b8) aB ∅) aB (xI ∅ ∅)) (aL aB (fZ (aL (ag rfl) (ag rfl) b8) (aL aB (ag rfl) b8) aB ∅) b8) (cT (fX (.inl ⋯)))) rfl
 have m0:0<=bU (c+(k:Int)) (70+(i:Int)) 4/3*(1+bU (c+(k:Int)) (80+(i:Int)) 9):=SS ⋯ ⋯;generalize bU (c+(k:Int)) (70+(i:Int)) 4/3*(1+bU (c+(k:Int)) (80+(i:Int)) 9)=m at am m0;have ul:=h.u.len;have ml:=h.m.len;obtain⟨O1,e1,g1,k1⟩:=Dj (R:=woR A goods zs c (pr (.int (k:Int))) (pr (vI mv)) (pr (.ptr ku)) (pr (.ptr km)) (pr (.int (i:Int))) (pr (.int v)) (pr (.int m))) (slot:=7) (me:=ao bh (aa 11) (a8 pG (ae (au (.int 0)) (ae (unM jb (aa 10)) ak)))) (a:=m+max 0 (-v)) hi rfl rfl rfl hu ⋯ (aL (ag rfl) (JN aB (Ib (ag rfl) tN)) b8);obtain⟨O2,e2,g2,k2⟩:=Dj (R:=woR A goods zs c (pr (.int (k:Int))) (pr (vI mv)) (pr (.ptr ku)) (pr (.ptr km)) (pr (.int (i:Int))) (pr (.int v)) (pr (.int m))) (O:=O1) (slot:=8) (me:=ao bh (aa 11) (a8 pG (ae (au (.int 0)) (ae (aa 10) ak)))) (a:=m+max 0 v) (l:=ms) hi rfl rfl rfl (by rw[k1 _ Y.symm];exact hm) ⋯ (aL (ag rfl) (JN aB (ag rfl)) b8);refine#[sE us goods[i] (m+max 0 (-v)),sE ms goods[i] (m+max 0 v),O2,pr (.int m), ?_,#[Gs J hi h.u,Gs J hi h.m,λj hj bb=> ?_],by rw[k2 _ Y];exact g1,g2,λq h1 h2=>by rw[k2 q h2,k1 q h1]];rw[jG];exact aX am (aX e1 e2);by_cases e:j=i;subst e;rw[CI J hi h.m ⋯,CI J hi h.u ⋯,hv];omega;rw[zQ J hi ⋯,zQ J hi ⋯];exact h.s j hj ⋯
theorem Mc{m:EM}(h:m s=.ok (.ptr k,#[R,O]))(hc:O[k]? =pr (.lst ds)):Ef m s=.ok (.lst ds,#[R,O.set k .dead]):=by rw[GV,h,aj];dsimp only;rw[md hc]
theorem Mi{m:EM}(h:m s=.ok (.lst ds,s1)):Ef m s=.ok (.lst ds,s1):=by rw[GV,h,aj];rfl
structure Ih(goods:List Str)(w:Wk):Prop where
 us:kQ goods w.us/\w.us.length<=100
 ms:kQ goods w.ms/\w.ms.length<=100
theorem La{A:List (List Int)}{c:Int}{mv:List Int}{W:List Wk}{x7 x8 x9 x10 x11:Option D}(nd:goods.Nodup)(hg:goods.length<=100)(hk:k<zs.length)(hl:mv.length=goods.length)(wl:W.length<=1000)(hO:O[0]? =pr (.lst (W.map wD))):
 ∃w O' y7 y8 y9 a2 az,jy #[woR A goods zs c (pr (.int (k:Int))) (pr (vI mv)) x7 x8 x9 x10 x11,O]=.next #[woR A goods zs c (pr (.int (k:Int))) (pr (vI mv)) y7 y8 y9 a2 az,O']/\O'[0]? =pr (.lst ((W++[w]).map wD))/\w.nm=zs[k]/\Ih goods w/\goods.map (chg w)=mv:=by
 have o0:0<O.length:=oS hO;have e7:setM 7 (jk ak) #[woR A goods zs c (pr (.int (k:Int))) (pr (vI mv)) x7 x8 x9 x10 x11,O]=.next #[woR A goods zs c (pr (.int (k:Int))) (pr (vI mv)) (pr (.ptr O.length)) x8 x9 x10 x11,O++[.lst []]]:=bx (qG ay (by simp) rfl rfl) rfl
 have e8:setM 8 (jk ak) #[woR A goods zs c (pr (.int (k:Int))) (pr (vI mv)) (pr (.ptr O.length)) x8 x9 x10 x11,O++[.lst []]]=.next #[woR A goods zs c (pr (.int (k:Int))) (pr (vI mv)) (pr (.ptr O.length)) (pr (.ptr (O.length+1))) x9 x10 x11,O++[.lst []]++[.lst []]]:=bx (qG ay (by simp) (by simp) rfl) rfl
 have cu:(O++[Cell.lst []]++[Cell.lst []])[O.length]? =pr (.lst (([]:List (Str×Int)).map pD)):=fm jj;have cm:(O++[Cell.lst []]++[Cell.lst []])[O.length+1]? =pr (.lst (([]:List (Str×Int)).map pD)):=by have:=jj (O:=O++[Cell.lst []]) (c:=Cell.lst []);rw[Do] at this;exact this
 have c0:(O++[Cell.lst []]++[Cell.lst []])[0]? =pr (.lst (W.map wD)):=fm (fm hO);generalize O++[Cell.lst []]++[Cell.lst []]=O1 at e8 cu cm c0;obtain⟨J,hku⟩:∃J,O.length=J:=#[_,rfl];rw[hku] at e7 e8 cu cm o0;have bb:J≠J+1:=⋯;obtain⟨s',el,us,ms,O2,ac,Y,ab,hw,hu,hm,h0,bd⟩:=fj (ok:=okC (dR (mv.map D.int)) qh) (g:=cH (aT (aA 9) (aT (aA 10) cL)) 2) (body:=jG)
  (λpre s=>∃(us ms:List (Str×Int)) (O2:aD) (x9 x10 x11:Option D),WkI goods mv pre.length us ms/\O2[J]? =pr (.lst (us.map pD))/\O2[J+1]? =pr (.lst (ms.map pD))/\O2[0]? =pr (.lst (W.map wD))/\s=#[woR A goods zs c (pr (.int (k:Int))) (pr (vI mv)) (pr (.ptr J)) (pr (.ptr (J+1))) x9 x10 x11,O2]) (λ_ _ _=>trivial) (dR (mv.map D.int)) [] (by
   rintro pre d rest ed s ⟨us,ms,O2,x9,x10,x11,h1,h2,h3,h4,rfl⟩;rw[Cs,kq] at ed;obtain⟨be,rfl⟩:=mZ ed;obtain⟨an,bf,O3,az,eb,bi,bm,bn,bp⟩:=N8 (A:=A) (goods:=goods) (zs:=zs) (c:=c) (v:=mv[pre.length]) (k:=k) (i:=pre.length) (ku:=J) (km:=J+1) (mv:=mv) (us:=us) (ms:=ms) (O:=O2) (x11:=x11) nd ⋯ hg (by unfold nth;rw[re,ut be];rfl) bb h1 h2 h3
   refine#[_,_,by rw[jx];rfl,.inl eb,an,bf,O3,_,_,_, ?_,bm,bn,by rw[bp 0 ⋯ ⋯];exact h4,rfl];rw[Do,Re];exact bi) #[woR A goods zs c (pr (.int (k:Int))) (pr (vI mv)) (pr (.ptr J)) (pr (.ptr (J+1))) x9 x10 x11,O1] #[[],[],O1,x9,x10,x11,#[#[by simp,by simp,by simp,by simp],#[by simp,by simp,by simp,by simp],λj _ h=>absurd h (by simp)],cu,cm,c0,rfl]
 rw[Cs,show (dR (mv.map D.int)).length=goods.length by rw[kq];simp[hl]] at hw;have hf:fO (cZ (ae (aa 6) ak)) (cH (aT (aA 9) (aT (aA 10) cL)) 2) jG #[woR A goods zs c (pr (.int (k:Int))) (pr (vI mv)) (pr (.ptr J)) (pr (.ptr (J+1))) x9 x10 x11,O1]=.next #[woR A goods zs c (pr (.int (k:Int))) (pr (vI mv)) (pr (.ptr J)) (pr (.ptr (J+1))) ac Y ab,O2]:=by refine(d6 (ds:=dR (mv.map D.int)) (k:=qh) (s1:=#[woR A goods zs c (pr (.int (k:Int))) (pr (vI mv)) (pr (.ptr J)) (pr (.ptr (J+1))) x9 x10 x11,O1]) ?_).trans (el.trans (by rw[bd]));rw[iA,aw (ag rfl) ay,aj]
 have as:∀an:List (Str×Int),(∀g,sumOf g an=sumOf g us)->goods.map (chg #[zs[k],an,ms])=mv:=λan hs=>by
  refine UE (by simp[hl]) λj h1 h2=> ?_;have hj:j<goods.length:=by simpa using h1
  rw[VX];show sumOf goods[j] ms-sumOf goods[j] an=_;rw[hs,hw.s j hj hj];unfold nth;rw[re,ut h2];rfl
 have b3:=hw.u.len;have b4:=hw.m.len;have t:a9 (ao eqD (aN 3 aR (ae (ao bh (aa 3) (aa 5)) (ae (au (.int 90)) (ae (au (.int 2)) ak)))) (au (.int 1))) #[woR A goods zs c (pr (.int (k:Int))) (pr (vI mv)) (pr (.ptr J)) (pr (.ptr (J+1))) ac Y ab,O2]=.ok (decide (bU (c+(k:Int)) 90 2=1),#[woR A goods zs c (pr (.int (k:Int))) (pr (vI mv)) (pr (.ptr J)) (pr (.ptr (J+1))) ac Y ab,O2]):=eq_test (fZ (aL (ag rfl) (ag rfl) b8) aB aB ∅);generalize bU (c+(k:Int)) 90 2=p at t;by_cases hp:p=1;have er:Ek Ho (aa 7) gj gj (part (unM jb (au (.int 1)))) #[woR A goods zs c (pr (.int (k:Int))) (pr (vI mv)) (pr (.ptr J)) (pr (.ptr (J+1))) ac Y ab,O2]=.ok (psD us.reverse,#[woR A goods zs c (pr (.int (k:Int))) (pr (vI mv)) (pr (.ptr J)) (pr (.ptr (J+1))) ac Y ab,O2]):=by unfold Ek;rw[ag (i:=7) rfl,aj];dsimp only;rw[qC,aj];dsimp only;rw[qC,aj];dsimp only;rw[zZ (Ib aB tN),aj];dsimp only;rw[jg hu];dsimp only;rw[if_neg ∅,K0,<- W5];rfl
 refine#[#[zs[k],us.reverse,ms],(O2.set (J+1) .dead).set 0 (.lst (W.map wD++[wD #[zs[k],us.reverse,ms]])),pr (psD us.reverse),pr (.ptr (J+1)),ac,Y,ab, ?_,(by rw[Fa];exact fF (c':=.lst (W.map wD)) (by rw[cY ⋯];exact h0)),rfl,#[#[hw.u.parts.rev,by simp;omega],#[hw.m.parts,by show ms.length<=100;omega]],as _ λg=>Jz g us];rw[jy];refine aX e7 (aX e8 (aX hf (aX (jo t (decide_eq_true hp) (bx (R':=woR A goods zs c (pr (.int (k:Int))) (pr (vI mv)) (pr (psD us.reverse)) (pr (.ptr (J+1))) ac Y ab) er rfl)) (cV (oq (ag rfl) h0 (pI (aw (aL (ag rfl) (ag rfl) (Ar hk)) (aw (Mi (ag rfl)) (aw (ot (ag rfl) hm rfl) ay))) (by simp)) (by rw[cY ⋯];exact h0) (by simp;omega) rfl)))));refine#[#[zs[k],us,ms],((O2.set J .dead).set (J+1) .dead).set 0 (.lst (W.map wD++[wD #[zs[k],us,ms]])),pr (.ptr J),pr (.ptr (J+1)),ac,Y,ab, ?_,(by rw[Fa];exact fF (c':=.lst (W.map wD)) (by rw[cY ⋯,cY ⋯];exact h0)),rfl,#[#[hw.u.parts,by show us.length<=100;omega],#[hw.m.parts,by show ms.length<=100;omega]],as _ λg=>rfl];rw[jy];refine aX e7 (aX e8 (aX hf (aX (eH t (decide_eq_false hp) cN) (cV (oq (ag rfl) h0 (pI (aw (aL (ag rfl) (ag rfl) (Ar hk)) (aw (Mc (ag rfl) hu) (aw (ot (ag rfl) (by rw[cY ⋯];exact hm) rfl) ay))) (by simp)) (by rw[cY ⋯,cY ⋯];exact h0) (by simp;omega) rfl)))))
theorem IV(c:Int)(nd:goods.Nodup)(hg:goods.length<=100)(ha:∀l∈A,l.length=goods.length)(hz:A.length<=zs.length)(al:A.length<=100):
 ∃ws O,iN [vII A,sD goods,sD zs,.int c] []=.ok (wsD ws,O)/\ws.map (·.nm)=zs.take A.length/\(∀w∈ws,Ih goods w)/\ws.map (λw=>goods.map (chg w))=A:=by
 obtain⟨s',el,W,O,x5,x6,x7,x8,x9,J,Y,h1,h2,h3,hO,az⟩:=fj (ok:=okC (dR (A.map vI)) qh) (g:=cH (aT (aA 5) (aT (aA 6) cL)) 2) (body:=jy)
  (λpre s=>∃(W:List Wk) (O:aD) (x5 x6 x7 x8 x9 J Y:Option D),W.map (·.nm)=zs.take pre.length/\(∀w∈W,Ih goods w)/\W.map (λw=>goods.map (chg w))=A.take pre.length/\O[0]? =pr (.lst (W.map wD))/\s=#[woR A goods zs c x5 x6 x7 x8 x9 J Y,O]) (λ_ _ _=>trivial) (dR (A.map vI)) [] (by
   rintro pre d rest ed s ⟨W,O,x5,x6,x7,x8,x9,J,Y,h1,h2,h3,h4,rfl⟩;rw[Cs,kq] at ed;obtain⟨a1,rfl⟩:=mZ ed;have wl:W.length<=1000:=by have:=congrArg TH h3;simp at this;omega
   obtain⟨w,O',y7,y8,y9,bm,bn,eb,a2,n1,mk,ch⟩:=La (A:=A) (goods:=goods) (zs:=zs) (c:=c) (k:=pre.length) (mv:=A[pre.length]) (W:=W) (O:=O) (x7:=x7) (x8:=x8) (x9:=x9) (x10:=J) (x11:=Y) nd hg ⋯ (ha _ (NE _)) wl h4;refine#[_,_,by rw[jx];rfl,.inl eb,W++[w],O',_,_,_,_,_,_,_, ?_,λz a3=> ?_, ?_,a2,rfl];rw[Do,Re,Fa,h1,x0,Te,n1,Uw,ut ⋯];rfl;rcases xz.mp a3 with q | q
   exact h2 z q;rw[ww.mp q];exact mk;rw[Do,Re,Fa,h3,x0,Te,ch,Uw,ut a1];rfl) #[woR A goods zs c qh qh qh qh qh qh qh,[.lst []]] #[[],[.lst []],qh,qh,qh,qh,qh,qh,qh,by simp,by simp,by simp,rfl,rfl]
 have a4:(([]:List D)++dR (A.map vI)).length=A.length:=by rw[Cs,kq];simp
 rw[a4] at h1 h3;rw[List.take_length] at h3;refine#[W,O.set 0 .dead, ?_,h1,h2,h3];refine dS (R:=woR A goods zs c x5 x6 x7 x8 x9 J Y) ?_;show sr #[[pr (vII A),pr (sD goods),pr (sD zs),pr (.int c),qh,qh,qh,qh,qh,qh,qh,qh],[]]=_;rw[sr];refine aX (bx (R':=woR A goods zs c qh qh qh qh qh qh qh) (qG ay (by simp) rfl rfl) rfl) (aX ?_ (bD (ot (ag rfl) hO rfl)));refine(d6 (ds:=dR (A.map vI)) (k:=qh) (s1:=#[woR A goods zs c qh qh qh qh qh qh qh,[.lst []]]) ?_).trans (el.trans (by rw[az]));rw[iA,aw (ag rfl) ay,aj];rfl
theorem PY(h:R[i]? =pr (pr (yD goods ws)))(hd:rH f FN (yDs goods ws)=pr d):oa 0 f (aa i) #[R,O]=.ok (d,#[R,O]):=QF (ag h) hd
theorem M8:aU [yD goods ws]=true:=by show (aU (yDs goods ws)&&ss)=ss;rw[eJ];rfl
theorem mP(h:aU ds=ss):aU (yD goods ws::ds)=true:=by show (aU (yDs goods ws)&&aU ds)=ss;rw[eJ,h];rfl
theorem rD(goods:List Str)(h:ws.length<=1000):eO [yD goods ws] []=.ok (sD (ws.map (·.nm)),[]):=by refine dS (R:=[pr (yD goods ws)]) ?_;show eN #[[pr (yD goods ws)],[]]=_;rw[eN];have e:=c7 (l:=ws) (item:=wD) (out:=λw=>.str w.nm) (caps:=[]) (im:=listI (oa 0 "held_works" (aa 0))) (e:=ao ixD (aa 0) (au (.int 0))) (k:=qh) (s:=#[[pr (yD goods ws)],[]]) (by rw[cO,PY (i:=0) rfl rfl,aj];rfl) trivial ⋯ (λw _=>aL (ag rfl) aB rfl);rw[show ws.map (λw=>D.str w.nm)=(ws.map (·.nm)).map D.str by rw[wv];rfl] at e;exact bD e
abbrev chL(goods:List Str)(ws:List Wk):List (List Int):=ws.map λw=>goods.map (chg w)
theorem DI(h:R[i]? =pr (pr (yD goods ws)))(hd:rH f FN (yDs goods ws)=pr d):oa 0 f (aa i) #[R,O]=.ok (d,#[R,O]):=by rw[GX,ag h,aj];dsimp only;rw[if_pos rfl,hd]
def jY(goods:List Str)(ws:List Wk)(k:Nat):List Int:=ws.map λw=>nth (goods.map (chg w)) k
theorem Px(hk:k<goods.length)(h2:ws.length<=1000):ni [yD goods ws,.int (k:Int)] []=.ok (vI (jY goods ws k),[]):=by
 have hc:=c7 (l:=ws.map λw=>goods.map (chg w)) (item:=vI) (out:=λr=>.int (nth r k)) (caps:=[1]) (im:=listI (oa 0 "held_changes" (aa 0))) (e:=ao ixD (aa 0) (aa 1)) (k:=qh) (s:=#[[pr (yD goods ws),pr (.int (k:Int))],[]]) (by
  rw[cO,DI (d:=vII (ws.map λw=>goods.map (chg w))) rfl (by rfl)];rfl) trivial (by rw[t3];omega) (λr hr=>by
  obtain⟨w,_,rfl⟩:=sB.mp hr;rw[dJ,ag (i:=0) rfl,aj,ag (i:=1) rfl,aj];dsimp only;rw[fY (by rw[t3];exact hk)];rfl)
 rw[show (ws.map λw=>goods.map (chg w)).map (λr=>D.int (nth r k))=(jY goods ws k).map D.int by unfold jY;rw[wv,wv];rfl] at hc;refine df (s:=#[[pr (yD goods ws),pr (.int (k:Int))],[]]) ?_;show nj #[[pr (yD goods ws),pr (.int (k:Int))],[]]=_;rw[nj];exact bD hc
def cC(goods:List Str)(ws:List Wk):List (List Int):=(wh goods.length).map (jY goods ws)
theorem xt(h1:goods.length<=1000)(h2:ws.length<=1000):ee [yD goods ws] []=.ok (vII (cC goods ws),[]):=by
 have hc:=c7 (l:=wh goods.length) (item:=λ(i:Nat)=>D.int (i:Int)) (out:=λk=>vI (jY goods ws k)) (caps:=[0]) (im:=dB (ae (a8 bY (ae (oa 0 "held_goods" (aa 0)) ak)) ak)) (e:=methP 0 "row" 1 ni (aa 1) (ae (aa 0) ak)) (k:=qh) (s:=#[[pr (yD goods ws)],[]]) (by
  rw[eC (n:=goods.length) (s1:=#[[pr (yD goods ws)],[]]) (by rw[aW,gU,aW,DI (d:=sD goods) rfl (by rfl),aj,ay,aj,aj];dsimp only;rw[eG,t3];rfl) ⋯,fq]) trivial (nX (by rw[Ub];omega)) (λk hk=>
  tV (ns:=FN) (ds:=yDs goods ws) (args:=[.int (k:Int)]) (ag rfl) ∅ eJ (by rw[aW,ag (i:=0) rfl];rfl) (by simp) rfl (Px (SA.mp hk) h2) (by generalize jY goods ws k=r;simp))
 rw[show (wh goods.length).map (λk=>vI (jY goods ws k))=(cC goods ws).map vI by unfold cC;rw[wv];rfl] at hc;refine df (s:=#[[pr (yD goods ws)],[]]) ?_;show fE #[[pr (yD goods ws)],[]]=_;rw[fE];exact bD hc
theorem Qm(J:way.length=ws.length)(h2:ws.length<=1000)(h0:∀t∈way,0<=t):g6 [yD goods ws,vI way] []=.ok (.non,[]):=by
 refine lj (s:=#[[pr (yD goods ws),pr (vI way)],[]]) ?_;show ip #[[pr (yD goods ws),pr (vI way)],[]]=_;rw[ip];have hc:=c7 (l:=way) (item:=D.int) (out:=λt=>.bl (decide (t<0))) (caps:=[]) (im:=listI (aa 1)) (e:=ao ltD (aa 0) (au (.int 0))) (k:=qh) (s:=#[[pr (yD goods ws),pr (vI way)],[]]) (by rw[cO,ag (i:=1) rfl];rfl) trivial ⋯ (λt _=>by rw[dJ,ag (i:=0) rfl,aj,aB,aj];rfl)
 rw[show way.map (λt=>D.bl (decide (t<0)))=(way.map λt=>decide (t<0)).map D.bl by rw[wv];rfl] at hc;refine Db (bV (Db (j5 (s':=#[[pr (yD goods ws),pr (vI way)],[]]) ?_) rfl)) (Db (j5 (s':=#[[pr (yD goods ws),pr (vI way)],[]]) ?_) rfl);rw[gZ,dJ,gU,aW,ag (i:=1) rfl,aj,ay,aj,aj];dsimp only;rw[eG,aj,aj,gU,aW,DI (d:=wsD ws) rfl (by rfl),aj,ay,aj,aj];dsimp only;rw[eG,aj,aj];dsimp only;rw[t3,t3,pV,J,decide_eq_true rfl];rfl;rw[gZ,gU,aW,hc,aj,ay,aj,aj];dsimp only;rw[zy,show (way.map λt=>decide (t<0)).any id=xL by rw[V0,VC];intro t Y;simp[h0 t Y]]
 rfl
def lvL(goods:List Str)(ws:List Wk)(way:List Int):List Int:=(cC goods ws).map λr=>aC r way
structure HY(goods:List Str)(ws:List Wk)(way:List Int):Prop where
 ok:∀w∈ws,∀g∈goods,∀t∈way,Tj (chg w g) t
theorem Bd(hk:k<goods.length){x:Int}(h:x∈jY goods ws k):∃w∈ws,∃g∈goods,x=chg w g:=by unfold jY at h;obtain⟨w,J,rfl⟩:=sB.mp h;have hm:=eI (r:=goods.map (chg w)) (i:=k) (by rw[t3];exact hk);obtain⟨g,Y,e⟩:=sB.mp hm;exact#[w,J,g,Y,e.symm]
theorem uF(Y:way.length=ws.length)(h1:goods.length<=1000)(h2:ws.length<=1000)(h0:∀t∈way,0<=t)(hm:HY goods ws way):dU [yD goods ws,vI way] []=.ok (vI (lvL goods ws way),[]):=by
 have pv:aU [vI way]=true:=gX way;have e1:=cV (tV (c:=0) (m:="check_way") (n:=1) (f:=g6) (mo:=aa 0) (ma:=ae (aa 1) ak) (s:=#[[pr (yD goods ws),pr (vI way)],[]]) (s1:=#[[pr (yD goods ws),pr (vI way)],[]]) (s2:=#[[pr (yD goods ws),pr (vI way)],[]]) (ns:=FN) (ds:=yDs goods ws) (args:=[vI way]) (ag rfl) ∅ eJ (by rw[aW,ag (i:=1) rfl];rfl) pv rfl (Qm Y h2 h0) (by simp));have hr:=tV (c:=0) (m:="rows") (n:=0) (f:=ee) (mo:=aa 0) (ma:=ak) (s:=#[[pr (yD goods ws),pr (vI way)],[]]) (s1:=#[[pr (yD goods ws),pr (vI way)],[]]) (s2:=#[[pr (yD goods ws),pr (vI way)],[]]) (ns:=FN) (ds:=yDs goods ws) (args:=[]) (ag rfl) ∅ eJ rfl rfl rfl (xt h1 h2) (by generalize cC goods ws=r;simp);have hc:=c7 (l:=cC goods ws) (item:=vI) (out:=λr=>.int (aC r way)) (caps:=[1]) (im:=listI (methP 0 "rows" 0 ee (aa 0) ak)) (e:=aN 2 bq (ae (aa 0) (ae (aa 1) ak))) (k:=qh) (s:=#[[pr (yD goods ws),pr (vI way)],[]]) (by rw[cO,hr];rfl) trivial (by unfold cC;rw[t3,Ub];omega) (λr J=>by unfold cC at J;obtain⟨k,hk,rfl⟩:=sB.mp J;refine cI (ds:=[vI (jY goods ws k),vI way]) (by rw[aW,ag (i:=0) rfl,aj,aW,ag (i:=1) rfl];rfl) (by generalize jY goods ws k=r;simp) rfl (sY (by unfold jY;rw[t3];omega) λp hp=> ?_) (by simp);have hp':=Fk hp;obtain⟨w,hw,g,hg,e⟩:=Bd (SA.mp hk) hp'.1;rw[e];exact hm.ok w hw g hg p.2 hp'.2)
 rw[show (cC goods ws).map (λr=>D.int (aC r way))=(lvL goods ws way).map D.int by unfold lvL;rw[wv];rfl] at hc;refine df (s:=#[[pr (yD goods ws),pr (vI way)],[]]) ?_;show gJ #[[pr (yD goods ws),pr (vI way)],[]]=_;rw[gJ,bV e1];exact bD hc
theorem Mp{a b:Int}(hb:0<b):pX [.int a,.int b] []=.ok (.tup [.int (rat a b).1,.int (rat a b).2],[]):=by have hg:0<SF a b:=Vn a ⋯;have J:¬b<0:=⋯;have Y:∀(i:Nat) (x:Int) {R:List (Option D)},R[i]? =pr (pr (.int x))->aN 1 gd (ae (aa i) ak) #[R,[]]=.ok (.bl ss,#[R,[]]):=λi x R hR=>cX (aw (ag hR) ay) (AB x) (by simp) rfl rfl;refine dS (R:=[pr (.int a),pr (.int b),pr (.int (SF a b:Nat))]) ?_;show Bm #[[pr (.int a),pr (.int b),qh],[]]=_;rw[Bm];refine aX (eH (C9 (C7 (d7 (Y 0 a rfl))) rfl (C7 (d7 (Y 1 b rfl)))) rfl cN) (aX (eH (eq_test (ag rfl)) (decide_eq_false ⋯) cN) (aX (bx (cX (aw (ag rfl) (aw (ag rfl) ay)) (mot a b) (by simp) rfl rfl) rfl) (aX (eH (d7 (aL (ag rfl) aB iX)) (decide_eq_false J) cN) ?_)));refine bD (pI (aw (aL (ag rfl) (ag rfl) (d:=.int (rat a b).1) ?_) (aw (aL (ag rfl) (ag rfl) (d:=.int (rat a b).2) ?_) ay)) (by simp));rw[mL ⋯];unfold rat;rw[if_neg J];rw[mL ⋯];unfold rat;rw[if_neg J]
theorem Mt(h:qw n rows)(J:fit.length=n)(h0:∀a∈fit,0<=a)(hs:∀r∈rows,aC r fit=0)(hz:SzL c fit)(hc:c<=1000000):oB [vII rows,.int (n:Int),vI fit] []=.ok (.non,[]):=by
 have n7:=h.n7;have e1:=c7 (l:=fit) (item:=D.int) (out:=λ_=>.bl xL) (caps:=[]) (im:=listI (aa 2)) (e:=ao ltD (aa 0) (au (.int 0))) (k:=qh) (s:=#[[pr (vII rows),pr (.int (n:Int)),pr (vI fit)],[]]) (by rw[cO,ag (i:=2) rfl,aj];rfl) trivial ⋯ (λa ha=>by refine aL (ag rfl) aB ?_;rw[iX,decide_eq_false (by have:=h0 a ha;omega)])
 rw[show fit.map (λ_=>D.bl xL)=(fit.map λ_=>xL).map D.bl by rw[wv];rfl] at e1;have e2:=c7 (l:=rows) (item:=vI) (out:=λ_=>.bl xL) (caps:=[2]) (im:=listI (aa 0)) (e:=ao neD (aN 2 bq (ae (aa 0) (ae (aa 1) ak))) (au (.int 0))) (k:=qh) (s:=#[[pr (vII rows),pr (.int (n:Int)),pr (vI fit)],[]]) (by rw[cO,ag (i:=0) rfl,aj];rfl) trivial (by have:=h.cnt;omega) (λr hr=>by have rl:=h.len r hr;refine aL (cX (aw (ag rfl) (aw (ag rfl) ay)) (sY (a:=r) (b:=fit) ⋯ (λp hp=>eZ (m:=200) (n:=c) ∅ ⋯ (h.sz r hr _ (Fk (a:=p.1) (b:=p.2) hp).1) (hz _ (Fk (a:=p.1) (b:=p.2) hp).2))) (by simp) rfl rfl) aB ?_;rw[pV,hs r hr];rfl)
 rw[show rows.map (λ_=>D.bl xL)=(rows.map λ_=>xL).map D.bl by rw[wv];rfl] at e2;refine Il (R:=[pr (vII rows),pr (.int (n:Int)),pr (vI fit)]) ?_;show sv #[[pr (vII rows),pr (.int (n:Int)),pr (vI fit)],[]]=_;rw[sv];refine aX (eH (d7 (aL (dI (aw (ag rfl) ay) eG) (ag rfl) pV)) ?_ cN) (aX (eH (d7 (dI (aw e1 ay) zy)) ?_ cN) (eH (d7 (dI (aw e2 ay) zy)) ?_ cN));rw[t3,J];simp;simp;simp
abbrev tiR(left y:List Int)(b:Nat)(J Y:Option D):List (Option D):=[pr (vI left),pr (vI y),pr (.int (b:Int)),J,Y]
theorem DM{left y:List Int}{c:Nat}(hl:left.length=y.length)(hz:SzL c left)(hy:SzL 8000 y)(hc:c<=1000000)(K:List D):∀(l:List Int) (k b:Nat) (Y x4:Option D),(∀i,i<l.length->nth y (k+i)=nth l i)->k+l.length=y.length->b<y.length->0<nth y b->(∀i,i<k->0<nth y i->nth left b*nth y i<=nth left i*nth y b)->
 ∃b' y3 y4,cj (okC K qh) (cH (aT (aA 3) (aT (aA 4) cL)) 2) eV ((l.zipIdx k).map λp=>.tup [.int (p.2:Int),.int p.1]) #[tiR left y b Y x4,[]]=.next #[tiR left y b' y3 y4,[]]/\b'<y.length/\0<nth y b'/\∀i,i<y.length->0<nth y i->nth left b'*nth y i<=nth left i*nth y b'
 | [],k,b,Y,x4,_,hk,hb,hp,hm=>#[b,Y,x4,by rw[List.zipIdx_nil,Te,cj,if_pos (show okC K qh _ from trivial)],hb,hp,λi hi=>hm i (by simp at hk;omega)]
 | v::l,k,b,Y,x4,hv,hk,hb,hp,hm=>by
  rw[AC] at hk;have ev:nth y k=v:=by have:=hv 0 (by simp);rw[WE] at this;exact this
  have ap:∀i,i<l.length->nth y (k+1+i)=nth l i:=λi hi=>by have:=hv (i+1) (by simp;omega);rw[show k+1+i=k+(i+1) by omega,this];rfl
  have kl:k<y.length:=⋯;have t1:a9 (ao gtD (aa 4) (au (.int 0))) #[tiR left y b (pr (.int (k:Int))) (pr (.int v)),[]]=.ok (decide (0<v),#[tiR left y b (pr (.int (k:Int))) (pr (.int v)),[]]):=kP (ag rfl);have t2:a9 (ao ltD (ao cG (ao ixD (aa 0) (aa 3)) (ao ixD (aa 1) (aa 2))) (ao cG (ao ixD (aa 0) (aa 2)) (aa 4))) #[tiR left y b (pr (.int (k:Int))) (pr (.int v)),[]]=.ok (decide (nth left k*nth y b<nth left b*v),#[tiR left y b (pr (.int (k:Int))) (pr (.int v)),[]]):=by refine d7 (aL (aL (aL (ag rfl) (ag rfl) (fY ⋯)) (aL (ag rfl) (ag rfl) (fY hb)) (cT ?_)) (aL (aL (ag rfl) (ag rfl) (fY ⋯)) (ag rfl) (cT ?_)) iX);exact eZ (m:=c) (n:=8000) ⋯ ∅ (hz _ (eI ⋯)) (hy _ (eI hb));exact eZ (m:=c) (n:=8000) ⋯ ∅ (hz _ (eI ⋯)) (by rw[<- ev];exact hy _ (eI kl))
  rw[UG,x0];have step:∀J:Nat,eV #[tiR left y b (pr (.int (k:Int))) (pr (.int v)),[]]=.next #[tiR left y J (pr (.int (k:Int))) (pr (.int v)),[]]->J<y.length->0<nth y J->(∀i,i<k+1->0<nth y i->nth left J*nth y i<=nth left i*nth y J)->(∃b' y3 y4,cj (okC K qh) (cH (aT (aA 3) (aT (aA 4) cL)) 2) eV (D.tup [.int (k:Int),.int v]::((l.zipIdx (k+1)).map λp=>.tup [.int (p.2:Int),.int p.1])) #[tiR left y b Y x4,[]]=.next #[tiR left y b' y3 y4,[]]/\b'<y.length/\0<nth y b'/\∀i,i<y.length->0<nth y i->nth left b'*nth y i<=nth left i*nth y b'):=λJ e h1 h2 h3=>by obtain⟨b',y3,y4,e',q1,q2,q3⟩:=DM hl hz hy hc K l (k+1) J (pr (.int (k:Int))) (pr (.int v)) ap ⋯ h1 h2 h3;exact#[b',y3,y4,Db (kN (s1:=#[tiR left y b (pr (.int (k:Int))) (pr (.int v)),[]]) (s2:=#[tiR left y J (pr (.int (k:Int))) (pr (.int v)),[]]) trivial (by rw[jx];rfl) e) e',q1,q2,q3]
  have split:∀i,i<k+1->i<k\/i=k:=λi hi=>⋯;by_cases h1:0<v;by_cases h2:nth left k*nth y b<nth left b*v;refine step k ?_ kl (by rw[ev];exact h1) λi hi hp'=> ?_;rw[eV];exact jo (Jm t1 (decide_eq_true h1) t2) (decide_eq_true h2) (bx (ag rfl) rfl);rcases split i hi with q | rfl
  rw[ev];exact rT (a:=nth left k) (b:=v) (c:=nth left b) (d:=nth y b) (e:=nth left i) (f:=nth y i) h1 hp hp' ⋯ (hm i q hp');exact Wg _;refine step b ?_ hb hp λi hi hp'=> ?_;rw[eV];exact eH (Jm t1 (decide_eq_true h1) t2) (decide_eq_false h2) cN;rcases split i hi with q | rfl
  exact hm i q hp';rw[ev];omega;refine step b ?_ hb hp λi hi hp'=> ?_;rw[eV];exact eH (Qe t1 (decide_eq_false h1)) rfl cN;rcases split i hi with q | rfl
  exact hm i q hp';rw[ev] at hp';omega
theorem Lg(Y:left.length=y.length)(hz:SzL c left)(hy:SzL 8000 y)(hc:c<=1000000)(h0:∀i,0<=nth y i)(J:∃i,nth y i≠0)(ab:y.length<=1000):∃a:Nat,hE [vI left,vI y] []=.ok (.int (a:Int),[])/\a<y.length/\Tight left y a:=by
 obtain⟨b,eb⟩:∃b,dH y=pr b:=by
  cases e:dH y with
  | some b=>exact#[b,rfl]
  | none=>
   obtain⟨i,hi⟩:=J;have:=m4 e (nth y i) (eI (by by_cases q:i<y.length;exact q;exact absurd (dX ⋯) hi))
   exact absurd this hi
 obtain⟨b1,b2,_⟩:=gv eb;have fn:=E8 y;rw[eb] at fn;obtain⟨b',y3,y4,e,q1,q2,q3⟩:=DM Y hz hy hc ((y.zipIdx 0).map λp=>.tup [.int (p.2:Int),.int p.1]) y 0 b qh qh (λi _=>by rw[WH]) ⋯ b1 (by have:=h0 b;omega) (λi hi=>absurd hi ⋯);refine#[b', ?_,q1,q2,λi hi=>q3 i (by by_cases q:i<y.length;exact q;rw[dX ⋯] at hi;omega) hi]
 refine dS (R:=tiR left y b' y3 y4) ?_;show mI #[[pr (vI left),pr (vI y),qh,qh,qh],[]]=_;rw[mI];refine aX (bx (R':=tiR left y b qh qh) (cX (aw (ag rfl) ay) fn (by simp) rfl rfl) rfl) (aX ?_ (bD (ag rfl)));refine(d6 (im:=cZ (ae (aa 1) ak)) (ds:=(y.zipIdx 0).map λp=>.tup [.int (p.2:Int),.int p.1]) (k:=qh) (s1:=#[tiR left y b qh qh,[]]) ?_).trans e;rw[iA,aW,ag (i:=1) rfl,aj,ay,aj,aj];dsimp only;rw[Au]
theorem Ik{y l:List Int}(hy:y.length=n)(J:l.length=n)(ny:∀i,0<=nth y i)(Y:∀i,0<=nth l i):decide (dj y|||dj l=dj l)=ss↔Sub y l:=by have:=bits_sub hy J J ny Y Y;rw[Nat.or_self] at this;rw[this,tI hy];exact#[λh i hi=>(h i hi).elim id id,λh i hi=>.inl (h i hi)]
theorem jl{V:List (List Int)}:(rA V).Perm V:=by unfold rA;have:=(iE (V.map λx=>((),x))).map (·.2);rw[wv,show ((λx:Unit×List Int=>x.2)∘λx=>((),x))=id from rfl,List.map_id] at this;exact this
theorem DC{m:AM}{x y:D}{as bs:List D}(h:m s=.ok ([x,y],s1))(h1:lsD s1.o x=pr as)(h2:lsD s1.o y=pr bs):tx m s=.ok ((mn as bs,λO=>lsD O x=pr as/\lsD O y=pr bs),s1):=by unfold tx;rw[h,aj];dsimp only;rw[h1,h2]
theorem Ba {α:Type} {l:List α} {f g out:α->D} {caps:List Nat} {im:IX} {e:EM} {ok:aD->Prop} (J:im s=.ok ((l.map (λa=>D.tup [f a,g a]),ok),s)) (Y:ok s.o) (hl:l.length<=16777216)
 (he:∀a∈l,e #[pr (f a)::pr (g a)::caps.map (λi=>(s.r[i]?).getD qh),s.o]=.ok (out a,#[pr (f a)::pr (g a)::caps.map (λi=>(s.r[i]?).getD qh),s.o])):
 p9 2 caps im (cH (aT (aA 0) (aT (aA 1) cL)) 2) bA e s=.ok (.lst (l.map out),s):=by
 obtain⟨s',e1,x,y,h1⟩:=sm (ok:=ok) (g:=cH (aT (aA 0) (aT (aA 1) cL)) 2) (c:=bA) (e:=e) (O:=s.o) Y (λa=>D.tup [f a,g a]) (λs2=>∃x y,s2=#[x::y::caps.map (λi=>(s.r[i]?).getD qh),s.o]) (by rintro _ ⟨_,_,rfl⟩;rfl) l (λ_=>ss) out (by rintro a ha _ ⟨x,y,rfl⟩;exact#[_,_,by simp,rfl,λ_=>#[_,_,rfl],λ_=>#[_,he a ha,_,_,rfl]]) [] #[o6 2 caps s.r,s.o] (by simpa using hl) #[qh,qh,rfl]
 unfold p9 zN;rw[J,aj];dsimp only;rw[e1,aj,aj];subst h1;rw[og];rfl
abbrev Tl:Type:=(Int×Int)×(Nat×List Int)
def tD(s:Tl):D:=.tup [.tup [.int s.1.1,.int s.1.2],.ptr s.2.1]
def unp(s:Tl):Sh:=(s.1,s.2.2)
abbrev sR(rows:List (List Int))(n:Nat)(fit left:List Int)(bot:Int)(x6 x7 x8 x9:Option D):List (Option D):=[pr (vII rows),pr (.int (n:Int)),pr (vI fit),pr (.ptr 0),pr (vI left),pr (.int bot),x6,x7,x8,x9]
structure SIv(Q:List (Nat×List Int))(T:List Tl)(O:aD):Prop where
 told:O[0]? =pr (.lst (T.map tD))
 s:Sto O Q
 n0:∀p∈Q,p.1≠0
 m:∀s∈T,s.2∈Q
theorem pU(h:O[k]? =pr (.lst (y.map D.int)))(hi:i<y.length):ixD O (.ptr k) (.int (i:Int))=.ok (.int (nth y i)):=by refine ED h ?_;rw[qr (by simpa using hi)];simp[nth,re,hi]
theorem G4(x:List Int):cnt x<=x.length:=Uz _ _
theorem F8 {n:Nat} {rows:List (List Int)} {fit:List Int} {c:Nat} {Q:List (Nat×List Int)} {pre:List (List Int)} {T:List Tl} {left:List Int} {bot:Int} {O:aD} {p:Nat×List Int} {x7 x8 x9:Option D}
 (hn:n<=7) (hf:fit.length=n) (hc:c<=20000) (hp:p∈Q) (lp:cR n rows p.2) (zp:SzL 8000 p.2) (Y:Shr n rows fit c pre (T.map unp) left bot) (iv:SIv Q T O):
 ∃T' ac am O' y7 y8 y9,m8 #[sR rows n fit left bot (pr (.ptr p.1)) x7 x8 x9,O]=.next #[sR rows n fit ac am (pr (.ptr p.1)) y7 y8 y9,O']/\Shr n rows fit c (pre++[p.2]) (T'.map unp) ac am/\SIv Q T' O':=by
 have yl:=lp.fit.len;have tl:T.length<=7:=by have h1:=Y.cn;have h2:=G4 fit;rw[t3] at h1;omega
 have cb:c+8001*(T.map unp).length<=80000:=by rw[t3];omega
 have a4:gC 1 ey (ae (aa 6) ak) #[sR rows n fit left bot (pr (.ptr p.1)) x7 x8 x9,O]=.ok (.int (dj p.2:Nat),#[sR rows n fit left bot (pr (.ptr p.1)) x7 x8 x9,O]):=sV (aw (ag rfl) ay) (rs:=[vI p.2]) (by simp only[kc,mf,nY (iv.s p hp),mO,kY]) vM (by simp) rfl rfl;have a5:gC 1 ey (ae (aa 4) ak) #[sR rows n fit left bot (pr (.ptr p.1)) x7 x8 x9,O]=.ok (.int (dj left:Nat),#[sR rows n fit left bot (pr (.ptr p.1)) x7 x8 x9,O]):=sV (aw (ag rfl) ay) (rs:=[vI left]) (by simp only[kc,mf,mO,kY]) vM (by simp) rfl rfl;have a1:a9 (aN 2 iD (ae (gC 1 ey (ae (aa 6) ak)) (ae (gC 1 ey (ae (aa 4) ak)) ak))) #[sR rows n fit left bot (pr (.ptr p.1)) x7 x8 x9,O]=.ok (decide (dj p.2|||dj left=dj left),#[sR rows n fit left bot (pr (.ptr p.1)) x7 x8 x9,O]):=d7 (cX (aw a4 (aw a5 ay)) (Ec _ _) (by simp) rfl rfl);have a2:=Ik yl Y.len lp.fit.nn Y.nn;by_cases hs:Sub p.2 left;obtain⟨a,ea,al,ti⟩:=Lg (c:=80000) (left:=left) (y:=p.2) (by rw[Y.len,yl]) (λx hx=>(Y.sz x hx).mono cb) zp ∅ lp.fit.nn lp.fit.nz ⋯;have ll:=Y.len;have e7:setM 7 (gC 2 hE (ae (aa 4) (ae (aa 6) ak))) #[sR rows n fit left bot (pr (.ptr p.1)) x7 x8 x9,O]=.next #[sR rows n fit left bot (pr (.ptr p.1)) (pr (.int (a:Int))) x8 x9,O]:=bx (sV (aw (ag rfl) (aw (ag rfl) ay)) (rs:=[vI left,vI p.2]) (by simp only[kc,mf,nY (iv.s p hp),mO,kY]) ea (by simp) rfl rfl) rfl
 have zb:Tj bot (nth p.2 a):=eZ (m:=80000) (n:=8000) ∅ ∅ (Y.szb.mono cb) (zp _ (eI al));have Bp:0<bot*nth p.2 a:=S7 Y.bp ti.pos;have eB:∀{O':aD} {x8 x9:Option D},Sto O' Q->ao cG (aa 5) (ao ixD (aa 6) (aa 7)) #[sR rows n fit left bot (pr (.ptr p.1)) (pr (.int (a:Int))) x8 x9,O']=.ok (.int (bot*nth p.2 a),#[sR rows n fit left bot (pr (.ptr p.1)) (pr (.int (a:Int))) x8 x9,O']):=λs'=>aL (ag rfl) (aL (ag rfl) (ag rfl) (pU (s' p hp) al)) (cT zb);have en:jT (ae (aN 2 pX (ae (ao ixD (aa 4) (aa 7)) (ae (ao cG (aa 5) (ao ixD (aa 6) (aa 7))) ak))) (ae (aa 6) ak)) #[sR rows n fit left bot (pr (.ptr p.1)) (pr (.int (a:Int))) x8 x9,O]=.ok (tD (rat (nth left a) (bot*nth p.2 a),p),#[sR rows n fit left bot (pr (.ptr p.1)) (pr (.int (a:Int))) x8 x9,O]):=pI (aw (cX (aw (aL (ag rfl) (ag rfl) (fY ⋯)) (aw (eB iv.s) ay)) (Mp Bp) (by simp) rfl (by simp)) (aw (ag rfl) ay)) (by simp);generalize an:O.set 0 (.lst (T.map tD++[tD (rat (nth left a) (bot*nth p.2 a),p)]))=O1;have e8:dA (ir (aa 3) (jT (ae (aN 2 pX (ae (ao ixD (aa 4) (aa 7)) (ae (ao cG (aa 5) (ao ixD (aa 6) (aa 7))) ak))) (ae (aa 6) ak)))) #[sR rows n fit left bot (pr (.ptr p.1)) (pr (.int (a:Int))) x8 x9,O]=.next #[sR rows n fit left bot (pr (.ptr p.1)) (pr (.int (a:Int))) x8 x9,O1]:=cV (oq (ag rfl) iv.told en iv.told (by rw[t3];omega) an)
 have ap:O1[0]? =pr (.lst ((T++[(rat (nth left a) (bot*nth p.2 a),p)]).map tD)):=by rw[<- an,fF iv.told,Fa];rfl
 have J:Sto O1 Q:=by rw[<- an];exact iv.s.set iv.n0 _
 have zl:∀x∈left,Sz 80000 x:=λx hx=>(Y.sz x hx).mono cb;have e9:=Ba (l:=left.zip p.2) (f:=λq=>.int q.1) (g:=λq=>.int q.2) (out:=λq=>.int (q.1*nth p.2 a-q.2*nth left a)) (caps:=[7,4,6]) (im:=tx (ae (aa 4) (ae (aa 6) ak))) (e:=ao iR (ao cG (aa 0) (ao ixD (aa 4) (aa 2))) (ao cG (aa 1) (ao ixD (aa 3) (aa 2)))) (s:=#[sR rows n fit left bot (pr (.ptr p.1)) (pr (.int (a:Int))) x8 x9,O1]) (ok:=λO=>lsD O (vI left)=pr (left.map D.int)/\lsD O (.ptr p.1)=pr (p.2.map D.int)) (by
  rw[DC (as:=left.map D.int) (bs:=p.2.map D.int) (aw (ag (i:=4) rfl) (aw (ag (i:=6) rfl) ay)) gW (jg (J p hp)),ji]) #[gW,jg (J p hp)] (by rw[SJ];omega) (λq hq=>by have m1:=(Fk (a:=q.1) (b:=q.2) hq).1;have m2:=(Fk (a:=q.1) (b:=q.2) hq).2;exact aL (aL (ag rfl) (aL (ag rfl) (ag rfl) (pU (J p hp) al)) (cT (eZ (m:=80000) (n:=8000) ∅ ∅ (zl _ m1) (zp _ (eI al))))) (aL (ag rfl) (aL (ag rfl) (ag rfl) (fY ⋯)) (cT (eZ (m:=8000) (n:=80000) ∅ ∅ (zp _ m2) (zl _ (eI ⋯))))) nS)
 rw[show (left.zip p.2).map (λq=>D.int (q.1*nth p.2 a-q.2*nth left a))=(fR left p.2 a).map D.int by unfold fR;rw[wv];rfl] at e9;have rl:=DH (a:=a) Y.len yl;have bb:setM 9 (iu (d9 1 mj (ae (ao bh (aa 8) (iT (ae (ao cG (aa 5) (ao ixD (aa 6) (aa 7))) ak))) ak))) #[sR rows n fit left bot (pr (.ptr p.1)) (pr (.int (a:Int))) (pr (vI (fR left p.2 a))) x9,O1]=.next #[sR rows n fit left bot (pr (.ptr p.1)) (pr (.int (a:Int))) (pr (vI (fR left p.2 a))) (pr (vI (i3 left p.2 bot a))),O1++[.dead]]:=by refine bx (ot (gY (aw (aL (ag rfl) (uC (aw (eB J) ay) (by simp)) (d:=vI (fR left p.2 a++[bot*nth p.2 a])) ?_) ay) (BJ (by simp;omega)) (by rw[fD,gk,FZ];rfl) rfl iy rfl) (ds:=(i3 left p.2 bot a).map D.int) ?_ ?_) rfl;rw[nO (by simp;omega)];show _=Res.ok (D.lst ((fR left p.2 a++[bot*nth p.2 a]).map D.int));rw[Fa];rfl;rw[WE];simp;rfl;rw[WE,x0,Te,Me]
 have bd:=O8 (bot:=bot) (a:=a) Y.len yl;have ci:(i3 left p.2 bot a).length=n+1:=by unfold i3;rw[low_length];simp[rl]
 have be:setM 4 (slM (aa 9) gj (part (aa 1))) #[sR rows n fit left bot (pr (.ptr p.1)) (pr (.int (a:Int))) (pr (vI (fR left p.2 a))) (pr (vI (i3 left p.2 bot a))),O1++[.dead]]=.next #[sR rows n fit ((i3 left p.2 bot a).take n) bot (pr (.ptr p.1)) (pr (.int (a:Int))) (pr (vI (fR left p.2 a))) (pr (vI (i3 left p.2 bot a))),O1++[.dead]]:=bx (RB (ag rfl) qC (zZ (ag rfl)) gW Jx) rfl
 have bf:setM 5 (ao ixD (aa 9) (aa 1)) #[sR rows n fit ((i3 left p.2 bot a).take n) bot (pr (.ptr p.1)) (pr (.int (a:Int))) (pr (vI (fR left p.2 a))) (pr (vI (i3 left p.2 bot a))),O1++[.dead]]=.next #[sR rows n fit ((i3 left p.2 bot a).take n) (nth (i3 left p.2 bot a) n) (pr (.ptr p.1)) (pr (.int (a:Int))) (pr (vI (fR left p.2 a))) (pr (vI (i3 left p.2 bot a))),O1++[.dead]]:=bx (aL (ag rfl) (ag rfl) (fY ⋯)) rfl
 refine#[T++[(rat (nth left a) (bot*nth p.2 a),p)],_,_,O1++[.dead],pr (.int (a:Int)),pr (vI (fR left p.2 a)),pr (vI (i3 left p.2 bot a)), ?_,by rw[Fa];exact KN Y lp hs zp ti bd,fm ap,J.app _,iv.n0,λs bi=> ?_];rw[m8];exact jo a1 (a2.mpr hs) (aX e7 (aX e8 (aX (bx e9 rfl) (aX bb (aX be bf)))));rcases xz.mp bi with q | q
 exact iv.m s q;rw[ww.mp q];exact hp;refine#[T,left,bot,O,x7,x8,x9, ?_,LX Y hs,iv];rw[m8];exact eH a1 (by rw[WO];exact λz=>hs (a2.mp z)) cN
theorem Cv{n:Nat}{rows:List (List Int)}{fit:List Int}{c:Nat}{Q:List (Nat×List Int)}(hn:n<=7)(hf:fit.length=n)(hc:c<=20000)(lo:∀p∈Q,cR n rows p.2)(z:∀p∈Q,SzL 8000 p.2)(K:List D):
 ∀(rest:List (Nat×List Int)) (pre:List (List Int)) (T:List Tl) (left:List Int) (bot:Int) (O:aD) (x6 x7 x8 x9:Option D),(∀p∈rest,p∈Q)->Shr n rows fit c pre (T.map unp) left bot->SIv Q T O->
 ∃T' J ab O' y6 y7 y8 y9,cj (okC K qh) (aA 6) m8 (cv rest) #[sR rows n fit left bot x6 x7 x8 x9,O]=.next #[sR rows n fit J ab y6 y7 y8 y9,O']/\Shr n rows fit c (pre++rest.map (·.2)) (T'.map unp) J ab/\SIv Q T' O'
 | [],pre,T,left,bot,O,x6,x7,x8,x9,_,sh,iv=>#[T,left,bot,O,x6,x7,x8,x9,by show cj _ _ _ [] _=_;rw[cj,if_pos (show okC K qh _ from trivial)],by simpa using sh,iv]
 | p::rest,pre,T,left,bot,O,x6,x7,x8,x9,hr,sh,iv=>by have hp:=hr p wp;obtain⟨T1,Y,ac,O1,y7,y8,y9,e1,bb,bd⟩:=F8 (x7:=x7) (x8:=x8) (x9:=x9) hn hf hc hp (lo p hp) (z p hp) sh iv;obtain⟨T2,am,az,O2,z6,z7,z8,z9,e2,a1,be⟩:=Cv hn hf hc lo z K rest (pre++[p.2]) T1 Y ac O1 (pr (.ptr p.1)) y7 y8 y9 (λq hq=>hr q (wf _ hq)) bb bd;refine#[T2,am,az,O2,z6,z7,z8,z9, ?_,by rw[Ta] at a1;exact a1,be];show cj _ _ _ (.ptr p.1::cv rest) _=_;exact Db (kN (s1:=#[sR rows n fit left bot (pr (.ptr p.1)) x7 x8 x9,O]) (s2:=#[sR rows n fit Y ac (pr (.ptr p.1)) y7 y8 y9,O1]) trivial rfl e1) e2
structure P7(n:Nat)(rows:List (List Int))(fit:List Int)(T:List Tl)(O:aD):Prop where
 told:O[0]? =pr (.lst (T.map tD))
 s:∀s∈T,O[s.2.1]? =pr (.lst (s.2.2.map D.int))
 n0:∀s∈T,s.2.1≠0
 good:∀s∈T,0<s.1.1/\0<s.1.2/\SF s.1.1 s.1.2=1/\Sub s.2.2 fit
 lo:∀s∈T,cR n rows s.2.2
 nd:(T.map λs=>s.2.2).Nodup
 cn:T.length<=cnt fit
 eq:∀i,(psS i (T.map unp)).2=(psS i (T.map unp)).1*nth fit i
 zt:∀s∈T,Sz 80000 s.1.1/\Sz 80000 s.1.2/\SzL 8000 s.2.2
structure xa(n:Nat)(rows:List (List Int))(fit:List Int)(c:Nat):Prop where
 len:fit.length=n
 nn:∀i,0<=nth fit i
 st:∀r∈rows,a6 n (nth r) (nth fit)=0
 sz:SzL c fit
 c1:1<=c
 c2:c<=20000
theorem xa.all(h:xa n rows fit c):∀a∈fit,0<=a:=λa ha=>by obtain⟨i,hi,rfl⟩:=SX ha;have:=h.nn i;unfold nth at this;simpa[re,ut hi] using this
theorem Jj(h:qw n rows)(f:xa n rows fit c):∃T O,ui [vII rows,.int (n:Int),vI fit] []=.ok (.ptr 0,O)/\P7 n rows fit T O:=by
 have n7:=h.n7;obtain⟨k,Op,Q,ep,hd,sQ,nQ,qS,qV⟩:=GP h;have Y:jX n rows (i8 rows n):=mV h.len;have J:(Q.map (·.2)).Perm (i8 rows n):=by rw[qV];exact jl
 have pa:aU [vII rows,.int (n:Int)]=true:=z5 rfl;have az:=w8 (S:=[Cell.lst []]) hd;have a1:=Aw (S:=[Cell.lst []]) sQ;have a2:∀p∈Q.map (λp=>(1+p.1,p.2)),p.1≠1+k:=λp hp=>by obtain⟨q,hq,rfl⟩:=sB.mp hp;have:=nQ q hq;dsimp only;omega
 have a3:∀p∈Q.map (λp=>(1+p.1,p.2)),p.1≠0:=λp hp=>by obtain⟨q,hq,rfl⟩:=sB.mp hp;dsimp only;omega
 have ab:(Q.map λp=>(1+p.1,p.2)).map (·.2)=Q.map (·.2):=by rw[wv];rfl
 have z0:([Cell.lst []]++Op.map (shC 1))[0]? =pr (Cell.lst []):=rfl;have fr:iu (d9 2 i4 (ae (aa 0) (ae (aa 1) ak))) #[sR rows n fit fit 1 qh qh qh qh,[.lst []]]=.ok (.lst (cv (Q.map λp=>(1+p.1,p.2))),#[sR rows n fit fit 1 qh qh qh qh,([Cell.lst []]++Op.map (shC 1)).set (1+k) .dead]):=ot (gY (aw (ag rfl) (aw (ag rfl) ay)) ep pa rfl iy rfl) az rfl;have ap:Sto (([Cell.lst []]++Op.map (shC 1)).set (1+k) .dead) (Q.map λp=>(1+p.1,p.2)):=a1.set a2 _;have z2:(([Cell.lst []]++Op.map (shC 1)).set (1+k) Cell.dead)[0]? =pr (Cell.lst []):=by rw[cY ⋯];exact z0
 generalize ([Cell.lst []]++Op.map (shC 1)).set (1+k) Cell.dead=O2 at fr ap z2;generalize (Q.map λp=>(1+p.1,p.2))=Q1 at *;have lo:∀p∈Q1,cR n rows p.2:=λp hp=>(Y.all _).mp (J.mem_iff.mp (by rw[<- ab];exact Hf hp));have sz:∀p∈Q1,SzL 8000 p.2:=λp hp=>Fi h (rs:=rows) (λ_ q=>q) h.cnt _ (J.mem_iff.mp (by rw[<- ab];exact Hf hp));obtain⟨T,left,bot,O3,y6,y7,y8,y9,el,sh,iv⟩:=Cv n7 f.len f.c2 lo sz (cv Q1) Q1 [] [] fit 1 O2 qh qh qh qh (λ_ q=>q) (Kx f.len f.nn f.st f.sz f.c1) #[z2,ap,a3,by simp];rw[Cs] at sh;have ck:=Mt h f.len f.all (λr hr=>by rw[fT f.len];exact f.st r hr) f.sz (by have:=f.c2;omega);refine#[T,O3, ?_,iv.told,λs hs=>iv.s _ (iv.m s hs),λs hs=>iv.n0 _ (iv.m s hs),λs hs=>sh.good (unp s) (Hf hs),λs hs=>lo _ (iv.m s hs), ?_,by have:=sh.cn;rw[t3] at this;omega,N6 sh λl hl=>by rw[ab];exact J.mem_iff.mpr ((Y.all l).mpr hl),λs hs=> ?_];refine dS (R:=sR rows n fit left bot y6 y7 y8 y9) ?_;show zr #[[pr (vII rows),pr (.int (n:Int)),pr (vI fit),qh,qh,qh,qh,qh,qh,qh],[]]=_;rw[zr];refine aX (cV (cX (aw (ag rfl) (aw (ag rfl) (aw (ag rfl) ay))) ck (by simp) rfl rfl)) (aX (bx (qG ay (by simp) rfl rfl) rfl) (aX (bx (dI (aw (ag rfl) ay) mQ) rfl) (aX (bx (R':=sR rows n fit fit 1 qh qh qh qh) aB rfl) (aX ?_ (bD (ag rfl))))));refine(d6 (im:=listI (iu (d9 2 i4 (ae (aa 0) (ae (aa 1) ak))))) (ds:=cv Q1) (k:=qh) (s1:=#[sR rows n fit fit 1 qh qh qh qh,O2]) ?_).trans el;rw[cO];exact(congrArg (λr=>Res.bind r _) fr).trans rfl;have:=sh.sl;rw[wv] at this;refine List.Sublist.nodup this ?_;rw[ab];exact J.nodup_iff.mpr Y.nd;have cb:c+8001*(T.map unp).length<=80000:=by have h1:=sh.cn;have h2:=G4 fit;have h3:=f.len;have h4:=f.c2;rw[t3] at h1 ⊢;omega
 obtain⟨q1,q2⟩:=sh.szt (unp s) (Hf hs);exact#[q1.mono cb,q2.mono cb,sz _ (iv.m s hs)]
theorem ub:∀r∈cC goods ws,r.length=ws.length:=λr hr=>by unfold cC at hr;obtain⟨k,_,rfl⟩:=sB.mp hr;unfold jY;simp
theorem xK(g4:goods.length<=5)(w6:ws.length<=7)(hs:cP 90 (chL goods ws)):qw ws.length (cC goods ws):=#[ub,λr hr x hx=>by unfold cC at hr;obtain⟨k,hk,rfl⟩:=sB.mp hr;obtain⟨w,J,g,Y,rfl⟩:=Bd (SA.mp hk) hx;exact(hs (goods.map (chg w)) (sB.mpr #[w,J,rfl]) _ (Hf Y)).mono ∅,by unfold cC;simp;omega,w6]
def fwQ(Q:List (Nat×List Int))(a:Nat):Option (Nat×List Int):=Q.find? λp=>decide (0<nth p.2 a)
def fwD:Option (Nat×List Int)->D
 | none=>.non
 | some p=>.ptr p.1
theorem E1{O:aD}{a:Nat}{L:D}(K:List D):∀(rest:List (Nat×List Int)) (J:Option D),Sto O rest->(∀p∈rest,a<p.2.length)->
 (fwQ rest a=qh->∃Y,cj (okC K qh) (aA 2) dC (cv rest) #[[pr L,pr (.int (a:Int)),J],O]=.next #[[pr L,pr (.int (a:Int)),Y],O])/\
 ∀p,fwQ rest a=pr p->∃Y,cj (okC K qh) (aA 2) dC (cv rest) #[[pr L,pr (.int (a:Int)),J],O]=.ret (.ptr p.1) #[[pr L,pr (.int (a:Int)),Y],O]
 | [],J,_,_=>#[λ_=>#[J,by show cj _ _ _ [] _=_;rw[cj,if_pos (show okC K qh _ from trivial)]],λp h=>by cases h]
 | q::rest,J,sQ,hl=>by
  obtain⟨i1,i2⟩:=E1 (L:=L) K rest (pr (.ptr q.1)) (λp hp=>sQ p (wf _ hp)) λp hp=>hl p (wf _ hp);have t:a9 (ao gtD (ao ixD (aa 2) (aa 1)) (au (.int 0))) #[[pr L,pr (.int (a:Int)),pr (.ptr q.1)],O]=.ok (decide (0<nth q.2 a),#[[pr L,pr (.int (a:Int)),pr (.ptr q.1)],O]):=kP (aL (ag rfl) (ag rfl) (pU (sQ q wp) (hl q wp)));have st:cj (okC K qh) (aA 2) dC (cv (q::rest)) #[[pr L,pr (.int (a:Int)),J],O]=(match dC #[[pr L,pr (.int (a:Int)),pr (.ptr q.1)],O] with
   | .next s=>cj (okC K qh) (aA 2) dC (cv rest) s
   | .cnt s=>cj (okC K qh) (aA 2) dC (cv rest) s
   | .brk s=>.next s
   | o=>o):=by
   show cj _ _ _ (.ptr q.1::cv rest) _=_;rw[cj,if_pos (show okC K qh _ from trivial)];rfl
  by_cases h:0<nth q.2 a;have e:fwQ (q::rest) a=pr q:=by unfold fwQ;rw[Xh,decide_eq_true h]
  have eb:dC #[[pr L,pr (.int (a:Int)),pr (.ptr q.1)],O]=.ret (.ptr q.1) #[[pr L,pr (.int (a:Int)),pr (.ptr q.1)],O]:=by rw[dC];exact jo t (decide_eq_true h) (bD (ag rfl))
  rw[e,st,eb];exact#[λz=>(by cases z),λp z=>by cases z;exact#[_,rfl]];have e:fwQ (q::rest) a=fwQ rest a:=by unfold fwQ;rw[Xh,decide_eq_false h]
  have eb:dC #[[pr L,pr (.int (a:Int)),pr (.ptr q.1)],O]=.next #[[pr L,pr (.int (a:Int)),pr (.ptr q.1)],O]:=by rw[dC];exact eH t (decide_eq_false h) cN
  rw[e,st,eb];exact#[i1,i2]
theorem DT{O:aD}{a:Nat}{Q:List (Nat×List Int)}(sQ:Sto O Q)(hl:∀p∈Q,a<p.2.length):gr [.lst (cv Q),.int (a:Int)] O=.ok (fwD (fwQ Q a),O):=by
 have Y:=d6 (im:=listI (aa 0)) (g:=aA 2) (body:=dC) (s:=#[[pr (.lst (cv Q)),pr (.int (a:Int)),qh],O]) (ds:=cv Q) (k:=qh) (s1:=#[[pr (.lst (cv Q)),pr (.int (a:Int)),qh],O]) (by rw[cO,ag (i:=0) rfl,aj];rfl);obtain⟨i1,i2⟩:=E1 (L:=.lst (cv Q)) (cv Q) Q qh sQ hl;cases e:fwQ Q a with
 | none=>
  obtain⟨J,e1⟩:=i1 e;refine dS (R:=[pr (.lst (cv Q)),pr (.int (a:Int)),J]) ?_;show kG #[[pr (.lst (cv Q)),pr (.int (a:Int)),qh],O]=_;rw[kG];exact aX (Y.trans e1) (bD aB)
 | some p=>
  obtain⟨J,e1⟩:=i2 p e;refine dS (R:=[pr (.lst (cv Q)),pr (.int (a:Int)),J]) ?_;show kG #[[pr (.lst (cv Q)),pr (.int (a:Int)),qh],O]=_;rw[kG];exact mG (Y.trans e1)
theorem G6{R:List (List Int)}{b:Int}{ts:List Int}(hg:goal.length=n)(hc:R.length<=900)(hs:cP c R)(J:SzL c goal)(e:jv R goal=pr (b,ts)):Sz (iU c (1+R.length)) b:=by
 have Y:cP c (bB R goal):=by
  intro r hr x hx;unfold bB at hr;obtain⟨a,_,rfl⟩:=sB.mp hr;obtain⟨q,hq,rfl⟩:=sB.mp hx;rcases wE.mp hq with rfl | hq
  exact J.nth a;exact(hs q hq).nth a
 have z:=oG (n:=1+R.length) ⋯ gM Y;unfold jv at e;split at e;cases e;rename_i s rest es;split at e;cases e;cases e;exact(z s (by rw[es];exact wp)).nth 0
theorem L5{R:List (List Int)}{b:Int}{ts:List Int}(hc:R.length<=900)(hs:cP c R)(J:SzL c goal)(e:jv R goal=pr (b,ts)):SzL (iU c (1+R.length)) ts:=by
 have Y:cP c (bB R goal):=by
  intro r hr x hx;unfold bB at hr;obtain⟨a,_,rfl⟩:=sB.mp hr;obtain⟨q,hq,rfl⟩:=sB.mp hx;rcases wE.mp hq with rfl | hq
  exact J.nth a;exact(hs q hq).nth a
 have z:=oG (n:=1+R.length) ⋯ gM Y;unfold jv at e;split at e;cases e;rename_i s rest es;split at e;cases e;cases e;intro x hx;obtain⟨y,hy,rfl⟩:=sB.mp hx;exact(z s (by rw[es];exact wp) y (Va hy)).neg
theorem sg6(h:n<=6):iU 90 n<=6528:=by unfold iU;have:2^n<=2^6:=S4 ∅ h;omega
theorem sg5(h:n<=4):iU 1010000 (1+n)<=32400000:=by unfold iU;have:2^(1+n)<=2^5:=S4 ∅ ⋯;omega
theorem lg6:qX 15000 6 1<=1000000:=∅
theorem K3(goods:List Str)(ws:List Wk):(cC goods ws).length=goods.length:=by unfold cC;simp
theorem Gm(hs:cP 90 (chL goods ws)):cP 90 (cC goods ws):=λr hr x hx=>by unfold cC at hr;obtain⟨k,hk,rfl⟩:=sB.mp hr;obtain⟨w,J,g,Y,rfl⟩:=Bd (SA.mp hk) hx;exact hs (goods.map (chg w)) (sB.mpr #[w,J,rfl]) _ (Hf Y)
abbrev wbR(goods:List Str)(ws:List Wk)(dem:List Int)(R:List (List Int))(n:Nat)(J x5 x6 x7:Option D):List (Option D):=[pr (yD goods ws),pr (vI dem),pr (vII R),pr (.int (n:Int)),J,x5,x6,x7]
theorem Je{dem:List Int}(g4:goods.length<=4)(w6:ws.length<=6)(hs:cP 90 (chL goods ws))(hd:dem.length=ws.length)(hz:SzL 8000 dem)(hF:∀y,Fit ws.length (cC goods ws) y->a6 ws.length (nth dem) (nth y)<=0):
 ∃t W O,j6 [yD goods ws,vI dem] []=.ok (.tup [.int t,vI W],O)/\0<t/\W.length=goods.length/\(∀i,i<ws.length->t*nth dem i<=bT W (cC goods ws) i)/\SzL 32400000 W:=by
 have Rl:=ub (goods:=goods) (ws:=ws);have Rc:=K3 goods ws;have Rz:=Gm hs;have e2:setM 2 (methP 0 "rows" 0 ee (aa 0) ak) #[[pr (yD goods ws),pr (vI dem),qh,qh,qh,qh,qh,qh],[]]=.next #[[pr (yD goods ws),pr (vI dem),pr (vII (cC goods ws)),qh,qh,qh,qh,qh],[]]:=bx (gB (ns:=FN) (ds:=yDs goods ws) (args:=[]) (ag rfl) ay (xt ⋯ ⋯) ∅ eJ rfl rfl (by rw[gk,gQ])) rfl
 generalize cC goods ws=R at *;generalize hn:ws.length=n at *;have e3:setM 3 (a8 bY (ae (aa 1) ak)) #[[pr (yD goods ws),pr (vI dem),pr (vII R),qh,qh,qh,qh,qh],[]]=.next #[wbR goods ws dem R n qh qh qh qh,[]]:=bx (dI (aw (ag rfl) ay) (by rw[eG,t3,hd])) rfl
 have s6:=sg6 w6;obtain⟨Os,es⟩:=CF (n:=n) (c:=90) (rows:=R) ⋯ ⋯ Rl Rz ⋯;have Sl:=iI Rl;have am:cP 6528 (bg R n):=(oG (n:=n) ⋯ Rl Rz).mono s6;have Sc:(bg R n).length<=6:=by have:=count Rl;omega
 have a2:aN 2 jQ (ae (aa 2) (ae (aa 3) ak)) #[wbR goods ws dem R n qh qh qh qh,[]]=.ok (vII (bg R n),#[wbR goods ws dem R n qh qh qh qh,[]]):=cX (aw (ag rfl) (aw (ag rfl) ay)) es (z5 rfl) rfl (by rw[gk,gQ]);have ew:=c7 (l:=bg R n) (item:=vI) (out:=λs=>vI (s++[aC s dem])) (caps:=[1]) (im:=listI (aN 2 jQ (ae (aa 2) (ae (aa 3) ak)))) (e:=ao bh (aa 0) (iT (ae (aN 2 bq (ae (aa 0) (ae (aa 1) ak))) ak))) (k:=qh) (s:=#[wbR goods ws dem R n qh qh qh qh,[]]) (by
  rw[cO,a2,aj];rfl) trivial ⋯ (λs J=>by have sl:=Sl s J;refine aL (ag rfl) (uC (aw (cX (aw (ag rfl) (aw (ag rfl) ay)) (sY (a:=s) (b:=dem) ⋯ λp hp=>eZ (m:=6528) (n:=8000) ∅ ∅ (am s J _ (Fk (a:=p.1) (b:=p.2) hp).1) (hz _ (Fk (a:=p.1) (b:=p.2) hp).2)) (by simp) rfl rfl) ay) (by simp)) ?_;rw[nO (by simp;omega)];show Res.ok (D.lst (s.map D.int++[D.int (aC s dem)]))=Res.ok (D.lst ((s++[aC s dem]).map D.int));rw[Fa];rfl)
 rw[show (bg R n).map (λs=>vI (s++[aC s dem]))=(eW R n dem).map vI by unfold eW;rw[wv];rfl] at ew;have e4:setM 4 (bF 1 [1] (listI (aN 2 jQ (ae (aa 2) (ae (aa 3) ak)))) (aA 0) bA (ao bh (aa 0) (iT (ae (aN 2 bq (ae (aa 0) (ae (aa 1) ak))) ak)))) #[wbR goods ws dem R n qh qh qh qh,[]]=.next #[wbR goods ws dem R n (pr (vII (eW R n dem))) qh qh qh,[]]:=bx ew rfl
 have wl:=Ic (dem:=dem) Rl;have wc:(eW R n dem).length<=6:=by unfold eW;rw[t3];exact Sc
 have wz:cP 15000 (eW R n dem):=λr hr x hx=>by
  unfold eW at hr;obtain⟨s,J,rfl⟩:=sB.mp hr;rcases xz.mp hx with q | q
  exact(am s J x q).mono ∅;rw[ww.mp q];exact(nG (am s J) hz (by rw[Sl s J];omega)).mono ∅
 have rc:Dg 15000 1000000 (n+1) (eW R n dem):=#[wl,wz,SE (oU 15000 (eW R n dem).length 6 1 wc) lg6,∅,∅,⋯];obtain⟨k,Ol,Ls,el,hk,sL,nL,_,vL⟩:=Dq rc;have kn:=mV wl;obtain⟨l0,a4,a5⟩:=He Rl hd hF;generalize hw:eW R n dem=Y at *;have bb:=w8 (S:=[]) hk;have s1:Sto ((([]:aD)++Ol.map (shC 0)).set (0+k) .dead) (Ls.map λp=>(0+p.1,p.2)):=(Aw (S:=[]) sL).set (λp hp=>by obtain⟨q,hq,rfl⟩:=sB.mp hp;have:=nL q hq;show 0+q.1≠0+k;omega) _
 have m1:(Ls.map λp=>(0+p.1,p.2)).map (·.2)=Ls.map (·.2):=by rw[wv];rfl
 have ef:iu (d9 2 i4 (ae (aa 4) (ae (ao bh (aa 3) (au (.int 1))) ak))) #[wbR goods ws dem R n (pr (vII Y)) qh qh qh,[]]=.ok (.lst (cv (Ls.map λp=>(0+p.1,p.2))),#[wbR goods ws dem R n (pr (vII Y)) qh qh qh,(([]:aD)++Ol.map (shC 0)).set (0+k) .dead]):=ot (gY (aw (ag rfl) (aw (aL (ag rfl) aB b8) ay)) el (z5 rfl) rfl iy rfl) bb rfl;have ap:∀p∈Ls.map (λp=>(0+p.1,p.2)),cR (n+1) Y p.2/\SzL 1000000 p.2:=λp hp=>by have:p.2∈i8 Y (n+1):=jl.mem_iff.mp (by rw[<- vL,<- m1];exact Hf hp);exact#[(kn.all _).mp this,D3 rc (λ_ q=>q) (wS _) _ this]
 have ac:l0∈(Ls.map λp=>(0+p.1,p.2)).map (·.2):=by rw[m1,vL];exact jl.mem_iff.mpr ((kn.all _).mpr a4)
 generalize (([]:aD)++Ol.map (shC 0)).set (0+k) Cell.dead=O1 at ef s1;generalize Ls.map (λp=>(0+p.1,p.2))=Q at ef s1 ap ac;have e5:=DT (a:=n) s1 λp hp=>by rw[(ap p hp).1.fit.len];omega
 obtain⟨p,ep⟩:∃p,fwQ Q n=pr p:=by
  cases e:fwQ Q n with
  | some p=>exact#[p,rfl]
  | none=>
   obtain⟨q,hq,rfl⟩:=sB.mp ac;have:=Vx.mp e q hq;exact absurd (decide_eq_true a5) this
 have pQ:p∈Q:=VF ep;have pp:0<nth p.2 n:=of_decide_eq_true (Xi (p:=λp:Nat×List Int=>decide (0<nth p.2 n)) ep);obtain⟨lo,pz⟩:=ap p pQ;have pl:=lo.fit.len;rw[ep] at e5;have e5:setM 5 (j8 2 gr (ae (iu (d9 2 i4 (ae (aa 4) (ae (ao bh (aa 3) (au (.int 1))) ak)))) (ae (aa 3) ak))) #[wbR goods ws dem R n (pr (vII Y)) qh qh qh,[]]=.next #[wbR goods ws dem R n (pr (vII Y)) (pr (.ptr p.1)) qh qh,O1]:=bx (xo (aw ef (aw (ag rfl) ay)) e5 rfl) rfl
 have t0:Sz 1000000 (nth p.2 n):=pz _ (eI ⋯);have e6:=Ba (l:=p.2.zip dem) (f:=λq=>.int q.1) (g:=λq=>.int q.2) (out:=λq=>.int (q.1+nth p.2 n*q.2)) (caps:=[5,3]) (im:=tx (ae (aa 5) (ae (aa 1) ak))) (e:=ao bh (aa 0) (ao cG (ao ixD (aa 2) (aa 3)) (aa 1))) (s:=#[wbR goods ws dem R n (pr (vII Y)) (pr (.ptr p.1)) qh qh,O1]) (ok:=λO=>lsD O (.ptr p.1)=pr (p.2.map D.int)/\lsD O (vI dem)=pr (dem.map D.int)) (by rw[DC (as:=p.2.map D.int) (bs:=dem.map D.int) (aw (ag (i:=5) rfl) (aw (ag (i:=1) rfl) ay)) (jg (s1 p pQ)) gW,ji]) #[jg (s1 p pQ),gW] (by rw[SJ];omega) (λq hq=>aL (ag rfl) (aL (aL (ag rfl) (ag rfl) (pU (s1 p pQ) ⋯)) (ag rfl) (cT (eZ (m:=1000000) (n:=8000) ∅ ∅ t0 (hz _ (Fk (a:=q.1) (b:=q.2) hq).2)))) b8)
 rw[show (p.2.zip dem).map (λq=>D.int (q.1+nth p.2 n*q.2))=(kU p.2 dem (nth p.2 n)).map D.int by unfold kU;rw[wv];rfl] at e6;have lf:=lo.fit;rw[<- hw] at lf;obtain⟨b,ts,em,b0,tl,tb⟩:=Ie Rl hd lf;obtain⟨gl,_⟩:=yV pl hd (nth p.2 n);have gz:SzL 1010000 (kU p.2 dem (nth p.2 n)):=λx hx=>by unfold kU at hx;obtain⟨q,hq,rfl⟩:=sB.mp hx;exact(Sz.add (pz _ (Fk (a:=q.1) (b:=q.2) hq).1) (Sz.mul t0 (hz _ (Fk (a:=q.1) (b:=q.2) hq).2))).mono ∅
 have s5:=sg5 (n:=R.length) ⋯;obtain⟨Om,eo⟩:=Lh (n:=n) (c:=1010000) (rows:=R) (goal:=kU p.2 dem (nth p.2 n)) gl ⋯ ⋯ Rl (Rz.mono ∅) gz (SE s5 ∅);have bz:=G6 gl ⋯ (Rz.mono (show 90<=1010000 by decide)) gz em;have tz:=(L5 ⋯ (Rz.mono (show 90<=1010000 by decide)) gz em).mono s5;rw[em] at eo;generalize kU p.2 dem (nth p.2 n)=goal at e6 eo;have e7:setM 7 (aN 2 oR (ae (aa 2) (ae (aa 6) ak))) #[wbR goods ws dem R n (pr (vII Y)) (pr (.ptr p.1)) (pr (vI goal)) qh,O1]=.next #[wbR goods ws dem R n (pr (vII Y)) (pr (.ptr p.1)) (pr (vI goal)) (pr (.tup [.int b,vI ts])),O1]:=bx (cX (aw (ag rfl) (aw (ag rfl) ay)) eo (z5 (by simp)) rfl (by simp[My])) rfl
 refine#[b*nth p.2 n,ts,O1, ?_,S7 b0 pp,by rw[tl,Rc],tb,tz];refine dS (R:=wbR goods ws dem R n (pr (vII Y)) (pr (.ptr p.1)) (pr (vI goal)) (pr (.tup [.int b,vI ts]))) ?_;show nE #[[pr (yD goods ws),pr (vI dem),qh,qh,qh,qh,qh,qh],[]]=_;rw[nE];exact aX e2 (aX e3 (aX e4 (aX e5 (aX (bx e6 rfl) (aX e7 (bD (pI (aw (aL (aL (ag rfl) aB (sZ rfl)) (aL (ag rfl) (ag rfl) (pU (s1 p pQ) ⋯)) (cT (eZ (n:=1000000) (SE s5 ∅) ∅ bz t0))) (aw (aL (ag rfl) aB (sZ rfl)) ay)) (by simp))))))))
theorem LZ(g4:goods.length<=5)(w6:ws.length<=7)(hs:cP 90 (chL goods ws)):∃d O Q,tu [yD goods ws] []=.ok (.ptr d,O)/\O[d]? =pr (.lst (cv Q))/\Sto O Q/\(∀p∈Q,p.1≠d)/\Q.length<64/\(Q.map (·.2)).Nodup/\rA (Q.map (·.2))=Q.map (·.2)/\(∀p∈Q,cR ws.length (cC goods ws) p.2/\SzL 8000 p.2)/\∀x,cR ws.length (cC goods ws) x->x∈Q.map (·.2):=by
 have lR:=ub (goods:=goods) (ws:=ws);have ro:=xK g4 w6 hs;obtain⟨d,Op,Q,ep,hd,sQ,nQ,so,Y⟩:=GP ro;have kn:=mV lR;have lq:Q.length<64:=by have:=kn.few w6;have e:=congrArg TH Y;rw[t3,jl.length_eq] at e;omega
 have J:∀p∈Q,p.2∈i8 (cC goods ws) ws.length:=λp hp=>jl.mem_iff.mp (by rw[<- Y];exact Hf hp);have nd:(Q.map (·.2)).Nodup:=by rw[Y];exact jl.nodup_iff.mpr kn.nd
 have am:rA (Q.map (·.2))=Q.map (·.2):=by rw[<- BV,<- so]
 have mm:(Q.map λp=>(0+p.1,p.2)).map (·.2)=Q.map (·.2):=by rw[wv];rfl
 refine#[0+d,[]++Op.map (shC 0),Q.map λp=>(0+p.1,p.2), ?_,w8 (S:=[]) hd,Aw (S:=[]) sQ,λp hp=> ?_,by rw[t3];exact lq,by rw[mm];exact nd,by rw[mm];exact am,λp hp=> ?_,λx hx=>by rw[mm,Y];exact jl.mem_iff.mpr ((kn.all x).mpr hx)];refine dS (R:=[pr (yD goods ws)]) ?_;show Er #[[pr (yD goods ws)],[]]=_;rw[Er];refine bD (gY (aw (gB (ns:=FN) (ds:=yDs goods ws) (args:=[]) (ag rfl) ay (xt ⋯ ⋯) ∅ eJ rfl rfl (by rw[gk,gQ])) (aw (dI (aw (gB (ns:=FN) (ds:=yDs goods ws) (args:=[]) (ag rfl) ay (rD goods ⋯) ∅ eJ rfl rfl dD) ay) (by rw[eG,t3,t3])) ay)) ep (z5 rfl) rfl iy rfl);obtain⟨q,hq,rfl⟩:=sB.mp hp;have:=nQ q hq;dsimp only;omega;obtain⟨q,hq,rfl⟩:=sB.mp hp;exact#[(kn.all _).mp (J q hq),Fi ro (λr hr=>hr) ro.cnt _ (J q hq)]
theorem Kj(Y:ws.length<=1000)(hz:ws.map (·.nm)=zs)(nd:zs.Nodup)(ha:a<zs.length):m5 [yD goods ws,.str zs[a]] []=.ok (.int (a:Int),[]):=by have J:=rD goods Y;rw[hz] at J;refine dS (R:=[pr (yD goods ws),pr (.str zs[a]),pr (sD zs)]) ?_;show tL #[[pr (yD goods ws),pr (.str zs[a]),qh],[]]=_;rw[tL];refine aX (bx (gB (ns:=FN) (ds:=yDs goods ws) (args:=[]) (ag rfl) ay J ∅ eJ rfl rfl dD) rfl) (aX (eH (d7 (aL (ag rfl) (ag rfl) zI)) ?_ cN) (bD ?_));rw[show zs.any (· == zs[a])=ss from W2.mpr #[zs[a],NE ha,beq_self_eq_true _]];rfl;unfold Dy Mm;rw[ag (i:=2) rfl,aj];dsimp only;rw[pO];dsimp only;rw[ag (i:=1) rfl,aj];dsimp only;unfold DW;rw[List.Nodup.idxOf_getElem nd a ha,if_pos ha];rfl
theorem Oj{R:List (List Int)}(lo:∀p∈Q,cR n R p.2)(all:∀x,cR n R x->x∈Q.map (·.2)):fwQ Q a=qh↔∀x,cR n R x->nth x a=0:=by constructor;intro h x hx;obtain⟨p,hp,rfl⟩:=sB.mp (all x hx);have h1:=Vx.mp h p hp;have h2:=hx.fit.nn a;have J:¬0<nth p.2 a:=λq=>h1 (decide_eq_true q);omega;intro h;refine Vx.mpr λp hp=> ?_;have:=h p.2 (lo p hp);rw[this];decide
theorem Ex{R:List (List Int)}(ha:a<n)(h:∀x,cR n R x->nth x a=0)(J:Fit n R y):nth y a=0:=by
 have e:∀x:List Int,a6 n (nth ((d8 n a).map (- ·))) (nth x)= - nth x a:=λx=>by
  unfold a6;rw[bL (g:=λi=>if i=a then-nth x a else 0) λi _=>by rw[ja (f:=(- ·)) ∅,dt ha];by_cases q:i=a;rw[if_pos q,if_pos q,q];omega;rw[if_neg q,if_neg q];simp]
  exact(g5 ha (f:=λi=>if i=a then-nth x a else 0) λi _ q=>if_neg q).trans (if_pos rfl)
 have:=Fn (c:=(d8 n a).map (- ·)) (λl Y=>by rw[e,h l Y];decide) J;rw[e] at this;have:=J.nn a;omega
structure YS(goods:List Str)(ws:List Wk)(zs:List Str):Prop where
 g4:goods.length<=4
 w6:ws.length<=6
 hs:cP 90 (chL goods ws)
 nm:ws.map (·.nm)=zs
 nd:zs.Nodup
theorem YS.zl(y:YS goods ws zs):zs.length=ws.length:=by rw[<- y.nm,t3]
theorem Ky(ha:a<n)(x:List Int):a6 n (nth (d8 n a)) (nth x)=nth x a:=by
 unfold a6;rw[bL (g:=λi=>if i=a then nth x a else 0) λi _=>by rw[dt ha];by_cases q:i=a;rw[if_pos q,if_pos q,q];omega;rw[if_neg q,if_neg q];omega]
 exact(g5 ha (f:=λi=>if i=a then nth x a else 0) λi _ q=>if_neg q).trans (if_pos rfl)
theorem LC(y:YS goods ws zs):∃Q E,(∀{R:List (Option D)} {i:Nat},R[i]? =pr (pr (yD goods ws))->iu (d9 1 tu (ae (aa i) ak)) #[R,[]]=.ok (.lst (cv Q),#[R,E]))/\Sto E Q/\(∀p∈Q,cR ws.length (cC goods ws) p.2/\SzL 8000 p.2)/\∀x,cR ws.length (cC goods ws) x->x∈Q.map (·.2):=by
 have g4:=y.g4;have w6:=y.w6;obtain⟨d,Y,Q,ep,J,sQ,nQ,few,nd,so,lo,all⟩:=LZ (goods:=goods) (ws:=ws) ⋯ ⋯ y.hs;refine#[Q.map λp=>(0+p.1,p.2),(([]:aD)++Y.map (shC 0)).set (0+d) .dead,λ{R i} hR=>ot (gY (aw (ag hR) ay) ep M8 rfl iy rfl) (w8 (S:=[]) J) rfl,(Aw (S:=[]) sQ).set (λp hp=>by
  obtain⟨q,hq,rfl⟩:=sB.mp hp;have:=nQ q hq;show 0+q.1≠0+d;omega) _,λp hp=>by
  obtain⟨q,hq,rfl⟩:=sB.mp hp;exact lo q hq,λx hx=>by
  rw[wv];exact all x hx]
theorem Nb(ha:a<n):0<=nth (d8 n a) i:=by rw[dt ha];split <;> decide
theorem IK(y:YS goods ws zs)(ha:a<zs.length):∃(d:D) (O:aD) (b:Bool),sW [yD goods ws,.str zs[a]] []=.ok (.tup [.str (if b=ss then "never" else "goes"),d],O)/\(b=ss->(∀x,cR ws.length (cC goods ws) x->nth x a=0)/\∃W,d=vI W/\W.length=goods.length/\(∀i,i<ws.length->0<=bT W (cC goods ws) i)/\0<bT W (cC goods ws) a/\SzL 32400000 W)/\(b=xL->∃p:Nat×List Int,d=.ptr p.1/\O[p.1]? =pr (.lst (p.2.map D.int))/\cR ws.length (cC goods ws) p.2/\SzL 8000 p.2/\0<nth p.2 a):=by
 have zl:=y.zl;have w6:=y.w6;have ep:=Kj (goods:=goods) (a:=a) ⋯ y.nm y.nd ha;have e2:setM 2 (aN 2 m5 (ae (aa 0) (ae (aa 1) ak))) #[[pr (yD goods ws),pr (.str zs[a]),qh,qh,qh],[]]=.next #[[pr (yD goods ws),pr (.str zs[a]),pr (.int (a:Int)),qh,qh],[]]:=bx (cX (aw (ag rfl) (aw (ag rfl) ay)) ep (mP (by simp)) rfl rfl) rfl
 obtain⟨Q,E,ew,sQ,lo,all⟩:=LC y;have fn:=Oj (a:=a) (λp hp=>(lo p hp).1) all;have e3:setM 3 (j8 2 gr (ae (iu (d9 1 tu (ae (aa 0) ak))) (ae (aa 2) ak))) #[[pr (yD goods ws),pr (.str zs[a]),pr (.int (a:Int)),qh,qh],[]]=.next #[[pr (yD goods ws),pr (.str zs[a]),pr (.int (a:Int)),pr (fwD (fwQ Q a)),qh],E]:=bx (xo (aw (ew rfl) (aw (ag rfl) ay)) (DT (a:=a) sQ λp hp=>by rw[(lo p hp).1.fit.len];omega) rfl) rfl
 cases hq:fwQ Q a with
 | some p=>
  rw[hq] at e3;have Y:p∈Q:=VF hq;have pp:0<nth p.2 a:=of_decide_eq_true (Xi (p:=λp:Nat×List Int=>decide (0<nth p.2 a)) hq);refine#[.ptr p.1,E,xL, ?_,(λh=>absurd h ∅),λ_=>#[p,rfl,sQ p Y,(lo p Y).1,(lo p Y).2,pp]];refine dS (R:=[pr (yD goods ws),pr (.str zs[a]),pr (.int (a:Int)),pr (.ptr p.1),qh]) ?_;show vd #[[pr (yD goods ws),pr (.str zs[a]),qh,qh,qh],[]]=_;rw[vd];exact aX e2 (aX e3 (mG (jo (d7 (aL (ag rfl) aB rfl)) rfl (bD (pI (aw aB (aw (ag rfl) ay)) (by simp))))))
 | none=>
  rw[hq] at e3;have id:=fn.mp hq;obtain⟨Ou,eu⟩:=Gh (n:=ws.length) (a:=a) ⋯ ⋯;obtain⟨t,W,Oa,ea,t0,Wl,Wb,Wz⟩:=Je (dem:=d8 ws.length a) y.g4 y.w6 y.hs (by simp[d8]) ((Bj ws.length a).mono ∅) (λz fz=>by rw[Ky ⋯,Ex ⋯ id fz];decide);have en:=rD goods (ws:=ws) ⋯;have J:a8 bY (ae (methP 0 "names" 0 eO (aa 0) ak) ak) #[[pr (yD goods ws),pr (.str zs[a]),pr (.int (a:Int)),pr .non,qh],E]=.ok (.int (ws.length:Int),#[[pr (yD goods ws),pr (.str zs[a]),pr (.int (a:Int)),pr .non,qh],E]):=dI (aw (gB (ns:=FN) (ds:=yDs goods ws) (args:=[]) (ag rfl) ay en ∅ eJ rfl rfl dD) ay) (by rw[eG,t3,t3]);refine#[vI W,E,ss, ?_,λ_=>#[id,W,rfl,Wl,λi hi=>WC (SS (UT t0) (Nb ⋯)) (Wb i hi),Int.lt_of_lt_of_le (by rw[dt ⋯,if_pos rfl];omega) (Wb a ⋯),Wz],λh=>absurd h ∅];refine dS (R:=[pr (yD goods ws),pr (.str zs[a]),pr (.int (a:Int)),pr .non,pr (.tup [.int t,vI W])]) ?_;show vd #[[pr (yD goods ws),pr (.str zs[a]),qh,qh,qh],[]]=_;rw[vd];exact aX e2 (aX e3 (aX (eH (d7 (aL (ag rfl) aB rfl)) rfl cN) (aX (bx (cX (aw (ag rfl) (aw (cX (aw (ag rfl) (aw J ay)) eu (by simp) rfl (by simp)) ay)) ea (mP (gX _)) rfl (by simp)) rfl) (bD (pI (aw aB (aw (aL (ag rfl) aB (sZ rfl)) ay)) (by simp))))))
theorem F9{c:Int}(h:∀j,j<A.length->nth (jH v c w) j=nth v j+c*nth w j):bT (jH v c w) A g=bT v A g+c*bT w A g:=by unfold bT;rw[<- eE,<- nV];exact bL λj J=>by rw[h j J];grind
structure yr(n:Nat)(A:List (List Int))(B:Int)(way:List Int):Prop where
 len:way.length=A.length
 lo:∀t∈way,0<=t/\t<=B
 bal:∀g,g<n->bT way A g=0
abbrev dwR(W:List (List Int))(m:Nat)(c:Int)(way:List Int)(J x5 x6:Option D):List (Option D):=[pr (vII W),pr (.int (m:Int)),pr (.int c),pr (vI way),J,x5,x6]
theorem FO{c:Int}(h1:j<v.length)(h2:j<w.length):nth (jH v c w) j=nth v j+c*nth w j:=by unfold jH nth;rw[re,U3];simp[re,h1,h2]
theorem FD{n m k:Nat}{A W:List (List Int)}{c B:Int}{x6:Option D}(hA:A.length=m)(m6:m<=100)(b:yr n A B way)(wl:w.length=m)(wo:MU n A w)(hB:0<=B/\B<=1000000000000000):
 ∃J y6,lU #[dwR W m c way (pr (.int (k:Int))) (pr (vI w)) x6,[]]=.next #[dwR W m c J (pr (.int (k:Int))) (pr (vI w)) y6,[]]/\yr n A (B+2000000000000) J:=by
 have p0:=ju (c:=c) (t:=100+(k:Int)) (m:=4) ∅;have p1:=mz (c:=c) (t:=100+(k:Int)) (m:=4) ∅;have e6:setM 6 (aN 3 aR (ae (aa 2) (ae (ao bh (au (.int 100)) (aa 4)) (ae (au (.int 4)) ak)))) #[dwR W m c way (pr (.int (k:Int))) (pr (vI w)) x6,[]]=.next #[dwR W m c way (pr (.int (k:Int))) (pr (vI w)) (pr (.int (bU c (100+(k:Int)) 4))),[]]:=bx (fZ (ag rfl) (aL aB (ag rfl) b8) aB ∅) rfl
 generalize bU c (100+(k:Int)) 4=p at e6 p0 p1;have m0:0<=c%1000000000000:=TU _ ∅;have m1:c%1000000000000<1000000000000:=Tq _ ∅;have e7:∃o:Int,ifS (a9 (ao eqD (aN 3 aR (ae (aa 2) (ae (ao bh (au (.int 110)) (aa 4)) (ae (au (.int 4)) ak)))) (au (.int 0)))) (setM 6 (ao ik (aa 2) (ao tR (au (.int 10)) (au (.int 12))))) bX #[dwR W m c way (pr (.int (k:Int))) (pr (vI w)) (pr (.int p)),[]]=.next #[dwR W m c way (pr (.int (k:Int))) (pr (vI w)) (pr (.int o)),[]]/\0<=o/\o<1000000000000:=by
  have t:=eq_test (j:=0) (fZ (s:=#[dwR W m c way (pr (.int (k:Int))) (pr (vI w)) (pr (.int p)),[]]) (ma:=aa 2) (mb:=ao bh (au (.int 110)) (aa 4)) (mc:=au (.int 4)) (ag rfl) (aL aB (ag rfl) b8) aB ∅);cases hb:decide (bU c (110+(k:Int)) 4=0) with
  | true=>exact#[c%1000000000000,jo t hb (bx (aL (ag rfl) (aL aB aB vy) (gE ∅)) rfl),m0,m1]
  | false=>exact#[p,eH t hb cN,p0,⋯]
 obtain⟨o,e7,o0,o1⟩:=e7;have ec:=vZ (l:=way.zip w) (f:=λz=>.int z.1) (g:=λz=>.int z.2) (out:=λz=>.int (z.1+o*z.2)) (caps:=[6]) (im:=kr (ae (aa 3) (ae (aa 5) ak))) (e:=ao bh (aa 0) (ao cG (aa 2) (aa 1))) (k:=qh) (s:=#[dwR W m c way (pr (.int (k:Int))) (pr (vI w)) (pr (.int o)),[]]) (by simp[ji]) trivial (by rw[SJ,b.len];omega) (λz _=>aL (ag rfl) (aL (ag rfl) (ag rfl) (cT (fX (.inl ⋯)))) b8);rw[show (way.zip w).map (λz=>D.int (z.1+o*z.2))=(jH way o w).map D.int by rw[jH,<- zip_map];simp] at ec;have ln:(jH way o w).length=A.length:=by rw[HX (by rw[b.len,wl,hA])];exact b.len
 refine#[jH way o w,pr (.int o), ?_,#[ln,λt ht=> ?_,λg hg=> ?_]];rw[lU];exact aX e6 (aX e7 (bx (R':=dwR W m c (jH way o w) (pr (.int (k:Int))) (pr (vI w)) (pr (.int o))) ec rfl));unfold jH at ht;rw[<- zip_map] at ht;obtain⟨z,hz,rfl⟩:=sB.mp ht;have Y:=Fk (a:=z.1) (b:=z.2) hz;have h1:=b.lo _ Y.1;have h2:=wo.lo _ Y.2;have q:z.2=0\/z.2=1\/z.2=2:=⋯;rcases q with q | q | q <;> rw[q] <;> omega
 rw[F9 λj hj=>FO (by rw[b.len];exact hj) (by rw[wl,<- hA];exact hj),b.bal g hg,wo.bal g hg];simp
theorem IA{n m:Nat}(mv:MvI n 90 A W)(hA:A.length=m)(m6:m<=100)(wl:∀w∈W,w.length=m)(lw:W.length<=10)(c:Int):∃way O,lP [vII W,.int (m:Int),.int c] []=.ok (vI way,O)/\yr n A 100000000000000 way:=by
 have e3:=c7 (l:=wh m) (item:=λi:Nat=>D.int (i:Int)) (out:=λ_=>.int 0) (caps:=[]) (im:=dB (ae (aa 1) ak)) (e:=au (.int 0)) (k:=qh) (s:=#[[pr (vII W),pr (.int (m:Int)),pr (.int c),qh,qh,qh,qh],[]]) (by rw[<- fq];exact eC (aw (ag rfl) ay) ⋯) trivial (by simp;omega) (λ_ _=>aB)
 rw[show (wh m).map (λ_=>D.int 0)=(wn m (0:Int)).map D.int by rw[Vu];simp[Wc]] at e3;have b0:yr n A 0 (wn m 0):=#[by simp[hA],λt J=>by rw[(Vw.mp J).2];decide,λg _=>by
  unfold bT;refine d5 λj _=> ?_;have:nth (wn m (0:Int)) j=0:=by unfold nth;rw[re,IR];split <;> rfl
  rw[this,Tt]]
 obtain⟨s',el,way,x4,x5,Y,bw,ap⟩:=fj (ok:=okC (dR (W.map vI)) qh) (g:=cH (aT (aA 4) (aT (aA 5) cL)) 2) (body:=lU)
  (λpre s=>∃(way:List Int) (x4 x5 Y:Option D),yr n A (2000000000000*(pre.length:Int)) way/\s=#[dwR W m c way x4 x5 Y,[]]) (λ_ _ _=>trivial) (dR (W.map vI)) [] (by rintro pre d rest ed s ⟨way,x4,x5,Y,b,rfl⟩;rw[Cs,kq] at ed;obtain⟨as,rfl⟩:=mZ ed;have hw:W[pre.length]∈W:=NE as;obtain⟨ab,y6,eb,b'⟩:=FD (n:=n) (m:=m) (k:=pre.length) (A:=A) (W:=W) (c:=c) (way:=way) (w:=W[pre.length]) (x6:=Y) hA m6 b (wl _ hw) (mv.ws _ hw) #[⋯,⋯];refine#[_,_,by rw[jx];rfl,.inl eb,ab,_,_,_, ?_,rfl];rw[Do,Re];refine#[b'.len,λt J=> ?_,b'.bal];have:=b'.lo t J;omega) #[dwR W m c (wn m 0) qh qh qh,[]] #[_,qh,qh,qh,(by rw[show (2000000000000:Int)*(([]:List D).length:Int)=0 by simp];exact b0),rfl]
 have az:(([]:List D)++dR (W.map vI)).length=W.length:=by rw[Cs,kq];simp
 rw[az] at bw;refine#[way,[], ?_,bw.len,λt J=>by have:=bw.lo t J;omega,bw.bal];refine dS (R:=dwR W m c way x4 x5 Y) ?_;show sM #[[pr (vII W),pr (.int (m:Int)),pr (.int c),qh,qh,qh,qh],[]]=_;rw[sM];refine aX (bx (R':=dwR W m c (wn m 0) qh qh qh) e3 rfl) (aX ?_ (bD (ag rfl)));refine(d6 (ds:=dR (W.map vI)) (k:=qh) (s1:=#[dwR W m c (wn m 0) qh qh qh,[]]) ?_).trans (el.trans (by rw[ap]));rw[iA,aw (ag rfl) ay,aj]
abbrev Hb(goods:List Str)(ws:List Wk)(way:List Int):Prop:=xa ws.length (cC goods ws) way 9000
theorem Ob(ch:chL goods ws=A)(gl:goods.length=n)(b:yr n A 100000000000000 way):Hb goods ws way:=by
 have wl:ws.length=A.length:=by have:=congrArg TH ch;simpa using this
 refine#[by rw[b.len,wl],λi=> ?_,λr hr=> ?_,λx hx=> ?_,∅,∅];by_cases h:i<way.length;exact(b.lo _ (eI h)).1;rw[dX ⋯];decide;unfold cC at hr;obtain⟨g,J,rfl⟩:=sB.mp hr;have e:jY goods ws g=(chL goods ws).map (nth · g):=by unfold jY chL;rw[wv];rfl
 have h:=b.bal g (by rw[<- gl];exact SA.mp J);rw[<- ch] at h;unfold bT at h;rw[show (chL goods ws).length=ws.length by simp] at h;rw[e,<- h];exact bL λj _=>by rw[ou,S1]
 have:=b.lo x hx;have h:Sz 50 x:=by unfold Sz;omega
 exact h.mono ∅
theorem Ny(f:Hb goods ws way):∀x∈lvL goods ws way,x=0:=λx hx=>by unfold lvL at hx;obtain⟨r,hr,rfl⟩:=sB.mp hx;rw[fT f.len];exact f.st r hr
theorem yd(h1:goods.length<=1000)(h2:ws.length<=1000)(hs:cP 90 (chL goods ws))(f:Hb goods ws way):dk [yD goods ws,vI way] []=.ok (.bl ss,[]):=by
 have Y:HY goods ws way:=#[λw hw g hg t ht=>eZ (m:=90) (n:=9000) ∅ ∅ (hs (goods.map (chg w)) (sB.mpr #[w,hw,rfl]) _ (Hf hg)) (f.sz t ht)];have J:=gB (c:=0) (m:="leaves") (n:=1) (f:=dU) (mo:=aa 0) (ma:=ae (aa 1) ak) (s:=#[[pr (yD goods ws),pr (vI way)],[]]) (ns:=FN) (ds:=yDs goods ws) (args:=[vI way]) (ag rfl) (aw (ag rfl) ay) (uF f.len h1 h2 f.all Y) ∅ eJ (gX way) rfl (by generalize lvL goods ws way=r;simp);have z:=Ny f;have ll:(lvL goods ws way).length=goods.length:=by unfold lvL cC;simp
 generalize lvL goods ws way=L at J z ll;have hc:=c7 (l:=L) (item:=D.int) (out:=λx=>.bl (decide (x=0))) (caps:=[]) (im:=listI (methP 0 "leaves" 1 dU (aa 0) (ae (aa 1) ak))) (e:=ao eqD (aa 0) (au (.int 0))) (k:=qh) (s:=#[[pr (yD goods ws),pr (vI way)],[]]) (by rw[cO,J];rfl) trivial ⋯ (λx _=>aL (ag rfl) aB jL);rw[show L.map (λx=>D.bl (decide (x=0)))=(L.map λx=>decide (x=0)).map D.bl by rw[wv];rfl] at hc;refine dS (R:=[pr (yD goods ws),pr (vI way)]) ?_;show dE #[[pr (yD goods ws),pr (vI way)],[]]=_;rw[dE];refine bD (dI (aw hc ay) ?_);rw[yE,show (L.map λx=>decide (x=0)).all id=ss by rw[US,TZ];intro x hx;exact decide_eq_true (z x hx)]
structure PT(n:Nat)(rows:List (List Int))(fit:List Int)(U:List Sh):Prop where
 good:∀s∈U,0<s.1.1/\0<s.1.2/\SF s.1.1 s.1.2=1/\Sub s.2 fit
 lo:∀s∈U,cR n rows s.2
 nd:(U.map (·.2)).Nodup
 cn:U.length<=cnt fit
 eq:∀i,(psS i U).2=(psS i U).1*nth fit i
 zt:∀s∈U,Sz 80000 s.1.1/\Sz 80000 s.1.2/\SzL 8000 s.2
theorem OK(o:P7 n rows fit T O):PT n rows fit (T.map unp):=
 #[λs hs=>by
  obtain⟨p,hp,rfl⟩:=sB.mp hs;exact o.good p hp,λs hs=>by
  obtain⟨p,hp,rfl⟩:=sB.mp hs;exact o.lo p hp,by rw[wv];exact o.nd,by rw[t3];exact o.cn,o.eq,λs hs=>by
  obtain⟨p,hp,rfl⟩:=sB.mp hs;exact o.zt p hp]
def shT(n:Nat)(s:Tl):Tl:=(s.1,(n+s.2.1,s.2.2))
structure At(d:Nat)(T:List Tl)(O:aD):Prop where
 told:O[d]? =pr (.lst (T.map tD))
 s:∀s∈T,O[s.2.1]? =pr (.lst (s.2.2.map D.int))
 n0:∀s∈T,s.2.1≠d
theorem JE(n:Nat):∀T:List Tl,fL n (T.map tD)=(T.map (shT n)).map tD
 | []=>by simp[fL]
 | s::T=>by
  rw[x0,x0,x0,<- JE n T];conv=>lhs;unfold fL
  congr 1
theorem ME{d:Nat}(S:aD)(h:At d T O):At (S.length+d) (T.map (shT S.length)) (S++O.map (shC S.length)):=by refine#[?_,λs hs=> ?_,λs hs=> ?_];rw[wP ⋯,SR,wT,h.told];simp only[Tn,nZ,JE];obtain⟨p,hp,rfl⟩:=sB.mp hs;show (S++O.map (shC S.length))[S.length+p.2.1]? =pr (.lst (p.2.2.map D.int));rw[wP ⋯,SR,wT,h.s p hp];simp;obtain⟨p,hp,rfl⟩:=sB.mp hs;have:=h.n0 p hp;show S.length+p.2.1≠S.length+d;omega
theorem OZ:(T.map (shT n)).map unp=T.map unp:=by rw[wv];rfl
theorem Hr(g4:goods.length<=5)(w6:ws.length<=7)(hs:cP 90 (chL goods ws))(f:Hb goods ws way):∃d T O,ud [yD goods ws,vI way] []=.ok (.ptr d,O)/\At d T O/\PT ws.length (cC goods ws) way (T.map unp):=by obtain⟨T,O,es,o⟩:=Jj (xK g4 w6 hs) f;have J:=ME [] (#[o.told,o.s,o.n0]:At 0 T O);refine#[_,_,_, ?_,J,by rw[OZ];exact OK o];refine dS (R:=[pr (yD goods ws),pr (vI way)]) ?_;show yX #[[pr (yD goods ws),pr (vI way)],[]]=_;rw[yX];have Y:=gB (c:=0) (m:="balanced") (n:=1) (f:=dk) (mo:=aa 0) (ma:=ae (aa 1) ak) (s:=#[[pr (yD goods ws),pr (vI way)],[]]) (ns:=FN) (ds:=yDs goods ws) (args:=[vI way]) (ag rfl) (aw (ag rfl) ay) (yd ⋯ ⋯ hs f) ∅ eJ (gX way) rfl rfl;refine aX (eH (C7 (d7 Y)) rfl cN) (bD (gY (aw (gB (ns:=FN) (ds:=yDs goods ws) (args:=[]) (ag rfl) ay (xt ⋯ ⋯) ∅ eJ rfl rfl (by rw[gk,gQ])) (aw (dI (aw (gB (ns:=FN) (ds:=yDs goods ws) (args:=[]) (ag rfl) ay (rD goods ⋯) ∅ eJ rfl rfl dD) ay) (by rw[eG,t3,t3])) (aw (ag rfl) ay))) es (by rw[fD,gk,gQ];simp) rfl iy rfl))
theorem A7(n:Nat):∀A:List (List Int),fL n (A.map vI)=A.map vI
 | []=>by simp[fL]
 | x::A=>by
  show fL n (vI x::A.map vI)=_;unfold fL;rw[A7 n A];have:shD n (vI x)=vI x:=by unfold shD;rw[mT]
  rw[this];rfl
abbrev lR(ns:List Int)(hd:Int)(n:Nat)(A W:List (List Int))(goods zs:List Str)(ws:List Wk)(X:List (Option D)):List (Option D):=pr (vI ns)::pr (.int hd)::pr (.int (n:Int))::pr (vII A)::pr (vII W)::pr (sD goods)::pr (sD zs)::pr (yD goods ws)::X
structure Dr(n:Nat)(A W:List (List Int))(goods zs:List Str)(ws:List Wk):Prop where
 nm:ws.map (·.nm)=zs
 znd:zs.Nodup
 zg:∀z∈zs,pA z
 wl:∀w∈W,w.length=A.length
 w4:W.length<=4
 gl:goods.length=n
 n4:n<=4
 al:A.length<=6
 mv:MvI n 90 A W
 ch:chL goods ws=A
theorem Kw(ns:List Int)(x2 x3 x4 x5 x6 x7 x8:Option D)(X:List (Option D))(O:aD){m:SM}{C:Out->Prop}(hm:∀hd n A W goods zs ws O',Dr n A W goods zs ws->∃o,m #[lR ns hd n A W goods zs ws X,O']=o/\C o):
 ∃o,aP (setM 1 (aN 2 cQ (ae (aa 0) (ae (au (.int 0)) ak)))) (aP (setM 2 (ao bh (au (.int 1)) (aN 3 aR (ae (aa 1) (ae (au (.int 45)) (ae (au (.int 4)) ak)))))) (aP (kL (BE (d9 3 iM (ae (aa 0) (ae (au (.int 0)) (ae (aa 2) ak))))) (cH (aT (aA 3) (aT (aA 4) cL)) 2)) (aP (setM 5 (aN 2 fM (ae (ao bh (aa 1) (au (.int 1))) (ae (aa 2) ak)))) (aP (setM 6 (aN 2 fM (ae (aa 1) (ae (a8 bY (ae (aa 3) ak)) ak)))) (aP (setM 7 (xi 0 2 jN (ae (aa 5) (ae (aN 4 iN (ae (aa 3) (ae (aa 5) (ae (aa 6) (ae (aa 1) ak))))) ak)))) m))))) #[pr (vI ns)::x2::x3::x4::x5::x6::x7::x8::X,O]=o/\C o:=by
 obtain⟨hd,k0,_⟩:=sO ns 0;obtain⟨n0,hn,n6⟩:=rj hd 45 (m:=4) ∅;have hn:bU hd 45 4=(n0:Int):=hn;obtain⟨n,en⟩:∃n,n=1+n0:=#[_,rfl];have e2:setM 1 (aN 2 cQ (ae (aa 0) (ae (au (.int 0)) ak))) #[pr (vI ns)::x2::x3::x4::x5::x6::x7::x8::X,O]=.next #[pr (vI ns)::pr (.int hd)::x3::x4::x5::x6::x7::x8::X,O]:=bx (cX (aw (ag rfl) (aw aB ay)) k0 (by simp) rfl rfl) rfl
 have e3:setM 2 (ao bh (au (.int 1)) (aN 3 aR (ae (aa 1) (ae (au (.int 45)) (ae (au (.int 4)) ak))))) #[pr (vI ns)::pr (.int hd)::x3::x4::x5::x6::x7::x8::X,O]=.next #[pr (vI ns)::pr (.int hd)::pr (.int (n:Int))::x4::x5::x6::x7::x8::X,O]:=by
  have:(n:Int)=1+bU hd 45 4:=by rw[hn,en];omega
  rw[this];exact bx (aL aB (fZ (ag rfl) aB aB ∅) b8) rfl
 obtain⟨A,W,Om,kf,em,hA,hW,k1,mv,al,wl,w4⟩:=Kz ns 0 (n:=n) ⋯;have cA:(O++Om.map (shC O.length))[O.length+0]? =pr (.lst (A.map vI)):=by rw[wP ⋯,SR,wT,hA];simp only[Tn,nZ,A7]
 have cW:(O++Om.map (shC O.length))[O.length+kf]? =pr (.lst (W.map vI)):=by rw[wP ⋯,SR,wT,hW];simp only[Tn,nZ,A7]
 have ec:d9 3 iM (ae (aa 0) (ae (au (.int 0)) (ae (aa 2) ak))) #[pr (vI ns)::pr (.int hd)::pr (.int (n:Int))::x4::x5::x6::x7::x8::X,O]=.ok (.tup [.ptr (O.length+0),.ptr (O.length+kf)],#[pr (vI ns)::pr (.int hd)::pr (.int (n:Int))::x4::x5::x6::x7::x8::X,O++Om.map (shC O.length)]):=gY (aw (ag rfl) (aw aB (aw (ag rfl) ay))) em (by simp) rfl (by simp[shD,fL]) rfl;generalize O++Om.map (shC O.length)=O1 at cA cW ec;have ne:O.length+0≠O.length+kf:=⋯;generalize O.length+0=ka at cA ec ne;generalize O.length+kf=kw at cW ec ne;have fz:rK [.ptr ka,.ptr kw] O1=pr ([vII A,vII W],(O1.set ka .dead).set kw .dead):=by unfold rK;rw[cA];dsimp only;unfold rK;rw[cY ne,cW];rfl
 have e4:kL (BE (d9 3 iM (ae (aa 0) (ae (au (.int 0)) (ae (aa 2) ak))))) (cH (aT (aA 3) (aT (aA 4) cL)) 2) #[pr (vI ns)::pr (.int hd)::pr (.int (n:Int))::x4::x5::x6::x7::x8::X,O]=.next #[pr (vI ns)::pr (.int hd)::pr (.int (n:Int))::pr (vII A)::pr (vII W)::x6::x7::x8::X,(O1.set ka .dead).set kw .dead]:=G7 (N1 ec fz) (by rw[jx];rfl)
 generalize (O1.set ka Cell.dead).set kw Cell.dead=Y at e4;obtain⟨goods,Og,eg,gl,gg,ac⟩:=Fd (hd+1) (n:=n) ⋯;have e6:setM 5 (aN 2 fM (ae (ao bh (aa 1) (au (.int 1))) (ae (aa 2) ak))) #[pr (vI ns)::pr (.int hd)::pr (.int (n:Int))::pr (vII A)::pr (vII W)::x6::x7::x8::X,Y]=.next #[pr (vI ns)::pr (.int hd)::pr (.int (n:Int))::pr (vII A)::pr (vII W)::pr (sD goods)::x7::x8::X,Y]:=bx (cX (aw (aL (ag rfl) aB b8) (aw (ag rfl) ay)) eg rfl rfl dD) rfl
 obtain⟨zs,Oz,ez,zl,zg,am⟩:=Fd hd (n:=A.length) ⋯;obtain⟨ws,Oo,eo,bd,an,ap⟩:=IV (A:=A) (goods:=goods) (zs:=zs) hd ac ⋯ (λl hl=>by rw[mv.len l hl,gl]) ⋯ ⋯;have J:ws.map (·.nm)=zs:=by rw[bd,S5 ⋯]
 have ci:ws.length=A.length:=by have:=congrArg TH ap;simpa using this
 have be:Bf goods ws:=#[λw hw=>zg _ (by rw[<- J];exact Hf hw),by rw[J];exact am,λw hw=>(an w hw).us,λw hw=>(an w hw).ms];have bf:dq (wsD ws)=true:=mW ws;have e7:setM 6 (aN 2 fM (ae (aa 1) (ae (a8 bY (ae (aa 3) ak)) ak))) #[pr (vI ns)::pr (.int hd)::pr (.int (n:Int))::pr (vII A)::pr (vII W)::pr (sD goods)::x7::x8::X,Y]=.next #[pr (vI ns)::pr (.int hd)::pr (.int (n:Int))::pr (vII A)::pr (vII W)::pr (sD goods)::pr (sD zs)::x8::X,Y]:=bx (cX (aw (ag rfl) (aw (dI (aw (ag rfl) ay) (by rw[eG,t3])) ay)) ez rfl rfl dD) rfl
 have e8:setM 7 (xi 0 2 jN (ae (aa 5) (ae (aN 4 iN (ae (aa 3) (ae (aa 5) (ae (aa 6) (ae (aa 1) ak))))) ak))) #[pr (vI ns)::pr (.int hd)::pr (.int (n:Int))::pr (vII A)::pr (vII W)::pr (sD goods)::pr (sD zs)::x8::X,Y]=.next #[lR ns hd n A W goods zs ws X,Y]:=by
  have bi:aU [vII A,sD goods,sD zs,.int hd]=true:=by rw[fD,gk,gQ];show (ss&&(aU (goods.map D.str)&&(aU (zs.map D.str)&&(ss&&ss))))=ss;rw[dD,dD];rfl
  have bm:aN 4 iN (ae (aa 3) (ae (aa 5) (ae (aa 6) (ae (aa 1) ak)))) #[pr (vI ns)::pr (.int hd)::pr (.int (n:Int))::pr (vII A)::pr (vII W)::pr (sD goods)::pr (sD zs)::x8::X,Y]=.ok (wsD ws,#[pr (vI ns)::pr (.int hd)::pr (.int (n:Int))::pr (vII A)::pr (vII W)::pr (sD goods)::pr (sD zs)::x8::X,Y]):=cX (aw (ag rfl) (aw (ag rfl) (aw (ag rfl) (aw (ag rfl) ay)))) eo bi rfl bf;have bn:aU [sD goods,wsD ws]=true:=by show (aU (goods.map D.str)&&(aU (ws.map wD)&&ss))=ss;rw[dD,mW];rfl
  exact eX (i:=7) (s':=#[pr (vI ns)::pr (.int hd)::pr (.int (n:Int))::pr (vII A)::pr (vII W)::pr (sD goods)::pr (sD zs)::x8::X,Y]) (LJ (args:=[sD goods,wsD ws]) (aw (ag rfl) (aw bm ay)) bn rfl (Nz gg ac be ⋯ ⋯) eJ)
 obtain⟨o,bp,ho⟩:=hm hd n A W goods zs ws Y #[J,am,zg,wl,w4,gl,⋯,al,mv,ap];exact#[o,aX e2 (aX e3 (aX e4 (aX e6 (aX e7 (aX e8 bp))))),ho]
theorem OO{a b:EM}{p:Bool}{x:D}(h:a s=.ok (.bl p,s1))(hp:p=xL)(h2:b s1=.ok (x,s2)):orV a b s=.ok (x,s2):=by subst hp;rw[JU,h,aj];exact h2
theorem PM{a b:EM}{p:Bool}(h:a s=.ok (.bl p,s1))(hp:p=ss):orV a b s=.ok (.bl ss,s1):=by subst hp;rw[JU,h,aj]
theorem P4{R:List (Option D)}{O:aD}{i j:Nat}{a b:List Int}(hi:R[i]? =pr (pr (vI a)))(J:R[j]? =pr (pr (vI b)))(ha:a.length<=1000)(hm:∀p∈a.zip b,Tj p.1 p.2):a8 pe (ae (bF 2 [] (kr (ae (aa i) (ae (aa j) ak))) (cH (aT (aA 0) (aT (aA 1) cL)) 2) bA (ao cG (aa 0) (aa 1))) ak) #[R,O]=.ok (.int (aC a b),#[R,O]):=by
 have hc:=vZ (l:=a.zip b) (f:=λz=>.int z.1) (g:=λz=>.int z.2) (out:=λz=>.int (z.1*z.2)) (caps:=[]) (im:=kr (ae (aa i) (ae (aa j) ak))) (e:=ao cG (aa 0) (aa 1)) (k:=qh) (s:=#[R,O]) (by rw[G3,aW,ag hi,aj,aW,ag J,aj,ay,aj,aj,aj,<- ji]) trivial (by rw[SJ];omega) (λz hz=>aL (ag rfl) (ag rfl) (cT (hm z hz)))
 rw[show (a.zip b).map (λz=>D.int (z.1*z.2))=(Tf (· * ·) a b).map D.int by rw[Wv,VZ,VZ]] at hc;exact dI (aw hc ay) qW
theorem Oe{l:List Int}(h:0<l.length)(O:aD):∃m∈l,Aq O [vI l]=.ok (.int m):=by
 cases l with
 | nil=>cases h
 | cons n ns=>
  refine#[rQ n ns,yQ ns n, ?_];unfold Aq;dsimp only;rw[show lsD O (vI (n::ns))=pr ((n::ns).map D.int) from gW];dsimp only;rw[xN]
theorem IC{W:List Int}(Y:W.length=goods.length)(hi:i<ws.length):aC W ((chL goods ws).getD i [])=bT W (cC goods ws) i:=by
 have e1:(chL goods ws).getD i []=goods.map (chg ws[i]):=by unfold chL;rw[re,wT,ut hi];rfl
 have rl:(cC goods ws).length=goods.length:=by unfold cC;simp
 rw[e1,fT (n:=goods.length) (by simp)];unfold a6 bT;rw[rl];refine bL λj J=> ?_;have e2:(cC goods ws).getD j []=jY goods ws j:=by unfold cC;rw[re,wT,Tk J];rfl
 have e3:nth (jY goods ws j) i=nth (goods.map (chg ws[i])) j:=by unfold jY;unfold nth;rw[re,wT,ut hi];rfl
 rw[e2,e3]
theorem JP(goods:List Str)(ws:List Wk):nB [yD goods ws] []=.ok (sD goods,[]):=by refine dS (R:=[pr (yD goods ws)]) ?_;show kC #[[pr (yD goods ws)],[]]=_;rw[kC];exact bD (dI (aw (PY rfl rfl) ay) mQ)
theorem cw_ok(h:x.length=goods.length):j7 [yD goods ws,vI x] []=.ok (.non,[]):=by refine Il (R:=[pr (yD goods ws),pr (vI x)]) ?_;show ng #[[pr (yD goods ws),pr (vI x)],[]]=_;rw[ng];refine eH (d7 (aL (dI (aw (ag rfl) ay) eG) (dI (aw (gB (ns:=FN) (ds:=yDs goods ws) (args:=[]) (ag rfl) ay (JP goods ws) ∅ eJ rfl rfl dD) ay) eG) pV)) ?_ cN;rw[t3,t3,h];simp
theorem Hm(h:x.length=goods.length)(J:goods.length<=1000)(hm:∀p∈x.zip y,Tj p.1 p.2):oM [yD goods ws,vI x,vI y] []=.ok (.int (aC x y),[]):=by refine dS (R:=[pr (yD goods ws),pr (vI x),pr (vI y)]) ?_;show vF #[[pr (yD goods ws),pr (vI x),pr (vI y)],[]]=_;rw[vF];exact aX (cV (cX (aw (ag rfl) (aw (ag rfl) ay)) (cw_ok h) (mP (gX _)) rfl rfl)) (bD (cX (aw (ag rfl) (aw (ag rfl) ay)) (sY ⋯ hm) (by simp) rfl rfl))
theorem NS(J:way.length=ws.length)(h1:goods.length<=1000)(h2:ws.length<=1000)(h0:∀t∈way,0<=t)(Y:HY goods ws way):dk [yD goods ws,vI way] []=.ok (.bl ((lvL goods ws way).all λt=>decide (t=0)),[]):=by
 have J:=gB (c:=0) (m:="leaves") (n:=1) (f:=dU) (mo:=aa 0) (ma:=ae (aa 1) ak) (s:=#[[pr (yD goods ws),pr (vI way)],[]]) (ns:=FN) (ds:=yDs goods ws) (args:=[vI way]) (ag rfl) (aw (ag rfl) ay) (uF J h1 h2 h0 Y) ∅ eJ (gX way) rfl (by generalize lvL goods ws way=r;simp);have ll:(lvL goods ws way).length=goods.length:=by unfold lvL cC;simp
 generalize lvL goods ws way=L at J ll;have hc:=c7 (l:=L) (item:=D.int) (out:=λx=>.bl (decide (x=0))) (caps:=[]) (im:=listI (methP 0 "leaves" 1 dU (aa 0) (ae (aa 1) ak))) (e:=ao eqD (aa 0) (au (.int 0))) (k:=qh) (s:=#[[pr (yD goods ws),pr (vI way)],[]]) (by rw[cO,J];rfl) trivial ⋯ (λx _=>aL (ag rfl) aB jL);rw[show L.map (λx=>D.bl (decide (x=0)))=(L.map λx=>decide (x=0)).map D.bl by rw[wv];rfl] at hc;refine dS (R:=[pr (yD goods ws),pr (vI way)]) ?_;show dE #[[pr (yD goods ws),pr (vI way)],[]]=_;rw[dE];refine bD (dI (aw hc ay) ?_);rw[yE,US];rfl
theorem yM{f:Nat->Int}:∀{n:Nat},(∀i,i<n->0<=f i)->(∃i,i<n/\0<f i)->0<bo n f
 | 0,_,#[i,hi,_]=>⋯
 | n+1,h,#[i,hi,hp]=>by
  show 0<bo n f+f n;have h1:=h n ⋯;have h2:0<=bo n f:=by
   by_cases z:∃i,i<n/\0<f i;exact UT (yM (λi hi=>h i ⋯) z);rw[d5 λi hi=> ?_];exact Wg 0;have:=h i ⋯;rcases Int.lt_or_eq_of_le this with q | q
   exact absurd #[i,hi,q] z;exact q.symm
  rcases VU i n with q | q;have:=yM (n:=n) (λi hi=>h i ⋯) #[i,q,hp];omega;have:i=n:=⋯;subst this;omega
theorem Lo{W any good:List Int}(g4:goods.length<=4)(w6:ws.length<=6)(hs:cP 90 (chL goods ws))(Wl:W.length=goods.length)(Wb:∀i,i<ws.length->0<=bT W (cC goods ws) i)(W0:0<bT W (cC goods ws) a)(Wz:SzL 32400000 W)(ha:a<ws.length)(al:any.length=ws.length)(an:∀t∈any,0<=t/\t<=3)(gl:good.length=ws.length)(g0:nth good a=0):
 ∃O,ow [yD goods ws,vII (chL goods ws),vI W,.int (a:Int),vI any,vI good] []=.ok (.bl ss,O):=by
 have cl:(chL goods ws).length=ws.length:=by simp[chL]
 have az:SzL 2 any:=λt Y=>by have:=an t Y;unfold Sz;omega
 have eb:=c7 (l:=chL goods ws) (item:=vI) (out:=λr=>.int (aC W r)) (caps:=[2]) (im:=listI (aa 1)) (e:=a8 pe (ae (bF 2 [] (kr (ae (aa 1) (ae (aa 0) ak))) (cH (aT (aA 0) (aT (aA 1) cL)) 2) bA (ao cG (aa 0) (aa 1))) ak)) (k:=qh) (s:=#[[pr (yD goods ws),pr (vII (chL goods ws)),pr (vI W),pr (.int (a:Int)),pr (vI any),pr (vI good),qh,qh],[]]) (by rw[cO,ag (i:=1) rfl,aj];rfl) trivial ⋯ (λr hr=>P4 rfl rfl ⋯ λp hp=>eZ (m:=32400000) (n:=90) ∅ ∅ (Wz _ (Fk (a:=p.1) (b:=p.2) hp).1) (hs r hr _ (Fk (a:=p.1) (b:=p.2) hp).2));have ac:∀L:List (List Int),L.map (λr=>D.int (aC W r))=(L.map (aC W)).map D.int:=λL=>by rw[wv];rfl
 rw[ac] at eb;obtain⟨B,hB⟩:∃B,B=(chL goods ws).map (aC W):=#[_,rfl];have Bl:B.length=ws.length:=by rw[hB,t3,cl]
 have Bn:∀i,i<ws.length->nth B i=bT W (cC goods ws) i:=λi hi=>by rw[<- IC Wl hi,hB];unfold nth;rw[re,wT,re,ut ⋯];rfl
 have Bz:SzL 32400100 B:=λx hx=>by rw[hB] at hx;obtain⟨r,hr,rfl⟩:=sB.mp hx;exact(nG Wz (hs r hr) ⋯).mono ∅
 have Bp:∀x∈B,0<=x:=λx hx=>by obtain⟨i,hi,rfl⟩:=SX hx;have:=Wb i ⋯;rw[<- Bn i ⋯] at this;unfold nth at this;rw[re,ut hi] at this;exact this
 rw[<- hB] at eb;obtain⟨m,hm,em⟩:=Oe (l:=B) ⋯ [];have m0:=Bp m hm;have ed:=P4 (R:=[pr (yD goods ws),pr (vII (chL goods ws)),pr (vI W),pr (.int (a:Int)),pr (vI any),pr (vI good),pr (vI B),qh]) (O:=[]) (i:=6) (j:=4) (a:=B) (b:=any) rfl rfl ⋯ λp hp=>eZ (m:=32400100) (n:=2) ∅ ∅ (Bz _ (Fk (a:=p.1) (b:=p.2) hp).1) (az _ (Fk (a:=p.1) (b:=p.2) hp).2);have mw:HY goods ws any:=#[λw hw g hg t Y=>eZ (m:=90) (n:=2) ∅ ∅ (hs (goods.map (chg w)) (sB.mpr #[w,hw,rfl]) _ (Hf hg)) (az t Y)];have lv:=uF al ⋯ ⋯ (λt Y=>(an t Y).1) mw;have Ll:(lvL goods ws any).length=goods.length:=by unfold lvL cC;simp
 have Lz:SzL 102 (lvL goods ws any):=λx hx=>by unfold lvL at hx;obtain⟨r,hr,rfl⟩:=sB.mp hx;exact(nG (Gm hs r hr) az (by rw[ub r hr];omega)).mono ∅
 have dw:aC W (lvL goods ws any)=aC B any:=by
  have rl:(cC goods ws).length=goods.length:=by unfold cC;simp
  rw[fT (n:=goods.length) Ll,fT al,AF Bn,DN,rl];refine bL λj hj=> ?_;have e:nth (lvL goods ws any) j=aC ((cC goods ws).getD j []) any:=by unfold lvL nth;rw[re,wT,re,ut ⋯];rfl
  rw[e,fT al];rfl
 have bl:=NS al ⋯ ⋯ (λt Y=>(an t Y).1) mw;have pl:aU [vI any]=true:=gX any;have am:methP 0 "leaves" 1 dU (aa 0) (ae (aa 4) ak) #[[pr (yD goods ws),pr (vII (chL goods ws)),pr (vI W),pr (.int (a:Int)),pr (vI any),pr (vI good),pr (vI B),pr (.int (aC B any))],[]]=.ok (vI (lvL goods ws any),#[[pr (yD goods ws),pr (vII (chL goods ws)),pr (vI W),pr (.int (a:Int)),pr (vI any),pr (vI good),pr (vI B),pr (.int (aC B any))],[]]):=gB (ns:=FN) (ds:=yDs goods ws) (args:=[vI any]) (ag rfl) (aw (ag rfl) ay) lv ∅ eJ pl rfl (by generalize lvL goods ws any=r;simp);have a4:methP 0 "balanced" 1 dk (aa 0) (ae (aa 4) ak) #[[pr (yD goods ws),pr (vII (chL goods ws)),pr (vI W),pr (.int (a:Int)),pr (vI any),pr (vI good),pr (vI B),pr (.int (aC B any))],[]]=.ok (.bl ((lvL goods ws any).all λt=>decide (t=0)),#[[pr (yD goods ws),pr (vII (chL goods ws)),pr (vI W),pr (.int (a:Int)),pr (vI any),pr (vI good),pr (vI B),pr (.int (aC B any))],[]]):=gB (ns:=FN) (ds:=yDs goods ws) (args:=[vI any]) (ag rfl) (aw (ag rfl) ay) bl ∅ eJ pl rfl rfl;have ew:aN 3 oM (ae (aa 0) (ae (aa 2) (ae (methP 0 "leaves" 1 dU (aa 0) (ae (aa 4) ak)) ak))) #[[pr (yD goods ws),pr (vII (chL goods ws)),pr (vI W),pr (.int (a:Int)),pr (vI any),pr (vI good),pr (vI B),pr (.int (aC B any))],[]]=.ok (.int (aC B any),#[[pr (yD goods ws),pr (vII (chL goods ws)),pr (vI W),pr (.int (a:Int)),pr (vI any),pr (vI good),pr (vI B),pr (.int (aC B any))],[]]):=by rw[<- dw] at am ⊢;exact cX (aw (ag rfl) (aw (ag rfl) (aw am ay))) (Hm Wl ⋯ λp hp=>eZ (m:=32400000) (n:=102) ∅ ∅ (Wz _ (Fk (a:=p.1) (b:=p.2) hp).1) (Lz _ (Fk (a:=p.1) (b:=p.2) hp).2)) (mP (by generalize lvL goods ws any=r;simp)) rfl rfl
 have J:nth any a≠0->0<aC B any:=λq=>by rw[fT al];refine yM (λi hi=>SS (by rw[Bn i hi];exact Wb i hi) (an _ (eI ⋯)).1) #[a,ha,S7 (by rw[Bn a ha];exact W0) ?_];have:=(an _ (eI (r:=any) (show a<any.length by omega))).1;omega
 have ap:0<aC B any->((lvL goods ws any).all λt=>decide (t=0))=false:=λq=>by
  rw[WO];intro z;rw[<- dw,fT (n:=goods.length) Ll] at q;have:a6 goods.length (nth W) (nth (lvL goods ws any))=0:=d5 λj hj=>by have:=of_decide_eq_true (TZ.mp z _ (eI (r:=lvL goods ws any) (show j<_ by omega)));rw[this,TN]
  omega
 refine#[[],dS (R:=[pr (yD goods ws),pr (vII (chL goods ws)),pr (vI W),pr (.int (a:Int)),pr (vI any),pr (vI good),pr (vI B),pr (.int (aC B any))]) ?_];show rG #[[pr (yD goods ws),pr (vII (chL goods ws)),pr (vI W),pr (.int (a:Int)),pr (vI any),pr (vI good),qh,qh],[]]=_;rw[rG];refine aX (bx (R':=[pr (yD goods ws),pr (vII (chL goods ws)),pr (vI W),pr (.int (a:Int)),pr (vI any),pr (vI good),pr (vI B),qh]) eb rfl) (aX (eH (C9 (d7 (aL (aL (ag rfl) (ag rfl) (fY ⋯)) aB pV)) (by rw[g0];rfl) (d7 (aL (dI (aw (ag rfl) ay) em) aB iX))) (decide_eq_false ⋯) cN) (aX (bx (R':=[pr (yD goods ws),pr (vII (chL goods ws)),pr (vI W),pr (.int (a:Int)),pr (vI any),pr (vI good),pr (vI B),pr (.int (aC B any))]) ed rfl) (aX (eH (d7 (aL ew (ag rfl) pV)) (by simp) cN) (bD ?_))));by_cases q:nth any a=0;exact PM (aL (aL (ag rfl) (ag rfl) (fY ⋯)) aB jL) (decide_eq_true q);refine OO (aL (aL (ag rfl) (ag rfl) (fY ⋯)) aB jL) (decide_eq_false q) (NP (aL (ag rfl) aB AO) (decide_eq_true (J q)) (aL a4 aB ?_));rw[ap (J q)];rfl
abbrev nR(ns:List Int)(hd:Int)(n:Nat)(A W:List (List Int))(goods zs:List Str)(ws:List Wk)(good:List Int)(x9 x10 x11 J Y:Option D):List (Option D):=lR ns hd n A W goods zs ws [pr (vI good),x9,x10,x11,J,Y]
theorem Qz(h:PT n rows fit (T.map unp))(ha:0<nth fit a):T.length≠0:=λe=>by have J:T=[]:=List.eq_nil_of_length_eq_zero e;subst J;have:=h.eq a;have:(0:Int)=1*nth fit a:=this;omega
theorem LA{n a:Nat}{R:List (List Int)}{x g:List Int}(lo:cR n R x)(z:SzL 8000 x)(f:xa n R g 9000)(J:SzL 50 g):xa n R ((x.zip g).map λq=>q.1+q.2) 9000/\∀i,i<n->nth ((x.zip g).map λq=>q.1+q.2) i=nth x i+nth g i:=by
 have xl:=lo.fit.len;have gl:=f.len;have hn:∀i,i<n->nth ((x.zip g).map λq=>q.1+q.2) i=nth x i+nth g i:=λi hi=>by unfold nth;rw[re,wT,ut (by rw[SJ];omega),re,re,ut (show i<x.length by omega),ut (show i<g.length by omega)];simp
 refine#[#[by rw[t3,SJ];omega,λi=> ?_,λr hr=> ?_,λt Y=> ?_,∅,∅],hn];by_cases h:i<n;rw[hn i h];have h1:=lo.fit.nn i;have h2:=f.nn i;omega;rw[dX (by rw[t3,SJ];omega)];decide;have h1:=lo.fit.st r hr;have h2:=f.st r hr;have:a6 n (nth r) (nth ((x.zip g).map λq=>q.1+q.2))=a6 n (nth r) (nth x)+a6 n (nth r) (nth g):=by unfold a6;rw[<- nV];exact bL λi hi=>by rw[hn i hi,Int.mul_add]
 rw[this,h1,h2];rfl;obtain⟨q,hq,rfl⟩:=sB.mp Y;exact((z _ (Fk (a:=q.1) (b:=q.2) hq).1).add (J _ (Fk (a:=q.1) (b:=q.2) hq).2)).mono ∅
theorem J8{hd:Int}{n:Nat}{A W:List (List Int)}{goods zs:List Str}{ws:List Wk}{good:List Int}{a:Nat}{Y:Int}(k6:cQ [vI ns,.int ((6:Nat):Int)] []=.ok (.int Y,[]))(al:A.length<=6)(x10 x11 ab J:Option D)(O:aD):
 setM 12 (bF 1 [9,0] (dB (ae (a8 bY (ae (aa 3) ak)) ak)) (aA 0) bA (aN 3 aR (ae (ao bh (aN 2 cQ (ae (aa 2) (ae (au (.int 6)) ak))) (aa 1)) (ae (ao bh (au (.int 10)) (aa 0)) (ae (au (.int 4)) ak))))) #[nR ns hd n A W goods zs ws good (pr (.int (a:Int))) x10 x11 ab J,O]=.next #[nR ns hd n A W goods zs ws good (pr (.int (a:Int))) x10 x11 (pr (vI ((wh A.length).map λk:Nat=>bU (Y+(a:Int)) (10+(k:Int)) 4))) J,O]:=by
 have ec:=c7 (l:=wh A.length) (item:=λk:Nat=>D.int (k:Int)) (out:=λk:Nat=>.int (bU (Y+(a:Int)) (10+(k:Int)) 4)) (caps:=[9,0]) (im:=dB (ae (a8 bY (ae (aa 3) ak)) ak)) (e:=aN 3 aR (ae (ao bh (aN 2 cQ (ae (aa 2) (ae (au (.int 6)) ak))) (aa 1)) (ae (ao bh (au (.int 10)) (aa 0)) (ae (au (.int 4)) ak)))) (k:=qh) (s:=#[nR ns hd n A W goods zs ws good (pr (.int (a:Int))) x10 x11 ab J,O]) (by rw[<- fq];exact eC (aw (dI (aw (ag rfl) ay) (by rw[eG,t3])) ay) ⋯) trivial (by simp;omega) (λk _=>fZ (aL (cX (aw (ag rfl) (aw aB ay)) k6 (by simp) rfl rfl) (ag rfl) b8) (aL aB (ag rfl) b8) aB ∅)
 rw[show (wh A.length).map (λk:Nat=>D.int (bU (Y+(a:Int)) (10+(k:Int)) 4))=((wh A.length).map λk:Nat=>bU (Y+(a:Int)) (10+(k:Int)) 4).map D.int by rw[wv];rfl] at ec;exact bx ec rfl
theorem M1{ns:List Int}{hd:Int}{good:List Int}(dr:Dr n A W goods zs ws)(bw:yr n A 100000000000000 good)(ha:a<A.length)(x10 x11 ab Y:Option D)(O:aD):
 ∃bb bd be bi O',sS #[nR ns hd n A W goods zs ws good (pr (.int (a:Int))) x10 x11 ab Y,O]=.next #[nR ns hd n A W goods zs ws good (pr (.int (a:Int))) bb bd be bi,O']:=by
 have an:=dr.ch;have a2:ws.length=A.length:=by have:=congrArg TH an;simpa using this
 have n4:=dr.n4;have al:=dr.al;have gl:=dr.gl;have hs:cP 90 (chL goods ws):=by rw[dr.ch];exact dr.mv.sz
 have y:YS goods ws zs:=#[⋯,⋯,hs,dr.nm,dr.znd];have zl:zs.length=A.length:=by rw[y.zl];exact a2
 obtain⟨c6,k6,_⟩:=sO ns 6;have bf:=Ob an gl bw;have bz:SzL 50 good:=λx hx=>by have:=bw.lo x hx;unfold Sz;omega
 have ha':a<zs.length:=⋯;obtain⟨d,Os,b,es,bm,bn⟩:=IK y ha';rw[sS];have bp:((wh A.length).map λk:Nat=>bU (c6+(a:Int)) (10+(k:Int)) 4).length=ws.length:=by simp[a2]
 have bt:∀t∈(wh A.length).map λk:Nat=>bU (c6+(a:Int)) (10+(k:Int)) 4,0<=t/\t<=3:=λt ht=>by obtain⟨k,_,rfl⟩:=sB.mp ht;obtain⟨r,e,hr⟩:=rj (c6+(a:Int)) (10+(k:Int)) (m:=4) ∅;have e:bU (c6+(a:Int)) (10+(k:Int)) 4=(r:Int):=e;omega
 cases b with
 | true=>
  obtain⟨id,W',rfl,Wl,Wb,W0,Wz⟩:=bm rfl;have ac:kL (d9 2 sW (ae (aa 7) (ae (ao ixD (aa 6) (aa 9)) ak))) (cH (aT (aA 10) (aT (aA 11) cL)) 2) #[nR ns hd n A W goods zs ws good (pr (.int (a:Int))) x10 x11 ab Y,O]=.next #[nR ns hd n A W goods zs ws good (pr (.int (a:Int))) (pr (.str "never")) (pr (vI W')) ab Y,O++Os.map (shC O.length)]:=G7 (gY (y:=.tup [.str "never",vI W']) (aw (ag rfl) (aw (aL (ag rfl) (ag rfl) (Ar ha')) ay)) es (mP (by simp)) rfl (by simp[shD,fL,mT]) rfl) (by rw[jx];rfl)
  have g0:nth good a=0:=by have h0:=bf.nn a;by_cases q:nth good a=0;exact q;exact Ex ⋯ id #[bf.len,bf.nn,bf.st,#[a,⋯]]
  obtain⟨On,en⟩:=Lo ⋯ ⋯ hs Wl Wb W0 Wz ⋯ bp bt bf.len g0;rw[an] at en;exact#[_,_,_,_,_,aX ac (aX (J8 k6 al _ _ _ _ _) (jo (d7 (aL (ag rfl) aB rfl)) rfl (eH (C7 (d7 (cX (aw (ag rfl) (aw (ag rfl) (aw (ag rfl) (aw (ag rfl) (aw (ag rfl) (aw (ag rfl) ay)))))) en (mP (by rw[fD,gk,gQ];generalize ((wh A.length).map λk:Nat=>bU (c6+(a:Int)) (10+(k:Int)) 4)=v;simp)) rfl rfl))) rfl cN)))]
 | false=>
  obtain⟨p,rfl,hp,lo,pz,pp⟩:=bn rfl;have ac:kL (d9 2 sW (ae (aa 7) (ae (ao ixD (aa 6) (aa 9)) ak))) (cH (aT (aA 10) (aT (aA 11) cL)) 2) #[nR ns hd n A W goods zs ws good (pr (.int (a:Int))) x10 x11 ab Y,O]=.next #[nR ns hd n A W goods zs ws good (pr (.int (a:Int))) (pr (.str "goes")) (pr (.ptr (O.length+p.1))) ab Y,O++Os.map (shC O.length)]:=G7 (gY (y:=.tup [.str "goes",.ptr (O.length+p.1)]) (aw (ag rfl) (aw (aL (ag rfl) (ag rfl) (Ar ha')) ay)) es (mP (by simp)) rfl (by simp[shD,fL]) rfl) (by rw[jx];rfl)
  have cp:(O++Os.map (shC O.length))[O.length+p.1]? =pr (.lst (p.2.map D.int)):=by rw[wP ⋯,SR,wT,hp];simp only[Tn,nZ,mT]
  generalize O++Os.map (shC O.length)=O1 at ac cp;generalize O.length+p.1=d1 at ac cp;have a4:=J8 (hd:=hd) (n:=n) (W:=W) (goods:=goods) (zs:=zs) (ws:=ws) (good:=good) (a:=a) k6 al (pr (.str "goes")) (pr (.ptr d1)) ab Y O1;generalize ((wh A.length).map λk:Nat=>bU (c6+(a:Int)) (10+(k:Int)) 4)=any at a4;obtain⟨ff,fn⟩:=LA (a:=a) lo pz bf bz;have cb:=lo.fit.len;have as:=Ba (l:=p.2.zip good) (f:=λq=>.int q.1) (g:=λq=>.int q.2) (out:=λq=>.int (q.1+q.2)) (caps:=[]) (im:=tx (ae (aa 11) (ae (aa 8) ak))) (e:=ao bh (aa 0) (aa 1)) (s:=#[nR ns hd n A W goods zs ws good (pr (.int (a:Int))) (pr (.str "goes")) (pr (.ptr d1)) (pr (vI any)) Y,O1]) (ok:=λO=>lsD O (.ptr d1)=pr (p.2.map D.int)/\lsD O (vI good)=pr (good.map D.int)) (by rw[DC (as:=p.2.map D.int) (bs:=good.map D.int) (aw (ag (i:=11) rfl) (aw (ag (i:=8) rfl) ay)) (jg cp) gW,ji]) #[jg cp,gW] (by rw[SJ];omega) (λq _=>aL (ag rfl) (ag rfl) b8)
  rw[show (p.2.zip good).map (λq=>D.int (q.1+q.2))=((p.2.zip good).map λq=>q.1+q.2).map D.int by rw[wv];rfl] at as;have fa:=fn a ⋯;generalize ((p.2.zip good).map λq=>q.1+q.2)=J at as ff fa;have g0:=bf.nn a;obtain⟨dd,T,Op,ep,b1,pt⟩:=Hr ⋯ ⋯ hs ff;have tn:=Qz pt (a:=a) ⋯;have b2:=ME O1 b1;have a5:methP 0 "balanced" 1 dk (aa 7) (ae (aa 13) ak) #[nR ns hd n A W goods zs ws good (pr (.int (a:Int))) (pr (.str "goes")) (pr (.ptr d1)) (pr (vI any)) (pr (vI J)),O1]=.ok (.bl ss,#[nR ns hd n A W goods zs ws good (pr (.int (a:Int))) (pr (.str "goes")) (pr (.ptr d1)) (pr (vI any)) (pr (vI J)),O1]):=gB (ns:=FN) (ds:=yDs goods ws) (args:=[vI J]) (ag rfl) (aw (ag rfl) ay) (yd ⋯ ⋯ hs ff) ∅ eJ (gX J) rfl rfl;refine#[_,_,_,_,_,aX ac (aX a4 (eH (d7 (aL (ag rfl) aB rfl)) rfl (aX (bx (R':=nR ns hd n A W goods zs ws good (pr (.int (a:Int))) (pr (.str "goes")) (pr (.ptr d1)) (pr (vI any)) (pr (vI J))) as rfl) (eH (C9 (d7 (aL (aL (ag rfl) (ag rfl) (pU cp ⋯)) aB iX)) (decide_eq_false ⋯) (C9 (d7 (aL a5 aB rfl)) rfl (d7 (aL (dI (aw (ot (gY (aw (ag rfl) (aw (ag rfl) ay)) ep (mP (gX J)) rfl iy rfl) b2.told rfl) ay) eG) aB jL)))) (decide_eq_false ?_) cN))))];rw[t3,t3];omega
theorem K4(ns:List Int)(h:ns.length<=63):∃O,Dh [.lst (ns.map D.int)] []=.ok (.bl ss,O):=by
 suffices main:∃o,HI #[[pr (vI ns),qh,qh,qh,qh,qh,qh,qh,qh,qh,qh,qh,qh,qh],[]]=o/\∃s,o=Out.ret (.bl ss) s by obtain⟨o,h,s,rfl⟩:=main;exact kO #[s,h]
 rw[HI];refine Kw ns qh qh qh qh qh qh qh [qh,qh,qh,qh,qh,qh] [] λhd n A W goods zs ws J dr=> ?_;have al:=dr.al;have w4:=dr.w4;obtain⟨c5,k5,_⟩:=sO ns 5;obtain⟨good,Og,eg,bw⟩:=IA dr.mv rfl ⋯ dr.wl ⋯ c5;have e8:setM 8 (aN 3 lP (ae (aa 4) (ae (a8 bY (ae (aa 3) ak)) (ae (aN 2 cQ (ae (aa 0) (ae (au (.int 5)) ak))) ak)))) #[lR ns hd n A W goods zs ws [qh,qh,qh,qh,qh,qh],J]=.next #[nR ns hd n A W goods zs ws good qh qh qh qh qh,J]:=bx (cX (aw (ag rfl) (aw (dI (aw (ag rfl) ay) (by rw[eG,t3])) (aw (cX (aw (ag rfl) (aw aB ay)) k5 (by simp) rfl rfl) ay))) eg (by rw[fD,gk,gQ];rfl) rfl (by simp)) rfl
 obtain⟨s',el,y9,as,az,a1,a2,O',a3⟩:=CM (ok:=okC (dY 0 (A.length:Int)) qh) (g:=aA 9) (body:=sS)
  (λs=>∃x9 Y ab ac am O,s=#[nR ns hd n A W goods zs ws good x9 Y ab ac am,O]) (λ_ _=>trivial) (dY 0 (A.length:Int)) (by rintro dd ap s ⟨x9,Y,ab,ac,am,O,rfl⟩;rw[fq] at ap;obtain⟨a,ha,rfl⟩:=sB.mp ap;obtain⟨as,az,a1,a2,O',e⟩:=M1 (ns:=ns) (hd:=hd) dr bw (SA.mp ha) Y ab ac am O;exact#[#[nR ns hd n A W goods zs ws good (pr (.int (a:Int))) Y ab ac am,O],_,rfl,.inl e,_,_,_,_,_,_,rfl]) #[nR ns hd n A W goods zs ws good qh qh qh qh qh,J] #[_,_,_,_,_,_,rfl]
 have hf:=d6 (im:=dB (ae (a8 bY (ae (aa 3) ak)) ak)) (g:=aA 9) (body:=sS) (ds:=dY 0 (A.length:Int)) (k:=qh) (s:=#[nR ns hd n A W goods zs ws good qh qh qh qh qh,J]) (s1:=#[nR ns hd n A W goods zs ws good qh qh qh qh qh,J]) (eC (aw (dI (aw (ag rfl) ay) (by rw[eG,t3])) ay) ⋯);rw[el,a3] at hf;exact#[_,aX e8 (aX hf (bD aB)),_,rfl]
theorem all_mk {l:V5} {w:IN} {K:uY} {h:Rs} {mg:Str->Option sn} {fa eP eQ e0 e4 e5 e6 e7 e8 ga ac:sK} (X:K.In h) (G:h.Ns mainGlobals mg) (km:mg "law" =pr (.ref fa)) (J:l.prog.given.tree=qh)
 {gt gx gz gF gI gS g0 g1 g2 g3 g8 he hf hg hh hj hl fl:Option sK} {ho ht hv hw hA hB hC hD hF:Array (Option sn)} {hG hH hI hK fr hL hM hN hO hP fw hQ hR hS hT hV fx hW hX hY h3 h4 fy h5 h6 h7 h8 h9 fz ia ih ii ij il f0 io is iv iw ix f1 iP iS i0 i1 i2 f2 i7 jp f3 f4 f5 eo f8:sn} {cn cA cB:Tok}
 (d1:SG K mainGlobals "Yard" =pr (pr (.ref ac)))
 (ep:UD K ac Str.empty=ss)
 (er:UX K ac=ss)
 (et:VD K ac=ss)
 (eu:Jn K (.ref ac) "__setattr__" =pr (pr (.builtin "object.__setattr__")))
 (ev:Wa K ac=ss)
 (ew:SO K (.ref ac)=ss)
 (bm:Jn K (.ref ac) "held_changes" =pr qh)
 (bt:Jn K (.ref ac) "held_goods" =pr qh)
 (bv:Jn K (.ref ac) "held_works" =pr qh)
 (l0:FK K "is_whole" uy)
 (l1:FK K "measure_of_two" mr)
 (l2:FK K "measure" vE)
 (l3:FK K "lowest" yP)
 (l4:FK K "ratio" BI)
 (l5:FK K "sum_of_products" lu)
 (l6:FK K "unit" Em)
 (l7:FK K "units" AI)
 (l8:FK K "offset" yU)
 (l9:FK K "column" zF)
 (kn:FK K "first_not_nought" ke)
 (kt:FK K "with_sign_above" lr)
 (ku:FK K "cleared" va)
 (k0:FK K "plain" Bq)
 (k1:FK K "still_by_one_more" jS)
 (k2:FK K "still" AL)
 (k3:FK K "made_of" we)
 (k4:FK K "places_of" rL)
 (k5:FK K "is_among" uc)
 (k6:FK K "are_neighbours" mC)
 (la:FK K "lone_by_one_more" kh)
 (lb:FK K "lone" Fl)
 (lc:FK K "check_fit" rM)
 (lf:FK K "tightest_place" mH)
 (lg:FK K "shares" zf)
 (lh:Jn K (.ref ac) "row" =pr (pr (.ref eP)))
 (li:Tz K (.ref eP)=ss)
 (lk:K.lookup eP=pr #[hG,gt,.func (SH "row" "Yard.row" (eK kS) (d3 kS) (aM kS) .none hH hI hK gx fr hL),ho])
 (lm:S3 K fr "Yard.row" =ss)
 (js:SO K (.ref eP)=ss)
 (ln:Jn K (.ref ac) "rows" =pr (pr (.ref eQ)))
 (lp:Tz K (.ref eQ)=ss)
 (lq:K.lookup eQ=pr #[hM,gz,.func (SH "rows" "Yard.rows" (eK jP) (d3 jP) (aM jP) .none hN hO hP gF fw hQ),ht])
 (lx:S3 K fw "Yard.rows" =ss)
 (j0:SO K (.ref eQ)=ss)
 (ly:Jn K (.ref ac) "names" =pr (pr (.ref e0)))
 (lz:Tz K (.ref e0)=ss)
 (lA:K.lookup e0=pr #[hR,gI,.func (SH "names" "Yard.names" (eK iY) (d3 iY) (aM iY) .none hS hT hV gS fx hW),hv])
 (lB:S3 K fx "Yard.names" =ss)
 (ka:SO K (.ref e0)=ss)
 (lT:FK K "ways" DZ)
 (mc:Jn K (.ref ac) "check_way" =pr (pr (.ref e4)))
 (mi:Tz K (.ref e4)=ss)
 (mk:K.lookup e4=pr #[hX,g0,.func (SH "check_way" "Yard.check_way" (eK f9) (d3 f9) (aM f9) .none hY h3 h4 g1 fy h5),hw])
 (mm:S3 K fy "Yard.check_way" =ss)
 (kd:SO K (.ref e4)=ss)
 (mp:Jn K (.ref ac) "leaves" =pr (pr (.ref e5)))
 (mq:Tz K (.ref e5)=ss)
 (mu:K.lookup e5=pr #[h6,g2,.func (SH "leaves" "Yard.leaves" (eK iz) (d3 iz) (aM iz) .none h7 h8 h9 g3 fz ia),hA])
 (mw:S3 K fz "Yard.leaves" =ss)
 (kf:SO K (.ref e5)=ss)
 (mB:Jn K (.ref ac) "balanced" =pr (pr (.ref e6)))
 (mE:Tz K (.ref e6)=ss)
 (m0:K.lookup e6=pr #[ih,g8,.func (SH "balanced" "Yard.balanced" (eK gA) (d3 gA) (aM gA) .none ii ij il he f0 io),hB])
 (m1:S3 K f0 "Yard.balanced" =ss)
 (kg:SO K (.ref e6)=ss)
 (m2:FK K "parted" yA)
 (m3:FK K "place_of" uK)
 (m6:FK K "first_with" qJ)
 (m7:FK K "weights_above" nk)
 (na:FK K "seen" Ft)
 (nb:Jn K (.ref ac) "goods" =pr (pr (.ref e7)))
 (nc:Tz K (.ref e7)=ss)
 (nd:K.lookup e7=pr #[is,hf,.func (SH "goods" "Yard.goods" (eK jd) (d3 jd) (aM jd) .none iv iw ix hg f1 iP),hC])
 (nf:S3 K f1 "Yard.goods" =ss)
 (kk:SO K (.ref e7)=ss)
 (nh:FK K "check_weights" nt)
 (nl:FK K "weighed" vU)
 (nn:FK K "is_name" vG)
 (no:FK K "check_many" qc)
 (nu:FK K "check_name" qy)
 (nw:FK K "check_goods" oV)
 (ny:FK K "check_good" qv)
 (nz:FK K "check_amount" nW)
 (nL:FK K "check_parts" oW)
 (nQ:FK K "check_works" oX)
 (nT:FK K "copy_work" rP)
 (n1:FK K "amount_of" sq)
 (n2:FK K "change_of" rZ)
 (n3:Jn K (.ref ac) "__init__" =pr (pr (.ref e8)))
 (n6:Tz K (.ref e8)=ss)
 (ob:K.lookup e8=pr #[iS,hh,.func (SH "__init__" "Yard.__init__" (eK jJ) (d3 jJ) (aM jJ) .none i0 i1 i2 hj f2 i7),hD])
 (oc:S3 K f2 "Yard.__init__" =ss)
 (od:SO K (.ref e8)=ss)
 (oe:FK K "_law_cell" tP)
 (oj:FK K "_law_pick" uA)
 (ol:FK K "_law_names" rX)
 (on:FK K "_law_move" tT)
 (ov:FK K "_law_moves" rW)
 (oD:FK K "_law_works" sj)
 (oL:FK K "_law_drawn" rJ)
 (oT:FK K "_law_never" sf)
 (kl:SG K mainGlobals "law" =pr (pr (.ref ga)))
 (o0:K.lookup ga=pr #[jp,hl,.func (SH "law" "law" (eK pM) (d3 pM) (aM pM) .none f3 f4 f5 fl eo f8),hF])
 (o1:S3 K eo "law" =ss)
 (o2:SO K (.ref ga)=ss)
 (cW:SG K mainGlobals "isinstance" =pr qh)
 (ef:SG K mainGlobals "int" =pr qh)
 (e9:SG K mainGlobals "bool" =pr qh)
 (ge:SG K mainGlobals "abs" =pr qh)
 (bf:SG K mainGlobals "list" =pr qh)
 (bi:SG K mainGlobals "zip" =pr qh)
 (c8:SG K mainGlobals "sum" =pr qh)
 (a2:SG K mainGlobals "range" =pr qh)
 (an:SG K mainGlobals "enumerate" =pr qh)
 (ap:SG K mainGlobals "len" =pr qh)
 (ek:SG K mainGlobals "sorted" =pr qh)
 (ez:SG K mainGlobals "any" =pr qh)
 (eA:SG K mainGlobals "all" =pr qh)
 (gg:SG K mainGlobals "max" =pr qh)
 (gn:SG K mainGlobals "min" =pr qh)
 (co:SG K mainGlobals "MOST_LETTERS" =pr (pr (.int 8 cn)))
 (c0:SG K mainGlobals "MOST_GOODS" =pr (pr (.int 10 cA)))
 (c1:SG K mainGlobals "MOST_WORKS" =pr (pr (.int 10 cB))):
 ∃fd:Tr,(∀(s:vr) (v:sn),Vk s fd #[[v],[]] [("_law_script",v)])/\∀base:Rs,K.In base->base.Ns mainGlobals mg->lE l.prog w K mg base (CXE l.prog w) 45 fa fd ["_law_script"] (spM K (caK K) 1 Dh):=by
 have e:=km.symm.trans (Um X G kl);cases e;have am:caK K 0=ac:=by show clsAt K "Yard" =_;unfold clsAt;rw[d1]
 have ab:Cls K (caK K 0):=by rw[am];exact#[ep,er,et,eu]
 have a4:fS K (caK K 0) "held_changes" :=by rw[am];exact bm
 have as:fS K (caK K 0) "held_goods" :=by rw[am];exact bt
 have az:fS K (caK K 0) "held_works" :=by rw[am];exact bv
 have pa:=lG (st:=kS) lk lm js;have pc:=lG (st:=jP) lq lx j0;have pd:=lG (st:=iY) lA lB ka;have pg:=lG (st:=f9) mk mm kd;have pi:=lG (st:=iz) mu mw kf;have pk:=lG (st:=gA) m0 m1 kg;have pm:=lG (st:=jd) nd nf kk;have po:=lG (st:=jJ) ob oc od;have pp:=lG (st:=pM) o0 o1 o2;refine#[SH "law" "law" (eK pM) (d3 pM) (aM pM) .none f3 f4 f5 fl eo f8,λs v=>.of_eq rfl,λbase _ _=> ?_];let e:Ev:=#[l.prog,w,K,mg,base,caK K]
 have ci:=F0 (e:=e) (FK.fa X G l0) J (u8 X G cW) (u8 X G ef) (u8 X G e9);have be:=xC (e:=e) (FK.fa X G l1) J (u8 X G ge);have cr:=Hc (e:=e) (FK.fa X G l2) J be;have c5:=Iy (e:=e) (FK.fa X G l3) J (u8 X G bf) cr;have b3:=Eo (e:=e) (FK.fa X G l3) J (u8 X G bf) cr;have eB:=K9 (e:=e) (FK.fa X G l4) J ci be;have Y:=wA (e:=e) (FK.fa X G l5) J (u8 X G bi) (u8 X G c8);have fc:=Nj (e:=e) (FK.fa X G l6) J;have cs:=HG (e:=e) (FK.fa X G l6) J;have eF:=Lx (e:=e) (FK.fa X G l7) J (u8 X G a2) fc;have d2:=FP (e:=e) (FK.fa X G l7) J (u8 X G a2) cs;have el:=JD (e:=e) (FK.fa X G l8) J (u8 X G bi) c5;have b4:=D9 (e:=e) (FK.fa X G l8) J (u8 X G bi) b3;have c6:=JY (e:=e) (FK.fa X G l9) J;have a1:=u4 (e:=e) (FK.fa X G kn) J (u8 X G an);have b2:=wj (e:=e) (FK.fa X G kt) J;have eg:=Hy (e:=e) (FK.fa X G ku) J b4;have eL:=Kh (e:=e) (FK.fa X G k0) J (u8 X G a2) b3 a1 c6 b2 eg;have bn:=tw (e:=e) (FK.fa X G k1) J (u8 X G an) Y a1 b4;have ea:=L3 (e:=e) (FK.fa X G k2) J d2 bn eL;have eh:=Hv (e:=e) (FK.fa X G k3) J (u8 X G ap) (u8 X G a2) c6 ea;have b5:=D6 (e:=e) (FK.fa X G k4) J;have ck:=FW (e:=e) (FK.fa X G k5) J;have b6:=xD (e:=e) (FK.fa X G k6) J (u8 X G ap) ck;have bw:=uZ (e:=e) (FK.fa X G la) J (u8 X G bi) (u8 X G an) Y b5 b6 el;have db:=NM (e:=e) (FK.fa X G lb) J (u8 X G ek) eF bw;have dc:=DV (e:=e) (FK.fa X G lc) J (u8 X G ap) (u8 X G ez) Y;have b7:=xB (e:=e) (FK.fa X G lf) J (u8 X G an) a1;have em:=Jt (e:=e) (FK.fa X G lg) J (u8 X G bf) (u8 X G bi) dc db ck b5 b7 eB c5;have eb:=Ge (e:=e) pa (by show Meth K (caK K 0) _ _;rw[am];exact#[lh,li,js]) J ab a4;have bd:=DA (e:=e) pc (by show Meth K (caK K 0) _ _;rw[am];exact#[ln,lp,j0]) J (u8 X G ap) (u8 X G a2) ab as eb;have bb:=CP (e:=e) pd (by show Meth K (caK K 0) _ _;rw[am];exact#[ly,lz,ka]) J ab az;have ff:=NN (e:=e) (FK.fa X G lT) J (u8 X G ap) ab db bd bb;have cb:=xy (e:=e) pg (by show Meth K (caK K 0) _ _;rw[am];exact#[mc,mi,kd]) J (u8 X G ap) (u8 X G ez) ab az;have bp:=BA (e:=e) pi (by show Meth K (caK K 0) _ _;rw[am];exact#[mp,mq,kf]) J ab cb bd Y;have a5:=yz (e:=e) pk (by show Meth K (caK K 0) _ _;rw[am];exact#[mB,mE,kg]) J (u8 X G eA) ab bp;have en:=JG (e:=e) (FK.fa X G m2) J (u8 X G ap) ab a5 em bd bb;have ec:=FI (e:=e) (FK.fa X G m3) J ab bb;have bz:=C6 (e:=e) (FK.fa X G m6) J;have cc:=zx (e:=e) (FK.fa X G m7) J (u8 X G ap) (u8 X G bi) ab bd ea Y bz db eh;have fh:=Nw (e:=e) (FK.fa X G na) J (u8 X G ap) ab ec bz ff cc cs bb;have c2:=C1 (e:=e) pm (by show Meth K (caK K 0) _ _;rw[am];exact#[nb,nc,kk]) J (u8 X G bf) ab as;have ce:=yT (e:=e) (FK.fa X G nh) J (u8 X G ap) ab c2;have ei:=Hw (e:=e) (FK.fa X G nl) J ce Y;have ej:=Hd (e:=e) (FK.fa X G nn) J (u8 X G ap) (u8 X G eA) #[_,Um X G co];have c3:=CS (e:=e) (FK.fa X G no) J (u8 X G ap) #[_,Um X G c0] #[_,Um X G c1];have b1:=CZ (e:=e) (FK.fa X G nu) J ej;have cu:=AS (e:=e) (FK.fa X G nw) J (u8 X G an) b1;have c4:=CT (e:=e) (FK.fa X G ny) J;have cp:=Al (e:=e) (FK.fa X G nz) J ci;have cw:=A6 (e:=e) (FK.fa X G nL) J c4 cp;have cx:=AR (e:=e) (FK.fa X G nQ) J b1 cw;have dd:=EB (e:=e) (FK.fa X G nT) J (u8 X G bf);have de:=Eu (e:=e) (FK.fa X G n1) J (u8 X G c8);have dm:=DU (e:=e) (FK.fa X G n2) J de;have dn:=EO (e:=e) po (by show Mk K (caK K 0) _;rw[am];exact#[ev,n3,n6,ew]) (by show mg _=pr (.ref (caK K 0));rw[am];exact Um X G d1) J (u8 X G bf) ab as az a4 c3 cu cx dd dm;have cm:=F7 (e:=e) (FK.fa X G oe) J (u8 X G ap);have a3:=Fw (e:=e) (FK.fa X G oj) J;have dp:=Fb (e:=e) (FK.fa X G ol) J (u8 X G a2) (u8 X G ap) a3;have ed:=FL (e:=e) (FK.fa X G on) J (u8 X G ef) (u8 X G a2) a3;have dr:=DX (e:=e) (FK.fa X G ov) J (u8 X G ef) (u8 X G a2) (u8 X G ap) (u8 X G c8) (u8 X G bf) cm a3 ed;have dw:=Ff (e:=e) (FK.fa X G oD) J (u8 X G an) (u8 X G gg) a3;have dL:=DB (e:=e) (FK.fa X G oL) J (u8 X G a2) (u8 X G an) (u8 X G bi) a3;have dV:=D4 (e:=e) (FK.fa X G oT) J (u8 X G bi) (u8 X G c8) (u8 X G gn) ab ei bp a5;have gq:=PR (e:=e) pp (Um X G kl) J (u8 X G ap) (u8 X G a2) (u8 X G bi) ab cm a3 dr dp dn dw dL fh dV a5 en;exact gq.1
end
end Lk33
open PySem PySem.W PyProof.Rows
theorem PySem.W.Fast.tw17480624640346028296:True:=#[]
theorem PySem.W.Fast.tw14532104520423102411:True:=#[]
theorem PySem.W.Fast.tw10188030088227998437:True:=#[]
theorem PySem.W.Fast.tw6088290430703989392:True:=#[]
theorem PySem.W.Fast.tw8025418761342745734:True:=#[]
theorem PySem.W.Fast.tw13628563888717580548:True:=#[]
theorem PySem.W.Fast.tw15560426564198534849:True:=#[]
theorem PySem.W.Fast.tw7252211975979965273:True:=#[]
theorem PySem.W.Fast.tw11933402079393418728:True:=#[]
theorem PySem.W.Fast.tw3615467063156766931:True:=#[]
theorem PySem.W.Fast.tw3690165923530811594:True:=#[]
theorem PySem.W.Fast.tw13553210136459085611:True:=#[]
theorem PySem.W.Fast.tw10130589522747651418:True:=#[]
theorem PySem.W.Fast.tw21396981450671713:True:=#[]
theorem PySem.W.Fast.tw4136642770618733369:True:=#[]
theorem PySem.W.Fast.tw2102429799046627409:True:=#[]
theorem PySem.W.Fast.tw10594745290454868063:True:=#[]
theorem PySem.W.Fast.tw7526810608530598704:True:=#[]
theorem PySem.W.Fast.tw10644504031907928172:True:=#[]
theorem PySem.W.Fast.tw5080989509269451185:True:=#[]
theorem PySem.W.Fast.tw13535982084096493867:True:=#[]
theorem PySem.W.Fast.tw3482973382343799585:True:=#[]
theorem PySem.W.Fast.tw8440842261500172620:True:=#[]
theorem PySem.W.Fast.tw638202514970863595:True:=#[]
theorem PySem.W.Fast.tw4837995705301047401:True:=#[]
theorem PySem.W.Fast.tw1599271062080150957:True:=#[]
theorem PySem.W.Fast.tw1945212706144373117:True:=#[]
theorem PySem.W.Fast.tw16139861835413935354:True:=#[]
theorem PySem.W.Fast.tw1224407091721766632:True:=#[]
theorem PySem.W.Fast.tw6473688103123789661:True:=#[]
theorem PySem.W.Fast.tw7147636657175254510:True:=#[]
theorem PySem.W.Fast.tw17558761874054260575:True:=#[]
theorem PySem.W.Fast.tw10112944997583821193:True:=#[]
theorem PySem.W.Fast.tw5534098089078262943:True:=#[]
theorem PySem.W.Fast.tw7208066615387865191:True:=#[]
theorem PySem.W.Fast.tw13948848189367566043:True:=#[]
theorem PySem.W.Fast.tw10438537669040359714:True:=#[]
theorem PySem.W.Fast.tw1608771057594200503:True:=#[]
theorem PySem.W.Fast.tw1655944889736144203:True:=#[]
theorem PySem.W.Fast.tw150952383732861020:True:=#[]
theorem PySem.W.Fast.tw6339231488158870532:True:=#[]
theorem PySem.W.Fast.tw11567503203583236418:True:=#[]
theorem PySem.W.Fast.tw14449890164896165310:True:=#[]
theorem PySem.W.Fast.tw5502276040195348307:True:=#[]
theorem PySem.W.Fast.tw9509203561537768787:True:=#[]
theorem PySem.W.Fast.tw10107121551717438917:True:=#[]
theorem PySem.W.Fast.tw11716165559486386605:True:=#[]
theorem PySem.W.Fast.tw13595671799326002833:True:=#[]
theorem PySem.W.Fast.tw10321853308581074860:True:=#[]
theorem PySem.W.Fast.tw17043707575688411115:True:=#[]
theorem PySem.W.Fast.tw8184197931246201212:True:=#[]
theorem PySem.W.Fast.tw7392678922237468406:True:=#[]
theorem PySem.W.Fast.tw4667174686675809667:True:=#[]
theorem PySem.W.Fast.tw15601544547879109430:True:=#[]
theorem PySem.W.Fast.tw15992070127407055009:True:=#[]
theorem PySem.W.Fast.tw14041643836473921554:True:=#[]
theorem PySem.W.Fast.tw10073190087839700792:True:=#[]
theorem PySem.W.Fast.tw15517919233686594581:True:=#[]
theorem PySem.W.Fast.tw2002778135488744023:True:=#[]
theorem PySem.W.Fast.tw6549027232816951367:True:=#[]
set_option maxRecDepth 100000 in
set_option maxHeartbeats 0 in
theorem PySem.Challenge.cw_modeyard_k33_whole_never_is_never_holds : PySem.Challenge.rw_modeyard_k33_whole_never_is_never.Holds := by
 w_on;o_law;k_head;(case hw=>w_witness2)
 k_fill
 refine L2.Mf (l:=PySem.Challenge.rw_modeyard_k33_whole_never_is_never) (n:=63) (k:=45) (x:="_law_script") (sp:=λK=>M.spM K (Lk33.caK K) 1 Lk33.Dh) rfl (by decide) rfl ⟨rfl,by decide,by decide⟩ (by decide +kernel) (λw h Y=>PySem.W.kIn_of Y) ?F ?S
 case F=>
  intro w mg fa h KX G hmg
  refine' Lk33.all_mk KX G hmg rfl ?_ ?_ ?_ ?_ ?_ ?_ ?_ ?_ ?_ ?_ ?_ ?_ ?_ ?_ ?_ ?_ ?_ ?_ ?_ ?_ ?_ ?_ ?_ ?_ ?_ ?_ ?_ ?_ ?_ ?_ ?_ ?_ ?_ ?_ ?_ ?_ ?_ ?_ ?_ ?_ ?_ ?_ ?_ ?_ ?_ ?_ ?_ ?_ ?_ ?_ ?_ ?_ ?_ ?_ ?_ ?_ ?_ ?_ ?_ ?_ ?_ ?_ ?_ ?_ ?_ ?_ ?_ ?_ ?_ ?_ ?_ ?_ ?_ ?_ ?_ ?_ ?_ ?_ ?_ ?_ ?_ ?_ ?_ ?_ ?_ ?_ ?_ ?_ ?_ ?_ ?_ ?_ ?_ ?_ ?_ ?_ ?_ ?_ ?_ ?_ ?_ ?_ ?_ ?_ ?_ ?_ ?_ ?_ ?_ ?_ ?_ ?_ ?_ ?_ ?_ ?_ ?_ ?_ ?_ ?_ ?_ ?_ ?_ ?_
  all_goals try k_is
  all_goals try exact⟨_,_,_,_,_,_,_,_,_,_,by k_is,by k_is,by k_is,by k_is⟩
 case S=>exact λK H a ns hl _ hS=>M.OR hS (Lk33.K4 ns hl)