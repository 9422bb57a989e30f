import PyProof.Rows.All
import Wide.All
import OpenK.AllK
import Wide.FinOn
import Lean
import PyProof.EqAt
import PyProof.EqKinds
import PyProof.TupleCall
import PySem.Challenge.RW_modeyard_k30_whole_what_ways_leave
set_option Elab.async false
set_option linter.all false
set_option maxRecDepth 100000
open Array renaming getD_eq_getD_getElem?→VA,getElem?_toList→VX,length_toList→Wz,perm_iff_toList_perm→WL,toList_inj→W1,getElem_toList→Xn,append_assoc→Xt,toList_map→XR
open Bool renaming false_ne_true→Uu,beq_eq_decide_eq→Vi,eq_iff_iff→Vm,and_eq_true→VH,true_and→We,or_eq_true→Wx,false_and→WB,or_false→WJ,and_false→Xk,false_eq_true→Xw,true_or→Yg
open Classical renaming byContradiction→UZ,axiomOfChoice→W8
open Eq renaming trans→Uz
open False renaming elim→Fk
open ForInStep renaming yield→VN
open Function renaming comp_def→V9
open Iff renaming rfl→XD
open Int renaming mul_eq_zero→UQ,mul_nonneg→U4,emod_lt_of_pos→U7,mul_pos→Vh,emod_nonneg→Vp,mul_comm→VY,mul_neg_of_pos_of_neg→V4,natAbs_natCast→V5,mul_ediv_cancel_left→V6,mul_nonpos_of_nonneg_of_nonpos→Wa,mul_assoc→Wf,natAbs_dvd_natAbs→Wm,natAbs_of_nonneg→Wr,mul_zero→Wv,mul_le_mul_of_nonneg_right→Ww,gcd→WR,mul_ne_zero→Xd,natAbs_mul→Xh,natAbs_neg→Xi,le_of_lt→Xz,lt_or_eq_of_le→XC,toNat_natCast→XF,natAbs_add_le→XI
open List renaming getD_eq_getElem?_getD→Fm,length_map→T3,mem_map→T4,getElem?_eq_getElem→T7,range→T9,mem_cons_of_mem→Ub,mem_cons_self→Ug,map_map→Uh,getElem?_append_right→Ui,mem_append→Uj,map_cons→Uk,mem_singleton→Ul,mem_cons→Um,replicate→Uo,size_toArray→Up,length_cons→Uq,getElem?_eq_some_iff→Ur,getElem?_map→Us,getElem?_append_left→Ut,length_append→Uv,nil_append→Uw,mem_filter→Uy,filter_cons_of_pos→UC,mem_range→UD,mem_append_right→UE,mem_of_getElem?→UF,getElem_mem→UH,map_append→UJ,length_singleton→UM,filter_cons_of_neg→UN,zipWith→UO,mem_of_mem_eraseIdx→UP,getElem?_replicate→US,drop_eq_getElem_cons→UT,getElem?_set_self→UU,pairwise_cons→UV,mem_map_of_mem→UW,append_assoc→UX,append_nil→UY,replicate_succ→U0,map_nil→U1,getElem?_set_ne→U2,lookup_cons→U3,toArray→U6,sum_cons→U9,mem_append_left→Va,nodup_cons→Vd,of_mem_zip→Ve,filterMap_cons→Vf,map_inj_right→Vj,length→Vk,foldl_cons→Vn,flatten_cons→Vr,getElem_of_mem→Vt,length_zipWith→Vu,not_mem_nil→Vv,take_of_length_le→Vx,filter_map→VB,nodup_append→VC,pairwise_map→VD,getElem?_eq_none_iff→VE,mapIdx_eq_zipIdx_map→VF,mem_or_eq_of_mem_set→VG,ext_getElem→VI,map_congr_left→VL,getElem?_range→VM,lookup→VQ,drop_eq_nil_of_le→VS,reverse_cons→VT,take_add_one→VU,length_range→VV,length_replicate→VW,length_take→V0,all_eq_true→V1,pairwise_iff_getElem→V3,foldl_append→Wb,range_succ_eq_map→Wc,all_cons→Wd,zipIdx_cons→Wh,getElem?_eq_none→Wl,length_filter_le→Wn,length_set→Wp,length_zip→Wq,range_succ→Ws,zipIdx_map→Wu,mem_of_mem_take→Wy,lookup_append→WG,zip_cons_cons→WH,idxOf_lt_length_of_mem→WI,any_cons→WK,any_eq_false→WN,getElem?_take_of_lt→WT,all_map→WW,any_map→WX,drop_length→WZ,getElem_map→W2,length_erase_of_mem→W3,mem_flatMap→W4,map_set→W5,eraseIdx_cons_succ→W7,length_nil→Xc,length_pos_of_mem→Xe,filter_eq_nil_iff→Xf,getElem?_zipWith→Xg,drop_zero→Xj,getElem_zipWith→Xo,getD_cons_succ→Xq,getD_cons_zero→Xr,mem_filterMap→Xv,getElem_idxOf→Xx,getElem_inj→XM,length_drop→XO,mem_nil_iff→XS,zipWith_map→XT,mem_reverse→XU,map_reverse→XV,flatMap_map→XW,foldl→XX,Nodup→X0,sum_append→X1,nodup_nil→X4
open List.Pairwise renaming imp_of_mem→Vq,nil→XG
open List.Perm renaming swap→X3
open Nat renaming le_refl→Ud,lt_of_lt_of_le→Ux,ne_of_lt→UB,le_trans→UI,zero_le→UR,lt_irrefl→U8,pow_le_pow_right→Vb,add_sub_cancel_left→Vs,gcd→Vw,le_of_lt→Vy,two_pow_pos→V2,lt_succ_of_lt→V8,lt_succ_self→Wg,mul_le_mul_right→Wt,testBit_or→WD,le_succ→WE,mul_comm→WU,le_add_right→WY,mul_assoc→Xp,ne_of_gt→Xu,pow_succ→Xy,lt_or_ge→XA,sub_self→XB,pow_add→XJ,not_lt→XZ,dvd_trans→X7
open Ne renaming symm→Wi
open Option renaming map_some→VO,isSome_iff_exists→WS,getD_some→WV,getD_none→XQ,none→Yh
open Option.some renaming inj→Vc,injEq→XH
open Or renaming inl→T5,inr→Vo
open PyProof.Rows renaming callWith_type1→Vz
open PySem renaming mem_of_lookup→VJ,Within→Xs,call→XY
open PySem.EqMixed renaming eq_bool_str→X8,eq_str_bool→X9,ne_bool_str→Ya,ne_str_bool→Yb,eq_int_str→Yc,eq_str_int→Yd,ne_int_str→Ye,ne_str_int→Yf
open PySem.F renaming plainAttrs_list→UG,slot_list_append→UK,type_list_append→UL,slot_list_lt→Xm
open PySem.MeetsSeq.EqGives renaming int→X6
open PySem.W renaming Frag→Fa,mg_none_of→T6,keepIn→T8,codeIn→Ua,nsIn→Uc,fnOf→Ue,mg_of→Uf,findIn→UA,emptyDict→U5,isFn→Vg,instObj→Vl,kia_one→VP,cellsFrom_some→VR,plainGet→VZ,hasDictIn→V7,methodCall_KW→Wj,plainGet_of→WA,lookIn→WC,callWith_K→WF,methodObj→WM,plainOver→WO,takerIn→W9,makesIn→Xa,OpenLaw→Xb,specialIn→XE,handedIn→XN,kitOne→X2,WalkO→X5
open PySem.W.Looks renaming here→Yi
open PySem.W.WData renaming weightAll→W6,weight→Xl,int→Yj
open Sum renaming inl→WP,inr→WQ
open True renaming intro→Wo
namespace L2
open PySem PySem.Spec PyProof.Rows
abbrev Key:=Sum Int Str
def KA:Key->Value->Bool
 | .inl k,v=>Value.isInt k v
 | .inr x,v=>Value.isStrOf x v
def Qo(w:World):Key->Int
 | .inl k=>hashInt k
 | .inr x=>hashStr w x
theorem fQ:∀{k:Key} {v:Value},KA k v=true->(∃i t,k=WP i/\v=Value.int i t)\/(∃x t,k=WQ x/\v=Value.str x t)
 | .inl i,v,h=>by
  obtain⟨t,e⟩:=Value.isInt_shape (k:=i) (v:=v) h
  exact .inl ⟨i,t,rfl,e⟩
 | .inr x,v,h=>by
  obtain⟨t,e⟩:=Value.isStrOf_shape (x:=x) (v:=v) h
  exact .inr ⟨x,t,rfl,e⟩
theorem NA(a b:Int):decide ((WP a:Key)=WP b)=(a == b):=by
 by_cases e:a=b
 ·subst e;simp
 ·have h:¬(WP a:Key)=WP b:=λq=>e (Sum.inl.inj q)
  rw[decide_eq_false h]
  exact(beq_eq_false_iff_ne.mpr e).symm
theorem Nl(a b:Str):decide ((WQ a:Key)=WQ b)=decide (a=b):=by
 by_cases e:a=b
 ·subst e;simp
 ·have h:¬(WQ a:Key)=WQ b:=λq=>e (Sum.inr.inj q)
  rw[decide_eq_false h,decide_eq_false e]
theorem Oj(a:Int)(b:Str):decide ((WP a:Key)=WQ b)=false:=decide_eq_false (λq=>nomatch q)
theorem Nn(a:Str)(b:Int):decide ((WQ a:Key)=WP b)=false:=decide_eq_false (λq=>nomatch q)
def yj(prog:Program)(w:World):PySem.KeyKind prog w Key where
 is:=KA
 hash:=Qo w
 inj:=λv a b ha hb=>by
  rcases fQ ha with⟨i,t,rfl,rfl⟩ | ⟨x,t,rfl,rfl⟩
  ·rcases fQ hb with⟨j,u,rfl,e⟩ | ⟨y,u,rfl,e⟩
   ·injection e with e1 _;rw[e1]
   ·exact nomatch e
  ·rcases fQ hb with⟨j,u,rfl,e⟩ | ⟨y,u,rfl,e⟩
   ·exact nomatch e
   ·injection e with e1 _;rw[e1]
 byValue:=λk v h=>by
  rcases fQ h with⟨i,t,rfl,rfl⟩ | ⟨x,t,rfl,rfl⟩ <;> rfl
 pyHash:=λhv h=>by
  rcases fQ hv with⟨i,t,rfl,rfl⟩ | ⟨x,t,rfl,rfl⟩
  ·exact wpAny_pyHash_int h
  ·exact wpAny_pyHash_str h
 eqBool:=λhu hv h=>by
  rcases fQ hu with⟨i,t,rfl,rfl⟩ | ⟨x,t,rfl,rfl⟩
  ·rcases fQ hv with⟨j,u,rfl,rfl⟩ | ⟨y,u,rfl,rfl⟩
   ·rw[NA] at h;exact wpAny_eqBool_int h
   ·rw[Oj] at h;exact SeqAt.EqAt.int_str i t y u _ _ _ _ h
  ·rcases fQ hv with⟨j,u,rfl,rfl⟩ | ⟨y,u,rfl,rfl⟩
   ·rw[Nn] at h;exact SeqAt.EqAt.str_int x t j u _ _ _ _ h
   ·rw[Nl] at h;exact wpAny_eqBool_str h
 «strs»:=λk x t v h=>by
  rcases fQ h with⟨i,u,rfl,e⟩ | ⟨y,u,rfl,e⟩
  ·exact nomatch e
  ·injection e with e1 _
   subst e1
   cases v <;> rfl
inductive V where
 | non | bl (b:Bool) | int (i:Int) | str (x:Str) | byt (b:Array UInt8) | flt (b:UInt64) | ref (a:Addr) | ty (n:String)
 deriving DecidableEq
def RelV:V->Value->Prop
 | .non,u=>u=Value.none
 | .bl b,u=>u=Value.bool b
 | .int i,u=>∃t,u=Value.int i t
 | .str x,u=>∃t,u=Value.str x t
 | .byt b,u=>∃t,u=Value.bytes b t
 | .flt b,u=>∃t,u=Value.float b t
 | .ref a,u=>u=Value.ref a
 | .ty n,u=>u=Value.type n
abbrev Vals:List V->List Value->Prop:=Paired RelV
theorem Vals.length{xs:List V}{us:List Value}(r:Vals xs us):xs.length=us.length:=Paired.length r
theorem Vals.get:∀{xs:List V} {us:List Value} {i:Nat} {x:V},Vals xs us->xs[i]? =some x->∃u,us[i]? =some u/\RelV x u
 | _,_,_,_,.nil,e=>by simp at e
 | _,_,0,_,.cons r _,e=>by simp at e;subst e;exact⟨_,rfl,r⟩
 | _,_,i+1,x,.cons _ t,e=>by
  obtain⟨u,h1,h2⟩:=Vals.get (i:=i) (x:=x) t (by simpa using e)
  exact⟨u,by simpa using h1,h2⟩
theorem Vals.set{x:V}{u:Value}(r:RelV x u):∀{xs:List V} {us:List Value} (i:Nat),Vals xs us->Vals (xs.set i x) (us.set i u)
 | _,_,_,.nil=>.nil
 | _,_,0,.cons _ t=>.cons r t
 | _,_,i+1,.cons q t=>.cons q (Vals.set r i t)
theorem Vals.append:∀{xs ys:List V} {us ws:List Value},Vals xs us->Vals ys ws->Vals (xs++ys) (us++ws)
 | _,_,_,_,.nil,s=>s
 | _,_,_,_,.cons r t,s=>.cons r (Vals.append t s)
theorem Vals.take:∀{xs:List V} {us:List Value} (n:Nat),Vals xs us->Vals (xs.take n) (us.take n)
 | _,_,0,_=>.nil
 | _,_,_+1,.nil=>.nil
 | _,_,n+1,.cons r t=>.cons r (Vals.take n t)
theorem Vals.drop:∀{xs:List V} {us:List Value} (n:Nat),Vals xs us->Vals (xs.drop n) (us.drop n)
 | _,_,0,r=>r
 | _,_,_+1,.nil=>.nil
 | _,_,n+1,.cons _ t=>Vals.drop n t
theorem Vals.none_of:∀{xs:List V} {us:List Value} {i:Nat},Vals xs us->xs[i]? =none->us[i]? =none:=λ{xs us i} r e=>by
 have h1:=r.length
 have h2:xs.length<=i:=VE.mp e
 exact VE.mpr (by omega)
def qG:Option V->Option Value->Prop
 | some v,some u=>RelV v u
 | none,none=>True
 | _,_=>False
def KV{κ:Type}:List (κ×V)->List (κ×Value)->Prop:=Paired λ(p:κ×V) (q:κ×Value)=>p.1=q.1/\RelV p.2 q.2
def kV:Key->V
 | .inl i=>.int i
 | .inr x=>.str x
inductive HO where
 | lst (xs:List V)
 | tup (xs:List V)
 | dK (kvs:List (Key×V)) | dT (kvs:List (List Key×V))
 | set (S:Int->Bool) (n:Nat)
 | ins (C dx:Addr) (fs:List (Str×V))
 | own (x:Addr)
 | xd (fs:List (Str×V))
 | met (f x:Addr)
 | rng (lo hi:Int)
 | frz (o:Obj) (u:HO)
 | tbl (ps:Array Value)
 | ext (φ:Heap->Prop)
abbrev Hp:=Addr->Option HO
def upd(H:Hp)(a:Addr)(o:HO):Hp:=λb=>if b=a then some o else H b
theorem cO{H:Hp}{a:Addr}{o:HO}:upd H a o a=some o:=by unfold upd;rw[if_pos rfl]
theorem aS{H:Hp}{a b:Addr}{o:HO}(h:b≠a):upd H a o b=H b:=by unfold upd;rw[if_neg h]
theorem fR{H:Hp}{a b:Addr}{o:HO}(h:H a=some o)(h':H b=none):a≠b:=by
 intro e;subst e;rw[h] at h';cases h'
section
variable (P : Program) (w : World)
def gS(H:Hp)(h:Heap)(a:Addr):HO->Prop
 | .lst xs=>xs.length<=sizeLine/\∃(J:List Value) (n:Nat),Vals xs J/\h.get? a=some {cls:=.type "list",data:=.seq J.toArray n}
 | .tup xs=>xs.length<=sizeLine/\∃J:List Value,Vals xs J/\IsTup h a J.toArray
 | .dK U=>U.length<=sizeLine/\(a == sysModules)=false/\∃vs,KV U vs/\h.DictOf (yj P w) a vs
 | .dT U=>U.length<=sizeLine/\(a == sysModules)=false/\∃xs:List (List Key×Addr×Value),
  Paired (λ(p:List Key×V) (q:List Key×Addr×Value)=>p.1=q.1/\H q.2.1=some (.tup (p.1.map kV))/\RelV p.2 q.2.2) U xs/\
  ∃o es Y,h.get? a=some o/\o.ExactDict/\o.data=.dict es Y/\es.toList=xs.map (entryOfKey (tupleKind (yj P w)))/\(xs.map (·.1)).Nodup
 | .set S n=>h.SetOf (intKind P w) a S n
 | .ins C dx fs=>H dx=some (.own a)/\fs.length<=1000/\dx≠a/\h.get? a=some (Vl C dx)/\
  ∃mA,h.Ns1 dx mA/\(∀f,qG (fs.lookup f) (mA f))/\Xs mA (fs.map (·.1))
 | .own _=>∃o,h.get? a=some o
 | .xd fs=>∃mA,h.Ns1 a mA/\∀f,qG (fs.lookup f) (mA f)
 | .rng lo hi=>∃t u v,h.get? a=some {cls:=.type "range",data:=.fields #[.int lo t,.int hi u,.int 1 v]}
 | .frz o u=>h.get? a=some o/\gS H h a u
 | .tbl ps=>h.get? a=some {cls:=.none,data:=.fields ps}
 | .met f x=>h.get? a=some (WM (.ref f) (.ref x))
 | .ext φ=>φ h/\(∃o,h.get? a=some o)/\∀h1 h2:Heap,φ h1->(∀o,h1.get? a=some o->h2.get? a=some o)->φ h2
def HOk(H:Hp)(h:Heap):Prop:=∀a o,H a=some o->gS P w H h a o
end
section
variable {P : Program} {w : World} {H H' : Hp} {h h' : Heap} {a : Addr} {o : HO}
theorem gS.lt(x:gS P w H h a o):a<h.objs.size:=by
 cases o with
 | lst xs=>obtain⟨_,_,_,_,e⟩:=x;exact Heap.lt_size e
 | tup xs=>obtain⟨_,_,_,p⟩:=x;exact p.lt
 | dK J=>obtain⟨_,_,_,_,o,_,_,e,_⟩:=x;exact Heap.lt_size e
 | dT J=>obtain⟨_,_,_,_,o,_,_,e,_⟩:=x;exact Heap.lt_size e
 | set S n=>obtain⟨o,_,_,_,e,_⟩:=x;exact Heap.lt_size e
 | ins C dx fs=>obtain⟨_,_,_,e,_⟩:=x;exact Heap.lt_size e
 | own y=>obtain⟨_,e⟩:=x;exact Heap.lt_size e
 | xd fs=>obtain⟨_,⟨_,_,_,e,_⟩,_⟩:=x;exact Heap.lt_size e
 | rng lo hi=>obtain⟨_,_,_,e⟩:=x;exact Heap.lt_size e
 | frz U u=>obtain⟨e,_⟩:=x;exact Heap.lt_size e
 | tbl ps=>exact Heap.lt_size (show h.get? a=some _ from x)
 | met f y=>exact Heap.lt_size (show h.get? a=some _ from x)
 | ext φ=>obtain⟨_,⟨_,e⟩,_⟩:=x;exact Heap.lt_size e
theorem Paired.mapP{α β:Type}{F G:α->β->Prop}:∀{J:List α} {U:List β},Paired F J U->(∀a b,F a b->G a b)->Paired G J U
 | _,_,.nil,_=>.nil
 | _,_,.cons r t,f=>.cons (f _ _ r) (Paired.mapP t f)
theorem gS.stay (x:gS P w H h a o) (k:∀b u,(b=a\/H b=some (.own a))->h.get? b=some u->h'.get? b=some u)
 (ho:∀b,H b=some (.own a)->H' b=some (.own a)) (ht:∀b xs,H b=some (.tup xs)->H' b=some (.tup xs)):gS P w H' h' a o:=by
 induction o with
 | lst xs=>obtain⟨z,Y,n,r,e⟩:=x;exact⟨z,Y,n,r,k _ _ (.inl rfl) e⟩
 | tup xs=>obtain⟨z,Y,r,J,e,c⟩:=x;exact⟨z,Y,r,J,k _ _ (.inl rfl) e,c⟩
 | dK ab=>obtain⟨z,y,vs,r,J,es,U,e,c⟩:=x;exact⟨z,y,vs,r,J,es,U,k _ _ (.inl rfl) e,c⟩
 | dT ab=>
  obtain⟨z,y,xs,r,J,es,U,e,c⟩:=x
  exact⟨z,y,xs,Paired.mapP r λp q z=>⟨z.1,ht _ _ z.2.1,z.2.2⟩,J,es,U,k _ _ (.inl rfl) e,c⟩
 | set S n=>obtain⟨J,es,U,t,e,c⟩:=x;exact⟨J,es,U,t,k _ _ (.inl rfl) e,c⟩
 | ins C dx fs=>
  obtain⟨d,z,ne,e,mA,⟨od,es,U,e2,c⟩,r⟩:=x
  exact⟨ho _ d,z,ne,k _ _ (.inl rfl) e,mA,⟨od,es,U,k _ _ (.inr d) e2,c⟩,r⟩
 | own y=>obtain⟨J,e⟩:=x;exact⟨J,k _ _ (.inl rfl) e⟩
 | xd fs=>obtain⟨mA,⟨od,es,U,e,c⟩,r⟩:=x;exact⟨mA,⟨od,es,U,k _ _ (.inl rfl) e,c⟩,r⟩
 | rng lo hi=>obtain⟨t,u,v,e⟩:=x;exact⟨t,u,v,k _ _ (.inl rfl) e⟩
 | frz J u ih=>obtain⟨e,q⟩:=x;exact⟨k _ _ (.inl rfl) e,ih q⟩
 | tbl ps=>
  have e:h.get? a=some {cls:=.none,data:=.fields ps}:=x
  show h'.get? a=some {cls:=.none,data:=.fields ps}
  exact k a _ (.inl rfl) e
 | met f y=>
  have e:h.get? a=some (WM (.ref f) (.ref y)):=x
  show h'.get? a=some (WM (.ref f) (.ref y))
  exact k a _ (.inl rfl) e
 | ext φ=>obtain⟨p,⟨o,e⟩,st⟩:=x;exact⟨st _ _ p λo q=>k _ _ (.inl rfl) q,⟨o,k _ _ (.inl rfl) e⟩,st⟩
theorem HOk.lt(x:HOk P w H h)(e:H a=some o):a<h.objs.size:=(x a o e).lt
theorem HOk.fresh(x:HOk P w H h)(e:h.objs.size<=a):H a=none:=by
 cases q:H a with
 | none=>rfl
 | some u=>exact absurd (Ux (x.lt q) e) (U8 _)
theorem HOk.kept(x:HOk P w H h)(k:∀b u,h.get? b=some u->h'.get? b=some u):HOk P w H h':=λa o e=>
 (x a o e).stay (λb u _ q=>k b u q) (λ_ q=>q) λ_ _ q=>q
theorem HOk.laid(x:HOk P w H h)(k:∀b u,h.get? b=some u->h'.get? b=some u)(hp:h.objs.size<=a)(J:gS P w (upd H a o) h' a o):HOk P w (upd H a o) h':=λb u e=>by
 have hn:=x.fresh hp
 by_cases hb:b=a
 ·subst hb;rw[cO] at e;cases e;exact J
 ·rw[aS hb] at e
  exact(x b u e).stay (λc v _ q=>k c v q) (λc q=>by rw[aS (fR q hn)];exact q) λc xs q=>by rw[aS (fR q hn)];exact q
end
def Rd(H:Hp)(a:Addr)(u:HO):Prop:=H a=some u\/∃o,H a=some (.frz o u)
theorem Rd.of{H:Hp}{a:Addr}{u:HO}(h:H a=some u):Rd H a u:=.inl h
theorem Rd.ok{P:Program}{w:World}{H:Hp}{h:Heap}{a:Addr}{u:HO}(r:Rd H a u)(x:HOk P w H h):gS P w H h a u:=by
 rcases r with r | ⟨o,r⟩
 ·exact x a u r
 ·obtain⟨_,q⟩:=x a _ r
  exact q
def Mut:Option HO->Prop
 | some (.lst _)=>True
 | some (.dK _)=>True
 | some (.dT _)=>True
 | some (.set _ _)=>True
 | some (.ins _ _ _)=>True
 | some (.ext _)=>True
 | _=>False
section
variable {P : Program} {w : World} {H : Hp} {h h' : Heap} {x e : Addr} {o' : HO}
theorem HOk.write (ok:HOk P w H h) (mu:Mut (H x)) (he:e=x\/H e=some (.own x)) (k:∀b u,b≠e->h.get? b=some u->h'.get? b=some u) (ac:∃u,h'.get? e=some u)
 (am:gS P w (upd H x o') h' x o'):HOk P w (upd H x o') h':=λb u q=>by
 have U:∀c y,H c=some (.own y)->c≠x:=λc y r z=>by subst z;rw[r] at mu;exact mu
 have Y:∀c xs,H c=some (.tup xs)->c≠x:=λc xs r z=>by subst z;rw[r] at mu;exact mu
 by_cases hb:b=x
 ·subst hb;rw[cO] at q;cases q;exact am
 ·rw[aS hb] at q
  by_cases J:b=e
  ·have q':H b=some (.own x):=by
    rcases he with z | z
    ·exact absurd (J.trans z) hb
    ·rw[J];exact z
   rw[q] at q';cases q'
   obtain⟨v,hv⟩:=ac
   exact⟨v,by rw[J];exact hv⟩
  ·refine(ok b u q).stay (λc v hc r=>k c v ?_ r) (λc r=>by rw[aS (U c b r)];exact r) λc xs r=>by rw[aS (Y c xs r)];exact r
   rcases hc with rfl | hc
   ·exact J
   ·rintro rfl
    rcases he with z | z
    ·exact U c b hc z
    ·rw[hc] at z;cases z;exact hb rfl
end
structure Un(fs ex:List Addr)(H H':Hp)(h h':Heap):Prop where
 keep:∀b o,h.get? b=some o->H b=none->b∉fs->b∉ex->h'.get? b=some o
 slot:∀b o,h.get? b=some o->H b=none->b∈fs->b∉ex->∃sl,h'.get? b=some {o with slots:=sl}
 free:∀b o,h.get? b=some o->H b=none->b∉ex->H' b=none
 there:∀b o,h.get? b=some o->b∉ex->∃o',h'.get? b=some o'
 tups:∀b xs,H b=some (.tup xs)->H' b=some (.tup xs)
 frzs:∀b o u,H b=some (.frz o u)->H' b=some (.frz o u)
 tbls:∀b ps,H b=some (.tbl ps)->∃more,H' b=some (.tbl (ps++more))
section
variable {fs fs' ex ex' : List Addr} {H H1 H2 : Hp} {h h1 h2 h' : Heap} {a x e : Addr} {o : HO}
theorem Un.any(u:Un fs ex H H1 h h1){b:Addr}{J:Obj}(q:h.get? b=some J)(n:H b=none)(hx:b∉ex):∃U,h1.get? b=some {J with slots:=U}:=by
 by_cases hb:b∈fs
 ·exact u.slot b J q n hb hx
 ·exact⟨J.slots,u.keep b J q n hb hx⟩
theorem Un.trans(a:Un fs ex H H1 h h1)(b:Un fs ex H1 H2 h1 h2):Un fs ex H H2 h h2 where
 keep:=λc ob q n hc hx=>b.keep c ob (a.keep c ob q n hc hx) (a.free c ob q n hx) hc hx
 slot:=λc ob q n hc hx=>by
  obtain⟨sl,e1⟩:=a.slot c ob q n hc hx
  obtain⟨sl',e2⟩:=b.slot c _ e1 (a.free c ob q n hx) hc hx
  exact⟨sl',e2⟩
 free:=λc ob q n hx=>by
  obtain⟨o',e1⟩:=a.there c ob q hx
  exact b.free c o' e1 (a.free c ob q n hx) hx
 there:=λc ob q hx=>by
  obtain⟨o',e1⟩:=a.there c ob q hx
  exact b.there c o' e1 hx
 tups:=λc xs q=>b.tups c xs (a.tups c xs q)
 frzs:=λc ob xs q=>b.frzs c ob xs (a.frzs c ob xs q)
 tbls:=λc ps q=>by
  obtain⟨m1,e1⟩:=a.tbls c ps q
  obtain⟨m2,e2⟩:=b.tbls c _ e1
  exact⟨m1++m2,by rw[e2,Xt]⟩
theorem Un.kept(k:∀b u,h.get? b=some u->h'.get? b=some u):Un fs ex H H h h':=
 ⟨λb J q _ _ _=>k b J q,λb J q _ _ _=>⟨J.slots,k b J q⟩,λ_ _ _ n _=>n,λb J q _=>⟨J,k b J q⟩,λ_ _ q=>q,λ_ _ _ q=>q,λ_ ps q=>⟨#[],by rw[q];simp⟩⟩
theorem Un.refl:Un fs ex H H h h:=Un.kept λ_ _ q=>q
theorem Un.laid(k:∀b u,h.get? b=some u->h'.get? b=some u)(hp:h.objs.size<=a)(hn:H a=none):Un fs ex H (upd H a o) h h' where
 keep:=λb u q _ _ _=>k b u q
 slot:=λb u q _ _ _=>⟨u.slots,k b u q⟩
 free:=λb u q n _=>by rw[aS (UB (Ux (Heap.lt_size q) hp))];exact n
 there:=λb u q _=>⟨u,k b u q⟩
 tups:=λb xs q=>by rw[aS (fR q hn)];exact q
 frzs:=λb u xs q=>by rw[aS (fR q hn)];exact q
 tbls:=λb ps q=>⟨#[],by rw[aS (fR q hn),q];simp⟩
theorem Un.write(U:Mut (H x))(he:e=x\/H e=some (.own x))(k:∀b u,b≠e->h.get? b=some u->h'.get? b=some u)(Y:∃u,h'.get? e=some u):Un fs ex H (upd H x o) h h':=by
 have hx:∀b,H b=none->b≠x:=λb n z=>by subst z;rw[n] at U;exact U
 have hb:∀b,H b=none->b≠e:=λb n z=>by
  subst z
  rcases he with r | r
  ·exact hx b n r
  ·rw[n] at r;cases r
 have hm:∀b u,H b=some u->¬Mut (some u)->b≠x:=λb u q nm z=>by subst z;rw[q] at U;exact nm U
 refine⟨λb u q n _ _=>k b u (hb b n) q,λb u q n _ _=>⟨u.slots,k b u (hb b n) q⟩,λb u q n _=>by rw[aS (hx b n)];exact n,λb u q _=> ?_,
  λb xs q=>by rw[aS (hm b _ q λz=>z)];exact q,λb u xs q=>by rw[aS (hm b _ q λz=>z)];exact q,λb ps q=>⟨#[],by rw[aS (hm b _ q λz=>z),q];simp⟩⟩
 by_cases J:b=e
 ·subst J;exact Y
 ·exact⟨u,k b u J q⟩
theorem Un.mono(u:Un fs ex H H1 h h1)(Y:∀b∈fs,b∈fs')(hx:∀b∈ex,b∈ex'):Un fs' ex' H H1 h h1:=
 ⟨λb U q n hb J=>u.keep b U q n (λz=>hb (Y b z)) λz=>J (hx b z),λ_ _ q n _ J=>u.any q n λz=>J (hx _ z),λb U q n J=>u.free b U q n λz=>J (hx b z),λb U q J=>u.there b U q λz=>J (hx b z),u.tups,u.frzs,u.tbls⟩
end
def trk(h:Heap)(H:Hp):List Addr:=(T9 h.objs.size).filter λa=>(H a).isSome
def qI(h:Heap)(H:Hp):Heap:=PySem.W.hideAll h (trk h H)
theorem Ge(h:Heap)(H:Hp):(qI h H).objs.size=h.objs.size:=PySem.W.hideAll_size _ _
theorem IS{h:Heap}{H:Hp}{b:Addr}{o:Obj}(e:h.get? b=some o)(n:H b=none):(qI h H).get? b=some o:=
 PySem.W.hideAll_get _ e λhm=>by
  have q:(H b).isSome=true:=(Uy.mp hm).2
  rw[n] at q;simp at q
theorem Lj{h:Heap}{H:Hp}{b:Addr}{o:Obj}(e:(qI h H).get? b=some o):h.get? b=some o/\H b=none:=by
 have e':h.get? b=some o:=PySem.W.of_hideAll (trk h H) e
 refine⟨e', ?_⟩
 cases q:H b with
 | none=>rfl
 | some x=>
  have hm:b∈trk h H:=Uy.mpr ⟨UD.mpr (Heap.lt_size e'),by simp[q]⟩
  have z:(qI h H).get? b=none:=PySem.W.hideAll_none (trk h H) hm
  rw[z] at e;cases e
def LR(g h:Heap)(L:Addr):List (Addr×Obj):=(T9 h.objs.size).filterMap λa=>if a=L\/(g.get? a).isSome=true then none else (h.get? a).map λo=>(a,o)
def rest(g h:Heap)(L d:Addr):List (Addr×Obj):=(LR g h L).filter λp=>decide (p.1≠d)
structure Mod(K:Fa)(mg:Str->Option Value)(base:Heap):Prop where
 kin:K.In base
 glob:base.Ns mainGlobals mg
 blt:∃mb,base.Ns builtinsNs mb/\∀x:Str,x≠"__name__" ->mb x=bootBuiltins x
 nolimit:base.NoLimit
 seer:base.NoSeer
structure Cx where
 prog:Program
 w:World
 K:Fa
 mg:Str->Option Value
 base:Heap
 A:Around
 N:List Str
 s₀:Shared
 H₀:Hp
 env:Env
 outer:List Env
 stack:List Env
 ex:List Addr
 fn:Str->Bool
 calm:Bool
 pn:List (Addr×Obj)
 xe:Value->Shared->Prop
def frs(l:List Env):List Addr:=l.filterMap (·.frame)
abbrev Cx.fs(X:Cx):List Addr:=frs X.outer
def Vis(J:Scope)(x:Str):Prop:=J.names.lookup x=some .local\/J.names.lookup x=some .cell\/J.names.lookup x=some .free
def Loc(J:Scope)(x:Str):Prop:=J.names.lookup x=some .local\/J.names.lookup x=some .cell
def Look(env:Env)(h:Heap)(m:Str->Option Value)(x:Str)(u:Value):Prop:=
 (env.kindOf x=some .local/\m x=some u)\/((env.kindOf x=some .cell\/env.kindOf x=some .free)/\∃c,env.cells.lookup x=some c/\h.IsCell c (some u))
structure Cx.Ok(X:Cx):Prop where
 mod:Mod X.K X.mg X.base
 kind:X.env.scope.kind=.function
 glob:X.env.globals=mainGlobals
 blt:X.env.builtins=builtinsNs
 above:X.s₀.heap.objs.size<=X.env.locals
 inj:∀x y c,X.env.cells.lookup x=some c->X.env.cells.lookup y=some c->x=y
 has:∀x,(X.env.kindOf x=some .cell\/X.env.kindOf x=some .free)->∃c,X.env.cells.lookup x=some c
 cab:∀x c,X.fn x=true->X.env.cells.lookup x=some c->X.s₀.heap.objs.size<=c
 hd:X.calm=true->X.A.handled=none
 frames:X.A.frames=some X.stack
 stk:X.stack=X.outer\/(X.stack=X.env::X.outer/\X.env.frame=some X.env.locals)
 exf:∀b∈X.ex,b≠X.env.locals/\∀x c,X.env.cells.lookup x=some c->c≠b
 bs:∀b o,X.base.get? b=some o->X.s₀.heap.get? b=some o/\X.H₀ b=none
 bsz:X.base.objs.size<=X.s₀.heap.objs.size
 noex:∀b o,X.base.get? b=some o->b∉X.ex
 exfs:∀b∈X.ex,b∉X.fs
 funs:X.s₀.heap.FunFrames X.base X.outer
 frf:∀b∈X.fs,X.H₀ b=none
structure Inv(X:Cx)(pins:List (Addr×Obj))(σ:List (Option V))(H:Hp)(s:Shared):Prop where
 ok:X.Ok
 os:s.os=X.s₀.os
 bare:AllBare s.gens
 base:Un X.fs X.ex X.H₀ H X.s₀.heap s.heap
 loc:∃m,s.heap.Ns X.env.locals m/\∀(i:Nat) (x:Str) (v:V),X.N[i]? =some x->σ[i]? =some (some v)->Vis X.env.scope x->∃u,RelV v u/\Look X.env s.heap m x u
 cell:∀x c,X.env.cells.lookup x=some c->∃v,s.heap.IsCell c v
 free:H X.env.locals=none
 freeC:∀x c,X.env.cells.lookup x=some c->H c=none
 pin:∀p∈X.pn++pins,s.heap.get? p.1=some p.2/\H p.1=none/\p.1≠X.env.locals/\p.1∉X.fs/\∀v,p.2.data≠ .cell v
 hok:HOk X.prog X.w H s.heap
 len:σ.length=X.N.length
section
variable {X : Cx} {pins : List (Addr × Obj)} {σ : List (Option V)} {H H' : Hp} {s : Shared} {h' : Heap}
theorem Cx.Ok.nofr(ok:X.Ok){b:Addr}{o:Obj}(e:X.base.get? b=some o):b∉X.fs:=λhb=>by
 have:=(ok.funs.mem hb).1
 rw[e] at this;cases this
theorem Inv.bs(I:Inv X pins σ H s):∀b o,X.base.get? b=some o->s.heap.get? b=some o/\H b=none:=λb o e=>
 ⟨I.base.keep b o (I.ok.bs b o e).1 (I.ok.bs b o e).2 (I.ok.nofr e) (I.ok.noex b o e),I.base.free b o (I.ok.bs b o e).1 (I.ok.bs b o e).2 (I.ok.noex b o e)⟩
theorem Inv.bk(I:Inv X pins σ H s):∀b o,X.base.get? b=some o->s.heap.get? b=some o:=λb o e=>(I.bs b o e).1
theorem Inv.mod(I:Inv X pins σ H s):Mod X.K X.mg X.base:=I.ok.mod
theorem Inv.kIn(I:Inv X pins σ H s):X.K.In s.heap:=I.ok.mod.kin.keeps I.bk
theorem Inv.nolimit(I:Inv X pins σ H s):s.heap.NoLimit:=I.ok.mod.nolimit.keeps I.bk
theorem Inv.noseer(I:Inv X pins σ H s):s.heap.NoSeer:=I.ok.mod.seer.keeps I.bk
theorem Inv.fr(I:Inv X pins σ H s):∃m,Fr X.base X.env.locals s.heap m:=
 let ⟨m,hn,_⟩:=I.loc
 ⟨m,hn,I.bk,UI I.ok.bsz I.ok.above⟩
theorem Inv.lt(I:Inv X pins σ H s):X.env.locals<s.heap.objs.size:=let ⟨_,hn,_⟩:=I.loc;hn.lt
theorem Inv.sz(I:Inv X pins σ H s):X.s₀.heap.objs.size<=s.heap.objs.size:=UI I.ok.above (Vy I.lt)
theorem Inv.nofs(I:Inv X pins σ H s){a:Addr}(h:s.heap.objs.size<=a):a∉X.fs:=λhb=>by
 obtain⟨_,o,J,_⟩:=I.ok.funs.mem hb
 exact absurd (Ux (Heap.lt_size J) (UI I.sz h)) (U8 _)
theorem Inv.cne(I:Inv X pins σ H s):∀x c,X.env.cells.lookup x=some c->c≠X.env.locals:=λx c e z=>by
 obtain⟨v,o,Y,hd⟩:=I.cell x c e
 obtain⟨m,⟨o',es,ep,J,U,_⟩,_⟩:=I.loc
 rw[z,J] at Y;cases Y;rw[U] at hd;cases hd
theorem Inv.funs(I:Inv X pins σ H s):s.heap.FunFrames X.base X.outer:=by
 have all:∀(l:List Env),(∀b∈frs l,b∈X.fs)->X.s₀.heap.FunFrames X.base l->s.heap.FunFrames X.base l:=by
  intro l
  induction l with
  | nil=>intro _ _;trivial
  | cons env r ih=>
   intro Y hl
   obtain⟨hk,⟨L,o,J,hn,ho,hd⟩,hr⟩:=hl
   have U:L∈X.fs:=Y L (by unfold frs;rw[Vf,J];exact Ug)
   obtain⟨sl,e⟩:=I.base.slot L o ho (I.ok.frf L U) U λz=>I.ok.exfs L z U
   exact⟨hk,⟨L,_,J,hn,e,hd⟩,ih (λb hb=>Y b (by unfold frs;rw[Vf,J];exact Ub _ hb)) hr⟩
 exact all X.outer (λ_ hb=>hb) I.ok.funs
theorem Inv.stack(I:Inv X pins σ H s):s.heap.FunFrames X.base X.stack:=by
 rcases I.ok.stk with e | ⟨e,J⟩
 ·rw[e];exact I.funs
 ·rw[e]
  obtain⟨m,hn,_⟩:=I.loc
  refine .cons (by rw[I.ok.kind];decide) J hn ?_ I.funs
  exact Heap.get?_none_of_le (UI I.ok.bsz I.ok.above)
theorem Inv.stkSub(I:Inv X pins σ H s):∀b∈frs X.stack,b∈X.env.locals::X.fs:=λb hb=>by
 rcases I.ok.stk with e | ⟨e,J⟩
 ·rw[e] at hb;exact Ub _ hb
 ·rw[e] at hb
  unfold frs at hb
  rw[Vf,J] at hb
  exact hb
theorem Inv.stkFree(I:Inv X pins σ H s):∀b∈frs X.stack,H b=none:=λb hb=>by
 rcases Um.mp (I.stkSub b hb) with e | hb
 ·rw[e];exact I.free
 ·obtain⟨_,o,J,_⟩:=I.ok.funs.mem hb
  exact I.base.free b o J (I.ok.frf b hb) λz=>I.ok.exfs b z hb
theorem Inv.step {g':Array GenState} {t':Nat} {d':Drawn} {ch:List Addr} (I:Inv X pins σ H s)
 (J:∀b∈ch,(b∈X.ex\/X.s₀.heap.objs.size<=b)/\b≠X.env.locals/\(∀x c,X.env.cells.lookup x=some c->c≠b)/\∀p∈X.pn++pins,p.1≠b)
 (keep:∀b o,b≠X.env.locals->b∉X.fs->b∉ch->s.heap.get? b=some o->H b=none->h'.get? b=some o)
 (slot:∀b o,b≠X.env.locals->b∈X.fs->b∉ch->s.heap.get? b=some o->H b=none->∃sl,h'.get? b=some {o with slots:=sl}) (free:∀b o,b∉ch->s.heap.get? b=some o->H b=none->H' b=none)
 (there:∀b o,b∉ch->s.heap.get? b=some o->∃o',h'.get? b=some o')
 (tups:∀b xs,H b=some (.tup xs)->H' b=some (.tup xs)) (frzs:∀b o u,H b=some (.frz o u)->H' b=some (.frz o u)) (tbls:∀b ps,H b=some (.tbl ps)->∃more,H' b=some (.tbl (ps++more)))
 (ns:∀m,s.heap.Ns X.env.locals m->h'.Ns X.env.locals m) (ap:HOk X.prog X.w H' h') (hg:AllBare g'):
 Inv X pins σ H' {s with heap:=h',gens:=g',drawn:=d',toks:=t'}:=by
 have am:∀b o,X.s₀.heap.get? b=some o->b≠X.env.locals:=λb o e=>UB (Ux (Heap.lt_size e) I.ok.above)
 have ab:∀b o,X.s₀.heap.get? b=some o->b∉X.ex->b∉ch:=λb o e hx hb=>by
  rcases(J b hb).1 with z | z
  ·exact hx z
  ·exact absurd (Ux (Heap.lt_size e) z) (U8 _)
 have U:∀x c,X.env.cells.lookup x=some c->∀v,s.heap.IsCell c v->h'.IsCell c v:=λx c e v ⟨o,ho,hd⟩=>by
  have Y:c∉ch:=λz=>(J c z).2.2.1 x c e rfl
  by_cases hc:c∈X.fs
  ·obtain⟨sl,q⟩:=slot c o (I.cne x c e) hc Y ho (I.freeC x c e)
   exact⟨_,q,hd⟩
  ·exact⟨o,keep c o (I.cne x c e) hc Y ho (I.freeC x c e),hd⟩
 refine⟨I.ok,I.os,hg,⟨λb o e n hb hx=> ?_,λb o e n hb hx=> ?_,λb o e n hx=> ?_,λb o e hx=> ?_,λb xs e=>tups b xs (I.base.tups b xs e),λb o xs e=>frzs b o xs (I.base.frzs b o xs e),λb ps e=> ?_⟩, ?_,λx c e=> ?_, ?_,λx c e=> ?_,λp hp=> ?_,ap,I.len⟩
 ·exact keep b o (am b o e) hb (ab b o e hx) (I.base.keep b o e n hb hx) (I.base.free b o e n hx)
 ·obtain⟨sl,e1⟩:=I.base.slot b o e n hb hx
  obtain⟨as,e2⟩:=slot b _ (am b o e) hb (ab b o e hx) e1 (I.base.free b o e n hx)
  exact⟨as,e2⟩
 ·obtain⟨o',e1⟩:=I.base.there b o e hx
  exact free b o' (ab b o e hx) e1 (I.base.free b o e n hx)
 ·obtain⟨o',e1⟩:=I.base.there b o e hx
  exact there b o' (ab b o e hx) e1
 ·obtain⟨m1,e1⟩:=I.base.tbls b ps e
  obtain⟨m2,e2⟩:=tbls b _ e1
  exact⟨m1++m2,by rw[e2,Xt]⟩
 ·obtain⟨m,hn,hl⟩:=I.loc
  refine⟨m,ns m hn,λi x v e1 e2 e3=> ?_⟩
  obtain⟨u,r,l⟩:=hl i x v e1 e2 e3
  refine⟨u,r, ?_⟩
  rcases l with l | ⟨k,c,e,z⟩
  ·exact .inl l
  ·exact .inr ⟨k,c,e,U x c e _ z⟩
 ·obtain⟨v,z⟩:=I.cell x c e
  exact⟨v,U x c e v z⟩
 ·obtain⟨m,⟨o,_,_,ho,_⟩,_⟩:=I.loc
  exact free _ o (λz=>(J _ z).2.1 rfl) ho I.free
 ·obtain⟨v,o,ho,hd⟩:=I.cell x c e
  exact free c o (λz=>(J c z).2.2.1 x c e rfl) ho (I.freeC x c e)
 ·obtain⟨e,n,ne,nf,d⟩:=I.pin p hp
  have Y:p.1∉ch:=λz=>(J p.1 z).2.2.2 p hp rfl
  exact⟨keep p.1 p.2 ne nf Y e n,free p.1 p.2 Y e n,ne,nf,d⟩
theorem Inv.un{t':Nat}(I:Inv X pins σ H s)(u:Un X.fs [] H H' s.heap h')(U:HOk X.prog X.w H' h'):Inv X pins σ H' {s with heap:=h',toks:=t'}:=by
 obtain⟨m,⟨o,es,ep,ho,r⟩,_⟩:=id I.loc
 obtain⟨sl,hL⟩:=u.any ho I.free (by simp)
 exact I.step (g':=s.gens) (d':=s.drawn) (ch:=[]) (λ_ z=>nomatch z) (λb o _ hb _ e n=>u.keep b o e n hb (by simp)) (λb o _ hb _ e n=>u.slot b o e n hb (by simp)) (λb o _ e n=>u.free b o e n (by simp)) (λb o _ e=>u.there b o e (by simp)) u.tups u.frzs u.tbls (λm' hm=>by
  obtain⟨o',Y,ab,J,r'⟩:=hm
  rw[ho] at J;cases J
  exact⟨_,Y,ab,hL,r'⟩) U I.bare
theorem Inv.call {g':Array GenState} {t':Nat} {d':Drawn} {ch:List Addr} (I:Inv X pins σ H s) (u:Un (frs X.stack) ch H H' s.heap h') (Y:HOk X.prog X.w H' h') (hg:AllBare g')
 (J:∀b∈ch,(b∈X.ex\/X.s₀.heap.objs.size<=b)/\b≠X.env.locals/\(∀x c,X.env.cells.lookup x=some c->c≠b)/\∀p∈X.pn++pins,p.1≠b):
 Inv X pins σ H' {s with heap:=h',gens:=g',drawn:=d',toks:=t'}:=by
 obtain⟨m,⟨o,es,ep,ho,r⟩,_⟩:=id I.loc
 obtain⟨sl,hL⟩:=u.any ho I.free λz=>(J _ z).2.1 rfl
 exact I.step (ch:=ch) J (λb o hL hb hc e n=>u.keep b o e n (λz=>(Um.mp (I.stkSub b z)).elim hL hb) hc) (λb o _ _ hc e n=>u.any e n hc) (λb o hc e n=>u.free b o e n hc) (λb o hc e=>u.there b o e hc) u.tups u.frzs u.tbls (λm' hm=>by
  obtain⟨o',ac,am,U,r'⟩:=hm
  rw[ho] at U;cases U
  exact⟨_,ac,am,hL,r'⟩) Y hg
theorem Inv.turned {t':Nat} {it:Addr} (I:Inv X pins σ H s) (k:∀b o,b≠it->s.heap.get? b=some o->h'.get? b=some o) (hn:H it=none) (U:it≠X.env.locals)
 (h1:it∈X.ex\/X.s₀.heap.objs.size<=it) (h2:∀x c,X.env.cells.lookup x=some c->c≠it) (Y:∀p∈X.pn++pins,p.1≠it):Inv X pins σ H {s with heap:=h',toks:=t'}:=by
 have J:∀b u,H b=some u->b≠it:=λb u e z=>by rw[z,hn] at e;cases e
 refine I.step (g':=s.gens) (d':=s.drawn) (ch:=[it]) (λb hb=> ?_) (λb o _ _ hc e _=>k b o (λz=>hc (by simp[z])) e) (λb o _ _ hc e _=>⟨o.slots,k b o (λz=>hc (by simp[z])) e⟩) (λ_ _ _ _ n=>n)
  (λb o hc e=>⟨o,k b o (λz=>hc (by simp[z])) e⟩) (λ_ _ e=>e) (λ_ _ _ e=>e) (λb ps e=>⟨#[],by rw[e];simp⟩) (λm hm=> ?_) (λb u e=> ?_) I.bare
 ·have e:b=it:=by simpa using hb
  subst e
  exact⟨h1,U,h2,Y⟩
 ·obtain⟨o,es,ep,ho,r⟩:=hm
  exact⟨o,es,ep,k _ o (Wi U) ho,r⟩
 ·refine(I.hok b u e).stay (λc v hc q=>k c v ?_ q) (λ_ q=>q) λ_ _ q=>q
  rcases hc with z | z
  ·rw[z];exact J b u e
  ·exact J c _ z
theorem Inv.tok(I:Inv X pins σ H s)(t:Nat):Inv X pins σ H {s with toks:=t}:=I.un (h':=s.heap) (t':=t) Un.refl I.hok
theorem Inv.kept{t':Nat}(I:Inv X pins σ H s)(k:∀b u,s.heap.get? b=some u->h'.get? b=some u):Inv X pins σ H {s with heap:=h',toks:=t'}:=I.un (Un.kept k) (I.hok.kept k)
theorem Inv.laid{a:Addr}{o:HO}{t':Nat}(I:Inv X pins σ H s)(k:∀b u,s.heap.get? b=some u->h'.get? b=some u)(hp:s.heap.objs.size<=a)(J:gS X.prog X.w (upd H a o) h' a o):
 Inv X pins σ (upd H a o) {s with heap:=h',toks:=t'}:=I.un (Un.laid k hp (I.hok.fresh hp)) (I.hok.laid k hp J)
theorem Inv.write {x e:Addr} {o:HO} {t':Nat} (I:Inv X pins σ H s) (Y:Mut (H x)) (he:e=x\/H e=some (.own x)) (k:∀b u,b≠e->s.heap.get? b=some u->h'.get? b=some u) (J:∃u,h'.get? e=some u)
 (U:gS X.prog X.w (upd H x o) h' x o):Inv X pins σ (upd H x o) {s with heap:=h',toks:=t'}:=I.un (Un.write Y he k J) (I.hok.write Y he k J U)
theorem Inv.pins_of{J:List (Addr×Obj)}(I:Inv X pins σ H s)(h:∀p∈J,s.heap.get? p.1=some p.2/\H p.1=none/\p.1≠X.env.locals/\p.1∉X.fs/\∀v,p.2.data≠ .cell v):Inv X J σ H s:=
 ⟨I.ok,I.os,I.bare,I.base,I.loc,I.cell,I.free,I.freeC,λp hp=>(Uj.mp hp).elim (λz=>I.pin p (Va _ z)) (h p),I.hok,I.len⟩
theorem B9{N:List Str}(J:N.Nodup){i j:Nat}{x:Str}(a:N[i]? =some x)(b:N[j]? =some x):i=j:=by
 obtain⟨h1,e1⟩:=Ur.mp a
 obtain⟨h2,e2⟩:=Ur.mp b
 exact(XM J).mp (e1.trans e2.symm)
theorem yV {M:Model} {A:Around} {E:Value->Shared->Prop} {i:Nat} {x:Str} {v:V} {u:Value} {Q:Unit->Shared->Prop} (I:Inv X pins σ H s) (hN:X.N.Nodup) (hi:X.N[i]? =some x) (hx:Loc X.env.scope x) (r:RelV v u)
 (h:∀s',Inv X pins (σ.set i (some v)) H s'->(∃a,Heap.SameBut a s.heap s'.heap/\(a=X.env.locals\/X.env.cells.lookup x=some a))->Q () s') (hf:X.fn x=true\/X.env.scope.names.lookup x=some .local:=by first | exact .inl rfl | exact .inr rfl | assumption):wpAny M A (storeName X.env x u) Q E s:=by
 obtain⟨m,hn,hl⟩:=id I.loc
 have am:(X.env.scope.kind == .class||(X.env.scope.kind == .module&&X.env.locals != X.env.globals))=false:=by rw[I.ok.kind];rfl
 have an:i<σ.length:=by rw[I.len];exact(Ur.mp hi).1
 have cne:=I.cne
 have U:∀{a:Addr} {h':Heap},(∃o,s.heap.get? a=some o/\H a=none)->Heap.SameBut a s.heap h'->HOk X.prog X.w H h':=λ{a h'} ha J b ob e=>by
  obtain⟨_,_,Y⟩:=ha
  refine(I.hok b ob e).stay (λc w' hc q=>(J.2 c ?_).trans q) (λ_ q=>q) λ_ _ q=>q
  rintro rfl
  rcases hc with rfl | hc
  ·rw[Y] at e;cases e
  ·rw[Y] at hc;cases hc
 rcases hx with hk | hk
 ·refine wpAny_storeName_local hk hn (λh' a3 J=> ?_) am
  obtain⟨oL,_,_,a4,_⟩:=id hn
  refine h _ ⟨I.ok,I.os,I.bare,⟨λb o e n hb hx=> ?_,λb o e n hb hx=> ?_,I.base.free,λb o e hx=> ?_,I.base.tups,I.base.frzs,I.base.tbls⟩,⟨_,a3,λj y v' e1 e2 e3=> ?_⟩,λy c e=> ?_,I.free,I.freeC,λp hp=> ?_,U ⟨oL,a4,I.free⟩ J,by simpa using I.len⟩ ⟨_,J,.inl rfl⟩
  ·exact(J.2 b (UB (Ux (Heap.lt_size e) I.ok.above))).trans (I.base.keep b o e n hb hx)
  ·obtain⟨sl,e1⟩:=I.base.slot b o e n hb hx
   exact⟨sl,(J.2 b (UB (Ux (Heap.lt_size e) I.ok.above))).trans e1⟩
  ·obtain⟨o',e1⟩:=I.base.there b o e hx
   exact⟨o',(J.2 b (UB (Ux (Heap.lt_size e) I.ok.above))).trans e1⟩
  ·by_cases hj:j=i
   ·subst hj
    rw[hi] at e1;cases e1
    rw[UU an] at e2
    cases e2
    exact⟨u,r,.inl ⟨hk,by simp⟩⟩
   ·rw[U2 (Wi hj)] at e2
    obtain⟨u',r',q⟩:=hl j y v' e1 e2 e3
    refine⟨u',r', ?_⟩
    rcases q with⟨k,e⟩ | ⟨k,c,e,z⟩
    ·refine .inl ⟨k, ?_⟩
     have:y≠x:=λe=>hj (B9 hN e1 (e▸hi))
     simp[this,e]
    ·exact .inr ⟨k,c,e,z.sameBut J (cne y c e)⟩
  ·obtain⟨w',z⟩:=I.cell y c e
   exact⟨w',z.sameBut J (cne y c e)⟩
  ·obtain⟨e,n,ne,nf,d⟩:=I.pin p hp
   exact⟨(J.2 p.1 ne).trans e,n,ne,nf,d⟩
 ·have ac:X.fn x=true:=by
   rcases hf with z | z
   ·exact z
   ·rw[z] at hk;cases hk
  obtain⟨c,hc⟩:=I.ok.has x (.inl hk)
  obtain⟨w',z⟩:=I.cell x c hc
  refine wpAny_storeName_cell I.ok.kind hk hc z (λh' ap J=> ?_)
  obtain⟨oc,as,az⟩:=id z
  refine h {s with heap:=h'} ⟨I.ok,I.os,I.bare,⟨λb o e n hb hx=> ?_,λb o e n hb hx=> ?_,I.base.free,λb o e hx=> ?_,I.base.tups,I.base.frzs,I.base.tbls⟩,⟨m,hn.sameBut J (Wi (cne x c hc)),λj y v' e1 e2 e3=> ?_⟩,λy c' e=> ?_,I.free,I.freeC,λp hp=> ?_,U ⟨oc,as,I.freeC x c hc⟩ J,by simpa using I.len⟩ ⟨c,J,.inr hc⟩
  ·exact(J.2 b (UB (Ux (Heap.lt_size e) (I.ok.cab x c ac hc)))).trans (I.base.keep b o e n hb hx)
  ·obtain⟨sl,e1⟩:=I.base.slot b o e n hb hx
   exact⟨sl,(J.2 b (UB (Ux (Heap.lt_size e) (I.ok.cab x c ac hc)))).trans e1⟩
  ·obtain⟨o',e1⟩:=I.base.there b o e hx
   exact⟨o',(J.2 b (UB (Ux (Heap.lt_size e) (I.ok.cab x c ac hc)))).trans e1⟩
  ·by_cases hj:j=i
   ·subst hj
    rw[hi] at e1;cases e1
    rw[UU an] at e2
    cases e2
    exact⟨u,r,.inr ⟨.inl hk,c,hc,ap⟩⟩
   ·rw[U2 (Wi hj)] at e2
    obtain⟨u',r',q⟩:=hl j y v' e1 e2 e3
    refine⟨u',r', ?_⟩
    rcases q with q | ⟨k,c',e,z'⟩
    ·exact .inl q
    ·refine .inr ⟨k,c',e,z'.sameBut J ?_⟩
     rintro rfl
     exact hj (B9 hN e1 (I.ok.inj _ _ _ e hc▸hi))
  ·by_cases a0:c'=c
   ·subst a0;exact⟨_,ap⟩
   ·obtain⟨w2,z2⟩:=I.cell y c' e
    exact⟨w2,z2.sameBut J a0⟩
  ·obtain⟨e,n,ne,nf,d⟩:=I.pin p hp
   refine⟨(J.2 p.1 ?_).trans e,n,ne,nf,d⟩
   intro q
   rw[q,as] at e
   have q':oc=p.2:=Vc e
   exact d w' (by rw[<- q'];exact az)
theorem Cv {M:Model} {A:Around} {E:Value->Shared->Prop} {i:Nat} {x:Str} {v:V} {u:Value} {Q:Unit->Shared->Prop} (I:Inv X pins σ H s) (J:X.N.Nodup) (hi:X.N[i]? =some x) (hx:Loc X.env.scope x) (r:RelV v u)
 (h:∀s',Inv X pins (σ.set i (some v)) H s'->Q () s') (U:X.fn x=true\/X.env.scope.names.lookup x=some .local:=by first | exact .inl rfl | exact .inr rfl | assumption):wpAny M A (storeName X.env x u) Q E s:=
 yV I J hi hx r (λs' Y _=>h s' Y) U
theorem Inv.call' {s':Shared} {ch:List Addr} (I:Inv X pins σ H s) (Y:s'.os=s.os) (u:Un (frs X.stack) ch H H' s.heap s'.heap) (J:HOk X.prog X.w H' s'.heap) (hg:AllBare s'.gens)
 (U:∀b∈ch,(b∈X.ex\/X.s₀.heap.objs.size<=b)/\b≠X.env.locals/\(∀x c,X.env.cells.lookup x=some c->c≠b)/\∀p∈X.pn++pins,p.1≠b):Inv X pins σ H' s':=by
 obtain⟨h',g',d',t',o'⟩:=s'
 have e:o'=s.os:=Y
 subst e
 exact I.call (g':=g') (t':=t') (d':=d') u J hg U
end
abbrev XK:=Value->Option Addr->Hp->Prop
abbrev St:=List (Option V)
abbrev VK:=V->Hp->Prop
abbrev TE:=St->Hp->VK->Prop
abbrev TT:=St->Hp->(Bool->Hp->Prop)->Prop
abbrev TA:=St->Hp->(List V->Hp->Prop)->Prop
structure Ends where
 nx:St->Hp->Prop
 rt:VK
 bk:St->Hp->Prop:=λ_ _=>False
 ct:St->Hp->Prop:=λ_ _=>False
abbrev TS:=Ends->St->Hp->Prop
def EP(X:Cx)(pins:List (Addr×Obj))(σ:St)(Q:VK)(u:Value)(s':Shared):Prop:=∃v H',Inv X pins σ H' s'/\RelV v u/\Q v H'
def TP(X:Cx)(pins:List (Addr×Obj))(σ:St)(Q:Bool->Hp->Prop)(b:Bool)(s':Shared):Prop:=∃H',Inv X pins σ H' s'/\Q b H'
def AP(X:Cx)(pins:List (Addr×Obj))(σ:St)(Q:List V->Hp->Prop)(us:List Value)(s':Shared):Prop:=∃vs H',Inv X pins σ H' s'/\Vals vs us/\Q vs H'
def SP(X:Cx)(pins:List (Addr×Obj))(D:Ends)(f:Flow)(s':Shared):Prop:=
 match f with
 | .next=>∃J H',Inv X pins J H' s'/\D.nx J H'
 | .brk=>∃J H',Inv X pins J H' s'/\D.bk J H'
 | .cont=>∃J H',Inv X pins J H' s'/\D.ct J H'
 | .ret u=>∃v J H',Inv X pins J H' s'/\RelV v u/\D.rt v H'
def PE(X:Cx)(e:Expr)(t:TE):Prop:=
 ∀(pins:List (Addr×Obj)) (s:Shared) (σ:St) (H:Hp) (Q:VK),Inv X pins σ H s->t σ H Q->wpAny (model X.prog X.w) X.A (eval e X.env) (EP X pins σ Q) X.xe s
def PT(X:Cx)(e:Expr)(t:TT):Prop:=
 ∀(pins:List (Addr×Obj)) (s:Shared) (σ:St) (H:Hp) (Q:Bool->Hp->Prop),Inv X pins σ H s->t σ H Q->wpAny (model X.prog X.w) X.A (isTrue e X.env (eval e X.env)) (TP X pins σ Q) X.xe s
def PW(X:Cx)(e:Expr)(t:TT):Prop:=
 ∀(J:Sem Value) (pins:List (Addr×Obj)) (s:Shared) (σ:St) (H:Hp) (Q:Bool->Hp->Prop),Inv X pins σ H s->t σ H Q->wpAny (model X.prog X.w) X.A (isTrue e X.env J) (TP X pins σ Q) X.xe s
theorem PW.pt{X:Cx}{e:Expr}{t:TT}(h:PW X e t):PT X e t:=h _
def PA(X:Cx)(es:List Expr)(t:TA):Prop:=
 ∀(pos:Pos) (pins:List (Addr×Obj)) (s:Shared) (σ:St) (H:Hp) (Q:List V->Hp->Prop),Inv X pins σ H s->t σ H Q->wpAny (model X.prog X.w) X.A (spliced (backTo pos (starEach es X.env))) (AP X pins σ Q) X.xe s
def PS(X:Cx)(st:Stmt)(t:TS):Prop:=
 ∀(pins:List (Addr×Obj)) (s:Shared) (σ:St) (H:Hp) (D:Ends),Inv X pins σ H s->t D σ H->wpAny (model X.prog X.w) X.A (exec st X.env) (SP X pins D) X.xe s
def PSs(X:Cx)(st:List Stmt)(t:TS):Prop:=
 ∀(pins:List (Addr×Obj)) (s:Shared) (σ:St) (H:Hp) (D:Ends),Inv X pins σ H s->t D σ H->wpAny (model X.prog X.w) X.A (execs st X.env) (SP X pins D) X.xe s
theorem thn{α:Type}{t:Sem α}{Q J:α->Shared->Prop}{M:Model}{A:Around}{E:Value->Shared->Prop}{s:Shared}(h:wpAny M A t Q E s)(U:∀a s,Q a s->J a s):wpAny M A t J E s:=wpAny_mono h U λ_ _ x=>x
section
variable {X : Cx}
theorem bin {a b:Expr} {ta tb:TE} (ha:PE X a ta) (hb:PE X b tb) {pins:List (Addr×Obj)} {s:Shared} {σ:St} {H:Hp} {R:V->V->Hp->Prop} (I:Inv X pins σ H s) (h:ta σ H λx H1=>tb σ H1 λy H2=>R x y H2)
 {α:Type} {Q:α->Shared->Prop} {f:Value->Value->Sem α}
 (J:∀v u s2 x y H2,Inv X pins σ H2 s2->RelV x v->RelV y u->R x y H2->wpAny (model X.prog X.w) X.A (f v u) Q X.xe s2):
 wpAny (model X.prog X.w) X.A (eval a X.env) (λv U=>wpAny (model X.prog X.w) X.A (eval b X.env) (λu Y=>wpAny (model X.prog X.w) X.A (f v u) Q X.xe Y) X.xe U) X.xe s:=by
 refine thn (ha pins s σ H _ I h) λv s1 ⟨x,H1,I1,r1,q1⟩=> ?_
 refine thn (hb pins s1 σ H1 _ I1 q1) λu s2 ⟨y,H2,I2,r2,q2⟩=> ?_
 exact J v u s2 x y H2 I2 r1 r2 q2
def Jy(i:Nat):TE:=λσ H Q=>∃v,σ[i]? =some (some v)/\Q v H
def tC(v:V):TE:=λ_ H Q=>Q v H
theorem OD{i:Nat}{x:Str}{pos:Pos}(hN:X.N[i]? =some x)(hv:Vis X.env.scope x)(hd:(x == ("__debug__" :Str))=false:=by decide)(Y:(x == ("__classdict__" :Str))=false:=by decide):PE X (.Name x pos) (Jy i):=by
 intro pins s σ H Q I h
 obtain⟨v,e,h⟩:=h
 obtain⟨m,hn,hl⟩:=I.loc
 obtain⟨u,r,l⟩:=hl i x v hN e hv
 have U:EP X pins σ Q u s:=⟨v,H,I,r,h⟩
 rcases l with⟨hk,hm⟩ | ⟨hk,c,hc,J⟩
 ·exact wpAny_Name (wpAny_loadName_local I.ok.kind hk hn hm U) hd
 ·rcases hk with hk | hk
  ·exact wpAny_Name (wpAny_loadName_cell I.ok.kind hk hc J U) hd
  ·exact wpAny_Name (wpAny_loadName_free I.ok.kind hk hc J U Y) hd
theorem aH{i j pos}:PE X (.Constant (.int i) j pos) (tC (.int i)):=λ_ _ _ H _ I h=>wpAny_Constant_int ⟨.int i,H,I.tok _,⟨_,rfl⟩,h⟩
theorem xY{b j pos}:PE X (.Constant (.bool b) j pos) (tC (.bl b)):=λ_ _ _ H _ I h=>Constant_bool ⟨.bl b,H,I,rfl,h⟩
theorem BI{j pos}:PE X (.Constant .none j pos) (tC .non):=λ_ _ _ H _ I h=>Constant_none ⟨.non,H,I,rfl,h⟩
theorem xq{x j pos}:PE X (.Constant (.str x) j pos) (tC (.str x)):=λ_ _ _ H _ I h=>Calls.Constant_str ⟨.str x,H,I.tok _,⟨_,rfl⟩,h⟩
def Gl(X:Cx)(x:Str):Prop:=X.env.kindOf x=some .globalImplicit
theorem yk {E:Value->Shared->Prop} {pins:List (Addr×Obj)} {s:Shared} {σ:St} {H:Hp} {x:Str} {u:Value} {pos:Pos} {Q:Value->Shared->Prop} (I:Inv X pins σ H s) (J:Gl X x) (hm:X.mg x=some u) (h:Q u s)
 (hd:(x == ("__debug__" :Str))=false:=by decide):wpAny (model X.prog X.w) X.A (eval (.Name x pos) X.env) Q E s:=
 Calls.Name_function_global I.ok.kind J (Calls.loadGlobal_global (by rw[I.ok.glob];exact I.mod.glob.keeps I.bk) hm h) hd
theorem qR {E:Value->Shared->Prop} {pins:List (Addr×Obj)} {s:Shared} {σ:St} {H:Hp} {x:Str} {u:Value} {pos:Pos} {Q:Value->Shared->Prop} (I:Inv X pins σ H s) (J:Gl X x) (hm:X.mg x=none) (U:bootBuiltins x=some u) (h:Q u s)
 (hn:x≠"__name__" :=by decide) (hd:(x == ("__debug__" :Str))=false:=by decide):wpAny (model X.prog X.w) X.A (eval (.Name x pos) X.env) Q E s:=by
 obtain⟨mb,h1,h2⟩:=I.mod.blt
 exact Calls.Name_function_global I.ok.kind J (Calls.loadGlobal_builtin (by rw[I.ok.glob];exact I.mod.glob.keeps I.bk) hm (by rw[I.ok.blt];exact h1.keeps I.bk) ((h2 x hn).trans U) h) hd
theorem yf{x:Str}{v:V}{u:Value}{pos:Pos}(J:Gl X x)(hm:X.mg x=some u)(r:RelV v u)(hd:(x == ("__debug__" :Str))=false:=by decide):PE X (.Name x pos) (tC v):=
 λ_ _ _ H _ I h=>yk I J hm ⟨v,H,I,r,h⟩ hd
theorem DY{x:Str}{v:V}{u:Value}{pos:Pos}(J:Gl X x)(hm:X.mg x=none)(U:bootBuiltins x=some u)(r:RelV v u)(hn:x≠"__name__" :=by decide)(hd:(x == ("__debug__" :Str))=false:=by decide):PE X (.Name x pos) (tC v):=
 λ_ _ _ H _ I h=>qR I J hm U ⟨v,H,I,r,h⟩ hn hd
variable {a b : Expr} {ta tb : TE} {pos : Pos}
def PC(X:Cx)(J:CmpOp)(a b:Expr)(t:TE):Prop:=
 ∀(pins:List (Addr×Obj)) (s:Shared) (σ:St) (H:Hp) (Q:VK),Inv X pins σ H s->t σ H Q->
  wpAny (model X.prog X.w) X.A (eval a X.env) (λv U=>wpAny (model X.prog X.w) X.A (eval b X.env) (λu Y=>wpAny (model X.prog X.w) X.A (compareOp J v u) (EP X pins σ Q) X.xe Y) X.xe U) X.xe s
theorem JV(b:Expr){J:CmpOp}(h:J≠ .In)(h2:J≠ .NotIn):behindInMarks J b=false:=by
 have e1:(J == CmpOp.In)=false:=by cases J <;> first | rfl | exact absurd rfl h
 have e2:(J == CmpOp.NotIn)=false:=by cases J <;> first | rfl | exact absurd rfl h2
 cases b <;> simp[behindInMarks,e1,e2]
def tB(t:TE):TT:=λσ H Q=>t σ H λx H1=>∃c,x=.bl c/\Q c H1
theorem Rj{J:CmpOp}{t:TE}(h:PC X J a b t)(h1:behindInMarks J b=false:=by first | exact JV _ (by decide) (by decide) | rfl):PT X (.Compare a [J] [b] pos) (tB t):=by
 intro pins s σ H Q I U
 refine wpAny_isTrue_Compare1 (thn (h pins s σ H _ I U) λv s1 h1=>thn h1 λu s2 h2=>thn h2 λc s3 ⟨x,H1,I1,r1,q1⟩=> ?_) h1
 obtain⟨d,rfl,q⟩:=q1
 cases r1
 exact wpAny_truthy_bool ⟨H1,I1,q⟩
theorem px{e:Expr}{t:TE}(h:PE X e t)(U:∀J,isTrue e X.env J=(do let v <- J;standAt e.pos;holding [v] (truthy v)):=by intro _;rfl):PT X e (tB t):=by
 intro pins s σ H Q I Y
 refine isTrue_plain (thn (h pins s σ H _ I Y) λv s1 ⟨x,H1,I1,r1,q1⟩=> ?_) (U _)
 obtain⟨d,rfl,q⟩:=q1
 cases r1
 exact wpAny_truthy_bool ⟨H1,I1,q⟩
variable {tA tB' : TT} {rest : List Expr}
def M3(t u:TT):TT:=λσ H Q=>t σ H λc H1=>if c=true then u σ H1 Q else Q false H1
def tOr(t u:TT):TT:=λσ H Q=>t σ H λc H1=>if c=true then Q true H1 else u σ H1 Q
def M6(t:TT):TT:=λσ H Q=>t σ H λc H1=>Q (!c) H1
theorem pw_and1(ha:PT X a tA):PW X (.BoolOp .And [a] pos) tA:=by
 intro J pins s σ H Q I h
 refine isTrue_and (thn (ha pins s σ H Q I h) λc s1 e=> ?_)
 cases c with
 | true=>exact isTrue_and_nil e
 | false=>exact e
theorem pw_or1(ha:PT X a tA):PW X (.BoolOp .Or [a] pos) tA:=by
 intro J pins s σ H Q I h
 refine isTrue_or (thn (ha pins s σ H Q I h) λc s1 e=> ?_)
 cases c with
 | false=>exact isTrue_or_nil e
 | true=>exact e
theorem pw_and(ha:PT X a tA)(hb:PW X (.BoolOp .And (b::rest) pos) tB'):PW X (.BoolOp .And (a::b::rest) pos) (M3 tA tB'):=by
 intro J pins s σ H Q I h
 refine isTrue_and (thn (ha pins s σ H _ I h) λc s1 ⟨H1,I1,q1⟩=> ?_)
 cases c with
 | true=>exact hb J pins s1 σ H1 Q I1 q1
 | false=>exact⟨H1,I1,q1⟩
theorem pw_or(ha:PT X a tA)(hb:PW X (.BoolOp .Or (b::rest) pos) tB'):PW X (.BoolOp .Or (a::b::rest) pos) (tOr tA tB'):=by
 intro J pins s σ H Q I h
 refine isTrue_or (thn (ha pins s σ H _ I h) λc s1 ⟨H1,I1,q1⟩=> ?_)
 cases c with
 | true=>exact⟨H1,I1,q1⟩
 | false=>exact hb J pins s1 σ H1 Q I1 q1
theorem B4(ha:PT X a tA):PT X (.UnaryOp .Not a pos) (M6 tA):=by
 intro pins s σ H Q I h
 exact isTrue_not (ha pins s σ H (λc H1=>Q (!c) H1) I h)
def KR(ta tb:TE):TE:=λσ H Q=>ta σ H λx H1=>∃c,x=.bl c/\if c=true then tb σ H1 Q else Q (.bl false) H1
def Nz(ta tb:TE):TE:=λσ H Q=>ta σ H λx H1=>∃c,x=.bl c/\if c=true then Q (.bl true) H1 else tb σ H1 Q
def KJ(ta:TE):TE:=λσ H Q=>ta σ H λx H1=>∃c,x=.bl c/\Q (.bl (!c)) H1
theorem Gk{op}{t:TE}(h:PE X a t):PE X (.BoolOp op [a] pos) t:=λpins s σ H Q I J=>BoolOp_one (h pins s σ H Q I J)
theorem N2(ha:PE X a ta)(hb:PE X (.BoolOp .And (b::rest) pos) tb):PE X (.BoolOp .And (a::b::rest) pos) (KR ta tb):=by
 intro pins s σ H Q I h
 refine BoolOp_and (thn (ha pins s σ H _ I h) λv s1 ⟨x,H1,I1,r1,q1⟩=> ?_)
 obtain⟨c,rfl,q1⟩:=q1
 cases r1
 refine wpAny_truthy_bool ?_
 cases c with
 | true=>exact hb pins s1 σ H1 Q I1 q1
 | false=>exact⟨.bl false,H1,I1,rfl,q1⟩
theorem O6(ha:PE X a ta)(hb:PE X (.BoolOp .Or (b::rest) pos) tb):PE X (.BoolOp .Or (a::b::rest) pos) (Nz ta tb):=by
 intro pins s σ H Q I h
 refine BoolOp_or (thn (ha pins s σ H _ I h) λv s1 ⟨x,H1,I1,r1,q1⟩=> ?_)
 obtain⟨c,rfl,q1⟩:=q1
 cases r1
 refine wpAny_truthy_bool ?_
 cases c with
 | false=>exact hb pins s1 σ H1 Q I1 q1
 | true=>exact⟨.bl true,H1,I1,rfl,q1⟩
theorem Nk(ha:PE X a ta):PE X (.UnaryOp .Not a pos) (KJ ta):=by
 intro pins s σ H Q I h
 refine UnaryOp_ (thn (ha pins s σ H _ I h) λv s1 ⟨x,H1,I1,r1,q1⟩=> ?_)
 obtain⟨c,rfl,q1⟩:=q1
 cases r1
 exact not_of (wpAny_truthy_bool ⟨.bl (!c),H1,I1,rfl,q1⟩)
end
def SqL(K:Fa)(H:Hp)(a:Addr)(xs:List V):Prop:=
 Rd H a (.lst xs)\/
  ∃(o:Obj) (J:Array Value) (n:Nat),K.lookup a=some o/\o.cls=.type "list" /\o.dict=none/\o.data=.seq J n/\J.size<=sizeLine/\Vals xs J.toList
def SqT(K:Fa)(H:Hp)(a:Addr)(xs:List V):Prop:=
 Rd H a (.tup xs)\/
  ∃(o:Obj) (J:Array Value) (n:Nat),K.lookup a=some o/\o.cls=.type "tuple" /\o.data=.seq J n/\J.size<=sizeLine/\Vals xs J.toList
def Qp:Value->Option V
 | .none=>some .non
 | .bool b=>some (.bl b)
 | .int i _=>some (.int i)
 | .str x _=>some (.str x)
 | .bytes b _=>some (.byt b)
 | .float b _=>some (.flt b)
 | .ref a=>some (.ref a)
 | .type n=>some (.ty n)
 | _=>none
theorem RelV.abs{x:V}{u:Value}(r:RelV x u):Qp u=some x:=by
 cases x with
 | non=>cases r;rfl
 | bl _=>cases r;rfl
 | int _=>obtain⟨t,rfl⟩:=r;rfl
 | str _=>obtain⟨t,rfl⟩:=r;rfl
 | byt _=>obtain⟨t,rfl⟩:=r;rfl
 | flt _=>obtain⟨t,rfl⟩:=r;rfl
 | ref _=>cases r;rfl
 | ty _=>cases r;rfl
theorem RelV.inj{x y:V}{u:Value}(r:RelV x u)(q:RelV y u):x=y:=Vc (r.abs.symm.trans q.abs)
theorem Vals.inj:∀{xs ys:List V} {us:List Value},Vals xs us->Vals ys us->xs=ys
 | _,_,_,.nil,.nil=>rfl
 | _,_,_,.cons r t,.cons r' t'=>by rw[r.inj r',Vals.inj t t']
section
variable {X : Cx} {pins : List (Addr × Obj)} {σ : St} {H : Hp} {s : Shared} {a : Addr} {xs ys : List V}
theorem SqL.of{K:Fa}(h:H a=some (.lst xs)):SqL K H a xs:=.inl (.inl h)
theorem SqT.of{K:Fa}(h:H a=some (.tup xs)):SqT K H a xs:=.inl (.inl h)
theorem Inv.list(I:Inv X pins σ H s)(h:SqL X.K H a xs):∃J:List Value,Vals xs J/\PlainL s.heap a J.toArray/\xs.length<=sizeLine:=by
 rcases h with h | ⟨o,J,n,hk,hc,hd,U,hz,r⟩
 ·obtain⟨z,J,n,r,e⟩:=h.ok I.hok
  exact⟨J,r,⟨_,n,e,rfl,rfl,rfl⟩,z⟩
 ·refine⟨J.toList,r,⟨o,n,I.kIn a o hk,hc,hd,by simpa using U⟩, ?_⟩
  have e:=r.length
  simp only[Wz] at e
  omega
theorem Inv.tuple(I:Inv X pins σ H s)(h:SqT X.K H a xs):∃J:List Value,Vals xs J/\IsTup s.heap a J.toArray/\xs.length<=sizeLine:=by
 rcases h with h | ⟨o,J,n,hk,hc,U,hz,r⟩
 ·obtain⟨z,J,r,p⟩:=h.ok I.hok
  exact⟨J,r,p,z⟩
 ·refine⟨J.toList,r,⟨o,I.kIn a o hk,hc,n,by simpa using U⟩, ?_⟩
  have e:=r.length
  simp only[Wz] at e
  omega
theorem Inv.list_inj(I:Inv X pins σ H s)(h:SqL X.K H a xs)(h':SqL X.K H a ys):xs=ys:=by
 obtain⟨U,r,⟨o,n,e,_,_,d⟩,_⟩:=I.list h
 obtain⟨J,r',⟨o',n',e',_,_,Y⟩,_⟩:=I.list h'
 rw[e] at e';cases e'
 rw[d] at Y
 injection Y with d1 _
 have:U=J:=by simpa using congrArg Array.toList d1
 subst this
 exact r.inj r'
end
abbrev Cx.wish(X:Cx)(E:Value->Shared->Prop):Cx:={X with xe:=E}
abbrev Cx.nox(X:Cx):Cx:=X.wish λ_ _=>False
theorem Cx.Ok.wish{X:Cx}(ok:X.Ok)(E:Value->Shared->Prop):(X.wish E).Ok:=
 ⟨ok.mod,ok.kind,ok.glob,ok.blt,ok.above,ok.inj,ok.has,ok.cab,ok.hd,ok.frames,ok.stk,ok.exf,ok.bs,ok.bsz,ok.noex,ok.exfs,ok.funs,ok.frf⟩
theorem Cx.Ok.unwish{X:Cx}{E:Value->Shared->Prop}(ok:(X.wish E).Ok):X.Ok:=
 ⟨ok.mod,ok.kind,ok.glob,ok.blt,ok.above,ok.inj,ok.has,ok.cab,ok.hd,ok.frames,ok.stk,ok.exf,ok.bs,ok.bsz,ok.noex,ok.exfs,ok.funs,ok.frf⟩
section
variable {X : Cx} {pins : List (Addr × Obj)} {σ : St} {H : Hp} {s : Shared} {E : Value → Shared → Prop}
theorem Inv.wish(I:Inv X pins σ H s)(E:Value->Shared->Prop):Inv (X.wish E) pins σ H s:=⟨I.ok.wish E,I.os,I.bare,I.base,I.loc,I.cell,I.free,I.freeC,I.pin,I.hok,I.len⟩
theorem Inv.unwish(I:Inv (X.wish E) pins σ H s):Inv X pins σ H s:=⟨I.ok.unwish,I.os,I.bare,I.base,I.loc,I.cell,I.free,I.freeC,I.pin,I.hok,I.len⟩
theorem SP.unwish{D:Ends}{f:Flow}{s':Shared}(h:SP (X.wish E) pins D f s'):SP X pins D f s':=by
 cases f with
 | next=>obtain⟨J,H',I,q⟩:=h;exact⟨J,H',I.unwish,q⟩
 | brk=>obtain⟨J,H',I,q⟩:=h;exact⟨J,H',I.unwish,q⟩
 | cont=>obtain⟨J,H',I,q⟩:=h;exact⟨J,H',I.unwish,q⟩
 | ret u=>obtain⟨v,J,H',I,r,q⟩:=h;exact⟨v,J,H',I.unwish,r,q⟩
theorem PE.nox{e:Expr}{t:TE}(h:PE X.nox e t):PE X e t:=λpins s σ H Q I J=>
 wpAny_mono (h pins s σ H Q (I.wish _) J) (λ_ _ ⟨v,H',I',r,q⟩=>⟨v,H',I'.unwish,r,q⟩) λ_ _ z=>Fk z
theorem PT.nox{e:Expr}{t:TT}(h:PT X.nox e t):PT X e t:=λpins s σ H Q I J=>
 wpAny_mono (h pins s σ H Q (I.wish _) J) (λ_ _ ⟨H',I',q⟩=>⟨H',I'.unwish,q⟩) λ_ _ z=>Fk z
theorem PSs.nox{st:List Stmt}{t:TS}(h:PSs X.nox st t):PSs X st t:=λpins s σ H D I J=>
 wpAny_mono (h pins s σ H D (I.wish _) J) (λ_ _ q=>q.unwish) λ_ _ z=>Fk z
end
section
variable {X : Cx} {st : Stmt} {rest : List Stmt} {t u : TS} {e : Expr} {te : TE} {pos : Pos}
def KL:TS:=λD σ H=>D.nx σ H
def NF(t u:TS):TS:=λD σ H=>t {D with nx:=u D} σ H
theorem bX:PSs X [] KL:=λ_ _ σ H _ I h=>wpAny_execs_nil ⟨σ,H,I,h⟩
theorem ax(h1:PS X st t)(h2:PSs X rest u):PSs X (st::rest) (NF t u):=by
 intro pins s σ H D I h
 refine wpAny_execs_cons (thn (h1 pins s σ H {D with nx:=u D} I h) λf s1 q=> ?_)
 cases f with
 | next=>
  obtain⟨J,H',U,q⟩:=q
  exact h2 pins s1 J H' D U q
 | ret v=>exact q
 | brk=>exact q
 | cont=>exact q
theorem aI(h1:PS X st t):PSs X [st] t:=by
 intro pins s σ H D I h
 refine wpAny_execs_cons (thn (h1 pins s σ H D I h) λf s1 q=> ?_)
 cases f with
 | next=>exact wpAny_execs_nil q
 | ret v=>exact q
 | brk=>exact q
 | cont=>exact q
theorem Inv.quiet{pins:List (Addr×Obj)}{σ:St}{H:Hp}{s:Shared}(I:Inv X pins σ H s):interactive X.env=false:=by simp[interactive,I.ok.kind]
def KN(te:TE):TS:=λD σ H=>te σ H λ_ H1=>D.nx σ H1
theorem dG(J:PE X e te)(U:swapsWith e none pos.line X.env=pure false:=by rfl):PS X (.Expr e pos) (KN te):=by
 intro pins s σ H D I h
 exact wpAny_Expr_any (thn (J pins s σ H _ I h) λv s1 ⟨x,H1,I1,r1,q1⟩=>⟨σ,H1,I1,q1⟩) I.quiet U
def Ob(te:TE):TS:=λD σ H=>te σ H D.rt
theorem bu(J:PE X e te):PS X (.Return (some e) pos) (Ob te):=by
 intro pins s σ H D I h
 exact wpAny_Return_some (thn (J pins s σ H _ I h) λv s1 ⟨x,H1,I1,r1,q1⟩=>⟨x,σ,H1,I1,r1,q1⟩)
def Nq(c:TT)(t u:TS):TS:=λD σ H=>c σ H λb H1=>if b=true then t D σ H1 else u D σ H1
theorem dm{c:Expr}{a b:List Stmt}{tc:TT}(hc:PT X c tc)(ha:PSs X a t)(hb:PSs X b u):PS X (.If c a b pos) (Nq tc t u):=by
 intro pins s σ H D I h
 refine wpAny_If (thn (hc pins s σ H _ I h) λd s1 ⟨H1,I1,q1⟩=> ?_)
 cases d with
 | true=>exact ha pins s1 σ H1 D I1 q1
 | false=>exact hb pins s1 σ H1 D I1 q1
def Gb:TS:=λ_ _ _=>False
theorem iB:PS X st Gb:=λ_ _ _ _ _ _ h=>h.elim
end
abbrev TG:=V->St->Hp->(St->Hp->Prop)->Prop
abbrev TGs:=List V->St->Hp->(St->Hp->Prop)->Prop
def PG(X:Cx)(J:Expr)(t:TG):Prop:=
 ∀(pins:List (Addr×Obj)) (s:Shared) (σ:St) (H:Hp) (v:V) (u:Value) (Q:St->Hp->Prop),Inv X pins σ H s->RelV v u->t v σ H Q->
  wpAny (model X.prog X.w) X.A (assign J X.env u) (λ_ s'=>∃U H',Inv X pins U H' s'/\Q U H') X.xe s
def PGs(X:Cx)(ts:List Expr)(t:TGs):Prop:=
 ∀(pins:List (Addr×Obj)) (s:Shared) (σ:St) (H:Hp) (vs:List V) (us:List Value) (Q:St->Hp->Prop),Inv X pins σ H s->Vals vs us->t vs σ H Q->
  wpAny (model X.prog X.w) X.A (assignInOrder ((assignEach ts X.env).map (·.2)) us) (λ_ s'=>∃J H',Inv X pins J H' s'/\Q J H') X.xe s
abbrev Jv:=V->V->V->Hp->(Hp->Prop)->Prop
def N6(X:Cx)(t:Jv):Prop:=
 ∀(pins:List (Addr×Obj)) (s:Shared) (σ:St) (H:Hp) (o i v:V) (J U u:Value) (Q:Hp->Prop),Inv X pins σ H s->RelV o J->RelV i U->RelV v u->t o i v H Q->
  wpAny (model X.prog X.w) X.A (setItem J U u) (λ_ s'=>∃H',Inv X pins σ H' s'/\Q H') X.xe s
section
variable {X : Cx} {pos : Pos}
def uK(i:Nat):TG:=λv σ H Q=>Q (σ.set i (some v)) H
theorem aR{i:Nat}{x:Str}(J:X.N.Nodup)(hi:X.N[i]? =some x)(hx:Loc X.env.scope x)(U:X.fn x=true\/X.env.scope.names.lookup x=some .local:=by first | exact .inl rfl | exact .inr rfl | assumption):PG X (.Name x pos) (uK i):=by
 intro pins s σ H v u Q I r h
 exact wpAny_assign_Name (Cv I J hi hx r (λs' Y=>⟨_,H,Y,h⟩) U)
def Nt:TGs:=λvs σ H Q=>vs=[]/\Q σ H
def Kw(t:TG)(u:TGs):TGs:=λvs σ H Q=>∃v r,vs=v::r/\t v σ H λJ H'=>u r J H' Q
theorem gE:PGs X [] Nt:=by
 intro pins s σ H vs us Q I r h
 obtain⟨e,h⟩:=h
 subst e
 cases r
 exact assignInOrder_nil ⟨σ,H,I,h⟩
theorem cy {e:Expr} {es:List Expr} {t:TG} {u:TGs} (h1:PG X e t) (h2:PGs X es u)
 (J:(assignEach (e::es) X.env).map (·.2)=assign e X.env::(assignEach es X.env).map (·.2):=by rfl):PGs X (e::es) (Kw t u):=by
 intro pins s σ H vs us Q I r h
 obtain⟨v,Y,e1,h⟩:=h
 subst e1
 cases r with
 | cons r U=>
  rw[J]
  refine assignInOrder_cons (thn (h1 pins s σ H _ _ _ I r h) λ_ s1 ⟨σ1,H1,I1,q1⟩=> ?_)
  exact h2 pins s1 σ1 H1 _ _ Q I1 U q1
def MW(K:Fa)(n:Nat)(t:TGs):TG:=λv σ H Q=>∃a xs,v=.ref a/\SqT K H a xs/\xs.length=n/\t xs σ H Q
theorem iR {es:List Expr} {k:Nat} {t:TGs} {n:Nat} (hc:X.calm=true) (h:PGs X es t)
 (hn:(assignEach es X.env).length=n:=by rfl) (J:(assignEach es X.env).findIdx? (·.1)=none:=by rfl):PG X (.Tuple es k pos) (MW X.K n t):=by
 intro pins s σ H v u Q I r U
 obtain⟨a,xs,e1,hq,hl,U⟩:=U
 subst e1
 cases r
 obtain⟨ac,Y,ht,hz⟩:=I.tuple hq
 refine assign_Tuple_tuple (I.ok.hd hc) ht (by simp[hn,<- hl,Y.length]) J λh' hx=> ?_
 have I1:Inv X pins σ H {s with heap:=h'}:=I.kept (t':=s.toks) λb o e=>hx b o (UB (Heap.lt_size e)) e
 exact h pins _ σ H xs _ Q I1 (by simpa using Y) U
def OE(to J:TE)(t:Jv):TG:=λv σ H Q=>to σ H λo H1=>J σ H1 λi H2=>t o i v H2 λU=>Q σ U
theorem xX {o i:Expr} {to Y:TE} {t:Jv} (ho:PE X o to) (hi:PE X i Y) (hs:N6 X t)
 (ha:∀v,assign (.Subscript o i pos) X.env v=(do
  let J <- holding [v] (eval o X.env)
  let U <- holding [v,J] (eval i X.env)
  standAt pos
  holding [v,J,U] (setItem J U v)
  release [v,J,U] []):=by intro _;rfl):PG X (.Subscript o i pos) (OE to Y t):=by
 intro pins s σ H v u Q I r h
 rw[ha]
 refine wpAny_bind (wpAny_holding (thn (ho pins s σ H _ I h) λJ s1 ⟨x,H1,I1,r1,q1⟩=> ?_))
 refine wpAny_bind (wpAny_holding (thn (hi pins s1 σ H1 _ I1 q1) λU s2 ⟨y,H2,I2,r2,q2⟩=> ?_))
 refine wpAny_bind (wpAny_standAt (wpAny_bind (wpAny_holding (thn (hs pins s2 σ H2 x y v J U u _ I2 r1 r2 r q2) λ_ s3 ⟨H3,I3,q3⟩=> ?_))))
 exact wpAny_release ⟨σ,H3,I3,q3⟩
def B0(te:TE)(g:TG):TS:=λD σ H=>te σ H λx H1=>g x σ H1 D.nx
theorem xw {tg e:Expr} {te:TE} {g:TG} (J:PE X e te) (U:PG X tg g) (Y:swapsWithSole [tg] e pos.line X.env=pure false:=by rfl) (hw:swappedStores [tg] e X.env=pure none:=by rfl)
 (h1:(assignEach [tg] X.env).map (·.2)=[assign tg X.env]:=by rfl):PS X (.Assign [tg] e pos) (B0 te g):=by
 intro pins s σ H D I h
 refine wpAny_Assign_stores (thn (J pins s σ H _ I h) λv s1 ⟨x,H1,I1,r1,q1⟩=> ?_) Y hw
 rw[h1]
 exact thn (U pins s1 σ H1 x v _ I1 r1 q1) λ_ s2 q=>q
theorem bh{i:Nat}{x:Str}{e:Expr}{te:TE}{pos':Pos}(J:X.N.Nodup)(hi:X.N[i]? =some x)(hx:Loc X.env.scope x)(U:PE X e te)(Y:swapsWith e (some (.Name x pos')) pos.line X.env=pure false:=by rfl)(hf:X.fn x=true\/X.env.scope.names.lookup x=some .local:=by first | exact .inl rfl | exact .inr rfl | assumption):
 PS X (.Assign [.Name x pos'] e pos) (B0 te (uK i)):=by
 intro pins s σ H D I h
 refine wpAny_Assign_Name (thn (U pins s σ H _ I h) λv s1 ⟨y,H1,I1,r1,q1⟩=> ?_) Y
 exact Cv I1 J hi hx r1 (λs2 I2=>⟨_,H1,I2,q1⟩) hf
end
section
variable {X : Cx} {pos : Pos}
def Hg(c:TT)(tb:TS):TS:=λD σ H=>∃W:Nat->St->Hp->Prop,(∃m,W m σ H)/\∀m σ H,W m σ H->
 c σ H λb H1=>if b=true then ∃N:St->Hp->Prop,(∀J H',N J H'->∃U,U<m/\W U J H')/\tb {D with nx:=N,ct:=N,bk:=D.nx} σ H1 else D.nx σ H1
theorem Ka{c:Expr}{body:List Stmt}{tc:TT}{tb:TS}(hp:PassesOwn (model X.prog X.w) X.A X.env X.xe)(hc:PT X c tc)(hb:PSs X body tb):PS X (.While c body [] pos) (Hg tc tb):=by
 intro pins s σ H D I h
 obtain⟨W,⟨m0,w0⟩,J⟩:=h
 refine wpAny_While (codeAny_whileLoop (λn s'=>∃σ' H',Inv X pins σ' H' s'/\W n σ' H') ?_ m0 ⟨σ,H,I,w0⟩)
 rintro n s1 ⟨σ1,H1,I1,w1⟩
 refine wpAny_passesOwn hp (thn (hc pins s1 σ1 H1 _ I1 (J n σ1 H1 w1)) λb s2 ⟨H2,I2,q2⟩=> ?_)
 cases b with
 | true=>
  obtain⟨N,hN,q2⟩:=q2
  rw[if_pos rfl]
  refine wpAny_passesOwn hp (thn (hb pins s2 σ1 H2 _ I2 q2) λf s3 q3=> ?_)
  cases f with
  | next=>
   obtain⟨U,Y,I3,n3⟩:=q3
   obtain⟨m',hm,w3⟩:=hN U Y n3
   exact⟨m',hm,U,Y,I3,w3⟩
  | cont=>
   obtain⟨U,Y,I3,n3⟩:=q3
   obtain⟨m',hm,w3⟩:=hN U Y n3
   exact⟨m',hm,U,Y,I3,w3⟩
  | brk=>exact q3
  | ret v=>exact q3
 | false=>
  rw[if_neg Uu]
  exact wpAny_execs_nil ⟨σ1,H2,I2,q2⟩
end
structure It where
 go:Nat->Hp->Prop
 yld:Nat->Hp->V->Hp->Prop
 stop:Nat->Hp->Prop
def nv(X:Cx)(pins:List (Addr×Obj))(H:Hp)(b:Addr):Prop:=
 H b=none/\b≠X.env.locals/\b∉X.fs/\(b∈X.ex\/X.s₀.heap.objs.size<=b)/\(∀x c,X.env.cells.lookup x=some c->c≠b)/\∀p∈X.pn++pins,p.1≠b
theorem Inv.fpOk{X:Cx}{pins:List (Addr×Obj)}{σ:St}{H H':Hp}{s:Shared}{b:Addr}(I:Inv X pins σ H s)(hb:s.heap.objs.size<=b)(hn:H' b=none):nv X pins H' b:=by
 refine⟨hn,Xu (Ux I.lt hb),I.nofs hb,.inr (UI I.sz hb),λx c e z=> ?_,λp hp z=> ?_⟩
 ·obtain⟨v,q⟩:=I.cell x c e
  exact absurd (Ux q.lt (by rw[z];exact hb)) (U8 _)
 ·exact absurd (Ux (Heap.lt_size (I.pin p hp).1) (by rw[z];exact hb)) (U8 _)
structure Turn(P:Program)(w:World)(K:Fa)(tg:Expr)(J:It)(fp:List Addr)(it:Addr)(tn:Nat->Heap->Prop):Prop where
 mem:it∈fp
 obj:∀i h,tn i h->∀b∈fp,∃o,h.get? b=some o/\∀v,o.data≠ .cell v
 keep:∀i h h',tn i h->(∀b∈fp,∀o,h.get? b=some o->h'.get? b=some o)->tn i h'
 item:∀(X:Cx),X.prog=P->X.w=w->X.K=K->X.calm=true->∀(i:Nat) (pins:List (Addr×Obj)) (s:Shared) (σ:St) (H:Hp) (E:Value->Shared->Prop),Inv X pins σ H s->(∀b∈fp,nv X pins H b)->tn i s.heap->J.go i H->
  wpAny (model P w) X.A (pyNext (.ref it)) (λr s1=>∃u,r=some u/\
   wpAny (model P w) X.A (letOwnedTupleGo tg (.ref it) u) (λ_ s2=>∃x H',Inv X pins σ H' s2/\RelV x u/\J.yld i H x H'/\tn (i+1) s2.heap/\∀b∈fp,H' b=none) E s1) E s
 done:∀(X:Cx),X.prog=P->X.w=w->X.K=K->X.calm=true->∀(i:Nat) (pins:List (Addr×Obj)) (s:Shared) (σ:St) (H:Hp) (E:Value->Shared->Prop),Inv X pins σ H s->(∀b∈fp,nv X pins H b)->tn i s.heap->J.stop i H->
  wpAny (model P w) X.A (pyNext (.ref it)) (λr s1=>r=none/\Inv X pins σ H s1) E s
 self:∀(A:Around) (i:Nat) (s:Shared) (Q:Value->Shared->Prop) (E:Value->Shared->Prop),tn i s.heap->Q (.ref it) s->wpAny (model P w) A (pyIter (.ref it)) Q E s
abbrev TI:=St->Hp->(It->Hp->Prop)->Prop
def PIE(X:Cx)(pins:List (Addr×Obj))(σ:St)(tg:Expr)(R:It->Hp->Prop)(U:Value)(s2:Shared):Prop:=
 ∃(it:Addr) (fp:List Addr) (Y:Nat->Heap->Prop) (J:It) (H':Hp),U=.ref it/\Inv X pins σ H' s2/\Turn X.prog X.w X.K tg J fp it Y/\Y 0 s2.heap/\(∀b∈fp,nv X pins H' b)/\R J H'
def PI(X:Cx)(tg J:Expr)(U:TI):Prop:=
 ∀(pins:List (Addr×Obj)) (s:Shared) (σ:St) (H:Hp) (R:It->Hp->Prop),Inv X pins σ H s->U σ H R->
  wpAny (model X.prog X.w) X.A (eval J X.env) (λv s1=>wpAny (model X.prog X.w) X.A (pyIter v) (PIE X pins σ tg R) X.xe s1) X.xe s
theorem Ez {M:Model} {A:Around} {E:Value->Shared->Prop} {s:Shared} {tg:Expr} {it:Addr} {u:Value} {o:Obj} {n:String} {vs:Array Value} {Q:Unit->Shared->Prop} (U:s.heap.get? it=some o) (hc:o.cls=.type n) (hd:o.data=.fields vs)
 (hn:["enumerate","zip","dict_itemiterator","dict_reverseitemiterator","odict_iterator","itertools.zip_longest","itertools.pairwise"].contains n=false) (J:Q () s):wpAny M A (letOwnedTupleGo tg (.ref it) u) Q E s:=by
 unfold letOwnedTupleGo
 cases tg <;> first
  | exact wpAny_pure J
  | (cases u <;> first
   | exact wpAny_pure J
   | (
    refine wpAny_bind (wpAny_load U ?_)
    rw[hc,hd]
    show wpAny M A (if (["enumerate","zip","dict_itemiterator","dict_reverseitemiterator","odict_iterator","itertools.zip_longest","itertools.pairwise"].contains n&&vs[0]? == some (rawInt _))=true then _ else _) Q E s
    rw[if_neg (by intro h;rw[hn,WB] at h;cases h)]
    exact wpAny_pure J))
def Itl(K:Fa)(a:Addr):It:=
 ⟨λi H=>∃xs x,SqL K H a xs/\xs[i]? =some x,λi H x H'=>H'=H/\∀xs,SqL K H a xs->xs[i]? =some x,λi H=>∃xs,SqL K H a xs/\xs.length<=i⟩
def Itr(lo:Int)(n:Nat):It:=⟨λi _=>i<n,λi H x H'=>H'=H/\x=.int (lo+i),λi _=>n<=i⟩
theorem G2{P:Program}{w:World}{K:Fa}{tg:Expr}(a it:Addr):Turn P w K tg (Itl K a) [it] it (λi h=>h.IsListIter it a i) where
 mem:=by simp
 obj:=λi h st b hb=>by
  have e:b=it:=by simpa using hb
  subst e
  obtain⟨o,e,c,d⟩:=st
  exact⟨o,e,λv z=>by rw[d] at z;cases z⟩
 keep:=λi h h' st k=>st.at λo e=>k it (by simp) o e
 item:=by
  intro X hP hw hK hc i pins s σ H E I hf st hg
  subst hP hw hK
  obtain⟨xs,x,hq,hx⟩:=hg
  obtain⟨its,rv,p,hz⟩:=I.list hq
  obtain⟨u,hu,ru⟩:=rv.get hx
  obtain⟨f0,f1,f2,f3,f4,f5⟩:=hf it (by simp)
  refine wpAny_pyNext_list_item st p.isList (x:=u) (by simpa using hu) λh' st' sb=> ?_
  have I1:Inv X pins σ H {s with heap:=h'}:=I.turned (t':=s.toks) (λb o hb e=>(sb.2 b hb).trans e) f0 f1 f3 f4 f5
  obtain⟨o,e,c,d⟩:=id st'
  exact⟨u,rfl,Ez (s:={s with heap:=h'}) e c d (by decide) ⟨x,H,I1,ru,⟨rfl,λys hy=>by rw[I.list_inj hy hq];exact hx⟩,st',λb hb=>(hf b hb).1⟩⟩
 done:=by
  intro X hP hw hK hc i pins s σ H E I hf st hg
  subst hP hw hK
  obtain⟨xs,hq,hx⟩:=hg
  obtain⟨its,rv,p,hz⟩:=I.list hq
  obtain⟨f0,f1,f2,f3,f4,f5⟩:=hf it (by simp)
  have hl:=rv.length
  exact wpAny_pyNext_list_end (I.ok.hd hc) st p.isList (by simp;omega) λh' eb=>⟨rfl,I.turned (t':=s.toks) (λb o hb e=>eb b o hb e) f0 f1 f3 f4 f5⟩
 self:=λ_ _ _ _ _ st h=>wpAny_pyIter_listiter st h
theorem FA{P:Program}{w:World}{K:Fa}{tg:Expr}(it:Addr)(lo:Int)(n:Nat):Turn P w K tg (Itr lo n) [it] it (λi h=>IsRangeIter h it (lo+(i:Nat)*1) ((n:Int)-(i:Nat)) 1) where
 mem:=by simp
 obj:=λi h st b hb=>by
  have e:b=it:=by simpa using hb
  subst e
  exact⟨_,st,λv z=>by
   have z':Data.fields _=Data.cell v:=z
   cases z'⟩
 keep:=λi h h' st k=>k it (by simp) _ st
 item:=by
  intro X hP hw hK hc i pins s σ H E I hf st hg
  subst hP hw hK
  obtain⟨f0,f1,f2,f3,f4,f5⟩:=hf it (by simp)
  have W:=Walks.range (prog:=X.prog) (w:=X.w) (I.ok.hd hc) it lo 1 n
  refine W.item i s _ _ hg st λv h' tk hv st' kk=> ?_
  obtain⟨t,rfl⟩:=hv
  have I1:Inv X pins σ H {s with heap:=h',toks:=tk}:=I.turned (λb o hb e=>kk b o (by simpa using hb) e) f0 f1 f3 f4 f5
  refine⟨_,rfl,Ez (s:={s with heap:=h',toks:=tk}) (n:="range_iterator") st' rfl rfl (by decide) ⟨.int (lo+i),H,I1,⟨t, ?_⟩,⟨rfl,rfl⟩,st',λb hb=>(hf b hb).1⟩⟩
  rw[Int.mul_one]
 done:=by
  intro X hP hw hK hc i pins s σ H E I hf st hg
  subst hP hw hK
  obtain⟨f0,f1,f2,f3,f4,f5⟩:=hf it (by simp)
  exact wpAny_pyNext_range_end (I.ok.hd hc) st (by have:n<=i:=hg;omega) λh' eb=>⟨rfl,I.turned (t':=s.toks) (λb o hb e=>eb b o hb e) f0 f1 f3 f4 f5⟩
 self:=λ_ _ _ _ _ st h=>wpAny_pyIter_rangeiter st h
section
variable {X : Cx} {tg : Expr}
def Ku(K:Fa)(tl:TE):TI:=λσ H R=>tl σ H λx H1=>∃a,x=.ref a/\(∃xs,SqL K H1 a xs)/\R (Itl K a) H1
theorem cC{l:Expr}{tl:TE}(J:PE X l tl):PI X tg l (Ku X.K tl):=by
 intro pins s σ H R I h
 refine thn (J pins s σ H _ I h) λv s1 ⟨x,H1,I1,r1,q1⟩=> ?_
 obtain⟨a,e,⟨xs,hq⟩,q⟩:=q1
 subst e
 cases r1
 obtain⟨U,Y,p,hz⟩:=I1.list hq
 refine wpAny_pyIter_list p.isList ?_
 refine⟨s1.heap.objs.size,[s1.heap.objs.size],_,_,H1,rfl,I1.kept (t':=s1.toks) λb o e=>Heap.get?_push_of_some _ e,G2 a _,⟨_,Heap.get?_push_size _ rfl,rfl,rfl⟩,λb hb=> ?_,q⟩
 have e:b=s1.heap.objs.size:=by simpa using hb
 subst e
 exact I1.fpOk (Ud _) (I1.hok.fresh (Ud _))
theorem Je {pins:List (Addr×Obj)} {σ:St} {H:Hp} {s:Shared} {R:It->Hp->Prop} {E:Value->Shared->Prop} {lo hi:Int} {t u v:Tok} {tk:Nat} (I:Inv X pins σ H s) (h1: -(2^62)<=lo) (h2:lo<2^62) (U: -(2^62)<=hi) (Y:hi<2^62)
 (q:R (Itr lo (hi-lo).toNat) H):wpAny (model X.prog X.w) X.A (pyIter (.ref s.heap.objs.size)) (PIE X pins σ tg R) E {s with heap:=s.heap.push {cls:=.type "range",data:=.fields #[.int lo t,.int hi u,.int 1 v]},toks:=tk}:=by
 refine wpAny_pyIter_range (IsRange.new ..) (small_one h1 h2 U Y) ?_
 have J:Inv X pins σ H {s with heap:=s.heap.push {cls:=.type "range",data:=.fields #[.int lo t,.int hi u,.int 1 v]},toks:=tk}:=I.kept λb o e=>Heap.get?_push_of_some _ e
 refine⟨(s.heap.push {cls:=.type "range",data:=.fields #[.int lo t,.int hi u,.int 1 v]}).objs.size,[(s.heap.push {cls:=.type "range",data:=.fields #[.int lo t,.int hi u,.int 1 v]}).objs.size],_,_,H,rfl,
  J.kept (t':=tk) λb o e=>Heap.get?_push_of_some _ e,FA _ lo (hi-lo).toNat, ?_,λb hb=> ?_,q⟩
 ·have e1:lo+((0:Nat):Int)*1=lo:=by simp
  have e2:(((hi-lo).toNat:Nat):Int)-((0:Nat):Int)=Builtin.Range.rangeSize lo hi 1:=by rw[rangeSize_one];split <;> omega
  show IsRangeIter _ _ (lo+((0:Nat):Int)*1) ((((hi-lo).toNat:Nat):Int)-((0:Nat):Int)) 1
  rw[e1,e2]
  exact Heap.get?_push_size _ rfl
 ·have e:b=(s.heap.push {cls:=.type "range",data:=.fields #[.int lo t,.int hi u,.int 1 v]}).objs.size:=by simpa using hb
  subst e
  exact J.fpOk (Ud _) (J.hok.fresh (Ud _))
def KH(ta:TA):TI:=λσ H R=>ta σ H λvs H1=>∃j:Int,vs=[.int j]/\ -(2^62)<=j/\j<2^62/\R (Itr 0 j.toNat) H1
theorem dy{a:Expr}{ta:TA}{p pos:Pos}(J:Gl X "range")(hm:X.mg "range" =none)(ha:PA X [a] ta)(U:starEach [a] X.env=[(false,eval a X.env)]:=by rfl):PI X tg (.Call (.Name "range" p) [a] [] pos) (KH ta):=by
 intro pins s σ H R I h
 refine Call_ (qR I J hm boot_range (Vz (thn (ha pos pins s σ H _ I h) λus s1 ⟨vs,H1,I1,r1,q1⟩=> ?_) U rfl))
 obtain⟨j,e,q1,q2,q⟩:=q1
 subst e
 cases r1 with
 | cons r Y=>
  cases Y
  obtain⟨t,rfl⟩:=r
  exact call_range_1 (Je I1 (by omega) (by omega) q1 q2 (by simpa using q))
def Od(wi:TI)(g:TG)(tb:TS):TS:=λD σ H=>wi σ H λJ H1=>∃W:Nat->Nat->St->Hp->Prop,(∃m,W 0 m σ H1)/\∀i m σ H,W i m σ H->
 (J.stop i H/\D.nx σ H)\/(J.go i H/\∃N:St->Hp->Prop,(∀U H',N U H'->∃Y,Y<m/\W (i+1) Y U H')/\∀x H',J.yld i H x H'->g x σ H' λσ2 H2=>tb {D with nx:=N,ct:=N,bk:=D.nx} σ2 H2)
def tQ(fp:List Addr)(h:Heap):List (Addr×Obj):=fp.filterMap λb=>(h.get? b).map λo=>(b,o)
theorem oQ{fp:List Addr}{h:Heap}{b:Addr}{o:Obj}(hb:b∈fp)(e:h.get? b=some o):(b,o)∈tQ fp h:=Xv.mpr ⟨b,hb,by rw[e];rfl⟩
theorem Hr{fp:List Addr}{h:Heap}{p:Addr×Obj}(hp:p∈tQ fp h):p.1∈fp/\h.get? p.1=some p.2:=by
 obtain⟨b,hb,e⟩:=Xv.mp hp
 cases q:h.get? b with
 | none=>rw[q] at e;cases e
 | some o=>
  rw[q] at e
  have e':(b,o)=p:=Vc e
  subst e'
  exact⟨hb,q⟩
theorem Inv.pinned{pins:List (Addr×Obj)}{σ:St}{H:Hp}{s:Shared}{fp:List Addr}(I:Inv X pins σ H s)(J:∀b∈fp,nv X pins H b)(U:∀b∈fp,∃o,s.heap.get? b=some o/\∀v,o.data≠ .cell v):Inv X (pins++tQ fp s.heap) σ H s:=
 I.pins_of λp hp=>(Uj.mp hp).elim (λz=>I.pin p (UE _ z)) λz=>by
  obtain⟨hb,e⟩:=Hr z
  obtain⟨Y,f1,f2,_⟩:=J p.1 hb
  obtain⟨o,e',d⟩:=U p.1 hb
  rw[e] at e';cases e'
  exact⟨e,Y,f1,f2,d⟩
theorem Inv.unpinned{pins pl:List (Addr×Obj)}{σ:St}{H:Hp}{s:Shared}(I:Inv X (pins++pl) σ H s):Inv X pins σ H s:=I.pins_of λp hp=>I.pin p (UE _ (Va _ hp))
theorem eT {U:Expr} {body:List Stmt} {wi:TI} {g:TG} {tb:TS} {pos:Pos} (hp:PassesOwn (model X.prog X.w) X.A X.env X.xe) (hc:X.calm=true) (hi:PI X tg U wi) (hg:PG X tg g) (hb:PSs X body tb)
 (hs:∀x,foldedSetIterable U X.env x=pure x:=by intro _;rfl):PS X (.For tg U body [] pos) (Od wi g tb):=by
 intro pins s σ H D I h
 refine wpAny_For (thn (hi pins s σ H _ I h) λv s1 h1=>thn h1 λbm s2 h2=> ?_) hs
 obtain⟨it,fp,tn,J,H2,e,I2,T,a4,f2,W,⟨m0,w0⟩,ap⟩:=h2
 subst e
 have Y:∀{H':Hp},(∀b∈fp,H' b=none)->∀b∈fp,nv X pins H' b:=λhn b hb=>⟨hn b hb,(f2 b hb).2⟩
 refine codeAny_forLoop_any (λn s'=>∃i σ' H',Inv X pins σ' H' s'/\tn i s'.heap/\(∀b∈fp,H' b=none)/\W i n σ' H') ?_ m0 ⟨0,σ,H2,I2,a4,λb hb=>(f2 b hb).1,w0⟩
 rintro n s3 ⟨i,σ3,H3,I3,a0,a1,w3⟩
 rcases ap i n σ3 H3 w3 with⟨a2,qn⟩ | ⟨go,N,hN,step⟩
 ·refine wpAny_passesOwn hp (thn (T.done X rfl rfl rfl hc i pins s3 σ3 H3 X.xe I3 (Y a1) a0 a2) λr s4 ⟨hr,I4⟩=> ?_)
  subst hr
  exact wpAny_execs_nil ⟨σ3,H3,I4,qn⟩
 ·refine wpAny_passesOwn hp (thn (T.item X rfl rfl rfl hc i pins s3 σ3 H3 X.xe I3 (Y a1) a0 go) λr s4 ⟨u,hr,h4⟩=> ?_)
  subst hr
  refine wpAny_passesOwn hp (thn h4 λ_ s5 ⟨x,H5,I5,r5,y5,st5,fr5⟩=> ?_)
  have a5:=I5.pinned (Y fr5) (T.obj _ _ st5)
  refine wpAny_passesOwn hp (thn (hg _ s5 σ3 H5 x u _ a5 r5 (step x H5 y5)) λ_ s6 ⟨σ6,H6,I6,q6⟩=> ?_)
  refine wpAny_passesOwn hp (thn (hb _ s6 σ6 H6 _ I6 q6) λf s7 q7=> ?_)
  have again:∀{σ7:St} {H7:Hp},Inv X (pins++tQ fp s5.heap) σ7 H7 s7->N σ7 H7->∃m,m<n/\∃i σ' H',Inv X pins σ' H' s7/\tn i s7.heap/\(∀b∈fp,H' b=none)/\W i m σ' H':=λ{σ7 H7} I7 n7=>by
   obtain⟨m',hm,w7⟩:=hN σ7 H7 n7
   refine⟨m',hm,i+1,σ7,H7,I7.unpinned,T.keep _ _ _ st5 λb hb o e=>(I7.pin (b,o) (UE _ (UE _ (oQ hb e)))).1,λb hb=> ?_,w7⟩
   obtain⟨o,e,d⟩:=T.obj _ _ st5 b hb
   exact(I7.pin (b,o) (UE _ (UE _ (oQ hb e)))).2.1
  cases f with
  | next=>obtain⟨σ7,H7,I7,n7⟩:=q7;exact again I7 n7
  | cont=>obtain⟨σ7,H7,I7,n7⟩:=q7;exact again I7 n7
  | brk=>obtain⟨σ7,H7,I7,q7⟩:=q7;exact⟨σ7,H7,I7.unpinned,q7⟩
  | ret v=>obtain⟨x7,σ7,H7,I7,r7,q7⟩:=q7;exact⟨x7,σ7,H7,I7.unpinned,r7,q7⟩
end
abbrev R2:=V->V->Hp->VK->Prop
def OpR(X:Cx)(f:Value->Value->Sem Value)(r:R2):Prop:=
 ∀(pins:List (Addr×Obj)) (s:Shared) (σ:St) (H:Hp) (x y:V) (v u:Value) (Q:VK),Inv X pins σ H s->RelV x v->RelV y u->r x y H Q->
  wpAny (model X.prog X.w) X.A (f v u) (EP X pins σ Q) X.xe s
def UnR(X:Cx)(f:Value->Sem Value)(r:V->Hp->VK->Prop):Prop:=
 ∀(pins:List (Addr×Obj)) (s:Shared) (σ:St) (H:Hp) (x:V) (v:Value) (Q:VK),Inv X pins σ H s->RelV x v->r x H Q->
  wpAny (model X.prog X.w) X.A (f v) (EP X pins σ Q) X.xe s
def iG(X:Cx)(f:Value)(r:List V->Hp->VK->Prop):Prop:=
 ∀(pins:List (Addr×Obj)) (s:Shared) (σ:St) (H:Hp) (xs:List V) (us:List Value) (Q:VK),Inv X pins σ H s->Vals xs us->r xs H Q->
  wpAny (model X.prog X.w) X.A (call f us) (EP X pins σ Q) X.xe s
def Qh(X:Cx)(r:V->Hp->(Bool->Hp->Prop)->Prop):Prop:=
 ∀(pins:List (Addr×Obj)) (s:Shared) (σ:St) (H:Hp) (x:V) (v:Value) (Q:Bool->Hp->Prop),Inv X pins σ H s->RelV x v->r x H Q->
  wpAny (model X.prog X.w) X.A (truthy v) (TP X pins σ Q) X.xe s
def tOp(r:R2)(ta tb:TE):TE:=λσ H Q=>ta σ H λx H1=>tb σ H1 λy H2=>r x y H2 Q
def tUn(r:V->Hp->VK->Prop)(ta:TE):TE:=λσ H Q=>ta σ H λx H1=>r x H1 Q
def rI(C:Int->Int->Prop)(g:Int->Int->V):R2:=λx y H Q=>∃i j,x=.int i/\y=.int j/\C i j/\Q (g i j) H
def rI0(g:Int->Int->V):R2:=λx y H Q=>∃i j,x=.int i/\y=.int j/\Q (g i j) H
def rU(g:Int->V):V->Hp->VK->Prop:=λx H Q=>∃i,x=.int i/\Q (g i) H
section
variable {X : Cx} {a b c : Expr} {ta tb tc : TE} {pos : Pos}
theorem J8 (ha:PE X a ta) (hb:PE X b tb) {pins:List (Addr×Obj)} {s:Shared} {σ:St} {H:Hp} {R:V->V->Hp->Prop} (I:Inv X pins σ H s)
 (h:ta σ H λx H1=>tb σ H1 λy H2=>R x y H2) {Q:Value->Shared->Prop} {f:Value->Value->Sem Value}
 (J:∀v u s2 x y H2,Inv X pins σ H2 s2->RelV x v->RelV y u->R x y H2->wpAny (model X.prog X.w) X.A (f v u) Q X.xe s2):
 wpAny (model X.prog X.w) X.A (eval a X.env) (λv U=>wpAny (model X.prog X.w) X.A (eval b X.env) (λu Y=>wpAny (model X.prog X.w) X.A (f v u) Q X.xe Y) X.xe U) X.xe s:=by
 refine thn (ha pins s σ H _ I h) λv s1 ⟨x,H1,I1,r1,q1⟩=> ?_
 refine thn (hb pins s1 σ H1 _ I1 q1) λu s2 ⟨y,H2,I2,r2,q2⟩=> ?_
 exact J v u s2 x y H2 I2 r1 r2 q2
theorem aV{J:Operator}{r:R2}(U:OpR X (binaryOp J) r)(ha:PE X a ta)(hb:PE X b tb):PE X (.BinOp a J b pos) (tOp r ta tb):=by
 intro pins s σ H Q I h
 exact wpAny_BinOp (J8 ha hb I h λv u s2 x y H2 Y rx ry q=>U pins s2 σ H2 x y v u Q Y rx ry q)
theorem xb{J:UnaryOp}{r:V->Hp->VK->Prop}(U:UnR X (unaryOp J) r)(ha:PE X a ta):PE X (.UnaryOp J a pos) (tUn r ta):=by
 intro pins s σ H Q I h
 exact UnaryOp_ (thn (ha pins s σ H _ I h) λv s1 ⟨x,H1,I1,r1,q1⟩=>U pins s1 σ H1 x v Q I1 r1 q1)
theorem opI {f:Value->Value->Sem Value} {C:Int->Int->Prop} {g:Int->Int->Int}
 (rule:∀(i j:Int) (t u:Tok) (s:Shared) (Q:Value->Shared->Prop) (E:Value->Shared->Prop),C i j->Q (.int (g i j) s.toks) {s with toks:=s.toks+1}->wpAny (model X.prog X.w) X.A (f (.int i t) (.int j u)) Q E s):
 OpR X f (rI C λi j=>.int (g i j)):=by
 intro pins s σ H x y v u Q I J U h
 obtain⟨i,j,rfl,rfl,hc,q⟩:=h
 obtain⟨t,rfl⟩:=J
 obtain⟨Y,rfl⟩:=U
 exact rule i j t Y s _ _ hc ⟨.int (g i j),H,I.tok _,⟨_,rfl⟩,q⟩
theorem JO {f:Value->Value->Sem Value} {g:Int->Int->Int}
 (rule:∀(i j:Int) (t u:Tok) (s:Shared) (Q:Value->Shared->Prop) (E:Value->Shared->Prop),Q (.int (g i j) s.toks) {s with toks:=s.toks+1}->wpAny (model X.prog X.w) X.A (f (.int i t) (.int j u)) Q E s):
 OpR X f (rI0 λi j=>.int (g i j)):=by
 intro pins s σ H x y v u Q I J U h
 obtain⟨i,j,rfl,rfl,q⟩:=h
 obtain⟨t,rfl⟩:=J
 obtain⟨Y,rfl⟩:=U
 exact rule i j t Y s _ _ ⟨.int (g i j),H,I.tok _,⟨_,rfl⟩,q⟩
theorem OG {f:Value->Value->Sem Value} {g:Int->Int->Bool}
 (rule:∀(i j:Int) (t u:Tok) (s:Shared) (Q:Value->Shared->Prop) (E:Value->Shared->Prop),Q (.bool (g i j)) s->wpAny (model X.prog X.w) X.A (f (.int i t) (.int j u)) Q E s):
 OpR X f (rI0 λi j=>.bl (g i j)):=by
 intro pins s σ H x y v u Q I J U h
 obtain⟨i,j,rfl,rfl,q⟩:=h
 obtain⟨t,rfl⟩:=J
 obtain⟨Y,rfl⟩:=U
 exact rule i j t Y s _ _ ⟨.bl (g i j),H,I,rfl,q⟩
def Ip(i j:Int):Prop:=0<=j/\j<=1000000/\i.natAbs<2^64
def OI(i j:Int):Prop:=(-(2^64)<i/\i<2^64)\/(-(2^64)<j/\j<2^64)
theorem OI.ok{i j:Int}(h:OI i j):IntMulOk i j:=by
 rcases h with⟨h1,h2⟩ | ⟨h1,h2⟩
 ·exact .of_left (intBits_le_64 h1 h2)
 ·exact .of_right (intBits_le_64 h1 h2)
theorem M5:OpR X (binaryOp .Add) (rI0 λi j=>.int (i+j)):=JO λ_ _ _ _ _ _ _ q=>add_int q
theorem mZ:OpR X (binaryOp .Sub) (rI0 λi j=>.int (i-j)):=JO λ_ _ _ _ _ _ _ q=>sub_int q
theorem gc:OpR X (binaryOp .Mod) (rI (λ_ j=>j≠0) λi j=>.int (i.fmod j)):=opI λ_ _ _ _ _ _ _ hc q=>mod_int' hc q
theorem uz:OpR X (binaryOp .Pow) (rI Ip λi j=>.int (i^j.toNat)):=opI λ_ _ _ _ _ _ _ hc q=>pow_int_small hc.1 hc.2.1 hc.2.2 q
theorem Kq:OpR X (binaryOp .BitOr) (rI0 λi j=>.int (Builtin.bitOr i j)):=JO λ_ _ _ _ _ _ _ q=>or_int q
theorem unI {f:Value->Sem Value} {g:Int->Int}
 (rule:∀(i:Int) (t:Tok) (s:Shared) (Q:Value->Shared->Prop) (E:Value->Shared->Prop),Q (.int (g i) s.toks) {s with toks:=s.toks+1}->wpAny (model X.prog X.w) X.A (f (.int i t)) Q E s):
 UnR X f (rU λi=>.int (g i)):=by
 intro pins s σ H x v Q I J h
 obtain⟨i,rfl,q⟩:=h
 obtain⟨t,rfl⟩:=J
 exact rule i t s _ _ ⟨.int (g i),H,I.tok _,⟨_,rfl⟩,q⟩
theorem uk:UnR X (unaryOp .USub) (rU λi=>.int (-i)):=unI λ_ _ _ _ _ q=>neg_int q
end
def Oy:V->V->Bool
 | .non,.non=>true | .non,.int _=>true | .int _,.non=>true | .non,.bl _=>true | .bl _,.non=>true | .non,.str _=>true | .str _,.non=>true
 | .int _,.int _=>true | .bl _,.bl _=>true | .str _,.str _=>true | .byt _,.byt _=>true
 | .int _,.str _=>true | .str _,.int _=>true | .bl _,.str _=>true | .str _,.bl _=>true
 | _,_=>false
def rEq:R2:=λx y H Q=>Oy x y=true/\Q (.bl (decide (x=y))) H
def rNe:R2:=λx y H Q=>Oy x y=true/\Q (.bl (!decide (x=y))) H
theorem u0{i j:Int}:decide (V.int i=V.int j)=(i == j):=by
 rw[Vm]
 simp
theorem xp{i j:Bool}:decide (V.bl i=V.bl j)=(i == j):=by
 rw[Vm]
 simp
theorem u6{i j:Str}:decide (V.str i=V.str j)=(i == j):=by
 rw[Vm]
 simp
theorem DH{i j:Array UInt8}:decide (V.byt i=V.byt j)=(i.toList == j.toList):=by
 rw[Vm]
 cases i
 cases j
 simp
section
variable {X : Cx} {a b c : Expr} {ta tb tc : TE} {pos : Pos}
theorem cJ{pins:List (Addr×Obj)}{σ:St}{H:Hp}{s:Shared}{Q:VK}{k J:Bool}(I:Inv X pins σ H s)(q:Q (.bl k) H)(e:k=J):EP X pins σ Q (.bool J) s:=by
 subst e
 exact⟨.bl k,H,I,rfl,q⟩
theorem O7:OpR X (compareOp .Eq) rEq:=by
 intro pins s σ H x y v u Q I rx J h
 obtain⟨Y,q⟩:=h
 cases x with
 | non=>
  cases rx
  cases y with
  | non=>cases J;exact PySem.EqNone.eq_none_none (cJ I q (by simp))
  | bl j=>cases J;exact PySem.EqNone.eq_none_bool (cJ I q (by simp))
  | int j=>obtain⟨U,rfl⟩:=J;exact PySem.EqNone.eq_none_int (cJ I q (by simp))
  | str j=>obtain⟨U,rfl⟩:=J;exact PySem.EqNone.eq_none_str (cJ I q (by simp))
  | _=>exact absurd (show false=true from Y) Uu
 | bl i=>
  cases rx
  cases y with
  | non=>cases J;exact PySem.EqNone.eq_bool_none (cJ I q (by simp))
  | bl j=>cases J;exact eq_bool (cJ I q xp)
  | str j=>obtain⟨U,rfl⟩:=J;exact X8 (cJ I q (by simp))
  | _=>exact absurd (show false=true from Y) Uu
 | int i=>
  obtain⟨t,rfl⟩:=rx
  cases y with
  | non=>cases J;exact PySem.EqNone.eq_int_none (cJ I q (by simp))
  | int j=>obtain⟨U,rfl⟩:=J;exact eq_int (cJ I q u0)
  | str j=>obtain⟨U,rfl⟩:=J;exact Yc (cJ I q (by simp))
  | _=>exact absurd (show false=true from Y) Uu
 | str i=>
  obtain⟨t,rfl⟩:=rx
  cases y with
  | non=>cases J;exact PySem.EqNone.eq_str_none (cJ I q (by simp))
  | bl j=>cases J;exact X9 (cJ I q (by simp))
  | int j=>obtain⟨U,rfl⟩:=J;exact Yd (cJ I q (by simp))
  | str j=>obtain⟨U,rfl⟩:=J;exact eq_str (cJ I q u6)
  | _=>exact absurd (show false=true from Y) Uu
 | byt i=>
  obtain⟨t,rfl⟩:=rx
  cases y with
  | byt j=>obtain⟨U,rfl⟩:=J;exact PySem.W.eq_bytes (cJ I q DH)
  | _=>exact absurd (show false=true from Y) Uu
 | _=>cases y <;> exact absurd (show false=true from Y) Uu
theorem Pd:OpR X (compareOp .NotEq) rNe:=by
 intro pins s σ H x y v u Q I rx J h
 obtain⟨Y,q⟩:=h
 cases x with
 | non=>
  cases rx
  cases y with
  | non=>cases J;exact PySem.EqNone.ne_none_none (cJ I q (by simp))
  | bl j=>cases J;exact PySem.EqNone.ne_none_bool (cJ I q (by simp))
  | int j=>obtain⟨U,rfl⟩:=J;exact PySem.EqNone.ne_none_int (cJ I q (by simp))
  | str j=>obtain⟨U,rfl⟩:=J;exact PySem.EqNone.ne_none_str (cJ I q (by simp))
  | _=>exact absurd (show false=true from Y) Uu
 | bl i=>
  cases rx
  cases y with
  | non=>cases J;exact PySem.EqNone.ne_bool_none (cJ I q (by simp))
  | bl j=>cases J;exact ne_bool (cJ I q (congrArg not xp))
  | str j=>obtain⟨U,rfl⟩:=J;exact Ya (cJ I q (by simp))
  | _=>exact absurd (show false=true from Y) Uu
 | int i=>
  obtain⟨t,rfl⟩:=rx
  cases y with
  | non=>cases J;exact PySem.EqNone.ne_int_none (cJ I q (by simp))
  | int j=>obtain⟨U,rfl⟩:=J;exact ne_int (cJ I q (congrArg not u0))
  | str j=>obtain⟨U,rfl⟩:=J;exact Ye (cJ I q (by simp))
  | _=>exact absurd (show false=true from Y) Uu
 | str i=>
  obtain⟨t,rfl⟩:=rx
  cases y with
  | non=>cases J;exact PySem.EqNone.ne_str_none (cJ I q (by simp))
  | bl j=>cases J;exact Yb (cJ I q (by simp))
  | int j=>obtain⟨U,rfl⟩:=J;exact Yf (cJ I q (by simp))
  | str j=>obtain⟨U,rfl⟩:=J;exact ne_str (cJ I q (congrArg not u6))
  | _=>exact absurd (show false=true from Y) Uu
 | byt i=>
  obtain⟨t,rfl⟩:=rx
  cases y with
  | byt j=>obtain⟨U,rfl⟩:=J;exact PySem.W.ne_bytes (cJ I q (congrArg not DH))
  | _=>exact absurd (show false=true from Y) Uu
 | _=>cases y <;> exact absurd (show false=true from Y) Uu
theorem u1:OpR X (compareOp .Lt) (rI0 λi j=>.bl (decide (i<j))):=OG λ_ _ _ _ _ _ _ q=>lt_int q
theorem iF:OpR X (compareOp .Gt) (rI0 λi j=>.bl (decide (j<i))):=OG λ_ _ _ _ _ _ _ q=>gt_int q
theorem NJ:OpR X (compareOp .Is) (λx y H Q=>y=.non/\Q (.bl (decide (x=.non))) H):=by
 intro pins s σ H x y v u Q I J U h
 obtain⟨rfl,q⟩:=h
 cases U
 refine is_none_gen (cJ I q ?_)
 cases x <;> first
  | (cases J;rfl)
  | (obtain⟨t,rfl⟩:=J;rfl)
theorem Ml:OpR X (compareOp .IsNot) (λx y H Q=>y=.non/\Q (.bl (!decide (x=.non))) H):=by
 intro pins s σ H x y v u Q I J U h
 obtain⟨rfl,q⟩:=h
 cases U
 refine isnot_none_gen (cJ I q ?_)
 cases x <;> first
  | (cases J;rfl)
  | (obtain⟨t,rfl⟩:=J;rfl)
theorem OpR.or{f:Value->Value->Sem Value}{r J:R2}(h:OpR X f r)(h':OpR X f J):OpR X f (λx y H Q=>r x y H Q\/J x y H Q):=by
 intro pins s σ H x y v u Q I U Y q
 rcases q with q | q
 ·exact h pins s σ H x y v u Q I U Y q
 ·exact h' pins s σ H x y v u Q I U Y q
theorem bL(b:Expr){J:CmpOp}(h:J≠ .In:=by decide)(h2:J≠ .NotIn:=by decide):behindInMarks J b=false:=by
 have e1:(J == CmpOp.In)=false:=by cases J <;> first | rfl | exact absurd rfl h
 have e2:(J == CmpOp.NotIn)=false:=by cases J <;> first | rfl | exact absurd rfl h2
 cases b <;> simp[behindInMarks,e1,e2]
theorem o3{J:CmpOp}{r:R2}(U:OpR X (compareOp J) r)(ha:PE X a ta)(hb:PE X b tb)(hm:behindInMarks J b=false):PE X (.Compare a [J] [b] pos) (tOp r ta tb):=by
 intro pins s σ H Q I h
 exact wpAny_Compare1 (J8 ha hb I h λv u s2 x y H2 Y rx ry q=>U pins s2 σ H2 x y v u Q Y rx ry q) hm
def Kr(t:TE):TT:=λσ H Q=>t σ H λx H'=>∃k,x=.bl k/\Q k H'
theorem bH{J:CmpOp}{r:R2}(U:OpR X (compareOp J) r)(ha:PE X a ta)(hb:PE X b tb)(hm:behindInMarks J b=false):PT X (.Compare a [J] [b] pos) (Kr (tOp r ta tb)):=by
 intro pins s σ H Q I h
 refine wpAny_isTrue_Compare1 (thn (ha pins s σ H _ I h) λv s1 ⟨x,H1,I1,r1,q1⟩=>thn (hb pins s1 σ H1 _ I1 q1) λu s2 ⟨y,H2,I2,r2,q2⟩=>
  thn (U pins s2 σ H2 x y v u _ I2 r1 r2 q2) λc s3 ⟨z,H3,I3,r3,k,e,q3⟩=> ?_) hm
 subst e
 cases r3
 exact wpAny_truthy_bool ⟨H3,I3,q3⟩
def HA(r U:R2)(ta tb tc:TE):TE:=λσ H Q=>ta σ H λx H1=>tb σ H1 λy H2=>r x y H2 λz J=>∃k,z=.bl k/\
 (if k=true then tc σ J λY H4=>U y Y H4 Q else Q (.bl false) J)
theorem JN {U J:CmpOp} {r r':R2} (ho:OpR X (compareOp U) r) (Y:OpR X (compareOp J) r') (ha:PE X a ta) (hb:PE X b tb) (hc:PE X c tc)
 (hm:lastMarks [U,J] [b,c]=false:=by with_unfolding_all rfl):PE X (.Compare a [U,J] [b,c] pos) (HA r r' ta tb tc):=by
 intro pins s σ H Q I h
 refine Compare_chain (thn (ha pins s σ H _ I h) λv s1 ⟨x,H1,I1,r1,q1⟩=>chain_link (thn (hb pins s1 σ H1 _ I1 q1) λu s2 ⟨y,H2,I2,r2,q2⟩=>
  thn (ho pins s2 σ H2 x y v u _ I2 r1 r2 q2) λd s3 ⟨z,H3,I3,r3,k,e,q3⟩=> ?_)) hm
 subst e
 cases r3
 refine wpAny_truthy_bool ?_
 cases k with
 | false=>exact ite_ff ⟨.bl false,H3,I3,rfl,q3⟩
 | true=>exact ite_tt (chain_last (thn (hc pins s3 σ H3 _ I3 q3) λw' s4 ⟨z',H4,I4,r4,q4⟩=>Y pins s4 σ H4 y z' u w' Q I4 r2 r4 q4))
def Qn(K:Fa)(x:V)(H:Hp)(k:Bool):Prop:=
 match x with
 | .non=>k=false
 | .bl b=>k=b
 | .int i=>k=(i != 0)
 | .str y=>y.length<=sizeLine/\k=((y.length:Int) != 0)
 | .byt y=>y.size<=sizeLine/\k=((y.size:Int) != 0)
 | .ref p=>(∃xs,SqL K H p xs/\k= !xs.isEmpty)\/(∃xs,SqT K H p xs/\k= !xs.isEmpty)\/∃J,H p=some (.dK J)/\k= !J.isEmpty
 | _=>False
theorem E5{κ:Type}{J:List (κ×V)}{vs:List (κ×Value)}(r:KV J vs):(!vs.isEmpty)= !J.isEmpty:=by
 cases r <;> rfl
theorem xT{xs:List V}{J:List Value}(r:Vals xs J):(!J.toArray.isEmpty)= !xs.isEmpty:=by
 cases r <;> simp
theorem pP:(sizeLine:Nat)<2^63:=by rw[sizeLine_eq];decide
theorem Rt:Qh X (λx H Q=>∃k,Qn X.K x H k/\Q k H):=by
 intro pins s σ H x v Q I Y h
 obtain⟨k,e,q⟩:=h
 have hl:=pP
 have hs:sizeLine=16777216:=sizeLine_eq
 cases x with
 | non=>
  cases Y
  have e':k=false:=e
  subst e'
  exact truthy_none ⟨H,I,q⟩
 | bl b=>
  cases Y
  have e':k=b:=e
  subst e'
  exact wpAny_truthy_bool ⟨H,I,q⟩
 | int i=>
  obtain⟨t,rfl⟩:=Y
  have e':k=(i != 0):=e
  subst e'
  exact PySem.P.truthy_int ⟨H,I,q⟩
 | str y=>
  obtain⟨t,rfl⟩:=Y
  obtain⟨hy,e'⟩:y.length<=sizeLine/\k=((y.length:Int) != 0):=e
  subst e'
  exact PySem.P.truthy_str (by omega) ⟨H,I.tok _,q⟩
 | byt y=>
  obtain⟨t,rfl⟩:=Y
  obtain⟨hy,e'⟩:y.size<=sizeLine/\k=((y.size:Int) != 0):=e
  subst e'
  exact PySem.W.truthy_bytes (by omega) ⟨H,I.tok _,q⟩
 | ref p=>
  cases Y
  have e':(∃xs,SqL X.K H p xs/\k= !xs.isEmpty)\/(∃xs,SqT X.K H p xs/\k= !xs.isEmpty)\/∃J,H p=some (.dK J)/\k= !J.isEmpty:=e
  rcases e' with⟨xs,hx,e'⟩ | ⟨xs,hx,e'⟩ | ⟨J,hx,e'⟩
  ·subst e'
   obtain⟨ab,r,pl,hz⟩:=I.list hx
   have U:=r.length
   exact wpAny_truthy_list pl.isList (by simp only[Up];omega) ⟨H,I.tok _,by rw[xT r];exact q⟩
  ·subst e'
   obtain⟨ab,r,pl,hz⟩:=I.tuple hx
   have U:=r.length
   exact truthy_tuple pl (by simp only[Up];omega) ⟨H,I.tok _,by rw[xT r];exact q⟩
  ·subst e'
   obtain⟨hz,hS,vs,r,m⟩:J.length<=sizeLine/\(p == sysModules)=false/\∃vs,KV J vs/\s.heap.DictOf (yj X.prog X.w) p vs:=I.hok p _ hx
   have U:J.length=vs.length:=Paired.length r
   exact wpAny_truthy_dict hS m (by omega) ⟨H,I.tok _,by rw[E5 r];exact q⟩
 | _=>exact(show False from e).elim
theorem E9:OpR X (binaryOp .Add) (λx y H Q=>∃i j,x=.str i/\y=.str j/\i.length+j.length<=sizeLine/\Q (.str (i++j)) H):=by
 intro pins s σ H x y v u Q I J U h
 obtain⟨i,j,rfl,rfl,hz,q⟩:=h
 obtain⟨t,rfl⟩:=J
 obtain⟨Y,rfl⟩:=U
 exact add_str (λY tk=>⟨.str (i++j),H,I.tok _,⟨_,rfl⟩,q⟩) hz
theorem vals1{x:V}{us:List Value}(r:Vals [x] us):∃u,us=[u]/\RelV x u:=by
 cases r with
 | cons J U=>cases U;exact⟨_,rfl,J⟩
theorem vals2{x y:V}{us:List Value}(r:Vals [x,y] us):∃u J,us=[u,J]/\RelV x u/\RelV y J:=by
 cases r with
 | cons U Y=>
  cases Y with
  | cons r3 r4=>cases r4;exact⟨_,_,rfl,U,r3⟩
theorem Bc:iG X (.builtin "abs") (λxs H Q=>∃i,xs=[.int i]/\Q (.int (if i<0 then -i else i)) H):=by
 intro pins s σ H xs us Q I r h
 obtain⟨i,rfl,q⟩:=h
 obtain⟨u,rfl,t,rfl⟩:=vals1 r
 exact call_abs_int λu tk=>⟨.int (if i<0 then -i else i),H,I.tok _,⟨_,rfl⟩,q⟩
theorem n9(hc:X.calm=true):iG X (.builtin "max") (λxs H Q=>∃i j,xs=[.int i,.int j]/\Q (.int (if j>i then j else i)) H):=by
 intro pins s σ H xs us Q I r h
 obtain⟨i,j,rfl,q⟩:=h
 obtain⟨u,U,rfl,⟨t,rfl⟩,⟨Y,rfl⟩⟩:=vals2 r
 refine max_two_ints (I.ok.hd hc) λh' tk k=>⟨_,H,I.kept k, ?_,q⟩
 by_cases J:j>i
 ·rw[if_pos J,if_pos J];exact⟨_,rfl⟩
 ·rw[if_neg J,if_neg J];exact⟨_,rfl⟩
theorem yW:iG X (.type "int") (λxs H Q=>(∃i,xs=[.int i]/\Q (.int i) H)\/∃k,xs=[.bl k]/\Q (.int (if k then 1 else 0)) H):=by
 intro pins s σ H xs us Q I r h
 rcases h with⟨i,rfl,q⟩ | ⟨k,rfl,q⟩
 ·obtain⟨u,rfl,t,rfl⟩:=vals1 r
  exact call_int_int ⟨.int i,H,I,⟨_,rfl⟩,q⟩
 ·obtain⟨u,rfl,J⟩:=vals1 r
  cases J
  exact call_int_bool ⟨.int (if k then 1 else 0),H,I.tok _,⟨_,rfl⟩,q⟩
def NT(K:Fa)(x:V)(H:Hp)(n:Nat):Prop:=
 match x with
 | .str y=>y.length<=sizeLine/\n=y.length
 | .byt y=>y.size<=sizeLine/\n=y.size
 | .ref p=>(∃xs,SqL K H p xs/\n=xs.length)\/∃xs,SqT K H p xs/\n=xs.length
 | _=>False
theorem cN:iG X (.builtin "len") (λxs H Q=>∃x n,xs=[x]/\NT X.K x H n/\Q (.int n) H):=by
 intro pins s σ H xs us Q I r h
 obtain⟨x,n,rfl,e,q⟩:=h
 obtain⟨u,rfl,U⟩:=vals1 r
 have hl:=pP
 have hs:sizeLine=16777216:=sizeLine_eq
 cases x with
 | str y=>
  obtain⟨t,rfl⟩:=U
  obtain⟨hy,e'⟩:y.length<=sizeLine/\n=y.length:=e
  subst e'
  exact len_str (by omega) ⟨.int _,H,I.tok _,⟨_,rfl⟩,q⟩
 | byt y=>
  obtain⟨t,rfl⟩:=U
  obtain⟨hy,e'⟩:y.size<=sizeLine/\n=y.size:=e
  subst e'
  exact PySem.W.len_bytes (by omega) ⟨.int _,H,I.tok _,⟨_,rfl⟩,q⟩
 | ref p=>
  cases U
  have e':(∃xs,SqL X.K H p xs/\n=xs.length)\/∃xs,SqT X.K H p xs/\n=xs.length:=e
  rcases e' with⟨xs,hx,e'⟩ | ⟨xs,hx,e'⟩
  ·subst e'
   obtain⟨Y,r',pl,hz⟩:=I.list hx
   have J:=r'.length
   exact Calls.call_len_list pl.isList (by simp only[Up];omega) ⟨.int xs.length,H,I.tok _,⟨_,by simp only[Up];rw[J]⟩,q⟩
  ·subst e'
   obtain⟨Y,r',pl,hz⟩:=I.tuple hx
   have J:=r'.length
   exact len_tuple pl (by simp only[Up];omega) ⟨.int xs.length,H,I.tok _,⟨_,by simp only[Up];rw[J]⟩,q⟩
 | _=>exact(show False from e).elim
end
structure vX(h:Heap)(x dx C:Addr)(mA:Str->Option Value):Prop where
 obj:h.get? x=some (Vl C dx)
 ns:h.Ns1 dx mA
 ne:dx≠x
theorem GZ{h:Heap}{dx:Addr}{mA:Str->Option Value}(n:h.Ns1 dx mA):∃U,h.get? dx=some U/\∀name,WC name U=some (mA name):=by
 obtain⟨o,es,ep,Y,hd,hk,_,hm⟩:=n
 refine⟨o,Y,λname=> ?_⟩
 have e:=hm name
 unfold nsFind findBy at e
 rw[<- Array.find?_toList] at e
 unfold WC
 rw[hd]
 dsimp only
 split
 ·rename_i y q
  rw[q] at e
  exact congrArg some e
 ·rename_i q
  rw[q] at e
  have a:es.toList.any (·.refKey)=false:=by
   rw[WN]
   intro y hy
   obtain⟨z,t,J⟩:=hk y (Array.mem_toList_iff.mp hy)
   simp[DictEntry.refKey,J]
  have a':¬es.toList.any (·.refKey)=true:=by rw[a];exact Uu
  rw[if_neg a']
  exact congrArg some e
theorem vX.look{h:Heap}{x dx C:Addr}{mA:Str->Option Value}(I:vX h x dx C mA):∃J,PySem.W.InstAt h x (Vl C dx) C (some J)/\∀name,WC name J=some (mA name):=
 let ⟨J,ho,hl⟩:=GZ I.ns
 ⟨J,⟨I.obj,rfl,rfl,ho⟩,hl⟩
section
variable {prog : Program} {w : World} {A : Around} {E : Value → Shared → Prop} {s : Shared} {K : Fa} {x dx C f : Addr} {mA : Str → Option Value} {name : Str} {v : Value}
theorem get_map {U:Bool} {Q:Value->Shared->Prop} (X:K.In s.heap) (I:vX s.heap x dx C mA) (hg:VZ K C name=true) (hh:V7 K C=true)
 (ha:UA K (.ref C) name=some none) (hv:mA name=some v) (Y:XN v=true) (h:Q v {s with toks:=s.toks+1}):
 wpAny (model prog w) A (getAttr (.ref x) name U) Q E s:=by
 obtain⟨od,J,hl⟩:=I.look
 exact PySem.W.get_value X J (WA hg).1 (PySem.W.findObj_own hh ha rfl (by rw[hl,hv])) Y h
theorem IV {pl:Sem Bool} {Q:Value×List Value->Shared->Prop} (X:K.In s.heap) (I:vX s.heap x dx C mA) (U:VZ K C name=true)
 (Y:UA K (.ref C) name=some (some (.ref f))) (ht:Vg K (.ref f)=true) (hv:mA name=none) (h:Q (.ref f,[.ref x]) s):
 wpAny (model prog w) A (getMethod (.ref x) name pl) Q E s:=by
 obtain⟨od,J,hl⟩:=I.look
 exact PySem.W.method_fn X J (WA U).1 (WA U).2 Y (beq_iff_eq.mp ht) (by show (WC name od).map (·.isSome)=some false;rw[hl,hv];rfl) h
theorem Mn {ns:List Str} {Q:Unit->Shared->Prop} (X:K.In s.heap) (I:vX s.heap x dx C mA)
 (hs:UA K (.ref C) "__setattr__" =some (some (.builtin "object.__setattr__"))) (hp:WO K C=true) (ht:W9 K C name=some none) (hh:V7 K C=true)
 (hw:Xs mA ns) (a1:ns.length<=sizeLine)
 (h:∀h',vX h' x dx C (λy=>if y=name then some v else mA y)->Heap.SameBut dx s.heap h'->Q () {s with heap:=h',toks:=s.toks+2}):
 wpAny (model prog w) A (setAttr (.ref x) name v) Q E s:=by
 obtain⟨od,J,hl⟩:=I.look
 refine PySem.W.set_plain X J hs (PySem.W.osa_open (s:={s with toks:=s.toks+1}) (r:=none) X J hp ht λb=> ?_)
 obtain⟨cd,hc,ab⟩:=PySem.W.any_some hh
 have hx:s.heap.get? x=some ⟨.ref C,some dx,.plain,#[]⟩:=I.obj
 refine wpAny_bind (wpAny_pure (wpAny_bind (wpAny_bind (wpAny_loadPart hx (wpAny_bind (Yi (s:={s with toks:=s.toks+1}) (PySem.W.looks_clsIn X hc) ?_))))))
 rw[ab]
 refine wpAny_pure (a:=some dx) (wpAny_bind (wpAny_pure (wpAny_bind ?_)))
 refine wpAny_nsSet1 (s:={s with toks:=s.toks+1}) I.ns λh' U Y=> ?_
 obtain⟨oD,a2,a3,ac,am,an⟩:=U.count (PySem.Within.cons name v hw)
 refine wpAny_bind (wpAny_lookBehind ac (by rw[am];exact pastItsLine_dict (UI an (by rw[Uq];omega))) ?_)
 exact wpAny_pure (h _ ⟨(Y.2 _ (Wi I.ne)).trans I.obj,U,I.ne⟩ Y)
theorem Kg {R:Result->Shared->Prop} {vs:List Value} {kw:List (Str×Value)} (X:K.In s.heap) (hm:Xa K C=true)
 (hi:UA K (.ref C) "__init__" =some (some (.ref f))) (J:PySem.W.typeIn K (.ref f)=some (.type "function"))
 (h:codeAny (model prog w) (A.under (.builtin "type.__call__" ⟨.ref C::vs,kw⟩)) (.call (.ref f) ⟨.ref (s.heap.objs.size+1)::vs,kw⟩) (PySem.W.InitBack (s.heap.objs.size+1) R)
  {s with heap:=(s.heap.push U5).push (Vl C s.heap.objs.size)}):
 codeAny (model prog w) A (.call (.ref C) ⟨vs,kw⟩) R s:=by
 obtain⟨U,g,d,t,os⟩:=s
 exact PySem.W.make_core (PySem.W.makes_of X hm) (PySem.W.looks_findIn X hi) (λself=>PySem.W.bind_fn X self J) (.inl rfl) h
end
def jS(f:Str)(v:V):List (Str×V)->List (Str×V)
 | []=>[(f,v)]
 | (g,x)::r=>if g=f then (g,v)::r else (g,x)::jS f v r
theorem vH(f g:Str)(v:V):∀fs:List (Str×V),(jS f v fs).lookup g=if g=f then some v else fs.lookup g
 | []=>by
  show VQ g [(f,v)]=_
  by_cases h:g=f
  ·have hb:(g == f)=true:=beq_iff_eq.mpr h
   simp only[VQ,hb,if_pos h]
  ·have hb:(g == f)=false:=beq_eq_false_iff_ne.mpr h
   simp only[VQ,hb,if_neg h]
 | (k,x)::r=>by
  have J:=vH f g v r
  rw[show jS f v ((k,x)::r)=(if k=f then (k,v)::r else (k,x)::jS f v r) from rfl]
  by_cases hk:k=f
  ·rw[if_pos hk]
   by_cases h:g=k
   ·have hb:(g == k)=true:=beq_iff_eq.mpr h
    simp only[VQ,hb,if_pos (h.trans hk)]
   ·have hb:(g == k)=false:=beq_eq_false_iff_ne.mpr h
    simp only[VQ,hb,if_neg (λe:g=f=>h (e.trans hk.symm))]
  ·rw[if_neg hk]
   by_cases h:g=k
   ·have hb:(g == k)=true:=beq_iff_eq.mpr h
    simp only[VQ,hb,if_neg (λe:g=f=>hk (h.symm.trans e))]
   ·have hb:(g == k)=false:=beq_eq_false_iff_ne.mpr h
    simp only[VQ,hb]
    exact J
theorem t7(f:Str)(v:V):∀fs:List (Str×V),f∈(jS f v fs).map (·.1)/\∀g,g∈fs.map (·.1)->g∈(jS f v fs).map (·.1)
 | []=>⟨by simp[jS],λg h=>by simp at h⟩
 | (k,x)::r=>by
  obtain⟨J,U⟩:=t7 f v r
  rw[show jS f v ((k,x)::r)=(if k=f then (k,v)::r else (k,x)::jS f v r) from rfl]
  by_cases hk:k=f
  ·rw[if_pos hk]
   subst hk
   exact⟨by simp,λg h=>by simpa using h⟩
  ·rw[if_neg hk]
   refine⟨?_,λg h=> ?_⟩
   ·rw[Uk]
    exact Ub _ J
   ·rw[Uk] at h ⊢
    rcases Um.mp h with e | e
    ·exact Um.mpr (.inl e)
    ·exact Ub _ (U g e)
theorem vB(f:Str)(v:V):∀fs:List (Str×V),(jS f v fs).length<=fs.length+1
 | []=>by simp[jS]
 | (k,x)::r=>by
  have J:=vB f v r
  rw[show jS f v ((k,x)::r)=(if k=f then (k,v)::r else (k,x)::jS f v r) from rfl]
  by_cases hk:k=f
  ·rw[if_pos hk,Uq,Uq];omega
  ·rw[if_neg hk,Uq,Uq];omega
theorem qG.some_of{v:V}{o:Option Value}(r:qG (some v) o):∃u,o=some u/\RelV v u:=by
 cases o with
 | none=>exact(show False from r).elim
 | some u=>exact⟨u,rfl,r⟩
theorem qG.none_of{o:Option Value}(r:qG none o):o=none:=by
 cases o with
 | none=>rfl
 | some u=>exact(show False from r).elim
theorem Gn{v:V}{u:Value}(r:RelV v u):XN u=true:=by
 cases v with
 | non=>cases (show u=Value.none from r);rfl
 | bl b=>cases (show u=Value.bool b from r);rfl
 | int i=>obtain⟨t,e⟩:=(show ∃t,u=Value.int i t from r);cases e;rfl
 | str x=>obtain⟨t,e⟩:=(show ∃t,u=Value.str x t from r);cases e;rfl
 | byt b=>obtain⟨t,e⟩:=(show ∃t,u=Value.bytes b t from r);cases e;rfl
 | flt b=>obtain⟨t,e⟩:=(show ∃t,u=Value.float b t from r);cases e;rfl
 | ref a=>cases (show u=Value.ref a from r);rfl
 | ty n=>cases (show u=Value.type n from r);rfl
section
variable {P : Program} {w : World} {H H' : Hp} {h h' : Heap} {a C dx : Addr} {fs fs' : List (Str × V)}
theorem yq(J:HOk P w H h)(e:H a=some (.ins C dx fs)):∃mA,vX h a dx C mA/\(∀f,qG (fs.lookup f) (mA f))/\Xs mA (fs.map (·.1))/\fs.length<=1000/\H dx=some (.own a):=by
 obtain⟨d,z,ne,U,mA,n,r,q⟩:=(show gS P w H h a (.ins C dx fs) from J a _ e)
 exact⟨mA,⟨U,n,ne⟩,r,q,z,d⟩
end
structure Cls(K:Fa)(C:Addr):Prop where
 pg:VZ K C Str.empty=true
 hd:V7 K C=true
 po:WO K C=true
 sa:UA K (.ref C) "__setattr__" =some (some (.builtin "object.__setattr__"))
theorem Cls.get{K:Fa}{C:Addr}(c:Cls K C)(f:Str):VZ K C f=true:=c.pg
def eO(K:Fa)(C:Addr)(f:Str):Prop:=UA K (.ref C) f=some none
theorem eO.taker{K:Fa}{C:Addr}{f:Str}(n:eO K C f):W9 K C f=some none:=by
 unfold W9
 rw[show UA K (.ref C) f=some none from n]
 rfl
structure Con(K:Fa)(C:Addr)(f:Str)(v:V)(u:Value):Prop where
 at_:UA K (.ref C) f=some (some u)
 rel:RelV v u
 get:XE K u "__get__" =some none
 cp:PySem.W.copiedNames.contains f=false
structure Meth(K:Fa)(C:Addr)(m:Str)(f:Addr):Prop where
 at_:UA K (.ref C) m=some (some (.ref f))
 fn:Vg K (.ref f)=true
 kp:T8 K (.ref f)=true
section
variable {X : Cx} {pins : List (Addr × Obj)} {σ : St} {H : Hp} {s : Shared} {a C dx : Addr} {fs : List (Str × V)} {f : Str} {v : V} {A : Around} {E : Value → Shared → Prop}
theorem Fv {b:Bool} {Q:Value->Shared->Prop} (I:Inv X pins σ H s) (e:H a=some (.ins C dx fs)) (c:Cls X.K C) (n:eO X.K C f) (l:fs.lookup f=some v)
 (h:∀u s',Inv X pins σ H s'->RelV v u->Q u s'):wpAny (model X.prog X.w) A (getAttr (.ref a) f b) Q E s:=by
 obtain⟨mA,O,r,_,_,_⟩:=yq I.hok e
 obtain⟨u,hu,J⟩:=qG.some_of (v:=v) (o:=mA f) (by rw[<- l];exact r f)
 exact get_map I.kIn O (c.get f) c.hd n hu (Gn J) (h u _ (I.tok _) J)
theorem rH {m:Str} {g:Addr} {pl:Sem Bool} {Q:Value×List Value->Shared->Prop} (I:Inv X pins σ H s) (e:H a=some (.ins C dx fs)) (c:Cls X.K C) (k:Meth X.K C m g) (l:fs.lookup m=none)
 (h:Q (.ref g,[.ref a]) s):wpAny (model X.prog X.w) A (getMethod (.ref a) m pl) Q E s:=by
 obtain⟨mA,O,r,_,_,_⟩:=yq I.hok e
 have hn:mA m=none:=qG.none_of (by rw[<- l];exact r m)
 exact IV I.kIn O (c.get m) k.at_ k.fn hn h
theorem EV {y:V} {u:Value} {Q:Unit->Shared->Prop} (I:Inv X pins σ H s) (e:H a=some (.ins C dx fs)) (c:Cls X.K C) (n:eO X.K C f) (hl:fs.length<1000) (Y:RelV y u)
 (h:∀s',Inv X pins σ (upd H a (.ins C dx (jS f y fs))) s'->Q () s'):wpAny (model X.prog X.w) A (setAttr (.ref a) f u) Q E s:=by
 obtain⟨mA,O,r,J,_,U⟩:=yq I.hok e
 have hz:(fs.map (·.1)).length<=sizeLine:=by rw[T3,sizeLine_eq];omega
 refine Mn I.kIn O c.sa c.po n.taker c.hd J hz λh' O' sb=>h _ ?_
 have hd:∃o,h'.get? dx=some o:=let ⟨o,_,_,e',_⟩:=O'.ns;⟨o,e'⟩
 refine I.write (x:=a) (e:=dx) (by rw[e];exact Wo) (.inr U) (λb q hb z=>(sb.2 b hb).trans z) hd ?_
 refine⟨by rw[aS O.ne];exact U, ?_,O.ne,O'.obj,_,O'.ns,λg=> ?_,λg hg=> ?_⟩
 ·have:=vB f y fs;omega
 ·show qG ((jS f y fs).lookup g) (if g=f then some u else mA g)
  rw[vH]
  by_cases q:g=f
  ·rw[if_pos q,if_pos q];exact Y
  ·rw[if_neg q,if_neg q];exact r g
 ·by_cases q:g=f
  ·rw[q];exact(t7 f y fs).1
  ·refine(t7 f y fs).2 g (J g λz=>hg ?_)
   show (if g=f then some u else mA g)=none
   rw[if_neg q];exact z
theorem Inv.made(I:Inv X pins σ H s):Inv X pins σ (upd (upd H s.heap.objs.size (.own (s.heap.objs.size+1))) (s.heap.objs.size+1) (.ins C s.heap.objs.size []))
 {s with heap:=(s.heap.push U5).push (Vl C s.heap.objs.size)}:=by
 have e1:(s.heap.push U5).get? s.heap.objs.size=some U5:=Heap.get?_push_size s.heap rfl
 have e2:((s.heap.push U5).push (Vl C s.heap.objs.size)).get? (s.heap.objs.size+1)=some (Vl C s.heap.objs.size):=by
  have:=Heap.get?_push_size (s.heap.push U5) (o:=Vl C s.heap.objs.size) rfl
  rwa [Heap.size_push] at this
 have e3:(s.heap.push U5).Ns s.heap.objs.size (λ_=>none):=⟨U5,#[],_,e1,rfl,(λe J=>absurd J (by simp)),λ_=>rfl⟩
 have U:=I.laid (a:=s.heap.objs.size) (o:=.own (s.heap.objs.size+1)) (h':=s.heap.push U5) (t':=s.toks) (λb u q=>Heap.get?_push_of_some _ q) (Ud _) ⟨_,e1⟩
 refine U.laid (a:=s.heap.objs.size+1) (o:=.ins C s.heap.objs.size []) (t':=s.toks) (λb u q=>Heap.get?_push_of_some _ q) (Nat.le_of_eq (Heap.size_push _ _)) ?_
 have ne:s.heap.objs.size≠s.heap.objs.size+1:=UB (Wg _)
 refine⟨by rw[aS ne,cO],UR _,ne,e2,λ_=>none,(Heap.Ns1.of_empty e3).at λo q=>Heap.get?_push_of_some _ q,λ_=>Wo,λy hy=>absurd rfl hy⟩
theorem Mx {prog:Program} {w:World} {env:Env} {e:Expr} {f:Str} {pos:Pos} {s:Shared} {Q:Value->Shared->Prop} (hb:attributeBase e f env (eval e env)=eval e env)
 (h:wpAny (model prog w) A (eval e env) (λo J=>wpAny (model prog w) A (getAttr o f true) Q E J) E s):wpAny (model prog w) A (eval (.Attribute e f pos) env) Q E s:=
 Attribute_any_ h (by rw[arm_eval_Attribute,hb])
end
def N0(K:Fa)(ta:TE)(f:Str):TE:=λσ H Q=>ta σ H λx H1=>∃a C dx fs v,x=.ref a/\H1 a=some (.ins C dx fs)/\Cls K C/\eO K C f/\fs.lookup f=some v/\Q v H1
def NB(K:Fa)(ta tv:TE)(f:Str):TS:=λD σ H=>tv σ H λy H1=>ta σ H1 λx H2=>∃a C dx fs,x=.ref a/\H2 a=some (.ins C dx fs)/\Cls K C/\eO K C f/\fs.length<1000/\
 D.nx σ (upd H2 a (.ins C dx (jS f y fs)))
section
variable {X : Cx} {o e value : Expr} {f : Str} {pos pos' tpos : Pos} {ta tv : TE}
theorem rh(J:PE X e ta)(hb:attributeBase e f X.env (eval e X.env)=eval e X.env):PE X (.Attribute e f pos) (N0 X.K ta f):=by
 intro pins s σ H Q I h
 refine Mx hb (thn (J pins s σ H _ I h) λu s1 ⟨x,H1,I1,rx,a,C,dx,fs,v,ex,ea,c,n,l,q⟩=> ?_)
 subst ex
 obtain rfl:u=Value.ref a:=rx
 exact Fv I1 ea c n l λu' s2 U Y=>⟨v,H1,U,Y,q⟩
theorem Co(ha:PE X o ta)(J:PE X value tv)(U:swapsWith value (some (.Attribute o f pos')) pos.line X.env=pure false):PS X (.Assign [.Attribute o f pos'] value pos) (NB X.K ta tv f):=by
 intro pins s σ H D I h
 refine plainObj_wpAny_Assign_Attribute (thn (J pins s σ H _ I h) λu s1 ⟨y,H1,I1,ry,q⟩=>thn (ha pins s1 σ H1 _ I1 q) λov s2 ⟨x,H2,I2,rx,a,C,dx,fs,ex,ea,c,n,l,q2⟩=> ?_) U
 subst ex
 obtain rfl:ov=Value.ref a:=rx
 exact EV I2 ea c n l ry λs3 Y=>⟨σ,_,Y,q2⟩
theorem OR {pl:Sem Bool} {m:Str} {apos:Pos} {args:List Expr} {pins:List (Addr×Obj)} {s:Shared} {σ:St} {H:Hp} {Q:Value->Shared->Prop} {te:TE} (U:PE X e te) (I:Inv X pins σ H s)
 (h:te σ H λx H1=>∃a C dx fs g,x=.ref a/\H1 a=some (.ins C dx fs)/\Cls X.K C/\Meth X.K C m g/\fs.lookup m=none/\
  ∀s1,Inv X pins σ H1 s1->wpAny (model X.prog X.w) X.A (callWith pos (.ref g) [.ref a] (backTo pos (starEach args X.env)) (backToKw pos (keywordEach [] X.env))) Q X.xe s1)
 (Y:eval (.Call (.Attribute e m apos) args [] pos) X.env=(do
  let J <- eval e X.env
  standAt apos.atName
  let (f,first) <- holding [J] (getMethod J m pl)
  callWith pos f first (backTo pos (starEach args X.env)) (backToKw pos (keywordEach [] X.env)))):
 wpAny (model X.prog X.w) X.A (eval (.Call (.Attribute e m apos) args [] pos) X.env) Q X.xe s:=by
 refine Wj (pl:=pl) (thn (U pins s σ H _ I h) λu s1 ⟨x,H1,I1,rx,a,C,dx,fs,g,ex,ea,c,k,l,q⟩=> ?_) Y
 subst ex
 obtain rfl:u=Value.ref a:=rx
 exact rH I1 ea c k l (q s1 I1)
end
section
variable {X : Cx} {pins : List (Addr × Obj)} {σ : St} {H : Hp} {s : Shared} {A : Around} {E : Value → Shared → Prop} {Q : Value → Shared → Prop} {c : Value} {b : Bool}
inductive p8 (K:Fa) (H:Hp):V->Value->Prop where
 | non:p8 K H .non (.type "NoneType")
 | bl (x:Bool):p8 K H (.bl x) (.type "bool")
 | int (i:Int):p8 K H (.int i) (.type "int")
 | str (x:Str):p8 K H (.str x) (.type "str")
 | flt (x:UInt64):p8 K H (.flt x) (.type "float")
 | lst {a:Addr} {xs:List V} (e:H a=some (.lst xs)):p8 K H (.ref a) (.type "list")
 | frz {a:Addr} {o:Obj} {xs:List V} (e:H a=some (.frz o (.lst xs))):p8 K H (.ref a) (.type "list")
 | tup {a:Addr} {xs:List V} (e:H a=some (.tup xs)):p8 K H (.ref a) (.type "tuple")
 | dK {a:Addr} {kvs:List (Key×V)} (e:H a=some (.dK kvs)):p8 K H (.ref a) (.type "dict")
 | dT {a:Addr} {kvs:List (List Key×V)} (e:H a=some (.dT kvs)):p8 K H (.ref a) (.type "dict")
 | ins {a C dx:Addr} {fs:List (Str×V)} (e:H a=some (.ins C dx fs)) (cl:Cls K C) (ha:UA K (.ref C) "__class__" =some (some (.builtin "object.__class__")))
  (hn:XE K (.builtin "object.__class__") "__get__" =some (some (.builtin "getset_descriptor.__get__"))) (htk:PySem.W.takesIn K (.builtin "object.__class__")=some true)
  (hm:PySem.W.mroIn K C (.type "object")=some true):p8 K H (.ref a) (.ref C)
end
structure eL(k:Nat)(A:Around):Prop where
 hd:A.handled=none
 dp:A.depth+3*k+5<recursionLimit
 un:A.units+16*k+200<cLine
theorem eL.mono{j k:Nat}{A:Around}(r:eL k A)(h:j<=k):eL j A:=⟨r.hd,by have:=r.dp;omega,by have:=r.un;omega⟩
theorem eL.deeper{k:Nat}{A:Around}(r:eL (k+1) A)(env:Env):eL k (A.deeper env):=
 ⟨r.hd,by have:=r.dp;show A.depth+1+3*k+5<_;omega,by have:=r.un;show A.units+3+16*k+200<_;omega⟩
theorem eL.in1{k:Nat}{A:Around}(r:eL (k+1) A):eL k A.in1:=
 ⟨r.hd,by have:=r.dp;show A.depth+3*k+5<_;omega,by have:=r.un;show A.units+1+16*k+200<_;omega⟩
theorem Ff{A:Around}{C:Addr}{us:List Value}{kw:List (Str×Value)}:(A.under (.builtin "type.__call__" ⟨.ref C::us,kw⟩)).depth=A.depth+1:=by
 first | rfl | simp[Around.under,Code.weight,Code.isCreation,Code.isGuard,Code.isCaller,Code.frames,Code.isFrame,guardIds]
theorem Et{A:Around}{C:Addr}{us:List Value}{kw:List (Str×Value)}:(A.under (.builtin "type.__call__" ⟨.ref C::us,kw⟩)).units=A.units+1:=by
 first | rfl | simp[Around.under,Code.cUnits,Code.frames,Code.isFrame]
theorem eL.make{k:Nat}{A:Around}(r:eL (k+1) A)(C:Addr)(us:List Value)(kw:List (Str×Value)):eL k (A.under (.builtin "type.__call__" ⟨.ref C::us,kw⟩)):=
 ⟨r.hd,by have:=r.dp;rw[Ff];omega,by have:=r.un;rw[Et];omega⟩
theorem eL.depth{k:Nat}{A:Around}(r:eL k A):A.depth<recursionLimit:=by have:=r.dp;omega
theorem eL.units{k:Nat}{A:Around}(r:eL k A):A.units+64<cLine:=by have:=r.un;omega
def qL:TA:=λ_ H Q=>Q [] H
def nY(ta:TE)(J:TA):TA:=λσ H Q=>ta σ H λx H1=>J σ H1 λxs H2=>Q (x::xs) H2
section
variable {X : Cx} {e : Expr} {es : List Expr} {te : TE} {t : TA} {pos : Pos}
theorem ar:PA X [] qL:=λ_ _ _ _ H Q I h=>Calls.spliced_nil ⟨[],H,I,.nil,h⟩
theorem ah(ha:PE X e te)(hr:PA X es t)(J:starEach (e::es) X.env=(false,eval e X.env)::starEach es X.env:=by rfl):PA X (e::es) (nY te t):=by
 intro pos pins s σ H Q I h
 rw[J]
 show wpAny _ _ (spliced ((false,eval e X.env)::backTo pos (starEach es X.env))) _ _ s
 refine Calls.spliced_cons (thn (ha pins s σ H _ I h) λu s1 ⟨x,H1,I1,r1,q1⟩=> ?_)
 exact thn (hr pos pins s1 σ H1 _ I1 q1) λus s2 ⟨xs,H2,I2,r2,q2⟩=>⟨x::xs,H2,I2,.cons r1 r2,q2⟩
def NO(t:TA):TE:=λσ H Q=>t σ H λxs H1=>xs.length<=sizeLine/\∀p,H1 p=none->Q (.ref p) (upd H1 p (.tup xs))
def Cp(t:TA):TE:=λσ H Q=>t σ H λxs H1=>xs.length<=sizeLine/\∀p,H1 p=none->Q (.ref p) (upd H1 p (.lst xs))
theorem xS{x1}(h:PA X es t):PE X (.Tuple es x1 pos) (NO t):=by
 intro pins s σ H Q I hq
 refine wpAny_Tuple_spliced (thn (h pos pins s σ H _ I hq) λus s1 ⟨xs,H1,I1,r,z,q⟩=>⟨by rw[<- r.length];exact z, ?_⟩)
 have J:H1 s1.heap.objs.size=none:=I1.hok.fresh (Ud _)
 refine⟨.ref s1.heap.objs.size,upd H1 s1.heap.objs.size (.tup xs),I1.laid (t':=s1.toks) (λb u e=>Heap.get?_push_of_some _ e) (Ud _) ?_,rfl,q _ J⟩
 exact⟨z,us,r,⟨_,Heap.get?_push_size _ rfl,rfl,_,rfl⟩⟩
theorem gL(h:PA X es t):PE X (.List es pos) (Cp t):=by
 intro pins s σ H Q I hq
 refine wpAny_List_spliced (thn (h pos pins s σ H _ I hq) λus s1 ⟨xs,H1,I1,r,z,q⟩=>⟨by rw[<- r.length];exact z, ?_⟩)
 have J:H1 s1.heap.objs.size=none:=I1.hok.fresh (Ud _)
 refine⟨.ref s1.heap.objs.size,upd H1 s1.heap.objs.size (.lst xs),I1.laid (t':=s1.toks) (λb u e=>Heap.get?_push_of_some _ e) (Ud _) ?_,rfl,q _ J⟩
 exact⟨z,us,0,r,Heap.get?_push_size _ rfl⟩
end
abbrev Sp:=List V->Hp->VK->XK->Prop
abbrev CXT:=List Env->Hp->Shared->XK->Value->Shared->Prop
structure qB(P:Program)(w:World)(K:Fa)(mg:Str->Option Value)(base:Heap)(A:Around)(outer:List Env)(s:Shared)(H:Hp):Prop where
 frames:A.frames=some outer
 mod:Mod K mg base
 bs:∀b o,base.get? b=some o->s.heap.get? b=some o/\H b=none
 bsz:base.objs.size<=s.heap.objs.size
 funs:s.heap.FunFrames base outer
 frf:∀b∈frs outer,H b=none
 hok:HOk P w H s.heap
 bare:AllBare s.gens
def CE(outer:List Env)(P:Program)(w:World)(H:Hp)(s:Shared)(Q:VK)(u:Value)(s':Shared):Prop:=
 ∃v H',s'.os=s.os/\AllBare s'.gens/\Un (frs outer) [] H H' s.heap s'.heap/\HOk P w H' s'.heap/\RelV v u/\Q v H'
def CR(CX:CXT)(outer:List Env)(P:Program)(w:World)(H:Hp)(s:Shared)(Q:VK)(E:XK)(r:Result)(s':Shared):Prop:=
 match r with
 | .ok (.ret u)=>CE outer P w H s Q u s'
 | .ok _=>False
 | .error e=>CX outer H s E e s'
structure gH(P:Program)(w:World)(K:Fa)(mg:Str->Option Value)(base:Heap)(CX:CXT)(k:Nat)(f:Addr)(fd:FuncData)(ps:List Str)(sp:Sp):Prop where
 len:∀vs H Q E,sp vs H Q E->vs.length=ps.length
 run:∀(A:Around) (outer:List Env) (s:Shared) (H:Hp) (args:Args) (us:List Value) (vs:List V) (Q:VK) (E:XK),eL k A->qB P w K mg base A outer s H->BindsTo s fd args (ps.zip us)->Vals vs us->sp vs H Q E->
  codeAny (model P w) A (.call (.ref f) args) (CR CX outer P w H s Q E) s
theorem gH.mono{P:Program}{w:World}{K:Fa}{mg:Str->Option Value}{base:Heap}{CX:CXT}{j k:Nat}{f:Addr}{fd:FuncData}{ps:List Str}{sp:Sp}(F:gH P w K mg base CX j f fd ps sp)(h:j<=k):
 gH P w K mg base CX k f fd ps sp:=⟨F.len,λA outer s H args us vs Q E hr=>F.run A outer s H args us vs Q E (hr.mono h)⟩
theorem gH.imp {P:Program} {w:World} {K:Fa} {mg:Str->Option Value} {base:Heap} {CX:CXT} {k:Nat} {f:Addr} {fd:FuncData} {ps:List Str} {sp J:Sp} (F:gH P w K mg base CX k f fd ps sp)
 (h:∀vs H Q E,J vs H Q E->sp vs H Q E):gH P w K mg base CX k f fd ps J:=
 ⟨λvs H Q E q=>F.len vs H Q E (h _ _ _ _ q),λA outer s H args us vs Q E hr U hb Y hs=>F.run A outer s H args us vs Q E hr U hb Y (h _ _ _ _ hs)⟩
theorem qB.make{P:Program}{w:World}{K:Fa}{mg:Str->Option Value}{base:Heap}{A:Around}{outer:List Env}{s:Shared}{H:Hp}(e:qB P w K mg base A outer s H)(C:Addr)(us:List Value)(kw:List (Str×Value)):
 qB P w K mg base (A.under (.builtin "type.__call__" ⟨.ref C::us,kw⟩)) outer s H:=⟨by first | exact e.frames | (simpa[Around.under,Code.envs,Code.isFrame,pushEnvs] using e.frames),e.mod,e.bs,e.bsz,e.funs,e.frf,e.hok,e.bare⟩
theorem qB.in1{P:Program}{w:World}{K:Fa}{mg:Str->Option Value}{base:Heap}{A:Around}{outer:List Env}{s:Shared}{H:Hp}(e:qB P w K mg base A outer s H):
 qB P w K mg base A.in1 outer s H:=⟨e.frames,e.mod,e.bs,e.bsz,e.funs,e.frf,e.hok,e.bare⟩
section
variable {X : Cx} {pins : List (Addr × Obj)} {σ : St} {H : Hp} {s s' : Shared}
theorem Inv.env0(I:Inv X pins σ H s):qB X.prog X.w X.K X.mg X.base X.A X.stack s H:=
 ⟨I.ok.frames,I.ok.mod,I.bs,UI I.ok.bsz I.sz,I.stack,I.stkFree,I.hok,I.bare⟩
theorem Inv.after{Q:VK}{u:Value}(I:Inv X pins σ H s)(h:CE X.stack X.prog X.w H s Q u s'):EP X pins σ Q u s':=by
 obtain⟨v,H',os,J,un,U,r,q⟩:=h
 obtain⟨hh,g,d,t,Y⟩:=s'
 obtain rfl:Y=s.os:=os
 exact⟨v,H',I.call (h':=hh) (g':=g) (d':=d) (t':=t) (ch:=[]) un U J (λb z=>absurd z (by simp)),r,q⟩
end
def u2(sp:Sp)(dvs:List V)(E:XK)(t:TA):TE:=λσ H Q=>t σ H λvs H1=>sp (vs++dvs) H1 Q E
def EK(C:Addr)(m:Str)(sp:Sp)(dvs:List V)(E:XK)(ta:TE)(t:TA):TE:=λσ H Q=>ta σ H λx H1=>∃a dx fs,x=.ref a/\H1 a=some (.ins C dx fs)/\fs.lookup m=none/\
 t σ H1 λvs H2=>sp (x::(vs++dvs)) H2 Q E
def Kp(C:Addr)(sp:Sp)(dvs:List V)(E:XK)(t:TA):TE:=λσ H Q=>t σ H λvs H1=>∀x dx,H1 x=none->H1 dx=none->dx≠x->
 sp (.ref x::(vs++dvs)) (upd (upd H1 dx (.own x)) x (.ins C dx [])) (λv H2=>v=.non/\Q (.ref x) H2) E
def Binds(K:Fa)(fd:FuncData)(ps:List Str)(ds:List Value):Prop:=
 ∀(s:Shared) (us:List Value),K.In s.heap->(us++ds).length=ps.length->BindsTo s fd ⟨us,[]⟩ (ps.zip (us++ds))
theorem Binds.all{K:Fa}{fd:FuncData}{ps:List Str}(h:∀us:List Value,us.length=ps.length->bindArgs fd ⟨us,[]⟩=pure (ps.zip us)):Binds K fd ps []:=λs us _ J=>by
 rw[UY] at J ⊢
 exact .of_eq (h us J)
def Passes(CX:CXT)(X:Cx)(E:XK):Prop:=∀(pins:List (Addr×Obj)) (σ:St) (H:Hp) (s:Shared) (e:Value) (s':Shared),Inv X pins σ H s->CX X.stack H s E e s'->X.xe e s'
section
variable {X : Cx} {CX : CXT} {k : Nat} {f C : Addr} {fd : FuncData} {ps : List Str} {sp : Sp} {dvs : List V} {ds : List Value} {E : XK} {x m : Str} {p pos apos : Pos} {e o : Expr} {es : List Expr} {ta : TE} {t : TA}
theorem Cn {pins:List (Addr×Obj)} {σ:St} {H:Hp} {s:Shared} {Q:VK} {us:List Value} {vs:List V} (F:gH X.prog X.w X.K X.mg X.base CX k f fd ps sp) (hr:eL k X.A) (hb:Binds X.K fd ps ds) (hd:Vals dvs ds) (hx:Passes CX X E)
 (I:Inv X pins σ H s) (r:Vals vs us) (h:sp (vs++dvs) H Q E):wpAny (model X.prog X.w) X.A (call (.ref f) us) (EP X pins σ Q) X.xe s:=by
 have J:Vals (vs++dvs) (us++ds):=r.append hd
 have U:(us++ds).length=ps.length:=by rw[<- J.length];exact F.len _ _ _ _ h
 refine wpAny_call (codeAny_mono (F.run X.A X.stack s H ⟨us,[]⟩ (us++ds) (vs++dvs) Q E hr I.env0 (hb s us I.kIn U) J h) λr s' hq=> ?_)
 cases r with
 | error e=>exact hx pins σ H s e s' I hq
 | ok Y=>
  cases Y with
  | ret u=>exact I.after hq
  | next=>exact Fk hq
  | brk=>exact Fk hq
  | cont=>exact Fk hq
theorem aQ (F:gH X.prog X.w X.K X.mg X.base CX k f fd ps sp) (hr:eL k X.A) (Y:Gl X x) (hm:X.mg x=some (.ref f)) (hk:T8 X.K (.ref f)=true) (hb:Binds X.K fd ps ds) (hd:Vals dvs ds) (hx:Passes CX X E)
 (ha:PA X (e::es) t) (J:(x == ("__debug__" :Str))=false:=by decide) (he:starEach (e::es) X.env=(false,eval e X.env)::starEach es X.env:=by rfl) (U:(backTo pos (starEach es X.env)).any (·.1)=false:=by rfl):
 PE X (.Call (.Name x p) (e::es) [] pos) (u2 sp dvs E t):=by
 intro pins s σ H Q I h
 refine wpAny_Call_Name_kw (yk I Y hm ?_ J)
 refine WF (h₀:=X.base) I.ok.mod.kin hk (thn (ha pos pins s σ H _ I h) λus s1 ⟨vs,H1,I1,r,q⟩=>⟨I1.kIn, ?_⟩) he U
 exact Cn F hr hb hd hx I1 r q
theorem u7 {pl:Sem Bool} (he:PE X o ta) (c:Cls X.K C) (hm:Meth X.K C m f) (F:gH X.prog X.w X.K X.mg X.base CX k f fd ps sp) (hr:eL k X.A) (hb:Binds X.K fd ps ds) (hd:Vals dvs ds) (hx:Passes CX X E) (ha:PA X (e::es) t)
 (J:starEach (e::es) X.env=(false,eval e X.env)::starEach es X.env:=by rfl) (U:(backTo pos (starEach es X.env)).any (·.1)=false:=by rfl)
 (ht:eval (.Call (.Attribute o m apos) (e::es) [] pos) X.env=(do
  let Y <- eval o X.env
  standAt apos.atName
  let (f,first) <- holding [Y] (getMethod Y m pl)
  callWith pos f first (backTo pos (starEach (e::es) X.env)) (backToKw pos (keywordEach [] X.env))):=by rfl):
 PE X (.Call (.Attribute o m apos) (e::es) [] pos) (EK C m sp dvs E ta t):=by
 intro pins s σ H Q I h
 refine Wj (pl:=pl) (thn (he pins s σ H _ I h) λu s1 ⟨x,H1,I1,rx,a,dx,fs,ex,ea,l,q⟩=> ?_) ht
 subst ex
 obtain rfl:u=Value.ref a:=rx
 refine rH I1 ea c hm l ?_
 refine WF (first:=[.ref a]) (h₀:=X.base) I.ok.mod.kin hm.kp (thn (ha pos pins s1 σ H1 _ I1 q) λus s2 ⟨vs,H2,I2,r,q2⟩=>⟨I2.kIn, ?_⟩) J U
 exact Cn (us:=.ref a::us) (vs:=.ref a::vs) F hr hb hd hx I2 (.cons rfl r) q2
theorem qc {pl:Sem Bool} (U:PE X o ta) (c:Cls X.K C) (hm:Meth X.K C m f) (F:gH X.prog X.w X.K X.mg X.base CX k f fd ps sp) (hr:eL k X.A) (hb:Binds X.K fd ps ds) (hd:Vals dvs ds) (hx:Passes CX X E)
 (Y:eval (.Call (.Attribute o m apos) [] [] pos) X.env=(do
  let J <- eval o X.env
  standAt apos.atName
  let (f,first) <- holding [J] (getMethod J m pl)
  callWith pos f first (backTo pos (starEach [] X.env)) (backToKw pos (keywordEach [] X.env))):=by rfl):
 PE X (.Call (.Attribute o m apos) [] [] pos) (EK C m sp dvs E ta qL):=by
 intro pins s σ H Q I h
 refine Wj (pl:=pl) (thn (U pins s σ H _ I h) λu s1 ⟨x,H1,I1,rx,a,dx,fs,ex,ea,l,q⟩=> ?_) Y
 subst ex
 obtain rfl:u=Value.ref a:=rx
 refine rH I1 ea c hm l ?_
 exact PySem.W.callWith_K0 (first:=[.ref a]) I1.kIn hm.kp (Cn (us:=[.ref a]) (vs:=[.ref a]) F hr hb hd hx I1 (.cons rfl .nil) q)
structure Mk(K:Fa)(C f:Addr):Prop where
 makes:Xa K C=true
 init:UA K (.ref C) "__init__" =some (some (.ref f))
 fn:Vg K (.ref f)=true
 kp:T8 K (.ref C)=true
theorem I0 {pins:List (Addr×Obj)} {σ:St} {H:Hp} {s:Shared} {Q:VK} {us:List Value} {vs:List V} (M:Mk X.K C f) (F:gH X.prog X.w X.K X.mg X.base CX k f fd ps sp) (hr:eL (k+1) X.A) (hb:Binds X.K fd ps ds) (hd:Vals dvs ds)
 (hx:Passes CX X E) (I:Inv X pins σ H s) (r:Vals vs us)
 (h:∀x dx,H x=none->H dx=none->dx≠x->sp (.ref x::(vs++dvs)) (upd (upd H dx (.own x)) x (.ins C dx [])) (λv H2=>v=.non/\Q (.ref x) H2) E):
 wpAny (model X.prog X.w) X.A (call (.ref C) us) (EP X pins σ Q) X.xe s:=by
 have hq:=h (s.heap.objs.size+1) s.heap.objs.size (I.hok.fresh (WE _)) (I.hok.fresh (Ud _)) (UB (Wg _))
 have U:=Inv.made (C:=C) I
 have Y:Vals (V.ref (s.heap.objs.size+1)::(vs++dvs)) (Value.ref (s.heap.objs.size+1)::(us++ds)):=.cons rfl (r.append hd)
 have hl:(Value.ref (s.heap.objs.size+1)::us++ds).length=ps.length:=by
  have e:=Y.length
  rw[F.len _ _ _ _ hq] at e
  exact e.symm
 refine wpAny_call (Kg (f:=f) I.kIn M.makes M.init (beq_iff_eq.mp M.fn) (codeAny_mono (F.run _ X.stack _ _ ⟨Value.ref (s.heap.objs.size+1)::us,[]⟩ (Value.ref (s.heap.objs.size+1)::(us++ds)) _ _ E (hr.make C us [])
  (U.env0.make C us []) (hb _ (Value.ref (s.heap.objs.size+1)::us) U.kIn hl) Y hq) λr s' J=> ?_))
 cases r with
 | error e=>exact hx pins σ _ _ e s' U J
 | ok fl=>
  cases fl with
  | ret u=>
   obtain⟨v,H',I3,rv,ev,q3⟩:=U.after J
   subst ev
   exact⟨rv,⟨V.ref (s.heap.objs.size+1),H',I3,rfl,q3⟩⟩
  | next=>exact Fk J
  | brk=>exact Fk J
  | cont=>exact Fk J
theorem My (M:Mk X.K C f) (F:gH X.prog X.w X.K X.mg X.base CX k f fd ps sp) (hr:eL (k+1) X.A) (Y:Gl X x) (hm:X.mg x=some (.ref C)) (hb:Binds X.K fd ps ds) (hd:Vals dvs ds) (hx:Passes CX X E)
 (ha:PA X (e::es) t) (J:(x == ("__debug__" :Str))=false:=by decide) (he:starEach (e::es) X.env=(false,eval e X.env)::starEach es X.env:=by rfl) (U:(backTo pos (starEach es X.env)).any (·.1)=false:=by rfl):
 PE X (.Call (.Name x p) (e::es) [] pos) (Kp C sp dvs E t):=by
 intro pins s σ H Q I h
 refine wpAny_Call_Name_kw (yk I Y hm ?_ J)
 refine WF (h₀:=X.base) I.ok.mod.kin M.kp (thn (ha pos pins s σ H _ I h) λus s1 ⟨vs,H1,I1,r,q⟩=>⟨I1.kIn, ?_⟩) he U
 exact I0 M F hr hb hd hx I1 r q
end
section
variable {X : Cx} {CX : CXT} {k : Nat} {f C : Addr} {fd : FuncData} {ps ks : List Str} {sp : Sp} {E : XK} {x m : Str} {p pos apos kpos : Pos} {e o : Expr} {es : List Expr} {kws : List Keyword} {te ta : TE} {t tk : TA} {nm : Option Str}
structure Ra(K:Fa)(fd:FuncData)(ps ks:List Str)(g:List Value->List Value->List Value)(gV:List V->List V->List V):Prop where
 to:∀(s:Shared) (us ws:List Value),K.In s.heap->(g us ws).length=ps.length->BindsTo s fd ⟨us,ks.zip ws⟩ (ps.zip (g us ws))
 rel:∀{vs:List V} {us:List Value} {zs:List V} {ws:List Value},Vals vs us->Vals zs ws->Vals (gV vs zs) (g us ws)
variable {g : List Value → List Value → List Value} {gV : List V → List V → List V}
end
structure bc(N P:List Str)(sc:Scope):Prop where
 kind:sc.kind=.function
 co:sc.isCoroutine=false
 gen:sc.isGenerator=false
 nd:N.Nodup
 pre:N.take P.length=P
 par:∀x∈P,sc.names.lookup x=some .local\/sc.names.lookup x=some .cell
 nofree:∀y∈sc.names,y.2≠ .free
theorem zH{kindOf:Str->Option NameKind}{x:Str}:∀{binds:List (Str×Value)} {m:Str->Option Value},(∀v,(x,v)∉binds)->bindL kindOf binds m x=m x
 | [],_,_=>rfl
 | (n,v)::r,m,h=>by
  unfold bindL
  rw[zH λw J=>h w (Ub _ J)]
  split
  ·have:x≠n:=by rintro rfl;exact h v Ug
   simp[this]
  ·rfl
theorem zZ{kindOf:Str->Option NameKind}{x:Str}:∀{binds:List (Str×Value)} {m:Str->Option Value},(∀v,(x,v)∉binds)->bindC kindOf binds m x=m x
 | [],_,_=>rfl
 | (n,v)::r,m,h=>by
  unfold bindC
  rw[zZ λw J=>h w (Ub _ J)]
  split
  ·rfl
  ·have:x≠n:=by rintro rfl;exact h v Ug
   simp[this]
theorem yX{kindOf:Str->Option NameKind}{x:Str}{v:Value}:∀{P:List Str} {vs:List Value} {i:Nat} {m:Str->Option Value},P.Nodup->P[i]? =some x->vs[i]? =some v->kindOf x=some .local->
 bindL kindOf (P.zip vs) m x=some v
 | [],_,_,_,_,h,_,_=>by simp at h
 | _::_,[],_,_,_,_,h,_=>by simp at h
 | p::P,w::vs,0,m,nd,h1,h2,hk=>by
  simp at h1 h2;subst h1;subst h2
  show bindL kindOf ((p,w)::P.zip vs) m p=_
  unfold bindL
  rw[zH λv J=>(Vd.mp nd).1 (Ve J).1,if_pos hk]
  simp
 | p::P,w::vs,i+1,m,nd,h1,h2,hk=>by
  show bindL kindOf ((p,w)::P.zip vs) m x=_
  unfold bindL
  exact yX (i:=i) (Vd.mp nd).2 (by simpa using h1) (by simpa using h2) hk
theorem z3{kindOf:Str->Option NameKind}{x:Str}{v:Value}:∀{P:List Str} {vs:List Value} {i:Nat} {m:Str->Option Value},P.Nodup->P[i]? =some x->vs[i]? =some v->kindOf x≠some .local->
 bindC kindOf (P.zip vs) m x=some v
 | [],_,_,_,_,h,_,_=>by simp at h
 | _::_,[],_,_,_,_,h,_=>by simp at h
 | p::P,w::vs,0,m,nd,h1,h2,hk=>by
  simp at h1 h2;subst h1;subst h2
  show bindC kindOf ((p,w)::P.zip vs) m p=_
  unfold bindC
  rw[zZ λv J=>(Vd.mp nd).1 (Ve J).1,if_neg hk]
  simp
 | p::P,w::vs,i+1,m,nd,h1,h2,hk=>by
  show bindC kindOf ((p,w)::P.zip vs) m x=_
  unfold bindC
  exact z3 (i:=i) (Vd.mp nd).2 (by simpa using h1) (by simpa using h2) hk
def start(N:List Str)(vs:List V):St:=vs.map some++Uo (N.length-vs.length) none
def tN(CX:CXT)(P:Program)(w:World)(K:Fa)(mg:Str->Option Value)(base:Heap)(N:List Str)(qual:Str)(scope:Scope)(f:Addr)(cd:Value)(A:Around)(outer:List Env)(s:Shared)(H:Hp)(E:XK):Cx where
 prog:=P
 w:=w
 K:=K
 mg:=mg
 base:=base
 A:=A.deeper (envOfC qual scope s.heap.objs.size f cd)
 N:=N
 s₀:=s
 H₀:=H
 env:=envOfC qual scope s.heap.objs.size f cd
 outer:=outer
 stack:=envOfC qual scope s.heap.objs.size f cd::outer
 ex:=[]
 calm:=true
 fn:=λ_=>true
 pn:=[]
 xe:=λe s'=>wpAny (model P w) (A.deeper (envOfC qual scope s.heap.objs.size f cd)) (leaving (envOfC qual scope s.heap.objs.size f cd) e) (λ_ s''=>CX outer H s E e s'') (λe' s''=>CX outer H s E e' s'') s'
theorem Br{J:Scope}{n:Nat}{x:Str}(h:J.names.lookup x=some .cell):∃c,(cellsFrom n J.names []).lookup x=some c:=by
 have q:=VR J.names n [] (.inl h)
 exact WS.mp q
theorem Hj {CX:CXT} {P:Program} {w:World} {K:Fa} {mg:Str->Option Value} {base:Heap} {N ps:List Str} {qual:Str} {scope:Scope} {f:Addr} {cd:Value} {A:Around} {outer:List Env} {s s1:Shared} {H:Hp} {E:XK} {us:List Value} {vs:List V}
 (S:bc N ps scope) (hd:A.handled=none) (J:qB P w K mg base A outer s H) (hl:vs.length=ps.length) (r:Vals vs us)
 (x:InCallC s s.heap.objs.size (bindL (envOfC qual scope s.heap.objs.size f cd).kindOf (ps.zip us) λ_=>none) (cellsFrom (s.heap.objs.size+1) scope.names []) (bindC (envOfC qual scope s.heap.objs.size f cd).kindOf (ps.zip us) λ_=>none) s1):
 Inv (tN CX P w K mg base N qual scope f cd A outer s H E) [] (start N vs) H s1:=by
 have ab:ps.length<=N.length:=by have:=congrArg Vk S.pre;rw[V0] at this;omega
 obtain⟨h1,tk,rfl,hk⟩:=x.done
 have U:∀b:Addr,b∉(tN CX P w K mg base N qual scope f cd A outer s H E).ex:=λb z=>absurd (show b∈([]:List Addr) from z) (by simp)
 refine⟨⟨J.mod,S.kind,rfl,rfl,Ud _,λy z c h1 h2=> ?_,λy hy=> ?_,λy c _ h=> ?_,λ_=>hd,Around.frames_deeper J.frames,.inr ⟨rfl,rfl⟩,λb z=>absurd z (U b),J.bs,J.bsz,λb _ _=>U b,λb z=>absurd z (U b),J.funs,J.frf⟩,
  rfl,J.bare,Un.kept hk,⟨_,x.toInCall.ns,λi y v h1 h2 h3=> ?_⟩,λy c h=>⟨_,x.cell y c h⟩,J.hok.fresh (Ud _),λy c h=> ?_,λp hp=>absurd (show p∈([]:List (Addr×Obj)) from hp) (by simp),J.hok.kept hk, ?_⟩
 ·exact name_of_addr x.apart (VJ h1) (VJ h2)
 ·have hy:scope.names.lookup y=some .cell\/scope.names.lookup y=some .free:=hy
  rcases hy with hy | hy
  ·exact Br hy
  ·exact absurd rfl (S.nofree _ (VJ hy))
 ·exact Vy (x.above y c (VJ h))
 ·have hi:i<vs.length:=by
   unfold start at h2
   by_cases hi:i<vs.length
   ·exact hi
   ·rw[Ui (by simpa using hi)] at h2
    rw[US] at h2
    split at h2 <;> cases h2
  have ha:vs[i]? =some v:=by
   unfold start at h2
   rw[Ut (by simpa using hi),Us] at h2
   cases e:vs[i]? with
   | none=>rw[e] at h2;cases h2
   | some a=>rw[e] at h2;cases h2;rfl
  obtain⟨u,hu,rv⟩:=r.get ha
  have hp:ps[i]? =some y:=by
   rw[<- S.pre,WT (by omega)];exact h1
  have Y:ps.Nodup:=by rw[<- S.pre];exact S.nd.sublist (List.take_sublist _ _)
  refine⟨u,rv, ?_⟩
  rcases S.par y (UF hp) with k | k
  ·exact .inl ⟨k,yX Y hp hu k⟩
  ·obtain⟨c,e⟩:=Br (n:=s.heap.objs.size+1) k
   refine .inr ⟨.inl k,c,e, ?_⟩
   have q:=x.cell y c e
   rw[z3 Y hp hu (by show scope.names.lookup y≠_;rw[k];decide)] at q
   exact q
 ·exact J.hok.fresh (Vy (x.above y c (VJ h)))
 ·unfold start
  show _=N.length
  rw[Uv,T3,VW]
  omega
theorem Kt {CX:CXT} {P:Program} {w:World} {K:Fa} {mg:Str->Option Value} {base:Heap} {k:Nat} {f:Addr} {name qual:Str} {Y:Arguments} {body:List Stmt} {scope:Scope} {dV kV ap pm U ct oc:Value} {an od:Option Addr}
 {a3:Array (Option Value)} {N ps:List Str} {sp:Sp} (lk:K.lookup f=some ⟨oc,od,.func (Ue name qual Y body scope dV kV ap pm an U ct),a3⟩) (a4:Ua K U qual=true) (S:bc N ps scope)
 (as:∀vs H Q E,sp vs H Q E->vs.length=ps.length)
 (ab:∀(A:Around) (outer:List Env) (s:Shared) (H:Hp) (vs:List V) (Q:VK) (E:XK),eL k (A.deeper (envOfC qual scope s.heap.objs.size f U))->sp vs H Q E->
  ∃t,PSs (tN CX P w K mg base N qual scope f U A outer s H E) body t/\t {nx:=λ_ H'=>Q .non H',rt:=Q} (start N vs) H):
 gH P w K mg base CX (k+1) f (Ue name qual Y body scope dV kV ap pm an U ct) ps sp:=by
 refine⟨as,λA outer s H args us vs Q E hr e0 hb r a0=> ?_⟩
 have hl:=as _ _ _ _ a0
 have KX:K.In s.heap:=e0.mod.kin.keeps λb o e=>(e0.bs b o e).1
 have a5:s.heap.NoLimit:=e0.mod.nolimit.keeps λb o e=>(e0.bs b o e).1
 have ac:∀y∈ps.zip us,scope.names.lookup y.1=some .local\/(scope.names.lookup y.1=some .cell/\((cellsFrom (s.heap.objs.size+1) scope.names []).lookup y.1).isSome=true):=λ⟨n,v⟩ hy=>by
  rcases S.par n (Ve hy).1 with q | q
  ·exact .inl q
  ·exact .inr ⟨q,VR _ _ _ (.inl q)⟩
 refine codeAny_call_function hr.depth (KX _ _ lk) rfl S.co S.gen rfl (PySem.W.codeRec_of KX a4) (hb _ _ _ _ ?_)
 refine wpAny_newFunctionEnv_cells S.kind ac λenv he s1 x=> ?_
 subst he
 refine⟨a5.keeps x.toInCall.keep,codeAny_func ?_⟩
 obtain⟨t,ht,hq⟩:=ab A outer s H vs Q E (hr.deeper _) a0
 have I:Inv (tN CX P w K mg base N qual scope f U A outer s H E) [] (start N vs) H s1:=Hj S hr.hd e0 hl r x
 refine wpAny_mono (ht [] s1 (start N vs) H _ I hq) (λfl s' hs=> ?_) λe s' hs=>hs
 have a1:∀{σ':St} {H':Hp} {v:V} {u:Value},Inv (tN CX P w K mg base N qual scope f U A outer s H E) [] σ' H' s'->RelV v u->Q v H'->CE outer P w H s Q u s':=
  λ{σ' H' v u} J rv q=>⟨v,H',J.os,J.bare,J.base,J.hok,rv,q⟩
 cases fl with
 | ret u=>
  obtain⟨v,σ',H',J,rv,q⟩:=hs
  exact a1 J rv q
 | next=>
  obtain⟨σ',H',J,q⟩:=hs
  exact a1 (v:=V.non) (u:=Value.none) J rfl q
 | brk=>
  obtain⟨_,_,_,q⟩:=hs
  exact Fk q
 | cont=>
  obtain⟨_,_,_,q⟩:=hs
  exact Fk q
section
variable {X : Cx} {x : Str} {p pos : Pos} {e : Expr} {es : List Expr} {t : TA} {id T : String} {r : List V → Hp → VK → Prop}
def tCB(r:List V->Hp->VK->Prop)(t:TA):TE:=λσ H Q=>t σ H λvs H1=>r vs H1 Q
theorem bz (hc:iG X (.builtin id) r) (Y:Gl X x) (hm:X.mg x=none) (hv:bootBuiltins x=some (.builtin id)) (ha:PA X (e::es) t) (hn:x≠"__name__" :=by decide) (J:(x == ("__debug__" :Str))=false:=by decide)
 (he:starEach (e::es) X.env=(false,eval e X.env)::starEach es X.env:=by rfl) (U:(backTo pos (starEach es X.env)).any (·.1)=false:=by rfl):PE X (.Call (.Name x p) (e::es) [] pos) (tCB r t):=by
 intro pins s σ H Q I h
 refine wpAny_Call_Name_kw (qR I Y hm hv ?_ hn J)
 exact PyProof.Rows.callWith_builtin1 (thn (ha pos pins s σ H _ I h) λus s1 ⟨vs,H1,I1,r1,q1⟩=>hc pins s1 σ H1 vs us Q I1 r1 q1) he U
theorem i9 (hc:iG X (.type T) r) (Y:Gl X x) (hm:X.mg x=none) (hv:bootBuiltins x=some (.type T)) (ha:PA X (e::es) t) (hn:x≠"__name__" :=by decide) (J:(x == ("__debug__" :Str))=false:=by decide)
 (he:starEach (e::es) X.env=(false,eval e X.env)::starEach es X.env:=by rfl) (U:(backTo pos (starEach es X.env)).any (·.1)=false:=by rfl):PE X (.Call (.Name x p) (e::es) [] pos) (tCB r t):=by
 intro pins s σ H Q I h
 refine wpAny_Call_Name_kw (qR I Y hm hv ?_ hn J)
 exact Vz (thn (ha pos pins s σ H _ I h) λus s1 ⟨vs,H1,I1,r1,q1⟩=>hc pins s1 σ H1 vs us Q I1 r1 q1) he U
end
end L2
namespace HT
open PySem PyProof.Rows
def lexLt:List Int->List Int->Bool
 | [],[]=>false
 | [],_::_=>true
 | _::_,[]=>false
 | x::xs,y::ys=>if x=y then lexLt xs ys else decide (x<y)
theorem oV(x y:Int)(xs ys:List Int):lexLt (x::xs) (y::ys)=if x=y then lexLt xs ys else decide (x<y):=rfl
theorem JL(A:Around)(s:Shared)(a:Int)(t:Tok)(c:Int)(u:Tok):∃e,SeqAt.EqAt A s (.int a t) (.int c u) e/\(e=true↔a=c):=
 ⟨(a == c),SeqAt.EqAt.int_int a t c u,by simp⟩
theorem JE(A:Around)(s:Shared)(a:Int)(t:Tok)(c:Int)(u:Tok)(prog:Program)(w:World)(E:Value->Shared->Prop)(Q:Value->Shared->Prop)(h:Q (.bool (decide (a<c))) s):
 wpAny (model prog w) A (richCompare .Lt (.int a t) (.int c u)) Q E s:=
 (PyProof.Rows.lt_int h:wpAny (model prog w) A (compareOp .Lt (.int a t) (.int c u)) Q E s)
section
open PySem.SeqAt
open PySem.AutoSeq1 (wpAny_loadPart')
open PySem.MeetsSeq PySem.MeetsSeq2 PySem.MeetsSeq3
end
section
variable {prog : Program} {w : World} {A : Around} {E : Value → Shared → Prop} {s : Shared}
def sIx(n d:Nat):Option Int->Nat
 | none=>d
 | some v=>if v<0 then (v+(n:Int)).toNat else min v.toNat n
theorem Io(n d:Nat):sIx n d none=d:=rfl
theorem K2(n d k:Nat):sIx n d (some (k:Int))=min k n:=by
 show (if (k:Int)<0 then ((k:Int)+(n:Int)).toNat else min (k:Int).toNat n)=min k n
 rw[if_neg (by omega),XF]
end
end HT
namespace L2
open PySem PySem.Spec PyProof.Rows
abbrev TO:=St->Hp->(Option Int->Hp->Prop)->Prop
def PO(X:Cx)(e:Option Expr)(t:TO):Prop:=
 ∀(pins:List (Addr×Obj)) (s:Shared) (σ:St) (H:Hp) (Q:Option Int->Hp->Prop),Inv X pins σ H s->t σ H Q->
  wpAny (model X.prog X.w) X.A (evalPart e X.env) (λu s'=>∃o H',Inv X pins σ H' s'/\IsPart u o/\Q o H') X.xe s
def DM:TO:=λ_ H Q=>Q none H
def Ks(t:TE):TO:=λσ H Q=>t σ H λx H1=>∃i,x=.int i/\Q (some i) H1
section
variable {X : Cx} {e : Expr} {te : TE} {lo hi : Option Expr} {tl th : TO} {pos p2 : Pos}
theorem rf:PO X none DM:=by
 intro pins s σ H Q I h
 rw[evalPart_none]
 exact wpAny_pure ⟨none,H,I,.none,h⟩
theorem u9(h:PE X e te):PO X (some e) (Ks te):=by
 intro pins s σ H Q I J
 rw[evalPart_some]
 refine thn (h pins s σ H _ I J) λu s1 ⟨x,H1,I1,r1,q1⟩=> ?_
 obtain⟨i,rfl,q⟩:=q1
 obtain⟨t,rfl⟩:=r1
 exact⟨some i,H1,I1,.int i t,q⟩
def SlR(X:Cx)(r:V->Option Int->Option Int->Hp->VK->Prop):Prop:=
 ∀(pins:List (Addr×Obj)) (s:Shared) (σ:St) (H:Hp) (x:V) (v J U:Value) (lo hi:Option Int) (Y:Addr) (Q:VK),Inv X pins σ H s->RelV x v->s.heap.IsSliceOf Y J U .none->IsPart J lo->IsPart U hi->r x lo hi H Q->
  ∃T id,typeLookup (.type T) "__getitem__" =pure (some (.builtin id))/\s.TypeIs v T/\wpAny (model X.prog X.w) X.A (getItem v (.ref Y)) (EP X pins σ Q) X.xe s
theorem SlR.or{r J:V->Option Int->Option Int->Hp->VK->Prop}(h:SlR X r)(h':SlR X J):SlR X (λx lo hi H Q=>r x lo hi H Q\/J x lo hi H Q):=by
 intro pins s σ H x v U Y lo hi sl Q I rx hs pl pu q
 rcases q with q | q
 ·exact h pins s σ H x v U Y lo hi sl Q I rx hs pl pu q
 ·exact h' pins s σ H x v U Y lo hi sl Q I rx hs pl pu q
def tSl(r:V->Option Int->Option Int->Hp->VK->Prop)(te:TE)(tl th:TO):TE:=λσ H Q=>te σ H λx H1=>tl σ H1 λl H2=>th σ H2 λu J=>r x l u J Q
theorem wq{r:V->Option Int->Option Int->Hp->VK->Prop}(hr:SlR X r)(J:PE X e te)(U:PO X lo tl)(hu:PO X hi th):PE X (.Subscript e (.Slice lo hi none p2) pos) (tSl r te tl th):=by
 intro pins s σ H Q I h
 refine Subscript_ (thn (J pins s σ H _ I h) λv s1 ⟨x,H1,I1,r1,q1⟩=> ?_)
 refine wpAny_Slice (thn (U pins s1 σ H1 _ I1 q1) λvl s2 ⟨l,H2,I2,pl,q2⟩=>thn (hu pins s2 σ H2 _ I2 q2) λvu s3 ⟨u,H3,I3,pu,q3⟩=> ?_)
 rw[evalPart_none]
 refine wpAny_pure ?_
 have Y:Inv X pins σ H3 {s3 with heap:=s3.heap.push {cls:=.type "slice",data:=.fields #[vl,vu,.none]}}:=I3.kept (t':=s3.toks) λb ob q=>Heap.get?_push_of_some _ q
 obtain⟨T,id,hT,ht,hg⟩:=hr pins {s3 with heap:=s3.heap.push {cls:=.type "slice",data:=.fields #[vl,vu,.none]}} σ H3 x v vl vu l u s3.heap.objs.size Q Y r1 (Heap.IsSliceOf.new ..) pl pu q3
 show wpAny (model X.prog X.w) X.A (subscriptTail e (.Slice lo hi none p2) v (.ref s3.heap.objs.size)) (EP X pins σ Q) X.xe {s3 with heap:=s3.heap.push {cls:=.type "slice",data:=.fields #[vl,vu,.none]}}
 exact tail_any (ops:=[.ref s3.heap.objs.size,v]) ht hT hg (by with_unfolding_all rfl)
def yp(xs:List V)(lo hi:Option Int):List V:=(xs.drop (HT.sIx xs.length 0 lo)).take (HT.sIx xs.length xs.length hi-HT.sIx xs.length 0 lo)
theorem DA(xs:List V)(lo hi:Option Int):(yp xs lo hi).length<=xs.length:=by
 unfold yp
 rw[V0,XO]
 omega
end
def ixN(n:Nat)(i:Int):Option Nat:=if 0<=i then (if i<n then some i.toNat else none) else if -(n:Int)<=i then some (i+n).toNat else none
def atI{α:Type}(xs:List α)(i:Int):Option α:=(ixN xs.length i).bind λj=>xs[j]?
theorem DF{n:Nat}{i:Int}{j:Nat}(h:ixN n i=some j):seqIndex? i n=some j/\j<n/\ -(n:Int)<=i/\i<n:=by
 unfold ixN at h
 by_cases h0:0<=i
 ·rw[if_pos h0] at h
  by_cases h1:i<n
  ·rw[if_pos h1] at h
   have e:i.toNat=j:=Vc h
   exact⟨by rw[seqIndex_of h0 h1,e],by omega,by omega,h1⟩
  ·rw[if_neg h1] at h;cases h
 ·rw[if_neg h0] at h
  by_cases h1: -(n:Int)<=i
  ·rw[if_pos h1] at h
   have e:(i+n).toNat=j:=Vc h
   exact⟨by rw[seqIndex_neg (by omega) h1,e],by omega,h1,by omega⟩
  ·rw[if_neg h1] at h;cases h
theorem yo{α:Type}{xs:List α}{i:Int}{v:α}(h:atI xs i=some v):∃j,seqIndex? i xs.length=some j/\xs[j]? =some v/\j<xs.length/\ -(xs.length:Int)<=i/\i<xs.length:=by
 unfold atI at h
 cases e:ixN xs.length i with
 | none=>rw[e] at h;cases h
 | some j=>
  rw[e] at h
  obtain⟨h1,h2,J,U⟩:=DF e
  exact⟨j,h1,h,h2,J,U⟩
def K5(b:Expr):Prop:=∀o i,subscripted b false o i=operate [o,i] (getItem o i)
def IxR(X:Cx)(r:R2):Prop:=
 ∀(value J:Expr) (pins:List (Addr×Obj)) (s:Shared) (σ:St) (H:Hp) (x y:V) (v u:Value) (Q:VK),Inv X pins σ H s->RelV x v->RelV y u->r x y H Q->
  subscripted J false v u=operate [v,u] (getItem v u)->wpAny (model X.prog X.w) X.A (subscriptTail value J v u) (EP X pins σ Q) X.xe s
def MtR(X:Cx)(id:String)(r:V->List V->Hp->VK->Prop):Prop:=
 ∀(pins:List (Addr×Obj)) (s:Shared) (σ:St) (H:Hp) (x:V) (xs:List V) (v:Value) (us:List Value) (Q:VK),Inv X pins σ H s->RelV x v->Vals xs us->r x xs H Q->
  wpAny (model X.prog X.w) X.A (call (.builtin id) (v::us)) (EP X pins σ Q) X.xe s
section
variable {X : Cx} {a b : Expr} {ta tb : TE} {pos : Pos}
theorem IxR.or{r U:R2}(h:IxR X r)(h':IxR X U):IxR X (λx y H Q=>r x y H Q\/U x y H Q):=by
 intro value J pins s σ H x y v u Q I Y ry q hs
 rcases q with q | q
 ·exact h value J pins s σ H x y v u Q I Y ry q hs
 ·exact h' value J pins s σ H x y v u Q I Y ry q hs
theorem MtR.or{id:String}{r J:V->List V->Hp->VK->Prop}(h:MtR X id r)(h':MtR X id J):MtR X id (λx xs H Q=>r x xs H Q\/J x xs H Q):=by
 intro pins s σ H x xs v us Q I U Y q
 rcases q with q | q
 ·exact h pins s σ H x xs v us Q I U Y q
 ·exact h' pins s σ H x xs v us Q I U Y q
theorem cG{r:R2}(hr:IxR X r)(ha:PE X a ta)(hb:PE X b tb)(J:K5 b):PE X (.Subscript a b pos) (tOp r ta tb):=by
 intro pins s σ H Q I h
 exact Subscript_ (J8 ha hb I h λv u s2 x y H2 U Y ry q=>hr a b pins s2 σ H2 x y v u Q U Y ry q (J _ _))
def OH(K:Fa):R2:=λx y H Q=>∃p xs i v,x=.ref p/\y=.int i/\SqL K H p xs/\atI xs i=some v/\Q v H
def NP(K:Fa):R2:=λx y H Q=>∃p xs i v,x=.ref p/\y=.int i/\SqT K H p xs/\atI xs i=some v/\Q v H
def NM:R2:=λx y H Q=>∃z i c,x=.str z/\y=.int i/\z.length<=sizeLine/\atI z.cps.toList i=some c/\Q (.str ⟨#[c]⟩) H
theorem ML:IxR X (OH X.K):=by
 intro value U pins s σ H x y v u Q I rx ry h hs
 obtain⟨p,xs,i,z,rfl,rfl,hq,he,q⟩:=h
 cases rx
 obtain⟨t,rfl⟩:=ry
 obtain⟨Y,r,pl,hz⟩:=I.list hq
 obtain⟨j,h1,h2,h3,h4,h5⟩:=yo he
 obtain⟨w,ew,ab⟩:=r.get h2
 have hl:=r.length
 have hn:=pP
 have J:EP X pins σ Q w s:=⟨z,H,I,ab,q⟩
 by_cases h0:0<=i
 ·have hj:i.toNat=j:=by
   rw[seqIndex_of h0 h5] at h1
   exact Vc h1
  exact item_listR pl.isList h0 (by omega) (by rw[hj];simpa using ew) J hs
 ·have hj:(i+(Y.toArray.size:Int)).toNat=j:=by
   rw[seqIndex_neg (by omega) h4] at h1
   rw[Up,<- hl]
   exact Vc h1
  exact subscriptTail_builtinR (x:=w) pl.isList.typeIs slot_list_getitem.lookup
   (wpAny_getItem_list_neg (Q:=λr s'=>r=w/\EP X pins σ Q r s') pl.isList (by omega) (by rw[Up] <;> omega) (by omega) (by rw[hj];simpa using ew) ⟨rfl,J⟩) hs
theorem N4:IxR X (NP X.K):=by
 intro value J pins s σ H x y v u Q I rx ry h hs
 obtain⟨p,xs,i,z,rfl,rfl,hq,he,q⟩:=h
 cases rx
 obtain⟨t,rfl⟩:=ry
 obtain⟨ap,r,pl,hz⟩:=I.tuple hq
 obtain⟨j,h1,h2,h3,h4,h5⟩:=yo he
 obtain⟨w,ew,U⟩:=r.get h2
 have hl:=r.length
 have hn:=pP
 have Y:EP X pins σ Q w s:=⟨z,H,I,U,q⟩
 exact subscriptTail_builtinR (x:=w) pl.typeIs slot_tuple_getitem.lookup
  (getItem_tuple (j:=j) (Q:=λr s'=>r=w/\EP X pins σ Q r s') pl (by omega) (by omega) (by rw[Up,<- hl];exact h1) (by simpa using ew) ⟨rfl,Y⟩) hs
theorem Of:IxR X NM:=by
 intro value J pins s σ H x y v u Q I U Y h hs
 obtain⟨z,i,c,rfl,rfl,hz,he,q⟩:=h
 obtain⟨t,rfl⟩:=U
 obtain⟨t',rfl⟩:=Y
 obtain⟨j,h1,h2,h3,h4,h5⟩:=yo he
 have hl:z.cps.toList.length=z.length:=by simp[Str.length]
 rw[hl] at h1 h4 h5
 have hn:=pP
 exact tail_any (typeIs_str s z t) slot_str_getitem.lookup (getItem_str (c:=c) (by
  have e1:decide (i < -(2^63:Int))=false:=decide_eq_false (by omega)
  have e2:decide (i ≥ 2^63)=false:=decide_eq_false (by omega)
  rw[e1,e2,WJ]) (by rw[h1];simpa using h2) ⟨.str ⟨#[c]⟩,H,I.tok _,⟨_,rfl⟩,q⟩) hs
def rIx(K:Fa):R2:=λx y H Q=>OH K x y H Q\/NP K x y H Q\/NM x y H Q
theorem bQ:IxR X (rIx X.K):=ML.or (N4.or Of)
theorem EX(J:List Value)(n j:Nat)(u:Value):Obj.mapSeq (·.setIfInBounds j u) {cls:=.type "list",data:=.seq J.toArray n}={cls:=.type "list",data:=.seq (J.set j u).toArray n}:=by
 simp[Obj.mapSeq]
theorem Inv.lst{pins:List (Addr×Obj)}{σ:St}{H:Hp}{s:Shared}{p:Addr}{xs:List V}(I:Inv X pins σ H s)(h:H p=some (.lst xs)):
 ∃(J:List Value) (n:Nat),Vals xs J/\s.heap.get? p=some {cls:=.type "list",data:=.seq J.toArray n}/\xs.length<=sizeLine:=by
 obtain⟨z,J,n,r,e⟩:=I.hok p _ h
 exact⟨J,n,r,e,z⟩
theorem Inv.lstUpd {pins:List (Addr×Obj)} {σ:St} {H:Hp} {s:Shared} {p:Addr} {xs ys:List V} {J its':List Value} {n U:Nat} {f:Obj->Obj} (I:Inv X pins σ H s) (h:H p=some (.lst xs))
 (ho:s.heap.get? p=some {cls:=.type "list",data:=.seq J.toArray n}) (Y:f {cls:=.type "list",data:=.seq J.toArray n}={cls:=.type "list",data:=.seq its'.toArray U}) (r:Vals ys its') (hz:ys.length<=sizeLine) (t:Nat):
 Inv X pins σ (upd H p (.lst ys)) {s with heap:=s.heap.update p f,toks:=t}:=by
 have e:(s.heap.update p f).get? p=some {cls:=.type "list",data:=.seq its'.toArray U}:=by
  rw[Heap.get?_update_self f ho (by rw[Y] <;> rfl),Y]
 refine I.write (x:=p) (e:=p) (by rw[h];trivial) (.inl rfl) (λb u hb q=>(Heap.get?_update_other _ _ (Wi hb)).trans q) ⟨_,e⟩ ?_
 exact⟨hz,its',U,r,e⟩
def Kz:V->V->V->Hp->(Hp->Prop)->Prop:=λo i v H Q=>∃p xs k j,o=.ref p/\i=.int k/\H p=some (.lst xs)/\ixN xs.length k=some j/\Q (upd H p (.lst (xs.set j v)))
theorem set_list:N6 X Kz:=by
 intro pins s σ H o i v ov iv u Q I ro ri rv h
 obtain⟨p,xs,k,j,rfl,rfl,hp,hj,q⟩:=h
 cases ro
 obtain⟨t,rfl⟩:=ri
 obtain⟨J,n,r,U,hz⟩:=I.lst hp
 obtain⟨h1,h2,h3,h4⟩:=DF hj
 have Y:=r.length
 have hn:=pP
 have I':Inv X pins σ (upd H p (.lst (xs.set j v))) {s with heap:=s.heap.update p (Obj.mapSeq (·.setIfInBounds j u))}:=
  I.lstUpd hp U (EX J n j u) (r.set rv j) (by rw[Wp];exact hz) s.toks
 by_cases h0:0<=k
 ·have hk:k.toNat=j:=by
   rw[seqIndex_of h0 h4] at h1
   exact Vc h1
  exact PySem.W.ki_setAt U h0 (by omega) (by rw[Up,<- Y];exact h4) (by rw[hk];exact⟨_,I',q⟩)
 ·have hk:(k+(J.toArray.size:Int)).toNat=j:=by
   rw[seqIndex_neg (by omega) h3] at h1
   rw[Up,<- Y]
   exact Vc h1
  exact PySem.W.ki_setBack U (by omega) (by rw[Up,<- Y];exact h3) (by omega) (by rw[hk];exact⟨_,I',q⟩)
theorem AW(lo hi:Option Int)(n:Nat):(sliceBounds lo hi none n).1=((HT.sIx n 0 lo:Nat):Int)/\(sliceBounds lo hi none n).2.1=((HT.sIx n n hi:Nat):Int)/\(sliceBounds lo hi none n).2.2=1:=by
 refine⟨?_, ?_,rfl⟩
 ·cases lo with
  | none=>simp[sliceBounds,HT.sIx]
  | some i=>
   simp only[sliceBounds,HT.sIx,XQ,show (1:Int)>0 by decide,if_true]
   by_cases h:i<0
   ·simp only[h,if_true] <;> omega
   ·simp only[h,if_false] <;> omega
 ·cases hi with
  | none=>simp[sliceBounds,HT.sIx]
  | some i=>
   simp only[sliceBounds,HT.sIx,XQ,show (1:Int)>0 by decide,if_true]
   by_cases h:i<0
   ·simp only[h,if_true] <;> omega
   ·simp only[h,if_false] <;> omega
theorem Ae(J:List Value)(lo hi:Option Int):slicePick J.toArray lo hi none=((J.drop (HT.sIx J.length 0 lo)).take (HT.sIx J.length J.length hi-HT.sIx J.length 0 lo)).toArray:=by
 obtain⟨h1,h2,U⟩:=AW lo hi J.toArray.size
 unfold slicePick
 rw[h1,h2,U]
 simp only[sliceRange_one,pick_run,Up] <;> rfl
def OJ(K:Fa):V->Option Int->Option Int->Hp->VK->Prop:=λx lo hi H Q=>∃a xs,x=.ref a/\SqL K H a xs/\∀p,H p=none->Q (.ref p) (upd H p (.lst (yp xs lo hi)))
theorem Mr:SlR X (OJ X.K):=by
 intro pins s σ H x v vl vu lo hi sl Q I Y hs pl pu h
 obtain⟨a,xs,rfl,hx,q⟩:=h
 cases Y
 obtain⟨am,r,U,hz⟩:=I.list hx
 have J:=r.length
 refine⟨"list",_,slot_list_getitem.lookup,U.isList.typeIs, ?_⟩
 refine wpAny_getItem_list_slice U.isList hs pl pu .none (by simp) ?_ (by rw[Up] <;> omega)
 rw[Ae,<- J]
 refine⟨.ref s.heap.objs.size,_,I.laid (t':=s.toks) (o:=.lst (yp xs lo hi)) (λb ob q=>Heap.get?_push_of_some _ q) (Ud _) ?_,rfl,q _ (I.hok.fresh (Ud _))⟩
 exact⟨UI (DA xs lo hi) hz,_,0,(r.drop (HT.sIx xs.length 0 lo)).take (HT.sIx xs.length xs.length hi-HT.sIx xs.length 0 lo),Heap.get?_push_size _ rfl⟩
def nS:V->Bool
 | .non=>true
 | .bl _=>true
 | .int _=>true
 | .str _=>true
 | _=>false
def eqV:V->V->Bool
 | .non,.non=>true
 | .bl a,.bl b=>a == b
 | .bl a,.int b=>(if a then 1 else 0) == b
 | .int a,.bl b=>a == (if b then 1 else 0)
 | .int a,.int b=>a == b
 | .str a,.str b=>a == b
 | _,_=>false
theorem Nr{A:Around}{s:Shared}{y x:V}{u v:Value}(Y:RelV y u)(J:RelV x v)(fy:nS y=true)(fx:nS x=true):SeqAt.EqAt A s u v (eqV y x):=by
 cases y with
 | non=>
  cases Y
  cases x with
  | non=>cases J;exact SeqAt.EqAt.same _
  | bl b=>cases J;exact SeqAt.EqAt.none_bool b
  | int b=>obtain⟨t,rfl⟩:=J;exact SeqAt.EqAt.none_int b t
  | str b=>obtain⟨t,rfl⟩:=J;exact SeqAt.EqAt.none_str b t
  | _=>exact absurd (show false=true from fx) Uu
 | bl a=>
  cases Y
  cases x with
  | non=>cases J;exact SeqAt.EqAt.bool_none a
  | bl b=>cases J;exact SeqAt.EqAt.bool_bool a b
  | int b=>obtain⟨t,rfl⟩:=J;exact SeqAt.EqAt.bool_int a b t
  | str b=>obtain⟨t,rfl⟩:=J;exact SeqAt.EqAt.bool_str a b t
  | _=>exact absurd (show false=true from fx) Uu
 | int a=>
  obtain⟨U,rfl⟩:=Y
  cases x with
  | non=>cases J;exact SeqAt.EqAt.int_none a U
  | bl b=>cases J;exact SeqAt.EqAt.int_bool a U b
  | int b=>obtain⟨t,rfl⟩:=J;exact SeqAt.EqAt.int_int a U b t
  | str b=>obtain⟨t,rfl⟩:=J;exact SeqAt.EqAt.int_str a U b t
  | _=>exact absurd (show false=true from fx) Uu
 | str a=>
  obtain⟨U,rfl⟩:=Y
  cases x with
  | non=>cases J;exact SeqAt.EqAt.str_none a U
  | bl b=>cases J;exact SeqAt.EqAt.str_bool a U b
  | int b=>obtain⟨t,rfl⟩:=J;exact SeqAt.EqAt.str_int a U b t
  | str b=>obtain⟨t,rfl⟩:=J;exact SeqAt.EqAt.str_str a U b t
  | _=>exact absurd (show false=true from fx) Uu
 | _=>exact absurd (show false=true from fy) Uu
def eqU(x:V)(u:Value):Bool:=match u with
 | .none=>eqV .non x
 | .bool b=>eqV (.bl b) x
 | .int i _=>eqV (.int i) x
 | .str z _=>eqV (.str z) x
 | _=>false
theorem HH{x y:V}{u:Value}(r:RelV y u)(f:nS y=true):eqU x u=eqV y x:=by
 cases y with
 | non=>cases r;rfl
 | bl b=>cases r;rfl
 | int i=>obtain⟨t,rfl⟩:=r;rfl
 | str z=>obtain⟨t,rfl⟩:=r;rfl
 | _=>exact absurd (show false=true from f) Uu
theorem rq{x:V}:∀{xs:List V} {us:List Value},Vals xs us->xs.all nS=true->us.any (eqU x)=xs.any λy=>eqV y x
 | _,_,.nil,_=>rfl
 | y::xs,u::us,.cons r t,f=>by
  rw[Wd,VH] at f
  rw[WK,WK,HH r f.1,rq t f.2]
theorem pF{A:Around}{s:Shared}{x:V}{v:Value}(J:RelV x v)(U:nS x=true):∀{xs:List V} {us:List Value},Vals xs us->xs.all nS=true->∀u∈us,SeqAt.EqAt A s u v (eqU x u)
 | _,_,.nil,_=>λu hu=>by cases hu
 | y::xs,u::us,.cons r t,f=>λY hu=>by
  rw[Wd,VH] at f
  rcases Um.mp hu with rfl | hu
  ·rw[HH r f.1];exact Nr r J f.1 U
  ·exact pF J U t f.2 Y hu
def inV(x:V)(xs:List V):Bool:=xs.any λy=>eqV y x
def rIn(K:Fa)(neg:Bool):R2:=λx y H Q=>∃p xs,y=.ref p/\(SqL K H p xs\/SqT K H p xs)/\nS x=true/\xs.all nS=true/\Q (.bl (if neg then !inV x xs else inV x xs)) H
theorem zd:OpR X (compareOp .In) (rIn X.K false):=by
 intro pins s σ H x y v u Q I Y ry h
 obtain⟨p,xs,rfl,hq,fx,fs,q⟩:=h
 cases ry
 rcases hq with hq | hq
 ·obtain⟨J,r,pl,hz⟩:=I.list hq
  refine SeqAt.in_listAt (eqU x) pl.isList (λw U=>pF Y fx r fs w (by simpa using U)) ⟨.bl _,H,I,rfl, ?_⟩
  rw[show J.toArray.any (eqU x)=J.any (eqU x) by simp,rq r fs]
  exact q
 ·obtain⟨J,r,pl,hz⟩:=I.tuple hq
  refine SeqAt.in_tupleAt (eqU x) pl (λw U=>pF Y fx r fs w (by simpa using U)) ⟨.bl _,H,I,rfl, ?_⟩
  rw[show J.toArray.any (eqU x)=J.any (eqU x) by simp,rq r fs]
  exact q
theorem CG:OpR X (compareOp .NotIn) (rIn X.K true):=by
 intro pins s σ H x y v u Q I Y ry h
 obtain⟨p,xs,rfl,hq,fx,fs,q⟩:=h
 cases ry
 rcases hq with hq | hq
 ·obtain⟨J,r,pl,hz⟩:=I.list hq
  refine SeqAt.notIn_listAt (eqU x) pl.isList (λw U=>pF Y fx r fs w (by simpa using U)) ⟨.bl _,H,I,rfl, ?_⟩
  rw[show J.toArray.any (eqU x)=J.any (eqU x) by simp,rq r fs]
  exact q
 ·obtain⟨J,r,pl,hz⟩:=I.tuple hq
  refine SeqAt.notIn_tupleAt (eqU x) pl (λw U=>pF Y fx r fs w (by simpa using U)) ⟨.bl _,H,I,rfl, ?_⟩
  rw[show J.toArray.any (eqU x)=J.any (eqU x) by simp,rq r fs]
  exact q
theorem iG.or{f:Value}{r J:List V->Hp->VK->Prop}(h:iG X f r)(h':iG X f J):iG X f (λxs H Q=>r xs H Q\/J xs H Q):=by
 intro pins s σ H xs us Q I U q
 rcases q with q | q
 ·exact h pins s σ H xs us Q I U q
 ·exact h' pins s σ H xs us Q I U q
theorem iU:iG X (.type "list") (λxs H Q=>∃p ys,xs=[.ref p]/\(SqL X.K H p ys\/SqT X.K H p ys)/\∀l,H l=none->Q (.ref l) (upd H l (.lst ys))):=by
 intro pins s σ H xs us Q I r h
 obtain⟨p,ys,rfl,hq,q⟩:=h
 obtain⟨u,rfl,rx⟩:=vals1 r
 cases rx
 have ab:∀(J:List Value),Vals ys J->ys.length<=sizeLine->∀(h':Heap) (U:Nat),(∀b o',s.heap.get? b=some o'->h'.get? b=some o')->
  h'.get? s.heap.objs.size=some {cls:=.type "list",dict:=none,data:=.seq J.toArray U,slots:= #[]}->EP X pins σ Q (.ref s.heap.objs.size) {s with heap:=h'}:=λJ Y hz h' U kp e=>
  ⟨.ref s.heap.objs.size,_,I.laid (t':=s.toks) kp (Ud _) (show gS X.prog X.w _ h' _ (.lst ys) from ⟨hz,J,U,Y,e⟩),rfl,q _ (I.hok.fresh (Ud _))⟩
 rcases hq with hq | hq
 ·obtain⟨J,Y,pl,hz⟩:=I.list hq
  have ac:=Y.length
  obtain⟨o,ho,hc,n,hd⟩:=pl.isList
  exact call_list_seq p (.inl rfl) ho hc hd (λh' U kp e=>ab J Y hz h' U kp e) (by simp only[Up] <;> omega)
 ·obtain⟨J,Y,pl,hz⟩:=I.tuple hq
  have ac:=Y.length
  obtain⟨o,ho,hc,n,hd⟩:=pl
  exact call_list_seq p (.inr rfl) ho hc hd (λh' U kp e=>ab J Y hz h' U kp e) (by simp only[Up] <;> omega)
def tyV(K:Fa)(T:String)(x:V)(H:Hp):Prop:=match x with
 | .str _=>T="str"
 | .int _=>T="int"
 | .ref p=>(T="list" /\∃xs,SqL K H p xs)\/(T="tuple" /\∃o,K.lookup p=some o/\o.cls=.type "tuple" /\o.dict=none)\/
  (T="dict" /\((∃J,H p=some (.dK J))\/∃J,H p=some (.dT J)))\/(T="set" /\∃S n,H p=some (.set S n))
 | _=>False
theorem NU{pins:List (Addr×Obj)}{σ:St}{H:Hp}{s:Shared}{T:String}{x:V}{v:Value}(I:Inv X pins σ H s)(r:RelV x v)(ty:tyV X.K T x H):
 s.TypeIs v T/\∀a,v=.ref a->∃U,s.heap.get? a=some U/\U.dict=none:=by
 cases x with
 | str z=>
  obtain⟨t,rfl⟩:=r
  cases (show T="str" from ty)
  exact⟨typeIs_str s z t,λ_ e=>nomatch e⟩
 | int i=>
  obtain⟨t,rfl⟩:=r
  cases (show T="int" from ty)
  exact⟨typeIs_int s i t,λ_ e=>nomatch e⟩
 | ref p=>
  cases r
  rcases ty with⟨rfl,xs,hq⟩ | ⟨rfl,o,hk,hc,hd⟩ | ⟨rfl,hk⟩ | ⟨rfl,S,n,hk⟩
  ·obtain⟨Y,_,pl,_⟩:=I.list hq
   refine⟨pl.isList.typeIs,λa e=> ?_⟩
   cases e
   obtain⟨o,n,e,c,hd,_⟩:=pl
   exact⟨o,e,hd⟩
  ·refine⟨⟨o,I.kIn p o hk,hc⟩,λa e=> ?_⟩
   cases e
   exact⟨o,I.kIn _ o hk,hd⟩
  ·have z:∃o,s.heap.get? p=some o/\o.ExactDict:=by
    rcases hk with⟨J,hk⟩ | ⟨J,hk⟩
    ·obtain⟨_,_,_,_,o,_,_,e,ex,_⟩:=I.hok p _ hk
     exact⟨o,e,ex⟩
    ·obtain⟨_,_,_,_,o,_,_,e,ex,_⟩:=I.hok p _ hk
     exact⟨o,e,ex⟩
   obtain⟨o,e,ex⟩:=z
   refine⟨⟨o,e,ex.1⟩,λa e2=> ?_⟩
   cases e2
   exact⟨o,e,ex.2.1⟩
  ·obtain⟨o,_,_,_,e,ex,_⟩:=I.hok p _ hk
   refine⟨⟨o,e,ex.1⟩,λa e2=> ?_⟩
   cases e2
   exact⟨o,e,ex.2.1⟩
 | _=>exact Fk ty
def tBM(K:Fa)(T:String)(r:V->List V->Hp->VK->Prop)(to:TE)(t:TA):TE:=λσ H Q=>to σ H λx H1=>tyV K T x H1/\t σ H1 λxs H2=>r x xs H2 Q
variable {o e : Expr} {es : List Expr} {to : TE} {t : TA} {name : Str} {apos cpos : Pos} {T id : String} {r : V → List V → Hp → VK → Prop}
theorem lK (pa:PlainAttrs T) (slot:Slot T name id) (ac:typeOf (.builtin id)=pure (.type "method_descriptor")) (hm:MtR X id r) (ho:PE X o to) (ha:PA X (e::es) t)
 (U:attributeBase o name X.env (eval o X.env)=eval o X.env:=by rfl)
 (ab:((backTo cpos (starEach (e::es) X.env)).all (λx=> !x.1)&&(backToKw cpos (keywordEach [] X.env)).all (λx=>x.1.isSome)
  &&decide ((e::es).length+([]:List Keyword).length+(if ([]:List Keyword).isEmpty then 0 else 1)<30))=true:=by rfl)
 (Y:(apos.endLine == cpos.line)=true:=by rfl) (hs:starEach (e::es) X.env=(false,eval e X.env)::starEach es X.env:=by rfl) (J:(backTo cpos (starEach es X.env)).any (·.1)=false:=by rfl):
 PE X (.Call (.Attribute o name apos) (e::es) [] cpos) (tBM X.K T r to t):=by
 intro pins s σ H Q I h
 refine wpAny_Call_method_late U ab Y rfl (thn (ho pins s σ H _ I h) λv s1 ⟨x,H1,I1,r1,ty,q1⟩=> ?_)
 obtain⟨h1,h2⟩:=NU I1 r1 ty
 refine⟨T,id,pa,slot,ac,h1,h2, ?_⟩
 have hA:=ha cpos pins s1 σ H1 _ I1 q1
 rw[hs] at hA ⊢
 refine Calls.callWith_builtin (by show (false||(backTo cpos (starEach es X.env)).any (·.1))=false;rw[J] <;> rfl) (Calls.evalArgs_plain ?_)
 exact thn hA λus s2 ⟨vs,H2,I2,r2,q2⟩=>hm pins s2 σ H2 x vs v us Q I2 r1 r2 q2
end
def MtM(X:Cx)(id:String)(r:V->List V->Hp->VK->Prop):Prop:=
 ∀(pins:List (Addr×Obj)) (s:Shared) (σ:St) (H:Hp) (x:V) (xs:List V) (v:Value) (us:List Value) (Q:VK),Inv X pins σ H s->RelV x v->Vals xs us->r x xs H Q->
  wpAny (model X.prog X.w) X.A (call (.builtin id) (v::us)) (EP X pins σ Q) X.xe s
theorem Vals.one:∀{x:V} {us:List Value},Vals [x] us->∃u,us=[u]/\RelV x u
 | _,_,.cons r .nil=>⟨_,rfl,r⟩
theorem Vals.two:∀{x y:V} {us:List Value},Vals [x,y] us->∃u v,us=[u,v]/\RelV x u/\RelV y v
 | _,_,_,.cons r (.cons q .nil)=>⟨_,_,rfl,r,q⟩
theorem Vals.zero:∀{us:List Value},Vals [] us->us=[]
 | _,.nil=>rfl
theorem Vals.eraseIdx:∀{xs:List V} {us:List Value} (i:Nat),Vals xs us->Vals (xs.eraseIdx i) (us.eraseIdx i)
 | _,_,_,.nil=>.nil
 | _,_,0,.cons _ t=>t
 | _,_,i+1,.cons r t=>.cons r (Vals.eraseIdx i t)
theorem Vals.reverse{xs:List V}{us:List Value}(h:Vals xs us):Vals xs.reverse us.reverse:=by
 induction h with
 | nil=>exact .nil
 | cons r t J=>rw[VT,VT];exact Vals.append J (.cons r .nil)
theorem Vals.rep{xs:List V}{us:List Value}(h:Vals xs us):∀k:Nat,Vals (Uo k xs).flatten (Uo k us).flatten
 | 0=>.nil
 | k+1=>by
  rw[U0,U0,Vr,Vr]
  exact Vals.append h (Vals.rep h k)
theorem zk{α:Type}:∀(l:List α) (i:Nat),(l.eraseIdx i).length<=l.length
 | [],_=>Ud _
 | _::_,0=>WE _
 | _::r,i+1=>Nat.succ_le_succ (zk r i)
theorem foldl_rep(J:List Value):∀(k:Nat) (U:List Value),
 XX (λY x2=>Y++x2) U.toArray (Uo k J.toArray)=(U++(Uo k J).flatten).toArray
 | 0,U=>by simp
 | k+1,U=>by
  have e:U.toArray++J.toArray=(U++J).toArray:=by simp
  have e2:(U++J)++(Uo k J).flatten=U++(Uo (k+1) J).flatten:=by
   rw[U0,Vr,UX]
  rw[<- e2,<- foldl_rep J k (U++J),<- e,U0,Vn]
section
variable {X : Cx} {pins : List (Addr × Obj)} {σ : St} {H : Hp} {s : Shared} {l b : Addr} {xs ys zs : List V}
theorem Inv.lset {J its':List Value} {n:Nat} {f:Array Value->Array Value} {t':Nat} (I:Inv X pins σ H s) (U:H l=some (.lst xs))
 (e:s.heap.get? l=some {cls:=.type "list",data:=.seq J.toArray n}) (Y:f J.toArray=its'.toArray) (hv:Vals ys its') (hz:ys.length<=sizeLine):
 Inv X pins σ (upd H l (.lst ys)) {s with heap:=s.heap.update l (Obj.mapSeq f),toks:=t'}:=by
 have q:=PySem.IsL.update e f
 rw[Y] at q
 refine I.write (x:=l) (e:=l) (by rw[U];exact trivial) (.inl rfl) (λb' u hb hu=>(Heap.get?_update_other s.heap (Obj.mapSeq f) (Wi hb)).trans hu) ⟨_,q⟩ ?_
 exact⟨hz,its',_,hv,q⟩
theorem Inv.lnew{J:List Value}{t':Nat}(I:Inv X pins σ H s)(U:Vals ys J)(hz:ys.length<=sizeLine):
 Inv X pins σ (upd H s.heap.objs.size (.lst ys)) {s with heap:=s.heap.push {cls:=.type "list",data:=.seq J.toArray},toks:=t'}:=
 I.laid (λ_ _ q=>Heap.get?_push_of_some _ q) (Ud _) ⟨hz,J,0,U,Heap.get?_push_size _ rfl⟩
theorem Inv.fresh(I:Inv X pins σ H s):H s.heap.objs.size=none:=I.hok.fresh (Ud _)
theorem Inv.lstM(I:Inv X pins σ H s)(U:H l=some (.lst xs)):xs.length<=sizeLine/\∃(J:List Value) (n:Nat),Vals xs J/\xs.length=J.length/\s.heap.get? l=some {cls:=.type "list",data:=.seq J.toArray n}:=by
 obtain⟨z,J,n,r,e⟩:=I.hok l _ U
 exact⟨z,J,n,r,r.length,e⟩
theorem Jd{n:Nat}(h:n<=sizeLine):Builtin.List.listTooLong n=false:=by
 unfold Builtin.List.listTooLong
 exact decide_eq_false (by omega)
end
section
variable {X : Cx}
def D5:V->List V->Hp->VK->Prop:=λx vs H Q=>∃l xs y,x=.ref l/\vs=[y]/\H l=some (.lst xs)/\xs.length<sizeLine/\Q .non (upd H l (.lst (xs++[y])))
theorem fV:MtM X "list.append" D5:=by
 intro pins s σ H x vs v us Q I Y rv h
 obtain⟨l,xs,y,rfl,rfl,U,hz,q⟩:=h
 cases Y
 obtain⟨u,rfl,ru⟩:=rv.one
 obtain⟨z,J,n,r,hl,e⟩:=I.lstM U
 refine call_meets F.slot_list_append ⟨_,e,rfl⟩ F.entry_list_append (F.args_list_append_2 _ _) (PySem.list_append l J.toArray n u (by rw[Up];omega)) ⟨e, ?_⟩
 refine⟨.non,_,I.lset (its':=J++[u]) U e (by simp) (r.append (.cons ru .nil)) ?_,rfl,q⟩
 rw[Uv,UM]
 omega
def HM:V->List V->Hp->VK->Prop:=λx vs H Q=>∃l xs i k y,x=.ref l/\vs=[.int i]/\H l=some (.lst xs)/\ -(2^63)<=i/\i<2^63/\seqIndex? i xs.length=some k/\xs[k]? =some y/\Q y (upd H l (.lst (xs.eraseIdx k)))
theorem Jr:MtM X "list.pop" HM:=by
 intro pins s σ H x vs v us Q I rx rv h
 obtain⟨l,xs,i,k,y,rfl,rfl,Y,h1,h2,hk,hy,q⟩:=h
 cases rx
 obtain⟨u,rfl,ru⟩:=rv.one
 obtain⟨t,rfl⟩:=ru
 obtain⟨z,J,n,r,hl,e⟩:=I.lstM Y
 obtain⟨w,hw,U⟩:=r.get hy
 refine call_meets F.slot_list_pop ⟨_,e,rfl⟩ F.entry_list_pop (F.args_list_pop_2 _ _)
  (MeetsSeq.list_pop_at l J.toArray n i t k w (fitsIndex_both h1 h2) (by rw[Up,<- hl];exact hk) (by rw[<- VX];exact hw) (by rw[Up];omega)) ⟨e, ?_⟩
 refine⟨y,_,I.lset (its':=J.eraseIdx k) Y e ?_ (r.eraseIdx k) ?_,U,q⟩
 ·show J.toArray.eraseIdxIfInBounds k=(J.eraseIdx k).toArray
  rw[List.eraseIdxIfInBounds_toArray]
 ·have:=zk xs k
  omega
def JK:R2:=λx y H Q=>∃l k xs,x=.ref l/\y=.int k/\H l=some (.lst xs)/\ -(2^63)<=k/\k<2^63/\xs.length*k.toNat<=sizeLine/\
 ∀p,H p=none->Q (.ref p) (upd H p (.lst (Uo k.toNat xs).flatten))
theorem len_rep{α:Type}(xs:List α)(k:Nat):(Uo k xs).flatten.length=k*xs.length:=by
 induction k with
 | zero=>simp
 | succ k J=>rw[U0,Vr,Uv,J,Nat.succ_mul,Nat.add_comm]
theorem Hw:OpR X (binaryOp .Mult) JK:=by
 intro pins s σ H x y v u Q I rx ry h
 obtain⟨l,k,xs,rfl,rfl,hH,h1,h2,hz,q⟩:=h
 cases rx
 obtain⟨t,rfl⟩:=ry
 obtain⟨z,J,n,r,hl,e⟩:=I.lstM hH
 have Y:J.toArray.size*k.toNat<=sizeLine:=by rw[Up,<- hl];exact hz
 have ab:¬J.toArray.size*k.toNat>(2^63-1)/8:=by
  have:(sizeLine:Nat)<=(2^63-1)/8:=by decide
  omega
 have ac:¬(!Builtin.List.listFitsIndex k)=true:=by
  rw[fitsIndex_both h1 h2]
  exact Uu
 have U:¬Builtin.List.listTooLong (J.toArray.size*k.toNat)=true:=by
  rw[Jd Y]
  exact Uu
 have am:XX (λx1 x2=>x1++x2) #[] (Uo (if J.toArray.isEmpty=true then 0 else k.toNat) J.toArray)=(Uo k.toNat J).flatten.toArray:=by
  have f0:∀m:Nat,XX (λx1 x2=>x1++x2) #[] (Uo m J.toArray)=(Uo m J).flatten.toArray:=λm=>by
   have:=foldl_rep J m []
   rw[Uw] at this
   exact this
  rw[f0]
  cases J with
  | nil=>simp
  | cons a r'=>rw[if_neg (by simp)]
 refine wpAny_binaryOp_repeat_ref (T:="list") (U:="int") (by decide) ⟨_,e,rfl⟩ (λs'=>typeIs_int s' k t) noFill_list_mul F.fills_int_mul F.slot_int_rmul repeat_list F.slot_int_index.lookup
  (call_meets F.slot_int_rmul (typeIs_int s k t) F.entry_int_rmul (F.args_int_rmul_2 _ _) (int___rmul___int_list k t l J.toArray n)
   ⟨e,rfl,⟨_,e,rfl⟩,call_meets F.slot_list_mul ⟨_,e,rfl⟩ F.entry_list_mul (F.args_list_mul_2 _ _) (AutoListH.list___mul___list_int_3 l J.toArray n k t ac ab U) ⟨e, ?_⟩⟩)
 rw[am]
 exact⟨.ref _,_,I.lnew (t':=s.toks) (r.rep k.toNat) (by rw[len_rep,WU];exact hz),rfl,q _ I.fresh⟩
end
section
variable {prog : Program} {w : World} {A : Around} {E : Value → Shared → Prop} {s : Shared}
end
section
variable {X : Cx}
end
end L2
namespace Att
open PySem PySem.W PySem.Calls PyProof.Rows
theorem xI{P:Params}{h:Heap}:∀(ns:List Int) (vs:List Value),WellAll P h vs (ns.map WData.int)->IntsAre vs ns:=by
 intro ns
 induction ns with
 | nil=>
  intro vs w
  rw[U1] at w
  cases w
  exact .nil
 | cons n ns J=>
  intro vs w
  rw[Uk] at w
  cases w with
  | cons a b=>
   cases a
   exact .cons _ _ (J _ b)
theorem HI {l:OpenLaw} {n:Nat} (hn:l.most=some n) {P:Params} {h:Heap} {args:List WData} {J:List Value}
 (U:l.row.toRowW.claim.pre args=true) (an:WellAll P h J args):
 ∃a vs ns,J=[Value.ref a]/\args=[WData.list (ns.map WData.int)]/\h.get? a=some {cls:=.type "list",data:=.seq vs.toArray}/\IntsAre vs ns/\ns.length<=n:=by
 have ap:WShape.hasAll [] args [.list .int]=true:=(pre_splitW U).1
 have hc:l.pre.holds [] {args:=args}=true:=(pre_splitW U).2
 obtain⟨d,r,rfl,h1,h2⟩:=hasAllW_cons ap
 obtain rfl:=hasAllW_nil h2
 obtain⟨xs,rfl,h3⟩:=hasW_list h1
 obtain⟨ns,rfl⟩:=items_int h3
 have Y:ns.length<=n:=by
  unfold OpenLaw.pre at hc
  have h4:(WTm.not (.lt (.lit (.int (n:Int))) (.len (.arg 0)))).holds [] {args:=[.list (ns.map .int)]}=true:=by
   have h4:=(holds_andW hc).1
   rw[hn] at h4
   exact h4
  have h5:=condW_of h4 (w_not (w_lt w_lit (w_len_list (w_arg rfl))))
  rw[T3] at h5
  refine Nat.le_of_not_lt λq=> ?_
  have q':(n:Int)<((ns.length:Nat):Int):=by omega
  first
   | (rw[decide_eq_true q'] at h5;exact absurd h5 (by decide))
   | (simp at h5;omega)
 cases an with
 | cons w1 w2=>
  cases w2
  cases w1 with
  | list ho ab=>exact⟨_,_,ns,rfl,rfl,ho,xI ns _ ab,Y⟩
theorem Gd(l:OpenLaw)(args:List WData):l.row.toRowW.claim.post args (.bool true) args=true:=
 postW_of (r:=l.row.toRowW) (X:=(true == true))
  (show WShape.has [] (.bool true) .bool=true by first | rfl | decide | simp[WShape.has,WShape.arms,WShape.armsAll])
  (show (WTm.eq .res (.lit (.bool true))).value [] {args:=args,res:=some (.bool true),after:=args}=some (.bool (true == true)) from w_eq_bool (w_res rfl) w_lit) rfl
theorem CZ {l:OpenLaw} {n:Nat} {q:Program} {J:List Str} {XP:(Str->Option Value)->Heap->Prop} {YP:World->Heap->Prop} {d:DefRec}
 (hn:l.most=some n) (a0:d.params.defaults=[])
 (call:∀(w:World) (s₀ U:Shared) (mg mb:Str->Option Value) (fa:Addr) (o:Obj) (pm cd ab:Value) (a:Addr) (vs:List Value) (ns:List Int),
  Ground q J [] XP w s₀ mg mb U.heap->YP w U.heap->
  U.heap.get? fa=some o->o.data=.func (docDef d.name d.params d.body d.scope pm cd ab)->U.heap.CodeRec cd d.name->mg d.name=some (.ref fa)->
  U.heap.get? a=some {cls:=.type "list",data:=.seq vs.toArray}->IntsAre vs ns->ns.length<=n->U.gens= #[]->
  codeAny (model l.prog w) callerA (.call (.ref fa) ⟨[.ref a],[]⟩) (λr s'=>r=.ok (.ret (.bool true))/\OldK U.heap s'.heap/\s'.os=U.os/\AllBare s'.gens) U):
 WalkO q J XP YP l.row.toRowW d [] (λf vs=>XY f vs):=by
 intro w s₀ U mg mb G Y fa o pm cd ab dV kV ho hd a2 hD a3 hg args a8 as an a9 bi a4 bm
 obtain rfl:dV=.none:=Dflts.none hD a0
 obtain rfl:kV=.none:=Dflts.noKw hD
 obtain⟨a,vs,ns,rfl,rfl,ap,ac,az⟩:=HI hn an a4
 refine enter_call (codeAny_mono (call w s₀ U mg mb fa o pm cd ab a vs ns G Y ho (fd_plain hd) a2 a3 ap ac az hg) λr s' hq=> ?_)
 obtain⟨rfl,h2,h3,h4⟩:=hq
 exact⟨.inl ⟨.bool true,.bool true,[],rfl,λ_=>rfl,.bool true,Gd l _,λ_=>⟨XG,λ_ hm=>(nomatch hm)⟩⟩,h2,h3,h4⟩
section
variable {prog : Program} {w : World} {A : Around} {E : Value → Shared → Prop} {s : Shared} {K : Frag}
end
end Att
namespace L2
open PySem PySem.Spec PyProof.Rows
theorem zT:∀{vs:List Value} {ns:List Int},IntsAre vs ns->Vals (ns.map V.int) vs
 | _,_,.nil=>.nil
 | _,_,.cons n t h=>.cons ⟨t,rfl⟩ (zT h)
def FQ(H:Hp):Prop:=∀b,H b=none\/∃o xs,H b=some (.frz o (.lst xs))
theorem Jg {P:Program} {w:World} {K:Fa} {mg mb:Str->Option Value} {CX:CXT} {k:Nat} {fa a:Addr} {fd:FuncData} {x:Str} {sp:Sp} {J:Shared} {vs:List Value} {ns:List Int}
 (KX:K.In J.heap) (an:J.heap.Ns mainGlobals mg) (hb:J.heap.Ns builtinsNs mb) (a6:∀x:Str,x≠"__name__" ->mb x=bootBuiltins x) (ap:J.heap.NoLimit) (Y:J.heap.NoSeer) (hg:J.gens= #[])
 (ha:J.heap.get? a=some {cls:=.type "list",data:=.seq vs.toArray}) (hi:IntsAre vs ns) (hl:ns.length<=sizeLine) (hr:eL k callerA)
 (F:∀base:Heap,K.In base->base.Ns mainGlobals mg->gH P w K mg base CX k fa fd [x] sp) (am:∀(s:Shared) (u:Value),BindsTo s fd ⟨[u],[]⟩ [(x,u)])
 (a7:∀H:Hp,FQ H->SqL K H a (ns.map V.int)->sp [.ref a] H (λv _=>v=.bl true) λ_ _ _=>False)
 (a8:∀H e s',CX [] H J (λ_ _ _=>False) e s'->False):
 codeAny (model P w) callerA (.call (.ref fa) ⟨[.ref a],[]⟩) (λr s'=>r=.ok (.ret (.bool true))/\OldK J.heap s'.heap/\s'.os=J.os/\AllBare s'.gens) J:=by
 have rv:=zT hi
 have as:=hi.length
 have ac:∀H:Hp,FQ H->SqL K H a (ns.map V.int)->HOk P w H J.heap->(∀b,H b≠none->b=a)->(H a≠none->K.lookup a=none)->
  codeAny (model P w) callerA (.call (.ref fa) ⟨[.ref a],[]⟩) (λr s'=>r=.ok (.ret (.bool true))/\OldK J.heap s'.heap/\s'.os=J.os/\AllBare s'.gens) J:=by
  intro H hO hS az hA hK
  have U:∀{b:Addr} {o:Obj},J.heap.get? b=some o->H b=none->(qI J.heap H).get? b=some o:=λe n=>IS e n
  have bb:∀{b:Addr} {o:Obj} {es:Array DictEntry} {ep:Nat},J.heap.get? b=some o->o.data=.dict es ep->H b=none:=λ{b o es ep} e d=>by
   cases q:H b with
   | none=>rfl
   | some u=>
    have e':b=a:=hA b (by rw[q];simp)
    subst e'
    rw[ha] at e;cases e
    have d':Data.seq vs.toArray _=Data.dict es ep:=d
    cases d'
  have ab:∀{b:Addr} {m:Str->Option Value},J.heap.Ns b m->(qI J.heap H).Ns b m:=λ{b m} ⟨o,es,ep,e,d,r⟩=>⟨o,es,ep,U e (bb e d),d,r⟩
  have a1:K.In (qI J.heap H):=λb o e=>U (KX b o e) (by
   cases q:H b with
   | none=>rfl
   | some u=>
    have e':b=a:=hA b (by rw[q];simp)
    subst e'
    rw[hK (by rw[q];simp)] at e;cases e)
  have bd:∀{b:Addr} {o:Obj},J.heap.get? b=some o->o.cls=.type "module" ->H b=none:=λ{b o} e d=>by
   cases q:H b with
   | none=>rfl
   | some u=>
    have e':b=a:=hA b (by rw[q];simp)
    subst e'
    rw[ha] at e;cases e
    exact absurd (show Value.type "list" =Value.type "module" from d) (by decide)
  have hN:(qI J.heap H).NoSeer:=⟨let ⟨mc,x,y⟩:=Y.statics;⟨mc,ab x,y⟩,let ⟨mc,x,y⟩:=Y.mods;⟨mc,ab x,y⟩,let ⟨mc,x,y⟩:=Y.imp;⟨mc,ab x,y⟩,let ⟨mg',bm,ob,x,y,z,u,v⟩:=Y.main;⟨mg',bm,ob,ab x,y,U z (bd z u),u,v⟩⟩
  have hM:Mod K mg (qI J.heap H):=⟨a1,ab an,⟨mb,ab hb,a6⟩,(let ⟨mc,h1,h2⟩:=ap;⟨mc,ab h1,h2⟩),hN⟩
  have e0:qB P w K mg (qI J.heap H) callerA [] J H:=⟨rfl,hM,λb o e=>Lj e,Nat.le_of_eq (Ge _ _),trivial,λb hb=>absurd (show b∈([]:List Addr) from hb) (by simp),az,.of_eq hg⟩
  refine codeAny_mono ((F _ a1 (ab an)).run callerA [] J H ⟨[.ref a],[]⟩ [.ref a] [.ref a] _ _ hr e0 (am J (.ref a)) (.cons rfl .nil) (a7 H hO hS)) λr s' h=> ?_
  cases r with
  | error e=>exact(a8 H e s' h).elim
  | ok fl=>
   cases fl with
   | next=>exact Fk h
   | brk=>exact Fk h
   | cont=>exact Fk h
   | ret u=>
    obtain⟨v,H',os,a2,un,a3,r',q⟩:=h
    have q':v=.bl true:=q
    subst q'
    obtain rfl:u=Value.bool true:=r'
    refine⟨rfl,OldK.of_keep λb o e=> ?_,os,a2⟩
    cases q:H b with
    | none=>exact un.keep b o e q (by intro z;exact absurd (show b∈([]:List Addr) from z) (by simp)) (by simp)
    | some u=>
     rcases hO b with z | ⟨ob,xs,z⟩
     ·rw[q] at z;cases z
     ·have z2:=un.frzs b ob _ z
      obtain⟨e1,_⟩:=az b _ z
      obtain⟨e2,_⟩:=a3 b _ z2
      rw[e] at e1;cases e1
      exact e2
 cases hk:K.lookup a with
 | some o=>
  have e:=KX a o hk
  rw[ha] at e
  cases e
  refine ac (λ_=>none) (λ_=>.inl rfl) (.inr ⟨_,vs.toArray,_,hk,rfl,rfl,rfl,by rw[Up,as];exact hl,by simpa using rv⟩) (λb u z=>by have z':(none:Option HO)=some u:=z;cases z') (λb z=>absurd rfl z) λz=>absurd rfl z
 | none=>
  refine ac (λb=>if b=a then some (.frz {cls:=.type "list",data:=.seq vs.toArray} (.lst (ns.map V.int))) else none) (λb=> ?_) (.inl (.inr ⟨{cls:=.type "list",data:=.seq vs.toArray},if_pos rfl⟩)) (λb u z=> ?_) (λb z=> ?_) λ_=>hk
  ·by_cases hb:b=a
   ·exact .inr ⟨_,_,if_pos hb⟩
   ·exact .inl (if_neg hb)
  ·by_cases hb:b=a
   ·have z':=(if_pos hb).symm.trans z
    cases z'
    subst hb
    exact⟨ha,by rw[T3];exact hl,vs,_,rv,ha⟩
   ·have z':=(if_neg hb).symm.trans z
    cases z'
  ·by_cases hb:b=a
   ·exact hb
   ·exact absurd (if_neg hb) z
theorem K9 {l:Xb} {n k:Nat} {q:Program} {U:List Str} {XP:(Str->Option Value)->Heap->Prop} {YP:World->Heap->Prop} {d:DefRec} {K:Params->Fa} {CX:World->CXT} {sp:World->Sp} {x:Str}
 (hn:l.most=some n) (an:n<=sizeLine) (ap:d.params.defaults=[]) (hr:eL k callerA) (hi:importsNone q=true)
 (hY:∀(w:World) (h:Heap),YP w h->(K w.params).In h)
 (F:∀(w:World) (mg:Str->Option Value) (fa:Addr) (h:Heap),(K w.params).In h->h.Ns mainGlobals mg->mg d.name=some (.ref fa)->
  ∃fd:FuncData,(∀(s:Shared) (u:Value),BindsTo s fd ⟨[u],[]⟩ [(x,u)])/\
   ∀base:Heap,(K w.params).In base->base.Ns mainGlobals mg->gH l.prog w (K w.params) mg base (CX w) k fa fd [x] (sp w))
 (as:∀(w:World) (H:Hp) (a:Addr) (ns:List Int),ns.length<=n->FQ H->SqL (K w.params) H a (ns.map V.int)->sp w [.ref a] H (λv _=>v=.bl true) λ_ _ _=>False)
 (az:∀(w:World) (H:Hp) (s:Shared) (e:Value) (s':Shared),CX w [] H s (λ_ _ _=>False) e s'->False):
 X5 q U XP YP l.row.toRowW d [] (λf vs=>XY f vs):=by
 refine Att.CZ hn ap λw s₀ s₁ mg mb fa o pm cd a6 a vs ns G Y ho hd a7 a0 ac ab J hg=> ?_
 have KX:=hY w _ Y
 obtain⟨fd,hb,hF⟩:=F w mg fa _ KX G.T.g a0
 exact Jg KX G.T.g G.T.b G.T.builtins G.T.nolimit (G.T.seer hi) hg ac ab (UI J an) hr hF hb (λH hO hS=>as w H a ns J hO hS) λH e s'=>az w H s₁ e s'
def inClass(s:Stmt)(j:Nat):Stmt:=match s with
 | .ClassDef _ _ _ body _ _ _ _ _ _ _=>body.getD j (.Pass ⟨0,0,0,0⟩)
 | _=>.Pass ⟨0,0,0,0⟩
def bg(s:Stmt):Arguments:=match s with
 | .FunctionDef _ a _ _ _ _ _ _ _ _=>a
 | _=>{posonlyargs:=[],args:=[],vararg:=none,kwonlyargs:=[],kw_defaults:=[],kwarg:=none,defaults:=[]}
def aZ(s:Stmt):List Stmt:=match s with
 | .FunctionDef _ _ b _ _ _ _ _ _ _=>b
 | _=>[]
def aw(s:Stmt):Scope:=match s with
 | .FunctionDef _ _ _ _ _ _ J _ _ _=>J
 | _=>{kind:=.function,names:=[],isGenerator:=false,isCoroutine:=false}
abbrev CX0:CXT:=λ_ _ _ _ _ _=>False
abbrev E0:XK:=λ_ _ _=>False
structure Fun(K:Fa)(x qual:Str)(st:Stmt)(f:Addr)(fd:FuncData):Prop where
 ex:∃(oc:Value) (od:Option Addr) (kV doc pm:Value) (an:Option Addr) (cdv ct:Value) (osl:Array (Option Value)),
  fd=Ue x qual (bg st) (aZ st) (aw st) .none kV doc pm an cdv ct/\K.lookup f=some ⟨oc,od,.func fd,osl⟩/\Ua K cdv qual=true
 kp:T8 K (.ref f)=true
section
variable {P : Program} {w : World} {K : Fa} {mg : Str → Option Value} {base : Heap}
theorem Fun.ok {x qual:Str} {st:Stmt} {f:Addr} {fd:FuncData} {N ps:List Str} {k:Nat} {sp:Sp} (F:Fun K x qual st f fd) (S:bc N ps (aw st)) (Y:∀vs H Q E,sp vs H Q E->vs.length=ps.length)
 (U:∀(J:Value) (A:Around) (outer:List Env) (s:Shared) (H:Hp) (vs:List V) (Q:VK) (E:XK),eL k (A.deeper (envOfC qual (aw st) s.heap.objs.size f J))->sp vs H Q E->
  ∃t,PSs (tN CX0 P w K mg base N qual (aw st) f J A outer s H E).nox (aZ st) t/\t {nx:=λ_ H'=>Q .non H',rt:=Q} (start N vs) H):gH P w K mg base CX0 (k+1) f fd ps sp:=by
 obtain⟨oc,od,kV,am,pm,an,J,ct,ap,rfl,lk,ab⟩:=F.ex
 refine Kt lk ab S Y λA outer s H vs Q E hr ac=> ?_
 obtain⟨t,h,q⟩:=U J A outer s H vs Q E hr ac
 exact⟨t,h.nox,q⟩
theorem Fun.binds {x qual:Str} {st:Stmt} {f:Addr} {fd:FuncData} {ps:List Str} (F:Fun K x qual st f fd)
 (h:∀(kV J Y:Value) (an:Option Addr) (U ct:Value) (us:List Value),us.length=ps.length->bindArgs (Ue x qual (bg st) (aZ st) (aw st) .none kV J Y an U ct) ⟨us,[]⟩=pure (ps.zip us)):Binds K fd ps []:=by
 obtain⟨oc,od,kV,J,Y,an,U,ct,ac,rfl,lk,am⟩:=F.ex
 exact .all (h kV J Y an U ct)
theorem bC {x qual:Str} {st:Stmt} {f:Addr} {oc:Value} {od an:Option Addr} {Y:Array (Option Value)} {kV U pm J ct:Value} (l:K.lookup f=some ⟨oc,od,.func (Ue x qual (bg st) (aZ st) (aw st) .none kV U pm an J ct),Y⟩)
 (c:Ua K J qual=true) (k:T8 K (.ref f)=true):Fun K x qual st f (Ue x qual (bg st) (aZ st) (aw st) .none kV U pm an J ct):=⟨⟨oc,od,kV,U,pm,an,J,ct,Y,rfl,l,c⟩,k⟩
end
section
variable {X : Cx}
theorem pv (i:Nat) {x:Str} {pos:Pos} (U:X.N[i]? =some x:=by rfl) (Y:Vis X.env.scope x:=by first | exact T5 rfl | exact Vo (T5 rfl) | exact Vo (Vo rfl)) (hd:(x == ("__debug__" :Str))=false:=by decide)
 (J:(x == ("__classdict__" :Str))=false:=by decide):PE X (.Name x pos) (Jy i):=OD U Y hd J
end
theorem rG{A B:Prop}(h:B):if false=true then A else B:=by
 rw[if_neg Uu]
 exact h
theorem rF{A B:Prop}(h:A):if true=true then A else B:=by
 rw[if_pos rfl]
 exact h
def bM(H H':Hp):Prop:=∀b o,H b=some o->H' b=some o
theorem bM.refl(H:Hp):bM H H:=λ_ _ h=>h
theorem bM.trans{H H1 H2:Hp}(a:bM H H1)(b:bM H1 H2):bM H H2:=λc o h=>b c o (a c o h)
theorem bM.free{H H':Hp}(e:bM H H'){l:Addr}(h:H' l=Yh):H l=Yh:=by
 cases q:H l with
 | none=>rfl
 | some o=>
  rw[e l o q] at h
  cases h
theorem bM.seq{K:Fa}{H H':Hp}{a:Addr}{xs:List V}(e:bM H H')(h:SqL K H a xs):SqL K H' a xs:=by
 rcases h with(h | ⟨o,h⟩) | h
 ·exact .inl (.inl (e _ _ h))
 ·exact .inl (.inr ⟨o,e _ _ h⟩)
 ·exact .inr h
end L2
set_option maxHeartbeats 4000000
namespace L2
open PySem PySem.Spec PyProof.Rows
def eN(env:Env):List (Str×NameKind)->List (Str×Addr)->List (Str×Addr)
 | [],cs=>cs
 | (n,k)::r,cs=>if k == .free then eN env r ((n,(env.cells.lookup n).getD 0)::cs) else eN env r cs
theorem yy{env:Env}:∀(names:List (Str×NameKind)) (J:List (Str×Addr)),(∀n,(n,NameKind.free)∈names->∃c,env.cells.lookup n=some c)->
 (forIn names J λ(x:Str×NameKind) (r:List (Str×Addr))=>(if (x.2 == NameKind.free)=true then do
  let a <- cellOf env x.1
  pure (VN ((x.1,a)::r)) else pure (VN r):Sem (ForInStep (List (Str×Addr)))))=pure (eN env names J)
 | [],J,_=>rfl
 | (n,k)::r,J,h=>by
  rw[List.forIn_cons]
  by_cases hk:(k == NameKind.free)=true
  ·have U:k=.free:=by simpa using hk
   subst U
   obtain⟨c,hc⟩:=h n Ug
   simp only[hk,if_true,eN,cellOf,hc,pure_bind,WV]
   exact yy r _ λm hm=>h m (Ub _ hm)
  ·simp only[hk,if_false,eN,pure_bind]
   exact yy r J λm hm=>h m (Ub _ hm)
theorem Ay{scope:Scope}{env:Env}(h:∀n,(n,NameKind.free)∈scope.names->∃c,env.cells.lookup n=some c):closureFor scope env=pure (eN env scope.names []):=by
 have:=yy scope.names [] h
 simp only[closureFor]
 rw[<- this]
 exact bind_pure _
theorem sr{env:Env}:∀(names:List (Str×NameKind)) (J:List (Str×Addr)),(∀n,(n,NameKind.free)∈names->∃c,env.cells.lookup n=some c)->
 (∀x c,J.lookup x=some c->env.cells.lookup x=some c)->∀x c,(eN env names J).lookup x=some c->env.cells.lookup x=some c
 | [],J,_,h,x,c,e=>h x c e
 | (n,k)::r,J,hf,h,x,c,e=>by
  unfold eN at e
  by_cases hk:(k == NameKind.free)=true
  ·rw[if_pos hk] at e
   have Y:k=.free:=by simpa using hk
   subst Y
   refine sr r _ (λm hm=>hf m (Ub _ hm)) (λy d q=> ?_) x c e
   obtain⟨c',U⟩:=hf n Ug
   rw[U3] at q
   split at q
   ·rename_i hy
    have:y=n:=by simpa using hy
    subst this
    rw[U,WV] at q
    rw[U];exact q
   ·exact h y d q
  ·rw[if_neg hk] at e
   exact sr r J (λm hm=>hf m (Ub _ hm)) h x c e
theorem qH{env:Env}:∀(names:List (Str×NameKind)) (J:List (Str×Addr)) (x:Str),(∃c,J.lookup x=some c)->∃c,(eN env names J).lookup x=some c
 | [],J,_,h=>h
 | (n,k)::r,J,x,h=>by
  unfold eN
  by_cases hk:(k == NameKind.free)=true
  ·rw[if_pos hk]
   refine qH r _ x ?_
   rw[U3]
   split
   ·exact⟨_,rfl⟩
   ·exact h
  ·rw[if_neg hk]
   exact qH r J x h
theorem oU{env:Env}:∀(names:List (Str×NameKind)) (J:List (Str×Addr)) (x:Str),(x,NameKind.free)∈names->∃c,(eN env names J).lookup x=some c
 | (n,k)::r,J,x,h=>by
  unfold eN
  rcases Um.mp h with e | h
  ·cases e
   rw[if_pos (by rfl)]
   refine qH r _ n ?_
   exact⟨_,by rw[U3];simp;rfl⟩
  ·by_cases hk:(k == NameKind.free)=true
   ·rw[if_pos hk];exact oU r _ x h
   ·rw[if_neg hk];exact oU r J x h
theorem gi:∀(names:List (Str×NameKind)) (n:Nat) (J:List (Str×Addr)),cellsFrom n names J=cellsFrom n names []++J
 | [],_,_=>rfl
 | (x,k)::r,n,J=>by
  unfold cellsFrom
  split
  ·rw[gi r (n+1) ((x,n)::J),gi r (n+1) [(x,n)],UX];rfl
  ·exact gi r n J
theorem oB:∀(names:List (Str×NameKind)) (n:Nat) {x:Str} {c:Addr},(x,c)∈cellsFrom n names []->(x,NameKind.cell)∈names
 | [],_,_,_,h=>nomatch h
 | (y,k)::r,n,x,c,h=>by
  unfold cellsFrom at h
  split at h
  ·rename_i hk
   have J:k=.cell:=by simpa using hk
   rw[gi] at h
   rcases Uj.mp h with q | q
   ·exact Ub _ (oB r _ q)
   ·cases Ul.mp q
    rw[J]
    exact Ug
  ·exact Ub _ (oB r _ h)
theorem FP{l m:List (Str×Addr)}{x:Str}{c:Addr}(h:(l++m).lookup x=some c):l.lookup x=some c\/(l.lookup x=none/\m.lookup x=some c):=by
 rw[WG] at h
 cases e:l.lookup x with
 | none=>rw[e] at h;exact .inr ⟨rfl,h⟩
 | some d=>rw[e] at h;exact .inl h
theorem tw{l m:List (Str×Addr)}{x:Str}(h:l.lookup x=none):(l++m).lookup x=m.lookup x:=by rw[WG,h];rfl
theorem A7{l m:List (Str×Addr)}{x:Str}(h:∃c,m.lookup x=some c):∃c,(l++m).lookup x=some c:=by
 cases e:l.lookup x with
 | none=>rw[tw e];exact h
 | some c=>exact⟨c,by rw[WG,e];rfl⟩
theorem HP(h:Heap)(names:List (Str×NameKind)):CellsOk (pushCells (h.push {cls:=.type "dict",data:=.dict #[]}) names) (h.objs.size+1) (cellsFrom (h.objs.size+1) names []):=by
 have:=cellsFrom_ok names (h.push {cls:=.type "dict",data:=.dict #[]}) (h.objs.size+1) [] ⟨λ_ _ hm=>(nomatch hm),XG⟩ (by rw[Heap.size_push];exact Ud _)
 rwa [Heap.size_push] at this
theorem C7 {M:Model} {A:Around} {E:Value->Shared->Prop} {s:Shared} {scope:Scope} {globals:Addr} {J:List (Str×Addr)} {qual:Str} {func:Option Addr} {code:Value} {outer:Env} {builtins:Addr} {Q:Env->Shared->Prop}
 (U:Q {scope:=scope,locals:=s.heap.objs.size,globals:=globals,cells:=cellsFrom (s.heap.objs.size+1) scope.names J,qual:=qual,func:=func,code:=outer.code,frame:=outer.frame,builtins:=outer.builtins} {s with heap:=pushCells (s.heap.push {cls:=.type "dict",data:=.dict #[]}) scope.names}):
 wpAny M A (newFunctionEnv scope globals J [] qual func code (some outer) builtins) Q E s:=by
 simp only[newFunctionEnv,Option.isSome_some,if_true]
 refine wpAny_bind (wpAny_alloc ?_)
 refine wpAny_bind (wpAny_layCells _ (λname kind cells=>by cases hkc:kind == NameKind.cell <;> simp[hkc]) _ _ _ _ ?_)
 rw[show ({s with heap:=s.heap.push {cls:=.type "dict",data:=.dict #[]}}:Shared).heap.objs.size=s.heap.objs.size+1 from Heap.size_push ..]
 refine wpAny_bind ?_
 rw[List.forIn_nil]
 exact wpAny_pure (wpAny_pure U)
def cxC(X:Cx)(scope:Scope)(N':List Str)(fp:List Addr)(s:Shared)(H:Hp):Cx where
 prog:=X.prog
 w:=X.w
 K:=X.K
 mg:=X.mg
 base:=X.base
 A:=X.A
 N:=N'
 s₀:=s
 H₀:=H
 env:=compEnvC scope (cellsFrom (s.heap.objs.size+1) scope.names (eN X.env scope.names [])) s.heap.objs.size X.env
 outer:=X.stack
 stack:=X.stack
 ex:=fp
 calm:=X.calm
 fn:=λx=>scope.names.lookup x == some .cell
 pn:=[]
 xe:=λ_ _=>False
def og(X:Cx)(scope:Scope):List Str->List Nat->Prop
 | [],[]=>True
 | x::xs,j::js=>X.N[j]? =some x/\(X.env.scope.names.lookup x=some .cell\/X.env.scope.names.lookup x=some .free)/\scope.names.lookup x=some .free/\og X scope xs js
 | _,_=>False
theorem og.get{X:Cx}{scope:Scope}:∀{xs:List Str} {J:List Nat} {i:Nat} {x:Str},og X scope xs J->xs[i]? =some x->
 ∃j,J[i]? =some j/\X.N[j]? =some x/\(X.env.scope.names.lookup x=some .cell\/X.env.scope.names.lookup x=some .free)/\scope.names.lookup x=some .free
 | [],_,_,_,_,e=>by simp at e
 | _::_,[],_,_,h,_=>h.elim
 | y::ys,j::J,0,x,h,e=>by
  simp at e;subst e
  exact⟨j,rfl,h.1,h.2.1,h.2.2.1⟩
 | y::ys,j::J,i+1,x,h,e=>by
  obtain⟨U,e1,r⟩:=og.get (i:=i) (x:=x) h.2.2.2 (by simpa using e)
  exact⟨U,by simpa using e1,r⟩
theorem og.length{X:Cx}{scope:Scope}:∀{xs:List Str} {J:List Nat},og X scope xs J->xs.length=J.length
 | [],[],_=>rfl
 | [],_::_,h=>h.elim
 | _::_,[],h=>h.elim
 | _::_,_::_,h=>by rw[Uq,Uq,og.length h.2.2.2]
def oR(m:Nat)(caps:List Nat)(σ:St):St:=Uo m none++caps.map λi=>(σ[i]?).getD none
theorem lookup_mem{α β:Type}[BEq α][LawfulBEq α]:∀{l:List (α×β)} {x:α} {b:β},l.lookup x=some b->(x,b)∈l
 | [],_,_,h=>by simp at h
 | (a,c)::r,x,b,h=>by
  rw[U3] at h
  split at h
  ·rename_i q
   have:x=a:=by simpa using q
   subst this
   cases h
   exact Ug
  ·exact Ub _ (lookup_mem h)
section
variable {X : Cx}
theorem iX{scope:Scope}{env:Env}:∀{names:List (Str×NameKind)} {x:Str} {k:NameKind},(names.map λ(n,k)=>if (k == NameKind.free&&env.scope.kind == .function&&env.kindOf n == some .cell) then (n,NameKind.cell) else (n,k)).lookup x=some k->
 ∃J,names.lookup x=some J/\(J=k\/(J=.free/\k=.cell))
 | [],_,_,h=>by simp at h
 | (n,k0)::r,x,k,h=>by
  have h':VQ x ((if (k0 == NameKind.free&&env.scope.kind == .function&&env.kindOf n == some .cell)=true then (n,NameKind.cell) else (n,k0))::r.map _)=some k:=h
  by_cases hc:(k0 == NameKind.free&&env.scope.kind == .function&&env.kindOf n == some .cell)=true
  ·rw[if_pos hc,U3] at h'
   rw[U3]
   split at h'
   ·rename_i q
    cases h'
    have hk:k0=.free:=by simp only[VH] at hc;simpa using hc.1.1
    exact⟨k0,rfl,.inr ⟨hk,rfl⟩⟩
   ·rename_i q
    exact iX (scope:=scope) h'
  ·rw[if_neg hc,U3] at h'
   rw[U3]
   split at h'
   ·rename_i q
    cases h'
    exact⟨k0,rfl,.inl rfl⟩
   ·rename_i q
    exact iX (scope:=scope) h'
structure pC(X:Cx)(scope:Scope)(own cap:List Str)(caps:List Nat):Prop where
 kind:scope.kind=.function
 cell:∀y∈scope.names,y.2=.cell->scope.names.lookup y.1=some .cell
 nm:∀y∈scope.names,y.2=.local->scope.names.lookup y.1=some .local
 fr:∀y∈scope.names,y.2=.free->y.1∈cap
 caps:og X scope cap caps
 nd:(own++cap).Nodup
theorem pC.out{X:Cx}{scope:Scope}{own cap:List Str}{caps:List Nat}(S:pC X scope own cap caps){n:Str}(h:(n,NameKind.free)∈scope.names):X.env.scope.names.lookup n=some .cell\/X.env.scope.names.lookup n=some .free:=by
 obtain⟨i,hi,e⟩:=Vt (S.fr _ h rfl)
 obtain⟨_,_,_,k,_⟩:=S.caps.get (i:=i) (x:=n) (by rw[T7 hi,e])
 exact k
theorem JR {scope:Scope} {own cap:List Str} {caps:List Nat} {pins:List (Addr×Obj)} {σ:St} {H:Hp} {s:Shared} {fp:List Addr} {h1:Heap} {tk:Nat} (Sc:pC X scope own cap caps) (I:Inv X pins σ H s)
 (U:∀b∈fp,nv X pins H b) (ap:∀b∈fp,∃o,s.heap.get? b=some o) (a2:h1.Ns s.heap.objs.size λ_=>none)
 (hk:∀b o,s.heap.get? b=some o->h1.get? b=some o) (J:CellsOk h1 (s.heap.objs.size+1) (cellsFrom (s.heap.objs.size+1) scope.names [])):
 Inv (cxC X scope (own++cap) fp s H) [] (oR own.length caps σ) H {s with heap:=h1,toks:=tk}:=by
 have a3:∀n,(n,NameKind.free)∈scope.names->∃c,X.env.cells.lookup n=some c:=λn hn=>I.ok.has n (Sc.out hn)
 have sub:∀x c,(eN X.env scope.names []).lookup x=some c->X.env.cells.lookup x=some c:=sr scope.names [] a3 (λx c e=>by simp at e)
 have fresh:H s.heap.objs.size=none:=I.hok.fresh (Ud _)
 have two:∀x c,(cellsFrom (s.heap.objs.size+1) scope.names (eN X.env scope.names [])).lookup x=some c->((x,c)∈cellsFrom (s.heap.objs.size+1) scope.names []/\s.heap.objs.size<c)\/((cellsFrom (s.heap.objs.size+1) scope.names []).lookup x=none/\X.env.cells.lookup x=some c/\c<s.heap.objs.size):=λx c e=>by
  rw[gi] at e
  rcases FP e with q | ⟨q0,q⟩
  ·exact .inl ⟨mem_of_lookup q,(J.empty x c (mem_of_lookup q)).2⟩
  ·have q':=sub x c q
   obtain⟨v,o,ho,_⟩:=I.cell x c q'
   exact .inr ⟨q0,q',Heap.lt_size ho⟩
 have Y:∀x,scope.names.lookup x=some .free->(cellsFrom (s.heap.objs.size+1) scope.names []).lookup x=none:=λx hx=>by
  cases e:(cellsFrom (s.heap.objs.size+1) scope.names []).lookup x with
  | none=>rfl
  | some c=>
   have:=Sc.cell _ (oB _ _ (mem_of_lookup e)) rfl
   dsimp only at this
   rw[hx] at this
   cases this
 refine⟨⟨I.ok.mod,Sc.kind,I.ok.glob,I.ok.blt,Ud _,λx y c e1 e2=> ?_,λx hx=> ?_,λx c h e=> ?_,I.ok.hd,I.ok.frames,.inl rfl,λb hb=>⟨?_,λx c e=> ?_⟩,I.bs,UI I.ok.bsz I.sz,λb o e hb=> ?_,λb hb hs=> ?_,I.stack,I.stkFree⟩,
  rfl,I.bare,Un.kept hk,⟨_,a2,λi x v e1 e2 e3=> ?_⟩,λx c e=> ?_,fresh,λx c e=> ?_,λp hp=>absurd (show p∈([]:List (Addr×Obj)) from hp) (by simp),I.hok.kept hk, ?_⟩
 ·rcases two x c e1 with⟨p1,p2⟩ | ⟨_,p1,p2⟩ <;> rcases two y c e2 with⟨q1,q2⟩ | ⟨_,q1,q2⟩
  ·exact name_of_addr J.apart p1 q1
  ·exact absurd p2 (XZ.mpr (Vy q2))
  ·exact absurd q2 (XZ.mpr (Vy p2))
  ·exact I.ok.inj x y c p1 q1
 ·have a4:(relabel scope X.env).names.lookup x=some .cell\/(relabel scope X.env).names.lookup x=some .free:=hx
  have:(x,NameKind.free)∈scope.names\/scope.names.lookup x=some .cell:=by
   rcases a4 with q | q
   ·obtain⟨k',e1,e2⟩:=iX (scope:=scope) q
    rcases e2 with rfl | ⟨rfl,_⟩
    ·exact .inr e1
    ·exact .inl (lookup_mem e1)
   ·obtain⟨k',e1,e2⟩:=iX (scope:=scope) q
    rcases e2 with rfl | ⟨rfl,z⟩
    ·exact .inl (lookup_mem e1)
    ·cases z
  rcases this with q | q
  ·show ∃c,(cellsFrom (s.heap.objs.size+1) scope.names (eN X.env scope.names [])).lookup x=some c
   rw[gi]
   exact A7 (oU scope.names [] x q)
  ·exact WS.mp (VR scope.names _ _ (.inl q))
 ·have h':scope.names.lookup x=some .cell:=by
   have:(scope.names.lookup x == some NameKind.cell)=true:=h
   simpa using this
  rcases two x c e with⟨_,p⟩ | ⟨p,_⟩
  ·exact Vy p
  ·have:=VR scope.names (s.heap.objs.size+1) [] (.inl h')
   rw[p] at this
   cases this
 ·obtain⟨o,ho⟩:=ap b hb
  exact UB (Heap.lt_size ho)
 ·rcases two x c e with⟨_,p⟩ | ⟨_,p,_⟩
  ·obtain⟨o,ho⟩:=ap b hb
   exact λz=>absurd (Heap.lt_size ho) (XZ.mpr (Vy (z▸p)))
  ·exact(U b hb).2.2.2.2.1 x c p
 ·rcases(U b hb).2.2.2.1 with z | z
  ·exact I.ok.noex b o e z
  ·exact absurd (Ux (Heap.lt_size e) (UI I.ok.bsz z)) (U8 _)
 ·rcases Um.mp (I.stkSub b hs) with z | z
  ·exact(U b hb).2.1 z
  ·exact(U b hb).2.2.1 z
 ·have az:(own++cap)[i]? =some x:=e1
  have hi:own.length<=i:=by
   by_cases q:i<own.length
   ·unfold oR at e2
    rw[Ut (by simpa using q),US] at e2
    split at e2 <;> cases e2
   ·omega
  rw[Ui hi] at az
  obtain⟨j,hj,hN,a0,ab⟩:=Sc.caps.get az
  unfold oR at e2
  rw[Ui (by simpa using hi)] at e2
  simp only[VW,Us,hj,VO,XH] at e2
  have a5:σ[j]? =some (some v):=by
   cases q:σ[j]? with
   | none=>rw[q] at e2;simp at e2
   | some ov=>rw[q] at e2;simp at e2;rw[e2]
  obtain⟨m,hm,hl⟩:=I.loc
  obtain⟨u,ru,lk⟩:=hl j x v hN a5 (a0.elim (λz=>.inr (.inl z)) λz=>.inr (.inr z))
  refine⟨u,ru,.inr ⟨?_, ?_⟩⟩
  ·rcases e3 with q | q | q
   ·obtain⟨k',w1,w2⟩:=iX (scope:=scope) (show (relabel scope X.env).names.lookup x=some .local from q)
    rw[ab] at w1
    cases w1
    rcases w2 with w | ⟨_,w⟩ <;> cases w
   ·exact .inl q
   ·exact .inr q
  ·rcases lk with⟨z,_⟩ | ⟨_,c,ec,hc⟩
   ·have z':X.env.scope.names.lookup x=some .local:=z
    rcases a0 with q | q <;> (rw[q] at z';cases z')
   ·obtain⟨c',a1⟩:=oU (env:=X.env) scope.names [] x (lookup_mem ab)
    have:=sub x c' a1
    rw[ec] at this
    cases this
    obtain⟨oc,ac,am⟩:=hc
    refine⟨c, ?_,oc,hk _ _ ac,am⟩
    show (cellsFrom (s.heap.objs.size+1) scope.names (eN X.env scope.names [])).lookup x=some c
    rw[gi,tw (Y x ab)]
    exact a1
 ·rcases two x c e with⟨p,_⟩ | ⟨_,p,_⟩
  ·exact⟨none,(J.empty x c p).1⟩
  ·obtain⟨v,oc,ac,am⟩:=I.cell x c p
   exact⟨v,oc,hk _ _ ac,am⟩
 ·rcases two x c e with⟨_,p⟩ | ⟨_,p,_⟩
  ·exact I.hok.fresh (Vy p)
  ·exact I.freeC x c p
 ·unfold oR
  have:=Sc.caps.length
  simp[cxC,this]
theorem HU {prog:Program} {w:World} {A:Around} {R:Result->Shared->Prop} {s:Shared} {Y J U:Expr} {ab:List Expr} {scope:Scope} {pos:Pos} {it ac:Value} {env:Env} (I:Nat->Shared->Prop)
 (am:∀n s,I n s->wpAny (model prog w) A (pyNext it) (λr s₁=>match r with
  | none=>R (.ok .next) s₁
  | some v=>wpAny (model prog w) A (letOwnedTupleGo J it v) (λ_ an=>wpAny (model prog w) A (assign J env v) (λ_ s₂=>
   wpAny (model prog w) A (forIn ab true λc r=>if r=true then do let ok <- isTrue c env (eval c env);pure (VN ok) else pure (VN r)) (λok s₃=>
    if ok=true then wpAny (model prog w) A (eval Y env) (λx s₄=>
     wpAny (model prog w) A (call (.builtin "list.append") [ac,x]) (λ_ s₅=>∃m,m<n/\I m s₅) (λ_ _=>False) s₄) (λ_ _=>False) s₃
    else ∃m,m<n/\I m s₃) (λ_ _=>False) s₂) (λ_ _=>False) an) (λ_ _=>False) s₁) (λ_ _=>False) s)
 (n:Nat) (h:I n s):
 codeAny (model prog w) A (.compLoop (.ListComp Y [⟨J,U,ab,0⟩] scope pos) 0 it ac env) R s:=by
 refine codeAny_loop rfl I (λn s hI=> ?_) n h
 show wpAny _ A ((compTurn (.ListComp Y [⟨J,U,ab,0⟩] scope pos) 0 it ac env).onRaise (λx=>do noteFrame x env;theTreesLotGoes x)) _ _ s
 refine wpAny_noted ?_
 rw[compTurn_list]
 refine wpAny_bind (wpAny_standAt (wpAny_bind (wpAny_mono (am n s hI) (λr s₁ h₁=> ?_) λ_ _ h'=>h'.elim)))
 cases r with
 | none=>exact wpAny_pure h₁
 | some v=>
  refine wpAny_bind (wpAny_mono h₁ (λ_ an az=>wpAny_bind (wpAny_mono az (λ_ s₂ h₂=>wpAny_bind (wpAny_mono h₂ (λok s₃ h₃=> ?_) λ_ _ h'=>h'.elim)) λ_ _ h'=>h'.elim)) λ_ _ h'=>h'.elim)
  cases ok with
  | false=>exact wpAny_pure ⟨rfl,h₃⟩
  | true=>
   exact wpAny_bind (wpAny_bind (wpAny_mono h₃ (λx s₄ h₄=>wpAny_bind (wpAny_mono h₄ (λ_ s₅ h₅=>wpAny_pure (wpAny_pure ⟨rfl,h₅⟩)) λ_ _ h'=>h'.elim)) λ_ _ h'=>h'.elim))
def PTs(X:Cx)(J:List Expr)(t:TT):Prop:=
 ∀(pins:List (Addr×Obj)) (s:Shared) (σ:St) (H:Hp) (Q:Bool->Hp->Prop),Inv X pins σ H s->t σ H Q->
  wpAny (model X.prog X.w) X.A (forIn J true λc r=>if r=true then do let ok <- isTrue c X.env (eval c X.env);pure (VN ok) else pure (VN r)) (TP X pins σ Q) X.xe s
def KI:TT:=λ_ H Q=>Q true H
theorem ck:PTs X [] KI:=λ_ _ _ H _ I h=>wpAny_tests_nil ⟨H,I,h⟩
theorem mz{c:Expr}{t:TT}(h:PT X c t):PTs X [c] t:=λpins s σ H Q I q=>wpAny_tests_one (h pins s σ H Q I q)
def rK(m:Nat)(caps:List Nat)(wi:TI)(g:TG)(tc:TT)(te:TE):TE:=λσ H Q=>wi σ H λJ H1=>∀p,H1 p=none->
 ∃W:Nat->Nat->List V->St->Hp->Prop,(∃k,W 0 k [] (oR m caps σ) (upd H1 p (.lst [])))/\∀i k U σ' H',W i k U σ' H'->
  (J.stop i H'/\H' p=some (.lst U)/\Q (.ref p) H')\/(J.go i H'/\∀x H2,J.yld i H' x H2->g x σ' H2 λσ2 H3=>tc σ2 H3 λb H4=>if b=true then
   te σ2 H4 λy H5=>H5 p=some (.lst U)/\U.length<sizeLine/\∃Y,Y<k/\W (i+1) Y (U++[y]) σ2 (upd H5 p (.lst (U++[y])))
   else ∃Y,Y<k/\W (i+1) Y U σ2 H4)
theorem Jo{scope:Scope}{N':List Str}{fp:List Addr}{pins U:List (Addr×Obj)}{σ σ':St}{H3 H':Hp}{s3 s':Shared}(I3:Inv X pins σ H3 s3)(Y:Inv (cxC X scope N' fp s3 H3) U σ' H' s')(J:∀b∈fp,nv X pins H3 b):Inv X pins σ H' s':=
 I3.call' (ch:=fp) Y.os Y.base Y.hok Y.bare λb hb=>⟨(J b hb).2.2.2.1,(J b hb).2.1,(J b hb).2.2.2.2.1,(J b hb).2.2.2.2.2⟩
theorem w9 {ab a0 a7:Expr} {a8:List Expr} {scope:Scope} {pos:Pos} {own cap:List Str} {caps:List Nat} {g:TG} {tc:TT} {te:TE} {pins:List (Addr×Obj)} {σ:St} {H2:Hp} {Y:Shared} {it:Addr} {fp:List Addr} {tn:Nat->Heap->Prop} {J:It} {E:Value->Shared->Prop}
 {RR:Value->Addr->Result->Shared->Prop} {Q:VK}
 (hc:X.calm=true) (Sc:pC X scope own cap caps)
 (hg:∀s H,PG (cxC X scope (own++cap) fp s H) ab g) (ht:∀s H,PTs (cxC X scope (own++cap) fp s H) a8 tc) (he:∀s H,PE (cxC X scope (own++cap) fp s H) a7 te)
 (I:Inv X pins σ H2 Y) (T:Turn X.prog X.w X.K ab J fp it tn) (t0:tn 0 Y.heap) (bm:∀b∈fp,nv X pins H2 b)
 (hQ:∀p,H2 p=none->∃W:Nat->Nat->List V->St->Hp->Prop,(∃k,W 0 k [] (oR own.length caps σ) (upd H2 p (.lst [])))/\∀i k U σ' H',W i k U σ' H'->
  (J.stop i H'/\H' p=some (.lst U)/\Q (.ref p) H')\/(J.go i H'/\∀x H2,J.yld i H' x H2->g x σ' H2 λσ2 H3=>tc σ2 H3 λb H4=>if b=true then
   te σ2 H4 λy H5=>H5 p=some (.lst U)/\U.length<sizeLine/\∃k',k'<k/\W (i+1) k' (U++[y]) σ2 (upd H5 p (.lst (U++[y])))
   else ∃k',k'<k/\W (i+1) k' U σ2 H4))
 (ce:∀C p H' s' m,X.s₀.heap.objs.size<=C->C≠X.env.locals->(∀x c,X.env.cells.lookup x=some c->c≠C)->(∀q∈X.pn++pins,q.1≠C)->H' C=none->s'.heap.Ns C m->Inv X pins σ H' s'->Q (.ref p) H'->RR (.ref p) C (.ok .next) s'):
 wpAny (model X.prog X.w) X.A (newList []) (λU s₃=>wpAny (model X.prog X.w) X.A (newFunctionEnv scope X.env.globals (eN X.env scope.names []) [] X.env.qual none .none (some X.env)) (λa4 s₄=>
  codeAny (model X.prog X.w) X.A (.compStart (.ListComp a7 [⟨ab,a0,a8,0⟩] scope pos) 0 (.ref it) U {a4 with scope:=relabel scope X.env}) (RR U a4.locals) s₄) E s₃) E Y:=by
 refine wpAny_newObj_type (C7 ?_)
 dsimp only
 have ci:H2 Y.heap.objs.size=none:=I.hok.fresh (Ud _)
 have I3:Inv X pins σ (upd H2 Y.heap.objs.size (.lst [])) {Y with heap:=Y.heap.push {cls:=.type "list",dict:=none,data:=.seq ([]:List Value).toArray}}:=I.lnew (t':=Y.toks) .nil (UR _)
 obtain⟨W,⟨k0,w0⟩,bv⟩:=hQ Y.heap.objs.size ci
 have old:∀b o,Y.heap.get? b=some o->(Y.heap.push {cls:=.type "list",dict:=none,data:=.seq ([]:List Value).toArray}).get? b=some o:=λb o e=>Heap.get?_push_of_some _ e
 have cm:∀b∈fp,b≠Y.heap.objs.size:=λb hb=>by
  obtain⟨o,ho,_⟩:=T.obj 0 Y.heap t0 b hb
  exact UB (Heap.lt_size ho)
 have an:∀b∈fp,nv X pins (upd H2 Y.heap.objs.size (.lst [])) b:=λb hb=>⟨by rw[aS (cm b hb)];exact(bm b hb).1,(bm b hb).2⟩
 have bU:∀b∈fp,∃o,(Y.heap.push {cls:=.type "list",dict:=none,data:=.seq ([]:List Value).toArray}).get? b=some o:=λb hb=>by
  obtain⟨o,ho,_⟩:=T.obj 0 Y.heap t0 b hb
  exact⟨o,old b o ho⟩
 generalize az:pushCells ((Y.heap.push {cls:=.type "list",dict:=none,data:=.seq ([]:List Value).toArray}).push {cls:=.type "dict",data:=.dict #[]}) scope.names=h₁
 have a5:h₁.Ns (Y.heap.push {cls:=.type "list",dict:=none,data:=.seq ([]:List Value).toArray}).objs.size λ_=>none:=by rw[<- az];exact(Heap.Ns.new _ (.type "dict")).keeps (pushCells_keeps _ _)
 have hk:∀b o,(Y.heap.push {cls:=.type "list",dict:=none,data:=.seq ([]:List Value).toArray}).get? b=some o->h₁.get? b=some o:=λb o e=>by rw[<- az];exact pushCells_keeps _ _ b o (Heap.get?_push_of_some _ e)
 have a6:CellsOk h₁ ((Y.heap.push {cls:=.type "list",dict:=none,data:=.seq ([]:List Value).toArray}).objs.size+1) (cellsFrom ((Y.heap.push {cls:=.type "list",dict:=none,data:=.seq ([]:List Value).toArray}).objs.size+1) scope.names []):=by rw[<- az];exact HP _ _
 clear az
 have bW:tn 0 h₁:=T.keep 0 _ _ t0 λb hb o e=>hk b o (old b o e)
 generalize b1:({Y with heap:=Y.heap.push {cls:=.type "list",dict:=none,data:=.seq ([]:List Value).toArray}}:Shared)=s3 at I3
 have cn:s3.heap=Y.heap.push {cls:=.type "list",dict:=none,data:=.seq ([]:List Value).toArray}:=by rw[<- b1]
 rw[<- cn] at a5 bU hk a6 ⊢
 generalize Y.heap.objs.size=D at *
 generalize dd:upd H2 D (.lst [])=H3 at *
 have b2:∀s₄:Shared,s₄={s3 with heap:=h₁}->
  codeAny (model X.prog X.w) X.A (.compLoop (.ListComp a7 [⟨ab,a0,a8,0⟩] scope pos) 0 (.ref it) (.ref D) (compEnvC scope (cellsFrom (s3.heap.objs.size+1) scope.names (eN X.env scope.names [])) s3.heap.objs.size X.env)) (RR (.ref D) s3.heap.objs.size) s₄:=by
  rintro s₄ rfl
  have I4:=JR (tk:=s3.toks) Sc I3 an bU a5 hk a6
  have ap:∀{H':Hp},(∀b∈fp,H' b=none)->∀b∈fp,nv (cxC X scope (own++cap) fp s3 H3) [] H' b:=λhn b hb=>by
   refine⟨hn b hb,(I4.ok.exf b hb).1,I4.ok.exfs b hb,.inl hb,(I4.ok.exf b hb).2,λp hp=>absurd (show p∈([]:List (Addr×Obj)) from hp) (by simp)⟩
  refine HU (λn s'=>∃i U σ' H',Inv (cxC X scope (own++cap) fp s3 H3) [] σ' H' s'/\tn i s'.heap/\(∀b∈fp,H' b=none)/\W i n U σ' H') ?_ k0 ⟨0,[],_,_,I4,bW,λb hb=>(an b hb).1,w0⟩
  rintro n s5 ⟨i,U,σ5,H5,I5,b3,b4,w5⟩
  rcases bv i n U σ5 H5 w5 with⟨b5,hp,q⟩ | ⟨go,step⟩
  ·refine thn (T.done (cxC X scope (own++cap) fp s3 H3) rfl rfl rfl hc i [] s5 σ5 H5 _ I5 (ap b4) b3 b5) λr s6 ⟨hr,I6⟩=> ?_
   subst hr
   obtain⟨m,hm,_⟩:=I6.loc
   refine ce s3.heap.objs.size D H5 s6 m I3.sz (Xu I3.lt) (λx c e=> ?_) (λp hp=> ?_) I6.free hm (Jo I3 I6 an) q
   ·obtain⟨v,o,ho,_⟩:=I3.cell x c e
    exact UB (Heap.lt_size ho)
   ·exact UB (Heap.lt_size (I3.pin p hp).1)
  ·refine thn (T.item (cxC X scope (own++cap) fp s3 H3) rfl rfl rfl hc i [] s5 σ5 H5 _ I5 (ap b4) b3 go) λr s6 ⟨u,hr,h6⟩=> ?_
   subst hr
   refine thn h6 λ_ s7 ⟨x,H7,I7,r7,y7,st7,fr7⟩=> ?_
   have co:=I7.pinned (ap fr7) (T.obj _ _ st7)
   refine thn (hg s3 H3 _ s7 σ5 H7 x u _ co r7 (step x H7 y7)) λ_ s8 ⟨σ8,H8,I8,q8⟩=> ?_
   refine thn (ht s3 H3 _ s8 σ8 H8 _ I8 q8) λb s9 ⟨H9,I9,q9⟩=> ?_
   have again:∀{σz:St} {Hz:Hp} {sz:Shared},Inv (cxC X scope (own++cap) fp s3 H3) ([]++tQ fp s7.heap) σz Hz sz->Inv (cxC X scope (own++cap) fp s3 H3) [] σz Hz sz/\tn (i+1) sz.heap/\∀b∈fp,Hz b=none:=λ{σz Hz sz} Iz=>by
    refine⟨Iz.unpinned,T.keep _ _ _ st7 λb hb o e=>(Iz.pin (b,o) (UE _ (UE _ (oQ hb e)))).1,λb hb=> ?_⟩
    obtain⟨o,e,d⟩:=T.obj _ _ st7 b hb
    exact(Iz.pin (b,o) (UE _ (UE _ (oQ hb e)))).2.1
   cases b with
   | false=>
    rw[if_neg Uu] at q9 ⊢
    obtain⟨k',bd,w'⟩:=q9
    obtain⟨a1,a2,a3⟩:=again I9
    exact⟨k',bd,i+1,U,σ8,H9,a1,a2,a3,w'⟩
   | true=>
    rw[if_pos rfl] at q9 ⊢
    refine thn (he s3 H3 _ s9 σ8 H9 _ I9 q9) λyv s10 ⟨y,H10,I10,r10,hp,hl,k',bd,w'⟩=> ?_
    refine thn (fV _ s10 σ8 H10 (.ref D) [y] (.ref D) [yv] (λv Hz=>Hz=upd H10 D (.lst (U++[y]))) I10 rfl (.cons r10 .nil) ⟨D,U,y,rfl,rfl,hp,hl,rfl⟩) λ_ s11 ⟨_,H11,I11,_,e11⟩=> ?_
    subst e11
    obtain⟨a1,a2,a3⟩:=again I11
    exact⟨k',bd,i+1,U++[y],σ8,_,a1,a2,a3,w'⟩
 have b6:=b2 _ rfl
 subst b1
 exact codeAny_compStart_list b6 (T.self _ _ _ _ _ bW b6)
theorem PTs.ok{X:Cx}{scope:Scope}{own cap:List Str}{caps:List Nat}{pins:List (Addr×Obj)}{σ:St}{H:Hp}{s:Shared}(I:Inv X pins σ H s)(J:pC X scope own cap caps):closureFor scope X.env=pure (eN X.env scope.names []):=
 Ay λn hn=>I.ok.has n (J.out hn)
theorem cU {U Y ab:Expr} {ac:List Expr} {scope:Scope} {pos:Pos} {own cap:List Str} {caps:List Nat} {wi:TI} {g:TG} {tc:TT} {te:TE} (hc:X.calm=true) (Sc:pC X scope own cap caps) (hi:PI X U Y wi)
 (hg:∀fp s H,PG (cxC X scope (own++cap) fp s H) U g) (ht:∀fp s H,PTs (cxC X scope (own++cap) fp s H) ac tc) (he:∀fp s H,PE (cxC X scope (own++cap) fp s H) ab te)
 (hs:∀x,foldedSetIterable Y X.env x=pure x:=by intro _;rfl):PE X (.ListComp ab [⟨U,Y,ac,0⟩] scope pos) (rK own.length caps wi g tc te):=by
 intro pins s σ H Q I h
 rw[eval_ListComp]
 refine wpAny_comprehension_free (use:=none) rfl hs (PTs.ok I Sc) Sc.kind Sc.nm (thn (hi pins s σ H _ I h) λv s1 h1=>thn h1 λa4 s2 h2=> ?_)
 obtain⟨it,fp,tn,J,H2,e,I2,T,an,f2,q⟩:=h2
 subst e
 refine w9 (Q:=Q) (RR:=λap C=>compPost (model X.prog X.w) X.A X.xe none (EP X pins σ Q) ap C) hc Sc (hg fp) (ht fp) (he fp) I2 T an f2 q ?_
 intro C p H' s' m h1 h2 h3 h4 h5 hn I' q'
 exact⟨m,hn,λh' as=>⟨.ref p,H',I'.turned (it:=C) (t':=s'.toks) (λb o hb e=>as.extBut b o hb e) h5 (Wi h2.symm) (.inr h1) h3 h4,rfl,q'⟩⟩
theorem d0 {U Y ab:Expr} {ac:List Expr} {scope:Scope} {pos am py:Pos} {own cap:List Str} {caps:List Nat} {wi:TI} {g:TG} {tc:TT} {te:TE} {i:Nat} {y:Str} (hc:X.calm=true) (Sc:pC X scope own cap caps) (hi:PI X U Y wi)
 (hg:∀fp s H,PG (cxC X scope (own++cap) fp s H) U g) (ht:∀fp s H,PTs (cxC X scope (own++cap) fp s H) ac tc) (he:∀fp s H,PE (cxC X scope (own++cap) fp s H) ab te)
 (hN:X.N.Nodup) (hx:X.N[i]? =some y) (hl:Loc X.env.scope y)
 (as:swapsWith (.ListComp ab [⟨U,Y,ac,0⟩] scope pos) (some (.Name y py)) am.line X.env=pure true)
 (hs:∀x,foldedSetIterable Y X.env x=pure x:=by intro _;rfl) (hf:X.fn y=true\/X.env.scope.names.lookup y=some .local:=by first | exact .inl rfl | exact .inr rfl | assumption):
 PS X (.Assign [.Name y py] (.ListComp ab [⟨U,Y,ac,0⟩] scope pos) am) (B0 (rK own.length caps wi g tc te) (uK i)):=by
 intro pins s σ H D I h
 rw[exec_Assign_Name_used _ _ _ _ as]
 refine wpAny_bind (wpAny_standAt (wpAny_bind ?_))
 show wpAny _ _ (do let _ <- comprehension (.ListComp ab [⟨U,Y,ac,0⟩] scope pos) scope X.env _ (newList []) false (eval Y X.env) (some (assign (.Name y py) X.env))) _ _ s
 refine wpAny_bind (wpAny_mono (wpAny_comprehension_free (use:=some (assign (.Name y py) X.env)) (Q:=λ_ s'=>SP X pins D .next s') rfl hs (PTs.ok I Sc) Sc.kind Sc.nm
  (thn (hi pins s σ H _ I h) λv s1 h1=>thn h1 λbe s2 h2=> ?_)) (λ_ s' hq=>wpAny_pure (wpAny_pure hq)) λ_ _ e=>e)
 obtain⟨it,fp,tn,J,H2,e,I2,T,az,f2,q⟩:=h2
 subst e
 refine w9 (Q:=λv H'=>uK i v σ H' D.nx) (RR:=λa0 C=>compPost (model X.prog X.w) X.A X.xe (some (assign (.Name y py) X.env)) (λ_ s'=>SP X pins D .next s') a0 C) hc Sc (hg fp) (ht fp) (he fp) I2 T az f2 q ?_
 intro C p H' s' m h1 h2 h3 h4 h5 hn I' q'
 show wpAny _ _ (assign (.Name y py) X.env (.ref p)) _ _ _
 refine wpAny_assign_Name (yV I' hN hx hl (show RelV (.ref p) (.ref p) from rfl) (λs'' I'' ⟨a,hsb,ha⟩=> ?_) hf)
 have a1:C≠a:=by
  rcases ha with rfl | ha
  ·exact h2
  ·exact(h3 _ _ ha).symm
 exact⟨m,hn.sameBut hsb a1,λh' a2=>⟨_,H',I''.turned (it:=C) (t':=s''.toks) (λb o hb e=>a2.extBut b o hb e) h5 h2 (.inr h1) h3 h4,q'⟩⟩
end
section
variable {X : Cx}
def KO(K:Fa):R2:=λx y H Q=>∃l b xs zs,x=.ref l/\y=.ref b/\SqL K H l xs/\SqL K H b zs/\xs.length+zs.length<=sizeLine/\∀p,H p=none->Q (.ref p) (upd H p (.lst (xs++zs)))
theorem Lr:OpR X (binaryOp .Add) (KO X.K):=by
 intro pins s σ H x y v u Q I rx ry h
 obtain⟨l,b,xs,zs,rfl,rfl,hH,hB,hz,q⟩:=h
 cases rx
 cases ry
 obtain⟨U,r,pl,_⟩:=I.list hH
 obtain⟨J,r2,am,_⟩:=I.list hB
 obtain⟨⟨cls,dd,data,sl⟩,ho,hc,n,hd⟩:=pl.isList
 obtain⟨⟨a0,an,data2,ap⟩,Y,ab,n2,ac⟩:=am.isList
 simp only at hc hd ab ac
 subst hc hd ab ac
 have e:U.toArray++J.toArray=(U++J).toArray:=by simp
 have a8:=r.length
 have a9:=r2.length
 refine concat_meets ⟨_,ho,rfl⟩ ⟨_,Y,rfl⟩ noFill_list_add seq_list_add PySem.F.slot_list_add PySem.F.entry_list_add (PySem.F.args_list_add_2 _ _) (list_addW l b U.toArray J.toArray n n2 dd an sl ap (by simp only[Up];omega)) ⟨ho,Y, ?_⟩
 rw[e]
 exact⟨.ref _,_,I.lnew (t':=s.toks) (r.append r2) (by rw[Uv];omega),rfl,q _ I.fresh⟩
mutual
def RdV(K:Fa)(H:Hp):PyData->V->Prop
 | .none,v=>v=.non
 | .bool b,v=>v=.bl b
 | .int i,v=>v=.int i
 | .str x,v=>v=.str x
 | .list ds,v=>∃a xs,v=.ref a/\SqL K H a xs/\rW K H ds xs
 | .tuple ds,v=>∃a xs,v=.ref a/\SqT K H a xs/\rW K H ds xs
 | .dict _,_=>False
def rW(K:Fa)(H:Hp):List PyData->List V->Prop
 | [],xs=>xs=[]
 | d::ds,xs=>∃v r,xs=v::r/\RdV K H d v/\rW K H ds r
end
mutual
theorem oi{pins:List (Addr×Obj)}{σ:St}{H:Hp}{s:Shared}(I:Inv X pins σ H s):∀{d:PyData} {v:V} {u:Value},RdV X.K H d v->RelV v u->∃J,Reads s.heap u d J
 | .none,v,u,h,r=>by
  unfold RdV at h;subst h
  cases (show u=Value.none from r);exact⟨_,.none⟩
 | .bool b,v,u,h,r=>by
  unfold RdV at h;subst h
  cases (show u=Value.bool b from r);exact⟨_,.bool b⟩
 | .int i,v,u,h,r=>by
  unfold RdV at h;subst h
  obtain⟨t,rfl⟩:=(show ∃t,u=Value.int i t from r);exact⟨_,.int i t⟩
 | .str x,v,u,h,r=>by
  unfold RdV at h;subst h
  obtain⟨t,rfl⟩:=(show ∃t,u=Value.str x t from r);exact⟨_,.str x t⟩
 | .list ds,v,u,h,r=>by
  unfold RdV at h
  obtain⟨a,xs,rfl,U,hr⟩:=h
  cases (show u=Value.ref a from r)
  obtain⟨Y,rv,pl,_⟩:=I.list U
  obtain⟨o,ho,hc,n,hd⟩:=pl.isList
  obtain⟨J,ra⟩:=rT I hr rv
  exact⟨_,.list ho hc hd (by simpa using ra)⟩
 | .tuple ds,v,u,h,r=>by
  unfold RdV at h
  obtain⟨a,xs,rfl,U,hr⟩:=h
  cases (show u=Value.ref a from r)
  obtain⟨Y,rv,⟨o,ho,hc,n,hd⟩,_⟩:=I.tuple U
  obtain⟨J,ra⟩:=rT I hr rv
  exact⟨_,.tuple ho hc hd (by simpa using ra)⟩
 | .dict _,v,u,h,r=>by unfold RdV at h;exact h.elim
theorem rT{pins:List (Addr×Obj)}{σ:St}{H:Hp}{s:Shared}(I:Inv X pins σ H s):∀{ds:List PyData} {xs:List V} {us:List Value},rW X.K H ds xs->Vals xs us->∃J,ReadsAll s.heap us ds J
 | [],xs,us,h,r=>by
  unfold rW at h;subst h
  cases r;exact⟨_,.nil⟩
 | d::ds,xs,us,h,r=>by
  unfold rW at h
  obtain⟨v,w,rfl,h1,h2⟩:=h
  cases r with
  | cons U Y=>
   obtain⟨J,a1⟩:=oi I h1 U
   obtain⟨bs,a2⟩:=rT I h2 Y
   exact⟨_,.cons a1 a2⟩
end
def M8(K:Fa):R2:=λx y H Q=>∃d e,RdV K H d x/\RdV K H e y/\SeqAt.shaped d=true/\SeqAt.shaped e=true/\Q (.bl (PyData.eqv d e)) H
def OA(K:Fa):R2:=λx y H Q=>∃d e,RdV K H d x/\RdV K H e y/\SeqAt.shaped d=true/\SeqAt.shaped e=true/\Q (.bl (!PyData.eqv d e)) H
theorem Nm(hu:X.A.units+64<cLine):OpR X (compareOp .Eq) (M8 X.K):=by
 intro pins s σ H x y v u Q I J U h
 obtain⟨d,e,h1,h2,s1,s2,q⟩:=h
 obtain⟨as,Y⟩:=oi I h1 J
 obtain⟨bs,rb⟩:=oi I h2 U
 exact SeqAt.compareEq_shaped Y rb s1 s2 hu ⟨.bl _,H,I,rfl,q⟩
theorem NN(hu:X.A.units+64<cLine):OpR X (compareOp .NotEq) (OA X.K):=by
 intro pins s σ H x y v u Q I J U h
 obtain⟨d,e,h1,h2,s1,s2,q⟩:=h
 obtain⟨as,Y⟩:=oi I h1 J
 obtain⟨bs,rb⟩:=oi I h2 U
 exact SeqAt.compareNe_shaped Y rb s1 s2 hu ⟨.bl _,H,I,rfl,q⟩
def Px(K:Fa)(H:Hp)(x:V)(T:String):Prop:=match x with
 | .non=>T="NoneType"
 | .bl _=>T="bool"
 | .int _=>T="int"
 | .str _=>T="str"
 | .ref a=>(T="list" /\∃xs,SqL K H a xs)\/(T="tuple" /\∃xs,SqT K H a xs)
 | _=>False
def JS(K:Fa):List V->Hp->VK->Prop:=λxs H Q=>∃x c T b,xs=[x,.ty c]/\Px K H x T/\X2 K (.type T) (.type c)=some b/\Q (.bl b) H
theorem Bx:iG X (.builtin "isinstance") (JS X.K):=by
 intro pins s σ H xs us Q I r h
 obtain⟨x,c,T,b,rfl,U,hk,q⟩:=h
 obtain⟨u,w,rfl,Y,r2⟩:=vals2 r
 cases (show w=Value.type c from r2)
 have J:∀tk,EP X pins σ Q (.bool b) {s with toks:=tk}:=λtk=>⟨.bl b,H,I.tok tk,rfl,q⟩
 cases x with
 | non=>cases (show u=Value.none from Y);cases (show T="NoneType" from U);exact VP PySem.W.kitx_none I.kIn Wo hk (λz=>nomatch z) J
 | bl y=>cases (show u=Value.bool y from Y);cases (show T="bool" from U);exact VP PySem.W.kitx_bool I.kIn Wo hk (λz=>nomatch z) J
 | int i=>obtain⟨t,e⟩:=(show ∃t,u=Value.int i t from Y);cases e;cases (show T="int" from U);exact VP PySem.W.kitx_int I.kIn Wo hk (λz=>nomatch z) J
 | str y=>obtain⟨t,e⟩:=(show ∃t,u=Value.str y t from Y);cases e;cases (show T="str" from U);exact VP PySem.W.kitx_str I.kIn Wo hk (λz=>nomatch z) J
 | ref a=>
  cases (show u=Value.ref a from Y)
  rcases U with⟨rfl,xs,hs⟩ | ⟨rfl,xs,hs⟩
  ·obtain⟨ac,rv,⟨o,n,ho,hc,_⟩,_⟩:=I.list hs
   exact VP PySem.W.kitx_list I.kIn ⟨o,ho,hc⟩ hk (λz=>nomatch z) J
  ·obtain⟨ac,rv,⟨o,ho,hc,_⟩,_⟩:=I.tuple hs
   exact VP PySem.W.kitx_tuple I.kIn ⟨o,ho,hc⟩ hk (λz=>nomatch z) J
 | byt y=>exact Fk U
 | flt y=>exact Fk U
 | ty y=>exact Fk U
end
structure RB(S:List Addr)(e:Addr)(oe:Obj)(h h':Heap)(T:Addr):Prop where
 keep:∀b o,h.get? b=some o->b∉S->b≠e->h'.get? b=some o
 slot:∀b o,h.get? b=some o->b∈S->∃sl,h'.get? b=some {o with slots:=sl}
 new:h.objs.size<=T
 ne:T≠e
 exc:∃oe' vs,h'.get? e=some oe'/\oe'.cls=oe.cls/\oe'.dict=oe.dict/\oe'.data=.fields vs/\vs[1]? =some (.ref T)
 trc:∃oT ts,h'.get? T=some oT/\oT.data=.fields ts/\ts[3]? =some .none
section
variable {M : Model} {A : Around} {E : Value → Shared → Prop} {s : Shared}
structure Trc(h:Heap)(e:Addr)(oe:Obj)(T:Addr):Prop where
 exc:h.get? e=some oe
 dat:∃vs,oe.data=.fields vs/\vs[1]? =some (.ref T)
 ne:T≠e
 trc:∃oT ts,h.get? T=some oT/\oT.data=.fields ts/\ts[3]? =some .none
end
theorem gS.there{P:Program}{w:World}{H:Hp}{h:Heap}{a:Addr}{o:HO}(x:gS P w H h a o):∃u,h.get? a=some u:=by
 cases o with
 | lst xs=>exact let ⟨_,_,_,_,e⟩:=x;⟨_,e⟩
 | tup xs=>exact let ⟨_,_,_,J,e,_⟩:=x;⟨_,e⟩
 | dK U=>exact let ⟨_,_,_,_,J,_,_,e,_⟩:=x;⟨_,e⟩
 | dT U=>exact let ⟨_,_,_,_,J,_,_,e,_⟩:=x;⟨_,e⟩
 | set S n=>exact let ⟨J,_,_,_,e,_⟩:=x;⟨_,e⟩
 | ins C dx fs=>exact let ⟨_,_,_,e,_⟩:=x;⟨_,e⟩
 | own y=>exact x
 | xd fs=>exact let ⟨_,⟨_,_,_,e,_⟩,_⟩:=x;⟨_,e⟩
 | rng lo hi=>exact let ⟨_,_,_,e⟩:=x;⟨_,e⟩
 | frz J u=>exact let ⟨e,_⟩:=x;⟨_,e⟩
 | tbl ps=>exact⟨_,x⟩
 | met f y=>exact⟨_,x⟩
 | ext φ=>exact x.2.1
theorem HOk.free{P:Program}{w:World}{H:Hp}{h:Heap}{a:Addr}(x:HOk P w H h)(n:h.get? a=none):H a=none:=by
 cases e:H a with
 | none=>rfl
 | some o=>
  obtain⟨u,hu⟩:=(x a o e).there
  rw[n] at hu;cases hu
structure Pj(P:Program)(w:World)(fs:List Addr)(H:Hp)(h:Heap)(x:Addr)(H':Hp)(h':Heap)(oe:Obj)(T C:Addr):Prop where
 un:Un fs [] H H' h h'
 hok:HOk P w H' h'
 nx:h.get? x=none
 nT:h.get? T=none
 hx:H' x=none
 hT:H' T=none
 tr:Trc h' x oe T
 cls:oe.cls=.ref C
def CXE(P:Program)(w:World):CXT:=λouter H s E e s'=>∃x J T H' C,e=.ref x/\s'.os=s.os/\AllBare s'.gens/\Pj P w (frs outer) H s.heap x H' s'.heap J T C/\E (.ref C) J.dict H'
section
variable {X : Cx} {pins : List (Addr × Obj)} {σ : St} {H : Hp} {s : Shared}
theorem Inv.old(I:Inv X pins σ H s)(J:X.ex=[]){a:Addr}(n:s.heap.get? a=none):X.s₀.heap.get? a=none:=by
 cases e:X.s₀.heap.get? a with
 | none=>rfl
 | some o=>
  obtain⟨o',q⟩:=I.base.there a o e (by rw[J];simp)
  rw[n] at q;cases q
end
section
variable {P : Program} {w : World} {K : Fa} {mg : Str → Option Value} {base : Heap} {N : List Str} {qual : Str} {scope : Scope} {f : Addr} {cd : Value} {A : Around} {outer : List Env} {s0 : Shared} {H0 : Hp} {E : XK}
end
section
variable {X : Cx} {E : XK} {c : Str} {C : Addr} {np cpos pos : Pos} {e : Expr} {es : List Expr} {t : TA} {B newId initId : String} {bmB : List Value}
end
section
variable {P : Program} {w : World} {K : Fa} {mg : Str → Option Value} {base : Heap}
theorem Fun.okE {CX:CXT} {x qual:Str} {st:Stmt} {f:Addr} {fd:FuncData} {N ps:List Str} {k:Nat} {sp:Sp} (F:Fun K x qual st f fd) (S:bc N ps (aw st)) (U:∀vs H Q E,sp vs H Q E->vs.length=ps.length)
 (hb:∀(J:Value) (A:Around) (outer:List Env) (s:Shared) (H:Hp) (vs:List V) (Q:VK) (E:XK),eL k (A.deeper (envOfC qual (aw st) s.heap.objs.size f J))->sp vs H Q E->
  ∃t,PSs (tN CX P w K mg base N qual (aw st) f J A outer s H E) (aZ st) t/\t {nx:=λ_ H'=>Q .non H',rt:=Q} (start N vs) H):gH P w K mg base CX (k+1) f fd ps sp:=by
 obtain⟨oc,od,kV,ab,pm,an,J,ct,ac,rfl,look,Y⟩:=F.ex
 exact Kt look Y S U (hb J)
end
theorem Kk {l:Xb} {n k:Nat} {q:Program} {J:List Str} {XP:(Str->Option Value)->Heap->Prop} {YP:World->Heap->Prop} {d:DefRec} {K:Params->Fa} {sp:Fa->Sp} {x:Str} (hn:l.most=some n) (U:n<=sizeLine)
 (Y:d.params.defaults=[]) (hr:eL k callerA) (hi:importsNone q=true) (hY:∀(w:World) (h:Heap),YP w h->(K w.params).In h) (F:∀(w:World) (mg:Str->Option Value) (fa:Addr) (h:Heap),(K w.params).In h->h.Ns mainGlobals mg->mg d.name=some (.ref fa)->
  ∃fd:FuncData,(∀(s:Shared) (u:Value),BindsTo s fd ⟨[u],[]⟩ [(x,u)])/\∀base:Heap,(K w.params).In base->base.Ns mainGlobals mg->gH l.prog w (K w.params) mg base (CXE l.prog w) k fa fd [x] (sp (K w.params)))
 (ab:∀(K:Fa) (H:Hp) (a:Addr) (ns:List Int),ns.length<=n->FQ H->SqL K H a (ns.map V.int)->sp K [.ref a] H (λv _=>v=.bl true) λ_ _ _=>False):X5 q J XP YP l.row.toRowW d [] (λf vs=>XY f vs):=
 K9 (K:=K) (CX:=λw=>CXE l.prog w) (sp:=λw=>sp (K w.params)) hn U Y hr hi hY F (λw H a ns h1 h2 h3=>ab (K w.params) H a ns h1 h2 h3) λ_ _ _ _ _ ⟨_,_,_,_,_,_,_,_,_,z⟩=>z
def LN(CX:CXT)(X:Cx)(Es:St->XK):Prop:=∀(pins:List (Addr×Obj)) (σ:St) (H:Hp) (s:Shared) (e:Value) (s':Shared),Inv X pins σ H s->CX X.stack H s (Es σ) e s'->X.xe e s'
theorem Passes.s{CX:CXT}{X:Cx}{E:XK}(h:Passes CX X E):LN CX X λ_=>E:=h
section
variable {X : Cx} {CX : CXT} {k : Nat} {f C : Addr} {fd : FuncData} {ps : List Str} {sp : Sp} {dvs : List V} {ds : List Value} {Es : St → XK} {x m : Str} {p pos apos : Pos} {e o : Expr} {es : List Expr} {ta : TE} {t : TA}
end
abbrev Cx.pinned(X:Cx)(p:List (Addr×Obj))(E:Value->Shared->Prop):Cx:={X with pn:=p,xe:=E}
theorem Cx.Ok.pinned{X:Cx}(ok:X.Ok)(p:List (Addr×Obj))(E:Value->Shared->Prop):(X.pinned p E).Ok:=⟨ok.mod,ok.kind,ok.glob,ok.blt,ok.above,ok.inj,ok.has,ok.cab,ok.hd,ok.frames,ok.stk,ok.exf,ok.bs,ok.bsz,ok.noex,ok.exfs,ok.funs,ok.frf⟩
theorem Cx.Ok.unpinned{X:Cx}{p:List (Addr×Obj)}{E:Value->Shared->Prop}(ok:(X.pinned p E).Ok):X.Ok:=⟨ok.mod,ok.kind,ok.glob,ok.blt,ok.above,ok.inj,ok.has,ok.cab,ok.hd,ok.frames,ok.stk,ok.exf,ok.bs,ok.bsz,ok.noex,ok.exfs,ok.funs,ok.frf⟩
section
variable {X : Cx} {pins : List (Addr × Obj)} {σ : St} {H : Hp} {s : Shared} {E : Value → Shared → Prop}
end
def exO(a C:Addr):HO:=.ext λh=>∃o,h.get? a=some o/\o.cls=.ref C/\o.dict=none/\(∀cd,o.data≠ .cls cd)
section
variable {X : Cx} {pins : List (Addr × Obj)} {σ : St} {H : Hp} {s : Shared} {v : Value}
end
structure tH(X:Cx)(pins:List (Addr×Obj))(H:Hp)(s:Shared)(x C:Addr):Prop where
 tr:∃oe T,Trc s.heap x oe T/\oe.cls=.ref C/\oe.dict=none
 hx:H x=none
 h0:X.s₀.heap.get? x=none
 nl:x≠X.env.locals
 nc:∀y c,X.env.cells.lookup y=some c->c≠x
 np:∀p∈X.pn++pins,p.1≠x
theorem tH.kept{X:Cx}{pins:List (Addr×Obj)}{H:Hp}{s:Shared}{x C:Addr}{h':Heap}(c:tH X pins H s x C)(k:∀b u,s.heap.get? b=some u->h'.get? b=some u):tH X pins H {s with heap:=h'} x C:=
 let ⟨oe,T,⟨e,d,n,oT,ts,a1,a2⟩,hc⟩:=c.tr
 ⟨⟨oe,T,⟨k _ _ e,d,n,oT,ts,k _ _ a1,a2⟩,hc⟩,c.hx,c.h0,c.nl,c.nc,c.np⟩
theorem tH.obj{X:Cx}{pins:List (Addr×Obj)}{H:Hp}{s:Shared}{x C:Addr}(c:tH X pins H s x C):∃o,s.heap.get? x=some o/\o.cls=.ref C/\o.dict=none/\∀cd,o.data≠ .cls cd:=
 let ⟨oe,T,⟨e,⟨vs,d,_⟩,_,_⟩,hc,hd⟩:=c.tr
 ⟨oe,e,hc,hd,λcd z=>by rw[d] at z;cases z⟩
section
variable {X : Cx} {c : Str} {Dc : Addr} {np pos : Pos} {b0 : Stmt} {suite : List Stmt} {rest : List ExceptHandler} {sub : Addr → Option Bool} {tb : TS} {th : Addr → TS}
end
open PySem PySem.Spec PyProof.Rows PySem.W
structure ExK(K:Fa)(D:Addr):Prop where
 ga:findIn K (.ref D) "__getattribute__" =some (some (.builtin "BaseException.__getattribute__"))
 hk:findIn K (.ref D) "__getattr__" =some none
 cl:findIn K (.ref D) "__class__" =some (some (.builtin "object.__class__"))
 gt:specialIn K (.builtin "object.__class__") "__get__" =some (some (.builtin "getset_descriptor.__get__"))
 tk:takesIn K (.builtin "object.__class__")=some true
 ob:mroIn K D (.type "object")=some true
 be:mroIn K D (.type "BaseException")=some true
section
variable {prog : Program} {w : World} {A : Around} {E : Value → Shared → Prop} {s : Shared} {K : Fa} {x D : Addr} {ox : Obj}
theorem ExK.cls(k:ExK K D):(clsIn K D).isSome=true:=by
 obtain⟨cd,hc,_⟩:=Option.bind_eq_some_iff.mp k.ob
 rw[hc];rfl
end
open PySem PySem.Spec PyProof.Rows
section
variable {X : Cx} {pins : List (Addr × Obj)} {σ : List (Option V)} {H : Hp} {s : Shared} {h' : Heap}
theorem Inv.turnedL{t':Nat}{ch:List Addr}(I:Inv X pins σ H s)(k:∀b o,b∉ch->s.heap.get? b=some o->h'.get? b=some o)(U:∀b∈ch,nv X pins H b):Inv X pins σ H {s with heap:=h',toks:=t'}:=by
 have J:∀b u,H b=some u->b∉ch:=λb u e z=>by rw[(U b z).1] at e;cases e
 refine I.step (g':=s.gens) (d':=s.drawn) (ch:=ch) (λb hb=> ?_) (λb o _ _ hc e _=>k b o hc e) (λb o _ _ hc e _=>⟨o.slots,k b o hc e⟩) (λ_ _ _ _ n=>n)
  (λb o hc e=>⟨o,k b o hc e⟩) (λ_ _ e=>e) (λ_ _ _ e=>e) (λb ps e=>⟨#[],by rw[e];simp⟩) (λm hm=> ?_) (λb u e=> ?_) I.bare
 ·obtain⟨f0,Y,f2,f3,f4,f5⟩:=U b hb
  exact⟨f3,Y,f4,f5⟩
 ·obtain⟨o,es,ep,ho,r⟩:=hm
  exact⟨o,es,ep,k _ o (λz=>(U _ z).2.1 rfl) ho,r⟩
 ·refine(I.hok b u e).stay (λc v hc q=>k c v ?_ q) (λ_ q=>q) λ_ _ q=>q
  rcases hc with z | z
  ·rw[z];exact J b u e
  ·exact J c _ z
theorem Inv.turnedT {t':Nat} {ch:List Addr} {T:Addr} {xs:List V} (I:Inv X pins σ H s) (k:∀b o,b∉ch->s.heap.get? b=some o->h'.get? b=some o) (U:∀b∈ch,nv X pins H b) (hT:s.heap.objs.size<=T)
 (Y:gS X.prog X.w (upd H T (.tup xs)) h' T (.tup xs)):Inv X pins σ (upd H T (.tup xs)) {s with heap:=h',toks:=t'}:=by
 have hn:H T=none:=I.hok.fresh hT
 have J:∀b u,H b=some u->b∉ch:=λb u e z=>by rw[(U b z).1] at e;cases e
 refine I.step (g':=s.gens) (d':=s.drawn) (ch:=ch) (λb hb=> ?_) (λb o _ _ hc e _=>k b o hc e) (λb o _ _ hc e _=>⟨o.slots,k b o hc e⟩) (λb o _ e n=> ?_)
  (λb o hc e=>⟨o,k b o hc e⟩) (λb xs e=>by rw[aS (fR e hn)];exact e) (λb o u e=>by rw[aS (fR e hn)];exact e) (λb ps e=>⟨#[],by rw[aS (fR e hn),e];simp⟩) (λm hm=> ?_) (λb u e=> ?_) I.bare
 ·obtain⟨f0,f1,f2,f3,f4,f5⟩:=U b hb
  exact⟨f3,f1,f4,f5⟩
 ·have hb:b≠T:=λz=>by
   subst z
   exact absurd (Ux (Heap.lt_size e) hT) (U8 _)
  rw[aS hb];exact n
 ·obtain⟨o,es,ep,ho,r⟩:=hm
  exact⟨o,es,ep,k _ o (λz=>(U _ z).2.1 rfl) ho,r⟩
 ·by_cases hb:b=T
  ·subst hb;rw[cO] at e;cases e;exact Y
  ·rw[aS hb] at e
   refine(I.hok b u e).stay (λc v hc q=>k c v ?_ q) (λc q=>by rw[aS (fR q hn)];exact q) λc xs q=>by rw[aS (fR q hn)];exact q
   rcases hc with z | z
   ·rw[z];exact J b u e
   ·exact J c _ z
end
def Itz(K:Fa)(a b:Addr):It:=
 ⟨λi H=>∃xs ys x y,SqL K H a xs/\SqL K H b ys/\xs[i]? =some x/\ys[i]? =some y,
  λi H v H'=>∃T x y,H T=none/\v=.ref T/\H'=upd H T (.tup [x,y])/\(∀xs,SqL K H a xs->xs[i]? =some x)/\∀ys,SqL K H b ys->ys[i]? =some y,
  λi H=>∃xs ys,SqL K H a xs/\SqL K H b ys/\(xs.length<=i\/ys.length<=i)⟩
def Ite(K:Fa)(a:Addr):It:=
 ⟨λi H=>∃xs x,SqL K H a xs/\xs[i]? =some x,
  λi H v H'=>∃T x,H T=none/\v=.ref T/\H'=upd H T (.tup [.int i,x])/\∀xs,SqL K H a xs->xs[i]? =some x,
  λi H=>∃xs,SqL K H a xs/\xs.length<=i⟩
def Its(x:Str):It:=⟨λi _=>i<x.cps.size,λi H v H'=>H'=H/\∃c,x.cps[i]? =some c/\v=.str ⟨#[c]⟩,λi _=>x.cps.size<=i⟩
theorem GK{P:Program}{w:World}{H:Hp}{h:Heap}{T:Addr}{x y:V}{u v:Value}(J:RelV x u)(U:RelV y v)(Y:h.IsTuple T #[u,v]):gS P w H h T (.tup [x,y]):=by
 refine⟨by simp only[Uq,Xc];rw[sizeLine_eq];decide,[u,v],.cons J (.cons U .nil), ?_⟩
 exact Y
theorem JX{P:Program}{w:World}{K:Fa}{elts:List Expr}{kk:Nat}{tp:Pos}{z TI TO i1 i2 a b:Addr}(D:ZipApart z TI TO i1 i2 a b):
 Turn P w K (.Tuple elts kk tp) (Itz K a b) [z,TI,TO,i1,i2] z (λi h=>IsZip h z TI TO .none/\IsPair h TI (.ref i1) (.ref i2)/\(∃u v,IsPair h TO u v)/\h.IsListIter i1 a i/\h.IsListIter i2 b i) where
 mem:=by simp
 obj:=λi h st c hc=>by
  obtain⟨q1,q2,⟨u,v,q3⟩,⟨o1,e1,c1,d1⟩,⟨o2,e2,c2,d2⟩⟩:=st
  simp only[Um,Vv,or_false] at hc
  rcases hc with rfl | rfl | rfl | rfl | rfl
  ·exact⟨_,q1,λv z=>by have z':Data.fields _=Data.cell v:=z;cases z'⟩
  ·exact⟨_,q2,λv z=>by have z':Data.seq _ _=Data.cell v:=z;cases z'⟩
  ·exact⟨_,q3,λv z=>by have z':Data.seq _ _=Data.cell v:=z;cases z'⟩
  ·exact⟨o1,e1,λv z=>by rw[d1] at z;cases z⟩
  ·exact⟨o2,e2,λv z=>by rw[d2] at z;cases z⟩
 keep:=λi h h' st k=>by
  obtain⟨q1,q2,⟨u,v,q3⟩,q4,q5⟩:=st
  exact⟨k z (by simp) _ q1,k TI (by simp) _ q2,⟨u,v,k TO (by simp) _ q3⟩,q4.at λo e=>k i1 (by simp) o e,q5.at λo e=>k i2 (by simp) o e⟩
 item:=by
  intro X hP hw hK hc i pins s σ H E I hf st hg
  subst hP hw hK
  obtain⟨xs,ys,x,y,hq1,hq2,hx,hy⟩:=hg
  obtain⟨its1,rv1,p1,hz1⟩:=I.list hq1
  obtain⟨its2,rv2,p2,hz2⟩:=I.list hq2
  obtain⟨u,hu,ru⟩:=rv1.get hx
  obtain⟨v,hv,rv⟩:=rv2.get hy
  obtain⟨q1,q2,q3,q4,q5⟩:=id st
  have W:=WalksT.zip2 (prog:=X.prog) (w:=X.w) (A:=X.A) (I.ok.hd hc) z TI TO i1 i2 a b D its1.toArray its2.toArray
  have hi1:i<its1.length:=(Ur.mp hu).1
  have hi2:i<its2.length:=(Ur.mp hv).1
  refine W.item i s _ _ (by simp;omega) ⟨q1,q2,q3,q4,q5,p1.isList,p2.isList⟩ λT vals h1 tk hP hT isT mid kk1=>⟨.ref T,rfl,W.go elts _ tp i T _ _ _ mid λh2 st2 kk2=> ?_⟩
  obtain⟨u',v',e1,e2,rfl⟩:=hP
  rw[show its1.toArray[i]? =its1[i]? by simp,hu] at e1
  rw[show its2.toArray[i]? =its2[i]? by simp,hv] at e2
  cases e1;cases e2
  have nT:T∉([z,TO,i1,i2]:List Addr):=W.apart i T _ mid
  have sub:∀c,c∈([z,TO,i1,i2]:List Addr)->c∈([z,TI,TO,i1,i2]:List Addr):=λc hc=>by
   simp only[Um,Vv,or_false] at hc ⊢
   rcases hc with h | h | h | h <;> simp[h]
  have kk:∀c o,c∉([z,TO,i1,i2]:List Addr)->s.heap.get? c=some o->h2.get? c=some o:=λc o hc e=>kk2 c o hc (kk1 c o hc e)
  have isT2:h2.IsTuple T #[u,v]:=by
   obtain⟨o,e,c,d⟩:=isT
   exact⟨o,kk2 T o nT e,c,d⟩
  have I2:Inv X pins σ (upd H T (.tup [x,y])) {s with heap:=h2,toks:=tk}:=I.turnedT kk (λc hc=>hf c (sub c hc)) hT (GK ru rv isT2)
  refine⟨.ref T,_,I2,rfl,⟨T,x,y,I.hok.fresh hT,rfl,rfl,λxs' h=>by rw[I.list_inj h hq1];exact hx,λys' h=>by rw[I.list_inj h hq2];exact hy⟩,⟨st2.1,st2.2.1,st2.2.2.1,st2.2.2.2.1,st2.2.2.2.2.1⟩,λc hc=> ?_⟩
  have hc0:=(hf c hc).1
  rw[aS (λe=> ?_)]
  ·exact hc0
  ·subst e
   simp only[Um,Vv,or_false] at hc
   rcases hc with h | h | h | h | h
   ·exact nT (by simp[h])
   ·have:TI<s.heap.objs.size:=Heap.lt_size q2
    rw[<- h] at this
    exact absurd (Ux this hT) (U8 _)
   ·exact nT (by simp[h])
   ·exact nT (by simp[h])
   ·exact nT (by simp[h])
 done:=by
  intro X hP hw hK hc i pins s σ H E I hf st hg
  subst hP hw hK
  obtain⟨xs,ys,hq1,hq2,hx⟩:=hg
  obtain⟨its1,rv1,p1,hz1⟩:=I.list hq1
  obtain⟨its2,rv2,p2,hz2⟩:=I.list hq2
  have l1:=rv1.length
  have l2:=rv2.length
  obtain⟨q1,q2,⟨u,v,q3⟩,q4,q5⟩:=id st
  refine wpAny_pyNext_zip_end (I.ok.hd hc) D q1 q2 q3 q4 q5 p1.isList p2.isList (by
   rcases hx with h | h
   ·left;simp;omega
   ·right;simp;omega) λh' hk=>⟨rfl, ?_⟩
  exact I.turnedL (t':=s.toks) (ch:=[z,TI,TO,i1,i2]) (λc o hc e=>hk c o (λx=>hc (by simp[x])) (λx=>hc (by simp[x])) (λx=>hc (by simp[x])) (λx=>hc (by simp[x])) e) hf
 self:=λ_ _ _ _ _ st h=>wpAny_pyIter_zip st.1 h
theorem G3{P:Program}{w:World}{K:Fa}{elts:List Expr}{kk:Nat}{tp:Pos}{e it a:Addr}(hei:e≠it)(hle:a≠e)(hli:a≠it):
 Turn P w K (.Tuple elts kk tp) (Ite K a) [e,it] e (λi h=>(∃old,IsEnum h e it i old)/\h.IsListIter it a i) where
 mem:=by simp
 obj:=λi h st c hc=>by
  obtain⟨⟨old,q1⟩,⟨o1,e1,c1,d1⟩⟩:=st
  simp only[Um,Vv,or_false] at hc
  rcases hc with rfl | rfl
  ·exact⟨_,q1,λv z=>by have z':Data.fields _=Data.cell v:=z;cases z'⟩
  ·exact⟨o1,e1,λv z=>by rw[d1] at z;cases z⟩
 keep:=λi h h' st k=>by
  obtain⟨⟨old,q1⟩,q4⟩:=st
  exact⟨⟨old,k e (by simp) _ q1⟩,q4.at λo e'=>k it (by simp) o e'⟩
 item:=by
  intro X hP hw hK hc i pins s σ H E I hf st hg
  subst hP hw hK
  obtain⟨xs,x,hq1,hx⟩:=hg
  obtain⟨its1,rv1,p1,hz1⟩:=I.list hq1
  obtain⟨u,hu,ru⟩:=rv1.get hx
  obtain⟨q1,q4⟩:=id st
  have W:=WalksT.enumerate (prog:=X.prog) (w:=X.w) (A:=X.A) (I.ok.hd hc) e it a hei hle hli its1.toArray
  have hi1:i<its1.length:=(Ur.mp hu).1
  refine W.item i s _ _ (by simpa using hi1) ⟨q1,q4,p1.isList⟩ λT vals h1 tk hP hT isT mid kk1=>⟨.ref T,rfl,W.go elts _ tp i T _ _ _ mid λh2 st2 kk2=> ?_⟩
  obtain⟨t,u',e1,rfl⟩:=hP
  rw[show its1.toArray[i]? =its1[i]? by simp,hu] at e1
  cases e1
  have nT:T∉([e,it]:List Addr):=W.apart i T _ mid
  have kk:∀c o,c∉([e,it]:List Addr)->s.heap.get? c=some o->h2.get? c=some o:=λc o hc e=>kk2 c o hc (kk1 c o hc e)
  have isT2:h2.IsTuple T #[.int i t,u]:=by
   obtain⟨o,e,c,d⟩:=isT
   exact⟨o,kk2 T o nT e,c,d⟩
  have I2:Inv X pins σ (upd H T (.tup [.int i,x])) {s with heap:=h2,toks:=tk}:=I.turnedT kk hf hT (GK ⟨t,rfl⟩ ru isT2)
  refine⟨.ref T,_,I2,rfl,⟨T,x,I.hok.fresh hT,rfl,rfl,λxs' h=>by rw[I.list_inj h hq1];exact hx⟩,⟨st2.1,st2.2.1⟩,λc hc=> ?_⟩
  have hcT:c≠T:=λz=>by
   subst z
   exact nT hc
  rw[aS hcT]
  exact(hf c hc).1
 done:=by
  intro X hP hw hK hc i pins s σ H E I hf st hg
  subst hP hw hK
  obtain⟨xs,hq1,hx⟩:=hg
  obtain⟨its1,rv1,p1,hz1⟩:=I.list hq1
  have l1:=rv1.length
  obtain⟨⟨old,q1⟩,q4⟩:=id st
  refine wpAny_pyNext_enum_end (I.ok.hd hc) q1 q4 p1.isList (by simp;omega) λh' hk=>⟨rfl, ?_⟩
  exact I.turnedL (t':=s.toks) (ch:=[e,it]) (λc o hc e'=>hk c o (λx=>hc (by simp[x])) e') hf
 self:=λ_ _ _ _ _ st h=>let ⟨_,q⟩:=st.1;wpAny_pyIter_enum q h
theorem II{P:Program}{w:World}{K:Fa}{tg:Expr}(it:Addr)(x:Str)(t:Tok)(ty:String)(hty:ty="str_ascii_iterator" \/ty="str_iterator"):Turn P w K tg (Its x) [it] it (λi h=>h.IsStrIter it ty x t i) where
 mem:=by simp
 obj:=λi h st b hb=>by
  have e:b=it:=by simpa using hb
  subst e
  obtain⟨o,e,c,d⟩:=st
  exact⟨o,e,λv z=>by rw[d] at z;cases z⟩
 keep:=λi h h' st k=>let ⟨o,ho,r⟩:=st;⟨o,k it (by simp) o ho,r⟩
 item:=by
  intro X hP hw hK hc i pins s σ H E I hf st hg
  subst hP hw hK
  have hg:i<x.cps.size:=hg
  have W:Walks X.prog X.w X.A it [it] [it] x.cps.size (SignAt x) (λi h=>h.IsStrIter it ty x t i):=by
   rcases hty with rfl | rfl
   ·exact Walks.strAscii (I.ok.hd hc) it x t
   ·exact Walks.strWide (I.ok.hd hc) it x t
  refine W.item i s _ _ hg st λv h' tk hv st' kk=> ?_
  obtain⟨c,u,hc',rfl⟩:=hv
  have I1:Inv X pins σ H {s with heap:=h',toks:=tk}:=I.turnedL kk hf
  obtain⟨o,e,hc1,d⟩:=id st'
  exact⟨_,rfl,Ez (s:={s with heap:=h',toks:=tk}) (n:=ty) e hc1 d (by rcases hty with rfl | rfl <;> decide) ⟨.str ⟨#[c]⟩,H,I1,⟨u,rfl⟩,⟨rfl,c,hc',rfl⟩,st',λb hb=>(hf b hb).1⟩⟩
 done:=by
  intro X hP hw hK hc i pins s σ H E I hf st hg
  subst hP hw hK
  have hg:x.cps.size<=i:=hg
  rcases hty with rfl | rfl
  ·exact wpAny_pyNext_ascii_end (I.ok.hd hc) st (by simp;omega) λh' eb=>⟨rfl,I.turnedL (t':=s.toks) (ch:=[it]) (λb o hb e=>eb b o (λz=>hb (by simp[z])) e) hf⟩
  ·exact wpAny_pyNext_wide_end (I.ok.hd hc) st (by simp;omega) λh' eb=>⟨rfl,I.turnedL (t':=s.toks) (ch:=[it]) (λb o hb e=>eb b o (λz=>hb (by simp[z])) e) hf⟩
 self:=λ_ _ _ _ _ st h=>by
  rcases hty with rfl | rfl
  ·exact wpAny_pyIter_striter_ascii st h
  ·exact wpAny_pyIter_striter_wide st h
section
variable {X : Cx} {tg : Expr}
def Ii(K:Fa)(ta:TA):TI:=λσ H R=>ta σ H λvs H1=>∃a b,vs=[.ref a,.ref b]/\(∃xs,SqL K H1 a xs)/\(∃ys,SqL K H1 b ys)/\R (Itz K a b) H1
def Kv(K:Fa)(ta:TA):TI:=λσ H R=>ta σ H λvs H1=>∃a,vs=[.ref a]/\(∃xs,SqL K H1 a xs)/\R (Ite K a) H1
def Nd(te:TE):TI:=λσ H R=>te σ H λx H1=>∃z,x=.str z/\R (Its z) H1
theorem wY{J:List Expr}{kk:Nat}{tp:Pos}{a b:Expr}{ta:TA}{p pos:Pos}(hg:Gl X "zip")(hm:X.mg "zip" =none)(ha:PA X [a,b] ta)(hs:starEach [a,b] X.env=[(false,eval a X.env),(false,eval b X.env)]:=by rfl)(U:starEach [b] X.env=[(false,eval b X.env)]:=by rfl):
 PI X (.Tuple J kk tp) (.Call (.Name "zip" p) [a,b] [] pos) (Ii X.K ta):=by
 intro pins s σ H R I h
 refine Call_ (qR I hg hm Boot.«zip» (Vz (thn (ha pos pins s σ H _ I h) λus s1 ⟨vs,H1,I1,r1,q1⟩=> ?_) (by rw[hs,U]) (by rw[U];rfl)))
 obtain⟨l1,l2,e,⟨xs,Y⟩,⟨ys,ab⟩,q⟩:=q1
 subst e
 obtain⟨u,v,rfl,r,r'⟩:=vals2 r1
 cases r
 cases r'
 obtain⟨as,a9,p1,bb⟩:=I1.list Y
 obtain⟨az,bd,p2,be⟩:=I1.list ab
 refine call_zip_2 p1.isList p2.isList λh' hz ac am an ap bi hk=> ?_
 have a1:l1<s1.heap.objs.size:=by obtain⟨_,e,_⟩:=p1.isList;exact Heap.lt_size e
 have a2:l2<s1.heap.objs.size:=by obtain⟨_,e,_⟩:=p2.isList;exact Heap.lt_size e
 refine wpAny_pyIter_zip hz ⟨_,_,_,_,H1,rfl,I1.kept (t':=s1.toks) hk,JX (zipApart_new a1 a2),⟨hz,ac,⟨_,_,am⟩,an,ap⟩,λb hb=> ?_,q⟩
 have:s1.heap.objs.size<=b:=by
  simp only[Um,Vv,or_false] at hb
  rcases hb with rfl | rfl | rfl | rfl | rfl <;> omega
 exact I1.fpOk this (I1.hok.fresh this)
theorem nJ{J:List Expr}{kk:Nat}{tp:Pos}{a:Expr}{ta:TA}{p pos:Pos}(hg:Gl X "enumerate")(hm:X.mg "enumerate" =none)(ha:PA X [a] ta)(hs:starEach [a] X.env=[(false,eval a X.env)]:=by rfl):
 PI X (.Tuple J kk tp) (.Call (.Name "enumerate" p) [a] [] pos) (Kv X.K ta):=by
 intro pins s σ H R I h
 refine Call_ (qR I hg hm Boot.«enumerate» (Vz (thn (ha pos pins s σ H _ I h) λus s1 ⟨vs,H1,I1,r1,q1⟩=> ?_) hs rfl))
 obtain⟨l1,e,⟨xs,U⟩,q⟩:=q1
 subst e
 obtain⟨u,rfl,ru⟩:=vals1 r1
 cases ru
 obtain⟨ac,a2,p1,a3⟩:=I1.list U
 refine call_enumerate_list p1.isList λh' hz Y a4 hk=> ?_
 have a1:l1<s1.heap.objs.size:=by obtain⟨_,e,_⟩:=p1.isList;exact Heap.lt_size e
 refine wpAny_pyIter_enum hz ⟨_,_,_,_,H1,rfl,I1.kept (t':=s1.toks) hk,G3 (e:=s1.heap.objs.size+1) (it:=s1.heap.objs.size) (a:=l1) (Nat.succ_ne_self _) (UB (V8 a1)) (UB a1),⟨⟨_,hz⟩,Y⟩,λb hb=> ?_,q⟩
 have:s1.heap.objs.size<=b:=by
  simp only[Um,Vv,or_false] at hb
  rcases hb with rfl | rfl <;> omega
 exact I1.fpOk this (I1.hok.fresh this)
theorem N7{l:Expr}{tl:TE}(Y:PE X l tl):PI X tg l (Nd tl):=by
 intro pins s σ H R I h
 refine thn (Y pins s σ H _ I h) λv s1 ⟨x,H1,I1,r1,q1⟩=> ?_
 obtain⟨z,e,q⟩:=q1
 subst e
 obtain⟨t,rfl⟩:=r1
 have J:∀(ty:String),(ty="str_ascii_iterator" \/ty="str_iterator")->PIE X pins σ tg R (.ref s1.heap.objs.size) {s1 with heap:=s1.heap.push {cls:=.type ty,data:=.fields #[.str z t,.int 0 0]}}:=λty U=>by
  refine⟨s1.heap.objs.size,[s1.heap.objs.size],_,_,H1,rfl,I1.kept (t':=s1.toks) λb o e=>Heap.get?_push_of_some _ e,II _ z t ty U,⟨_,Heap.get?_push_size _ rfl,rfl,rfl⟩,λb hb=> ?_,q⟩
  have e:b=s1.heap.objs.size:=by simpa using hb
  subst e
  exact I1.fpOk (Ud _) (I1.hok.fresh (Ud _))
 cases ha:z.cps.all (· < 128)
 ·exact wpAny_pyIter_wide ha (J _ (.inr rfl))
 ·exact wpAny_pyIter_ascii ha (J _ (.inl rfl))
theorem rY:∀{ns:List Int} {J:List Value},Vals (ns.map V.int) J->IntsAre J ns
 | [],_,r=>by cases r;exact .nil
 | n::ns,_,r=>by
  cases r with
  | cons U Y=>
   obtain⟨t,rfl⟩:=U
   exact .cons _ _ (rY Y)
theorem oa(hc:X.calm=true:=by rfl):iG X (.builtin "sum") (λxs H Q=>∃(p:Addr) (ns:List Int),xs=[.ref p]/\SqL X.K H p (ns.map V.int)/\Q (.int ns.sum) H):=by
 intro pins s σ H xs us Q I r h
 obtain⟨p,ns,rfl,hq,q⟩:=h
 obtain⟨u,rfl,ru⟩:=vals1 r
 cases ru
 obtain⟨J,rv,pl,hz⟩:=I.list hq
 have Y:=rY rv
 obtain⟨xs,U⟩:=Y.allInts.items
 have hn:numsOf J=ns:=Y.numsOf
 rw[show J=J.toArray.toList by simp,U,nums_intItems] at hn
 refine sum_intListG (I.ok.hd hc) (U▸pl.isList) λh' tk t' hk=> ?_
 rw[preSum_eq,Vx (by simp),hn]
 exact⟨.int ns.sum,H,I.kept (t':=tk) hk,⟨t',rfl⟩,q⟩
theorem Ky{bs:List Bool}{J:List Value}(U:Vals (bs.map V.bl) J){i:Nat}{v:Value}(h:J.toArray[i]? =some v):v=.bool (bs.getD i false):=by
 have hi:i<J.length:=by
  have:=(Array.getElem?_eq_some_iff.mp h).1
  simpa using this
 have hb:i<bs.length:=by have:=U.length;rw[T3] at this;omega
 obtain⟨u,hu,Y⟩:=U.get (i:=i) (x:=.bl bs[i]) (by simp[hb])
 rw[show J.toArray[i]? =J[i]? by simp,hu] at h
 cases h
 cases Y
 simp[Fm,hb]
theorem all_range(bs:List Bool):(T9 bs.length).all (λi=>bs.getD i false)=bs.all id:=by
 induction bs with
 | nil=>rfl
 | cons b bs J=>
  rw[Uq,Wc,Wd,WW,Wd]
  simp only[V9,Xq,Xr,id]
  rw[J]
theorem any_range(bs:List Bool):(T9 bs.length).any (λi=>bs.getD i false)=bs.any id:=by
 induction bs with
 | nil=>rfl
 | cons b bs J=>
  rw[Uq,Wc,WK,WX,WK]
  simp only[V9,Xq,Xr,id]
  rw[J]
theorem zN(hc:X.calm=true:=by rfl):iG X (.builtin "all") (λxs H Q=>∃(p:Addr) (bs:List Bool),xs=[.ref p]/\SqL X.K H p (bs.map V.bl)/\Q (.bl (bs.all id)) H):=by
 intro pins s σ H xs us Q I r h
 obtain⟨p,bs,rfl,hq,q⟩:=h
 obtain⟨u,rfl,ru⟩:=vals1 r
 cases ru
 obtain⟨J,rv,pl,hz⟩:=I.list hq
 have Y:=pl.isList
 have lt:p<s.heap.objs.size:=by obtain⟨_,e,_⟩:=Y;exact Heap.lt_size e
 have U:J.toArray.size=bs.length:=by have:=rv.length;rw[T3] at this;simp;omega
 refine call_all_walk (wpAny_pyIter_list Y ?_)
 refine⟨_,_,_,_,_,_,λi=>bs.getD i false,rfl,Walks.list (A:=X.A.in1) (I.ok.hd hc) s.heap.objs.size p (UB lt) J.toArray,⟨⟨_,Heap.get?_push_size _ rfl,rfl,rfl⟩,Y.push _⟩,λi v s' Q' E' hP hQ=> ?_,λh' tk hk=> ?_⟩
 ·rw[Ky rv hP]
  exact wpAny_truthy_bool hQ
 ·rw[U,all_range]
  refine⟨.bl (bs.all id),H,I.kept (t':=tk) λb o e=>hk b o (λz=> ?_) (Heap.get?_push_of_some _ e),rfl,q⟩
  have hb:=Heap.lt_size e
  rw[Ul.mp z] at hb
  exact absurd hb (U8 _)
theorem GW(hc:X.calm=true:=by rfl):iG X (.builtin "any") (λxs H Q=>∃(p:Addr) (bs:List Bool),xs=[.ref p]/\SqL X.K H p (bs.map V.bl)/\Q (.bl (bs.any id)) H):=by
 intro pins s σ H xs us Q I r h
 obtain⟨p,bs,rfl,hq,q⟩:=h
 obtain⟨u,rfl,ru⟩:=vals1 r
 cases ru
 obtain⟨J,rv,pl,hz⟩:=I.list hq
 have Y:=pl.isList
 have lt:p<s.heap.objs.size:=by obtain⟨_,e,_⟩:=Y;exact Heap.lt_size e
 have U:J.toArray.size=bs.length:=by have:=rv.length;rw[T3] at this;simp;omega
 refine call_any_walk (wpAny_pyIter_list Y ?_)
 refine⟨_,_,_,_,_,_,λi=>bs.getD i false,rfl,Walks.list (A:=X.A.in1) (I.ok.hd hc) s.heap.objs.size p (UB lt) J.toArray,⟨⟨_,Heap.get?_push_size _ rfl,rfl,rfl⟩,Y.push _⟩,λi v s' Q' E' hP hQ=> ?_,λh' tk hk=> ?_⟩
 ·rw[Ky rv hP]
  exact wpAny_truthy_bool hQ
 ·rw[U,any_range]
  refine⟨.bl (bs.any id),H,I.kept (t':=tk) λb o e=>hk b o (λz=> ?_) (Heap.get?_push_of_some _ e),rfl,q⟩
  have hb:=Heap.lt_size e
  rw[Ul.mp z] at hb
  exact absurd hb (U8 _)
end
def pick{α:Type}(xs:List α)(lo hi st:Option Int):List α:=(sliceRange (sliceBounds lo hi st xs.length).1 (sliceBounds lo hi st xs.length).2.1 (sliceBounds lo hi st xs.length).2.2).filterMap (xs[·]?)
theorem qJ{xs:List V}{us:List Value}(r:Vals xs us):∀J:List Nat,Vals (J.filterMap (xs[·]?)) (J.filterMap (us[·]?))
 | []=>.nil
 | j::J=>by
  have U:=qJ r J
  cases hn:xs[j]? with
  | some x=>
   obtain⟨u,hu,Y⟩:=r.get hn
   simp only[Vf,hn,hu]
   exact .cons Y U
  | none=>
   have hv:us[j]? =none:=by
    rw[VE] at hn ⊢
    rw[<- r.length];exact hn
   simp only[Vf,hn,hv]
   exact U
def Qt(K:Fa):V->Option Int->Option Int->Option Int->Hp->VK->Prop:=λx lo hi st H Q=>∃a xs,x=.ref a/\SqL K H a xs/\st≠some 0/\∀p,H p=none->Q (.ref p) (upd H p (.lst (pick xs lo hi st)))
def IC(K:Fa)(te:TE)(tl th ts:TO):TE:=λσ H Q=>te σ H λx H1=>tl σ H1 λl H2=>th σ H2 λu J=>ts σ J λst U=>Qt K x l u st U Q
section
variable {X : Cx} {e se : Expr} {te : TE} {lo hi : Option Expr} {tl th ts : TO} {pos p2 : Pos}
theorem Lw(he:PE X e te)(hl:PO X lo tl)(hu:PO X hi th)(hs:PO X (some se) ts):PE X (.Subscript e (.Slice lo hi (some se) p2) pos) (IC X.K te tl th ts):=by
 intro pins s σ H Q I h
 refine Subscript_ (thn (he pins s σ H _ I h) λv s1 ⟨x,H1,I1,r1,q1⟩=> ?_)
 refine wpAny_Slice (thn (hl pins s1 σ H1 _ I1 q1) λvl s2 ⟨l,H2,I2,pl,q2⟩=>thn (hu pins s2 σ H2 _ I2 q2) λvu s3 ⟨u,H3,I3,pu,q3⟩=>thn (hs pins s3 σ H3 _ I3 q3) λvs s4 ⟨st,H4,I4,ps,q4⟩=> ?_)
 have Y:Inv X pins σ H4 {s4 with heap:=s4.heap.push {cls:=.type "slice",data:=.fields #[vl,vu,vs]}}:=I4.kept (t':=s4.toks) λb ob q=>Heap.get?_push_of_some _ q
 obtain⟨a,xs,rfl,hx,h0,q⟩:=q4
 cases r1
 obtain⟨U,r,ht,hz⟩:=Y.list hx
 have J:=r.length
 show wpAny (model X.prog X.w) X.A (subscriptTail e (.Slice lo hi (some se) p2) (.ref a) (.ref s4.heap.objs.size)) (EP X pins σ Q) X.xe {s4 with heap:=s4.heap.push {cls:=.type "slice",data:=.fields #[vl,vu,vs]}}
 refine tail_any (ops:=[.ref a,.ref s4.heap.objs.size]) ht.isList.typeIs slot_list_getitem.lookup ?_ (by with_unfolding_all rfl)
 refine wpAny_getItem_list_slice ht.isList (Heap.IsSliceOf.new ..) pl pu ps h0 ?_ (by rw[Up] <;> omega)
 have hp:slicePick U.toArray l u st=((sliceRange (sliceBounds l u st xs.length).1 (sliceBounds l u st xs.length).2.1 (sliceBounds l u st xs.length).2.2).filterMap (U[·]?)).toArray:=by
  unfold slicePick
  rw[Up,<- J]
  simp
 have ab:(pick xs l u st).length<=xs.length:=by
  have h1:=slicePick_size_le U.toArray l u st
  rw[hp,Up,Up,<- J] at h1
  have h2:=(qJ r (sliceRange (sliceBounds l u st xs.length).1 (sliceBounds l u st xs.length).2.1 (sliceBounds l u st xs.length).2.2)).length
  show (List.filterMap (xs[·]?) _).length<=_
  rw[h2];exact h1
 rw[hp]
 refine⟨.ref _,_,Y.laid (t':=s4.toks) (o:=.lst (pick xs l u st)) (λb ob q=>Heap.get?_push_of_some _ q) (Ud _) ?_,rfl,q _ (Y.hok.fresh (Ud _))⟩
 exact⟨UI ab hz,_,0,qJ r _,Heap.get?_push_size _ rfl⟩
end
section
variable {X : Cx} {tg : Expr}
end
def mU(x:Str)(lo hi:Option Int):Str:=
 if ((Builtin.Str.strSliceIndices lo hi 1 x.length).length == x.length)=true then x else ⟨((Builtin.Str.strSliceIndices lo hi 1 x.length).filterMap (x.cps[·]?)).toArray⟩
section
variable {X : Cx}
def KS:V->Option Int->Option Int->Hp->VK->Prop:=λx lo hi H Q=>∃z,x=.str z/\z.length<=sizeLine/\Q (.str (mU z lo hi)) H
theorem GS:SlR X KS:=by
 intro pins s σ H x v vl vu lo hi sl Q I J U pl Y h
 obtain⟨z,rfl,hz,q⟩:=h
 obtain⟨t,rfl⟩:=J
 refine⟨"str",_,F.slot_str_getitem.lookup,typeIs_str _ _ _, ?_⟩
 have part:∀{v:Value} {o:Option Int},IsPart v o->∃p:Option (Int×Tok),v=partValue p/\p.map (·.1)=o:=λh=>by
  cases h with
  | none=>exact⟨none,rfl,rfl⟩
  | int i t=>exact⟨some (i,t),rfl,rfl⟩
 obtain⟨l,rfl,rfl⟩:=part pl
 obtain⟨u,rfl,rfl⟩:=part Y
 refine wpAny_getItem_str_slice (l:=l) (u:=u) (st:=none) U rfl ?_
 unfold sliceMade
 show Made.post (if (true&&((Builtin.Str.strSliceIndices (l.map (·.1)) (u.map (·.1)) 1 z.length).length == z.length))=true then _ else _) _ _
 unfold mU at q
 rw[We]
 by_cases hc:((Builtin.Str.strSliceIndices (l.map (·.1)) (u.map (·.1)) 1 z.length).length == z.length)=true
 ·rw[if_pos hc] at q ⊢
  exact⟨.str z,H,I,⟨t,rfl⟩,q⟩
 ·rw[if_neg hc] at q ⊢
  refine⟨?_,⟨.str _,H,I.tok _,⟨_,rfl⟩,q⟩⟩
  show (U6 _).size<=_
  rw[Up]
  exact UI (UI (List.length_filterMap_le _ _) (sliceIndices_le _ _ _)) hz
end
section
variable {X : Cx}
end
section
variable {X : Cx}
end
theorem QC{ns:List Int}:∀{m:Nat},W6 (ns.map Yj)<=m->∀n∈ns,n.natAbs<2^(m+1):=by
 induction ns with
 | nil=>intro m _ n hn;cases hn
 | cons a ns J=>
  intro m h n hn
  rw[Uk] at h
  unfold W6 at h
  rcases Um.mp hn with rfl | hn
  ·have h1:Xl (.int n)<=m:=by omega
   unfold Xl at h1
   split at h1
   ·rename_i hz
    have:n=0:=by simpa using hz
    subst this
    exact V2 _
   ·have h2:n.natAbs<2^(n.natAbs.log2+1):=Nat.lt_log2_self
    exact Ux h2 (Vb (by decide) (by omega))
  ·exact J (m:=m) (by omega) n hn
section
variable {X : Cx}
def isT(y:Str):Value->Bool
 | .str a _=>a == y
 | _=>false
end
section
variable {prog : Program} {w : World} {A : Around} {R : Result → Shared → Prop} {I : Addr} {fp wr : List Addr} {G : Array GenState → Array GenState → Prop} {n : Nat} {P : Nat → Value → Prop} {St : Nat → Shared → Prop}
end
section
variable {prog : Program} {w : World} {A : Around} {E : Value → Shared → Prop} {s : Shared}
end
section
variable {X : Cx} {e : Expr} {te : TE} {x y : Str} {p1 p2 q1 q2 : Pos}
end
open PySem PySem.Spec PyProof.Rows PySem.W
def jT{α:Type}(lt:Nat->Nat->Bool):KasT α->α
 | .ret a=>a
 | .ask i j k=>jT lt (k (lt i j))
theorem mr{α β:Type}(lt:Nat->Nat->Bool)(f:α->KasT β):∀t:KasT α,jT lt (t.bind f)=jT lt (f (jT lt t))
 | .ret _=>rfl
 | .ask i j k=>mr lt f (k (lt i j))
section
variable {O : KeyOrd} (key : Nat → O.α)
def kAt(p:Array Nat)(i:Nat):O.α:=key (p.getD i 0)
abbrev ltK:Nat->Nat->Bool:=λi j=>O.blt (key i) (key j)
def eU(p:Array Nat)(m:Nat):Prop:=∀i j,i<=j->j<m->O.kle (kAt key p i) (kAt key p j)
def lL(p:Array Nat)(m:Nat):Prop:=∀i j,i<=j->j<m->O.kle (kAt key p j) (kAt key p i)
def xm(p:Array Nat)(n q:Nat):Prop:=∀i,n<=i+(q+1)->i<n->kAt key p i=kAt key p (n-1)
variable {key}
theorem tu{p J:Array Nat}{i j:Nat}(h:J[i]? =p[j]?):kAt key J i=kAt key p j:=by
 unfold kAt
 rw[VA,VA,h]
theorem vd{p:Array Nat}{i j:Nat}(J:j<=p.size)(k:Nat):kAt key (kas_rev p i j) k=if i<=k/\k<j then kAt key p (i+j-1-k) else kAt key p k:=by
 have h:=getElem?_mirror_all (xs:=p) (i:=i) J k
 split at h
 ·rename_i c
  rw[if_pos c];exact tu h
 ·rename_i c
  rw[if_neg c];exact tu h
theorem rV(p:Array Nat)(i j:Nat):(kas_rev p i j).Perm p:=mirror_perm _ _ _ _
theorem gN(p:Array Nat)(i j:Nat):(kas_rev p i j).size=p.size:=mirror_size _ _ _ _
theorem Cz{p:Array Nat}{n q:Nat}(hn:n<=p.size)(hq:q+1<=n)(h:xm key p n q)(k:Nat):kAt key (kas_rev p (n-(q+1)) n) k=kAt key p k:=by
 rw[vd hn]
 split
 ·rename_i c
  rw[h _ (by omega) (by omega),h k (by omega) (by omega)]
 ·rfl
theorem eU.more{p:Array Nat}{n:Nat}(h1:1<=n)(h:eU key p n)(hn:O.kle (kAt key p (n-1)) (kAt key p n)):eU key p (n+1):=by
 intro i j J Y
 by_cases U:j=n
 ·subst U
  by_cases hi:i=j
  ·subst hi;exact KeyOrd.kle_refl _
  ·exact KeyOrd.kle_trans (h i (j-1) (by omega) (by omega)) hn
 ·exact h i j J (by omega)
theorem lL.more{p:Array Nat}{n:Nat}(h1:1<=n)(h:lL key p n)(hn:O.kle (kAt key p n) (kAt key p (n-1))):lL key p (n+1):=by
 intro i j J Y
 by_cases U:j=n
 ·subst U
  by_cases hi:i=j
  ·subst hi;exact KeyOrd.kle_refl _
  ·exact KeyOrd.kle_trans hn (h i (j-1) (by omega) (by omega))
 ·exact h i j J (by omega)
theorem yE{p:Array Nat}:∀(f n:Nat),1<=n->eU key p n->∃m,jT (ltK key) (kas_asc p f n)=m/\n<=m/\m<=n+f/\eU key p m/\(m<n+f->O.blt (kAt key p m) (kAt key p (m-1))=true)
 | 0,n,_,h=>⟨n,rfl,Ud _,Ud _,h,λz=>absurd z (U8 _)⟩
 | f+1,n,h1,h=>by
  show ∃m,jT (ltK key) (if O.blt (kAt key p n) (kAt key p (n-1))=true then KasT.ret n else kas_asc p f (n+1))=m/\_
  cases hc:O.blt (kAt key p n) (kAt key p (n-1)) with
  | true=>exact⟨n,rfl,Ud _,by omega,h,λ_=>hc⟩
  | false=>
   obtain⟨m,e,Y,a2,J,U⟩:=yE f (n+1) (by omega) (h.more h1 hc)
   exact⟨m,e,by omega,by omega,J,λz=>U (by omega)⟩
theorem rJ:∀(f:Nat) (p:Array Nat) (n q:Nat),1<=n->n+f<=p.size->q+1<=n->lL key p n->xm key p n q->
 ∃U J q',jT (ltK key) (kas_desc f p n q)=(U,J,q')/\U.Perm p/\U.size=p.size/\n<=J/\J<=n+f/\q'+1<=J/\lL key U J/\xm key U J q'
 | 0,p,n,q,_,_,hq,h,he=>⟨p,n,q,rfl,.refl _,rfl,Ud _,Ud _,hq,h,he⟩
 | f+1,p,n,q,h1,hs,hq,h,he=>by
  have Y:∀p:Array Nat,xm key p (n+1) 0:=λp i a b=>by rw[show i=n by omega];rfl
  show ∃U J q',jT (ltK key) (if O.blt (kAt key p n) (kAt key p (n-1))=true then (if q>0 then kas_desc f (kas_rev p (n-(q+1)) n) (n+1) 0 else kas_desc f p (n+1) 0)
   else .ask (p.getD (n-1) 0) (p.getD n 0) λd=>if d=true then .ret (p,n,q) else kas_desc f p (n+1) (q+1))=(U,J,q')/\_
  cases hc:O.blt (kAt key p n) (kAt key p (n-1)) with
  | true=>
   rw[if_pos rfl]
   have az:O.kle (kAt key p n) (kAt key p (n-1)):=KeyOrd.kle_of_klt hc
   have hf:=h.more h1 az
   by_cases ab:q>0
   ·rw[if_pos ab]
    have keep:=Cz (key:=key) (p:=p) (n:=n) (q:=q) (by omega) hq he
    have a0:lL key (kas_rev p (n-(q+1)) n) (n+1):=λi j a b=>by rw[keep,keep];exact hf i j a b
    obtain⟨U,J,q',e,b1,b2,b3,b4,b5,b6,b7⟩:=rJ f (kas_rev p (n-(q+1)) n) (n+1) 0 (by omega) (by rw[gN];omega) (by omega) a0 (Y _)
    exact⟨U,J,q',e,b1.trans (rV _ _ _),b2.trans (gN _ _ _),by omega,by omega,b5,b6,b7⟩
   ·rw[if_neg ab]
    obtain⟨U,J,q',e,b1,b2,b3,b4,b5,b6,b7⟩:=rJ f p (n+1) 0 (by omega) (by omega) (by omega) hf (Y _)
    exact⟨U,J,q',e,b1,b2,by omega,by omega,b5,b6,b7⟩
  | false=>
   rw[if_neg (by simp)]
   show ∃U J q',jT (ltK key) (if O.blt (kAt key p (n-1)) (kAt key p n)=true then KasT.ret (p,n,q) else kas_desc f p (n+1) (q+1))=(U,J,q')/\_
   cases hd:O.blt (kAt key p (n-1)) (kAt key p n) with
   | true=>exact⟨p,n,q,rfl,.refl _,rfl,Ud _,by omega,hq,h,he⟩
   | false=>
    rw[if_neg (by simp)]
    have eq:kAt key p n=kAt key p (n-1):=O.total _ _ hc hd
    have a1:xm key p (n+1) (q+1):=λi a b=>by
     show kAt key p i=kAt key p n
     by_cases hi:i=n
     ·rw[hi]
     ·rw[eq];exact he i (by omega) (by omega)
    obtain⟨U,J,q',e,b1,b2,b3,b4,b5,b6,b7⟩:=rJ f p (n+1) (q+1) (by omega) (by omega) (by omega) (h.more h1 (by rw[eq];exact KeyOrd.kle_refl _)) a1
    exact⟨U,J,q',e,b1,b2,by omega,by omega,b5,b6,b7⟩
theorem AV{p:Array Nat}{n nrem:Nat}(h1:1<=n)(hn:n<=nrem)(hs:nrem<=p.size)(h:lL key p n):
 ∃m J,jT (ltK key) (kas_tail3 n nrem p)=(m,J)/\J.Perm p/\J.size=p.size/\1<=m/\m<=nrem/\eU key J m:=by
 have U:eU key (kas_rev p 0 n) n:=λi j a b=>by
  rw[vd (by omega),vd (by omega),if_pos ⟨UR _,by omega⟩,if_pos ⟨UR _,b⟩]
  exact h _ _ (by omega) (by omega)
 obtain⟨m,e,a1,a2,Y,_⟩:=yE (nrem-n) n h1 U
 refine⟨m,kas_rev p 0 n, ?_,rV _ _ _,gN _ _ _,by omega,by omega,Y⟩
 unfold kas_tail3
 rw[mr,e]
 rfl
theorem yY{p:Array Nat}{n nrem:Nat}(h1:1<=n)(hn:n+1<=nrem)(hs:nrem<=p.size)(h:lL key p (n+1)):
 ∃m J,jT (ltK key) (kas_descPart n nrem p)=(m,J)/\J.Perm p/\J.size=p.size/\1<=m/\m<=nrem/\eU key J m:=by
 obtain⟨p1,U,q1,e,b1,b2,b3,b4,b5,b6,b7⟩:=rJ (key:=key) (nrem-(n+1)) p (n+1) 0 (by omega) (by omega) (by omega) h (λi a b=>by rw[show i=n by omega];rfl)
 unfold kas_descPart
 rw[mr,e]
 dsimp only
 by_cases hq:q1>0
 ·rw[if_pos hq]
  have keep:=Cz (key:=key) (p:=p1) (n:=U) (q:=q1) (by omega) b5 b7
  obtain⟨m,J,e2,Y,c2,c3,c4,c5⟩:=AV (key:=key) (p:=kas_rev p1 (U-(q1+1)) U) (n:=U) (nrem:=nrem) (by omega) (by omega) (by rw[gN];omega) (λi j a b=>by rw[keep,keep];exact b6 i j a b)
  exact⟨m,J,e2,Y.trans ((rV _ _ _).trans b1),c2.trans ((gN _ _ _).trans b2),c3,c4,c5⟩
 ·rw[if_neg hq]
  obtain⟨m,J,e2,Y,c2,c3,c4,c5⟩:=AV (key:=key) (p:=p1) (n:=U) (nrem:=nrem) (by omega) (by omega) (by omega) b6
  exact⟨m,J,e2,Y.trans b1,c2.trans b2,c3,c4,c5⟩
theorem Ga{p:Array Nat}{nrem:Nat}(h1:1<=nrem)(hs:nrem<=p.size):
 ∃m Y,jT (ltK key) (kas_count nrem p)=(m,Y)/\Y.Perm p/\Y.size=p.size/\1<=m/\m<=nrem/\eU key Y m:=by
 have s1:eU key p 1:=λi j a b=>by rw[show i=j by omega];exact KeyOrd.kle_refl _
 obtain⟨n,e,a1,a2,a3,a4⟩:=yE (key:=key) (p:=p) (nrem-1) 1 (Ud _) s1
 unfold kas_count
 rw[mr,e]
 by_cases hn:n=nrem
 ·rw[if_pos (by simpa using hn)]
  exact⟨n,p,rfl,.refl _,rfl,a1,by omega,a3⟩
 ·rw[if_neg (by simpa using hn)]
  have ab:=a4 (by omega)
  by_cases h2:n>1
  ·rw[if_pos h2]
   show ∃m Y,jT (ltK key) (if O.blt (kAt key p 0) (kAt key p (n-1))=true then KasT.ret (n,p) else kas_descPart n nrem (kas_rev p 0 n))=(m,Y)/\_
   cases hc:O.blt (kAt key p 0) (kAt key p (n-1)) with
   | true=>exact⟨n,p,rfl,.refl _,rfl,a1,by omega,a3⟩
   | false=>
    rw[if_neg (by simp)]
    have same:∀i,i<n->kAt key p i=kAt key p (n-1):=λi hi=>by
     refine KeyOrd.kle_antisymm (a3 i (n-1) (by omega) (by omega)) ?_
     exact KeyOrd.kle_trans (show O.kle (kAt key p (n-1)) (kAt key p 0) from hc) (a3 0 i (UR _) hi)
    have J:∀i,i<=n->kAt key (kas_rev p 0 n) i=kAt key p i:=λi hi=>by
     rw[vd (by omega)]
     split
     ·rename_i c
      rw[same _ (by omega),same i (by omega)]
     ·rfl
    have U:lL key (kas_rev p 0 n) (n+1):=by
     refine lL.more (by omega) (λi j a b=> ?_) ?_
     ·rw[J i (by omega),J j (by omega),same i (by omega),same j (by omega)];exact KeyOrd.kle_refl _
     ·rw[J n (Ud _),J (n-1) (by omega)];exact KeyOrd.kle_of_klt ab
    obtain⟨m,Y,e2,c1,c2,c3,c4,c5⟩:=yY (key:=key) (p:=kas_rev p 0 n) (n:=n) (nrem:=nrem) (by omega) (by omega) (by rw[gN];omega) U
    exact⟨m,Y,e2,c1.trans (rV _ _ _),c2.trans (gN _ _ _),c3,c4,c5⟩
  ·rw[if_neg h2]
   obtain rfl:n=1:=by omega
   have U:lL key p (1+1):=lL.more (Ud _) (λi j a b=>by rw[show i=j by omega];exact KeyOrd.kle_refl _) (KeyOrd.kle_of_klt ab)
   exact yY (by omega) (by omega) hs U
theorem t5{p:Array Nat}{k:Nat}(J:eU key p k):∀(f l r:Nat),l<=r->r<=k->r-l<=f->(∀i,i<l->O.kle (kAt key p i) (kAt key p k))->(∀i,r<=i->i<k->O.kle (kAt key p k) (kAt key p i))->
 ∃m,jT (ltK key) (kas_place p k f l r)=m/\m<=k/\(∀i,i<m->O.kle (kAt key p i) (kAt key p k))/\(∀i,m<=i->i<k->O.kle (kAt key p k) (kAt key p i))
 | 0,l,r,a,b,c,h1,h2=>⟨l,rfl,by omega,h1,λi hi hk=>h2 i (by omega) hk⟩
 | f+1,l,r,a,b,c,h1,h2=>by
  unfold kas_place
  by_cases U:l ≥ r
  ·rw[if_pos U]
   exact⟨l,rfl,by omega,h1,λi hi hk=>h2 i (by omega) hk⟩
  ·rw[if_neg U]
   show ∃m,jT (ltK key) (if O.blt (kAt key p k) (kAt key p ((l+r)/2))=true then kas_place p k f l ((l+r)/2) else kas_place p k f ((l+r)/2+1) r)=m/\_
   cases hc:O.blt (kAt key p k) (kAt key p ((l+r)/2)) with
   | true=>
    rw[if_pos rfl]
    exact t5 J f l ((l+r)/2) (by omega) (by omega) (by omega) h1 λi hi hk=>KeyOrd.kle_trans (KeyOrd.kle_of_klt hc) (J _ _ hi hk)
   | false=>
    rw[if_neg (by simp)]
    exact t5 J f ((l+r)/2+1) r (by omega) b (by omega) (λi hi=>KeyOrd.kle_trans (J i ((l+r)/2) (by omega) (by omega)) hc) h2
theorem D4:∀(f:Nat) (p:Array Nat) (k:Nat),k+f<=p.size->eU key p k->∃J,jT (ltK key) (kas_bin f p k)=J/\J.Perm p/\J.size=p.size/\eU key J (k+f)
 | 0,p,k,_,h=>⟨p,rfl,.refl _,rfl,h⟩
 | f+1,p,k,hk,h=>by
  obtain⟨m,e,m1,m2,m3⟩:=t5 h k 0 k (UR _) (Ud _) (by omega) (λi hi=>absurd hi (by omega)) (λi a b=>absurd b (by omega))
  have at_:∀i,kAt key (bubble p k (k-m)) i=if i=m then kAt key p k else if m<i/\i<=k then kAt key p (i-1) else kAt key p i:=λi=>by
   have g:=getElem?_bubble (xs:=p) (src:=k) (by omega) (k-m) (by omega) i
   rw[show k-(k-m)=m by omega] at g
   split at g
   ·rename_i c;rw[if_pos c];exact tu g
   ·rename_i c
    rw[if_neg c]
    split at g
    ·rename_i d;rw[if_pos d];exact tu g
    ·rename_i d;rw[if_neg d];exact tu g
  have so:eU key (bubble p k (k-m)) (k+1):=λi j a b=>by
   rw[at_,at_]
   by_cases hi:i=m
   ·rw[if_pos hi]
    by_cases U:j=m
    ·rw[if_pos U];exact KeyOrd.kle_refl _
    ·rw[if_neg U,if_pos (by omega)];exact m3 _ (by omega) (by omega)
   ·rw[if_neg hi]
    by_cases Y:m<i/\i<=k
    ·rw[if_pos Y,if_neg (by omega),if_pos (by omega)]
     exact h _ _ (by omega) (by omega)
    ·rw[if_neg Y]
     by_cases U:j=m
     ·rw[if_pos U];exact m2 i (by omega)
     ·rw[if_neg U]
      by_cases ab:m<j/\j<=k
      ·rw[if_pos ab];exact h _ _ (by omega) (by omega)
      ·rw[if_neg ab];exact h _ _ a (by omega)
  obtain⟨J,e2,c1,c2,c3⟩:=D4 f (bubble p k (k-m)) (k+1) (by rw[bubble_size];omega) so
  refine⟨J, ?_,c1.trans (bubble_perm _ _ _),c2.trans (bubble_size _ _ _), ?_⟩
  ·unfold kas_bin
   rw[mr,e]
   exact e2
  ·rw[show k+(f+1)=k+1+f by omega];exact c3
theorem wB{n:Nat}(h1:1<=n):∃p,jT (ltK key) (kas_sort n)=p/\p.Perm (U6 (T9 n))/\p.size=n/\eU key p n:=by
 have sz:(U6 (T9 n)).size=n:=by simp
 obtain⟨m,p1,e,J,a2,a3,a4,U⟩:=Ga (key:=key) (p:=U6 (T9 n)) (nrem:=n) h1 (by omega)
 unfold kas_sort
 rw[mr,e]
 dsimp only
 by_cases hm:m<n
 ·rw[if_pos hm,Nat.max_eq_left a3]
  obtain⟨p2,e2,b1,b2,Y⟩:=D4 (key:=key) (n-m) p1 m (by omega) U
  exact⟨p2,e2,b1.trans J,by omega,by rw[show m+(n-m)=n by omega] at Y;exact Y⟩
 ·rw[if_neg hm]
  obtain rfl:m=n:=by omega
  exact⟨p1,rfl,J,by omega,U⟩
end
theorem lex_irrefl:∀a:List Int,HT.lexLt a a=false
 | []=>rfl
 | x::a=>by rw[HT.oV,if_pos rfl];exact lex_irrefl a
theorem lex_trans:∀a b c:List Int,HT.lexLt a b=true->HT.lexLt b c=true->HT.lexLt a c=true
 | [],[],_,h,_=>by cases h
 | [],_::_,[],_,h=>by cases h
 | [],_::_,_::_,_,_=>rfl
 | _::_,[],_,h,_=>by cases h
 | _::_,_::_,[],_,h=>by cases h
 | x::a,y::b,z::c,h1,h2=>by
  rw[HT.oV] at h1 h2 ⊢
  by_cases e1:x=y
  ·by_cases e2:y=z
   ·rw[if_pos e1] at h1
    rw[if_pos e2] at h2
    rw[if_pos (e1.trans e2)]
    exact lex_trans a b c h1 h2
   ·rw[if_neg e2] at h2
    rw[e1,if_neg e2];exact h2
  ·rw[if_neg e1] at h1
   have J:=of_decide_eq_true h1
   by_cases e2:y=z
   ·rw[<- e2,if_neg e1];exact h1
   ·rw[if_neg e2] at h2
    have U:=of_decide_eq_true h2
    rw[if_neg (by omega)];exact decide_eq_true (by omega)
theorem qt:∀a b:List Int,HT.lexLt a b=false->HT.lexLt b a=false->a=b
 | [],[],_,_=>rfl
 | [],_::_,h,_=>by cases h
 | _::_,[],_,h=>by cases h
 | x::a,y::b,h1,h2=>by
  rw[HT.oV] at h1 h2
  by_cases e:x=y
  ·rw[if_pos e] at h1
   rw[if_pos e.symm] at h2
   rw[e,qt a b h1 h2]
  ·rw[if_neg e] at h1
   rw[if_neg (Wi e)] at h2
   have J:=of_decide_eq_false h1
   have U:=of_decide_eq_false h2
   omega
def Nw:KeyOrd where
 α:=List Int
 blt:=HT.lexLt
 irrefl:=lex_irrefl
 trans:=lex_trans
 negTrans:=λa b c h=>by
  cases h1:HT.lexLt a b with
  | true=>exact .inl rfl
  | false=>
   right
   cases h2:HT.lexLt b c with
   | true=>rfl
   | false=>
    cases h3:HT.lexLt b a with
    | true=>
     have:=lex_trans b a c h3 h
     rw[h2] at this;cases this
    | false=>
     have:=qt a b h1 h3
     subst this
     rw[h] at h2;cases h2
 total:=qt
def Lv{α:Type}(N:Nat)(P:α->Prop):KasT α->Prop
 | .ret a=>P a
 | .ask i j k=>i<N/\j<N/\∀b,Lv N P (k b)
theorem Lv.bind{α β:Type}{N:Nat}{P:α->Prop}{P':β->Prop}{f:α->KasT β}(J:∀a,P a->Lv N P' (f a)):∀{t:KasT α},Lv N P t->Lv N P' (t.bind f)
 | .ret a,h=>J a h
 | .ask i j k,h=>⟨h.1,h.2.1,λb=>Lv.bind J (h.2.2 b)⟩
def Und(N:Nat)(p:Array Nat):Prop:=∀i,p.getD i 0<N
theorem Und.of{N:Nat}{p J:Array Nat}(h:Und N p)(hp:∀i:Nat,∃j:Nat,J[i]? =p[j]?):Und N J:=λi=>by
 obtain⟨j,e⟩:=hp i
 have:=h j
 rw[VA] at this ⊢
 rw[e];exact this
theorem Und.rev{N:Nat}{p:Array Nat}(h:Und N p){i j:Nat}(J:j<=p.size):Und N (kas_rev p i j):=h.of λk=>by
 have g:=getElem?_mirror_all (xs:=p) (i:=i) J k
 split at g
 ·exact⟨_,g⟩
 ·exact⟨_,g⟩
theorem Und.bub{N:Nat}{p:Array Nat}(h:Und N p){k d:Nat}(hk:k<p.size)(hd:d<=k):Und N (bubble p k d):=h.of λi=>by
 have g:=getElem?_bubble (xs:=p) hk d hd i
 split at g
 ·exact⟨_,g⟩
 ·split at g
  ·exact⟨_,g⟩
  ·exact⟨_,g⟩
theorem Bn{N:Nat}{p:Array Nat}(h:Und N p):∀(f n:Nat),Lv N (λm=>n<=m/\m<=n+f) (kas_asc p f n)
 | 0,n=>⟨Ud _,Ud _⟩
 | f+1,n=>⟨h _,h _,λb=>by
  cases b with
  | true=>exact⟨Ud _,by omega⟩
  | false=>
   have:=Lv.bind (f:=KasT.ret) (P':=λm=>n<=m/\m<=n+(f+1)) (λa ha=>(⟨by omega,by omega⟩:n<=a/\a<=n+(f+1))) (Bn h f (n+1))
   rw[show (kas_asc p f (n+1)).bind KasT.ret=kas_asc p f (n+1) from bind_ret _] at this
   exact this⟩
where bind_ret {α:Type}:∀t:KasT α,t.bind KasT.ret=t
  | .ret _=>rfl
  | .ask i j k=>congrArg (KasT.ask i j) (funext λb=>bind_ret (k b))
theorem Lv.mono{α:Type}{N:Nat}{P P':α->Prop}(h:∀a,P a->P' a):∀{t:KasT α},Lv N P t->Lv N P' t
 | .ret a,x=>h a x
 | .ask i j k,x=>⟨x.1,x.2.1,λb=>Lv.mono h (x.2.2 b)⟩
theorem uN{N S:Nat}:∀(f:Nat) (p:Array Nat) (n q:Nat),p.size=S->n+f<=S->Und N p->Lv N (λr:Array Nat×Nat×Nat=>r.1.size=S/\Und N r.1/\n<=r.2.1/\r.2.1<=n+f) (kas_desc f p n q)
 | 0,p,n,q,hz,_,h=>⟨hz,h,Ud _,Ud _⟩
 | f+1,p,n,q,hz,hs,h=>⟨h _,h _,λc=>by
  have J:∀{t:KasT (Array Nat×Nat×Nat)},Lv N (λr:Array Nat×Nat×Nat=>r.1.size=S/\Und N r.1/\n+1<=r.2.1/\r.2.1<=n+1+f) t->Lv N (λr:Array Nat×Nat×Nat=>r.1.size=S/\Und N r.1/\n<=r.2.1/\r.2.1<=n+(f+1)) t:=
   Lv.mono λr ⟨a,b,c,d⟩=>⟨a,b,by omega,by omega⟩
  cases c with
  | true=>
   show Lv N _ (if q>0 then kas_desc f (kas_rev p (n-(q+1)) n) (n+1) 0 else kas_desc f p (n+1) 0)
   split
   ·exact J (uN f _ (n+1) 0 (by rw[gN];exact hz) (by omega) (h.rev (by omega)))
   ·exact J (uN f p (n+1) 0 hz (by omega) h)
  | false=>
   refine⟨h _,h _,λd=> ?_⟩
   cases d with
   | true=>exact⟨hz,h,Ud _,WY _ _⟩
   | false=>exact J (uN f p (n+1) (q+1) hz (by omega) h)⟩
theorem Ee{N S n nrem:Nat}{p:Array Nat}(hz:p.size=S)(hn:n<=nrem)(J:nrem<=S)(h:Und N p):Lv N (λr:Nat×Array Nat=>r.2.size=S/\Und N r.2/\r.1<=nrem) (kas_tail3 n nrem p):=by
 have h':Und N (kas_rev p 0 n):=h.rev (by omega)
 exact Lv.bind (f:=λm=>KasT.ret (m,kas_rev p 0 n)) (P':=λr:Nat×Array Nat=>r.2.size=S/\Und N r.2/\r.1<=nrem) (λm hm=>(⟨by rw[gN];exact hz,h',by have:=hm.2;show m<=nrem;omega⟩:(kas_rev p 0 n).size=S/\Und N (kas_rev p 0 n)/\m<=nrem)) (Bn h' (nrem-n) n)
theorem BJ{N S n nrem:Nat}{p:Array Nat}(hz:p.size=S)(hn:n+1<=nrem)(J:nrem<=S)(h:Und N p):Lv N (λr:Nat×Array Nat=>r.2.size=S/\Und N r.2/\r.1<=nrem) (kas_descPart n nrem p):=by
 refine Lv.bind (λr hr=> ?_) (uN (nrem-(n+1)) p (n+1) 0 hz (by omega) h)
 obtain⟨a,b,c,d⟩:=hr
 split
 ·exact Ee (by rw[gN];exact a) (by omega) J (b.rev (by omega))
 ·exact Ee a (by omega) J b
theorem Ju{N S nrem:Nat}{p:Array Nat}(hz:p.size=S)(h1:1<=nrem)(U:nrem<=S)(h:Und N p):Lv N (λr:Nat×Array Nat=>r.2.size=S/\Und N r.2/\r.1<=nrem) (kas_count nrem p):=by
 refine Lv.bind (λn hn=> ?_) (Bn h (nrem-1) 1)
 split
 ·exact⟨hz,h,by omega⟩
 ·rename_i J
  have J:¬n=nrem:=by simpa using J
  split
  ·refine⟨h _,h _,λc=> ?_⟩
   cases c with
   | true=>exact⟨hz,h,by omega⟩
   | false=>exact BJ (by rw[gN];exact hz) (by omega) U (h.rev (by omega))
  ·exact BJ hz (by omega) U h
theorem vQ{N:Nat}{p:Array Nat}{k:Nat}(h:Und N p):∀(f l r:Nat),l<=k->r<=k->Lv N (λm=>m<=k) (kas_place p k f l r)
 | 0,l,r,a,b=>a
 | f+1,l,r,a,b=>by
  unfold kas_place
  split
  ·exact a
  ·refine⟨h _,h _,λc=> ?_⟩
   cases c with
   | true=>exact vQ h f l ((l+r)/2) a (by omega)
   | false=>exact vQ h f ((l+r)/2+1) r (by omega) b
theorem GJ{N S:Nat}:∀(f:Nat) (p:Array Nat) (k:Nat),p.size=S->k+f<=S->Und N p->Lv N (λJ:Array Nat=>J.size=S) (kas_bin f p k)
 | 0,p,k,hz,_,_=>hz
 | f+1,p,k,hz,hk,h=>Lv.bind (λm hm=>GJ f _ (k+1) (by rw[bubble_size];exact hz) (by omega) (h.bub (by omega) (by omega))) (vQ h k 0 k (UR _) (Ud _))
theorem MC{n:Nat}(h1:1<=n):Lv n (λp:Array Nat=>p.size=n) (kas_sort n):=by
 have sz:(U6 (T9 n)).size=n:=by simp
 have J:Und n (U6 (T9 n)):=λi=>by
  rw[VA,List.getElem?_toArray]
  by_cases hi:i<n
  ·simp[hi]
  ·rw[Wl (by simpa using hi)];exact h1
 refine Lv.bind (λr hr=> ?_) (Ju sz h1 (Ud _) J)
 obtain⟨a,b,c⟩:=hr
 split
 ·exact GJ _ _ _ a (by omega) b
 ·exact a
theorem B7{α:Type}{N:Nat}{P:α->Prop}{lt:Nat->Nat->Bool}{J:Nat->Nat->(Bool->Shared->Prop)->Shared->Prop}{Q:α->Shared->Prop}{s:Shared}(hc:∀i j C,i<N->j<N->C (lt i j) s->J i j C s):
 ∀(t:KasT α),Lv N P t->Q (jT lt t) s->t.kasWp J Q s
 | .ret a,_,h=>h
 | .ask i j k,l,h=>hc i j _ l.1 l.2.1 (B7 hc (k (lt i j)) (l.2.2 _) h)
section
open PySem.SeqAt
open PySem.AutoSeq1 (wpAny_loadPart')
open PySem.MeetsSeq PySem.MeetsSeq2 PySem.MeetsSeq3
theorem ints_get{vs:List Value}{ns:List Int}(h:IntsAre vs ns){i:Nat}(hi:i<ns.length):∃t,vs[i]? =some (.int ns[i] t):=by
 have J:=h.length
 have e:vs[i]? =some vs[i]:=T7 (by omega)
 obtain⟨t,q⟩:=h.int_at i _ e
 refine⟨t, ?_⟩
 rw[e,q]
 simp[Fm,hi]
theorem IF(l b:Addr)(U J:Array Value)(n n2:Nat)(dd az:Option Addr)(sl a0:Array (Option Value))(ns ms:List Int)(hi:IntsAre U.toList ns)(hj:IntsAre J.toList ms)(k:Nat):
 ∀i:Nat,ns.length-i=k->i<=ns.length->i<=ms.length->Meets (Builtin.«list.__eq__.loop» ⟨[.ref l,.ref b,rawInt i,rawInt 0],[]⟩)
  (λ_ R s=>s.heap.get? l=some {cls:=.type "list",dict:=dd,data:=.seq U n,slots:=sl}/\s.heap.get? b=some {cls:=.type "list",dict:=az,data:=.seq J n2,slots:=a0}/\
   R (.ok (.ret (.bool (HT.lexLt (ns.drop i) (ms.drop i))))) s):=by
 have z1:U.size=ns.length:=by rw[<- hi.length];simp
 have z2:J.size=ms.length:=by rw[<- hj.length];simp
 have ac:∀i:Nat,i<=ns.length->i<=ms.length->(i=ns.length\/i=ms.length)->HT.lexLt (ns.drop i) (ms.drop i)=decide (U.size<J.size):=by
  intro i h1 h2 h3
  by_cases e1:i=ns.length
  ·rw[e1,WZ]
   by_cases e2:ns.length=ms.length
   ·rw[e2,WZ];exact(decide_eq_false (by omega)).symm
   ·rw[UT (by omega)];exact(decide_eq_true (by omega)).symm
  ·have e2:i=ms.length:=by omega
   rw[e2,WZ,UT (by omega)];exact(decide_eq_false (by omega)).symm
 induction k with
 | zero=>
  intro i hk h1 h2 prog w A R s h
  obtain⟨hp,g,d,tk,os⟩:=s;obtain⟨hl,hb,h⟩:=h
  have a1:i=ns.length:=by omega
  wp_walk using wpAny_loadPart' hl,wpAny_loadPart' hb
  have Y:U[((i:Nat):Int).toNat]? =none:=by simp;omega
  rw[Y]
  rw[ac i h1 h2 (.inl a1)] at h
  wp_walk using wpAny_loadPart' hl,wpAny_loadPart' hb
  exact h
 | succ k ih=>
  intro i hk h1 h2 prog w A R s h
  obtain⟨hp,g,d,tk,os⟩:=s;obtain⟨hl,hb,h⟩:=h
  have ap:i<ns.length:=by omega
  obtain⟨t,et⟩:=ints_get hi ap
  have Y:U[((i:Nat):Int).toNat]? =some (.int ns[i] t):=by rw[VX] at et;simpa using et
  by_cases as:i<ms.length
  ·obtain⟨u,eu⟩:=ints_get hj as
   have ab:J[((i:Nat):Int).toNat]? =some (.int ms[i] u):=by rw[VX] at eu;simpa using eu
   wp_walk using wpAny_loadPart' hl,wpAny_loadPart' hb
   rw[Y,ab]
   rw[UT ap,UT as,HT.oV] at h
   have hc:((i:Int)+1)=((i+1:Nat):Int):=by push_cast;rfl
   obtain⟨e,he,an⟩:=HT.JL A.in1 ⟨hp,g,d,tk,os⟩ ns[i] t ms[i] u
   refine wpAny_bind (he prog w _ _ ?_)
   cases e with
   | true=>
    rw[if_pos (an.mp rfl)] at h
    wp_walk
    rw[hc]
    exact⟨plainId_quiet plain_eq_loop _,codeAny_builtin entry_eq_loop (by
     rw[Around.under_plainId plain_eq_loop _]
     exact ih (i+1) (by omega) (by omega) (by omega) prog w A R _ ⟨hl,hb,h⟩)⟩
   | false=>
    rw[if_neg (λq=>absurd (an.mpr q) Uu)] at h
    have a2:=HT.JE A.in1 ⟨hp,g,d,tk,os⟩ ns[i] t ms[i] u prog w
    wp_walk using wpAny_loadPart' hl,wpAny_loadPart' hb
    rw[Y,ab]
    wp_walk using a2
    exact h
  ·have ab:J[((i:Nat):Int).toNat]? =none:=by simp;omega
   wp_walk using wpAny_loadPart' hl,wpAny_loadPart' hb
   rw[Y,ab]
   rw[ac i h1 h2 (.inr (by omega))] at h
   wp_walk using wpAny_loadPart' hl,wpAny_loadPart' hb
   exact h
theorem IL(l b:Addr)(U J:Array Value)(n n2:Nat)(dd Y:Option Addr)(sl ab:Array (Option Value))(ns ms:List Int)(hi:IntsAre U.toList ns)(hj:IntsAre J.toList ms):
 Meets (Builtin.«list.__lt__» ⟨[.ref l,.ref b],[]⟩)
  (λ_ R s=>s.heap.get? l=some {cls:=.type "list",dict:=dd,data:=.seq U n,slots:=sl}/\s.heap.get? b=some {cls:=.type "list",dict:=Y,data:=.seq J n2,slots:=ab}/\
   R (.ok (.ret (.bool (HT.lexLt ns ms)))) s):=by
 intro prog w A R s h
 obtain⟨hp,g,d,tk,os⟩:=s;obtain⟨hl,hb,h⟩:=h
 have f2:=AutoSeq1.sub_list_list
 wp_walk using wpAny_loadPart' hl,wpAny_loadPart' hb
 exact⟨plainId_quiet plain_eq_loop _,codeAny_builtin entry_eq_loop (by
  rw[Around.under_plainId plain_eq_loop _]
  exact IF l b U J n n2 dd Y sl ab ns ms hi hj _ 0 rfl (UR _) (UR _) prog w A R _ ⟨hl,hb,by simpa using h⟩)⟩
end
section
variable {prog : Program} {w : World} {A : Around} {E : Value → Shared → Prop} {s : Shared}
theorem C6 {l b:Addr} {U J:Array Value} {ns ms:List Int} {Q:Bool->Shared->Prop} (hl:s.heap.IsList l U) (hb:s.heap.IsList b J) (hi:IntsAre U.toList ns) (hj:IntsAre J.toList ms) (hu:A.units<cLine)
 (h:Q (HT.lexLt ns ms) s):wpAny (model prog w) A (keyLt' oneType' (.ref l) (.ref b)) Q E s:=by
 obtain⟨⟨cls,dd,data,sl⟩,ho,hc,n,hd⟩:=id hl
 obtain⟨⟨as,am,data2,an⟩,ap,Y,n2,ab⟩:=id hb
 dsimp only at hc hd Y ab
 subst hc hd Y ab
 rw[keyLt'_oneType,oneLt'_eq]
 simp only[if_true]
 refine wpAny_bind (wpAny_cRoomFor hu ?_)
 refine wpAny_bind (wpAny_callSpecialIfBound?_slot ⟨_,ho,rfl⟩ Xm (call_meets Xm ⟨_,ho,rfl⟩ PySem.F.entry_list_lt (PySem.F.args_list_lt_2 _ _) (IL l b U J n n2 dd am sl an ns ms hi hj) ⟨ho,ap, ?_⟩))
 exact wpAny_truthy_bool h
end
section
variable {prog : Program} {w : World} {A : Around} {E : Value → Shared → Prop} {s : Shared}
abbrev Cr(nss:List (List Int)):Nat->Nw.α:=λi=>nss.getD i []
def qp(vs:List Value)(p:Array Nat):Array Value:=(p.toList.map λi=>vs.getD i Value.none).toArray
def O8(h:Heap)(vs:List Value)(nss:List (List Int))(a:Addr):Prop:=∀i,i<vs.length->∃(l:Addr) (J:Array Value),vs.getD i Value.none=.ref l/\l≠a/\h.IsList l J/\IntsAre J.toList (nss.getD i [])
theorem C3(vs:List Value):qp vs (U6 (T9 vs.length))=vs.toArray:=by
 unfold qp
 congr 1
 refine VI (by simp) λi h1 h2=> ?_
 simp[Fm,h2]
theorem Ot {a:Addr} {vs:List Value} {nss:List (List Int)} {n:Nat} {P:PySem.Fin->Shared->Prop} (ho:s.heap.get? a=some (seqObj "list" vs.toArray n)) (az:vs.length<64) (hu:A.units<cLine) (Y:O8 s.heap vs nss a)
 (h:∀p:Array Nat,p.Perm (U6 (T9 vs.length))->eU (Cr nss) p vs.length->P (.done (.ret .none)) {s with heap:=sortedHeap s.heap a vs (qp vs p)}):
 wpAny (model prog w) A (Builtin.«list.sort» ⟨[.ref a],[]⟩) P E s:=by
 rw[list_sort_plain]
 have ha:a<s.heap.objs.size:=Heap.lt_size ho
 have ab:vs.length<=sizeLine:=by rw[sizeLine_eq];omega
 refine wpAny_bind (listItems_at ho rfl ?_)
 refine wpAny_bind (listUpdate_at ho rfl ?_ (by rw[Up];exact ab) (UR _))
 obtain⟨e1,ho1⟩:∃e1,(s.heap.update a (Obj.mapSeq λ_=> #[])).get? a=some (seqObj "list" #[] e1):=⟨_,get?_update_seq ho (λ_=> #[])⟩
 refine wpAny_bind (seqEpoch_at ho1 rfl ?_)
 refine wpAny_bind (wpAny_newTuple ?_ ab)
 refine wpAny_bind (wpAny_newList ?_ (UR _))
 refine wpAny_holding ?_
 have old:∀b o,b≠a->s.heap.get? b=some o->(((s.heap.update a (Obj.mapSeq λ_=> #[])).push (seqObj "tuple" vs.toArray 0)).push (seqObj "list" #[] 0)).get? b=some o:=λb o hb e=>
  Heap.get?_push_of_some _ (Heap.get?_push_of_some _ ((Heap.get?_update_ne _ _ _ _ hb).trans e))
 have U:(((s.heap.update a (Obj.mapSeq λ_=> #[])).push (seqObj "tuple" vs.toArray 0)).push (seqObj "list" #[] 0)).get? a=some (seqObj "list" #[] e1):=Heap.get?_push_of_some _ (Heap.get?_push_of_some _ ho1)
 show wpAny (model prog w) A _ P E {s with heap:=((s.heap.update a (Obj.mapSeq λ_=> #[])).push (seqObj "tuple" vs.toArray 0)).push (seqObj "list" #[] 0)}
 dsimp only
 by_cases h2:vs.toArray.size<2
 ·have ac:=h (U6 (T9 vs.length)) (Array.Perm.refl _) λi j bn hj=>by
   have:i=j:=by rw[Up] at h2;omega
   subst this;exact KeyOrd.kle_refl _
  rw[C3] at ac
  rw[if_pos h2,if_pos h2]
  refine wpAny_bind (wpAny_pure ?_)
  rw[StateT.run_pure]
  refine wpAny_bind (wpAny_pure ?_)
  dsimp only
  have hz:(Array.map (λx:Keyed=>x.2) (vs.toArray.zip vs.toArray))=vs.toArray:=by
   apply W1.mp
   rw[XR,Array.toList_zip]
   exact List.map_snd_zip (Ud _)
  refine wpAny_bind (seqEpoch_at U rfl ?_)
  show wpAny (model prog w) A (Builtin.List.listUpdate (.ref a) (λ_=>Array.map (λx:Keyed=>x.2) (vs.toArray.zip vs.toArray)) >>= _) P E _
  rw[hz]
  refine wpAny_bind (listUpdate_at U rfl ?_ (UR _) (by rw[Up];omega))
  simp only[bne_self_eq_false,Xw,if_false]
  exact wpAny_pure ac
 ·rw[if_neg h2,if_neg h2]
  have l2:2<=vs.length:=by rw[Up] at h2;omega
  obtain⟨p0,e0,q1,q2,q3⟩:=wB (key:=Cr nss) (n:=vs.length) (by omega)
  refine wpAny_bind (kas_kind (T:=.type "list") l2 (λv hv=> ?_) (by decide) (by decide) ?_)
  ·obtain⟨i,hi,rfl⟩:=Vt hv
   obtain⟨l,a0,el,la,il,_⟩:=Y i hi
   rw[Fm,T7 hi] at el
   rw[show vs[i]=.ref l from el]
   intro A Q E s' k q
   obtain⟨o,a7,hc,_⟩:=il
   exact wpAny_typeOf (T:="list") ⟨o,k _ _ (old _ _ la a7),hc⟩ q
  have a8:SortSt.mk' oneType' (vs.toArray.zip vs.toArray) #[] 7 none=kas_st oneType' (pairsOf vs) (U6 (T9 vs.length)):=by
   have e:=kas_range (pairsOf vs)
   rw[pairsOf_size] at e
   show SortSt.mk' oneType' (pairsOf vs) #[] 7 none=SortSt.mk' oneType' ((U6 (T9 vs.length)).map (kas_item (pairsOf vs))) #[] 7 none
   rw[e]
  have ask:(kas_sort vs.length).kasWp (kas_ask prog w A oneType' vs) (λp s'=>p=p0/\s'={s with heap:=((s.heap.update a (Obj.mapSeq λ_=> #[])).push (seqObj "tuple" vs.toArray 0)).push (seqObj "list" #[] 0)})
   {s with heap:=((s.heap.update a (Obj.mapSeq λ_=> #[])).push (seqObj "tuple" vs.toArray 0)).push (seqObj "list" #[] 0)}:=by
   refine B7 (lt:=ltK (Cr nss)) (λi j C hi hj hC=> ?_) _ (MC (by omega)) ⟨e0,rfl⟩
   obtain⟨l,a0,el,la,il,ii⟩:=Y i hi
   obtain⟨m,be,em,ma,im,ij⟩:=Y j hj
   unfold kas_ask
   rw[el,em]
   have up:∀{x:Addr} {xs:Array Value},x≠a->s.heap.IsList x xs->(((s.heap.update a (Obj.mapSeq λ_=> #[])).push (seqObj "tuple" vs.toArray 0)).push (seqObj "list" #[] 0)).IsList x xs:=λhx ⟨o,e,r⟩=>⟨o,old _ _ hx e,r⟩
   exact C6 (up la il) (up ma im) ii ij hu hC
  rw[kas_ask_eq] at ask
  have run:=kas_runs (E:=E) (Q:=λ_ J s'=>arrOf J=p0.map (kas_item (pairsOf vs))/\failedOf J=none/\s'={s with heap:=((s.heap.update a (Obj.mapSeq λ_=> #[])).push (seqObj "tuple" vs.toArray 0)).push (seqObj "list" #[] 0)})
   l2 az (λp' J s' a1 a2 a3 a4=>⟨by rw[a2,a4.1],a3,a4.2⟩) ask
  rw[<- a8] at run
  refine wpAny_bind (wpAny_mono run ?_ λ_ _ e=>e)
  rintro ⟨⟨⟩,J⟩ s' ⟨a9,hf,rfl⟩
  dsimp only
  have am:(arrOf J).map (·.2)=qp vs p0:=by
   apply W1.mp
   rw[a9,Array.map_map,XR]
   exact VL λi _=>by show (kas_item (pairsOf vs) i).2=_;rw[kas_item_eq]
  rw[am]
  refine wpAny_bind (seqEpoch_at U rfl ?_)
  refine wpAny_bind (listUpdate_at U rfl ?_ (UR _) (by unfold qp;rw[Up,T3,Wz,q2];omega))
  rw[hf]
  simp only[bne_self_eq_false,Xw,if_false]
  exact wpAny_pure (h p0 q1 q3)
theorem MD {l:Addr} {vs:List Value} {nss:List (List Int)} {Q:Value->Shared->Prop} (hl:s.heap.IsList l vs.toArray) (ac:vs.length<64) (hu:A.units+64<cLine)
 (am:∀i,i<vs.length->∃(l:Addr) (J:Array Value),vs.getD i Value.none=.ref l/\s.heap.IsList l J/\IntsAre J.toList (nss.getD i []))
 (h:∀p:Array Nat,p.Perm (U6 (T9 vs.length))->eU (Cr nss) p vs.length->Q (.ref (s.heap.objs.size+1)) {s with heap:=sortedAll s.heap vs (qp vs p)}):
 wpAny (model prog w) A (call (.builtin "sorted") [.ref l]) Q E s:=by
 have U:vs.length<=sizeLine:=by rw[sizeLine_eq];omega
 refine Calls.call_function_entry kind_sorted plain_sorted entry_sorted (args_sorted1 _) ?_
 unfold Builtin.«sorted»
 refine wpAny_bind (m:=checkCount "sorted" 1 1 _) (wpAny_pure ?_)
 refine wpAny_bind (collect_list hl ?_ U)
 refine wpAny_bind (wpAny_newList ?_ U)
 have Y:((s.heap.push (seqObj "list" #[] 0)).update s.heap.objs.size (Obj.mapSeq (·++vs.toArray))).objs.size=s.heap.objs.size+1:=by
  rw[Heap.size_update,size_push']
 have ab:(((s.heap.push (seqObj "list" #[] 0)).update s.heap.objs.size (Obj.mapSeq (·++vs.toArray))).push (seqObj "list" vs.toArray 0)).get? (s.heap.objs.size+1)=some (seqObj "list" vs.toArray 0):=by
  rw[<- Y];exact Heap.get?_push_size _ rfl
 have keep:∀b o,s.heap.get? b=some o->(((s.heap.push (seqObj "list" #[] 0)).update s.heap.objs.size (Obj.mapSeq (·++vs.toArray))).push (seqObj "list" vs.toArray 0)).get? b=some o:=λb o q=>by
  have an:b<s.heap.objs.size:=Heap.lt_size q
  exact Heap.get?_push_of_some _ ((Heap.get?_update_ne _ _ _ _ (UB an)).trans (Heap.get?_push_of_some _ q))
 show wpAny _ _ _ _ _ {s with heap:=((s.heap.push (seqObj "list" #[] 0)).update s.heap.objs.size (Obj.mapSeq (·++vs.toArray))).push (seqObj "list" vs.toArray 0)}
 rw[Y]
 refine wpAny_bind (wpAny_holding (wpAny_call_entry slot_list_sort ⟨_,ab,rfl⟩ entry_list_sort (Ot (nss:=nss) ab ac ?_ (λi hi=> ?_) λp a1 a2=>⟨_,rfl, ?_⟩) (args_list_sort _)))
 ·simp only[units_in1];omega
 ·obtain⟨x,J,e,il,ii⟩:=am i hi
  obtain⟨o,ho,r⟩:=il
  exact⟨x,J,e,UB (V8 (Heap.lt_size ho)),⟨o,keep _ _ ho,r⟩,ii⟩
 ·exact wpAny_pure ⟨_,rfl,h p a1 a2⟩
end
section
variable {α β : Type}
def rZ(x:α×List Int):List (α×List Int)->List (α×List Int)
 | []=>[x]
 | y::l=>if HT.lexLt x.2 y.2=true then x::y::l else y::rZ x l
def eE:List (α×List Int)->List (α×List Int)
 | []=>[]
 | x::l=>rZ x (eE l)
theorem Cj{g:α×List Int->β×List Int}(J:∀x,(g x).2=x.2)(x:α×List Int):∀l,rZ (g x) (l.map g)=(rZ x l).map g
 | []=>rfl
 | y::l=>by
  rw[Uk]
  unfold rZ
  rw[J,J]
  split
  ·rfl
  ·rw[Uk,Cj J x l]
theorem oy{g:α×List Int->β×List Int}(J:∀x,(g x).2=x.2):∀l,eE (l.map g)=(eE l).map g
 | []=>rfl
 | x::l=>by
  rw[Uk]
  unfold eE
  rw[oy J l,Cj J]
theorem tZ(x:α×List Int):∀l,(rZ x l).Perm (x::l)
 | []=>.refl _
 | y::l=>by
  unfold rZ
  split
  ·exact .refl _
  ·exact((tZ x l).cons y).trans (X3 x y l)
theorem iu:∀l:List (α×List Int),(eE l).Perm l
 | []=>.refl _
 | x::l=>(tZ x _).trans ((iu l).cons x)
abbrev yx(l:List (α×List Int)):Prop:=l.Pairwise λa b=>HT.lexLt b.2 a.2=false
theorem lex_asymm{a b:List Int}(h:HT.lexLt a b=true):HT.lexLt b a=false:=by
 cases h2:HT.lexLt b a with
 | false=>rfl
 | true=>
  have:=lex_trans a b a h h2
  rw[lex_irrefl] at this;cases this
theorem Fc{a b c:List Int}(h1:HT.lexLt b a=false)(h2:HT.lexLt c b=false):HT.lexLt c a=false:=KeyOrd.kle_trans (O:=Nw) (a:=a) (b:=b) (c:=c) h1 h2
theorem Aa(x:α×List Int):∀{l},yx l->yx (rZ x l)
 | [],_=>List.pairwise_singleton _ _
 | y::l,h=>by
  unfold rZ
  have hy:=UV.mp h
  split
  ·rename_i c
   refine UV.mpr ⟨λz hz=> ?_,h⟩
   rcases Um.mp hz with rfl | hz
   ·exact lex_asymm c
   ·exact Fc (lex_asymm c) (hy.1 z hz)
  ·rename_i c
   refine UV.mpr ⟨λz hz=> ?_,Aa x hy.2⟩
   rcases Um.mp ((tZ x l).mem_iff.mp hz) with rfl | hz
   ·exact eq_false_of_ne_true c
   ·exact hy.1 z hz
theorem oI:∀l:List (α×List Int),yx (eE l)
 | []=>.nil
 | x::l=>Aa x (oI l)
theorem LQ{l:List (α×List Int)}(J:(l.map (·.2)).Nodup){a b:α×List Int}(ha:a∈l)(hb:b∈l)(h:a.2=b.2):a=b:=by
 induction l with
 | nil=>cases ha
 | cons x l U=>
  rw[Uk,Vd] at J
  rcases Um.mp ha with rfl | ha'
  ·rcases Um.mp hb with rfl | hb
   ·rfl
   ·have q:b.2∈l.map (·.2):=UW hb
    rw[<- h] at q
    exact absurd q J.1
  ·rcases Um.mp hb with rfl | hb
   ·have q:a.2∈l.map (·.2):=UW ha'
    rw[h] at q
    exact absurd q J.1
   ·exact U J.2 ha' hb
theorem vT:∀{l m:List (α×List Int)},l.Perm m->(l.map (·.2)).Nodup->yx l->yx m->l=m
 | [],m,h,_,_,_=>(List.nil_perm.mp h).symm
 | a::l,[],h,_,_,_=>absurd h.symm (by simp)
 | a::l,b::m,h,nd,hl,hm=>by
  have e:a=b:=by
   have ha:a∈b::m:=h.mem_iff.mp Ug
   have hb:b∈a::l:=h.mem_iff.mpr Ug
   rcases Um.mp ha with e | ha
   ·exact e
   ·rcases Um.mp hb with e | hb'
    ·exact e.symm
    ·refine LQ nd Ug hb (qt _ _ ((UV.mp hm).1 a ha) ((UV.mp hl).1 b hb'))
  subst e
  rw[vT (List.Perm.cons_inv h) (Vd.mp nd).2 (UV.mp hl).2 (UV.mp hm).2]
end
section
variable {X : Cx}
def wR(K:Fa):List V->Hp->VK->Prop:=λxs H Q=>∃(p:Addr) (ls:List (Addr×List Int)),xs=[.ref p]/\SqL K H p (ls.map λx=>V.ref x.1)/\(∀x∈ls,SqL K H x.1 (x.2.map V.int))/\ls.length<64/\(ls.map (·.2)).Nodup/\
 ∀d,H d=none->Q (.ref d) (upd H d (.lst ((eE ls).map λx=>V.ref x.1)))
theorem xN:∀{ls:List (Addr×List Int)} {J:List Value},Vals (ls.map λx=>V.ref x.1) J->J=ls.map λx=>Value.ref x.1
 | [],_,h=>by cases h;rfl
 | x::ls,_,h=>by
  cases h with
  | cons r U=>cases r;rw[xN U];rfl
theorem xi:∀(ls:List (Addr×List Int)),Vals (ls.map λx=>V.ref x.1) (ls.map λx=>Value.ref x.1)
 | []=>.nil
 | x::ls=>.cons rfl (xi ls)
theorem Bl(hu:X.A.units+64<cLine):iG X (.builtin "sorted") (wR X.K):=by
 intro pins s σ H xs us Q I r h
 obtain⟨p,ls,rfl,hq,hi,ac,nd,q⟩:=h
 obtain⟨u,rfl,ru⟩:=vals1 r
 cases ru
 obtain⟨a5,rv,pl,hz⟩:=I.list hq
 obtain rfl:=xN rv
 have ln:(ls.map λx=>Value.ref x.1).length=ls.length:=T3 _
 refine MD (nss:=ls.map (·.2)) pl.isList (by rw[ln];exact ac) hu (λi U=> ?_) λJ a1 a2=> ?_
 ·rw[ln] at U
  obtain⟨Y,r2,an,_⟩:=I.list (hi ls[i] (UH _))
  refine⟨ls[i].1,Y.toArray,by simp[Fm,U],an.isList, ?_⟩
  rw[show (ls.map (·.2)).getD i []=ls[i].2 by simp[Fm,U]]
  simpa using rY r2
 ·rw[ln] at a1 a2
  have hm:∀i∈J.toList,i<ls.length:=λi hi=>by
   have:=(WL.mp a1).mem_iff.mp hi
   simpa using this
  have e1:qp (ls.map λx=>Value.ref x.1) J=((J.toList.map λi=>ls.getD i (0,[])).map λx=>Value.ref x.1).toArray:=by
   unfold qp
   congr 1
   rw[Uh]
   refine VL λi hi=> ?_
   have:=hm i hi
   simp[Fm,this]
  have e2:(J.toList.map λi=>ls.getD i (0,[])).Perm ls:=by
   have:=(WL.mp a1).map λi=>ls.getD i (0,[])
   refine this.trans (List.Perm.of_eq ?_)
   refine VI (by simp) λi h1 h2=> ?_
   simp[Fm,h2]
  have sz:J.size=ls.length:=by have:=a1.size_eq;simpa using this
  have e3:yx (J.toList.map λi=>ls.getD i (0,[])):=by
   refine V3.mpr ?_
   intro i j hi hj ap
   have U:i<J.size:=by simpa using hi
   have as:j<J.size:=by simpa using hj
   have:=a2 i j (Vy ap) (by omega)
   have k1:∀(i:Nat) (h:i<J.size),kAt (Cr (ls.map (·.2))) J i=(ls.getD J[i] (0,[])).2:=λi h=>by
    have hb:=hm J[i] (by simp)
    have e:J.getD i 0=J[i]:=by simp[Array.getD,h]
    unfold kAt
    rw[e]
    show (ls.map (·.2)).getD J[i] []=_
    rw[Fm,Us,Fm,T7 hb]
    rfl
   rw[k1 i U,k1 j as] at this
   rw[W2,W2,Xn,Xn]
   exact this
  have e4:(J.toList.map λi=>ls.getD i (0,[]))=eE ls:=vT (e2.trans (iu ls).symm) ((e2.map (·.2)).nodup_iff.mpr nd) e3 (oI ls)
  rw[e1,e4]
  obtain⟨e,he⟩:=sortedAll_at s.heap (ls.map λx=>Value.ref x.1) ((eE ls).map λx=>Value.ref x.1).toArray
  have fresh:H (s.heap.objs.size+1)=none:=I.hok.fresh (WE _)
  refine⟨.ref (s.heap.objs.size+1),_,I.laid (t':=s.toks) (o:=.lst ((eE ls).map λx=>V.ref x.1)) (λb o q=>sortedAll_old q) (WE _) ?_,rfl,q _ fresh⟩
  exact⟨by rw[T3,(iu ls).length_eq];rw[T3] at hz;exact hz,_,e,xi _,he⟩
end
open PySem PySem.Spec PyProof.Rows
section
variable {prog : Program} {w : World} {A : Around} {R : Result → Shared → Prop} {I : Addr} {fp wr : List Addr} {n : Nat} {P : Nat → Value → Prop} {St : Nat → Heap → Prop} {kw : List (Str × Value)}
end
section
variable {prog : Program} {w : World} {A : Around} {E : Value → Shared → Prop} {s : Shared}
end
section
variable {X : Cx} {e d : Expr} {te td : TE} {p q kp : Pos}
end
section
variable {X : Cx}
end
section
variable {X : Cx}
def isN(y:Int):Value->Bool
 | .int a _=>a == y
 | _=>false
abbrev oY(l:List (Int×Tok)):List Value:=l.map λp=>.int p.1 p.2
theorem Oc{y:Int}{t:Tok}{l:List (Int×Tok)}(A:Around)(s:Shared):∀v,v∈(oY l).toArray->SeqAt.EqAt A s v (.int y t) (isN y v):=by
 intro v U
 have J:v∈oY l:=by simpa using U
 obtain⟨p,_,rfl⟩:=T4.mp J
 exact(X6 p.1 y p.2 t).at A s
theorem D7:∀{ns:List Int} {J:List Value},Vals (ns.map V.int) J->∃l:List (Int×Tok),oY l=J/\l.map (·.1)=ns
 | [],_,h=>by cases h;exact⟨[],rfl,rfl⟩
 | x::ns,_,h=>by
  cases h with
  | cons r U=>
   obtain⟨t,rfl⟩:=r
   obtain⟨l,rfl,e⟩:=D7 U
   exact⟨(x,t)::l,rfl,by rw[Uk,e]⟩
theorem Po{pins:List (Addr×Obj)}{s:Shared}{σ:St}{H:Hp}{b:Addr}{ns:List Int}(I:Inv X pins σ H s)(J:SqL X.K H b (ns.map V.int)):
 ∃(l:List (Int×Tok)) (U:Option Addr) (n:Nat) (Y:Array (Option Value)),l.map (·.1)=ns/\s.heap.get? b=some {cls:=.type "list",dict:=U,data:=.seq (oY l).toArray n,slots:=Y}/\l.length<=sizeLine:=by
 obtain⟨ab,r',pl,hz⟩:=I.list J
 obtain⟨l,rfl,e⟩:=D7 r'
 obtain⟨o,ho,hc,n,hd⟩:=pl.isList
 obtain⟨oc,od,ap,os⟩:=o
 dsimp only at hc hd
 subst hc hd
 refine⟨l,od,n,os,e,ho, ?_⟩
 rw[<- e,T3,T3] at hz
 exact hz
def D0(K:Fa):V->List V->Hp->VK->Prop:=λx vs H Q=>∃(b:Addr) (ns:List Int) (y:Int),x=.ref b/\vs=[.int y]/\SqL K H b (ns.map V.int)/\ns.idxOf y<ns.length/\Q (.int (ns.idxOf y:Nat)) H
theorem GC:MtR X "list.index" (D0 X.K):=by
 intro pins s σ H x vs v us Q I rx rv h
 obtain⟨b,ns,y,rfl,rfl,hs,J,q⟩:=h
 cases rx
 obtain⟨u,rfl,t2,rfl⟩:=rv.one
 obtain⟨l,dd,n,sl,rfl,U,hz⟩:=Po I hs
 have hn:=pP
 have Y:(oY l).toArray.size=(l.map (·.1)).length:=by simp[oY]
 have at_:∀(m:Nat) (hm:m<(oY l).toArray.size),isN y ((oY l).toArray[m])=((l.map (·.1))[m]'(by rw[<- Y];exact hm) == y):=by
  intro m hm
  simp[oY,isN]
 refine call_meets F.slot_list_index ⟨_,U,rfl⟩ F.entry_list_index (F.args_list_index_2 _ _) (SeqAt.list_indexAt b _ n dd sl _ (isN y) ((l.map (·.1)).idxOf y) (by rw[Y];exact J) (by rw[T3] at J;omega) ?_ ?_) ⟨U,Oc _ _, ?_⟩
 ·rw[at_]
  have:=Xx J
  rw[this]
  exact beq_self_eq_true y
 ·intro m hm h2
  rw[at_]
  exact List.not_of_lt_findIdx (p:=λa=>a == y) h2
 ·exact⟨.int _,H,I.tok _,⟨_,rfl⟩,q⟩
end
end L2
namespace M
open PySem L2
inductive D where
 | non | bl (b:Bool) | int (i:Int) | str (x:Str) | lst (xs:List D) | tup (xs:List D) | ptr (k:Nat) | obj (c:Nat) (ns:List Str) (ds:List D) | exn (c:Nat)
inductive Cell where
 | dead | lst (xs:List D) | ins (c:Nat) (ns:List Str) (ds:List D)
abbrev aB:=List Cell
structure S where
 r:List (Option D)
 o:aB
inductive Res (α:Type) where
 | ok (a:α) | exc (c:Nat) (a:D) (o:S) | bad
def Res.bind{α β:Type}(x:Res α)(f:α->Res β):Res β:=match x with
 | .ok a=>f a
 | .exc c a o=>.exc c a o
 | .bad=>.bad
@[simp] theorem aj {α β:Type} (a:α) (f:α->Res β):(Res.ok a).bind f=f a:=rfl
@[simp] theorem Qi {α β:Type} (c:Nat) (a:D) (o:S) (f:α->Res β):(Res.exc c a o:Res α).bind f=.exc c a o:=rfl
@[simp] theorem Qw {α β:Type} (f:α->Res β):(Res.bad:Res α).bind f=.bad:=rfl
abbrev Wsh:=Nat->D->S->Hp->Hp->List Addr->Prop
structure Ct where
 K:Fa
 ca:Nat->Addr
 W:Wsh
mutual
def Rep(K:Fa)(ca:Nat->Addr)(θ:List Addr)(F:Hp):D->V->Prop
 | .non,v=>v=.non
 | .bl b,v=>v=.bl b
 | .int i,v=>v=.int i
 | .str x,v=>v=.str x
 | .lst ds,v=>∃a xs,v=.ref a/\SqL K F a xs/\aC K ca θ F ds xs
 | .tup ds,v=>∃a xs,v=.ref a/\SqT K F a xs/\aC K ca θ F ds xs
 | .ptr k,v=>∃a,v=.ref a/\θ[k]? =some a
 | .obj c ns ds,v=>∃a dx xs,v=.ref a/\F a=some (.ins (ca c) dx (ns.zip xs))/\ns.length=xs.length/\aC K ca θ F ds xs
 | .exn c,v=>∃a,v=.ref a/\F a=some (exO a (ca c))
def aC(K:Fa)(ca:Nat->Addr)(θ:List Addr)(F:Hp):List D->List V->Prop
 | [],xs=>xs=[]
 | d::ds,xs=>∃v r,xs=v::r/\Rep K ca θ F d v/\aC K ca θ F ds r
end
mutual
def cT:D->Bool
 | .lst ds=>aN ds
 | .tup ds=>aN ds
 | .ptr _=>false
 | .obj _ _ ds=>aN ds
 | _=>true
def aN:List D->Bool
 | []=>true
 | d::ds=>cT d&&aN ds
end
def oN:D->Bool
 | .non=>true | .bl _=>true | .int _=>true | .str _=>true | _=>false
theorem bM.seqT{K:Fa}{H H':Hp}{a:Addr}{xs:List V}(e:bM H H')(h:SqT K H a xs):SqT K H' a xs:=by
 rcases h with(h | ⟨o,h⟩) | h
 ·exact .inl (.inl (e _ _ h))
 ·exact .inl (.inr ⟨o,e _ _ h⟩)
 ·exact .inr h
section
variable {K : Fa} {ca : Nat → Addr} {θ θ1 : List Addr} {F F1 : Hp}
mutual
theorem Rep.mono(J:bM F F1)(U:∃r,θ1=θ++r):∀{d:D} {v:V},Rep K ca θ F d v->Rep K ca θ1 F1 d v
 | .non,_,h=>h
 | .bl _,_,h=>h
 | .int _,_,h=>h
 | .str _,_,h=>h
 | .lst ds,_,h=>by
  unfold Rep at h ⊢
  obtain⟨a,xs,e,Y,hr⟩:=h
  exact⟨a,xs,e,J.seq Y,aC.mono J U hr⟩
 | .tup ds,_,h=>by
  unfold Rep at h ⊢
  obtain⟨a,xs,e,Y,hr⟩:=h
  exact⟨a,xs,e,bM.seqT J Y,aC.mono J U hr⟩
 | .ptr k,_,h=>by
  unfold Rep at h ⊢
  obtain⟨a,e,hk⟩:=h
  obtain⟨r,rfl⟩:=U
  refine⟨a,e, ?_⟩
  rw[Ut (Ur.mp hk).1]
  exact hk
 | .obj c ns ds,_,h=>by
  unfold Rep at h ⊢
  obtain⟨a,dx,xs,e,ha,hl,hr⟩:=h
  exact⟨a,dx,xs,e,J _ _ ha,hl,aC.mono J U hr⟩
 | .exn c,_,h=>by
  unfold Rep at h ⊢
  obtain⟨a,e,ha⟩:=h
  exact⟨a,e,J _ _ ha⟩
theorem aC.mono(J:bM F F1)(U:∃r,θ1=θ++r):∀{ds:List D} {xs:List V},aC K ca θ F ds xs->aC K ca θ1 F1 ds xs
 | [],_,h=>h
 | d::ds,_,h=>by
  unfold aC at h ⊢
  obtain⟨v,r,e,h1,h2⟩:=h
  exact⟨v,r,e,Rep.mono J U h1,aC.mono J U h2⟩
end
mutual
theorem Rep.pure:∀{d:D} {v:V},cT d=true->Rep K ca θ F d v->Rep K ca θ1 F d v
 | .non,_,_,h=>h
 | .bl _,_,_,h=>h
 | .int _,_,_,h=>h
 | .str _,_,_,h=>h
 | .lst ds,_,p,h=>by
  unfold Rep at h ⊢
  obtain⟨a,xs,e,J,hr⟩:=h
  exact⟨a,xs,e,J,aC.pure (by simpa[cT] using p) hr⟩
 | .tup ds,_,p,h=>by
  unfold Rep at h ⊢
  obtain⟨a,xs,e,J,hr⟩:=h
  exact⟨a,xs,e,J,aC.pure (by simpa[cT] using p) hr⟩
 | .ptr k,_,p,h=>by simp[cT] at p
 | .obj c ns ds,_,p,h=>by
  unfold Rep at h ⊢
  obtain⟨a,dx,xs,e,ha,U,hr⟩:=h
  exact⟨a,dx,xs,e,ha,U,aC.pure (by simpa[cT] using p) hr⟩
 | .exn c,_,_,h=>by
  unfold Rep at h ⊢
  exact h
theorem aC.pure:∀{ds:List D} {xs:List V},aN ds=true->aC K ca θ F ds xs->aC K ca θ1 F ds xs
 | [],_,_,h=>h
 | d::ds,_,p,h=>by
  unfold aC at h ⊢
  obtain⟨v,r,e,h1,h2⟩:=h
  simp only[aN,VH] at p
  exact⟨v,r,e,Rep.pure p.1 h1,aC.pure p.2 h2⟩
end
theorem Rep.scal{d:D}{v:V}(p:oN d=true)(h:Rep K ca θ F d v):Rep K ca θ1 F1 d v:=by
 cases d <;> first | exact h | (simp[oN] at p)
theorem aC.length:∀{ds:List D} {xs:List V},aC K ca θ F ds xs->xs.length=ds.length
 | [],_,h=>by unfold aC at h;rw[h];rfl
 | d::ds,_,h=>by
  unfold aC at h
  obtain⟨v,r,rfl,_,h2⟩:=h
  rw[Uq,Uq,aC.length h2]
theorem aC.get:∀{ds:List D} {xs:List V} {i:Nat} {d:D},aC K ca θ F ds xs->ds[i]? =some d->∃v,xs[i]? =some v/\Rep K ca θ F d v
 | [],_,_,_,_,e=>by simp at e
 | d::ds,_,0,_,h,e=>by
  unfold aC at h
  obtain⟨v,r,rfl,h1,_⟩:=h
  simp at e
  subst e
  exact⟨v,rfl,h1⟩
 | d::ds,_,i+1,x,h,e=>by
  unfold aC at h
  obtain⟨v,r,rfl,_,h2⟩:=h
  obtain⟨u,e1,e2⟩:=aC.get (i:=i) (d:=x) h2 (by simpa using e)
  exact⟨u,by simpa using e1,e2⟩
theorem aC.append:∀{ds es:List D} {xs ys:List V},aC K ca θ F ds xs->aC K ca θ F es ys->aC K ca θ F (ds++es) (xs++ys)
 | [],_,_,_,h,k=>by unfold aC at h;rw[h];exact k
 | d::ds,_,_,_,h,k=>by
  unfold aC at h
  obtain⟨v,r,rfl,h1,h2⟩:=h
  show aC K ca θ F (d::(ds++_)) (v::(r++_))
  unfold aC
  exact⟨v,_,rfl,h1,aC.append h2 k⟩
theorem aC.one{d:D}{v:V}(h:Rep K ca θ F d v):aC K ca θ F [d] [v]:=by
 unfold aC
 exact⟨v,[],rfl,h,by unfold aC;rfl⟩
theorem aC.nil:aC K ca θ F [] []:=by unfold aC;rfl
theorem aC.cons{d:D}{v:V}{ds:List D}{xs:List V}(h:Rep K ca θ F d v)(k:aC K ca θ F ds xs):aC K ca θ F (d::ds) (v::xs):=by
 unfold aC
 exact⟨v,xs,rfl,h,k⟩
theorem aC.take:∀{ds:List D} {xs:List V} (n:Nat),aC K ca θ F ds xs->aC K ca θ F (ds.take n) (xs.take n)
 | _,_,0,_=>by simp;exact aC.nil
 | [],_,n+1,h=>by unfold aC at h;rw[h];exact aC.nil
 | d::ds,_,n+1,h=>by
  unfold aC at h
  obtain⟨v,r,rfl,h1,h2⟩:=h
  exact aC.cons h1 (aC.take n h2)
theorem aC.drop:∀{ds:List D} {xs:List V} (n:Nat),aC K ca θ F ds xs->aC K ca θ F (ds.drop n) (xs.drop n)
 | _,_,0,h=>h
 | [],_,n+1,h=>by unfold aC at h;rw[h];exact aC.nil
 | d::ds,_,n+1,h=>by
  unfold aC at h
  obtain⟨v,r,rfl,h1,h2⟩:=h
  exact aC.drop n h2
theorem aC.set{d:D}{v:V}(h:Rep K ca θ F d v):∀{ds:List D} {xs:List V} (i:Nat),aC K ca θ F ds xs->aC K ca θ F (ds.set i d) (xs.set i v)
 | [],_,_,k=>by unfold aC at k;rw[k];exact aC.nil
 | _::_,_,0,k=>by
  unfold aC at k
  obtain⟨v,r,rfl,h1,h2⟩:=k
  exact aC.cons h h2
 | _::_,_,i+1,k=>by
  unfold aC at k
  obtain⟨v,r,rfl,h1,h2⟩:=k
  exact aC.cons h1 (aC.set h i h2)
theorem aC.reverse:∀{ds:List D} {xs:List V},aC K ca θ F ds xs->aC K ca θ F ds.reverse xs.reverse
 | [],_,h=>by unfold aC at h;rw[h];exact aC.nil
 | d::ds,_,h=>by
  unfold aC at h
  obtain⟨v,r,rfl,h1,h2⟩:=h
  rw[VT,VT]
  exact aC.append (aC.reverse h2) (aC.one h1)
end
structure Stp(H F:Hp)(θ:List Addr)(H1 F1:Hp)(θ1:List Addr):Prop where
 ff:bM F F1
 th:∃r,θ1=θ++r/\∀a∈r,H a=none
 kp:∀b o,H b=some o->b∉θ->H1 b=some o
 al:∀b o,H b=some o->∃o',H1 b=some o'
 nf:∀b o,F1 b=some o->F b=some o\/H b=none\/b∈θ
theorem Stp.refl{H F:Hp}{θ:List Addr}:Stp H F θ H F θ:=⟨bM.refl _,⟨[],by simp,by simp⟩,λ_ _ h _=>h,λ_ o h=>⟨o,h⟩,λ_ _ h=>.inl h⟩
theorem Stp.pre{H F H1 F1:Hp}{θ θ1:List Addr}(x:Stp H F θ H1 F1 θ1):∃r,θ1=θ++r:=let ⟨r,e,_⟩:=x.th;⟨r,e⟩
theorem Stp.trans{H F H1 F1 H2 F2:Hp}{θ θ1 θ2:List Addr}(x:Stp H F θ H1 F1 θ1)(y:Stp H1 F1 θ1 H2 F2 θ2):Stp H F θ H2 F2 θ2:=by
 obtain⟨r,rfl,hr⟩:=x.th
 obtain⟨U,rfl,J⟩:=y.th
 refine⟨x.ff.trans y.ff,⟨r++U,by rw[UX],λa ha=> ?_⟩,λb o h hb=> ?_,λb o h=> ?_,λb o h=> ?_⟩
 ·rcases Uj.mp ha with z | z
  ·exact hr a z
  ·cases e:H a with
   | none=>rfl
   | some o=>
    obtain⟨o',e'⟩:=x.al a o e
    rw[J a z] at e'
    cases e'
 ·refine y.kp b o (x.kp b o h hb) λhm=> ?_
  rcases Uj.mp hm with z | z
  ·exact hb z
  ·rw[hr b z] at h
   cases h
 ·obtain⟨o',e'⟩:=x.al b o h
  exact y.al b o' e'
 ·rcases y.nf b o h with z | z | z
  ·exact x.nf b o z
  ·refine .inr (.inl ?_)
   cases e:H b with
   | none=>rfl
   | some o'=>
    obtain⟨Y,e2⟩:=x.al b o' e
    rw[z] at e2
    cases e2
  ·rcases Uj.mp z with q | q
   ·exact .inr (.inr q)
   ·exact .inr (.inl (hr b q))
def j8(K:Fa)(ca:Nat->Addr)(H F:Hp)(θ:List Addr)(a:Addr):Cell->Prop
 | .dead=>∃o,H a=some o
 | .lst ds=>F a=none/\∃xs,H a=some (.lst xs)/\aC K ca θ F ds xs
 | .ins c ns ds=>F a=none/\∃dx xs,H a=some (.ins (ca c) dx (ns.zip xs))/\ns.length=xs.length/\aC K ca θ F ds xs
theorem j8.there{K:Fa}{ca:Nat->Addr}{H F:Hp}{θ:List Addr}{a:Addr}{c:Cell}(h:j8 K ca H F θ a c):∃o,H a=some o:=by
 cases c with
 | dead=>exact h
 | lst ds=>obtain⟨_,xs,e,_⟩:=h;exact⟨_,e⟩
 | ins c ns ds=>obtain⟨_,dx,xs,e,_⟩:=h;exact⟨_,e⟩
structure Now(K:Fa)(ca:Nat->Addr)(H F:Hp)(θ:List Addr)(O:aB):Prop where
 fh:bM F H
 nd:θ.Nodup
 ln:θ.length=O.length
 ce:∀(k:Nat) a c,θ[k]? =some a->O[k]? =some c->j8 K ca H F θ a c
theorem Now.there{K:Fa}{ca:Nat->Addr}{H F:Hp}{θ:List Addr}{O:aB}(n:Now K ca H F θ O){a:Addr}(h:a∈θ):∃o,H a=some o:=by
 obtain⟨k,hk,e⟩:=Vt h
 have h1:θ[k]? =some a:=by rw[T7 hk,e]
 have h2:∃c,O[k]? =some c:=⟨O[k]'(by rw[<- n.ln];exact hk),T7 _⟩
 obtain⟨c,h2⟩:=h2
 exact(n.ce k a c h1 h2).there
theorem Now.nil{K:Fa}{ca:Nat->Addr}{H F:Hp}(h:bM F H):Now K ca H F [] []:=⟨h,X4,rfl,λk a c e _=>by simp at e⟩
structure BS(K:Fa)(ca:Nat->Addr)(σ:St)(H F:Hp)(θ:List Addr)(s:S):Prop where
 now:Now K ca H F θ s.o
 len:σ.length=s.r.length
 sl:∀(i:Nat) d,s.r[i]? =some (some d)->∃v,σ[i]? =some (some v)/\Rep K ca θ F d v
theorem BS.newF{K:Fa}{ca:Nat->Addr}{σ:St}{H F:Hp}{θ:List Addr}{s:S}(b:BS K ca σ H F θ s){p:Addr}(hp:H p=none)(o:HO):
 Stp H F θ (upd H p o) (upd F p o) θ/\BS K ca σ (upd H p o) (upd F p o) θ s/\bM F (upd F p o)/\upd F p o p=some o:=by
 have nm:∀a u,H a=some u->a≠p:=λa u e z=>by rw[z,hp] at e;cases e
 have fp:F p=none:=by
  cases e:F p with
  | none=>rfl
  | some u=>rw[b.now.fh p u e] at hp;cases hp
 have J:bM F (upd F p o):=λa u e=>by rw[aS (nm a u (b.now.fh a u e))];exact e
 have U:bM H (upd H p o):=λa u e=>by rw[aS (nm a u e)];exact e
 refine⟨⟨J,⟨[],by simp,by simp⟩,λa u e _=>U a u e,λa u e=>⟨u,U a u e⟩,λa u e=> ?_⟩,⟨⟨λa u e=> ?_,b.now.nd,b.now.ln,λk a c e1 e2=> ?_⟩,b.len,λi d e=> ?_⟩,J,cO⟩
 ·by_cases h:a=p
  ·subst h;exact .inr (.inl hp)
  ·rw[aS h] at e;exact .inl e
 ·by_cases h:a=p
  ·subst h;rw[cO] at e ⊢;exact e
  ·rw[aS h] at e ⊢;exact b.now.fh a u e
 ·have q:=b.now.ce k a c e1 e2
  obtain⟨u,hu⟩:=q.there
  have ne:=nm a u hu
  cases c with
  | dead=>exact⟨u,U a u hu⟩
  | lst ds=>
   obtain⟨q1,xs,q2,Y⟩:=q
   exact⟨by rw[aS ne];exact q1,xs,U _ _ q2,Y.mono J ⟨[],by simp⟩⟩
  | ins c ns ds=>
   obtain⟨q1,dx,xs,q2,Y,q4⟩:=q
   exact⟨by rw[aS ne];exact q1,dx,xs,U _ _ q2,Y,q4.mono J ⟨[],by simp⟩⟩
 ·obtain⟨v,h1,h2⟩:=b.sl i d e
  exact⟨v,h1,h2.mono J ⟨[],by simp⟩⟩
theorem BS.newC{K:Fa}{ca:Nat->Addr}{σ:St}{H F:Hp}{θ:List Addr}{s:S}(b:BS K ca σ H F θ s){p:Addr}(hp:H p=none){ds:List D}{xs:List V}(hr:aC K ca θ F ds xs):
 Stp H F θ (upd H p (.lst xs)) F (θ++[p])/\BS K ca σ (upd H p (.lst xs)) F (θ++[p]) ⟨s.r,s.o++[.lst ds]⟩/\Rep K ca (θ++[p]) F (.ptr s.o.length) (.ref p):=by
 have nm:∀a u,H a=some u->a≠p:=λa u e z=>by rw[z,hp] at e;cases e
 have fp:F p=none:=by
  cases e:F p with
  | none=>rfl
  | some u=>rw[b.now.fh p u e] at hp;cases hp
 have J:bM H (upd H p (.lst xs)):=λa u e=>by rw[aS (nm a u e)];exact e
 have pt:p∉θ:=λh=>by obtain⟨u,hu⟩:=b.now.there h;rw[hp] at hu;cases hu
 refine⟨⟨bM.refl _,⟨[p],rfl,by simpa using hp⟩,λa u e _=>J a u e,λa u e=>⟨u,J a u e⟩,λa u e=>.inl e⟩,⟨⟨b.now.fh.trans J, ?_, ?_,λk a c e1 e2=> ?_⟩,b.len,λi d e=> ?_⟩, ?_⟩
 ·refine VC.mpr ⟨b.now.nd,by simp,λa ha x hx=> ?_⟩
  rw[Ul.mp hx]
  rintro rfl
  exact pt ha
 ·simp[b.now.ln]
 ·by_cases hk:k<θ.length
  ·rw[Ut hk] at e1
   rw[Ut (by rw[<- b.now.ln];exact hk)] at e2
   have q:=b.now.ce k a c e1 e2
   obtain⟨u,hu⟩:=q.there
   cases c with
   | dead=>exact⟨u,J a u hu⟩
   | lst ds=>
    obtain⟨q1,ys,q2,U⟩:=q
    exact⟨q1,ys,J _ _ q2,U.mono (bM.refl _) ⟨[p],rfl⟩⟩
   | ins c ns ds=>
    obtain⟨q1,dx,ys,q2,U,q4⟩:=q
    exact⟨q1,dx,ys,J _ _ q2,U,q4.mono (bM.refl _) ⟨[p],rfl⟩⟩
  ·have Y:k<(θ++[p]).length:=(Ur.mp e1).1
   have ab:k=θ.length:=by simp at Y;omega
   subst ab
   rw[Ui (Ud _)] at e1
   rw[Ui (by rw[b.now.ln];exact Ud _),b.now.ln] at e2
   simp at e1 e2
   subst e1;subst e2
   exact⟨fp,xs,cO,hr.mono (bM.refl _) ⟨[p],rfl⟩⟩
 ·obtain⟨v,h1,h2⟩:=b.sl i d e
  exact⟨v,h1,h2.mono (bM.refl _) ⟨[p],rfl⟩⟩
 ·unfold Rep
  exact⟨p,rfl,by rw[<- b.now.ln];simp⟩
theorem BS.set{K:Fa}{ca:Nat->Addr}{σ:St}{H F:Hp}{θ:List Addr}{s:S}(b:BS K ca σ H F θ s){d:D}{v:V}(h:Rep K ca θ F d v)(i:Nat):BS K ca (σ.set i (some v)) H F θ ⟨s.r.set i (some d),s.o⟩:=by
 refine⟨b.now,by simp[b.len],λj e U=> ?_⟩
 by_cases J:i=j
 ·subst J
  have Y:i<s.r.length:=by
   have:=(Ur.mp U).1
   simpa using this
  rw[UU Y] at U
  cases U
  exact⟨v,UU (by rw[b.len];exact Y),h⟩
 ·rw[U2 J] at U
  obtain⟨u,h1,h2⟩:=b.sl j e U
  exact⟨u,by rw[U2 J];exact h1,h2⟩
abbrev EM:=S->Res (D×S)
abbrev AM:=S->Res (List D×S)
inductive Out where
 | next (s:S) | ret (d:D) (s:S) | brk (s:S) | cnt (s:S) | exc (c:Nat) (a:D) (o:S) | bad
abbrev SM:=S->Out
def PoR{α:Type}(C:Ct)(H F:Hp)(θ:List Addr)(x:Res α)(k:α->Hp->Hp->List Addr->Prop):Prop:=match x with
 | .ok a=>∀H1 F1 θ1,Stp H F θ H1 F1 θ1->k a H1 F1 θ1
 | .exc c a o=>∀H1 F1 θ1,Stp H F θ H1 F1 θ1->Now C.K C.ca H1 F1 θ1 o.o->C.W c a o H1 F1 θ1
 | .bad=>False
abbrev PoE(C:Ct)(σ:St)(H F:Hp)(θ:List Addr)(x:Res (D×S))(Q:VK):Prop:=
 PoR C H F θ x λy H1 F1 θ1=>BS C.K C.ca σ H1 F1 θ1 y.2->∀v,Rep C.K C.ca θ1 F1 y.1 v->Q v H1
abbrev PoA(C:Ct)(σ:St)(H F:Hp)(θ:List Addr)(x:Res (List D×S))(Q:List V->Hp->Prop):Prop:=
 PoR C H F θ x λy H1 F1 θ1=>BS C.K C.ca σ H1 F1 θ1 y.2->∀v,aC C.K C.ca θ1 F1 y.1 v->Q v H1
abbrev PoT(C:Ct)(σ:St)(H F:Hp)(θ:List Addr)(x:Res (Bool×S))(Q:Bool->Hp->Prop):Prop:=
 PoR C H F θ x λy H1 F1 θ1=>BS C.K C.ca σ H1 F1 θ1 y.2->Q y.1 H1
abbrev PoG(C:Ct)(H F:Hp)(θ:List Addr)(x:Res S)(Q:St->Hp->Prop):Prop:=
 PoR C H F θ x λy H1 F1 θ1=>∀J,BS C.K C.ca J H1 F1 θ1 y->Q J H1
def PoS(C:Ct)(H F:Hp)(θ:List Addr)(x:Out)(Q:Ends):Prop:=match x with
 | .next s1=>∀J H1 F1 θ1,Stp H F θ H1 F1 θ1->BS C.K C.ca J H1 F1 θ1 s1->Q.nx J H1
 | .ret d s1=>∀v J H1 F1 θ1,Stp H F θ H1 F1 θ1->BS C.K C.ca J H1 F1 θ1 s1->Rep C.K C.ca θ1 F1 d v->Q.rt v H1
 | .brk s1=>∀J H1 F1 θ1,Stp H F θ H1 F1 θ1->BS C.K C.ca J H1 F1 θ1 s1->Q.bk J H1
 | .cnt s1=>∀J H1 F1 θ1,Stp H F θ H1 F1 θ1->BS C.K C.ca J H1 F1 θ1 s1->Q.ct J H1
 | .exc c a o=>∀H1 F1 θ1,Stp H F θ H1 F1 θ1->Now C.K C.ca H1 F1 θ1 o.o->C.W c a o H1 F1 θ1
 | .bad=>False
theorem PoR.after{α:Type}{C:Ct}{H F H1 F1:Hp}{θ θ1:List Addr}{x:Res α}{k:α->Hp->Hp->List Addr->Prop}(st:Stp H F θ H1 F1 θ1)(p:PoR C H F θ x k):PoR C H1 F1 θ1 x k:=by
 unfold PoR at p ⊢
 cases x with
 | ok a=>exact λH2 F2 θ2 s2=>p H2 F2 θ2 (st.trans s2)
 | exc c a o=>exact λH2 F2 θ2 s2 n=>p H2 F2 θ2 (st.trans s2) n
 | bad=>exact p
theorem PoR.bind {α β:Type} {C:Ct} {H F:Hp} {θ:List Addr} {x:Res α} {f:α->Res β} {k:α->Hp->Hp->List Addr->Prop} {j:β->Hp->Hp->List Addr->Prop}
 (p:PoR C H F θ (x.bind f) j) (h:∀a H1 F1 θ1,x=.ok a->Stp H F θ H1 F1 θ1->PoR C H1 F1 θ1 (f a) j->k a H1 F1 θ1):PoR C H F θ x k:=by
 cases x with
 | ok a=>exact λH1 F1 θ1 st=>h a H1 F1 θ1 rfl st (PoR.after st p)
 | exc c a o=>exact p
 | bad=>exact p
theorem PoR.imp{α:Type}{C:Ct}{H F:Hp}{θ:List Addr}{x:Res α}{k j:α->Hp->Hp->List Addr->Prop}(p:PoR C H F θ x j)(h:∀a H1 F1 θ1,x=.ok a->Stp H F θ H1 F1 θ1->j a H1 F1 θ1->k a H1 F1 θ1):PoR C H F θ x k:=by
 cases x with
 | ok a=>exact λH1 F1 θ1 st=>h a H1 F1 θ1 rfl st (p H1 F1 θ1 st)
 | exc c a o=>exact p
 | bad=>exact p
theorem PoS.after{C:Ct}{H F H1 F1:Hp}{θ θ1:List Addr}{x:Out}{Q:Ends}(st:Stp H F θ H1 F1 θ1)(p:PoS C H F θ x Q):PoS C H1 F1 θ1 x Q:=by
 unfold PoS at p ⊢
 cases x with
 | next s=>exact λv H2 F2 θ2 s2 b=>p v H2 F2 θ2 (st.trans s2) b
 | ret d s=>exact λv J H2 F2 θ2 s2 b r=>p v J H2 F2 θ2 (st.trans s2) b r
 | brk s=>exact λv H2 F2 θ2 s2 b=>p v H2 F2 θ2 (st.trans s2) b
 | cnt s=>exact λv H2 F2 θ2 s2 b=>p v H2 F2 θ2 (st.trans s2) b
 | exc c a o=>exact λH2 F2 θ2 s2 n=>p H2 F2 θ2 (st.trans s2) n
 | bad=>exact p
def Res.out{α:Type}(x:Res α)(f:α->Out):Out:=match x with
 | .ok a=>f a
 | .exc c a o=>.exc c a o
 | .bad=>.bad
@[simp] theorem kZ {α:Type} (a:α) (f:α->Out):(Res.ok a).out f=f a:=rfl
@[simp] theorem Q2 {α:Type} (c:Nat) (a:D) (o:S) (f:α->Out):(Res.exc c a o:Res α).out f=.exc c a o:=rfl
@[simp] theorem Q8 {α:Type} (f:α->Out):(Res.bad:Res α).out f=.bad:=rfl
theorem PoS.out {α:Type} {C:Ct} {H F:Hp} {θ:List Addr} {x:Res α} {f:α->Out} {k:α->Hp->Hp->List Addr->Prop} {Q:Ends}
 (p:PoS C H F θ (x.out f) Q) (h:∀a H1 F1 θ1,x=.ok a->Stp H F θ H1 F1 θ1->PoS C H1 F1 θ1 (f a) Q->k a H1 F1 θ1):PoR C H F θ x k:=by
 cases x with
 | ok a=>exact λH1 F1 θ1 st=>h a H1 F1 θ1 rfl st (PoS.after st p)
 | exc c a o=>exact p
 | bad=>exact p
def RdE(C:Ct)(t:TE)(m:EM):Prop:=∀σ H F θ s Q,BS C.K C.ca σ H F θ s->PoE C σ H F θ (m s) Q->t σ H Q
def RdA(C:Ct)(t:TA)(m:AM):Prop:=∀σ H F θ s Q,BS C.K C.ca σ H F θ s->PoA C σ H F θ (m s) Q->t σ H Q
abbrev TM:=S->Res (Bool×S)
def RdT(C:Ct)(t:TT)(m:TM):Prop:=∀σ H F θ s Q,BS C.K C.ca σ H F θ s->PoT C σ H F θ (m s) Q->t σ H Q
abbrev GM:=D->S->Res S
def RdG(C:Ct)(t:TG)(m:GM):Prop:=∀σ H F θ s d v Q,BS C.K C.ca σ H F θ s->Rep C.K C.ca θ F d v->PoG C H F θ (m d s) Q->t v σ H Q
def RdS(C:Ct)(t:TS)(m:SM):Prop:=∀σ H F θ s Q,BS C.K C.ca σ H F θ s->PoS C H F θ (m s) Q->t Q σ H
section
variable {C : Ct}
@[simp] theorem gB {K ca θ F v}:Rep K ca θ F .non v↔v=.non:=by unfold Rep;exact XD
@[simp] theorem cE {K ca θ F v b}:Rep K ca θ F (.bl b) v↔v=.bl b:=by unfold Rep;exact XD
@[simp] theorem bA {K ca θ F v i}:Rep K ca θ F (.int i) v↔v=.int i:=by unfold Rep;exact XD
@[simp] theorem dA {K ca θ F v x}:Rep K ca θ F (.str x) v↔v=.str x:=by unfold Rep;exact XD
def aa(i:Nat):EM:=λs=>match s.r[i]? with
 | some (some d)=>.ok (d,s)
 | _=>.bad
theorem ag(i:Nat):RdE C (Jy i) (aa i):=by
 intro σ H F θ s Q b p
 unfold aa at p
 split at p
 ·rename_i d e
  obtain⟨v,h1,h2⟩:=b.sl i d e
  exact⟨v,h1,p H F θ .refl b v h2⟩
 ·exact p.elim
def aq(d:D):EM:=λs=>.ok (d,s)
theorem aF(i:Int):RdE C (tC (.int i)) (aq (.int i)):=λσ H F θ s Q b p=>p H F θ .refl b (.int i) (bA.mpr rfl)
theorem xy(i:Bool):RdE C (tC (.bl i)) (aq (.bl i)):=λσ H F θ s Q b p=>p H F θ .refl b (.bl i) (cE.mpr rfl)
theorem xA(i:Str):RdE C (tC (.str i)) (aq (.str i)):=λσ H F θ s Q b p=>p H F θ .refl b (.str i) (dA.mpr rfl)
theorem Cu:RdE C (tC .non) (aq .non):=λσ H F θ s Q b p=>p H F θ .refl b .non (gB.mpr rfl)
abbrev Op2:=aB->D->D->Res D
abbrev Op1:=aB->D->Res D
def gT(C:Ct)(r:R2)(f:Op2):Prop:=∀σ H F θ s x y v w Q,BS C.K C.ca σ H F θ s->Rep C.K C.ca θ F x v->Rep C.K C.ca θ F y w->
 PoE C σ H F θ ((f s.o x y).bind λd=>.ok (d,s)) Q->r v w H Q
def ak(f:Op2)(ma mb:EM):EM:=λs=>(ma s).bind λx=>(mb x.2).bind λy=>(f y.2.o x.1 y.1).bind λd=>.ok (d,y.2)
theorem av{r:R2}{f:Op2}{ta tb:TE}{ma mb:EM}(U:gT C r f)(ha:RdE C ta ma)(hb:RdE C tb mb):RdE C (tOp r ta tb) (ak f ma mb):=by
 intro σ H F θ s Q b p
 refine ha σ H F θ s _ b (PoR.bind p ?_)
 rintro ⟨x,s1⟩ H1 F1 θ1 _ Y p1 b1 v r1
 refine hb σ H1 F1 θ1 s1 _ b1 (PoR.bind p1 ?_)
 rintro ⟨y,s2⟩ H2 F2 θ2 _ J p2 b2 w r2
 exact U σ H2 F2 θ2 s2 x y v w Q b2 (r1.mono J.ff J.pre) r2 p2
def Nf(C:Ct)(r:V->Hp->VK->Prop)(f:Op1):Prop:=∀σ H F θ s x v Q,BS C.K C.ca σ H F θ s->Rep C.K C.ca θ F x v->
 PoE C σ H F θ ((f s.o x).bind λd=>.ok (d,s)) Q->r v H Q
def unM(f:Op1)(ma:EM):EM:=λs=>(ma s).bind λx=>(f x.2.o x.1).bind λd=>.ok (d,x.2)
theorem xJ{r:V->Hp->VK->Prop}{f:Op1}{ta:TE}{ma:EM}(J:Nf C r f)(ha:RdE C ta ma):RdE C (tUn r ta) (unM f ma):=by
 intro σ H F θ s Q b p
 refine ha σ H F θ s _ b (PoR.bind p ?_)
 rintro ⟨x,s1⟩ H1 F1 θ1 _ U p1 Y v r1
 exact J σ H1 F1 θ1 s1 x v Q Y r1 p1
def ao:AM:=λs=>.ok ([],s)
def ae(m:EM)(r:AM):AM:=λs=>(m s).bind λx=>(r x.2).bind λy=>.ok (x.1::y.1,y.2)
theorem au:RdA C qL ao:=λσ H F θ s Q b p=>p H F θ .refl b [] aC.nil
theorem ai{te:TE}{ta:TA}{m:EM}{r:AM}(U:RdE C te m)(ha:RdA C ta r):RdA C (nY te ta) (ae m r):=by
 intro σ H F θ s Q b p
 refine U σ H F θ s _ b (PoR.bind p ?_)
 rintro ⟨x,s1⟩ H1 F1 θ1 _ Y p1 b1 v r1
 refine ha σ H1 F1 θ1 s1 _ b1 (PoR.bind p1 ?_)
 rintro ⟨y,s2⟩ H2 F2 θ2 _ J p2 b2 w r2
 exact p2 H2 F2 θ2 .refl b2 (v::w) (aC.cons (r1.mono J.ff J.pre) r2)
abbrev OpN:=aB->List D->Res D
def kh(C:Ct)(r:List V->Hp->VK->Prop)(f:OpN):Prop:=∀σ H F θ s xs vs Q,BS C.K C.ca σ H F θ s->aC C.K C.ca θ F xs vs->
 PoE C σ H F θ ((f s.o xs).bind λd=>.ok (d,s)) Q->r vs H Q
def bE(f:OpN)(ma:AM):EM:=λs=>(ma s).bind λx=>(f x.2.o x.1).bind λd=>.ok (d,x.2)
theorem bo{r:List V->Hp->VK->Prop}{f:OpN}{ta:TA}{ma:AM}(hc:kh C r f)(ha:RdA C ta ma):RdE C (tCB r ta) (bE f ma):=by
 intro σ H F θ s Q b p
 refine ha σ H F θ s _ b (PoR.bind p ?_)
 rintro ⟨x,s1⟩ H1 F1 θ1 _ J p1 U v Y
 exact hc σ H1 F1 θ1 s1 x v Q U Y p1
def tq(ma:AM):EM:=λs=>(ma s).bind λx=>if x.1.length<=16777216 then .ok (.tup x.1,x.2) else .bad
theorem w8{ta:TA}{ma:AM}(ha:RdA C ta ma):RdE C (NO ta) (tq ma):=by
 intro σ H F θ s Q b p
 refine ha σ H F θ s _ b (PoR.bind p ?_)
 rintro ⟨x,s1⟩ H1 F1 θ1 _ U p1 Y v J
 dsimp only at p1
 split at p1
 ·rename_i hl
  refine⟨by rw[J.length];exact hl,λq hq=> ?_⟩
  obtain⟨st,b2,sF,e⟩:=Y.newF hq (.tup v)
  refine p1 _ _ _ st b2 _ ?_
  unfold Rep
  exact⟨q,v,rfl,SqT.of e,J.mono sF ⟨[],by simp⟩⟩
 ·exact p1.elim
def oE(ma:AM):EM:=λs=>(ma s).bind λx=>if x.1.length<=16777216 then .ok (.lst x.1,x.2) else .bad
theorem xQ{ta:TA}{ma:AM}(ha:RdA C ta ma):RdE C (Cp ta) (oE ma):=by
 intro σ H F θ s Q b p
 refine ha σ H F θ s _ b (PoR.bind p ?_)
 rintro ⟨x,s1⟩ H1 F1 θ1 _ U p1 Y v J
 dsimp only at p1
 split at p1
 ·rename_i hl
  refine⟨by rw[J.length];exact hl,λq hq=> ?_⟩
  obtain⟨st,b2,sF,e⟩:=Y.newF hq (.lst v)
  refine p1 _ _ _ st b2 _ ?_
  unfold Rep
  exact⟨q,v,rfl,SqL.of e,J.mono sF ⟨[],by simp⟩⟩
 ·exact p1.elim
def ke(ma:AM):EM:=λs=>(ma s).bind λx=>if x.1.length<=16777216 then .ok (.ptr x.2.o.length,⟨x.2.r,x.2.o++[.lst x.1]⟩) else .bad
theorem kK{ta:TA}{ma:AM}(ha:RdA C ta ma):RdE C (Cp ta) (ke ma):=by
 intro σ H F θ s Q b p
 refine ha σ H F θ s _ b (PoR.bind p ?_)
 rintro ⟨x,s1⟩ H1 F1 θ1 _ U p1 Y v J
 dsimp only at p1
 split at p1
 ·rename_i hl
  refine⟨by rw[J.length];exact hl,λq hq=> ?_⟩
  obtain⟨st,b2,rp⟩:=Y.newC hq J
  exact p1 _ _ _ st b2 _ rp
 ·exact p1.elim
def bj(m:EM):TM:=λs=>(m s).bind λx=>match x.1 with
 | .bl b=>.ok (b,x.2)
 | _=>.bad
theorem bP{t:TE}{m:EM}(h:RdE C t m):RdT C (Kr t) (bj m):=by
 intro σ H F θ s Q b p
 refine h σ H F θ s _ b (PoR.bind p ?_)
 rintro ⟨x,s1⟩ H1 F1 θ1 _ J p1 U v Y
 cases x <;> first | exact Fk p1 | skip
 rename_i k _
 exact⟨k,cE.mp Y,p1 _ _ _ .refl U⟩
theorem sI{t:TE}{m:EM}(h:RdE C t m):RdT C (tB t) (bj m):=bP h
def qa(a b:TM):TM:=λs=>(a s).bind λx=>if x.1 then b x.2 else .ok (false,x.2)
def orT(a b:TM):TM:=λs=>(a s).bind λx=>if x.1 then .ok (true,x.2) else b x.2
def yB(a:TM):TM:=λs=>(a s).bind λx=>.ok (!x.1,x.2)
theorem xR{t u:TT}{a b:TM}(ha:RdT C t a)(hb:RdT C u b):RdT C (M3 t u) (qa a b):=by
 intro σ H F θ s Q bs p
 refine ha σ H F θ s _ bs (PoR.bind p ?_)
 rintro ⟨x,s1⟩ H1 F1 θ1 _ U p1 J
 cases x with
 | true=>exact rF (hb σ H1 F1 θ1 s1 Q J p1)
 | false=>exact rG (p1 _ _ _ .refl J)
theorem E6{t u:TT}{a b:TM}(ha:RdT C t a)(hb:RdT C u b):RdT C (tOr t u) (orT a b):=by
 intro σ H F θ s Q bs p
 refine ha σ H F θ s _ bs (PoR.bind p ?_)
 rintro ⟨x,s1⟩ H1 F1 θ1 _ U p1 J
 cases x with
 | true=>exact rF (p1 _ _ _ .refl J)
 | false=>exact rG (hb σ H1 F1 θ1 s1 Q J p1)
theorem BK{t:TT}{a:TM}(ha:RdT C t a):RdT C (M6 t) (yB a):=by
 intro σ H F θ s Q bs p
 refine ha σ H F θ s _ bs (PoR.bind p ?_)
 rintro ⟨x,s1⟩ H1 F1 θ1 _ J p1 U
 exact p1 _ _ _ .refl U
def JQ(a b:EM):EM:=λs=>(a s).bind λx=>match x.1 with
 | .bl true=>b x.2
 | .bl false=>.ok (.bl false,x.2)
 | _=>.bad
def orV(a b:EM):EM:=λs=>(a s).bind λx=>match x.1 with
 | .bl true=>.ok (.bl true,x.2)
 | .bl false=>b x.2
 | _=>.bad
def ID(a:EM):EM:=λs=>(a s).bind λx=>match x.1 with
 | .bl k=>.ok (.bl (!k),x.2)
 | _=>.bad
theorem Lo{t u:TE}{a b:EM}(ha:RdE C t a)(hb:RdE C u b):RdE C (KR t u) (JQ a b):=by
 intro σ H F θ s Q bs p
 refine ha σ H F θ s _ bs (PoR.bind p ?_)
 rintro ⟨x,s1⟩ H1 F1 θ1 _ U p1 J v Y
 cases x <;> first | exact Fk p1 | skip
 rename_i k _
 refine⟨k,cE.mp Y, ?_⟩
 cases k with
 | true=>exact rF (hb σ H1 F1 θ1 s1 Q J p1)
 | false=>exact rG (p1 _ _ _ .refl J _ (cE.mpr rfl))
theorem NY{t u:TE}{a b:EM}(ha:RdE C t a)(hb:RdE C u b):RdE C (Nz t u) (orV a b):=by
 intro σ H F θ s Q bs p
 refine ha σ H F θ s _ bs (PoR.bind p ?_)
 rintro ⟨x,s1⟩ H1 F1 θ1 _ U p1 J v Y
 cases x <;> first | exact Fk p1 | skip
 rename_i k _
 refine⟨k,cE.mp Y, ?_⟩
 cases k with
 | true=>exact rF (p1 _ _ _ .refl J _ (cE.mpr rfl))
 | false=>exact rG (hb σ H1 F1 θ1 s1 Q J p1)
theorem MM{t:TE}{a:EM}(ha:RdE C t a):RdE C (KJ t) (ID a):=by
 intro σ H F θ s Q bs p
 refine ha σ H F θ s _ bs (PoR.bind p ?_)
 rintro ⟨x,s1⟩ H1 F1 θ1 _ J p1 U v Y
 cases x <;> first | exact Fk p1 | skip
 rename_i k _
 exact⟨k,cE.mp Y,p1 _ _ _ .refl U _ (cE.mpr rfl)⟩
def ifM(c:TM)(a b:EM):EM:=λs=>(c s).bind λx=>if x.1 then a x.2 else b x.2
def Out.then(x:Out)(f:S->Out):Out:=match x with
 | .next s=>f s
 | o=>o
@[simp] theorem zW (s:S) (f:S->Out):(Out.next s).then f=f s:=rfl
@[simp] theorem Qb (d:D) (s:S) (f:S->Out):(Out.ret d s).then f=.ret d s:=rfl
@[simp] theorem Qc (s:S) (f:S->Out):(Out.brk s).then f=.brk s:=rfl
@[simp] theorem Ql (s:S) (f:S->Out):(Out.cnt s).then f=.cnt s:=rfl
@[simp] theorem Qr (c:Nat) (a:D) (o:S) (f:S->Out):(Out.exc c a o).then f=.exc c a o:=rfl
@[simp] theorem Qa (f:S->Out):Out.bad.then f=.bad:=rfl
def aP(a b:SM):SM:=λs=>(a s).then b
def cf:SM:=λs=>.next s
theorem bY:RdS C KL cf:=λσ H F θ s Q b p=>p σ H F θ .refl b
theorem aJ{t u:TS}{a b:SM}(ha:RdS C t a)(hb:RdS C u b):RdS C (NF t u) (aP a b):=by
 intro σ H F θ s Q bs p
 refine ha σ H F θ s _ bs ?_
 unfold aP at p
 cases e:a s with
 | next s1=>
  rw[e] at p
  intro U H1 F1 θ1 J Y
  exact hb U H1 F1 θ1 s1 Q Y (PoS.after J p)
 | ret d s1=>rw[e] at p;exact p
 | brk s1=>rw[e] at p;exact p
 | cnt s1=>rw[e] at p;exact p
 | exc c a o=>rw[e] at p;exact p
 | bad=>rw[e] at p;exact p
def eH(m:EM):SM:=λs=>(m s).out λx=>.next x.2
theorem dH{t:TE}{m:EM}(h:RdE C t m):RdS C (KN t) (eH m):=by
 intro σ H F θ s Q b p
 refine h σ H F θ s _ b (PoS.out p ?_)
 rintro ⟨x,s1⟩ H1 F1 θ1 _ J p1 U v Y
 exact p1 σ H1 F1 θ1 .refl U
def bO(m:EM):SM:=λs=>(m s).out λx=>.ret x.1 x.2
theorem bt{t:TE}{m:EM}(h:RdE C t m):RdS C (Ob t) (bO m):=by
 intro σ H F θ s Q b p
 refine h σ H F θ s _ b (PoS.out p ?_)
 rintro ⟨x,s1⟩ H1 F1 θ1 _ J p1 U v Y
 exact p1 v σ H1 F1 θ1 .refl U Y
def Qs:SM:=λs=>.ret .non s
def ifS(c:TM)(a b:SM):SM:=λs=>(c s).out λx=>if x.1 then a x.2 else b x.2
theorem dk{t:TT}{u w:TS}{c:TM}{a b:SM}(hc:RdT C t c)(ha:RdS C u a)(hb:RdS C w b):RdS C (Nq t u w) (ifS c a b):=by
 intro σ H F θ s Q bs p
 refine hc σ H F θ s _ bs (PoS.out p ?_)
 rintro ⟨x,s1⟩ H1 F1 θ1 _ U p1 J
 cases x with
 | true=>exact rF (ha σ H1 F1 θ1 s1 Q J p1)
 | false=>exact rG (hb σ H1 F1 θ1 s1 Q J p1)
def pT:SM:=λ_=>.bad
theorem iD:RdS C Gb pT:=λσ H F θ s Q b p=>p
def aG(i:Nat):GM:=λd s=>.ok ⟨s.r.set i (some d),s.o⟩
theorem aM(i:Nat):RdG C (uK i) (aG i):=λσ H F θ s d v Q b r p=>p H F θ .refl _ (b.set r i)
def E7(C:Ct)(t:TGs)(m:List D->S->Res S):Prop:=∀σ H F θ s ds vs Q,BS C.K C.ca σ H F θ s->aC C.K C.ca θ F ds vs->PoG C H F θ (m ds s) Q->t vs σ H Q
def cY:List D->S->Res S:=λds s=>match ds with
 | []=>.ok s
 | _=>.bad
def aU(g:GM)(r:List D->S->Res S):List D->S->Res S:=λds s=>match ds with
 | d::ds=>(g d s).bind λs1=>r ds s1
 | []=>.bad
theorem gC:E7 C Nt cY:=by
 intro σ H F θ s ds vs Q b r p
 cases ds with
 | nil=>exact⟨by unfold aC at r;exact r,p H F θ .refl σ b⟩
 | cons d ds=>exact Fk p
theorem cx{t:TG}{u:TGs}{g:GM}{m:List D->S->Res S}(U:RdG C t g)(hr:E7 C u m):E7 C (Kw t u) (aU g m):=by
 intro σ H F θ s ds vs Q b r p
 cases ds with
 | nil=>exact Fk p
 | cons d ds=>
  unfold aC at r
  obtain⟨v,w,rfl,Y,r2⟩:=r
  refine⟨v,w,rfl,U σ H F θ s d v _ b Y (PoR.bind p ?_)⟩
  intro s1 H1 F1 θ1 _ J p1 σ1 b1
  exact hr σ1 H1 F1 θ1 s1 ds w Q b1 (r2.mono J.ff J.pre) p1
def cV(m:List D->S->Res S)(n:Nat):GM:=λd s=>match d with
 | .tup ds=>if ds.length=n then m ds s else .bad
 | _=>.bad
theorem gA{n:Nat}{t:TGs}{m:List D->S->Res S}(h:E7 C t m):RdG C (MW C.K n t) (cV m n):=by
 intro σ H F θ s d v Q b r p
 cases d <;> first | exact Fk p | skip
 rename_i ds
 unfold Rep at r
 obtain⟨a,xs,rfl,J,hr⟩:=r
 unfold cV at p
 dsimp only at p
 split at p
 ·rename_i U
  exact⟨a,xs,rfl,bM.seqT b.now.fh J,by rw[hr.length];exact U,h σ H F θ s ds xs Q b hr p⟩
 ·exact Fk p
def kS(m:EM)(g:GM):SM:=λs=>((m s).bind λx=>g x.1 x.2).out λs=>.next s
theorem uc{t:TE}{m:EM}{g:TG}{J:GM}(h:RdE C t m)(hg:RdG C g J):RdS C (B0 t g) (kS m J):=by
 intro σ H F θ s Q b p
 have p':PoG C H F θ ((m s).bind λx=>J x.1 x.2) Q.nx:=PoS.out p λs1 H1 F1 θ1 _ U p1 σ1 Y=>p1 σ1 H1 F1 θ1 .refl Y
 refine h σ H F θ s _ b (PoR.bind p' ?_)
 rintro ⟨x,s1⟩ H1 F1 θ1 _ U p1 Y v r1
 exact hg σ H1 F1 θ1 s1 x v Q.nx Y r1 p1
abbrev setM(i:Nat)(m:EM):SM:=kS m (aG i)
theorem aT{t:TE}{m:EM}{i:Nat}(h:RdE C t m):RdS C (B0 t (uK i)) (setM i m):=uc h (aM i)
def P8(i:Nat)(f:Op2)(m:EM):SM:=setM i (ak f (aa i) m)
end
open PySem PySem.Spec PyProof.Rows L2
section
variable {C : Ct}
structure uy(C:Ct)(J:It)(ds:List D)(ok:aB->Prop)(H F:Hp)(θ:List Addr):Prop where
 go:∀(i:Nat) H2 F2 θ2 O2,i<ds.length->Stp H F θ H2 F2 θ2->Now C.K C.ca H2 F2 θ2 O2->ok O2->J.go i H2
 yl:∀(i:Nat) d σ H2 F2 θ2 s2 x H3,ds[i]? =some d->Stp H F θ H2 F2 θ2->BS C.K C.ca σ H2 F2 θ2 s2->ok s2.o->J.yld i H2 x H3->∃F3,Stp H2 F2 θ2 H3 F3 θ2/\BS C.K C.ca σ H3 F3 θ2 s2/\Rep C.K C.ca θ2 F3 d x
 st:∀(i:Nat) H2 F2 θ2 O2,ds.length<=i->Stp H F θ H2 F2 θ2->Now C.K C.ca H2 F2 θ2 O2->ok O2->J.stop i H2
def okC(ds:List D):Option Nat->aB->Prop
 | none,_=>True
 | some k,O=>O[k]? =some (.lst ds)
abbrev IM:=S->Res ((List D×Option Nat)×S)
def RdI(C:Ct)(U:TI)(im:IM):Prop:=∀σ H F θ s R,BS C.K C.ca σ H F θ s->
 PoR C H F θ (im s) (λy H1 F1 θ1=>BS C.K C.ca σ H1 F1 θ1 y.2->∀J,uy C J y.1.1 (okC y.1.1 y.1.2) H1 F1 θ1->R J H1)->U σ H R
open Classical in
noncomputable def cR (ok:aB->Prop)(g:GM)(body:SM):List D->S->Out
 | [],s=>if ok s.o then .next s else .bad
 | d::ds,s=>if ok s.o then (g d s).out λs1=>match body s1 with
  | .next s2=>cR ok g body ds s2
  | .cnt s2=>cR ok g body ds s2
  | .brk s2=>.next s2
  | o=>o
  else .bad
noncomputable def fM (im:IM)(g:GM)(body:SM):SM:=λs=>(im s).out λy=>cR (okC y.1.1 y.1.2) g body y.1.1 y.2
theorem eY{wi:TI}{g:TG}{tb:TS}{im:IM}{gm:GM}{bm:SM}(hi:RdI C wi im)(hg:RdG C g gm)(hb:RdS C tb bm):RdS C (Od wi g tb) (fM im gm bm):=by
 intro σ H F θ s Q b p
 refine hi σ H F θ s _ b (PoS.out p ?_)
 rintro ⟨⟨ds,k⟩,s1⟩ H1 F1 θ1 _ bw p1 b1 J it
 dsimp only at p1 it b1
 refine⟨λi m σ' H'=>m=ds.length-i/\i<=ds.length/\∃F' θ' s',Stp H1 F1 θ1 H' F' θ'/\BS C.K C.ca σ' H' F' θ' s'/\PoS C H' F' θ' (cR (okC ds k) gm bm (ds.drop i) s') Q,⟨ds.length,by simp,UR _,F1,θ1,s1,.refl,b1,by simpa using p1⟩, ?_⟩
 rintro i m σ' H' ⟨rfl,bU,F',θ',s',st,bs,po⟩
 by_cases lt:i<ds.length
 ·right
  rw[UT lt,cR] at po
  split at po
  ·rename_i ac
   refine⟨it.go i H' F' θ' s'.o lt st bs.now ac,λσ2 H2=>i+1<=ds.length/\∃F2 θ2 s2,Stp H1 F1 θ1 H2 F2 θ2/\BS C.K C.ca σ2 H2 F2 θ2 s2/\PoS C H2 F2 θ2 (cR (okC ds k) gm bm (ds.drop (i+1)) s2) Q,λσ2 H2 n=>⟨ds.length-(i+1),by omega,rfl,n⟩, ?_⟩
   intro x H3 hy
   obtain⟨F3,a1,b3,rp⟩:=it.yl i ds[i] σ' H' F' θ' s' x H3 (T7 lt) st bs ac hy
   refine hg σ' H3 F3 θ' s' ds[i] x _ b3 rp (PoS.out (PoS.after a1 po) ?_)
   intro s4 H4 F4 θ4 _ a9 U σ4 b4
   refine hb σ4 H4 F4 θ4 s4 _ b4 ?_
   have a2:∀Y,PoS C H4 F4 θ4 (cR (okC ds k) gm bm (ds.drop (i+1)) Y) Q->∀σ5 H5 F5 θ5,Stp H4 F4 θ4 H5 F5 θ5->BS C.K C.ca σ5 H5 F5 θ5 Y->i+1<=ds.length/\∃F2 θ2 s2,Stp H1 F1 θ1 H5 F2 θ2/\BS C.K C.ca σ5 H5 F2 θ2 s2/\PoS C H5 F2 θ2 (cR (okC ds k) gm bm (ds.drop (i+1)) s2) Q:=
    λY p5 σ5 H5 F5 θ5 a3 b5=>⟨lt,F5,θ5,Y,st.trans (a1.trans (a9.trans a3)),b5,PoS.after a3 p5⟩
   cases e:bm s4 with
   | next Y=>rw[e] at U;exact a2 Y U
   | cnt Y=>rw[e] at U;exact a2 Y U
   | brk Y=>rw[e] at U;exact U
   | ret d Y=>rw[e] at U;exact U
   | exc c a o=>rw[e] at U;exact U
   | bad=>rw[e] at U;exact U
  ·exact Fk po
 ·left
  rw[VS (by omega),cR] at po
  split at po
  ·rename_i ac
   exact⟨it.st i H' F' θ' s'.o (by omega) st bs.now ac,po σ' H' F' θ' .refl bs⟩
  ·exact Fk po
def my(c:TM)(b:SM):Nat->S->Out
 | 0,_=>.bad
 | n+1,s=>(c s).out λx=>if x.1 then (match b x.2 with
  | .next s2=>my c b n s2
  | .cnt s2=>my c b n s2
  | .brk s2=>.next s2
  | o=>o) else .next x.2
def xo(φ:S->Nat)(c:TM)(b:SM):SM:=λs=>my c b (φ s) s
theorem Im{tc:TT}{tb:TS}{φ:S->Nat}{c:TM}{b:SM}(hc:RdT C tc c)(hb:RdS C tb b):RdS C (Hg tc tb) (xo φ c b):=by
 intro σ H F θ s Q bs p
 refine⟨λm U H'=>∃F' θ' s',BS C.K C.ca U H' F' θ' s'/\PoS C H' F' θ' (my c b m s') Q,⟨φ s,F,θ,s,bs,p⟩, ?_⟩
 rintro m U H' ⟨F',θ',s',b',po⟩
 cases m with
 | zero=>exact Fk po
 | succ m=>
  rw[my] at po
  refine hc U H' F' θ' s' _ b' (PoS.out po ?_)
  rintro ⟨x,s1⟩ H1 F1 θ1 _ a2 p1 b1
  cases x with
  | false=>exact rG (p1 U H1 F1 θ1 .refl b1)
  | true=>
   refine rF ⟨λσ2 H2=>∃F2 θ2 s2,BS C.K C.ca σ2 H2 F2 θ2 s2/\PoS C H2 F2 θ2 (my c b m s2) Q,λσ2 H2 n=>⟨m,Wg _,n⟩, ?_⟩
   refine hb U H1 F1 θ1 s1 _ b1 ?_
   dsimp only[if_true] at p1
   cases e:b s1 with
   | next Y=>rw[e] at p1;exact λσ5 H5 F5 θ5 J b5=>⟨F5,θ5,Y,b5,PoS.after J p1⟩
   | cnt Y=>rw[e] at p1;exact λσ5 H5 F5 θ5 J b5=>⟨F5,θ5,Y,b5,PoS.after J p1⟩
   | brk Y=>rw[e] at p1;exact p1
   | ret d Y=>rw[e] at p1;exact p1
   | exc c a o=>rw[e] at p1;exact p1
   | bad=>rw[e] at p1;exact p1
def itemsOf(O:aB):D->Res (List D×Option Nat)
 | .lst ds=>.ok (ds,none)
 | .ptr k=>match O[k]? with
  | some (.lst ds)=>.ok (ds,some k)
  | _=>.bad
 | _=>.bad
def listI(m:EM):IM:=λs=>(m s).bind λx=>(itemsOf x.2.o x.1).bind λy=>.ok (y,x.2)
theorem Oe{a:Addr}{xs:List V}{ds:List D}{H F:Hp}{θ:List Addr}(hs:SqL C.K F a xs)(hr:aC C.K C.ca θ F ds xs)(inj:∀{σ H2 F2 θ2 s2},Stp H F θ H2 F2 θ2->BS C.K C.ca σ H2 F2 θ2 s2->SqL C.K H2 a xs):
 uy C (Itl C.K a) ds (okC ds none) H F θ where
 go:=λi H2 F2 θ2 O2 hi st n _=>by
  obtain⟨x,hx⟩:∃x,xs[i]? =some x:=⟨xs[i]'(by rw[hr.length];exact hi),T7 _⟩
  exact⟨xs,x,n.fh.seq (st.ff.seq hs),hx⟩
 yl:=λi d σ H2 F2 θ2 s2 x H3 hd st b _ hy=>by
  obtain⟨rfl,hx⟩:=hy
  refine⟨F2,.refl,b, ?_⟩
  obtain⟨v,h1,h2⟩:=hr.get hd
  have:=hx xs (b.now.fh.seq (st.ff.seq hs))
  rw[h1] at this
  cases this
  exact h2.mono st.ff st.pre
 st:=λi H2 F2 θ2 O2 hi st n _=>⟨xs,n.fh.seq (st.ff.seq hs),by rw[hr.length];exact hi⟩
theorem cB{tl:TE}{m:EM}(h:RdE C tl m):RdI C (Ku C.K tl) (listI m):=by
 intro σ H F θ s R b p
 refine h σ H F θ s _ b (PoR.bind p ?_)
 rintro ⟨x,s1⟩ H1 F1 θ1 _ ap p1 U v Y
 dsimp only at p1 U Y
 cases x <;> first | exact Fk p1 | skip
 ·rename_i ds _
  unfold Rep at Y
  obtain⟨a,xs,rfl,hs,hr⟩:=Y
  exact⟨a,rfl,⟨xs,U.now.fh.seq hs⟩,p1 _ _ _ .refl U _ (Oe hs hr λst b=>b.now.fh.seq (st.ff.seq hs))⟩
 ·rename_i k _
  unfold Rep at Y
  obtain⟨a,rfl,hk⟩:=Y
  unfold itemsOf at p1
  dsimp only at p1
  split at p1
  ·rename_i ds ek
   obtain⟨q1,xs,q2,q3⟩:j8 C.K C.ca H1 F1 θ1 a (.lst ds):=U.now.ce k a _ hk ek
   refine⟨a,rfl,⟨xs,SqL.of q2⟩,p1 _ _ _ .refl U _ ?_⟩
   have cell:∀{H2 F2:Hp} {θ2:List Addr} {O2:aB},Stp H1 F1 θ1 H2 F2 θ2->Now C.K C.ca H2 F2 θ2 O2->O2[k]? =some (.lst ds)->∃ys,SqL C.K H2 a ys/\aC C.K C.ca θ2 F2 ds ys:=λ{H2 F2 θ2 O2} st n e=>by
    have an:θ2[k]? =some a:=by
     obtain⟨r,rfl,_⟩:=st.th
     rw[Ut (Ur.mp hk).1]
     exact hk
    obtain⟨_,ys,J,w3⟩:j8 C.K C.ca H2 F2 θ2 a (.lst ds):=n.ce k a _ an e
    exact⟨ys,SqL.of J,w3⟩
   refine⟨λi H2 F2 θ2 O2 hi st n e=> ?_,λi d σ H2 F2 θ2 s2 x H3 hd st b e hy=> ?_,λi H2 F2 θ2 O2 hi st n e=> ?_⟩
   ·obtain⟨ys,w1,J⟩:=cell st n e
    exact⟨ys,ys[i]'(by rw[J.length];exact hi),w1,T7 _⟩
   ·obtain⟨rfl,hx⟩:=hy
    obtain⟨ys,w1,J⟩:=cell st b.now e
    obtain⟨v,h1,h2⟩:=J.get hd
    have:=hx ys w1
    rw[h1] at this
    cases this
    exact⟨F2,.refl,b,h2⟩
   ·obtain⟨ys,w1,J⟩:=cell st n e
    exact⟨ys,w1,by rw[J.length];exact hi⟩
  ·exact Fk p1
def dP(lo hi:Int):List D:=(T9 (hi-lo).toNat).map λi=>.int (lo+(i:Nat))
theorem hJ(lo hi:Int):(dP lo hi).length=(hi-lo).toNat:=by unfold dP;simp
theorem JP{lo hi:Int}{H F:Hp}{θ:List Addr}:uy C (Itr lo (hi-lo).toNat) (dP lo hi) (okC (dP lo hi) none) H F θ where
 go:=λi H2 F2 θ2 O2 h st n _=>by rw[hJ] at h;exact h
 yl:=λi d σ H2 F2 θ2 s2 x H3 hd st b _ hy=>by
  obtain⟨rfl,rfl⟩:=hy
  refine⟨F2,.refl,b, ?_⟩
  unfold dP at hd
  rw[Us] at hd
  cases e:(T9 (hi-lo).toNat)[i]? with
  | none=>rw[e] at hd;cases hd
  | some j=>
   rw[e] at hd
   cases hd
   obtain⟨_,rfl⟩:∃h,j=i:=⟨trivial,by have:=(Ur.mp e).2;simpa using this.symm⟩
   exact bA.mpr rfl
 st:=λi H2 F2 θ2 O2 h st n _=>by rw[hJ] at h;exact h
def dM(ma:AM):IM:=λs=>(ma s).bind λx=>match x.1 with
 | [.int j]=>if -(2^62)<=j/\j<2^62 then .ok ((dP 0 j,none),x.2) else .bad
 | _=>.bad
theorem oM{K ca θ F i vs}(h:aC K ca θ F [.int i] vs):vs=[.int i]:=by
 unfold aC at h
 obtain⟨v,r,rfl,h1,h2⟩:=h
 unfold aC at h2
 rw[h2,bA.mp h1]
theorem Ei{K ca θ F i j vs}(h:aC K ca θ F [.int i,.int j] vs):vs=[.int i,.int j]:=by
 unfold aC at h
 obtain⟨v,r,rfl,h1,h2⟩:=h
 rw[oM h2,bA.mp h1]
theorem eR{ta:TA}{m:AM}(h:RdA C ta m):RdI C (KH ta) (dM m):=by
 intro σ H F θ s R b p
 refine h σ H F θ s _ b (PoR.bind p ?_)
 rintro ⟨x,s1⟩ H1 F1 θ1 _ ab p1 J v U
 dsimp only at p1 J U
 split at p1
 ·rename_i j _
  split at p1
  ·rename_i Y
   refine⟨j,oM U,Y.1,Y.2, ?_⟩
   have:=p1 _ _ _ .refl J _ (JP (lo:=0) (hi:=j))
   rw[Int.sub_zero] at this
   exact this
  ·exact Fk p1
 ·exact Fk p1
abbrev FM:=List D->aB->Res (D×aB)
def spM(K:Fa)(ca:Nat->Addr)(n:Nat)(f:FM):Sp:=λvs H Q E=>∃F θ ds O,Now K ca H F θ O/\aC K ca θ F ds vs/\ds.length=n/\match f ds O with
 | .ok (d,O1)=>∀v H1 F1 θ1,Stp H F θ H1 F1 θ1->Now K ca H1 F1 θ1 O1->Rep K ca θ1 F1 d v->Q v H1
 | .exc c _ s1=>∀H1 F1 θ1,Stp H F θ H1 F1 θ1->Now K ca H1 F1 θ1 s1.o->E (.ref (ca c)) none H1
 | .bad=>False
def runM(n:Nat)(m:SM):FM:=λds O=>match m ⟨ds.map some++Uo (n-ds.length) none,O⟩ with
 | .next s=>.ok (.non,s.o)
 | .ret d s=>.ok (d,s.o)
 | _=>.bad
theorem Jj{K:Fa}{ca:Nat->Addr}{N:List Str}{H F:Hp}{θ:List Addr}{O:aB}{ds:List D}{vs:List V}(n:Now K ca H F θ O)(r:aC K ca θ F ds vs):
 BS K ca (L2.start N vs) H F θ ⟨ds.map some++Uo (N.length-ds.length) none,O⟩:=by
 refine⟨n,by unfold L2.start;simp[r.length],λi d e=> ?_⟩
 dsimp only at e
 have hi:i<ds.length:=by
  by_cases hi:i<ds.length
  ·exact hi
  ·rw[Ui (by simpa using hi),US] at e
   split at e <;> cases e
 rw[Ut (by simpa using hi),Us] at e
 cases e1:ds[i]? with
 | none=>rw[e1] at e;cases e
 | some J=>
  rw[e1] at e
  cases e
  obtain⟨v,h1,h2⟩:=r.get e1
  refine⟨v, ?_,h2⟩
  unfold L2.start
  rw[Ut (by simpa[r.length] using hi),Us,h1]
  rfl
def W0:Wsh:=λ_ _ _ _ _ _=>False
theorem bx {P:Program} {w:World} {K:Fa} {mg:Str->Option Value} {base:Heap} {ca:Nat->Addr} {x qual:Str} {st:Stmt} {f:Addr} {fd:FuncData} {N ps:List Str} {k n:Nat} {m:SM}
 (F:Fun K x qual st f fd) (S:bc N ps (aw st)) (hn:N.length=n)
 (hm:∀(J:Value) (A:Around) (outer:List Env) (s:Shared) (H:Hp) (E:XK),eL k (A.deeper (envOfC qual (aw st) s.heap.objs.size f J))->
  ∃t,PSs (tN (CXE P w) P w K mg base N qual (aw st) f J A outer s H E).nox (aZ st) t/\RdS ⟨K,ca,W0⟩ t m):
 gH P w K mg base (CXE P w) (k+1) f fd ps (spM K ca ps.length (runM n m)):=by
 refine F.okE S (λvs H Q E h=> ?_) (λJ A outer s H vs Q E hr h=> ?_)
 ·obtain⟨F,θ,ds,O,_,r,Y,_⟩:=h
  rw[r.length,Y]
 ·obtain⟨F,θ,ds,O,U,r,Y,q⟩:=h
  obtain⟨t,ht,rd⟩:=hm J A outer s H E hr
  refine⟨t,ht.nox,rd _ H F θ _ _ (Jj U r) ?_⟩
  subst hn
  unfold runM at q
  cases e:m ⟨ds.map some++Uo (N.length-ds.length) none,O⟩ with
  | next s1=>rw[e] at q;exact λσ1 H1 F1 θ1 st b=>q .non H1 F1 θ1 st b.now (gB.mpr rfl)
  | ret d s1=>rw[e] at q;exact λv σ1 H1 F1 θ1 st b rv=>q v H1 F1 θ1 st b.now rv
  | exc c a o=>rw[e] at q;exact Fk q
  | brk s1=>rw[e] at q;exact Fk q
  | cnt s1=>rw[e] at q;exact Fk q
  | bad=>rw[e] at q;exact Fk q
theorem BS.called{K:Fa}{ca:Nat->Addr}{σ:L2.St}{H F H1 F1:Hp}{θ θ1:List Addr}{s:S}{O1:aB}(b:BS K ca σ H F θ s)(st:Stp H F [] H1 F1 θ1)(n:Now K ca H1 F1 θ1 O1):
 Stp H F θ H1 F1 θ/\BS K ca σ H1 F1 θ s:=by
 have kp:∀b o,H b=some o->H1 b=some o:=λb o h=>st.kp b o h (by simp)
 have U:∀b o,F1 b=some o->F b=some o\/H b=none:=λb o h=>by
  rcases st.nf b o h with z | z | z
  ·exact .inl z
  ·exact .inr z
  ·simp at z
 refine⟨⟨st.ff,⟨[],by simp,by simp⟩,λb o h _=>kp b o h,st.al,λb o h=>(U b o h).elim .inl λz=>.inr (.inl z)⟩,⟨⟨n.fh,b.now.nd,b.now.ln,λk a c e1 e2=> ?_⟩,b.len,λi d e=> ?_⟩⟩
 ·have q:=b.now.ce k a c e1 e2
  obtain⟨u,hu⟩:=q.there
  have fn:F a=none->F1 a=none:=λh=>by
   cases e:F1 a with
   | none=>rfl
   | some o=>
    rcases U a o e with z | z
    ·rw[h] at z;cases z
    ·rw[hu] at z;cases z
  cases c with
  | dead=>exact⟨u,kp a u hu⟩
  | lst ds=>
   obtain⟨q1,xs,q2,J⟩:=q
   exact⟨fn q1,xs,kp _ _ q2,J.mono st.ff ⟨[],by simp⟩⟩
  | ins c ns ds=>
   obtain⟨q1,dx,xs,q2,J,Y⟩:=q
   exact⟨fn q1,dx,xs,kp _ _ q2,J,Y.mono st.ff ⟨[],by simp⟩⟩
 ·obtain⟨v,h1,h2⟩:=b.sl i d e
  exact⟨v,h1,h2.mono st.ff ⟨[],by simp⟩⟩
def aO(n:Nat)(f:FM)(ma:AM):EM:=λs=>(ma s).bind λx=>if aN x.1=true/\x.1.length=n then (match f x.1 [] with
 | .ok (d,_)=>if cT d=true then .ok (d,x.2) else .bad
 | _=>.bad) else .bad
theorem aW{n:Nat}{f:FM}{ta:TA}{ma:AM}{E:XK}(ha:RdA C ta ma):RdE C (u2 (spM C.K C.ca n f) [] E ta) (aO n f ma):=by
 intro σ H F θ s Q b p
 refine ha σ H F θ s _ b (PoR.bind p ?_)
 rintro ⟨x,s1⟩ H1 F1 θ1 _ ac p1 J v r1
 dsimp only at p1 J r1 ⊢
 split at p1
 ·rename_i hp
  rw[UY]
  refine⟨F1,[],x,[],Now.nil J.now.fh,r1.pure hp.1,hp.2, ?_⟩
  split at p1
  ·rename_i d O1 e
   rw[e]
   intro v H2 F2 θ2 U n2 rv
   split at p1
   ·rename_i pd
    obtain⟨Y,b3⟩:=J.called U n2
    exact p1 H2 F2 θ1 Y b3 v (rv.pure pd)
   ·exact Fk p1
  ·exact Fk p1
 ·exact Fk p1
end
section
variable {C : Ct}
theorem dw{σ:L2.St}{H F:Hp}{θ:List Addr}{s:S}{d:D}{Q:VK}(p:PoE C σ H F θ ((Res.ok d).bind λd=>.ok (d,s)) Q)(b:BS C.K C.ca σ H F θ s){v:V}(r:Rep C.K C.ca θ F d v):Q v H:=p H F θ .refl b v r
theorem uu{σ:L2.St}{H F:Hp}{θ:List Addr}{s:S}{ds:List D}{Q:VK}(p:PoE C σ H F θ ((Res.ok (D.lst ds)).bind λd=>.ok (d,s)) Q)(b:BS C.K C.ca σ H F θ s){xs:List V}(r:aC C.K C.ca θ F ds xs):
 ∀q,H q=none->Q (.ref q) (upd H q (.lst xs)):=λq hq=>by
 obtain⟨st,J,U,e⟩:=b.newF hq (.lst xs)
 refine p _ _ _ st J _ ?_
 unfold Rep
 exact⟨q,xs,rfl,SqL.of e,r.mono U ⟨[],by simp⟩⟩
def lsD(O:aB):D->Option (List D)
 | .lst ds=>some ds
 | .ptr k=>match O[k]? with
  | some (.lst ds)=>some ds
  | _=>none
 | _=>none
@[simp] theorem o4 {O:aB} {ds:List D}:lsD O (.lst ds)=some ds:=rfl
theorem fX{σ:L2.St}{H F:Hp}{θ:List Addr}{s:S}{d:D}{ds:List D}{v:V}(b:BS C.K C.ca σ H F θ s)(r:Rep C.K C.ca θ F d v)(e:lsD s.o d=some ds):∃a xs,v=.ref a/\SqL C.K H a xs/\aC C.K C.ca θ F ds xs:=by
 cases d <;> first | (simp[lsD] at e;done) | skip
 ·cases e
  unfold Rep at r
  obtain⟨a,xs,rfl,J,hr⟩:=r
  exact⟨a,xs,rfl,b.now.fh.seq J,hr⟩
 ·rename_i k
  unfold Rep at r
  obtain⟨a,rfl,hk⟩:=r
  unfold lsD at e
  dsimp only at e
  split at e
  ·rename_i U Y
   cases e
   obtain⟨_,xs,h1,h2⟩:j8 C.K C.ca H F θ a (.lst ds):=b.now.ce k a _ hk Y
   exact⟨a,xs,rfl,SqL.of h1,h2⟩
  ·cases e
theorem w6{σ:L2.St}{H F:Hp}{θ:List Addr}{s:S}{ds:List D}{v:V}(b:BS C.K C.ca σ H F θ s)(r:Rep C.K C.ca θ F (.tup ds) v):∃a xs,v=.ref a/\SqT C.K H a xs/\aC C.K C.ca θ F ds xs:=by
 unfold Rep at r
 obtain⟨a,xs,rfl,J,hr⟩:=r
 exact⟨a,xs,rfl,bM.seqT b.now.fh J,hr⟩
def intD(g:Int->Int->Res D):Op2:=λ_ x y=>match x,y with
 | .int i,.int j=>g i j
 | _,_=>.bad
theorem xk{g:Int->Int->V}{f:Int->Int->D}(h:∀K ca θ F i j,Rep K ca θ F (f i j) (g i j)):gT C (rI0 g) (intD λi j=>.ok (f i j)):=by
 intro σ H F θ s x y v w Q b J U p
 unfold intD at p
 split at p
 ·rename_i i j
  exact⟨i,j,bA.mp J,bA.mp U,dw p b (h ..)⟩
 ·exact Fk p
open Classical in
noncomputable def yu (c:Int->Int->Prop)(f:Int->Int->D):Op2:=intD λi j=>if c i j then .ok (f i j) else .bad
theorem AJ{c:Int->Int->Prop}{g:Int->Int->V}{f:Int->Int->D}(h:∀K ca θ F i j,Rep K ca θ F (f i j) (g i j)):gT C (rI c g) (yu c f):=by
 intro σ H F θ s x y v w Q b J U p
 unfold yu intD at p
 split at p
 ·rename_i i j
  dsimp only at p
  split at p
  ·rename_i hc
   exact⟨i,j,bA.mp J,bA.mp U,hc,dw p b (h ..)⟩
  ·exact Fk p
 ·exact Fk p
def iC:Op2:=intD λi j=>.ok (.int (i-j))
noncomputable def dJ:Op2:=yu IntMulOk λi j=>.int (i*j)
noncomputable def hZ:Op2:=yu (λi j=>j≠0) λi j=>.int (i.fdiv j)
noncomputable def fE:Op2:=yu (λ_ j=>j≠0) λi j=>.int (i.fmod j)
noncomputable def j6:Op2:=yu Ip λi j=>.int (i^j.toNat)
def ltD:Op2:=intD λi j=>.ok (.bl (decide (i<j)))
def leD:Op2:=intD λi j=>.ok (.bl (decide (i<=j)))
def gtD:Op2:=intD λi j=>.ok (.bl (decide (j<i)))
def geD:Op2:=intD λi j=>.ok (.bl (decide (j<=i)))
def nD:Op1:=λ_ x=>match x with
 | .int i=>.ok (.int (-i))
 | _=>.bad
section
variable {X : Cx}
theorem gR:OpR X (binaryOp .Mult) (rI IntMulOk λi j=>.int (i*j)):=opI λ_ _ _ _ _ _ _ hc q=>mul_int q hc
theorem om(hd:X.A.depth+100<recursionLimit)(J:X.prog.given.tree=none)(U:∃env l,X.stack=env::l/\env.scope.isGenerator=false/\env.scope.isCoroutine=false/\env.builtins=builtinsNs/\env.globals=mainGlobals):
 OpR X (binaryOp .FloorDiv) (rI (λi j=>j≠0) λi j=>.int (i.fdiv j)):=by
 intro pins s σ H x y v u Q I Y ry h
 obtain⟨i,j,rfl,rfl,hc,q⟩:=h
 obtain⟨t,rfl⟩:=Y
 obtain⟨t',rfl⟩:=ry
 obtain⟨env,l,e,h1,h2,h3,h4⟩:=U
 exact floordiv_int hc ⟨.int _,H,I.tok _,⟨_,rfl⟩,q⟩ (.inr (PylongRoom.of I.nolimit hd (SeerAt.of I.noseer J (I.ok.frames.trans (by rw[e])) h1 h2 h3 h4)))
def EZ(K:Fa):R2:=λx y H Q=>rI0 (λi j=>.int (i+j)) x y H Q\/(∃i j,x=.str i/\y=.str j/\i.length+j.length<=sizeLine/\Q (.str (i++j)) H)\/KO K x y H Q
theorem dg:OpR X (binaryOp .Add) (EZ X.K):=M5.or (E9.or Lr)
end
def Qu:Op2:=intD λi j=>.ok (.int (i+j))
def bI:Op2:=λO x y=>match x,y with
 | .int i,.int j=>.ok (.int (i+j))
 | .str a,.str b=>if a.length+b.length<=16777216 then .ok (.str (a++b)) else .bad
 | x,y=>match lsD O x,lsD O y with
  | some a,some b=>if a.length+b.length<=16777216 then .ok (.lst (a++b)) else .bad
  | _,_=>.bad
theorem cI:gT C (EZ C.K) bI:=by
 intro σ H F θ s x y v w Q b J U p
 have lists:∀{a c:List D},lsD s.o x=some a->lsD s.o y=some c->PoE C σ H F θ ((if a.length+c.length<=16777216 then Res.ok (D.lst (a++c)) else .bad).bind λd=>.ok (d,s)) Q->EZ C.K v w H Q:=λ{a c} e1 e2 p=>by
  split at p
  ·rename_i Y
   obtain⟨l1,xs,rfl,s1,r1⟩:=fX b J e1
   obtain⟨l2,ys,rfl,s2,r2⟩:=fX b U e2
   exact .inr (.inr ⟨l1,l2,xs,ys,rfl,rfl,s1,s2,by rw[r1.length,r2.length];exact Y,uu p b (r1.append r2)⟩)
  ·exact Fk p
 unfold bI at p
 split at p
 ·rename_i i j
  exact .inl ⟨i,j,bA.mp J,bA.mp U,dw p b (bA.mpr rfl)⟩
 ·rename_i i j
  split at p
  ·rename_i Y
   exact .inr (.inl ⟨i,j,dA.mp J,dA.mp U,Y,dw p b (dA.mpr rfl)⟩)
  ·exact Fk p
 ·split at p
  ·rename_i a c e1 e2
   exact lists e1 e2 p
  ·exact Fk p
theorem mP:gT C (rI0 λi j=>.int (i-j)) iC:=xk λ_ _ _ _ _ _=>bA.mpr rfl
theorem fG:gT C (rI IntMulOk λi j=>.int (i*j)) dJ:=AJ λ_ _ _ _ _ _=>bA.mpr rfl
theorem mL:gT C (rI (λi j=>j≠0) λi j=>.int (i.fdiv j)) hZ:=AJ λ_ _ _ _ _ _=>bA.mpr rfl
theorem iq:gT C (rI (λ_ j=>j≠0) λi j=>.int (i.fmod j)) fE:=AJ λ_ _ _ _ _ _=>bA.mpr rfl
theorem tG:gT C (rI Ip λi j=>.int (i^j.toNat)) j6:=AJ λ_ _ _ _ _ _=>bA.mpr rfl
theorem uR:gT C (rI0 λi j=>.bl (decide (i<j))) ltD:=xk λ_ _ _ _ _ _=>cE.mpr rfl
theorem iE:gT C (rI0 λi j=>.bl (decide (j<i))) gtD:=xk λ_ _ _ _ _ _=>cE.mpr rfl
theorem tP:Nf C (rU λi=>.int (-i)) nD:=by
 intro σ H F θ s x v Q b J p
 unfold nD at p
 split at p
 ·rename_i i
  exact⟨i,bA.mp J,dw p b (bA.mpr rfl)⟩
 ·exact Fk p
mutual
def toPy:D->Option PyData
 | .non=>some .none
 | .bl b=>some (.bool b)
 | .int i=>some (.int i)
 | .str x=>some (.str x)
 | .lst ds=>(lJ ds).map .list
 | .tup ds=>(lJ ds).map .tuple
 | .ptr _=>none
 | .obj _ _ _=>none
 | .exn _=>none
def lJ:List D->Option (List PyData)
 | []=>some []
 | d::ds=>match toPy d,lJ ds with
  | some a,some b=>some (a::b)
  | _,_=>none
end
mutual
def res(O:aB):D->D
 | .lst ds=>.lst (bR O ds)
 | .tup ds=>.tup (bR O ds)
 | .ptr k=>match O[k]? with
  | some (.lst ds)=>.lst ds
  | _=>.ptr k
 | .non=>.non
 | .bl b=>.bl b
 | .int i=>.int i
 | .str x=>.str x
 | .obj c ns ds=>.obj c ns ds
 | .exn c=>.exn c
def bR(O:aB):List D->List D
 | []=>[]
 | d::ds=>res O d::bR O ds
end
section
variable {K : Fa} {ca : Nat → Addr} {H F G : Hp} {θ : List Addr} {O : aB}
mutual
theorem yi(n:Now K ca H F θ O)(Y:bM F G)(J:bM G H):∀{d:D} {v:V},Rep K ca θ G d v->Rep K ca θ H (res O d) v
 | .non,_,h=>by unfold res;exact h
 | .bl _,_,h=>by unfold res;exact h
 | .int _,_,h=>by unfold res;exact h
 | .str _,_,h=>by unfold res;exact h
 | .lst ds,_,h=>by
  unfold res
  unfold Rep at h ⊢
  obtain⟨a,xs,e,U,hr⟩:=h
  exact⟨a,xs,e,J.seq U,mf n Y J hr⟩
 | .tup ds,_,h=>by
  unfold res
  unfold Rep at h ⊢
  obtain⟨a,xs,e,U,hr⟩:=h
  exact⟨a,xs,e,bM.seqT J U,mf n Y J hr⟩
 | .ptr k,v,h=>by
  unfold res
  split
  ·rename_i ds e
   unfold Rep at h ⊢
   obtain⟨a,ev,hk⟩:=h
   obtain⟨_,xs,h1,h2⟩:j8 K ca H F θ a (.lst ds):=n.ce k a _ hk e
   exact⟨a,xs,ev,SqL.of h1,h2.mono n.fh ⟨[],by simp⟩⟩
  ·exact h.mono J ⟨[],by simp⟩
 | .obj c ns ds,_,h=>by unfold res;exact h.mono J ⟨[],by simp⟩
 | .exn c,_,h=>by unfold res;exact h.mono J ⟨[],by simp⟩
theorem mf(n:Now K ca H F θ O)(J:bM F G)(U:bM G H):∀{ds:List D} {xs:List V},aC K ca θ G ds xs->aC K ca θ H (bR O ds) xs
 | [],_,h=>by unfold bR;exact h
 | d::ds,_,h=>by
  unfold bR
  unfold aC at h ⊢
  obtain⟨v,r,e,h1,h2⟩:=h
  exact⟨v,r,e,yi n J U h1,mf n J U h2⟩
end
mutual
theorem yA:∀{d:D} {v:V} {p:PyData},Rep K ca θ H d v->toPy d=some p->RdV K H p v
 | .non,_,_,h,e=>by unfold toPy at e;cases e;unfold RdV;exact gB.mp h
 | .bl b,_,_,h,e=>by unfold toPy at e;cases e;unfold RdV;exact cE.mp h
 | .int b,_,_,h,e=>by unfold toPy at e;cases e;unfold RdV;exact bA.mp h
 | .str b,_,_,h,e=>by unfold toPy at e;cases e;unfold RdV;exact dA.mp h
 | .lst ds,_,_,h,e=>by
  unfold toPy at e
  cases e1:lJ ds with
  | none=>rw[e1] at e;cases e
  | some ps=>
   rw[e1] at e
   cases e
   unfold Rep at h
   obtain⟨a,xs,J,U,hr⟩:=h
   unfold RdV
   exact⟨a,xs,J,U,wO hr e1⟩
 | .tup ds,_,_,h,e=>by
  unfold toPy at e
  cases e1:lJ ds with
  | none=>rw[e1] at e;cases e
  | some ps=>
   rw[e1] at e
   cases e
   unfold Rep at h
   obtain⟨a,xs,J,U,hr⟩:=h
   unfold RdV
   exact⟨a,xs,J,U,wO hr e1⟩
 | .ptr _,_,_,_,e=>by unfold toPy at e;cases e
 | .obj _ _ _,_,_,_,e=>by unfold toPy at e;cases e
 | .exn _,_,_,_,e=>by unfold toPy at e;cases e
theorem wO:∀{ds:List D} {xs:List V} {ps:List PyData},aC K ca θ H ds xs->lJ ds=some ps->rW K H ps xs
 | [],_,_,h,e=>by unfold lJ at e;cases e;unfold rW;unfold aC at h;exact h
 | d::ds,_,_,h,e=>by
  unfold lJ at e
  cases e1:toPy d with
  | none=>rw[e1] at e;cases e
  | some p=>
   cases e2:lJ ds with
   | none=>rw[e1,e2] at e;cases e
   | some ps=>
    rw[e1,e2] at e
    cases e
    unfold aC at h
    obtain⟨v,r,J,h1,h2⟩:=h
    unfold rW
    exact⟨v,r,J,yA h1 e1,wO h2 e2⟩
end
end
def lu(O:aB)(x y:D):Option Bool:=match toPy (res O (res O x)),toPy (res O (res O y)) with
 | some a,some b=>if SeqAt.shaped a=true/\SeqAt.shaped b=true then some (PyData.eqv a b) else none
 | _,_=>none
def eqB(O:aB)(x y:D):Option Bool:=match x,y with
 | .int i,.int j=>some (decide (i=j))
 | .str i,.str j=>some (decide (i=j))
 | .bl i,.bl j=>some (decide (i=j))
 | .non,.non=>some true
 | x,y=>lu O x y
def eqD:Op2:=λO x y=>match eqB O x y with
 | some b=>.ok (.bl b)
 | none=>.bad
def neD:Op2:=λO x y=>match eqB O x y with
 | some b=>.ok (.bl (!b))
 | none=>.bad
section
variable {X : Cx}
def N9(K:Fa):R2:=λx y H Q=>rEq x y H Q\/M8 K x y H Q
def Np(K:Fa):R2:=λx y H Q=>rNe x y H Q\/OA K x y H Q
theorem nr(hu:X.A.units+64<cLine):OpR X (compareOp .Eq) (N9 X.K):=O7.or (Nm hu)
theorem tI(hu:X.A.units+64<cLine):OpR X (compareOp .NotEq) (Np X.K):=Pd.or (NN hu)
end
theorem zf{σ:L2.St}{H F:Hp}{θ:List Addr}{s:S}{x y:D}{v w:V}{k:Bool}(b:BS C.K C.ca σ H F θ s)(Y:Rep C.K C.ca θ F x v)(ry:Rep C.K C.ca θ F y w)(e:lu s.o x y=some k):
 ∃d e,RdV C.K H d v/\RdV C.K H e w/\SeqAt.shaped d=true/\SeqAt.shaped e=true/\PyData.eqv d e=k:=by
 unfold lu at e
 split at e
 ·rename_i a c e1 e2
  split at e
  ·rename_i J
   cases e
   have U:∀{d:D} {u:V},Rep C.K C.ca θ F d u->Rep C.K C.ca θ H (res s.o (res s.o d)) u:=λh=>yi b.now b.now.fh (bM.refl _) (yi b.now (bM.refl _) b.now.fh h)
   exact⟨a,c,yA (U Y) e1,yA (U ry) e2,J.1,J.2,rfl⟩
  ·cases e
 ·cases e
theorem ky:gT C (N9 C.K) eqD:=by
 intro σ H F θ s x y v w Q b J U p
 unfold eqD at p
 split at p
 ·rename_i k e
  have q:=λH' (h:H'=H)=>h▸dw p b (v:=.bl k) (cE.mpr rfl)
  have q:=q H rfl
  unfold eqB at e
  split at e
  ·rename_i i j
   cases e
   cases bA.mp J;cases bA.mp U
   exact .inl ⟨rfl,by rw[u0,Vi];exact q⟩
  ·cases e
   cases dA.mp J;cases dA.mp U
   exact .inl ⟨rfl,by rw[u6,Vi];exact q⟩
  ·cases e
   cases cE.mp J;cases cE.mp U
   exact .inl ⟨rfl,by rw[xp,Vi];exact q⟩
  ·cases e
   cases gB.mp J;cases gB.mp U
   exact .inl ⟨rfl,by simpa using q⟩
  ·obtain⟨d,e',h1,h2,Y,h4,h5⟩:=zf b J U e
   exact .inr ⟨d,e',h1,h2,Y,h4,by rw[h5];exact q⟩
 ·exact Fk p
theorem qw:gT C (Np C.K) neD:=by
 intro σ H F θ s x y v w Q b J U p
 unfold neD at p
 split at p
 ·rename_i k e
  have q:=dw p b (v:=.bl (!k)) (cE.mpr rfl)
  unfold eqB at e
  split at e
  ·rename_i i j
   cases e
   cases bA.mp J;cases bA.mp U
   exact .inl ⟨rfl,by rw[u0,Vi];exact q⟩
  ·cases e
   cases dA.mp J;cases dA.mp U
   exact .inl ⟨rfl,by rw[u6,Vi];exact q⟩
  ·cases e
   cases cE.mp J;cases cE.mp U
   exact .inl ⟨rfl,by rw[xp,Vi];exact q⟩
  ·cases e
   cases gB.mp J;cases gB.mp U
   exact .inl ⟨rfl,by simpa using q⟩
  ·obtain⟨d,e',h1,h2,Y,h4,h5⟩:=zf b J U e
   exact .inr ⟨d,e',h1,h2,Y,h4,by rw[h5];exact q⟩
 ·exact Fk p
def ixD:Op2:=λO x y=>match y with
 | .int i=>match x with
  | .tup ds=>match atI ds i with
   | some d=>.ok d
   | none=>.bad
  | .str z=>if z.length<=16777216 then (match atI z.cps.toList i with
   | some c=>.ok (.str ⟨#[c]⟩)
   | none=>.bad) else .bad
  | x=>match lsD O x with
   | some ds=>match atI ds i with
    | some d=>.ok d
    | none=>.bad
   | none=>.bad
 | _=>.bad
theorem DE{K ca θ F}{ds:List D}{xs:List V}{i:Int}{d:D}(r:aC K ca θ F ds xs)(e:atI ds i=some d):∃v,atI xs i=some v/\Rep K ca θ F d v:=by
 unfold atI at e ⊢
 rw[r.length]
 cases q:ixN ds.length i with
 | none=>rw[q] at e;cases e
 | some j=>
  rw[q] at e
  exact r.get e
theorem cF:gT C (rIx C.K) ixD:=by
 intro σ H F θ s x y v w Q b J U p
 unfold ixD at p
 split at p
 ·rename_i i
  split at p
  ·rename_i ds
   obtain⟨a,xs,rfl,Y,hr⟩:=w6 b J
   split at p
   ·rename_i d e
    obtain⟨u,e1,r1⟩:=DE hr e
    exact .inr (.inl ⟨a,xs,i,u,rfl,bA.mp U,Y,e1,dw p b r1⟩)
   ·exact Fk p
  ·rename_i z
   split at p
   ·rename_i hz
    split at p
    ·rename_i c e
     exact .inr (.inr ⟨z,i,c,dA.mp J,bA.mp U,hz,e,dw p b (dA.mpr rfl)⟩)
    ·exact Fk p
   ·exact Fk p
  ·split at p
   ·rename_i ds e0
    obtain⟨a,xs,rfl,Y,hr⟩:=fX b J e0
    split at p
    ·rename_i d e
     obtain⟨u,e1,r1⟩:=DE hr e
     exact .inl ⟨a,xs,i,u,rfl,bA.mp U,Y,e1,dw p b r1⟩
    ·exact Fk p
   ·exact Fk p
 ·exact Fk p
abbrev OM:=S->Res (Option Int×S)
def RdO(C:Ct)(t:TO)(m:OM):Prop:=∀σ H F θ s Q,BS C.K C.ca σ H F θ s->PoR C H F θ (m s) (λy H1 F1 θ1=>BS C.K C.ca σ H1 F1 θ1 y.2->Q y.1 H1)->t σ H Q
def jx:OM:=λs=>.ok (none,s)
def part(m:EM):OM:=λs=>(m s).bind λx=>match x.1 with
 | .int i=>.ok (some i,x.2)
 | _=>.bad
theorem oh:RdO C DM jx:=λσ H F θ s Q b p=>p H F θ .refl b
theorem uO{t:TE}{m:EM}(h:RdE C t m):RdO C (Ks t) (part m):=by
 intro σ H F θ s Q b p
 refine h σ H F θ s _ b (PoR.bind p ?_)
 rintro ⟨x,s1⟩ H1 F1 θ1 _ J p1 U v Y
 cases x <;> first | exact Fk p1 | skip
 rename_i i _
 exact⟨i,bA.mp Y,p1 _ _ _ .refl U⟩
def cutD(ds:List D)(lo hi:Option Int):List D:=(ds.drop (HT.sIx ds.length 0 lo)).take (HT.sIx ds.length ds.length hi-HT.sIx ds.length 0 lo)
theorem LU{K ca θ F}{ds:List D}{xs:List V}{lo hi:Option Int}(r:aC K ca θ F ds xs):aC K ca θ F (cutD ds lo hi) (yp xs lo hi):=by
 unfold cutD yp
 rw[r.length]
 exact(r.drop _).take _
def slM(me:EM)(J U:OM):EM:=λs=>(me s).bind λx=>(J x.2).bind λl=>(U l.2).bind λh=>match lsD h.2.o x.1 with
 | some ds=>.ok (.lst (cutD ds l.1 h.1),h.2)
 | none=>.bad
theorem Pn{te:TE}{tl th:TO}{me:EM}{ml mh:OM}(he:RdE C te me)(hl:RdO C tl ml)(hh:RdO C th mh):RdE C (tSl (OJ C.K) te tl th) (slM me ml mh):=by
 intro σ H F θ s Q b p
 refine he σ H F θ s _ b (PoR.bind p ?_)
 rintro ⟨x,s1⟩ H1 F1 θ1 _ az p1 b1 v r1
 refine hl σ H1 F1 θ1 s1 _ b1 (PoR.bind p1 ?_)
 rintro ⟨l,s2⟩ H2 F2 θ2 _ J p2 b2
 refine hh σ H2 F2 θ2 s2 _ b2 (PoR.bind p2 ?_)
 rintro ⟨h,s3⟩ H3 F3 θ3 _ U Y b3
 dsimp only at Y ⊢
 split at Y
 ·rename_i ds e
  obtain⟨a,xs,rfl,hs,hr⟩:=fX b3 ((r1.mono J.ff J.pre).mono U.ff U.pre) e
  exact⟨a,xs,rfl,hs,uu (ds:=cutD ds l h) Y b3 (LU hr)⟩
 ·exact Fk Y
def cL:OpN:=λO xs=>match xs with
 | [.str z]=>if z.length<=16777216 then .ok (.int z.length) else .bad
 | [.tup ds]=>.ok (.int ds.length)
 | [x]=>match lsD O x with
  | some ds=>.ok (.int ds.length)
  | none=>.bad
 | _=>.bad
theorem nU{K ca θ F}{x:D}{vs:List V}(h:aC K ca θ F [x] vs):∃v,vs=[v]/\Rep K ca θ F x v:=by
 unfold aC at h
 obtain⟨v,r,rfl,h1,h2⟩:=h
 unfold aC at h2
 rw[h2]
 exact⟨v,rfl,h1⟩
theorem Kx{K ca θ F}{x y:D}{vs:List V}(h:aC K ca θ F [x,y] vs):∃v w,vs=[v,w]/\Rep K ca θ F x v/\Rep K ca θ F y w:=by
 unfold aC at h
 obtain⟨v,r,rfl,h1,h2⟩:=h
 obtain⟨w,rfl,J⟩:=nU h2
 exact⟨v,w,rfl,h1,J⟩
theorem dO:kh C (λxs H Q=>∃x n,xs=[x]/\NT C.K x H n/\Q (.int n) H) cL:=by
 intro σ H F θ s xs vs Q b r p
 unfold cL at p
 split at p
 ·rename_i z
  obtain⟨v,rfl,J⟩:=nU r
  cases dA.mp J
  split at p
  ·rename_i hz
   exact⟨.str z,z.length,rfl,⟨hz,rfl⟩,dw p b (bA.mpr rfl)⟩
  ·exact Fk p
 ·rename_i ds
  obtain⟨v,rfl,J⟩:=nU r
  obtain⟨a,xs,rfl,U,hr⟩:=w6 b J
  exact⟨.ref a,ds.length,rfl,.inr ⟨xs,U,by rw[hr.length]⟩,dw p b (bA.mpr rfl)⟩
 ·rename_i x _ _
  obtain⟨v,rfl,J⟩:=nU r
  split at p
  ·rename_i ds e
   obtain⟨a,xs,rfl,U,hr⟩:=fX b J e
   exact⟨.ref a,ds.length,rfl,.inl ⟨xs,U,by rw[hr.length]⟩,dw p b (bA.mpr rfl)⟩
  ·exact Fk p
 ·exact Fk p
def nM:OpN:=λO xs=>match xs with
 | [.tup ds]=>.ok (.lst ds)
 | [x]=>match lsD O x with
  | some ds=>.ok (.lst ds)
  | none=>.bad
 | _=>.bad
theorem pZ:kh C (λxs H Q=>∃p ys,xs=[.ref p]/\(SqL C.K H p ys\/SqT C.K H p ys)/\∀l,H l=none->Q (.ref l) (upd H l (.lst ys))) nM:=by
 intro σ H F θ s xs vs Q b r p
 unfold nM at p
 split at p
 ·rename_i ds
  obtain⟨v,rfl,J⟩:=nU r
  obtain⟨a,xs,rfl,U,hr⟩:=w6 b J
  exact⟨a,xs,rfl,.inr U,uu p b hr⟩
 ·obtain⟨v,rfl,J⟩:=nU r
  split at p
  ·rename_i ds e
   obtain⟨a,xs,rfl,U,hr⟩:=fX b J e
   exact⟨a,xs,rfl,.inl U,uu p b hr⟩
  ·exact Fk p
 ·exact Fk p
def wo:OpN:=λ_ xs=>match xs with
 | [.int i]=>.ok (.int (if i<0 then -i else i))
 | _=>.bad
theorem Gg:kh C (λxs H Q=>∃i,xs=[.int i]/\Q (.int (if i<0 then -i else i)) H) wo:=by
 intro σ H F θ s xs vs Q b r p
 unfold wo at p
 split at p
 ·rename_i i
  exact⟨i,oM r,dw p b (bA.mpr rfl)⟩
 ·exact Fk p
def intOf:OpN:=λ_ xs=>match xs with
 | [.int i]=>.ok (.int i)
 | [.bl k]=>.ok (.int (if k then 1 else 0))
 | _=>.bad
theorem A8:kh C (λxs H Q=>(∃i,xs=[.int i]/\Q (.int i) H)\/∃k,xs=[.bl k]/\Q (.int (if k then 1 else 0)) H) intOf:=by
 intro σ H F θ s xs vs Q b r p
 unfold intOf at p
 split at p
 ·rename_i i
  exact .inl ⟨i,oM r,dw p b (bA.mpr rfl)⟩
 ·rename_i k
  obtain⟨v,rfl,J⟩:=nU r
  cases cE.mp J
  exact .inr ⟨k,rfl,dw p b (bA.mpr rfl)⟩
 ·exact Fk p
def tyD(O:aB):D->Option String
 | .non=>some "NoneType"
 | .bl _=>some "bool"
 | .int _=>some "int"
 | .str _=>some "str"
 | .lst _=>some "list"
 | .tup _=>some "tuple"
 | .ptr k=>match O[k]? with
  | some (.lst _)=>some "list"
  | _=>none
 | .obj _ _ _=>none
 | .exn _=>none
def fU(t c:String):Bool:=t == c||(t == "bool" &&c == "int")
def oG(c:String):Op1:=λO x=>match tyD O x with
 | some t=>.ok (.bl (fU t c))
 | none=>.bad
def yK(c:String):Prop:=∀K:Fa,∀t∈["NoneType","bool","int","str","list","tuple"],X2 K (.type t) (.type c)=some (fU t c)
theorem ty_int:yK "int" :=by
 intro K t J
 simp only[Um,XS,or_false] at J
 rcases J with rfl | rfl | rfl | rfl | rfl | rfl <;> rfl
theorem ty_bool:yK "bool" :=by
 intro K t J
 simp only[Um,XS,or_false] at J
 rcases J with rfl | rfl | rfl | rfl | rfl | rfl <;> rfl
theorem Gs{c:String}{te:TE}{m:EM}(hc:yK c)(h:RdE C te m):RdE C (tCB (JS C.K) (nY te (nY (tC (.ty c)) qL))) (unM (oG c) m):=by
 intro σ H F θ s Q b p
 refine h σ H F θ s _ b (PoR.bind p ?_)
 rintro ⟨x,s1⟩ H1 F1 θ1 _ ab p1 U v J
 dsimp only at p1 U J
 show JS C.K [v,.ty c] H1 Q
 unfold oG at p1
 split at p1
 ·rename_i t e
  have q:=dw p1 U (v:=.bl (fU t c)) (cE.mpr rfl)
  refine⟨v,c,t,fU t c,rfl, ?_, ?_,q⟩
  ·cases x <;> first | (unfold tyD at e;cases e;done) | skip
   ·unfold tyD at e;cases e;rw[gB.mp J];rfl
   ·unfold tyD at e;cases e;rw[cE.mp J];rfl
   ·unfold tyD at e;cases e;rw[bA.mp J];rfl
   ·unfold tyD at e;cases e;rw[dA.mp J];rfl
   ·unfold tyD at e;cases e
    unfold Rep at J
    obtain⟨a,xs,rfl,Y,hr⟩:=J
    exact .inl ⟨rfl,xs,U.now.fh.seq Y⟩
   ·unfold tyD at e;cases e
    unfold Rep at J
    obtain⟨a,xs,rfl,Y,hr⟩:=J
    exact .inr ⟨rfl,xs,bM.seqT U.now.fh Y⟩
   ·rename_i k _
    unfold tyD at e
    dsimp only at e
    split at e
    ·rename_i ds ek
     cases e
     obtain⟨a,xs,rfl,Y,hr⟩:=fX U J (ds:=ds) (by unfold lsD;simp only[ek])
     exact .inl ⟨rfl,xs,Y⟩
    ·cases e
  ·refine hc C.K t ?_
   cases x <;> unfold tyD at e <;> dsimp only at e <;> first | (cases e;simp;done) | (cases e;done) | skip
   split at e
   ·cases e;simp
   ·cases e
 ·exact Fk p1
theorem rC{α:Type}{l:List α}(h:l.Nodup){i j:Nat}{x:α}(a:l[i]? =some x)(b:l[j]? =some x):i=j:=by
 obtain⟨h1,e1⟩:=Ur.mp a
 obtain⟨h2,e2⟩:=Ur.mp b
 exact(XM h).mp (e1.trans e2.symm)
theorem BS.setC{K:Fa}{ca:Nat->Addr}{σ:L2.St}{H F:Hp}{θ:List Addr}{s:S}(b:BS K ca σ H F θ s){k:Nat}{a:Addr}{c:Cell}(hk:θ[k]? =some a)(hc:s.o[k]? =some c)(hF:F a=none){ds:List D}{xs:List V}(hr:aC K ca θ F ds xs):
 Stp H F θ (upd H a (.lst xs)) F θ/\BS K ca σ (upd H a (.lst xs)) F θ ⟨s.r,s.o.set k (.lst ds)⟩:=by
 have hm:a∈θ:=UF hk
 refine⟨⟨bM.refl _,⟨[],by simp,by simp⟩,λe o J hb=> ?_,λe o J=> ?_,λe o J=>.inl J⟩,⟨⟨λe o J=> ?_,b.now.nd,by simpa using b.now.ln,λj a' c' e1 e2=> ?_⟩,b.len,b.sl⟩⟩
 ·have ne:e≠a:=λz=>hb (by rw[z];exact hm)
  rw[aS ne];exact J
 ·by_cases z:e=a
  ·subst z;exact⟨_,cO⟩
  ·exact⟨o,by rw[aS z];exact J⟩
 ·have ne:e≠a:=λz=>by rw[z,hF] at J;cases J
  rw[aS ne]
  exact b.now.fh _ _ J
 ·by_cases U:k=j
  ·subst U
   rw[hk] at e1;cases e1
   have:k<s.o.length:=(Ur.mp hc).1
   rw[UU this] at e2
   cases e2
   exact⟨hF,xs,cO,hr⟩
  ·rw[U2 U] at e2
   have q:=b.now.ce j a' c' e1 e2
   have ne:a'≠a:=λz=>by
    subst z
    exact U (rC b.now.nd hk e1)
   cases c' with
   | dead=>obtain⟨o,ho⟩:=q;exact⟨o,by rw[aS ne];exact ho⟩
   | lst ds=>obtain⟨q1,ys,q2,Y⟩:=q;exact⟨q1,ys,by rw[aS ne];exact q2,Y⟩
   | ins c ns ds=>obtain⟨q1,dx,ys,q2,Y⟩:=q;exact⟨q1,dx,ys,by rw[aS ne];exact q2,Y⟩
theorem nC{σ:L2.St}{H F:Hp}{θ:List Addr}{s:S}{k:Nat}{ds:List D}{v:V}(b:BS C.K C.ca σ H F θ s)(r:Rep C.K C.ca θ F (.ptr k) v)(e:s.o[k]? =some (.lst ds)):
 ∃a xs,v=.ref a/\θ[k]? =some a/\F a=none/\H a=some (.lst xs)/\aC C.K C.ca θ F ds xs:=by
 unfold Rep at r
 obtain⟨a,rfl,hk⟩:=r
 obtain⟨h0,xs,h1,h2⟩:j8 C.K C.ca H F θ a (.lst ds):=b.now.ce k a _ hk e
 exact⟨a,xs,rfl,hk,h0,h1,h2⟩
def kT(O:aB):D->Option (Nat×List D)
 | .ptr k=>match O[k]? with
  | some (.lst ds)=>some (k,ds)
  | _=>none
 | _=>none
theorem pW{O:aB}{d:D}{k:Nat}{ds:List D}(h:kT O d=some (k,ds)):d=.ptr k/\O[k]? =some (.lst ds):=by
 cases d <;> first | (simp[kT] at h;done) | skip
 rename_i j
 unfold kT at h
 dsimp only at h
 split at h
 ·rename_i es e
  cases h
  exact⟨rfl,e⟩
 ·cases h
def lX(mo me:EM):EM:=λs=>(mo s).bind λx=>match kT x.2.o x.1 with
 | some _=>(me x.2).bind λy=>match kT y.2.o x.1 with
  | some (k,ds)=>if ds.length<16777216 then .ok (.non,⟨y.2.r,y.2.o.set k (.lst (ds++[y.1]))⟩) else .bad
  | none=>.bad
 | none=>.bad
theorem lD{to te:TE}{mo me:EM}(ho:RdE C to mo)(he:RdE C te me):RdE C (tBM C.K "list" D5 to (nY te qL)) (lX mo me):=by
 intro σ H F θ s Q b p
 refine ho σ H F θ s _ b (PoR.bind p ?_)
 rintro ⟨x,s1⟩ H1 F1 θ1 _ a0 p1 U v Y
 dsimp only at p1 U Y
 split at p1
 ·rename_i kd e
  obtain⟨rfl,e'⟩:=pW (k:=kd.1) (ds:=kd.2) e
  obtain⟨a,xs,rfl,hk,_,h1,_⟩:=nC U Y e'
  refine⟨.inl ⟨rfl,xs,SqL.of h1⟩,he σ H1 F1 θ1 s1 _ U (PoR.bind p1 ?_)⟩
  rintro ⟨y,s2⟩ H2 F2 θ2 _ J p2 b2 w r2
  dsimp only at p2 b2 r2
  split at p2
  ·rename_i k ds e2
   obtain⟨ek,e2⟩:=pW e2
   cases ek
   obtain⟨a',ys,ea,ac,hF,h2,hr⟩:=nC b2 (Y.mono J.ff J.pre) e2
   cases ea
   split at p2
   ·rename_i hl
    obtain⟨am,b3⟩:=b2.setC ac e2 hF (hr.append (aC.one r2))
    exact⟨a,ys,w,rfl,rfl,h2,by rw[hr.length];exact hl,p2 _ _ _ am b3 _ (gB.mpr rfl)⟩
   ·exact Fk p2
  ·exact Fk p2
 ·exact Fk p1
def oC(mo J:EM):GM:=λd s=>(mo s).bind λx=>(J x.2).bind λy=>match y.1 with
 | .int i=>match kT y.2.o x.1 with
  | some (k,ds)=>match ixN ds.length i with
   | some j=>.ok ⟨y.2.r,y.2.o.set k (.lst (ds.set j d))⟩
   | none=>.bad
  | none=>.bad
 | _=>.bad
theorem xG{to ti:TE}{mo mi:EM}(ho:RdE C to mo)(hi:RdE C ti mi):RdG C (OE to ti Kz) (oC mo mi):=by
 intro σ H F θ s d v Q b rd p
 refine ho σ H F θ s _ b (PoR.bind p ?_)
 rintro ⟨x,s1⟩ H1 F1 θ1 _ U p1 b1 ov r1
 refine hi σ H1 F1 θ1 s1 _ b1 (PoR.bind p1 ?_)
 rintro ⟨y,s2⟩ H2 F2 θ2 _ J p2 Y iv r2
 dsimp only at p2 Y r2
 split at p2
 ·rename_i i _
  split at p2
  ·rename_i k ds e
   obtain⟨ek,e'⟩:=pW e
   subst ek
   obtain⟨a,xs,rfl,hk,hF,h1,h2⟩:=nC Y (r1.mono J.ff J.pre) e'
   split at p2
   ·rename_i j ej
    obtain⟨ab,b3⟩:=Y.setC hk e' hF (aC.set ((rd.mono U.ff U.pre).mono J.ff J.pre) j h2)
    exact⟨a,xs,i,j,rfl,bA.mp r2,h1,by rw[h2.length];exact ej,p2 _ _ _ ab _ b3⟩
   ·exact Fk p2
  ·exact Fk p2
 ·exact Fk p2
theorem BS.frz{K:Fa}{ca:Nat->Addr}{σ:L2.St}{H F:Hp}{θ:List Addr}{s:S}(b:BS K ca σ H F θ s){k:Nat}{a:Addr}{ds:List D}{xs:List V}(hk:θ[k]? =some a)(hc:s.o[k]? =some (.lst ds))(hF:F a=none)(hH:H a=some (.lst xs))(hr:aC K ca θ F ds xs):
 Stp H F θ H (upd F a (.lst xs)) θ/\BS K ca σ H (upd F a (.lst xs)) θ ⟨s.r,s.o.set k .dead⟩/\Rep K ca θ (upd F a (.lst xs)) (.lst ds) (.ref a):=by
 have hm:a∈θ:=UF hk
 have U:bM F (upd F a (.lst xs)):=λe o J=>by
  rw[aS (λz=>by rw[z,hF] at J;cases J)];exact J
 refine⟨⟨U,⟨[],by simp,by simp⟩,λe o J _=>J,λe o J=>⟨o,J⟩,λe o J=> ?_⟩,⟨⟨λe o J=> ?_,b.now.nd,by simpa using b.now.ln,λj a' c' e1 e2=> ?_⟩,b.len,λi d e=> ?_⟩, ?_⟩
 ·by_cases z:e=a
  ·exact .inr (.inr (by rw[z];exact hm))
  ·rw[aS z] at J;exact .inl J
 ·by_cases z:e=a
  ·subst z;rw[cO] at J;rw[hH];exact J
  ·rw[aS z] at J;exact b.now.fh _ _ J
 ·by_cases Y:k=j
  ·subst Y
   rw[hk] at e1;cases e1
   have:k<s.o.length:=(Ur.mp hc).1
   rw[UU this] at e2
   cases e2
   exact⟨_,hH⟩
  ·rw[U2 Y] at e2
   have q:=b.now.ce j a' c' e1 e2
   have ne:a'≠a:=λz=>by
    subst z
    exact Y (rC b.now.nd hk e1)
   cases c' with
   | dead=>exact q
   | lst ds=>obtain⟨q1,ys,q2,q3⟩:=q;exact⟨by rw[aS ne];exact q1,ys,q2,q3.mono U ⟨[],by simp⟩⟩
   | ins c ns ds=>obtain⟨q1,dx,ys,q2,q3,q4⟩:=q;exact⟨by rw[aS ne];exact q1,dx,ys,q2,q3,q4.mono U ⟨[],by simp⟩⟩
 ·obtain⟨v,h1,h2⟩:=b.sl i d e
  exact⟨v,h1,h2.mono U ⟨[],by simp⟩⟩
 ·unfold Rep
  exact⟨a,xs,rfl,SqL.of cO,hr.mono U ⟨[],by simp⟩⟩
def jo(m:EM):EM:=λs=>(m s).bind λx=>match kT x.2.o x.1 with
 | some (k,ds)=>.ok (.lst ds,⟨x.2.r,x.2.o.set k .dead⟩)
 | none=>.bad
theorem lg{t:TE}{m:EM}(h:RdE C t m):RdE C t (jo m):=by
 intro σ H F θ s Q b p
 refine h σ H F θ s _ b (PoR.bind p ?_)
 rintro ⟨x,s1⟩ H1 F1 θ1 _ ab p1 J v Y
 dsimp only at p1 J Y
 split at p1
 ·rename_i k ds e
  obtain⟨rfl,e'⟩:=pW e
  obtain⟨a,xs,rfl,hk,hF,h1,h2⟩:=nC J Y e'
  obtain⟨U,b2,r2⟩:=J.frz hk e' hF h1 h2
  exact p1 _ _ _ U b2 _ r2
 ·exact Fk p1
def ng(m:Nat)(caps:List Nat)(r:List (Option D)):List (Option D):=Uo m none++caps.map λi=>(r[i]?).getD none
theorem GN{K:Fa}{ca:Nat->Addr}{σ:L2.St}{H F:Hp}{θ:List Addr}{s:S}(b:BS K ca σ H F θ s)(m:Nat)(caps:List Nat):BS K ca (oR m caps σ) H F θ ⟨ng m caps s.r,s.o⟩:=by
 refine⟨b.now,by unfold oR ng;simp,λi d e=> ?_⟩
 unfold ng at e
 dsimp only at e
 by_cases hi:i<m
 ·rw[Ut (by simpa using hi),US] at e
  split at e <;> cases e
 ·rw[Ui (by simpa using hi)] at e
  simp only[VW,Us] at e
  cases q:caps[i-m]? with
  | none=>rw[q] at e;cases e
  | some j=>
   rw[q] at e
   simp only[VO,XH] at e
   have e':s.r[j]? =some (some d):=by
    cases z:s.r[j]? with
    | none=>rw[z] at e;simp at e
    | some J=>rw[z] at e;simp at e;rw[e]
   obtain⟨v,h1,h2⟩:=b.sl j d e'
   refine⟨v, ?_,h2⟩
   unfold oR
   rw[Ui (by simpa using hi)]
   simp only[VW,Us,q,VO,h1,WV]
def cg:TM:=λs=>.ok (true,s)
theorem cv:RdT C KI cg:=λσ H F θ s Q b p=>p H F θ .refl b
open Classical in
noncomputable def du (ok:aB->Prop)(g:GM)(c:TM)(e:EM):List D->List D->S->Res (List D×S)
 | [],acc,s=>if ok s.o then .ok (acc,s) else .bad
 | d::ds,acc,s=>if ok s.o/\acc.length<16777216 then (g d s).bind λs1=>(c s1).bind λx=>if x.1 then (e x.2).bind λy=>du ok g c e ds (acc++[y.1]) y.2 else du ok g c e ds acc x.2 else .bad
noncomputable def nO (m:Nat)(caps:List Nat)(im:IM)(g:GM)(c:TM)(e:EM):S->Res (List D×S):=λs=>(im s).bind λy=>
 (du (okC y.1.1 y.1.2) g c e y.1.1 [] ⟨ng m caps y.2.r,y.2.o⟩).bind λz=>.ok (z.1,⟨y.2.r,z.2.o⟩)
theorem Be {m:Nat} {caps:List Nat} {wi:TI} {g:TG} {tc:TT} {te:TE} {im:IM} {gm:GM} {c:TM} {e:EM} (hi:RdI C wi im) (hg:RdG C g gm) (hc:RdT C tc c) (he:RdE C te e)
 {σ:L2.St} {H F:Hp} {θ:List Addr} {s:S} {Q:VK} (b:BS C.K C.ca σ H F θ s)
 (p:PoR C H F θ (nO m caps im gm c e s) λy H1 F1 θ1=>BS C.K C.ca σ H1 F1 θ1 y.2->∀q xs,H q=none->H1 q=some (.lst xs)->F1 q=none->q∉θ1->aC C.K C.ca θ1 F1 y.1 xs->Q (.ref q) H1):rK m caps wi g tc te σ H Q:=by
 refine hi σ H F θ s _ b (PoR.bind p ?_)
 rintro ⟨⟨ds,k⟩,s1⟩ H1 F1 θ1 _ bW p1 b1 J it q hq
 dsimp only at p1 b1 it
 have b2:Stp H1 F1 θ1 (upd H1 q (.lst [])) F1 θ1:=by
  have nm:∀a u,H1 a=some u->a≠q:=λa u e z=>by rw[z,hq] at e;cases e
  exact⟨bM.refl _,⟨[],by simp,by simp⟩,λa u h _=>by rw[aS (nm a u h)];exact h,λa u h=>⟨u,by rw[aS (nm a u h)];exact h⟩,λa u h=>.inl h⟩
 have qθ:q∉θ1:=λh=>by obtain⟨u,hu⟩:=b1.now.there h;rw[hq] at hu;cases hu
 have qF:F1 q=none:=by
  cases e:F1 q with
  | none=>rfl
  | some u=>rw[b1.now.fh q u e] at hq;cases hq
 have b7:H q=none:=by
  cases e:H q with
  | none=>rfl
  | some u=>obtain⟨u',e'⟩:=bW.al q u e;rw[hq] at e';cases e'
 have keep:∀{H2 F2 H3 F3:Hp} {θ2 θ3:List Addr} {o:HO},Stp H2 F2 θ2 H3 F3 θ3->H2 q=some o->F2 q=none->q∉θ2->H3 q=some o/\F3 q=none/\q∉θ3:=λ{H2 F2 H3 F3 θ2 θ3 o} st h1 h2 h3=>by
  refine⟨st.kp q o h1 h3, ?_, ?_⟩
  ·cases e:F3 q with
   | none=>rfl
   | some u=>
    rcases st.nf q u e with z | z | z
    ·rw[h2] at z;cases z
    ·rw[h1] at z;cases z
    ·exact absurd z h3
  ·obtain⟨r,rfl,hr⟩:=st.th
   intro hm
   rcases Uj.mp hm with z | z
   ·exact h3 z
   ·rw[hr q z] at h1;cases h1
 have bv:∀{σ':L2.St} {H2 F2:Hp} {θ2:List Addr} {s2:S} (o:HO),BS C.K C.ca σ' H2 F2 θ2 s2->F2 q=none->q∉θ2->BS C.K C.ca σ' (upd H2 q o) F2 θ2 s2:=λ{σ' H2 F2 θ2 s2} o b h1 h2=>by
  have ne:∀a,a∈θ2->a≠q:=λa h z=>h2 (z▸h)
  refine⟨⟨λa u h=> ?_,b.now.nd,b.now.ln,λj a c e1 e2=> ?_⟩,b.len,b.sl⟩
  ·have:a≠q:=λz=>by rw[z,h1] at h;cases h
   rw[aS this];exact b.now.fh a u h
  ·have hm:=ne a (UF e1)
   have w:=b.now.ce j a c e1 e2
   cases c with
   | dead=>obtain⟨u,hu⟩:=w;exact⟨u,by rw[aS hm];exact hu⟩
   | lst ds=>obtain⟨q1,ys,q2,q3⟩:=w;exact⟨q1,ys,by rw[aS hm];exact q2,q3⟩
   | ins c ns ds=>obtain⟨q1,dx,ys,q2,q3,q4⟩:=w;exact⟨q1,dx,ys,by rw[aS hm];exact q2,q3,q4⟩
 have cc:∀{H2 F2:Hp} {θ2:List Addr} (o:HO),Stp H1 F1 θ1 H2 F2 θ2->Stp H1 F1 θ1 (upd H2 q o) F2 θ2:=λ{H2 F2 θ2} o st=>by
  have nm:∀a u,H1 a=some u->a≠q:=λa u e z=>by rw[z,hq] at e;cases e
  exact⟨st.ff,st.th,λa u h1 h2=>by rw[aS (nm a u h1)];exact st.kp a u h1 h2,λa u h1=>by rw[aS (nm a u h1)];exact st.al a u h1,st.nf⟩
 refine⟨λi n U σ' H'=>n=ds.length-i/\i<=ds.length/\∃F' θ' s' as,Stp H1 F1 θ1 H' F' θ'/\H' q=some (.lst U)/\F' q=none/\q∉θ'/\BS C.K C.ca σ' H' F' θ' s'/\aC C.K C.ca θ' F' as U/\
  PoR C H1 F1 θ1 ((du (okC ds k) gm c e (ds.drop i) as s').bind λz=>.ok (z.1,(⟨s1.r,z.2.o⟩:S))) (λy H1 F1 θ1=>BS C.K C.ca σ H1 F1 θ1 y.2->∀q xs,H q=none->H1 q=some (.lst xs)->F1 q=none->q∉θ1->aC C.K C.ca θ1 F1 y.1 xs->Q (.ref q) H1),
  ⟨ds.length,by simp,UR _,F1,θ1,⟨ng m caps s1.r,s1.o⟩,[],b2,cO,qF,qθ,bv _ (GN b1 m caps) qF qθ,aC.nil,by simpa using p1⟩, ?_⟩
 rintro i n U σ' H' ⟨rfl,db,F',θ',s',as,st,bi,bw,bU,bs,a0,Y⟩
 by_cases lt:i<ds.length
 ·right
  rw[UT lt,du] at Y
  split at Y
  ·rename_i a4
   refine⟨it.go i H' F' θ' s'.o lt st bs.now a4.1, ?_⟩
   intro x H3 hy
   obtain⟨F3,a6,b3,rp⟩:=it.yl i ds[i] σ' H' F' θ' s' x H3 (T7 lt) st bs a4.1 hy
   obtain⟨k1,k2,k3⟩:=keep a6 bi bw bU
   have am:=st.trans a6
   have a7:=PoR.after am Y
   have w1:PoG C H3 F3 θ' (gm ds[i] s') (λσ4 H4=>tc σ4 H4 λb H4=>if b=true then
    te σ4 H4 λy H5=>H5 q=some (.lst U)/\U.length<sizeLine/\∃k',k'<ds.length-i/\(k'=ds.length-(i+1)/\i+1<=ds.length/\∃F' θ' s' as,Stp H1 F1 θ1 (upd H5 q (.lst (U++[y]))) F' θ'/\(upd H5 q (.lst (U++[y]))) q=some (.lst (U++[y]))/\F' q=none/\q∉θ'/\BS C.K C.ca σ4 (upd H5 q (.lst (U++[y]))) F' θ' s'/\aC C.K C.ca θ' F' as (U++[y])/\
     PoR C H1 F1 θ1 ((du (okC ds k) gm c e (ds.drop (i+1)) as s').bind λz=>.ok (z.1,(⟨s1.r,z.2.o⟩:S))) (λy H1 F1 θ1=>BS C.K C.ca σ H1 F1 θ1 y.2->∀q xs,H q=none->H1 q=some (.lst xs)->F1 q=none->q∉θ1->aC C.K C.ca θ1 F1 y.1 xs->Q (.ref q) H1))
    else ∃k',k'<ds.length-i/\(k'=ds.length-(i+1)/\i+1<=ds.length/\∃F' θ' s' as,Stp H1 F1 θ1 H4 F' θ'/\H4 q=some (.lst U)/\F' q=none/\q∉θ'/\BS C.K C.ca σ4 H4 F' θ' s'/\aC C.K C.ca θ' F' as U/\
     PoR C H1 F1 θ1 ((du (okC ds k) gm c e (ds.drop (i+1)) as s').bind λz=>.ok (z.1,(⟨s1.r,z.2.o⟩:S))) (λy H1 F1 θ1=>BS C.K C.ca σ H1 F1 θ1 y.2->∀q xs,H q=none->H1 q=some (.lst xs)->F1 q=none->q∉θ1->aC C.K C.ca θ1 F1 y.1 xs->Q (.ref q) H1))):=by
    cases e1:gm ds[i] s' with
    | bad=>rw[e1] at a7;exact a7
    | exc a1 a2 a3=>rw[e1] at a7;exact a7
    | ok s4=>
     rw[e1] at Y
     intro H4 F4 θ4 an σ4 b4
     obtain⟨l1,l2,l3⟩:=keep an k1 k2 k3
     refine hc σ4 H4 F4 θ4 s4 _ b4 ?_
     cases e2:c s4 with
     | bad=>rw[aj,e2] at Y;exact Y
     | exc a1 a2 a3=>rw[aj,e2] at Y;exact PoR.after (am.trans an) Y
     | ok x5=>
      obtain⟨kk,s5⟩:=x5
      rw[aj,e2,aj] at Y
      intro H5 F5 θ5 ap b5
      obtain⟨m1,m2,m3⟩:=keep ap l1 l2 l3
      have a5:=((a0.mono a6.ff a6.pre).mono an.ff an.pre).mono ap.ff ap.pre
      cases kk with
      | false=>
       exact rG ⟨ds.length-(i+1),by omega,rfl,by omega,F5,θ5,s5,as,am.trans (an.trans ap),m1,m2,m3,b5,a5,by simpa using Y⟩
      | true=>
       refine rF (he σ4 H5 F5 θ5 s5 _ b5 ?_)
       dsimp only[if_true] at Y
       cases e3:e s5 with
       | bad=>rw[e3] at Y;exact Y
       | exc a1 a2 a3=>rw[e3] at Y;exact PoR.after (am.trans (an.trans ap)) Y
       | ok x6=>
        obtain⟨y,s6⟩:=x6
        rw[e3,aj] at Y
        intro H6 F6 θ6 a8 b6 w r6
        obtain⟨n1,n2,n3⟩:=keep a8 m1 m2 m3
        exact⟨n1,by rw[a0.length];exact a4.2,ds.length-(i+1),by omega,rfl,by omega,F6,θ6,s6,as++[y],cc _ (am.trans (an.trans (ap.trans a8))),cO,n2,n3,bv _ b6 n2 n3,(a5.mono a8.ff a8.pre).append (aC.one r6),Y⟩
   exact hg σ' H3 F3 θ' s' ds[i] x _ b3 rp w1
  ·exact Fk Y
 ·left
  rw[VS (by omega),du] at Y
  split at Y
  ·rename_i a4
   refine⟨it.st i H' F' θ' s'.o (by omega) st bs.now a4,bi, ?_⟩
   refine Y H' F' θ' st ⟨bs.now,b1.len,λj d e=> ?_⟩ q U b7 bi bw bU a0
   obtain⟨v,h1,h2⟩:=b1.sl j d e
   exact⟨v,h1,h2.mono st.ff st.pre⟩
  ·exact Fk Y
noncomputable def bZ (m:Nat)(caps:List Nat)(im:IM)(g:GM)(c:TM)(e:EM):EM:=λs=>(nO m caps im g c e s).bind λy=>.ok (.lst y.1,y.2)
theorem cb{m:Nat}{caps:List Nat}{wi:TI}{g:TG}{tc:TT}{te:TE}{im:IM}{gm:GM}{c:TM}{e:EM}(hi:RdI C wi im)(hg:RdG C g gm)(hc:RdT C tc c)(he:RdE C te e):RdE C (rK m caps wi g tc te) (bZ m caps im gm c e):=by
 intro σ H F θ s Q b p
 refine Be hi hg hc he b ?_
 unfold bZ at p
 cases e1:nO m caps im gm c e s with
 | bad=>rw[e1] at p;exact p
 | exc a1 a2 a3=>rw[e1] at p;exact p
 | ok y=>
  rw[e1,aj] at p
  intro H1 F1 θ1 J U q xs h0 h1 h2 h3 hr
  have Y:bM F1 (upd F1 q (.lst xs)):=λa u h=>by
   rw[aS (λz=>by rw[z,h2] at h;cases h)];exact h
  refine p H1 (upd F1 q (.lst xs)) θ1 ⟨J.ff.trans Y,J.th,J.kp,J.al,λa u h=> ?_⟩ ⟨⟨λa u h=> ?_,U.now.nd,U.now.ln,λj a c e2 e3=> ?_⟩,U.len,λi d e2=> ?_⟩ (.ref q) ?_
  ·by_cases z:a=q
   ·subst z;exact .inr (.inl h0)
   ·rw[aS z] at h;exact J.nf a u h
  ·by_cases z:a=q
   ·subst z;rw[cO] at h;rw[h1];exact h
   ·rw[aS z] at h;exact U.now.fh a u h
  ·have ne:a≠q:=λz=>h3 (z▸UF e2)
   have w:=U.now.ce j a c e2 e3
   cases c with
   | dead=>exact w
   | lst ds=>obtain⟨q1,ys,q2,q3⟩:=w;exact⟨by rw[aS ne];exact q1,ys,q2,q3.mono Y ⟨[],by simp⟩⟩
   | ins c ns ds=>obtain⟨q1,dx,ys,q2,q3,q4⟩:=w;exact⟨by rw[aS ne];exact q1,dx,ys,q2,q3,q4.mono Y ⟨[],by simp⟩⟩
  ·obtain⟨v,w1,w2⟩:=U.sl i d e2
   exact⟨v,w1,w2.mono Y ⟨[],by simp⟩⟩
  ·unfold Rep
   exact⟨q,xs,rfl,SqL.of cO,hr.mono Y ⟨[],by simp⟩⟩
noncomputable def lM (m:Nat)(caps:List Nat)(im:IM)(g:GM)(c:TM)(e:EM):EM:=λs=>(nO m caps im g c e s).bind λy=>.ok (.ptr y.2.o.length,⟨y.2.r,y.2.o++[.lst y.1]⟩)
theorem nG{m:Nat}{caps:List Nat}{wi:TI}{g:TG}{tc:TT}{te:TE}{im:IM}{Y:GM}{c:TM}{e:EM}(hi:RdI C wi im)(hg:RdG C g Y)(hc:RdT C tc c)(he:RdE C te e):RdE C (rK m caps wi g tc te) (lM m caps im Y c e):=by
 intro σ H F θ s Q b p
 refine Be hi hg hc he b ?_
 unfold lM at p
 cases e1:nO m caps im Y c e s with
 | bad=>rw[e1] at p;exact p
 | exc a1 a2 a3=>rw[e1] at p;exact p
 | ok y=>
  rw[e1,aj] at p
  intro H1 F1 θ1 J U q xs h0 h1 h2 h3 hr
  obtain⟨r,er,ab⟩:=J.th
  refine p H1 F1 (θ1++[q]) ⟨J.ff,⟨r++[q],by rw[er,UX],λa ha=> ?_⟩,J.kp,J.al,J.nf⟩ ⟨⟨U.now.fh, ?_,by simp[U.now.ln],λk a c e2 e3=> ?_⟩,U.len,λi d e2=> ?_⟩ (.ref q) ?_
  ·rcases Uj.mp ha with z | z
   ·exact ab a z
   ·rw[Ul.mp z];exact h0
  ·refine VC.mpr ⟨U.now.nd,by simp,λa ha x hx=> ?_⟩
   rw[Ul.mp hx]
   rintro rfl
   exact h3 ha
  ·by_cases hk:k<θ1.length
   ·rw[Ut hk] at e2
    dsimp only at e3
    rw[Ut (by rw[<- U.now.ln];exact hk)] at e3
    have w:=U.now.ce k a c e2 e3
    cases c with
    | dead=>exact w
    | lst ds=>obtain⟨q1,ys,q2,q3⟩:=w;exact⟨q1,ys,q2,q3.mono (bM.refl _) ⟨[q],rfl⟩⟩
    | ins c ns ds=>obtain⟨q1,dx,ys,q2,q3,q4⟩:=w;exact⟨q1,dx,ys,q2,q3,q4.mono (bM.refl _) ⟨[q],rfl⟩⟩
   ·have am:k<(θ1++[q]).length:=(Ur.mp e2).1
    have an:k=θ1.length:=by simp at am;omega
    subst an
    rw[Ui (Ud _)] at e2
    dsimp only at e3
    rw[Ui (by rw[U.now.ln];exact Ud _),U.now.ln] at e3
    simp at e2 e3
    subst e2;subst e3
    exact⟨h2,xs,h1,hr.mono (bM.refl _) ⟨[q],rfl⟩⟩
  ·obtain⟨v,w1,w2⟩:=U.sl i d e2
   exact⟨v,w1,w2.mono (bM.refl _) ⟨[q],rfl⟩⟩
  ·unfold Rep
   exact⟨q,rfl,by rw[<- U.now.ln];simp⟩
end
section
variable {C : Ct}
theorem xO{σ:L2.St}{H F:Hp}{θ:List Addr}{s:S}{ds:List D}{Q:VK}(p:PoE C σ H F θ (.ok (.ptr s.o.length,(⟨s.r,s.o++[.lst ds]⟩:S))) Q)(b:BS C.K C.ca σ H F θ s){xs:List V}(r:aC C.K C.ca θ F ds xs):
 ∀q,H q=none->Q (.ref q) (upd H q (.lst xs)):=λq hq=>by
 obtain⟨st,J,U⟩:=b.newC hq r
 exact p _ _ _ st J _ U
def uT(O:aB):D->Option (List D)
 | .tup ds=>some ds
 | x=>lsD O x
def AK(m:EM):EM:=λs=>(m s).bind λx=>match uT x.2.o x.1 with
 | some ds=>.ok (.ptr x.2.o.length,⟨x.2.r,x.2.o++[.lst ds]⟩)
 | none=>.bad
theorem JT{t:TE}{m:EM}(h:RdE C t m):RdE C (tCB (λxs H Q=>∃p ys,xs=[.ref p]/\(SqL C.K H p ys\/SqT C.K H p ys)/\∀l,H l=none->Q (.ref l) (upd H l (.lst ys))) (nY t qL)) (AK m):=by
 intro σ H F θ s Q b p
 refine h σ H F θ s _ b (PoR.bind p ?_)
 rintro ⟨x,s1⟩ H1 F1 θ1 _ ab p1 J v U
 dsimp only at p1 J U
 split at p1
 ·rename_i ds e
  cases x with
  | tup es=>
   cases e
   obtain⟨a,xs,rfl,Y,hr⟩:=w6 J U
   exact⟨a,xs,rfl,.inr Y,xO p1 J hr⟩
  | _=>
   obtain⟨a,xs,rfl,Y,hr⟩:=fX J U e
   exact⟨a,xs,rfl,.inl Y,xO p1 J hr⟩
 ·exact Fk p1
mutual
def shD(n:Nat):D->D
 | .lst ds=>.lst (iY n ds)
 | .tup ds=>.tup (iY n ds)
 | .ptr k=>.ptr (n+k)
 | .obj c ns ds=>.obj c ns (iY n ds)
 | .exn c=>.exn c
 | .non=>.non
 | .bl b=>.bl b
 | .int i=>.int i
 | .str x=>.str x
def iY(n:Nat):List D->List D
 | []=>[]
 | d::ds=>shD n d::iY n ds
end
def shC(n:Nat):Cell->Cell
 | .dead=>.dead
 | .lst ds=>.lst (iY n ds)
 | .ins c ns ds=>.ins c ns (iY n ds)
section
variable {K : Fa} {ca : Nat → Addr} {F : Hp} {θ θ1 : List Addr}
mutual
theorem FZ:∀{d:D} {v:V},Rep K ca θ1 F d v->Rep K ca (θ++θ1) F (shD θ.length d) v
 | .non,_,h=>by unfold shD;exact h
 | .bl _,_,h=>by unfold shD;exact h
 | .int _,_,h=>by unfold shD;exact h
 | .str _,_,h=>by unfold shD;exact h
 | .lst ds,_,h=>by
  unfold shD
  unfold Rep at h ⊢
  obtain⟨a,xs,e,J,hr⟩:=h
  exact⟨a,xs,e,J,pe hr⟩
 | .tup ds,_,h=>by
  unfold shD
  unfold Rep at h ⊢
  obtain⟨a,xs,e,J,hr⟩:=h
  exact⟨a,xs,e,J,pe hr⟩
 | .ptr k,_,h=>by
  unfold shD
  unfold Rep at h ⊢
  obtain⟨a,e,hk⟩:=h
  exact⟨a,e,by rw[Ui (WY _ _),Vs];exact hk⟩
 | .obj c ns ds,_,h=>by
  unfold shD
  unfold Rep at h ⊢
  obtain⟨a,dx,xs,e,ha,U,hr⟩:=h
  exact⟨a,dx,xs,e,ha,U,pe hr⟩
 | .exn c,_,h=>by
  unfold shD
  unfold Rep at h ⊢
  exact h
theorem pe:∀{ds:List D} {xs:List V},aC K ca θ1 F ds xs->aC K ca (θ++θ1) F (iY θ.length ds) xs
 | [],_,h=>by unfold iY;exact h
 | d::ds,_,h=>by
  unfold iY
  unfold aC at h ⊢
  obtain⟨v,r,e,h1,h2⟩:=h
  exact⟨v,r,e,FZ h1,pe h2⟩
end
end
theorem BS.calledO{K:Fa}{ca:Nat->Addr}{σ:L2.St}{H F H1 F1:Hp}{θ θ1:List Addr}{s:S}{O1:aB}(b:BS K ca σ H F θ s)(st:Stp H F [] H1 F1 θ1)(n:Now K ca H1 F1 θ1 O1):
 Stp H F θ H1 F1 (θ++θ1)/\BS K ca σ H1 F1 (θ++θ1) ⟨s.r,s.o++O1.map (shC s.o.length)⟩:=by
 obtain⟨J,b0⟩:=b.called st n
 obtain⟨r,er,hr⟩:=st.th
 rw[Uw] at er
 subst er
 refine⟨⟨J.ff,⟨θ1,rfl,hr⟩,J.kp,J.al,J.nf⟩,⟨⟨n.fh,VC.mpr ⟨b.now.nd,n.nd,λa ha x hx=> ?_⟩,by simp[b.now.ln,n.ln],λk a c e1 e2=> ?_⟩,b.len,λi d e=> ?_⟩⟩
 ·rintro rfl
  obtain⟨u,hu⟩:=b.now.there ha
  rw[hr a hx] at hu
  cases hu
 ·by_cases hk:k<θ.length
  ·rw[Ut hk] at e1
   dsimp only at e2
   rw[Ut (by rw[<- b.now.ln];exact hk)] at e2
   have w:=b0.now.ce k a c e1 e2
   cases c with
   | dead=>exact w
   | lst ds=>obtain⟨q1,ys,q2,U⟩:=w;exact⟨q1,ys,q2,U.mono (bM.refl _) ⟨θ1,rfl⟩⟩
   | ins c ns ds=>obtain⟨q1,dx,ys,q2,U,Y⟩:=w;exact⟨q1,dx,ys,q2,U,Y.mono (bM.refl _) ⟨θ1,rfl⟩⟩
  ·rw[Ui (by omega)] at e1
   dsimp only at e2
   rw[Ui (by rw[<- b.now.ln];omega),Us,<- b.now.ln] at e2
   cases e3:O1[k-θ.length]? with
   | none=>rw[e3] at e2;cases e2
   | some c'=>
    rw[e3] at e2
    cases e2
    have w:=n.ce _ a c' e1 e3
    cases c' with
    | dead=>exact w
    | lst ds=>obtain⟨q1,ys,q2,U⟩:=w;exact⟨q1,ys,q2,pe U⟩
    | ins c ns ds=>obtain⟨q1,dx,ys,q2,U,Y⟩:=w;exact⟨q1,dx,ys,q2,U,pe Y⟩
 ·obtain⟨v,h1,h2⟩:=b0.sl i d e
  exact⟨v,h1,h2.mono (bM.refl _) ⟨θ1,rfl⟩⟩
def gn(n:Nat)(f:FM)(ma:AM):EM:=λs=>(ma s).bind λx=>if aN x.1=true/\x.1.length=n then (match f x.1 [] with
 | .ok (d,O1)=>.ok (shD x.2.o.length d,⟨x.2.r,x.2.o++O1.map (shC x.2.o.length)⟩)
 | _=>.bad) else .bad
theorem jn{n:Nat}{f:FM}{ta:TA}{ma:AM}{E:XK}(ha:RdA C ta ma):RdE C (u2 (spM C.K C.ca n f) [] E ta) (gn n f ma):=by
 intro σ H F θ s Q b p
 refine ha σ H F θ s _ b (PoR.bind p ?_)
 rintro ⟨x,s1⟩ H1 F1 θ1 _ ac p1 J v r1
 dsimp only at p1 J r1 ⊢
 split at p1
 ·rename_i hp
  rw[UY]
  refine⟨F1,[],x,[],Now.nil J.now.fh,r1.pure hp.1,hp.2, ?_⟩
  split at p1
  ·rename_i d O1 e
   rw[e]
   intro v H2 F2 θ2 U n2 rv
   obtain⟨Y,b3⟩:=J.calledO U n2
   refine p1 H2 F2 _ Y b3 v ?_
   rw[<- J.now.ln]
   exact FZ rv
  ·exact Fk p1
 ·exact Fk p1
def jc(n:Nat)(f:FM)(ma:AM):EM:=λs=>(ma s).bind λx=>if aN (bR x.2.o (bR x.2.o x.1))=true/\x.1.length=n then (match f (bR x.2.o (bR x.2.o x.1)) [] with
 | .ok (d,_)=>if oN d=true then .ok (d,x.2) else .bad
 | _=>.bad) else .bad
theorem lG(O:aB):∀ds:List D,(bR O ds).length=ds.length
 | []=>by unfold bR;rfl
 | d::ds=>by unfold bR;rw[Uq,Uq,lG O ds]
theorem nq{n:Nat}{f:FM}{ta:TA}{ma:AM}{E:XK}(ha:RdA C ta ma):RdE C (u2 (spM C.K C.ca n f) [] E ta) (jc n f ma):=by
 intro σ H F θ s Q b p
 refine ha σ H F θ s _ b (PoR.bind p ?_)
 rintro ⟨x,s1⟩ H1 F1 θ1 _ ac p1 J v r1
 dsimp only at p1 J r1 ⊢
 split at p1
 ·rename_i hp
  rw[UY]
  have rr:aC C.K C.ca θ1 H1 (bR s1.o (bR s1.o x)) v:=mf J.now J.now.fh (bM.refl _) (mf J.now (bM.refl _) J.now.fh r1)
  refine⟨H1,[],bR s1.o (bR s1.o x),[],Now.nil (bM.refl _),rr.pure hp.1,by rw[lG,lG];exact hp.2, ?_⟩
  split at p1
  ·rename_i d O1 e
   rw[e]
   intro v H2 F2 θ2 U n2 rv
   split at p1
   ·rename_i sd
    have kp:∀a o,H1 a=some o->H2 a=some o:=λa o h=>U.kp a o h (by simp)
    refine p1 H2 F1 θ1 ⟨bM.refl _,⟨[],by simp,by simp⟩,λa o h _=>kp a o h,U.al,λa o h=>.inl h⟩ ⟨⟨λa o h=>kp a o (J.now.fh a o h),J.now.nd,J.now.ln,λk a c e1 e2=> ?_⟩,J.len,J.sl⟩ v (rv.scal sd)
    have w:=J.now.ce k a c e1 e2
    cases c with
    | dead=>obtain⟨o,ho⟩:=w;exact⟨o,kp a o ho⟩
    | lst ds=>obtain⟨q1,ys,q2,Y⟩:=w;exact⟨q1,ys,kp _ _ q2,Y⟩
    | ins c ns ds=>obtain⟨q1,dx,ys,q2,Y,q4⟩:=w;exact⟨q1,dx,ys,kp _ _ q2,Y,q4⟩
   ·exact Fk p1
  ·exact Fk p1
 ·exact Fk p1
end
def bN(P:Program)(w:World)(K:Fa)(mg:Str->Option Value)(base:Heap)(ca:Nat->Addr)(J:Nat)(x:Str)(ps:List Str)(f:FM)(a:Addr)(fd:FuncData):Prop:=
 gH P w K mg base (CXE P w) J a fd ps (spM K ca ps.length f)/\mg x=some (.ref a)/\T8 K (.ref a)=true/\Binds K fd ps []
def bF(P:Program)(w:World)(K:Fa)(mg:Str->Option Value)(base:Heap)(ca:Nat->Addr)(J:Nat)(x:Str)(ps:List Str)(f:FM):Prop:=∃a fd,bN P w K mg base ca J x ps f a fd
theorem bN.in{P:Program}{w:World}{K:Fa}{mg:Str->Option Value}{base:Heap}{ca:Nat->Addr}{J:Nat}{x:Str}{ps:List Str}{f:FM}{a:Addr}{fd:FuncData}(h:bN P w K mg base ca J x ps f a fd):bF P w K mg base ca J x ps f:=⟨a,fd,h⟩
theorem zU{K:Fa}{ca:Nat->Addr}{θ:List Addr}{F:Hp}:∀ns:List Int,aC K ca θ F (ns.map D.int) (ns.map V.int)
 | []=>aC.nil
 | _::ns=>aC.cons (bA.mpr rfl) (zU ns)
theorem Nv{K:Fa}{ca:Nat->Addr}{H:Hp}{a:Addr}{ns:List Int}{f:FM}{E:XK}(J:SqL K H a (ns.map V.int))(h:∃O,f [.lst (ns.map D.int)] []=.ok (.bl true,O)):spM K ca 1 f [.ref a] H (λv _=>v=.bl true) E:=by
 obtain⟨O,h⟩:=h
 refine⟨H,[],[.lst (ns.map D.int)],[],Now.nil (bM.refl _),aC.one ?_,rfl, ?_⟩
 ·unfold Rep
  exact⟨a,ns.map V.int,rfl,J,zU ns⟩
 ·rw[h]
  intro v H1 F1 θ1 _ _ r
  exact cE.mp r
theorem bJ{k:Nat}{A:Around}(hr:eL k A)(hk:32<=k):A.depth+100<recursionLimit:=by
 have:=hr.dp
 omega
def yN(i:Nat)(s:S):Nat:=match s.r[i]? with
 | some (some (.int j))=>j.natAbs+1
 | _=>0
section
variable {C : Ct}
def lQ(as bs:List D):List D:=UO (λa b=>.tup [a,b]) as bs
def tR(m:AM):IM:=λs=>(m s).bind λx=>match x.1 with
 | [.lst as,.lst bs]=>.ok ((lQ as bs,none),x.2)
 | _=>.bad
theorem rM{as bs:List D}{i:Nat}{d:D}(h:(lQ as bs)[i]? =some d):∃x y,as[i]? =some x/\bs[i]? =some y/\d=.tup [x,y]:=by
 unfold lQ at h
 rw[Xg] at h
 cases h1:as[i]? with
 | none=>rw[h1] at h;cases h
 | some x=>
  cases h2:bs[i]? with
  | none=>rw[h1,h2] at h;cases h
  | some y=>
   rw[h1,h2] at h
   cases h
   exact⟨x,y,rfl,rfl,rfl⟩
theorem ND{a b:Addr}{xs ys:List V}{as bs:List D}{H F:Hp}{θ:List Addr}(h1:SqL C.K F a xs)(h2:SqL C.K F b ys)(r1:aC C.K C.ca θ F as xs)(r2:aC C.K C.ca θ F bs ys):
 uy C (Itz C.K a b) (lQ as bs) (okC (lQ as bs) none) H F θ where
 go:=λi H2 F2 θ2 O2 hi st n _=>by
  obtain⟨x,y,e1,e2,_⟩:=rM (T7 hi)
  obtain⟨v,q1,_⟩:=r1.get e1
  obtain⟨w,q2,_⟩:=r2.get e2
  exact⟨xs,ys,v,w,n.fh.seq (st.ff.seq h1),n.fh.seq (st.ff.seq h2),q1,q2⟩
 yl:=λi d σ H2 F2 θ2 s2 x H3 hd st b _ hy=>by
  obtain⟨T,v,w,hT,rfl,rfl,hv,hw⟩:=hy
  obtain⟨x,y,e1,e2,rfl⟩:=rM hd
  obtain⟨v',q1,k1⟩:=r1.get e1
  obtain⟨w',q2,k2⟩:=r2.get e2
  have:=hv xs (b.now.fh.seq (st.ff.seq h1))
  rw[q1] at this
  cases this
  have:=hw ys (b.now.fh.seq (st.ff.seq h2))
  rw[q2] at this
  cases this
  obtain⟨st3,b3,sF,e3⟩:=b.newF hT (.tup [v,w])
  refine⟨_,st3,b3, ?_⟩
  unfold Rep
  exact⟨T,[v,w],rfl,SqT.of e3,aC.cons ((k1.mono st.ff st.pre).mono st3.ff st3.pre) (aC.one ((k2.mono st.ff st.pre).mono st3.ff st3.pre))⟩
 st:=λi H2 F2 θ2 O2 hi st n _=>by
  refine⟨xs,ys,n.fh.seq (st.ff.seq h1),n.fh.seq (st.ff.seq h2), ?_⟩
  unfold lQ at hi
  rw[Vu] at hi
  rw[r1.length,r2.length]
  omega
theorem Cs{ta:TA}{m:AM}(h:RdA C ta m):RdI C (Ii C.K ta) (tR m):=by
 intro σ H F θ s R b p
 refine h σ H F θ s _ b (PoR.bind p ?_)
 rintro ⟨x,s1⟩ H1 F1 θ1 _ ap p1 U v r1
 dsimp only at p1 U r1
 split at p1
 ·rename_i as bs
  obtain⟨v1,v2,rfl,k1,k2⟩:=Kx r1
  unfold Rep at k1 k2
  obtain⟨a,xs,rfl,hs,hr⟩:=k1
  obtain⟨b',ys,rfl,J,Y⟩:=k2
  exact⟨a,b',rfl,⟨xs,U.now.fh.seq hs⟩,⟨ys,U.now.fh.seq J⟩,p1 _ _ _ .refl U _ (ND hs J hr Y)⟩
 ·exact Fk p1
def dQ(ds:List D):List D:=ds.mapIdx λi d=>.tup [.int (i:Nat),d]
def de(m:AM):IM:=λs=>(m s).bind λx=>match x.1 with
 | [.lst as]=>.ok ((dQ as,none),x.2)
 | _=>.bad
theorem ze{as:List D}{i:Nat}{d:D}(h:(dQ as)[i]? =some d):∃x,as[i]? =some x/\d=.tup [.int (i:Nat),x]:=by
 unfold dQ at h
 rw[List.getElem?_mapIdx] at h
 cases h1:as[i]? with
 | none=>rw[h1] at h;cases h
 | some x=>
  rw[h1] at h
  cases h
  exact⟨x,rfl,rfl⟩
theorem Mg{a:Addr}{xs:List V}{as:List D}{H F:Hp}{θ:List Addr}(h1:SqL C.K F a xs)(r1:aC C.K C.ca θ F as xs):uy C (Ite C.K a) (dQ as) (okC (dQ as) none) H F θ where
 go:=λi H2 F2 θ2 O2 hi st n _=>by
  obtain⟨x,e1,_⟩:=ze (T7 hi)
  obtain⟨v,q1,_⟩:=r1.get e1
  exact⟨xs,v,n.fh.seq (st.ff.seq h1),q1⟩
 yl:=λi d σ H2 F2 θ2 s2 x H3 hd st b _ hy=>by
  obtain⟨T,v,hT,rfl,rfl,hv⟩:=hy
  obtain⟨x,e1,rfl⟩:=ze hd
  obtain⟨v',q1,k1⟩:=r1.get e1
  have:=hv xs (b.now.fh.seq (st.ff.seq h1))
  rw[q1] at this
  cases this
  obtain⟨st3,b3,sF,e3⟩:=b.newF hT (.tup [.int (i:Nat),v])
  refine⟨_,st3,b3, ?_⟩
  unfold Rep
  exact⟨T,[.int (i:Nat),v],rfl,SqT.of e3,aC.cons (bA.mpr rfl) (aC.one ((k1.mono st.ff st.pre).mono st3.ff st3.pre))⟩
 st:=λi H2 F2 θ2 O2 hi st n _=>by
  refine⟨xs,n.fh.seq (st.ff.seq h1), ?_⟩
  unfold dQ at hi
  rw[List.length_mapIdx] at hi
  rw[r1.length]
  exact hi
theorem gG{ta:TA}{m:AM}(h:RdA C ta m):RdI C (Kv C.K ta) (de m):=by
 intro σ H F θ s R b p
 refine h σ H F θ s _ b (PoR.bind p ?_)
 rintro ⟨x,s1⟩ H1 F1 θ1 _ ac p1 J v U
 dsimp only at p1 J U
 split at p1
 ·rename_i as
  obtain⟨v1,rfl,Y⟩:=nU U
  unfold Rep at Y
  obtain⟨a,xs,rfl,hs,hr⟩:=Y
  exact⟨a,rfl,⟨xs,J.now.fh.seq hs⟩,p1 _ _ _ .refl J _ (Mg hs hr)⟩
 ·exact Fk p1
def pM(x:Str):List D:=x.cps.toList.map λc=>.str ⟨#[c]⟩
def Fj(m:EM):IM:=λs=>(m s).bind λx=>match x.1 with
 | .str z=>.ok ((pM z,none),x.2)
 | _=>.bad
theorem M0{z:Str}{H F:Hp}{θ:List Addr}:uy C (Its z) (pM z) (okC (pM z) none) H F θ where
 go:=λi H2 F2 θ2 O2 hi st n _=>by
  unfold pM at hi
  show i<z.cps.size
  simpa using hi
 yl:=λi d σ H2 F2 θ2 s2 x H3 hd st b _ hy=>by
  obtain⟨rfl,c,hc,rfl⟩:=hy
  refine⟨F2,.refl,b, ?_⟩
  unfold pM at hd
  rw[Us,VX,hc] at hd
  cases hd
  exact dA.mpr rfl
 st:=λi H2 F2 θ2 O2 hi st n _=>by
  unfold pM at hi
  show z.cps.size<=i
  simpa using hi
theorem Li{te:TE}{m:EM}(h:RdE C te m):RdI C (Nd te) (Fj m):=by
 intro σ H F θ s R b p
 refine h σ H F θ s _ b (PoR.bind p ?_)
 rintro ⟨x,s1⟩ H1 F1 θ1 _ Y p1 J v U
 dsimp only at p1 J U
 cases x <;> first | exact Fk p1 | skip
 rename_i z _
 exact⟨z,dA.mp U,p1 _ _ _ .refl J _ M0⟩
def ib:List D->Option (List Int)
 | []=>some []
 | .int i::r=>(ib r).map (i:: ·)
 | _=>none
def kI:List D->Option (List Bool)
 | []=>some []
 | .bl i::r=>(kI r).map (i:: ·)
 | _=>none
theorem xh{K:Fa}{ca:Nat->Addr}{θ:List Addr}{F:Hp}:∀{ds:List D} {ns:List Int} {xs:List V},ib ds=some ns->aC K ca θ F ds xs->xs=ns.map V.int
 | [],ns,xs,e,r=>by cases e;unfold aC at r;rw[r];rfl
 | d::ds,ns,xs,e,r=>by
  cases d <;> first | (cases e;done) | skip
  rename_i i
  unfold ib at e
  cases e2:ib ds with
  | none=>rw[e2] at e;cases e
  | some ms=>
   rw[e2] at e
   cases e
   unfold aC at r
   obtain⟨v,w,rfl,h1,h2⟩:=r
   rw[xh e2 h2,bA.mp h1];rfl
theorem vA{K:Fa}{ca:Nat->Addr}{θ:List Addr}{F:Hp}:∀{ds:List D} {ns:List Bool} {xs:List V},kI ds=some ns->aC K ca θ F ds xs->xs=ns.map V.bl
 | [],ns,xs,e,r=>by cases e;unfold aC at r;rw[r];rfl
 | d::ds,ns,xs,e,r=>by
  cases d <;> first | (cases e;done) | skip
  rename_i i
  unfold kI at e
  cases e2:kI ds with
  | none=>rw[e2] at e;cases e
  | some ms=>
   rw[e2] at e
   cases e
   unfold aC at r
   obtain⟨v,w,rfl,h1,h2⟩:=r
   rw[vA e2 h2,cE.mp h1];rfl
def ofInts(f:List Int->D):OpN:=λO xs=>match xs with
 | [x]=>match lsD O x with
  | some ds=>match ib ds with
   | some ns=>.ok (f ns)
   | none=>.bad
  | none=>.bad
 | _=>.bad
def uL(f:List Bool->D):OpN:=λO xs=>match xs with
 | [x]=>match lsD O x with
  | some ds=>match kI ds with
   | some ns=>.ok (f ns)
   | none=>.bad
  | none=>.bad
 | _=>.bad
def pN:OpN:=ofInts λns=>.int ns.sum
def Fe:OpN:=uL λbs=>.bl (bs.all id)
def JZ:OpN:=uL λbs=>.bl (bs.any id)
theorem G4{f:List Int->D}{g:List Int->V}(h:∀K ca θ F ns,Rep K ca θ F (f ns) (g ns)):kh C (λxs H Q=>∃(p:Addr) (ns:List Int),xs=[.ref p]/\SqL C.K H p (ns.map V.int)/\Q (g ns) H) (ofInts f):=by
 intro σ H F θ s xs vs Q b r p
 unfold ofInts at p
 split at p
 ·obtain⟨v,rfl,J⟩:=nU r
  split at p
  ·rename_i ds e
   obtain⟨a,ys,rfl,U,hr⟩:=fX b J e
   split at p
   ·rename_i ns e2
    have:=xh e2 hr
    subst this
    exact⟨a,ns,rfl,U,dw p b (h ..)⟩
   ·exact Fk p
  ·exact Fk p
 ·exact Fk p
theorem xt{f:List Bool->D}{g:List Bool->V}(h:∀K ca θ F ns,Rep K ca θ F (f ns) (g ns)):kh C (λxs H Q=>∃(p:Addr) (ns:List Bool),xs=[.ref p]/\SqL C.K H p (ns.map V.bl)/\Q (g ns) H) (uL f):=by
 intro σ H F θ s xs vs Q b r p
 unfold uL at p
 split at p
 ·obtain⟨v,rfl,J⟩:=nU r
  split at p
  ·rename_i ds e
   obtain⟨a,ys,rfl,U,hr⟩:=fX b J e
   split at p
   ·rename_i ns e2
    have:=vA e2 hr
    subst this
    exact⟨a,ns,rfl,U,dw p b (h ..)⟩
   ·exact Fk p
  ·exact Fk p
 ·exact Fk p
theorem uC:kh C (λxs H Q=>∃(p:Addr) (ns:List Int),xs=[.ref p]/\SqL C.K H p (ns.map V.int)/\Q (.int ns.sum) H) pN:=G4 λ_ _ _ _ _=>bA.mpr rfl
theorem G0:kh C (λxs H Q=>∃(p:Addr) (bs:List Bool),xs=[.ref p]/\SqL C.K H p (bs.map V.bl)/\Q (.bl (bs.all id)) H) Fe:=xt λ_ _ _ _ _=>cE.mpr rfl
theorem Oq:kh C (λxs H Q=>∃(p:Addr) (bs:List Bool),xs=[.ref p]/\SqL C.K H p (bs.map V.bl)/\Q (.bl (bs.any id)) H) JZ:=xt λ_ _ _ _ _=>cE.mpr rfl
def Jl:D->Bool
 | .non=>true
 | _=>false
def isD:Op2:=λ_ x y=>match x,y with
 | .bl a,.bl b=>.ok (.bl (a == b))
 | x,.non=>.ok (.bl (Jl x))
 | _,_=>.bad
def pS:Op2:=λ_ x y=>match y with
 | .non=>.ok (.bl (!Jl x))
 | _=>.bad
theorem Cg{K ca θ F}{x:D}{v:V}(r:Rep K ca θ F x v):decide (v=.non)=Jl x:=by
 cases x with
 | non=>rw[gB.mp r];rfl
 | bl b=>rw[cE.mp r];rfl
 | int b=>rw[bA.mp r];rfl
 | str b=>rw[dA.mp r];rfl
 | lst ds=>unfold Rep at r;obtain⟨a,xs,rfl,_⟩:=r;rfl
 | tup ds=>unfold Rep at r;obtain⟨a,xs,rfl,_⟩:=r;rfl
 | ptr k=>unfold Rep at r;obtain⟨a,rfl,_⟩:=r;rfl
 | obj c ns ds=>unfold Rep at r;obtain⟨a,dx,xs,rfl,_⟩:=r;rfl
 | exn c=>unfold Rep at r;obtain⟨a,rfl,_⟩:=r;rfl
theorem NL{X:Cx}:OpR X (compareOp .Is) (λx y H Q=>∃a b,x=.bl a/\y=.bl b/\Q (.bl (a == b)) H):=by
 intro pins s σ H x y v u Q I J U h
 obtain⟨a,b,rfl,rfl,q⟩:=h
 cases J
 cases U
 exact is_bool (cJ I q rfl)
def NS:R2:=λx y H Q=>(∃a b,x=.bl a/\y=.bl b/\Q (.bl (a == b)) H)\/(y=.non/\Q (.bl (decide (x=.non))) H)
theorem Qy{X:Cx}:OpR X (compareOp .Is) NS:=NL.or NJ
theorem Mc{X:Cx}:OpR X (compareOp .IsNot) (λx y H Q=>y=.non/\Q (.bl (!decide (x=.non))) H):=Ml
theorem Pp:gT C NS isD:=by
 intro σ H F θ s x y v w Q b J U p
 unfold isD at p
 split at p
 ·rename_i a c
  exact .inl ⟨a,c,cE.mp J,cE.mp U,dw p b (cE.mpr rfl)⟩
 ·exact .inr ⟨gB.mp U,dw p b (cE.mpr (by rw[Cg J]))⟩
 ·exact Fk p
theorem Jh:gT C (λx y H Q=>y=.non/\Q (.bl (!decide (x=.non))) H) pS:=by
 intro σ H F θ s x y v w Q b J U p
 unfold pS at p
 split at p
 ·exact⟨gB.mp U,dw p b (cE.mpr (by rw[Cg J]))⟩
 ·exact Fk p
theorem GU{X:Cx}:OpR X (compareOp .LtE) (λx y H Q=>∃i j,x=.str i/\y=.str j/\Q (.bl (!decide (j.cps.toList<i.cps.toList))) H):=by
 intro pins s σ H x y v u Q I J U h
 obtain⟨i,j,rfl,rfl,q⟩:=h
 obtain⟨t,rfl⟩:=J
 obtain⟨Y,rfl⟩:=U
 exact PySem.P.le_str (cJ I q rfl)
def rX:Op2:=λ_ x y=>match x,y with
 | .str i,.str j=>.ok (.bl (!decide (j.cps.toList<i.cps.toList)))
 | _,_=>.bad
theorem HJ:gT C (λx y H Q=>∃i j,x=.str i/\y=.str j/\Q (.bl (!decide (j.cps.toList<i.cps.toList))) H) rX:=by
 intro σ H F θ s x y v w Q b J U p
 unfold rX at p
 split at p
 ·rename_i i j
  exact⟨i,j,dA.mp J,dA.mp U,dw p b (cE.mpr rfl)⟩
 ·exact Fk p
def tW(f g:Op2)(a b c:EM):EM:=λs=>(a s).bind λx=>(b x.2).bind λy=>(f y.2.o x.1 y.1).bind λz=>match z with
 | .bl true=>(c y.2).bind λw=>(g w.2.o y.1 w.1).bind λd=>.ok (d,w.2)
 | .bl false=>.ok (.bl false,y.2)
 | _=>.bad
theorem Jb{r r':R2}{f g:Op2}{ta tb tc:TE}{ma mb mc:EM}(hf:gT C r f)(hg:gT C r' g)(ha:RdE C ta ma)(hb:RdE C tb mb)(hc:RdE C tc mc):RdE C (HA r r' ta tb tc) (tW f g ma mb mc):=by
 intro σ H F θ s Q b p
 refine ha σ H F θ s _ b (PoR.bind p ?_)
 rintro ⟨x,s1⟩ H1 F1 θ1 _ as p1 b1 v r1
 refine hb σ H1 F1 θ1 s1 _ b1 (PoR.bind p1 ?_)
 rintro ⟨y,s2⟩ H2 F2 θ2 _ U p2 b2 w r2
 dsimp only at p2
 refine hf σ H2 F2 θ2 s2 x y v w _ b2 (r1.mono U.ff U.pre) r2 ?_
 cases e:f s2.o x y with
 | bad=>rw[e] at p2;exact p2
 | exc a1 a2 a3=>rw[e] at p2;exact p2
 | ok z=>
  rw[e,aj] at p2
  rw[aj]
  intro H3 F3 θ3 J b3 u r3
  cases z <;> first | exact Fk p2 | skip
  rename_i k
  refine⟨k,cE.mp r3, ?_⟩
  cases k with
  | false=>exact rG (PoR.after J p2 _ _ _ .refl b3 _ (cE.mpr rfl))
  | true=>
   refine rF (hc σ H3 F3 θ3 s2 _ b3 (PoR.bind (PoR.after J p2) ?_))
   rintro ⟨q,s4⟩ H4 F4 θ4 _ Y p4 b4 w' r4
   exact hg σ H4 F4 θ4 s4 y q w w' Q b4 ((r2.mono J.ff J.pre).mono Y.ff Y.pre) r4 p4
def orD:Op2:=intD λi j=>.ok (.int (Builtin.bitOr i j))
theorem Gp:gT C (rI0 λi j=>.int (Builtin.bitOr i j)) orD:=xk λ_ _ _ _ _ _=>bA.mpr rfl
def AU(mo me:EM):EM:=λs=>(mo s).bind λx=>match kT x.2.o x.1 with
 | some _=>(me x.2).bind λy=>match y.1,kT y.2.o x.1 with
  | .int i,some (k,ds)=>if -(2^63)<=i/\i<2^63 then (match seqIndex? i ds.length with
   | some j=>match ds[j]? with
    | some d=>.ok (d,⟨y.2.r,y.2.o.set k (.lst (ds.eraseIdx j))⟩)
    | none=>.bad
   | none=>.bad) else .bad
  | _,_=>.bad
 | none=>.bad
theorem aC.erase{K:Fa}{ca:Nat->Addr}{θ:List Addr}{F:Hp}:∀{ds:List D} {xs:List V} (i:Nat),aC K ca θ F ds xs->aC K ca θ F (ds.eraseIdx i) (xs.eraseIdx i)
 | [],_,_,k=>by unfold aC at k;rw[k];exact aC.nil
 | _::_,_,0,k=>by
  unfold aC at k
  obtain⟨v,r,rfl,h1,h2⟩:=k
  exact h2
 | _::_,_,i+1,k=>by
  unfold aC at k
  obtain⟨v,r,rfl,h1,h2⟩:=k
  exact aC.cons h1 (aC.erase i h2)
theorem OF{to te:TE}{mo me:EM}(ho:RdE C to mo)(he:RdE C te me):RdE C (tBM C.K "list" HM to (nY te qL)) (AU mo me):=by
 intro σ H F θ s Q b p
 refine ho σ H F θ s _ b (PoR.bind p ?_)
 rintro ⟨x,s1⟩ H1 F1 θ1 _ a1 p1 Y v r1
 dsimp only at p1 Y r1
 split at p1
 ·rename_i kd e
  obtain⟨rfl,e'⟩:=pW (k:=kd.1) (ds:=kd.2) e
  obtain⟨a,xs,rfl,hk,_,h1,_⟩:=nC Y r1 e'
  refine⟨.inl ⟨rfl,xs,SqL.of h1⟩,he σ H1 F1 θ1 s1 _ Y (PoR.bind p1 ?_)⟩
  rintro ⟨y,s2⟩ H2 F2 θ2 _ U p2 b2 w r2
  dsimp only at p2 b2 r2
  split at p2
  ·rename_i i k ds e2 _
   obtain⟨ek,e2⟩:=pW e2
   cases ek
   obtain⟨a',ys,ea,am,hF,h2,hr⟩:=nC b2 (r1.mono U.ff U.pre) e2
   cases ea
   split at p2
   ·rename_i hl
    split at p2
    ·rename_i j hj
     split at p2
     ·rename_i d hd
      obtain⟨u,hu,ru⟩:=hr.get hd
      obtain⟨J,b3⟩:=b2.setC am e2 hF (hr.erase j)
      rw[bA.mp r2]
      exact⟨a,ys,i,j,u,rfl,rfl,h2,hl.1,hl.2,by rw[hr.length];exact hj,hu,p2 _ _ _ J b3 _ (ru.mono J.ff J.pre)⟩
     ·exact Fk p2
    ·exact Fk p2
   ·exact Fk p2
  ·exact Fk p2
 ·exact Fk p1
def jf(n:Nat)(f:FM)(ma:AM):EM:=λs=>(ma s).bind λx=>if x.1.length=n then (match f x.1 x.2.o with
 | .ok (d,O1)=>.ok (d,⟨x.2.r,O1⟩)
 | _=>.bad) else .bad
theorem nF{n:Nat}{f:FM}{ta:TA}{ma:AM}{E:XK}(ha:RdA C ta ma):RdE C (u2 (spM C.K C.ca n f) [] E ta) (jf n f ma):=by
 intro σ H F θ s Q b p
 refine ha σ H F θ s _ b (PoR.bind p ?_)
 rintro ⟨x,s1⟩ H1 F1 θ1 _ ab p1 U v Y
 dsimp only at p1 U Y ⊢
 split at p1
 ·rename_i hp
  rw[UY]
  refine⟨F1,θ1,x,s1.o,U.now,Y,hp, ?_⟩
  split at p1
  ·rename_i d O1 e
   rw[e]
   intro v H2 F2 θ2 J n2 rv
   exact p1 H2 F2 θ2 J ⟨n2,U.len,λi d e=>by
    obtain⟨v,h1,h2⟩:=U.sl i d e
    exact⟨v,h1,h2.mono J.ff J.pre⟩⟩ v rv
  ·exact Fk p1
 ·exact Fk p1
def Em(k:Int)(ds:List D):List D:=(Uo k.toNat ds).flatten
def yP(fin:S->List D->Res (D×S))(ma:AM)(mk:EM):EM:=λs=>(ma s).bind λx=>if x.1.length<=16777216 then (mk x.2).bind λy=>match y.1 with
 | .int k=>if (-(2^63)<=k/\k<2^63)/\x.1.length*k.toNat<=16777216 then fin y.2 (Em k x.1) else .bad
 | _=>.bad
 else .bad
def EO:S->List D->Res (D×S):=λs ds=>.ok (.lst ds,s)
def qK:S->List D->Res (D×S):=λs ds=>.ok (.ptr s.o.length,⟨s.r,s.o++[.lst ds]⟩)
theorem B5{K ca θ F}{ds:List D}{xs:List V}(r:aC K ca θ F ds xs):∀k:Nat,aC K ca θ F (Uo k ds).flatten (Uo k xs).flatten
 | 0=>aC.nil
 | k+1=>by
  rw[U0,U0,Vr,Vr]
  exact r.append (B5 r k)
theorem Ou {fin:S->List D->Res (D×S)} {ta:TA} {tk:TE} {ma:AM} {mk:EM} (ha:RdA C ta ma) (hk:RdE C tk mk)
 (hf:∀σ H F θ s ds xs Q,BS C.K C.ca σ H F θ s->aC C.K C.ca θ F ds xs->PoE C σ H F θ (fin s ds) Q->∀q,H q=none->Q (.ref q) (upd H q (.lst xs))):RdE C (tOp JK (Cp ta) tk) (yP fin ma mk):=by
 intro σ H F θ s Q b p
 refine ha σ H F θ s _ b (PoR.bind p ?_)
 rintro ⟨x,s1⟩ H1 F1 θ1 _ am p1 b1 v U
 dsimp only at p1
 split at p1
 ·rename_i hl
  refine⟨by rw[U.length];exact hl,λq hq=> ?_⟩
  obtain⟨st,b2,sF,e⟩:=b1.newF hq (.lst v)
  refine hk σ _ _ _ s1 _ b2 (PoR.bind (PoR.after st p1) ?_)
  rintro ⟨y,s2⟩ H2 F2 θ2 _ J p2 Y w r2
  dsimp only at p2 r2
  split at p2
  ·rename_i k _
   split at p2
   ·rename_i hk
    rw[bA.mp r2]
    refine⟨q,k,v,rfl,rfl,Y.now.fh _ _ (J.ff _ _ e),hk.1.1,hk.1.2,by rw[U.length];exact hk.2, ?_⟩
    exact hf σ H2 F2 θ2 s2 _ _ Q Y (B5 (((U.mono sF ⟨[],by simp⟩).mono J.ff J.pre)) k.toNat) p2
   ·exact Fk p2
  ·exact Fk p2
 ·exact Fk p1
theorem DZ{ta:TA}{tk:TE}{ma:AM}{mk:EM}(ha:RdA C ta ma)(hk:RdE C tk mk):RdE C (tOp JK (Cp ta) tk) (yP qK ma mk):=Ou ha hk λσ H F θ s ds xs Q b r p=>xO p b r
def Qf(m:EM):TM:=λs=>(m s).bind λx=>match lsD x.2.o x.1 with
 | some ds=>.ok (!ds.isEmpty,x.2)
 | none=>.bad
end
section
variable {C : Ct}
theorem aC.places{K:Fa}{ca:Nat->Addr}{θ:List Addr}{F:Hp}{ds:List D}{xs:List V}(r:aC K ca θ F ds xs):∀J:List Nat,aC K ca θ F (J.filterMap (ds[·]?)) (J.filterMap (xs[·]?))
 | []=>aC.nil
 | j::J=>by
  have Y:=aC.places r J
  cases hn:ds[j]? with
  | some d=>
   obtain⟨v,U,rv⟩:=r.get hn
   simp only[Vf,hn,U]
   exact aC.cons rv Y
  | none=>
   have U:xs[j]? =none:=by
    rw[VE] at hn ⊢
    rw[r.length];exact hn
   simp only[Vf,hn,U]
   exact Y
def A5(fin:S->List D->Res (D×S))(me:EM)(J U ms:OM):EM:=λs=>(me s).bind λx=>(J x.2).bind λl=>(U l.2).bind λh=>(ms h.2).bind λt=>match lsD t.2.o x.1 with
 | some ds=>if t.1=some 0 then .bad else fin t.2 (pick ds l.1 h.1 t.1)
 | none=>.bad
theorem Ny {fin:S->List D->Res (D×S)} {te:TE} {tl th ts:TO} {me:EM} {ml mh ms:OM} (he:RdE C te me) (hl:RdO C tl ml) (hh:RdO C th mh) (ht:RdO C ts ms)
 (hf:∀σ H F θ s ds xs Q,BS C.K C.ca σ H F θ s->aC C.K C.ca θ F ds xs->PoE C σ H F θ (fin s ds) Q->∀q,H q=none->Q (.ref q) (upd H q (.lst xs))):RdE C (IC C.K te tl th ts) (A5 fin me ml mh ms):=by
 intro σ H F θ s Q b p
 refine he σ H F θ s _ b (PoR.bind p ?_)
 rintro ⟨x,s1⟩ H1 F1 θ1 _ a4 p1 b1 v r1
 refine hl σ H1 F1 θ1 s1 _ b1 (PoR.bind p1 ?_)
 rintro ⟨l,s2⟩ H2 F2 θ2 _ U p2 b2
 refine hh σ H2 F2 θ2 s2 _ b2 (PoR.bind p2 ?_)
 rintro ⟨h,s3⟩ H3 F3 θ3 _ Y p3 b3
 refine ht σ H3 F3 θ3 s3 _ b3 (PoR.bind p3 ?_)
 rintro ⟨t,s4⟩ H4 F4 θ4 _ ab J b4
 dsimp only at J ⊢
 split at J
 ·rename_i ds e
  split at J
  ·exact Fk J
  ·rename_i h0
   obtain⟨a,xs,rfl,hs,hr⟩:=fX b4 (((r1.mono U.ff U.pre).mono Y.ff Y.pre).mono ab.ff ab.pre) e
   refine⟨a,xs,rfl,hs,h0, ?_⟩
   have hp:aC C.K C.ca θ4 F4 (pick ds l h t) (pick xs l h t):=by
    unfold pick
    rw[hr.length]
    exact hr.places _
   exact hf σ H4 F4 θ4 s4 _ _ Q b4 hp J
 ·exact Fk J
theorem Ma{te:TE}{tl th ts:TO}{me:EM}{J U ms:OM}(Y:RdE C te me)(hl:RdO C tl J)(hh:RdO C th U)(ht:RdO C ts ms):RdE C (IC C.K te tl th ts) (A5 EO me J U ms):=Ny Y hl hh ht λσ H F θ s ds xs Q b r p=>uu p b r
end
section
variable {C : Ct}
def AY(m:EM):EM:=λs=>(m s).bind λx=>match kT x.2.o x.1 with
 | some (k,ds)=>.ok (.lst ds,⟨x.2.r,x.2.o.set k .dead⟩)
 | none=>.ok x
theorem DR(m:EM)(s:S):AY m s=(m s).bind λx=>match kT x.2.o x.1 with
 | some (k,ds)=>.ok (.lst ds,⟨x.2.r,x.2.o.set k .dead⟩)
 | none=>.ok x:=rfl
theorem MF{t:TE}{m:EM}(h:RdE C t m):RdE C t (AY m):=by
 intro σ H F θ s Q b p
 refine h σ H F θ s _ b (PoR.bind p ?_)
 rintro ⟨x,s1⟩ H1 F1 θ1 _ ab p1 J v U
 dsimp only at p1 J U
 split at p1
 ·rename_i k ds e
  obtain⟨rfl,e'⟩:=pW e
  obtain⟨a,xs,rfl,hk,hF,h1,h2⟩:=nC J U e'
  obtain⟨Y,b2,r2⟩:=J.frz hk e' hF h1 h2
  exact p1 _ _ _ Y b2 _ r2
 ·exact p1 _ _ _ .refl J _ U
end
section
variable {C : Ct}
def slS(me:EM)(J U:OM):EM:=λs=>(me s).bind λx=>(J x.2).bind λl=>(U l.2).bind λh=>match x.1 with
 | .str z=>if z.length<=16777216 then .ok (.str (mU z l.1 h.1),h.2) else .bad
 | _=>.bad
theorem He{te:TE}{tl th:TO}{me:EM}{U Y:OM}(he:RdE C te me)(hl:RdO C tl U)(hh:RdO C th Y):RdE C (tSl KS te tl th) (slS me U Y):=by
 intro σ H F θ s Q b p
 refine he σ H F θ s _ b (PoR.bind p ?_)
 rintro ⟨x,s1⟩ H1 F1 θ1 _ an p1 b1 v r1
 refine hl σ H1 F1 θ1 s1 _ b1 (PoR.bind p1 ?_)
 rintro ⟨l,s2⟩ H2 F2 θ2 _ az p2 b2
 refine hh σ H2 F2 θ2 s2 _ b2 (PoR.bind p2 ?_)
 rintro ⟨h,s3⟩ H3 F3 θ3 _ a1 J b3
 dsimp only at J ⊢
 split at J
 ·rename_i z _
  split at J
  ·rename_i hz
   exact⟨z,dA.mp r1,by rw[sizeLine_eq];exact hz,J _ _ _ .refl b3 _ (dA.mpr rfl)⟩
  ·exact Fk J
 ·exact Fk J
theorem NR(me:EM)(J U:OM)(s:S):slS me J U s=(me s).bind λx=>(J x.2).bind λl=>(U l.2).bind λh=>match x.1 with
 | .str z=>if z.length<=16777216 then .ok (.str (mU z l.1 h.1),h.2) else .bad
 | _=>.bad:=rfl
end
section
variable {C : Ct}
def ot:List D->Option (List Str)
 | []=>some []
 | .str z::r=>match ot r with
  | some zs=>some (z::zs)
  | none=>none
 | _=>none
theorem zo:∀{ds:List D} {zs:List Str},ot ds=some zs->ds=zs.map D.str
 | [],zs,h=>by cases h;rfl
 | d::ds,zs,h=>by
  cases d <;> first | (simp[ot] at h;done) | skip
  rename_i z
  unfold ot at h
  cases e:ot ds with
  | none=>rw[e] at h;cases h
  | some ys=>
   rw[e] at h
   cases h
   rw[zo e];rfl
theorem sj:∀zs:List Str,ot (zs.map D.str)=some zs
 | []=>rfl
 | z::zs=>by rw[Uk];unfold ot;rw[sj zs]
def inB(O:aB)(x y:D):Option Bool:=match x with
 | .str a=>match lsD O y with
  | some ds=>match ot ds with
   | some zs=>some (zs.any (· == a))
   | none=>none
  | none=>none
 | .int a=>match lsD O y with
  | some ds=>match ib ds with
   | some zs=>some (zs.any (· == a))
   | none=>none
  | none=>none
 | _=>none
def inD:Op2:=λO x y=>match inB O x y with
 | some b=>.ok (.bl b)
 | none=>.bad
def t8:Op2:=λO x y=>match inB O x y with
 | some b=>.ok (.bl (!b))
 | none=>.bad
theorem zB{K:Fa}{ca:Nat->Addr}{θ:List Addr}{F:Hp}:∀{zs:List Str} {xs:List V},aC K ca θ F (zs.map D.str) xs->xs=zs.map V.str
 | [],xs,h=>by unfold aC at h;exact h
 | z::zs,xs,h=>by
  rw[Uk] at h
  unfold aC at h
  obtain⟨v,r,rfl,h1,h2⟩:=h
  rw[dA.mp h1,zB h2];rfl
theorem oJ{K:Fa}{ca:Nat->Addr}{θ:List Addr}{F:Hp}:∀{zs:List Int} {xs:List V},aC K ca θ F (zs.map D.int) xs->xs=zs.map V.int
 | [],xs,h=>by unfold aC at h;exact h
 | z::zs,xs,h=>by
  rw[Uk] at h
  unfold aC at h
  obtain⟨v,r,rfl,h1,h2⟩:=h
  rw[bA.mp h1,oJ h2];rfl
theorem xj:∀{ds:List D} {zs:List Int},ib ds=some zs->ds=zs.map D.int
 | [],zs,h=>by unfold ib at h;cases h;rfl
 | d::ds,zs,h=>by
  cases d <;> first | (simp[ib] at h;done) | skip
  rename_i z
  unfold ib at h
  cases e:ib ds with
  | none=>rw[e] at h;cases h
  | some ys=>
   rw[e] at h
   cases h
   rw[xj e];rfl
theorem DJ{σ:L2.St}{H F:Hp}{θ:List Addr}{s:S}{x y:D}{v w:V}{q:Bool}(b:BS C.K C.ca σ H F θ s)(U:Rep C.K C.ca θ F x v)(Y:Rep C.K C.ca θ F y w)(e:inB s.o x y=some q):
 ∃p xs,w=.ref p/\SqL C.K H p xs/\nS v=true/\xs.all nS=true/\inV v xs=q:=by
 unfold inB at e
 split at e
 ·rename_i a
  split at e
  ·rename_i ds e1
   split at e
   ·rename_i zs e2
    cases e
    obtain⟨p,xs,rfl,J,hr⟩:=fX b Y e1
    rw[zo e2] at hr
    have hx:=zB hr
    subst hx
    rw[dA.mp U]
    refine⟨p,_,rfl,J,rfl, ?_, ?_⟩
    ·rw[WW,V1];intro z _;rfl
    ·unfold inV;rw[WX];rfl
   ·cases e
  ·cases e
 ·rename_i a
  split at e
  ·rename_i ds e1
   split at e
   ·rename_i zs e2
    cases e
    obtain⟨p,xs,rfl,J,hr⟩:=fX b Y e1
    rw[xj e2] at hr
    have hx:=oJ hr
    subst hx
    rw[bA.mp U]
    refine⟨p,_,rfl,J,rfl, ?_, ?_⟩
    ·rw[WW,V1];intro z _;rfl
    ·unfold inV;rw[WX];rfl
   ·cases e
  ·cases e
 ·cases e
theorem KG:gT C (rIn C.K false) inD:=by
 intro σ H F θ s x y v w Q b J U p
 unfold inD at p
 split at p
 ·rename_i q e
  obtain⟨a,xs,rfl,h1,h2,Y,h4⟩:=DJ b J U e
  exact⟨a,xs,rfl,.inl h1,h2,Y,dw p b (cE.mpr (by rw[if_neg (by decide),h4]))⟩
 ·exact Fk p
theorem JA:gT C (rIn C.K true) t8:=by
 intro σ H F θ s x y v w Q b J U p
 unfold t8 at p
 split at p
 ·rename_i q e
  obtain⟨a,xs,rfl,h1,h2,Y,h4⟩:=DJ b J U e
  exact⟨a,xs,rfl,.inl h1,h2,Y,dw p b (cE.mpr (by rw[if_pos rfl,h4]))⟩
 ·exact Fk p
def qA(f:Str):List Str->List D->Option D
 | n::ns,d::ds=>if n=f then some d else qA f ns ds
 | _,_=>none
theorem Cm{K:Fa}{ca:Nat->Addr}{θ:List Addr}{F:Hp}{f:Str}:∀{ns:List Str} {ds:List D} {xs:List V} {d:D},aC K ca θ F ds xs->qA f ns ds=some d->∃v,(ns.zip xs).lookup f=some v/\Rep K ca θ F d v
 | [],_,_,_,_,e=>by simp[qA] at e
 | _::_,[],_,_,_,e=>by simp[qA] at e
 | n::ns,d::ds,xs,d',h,e=>by
  unfold aC at h
  obtain⟨v,r,rfl,h1,h2⟩:=h
  unfold qA at e
  rw[WH,U3]
  by_cases hn:n=f
  ·rw[if_pos hn] at e
   cases e
   subst hn
   exact⟨v,by simp,h1⟩
  ·rw[if_neg hn] at e
   obtain⟨u,e1,e2⟩:=Cm h2 e
   refine⟨u, ?_,e2⟩
   rw[show (f == n)=false by simpa using λz=>hn z.symm]
   exact e1
def mX(c:Nat)(f:Str)(me:EM):EM:=λs=>(me s).bind λx=>match x.1 with
 | .obj J ns ds=>if J=c then (match qA f ns ds with
  | some d=>.ok (d,x.2)
  | none=>.bad) else .bad
 | _=>.bad
theorem qP{c:Nat}{f:Str}{ta:TE}{me:EM}(hc:Cls C.K (C.ca c))(hn:eO C.K (C.ca c) f)(h:RdE C ta me):RdE C (N0 C.K ta f) (mX c f me):=by
 intro σ H F θ s Q b p
 refine h σ H F θ s _ b (PoR.bind p ?_)
 rintro ⟨x,s1⟩ H1 F1 θ1 _ ab p1 J v U
 dsimp only at p1 J U
 split at p1
 ·rename_i c' ns ds _
  split at p1
  ·rename_i Y
   subst Y
   split at p1
   ·rename_i d e
    unfold Rep at U
    obtain⟨a,dx,xs,rfl,ha,hl,hr⟩:=U
    obtain⟨u,e1,e2⟩:=Cm hr e
    exact⟨a,_,dx,_,u,rfl,J.now.fh _ _ ha,hc,hn,e1,p1 _ _ _ .refl J _ e2⟩
   ·exact Fk p1
  ·exact Fk p1
 ·exact Fk p1
theorem DO(c:Nat)(f:Str)(me:EM)(s:S):mX c f me s=(me s).bind λx=>match x.1 with
 | .obj J ns ds=>if J=c then (match qA f ns ds with
  | some d=>.ok (d,x.2)
  | none=>.bad) else .bad
 | _=>.bad:=rfl
theorem lookup_none{f:Str}:∀{ns:List Str} {xs:List V},f∉ns->(ns.zip xs).lookup f=none
 | [],_,_=>rfl
 | _::_,[],_=>rfl
 | n::ns,x::xs,h=>by
  rw[WH,U3,show (f == n)=false by simpa using λz=>h (by simp[z])]
  exact lookup_none λz=>h (by simp[z])
theorem Bk{f:Str}{y:V}:∀{ns:List Str} {xs:List V},ns.length=xs.length->f∉ns->jS f y (ns.zip xs)=(ns++[f]).zip (xs++[y])
 | [],[],_,_=>rfl
 | n::ns,x::xs,hl,h=>by
  rw[WH]
  unfold jS
  rw[if_neg (λz=>h (by simp[z])),Bk (by simpa using hl) λz=>h (by simp[z])]
  rfl
theorem BS.setI{K:Fa}{ca:Nat->Addr}{σ:L2.St}{H F:Hp}{θ:List Addr}{s:S}(b:BS K ca σ H F θ s){k:Nat}{a dx:Addr}{c:Cell}{cl:Nat}{ns:List Str}(hk:θ[k]? =some a)(hc:s.o[k]? =some c)(hF:F a=none){ds:List D}{xs:List V}(hl:ns.length=xs.length)(hr:aC K ca θ F ds xs):
 Stp H F θ (upd H a (.ins (ca cl) dx (ns.zip xs))) F θ/\BS K ca σ (upd H a (.ins (ca cl) dx (ns.zip xs))) F θ ⟨s.r,s.o.set k (.ins cl ns ds)⟩:=by
 have hm:a∈θ:=UF hk
 refine⟨⟨bM.refl _,⟨[],by simp,by simp⟩,λe o J hb=> ?_,λe o J=> ?_,λe o J=>.inl J⟩,⟨⟨λe o J=> ?_,b.now.nd,by simpa using b.now.ln,λj a' c' e1 e2=> ?_⟩,b.len,b.sl⟩⟩
 ·have ne:e≠a:=λz=>hb (by rw[z];exact hm)
  rw[aS ne];exact J
 ·by_cases z:e=a
  ·subst z;exact⟨_,cO⟩
  ·exact⟨o,by rw[aS z];exact J⟩
 ·have ne:e≠a:=λz=>by rw[z,hF] at J;cases J
  rw[aS ne]
  exact b.now.fh _ _ J
 ·by_cases U:k=j
  ·subst U
   rw[hk] at e1;cases e1
   have:k<s.o.length:=(Ur.mp hc).1
   rw[UU this] at e2
   cases e2
   exact⟨hF,dx,xs,cO,hl,hr⟩
  ·rw[U2 U] at e2
   have q:=b.now.ce j a' c' e1 e2
   have ne:a'≠a:=λz=>by
    subst z
    exact U (rC b.now.nd hk e1)
   cases c' with
   | dead=>obtain⟨o,ho⟩:=q;exact⟨o,by rw[aS ne];exact ho⟩
   | lst ds=>obtain⟨q1,ys,q2,Y⟩:=q;exact⟨q1,ys,by rw[aS ne];exact q2,Y⟩
   | ins c ns ds=>obtain⟨q1,dx,ys,q2,Y⟩:=q;exact⟨q1,dx,ys,by rw[aS ne];exact q2,Y⟩
def sE(c:Nat)(f:Str)(mo mv:EM):SM:=λs=>(mv s).out λy=>(mo y.2).out λx=>match x.1 with
 | .ptr k=>match x.2.o[k]? with
  | some (.ins c' ns ds)=>if c'=c/\f∉ns/\ns.length<1000 then .next ⟨x.2.r,x.2.o.set k (.ins c (ns++[f]) (ds++[y.1]))⟩ else .bad
  | _=>.bad
 | _=>.bad
theorem Ke(c:Nat)(f:Str)(mo mv:EM)(s:S):sE c f mo mv s=(mv s).out λy=>(mo y.2).out λx=>match x.1 with
 | .ptr k=>match x.2.o[k]? with
  | some (.ins c' ns ds)=>if c'=c/\f∉ns/\ns.length<1000 then .next ⟨x.2.r,x.2.o.set k (.ins c (ns++[f]) (ds++[y.1]))⟩ else .bad
  | _=>.bad
 | _=>.bad:=rfl
end
section
variable {C : Ct}
theorem ym{c:Nat}{f:Str}{ta tv:TE}{mo mv:EM}(hc:Cls C.K (C.ca c))(hn:eO C.K (C.ca c) f)(ho:RdE C ta mo)(hv:RdE C tv mv):RdS C (NB C.K ta tv f) (sE c f mo mv):=by
 intro σ H F θ s Q b p
 unfold sE at p
 refine hv σ H F θ s _ b (PoS.out p ?_)
 rintro ⟨y,s1⟩ H1 F1 θ1 _ a0 p1 b1 v r1
 dsimp only at p1 b1 r1
 refine ho σ H1 F1 θ1 s1 _ b1 (PoS.out p1 ?_)
 rintro ⟨x,s2⟩ H2 F2 θ2 _ J p2 Y w r2
 dsimp only at p2 Y r2
 split at p2
 ·rename_i k _
  split at p2
  ·rename_i c' ns ds e
   split at p2
   ·rename_i hh
    obtain⟨rfl,hf,hl⟩:=hh
    unfold Rep at r2
    obtain⟨a,rfl,hk⟩:=r2
    obtain⟨h0,dx,xs,h1,h2,h3⟩:j8 C.K C.ca H2 F2 θ2 a (.ins c' ns ds):=Y.now.ce k a _ hk e
    have U:(ns++[f]).length=(xs++[v]).length:=by simp[h2]
    obtain⟨ac,b3⟩:=Y.setI (dx:=dx) (cl:=c') (ns:=ns++[f]) hk e h0 U (h3.append (aC.one (r1.mono J.ff J.pre)))
    refine⟨a,_,dx,_,rfl,h1,hc,hn, ?_, ?_⟩
    ·rw[Wq];omega
    ·rw[Bk h2 hf]
     exact p2 σ _ _ _ ac b3
   ·exact Fk p2
  ·exact Fk p2
 ·exact Fk p2
def uQ(c n:Nat)(f:FM)(ma:AM):EM:=λs=>(ma s).bind λx=>if aN x.1=true/\x.1.length=n then (match f (.ptr 0::x.1) [.ins c [] []] with
 | .ok (.non,.ins c' ns ds::_)=>if c'=c/\aN ds=true then .ok (.obj c ns ds,x.2) else .bad
 | _=>.bad) else .bad
theorem Now.dies{K:Fa}{ca:Nat->Addr}{H F:Hp}{O:aB}{c:Nat}{ns:List Str}{ds:List D}{x:Addr}{r:List Addr}(n:Now K ca H F (x::r) (.ins c ns ds::O)):
 ∃dx xs,H x=some (.ins (ca c) dx (ns.zip xs))/\ns.length=xs.length/\aC K ca (x::r) F ds xs/\F x=none/\bM F (upd F x (.ins (ca c) dx (ns.zip xs)))/\Now K ca H (upd F x (.ins (ca c) dx (ns.zip xs))) (x::r) (.dead::O):=by
 obtain⟨h0,dx,xs,h1,h2,h3⟩:j8 K ca H F (x::r) x (.ins c ns ds):=n.ce 0 x _ rfl rfl
 have Y:bM F (upd F x (.ins (ca c) dx (ns.zip xs))):=λe o J=>by
  rw[aS (λz=>by rw[z,h0] at J;cases J)];exact J
 refine⟨dx,xs,h1,h2,h3,h0,Y,⟨λe o J=> ?_,n.nd,n.ln,λj U c' e1 e2=> ?_⟩⟩
 ·by_cases z:e=x
  ·subst z;rw[cO] at J;rw[h1];exact J
  ·rw[aS z] at J;exact n.fh _ _ J
 ·cases j with
  | zero=>
   cases e1
   cases e2
   exact⟨_,h1⟩
  | succ j=>
   have q:=n.ce (j+1) U c' e1 e2
   have ne:U≠x:=λz=>by
    subst z
    have:=rC n.nd (show (U::r)[0]? =some U from rfl) e1
    omega
   cases c' with
   | dead=>exact q
   | lst ds=>obtain⟨q1,ys,q2,q3⟩:=q;exact⟨by rw[aS ne];exact q1,ys,q2,q3.mono Y ⟨[],by simp⟩⟩
   | ins c ns ds=>obtain⟨q1,dx,ys,q2,q3,q4⟩:=q;exact⟨by rw[aS ne];exact q1,dx,ys,q2,q3,q4.mono Y ⟨[],by simp⟩⟩
theorem Mf{c n:Nat}{f:FM}{ta:TA}{ma:AM}{E:XK}(ha:RdA C ta ma):RdE C (Kp (C.ca c) (spM C.K C.ca (n+1) f) [] E ta) (uQ c n f ma):=by
 intro σ H F θ s Q b p
 refine ha σ H F θ s _ b (PoR.bind p ?_)
 rintro ⟨x,s1⟩ H1 F1 θ1 _ a3 p1 Y v r1
 dsimp only at p1 Y r1 ⊢
 split at p1
 ·rename_i hp
  split at p1
  ·rename_i c' ns ds O1 e
   split at p1
   ·rename_i hh
    obtain⟨rfl,am⟩:=hh
    intro y dx hy an a5
    have nx:∀a u,H1 a=some u->a≠y:=λa u e z=>by rw[z,hy] at e;cases e
    have nd:∀a u,H1 a=some u->a≠dx:=λa u e z=>by rw[z,an] at e;cases e
    have Fy:F1 y=none:=by
     cases eF:F1 y with
     | none=>rfl
     | some u=>rw[Y.now.fh y u eF] at hy;cases hy
    have up:∀a u,H1 a=some u->upd (upd H1 dx (.own y)) y (.ins (C.ca c') dx []) a=some u:=λa u e=>by
     rw[aS (nx a u e),aS (nd a u e)];exact e
    have dn:∀a,upd (upd H1 dx (.own y)) y (.ins (C.ca c') dx []) a=none->H1 a=none:=λa z=>by
     cases e:H1 a with
     | none=>rfl
     | some u=>rw[up a u e] at z;cases z
    rw[UY]
    refine⟨F1,[y],.ptr 0::x,[.ins c' [] []],⟨λa u e=>up a u (Y.now.fh a u e),by simp,rfl,λk a cc e1 e2=> ?_⟩,aC.cons (by unfold Rep;exact⟨y,rfl,rfl⟩) (r1.pure hp.1),by simp[hp.2], ?_⟩
    ·cases k with
     | zero=>
      cases e1
      cases e2
      exact⟨Fy,dx,[],cO,rfl,aC.nil⟩
     | succ k=>simp at e1
    ·rw[e]
     intro w H2 F2 θ2 J n2 ap
     refine⟨gB.mp ap, ?_⟩
     obtain⟨r,rfl,hr⟩:=J.th
     obtain⟨U,xs,g1,g2,g3,g4,sF,n3⟩:=Now.dies n2
     have as:Stp H1 F1 [] H2 (upd F2 y (.ins (C.ca c') U (ns.zip xs))) (y::r):=by
      refine⟨J.ff.trans sF,⟨y::r,rfl,λa ha=> ?_⟩,λa o h _=> ?_,λa o h=>J.al a o (up a o h),λa o h=> ?_⟩
      ·rcases Um.mp ha with rfl | z
       ·exact hy
       ·exact dn a (hr a z)
      ·exact J.kp a o (up a o h) (by simpa using nx a o h)
      ·by_cases z:a=y
       ·subst z;exact .inr (.inl hy)
       ·rw[aS z] at h
        rcases J.nf a o h with q | q | q
        ·exact .inl q
        ·exact .inr (.inl (dn a q))
        ·exact absurd (by simpa using q) z
     obtain⟨az,b4⟩:=Y.called as n3
     refine p1 H2 _ θ1 az b4 (.ref y) ?_
     unfold Rep
     exact⟨y,U,xs,rfl,cO,g2,aC.mono (θ:=θ1) sF ⟨[],by simp⟩ (aC.pure am g3)⟩
   ·exact Fk p1
  ·exact Fk p1
 ·exact Fk p1
theorem IZ{c n:Nat}{f:FM}{ma:AM}{s s':S}{args ds:List D}{ns:List Str}{O:aB}(h:ma s=.ok (args,s'))(hp:aN args=true)(J:args.length=n)(U:f (.ptr 0::args) [.ins c [] []]=.ok (.non,.ins c ns ds::O))(hd:aN ds=true):uQ c n f ma s=.ok (.obj c ns ds,s'):=by
 unfold uQ
 rw[h,aj]
 dsimp only
 rw[if_pos ⟨hp,J⟩,U]
 dsimp only
 rw[if_pos ⟨rfl,hd⟩]
def methP(c:Nat)(m:Str)(n:Nat)(f:FM)(mo:EM)(ma:AM):EM:=λs=>(mo s).bind λx=>match x.1 with
 | .obj J ns ds=>if J=c/\m∉ns/\aN ds=true then (ma x.2).bind λy=>if aN y.1=true/\y.1.length=n then (match f (x.1::y.1) [] with
  | .ok (d,_)=>if cT d=true then .ok (d,y.2) else .bad
  | _=>.bad) else .bad else .bad
 | _=>.bad
theorem jl{c n:Nat}{m:Str}{f:FM}{to:TE}{ta:TA}{mo:EM}{ma:AM}{E:XK}(ho:RdE C to mo)(ha:RdA C ta ma):RdE C (EK (C.ca c) m (spM C.K C.ca (n+1) f) [] E to ta) (methP c m n f mo ma):=by
 intro σ H F θ s Q b p
 refine ho σ H F θ s _ b (PoR.bind p ?_)
 rintro ⟨x,s1⟩ H1 F1 θ1 _ a0 p1 Y v U
 dsimp only at p1 Y U ⊢
 split at p1
 ·rename_i c' ns ds _
  split at p1
  ·rename_i hh
   obtain⟨rfl,hm,ab⟩:=hh
   obtain⟨a,dx,xs,rfl,h1,h2,h3⟩:∃a dx xs,v=.ref a/\F1 a=some (.ins (C.ca c') dx (ns.zip xs))/\ns.length=xs.length/\aC C.K C.ca θ1 F1 ds xs:=by unfold Rep at U;exact U
   refine⟨a,dx,_,rfl,Y.now.fh _ _ h1,lookup_none hm,ha σ H1 F1 θ1 s1 _ Y (PoR.bind p1 ?_)⟩
   rintro ⟨y,s2⟩ H2 F2 θ2 _ J p2 b2 w r2
   dsimp only at p2 b2 r2 ⊢
   split at p2
   ·rename_i hp
    rw[UY]
    refine⟨F2,[],.obj c' ns ds::y,[],Now.nil b2.now.fh,aC.cons ((U.mono J.ff J.pre).pure (by unfold cT;exact ab)) (r2.pure hp.1),by simp[hp.2], ?_⟩
    split at p2
    ·rename_i d O1 e
     rw[e]
     intro v H3 F3 θ3 am n3 rv
     obtain⟨an,b4⟩:=b2.called am n3
     split at p2
     ·rename_i hd
      exact p2 H3 F3 _ an b4 v (rv.pure hd)
     ·exact Fk p2
    ·exact Fk p2
   ·exact Fk p2
  ·exact Fk p1
 ·exact Fk p1
theorem sm{c n:Nat}{m:Str}{f:FM}{mo:EM}{ma:AM}{s s1 s2:S}{ns:List Str}{ds args:List D}{d:D}{O:aB}(J:mo s=.ok (.obj c ns ds,s1))(hm:m∉ns)(hd:aN ds=true)(ha:ma s1=.ok (args,s2))(hp:aN args=true)(U:args.length=n)(Y:f (.obj c ns ds::args) []=.ok (d,O))(hr:cT d=true):
 methP c m n f mo ma s=.ok (d,s2):=by
 unfold methP
 rw[J,aj]
 dsimp only
 rw[if_pos ⟨rfl,hm,hd⟩,ha,aj]
 dsimp only
 rw[if_pos ⟨hp,U⟩,Y]
 dsimp only
 rw[if_pos hr]
def MethAt(P:Program)(w:World)(K:Fa)(mg:Str->Option Value)(base:Heap)(ca:Nat->Addr)(J:Nat)(C:Addr)(x:Str)(ps:List Str)(f:FM):Prop:=
 ∃a fd,gH P w K mg base (CXE P w) J a fd ps (spM K ca ps.length f)/\Meth K C x a/\Binds K fd ps []
def FX(P:Program)(w:World)(K:Fa)(mg:Str->Option Value)(base:Heap)(ca:Nat->Addr)(J:Nat)(C:Addr)(x:Str)(ps:List Str)(f:FM):Prop:=
 ∃a fd,gH P w K mg base (CXE P w) J a fd ps (spM K ca ps.length f)/\Mk K C a/\mg x=some (.ref C)/\Binds K fd ps []
end
section
variable {K : Fa} {ca : Nat → Addr} {θ : List Addr} {F G : Hp}
end
open Classical in
noncomputable def RA (F H:Hp)(θ:List Addr):Hp:=λa=>if a∈θ then (match H a with
 | some (.lst xs)=>some (.lst xs)
 | _=>F a) else F a
section
variable {C : Ct}
end
def clsAt(K:Fa)(x:Str):Addr:=match Uc K mainGlobals x with
 | some (some (.ref C))=>C
 | _=>0
section
variable {C : Ct}
def nP:OpN:=λ_ xs=>match xs with
 | [.int i,.int j]=>.ok (.int (if j>i then j else i))
 | _=>.bad
theorem qX:kh C (λxs H Q=>∃i j,xs=[.int i,.int j]/\Q (.int (if j>i then j else i)) H) nP:=by
 intro σ H F θ s xs vs Q b r p
 unfold nP at p
 split at p
 ·rename_i i j
  exact⟨i,j,Ei r,dw p b (bA.mpr rfl)⟩
 ·exact Fk p
end
section
variable {C : Ct} {Es : L2.St → XK}
end
theorem aX{P:Program}{w:World}{X:Cx}:Passes (CXE P w) X E0:=λ_ _ _ _ _ _ _ ⟨_,_,_,_,_,_,_,_,_,z⟩=>z.elim
section
variable {C : Ct}
end
def qg:D->Bool
 | .non=>true | .bl _=>true | .int _=>true | .str _=>true | .ptr _=>true | _=>false
def uV:Cell->Bool
 | .dead=>true
 | .lst ds=>ds.all qg
 | _=>false
theorem Cw{K:Fa}{ca:Nat->Addr}{F G:Hp}{θ θ1:List Addr}{d:D}{v:V}(h:qg d=true)(r:Rep K ca θ1 F d v):Rep K ca (θ++θ1) G (shD θ.length d) v:=by
 cases d with
 | non=>unfold shD;unfold Rep at r ⊢;exact r
 | bl b=>unfold shD;unfold Rep at r ⊢;exact r
 | int i=>unfold shD;unfold Rep at r ⊢;exact r
 | str z=>unfold shD;unfold Rep at r ⊢;exact r
 | ptr k=>
  unfold shD
  unfold Rep at r ⊢
  obtain⟨a,e,hk⟩:=r
  exact⟨a,e,by rw[Ui (WY _ _),Vs];exact hk⟩
 | lst ds=>cases h
 | tup ds=>cases h
 | obj c ns ds=>cases h
 | exn c=>cases h
theorem zy{K:Fa}{ca:Nat->Addr}{F G:Hp}{θ θ1:List Addr}:∀{ds:List D} {xs:List V},ds.all qg=true->aC K ca θ1 F ds xs->aC K ca (θ++θ1) G (iY θ.length ds) xs
 | [],_,_,h=>by unfold iY;unfold aC at h ⊢;exact h
 | d::ds,_,hf,h=>by
  rw[Wd,VH] at hf
  unfold iY
  unfold aC at h ⊢
  obtain⟨v,r,e,h1,h2⟩:=h
  exact⟨v,r,e,Cw hf.1 h1,zy hf.2 h2⟩
section
variable {C : Ct}
def oW(n:Nat)(f:FM)(ma:AM):EM:=λs=>(ma s).bind λx=>if aN (bR x.2.o (bR x.2.o x.1))=true/\x.1.length=n then (match f (bR x.2.o (bR x.2.o x.1)) [] with
 | .ok (d,O1)=>if qg d=true/\O1.all uV=true then .ok (shD x.2.o.length d,⟨x.2.r,x.2.o++O1.map (shC x.2.o.length)⟩) else .bad
 | _=>.bad) else .bad
theorem wJ{n:Nat}{f:FM}{ta:TA}{ma:AM}{E:XK}(ha:RdA C ta ma):RdE C (u2 (spM C.K C.ca n f) [] E ta) (oW n f ma):=by
 intro σ H F θ s Q b p
 refine ha σ H F θ s _ b (PoR.bind p ?_)
 rintro ⟨x,s1⟩ H1 F1 θ1 _ a0 p1 J v r1
 dsimp only at p1 J r1 ⊢
 split at p1
 ·rename_i hp
  rw[UY]
  have rr:aC C.K C.ca θ1 H1 (bR s1.o (bR s1.o x)) v:=mf J.now J.now.fh (bM.refl _) (mf J.now (bM.refl _) J.now.fh r1)
  refine⟨H1,[],bR s1.o (bR s1.o x),[],Now.nil (bM.refl _),rr.pure hp.1,by rw[lG,lG];exact hp.2, ?_⟩
  split at p1
  ·rename_i d O1 e
   rw[e]
   intro v H2 F2 θ2 U n2 rv
   split at p1
   ·rename_i sd
    have kp:∀a o,H1 a=some o->H2 a=some o:=λa o h=>U.kp a o h (by simp)
    obtain⟨r,er,hr⟩:=U.th
    rw[Uw] at er
    subst er
    refine p1 H2 F1 (θ1++θ2) ⟨bM.refl _,⟨θ2,rfl,hr⟩,λa o h _=>kp a o h,U.al,λa o h=>.inl h⟩ ⟨⟨λa o h=>kp a o (J.now.fh a o h),VC.mpr ⟨J.now.nd,n2.nd,λa ha x hx=> ?_⟩,by simp[J.now.ln,n2.ln],λk a c e1 e2=> ?_⟩,J.len,λi d e=> ?_⟩ v ?_
    ·rintro rfl
     obtain⟨u,hu⟩:=J.now.there ha
     rw[hr a hx] at hu
     cases hu
    ·by_cases hk:k<θ1.length
     ·rw[Ut hk] at e1
      dsimp only at e2
      rw[Ut (by rw[<- J.now.ln];exact hk)] at e2
      have w:=J.now.ce k a c e1 e2
      cases c with
      | dead=>obtain⟨o,ho⟩:=w;exact⟨o,kp a o ho⟩
      | lst ds=>obtain⟨q1,ys,q2,Y⟩:=w;exact⟨q1,ys,kp _ _ q2,Y.mono (bM.refl _) ⟨θ2,rfl⟩⟩
      | ins c ns ds=>obtain⟨q1,dx,ys,q2,Y,q4⟩:=w;exact⟨q1,dx,ys,kp _ _ q2,Y,q4.mono (bM.refl _) ⟨θ2,rfl⟩⟩
     ·rw[Ui (by omega)] at e1
      dsimp only at e2
      rw[Ui (by rw[<- J.now.ln];omega),Us,<- J.now.ln] at e2
      cases e3:O1[k-θ1.length]? with
      | none=>rw[e3] at e2;cases e2
      | some c'=>
       rw[e3] at e2
       cases e2
       have w:=n2.ce _ a c' e1 e3
       have fc:uV c'=true:=(V1.mp sd.2) c' (UF e3)
       have am:F1 a=none:=by
        cases ea:F1 a with
        | none=>rfl
        | some o=>
         have h1:=J.now.fh a o ea
         have h2:=hr a (UF e1)
         rw[h2] at h1;cases h1
       cases c' with
       | dead=>exact w
       | lst ds=>obtain⟨q1,ys,q2,Y⟩:=w;exact⟨am,ys,q2,zy fc Y⟩
       | ins c ns ds=>cases fc
    ·obtain⟨v,h1,h2⟩:=J.sl i d e
     exact⟨v,h1,h2.mono (bM.refl _) ⟨θ2,rfl⟩⟩
    ·rw[<- J.now.ln]
     exact Cw sd.1 rv
   ·exact Fk p1
  ·exact Fk p1
 ·exact Fk p1
end
section
variable {C : Ct}
theorem JM{K:Fa}{H H':Hp}{a:Addr}{xs:List V}(e:bM H H')(h:SqL K H a xs):SqL K H' a xs:=by
 rcases h with(h | ⟨o,h⟩) | h
 ·exact .inl (.inl (e _ _ h))
 ·exact .inl (.inr ⟨o,e _ _ h⟩)
 ·exact .inr h
end
section
variable {C : Ct}
end
section
variable {C : Ct}
def mY:List D->Option (List Int)
 | []=>some []
 | .int i::r=>match mY r with
  | some l=>some (i::l)
  | none=>none
 | _=>none
theorem uh:∀{ds:List D} {ns:List Int},mY ds=some ns->ds=ns.map D.int
 | [],ns,h=>by cases h;rfl
 | d::ds,ns,h=>by
  cases d <;> first | (simp[mY] at h;done) | skip
  rename_i i
  unfold mY at h
  split at h
  ·rename_i l e
   cases h
   rw[uh e];rfl
  ·cases h
theorem sq:∀ns:List Int,mY (ns.map D.int)=some ns
 | []=>rfl
 | n::ns=>by
  rw[Uk]
  unfold mY
  rw[sq ns]
def xK(O:aB)(d:D):Option (List Int):=match lsD O d with
 | some ds=>mY ds
 | none=>none
theorem Hx{σ:L2.St}{H F:Hp}{θ:List Addr}{s:S}{d:D}{ns:List Int}{v:V}(b:BS C.K C.ca σ H F θ s)(r:Rep C.K C.ca θ F d v)(e:xK s.o d=some ns):∃a,v=.ref a/\SqL C.K H a (ns.map V.int):=by
 unfold xK at e
 split at e
 ·rename_i ds U
  obtain⟨a,xs,rfl,J,hr⟩:=fX b r U
  rw[uh e] at hr
  rw[oJ hr] at J
  exact⟨a,rfl,J⟩
 ·cases e
def keyed(O:aB):List D->Option (List (D×List Int))
 | []=>some []
 | d::ds=>match xK O d,keyed O ds with
  | some ns,some r=>some ((d,ns)::r)
  | _,_=>none
theorem zO{σ:L2.St}{H F:Hp}{θ:List Addr}{s:S}(b:BS C.K C.ca σ H F θ s):∀{ds:List D} {U:List (D×List Int)} {xs:List V},keyed s.o ds=some U->aC C.K C.ca θ F ds xs->
 ∃J:List ((Addr×D)×List Int),U=J.map (λx=>(x.1.2,x.2))/\xs=J.map (λx=>V.ref x.1.1)/\∀x∈J,SqL C.K H x.1.1 (x.2.map V.int)/\Rep C.K C.ca θ F x.1.2 (.ref x.1.1)
 | [],U,xs,e,r=>by
  cases e
  unfold aC at r
  subst r
  exact⟨[],rfl,rfl,λx hx=>by cases hx⟩
 | d::ds,U,xs,e,r=>by
  unfold keyed at e
  split at e
  ·rename_i ns k2 e1 e2
   cases e
   unfold aC at r
   obtain⟨v,Y,rfl,h1,h2⟩:=r
   obtain⟨a,rfl,hs⟩:=Hx b h1 e1
   obtain⟨J,q1,q2,q3⟩:=zO b e2 h2
   refine⟨((a,d),ns)::J,by rw[q1];rfl,by rw[q2];rfl,λx hx=> ?_⟩
   rcases Um.mp hx with rfl | hx
   ·exact⟨hs,h1⟩
   ·exact q3 x hx
  ·cases e
theorem DT{K:Fa}{ca:Nat->Addr}{θ:List Addr}{F:Hp}:∀{J:List ((Addr×D)×List Int)},(∀x∈J,Rep K ca θ F x.1.2 (.ref x.1.1))->aC K ca θ F (J.map λx=>x.1.2) (J.map λx=>V.ref x.1.1)
 | [],_=>aC.nil
 | x::J,h=>aC.cons (h x Ug) (DT λy hy=>h y (Ub _ hy))
def uY(fin:S->List D->Res (D×S))(me:EM):EM:=λs=>(me s).bind λx=>match lsD x.2.o x.1 with
 | some ds=>match keyed x.2.o ds with
  | some J=>if J.length<64/\(J.map (·.2)).Nodup then fin x.2 ((eE J).map (·.1)) else .bad
  | none=>.bad
 | none=>.bad
theorem LV {fin:S->List D->Res (D×S)} {te:TE} {me:EM} (he:RdE C te me)
 (hf:∀σ H F θ s ds xs Q,BS C.K C.ca σ H F θ s->aC C.K C.ca θ F ds xs->PoE C σ H F θ (fin s ds) Q->∀q,H q=none->Q (.ref q) (upd H q (.lst xs))):RdE C (tCB (wR C.K) (nY te qL)) (uY fin me):=by
 intro σ H F θ s Q b p
 refine he σ H F θ s _ b (PoR.bind p ?_)
 rintro ⟨x,s1⟩ H1 F1 θ1 _ an p1 J v U
 dsimp only at p1 J U
 split at p1
 ·rename_i ds el
  split at p1
  ·rename_i kd ek
   split at p1
   ·rename_i hc
    obtain⟨a,xs,rfl,hs,hr⟩:=fX J U el
    obtain⟨Y,rfl,rfl,q3⟩:=zO J ek hr
    have n1:∀l:List ((Addr×D)×List Int),eE (l.map λx=>(x.1.1,x.2))=(eE l).map λx=>(x.1.1,x.2):=oy λ_=>rfl
    have n2:∀l:List ((Addr×D)×List Int),eE (l.map λx=>(x.1.2,x.2))=(eE l).map λx=>(x.1.2,x.2):=oy λ_=>rfl
    refine⟨a,Y.map λx=>(x.1.1,x.2),rfl,by rw[Uh];exact hs,λy hy=> ?_,by have:=hc.1;rw[T3] at this ⊢;exact this,by have:=hc.2;rw[Uh] at this ⊢;exact this, ?_⟩
    ·obtain⟨x,hx,rfl⟩:=T4.mp hy
     exact(q3 x hx).1
    ·rw[n2,Uh] at p1
     rw[n1,Uh]
     exact hf σ H1 F1 θ1 s1 _ _ Q J (DT λx hx=>(q3 x ((iu Y).mem_iff.mp hx)).2) p1
   ·exact Fk p1
  ·exact Fk p1
 ·exact Fk p1
theorem Kb{te:TE}{me:EM}(J:RdE C te me):RdE C (tCB (wR C.K) (nY te qL)) (uY qK me):=LV J λσ H F θ s ds xs Q b r p=>xO p b r
end
section
variable {C : Ct}
end
section
variable {C : Ct}
abbrev IX:=S->Res ((List D×(aB->Prop))×S)
def JI(C:Ct)(U:TI)(im:IX):Prop:=∀σ H F θ s R,BS C.K C.ca σ H F θ s->
 PoR C H F θ (im s) (λy H1 F1 θ1=>BS C.K C.ca σ H1 F1 θ1 y.2->∀J,uy C J y.1.1 y.1.2 H1 F1 θ1->R J H1)->U σ H R
theorem lsN{H F H2 F2:Hp}{θ θ2:List Addr}{J:aB}{x:D}{ds:List D}{v:V}(st:Stp H F θ H2 F2 θ2)(n:Now C.K C.ca H2 F2 θ2 J)(r:Rep C.K C.ca θ F x v)(e:lsD J x=some ds):∃a xs,v=.ref a/\SqL C.K H2 a xs/\aC C.K C.ca θ2 F2 ds xs:=by
 replace r:=r.mono st.ff st.pre
 cases x <;> first | (simp[lsD] at e;done) | skip
 ·cases e
  unfold Rep at r
  obtain⟨a,xs,rfl,U,hr⟩:=r
  exact⟨a,xs,rfl,n.fh.seq U,hr⟩
 ·rename_i k
  unfold Rep at r
  obtain⟨a,rfl,hk⟩:=r
  unfold lsD at e
  dsimp only at e
  split at e
  ·rename_i Y ek
   cases e
   obtain⟨_,xs,h1,h2⟩:j8 C.K C.ca H2 F2 θ2 a (.lst ds):=n.ce k a _ hk ek
   exact⟨a,xs,rfl,SqL.of h1,h2⟩
  ·cases e
def AQ(m:AM):IX:=λs=>(m s).bind λx=>match x.1 with
 | [a,b]=>match lsD x.2.o a,lsD x.2.o b with
  | some as,some bs=>.ok ((lQ as bs,λO=>lsD O a=some as/\lsD O b=some bs),x.2)
  | _,_=>.bad
 | _=>.bad
theorem Lq{a b:Addr}{x y:D}{as bs:List D}{H F:Hp}{θ:List Addr}(r1:Rep C.K C.ca θ F x (.ref a))(r2:Rep C.K C.ca θ F y (.ref b)):
 uy C (Itz C.K a b) (lQ as bs) (λO=>lsD O x=some as/\lsD O y=some bs) H F θ where
 go:=λi H2 F2 θ2 O2 hi st n ok=>by
  obtain⟨_,_,e1,e2,_⟩:=rM (T7 hi)
  obtain⟨_,xs,q,h1,k1⟩:=lsN st n r1 ok.1
  cases q
  obtain⟨_,ys,q,h2,k2⟩:=lsN st n r2 ok.2
  cases q
  obtain⟨v,q1,_⟩:=k1.get e1
  obtain⟨w,q2,_⟩:=k2.get e2
  exact⟨xs,ys,v,w,h1,h2,q1,q2⟩
 yl:=λi d σ H2 F2 θ2 s2 z H3 hd st b ok hy=>by
  obtain⟨T,v,w,hT,rfl,rfl,hv,hw⟩:=hy
  obtain⟨_,_,e1,e2,rfl⟩:=rM hd
  obtain⟨_,xs,q,h1,k1⟩:=lsN st b.now r1 ok.1
  cases q
  obtain⟨_,ys,q,h2,k2⟩:=lsN st b.now r2 ok.2
  cases q
  obtain⟨v',q1,k1⟩:=k1.get e1
  obtain⟨w',q2,k2⟩:=k2.get e2
  have:=hv xs h1
  rw[q1] at this
  cases this
  have:=hw ys h2
  rw[q2] at this
  cases this
  obtain⟨st3,b3,sF,e3⟩:=b.newF hT (.tup [v,w])
  refine⟨_,st3,b3, ?_⟩
  unfold Rep
  exact⟨T,[v,w],rfl,SqT.of e3,aC.cons (k1.mono st3.ff st3.pre) (aC.one (k2.mono st3.ff st3.pre))⟩
 st:=λi H2 F2 θ2 O2 hi st n ok=>by
  obtain⟨_,xs,q,h1,k1⟩:=lsN st n r1 ok.1
  cases q
  obtain⟨_,ys,q,h2,k2⟩:=lsN st n r2 ok.2
  cases q
  refine⟨xs,ys,h1,h2, ?_⟩
  unfold lQ at hi
  rw[Vu] at hi
  rw[k1.length,k2.length]
  omega
theorem Lz{ta:TA}{m:AM}(h:RdA C ta m):JI C (Ii C.K ta) (AQ m):=by
 intro σ H F θ s R b p
 refine h σ H F θ s _ b (PoR.bind p ?_)
 rintro ⟨x,s1⟩ H1 F1 θ1 _ am p1 J v Y
 dsimp only at p1 J Y
 split at p1
 ·rename_i x y
  split at p1
  ·rename_i as bs e1 e2
   obtain⟨v1,v2,rfl,k1,k2⟩:=Kx Y
   obtain⟨a,xs,rfl,hs,hr⟩:=fX J k1 e1
   obtain⟨b',ys,rfl,U,az⟩:=fX J k2 e2
   exact⟨a,b',rfl,⟨xs,hs⟩,⟨ys,U⟩,p1 _ _ _ .refl J _ (Lq k1 k2)⟩
  ·exact Fk p1
 ·exact Fk p1
noncomputable def xF (m:Nat)(caps:List Nat)(im:IX)(g:GM)(c:TM)(e:EM):S->Res (List D×S):=λs=>(im s).bind λy=>
 (du y.1.2 g c e y.1.1 [] ⟨ng m caps y.2.r,y.2.o⟩).bind λz=>.ok (z.1,⟨y.2.r,z.2.o⟩)
theorem Hb {m:Nat} {caps:List Nat} {wi:TI} {g:TG} {tc:TT} {te:TE} {im:IX} {gm:GM} {c:TM} {e:EM} (hi:JI C wi im) (hg:RdG C g gm) (hc:RdT C tc c) (he:RdE C te e)
 {σ:L2.St} {H F:Hp} {θ:List Addr} {s:S} {Q:VK} (b:BS C.K C.ca σ H F θ s)
 (p:PoR C H F θ (xF m caps im gm c e s) λy H1 F1 θ1=>BS C.K C.ca σ H1 F1 θ1 y.2->∀q xs,H q=none->H1 q=some (.lst xs)->F1 q=none->q∉θ1->aC C.K C.ca θ1 F1 y.1 xs->Q (.ref q) H1):rK m caps wi g tc te σ H Q:=by
 refine hi σ H F θ s _ b (PoR.bind p ?_)
 rintro ⟨⟨ds,k⟩,s1⟩ H1 F1 θ1 _ bW p1 b1 J it q hq
 dsimp only at p1 b1 it
 have b2:Stp H1 F1 θ1 (upd H1 q (.lst [])) F1 θ1:=by
  have nm:∀a u,H1 a=some u->a≠q:=λa u e z=>by rw[z,hq] at e;cases e
  exact⟨bM.refl _,⟨[],by simp,by simp⟩,λa u h _=>by rw[aS (nm a u h)];exact h,λa u h=>⟨u,by rw[aS (nm a u h)];exact h⟩,λa u h=>.inl h⟩
 have qθ:q∉θ1:=λh=>by obtain⟨u,hu⟩:=b1.now.there h;rw[hq] at hu;cases hu
 have qF:F1 q=none:=by
  cases e:F1 q with
  | none=>rfl
  | some u=>rw[b1.now.fh q u e] at hq;cases hq
 have b7:H q=none:=by
  cases e:H q with
  | none=>rfl
  | some u=>obtain⟨u',e'⟩:=bW.al q u e;rw[hq] at e';cases e'
 have keep:∀{H2 F2 H3 F3:Hp} {θ2 θ3:List Addr} {o:HO},Stp H2 F2 θ2 H3 F3 θ3->H2 q=some o->F2 q=none->q∉θ2->H3 q=some o/\F3 q=none/\q∉θ3:=λ{H2 F2 H3 F3 θ2 θ3 o} st h1 h2 h3=>by
  refine⟨st.kp q o h1 h3, ?_, ?_⟩
  ·cases e:F3 q with
   | none=>rfl
   | some u=>
    rcases st.nf q u e with z | z | z
    ·rw[h2] at z;cases z
    ·rw[h1] at z;cases z
    ·exact absurd z h3
  ·obtain⟨r,rfl,hr⟩:=st.th
   intro hm
   rcases Uj.mp hm with z | z
   ·exact h3 z
   ·rw[hr q z] at h1;cases h1
 have bv:∀{σ':L2.St} {H2 F2:Hp} {θ2:List Addr} {s2:S} (o:HO),BS C.K C.ca σ' H2 F2 θ2 s2->F2 q=none->q∉θ2->BS C.K C.ca σ' (upd H2 q o) F2 θ2 s2:=λ{σ' H2 F2 θ2 s2} o b h1 h2=>by
  have ne:∀a,a∈θ2->a≠q:=λa h z=>h2 (z▸h)
  refine⟨⟨λa u h=> ?_,b.now.nd,b.now.ln,λj a c e1 e2=> ?_⟩,b.len,b.sl⟩
  ·have:a≠q:=λz=>by rw[z,h1] at h;cases h
   rw[aS this];exact b.now.fh a u h
  ·have hm:=ne a (UF e1)
   have w:=b.now.ce j a c e1 e2
   cases c with
   | dead=>obtain⟨u,hu⟩:=w;exact⟨u,by rw[aS hm];exact hu⟩
   | lst ds=>obtain⟨q1,ys,q2,q3⟩:=w;exact⟨q1,ys,by rw[aS hm];exact q2,q3⟩
   | ins c ns ds=>obtain⟨q1,dx,ys,q2,q3,q4⟩:=w;exact⟨q1,dx,ys,by rw[aS hm];exact q2,q3,q4⟩
 have cc:∀{H2 F2:Hp} {θ2:List Addr} (o:HO),Stp H1 F1 θ1 H2 F2 θ2->Stp H1 F1 θ1 (upd H2 q o) F2 θ2:=λ{H2 F2 θ2} o st=>by
  have nm:∀a u,H1 a=some u->a≠q:=λa u e z=>by rw[z,hq] at e;cases e
  exact⟨st.ff,st.th,λa u h1 h2=>by rw[aS (nm a u h1)];exact st.kp a u h1 h2,λa u h1=>by rw[aS (nm a u h1)];exact st.al a u h1,st.nf⟩
 refine⟨λi n U σ' H'=>n=ds.length-i/\i<=ds.length/\∃F' θ' s' as,Stp H1 F1 θ1 H' F' θ'/\H' q=some (.lst U)/\F' q=none/\q∉θ'/\BS C.K C.ca σ' H' F' θ' s'/\aC C.K C.ca θ' F' as U/\
  PoR C H1 F1 θ1 ((du (k) gm c e (ds.drop i) as s').bind λz=>.ok (z.1,(⟨s1.r,z.2.o⟩:S))) (λy H1 F1 θ1=>BS C.K C.ca σ H1 F1 θ1 y.2->∀q xs,H q=none->H1 q=some (.lst xs)->F1 q=none->q∉θ1->aC C.K C.ca θ1 F1 y.1 xs->Q (.ref q) H1),
  ⟨ds.length,by simp,UR _,F1,θ1,⟨ng m caps s1.r,s1.o⟩,[],b2,cO,qF,qθ,bv _ (GN b1 m caps) qF qθ,aC.nil,by simpa using p1⟩, ?_⟩
 rintro i n U σ' H' ⟨rfl,db,F',θ',s',as,st,bi,bw,bU,bs,a0,Y⟩
 by_cases lt:i<ds.length
 ·right
  rw[UT lt,du] at Y
  split at Y
  ·rename_i a4
   refine⟨it.go i H' F' θ' s'.o lt st bs.now a4.1, ?_⟩
   intro x H3 hy
   obtain⟨F3,a6,b3,rp⟩:=it.yl i ds[i] σ' H' F' θ' s' x H3 (T7 lt) st bs a4.1 hy
   obtain⟨k1,k2,k3⟩:=keep a6 bi bw bU
   have am:=st.trans a6
   have a7:=PoR.after am Y
   have w1:PoG C H3 F3 θ' (gm ds[i] s') (λσ4 H4=>tc σ4 H4 λb H4=>if b=true then
    te σ4 H4 λy H5=>H5 q=some (.lst U)/\U.length<sizeLine/\∃k',k'<ds.length-i/\(k'=ds.length-(i+1)/\i+1<=ds.length/\∃F' θ' s' as,Stp H1 F1 θ1 (upd H5 q (.lst (U++[y]))) F' θ'/\(upd H5 q (.lst (U++[y]))) q=some (.lst (U++[y]))/\F' q=none/\q∉θ'/\BS C.K C.ca σ4 (upd H5 q (.lst (U++[y]))) F' θ' s'/\aC C.K C.ca θ' F' as (U++[y])/\
     PoR C H1 F1 θ1 ((du (k) gm c e (ds.drop (i+1)) as s').bind λz=>.ok (z.1,(⟨s1.r,z.2.o⟩:S))) (λy H1 F1 θ1=>BS C.K C.ca σ H1 F1 θ1 y.2->∀q xs,H q=none->H1 q=some (.lst xs)->F1 q=none->q∉θ1->aC C.K C.ca θ1 F1 y.1 xs->Q (.ref q) H1))
    else ∃k',k'<ds.length-i/\(k'=ds.length-(i+1)/\i+1<=ds.length/\∃F' θ' s' as,Stp H1 F1 θ1 H4 F' θ'/\H4 q=some (.lst U)/\F' q=none/\q∉θ'/\BS C.K C.ca σ4 H4 F' θ' s'/\aC C.K C.ca θ' F' as U/\
     PoR C H1 F1 θ1 ((du (k) gm c e (ds.drop (i+1)) as s').bind λz=>.ok (z.1,(⟨s1.r,z.2.o⟩:S))) (λy H1 F1 θ1=>BS C.K C.ca σ H1 F1 θ1 y.2->∀q xs,H q=none->H1 q=some (.lst xs)->F1 q=none->q∉θ1->aC C.K C.ca θ1 F1 y.1 xs->Q (.ref q) H1))):=by
    cases e1:gm ds[i] s' with
    | bad=>rw[e1] at a7;exact a7
    | exc a1 a2 a3=>rw[e1] at a7;exact a7
    | ok s4=>
     rw[e1] at Y
     intro H4 F4 θ4 an σ4 b4
     obtain⟨l1,l2,l3⟩:=keep an k1 k2 k3
     refine hc σ4 H4 F4 θ4 s4 _ b4 ?_
     cases e2:c s4 with
     | bad=>rw[aj,e2] at Y;exact Y
     | exc a1 a2 a3=>rw[aj,e2] at Y;exact PoR.after (am.trans an) Y
     | ok x5=>
      obtain⟨kk,s5⟩:=x5
      rw[aj,e2,aj] at Y
      intro H5 F5 θ5 ap b5
      obtain⟨m1,m2,m3⟩:=keep ap l1 l2 l3
      have a5:=((a0.mono a6.ff a6.pre).mono an.ff an.pre).mono ap.ff ap.pre
      cases kk with
      | false=>
       exact rG ⟨ds.length-(i+1),by omega,rfl,by omega,F5,θ5,s5,as,am.trans (an.trans ap),m1,m2,m3,b5,a5,by simpa using Y⟩
      | true=>
       refine rF (he σ4 H5 F5 θ5 s5 _ b5 ?_)
       dsimp only[if_true] at Y
       cases e3:e s5 with
       | bad=>rw[e3] at Y;exact Y
       | exc a1 a2 a3=>rw[e3] at Y;exact PoR.after (am.trans (an.trans ap)) Y
       | ok x6=>
        obtain⟨y,s6⟩:=x6
        rw[e3,aj] at Y
        intro H6 F6 θ6 a8 b6 w r6
        obtain⟨n1,n2,n3⟩:=keep a8 m1 m2 m3
        exact⟨n1,by rw[a0.length];exact a4.2,ds.length-(i+1),by omega,rfl,by omega,F6,θ6,s6,as++[y],cc _ (am.trans (an.trans (ap.trans a8))),cO,n2,n3,bv _ b6 n2 n3,(a5.mono a8.ff a8.pre).append (aC.one r6),Y⟩
   exact hg σ' H3 F3 θ' s' ds[i] x _ b3 rp w1
  ·exact Fk Y
 ·left
  rw[VS (by omega),du] at Y
  split at Y
  ·rename_i a4
   refine⟨it.st i H' F' θ' s'.o (by omega) st bs.now a4,bi, ?_⟩
   refine Y H' F' θ' st ⟨bs.now,b1.len,λj d e=> ?_⟩ q U b7 bi bw bU a0
   obtain⟨v,h1,h2⟩:=b1.sl j d e
   exact⟨v,h1,h2.mono st.ff st.pre⟩
  ·exact Fk Y
noncomputable def tS (m:Nat)(caps:List Nat)(im:IX)(g:GM)(c:TM)(e:EM):EM:=λs=>(xF m caps im g c e s).bind λy=>.ok (.lst y.1,y.2)
theorem Hy{m:Nat}{caps:List Nat}{wi:TI}{g:TG}{tc:TT}{te:TE}{im:IX}{gm:GM}{c:TM}{e:EM}(hi:JI C wi im)(hg:RdG C g gm)(hc:RdT C tc c)(he:RdE C te e):RdE C (rK m caps wi g tc te) (tS m caps im gm c e):=by
 intro σ H F θ s Q b p
 refine Hb hi hg hc he b ?_
 unfold tS at p
 cases e1:xF m caps im gm c e s with
 | bad=>rw[e1] at p;exact p
 | exc a1 a2 a3=>rw[e1] at p;exact p
 | ok y=>
  rw[e1,aj] at p
  intro H1 F1 θ1 J U q xs h0 h1 h2 h3 hr
  have Y:bM F1 (upd F1 q (.lst xs)):=λa u h=>by
   rw[aS (λz=>by rw[z,h2] at h;cases h)];exact h
  refine p H1 (upd F1 q (.lst xs)) θ1 ⟨J.ff.trans Y,J.th,J.kp,J.al,λa u h=> ?_⟩ ⟨⟨λa u h=> ?_,U.now.nd,U.now.ln,λj a c e2 e3=> ?_⟩,U.len,λi d e2=> ?_⟩ (.ref q) ?_
  ·by_cases z:a=q
   ·subst z;exact .inr (.inl h0)
   ·rw[aS z] at h;exact J.nf a u h
  ·by_cases z:a=q
   ·subst z;rw[cO] at h;rw[h1];exact h
   ·rw[aS z] at h;exact U.now.fh a u h
  ·have ne:a≠q:=λz=>h3 (z▸UF e2)
   have w:=U.now.ce j a c e2 e3
   cases c with
   | dead=>exact w
   | lst ds=>obtain⟨q1,ys,q2,q3⟩:=w;exact⟨by rw[aS ne];exact q1,ys,q2,q3.mono Y ⟨[],by simp⟩⟩
   | ins c ns ds=>obtain⟨q1,dx,ys,q2,q3,q4⟩:=w;exact⟨by rw[aS ne];exact q1,dx,ys,q2,q3,q4.mono Y ⟨[],by simp⟩⟩
  ·obtain⟨v,w1,w2⟩:=U.sl i d e2
   exact⟨v,w1,w2.mono Y ⟨[],by simp⟩⟩
  ·unfold Rep
   exact⟨q,xs,rfl,SqL.of cO,hr.mono Y ⟨[],by simp⟩⟩
end
section
variable {C : Ct}
def rg(mo me:EM):EM:=λs=>(mo s).bind λx=>match x.1 with
 | .lst ds=>match mY ds with
  | some ns=>(me x.2).bind λy=>match y.1 with
   | .int c=>(if ns.idxOf c<ns.length then Res.ok (.int (ns.idxOf c:Nat)) else .bad).bind λd=>.ok (d,y.2)
   | _=>.bad
  | none=>.bad
 | _=>.bad
theorem HW{to te:TE}{mo me:EM}(ho:RdE C to mo)(he:RdE C te me):RdE C (tBM C.K "list" (D0 C.K) to (nY te qL)) (rg mo me):=by
 intro σ H F θ s Q b p
 refine ho σ H F θ s _ b (PoR.bind p ?_)
 rintro ⟨x,s1⟩ H1 F1 θ1 _ as p1 U v J
 dsimp only at p1 U J
 split at p1
 ·rename_i ds _
  split at p1
  ·rename_i ns e
   rw[uh e] at J
   unfold Rep at J
   obtain⟨a,xs,rfl,Y,hx⟩:=J
   rw[oJ hx] at Y
   refine⟨.inl ⟨rfl,_,U.now.fh.seq Y⟩,he σ H1 F1 θ1 s1 _ U (PoR.bind p1 ?_)⟩
   rintro ⟨y,s2⟩ H2 F2 θ2 _ ab p2 b2 w r2
   dsimp only at p2 b2 r2
   split at p2
   ·rename_i c _
    cases bA.mp r2
    split at p2
    ·rename_i hi
     exact⟨a,ns,c,rfl,rfl,b2.now.fh.seq (JM ab.ff Y),hi,dw p2 b2 (bA.mpr rfl)⟩
    ·exact Fk p2
   ·exact Fk p2
  ·exact Fk p1
 ·exact Fk p1
theorem Iw{mo me:EM}{s s1 s2:S}{ns:List Int}{c:Int}(h1:mo s=.ok (.lst (ns.map D.int),s1))(h2:me s1=.ok (.int c,s2))(hi:c∈ns):rg mo me s=.ok (.int (ns.idxOf c:Nat),s2):=by
 unfold rg
 rw[h1]
 show (match mY (ns.map D.int) with | some ns=>_ | none=>_)=_
 rw[sq]
 show (me s1).bind _=_
 rw[h2]
 show (if ns.idxOf c<ns.length then Res.ok (D.int (ns.idxOf c:Nat)) else Res.bad).bind _=_
 rw[if_pos (WI hi)]
 rfl
end
@[simp] theorem Qx (ds:List D) (O:aB):okC ds none O=True:=rfl
@[simp] theorem P5 (ds:List D) (k:Nat) (O:aB):okC ds (some k) O=(O[k]? =some (.lst ds)):=rfl
theorem D9{n:Nat}{i:Int}(h:i.natAbs<2^n):Builtin.Int.intBits i<=n:=by
 unfold Builtin.Int.intBits
 split
 ·exact UR _
 ·rename_i h0
  have hp:i.natAbs≠0:=by
   intro z
   apply h0
   simpa using z
  have:=(Nat.log2_lt hp).mpr h
  omega
def Sz(n:Nat)(i:Int):Prop:=i.natAbs<2^n
theorem Sz.mono{m n:Nat}{i:Int}(h:Sz m i)(J:m<=n):Sz n i:=Ux h (Vb (by decide) J)
theorem jY{m n:Nat}(hm:m<=60000000)(hn:n<=60000000){i j:Int}(h:Sz m i)(h':Sz n j):IntMulOk i j:=by
 have h1:=D9 h
 have h2:=D9 h'
 have e:Builtin.Int.intTooBig (Builtin.Int.intBits i+Builtin.Int.intBits j)=false:=by
  unfold Builtin.Int.intTooBig
  rw[bitsLine_eq]
  exact decide_eq_false (by omega)
 unfold IntMulOk
 rw[e]
 simp
theorem fD{i j:Int}(h:i.natAbs<2^64\/j.natAbs<2^64):IntMulOk i j:=by
 rcases h with h | h
 ·exact .of_left (intBits_le_64 (by omega) (by omega))
 ·exact .of_right (intBits_le_64 (by omega) (by omega))
theorem Sz.mul{m n:Nat}{i j:Int}(h:Sz m i)(h':Sz n j):Sz (m+n) (i*j):=by
 unfold Sz at *
 rw[Xh,XJ]
 exact Nat.mul_lt_mul'' h h'
theorem Sz.add{m n:Nat}{i j:Int}(h:Sz m i)(h':Sz n j):Sz (max m n+1) (i+j):=by
 unfold Sz at *
 have h1:=Ux h (Vb (by decide) (Nat.le_max_left m n))
 have h2:=Ux h' (Vb (by decide) (Nat.le_max_right m n))
 have J:(i+j).natAbs<=i.natAbs+j.natAbs:=XI i j
 rw[Xy]
 omega
theorem wm{i j:Int}(h:0<j):i.fdiv j=i/j:=Int.fdiv_eq_ediv_of_nonneg i (Xz h)
theorem J7{i j:Int}(h:0<j):i.fmod j=i%j:=Int.fmod_eq_emod_of_nonneg i (Xz h)
section
variable {O : aB}
@[simp] theorem lW (i j:Int):iC O (.int i) (.int j)=.ok (.int (i-j)):=rfl
@[simp] theorem cj (i j:Int):bI O (.int i) (.int j)=.ok (.int (i+j)):=rfl
@[simp] theorem Qz (i j:Int):Qu O (.int i) (.int j)=.ok (.int (i+j)):=rfl
@[simp] theorem vb (i j:Int):ltD O (.int i) (.int j)=.ok (.bl (decide (i<j))):=rfl
@[simp] theorem Q4 (i j:Int):leD O (.int i) (.int j)=.ok (.bl (decide (i<=j))):=rfl
@[simp] theorem o5 (i j:Int):gtD O (.int i) (.int j)=.ok (.bl (decide (j<i))):=rfl
@[simp] theorem QS (i j:Int):geD O (.int i) (.int j)=.ok (.bl (decide (j<=i))):=rfl
@[simp] theorem rO (i:Int):nD O (.int i)=.ok (.int (-i)):=rfl
@[simp] theorem pk (i j:Int):eqD O (.int i) (.int j)=.ok (.bl (decide (i=j))):=rfl
@[simp] theorem uP (i j:Int):neD O (.int i) (.int j)=.ok (.bl (!decide (i=j))):=rfl
@[simp] theorem Ll (i j:Str):eqD O (.str i) (.str j)=.ok (.bl (decide (i=j))):=rfl
@[simp] theorem QW (i j:Str):neD O (.str i) (.str j)=.ok (.bl (!decide (i=j))):=rfl
@[simp] theorem Rn (i j:Bool):eqD O (.bl i) (.bl j)=.ok (.bl (decide (i=j))):=rfl
@[simp] theorem Ry (i j:Bool):neD O (.bl i) (.bl j)=.ok (.bl (!decide (i=j))):=rfl
theorem dN{i j:Int}(h:IntMulOk i j):dJ O (.int i) (.int j)=.ok (.int (i*j)):=if_pos h
theorem uA{i j:Int}(h:j≠0):hZ O (.int i) (.int j)=.ok (.int (i.fdiv j)):=if_pos h
theorem vJ{i:Int}{j:Int}(h:0<j)(h2:j<1073741824):hZ O (.int i) (.int j)=.ok (.int (i/j)):=by
 rw[uA (by omega),wm h]
theorem fk{i j:Int}(h:0<j):fE O (.int i) (.int j)=.ok (.int (i%j)):=by
 rw[<- J7 h];exact if_pos (by omega)
theorem sx{i j:Int}(h:0<=j)(h2:j<=1000000)(J:i.natAbs<2^64):j6 O (.int i) (.int j)=.ok (.int (i^j.toNat)):=if_pos ⟨h,h2,J⟩
@[simp] theorem P9 (i:Int):wo O [.int i]=.ok (.int (i.natAbs:Int)):=by
 show Res.ok (D.int (if i<0 then -i else i))=_
 congr 2
 split <;> omega
@[simp] theorem dB (ds:List D):cL O [.lst ds]=.ok (.int ds.length):=rfl
@[simp] theorem Qk (ds:List D):cL O [.tup ds]=.ok (.int ds.length):=rfl
theorem BZ{x:Str}(h:x.length<=16777216):cL O [.str x]=.ok (.int x.length):=if_pos h
@[simp] theorem ow (ds:List D):nM O [.lst ds]=.ok (.lst ds):=rfl
@[simp] theorem PR (ds:List D):nM O [.tup ds]=.ok (.lst ds):=rfl
@[simp] theorem PJ (i:Int):intOf O [.int i]=.ok (.int i):=rfl
@[simp] theorem Bi (b:Bool):intOf O [.bl b]=.ok (.int (if b then 1 else 0)):=rfl
@[simp] theorem QN (c:String) (i:Int):oG c O (.int i)=.ok (.bl (fU "int" c)):=rfl
@[simp] theorem Rw (c:String) (i:Bool):oG c O (.bl i)=.ok (.bl (fU "bool" c)):=rfl
@[simp] theorem Q6 (c:String) (i:Str):oG c O (.str i)=.ok (.bl (fU "str" c)):=rfl
@[simp] theorem QL (c:String) (i:List D):oG c O (.lst i)=.ok (.bl (fU "list" c)):=rfl
@[simp] theorem QE (c:String) (i:List D):oG c O (.tup i)=.ok (.bl (fU "tuple" c)):=rfl
@[simp] theorem QJ (c:String):oG c O .non=.ok (.bl (fU "NoneType" c)):=rfl
@[simp] theorem Ri:fU "int" "int" =true:=by decide
@[simp] theorem Ro:fU "int" "bool" =false:=by decide
@[simp] theorem Rp:fU "bool" "bool" =true:=by decide
@[simp] theorem Rl:fU "bool" "int" =true:=by decide
@[simp] theorem Rf:fU "list" "list" =true:=by decide
@[simp] theorem sub_tt:fU "tuple" "tuple" =true:=by decide
@[simp] theorem sub_lt:fU "list" "tuple" =false:=by decide
@[simp] theorem Rv:fU "tuple" "list" =false:=by decide
@[simp] theorem Rx:fU "str" "int" =false:=by decide
@[simp] theorem Rc:fU "NoneType" "int" =false:=by decide
theorem o9{ds:List D}{i:Int}{d:D}(h:atI ds i=some d):ixD O (.lst ds) (.int i)=.ok d:=by
 show (match lsD O (D.lst ds) with
  | some ds=>match atI ds i with
   | some d=>Res.ok d
   | none=>.bad
  | none=>.bad)=_
 rw[o4]
 dsimp only
 rw[h]
theorem Ec{ds:List D}{i:Int}{d:D}(h:atI ds i=some d):ixD O (.tup ds) (.int i)=.ok d:=by
 show (
  match atI ds i with
  | some d=>Res.ok d
  | none=>.bad)=_
 rw[h]
theorem pG{α:Type}{l:List α}{i:Int}(h0:0<=i)(h1:i<l.length):atI l i=some (l[i.toNat]'(by omega)):=by
 unfold atI ixN
 rw[if_pos h0,if_pos h1]
 show l[i.toNat]? =_
 exact T7 _
theorem sM:∀ns:List Int,lJ (ns.map D.int)=some (ns.map PyData.int)
 | []=>by simp[lJ]
 | n::ns=>by simp[lJ,toPy,sM ns]
theorem qx:∀ns:List Int,bR O (ns.map D.int)=ns.map D.int
 | []=>by simp[bR]
 | n::ns=>by simp[bR,res,qx ns]
theorem qD:∀ns:List Int,PyData.canLayAll0 (ns.map PyData.int)=true
 | []=>by simp[PyData.canLayAll0]
 | n::ns=>by simp[PyData.canLayAll0,PyData.canLay0,qD ns]
theorem r9:∀ns:List Int,PyData.depthAll (ns.map PyData.int)=0
 | []=>by simp[PyData.depthAll]
 | n::ns=>by simp[PyData.depthAll,PyData.depth,r9 ns]
theorem shaped_ints(ns:List Int):SeqAt.shaped (.list (ns.map PyData.int))=true:=by
 simp[SeqAt.shaped,PyData.canLay0,qD,PyData.depth,r9]
theorem vU:∀ns ms:List Int,PyData.eqvAll (ns.map PyData.int) (ms.map PyData.int)=decide (ns=ms)
 | [],[]=>by simp[PyData.eqvAll]
 | [],_::_=>by simp[PyData.eqvAll]
 | _::_,[]=>by simp[PyData.eqvAll]
 | a::r,b::t=>by
  simp only[Uk,PyData.eqvAll,PyData.eqv,vU r t]
  by_cases h:a=b <;> by_cases h':r=t <;> simp[h,h']
theorem Bv(ns ms:List Int):eqB O (.lst (ns.map D.int)) (.lst (ms.map D.int))=some (decide (ns=ms)):=by
 show lu O _ _=_
 unfold lu
 simp only[res,qx,toPy,sM,VO]
 rw[if_pos ⟨shaped_ints ns,shaped_ints ms⟩]
 simp only[PyData.eqv,vU]
@[simp] theorem Qj (ns ms:List Int):eqD O (.lst (ns.map D.int)) (.lst (ms.map D.int))=.ok (.bl (decide (ns=ms))):=by unfold eqD;rw[Bv]
@[simp] theorem IP (ns ms:List Int):neD O (.lst (ns.map D.int)) (.lst (ms.map D.int))=.ok (.bl (!decide (ns=ms))):=by unfold neD;rw[Bv]
theorem uj:∀ns:List Int,aN (ns.map D.int)=true
 | []=>by simp[aN]
 | n::ns=>by simp[aN,cT,uj ns]
@[simp] theorem Pw (ns:List Int):cT (.lst (ns.map D.int))=true:=by simp[cT,uj]
end
noncomputable def uG:SM:=aP (setM 2 (ak fE (aa 0) (aa 1))) (aP (setM 0 (aa 1)) (setM 1 (aa 2)))
theorem Iu{a b:Int}{x:Option D}{O:aB}(hb:0<b):uG ⟨[some (.int a),some (.int b),x],O⟩=.next ⟨[some (.int b),some (.int (a%b)),some (.int (a%b))],O⟩:=by
 simp[uG,aP,setM,kS,aG,ak,aa,fk hb]
theorem zD{c:TM}(hc:∀(a b:Int) x O,0<=b->c ⟨[some (.int a),some (.int b),x],O⟩=.ok (decide (b≠0),⟨[some (.int a),some (.int b),x],O⟩)):
 ∀(n:Nat) (a b:Int) x O,0<=a->0<=b->b.natAbs<n->∃y,my c uG n ⟨[some (.int a),some (.int b),x],O⟩=.next ⟨[some (.int (Vw a.natAbs b.natAbs:Nat)),some (.int 0),y],O⟩
 | 0,_,_,_,_,_,_,h=>by omega
 | n+1,a,b,x,O,ha,hb,hn=>by
  rw[my,hc a b x O hb,kZ]
  by_cases h:b=0
  ·subst h
   refine⟨x, ?_⟩
   have e:((Vw a.natAbs (0:Int).natAbs:Nat):Int)=a:=by
    rw[Int.natAbs_zero,Nat.gcd_zero_right]
    omega
   rw[e]
   simp
  ·have hb':0<b:=by omega
   have h1:0<=a%b:=Vp a h
   have h2:a%b<b:=U7 a hb'
   obtain⟨y,e⟩:=zD hc n b (a%b) (some (.int (a%b))) O hb h1 (by omega)
   refine⟨y, ?_⟩
   simp only[h,ne_eq,not_false_eq_true,decide_true,if_true,Iu hb']
   rw[e]
   have e2:(a%b).natAbs=a.natAbs%b.natAbs:=by
    have:((a%b).natAbs:Int)=((a.natAbs%b.natAbs:Nat):Int):=by
     rw[Wr h1,Int.natCast_emod,Wr ha,Wr hb]
    omega
   rw[e2,<- Nat.gcd_rec' a.natAbs b.natAbs]
where Nat.gcd_rec' (m n:Nat):Vw m n=Vw n (m%n):=by
        rw[Nat.gcd_comm m n,Nat.gcd_rec n m,Nat.gcd_comm]
noncomputable def Eo:SM:=aP (setM 0 (bE wo (ae (aa 0) ao))) (aP (setM 1 (bE wo (ae (aa 1) ao))) (aP (xo (λs=>yN 1 s) (bj (ak neD (aa 1) (aq (.int 0)))) uG) (bO (aa 0))))
theorem Kj(a b:Int)(O:aB):∃s,Eo ⟨[some (.int a),some (.int b),none],O⟩=.ret (.int (WR a b:Nat)) s/\s.o=O:=by
 obtain⟨y,e⟩:=zD (c:=bj (ak neD (aa 1) (aq (.int 0)))) (λa b x O h=>by simp[bj,ak,aa,aq]) (b.natAbs+1) (a.natAbs:Int) (b.natAbs:Int) none O (by omega) (by omega) (by omega)
 refine⟨⟨[some (.int (WR a b:Nat)),some (.int 0),y],O⟩, ?_,rfl⟩
 simp only[V5] at e
 simp[Eo,aP,setM,kS,aG,bE,ae,ao,aa,xo,yN,e,bO,WR]
theorem dI{n:Nat}{m:SM}{ds:List D}{O:aB}{d:D}{s:S}(h:m ⟨ds.map some++Uo (n-ds.length) none,O⟩=.ret d s):runM n m ds O=.ok (d,s.o):=by
 unfold runM;rw[h]
theorem Hs(a b:Int):runM 3 Eo [.int a,.int b] []=.ok (.int (WR a b:Nat),[]):=by
 obtain⟨s,e,J⟩:=Kj a b []
 rw[dI (s:=s) (by exact e),J]
def cZ(ns:List Int):Nat:=ns.foldl (λc n=>Vw c n.natAbs) 0
theorem sO:∀(ns:List Int) (c:Nat),ns.foldl (λc n=>Vw c n.natAbs) c ∣ c/\∀n∈ns,ns.foldl (λc n=>Vw c n.natAbs) c ∣ n.natAbs
 | [],c=>⟨Nat.dvd_refl _,by simp⟩
 | m::ns,c=>by
  obtain⟨h1,h2⟩:=sO ns (Vw c m.natAbs)
  rw[Vn]
  refine⟨X7 h1 (Nat.gcd_dvd_left _ _),λn hn=> ?_⟩
  rcases Um.mp hn with rfl | hn
  ·exact X7 h1 (Nat.gcd_dvd_right _ _)
  ·exact h2 n hn
theorem Ci{ns:List Int}{n:Int}(h:n∈ns):((cZ ns:Nat):Int) ∣ n:=Wm.mp (by rw[V5];exact(sO ns 0).2 n h)
theorem sS(g:Nat)(J:0<g):∀(ns:List Int) (c:Nat),g ∣ c->(∀n∈ns,(g:Int) ∣ n)->
 (ns.map (· / (g:Int))).foldl (λc n=>Vw c n.natAbs) (c/g)=ns.foldl (λc n=>Vw c n.natAbs) c/g
 | [],c,_,_=>rfl
 | m::ns,c,hc,h=>by
  have hm:g ∣ m.natAbs:=by
   have:=Wm.mpr (h m Ug)
   rwa [V5] at this
  have e:(m/(g:Int)).natAbs=m.natAbs/g:=by
   obtain⟨k,rfl⟩:=h m Ug
   rw[V6 _ (by omega:(g:Int)≠0),Xh,V5,Nat.mul_div_cancel_left _ J]
  rw[Uk,Vn,Vn,e,Nat.gcd_div hc hm]
  exact sS g J ns _ (Nat.dvd_gcd hc hm) λn hn=>h n (Ub _ hn)
theorem Iy{ns:List Int}(h:0<cZ ns):cZ (ns.map (· / (cZ ns:Int)))=1:=by
 have:=sS (cZ ns) h ns 0 (Nat.dvd_zero _) λn hn=>Ci hn
 rw[Nat.zero_div] at this
 rw[show cZ (ns.map (· / (cZ ns:Int)))=(ns.map (· / (cZ ns:Int))).foldl (λc n=>Vw c n.natAbs) 0 from rfl,this]
 exact Nat.div_self h
section
variable {s s1 : S} {d : D}
@[simp] theorem af {i:Nat} (h:s.r[i]? =some (some d)):aa i s=.ok (d,s):=by unfold aa;rw[h]
@[simp] theorem aD (d:D) (s:S):aq d s=.ok (d,s):=rfl
@[simp] theorem dW (f:Op2) (a b:EM) (s:S):ak f a b s=(a s).bind λx=>(b x.2).bind λy=>(f y.2.o x.1 y.1).bind λd=>.ok (d,y.2):=rfl
@[simp] theorem MZ (f:Op1) (a:EM) (s:S):unM f a s=(a s).bind λx=>(f x.2.o x.1).bind λd=>.ok (d,x.2):=rfl
@[simp] theorem aE (s:S):ao s=.ok ([],s):=rfl
@[simp] theorem aY (m:EM) (r:AM) (s:S):ae m r s=(m s).bind λx=>(r x.2).bind λy=>.ok (x.1::y.1,y.2):=rfl
@[simp] theorem gy (f:OpN) (m:AM) (s:S):bE f m s=(m s).bind λx=>(f x.2.o x.1).bind λd=>.ok (d,x.2):=rfl
@[simp] theorem DN (m:AM) (s:S):tq m s=(m s).bind λx=>if x.1.length<=16777216 then .ok (.tup x.1,x.2) else .bad:=rfl
@[simp] theorem LL (m:AM) (s:S):oE m s=(m s).bind λx=>if x.1.length<=16777216 then .ok (.lst x.1,x.2) else .bad:=rfl
@[simp] theorem Lb (m:AM) (s:S):ke m s=(m s).bind λx=>if x.1.length<=16777216 then .ok (.ptr x.2.o.length,⟨x.2.r,x.2.o++[.lst x.1]⟩) else .bad:=rfl
@[simp] theorem gx (m:EM) (s:S):bj m s=(m s).bind λx=>match x.1 with
 | .bl b=>.ok (b,x.2)
 | _=>.bad:=rfl
@[simp] theorem LI (a b:TM) (s:S):qa a b s=(a s).bind λx=>if x.1 then b x.2 else .ok (false,x.2):=rfl
@[simp] theorem A1 (a b:TM) (s:S):orT a b s=(a s).bind λx=>if x.1 then .ok (true,x.2) else b x.2:=rfl
@[simp] theorem yw (a:TM) (s:S):yB a s=(a s).bind λx=>.ok (!x.1,x.2):=rfl
@[simp] theorem QK (a b:EM) (s:S):JQ a b s=(a s).bind λx=>match x.1 with
 | .bl true=>b x.2
 | .bl false=>.ok (.bl false,x.2)
 | _=>.bad:=rfl
@[simp] theorem HV (a b:EM) (s:S):orV a b s=(a s).bind λx=>match x.1 with
 | .bl true=>.ok (.bl true,x.2)
 | .bl false=>b x.2
 | _=>.bad:=rfl
@[simp] theorem Q9 (a:EM) (s:S):ID a s=(a s).bind λx=>match x.1 with
 | .bl k=>.ok (.bl (!k),x.2)
 | _=>.bad:=rfl
@[simp] theorem u4 (a b:SM) (s:S):aP a b s=(a s).then b:=rfl
@[simp] theorem dC (s:S):cf s=.next s:=rfl
@[simp] theorem Qe (m:EM) (s:S):eH m s=(m s).out λx=>.next x.2:=rfl
@[simp] theorem QP (m:EM) (s:S):bO m s=(m s).out λx=>.ret x.1 x.2:=rfl
@[simp] theorem QD (s:S):Qs s=.ret .non s:=rfl
@[simp] theorem Rg (c:TM) (a b:SM) (s:S):ifS c a b s=(c s).out λx=>if x.1 then a x.2 else b x.2:=rfl
@[simp] theorem Rh (c:TM) (a b:EM) (s:S):ifM c a b s=(c s).bind λx=>if x.1 then a x.2 else b x.2:=rfl
@[simp] theorem BB (i:Nat) (d:D) (s:S):aG i d s=.ok ⟨s.r.set i (some d),s.o⟩:=rfl
@[simp] theorem yc (m:EM) (g:GM) (s:S):kS m g s=((m s).bind λx=>g x.1 x.2).out λs=>.next s:=rfl
@[simp] theorem QX (i:Nat) (f:Op2) (m:EM) (s:S):P8 i f m s=kS (ak f (aa i) m) (aG i) s:=rfl
@[simp] theorem Jx (s:S):cg s=.ok (true,s):=rfl
@[simp] theorem GO (s:S):jx s=.ok (none,s):=rfl
@[simp] theorem D8 (m:EM) (s:S):part m s=(m s).bind λx=>match x.1 with
 | .int i=>.ok (some i,x.2)
 | _=>.bad:=rfl
@[simp] theorem OC (me:EM) (J U:OM) (s:S):slM me J U s=(me s).bind λx=>(J x.2).bind λl=>(U l.2).bind λh=>match lsD h.2.o x.1 with
 | some ds=>.ok (.lst (cutD ds l.1 h.1),h.2)
 | none=>.bad:=rfl
@[simp] theorem cW (m:EM) (s:S):listI m s=(m s).bind λx=>(itemsOf x.2.o x.1).bind λy=>.ok (y,x.2):=rfl
@[simp] theorem OU (O:aB) (ds:List D):itemsOf O (.lst ds)=.ok (ds,none):=rfl
theorem K3(im:IM)(g:GM)(body:SM)(s:S):fM im g body s=(im s).out λy=>cR (okC y.1.1 y.1.2) g body y.1.1 y.2:=rfl
theorem pX(m:Nat)(caps:List Nat)(im:IM)(g:GM)(c:TM)(e:EM)(s:S):nO m caps im g c e s=(im s).bind λy=>
 (du (okC y.1.1 y.1.2) g c e y.1.1 [] ⟨ng m caps y.2.r,y.2.o⟩).bind λz=>.ok (z.1,⟨y.2.r,z.2.o⟩):=rfl
theorem nI(m:Nat)(caps:List Nat)(im:IM)(g:GM)(c:TM)(e:EM)(s:S):bZ m caps im g c e s=(nO m caps im g c e s).bind λy=>.ok (.lst y.1,y.2):=rfl
theorem wL(m:Nat)(caps:List Nat)(im:IM)(g:GM)(c:TM)(e:EM)(s:S):lM m caps im g c e s=(nO m caps im g c e s).bind λy=>.ok (.ptr y.2.o.length,⟨y.2.r,y.2.o++[.lst y.1]⟩):=rfl
@[simp] theorem Kc (n:Nat) (f:FM) (m:AM) (s:S):aO n f m s=(m s).bind λx=>if aN x.1=true/\x.1.length=n then (match f x.1 [] with
 | .ok (d,_)=>if cT d=true then .ok (d,x.2) else .bad
 | _=>.bad) else .bad:=rfl
@[simp] theorem Jf (n:Nat) (f:FM) (m:AM) (s:S):gn n f m s=(m s).bind λx=>if aN x.1=true/\x.1.length=n then (match f x.1 [] with
 | .ok (d,O1)=>.ok (shD x.2.o.length d,⟨x.2.r,x.2.o++O1.map (shC x.2.o.length)⟩)
 | _=>.bad) else .bad:=rfl
@[simp] theorem P7 (n:Nat) (f:FM) (m:AM) (s:S):jc n f m s=(m s).bind λx=>if aN (bR x.2.o (bR x.2.o x.1))=true/\x.1.length=n then (match f (bR x.2.o (bR x.2.o x.1)) [] with
 | .ok (d,_)=>if oN d=true then .ok (d,x.2) else .bad
 | _=>.bad) else .bad:=rfl
@[simp] theorem Kf (m:EM) (s:S):AK m s=(m s).bind λx=>match uT x.2.o x.1 with
 | some ds=>.ok (.ptr x.2.o.length,⟨x.2.r,x.2.o++[.lst ds]⟩)
 | none=>.bad:=rfl
@[simp] theorem KZ (m:EM) (s:S):jo m s=(m s).bind λx=>match kT x.2.o x.1 with
 | some (k,ds)=>.ok (.lst ds,⟨x.2.r,x.2.o.set k .dead⟩)
 | none=>.bad:=rfl
@[simp] theorem Mj (mo me:EM) (s:S):lX mo me s=(mo s).bind λx=>match kT x.2.o x.1 with
 | some _=>(me x.2).bind λy=>match kT y.2.o x.1 with
  | some (k,ds)=>if ds.length<16777216 then .ok (.non,⟨y.2.r,y.2.o.set k (.lst (ds++[y.1]))⟩) else .bad
  | none=>.bad
 | none=>.bad:=rfl
@[simp] theorem qQ {O:aB} {k:Nat} {ds:List D} (h:O[k]? =some (.lst ds)):lsD O (.ptr k)=some ds:=by unfold lsD;simp only[h]
@[simp] theorem lY {O:aB} {k:Nat} {ds:List D} (h:O[k]? =some (.lst ds)):kT O (.ptr k)=some (k,ds):=by unfold kT;simp only[h]
@[simp] theorem HB (O:aB) (ds:List D):uT O (.lst ds)=some ds:=rfl
@[simp] theorem PM (O:aB) (ds:List D):uT O (.tup ds)=some ds:=rfl
@[simp] theorem PZ {O:aB} {k:Nat} {ds:List D} (h:O[k]? =some (.lst ds)):uT O (.ptr k)=some ds:=by show lsD O (.ptr k)=_;exact qQ h
@[simp] theorem Dl {O:aB} {k:Nat} {ds:List D} (h:O[k]? =some (.lst ds)):itemsOf O (.ptr k)=.ok (ds,some k):=by unfold itemsOf;simp only[h]
@[simp] theorem gz (n k:Nat):shD n (.ptr k)=.ptr (n+k):=by unfold shD;rfl
@[simp] theorem EW:aN []=true:=by unfold aN;rfl
@[simp] theorem fT (d:D) (ds:List D):aN (d::ds)=(cT d&&aN ds):=by conv=>lhs;unfold aN
@[simp] theorem zm (i:Int):cT (.int i)=true:=by unfold cT;rfl
@[simp] theorem Qd (i:Bool):cT (.bl i)=true:=by unfold cT;rfl
@[simp] theorem PQ (i:Str):cT (.str i)=true:=by unfold cT;rfl
@[simp] theorem PH:cT .non=true:=by unfold cT;rfl
@[simp] theorem i6 (ds:List D):cT (.lst ds)=aN ds:=by conv=>lhs;unfold cT
@[simp] theorem PX (ds:List D):cT (.tup ds)=aN ds:=by conv=>lhs;unfold cT
@[simp] theorem ON (ns:List Int):aN (ns.map D.int)=true:=uj ns
@[simp] theorem LC (O:aB) (i:Int):res O (.int i)=.int i:=by unfold res;rfl
@[simp] theorem Rk (O:aB) (i:Bool):res O (.bl i)=.bl i:=by unfold res;rfl
@[simp] theorem QZ (O:aB) (i:Str):res O (.str i)=.str i:=by unfold res;rfl
@[simp] theorem Q5 (O:aB):res O .non=.non:=by unfold res;rfl
@[simp] theorem kP (O:aB) (ds:List D):res O (.lst ds)=.lst (bR O ds):=by conv=>lhs;unfold res
@[simp] theorem K8 (O:aB) (ds:List D):res O (.tup ds)=.tup (bR O ds):=by conv=>lhs;unfold res
@[simp] theorem kx {O:aB} {k:Nat} {ds:List D} (h:O[k]? =some (.lst ds)):res O (.ptr k)=.lst ds:=by conv=>lhs;unfold res;simp only[h]
@[simp] theorem lZ (O:aB):bR O []=[]:=by unfold bR;rfl
@[simp] theorem ip (O:aB) (d:D) (ds:List D):bR O (d::ds)=res O d::bR O ds:=by conv=>lhs;unfold bR
@[simp] theorem jb (O:aB) (ns:List Int):bR O (ns.map D.int)=ns.map D.int:=qx ns
@[simp] theorem Qv (b:Bool):oN (.bl b)=true:=rfl
@[simp] theorem PN (b:Int):oN (.int b)=true:=rfl
@[simp] theorem PK (b:Str):oN (.str b)=true:=rfl
@[simp] theorem QU {O:aB} {k:Nat} {ds:List D} (h:O[k]? =some (.lst ds)) (c:String):oG c O (.ptr k)=.ok (.bl (fU "list" c)):=by
 unfold oG tyD;simp only[h]
@[simp] theorem ou (n:Nat):∀ns:List Int,iY n (ns.map D.int)=ns.map D.int
 | []=>by simp[iY]
 | m::ns=>by simp[iY,shD,ou n ns]
@[simp] theorem qT (n:Nat) (ds:List D):shC n (.lst ds)=.lst (iY n ds):=rfl
theorem pb{n:Nat}{m:SM}{ds:List D}{O:aB}{d:D}(h:∃s,m ⟨ds.map some++Uo (n-ds.length) none,O⟩=.ret d s):∃J,runM n m ds O=.ok (d,J):=by
 obtain⟨s,h⟩:=h
 exact⟨s.o,dI h⟩
end
mutual
theorem J9{O:aB}:∀{d:D},cT d=true->res O d=d
 | .non,_=>by unfold res;rfl
 | .bl _,_=>by unfold res;rfl
 | .int _,_=>by unfold res;rfl
 | .str _,_=>by unfold res;rfl
 | .lst ds,h=>by rw[kP,qi (by simpa using h)]
 | .tup ds,h=>by rw[K8,qi (by simpa using h)]
 | .ptr _,h=>by unfold cT at h;cases h
 | .obj c ns ds,h=>by unfold res;rfl
 | .exn c,h=>by unfold res;rfl
theorem qi{O:aB}:∀{ds:List D},aN ds=true->bR O ds=ds
 | [],_=>lZ O
 | d::ds,h=>by
  rw[fT,VH] at h
  rw[ip,J9 h.1,qi h.2]
end
theorem DP{O:aB}{k:Nat}{ds:List D}(h:O[k]? =some (.lst ds))(hp:aN ds=true)(es:List D):eqB O (.ptr k) (.lst es)=eqB O (.lst ds) (.lst es):=by
 show lu O _ _=lu O _ _
 unfold lu
 simp only[kx h,kP,qi hp]
@[simp] theorem QT {O:aB} {k:Nat} {ds:List D} (h:O[k]? =some (.lst ds)) (hp:aN ds=true) (es:List D):eqD O (.ptr k) (.lst es)=eqD O (.lst ds) (.lst es):=by unfold eqD;rw[DP h hp]
@[simp] theorem Q0 {O:aB} {k:Nat} {ds:List D} (h:O[k]? =some (.lst ds)) (hp:aN ds=true) (es:List D):neD O (.ptr k) (.lst es)=neD O (.lst ds) (.lst es):=by unfold neD;rw[DP h hp]
theorem z5{ok:aB->Prop}{g:GM}{body:SM}(P:S->Prop)(J:∀s,P s->ok s.o):∀(ds:List D),
 (∀d∈ds,∀s,P s->∃s1 s2,g d s=.ok s1/\(body s1=.next s2\/body s1=.cnt s2)/\P s2)->∀s,P s->∃s',cR ok g body ds s=.next s'/\P s'
 | [],_,s,h=>⟨s,by rw[cR,if_pos (J _ h)],h⟩
 | d::ds,step,s,h=>by
  obtain⟨s1,s2,e1,e2,h2⟩:=step d Ug s h
  obtain⟨s',e3,U⟩:=z5 P J ds (λd hd=>step d (Ub _ hd)) s2 h2
  refine⟨s', ?_,U⟩
  rw[cR,if_pos (J _ h),e1,kZ]
  rcases e2 with e2 | e2 <;> (rw[e2];exact e3)
theorem eZ{ok:aB->Prop}{g:GM}{body:SM}(P:List D->S->Prop)(U:∀pre s,P pre s->ok s.o):∀(ds pre:List D),
 (∀J d rest,pre++ds=J++d::rest->∀s,P J s->∃s1 s2,g d s=.ok s1/\(body s1=.next s2\/body s1=.cnt s2)/\P (J++[d]) s2)->∀s,P pre s->∃s',cR ok g body ds s=.next s'/\P (pre++ds) s'
 | [],pre,_,s,h=>⟨s,by rw[cR,if_pos (U _ _ h)],by simpa using h⟩
 | d::ds,pre,step,s,h=>by
  obtain⟨s1,s2,e1,e2,h2⟩:=step pre d ds rfl s h
  obtain⟨s',e3,Y⟩:=eZ P U ds (pre++[d]) (λJ d' rest e=>step J d' rest (by simpa using e)) s2 h2
  refine⟨s', ?_,by simpa using Y⟩
  rw[cR,if_pos (U _ _ h),e1,kZ]
  rcases e2 with e2 | e2 <;> (rw[e2];exact e3)
theorem dU{im:IM}{g:GM}{body:SM}{s s1:S}{ds:List D}{k:Option Nat}(h:im s=.ok ((ds,k),s1)):fM im g body s=cR (okC ds k) g body ds s1:=by rw[K3,h,kZ]
theorem dY{m:AM}{s s1:S}{n:Nat}(h:m s=.ok ([.int (n:Int)],s1))(hn:n<=1000000):dM m s=.ok ((dP 0 (n:Int),none),s1):=by
 show (m s).bind _=_
 rw[h,aj]
 dsimp only
 rw[if_pos (by constructor <;> omega)]
section
variable {O : aB}
@[simp] theorem RC (d:D) (ds:List D):ixD O (.tup (d::ds)) (.int 0)=.ok d:=Ec (by rw[pG (by decide) (by simp)];rfl)
@[simp] theorem RD (d e:D) (ds:List D):ixD O (.tup (d::e::ds)) (.int 1)=.ok e:=Ec (by rw[pG (by decide) (by simp;omega)];rfl)
@[simp] theorem RE (d:D) (ds:List D):ixD O (.lst (d::ds)) (.int 0)=.ok d:=o9 (by rw[pG (by decide) (by simp)];rfl)
@[simp] theorem RF (d e:D) (ds:List D):ixD O (.lst (d::e::ds)) (.int 1)=.ok e:=o9 (by rw[pG (by decide) (by simp;omega)];rfl)
theorem uD(ns:List Int):SeqAt.shaped (.tuple (ns.map PyData.int))=true:=by
 simp[SeqAt.shaped,PyData.canLay0,qD,PyData.depth,r9]
theorem zM(ns ms:List Int):eqB O (.tup (ns.map D.int)) (.tup (ms.map D.int))=some (decide (ns=ms)):=by
 show lu O _ _=_
 unfold lu
 simp only[res,qx,toPy,sM,VO]
 rw[if_pos ⟨uD ns,uD ms⟩]
 simp only[PyData.eqv,vU]
@[simp] theorem Rm (a b c d:Int):eqD O (.tup [.int a,.int b]) (.tup [.int c,.int d])=.ok (.bl (decide (a=c/\b=d))):=by
 have:=zM (O:=O) [a,b] [c,d]
 unfold eqD
 rw[show eqB O (.tup [.int a,.int b]) (.tup [.int c,.int d])=_ from this]
 simp
@[simp] theorem Ru (a b c d:Int):neD O (.tup [.int a,.int b]) (.tup [.int c,.int d])=.ok (.bl (!decide (a=c/\b=d))):=by
 have:=zM (O:=O) [a,b] [c,d]
 unfold neD
 rw[show eqB O (.tup [.int a,.int b]) (.tup [.int c,.int d])=_ from this]
 simp
end
theorem Sz.sub{m n:Nat}{i j:Int}(h:Sz m i)(h':Sz n j):Sz (max m n+1) (i-j):=by
 rw[Int.sub_eq_add_neg]
 refine Sz.add h ?_
 unfold Sz at *
 rw[Xi];exact h'
theorem Sz.neg{m:Nat}{i:Int}(h:Sz m i):Sz m (-i):=by
 unfold Sz at *
 rw[Xi];exact h
def bq:Nat->(Nat->Int)->Int
 | 0,_=>0
 | n+1,f=>bq n f+f n
theorem cK{n:Nat}{f g:Nat->Int}(h:∀i,i<n->f i=g i):bq n f=bq n g:=by
 induction n with
 | zero=>rfl
 | succ n J=>rw[bq,bq,J λi hi=>h i (by omega),h n (by omega)]
theorem fC{n:Nat}{f:Nat->Int}(h:∀i,i<n->f i=0):bq n f=0:=by
 induction n with
 | zero=>rfl
 | succ n J=>rw[bq,J λi hi=>h i (by omega),h n (by omega)];rfl
theorem sA(n:Nat)(f g:Nat->Int):bq n (λi=>f i+g i)=bq n f+bq n g:=by
 induction n with
 | zero=>rfl
 | succ n J=>simp only[bq,J];omega
theorem eJ(n:Nat)(c:Int)(f:Nat->Int):bq n (λi=>c*f i)=c*bq n f:=by
 induction n with
 | zero=>simp[bq]
 | succ n J=>simp only[bq,J,Int.mul_add]
theorem lU{n k:Nat}(hk:k<n){f:Nat->Int}(h:∀i,i<n->i≠k->f i=0):bq n f=f k:=by
 induction n with
 | zero=>omega
 | succ n J=>
  rw[bq]
  by_cases e:k=n
  ·subst e
   rw[fC λi hi=>h i (by omega) (by omega)]
   omega
  ·rw[J (by omega) λi hi=>h i (by omega),h n (by omega) (by omega)]
   omega
def nth(r:List Int)(i:Nat):Int:=r.getD i 0
def dS(n:Nat)(r:List Int)(x:Nat->Int):Int:=bq n λi=>nth r i*x i
def fq(n:Nat)(R:List (List Int))(x:Nat->Int):Prop:=∀r∈R,dS n r x=0
def low(ns:List Int):List Int:=if cZ ns=0 then ns else ns.map (· / (cZ ns:Int))
theorem low_length(ns:List Int):(low ns).length=ns.length:=by unfold low;split <;> simp
theorem nA{f:Int->Int}(h0:f 0=0)(r:List Int)(i:Nat):nth (r.map f) i=f (nth r i):=by
 unfold nth
 rw[Fm,Fm,Us]
 cases r[i]? with
 | none=>exact h0.symm
 | some a=>rfl
theorem uJ{r:List Int}{i:Nat}(h:i<r.length):nth r i∈r:=by
 unfold nth
 rw[Fm,T7 h]
 exact UH h
theorem kr{r:List Int}{i:Nat}(h:r.length<=i):nth r i=0:=by
 unfold nth
 rw[Fm,Wl h]
 rfl
theorem pK(r:List Int)(i:Nat):((cZ r:Nat):Int) ∣ nth r i:=by
 by_cases h:i<r.length
 ·exact Ci (uJ h)
 ·rw[kr (by omega)];exact Int.dvd_zero _
def xH(r:List Int):Int:=if cZ r=0 then 1 else (cZ r:Int)
theorem qj(r:List Int):0<xH r:=by unfold xH;split <;> omega
theorem qW(r:List Int)(i:Nat):nth r i=xH r*nth (low r) i:=by
 unfold low xH
 split
 ·omega
 ·rw[nA (by simp),Int.mul_ediv_cancel' (pK r i)]
theorem Bg{r:List Int}(h:cZ r=0)(i:Nat):nth r i=0:=by
 have:=pK r i
 rw[h] at this
 simpa using this
theorem DX{r:List Int}{i:Nat}(h:nth r i≠0):cZ (low r)=1:=by
 have h0:cZ r≠0:=λe=>h (Bg e i)
 unfold low
 rw[if_neg h0]
 exact Iy (Nat.pos_of_ne_zero h0)
def mm(one:List Int)(v:Int)(other:List Int)(w:Int):List Int:=UO (λa b=>a*w-b*v) one other
def dq(one:List Int)(v:Int)(other:List Int)(w:Int):List Int:=low (mm one v other w)
theorem qz{one other:List Int}(h:one.length=other.length)(v w:Int):(mm one v other w).length=one.length:=by
 unfold mm;rw[Vu,<- h,Nat.min_self]
theorem BN{one other:List Int}(h:one.length=other.length)(v w:Int)(i:Nat):nth (mm one v other w) i=nth one i*w-nth other i*v:=by
 by_cases hi:i<one.length
 ·unfold mm nth
  simp only[Fm,Xg,T7 hi,T7 (h▸hi:i<other.length)]
  rfl
 ·rw[kr (by rw[qz h];omega),kr (r:=one) (by omega),kr (r:=other) (by omega)]
  simp
theorem nX{one other:List Int}(h:one.length=other.length)(v w:Int):(dq one v other w).length=one.length:=by
 unfold dq;rw[low_length,qz h]
theorem rS{one other:List Int}(h:one.length=other.length)(v w:Int):∃g:Int,0<g/\∀i,g*nth (dq one v other w) i=nth one i*w-nth other i*v:=by
 refine⟨xH (mm one v other w),qj _,λi=> ?_⟩
 unfold dq
 rw[<- qW,BN h]
theorem CB{n:Nat}{a b c:List Int}{g u v:Int}(h:∀i,g*nth c i=u*nth a i+v*nth b i)(x:Nat->Int):g*dS n c x=u*dS n a x+v*dS n b x:=by
 unfold dS
 rw[<- eJ,<- eJ,<- eJ,<- sA]
 refine cK λi _=> ?_
 have:=h i
 grind
theorem su{n:Nat}{a c:List Int}{g:Int}(h:∀i,nth a i=g*nth c i)(x:Nat->Int):dS n a x=g*dS n c x:=by
 unfold dS
 rw[<- eJ]
 refine cK λi _=> ?_
 rw[h i,Wf]
theorem wy{n:Nat}{one other:List Int}(h:one.length=other.length)(v w:Int)(x:Nat->Int):∃g:Int,0<g/\g*dS n (dq one v other w) x=w*dS n one x-v*dS n other x:=by
 obtain⟨g,J,e⟩:=rS h v w
 refine⟨g,J, ?_⟩
 have:=CB (n:=n) (c:=dq one v other w) (a:=one) (b:=other) (g:=g) (u:=w) (v:= -v) (λi=>by rw[e i];grind) x
 rw[this];grind
theorem vY(n:Nat)(r:List Int)(x:Nat->Int):dS n (low r) x=0↔dS n r x=0:=by
 rw[su (λi=>qW r i) x]
 have:=qj r
 constructor
 ·intro h;rw[h];simp
 ·intro h
  rcases UQ.mp h with z | z
  ·omega
  ·exact z
def dv:List Int->Option Nat
 | []=>none
 | a::r=>if a≠0 then some 0 else (dv r).map (· + 1)
theorem pY:∀{l:List Int},dv l=none->∀a∈l,a=0
 | [],_,_,h=>by simp at h
 | b::r,e,a,h=>by
  unfold dv at e
  split at e
  ·cases e
  ·rename_i hb
   rcases Um.mp h with rfl | h
   ·simpa using hb
   ·exact pY (by simpa using e) a h
theorem gI:∀{l:List Int} {k:Nat},dv l=some k->k<l.length/\nth l k≠0/\∀i,i<k->nth l i=0
 | [],_,e=>by cases e
 | b::r,k,e=>by
  unfold dv at e
  split at e
  ·rename_i hb
   cases e
   exact⟨by simp,hb,λi hi=>by omega⟩
  ·rename_i hb
   cases e2:dv r with
   | none=>rw[e2] at e;cases e
   | some j=>
    rw[e2] at e
    cases e
    obtain⟨h1,h2,J⟩:=gI e2
    refine⟨by simp;omega,by simpa[nth] using h2,λi hi=> ?_⟩
    cases i with
    | zero=>simpa[nth] using hb
    | succ i=>simpa[nth] using J i (Nat.lt_of_succ_lt_succ hi)
def gf(row:List Int)(at_:Nat):List Int:=if nth row at_>0 then row else row.map (- ·)
def eK(lead:List Int)(at_:Nat)(row:List Int):List Int:=if nth row at_=0 then row else dq row (nth row at_) lead (nth lead at_)
def di(s:List (List Int)×List (List Int))(at_:Nat):List (List Int)×List (List Int):=
 match dv (s.1.map (nth · at_)) with
 | none=>s
 | some k=>((s.1.eraseIdx k).map (eK (gf (s.1.getD k []) at_) at_),s.2.map (eK (gf (s.1.getD k []) at_) at_)++[gf (s.1.getD k []) at_])
def bT(rows:List (List Int))(n:Nat):List (List Int):=((T9 n).foldl di (rows.map low,[])).2
structure Good(n:Nat)(p:Nat×List Int):Prop where
 len:p.2.length=n
 lt:p.1<n
 pos:0<nth p.2 p.1
 zero:∀i,i<p.1->nth p.2 i=0
 one:cZ p.2=1
structure Pl(n:Nat)(P:List (Nat×List Int)):Prop where
 good:∀p∈P,Good n p
 pw:P.Pairwise λp q=>p.1<q.1/\nth p.2 q.1=0
def tV(r:List Int):Prop:=∀i,nth r i≠0->cZ r=1
theorem sJ(r:List Int):tV (low r):=λi h=>DX (i:=i) λz=>by
 have:=qW r i
 rw[z] at this
 rcases UQ.mp this.symm with q | q
 ·have:=qj r;omega
 ·exact h q
theorem J2(r:List Int):cZ (r.map (- ·))=cZ r:=by
 unfold cZ
 have:∀(l:List Int) (c:Nat),(l.map (- ·)).foldl (λc n=>Vw c n.natAbs) c=l.foldl (λc n=>Vw c n.natAbs) c:=by
  intro l
  induction l with
  | nil=>intro c;rfl
  | cons a l J=>intro c;simp only[Uk,Vn,Xi];exact J _
 exact this r 0
theorem vy(row:List Int)(a:Nat):(gf row a).length=row.length:=by unfold gf;split <;> simp
theorem B1(row:List Int)(a:Nat):∃g:Int,(g=1\/g= -1)/\∀i,nth (gf row a) i=g*nth row i:=by
 unfold gf
 split
 ·exact⟨1,.inl rfl,λi=>by omega⟩
 ·exact⟨-1,.inr rfl,λi=>by rw[nA (by simp)];omega⟩
theorem Gr{row:List Int}{a:Nat}(h:tV row):tV (gf row a):=by
 unfold gf
 split
 ·exact h
 ·intro i hi
  rw[J2]
  refine h i λz=>hi ?_
  rw[nA (by simp),z];rfl
theorem J5{row:List Int}{a:Nat}(h:nth row a≠0):0<nth (gf row a) a:=by
 unfold gf
 split
 ·assumption
 ·rw[nA (by simp)];omega
theorem MN(n:Nat)(row:List Int)(a:Nat)(x:Nat->Int):dS n (gf row a) x=0↔dS n row x=0:=by
 obtain⟨g,J,e⟩:=B1 row a
 have:=su (n:=n) (a:=gf row a) (c:=row) e x
 rw[this]
 rcases J with rfl | rfl <;> omega
section
variable {lead row : List Int} {a : Nat}
theorem vM(h:row.length=lead.length):(eK lead a row).length=row.length:=by
 unfold eK;split
 ·rfl
 ·exact nX h _ _
theorem v7(J:0<nth lead a)(h:row.length=lead.length):∃g u:Int,0<g/\0<u/\∃v:Int,(nth row a=0->v=0)/\∀i,g*nth (eK lead a row) i=u*nth row i-v*nth lead i:=by
 unfold eK
 split
 ·exact⟨1,1,by omega,by omega,0,λ_=>rfl,λi=>by omega⟩
 ·rename_i hz
  obtain⟨g,U,e⟩:=rS h (nth row a) (nth lead a)
  exact⟨g,nth lead a,U,J,nth row a,λz=>absurd z hz,λi=>by rw[e i];grind⟩
theorem DI(J:0<nth lead a)(h:row.length=lead.length):nth (eK lead a row) a=0:=by
 unfold eK
 split
 ·assumption
 ·obtain⟨g,U,e⟩:=rS h (nth row a) (nth lead a)
  have:=e a
  have:g*nth (dq row (nth row a) lead (nth lead a)) a=0:=by rw[this];grind
  rcases UQ.mp this with z | z
  ·omega
  ·exact z
theorem za(h:tV row):tV (eK lead a row):=by
 unfold eK
 split
 ·exact h
 ·exact sJ _
theorem t6(J:0<nth lead a)(h:row.length=lead.length){i:Nat}(h1:nth row i=0)(h2:nth lead i=0):nth (eK lead a row) i=0:=by
 obtain⟨g,u,U,hu,v,_,e⟩:=v7 J h
 have:=e i
 rw[h1,h2] at this
 have:g*nth (eK lead a row) i=0:=by rw[this];grind
 rcases UQ.mp this with z | z
 ·omega
 ·exact z
theorem J3(J:0<nth lead a)(h:row.length=lead.length){i:Nat}(h1:0<nth row i)(h2:nth lead i=0):0<nth (eK lead a row) i:=by
 obtain⟨g,u,U,hu,v,_,e⟩:=v7 J h
 have e':=e i
 rw[h2] at e'
 have:0<g*nth (eK lead a row) i:=by
  rw[e']
  have:=Vh hu h1
  omega
 by_cases hn:nth (eK lead a row) i<=0
 ·have:=Wa (show 0<=g by omega) hn
  omega
 ·omega
theorem u5(n:Nat)(J:0<nth lead a)(h:row.length=lead.length){x:Nat->Int}(hx:dS n lead x=0):dS n (eK lead a row) x=0↔dS n row x=0:=by
 obtain⟨g,u,U,hu,v,_,e⟩:=v7 J h
 have:=CB (n:=n) (c:=eK lead a row) (a:=row) (b:=lead) (g:=g) (u:=u) (v:= -v) (λi=>by rw[e i];grind) x
 rw[hx] at this
 constructor
 ·intro z
  rw[z] at this
  have:u*dS n row x=0:=by omega
  rcases UQ.mp this with q | q
  ·omega
  ·exact q
 ·intro z
  rw[z] at this
  have:g*dS n (eK lead a row) x=0:=by omega
  rcases UQ.mp this with q | q
  ·omega
  ·exact q
end
structure PSt(n a:Nat)(left:List (List Int))(P:List (Nat×List Int)):Prop where
 ll:∀r∈left,r.length=n
 lz:∀r∈left,∀i,i<a->nth r i=0
 lw:∀r∈left,tV r
 pl:Pl n P
 pa:∀p∈P,p.1<a
theorem qC(left:List (List Int))(a k:Nat):nth (left.map (nth · a)) k=nth (left.getD k []) a:=by
 unfold nth
 simp only[Fm,Us]
 cases left[k]? with
 | none=>rfl
 | some r=>rfl
theorem getD_mem{left:List (List Int)}{k:Nat}(h:k<left.length):left.getD k []∈left:=by
 rw[Fm,T7 h]
 exact UH h
theorem rL:∀{l:List (List Int)} {k:Nat} (h:k<l.length),l.Perm (l[k]::l.eraseIdx k)
 | [],k,h=>by simp at h
 | a::l,0,h=>by simp
 | a::l,k+1,h=>by
  have:=rL (l:=l) (k:=k) (by simpa using h)
  simp only[List.getElem_cons_succ,W7]
  exact(this.cons a).trans (X3 _ _ _)
theorem Lm{n a:Nat}(ha:a<n){left:List (List Int)}{P:List (Nat×List Int)}(h:PSt n a left P):
 ∃J P',di (left,P.map (·.2)) a=(J,P'.map (·.2))/\PSt n (a+1) J P'/\J.length+P'.length=left.length+P.length/\∀x,fq n (P'.map (·.2)++J) x↔fq n (P.map (·.2)++left) x:=by
 unfold di
 dsimp only
 split
 ·rename_i e
  refine⟨left,P,rfl,⟨h.ll,λr hr i hi=> ?_,h.lw,h.pl,λp hp=>V8 (h.pa p hp)⟩,rfl,λx=>XD⟩
  by_cases an:i=a
  ·subst an
   exact pY e _ (T4.mpr ⟨r,hr,rfl⟩)
  ·exact h.lz r hr i (by omega)
 ·rename_i k e
  obtain⟨k1,k2,_⟩:=gI e
  rw[T3] at k1
  rw[qC] at k2
  have hm:left.getD k []∈left:=getD_mem k1
  have Y:left.Perm (left.getD k []::left.eraseIdx k):=by
   rw[Fm,T7 k1]
   exact rL k1
  generalize left.getD k []=row at *
  generalize ab:gf row a=lead at *
  have ll:lead.length=n:=by rw[<- ab,vy];exact h.ll row hm
  have lp:0<nth lead a:=by rw[<- ab];exact J5 k2
  have lz:∀i,i<a->nth lead i=0:=λi hi=>by
   obtain⟨g,_,e⟩:=B1 row a
   rw[<- ab,e,h.lz row hm i hi];omega
  have lw:tV lead:=by rw[<- ab];exact Gr (h.lw row hm)
  have sub:∀r∈left.eraseIdx k,r∈left:=λr hr=>UP hr
  refine⟨(left.eraseIdx k).map (eK lead a),P.map (λp=>(p.1,eK lead a p.2))++[(a,lead)], ?_,⟨?_, ?_, ?_,⟨?_, ?_⟩, ?_⟩, ?_, ?_⟩
  ·simp[V9]
  ·intro r hr
   obtain⟨q,hq,rfl⟩:=T4.mp hr
   rw[vM (by rw[ll,h.ll q (sub q hq)]),h.ll q (sub q hq)]
  ·intro r hr i hi
   obtain⟨q,hq,rfl⟩:=T4.mp hr
   have U:q.length=lead.length:=by rw[ll,h.ll q (sub q hq)]
   by_cases an:i=a
   ·subst an;exact DI lp U
   ·exact t6 lp U (h.lz q (sub q hq) i (by omega)) (lz i (by omega))
  ·intro r hr
   obtain⟨q,hq,rfl⟩:=T4.mp hr
   exact za (h.lw q (sub q hq))
  ·intro p hp
   rcases Uj.mp hp with hp | hp
   ·obtain⟨q,hq,rfl⟩:=T4.mp hp
    have g:=h.pl.good q hq
    have U:q.2.length=lead.length:=by rw[ll,g.len]
    have pp:=J3 lp U g.pos (lz q.1 (h.pa q hq))
    exact⟨by rw[vM U];exact g.len,g.lt,pp,λi hi=>t6 lp U (g.zero i hi) (lz i (Nat.lt_trans hi (h.pa q hq))),za (λi _=>g.one) q.1 (by omega)⟩
   ·rw[Ul.mp hp]
    exact⟨ll,ha,lp,lz,lw a (by omega)⟩
  ·rw[List.pairwise_append]
   refine⟨?_,by simp,λp hp q hq=> ?_⟩
   ·rw[VD]
    refine Vq (λ{p q} hp hq hpq=> ?_) h.pl.pw
    refine⟨hpq.1, ?_⟩
    have g:=h.pl.good p hp
    exact t6 lp (by rw[ll,g.len]) hpq.2 (lz q.1 (h.pa q hq))
   ·obtain⟨p',hp',rfl⟩:=T4.mp hp
    rw[Ul.mp hq]
    exact⟨h.pa p' hp',DI lp (by rw[ll,(h.pl.good p' hp').len])⟩
  ·intro p hp
   rcases Uj.mp hp with hp | hp
   ·obtain⟨q,hq,rfl⟩:=T4.mp hp
    exact V8 (h.pa q hq)
   ·rw[Ul.mp hp];exact Wg a
  ·have:=Y.length_eq
   simp only[T3,Uv,Uq,Xc] at *
   omega
  ·intro x
   have am:dS n lead x=0↔dS n row x=0:=by rw[<- ab];exact MN n row a x
   constructor
   ·intro hx r hr
    have h0:dS n lead x=0:=hx lead (by simp)
    rcases Uj.mp hr with hr | hr
    ·obtain⟨p,hp,rfl⟩:=T4.mp hr
     exact(u5 n lp (by rw[ll,(h.pl.good p hp).len]) h0).mp (hx _ (Va _ (T4.mpr ⟨(p.1,eK lead a p.2),by simp;exact .inl ⟨p.1,p.2,hp,rfl,rfl⟩,rfl⟩)))
    ·rcases Um.mp (Y.mem_iff.mp hr) with rfl | hr
     ·exact am.mp h0
     ·exact(u5 n lp (by rw[ll,h.ll r (sub r hr)]) h0).mp (hx _ (UE _ (T4.mpr ⟨r,hr,rfl⟩)))
   ·intro hx r hr
    have h0:dS n lead x=0:=am.mpr (hx row (UE _ hm))
    rcases Uj.mp hr with hr | hr
    ·obtain⟨q,hq,rfl⟩:=T4.mp hr
     rcases Uj.mp hq with hq | hq
     ·obtain⟨p,hp,rfl⟩:=T4.mp hq
      exact(u5 n lp (by rw[ll,(h.pl.good p hp).len]) h0).mpr (hx _ (Va _ (T4.mpr ⟨p,hp,rfl⟩)))
     ·rw[Ul.mp hq];exact h0
    ·obtain⟨q,hq,rfl⟩:=T4.mp hr
     exact(u5 n lp (by rw[ll,h.ll q (sub q hq)]) h0).mpr (hx _ (UE _ (sub q hq)))
theorem vS{n:Nat}{left:List (List Int)}(Y:∀r∈left,r.length=n)(hw:∀r∈left,tV r):∀a,a<=n->
 ∃J U,(T9 a).foldl di (left,[])=(J,U.map (·.2))/\PSt n a J U/\J.length+U.length=left.length/\∀x,fq n (U.map (·.2)++J) x↔fq n left x
 | 0,_=>⟨left,[],rfl,⟨Y,λ_ _ i hi=>by omega,hw,⟨by simp,by simp⟩,by simp⟩,by simp,λx=>by simp⟩
 | a+1,ha=>by
  obtain⟨l1,P1,e1,s1,c1,n1⟩:=vS Y hw a (by omega)
  obtain⟨l2,P2,e2,s2,c2,n2⟩:=Lm (by omega) s1
  refine⟨l2,P2, ?_,s2,by omega,λx=>(n2 x).trans (n1 x)⟩
  rw[Ws,Wb,e1]
  exact e2
theorem Hd{n:Nat}{r:List Int}(h:∀i,i<n->nth r i=0)(x:Nat->Int):dS n r x=0:=fC λi hi=>by rw[h i hi];omega
theorem kb{n:Nat}{rows:List (List Int)}(J:∀r∈rows,r.length=n):∃P,bT rows n=P.map (·.2)/\Pl n P/\P.length<=rows.length/\∀x,fq n (bT rows n) x↔fq n rows x:=by
 obtain⟨l,P,e,s,c,U⟩:=vS (n:=n) (left:=rows.map low) (λr hr=>by
  obtain⟨q,hq,rfl⟩:=T4.mp hr
  rw[low_length];exact J q hq) (λr hr=>by
  obtain⟨q,hq,rfl⟩:=T4.mp hr
  exact sJ q) n (Ud n)
 have e':bT rows n=P.map (·.2):=by unfold bT;rw[e]
 refine⟨P,e',s.pl,by rw[T3] at c;omega,λx=> ?_⟩
 rw[e']
 have Y:fq n (P.map (·.2)++l) x↔fq n (P.map (·.2)) x:=by
  constructor
  ·exact λh r hr=>h r (Va _ hr)
  ·intro h r hr
   rcases Uj.mp hr with hr | hr
   ·exact h r hr
   ·exact Hd (s.lz r hr) x
 have n2:fq n (rows.map low) x↔fq n rows x:=by
  constructor
  ·exact λh r hr=>(vY n r x).mp (h _ (T4.mpr ⟨r,hr,rfl⟩))
  ·intro h r hr
   obtain⟨q,hq,rfl⟩:=T4.mp hr
   exact(vY n q x).mpr (h q hq)
 exact Y.symm.trans ((U x).trans n2)
def cq(n:Nat)(f g:Nat->Int):Int:=bq n λi=>f i*g i
theorem bS(n:Nat)(f g:Nat->Int):cq n f g=cq n g f:=cK λi _=>VY _ _
theorem ik(n:Nat)(r:List Int)(x:Nat->Int):dS n r x=cq n (nth r) x:=rfl
theorem BL{n:Nat}{a b c:Nat->Int}{g u v:Int}(h:∀i,i<n->g*c i=u*a i+v*b i)(x:Nat->Int):g*cq n c x=u*cq n a x+v*cq n b x:=by
 unfold cq
 rw[<- eJ,<- eJ,<- eJ,<- sA]
 refine cK λi hi=> ?_
 have:=h i hi
 grind
theorem zI{n:Nat}{a b:Nat->Int}{u v:Int}(x:Nat->Int):cq n x (λi=>u*a i+v*b i)=u*cq n x a+v*cq n x b:=by
 rw[bS n x a,bS n x b,bS,<- BL (g:=1) (c:=λi=>u*a i+v*b i) (λi _=>by omega) x]
 omega
theorem xC{n:Nat}{a b:Nat->Int}(h:∀i,i<n->a i=b i)(x:Nat->Int):cq n a x=cq n b x:=cK λi hi=>by rw[h i hi]
def iH(T:List Int)(R:List (List Int))(i:Nat):Int:=bq R.length λj=>nth T j*nth (R.getD j []) i
theorem qm(m n:Nat)(f:Nat->Nat->Int):bq m (λi=>bq n λj=>f i j)=bq n λj=>bq m λi=>f i j:=by
 induction m with
 | zero=>rw[fC (n:=n) (f:=λj=>bq 0 λi=>f i j) λ_ _=>rfl];rfl
 | succ m J=>simp only[bq];rw[sA,J]
theorem J6(n:Nat)(T:List Int)(R:List (List Int))(x:Nat->Int):cq n (iH T R) x=bq R.length λj=>nth T j*dS n (R.getD j []) x:=by
 unfold cq iH
 have:∀i,(bq R.length λj=>nth T j*nth (R.getD j []) i)*x i=bq R.length λj=>nth T j*(nth (R.getD j []) i*x i):=λi=>by
  rw[VY,<- eJ]
  refine cK λj _=>by grind
 rw[cK λi _=>this i,qm]
 refine cK λj _=> ?_
 unfold dS
 rw[<- eJ]
theorem sP{n:Nat}{T:List Int}{R:List (List Int)}{x:Nat->Int}(h:fq n R x):cq n (iH T R) x=0:=by
 rw[J6]
 refine fC λj J=> ?_
 rw[h _ (getD_mem J)]
 omega
def mI(n:Nat)(R:List (List Int))(x:Nat->Int):Prop:=∃k:Int,k≠0/\∃T:List Int,T.length=R.length/\∀i,i<n->k*x i=iH T R i
theorem mI.dot{n:Nat}{R:List (List Int)}{x y:Nat->Int}(h:mI n R x)(hy:fq n R y):cq n x y=0:=by
 obtain⟨k,hk,T,_,e⟩:=h
 have h1:k*cq n x y=1*cq n (iH T R) y+0*cq n x y:=BL (g:=k) (c:=x) (a:=iH T R) (b:=x) (u:=1) (v:=0) (λi hi=>by rw[e i hi];omega) y
 rw[sP hy] at h1
 have:k*cq n x y=0:=by omega
 rcases UQ.mp this with z | z
 ·exact absurd z hk
 ·exact z
theorem xZ{T:List Int}{R:List (List Int)}(J:T.length=R.length)(c:Int)(r:List Int)(i:Nat):iH (T++[c]) (R++[r]) i=iH T R i+c*nth r i:=by
 unfold iH
 rw[Uv,UM,bq]
 congr 1
 ·refine cK λj U=> ?_
  simp only[nth,Fm]
  rw[Ut (by omega),Ut U]
 ·simp only[nth,Fm]
  rw[Ui (by omega),Ui (by omega),J]
  simp
def fb(n a:Nat):List Int:=(Uo n 0).set a 1
theorem ef{n a:Nat}(ha:a<n)(i:Nat):nth (fb n a) i=if i=a then 1 else 0:=by
 unfold fb nth
 rw[Fm,List.getElem?_set]
 by_cases h:a=i
 ·subst h;simp[ha]
 ·rw[if_neg h,if_neg (λz=>h z.symm)]
  rw[US]
  split <;> rfl
def cS(n:Nat):List (List Int):=(T9 n).map (fb n)
def ay(a b:List Int):Int:=(UO (· * ·) a b).sum
def eM(lists:List (List Int))(row:List Int):List (List Int):=
 match dv (lists.map (ay row)) with
 | none=>lists
 | some k=>(lists.eraseIdx k).map λone=>dq one (ay row one) (lists.getD k []) (ay row (lists.getD k []))
def mG(rows:List (List Int))(n:Nat):List (List Int):=rows.foldl eM (cS n)
def br(rows:List (List Int))(n:Nat):List (List Int):=bT (mG rows n) n
theorem BD:∀(a b:List Int),ay a b=bq b.length λi=>nth a i*nth b i
 | _,[]=>by unfold ay;simp[bq]
 | [],b::r=>by
  unfold ay
  rw[fC λi _=>by unfold nth;simp]
  simp
 | a::l,b::r=>by
  have U:=BD l r
  unfold ay at *
  rw[List.zipWith_cons_cons,U9,U,Uq]
  have:∀(n:Nat) (f:Nat->Int),bq (n+1) f=f 0+bq n λi=>f (i+1):=by
   intro n f
   induction n with
   | zero=>simp[bq]
   | succ n J=>rw[bq,J,bq];omega
  rw[this]
  congr 1
theorem iw{n:Nat}{a b:List Int}(hb:b.length=n):ay a b=cq n (nth a) (nth b):=by rw[BD,hb];rfl
theorem Gm{n:Nat}{a b:List Int}(ha:a.length=n)(hb:b.length=n):ay a b=ay b a:=by rw[iw hb,iw ha,bS]
structure SSt(n:Nat)(R lists:List (List Int)):Prop where
 len:∀l∈lists,l.length=n
 nul:∀r∈R,∀l∈lists,cq n (nth r) (nth l)=0
 spn:∀x,fq n lists x->mI n R x
theorem Jk(n:Nat):SSt n [] (cS n):=by
 refine⟨λl J=> ?_,λr hr=>by simp at hr,λx hx=>⟨1,by decide,[],rfl,λi hi=> ?_⟩⟩
 ·obtain⟨a,_,rfl⟩:=T4.mp J
  unfold fb;simp
 ·have:=hx (fb n i) (T4.mpr ⟨i,UD.mpr hi,rfl⟩)
  unfold dS at this
  rw[lU hi (λj _ U=>by rw[ef hi,if_neg U];omega),ef hi,if_pos rfl] at this
  rw[show iH [] [] i=0 from rfl]
  omega
theorem CH{n:Nat}{R lists:List (List Int)}{row:List Int}(hr:row.length=n)(s:SSt n R lists):SSt n (R++[row]) (eM lists row):=by
 unfold eM
 split
 ·rename_i e
  have z:∀l∈lists,ay row l=0:=λl J=>pY e _ (T4.mpr ⟨l,J,rfl⟩)
  refine⟨s.len,λr Y l J=> ?_,λx hx=> ?_⟩
  ·rcases Uj.mp Y with q | q
   ·exact s.nul r q l J
   ·rw[Ul.mp q,<- iw (s.len l J)];exact z l J
  ·obtain⟨k,hk,T,hT,e⟩:=s.spn x hx
   exact⟨k,hk,T++[0],by simp[hT],λi hi=>by rw[xZ hT,e i hi];omega⟩
 ·rename_i k e
  obtain⟨k1,k2,_⟩:=gI e
  rw[T3] at k1
  have hm:=getD_mem k1
  have ab:lists.Perm (lists.getD k []::lists.eraseIdx k):=by
   rw[Fm,T7 k1]
   exact rL k1
  have hv:nth (lists.map (ay row)) k=ay row (lists.getD k []):=by
   unfold nth
   simp only[Fm,Us,T7 k1]
   rfl
  rw[hv] at k2
  generalize lists.getD k []=base at *
  have U:=s.len base hm
  have sub:∀l∈lists.eraseIdx k,l∈lists:=λl J=>UP J
  refine⟨λl J=> ?_,λr Y l J=> ?_,λx hx=> ?_⟩
  ·obtain⟨q,hq,rfl⟩:=T4.mp J
   rw[nX (by rw[U,s.len q (sub q hq)]),s.len q (sub q hq)]
  ·obtain⟨q,hq,rfl⟩:=T4.mp J
   have an:=s.len q (sub q hq)
   obtain⟨g,hg,e⟩:=wy (n:=n) (one:=q) (other:=base) (by rw[U,an]) (ay row q) (ay row base) (nth r)
   rw[bS]
   simp only[ik] at e
   rw[bS n (nth q),bS n (nth base)] at e
   have z:g*cq n (nth (dq q (ay row q) base (ay row base))) (nth r)=0:=by
    rcases Uj.mp Y with q' | q'
    ·rw[e,s.nul r q' q (sub q hq),s.nul r q' base hm];omega
    ·rw[Ul.mp q'] at e ⊢
     rw[e,<- iw an,<- iw U]
     grind
   rcases UQ.mp z with z | z
   ·omega
   ·exact z
  ·have hc:∀l∈lists,ay row base*dS n l x=ay row l*dS n base x:=λl J=>by
    rcases Um.mp (ab.mem_iff.mp J) with rfl | hl'
    ·rfl
    ·obtain⟨g,hg,e⟩:=wy (n:=n) (one:=l) (other:=base) (by rw[U,s.len l J]) (ay row l) (ay row base) x
     rw[hx _ (T4.mpr ⟨l,hl',rfl⟩)] at e
     omega
   have ap:fq n lists (λi=>ay row base*x i+(-(dS n base x))*nth row i):=λl J=>by
    rw[ik,zI,<- ik,hc l J,bS,<- iw (s.len l J)]
    grind
   obtain⟨k',as,T,hT,e'⟩:=s.spn _ ap
   refine⟨k'*ay row base,Xd as k2,T++[k'*dS n base x],by simp[hT],λi hi=> ?_⟩
   rw[xZ hT,<- e' i hi]
   grind
theorem xP{n:Nat}:∀{rows:List (List Int)},(∀r∈rows,r.length=n)->∀{R lists:List (List Int)},SSt n R lists->SSt n (R++rows) (rows.foldl eM lists)
 | [],_,R,lists,s=>by simpa using s
 | row::rows,h,R,lists,s=>by
  have:=xP (rows:=rows) (λr hr=>h r (Ub _ hr)) (CH (h row Ug) s)
  simpa using this
theorem pR{n:Nat}{rows:List (List Int)}(h:∀r∈rows,r.length=n):SSt n rows (mG rows n):=by
 have:=xP h (Jk n)
 rw[Uw] at this
 exact this
theorem lV{n:Nat}{rows:List (List Int)}(h:∀r∈rows,r.length=n):
 ∃P,br rows n=P.map (·.2)/\Pl n P/\(∀r∈rows,∀l∈br rows n,cq n (nth l) (nth r)=0)/\∀x,fq n (br rows n) x->mI n rows x:=by
 have s:=pR h
 obtain⟨P,e,pl,_,U⟩:=kb (n:=n) (rows:=mG rows n) s.len
 refine⟨P,e,pl,λr hr l J=> ?_,λx hx=>s.spn x ((U x).mp hx)⟩
 have:fq n (mG rows n) (nth r):=λl J=>by rw[ik,bS];exact s.nul r hr l J
 exact(U _).mpr this l J
theorem sf{n:Nat}{rows:List (List Int)}(h:∀r∈rows,r.length=n)(x:Nat->Int):fq n (br rows n) x↔mI n rows x:=by
 obtain⟨P,_,_,h1,h2⟩:=lV h
 refine⟨h2 x,λs l J=> ?_⟩
 rw[ik,bS]
 exact s.dot λr hr=>by rw[ik,bS];exact h1 r hr l J
def iM(P:List (Nat×List Int)):Int:=(P.map λp=>nth p.2 p.1).foldr (· * ·) 1
theorem xD:∀{P:List (Nat×List Int)},(∀p∈P,0<nth p.2 p.1)->0<iM P
 | [],_=>by decide
 | p::P,h=>Vh (h p Ug) (xD λq hq=>h q (Ub _ hq))
theorem rN:∀{P:List (Nat×List Int)} {p:Nat×List Int},p∈P->nth p.2 p.1 ∣ iM P
 | q::P,p,h=>by
  rcases Um.mp h with rfl | h
  ·exact Int.dvd_mul_right _ _
  ·exact Int.dvd_trans (rN h) (Int.dvd_mul_left _ _)
def sG(P:List (Nat×List Int))(L:Int)(f i:Nat):Int:=(P.map λp=>if i=p.1 then nth p.2 f*(L/nth p.2 p.1) else 0).sum
def je(P:List (Nat×List Int))(f i:Nat):Int:=(if i=f then iM P else 0)-sG P (iM P) f i
theorem ka{L:Int}{f i:Nat}:∀{P:List (Nat×List Int)},(∀p∈P,p.1≠i)->sG P L f i=0
 | [],_=>rfl
 | p::P,h=>by
  unfold sG
  rw[Uk,U9,if_neg (λz=>h p Ug z.symm)]
  have:=ka (L:=L) (f:=f) (i:=i) (P:=P) λq hq=>h q (Ub _ hq)
  unfold sG at this
  omega
theorem wG{L:Int}{f:Nat}:∀{P:List (Nat×List Int)} {p:Nat×List Int},P.Pairwise (λp q=>p.1<q.1/\nth p.2 q.1=0)->p∈P->sG P L f p.1=nth p.2 f*(L/nth p.2 p.1)
 | q::P,p,pw,h=>by
  have h0:=UV.mp pw
  rcases Um.mp h with rfl | hp'
  ·have:=ka (L:=L) (f:=f) (i:=p.1) (P:=P) λr hr=>by have:=(h0.1 r hr).1;omega
   unfold sG at *
   rw[Uk,U9,if_pos rfl,this]
   omega
  ·have J:=wG (L:=L) (f:=f) h0.2 hp'
   have:=(h0.1 p hp').1
   unfold sG at *
   rw[Uk,U9,if_neg (by omega),J]
   omega
theorem Pl.other{n:Nat}{P:List (Nat×List Int)}(pl:Pl n P):∀{p q:Nat×List Int},p∈P->q∈P->p.1≠q.1->nth p.2 q.1=0:=by
 intro p q hp hq J
 by_cases h:q.1<p.1
 ·exact(pl.good p hp).zero _ h
 ·have:∀{P:List (Nat×List Int)},P.Pairwise (λp q=>p.1<q.1/\nth p.2 q.1=0)->p∈P->q∈P->p.1<q.1->nth p.2 q.1=0:=by
   intro P pw hp hq U
   induction P with
   | nil=>cases hp
   | cons r P Y=>
    have h0:=UV.mp pw
    rcases Um.mp hp with rfl | hp
    ·rcases Um.mp hq with rfl | hq
     ·omega
     ·exact(h0.1 q hq).2
    ·rcases Um.mp hq with rfl | hq
     ·have:=(h0.1 p (by assumption)).1;omega
     ·exact Y h0.2 hp hq
  exact this pl.pw hp hq (by omega)
theorem Jc{n f c:Nat}(U:f<n)(hc:c<n)(J:f≠c){g:Nat->Int}(h:∀i,i<n->i≠f->i≠c->g i=0):bq n g=g f+g c:=by
 have:bq n g=bq n (λi=>if i=f then g f else 0)+bq n (λi=>if i=c then g c else 0):=by
  rw[<- sA]
  refine cK λi hi=> ?_
  by_cases h1:i=f
  ·subst h1;rw[if_pos rfl,if_neg J];omega
  ·by_cases h2:i=c
   ·subst h2;rw[if_neg h1,if_pos rfl];omega
   ·rw[if_neg h1,if_neg h2,h i hi h1 h2];rfl
 rw[this,lU U (λi _ hi=>by rw[if_neg hi]),lU hc (λi _ hi=>by rw[if_neg hi]),if_pos rfl,if_pos rfl]
theorem z4{n:Nat}{P:List (Nat×List Int)}(pl:Pl n P){f:Nat}(Y:f<n)(J:∀p∈P,p.1≠f){p:Nat×List Int}(hp:p∈P){r:List Int}(hr:∀q∈P,q.1≠p.1->nth r q.1=0):
 dS n r (je P f)=nth r f*iM P-nth r p.1*(nth p.2 f*(iM P/nth p.2 p.1)):=by
 unfold dS
 rw[Jc Y (pl.good p hp).lt (λz=>J p hp z.symm) (λi _ h1 h2=> ?_)]
 ·have e1:je P f f=iM P:=by
   unfold je;rw[if_pos rfl,ka J];omega
  have e2:je P f p.1= -(nth p.2 f*(iM P/nth p.2 p.1)):=by
   unfold je;rw[if_neg (J p hp),wG pl.pw hp];omega
  rw[e1,e2];grind
 ·by_cases hq:∃q∈P,q.1=i
  ·obtain⟨q,hq,rfl⟩:=hq
   rw[hr q hq h2];omega
  ·have:je P f i=0:=by
    unfold je
    rw[if_neg h1,ka λq U z=>hq ⟨q,U,z⟩];rfl
   rw[this];omega
theorem sC{n:Nat}{P:List (Nat×List Int)}(pl:Pl n P){f:Nat}(Y:f<n)(J:∀p∈P,p.1≠f):fq n (P.map (·.2)) (je P f):=by
 intro r hr
 obtain⟨p,hp,rfl⟩:=T4.mp hr
 rw[z4 pl Y J hp λq hq h=>pl.other hp hq λz=>h z.symm]
 have hd:=rN hp
 have U:=(pl.good p hp).pos
 obtain⟨k,hk⟩:=hd
 have:iM P/nth p.2 p.1=k:=by rw[hk,V6 _ (by omega)]
 rw[this,hk];grind
theorem Fq{n:Nat}{P:List (Nat×List Int)}(pl:Pl n P){f:Nat}(J:∀p∈P,p.1≠f){i:Nat}(hi:f<i):je P f i=0:=by
 unfold je
 rw[if_neg (by omega)]
 by_cases hq:∃q∈P,q.1=i
 ·obtain⟨q,hq,rfl⟩:=hq
  rw[wG pl.pw hq,(pl.good q hq).zero f hi];omega
 ·rw[ka λq U z=>hq ⟨q,U,z⟩];rfl
theorem Pl.leads_pos{n:Nat}{P:List (Nat×List Int)}(pl:Pl n P):0<iM P:=xD λp hp=>(pl.good p hp).pos
theorem uI{n:Nat}{P Q:List (Nat×List Int)}(pl:Pl n P)(U:Pl n Q)(h:∀x,fq n (Q.map (·.2)) x->fq n (P.map (·.2)) x){p:Nat×List Int}(hp:p∈P):∃q∈Q,q.1=p.1:=by
 apply UZ
 intro hn
 have J:∀q∈Q,q.1≠p.1:=λq hq z=>hn ⟨q,hq,z⟩
 have g:=pl.good p hp
 have:=h _ (sC U g.lt J) p.2 (T4.mpr ⟨p,hp,rfl⟩)
 unfold dS at this
 rw[lU g.lt λi _ hi=> ?_] at this
 ·have e:je Q p.1 p.1=iM Q:=by unfold je;rw[if_pos rfl,ka J];omega
  rw[e] at this
  have h1:=U.leads_pos
  have h2:=g.pos
  have:=Vh h2 h1
  omega
 ·by_cases Y:i<p.1
  ·rw[g.zero i Y];omega
  ·rw[Fq U J (by omega)];omega
theorem zV:∀{l m:List Nat},l.Pairwise (· < ·)->m.Pairwise (· < ·)->(∀x,x∈l↔x∈m)->l=m
 | [],[],_,_,_=>rfl
 | [],b::m,_,_,h=>by have:=(h b).mpr Ug;cases this
 | a::l,[],_,_,h=>by have:=(h a).mp Ug;cases this
 | a::l,b::m,hl,hm,h=>by
  have h1:=UV.mp hl
  have h2:=UV.mp hm
  have J:a=b:=by
   rcases Um.mp ((h a).mp Ug) with e | e
   ·exact e
   ·rcases Um.mp ((h b).mpr Ug) with e' | e'
    ·exact e'.symm
    ·have:=h1.1 b e';have:=h2.1 a e;omega
  subst J
  congr 1
  refine zV h1.2 h2.2 λx=>⟨λhx=> ?_,λhx=> ?_⟩
  ·rcases Um.mp ((h x).mp (Ub _ hx)) with e | e
   ·have:=h1.1 x hx;omega
   ·exact e
  ·rcases Um.mp ((h x).mpr (Ub _ hx)) with e | e
   ·have:=h2.1 x hx;omega
   ·exact e
theorem BR(a:Int)(r:List Int):cZ (r.map (a * ·))=a.natAbs*cZ r:=by
 unfold cZ
 have:∀(l:List Int) (c:Nat),(l.map (a * ·)).foldl (λc n=>Vw c n.natAbs) (a.natAbs*c)=a.natAbs*l.foldl (λc n=>Vw c n.natAbs) c:=by
  intro l
  induction l with
  | nil=>intro c;rfl
  | cons b l J=>intro c;simp only[Uk,Vn,Xh,Nat.gcd_mul_left];exact J _
 exact this r 0
theorem ur{r s:List Int}(J:r.length=s.length)(h:∀i,i<r.length->nth r i=nth s i):r=s:=by
 refine VI J λi h1 h2=> ?_
 have:=h i h1
 unfold nth at this
 simpa[Fm,h1,h2] using this
theorem DL{r s:List Int}(U:r.length=s.length)(h1:cZ r=1)(h2:cZ s=1){a b:Int}(ha:0<a)(hb:0<b)(h:∀i,i<r.length->a*nth r i=b*nth s i):r=s:=by
 have e:r.map (a * ·)=s.map (b * ·):=ur (by simp[U]) λi hi=>by
  rw[nA (by simp),nA (by simp)];exact h i (by simpa using hi)
 have e2:=BR a r
 rw[e,BR,h1,h2] at e2
 have J:a=b:=by omega
 subst J
 exact ur U λi hi=>Int.eq_of_mul_eq_mul_left (by omega) (h i hi)
theorem EE{n:Nat}{P Q:List (Nat×List Int)}(pl:Pl n P)(U:Pl n Q)(h:∀x,fq n (P.map (·.2)) x↔fq n (Q.map (·.2)) x):P=Q:=by
 have hf:P.map (·.1)=Q.map (·.1):=by
  refine zV (VD.mpr (pl.pw.imp λh=>h.1)) (VD.mpr (U.pw.imp λh=>h.1)) λx=>⟨λhx=> ?_,λhx=> ?_⟩
  ·obtain⟨p,hp,rfl⟩:=T4.mp hx
   obtain⟨q,hq,e⟩:=uI pl U (λx=>(h x).mpr) hp
   exact T4.mpr ⟨q,hq,e⟩
  ·obtain⟨p,hp,rfl⟩:=T4.mp hx
   obtain⟨q,hq,e⟩:=uI U pl (λx=>(h x).mp) hp
   exact T4.mpr ⟨q,hq,e⟩
 have key:∀p∈P,∀q∈Q,p.1=q.1->p.2=q.2:=λp hp q hq ab=>by
  have gp:=pl.good p hp
  have gq:=U.good q hq
  refine DL (by rw[gp.len,gq.len]) gp.one gq.one (a:=nth q.2 q.1) (b:=nth p.2 p.1) gq.pos gp.pos λi hi=> ?_
  by_cases Y:∃p'∈P,p'.1=i
  ·obtain⟨p',hp',rfl⟩:=Y
   by_cases hc:p'.1=p.1
   ·rw[hc,<- ab];grind
   ·obtain⟨q',ac,e⟩:=uI pl U (λx=>(h x).mpr) hp'
    rw[pl.other hp hp' (λz=>hc z.symm),<- e,U.other hq ac (by omega)];omega
  ·have J:∀p∈P,p.1≠i:=λp' hp' z=>Y ⟨p',hp',z⟩
   have an:i<n:=by rw[gp.len] at hi;exact hi
   have:=(h _).mp (sC pl an J) q.2 (T4.mpr ⟨q,hq,rfl⟩)
   rw[z4 pl an J hp (r:=q.2) λp' hp' a2=>by
    obtain⟨q',ac,e⟩:=uI pl U (λx=>(h x).mpr) hp'
    rw[<- e];exact U.other hq ac (by omega)] at this
   obtain⟨k,hk⟩:=rN hp
   have a1:=gp.pos
   have e1:iM P/nth p.2 p.1=k:=by rw[hk,V6 _ (by omega)]
   have az:k≠0:=λz=>by have:=pl.leads_pos;rw[hk,z] at this;omega
   rw[e1,hk,ab] at this
   have:k*(nth q.2 q.1*nth p.2 i-nth p.2 p.1*nth q.2 i)=0:=by rw[ab];grind
   rcases UQ.mp this with z | z
   ·exact absurd z az
   ·omega
 have ap:P.length=Q.length:=by have:=congrArg Vk hf;simpa using this
 refine VI ap λi h1 h2=> ?_
 have e1:P[i].1=Q[i].1:=by
  have:(P.map (·.1))[i]'(by simpa using h1)=(Q.map (·.1))[i]'(by simpa using h2):=by simp only[hf]
  simpa using this
 exact Prod.ext e1 (key _ (UH h1) _ (UH h2) e1)
theorem zi{n:Nat}{R S:List (List Int)}(J:∀r∈R,r.length=n)(U:∀r∈S,r.length=n)(h:∀x,fq n R x↔fq n S x):bT R n=bT S n:=by
 obtain⟨P,e1,p1,_,Y⟩:=kb J
 obtain⟨Q,e2,p2,_,n2⟩:=kb U
 have:P=Q:=EE p1 p2 λx=>by rw[<- e1,<- e2];exact(Y x).trans ((h x).trans (n2 x).symm)
 rw[e1,e2,this]
theorem oS{n:Nat}{R:List (List Int)}(J:∀r∈R,r.length=n):∀r∈bT R n,r.length=n:=by
 obtain⟨P,e1,p1,_⟩:=kb J
 rw[e1]
 intro r hr
 obtain⟨p,hp,rfl⟩:=T4.mp hr
 exact(p1.good p hp).len
theorem vz{n:Nat}{R:List (List Int)}(J:∀r∈R,r.length=n):bT (bT R n) n=bT R n:=by
 obtain⟨P,e1,p1,_,U⟩:=kb J
 exact zi (oS J) J U
theorem oO{n:Nat}{R:List (List Int)}(J:∀r∈R,r.length=n):∀r∈br R n,r.length=n:=oS (pR J).len
theorem vE{n:Nat}{R:List (List Int)}(J:∀r∈R,r.length=n):br (br R n) n=bT R n:=by
 have U:=oO J
 obtain⟨P,_,_,h1,h2⟩:=lV J
 obtain⟨Q,_,_,h3,h4⟩:=lV U
 have Y:=oO U
 rw[<- vz J]
 have:br (br R n) n=bT (br (br R n) n) n:=(vz (R:=mG (br R n) n) (pR U).len).symm
 rw[this]
 refine zi Y (oS J) λx=> ?_
 obtain⟨_,_,_,_,n1⟩:=kb J
 rw[n1,sf U]
 constructor
 ·intro s r hr
  rw[ik,bS]
  exact s.dot λl hl=>h1 r hr l hl
 ·intro hx
  refine h4 x λl hl=> ?_
  have:fq n (br R n) (nth l):=λq hq=>by rw[ik,bS];exact h3 q hq l hl
  exact(h2 _ this).dot hx
def SzL(b:Nat)(r:List Int):Prop:=∀x∈r,Sz b x
def dR(b:Nat)(R:List (List Int)):Prop:=∀r∈R,SzL b r
theorem SzL.mono{b c:Nat}{r:List Int}(h:SzL b r)(J:b<=c):SzL c r:=λx hx=>(h x hx).mono J
theorem dR.mono{b c:Nat}{r:List (List Int)}(h:dR b r)(J:b<=c):dR c r:=λx hx=>(h x hx).mono J
theorem Sz.zero(b:Nat):Sz b 0:=by unfold Sz;simp;exact V2 b
theorem SzL.nth{b:Nat}{r:List Int}(h:SzL b r)(i:Nat):Sz b (M.nth r i):=by
 by_cases hi:i<r.length
 ·exact h _ (uJ hi)
 ·rw[kr (by omega)];exact Sz.zero b
theorem SzL.low{b:Nat}{r:List Int}(h:SzL b r):SzL b (M.low r):=by
 intro x hx
 unfold M.low at hx
 split at hx
 ·exact h x hx
 ·obtain⟨y,hy,rfl⟩:=T4.mp hx
  exact Nat.lt_of_le_of_lt (Int.natAbs_ediv_le_natAbs y _) (h y hy)
theorem SzL.mix{J U Y bw:Nat}{one other:List Int}{v w:Int}(h1:SzL J one)(h2:SzL U other)(hv:Sz Y v)(hw:Sz bw w):SzL (max (J+bw) (U+Y)+1) (mm one v other w):=by
 intro x hx
 unfold mm at hx
 obtain⟨i,hi,e⟩:=Vt hx
 rw[Xo] at e
 subst e
 exact Sz.sub (Sz.mul (h1 _ (UH _)) hw) (Sz.mul (h2 _ (UH _)) hv)
theorem SzL.off{J U Y bw:Nat}{one other:List Int}{v w:Int}(h1:SzL J one)(h2:SzL U other)(hv:Sz Y v)(hw:Sz bw w):SzL (max (J+bw) (U+Y)+1) (dq one v other w):=(SzL.mix h1 h2 hv hw).low
theorem SzL.sgn{b:Nat}{r:List Int}(h:SzL b r)(a:Nat):SzL b (gf r a):=by
 unfold gf
 split
 ·exact h
 ·intro x hx
  obtain⟨y,hy,rfl⟩:=T4.mp hx
  exact(h y hy).neg
theorem SzL.clr{b:Nat}{row lead:List Int}(h1:SzL b row)(h2:SzL b lead)(a:Nat):SzL (2*b+1) (eK lead a row):=by
 unfold eK
 split
 ·exact h1.mono (by omega)
 ·exact(SzL.off h1 h2 (h1.nth a) (h2.nth a)).mono (by omega)
theorem tE{b a:Nat}{left done:List (List Int)}(h1:dR b left)(h2:dR b done):dR (2*b+1) (di (left,done) a).1/\dR (2*b+1) (di (left,done) a).2:=by
 unfold di
 dsimp only
 split
 ·exact⟨h1.mono (by omega),h2.mono (by omega)⟩
 ·rename_i k e
  have U:=(gI e).1
  rw[T3] at U
  have J:SzL b (gf (left.getD k []) a):=SzL.sgn (h1 _ (getD_mem U)) a
  refine⟨λr hr=> ?_,λr hr=> ?_⟩
  ·obtain⟨q,hq,rfl⟩:=T4.mp hr
   exact SzL.clr (h1 q (UP hq)) J a
  ·rcases Uj.mp hr with hr | hr
   ·obtain⟨q,hq,rfl⟩:=T4.mp hr
    exact SzL.clr (h2 q hq) J a
   ·rw[Ul.mp hr];exact J.mono (by omega)
def grow(b p:Nat):Nat:=2^p*(b+1)-1
theorem Hc(b:Nat):grow b 0=b:=by unfold grow;simp
theorem zt(b p:Nat):2*grow b p+1=grow b (p+1):=by
 unfold grow
 have h:0<2^p*(b+1):=Nat.mul_pos (V2 p) (Nat.succ_pos b)
 have e:2^(p+1)*(b+1)=2*(2^p*(b+1)):=by rw[Xy,WU (2^p) 2,Xp]
 rw[e]
 omega
theorem zc{b p q:Nat}(h:p<=q):grow b p<=grow b q:=by
 unfold grow
 have:2^p*(b+1)<=2^q*(b+1):=Wt _ (Vb (by decide) h)
 omega
theorem sN{a:Nat}{left done:List (List Int)}:((di (left,done) a)=(left,done))\/(di (left,done) a).2.length=done.length+1:=by
 unfold di
 dsimp only
 split
 ·exact .inl rfl
 ·exact .inr (by simp)
structure PSz(n b a:Nat)(rows:List (List Int))(left done:List (List Int)):Prop where
 eq:(T9 a).foldl di (rows.map low,[])=(left,done)
 ll:∀r∈left,r.length=n
 dl:∀r∈done,r.length=n
 cnt:left.length+done.length=rows.length
 ls:dR (grow b done.length) left
 ds:dR (grow b done.length) done
theorem PSz.start{n b:Nat}{rows:List (List Int)}(J:∀r∈rows,r.length=n)(U:dR b rows):PSz n b 0 rows (rows.map low) []:=by
 refine⟨rfl,λr hr=> ?_,by simp,by simp,λr hr=> ?_,λr hr=>by cases hr⟩
 ·obtain⟨q,hq,rfl⟩:=T4.mp hr
  rw[low_length];exact J q hq
 ·obtain⟨q,hq,rfl⟩:=T4.mp hr
  rw[Xc,Hc]
  exact(U q hq).low
theorem PSz.step{n b a:Nat}{rows left done:List (List Int)}(h:PSz n b a rows left done)(U:∀r∈rows,r.length=n)(ha:a<n):PSz n b (a+1) rows (di (left,done) a).1 (di (left,done) a).2:=by
 have J:(T9 (a+1)).foldl di (rows.map low,[])=di (left,done) a:=by
  rw[Ws,Wb,h.eq];rfl
 obtain⟨l',Y,e,s,c,_⟩:=vS (n:=n) (left:=rows.map low) (λr hr=>by
  obtain⟨q,hq,rfl⟩:=T4.mp hr
  rw[low_length];exact U q hq) (λr hr=>by
  obtain⟨q,hq,rfl⟩:=T4.mp hr
  exact sJ q) (a+1) (by omega)
 rw[J] at e
 refine⟨J,λr hr=> ?_,λr hr=> ?_, ?_, ?_, ?_⟩
 ·rw[e] at hr;exact s.ll r hr
 ·rw[e] at hr
  obtain⟨p,hp,rfl⟩:=T4.mp hr
  exact(s.pl.good p hp).len
 ·rw[e];simp;simpa using c
 ·rcases sN (a:=a) (left:=left) (done:=done) with q | q
  ·rw[q];exact h.ls
  ·rw[q,<- zt];exact(tE h.ls h.ds).1
 ·rcases sN (a:=a) (left:=left) (done:=done) with q | q
  ·rw[q];exact h.ds
  ·rw[q,<- zt];exact(tE h.ls h.ds).2
theorem PSz.done{n b:Nat}{rows left done:List (List Int)}(h:PSz n b n rows left done):bT rows n=done:=by unfold bT;rw[h.eq]
theorem GX{n b:Nat}{rows:List (List Int)}(J:∀r∈rows,r.length=n)(U:dR b rows):dR (grow b rows.length) (bT rows n):=by
 have:∀a,a<=n->∃left done,PSz n b a rows left done:=by
  intro a
  induction a with
  | zero=>exact λ_=>⟨_,_,PSz.start J U⟩
  | succ a Y=>
   intro ha
   obtain⟨l,d,h⟩:=Y (by omega)
   exact⟨_,_,h.step J (by omega)⟩
 obtain⟨l,d,h⟩:=this n (Ud n)
 rw[h.done]
 exact h.ds.mono (zc (by have:=h.cnt;omega))
section
variable {s s1 : S} {d : D}
@[simp] theorem K7 (m:AM) (s:S):tR m s=(m s).bind λx=>match x.1 with
 | [.lst as,.lst bs]=>.ok ((lQ as bs,none),x.2)
 | _=>.bad:=rfl
@[simp] theorem lO (m:AM) (s:S):de m s=(m s).bind λx=>match x.1 with
 | [.lst as]=>.ok ((dQ as,none),x.2)
 | _=>.bad:=rfl
@[simp] theorem LY (m:EM) (s:S):Fj m s=(m s).bind λx=>match x.1 with
 | .str z=>.ok ((pM z,none),x.2)
 | _=>.bad:=rfl
@[simp] theorem GI (f g:Op2) (a b c:EM) (s:S):tW f g a b c s=(a s).bind λx=>(b x.2).bind λy=>(f y.2.o x.1 y.1).bind λz=>match z with
 | .bl true=>(c y.2).bind λw=>(g w.2.o y.1 w.1).bind λd=>.ok (d,w.2)
 | .bl false=>.ok (.bl false,y.2)
 | _=>.bad:=rfl
@[simp] theorem Ij (n:Nat) (f:FM) (m:AM) (s:S):jf n f m s=(m s).bind λx=>if x.1.length=n then (match f x.1 x.2.o with
 | .ok (d,O1)=>.ok (d,⟨x.2.r,O1⟩)
 | _=>.bad) else .bad:=rfl
@[simp] theorem QM (m:EM) (s:S):Qf m s=(m s).bind λx=>match lsD x.2.o x.1 with
 | some ds=>.ok (!ds.isEmpty,x.2)
 | none=>.bad:=rfl
@[simp] theorem Mp (fin:S->List D->Res (D×S)) (ma:AM) (mk:EM) (s:S):yP fin ma mk s=(ma s).bind λx=>if x.1.length<=16777216 then (mk x.2).bind λy=>match y.1 with
 | .int k=>if (-(2^63)<=k/\k<2^63)/\x.1.length*k.toNat<=16777216 then fin y.2 (Em k x.1) else .bad
 | _=>.bad
 else .bad:=rfl
@[simp] theorem QI (s:S) (ds:List D):EO s ds=.ok (.lst ds,s):=rfl
@[simp] theorem yL (s:S) (ds:List D):qK s ds=.ok (.ptr s.o.length,⟨s.r,s.o++[.lst ds]⟩):=rfl
@[simp] theorem QV (O:aB):isD O .non .non=.ok (.bl true):=rfl
@[simp] theorem QR (O:aB) (i:Int):isD O (.int i) .non=.ok (.bl false):=rfl
@[simp] theorem QY (O:aB) (i:List D):isD O (.lst i) .non=.ok (.bl false):=rfl
@[simp] theorem QF (O:aB) (i:List D):isD O (.tup i) .non=.ok (.bl false):=rfl
@[simp] theorem ES (O:aB):pS O .non .non=.ok (.bl false):=rfl
@[simp] theorem Fx (O:aB) (i:Int):pS O (.int i) .non=.ok (.bl true):=rfl
@[simp] theorem O0 (O:aB) (i:List D):pS O (.lst i) .non=.ok (.bl true):=rfl
@[simp] theorem Pa (O:aB) (i:List D):pS O (.tup i) .non=.ok (.bl true):=rfl
@[simp] theorem qe (g h:GM) (a b:D) (s:S):cV (aU g (aU h cY)) 2 (.tup [a,b]) s=(g a s).bind λs1=>h b s1:=by
 show (g a s).bind (λs1=>(h b s1).bind λs2=>.ok s2)=_
 congr 1
 funext s1
 cases h b s1 <;> rfl
@[simp] theorem CL (ns:List Int):ib (ns.map D.int)=some ns:=by
 induction ns with
 | nil=>rfl
 | cons n ns J=>rw[Uk,ib,J];rfl
@[simp] theorem vF (ns:List Bool):kI (ns.map D.bl)=some ns:=by
 induction ns with
 | nil=>rfl
 | cons n ns J=>rw[Uk,kI,J];rfl
@[simp] theorem n8 (O:aB) (ns:List Int):pN O [.lst (ns.map D.int)]=.ok (.int ns.sum):=by
 show (match ib (ns.map D.int) with
  | some ns=>Res.ok (D.int ns.sum)
  | none=>.bad)=_
 rw[CL]
@[simp] theorem Ca (O:aB) (ns:List Bool):Fe O [.lst (ns.map D.bl)]=.ok (.bl (ns.all id)):=by
 show (match kI (ns.map D.bl) with
  | some ns=>Res.ok (D.bl (ns.all id))
  | none=>.bad)=_
 rw[vF]
@[simp] theorem Ki (O:aB) (ns:List Bool):JZ O [.lst (ns.map D.bl)]=.ok (.bl (ns.any id)):=by
 show (match kI (ns.map D.bl) with
  | some ns=>Res.ok (D.bl (ns.any id))
  | none=>.bad)=_
 rw[vF]
end
theorem qE {α:Type} {ok:aB->Prop} {g:GM} {c:TM} {e:EM} {O:aB} (U:ok O) (item:α->D) (P:S->Prop) (hP:∀s,P s->s.o=O) (l:List α) (p:α->Bool) (out:α->D)
 (step:∀a∈l,∀s,P s->∃s1 s2,g (item a) s=.ok s1/\c s1=.ok (p a,s2)/\(p a=false->P s2)/\(p a=true->∃Y,e s2=.ok (out a,Y)/\P Y)):
 ∀(J:List D) (s:S),J.length+l.length<=16777216->P s->∃s',du ok g c e (l.map item) J s=.ok (J++(l.filter p).map out,s')/\P s':=by
 induction l with
 | nil=>
  intro J s _ h
  exact⟨s,by rw[U1,du,if_pos (by rw[hP s h];exact U)];simp,h⟩
 | cons a l ih=>
  intro J s hl h
  rw[Uq] at hl
  obtain⟨s1,s2,e1,e2,h2,h3⟩:=step a Ug s h
  rw[Uk,du,if_pos ⟨by rw[hP s h];exact U,by omega⟩,e1,aj,e2,aj]
  cases hp:p a with
  | false=>
   obtain⟨s',e3,h4⟩:=ih (λb hb=>step b (Ub _ hb)) J s2 (by omega) (h2 hp)
   refine⟨s', ?_,h4⟩
   rw[UN (by simp[hp])]
   simpa using e3
  | true=>
   obtain⟨Y,e3,h4⟩:=h3 hp
   obtain⟨s',e5,h5⟩:=ih (λb hb=>step b (Ub _ hb)) (J++[out a]) Y (by rw[Uv,UM];omega) h4
   refine⟨s', ?_,h5⟩
   rw[UC hp]
   simp only[if_true,e3,aj,e5]
   simp
section
variable {α : Type} {caps : List Nat} {im : IM} {c : TM} {e : EM} {s : S} {k : Option Nat} {l : List α} {item out : α → D} {p : α → Bool}
theorem Bp (J:im s=.ok ((l.map item,k),s)) (U:okC (l.map item) k s.o) (Y:l.length<=16777216)
 (hc:∀a∈l,c ⟨some (item a)::caps.map (λi=>(s.r[i]?).getD none),s.o⟩=.ok (p a,⟨some (item a)::caps.map (λi=>(s.r[i]?).getD none),s.o⟩))
 (he:∀a∈l,p a=true->e ⟨some (item a)::caps.map (λi=>(s.r[i]?).getD none),s.o⟩=.ok (out a,⟨some (item a)::caps.map (λi=>(s.r[i]?).getD none),s.o⟩)):
 nO 1 caps im (aG 0) c e s=.ok ((l.filter p).map out,s):=by
 obtain⟨s',e1,x,h1⟩:=qE (ok:=okC (l.map item) k) (g:=aG 0) (c:=c) (e:=e) (O:=s.o) U item (λs2=>∃x,s2=⟨x::caps.map (λi=>(s.r[i]?).getD none),s.o⟩) (by rintro _ ⟨_,rfl⟩;rfl) l p out (by
  rintro a ha _ ⟨x,rfl⟩
  exact⟨_,_,rfl,hc a ha,λ_=>⟨_,rfl⟩,λhp=>⟨_,he a ha hp,_,rfl⟩⟩) [] ⟨ng 1 caps s.r,s.o⟩ (by simpa using Y) ⟨none,rfl⟩
 rw[pX,J,aj]
 dsimp only
 rw[e1,aj]
 subst h1
 rfl
theorem A6 {f g:α->D} (J:im s=.ok ((l.map (λa=>D.tup [f a,g a]),k),s)) (U:okC (l.map (λa=>D.tup [f a,g a])) k s.o) (Y:l.length<=16777216)
 (hc:∀a∈l,c ⟨some (f a)::some (g a)::caps.map (λi=>(s.r[i]?).getD none),s.o⟩=.ok (p a,⟨some (f a)::some (g a)::caps.map (λi=>(s.r[i]?).getD none),s.o⟩))
 (he:∀a∈l,p a=true->e ⟨some (f a)::some (g a)::caps.map (λi=>(s.r[i]?).getD none),s.o⟩=.ok (out a,⟨some (f a)::some (g a)::caps.map (λi=>(s.r[i]?).getD none),s.o⟩)):
 nO 2 caps im (cV (aU (aG 0) (aU (aG 1) cY)) 2) c e s=.ok ((l.filter p).map out,s):=by
 obtain⟨s',e1,x,y,h1⟩:=qE (ok:=okC (l.map (λa=>D.tup [f a,g a])) k) (g:=cV (aU (aG 0) (aU (aG 1) cY)) 2) (c:=c) (e:=e) (O:=s.o) U (λa=>D.tup [f a,g a]) (λs2=>∃x y,s2=⟨x::y::caps.map (λi=>(s.r[i]?).getD none),s.o⟩) (by rintro _ ⟨_,_,rfl⟩;rfl) l p out (by
  rintro a ha _ ⟨x,y,rfl⟩
  exact⟨_,_,by simp,hc a ha,λ_=>⟨_,_,rfl⟩,λhp=>⟨_,he a ha hp,_,_,rfl⟩⟩) [] ⟨ng 2 caps s.r,s.o⟩ (by simpa using Y) ⟨none,none,rfl⟩
 rw[pX,J,aj]
 dsimp only
 rw[e1,aj]
 subst h1
 rfl
theorem nV(l:List α):l.filter (λ_=>true)=l:=by simp
theorem d3 (J:im s=.ok ((l.map item,k),s)) (U:okC (l.map item) k s.o) (Y:l.length<=16777216)
 (he:∀a∈l,e ⟨some (item a)::caps.map (λi=>(s.r[i]?).getD none),s.o⟩=.ok (out a,⟨some (item a)::caps.map (λi=>(s.r[i]?).getD none),s.o⟩)):
 bZ 1 caps im (aG 0) cg e s=.ok (.lst (l.map out),s):=by
 rw[nI,Bp (p:=λ_=>true) J U Y (λ_ _=>rfl) (λa ha _=>he a ha),aj,nV]
theorem uH (J:im s=.ok ((l.map item,k),s)) (U:okC (l.map item) k s.o) (Y:l.length<=16777216)
 (hc:∀a∈l,c ⟨some (item a)::caps.map (λi=>(s.r[i]?).getD none),s.o⟩=.ok (p a,⟨some (item a)::caps.map (λi=>(s.r[i]?).getD none),s.o⟩))
 (he:∀a∈l,p a=true->e ⟨some (item a)::caps.map (λi=>(s.r[i]?).getD none),s.o⟩=.ok (out a,⟨some (item a)::caps.map (λi=>(s.r[i]?).getD none),s.o⟩)):
 bZ 1 caps im (aG 0) c e s=.ok (.lst ((l.filter p).map out),s):=by
 rw[nI,Bp J U Y hc he,aj]
theorem GR {f g:α->D} (J:im s=.ok ((l.map (λa=>D.tup [f a,g a]),k),s)) (U:okC (l.map (λa=>D.tup [f a,g a])) k s.o) (Y:l.length<=16777216)
 (he:∀a∈l,e ⟨some (f a)::some (g a)::caps.map (λi=>(s.r[i]?).getD none),s.o⟩=.ok (out a,⟨some (f a)::some (g a)::caps.map (λi=>(s.r[i]?).getD none),s.o⟩)):
 bZ 2 caps im (cV (aU (aG 0) (aU (aG 1) cY)) 2) cg e s=.ok (.lst (l.map out),s):=by
 rw[nI,A6 (p:=λ_=>true) J U Y (λ_ _=>rfl) (λa ha _=>he a ha),aj,nV]
theorem D1 {f g:α->D} (J:im s=.ok ((l.map (λa=>D.tup [f a,g a]),k),s)) (U:okC (l.map (λa=>D.tup [f a,g a])) k s.o) (Y:l.length<=16777216)
 (hc:∀a∈l,c ⟨some (f a)::some (g a)::caps.map (λi=>(s.r[i]?).getD none),s.o⟩=.ok (p a,⟨some (f a)::some (g a)::caps.map (λi=>(s.r[i]?).getD none),s.o⟩))
 (he:∀a∈l,p a=true->e ⟨some (f a)::some (g a)::caps.map (λi=>(s.r[i]?).getD none),s.o⟩=.ok (out a,⟨some (f a)::some (g a)::caps.map (λi=>(s.r[i]?).getD none),s.o⟩)):
 bZ 2 caps im (cV (aU (aG 0) (aU (aG 1) cY)) 2) c e s=.ok (.lst ((l.filter p).map out),s):=by
 rw[nI,A6 J U Y hc he,aj]
theorem G6 (J:im s=.ok ((l.map item,k),s)) (U:okC (l.map item) k s.o) (Y:l.length<=16777216)
 (he:∀a∈l,e ⟨some (item a)::caps.map (λi=>(s.r[i]?).getD none),s.o⟩=.ok (out a,⟨some (item a)::caps.map (λi=>(s.r[i]?).getD none),s.o⟩)):
 lM 1 caps im (aG 0) cg e s=.ok (.ptr s.o.length,⟨s.r,s.o++[.lst (l.map out)]⟩):=by
 rw[wL,Bp (p:=λ_=>true) J U Y (λ_ _=>rfl) (λa ha _=>he a ha),aj,nV]
end
abbrev vI(r:List Int):D:=.lst (r.map .int)
abbrev vII(R:List (List Int)):D:=.lst (R.map vI)
@[simp] theorem i8 (R:List (List Int)):aN (R.map vI)=true:=by
 induction R with
 | nil=>rfl
 | cons r R J=>simp[J]
theorem tY(as bs:List Int):lQ (as.map D.int) (bs.map D.int)=(as.zip bs).map λp=>.tup [.int p.1,.int p.2]:=by
 unfold lQ
 rw[XT,List.zip_eq_zipWith,List.map_zipWith]
theorem E8(as:List Int):dQ (as.map D.int)=as.zipIdx.map λp=>.tup [.int (p.2:Int),.int p.1]:=by
 unfold dQ
 rw[VF,Wu,Uh]
 rfl
theorem Ja(as:List (List Int)):dQ (as.map vI)=as.zipIdx.map λp=>.tup [.int (p.2:Int),vI p.1]:=by
 unfold dQ
 rw[VF,Wu,Uh]
 rfl
theorem ni{O:aB}{r:List Int}{i:Nat}(h:i<r.length):ixD O (vI r) (.int (i:Int))=.ok (.int (nth r i)):=by
 refine o9 ?_
 rw[pG (by omega) (by simpa using h)]
 simp[nth,Fm,h]
theorem BP{O:aB}{R:List (List Int)}{i:Nat}(h:i<R.length):ixD O (vII R) (.int (i:Int))=.ok (vI (R.getD i [])):=by
 refine o9 ?_
 rw[pG (by omega) (by simpa using h)]
 simp[Fm,h]
theorem fv(n:Nat):dP 0 (n:Int)=(T9 n).map λi=>.int (i:Int):=by
 unfold dP
 simp
theorem pj{n:Nat}(h:n<=1000000):n<=16777216:=UI h (by decide)
theorem zip_map{f:Int->Int->Int}:∀(a b:List Int),(a.zip b).map (λp=>f p.1 p.2)=UO f a b
 | [],_=>by simp
 | _::_,[]=>by simp
 | x::a,y::b=>by simp[zip_map a b]
theorem LD(a b:List Int):(a.zip b).map (λp=>p.1*p.2)=UO (· * ·) a b:=zip_map a b
theorem G8(n:Nat):Em (n:Int) [.int 0]=(Uo n (0:Int)).map D.int:=by
 unfold Em
 rw[show (n:Int).toNat=n from XF n]
 induction n with
 | zero=>rfl
 | succ n J=>rw[U0,Vr,J];simp[U0]
theorem r8{mo J:EM}{d:D}{s s1 s2:S}{k a:Nat}{ds:List D}(h1:mo s=.ok (.ptr k,s1))(h2:J s1=.ok (.int (a:Int),s2))(U:s2.o[k]? =some (.lst ds))(ha:a<ds.length):
 oC mo J d s=.ok ⟨s2.r,s2.o.set k (.lst (ds.set a d))⟩:=by
 unfold oC
 rw[h1,aj]
 dsimp only
 rw[h2,aj]
 dsimp only
 rw[lY U]
 dsimp only
 have e:ixN ds.length (a:Int)=some a:=by
  unfold ixN
  rw[if_pos (by omega),if_pos (by omega)]
  simp
 rw[e]
theorem i4{m:EM}{i:Nat}{s s':S}{d:D}(h:m s=.ok (d,s')):setM i m s=.next ⟨s'.r.set i (some d),s'.o⟩:=by
 show ((m s).bind _).out _=_
 rw[h];rfl
theorem bD{m:EM}{s s':S}{d:D}(h:m s=.ok (d,s')):bO m s=.ret d s':=by
 show (m s).out _=_
 rw[h];rfl
theorem FE{c:TM}{a b:SM}{s s':S}(h:c s=.ok (true,s')):ifS c a b s=a s':=by
 show (c s).out _=_
 rw[h];rfl
theorem lN{c:TM}{a b:SM}{s s':S}(h:c s=.ok (false,s')):ifS c a b s=b s':=by
 show (c s).out _=_
 rw[h];rfl
theorem cH{a b:SM}{s s':S}(h:a s=.next s'):aP a b s=b s':=by
 show (a s).then b=_
 rw[h];rfl
theorem p9{a b:SM}{s s':S}{d:D}(h:a s=.ret d s'):aP a b s=.ret d s':=by
 show (a s).then b=_
 rw[h];rfl
theorem KQ{fin:S->List D->Res (D×S)}{mk:EM}{s:S}{n:Nat}(h:mk s=.ok (.int (n:Int),s))(hn:n<=1000000):yP fin (ae (aq (.int 0)) ao) mk s=fin s ((Uo n (0:Int)).map D.int):=by
 rw[Mp,aY,aD,aj,aE,aj,aj]
 dsimp only
 rw[if_pos (by decide),h,aj]
 dsimp only
 rw[if_pos ⟨⟨by omega,by omega⟩,by simp;omega⟩,G8]
theorem cX{n:Nat}{f:FM}{ma:AM}{s s':S}{ds:List D}{d:D}{O:aB}(h:ma s=.ok (ds,s'))(hp:aN ds=true)(J:ds.length=n)(U:f ds []=.ok (d,O))(hd:cT d=true):aO n f ma s=.ok (d,s'):=by
 rw[Kc,h,aj,if_pos ⟨hp,J⟩]
 dsimp only
 rw[U]
 dsimp only
 rw[if_pos hd]
theorem IU{n:Nat}{f:FM}{ma:AM}{s s':S}{ds:List D}{d:D}{O:aB}(h:ma s=.ok (ds,s'))(J:ds.length=n)(U:f ds s'.o=.ok (d,O)):jf n f ma s=.ok (d,⟨s'.r,O⟩):=by
 rw[Ij,h,aj,if_pos J]
 dsimp only
 rw[U]
theorem LP{mo me:EM}{s s1 s2:S}{k i:Nat}{U ds:List D}(h1:mo s=.ok (.ptr k,s1))(Y:s1.o[k]? =some (.lst U))(h2:me s1=.ok (.int (i:Int),s2))(c2:s2.o[k]? =some (.lst ds))(hi:i<ds.length)(hb:i<=1000000):
 AU mo me s=.ok (ds[i],⟨s2.r,s2.o.set k (.lst (ds.eraseIdx i))⟩):=by
 unfold AU
 rw[h1,aj]
 dsimp only
 rw[lY Y]
 dsimp only
 rw[h2,aj]
 dsimp only
 rw[lY c2]
 dsimp only
 have e:seqIndex? (i:Int) ds.length=some i:=by
  have J:¬((i:Int)<0):=by omega
  simp only[seqIndex?,J,if_false]
  simp[hi]
 rw[if_pos ⟨by omega,by omega⟩,e]
 dsimp only
 rw[T7 hi]
theorem yd{mo me:EM}{s s1 s2:S}{k:Nat}{J ds:List D}{d:D}(h1:mo s=.ok (.ptr k,s1))(U:s1.o[k]? =some (.lst J))(h2:me s1=.ok (d,s2))(Y:s2.o[k]? =some (.lst ds))(hb:ds.length<=1000000):
 lX mo me s=.ok (.non,⟨s2.r,s2.o.set k (.lst (ds++[d]))⟩):=by
 rw[Mj,h1,aj]
 dsimp only
 rw[lY U]
 dsimp only
 rw[h2,aj]
 dsimp only
 rw[lY Y]
 dsimp only
 rw[if_pos (by omega)]
theorem df{m:EM}{s s':S}{d:D}(h:m s=.ok (d,s')):eH m s=.next s':=by
 show (m s).out _=_
 rw[h];rfl
theorem Mq{m:EM}{s s':S}{k:Nat}{ds:List D}(h:m s=.ok (.ptr k,s'))(c:s'.o[k]? =some (.lst ds)):jo m s=.ok (.lst ds,⟨s'.r,s'.o.set k .dead⟩):=by
 rw[KZ,h,aj]
 dsimp only
 rw[lY c]
theorem qo{m:EM}{s s':S}{k:Nat}{ds:List D}(h:m s=.ok (.ptr k,s'))(c:s'.o[k]? =some (.lst ds)):listI m s=.ok ((ds,some k),s'):=by
 rw[cW,h,aj]
 dsimp only
 rw[Dl c,aj]
theorem da{O:aB}{k j:Nat}{c:Cell}(h:k≠j):(O.set k c)[j]? =O[j]? :=U2 h
theorem ic{O:aB}{k:Nat}{c c':Cell}(h:O[k]? =some c'):(O.set k c)[k]? =some c:=by
 rw[UU (Ur.mp h).1]
theorem cD{O E:aB}{k:Nat}{c:Cell}(h:O[k]? =some c):(O++E)[k]? =some c:=by
 rw[Ut (Ur.mp h).1];exact h
theorem fW{O:aB}{c:Cell}:(O++[c])[O.length]? =some c:=by simp
theorem pV{O:aB}{k:Nat}{c:Cell}(h:O[k]? =some c):k<O.length:=(Ur.mp h).1
theorem Bo{b:Nat}(hb:b<=60000000){x y:Int}(hx:Sz b x)(hy:Sz b y):IntMulOk x y:=jY hb hb hx hy
theorem uq{α β:Type}(f:α->β):∀(l:List α) (k:Nat),(l.map f).eraseIdx k=(l.eraseIdx k).map f
 | [],_=>rfl
 | _::_,0=>rfl
 | a::l,k+1=>by simp[uq f l k]
theorem ny(r:List Int):aN [vI r]=true:=by simp
theorem wZ{α β:Type}(g:α->β)(k:Nat):∀(l:List α) (j:Nat),((l.zipIdx j).filter (λp=> !decide (p.2=j+k))).map (λp=>g p.1)=(l.eraseIdx k).map g:=by
 induction k with
 | zero=>
  intro l j
  cases l with
  | nil=>rfl
  | cons a l=>
   rw[Wh,UN (by simp),List.eraseIdx_cons_zero]
   have:∀(l:List α) (i:Nat),j<i->((l.zipIdx i).filter (λp=> !decide (p.2=j+0))).map (λp=>g p.1)=l.map g:=by
    intro l
    induction l with
    | nil=>intro i _;rfl
    | cons b l J=>
     intro i hi
     rw[Wh,UC (by simp;omega),Uk,Uk,J (i+1) (by omega)]
   exact this l (j+1) (by omega)
 | succ k J=>
  intro l j
  cases l with
  | nil=>rfl
  | cons a l=>
   rw[Wh,UC (by simp),W7,Uk,Uk]
   congr 1
   have:=J l (j+1)
   rw[show j+1+k=j+(k+1) by omega] at this
   exact this
theorem A2{α β:Type}(l:List α)(k:Nat)(g:α->β):(l.zipIdx.filter (λp=> !decide (p.2=k))).map (λp=>g p.1)=(l.eraseIdx k).map g:=by
 have:=wZ g k l 0
 rw[Nat.zero_add] at this
 exact this
theorem N1{b:Nat}:∀(l:List Int) (k:Nat),(∀x∈l,x.natAbs<2^b)->l.length<=2^k->l.sum.natAbs<=l.length*2^b:=by
 intro l k h _
 induction l with
 | nil=>simp
 | cons a l J=>
  rw[U9,Uq,Nat.succ_mul]
  have h1:=h a Ug
  have h2:=J (λx hx=>h x (Ub _ hx)) (by simp at *;omega)
  have:=XI a l.sum
  omega
theorem pU{b c:Nat}{row l:List Int}(hr:SzL c row)(J:SzL b l)(hn:row.length<=1000):Sz (b+c+10) (ay row l):=by
 unfold ay
 have h:∀x∈UO (· * ·) row l,x.natAbs<2^(c+b):=λx hx=>by
  obtain⟨i,hi,e⟩:=Vt hx
  rw[Xo] at e
  subst e
  exact Sz.mul (hr _ (UH _)) (J _ (UH _))
 have h2:=N1 (UO (· * ·) row l) 10 h (by rw[Vu];simp;omega)
 unfold Sz
 have U:(UO (· * ·) row l).length<=1000:=by rw[Vu];omega
 have h4:(UO (· * ·) row l).length*2^(c+b)<=1000*2^(c+b):=Wt _ U
 have Y:2^(b+c+10)=1024*2^(c+b):=by rw[XJ,Nat.add_comm b c,WU]
 have h6:0<2^(c+b):=V2 _
 rw[Y]
 omega
theorem Nj{a b:List Int}(h:vI a=vI b):a=b:=by
 injection h with h
 exact(Vj (λx y e=>by cases e;rfl)).mp h
theorem JC{n:Nat}{f:FM}{ma:AM}{s s':S}{ds:List D}{d:D}{O1:aB}(h:ma s=.ok (ds,s'))(hp:aN ds=true)(J:ds.length=n)(U:f ds []=.ok (d,O1)):gn n f ma s=.ok (shD s'.o.length d,⟨s'.r,s'.o++O1.map (shC s'.o.length)⟩):=by
 rw[Jf,h,aj,if_pos ⟨hp,J⟩]
 dsimp only
 rw[U]
theorem Ba{O:aB}{k:Nat}{ds:List D}{i:Int}{d:D}(h:O[k]? =some (.lst ds))(hi:atI ds i=some d):ixD O (.ptr k) (.int i)=.ok d:=by
 show (match lsD O (D.ptr k) with
  | some ds=>match atI ds i with
   | some d=>Res.ok d
   | none=>.bad
  | none=>.bad)=_
 rw[qQ h]
 dsimp only
 rw[hi]
theorem nH{α:Type}{l:List α}{i:Nat}(h:i<l.length):atI l (i:Int)=some l[i]:=by
 rw[pG (by omega) (by omega)]
 simp
theorem iO{m:EM}{s s':S}{i j:Int}(h:m s=.ok (.int i,s')):bj (ak gtD m (aq (.int j))) s=.ok (decide (j<i),s'):=by
 rw[gx,dW,h,aj,aD,aj,o5,aj,aj]
theorem eq_test{m:EM}{s s':S}{i j:Int}(h:m s=.ok (.int i,s')):bj (ak eqD m (aq (.int j))) s=.ok (decide (i=j),s'):=by
 rw[gx,dW,h,aj,aD,aj,pk,aj,aj]
theorem vc{a b:TM}{s:S}{p q:Bool}(ha:a s=.ok (p,s))(hb:b s=.ok (q,s)):qa a b s=.ok (p&&q,s):=by
 rw[LI,ha,aj]
 cases p with
 | true=>exact hb
 | false=>rfl
theorem BY{O:aB}{a b:List D}(h:a.length+b.length<=1000000):bI O (.lst a) (.lst b)=.ok (.lst (a++b)):=by
 show (if a.length+b.length<=16777216 then Res.ok (D.lst (a++b)) else .bad)=_
 rw[if_pos (pj h)]
def tk(c e:Nat):Nat:=2^e*(c+12)-(c+11)
def lP(c n:Nat):Nat:=2^n*(c+12)
theorem Fo(c e:Nat):c+12<=2^e*(c+12):=Nat.le_mul_of_pos_left _ (V2 e)
theorem Mv(c:Nat):tk c 0=1:=by unfold tk;simp
theorem Lc(c e:Nat):2*tk c e+c+11=tk c (e+1):=by
 unfold tk
 have h:=Fo c e
 have e2:2^(e+1)*(c+12)=2*(2^e*(c+12)):=by rw[Xy,WU (2^e) 2,Xp]
 rw[e2]
 omega
theorem O5{c e n:Nat}(h:e<=n):tk c e+c+10<=lP c n:=by
 unfold tk lP
 have h1:=Fo c e
 have h2:2^e*(c+12)<=2^n*(c+12):=Wt _ (Vb (by decide) h)
 omega
theorem DU{c e n:Nat}(h:e<=n):grow (tk c e) (n-e)<=lP c n:=by
 unfold grow
 have h1:tk c e+1<=2^e*(c+12):=by unfold tk;have:=Fo c e;omega
 have h2:2^(n-e)*(tk c e+1)<=2^(n-e)*(2^e*(c+12)):=Nat.mul_le_mul_left _ h1
 have J:2^(n-e)*(2^e*(c+12))=lP c n:=by
  unfold lP
  rw[<- Xp,<- XJ,Nat.sub_add_cancel h]
 omega
theorem wV{c d n m:Nat}(h:c<=d)(hn:n<=m):lP c n<=lP d m:=by
 unfold lP
 exact Nat.mul_le_mul (Vb (by decide) hn) (by omega)
structure pA(n c:Nat)(R lists:List (List Int))(e:Nat):Prop where
 eq:R.foldl eM (cS n)=lists
 ll:∀l∈lists,l.length=n
 cnt:lists.length+e=n
 sz:dR (tk c e) lists
theorem D2(n a:Nat):SzL 1 (fb n a):=by
 intro x hx
 unfold fb at hx
 rcases VG hx with h | h
 ·rw[List.eq_of_mem_replicate h];exact Sz.zero 1
 ·rw[h];unfold Sz;decide
theorem pA.start(n c:Nat):pA n c [] (cS n) 0:=by
 refine⟨rfl,λl J=> ?_,by unfold cS;simp,λl J=> ?_⟩
 ·obtain⟨a,_,rfl⟩:=T4.mp J
  unfold fb;simp
 ·obtain⟨a,_,rfl⟩:=T4.mp J
  rw[Mv];exact D2 n a
theorem pA.step{n c e:Nat}{R lists:List (List Int)}{row:List Int}(h:pA n c R lists e)(hr:row.length=n)(hs:SzL c row)(hn:n<=1000):∃e',pA n c (R++[row]) (eM lists row) e':=by
 have U:(R++[row]).foldl eM (cS n)=eM lists row:=by rw[Wb,h.eq];rfl
 unfold eM at *
 split
 ·rename_i Y
  rw[Y] at U
  exact⟨e,U,h.ll,h.cnt,h.sz⟩
 ·rename_i k Y
  rw[Y] at U
  have k1:=(gI Y).1
  rw[T3] at k1
  have hm:=getD_mem k1
  refine⟨e+1,U,λl hl=> ?_, ?_,λl hl=> ?_⟩
  ·obtain⟨q,hq,rfl⟩:=T4.mp hl
   have J:=UP hq
   rw[nX (by rw[h.ll q J,h.ll _ hm]),h.ll q J]
  ·rw[T3,List.length_eraseIdx_of_lt k1]
   have:=h.cnt
   omega
  ·obtain⟨q,hq,rfl⟩:=T4.mp hl
   have J:=UP hq
   have hz:∀l∈lists,Sz (tk c e+c+10) (ay row l):=λl h'=>pU hs (h.sz l h') (by rw[hr];exact hn)
   exact(SzL.off (h.sz q J) (h.sz _ hm) (hz q J) (hz _ hm)).mono (by rw[<- Lc];omega)
theorem IH{n c:Nat}{rows:List (List Int)}(hn:n<=1000)(J:∀r∈rows,r.length=n)(U:dR c rows):∃e,pA n c rows (mG rows n) e:=by
 have:∀(S R lists:List (List Int)) (e:Nat),(∀r∈S,r.length=n)->dR c S->pA n c R lists e->∃e',pA n c (R++S) (S.foldl eM lists) e':=by
  intro S
  induction S with
  | nil=>intro R lists e _ _ h;exact⟨e,by simpa using h⟩
  | cons r S Y=>
   intro R lists e h1 h2 h
   obtain⟨e1,h3⟩:=h.step (h1 r Ug) (h2 r Ug) hn
   obtain⟨e2,h4⟩:=Y (R++[r]) _ e1 (λq hq=>h1 q (Ub _ hq)) (λq hq=>h2 q (Ub _ hq)) h3
   exact⟨e2,by simpa using h4⟩
 obtain⟨e,h⟩:=this rows [] (cS n) 0 J U (pA.start n c)
 rw[Uw] at h
 exact⟨e,h⟩
theorem HL{n c:Nat}{rows:List (List Int)}(hn:n<=1000)(J:∀r∈rows,r.length=n)(U:dR c rows):dR (lP c n) (br rows n):=by
 obtain⟨e,h⟩:=IH hn J U
 have hc:=h.cnt
 have:=GX h.ll h.sz
 refine this.mono ?_
 rw[show (mG rows n).length=n-e by omega]
 exact DU (by omega)
theorem hole:∀(n:Nat) (L:List Nat),L.length<n->∃f,f<n/\f∉L
 | 0,L,h=>by omega
 | n+1,L,h=>by
  by_cases hn:n∈L
  ·obtain⟨f,h1,h2⟩:=hole n (L.erase n) (by
    rw[W3 hn]
    have:=Xe hn
    omega)
   exact⟨f,by omega,λJ=>h2 ((List.mem_erase_of_ne (by omega)).mpr J)⟩
  ·exact⟨n,by omega,hn⟩
theorem Ir{P:List (Nat×List Int)}{f:Nat}{n:Nat}(pl:Pl n P)(J:∀p∈P,p.1≠f):je P f f≠0:=by
 have h1:=pl.leads_pos
 have h2:=ka (L:=iM P) (f:=f) (i:=f) J
 unfold je
 simp
 omega
theorem CU{n:Nat}{A:List (List Int)}(hA:∀r∈A,r.length=n)(h:A.length<n):∃t:Nat->Int,(∃j,j<n/\t j≠0)/\fq n A t:=by
 obtain⟨P,eP,pl,hP,U⟩:=kb hA
 obtain⟨f,hf,Y⟩:=hole n (P.map (·.1)) (by rw[T3];omega)
 have J:∀p∈P,p.1≠f:=λp hp e=>Y (T4.mpr ⟨p,hp,e⟩)
 refine⟨je P f,⟨f,hf,Ir pl J⟩,(U _).mp ?_⟩
 rw[eP]
 exact sC pl hf J
def Indep(n:Nat)(V:List (List Int)):Prop:=∀t:Nat->Int,(∀i,i<n->bq V.length (λj=>t j*nth (V.getD j []) i)=0)->∀j,j<V.length->t j=0
theorem Bw{n:Nat}{V W:List (List Int)}(hV:Indep n V)(h:∀v∈V,mI n W (nth v)):V.length<=W.length:=by
 refine UZ λa0=> ?_
 have ch:∀j,∃k:Int,∃T:List Int,j<V.length->k≠0/\∀i,i<n->k*nth (V.getD j []) i=iH T W i:=λj=>by
  by_cases J:j<V.length
  ·obtain⟨k,hk,T,_,e⟩:=h (V.getD j []) (getD_mem J)
   exact⟨k,T,λ_=>⟨hk,e⟩⟩
  ·exact⟨1,[],λz=>absurd z J⟩
 obtain⟨kf,ac⟩:=W8 ch
 obtain⟨U,Y⟩:=W8 ac
 obtain⟨t,⟨j0,ab,am⟩,hn⟩:=CU (n:=V.length) (A:=(T9 W.length).map λm=>(T9 V.length).map λj=>nth (U j) m) (λr hr=>by
  obtain⟨m,_,rfl⟩:=T4.mp hr
  simp) (by simp;omega)
 have an:∀m,m<W.length->bq V.length (λj=>nth (U j) m*t j)=0:=λm hm=>by
  have:=hn _ (T4.mpr ⟨m,UD.mpr hm,rfl⟩)
  rw[<- this]
  refine cK λj J=> ?_
  congr 1
  unfold nth
  simp[Fm,Us,VM,J]
 have hz:=hV (λj=>t j*kf j) (λi hi=> ?_) j0 ab
 ·rcases UQ.mp hz with q | q
  ·exact am q
  ·exact(Y j0 ab).1 q
 ·have e1:bq V.length (λj=>t j*kf j*nth (V.getD j []) i)=bq V.length (λj=>bq W.length λm=>t j*(nth (U j) m*nth (W.getD m []) i)):=cK λj J=>by
   rw[Wf,(Y j J).2 i hi]
   unfold iH
   rw[eJ]
  rw[e1,qm]
  refine fC λm hm=> ?_
  have e2:bq V.length (λj=>t j*(nth (U j) m*nth (W.getD m []) i))=nth (W.getD m []) i*bq V.length (λj=>nth (U j) m*t j):=by
   rw[<- eJ]
   refine cK λj J=> ?_
   rw[<- Wf,VY (nth (W.getD m []) i),VY (t j)]
  rw[e2,an m hm,Wv]
theorem BG{n:Nat}{P:List (Nat×List Int)}(pl:Pl n P):Indep n (P.map (·.2)):=λt h j J=>by
 rw[T3] at J
 have hg:∀j (J:j<P.length),(P.map (·.2)).getD j []=P[j].2:=λj J=>by simp[Fm,T7 J]
 have hm:P[j]∈P:=UH J
 have g:=pl.good _ hm
 have e:=h P[j].1 g.lt
 rw[T3,lU (k:=j) J λm U ab=> ?_,hg j J] at e
 ·rcases UQ.mp e with q | q
  ·exact q
  ·have:=g.pos
   omega
 ·rw[hg m U]
  have ac:P[m]∈P:=UH U
  have Y:P[m].1≠P[j].1:=by
   have pw:=V3.mp pl.pw
   rcases Nat.lt_or_gt_of_ne ab with q | q
   ·exact UB (pw m j U J q).1
   ·exact Xu (pw j m J U q).1
  rw[pl.other ac hm Y,Wv]
theorem rE{n j:Nat}(J:j<n):(cS n).getD j []=fb n j:=by
 unfold cS
 simp[Fm,Us,VM,J]
theorem iQ(n:Nat):(cS n).length=n:=by unfold cS;simp
theorem CS(n:Nat):Indep n (cS n):=λt h j J=>by
 rw[iQ] at J
 have e:=h j J
 rw[iQ,lU (k:=j) J λm hm U=> ?_,rE J,ef J,if_pos rfl,Int.mul_one] at e
 ·exact e
 ·rw[rE hm,ef hm,if_neg (λz=>U z.symm),Wv]
theorem AE(n:Nat)(x:Nat->Int):mI n (cS n) x:=⟨1,by decide,(T9 n).map x,by rw[iQ];simp,λi hi=>by
 unfold iH
 rw[iQ,lU (k:=i) hi λm hm J=> ?_,rE hi,ef hi,if_pos rfl]
 ·unfold nth
  simp[Fm,Us,VM,hi]
 ·rw[rE hm,ef hm,if_neg (λz=>J z.symm),Wv]⟩
theorem sq_nonneg(a:Int):0<=a*a:=by
 rcases Int.le_total 0 a with h | h
 ·exact U4 h h
 ·have:=U4 (show 0<= -a by omega) (show 0<= -a by omega)
  rwa [Int.neg_mul_neg] at this
theorem sT(z:Nat->Int):∀n,0<=bq n λi=>z i*z i
 | 0=>Int.le_refl 0
 | n+1=>by
  have:=sT z n
  have:=sq_nonneg (z n)
  show 0<=bq n _+z n*z n
  omega
theorem yC{z:Nat->Int}:∀{n:Nat},(bq n λi=>z i*z i)=0->∀i,i<n->z i=0
 | 0,_,i,hi=>by omega
 | n+1,h,i,hi=>by
  have h1:=sT z n
  have h2:=sq_nonneg (z n)
  have U:(bq n λi=>z i*z i)+z n*z n=0:=h
  rcases XA i n with q | q
  ·exact yC (n:=n) (by omega) i q
  ·have:i=n:=by omega
   subst this
   have J:z i*z i=0:=by omega
   rcases UQ.mp J with r | r <;> exact r
theorem count{n:Nat}{R:List (List Int)}(U:∀r∈R,r.length=n):(br R n).length+(bT R n).length=n:=by
 obtain⟨P,eP,pl,_,a1⟩:=kb U
 have hS:=oO U
 obtain⟨Q,eQ,ql,_,_⟩:=lV U
 have ab:∀s∈br R n,∀p∈bT R n,cq n (nth s) (nth p)=0:=λs hs p hp=>by
  obtain⟨_,_,_,h3,_⟩:=lV hS
  rw[vE U] at h3
  rw[bS]
  exact h3 s hs p hp
 have ap:∀z:Nat->Int,fq n (bT R n) z->mI n (br R n) z:=λz hz=>by
  refine(sf hS z).mp ?_
  rw[vE U]
  exact hz
 have J:∀(t:Nat->Int) (A B:List (List Int)) (i:Nat),bq (A++B).length (λj=>t j*nth ((A++B).getD j []) i)=bq A.length (λj=>t j*nth (A.getD j []) i)+bq B.length (λj=>t (A.length+j)*nth (B.getD j []) i):=λt A B i=>by
  have split:∀(a b:Nat) (f:Nat->Int),bq (a+b) f=bq a f+bq b λj=>f (a+j):=λa b f=>by
   induction b with
   | zero=>show bq a f=bq a f+0;omega
   | succ b ih=>
    show bq (a+b) f+f (a+b)=bq a f+(bq b (λj=>f (a+j))+f (a+b))
    rw[ih];omega
  rw[Uv,split]
  congr 1
  ·exact cK λj Y=>by rw[Fm,Ut Y,<- Fm]
  ·exact cK λj Y=>by rw[Fm,Ui (by omega),Vs,<- Fm]
 have lo:n<=(br R n++bT R n).length:=by
  have:=Bw (n:=n) (V:=cS n) (W:=br R n++bT R n) (CS n) λv _=>by
   have hA:∀r∈br R n++bT R n,r.length=n:=λr hr=>by
    rcases Uj.mp hr with q | q
    ·exact hS r q
    ·exact oS U r q
   refine(sf hA _).mp λz hz=> ?_
   obtain⟨_,_,_,h3,_⟩:=lV hA
   have zP:fq n (bT R n) (nth z):=λp hp=>by rw[ik,bS];exact h3 p (by simp[hp]) z hz
   have zS:fq n (br R n) (nth z):=λp hp=>by rw[ik,bS];exact h3 p (by simp[hp]) z hz
   have zz:=(ap (nth z) zP).dot zS
   have z0:=yC zz
   rw[ik]
   exact fC λi hi=>by rw[z0 i hi,Int.zero_mul]
  rwa [iQ] at this
 have hi:(br R n++bT R n).length<=n:=by
  have:=Bw (n:=n) (V:=br R n++bT R n) (W:=cS n) (λt h=> ?_) λv _=>AE n _
  ·rwa [iQ] at this
  ·have y0:∀i,i<n->bq (br R n).length (λj=>t j*nth ((br R n).getD j []) i)=0:=by
    refine yC (z:=λi=>bq (br R n).length (λj=>t j*nth ((br R n).getD j []) i)) ?_
    have e1:∀i,i<n->bq (br R n).length (λj=>t j*nth ((br R n).getD j []) i)= - bq (bT R n).length (λj=>t ((br R n).length+j)*nth ((bT R n).getD j []) i):=λi hi=>by
     have:=h i hi
     rw[J] at this
     omega
    have am:∀(a b:Nat) (f g:Nat->Int),bq a f*bq b g=bq a λj=>bq b λm=>f j*g m:=λa b f g=>by
     rw[VY,<- eJ]
     refine cK λj _=> ?_
     rw[VY,<- eJ]
    have e2:(bq n λi=>(bq (br R n).length λj=>t j*nth ((br R n).getD j []) i)*(bq (br R n).length λj=>t j*nth ((br R n).getD j []) i))=bq n λi=>(-1)*((bq (br R n).length λj=>t j*nth ((br R n).getD j []) i)*(bq (bT R n).length λj=>t ((br R n).length+j)*nth ((bT R n).getD j []) i)):=cK λi hi=>by
     conv=>lhs;arg 2;rw[e1 i hi]
     rw[Int.mul_neg]
     omega
    rw[e2,eJ]
    have e3:(bq n λi=>(bq (br R n).length λj=>t j*nth ((br R n).getD j []) i)*(bq (bT R n).length λj=>t ((br R n).length+j)*nth ((bT R n).getD j []) i))=bq n λi=>bq (br R n).length λj=>bq (bT R n).length λm=>(t j*t ((br R n).length+m))*(nth ((br R n).getD j []) i*nth ((bT R n).getD m []) i):=cK λi _=>by
     rw[am]
     refine cK λj _=>cK λm _=> ?_
     rw[Wf,Wf,Int.mul_left_comm (nth ((br R n).getD j []) i)]
    rw[e3,qm]
    suffices q:bq (br R n).length (λj=>bq n λi=>bq (bT R n).length λm=>(t j*t ((br R n).length+m))*(nth ((br R n).getD j []) i*nth ((bT R n).getD m []) i))=0 by rw[q];rfl
    refine fC λj Y=> ?_
    rw[qm]
    refine fC λm hm=> ?_
    rw[eJ]
    have:=ab _ (getD_mem Y) _ (getD_mem hm)
    unfold cq at this
    rw[this,Wv]
   have p0:∀i,i<n->bq (bT R n).length (λj=>t ((br R n).length+j)*nth ((bT R n).getD j []) i)=0:=λi hi=>by
    have:=h i hi
    rw[J,y0 i hi] at this
    omega
   have iS:Indep n (br R n):=by rw[eQ];exact BG ql
   have iP:Indep n (bT R n):=by rw[eP];exact BG pl
   intro j Y
   rw[Uv] at Y
   rcases XA j (br R n).length with q | q
   ·exact iS t y0 j q
   ·have:=iP (λm=>t ((br R n).length+m)) p0 (j-(br R n).length) (by omega)
    rwa [show (br R n).length+(j-(br R n).length)=j by omega] at this
 rw[Uv] at lo hi
 omega
structure Fit(n:Nat)(R:List (List Int))(x:List Int):Prop where
 len:x.length=n
 nn:∀i,0<=nth x i
 st:∀r∈R,cq n (nth r) (nth x)=0
 nz:∃i,nth x i≠0
def Sub(x y:List Int):Prop:=∀i,nth x i≠0->nth y i≠0
structure d9(n:Nat)(R:List (List Int))(x:List Int):Prop where
 fit:Fit n R x
 one:cZ x=1
 min:∀y,Fit n R y->Sub y x->Sub x y
theorem Sub.refl(x:List Int):Sub x x:=λ_ h=>h
theorem Sub.trans{x y z:List Int}(a:Sub x y)(b:Sub y z):Sub x z:=λi h=>b i (a i h)
theorem Fit.lt{n:Nat}{R:List (List Int)}{x:List Int}(f:Fit n R x){i:Nat}(h:nth x i≠0):i<n:=by
 by_cases hi:i<n
 ·exact hi
 ·exact absurd (kr (by rw[f.len];omega)) h
theorem Fit.low{n:Nat}{R:List (List Int)}{x:List Int}(f:Fit n R x):Fit n R (low x)/\cZ (M.low x)=1/\Sub (M.low x) x/\Sub x (M.low x):=by
 have hp:=qj x
 have hi:∀i,nth (M.low x) i≠0↔nth x i≠0:=λi=>by
  rw[qW x i]
  constructor
  ·exact λh=>Xd (by omega) h
  ·intro h z;rw[z] at h;exact h (by omega)
 obtain⟨j,J⟩:=f.nz
 refine⟨⟨by rw[low_length,f.len],λi=> ?_,λr hr=> ?_,⟨j,(hi j).mpr J⟩⟩,DX J,λi=>(hi i).mp,λi=>(hi i).mpr⟩
 ·have:=f.nn i
  rw[qW x i] at this
  by_cases h:0<=nth (M.low x) i
  ·exact h
  ·have:=V4 hp (by omega:nth (M.low x) i<0);omega
 ·have:=f.st r hr
  rw[bS]
  rw[bS] at this
  exact(vY n x (nth r)).mpr this
theorem CJ{a b c d e f:Int}(hb:0<b)(hd:0<d)(J:0<f)(h1:a*d<=c*b)(h2:c*f<=e*d):a*f<=e*b:=by
 have e1:a*d*f<=c*b*f:=Ww h1 (by omega)
 have e2:c*f*b<=e*d*b:=Ww h2 (by omega)
 have:(a*f)*d<=(e*b)*d:=by
  have q1:a*d*f=(a*f)*d:=by grind
  have q2:c*b*f=c*f*b:=by grind
  have U:e*d*b=(e*b)*d:=by grind
  omega
 exact Int.le_of_mul_le_mul_right this hd
theorem Gy(a b:Nat->Int)(hb:∀i,0<=b i):∀n,(∃i,i<n/\b i≠0)->∃m,m<n/\b m≠0/\∀i,i<n->b i≠0->a m*b i<=a i*b m
 | 0,h=>by obtain⟨i,hi,_⟩:=h;omega
 | n+1,h=>by
  by_cases hn:∃i,i<n/\b i≠0
  ·obtain⟨m,hm,hz,Y⟩:=Gy a b hb n hn
   by_cases U:b n=0
   ·refine⟨m,by omega,hz,λi hi J=> ?_⟩
    by_cases e:i=n
    ·subst e;exact absurd U J
    ·exact Y i (by omega) J
   ·by_cases hc:a m*b n<=a n*b m
    ·refine⟨m,by omega,hz,λi hi J=> ?_⟩
     by_cases e:i=n
     ·subst e;exact hc
     ·exact Y i (by omega) J
    ·refine⟨n,by omega,U,λi hi J=> ?_⟩
     by_cases e:i=n
     ·subst e;omega
     ·have:=hb n;have:=hb m;have:=hb i
      exact CJ (by omega) (by omega:0<b m) (by omega) (by omega) (Y i (by omega) J)
  ·obtain⟨i,hi,J⟩:=h
   have e:i=n:=by
    by_cases e:i=n
    ·exact e
    ·exact absurd ⟨i,by omega,J⟩ hn
   subst e
   refine⟨i,by omega,J,λj hj ab=> ?_⟩
   by_cases e:j=i
   ·subst e;omega
   ·exact absurd ⟨j,by omega,ab⟩ hn
theorem v8{n:Nat}{R:List (List Int)}{x y:List Int}(fx:Fit n R x)(Y:Fit n R y)(hs:Sub y x):
 ∃z:List Int,z.length=n/\(∀i,0<=nth z i)/\Sub z x/\∃c d:Int,0<c/\0<d/\(∀i,nth z i=c*nth x i-d*nth y i)/\∃m,nth y m≠0/\nth z m=0:=by
 obtain⟨j,hj⟩:=Y.nz
 obtain⟨m,hm,hz,hl⟩:=Gy (nth x) (nth y) Y.nn n ⟨j,Y.lt hj,hj⟩
 have U:x.length=y.length:=by rw[fx.len,Y.len]
 have az:=fx.nn m
 have ac:=Y.nn m
 have ap:=hs m hz
 have J:∀i,nth (mm x (nth x m) y (nth y m)) i=nth y m*nth x i-nth x m*nth y i:=λi=>by rw[BN U];grind
 refine⟨mm x (nth x m) y (nth y m),by rw[qz U,fx.len],λi=> ?_,λi hi=> ?_,nth y m,nth x m,by omega,by omega,J,m,hz,by rw[J];grind⟩
 ·rw[J]
  by_cases hy:nth y i=0
  ·rw[hy]
   have:=U4 ac (fx.nn i)
   omega
  ·have:=hl i (Y.lt hy) hy
   have:nth y m*nth x i=nth x i*nth y m:=VY _ _
   omega
 ·rw[J] at hi
  intro z
  apply hi
  have:nth y i=0:=by
   by_cases hy:nth y i=0
   ·exact hy
   ·exact absurd z (hs i hy)
  rw[z,this];omega
theorem ya{n:Nat}{x y z:List Int}{c d:Int}(h:∀i,nth z i=c*nth x i-d*nth y i)(r:Nat->Int):cq n r (nth z)=c*cq n r (nth x)-d*cq n r (nth y):=by
 have:=zI (n:=n) (a:=nth x) (b:=nth y) (u:=c) (v:= -d) r
 rw[bS,xC (b:=λi=>c*nth x i + -d*nth y i) (λi _=>by rw[h i];grind),bS,this]
 grind
theorem yQ{n:Nat}{R:List (List Int)}{x y z:List Int}(J:Fit n R x)(U:Fit n R y)(Y:z.length=n)(hn:∀i,0<=nth z i){c d:Int}(h:∀i,nth z i=c*nth x i-d*nth y i)(hz:∃i,nth z i≠0):Fit n R z:=
 ⟨Y,hn,λr hr=>by rw[ya h,J.st r hr,U.st r hr];omega,hz⟩
theorem d9.prop{n:Nat}{R:List (List Int)}{x y:List Int}(l:d9 n R x)(U:Fit n R y)(Y:Sub y x):∃a b:Int,0<a/\0<b/\∀i,a*nth x i=b*nth y i:=by
 obtain⟨z,zl,zn,zs,c,d,hc,hd,h,m,hm,J⟩:=v8 l.fit U Y
 by_cases hz:∃i,nth z i≠0
 ·have fz:=yQ l.fit U zl zn h hz
  exact absurd J (l.min z fz zs m (Y m hm))
 ·refine⟨c,d,hc,hd,λi=> ?_⟩
  have:nth z i=0:=by
   by_cases e:nth z i=0
   ·exact e
   ·exact absurd ⟨i,e⟩ hz
  rw[h i] at this
  omega
theorem d9.eq{n:Nat}{R:List (List Int)}{x y:List Int}(l:d9 n R x)(J:Fit n R y)(h1:cZ y=1)(U:Sub y x):x=y:=by
 obtain⟨a,b,ha,hb,h⟩:=l.prop J U
 exact DL (by rw[l.fit.len,J.len]) l.one h1 ha hb λi _=>h i
def cnt(x:List Int):Nat:=(x.filter (·≠0)).length
theorem GA:∀{x y:List Int},x.length=y.length->Sub x y->cnt x<=cnt y
 | [],[],_,_=>Ud _
 | a::x,b::y,hl,hs=>by
  have J:=GA (x:=x) (y:=y) (by simpa using hl) λi h=>hs (i+1) h
  have h0:a≠0->b≠0:=hs 0
  unfold cnt at *
  by_cases ha:a=0
  ·rw[UN (by simpa using ha)]
   by_cases hb:b=0
   ·rw[UN (by simpa using hb)];exact J
   ·rw[UC (by simpa using hb),Uq];omega
  ·rw[UC (by simpa using ha),UC (by simpa using h0 ha),Uq,Uq];omega
theorem tK:∀{x y:List Int} {m:Nat},x.length=y.length->Sub x y->nth y m≠0->nth x m=0->cnt x<cnt y
 | [],[],m,_,_,h,_=>by simp[nth] at h
 | a::x,b::y,0,hl,hs,h,h'=>by
  have J:=GA (x:=x) (y:=y) (by simpa using hl) λi h=>hs (i+1) h
  have ha:a=0:=h'
  have hb:b≠0:=h
  unfold cnt at *
  rw[UN (by simpa using ha),UC (by simpa using hb),Uq];omega
 | a::x,b::y,m+1,hl,hs,h,h'=>by
  have J:=tK (x:=x) (y:=y) (m:=m) (by simpa using hl) (λi h=>hs (i+1) h) h h'
  have h0:a≠0->b≠0:=hs 0
  unfold cnt at *
  by_cases ha:a=0
  ·rw[UN (by simpa using ha)]
   by_cases hb:b=0
   ·rw[UN (by simpa using hb)];exact J
   ·rw[UC (by simpa using hb),Uq];omega
  ·rw[UC (by simpa using ha),UC (by simpa using h0 ha),Uq,Uq];omega
theorem yM{n:Nat}{R:List (List Int)}:∀(k:Nat) {x:List Int},cnt x<=k->Fit n R x->∃l,d9 n R l/\Sub l x:=by
 intro k
 induction k with
 | zero=>
  intro x hk f
  obtain⟨i,hi⟩:=f.nz
  have:cnt (Uo n (0:Int))<cnt x:=tK (m:=i) (by rw[f.len];simp) (λj h=>by
   exfalso;apply h
   unfold nth
   rw[Fm,US]
   split <;> rfl) hi (by
   unfold nth
   rw[Fm,US]
   split <;> rfl)
  omega
 | succ k ih=>
  intro x hk f
  by_cases h:∃y,Fit n R y/\Sub y x/\¬Sub x y
  ·obtain⟨y,J,h1,h2⟩:=h
   have:∃m,nth x m≠0/\nth y m=0:=by
    apply UZ
    intro hn
    exact h2 λi hi=>λz=>hn ⟨i,hi,z⟩
   obtain⟨m,hm,U⟩:=this
   have:=tK (by rw[J.len,f.len]) h1 hm U
   obtain⟨l,hl,Y⟩:=ih (x:=y) (by omega) J
   exact⟨l,hl,Y.trans h1⟩
  ·obtain⟨q1,q2,q3,q4⟩:=f.low
   refine⟨low x,⟨q1,q2,λy J Y=> ?_⟩,q3⟩
   apply UZ
   intro hn
   exact h ⟨y,J,Y.trans q3,λz=>hn (q3.trans z)⟩
theorem xc{n:Nat}{R:List (List Int)}(r:List Int):∀(k:Nat) {x:List Int},cnt x<=k->Fit n R x->0<cq n (nth r) (nth x)->∃l,d9 n R l/\Sub l x/\0<cq n (nth r) (nth l):=by
 intro k
 induction k with
 | zero=>
  intro x hk f hv
  obtain⟨l,J,U⟩:=yM 0 hk f
  obtain⟨i,hi⟩:=f.nz
  have:cnt (Uo n (0:Int))<cnt x:=tK (m:=i) (by rw[f.len];simp) (λj h=>by
   exfalso;apply h
   unfold nth
   rw[Fm,US]
   split <;> rfl) hi (by
   unfold nth
   rw[Fm,US]
   split <;> rfl)
  omega
 | succ k ih=>
  intro x hk f hv
  obtain⟨l,J,U⟩:=yM (k+1) hk f
  by_cases hp:0<cq n (nth r) (nth l)
  ·exact⟨l,J,U,hp⟩
  ·obtain⟨z,zl,zn,zs,c,d,hc,hd,h,m,hm,Y⟩:=v8 f J.fit U
   have ev:=ya (n:=n) h (nth r)
   have h1:=Vh hc hv
   have h2:=Wa (show 0<=d by omega) (show cq n (nth r) (nth l)<=0 by omega)
   have hz:∃i,nth z i≠0:=by
    apply UZ
    intro hn
    have:cq n (nth r) (nth z)=0:=fC λi _=>by
     have:nth z i=0:=by
      by_cases e:nth z i=0
      ·exact e
      ·exact absurd ⟨i,e⟩ hn
     rw[this];omega
    omega
   have fz:=yQ f J.fit zl zn h hz
   have:=tK (by rw[zl,f.len]) zs (U m hm) Y
   obtain⟨l',q1,q2,q3⟩:=ih (x:=z) (by omega) fz (by omega)
   exact⟨l',q1,q2.trans zs,q3⟩
theorem lF(n:Nat)(r x:List Int):cq n (nth (r.map (- ·))) (nth x)= -cq n (nth r) (nth x):=by
 have:=su (n:=n) (a:=r.map (- ·)) (c:=r) (g:= -1) (λi=>by rw[nA (by simp)];omega) (nth x)
 rw[<- ik,this,ik];omega
theorem Fw{n:Nat}{R:List (List Int)}(r:List Int){x:List Int}(f:Fit n R x)(U:cq n (nth r) (nth x)<0):∃l,d9 n R l/\Sub l x/\cq n (nth r) (nth l)<0:=by
 obtain⟨l,h1,h2,J⟩:=xc (r.map (- ·)) _ (Ud _) f (by rw[lF];omega)
 rw[lF] at J
 exact⟨l,h1,h2,by omega⟩
theorem zG{n:Nat}{R:List (List Int)}(r:List Int){x:List Int}(f:Fit n R x)(hv:cq n (nth r) (nth x)=0):
 (∃l,d9 n R l/\Sub l x/\cq n (nth r) (nth l)=0)\/∃h w,d9 n R h/\d9 n R w/\Sub h x/\Sub w x/\0<cq n (nth r) (nth h)/\cq n (nth r) (nth w)<0:=by
 obtain⟨l,J,U⟩:=yM _ (Ud _) f
 by_cases h0:cq n (nth r) (nth l)=0
 ·exact .inl ⟨l,J,U,h0⟩
 ·obtain⟨z,zl,zn,zs,c,d,hc,hd,h,m,hm,a1⟩:=v8 f J.fit U
  have ev:=ya (n:=n) h (nth r)
  rw[hv] at ev
  have Y:cq n (nth r) (nth z)≠0:=by
   rw[ev]
   have:=Xd (show d≠0 by omega) h0
   omega
  have hz:∃i,nth z i≠0:=by
   apply UZ
   intro hn
   exact Y (fC λi _=>by
    have:nth z i=0:=by
     by_cases e:nth z i=0
     ·exact e
     ·exact absurd ⟨i,e⟩ hn
    rw[this];omega)
  have fz:=yQ f J.fit zl zn h hz
  by_cases hp:0<cq n (nth r) (nth l)
  ·have:=Vh hd hp
   obtain⟨w,w1,w2,w3⟩:=Fw r fz (by omega)
   exact .inr ⟨l,w,J,w1,U,w2.trans zs,hp,w3⟩
  ·have:=V4 hd (show cq n (nth r) (nth l)<0 by omega)
   obtain⟨w,w1,w2,w3⟩:=xc r _ (Ud _) fz (by omega)
   exact .inr ⟨w,l,w1,J,w2.trans zs,U,w3,by omega⟩
def subB(n:Nat)(l h w:List Int):Bool:=(T9 n).all λi=>decide (nth l i=0)||decide (nth h i≠0)||decide (nth w i≠0)
def nbB(n:Nat)(L:List (List Int))(h w:List Int):Bool:=(L.filter λl=>subB n l h w).length == 2
def d5(n:Nat)(L:List (List Int))(r:List Int):List (List Int):=
 (L.filter λl=>decide (ay r l=0))++(L.filter λl=>decide (0<ay r l)).flatMap λh=>((L.filter λl=>decide (ay r l<0)).filter λw=>nbB n L h w).map λw=>dq w (ay r w) h (ay r h)
theorem wc{n:Nat}{l h w:List Int}(J:l.length=n):subB n l h w=true↔∀i,nth l i≠0->nth h i≠0\/nth w i≠0:=by
 unfold subB
 rw[V1]
 constructor
 ·intro H i hi
  have lt:i<n:=by
   by_cases e:i<n
   ·exact e
   ·exact absurd (kr (by omega)) hi
  have:=H i (UD.mpr lt)
  simp only[Wx,decide_eq_true_eq] at this
  rcases this with(z | z) | z
  ·exact absurd z hi
  ·exact .inl z
  ·exact .inr z
 ·intro H i _
  simp only[Wx,decide_eq_true_eq]
  by_cases e:nth l i=0
  ·exact .inl (.inl e)
  ·rcases H i e with z | z
   ·exact .inl (.inr z)
   ·exact .inr z
theorem Ft{α:Type}{L:List α}(hd:L.Nodup)(J:L.length=2){h w:α}(Y:h∈L)(hw:w∈L)(U:h≠w):∀l∈L,l=h\/l=w:=by
 match L,J with
 | [a,b],_=>
  intro l J
  simp only[Um,Vv,or_false] at Y hw J
  rcases Y with rfl | rfl <;> rcases hw with rfl | rfl <;> rcases J with rfl | rfl <;> first | exact .inl rfl | exact .inr rfl | exact absurd rfl U
theorem FR{α:Type}{L:List α}(hd:L.Nodup){h w:α}(J:h∈L)(U:w∈L)(Y:h≠w)(ha:∀l∈L,l=h\/l=w):L.length=2:=by
 have h1:L.length<=2:=by
  match L,hd with
  | [],_=>simp
  | [_],_=>simp
  | [_,_],_=>simp
  | a::b::c::r,hd=>
   exfalso
   have ab:=ha a (by simp);have ac:=ha b (by simp);have am:=ha c (by simp)
   simp only[Vd,Um,not_or] at hd
   rcases ab with e1 | e1 <;> rcases ac with e2 | e2 <;> rcases am with e3 | e3 <;> simp_all
 match L,J,U,h1 with
 | [a],J,U,_=>
  simp only[Ul] at J U
  exact absurd (J.trans U.symm) Y
 | [a,b],_,_,_=>rfl
section
variable {n : Nat} {R L : List (List Int)} {r : List Int}
structure ko(n:Nat)(R L:List (List Int)):Prop where
 all:∀x,x∈L↔d9 n R x
 nd:L.Nodup
theorem ko.dot(k:ko n R L){l:List Int}(h:l∈L)(r:List Int):ay r l=cq n (nth r) (nth l):=iw ((k.all l).mp h).fit.len
theorem xB(k:ko n R L){h w:List Int}(hh:h∈L)(hw:w∈L)(J:h≠w):nbB n L h w=true↔∀l∈L,(∀i,nth l i≠0->nth h i≠0\/nth w i≠0)->l=h\/l=w:=by
 have mem:∀l,l∈L.filter (λl=>subB n l h w)↔l∈L/\∀i,nth l i≠0->nth h i≠0\/nth w i≠0:=λl=>by
  rw[Uy]
  constructor
  ·exact λ⟨a,b⟩=>⟨a,(wc ((k.all l).mp a).fit.len).mp b⟩
  ·exact λ⟨a,b⟩=>⟨a,(wc ((k.all l).mp a).fit.len).mpr b⟩
 have Y:(L.filter (λl=>subB n l h w)).Nodup:=k.nd.filter _
 have m1:h∈L.filter (λl=>subB n l h w):=(mem h).mpr ⟨hh,λi hi=>.inl hi⟩
 have m2:w∈L.filter (λl=>subB n l h w):=(mem w).mpr ⟨hw,λi hi=>.inr hi⟩
 unfold nbB
 rw[beq_iff_eq]
 constructor
 ·exact λU l h1 h2=>Ft Y U m1 m2 J l ((mem l).mpr ⟨h1,h2⟩)
 ·exact λha=>FR Y m1 m2 J λl U=>let ⟨a,b⟩:=(mem l).mp U;ha l a b
theorem nk(hr:r.length=n){h w:List Int}(U:Fit n R h)(Y:Fit n R w)(vh:0<ay r h)(vw:ay r w<0):
 Fit n (R++[r]) (dq w (ay r w) h (ay r h))/\cZ (dq w (ay r w) h (ay r h))=1/\(∀i,nth (dq w (ay r w) h (ay r h)) i≠0↔nth h i≠0\/nth w i≠0)/\
 ∃g:Int,0<g/\∀i,g*nth (dq w (ay r w) h (ay r h)) i=nth w i*ay r h+nth h i*(-(ay r w)):=by
 have J:w.length=h.length:=by rw[Y.len,U.len]
 obtain⟨g,hg,e⟩:=rS J (ay r w) (ay r h)
 have e':∀i,g*nth (dq w (ay r w) h (ay r h)) i=nth w i*ay r h+nth h i*(-(ay r w)):=λi=>by rw[e i];grind
 have nz:∀i,nth (dq w (ay r w) h (ay r h)) i≠0↔nth h i≠0\/nth w i≠0:=λi=>by
  have h1:=U4 (Y.nn i) (show 0<=ay r h by omega)
  have h2:=U4 (U.nn i) (show 0<= -(ay r w) by omega)
  constructor
  ·intro hz
   apply UZ
   intro hn
   have q1:nth h i=0:=by
    by_cases q:nth h i=0
    ·exact q
    ·exact absurd (.inl q) hn
   have q2:nth w i=0:=by
    by_cases q:nth w i=0
    ·exact q
    ·exact absurd (.inr q) hn
   have:=e' i
   rw[q1,q2] at this
   have:g*nth (dq w (ay r w) h (ay r h)) i=0:=by rw[this];omega
   rcases UQ.mp this with z | z
   ·omega
   ·exact hz z
  ·intro ac z
   have:=e' i
   rw[z] at this
   have hs:nth w i*ay r h+nth h i*(-(ay r w))=0:=by omega
   rcases ac with q | q
   ·have:=Vh (show 0<nth h i by have:=U.nn i;omega) (show 0 < -(ay r w) by omega);omega
   ·have:=Vh (show 0<nth w i by have:=Y.nn i;omega) vh;omega
 have one:cZ (dq w (ay r w) h (ay r h))=1:=by
  obtain⟨i,hi⟩:=U.nz
  have q:nth (dq w (ay r w) h (ay r h)) i≠0:=(nz i).mpr (.inl hi)
  exact sJ _ i q
 refine⟨⟨by rw[nX J,Y.len],λi=> ?_,λq hq=> ?_, ?_⟩,one,nz,g,hg,e'⟩
 ·have h1:=U4 (Y.nn i) (show 0<=ay r h by omega)
  have h2:=U4 (U.nn i) (show 0<= -(ay r w) by omega)
  have:=e' i
  by_cases z:0<=nth (dq w (ay r w) h (ay r h)) i
  ·exact z
  ·have:=V4 hg (show nth (dq w (ay r w) h (ay r h)) i<0 by omega);omega
 ·obtain⟨g',az,ed⟩:=wy (n:=n) J (ay r w) (ay r h) (nth q)
  simp only[ik] at ed
  rw[bS]
  have z:g'*cq n (nth (dq w (ay r w) h (ay r h))) (nth q)=0:=by
   rw[ed,bS n (nth w),bS n (nth h)]
   rcases Uj.mp hq with hq | hq
   ·rw[Y.st q hq,U.st q hq];omega
   ·rw[Ul.mp hq,<- iw Y.len,<- iw U.len];grind
  rcases UQ.mp z with z | z
  ·omega
  ·exact z
 ·obtain⟨i,hi⟩:=U.nz
  exact⟨i,(nz i).mpr (.inl hi)⟩
theorem Fit.less{R S:List (List Int)}{x:List Int}(f:Fit n (R++S) x):Fit n R x:=⟨f.len,f.nn,λr hr=>f.st r (Va _ hr),f.nz⟩
theorem Fit.more(f:Fit n R x)(h:cq n (nth r) (nth x)=0):Fit n (R++[r]) x:=⟨f.len,f.nn,λq hq=>by
 rcases Uj.mp hq with z | z
 ·exact f.st q z
 ·rw[Ul.mp z];exact h,f.nz⟩
theorem d9.same{x y:List Int}(a:d9 n R x)(b:d9 n R y)(h:Sub y x):x=y:=a.eq b.fit b.one h
theorem vt(hr:r.length=n){h l w x:List Int}(J:d9 n R h)(ll:d9 n R l)(lw:d9 n R w)(U:d9 n (R++[r]) x)(vh:0<ay r h)(vl:0<ay r l)(Y:ay r w<0)(sh:Sub h x)(sl:Sub l x)(sw:Sub w x):l=h:=by
 obtain⟨f1,g1,z1,a,ha,e1⟩:=nk hr J.fit lw.fit vh Y
 obtain⟨f2,g2,z2,b,hb,e2⟩:=nk hr ll.fit lw.fit vl Y
 have x1:=U.eq f1 g1 λi hi=>((z1 i).mp hi).elim (sh i) (sw i)
 have x2:=U.eq f2 g2 λi hi=>((z2 i).mp hi).elim (sl i) (sw i)
 rw[<- x1] at e1
 rw[<- x2] at e2
 have key:∀i,b*(nth h i*(-(ay r w)))+(b*ay r h-a*ay r l)*nth w i=a*(nth l i*(-(ay r w))):=λi=>by
  have q1:=e1 i
  have q2:=e2 i
  have:b*(a*nth x i)=a*(b*nth x i):=by grind
  rw[q1,q2] at this
  grind
 have hu:0 < -(ay r w):=by omega
 by_cases hm:0<=b*ay r h-a*ay r l
 ·refine(d9.same ll J λi hi=> ?_)
  intro z
  have q:=key i
  rw[z] at q
  have h1:=Vh hb (Vh (show 0<nth h i by have:=J.fit.nn i;omega) hu)
  have h2:=U4 hm (lw.fit.nn i)
  have h3:a*(0*(-(ay r w)))=0:=by simp
  omega
 ·refine(d9.same J ll λi hi=> ?_).symm
  intro z
  have q:=key i
  rw[z] at q
  have h1:=Vh ha (Vh (show 0<nth l i by have:=ll.fit.nn i;omega) hu)
  have h2:=Int.mul_nonpos_of_nonpos_of_nonneg (show b*ay r h-a*ay r l<=0 by omega) (lw.fit.nn i)
  have h3:b*(0*(-(ay r w)))=0:=by simp
  omega
theorem wI{l:List Int}(J:l.length=n):ay (r.map (- ·)) l= -(ay r l):=by rw[iw J,iw J,lF]
theorem d9.neg{x:List Int}(l:d9 n (R++[r]) x):d9 n (R++[r.map (- ·)]) x:=by
 have J:∀y,Fit n (R++[r]) y↔Fit n (R++[r.map (- ·)]) y:=λy=>by
  constructor
  ·refine λf=>Fit.more f.less ?_
   rw[lF,f.st r (by simp)];rfl
  ·refine λf=>Fit.more f.less ?_
   have:=f.st (r.map (- ·)) (by simp)
   rw[lF] at this;omega
 exact⟨(J x).mp l.fit,l.one,λy U=>l.min y ((J y).mpr U)⟩
theorem Ck(hr:r.length=n){h l w x:List Int}(J:d9 n R h)(ll:d9 n R l)(lw:d9 n R w)(U:d9 n (R++[r]) x)(vh:0<ay r h)(vl:ay r l<0)(vw:ay r w<0)(Y:Sub h x)(sl:Sub l x)(sw:Sub w x):l=w:=
 vt (r:=r.map (- ·)) (h:=w) (l:=l) (w:=h) (by simpa using hr) lw ll J U.neg (by rw[wI lw.fit.len];omega) (by rw[wI ll.fit.len];omega) (by rw[wI J.fit.len];omega) sw sl Y
theorem ub{x:List Int}:x∈d5 n L r↔(x∈L/\ay r x=0)\/∃h w,h∈L/\w∈L/\0<ay r h/\ay r w<0/\nbB n L h w=true/\x=dq w (ay r w) h (ay r h):=by
 unfold d5
 rw[Uj]
 constructor
 ·rintro (h | h)
  ·rw[Uy,decide_eq_true_eq] at h;exact .inl h
  ·obtain⟨h',q1,q2⟩:=W4.mp h
   obtain⟨w,J,rfl⟩:=T4.mp q2
   rw[Uy,decide_eq_true_eq] at q1
   rw[Uy,Uy,decide_eq_true_eq] at J
   exact .inr ⟨h',w,q1.1,J.1.1,q1.2,J.1.2,J.2,rfl⟩
 ·rintro (h | ⟨h',w,q1,q2,J,U,Y,rfl⟩)
  ·exact .inl (by rw[Uy,decide_eq_true_eq];exact h)
  ·refine .inr (W4.mpr ⟨h',by rw[Uy,decide_eq_true_eq];exact⟨q1,J⟩,T4.mpr ⟨w, ?_,rfl⟩⟩)
   rw[Uy,Uy,decide_eq_true_eq];exact⟨⟨q2,U⟩,Y⟩
theorem Cc(hr:r.length=n)(k:ko n R L)(x:List Int):x∈d5 n L r↔d9 n (R++[r]) x:=by
 rw[ub]
 constructor
 ·rintro (⟨hx,v⟩ | ⟨h,w,hh,hw,J,Y,nb,rfl⟩)
  ·have l:=(k.all x).mp hx
   rw[k.dot hx] at v
   exact⟨l.fit.more v,l.one,λy fy=>l.min y fy.less⟩
  ·have lh:=(k.all h).mp hh
   have lw:=(k.all w).mp hw
   have ab:h≠w:=λe=>by rw[e] at J;omega
   obtain⟨f1,g1,z1,_⟩:=nk hr lh.fit lw.fit J Y
   refine⟨f1,g1,λy fy sy=> ?_⟩
   have ac:=(xB k hh hw ab).mp nb
   rcases zG r fy.less (fy.st r (by simp)) with⟨l,ll,sl,v⟩ | ⟨h',w',bn,bp,a2,a3,a4,a5⟩
   ·have U:=(k.all l).mpr ll
    have:=ac l U λi hi=>(z1 i).mp (sy i (sl i hi))
    rw[<- k.dot U] at v
    rcases this with rfl | rfl <;> omega
   ·have a6:=(k.all h').mpr bn
    have a7:=(k.all w').mpr bp
    rw[<- k.dot a6] at a4
    rw[<- k.dot a7] at a5
    have e1:h'=h:=by
     rcases ac h' a6 λi hi=>(z1 i).mp (sy i (a2 i hi)) with e | e
     ·exact e
     ·rw[e] at a4;omega
    have e2:w'=w:=by
     rcases ac w' a7 λi hi=>(z1 i).mp (sy i (a3 i hi)) with e | e
     ·rw[e] at a5;omega
     ·exact e
    subst e1 e2
    exact λi hi=>((z1 i).mp hi).elim (a2 i) (a3 i)
 ·intro lx
  by_cases hz:∃l,d9 n R l/\Sub l x/\cq n (nth r) (nth l)=0
  ·obtain⟨l,ll,sl,v⟩:=hz
   have e:=lx.eq (ll.fit.more v) ll.one sl
   subst e
   have U:=(k.all x).mpr ll
   exact .inl ⟨U,by rw[k.dot U];exact v⟩
  ·rcases zG r lx.fit.less (lx.fit.st r (by simp)) with h0 | ⟨h,w,lh,lw,sh,sw,J,Y⟩
   ·exact absurd h0 hz
   ·have hh:=(k.all h).mpr lh
    have hw:=(k.all w).mpr lw
    rw[<- k.dot hh] at J
    rw[<- k.dot hw] at Y
    have ab:h≠w:=λe=>by rw[e] at J;omega
    obtain⟨f1,g1,z1,_⟩:=nk hr lh.fit lw.fit J Y
    refine .inr ⟨h,w,hh,hw,J,Y,(xB k hh hw ab).mpr λl U sl=> ?_,lx.eq f1 g1 λi hi=>((z1 i).mp hi).elim (sh i) (sw i)⟩
    have ll:=(k.all l).mp U
    have am:Sub l x:=λi hi=>(sl i hi).elim (sh i) (sw i)
    by_cases v0:ay r l=0
    ·exact absurd ⟨l,ll,am,by rw[<- k.dot U];exact v0⟩ hz
    ·by_cases vp:0<ay r l
     ·exact .inl (vt hr lh ll lw lx J vp Y sh am sw)
     ·exact .inr (Ck hr lh ll lw lx J (by omega) Y sh am sw)
end
section
variable {n : Nat} {R L : List (List Int)} {r : List Int}
theorem D6 (hr:r.length=n) (k:ko n R L) {h w h' J:List Int} (hh:h∈L) (hw:w∈L) (vh:0<ay r h) (vw:ay r w<0) (nb:nbB n L h w=true)
 (U:h'∈L) (Y:J∈L) (ab:0<ay r h') (ac:ay r J<0) (e:dq w (ay r w) h (ay r h)=dq J (ay r J) h' (ay r h')):h=h'/\w=J:=by
 have an:h≠w:=λe=>by rw[e] at vh;omega
 obtain⟨_,_,z1,_⟩:=nk hr ((k.all h).mp hh).fit ((k.all w).mp hw).fit vh vw
 obtain⟨_,_,z2,_⟩:=nk hr ((k.all h').mp U).fit ((k.all J).mp Y).fit ab ac
 rw[e] at z1
 have am:=(xB k hh hw an).mp nb
 constructor
 ·rcases am h' U λi hi=>(z1 i).mp ((z2 i).mpr (.inl hi)) with q | q
  ·exact q.symm
  ·rw[q] at ab;omega
 ·rcases am J Y λi hi=>(z1 i).mp ((z2 i).mpr (.inr hi)) with q | q
  ·rw[q] at ac;omega
  ·exact q.symm
theorem Du(hr:r.length=n)(k:ko n R L):(d5 n L r).Nodup:=by
 unfold d5
 rw[VC]
 refine⟨k.nd.filter _, ?_,λx hx y hy e=> ?_⟩
 ·unfold X0
  rw[List.pairwise_flatMap]
  constructor
  ·intro h J
   rw[Uy,decide_eq_true_eq] at J
   rw[VD]
   refine Vq (λ{w w'} U Y ab=> ?_) ((k.nd.filter _).filter _)
   rw[Uy,Uy,decide_eq_true_eq] at U Y
   exact λe=>ab (D6 hr k J.1 U.1.1 J.2 U.1.2 U.2 J.1 Y.1.1 J.2 Y.1.2 e).2
  ·refine Vq (λ{h h'} J hh' ab x hx y hy=> ?_) (k.nd.filter _)
   rw[Uy,decide_eq_true_eq] at J hh'
   obtain⟨w,U,rfl⟩:=T4.mp hx
   obtain⟨w',Y,rfl⟩:=T4.mp hy
   rw[Uy,Uy,decide_eq_true_eq] at U Y
   exact λe=>ab (D6 hr k J.1 U.1.1 J.2 U.1.2 U.2 hh'.1 Y.1.1 hh'.2 Y.1.2 e).1
 ·subst e
  rw[Uy,decide_eq_true_eq] at hx
  obtain⟨h,J,hy⟩:=W4.mp hy
  obtain⟨w,U,e⟩:=T4.mp hy
  rw[Uy,decide_eq_true_eq] at J
  rw[Uy,Uy,decide_eq_true_eq] at U
  have ab:h≠w:=λe=>by rw[e] at J;omega
  obtain⟨_,_,z1,_⟩:=nk hr ((k.all h).mp J.1).fit ((k.all w).mp U.1.1).fit J.2 U.1.2
  rw[e] at z1
  rcases(xB k J.1 U.1.1 ab).mp U.2 x hx.1 λi hi=>(z1 i).mp hi with q | q
  ·rw[q] at hx;omega
  ·rw[q] at hx;omega
theorem ko.step(hr:r.length=n)(k:ko n R L):ko n (R++[r]) (d5 n L r):=⟨Cc hr k,Du hr k⟩
theorem yZ{a:Nat}(ha:a<n):cZ (fb n a)=1:=by
 have:=pK (fb n a) a
 rw[ef ha,if_pos rfl] at this
 have:(cZ (fb n a):Int).natAbs ∣ (1:Int).natAbs:=Wm.mpr this
 simpa using this
theorem A4{a:Nat}(ha:a<n):Fit n [] (fb n a):=by
 refine⟨by unfold fb;simp,λi=> ?_,by simp,⟨a, ?_⟩⟩
 ·rw[ef ha];split <;> omega
 ·rw[ef ha,if_pos rfl];decide
theorem Gi{a:Nat}(ha:a<n):d9 n [] (fb n a):=by
 refine⟨A4 ha,yZ ha,λy U Y=>λi hi=> ?_⟩
 rw[ef ha] at hi
 by_cases e:i=a
 ·subst e
  obtain⟨j,J⟩:=U.nz
  have:=Y j J
  rw[ef ha] at this
  by_cases e:j=i
  ·rw[<- e];exact J
  ·rw[if_neg e] at this;exact absurd rfl this
 ·rw[if_neg e] at hi;exact absurd rfl hi
theorem EA(n:Nat):ko n [] (cS n):=by
 refine⟨λx=>⟨λhx=> ?_,λl=> ?_⟩, ?_⟩
 ·obtain⟨a,ha,rfl⟩:=T4.mp hx
  exact Gi (UD.mp ha)
 ·obtain⟨i,hi⟩:=l.fit.nz
  have lt:=l.fit.lt hi
  have:=l.eq (A4 lt) (yZ lt) λj J=>by
   rw[ef lt] at J
   by_cases e:j=i
   ·rw[e];exact hi
   ·rw[if_neg e] at J;exact absurd rfl J
  rw[this]
  exact T4.mpr ⟨i,UD.mpr lt,rfl⟩
 ·unfold cS X0
  rw[VD]
  refine Vq (λ{a b} ha hb hne e=>hne ?_) List.nodup_range
  have h1:=ef (UD.mp ha) a
  rw[e,ef (UD.mp hb),if_pos rfl] at h1
  by_cases q:a=b
  ·exact q
  ·rw[if_neg q] at h1;cases h1
theorem z6:∀{rows:List (List Int)},(∀r∈rows,r.length=n)->∀{R L:List (List Int)},ko n R L->ko n (R++rows) (rows.foldl (d5 n) L)
 | [],_,R,L,k=>by simpa using k
 | row::rows,h,R,L,k=>by
  have:=z6 (rows:=rows) (λr hr=>h r (Ub _ hr)) (k.step (h row Ug))
  simpa using this
def pI(rows:List (List Int))(n:Nat):List (List Int):=rows.foldl (d5 n) (cS n)
theorem ua{rows:List (List Int)}(h:∀r∈rows,r.length=n):ko n rows (pI rows n):=by
 have:=z6 h (EA n)
 rw[Uw] at this
 exact this
end
section
variable {n : Nat} {R L : List (List Int)}
end
theorem wa:∀(N:Nat) (l:List Nat),l.Nodup->(∀x∈l,x<N)->l.length<=N
 | 0,l,_,h=>by
  cases l with
  | nil=>exact Ud _
  | cons a l=>exact absurd (h a Ug) (by omega)
 | N+1,l,nd,h=>by
  by_cases hm:N∈l
  ·have:=wa N (l.erase N) (nd.erase N) (λx hx=>by
    have h1:=(nd.mem_erase_iff.mp hx)
    have:=h x h1.2
    have:=h1.1
    omega)
   rw[W3 hm] at this
   omega
  ·have:=wa N l nd (λx hx=>by
    have h1:=h x hx
    have:x≠N:=λe=>hm (e▸hx)
    omega)
   omega
def at0(x:List Int)(i:Nat):Bool:=decide (nth x i≠0)
def cl3(a b c:Bool):Nat:=match a,b,c with
 | false,true,_=>1
 | false,false,true=>2
 | true,false,true=>2
 | _,_,_=>0
theorem BM(a b c:Bool):cl3 a b c<=2:=by revert a b c;decide
theorem Ho:∀a b c J U Y:Bool,cl3 a b c=cl3 J U Y->((a=true->J=true)/\(b=true->U=true)/\(c=true->Y=true))\/((J=true->a=true)/\(U=true->b=true)/\(Y=true->c=true)):=by decide
def yI(x:List Int):Nat:=3*((at0 x 3).toNat+2*(at0 x 4).toNat+4*(at0 x 5).toNat+8*(at0 x 6).toNat)+cl3 (at0 x 0) (at0 x 1) (at0 x 2)
theorem toNat_le(b:Bool):b.toNat<=1:=by cases b <;> decide
theorem toNat_inj{a b:Bool}(h:a.toNat=b.toNat):a=b:=by revert a b;decide
theorem K4(x:List Int):yI x<48:=by
 have:=BM (at0 x 0) (at0 x 1) (at0 x 2)
 have:=toNat_le (at0 x 3)
 have:=toNat_le (at0 x 4)
 have:=toNat_le (at0 x 5)
 have:=toNat_le (at0 x 6)
 unfold yI
 omega
theorem Gw{x y:List Int}(hx:x.length<=7)(h:∀i,i<7->at0 x i=true->at0 y i=true):Sub x y:=λi hi=>by
 by_cases J:i<7
 ·exact of_decide_eq_true (h i J (decide_eq_true hi))
 ·exact absurd (kr (by omega)) hi
theorem Mo{n:Nat}{R:List (List Int)}{x y:List Int}(hn:n<=7)(lx:d9 n R x)(ly:d9 n R y)(h:yI x=yI y):x=y:=by
 have a1:=BM (at0 x 0) (at0 x 1) (at0 x 2)
 have a2:=BM (at0 y 0) (at0 y 1) (at0 y 2)
 have b3:=toNat_le (at0 x 3);have c3:=toNat_le (at0 y 3)
 have b4:=toNat_le (at0 x 4);have c4:=toNat_le (at0 y 4)
 have b5:=toNat_le (at0 x 5);have c5:=toNat_le (at0 y 5)
 have b6:=toNat_le (at0 x 6);have c6:=toNat_le (at0 y 6)
 unfold yI at h
 have e3:at0 x 3=at0 y 3:=toNat_inj (by omega)
 have e4:at0 x 4=at0 y 4:=toNat_inj (by omega)
 have e5:at0 x 5=at0 y 5:=toNat_inj (by omega)
 have e6:at0 x 6=at0 y 6:=toNat_inj (by omega)
 have e:cl3 (at0 x 0) (at0 x 1) (at0 x 2)=cl3 (at0 y 0) (at0 y 1) (at0 y 2):=by omega
 have U:x.length<=7:=by rw[lx.fit.len];exact hn
 have Y:y.length<=7:=by rw[ly.fit.len];exact hn
 rcases Ho _ _ _ _ _ _ e with⟨q0,q1,q2⟩ | ⟨q0,q1,q2⟩
 ·refine(ly.same lx (Gw U λi hi J=> ?_)).symm
  have:i=0\/i=1\/i=2\/i=3\/i=4\/i=5\/i=6:=by omega
  rcases this with rfl | rfl | rfl | rfl | rfl | rfl | rfl
  ·exact q0 J
  ·exact q1 J
  ·exact q2 J
  ·rw[<- e3];exact J
  ·rw[<- e4];exact J
  ·rw[<- e5];exact J
  ·rw[<- e6];exact J
 ·refine lx.same ly (Gw Y λi hi J=> ?_)
  have:i=0\/i=1\/i=2\/i=3\/i=4\/i=5\/i=6:=by omega
  rcases this with rfl | rfl | rfl | rfl | rfl | rfl | rfl
  ·exact q0 J
  ·exact q1 J
  ·exact q2 J
  ·rw[e3];exact J
  ·rw[e4];exact J
  ·rw[e5];exact J
  ·rw[e6];exact J
theorem zF{α β:Type}{f:α->β}:∀{l:List α},l.Nodup->(∀x∈l,∀y∈l,f x=f y->x=y)->(l.map f).Nodup
 | [],_,_=>X4
 | a::l,nd,h=>by
  rw[Uk,Vd]
  rw[Vd] at nd
  refine⟨λhm=> ?_,zF nd.2 λx hx y hy=>h x (Ub _ hx) y (Ub _ hy)⟩
  obtain⟨b,hb,e⟩:=T4.mp hm
  exact nd.1 (h b (Ub _ hb) a Ug e▸hb)
theorem ko.few{n:Nat}{R L:List (List Int)}(k:ko n R L)(hn:n<=7):L.length<64:=by
 have:=wa 48 (L.map yI) (zF k.nd λx hx y hy e=>Mo hn ((k.all x).mp hx) ((k.all y).mp hy) e) λc hc=>by
  obtain⟨x,_,rfl⟩:=T4.mp hc
  exact K4 x
 rw[T3] at this
 omega
theorem IA{n b c:Nat}{L:List (List Int)}{r:List Int}(hr:SzL c r)(U:r.length<=1000)(J:dR b L):dR (2*b+c+12) (d5 n L r):=by
 intro x hx
 rcases ub.mp hx with⟨h,_⟩ | ⟨h,w,Y,hw,_,_,_,rfl⟩
 ·exact(J x h).mono (by omega)
 ·exact(SzL.off (J w hw) (J h Y) (pU hr (J w hw) U) (pU hr (J h Y) U)).mono (by omega)
def u3(c:Nat):Nat->Nat->Nat
 | 0,b=>b
 | m+1,b=>u3 c m (2*b+c+12)
theorem AR{n c:Nat}:∀(rows:List (List Int)) (b:Nat) (L:List (List Int)),(∀r∈rows,SzL c r/\r.length<=1000)->dR b L->dR (u3 c rows.length b) (rows.foldl (d5 n) L)
 | [],b,L,_,h=>h
 | r::rows,b,L,hr,h=>AR rows _ _ (λq hq=>hr q (Ub _ hq)) (IA (hr r Ug).1 (hr r Ug).2 h)
theorem BF(c:Nat):∀(m b:Nat),b<=u3 c m b
 | 0,_=>Ud _
 | m+1,b=>UI (by omega) (BF c m (2*b+c+12))
theorem zR(c:Nat):∀(m J b:Nat),m<=J->u3 c m b<=u3 c J b
 | 0,J,b,_=>BF c J b
 | m+1,0,b,h=>absurd h (by omega)
 | m+1,J+1,b,h=>zR c m J _ (by omega)
def dE(x:List Int):Nat:=x.foldl (λb y=>b*2+if 0<y then 1 else 0) 0
theorem Eb:∀(x:List Int) (b i:Nat),(x.foldl (λb y=>b*2+if 0<y then 1 else 0) b).testBit i=if i<x.length then decide (0<nth x (x.length-1-i)) else b.testBit (i-x.length)
 | [],b,i=>by simp
 | y::x,b,i=>by
  rw[Vn,Eb x]
  have U:(if 0<y then 1 else 0:Nat)<=1:=by split <;> omega
  have J:decide ((if 0<y then 1 else 0:Nat)=1)=decide (0<y):=by
   by_cases hy:0<y
   ·rw[if_pos hy,decide_eq_true hy];rfl
   ·rw[if_neg hy,decide_eq_false hy];rfl
  generalize (if 0<y then 1 else 0:Nat)=c at U J
  by_cases h:i<x.length
  ·rw[if_pos h,if_pos (by simp;omega)]
   congr 2
   show nth x (x.length-1-i)=nth (y::x) (x.length+1-1-i)
   rw[show x.length+1-1-i=(x.length-1-i)+1 by omega]
   rfl
  ·rw[if_neg h]
   by_cases h2:i=x.length
   ·subst h2
    rw[if_pos (by simp),XB,Nat.testBit_zero]
    show _=decide (0<nth (y::x) (x.length+1-1-x.length))
    rw[show x.length+1-1-x.length=0 by omega]
    show _=decide (0<y)
    rw[<- J]
    congr 1
    rw[eq_iff_iff]
    omega
   ·rw[if_neg (by simp;omega),Uq,show i-x.length=(i-(x.length+1))+1 by omega,Nat.testBit_succ]
    congr 1
    omega
theorem pf(x:List Int)(i:Nat):(dE x).testBit i=decide (i<x.length/\0<nth x (x.length-1-i)):=by
 unfold dE
 rw[Eb]
 by_cases h:i<x.length
 ·rw[if_pos h]
  by_cases h2:0<nth x (x.length-1-i)
  ·rw[decide_eq_true h2,decide_eq_true ⟨h,h2⟩]
  ·rw[decide_eq_false h2,decide_eq_false (λz=>h2 z.2)]
 ·rw[if_neg h,decide_eq_false (λz=>h z.1),Nat.zero_testBit]
theorem HZ{a b:Nat}:a|||b=b↔∀i,a.testBit i=true->b.testBit i=true:=by
 constructor
 ·intro h i hi
  rw[<- h,WD,hi,Yg]
 ·intro h
  refine Nat.eq_of_testBit_eq λi=> ?_
  rw[WD]
  cases ha:a.testBit i with
  | true=>rw[h i ha];rfl
  | false=>rw[Bool.false_or]
theorem bits_sub{n:Nat}{l h w:List Int}(J:l.length=n)(U:h.length=n)(Y:w.length=n)(nl:∀i,0<=nth l i)(nh:∀i,0<=nth h i)(nw:∀i,0<=nth w i):decide (dE l|||(dE h|||dE w)=dE h|||dE w)=subB n l h w:=by
 rw[Vm,decide_eq_true_eq,HZ,wc J]
 constructor
 ·intro H i hi
  have lt:i<n:=by
   by_cases e:i<n
   ·exact e
   ·exact absurd (kr (by omega)) hi
  have:=H (n-1-i) (by
   rw[pf]
   refine decide_eq_true ⟨by omega, ?_⟩
   rw[J,show n-1-(n-1-i)=i by omega]
   have:=nl i
   omega)
  rw[WD,Wx,pf,pf,decide_eq_true_eq,decide_eq_true_eq,U,Y,show n-1-(n-1-i)=i by omega] at this
  rcases this with z | z
  ·exact .inl (by omega)
  ·exact .inr (by omega)
 ·intro H i hi
  rw[pf,decide_eq_true_eq,J] at hi
  rw[WD,Wx,pf,pf,decide_eq_true_eq,decide_eq_true_eq,U,Y]
  rcases H (n-1-i) (by omega) with z | z
  ·have:=nh (n-1-i)
   exact .inl ⟨hi.1,by omega⟩
  ·have:=nw (n-1-i)
   exact .inr ⟨hi.1,by omega⟩
structure Tight(left y:List Int)(a:Nat):Prop where
 pos:0<nth y a
 min:∀i,0<nth y i->nth left a*nth y i<=nth left i*nth y a
abbrev Sh:Type:=(Int×Int)×List Int
def psS(i:Nat)(T:List Sh):Int×Int:=T.foldl (λq s=>(q.1*s.1.2,s.1.2*q.2+s.1.1*q.1*nth s.2 i)) (1,0)
structure Red(n:Nat)(left y:List Int)(bot:Int)(a:Nat)(g:Int)(l':List Int)(b':Int):Prop where
 gp:0<g
 len:l'.length=n
 lv:∀i,g*nth l' i=nth left i*nth y a-nth y i*nth left a
 bv:g*b'=bot*nth y a
structure Shr(n:Nat)(R:List (List Int))(fit:List Int)(c:Nat)(ps:List (List Int))(T:List Sh)(left:List Int)(bot:Int):Prop where
 len:left.length=n
 nn:∀i,0<=nth left i
 bp:0<bot
 st:∀r∈R,cq n (nth r) (nth left)=0
 sub:Sub left fit
 cn:T.length+cnt left<=cnt fit
 good:∀s∈T,0<s.1.1/\0<s.1.2/\WR s.1.1 s.1.2=1/\Sub s.2 fit
 sl:(T.map (·.2)).Sublist ps
 eq:∀i,bot*(psS i T).2+(psS i T).1*nth left i=(psS i T).1*bot*nth fit i
 no:∀y∈ps,¬Sub y left
 sz:SzL (c+8001*T.length) left
 szb:Sz (c+8001*T.length) bot
 szt:∀s∈T,Sz (c+8001*T.length) s.1.1/\Sz (c+8001*T.length) s.1.2
def mkS(C:Int)(i:Nat)(m:Int)(T:List Sh):Int:=T.foldl (λm s=>m+s.1.1*(C/s.1.2)*nth s.2 i) m
theorem ir{ok:aB->Prop}{g:GM}{body:SM}{d:D}{ds:List D}{s s1 s2:S}(J:ok s.o)(U:g d s=.ok s1)(hb:body s1=.next s2):cR ok g body (d::ds) s=cR ok g body ds s2:=by
 rw[cR,if_pos J,U,kZ,hb]
theorem IB{α:Type}(l:List α):pick l none none (some (-1))=l.reverse:=by
 have hb:sliceBounds none none (some (-1)) l.length=((l.length:Int)-1,-1,-1):=by
  unfold sliceBounds
  rfl
 have hr:sliceRange ((l.length:Int)-1) (-1) (-1)=(T9 l.length).map λ(k:Nat)=>((l.length:Int)-1 + -1*(k:Int)).toNat:=by
  unfold sliceRange
  have hc:(if (-1:Int)>0 then (if (l.length:Int)-1 < -1 then (-1-((l.length:Int)-1) + -1-1) / -1 else 0) else (if (l.length:Int)-1 > -1 then ((l.length:Int)-1 - -1 - -1-1) / - -1 else 0)).toNat=l.length:=by
   rw[if_neg (by decide)]
   split
   ·rw[show (- -1:Int)=1 by decide,Int.ediv_one];omega
   ·omega
  dsimp only
  rw[hc]
 unfold pick
 rw[hb]
 dsimp only
 rw[hr]
 have key:∀m,m<=l.length->((T9 m).map λ(k:Nat)=>((l.length:Int)-1 + -1*(k:Int)).toNat).filterMap (l[·]?)=(l.reverse).take m:=by
  intro m
  induction m with
  | zero=>intro _;rfl
  | succ m J=>
   intro hm
   rw[Ws,UJ,List.filterMap_append,J (by omega),List.take_succ,List.getElem?_reverse (by omega)]
   congr 1
   rw[List.map_singleton,show ((l.length:Int)-1 + -1*(m:Int)).toNat=l.length-1-m by omega,T7 (by omega)]
   simp[T7 (show l.length-1-m<l.length by omega)]
 rw[key l.length (Ud _),Vx (by simp)]
abbrev sg(z:Str):List Nat:=z.cps.toList
theorem wX(z:Str):(sg z).length=z.length:=by unfold Str.length;simp
theorem ud{a b:Str}(h:sg a=sg b):a=b:=Str.ext' (W1.mp h)
theorem CA(a b:Str):sg (a++b)=sg a++sg b:=by
 show ((a++b:Str).cps).toList=_
 rw[Str.cps_append];simp
theorem CC{z:Str}{lo hi:Option Int}{a b:Nat}(U:a<=b)(hb:b<=z.length)(h:Builtin.Str.strSliceIndices lo hi 1 z.length=(T9 (b-a)).map (λk=>a+k)):sg (mU z lo hi)=((sg z).drop a).take (b-a):=by
 have key:(((T9 (b-a)).map (λk=>a+k)).filterMap (λi=>(sg z)[i]?))=((sg z).drop a).take (b-a):=StrLaws.picks (sg z) (b-a) a (by rw[wX];omega)
 unfold mU
 rw[h]
 split
 ·rename_i J
  have J:b-a=z.length:=by simpa using J
  have ha:a=0:=by omega
  subst ha
  rw[Xj,Vx (by rw[wX];omega)]
 ·rw[<- key]
  simp[sg]
theorem Pe{n b:Nat}(h:b<=n):Builtin.Str.strSliceIndices none (some (b:Int)) 1 n=(T9 (b-0)).map (λk=>0+k):=by
 rw[<- StrLaws.strSliceIndices_plain (UR b) h]
 unfold Builtin.Str.strSliceIndices
 simp
 rw[show max (0:Int) (min 0 (n:Int))=0 by omega]
theorem PB{n a:Nat}(h:a<=n):Builtin.Str.strSliceIndices (some (a:Int)) none 1 n=(T9 (n-a)).map (λk=>a+k):=by
 rw[<- StrLaws.strSliceIndices_plain h (Ud n)]
 unfold Builtin.Str.strSliceIndices
 simp
 rw[if_neg (show ¬(n:Int)<0 by omega),show max (0:Int) (min (n:Int) (n:Int))=(n:Int) by omega]
theorem Ld{z:Str}{b:Nat}(h:b<=z.length):sg (mU z none (some (b:Int)))=(sg z).take b:=by
 rw[CC (UR b) h (Pe h),Xj,Nat.sub_zero]
theorem KU{z:Str}{a:Nat}(h:a<=z.length):sg (mU z (some (a:Int)) none)=(sg z).drop a:=by
 rw[CC h (Ud _) (PB h),Vx]
 rw[XO,wX];omega
section
variable {s s1 s2 : S} {R R' : List (Option D)} {O O' : aB} {d x y : D} {xs ys : List D}
theorem aK{f:Op2}{ma mb:EM}(ha:ma s=.ok (x,s1))(hb:mb s1=.ok (y,s2))(J:f s2.o x y=.ok d):ak f ma mb s=.ok (d,s2):=by
 rw[dW,ha,aj];dsimp only;rw[hb,aj];dsimp only;rw[J,aj]
theorem FI{f:Op1}{ma:EM}(ha:ma s=.ok (x,s1))(J:f s1.o x=.ok d):unM f ma s=.ok (d,s1):=by
 rw[MZ,ha,aj];dsimp only;rw[J,aj]
theorem eI{f:OpN}{ma:AM}(ha:ma s=.ok (xs,s1))(J:f s1.o xs=.ok d):bE f ma s=.ok (d,s1):=by
 rw[gy,ha,aj];dsimp only;rw[J,aj]
theorem aA{m:EM}{r:AM}(ha:m s=.ok (x,s1))(hb:r s1=.ok (ys,s2)):ae m r s=.ok (x::ys,s2):=by
 rw[aY,ha,aj];dsimp only;rw[hb,aj]
theorem FD{ma:AM}(ha:ma s=.ok (xs,s1))(J:xs.length<=16777216):tq ma s=.ok (.tup xs,s1):=by
 rw[DN,ha,aj];dsimp only;rw[if_pos J]
theorem AN{ma:AM}(ha:ma s=.ok (xs,s1))(J:xs.length<=16777216):oE ma s=.ok (.lst xs,s1):=by
 rw[LL,ha,aj];dsimp only;rw[if_pos J]
theorem pJ{ma:AM}{n:Nat}(ha:ma s=.ok (xs,⟨R,O⟩))(J:xs.length<=16777216)(hn:O.length=n)(U:O++[.lst xs]=O'):ke ma s=.ok (.ptr n,⟨R,O'⟩):=by
 rw[Lb,ha,aj];dsimp only;rw[if_pos J,hn,U]
theorem gQ{m:EM}{b:Bool}(h:m s=.ok (.bl b,s1)):bj m s=.ok (b,s1):=by
 rw[gx,h,aj]
theorem O9{m:TM}{b:Bool}(h:m s=.ok (b,s1)):yB m s=.ok (!b,s1):=by
 rw[yw,h,aj]
theorem Qg{a b:TM}{p q:Bool}(h:a s=.ok (p,s1))(h2:b s1=.ok (q,s1)):orT a b s=.ok (p||q,s1):=by
 rw[A1,h,aj];dsimp only;cases p
 ·rw[if_neg (by decide),h2];rfl
 ·rfl
theorem bG{m:EM}{i:Nat}(h:m s=.ok (d,⟨R,O⟩))(J:R.set i (some d)=R'):setM i m s=.next ⟨R',O⟩:=by
 subst J;exact i4 h
theorem qq{mo me:EM}{k:Nat}{J ds:List D}(h1:mo s=.ok (.ptr k,s1))(U:s1.o[k]? =some (.lst J))(h2:me s1=.ok (d,⟨R,O⟩))(Y:O[k]? =some (.lst ds))(hb:ds.length<=1000000)(hO:O.set k (.lst (ds++[d]))=O'):lX mo me s=.ok (.non,⟨R,O'⟩):=by
 subst hO;exact yd (s2:=⟨R,O⟩) h1 U h2 Y hb
theorem nW{m:EM}{k:Nat}{ds:List D}(h:m s=.ok (.ptr k,⟨R,O⟩))(c:O[k]? =some (.lst ds))(J:O.set k .dead=O'):jo m s=.ok (.lst ds,⟨R,O'⟩):=by
 subst J;exact Mq h c
theorem LW{m:EM}{n:Nat}{ds:List D}(h:m s=.ok (x,⟨R,O⟩))(J:uT O x=some ds)(hn:O.length=n)(U:O++[.lst ds]=O'):AK m s=.ok (.ptr n,⟨R,O'⟩):=by
 rw[Kf,h,aj];dsimp only;rw[J];dsimp only;rw[hn,U]
theorem Pq{c:Nat}{f:Str}{m:EM}{ns:List Str}{ds:List D}(h:m s=.ok (.obj c ns ds,s1))(hd:qA f ns ds=some d):mX c f m s=.ok (d,s1):=by
 rw[DO,h,aj]
 dsimp only
 rw[if_pos rfl,hd]
theorem o6{c n:Nat}{m:Str}{f:FM}{mo:EM}{ma:AM}{ns:List Str}{ds args:List D}{O1:aB}(J:mo s=.ok (.obj c ns ds,s1))(ha:ma s1=.ok (args,s2))(U:f (.obj c ns ds::args) []=.ok (x,O1))(hm:m∉ns)(hd:aN ds=true)(hp:aN args=true)(Y:args.length=n)(hr:cT x=true):
 methP c m n f mo ma s=.ok (x,s2):=sm J hm hd ha hp Y U hr
theorem ey{n:Nat}{f:FM}{ma:AM}{ds:List D}{O1:aB}(h:ma s=.ok (ds,s1))(J:f ds []=.ok (d,O1))(hp:aN ds=true)(U:ds.length=n)(hd:cT d=true):aO n f ma s=.ok (d,s1):=cX h hp U J hd
theorem kB{n:Nat}{f:FM}{ma:AM}{ds:List D}{O1:aB}(h:ma s=.ok (ds,⟨R,O⟩))(J:f ds []=.ok (x,O1))(hp:aN ds=true)(U:ds.length=n)(hx:shD O.length x=y)(Y:O++O1.map (shC O.length)=O'):gn n f ma s=.ok (y,⟨R,O'⟩):=by
 subst hx;subst Y;exact JC h hp U J
theorem uM{n:Nat}{f:FM}{ma:AM}{ds rs:List D}{O1:aB}(h:ma s=.ok (ds,s1))(hr:bR s1.o (bR s1.o ds)=rs)(J:f rs []=.ok (d,O1))(hp:aN rs=true)(U:ds.length=n)(hd:oN d=true):jc n f ma s=.ok (d,s1):=by
 unfold jc
 rw[h,aj]
 dsimp only
 rw[hr,if_pos ⟨hp,U⟩,J]
 dsimp only
 rw[if_pos hd]
theorem qV{n:Nat}{f:FM}{ma:AM}{ds:List D}{O1:aB}(h:ma s=.ok (ds,⟨R,O⟩))(J:f ds O=.ok (d,O1))(U:ds.length=n):jf n f ma s=.ok (d,⟨R,O1⟩):=IU h U J
theorem Pc{c:TM}{A B:SM}{p:Bool}(h:c s=.ok (p,s1))(hp:p=true):ifS c A B s=A s1:=by subst hp;exact FE h
theorem PD{c:TM}{A B:SM}{p:Bool}(h:c s=.ok (p,s1))(hp:p=false):ifS c A B s=B s1:=by subst hp;exact lN h
theorem sk(s:S):jx s=.ok (none,s):=rfl
theorem AS{m:EM}{i:Int}(h:m s=.ok (.int i,s1)):part m s=.ok (some i,s1):=by rw[D8,h,aj]
theorem KD{m:EM}{g:GM}(h:m s=.ok (d,s1))(J:g d s1=.ok s2):kS m g s=.next s2:=by
 rw[yc,h,aj];dsimp only;rw[J,kZ]
theorem MK{g h:GM}{a b:D}(h1:g a s=.ok s1)(h2:h b s1=.ok s2):cV (aU g (aU h cY)) 2 (.tup [a,b]) s=.ok s2:=by
 rw[qe,h1,aj,h2]
end
section
variable {s s1 : S} {o : Out}
theorem ba{a b:SM}(h:a s=.next s1)(k:b s1=o):aP a b s=o:=(cH h).trans k
theorem jg{c:TM}{A B:SM}{p:Bool}(h:c s=.ok (p,s1))(hp:p=true)(k:A s1=o):ifS c A B s=o:=(Pc h hp).trans k
theorem gs{c:TM}{A B:SM}{p:Bool}(h:c s=.ok (p,s1))(hp:p=false)(k:B s1=o):ifS c A B s=o:=(PD h hp).trans k
theorem dD{n:Nat}{m:SM}{ds:List D}{O O1:aB}{d:D}{R:List (Option D)}(h:m ⟨ds.map some++Uo (n-ds.length) none,O⟩=.ret d ⟨R,O1⟩):runM n m ds O=.ok (d,O1):=dI h
theorem OB{n:Nat}{m:SM}{ds:List D}{O O1:aB}{R:List (Option D)}(h:m ⟨ds.map some++Uo (n-ds.length) none,O⟩=.next ⟨R,O1⟩):runM n m ds O=.ok (.non,O1):=by unfold runM;rw[h]
end
section
variable {s s1 s2 : S} {c : Nat} {a : D} {o : Out}
end
theorem yG{n:Nat}{f:FM}{ma:AM}{s:S}{R:List (Option D)}{O O1 O':aB}{x y:D}{ds rs:List D}(h:ma s=.ok (ds,⟨R,O⟩))(hr:bR O (bR O ds)=rs)(U:f rs []=.ok (x,O1))(hp:aN rs=true)(Y:ds.length=n)(hd:qg x=true)(J:O1.all uV=true)(hx:shD O.length x=y)(hO:O++O1.map (shC O.length)=O'):oW n f ma s=.ok (y,⟨R,O'⟩):=by
 subst hx;subst hO
 unfold oW
 rw[h,aj]
 dsimp only
 rw[hr,if_pos ⟨hp,Y⟩,U]
 dsimp only
 rw[if_pos ⟨hd,J⟩]
abbrev bf(L:List (Nat×List Int)):List D:=L.map λp=>.ptr p.1
def Sto(O:aB)(L:List (Nat×List Int)):Prop:=∀p∈L,O[p.1]? =some (.lst (p.2.map D.int))
theorem Sto.app{O:aB}{L:List (Nat×List Int)}(h:Sto O L)(E:aB):Sto (O++E) L:=λp hp=>cD (h p hp)
theorem Sto.set{O:aB}{L:List (Nat×List Int)}(h:Sto O L){k:Nat}(hk:∀p∈L,p.1≠k)(c:Cell):Sto (O.set k c) L:=λp hp=>by rw[da λz=>hk p hp z.symm];exact h p hp
theorem Sto.lt{O:aB}{L:List (Nat×List Int)}(h:Sto O L){p:Nat×List Int}(hp:p∈L):p.1<O.length:=pV (h p hp)
theorem si{α:Type}{ok:aB->Prop}{e:EM}{cap:List (Option D)}{item:α->D}{f:α->List Int}{T:α->Nat->Prop}(I:aB->Prop)(hI:∀O E,I O->I (O++E))(U:∀O,I O->ok O):
 ∀(l:List α) (J:List D) (x:Option D) (O:aB),I O->J.length+l.length<=16777216->
 (∀a∈l,∀O,I O->∃q E,e ⟨some (item a)::cap,O⟩=.ok (.ptr q,⟨some (item a)::cap,O++E⟩)/\(O++E)[q]? =some (.lst ((f a).map D.int))/\(T a q\/O.length<=q))->
 ∃(L:List (Nat×List Int)) (E:aB) (Y:Option D),du ok (aG 0) cg e (l.map item) J ⟨x::cap,O⟩=.ok (J++bf L,⟨Y::cap,O++E⟩)/\L.map (·.2)=l.map f/\Sto (O++E) L/\∀p∈L,(∃a∈l,T a p.1)\/O.length<=p.1
 | [],J,x,O,h,_,_=>⟨[],[],x,by rw[U1,du,if_pos (U _ h)];simp,rfl,(λp hp=>by cases hp),(λp hp=>by cases hp)⟩
 | a::l,J,x,O,h,hl,he=>by
  obtain⟨q,E,e1,e2,e3⟩:=he a Ug O h
  rw[Uq] at hl
  obtain⟨L,E',Y,e4,e5,e6,e7⟩:=si (T:=T) I hI U l (J++[.ptr q]) (some (item a)) (O++E) (hI O E h) (by simp;omega) (λa ha=>he a (Ub _ ha))
  refine⟨(q,f a)::L,E++E',Y, ?_,by simp[e5],λp hp=> ?_,λp hp=> ?_⟩
  ·rw[Uk,du,if_pos ⟨U _ h,by omega⟩,BB,aj,Jx,aj]
   dsimp only
   rw[if_pos rfl,show (⟨List.set (x::cap) 0 (some (item a)),O⟩:S)=⟨some (item a)::cap,O⟩ from rfl,e1,aj]
   dsimp only
   rw[e4]
   simp
  ·rw[<- UX]
   rcases Um.mp hp with rfl | hp
   ·exact cD e2
   ·exact e6 p hp
  ·rcases Um.mp hp with rfl | hp
   ·rcases e3 with e3 | e3
    ·exact .inl ⟨a,Ug,e3⟩
    ·exact .inr e3
   ·rcases e7 p hp with⟨b,hb,z⟩ | z
    ·exact .inl ⟨b,Ub _ hb,z⟩
    ·exact .inr (by rw[Uv] at z;omega)
theorem tx {α:Type} {l:List α} {item:α->D} {f:α->List Int} {T:α->Nat->Prop} {caps:List Nat} {im:IM} {e:EM} {k:Option Nat} {R:List (Option D)} {O:aB} (I:aB->Prop) (Y:∀O E,I O->I (O++E)) (h0:I O) (J:im ⟨R,O⟩=.ok ((l.map item,k),⟨R,O⟩)) (U:∀O,I O->okC (l.map item) k O) (hl:l.length<=1000000)
 (he:∀a∈l,∀O,I O->∃q E,e ⟨some (item a)::caps.map (λi=>(R[i]?).getD none),O⟩=.ok (.ptr q,⟨some (item a)::caps.map (λi=>(R[i]?).getD none),O++E⟩)/\(O++E)[q]? =some (.lst ((f a).map D.int))/\(T a q\/O.length<=q)):
 ∃(L:List (Nat×List Int)) (E:aB),lM 1 caps im (aG 0) cg e ⟨R,O⟩=.ok (.ptr (O++E).length,⟨R,O++E++[.lst (bf L)]⟩)/\L.map (·.2)=l.map f/\Sto (O++E) L/\∀p∈L,(∃a∈l,T a p.1)\/O.length<=p.1:=by
 obtain⟨L,E,x',e1,e2,e3,e4⟩:=si (ok:=okC (l.map item) k) (e:=e) (cap:=caps.map (λi=>(R[i]?).getD none)) (T:=T) I Y U l [] none O h0 (by simp;omega) he
 refine⟨L,E, ?_,e2,e3,e4⟩
 rw[wL,pX,J,aj]
 dsimp only
 rw[show ng 1 caps R=none::caps.map (λi=>(R[i]?).getD none) from rfl,e1,aj,aj]
 rfl
theorem tF{α:Type}{ok:aB->Prop}{c:TM}{e:EM}{cap:List (Option D)}{f g:α->D}{p:α->Bool}{out:α->D}(I:aB->Prop)(hI:∀O E,I O->I (O++E))(U:∀O,I O->ok O):
 ∀(l:List α) (J:List D) (x y:Option D) (O:aB),I O->J.length+l.length<=16777216->
 (∀a∈l,∀O,I O->c ⟨some (f a)::some (g a)::cap,O⟩=.ok (p a,⟨some (f a)::some (g a)::cap,O⟩))->
 (∀a∈l,p a=true->∀O,I O->∃E,e ⟨some (f a)::some (g a)::cap,O⟩=.ok (out a,⟨some (f a)::some (g a)::cap,O++E⟩))->
 ∃(E:aB) (Y y':Option D),du ok (cV (aU (aG 0) (aU (aG 1) cY)) 2) c e (l.map λa=>.tup [f a,g a]) J ⟨x::y::cap,O⟩=.ok (J++(l.filter p).map out,⟨Y::y'::cap,O++E⟩)
 | [],J,x,y,O,h,_,_,_=>⟨[],x,y,by rw[U1,du,if_pos (U _ h)];simp⟩
 | a::l,J,x,y,O,h,hl,hc,he=>by
  rw[Uq] at hl
  have h1:=hc a Ug O h
  have st:du ok (cV (aU (aG 0) (aU (aG 1) cY)) 2) c e ((a::l).map λa=>.tup [f a,g a]) J ⟨x::y::cap,O⟩=if p a=true then (e ⟨some (f a)::some (g a)::cap,O⟩).bind λz=>du ok (cV (aU (aG 0) (aU (aG 1) cY)) 2) c e (l.map λa=>.tup [f a,g a]) (J++[z.1]) z.2 else du ok (cV (aU (aG 0) (aU (aG 1) cY)) 2) c e (l.map λa=>.tup [f a,g a]) J ⟨some (f a)::some (g a)::cap,O⟩:=by
   rw[Uk,du,if_pos ⟨U _ h,by omega⟩,MK (s1:=⟨some (f a)::y::cap,O⟩) (s2:=⟨some (f a)::some (g a)::cap,O⟩) rfl rfl,aj,h1,aj]
  rw[st]
  by_cases hp:p a=true
  ·obtain⟨E,e1⟩:=he a Ug hp O h
   obtain⟨E',Y,y',e2⟩:=tF I hI U l (J++[out a]) (some (f a)) (some (g a)) (O++E) (hI O E h) (by simp;omega) (λb hb=>hc b (Ub _ hb)) (λb hb=>he b (Ub _ hb))
   refine⟨E++E',Y,y', ?_⟩
   rw[if_pos hp,e1,aj]
   dsimp only
   rw[e2,UC hp,UX,UX]
   rfl
  ·obtain⟨E',Y,y',e2⟩:=tF I hI U l J (some (f a)) (some (g a)) O h (by omega) (λb hb=>hc b (Ub _ hb)) (λb hb=>he b (Ub _ hb))
   exact⟨E',Y,y',by rw[if_neg hp,e2,UN hp]⟩
theorem Fi {α:Type} {l:List α} {f g:α->D} {p:α->Bool} {out:α->D} {caps:List Nat} {im:IM} {c:TM} {e:EM} {k:Option Nat} {R:List (Option D)} {O:aB} (I:aB->Prop) (Y:∀O E,I O->I (O++E)) (h0:I O) (J:im ⟨R,O⟩=.ok ((l.map λa=>.tup [f a,g a],k),⟨R,O⟩)) (U:∀O,I O->okC (l.map λa=>.tup [f a,g a]) k O) (hl:l.length<=1000000)
 (hc:∀a∈l,∀O,I O->c ⟨some (f a)::some (g a)::caps.map (λi=>(R[i]?).getD none),O⟩=.ok (p a,⟨some (f a)::some (g a)::caps.map (λi=>(R[i]?).getD none),O⟩))
 (he:∀a∈l,p a=true->∀O,I O->∃E,e ⟨some (f a)::some (g a)::caps.map (λi=>(R[i]?).getD none),O⟩=.ok (out a,⟨some (f a)::some (g a)::caps.map (λi=>(R[i]?).getD none),O++E⟩)):
 ∃E,bZ 2 caps im (cV (aU (aG 0) (aU (aG 1) cY)) 2) c e ⟨R,O⟩=.ok (.lst ((l.filter p).map out),⟨R,O++E⟩):=by
 obtain⟨E,x',y',e1⟩:=tF (ok:=okC (l.map λa=>.tup [f a,g a]) k) (cap:=caps.map (λi=>(R[i]?).getD none)) (p:=p) (out:=out) I Y U l [] none none O h0 (by simp;omega) hc he
 refine⟨E, ?_⟩
 rw[nI,pX,J,aj]
 dsimp only
 rw[show ng 2 caps R=none::none::caps.map (λi=>(R[i]?).getD none) from rfl,e1,aj,aj]
 rfl
theorem IK(O:aB)(c d:Cell):(O++[c]).set O.length d=O++[d]:=by
 induction O with
 | nil=>rfl
 | cons a O J=>exact congrArg (a:: ·) J
section
variable {α β : Type} (f g : α → β)
end
end M
namespace Lk30
open PySem PySem.Spec PyProof.Rows L2 M
def top(i:Nat):Stmt:=PySem.Challenge.pw_modeyard_k30_whole_what_ways_leave.main.body.getD i (.Pass ⟨0,0,0,0⟩)
abbrev kQ:Stmt:=top 10
abbrev fI:Stmt:=top 11
abbrev mC:Stmt:=top 12
abbrev nB:Stmt:=top 13
abbrev ft:Stmt:=top 15
abbrev qZ:Stmt:=top 16
abbrev zp:Stmt:=top 16
abbrev o7:Stmt:=top 17
abbrev xV:Stmt:=top 17
abbrev nj:Stmt:=top 18
abbrev nt:Stmt:=top 19
abbrev eX:Stmt:=top 20
abbrev fu:Stmt:=top 21
abbrev mE:Stmt:=top 22
abbrev ph:Stmt:=top 23
abbrev en:Stmt:=top 24
abbrev o8:Stmt:=top 25
abbrev jH:Stmt:=top 27
abbrev kR:Stmt:=top 28
abbrev fK:Stmt:=top 29
abbrev eW:Stmt:=top 30
abbrev rk:Stmt:=top 31
abbrev g0:Stmt:=inClass (top 53) 4
abbrev iN:Stmt:=inClass (top 53) 3
abbrev mJ:Stmt:=top 33
abbrev iK:Stmt:=inClass (top 53) 1
abbrev gb:Stmt:=top 34
abbrev mH:Stmt:=top 35
abbrev qM:Stmt:=top 36
abbrev oZ:Stmt:=top 37
abbrev mD:Stmt:=top 42
abbrev iT:Stmt:=top 43
abbrev i3:Stmt:=top 44
abbrev gZ:Stmt:=top 45
abbrev iV:Stmt:=top 46
abbrev gD:Stmt:=top 47
abbrev gU:Stmt:=top 48
abbrev hE:Stmt:=top 49
abbrev jN:Stmt:=top 50
abbrev jD:Stmt:=top 51
abbrev jK:Stmt:=top 52
abbrev jM:Stmt:=inClass (top 53) 0
abbrev kN:Stmt:=inClass (top 53) 5
abbrev jI:Stmt:=inClass (top 53) 6
abbrev fO:Stmt:=inClass (top 53) 7
abbrev g7:Stmt:=inClass (top 53) 8
abbrev kF:Stmt:=top 55
abbrev kM:Stmt:=top 56
abbrev jO:Stmt:=top 57
abbrev kE:Stmt:=top 58
abbrev hU:Stmt:=top 59
abbrev g6:Stmt:=top 60
abbrev jL:Stmt:=top 61
abbrev kv:Stmt:=top 62
abbrev fJ:Stmt:=top 63
abbrev jP:Stmt:=top 64
abbrev oK:Stmt:=top 65
def caK(K:Fa):Nat->Addr:=λn=>match n with
 | 0=>clsAt K "Yard"
 | _=>0
noncomputable def oP:SM:=
 (bO (JQ (unM (oG "int") (aa 0)) (ID (unM (oG "bool") (aa 0)))))
noncomputable def kD:FM:=runM 1 oP
noncomputable def ui:SM:=
 (aP (setM 2 (ak fE (aa 0) (aa 1)))
 (aP (setM 0 (aa 1))
 (setM 1 (aa 2))))
noncomputable def mj:SM:=
 (aP (setM 0 (bE wo (ae (aa 0) ao)))
 (aP (setM 1 (bE wo (ae (aa 1) ao)))
 (aP (xo (λs=>yN 1 s) (bj (ak neD (aa 1) (aq (.int 0))))
 ui)
 (bO (aa 0)))))
noncomputable def gP:FM:=runM 3 mj
noncomputable def nN:SM:=
 (setM 1 (aO 2 gP (ae (aa 1) (ae (aa 2) ao))))
noncomputable def mF:SM:=
 (aP (setM 1 (aq (.int 0)))
 (aP (fM (listI (aa 0)) (aG 2)
 nN)
 (bO (aa 1))))
noncomputable def mx:FM:=runM 3 mF
noncomputable def jm:SM:=
 (aP (setM 1 (aO 1 mx (ae (aa 0) ao)))
 (aP (ifS (bj (ak eqD (aa 1) (aq (.int 0))))
 (bO (AK (aa 0)))
 cf)
 (bO (lM 1 [1] (listI (aa 0)) (aG 0) cg (ak hZ (aa 0) (aa 1))))))
noncomputable def jk:FM:=runM 2 jm
noncomputable def cM:SM:=
 (bO (bE pN (ae (bZ 2 [] (tR (ae (aa 0) (ae (aa 1) ao))) (cV (aU (aG 0) (aU (aG 1) cY)) 2) cg (ak dJ (aa 0) (aa 1))) ao)))
noncomputable def bB:FM:=runM 2 cM
noncomputable def ug:SM:=
 (aP (setM 2 (yP qK (ae (aq (.int 0)) ao) (aa 1)))
 (aP (kS (aq (.int 1)) (oC (aa 2) (aa 0)))
 (bO (aa 2))))
noncomputable def qY:FM:=runM 3 ug
noncomputable def oA:SM:=
 (aP (setM 2 (yP qK (ae (aq (.int 0)) ao) (aa 1)))
 (aP (kS (aq (.int 1)) (oC (aa 2) (aa 0)))
 (bO (jo (aa 2)))))
noncomputable def mK:FM:=runM 3 oA
noncomputable def rj:SM:=
 (bO (bZ 1 [0] (dM (ae (aa 0) ao)) (aG 0) cg (gn 2 qY (ae (aa 0) (ae (aa 1) ao)))))
noncomputable def qO:FM:=runM 1 rj
noncomputable def mO:SM:=
 (bO (bZ 1 [0] (dM (ae (aa 0) ao)) (aG 0) cg (aO 2 mK (ae (aa 0) (ae (aa 1) ao)))))
noncomputable def kL:FM:=runM 1 mO
noncomputable def jd:SM:=
 (aP (setM 4 (bZ 2 [1,3] (tR (ae (aa 0) (ae (aa 2) ao))) (cV (aU (aG 0) (aU (aG 1) cY)) 2) cg (ak iC (ak dJ (aa 0) (aa 3)) (ak dJ (aa 1) (aa 2)))))
 (bO (gn 1 jk (ae (aa 4) ao))))
noncomputable def fg:FM:=runM 5 jd
noncomputable def qf:SM:=
 (bO (bZ 1 [1] (listI (aa 0)) (aG 0) cg (ak ixD (aa 0) (aa 1))))
noncomputable def nK:FM:=runM 2 qf
noncomputable def cz:SM:=
 (ifS (bj (ak neD (aa 2) (aq (.int 0))))
 (bO (aa 1))
 cf)
noncomputable def dc:SM:=
 (aP (fM (de (ae (aa 0) ao)) (cV (aU (aG 1) (aU (aG 2) cY)) 2)
 cz)
 (bO (aq .non)))
noncomputable def cQ:FM:=runM 3 dc
noncomputable def d4:SM:=
 (aP (ifS (bj (ak gtD (ak ixD (aa 0) (aa 1)) (aq (.int 0))))
 (bO (aa 0))
 cf)
 (bO (lM 1 [] (listI (aa 0)) (aG 0) cg (unM nD (aa 0)))))
noncomputable def fB:FM:=runM 2 d4
noncomputable def ja:SM:=
 (aP (ifS (bj (ak eqD (ak ixD (aa 0) (aa 2)) (aq (.int 0))))
 (bO (aa 0))
 cf)
 (bO (oW 4 fg (ae (aa 0) (ae (ak ixD (aa 0) (aa 2)) (ae (aa 1) (ae (ak ixD (aa 1) (aa 2)) ao)))))))
noncomputable def gu:FM:=runM 3 ja
noncomputable def j4:SM:=
 (aP (setM 5 (aO 1 cQ (ae (jf 2 nK (ae (aa 2) (ae (aa 4) ao))) ao)))
 (ifS (bj (ak pS (aa 5) (aq .non)))
 (aP (setM 6 (jf 2 fB (ae (AU (aa 2) (aa 5)) (ae (aa 4) ao))))
 (aP (setM 2 (lM 1 [4,6] (listI (aa 2)) (aG 0) cg (jf 3 gu (ae (aa 0) (ae (aa 2) (ae (aa 1) ao))))))
 (aP (setM 3 (lM 1 [4,6] (listI (aa 3)) (aG 0) cg (jf 3 gu (ae (aa 0) (ae (aa 2) (ae (aa 1) ao))))))
 (eH (lX (aa 3) (aa 6))))))
 cf))
noncomputable def rn:SM:=
 (aP (setM 2 (lM 1 [] (listI (aa 0)) (aG 0) cg (gn 1 jk (ae (aa 0) ao))))
 (aP (setM 3 (ke ao))
 (aP (fM (dM (ae (aa 1) ao)) (aG 4)
 j4)
 (bO (aa 3)))))
noncomputable def rm:FM:=runM 7 rn
noncomputable def fH:SM:=
 (aP (setM 2 (bZ 1 [1] (listI (aa 0)) (aG 0) cg (aO 2 bB (ae (aa 1) (ae (aa 0) ao)))))
 (aP (setM 3 (aO 1 cQ (ae (aa 2) ao)))
 (aP (ifS (bj (ak isD (aa 3) (aq .non)))
 (bO (aa 0))
 cf)
 (aP (setM 4 (ak ixD (aa 0) (aa 3)))
 (aP (setM 5 (ak ixD (aa 2) (aa 3)))
 (bO (bZ 2 [4,5,3,2] (de (ae (aa 0) ao)) (cV (aU (aG 0) (aU (aG 1) cY)) 2) (bj (ak neD (aa 0) (aa 4))) (jo (oW 4 fg (ae (aa 1) (ae (ak ixD (aa 5) (aa 0)) (ae (aa 2) (ae (aa 3) ao)))))))))))))
noncomputable def ei:FM:=runM 6 fH
noncomputable def qv:SM:=
 (setM 2 (aO 2 ei (ae (aa 2) (ae (aa 3) ao))))
noncomputable def rB:SM:=
 (aP (setM 2 (aO 1 kL (ae (aa 1) ao)))
 (aP (fM (listI (aa 0)) (aG 3)
 qv)
 (bO (gn 2 rm (ae (aa 2) (ae (aa 1) ao))))))
noncomputable def qS:FM:=runM 4 rB
noncomputable def oF:SM:=
 (aP (setM 1 (ak dJ (aa 1) (aq (.int 2))))
 (ifS (bj (ak gtD (aa 2) (aq (.int 0))))
 (setM 1 (ak bI (aa 1) (aq (.int 1))))
 cf))
noncomputable def lI:SM:=
 (aP (setM 1 (aq (.int 0)))
 (aP (fM (listI (aa 0)) (aG 2)
 oF)
 (bO (aa 1))))
noncomputable def jJ:FM:=runM 3 lI
noncomputable def mN:SM:=
 (bO (ak eqD (ak orD (aa 0) (aa 1)) (aa 1)))
noncomputable def kH:FM:=runM 2 mN
noncomputable def gJ:SM:=
 (aP (setM 3 (ak orD (aa 0) (aa 1)))
 (bO (ak eqD (bE cL (ae (bZ 1 [3] (listI (aa 2)) (aG 0) (bj (aO 2 kH (ae (aa 0) (ae (aa 1) ao)))) (aa 0)) ao)) (aq (.int 2)))))
noncomputable def fL:FM:=runM 4 gJ
noncomputable def gk:SM:=
 (ifS (bj (aO 3 fL (ae (ak ixD (aa 3) (aa 7)) (ae (ak ixD (aa 3) (aa 8)) (ae (aa 3) ao)))))
 (eH (lX (aa 4) (oW 4 fg (ae (ak ixD (aa 0) (aa 8)) (ae (ak ixD (aa 2) (aa 8)) (ae (ak ixD (aa 0) (aa 7)) (ae (ak ixD (aa 2) (aa 7)) ao)))))))
 cf)
noncomputable def jh:SM:=
 (fM (listI (aa 6)) (aG 8)
 gk)
noncomputable def fY:SM:=
 (aP (setM 2 (bZ 1 [1] (listI (aa 0)) (aG 0) cg (jc 2 bB (ae (aa 1) (ae (aa 0) ao)))))
 (aP (setM 3 (bZ 1 [] (listI (aa 0)) (aG 0) cg (jc 1 jJ (ae (aa 0) ao))))
 (aP (setM 4 (lM 2 [] (tR (ae (aa 0) (ae (aa 2) ao))) (cV (aU (aG 0) (aU (aG 1) cY)) 2) (bj (ak eqD (aa 1) (aq (.int 0)))) (aa 0)))
 (aP (setM 5 (bZ 2 [] (de (ae (aa 2) ao)) (cV (aU (aG 0) (aU (aG 1) cY)) 2) (bj (ak gtD (aa 1) (aq (.int 0)))) (aa 0)))
 (aP (setM 6 (bZ 2 [] (de (ae (aa 2) ao)) (cV (aU (aG 0) (aU (aG 1) cY)) 2) (bj (ak ltD (aa 1) (aq (.int 0)))) (aa 0)))
 (aP (fM (listI (aa 5)) (aG 7)
 jh)
 (bO (jo (aa 4)))))))))
noncomputable def fZ:FM:=runM 9 fY
noncomputable def vW:SM:=
 (setM 2 (jf 2 fZ (ae (aa 2) (ae (aa 3) ao))))
noncomputable def uo:SM:=
 (aP (setM 2 (jf 1 qO (ae (aa 1) ao)))
 (aP (fM (listI (aa 0)) (aG 3)
 vW)
 (bO (uY qK (aa 2)))))
noncomputable def tJ:FM:=runM 4 uo
noncomputable def jw:SM:=
 (bO (bE nM (ae (ak ixD (mX 0 "held_changes" (aa 0)) (aa 1)) ao)))
noncomputable def hW:FM:=runM 2 jw
noncomputable def kg:SM:=
 (bO (bZ 1 [] (listI (mX 0 "held_works" (aa 0))) (aG 0) cg (ak ixD (aa 0) (aq (.int 0)))))
noncomputable def iJ:FM:=runM 1 kg
noncomputable def kq:SM:=
 (bO (bZ 1 [0] (dM (ae (bE cL (ae (methP 0 "names" 0 iJ (aa 0) ao) ao)) ao)) (aG 0) cg (methP 0 "change" 1 hW (aa 1) (ae (aa 0) ao))))
noncomputable def i5:FM:=runM 1 kq
noncomputable def fe:SM:=
 (bO (bE nM (ae (mX 0 "held_goods" (aa 0)) ao)))
noncomputable def dX:FM:=runM 1 fe
noncomputable def h8:SM:=
 (ifS (bj (ak neD (bE cL (ae (aa 1) ao)) (bE cL (ae (methP 0 "goods" 0 dX (aa 0) ao) ao))))
 pT
 cf)
noncomputable def ie:FM:=runM 2 h8
noncomputable def oj:SM:=
 (aP (eH (aO 2 ie (ae (aa 0) (ae (aa 1) ao))))
 (bO (aO 2 bB (ae (aa 1) (ae (aa 2) ao)))))
noncomputable def oz:FM:=runM 3 oj
noncomputable def uF:SM:=
 (bO (gn 2 qS (ae (aO 1 i5 (ae (aa 0) ao)) (ae (bE cL (ae (methP 0 "goods" 0 dX (aa 0) ao) ao)) ao))))
noncomputable def pz:FM:=runM 1 uF
noncomputable def rA:SM:=
 (bO (gn 2 tJ (ae (aO 1 i5 (ae (aa 0) ao)) (ae (bE cL (ae (methP 0 "goods" 0 dX (aa 0) ao) ao)) ao))))
noncomputable def pq:FM:=runM 1 rA
noncomputable def oo:SM:=
 (aP (ifS (orT (bj (ak ltD (bE cL (ae (aa 0) ao)) (aq (.int 1)))) (bj (ak gtD (bE cL (ae (aa 0) ao)) (aq (.int 8)))))
 (bO (aq (.bl false)))
 cf)
 (bO (bE Fe (ae (bZ 1 [] (Fj (aa 0)) (aG 0) cg (tW rX rX (aq (.str ("a" :Str))) (aa 0) (aq (.str ("z" :Str))))) ao))))
noncomputable def mn:FM:=runM 1 oo
noncomputable def kl:SM:=
 (aP (ifS (bj (ak gtD (bE cL (ae (aa 0) ao)) (aq (.int 10))))
 pT
 cf)
 (ifS (bj (ak gtD (bE cL (ae (aa 1) ao)) (aq (.int 10))))
 pT
 cf))
noncomputable def iL:FM:=runM 2 kl
noncomputable def gK:SM:=
 (aP (ifS (yB (bj (aO 1 mn (ae (aa 0) ao))))
 pT
 cf)
 (ifS (bj (ak inD (aa 0) (aa 1)))
 pT
 cf))
noncomputable def fj:FM:=runM 2 gK
noncomputable def jW:SM:=
 (eH (aO 2 fj (ae (aa 2) (ae (slM (aa 0) jx (part (aa 1))) ao))))
noncomputable def ju:SM:=
 (fM (de (ae (aa 0) ao)) (cV (aU (aG 1) (aU (aG 2) cY)) 2)
 jW)
noncomputable def g5:FM:=runM 3 ju
noncomputable def j9:SM:=
 (aP (ifS (bj (ak t8 (aa 0) (aa 1)))
 pT
 cf)
 (ifS (bj (ak inD (aa 0) (aa 2)))
 pT
 cf))
noncomputable def iZ:FM:=runM 3 j9
noncomputable def iI:SM:=
 (ifS (orT (yB (bj (aO 1 kD (ae (aa 0) ao)))) (bj (ak ltD (aa 0) (aq (.int 1)))))
 pT
 cf)
noncomputable def gw:FM:=runM 1 iI
noncomputable def jU:SM:=
 (aP (eH (jc 3 iZ (ae (aa 3) (ae (aa 1) (ae (aa 2) ao)))))
 (aP (eH (aO 1 gw (ae (aa 4) ao)))
 (eH (lX (aa 2) (aa 3)))))
noncomputable def hX:SM:=
 (aP (setM 2 (ke ao))
 (fM (listI (aa 0)) (cV (aU (aG 3) (aU (aG 4) cY)) 2)
 jU))
noncomputable def eG:FM:=runM 5 hX
noncomputable def jV:SM:=
 (aP (eH (jc 2 fj (ae (aa 3) (ae (aa 2) ao))))
 (aP (eH (aO 2 eG (ae (aa 4) (ae (aa 1) ao))))
 (aP (eH (aO 2 eG (ae (aa 5) (ae (aa 1) ao))))
 (eH (lX (aa 2) (aa 3))))))
noncomputable def jq:SM:=
 (aP (setM 2 (ke ao))
 (fM (listI (aa 0)) (cV (aU (aG 3) (aU (aG 4) (aU (aG 5) cY))) 3)
 jV))
noncomputable def gX:FM:=runM 6 jq
noncomputable def kY:SM:=
 (bO (tq (ae (ak ixD (aa 0) (aq (.int 0))) (ae (bE nM (ae (ak ixD (aa 0) (aq (.int 1))) ao)) (ae (bE nM (ae (ak ixD (aa 0) (aq (.int 2))) ao)) ao)))))
noncomputable def jF:FM:=runM 1 kY
noncomputable def jE:SM:=
 (bO (bE pN (ae (bZ 1 [0] (listI (aa 1)) (aG 0) (bj (ak eqD (ak ixD (aa 0) (aq (.int 0))) (aa 1))) (ak ixD (aa 0) (aq (.int 1)))) ao)))
noncomputable def eC:FM:=runM 2 jE
noncomputable def kX:SM:=
 (bO (bZ 1 [0] (listI (aa 1)) (aG 0) cg (ak iC (aO 2 eC (ae (aa 0) (ae (ak ixD (aa 1) (aq (.int 2))) ao))) (aO 2 eC (ae (aa 0) (ae (ak ixD (aa 1) (aq (.int 1))) ao))))))
noncomputable def jG:FM:=runM 2 kX
noncomputable def lb:SM:=
 (aP (eH (aO 2 iL (ae (aa 1) (ae (aa 2) ao))))
 (aP (eH (aO 1 g5 (ae (aa 1) ao)))
 (aP (eH (aO 2 gX (ae (aa 2) (ae (aa 1) ao))))
 (aP (sE 0 "held_goods" (aa 0) (bE nM (ae (aa 1) ao)))
 (aP (sE 0 "held_works" (aa 0) (bZ 1 [] (listI (aa 2)) (aG 0) cg (aO 1 jF (ae (aa 0) ao))))
 (sE 0 "held_changes" (aa 0) (bZ 1 [1] (listI (aa 2)) (aG 0) cg (aO 2 jG (ae (aa 0) (ae (aa 1) ao))))))))))
noncomputable def iz:FM:=runM 3 lb
noncomputable def m4:SM:=
 (bO (bZ 1 [1] (listI (mX 0 "held_changes" (aa 0))) (aG 0) cg (ak ixD (aa 0) (aa 1))))
noncomputable def kG:FM:=runM 2 m4
noncomputable def lj:SM:=
 (bO (bZ 1 [0] (dM (ae (bE cL (ae (mX 0 "held_goods" (aa 0)) ao)) ao)) (aG 0) cg (methP 0 "row" 1 kG (aa 1) (ae (aa 0) ao))))
noncomputable def iA:FM:=runM 1 lj
noncomputable def gF:SM:=
 (aP (ifS (bj (ak neD (bE cL (ae (aa 1) ao)) (bE cL (ae (mX 0 "held_works" (aa 0)) ao))))
 pT
 cf)
 (ifS (bj (bE JZ (ae (bZ 1 [] (listI (aa 1)) (aG 0) cg (ak ltD (aa 0) (aq (.int 0)))) ao)))
 pT
 cf))
noncomputable def fP:FM:=runM 2 gF
noncomputable def jv:SM:=
 (aP (eH (methP 0 "check_way" 1 fP (aa 0) (ae (aa 1) ao)))
 (bO (bZ 1 [1] (listI (methP 0 "rows" 0 iA (aa 0) ao)) (aG 0) cg (aO 2 bB (ae (aa 0) (ae (aa 1) ao))))))
noncomputable def gW:FM:=runM 2 jv
noncomputable def gr:SM:=
 (aP (ifS (bj (ak ltD (aa 1) (bE cL (ae (aa 0) ao))))
 (bO (ak ixD (aa 0) (aa 1)))
 cf)
 (bO (aq (.int 0))))
noncomputable def cP:FM:=runM 2 gr
noncomputable def bK:SM:=
 (aP (setM 3 (ak fE (ak dJ (ak bI (ak fE (aa 0) (aq (.int 2147483647))) (aq (.int 7))) (ak bI (aq (.int 48271)) (ak dJ (aq (.int 7919)) (aa 1)))) (aq (.int 2147483647))))
 (bO (ak fE (ak hZ (ak fE (ak dJ (aa 3) (aq (.int 16807))) (aq (.int 2147483647))) (aq (.int 8))) (aa 2))))
noncomputable def aL:FM:=runM 4 bK
noncomputable def jB:SM:=
 (setM 3 (ak bI (aa 3) (ak ixD (aa 2) (aO 3 aL (ae (aa 0) (ae (ak bI (aq (.int 2)) (aa 4)) (ae (aq (.int 26)) ao)))))))
noncomputable def jQ:SM:=
 (aP (setM 2 (aq (.str ("abcdefghijklmnopqrstuvwxyz" :Str))))
 (aP (setM 3 (aq (.str ("" :Str))))
 (aP (fM (dM (ae (aO 3 aL (ae (aa 0) (ae (aq (.int 1)) (ae (aq (.int 8)) ao)))) ao)) (aG 4)
 jB)
 (aP (setM 5 (aO 3 aL (ae (aa 0) (ae (aq (.int 10)) (ae (ak bI (bE cL (ae (aa 3) ao)) (aq (.int 1))) ao)))))
 (aP (setM 6 (aO 3 aL (ae (aa 0) (ae (aq (.int 11)) (ae (aq (.int 26)) ao)))))
 (bO (bZ 1 [6,2,5,3] (dM (ae (aa 1) ao)) (aG 0) cg (ak bI (ak bI (slS (aa 4) jx (part (aa 3))) (ak ixD (aa 2) (ak fE (ak bI (aa 1) (ak dJ (aq (.int 5)) (aa 0))) (aq (.int 26))))) (slS (aa 4) (part (aa 3)) jx)))))))))
noncomputable def dF:FM:=runM 7 jQ
noncomputable def mS:SM:=
 (aP (setM 7 (ak iC (aO 3 aL (ae (aa 0) (ae (ak bI (aq (.int 20)) (aa 6)) (ae (aq (.int 7)) ao)))) (aq (.int 3))))
 (aP (ifS (bj (aa 2))
 (setM 7 (ak iC (ak bI (ak dJ (aa 7) (ak fE (aa 0) (ak j6 (aq (.int 10)) (aq (.int 12))))) (aO 3 aL (ae (aa 0) (ae (ak bI (aq (.int 30)) (aa 6)) (ae (aq (.int 2000)) ao))))) (aq (.int 1000))))
 cf)
 (aP (ifS (qa (bj (ak eqD (ak fE (aa 0) (aq (.int 2))) (aq (.int 1)))) (bj (ak gtD (aa 4) (aq (.int 0)))))
 (aP (setM 7 (ak iC (ak fE (aa 4) (aa 5)) (ak hZ (aa 5) (aq (.int 2)))))
 (setM 4 (ak hZ (aa 4) (aa 5))))
 cf)
 (eH (lX (aa 3) (aa 7))))))
noncomputable def m5:SM:=
 (aP (setM 3 (ke ao))
 (aP (setM 4 (ak hZ (aa 0) (aq (.int 2))))
 (aP (setM 5 (ak ixD (oE (ae (aq (.int 7)) (ae (ak bI (ak dJ (aq (.int 2)) (ak j6 (aq (.int 10)) (aq (.int 12)))) (aq (.int 1))) ao))) (bE intOf (ae (aa 2) ao))))
 (aP (fM (dM (ae (aa 1) ao)) (aG 6)
 mS)
 (bO (aa 3))))))
noncomputable def kC:FM:=runM 8 m5
noncomputable def iy:SM:=
 (aP (setM 6 (ak iC (aO 3 aL (ae (aa 0) (ae (ak bI (aq (.int 100)) (aa 5)) (ae (aq (.int 7)) ao)))) (aq (.int 3))))
 (aP (ifS (bj (ak eqD (aO 3 aL (ae (aa 0) (ae (aq (.int 110)) (ae (aq (.int 6)) ao)))) (aq (.int 0))))
 (setM 6 (ak dJ (aa 6) (ak fE (aa 0) (ak j6 (aq (.int 10)) (aq (.int 9))))))
 cf)
 (aP (ifS (qa (bj (ak eqD (ak fE (aa 0) (aq (.int 2))) (aq (.int 1)))) (bj (ak gtD (aa 4) (aq (.int 0)))))
 (aP (setM 6 (ak iC (ak fE (aa 4) (aq (.int 7))) (aq (.int 3))))
 (setM 4 (ak hZ (aa 4) (aq (.int 7)))))
 cf)
 (eH (lX (aa 3) (bE nP (ae (aa 6) (ae (aa 2) ao))))))))
noncomputable def jr:SM:=
 (aP (setM 3 (ke ao))
 (aP (setM 4 (ak hZ (aa 0) (aq (.int 2))))
 (aP (fM (dM (ae (aa 1) ao)) (aG 5)
 iy)
 (aP (ifS (bj (ak gtD (aa 1) (aq (.int 0))))
 (kS (aq (.int 1)) (oC (aa 3) (aO 3 aL (ae (aa 0) (ae (aq (.int 111)) (ae (aa 1) ao))))))
 cf)
 (bO (jo (aa 3)))))))
noncomputable def gj:FM:=runM 7 jr
noncomputable def jX:SM:=
 (aP (setM 8 (gn 3 kC (ae (ak bI (aO 2 cP (ae (aa 0) (ae (ak bI (ak bI (aa 1) (aq (.int 1))) (aa 7)) ao))) (ak dJ (aq (.int 13)) (aa 7))) (ae (aa 4) (ae (aa 6) ao)))))
 (aP (ifS (bj (ak gtD (aa 4) (aq (.int 0))))
 (aP (setM 9 (rg (aa 2) (aq (.int 1))))
 (aP (setM 10 (bE pN (ae (bZ 1 [8,2] (dM (ae (aa 4) ao)) (aG 0) cg (ak dJ (ak ixD (aa 2) (aa 0)) (ak ixD (aa 1) (aa 0)))) ao)))
 (kS (ak iC (ak ixD (aa 8) (aa 9)) (aa 10)) (oC (aa 8) (aa 9)))))
 cf)
 (eH (lX (aa 5) (jo (aa 8))))))
noncomputable def jA:SM:=
 (aP (setM 3 (aO 2 cP (ae (aa 0) (ae (aa 1) ao))))
 (aP (setM 4 (bE cL (ae (aa 2) ao)))
 (aP (setM 5 (ke ao))
 (aP (setM 6 (ak eqD (aO 3 aL (ae (aa 3) (ae (aq (.int 41)) (ae (aq (.int 6)) ao)))) (aq (.int 0))))
 (aP (fM (dM (ae (ak fE (aO 3 aL (ae (aa 3) (ae (aq (.int 40)) (ae (aq (.int 6)) ao)))) (ak iC (aq (.int 6)) (ak dJ (aq (.int 2)) (bE intOf (ae (aa 6) ao))))) ao)) (aG 7)
 jX)
 (bO (jo (aa 5))))))))
noncomputable def gh:FM:=runM 11 jA
noncomputable def jC:SM:=
 (aP (setM 11 (ak dJ (ak hZ (aO 3 aL (ae (ak bI (aa 3) (aa 5)) (ae (ak bI (aq (.int 70)) (aa 9)) (ae (aq (.int 4)) ao)))) (aq (.int 3))) (ak bI (aq (.int 1)) (aO 3 aL (ae (ak bI (aa 3) (aa 5)) (ae (ak bI (aq (.int 80)) (aa 9)) (ae (aq (.int 9)) ao)))))))
 (aP (ifS (bj (ak gtD (ak bI (aa 11) (bE nP (ae (aq (.int 0)) (ae (unM nD (aa 10)) ao)))) (aq (.int 0))))
 (eH (lX (aa 7) (tq (ae (ak ixD (aa 1) (aa 9)) (ae (ak bI (aa 11) (bE nP (ae (aq (.int 0)) (ae (unM nD (aa 10)) ao)))) ao)))))
 cf)
 (ifS (bj (ak gtD (ak bI (aa 11) (bE nP (ae (aq (.int 0)) (ae (aa 10) ao)))) (aq (.int 0))))
 (eH (lX (aa 8) (tq (ae (ak ixD (aa 1) (aa 9)) (ae (ak bI (aa 11) (bE nP (ae (aq (.int 0)) (ae (aa 10) ao)))) ao)))))
 cf)))
noncomputable def jz:SM:=
 (aP (setM 7 (ke ao))
 (aP (setM 8 (ke ao))
 (aP (fM (de (ae (aa 6) ao)) (cV (aU (aG 9) (aU (aG 10) cY)) 2)
 jC)
 (aP (ifS (bj (ak eqD (aO 3 aL (ae (ak bI (aa 3) (aa 5)) (ae (aq (.int 90)) (ae (aq (.int 2)) ao)))) (aq (.int 1))))
 (setM 7 (A5 EO (aa 7) jx jx (part (unM nD (aq (.int 1))))))
 cf)
 (eH (lX (aa 4) (tq (ae (ak ixD (aa 2) (aa 5)) (ae (AY (aa 7)) (ae (jo (aa 8)) ao))))))))))
noncomputable def lC:SM:=
 (aP (setM 4 (ke ao))
 (aP (fM (de (ae (aa 0) ao)) (cV (aU (aG 5) (aU (aG 6) cY)) 2)
 jz)
 (bO (jo (aa 4)))))
noncomputable def gv:FM:=runM 12 lC
noncomputable def mV:SM:=
 (bO (bZ 1 [0,1] (dM (ae (aa 2) ao)) (aG 0) cg (bE pN (ae (bZ 1 [0,1,2] (dM (ae (bE cL (ae (aa 1) ao)) ao)) (aG 0) cg (ak dJ (ak ixD (aa 3) (aa 0)) (ak ixD (ak ixD (aa 2) (aa 0)) (aa 1)))) ao))))
noncomputable def jj:FM:=runM 3 mV
noncomputable def gO:SM:=
 (aP (setM 2 (bZ 1 [0,1] (dM (ae (bE cL (ae (aa 0) ao)) ao)) (aG 0) (qa (bj (ak gtD (ak ixD (aa 1) (aa 0)) (aq (.int 0)))) (bj (ak gtD (ak ixD (aa 2) (aa 0)) (aq (.int 0))))) (aa 0)))
 (aP (setM 3 (bZ 1 [0,1] (dM (ae (bE cL (ae (aa 0) ao)) ao)) (aG 0) (qa (bj (ak gtD (ak ixD (aa 1) (aa 0)) (aq (.int 0)))) (bj (ak ltD (ak ixD (aa 2) (aa 0)) (aq (.int 0))))) (aa 0)))
 (bO (orV (ak eqD (bE cL (ae (aa 2) ao)) (aq (.int 0))) (ak gtD (bE cL (ae (aa 3) ao)) (aq (.int 0)))))))
noncomputable def fN:FM:=runM 4 gO
noncomputable def jy:SM:=
 (ifS (orT (bj (ak neD (bE pN (ae (tS 2 [] (AQ (ae (aa 7) (ae (aa 5) ao))) (cV (aU (aG 0) (aU (aG 1) cY)) 2) cg (ak dJ (aa 0) (aa 1))) ao)) (aq (.int 0)))) (bj (ak neD (jc 3 oz (ae (aa 0) (ae (aa 7) (ae (aa 5) ao)))) (aq (.int 0)))))
 (bO (aq (.bl false)))
 cf)
noncomputable def lr:SM:=
 (aP (setM 4 (bE cL (ae (aa 2) ao)))
 (aP (setM 5 (methP 0 "leaves" 1 gW (aa 0) (ae (aa 3) ao)))
 (aP (ifS (bj (ak neD (aa 5) (aO 3 jj (ae (aa 1) (ae (aa 3) (ae (aa 4) ao))))))
 (bO (aq (.bl false)))
 cf)
 (aP (setM 6 (jo (gn 1 pq (ae (aa 0) ao))))
 (aP (fM (listI (ak bI (ak bI (jo (gn 1 pz (ae (aa 0) ao))) (aa 6)) (oE (ae (aa 2) ao)))) (aG 7)
 jy)
 (bO (bE Fe (ae (bZ 1 [5] (listI (aa 6)) (aG 0) cg (jc 2 fN (ae (aa 0) (ae (aa 1) ao)))) ao))))))))
noncomputable def lE:FM:=runM 8 lr
noncomputable def uW:SM:=
 (aP (setM 9 (ak bI (aa 2) (aO 2 cP (ae (aa 0) (ae (ak bI (ak bI (aa 1) (aq (.int 1))) (aa 8)) ao)))))
 (aP (setM 10 (bZ 1 [9] (dM (ae (bE cL (ae (aa 5) ao)) ao)) (aG 0) cg (aO 3 aL (ae (aa 1) (ae (ak bI (aq (.int 100)) (aa 0)) (ae (aq (.int 4)) ao))))))
 (aP (ifS (bj (ak eqD (aO 3 aL (ae (aa 9) (ae (aq (.int 120)) (ae (aq (.int 3)) ao)))) (aq (.int 0))))
 (setM 10 (bZ 1 [9] (listI (aa 10)) (aG 0) cg (ak dJ (aa 0) (ak fE (aa 1) (ak j6 (aq (.int 10)) (aq (.int 15)))))))
 cf)
 (ifS (yB (bj (aO 4 lE (ae (aa 7) (ae (aa 5) (ae (aa 4) (ae (aa 10) ao)))))))
 (bO (aq (.bl false)))
 cf))))
noncomputable def va:SM:=
 (aP (setM 2 (aO 2 cP (ae (aa 0) (ae (aa 1) ao))))
 (aP (setM 3 (aO 3 aL (ae (aa 2) (ae (aq (.int 45)) (ae (aq (.int 6)) ao)))))
 (aP (setM 4 (aO 3 gj (ae (aa 2) (ae (aa 3) (ae (ak ixD (oE (ae (aq (.int 0)) (ae (unM nD (ak j6 (aq (.int 10)) (aq (.int 10)))) ao))) (aO 3 aL (ae (aa 2) (ae (aq (.int 46)) (ae (aq (.int 2)) ao))))) ao)))))
 (aP (setM 5 (aO 3 gh (ae (aa 0) (ae (aa 1) (ae (aa 4) ao)))))
 (aP (setM 6 (aO 2 dF (ae (ak bI (aa 2) (aq (.int 1))) (ae (aa 3) ao))))
 (aP (setM 7 (uQ 0 2 iz (ae (aa 6) (ae (aO 4 gv (ae (aa 5) (ae (aa 6) (ae (aO 2 dF (ae (aa 2) (ae (bE cL (ae (aa 5) ao)) ao))) (ae (aa 2) ao))))) ao))))
 (fM (dM (ae (aq (.int 2)) ao)) (aG 8)
 uW)))))))
noncomputable def FC:SM:=
 (aP (fM (listI (oE (ae (aq (.int 0)) (ae (aq (.int 6)) ao)))) (aG 1)
 va)
 (bO (aq (.bl true))))
noncomputable def AL:FM:=runM 11 FC
section
variable {P : Program} {w : World} {K : Fa} {mg : Str → Option Value} {base : Heap} {ca : Nat → Addr}
theorem Dh:bc ["value"] ["value"] (aw kQ):=⟨rfl,rfl,rfl,by decide +kernel,rfl,by decide +kernel,by decide +kernel⟩
theorem CQ{a:Addr}{fd:FuncData}(F:Fun K "is_whole" "is_whole" kQ a fd)(hm:mg "is_whole" =some (.ref a))(ab:P.given.tree=none)(J:mg "isinstance" =none)(Y:mg "int" =none)(U:mg "bool" =none):bN P w K mg base ca 35 "is_whole" ["value"] kD a fd:=by
 refine⟨bx F Dh rfl λac A outer s H E hr=> ?_,hm,F.kp,F.binds λ_ _ _ _ _ _ us hl=>match us,hl with | [_],_=>rfl⟩
 have hu:=hr.units
 have an:=bJ hr (by decide)
 exact⟨_,(aI (bu (N2 (bz Bx rfl J Boot.«isinstance» (ah (pv 0) (ah (DY (v:=.ty "int") rfl Y Boot.«int» rfl) ar))) (Gk (Nk (bz Bx rfl J Boot.«isinstance» (ah (pv 0) (ah (DY (v:=.ty "bool") rfl U Boot.«bool» rfl) ar)))))))),
  (bt (Lo (Gs ty_int (ag 0)) (MM (Gs ty_bool (ag 0)))))⟩
theorem fA:bc ["one","other","rest"] ["one","other"] (aw fI):=⟨rfl,rfl,rfl,by decide +kernel,rfl,by decide +kernel,by decide +kernel⟩
theorem vj{a:Addr}{fd:FuncData}(F:Fun K "measure_of_two" "measure_of_two" fI a fd)(hm:mg "measure_of_two" =some (.ref a))(U:P.given.tree=none)(J:mg "abs" =none):bN P w K mg base ca 35 "measure_of_two" ["one","other"] gP a fd:=by
 refine⟨bx F fA rfl λY A outer s H E hr=> ?_,hm,F.kp,F.binds λ_ _ _ _ _ _ us hl=>match us,hl with | [_,_],_=>rfl⟩
 have hu:=hr.units
 have ac:=bJ hr (by decide)
 exact⟨_,(ax (bh (i:=0) fA.nd rfl (T5 rfl) (bz Bc rfl J Boot.«abs» (ah (pv 0) ar)))
 (ax (bh (i:=1) fA.nd rfl (T5 rfl) (bz Bc rfl J Boot.«abs» (ah (pv 1) ar)))
 (ax (Ka PassesOwn.never (bH (tI hu) (pv 1) aH (bL _))
 (ax (bh (i:=2) fA.nd rfl (T5 rfl) (aV gc (pv 0) (pv 1)))
 (ax (bh (i:=0) fA.nd rfl (T5 rfl) (pv 1))
 (aI (bh (i:=1) fA.nd rfl (T5 rfl) (pv 2))))))
 (aI (bu (pv 0)))))),
  (aJ (aT (bo Gg (ai (ag 0) au)))
 (aJ (aT (bo Gg (ai (ag 1) au)))
 (aJ (Im (bP (av qw (ag 1) (aF 0)))
 (aJ (aT (av iq (ag 0) (ag 1)))
 (aJ (aT (ag 1))
 (aT (ag 2)))))
 (bt (ag 0)))))⟩
theorem oX:bc ["numbers","common","number"] ["numbers"] (aw mC):=⟨rfl,rfl,rfl,by decide +kernel,rfl,by decide +kernel,by decide +kernel⟩
theorem Fu{a:Addr}{fd:FuncData}(F:Fun K "measure" "measure" mC a fd)(hm:mg "measure" =some (.ref a))(J:P.given.tree=none)(U:bF P w K mg base ca 35 "measure_of_two" ["one","other"] gP):bN P w K mg base ca 36 "measure" ["numbers"] mx a fd:=by
 obtain⟨Jq,Ib,Y,mj,wx,wj⟩:=U
 refine⟨bx F oX rfl λam A outer s H E hr=> ?_,hm,F.kp,F.binds λ_ _ _ _ _ _ us hl=>match us,hl with | [_],_=>rfl⟩
 have hu:=hr.units
 have ap:=bJ hr (by decide)
 exact⟨_,(ax (bh (i:=1) oX.nd rfl (T5 rfl) aH)
 (ax (eT PassesOwn.never rfl (cC (pv 0)) (aR (i:=2) oX.nd rfl (T5 rfl))
 (aI (bh (i:=1) oX.nd rfl (T5 rfl) (aQ Y (hr.mono (by decide)) rfl mj wx wj .nil aX (ah (pv 1) (ah (pv 2) ar))))))
 (aI (bu (pv 1))))),
  (aJ (aT (aF 0))
 (aJ (eY (cB (ag 0)) (aM 2)
 (aT (aW (n:=2) (f:=gP) (ai (ag 1) (ai (ag 2) au)))))
 (bt (ag 1))))⟩
theorem zK:bc ["numbers","common"] ["numbers"] (aw nB):=⟨rfl,rfl,rfl,by decide +kernel,rfl,by decide +kernel,by decide +kernel⟩
theorem GF{a:Addr}{fd:FuncData}(F:Fun K "lowest" "lowest" nB a fd)(hm:mg "lowest" =some (.ref a))(U:P.given.tree=none)(J:mg "list" =none)(Gz:bF P w K mg base ca 36 "measure" ["numbers"] mx):bN P w K mg base ca 37 "lowest" ["numbers"] jk a fd:=by
 obtain⟨PV,Pg,HC,mF,HR,GD⟩:=Gz
 refine⟨bx F zK rfl λap A outer s H E hr=> ?_,hm,F.kp,F.binds λ_ _ _ _ _ _ us hl=>match us,hl with | [_],_=>rfl⟩
 have hu:=hr.units
 have Y:=bJ hr (by decide)
 exact⟨_,(ax (bh (i:=1) zK.nd rfl (Vo rfl) (aQ HC (hr.mono (by decide)) rfl mF HR GD .nil aX (ah (pv 0) ar)))
 (ax (dm (bH (nr hu) (pv 1) aH (bL _))
 (aI (bu (i9 iU rfl J Boot.«list» (ah (pv 0) ar))))
 bX)
 (aI (bu (cU (own:=["number"]) (cap:=["common"]) (caps:=[1]) rfl ⟨rfl,by decide +kernel,by decide +kernel,by decide +kernel,⟨rfl,T5 rfl,rfl,trivial⟩,by decide +kernel⟩ (cC (pv 0)) (λ_ _ _=>(aR (i:=0) (show ((["number"]:List Str)++(["common"]:List Str)).Nodup from by decide +kernel) rfl (T5 rfl))) (λ_ _ _=>ck) (λ_ _ _=>(aV (om Y U ⟨_,_,rfl,rfl,rfl,rfl,rfl⟩) (pv 0) (pv 1)))))))),
  (aJ (aT (aW (n:=1) (f:=mx) (ai (ag 0) au)))
 (aJ (dk (bP (av ky (ag 1) (aF 0)))
 (bt (JT (ag 0)))
 bY)
 (bt (nG (m:=1) (caps:=[1]) (cB (ag 0)) (aM 0) cv (av mL (ag 0) (ag 1))))))⟩
theorem uw:bc ["numbers","others"] ["numbers","others"] (aw ft):=⟨rfl,rfl,rfl,by decide +kernel,rfl,by decide +kernel,by decide +kernel⟩
theorem tO{a:Addr}{fd:FuncData}(F:Fun K "sum_of_products" "sum_of_products" ft a fd)(hm:mg "sum_of_products" =some (.ref a))(Y:P.given.tree=none)(J:mg "zip" =none)(U:mg "sum" =none):bN P w K mg base ca 35 "sum_of_products" ["numbers","others"] bB a fd:=by
 refine⟨bx F uw rfl λab A outer s H E hr=> ?_,hm,F.kp,F.binds λ_ _ _ _ _ _ us hl=>match us,hl with | [_,_],_=>rfl⟩
 have hu:=hr.units
 have am:=bJ hr (by decide)
 exact⟨_,(aI (bu (bz (oa rfl) rfl U Boot.«sum» (ah (cU (own:=["number","other"]) (cap:=[]) (caps:=[]) rfl ⟨rfl,by decide +kernel,by decide +kernel,by decide +kernel,trivial,by decide +kernel⟩ (wY rfl J (ah (pv 0) (ah (pv 1) ar))) (λ_ _ _=>(iR rfl (cy (aR (i:=0) (show ((["number","other"]:List Str)++([]:List Str)).Nodup from by decide +kernel) rfl (T5 rfl)) (cy (aR (i:=1) (show ((["number","other"]:List Str)++([]:List Str)).Nodup from by decide +kernel) rfl (T5 rfl)) gE)))) (λ_ _ _=>ck) (λ_ _ _=>(aV gR (pv 0) (pv 1)))) ar)))),
  (bt (bo uC (ai (cb (m:=2) (caps:=[]) (Cs (ai (ag 0) (ai (ag 1) au))) (gA (cx (aM 0) (cx (aM 1) gC))) cv (av fG (ag 0) (ag 1))) au)))⟩
theorem DQ:bc ["at","many","told"] ["at","many"] (aw qZ):=⟨rfl,rfl,rfl,by decide +kernel,rfl,by decide +kernel,by decide +kernel⟩
theorem MJ{a:Addr}{fd:FuncData}(F:Fun K "unit" "unit" qZ a fd)(hm:mg "unit" =some (.ref a))(J:P.given.tree=none):bN P w K mg base ca 35 "unit" ["at","many"] qY a fd:=by
 refine⟨bx F DQ rfl λU A outer s H E hr=> ?_,hm,F.kp,F.binds λ_ _ _ _ _ _ us Y=>match us,Y with | [_,_],_=>rfl⟩
 have hu:=hr.units
 have ab:=bJ hr (by decide)
 exact⟨_,(ax (bh (i:=2) DQ.nd rfl (T5 rfl) (aV Hw (gL (ah aH ar)) (pv 1)))
 (ax (xw aH (xX (pv 2) (pv 0) set_list))
 (aI (bu (pv 2))))),
  (aJ (aT (DZ (ai (aF 0) au) (ag 1)))
 (aJ (uc (aF 1) (xG (ag 2) (ag 0)))
 (bt (ag 2))))⟩
theorem xu:bc ["at","many","told"] ["at","many"] (aw zp):=⟨rfl,rfl,rfl,by decide +kernel,rfl,by decide +kernel,by decide +kernel⟩
theorem EG{a:Addr}{fd:FuncData}(F:Fun K "unit" "unit" zp a fd)(hm:mg "unit" =some (.ref a))(J:P.given.tree=none):bN P w K mg base ca 35 "unit" ["at","many"] mK a fd:=by
 refine⟨bx F xu rfl λU A outer s H E hr=> ?_,hm,F.kp,F.binds λ_ _ _ _ _ _ us Y=>match us,Y with | [_,_],_=>rfl⟩
 have hu:=hr.units
 have ab:=bJ hr (by decide)
 exact⟨_,(ax (bh (i:=2) xu.nd rfl (T5 rfl) (aV Hw (gL (ah aH ar)) (pv 1)))
 (ax (xw aH (xX (pv 2) (pv 0) set_list))
 (aI (bu (pv 2))))),
  (aJ (aT (DZ (ai (aF 0) au) (ag 1)))
 (aJ (uc (aF 1) (xG (ag 2) (ag 0)))
 (bt (lg (ag 2)))))⟩
theorem IY:bc ["many"] ["many"] (aw o7):=⟨rfl,rfl,rfl,by decide +kernel,rfl,by decide +kernel,by decide +kernel⟩
theorem IQ{a:Addr}{fd:FuncData}(F:Fun K "units" "units" o7 a fd)(hm:mg "units" =some (.ref a))(U:P.given.tree=none)(J:mg "range" =none)(Y:bF P w K mg base ca 35 "unit" ["at","many"] qY):bN P w K mg base ca 36 "units" ["many"] qO a fd:=by
 obtain⟨Rr,QQ,NH,ug,Nx,NK⟩:=Y
 refine⟨bx F IY rfl λan A outer s H E hr=> ?_,hm,F.kp,F.binds λ_ _ _ _ _ _ us hl=>match us,hl with | [_],_=>rfl⟩
 have hu:=hr.units
 have as:=bJ hr (by decide)
 exact⟨_,(aI (bu (cU (own:=["at"]) (cap:=["many"]) (caps:=[0]) rfl ⟨rfl,by decide +kernel,by decide +kernel,by decide +kernel,⟨rfl,T5 rfl,rfl,trivial⟩,by decide +kernel⟩ (dy rfl J (ah (pv 0) ar)) (λ_ _ _=>(aR (i:=0) (show ((["at"]:List Str)++(["many"]:List Str)).Nodup from by decide +kernel) rfl (T5 rfl))) (λ_ _ _=>ck) (λ_ _ _=>(aQ NH (hr.mono (by decide)) rfl ug Nx NK .nil aX (ah (pv 0) (ah (pv 1) ar))))))),
  (bt (cb (m:=1) (caps:=[0]) (eR (ai (ag 0) au)) (aM 0) cv (jn (n:=2) (f:=qY) (ai (ag 0) (ai (ag 1) au)))))⟩
theorem Dj:bc ["many"] ["many"] (aw xV):=⟨rfl,rfl,rfl,by decide +kernel,rfl,by decide +kernel,by decide +kernel⟩
theorem CO{a:Addr}{fd:FuncData}(F:Fun K "units" "units" xV a fd)(hm:mg "units" =some (.ref a))(U:P.given.tree=none)(J:mg "range" =none)(Y:bF P w K mg base ca 35 "unit" ["at","many"] mK):bN P w K mg base ca 36 "units" ["many"] kL a fd:=by
 obtain⟨PU,Pz,Hn,oA,Ht,Gx⟩:=Y
 refine⟨bx F Dj rfl λan A outer s H E hr=> ?_,hm,F.kp,F.binds λ_ _ _ _ _ _ us hl=>match us,hl with | [_],_=>rfl⟩
 have hu:=hr.units
 have as:=bJ hr (by decide)
 exact⟨_,(aI (bu (cU (own:=["at"]) (cap:=["many"]) (caps:=[0]) rfl ⟨rfl,by decide +kernel,by decide +kernel,by decide +kernel,⟨rfl,T5 rfl,rfl,trivial⟩,by decide +kernel⟩ (dy rfl J (ah (pv 0) ar)) (λ_ _ _=>(aR (i:=0) (show ((["at"]:List Str)++(["many"]:List Str)).Nodup from by decide +kernel) rfl (T5 rfl))) (λ_ _ _=>ck) (λ_ _ _=>(aQ Hn (hr.mono (by decide)) rfl oA Ht Gx .nil aX (ah (pv 0) (ah (pv 1) ar))))))),
  (bt (cb (m:=1) (caps:=[0]) (eR (ai (ag 0) au)) (aM 0) cv (aW (n:=2) (f:=mK) (ai (ag 0) (ai (ag 1) au)))))⟩
theorem zC:bc ["one","one_value","other","other_value","mixed"] ["one","one_value","other","other_value"] (aw nj):=⟨rfl,rfl,rfl,by decide +kernel,rfl,by decide +kernel,by decide +kernel⟩
theorem HF{a:Addr}{fd:FuncData}(F:Fun K "offset" "offset" nj a fd)(hm:mg "offset" =some (.ref a))(U:P.given.tree=none)(J:mg "zip" =none)(Y:bF P w K mg base ca 37 "lowest" ["numbers"] jk):bN P w K mg base ca 38 "offset" ["one","one_value","other","other_value"] fg a fd:=by
 obtain⟨Js,GG,vP,jm,vR,wF⟩:=Y
 refine⟨bx F zC rfl λan A outer s H E hr=> ?_,hm,F.kp,F.binds λ_ _ _ _ _ _ us hl=>match us,hl with | [_,_,_,_],_=>rfl⟩
 have hu:=hr.units
 have as:=bJ hr (by decide)
 exact⟨_,(ax (d0 (i:=4) (own:=["number","other_number"]) (cap:=["one_value","other_value"]) (caps:=[1,3]) rfl ⟨rfl,by decide +kernel,by decide +kernel,by decide +kernel,⟨rfl,T5 rfl,rfl,⟨rfl,T5 rfl,rfl,trivial⟩⟩,by decide +kernel⟩ (wY rfl J (ah (pv 0) (ah (pv 2) ar))) (λ_ _ _=>(iR rfl (cy (aR (i:=0) (show ((["number","other_number"]:List Str)++(["one_value","other_value"]:List Str)).Nodup from by decide +kernel) rfl (T5 rfl)) (cy (aR (i:=1) (show ((["number","other_number"]:List Str)++(["one_value","other_value"]:List Str)).Nodup from by decide +kernel) rfl (T5 rfl)) gE)))) (λ_ _ _=>ck) (λ_ _ _=>(aV mZ (aV gR (pv 0) (pv 3)) (aV gR (pv 1) (pv 2)))) zC.nd rfl (T5 rfl) rfl)
 (aI (bu (aQ vP (hr.mono (by decide)) rfl jm vR wF .nil aX (ah (pv 4) ar))))),
  (aJ (aT (cb (m:=2) (caps:=[1,3]) (Cs (ai (ag 0) (ai (ag 2) au))) (gA (cx (aM 0) (cx (aM 1) gC))) cv (av mP (av fG (ag 0) (ag 3)) (av fG (ag 1) (ag 2)))))
 (bt (jn (n:=1) (f:=jk) (ai (ag 4) au))))⟩
theorem Gv:bc ["rows","at"] ["rows","at"] (aw nt):=⟨rfl,rfl,rfl,by decide +kernel,rfl,by decide +kernel,by decide +kernel⟩
theorem Hl{a:Addr}{fd:FuncData}(F:Fun K "column" "column" nt a fd)(hm:mg "column" =some (.ref a))(J:P.given.tree=none):bN P w K mg base ca 35 "column" ["rows","at"] nK a fd:=by
 refine⟨bx F Gv rfl λU A outer s H E hr=> ?_,hm,F.kp,F.binds λ_ _ _ _ _ _ us Y=>match us,Y with | [_,_],_=>rfl⟩
 have hu:=hr.units
 have ab:=bJ hr (by decide)
 exact⟨_,(aI (bu (cU (own:=["row"]) (cap:=["at"]) (caps:=[1]) rfl ⟨rfl,by decide +kernel,by decide +kernel,by decide +kernel,⟨rfl,T5 rfl,rfl,trivial⟩,by decide +kernel⟩ (cC (pv 0)) (λ_ _ _=>(aR (i:=0) (show ((["row"]:List Str)++(["at"]:List Str)).Nodup from by decide +kernel) rfl (T5 rfl))) (λ_ _ _=>ck) (λ_ _ _=>(cG bQ (pv 0) (pv 1) (λ_ _=>rfl)))))),
  (bt (cb (m:=1) (caps:=[1]) (cB (ag 0)) (aM 0) cv (av cF (ag 0) (ag 1))))⟩
theorem jR:bc ["numbers","at","number"] ["numbers"] (aw eX):=⟨rfl,rfl,rfl,by decide +kernel,rfl,by decide +kernel,by decide +kernel⟩
theorem sZ{a:Addr}{fd:FuncData}(F:Fun K "first_not_nought" "first_not_nought" eX a fd)(hm:mg "first_not_nought" =some (.ref a))(U:P.given.tree=none)(J:mg "enumerate" =none):bN P w K mg base ca 35 "first_not_nought" ["numbers"] cQ a fd:=by
 refine⟨bx F jR rfl λY A outer s H E hr=> ?_,hm,F.kp,F.binds λ_ _ _ _ _ _ us hl=>match us,hl with | [_],_=>rfl⟩
 have hu:=hr.units
 have ac:=bJ hr (by decide)
 exact⟨_,(ax (eT PassesOwn.never rfl (nJ rfl J (ah (pv 0) ar)) (iR rfl (cy (aR (i:=1) jR.nd rfl (T5 rfl)) (cy (aR (i:=2) jR.nd rfl (T5 rfl)) gE)))
 (aI (dm (bH (tI hu) (pv 2) aH (bL _))
 (aI (bu (pv 1)))
 bX)))
 (aI (bu BI))),
  (aJ (eY (gG (ai (ag 0) au)) (gA (cx (aM 1) (cx (aM 2) gC)))
 (dk (bP (av qw (ag 2) (aF 0)))
 (bt (ag 1))
 bY))
 (bt Cu))⟩
theorem ux:bc ["row","at"] ["row","at"] (aw fu):=⟨rfl,rfl,rfl,by decide +kernel,rfl,by decide +kernel,by decide +kernel⟩
theorem uB{a:Addr}{fd:FuncData}(F:Fun K "with_sign_above" "with_sign_above" fu a fd)(hm:mg "with_sign_above" =some (.ref a))(J:P.given.tree=none):bN P w K mg base ca 35 "with_sign_above" ["row","at"] fB a fd:=by
 refine⟨bx F ux rfl λU A outer s H E hr=> ?_,hm,F.kp,F.binds λ_ _ _ _ _ _ us Y=>match us,Y with | [_,_],_=>rfl⟩
 have hu:=hr.units
 have ab:=bJ hr (by decide)
 exact⟨_,(ax (dm (bH iF (cG bQ (pv 0) (pv 1) (λ_ _=>rfl)) aH (bL _))
 (aI (bu (pv 0)))
 bX)
 (aI (bu (cU (own:=["number"]) (cap:=[]) (caps:=[]) rfl ⟨rfl,by decide +kernel,by decide +kernel,by decide +kernel,trivial,by decide +kernel⟩ (cC (pv 0)) (λ_ _ _=>(aR (i:=0) (show ((["number"]:List Str)++([]:List Str)).Nodup from by decide +kernel) rfl (T5 rfl))) (λ_ _ _=>ck) (λ_ _ _=>(xb uk (pv 0))))))),
  (aJ (dk (bP (av iE (av cF (ag 0) (ag 1)) (aF 0)))
 (bt (ag 0))
 bY)
 (bt (nG (m:=1) (caps:=[]) (cB (ag 0)) (aM 0) cv (xJ tP (ag 0)))))⟩
theorem FF:bc ["row","lead_row","at"] ["row","lead_row","at"] (aw mE):=⟨rfl,rfl,rfl,by decide +kernel,rfl,by decide +kernel,by decide +kernel⟩
theorem En{a:Addr}{fd:FuncData}(F:Fun K "cleared" "cleared" mE a fd)(hm:mg "cleared" =some (.ref a))(J:P.given.tree=none)(U:bF P w K mg base ca 38 "offset" ["one","one_value","other","other_value"] fg):bN P w K mg base ca 39 "cleared" ["row","lead_row","at"] gu a fd:=by
 obtain⟨BO,zu,Y,jd,pO,pE⟩:=U
 refine⟨bx F FF rfl λam A outer s H E hr=> ?_,hm,F.kp,F.binds λ_ _ _ _ _ _ us hl=>match us,hl with | [_,_,_],_=>rfl⟩
 have hu:=hr.units
 have ap:=bJ hr (by decide)
 exact⟨_,(ax (dm (bH (nr hu) (cG bQ (pv 0) (pv 2) (λ_ _=>rfl)) aH (bL _))
 (aI (bu (pv 0)))
 bX)
 (aI (bu (aQ Y (hr.mono (by decide)) rfl jd pO pE .nil aX (ah (pv 0) (ah (cG bQ (pv 0) (pv 2) (λ_ _=>rfl)) (ah (pv 1) (ah (cG bQ (pv 1) (pv 2) (λ_ _=>rfl)) ar)))))))),
  (aJ (dk (bP (av ky (av cF (ag 0) (ag 2)) (aF 0)))
 (bt (ag 0))
 bY)
 (bt (wJ (n:=4) (f:=fg) (ai (ag 0) (ai (av cF (ag 0) (ag 2)) (ai (ag 1) (ai (av cF (ag 1) (ag 2)) au)))))))⟩
theorem kj:bc ["rows","many","left","done","at","found","lead_row"] ["rows","many"] (aw ph):=⟨rfl,rfl,rfl,by decide +kernel,rfl,by decide +kernel,by decide +kernel⟩
theorem JJ{a:Addr}{fd:FuncData}(F:Fun K "plain" "plain" ph a fd)(hm:mg "plain" =some (.ref a))(ac:P.given.tree=none)(J:mg "range" =none)(wC:bF P w K mg base ca 37 "lowest" ["numbers"] jk)(j3:bF P w K mg base ca 35 "first_not_nought" ["numbers"] cQ)(JU:bF P w K mg base ca 35 "column" ["rows","at"] nK)(vq:bF P w K mg base ca 35 "with_sign_above" ["row","at"] fB)(HE:bF P w K mg base ca 39 "cleared" ["row","lead_row","at"] gu):bN P w K mg base ca 40 "plain" ["rows","many"] rm a fd:=by
 obtain⟨Js,GG,vP,jm,vR,wF⟩:=wC
 obtain⟨tL,sW,j2,dc,kc,j5⟩:=j3
 obtain⟨P6,P4,Kl,qf,Jm,Kd⟩:=JU
 obtain⟨Ia,HX,vf,d4,vi,vo⟩:=vq
 obtain⟨PY,Pf,U,ja,Y,zJ⟩:=HE
 refine⟨bx F kj rfl λbe A outer s H E hr=> ?_,hm,F.kp,F.binds λ_ _ _ _ _ _ us hl=>match us,hl with | [_,_],_=>rfl⟩
 have hu:=hr.units
 have bm:=bJ hr (by decide)
 exact⟨_,(ax (d0 (i:=2) (own:=["row"]) (cap:=[]) (caps:=[]) rfl ⟨rfl,by decide +kernel,by decide +kernel,by decide +kernel,trivial,by decide +kernel⟩ (cC (pv 0)) (λ_ _ _=>(aR (i:=0) (show ((["row"]:List Str)++([]:List Str)).Nodup from by decide +kernel) rfl (T5 rfl))) (λ_ _ _=>ck) (λ_ _ _=>(aQ vP (hr.mono (by decide)) rfl jm vR wF .nil aX (ah (pv 0) ar))) kj.nd rfl (T5 rfl) rfl)
 (ax (bh (i:=3) kj.nd rfl (T5 rfl) (gL ar))
 (ax (eT PassesOwn.never rfl (dy rfl J (ah (pv 1) ar)) (aR (i:=4) kj.nd rfl (Vo rfl))
 (ax (bh (i:=5) kj.nd rfl (T5 rfl) (aQ j2 (hr.mono (by decide)) rfl dc kc j5 .nil aX (ah (aQ Kl (hr.mono (by decide)) rfl qf Jm Kd .nil aX (ah (pv 2) (ah (pv 4) ar))) ar)))
 (aI (dm (bH Mc (pv 5) BI (bL _))
 (ax (bh (i:=6) kj.nd rfl (Vo rfl) (aQ vf (hr.mono (by decide)) rfl d4 vi vo .nil aX (ah (lK UG PySem.F.slot_list_pop PySem.F.type_list_pop Jr (pv 2) (ah (pv 5) ar)) (ah (pv 4) ar))))
 (ax (d0 (i:=2) (own:=["row"]) (cap:=["at","lead_row"]) (caps:=[4,6]) rfl ⟨rfl,by decide +kernel,by decide +kernel,by decide +kernel,⟨rfl,T5 rfl,rfl,⟨rfl,T5 rfl,rfl,trivial⟩⟩,by decide +kernel⟩ (cC (pv 2)) (λ_ _ _=>(aR (i:=0) (show ((["row"]:List Str)++(["at","lead_row"]:List Str)).Nodup from by decide +kernel) rfl (T5 rfl))) (λ_ _ _=>ck) (λ_ _ _=>(aQ U (hr.mono (by decide)) rfl ja Y zJ .nil aX (ah (pv 0) (ah (pv 2) (ah (pv 1) ar))))) kj.nd rfl (T5 rfl) rfl)
 (ax (d0 (i:=3) (own:=["row"]) (cap:=["at","lead_row"]) (caps:=[4,6]) rfl ⟨rfl,by decide +kernel,by decide +kernel,by decide +kernel,⟨rfl,T5 rfl,rfl,⟨rfl,T5 rfl,rfl,trivial⟩⟩,by decide +kernel⟩ (cC (pv 3)) (λ_ _ _=>(aR (i:=0) (show ((["row"]:List Str)++(["at","lead_row"]:List Str)).Nodup from by decide +kernel) rfl (T5 rfl))) (λ_ _ _=>ck) (λ_ _ _=>(aQ U (hr.mono (by decide)) rfl ja Y zJ .nil aX (ah (pv 0) (ah (pv 2) (ah (pv 1) ar))))) kj.nd rfl (T5 rfl) rfl)
 (aI (dG (lK UG UK UL fV (pv 3) (ah (pv 6) ar)))))))
 bX))))
 (aI (bu (pv 3)))))),
  (aJ (aT (nG (m:=1) (caps:=[]) (cB (ag 0)) (aM 0) cv (jn (n:=1) (f:=jk) (ai (ag 0) au))))
 (aJ (aT (kK au))
 (aJ (eY (eR (ai (ag 1) au)) (aM 4)
 (aJ (aT (aW (n:=1) (f:=cQ) (ai (nF (n:=2) (f:=nK) (ai (ag 2) (ai (ag 4) au))) au)))
 (dk (bP (av Jh (ag 5) Cu))
 (aJ (aT (nF (n:=2) (f:=fB) (ai (OF (ag 2) (ag 5)) (ai (ag 4) au))))
 (aJ (aT (nG (m:=1) (caps:=[4,6]) (cB (ag 2)) (aM 0) cv (nF (n:=3) (f:=gu) (ai (ag 0) (ai (ag 2) (ai (ag 1) au))))))
 (aJ (aT (nG (m:=1) (caps:=[4,6]) (cB (ag 3)) (aM 0) cv (nF (n:=3) (f:=gu) (ai (ag 0) (ai (ag 2) (ai (ag 1) au))))))
 (dH (lD (ag 3) (ag 6))))))
 bY)))
 (bt (ag 3)))))⟩
theorem fo:bc ["lists","row","values","found","base","base_value"] ["lists","row"] (aw en):=⟨rfl,rfl,rfl,by decide +kernel,rfl,by decide +kernel,by decide +kernel⟩
theorem sv{a:Addr}{fd:FuncData}(F:Fun K "still_by_one_more" "still_by_one_more" en a fd)(hm:mg "still_by_one_more" =some (.ref a))(U:P.given.tree=none)(J:mg "enumerate" =none)(Y:bF P w K mg base ca 35 "sum_of_products" ["numbers","others"] bB)(j3:bF P w K mg base ca 35 "first_not_nought" ["numbers"] cQ)(pB:bF P w K mg base ca 38 "offset" ["one","one_value","other","other_value"] fg):bN P w K mg base ca 39 "still_by_one_more" ["lists","row"] ei a fd:=by
 obtain⟨kW,jZ,d7,cM,d8,ee⟩:=Y
 obtain⟨tL,sW,j2,dc,kc,j5⟩:=j3
 obtain⟨BO,zu,pQ,jd,pO,pE⟩:=pB
 refine⟨bx F fo rfl λa4 A outer s H E hr=> ?_,hm,F.kp,F.binds λ_ _ _ _ _ _ us hl=>match us,hl with | [_,_],_=>rfl⟩
 have hu:=hr.units
 have a6:=bJ hr (by decide)
 exact⟨_,(ax (bh (i:=2) fo.nd rfl (Vo rfl) (cU (own:=["one"]) (cap:=["row"]) (caps:=[1]) rfl ⟨rfl,by decide +kernel,by decide +kernel,by decide +kernel,⟨rfl,T5 rfl,rfl,trivial⟩,by decide +kernel⟩ (cC (pv 0)) (λ_ _ _=>(aR (i:=0) (show ((["one"]:List Str)++(["row"]:List Str)).Nodup from by decide +kernel) rfl (T5 rfl))) (λ_ _ _=>ck) (λ_ _ _=>(aQ d7 (hr.mono (by decide)) rfl cM d8 ee .nil aX (ah (pv 1) (ah (pv 0) ar))))))
 (ax (bh (i:=3) fo.nd rfl (Vo rfl) (aQ j2 (hr.mono (by decide)) rfl dc kc j5 .nil aX (ah (pv 2) ar)))
 (ax (dm (bH Qy (pv 3) BI (bL _))
 (aI (bu (pv 0)))
 bX)
 (ax (bh (i:=4) fo.nd rfl (Vo rfl) (cG bQ (pv 0) (pv 3) (λ_ _=>rfl)))
 (ax (bh (i:=5) fo.nd rfl (Vo rfl) (cG bQ (pv 2) (pv 3) (λ_ _=>rfl)))
 (aI (bu (cU (own:=["at","one"]) (cap:=["base","base_value","found","values"]) (caps:=[4,5,3,2]) rfl ⟨rfl,by decide +kernel,by decide +kernel,by decide +kernel,⟨rfl,T5 rfl,rfl,⟨rfl,T5 rfl,rfl,⟨rfl,T5 rfl,rfl,⟨rfl,T5 rfl,rfl,trivial⟩⟩⟩⟩,by decide +kernel⟩ (nJ rfl J (ah (pv 0) ar)) (λ_ _ _=>(iR rfl (cy (aR (i:=0) (show ((["at","one"]:List Str)++(["base","base_value","found","values"]:List Str)).Nodup from by decide +kernel) rfl (T5 rfl)) (cy (aR (i:=1) (show ((["at","one"]:List Str)++(["base","base_value","found","values"]:List Str)).Nodup from by decide +kernel) rfl (T5 rfl)) gE)))) (λ_ _ _=>(mz (bH (tI hu) (pv 0) (pv 4) (bL _)))) (λ_ _ _=>(aQ pQ (hr.mono (by decide)) rfl jd pO pE .nil aX (ah (pv 1) (ah (cG bQ (pv 5) (pv 0) (λ_ _=>rfl)) (ah (pv 2) (ah (pv 3) ar)))))))))))))),
  (aJ (aT (cb (m:=1) (caps:=[1]) (cB (ag 0)) (aM 0) cv (aW (n:=2) (f:=bB) (ai (ag 1) (ai (ag 0) au)))))
 (aJ (aT (aW (n:=1) (f:=cQ) (ai (ag 2) au)))
 (aJ (dk (bP (av Pp (ag 3) Cu))
 (bt (ag 0))
 bY)
 (aJ (aT (av cF (ag 0) (ag 3)))
 (aJ (aT (av cF (ag 2) (ag 3)))
 (bt (cb (m:=2) (caps:=[4,5,3,2]) (gG (ai (ag 0) au)) (gA (cx (aM 0) (cx (aM 1) gC))) (bP (av qw (ag 0) (ag 4))) (lg (wJ (n:=4) (f:=fg) (ai (ag 1) (ai (av cF (ag 5) (ag 0)) (ai (ag 2) (ai (ag 3) au)))))))))))))⟩
theorem rD:bc ["rows","many","lists","row"] ["rows","many"] (aw o8):=⟨rfl,rfl,rfl,by decide +kernel,rfl,by decide +kernel,by decide +kernel⟩
theorem Ih{a:Addr}{fd:FuncData}(F:Fun K "still" "still" o8 a fd)(hm:mg "still" =some (.ref a))(J:P.given.tree=none)(U:bF P w K mg base ca 36 "units" ["many"] kL)(Y:bF P w K mg base ca 39 "still_by_one_more" ["lists","row"] ei)(LG:bF P w K mg base ca 40 "plain" ["rows","many"] rm):bN P w K mg base ca 41 "still" ["rows","many"] qS a fd:=by
 obtain⟨Pm,OY,FK,mO,FG,Fn⟩:=U
 obtain⟨FU,Er,sY,fH,tj,sX⟩:=Y
 obtain⟨Q3,fd_plain,MA,rn,Lu,MB⟩:=LG
 refine⟨bx F rD rfl λa3 A outer s H E hr=> ?_,hm,F.kp,F.binds λ_ _ _ _ _ _ us hl=>match us,hl with | [_,_],_=>rfl⟩
 have hu:=hr.units
 have a5:=bJ hr (by decide)
 exact⟨_,(ax (bh (i:=2) rD.nd rfl (T5 rfl) (aQ FK (hr.mono (by decide)) rfl mO FG Fn .nil aX (ah (pv 1) ar)))
 (ax (eT PassesOwn.never rfl (cC (pv 0)) (aR (i:=3) rD.nd rfl (T5 rfl))
 (aI (bh (i:=2) rD.nd rfl (T5 rfl) (aQ sY (hr.mono (by decide)) rfl fH tj sX .nil aX (ah (pv 2) (ah (pv 3) ar))))))
 (aI (bu (aQ MA (hr.mono (by decide)) rfl rn Lu MB .nil aX (ah (pv 2) (ah (pv 1) ar))))))),
  (aJ (aT (aW (n:=1) (f:=kL) (ai (ag 1) au)))
 (aJ (eY (cB (ag 0)) (aM 3)
 (aT (aW (n:=2) (f:=ei) (ai (ag 2) (ai (ag 3) au)))))
 (bt (jn (n:=2) (f:=rm) (ai (ag 2) (ai (ag 1) au))))))⟩
theorem ki:bc ["numbers","bits","number"] ["numbers"] (aw jH):=⟨rfl,rfl,rfl,by decide +kernel,rfl,by decide +kernel,by decide +kernel⟩
theorem Cy{a:Addr}{fd:FuncData}(F:Fun K "places_of" "places_of" jH a fd)(hm:mg "places_of" =some (.ref a))(J:P.given.tree=none):bN P w K mg base ca 35 "places_of" ["numbers"] jJ a fd:=by
 refine⟨bx F ki rfl λU A outer s H E hr=> ?_,hm,F.kp,F.binds λ_ _ _ _ _ _ us Y=>match us,Y with | [_],_=>rfl⟩
 have hu:=hr.units
 have ab:=bJ hr (by decide)
 exact⟨_,(ax (bh (i:=1) ki.nd rfl (T5 rfl) aH)
 (ax (eT PassesOwn.never rfl (cC (pv 0)) (aR (i:=2) ki.nd rfl (T5 rfl))
 (ax (bh (i:=1) ki.nd rfl (T5 rfl) (aV gR (pv 1) aH))
 (aI (dm (bH iF (pv 2) aH (bL _))
 (aI (bh (i:=1) ki.nd rfl (T5 rfl) (aV dg (pv 1) aH)))
 bX))))
 (aI (bu (pv 1))))),
  (aJ (aT (aF 0))
 (aJ (eY (cB (ag 0)) (aM 2)
 (aJ (aT (av fG (ag 1) (aF 2)))
 (dk (bP (av iE (ag 2) (aF 0)))
 (aT (av cI (ag 1) (aF 1)))
 bY)))
 (bt (ag 1))))⟩
theorem Ds:bc ["places","others"] ["places","others"] (aw kR):=⟨rfl,rfl,rfl,by decide +kernel,rfl,by decide +kernel,by decide +kernel⟩
theorem CN{a:Addr}{fd:FuncData}(F:Fun K "is_among" "is_among" kR a fd)(hm:mg "is_among" =some (.ref a))(J:P.given.tree=none):bN P w K mg base ca 35 "is_among" ["places","others"] kH a fd:=by
 refine⟨bx F Ds rfl λU A outer s H E hr=> ?_,hm,F.kp,F.binds λ_ _ _ _ _ _ us Y=>match us,Y with | [_,_],_=>rfl⟩
 have hu:=hr.units
 have ab:=bJ hr (by decide)
 exact⟨_,(aI (bu (o3 (nr hu) (aV Kq (pv 0) (pv 1)) (pv 1) (bL _)))),
  (bt (av ky (av Gp (ag 0) (ag 1)) (ag 1)))⟩
theorem oH:bc ["one","other","all_places","both"] ["one","other","all_places"] (aw fK):=⟨rfl,rfl,rfl,by decide +kernel,rfl,by decide +kernel,by decide +kernel⟩
theorem vm{a:Addr}{fd:FuncData}(F:Fun K "are_neighbours" "are_neighbours" fK a fd)(hm:mg "are_neighbours" =some (.ref a))(U:P.given.tree=none)(J:mg "len" =none)(Y:bF P w K mg base ca 35 "is_among" ["places","others"] kH):bN P w K mg base ca 36 "are_neighbours" ["one","other","all_places"] fL a fd:=by
 obtain⟨Py,OK,E1,mN,ED,E4⟩:=Y
 refine⟨bx F oH rfl λan A outer s H E hr=> ?_,hm,F.kp,F.binds λ_ _ _ _ _ _ us hl=>match us,hl with | [_,_,_],_=>rfl⟩
 have hu:=hr.units
 have as:=bJ hr (by decide)
 exact⟨_,(ax (bh (i:=3) oH.nd rfl (Vo rfl) (aV Kq (pv 0) (pv 1)))
 (aI (bu (o3 (nr hu) (bz cN rfl J Boot.«len» (ah (cU (own:=["places"]) (cap:=["both"]) (caps:=[3]) rfl ⟨rfl,by decide +kernel,by decide +kernel,by decide +kernel,⟨rfl,T5 rfl,rfl,trivial⟩,by decide +kernel⟩ (cC (pv 2)) (λ_ _ _=>(aR (i:=0) (show ((["places"]:List Str)++(["both"]:List Str)).Nodup from by decide +kernel) rfl (T5 rfl))) (λ_ _ _=>(mz (px (aQ E1 (hr.mono (by decide)) rfl mN ED E4 .nil aX (ah (pv 0) (ah (pv 1) ar)))))) (λ_ _ _=>(pv 0))) ar)) aH (bL _))))),
  (aJ (aT (av Gp (ag 0) (ag 1)))
 (bt (av ky (bo dO (ai (cb (m:=1) (caps:=[3]) (cB (ag 2)) (aM 0) (sI (aW (n:=2) (f:=kH) (ai (ag 0) (ai (ag 1) au)))) (ag 0)) au)) (aF 2))))⟩
theorem dh:bc ["lists","row","values","places","told","above","below","high","low"] ["lists","row"] (aw eW):=⟨rfl,rfl,rfl,by decide +kernel,rfl,by decide +kernel,by decide +kernel⟩
theorem tf{a:Addr}{fd:FuncData}(F:Fun K "lone_by_one_more" "lone_by_one_more" eW a fd)(hm:mg "lone_by_one_more" =some (.ref a))(Y:P.given.tree=none)(U:mg "zip" =none)(J:mg "enumerate" =none)(d6:bF P w K mg base ca 35 "sum_of_products" ["numbers","others"] bB)(Dn:bF P w K mg base ca 35 "places_of" ["numbers"] jJ)(wN:bF P w K mg base ca 36 "are_neighbours" ["one","other","all_places"] fL)(pB:bF P w K mg base ca 38 "offset" ["one","one_value","other","other_value"] fg):bN P w K mg base ca 39 "lone_by_one_more" ["lists","row"] fZ a fd:=by
 obtain⟨kW,jZ,d7,cM,d8,ee⟩:=d6
 obtain⟨OO,M9,Dm,lI,C4,C9⟩:=Dn
 obtain⟨J4,Ic,wM,gJ,wK,wU⟩:=wN
 obtain⟨BO,zu,pQ,jd,pO,pE⟩:=pB
 refine⟨bx F dh rfl λa9 A outer s H E hr=> ?_,hm,F.kp,F.binds λ_ _ _ _ _ _ us hl=>match us,hl with | [_,_],_=>rfl⟩
 have hu:=hr.units
 have bd:=bJ hr (by decide)
 exact⟨_,(ax (d0 (i:=2) (own:=["one"]) (cap:=["row"]) (caps:=[1]) rfl ⟨rfl,by decide +kernel,by decide +kernel,by decide +kernel,⟨rfl,T5 rfl,rfl,trivial⟩,by decide +kernel⟩ (cC (pv 0)) (λ_ _ _=>(aR (i:=0) (show ((["one"]:List Str)++(["row"]:List Str)).Nodup from by decide +kernel) rfl (T5 rfl))) (λ_ _ _=>ck) (λ_ _ _=>(aQ d7 (hr.mono (by decide)) rfl cM d8 ee .nil aX (ah (pv 1) (ah (pv 0) ar)))) dh.nd rfl (T5 rfl) rfl)
 (ax (d0 (i:=3) (own:=["one"]) (cap:=[]) (caps:=[]) rfl ⟨rfl,by decide +kernel,by decide +kernel,by decide +kernel,trivial,by decide +kernel⟩ (cC (pv 0)) (λ_ _ _=>(aR (i:=0) (show ((["one"]:List Str)++([]:List Str)).Nodup from by decide +kernel) rfl (T5 rfl))) (λ_ _ _=>ck) (λ_ _ _=>(aQ Dm (hr.mono (by decide)) rfl lI C4 C9 .nil aX (ah (pv 0) ar))) dh.nd rfl (T5 rfl) rfl)
 (ax (d0 (i:=4) (own:=["one","value"]) (cap:=[]) (caps:=[]) rfl ⟨rfl,by decide +kernel,by decide +kernel,by decide +kernel,trivial,by decide +kernel⟩ (wY rfl U (ah (pv 0) (ah (pv 2) ar))) (λ_ _ _=>(iR rfl (cy (aR (i:=0) (show ((["one","value"]:List Str)++([]:List Str)).Nodup from by decide +kernel) rfl (T5 rfl)) (cy (aR (i:=1) (show ((["one","value"]:List Str)++([]:List Str)).Nodup from by decide +kernel) rfl (T5 rfl)) gE)))) (λ_ _ _=>(mz (bH (nr hu) (pv 1) aH (bL _)))) (λ_ _ _=>(pv 0)) dh.nd rfl (T5 rfl) rfl)
 (ax (d0 (i:=5) (own:=["at","value"]) (cap:=[]) (caps:=[]) rfl ⟨rfl,by decide +kernel,by decide +kernel,by decide +kernel,trivial,by decide +kernel⟩ (nJ rfl J (ah (pv 2) ar)) (λ_ _ _=>(iR rfl (cy (aR (i:=0) (show ((["at","value"]:List Str)++([]:List Str)).Nodup from by decide +kernel) rfl (T5 rfl)) (cy (aR (i:=1) (show ((["at","value"]:List Str)++([]:List Str)).Nodup from by decide +kernel) rfl (T5 rfl)) gE)))) (λ_ _ _=>(mz (bH iF (pv 1) aH (bL _)))) (λ_ _ _=>(pv 0)) dh.nd rfl (T5 rfl) rfl)
 (ax (d0 (i:=6) (own:=["at","value"]) (cap:=[]) (caps:=[]) rfl ⟨rfl,by decide +kernel,by decide +kernel,by decide +kernel,trivial,by decide +kernel⟩ (nJ rfl J (ah (pv 2) ar)) (λ_ _ _=>(iR rfl (cy (aR (i:=0) (show ((["at","value"]:List Str)++([]:List Str)).Nodup from by decide +kernel) rfl (T5 rfl)) (cy (aR (i:=1) (show ((["at","value"]:List Str)++([]:List Str)).Nodup from by decide +kernel) rfl (T5 rfl)) gE)))) (λ_ _ _=>(mz (bH u1 (pv 1) aH (bL _)))) (λ_ _ _=>(pv 0)) dh.nd rfl (T5 rfl) rfl)
 (ax (eT PassesOwn.never rfl (cC (pv 5)) (aR (i:=7) dh.nd rfl (T5 rfl))
 (aI (eT PassesOwn.never rfl (cC (pv 6)) (aR (i:=8) dh.nd rfl (T5 rfl))
 (aI (dm (px (aQ wM (hr.mono (by decide)) rfl gJ wK wU .nil aX (ah (cG bQ (pv 3) (pv 7) (λ_ _=>rfl)) (ah (cG bQ (pv 3) (pv 8) (λ_ _=>rfl)) (ah (pv 3) ar)))))
 (aI (dG (lK UG UK UL fV (pv 4) (ah (aQ pQ (hr.mono (by decide)) rfl jd pO pE .nil aX (ah (cG bQ (pv 0) (pv 8) (λ_ _=>rfl)) (ah (cG bQ (pv 2) (pv 8) (λ_ _=>rfl)) (ah (cG bQ (pv 0) (pv 7) (λ_ _=>rfl)) (ah (cG bQ (pv 2) (pv 7) (λ_ _=>rfl)) ar))))) ar))))
 bX)))))
 (aI (bu (pv 4))))))))),
  (aJ (aT (cb (m:=1) (caps:=[1]) (cB (ag 0)) (aM 0) cv (nq (n:=2) (f:=bB) (ai (ag 1) (ai (ag 0) au)))))
 (aJ (aT (cb (m:=1) (caps:=[]) (cB (ag 0)) (aM 0) cv (nq (n:=1) (f:=jJ) (ai (ag 0) au))))
 (aJ (aT (nG (m:=2) (caps:=[]) (Cs (ai (ag 0) (ai (ag 2) au))) (gA (cx (aM 0) (cx (aM 1) gC))) (bP (av ky (ag 1) (aF 0))) (ag 0)))
 (aJ (aT (cb (m:=2) (caps:=[]) (gG (ai (ag 2) au)) (gA (cx (aM 0) (cx (aM 1) gC))) (bP (av iE (ag 1) (aF 0))) (ag 0)))
 (aJ (aT (cb (m:=2) (caps:=[]) (gG (ai (ag 2) au)) (gA (cx (aM 0) (cx (aM 1) gC))) (bP (av uR (ag 1) (aF 0))) (ag 0)))
 (aJ (eY (cB (ag 5)) (aM 7)
 (eY (cB (ag 6)) (aM 8)
 (dk (sI (aW (n:=3) (f:=fL) (ai (av cF (ag 3) (ag 7)) (ai (av cF (ag 3) (ag 8)) (ai (ag 3) au)))))
 (dH (lD (ag 4) (wJ (n:=4) (f:=fg) (ai (av cF (ag 0) (ag 8)) (ai (av cF (ag 2) (ag 8)) (ai (av cF (ag 0) (ag 7)) (ai (av cF (ag 2) (ag 7)) au)))))))
 bY)))
 (bt (lg (ag 4)))))))))⟩
theorem uS:bc ["rows","many","lists","row"] ["rows","many"] (aw rk):=⟨rfl,rfl,rfl,by decide +kernel,rfl,by decide +kernel,by decide +kernel⟩
theorem Ms{a:Addr}{fd:FuncData}(F:Fun K "lone" "lone" rk a fd)(hm:mg "lone" =some (.ref a))(U:P.given.tree=none)(J:mg "sorted" =none)(Y:bF P w K mg base ca 36 "units" ["many"] qO)(tU:bF P w K mg base ca 39 "lone_by_one_more" ["lists","row"] fZ):bN P w K mg base ca 40 "lone" ["rows","many"] tJ a fd:=by
 obtain⟨QB,Qm,L9,rj,Lf,KY⟩:=Y
 obtain⟨G1,FT,uf,fY,t9,uE⟩:=tU
 refine⟨bx F uS rfl λa0 A outer s H E hr=> ?_,hm,F.kp,F.binds λ_ _ _ _ _ _ us hl=>match us,hl with | [_,_],_=>rfl⟩
 have hu:=hr.units
 have a2:=bJ hr (by decide)
 exact⟨_,(ax (bh (i:=2) uS.nd rfl (T5 rfl) (aQ L9 (hr.mono (by decide)) rfl rj Lf KY .nil aX (ah (pv 1) ar)))
 (ax (eT PassesOwn.never rfl (cC (pv 0)) (aR (i:=3) uS.nd rfl (T5 rfl))
 (aI (bh (i:=2) uS.nd rfl (T5 rfl) (aQ uf (hr.mono (by decide)) rfl fY t9 uE .nil aX (ah (pv 2) (ah (pv 3) ar))))))
 (aI (bu (bz (Bl hu) rfl J Boot.«sorted» (ah (pv 2) ar)))))),
  (aJ (aT (nF (n:=1) (f:=qO) (ai (ag 1) au)))
 (aJ (eY (cB (ag 0)) (aM 3)
 (aT (nF (n:=2) (f:=fZ) (ai (ag 2) (ai (ag 3) au)))))
 (bt (Kb (ag 2)))))⟩
theorem yO:bc ["self","at"] ["self","at"] (aw g0):=⟨rfl,rfl,rfl,by decide +kernel,rfl,by decide +kernel,by decide +kernel⟩
theorem yF{a:Addr}{fd:FuncData}(F:Fun K "change" "Yard.change" g0 a fd)(hm:Meth K (ca 0) "change" a)(ab:P.given.tree=none)(Y:mg "list" =none)(U:Cls K (ca 0))(J:eO K (ca 0) "held_changes"):MethAt P w K mg base ca 35 (ca 0) "change" ["self","at"] hW:=by
 refine⟨a,fd,bx F yO rfl λac A outer s H E hr=> ?_,hm,F.binds λ_ _ _ _ _ _ us hl=>match us,hl with | [_,_],_=>rfl⟩
 have hu:=hr.units
 have an:=bJ hr (by decide)
 exact⟨_,(aI (bu (i9 iU rfl Y Boot.«list» (ah (cG bQ (rh (pv 0) rfl) (pv 1) (λ_ _=>rfl)) ar)))),
  (bt (bo pZ (ai (av cF (qP (c:=0) (f:="held_changes") U J (ag 0)) (ag 1)) au)))⟩
theorem An:bc ["self"] ["self"] (aw iN):=⟨rfl,rfl,rfl,by decide +kernel,rfl,by decide +kernel,by decide +kernel⟩
theorem AD{a:Addr}{fd:FuncData}(F:Fun K "names" "Yard.names" iN a fd)(hm:Meth K (ca 0) "names" a)(Y:P.given.tree=none)(U:Cls K (ca 0))(J:eO K (ca 0) "held_works"):MethAt P w K mg base ca 35 (ca 0) "names" ["self"] iJ:=by
 refine⟨a,fd,bx F An rfl λab A outer s H E hr=> ?_,hm,F.binds λ_ _ _ _ _ _ us hl=>match us,hl with | [_],_=>rfl⟩
 have hu:=hr.units
 have am:=bJ hr (by decide)
 exact⟨_,(aI (bu (cU (own:=["work"]) (cap:=[]) (caps:=[]) rfl ⟨rfl,by decide +kernel,by decide +kernel,by decide +kernel,trivial,by decide +kernel⟩ (cC (rh (pv 0) rfl)) (λ_ _ _=>(aR (i:=0) (show ((["work"]:List Str)++([]:List Str)).Nodup from by decide +kernel) rfl (T5 rfl))) (λ_ _ _=>ck) (λ_ _ _=>(cG bQ (pv 0) aH (λ_ _=>rfl)))))),
  (bt (cb (m:=1) (caps:=[]) (cB (qP (c:=0) (f:="held_works") U J (ag 0))) (aM 0) cv (av cF (ag 0) (aF 0))))⟩
theorem Ej:bc ["yard"] ["yard"] (aw mJ):=⟨rfl,rfl,rfl,by decide +kernel,rfl,by decide +kernel,by decide +kernel⟩
theorem EU{a:Addr}{fd:FuncData}(F:Fun K "changes" "changes" mJ a fd)(hm:mg "changes" =some (.ref a))(a3:P.given.tree=none)(a2:mg "len" =none)(as:mg "range" =none)(an:Cls K (ca 0))(ab:MethAt P w K mg base ca 35 (ca 0) "names" ["self"] iJ)(J:MethAt P w K mg base ca 35 (ca 0) "change" ["self","at"] hW):bN P w K mg base ca 36 "changes" ["yard"] i5 a fd:=by
 obtain⟨a1,az,ac,kg,am⟩:=ab
 obtain⟨a0,ap,U,jw,Y⟩:=J
 refine⟨bx F Ej rfl λa4 A outer s H E hr=> ?_,hm,F.kp,F.binds λ_ _ _ _ _ _ us hl=>match us,hl with | [_],_=>rfl⟩
 have hu:=hr.units
 have a6:=bJ hr (by decide)
 exact⟨_,(aI (bu (cU (own:=["at"]) (cap:=["yard"]) (caps:=[0]) rfl ⟨rfl,by decide +kernel,by decide +kernel,by decide +kernel,⟨rfl,T5 rfl,rfl,trivial⟩,by decide +kernel⟩ (dy rfl as (ah (bz cN rfl a2 Boot.«len» (ah (qc (pv 0) an kg ac (hr.mono (by decide)) am .nil aX) ar)) ar)) (λ_ _ _=>(aR (i:=0) (show ((["at"]:List Str)++(["yard"]:List Str)).Nodup from by decide +kernel) rfl (T5 rfl))) (λ_ _ _=>ck) (λ_ _ _=>(u7 (pv 1) an jw U (hr.mono (by decide)) Y .nil aX (ah (pv 0) ar)))))),
  (bt (cb (m:=1) (caps:=[0]) (eR (ai (bo dO (ai (jl (c:=0) (m:="names") (n:=0) (f:=iJ) (ag 0) au) au)) au)) (aM 0) cv (jl (c:=0) (m:="change") (n:=1) (f:=hW) (ag 1) (ai (ag 0) au))))⟩
theorem Ac:bc ["self"] ["self"] (aw iK):=⟨rfl,rfl,rfl,by decide +kernel,rfl,by decide +kernel,by decide +kernel⟩
theorem Am{a:Addr}{fd:FuncData}(F:Fun K "goods" "Yard.goods" iK a fd)(hm:Meth K (ca 0) "goods" a)(ab:P.given.tree=none)(Y:mg "list" =none)(U:Cls K (ca 0))(J:eO K (ca 0) "held_goods"):MethAt P w K mg base ca 35 (ca 0) "goods" ["self"] dX:=by
 refine⟨a,fd,bx F Ac rfl λac A outer s H E hr=> ?_,hm,F.binds λ_ _ _ _ _ _ us hl=>match us,hl with | [_],_=>rfl⟩
 have hu:=hr.units
 have an:=bJ hr (by decide)
 exact⟨_,(aI (bu (i9 iU rfl Y Boot.«list» (ah (rh (pv 0) rfl) ar)))),
  (bt (bo pZ (ai (qP (c:=0) (f:="held_goods") U J (ag 0)) au)))⟩
theorem wu:bc ["yard","weights"] ["yard","weights"] (aw gb):=⟨rfl,rfl,rfl,by decide +kernel,rfl,by decide +kernel,by decide +kernel⟩
theorem wH{a:Addr}{fd:FuncData}(F:Fun K "check_weights" "check_weights" gb a fd)(hm:mg "check_weights" =some (.ref a))(ap:P.given.tree=none)(ab:mg "len" =none)(ac:Cls K (ca 0))(J:MethAt P w K mg base ca 35 (ca 0) "goods" ["self"] dX):bN P w K mg base ca 36 "check_weights" ["yard","weights"] ie a fd:=by
 obtain⟨an,am,U,fe,Y⟩:=J
 refine⟨bx F wu rfl λas A outer s H E hr=> ?_,hm,F.kp,F.binds λ_ _ _ _ _ _ us hl=>match us,hl with | [_,_],_=>rfl⟩
 have hu:=hr.units
 have a0:=bJ hr (by decide)
 exact⟨_,(aI (dm (bH (tI hu) (bz cN rfl ab Boot.«len» (ah (pv 1) ar)) (bz cN rfl ab Boot.«len» (ah (qc (pv 0) ac fe U (hr.mono (by decide)) Y .nil aX) ar)) (bL _))
 (aI iB)
 bX)),
  (dk (bP (av qw (bo dO (ai (ag 1) au)) (bo dO (ai (jl (c:=0) (m:="goods") (n:=0) (f:=dX) (ag 0) au) au))))
 iD
 bY)⟩
theorem Eu:bc ["yard","weights","amounts"] ["yard","weights","amounts"] (aw mH):=⟨rfl,rfl,rfl,by decide +kernel,rfl,by decide +kernel,by decide +kernel⟩
theorem Fz{a:Addr}{fd:FuncData}(F:Fun K "weighed" "weighed" mH a fd)(hm:mg "weighed" =some (.ref a))(J:P.given.tree=none)(U:bF P w K mg base ca 36 "check_weights" ["yard","weights"] ie)(Y:bF P w K mg base ca 35 "sum_of_products" ["numbers","others"] bB):bN P w K mg base ca 37 "weighed" ["yard","weights","amounts"] oz a fd:=by
 obtain⟨Kn,Jz,xf,h8,xl,xa⟩:=U
 obtain⟨kW,jZ,d7,cM,d8,ee⟩:=Y
 refine⟨bx F Eu rfl λaz A outer s H E hr=> ?_,hm,F.kp,F.binds λ_ _ _ _ _ _ us hl=>match us,hl with | [_,_,_],_=>rfl⟩
 have hu:=hr.units
 have a1:=bJ hr (by decide)
 exact⟨_,(ax (dG (aQ xf (hr.mono (by decide)) rfl h8 xl xa .nil aX (ah (pv 0) (ah (pv 1) ar))))
 (aI (bu (aQ d7 (hr.mono (by decide)) rfl cM d8 ee .nil aX (ah (pv 1) (ah (pv 2) ar)))))),
  (aJ (dH (aW (n:=2) (f:=ie) (ai (ag 0) (ai (ag 1) au))))
 (bt (aW (n:=2) (f:=bB) (ai (ag 1) (ai (ag 2) au)))))⟩
theorem LH:bc ["yard"] ["yard"] (aw qM):=⟨rfl,rfl,rfl,by decide +kernel,rfl,by decide +kernel,by decide +kernel⟩
theorem Lg{a:Addr}{fd:FuncData}(F:Fun K "kept" "kept" qM a fd)(hm:mg "kept" =some (.ref a))(ap:P.given.tree=none)(an:mg "len" =none)(ab:Cls K (ca 0))(K1:bF P w K mg base ca 41 "still" ["rows","many"] qS)(um:bF P w K mg base ca 36 "changes" ["yard"] i5)(J:MethAt P w K mg base ca 35 (ca 0) "goods" ["self"] dX):bN P w K mg base ca 42 "kept" ["yard"] pz a fd:=by
 obtain⟨Q7,QA,Lh,rB,LF,L8⟩:=K1
 obtain⟨G5,Eh,tD,kq,uv,t4⟩:=um
 obtain⟨am,ac,U,fe,Y⟩:=J
 refine⟨bx F LH rfl λa6 A outer s H E hr=> ?_,hm,F.kp,F.binds λ_ _ _ _ _ _ us hl=>match us,hl with | [_],_=>rfl⟩
 have hu:=hr.units
 have a8:=bJ hr (by decide)
 exact⟨_,(aI (bu (aQ Lh (hr.mono (by decide)) rfl rB LF L8 .nil aX (ah (aQ tD (hr.mono (by decide)) rfl kq uv t4 .nil aX (ah (pv 0) ar)) (ah (bz cN rfl an Boot.«len» (ah (qc (pv 0) ab fe U (hr.mono (by decide)) Y .nil aX) ar)) ar))))),
  (bt (jn (n:=2) (f:=qS) (ai (aW (n:=1) (f:=i5) (ai (ag 0) au)) (ai (bo dO (ai (jl (c:=0) (m:="goods") (n:=0) (f:=dX) (ag 0) au) au)) au))))⟩
theorem JD:bc ["yard"] ["yard"] (aw oZ):=⟨rfl,rfl,rfl,by decide +kernel,rfl,by decide +kernel,by decide +kernel⟩
theorem JG{a:Addr}{fd:FuncData}(F:Fun K "pools" "pools" oZ a fd)(hm:mg "pools" =some (.ref a))(ap:P.given.tree=none)(an:mg "len" =none)(ab:Cls K (ca 0))(NQ:bF P w K mg base ca 40 "lone" ["rows","many"] tJ)(um:bF P w K mg base ca 36 "changes" ["yard"] i5)(J:MethAt P w K mg base ca 35 (ca 0) "goods" ["self"] dX):bN P w K mg base ca 41 "pools" ["yard"] pq a fd:=by
 obtain⟨Rb,QO,Ol,uo,Om,Nc⟩:=NQ
 obtain⟨G5,Eh,tD,kq,uv,t4⟩:=um
 obtain⟨am,ac,U,fe,Y⟩:=J
 refine⟨bx F JD rfl λa6 A outer s H E hr=> ?_,hm,F.kp,F.binds λ_ _ _ _ _ _ us hl=>match us,hl with | [_],_=>rfl⟩
 have hu:=hr.units
 have a8:=bJ hr (by decide)
 exact⟨_,(aI (bu (aQ Ol (hr.mono (by decide)) rfl uo Om Nc .nil aX (ah (aQ tD (hr.mono (by decide)) rfl kq uv t4 .nil aX (ah (pv 0) ar)) (ah (bz cN rfl an Boot.«len» (ah (qc (pv 0) ab fe U (hr.mono (by decide)) Y .nil aX) ar)) ar))))),
  (bt (jn (n:=2) (f:=tJ) (ai (aW (n:=1) (f:=i5) (ai (ag 0) au)) (ai (bo dO (ai (jl (c:=0) (m:="goods") (n:=0) (f:=dX) (ag 0) au) au)) au))))⟩
theorem EC:bc ["text"] ["text"] (aw mD):=⟨rfl,rfl,rfl,by decide +kernel,rfl,by decide +kernel,by decide +kernel⟩
theorem ET{a:Addr}{fd:FuncData}(F:Fun K "is_name" "is_name" mD a fd)(hm:mg "is_name" =some (.ref a))(ab:P.given.tree=none)(U:mg "len" =none)(Y:mg "all" =none)(J:∃t,mg "MOST_LETTERS" =some (.int 8 t)):bN P w K mg base ca 35 "is_name" ["text"] mn a fd:=by
 refine⟨bx F EC rfl λac A outer s H E hr=> ?_,hm,F.kp,F.binds λ_ _ _ _ _ _ us hl=>match us,hl with | [_],_=>rfl⟩
 have hu:=hr.units
 have an:=bJ hr (by decide)
 exact⟨_,(ax (dm (PW.pt (pw_or (bH u1 (bz cN rfl U Boot.«len» (ah (pv 0) ar)) aH (bL _)) (pw_or1 (bH iF (bz cN rfl U Boot.«len» (ah (pv 0) ar)) (yf (v:=.int 8) rfl J.choose_spec ⟨_,rfl⟩) (bL _)))))
 (aI (bu xY))
 bX)
 (aI (bu (bz (zN rfl) rfl Y Boot.«all» (ah (cU (own:=["sign"]) (cap:=[]) (caps:=[]) rfl ⟨rfl,by decide +kernel,by decide +kernel,by decide +kernel,trivial,by decide +kernel⟩ (N7 (pv 0)) (λ_ _ _=>(aR (i:=0) (show ((["sign"]:List Str)++([]:List Str)).Nodup from by decide +kernel) rfl (T5 rfl))) (λ_ _ _=>ck) (λ_ _ _=>(JN GU GU xq (pv 0) xq))) ar))))),
  (aJ (dk (E6 (bP (av uR (bo dO (ai (ag 0) au)) (aF 1))) (bP (av iE (bo dO (ai (ag 0) au)) (aF 8))))
 (bt (xy false))
 bY)
 (bt (bo G0 (ai (cb (m:=1) (caps:=[]) (Li (ag 0)) (aM 0) cv (Jb HJ HJ (xA ("a" :Str)) (ag 0) (xA ("z" :Str)))) au))))⟩
theorem Ab:bc ["goods","works"] ["goods","works"] (aw iT):=⟨rfl,rfl,rfl,by decide +kernel,rfl,by decide +kernel,by decide +kernel⟩
theorem AB{a:Addr}{fd:FuncData}(F:Fun K "check_many" "check_many" iT a fd)(hm:mg "check_many" =some (.ref a))(ab:P.given.tree=none)(Y:mg "len" =none)(J:∃t,mg "MOST_GOODS" =some (.int 10 t))(U:∃t,mg "MOST_WORKS" =some (.int 10 t)):bN P w K mg base ca 35 "check_many" ["goods","works"] iL a fd:=by
 refine⟨bx F Ab rfl λac A outer s H E hr=> ?_,hm,F.kp,F.binds λ_ _ _ _ _ _ us hl=>match us,hl with | [_,_],_=>rfl⟩
 have hu:=hr.units
 have an:=bJ hr (by decide)
 exact⟨_,(ax (dm (bH iF (bz cN rfl Y Boot.«len» (ah (pv 0) ar)) (yf (v:=.int 10) rfl J.choose_spec ⟨_,rfl⟩) (bL _))
 (aI iB)
 bX)
 (aI (dm (bH iF (bz cN rfl Y Boot.«len» (ah (pv 1) ar)) (yf (v:=.int 10) rfl U.choose_spec ⟨_,rfl⟩) (bL _))
 (aI iB)
 bX))),
  (aJ (dk (bP (av iE (bo dO (ai (ag 0) au)) (aF 10)))
 iD
 bY)
 (dk (bP (av iE (bo dO (ai (ag 1) au)) (aF 10)))
 iD
 bY))⟩
theorem Ai:bc ["text","earlier"] ["text","earlier"] (aw i3):=⟨rfl,rfl,rfl,by decide +kernel,rfl,by decide +kernel,by decide +kernel⟩
theorem Az{a:Addr}{fd:FuncData}(F:Fun K "check_name" "check_name" i3 a fd)(hm:mg "check_name" =some (.ref a))(J:P.given.tree=none)(U:bF P w K mg base ca 35 "is_name" ["text"] mn):bN P w K mg base ca 36 "check_name" ["text","earlier"] fj a fd:=by
 obtain⟨P0,PF,Y,oo,FW,Hh⟩:=U
 refine⟨bx F Ai rfl λam A outer s H E hr=> ?_,hm,F.kp,F.binds λ_ _ _ _ _ _ us hl=>match us,hl with | [_,_],_=>rfl⟩
 have hu:=hr.units
 have ap:=bJ hr (by decide)
 exact⟨_,(ax (dm (B4 (px (aQ Y (hr.mono (by decide)) rfl oo FW Hh .nil aX (ah (pv 0) ar))))
 (aI iB)
 bX)
 (aI (dm (bH zd (pv 0) (pv 1) (by with_unfolding_all rfl))
 (aI iB)
 bX))),
  (aJ (dk (BK (sI (aW (n:=1) (f:=mn) (ai (ag 0) au))))
 iD
 bY)
 (dk (bP (av KG (ag 0) (ag 1)))
 iD
 bY))⟩
theorem nE:bc ["goods","at","good"] ["goods"] (aw gZ):=⟨rfl,rfl,rfl,by decide +kernel,rfl,by decide +kernel,by decide +kernel⟩
theorem yJ{a:Addr}{fd:FuncData}(F:Fun K "check_goods" "check_goods" gZ a fd)(hm:mg "check_goods" =some (.ref a))(U:P.given.tree=none)(J:mg "enumerate" =none)(Y:bF P w K mg base ca 36 "check_name" ["text","earlier"] fj):bN P w K mg base ca 37 "check_goods" ["goods"] g5 a fd:=by
 obtain⟨Bf,AG,p6,gK,qb,pH⟩:=Y
 refine⟨bx F nE rfl λan A outer s H E hr=> ?_,hm,F.kp,F.binds λ_ _ _ _ _ _ us hl=>match us,hl with | [_],_=>rfl⟩
 have hu:=hr.units
 have as:=bJ hr (by decide)
 exact⟨_,(aI (eT PassesOwn.never rfl (nJ rfl J (ah (pv 0) ar)) (iR rfl (cy (aR (i:=1) nE.nd rfl (T5 rfl)) (cy (aR (i:=2) nE.nd rfl (T5 rfl)) gE)))
 (aI (dG (aQ p6 (hr.mono (by decide)) rfl gK qb pH .nil aX (ah (pv 2) (ah (wq Mr (pv 0) rf (u9 (pv 1))) ar))))))),
  (eY (gG (ai (ag 0) au)) (gA (cx (aM 1) (cx (aM 2) gC)))
 (dH (aW (n:=2) (f:=fj) (ai (ag 2) (ai (Pn (ag 0) oh (uO (ag 1))) au)))))⟩
theorem Ao:bc ["good","goods","earlier"] ["good","goods","earlier"] (aw iV):=⟨rfl,rfl,rfl,by decide +kernel,rfl,by decide +kernel,by decide +kernel⟩
theorem Ap{a:Addr}{fd:FuncData}(F:Fun K "check_good" "check_good" iV a fd)(hm:mg "check_good" =some (.ref a))(J:P.given.tree=none):bN P w K mg base ca 35 "check_good" ["good","goods","earlier"] iZ a fd:=by
 refine⟨bx F Ao rfl λU A outer s H E hr=> ?_,hm,F.kp,F.binds λ_ _ _ _ _ _ us Y=>match us,Y with | [_,_,_],_=>rfl⟩
 have hu:=hr.units
 have ab:=bJ hr (by decide)
 exact⟨_,(ax (dm (bH CG (pv 0) (pv 1) (by with_unfolding_all rfl))
 (aI iB)
 bX)
 (aI (dm (bH zd (pv 0) (pv 2) (by with_unfolding_all rfl))
 (aI iB)
 bX))),
  (aJ (dk (bP (av JA (ag 0) (ag 1)))
 iD
 bY)
 (dk (bP (av KG (ag 0) (ag 2)))
 iD
 bY))⟩
theorem xU:bc ["amount"] ["amount"] (aw gD):=⟨rfl,rfl,rfl,by decide +kernel,rfl,by decide +kernel,by decide +kernel⟩
theorem xE{a:Addr}{fd:FuncData}(F:Fun K "check_amount" "check_amount" gD a fd)(hm:mg "check_amount" =some (.ref a))(J:P.given.tree=none)(U:bF P w K mg base ca 35 "is_whole" ["value"] kD):bN P w K mg base ca 36 "check_amount" ["amount"] gw a fd:=by
 obtain⟨Pr,OX,Y,oP,EI,EJ⟩:=U
 refine⟨bx F xU rfl λam A outer s H E hr=> ?_,hm,F.kp,F.binds λ_ _ _ _ _ _ us hl=>match us,hl with | [_],_=>rfl⟩
 have hu:=hr.units
 have ap:=bJ hr (by decide)
 exact⟨_,(aI (dm (PW.pt (pw_or (B4 (px (aQ Y (hr.mono (by decide)) rfl oP EI EJ .nil aX (ah (pv 0) ar)))) (pw_or1 (bH u1 (pv 0) aH (bL _)))))
 (aI iB)
 bX)),
  (dk (E6 (BK (sI (aW (n:=1) (f:=kD) (ai (ag 0) au)))) (bP (av uR (ag 0) (aF 1))))
 iD
 bY)⟩
theorem kz:bc ["parts","goods","earlier","good","amount"] ["parts","goods"] (aw gU):=⟨rfl,rfl,rfl,by decide +kernel,rfl,by decide +kernel,by decide +kernel⟩
theorem yH{a:Addr}{fd:FuncData}(F:Fun K "check_parts" "check_parts" gU a fd)(hm:mg "check_parts" =some (.ref a))(J:P.given.tree=none)(U:bF P w K mg base ca 35 "check_good" ["good","goods","earlier"] iZ)(Y:bF P w K mg base ca 36 "check_amount" ["amount"] gw):bN P w K mg base ca 37 "check_parts" ["parts","goods"] eG a fd:=by
 obtain⟨Oa,MU,B8,j9,By,Cf⟩:=U
 obtain⟨LJ,KC,ye,iI,yr,yt⟩:=Y
 refine⟨bx F kz rfl λaz A outer s H E hr=> ?_,hm,F.kp,F.binds λ_ _ _ _ _ _ us hl=>match us,hl with | [_,_],_=>rfl⟩
 have hu:=hr.units
 have a1:=bJ hr (by decide)
 exact⟨_,(ax (bh (i:=2) kz.nd rfl (T5 rfl) (gL ar))
 (aI (eT PassesOwn.never rfl (cC (pv 0)) (iR rfl (cy (aR (i:=3) kz.nd rfl (T5 rfl)) (cy (aR (i:=4) kz.nd rfl (T5 rfl)) gE)))
 (ax (dG (aQ B8 (hr.mono (by decide)) rfl j9 By Cf .nil aX (ah (pv 3) (ah (pv 1) (ah (pv 2) ar)))))
 (ax (dG (aQ ye (hr.mono (by decide)) rfl iI yr yt .nil aX (ah (pv 4) ar)))
 (aI (dG (lK UG UK UL fV (pv 2) (ah (pv 3) ar))))))))),
  (aJ (aT (kK au))
 (eY (cB (ag 0)) (gA (cx (aM 3) (cx (aM 4) gC)))
 (aJ (dH (nq (n:=3) (f:=iZ) (ai (ag 3) (ai (ag 1) (ai (ag 2) au)))))
 (aJ (dH (aW (n:=1) (f:=gw) (ai (ag 4) au)))
 (dH (lD (ag 2) (ag 3)))))))⟩
theorem iW:bc ["works","goods","earlier","name","uses","makes"] ["works","goods"] (aw hE):=⟨rfl,rfl,rfl,by decide +kernel,rfl,by decide +kernel,by decide +kernel⟩
theorem yT{a:Addr}{fd:FuncData}(F:Fun K "check_works" "check_works" hE a fd)(hm:mg "check_works" =some (.ref a))(ab:P.given.tree=none)(pL:bF P w K mg base ca 36 "check_name" ["text","earlier"] fj)(Aj:bF P w K mg base ca 37 "check_parts" ["parts","goods"] eG):bN P w K mg base ca 38 "check_works" ["works","goods"] gX a fd:=by
 obtain⟨Bf,AG,p6,gK,qb,pH⟩:=pL
 obtain⟨MO,L6,J,hX,U,Y⟩:=Aj
 refine⟨bx F iW rfl λaz A outer s H E hr=> ?_,hm,F.kp,F.binds λ_ _ _ _ _ _ us hl=>match us,hl with | [_,_],_=>rfl⟩
 have hu:=hr.units
 have a1:=bJ hr (by decide)
 exact⟨_,(ax (bh (i:=2) iW.nd rfl (T5 rfl) (gL ar))
 (aI (eT PassesOwn.never rfl (cC (pv 0)) (iR rfl (cy (aR (i:=3) iW.nd rfl (T5 rfl)) (cy (aR (i:=4) iW.nd rfl (T5 rfl)) (cy (aR (i:=5) iW.nd rfl (T5 rfl)) gE))))
 (ax (dG (aQ p6 (hr.mono (by decide)) rfl gK qb pH .nil aX (ah (pv 3) (ah (pv 2) ar))))
 (ax (dG (aQ J (hr.mono (by decide)) rfl hX U Y .nil aX (ah (pv 4) (ah (pv 1) ar))))
 (ax (dG (aQ J (hr.mono (by decide)) rfl hX U Y .nil aX (ah (pv 5) (ah (pv 1) ar))))
 (aI (dG (lK UG UK UL fV (pv 2) (ah (pv 3) ar)))))))))),
  (aJ (aT (kK au))
 (eY (cB (ag 0)) (gA (cx (aM 3) (cx (aM 4) (cx (aM 5) gC))))
 (aJ (dH (nq (n:=2) (f:=fj) (ai (ag 3) (ai (ag 2) au))))
 (aJ (dH (aW (n:=2) (f:=eG) (ai (ag 4) (ai (ag 1) au))))
 (aJ (dH (aW (n:=2) (f:=eG) (ai (ag 5) (ai (ag 1) au))))
 (dH (lD (ag 2) (ag 3))))))))⟩
theorem AX:bc ["work"] ["work"] (aw jN):=⟨rfl,rfl,rfl,by decide +kernel,rfl,by decide +kernel,by decide +kernel⟩
theorem Bt{a:Addr}{fd:FuncData}(F:Fun K "copy_work" "copy_work" jN a fd)(hm:mg "copy_work" =some (.ref a))(U:P.given.tree=none)(J:mg "list" =none):bN P w K mg base ca 35 "copy_work" ["work"] jF a fd:=by
 refine⟨bx F AX rfl λY A outer s H E hr=> ?_,hm,F.kp,F.binds λ_ _ _ _ _ _ us hl=>match us,hl with | [_],_=>rfl⟩
 have hu:=hr.units
 have ac:=bJ hr (by decide)
 exact⟨_,(aI (bu (xS (ah (cG bQ (pv 0) aH (λ_ _=>rfl)) (ah (i9 iU rfl J Boot.«list» (ah (cG bQ (pv 0) aH (λ_ _=>rfl)) ar)) (ah (i9 iU rfl J Boot.«list» (ah (cG bQ (pv 0) aH (λ_ _=>rfl)) ar)) ar)))))),
  (bt (w8 (ai (av cF (ag 0) (aF 0)) (ai (bo pZ (ai (av cF (ag 0) (aF 1)) au)) (ai (bo pZ (ai (av cF (ag 0) (aF 2)) au)) au)))))⟩
theorem B3:bc ["good","parts"] ["good","parts"] (aw jD):=⟨rfl,rfl,rfl,by decide +kernel,rfl,by decide +kernel,by decide +kernel⟩
theorem Cb{a:Addr}{fd:FuncData}(F:Fun K "amount_of" "amount_of" jD a fd)(hm:mg "amount_of" =some (.ref a))(U:P.given.tree=none)(J:mg "sum" =none):bN P w K mg base ca 35 "amount_of" ["good","parts"] eC a fd:=by
 refine⟨bx F B3 rfl λY A outer s H E hr=> ?_,hm,F.kp,F.binds λ_ _ _ _ _ _ us hl=>match us,hl with | [_,_],_=>rfl⟩
 have hu:=hr.units
 have ac:=bJ hr (by decide)
 exact⟨_,(aI (bu (bz (oa rfl) rfl J Boot.«sum» (ah (cU (own:=["part"]) (cap:=["good"]) (caps:=[0]) rfl ⟨rfl,by decide +kernel,by decide +kernel,by decide +kernel,⟨rfl,T5 rfl,rfl,trivial⟩,by decide +kernel⟩ (cC (pv 1)) (λ_ _ _=>(aR (i:=0) (show ((["part"]:List Str)++(["good"]:List Str)).Nodup from by decide +kernel) rfl (T5 rfl))) (λ_ _ _=>(mz (bH (nr hu) (cG bQ (pv 0) aH (λ_ _=>rfl)) (pv 1) (bL _)))) (λ_ _ _=>(cG bQ (pv 0) aH (λ_ _=>rfl)))) ar)))),
  (bt (bo uC (ai (cb (m:=1) (caps:=[0]) (cB (ag 1)) (aM 0) (bP (av ky (av cF (ag 0) (aF 0)) (ag 1))) (av cF (ag 0) (aF 1))) au)))⟩
theorem BA:bc ["work","goods"] ["work","goods"] (aw jK):=⟨rfl,rfl,rfl,by decide +kernel,rfl,by decide +kernel,by decide +kernel⟩
theorem Bu{a:Addr}{fd:FuncData}(F:Fun K "change_of" "change_of" jK a fd)(hm:mg "change_of" =some (.ref a))(ab:P.given.tree=none)(C0:bF P w K mg base ca 35 "amount_of" ["good","parts"] eC):bN P w K mg base ca 36 "change_of" ["work","goods"] jG a fd:=by
 obtain⟨OT,MY,J,jE,U,Y⟩:=C0
 refine⟨bx F BA rfl λam A outer s H E hr=> ?_,hm,F.kp,F.binds λ_ _ _ _ _ _ us hl=>match us,hl with | [_,_],_=>rfl⟩
 have hu:=hr.units
 have ap:=bJ hr (by decide)
 exact⟨_,(aI (bu (cU (own:=["good"]) (cap:=["work"]) (caps:=[0]) rfl ⟨rfl,by decide +kernel,by decide +kernel,by decide +kernel,⟨rfl,T5 rfl,rfl,trivial⟩,by decide +kernel⟩ (cC (pv 1)) (λ_ _ _=>(aR (i:=0) (show ((["good"]:List Str)++(["work"]:List Str)).Nodup from by decide +kernel) rfl (T5 rfl))) (λ_ _ _=>ck) (λ_ _ _=>(aV mZ (aQ J (hr.mono (by decide)) rfl jE U Y .nil aX (ah (pv 0) (ah (cG bQ (pv 1) aH (λ_ _=>rfl)) ar))) (aQ J (hr.mono (by decide)) rfl jE U Y .nil aX (ah (pv 0) (ah (cG bQ (pv 1) aH (λ_ _=>rfl)) ar)))))))),
  (bt (cb (m:=1) (caps:=[0]) (cB (ag 1)) (aM 0) cv (av mP (aW (n:=2) (f:=eC) (ai (ag 0) (ai (av cF (ag 1) (aF 2)) au))) (aW (n:=2) (f:=eC) (ai (ag 0) (ai (av cF (ag 1) (aF 1)) au))))))⟩
theorem Bb:bc ["self","goods","works"] ["self","goods","works"] (aw jM):=⟨rfl,rfl,rfl,by decide +kernel,rfl,by decide +kernel,by decide +kernel⟩
theorem B6{a:Addr}{fd:FuncData}(F:Fun K "__init__" "Yard.__init__" jM a fd)(hk:Mk K (ca 0) a)(hm:mg "Yard" =some (.ref (ca 0)))(am:P.given.tree=none)(ac:mg "list" =none)(ab:Cls K (ca 0))(U:eO K (ca 0) "held_goods")(Y:eO K (ca 0) "held_works")(J:eO K (ca 0) "held_changes")(Bq:bF P w K mg base ca 35 "check_many" ["goods","works"] iL)(Al:bF P w K mg base ca 37 "check_goods" ["goods"] g5)(Aw:bF P w K mg base ca 38 "check_works" ["works","goods"] gX)(CV:bF P w K mg base ca 35 "copy_work" ["work"] jF)(De:bF P w K mg base ca 36 "change_of" ["work","goods"] jG):FX P w K mg base ca 39 (ca 0) "Yard" ["self","goods","works"] iz:=by
 obtain⟨Ng,MT,A0,kl,Bj,BQ⟩:=Bq
 obtain⟨MP,LZ,Ax,ju,Au,Aq⟩:=Al
 obtain⟨MQ,LA,Av,jq,AI,Ad⟩:=Aw
 obtain⟨OW,Nb,CT,kY,C2,Dt⟩:=CV
 obtain⟨OL,NG,Dg,kX,C8,Di⟩:=De
 refine⟨a,fd,bx F Bb rfl λbp A outer s H E hr=> ?_,hk,hm,F.binds λ_ _ _ _ _ _ us hl=>match us,hl with | [_,_,_],_=>rfl⟩
 have hu:=hr.units
 have bw:=bJ hr (by decide)
 exact⟨_,(ax (dG (aQ A0 (hr.mono (by decide)) rfl kl Bj BQ .nil aX (ah (pv 1) (ah (pv 2) ar))))
 (ax (dG (aQ Ax (hr.mono (by decide)) rfl ju Au Aq .nil aX (ah (pv 1) ar)))
 (ax (dG (aQ Av (hr.mono (by decide)) rfl jq AI Ad .nil aX (ah (pv 2) (ah (pv 1) ar))))
 (ax (Co (pv 0) (i9 iU rfl ac Boot.«list» (ah (pv 1) ar)) rfl)
 (ax (Co (pv 0) (cU (own:=["work"]) (cap:=[]) (caps:=[]) rfl ⟨rfl,by decide +kernel,by decide +kernel,by decide +kernel,trivial,by decide +kernel⟩ (cC (pv 2)) (λ_ _ _=>(aR (i:=0) (show ((["work"]:List Str)++([]:List Str)).Nodup from by decide +kernel) rfl (T5 rfl))) (λ_ _ _=>ck) (λ_ _ _=>(aQ CT (hr.mono (by decide)) rfl kY C2 Dt .nil aX (ah (pv 0) ar)))) rfl)
 (aI (Co (pv 0) (cU (own:=["work"]) (cap:=["goods"]) (caps:=[1]) rfl ⟨rfl,by decide +kernel,by decide +kernel,by decide +kernel,⟨rfl,T5 rfl,rfl,trivial⟩,by decide +kernel⟩ (cC (pv 2)) (λ_ _ _=>(aR (i:=0) (show ((["work"]:List Str)++(["goods"]:List Str)).Nodup from by decide +kernel) rfl (T5 rfl))) (λ_ _ _=>ck) (λ_ _ _=>(aQ Dg (hr.mono (by decide)) rfl kX C8 Di .nil aX (ah (pv 0) (ah (pv 1) ar))))) rfl))))))),
  (aJ (dH (aW (n:=2) (f:=iL) (ai (ag 1) (ai (ag 2) au))))
 (aJ (dH (aW (n:=1) (f:=g5) (ai (ag 1) au)))
 (aJ (dH (aW (n:=2) (f:=gX) (ai (ag 2) (ai (ag 1) au))))
 (aJ (ym (c:=0) (f:="held_goods") ab U (ag 0) (bo pZ (ai (ag 1) au)))
 (aJ (ym (c:=0) (f:="held_works") ab Y (ag 0) (cb (m:=1) (caps:=[]) (cB (ag 2)) (aM 0) cv (aW (n:=1) (f:=jF) (ai (ag 0) au))))
 (ym (c:=0) (f:="held_changes") ab J (ag 0) (cb (m:=1) (caps:=[1]) (cB (ag 2)) (aM 0) cv (aW (n:=2) (f:=jG) (ai (ag 0) (ai (ag 1) au))))))))))⟩
theorem DB:bc ["self","at"] ["self","at"] (aw kN):=⟨rfl,rfl,rfl,by decide +kernel,rfl,by decide +kernel,by decide +kernel⟩
theorem Dk{a:Addr}{fd:FuncData}(F:Fun K "row" "Yard.row" kN a fd)(hm:Meth K (ca 0) "row" a)(Y:P.given.tree=none)(U:Cls K (ca 0))(J:eO K (ca 0) "held_changes"):MethAt P w K mg base ca 35 (ca 0) "row" ["self","at"] kG:=by
 refine⟨a,fd,bx F DB rfl λab A outer s H E hr=> ?_,hm,F.binds λ_ _ _ _ _ _ us hl=>match us,hl with | [_,_],_=>rfl⟩
 have hu:=hr.units
 have am:=bJ hr (by decide)
 exact⟨_,(aI (bu (cU (own:=["change"]) (cap:=["at"]) (caps:=[1]) rfl ⟨rfl,by decide +kernel,by decide +kernel,by decide +kernel,⟨rfl,T5 rfl,rfl,trivial⟩,by decide +kernel⟩ (cC (rh (pv 0) rfl)) (λ_ _ _=>(aR (i:=0) (show ((["change"]:List Str)++(["at"]:List Str)).Nodup from by decide +kernel) rfl (T5 rfl))) (λ_ _ _=>ck) (λ_ _ _=>(cG bQ (pv 0) (pv 1) (λ_ _=>rfl)))))),
  (bt (cb (m:=1) (caps:=[1]) (cB (qP (c:=0) (f:="held_changes") U J (ag 0))) (aM 0) cv (av cF (ag 0) (ag 1))))⟩
theorem CD:bc ["self"] ["self"] (aw jI):=⟨rfl,rfl,rfl,by decide +kernel,rfl,by decide +kernel,by decide +kernel⟩
theorem Bd{a:Addr}{fd:FuncData}(F:Fun K "rows" "Yard.rows" jI a fd)(hm:Meth K (ca 0) "rows" a)(az:P.given.tree=none)(as:mg "len" =none)(am:mg "range" =none)(U:Cls K (ca 0))(J:eO K (ca 0) "held_goods")(Y:MethAt P w K mg base ca 35 (ca 0) "row" ["self","at"] kG):MethAt P w K mg base ca 36 (ca 0) "rows" ["self"] iA:=by
 obtain⟨ap,an,ab,m4,ac⟩:=Y
 refine⟨a,fd,bx F CD rfl λa0 A outer s H E hr=> ?_,hm,F.binds λ_ _ _ _ _ _ us hl=>match us,hl with | [_],_=>rfl⟩
 have hu:=hr.units
 have a2:=bJ hr (by decide)
 exact⟨_,(aI (bu (cU (own:=["at"]) (cap:=["self"]) (caps:=[0]) rfl ⟨rfl,by decide +kernel,by decide +kernel,by decide +kernel,⟨rfl,T5 rfl,rfl,trivial⟩,by decide +kernel⟩ (dy rfl am (ah (bz cN rfl as Boot.«len» (ah (rh (pv 0) rfl) ar)) ar)) (λ_ _ _=>(aR (i:=0) (show ((["at"]:List Str)++(["self"]:List Str)).Nodup from by decide +kernel) rfl (T5 rfl))) (λ_ _ _=>ck) (λ_ _ _=>(u7 (pv 1) U m4 ab (hr.mono (by decide)) ac .nil aX (ah (pv 0) ar)))))),
  (bt (cb (m:=1) (caps:=[0]) (eR (ai (bo dO (ai (qP (c:=0) (f:="held_goods") U J (ag 0)) au)) au)) (aM 0) cv (jl (c:=0) (m:="row") (n:=1) (f:=kG) (ag 1) (ai (ag 0) au))))⟩
theorem vg:bc ["self","way"] ["self","way"] (aw fO):=⟨rfl,rfl,rfl,by decide +kernel,rfl,by decide +kernel,by decide +kernel⟩
theorem vk{a:Addr}{fd:FuncData}(F:Fun K "check_way" "Yard.check_way" fO a fd)(hm:Meth K (ca 0) "check_way" a)(ac:P.given.tree=none)(U:mg "len" =none)(ab:mg "any" =none)(Y:Cls K (ca 0))(J:eO K (ca 0) "held_works"):MethAt P w K mg base ca 35 (ca 0) "check_way" ["self","way"] fP:=by
 refine⟨a,fd,bx F vg rfl λam A outer s H E hr=> ?_,hm,F.binds λ_ _ _ _ _ _ us hl=>match us,hl with | [_,_],_=>rfl⟩
 have hu:=hr.units
 have ap:=bJ hr (by decide)
 exact⟨_,(ax (dm (bH (tI hu) (bz cN rfl U Boot.«len» (ah (pv 1) ar)) (bz cN rfl U Boot.«len» (ah (rh (pv 0) rfl) ar)) (bL _))
 (aI iB)
 bX)
 (aI (dm (px (bz (GW rfl) rfl ab Boot.«any» (ah (cU (own:=["often"]) (cap:=[]) (caps:=[]) rfl ⟨rfl,by decide +kernel,by decide +kernel,by decide +kernel,trivial,by decide +kernel⟩ (cC (pv 1)) (λ_ _ _=>(aR (i:=0) (show ((["often"]:List Str)++([]:List Str)).Nodup from by decide +kernel) rfl (T5 rfl))) (λ_ _ _=>ck) (λ_ _ _=>(o3 u1 (pv 0) aH (bL _)))) ar)))
 (aI iB)
 bX))),
  (aJ (dk (bP (av qw (bo dO (ai (ag 1) au)) (bo dO (ai (qP (c:=0) (f:="held_works") Y J (ag 0)) au))))
 iD
 bY)
 (dk (sI (bo Oq (ai (cb (m:=1) (caps:=[]) (cB (ag 1)) (aM 0) cv (av uR (ag 0) (aF 0))) au)))
 iD
 bY))⟩
theorem yh:bc ["self","way"] ["self","way"] (aw g7):=⟨rfl,rfl,rfl,by decide +kernel,rfl,by decide +kernel,by decide +kernel⟩
theorem yg{a:Addr}{fd:FuncData}(F:Fun K "leaves" "Yard.leaves" g7 a fd)(hm:Meth K (ca 0) "leaves" a)(a1:P.given.tree=none)(an:Cls K (ca 0))(J:MethAt P w K mg base ca 35 (ca 0) "check_way" ["self","way"] fP)(ab:MethAt P w K mg base ca 36 (ca 0) "rows" ["self"] iA)(d6:bF P w K mg base ca 35 "sum_of_products" ["numbers","others"] bB):MethAt P w K mg base ca 37 (ca 0) "leaves" ["self","way"] gW:=by
 obtain⟨as,ap,U,gF,Y⟩:=J
 obtain⟨a0,az,ac,lj,am⟩:=ab
 obtain⟨kW,jZ,d7,cM,d8,ee⟩:=d6
 refine⟨a,fd,bx F yh rfl λa6 A outer s H E hr=> ?_,hm,F.binds λ_ _ _ _ _ _ us hl=>match us,hl with | [_,_],_=>rfl⟩
 have hu:=hr.units
 have a8:=bJ hr (by decide)
 exact⟨_,(ax (dG (u7 (pv 0) an gF U (hr.mono (by decide)) Y .nil aX (ah (pv 1) ar)))
 (aI (bu (cU (own:=["row"]) (cap:=["way"]) (caps:=[1]) rfl ⟨rfl,by decide +kernel,by decide +kernel,by decide +kernel,⟨rfl,T5 rfl,rfl,trivial⟩,by decide +kernel⟩ (cC (qc (pv 0) an lj ac (hr.mono (by decide)) am .nil aX)) (λ_ _ _=>(aR (i:=0) (show ((["row"]:List Str)++(["way"]:List Str)).Nodup from by decide +kernel) rfl (T5 rfl))) (λ_ _ _=>ck) (λ_ _ _=>(aQ d7 (hr.mono (by decide)) rfl cM d8 ee .nil aX (ah (pv 0) (ah (pv 1) ar)))))))),
  (aJ (dH (jl (c:=0) (m:="check_way") (n:=1) (f:=fP) (ag 0) (ai (ag 1) au)))
 (bt (cb (m:=1) (caps:=[1]) (cB (jl (c:=0) (m:="rows") (n:=0) (f:=iA) (ag 0) au)) (aM 0) cv (aW (n:=2) (f:=bB) (ai (ag 0) (ai (ag 1) au))))))⟩
theorem Df:bc ["_law_script","_law_k"] ["_law_script","_law_k"] (aw kF):=⟨rfl,rfl,rfl,by decide +kernel,rfl,by decide +kernel,by decide +kernel⟩
theorem Dy{a:Addr}{fd:FuncData}(F:Fun K "_law_cell" "_law_cell" kF a fd)(hm:mg "_law_cell" =some (.ref a))(U:P.given.tree=none)(J:mg "len" =none):bN P w K mg base ca 35 "_law_cell" ["_law_script","_law_k"] cP a fd:=by
 refine⟨bx F Df rfl λY A outer s H E hr=> ?_,hm,F.kp,F.binds λ_ _ _ _ _ _ us hl=>match us,hl with | [_,_],_=>rfl⟩
 have hu:=hr.units
 have ac:=bJ hr (by decide)
 exact⟨_,(ax (dm (bH u1 (pv 1) (bz cN rfl J Boot.«len» (ah (pv 0) ar)) (bL _))
 (aI (bu (cG bQ (pv 0) (pv 1) (λ_ _=>rfl))))
 bX)
 (aI (bu aH))),
  (aJ (dk (bP (av uR (ag 1) (bo dO (ai (ag 0) au))))
 (bt (av cF (ag 0) (ag 1)))
 bY)
 (bt (aF 0)))⟩
theorem vG:bc ["_law_cell_here","_law_turn","_law_many","_law_blent"] ["_law_cell_here","_law_turn","_law_many"] (aw kM):=⟨rfl,rfl,rfl,by decide +kernel,rfl,by decide +kernel,by decide +kernel⟩
theorem Dq{a:Addr}{fd:FuncData}(F:Fun K "_law_pick" "_law_pick" kM a fd)(hm:mg "_law_pick" =some (.ref a))(J:P.given.tree=none):bN P w K mg base ca 35 "_law_pick" ["_law_cell_here","_law_turn","_law_many"] aL a fd:=by
 refine⟨bx F vG rfl λY A outer s H E hr=> ?_,hm,F.kp,F.binds λ_ _ _ _ _ _ us hl=>match us,hl with | [_,_,_],_=>rfl⟩
 have hu:=hr.units
 have U:=bJ hr (by decide)
 exact⟨_,(ax (bh (i:=3) vG.nd rfl (T5 rfl) (aV gc (aV gR (aV dg (aV gc (pv 0) aH) aH) (aV dg aH (aV gR aH (pv 1)))) aH))
 (aI (bu (aV gc (aV (om U J ⟨_,_,rfl,rfl,rfl,rfl,rfl⟩) (aV gc (aV gR (pv 3) aH) aH) aH) (pv 2))))),
  (aJ (aT (av iq (av fG (av cI (av iq (ag 0) (aF 2147483647)) (aF 7)) (av cI (aF 48271) (av fG (aF 7919) (ag 1)))) (aF 2147483647)))
 (bt (av iq (av mL (av iq (av fG (ag 3) (aF 16807)) (aF 2147483647)) (aF 8)) (ag 2))))⟩
theorem gM:bc ["_law_cell_here","_law_many","_law_letters","_law_word","_law_k","_law_spot","_law_first"] ["_law_cell_here","_law_many"] (aw jO):=⟨rfl,rfl,rfl,by decide +kernel,rfl,by decide +kernel,by decide +kernel⟩
theorem Cq{a:Addr}{fd:FuncData}(F:Fun K "_law_names" "_law_names" jO a fd)(hm:mg "_law_names" =some (.ref a))(am:P.given.tree=none)(J:mg "range" =none)(U:mg "len" =none)(fm:bF P w K mg base ca 35 "_law_pick" ["_law_cell_here","_law_turn","_law_many"] aL):bN P w K mg base ca 36 "_law_names" ["_law_cell_here","_law_many"] dF a fd:=by
 obtain⟨m8,lH,Y,bK,bW,bU⟩:=fm
 refine⟨bx F gM rfl λap A outer s H E hr=> ?_,hm,F.kp,F.binds λ_ _ _ _ _ _ us hl=>match us,hl with | [_,_],_=>rfl⟩
 have hu:=hr.units
 have az:=bJ hr (by decide)
 exact⟨_,(ax (bh (i:=2) gM.nd rfl (Vo rfl) xq)
 (ax (bh (i:=3) gM.nd rfl (Vo rfl) xq)
 (ax (eT PassesOwn.never rfl (dy rfl J (ah (aQ Y (hr.mono (by decide)) rfl bK bW bU .nil aX (ah (pv 0) (ah aH (ah aH ar)))) ar)) (aR (i:=4) gM.nd rfl (T5 rfl))
 (aI (bh (i:=3) gM.nd rfl (Vo rfl) (aV dg (pv 3) (cG bQ (pv 2) (aQ Y (hr.mono (by decide)) rfl bK bW bU .nil aX (ah (pv 0) (ah (aV dg aH (pv 4)) (ah aH ar)))) (λ_ _=>rfl))))))
 (ax (bh (i:=5) gM.nd rfl (Vo rfl) (aQ Y (hr.mono (by decide)) rfl bK bW bU .nil aX (ah (pv 0) (ah aH (ah (aV dg (bz cN rfl U Boot.«len» (ah (pv 3) ar)) aH) ar)))))
 (ax (bh (i:=6) gM.nd rfl (Vo rfl) (aQ Y (hr.mono (by decide)) rfl bK bW bU .nil aX (ah (pv 0) (ah aH (ah aH ar)))))
 (aI (bu (cU (own:=["_law_k"]) (cap:=["_law_first","_law_letters","_law_spot","_law_word"]) (caps:=[6,2,5,3]) rfl ⟨rfl,by decide +kernel,by decide +kernel,by decide +kernel,⟨rfl,T5 rfl,rfl,⟨rfl,T5 rfl,rfl,⟨rfl,T5 rfl,rfl,⟨rfl,T5 rfl,rfl,trivial⟩⟩⟩⟩,by decide +kernel⟩ (dy rfl J (ah (pv 1) ar)) (λ_ _ _=>(aR (i:=0) (show ((["_law_k"]:List Str)++(["_law_first","_law_letters","_law_spot","_law_word"]:List Str)).Nodup from by decide +kernel) rfl (T5 rfl))) (λ_ _ _=>ck) (λ_ _ _=>(aV dg (aV dg (wq GS (pv 4) rf (u9 (pv 3))) (cG bQ (pv 2) (aV gc (aV dg (pv 1) (aV gR aH (pv 0))) aH) (λ_ _=>rfl))) (wq GS (pv 4) (u9 (pv 3)) rf))))))))))),
  (aJ (aT (xA ("abcdefghijklmnopqrstuvwxyz" :Str)))
 (aJ (aT (xA ("" :Str)))
 (aJ (eY (eR (ai (aW (n:=3) (f:=aL) (ai (ag 0) (ai (aF 1) (ai (aF 8) au)))) au)) (aM 4)
 (aT (av cI (ag 3) (av cF (ag 2) (aW (n:=3) (f:=aL) (ai (ag 0) (ai (av cI (aF 2) (ag 4)) (ai (aF 26) au))))))))
 (aJ (aT (aW (n:=3) (f:=aL) (ai (ag 0) (ai (aF 10) (ai (av cI (bo dO (ai (ag 3) au)) (aF 1)) au)))))
 (aJ (aT (aW (n:=3) (f:=aL) (ai (ag 0) (ai (aF 11) (ai (aF 26) au)))))
 (bt (cb (m:=1) (caps:=[6,2,5,3]) (eR (ai (ag 1) au)) (aM 0) cv (av cI (av cI (He (ag 4) oh (uO (ag 3))) (av cF (ag 2) (av iq (av cI (ag 1) (av fG (aF 5) (ag 0))) (aF 26)))) (He (ag 4) (uO (ag 3)) oh)))))))))⟩
theorem fS:bc ["_law_cell_here","_law_many","_law_wide","_law_made","_law_rest","_law_span","_law_g","_law_number"] ["_law_cell_here","_law_many","_law_wide"] (aw kE):=⟨rfl,rfl,rfl,by decide +kernel,rfl,by decide +kernel,by decide +kernel⟩
theorem CP{a:Addr}{fd:FuncData}(F:Fun K "_law_move" "_law_move" kE a fd)(hm:mg "_law_move" =some (.ref a))(U:P.given.tree=none)(Y:mg "int" =none)(J:mg "range" =none)(fm:bF P w K mg base ca 35 "_law_pick" ["_law_cell_here","_law_turn","_law_many"] aL):bN P w K mg base ca 36 "_law_move" ["_law_cell_here","_law_many","_law_wide"] kC a fd:=by
 obtain⟨m8,lH,bV,bK,bW,bU⟩:=fm
 refine⟨bx F fS rfl λas A outer s H E hr=> ?_,hm,F.kp,F.binds λ_ _ _ _ _ _ us hl=>match us,hl with | [_,_,_],_=>rfl⟩
 have hu:=hr.units
 have ab:=bJ hr (by decide)
 exact⟨_,(ax (bh (i:=3) fS.nd rfl (T5 rfl) (gL ar))
 (ax (bh (i:=4) fS.nd rfl (T5 rfl) (aV (om ab U ⟨_,_,rfl,rfl,rfl,rfl,rfl⟩) (pv 0) aH))
 (ax (bh (i:=5) fS.nd rfl (T5 rfl) (cG bQ (gL (ah aH (ah (aV dg (aV gR aH (aV uz aH aH)) aH) ar))) (i9 yW rfl Y Boot.«int» (ah (pv 2) ar)) (λ_ _=>rfl)))
 (ax (eT PassesOwn.never rfl (dy rfl J (ah (pv 1) ar)) (aR (i:=6) fS.nd rfl (T5 rfl))
 (ax (bh (i:=7) fS.nd rfl (T5 rfl) (aV mZ (aQ bV (hr.mono (by decide)) rfl bK bW bU .nil aX (ah (pv 0) (ah (aV dg aH (pv 6)) (ah aH ar)))) aH))
 (ax (dm (px (pv 2))
 (aI (bh (i:=7) fS.nd rfl (T5 rfl) (aV mZ (aV dg (aV gR (pv 7) (aV gc (pv 0) (aV uz aH aH))) (aQ bV (hr.mono (by decide)) rfl bK bW bU .nil aX (ah (pv 0) (ah (aV dg aH (pv 6)) (ah aH ar))))) aH)))
 bX)
 (ax (dm (PW.pt (pw_and (bH (nr hu) (aV gc (pv 0) aH) aH (bL _)) (pw_and1 (bH iF (pv 4) aH (bL _)))))
 (ax (bh (i:=7) fS.nd rfl (T5 rfl) (aV mZ (aV gc (pv 4) (pv 5)) (aV (om ab U ⟨_,_,rfl,rfl,rfl,rfl,rfl⟩) (pv 5) aH)))
 (aI (bh (i:=4) fS.nd rfl (T5 rfl) (aV (om ab U ⟨_,_,rfl,rfl,rfl,rfl,rfl⟩) (pv 4) (pv 5)))))
 bX)
 (aI (dG (lK UG UK UL fV (pv 3) (ah (pv 7) ar))))))))
 (aI (bu (pv 3))))))),
  (aJ (aT (kK au))
 (aJ (aT (av mL (ag 0) (aF 2)))
 (aJ (aT (av cF (xQ (ai (aF 7) (ai (av cI (av fG (aF 2) (av tG (aF 10) (aF 12))) (aF 1)) au))) (bo A8 (ai (ag 2) au))))
 (aJ (eY (eR (ai (ag 1) au)) (aM 6)
 (aJ (aT (av mP (aW (n:=3) (f:=aL) (ai (ag 0) (ai (av cI (aF 20) (ag 6)) (ai (aF 7) au)))) (aF 3)))
 (aJ (dk (sI (ag 2))
 (aT (av mP (av cI (av fG (ag 7) (av iq (ag 0) (av tG (aF 10) (aF 12)))) (aW (n:=3) (f:=aL) (ai (ag 0) (ai (av cI (aF 30) (ag 6)) (ai (aF 2000) au))))) (aF 1000)))
 bY)
 (aJ (dk (xR (bP (av ky (av iq (ag 0) (aF 2)) (aF 1))) (bP (av iE (ag 4) (aF 0))))
 (aJ (aT (av mP (av iq (ag 4) (ag 5)) (av mL (ag 5) (aF 2))))
 (aT (av mL (ag 4) (ag 5))))
 bY)
 (dH (lD (ag 3) (ag 7)))))))
 (bt (ag 3))))))⟩
theorem eV:bc ["_law_cell_here","_law_many","_law_lowest_one","_law_made","_law_rest","_law_g","_law_number"] ["_law_cell_here","_law_many","_law_lowest_one"] (aw hU):=⟨rfl,rfl,rfl,by decide +kernel,rfl,by decide +kernel,by decide +kernel⟩
theorem yn{a:Addr}{fd:FuncData}(F:Fun K "_law_weights" "_law_weights" hU a fd)(hm:mg "_law_weights" =some (.ref a))(Y:P.given.tree=none)(J:mg "range" =none)(U:mg "max" =none)(fm:bF P w K mg base ca 35 "_law_pick" ["_law_cell_here","_law_turn","_law_many"] aL):bN P w K mg base ca 36 "_law_weights" ["_law_cell_here","_law_many","_law_lowest_one"] gj a fd:=by
 obtain⟨m8,lH,bV,bK,bW,bU⟩:=fm
 refine⟨bx F eV rfl λas A outer s H E hr=> ?_,hm,F.kp,F.binds λ_ _ _ _ _ _ us hl=>match us,hl with | [_,_,_],_=>rfl⟩
 have hu:=hr.units
 have ab:=bJ hr (by decide)
 exact⟨_,(ax (bh (i:=3) eV.nd rfl (T5 rfl) (gL ar))
 (ax (bh (i:=4) eV.nd rfl (T5 rfl) (aV (om ab Y ⟨_,_,rfl,rfl,rfl,rfl,rfl⟩) (pv 0) aH))
 (ax (eT PassesOwn.never rfl (dy rfl J (ah (pv 1) ar)) (aR (i:=5) eV.nd rfl (T5 rfl))
 (ax (bh (i:=6) eV.nd rfl (T5 rfl) (aV mZ (aQ bV (hr.mono (by decide)) rfl bK bW bU .nil aX (ah (pv 0) (ah (aV dg aH (pv 5)) (ah aH ar)))) aH))
 (ax (dm (bH (nr hu) (aQ bV (hr.mono (by decide)) rfl bK bW bU .nil aX (ah (pv 0) (ah aH (ah aH ar)))) aH (bL _))
 (aI (bh (i:=6) eV.nd rfl (T5 rfl) (aV gR (pv 6) (aV gc (pv 0) (aV uz aH aH)))))
 bX)
 (ax (dm (PW.pt (pw_and (bH (nr hu) (aV gc (pv 0) aH) aH (bL _)) (pw_and1 (bH iF (pv 4) aH (bL _)))))
 (ax (bh (i:=6) eV.nd rfl (T5 rfl) (aV mZ (aV gc (pv 4) aH) aH))
 (aI (bh (i:=4) eV.nd rfl (T5 rfl) (aV (om ab Y ⟨_,_,rfl,rfl,rfl,rfl,rfl⟩) (pv 4) aH))))
 bX)
 (aI (dG (lK UG UK UL fV (pv 3) (ah (bz (n9 rfl) rfl U Boot.«max» (ah (pv 6) (ah (pv 2) ar))) ar))))))))
 (ax (dm (bH iF (pv 1) aH (bL _))
 (aI (xw aH (xX (pv 3) (aQ bV (hr.mono (by decide)) rfl bK bW bU .nil aX (ah (pv 0) (ah aH (ah (pv 1) ar)))) set_list)))
 bX)
 (aI (bu (pv 3))))))),
  (aJ (aT (kK au))
 (aJ (aT (av mL (ag 0) (aF 2)))
 (aJ (eY (eR (ai (ag 1) au)) (aM 5)
 (aJ (aT (av mP (aW (n:=3) (f:=aL) (ai (ag 0) (ai (av cI (aF 100) (ag 5)) (ai (aF 7) au)))) (aF 3)))
 (aJ (dk (bP (av ky (aW (n:=3) (f:=aL) (ai (ag 0) (ai (aF 110) (ai (aF 6) au)))) (aF 0)))
 (aT (av fG (ag 6) (av iq (ag 0) (av tG (aF 10) (aF 9)))))
 bY)
 (aJ (dk (xR (bP (av ky (av iq (ag 0) (aF 2)) (aF 1))) (bP (av iE (ag 4) (aF 0))))
 (aJ (aT (av mP (av iq (ag 4) (aF 7)) (aF 3)))
 (aT (av mL (ag 4) (aF 7))))
 bY)
 (dH (lD (ag 3) (bo qX (ai (ag 6) (ai (ag 2) au)))))))))
 (aJ (dk (bP (av iE (ag 1) (aF 0)))
 (uc (aF 1) (xG (ag 3) (aW (n:=3) (f:=aL) (ai (ag 0) (ai (aF 111) (ai (ag 1) au))))))
 bY)
 (bt (lg (ag 3)))))))⟩
theorem dZ:bc ["_law_script","_law_begin","_law_weights_here","_law_head","_law_many","_law_moves","_law_wide","_law_k","_law_move_here","_law_at","_law_weighs"] ["_law_script","_law_begin","_law_weights_here"] (aw g6):=⟨rfl,rfl,rfl,by decide +kernel,rfl,by decide +kernel,by decide +kernel⟩
theorem yz{a:Addr}{fd:FuncData}(F:Fun K "_law_keeping" "_law_keeping" g6 a fd)(hm:mg "_law_keeping" =some (.ref a))(a0:P.given.tree=none)(U:mg "len" =none)(Y:mg "int" =none)(J:mg "range" =none)(ab:mg "sum" =none)(rP:bF P w K mg base ca 35 "_law_cell" ["_law_script","_law_k"] cP)(fm:bF P w K mg base ca 35 "_law_pick" ["_law_cell_here","_law_turn","_law_many"] aL)(EH:bF P w K mg base ca 36 "_law_move" ["_law_cell_here","_law_many","_law_wide"] kC):bN P w K mg base ca 37 "_law_keeping" ["_law_script","_law_begin","_law_weights_here"] gh a fd:=by
 obtain⟨EN,CK,mM,gr,mT,m9⟩:=rP
 obtain⟨m8,lH,bV,bK,bW,bU⟩:=fm
 obtain⟨Pu,OP,EB,m5,ER,Ep⟩:=EH
 refine⟨bx F dZ rfl λa7 A outer s H E hr=> ?_,hm,F.kp,F.binds λ_ _ _ _ _ _ us hl=>match us,hl with | [_,_,_],_=>rfl⟩
 have hu:=hr.units
 have a9:=bJ hr (by decide)
 exact⟨_,(ax (bh (i:=3) dZ.nd rfl (T5 rfl) (aQ mM (hr.mono (by decide)) rfl gr mT m9 .nil aX (ah (pv 0) (ah (pv 1) ar))))
 (ax (bh (i:=4) dZ.nd rfl (T5 rfl) (bz cN rfl U Boot.«len» (ah (pv 2) ar)))
 (ax (bh (i:=5) dZ.nd rfl (T5 rfl) (gL ar))
 (ax (bh (i:=6) dZ.nd rfl (T5 rfl) (o3 (nr hu) (aQ bV (hr.mono (by decide)) rfl bK bW bU .nil aX (ah (pv 3) (ah aH (ah aH ar)))) aH (bL _)))
 (ax (eT PassesOwn.never rfl (dy rfl J (ah (aV gc (aQ bV (hr.mono (by decide)) rfl bK bW bU .nil aX (ah (pv 3) (ah aH (ah aH ar)))) (aV mZ aH (aV gR aH (i9 yW rfl Y Boot.«int» (ah (pv 6) ar))))) ar)) (aR (i:=7) dZ.nd rfl (T5 rfl))
 (ax (bh (i:=8) dZ.nd rfl (Vo rfl) (aQ EB (hr.mono (by decide)) rfl m5 ER Ep .nil aX (ah (aV dg (aQ mM (hr.mono (by decide)) rfl gr mT m9 .nil aX (ah (pv 0) (ah (aV dg (aV dg (pv 1) aH) (pv 7)) ar))) (aV gR aH (pv 7))) (ah (pv 4) (ah (pv 6) ar)))))
 (ax (dm (bH iF (pv 4) aH (bL _))
 (ax (bh (i:=9) dZ.nd rfl (T5 rfl) (lK UG PySem.F.slot_list_index PySem.F.type_list_index GC (pv 2) (ah aH ar)))
 (ax (bh (i:=10) dZ.nd rfl (T5 rfl) (bz (oa rfl) rfl ab Boot.«sum» (ah (cU (own:=["_law_g"]) (cap:=["_law_move_here","_law_weights_here"]) (caps:=[8,2]) rfl ⟨rfl,by decide +kernel,by decide +kernel,by decide +kernel,⟨rfl,T5 rfl,rfl,⟨rfl,T5 rfl,rfl,trivial⟩⟩,by decide +kernel⟩ (dy rfl J (ah (pv 4) ar)) (λ_ _ _=>(aR (i:=0) (show ((["_law_g"]:List Str)++(["_law_move_here","_law_weights_here"]:List Str)).Nodup from by decide +kernel) rfl (T5 rfl))) (λ_ _ _=>ck) (λ_ _ _=>(aV gR (cG bQ (pv 2) (pv 0) (λ_ _=>rfl)) (cG bQ (pv 1) (pv 0) (λ_ _=>rfl))))) ar)))
 (aI (xw (aV mZ (cG bQ (pv 8) (pv 9) (λ_ _=>rfl)) (pv 10)) (xX (pv 8) (pv 9) set_list)))))
 bX)
 (aI (dG (lK UG UK UL fV (pv 5) (ah (pv 8) ar)))))))
 (aI (bu (pv 5)))))))),
  (aJ (aT (aW (n:=2) (f:=cP) (ai (ag 0) (ai (ag 1) au))))
 (aJ (aT (bo dO (ai (ag 2) au)))
 (aJ (aT (kK au))
 (aJ (aT (av ky (aW (n:=3) (f:=aL) (ai (ag 3) (ai (aF 41) (ai (aF 6) au)))) (aF 0)))
 (aJ (eY (eR (ai (av iq (aW (n:=3) (f:=aL) (ai (ag 3) (ai (aF 40) (ai (aF 6) au)))) (av mP (aF 6) (av fG (aF 2) (bo A8 (ai (ag 6) au))))) au)) (aM 7)
 (aJ (aT (jn (n:=3) (f:=kC) (ai (av cI (aW (n:=2) (f:=cP) (ai (ag 0) (ai (av cI (av cI (ag 1) (aF 1)) (ag 7)) au))) (av fG (aF 13) (ag 7))) (ai (ag 4) (ai (ag 6) au)))))
 (aJ (dk (bP (av iE (ag 4) (aF 0)))
 (aJ (aT (HW (ag 2) (aF 1)))
 (aJ (aT (bo uC (ai (cb (m:=1) (caps:=[8,2]) (eR (ai (ag 4) au)) (aM 0) cv (av fG (av cF (ag 2) (ag 0)) (av cF (ag 1) (ag 0)))) au)))
 (uc (av mP (av cF (ag 8) (ag 9)) (ag 10)) (xG (ag 8) (ag 9)))))
 bY)
 (dH (lD (ag 5) (lg (ag 8)))))))
 (bt (lg (ag 5))))))))⟩
theorem eD:bc ["_law_moves","_law_stuff","_law_called","_law_cell_here","_law_made","_law_k","_law_move_here","_law_uses","_law_makes","_law_g","_law_number","_law_more"] ["_law_moves","_law_stuff","_law_called","_law_cell_here"] (aw jL):=⟨rfl,rfl,rfl,by decide +kernel,rfl,by decide +kernel,by decide +kernel⟩
theorem A9{a:Addr}{fd:FuncData}(F:Fun K "_law_works" "_law_works" jL a fd)(hm:mg "_law_works" =some (.ref a))(Y:P.given.tree=none)(J:mg "enumerate" =none)(U:mg "max" =none)(fm:bF P w K mg base ca 35 "_law_pick" ["_law_cell_here","_law_turn","_law_many"] aL):bN P w K mg base ca 36 "_law_works" ["_law_moves","_law_stuff","_law_called","_law_cell_here"] gv a fd:=by
 obtain⟨m8,lH,bV,bK,bW,bU⟩:=fm
 refine⟨bx F eD rfl λas A outer s H E hr=> ?_,hm,F.kp,F.binds λ_ _ _ _ _ _ us hl=>match us,hl with | [_,_,_,_],_=>rfl⟩
 have hu:=hr.units
 have an:=bJ hr (by decide)
 exact⟨_,(ax (bh (i:=4) eD.nd rfl (T5 rfl) (gL ar))
 (ax (eT PassesOwn.never rfl (nJ rfl J (ah (pv 0) ar)) (iR rfl (cy (aR (i:=5) eD.nd rfl (T5 rfl)) (cy (aR (i:=6) eD.nd rfl (T5 rfl)) gE)))
 (ax (bh (i:=7) eD.nd rfl (T5 rfl) (gL ar))
 (ax (bh (i:=8) eD.nd rfl (T5 rfl) (gL ar))
 (ax (eT PassesOwn.never rfl (nJ rfl J (ah (pv 6) ar)) (iR rfl (cy (aR (i:=9) eD.nd rfl (T5 rfl)) (cy (aR (i:=10) eD.nd rfl (T5 rfl)) gE)))
 (ax (bh (i:=11) eD.nd rfl (T5 rfl) (aV gR (aV (om an Y ⟨_,_,rfl,rfl,rfl,rfl,rfl⟩) (aQ bV (hr.mono (by decide)) rfl bK bW bU .nil aX (ah (aV dg (pv 3) (pv 5)) (ah (aV dg aH (pv 9)) (ah aH ar)))) aH) (aV dg aH (aQ bV (hr.mono (by decide)) rfl bK bW bU .nil aX (ah (aV dg (pv 3) (pv 5)) (ah (aV dg aH (pv 9)) (ah aH ar)))))))
 (ax (dm (bH iF (aV dg (pv 11) (bz (n9 rfl) rfl U Boot.«max» (ah aH (ah (xb uk (pv 10)) ar)))) aH (bL _))
 (aI (dG (lK UG UK UL fV (pv 7) (ah (xS (ah (cG bQ (pv 1) (pv 9) (λ_ _=>rfl)) (ah (aV dg (pv 11) (bz (n9 rfl) rfl U Boot.«max» (ah aH (ah (xb uk (pv 10)) ar)))) ar))) ar))))
 bX)
 (aI (dm (bH iF (aV dg (pv 11) (bz (n9 rfl) rfl U Boot.«max» (ah aH (ah (pv 10) ar)))) aH (bL _))
 (aI (dG (lK UG UK UL fV (pv 8) (ah (xS (ah (cG bQ (pv 1) (pv 9) (λ_ _=>rfl)) (ah (aV dg (pv 11) (bz (n9 rfl) rfl U Boot.«max» (ah aH (ah (pv 10) ar)))) ar))) ar))))
 bX)))))
 (ax (dm (bH (nr hu) (aQ bV (hr.mono (by decide)) rfl bK bW bU .nil aX (ah (aV dg (pv 3) (pv 5)) (ah aH (ah aH ar)))) aH (bL _))
 (aI (bh (i:=7) eD.nd rfl (T5 rfl) (Lw (pv 7) rf rf (u9 (xb uk aH)))))
 bX)
 (aI (dG (lK UG UK UL fV (pv 4) (ah (xS (ah (cG bQ (pv 2) (pv 5) (λ_ _=>rfl)) (ah (pv 7) (ah (pv 8) ar)))) ar)))))))))
 (aI (bu (pv 4))))),
  (aJ (aT (kK au))
 (aJ (eY (gG (ai (ag 0) au)) (gA (cx (aM 5) (cx (aM 6) gC)))
 (aJ (aT (kK au))
 (aJ (aT (kK au))
 (aJ (eY (gG (ai (ag 6) au)) (gA (cx (aM 9) (cx (aM 10) gC)))
 (aJ (aT (av fG (av mL (aW (n:=3) (f:=aL) (ai (av cI (ag 3) (ag 5)) (ai (av cI (aF 70) (ag 9)) (ai (aF 4) au)))) (aF 3)) (av cI (aF 1) (aW (n:=3) (f:=aL) (ai (av cI (ag 3) (ag 5)) (ai (av cI (aF 80) (ag 9)) (ai (aF 9) au)))))))
 (aJ (dk (bP (av iE (av cI (ag 11) (bo qX (ai (aF 0) (ai (xJ tP (ag 10)) au)))) (aF 0)))
 (dH (lD (ag 7) (w8 (ai (av cF (ag 1) (ag 9)) (ai (av cI (ag 11) (bo qX (ai (aF 0) (ai (xJ tP (ag 10)) au)))) au)))))
 bY)
 (dk (bP (av iE (av cI (ag 11) (bo qX (ai (aF 0) (ai (ag 10) au)))) (aF 0)))
 (dH (lD (ag 8) (w8 (ai (av cF (ag 1) (ag 9)) (ai (av cI (ag 11) (bo qX (ai (aF 0) (ai (ag 10) au)))) au)))))
 bY))))
 (aJ (dk (bP (av ky (aW (n:=3) (f:=aL) (ai (av cI (ag 3) (ag 5)) (ai (aF 90) (ai (aF 2) au)))) (aF 1)))
 (aT (Ma (ag 7) oh oh (uO (xJ tP (aF 1)))))
 bY)
 (dH (lD (ag 4) (w8 (ai (av cF (ag 2) (ag 5)) (ai (MF (ag 7)) (ai (lg (ag 8)) au)))))))))))
 (bt (lg (ag 4)))))⟩
theorem Dv:bc ["_law_moves","_law_way","_law_many"] ["_law_moves","_law_way","_law_many"] (aw kv):=⟨rfl,rfl,rfl,by decide +kernel,rfl,by decide +kernel,by decide +kernel⟩
theorem Dz{a:Addr}{fd:FuncData}(F:Fun K "_law_left" "_law_left" kv a fd)(hm:mg "_law_left" =some (.ref a))(ab:P.given.tree=none)(J:mg "range" =none)(U:mg "len" =none)(Y:mg "sum" =none):bN P w K mg base ca 35 "_law_left" ["_law_moves","_law_way","_law_many"] jj a fd:=by
 refine⟨bx F Dv rfl λac A outer s H E hr=> ?_,hm,F.kp,F.binds λ_ _ _ _ _ _ us hl=>match us,hl with | [_,_,_],_=>rfl⟩
 have hu:=hr.units
 have an:=bJ hr (by decide)
 exact⟨_,(aI (bu (cU (own:=["_law_g"]) (cap:=["_law_moves","_law_way"]) (caps:=[0,1]) rfl ⟨rfl,by decide +kernel,by decide +kernel,by decide +kernel,⟨rfl,T5 rfl,rfl,⟨rfl,T5 rfl,rfl,trivial⟩⟩,by decide +kernel⟩ (dy rfl J (ah (pv 2) ar)) (λ_ _ _=>(aR (i:=0) (show ((["_law_g"]:List Str)++(["_law_moves","_law_way"]:List Str)).Nodup from by decide +kernel) rfl (Vo rfl))) (λ_ _ _=>ck) (λ_ _ _=>(bz (oa rfl) rfl Y Boot.«sum» (ah (cU (own:=["_law_k"]) (cap:=["_law_g","_law_moves","_law_way"]) (caps:=[0,1,2]) rfl ⟨rfl,by decide +kernel,by decide +kernel,by decide +kernel,⟨rfl,T5 rfl,rfl,⟨rfl,T5 rfl,rfl,⟨rfl,T5 rfl,rfl,trivial⟩⟩⟩,by decide +kernel⟩ (dy rfl J (ah (bz cN rfl U Boot.«len» (ah (pv 1) ar)) ar)) (λ_ _ _=>(aR (i:=0) (show ((["_law_k"]:List Str)++(["_law_g","_law_moves","_law_way"]:List Str)).Nodup from by decide +kernel) rfl (T5 rfl))) (λ_ _ _=>ck) (λ_ _ _=>(aV gR (cG bQ (pv 3) (pv 0) (λ_ _=>rfl)) (cG bQ (cG bQ (pv 2) (pv 0) (λ_ _=>rfl)) (pv 1) (λ_ _=>rfl))))) ar)))))),
  (bt (cb (m:=1) (caps:=[0,1]) (eR (ai (ag 2) au)) (aM 0) cv (bo uC (ai (cb (m:=1) (caps:=[0,1,2]) (eR (ai (bo dO (ai (ag 1) au)) au)) (aM 0) cv (av fG (av cF (ag 3) (ag 0)) (av cF (av cF (ag 2) (ag 0)) (ag 1)))) au))))⟩
theorem kU:bc ["_law_pool","_law_rest","_law_above","_law_below"] ["_law_pool","_law_rest"] (aw fJ):=⟨rfl,rfl,rfl,by decide +kernel,rfl,by decide +kernel,by decide +kernel⟩
theorem ve{a:Addr}{fd:FuncData}(F:Fun K "_law_pool_holds" "_law_pool_holds" fJ a fd)(hm:mg "_law_pool_holds" =some (.ref a))(Y:P.given.tree=none)(J:mg "len" =none)(U:mg "range" =none):bN P w K mg base ca 35 "_law_pool_holds" ["_law_pool","_law_rest"] fN a fd:=by
 refine⟨bx F kU rfl λab A outer s H E hr=> ?_,hm,F.kp,F.binds λ_ _ _ _ _ _ us hl=>match us,hl with | [_,_],_=>rfl⟩
 have hu:=hr.units
 have am:=bJ hr (by decide)
 exact⟨_,(ax (d0 (i:=2) (own:=["_law_g"]) (cap:=["_law_pool","_law_rest"]) (caps:=[0,1]) rfl ⟨rfl,by decide +kernel,by decide +kernel,by decide +kernel,⟨rfl,T5 rfl,rfl,⟨rfl,T5 rfl,rfl,trivial⟩⟩,by decide +kernel⟩ (dy rfl U (ah (bz cN rfl J Boot.«len» (ah (pv 0) ar)) ar)) (λ_ _ _=>(aR (i:=0) (show ((["_law_g"]:List Str)++(["_law_pool","_law_rest"]:List Str)).Nodup from by decide +kernel) rfl (T5 rfl))) (λ_ _ _=>(mz (PW.pt (pw_and (bH iF (cG bQ (pv 1) (pv 0) (λ_ _=>rfl)) aH (bL _)) (pw_and1 (bH iF (cG bQ (pv 2) (pv 0) (λ_ _=>rfl)) aH (bL _))))))) (λ_ _ _=>(pv 0)) kU.nd rfl (T5 rfl) rfl)
 (ax (d0 (i:=3) (own:=["_law_g"]) (cap:=["_law_pool","_law_rest"]) (caps:=[0,1]) rfl ⟨rfl,by decide +kernel,by decide +kernel,by decide +kernel,⟨rfl,T5 rfl,rfl,⟨rfl,T5 rfl,rfl,trivial⟩⟩,by decide +kernel⟩ (dy rfl U (ah (bz cN rfl J Boot.«len» (ah (pv 0) ar)) ar)) (λ_ _ _=>(aR (i:=0) (show ((["_law_g"]:List Str)++(["_law_pool","_law_rest"]:List Str)).Nodup from by decide +kernel) rfl (T5 rfl))) (λ_ _ _=>(mz (PW.pt (pw_and (bH iF (cG bQ (pv 1) (pv 0) (λ_ _=>rfl)) aH (bL _)) (pw_and1 (bH u1 (cG bQ (pv 2) (pv 0) (λ_ _=>rfl)) aH (bL _))))))) (λ_ _ _=>(pv 0)) kU.nd rfl (T5 rfl) rfl)
 (aI (bu (O6 (o3 (nr hu) (bz cN rfl J Boot.«len» (ah (pv 2) ar)) aH (bL _)) (Gk (o3 iF (bz cN rfl J Boot.«len» (ah (pv 3) ar)) aH (bL _)))))))),
  (aJ (aT (cb (m:=1) (caps:=[0,1]) (eR (ai (bo dO (ai (ag 0) au)) au)) (aM 0) (xR (bP (av iE (av cF (ag 1) (ag 0)) (aF 0))) (bP (av iE (av cF (ag 2) (ag 0)) (aF 0)))) (ag 0)))
 (aJ (aT (cb (m:=1) (caps:=[0,1]) (eR (ai (bo dO (ai (ag 0) au)) au)) (aM 0) (xR (bP (av iE (av cF (ag 1) (ag 0)) (aF 0))) (bP (av uR (av cF (ag 2) (ag 0)) (aF 0)))) (ag 0)))
 (bt (NY (av ky (bo dO (ai (ag 2) au)) (aF 0)) (av iE (bo dO (ai (ag 3) au)) (aF 0))))))⟩
theorem j1:bc ["_law_yard","_law_moves","_law_weights_here","_law_way","_law_many","_law_rest","_law_some","_law_line"] ["_law_yard","_law_moves","_law_weights_here","_law_way"] (aw jP):=⟨rfl,rfl,rfl,by decide +kernel,rfl,by decide +kernel,by decide +kernel⟩
theorem Bm{a:Addr}{fd:FuncData}(F:Fun K "_law_right" "_law_right" jP a fd)(hm:mg "_law_right" =some (.ref a))(a0:P.given.tree=none)(an:mg "len" =none)(ap:mg "zip" =none)(as:mg "sum" =none)(az:mg "all" =none)(ac:Cls K (ca 0))(J:MethAt P w K mg base ca 37 (ca 0) "leaves" ["self","way"] gW)(Ey:bF P w K mg base ca 35 "_law_left" ["_law_moves","_law_way","_law_many"] jj)(L7:bF P w K mg base ca 41 "pools" ["yard"] pq)(N3:bF P w K mg base ca 42 "kept" ["yard"] pz)(HQ:bF P w K mg base ca 37 "weighed" ["yard","weights","amounts"] oz)(vO:bF P w K mg base ca 35 "_law_pool_holds" ["_law_pool","_law_rest"] fN):bN P w K mg base ca 43 "_law_right" ["_law_yard","_law_moves","_law_weights_here","_law_way"] lE a fd:=by
 obtain⟨am,ab,U,jv,Y⟩:=J
 obtain⟨Pk,OQ,Fd,mV,Ef,Fl⟩:=Ey
 obtain⟨QH,Qq,LM,rA,K6,LS⟩:=L7
 obtain⟨Rq,QG,Na,uF,NI,N8⟩:=N3
 obtain⟨PL,Pb,GP,oj,GL,Hq⟩:=HQ
 obtain⟨IT,Ie,wQ,gO,v9,vZ⟩:=vO
 refine⟨bx F j1 rfl λbW A outer s H E hr=> ?_,hm,F.kp,F.binds λ_ _ _ _ _ _ us hl=>match us,hl with | [_,_,_,_],_=>rfl⟩
 have hu:=hr.units
 have b2:=bJ hr (by decide)
 exact⟨_,(ax (bh (i:=4) j1.nd rfl (T5 rfl) (bz cN rfl an Boot.«len» (ah (pv 2) ar)))
 (ax (bh (i:=5) j1.nd rfl (Vo rfl) (u7 (pv 0) ac jv U (hr.mono (by decide)) Y .nil aX (ah (pv 3) ar)))
 (ax (dm (bH (tI hu) (pv 5) (aQ Fd (hr.mono (by decide)) rfl mV Ef Fl .nil aX (ah (pv 1) (ah (pv 3) (ah (pv 4) ar)))) (bL _))
 (aI (bu xY))
 bX)
 (ax (bh (i:=6) j1.nd rfl (T5 rfl) (aQ LM (hr.mono (by decide)) rfl rA K6 LS .nil aX (ah (pv 0) ar)))
 (ax (eT PassesOwn.never rfl (cC (aV dg (aV dg (aQ Na (hr.mono (by decide)) rfl uF NI N8 .nil aX (ah (pv 0) ar)) (pv 6)) (gL (ah (pv 2) ar)))) (aR (i:=7) j1.nd rfl (T5 rfl))
 (aI (dm (PW.pt (pw_or (bH (tI hu) (bz (oa rfl) rfl as Boot.«sum» (ah (cU (own:=["_law_a","_law_b"]) (cap:=[]) (caps:=[]) rfl ⟨rfl,by decide +kernel,by decide +kernel,by decide +kernel,trivial,by decide +kernel⟩ (wY rfl ap (ah (pv 7) (ah (pv 5) ar))) (λ_ _ _=>(iR rfl (cy (aR (i:=0) (show ((["_law_a","_law_b"]:List Str)++([]:List Str)).Nodup from by decide +kernel) rfl (T5 rfl)) (cy (aR (i:=1) (show ((["_law_a","_law_b"]:List Str)++([]:List Str)).Nodup from by decide +kernel) rfl (T5 rfl)) gE)))) (λ_ _ _=>ck) (λ_ _ _=>(aV gR (pv 0) (pv 1)))) ar)) aH (bL _)) (pw_or1 (bH (tI hu) (aQ GP (hr.mono (by decide)) rfl oj GL Hq .nil aX (ah (pv 0) (ah (pv 7) (ah (pv 5) ar)))) aH (bL _)))))
 (aI (bu xY))
 bX)))
 (aI (bu (bz (zN rfl) rfl az Boot.«all» (ah (cU (own:=["_law_pool"]) (cap:=["_law_rest"]) (caps:=[5]) rfl ⟨rfl,by decide +kernel,by decide +kernel,by decide +kernel,⟨rfl,T5 rfl,rfl,trivial⟩,by decide +kernel⟩ (cC (pv 6)) (λ_ _ _=>(aR (i:=0) (show ((["_law_pool"]:List Str)++(["_law_rest"]:List Str)).Nodup from by decide +kernel) rfl (T5 rfl))) (λ_ _ _=>ck) (λ_ _ _=>(aQ wQ (hr.mono (by decide)) rfl gO v9 vZ .nil aX (ah (pv 0) (ah (pv 1) ar))))) ar))))))))),
  (aJ (aT (bo dO (ai (ag 2) au)))
 (aJ (aT (jl (c:=0) (m:="leaves") (n:=1) (f:=gW) (ag 0) (ai (ag 3) au)))
 (aJ (dk (bP (av qw (ag 5) (aW (n:=3) (f:=jj) (ai (ag 1) (ai (ag 3) (ai (ag 4) au))))))
 (bt (xy false))
 bY)
 (aJ (aT (lg (jn (n:=1) (f:=pq) (ai (ag 0) au))))
 (aJ (eY (cB (av cI (av cI (lg (jn (n:=1) (f:=pz) (ai (ag 0) au))) (ag 6)) (xQ (ai (ag 2) au)))) (aM 7)
 (dk (E6 (bP (av qw (bo uC (ai (Hy (m:=2) (caps:=[]) (Lz (ai (ag 7) (ai (ag 5) au))) (gA (cx (aM 0) (cx (aM 1) gC))) cv (av fG (ag 0) (ag 1))) au)) (aF 0))) (bP (av qw (nq (n:=3) (f:=oz) (ai (ag 0) (ai (ag 7) (ai (ag 5) au)))) (aF 0))))
 (bt (xy false))
 bY))
 (bt (bo G0 (ai (cb (m:=1) (caps:=[5]) (cB (ag 6)) (aM 0) cv (nq (n:=2) (f:=fN) (ai (ag 0) (ai (ag 1) au)))) au))))))))⟩
theorem jt:bc ["_law_script","_law_begin","_law_head","_law_many","_law_weights_here","_law_moves","_law_stuff","_law_yard","_law_k","_law_cell_here","_law_way"] ["_law_script"] (aw oK):=⟨rfl,rfl,rfl,by decide +kernel,rfl,by decide +kernel,by decide +kernel⟩
theorem N5{a:Addr}{fd:FuncData}(F:Fun K "law" "law" oK a fd)(hm:mg "law" =some (.ref a))(a7:P.given.tree=none)(am:mg "len" =none)(ac:mg "range" =none)(rP:bF P w K mg base ca 35 "_law_cell" ["_law_script","_law_k"] cP)(fm:bF P w K mg base ca 35 "_law_pick" ["_law_cell_here","_law_turn","_law_many"] aL)(Ah:bF P w K mg base ca 36 "_law_weights" ["_law_cell_here","_law_many","_law_lowest_one"] gj)(AF:bF P w K mg base ca 37 "_law_keeping" ["_law_script","_law_begin","_law_weights_here"] gh)(Dw:bF P w K mg base ca 36 "_law_names" ["_law_cell_here","_law_many"] dF)(J:FX P w K mg base ca 39 (ca 0) "Yard" ["self","goods","works"] iz)(Dd:bF P w K mg base ca 36 "_law_works" ["_law_moves","_law_stuff","_law_called","_law_cell_here"] gv)(C1:bF P w K mg base ca 43 "_law_right" ["_law_yard","_law_moves","_law_weights_here","_law_way"] lE):bN P w K mg base ca 44 "law" ["_law_script"] AL a fd:=by
 obtain⟨EN,CK,mM,gr,mT,m9⟩:=rP
 obtain⟨m8,lH,bV,bK,bW,bU⟩:=fm
 obtain⟨MR,Le,AA,jr,Ak,Ag⟩:=Ah
 obtain⟨MS,LX,Af,jA,AH,Ar⟩:=AF
 obtain⟨OS,Ox,vK,jQ,vL,vv⟩:=Dw
 obtain⟨ap,an,U,Y,lb,ab⟩:=J
 obtain⟨OV,M7,Dp,lC,CI,CY⟩:=Dd
 obtain⟨OZ,Ov,C5,lr,CM,Dx⟩:=C1
 refine⟨bx F jt rfl λb9 A outer s H E hr=> ?_,hm,F.kp,F.binds λ_ _ _ _ _ _ us hl=>match us,hl with | [_],_=>rfl⟩
 have hu:=hr.units
 have ce:=bJ hr (by decide)
 exact⟨_,(ax (eT PassesOwn.never rfl (cC (gL (ah aH (ah aH ar)))) (aR (i:=1) jt.nd rfl (T5 rfl))
 (ax (bh (i:=2) jt.nd rfl (T5 rfl) (aQ mM (hr.mono (by decide)) rfl gr mT m9 .nil aX (ah (pv 0) (ah (pv 1) ar))))
 (ax (bh (i:=3) jt.nd rfl (T5 rfl) (aQ bV (hr.mono (by decide)) rfl bK bW bU .nil aX (ah (pv 2) (ah aH (ah aH ar)))))
 (ax (bh (i:=4) jt.nd rfl (T5 rfl) (aQ AA (hr.mono (by decide)) rfl jr Ak Ag .nil aX (ah (pv 2) (ah (pv 3) (ah (cG bQ (gL (ah aH (ah (xb uk (aV uz aH aH)) ar))) (aQ bV (hr.mono (by decide)) rfl bK bW bU .nil aX (ah (pv 2) (ah aH (ah aH ar)))) (λ_ _=>rfl)) ar)))))
 (ax (bh (i:=5) jt.nd rfl (T5 rfl) (aQ Af (hr.mono (by decide)) rfl jA AH Ar .nil aX (ah (pv 0) (ah (pv 1) (ah (pv 4) ar)))))
 (ax (bh (i:=6) jt.nd rfl (T5 rfl) (aQ vK (hr.mono (by decide)) rfl jQ vL vv .nil aX (ah (aV dg (pv 2) aH) (ah (pv 3) ar))))
 (ax (bh (i:=7) jt.nd rfl (T5 rfl) (My Y U (hr.mono (by decide)) rfl lb ab .nil aX (ah (pv 6) (ah (aQ Dp (hr.mono (by decide)) rfl lC CI CY .nil aX (ah (pv 5) (ah (pv 6) (ah (aQ vK (hr.mono (by decide)) rfl jQ vL vv .nil aX (ah (pv 2) (ah (bz cN rfl am Boot.«len» (ah (pv 5) ar)) ar))) (ah (pv 2) ar))))) ar))))
 (aI (eT PassesOwn.never rfl (dy rfl ac (ah aH ar)) (aR (i:=8) jt.nd rfl (T5 rfl))
 (ax (bh (i:=9) jt.nd rfl (Vo rfl) (aV dg (pv 2) (aQ mM (hr.mono (by decide)) rfl gr mT m9 .nil aX (ah (pv 0) (ah (aV dg (aV dg (pv 1) aH) (pv 8)) ar)))))
 (ax (d0 (i:=10) (own:=["_law_at"]) (cap:=["_law_cell_here"]) (caps:=[9]) rfl ⟨rfl,by decide +kernel,by decide +kernel,by decide +kernel,⟨rfl,T5 rfl,rfl,trivial⟩,by decide +kernel⟩ (dy rfl ac (ah (bz cN rfl am Boot.«len» (ah (pv 5) ar)) ar)) (λ_ _ _=>(aR (i:=0) (show ((["_law_at"]:List Str)++(["_law_cell_here"]:List Str)).Nodup from by decide +kernel) rfl (T5 rfl))) (λ_ _ _=>ck) (λ_ _ _=>(aQ bV (hr.mono (by decide)) rfl bK bW bU .nil aX (ah (pv 1) (ah (aV dg aH (pv 0)) (ah aH ar))))) jt.nd rfl (T5 rfl) rfl)
 (ax (dm (bH (nr hu) (aQ bV (hr.mono (by decide)) rfl bK bW bU .nil aX (ah (pv 9) (ah aH (ah aH ar)))) aH (bL _))
 (aI (d0 (i:=10) (own:=["_law_number"]) (cap:=["_law_cell_here"]) (caps:=[9]) rfl ⟨rfl,by decide +kernel,by decide +kernel,by decide +kernel,⟨rfl,T5 rfl,rfl,trivial⟩,by decide +kernel⟩ (cC (pv 10)) (λ_ _ _=>(aR (i:=0) (show ((["_law_number"]:List Str)++(["_law_cell_here"]:List Str)).Nodup from by decide +kernel) rfl (T5 rfl))) (λ_ _ _=>ck) (λ_ _ _=>(aV gR (pv 0) (aV gc (pv 1) (aV uz aH aH)))) jt.nd rfl (T5 rfl) rfl))
 bX)
 (aI (dm (B4 (px (aQ C5 (hr.mono (by decide)) rfl lr CM Dx .nil aX (ah (pv 7) (ah (pv 5) (ah (pv 4) (ah (pv 10) ar)))))))
 (aI (bu xY))
 bX))))))))))))))
 (aI (bu xY))),
  (aJ (eY (cB (xQ (ai (aF 0) (ai (aF 6) au)))) (aM 1)
 (aJ (aT (aW (n:=2) (f:=cP) (ai (ag 0) (ai (ag 1) au))))
 (aJ (aT (aW (n:=3) (f:=aL) (ai (ag 2) (ai (aF 45) (ai (aF 6) au)))))
 (aJ (aT (aW (n:=3) (f:=gj) (ai (ag 2) (ai (ag 3) (ai (av cF (xQ (ai (aF 0) (ai (xJ tP (av tG (aF 10) (aF 10))) au))) (aW (n:=3) (f:=aL) (ai (ag 2) (ai (aF 46) (ai (aF 2) au))))) au)))))
 (aJ (aT (aW (n:=3) (f:=gh) (ai (ag 0) (ai (ag 1) (ai (ag 4) au)))))
 (aJ (aT (aW (n:=2) (f:=dF) (ai (av cI (ag 2) (aF 1)) (ai (ag 3) au))))
 (aJ (aT (Mf (c:=0) (n:=2) (f:=iz) (ai (ag 6) (ai (aW (n:=4) (f:=gv) (ai (ag 5) (ai (ag 6) (ai (aW (n:=2) (f:=dF) (ai (ag 2) (ai (bo dO (ai (ag 5) au)) au))) (ai (ag 2) au))))) au))))
 (eY (eR (ai (aF 2) au)) (aM 8)
 (aJ (aT (av cI (ag 2) (aW (n:=2) (f:=cP) (ai (ag 0) (ai (av cI (av cI (ag 1) (aF 1)) (ag 8)) au)))))
 (aJ (aT (cb (m:=1) (caps:=[9]) (eR (ai (bo dO (ai (ag 5) au)) au)) (aM 0) cv (aW (n:=3) (f:=aL) (ai (ag 1) (ai (av cI (aF 100) (ag 0)) (ai (aF 4) au))))))
 (aJ (dk (bP (av ky (aW (n:=3) (f:=aL) (ai (ag 9) (ai (aF 120) (ai (aF 3) au)))) (aF 0)))
 (aT (cb (m:=1) (caps:=[9]) (cB (ag 10)) (aM 0) cv (av fG (ag 0) (av iq (ag 1) (av tG (aF 10) (aF 15))))))
 bY)
 (dk (BK (sI (aW (n:=4) (f:=lE) (ai (ag 7) (ai (ag 5) (ai (ag 4) (ai (ag 10) au)))))))
 (bt (xy false))
 bY))))))))))))
 (bt (xy true)))⟩
end
theorem uX(ns:List Int)(k:Nat):∃c,cP [vI ns,.int (k:Int)] []=.ok (.int c,[])/\(k<ns.length->c=nth ns k):=by
 by_cases h:k<ns.length
 ·refine⟨nth ns k,dI (s:=⟨[some (vI ns),some (.int (k:Int))],[]⟩) ?_,λ_=>rfl⟩
  have hk:((k:Int)<(ns.length:Int)):=by omega
  simp[gr,hk,ni h]
 ·refine⟨0,dI (s:=⟨[some (vI ns),some (.int (k:Int))],[]⟩) ?_,λz=>absurd z h⟩
  have hk:¬((k:Int)<(ns.length:Int)):=by omega
  simp[gr,hk]
def azB(x:Str):Bool:= !decide (x.cps.toList<("a" :Str).cps.toList)&& !decide (("z" :Str).cps.toList<x.cps.toList)
theorem A3(O:aB)(i j:Str):rX O (.str i) (.str j)=.ok (.bl (!decide (j.cps.toList<i.cps.toList))):=rfl
theorem M4{s:S}{i:Nat}{x:Str}(h:s.r[i]? =some (some (.str x))):tW rX rX (aq (.str ("a" :Str))) (aa i) (aq (.str ("z" :Str))) s=.ok (.bl (azB x),s):=by
 rw[GI,aD,aj,af h,aj]
 dsimp only
 rw[A3,aj]
 unfold azB
 cases (!decide (x.cps.toList<("a" :Str).cps.toList)) with
 | false=>rfl
 | true=>
  dsimp only
  rw[aD,aj]
  dsimp only
  rw[A3,aj]
  rfl
def nmB(z:Str):Bool:=decide (1<=z.length)&&decide (z.length<=8)&&z.cps.toList.all λc=>azB ⟨#[c]⟩
theorem len_list(z:Str):z.cps.toList.length=z.length:=by unfold Str.length;simp
theorem G9{z:Str}(h:z.length<=1000000):mn [.str z] []=.ok (.bl (nmB z),[]):=by
 have J:bE cL (ae (aa 0) ao) ⟨[some (.str z)],[]⟩=.ok (.int (z.length:Int),⟨[some (.str z)],[]⟩):=by
  rw[gy,aY,af (i:=0) rfl,aj,aE,aj,aj]
  dsimp only
  rw[BZ (pj h),aj]
 have U:orT (bj (ak ltD (bE cL (ae (aa 0) ao)) (aq (.int 1)))) (bj (ak gtD (bE cL (ae (aa 0) ao)) (aq (.int 8)))) ⟨[some (.str z)],[]⟩=.ok (decide ((z.length:Int)<1)||decide ((8:Int)<(z.length:Int)),⟨[some (.str z)],[]⟩):=by
  rw[A1,gx,dW,J,aj,aD,aj]
  dsimp only
  rw[vb,aj,aj]
  dsimp only
  rw[aj]
  dsimp only
  rw[iO J]
  cases decide ((z.length:Int)<1) <;> rfl
 have hc:=d3 (l:=z.cps.toList) (item:=λc=>.str ⟨#[c]⟩) (out:=λc=>.bl (azB ⟨#[c]⟩)) (caps:=[]) (im:=Fj (aa 0)) (e:=tW rX rX (aq (.str ("a" :Str))) (aa 0) (aq (.str ("z" :Str)))) (k:=none) (s:=⟨[some (.str z)],[]⟩) (by
  rw[LY,af (i:=0) rfl,aj];rfl) trivial (by rw[len_list];exact pj h) (λc _=>M4 rfl)
 rw[show z.cps.toList.map (λc=>D.bl (azB ⟨#[c]⟩))=(z.cps.toList.map λc=>azB ⟨#[c]⟩).map D.bl by rw[Uh];rfl] at hc
 refine dI (s:=⟨[some (.str z)],[]⟩) ?_
 show oo ⟨[some (.str z)],[]⟩=_
 rw[oo]
 by_cases h1:z.length<1\/8<z.length
 ·rw[show nmB z=false by
   unfold nmB
   rcases h1 with q | q
   ·rw[decide_eq_false (by omega:¬1<=z.length),WB,WB]
   ·rw[decide_eq_false (by omega:¬z.length<=8),Xk,WB]]
  refine p9 (Uz (FE (s':=⟨[some (.str z)],[]⟩) ?_) (bD (aD _ _)))
  rw[U]
  rcases h1 with q | q
  ·rw[decide_eq_true (show (z.length:Int)<1 by omega),Yg]
  ·rw[decide_eq_true (show (8:Int)<(z.length:Int) by omega),Bool.or_true]
 ·refine Uz (cH (Uz (lN (s':=⟨[some (.str z)],[]⟩) ?_) rfl)) (bD ?_)
  ·rw[U,decide_eq_false (show ¬(z.length:Int)<1 by omega),decide_eq_false (show ¬(8:Int)<(z.length:Int) by omega),WJ]
  ·rw[gy,aY,hc,aj,aE,aj,aj]
   dsimp only
   rw[Ca,aj]
   unfold nmB
   rw[decide_eq_true (by omega:1<=z.length),decide_eq_true (by omega:z.length<=8),We,We,WW]
   rfl
abbrev ABC:Str:="abcdefghijklmnopqrstuvwxyz"
theorem M1:sg ABC=(T9 26).map (97 + ·):=by decide
def mkS(l:List Nat):Str:=⟨l.toArray⟩
theorem ix(l:List Nat):sg (mkS l)=l:=by simp[sg,mkS]
theorem j7(l:List Nat):(mkS l).length=l.length:=by rw[<- wX,ix]
def azL(l:List Nat):Prop:=∀c∈l,97<=c/\c<=122
theorem L3(c:Nat):azB ⟨#[c]⟩=(decide (97<=c)&&decide (c<=122)):=by
 unfold azB
 rw[show ("a" :Str).cps.toList=[97] by decide,show ("z" :Str).cps.toList=[122] by decide]
 show (!decide ([c] < [97])&& !decide ([122] < [c]))=_
 rw[StrLaws.lt_cons_cons,StrLaws.lt_cons_cons,StrLaws.lt_nil_nil,Xk,WJ,Xk,WJ]
 congr 1
 ·rw[Vm];simp
 ·rw[Vm];simp
structure qr(z:Str):Prop where
 lo:1<=z.length
 hi:z.length<=8
 az:azL (sg z)
theorem qr.nm{z:Str}(h:qr z):nmB z=true:=by
 unfold nmB
 rw[decide_eq_true h.lo,decide_eq_true h.hi,We,We,V1]
 intro c hc
 have:=h.az c hc
 rw[L3,decide_eq_true this.1,decide_eq_true this.2];rfl
theorem GY{O:aB}{i:Int}(h0:0<=i)(h1:i<26):ixD O (.str ABC) (.int i)=.ok (.str (mkS [97+i.toNat])):=by
 have J:i.toNat<ABC.cps.toList.length:=by rw[show ABC.cps.toList.length=26 by decide];omega
 have ha:=nH J
 rw[show ((i.toNat:Nat):Int)=i by omega] at ha
 have U:ABC.cps.toList[i.toNat]=97+i.toNat:=by
  have:=M1
  rw[List.getElem_of_eq this]
  simp
 rw[U] at ha
 show (if ABC.length<=16777216 then (match atI ABC.cps.toList i with
  | some c=>Res.ok (D.str ⟨#[c]⟩)
  | none=>.bad) else .bad)=_
 rw[if_pos (by decide),ha]
 rfl
theorem nZ{n:Nat}{pre rest:List D}{d:D}(h:(T9 n).map (λ(i:Nat)=>D.int (i:Int))=pre++d::rest):d=.int (pre.length:Int)/\pre.length<n:=by
 have h1:((T9 n).map (λ(i:Nat)=>D.int (i:Int)))[pre.length]? =some d:=by rw[h];simp
 have h2:pre.length<n:=by
  have:=congrArg Vk h
  simp at this
  omega
 rw[Us,VM h2] at h1
 exact⟨by simpa using h1.symm,h2⟩
def rQ(q:Int)(k:Nat):Nat:=97+((q+3*(k:Int)+1)%26).toNat
def nmK(wd:List Nat)(at_:Nat)(q:Int)(B:Bool)(k:Nat):List Nat:=
 if B then (if k=0 then wd else if k=1 then wd.take (wd.length-1) else wd++[rQ q k]) else wd.take at_++[rQ q k]++wd.drop (at_+1)
theorem Ed{wd:List Nat}{at_ k:Nat}{q:Int}{B:Bool}(h:at_<wd.length):(nmK wd at_ q B k).length=if B then (if k=0 then wd.length else if k=1 then wd.length-1 else wd.length+1) else wd.length:=by
 unfold nmK
 cases B with
 | false=>simp;omega
 | true=>
  by_cases h0:k=0
  ·simp[h0]
  ·by_cases h1:k=1
   ·simp[h1]
   ·simp[h0,h1]
theorem Rz{wd:List Nat}{at_ i j:Nat}{q:Int}{B:Bool}(h:at_<wd.length)(h2:2<=wd.length)(Y:i<j)(hj:j<8):nmK wd at_ q B i≠nmK wd at_ q B j:=by
 intro e
 have U:rQ q i≠rQ q j:=by unfold rQ;omega
 cases B with
 | false=>
  unfold nmK at e
  simp only[if_neg Uu] at e
  have J:(wd.take at_).length=at_:=by rw[V0];omega
  have key:∀x:Nat,(wd.take at_++[x]++wd.drop (at_+1))[at_]? =some x:=λx=>by
   rw[UX,Ui (by omega),J,XB];rfl
  have e1:(wd.take at_++[rQ q i]++wd.drop (at_+1))[at_]? =(wd.take at_++[rQ q j]++wd.drop (at_+1))[at_]? :=by rw[e]
  rw[key,key] at e1
  have e1:rQ q i=rQ q j:=by simpa using e1
  exact U e1
 | true=>
  have J:=congrArg Vk e
  rw[Ed h,Ed h] at J
  simp only[if_true] at J
  by_cases h0:i=0
  ·subst h0
   rw[if_pos rfl,if_neg (by omega)] at J
   split at J <;> omega
  ·rw[if_neg h0,if_neg (show ¬j=0 by omega)] at J
   by_cases h1:i=1
   ·rw[if_pos h1,if_neg (by omega)] at J;omega
   ·unfold nmK at e
    rw[if_pos rfl,if_pos rfl,if_neg h0,if_neg h1,if_neg (show ¬j=0 by omega),if_neg (show ¬j=1 by omega)] at e
    have:=List.append_cancel_left e
    simp at this
    exact U this
abbrev sD(l:List Str):D:=.lst (l.map D.str)
theorem ue{O:aB}{a b:Str}(h:a.length+b.length<=1000000):bI O (.str a) (.str b)=.ok (.str (a++b)):=if_pos (pj h)
abbrev pD(p:Str×Int):D:=.tup [.str p.1,.int p.2]
abbrev psD(l:List (Str×Int)):D:=.lst (l.map pD)
structure Wk where
 nm:Str
 us:List (Str×Int)
 ms:List (Str×Int)
abbrev wD(w:Wk):D:=.tup [.str w.nm,psD w.us,psD w.ms]
abbrev wsD(l:List Wk):D:=.lst (l.map wD)
@[simp] theorem dj (l:List Str):aN (l.map D.str)=true:=by
 induction l with
 | nil=>rfl
 | cons a l J=>simp[aN,cT,J]
@[simp] theorem ig (l:List (Str×Int)):aN (l.map pD)=true:=by
 induction l with
 | nil=>rfl
 | cons a l J=>simp[aN,cT,J]
@[simp] theorem mW (l:List Wk):aN (l.map wD)=true:=by
 induction l with
 | nil=>rfl
 | cons a l J=>simp[aN,cT,J]
theorem qk(O:aB)(l:List Str):bR O (l.map D.str)=l.map D.str:=by
 induction l with
 | nil=>unfold bR;rfl
 | cons a l J=>rw[Uk];unfold bR;rw[J];unfold res;rfl
theorem DV(z:Str)(l:List Str):aN [.str z,.lst (l.map D.str)]=true:=by
 show (true&&(aN (l.map D.str)&&true))=true
 rw[dj];rfl
theorem Ji(z:Str)(l m:List Str):aN [.str z,.lst (l.map D.str),.lst (m.map D.str)]=true:=by
 show (true&&(aN (l.map D.str)&&(aN (m.map D.str)&&true)))=true
 rw[dj,dj];rfl
theorem Kh{O:aB}{k:Nat}{l:List Str}(h:O[k]? =some (.lst (l.map D.str)))(z:Str)(g:List Str):bR O (bR O [.str z,.lst (g.map D.str),.ptr k])=[.str z,.lst (g.map D.str),.lst (l.map D.str)]:=by
 have h1:bR O [.str z,.lst (g.map D.str),.ptr k]=[.str z,.lst (g.map D.str),.lst (l.map D.str)]:=by
  simp only[bR,res,qk,h]
 rw[h1]
 simp only[bR,res,qk]
theorem Ln{O:aB}{k:Nat}{l:List Str}(h:O[k]? =some (.lst (l.map D.str)))(z:Str):bR O (bR O [.str z,.ptr k])=[.str z,.lst (l.map D.str)]:=by
 have h1:bR O [.str z,.ptr k]=[.str z,.lst (l.map D.str)]:=by
  simp only[bR,res,qk,h]
 rw[h1]
 simp only[bR,res,qk]
theorem oq{α:Type}(f:α->D)(l:List α):dQ (l.map f)=l.zipIdx.map λp=>.tup [.int (p.2:Int),f p.1]:=by
 unfold dQ
 rw[VF,Wu,Uh]
 rfl
theorem p7{α:Type}{g:α×Nat->D}{l:List α}{pre rest:List D}{d:D}(h:l.zipIdx.map g=pre++d::rest):∃(J:pre.length<l.length),d=g (l[pre.length],pre.length):=by
 have J:pre.length<l.length:=by
  have:=congrArg Vk h
  simp at this
  omega
 have h1:(l.zipIdx.map g)[pre.length]? =some d:=by rw[h];simp
 rw[Us,T7 (by simpa using J)] at h1
 refine⟨J, ?_⟩
 simpa using h1.symm
theorem zY{α:Type}{g:α->D}{l:List α}{pre rest:List D}{d:D}(h:l.map g=pre++d::rest):∃(J:pre.length<l.length),d=g (l[pre.length]):=by
 have J:pre.length<l.length:=by
  have:=congrArg Vk h
  simp at this
  omega
 have h1:(l.map g)[pre.length]? =some d:=by rw[h];simp
 rw[Us,T7 J] at h1
 exact⟨J,by simpa using h1.symm⟩
theorem kJ{n:Nat}{m:SM}{ds:List D}{O:aB}{s:S}(h:m ⟨ds.map some++Uo (n-ds.length) none,O⟩=.next s):runM n m ds O=.ok (.non,s.o):=by
 unfold runM;rw[h]
theorem DG{O:aB}(z:Str)(l:List Str):inD O (.str z) (sD l)=.ok (.bl (l.any (· == z))):=by
 unfold inD inB
 dsimp only
 rw[o4]
 dsimp only
 rw[sj]
theorem FH{O:aB}(z:Str)(l:List Str):t8 O (.str z) (sD l)=.ok (.bl (!l.any (· == z))):=by
 unfold t8 inB
 dsimp only
 rw[o4]
 dsimp only
 rw[sj]
theorem Nu{z:Str}{l:List Str}(h:z∈l):l.any (· == z)=true:=List.any_eq_true.mpr ⟨z,h,by simp⟩
theorem DC{z:Str}{l:List Str}(h:z∉l):l.any (· == z)=false:=by
 rw[WN]
 intro y hy e
 have:y=z:=by simpa using e
 exact h (this▸hy)
theorem kA{l:List Str}(h:l.Nodup){i:Nat}(hi:i<l.length):l[i]∉l.take i:=by
 intro hm
 obtain⟨j,J,e⟩:=Vt hm
 rw[V0] at J
 rw[List.getElem_take] at e
 exact V3.mp h j i (by omega) hi (by omega) e
theorem Md{goods:List Str}{J:List Wk}(h1:goods.length<=10)(h2:J.length<=10):iL [sD goods,wsD J] []=.ok (.non,[]):=by
 refine kJ (s:=⟨[some (sD goods),some (wsD J)],[]⟩) ?_
 show kl ⟨[some (sD goods),some (wsD J)],[]⟩=_
 rw[kl]
 have U:∀(i:Nat) (ds:List D),[some (sD goods),some (wsD J)][i]? =some (some (.lst ds))->bE cL (ae (aa i) ao) ⟨[some (sD goods),some (wsD J)],[]⟩=.ok (.int (ds.length:Int),⟨[some (sD goods),some (wsD J)],[]⟩):=λi ds h=>by
  rw[gy,aY,af h,aj,aE,aj,aj]
  dsimp only
  rw[dB,aj]
 refine Uz (cH (Uz (lN (by rw[iO (U 0 _ rfl),T3,decide_eq_false (by omega)])) rfl)) ?_
 exact Uz (lN (by rw[iO (U 1 _ rfl),T3,decide_eq_false (by omega)])) rfl
theorem DW{z:Str}{l:List Str}(hz:qr z)(J:z∉l):fj [.str z,sD l] []=.ok (.non,[]):=by
 refine kJ (s:=⟨[some (.str z),some (sD l)],[]⟩) ?_
 show gK ⟨[some (.str z),some (sD l)],[]⟩=_
 rw[gK]
 have h1:aO 1 mn (ae (aa 0) ao) ⟨[some (.str z),some (sD l)],[]⟩=.ok (.bl true,⟨[some (.str z),some (sD l)],[]⟩):=cX (ds:=[.str z]) (by rw[aY,af (i:=0) rfl];rfl) (by simp) rfl (by rw[G9 (by have:=hz.hi;omega),hz.nm]) (by simp)
 refine Uz (cH (Uz (lN (s':=⟨[some (.str z),some (sD l)],[]⟩) ?_) rfl)) (Uz (lN (s':=⟨[some (.str z),some (sD l)],[]⟩) ?_) rfl)
 ·rw[yw,gx,h1];rfl
 ·rw[gx,dW,af (i:=0) rfl,aj,af (i:=1) rfl,aj]
  dsimp only
  rw[DG,DC J];rfl
theorem Jt{goods:List Str}(h:∀z∈goods,qr z)(nd:goods.Nodup):∃O,g5 [sD goods] []=.ok (.non,O):=by
 obtain⟨s',el,J,U,Y⟩:=eZ (ok:=okC (dQ (goods.map D.str)) none) (g:=cV (aU (aG 1) (aU (aG 2) cY)) 2) (body:=jW)
  (λ_ s=>∃J U,s=⟨[some (sD goods),J,U],[]⟩) (λ_ _ _=>trivial) (dQ (goods.map D.str)) [] (by
   rintro pre d rest ed s ⟨J,U,rfl⟩
   rw[Uw,oq] at ed
   obtain⟨hl,rfl⟩:=p7 ed
   refine⟨⟨[some (sD goods),some (.int (pre.length:Int)),some (.str (goods[pre.length]))],[]⟩,⟨[some (sD goods),some (.int (pre.length:Int)),some (.str (goods[pre.length]))],[]⟩,by rw[qe];rfl,.inl ?_,_,_,rfl⟩
   rw[jW]
   refine df (cX (ds:=[.str (goods[pre.length]),sD (goods.take pre.length)]) (d:=.non) ?_ (DV _ _) rfl (DW (h _ (UH _)) (kA nd hl)) (by simp))
   rw[aY,af (i:=2) rfl,aj,aY,OC,af (i:=0) rfl,aj,GO,aj,D8,af (i:=1) rfl,aj]
   dsimp only
   rw[aj]
   dsimp only
   rw[o4]
   dsimp only
   unfold M.cutD
   rw[HT.Io,HT.K2,T3,show min pre.length goods.length=pre.length by omega,Xj,Nat.sub_zero,<- List.map_take]
   rfl) ⟨[some (sD goods),none,none],[]⟩ ⟨_,_,rfl⟩
 have hf:=dU (im:=de (ae (aa 0) ao)) (g:=cV (aU (aG 1) (aU (aG 2) cY)) 2) (body:=jW) (s:=⟨[some (sD goods),none,none],[]⟩) (ds:=dQ (goods.map D.str)) (k:=none) (s1:=⟨[some (sD goods),none,none],[]⟩) (by
  rw[lO,aY,af (i:=0) rfl,aj,aE,aj,aj])
 rw[el,Y] at hf
 exact⟨_,kJ (s:=⟨[some (sD goods),J,U],[]⟩) (by
  show ju ⟨[some (sD goods),none,none],[]⟩=_
  rw[ju,hf])⟩
theorem Me{z:Str}{goods l:List Str}(h1:z∈goods)(h2:z∉l):iZ [.str z,sD goods,sD l] []=.ok (.non,[]):=by
 refine kJ (s:=⟨[some (.str z),some (sD goods),some (sD l)],[]⟩) ?_
 show j9 ⟨[some (.str z),some (sD goods),some (sD l)],[]⟩=_
 rw[j9]
 refine Uz (cH (Uz (lN (s':=⟨[some (.str z),some (sD goods),some (sD l)],[]⟩) ?_) rfl)) (Uz (lN (s':=⟨[some (.str z),some (sD goods),some (sD l)],[]⟩) ?_) rfl)
 ·rw[gx,dW,af (i:=0) rfl,aj,af (i:=1) rfl,aj]
  dsimp only
  rw[FH,Nu h1];rfl
 ·rw[gx,dW,af (i:=0) rfl,aj,af (i:=2) rfl,aj]
  dsimp only
  rw[DG,DC h2];rfl
theorem Fg(i:Int):kD [.int i] []=.ok (.bl true,[]):=by
 refine dI (s:=⟨[some (.int i)],[]⟩) ?_
 simp[oP]
theorem G7{i:Int}(h:1<=i):gw [.int i] []=.ok (.non,[]):=by
 refine kJ (s:=⟨[some (.int i)],[]⟩) ?_
 show iI ⟨[some (.int i)],[]⟩=_
 rw[iI]
 refine Uz (lN (s':=⟨[some (.int i)],[]⟩) ?_) rfl
 have h1:aO 1 kD (ae (aa 0) ao) ⟨[some (.int i)],[]⟩=.ok (.bl true,⟨[some (.int i)],[]⟩):=cX (ds:=[.int i]) (by rw[aY,af (i:=0) rfl];rfl) (by simp) rfl (Fg i) (by simp)
 rw[A1,yw,gx,h1,aj,aj]
 dsimp only
 rw[aj]
 dsimp only
 rw[if_neg (by decide),gx,dW,af (i:=0) rfl,aj,aD,aj]
 dsimp only
 rw[vb,decide_eq_false (by omega)];rfl
theorem B2{n:Nat}{f:FM}{ma:AM}{s s':S}{ds rs:List D}{d:D}{O:aB}(h:ma s=.ok (ds,s'))(hr:bR s'.o (bR s'.o ds)=rs)(hp:aN rs=true)(J:ds.length=n)(U:f rs []=.ok (d,O))(hd:oN d=true):jc n f ma s=.ok (d,s'):=by
 unfold jc
 rw[h,aj]
 dsimp only
 rw[hr,if_pos ⟨hp,J⟩,U]
 dsimp only
 rw[if_pos hd]
structure kO(goods:List Str)(l:List (Str×Int)):Prop where
 mem:∀p∈l,p.1∈goods
 pos:∀p∈l,1<=p.2
 nd:(l.map (·.1)).Nodup
theorem BC{goods:List Str}{l:List (Str×Int)}(h:kO goods l)(hl:l.length<=1000):∃O,eG [psD l,sD goods] []=.ok (.non,O):=by
 have e2:setM 2 (ke ao) ⟨[some (psD l),some (sD goods),none,none,none],[]⟩=.next ⟨[some (psD l),some (sD goods),some (.ptr 0),none,none],[.lst []]⟩:=by simp
 obtain⟨s',el,Y,y4,ap⟩:=eZ (ok:=okC (l.map pD) none) (g:=cV (aU (aG 3) (aU (aG 4) cY)) 2) (body:=jU)
  (λpre s=>∃Y y4,s=⟨[some (psD l),some (sD goods),some (.ptr 0),Y,y4],[.lst (((l.map (·.1)).take pre.length).map D.str)]⟩) (λ_ _ _=>trivial) (l.map pD) [] (by
   rintro pre d rest ed s ⟨Y,y4,rfl⟩
   rw[Uw] at ed
   obtain⟨U,rfl⟩:=zY ed
   have hm:l[pre.length]∈l:=UH _
   have J:(l[pre.length]).1∉(l.map (·.1)).take pre.length:=by
    have:=kA h.nd (i:=pre.length) (by simpa using U)
    simpa using this
   generalize hx:l[pre.length]=x at hm J
   refine⟨⟨[some (psD l),some (sD goods),some (.ptr 0),some (.str x.1),some (.int x.2)],[.lst (((l.map (·.1)).take pre.length).map D.str)]⟩,⟨[some (psD l),some (sD goods),some (.ptr 0),some (.str x.1),some (.int x.2)],[.lst (((l.map (·.1)).take (pre.length+1)).map D.str)]⟩,by rw[qe];rfl,.inl ?_,some (.str x.1),some (.int x.2),by rw[Uv,UM]⟩
   rw[jU]
   have k1:=df (B2 (n:=3) (f:=iZ) (ma:=ae (aa 3) (ae (aa 1) (ae (aa 2) ao))) (s:=⟨[some (psD l),some (sD goods),some (.ptr 0),some (.str x.1),some (.int x.2)],[.lst (((l.map (·.1)).take pre.length).map D.str)]⟩) (s':=⟨[some (psD l),some (sD goods),some (.ptr 0),some (.str x.1),some (.int x.2)],[.lst (((l.map (·.1)).take pre.length).map D.str)]⟩) (ds:=[.str x.1,sD goods,.ptr 0]) (rs:=[.str x.1,sD goods,sD ((l.map (·.1)).take pre.length)]) (by
    rw[aY,af (i:=3) rfl,aj,aY,af (i:=1) rfl,aj,aY,af (i:=2) rfl];rfl) (Kh rfl _ _) (Ji _ _ _) rfl (Me (h.mem x hm) J) (by rfl))
   have k2:=df (cX (n:=1) (f:=gw) (ma:=ae (aa 4) ao) (s:=⟨[some (psD l),some (sD goods),some (.ptr 0),some (.str x.1),some (.int x.2)],[.lst (((l.map (·.1)).take pre.length).map D.str)]⟩) (s':=⟨[some (psD l),some (sD goods),some (.ptr 0),some (.str x.1),some (.int x.2)],[.lst (((l.map (·.1)).take pre.length).map D.str)]⟩) (ds:=[.int x.2]) (by rw[aY,af (i:=4) rfl];rfl) (by simp) rfl (G7 (h.pos x hm)) (by simp))
   refine Uz (cH k1) (Uz (cH k2) ?_)
   refine Uz (df (yd (mo:=aa 2) (me:=aa 3) (k:=0) (d:=.str x.1) (af rfl) rfl (af rfl) rfl (by simp;omega))) ?_
   have ht:(l.map (·.1)).take (pre.length+1)=(l.map (·.1)).take pre.length++[x.1]:=by
    rw[VU,Us,T7 U,hx];rfl
   rw[ht,UJ]
   rfl) ⟨[some (psD l),some (sD goods),some (.ptr 0),none,none],[.lst []]⟩ ⟨_,_,rfl⟩
 have hf:=dU (im:=listI (aa 0)) (g:=cV (aU (aG 3) (aU (aG 4) cY)) 2) (body:=jU) (s:=⟨[some (psD l),some (sD goods),some (.ptr 0),none,none],[.lst []]⟩) (ds:=l.map pD) (k:=none) (s1:=⟨[some (psD l),some (sD goods),some (.ptr 0),none,none],[.lst []]⟩) (by rw[cW,af (i:=0) rfl];rfl)
 rw[el] at hf
 exact⟨_,kJ (s:=s') (by
  show hX ⟨[some (psD l),some (sD goods),none,none,none],[]⟩=_
  rw[hX,cH e2]
  exact hf)⟩
@[simp] theorem Jn (g h i:GM) (a b c:D) (s:S):cV (aU g (aU h (aU i cY))) 3 (.tup [a,b,c]) s=(g a s).bind λs1=>(h b s1).bind λs2=>i c s2:=by
 show (g a s).bind (λs1=>(h b s1).bind λs2=>(i c s2).bind λJ=>.ok J)=_
 congr 1
 funext s1
 congr 1
 funext s2
 cases i c s2 <;> rfl
structure yU(goods:List Str)(ws:List Wk):Prop where
 nm:∀w∈ws,qr w.nm
 nd:(ws.map (·.nm)).Nodup
 us:∀w∈ws,kO goods w.us/\w.us.length<=100
 ms:∀w∈ws,kO goods w.ms/\w.ms.length<=100
theorem JH{goods:List Str}{ws:List Wk}(h:yU goods ws)(hl:ws.length<=1000):∃O,gX [wsD ws,sD goods] []=.ok (.non,O):=by
 have e2:setM 2 (ke ao) ⟨[some (wsD ws),some (sD goods),none,none,none,none],[]⟩=.next ⟨[some (wsD ws),some (sD goods),some (.ptr 0),none,none,none],[.lst []]⟩:=by simp
 obtain⟨s',el,y3,y4,y5,az⟩:=eZ (ok:=okC (ws.map wD) none) (g:=cV (aU (aG 3) (aU (aG 4) (aU (aG 5) cY))) 3) (body:=jV)
  (λpre s=>∃y3 y4 y5,s=⟨[some (wsD ws),some (sD goods),some (.ptr 0),y3,y4,y5],[.lst (((ws.map (·.nm)).take pre.length).map D.str)]⟩) (λ_ _ _=>trivial) (ws.map wD) [] (by
   rintro pre d rest ed s ⟨y3,y4,y5,rfl⟩
   rw[Uw] at ed
   obtain⟨U,rfl⟩:=zY ed
   have hm:ws[pre.length]∈ws:=UH _
   have J:(ws[pre.length]).nm∉(ws.map (·.nm)).take pre.length:=by
    have:=kA h.nd (i:=pre.length) (by simpa using U)
    simpa using this
   generalize hx:ws[pre.length]=x at hm J
   refine⟨⟨[some (wsD ws),some (sD goods),some (.ptr 0),some (.str x.nm),some (psD x.us),some (psD x.ms)],[.lst (((ws.map (·.nm)).take pre.length).map D.str)]⟩,⟨[some (wsD ws),some (sD goods),some (.ptr 0),some (.str x.nm),some (psD x.us),some (psD x.ms)],[.lst (((ws.map (·.nm)).take (pre.length+1)).map D.str)]⟩,by rw[Jn];rfl,.inl ?_,some (.str x.nm),some (psD x.us),some (psD x.ms),by rw[Uv,UM]⟩
   rw[jV]
   obtain⟨O1,p1⟩:=BC (h.us x hm).1 (by have:=(h.us x hm).2;omega)
   obtain⟨O2,p2⟩:=BC (h.ms x hm).1 (by have:=(h.ms x hm).2;omega)
   have k1:=df (B2 (n:=2) (f:=fj) (ma:=ae (aa 3) (ae (aa 2) ao)) (s:=⟨[some (wsD ws),some (sD goods),some (.ptr 0),some (.str x.nm),some (psD x.us),some (psD x.ms)],[.lst (((ws.map (·.nm)).take pre.length).map D.str)]⟩) (s':=⟨[some (wsD ws),some (sD goods),some (.ptr 0),some (.str x.nm),some (psD x.us),some (psD x.ms)],[.lst (((ws.map (·.nm)).take pre.length).map D.str)]⟩) (ds:=[.str x.nm,.ptr 0]) (by
    rw[aY,af (i:=3) rfl,aj,aY,af (i:=2) rfl];rfl) (Ln rfl _) (DV _ _) rfl (DW (h.nm x hm) J) (by rfl))
   have Y:∀l:List (Str×Int),aN [.lst (l.map pD),.lst (goods.map D.str)]=true:=λl=>by
    show (aN (l.map pD)&&(aN (goods.map D.str)&&true))=true
    rw[dj,ig];rfl
   have k2:=df (cX (n:=2) (f:=eG) (ma:=ae (aa 4) (ae (aa 1) ao)) (s:=⟨[some (wsD ws),some (sD goods),some (.ptr 0),some (.str x.nm),some (psD x.us),some (psD x.ms)],[.lst (((ws.map (·.nm)).take pre.length).map D.str)]⟩) (s':=⟨[some (wsD ws),some (sD goods),some (.ptr 0),some (.str x.nm),some (psD x.us),some (psD x.ms)],[.lst (((ws.map (·.nm)).take pre.length).map D.str)]⟩) (ds:=[psD x.us,sD goods]) (by rw[aY,af (i:=4) rfl,aj,aY,af (i:=1) rfl];rfl) (Y _) rfl p1 (by simp))
   have k3:=df (cX (n:=2) (f:=eG) (ma:=ae (aa 5) (ae (aa 1) ao)) (s:=⟨[some (wsD ws),some (sD goods),some (.ptr 0),some (.str x.nm),some (psD x.us),some (psD x.ms)],[.lst (((ws.map (·.nm)).take pre.length).map D.str)]⟩) (s':=⟨[some (wsD ws),some (sD goods),some (.ptr 0),some (.str x.nm),some (psD x.us),some (psD x.ms)],[.lst (((ws.map (·.nm)).take pre.length).map D.str)]⟩) (ds:=[psD x.ms,sD goods]) (by rw[aY,af (i:=5) rfl,aj,aY,af (i:=1) rfl];rfl) (Y _) rfl p2 (by simp))
   refine Uz (cH k1) (Uz (cH k2) (Uz (cH k3) ?_))
   refine Uz (df (yd (mo:=aa 2) (me:=aa 3) (k:=0) (d:=.str x.nm) (af rfl) rfl (af rfl) rfl (by simp;omega))) ?_
   have ht:(ws.map (·.nm)).take (pre.length+1)=(ws.map (·.nm)).take pre.length++[x.nm]:=by
    rw[VU,Us,T7 U,hx];rfl
   rw[ht,UJ]
   rfl) ⟨[some (wsD ws),some (sD goods),some (.ptr 0),none,none,none],[.lst []]⟩ ⟨_,_,_,rfl⟩
 have hf:=dU (im:=listI (aa 0)) (g:=cV (aU (aG 3) (aU (aG 4) (aU (aG 5) cY))) 3) (body:=jV) (s:=⟨[some (wsD ws),some (sD goods),some (.ptr 0),none,none,none],[.lst []]⟩) (ds:=ws.map wD) (k:=none) (s1:=⟨[some (wsD ws),some (sD goods),some (.ptr 0),none,none,none],[.lst []]⟩) (by rw[cW,af (i:=0) rfl];rfl)
 rw[el] at hf
 exact⟨_,kJ (s:=s') (by
  show jq ⟨[some (wsD ws),some (sD goods),none,none,none,none],[]⟩=_
  rw[jq,cH e2]
  exact hf)⟩
theorem Mh(w:Wk):jF [wD w] []=.ok (wD w,[]):=by
 refine dI (s:=⟨[some (wD w)],[]⟩) ?_
 show kY ⟨[some (wD w)],[]⟩=_
 rw[kY]
 refine bD ?_
 have J:∀(k:Int) (d:D),ixD [] (wD w) (.int k)=.ok d->ak ixD (aa 0) (aq (.int k)) ⟨[some (wD w)],[]⟩=.ok (d,⟨[some (wD w)],[]⟩):=λk d h=>by
  rw[dW,af (i:=0) rfl,aj,aD,aj]
  dsimp only
  rw[h];rfl
 rw[DN,aY,J 0 (.str w.nm) rfl,aj,aY,gy,aY,J 1 (psD w.us) rfl,aj,aE,aj,aj]
 dsimp only
 rw[ow,aj,aj,aY,gy,aY,J 2 (psD w.ms) rfl,aj,aE,aj,aj]
 dsimp only
 rw[ow,aj,aj,aE,aj,aj,aj,aj]
 rfl
def sumOf(g:Str)(l:List (Str×Int)):Int:=((l.filter λp=>decide (p.1=g)).map (·.2)).sum
def chg(w:Wk)(g:Str):Int:=sumOf g w.ms-sumOf g w.us
theorem Ea{g:Str}{l:List (Str×Int)}(J:l.length<=1000):eC [.str g,psD l] []=.ok (.int (sumOf g l),[]):=by
 have hc:=uH (l:=l) (item:=pD) (p:=λp=>decide (p.1=g)) (out:=λp=>.int p.2) (caps:=[0]) (im:=listI (aa 1)) (c:=bj (ak eqD (ak ixD (aa 0) (aq (.int 0))) (aa 1))) (e:=ak ixD (aa 0) (aq (.int 1))) (k:=none) (s:=⟨[some (.str g),some (psD l)],[]⟩) (by rw[cW,af (i:=1) rfl];rfl) trivial (by omega) (λp _=>by
  rw[gx,dW,dW,af (i:=0) rfl,aj,aD,aj]
  dsimp only
  rw[show ixD [] (pD p) (.int 0)=.ok (.str p.1) from rfl,aj,aj]
  dsimp only
  rw[af (i:=1) rfl,aj]
  dsimp only
  rw[Ll];rfl) (λp _ _=>by
  rw[dW,af (i:=0) rfl,aj,aD,aj]
  rfl)
 rw[show (l.filter λp=>decide (p.1=g)).map (λp=>D.int p.2)=((l.filter λp=>decide (p.1=g)).map (·.2)).map D.int by rw[Uh];rfl] at hc
 refine dI (s:=⟨[some (.str g),some (psD l)],[]⟩) ?_
 show jE ⟨[some (.str g),some (psD l)],[]⟩=_
 rw[jE]
 refine bD ?_
 rw[gy,aY,hc,aj,aE,aj,aj]
 dsimp only
 rw[n8,aj]
 rfl
theorem L5{w:Wk}{goods:List Str}(h1:w.us.length<=1000)(h2:w.ms.length<=1000)(hg:goods.length<=1000):jG [wD w,sD goods] []=.ok (vI (goods.map (chg w)),[]):=by
 have hc:=d3 (l:=goods) (item:=D.str) (out:=λg=>.int (chg w g)) (caps:=[0]) (im:=listI (aa 1)) (e:=ak iC (aO 2 eC (ae (aa 0) (ae (ak ixD (aa 1) (aq (.int 2))) ao))) (aO 2 eC (ae (aa 0) (ae (ak ixD (aa 1) (aq (.int 1))) ao)))) (k:=none) (s:=⟨[some (wD w),some (sD goods)],[]⟩) (by rw[cW,af (i:=1) rfl];rfl) trivial (by omega) (λg _=>by
  have J:∀l:List (Str×Int),aN [.str g,.lst (l.map pD)]=true:=λl=>by
   show (true&&(aN (l.map pD)&&true))=true
   rw[ig];rfl
  have U:aO 2 eC (ae (aa 0) (ae (ak ixD (aa 1) (aq (.int 2))) ao)) ⟨some (.str g)::[0].map (λi=>([some (wD w),some (sD goods)][i]?).getD none),[]⟩=.ok (.int (sumOf g w.ms),⟨some (.str g)::[0].map (λi=>([some (wD w),some (sD goods)][i]?).getD none),[]⟩):=cX (ds:=[.str g,psD w.ms]) (by
   rw[aY,af (i:=0) rfl,aj,aY,dW,af (i:=1) rfl,aj,aD,aj];rfl) (J _) rfl (Ea h2) (by simp)
  have Y:aO 2 eC (ae (aa 0) (ae (ak ixD (aa 1) (aq (.int 1))) ao)) ⟨some (.str g)::[0].map (λi=>([some (wD w),some (sD goods)][i]?).getD none),[]⟩=.ok (.int (sumOf g w.us),⟨some (.str g)::[0].map (λi=>([some (wD w),some (sD goods)][i]?).getD none),[]⟩):=cX (ds:=[.str g,psD w.us]) (by
   rw[aY,af (i:=0) rfl,aj,aY,dW,af (i:=1) rfl,aj,aD,aj];rfl) (J _) rfl (Ea h1) (by simp)
  rw[dW,U,aj]
  dsimp only
  rw[Y,aj]
  rfl)
 rw[show goods.map (λg=>D.int (chg w g))=(goods.map (chg w)).map D.int by rw[Uh];rfl] at hc
 refine dI (s:=⟨[some (wD w),some (sD goods)],[]⟩) ?_
 show kX ⟨[some (wD w),some (sD goods)],[]⟩=_
 rw[kX]
 exact bD hc
abbrev FN:List Str:=["held_goods","held_works","held_changes"]
abbrev yDs(goods:List Str)(ws:List Wk):List D:=[sD goods,wsD ws,vII (ws.map λw=>goods.map (chg w))]
abbrev yD(goods:List Str)(ws:List Wk):D:=.obj 0 FN (yDs goods ws)
theorem gY(goods:List Str)(ws:List Wk):aN (yDs goods ws)=true:=by
 show (aN (goods.map D.str)&&(aN (ws.map wD)&&(aN ((ws.map λw=>goods.map (chg w)).map vI)&&true)))=true
 rw[dj,mW,i8];rfl
theorem yS{c:Nat}{f:Str}{mo mv:EM}{s s1 s2:S}{d:D}{k:Nat}{ns:List Str}{ds:List D}(J:mv s=.ok (d,s1))(U:mo s1=.ok (.ptr k,s2))(hc:s2.o[k]? =some (.ins c ns ds))(Y:f∉ns)(hl:ns.length<1000):sE c f mo mv s=.next ⟨s2.r,s2.o.set k (.ins c (ns++[f]) (ds++[d]))⟩:=by
 rw[Ke,J,kZ]
 dsimp only
 rw[U,kZ]
 dsimp only
 rw[hc]
 dsimp only
 rw[if_pos ⟨rfl,Y,hl⟩]
theorem Mm{goods:List Str}{ws:List Wk}(hg:∀z∈goods,qr z)(nd:goods.Nodup)(U:yU goods ws)(h1:goods.length<=10)(h2:ws.length<=10):iz [.ptr 0,sD goods,wsD ws] [.ins 0 [] []]=.ok (.non,[.ins 0 FN (yDs goods ws)]):=by
 obtain⟨O1,k1⟩:=Jt hg nd
 obtain⟨O2,k2⟩:=JH U (by omega)
 refine kJ (s:=⟨[some (.ptr 0),some (sD goods),some (wsD ws)],[.ins 0 FN (yDs goods ws)]⟩) ?_
 show lb ⟨[some (.ptr 0),some (sD goods),some (wsD ws)],[.ins 0 [] []]⟩=_
 rw[lb]
 have pg:aN [.lst (goods.map D.str)]=true:=by
  show (aN (goods.map D.str)&&true)=true
  rw[dj];rfl
 have Y:aN [.lst (goods.map D.str),.lst (ws.map wD)]=true:=by
  show (aN (goods.map D.str)&&(aN (ws.map wD)&&true))=true
  rw[dj,mW];rfl
 have ab:aN [.lst (ws.map wD),.lst (goods.map D.str)]=true:=by
  show (aN (ws.map wD)&&(aN (goods.map D.str)&&true))=true
  rw[dj,mW];rfl
 have e1:=df (cX (n:=2) (f:=iL) (ma:=ae (aa 1) (ae (aa 2) ao)) (s:=⟨[some (.ptr 0),some (sD goods),some (wsD ws)],[.ins 0 [] []]⟩) (s':=⟨[some (.ptr 0),some (sD goods),some (wsD ws)],[.ins 0 [] []]⟩) (ds:=[sD goods,wsD ws]) (by rw[aY,af (i:=1) rfl,aj,aY,af (i:=2) rfl];rfl) Y rfl (Md h1 h2) (by simp))
 have e2:=df (cX (n:=1) (f:=g5) (ma:=ae (aa 1) ao) (s:=⟨[some (.ptr 0),some (sD goods),some (wsD ws)],[.ins 0 [] []]⟩) (s':=⟨[some (.ptr 0),some (sD goods),some (wsD ws)],[.ins 0 [] []]⟩) (ds:=[sD goods]) (by rw[aY,af (i:=1) rfl];rfl) pg rfl k1 (by simp))
 have e3:=df (cX (n:=2) (f:=gX) (ma:=ae (aa 2) (ae (aa 1) ao)) (s:=⟨[some (.ptr 0),some (sD goods),some (wsD ws)],[.ins 0 [] []]⟩) (s':=⟨[some (.ptr 0),some (sD goods),some (wsD ws)],[.ins 0 [] []]⟩) (ds:=[wsD ws,sD goods]) (by rw[aY,af (i:=2) rfl,aj,aY,af (i:=1) rfl];rfl) ab rfl k2 (by simp))
 have e4:=yS (c:=0) (f:="held_goods") (mo:=aa 0) (mv:=bE nM (ae (aa 1) ao)) (s:=⟨[some (.ptr 0),some (sD goods),some (wsD ws)],[.ins 0 [] []]⟩) (s1:=⟨[some (.ptr 0),some (sD goods),some (wsD ws)],[.ins 0 [] []]⟩) (s2:=⟨[some (.ptr 0),some (sD goods),some (wsD ws)],[.ins 0 [] []]⟩) (d:=sD goods) (k:=0) (ns:=[]) (ds:=[]) (by
  rw[gy,aY,af (i:=1) rfl,aj,aE,aj,aj]
  dsimp only
  rw[ow,aj]) (af rfl) rfl (by simp) (by simp)
 have cw:=d3 (l:=ws) (item:=wD) (out:=wD) (caps:=[]) (im:=listI (aa 2)) (e:=aO 1 jF (ae (aa 0) ao)) (k:=none) (s:=⟨[some (.ptr 0),some (sD goods),some (wsD ws)],[.ins 0 ["held_goods"] [sD goods]]⟩) (by rw[cW,af (i:=2) rfl];rfl) trivial (by omega) (λw _=>cX (ds:=[wD w]) (by rw[aY,af (i:=0) rfl];rfl) (by
  show ((true&&(aN (w.us.map pD)&&(aN (w.ms.map pD)&&true)))&&true)=true
  rw[ig,ig];rfl) rfl (Mh w) (by
  show (true&&(aN (w.us.map pD)&&(aN (w.ms.map pD)&&true)))=true
  rw[ig,ig];rfl))
 have e5:=yS (c:=0) (f:="held_works") (mo:=aa 0) (k:=0) (ns:=["held_goods"]) (ds:=[sD goods]) cw (af rfl) rfl (by decide) (by simp)
 have cc:=d3 (l:=ws) (item:=wD) (out:=λw=>vI (goods.map (chg w))) (caps:=[1]) (im:=listI (aa 2)) (e:=aO 2 jG (ae (aa 0) (ae (aa 1) ao))) (k:=none) (s:=⟨[some (.ptr 0),some (sD goods),some (wsD ws)],[.ins 0 ["held_goods","held_works"] [sD goods,wsD ws]]⟩) (by rw[cW,af (i:=2) rfl];rfl) trivial (by omega) (λw J=>cX (ds:=[wD w,sD goods]) (by rw[aY,af (i:=0) rfl,aj,aY,af (i:=1) rfl];rfl) (by
  show ((true&&(aN (w.us.map pD)&&(aN (w.ms.map pD)&&true)))&&(aN (goods.map D.str)&&true))=true
  rw[ig,ig,dj];rfl) rfl (L5 (by have:=(U.us w J).2;omega) (by have:=(U.ms w J).2;omega) (by omega)) (by generalize goods.map (chg w)=r;simp))
 rw[show ws.map (λw=>vI (goods.map (chg w)))=(ws.map λw=>goods.map (chg w)).map vI by rw[Uh];rfl] at cc
 have e6:=yS (c:=0) (f:="held_changes") (mo:=aa 0) (k:=0) (ns:=["held_goods","held_works"]) (ds:=[sD goods,wsD ws]) cc (af rfl) rfl (by decide) (by simp)
 refine Uz (cH e1) (Uz (cH e2) (Uz (cH e3) (Uz (cH e4) (Uz (cH e5) e6))))
structure Pt(goods:List Str)(i:Nat)(l:List (Str×Int)):Prop where
 mem:∀p∈l,p.1∈goods.take i
 pos:∀p∈l,1<=p.2
 nd:(l.map (·.1)).Nodup
 len:l.length<=i
theorem Pt.same{goods:List Str}{i:Nat}{l:List (Str×Int)}(h:Pt goods i l):Pt goods (i+1) l:=
 ⟨λp hp=>Wy (i:=i) (by rw[List.take_take,Nat.min_eq_left (WE i)];exact h.mem p hp),h.pos,h.nd,Nat.le_succ_of_le h.len⟩
theorem Pt.more{goods:List Str}(J:goods.Nodup){i:Nat}(hi:i<goods.length){l:List (Str×Int)}(h:Pt goods i l){a:Int}(ha:1<=a):Pt goods (i+1) (l++[(goods[i],a)]):=by
 have U:=h.same
 refine⟨λp hp=> ?_,λp hp=> ?_, ?_,by rw[Uv,UM];have:=h.len;omega⟩
 ·rcases Uj.mp hp with q | q
  ·exact U.mem p q
  ·rw[Ul.mp q,show goods.take (i+1)=goods.take i++[goods[i]] by rw[VU,T7 hi];rfl]
   exact UE _ (Ul.mpr rfl)
 ·rcases Uj.mp hp with q | q
  ·exact h.pos p q
  ·rw[Ul.mp q];exact ha
 ·rw[UJ]
  refine VC.mpr ⟨h.nd,by simp,λx hx y hy=> ?_⟩
  obtain⟨p,hp,rfl⟩:=T4.mp hx
  have:y=goods[i]:=by simpa using hy
  subst this
  intro e
  exact kA J hi (e▸h.mem p hp)
theorem Pt.parts{goods:List Str}{i:Nat}{l:List (Str×Int)}(h:Pt goods i l):kO goods l:=⟨λp hp=>Wy (h.mem p hp),h.pos,h.nd⟩
theorem kO.rev{goods:List Str}{l:List (Str×Int)}(h:kO goods l):kO goods l.reverse:=
 ⟨λp hp=>h.mem p (XU.mp hp),λp hp=>h.pos p (XU.mp hp),by rw[XV];exact List.pairwise_reverse.mpr (h.nd.imp λe=>e.symm)⟩
def cA(c t m:Int):Int:=(c%2147483647+7)*(48271+7919*t)%2147483647*16807%2147483647/8%m
theorem ji{c t m:Int}(hm:0<m):0<=cA c t m:=Vp _ (by omega)
theorem md{c t m:Int}(hm:0<m):cA c t m<m:=U7 _ hm
theorem n4(c t:Int){m:Nat}(hm:0<m):∃r:Nat,cA c t (m:Int)=(r:Int)/\r<m:=⟨(cA c t (m:Int)).toNat,by have:=ji (c:=c) (t:=t) (m:=(m:Int)) (by omega);omega,by have:=ji (c:=c) (t:=t) (m:=(m:Int)) (by omega);have:=md (c:=c) (t:=t) (m:=(m:Int)) (by omega);omega⟩
theorem Ly{c t m:Int}(hm:0<m):aL [.int c,.int t,.int m] []=.ok (.int (cA c t m),[]):=by
 have h0:0<=c%2147483647:=Vp _ (by decide)
 have h1:c%2147483647<2147483647:=U7 _ (by decide)
 refine dD (R:=[some (.int c),some (.int t),some (.int m),some (.int ((c%2147483647+7)*(48271+7919*t)%2147483647))]) ?_
 show bK ⟨[some (.int c),some (.int t),some (.int m),none],[]⟩=_
 rw[bK]
 refine ba (bG (aK (aK (aK (aK (af rfl) (aD _ _) (fk (by decide))) (aD _ _) (cj _ _)) (aK (aD _ _) (aK (aD _ _) (af rfl) (dN (fD (.inl (by decide))))) (cj _ _)) (dN (fD (.inl (by omega))))) (aD _ _) (fk (by decide))) rfl) ?_
 exact bD (aK (aK (aK (aK (af rfl) (aD _ _) (dN (fD (.inr (by decide))))) (aD _ _) (fk (by decide))) (aD _ _) (vJ (by decide) (by decide))) (af rfl) (fk hm))
theorem fF{s:S}{ma mb mc:EM}{c t m:Int}(h1:ma s=.ok (.int c,s))(h2:mb s=.ok (.int t,s))(J:mc s=.ok (.int m,s))(hm:0<m):aO 3 aL (ae ma (ae mb (ae mc ao))) s=.ok (.int (cA c t m),s):=ey (aA h1 (aA h2 (aA J (aE _)))) (Ly hm) rfl rfl rfl
def sgP(J:Int)(k:Nat):Nat:=97+((J+5*(k:Int))%26).toNat
def nmP(wd:List Nat)(sp:Nat)(J:Int)(k:Nat):List Nat:=wd.take sp++[sgP J k]++wd.drop sp
theorem NW(J:Int)(k:Nat):97<=sgP J k/\sgP J k<=122:=by unfold sgP;omega
theorem Ig{wd:List Nat}{sp k:Nat}{U:Int}(h:sp<=wd.length)(h7:wd.length<=7)(J:azL wd):qr (mkS (nmP wd sp U k)):=by
 have Y:(nmP wd sp U k).length=wd.length+1:=by unfold nmP;simp;omega
 refine⟨by rw[j7,Y];omega,by rw[j7,Y];omega, ?_⟩
 rw[ix]
 intro c hc
 unfold nmP at hc
 rcases Uj.mp hc with z | z
 ·rcases Uj.mp z with y | y
  ·exact J c (Wy y)
  ·rw[Ul.mp y];exact NW U k
 ·exact J c (List.mem_of_mem_drop z)
theorem NZ{wd:List Nat}{sp i j:Nat}{J:Int}(h:sp<=wd.length)(U:i<j)(hj:j<26):nmP wd sp J i≠nmP wd sp J j:=by
 intro e
 have Y:sgP J i≠sgP J j:=by unfold sgP;omega
 have hl:(wd.take sp).length=sp:=by rw[V0];omega
 have key:∀x:Nat,(wd.take sp++[x]++wd.drop sp)[sp]? =some x:=λx=>by
  rw[UX,Ui (by omega),hl,XB];rfl
 have e1:(nmP wd sp J i)[sp]? =(nmP wd sp J j)[sp]? :=by rw[e]
 unfold nmP at e1
 rw[key,key] at e1
 have e1:sgP J i=sgP J j:=by simpa using e1
 exact Y e1
theorem names_nodup{wd:List Nat}{sp n:Nat}{U:Int}(h:sp<=wd.length)(hn:n<=26):((T9 n).map λk=>mkS (nmP wd sp U k)).Nodup:=by
 unfold X0
 rw[VD]
 refine Vq ?_ (List.pairwise_lt_range (n:=n))
 intro i j _ Y J e
 have:=congrArg sg e
 rw[ix,ix] at this
 exact NZ h J (by have:=UD.mp Y;omega) this
theorem KP{me:EM}{J U:OM}{s s1 s2 Y:S}{z y:Str}{lo hi:Option Int}(h:me s=.ok (.str z,s1))(hl:J s1=.ok (lo,s2))(hh:U s2=.ok (hi,Y))(hz:z.length<=1000000)(hy:mU z lo hi=y):slS me J U s=.ok (.str y,Y):=by
 rw[NR,h,aj]
 dsimp only
 rw[hl,aj]
 dsimp only
 rw[hh,aj]
 dsimp only
 rw[if_pos (by omega),hy]
abbrev naR(c:Int)(n:Nat)(wd:List Nat)(J x5 x6:Option D):List (Option D):=[some (.int c),some (.int (n:Int)),some (.str ABC),some (.str (mkS wd)),J,x5,x6]
theorem FL{c:Int}{n k:Nat}{wd:List Nat}(U:wd.length<=1000):∃r,jB ⟨naR c n wd (some (.int (k:Int))) none none,[]⟩=.next ⟨naR c n (wd++[r]) (some (.int (k:Int))) none none,[]⟩/\97<=r/\r<=122:=by
 have J:=ji (c:=c) (t:=2+(k:Int)) (m:=26) (by decide)
 have p1:=md (c:=c) (t:=2+(k:Int)) (m:=26) (by decide)
 refine⟨97+(cA c (2+(k:Int)) 26).toNat, ?_,by omega,by omega⟩
 rw[jB]
 refine bG (aK (af rfl) (aK (af rfl) (fF (af rfl) (aK (aD _ _) (af rfl) (cj _ _)) (aD _ _) (by decide)) (GY J p1)) ?_) rfl
 rw[ue (by rw[j7,j7];simp;omega)]
 rw[show mkS wd++mkS [97+(cA c (2+(k:Int)) 26).toNat]=mkS (wd++[97+(cA c (2+(k:Int)) 26).toNat]) from ud (by rw[CA,ix,ix,ix])]
theorem BU(c:Int){n:Nat}(hn:n<=20):∃zs O,dF [.int c,.int (n:Int)] []=.ok (sD zs,O)/\zs.length=n/\(∀z∈zs,qr z)/\zs.Nodup:=by
 obtain⟨sz,Y,a1⟩:=n4 c 1 (m:=8) (by decide)
 have Y:cA c 1 8=(sz:Int):=Y
 obtain⟨s',el,J,U,ac,am,an⟩:=eZ (ok:=okC (dP 0 (sz:Int)) none) (g:=aG 4) (body:=jB)
  (λpre s=>∃(J:List Nat) (U:Option D),J.length=pre.length/\azL J/\s=⟨naR c n J U none none,[]⟩) (λ_ _ _=>trivial) (dP 0 (sz:Int)) [] (by
   rintro pre d rest ed s ⟨J,U,h1,h2,rfl⟩
   rw[Uw,fv] at ed
   obtain⟨rfl,a3⟩:=nZ ed
   obtain⟨r,eb,r1,r2⟩:=FL (c:=c) (n:=n) (k:=pre.length) (wd:=J) (by omega)
   refine⟨_,_,rfl,.inl eb,J++[r],_,by simp[h1],λz hz=> ?_,rfl⟩
   rcases Uj.mp hz with q | q
   ·exact h2 z q
   ·rw[Ul.mp q];exact⟨r1,r2⟩) ⟨naR c n [] none none none,[]⟩ ⟨[],none,rfl,(λ_ h=>by cases h),rfl⟩
 rw[Uw,hJ] at ac
 have ac:J.length=sz:=by omega
 have hf:fM (dM (ae (aO 3 aL (ae (aa 0) (ae (aq (.int 1)) (ae (aq (.int 8)) ao)))) ao)) (aG 4) jB ⟨naR c n [] none none none,[]⟩=.next ⟨naR c n J U none none,[]⟩:=by
  refine(dU (ds:=dP 0 (sz:Int)) (k:=none) (s1:=⟨naR c n [] none none none,[]⟩) (dY (n:=sz) ?_ (by omega))).trans (el.trans (by rw[an]))
  rw[<- Y]
  exact aA (fF (af rfl) (aD _ _) (aD _ _) (by decide)) (aE _)
 obtain⟨sp,ap,a8⟩:=n4 c 10 (m:=J.length+1) (by omega)
 have e5:setM 5 (aO 3 aL (ae (aa 0) (ae (aq (.int 10)) (ae (ak bI (bE cL (ae (aa 3) ao)) (aq (.int 1))) ao)))) ⟨naR c n J U none none,[]⟩=.next ⟨naR c n J U (some (.int (sp:Int))) none,[]⟩:=by
  rw[<- ap]
  refine bG (fF (af rfl) (aD _ _) (aK (eI (aA (af rfl) (aE _)) (BZ (by rw[j7];omega))) (aD _ _) ?_) (by omega)) rfl
  rw[cj,j7];rfl
 have e6:setM 6 (aO 3 aL (ae (aa 0) (ae (aq (.int 11)) (ae (aq (.int 26)) ao)))) ⟨naR c n J U (some (.int (sp:Int))) none,[]⟩=.next ⟨naR c n J U (some (.int (sp:Int))) (some (.int (cA c 11 26))),[]⟩:=bG (fF (af rfl) (aD _ _) (aD _ _) (by decide)) rfl
 generalize cA c 11 26=fi at e6
 have bb:(mkS J).length=J.length:=j7 J
 have ec:=d3 (l:=T9 n) (item:=λi:Nat=>D.int (i:Int)) (out:=λk=>.str (mkS (nmP J sp fi k))) (caps:=[6,2,5,3]) (im:=dM (ae (aa 1) ao)) (e:=ak bI (ak bI (slS (aa 4) jx (part (aa 3))) (ak ixD (aa 2) (ak fE (ak bI (aa 1) (ak dJ (aq (.int 5)) (aa 0))) (aq (.int 26))))) (slS (aa 4) (part (aa 3)) jx)) (k:=none) (s:=⟨naR c n J U (some (.int (sp:Int))) (some (.int fi)),[]⟩) (by
  rw[<- fv]
  exact dY (aA (af rfl) (aE _)) (by omega)) trivial (by simp;omega) (λk hk=>by
   have p1:mU (mkS J) none (some (sp:Int))=mkS (J.take sp):=ud (by rw[Ld (by omega),ix,ix])
   have p2:mU (mkS J) (some (sp:Int)) none=mkS (J.drop sp):=ud (by rw[KU (by omega),ix,ix])
   refine aK (aK (KP (af rfl) (sk _) (AS (af rfl)) (by omega) p1) (aK (af rfl) (aK (aK (af rfl) (aK (aD _ _) (af rfl) (dN (fD (.inl (by decide))))) (cj _ _)) (aD _ _) (fk (by decide))) (GY (by omega) (by omega))) (d:=.str (mkS (J.take sp++[sgP fi k]))) ?_) (KP (af rfl) (AS (af rfl)) (sk _) (by omega) p2) ?_
   ·rw[ue (by rw[j7,j7];simp;omega)]
    exact congrArg (λz=>Res.ok (D.str z)) (ud (by rw[CA,ix,ix,ix];rfl))
   ·rw[ue (by rw[j7,j7];simp;omega)]
    exact congrArg (λz=>Res.ok (D.str z)) (ud (by rw[CA,ix,ix,ix];rfl)))
 refine⟨(T9 n).map λk=>mkS (nmP J sp fi k),[], ?_,by simp,λz hz=> ?_,names_nodup (by omega) (by omega)⟩
 ·refine dD (R:=naR c n J U (some (.int (sp:Int))) (some (.int fi))) ?_
  show jQ ⟨[some (.int c),some (.int (n:Int)),none,none,none,none,none],[]⟩=_
  rw[jQ]
  rw[show (T9 n).map (λk=>D.str (mkS (nmP J sp fi k)))=((T9 n).map λk=>mkS (nmP J sp fi k)).map D.str by rw[Uh];rfl] at ec
  exact ba (bG (aD _ _) rfl) (ba (bG (R':=naR c n [] none none none) (aD _ _) rfl) (ba hf (ba e5 (ba e6 (bD ec)))))
 ·obtain⟨k,_,rfl⟩:=T4.mp hz
  exact Ig (by omega) (by omega) am
theorem zx{O:aB}:j6 O (.int 10) (.int 12)=.ok (.int 1000000000000):=sx (by decide) (by decide) (by decide)
theorem IJ{O:aB}:j6 O (.int 10) (.int 9)=.ok (.int 1000000000):=sx (by decide) (by decide) (by decide)
theorem Gq{O:aB}:j6 O (.int 10) (.int 10)=.ok (.int 10000000000):=sx (by decide) (by decide) (by decide)
theorem qd{O:aB}{i j:Int}(h:0<j):hZ O (.int i) (.int j)=.ok (.int (i/j)):=by
 rw[uA (by omega),wm h]
abbrev moR(c:Int)(n:Nat)(w:Bool)(rest span:Int)(x6 x7:Option D):List (Option D):=[some (.int c),some (.int (n:Int)),some (.bl w),some (.ptr 0),some (.int rest),some (.int span),x6,x7]
theorem HY{c:Int}{n k:Nat}{w:Bool}{rest span:Int}{l:List Int}{x7:Option D}(hs:7<=span)(an:span<=2000000000001)(hl:l.length<=1000):
 ∃(v J:Int),mS ⟨moR c n w rest span (some (.int (k:Int))) x7,[.lst (l.map D.int)]⟩=.next ⟨moR c n w J span (some (.int (k:Int))) (some (.int v)),[.lst ((l++[v]).map D.int)]⟩/\Sz 50 v:=by
 have p0:=ji (c:=c) (t:=20+(k:Int)) (m:=7) (by decide)
 have p1:=md (c:=c) (t:=20+(k:Int)) (m:=7) (by decide)
 have q0:=ji (c:=c) (t:=30+(k:Int)) (m:=2000) (by decide)
 have q1:=md (c:=c) (t:=30+(k:Int)) (m:=2000) (by decide)
 have e7:setM 7 (ak iC (aO 3 aL (ae (aa 0) (ae (ak bI (aq (.int 20)) (aa 6)) (ae (aq (.int 7)) ao)))) (aq (.int 3))) ⟨moR c n w rest span (some (.int (k:Int))) x7,[.lst (l.map D.int)]⟩=.next ⟨moR c n w rest span (some (.int (k:Int))) (some (.int (cA c (20+(k:Int)) 7-3))),[.lst (l.map D.int)]⟩:=bG (aK (fF (af rfl) (aK (aD _ _) (af rfl) (cj _ _)) (aD _ _) (by decide)) (aD _ _) (lW _ _)) rfl
 generalize cA c (20+(k:Int)) 7=p at e7 p0 p1
 have m0:0<=c%1000000000000:=Vp _ (by decide)
 have m1:c%1000000000000<1000000000000:=U7 _ (by decide)
 have Y:∃v,ifS (bj (aa 2)) (setM 7 (ak iC (ak bI (ak dJ (aa 7) (ak fE (aa 0) (ak j6 (aq (.int 10)) (aq (.int 12))))) (aO 3 aL (ae (aa 0) (ae (ak bI (aq (.int 30)) (aa 6)) (ae (aq (.int 2000)) ao))))) (aq (.int 1000)))) cf ⟨moR c n w rest span (some (.int (k:Int))) (some (.int (p-3))),[.lst (l.map D.int)]⟩=.next ⟨moR c n w rest span (some (.int (k:Int))) (some (.int v)),[.lst (l.map D.int)]⟩/\Sz 50 v:=by
  cases w with
  | true=>
   refine⟨(p-3)*(c%1000000000000)+cA c (30+(k:Int)) 2000-1000,jg (gQ (af rfl)) rfl (bG (aK (aK (aK (af rfl) (aK (af rfl) (aK (aD _ _) (aD _ _) zx) (fk (by decide))) (dN (fD (.inl (by omega))))) (fF (af rfl) (aK (aD _ _) (af rfl) (cj _ _)) (aD _ _) (by decide)) (cj _ _)) (aD _ _) (lW _ _)) rfl), ?_⟩
   generalize cA c (30+(k:Int)) 2000=q at q0 q1
   generalize c%1000000000000=m at m0 m1
   have hp:p=0\/p=1\/p=2\/p=3\/p=4\/p=5\/p=6:=by omega
   unfold Sz
   rcases hp with rfl | rfl | rfl | rfl | rfl | rfl | rfl <;> omega
  | false=>exact⟨p-3,gs (gQ (af rfl)) rfl (dC _),by unfold Sz;omega⟩
 obtain⟨v,Y,zv⟩:=Y
 have e9:∃U J,ifS (qa (bj (ak eqD (ak fE (aa 0) (aq (.int 2))) (aq (.int 1)))) (bj (ak gtD (aa 4) (aq (.int 0))))) (aP (setM 7 (ak iC (ak fE (aa 4) (aa 5)) (ak hZ (aa 5) (aq (.int 2))))) (setM 4 (ak hZ (aa 4) (aa 5)))) cf ⟨moR c n w rest span (some (.int (k:Int))) (some (.int v)),[.lst (l.map D.int)]⟩=.next ⟨moR c n w J span (some (.int (k:Int))) (some (.int U)),[.lst (l.map D.int)]⟩/\Sz 50 U:=by
  have t1:bj (ak eqD (ak fE (aa 0) (aq (.int 2))) (aq (.int 1))) ⟨moR c n w rest span (some (.int (k:Int))) (some (.int v)),[.lst (l.map D.int)]⟩=.ok (decide (c%2=1),⟨moR c n w rest span (some (.int (k:Int))) (some (.int v)),[.lst (l.map D.int)]⟩):=eq_test (aK (af rfl) (aD _ _) (fk (by decide)))
  have t2:bj (ak gtD (aa 4) (aq (.int 0))) ⟨moR c n w rest span (some (.int (k:Int))) (some (.int v)),[.lst (l.map D.int)]⟩=.ok (decide (0<rest),⟨moR c n w rest span (some (.int (k:Int))) (some (.int v)),[.lst (l.map D.int)]⟩):=iO (af rfl)
  have ta:=vc t1 t2
  cases hb:(decide (c%2=1)&&decide (0<rest)) with
  | true=>
   refine⟨rest%span-span/2,rest/span,jg ta hb (ba (bG (aK (aK (af rfl) (af rfl) (fk (by omega))) (aK (af rfl) (aD _ _) (qd (by decide))) (lW _ _)) rfl) (bG (aK (af rfl) (af rfl) (qd (by omega))) rfl)), ?_⟩
   have r0:0<=rest%span:=Vp _ (by omega)
   have r1:rest%span<span:=U7 _ (by omega)
   unfold Sz
   omega
  | false=>exact⟨v,rest,gs ta hb (dC _),zv⟩
 obtain⟨U,J,e9,ac⟩:=e9
 refine⟨U,J, ?_,ac⟩
 rw[mS]
 refine ba e7 (ba Y (ba e9 (df (qq (af rfl) rfl (af rfl) rfl (by simp;omega) ?_))))
 rw[UJ];rfl
theorem Mt(c:Int){n:Nat}(w:Bool)(hn:n<=100):∃l:List Int,kC [.int c,.int (n:Int),.bl w] []=.ok (.ptr 0,[.lst (l.map D.int)])/\l.length=n/\SzL 50 l:=by
 obtain⟨J,hsp,s0,s1⟩:∃J:Int,(if w=true then 2000000000001 else 7)=J/\7<=J/\J<=2000000000001:=⟨_,rfl,by split <;> decide,by split <;> decide⟩
 have e5:setM 5 (ak ixD (oE (ae (aq (.int 7)) (ae (ak bI (ak dJ (aq (.int 2)) (ak j6 (aq (.int 10)) (aq (.int 12)))) (aq (.int 1))) ao))) (bE intOf (ae (aa 2) ao))) ⟨[some (.int c),some (.int (n:Int)),some (.bl w),some (.ptr 0),some (.int (c/2)),none,none,none],[.lst []]⟩=.next ⟨moR c n w (c/2) J none none,[.lst []]⟩:=by
  refine bG (aK (AN (aA (aD _ _) (aA (aK (aK (aD _ _) (aK (aD _ _) (aD _ _) zx) (dN (fD (.inl (by decide))))) (aD _ _) (cj _ _)) (aE _))) (by simp)) (eI (aA (af rfl) (aE _)) (Bi _)) ?_) rfl
  subst hsp
  cases w <;> rfl
 obtain⟨s',el,l,rest,Y,U,hl,hz,ab⟩:=eZ (ok:=okC (dP 0 (n:Int)) none) (g:=aG 6) (body:=mS)
  (λpre s=>∃(l:List Int) (rest:Int) (Y U:Option D),l.length=pre.length/\SzL 50 l/\s=⟨moR c n w rest J Y U,[.lst (l.map D.int)]⟩) (λ_ _ _=>trivial) (dP 0 (n:Int)) [] (by
   rintro pre d rest ed s ⟨l,r,Y,U,h1,h2,rfl⟩
   rw[Uw,fv] at ed
   obtain⟨rfl,as⟩:=nZ ed
   obtain⟨v,r',eb,zv⟩:=HY (c:=c) (n:=n) (k:=pre.length) (w:=w) (rest:=r) (span:=J) (l:=l) (x7:=U) s0 s1 (by omega)
   refine⟨_,_,rfl,.inl eb,l++[v],r',_,_,by simp[h1],λz hz=> ?_,rfl⟩
   rcases Uj.mp hz with q | q
   ·exact h2 z q
   ·rw[Ul.mp q];exact zv) ⟨moR c n w (c/2) J none none,[.lst []]⟩ ⟨[],_,none,none,rfl,(λ_ h=>by cases h),rfl⟩
 rw[Uw,hJ] at hl
 refine⟨l, ?_,by omega,hz⟩
 refine dD (R:=moR c n w rest J Y U) ?_
 show m5 ⟨[some (.int c),some (.int (n:Int)),some (.bl w),none,none,none,none,none],[]⟩=_
 rw[m5]
 refine ba (bG (pJ (aE _) (by simp) rfl rfl) rfl) (ba (bG (aK (af rfl) (aD _ _) (qd (by decide))) rfl) (ba e5 (ba ?_ (bD (af rfl)))))
 exact(dU (ds:=dP 0 (n:Int)) (k:=none) (s1:=⟨moR c n w (c/2) J none none,[.lst []]⟩) (dY (n:=n) (aA (af rfl) (aE _)) (by omega))).trans (el.trans (by rw[ab]))
theorem BW{J U:EM}{s s1 s2:S}{i j:Int}(h1:J s=.ok (.int i,s1))(h2:U s1=.ok (.int j,s2)):bE nP (ae J (ae U ao)) s=.ok (.int (max i j),s2):=by
 refine eI (aA h1 (aA h2 (aE _))) ?_
 show Res.ok (D.int (if j>i then j else i))=_
 congr 2
 split <;> omega
abbrev weR(c:Int)(n:Nat)(lo rest:Int)(x5 x6:Option D):List (Option D):=[some (.int c),some (.int (n:Int)),some (.int lo),some (.ptr 0),some (.int rest),x5,x6]
theorem AO{c:Int}{n k:Nat}{lo rest:Int}{l:List Int}{x6:Option D}(Y:Sz 40 lo)(hl:l.length<=1000):
 ∃(v J:Int) (y6:Option D),iy ⟨weR c n lo rest (some (.int (k:Int))) x6,[.lst (l.map D.int)]⟩=.next ⟨weR c n lo J (some (.int (k:Int))) y6,[.lst ((l++[v]).map D.int)]⟩/\Sz 40 v/\lo<=v:=by
 have p0:=ji (c:=c) (t:=100+(k:Int)) (m:=7) (by decide)
 have p1:=md (c:=c) (t:=100+(k:Int)) (m:=7) (by decide)
 have e6:setM 6 (ak iC (aO 3 aL (ae (aa 0) (ae (ak bI (aq (.int 100)) (aa 5)) (ae (aq (.int 7)) ao)))) (aq (.int 3))) ⟨weR c n lo rest (some (.int (k:Int))) x6,[.lst (l.map D.int)]⟩=.next ⟨weR c n lo rest (some (.int (k:Int))) (some (.int (cA c (100+(k:Int)) 7-3))),[.lst (l.map D.int)]⟩:=bG (aK (fF (af rfl) (aK (aD _ _) (af rfl) (cj _ _)) (aD _ _) (by decide)) (aD _ _) (lW _ _)) rfl
 generalize cA c (100+(k:Int)) 7=p at e6 p0 p1
 have m0:0<=c%1000000000:=Vp _ (by decide)
 have m1:c%1000000000<1000000000:=U7 _ (by decide)
 have e8:∃v,ifS (bj (ak eqD (aO 3 aL (ae (aa 0) (ae (aq (.int 110)) (ae (aq (.int 6)) ao)))) (aq (.int 0)))) (setM 6 (ak dJ (aa 6) (ak fE (aa 0) (ak j6 (aq (.int 10)) (aq (.int 9)))))) cf ⟨weR c n lo rest (some (.int (k:Int))) (some (.int (p-3))),[.lst (l.map D.int)]⟩=.next ⟨weR c n lo rest (some (.int (k:Int))) (some (.int v)),[.lst (l.map D.int)]⟩/\Sz 40 v:=by
  have t:=eq_test (j:=0) (fF (s:=⟨weR c n lo rest (some (.int (k:Int))) (some (.int (p-3))),[.lst (l.map D.int)]⟩) (ma:=aa 0) (mb:=aq (.int 110)) (mc:=aq (.int 6)) (af rfl) (aD _ _) (aD _ _) (by decide))
  cases hb:decide (cA c 110 6=0) with
  | true=>
   refine⟨(p-3)*(c%1000000000),jg t hb (bG (aK (af rfl) (aK (af rfl) (aK (aD _ _) (aD _ _) IJ) (fk (by decide))) (dN (fD (.inl (by omega))))) rfl), ?_⟩
   generalize c%1000000000=m at m0 m1
   have hp:p=0\/p=1\/p=2\/p=3\/p=4\/p=5\/p=6:=by omega
   unfold Sz
   rcases hp with rfl | rfl | rfl | rfl | rfl | rfl | rfl <;> omega
  | false=>exact⟨p-3,gs t hb (dC _),by unfold Sz;omega⟩
 obtain⟨v,e8,zv⟩:=e8
 have e9:∃U J,ifS (qa (bj (ak eqD (ak fE (aa 0) (aq (.int 2))) (aq (.int 1)))) (bj (ak gtD (aa 4) (aq (.int 0))))) (aP (setM 6 (ak iC (ak fE (aa 4) (aq (.int 7))) (aq (.int 3)))) (setM 4 (ak hZ (aa 4) (aq (.int 7))))) cf ⟨weR c n lo rest (some (.int (k:Int))) (some (.int v)),[.lst (l.map D.int)]⟩=.next ⟨weR c n lo J (some (.int (k:Int))) (some (.int U)),[.lst (l.map D.int)]⟩/\Sz 40 U:=by
  have t1:bj (ak eqD (ak fE (aa 0) (aq (.int 2))) (aq (.int 1))) ⟨weR c n lo rest (some (.int (k:Int))) (some (.int v)),[.lst (l.map D.int)]⟩=.ok (decide (c%2=1),⟨weR c n lo rest (some (.int (k:Int))) (some (.int v)),[.lst (l.map D.int)]⟩):=eq_test (aK (af rfl) (aD _ _) (fk (by decide)))
  have t2:bj (ak gtD (aa 4) (aq (.int 0))) ⟨weR c n lo rest (some (.int (k:Int))) (some (.int v)),[.lst (l.map D.int)]⟩=.ok (decide (0<rest),⟨weR c n lo rest (some (.int (k:Int))) (some (.int v)),[.lst (l.map D.int)]⟩):=iO (af rfl)
  have ta:=vc t1 t2
  cases hb:(decide (c%2=1)&&decide (0<rest)) with
  | true=>exact⟨rest%7-3,rest/7,jg ta hb (ba (bG (aK (aK (af rfl) (aD _ _) (fk (by decide))) (aD _ _) (lW _ _)) rfl) (bG (aK (af rfl) (aD _ _) (qd (by decide))) rfl)),by unfold Sz;omega⟩
  | false=>exact⟨v,rest,gs ta hb (dC _),zv⟩
 obtain⟨U,J,e9,am⟩:=e9
 refine⟨max U lo,J,some (.int U), ?_, ?_,by omega⟩
 ·rw[iy]
  refine ba e6 (ba e8 (ba e9 (df (qq (af rfl) rfl (BW (af rfl) (af rfl)) rfl (by simp;omega) ?_))))
  rw[UJ];rfl
 ·have q:max U lo=U\/max U lo=lo:=by omega
  rcases q with q | q
  ·rw[q];exact am
  ·rw[q];exact Y
theorem Eg(c:Int){n:Nat}{lo:Int}(hn:n<=100)(ab:Sz 40 lo):∃(ws:List Int) (O:aB),gj [.int c,.int (n:Int),.int lo] []=.ok (vI ws,O)/\ws.length=n/\SzL 40 ws/\(0<n->1∈ws)/\(0<=lo->lo<=1->∀a∈ws,0<=a):=by
 obtain⟨s',el,l,rest,U,J,Y,hz,hm,ac⟩:=eZ (ok:=okC (dP 0 (n:Int)) none) (g:=aG 5) (body:=iy)
  (λpre s=>∃(l:List Int) (rest:Int) (U J:Option D),l.length=pre.length/\SzL 40 l/\(∀a∈l,lo<=a)/\s=⟨weR c n lo rest U J,[.lst (l.map D.int)]⟩) (λ_ _ _=>trivial) (dP 0 (n:Int)) [] (by
   rintro pre d rest ed s ⟨l,r,U,J,h1,h2,h3,rfl⟩
   rw[Uw,fv] at ed
   obtain⟨rfl,a0⟩:=nZ ed
   obtain⟨v,r',y6,eb,zv,lv⟩:=AO (c:=c) (n:=n) (k:=pre.length) (lo:=lo) (rest:=r) (l:=l) (x6:=J) ab (by omega)
   refine⟨_,_,rfl,.inl eb,l++[v],r',_,_,by simp[h1],λz hz=> ?_,λz hz=> ?_,rfl⟩
   ·rcases Uj.mp hz with q | q
    ·exact h2 z q
    ·rw[Ul.mp q];exact zv
   ·rcases Uj.mp hz with q | q
    ·exact h3 z q
    ·rw[Ul.mp q];exact lv) ⟨weR c n lo (c/2) none none,[.lst []]⟩ ⟨[],_,none,none,rfl,(λ_ h=>by cases h),(λ_ h=>by cases h),rfl⟩
 rw[Uw,hJ] at Y
 have Y:l.length=n:=by omega
 have hf:fM (dM (ae (aa 1) ao)) (aG 5) iy ⟨weR c n lo (c/2) none none,[.lst []]⟩=.next ⟨weR c n lo rest U J,[.lst (l.map D.int)]⟩:=(dU (ds:=dP 0 (n:Int)) (k:=none) (s1:=⟨weR c n lo (c/2) none none,[.lst []]⟩) (dY (n:=n) (aA (af rfl) (aE _)) (by omega))).trans (el.trans (by rw[ac]))
 have ep:∃ws:List Int,ifS (bj (ak gtD (aa 1) (aq (.int 0)))) (kS (aq (.int 1)) (oC (aa 3) (aO 3 aL (ae (aa 0) (ae (aq (.int 111)) (ae (aa 1) ao)))))) cf ⟨weR c n lo rest U J,[.lst (l.map D.int)]⟩=.next ⟨weR c n lo rest U J,[.lst (ws.map D.int)]⟩/\ws.length=n/\SzL 40 ws/\(0<n->1∈ws)/\(0<=lo->lo<=1->∀a∈ws,0<=a):=by
  have t:bj (ak gtD (aa 1) (aq (.int 0))) ⟨weR c n lo rest U J,[.lst (l.map D.int)]⟩=.ok (decide ((0:Int)<(n:Int)),⟨weR c n lo rest U J,[.lst (l.map D.int)]⟩):=iO (af rfl)
  by_cases h:0<n
  ·obtain⟨a,ha,an⟩:=n4 c 111 h
   refine⟨l.set a 1,jg t (decide_eq_true (by omega)) (KD (aD _ _) ?_),by rw[Wp];exact Y,λx hx=> ?_,λ_=>UF (i:=a) (by rw[UU (by omega)]),λl0 _ x hx=> ?_⟩
   ·rw[W5]
    refine r8 (k:=0) (a:=a) (ds:=l.map D.int) (s1:=⟨weR c n lo rest U J,[.lst (l.map D.int)]⟩) (s2:=⟨weR c n lo rest U J,[.lst (l.map D.int)]⟩) (af rfl) ?_ rfl (by simp;omega)
    rw[<- ha]
    exact fF (af rfl) (aD _ _) (af rfl) (by omega)
   ·rcases VG hx with z | rfl
    ·exact hz x z
    ·unfold Sz;decide
   ·rcases VG hx with z | rfl
    ·have:=hm x z;omega
    ·decide
  ·exact⟨l,gs t (decide_eq_false (by omega)) (dC _),Y,hz,λq=>absurd q h,λl0 _ x hx=>by have:=hm x hx;omega⟩
 obtain⟨ws,ep,w1,w2,w3,w4⟩:=ep
 refine⟨ws,[.dead], ?_,w1,w2,w3,w4⟩
 refine dD (R:=weR c n lo rest U J) ?_
 show jr ⟨[some (.int c),some (.int (n:Int)),some (.int lo),none,none,none,none],[]⟩=_
 rw[jr]
 exact ba (bG (pJ (aE _) (by simp) rfl rfl) rfl) (ba (bG (aK (af rfl) (aD _ _) (qd (by decide))) rfl) (ba hf (ba ep (bD (nW (af rfl) rfl rfl)))))
theorem qu:∀(a b:List Int),a.length=b.length->((T9 b.length).map λk=>nth a k*nth b k).sum=ay a b
 | [],[],_=>rfl
 | x::a,y::b,h=>by
  have J:=qu a b (by simpa using h)
  rw[Uq,Wc,Uk,Uh,U9]
  show x*y+((T9 b.length).map λk=>nth a k*nth b k).sum=(x*y::UO (· * ·) a b).sum
  rw[J,U9]
  rfl
theorem D3:∀(w l:List Int) (a:Nat) (v:Int),a<w.length->a<l.length->ay w (l.set a v)=ay w l+nth w a*(v-nth l a)
 | x::w,y::l,0,v,_,_=>by
  show (x*v::UO (· * ·) w l).sum=(x*y::UO (· * ·) w l).sum+x*(v-y)
  rw[U9,U9,Int.mul_sub]
  omega
 | x::w,y::l,a+1,v,h1,h2=>by
  have J:=D3 w l a v (by simpa using h1) (by simpa using h2)
  show (x*y::UO (· * ·) w (l.set a v)).sum=(x*y::UO (· * ·) w l).sum+nth w a*(v-nth l a)
  rw[U9,U9,show (UO (· * ·) w (l.set a v)).sum=ay w (l.set a v) from rfl,J]
  show x*y+(ay w l+_)=x*y+ay w l+_
  omega
structure wW(n:Nat)(ws l:List Int):Prop where
 len:l.length=n
 sz:SzL 110 l
 dot:ay ws l=0
abbrev keR(ns:List Int)(b:Nat)(ws:List Int)(hd:Int)(n:Nat)(w:Bool)(x7 x8 x9 x10:Option D):List (Option D):=[some (vI ns),some (.int (b:Int)),some (vI ws),some (.int hd),some (.int (n:Int)),some (.ptr 0),some (.bl w),x7,x8,x9,x10]
theorem Gj{ns ws:List Int}{b n k:Nat}{hd:Int}{w:Bool}{A:List (List Int)}{O:aB}{x8 x9 x10:Option D}(wl:ws.length=n)(hn:n<=100)(wz:SzL 40 ws)(w1:0<n->1∈ws)(hO:O[0]? =some (.lst (A.map vI)))(al:A.length<=1000):
 ∃l O' y8 y9 Y,jX ⟨keR ns b ws hd n w (some (.int (k:Int))) x8 x9 x10,O⟩=.next ⟨keR ns b ws hd n w (some (.int (k:Int))) y8 y9 Y,O'⟩/\O'[0]? =some (.lst ((A++[l]).map vI))/\wW n ws l:=by
 obtain⟨c,ec,_⟩:=uX ns (b+1+k)
 have hc:aO 2 cP (ae (aa 0) (ae (ak bI (ak bI (aa 1) (aq (.int 1))) (aa 7)) ao)) ⟨keR ns b ws hd n w (some (.int (k:Int))) x8 x9 x10,O⟩=.ok (.int c,⟨keR ns b ws hd n w (some (.int (k:Int))) x8 x9 x10,O⟩):=by
  refine ey (O1:=[]) (aA (af rfl) (aA (aK (aK (af rfl) (aD _ _) (cj _ _)) (af rfl) (cj _ _)) (aE _))) ?_ (by simp) rfl rfl
  rw[show (b:Int)+1+(k:Int)=((b+1+k:Nat):Int) by omega]
  exact ec
 obtain⟨l,em,ll,lz⟩:=Mt (c+13*(k:Int)) w hn
 have e8:setM 8 (gn 3 kC (ae (ak bI (aO 2 cP (ae (aa 0) (ae (ak bI (ak bI (aa 1) (aq (.int 1))) (aa 7)) ao))) (ak dJ (aq (.int 13)) (aa 7))) (ae (aa 4) (ae (aa 6) ao)))) ⟨keR ns b ws hd n w (some (.int (k:Int))) x8 x9 x10,O⟩=.next ⟨keR ns b ws hd n w (some (.int (k:Int))) (some (.ptr O.length)) x9 x10,O++[.lst (l.map D.int)]⟩:=by
  refine bG (kB (aA (aK hc (aK (aD _ _) (af rfl) (dN (fD (.inl (by decide))))) (cj _ _)) (aA (af rfl) (aA (af rfl) (aE _)))) em rfl rfl (gz _ _) ?_) rfl
  simp only[Uk,U1,qT,ou]
 have ab:O.length≠0:=by have:=pV hO;omega
 have c8:(O++[Cell.lst (l.map D.int)])[O.length]? =some (.lst (l.map D.int)):=fW
 have g8:(O++[Cell.lst (l.map D.int)])[0]? =some (.lst (A.map vI)):=cD hO
 generalize O++[Cell.lst (l.map D.int)]=U at e8 c8 g8
 generalize O.length=J at e8 c8 ab
 have e9:∃l' O2 y9 Y,ifS (bj (ak gtD (aa 4) (aq (.int 0)))) (aP (setM 9 (rg (aa 2) (aq (.int 1)))) (aP (setM 10 (bE pN (ae (bZ 1 [8,2] (dM (ae (aa 4) ao)) (aG 0) cg (ak dJ (ak ixD (aa 2) (aa 0)) (ak ixD (aa 1) (aa 0)))) ao))) (kS (ak iC (ak ixD (aa 8) (aa 9)) (aa 10)) (oC (aa 8) (aa 9))))) cf ⟨keR ns b ws hd n w (some (.int (k:Int))) (some (.ptr J)) x9 x10,U⟩=.next ⟨keR ns b ws hd n w (some (.int (k:Int))) (some (.ptr J)) y9 Y,O2⟩/\O2[J]? =some (.lst (l'.map D.int))/\O2[0]? =some (.lst (A.map vI))/\wW n ws l':=by
  have t:bj (ak gtD (aa 4) (aq (.int 0))) ⟨keR ns b ws hd n w (some (.int (k:Int))) (some (.ptr J)) x9 x10,U⟩=.ok (decide ((0:Int)<(n:Int)),⟨keR ns b ws hd n w (some (.int (k:Int))) (some (.ptr J)) x9 x10,U⟩):=iO (af rfl)
  by_cases h:0<n
  ·have m1:=w1 h
   have ia:ws.idxOf 1<ws.length:=WI m1
   have iv:nth ws (ws.idxOf 1)=1:=by
    unfold nth
    rw[Fm,T7 ia,Xx ia];rfl
   have s1:=bG (i:=9) (Iw (s:=⟨keR ns b ws hd n w (some (.int (k:Int))) (some (.ptr J)) x9 x10,U⟩) (mo:=aa 2) (me:=aq (.int 1)) (af rfl) (aD _ _) m1) (R':=keR ns b ws hd n w (some (.int (k:Int))) (some (.ptr J)) (some (.int ((ws.idxOf 1:Nat):Int))) x10) rfl
   generalize ws.idxOf 1=a at s1 ia iv
   have as:=d3 (l:=T9 n) (item:=λi:Nat=>D.int (i:Int)) (out:=λi=>.int (nth ws i*nth l i)) (caps:=[8,2]) (im:=dM (ae (aa 4) ao)) (e:=ak dJ (ak ixD (aa 2) (aa 0)) (ak ixD (aa 1) (aa 0))) (k:=none) (s:=⟨keR ns b ws hd n w (some (.int (k:Int))) (some (.ptr J)) (some (.int (a:Int))) x10,U⟩) (by
    rw[<- fv]
    exact dY (aA (af rfl) (aE _)) (by omega)) trivial (by simp;omega) (λi hi=>by
     have a5:=UD.mp hi
     have ex:ixD U (.ptr J) (.int (i:Int))=.ok (.int (nth l i)):=by
      refine Ba c8 ?_
      rw[nH (by simp;omega)]
      simp[nth,Fm,ll,a5]
     have ew:IntMulOk (nth ws i) (nth l i):=jY (m:=40) (n:=50) (by decide) (by decide) (wz.nth _) (lz.nth _)
     exact aK (aK (af rfl) (af rfl) (ni (by omega))) (aK (af rfl) (af rfl) ex) (dN ew))
   rw[show (T9 n).map (λi=>D.int (nth ws i*nth l i))=((T9 n).map λi=>nth ws i*nth l i).map D.int by rw[Uh];rfl] at as
   have hs:((T9 n).map λi=>nth ws i*nth l i).sum=ay ws l:=by
    have:=qu ws l (by omega)
    rw[ll] at this
    exact this
   have az:=eI (f:=pN) (aA as (aE _)) (n8 _ _)
   rw[hs] at az
   have s2:=bG (i:=10) (R':=keR ns b ws hd n w (some (.int (k:Int))) (some (.ptr J)) (some (.int (a:Int))) (some (.int (ay ws l)))) az rfl
   have dz:Sz 100 (ay ws l):=(pU (b:=50) (c:=40) wz lz (by omega)).mono (by decide)
   have s3:kS (ak iC (ak ixD (aa 8) (aa 9)) (aa 10)) (oC (aa 8) (aa 9)) ⟨keR ns b ws hd n w (some (.int (k:Int))) (some (.ptr J)) (some (.int (a:Int))) (some (.int (ay ws l))),U⟩=.next ⟨keR ns b ws hd n w (some (.int (k:Int))) (some (.ptr J)) (some (.int (a:Int))) (some (.int (ay ws l))),U.set J (.lst ((l.set a (nth l a-ay ws l)).map D.int))⟩:=by
    have ev:ak iC (ak ixD (aa 8) (aa 9)) (aa 10) ⟨keR ns b ws hd n w (some (.int (k:Int))) (some (.ptr J)) (some (.int (a:Int))) (some (.int (ay ws l))),U⟩=.ok (.int (nth l a-ay ws l),⟨keR ns b ws hd n w (some (.int (k:Int))) (some (.ptr J)) (some (.int (a:Int))) (some (.int (ay ws l))),U⟩):=by
     have ex:ixD U (.ptr J) (.int (a:Int))=.ok (.int (nth l a)):=by
      refine Ba c8 ?_
      rw[nH (by simp;omega)]
      simp[nth,Fm,show a<l.length by omega]
     exact aK (aK (af rfl) (af rfl) ex) (af rfl) (lW _ _)
    refine KD ev ?_
    rw[W5]
    exact r8 (k:=J) (a:=a) (ds:=l.map D.int) (s1:=⟨keR ns b ws hd n w (some (.int (k:Int))) (some (.ptr J)) (some (.int (a:Int))) (some (.int (ay ws l))),U⟩) (s2:=⟨keR ns b ws hd n w (some (.int (k:Int))) (some (.ptr J)) (some (.int (a:Int))) (some (.int (ay ws l))),U⟩) (af rfl) (af rfl) c8 (by simp;omega)
   have sz:∀x∈l.set a (nth l a-ay ws l),Sz 110 x:=λx hx=>by
    rcases VG hx with z | rfl
    ·exact(lz x z).mono (by decide)
    ·exact(Sz.sub (lz _ (uJ (by omega))) dz).mono (by decide)
   have dt:ay ws (l.set a (nth l a-ay ws l))=0:=by
    rw[D3 _ _ _ _ (by omega) (by omega),iv]
    omega
   have lt:(l.set a (nth l a-ay ws l)).length=n:=by rw[Wp];exact ll
   generalize l.set a (nth l a-ay ws l)=l' at s3 sz dt lt
   have c9:(U.set J (.lst (l'.map D.int)))[J]? =some (.lst (l'.map D.int)):=ic c8
   have g9:(U.set J (.lst (l'.map D.int)))[0]? =some (.lst (A.map vI)):=by rw[da ab];exact g8
   exact⟨l',U.set J (.lst (l'.map D.int)),some (.int (a:Int)),some (.int (ay ws l)),jg t (decide_eq_true (by omega)) (ba s1 (ba s2 s3)),c9,g9,⟨lt,sz,dt⟩⟩
  ·have n0:n=0:=by omega
   refine⟨l,U,x9,x10,gs t (decide_eq_false (by omega)) (dC _),c8,g8,⟨ll,lz.mono (by decide), ?_⟩⟩
   cases l with
   | nil=>unfold ay;cases ws <;> rfl
   | cons x l=>rw[n0] at ll;cases ll
 obtain⟨l',O2,y9,Y,e9,c9,g9,kp⟩:=e9
 refine⟨l',(O2.set J .dead).set 0 (.lst (A.map vI++[vI l'])),some (.ptr J),y9,Y, ?_,(by rw[UJ];exact ic (c':=.lst (A.map vI)) (by rw[da ab];exact g9)),kp⟩
 rw[jX]
 exact ba e8 (ba e9 (df (qq (af rfl) g9 (nW (af rfl) c9 rfl) (by rw[da ab];exact g9) (by simp;omega) rfl)))
theorem K0(ns:List Int)(b:Nat){ws:List Int}{n:Nat}(wl:ws.length=n)(hn:n<=100)(wz:SzL 40 ws)(w1:0<n->1∈ws):∃(A:List (List Int)) (O:aB),gh [vI ns,.int (b:Int),vI ws] []=.ok (vII A,O)/\A.length<=5/\∀l∈A,wW n ws l:=by
 obtain⟨hd,eh,_⟩:=uX ns b
 have e3:setM 3 (aO 2 cP (ae (aa 0) (ae (aa 1) ao))) ⟨[some (vI ns),some (.int (b:Int)),some (vI ws),none,none,none,none,none,none,none,none],[]⟩=.next ⟨[some (vI ns),some (.int (b:Int)),some (vI ws),some (.int hd),none,none,none,none,none,none,none],[]⟩:=bG (ey (aA (af rfl) (aA (af rfl) (aE _))) eh (by simp) rfl rfl) rfl
 have e4:setM 4 (bE cL (ae (aa 2) ao)) ⟨[some (vI ns),some (.int (b:Int)),some (vI ws),some (.int hd),none,none,none,none,none,none,none],[]⟩=.next ⟨[some (vI ns),some (.int (b:Int)),some (vI ws),some (.int hd),some (.int (n:Int)),none,none,none,none,none,none],[]⟩:=by
  refine bG (eI (aA (af rfl) (aE _)) (dB _)) ?_
  rw[T3,wl];rfl
 have e6:setM 6 (ak eqD (aO 3 aL (ae (aa 3) (ae (aq (.int 41)) (ae (aq (.int 6)) ao)))) (aq (.int 0))) ⟨[some (vI ns),some (.int (b:Int)),some (vI ws),some (.int hd),some (.int (n:Int)),some (.ptr 0),none,none,none,none,none],[.lst []]⟩=.next ⟨keR ns b ws hd n (decide (cA hd 41 6=0)) none none none none,[.lst []]⟩:=bG (aK (fF (af rfl) (aD _ _) (aD _ _) (by decide)) (aD _ _) (pk _ _)) rfl
 generalize decide (cA hd 41 6=0)=w at e6
 obtain⟨cnt,hcnt,c5⟩:∃cnt:Nat,cA hd 40 6%(6-2*(if w=true then 1 else 0))=(cnt:Int)/\cnt<=5:=by
  have h0:(0:Int)<6-2*(if w=true then 1 else 0):=by split <;> decide
  have h6:(6:Int)-2*(if w=true then 1 else 0)<=6:=by split <;> decide
  generalize (6:Int)-2*(if w=true then 1 else 0)=m at h0 h6
  have r0:=Vp (cA hd 40 6) (show m≠0 by omega)
  have r1:=U7 (cA hd 40 6) h0
  exact⟨(cA hd 40 6%m).toNat,by omega,by omega⟩
 obtain⟨s',el,A,O,x7,U,Y,J,hl,hk,hO,ac⟩:=eZ (ok:=okC (dP 0 (cnt:Int)) none) (g:=aG 7) (body:=jX)
  (λpre s=>∃(A:List (List Int)) (O:aB) (x7 U Y J:Option D),A.length=pre.length/\(∀l∈A,wW n ws l)/\O[0]? =some (.lst (A.map vI))/\s=⟨keR ns b ws hd n w x7 U Y J,O⟩) (λ_ _ _=>trivial) (dP 0 (cnt:Int)) [] (by
   rintro pre d rest ed s ⟨A,O,x7,U,Y,J,h1,h2,h3,rfl⟩
   rw[Uw,fv] at ed
   obtain⟨rfl,a8⟩:=nZ ed
   obtain⟨l,O',y8,y9,a9,eb,am,kp⟩:=Gj (ns:=ns) (b:=b) (k:=pre.length) (hd:=hd) (w:=w) (x8:=U) (x9:=Y) (x10:=J) wl hn wz w1 h3 (by omega)
   refine⟨_,_,rfl,.inl eb,A++[l],O',_,_,_,_,by simp[h1],λz hz=> ?_,am,rfl⟩
   rcases Uj.mp hz with q | q
   ·exact h2 z q
   ·rw[Ul.mp q];exact kp) ⟨keR ns b ws hd n w none none none none,[.lst []]⟩ ⟨[],[.lst []],none,none,none,none,rfl,(λ_ h=>by cases h),rfl,rfl⟩
 rw[Uw,hJ] at hl
 refine⟨A,O.set 0 .dead, ?_,by omega,hk⟩
 refine dD (R:=keR ns b ws hd n w x7 U Y J) ?_
 show jA ⟨[some (vI ns),some (.int (b:Int)),some (vI ws),none,none,none,none,none,none,none,none],[]⟩=_
 rw[jA]
 refine ba e3 (ba e4 (ba (bG (pJ (aE _) (by simp) rfl rfl) rfl) (ba e6 (ba ?_ (bD (nW (af rfl) hO rfl))))))
 refine(dU (ds:=dP 0 (cnt:Int)) (k:=none) (s1:=⟨keR ns b ws hd n w none none none none,[.lst []]⟩) (dY (n:=cnt) ?_ (by omega))).trans (el.trans (by rw[ac]))
 rw[<- hcnt]
 refine aA (aK (fF (af rfl) (aD _ _) (aD _ _) (by decide)) (aK (aD _ _) (aK (aD _ _) (eI (aA (af rfl) (aE _)) (Bi _)) (dN (fD (.inl (by decide))))) (lW _ _)) (fk ?_)) (aE _)
 split <;> decide
def qy(l:List (Str×Int))(g:Str)(a:Int):List (Str×Int):=if 0<a then l++[(g,a)] else l
theorem qs(h:Str)(l r:List (Str×Int)):sumOf h (l++r)=sumOf h l+sumOf h r:=by
 unfold sumOf
 rw[List.filter_append,UJ,X1]
theorem HK(h:Str)(l:List (Str×Int)):sumOf h l.reverse=sumOf h l:=by
 induction l with
 | nil=>rfl
 | cons p l J=>
  rw[VT,qs,J,show p::l=[p]++l from rfl,qs,Int.add_comm]
theorem zb(h g:Str)(a:Int):sumOf h [(g,a)]=if g=h then a else 0:=by
 unfold sumOf
 by_cases e:g=h
 ·rw[if_pos e,UC (by simpa using e)];simp
 ·rw[if_neg e,UN (by simpa using e)];rfl
theorem HN{h:Str}{l:List (Str×Int)}(e:∀p∈l,p.1≠h):sumOf h l=0:=by
 unfold sumOf
 rw[Xf.mpr (λp hp=>by simpa using e p hp)]
 rfl
theorem DS{goods:List Str}(J:goods.Nodup){i:Nat}(hi:i<goods.length){l:List (Str×Int)}(h:Pt goods i l)(a:Int):Pt goods (i+1) (qy l goods[i] a):=by
 unfold qy
 split
 ·exact h.more J hi (by omega)
 ·exact h.same
theorem zL{goods:List Str}(J:goods.Nodup){i:Nat}(hi:i<goods.length){l:List (Str×Int)}(h:Pt goods i l){a:Int}(ha:0<=a):sumOf goods[i] (qy l goods[i] a)=a:=by
 have z:sumOf goods[i] l=0:=HN λp hp e=>by
  have:=h.mem p hp
  rw[e] at this
  exact kA J hi this
 unfold qy
 split
 ·rw[qs,z,zb,if_pos rfl,Int.zero_add]
 ·rw[z];omega
theorem xM{goods:List Str}(J:goods.Nodup){i j:Nat}(hi:i<goods.length)(U:j<i)(l:List (Str×Int))(a:Int):sumOf (goods[j]'(by omega)) (qy l goods[i] a)=sumOf (goods[j]'(by omega)) l:=by
 have ne:goods[i]≠goods[j]'(by omega):=λe=>by
  have:goods[j]'(by omega)∈goods.take i:=UF (i:=j) (by rw[WT U,T7 (by omega)])
  exact kA J hi (by rw[e];exact this)
 unfold qy
 split
 ·rw[qs,zb,if_neg ne,Int.add_zero]
 ·rfl
structure WkI(goods:List Str)(mv:List Int)(i:Nat)(us ms:List (Str×Int)):Prop where
 u:Pt goods i us
 m:Pt goods i ms
 s:∀j,(hj:j<goods.length)->j<i->sumOf goods[j] ms-sumOf goods[j] us=nth mv j
abbrev woR(A:List (List Int))(goods zs:List Str)(c:Int)(x5 x6 x7 x8 x9 x10 x11:Option D):List (Option D):=[some (vII A),some (sD goods),some (sD zs),some (.int c),some (.ptr 0),x5,x6,x7,x8,x9,x10,x11]
theorem Fp{O:aB}{l:List Str}{i:Nat}(h:i<l.length):ixD O (sD l) (.int (i:Int))=.ok (.str l[i]):=by
 refine o9 ?_
 rw[nH (by simpa using h)]
 simp
theorem BH{R:List (Option D)}{O:aB}{goods:List Str}{J slot i:Nat}{l:List (Str×Int)}{me:EM}{a:Int}(hi:i<goods.length)(h1:R[1]? =some (some (sD goods)))(h9:R[9]? =some (some (.int (i:Int))))(hs:R[slot]? =some (some (.ptr J)))(U:O[J]? =some (.lst (l.map pD)))(hl:l.length<=1000)(Y:me ⟨R,O⟩=.ok (.int a,⟨R,O⟩)):
 ∃O',ifS (bj (ak gtD me (aq (.int 0)))) (eH (lX (aa slot) (tq (ae (ak ixD (aa 1) (aa 9)) (ae me ao))))) cf ⟨R,O⟩=.next ⟨R,O'⟩/\O'[J]? =some (.lst ((qy l goods[i] a).map pD))/\∀q,q≠J->O'[q]? =O[q]? :=by
 have t:=iO (j:=0) Y
 unfold qy
 by_cases h:0<a
 ·rw[if_pos h]
  refine⟨O.set J (.lst (l.map pD++[pD (goods[i],a)])),jg t (decide_eq_true h) (df (qq (af hs) U (FD (aA (aK (af h1) (af h9) (Fp hi)) (aA Y (aE _))) (by simp)) U (by simp;omega) rfl)),by rw[ic U,UJ];rfl,λq hq=>da λz=>hq z.symm⟩
 ·rw[if_neg h]
  exact⟨O,gs t (decide_eq_false h) (dC _),U,λ_ _=>rfl⟩
theorem LO{A:List (List Int)}{goods zs:List Str}{c v:Int}{k i ku km:Nat}{mv:List Int}{us ms:List (Str×Int)}{O:aB}{x11:Option D}(J:goods.Nodup)(hi:i<goods.length)(hg:goods.length<=100)(hv:nth mv i=v)(U:ku≠km)(h:WkI goods mv i us ms)(hu:O[ku]? =some (.lst (us.map pD)))(hm:O[km]? =some (.lst (ms.map pD))):
 ∃Y ab O' am,jC ⟨woR A goods zs c (some (.int (k:Int))) (some (vI mv)) (some (.ptr ku)) (some (.ptr km)) (some (.int (i:Int))) (some (.int v)) x11,O⟩=.next ⟨woR A goods zs c (some (.int (k:Int))) (some (vI mv)) (some (.ptr ku)) (some (.ptr km)) (some (.int (i:Int))) (some (.int v)) am,O'⟩/\WkI goods mv (i+1) Y ab/\O'[ku]? =some (.lst (Y.map pD))/\O'[km]? =some (.lst (ab.map pD))/\∀q,q≠ku->q≠km->O'[q]? =O[q]? :=by
 have p0:=ji (c:=c+(k:Int)) (t:=70+(i:Int)) (m:=4) (by decide)
 have q0:=ji (c:=c+(k:Int)) (t:=80+(i:Int)) (m:=9) (by decide)
 have p1:=md (c:=c+(k:Int)) (t:=70+(i:Int)) (m:=4) (by decide)
 have ac:setM 11 (ak dJ (ak hZ (aO 3 aL (ae (ak bI (aa 3) (aa 5)) (ae (ak bI (aq (.int 70)) (aa 9)) (ae (aq (.int 4)) ao)))) (aq (.int 3))) (ak bI (aq (.int 1)) (aO 3 aL (ae (ak bI (aa 3) (aa 5)) (ae (ak bI (aq (.int 80)) (aa 9)) (ae (aq (.int 9)) ao)))))) ⟨woR A goods zs c (some (.int (k:Int))) (some (vI mv)) (some (.ptr ku)) (some (.ptr km)) (some (.int (i:Int))) (some (.int v)) x11,O⟩=.next ⟨woR A goods zs c (some (.int (k:Int))) (some (vI mv)) (some (.ptr ku)) (some (.ptr km)) (some (.int (i:Int))) (some (.int v)) (some (.int (cA (c+(k:Int)) (70+(i:Int)) 4/3*(1+cA (c+(k:Int)) (80+(i:Int)) 9)))),O⟩:=
  bG (aK (aK (fF (aK (af rfl) (af rfl) (cj _ _)) (aK (aD _ _) (af rfl) (cj _ _)) (aD _ _) (by decide)) (aD _ _) (vJ (by decide) (by decide))) (aK (aD _ _) (fF (aK (af rfl) (af rfl) (cj _ _)) (aK (aD _ _) (af rfl) (cj _ _)) (aD _ _) (by decide)) (cj _ _)) (dN (fD (.inl (by omega))))) rfl
 have m0:0<=cA (c+(k:Int)) (70+(i:Int)) 4/3*(1+cA (c+(k:Int)) (80+(i:Int)) 9):=U4 (by omega) (by omega)
 generalize cA (c+(k:Int)) (70+(i:Int)) 4/3*(1+cA (c+(k:Int)) (80+(i:Int)) 9)=m at ac m0
 have ul:=h.u.len
 have ml:=h.m.len
 obtain⟨O1,e1,g1,k1⟩:=BH (R:=woR A goods zs c (some (.int (k:Int))) (some (vI mv)) (some (.ptr ku)) (some (.ptr km)) (some (.int (i:Int))) (some (.int v)) (some (.int m))) (slot:=7) (me:=ak bI (aa 11) (bE nP (ae (aq (.int 0)) (ae (unM nD (aa 10)) ao)))) (a:=m+max 0 (-v)) hi rfl rfl rfl hu (by omega) (aK (af rfl) (BW (aD _ _) (FI (af rfl) (rO _))) (cj _ _))
 obtain⟨O2,e2,g2,k2⟩:=BH (R:=woR A goods zs c (some (.int (k:Int))) (some (vI mv)) (some (.ptr ku)) (some (.ptr km)) (some (.int (i:Int))) (some (.int v)) (some (.int m))) (O:=O1) (slot:=8) (me:=ak bI (aa 11) (bE nP (ae (aq (.int 0)) (ae (aa 10) ao)))) (a:=m+max 0 v) (l:=ms) hi rfl rfl rfl (by rw[k1 _ U.symm];exact hm) (by omega) (aK (af rfl) (BW (aD _ _) (af rfl)) (cj _ _))
 refine⟨qy us goods[i] (m+max 0 (-v)),qy ms goods[i] (m+max 0 v),O2,some (.int m), ?_,⟨DS J hi h.u _,DS J hi h.m _,λj hj a5=> ?_⟩,by rw[k2 _ U];exact g1,g2,λq h1 h2=>by rw[k2 q h2,k1 q h1]⟩
 ·rw[jC]
  exact ba ac (ba e1 e2)
 ·by_cases e:j=i
  ·subst e
   rw[zL J hi h.m (by omega),zL J hi h.u (by omega),hv]
   omega
  ·rw[xM J hi (by omega),xM J hi (by omega)]
   exact h.s j hj (by omega)
theorem IE{m:EM}{s:S}{R:List (Option D)}{O:aB}{k:Nat}{ds:List D}(h:m s=.ok (.ptr k,⟨R,O⟩))(hc:O[k]? =some (.lst ds)):AY m s=.ok (.lst ds,⟨R,O.set k .dead⟩):=by
 rw[DR,h,aj]
 dsimp only
 rw[lY hc]
theorem JY{m:EM}{s s1:S}{ds:List D}(h:m s=.ok (.lst ds,s1)):AY m s=.ok (.lst ds,s1):=by
 rw[DR,h,aj]
 rfl
structure FO(goods:List Str)(w:Wk):Prop where
 us:kO goods w.us/\w.us.length<=100
 ms:kO goods w.ms/\w.ms.length<=100
theorem Km{A:List (List Int)}{goods zs:List Str}{c:Int}{k:Nat}{mv:List Int}{W:List Wk}{O:aB}{x7 x8 x9 x10 x11:Option D}(nd:goods.Nodup)(hg:goods.length<=100)(hk:k<zs.length)(hl:mv.length=goods.length)(wl:W.length<=1000)(hO:O[0]? =some (.lst (W.map wD))):
 ∃w O' y7 y8 y9 a1 as,jz ⟨woR A goods zs c (some (.int (k:Int))) (some (vI mv)) x7 x8 x9 x10 x11,O⟩=.next ⟨woR A goods zs c (some (.int (k:Int))) (some (vI mv)) y7 y8 y9 a1 as,O'⟩/\O'[0]? =some (.lst ((W++[w]).map wD))/\w.nm=zs[k]/\FO goods w/\goods.map (chg w)=mv:=by
 have o0:0<O.length:=pV hO
 have e7:setM 7 (ke ao) ⟨woR A goods zs c (some (.int (k:Int))) (some (vI mv)) x7 x8 x9 x10 x11,O⟩=.next ⟨woR A goods zs c (some (.int (k:Int))) (some (vI mv)) (some (.ptr O.length)) x8 x9 x10 x11,O++[.lst []]⟩:=bG (pJ (aE _) (by simp) rfl rfl) rfl
 have e8:setM 8 (ke ao) ⟨woR A goods zs c (some (.int (k:Int))) (some (vI mv)) (some (.ptr O.length)) x8 x9 x10 x11,O++[.lst []]⟩=.next ⟨woR A goods zs c (some (.int (k:Int))) (some (vI mv)) (some (.ptr O.length)) (some (.ptr (O.length+1))) x9 x10 x11,O++[.lst []]++[.lst []]⟩:=bG (pJ (aE _) (by simp) (by simp) rfl) rfl
 have cu:(O++[Cell.lst []]++[Cell.lst []])[O.length]? =some (.lst (([]:List (Str×Int)).map pD)):=cD fW
 have cm:(O++[Cell.lst []]++[Cell.lst []])[O.length+1]? =some (.lst (([]:List (Str×Int)).map pD)):=by
  have:=fW (O:=O++[Cell.lst []]) (c:=Cell.lst [])
  rw[Uv] at this
  exact this
 have c0:(O++[Cell.lst []]++[Cell.lst []])[0]? =some (.lst (W.map wD)):=cD (cD hO)
 generalize O++[Cell.lst []]++[Cell.lst []]=O1 at e8 cu cm c0
 obtain⟨J,hku⟩:∃J,O.length=J:=⟨_,rfl⟩
 rw[hku] at e7 e8 cu cm o0
 have a5:J≠J+1:=by omega
 obtain⟨s',el,us,ms,O2,ab,U,Y,hw,hu,hm,h0,a6⟩:=eZ (ok:=okC (dQ (mv.map D.int)) none) (g:=cV (aU (aG 9) (aU (aG 10) cY)) 2) (body:=jC)
  (λpre s=>∃(us ms:List (Str×Int)) (O2:aB) (x9 x10 x11:Option D),WkI goods mv pre.length us ms/\O2[J]? =some (.lst (us.map pD))/\O2[J+1]? =some (.lst (ms.map pD))/\O2[0]? =some (.lst (W.map wD))/\s=⟨woR A goods zs c (some (.int (k:Int))) (some (vI mv)) (some (.ptr J)) (some (.ptr (J+1))) x9 x10 x11,O2⟩) (λ_ _ _=>trivial) (dQ (mv.map D.int)) [] (by
   rintro pre d rest ed s ⟨us,ms,O2,x9,x10,x11,h1,h2,h3,h4,rfl⟩
   rw[Uw,oq] at ed
   obtain⟨a7,rfl⟩:=p7 ed
   obtain⟨am,a8,O3,as,eb,a9,bb,bd,be⟩:=LO (A:=A) (goods:=goods) (zs:=zs) (c:=c) (v:=mv[pre.length]) (k:=k) (i:=pre.length) (ku:=J) (km:=J+1) (mv:=mv) (us:=us) (ms:=ms) (O:=O2) (x11:=x11) nd (by omega) hg (by
    unfold nth
    rw[Fm,T7 a7];rfl) a5 h1 h2 h3
   refine⟨_,_,by rw[qe];rfl,.inl eb,am,a8,O3,_,_,_, ?_,bb,bd,by rw[be 0 (by omega) (by omega)];exact h4,rfl⟩
   rw[Uv,UM];exact a9) ⟨woR A goods zs c (some (.int (k:Int))) (some (vI mv)) (some (.ptr J)) (some (.ptr (J+1))) x9 x10 x11,O1⟩ ⟨[],[],O1,x9,x10,x11,⟨⟨by simp,by simp,by simp,by simp⟩,⟨by simp,by simp,by simp,by simp⟩,λj _ h=>absurd h (by simp)⟩,cu,cm,c0,rfl⟩
 rw[Uw,show (dQ (mv.map D.int)).length=goods.length by rw[oq];simp[hl]] at hw
 have hf:fM (de (ae (aa 6) ao)) (cV (aU (aG 9) (aU (aG 10) cY)) 2) jC ⟨woR A goods zs c (some (.int (k:Int))) (some (vI mv)) (some (.ptr J)) (some (.ptr (J+1))) x9 x10 x11,O1⟩=.next ⟨woR A goods zs c (some (.int (k:Int))) (some (vI mv)) (some (.ptr J)) (some (.ptr (J+1))) ab U Y,O2⟩:=by
  refine(dU (ds:=dQ (mv.map D.int)) (k:=none) (s1:=⟨woR A goods zs c (some (.int (k:Int))) (some (vI mv)) (some (.ptr J)) (some (.ptr (J+1))) x9 x10 x11,O1⟩) ?_).trans (el.trans (by rw[a6]))
  rw[lO,aA (af rfl) (aE _),aj]
 have ap:∀am:List (Str×Int),(∀g,sumOf g am=sumOf g us)->goods.map (chg ⟨zs[k],am,ms⟩)=mv:=λam hs=>by
  refine VI (by simp[hl]) λj h1 h2=> ?_
  have hj:j<goods.length:=by simpa using h1
  rw[W2]
  show sumOf goods[j] ms-sumOf goods[j] am=_
  rw[hs,hw.s j hj hj]
  unfold nth
  rw[Fm,T7 h2];rfl
 have bU:=hw.u.len
 have bV:=hw.m.len
 have t:bj (ak eqD (aO 3 aL (ae (ak bI (aa 3) (aa 5)) (ae (aq (.int 90)) (ae (aq (.int 2)) ao)))) (aq (.int 1))) ⟨woR A goods zs c (some (.int (k:Int))) (some (vI mv)) (some (.ptr J)) (some (.ptr (J+1))) ab U Y,O2⟩=.ok (decide (cA (c+(k:Int)) 90 2=1),⟨woR A goods zs c (some (.int (k:Int))) (some (vI mv)) (some (.ptr J)) (some (.ptr (J+1))) ab U Y,O2⟩):=eq_test (fF (aK (af rfl) (af rfl) (cj _ _)) (aD _ _) (aD _ _) (by decide))
 generalize cA (c+(k:Int)) 90 2=p at t
 by_cases hp:p=1
 ·have er:A5 EO (aa 7) jx jx (part (unM nD (aq (.int 1)))) ⟨woR A goods zs c (some (.int (k:Int))) (some (vI mv)) (some (.ptr J)) (some (.ptr (J+1))) ab U Y,O2⟩=.ok (psD us.reverse,⟨woR A goods zs c (some (.int (k:Int))) (some (vI mv)) (some (.ptr J)) (some (.ptr (J+1))) ab U Y,O2⟩):=by
   unfold A5
   rw[af (i:=7) rfl,aj]
   dsimp only
   rw[sk,aj]
   dsimp only
   rw[sk,aj]
   dsimp only
   rw[AS (FI (aD _ _) (rO _)),aj]
   dsimp only
   rw[qQ hu]
   dsimp only
   rw[if_neg (by decide),IB,<- XV]
   rfl
  refine⟨⟨zs[k],us.reverse,ms⟩,(O2.set (J+1) .dead).set 0 (.lst (W.map wD++[wD ⟨zs[k],us.reverse,ms⟩])),some (psD us.reverse),some (.ptr (J+1)),ab,U,Y, ?_,(by rw[UJ];exact ic (c':=.lst (W.map wD)) (by rw[da (by omega)];exact h0)),rfl,⟨⟨hw.u.parts.rev,by simp;omega⟩,⟨hw.m.parts,by show ms.length<=100;omega⟩⟩,ap _ λg=>HK g us⟩
  rw[jz]
  refine ba e7 (ba e8 (ba hf (ba (jg t (decide_eq_true hp) (bG (R':=woR A goods zs c (some (.int (k:Int))) (some (vI mv)) (some (psD us.reverse)) (some (.ptr (J+1))) ab U Y) er rfl)) (df (qq (af rfl) h0 (FD (aA (aK (af rfl) (af rfl) (Fp hk)) (aA (JY (af rfl)) (aA (nW (af rfl) hm rfl) (aE _)))) (by simp)) (by rw[da (by omega)];exact h0) (by simp;omega) rfl)))))
 ·refine⟨⟨zs[k],us,ms⟩,((O2.set J .dead).set (J+1) .dead).set 0 (.lst (W.map wD++[wD ⟨zs[k],us,ms⟩])),some (.ptr J),some (.ptr (J+1)),ab,U,Y, ?_,(by rw[UJ];exact ic (c':=.lst (W.map wD)) (by rw[da (by omega),da (by omega)];exact h0)),rfl,⟨⟨hw.u.parts,by show us.length<=100;omega⟩,⟨hw.m.parts,by show ms.length<=100;omega⟩⟩,ap _ λg=>rfl⟩
  rw[jz]
  refine ba e7 (ba e8 (ba hf (ba (gs t (decide_eq_false hp) (dC _)) (df (qq (af rfl) h0 (FD (aA (aK (af rfl) (af rfl) (Fp hk)) (aA (IE (af rfl) hu) (aA (nW (af rfl) (by rw[da (by omega)];exact hm) rfl) (aE _)))) (by simp)) (by rw[da (by omega),da (by omega)];exact h0) (by simp;omega) rfl)))))
theorem GB{A:List (List Int)}{goods zs:List Str}(c:Int)(nd:goods.Nodup)(hg:goods.length<=100)(ha:∀l∈A,l.length=goods.length)(hz:A.length<=zs.length)(al:A.length<=100):
 ∃ws O,gv [vII A,sD goods,sD zs,.int c] []=.ok (wsD ws,O)/\ws.map (·.nm)=zs.take A.length/\(∀w∈ws,FO goods w)/\ws.map (λw=>goods.map (chg w))=A:=by
 obtain⟨s',el,W,O,x5,x6,x7,x8,x9,J,U,h1,h2,Y,hO,as⟩:=eZ (ok:=okC (dQ (A.map vI)) none) (g:=cV (aU (aG 5) (aU (aG 6) cY)) 2) (body:=jz)
  (λpre s=>∃(W:List Wk) (O:aB) (x5 x6 x7 x8 x9 J U:Option D),W.map (·.nm)=zs.take pre.length/\(∀w∈W,FO goods w)/\W.map (λw=>goods.map (chg w))=A.take pre.length/\O[0]? =some (.lst (W.map wD))/\s=⟨woR A goods zs c x5 x6 x7 x8 x9 J U,O⟩) (λ_ _ _=>trivial) (dQ (A.map vI)) [] (by
   rintro pre d rest ed s ⟨W,O,x5,x6,x7,x8,x9,J,U,h1,h2,Y,h4,rfl⟩
   rw[Uw,oq] at ed
   obtain⟨az,rfl⟩:=p7 ed
   have wl:W.length<=1000:=by
    have:=congrArg Vk Y
    simp at this
    omega
   obtain⟨w,O',y7,y8,y9,bb,bd,eb,a0,n1,mk,ch⟩:=Km (A:=A) (goods:=goods) (zs:=zs) (c:=c) (k:=pre.length) (mv:=A[pre.length]) (W:=W) (O:=O) (x7:=x7) (x8:=x8) (x9:=x9) (x10:=J) (x11:=U) nd hg (by omega) (ha _ (UH _)) wl h4
   refine⟨_,_,by rw[qe];rfl,.inl eb,W++[w],O',_,_,_,_,_,_,_, ?_,λz a1=> ?_, ?_,a0,rfl⟩
   ·rw[Uv,UM,UJ,h1,Uk,U1,n1,VU,T7 (by omega)];rfl
   ·rcases Uj.mp a1 with q | q
    ·exact h2 z q
    ·rw[Ul.mp q];exact mk
   ·rw[Uv,UM,UJ,Y,Uk,U1,ch,VU,T7 az];rfl) ⟨woR A goods zs c none none none none none none none,[.lst []]⟩ ⟨[],[.lst []],none,none,none,none,none,none,none,by simp,by simp,by simp,rfl,rfl⟩
 have a2:(([]:List D)++dQ (A.map vI)).length=A.length:=by rw[Uw,oq];simp
 rw[a2] at h1 Y
 rw[List.take_length] at Y
 refine⟨W,O.set 0 .dead, ?_,h1,h2,Y⟩
 refine dD (R:=woR A goods zs c x5 x6 x7 x8 x9 J U) ?_
 show lC ⟨[some (vII A),some (sD goods),some (sD zs),some (.int c),none,none,none,none,none,none,none,none],[]⟩=_
 rw[lC]
 refine ba (bG (R':=woR A goods zs c none none none none none none none) (pJ (aE _) (by simp) rfl rfl) rfl) (ba ?_ (bD (nW (af rfl) hO rfl)))
 refine(dU (ds:=dQ (A.map vI)) (k:=none) (s1:=⟨woR A goods zs c none none none none none none none,[.lst []]⟩) ?_).trans (el.trans (by rw[as]))
 rw[lO,aA (af rfl) (aE _),aj];rfl
theorem J1{goods:List Str}{ws:List Wk}{f:Str}{d:D}{R:List (Option D)}{O:aB}{i:Nat}(h:R[i]? =some (some (yD goods ws)))(hd:qA f FN (yDs goods ws)=some d):mX 0 f (aa i) ⟨R,O⟩=.ok (d,⟨R,O⟩):=Pq (af h) hd
theorem uU(goods:List Str)(ws:List Wk):aN [yD goods ws]=true:=by
 show (aN (yDs goods ws)&&true)=true
 rw[gY];rfl
theorem yb(goods:List Str)(ws:List Wk){ds:List D}(h:aN ds=true):aN (yD goods ws::ds)=true:=by
 show (aN (yDs goods ws)&&aN ds)=true
 rw[gY,h];rfl
theorem tT(goods:List Str)(ws:List Wk):dX [yD goods ws] []=.ok (sD goods,[]):=by
 refine dD (R:=[some (yD goods ws)]) ?_
 show fe ⟨[some (yD goods ws)],[]⟩=_
 rw[fe]
 exact bD (eI (aA (J1 rfl rfl) (aE _)) (ow _))
theorem GQ(goods:List Str){ws:List Wk}(h:ws.length<=1000):iJ [yD goods ws] []=.ok (sD (ws.map (·.nm)),[]):=by
 refine dD (R:=[some (yD goods ws)]) ?_
 show kg ⟨[some (yD goods ws)],[]⟩=_
 rw[kg]
 have e:=d3 (l:=ws) (item:=wD) (out:=λw=>.str w.nm) (caps:=[]) (im:=listI (mX 0 "held_works" (aa 0))) (e:=ak ixD (aa 0) (aq (.int 0))) (k:=none) (s:=⟨[some (yD goods ws)],[]⟩) (by rw[cW,J1 (i:=0) rfl rfl,aj];rfl) trivial (by omega) (λw _=>aK (af rfl) (aD _ _) rfl)
 rw[show ws.map (λw=>D.str w.nm)=(ws.map (·.nm)).map D.str by rw[Uh];rfl] at e
 exact bD e
abbrev chL(goods:List Str)(ws:List Wk):List (List Int):=ws.map λw=>goods.map (chg w)
theorem Fh(goods:List Str){ws:List Wk}{k:Nat}(h:k<ws.length):hW [yD goods ws,.int (k:Int)] []=.ok (vI ((chL goods ws).getD k []),[]):=by
 refine dD (R:=[some (yD goods ws),some (.int (k:Int))]) ?_
 show jw ⟨[some (yD goods ws),some (.int (k:Int))],[]⟩=_
 rw[jw]
 exact bD (eI (aA (aK (J1 rfl rfl) (af rfl) (BP (R:=chL goods ws) (by simpa using h))) (aE _)) (ow _))
theorem range_getD{α:Type}(l:List α)(d:α):(T9 l.length).map (λi=>l.getD i d)=l:=by
 refine VI (by simp) λi h1 h2=> ?_
 simp[Fm,h2]
theorem xv(goods:List Str){ws:List Wk}(h:ws.length<=1000):i5 [yD goods ws] []=.ok (vII (chL goods ws),[]):=by
 refine dD (R:=[some (yD goods ws)]) ?_
 show kq ⟨[some (yD goods ws)],[]⟩=_
 rw[kq]
 have e:=d3 (l:=T9 ws.length) (item:=λi:Nat=>D.int (i:Int)) (out:=λi=>vI ((chL goods ws).getD i [])) (caps:=[0]) (im:=dM (ae (bE cL (ae (methP 0 "names" 0 iJ (aa 0) ao) ao)) ao)) (e:=methP 0 "change" 1 hW (aa 1) (ae (aa 0) ao)) (k:=none) (s:=⟨[some (yD goods ws)],[]⟩) (by
  rw[<- fv]
  refine dY (aA (eI (aA (o6 (ns:=FN) (ds:=yDs goods ws) (args:=[]) (af rfl) (aE _) (GQ goods h) (by decide) (gY _ _) rfl rfl (dj _)) (aE _)) ?_) (aE _)) (by omega)
  rw[dB];simp) trivial (by simp;omega) (λi hi=>o6 (ns:=FN) (ds:=yDs goods ws) (args:=[.int (i:Int)]) (af rfl) (aA (af rfl) (aE _)) (Fh goods (UD.mp hi)) (by decide) (gY _ _) rfl rfl (by simp))
 rw[show (T9 ws.length).map (λi=>vI ((chL goods ws).getD i []))=(chL goods ws).map vI by
  have:=range_getD (chL goods ws) []
  rw[T3] at this
  conv=>rhs;rw[<- this]
  rw[Uh];rfl] at e
 exact bD e
theorem mot(a b:Int):gP [.int a,.int b] []=.ok (.int (WR a b:Nat),[]):=Hs a b
theorem FJ(ns:List Int):mx [vI ns] []=.ok (.int (cZ ns:Nat),[]):=by
 obtain⟨s',e,c,x,h1,h2⟩:=eZ (ok:=okC (ns.map D.int) none) (g:=aG 2) (body:=nN)
  (λpre s=>∃(ms:List Int) (x:Option D),pre=ms.map D.int/\s=⟨[some (vI ns),some (.int (ms.foldl (λc n=>Vw c n.natAbs) 0:Nat)),x],[]⟩) (λ_ _ _=>trivial) (ns.map D.int) [] (by
   rintro pre d rest e s ⟨ms,x,rfl,rfl⟩
   have hd:d∈ns.map D.int:=by rw[Uw] at e;rw[e];simp
   obtain⟨m,_,rfl⟩:=T4.mp hd
   refine⟨_,_,rfl,.inl ?_,ms++[m],some (.int m),by simp,rfl⟩
   simp[nN,mot,WR]) ⟨[some (vI ns),some (.int 0),none],[]⟩ ⟨[],none,rfl,rfl⟩
 rw[Uw] at h1
 have hc:c=ns:=(Vj (λa b h=>by cases h;rfl)).mp h1.symm
 subst hc
 have J:=dU (im:=listI (aa 0)) (g:=aG 2) (body:=nN) (s:=⟨[some (vI c),some (.int 0),none],[]⟩) (ds:=c.map D.int) (k:=none) (s1:=⟨[some (vI c),some (.int 0),none],[]⟩) (by simp)
 rw[e] at J
 have q:=dI (n:=3) (m:=mF) (ds:=[vI c]) (O:=[]) (d:=.int (cZ c:Nat)) (s:=s') (by
  show mF ⟨[some (vI c),none,none],[]⟩=_
  rw[mF,u4]
  rw[show setM 1 (aq (.int 0)) ⟨[some (vI c),none,none],[]⟩=.next ⟨[some (vI c),some (.int 0),none],[]⟩ by simp]
  rw[zW,u4,J,zW,h2]
  simp[cZ])
 rw[h2] at q
 exact q
theorem xx{a b:List Int}(J:a.length<=1000000)(hm:∀p∈a.zip b,IntMulOk p.1 p.2):bB [vI a,vI b] []=.ok (.int (ay a b),[]):=by
 have hz:(a.zip b).length<=1000000:=by rw[Wq];omega
 have hc:=GR (l:=a.zip b) (f:=λp=>.int p.1) (g:=λp=>.int p.2) (out:=λp=>.int (p.1*p.2)) (caps:=[]) (im:=tR (ae (aa 0) (ae (aa 1) ao))) (e:=ak dJ (aa 0) (aa 1)) (k:=none) (s:=⟨[some (vI a),some (vI b)],[]⟩) (by simp[tY]) trivial (by omega) (λp hp=>by
  simp[dN (hm p hp)])
 rw[show (a.zip b).map (λp=>D.int (p.1*p.2))=(UO (· * ·) a b).map D.int by rw[<- LD];simp] at hc
 refine dI (s:=⟨[some (vI a),some (vI b)],[]⟩) ?_
 show cM ⟨[some (vI a),some (vI b)],[]⟩=_
 rw[cM]
 refine bD ?_
 rw[gy,aY,hc,aj,aE,aj,aj]
 dsimp only
 rw[n8,aj]
 rfl
theorem Lx{n a:Nat}(ha:a<n)(hn:n<=1000000):∃O,mK [.int (a:Int),.int (n:Int)] []=.ok (vI (fb n a),O):=by
 have h1:=i4 (i:=2) (Uz (KQ (fin:=qK) (mk:=aa 1) (s:=⟨[some (.int (a:Int)),some (.int (n:Int)),none],[]⟩) (n:=n) (by simp) hn) (yL _ _))
 have h2:kS (aq (.int 1)) (oC (aa 2) (aa 0)) ⟨[some (.int (a:Int)),some (.int (n:Int)),some (.ptr 0)],[.lst ((Uo n (0:Int)).map D.int)]⟩=.next ⟨[some (.int (a:Int)),some (.int (n:Int)),some (.ptr 0)],[.lst ((fb n a).map D.int)]⟩:=by
  rw[yc,aD,aj,r8 (k:=0) (a:=a) (ds:=(Uo n (0:Int)).map D.int) (s1:=⟨[some (.int (a:Int)),some (.int (n:Int)),some (.ptr 0)],[.lst ((Uo n (0:Int)).map D.int)]⟩) (s2:=⟨[some (.int (a:Int)),some (.int (n:Int)),some (.ptr 0)],[.lst ((Uo n (0:Int)).map D.int)]⟩) (by simp) (by simp) rfl (by simpa using ha)]
  simp[fb,W5]
 refine pb ⟨⟨[some (.int (a:Int)),some (.int (n:Int)),some (.ptr 0)],[.dead]⟩, ?_⟩
 show oA ⟨[some (.int (a:Int)),some (.int (n:Int)),none],[]⟩=_
 rw[oA,cH h1]
 refine Uz (cH h2) ?_
 simp
theorem Hm{n:Nat}(hn:n<=1000000):kL [.int (n:Int)] []=.ok (vII (cS n),[]):=by
 have hc:=d3 (l:=T9 n) (item:=λi=>.int (i:Int)) (out:=λi=>vI (fb n i)) (caps:=[0]) (im:=dM (ae (aa 0) ao)) (e:=aO 2 mK (ae (aa 0) (ae (aa 1) ao))) (k:=none) (s:=⟨[some (.int (n:Int))],[]⟩) (by
  rw[dY (n:=n) (s1:=⟨[some (.int (n:Int))],[]⟩) (by simp) hn,fv]) trivial (pj (by rw[VV];exact hn)) (λa ha=>by
  obtain⟨O,e⟩:=Lx (UD.mp ha) hn
  exact cX (ds:=[.int (a:Int),.int (n:Int)]) (by simp) (by simp) rfl e (by simp))
 refine dI (s:=⟨[some (.int (n:Int))],[]⟩) ?_
 show mO ⟨[some (.int (n:Int))],[]⟩=_
 rw[mO,bD hc]
 simp[cS]
theorem FY(x:Option D)(L:D):∀(ns:List Int) (J:Nat) (U Y:Option D),(dv ns=none->∃y1 y2,cR (okC (dQ [L]) none) (cV (aU (aG 1) (aU (aG 2) cY)) 2) cz ((ns.zipIdx J).map λp=>.tup [.int (p.2:Int),.int p.1]) ⟨[some L,U,Y],[]⟩=.next ⟨[some L,y1,y2],[]⟩)/\
 ∀j,dv ns=some j->∃y1 y2,cR (okC (dQ [L]) none) (cV (aU (aG 1) (aU (aG 2) cY)) 2) cz ((ns.zipIdx J).map λp=>.tup [.int (p.2:Int),.int p.1]) ⟨[some L,U,Y],[]⟩=.ret (.int ((J+j:Nat):Int)) ⟨[some L,y1,y2],[]⟩
 | [],J,U,Y=>⟨λ_=>⟨U,Y,by simp[cR]⟩,λj h=>by cases h⟩
 | n::ns,J,U,Y=>by
  have ih:=FY x L ns (J+1) (some (.int (J:Int))) (some (.int n))
  rw[Wh,Uk,cR,if_pos (show okC (dQ [L]) none _ from trivial)]
  have hg:cV (aU (aG 1) (aU (aG 2) cY)) 2 (.tup [.int (J:Int),.int n]) ⟨[some L,U,Y],[]⟩=.ok ⟨[some L,some (.int (J:Int)),some (.int n)],[]⟩:=by simp
  rw[hg,kZ]
  by_cases hn:n=0
  ·have hb:cz ⟨[some L,some (.int (J:Int)),some (.int n)],[]⟩=.next ⟨[some L,some (.int (J:Int)),some (.int n)],[]⟩:=by simp[cz,hn]
   rw[hb]
   dsimp only
   constructor
   ·intro h
    unfold dv at h
    rw[if_neg (by simpa using hn)] at h
    exact ih.1 (by simpa using h)
   ·intro j h
    unfold dv at h
    rw[if_neg (by simpa using hn)] at h
    cases e:dv ns with
    | none=>rw[e] at h;cases h
    | some i=>
     rw[e] at h
     have hj:j=i+1:=by simpa using h.symm
     subst hj
     obtain⟨y1,y2,e2⟩:=ih.2 i e
     exact⟨y1,y2,by rw[e2,show J+1+i=J+(i+1) by omega]⟩
  ·have hb:cz ⟨[some L,some (.int (J:Int)),some (.int n)],[]⟩=.ret (.int (J:Int)) ⟨[some L,some (.int (J:Int)),some (.int n)],[]⟩:=by simp[cz,hn]
   rw[hb]
   dsimp only
   have hs:dv (n::ns)=some 0:=by unfold dv;rw[if_pos hn]
   rw[hs]
   refine⟨λh=>(by cases h),λj h=> ?_⟩
   have hj:j=0:=by simpa using h.symm
   subst hj
   exact⟨_,_,rfl⟩
def wg:Option Nat->D
 | none=>.non
 | some k=>.int (k:Int)
theorem Hi(ns:List Int):cQ [vI ns] []=.ok (wg (dv ns),[]):=by
 have Y:=dU (im:=de (ae (aa 0) ao)) (g:=cV (aU (aG 1) (aU (aG 2) cY)) 2) (body:=cz) (s:=⟨[some (vI ns),none,none],[]⟩) (ds:=(ns.zipIdx 0).map λp=>.tup [.int (p.2:Int),.int p.1]) (k:=none) (s1:=⟨[some (vI ns),none,none],[]⟩) (by simp[E8])
 have go:=FY none (vI ns) ns 0 none none
 cases e:dv ns with
 | none=>
  obtain⟨J,U,e1⟩:=go.1 e
  refine dI (s:=⟨[some (vI ns),J,U],[]⟩) ?_
  show dc ⟨[some (vI ns),none,none],[]⟩=_
  rw[dc,u4,Y]
  rw[show cR (okC ((ns.zipIdx 0).map λp=>D.tup [.int (p.2:Int),.int p.1]) none) (cV (aU (aG 1) (aU (aG 2) cY)) 2) cz ((ns.zipIdx 0).map λp=>.tup [.int (p.2:Int),.int p.1]) ⟨[some (vI ns),none,none],[]⟩=.next ⟨[some (vI ns),J,U],[]⟩ from e1]
  rfl
 | some k=>
  obtain⟨J,U,e1⟩:=go.2 k e
  refine dI (s:=⟨[some (vI ns),J,U],[]⟩) ?_
  show dc ⟨[some (vI ns),none,none],[]⟩=_
  rw[dc,u4,Y]
  rw[show cR (okC ((ns.zipIdx 0).map λp=>D.tup [.int (p.2:Int),.int p.1]) none) (cV (aU (aG 1) (aU (aG 2) cY)) 2) cz ((ns.zipIdx 0).map λp=>.tup [.int (p.2:Int),.int p.1]) ⟨[some (vI ns),none,none],[]⟩=.ret (.int ((0+k:Nat):Int)) ⟨[some (vI ns),J,U],[]⟩ from e1]
  rw[Nat.zero_add];rfl
theorem zX(ns:List Int)(J:ns.length<=1000000):jk [vI ns] []=.ok (.ptr 0,[.lst ((low ns).map D.int)]):=by
 have e1:setM 1 (aO 1 mx (ae (aa 0) ao)) ⟨[some (vI ns),none],[]⟩=.next ⟨[some (vI ns),some (.int (cZ ns:Nat))],[]⟩:=bG (cX (aA (af rfl) (aE _)) (ny _) rfl (FJ ns) (by simp)) rfl
 by_cases h:cZ ns=0
 ·refine dD (R:=[some (vI ns),some (.int (cZ ns:Nat))]) ?_
  show jm ⟨[some (vI ns),none],[]⟩=_
  rw[jm]
  refine ba e1 (p9 (jg (eq_test (af rfl)) (decide_eq_true (by omega)) (bD (LW (af rfl) (HB _ _) rfl ?_))))
  rw[show low ns=ns by unfold low;rw[if_pos h]]
  rfl
 ·have hc:=G6 (l:=ns) (item:=D.int) (out:=λn=>.int (n/(cZ ns:Int))) (caps:=[1]) (im:=listI (aa 0)) (e:=ak hZ (aa 0) (aa 1)) (k:=none) (s:=⟨[some (vI ns),some (.int (cZ ns:Nat))],[]⟩) (by simp) trivial (by omega) (λa _=>by
   simp[uA (show (cZ ns:Int)≠0 by omega),wm (show (0:Int)<cZ ns by omega)])
  refine dD (R:=[some (vI ns),some (.int (cZ ns:Nat))]) ?_
  show jm ⟨[some (vI ns),none],[]⟩=_
  rw[jm]
  refine ba e1 (ba (gs (eq_test (af rfl)) (decide_eq_false (by omega)) (dC _)) (bD (hc.trans ?_)))
  rw[show (low ns).map D.int=ns.map λn=>.int (n/(cZ ns:Int)) by unfold low;rw[if_neg h,Uh];rfl]
  rfl
theorem tX{one other:List Int}{v w:Int}(U:one.length<=1000000)(h1:∀a∈one,IntMulOk a w)(h2:∀b∈other,IntMulOk b v):fg [vI one,.int v,vI other,.int w] []=.ok (.ptr 0,[.lst ((dq one v other w).map D.int)]):=by
 have hz:(one.zip other).length<=1000000:=by rw[Wq];omega
 have hc:=GR (l:=one.zip other) (f:=λp=>.int p.1) (g:=λp=>.int p.2) (out:=λp=>.int (p.1*w-p.2*v)) (caps:=[1,3]) (im:=tR (ae (aa 0) (ae (aa 2) ao))) (e:=ak iC (ak dJ (aa 0) (aa 3)) (ak dJ (aa 1) (aa 2))) (k:=none) (s:=⟨[some (vI one),some (.int v),some (vI other),some (.int w),none],[]⟩) (by simp[tY]) trivial (by omega) (λp hp=>by
  have hp':=Ve hp
  simp[dN (h1 p.1 hp'.1),dN (h2 p.2 hp'.2)])
 rw[show (one.zip other).map (λp=>D.int (p.1*w-p.2*v))=(mm one v other w).map D.int by rw[mm,<- zip_map];simp] at hc
 have J:(mm one v other w).length<=1000000:=by unfold mm;rw[Vu];omega
 refine dD (R:=[some (vI one),some (.int v),some (vI other),some (.int w),some (vI (mm one v other w))]) ?_
 show jd ⟨[some (vI one),some (.int v),some (vI other),some (.int w),none],[]⟩=_
 rw[jd]
 exact ba (i4 hc) (bD (kB (aA (af rfl) (aE _)) (zX _ J) (ny _) rfl (gz _ _) (by
  simp only[Uk,U1,Uw,qT,ou]
  rfl)))
theorem qN{O:aB}{p a:Nat}{r:List Int}(h:O[p]? =some (.lst (r.map D.int)))(ha:a<r.length):ixD O (.ptr p) (.int (a:Int))=.ok (.int (nth r a)):=by
 refine Ba h ?_
 rw[nH (by simpa using ha)]
 simp[nth,Fm,T7 ha]
theorem HS{O:aB}{l a:Nat}{L:List (Nat×List Int)}(J:O[l]? =some (.lst (bf L)))(U:Sto O L)(Y:L.length<=1000000)(ha:∀p∈L,a<p.2.length):nK [.ptr l,.int (a:Int)] O=.ok (vI ((L.map (·.2)).map (nth · a)),O):=by
 have hc:=d3 (l:=L) (item:=λp=>.ptr p.1) (out:=λp=>.int (nth p.2 a)) (caps:=[1]) (im:=listI (aa 0)) (e:=ak ixD (aa 0) (aa 1)) (k:=some l) (s:=⟨[some (.ptr l),some (.int (a:Int))],O⟩) (qo (af rfl) J) J (by omega) (λp hp=>aK (af rfl) (af rfl) (qN (U p hp) (ha p hp)))
 refine dD (R:=[some (.ptr l),some (.int (a:Int))]) ?_
 show qf ⟨[some (.ptr l),some (.int (a:Int))],O⟩=_
 rw[qf,bD hc]
 simp[Uh,V9]
theorem La{O:aB}{p a:Nat}{r:List Int}(h:O[p]? =some (.lst (r.map D.int)))(ha:a<r.length)(J:r.length<=1000000):∃q E,fB [.ptr p,.int (a:Int)] O=.ok (.ptr q,O++E)/\(O++E)[q]? =some (.lst ((gf r a).map D.int))/\(q=p\/O.length<=q):=by
 have t:bj (ak gtD (ak ixD (aa 0) (aa 1)) (aq (.int 0))) ⟨[some (.ptr p),some (.int (a:Int))],O⟩=.ok (decide (0<nth r a),⟨[some (.ptr p),some (.int (a:Int))],O⟩):=iO (aK (af rfl) (af rfl) (qN h ha))
 by_cases hp:0<nth r a
 ·refine⟨p,[], ?_,by rw[UY,h,show gf r a=r by unfold gf;rw[if_pos hp]],.inl rfl⟩
  rw[UY]
  refine dD (R:=[some (.ptr p),some (.int (a:Int))]) ?_
  show d4 ⟨[some (.ptr p),some (.int (a:Int))],O⟩=_
  rw[d4]
  exact p9 (jg t (decide_eq_true hp) (bD (af rfl)))
 ·have hc:=G6 (l:=r) (item:=D.int) (out:=λn=>.int (-n)) (caps:=[]) (im:=listI (aa 0)) (e:=unM nD (aa 0)) (k:=some p) (s:=⟨[some (.ptr p),some (.int (a:Int))],O⟩) (qo (af rfl) h) h (by omega) (λn _=>FI (af rfl) (rO _))
  refine⟨O.length,[.lst (r.map λn=>.int (-n))], ?_, ?_,.inr (Ud _)⟩
  ·refine dD (R:=[some (.ptr p),some (.int (a:Int))]) ?_
   show d4 ⟨[some (.ptr p),some (.int (a:Int))],O⟩=_
   rw[d4]
   exact ba (gs t (decide_eq_false hp) (dC _)) (bD hc)
  ·rw[fW,show gf r a=r.map (- ·) by unfold gf;rw[if_neg hp],Uh];rfl
theorem Ek{O:aB}{p q a:Nat}{r lead:List Int}(h1:O[p]? =some (.lst (r.map D.int)))(h2:O[q]? =some (.lst (lead.map D.int)))(J:a<r.length)(U:a<lead.length)(hl:r.length<=1000000)(Y:∀x∈r,IntMulOk x (nth lead a))(ab:∀y∈lead,IntMulOk y (nth r a)):
 ∃z E,gu [.ptr p,.ptr q,.int (a:Int)] O=.ok (.ptr z,O++E)/\(O++E)[z]? =some (.lst ((eK lead a r).map D.int))/\(z=p\/O.length<=z):=by
 have t:bj (ak eqD (ak ixD (aa 0) (aa 2)) (aq (.int 0))) ⟨[some (.ptr p),some (.ptr q),some (.int (a:Int))],O⟩=.ok (decide (nth r a=0),⟨[some (.ptr p),some (.ptr q),some (.int (a:Int))],O⟩):=eq_test (aK (af rfl) (af rfl) (qN h1 J))
 by_cases hp:nth r a=0
 ·refine⟨p,[], ?_,by rw[UY,h1,show eK lead a r=r by unfold eK;rw[if_pos hp]],.inl rfl⟩
  rw[UY]
  refine dD (R:=[some (.ptr p),some (.ptr q),some (.int (a:Int))]) ?_
  show ja ⟨[some (.ptr p),some (.ptr q),some (.int (a:Int))],O⟩=_
  rw[ja]
  exact p9 (jg t (decide_eq_true hp) (bD (af rfl)))
 ·refine⟨O.length,[.lst ((dq r (nth r a) lead (nth lead a)).map D.int)], ?_, ?_,.inr (Ud _)⟩
  ·refine dD (R:=[some (.ptr p),some (.ptr q),some (.int (a:Int))]) ?_
   show ja ⟨[some (.ptr p),some (.ptr q),some (.int (a:Int))],O⟩=_
   rw[ja]
   refine ba (gs t (decide_eq_false hp) (dC _)) (bD (yG (rs:=[vI r,.int (nth r a),vI lead,.int (nth lead a)]) (aA (af rfl) (aA (aK (af rfl) (af rfl) (qN h1 J)) (aA (af rfl) (aA (aK (af rfl) (af rfl) (qN h2 U)) (aE _))))) ?_ (tX hl Y ab) (by simp) rfl rfl ?_ (gz _ _) ?_))
   ·simp[kx h1,kx h2]
   ·simp[uV,qg]
   ·simp
  ·rw[fW,show eK lead a r=dq r (nth r a) lead (nth lead a) by unfold eK;rw[if_neg hp]]
theorem EF(L:List (Nat×List Int))(k:Nat):(L.eraseIdx k).map (·.2)=(L.map (·.2)).eraseIdx k:=(uq _ _ _).symm
theorem CW {n a b l d:Nat} {L Q:List (Nat×List Int)} {O:aB} {x5 x6:Option D} {X:D} (hl:O[l]? =some (.lst (bf L))) (hd:O[d]? =some (.lst (bf Q))) (a8:l≠d) (sL:Sto O L) (sQ:Sto O Q) (nL:∀p∈L,p.1≠l/\p.1≠d) (nQ:∀p∈Q,p.1≠l/\p.1≠d)
 (ll:∀r∈L.map (·.2),r.length=n) (dl:∀r∈Q.map (·.2),r.length=n) (ha:a<n) (hn:n<=1000) (c1:L.length<=1000) (c2:Q.length<=1000) (s1:dR b (L.map (·.2))) (s2:dR b (Q.map (·.2))) (hb:b<=60000000):
 ∃O' l' d' L' Y y5 y6,j4 ⟨[some X,some (.int (n:Int)),some (.ptr l),some (.ptr d),some (.int (a:Int)),x5,x6],O⟩=.next ⟨[some X,some (.int (n:Int)),some (.ptr l'),some (.ptr d'),some (.int (a:Int)),y5,y6],O'⟩/\
  O'[l']? =some (.lst (bf L'))/\O'[d']? =some (.lst (bf Y))/\l'≠d'/\Sto O' L'/\Sto O' Y/\(∀p∈L',p.1≠l'/\p.1≠d')/\(∀p∈Y,p.1≠l'/\p.1≠d')/\L'.map (·.2)=(di (L.map (·.2),Q.map (·.2)) a).1/\Y.map (·.2)=(di (L.map (·.2),Q.map (·.2)) a).2:=by
 have J:∀{M:List (Nat×List Int)} {p:Nat×List Int},p∈M->p.2∈M.map (·.2):=λh=>T4.mpr ⟨_,h,rfl⟩
 have bb:=HS (a:=a) hl sL (by omega) λp hp=>by rw[ll _ (J hp)];exact ha
 have e5:setM 5 (aO 1 cQ (ae (jf 2 nK (ae (aa 2) (ae (aa 4) ao))) ao)) ⟨[some X,some (.int (n:Int)),some (.ptr l),some (.ptr d),some (.int (a:Int)),x5,x6],O⟩=.next ⟨[some X,some (.int (n:Int)),some (.ptr l),some (.ptr d),some (.int (a:Int)),some (wg (dv ((L.map (·.2)).map (nth · a)))),x6],O⟩:=
  bG (cX (aA (qV (aA (af rfl) (aA (af rfl) (aE _))) bb rfl) (aE _)) (ny _) rfl (Hi _) (by cases dv ((L.map (·.2)).map (nth · a)) <;> simp[wg])) rfl
 unfold di
 dsimp only
 cases e:dv ((L.map (·.2)).map (nth · a)) with
 | none=>
  rw[e] at e5
  refine⟨O,l,d,L,Q,some .non,x6, ?_,hl,hd,a8,sL,sQ,nL,nQ,rfl,rfl⟩
  rw[j4]
  exact ba e5 (gs (gQ (aK (af rfl) (aD _ _) (ES _))) rfl (dC _))
 | some k=>
  rw[e] at e5
  obtain⟨k1,k2,_⟩:=gI e
  rw[T3,T3] at k1
  obtain⟨p,row,hpr⟩:∃p row,L[k]=(p,row):=⟨_,_,rfl⟩
  have U:(p,row)∈L:=hpr▸UH k1
  have be:(L.map (·.2)).getD k []=row:=by simp[Fm,T7 k1,hpr]
  have b5:(bf L)[k]'(by simpa using k1)=.ptr p:=by simp[hpr]
  have bi:(bf L).eraseIdx k=bf (L.eraseIdx k):=uq _ _ _
  have rl:row.length=n:=ll row (J U)
  have rs:SzL b row:=s1 row (J U)
  have a7:(gf row a).length=n:=by rw[vy,rl]
  have bm:SzL b (gf row a):=rs.sgn a
  dsimp only
  rw[be,<- EF]
  have b6:Sto O (L.eraseIdx k):=λq hq=>sL q (UP hq)
  have bn:∀q∈L.eraseIdx k,q.1≠l/\q.1≠d:=λq hq=>nL q (UP hq)
  have b7:∀r∈(L.eraseIdx k).map (·.2),r.length=n:=λr hr=>by
   obtain⟨q,hq,rfl⟩:=T4.mp hr
   exact ll _ (J (UP hq))
  have b8:dR b ((L.eraseIdx k).map (·.2)):=λr hr=>by
   obtain⟨q,hq,rfl⟩:=T4.mp hr
   exact s1 _ (J (UP hq))
  have dd:(L.eraseIdx k).length<=1000:=by have:=List.length_eraseIdx_le L k;omega
  have bp:(O.set l (.lst (bf (L.eraseIdx k))))[l]? =some (.lst (bf (L.eraseIdx k))):=ic hl
  have bv:(O.set l (.lst (bf (L.eraseIdx k))))[d]? =some (.lst (bf Q)):=by rw[da a8];exact hd
  have b9:=b6.set (k:=l) (λq hq=>(bn q hq).1) (.lst (bf (L.eraseIdx k)))
  have cc:=sQ.set (k:=l) (λq hq=>(nQ q hq).1) (.lst (bf (L.eraseIdx k)))
  have ce:(O.set l (.lst (bf (L.eraseIdx k))))[p]? =some (.lst (row.map D.int)):=by rw[da λz=>(nL _ U).1 z.symm];exact sL _ U
  have ac:=LP (mo:=aa 2) (me:=aa 5) (s:=⟨[some X,some (.int (n:Int)),some (.ptr l),some (.ptr d),some (.int (a:Int)),some (.int (k:Int)),x6],O⟩) (s1:=⟨[some X,some (.int (n:Int)),some (.ptr l),some (.ptr d),some (.int (a:Int)),some (.int (k:Int)),x6],O⟩) (s2:=⟨[some X,some (.int (n:Int)),some (.ptr l),some (.ptr d),some (.int (a:Int)),some (.int (k:Int)),x6],O⟩) (k:=l) (i:=k) (af rfl) hl (af rfl) hl (by simpa using k1) (by omega)
  rw[b5,bi] at ac
  have dn:=pV hl
  have dr:=pV hd
  have c3:(O.set l (.lst (bf (L.eraseIdx k)))).length=O.length:=Wp
  dsimp only at ac
  generalize O.set l (.lst (bf (L.eraseIdx k)))=O1 at *
  obtain⟨q,E,eS,hq,ci⟩:=La (a:=a) ce (by omega) (by omega)
  have dL:p<O.length:=sL.lt U
  have q1:q<(O1++E).length:=pV hq
  have dV:q≠l/\q≠d:=by
   rcases ci with rfl | z
   ·exact nL _ U
   ·omega
  have e6:setM 6 (jf 2 fB (ae (AU (aa 2) (aa 5)) (ae (aa 4) ao))) ⟨[some X,some (.int (n:Int)),some (.ptr l),some (.ptr d),some (.int (a:Int)),some (.int (k:Int)),x6],O⟩=.next ⟨[some X,some (.int (n:Int)),some (.ptr l),some (.ptr d),some (.int (a:Int)),some (.int (k:Int)),some (.ptr q)],O1++E⟩:=
   bG (qV (aA ac (aA (af rfl) (aE _))) eS rfl) rfl
  have a2:=cD (E:=E) bp
  have bw:=cD (E:=E) bv
  have cm:=b9.app E
  have cn:=cc.app E
  have c4:O.length<=(O1++E).length:=by rw[Uv];omega
  generalize O1++E=O2 at *
  generalize co:gf row a=lead at *
  have clr:∀(R:List (Option D)) (z:Nat×List Int) (O:aB),z.2.length=n->SzL b z.2->O[z.1]? =some (.lst (z.2.map D.int))->O[q]? =some (.lst (lead.map D.int))->R=[some (.int (a:Int)),some (.ptr q)]->∃y E,jf 3 gu (ae (aa 0) (ae (aa 2) (ae (aa 1) ao))) ⟨some (.ptr z.1)::R,O⟩=.ok (.ptr y,⟨some (.ptr z.1)::R,O++E⟩)/\(O++E)[y]? =some (.lst ((eK lead a z.2).map D.int))/\(y=z.1\/O.length<=y):=by
   rintro _ z O zl zs h1 h2 rfl
   obtain⟨y,E,ec,g1,g2⟩:=Ek (a:=a) h1 h2 (by omega) (by omega) (by omega) (λx hx=>Bo hb (zs x hx) (bm.nth a)) (λy hy=>Bo hb (bm y hy) (zs.nth a))
   exact⟨y,E,qV (aA (af rfl) (aA (af rfl) (aA (af rfl) (aE _)))) ec rfl,g1,g2⟩
  obtain⟨L',E2,e2,m2,t2,w2⟩:=tx (l:=L.eraseIdx k) (item:=λp=>.ptr p.1) (f:=λp=>eK lead a p.2) (T:=λp z=>z=p.1) (caps:=[4,6]) (im:=listI (aa 2)) (e:=jf 3 gu (ae (aa 0) (ae (aa 2) (ae (aa 1) ao)))) (k:=some l) (R:=[some X,some (.int (n:Int)),some (.ptr l),some (.ptr d),some (.int (a:Int)),some (.int (k:Int)),some (.ptr q)]) (O:=O2)
   (λO=>O[l]? =some (.lst (bf (L.eraseIdx k)))/\Sto O (L.eraseIdx k)/\O[q]? =some (.lst (lead.map D.int))) (λO E h=>⟨cD h.1,h.2.1.app E,cD h.2.2⟩) ⟨a2,cm,hq⟩ (qo (af rfl) a2) (λO h=>h.1) (by omega) (λz hz O h=>clr _ z O (b7 _ (J hz)) (b8 _ (J hz)) (h.2.1 z hz) h.2.2 rfl)
  have a3:=cD (E:=[.lst (bf L')]) (cD (E:=E2) bw)
  have bU:(O2++E2++[.lst (bf L')])[(O2++E2).length]? =some (.lst (bf L')):=fW
  have a4:=cD (E:=[.lst (bf L')]) (cD (E:=E2) hq)
  have cp:=(cn.app E2).app [.lst (bf L')]
  have cr:=t2.app [.lst (bf L')]
  have n1:O2.length<=(O2++E2).length:=by rw[Uv];omega
  have n2:(O2++E2++[Cell.lst (bf L')]).length=(O2++E2).length+1:=by rw[Uv];rfl
  have an:∀z∈L',z.1<(O2++E2).length:=λz hz=>t2.lt hz
  generalize (O2++E2).length=l' at *
  generalize O2++E2++[Cell.lst (bf L')]=O3 at *
  have eb:∀z∈L',z.1≠l/\z.1≠d:=λz hz=>by
   rcases w2 z hz with⟨y,hy,ez⟩ | ez
   ·rw[ez];exact bn y hy
   ·omega
  obtain⟨Y,E3,e3,m3,t3,w3⟩:=tx (l:=Q) (item:=λp=>.ptr p.1) (f:=λp=>eK lead a p.2) (T:=λp z=>z=p.1) (caps:=[4,6]) (im:=listI (aa 3)) (e:=jf 3 gu (ae (aa 0) (ae (aa 2) (ae (aa 1) ao)))) (k:=some d) (R:=[some X,some (.int (n:Int)),some (.ptr l'),some (.ptr d),some (.int (a:Int)),some (.int (k:Int)),some (.ptr q)]) (O:=O3)
   (λO=>O[d]? =some (.lst (bf Q))/\Sto O Q/\O[q]? =some (.lst (lead.map D.int))) (λO E h=>⟨cD h.1,h.2.1.app E,cD h.2.2⟩) ⟨a3,cp,a4⟩ (qo (af rfl) a3) (λO h=>h.1) (by omega) (λz hz O h=>clr _ z O (dl _ (J hz)) (s2 _ (J hz)) (h.2.1 z hz) h.2.2 rfl)
  have bV:=cD (E:=[.lst (bf Y)]) (cD (E:=E3) bU)
  have ap:(O3++E3++[.lst (bf Y)])[(O3++E3).length]? =some (.lst (bf Y)):=fW
  have bW:=cD (E:=[.lst (bf Y)]) (cD (E:=E3) a4)
  have cs:=t3.app [.lst (bf Y)]
  have cu:=(cr.app E3).app [.lst (bf Y)]
  have n3:O3.length<=(O3++E3).length:=by rw[Uv];omega
  have as:∀z∈Y,z.1<(O3++E3).length:=λz hz=>t3.lt hz
  generalize (O3++E3).length=d' at *
  generalize O3++E3++[Cell.lst (bf Y)]=O4 at *
  have cw:∀z∈Y,z.1≠l':=λz hz=>by
   rcases w3 z hz with⟨y,hy,ez⟩ | ez
   ·have:=sQ.lt hy
    omega
   ·omega
  have lq:Y.length=Q.length:=by
   have:=congrArg Vk m3
   simpa using this
  refine⟨O4.set d' (.lst (bf Y++[.ptr q])),l',d',L',Y++[(q,lead)],some (.int (k:Int)),some (.ptr q), ?_, ?_, ?_,by omega, ?_, ?_, ?_, ?_, ?_, ?_⟩
  ·rw[j4]
   exact ba e5 (jg (gQ (aK (af rfl) (aD _ _) (Fx _ _))) rfl (ba e6 (ba (bG e2 rfl) (ba (bG e3 rfl) (df (qq (af rfl) ap (af rfl) ap (by simp;omega) rfl))))))
  ·rw[da (by omega)];exact bV
  ·rw[ic ap];simp
  ·exact cu.set (λz hz=>by have:=an z hz;omega) _
  ·intro z hz
   rcases Uj.mp hz with y | y
   ·exact(cs.set (k:=d') (λz hz=>by have:=as z hz;omega) _) z y
   ·rw[Ul.mp y]
    rw[da (by omega)];exact bW
  ·intro z hz
   have:=an z hz
   omega
  ·intro z hz
   rcases Uj.mp hz with y | y
   ·have:=as z y
    exact⟨cw z y,by omega⟩
   ·rw[Ul.mp y]
    dsimp only
    omega
  ·rw[m2,Uh];rfl
  ·rw[UJ,m3,Uh];rfl
theorem Fb{n b:Nat}{rows:List (List Int)}(hn:n<=1000)(hc:rows.length<=1000)(hl:∀r∈rows,r.length=n)(hs:dR b rows)(hb:grow b rows.length<=60000000):∃d O Q,rm [vII rows,.int (n:Int)] []=.ok (.ptr d,O)/\O[d]? =some (.lst (bf Q))/\Sto O Q/\(∀p∈Q,p.1≠d)/\Q.map (·.2)=bT rows n:=by
 obtain⟨J,E0,e2,m0,t0,_⟩:=tx (l:=rows) (item:=vI) (f:=low) (T:=λ_ _=>False) (caps:=[]) (im:=listI (aa 0)) (e:=gn 1 jk (ae (aa 0) ao)) (k:=none) (R:=[some (vII rows),some (.int (n:Int)),none,none,none,none,none]) (O:=[]) (λ_=>True) (λ_ _ _=>trivial) trivial (by simp) (λ_ _=>trivial) (by omega) (λr hr O _=>by
  refine⟨O.length,[.lst ((low r).map D.int)],kB (aA (af rfl) (aE _)) (zX r (by rw[hl r hr];omega)) (ny _) rfl (gz _ _) ?_,fW,.inr (Ud _)⟩
  simp)
 rw[Uw] at e2 t0
 have e3:setM 3 (ke ao) ⟨[some (vII rows),some (.int (n:Int)),some (.ptr E0.length),none,none,none,none],E0++[.lst (bf J)]⟩=.next ⟨[some (vII rows),some (.int (n:Int)),some (.ptr E0.length),some (.ptr (E0.length+1)),none,none,none],E0++[.lst (bf J)]++[.lst []]⟩:=
  bG (pJ (aE _) (by decide) (by simp) rfl) rfl
 have ab:∀a,a<=n->∃(L Q:List (Nat×List Int)) (O:aB) (l d:Nat) (x4 U Y:Option D),PSz n b a rows (L.map (·.2)) (Q.map (·.2))/\O[l]? =some (.lst (bf L))/\O[d]? =some (.lst (bf Q))/\l≠d/\Sto O L/\Sto O Q/\(∀p∈L,p.1≠l/\p.1≠d)/\(∀p∈Q,p.1≠l/\p.1≠d)/\
  cR (okC (dP 0 (n:Int)) none) (aG 4) j4 ((T9 n).map λ(i:Nat)=>D.int (i:Int)) ⟨[some (vII rows),some (.int (n:Int)),some (.ptr E0.length),some (.ptr (E0.length+1)),none,none,none],E0++[.lst (bf J)]++[.lst []]⟩=
  cR (okC (dP 0 (n:Int)) none) (aG 4) j4 (((T9 n).drop a).map λ(i:Nat)=>D.int (i:Int)) ⟨[some (vII rows),some (.int (n:Int)),some (.ptr l),some (.ptr d),x4,U,Y],O⟩:=by
  intro a
  induction a with
  | zero=>
   intro _
   have st:=PSz.start hl hs
   rw[<- m0] at st
   refine⟨J,[],_,E0.length,E0.length+1,none,none,none,st,cD fW, ?_,by omega,(t0.app _).app _,(λp hp=>by cases hp),λp hp=> ?_,(λp hp=>by cases hp),rfl⟩
   ·have:(E0++[Cell.lst (bf J)]).length=E0.length+1:=by simp
    rw[<- this];exact fW
   ·have:=t0.lt hp
    omega
  | succ a ih=>
   intro ha
   obtain⟨L,Q,O,l,d,x4,U,Y,P,h1,h2,am,sL,sQ,nL,nQ,e⟩:=ih (by omega)
   have a0:=P.cnt
   rw[T3,T3] at a0
   have hb':grow b (Q.map (·.2)).length<=60000000:=UI (zc (by rw[T3];omega)) hb
   obtain⟨O',l',d',L',Q',y5,y6,eb,q1,q2,q3,q4,q5,q6,q7,q8,q9⟩:=CW (X:=vII rows) (x5:=U) (x6:=Y) h1 h2 am sL sQ nL nQ P.ll P.dl (show a<n by omega) hn (by omega) (by omega) P.ls P.ds hb'
   have P':=P.step hl (by omega)
   rw[<- q8,<- q9] at P'
   refine⟨L',Q',O',l',d',some (.int (a:Int)),y5,y6,P',q1,q2,q3,q4,q5,q6,q7, ?_⟩
   rw[e,UT (by rw[VV];omega),Uk,cR,if_pos (show okC _ none _ from trivial)]
   rw[List.getElem_range,BB,kZ]
   rw[show (⟨List.set [some (vII rows),some (.int (n:Int)),some (.ptr l),some (.ptr d),x4,U,Y] 4 (some (.int (a:Int))),O⟩:S)=⟨[some (vII rows),some (.int (n:Int)),some (.ptr l),some (.ptr d),some (.int (a:Int)),U,Y],O⟩ from rfl,eb]
 obtain⟨L,Q,O,l,d,x4,U,Y,P,h1,h2,am,sL,sQ,nL,nQ,e⟩:=ab n (Ud n)
 rw[VS (by simp),U1,cR,if_pos (show okC _ none _ from trivial)] at e
 have hf:=dU (im:=dM (ae (aa 1) ao)) (g:=aG 4) (body:=j4) (s:=⟨[some (vII rows),some (.int (n:Int)),some (.ptr E0.length),some (.ptr (E0.length+1)),none,none,none],E0++[.lst (bf J)]++[.lst []]⟩) (dY (s1:=⟨[some (vII rows),some (.int (n:Int)),some (.ptr E0.length),some (.ptr (E0.length+1)),none,none,none],E0++[.lst (bf J)]++[.lst []]⟩) (n:=n) (aA (af rfl) (aE _)) (by omega))
 rw[show dP 0 (n:Int)=(T9 n).map λ(i:Nat)=>D.int (i:Int) from fv n] at hf e
 rw[e] at hf
 refine⟨d,O,Q, ?_,h2,sQ,λp hp=>(nQ p hp).2,P.done.symm⟩
 refine dD (R:=[some (vII rows),some (.int (n:Int)),some (.ptr l),some (.ptr d),x4,U,Y]) ?_
 show rn ⟨[some (vII rows),some (.int (n:Int)),none,none,none,none,none],[]⟩=_
 rw[rn]
 exact ba (bG e2 rfl) (ba e3 (ba hf (bD (af rfl))))
theorem Ko(A:List (List Int)){d:D}(h:cT d=true):aN [vII A,d]=true:=by
 rw[fT,fT,i6,i8,h]
 rfl
theorem DK(n:Nat):∀L:List (Nat×List Int),iY n (bf L)=bf (L.map λp=>(n+p.1,p.2))
 | []=>by simp[iY]
 | p::L=>by
  show iY n (.ptr p.1::bf L)=_
  unfold iY
  rw[DK n L,gz]
  rfl
theorem tM{O S:aB}{L:List (Nat×List Int)}(h:Sto O L):Sto (S++O.map (shC S.length)) (L.map λp=>(S.length+p.1,p.2)):=λq hq=>by
 obtain⟨p,hp,rfl⟩:=T4.mp hq
 dsimp only
 rw[Ui (by omega),Vs,Us,h p hp]
 simp
theorem qU{O S:aB}{k:Nat}{L:List (Nat×List Int)}(h:O[k]? =some (.lst (bf L))):(S++O.map (shC S.length))[S.length+k]? =some (.lst (bf (L.map λp=>(S.length+p.1,p.2)))):=by
 rw[Ui (by omega),Vs,Us,h]
 simp only[VO,qT,DK]
theorem Lk{n b c:Nat}{lists:List (List Int)}{row:List Int}(hn:n<=1000)(hc:lists.length<=1000)(hr:row.length=n)(hl:∀l∈lists,l.length=n)(hs:dR b lists)(am:SzL c row)(hb:b+c+10<=60000000):∃O,ei [vII lists,vI row] []=.ok (vII (eM lists row),O):=by
 have an:∀l∈lists,bB [vI row,vI l] []=.ok (.int (ay row l),[]):=λl h=>xx (by omega) λp hp=>by
  have hp':=Ve hp
  exact jY (m:=c) (n:=b) (by omega) (by omega) (am _ hp'.1) (hs l h _ hp'.2)
 have e2:=i4 (i:=2) (d3 (l:=lists) (item:=vI) (out:=λl=>.int (ay row l)) (caps:=[1]) (im:=listI (aa 0)) (e:=aO 2 bB (ae (aa 1) (ae (aa 0) ao))) (k:=none) (s:=⟨[some (vII lists),some (vI row),none,none,none,none],[]⟩) (by simp) trivial (by omega) (λl h=>
  cX (ds:=[vI row,vI l]) (by simp) (by simp) rfl (an l h) (by simp)))
 rw[show lists.map (λl=>D.int (ay row l))=(lists.map (ay row)).map D.int by rw[Uh];rfl] at e2
 have e3:=i4 (i:=3) (cX (n:=1) (f:=cQ) (ma:=ae (aa 2) ao) (s:=⟨[some (vII lists),some (vI row),some (vI (lists.map (ay row))),none,none,none],[]⟩) (s':=⟨[some (vII lists),some (vI row),some (vI (lists.map (ay row))),none,none,none],[]⟩) (ds:=[vI (lists.map (ay row))]) (by
  rw[aY,af rfl];rfl) (ny _) rfl (Hi _) (by cases dv (lists.map (ay row)) <;> simp[wg]))
 have J:fH ⟨[some (vII lists),some (vI row),none,none,none,none],[]⟩=(aP (ifS (bj (ak isD (aa 3) (aq .non))) (bO (aa 0)) cf) (aP (setM 4 (ak ixD (aa 0) (aa 3))) (aP (setM 5 (ak ixD (aa 2) (aa 3))) (bO (bZ 2 [4,5,3,2] (de (ae (aa 0) ao)) (cV (aU (aG 0) (aU (aG 1) cY)) 2) (bj (ak neD (aa 0) (aa 4))) (jo (oW 4 fg (ae (aa 1) (ae (ak ixD (aa 5) (aa 0)) (ae (aa 2) (ae (aa 3) ao)))))))))))
  ⟨[some (vII lists),some (vI row),some (vI (lists.map (ay row))),some (wg (dv (lists.map (ay row)))),none,none],[]⟩:=by
  rw[fH,cH e2]
  exact cH e3
 unfold eM
 cases e:dv (lists.map (ay row)) with
 | none=>
  rw[e] at J
  refine pb ⟨⟨[some (vII lists),some (vI row),some (vI (lists.map (ay row))),some .non,none,none],[]⟩, ?_⟩
  refine Uz J (p9 ?_)
  refine Uz (FE (s':=⟨[some (vII lists),some (vI row),some (vI (lists.map (ay row))),some .non,none,none],[]⟩) (by simp[wg])) ?_
  exact bD (af rfl)
 | some k=>
  rw[e] at J
  obtain⟨k1,k2,_⟩:=gI e
  rw[T3] at k1
  have U:lists.getD k []∈lists:=getD_mem k1
  have as:nth (lists.map (ay row)) k=ay row (lists.getD k []):=by
   unfold nth
   simp only[Fm,Us,T7 k1]
   rfl
  have e4:=i4 (i:=4) (m:=ak ixD (aa 0) (aa 3)) (s:=⟨[some (vII lists),some (vI row),some (vI (lists.map (ay row))),some (.int (k:Int)),none,none],[]⟩) (s':=⟨[some (vII lists),some (vI row),some (vI (lists.map (ay row))),some (.int (k:Int)),none,none],[]⟩) (d:=vI (lists.getD k [])) (by
   rw[dW,af rfl,aj,af rfl,aj,BP k1];rfl)
  have e5:=i4 (i:=5) (m:=ak ixD (aa 2) (aa 3)) (s:=⟨[some (vII lists),some (vI row),some (vI (lists.map (ay row))),some (.int (k:Int)),some (vI (lists.getD k [])),none],[]⟩) (s':=⟨[some (vII lists),some (vI row),some (vI (lists.map (ay row))),some (.int (k:Int)),some (vI (lists.getD k [])),none],[]⟩) (d:=.int (ay row (lists.getD k []))) (by
   rw[dW,af rfl,aj,af rfl,aj,ni (by simpa using k1),as];rfl)
  generalize Y:lists.getD k []=base at *
  have bl:=hl base U
  have bs:=hs base U
  have az:∀l∈lists,Sz (b+c+10) (ay row l):=λl h=>pU am (hs l h) (by rw[hr];exact hn)
  obtain⟨E,ab⟩:=Fi (l:=lists.zipIdx) (f:=λp=>.int (p.2:Int)) (g:=λp=>vI p.1) (p:=λp=> !decide (p.2=k)) (out:=λp=>vI (dq p.1 (ay row p.1) base (ay row base))) (caps:=[4,5,3,2]) (im:=de (ae (aa 0) ao)) (c:=bj (ak neD (aa 0) (aa 4))) (e:=jo (oW 4 fg (ae (aa 1) (ae (ak ixD (aa 5) (aa 0)) (ae (aa 2) (ae (aa 3) ao)))))) (k:=none) (R:=[some (vII lists),some (vI row),some (vI (lists.map (ay row))),some (.int (k:Int)),some (vI base),some (.int (ay row base))]) (O:=[]) (λ_=>True) (λ_ _ _=>trivial) trivial (by simp[Ja]) (λ_ _=>trivial) (by simp;omega)
   (λp hp O _=>by
    have:((p.2:Int)=(k:Int))=(p.2=k):=propext ⟨λh=>by omega,λh=>by omega⟩
    simp[this])
   (λp hp _ O _=>by
    have hm:=List.mem_zipIdx hp
    have a0:p.2<lists.length:=by omega
    have a1:p.1=lists[p.2]:=by have:=hm.2.2;simpa using this
    have ac:p.1∈lists:=by rw[a1];exact UH _
    have hv:nth (lists.map (ay row)) p.2=ay row p.1:=by
     unfold nth
     simp only[Fm,Us,T7 a0,a1]
     rfl
    refine⟨[.dead],nW (k:=O.length+0) (yG (aA (af rfl) (aA (aK (af rfl) (af rfl) (by rw[ni (by simpa using a0),hv])) (aA (af rfl) (aA (af rfl) (aE _))))) ?_ (tX (one:=p.1) (v:=ay row p.1) (other:=base) (w:=ay row base) (by rw[hl p.1 ac];omega) (λx hx=>jY (m:=b) (n:=b+c+10) (by omega) (by omega) (hs p.1 ac x hx) (az base U)) (λx hx=>jY (m:=b) (n:=b+c+10) (by omega) (by omega) (bs x hx) (az p.1 ac))) (by simp) rfl rfl ?_ (gz _ _) rfl) ?_ ?_⟩
    ·simp
    ·simp[uV,qg]
    ·rw[Uk,U1,qT,ou]
     exact fW
    ·rw[Uk,U1,qT,ou]
     exact IK _ _ _)
  refine pb ⟨⟨[some (vII lists),some (vI row),some (vI (lists.map (ay row))),some (.int (k:Int)),some (vI base),some (.int (ay row base))],[]++E⟩, ?_⟩
  refine Uz J ?_
  refine Uz (cH (s':=⟨[some (vII lists),some (vI row),some (vI (lists.map (ay row))),some (.int (k:Int)),none,none],[]⟩) (Uz (lN (s':=⟨[some (vII lists),some (vI row),some (vI (lists.map (ay row))),some (.int (k:Int)),none,none],[]⟩) (by simp[wg])) rfl)) ?_
  refine Uz (cH e4) ?_
  refine Uz (cH e5) ?_
  refine Uz (bD ab) ?_
  dsimp only
  rw[Y,A2 lists k (λl=>vI (dq l (ay row l) base (ay row base)))]
  show Out.ret (.lst _) _=Out.ret (.lst ((List.map _ _).map vI)) _
  rw[Uh]
  rfl
theorem Fs{n c:Nat}{rows:List (List Int)}(hn:n<=1000)(hc:rows.length<=1000)(hl:∀r∈rows,r.length=n)(hs:dR c rows)(hb:lP c n<=60000000):∃d O Q,qS [vII rows,.int (n:Int)] []=.ok (.ptr d,O)/\O[d]? =some (.lst (bf Q))/\Sto O Q/\(∀p∈Q,p.1≠d)/\Q.map (·.2)=br rows n:=by
 have e2:=i4 (i:=2) (cX (n:=1) (f:=kL) (ma:=ae (aa 1) ao) (s:=⟨[some (vII rows),some (.int (n:Int)),none,none],[]⟩) (s':=⟨[some (vII rows),some (.int (n:Int)),none,none],[]⟩) (ds:=[.int (n:Int)]) (by rw[aY,af rfl];rfl) (by simp) rfl (Hm (by omega)) (by simp))
 obtain⟨s',e,R,lists,e0,U,Y,a2,P,h1⟩:=eZ (ok:=okC (rows.map vI) none) (g:=aG 3) (body:=qv)
  (λpre s=>∃(R lists:List (List Int)) (e:Nat) (U:Option D),pre=R.map vI/\(∀r∈R,r∈rows)/\pA n c R lists e/\s=⟨[some (vII rows),some (.int (n:Int)),some (vII lists),U],[]⟩) (λ_ _ _=>trivial) (rows.map vI) [] (by
   rintro pre d rest ed s ⟨R,lists,e,U,rfl,Y,P,rfl⟩
   have hd:d∈rows.map vI:=by rw[Uw] at ed;rw[ed];simp
   obtain⟨row,J,rfl⟩:=T4.mp hd
   have ab:=P.cnt
   have hz:=O5 (c:=c) (e:=e) (n:=n) (by omega)
   obtain⟨O,eo⟩:=Lk (b:=tk c e) (c:=c) hn (by omega) (hl row J) P.ll P.sz (hs row J) (by omega)
   obtain⟨e',P'⟩:=P.step (hl row J) (hs row J) hn
   refine⟨_,⟨[some (vII rows),some (.int (n:Int)),some (vII (eM lists row)),some (vI row)],[]⟩,rfl,.inl ?_,R++[row],_,e',some (vI row),by simp, ?_,P',rfl⟩
   ·rw[qv]
    exact i4 (i:=2) (cX (n:=2) (f:=ei) (ma:=ae (aa 2) (ae (aa 3) ao)) (s:=⟨[some (vII rows),some (.int (n:Int)),some (vII lists),some (vI row)],[]⟩) (s':=⟨[some (vII rows),some (.int (n:Int)),some (vII lists),some (vI row)],[]⟩) (ds:=[vII lists,vI row]) (by rw[aY,af rfl,aj,aY,af rfl];rfl) (by simp) rfl eo (by simp))
   ·intro r hr
    rcases Uj.mp hr with q | q
    ·exact Y r q
    ·rw[Ul.mp q];exact J) ⟨[some (vII rows),some (.int (n:Int)),some (vII (cS n)),none],[]⟩ ⟨[],cS n,0,none,rfl,by simp,pA.start n c,rfl⟩
 rw[Uw] at Y
 have am:R=rows:=(Vj (λa b h=>Nj h)).mp Y.symm
 subst am
 have an:lists=mG R n:=P.eq.symm
 have ab:=P.cnt
 obtain⟨d,O,Q,eo,hd,sQ,nQ,mQ⟩:=Fb (n:=n) (b:=tk c e0) (rows:=lists) hn (by omega) P.ll P.sz (by
  refine UI ?_ hb
  rw[show lists.length=n-e0 by omega]
  exact DU (by omega))
 have hf:=dU (im:=listI (aa 0)) (g:=aG 3) (body:=qv) (s:=⟨[some (vII R),some (.int (n:Int)),some (vII (cS n)),none],[]⟩) (ds:=R.map vI) (k:=none) (s1:=⟨[some (vII R),some (.int (n:Int)),some (vII (cS n)),none],[]⟩) (by simp)
 rw[e,h1] at hf
 have ap:([]++O.map (shC 0))[0+d]? =some (.lst (bf (Q.map λp=>(0+p.1,p.2)))):=qU (S:=[]) hd
 have as:Sto ([]++O.map (shC 0)) (Q.map λp=>(0+p.1,p.2)):=tM (S:=[]) sQ
 refine⟨0+d,[]++O.map (shC 0),Q.map λp=>(0+p.1,p.2), ?_,ap,as,λp hp=> ?_, ?_⟩
 ·refine dD (R:=[some (vII R),some (.int (n:Int)),some (vII lists),U]) ?_
  show rB ⟨[some (vII R),some (.int (n:Int)),none,none],[]⟩=_
  rw[rB,cH e2]
  refine Uz (cH hf) ?_
  exact bD (kB (aA (af rfl) (aA (af rfl) (aE _))) eo (by simp) rfl (gz _ _) rfl)
 ·obtain⟨q,hq,rfl⟩:=T4.mp hp
  have:=nQ q hq
  dsimp only
  omega
 ·rw[Uh,br,<- an]
  exact mQ
theorem HD{O:aB}(a b:Nat):orD O (.int (a:Int)) (.int (b:Int))=.ok (.int ((a|||b:Nat):Int)):=by
 have e:Builtin.bitOr (a:Int) (b:Int)=((a|||b:Nat):Int):=by
  unfold Builtin.bitOr Builtin.bitAnd Builtin.bitNot
  rw[decide_eq_false (show ¬(0:Int)<= -(a:Int)-1 by omega),decide_eq_false (show ¬(0:Int)<= -(b:Int)-1 by omega)]
  dsimp only
  rw[show (-(-(a:Int)-1)-1).toNat=a by omega,show (-(-(b:Int)-1)-1).toNat=b by omega]
  omega
 show Res.ok (D.int (Builtin.bitOr (a:Int) (b:Int)))=_
 rw[e]
theorem IG(a b:Nat):kH [.int (a:Int),.int (b:Int)] []=.ok (.bl (decide (a|||b=b)),[]):=by
 refine dD (R:=[some (.int (a:Int)),some (.int (b:Int))]) ?_
 show mN ⟨[some (.int (a:Int)),some (.int (b:Int))],[]⟩=_
 rw[mN]
 refine bD (aK (aK (af rfl) (af rfl) (HD a b)) (af rfl) ?_)
 rw[pk]
 congr 3
 rw[eq_iff_iff]
 omega
abbrev vN(l:List Nat):D:=.lst (l.map λx:Nat=>D.int (x:Int))
theorem MH(l:List Nat):aN (l.map λx:Nat=>D.int (x:Int))=true:=by
 induction l with
 | nil=>simp
 | cons a l J=>simp[J]
theorem JW{a b:Nat}{pl:List Nat}(J:pl.length<=1000):fL [.int (a:Int),.int (b:Int),vN pl] []=.ok (.bl ((pl.filter λx=>decide (x|||(a|||b)=a|||b)).length == 2),[]):=by
 have hc:=uH (l:=pl) (item:=λx:Nat=>D.int (x:Int)) (out:=λx:Nat=>D.int (x:Int)) (p:=λx=>decide (x|||(a|||b)=a|||b)) (caps:=[3]) (im:=listI (aa 2)) (c:=bj (aO 2 kH (ae (aa 0) (ae (aa 1) ao)))) (e:=aa 0) (k:=none) (s:=⟨[some (.int (a:Int)),some (.int (b:Int)),some (vN pl),some (.int ((a|||b:Nat):Int))],[]⟩) (by
  rw[cW,af (i:=2) rfl,aj];rfl) trivial (by omega) (λx _=>gQ (ey (aA (af rfl) (aA (af rfl) (aE _))) (IG x (a|||b)) (by simp) rfl (by simp))) (λx _ _=>af rfl)
 refine dD (R:=[some (.int (a:Int)),some (.int (b:Int)),some (vN pl),some (.int ((a|||b:Nat):Int))]) ?_
 show gJ ⟨[some (.int (a:Int)),some (.int (b:Int)),some (vN pl),none],[]⟩=_
 rw[gJ]
 refine ba (bG (aK (af rfl) (af rfl) (HD a b)) rfl) (bD (aK (eI (aA hc (aE _)) (dB _)) (aD _ _) ?_))
 rw[pk,T3]
 congr 2
 rw[Vm,decide_eq_true_eq,beq_iff_eq]
 omega
theorem Hu{x:List Int}:jJ [vI x] []=.ok (.int (dE x:Nat),[]):=by
 have go:∀(l:List Int) (b:Nat) (z:Option D),∃J,cR (okC (x.map D.int) none) (aG 2) oF (l.map D.int) ⟨[some (vI x),some (.int (b:Int)),z],[]⟩=.next ⟨[some (vI x),some (.int ((l.foldl (λb y=>b*2+if 0<y then 1 else 0) b:Nat):Int)),J],[]⟩:=by
  intro l
  induction l with
  | nil=>intro b z;exact⟨z,by rw[U1,cR,if_pos (show okC (x.map D.int) none _ from trivial)];rfl⟩
  | cons y l U=>
   intro b z
   obtain⟨J,e⟩:=U (b*2+if 0<y then 1 else 0) (some (.int y))
   refine⟨J, ?_⟩
   rw[Uk,Vn]
   refine Uz (ir (s1:=⟨[some (vI x),some (.int (b:Int)),some (.int y)],[]⟩) (s2:=⟨[some (vI x),some (.int ((b*2+if 0<y then 1 else 0:Nat):Int)),some (.int y)],[]⟩) trivial rfl ?_) e
   rw[oF]
   refine ba (bG (R':=[some (vI x),some (.int ((b:Int)*2)),some (.int y)]) (aK (af rfl) (aD _ _) (dN (fD (.inr (by decide))))) rfl) ?_
   by_cases hy:0<y
   ·refine jg (iO (af rfl)) (decide_eq_true hy) (bG (d:=.int ((b*2+if 0<y then 1 else 0:Nat):Int)) (R:=[some (vI x),some (.int ((b:Int)*2)),some (.int y)]) (aK (af rfl) (aD _ _) ?_) rfl)
    rw[cj,if_pos hy]
    congr 2
   ·refine gs (iO (af rfl)) (decide_eq_false hy) ((dC _).trans ?_)
    rw[if_neg hy,show ((b*2+0:Nat):Int)=(b:Int)*2 by omega]
 obtain⟨J,e⟩:=go x 0 none
 refine dD (R:=[some (vI x),some (.int (dE x:Nat)),J]) ?_
 show lI ⟨[some (vI x),none,none],[]⟩=_
 rw[lI]
 refine ba (bG (R':=[some (vI x),some (.int ((0:Nat):Int)),none]) (aD _ _) rfl) (ba ?_ (bD (af rfl)))
 exact(dU (im:=listI (aa 0)) (ds:=x.map D.int) (k:=none) (s1:=⟨[some (vI x),some (.int ((0:Nat):Int)),none],[]⟩) (by rw[cW,af (i:=0) rfl,aj];rfl)).trans e
theorem uZ{α:Type}{O:aB}{f:α->D}{l:List α}{i:Nat}{a:α}(h:l[i]? =some a):ixD O (.lst (l.map f)) (.int (i:Int))=.ok (f a):=by
 have hi:i<l.length:=by
  by_cases z:i<l.length
  ·exact z
  ·rw[Wl (by omega)] at h;cases h
 refine o9 ?_
 rw[nH (by simpa using hi)]
 rw[T7 hi] at h
 cases h
 simp
structure Wrk(n:Nat)(L:List (Nat×List Int))(row:List Int)(b:Nat):Prop where
 len:∀p∈L,p.2.length=n
 nn:∀p∈L,∀i,0<=nth p.2 i
 few:L.length<64
 rl:row.length=n
 n7:n<=1000
 sz:dR b (L.map (·.2))
 rz:SzL b row
 bb:2*b+20<=60000000
theorem Wrk.dz{n:Nat}{L:List (Nat×List Int)}{row:List Int}{b:Nat}(h:Wrk n L row b){p:Nat×List Int}(hp:p∈L):Sz (b+b+10) (ay row p.2):=pU h.rz (h.sz _ (UW hp)) (by rw[h.rl];exact h.n7)
theorem Ph{n:Nat}{L:List (Nat×List Int)}{row:List Int}{b:Nat}(h:Wrk n L row b){p q:Nat×List Int}(hp:p∈L)(hq:q∈L):(((L.map λx=>dE x.2).filter λx=>decide (x|||(dE p.2|||dE q.2)=dE p.2|||dE q.2)).length == 2)=nbB n (L.map (·.2)) p.2 q.2:=by
 unfold nbB
 rw[VB,T3,VB,T3]
 congr 2
 refine List.filter_congr λx hx=> ?_
 show decide (dE x.2|||(dE p.2|||dE q.2)=dE p.2|||dE q.2)=subB n x.2 p.2 q.2
 exact bits_sub (h.len x hx) (h.len p hp) (h.len q hq) (h.nn x hx) (h.nn p hp) (h.nn q hq)
structure Iv(L T:List (Nat×List Int))(t:Nat)(O:aB):Prop where
 told:O[t]? =some (.lst (bf T))
 l:Sto O L
 s:Sto O T
 tn:∀p∈T,p.1≠t
 ln:∀p∈L,p.1≠t
abbrev mR(L:List (Nat×List Int))(row:List Int)(t:Nat)(ab bl:List Nat)(x7 x8:Option D):List (Option D):=[some (.lst (bf L)),some (vI row),some (.lst (L.map λp=>.int (ay row p.2))),some (vN (L.map λp=>dE p.2)),some (.ptr t),some (vN ab),some (vN bl),x7,x8]
theorem BV{n:Nat}{L:List (Nat×List Int)}{row:List Int}{b t:Nat}{ab bl:List Nat}(h:Wrk n L row b){J:(Nat×List Int)×Nat}(hh:L[J.2]? =some J.1)(K:List D):∀(U:List ((Nat×List Int)×Nat)) (T:List (Nat×List Int)) (O:aB) (x8:Option D),(∀q∈U,L[q.2]? =some q.1)->T.length+U.length<=100000->Iv L T t O->
 ∃Y O' y8,cR (okC K none) (aG 8) gk (U.map λq=>D.int (q.2:Int)) ⟨mR L row t ab bl (some (.int (J.2:Int))) x8,O⟩=.next ⟨mR L row t ab bl (some (.int (J.2:Int))) y8,O'⟩/\Iv L Y t O'/\Y.length<=T.length+U.length/\
  Y.map (·.2)=T.map (·.2)++((U.filter λq=>nbB n (L.map (·.2)) J.1.2 q.1.2).map λq=>dq q.1.2 (ay row q.1.2) J.1.2 (ay row J.1.2))
 | [],T,O,x8,_,_,iv=>⟨T,O,x8,by rw[U1,cR,if_pos (show okC K none _ from trivial)],iv,by simp,by simp⟩
 | q::U,T,O,x8,hb,hl,iv=>by
  have hq:=hb q Ug
  have mh:J.1∈L:=UF hh
  have mq:q.1∈L:=UF hq
  have hb':=λz hz=>hb z (Ub _ hz)
  rw[Uq] at hl
  have as:bj (aO 3 fL (ae (ak ixD (aa 3) (aa 7)) (ae (ak ixD (aa 3) (aa 8)) (ae (aa 3) ao)))) ⟨mR L row t ab bl (some (.int (J.2:Int))) (some (.int (q.2:Int))),O⟩=.ok (nbB n (L.map (·.2)) J.1.2 q.1.2,⟨mR L row t ab bl (some (.int (J.2:Int))) (some (.int (q.2:Int))),O⟩):=by
   rw[<- Ph h mh mq]
   refine gQ (ey (aA (aK (af rfl) (af rfl) (uZ (f:=λx:Nat=>D.int (x:Int)) (l:=L.map λp=>dE p.2) (a:=dE J.1.2) (by rw[Us,hh];rfl))) (aA (aK (af rfl) (af rfl) (uZ (f:=λx:Nat=>D.int (x:Int)) (l:=L.map λp=>dE p.2) (a:=dE q.1.2) (by rw[Us,hq];rfl))) (aA (af rfl) (aE _)))) (JW (by rw[T3];have:=h.few;omega)) ?_ rfl (by simp))
   rw[fT,fT,fT,EW,zm,zm,i6,MH];rfl
  rw[Uk]
  cases hn:nbB n (L.map (·.2)) J.1.2 q.1.2 with
  | false=>
   obtain⟨Y,O',y8,e,a1,a2,a3⟩:=BV h hh K U T O (some (.int (q.2:Int))) hb' (by omega) iv
   refine⟨Y,O',y8, ?_,a1,by rw[Uq];omega,by rw[a3,UN (by rw[hn];decide)]⟩
   refine Uz (ir (s1:=⟨mR L row t ab bl (some (.int (J.2:Int))) (some (.int (q.2:Int))),O⟩) (s2:=⟨mR L row t ab bl (some (.int (J.2:Int))) (some (.int (q.2:Int))),O⟩) trivial rfl ?_) e
   rw[gk]
   exact gs as hn (dC _)
  | true=>
   have zq:=h.sz _ (UW (f:=(·.2)) mq)
   have zh:=h.sz _ (UW (f:=(·.2)) mh)
   have off:=tX (one:=q.1.2) (other:=J.1.2) (v:=ay row q.1.2) (w:=ay row J.1.2) (by rw[h.len _ mq];have:=h.n7;omega) (λa ha=>jY (by have:=h.bb;omega) (by have:=h.bb;omega) (zq a ha) (h.dz mh)) (λa ha=>jY (by have:=h.bb;omega) (by have:=h.bb;omega) (zh a ha) (h.dz mq))
   have call:oW 4 fg (ae (ak ixD (aa 0) (aa 8)) (ae (ak ixD (aa 2) (aa 8)) (ae (ak ixD (aa 0) (aa 7)) (ae (ak ixD (aa 2) (aa 7)) ao)))) ⟨mR L row t ab bl (some (.int (J.2:Int))) (some (.int (q.2:Int))),O⟩=.ok (.ptr O.length,⟨mR L row t ab bl (some (.int (J.2:Int))) (some (.int (q.2:Int))),O++[.lst ((dq q.1.2 (ay row q.1.2) J.1.2 (ay row J.1.2)).map D.int)]⟩):=by
    refine yG (aA (aK (af rfl) (af rfl) (uZ (f:=λp:Nat×List Int=>D.ptr p.1) hq)) (aA (aK (af rfl) (af rfl) (uZ (f:=λp:Nat×List Int=>D.int (ay row p.2)) hq)) (aA (aK (af rfl) (af rfl) (uZ (f:=λp:Nat×List Int=>D.ptr p.1) hh)) (aA (aK (af rfl) (af rfl) (uZ (f:=λp:Nat×List Int=>D.int (ay row p.2)) hh)) (aE _))))) (rs:=[vI q.1.2,.int (ay row q.1.2),vI J.1.2,.int (ay row J.1.2)]) ?_ off (by simp) rfl rfl ?_ (gz _ _) ?_
    ·simp only[ip,lZ,kx (iv.l _ mq),kx (iv.l _ mh),LC,kP,jb]
    ·simp[uV,qg]
    ·simp
   have a6:Iv L (T++[(O.length,dq q.1.2 (ay row q.1.2) J.1.2 (ay row J.1.2))]) t ((O++[Cell.lst ((dq q.1.2 (ay row q.1.2) J.1.2 (ay row J.1.2)).map D.int)]).set t (Cell.lst (bf T++[D.ptr O.length]))):=by
    have tl:=pV iv.told
    have ac:(O++[Cell.lst ((dq q.1.2 (ay row q.1.2) J.1.2 (ay row J.1.2)).map D.int)])[t]? =some (.lst (bf T)):=cD iv.told
    refine⟨by rw[ic ac];simp[bf],(iv.l.app _).set iv.ln _,λp hp=> ?_,λp hp=> ?_,iv.ln⟩
    ·rcases Uj.mp hp with hp | hp
     ·exact((iv.s.app _).set iv.tn _) p hp
     ·rw[Ul.mp hp]
      dsimp only
      rw[da (by omega)]
      simp
    ·rcases Uj.mp hp with hp | hp
     ·exact iv.tn p hp
     ·rw[Ul.mp hp];dsimp only;omega
   obtain⟨Y,O',y8,e,a1,a2,a3⟩:=BV h hh K U (T++[(O.length,dq q.1.2 (ay row q.1.2) J.1.2 (ay row J.1.2))]) _ (some (.int (q.2:Int))) hb' (by rw[Uv,UM];omega) a6
   refine⟨Y,O',y8, ?_,a1,by rw[Uv,UM] at a2;rw[Uq];omega,by rw[a3,UC (p:=λq:(Nat×List Int)×Nat=>nbB n (L.map (·.2)) J.1.2 q.1.2) (a:=q) (l:=U) hn,UJ,Uk,UX];rfl⟩
   refine Uz (ir (s1:=⟨mR L row t ab bl (some (.int (J.2:Int))) (some (.int (q.2:Int))),O⟩) (s2:=⟨mR L row t ab bl (some (.int (J.2:Int))) (some (.int (q.2:Int))),(O++[Cell.lst ((dq q.1.2 (ay row q.1.2) J.1.2 (ay row J.1.2)).map D.int)]).set t (Cell.lst (bf T++[D.ptr O.length]))⟩) trivial rfl ?_) e
   rw[gk]
   exact jg as hn (df (qq (af rfl) iv.told call (cD iv.told) (by rw[T3];omega) rfl))
theorem DD{n:Nat}{L:List (Nat×List Int)}{row:List Int}{b t:Nat}{ab:List Nat}{J:List ((Nat×List Int)×Nat)}(h:Wrk n L row b)(hB:∀q∈J,L[q.2]? =some q.1)(an:J.length<=64)(K:List D):∀(Y:List ((Nat×List Int)×Nat)) (T:List (Nat×List Int)) (O:aB) (x7 U:Option D),(∀q∈Y,L[q.2]? =some q.1)->T.length+Y.length*64<=10000->Iv L T t O->
 ∃T' O' y7 y8,cR (okC K none) (aG 7) jh (Y.map λq=>D.int (q.2:Int)) ⟨mR L row t ab (J.map (·.2)) x7 U,O⟩=.next ⟨mR L row t ab (J.map (·.2)) y7 y8,O'⟩/\Iv L T' t O'/\
  T'.map (·.2)=T.map (·.2)++Y.flatMap λa=>(J.filter λq=>nbB n (L.map (·.2)) a.1.2 q.1.2).map λq=>dq q.1.2 (ay row q.1.2) a.1.2 (ay row a.1.2)
 | [],T,O,x7,U,_,_,iv=>⟨T,O,x7,U,by rw[U1,cR,if_pos (show okC K none _ from trivial)],iv,by simp⟩
 | a::Y,T,O,x7,U,hA,hl,iv=>by
  rw[Uq] at hl
  obtain⟨T1,O1,y8,e1,i1,l1,m1⟩:=BV (ab:=ab) (bl:=J.map (·.2)) h (hA a Ug) ((J.map (·.2)).map λx:Nat=>D.int (x:Int)) J T O U hB (by omega) iv
  obtain⟨T2,O2,z7,z8,e2,i2,m2⟩:=DD (ab:=ab) h hB an K Y T1 O1 (some (.int (a.2:Int))) y8 (λq hq=>hA q (Ub _ hq)) (by omega) i1
  refine⟨T2,O2,z7,z8, ?_,i2,by rw[m2,m1,List.flatMap_cons,UX]⟩
  rw[Uk]
  refine Uz (ir (s1:=⟨mR L row t ab (J.map (·.2)) (some (.int (a.2:Int))) U,O⟩) (s2:=⟨mR L row t ab (J.map (·.2)) (some (.int (a.2:Int))) y8,O1⟩) trivial rfl ?_) e2
  rw[jh]
  refine(dU (im:=listI (aa 6)) (ds:=(J.map (·.2)).map λx:Nat=>D.int (x:Int)) (k:=none) (s1:=⟨mR L row t ab (J.map (·.2)) (some (.int (a.2:Int))) U,O⟩) (by rw[cW,af (i:=6) rfl,aj];rfl)).trans ?_
  rw[Uh] at e1 ⊢
  exact e1
theorem Mw {α:Type} {caps:List Nat} {im:IM} {c:TM} {e:EM} {s:S} {k:Option Nat} {l:List α} {p:α->Bool} {out:α->D} {f g:α->D} (J:im s=.ok ((l.map (λa=>D.tup [f a,g a]),k),s)) (U:okC (l.map (λa=>D.tup [f a,g a])) k s.o) (Y:l.length<=16777216)
 (hc:∀a∈l,c ⟨some (f a)::some (g a)::caps.map (λi=>(s.r[i]?).getD none),s.o⟩=.ok (p a,⟨some (f a)::some (g a)::caps.map (λi=>(s.r[i]?).getD none),s.o⟩))
 (he:∀a∈l,p a=true->e ⟨some (f a)::some (g a)::caps.map (λi=>(s.r[i]?).getD none),s.o⟩=.ok (out a,⟨some (f a)::some (g a)::caps.map (λi=>(s.r[i]?).getD none),s.o⟩)):
 lM 2 caps im (cV (aU (aG 0) (aU (aG 1) cY)) 2) c e s=.ok (.ptr s.o.length,⟨s.r,s.o++[.lst ((l.filter p).map out)]⟩):=by
 rw[wL,A6 J U Y hc he,aj]
theorem IW{α:Type}(f g:α->D):∀l:List α,lQ (l.map f) (l.map g)=l.map λa=>.tup [f a,g a]:=λl=>by
 unfold lQ
 rw[XT,List.zipWith_self]
theorem BE{α:Type}(p:α->Bool)(l:List α):(l.zipIdx.filter λq=>p q.1).map (·.1)=l.filter p:=by
 have h:(l.zipIdx.map (·.1))=l:=by simp
 conv=>rhs;rw[<- h,VB]
 rfl
theorem KW{n:Nat}{L:List (Nat×List Int)}{row:List Int}{b:Nat}{O:aB}(h:Wrk n L row b)(Y:Sto O L):∃L' O',fZ [.lst (bf L),vI row] O=.ok (.lst (bf L'),O')/\L'.map (·.2)=d5 n (L.map (·.2)) row/\Sto O' L':=by
 have few:=h.few
 have dz:∀p∈L,bB [vI row,vI p.2] []=.ok (.int (ay row p.2),[]):=λp hp=>xx (by rw[h.rl];have:=h.n7;omega) λq hq=>jY (by have:=h.bb;omega) (by have:=h.bb;omega) (h.rz _ (Ve hq).1) (h.sz _ (UW hp) _ (Ve hq).2)
 have v2:=d3 (l:=L) (item:=λp=>.ptr p.1) (out:=λp=>.int (ay row p.2)) (caps:=[1]) (im:=listI (aa 0)) (e:=jc 2 bB (ae (aa 1) (ae (aa 0) ao))) (k:=none) (s:=⟨[some (.lst (bf L)),some (vI row),none,none,none,none,none,none,none],O⟩) (by rw[cW,af (i:=0) rfl,aj];rfl) trivial (by omega)
  (λp hp=>uM (aA (af rfl) (aA (af rfl) (aE _))) (rs:=[vI row,vI p.2]) (by simp only[ip,lZ,kx (Y p hp),kP,jb]) (dz p hp) (by simp) rfl rfl)
 have v3:=d3 (l:=L) (item:=λp=>.ptr p.1) (out:=λp=>.int (dE p.2:Nat)) (caps:=[]) (im:=listI (aa 0)) (e:=jc 1 jJ (ae (aa 0) ao)) (k:=none) (s:=⟨[some (.lst (bf L)),some (vI row),some (.lst (L.map λp=>.int (ay row p.2))),none,none,none,none,none,none],O⟩) (by rw[cW,af (i:=0) rfl,aj];rfl) trivial (by omega)
  (λp hp=>uM (aA (af rfl) (aE _)) (rs:=[vI p.2]) (by simp only[ip,lZ,kx (Y p hp),kP,jb]) Hu (by simp) rfl rfl)
 rw[show (L.map λp=>D.int (dE p.2:Nat))=(L.map λp=>dE p.2).map (λx:Nat=>D.int (x:Int)) by rw[Uh];rfl] at v3
 have v4:=Mw (l:=L) (f:=λp=>.ptr p.1) (g:=λp=>.int (ay row p.2)) (p:=λp=>decide (ay row p.2=0)) (out:=λp=>.ptr p.1) (caps:=[]) (im:=tR (ae (aa 0) (ae (aa 2) ao))) (c:=bj (ak eqD (aa 1) (aq (.int 0)))) (e:=aa 0) (k:=none) (s:=⟨[some (.lst (bf L)),some (vI row),some (.lst (L.map λp=>.int (ay row p.2))),some (vN (L.map λp=>dE p.2)),none,none,none,none,none],O⟩) (by
  rw[K7,aY,af (i:=0) rfl,aj]
  dsimp only
  rw[aY,af (i:=2) rfl,aj]
  dsimp only
  rw[aE,aj,aj,aj]
  dsimp only
  rw[IW]) trivial (by omega) (λp _=>gQ (aK (af rfl) (aD _ _) (pk _ _))) (λp _ _=>af rfl)
 have U:∀(R:List (Option D)) (P:aB),R[2]? =some (some (.lst (L.map λp=>.int (ay row p.2))))->de (ae (aa 2) ao) ⟨R,P⟩=.ok ((L.zipIdx.map λq=>D.tup [.int (q.2:Int),.int (ay row q.1.2)],none),⟨R,P⟩):=λR P hR=>by
  rw[lO,aY,af (i:=2) hR,aj]
  dsimp only
  rw[aE,aj,aj]
  dsimp only
  rw[show dQ (L.map λp=>D.int (ay row p.2))=L.zipIdx.map λq=>D.tup [.int (q.2:Int),.int (ay row q.1.2)] by
   unfold dQ
   rw[VF,Wu,Uh]
   rfl]
 have zl:L.zipIdx.length=L.length:=by simp
 have vn:∀Z:List ((Nat×List Int)×Nat),(Z.map λq=>D.int (q.2:Int))=(Z.map (·.2)).map λx:Nat=>D.int (x:Int):=λZ=>by rw[Uh];rfl
 have v5:=D1 (l:=L.zipIdx) (f:=λq=>.int (q.2:Int)) (g:=λq=>.int (ay row q.1.2)) (p:=λq=>decide (0<ay row q.1.2)) (out:=λq=>.int (q.2:Int)) (caps:=[]) (im:=de (ae (aa 2) ao)) (c:=bj (ak gtD (aa 1) (aq (.int 0)))) (e:=aa 0) (k:=none) (s:=⟨[some (.lst (bf L)),some (vI row),some (.lst (L.map λp=>.int (ay row p.2))),some (vN (L.map λp=>dE p.2)),some (.ptr O.length),none,none,none,none],O++[.lst ((L.filter λp=>decide (ay row p.2=0)).map λp=>.ptr p.1)]⟩) (U _ _ rfl) trivial (by omega) (λq _=>gQ (aK (af rfl) (aD _ _) (o5 _ _))) (λq _ _=>af rfl)
 generalize hA:(L.zipIdx.filter λq=>decide (0<ay row q.1.2))=J at v5
 rw[vn] at v5
 have v6:=D1 (l:=L.zipIdx) (f:=λq=>.int (q.2:Int)) (g:=λq=>.int (ay row q.1.2)) (p:=λq=>decide (ay row q.1.2<0)) (out:=λq=>.int (q.2:Int)) (caps:=[]) (im:=de (ae (aa 2) ao)) (c:=bj (ak ltD (aa 1) (aq (.int 0)))) (e:=aa 0) (k:=none) (s:=⟨[some (.lst (bf L)),some (vI row),some (.lst (L.map λp=>.int (ay row p.2))),some (vN (L.map λp=>dE p.2)),some (.ptr O.length),some (vN (J.map (·.2))),none,none,none],O++[.lst ((L.filter λp=>decide (ay row p.2=0)).map λp=>.ptr p.1)]⟩) (U _ _ rfl) trivial (by omega) (λq _=>gQ (aK (af rfl) (aD _ _) (vb _ _))) (λq _ _=>af rfl)
 generalize hB:(L.zipIdx.filter λq=>decide (ay row q.1.2<0))=Bs at v6
 rw[vn] at v6
 have at_:∀q∈L.zipIdx,L[q.2]? =some q.1:=λq hq=>List.mem_zipIdx_iff_getElem?.mp hq
 have mA:∀q∈J,L[q.2]? =some q.1:=λq hq=>at_ q (by rw[<- hA] at hq;exact(Uy.mp hq).1)
 have mB:∀q∈Bs,L[q.2]? =some q.1:=λq hq=>at_ q (by rw[<- hB] at hq;exact(Uy.mp hq).1)
 have lA:J.length<=L.length:=by rw[<- hA,<- zl];exact Wn _ _
 have lB:Bs.length<=L.length:=by rw[<- hB,<- zl];exact Wn _ _
 have sub:∀p∈L.filter (λp=>decide (ay row p.2=0)),p∈L:=λp hp=>(Uy.mp hp).1
 have lT:(L.filter λp=>decide (ay row p.2=0)).length<=L.length:=Wn _ _
 have iv:Iv L (L.filter λp=>decide (ay row p.2=0)) O.length (O++[.lst ((L.filter λp=>decide (ay row p.2=0)).map λp=>.ptr p.1)]):=⟨by simp,Y.app _,λp hp=>(Y.app _) p (sub p hp),λp hp=>UB (Y.lt (sub p hp)),λp hp=>UB (Y.lt hp)⟩
 obtain⟨T',O',y7,y8,e7,i7,m7⟩:=DD (ab:=J.map (·.2)) h mB (by omega) ((J.map (·.2)).map λx:Nat=>D.int (x:Int)) J _ _ none none mA (by omega) iv
 refine⟨T',O'.set O.length .dead, ?_, ?_,i7.s.set i7.tn _⟩
 ·refine dD (R:=mR L row O.length (J.map (·.2)) (Bs.map (·.2)) y7 y8) ?_
  show fY ⟨[some (.lst (bf L)),some (vI row),none,none,none,none,none,none,none],O⟩=_
  rw[fY]
  refine ba (bG v2 rfl) (ba (bG v3 rfl) (ba (bG v4 rfl) (ba (bG v5 rfl) (ba (bG v6 rfl) (ba ?_ (bD (nW (af rfl) i7.told rfl)))))))
  refine(dU (im:=listI (aa 5)) (ds:=(J.map (·.2)).map λx:Nat=>D.int (x:Int)) (k:=none) (s1:=⟨mR L row O.length (J.map (·.2)) (Bs.map (·.2)) none none,O++[.lst ((L.filter λp=>decide (ay row p.2=0)).map λp=>.ptr p.1)]⟩) (by rw[cW,af (i:=5) rfl,aj];rfl)).trans ?_
  rw[<- vn]
  exact e7
 ·rw[m7]
  unfold d5
  rw[VB,VB,VB]
  have eA:=BE (λp:Nat×List Int=>decide (0<ay row p.2)) L
  have eB:=BE (λp:Nat×List Int=>decide (ay row p.2<0)) L
  rw[hA] at eA
  rw[hB] at eB
  show _=(L.filter λp=>decide (ay row p.2=0)).map (·.2)++((L.filter λp:Nat×List Int=>decide (0<ay row p.2)).map (·.2)).flatMap λh=>(((L.filter λp:Nat×List Int=>decide (ay row p.2<0)).map (·.2)).filter λw=>nbB n (L.map (·.2)) h w).map λw=>dq w (ay row w) h (ay row h)
  rw[<- eA,<- eB]
  congr 1
  rw[XW,XW]
  refine congrArg (λF=>J.flatMap F) (funext λa=> ?_)
  rw[Uh,VB,Uh]
  rfl
theorem Gh {α:Type} {l:List α} {item:α->D} {f:α->List Int} {T:α->Nat->Prop} {caps:List Nat} {im:IM} {e:EM} {k:Option Nat} {R:List (Option D)} {O:aB} (I:aB->Prop) (Y:∀O E,I O->I (O++E)) (h0:I O) (J:im ⟨R,O⟩=.ok ((l.map item,k),⟨R,O⟩)) (U:∀O,I O->okC (l.map item) k O) (hl:l.length<=1000000)
 (he:∀a∈l,∀O,I O->∃q E,e ⟨some (item a)::caps.map (λi=>(R[i]?).getD none),O⟩=.ok (.ptr q,⟨some (item a)::caps.map (λi=>(R[i]?).getD none),O++E⟩)/\(O++E)[q]? =some (.lst ((f a).map D.int))/\(T a q\/O.length<=q)):
 ∃(L:List (Nat×List Int)) (E:aB),bZ 1 caps im (aG 0) cg e ⟨R,O⟩=.ok (.lst (bf L),⟨R,O++E⟩)/\L.map (·.2)=l.map f/\Sto (O++E) L:=by
 obtain⟨L,E,x',e1,e2,e3,e4⟩:=si (ok:=okC (l.map item) k) (e:=e) (cap:=caps.map (λi=>(R[i]?).getD none)) (T:=T) I Y U l [] none O h0 (by simp;omega) he
 refine⟨L,E, ?_,e2,e3⟩
 rw[nI,pX,J,aj]
 dsimp only
 rw[show ng 1 caps R=none::caps.map (λi=>(R[i]?).getD none) from rfl,e1,aj,aj]
 rfl
theorem Mu{n a:Nat}(ha:a<n)(hn:n<=1000000):qY [.int (a:Int),.int (n:Int)] []=.ok (.ptr 0,[.lst ((fb n a).map D.int)]):=by
 have h1:=i4 (i:=2) (Uz (KQ (fin:=qK) (mk:=aa 1) (s:=⟨[some (.int (a:Int)),some (.int (n:Int)),none],[]⟩) (n:=n) (by simp) hn) (yL _ _))
 have h2:kS (aq (.int 1)) (oC (aa 2) (aa 0)) ⟨[some (.int (a:Int)),some (.int (n:Int)),some (.ptr 0)],[.lst ((Uo n (0:Int)).map D.int)]⟩=.next ⟨[some (.int (a:Int)),some (.int (n:Int)),some (.ptr 0)],[.lst ((fb n a).map D.int)]⟩:=by
  rw[yc,aD,aj,r8 (k:=0) (a:=a) (ds:=(Uo n (0:Int)).map D.int) (s1:=⟨[some (.int (a:Int)),some (.int (n:Int)),some (.ptr 0)],[.lst ((Uo n (0:Int)).map D.int)]⟩) (s2:=⟨[some (.int (a:Int)),some (.int (n:Int)),some (.ptr 0)],[.lst ((Uo n (0:Int)).map D.int)]⟩) (by simp) (by simp) rfl (by simpa using ha)]
  simp[fb,W5]
 refine dD (R:=[some (.int (a:Int)),some (.int (n:Int)),some (.ptr 0)]) ?_
 show ug ⟨[some (.int (a:Int)),some (.int (n:Int)),none],[]⟩=_
 rw[ug,cH h1]
 exact ba h2 (bD (af rfl))
theorem Ik{n:Nat}(hn:n<=1000)(O:aB):∃L E,qO [.int (n:Int)] O=.ok (.lst (bf L),O++E)/\L.map (·.2)=cS n/\Sto (O++E) L:=by
 obtain⟨L,E,e,h1,h2⟩:=Gh (l:=T9 n) (item:=λi:Nat=>D.int (i:Int)) (f:=fb n) (T:=λ_ _=>False) (caps:=[0]) (im:=dM (ae (aa 0) ao)) (e:=gn 2 qY (ae (aa 0) (ae (aa 1) ao))) (k:=none) (R:=[some (.int (n:Int))]) (O:=O) (λ_=>True) (λ_ _ _=>trivial) trivial (by
  rw[dY (n:=n) (s1:=⟨[some (.int (n:Int))],O⟩) (aA (af rfl) (aE _)) (by omega),fv]) (λ_ _=>trivial) (by rw[VV];omega) (λa ha P _=>
  ⟨P.length,[.lst ((fb n a).map D.int)],kB (aA (af rfl) (aA (af rfl) (aE _))) (Mu (UD.mp ha) (by omega)) (by simp) rfl (gz _ _) (by simp),by simp,.inr (Ud _)⟩)
 refine⟨L,E, ?_,h1,h2⟩
 refine dD (R:=[some (.int (n:Int))]) ?_
 show rj ⟨[some (.int (n:Int))],O⟩=_
 rw[rj]
 exact bD e
theorem xr{O:aB}:∀{L:List (Nat×List Int)},Sto O L->keyed O (bf L)=some (L.map λp=>(.ptr p.1,p.2))
 | [],_=>rfl
 | p::L,h=>by
  have e:=xr (L:=L) λq hq=>h q (Ub _ hq)
  have c:xK O (.ptr p.1)=some p.2:=by
   unfold xK
   rw[qQ (h p Ug)]
   exact sq _
  show keyed O (.ptr p.1::bf L)=_
  unfold keyed
  rw[c,e]
  rfl
theorem Hf(L:List (Nat×List Int)):(eE (L.map λp=>(D.ptr p.1,p.2))).map (·.1)=bf (eE L):=by
 rw[oy (g:=λp:Nat×List Int=>(D.ptr p.1,p.2)) λ_=>rfl,Uh]
 rfl
theorem wB{O:aB}{L:List (Nat×List Int)}{fin:S->List D->Res (D×S)}{me:EM}{s s1:S}{d:D}(J:me s=.ok (d,s1))(hd:lsD s1.o d=some (bf L))(U:Sto s1.o L)(Y:L.length<64)(nd:(L.map (·.2)).Nodup):uY fin me s=fin s1 (bf (eE L)):=by
 unfold uY
 rw[J,aj]
 dsimp only
 rw[hd]
 dsimp only
 rw[xr U]
 dsimp only
 rw[if_pos ⟨by rw[T3];exact Y,by rw[Uh];exact nd⟩,Hf]
def xn(V:List (List Int)):List (List Int):=(eE (V.map λx=>((),x))).map (·.2)
theorem Gu(L:List (Nat×List Int)):(eE L).map (·.2)=xn (L.map (·.2)):=by
 unfold xn
 rw[Uh,show ((λx:List Int=>((),x))∘λx:Nat×List Int=>x.2)=λp:Nat×List Int=>((),p.2) from rfl,oy (g:=λp:Nat×List Int=>((),p.2)) λ_=>rfl,Uh]
 rfl
theorem Hv(n:Nat):dR 1 (cS n):=λx hx=>by
 unfold cS at hx
 obtain⟨a,_,rfl⟩:=T4.mp hx
 exact D2 n a
structure Bz(n:Nat)(rows:List (List Int)):Prop where
 len:∀r∈rows,r.length=n
 sz:dR 200 rows
 cnt:rows.length<=5
 n7:n<=7
theorem big:u3 200 5 1<=8000:=by decide
theorem CF{n:Nat}{rows:List (List Int)}(h:Bz n rows){rs:List (List Int)}(hr:∀r∈rs,r∈rows)(U:rs.length<=5):dR 8000 (rs.foldl (d5 n) (cS n)):=by
 refine(AR rs 1 _ (λr J=>⟨h.sz r (hr r J),by rw[h.len r (hr r J)];have:=h.n7;omega⟩) (Hv n)).mono ?_
 exact UI (zR 200 rs.length 5 1 U) big
theorem ME{n:Nat}{rows:List (List Int)}(h:Bz n rows):∃k O Ls,tJ [vII rows,.int (n:Int)] []=.ok (.ptr k,O)/\O[k]? =some (.lst (bf Ls))/\Sto O Ls/\(∀p∈Ls,p.1≠k)/\Ls=eE Ls/\Ls.map (·.2)=xn (pI rows n):=by
 have n7:=h.n7
 obtain⟨L0,E0,e0,m0,s0⟩:=Ik (n:=n) (by omega) []
 rw[Uw] at e0 s0
 obtain⟨s',el,rs,L,O,x3,Y,az,J,ml⟩:=eZ (ok:=okC (rows.map vI) none) (g:=aG 3) (body:=vW)
  (λpre s=>∃(rs:List (List Int)) (L:List (Nat×List Int)) (O:aB) (x3:Option D),pre=rs.map vI/\s=⟨[some (vII rows),some (.int (n:Int)),some (.lst (bf L)),x3],O⟩/\Sto O L/\L.map (·.2)=rs.foldl (d5 n) (cS n)) (λ_ _ _=>trivial) (rows.map vI) [] (by
   rintro pre d rest ed s ⟨rs,L,O,x3,rfl,rfl,J,ml⟩
   rw[Uw] at ed
   obtain⟨U,l2,e1,e2,e3⟩:=List.map_eq_append_iff.mp ed
   cases l2 with
   | nil=>cases e3
   | cons r l2=>
    rw[Uk] at e3
    injection e3 with e3 e4
    subst e3
    have e5:U=rs:=(Vj (λa b h=>by
     have:a.map D.int=b.map D.int:=by injection h
     exact(Vj (λx y q=>by cases q;rfl)).mp this)).mp e2
    subst e5
    have inR:∀q∈U,q∈rows:=λq hq=>by rw[e1];exact Va _ hq
    have rR:r∈rows:=by rw[e1];simp
    have k:ko n U (pI U n):=ua λq hq=>h.len q (inR q hq)
    have cl:U.length<=5:=by have:=h.cnt;rw[e1,Uv] at this;omega
    have mem:∀p∈L,d9 n U p.2:=λp hp=>(k.all p.2).mp (by
     show p.2∈U.foldl (d5 n) (cS n)
     rw[<- ml];exact UW hp)
    have wk:Wrk n L r 8000:=⟨λp hp=>(mem p hp).fit.len,λp hp=>(mem p hp).fit.nn,by
     have:=k.few n7
     have e:L.length=(pI U n).length:=by show _=(U.foldl (d5 n) (cS n)).length;rw[<- ml,T3]
     omega,h.len r rR,by omega,by rw[ml];exact CF h inR cl,(h.sz r rR).mono (by decide),by decide⟩
    obtain⟨L',O',e6,m6,s6⟩:=KW wk J
    refine⟨⟨[some (vII rows),some (.int (n:Int)),some (.lst (bf L)),some (vI r)],O⟩,⟨[some (vII rows),some (.int (n:Int)),some (.lst (bf L')),some (vI r)],O'⟩,rfl,.inl ?_,U++[r],L',O',_,by simp,rfl,s6,by rw[m6,ml,Wb];rfl⟩
    rw[vW]
    exact bG (qV (aA (af rfl) (aA (af rfl) (aE _))) e6 rfl) rfl) ⟨[some (vII rows),some (.int (n:Int)),some (.lst (bf L0)),none],E0⟩ ⟨[],L0,E0,none,rfl,rfl,s0,m0⟩
 rw[Uw] at Y
 have e5:rows=rs:=(Vj (λa b h=>by
  have:a.map D.int=b.map D.int:=by injection h
  exact(Vj (λx y q=>by cases q;rfl)).mp this)).mp Y
 subst e5
 subst az
 have k:ko n rows (pI rows n):=ua h.len
 have ab:L.map (·.2)=pI rows n:=ml
 have nd:(L.map (·.2)).Nodup:=by rw[ab];exact k.nd
 have few:L.length<64:=by have:=k.few n7;rw[<- ab,T3] at this;exact this
 have so:uY qK (aa 2) ⟨[some (vII rows),some (.int (n:Int)),some (.lst (bf L)),x3],O⟩=.ok (.ptr O.length,⟨[some (vII rows),some (.int (n:Int)),some (.lst (bf L)),x3],O++[.lst (bf (eE L))]⟩):=(wB (O:=O) (fin:=qK) (af rfl) rfl J few nd).trans (yL _ _)
 have mem:∀p∈eE L,p∈L:=λp hp=>(iu L).mem_iff.mp hp
 refine⟨O.length,O++[.lst (bf (eE L))],eE L, ?_,by simp,λp hp=>(J.app _) p (mem p hp),λp hp=>UB (J.lt (mem p hp)), ?_,by rw[Gu,ab]⟩
 ·refine dD (R:=[some (vII rows),some (.int (n:Int)),some (.lst (bf L)),x3]) ?_
  show uo ⟨[some (vII rows),some (.int (n:Int)),none,none],[]⟩=_
  rw[uo]
  refine ba (bG (qV (aA (af rfl) (aE _)) e0 rfl) rfl) (ba ?_ (bD so))
  exact(dU (im:=listI (aa 0)) (ds:=rows.map vI) (k:=none) (s1:=⟨[some (vII rows),some (.int (n:Int)),some (.lst (bf L0)),none],E0⟩) (by rw[cW,af (i:=0) rfl,aj];rfl)).trans el
 ·refine vT (iu _).symm ?_ (oI L) (oI _)
  exact((iu L).map (·.2)).nodup_iff.mpr nd
theorem Cd{goods:List Str}{ws:List Wk}{f:Str}{d:D}{R:List (Option D)}{O:aB}{i:Nat}(h:R[i]? =some (some (yD goods ws)))(hd:qA f FN (yDs goods ws)=some d):mX 0 f (aa i) ⟨R,O⟩=.ok (d,⟨R,O⟩):=by
 rw[DO,af h,aj]
 dsimp only
 rw[if_pos rfl,hd]
def lS(goods:List Str)(ws:List Wk)(k:Nat):List Int:=ws.map λw=>nth (goods.map (chg w)) k
theorem MX{goods:List Str}{ws:List Wk}{k:Nat}(hk:k<goods.length)(h2:ws.length<=1000):kG [yD goods ws,.int (k:Int)] []=.ok (vI (lS goods ws k),[]):=by
 have hc:=d3 (l:=ws.map λw=>goods.map (chg w)) (item:=vI) (out:=λr=>.int (nth r k)) (caps:=[1]) (im:=listI (mX 0 "held_changes" (aa 0))) (e:=ak ixD (aa 0) (aa 1)) (k:=none) (s:=⟨[some (yD goods ws),some (.int (k:Int))],[]⟩) (by
  rw[cW,Cd (d:=vII (ws.map λw=>goods.map (chg w))) rfl (by rfl)];rfl) trivial (by rw[T3];omega) (λr hr=>by
  obtain⟨w,_,rfl⟩:=T4.mp hr
  rw[dW,af (i:=0) rfl,aj,af (i:=1) rfl,aj]
  dsimp only
  rw[ni (by rw[T3];exact hk)];rfl)
 rw[show (ws.map λw=>goods.map (chg w)).map (λr=>D.int (nth r k))=(lS goods ws k).map D.int by unfold lS;rw[Uh,Uh];rfl] at hc
 refine dI (s:=⟨[some (yD goods ws),some (.int (k:Int))],[]⟩) ?_
 show m4 ⟨[some (yD goods ws),some (.int (k:Int))],[]⟩=_
 rw[m4]
 exact bD hc
def nR(goods:List Str)(ws:List Wk):List (List Int):=(T9 goods.length).map (lS goods ws)
theorem LB{goods:List Str}{ws:List Wk}(h1:goods.length<=1000)(h2:ws.length<=1000):iA [yD goods ws] []=.ok (vII (nR goods ws),[]):=by
 have hc:=d3 (l:=T9 goods.length) (item:=λ(i:Nat)=>D.int (i:Int)) (out:=λk=>vI (lS goods ws k)) (caps:=[0]) (im:=dM (ae (bE cL (ae (mX 0 "held_goods" (aa 0)) ao)) ao)) (e:=methP 0 "row" 1 kG (aa 1) (ae (aa 0) ao)) (k:=none) (s:=⟨[some (yD goods ws)],[]⟩) (by
  rw[dY (n:=goods.length) (s1:=⟨[some (yD goods ws)],[]⟩) (by
   rw[aY,gy,aY,Cd (d:=sD goods) rfl (by rfl),aj,aE,aj,aj]
   dsimp only
   rw[dB,T3];rfl) (by omega),fv]) trivial (pj (by rw[VV];omega)) (λk hk=>
  sm (ns:=FN) (ds:=yDs goods ws) (args:=[.int (k:Int)]) (af rfl) (by decide) (gY _ _) (by rw[aY,af (i:=0) rfl];rfl) (by simp) rfl (MX (UD.mp hk) h2) (by generalize lS goods ws k=r;simp))
 rw[show (T9 goods.length).map (λk=>vI (lS goods ws k))=(nR goods ws).map vI by unfold nR;rw[Uh];rfl] at hc
 refine dI (s:=⟨[some (yD goods ws)],[]⟩) ?_
 show lj ⟨[some (yD goods ws)],[]⟩=_
 rw[lj]
 exact bD hc
theorem Nh{goods:List Str}{ws:List Wk}{way:List Int}(J:way.length=ws.length)(h2:ws.length<=1000)(h0:∀t∈way,0<=t):fP [yD goods ws,vI way] []=.ok (.non,[]):=by
 refine kJ (s:=⟨[some (yD goods ws),some (vI way)],[]⟩) ?_
 show gF ⟨[some (yD goods ws),some (vI way)],[]⟩=_
 rw[gF]
 have hc:=d3 (l:=way) (item:=D.int) (out:=λt=>.bl (decide (t<0))) (caps:=[]) (im:=listI (aa 1)) (e:=ak ltD (aa 0) (aq (.int 0))) (k:=none) (s:=⟨[some (yD goods ws),some (vI way)],[]⟩) (by rw[cW,af (i:=1) rfl];rfl) trivial (by omega) (λt _=>by
  rw[dW,af (i:=0) rfl,aj,aD,aj];rfl)
 rw[show way.map (λt=>D.bl (decide (t<0)))=(way.map λt=>decide (t<0)).map D.bl by rw[Uh];rfl] at hc
 refine Uz (cH (Uz (lN (s':=⟨[some (yD goods ws),some (vI way)],[]⟩) ?_) rfl)) (Uz (lN (s':=⟨[some (yD goods ws),some (vI way)],[]⟩) ?_) rfl)
 ·rw[gx,dW,gy,aY,af (i:=1) rfl,aj,aE,aj,aj]
  dsimp only
  rw[dB,aj,aj,gy,aY,Cd (d:=wsD ws) rfl (by rfl),aj,aE,aj,aj]
  dsimp only
  rw[dB,aj,aj]
  dsimp only
  rw[T3,T3,uP,J,decide_eq_true rfl];rfl
 ·rw[gx,gy,aY,hc,aj,aE,aj,aj]
  dsimp only
  rw[Ki,show (way.map λt=>decide (t<0)).any id=false by
   rw[WX,WN]
   intro t U
   simp[h0 t U]]
  rfl
def lvL(goods:List Str)(ws:List Wk)(way:List Int):List Int:=(nR goods ws).map λr=>ay r way
structure NC(goods:List Str)(ws:List Wk)(way:List Int):Prop where
 ok:∀w∈ws,∀g∈goods,∀t∈way,IntMulOk (chg w g) t
theorem L4{goods:List Str}{ws:List Wk}{k:Nat}(hk:k<goods.length){x:Int}(h:x∈lS goods ws k):∃w∈ws,∃g∈goods,x=chg w g:=by
 unfold lS at h
 obtain⟨w,J,rfl⟩:=T4.mp h
 have hm:=uJ (r:=goods.map (chg w)) (i:=k) (by rw[T3];exact hk)
 obtain⟨g,U,e⟩:=T4.mp hm
 exact⟨w,J,g,U,e.symm⟩
theorem EL{goods:List Str}{ws:List Wk}{way:List Int}(U:way.length=ws.length)(h1:goods.length<=1000)(h2:ws.length<=1000)(h0:∀t∈way,0<=t)(hm:NC goods ws way):gW [yD goods ws,vI way] []=.ok (vI (lvL goods ws way),[]):=by
 have pv:aN [vI way]=true:=ny way
 have e1:=df (sm (c:=0) (m:="check_way") (n:=1) (f:=fP) (mo:=aa 0) (ma:=ae (aa 1) ao) (s:=⟨[some (yD goods ws),some (vI way)],[]⟩) (s1:=⟨[some (yD goods ws),some (vI way)],[]⟩) (s2:=⟨[some (yD goods ws),some (vI way)],[]⟩) (ns:=FN) (ds:=yDs goods ws) (args:=[vI way]) (af rfl) (by decide) (gY _ _) (by rw[aY,af (i:=1) rfl];rfl) pv rfl (Nh U h2 h0) (by simp))
 have hr:=sm (c:=0) (m:="rows") (n:=0) (f:=iA) (mo:=aa 0) (ma:=ao) (s:=⟨[some (yD goods ws),some (vI way)],[]⟩) (s1:=⟨[some (yD goods ws),some (vI way)],[]⟩) (s2:=⟨[some (yD goods ws),some (vI way)],[]⟩) (ns:=FN) (ds:=yDs goods ws) (args:=[]) (af rfl) (by decide) (gY _ _) rfl rfl rfl (LB h1 h2) (by generalize nR goods ws=r;simp)
 have hc:=d3 (l:=nR goods ws) (item:=vI) (out:=λr=>.int (ay r way)) (caps:=[1]) (im:=listI (methP 0 "rows" 0 iA (aa 0) ao)) (e:=aO 2 bB (ae (aa 0) (ae (aa 1) ao))) (k:=none) (s:=⟨[some (yD goods ws),some (vI way)],[]⟩) (by rw[cW,hr];rfl) trivial (by unfold nR;rw[T3,VV];omega) (λr J=>by
  unfold nR at J
  obtain⟨k,hk,rfl⟩:=T4.mp J
  refine cX (ds:=[vI (lS goods ws k),vI way]) (by rw[aY,af (i:=0) rfl,aj,aY,af (i:=1) rfl];rfl) (by generalize lS goods ws k=r;simp) rfl (xx (by unfold lS;rw[T3];omega) λp hp=> ?_) (by simp)
  have hp':=Ve hp
  obtain⟨w,Y,g,hg,e⟩:=L4 (UD.mp hk) hp'.1
  rw[e]
  exact hm.ok w Y g hg p.2 hp'.2)
 rw[show (nR goods ws).map (λr=>D.int (ay r way))=(lvL goods ws way).map D.int by unfold lvL;rw[Uh];rfl] at hc
 refine dI (s:=⟨[some (yD goods ws),some (vI way)],[]⟩) ?_
 show jv ⟨[some (yD goods ws),some (vI way)],[]⟩=_
 rw[jv,cH e1]
 exact bD hc
def AZ(O:aB)(d:D)(x:List Int):Prop:=d=vI x\/∃k,d=.ptr k/\O[k]? =some (.lst (x.map D.int))
theorem AZ.ls{O:aB}{d:D}{x:List Int}(h:AZ O d x):lsD O d=some (x.map D.int):=by
 rcases h with rfl | ⟨k,rfl,h⟩
 ·rfl
 ·exact qQ h
theorem AZ.res{O:aB}{d:D}{x:List Int}(h:AZ O d x):M.res O (M.res O d)=vI x:=by
 rcases h with rfl | ⟨k,rfl,h⟩
 ·simp only[kP,jb]
 ·rw[kx h];simp only[kP,jb]
theorem NX{m:AM}{s s1:S}{x y:D}{as bs:List D}(h:m s=.ok ([x,y],s1))(h1:lsD s1.o x=some as)(h2:lsD s1.o y=some bs):AQ m s=.ok ((lQ as bs,λO=>lsD O x=some as/\lsD O y=some bs),s1):=by
 unfold AQ
 rw[h,aj]
 dsimp only
 rw[h1,h2]
theorem Mz {α:Type} {l:List α} {f g out:α->D} {caps:List Nat} {im:IX} {e:EM} {s:S} {ok:aB->Prop} (J:im s=.ok ((l.map (λa=>D.tup [f a,g a]),ok),s)) (U:ok s.o) (Y:l.length<=16777216)
 (he:∀a∈l,e ⟨some (f a)::some (g a)::caps.map (λi=>(s.r[i]?).getD none),s.o⟩=.ok (out a,⟨some (f a)::some (g a)::caps.map (λi=>(s.r[i]?).getD none),s.o⟩)):
 tS 2 caps im (cV (aU (aG 0) (aU (aG 1) cY)) 2) cg e s=.ok (.lst (l.map out),s):=by
 obtain⟨s',e1,x,y,h1⟩:=qE (ok:=ok) (g:=cV (aU (aG 0) (aU (aG 1) cY)) 2) (c:=cg) (e:=e) (O:=s.o) U (λa=>D.tup [f a,g a]) (λs2=>∃x y,s2=⟨x::y::caps.map (λi=>(s.r[i]?).getD none),s.o⟩) (by rintro _ ⟨_,_,rfl⟩;rfl) l (λ_=>true) out (by
  rintro a ha _ ⟨x,y,rfl⟩
  exact⟨_,_,by simp,rfl,λ_=>⟨_,_,rfl⟩,λ_=>⟨_,he a ha,_,_,rfl⟩⟩) [] ⟨ng 2 caps s.r,s.o⟩ (by simpa using Y) ⟨none,none,rfl⟩
 unfold tS xF
 rw[J,aj]
 dsimp only
 rw[e1,aj,aj]
 subst h1
 rw[nV]
 rfl
theorem J0{n:Nat}{goods:List Str}{ws:List Wk}(gl:goods.length=n)(n5:n<=5)(hw:ws.length<=5)(J:dR 110 (chL goods ws)):∃d O Q,pz [yD goods ws] []=.ok (.ptr d,O)/\O[d]? =some (.lst (bf Q))/\Sto O Q/\(∀p∈Q,p.1≠d)/\Q.map (·.2)=br (chL goods ws) n:=by
 have U:lP 110 n<=60000000:=by
  refine UI (wV (d:=110) (m:=5) (Ud _) (by omega)) ?_
  decide
 obtain⟨d,Y,Q,ep,hd,sQ,nQ,eQ⟩:=Fs (n:=n) (c:=110) (rows:=chL goods ws) (by omega) (by rw[T3];omega) (λr hr=>by
  obtain⟨w,_,rfl⟩:=T4.mp hr
  rw[T3];exact gl) J U
 refine⟨0+d,[]++Y.map (shC 0),Q.map λp=>(0+p.1,p.2), ?_,qU (S:=[]) hd,tM (S:=[]) sQ,λp hp=> ?_,by rw[Uh];exact eQ⟩
 ·refine dD (R:=[some (yD goods ws)]) ?_
  show uF ⟨[some (yD goods ws)],[]⟩=_
  rw[uF]
  refine bD (kB (aA (ey (aA (af rfl) (aE _)) (xv goods (by omega)) (uU _ _) rfl (by rw[i6,i8])) (aA (eI (aA (o6 (ns:=FN) (ds:=yDs goods ws) (args:=[]) (af rfl) (aE _) (tT goods ws) (by decide) (gY _ _) rfl rfl (dj _)) (aE _)) (by rw[dB,T3,gl])) (aE _))) ep (Ko _ rfl) rfl (gz _ _) rfl)
 ·obtain⟨q,hq,rfl⟩:=T4.mp hp
  have:=nQ q hq
  dsimp only
  omega
def gd(A:List (List Int))(way:List Int)(n:Nat):List Int:=(T9 n).map λg=>((T9 A.length).map λk=>nth way k*nth (A.getD k []) g).sum
theorem LK{A:List (List Int)}{way:List Int}{n:Nat}(hn:n<=1000)(ha:A.length<=1000)(la:∀l∈A,l.length=n)(lw:way.length=A.length)(zw:SzL 60 way)(zA:dR 110 A):jj [vII A,vI way,.int (n:Int)] []=.ok (vI (gd A way n),[]):=by
 have J:∀g,g<n->bE pN (ae (bZ 1 [0,1,2] (dM (ae (bE cL (ae (aa 1) ao)) ao)) (aG 0) cg (ak dJ (ak ixD (aa 3) (aa 0)) (ak ixD (ak ixD (aa 2) (aa 0)) (aa 1)))) ao) ⟨[some (.int (g:Int)),some (vII A),some (vI way)],[]⟩=.ok (.int ((T9 A.length).map λk=>nth way k*nth (A.getD k []) g).sum,⟨[some (.int (g:Int)),some (vII A),some (vI way)],[]⟩):=λg Y=>by
  have e:=d3 (l:=T9 A.length) (item:=λi:Nat=>D.int (i:Int)) (out:=λk=>.int (nth way k*nth (A.getD k []) g)) (caps:=[0,1,2]) (im:=dM (ae (bE cL (ae (aa 1) ao)) ao)) (e:=ak dJ (ak ixD (aa 3) (aa 0)) (ak ixD (ak ixD (aa 2) (aa 0)) (aa 1))) (k:=none) (s:=⟨[some (.int (g:Int)),some (vII A),some (vI way)],[]⟩) (by
   rw[<- fv]
   refine dY (aA (eI (aA (af rfl) (aE _)) ?_) (aE _)) (by omega)
   rw[dB,T3]) trivial (by simp;omega) (λk hk=>by
    have U:=UD.mp hk
    have hm:A.getD k []∈A:=getD_mem U
    exact aK (aK (af rfl) (af rfl) (ni (by omega))) (aK (aK (af rfl) (af rfl) (BP U)) (af rfl) (ni (by rw[la _ hm];exact Y))) (dN (jY (m:=60) (n:=110) (by decide) (by decide) (zw.nth _) ((zA _ hm).nth _))))
  rw[show (T9 A.length).map (λk=>D.int (nth way k*nth (A.getD k []) g))=((T9 A.length).map λk=>nth way k*nth (A.getD k []) g).map D.int by rw[Uh];rfl] at e
  exact eI (aA e (aE _)) (n8 _ _)
 have e:=d3 (l:=T9 n) (item:=λi:Nat=>D.int (i:Int)) (out:=λg=>.int ((T9 A.length).map λk=>nth way k*nth (A.getD k []) g).sum) (caps:=[0,1]) (im:=dM (ae (aa 2) ao)) (e:=bE pN (ae (bZ 1 [0,1,2] (dM (ae (bE cL (ae (aa 1) ao)) ao)) (aG 0) cg (ak dJ (ak ixD (aa 3) (aa 0)) (ak ixD (ak ixD (aa 2) (aa 0)) (aa 1)))) ao)) (k:=none) (s:=⟨[some (vII A),some (vI way),some (.int (n:Int))],[]⟩) (by
  rw[<- fv]
  exact dY (aA (af rfl) (aE _)) (by omega)) trivial (by simp;omega) (λg Y=>J g (UD.mp Y))
 rw[show (T9 n).map (λg=>D.int ((T9 A.length).map λk=>nth way k*nth (A.getD k []) g).sum)=(gd A way n).map D.int by unfold gd;rw[Uh];rfl] at e
 refine dD (R:=[some (vII A),some (vI way),some (.int (n:Int))]) ?_
 show mV ⟨[some (vII A),some (vI way),some (.int (n:Int))],[]⟩=_
 rw[mV]
 exact bD e
theorem HG(n:Nat)(f:Nat->Int):((T9 n).map f).sum=bq n f:=by
 induction n with
 | zero=>rfl
 | succ n J=>rw[Ws,UJ,X1,J];simp[bq]
theorem Jp{A:List (List Int)}{way:List Int}{n g:Nat}(J:g<n):nth (gd A way n) g=iH way A g:=by
 unfold gd iH
 rw[<- HG]
 unfold nth
 rw[Fm,Us,VM J]
 rfl
theorem BX(A:List (List Int))(way:List Int)(n:Nat):(gd A way n).length=n:=by unfold gd;simp
theorem Mb{goods:List Str}{ws:List Wk}{way:List Int}(U:way.length=ws.length):lvL goods ws way=gd (chL goods ws) way goods.length:=by
 unfold lvL nR gd
 rw[Uh]
 refine VL λg _=> ?_
 have e:lS goods ws g=(chL goods ws).map (nth · g):=by unfold lS chL;rw[Uh];rfl
 show ay (lS goods ws g) way=_
 have J:((chL goods ws).map (nth · g)).length=way.length:=by simp[U]
 have:=qu way ((chL goods ws).map (nth · g)) J.symm
 rw[e,Gm (n:=way.length) J rfl,<- this]
 rw[show ((chL goods ws).map (nth · g)).length=(chL goods ws).length by simp]
 congr 1
 exact VL λk _=>by rw[qC]
theorem Jw{A:List (List Int)}{way y:List Int}{n:Nat}(h:∀l∈A,cq n (nth l) (nth y)=0):ay y (gd A way n)=0:=by
 rw[iw (BX A way n),bS,xC (b:=iH way A) λi hi=>Jp hi]
 exact sP λl J=>h l J
theorem MG{A:List (List Int)}{way:List Int}{n:Nat}(ha:A.length<=1000)(lw:way.length=A.length)(J:SzL 60 way)(U:dR 110 A):SzL 200 (gd A way n):=λx hx=>by
 unfold gd at hx
 obtain⟨g,_,rfl⟩:=T4.mp hx
 have Y:way.length=(A.map (nth · g)).length:=by simp[lw]
 have:=qu way (A.map (nth · g)) Y
 rw[show (A.map (nth · g)).length=A.length by simp] at this
 rw[show (T9 A.length).map (λk=>nth way k*nth (A.getD k []) g)=(T9 A.length).map (λk=>nth way k*nth (A.map (nth · g)) k) from VL λk _=>by rw[qC],this]
 refine(pU (b:=110) (c:=60) J (λz hz=> ?_) (by omega)).mono (by decide)
 obtain⟨l,hl,rfl⟩:=T4.mp hz
 exact(U l hl).nth _
theorem wt{f:Nat->Int}:∀{n:Nat},(∀i,i<n->0<=f i)->(∃i,i<n/\0<f i)->0<bq n f
 | 0,_,⟨i,hi,_⟩=>by omega
 | n+1,h,⟨i,hi,hp⟩=>by
  show 0<bq n f+f n
  have h1:=h n (by omega)
  have h2:0<=bq n f:=by
   by_cases z:∃i,i<n/\0<f i
   ·exact Xz (wt (λi hi=>h i (by omega)) z)
   ·rw[fC λi hi=> ?_]
    ·exact Int.le_refl 0
    ·have:=h i (by omega)
     rcases XC this with q | q
     ·exact absurd ⟨i,hi,q⟩ z
     ·exact q.symm
  rcases XA i n with q | q
  ·have:=wt (n:=n) (λi hi=>h i (by omega)) ⟨i,q,hp⟩
   omega
  ·have:i=n:=by omega
   subst this
   omega
theorem Ni{a b:EM}{s s1 s2:S}{p:Bool}{x:D}(h:a s=.ok (.bl p,s1))(hp:p=false)(h2:b s1=.ok (x,s2)):orV a b s=.ok (x,s2):=by
 rw[HV,h,aj,hp];exact h2
theorem NV{a b:EM}{s s1:S}{p:Bool}(h:a s=.ok (.bl p,s1))(hp:p=true):orV a b s=.ok (.bl true,s1):=by
 rw[HV,h,aj,hp]
theorem JB{pool rest:List Int}{n:Nat}(hn:n<=1000)(pl:pool.length=n)(rl:rest.length=n)(p0:∀i,0<=nth pool i)(hd:ay pool rest=0):∃O,fN [vI pool,vI rest] []=.ok (.bl true,O):=by
 have e2:=uH (l:=T9 n) (item:=λi:Nat=>D.int (i:Int)) (out:=λi:Nat=>.int (i:Int)) (p:=λi=>decide (0<nth pool i)&&decide (0<nth rest i)) (caps:=[0,1]) (im:=dM (ae (bE cL (ae (aa 0) ao)) ao)) (c:=qa (bj (ak gtD (ak ixD (aa 1) (aa 0)) (aq (.int 0)))) (bj (ak gtD (ak ixD (aa 2) (aa 0)) (aq (.int 0))))) (e:=aa 0) (k:=none) (s:=⟨[some (vI pool),some (vI rest),none,none],[]⟩) (by
  rw[<- fv]
  refine dY (aA (eI (aA (af rfl) (aE _)) ?_) (aE _)) (by omega)
  rw[dB,T3,pl]) trivial (by simp;omega) (λi hi=>by
   have U:=UD.mp hi
   exact vc (gQ (aK (aK (af rfl) (af rfl) (ni (by omega))) (aD _ _) (o5 _ _))) (gQ (aK (aK (af rfl) (af rfl) (ni (by omega))) (aD _ _) (o5 _ _)))) (λ_ _ _=>af rfl)
 have e3:=λx2=>uH (l:=T9 n) (item:=λi:Nat=>D.int (i:Int)) (out:=λi:Nat=>.int (i:Int)) (p:=λi=>decide (0<nth pool i)&&decide (nth rest i<0)) (caps:=[0,1]) (im:=dM (ae (bE cL (ae (aa 0) ao)) ao)) (c:=qa (bj (ak gtD (ak ixD (aa 1) (aa 0)) (aq (.int 0)))) (bj (ak ltD (ak ixD (aa 2) (aa 0)) (aq (.int 0))))) (e:=aa 0) (k:=none) (s:=⟨[some (vI pool),some (vI rest),x2,none],[]⟩) (by
  rw[<- fv]
  refine dY (aA (eI (aA (af rfl) (aE _)) ?_) (aE _)) (by omega)
  rw[dB,T3,pl]) trivial (by simp;omega) (λi hi=>by
   have U:=UD.mp hi
   exact vc (gQ (aK (aK (af rfl) (af rfl) (ni (by omega))) (aD _ _) (o5 _ _))) (gQ (aK (aK (af rfl) (af rfl) (ni (by omega))) (aD _ _) (vb _ _)))) (λ_ _ _=>af rfl)
 have J:((T9 n).filter λi=>decide (0<nth pool i)&&decide (0<nth rest i))=[]\/0<((T9 n).filter λi=>decide (0<nth pool i)&&decide (nth rest i<0)).length:=by
  by_cases z:∃i,i<n/\0<nth pool i/\nth rest i<0
  ·obtain⟨i,hi,h1,h2⟩:=z
   exact .inr (Xe (a:=i) (Uy.mpr ⟨UD.mpr hi,by simp[h1,h2]⟩))
  ·refine .inl (Xf.mpr λi hi hp=> ?_)
   have U:=UD.mp hi
   have hp':0<nth pool i/\0<nth rest i:=by simpa using hp
   rw[iw rl] at hd
   have:0<cq n (nth pool) (nth rest):=wt (λj hj=>by
    rcases XC (p0 j) with q | q
    ·have:¬nth rest j<0:=λw=>z ⟨j,hj,q,w⟩
     exact U4 (by omega) (by omega)
    ·rw[<- q];omega) ⟨i,U,Vh hp'.1 hp'.2⟩
   omega
 generalize (T9 n).filter (λi=>decide (0<nth pool i)&&decide (0<nth rest i))=Y at e2 J
 generalize (T9 n).filter (λi=>decide (0<nth pool i)&&decide (nth rest i<0))=be at e3 J
 refine pb ⟨⟨[some (vI pool),some (vI rest),some (.lst (Y.map λi:Nat=>D.int (i:Int))),some (.lst (be.map λi:Nat=>D.int (i:Int)))],[]⟩, ?_⟩
 show gO ⟨[some (vI pool),some (vI rest),none,none],[]⟩=_
 rw[gO]
 refine ba (bG e2 rfl) (ba (bG (e3 _) rfl) (bD ?_))
 have ea:ak eqD (bE cL (ae (aa 2) ao)) (aq (.int 0)) ⟨[some (vI pool),some (vI rest),some (.lst (Y.map λi:Nat=>D.int (i:Int))),some (.lst (be.map λi:Nat=>D.int (i:Int)))],[]⟩=.ok (.bl (decide (((Y.map λi:Nat=>D.int (i:Int)).length:Int)=0)),⟨[some (vI pool),some (vI rest),some (.lst (Y.map λi:Nat=>D.int (i:Int))),some (.lst (be.map λi:Nat=>D.int (i:Int)))],[]⟩):=aK (eI (aA (af rfl) (aE _)) (dB _)) (aD _ _) (pk _ _)
 have eb:ak gtD (bE cL (ae (aa 3) ao)) (aq (.int 0)) ⟨[some (vI pool),some (vI rest),some (.lst (Y.map λi:Nat=>D.int (i:Int))),some (.lst (be.map λi:Nat=>D.int (i:Int)))],[]⟩=.ok (.bl (decide ((0:Int)<((be.map λi:Nat=>D.int (i:Int)).length:Int))),⟨[some (vI pool),some (vI rest),some (.lst (Y.map λi:Nat=>D.int (i:Int))),some (.lst (be.map λi:Nat=>D.int (i:Int)))],[]⟩):=aK (eI (aA (af rfl) (aE _)) (dB _)) (aD _ _) (o5 _ _)
 cases hab:decide (((Y.map λi:Nat=>D.int (i:Int)).length:Int)=0) with
 | true=>exact NV ea hab
 | false=>
  have hb:decide ((0:Int)<((be.map λi:Nat=>D.int (i:Int)).length:Int))=true:=by
   rcases J with q | q
   ·subst q;simp at hab
   ·rw[T3];exact decide_eq_true (by omega)
  rw[hb] at eb
  exact Ni ea hab eb
theorem cw_ok{goods:List Str}{ws:List Wk}{x:List Int}(h:x.length=goods.length):ie [yD goods ws,vI x] []=.ok (.non,[]):=by
 refine OB (R:=[some (yD goods ws),some (vI x)]) ?_
 show h8 ⟨[some (yD goods ws),some (vI x)],[]⟩=_
 rw[h8]
 refine gs (gQ (aK (eI (aA (af rfl) (aE _)) (dB _)) (eI (aA (o6 (ns:=FN) (ds:=yDs goods ws) (args:=[]) (af rfl) (aE _) (tT goods ws) (by decide) (gY _ _) rfl rfl (dj _)) (aE _)) (dB _)) (uP _ _))) ?_ (dC _)
 rw[T3,T3,h];simp
theorem MI(goods:List Str)(ws:List Wk)(x:List Int):aN [yD goods ws,vI x]=true:=yb _ _ (by simp)
theorem Ex{goods:List Str}{ws:List Wk}{x y:List Int}(h:x.length=goods.length)(J:goods.length<=1000)(hm:∀p∈x.zip y,IntMulOk p.1 p.2):oz [yD goods ws,vI x,vI y] []=.ok (.int (ay x y),[]):=by
 refine dD (R:=[some (yD goods ws),some (vI x),some (vI y)]) ?_
 show oj ⟨[some (yD goods ws),some (vI x),some (vI y)],[]⟩=_
 rw[oj]
 exact ba (df (ey (aA (af rfl) (aA (af rfl) (aE _))) (cw_ok h) (MI _ _ _) rfl rfl)) (bD (ey (aA (af rfl) (aA (af rfl) (aE _))) (xx (by omega) hm) (by simp) rfl rfl))
theorem xg(V:List (List Int)):(xn V).Perm V:=by
 unfold xn
 have:=(iu (V.map λx=>((),x))).map (·.2)
 rw[Uh,show ((λx:Unit×List Int=>x.2)∘λx=>((),x))=id from rfl,List.map_id] at this
 exact this
theorem Ha{n:Nat}{goods:List Str}{ws:List Wk}(gl:goods.length=n)(n5:n<=5)(hw:ws.length<=5)(hs:dR 110 (chL goods ws)):∃d O Q,pq [yD goods ws] []=.ok (.ptr d,O)/\O[d]? =some (.lst (bf Q))/\Sto O Q/\(∀p∈Q,p.1≠d)/\Q.length<64/\∀p∈Q,Fit n (chL goods ws) p.2/\SzL 8000 p.2:=by
 have Y:∀r∈chL goods ws,r.length=n:=λr hr=>by
  obtain⟨w,_,rfl⟩:=T4.mp hr
  rw[T3];exact gl
 have U:Bz n (chL goods ws):=⟨Y,λr hr=>(hs r hr).mono (by decide),by rw[T3];exact hw,by omega⟩
 obtain⟨d,Op,Q,ep,hd,sQ,nQ,_,eQ⟩:=ME U
 have kn:=ua Y
 have lq:Q.length<64:=by
  have:=kn.few (by omega)
  have e:=congrArg Vk eQ
  rw[T3,(xg _).length_eq] at e
  omega
 have J:∀p∈Q,p.2∈pI (chL goods ws) n:=λp hp=>(xg _).mem_iff.mp (by rw[<- eQ];exact UW hp)
 refine⟨0+d,[]++Op.map (shC 0),Q.map λp=>(0+p.1,p.2), ?_,qU (S:=[]) hd,tM (S:=[]) sQ,λp hp=> ?_,by rw[T3];exact lq,λp hp=> ?_⟩
 ·refine dD (R:=[some (yD goods ws)]) ?_
  show rA ⟨[some (yD goods ws)],[]⟩=_
  rw[rA]
  refine bD (kB (aA (ey (aA (af rfl) (aE _)) (xv goods (by omega)) (uU _ _) rfl (by rw[i6,i8])) (aA (eI (aA (o6 (ns:=FN) (ds:=yDs goods ws) (args:=[]) (af rfl) (aE _) (tT goods ws) (by decide) (gY _ _) rfl rfl (dj _)) (aE _)) (by rw[dB,T3,gl])) (aE _))) ep (Ko _ rfl) rfl (gz _ _) rfl)
 ·obtain⟨q,hq,rfl⟩:=T4.mp hp
  have:=nQ q hq
  dsimp only
  omega
 ·obtain⟨q,hq,rfl⟩:=T4.mp hp
  exact⟨((kn.all _).mp (J q hq)).fit,CF U (λr hr=>hr) U.cnt _ (J q hq)⟩
structure Dr(n:Nat)(we:List Int)(A:List (List Int))(goods:List Str)(ws:List Wk):Prop where
 gl:goods.length=n
 n5:n<=5
 al:A.length<=5
 wl:we.length=n
 wz:SzL 40 we
 kp:∀l∈A,wW n we l
 ch:chL goods ws=A
theorem Oi{n:Nat}{J:List Int}{A:List (List Int)}{goods:List Str}{ws:List Wk}(h:Dr n J A goods ws):ws.length=A.length:=by
 have:=congrArg Vk h.ch
 simpa using this
abbrev riR(goods:List Str)(ws:List Wk)(A:List (List Int))(J way:List Int)(n:Nat)(rest:List Int)(x6 x7:Option D):List (Option D):=[some (yD goods ws),some (vII A),some (vI J),some (vI way),some (.int (n:Int)),some (vI rest),x6,x7]
structure FV(n:Nat)(rest:List Int)(O:aB)(d:D)(y:List Int):Prop where
 h:AZ O d y
 len:y.length=n
 sz:SzL 100000 y
 dot:ay y rest=0
theorem Hk{goods:List Str}{ws:List Wk}{A:List (List Int)}{J way rest y:List Int}{n:Nat}{x6:Option D}{O:aB}{d:D}(gl:goods.length=n)(n5:n<=5)(U:SzL 200 rest)(h:FV n rest O d y):jy ⟨riR goods ws A J way n rest x6 (some d),O⟩=.next ⟨riR goods ws A J way n rest x6 (some d),O⟩:=by
 have hm:∀p∈y.zip rest,IntMulOk p.1 p.2:=λp hp=>by
  have hp':=Ve (a:=p.1) (b:=p.2) hp
  exact jY (m:=100000) (n:=200) (by decide) (by decide) (h.sz _ hp'.1) (U _ hp'.2)
 have e:=Mz (l:=y.zip rest) (f:=λq=>.int q.1) (g:=λq=>.int q.2) (out:=λq=>.int (q.1*q.2)) (caps:=[]) (im:=AQ (ae (aa 7) (ae (aa 5) ao))) (e:=ak dJ (aa 0) (aa 1)) (s:=⟨riR goods ws A J way n rest x6 (some d),O⟩) (ok:=λO=>lsD O d=some (y.map D.int)/\lsD O (vI rest)=some (rest.map D.int)) (by
  rw[NX (as:=y.map D.int) (bs:=rest.map D.int) (aA (af (i:=7) rfl) (aA (af (i:=5) rfl) (aE _))) h.h.ls o4,tY]) ⟨h.h.ls,o4⟩ (by rw[Wq,h.len];omega) (λq hq=>aK (af rfl) (af rfl) (dN (hm q hq)))
 rw[show (y.zip rest).map (λq=>D.int (q.1*q.2))=(UO (· * ·) y rest).map D.int by rw[<- zip_map,Uh];rfl] at e
 have e1:M.res O (M.res O (yD goods ws))=yD goods ws:=by
  have:M.res O (yD goods ws)=yD goods ws:=by unfold M.res;rfl
  rw[this,this]
 rw[jy]
 refine gs (p:=(!decide ((UO (· * ·) y rest).sum=0))||(!decide (ay y rest=0))) (Qg (gQ (aK (eI (aA e (aE _)) (n8 _ _)) (aD _ _) (uP _ _))) (gQ (aK (uM (rs:=[yD goods ws,vI y,vI rest]) (aA (af rfl) (aA (af rfl) (aA (af rfl) (aE _)))) ?_ (Ex (by rw[h.len,gl]) (by omega) hm) (yb _ _ (by simp)) rfl rfl) (aD _ _) (uP _ _)))) ?_ (dC _)
 ·simp only[ip,lZ,h.h.res,e1,kP,jb]
 ·rw[show (UO (· * ·) y rest).sum=ay y rest from rfl,decide_eq_true h.dot];rfl
theorem JF{n:Nat}{J way:List Int}{A:List (List Int)}{goods:List Str}{ws:List Wk}(dr:Dr n J A goods ws)(lw:way.length=A.length)(w0:∀t∈way,0<=t)(zw:SzL 60 way):∃O,lE [yD goods ws,vII A,vI J,vI way] []=.ok (.bl true,O):=by
 have ac:=dr.ch
 have cn:=Oi dr
 have zA:dR 110 A:=λl hl=>(dr.kp l hl).sz
 have lA:∀l∈A,l.length=n:=λl hl=>(dr.kp l hl).len
 have n5:=dr.n5
 have al:=dr.al
 have gl:=dr.gl
 have an:lvL goods ws way=gd A way n:=by rw[Mb (by omega),ac,gl]
 have e4:setM 4 (bE cL (ae (aa 2) ao)) ⟨[some (yD goods ws),some (vII A),some (vI J),some (vI way),none,none,none,none],[]⟩=.next ⟨[some (yD goods ws),some (vII A),some (vI J),some (vI way),some (.int (n:Int)),none,none,none],[]⟩:=by
  refine bG (eI (aA (af rfl) (aE _)) (dB _)) ?_
  rw[T3,dr.wl];rfl
 have mw:NC goods ws way:=⟨λw hw g hg t ht=>by
  have hl:goods.map (chg w)∈A:=by rw[<- ac];exact T4.mpr ⟨w,hw,rfl⟩
  exact jY (m:=110) (n:=60) (by decide) (by decide) (zA _ hl _ (UW hg)) (zw t ht)⟩
 have e5:setM 5 (methP 0 "leaves" 1 gW (aa 0) (ae (aa 3) ao)) ⟨[some (yD goods ws),some (vII A),some (vI J),some (vI way),some (.int (n:Int)),none,none,none],[]⟩=.next ⟨riR goods ws A J way n (gd A way n) none none,[]⟩:=by
  rw[<- an]
  exact bG (o6 (ns:=FN) (ds:=yDs goods ws) (args:=[vI way]) (af rfl) (aA (af rfl) (aE _)) (EL (by omega) (by omega) (by omega) w0 mw) (by decide) (gY _ _) (ny _) rfl (by simp)) rfl
 have rl:=BX A way n
 have zr:SzL 200 (gd A way n):=MG (by omega) lw zw zA
 have ab:∀y:List Int,(∀l∈A,cq n (nth l) (nth y)=0)->ay y (gd A way n)=0:=λy h=>Jw h
 have a9:aO 3 jj (ae (aa 1) (ae (aa 3) (ae (aa 4) ao))) ⟨riR goods ws A J way n (gd A way n) none none,[]⟩=.ok (vI (gd A way n),⟨riR goods ws A J way n (gd A way n) none none,[]⟩):=by
  refine ey (aA (af rfl) (aA (af rfl) (aA (af rfl) (aE _)))) (LK (by omega) (by omega) lA lw zw zA) ?_ rfl (by simp)
  rw[fT,i6,i8];simp
 generalize gd A way n=rest at e5 rl zr ab a9
 have e6:ifS (bj (ak neD (aa 5) (aO 3 jj (ae (aa 1) (ae (aa 3) (ae (aa 4) ao)))))) (bO (aq (.bl false))) cf ⟨riR goods ws A J way n rest none none,[]⟩=.next ⟨riR goods ws A J way n rest none none,[]⟩:=gs (gQ (aK (af rfl) a9 (IP _ _))) (by simp) (dC _)
 obtain⟨dp,Op,Lp,bp,bv,bw,bU,bd,az⟩:=Ha (goods:=goods) (ws:=ws) gl n5 (by omega) (by rw[ac];exact zA)
 rw[ac] at az
 have e7:setM 6 (jo (gn 1 pq (ae (aa 0) ao))) ⟨riR goods ws A J way n rest none none,[]⟩=.next ⟨riR goods ws A J way n rest (some (.lst (bf (Lp.map λp=>(0+p.1,p.2))))) none,([]++Op.map (shC 0)).set (0+dp) .dead⟩:=bG (nW (kB (aA (af rfl) (aE _)) bp (uU _ _) rfl (gz _ _) rfl) (qU (S:=[]) bv) rfl) rfl
 have s1:Sto (([]++Op.map (shC 0)).set (0+dp) .dead) (Lp.map λp=>(0+p.1,p.2)):=(tM (S:=[]) bw).set (λp hp=>by
  obtain⟨q,hq,rfl⟩:=T4.mp hp
  intro z
  have z':0+q.1=0+dp:=z
  exact bU q hq (by omega)) _
 have f1:∀p∈Lp.map (λp=>(0+p.1,p.2)),Fit n A p.2/\SzL 8000 p.2:=λp hp=>by
  obtain⟨q,hq,rfl⟩:=T4.mp hp
  exact az q hq
 have l1:(Lp.map λp=>(0+p.1,p.2)).length<64:=by rw[T3];exact bd
 generalize (Lp.map λp=>(0+p.1,p.2))=Y at e7 s1 f1 l1
 generalize ([]++Op.map (shC 0)).set (0+dp) Cell.dead=U at e7 s1
 obtain⟨d,Ok,Q,ep,b1,sQ,nQ,eQ⟩:=J0 (goods:=goods) (ws:=ws) gl n5 (by omega) (by rw[ac];exact zA)
 rw[ac] at eQ
 have g1:lP 110 n<=100000:=by
  refine UI (wV (d:=110) (m:=5) (Ud _) (by omega)) ?_
  decide
 have b3:=(HL (n:=n) (by omega) lA zA).mono g1
 obtain⟨P,eP,pl,a0,_⟩:=lV lA
 have as:=count lA
 rw[<- eQ,T3] at as
 have s2:Sto ((U++Ok.map (shC U.length)).set (U.length+d) .dead) (Q.map λp=>(U.length+p.1,p.2)):=(tM (S:=U) sQ).set (λp hp=>by
  obtain⟨q,hq,rfl⟩:=T4.mp hp
  have:=nQ q hq
  dsimp only
  omega) _
 have a1:Sto ((U++Ok.map (shC U.length)).set (U.length+d) .dead) Y:=(s1.app _).set (λp hp=>by have:=s1.lt hp;omega) _
 have f2:∀p∈Q.map (λp=>(U.length+p.1,p.2)),p.2∈br A n:=λp hp=>by
  obtain⟨q,hq,rfl⟩:=T4.mp hp
  rw[<- eQ];exact T4.mpr ⟨q,hq,rfl⟩
 have ek:ak bI (ak bI (jo (gn 1 pz (ae (aa 0) ao))) (aa 6)) (oE (ae (aa 2) ao)) ⟨riR goods ws A J way n rest (some (.lst (bf Y))) none,U⟩=.ok (.lst (bf (Q.map λp=>(U.length+p.1,p.2))++bf Y++[vI J]),⟨riR goods ws A J way n rest (some (.lst (bf Y))) none,(U++Ok.map (shC U.length)).set (U.length+d) .dead⟩):=by
  refine aK (aK (nW (kB (aA (af rfl) (aE _)) ep (uU _ _) rfl (gz _ _) rfl) (qU (S:=U) b1) rfl) (af rfl) (BY (by simp;omega))) (AN (aA (af rfl) (aE _)) (by simp)) (BY (by simp;omega))
 have l2:(Q.map λp=>(U.length+p.1,p.2)).length<=5:=by rw[T3];omega
 generalize (Q.map λp=>(U.length+p.1,p.2))=Q1 at ek s2 f2 l2
 generalize (U++Ok.map (shC U.length)).set (U.length+d) Cell.dead=O2 at ek s2 a1
 have a3:∀dd∈bf Q1++bf Y++[vI J],∃y,FV n rest O2 dd y:=λdd a4=>by
  rcases Uj.mp a4 with q | q
  ·rcases Uj.mp q with q | q
   ·obtain⟨p,hp,rfl⟩:=T4.mp q
    have hs:=f2 p hp
    exact⟨p.2,.inr ⟨_,rfl,s2 p hp⟩,oO lA _ hs,b3 _ hs,ab _ λl hl=>by rw[bS];exact a0 l hl _ hs⟩
   ·obtain⟨p,hp,rfl⟩:=T4.mp q
    have hf:=f1 p hp
    exact⟨p.2,.inr ⟨_,rfl,a1 p hp⟩,hf.1.len,hf.2.mono (by decide),ab _ hf.1.st⟩
  ·rw[Ul.mp q]
   refine⟨J,.inl rfl,dr.wl,dr.wz.mono (by decide),ab _ λl hl=> ?_⟩
   have:=(dr.kp l hl).dot
   rw[iw (lA l hl),bS] at this
   exact this
 obtain⟨s',el,y7,b6⟩:=z5 (ok:=okC (bf Q1++bf Y++[vI J]) none) (g:=aG 7) (body:=jy)
  (λs=>∃x7,s=⟨riR goods ws A J way n rest (some (.lst (bf Y))) x7,O2⟩) (by rintro _ ⟨_,rfl⟩;trivial) (bf Q1++bf Y++[vI J]) (by
   rintro dd a4 s ⟨x7,rfl⟩
   obtain⟨y,hy⟩:=a3 dd a4
   exact⟨⟨riR goods ws A J way n rest (some (.lst (bf Y))) (some dd),O2⟩,_,rfl,.inl (Hk gl n5 zr hy),_,rfl⟩) ⟨riR goods ws A J way n rest (some (.lst (bf Y))) none,O2⟩ ⟨none,rfl⟩
 have hf:=dU (im:=listI (ak bI (ak bI (jo (gn 1 pz (ae (aa 0) ao))) (aa 6)) (oE (ae (aa 2) ao)))) (g:=aG 7) (body:=jy) (s:=⟨riR goods ws A J way n rest (some (.lst (bf Y))) none,U⟩) (ds:=bf Q1++bf Y++[vI J]) (k:=none) (s1:=⟨riR goods ws A J way n rest (some (.lst (bf Y))) none,O2⟩) (by rw[cW,ek,aj];rfl)
 rw[el,b6] at hf
 have ea:=d3 (l:=Y) (item:=λp=>.ptr p.1) (out:=λ_=>.bl true) (caps:=[5]) (im:=listI (aa 6)) (e:=jc 2 fN (ae (aa 0) (ae (aa 1) ao))) (k:=none) (s:=⟨riR goods ws A J way n rest (some (.lst (bf Y))) y7,O2⟩) (by rw[cW,af (i:=6) rfl,aj];rfl) trivial (by omega) (λp hp=>by
  have a5:=f1 p hp
  obtain⟨Oh,eh⟩:=JB (pool:=p.2) (rest:=rest) (n:=n) (by omega) a5.1.len rl a5.1.nn (ab _ a5.1.st)
  refine uM (rs:=[vI p.2,vI rest]) (aA (af rfl) (aA (af rfl) (aE _))) ?_ eh (by simp) rfl rfl
  rw[ip,ip,ip,kx (a1 p hp),ip,lZ,lZ]
  simp only[kP,jb])
 rw[show Y.map (λ_=>D.bl true)=(Y.map λ_=>true).map D.bl by rw[Uh];rfl] at ea
 refine pb ⟨⟨riR goods ws A J way n rest (some (.lst (bf Y))) y7,O2⟩, ?_⟩
 show lr ⟨[some (yD goods ws),some (vII A),some (vI J),some (vI way),none,none,none,none],[]⟩=_
 rw[lr]
 refine ba e4 (ba e5 (ba e6 (ba e7 (ba hf (bD (eI (aA ea (aE _)) ?_))))))
 rw[Ca]
 simp
abbrev lR(ns:List Int)(b:Nat)(hd:Int)(n:Nat)(J:List Int)(A:List (List Int))(goods:List Str)(ws:List Wk)(x8 x9 x10:Option D):List (Option D):=[some (vI ns),some (.int (b:Int)),some (.int hd),some (.int (n:Int)),some (vI J),some (vII A),some (sD goods),some (yD goods ws),x8,x9,x10]
theorem Iq(ns:List Int)(b:Nat)(x2 x3 Y x5 x6 x7 x8 x9 x10:Option D)(O:aB)(m:SM)(C:Out->Prop)(hm:∀hd n J A goods ws,Dr n J A goods ws->∃o,m ⟨lR ns b hd n J A goods ws x8 x9 x10,O⟩=o/\C o):
 ∃o,aP (setM 2 (aO 2 cP (ae (aa 0) (ae (aa 1) ao)))) (aP (setM 3 (aO 3 aL (ae (aa 2) (ae (aq (.int 45)) (ae (aq (.int 6)) ao))))) (aP (setM 4 (aO 3 gj (ae (aa 2) (ae (aa 3) (ae (ak ixD (oE (ae (aq (.int 0)) (ae (unM nD (ak j6 (aq (.int 10)) (aq (.int 10)))) ao))) (aO 3 aL (ae (aa 2) (ae (aq (.int 46)) (ae (aq (.int 2)) ao))))) ao))))) (aP (setM 5 (aO 3 gh (ae (aa 0) (ae (aa 1) (ae (aa 4) ao))))) (aP (setM 6 (aO 2 dF (ae (ak bI (aa 2) (aq (.int 1))) (ae (aa 3) ao)))) (aP (setM 7 (uQ 0 2 iz (ae (aa 6) (ae (aO 4 gv (ae (aa 5) (ae (aa 6) (ae (aO 2 dF (ae (aa 2) (ae (bE cL (ae (aa 5) ao)) ao))) (ae (aa 2) ao))))) ao)))) m))))) ⟨[some (vI ns),some (.int (b:Int)),x2,x3,Y,x5,x6,x7,x8,x9,x10],O⟩=o/\C o:=by
 obtain⟨hd,k0,_⟩:=uX ns b
 obtain⟨n,hn,n6⟩:=n4 hd 45 (m:=6) (by decide)
 have hn:cA hd 45 6=(n:Int):=hn
 have e2:setM 2 (aO 2 cP (ae (aa 0) (ae (aa 1) ao))) ⟨[some (vI ns),some (.int (b:Int)),x2,x3,Y,x5,x6,x7,x8,x9,x10],O⟩=.next ⟨[some (vI ns),some (.int (b:Int)),some (.int hd),x3,Y,x5,x6,x7,x8,x9,x10],O⟩:=bG (ey (aA (af rfl) (aA (af rfl) (aE _))) k0 (by simp) rfl rfl) rfl
 have e3:setM 3 (aO 3 aL (ae (aa 2) (ae (aq (.int 45)) (ae (aq (.int 6)) ao)))) ⟨[some (vI ns),some (.int (b:Int)),some (.int hd),x3,Y,x5,x6,x7,x8,x9,x10],O⟩=.next ⟨[some (vI ns),some (.int (b:Int)),some (.int hd),some (.int (n:Int)),Y,x5,x6,x7,x8,x9,x10],O⟩:=by
  rw[<- hn]
  exact bG (fF (af rfl) (aD _ _) (aD _ _) (by decide)) rfl
 have as:∃lo:Int,(∀O,ixD O (.lst [.int 0,.int (-10000000000)]) (.int (cA hd 46 2))=.ok (.int lo))/\Sz 40 lo:=by
  obtain⟨r,hr,r2⟩:=n4 hd 46 (m:=2) (by decide)
  have hr:cA hd 46 2=(r:Int):=hr
  rw[hr]
  have:r=0\/r=1:=by omega
  rcases this with rfl | rfl
  ·exact⟨0,λ_=>rfl,Sz.zero _⟩
  ·exact⟨-10000000000,λ_=>rfl,by unfold Sz;decide⟩
 obtain⟨lo,az,a0⟩:=as
 obtain⟨J,Ow,ew,wl,wz,w1,_⟩:=Eg hd (n:=n) (lo:=lo) (by omega) a0
 have e4:setM 4 (aO 3 gj (ae (aa 2) (ae (aa 3) (ae (ak ixD (oE (ae (aq (.int 0)) (ae (unM nD (ak j6 (aq (.int 10)) (aq (.int 10)))) ao))) (aO 3 aL (ae (aa 2) (ae (aq (.int 46)) (ae (aq (.int 2)) ao))))) ao)))) ⟨[some (vI ns),some (.int (b:Int)),some (.int hd),some (.int (n:Int)),Y,x5,x6,x7,x8,x9,x10],O⟩=.next ⟨[some (vI ns),some (.int (b:Int)),some (.int hd),some (.int (n:Int)),some (vI J),x5,x6,x7,x8,x9,x10],O⟩:=bG (ey (aA (af rfl) (aA (af rfl) (aA (aK (AN (aA (aD _ _) (aA (FI (aK (aD _ _) (aD _ _) Gq) (rO _)) (aE _))) (by simp)) (fF (af rfl) (aD _ _) (aD _ _) (by decide)) (az _)) (aE _)))) ew rfl rfl (by simp)) rfl
 obtain⟨A,Ok,ek,al,kp⟩:=K0 ns b wl (by omega) wz w1
 have e5:setM 5 (aO 3 gh (ae (aa 0) (ae (aa 1) (ae (aa 4) ao)))) ⟨[some (vI ns),some (.int (b:Int)),some (.int hd),some (.int (n:Int)),some (vI J),x5,x6,x7,x8,x9,x10],O⟩=.next ⟨[some (vI ns),some (.int (b:Int)),some (.int hd),some (.int (n:Int)),some (vI J),some (vII A),x6,x7,x8,x9,x10],O⟩:=bG (ey (aA (af rfl) (aA (af rfl) (aA (af rfl) (aE _)))) ek (by simp) rfl (by rw[i6,i8])) rfl
 obtain⟨goods,Og,eg,gl,gg,ab⟩:=BU (hd+1) (n:=n) (by omega)
 have e6:setM 6 (aO 2 dF (ae (ak bI (aa 2) (aq (.int 1))) (ae (aa 3) ao))) ⟨[some (vI ns),some (.int (b:Int)),some (.int hd),some (.int (n:Int)),some (vI J),some (vII A),x6,x7,x8,x9,x10],O⟩=.next ⟨[some (vI ns),some (.int (b:Int)),some (.int hd),some (.int (n:Int)),some (vI J),some (vII A),some (sD goods),x7,x8,x9,x10],O⟩:=bG (ey (aA (aK (af rfl) (aD _ _) (cj _ _)) (aA (af rfl) (aE _))) eg rfl rfl (dj _)) rfl
 obtain⟨zs,Oz,ez,zl,zg,a1⟩:=BU hd (n:=A.length) (by omega)
 obtain⟨ws,Oo,eo,a3,ac,am⟩:=GB (A:=A) (goods:=goods) (zs:=zs) hd ab (by omega) (λl hl=>by rw[(kp l hl).len,gl]) (by omega) (by omega)
 have U:ws.map (·.nm)=zs:=by rw[a3,Vx (by omega)]
 have b3:ws.length=A.length:=by have:=congrArg Vk am;simpa using this
 have a4:yU goods ws:=⟨λw hw=>zg _ (by rw[<- U];exact UW hw),by rw[U];exact a1,λw hw=>(ac w hw).us,λw hw=>(ac w hw).ms⟩
 have a5:cT (wsD ws)=true:=mW ws
 have e7:setM 7 (uQ 0 2 iz (ae (aa 6) (ae (aO 4 gv (ae (aa 5) (ae (aa 6) (ae (aO 2 dF (ae (aa 2) (ae (bE cL (ae (aa 5) ao)) ao))) (ae (aa 2) ao))))) ao))) ⟨[some (vI ns),some (.int (b:Int)),some (.int hd),some (.int (n:Int)),some (vI J),some (vII A),some (sD goods),x7,x8,x9,x10],O⟩=.next ⟨lR ns b hd n J A goods ws x8 x9 x10,O⟩:=by
  have a6:aO 2 dF (ae (aa 2) (ae (bE cL (ae (aa 5) ao)) ao)) ⟨[some (vI ns),some (.int (b:Int)),some (.int hd),some (.int (n:Int)),some (vI J),some (vII A),some (sD goods),x7,x8,x9,x10],O⟩=.ok (sD zs,⟨[some (vI ns),some (.int (b:Int)),some (.int hd),some (.int (n:Int)),some (vI J),some (vII A),some (sD goods),x7,x8,x9,x10],O⟩):=ey (aA (af rfl) (aA (eI (aA (af rfl) (aE _)) (by rw[dB,T3])) (aE _))) ez rfl rfl (dj _)
  have a7:aN [vII A,sD goods,sD zs,.int hd]=true:=by
   rw[fT,i6,i8]
   show (true&&(aN (goods.map D.str)&&(aN (zs.map D.str)&&(true&&true))))=true
   rw[dj,dj];rfl
  have a8:aO 4 gv (ae (aa 5) (ae (aa 6) (ae (aO 2 dF (ae (aa 2) (ae (bE cL (ae (aa 5) ao)) ao))) (ae (aa 2) ao)))) ⟨[some (vI ns),some (.int (b:Int)),some (.int hd),some (.int (n:Int)),some (vI J),some (vII A),some (sD goods),x7,x8,x9,x10],O⟩=.ok (wsD ws,⟨[some (vI ns),some (.int (b:Int)),some (.int hd),some (.int (n:Int)),some (vI J),some (vII A),some (sD goods),x7,x8,x9,x10],O⟩):=ey (aA (af rfl) (aA (af rfl) (aA a6 (aA (af rfl) (aE _))))) eo a7 rfl a5
  have a9:aN [sD goods,wsD ws]=true:=by
   show (aN (goods.map D.str)&&(aN (ws.map wD)&&true))=true
   rw[dj,mW];rfl
  exact i4 (i:=7) (s':=⟨[some (vI ns),some (.int (b:Int)),some (.int hd),some (.int (n:Int)),some (vI J),some (vII A),some (sD goods),x7,x8,x9,x10],O⟩) (IZ (args:=[sD goods,wsD ws]) (aA (af rfl) (aA a8 (aE _))) a9 rfl (Mm gg ab a4 (by omega) (by omega)) (gY _ _))
 obtain⟨o,eo,ho⟩:=hm hd n J A goods ws ⟨gl,by omega,al,wl,wz,kp,am⟩
 exact⟨o,ba e2 (ba e3 (ba e4 (ba e5 (ba e6 (ba e7 eo))))),ho⟩
theorem zQ{ns:List Int}{b:Nat}{hd:Int}{n k:Nat}{J:List Int}{A:List (List Int)}{goods:List Str}{ws:List Wk}(dr:Dr n J A goods ws)(x9 x10:Option D)(O:aB):∃y9 am,uW ⟨lR ns b hd n J A goods ws (some (.int (k:Int))) x9 x10,O⟩=.next ⟨lR ns b hd n J A goods ws (some (.int (k:Int))) y9 am,O⟩:=by
 have al:=dr.al
 obtain⟨c,ec,_⟩:=uX ns (b+1+k)
 have hc:aO 2 cP (ae (aa 0) (ae (ak bI (ak bI (aa 1) (aq (.int 1))) (aa 8)) ao)) ⟨lR ns b hd n J A goods ws (some (.int (k:Int))) x9 x10,O⟩=.ok (.int c,⟨lR ns b hd n J A goods ws (some (.int (k:Int))) x9 x10,O⟩):=by
  refine ey (O1:=[]) (aA (af rfl) (aA (aK (aK (af rfl) (aD _ _) (cj _ _)) (af rfl) (cj _ _)) (aE _))) ?_ (by simp) rfl rfl
  rw[show (b:Int)+1+(k:Int)=((b+1+k:Nat):Int) by omega]
  exact ec
 have e9:setM 9 (ak bI (aa 2) (aO 2 cP (ae (aa 0) (ae (ak bI (ak bI (aa 1) (aq (.int 1))) (aa 8)) ao)))) ⟨lR ns b hd n J A goods ws (some (.int (k:Int))) x9 x10,O⟩=.next ⟨lR ns b hd n J A goods ws (some (.int (k:Int))) (some (.int (hd+c))) x10,O⟩:=bG (aK (af rfl) hc (cj _ _)) rfl
 generalize hd+c=z at e9
 have ew:=d3 (l:=T9 A.length) (item:=λi:Nat=>D.int (i:Int)) (out:=λi=>.int (cA z (100+(i:Int)) 4)) (caps:=[9]) (im:=dM (ae (bE cL (ae (aa 5) ao)) ao)) (e:=aO 3 aL (ae (aa 1) (ae (ak bI (aq (.int 100)) (aa 0)) (ae (aq (.int 4)) ao)))) (k:=none) (s:=⟨lR ns b hd n J A goods ws (some (.int (k:Int))) (some (.int z)) x10,O⟩) (by
  rw[<- fv]
  refine dY (aA (eI (aA (af rfl) (aE _)) ?_) (aE _)) (by omega)
  rw[dB,T3]) trivial (by simp;omega) (λi _=>fF (af rfl) (aK (aD _ _) (af rfl) (cj _ _)) (aD _ _) (by decide))
 rw[show (T9 A.length).map (λi:Nat=>D.int (cA z (100+(i:Int)) 4))=((T9 A.length).map λi:Nat=>cA z (100+(i:Int)) 4).map D.int by rw[Uh];rfl] at ew
 have wl:((T9 A.length).map λi:Nat=>cA z (100+(i:Int)) 4).length=A.length:=by simp
 have wb:∀t∈(T9 A.length).map (λi:Nat=>cA z (100+(i:Int)) 4),0<=t/\t<=3:=λt U=>by
  obtain⟨i,_,rfl⟩:=T4.mp U
  have h0:=ji (c:=z) (t:=100+(i:Int)) (m:=4) (by decide)
  have h1:=md (c:=z) (t:=100+(i:Int)) (m:=4) (by decide)
  exact⟨h0,by omega⟩
 generalize (T9 A.length).map (λi:Nat=>cA z (100+(i:Int)) 4)=Y at ew wl wb
 have as:0<=z%1000000000000000/\z%1000000000000000<1000000000000000:=⟨Vp _ (by decide),U7 _ (by decide)⟩
 have ab:∃way:List Int,ifS (bj (ak eqD (aO 3 aL (ae (aa 9) (ae (aq (.int 120)) (ae (aq (.int 3)) ao)))) (aq (.int 0)))) (setM 10 (bZ 1 [9] (listI (aa 10)) (aG 0) cg (ak dJ (aa 0) (ak fE (aa 1) (ak j6 (aq (.int 10)) (aq (.int 15))))))) cf ⟨lR ns b hd n J A goods ws (some (.int (k:Int))) (some (.int z)) (some (vI Y)),O⟩=.next ⟨lR ns b hd n J A goods ws (some (.int (k:Int))) (some (.int z)) (some (vI way)),O⟩/\way.length=A.length/\(∀t∈way,0<=t)/\SzL 60 way:=by
  have t:=eq_test (j:=0) (fF (s:=⟨lR ns b hd n J A goods ws (some (.int (k:Int))) (some (.int z)) (some (vI Y)),O⟩) (ma:=aa 9) (mb:=aq (.int 120)) (mc:=aq (.int 3)) (af rfl) (aD _ _) (aD _ _) (by decide))
  cases hb:decide (cA z 120 3=0) with
  | true=>
   have e:=d3 (l:=Y) (item:=D.int) (out:=λt=>.int (t*(z%1000000000000000))) (caps:=[9]) (im:=listI (aa 10)) (e:=ak dJ (aa 0) (ak fE (aa 1) (ak j6 (aq (.int 10)) (aq (.int 15))))) (k:=none) (s:=⟨lR ns b hd n J A goods ws (some (.int (k:Int))) (some (.int z)) (some (vI Y)),O⟩) (by rw[cW,af (i:=10) rfl,aj];rfl) trivial (by omega) (λt U=>aK (af rfl) (aK (af rfl) (aK (aD _ _) (aD _ _) (sx (by decide) (by decide) (by decide))) (fk (by decide))) (dN (fD (.inl (by have:=wb t U;omega)))))
   rw[show Y.map (λt=>D.int (t*(z%1000000000000000)))=(Y.map λt=>t*(z%1000000000000000)).map D.int by rw[Uh];rfl] at e
   refine⟨Y.map λt=>t*(z%1000000000000000),jg t hb (bG e rfl),by rw[T3];exact wl,λt U=> ?_,λt U=> ?_⟩
   ·obtain⟨u,hu,rfl⟩:=T4.mp U
    exact U4 (wb u hu).1 as.1
   ·obtain⟨u,hu,rfl⟩:=T4.mp U
    have z1:Sz 2 u:=by have:=wb u hu;unfold Sz;omega
    have z2:Sz 50 (z%1000000000000000):=by unfold Sz;omega
    exact(Sz.mul z1 z2).mono (by decide)
  | false=>exact⟨Y,gs t hb (dC _),wl,λt U=>(wb t U).1,λt U=>by have:=wb t U;unfold Sz;omega⟩
 obtain⟨way,ab,lw,wn,zw⟩:=ab
 obtain⟨Or,er⟩:=JF dr lw wn zw
 refine⟨some (.int z),some (vI way), ?_⟩
 rw[uW]
 refine ba e9 (ba (bG (R':=lR ns b hd n J A goods ws (some (.int (k:Int))) (some (.int z)) (some (vI Y))) ew rfl) (ba ab (gs (O9 (gQ (ey (aA (af rfl) (aA (af rfl) (aA (af rfl) (aA (af rfl) (aE _))))) er ?_ rfl rfl))) rfl (dC _))))
 exact yb _ _ (by rw[fT,i6,i8];simp)
theorem Bh(ns:List Int)(b:Nat)(x2 x3 x4 x5 x6 x7 x8 x9 x10:Option D)(O:aB):∃O' Y y3 y4 y5 y6 y7 y8 U J,va ⟨[some (vI ns),some (.int (b:Int)),x2,x3,x4,x5,x6,x7,x8,x9,x10],O⟩=.next ⟨[some (vI ns),some (.int (b:Int)),Y,y3,y4,y5,y6,y7,y8,U,J],O'⟩:=by
 suffices main:∃o,va ⟨[some (vI ns),some (.int (b:Int)),x2,x3,x4,x5,x6,x7,x8,x9,x10],O⟩=o/\∃O' Y y3 y4 y5 y6 y7 y8 U J,o=Out.next ⟨[some (vI ns),some (.int (b:Int)),Y,y3,y4,y5,y6,y7,y8,U,J],O'⟩ by
  obtain⟨o,h,O',Y,y3,y4,y5,y6,y7,y8,U,J,rfl⟩:=main
  exact⟨O',Y,y3,y4,y5,y6,y7,y8,U,J,h⟩
 rw[va]
 refine Iq ns b x2 x3 x4 x5 x6 x7 x8 x9 x10 O _ _ λhd n we A goods ws dr=> ?_
 obtain⟨U,J,e1⟩:=zQ (ns:=ns) (b:=b) (hd:=hd) (k:=0) dr x9 x10 O
 obtain⟨z9,a3,e2⟩:=zQ (ns:=ns) (b:=b) (hd:=hd) (k:=1) dr U J O
 have hf:fM (dM (ae (aq (.int 2)) ao)) (aG 8) uW ⟨lR ns b hd n we A goods ws x8 x9 x10,O⟩=.next ⟨lR ns b hd n we A goods ws (some (.int 1)) z9 a3,O⟩:=by
  refine(dU (ds:=[.int 0,.int 1]) (k:=none) (s1:=⟨lR ns b hd n we A goods ws x8 x9 x10,O⟩) ?_).trans ?_
  ·exact dY (n:=2) (aA (aD _ _) (aE _)) (by decide)
  ·refine(ir (s1:=⟨lR ns b hd n we A goods ws (some (.int 0)) x9 x10,O⟩) trivial rfl e1).trans ((ir (s1:=⟨lR ns b hd n we A goods ws (some (.int 1)) U J,O⟩) trivial rfl e2).trans ?_)
   rw[cR,if_pos (show okC _ none _ from trivial)]
   rfl
 exact⟨_,hf,_,_,_,_,_,_,_,_,_,_,rfl⟩
theorem Il(ns:List Int)(h:ns.length<=63):∃O,AL [.lst (ns.map D.int)] []=.ok (.bl true,O):=by
 obtain⟨Y,a2,a3,a4,a5,a6,a7,a8,a9,J,e1⟩:=Bh ns 0 none none none none none none none none none []
 obtain⟨O2,b2,b3,b4,b5,b6,b7,b8,b9,U,e2⟩:=Bh ns 6 a2 a3 a4 a5 a6 a7 a8 a9 J Y
 refine pb ⟨⟨[some (vI ns),some (.int 6),b2,b3,b4,b5,b6,b7,b8,b9,U],O2⟩, ?_⟩
 show FC ⟨[some (vI ns),none,none,none,none,none,none,none,none,none,none],[]⟩=_
 rw[FC]
 refine ba ?_ (bD (aD _ _))
 refine(dU (ds:=[.int 0,.int 6]) (k:=none) (s1:=⟨[some (vI ns),none,none,none,none,none,none,none,none,none,none],[]⟩) ?_).trans ?_
 ·rw[cW,AN (aA (aD _ _) (aA (aD _ _) (aE _))) (by simp),aj];rfl
 ·refine(ir (s1:=⟨[some (vI ns),some (.int 0),none,none,none,none,none,none,none,none,none],[]⟩) trivial rfl e1).trans ((ir (s1:=⟨[some (vI ns),some (.int 6),a2,a3,a4,a5,a6,a7,a8,a9,J],Y⟩) trivial rfl e2).trans ?_)
  rw[cR,if_pos (show okC _ none _ from trivial)];rfl
theorem all_mk {l:Xb} {w:World} {K:Fa} {h:Heap} {mg:Str->Option Value} {fa f0 f1 f2 f3 f4 f5 f6 f7 f8 f9 io is iv iP iS i0 i1 i2 i7 jp fi fl js fm jZ j0 j2 j3 j5 kc kd kf kk km kn kt ku kW la fw fx fy fz ga lc le lf lh li lk lm ln lp lq lv U:Addr} (X:K.In h) (G:h.Ns mainGlobals mg) (FS:mg "law" =some (.ref fa)) (J:l.prog.given.tree=none)
 {FT FU FW Gc Gf Go Gt Gx Gz GD GG GH GL GP GV G1 G5 Hh Hn Hq lA lB lH lT ma mc me mh mi mk ml mo mp mq mu mw mB mM mQ mT m0 m1 m2 m3 m6 m7 m8 m9 na nb nc nd nf nh nl nn no nu nw nz nL nQ nT n0 n1 n2 n3 n6 ob oc od oe ol on op ov oD oL oT o0 o1 o2 pa pc pd pg pi pm po pp pr pu py pB pE pH pL pO pQ p0 p3 p4 p5 p6 qb qh ql qn qF gt:Option Addr} {Ht Hz HC HE HQ HR HX H3 H4 H5 q0 q3 q4 q5 q6 q7 q8 q9 ra rb rc rd re ri ro rp rr rs ru rv rx ry rz rP rR r0 r1 r2 r3 r4 r5 r6 r7 sa sb sc sd sh sl sn so ss sw sy sB:Array (Option Value)} {H6 H7 H8 H9 sF Ia Ib Ic Ie If sH Is Ix Iz IN IR sK IT I1 I2 I3 I4 sL I5 I6 I7 I8 I9 sQ Jm Jq Js Jz JU sR J4 Kd Kl Kn KC sU KE KX KY K1 K6 sV Le Lf Lh Lp Ls sW Lt Lu LA LF LG sX LJ sY s3 s4 s5 g1 s6 s7 s8 s9 ti g2 tj tm tn tp tr g3 tt tz tD tL tU g4 t0 t1 t2 t3 t4 g8 t9 uf ul um up g9 ut uv uE u8 vf he vh vi vl vn vo hf vp vq vr vu vv hg vw vx vC vD vK hh vL vO vP vR vV hj vZ v0 v1 v2 v3 hl v4 v5 v6 v9 wb ho wd we wf wh wi hs wj wk wl wn wp ht wv ww wx wz wA hv wC wE wF wK wM hw wN wP wQ wS wT hA wU w0 w1 w2 w3 hB w4 w5 w7 xa xf hC xl xz xL xW x0 hD x1 x2 x3 x4 x5 hF x6 x7 x8 x9 ye hG yr yt yv yR y0 hH y1 y2 y3 y4 y5 hI y6 y7 y8 y9 zg hK zh zj zl zn zq hL zr zu zv zw zz hM zA zE zJ zP zS hN z0 z1 z2 z7 z8 hO z9 Ad Af Ag Ah hP Aj Ak Al Aq Ar hQ As At Au Av Aw hR Ax AA AC AF AG hS AH AI AT A0 Bf hT Bj Bq Bs By BO hV BQ B8 Ce Cf Ch hY CI CK CM CT CV h3 CY C0 C1 C2 C4 h4 C5 C8 C9 Db Dd h5 De Dg Di Dm Dn h6 Do Dp Dt Dw Dx h7 Ef Eh El Ep Er h9 Ev Ew Ey EB ED ia EH EI ih ii ij eP il:Value} {b8 cw db:Tok}
 (eh:Uc K mainGlobals "Yard" =some (some (.ref U)))
 (eQ:VZ K U Str.empty=true)
 (eS:V7 K U=true)
 (e0:WO K U=true)
 (e4:UA K (.ref U) "__setattr__" =some (some (.builtin "object.__setattr__")))
 (e5:Xa K U=true)
 (e6:T8 K (.ref U)=true)
 (bm:UA K (.ref U) "held_changes" =some none)
 (bp:UA K (.ref U) "held_works" =some none)
 (bv:UA K (.ref U) "held_goods" =some none)
 (a0:Uc K mainGlobals "is_whole" =some (some (.ref f0)))
 (l0:K.lookup f0=some ⟨H6,FT,.func (Ue "is_whole" "is_whole" (bg kQ) (aZ kQ) (aw kQ) .none H7 H8 H9 FU sF Ia),Ht⟩)
 (c0:Ua K sF "is_whole" =true)
 (k0:T8 K (.ref f0)=true)
 (a1:Uc K mainGlobals "measure_of_two" =some (some (.ref f1)))
 (l1:K.lookup f1=some ⟨Ib,FW,.func (Ue "measure_of_two" "measure_of_two" (bg fI) (aZ fI) (aw fI) .none Ic Ie If Gc sH Is),Hz⟩)
 (c1:Ua K sH "measure_of_two" =true)
 (k1:T8 K (.ref f1)=true)
 (a2:Uc K mainGlobals "measure" =some (some (.ref f2)))
 (l2:K.lookup f2=some ⟨Ix,Gf,.func (Ue "measure" "measure" (bg mC) (aZ mC) (aw mC) .none Iz IN IR Go sK IT),HC⟩)
 (c2:Ua K sK "measure" =true)
 (k2:T8 K (.ref f2)=true)
 (a3:Uc K mainGlobals "lowest" =some (some (.ref f3)))
 (l3:K.lookup f3=some ⟨I1,Gt,.func (Ue "lowest" "lowest" (bg nB) (aZ nB) (aw nB) .none I2 I3 I4 Gx sL I5),HE⟩)
 (c3:Ua K sL "lowest" =true)
 (k3:T8 K (.ref f3)=true)
 (a4:Uc K mainGlobals "sum_of_products" =some (some (.ref f4)))
 (l4:K.lookup f4=some ⟨I6,Gz,.func (Ue "sum_of_products" "sum_of_products" (bg ft) (aZ ft) (aw ft) .none I7 I8 I9 GD sQ Jm),HQ⟩)
 (c4:Ua K sQ "sum_of_products" =true)
 (k4:T8 K (.ref f4)=true)
 (a5:Uc K mainGlobals "unit" =some (some (.ref f5)))
 (l5:K.lookup f5=some ⟨Jq,GG,.func (Ue "unit" "unit" (bg qZ) (aZ qZ) (aw qZ) .none Js Jz JU GH sR J4),HR⟩)
 (c5:Ua K sR "unit" =true)
 (k5:T8 K (.ref f5)=true)
 (a6:Uc K mainGlobals "units" =some (some (.ref f6)))
 (l6:K.lookup f6=some ⟨Kd,GL,.func (Ue "units" "units" (bg o7) (aZ o7) (aw o7) .none Kl Kn KC GP sU KE),HX⟩)
 (c6:Ua K sU "units" =true)
 (k6:T8 K (.ref f6)=true)
 (a7:Uc K mainGlobals "offset" =some (some (.ref f7)))
 (l7:K.lookup f7=some ⟨KX,GV,.func (Ue "offset" "offset" (bg nj) (aZ nj) (aw nj) .none KY K1 K6 G1 sV Le),H3⟩)
 (c7:Ua K sV "offset" =true)
 (k7:T8 K (.ref f7)=true)
 (a8:Uc K mainGlobals "column" =some (some (.ref f8)))
 (l8:K.lookup f8=some ⟨Lf,G5,.func (Ue "column" "column" (bg nt) (aZ nt) (aw nt) .none Lh Lp Ls Hh sW Lt),H4⟩)
 (c8:Ua K sW "column" =true)
 (k8:T8 K (.ref f8)=true)
 (a9:Uc K mainGlobals "first_not_nought" =some (some (.ref f9)))
 (l9:K.lookup f9=some ⟨Lu,Hn,.func (Ue "first_not_nought" "first_not_nought" (bg eX) (aZ eX) (aw eX) .none LA LF LG Hq sX LJ),H5⟩)
 (c9:Ua K sX "first_not_nought" =true)
 (k9:T8 K (.ref f9)=true)
 (LM:Uc K mainGlobals "with_sign_above" =some (some (.ref io)))
 (LS:K.lookup io=some ⟨sY,lA,.func (Ue "with_sign_above" "with_sign_above" (bg fu) (aZ fu) (aw fu) .none s3 s4 s5 lB g1 s6),q0⟩)
 (LX:Ua K g1 "with_sign_above" =true)
 (LZ:T8 K (.ref io)=true)
 (L0:Uc K mainGlobals "cleared" =some (some (.ref is)))
 (L1:K.lookup is=some ⟨s7,lH,.func (Ue "cleared" "cleared" (bg mE) (aZ mE) (aw mE) .none s8 s9 ti lT g2 tj),q3⟩)
 (L6:Ua K g2 "cleared" =true)
 (L7:T8 K (.ref is)=true)
 (L8:Uc K mainGlobals "plain" =some (some (.ref iv)))
 (L9:K.lookup iv=some ⟨tm,ma,.func (Ue "plain" "plain" (bg ph) (aZ ph) (aw ph) .none tn tp tr mc g3 tt),q4⟩)
 (Mi:Ua K g3 "plain" =true)
 (MA:T8 K (.ref iv)=true)
 (MB:Uc K mainGlobals "still_by_one_more" =some (some (.ref iP)))
 (MO:K.lookup iP=some ⟨tz,me,.func (Ue "still_by_one_more" "still_by_one_more" (bg en) (aZ en) (aw en) .none tD tL tU mh g4 t0),q5⟩)
 (MP:Ua K g4 "still_by_one_more" =true)
 (MQ:T8 K (.ref iP)=true)
 (MR:Uc K mainGlobals "still" =some (some (.ref iS)))
 (MS:K.lookup iS=some ⟨t1,mi,.func (Ue "still" "still" (bg o8) (aZ o8) (aw o8) .none t2 t3 t4 mk g8 t9),q6⟩)
 (MT:Ua K g8 "still" =true)
 (MU:T8 K (.ref iS)=true)
 (MV:Uc K mainGlobals "places_of" =some (some (.ref i0)))
 (MY:K.lookup i0=some ⟨uf,ml,.func (Ue "places_of" "places_of" (bg jH) (aZ jH) (aw jH) .none ul um up mo g9 ut),q7⟩)
 (M2:Ua K g9 "places_of" =true)
 (M7:T8 K (.ref i0)=true)
 (M9:Uc K mainGlobals "is_among" =some (some (.ref i1)))
 (Na:K.lookup i1=some ⟨uv,mp,.func (Ue "is_among" "is_among" (bg kR) (aZ kR) (aw kR) .none uE u8 vf mq he vh),q8⟩)
 (Nb:Ua K he "is_among" =true)
 (Nc:T8 K (.ref i1)=true)
 (Ng:Uc K mainGlobals "are_neighbours" =some (some (.ref i2)))
 (No:K.lookup i2=some ⟨vi,mu,.func (Ue "are_neighbours" "are_neighbours" (bg fK) (aZ fK) (aw fK) .none vl vn vo mw hf vp),q9⟩)
 (Nx:Ua K hf "are_neighbours" =true)
 (NE:T8 K (.ref i2)=true)
 (NG:Uc K mainGlobals "lone_by_one_more" =some (some (.ref i7)))
 (NH:K.lookup i7=some ⟨vq,mB,.func (Ue "lone_by_one_more" "lone_by_one_more" (bg eW) (aZ eW) (aw eW) .none vr vu vv mM hg vw),ra⟩)
 (NI:Ua K hg "lone_by_one_more" =true)
 (NK:T8 K (.ref i7)=true)
 (NQ:Uc K mainGlobals "lone" =some (some (.ref jp)))
 (N3:K.lookup jp=some ⟨vx,mQ,.func (Ue "lone" "lone" (bg rk) (aZ rk) (aw rk) .none vC vD vK mT hh vL),rb⟩)
 (N8:Ua K hh "lone" =true)
 (Oa:T8 K (.ref jp)=true)
 (Og:UA K (.ref U) "change" =some (some (.ref fi)))
 (Oh:Vg K (.ref fi)=true)
 (Ol:K.lookup fi=some ⟨vO,m0,.func (Ue "change" "Yard.change" (bg g0) (aZ g0) (aw g0) .none vP vR vV m1 hj vZ),rc⟩)
 (Om:Ua K hj "Yard.change" =true)
 (EJ:T8 K (.ref fi)=true)
 (Oo:UA K (.ref U) "names" =some (some (.ref fl)))
 (Op:Vg K (.ref fl)=true)
 (Ov:K.lookup fl=some ⟨v0,m2,.func (Ue "names" "Yard.names" (bg iN) (aZ iN) (aw iN) .none v1 v2 v3 m3 hl v4),rd⟩)
 (Ow:Ua K hl "Yard.names" =true)
 (EN:T8 K (.ref fl)=true)
 (Ox:Uc K mainGlobals "changes" =some (some (.ref js)))
 (Oz:K.lookup js=some ⟨v5,m6,.func (Ue "changes" "changes" (bg mJ) (aZ mJ) (aw mJ) .none v6 v9 wb m7 ho wd),re⟩)
 (OK:Ua K ho "changes" =true)
 (OL:T8 K (.ref js)=true)
 (OO:UA K (.ref U) "goods" =some (some (.ref fm)))
 (OP:Vg K (.ref fm)=true)
 (OQ:K.lookup fm=some ⟨we,m8,.func (Ue "goods" "Yard.goods" (bg iK) (aZ iK) (aw iK) .none wf wh wi m9 hs wj),ri⟩)
 (OS:Ua K hs "Yard.goods" =true)
 (EQ:T8 K (.ref fm)=true)
 (OT:Uc K mainGlobals "check_weights" =some (some (.ref jZ)))
 (OV:K.lookup jZ=some ⟨wk,na,.func (Ue "check_weights" "check_weights" (bg gb) (aZ gb) (aw gb) .none wl wn wp nb ht wv),ro⟩)
 (OW:Ua K ht "check_weights" =true)
 (OX:T8 K (.ref jZ)=true)
 (OY:Uc K mainGlobals "weighed" =some (some (.ref j0)))
 (OZ:K.lookup j0=some ⟨ww,nc,.func (Ue "weighed" "weighed" (bg mH) (aZ mH) (aw mH) .none wx wz wA nd hv wC),rp⟩)
 (O1:Ua K hv "weighed" =true)
 (O2:T8 K (.ref j0)=true)
 (O3:Uc K mainGlobals "kept" =some (some (.ref j2)))
 (O4:K.lookup j2=some ⟨wE,nf,.func (Ue "kept" "kept" (bg qM) (aZ qM) (aw qM) .none wF wK wM nh hw wN),rr⟩)
 (Pb:Ua K hw "kept" =true)
 (Pf:T8 K (.ref j2)=true)
 (Pg:Uc K mainGlobals "pools" =some (some (.ref j3)))
 (Pk:K.lookup j3=some ⟨wP,nl,.func (Ue "pools" "pools" (bg oZ) (aZ oZ) (aw oZ) .none wQ wS wT nn hA wU),rs⟩)
 (Pm:Ua K hA "pools" =true)
 (Pr:T8 K (.ref j3)=true)
 (Ps:Uc K mainGlobals "is_name" =some (some (.ref j5)))
 (Pu:K.lookup j5=some ⟨w0,no,.func (Ue "is_name" "is_name" (bg mD) (aZ mD) (aw mD) .none w1 w2 w3 nu hB w4),ru⟩)
 (Py:Ua K hB "is_name" =true)
 (Pz:T8 K (.ref j5)=true)
 (PF:Uc K mainGlobals "check_many" =some (some (.ref kc)))
 (PL:K.lookup kc=some ⟨w5,nw,.func (Ue "check_many" "check_many" (bg iT) (aZ iT) (aw iT) .none w7 xa xf nz hC xl),rv⟩)
 (PP:Ua K hC "check_many" =true)
 (PU:T8 K (.ref kc)=true)
 (PV:Uc K mainGlobals "check_name" =some (some (.ref kd)))
 (PY:K.lookup kd=some ⟨xz,nL,.func (Ue "check_name" "check_name" (bg i3) (aZ i3) (aw i3) .none xL xW x0 nQ hD x1),rx⟩)
 (P0:Ua K hD "check_name" =true)
 (P1:T8 K (.ref kd)=true)
 (P2:Uc K mainGlobals "check_goods" =some (some (.ref kf)))
 (P4:K.lookup kf=some ⟨x2,nT,.func (Ue "check_goods" "check_goods" (bg gZ) (aZ gZ) (aw gZ) .none x3 x4 x5 n0 hF x6),ry⟩)
 (P6:Ua K hF "check_goods" =true)
 (Qm:T8 K (.ref kf)=true)
 (Qq:Uc K mainGlobals "check_good" =some (some (.ref kk)))
 (QA:K.lookup kk=some ⟨x7,n1,.func (Ue "check_good" "check_good" (bg iV) (aZ iV) (aw iV) .none x8 x9 ye n2 hG yr),rz⟩)
 (QB:Ua K hG "check_good" =true)
 (QG:T8 K (.ref kk)=true)
 (QH:Uc K mainGlobals "check_amount" =some (some (.ref km)))
 (QO:K.lookup km=some ⟨yt,n3,.func (Ue "check_amount" "check_amount" (bg gD) (aZ gD) (aw gD) .none yv yR y0 n6 hH y1),rP⟩)
 (QQ:Ua K hH "check_amount" =true)
 (Q1:T8 K (.ref km)=true)
 (Q3:Uc K mainGlobals "check_parts" =some (some (.ref kn)))
 (Q7:K.lookup kn=some ⟨y2,ob,.func (Ue "check_parts" "check_parts" (bg gU) (aZ gU) (aw gU) .none y3 y4 y5 oc hI y6),rR⟩)
 (Rb:Ua K hI "check_parts" =true)
 (Re:T8 K (.ref kn)=true)
 (Rq:Uc K mainGlobals "check_works" =some (some (.ref kt)))
 (Rr:K.lookup kt=some ⟨y7,od,.func (Ue "check_works" "check_works" (bg hE) (aZ hE) (aw hE) .none y8 y9 zg oe hK zh),r0⟩)
 (Rs:Ua K hK "check_works" =true)
 (RG:T8 K (.ref kt)=true)
 (RH:Uc K mainGlobals "copy_work" =some (some (.ref ku)))
 (RI:K.lookup ku=some ⟨zj,ol,.func (Ue "copy_work" "copy_work" (bg jN) (aZ jN) (aw jN) .none zl zn zq on hL zr),r1⟩)
 (RJ:Ua K hL "copy_work" =true)
 (RK:T8 K (.ref ku)=true)
 (RL:Uc K mainGlobals "amount_of" =some (some (.ref kW)))
 (RM:K.lookup kW=some ⟨zu,op,.func (Ue "amount_of" "amount_of" (bg jD) (aZ jD) (aw jD) .none zv zw zz ov hM zA),r2⟩)
 (RN:Ua K hM "amount_of" =true)
 (RO:T8 K (.ref kW)=true)
 (RP:Uc K mainGlobals "change_of" =some (some (.ref la)))
 (RQ:K.lookup la=some ⟨zE,oD,.func (Ue "change_of" "change_of" (bg jK) (aZ jK) (aw jK) .none zJ zP zS oL hN z0),r3⟩)
 (RR:Ua K hN "change_of" =true)
 (RS:T8 K (.ref la)=true)
 (RT:UA K (.ref U) "__init__" =some (some (.ref fw)))
 (RU:Vg K (.ref fw)=true)
 (RV:K.lookup fw=some ⟨z1,oT,.func (Ue "__init__" "Yard.__init__" (bg jM) (aZ jM) (aw jM) .none z2 z7 z8 o0 hO z9),r4⟩)
 (RW:Ua K hO "Yard.__init__" =true)
 (RX:T8 K (.ref fw)=true)
 (RY:UA K (.ref U) "row" =some (some (.ref fx)))
 (RZ:Vg K (.ref fx)=true)
 (R0:K.lookup fx=some ⟨Ad,o1,.func (Ue "row" "Yard.row" (bg kN) (aZ kN) (aw kN) .none Af Ag Ah o2 hP Aj),r5⟩)
 (R1:Ua K hP "Yard.row" =true)
 (ER:T8 K (.ref fx)=true)
 (R3:UA K (.ref U) "rows" =some (some (.ref fy)))
 (R4:Vg K (.ref fy)=true)
 (R5:K.lookup fy=some ⟨Ak,pa,.func (Ue "rows" "Yard.rows" (bg jI) (aZ jI) (aw jI) .none Al Aq Ar pc hQ As),r6⟩)
 (R6:Ua K hQ "Yard.rows" =true)
 (EY:T8 K (.ref fy)=true)
 (R7:UA K (.ref U) "check_way" =some (some (.ref fz)))
 (R8:Vg K (.ref fz)=true)
 (R9:K.lookup fz=some ⟨At,pd,.func (Ue "check_way" "Yard.check_way" (bg fO) (aZ fO) (aw fO) .none Au Av Aw pg hR Ax),r7⟩)
 (Sa:Ua K hR "Yard.check_way" =true)
 (E1:T8 K (.ref fz)=true)
 (Sb:UA K (.ref U) "leaves" =some (some (.ref ga)))
 (Sc:Vg K (.ref ga)=true)
 (Sd:K.lookup ga=some ⟨AA,pi,.func (Ue "leaves" "Yard.leaves" (bg g7) (aZ g7) (aw g7) .none AC AF AG pm hS AH),sa⟩)
 (Se:Ua K hS "Yard.leaves" =true)
 (E2:T8 K (.ref ga)=true)
 (Sf:Uc K mainGlobals "_law_cell" =some (some (.ref lc)))
 (Sg:K.lookup lc=some ⟨AI,po,.func (Ue "_law_cell" "_law_cell" (bg kF) (aZ kF) (aw kF) .none AT A0 Bf pp hT Bj),sb⟩)
 (Si:Ua K hT "_law_cell" =true)
 (Sj:T8 K (.ref lc)=true)
 (Sk:Uc K mainGlobals "_law_pick" =some (some (.ref le)))
 (Sl:K.lookup le=some ⟨Bq,pr,.func (Ue "_law_pick" "_law_pick" (bg kM) (aZ kM) (aw kM) .none Bs By BO pu hV BQ),sc⟩)
 (Sm:Ua K hV "_law_pick" =true)
 (Sn:T8 K (.ref le)=true)
 (So:Uc K mainGlobals "_law_names" =some (some (.ref lf)))
 (Sq:K.lookup lf=some ⟨B8,py,.func (Ue "_law_names" "_law_names" (bg jO) (aZ jO) (aw jO) .none Ce Cf Ch pB hY CI),sd⟩)
 (Sr:Ua K hY "_law_names" =true)
 (Ss:T8 K (.ref lf)=true)
 (Su:Uc K mainGlobals "_law_move" =some (some (.ref lh)))
 (Sv:K.lookup lh=some ⟨CK,pE,.func (Ue "_law_move" "_law_move" (bg kE) (aZ kE) (aw kE) .none CM CT CV pH h3 CY),sh⟩)
 (Sw:Ua K h3 "_law_move" =true)
 (Sx:T8 K (.ref lh)=true)
 (Sy:Uc K mainGlobals "_law_weights" =some (some (.ref li)))
 (SA:K.lookup li=some ⟨C0,pL,.func (Ue "_law_weights" "_law_weights" (bg hU) (aZ hU) (aw hU) .none C1 C2 C4 pO h4 C5),sl⟩)
 (SD:Ua K h4 "_law_weights" =true)
 (SE:T8 K (.ref li)=true)
 (SF:Uc K mainGlobals "_law_keeping" =some (some (.ref lk)))
 (SG:K.lookup lk=some ⟨C8,pQ,.func (Ue "_law_keeping" "_law_keeping" (bg g6) (aZ g6) (aw g6) .none C9 Db Dd p0 h5 De),sn⟩)
 (SH:Ua K h5 "_law_keeping" =true)
 (SI:T8 K (.ref lk)=true)
 (SJ:Uc K mainGlobals "_law_works" =some (some (.ref lm)))
 (SK:K.lookup lm=some ⟨Dg,p3,.func (Ue "_law_works" "_law_works" (bg jL) (aZ jL) (aw jL) .none Di Dm Dn p4 h6 Do),so⟩)
 (SN:Ua K h6 "_law_works" =true)
 (SO:T8 K (.ref lm)=true)
 (SQ:Uc K mainGlobals "_law_left" =some (some (.ref ln)))
 (SR:K.lookup ln=some ⟨Dp,p5,.func (Ue "_law_left" "_law_left" (bg kv) (aZ kv) (aw kv) .none Dt Dw Dx p6 h7 Ef),ss⟩)
 (SS:Ua K h7 "_law_left" =true)
 (SU:T8 K (.ref ln)=true)
 (SV:Uc K mainGlobals "_law_pool_holds" =some (some (.ref lp)))
 (SW:K.lookup lp=some ⟨Eh,qb,.func (Ue "_law_pool_holds" "_law_pool_holds" (bg fJ) (aZ fJ) (aw fJ) .none El Ep Er qh h9 Ev),sw⟩)
 (SX:Ua K h9 "_law_pool_holds" =true)
 (SY:T8 K (.ref lp)=true)
 (S0:Uc K mainGlobals "_law_right" =some (some (.ref lq)))
 (S1:K.lookup lq=some ⟨Ew,ql,.func (Ue "_law_right" "_law_right" (bg jP) (aZ jP) (aw jP) .none Ey EB ED qn ia EH),sy⟩)
 (S2:Ua K ia "_law_right" =true)
 (S3:T8 K (.ref lq)=true)
 (E3:Uc K mainGlobals "law" =some (some (.ref lv)))
 (S4:K.lookup lv=some ⟨EI,qF,.func (Ue "law" "law" (bg oK) (aZ oK) (aw oK) .none ih ii ij gt eP il),sB⟩)
 (S5:Ua K eP "law" =true)
 (S6:T8 K (.ref lv)=true)
 (dd:Uc K mainGlobals "isinstance" =some none)
 (er:Uc K mainGlobals "int" =some none)
 (ge:Uc K mainGlobals "bool" =some none)
 (lx:Uc K mainGlobals "abs" =some none)
 (bW:Uc K mainGlobals "list" =some none)
 (d2:Uc K mainGlobals "zip" =some none)
 (ce:Uc K mainGlobals "sum" =some none)
 (am:Uc K mainGlobals "range" =some none)
 (bd:Uc K mainGlobals "enumerate" =some none)
 (ap:Uc K mainGlobals "len" =some none)
 (eB:Uc K mainGlobals "sorted" =some none)
 (e7:Uc K mainGlobals "all" =some none)
 (ly:Uc K mainGlobals "any" =some none)
 (e8:Uc K mainGlobals "max" =some none)
 (b9:Uc K mainGlobals "MOST_LETTERS" =some (some (.int 8 b8)))
 (dn:Uc K mainGlobals "MOST_GOODS" =some (some (.int 10 cw)))
 (dr:Uc K mainGlobals "MOST_WORKS" =some (some (.int 10 db))):
 ∃fd:FuncData,(∀(s:Shared) (v:Value),BindsTo s fd ⟨[v],[]⟩ [("_law_script",v)])/\∀base:Heap,K.In base->base.Ns mainGlobals mg->gH l.prog w K mg base (CXE l.prog w) 44 fa fd ["_law_script"] (spM K (caK K) 1 AL):=by
 have e:=FS.symm.trans (Uf X G E3)
 cases e
 have Y:caK K 0=U:=by show clsAt K "Yard" =_;unfold clsAt;rw[eh]
 have ab:Cls K (caK K 0):=by rw[Y];exact⟨eQ,eS,e0,e4⟩
 have an:eO K (caK K 0) "held_changes" :=by rw[Y];exact bm
 have as:eO K (caK K 0) "held_works" :=by rw[Y];exact bp
 have az:eO K (caK K 0) "held_goods" :=by rw[Y];exact bv
 have F0:=bC (st:=kQ) l0 c0 k0
 have F1:=bC (st:=fI) l1 c1 k1
 have F2:=bC (st:=mC) l2 c2 k2
 have F3:=bC (st:=nB) l3 c3 k3
 have F4:=bC (st:=ft) l4 c4 k4
 have F5:=bC (st:=qZ) l5 c5 k5
 have F6:=bC (st:=o7) l6 c6 k6
 have F7:=bC (st:=nj) l7 c7 k7
 have F8:=bC (st:=nt) l8 c8 k8
 have F9:=bC (st:=eX) l9 c9 k9
 have S7:=bC (st:=fu) LS LX LZ
 have S8:=bC (st:=mE) L1 L6 L7
 have S9:=bC (st:=ph) L9 Mi MA
 have Ta:=bC (st:=en) MO MP MQ
 have Tb:=bC (st:=o8) MS MT MU
 have Tc:=bC (st:=jH) MY M2 M7
 have Td:=bC (st:=kR) Na Nb Nc
 have Te:=bC (st:=fK) No Nx NE
 have Tf:=bC (st:=eW) NH NI NK
 have Tg:=bC (st:=rk) N3 N8 Oa
 have Th:=bC (st:=g0) Ol Om EJ
 have Ti:=bC (st:=iN) Ov Ow EN
 have Tj:=bC (st:=mJ) Oz OK OL
 have Tk:=bC (st:=iK) OQ OS EQ
 have Tl:=bC (st:=gb) OV OW OX
 have Tn:=bC (st:=mH) OZ O1 O2
 have To:=bC (st:=qM) O4 Pb Pf
 have Tp:=bC (st:=oZ) Pk Pm Pr
 have Tq:=bC (st:=mD) Pu Py Pz
 have Tr:=bC (st:=iT) PL PP PU
 have Ts:=bC (st:=i3) PY P0 P1
 have Tt:=bC (st:=gZ) P4 P6 Qm
 have Tu:=bC (st:=iV) QA QB QG
 have Tv:=bC (st:=gD) QO QQ Q1
 have Tw:=bC (st:=gU) Q7 Rb Re
 have Tx:=bC (st:=hE) Rr Rs RG
 have Tz:=bC (st:=jN) RI RJ RK
 have TB:=bC (st:=jD) RM RN RO
 have TC:=bC (st:=jK) RQ RR RS
 have TD:=bC (st:=jM) RV RW RX
 have TF:=bC (st:=kN) R0 R1 ER
 have TH:=bC (st:=jI) R5 R6 EY
 have TJ:=bC (st:=fO) R9 Sa E1
 have TK:=bC (st:=g7) Sd Se E2
 have TL:=bC (st:=kF) Sg Si Sj
 have TN:=bC (st:=kM) Sl Sm Sn
 have TQ:=bC (st:=jO) Sq Sr Ss
 have TR:=bC (st:=kE) Sv Sw Sx
 have TU:=bC (st:=hU) SA SD SE
 have TV:=bC (st:=g6) SG SH SI
 have TW:=bC (st:=jL) SK SN SO
 have TX:=bC (st:=kv) SR SS SU
 have TY:=bC (st:=fJ) SW SX SY
 have TZ:=bC (st:=jP) S1 S2 S3
 have T0:=bC (st:=oK) S4 S5 S6
 refine⟨Ue "law" "law" (bg oK) (aZ oK) (aw oK) .none ih ii ij gt eP il,λs v=>.of_eq rfl,λbase _ _=> ?_⟩
 have ej:=CQ (P:=l.prog) (w:=w) (mg:=mg) (base:=base) (ca:=caK K) F0 (Uf X G a0) J (T6 X G dd) (T6 X G er) (T6 X G ge)
 have b1:=vj (P:=l.prog) (w:=w) (mg:=mg) (base:=base) (ca:=caK K) F1 (Uf X G a1) J (T6 X G lx)
 have et:=Fu (P:=l.prog) (w:=w) (mg:=mg) (base:=base) (ca:=caK K) F2 (Uf X G a2) J b1.in
 have d1:=GF (P:=l.prog) (w:=w) (mg:=mg) (base:=base) (ca:=caK K) F3 (Uf X G a3) J (T6 X G bW) et.in
 have ac:=tO (P:=l.prog) (w:=w) (mg:=mg) (base:=base) (ca:=caK K) F4 (Uf X G a4) J (T6 X G d2) (T6 X G ce)
 have gg:=MJ (P:=l.prog) (w:=w) (mg:=mg) (base:=base) (ca:=caK K) F5 (Uf X G a5) J
 have eu:=EG (P:=l.prog) (w:=w) (mg:=mg) (base:=base) (ca:=caK K) F5 (Uf X G a5) J
 have e9:=IQ (P:=l.prog) (w:=w) (mg:=mg) (base:=base) (ca:=caK K) F6 (Uf X G a6) J (T6 X G am) gg.in
 have ek:=CO (P:=l.prog) (w:=w) (mg:=mg) (base:=base) (ca:=caK K) F6 (Uf X G a6) J (T6 X G am) eu.in
 have b5:=HF (P:=l.prog) (w:=w) (mg:=mg) (base:=base) (ca:=caK K) F7 (Uf X G a7) J (T6 X G d2) d1.in
 have eF:=Hl (P:=l.prog) (w:=w) (mg:=mg) (base:=base) (ca:=caK K) F8 (Uf X G a8) J
 have be:=sZ (P:=l.prog) (w:=w) (mg:=mg) (base:=base) (ca:=caK K) F9 (Uf X G a9) J (T6 X G bd)
 have bV:=uB (P:=l.prog) (w:=w) (mg:=mg) (base:=base) (ca:=caK K) S7 (Uf X G LM) J
 have ev:=En (P:=l.prog) (w:=w) (mg:=mg) (base:=base) (ca:=caK K) S8 (Uf X G L0) J b5.in
 have fc:=JJ (P:=l.prog) (w:=w) (mg:=mg) (base:=base) (ca:=caK K) S9 (Uf X G L8) J (T6 X G am) d1.in be.in eF.in bV.in ev.in
 have bn:=sv (P:=l.prog) (w:=w) (mg:=mg) (base:=base) (ca:=caK K) Ta (Uf X G MB) J (T6 X G bd) ac.in be.in b5.in
 have ff:=Ih (P:=l.prog) (w:=w) (mg:=mg) (base:=base) (ca:=caK K) Tb (Uf X G MR) J ek.in bn.in fc.in
 have d6:=Cy (P:=l.prog) (w:=w) (mg:=mg) (base:=base) (ca:=caK K) Tc (Uf X G MV) J
 have el:=CN (P:=l.prog) (w:=w) (mg:=mg) (base:=base) (ca:=caK K) Td (Uf X G M9) J
 have b2:=vm (P:=l.prog) (w:=w) (mg:=mg) (base:=base) (ca:=caK K) Te (Uf X G Ng) J (T6 X G ap) el.in
 have bw:=tf (P:=l.prog) (w:=w) (mg:=mg) (base:=base) (ca:=caK K) Tf (Uf X G NG) J (T6 X G d2) (T6 X G bd) ac.in d6.in b2.in b5.in
 have gm:=Ms (P:=l.prog) (w:=w) (mg:=mg) (base:=base) (ca:=caK K) Tg (Uf X G NQ) J (T6 X G eB) e9.in bw.in
 have ci:=yF (P:=l.prog) (w:=w) (mg:=mg) (base:=base) (ca:=caK K) Th (by rw[Y];exact⟨Og,Oh,EJ⟩) J (T6 X G bW) ab an
 have dt:=AD (P:=l.prog) (w:=w) (mg:=mg) (base:=base) (ca:=caK K) Ti (by rw[Y];exact⟨Oo,Op,EN⟩) J ab as
 have cm:=EU (P:=l.prog) (w:=w) (mg:=mg) (base:=base) (ca:=caK K) Tj (Uf X G Ox) J (T6 X G ap) (T6 X G am) ab dt ci
 have bi:=Am (P:=l.prog) (w:=w) (mg:=mg) (base:=base) (ca:=caK K) Tk (by rw[Y];exact⟨OO,OP,EQ⟩) J (T6 X G bW) ab az
 have b6:=wH (P:=l.prog) (w:=w) (mg:=mg) (base:=base) (ca:=caK K) Tl (Uf X G OT) J (T6 X G ap) ab bi
 have ew:=Fz (P:=l.prog) (w:=w) (mg:=mg) (base:=base) (ca:=caK K) Tn (Uf X G OY) J b6.in ac.in
 have gq:=Lg (P:=l.prog) (w:=w) (mg:=mg) (base:=base) (ca:=caK K) To (Uf X G O3) J (T6 X G ap) ab ff.in cm.in bi
 have fh:=JG (P:=l.prog) (w:=w) (mg:=mg) (base:=base) (ca:=caK K) Tp (Uf X G Pg) J (T6 X G ap) ab gm.in cm.in bi
 have eA:=ET (P:=l.prog) (w:=w) (mg:=mg) (base:=base) (ca:=caK K) Tq (Uf X G Ps) J (T6 X G ap) (T6 X G e7) ⟨_,Uf X G b9⟩
 have dL:=AB (P:=l.prog) (w:=w) (mg:=mg) (base:=base) (ca:=caK K) Tr (Uf X G PF) J (T6 X G ap) ⟨_,Uf X G dn⟩ ⟨_,Uf X G dr⟩
 have bU:=Az (P:=l.prog) (w:=w) (mg:=mg) (base:=base) (ca:=caK K) Ts (Uf X G PV) J eA.in
 have cn:=yJ (P:=l.prog) (w:=w) (mg:=mg) (base:=base) (ca:=caK K) Tt (Uf X G P2) J (T6 X G bd) bU.in
 have dV:=Ap (P:=l.prog) (w:=w) (mg:=mg) (base:=base) (ca:=caK K) Tu (Uf X G Qq) J
 have cc:=xE (P:=l.prog) (w:=w) (mg:=mg) (base:=base) (ca:=caK K) Tv (Uf X G QH) J ej.in
 have co:=yH (P:=l.prog) (w:=w) (mg:=mg) (base:=base) (ca:=caK K) Tw (Uf X G Q3) J dV.in cc.in
 have cp:=yT (P:=l.prog) (w:=w) (mg:=mg) (base:=base) (ca:=caK K) Tx (Uf X G Rq) J bU.in co.in
 have d7:=Bt (P:=l.prog) (w:=w) (mg:=mg) (base:=base) (ca:=caK K) Tz (Uf X G RH) J (T6 X G bW)
 have d8:=Cb (P:=l.prog) (w:=w) (mg:=mg) (base:=base) (ca:=caK K) TB (Uf X G RL) J (T6 X G ce)
 have ea:=Bu (P:=l.prog) (w:=w) (mg:=mg) (base:=base) (ca:=caK K) TC (Uf X G RP) J d8.in
 have eb:=B6 (P:=l.prog) (w:=w) (mg:=mg) (base:=base) (ca:=caK K) TD (by rw[Y];exact⟨e5,RT,RU,e6⟩) (by rw[Y];exact Uf X G eh) J (T6 X G bW) ab az as an dL.in cn.in cp.in d7.in ea.in
 have em:=Dk (P:=l.prog) (w:=w) (mg:=mg) (base:=base) (ca:=caK K) TF (by rw[Y];exact⟨RY,RZ,ER⟩) J ab an
 have ec:=Bd (P:=l.prog) (w:=w) (mg:=mg) (base:=base) (ca:=caK K) TH (by rw[Y];exact⟨R3,R4,EY⟩) J (T6 X G ap) (T6 X G am) ab az em
 have b3:=vk (P:=l.prog) (w:=w) (mg:=mg) (base:=base) (ca:=caK K) TJ (by rw[Y];exact⟨R7,R8,E1⟩) J (T6 X G ap) (T6 X G ly) ab as
 have cr:=yg (P:=l.prog) (w:=w) (mg:=mg) (base:=base) (ca:=caK K) TK (by rw[Y];exact⟨Sb,Sc,E2⟩) J ab b3 ec ac.in
 have b7:=Dy (P:=l.prog) (w:=w) (mg:=mg) (base:=base) (ca:=caK K) TL (Uf X G Sf) J (T6 X G ap)
 have bb:=Dq (P:=l.prog) (w:=w) (mg:=mg) (base:=base) (ca:=caK K) TN (Uf X G Sk) J
 have ed:=Cq (P:=l.prog) (w:=w) (mg:=mg) (base:=base) (ca:=caK K) TQ (Uf X G So) J (T6 X G am) (T6 X G ap) bb.in
 have eo:=CP (P:=l.prog) (w:=w) (mg:=mg) (base:=base) (ca:=caK K) TR (Uf X G Su) J (T6 X G er) (T6 X G am) bb.in
 have cs:=yn (P:=l.prog) (w:=w) (mg:=mg) (base:=base) (ca:=caK K) TU (Uf X G Sy) J (T6 X G am) (T6 X G e8) bb.in
 have cu:=yz (P:=l.prog) (w:=w) (mg:=mg) (base:=base) (ca:=caK K) TV (Uf X G SF) J (T6 X G ap) (T6 X G er) (T6 X G am) (T6 X G ce) b7.in bb.in eo.in
 have ee:=A9 (P:=l.prog) (w:=w) (mg:=mg) (base:=base) (ca:=caK K) TW (Uf X G SJ) J (T6 X G bd) (T6 X G e8) bb.in
 have ep:=Dz (P:=l.prog) (w:=w) (mg:=mg) (base:=base) (ca:=caK K) TX (Uf X G SQ) J (T6 X G am) (T6 X G ap) (T6 X G ce)
 have b4:=ve (P:=l.prog) (w:=w) (mg:=mg) (base:=base) (ca:=caK K) TY (Uf X G SV) J (T6 X G ap) (T6 X G am)
 have eg:=Bm (P:=l.prog) (w:=w) (mg:=mg) (base:=base) (ca:=caK K) TZ (Uf X G S0) J (T6 X G ap) (T6 X G d2) (T6 X G ce) (T6 X G e7) ab cr ep.in fh.in gq.in ew.in b4.in
 have lz:=N5 (P:=l.prog) (w:=w) (mg:=mg) (base:=base) (ca:=caK K) T0 (Uf X G E3) J (T6 X G ap) (T6 X G am) b7.in bb.in cs.in cu.in ed.in eb ee.in eg.in
 exact lz.1
end Lk30
open PySem PySem.W PyProof.Rows
theorem PySem.W.Fast.tw4008546857030263297:True:=⟨⟩
theorem PySem.W.Fast.tw8611155855280055536:True:=⟨⟩
theorem PySem.W.Fast.tw2731429860326019236:True:=⟨⟩
theorem PySem.W.Fast.tw17357912734011253653:True:=⟨⟩
theorem PySem.W.Fast.tw16155039816237161022:True:=⟨⟩
theorem PySem.W.Fast.tw11004935212819121386:True:=⟨⟩
theorem PySem.W.Fast.tw8850308567771237515:True:=⟨⟩
theorem PySem.W.Fast.tw14548179061056841944:True:=⟨⟩
theorem PySem.W.Fast.tw2486707318901636521:True:=⟨⟩
theorem PySem.W.Fast.tw5916719578957650284:True:=⟨⟩
theorem PySem.W.Fast.tw14585475348714361924:True:=⟨⟩
theorem PySem.W.Fast.tw4382226921313065045:True:=⟨⟩
theorem PySem.W.Fast.tw3902638067964912013:True:=⟨⟩
theorem PySem.W.Fast.tw163383686587715829:True:=⟨⟩
theorem PySem.W.Fast.tw15810338699079213864:True:=⟨⟩
theorem PySem.W.Fast.tw18042143789859214451:True:=⟨⟩
theorem PySem.W.Fast.tw18335306849945281483:True:=⟨⟩
theorem PySem.W.Fast.tw8257912469527053520:True:=⟨⟩
theorem PySem.W.Fast.tw2907469684064785861:True:=⟨⟩
theorem PySem.W.Fast.tw11958228728118323154:True:=⟨⟩
theorem PySem.W.Fast.tw2356037111700196049:True:=⟨⟩
theorem PySem.W.Fast.tw11874291580023367136:True:=⟨⟩
theorem PySem.W.Fast.tw17721260151067130252:True:=⟨⟩
theorem PySem.W.Fast.tw8120925530391643230:True:=⟨⟩
theorem PySem.W.Fast.tw11708884508811797581:True:=⟨⟩
theorem PySem.W.Fast.tw6619801230482355835:True:=⟨⟩
theorem PySem.W.Fast.tw6009521121379916005:True:=⟨⟩
theorem PySem.W.Fast.tw9312606270813403642:True:=⟨⟩
theorem PySem.W.Fast.tw6360707130734787630:True:=⟨⟩
theorem PySem.W.Fast.tw14698085650150188748:True:=⟨⟩
theorem PySem.W.Fast.tw1215303027688793724:True:=⟨⟩
theorem PySem.W.Fast.tw8928492503359924324:True:=⟨⟩
theorem PySem.W.Fast.tw17969098852281430513:True:=⟨⟩
theorem PySem.W.Fast.tw5030168834126896221:True:=⟨⟩
theorem PySem.W.Fast.tw18109405962388125989:True:=⟨⟩
theorem PySem.W.Fast.tw3517103062290104713:True:=⟨⟩
theorem PySem.W.Fast.tw2884258793603193600:True:=⟨⟩
theorem PySem.W.Fast.tw5226897453555148683:True:=⟨⟩
theorem PySem.W.Fast.tw14023630763862047242:True:=⟨⟩
theorem PySem.W.Fast.tw12029560342347505879:True:=⟨⟩
theorem PySem.W.Fast.tw2275843779517704996:True:=⟨⟩
theorem PySem.W.Fast.tw18409703716985107756:True:=⟨⟩
theorem PySem.W.Fast.tw12889043695122686151:True:=⟨⟩
theorem PySem.W.Fast.tw4592659525765596252:True:=⟨⟩
theorem PySem.W.Fast.tw2605095928323021917:True:=⟨⟩
theorem PySem.W.Fast.tw5416175450734936914:True:=⟨⟩
theorem PySem.W.Fast.tw12884043304143155960:True:=⟨⟩
theorem PySem.W.Fast.tw1327973706668884642:True:=⟨⟩
theorem PySem.W.Fast.tw8444653108213963512:True:=⟨⟩
theorem PySem.W.Fast.tw3160910427224912484:True:=⟨⟩
theorem PySem.W.Fast.tw7760048995911736697:True:=⟨⟩
theorem PySem.W.Fast.tw3498916199270645030:True:=⟨⟩
theorem PySem.W.Fast.tw15149152785586880973:True:=⟨⟩
theorem PySem.W.Fast.tw10862861419111969561:True:=⟨⟩
theorem PySem.W.Fast.tw11297879917704668849:True:=⟨⟩
theorem PySem.W.Fast.tw17444433010976572263:True:=⟨⟩
theorem PySem.W.Fast.tw18070179284705191627:True:=⟨⟩
theorem PySem.W.Fast.tw9668744489425284599:True:=⟨⟩
theorem PySem.W.Fast.tw4425375507879857990:True:=⟨⟩
theorem PySem.W.Fast.tw16366493070539265316:True:=⟨⟩
set_option maxRecDepth 100000 in
set_option maxHeartbeats 0 in
theorem PySem.Challenge.cw_modeyard_k30_whole_what_ways_leave_holds : PySem.Challenge.rw_modeyard_k30_whole_what_ways_leave.Holds := by
 w_on;o_law;k_head;(case hw=>w_witness2)
 k_fill
 refine L2.Kk (l:=PySem.Challenge.rw_modeyard_k30_whole_what_ways_leave) (n:=63) (k:=44) (x:="_law_script") (sp:=λK=>M.spM K (Lk30.caK K) 1 Lk30.AL) rfl (by decide) rfl ⟨rfl,by decide,by decide⟩ (by decide +kernel) (λw h Y=>PySem.W.kIn_of Y) ?F ?S
 case F=>
  intro w mg fa h KX G hmg
  refine' Lk30.all_mk KX G hmg rfl ?aC_Yard ?g1_Yard ?g2_Yard ?g3_Yard ?g4_Yard ?mk_Yard ?kC_Yard ?nf_Yard_held_changes ?nf_Yard_held_works ?nf_Yard_held_goods ?a0 ?l0 ?c0 ?k0 ?a1 ?l1 ?c1 ?k1 ?a2 ?l2 ?c2 ?k2 ?a3 ?l3 ?c3 ?k3 ?a4 ?l4 ?c4 ?k4 ?a5 ?l5 ?c5 ?k5 ?a6 ?l6 ?c6 ?k6 ?a7 ?l7 ?c7 ?k7 ?a8 ?l8 ?c8 ?k8 ?a9 ?l9 ?c9 ?k9 ?a10 ?l10 ?c10 ?k10 ?a11 ?l11 ?c11 ?k11 ?a12 ?l12 ?c12 ?k12 ?a13 ?l13 ?c13 ?k13 ?a14 ?l14 ?c14 ?k14 ?a15 ?l15 ?c15 ?k15 ?a16 ?l16 ?c16 ?k16 ?a17 ?l17 ?c17 ?k17 ?a18 ?l18 ?c18 ?k18 ?a19 ?l19 ?c19 ?k19 ?a20 ?q20 ?l20 ?c20 ?k20 ?a21 ?q21 ?l21 ?c21 ?k21 ?a22 ?l22 ?c22 ?k22 ?a23 ?q23 ?l23 ?c23 ?k23 ?a24 ?l24 ?c24 ?k24 ?a25 ?l25 ?c25 ?k25 ?a26 ?l26 ?c26 ?k26 ?a27 ?l27 ?c27 ?k27 ?a28 ?l28 ?c28 ?k28 ?a29 ?l29 ?c29 ?k29 ?a30 ?l30 ?c30 ?k30 ?a31 ?l31 ?c31 ?k31 ?a32 ?l32 ?c32 ?k32 ?a33 ?l33 ?c33 ?k33 ?a34 ?l34 ?c34 ?k34 ?a35 ?l35 ?c35 ?k35 ?a36 ?l36 ?c36 ?k36 ?a37 ?l37 ?c37 ?k37 ?a38 ?l38 ?c38 ?k38 ?a39 ?q39 ?l39 ?c39 ?k39 ?a40 ?q40 ?l40 ?c40 ?k40 ?a41 ?q41 ?l41 ?c41 ?k41 ?a42 ?q42 ?l42 ?c42 ?k42 ?a43 ?q43 ?l43 ?c43 ?k43 ?a44 ?l44 ?c44 ?k44 ?a45 ?l45 ?c45 ?k45 ?a46 ?l46 ?c46 ?k46 ?a47 ?l47 ?c47 ?k47 ?a48 ?l48 ?c48 ?k48 ?a49 ?l49 ?c49 ?k49 ?a50 ?l50 ?c50 ?k50 ?a51 ?l51 ?c51 ?k51 ?a52 ?l52 ?c52 ?k52 ?a53 ?l53 ?c53 ?k53 ?a54 ?l54 ?c54 ?k54 ?z_isinstance ?z_int ?z_bool ?z_abs ?z_list ?z_zip ?z_sum ?z_range ?z_enumerate ?z_len ?z_sorted ?z_all ?z_any ?z_max ?y_MOST_LETTERS ?y_MOST_GOODS ?y_MOST_WORKS
  (case aC_Yard=>k_is)
  (case g1_Yard=>k_is)
  (case g2_Yard=>k_is)
  (case g3_Yard=>k_is)
  (case g4_Yard=>k_is)
  (case mk_Yard=>k_is)
  (case kC_Yard=>k_is)
  (case nf_Yard_held_changes=>k_is)
  (case nf_Yard_held_works=>k_is)
  (case nf_Yard_held_goods=>k_is)
  (case a0=>k_is)
  (case l0=>k_is)
  (case c0=>k_is)
  (case k0=>k_is)
  (case a1=>k_is)
  (case l1=>k_is)
  (case c1=>k_is)
  (case k1=>k_is)
  (case a2=>k_is)
  (case l2=>k_is)
  (case c2=>k_is)
  (case k2=>k_is)
  (case a3=>k_is)
  (case l3=>k_is)
  (case c3=>k_is)
  (case k3=>k_is)
  (case a4=>k_is)
  (case l4=>k_is)
  (case c4=>k_is)
  (case k4=>k_is)
  (case a5=>k_is)
  (case l5=>k_is)
  (case c5=>k_is)
  (case k5=>k_is)
  (case a6=>k_is)
  (case l6=>k_is)
  (case c6=>k_is)
  (case k6=>k_is)
  (case a7=>k_is)
  (case l7=>k_is)
  (case c7=>k_is)
  (case k7=>k_is)
  (case a8=>k_is)
  (case l8=>k_is)
  (case c8=>k_is)
  (case k8=>k_is)
  (case a9=>k_is)
  (case l9=>k_is)
  (case c9=>k_is)
  (case k9=>k_is)
  (case a10=>k_is)
  (case l10=>k_is)
  (case c10=>k_is)
  (case k10=>k_is)
  (case a11=>k_is)
  (case l11=>k_is)
  (case c11=>k_is)
  (case k11=>k_is)
  (case a12=>k_is)
  (case l12=>k_is)
  (case c12=>k_is)
  (case k12=>k_is)
  (case a13=>k_is)
  (case l13=>k_is)
  (case c13=>k_is)
  (case k13=>k_is)
  (case a14=>k_is)
  (case l14=>k_is)
  (case c14=>k_is)
  (case k14=>k_is)
  (case a15=>k_is)
  (case l15=>k_is)
  (case c15=>k_is)
  (case k15=>k_is)
  (case a16=>k_is)
  (case l16=>k_is)
  (case c16=>k_is)
  (case k16=>k_is)
  (case a17=>k_is)
  (case l17=>k_is)
  (case c17=>k_is)
  (case k17=>k_is)
  (case a18=>k_is)
  (case l18=>k_is)
  (case c18=>k_is)
  (case k18=>k_is)
  (case a19=>k_is)
  (case l19=>k_is)
  (case c19=>k_is)
  (case k19=>k_is)
  (case a20=>k_is)
  (case q20=>k_is)
  (case l20=>k_is)
  (case c20=>k_is)
  (case k20=>k_is)
  (case a21=>k_is)
  (case q21=>k_is)
  (case l21=>k_is)
  (case c21=>k_is)
  (case k21=>k_is)
  (case a22=>k_is)
  (case l22=>k_is)
  (case c22=>k_is)
  (case k22=>k_is)
  (case a23=>k_is)
  (case q23=>k_is)
  (case l23=>k_is)
  (case c23=>k_is)
  (case k23=>k_is)
  (case a24=>k_is)
  (case l24=>k_is)
  (case c24=>k_is)
  (case k24=>k_is)
  (case a25=>k_is)
  (case l25=>k_is)
  (case c25=>k_is)
  (case k25=>k_is)
  (case a26=>k_is)
  (case l26=>k_is)
  (case c26=>k_is)
  (case k26=>k_is)
  (case a27=>k_is)
  (case l27=>k_is)
  (case c27=>k_is)
  (case k27=>k_is)
  (case a28=>k_is)
  (case l28=>k_is)
  (case c28=>k_is)
  (case k28=>k_is)
  (case a29=>k_is)
  (case l29=>k_is)
  (case c29=>k_is)
  (case k29=>k_is)
  (case a30=>k_is)
  (case l30=>k_is)
  (case c30=>k_is)
  (case k30=>k_is)
  (case a31=>k_is)
  (case l31=>k_is)
  (case c31=>k_is)
  (case k31=>k_is)
  (case a32=>k_is)
  (case l32=>k_is)
  (case c32=>k_is)
  (case k32=>k_is)
  (case a33=>k_is)
  (case l33=>k_is)
  (case c33=>k_is)
  (case k33=>k_is)
  (case a34=>k_is)
  (case l34=>k_is)
  (case c34=>k_is)
  (case k34=>k_is)
  (case a35=>k_is)
  (case l35=>k_is)
  (case c35=>k_is)
  (case k35=>k_is)
  (case a36=>k_is)
  (case l36=>k_is)
  (case c36=>k_is)
  (case k36=>k_is)
  (case a37=>k_is)
  (case l37=>k_is)
  (case c37=>k_is)
  (case k37=>k_is)
  (case a38=>k_is)
  (case l38=>k_is)
  (case c38=>k_is)
  (case k38=>k_is)
  (case a39=>k_is)
  (case q39=>k_is)
  (case l39=>k_is)
  (case c39=>k_is)
  (case k39=>k_is)
  (case a40=>k_is)
  (case q40=>k_is)
  (case l40=>k_is)
  (case c40=>k_is)
  (case k40=>k_is)
  (case a41=>k_is)
  (case q41=>k_is)
  (case l41=>k_is)
  (case c41=>k_is)
  (case k41=>k_is)
  (case a42=>k_is)
  (case q42=>k_is)
  (case l42=>k_is)
  (case c42=>k_is)
  (case k42=>k_is)
  (case a43=>k_is)
  (case q43=>k_is)
  (case l43=>k_is)
  (case c43=>k_is)
  (case k43=>k_is)
  (case a44=>k_is)
  (case l44=>k_is)
  (case c44=>k_is)
  (case k44=>k_is)
  (case a45=>k_is)
  (case l45=>k_is)
  (case c45=>k_is)
  (case k45=>k_is)
  (case a46=>k_is)
  (case l46=>k_is)
  (case c46=>k_is)
  (case k46=>k_is)
  (case a47=>k_is)
  (case l47=>k_is)
  (case c47=>k_is)
  (case k47=>k_is)
  (case a48=>k_is)
  (case l48=>k_is)
  (case c48=>k_is)
  (case k48=>k_is)
  (case a49=>k_is)
  (case l49=>k_is)
  (case c49=>k_is)
  (case k49=>k_is)
  (case a50=>k_is)
  (case l50=>k_is)
  (case c50=>k_is)
  (case k50=>k_is)
  (case a51=>k_is)
  (case l51=>k_is)
  (case c51=>k_is)
  (case k51=>k_is)
  (case a52=>k_is)
  (case l52=>k_is)
  (case c52=>k_is)
  (case k52=>k_is)
  (case a53=>k_is)
  (case l53=>k_is)
  (case c53=>k_is)
  (case k53=>k_is)
  (case a54=>k_is)
  (case l54=>k_is)
  (case c54=>k_is)
  (case k54=>k_is)
  (case z_isinstance=>k_is)
  (case z_int=>k_is)
  (case z_bool=>k_is)
  (case z_abs=>k_is)
  (case z_list=>k_is)
  (case z_zip=>k_is)
  (case z_sum=>k_is)
  (case z_range=>k_is)
  (case z_enumerate=>k_is)
  (case z_len=>k_is)
  (case z_sorted=>k_is)
  (case z_all=>k_is)
  (case z_any=>k_is)
  (case z_max=>k_is)
  (case y_MOST_LETTERS=>k_is)
  (case y_MOST_GOODS=>k_is)
  (case y_MOST_WORKS=>k_is)
 case S=>exact λK H a ns hl _ hS=>M.Nv hS (Lk30.Il ns hl)