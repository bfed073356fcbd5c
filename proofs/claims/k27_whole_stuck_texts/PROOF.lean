import PyProof.Rows.All
import Wide.All
import OpenK.AllK
import Wide.FinOn
import Lean
import PyProof.EqAt
import PyProof.EqKinds
import PyProof.TupleCall
import PyProof.SetRoads
import PyProof.Rows.SetObj
import PyProof.NsDelKeeps
import PyProof.RulesAs
import PyProof.SumAny
import PyProof.WalksMore
import PyProof.WalkInts
import PyProof.EnumMake
import KE.KMinKey
import PyProof.Rows.Range3
import PyProof.Rows.SortStr
import PyProof.StrLawsIn
import KE.KIntText
import PyProof.ListRange
import KE.KLam
import PyProof.CollectWalk
import PyProof.DictItems
import PyProof.Rows.TupDisplay
import KE.KDictSum
import PyProof.Rows.SetFrom
import PyProof.DictCompW
import PyProof.ListStr
import PyProof.ZipIter
import PyProof.DelItemList
import OpenK.ZGo
import PySem.Challenge.RW_quadwords_k27_whole_stuck_texts
set_option genSizeOf false
set_option compiler.extract_closed false
set_option maxRecDepth 100000
set_option maxHeartbeats 4000000
abbrev A2:=List (List Nat)
abbrev A3:=PySem.Value->PySem.Shared->Prop
abbrev A5:=List (PySem.Addr×PySem.Obj)
abbrev A7:=List Nat
abbrev A8:=List PySem.Value
abbrev B2:=List PySem.Addr
abbrev B3:=List Int
abbrev AS:=@Nat.le_refl
abbrev AU:=@List.length_map
abbrev AV:=@List.length_append
abbrev AW:=@List.mem_map
abbrev AX:=@List.getElem?_eq_getElem
abbrev AY:=@List.mem_singleton
abbrev AZ:=@List.mem_cons_self
abbrev Ba:=@List.mem_append
abbrev Bb:=@List.mem_cons
abbrev Bc:=@List.mem_append_right
abbrev Be:=@List.getElem?_eq_some_iff
abbrev Bf:=@Nat.ne_of_lt
abbrev Bg:=@List.mem_cons_of_mem
abbrev Bh:=@Nat.le_trans
abbrev Bi:=@List.map_append
abbrev Bj:=@Nat.zero_le
abbrev Bk:=@Array.length_toList
abbrev Bl:=@List.length_cons
abbrev Bm:=@List.map_cons
abbrev Bn:=@Array.getElem?_toList
abbrev Bo:=@List.getElem?_map
abbrev Bp:=@List.mem_of_getElem?
abbrev Bq:=@Nat.lt_of_lt_of_le
abbrev Br:=@List.size_toArray
abbrev Bs:=@List.length_take
abbrev Bt:=@List.mem_range
abbrev Bu:=@List.mem_append_left
abbrev Bv:=@List.getD_eq_getElem?_getD
abbrev Bw:=@List.take_add_one
abbrev Bx:=@List.map_map
abbrev By:=@List.length_drop
abbrev Bz:=@List.append_assoc
abbrev BA:=@Bool.false_ne_true
abbrev BB:=@List.take_of_length_le
abbrev BC:=@List.mem_flatMap
abbrev BD:=@Array.getElem?_eq_getElem
abbrev BE:=@List.not_mem_nil
abbrev BF:=@List.sum_cons
abbrev BG:=@List.getElem_mem
abbrev BH:=@Nat.pow_succ
abbrev BI:=@Nat.lt_irrefl
abbrev BJ:=@List.append_nil
abbrev BK:=@Int.toNat_natCast
abbrev BL:=@Nat.mul_comm
abbrev BM:=@List.length_eq_zero_iff
abbrev BN:=@List.nodup_cons
abbrev BO:=@List.pairwise_append
abbrev BP:=@Nat.mul_assoc
abbrev BQ:=@Bool.and_eq_true
abbrev BR:=@Nat.add_zero
abbrev BS:=@Nat.le_of_lt
abbrev BU:=@Nat.succ_le_succ
abbrev BV:=@Bool.false_eq_true
abbrev BW:=@List.take_length
abbrev BX:=@List.length_range
abbrev BY:=@List.flatMap_cons
abbrev BZ:=@Array.toList_append
abbrev Ca:=@List.take_append_drop
abbrev Cb:=@Nat.add_mul
abbrev Cc:=@List.map_congr_left
abbrev Cd:=@Nat.succ_mul
abbrev Ce:=@List.drop_left
abbrev Cf:=@Nat.lt_of_le_of_lt
abbrev Cg:=@List.find?_cons
abbrev Ci:=@List.getElem?_drop
abbrev Cj:=@List.map_nil
abbrev Ck:=@Nat.le_succ
abbrev Cm:=@Nat.lt_succ_self
abbrev Cn:=@List.length_nil
abbrev Co:=@Option.map_eq_some_iff
abbrev Cp:=@List.all_eq_true
abbrev Cq:=@List.mem_of_mem_take
abbrev Cr:=@List.mem_of_mem_drop
abbrev Cs:=@Nat.min_eq_left
abbrev Ct:=@Int.zero_add
abbrev Cu:=@List.getElem?_take_of_lt
abbrev Cv:=@List.mem_iff_getElem
abbrev Cy:=@List.sum_append
abbrev Cz:=@List.getElem?_eq_none
abbrev CA:=@Nat.mul_le_mul_right
abbrev CB:=@Nat.mul_add
abbrev CC:=@Nat.pow_add
abbrev CD:=@Bool.eq_iff_iff
abbrev CF:=@List.getElem?_append_right
abbrev CG:=@List.getElem?_append_left
abbrev CH:=@Nat.lt_succ_of_lt
abbrev CI:=@List.filter_cons
abbrev CJ:=@List.drop_zero
abbrev CK:=@List.length_pos_iff
abbrev CL:=@List.drop_eq_getElem_cons
abbrev CM:=@List.drop_of_length_le
abbrev CN:=@List.pairwise_iff_getElem
abbrev CO:=@List.nodup_append
abbrev CP:=@List.mem_filter
abbrev CQ:=@List.lookup_cons
abbrev CT:=@List.range_succ
abbrev CU:=@List.pairwise_map
abbrev CV:=@Int.emod_nonneg
abbrev CW:=@Int.emod_lt_of_pos
abbrev CY:=@List.any_cons
abbrev CZ:=@Array.toList_push
abbrev Dc:=@List.getElem?_toArray
abbrev Dd:=@Nat.zero_add
abbrev De:=@List.reverse_append
abbrev Df:=@List.cons_lt_cons_iff
abbrev Dg:=@Nat.not_lt_zero
abbrev Dh:=@Option.isSome_iff_exists
abbrev Di:=@List.nodup_nil
abbrev Dj:=@List.foldl_cons
abbrev Dk:=@Int.le_refl
abbrev Dl:=@Array.getElem?_eq_none
abbrev Dm:=@List.ext_getElem?
abbrev Do:=@Nat.add_assoc
abbrev Dp:=@Bool.not_true
abbrev Dq:=@List.take_zero
abbrev Dt:=@Nat.sub_zero
abbrev Du:=@Array.perm_iff_toList_perm
abbrev Dv:=@Nat.pow_pos
abbrev Dw:=@List.sum_nil
abbrev Dx:=@List.any_eq_true
abbrev Dy:=@List.filterMap_cons
abbrev Dz:=@List.getElem?_set_self
abbrev DA:=@List.getElem?_set_ne
abbrev DC:=@Nat.ne_of_gt
abbrev DE:=@List.length_replicate
abbrev DG:=@List.perm_append_comm
abbrev DH:=@Nat.lt_trans
abbrev DI:=@List.pairwise_cons
abbrev DJ:=@Nat.le_of_eq
abbrev DM:=@Bool.eq_false_iff
abbrev DN:=@List.take_take
abbrev DO:=@List.not_lt
abbrev DP:=@List.map_id
abbrev DQ:=@Nat.mul_le_mul_left
abbrev DR:=@Nat.one_mul
abbrev DS:=@Nat.pow_le_pow_right
abbrev DT:=@Nat.le_add_right
abbrev DV:=@List.isEmpty_iff
abbrev DW:=@List.map_inj_right
abbrev DX:=@List.mem_filterMap
abbrev DY:=@Nat.le_of_not_lt
abbrev DZ:=@Option.isSome_map
abbrev Ea:=@Nat.min_le_left
abbrev Eb:=@Nat.zero_lt_succ
abbrev Ed:=@List.le_antisymm
abbrev Ee:=@Array.toList_extract
abbrev Ef:=@Nat.sub_self
abbrev Eg:=@Nat.mul_one
abbrev Eh:=@Nat.pow_mul
abbrev Ei:=@List.append_eq_nil_iff
abbrev Ej:=@List.flatMap_nil
abbrev Ek:=@List.take_left
abbrev El:=@List.reverse_cons
abbrev Em:=@List.getElem?_of_mem
abbrev En:=@Nat.mul_le_mul
abbrev Eo:=@Nat.min_eq_right
abbrev Ep:=@List.ne_nil_of_length_pos
abbrev Er:=@List.any_eq_false
abbrev Es:=@List.of_mem_zip
abbrev Et:=@List.getElem?_replicate
abbrev Eu:=@List.length_set
abbrev Ew:=@List.length_dropLast
abbrev Ex:=@List.forIn_cons
abbrev Ey:=@Nat.le_succ_of_le
abbrev Ez:=@List.length_filter_le
abbrev EA:=@List.flatten_cons
abbrev EB:=@List.length_reverse
abbrev EC:=@List.pairwise_singleton
abbrev ED:=@Array.toArray_toList
abbrev EE:=@Array.forIn_toList
abbrev EF:=@List.zip_cons_cons
abbrev EG:=@List.drop_drop
abbrev EH:=@Array.toList_reverse
abbrev EI:=@List.reverse_reverse
abbrev EJ:=@List.nil_append
abbrev EK:=@List.lt_irrefl
abbrev EL:=@Array.getElem?_eq_some_iff
abbrev EM:=@List.nodup_range
abbrev EN:=@List.mem_flatten
abbrev EO:=@Nat.le_of_mul_le_mul_right
abbrev ER:=@List.flatMap_append
abbrev ES:=@Nat.add_le_add
abbrev ET:=@List.exists_cons_of_ne_nil
abbrev EU:=@Nat.add_sub_cancel
abbrev EV:=@List.count_cons
abbrev EW:=@Int.natCast_nonneg
abbrev EY:=@Int.fdiv_eq_ediv_of_nonneg
abbrev EZ:=@Option.isNone_iff_eq_none
abbrev Fb:=@List.eraseIdxIfInBounds_toArray
abbrev Fc:=@List.length_eraseIdx_of_lt
abbrev Fe:=@List.eq_nil_iff_forall_not_mem
abbrev Ff:=@List.perm_ext_iff_of_nodup
abbrev Fg:=@List.eraseIdx_eq_take_drop_succ
abbrev Fh:=@PySem.wpAny_bind
abbrev Fi:=@PySem.wpAny_pure
abbrev Fj:=@PyProof.Rows.wpS_bind
abbrev Fk:=@PyProof.Rows.wpS_pure
abbrev Fm:=@if_neg
abbrev Fn:=@if_pos
abbrev Fo:=@decide_eq_true
abbrev Fp:=@decide_eq_false
abbrev Fq:=@PySem.wpAny_mono
abbrev Ft:=@PySem.wpAny_holding
abbrev Fu:=@of_decide_eq_true
abbrev Fv:=@PySem.Heap.lt_size
abbrev Fx:=@Option.some.inj
abbrev Fy:=@PySem.F.plainAttrs_list
abbrev Fz:=@PySem.F.plainAttrs_str
abbrev FB:=@PySem.F.type_list_append
abbrev FC:=@PySem.F.slot_list_append
abbrev FD:=@PyProof.Rows.KeyOrd.kle_refl
abbrev FE:=@PyProof.Rows.KeyOrd.kle_of_klt
abbrev FF:=@PySem.W.mg_of
abbrev FG:=@PySem.W.mg_none_of
abbrev FH:=@PySem.wpAny_setState_of
abbrev FI:=@Ne.symm
abbrev FJ:=@PySem.Heap.get?_push_of_some
abbrev FK:=@PySem.Heap.get?_push_size
abbrev FL:=@Bool.eq_iff_iff
abbrev FM:=@Nat.succ_le_succ
abbrev FN:=@Int.natCast_nonneg
abbrev FO:=@PySem.wpAny_attempt
abbrev FP:=@PySem.wpAny_call_entry
abbrev FQ:=@PySem.Heap.size_push
abbrev FR:=@PyProof.Rows.wpS_lift
abbrev FS:=@PySem.wpAny_rule
abbrev FT:=@beq_iff_eq
local macro_rules | `(tactic| walk_at "i") => `(tactic| first | exact .inl rfl | exact .inr rfl | assumption)
local macro_rules | `(tactic| walk_at "o") => `(tactic| first | assumption | exact Bh (by assumption) (by decide) | lia)
set_option Elab.async false
set_option maxHeartbeats 0
set_option linter.all false
set_option hygiene false in
local macro_rules|`((wq X))=>`(wpAny (model X.prog X.w) X.A)
local macro_rules|`(($f:ident $x*))=>do
 let n:=f.getId
 let some (g,t):=(([(`FU,"_____xxx"),(`Gb,"_q"),(`Gj,"_q"),(`aA,"__x____nROxrw"),(`aB,"________xxx"),(`aD,"_____xxr"),(`aI,"___xx"),(`aJ,"____x"),(`aL,"______xRxxx"),(`aN,"_____x"),(`aO,"______Rxxr"),(`aQ,"_________xRxxxddrr"),(`aR,"____x"),(`aU,"____q"),(`aW,"_______xxxF"),(`aX,"__________xxxx"),(`aY,"______________cxxfffy"),(`ag,"_____xx"),(`ah,"____q"),(`ai,"___x"),(`ao,"__x_nROw"),(`ay,"________xxxx"),(`bG,"________vcxxxy"),(`bS,"____x"),(`bT,"____xr"),(`ba,"_________xRxxxddrr"),(`bj,"____x"),(`bu,"___x"),(`bw,"_____________xxdhRxdrr"),(`bx,"________xxx"),(`cG,"_______xx"),(`cI,"____q"),(`cK,"____________xxdhRxxd"),(`cR,"______vxx"),(`cV,"_________xxx"),(`cx,"___xy"),(`dA,"_________xxxxR"),(`dE,"________xxxx"),(`dI,"_____xxx"),(`dM,"______cxrr"),(`dY,"______________x___cxxfffnRORyw"),(`eM,"___q"),(`eR,"______xxrrr"),(`eS,"____x"),(`eT,"____x"),(`eX,"___x"),(`fR,"__x__RxxRdd"),(`fo,"________xxx"),(`gn,"_____xxRxxr"),(`hV,"______xxxF"),(`iM,"_______xx"),(`iN,"____x"),(`iQ,"_______xx"),(`iy,"__x__Rxxd"),(`jd,"____________xxxxxxrrrrr"),(`kD,"_______xxxrrr"),(`kG,"____________KRxxxxxxrrrrr"),(`kj,"______xxF"),(`ko,"______xx"),(`lg,"___xG"),(`mj,"____________________cxxffffffxy"),(`nH,"________Rxxr"),(`nO,"___________xxxxxxxRRRxRRRxcxfRxxxrrrr"),(`oD,"______________cxxfffy"),(`oF,"__xx___________cnRRdRRxRr"),(`oY,"________xxrr"),(`pY,"_____xRRxd"),(`qA,"______xx"),(`qX,"____________________x___cxxffffffnRORxyw"),(`qi,"_______xxxy"),(`rV,"_________xxRRxxxxR"),(`wc,"_________xxxxxrr")]:List (Lean.Name×String)).map λa=>(a.1,a))++[(`a6,`ao,"__x_nRow"),(`ad,`aA,"__x____nRoxrw"),(`am,`ao,"__x_xROI")]|>.lookup n|Lean.Macro.throwUnsupported
 let mut i:=0
 let mut r:Array (Lean.TSyntax `term):=#[]
 for c in t.toList do
  if c=='q' then i:=i+1
  else if c=='x'||c=='f' then
   let some y:=x[i]?|Lean.Macro.throwUnsupported
   r:=r.push (<-if c=='x' then pure y else `(λ_ _ _ _=>$y))
   i:=i+1
  else r:=r.push (<-match c with|'G'=>`(λ_=>rfl)|'r'=>`(by rfl)|'w'=>`(by walk_at "i")|'R'=>`(rfl)|'O'=>`(Or.inl rfl)|'d'=>`(by decide)|'F'=>`(λ_ _=>rfl)|'I'=>`(.inr rfl)|'o'=>`(Or.inr rfl)|'y'=>`(by intro _;rfl)|'v'=>pure (Lean.mkIdent `PassesOwn.never)|'n'=>pure (Lean.mkIdent `nd)|'c'=>pure (Lean.mkIdent `hc)|'h'=>pure (Lean.mkIdent `hr)|'K'=>pure (Lean.mkIdent `K)|_=>`(_))
 if i !=x.size then Lean.Macro.throwUnsupported
 `(@$(if g==n then f else Lean.mkIdent g) $r*)
namespace L2
open PySem PySem.Spec PyProof.Rows
abbrev Key:=Sum Int Str
def IK:Key->Value->Bool
 |.inl k,v=>Value.isInt k v
 |.inr x,v=>Value.isStrOf x v
def WJ (w:World):Key->Int
 |.inl k=>hashInt k
 |.inr x=>hashStr w x
theorem Gd:∀{k:Key}{v:Value},IK k v=true->(∃i t,k=Sum.inl i/\v=Value.int i t)\/(∃x t,k=Sum.inr x/\v=Value.str x t)
 |.inl i,v,h=>by
  obtain⟨t,e⟩:=Value.isInt_shape (k:=i) (v:=v) h;exact .inl ⟨i,t,rfl,e⟩
 |.inr x,v,h=>by
  obtain⟨t,e⟩:=Value.isStrOf_shape (x:=x) (v:=v) h;exact .inr ⟨x,t,rfl,e⟩
theorem oB(i:Int)(t:Tok):IK (.inl i) (.int i t)=true:=by simp[IK,Value.isInt]
theorem qr(x:Str)(t:Tok):IK (.inr x) (.str x t)=true:=by simp[IK,Value.isStrOf]
theorem xi(a b:Int):decide ((Sum.inl a:Key)=Sum.inl b)=(a==b):=by
 by_cases e:a=b
 ·subst e;simp
 ·have h:¬(Sum.inl a:Key)=Sum.inl b:=λq=>e (Sum.inl.inj q);rw[Fp h];exact(beq_eq_false_iff_ne.mpr e).symm
theorem wd(a b:Str):decide ((Sum.inr a:Key)=Sum.inr b)=decide (a=b):=by
 by_cases e:a=b
 ·subst e;simp
 ·have h:¬(Sum.inr a:Key)=Sum.inr b:=λq=>e (Sum.inr.inj q);rw[Fp h,Fp e]
theorem xo(a:Int)(b:Str):decide ((Sum.inl a:Key)=Sum.inr b)=false:=Fp (λq=>nomatch q)
theorem wZ(a:Str)(b:Int):decide ((Sum.inr a:Key)=Sum.inl b)=false:=Fp (λq=>nomatch q)
def aK (prog:Program)(w:World):PySem.KeyKind prog w Key where
 is:=IK
 hash:=WJ w
 inj:=λv a b ha hb=>by
  rcases Gd ha with ⟨i,t,rfl,rfl⟩|⟨x,t,rfl,rfl⟩
  ·rcases Gd hb with ⟨j,u,rfl,e⟩|⟨y,u,rfl,e⟩
   ·injection e with e1 _;rw[e1]
   ·exact nomatch e
  ·rcases Gd hb with ⟨j,u,rfl,e⟩|⟨y,u,rfl,e⟩
   ·exact nomatch e
   ·injection e with e1 _;rw[e1]
 byValue:=λk v h=>by
  rcases Gd h with ⟨i,t,rfl,rfl⟩|⟨x,t,rfl,rfl⟩<;>rfl
 pyHash:=λhv h=>by
  rcases Gd hv with ⟨i,t,rfl,rfl⟩|⟨x,t,rfl,rfl⟩
  ·exact wpAny_pyHash_int h
  ·exact wpAny_pyHash_str h
 eqBool:=λhu hv h=>by
  rcases Gd hu with ⟨i,t,rfl,rfl⟩|⟨x,t,rfl,rfl⟩
  ·rcases Gd hv with ⟨j,u,rfl,rfl⟩|⟨y,u,rfl,rfl⟩
   ·rw[xi] at h;exact wpAny_eqBool_int h
   ·rw[xo] at h;exact SeqAt.EqAt.int_str i t y u _ _ _ _ h
  ·rcases Gd hv with ⟨j,u,rfl,rfl⟩|⟨y,u,rfl,rfl⟩
   ·rw[wZ] at h;exact SeqAt.EqAt.str_int x t j u _ _ _ _ h
   ·rw[wd] at h;exact wpAny_eqBool_str h
 «strs»:=λk x t v h=>by
  rcases Gd h with ⟨i,u,rfl,e⟩|⟨y,u,rfl,e⟩
  ·exact nomatch e
  ·injection e with e1 _;subst e1;cases v<;>rfl
theorem jY(prog:Program)(w:World)(i:Int)(t:Tok):(aK prog w).is (.inl i) (.int i t)=true:=oB i t
theorem ki(prog:Program)(w:World)(x:Str)(t:Tok):(aK prog w).is (.inr x) (.str x t)=true:=qr x t
inductive V where
 |f6|bl (b:Bool)|int(i:Int)|str(x:Str)|L3(b:Array UInt8)|Q3(b:UInt64)|ref(a:Addr)|ty(n:String)
 deriving DecidableEq
abbrev _root_.A9:=List V
abbrev _root_.A6:=List (Key×V)
def RelV:V->Value->Prop
 |.f6,u=>u=Value.none
 |.bl b,u=>u=Value.bool b
 |.int i,u=>∃t,u=Value.int i t
 |.str x,u=>∃t,u=Value.str x t
 |.L3 b,u=>∃t,u=Value.bytes b t
 |.Q3 b,u=>∃t,u=Value.float b t
 |.ref a,u=>u=Value.ref a
 |.ty n,u=>u=Value.type n
abbrev Vals:A9->A8->Prop:=Paired RelV
theorem Vals.length{xs:A9}{us:A8}(r:Vals xs us):xs.length=us.length:=Paired.length r
theorem Vals.get:∀{xs:A9}{us:A8}{i:Nat}{x:V},Vals xs us->xs[i]?=some x->∃u,us[i]?=some u/\RelV x u
 |_,_,_,_,.nil,e=>by simp at e
 |_,_,0,_,.cons r _,e=>by simp at e;subst e;exact⟨_,rfl,r⟩
 |_,_,i+1,x,.cons _ t,e=>by
  obtain⟨u,h1,h2⟩:=Vals.get (i:=i) (x:=x) t (by simpa using e);exact⟨u,by simpa using h1,h2⟩
theorem Vals.set{x:V}{u:Value}(r:RelV x u):∀{xs:A9}{us:A8}(i:Nat),Vals xs us->Vals (xs.set i x) (us.set i u)
 |_,_,_,.nil=>.nil
 |_,_,0,.cons _ t=>.cons r t
 |_,_,i+1,.cons q t=>.cons q (Vals.set r i t)
theorem Vals.append:∀{xs ys:A9}{us ws:A8},Vals xs us->Vals ys ws->Vals (xs++ys) (us++ws)
 |_,_,_,_,.nil,s=>s
 |_,_,_,_,.cons r t,s=>.cons r (Vals.append t s)
theorem Vals.take:∀{xs:A9}{us:A8}(n:Nat),Vals xs us->Vals (xs.take n) (us.take n)
 |_,_,0,_=>.nil
 |_,_,_+1,.nil=>.nil
 |_,_,n+1,.cons r t=>.cons r (Vals.take n t)
theorem Vals.drop:∀{xs:A9}{us:A8}(n:Nat),Vals xs us->Vals (xs.drop n) (us.drop n)
 |_,_,0,r=>r
 |_,_,_+1,.nil=>.nil
 |_,_,n+1,.cons _ t=>Vals.drop n t
def IG:Option V->Option Value->Prop
 |some v,some u=>RelV v u
 |none,none=>True
 |_,_=>False
def KV {κ:Type}:List (κ×V)->List (κ×Value)->Prop:=Paired λ(p:κ×V) (q:κ×Value)=>p.1=q.1/\RelV p.2 q.2
def kV:Key->V
 |.inl i=>.int i
 |.inr x=>.str x
inductive HO where
 |lst (xs:A9)
 |tup (xs:A9)
 |dK (kvs:A6)|dT(kvs:List (List Key×V))
 |set (S:Int->Bool)(n:Nat)
 |ins (C dx:Addr)(fs:List (Str×V))
 |own (x:Addr)
 |xd (fs:List (Str×V))
 |met (f x:Addr)
 |Vf (lo hi:Int)
 |j5 (o:Obj)(u:HO)
 |B8 (ps:Array Value)
 |ext (φ:Heap->Prop)
abbrev Hp:=Addr->Option HO
def upd (H:Hp)(a:Addr)(o:HO):Hp:=λb=>if b=a then some o else H b
theorem ae{H:Hp}{a:Addr}{o:HO}:upd H a o a=some o:=by unfold upd;rw[Fn rfl]
theorem aj{H:Hp}{a b:Addr}{o:HO}(h:b≠a):upd H a o b=H b:=by unfold upd;rw[Fm h]
theorem jz{H:Hp}{a:Addr}{o u:HO}:upd (upd H a o) a u=upd H a u:=by
 funext b;unfold upd;split<;>rfl
theorem bB{H:Hp}{a b:Addr}{o u:HO}(h:H a=some o)(h':H b=some u)(d:o≠u):a≠b:=by
 intro e;subst e;rw[h] at h';exact d (Fx h')
theorem aC{H:Hp}{a b:Addr}{o:HO}(h:H a=some o)(h':H b=none):a≠b:=by
 intro e;subst e;rw[h] at h';cases h'
section
variable (P:Program)(w:World)
def Gg(H:Hp)(h:Heap)(a:Addr):HO->Prop
 |.lst xs=>xs.length<=sizeLine/\∃(a7:A8)(n:Nat),Vals xs a7/\h.get? a=some {cls:=.type "list",data:=.seq a7.toArray n}
 |.tup xs=>xs.length<=sizeLine/\∃a7:A8,Vals xs a7/\IsTup h a a7.toArray
 |.dK kvs=>kvs.length<=sizeLine/\(a==sysModules)=false/\∃vs,KV kvs vs/\h.DictOf (aK P w) a vs
 |.dT kvs=>kvs.length<=sizeLine/\(a==sysModules)=false/\∃xs:List (List Key×Addr×Value),
   Paired (λ(p:List Key×V) (q:List Key×Addr×Value)=>p.1=q.1/\H q.2.1=some (.tup (p.1.map kV))/\RelV p.2 q.2.2) kvs xs /\
   ∃o es ep,h.get? a=some o/\o.ExactDict/\o.data=.dict es ep/\es.toList=xs.map (entryOfKey (tupleKind (aK P w)))/\(xs.map (·.1)).Nodup
 |.set S n=>h.SetOf (intKind P w) a S n
 |.ins C dx fs=>H dx=some (.own a)/\fs.length<=1000/\dx≠a/\h.get? a=some (W.instObj C dx) /\
   ∃mA,h.Ns1 dx mA/\(∀f,IG (fs.lookup f) (mA f))/\PySem.Within mA (fs.map (·.1))
 |.own _=>∃o,h.get? a=some o
 |.xd fs=>∃mA,h.Ns1 a mA/\∀f,IG (fs.lookup f) (mA f)
 |.Vf lo hi=>∃t u v,h.get? a=some {cls:=.type "range",data:=.fields #[.int lo t,.int hi u,.int 1 v]}
 |.j5 o u=>h.get? a=some o/\Gg H h a u
 |.B8 ps=>h.get? a=some {cls:=.none,data:=.fields ps}
 |.met f x=>h.get? a=some (W.methodObj (.ref f) (.ref x))
 |.ext φ=>φ h/\(∃o,h.get? a=some o)/\∀h1 h2:Heap,φ h1->(∀o,h1.get? a=some o->h2.get? a=some o)->φ h2
def m6 (H:Hp)(h:Heap):Prop:=∀a o,H a=some o->Gg P w H h a o
end
section
variable {P:Program}{w:World}{H H':Hp}{h h':Heap}{a:Addr}{o:HO}
theorem Gg.lt(x:Gg P w H h a o):a<h.objs.size:=by
 cases o with
 |lst xs=>obtain⟨_,_,_,_,e⟩:=x;exact Fv e
 |tup xs=>obtain⟨_,_,_,p⟩:=x;exact p.lt
 |dK kvs=>obtain⟨_,_,_,_,o,_,_,e,_⟩:=x;exact Fv e
 |dT kvs=>obtain⟨_,_,_,_,o,_,_,e,_⟩:=x;exact Fv e
 |set S n=>obtain⟨o,_,_,_,e,_⟩:=x;exact Fv e
 |ins C dx fs=>obtain⟨_,_,_,e,_⟩:=x;exact Fv e
 |own y=>obtain⟨_,e⟩:=x;exact Fv e
 |xd fs=>obtain⟨_,⟨_,_,_,e,_⟩,_⟩:=x;exact Fv e
 |Vf lo hi=>obtain⟨_,_,_,e⟩:=x;exact Fv e
 |j5 ob u=>obtain⟨e,_⟩:=x;exact Fv e
 |B8 ps=>exact Fv (show h.get? a=some _ from x)
 |met f y=>exact Fv (show h.get? a=some _ from x)
 |ext φ=>obtain⟨_,⟨_,e⟩,_⟩:=x;exact Fv e
theorem Paired.Hw{α β:Type}{F G:α->β->Prop}:∀{l₁:List α}{l₂:List β},Paired F l₁ l₂->(∀a b,F a b->G a b)->Paired G l₁ l₂
 |_,_,.nil,_=>.nil
 |_,_,.cons r t,f=>.cons (f _ _ r) (Paired.Hw t f)
theorem Gg.JG(x:Gg P w H h a o)(k:∀b u,(b=a\/H b=some (.own a))->h.get? b=some u->h'.get? b=some u)
  (ho:∀b,H b=some (.own a)->H' b=some (.own a))(ht:∀b xs,H b=some (.tup xs)->H' b=some (.tup xs)):Gg P w H' h' a o:=by
 induction o with
 |lst xs=>obtain⟨z,a7,n,r,e⟩:=x;exact⟨z,a7,n,r,k _ _ (.inl rfl) e⟩
 |tup xs=>obtain⟨z,a7,r,ob,e,c⟩:=x;exact⟨z,a7,r,ob,k _ _ (.inl rfl) e,c⟩
 |dK kvs=>obtain⟨z,y,vs,r,ob,es,ep,e,c⟩:=x;exact⟨z,y,vs,r,ob,es,ep,k _ _ (.inl rfl) e,c⟩
 |dT kvs=>
  obtain⟨z,y,xs,r,ob,es,ep,e,c⟩:=x;exact⟨z,y,xs,Paired.Hw r λp q z=>⟨z.1,ht _ _ z.2.1,z.2.2⟩,ob,es,ep,k _ _ (.inl rfl) e,c⟩
 |set S n=>obtain⟨ob,es,ep,t,e,c⟩:=x;exact⟨ob,es,ep,t,k _ _ (.inl rfl) e,c⟩
 |ins C dx fs=>
  obtain⟨d,z,ne,e,mA,⟨od,es,ep,e2,c⟩,r⟩:=x;exact⟨ho _ d,z,ne,k _ _ (.inl rfl) e,mA,⟨od,es,ep,k _ _ (.inr d) e2,c⟩,r⟩
 |own y=>obtain⟨ob,e⟩:=x;exact⟨ob,k _ _ (.inl rfl) e⟩
 |xd fs=>obtain⟨mA,⟨od,es,ep,e,c⟩,r⟩:=x;exact⟨mA,⟨od,es,ep,k _ _ (.inl rfl) e,c⟩,r⟩
 |Vf lo hi=>obtain⟨t,u,v,e⟩:=x;exact⟨t,u,v,k _ _ (.inl rfl) e⟩
 |j5 ob u ih=>obtain⟨e,q⟩:=x;exact⟨k _ _ (.inl rfl) e,ih q⟩
 |B8 ps=>
  have e:h.get? a=some {cls:=.none,data:=.fields ps}:=x;show h'.get? a=some {cls:=.none,data:=.fields ps};exact k a _ (.inl rfl) e
 |met f y=>
  have e:h.get? a=some (W.methodObj (.ref f) (.ref y)):=x;show h'.get? a=some (W.methodObj (.ref f) (.ref y));exact k a _ (.inl rfl) e
 |ext φ=>obtain⟨p,⟨o,e⟩,st⟩:=x;exact⟨st _ _ p λo q=>k _ _ (.inl rfl) q,⟨o,k _ _ (.inl rfl) e⟩,st⟩
theorem m6.lt(x:m6 P w H h)(e:H a=some o):a<h.objs.size:=(x a o e).lt
theorem m6.fresh(x:m6 P w H h)(e:h.objs.size<=a):H a=none:=by
 cases q:H a with
 |none=>rfl
 |some u=>exact absurd (Bq (x.lt q) e) (BI _)
theorem m6.kept(x:m6 P w H h)(k:∀b u,h.get? b=some u->h'.get? b=some u):m6 P w H h':=λa o e=>
 (x a o e).JG (λb u _ q=>k b u q) (λ_ q=>q) λ_ _ q=>q
theorem m6.laid(x:m6 P w H h)(k:∀b u,h.get? b=some u->h'.get? b=some u)(hp:h.objs.size<=a)(new:Gg P w (upd H a o) h' a o):m6 P w (upd H a o) h':=λb u e=>by
 have hn:=x.fresh hp;by_cases hb:b=a
 ·subst hb;rw[ae] at e;cases e;exact new
 ·rw[aj hb] at e;exact(x b u e).JG (λc v _ q=>k c v q) (λc q=>by rw[aj (aC q hn)];exact q) λc xs q=>by rw[aj (aC q hn)];exact q
end
def Rd (H:Hp)(a:Addr)(u:HO):Prop:=H a=some u\/∃o,H a=some (.j5 o u)
theorem Rd.ok{P:Program}{w:World}{H:Hp}{h:Heap}{a:Addr}{u:HO}(r:Rd H a u)(x:m6 P w H h):Gg P w H h a u:=by
 rcases r with r|⟨o,r⟩
 ·exact x a u r
 ·obtain⟨_,q⟩:=x a _ r;exact q
def TY:Option HO->Prop
 |some (.lst _)=>True
 |some (.dK _)=>True
 |some (.dT _)=>True
 |some (.set _ _)=>True
 |some (.ins _ _ _)=>True
 |some (.ext _)=>True
 |_=>False
section
variable {P:Program}{w:World}{H:Hp}{h h':Heap}{x e:Addr}{o':HO}
theorem m6.write(ok:m6 P w H h)(mu:TY (H x))(he:e=x\/H e=some (.own x))(k:∀b u,b≠e->h.get? b=some u->h'.get? b=some u)(Pj:∃u,h'.get? e=some u)
  (new:Gg P w (upd H x o') h' x o'):m6 P w (upd H x o') h':=λb u q=>by
 have Rw:∀c y,H c=some (.own y)->c≠x:=λc y r z=>by subst z;rw[r] at mu;exact mu
 have Wc:∀c xs,H c=some (.tup xs)->c≠x:=λc xs r z=>by subst z;rw[r] at mu;exact mu
 by_cases hb:b=x
 ·subst hb;rw[ae] at q;cases q;exact new
 ·rw[aj hb] at q;by_cases Qe:b=e
  ·have q':H b=some (.own x):=by
    rcases he with z|z
    ·exact absurd (Qe.trans z) hb
    ·rw[Qe];exact z
   rw[q] at q';cases q';obtain⟨v,hv⟩:=Pj;exact⟨v,by rw[Qe];exact hv⟩
  ·refine(ok b u q).JG (λc v hc r=>k c v ?_ r) (λc r=>by rw[aj (Rw c b r)];exact r) λc xs r=>by rw[aj (Wc c xs r)];exact r
   rcases hc with rfl|hc
   ·exact Qe
   ·rintro rfl;rcases he with z|z
    ·exact Rw c b hc z
    ·rw[hc] at z;cases z;exact hb rfl
end
structure Un(fs ex:B2)(H H':Hp)(h h':Heap):Prop where
 keep:∀b o,h.get? b=some o->H b=none->b∉fs->b∉ex->h'.get? b=some o
 slot:∀b o,h.get? b=some o->H b=none->b∈fs->b∉ex->∃sl,h'.get? b=some {o with slots:=sl}
 free:∀b o,h.get? b=some o->H b=none->b∉ex->H' b=none
 there:∀b o,h.get? b=some o->b∉ex->∃o',h'.get? b=some o'
 JO:∀b xs,H b=some (.tup xs)->H' b=some (.tup xs)
 JL:∀b o u,H b=some (.j5 o u)->H' b=some (.j5 o u)
 JK:∀b ps,H b=some (.B8 ps)->∃more,H' b=some (.B8 (ps++more))
section
variable {fs fs' ex ex':B2}{H H1 H2:Hp}{h h1 h2 h':Heap}{a x e:Addr}{o:HO}
theorem Un.any(u:Un fs ex H H1 h h1){b:Addr}{ob:Obj}(q:h.get? b=some ob)(n:H b=none)(hx:b∉ex):∃sl,h1.get? b=some {ob with slots:=sl}:=by
 by_cases hb:b∈fs
 ·exact u.slot b ob q n hb hx
 ·exact⟨ob.slots,u.keep b ob q n hb hx⟩
theorem Un.kept(k:∀b u,h.get? b=some u->h'.get? b=some u):Un fs ex H H h h':=
 ⟨λb ob q _ _ _=>k b ob q,λb ob q _ _ _=>⟨ob.slots,k b ob q⟩,λ_ _ _ n _=>n,λb ob q _=>⟨ob,k b ob q⟩,λ_ _ q=>q,λ_ _ _ q=>q,λ_ ps q=>⟨#[],by rw[q];simp⟩⟩
theorem Un.refl:Un fs ex H H h h:=Un.kept λ_ _ q=>q
theorem Un.laid(k:∀b u,h.get? b=some u->h'.get? b=some u)(hp:h.objs.size<=a)(hn:H a=none):Un fs ex H (upd H a o) h h' where
 keep:=λb u q _ _ _=>k b u q
 slot:=λb u q _ _ _=>⟨u.slots,k b u q⟩
 free:=λb u q n _=>by rw[aj (Bf (Bq (Fv q) hp))];exact n
 there:=λb u q _=>⟨u,k b u q⟩
 JO:=λb xs q=>by rw[aj (aC q hn)];exact q
 JL:=λb u xs q=>by rw[aj (aC q hn)];exact q
 JK:=λb ps q=>⟨#[],by rw[aj (aC q hn),q];simp⟩
theorem Un.write(mu:TY (H x))(he:e=x\/H e=some (.own x))(k:∀b u,b≠e->h.get? b=some u->h'.get? b=some u)(Pj:∃u,h'.get? e=some u):Un fs ex H (upd H x o) h h':=by
 have hx:∀b,H b=none->b≠x:=λb n z=>by subst z;rw[n] at mu;exact mu
 have hb:∀b,H b=none->b≠e:=λb n z=>by
  subst z;rcases he with r|r
  ·exact hx b n r
  ·rw[n] at r;cases r
 have hm:∀b u,H b=some u->¬TY (some u)->b≠x:=λb u q nm z=>by subst z;rw[q] at mu;exact nm mu
 refine⟨λb u q n _ _=>k b u (hb b n) q,λb u q n _ _=>⟨u.slots,k b u (hb b n) q⟩,λb u q n _=>by rw[aj (hx b n)]; exact n,λb u q _=>?_,
  λb xs q=>by rw[aj (hm b _ q λz=>z)];exact q,λb u xs q=>by rw[aj (hm b _ q λz=>z)];exact q,λb ps q=>⟨#[],by rw[aj (hm b _ q λz=>z),q];simp⟩⟩
 by_cases Qe:b=e
 ·subst Qe;exact Pj
 ·exact⟨u,k b u Qe q⟩
end
def Ox (h:Heap)(H:Hp):B2:=(List.range h.objs.size).filter λa=>(H a).isSome
def rf (h:Heap)(H:Hp):Heap:=W.hideAll h (Ox h H)
theorem nJ(h:Heap)(H:Hp):(rf h H).objs.size=h.objs.size:=W.hideAll_size _ _
theorem sq{h:Heap}{H:Hp}{b:Addr}{o:Obj}(e:h.get? b=some o)(n:H b=none):(rf h H).get? b=some o:=
 W.hideAll_get _ e λhm=>by
  have q:(H b).isSome=true:=(CP.mp hm).2;rw[n] at q;simp at q
theorem uK{h:Heap}{H:Hp}{b:Addr}{o:Obj}(e:(rf h H).get? b=some o):h.get? b=some o/\H b=none:=by
 have e':h.get? b=some o:=W.of_hideAll (Ox h H) e;refine⟨e',?_⟩;cases q:H b with
 |none=>rfl
 |some x=>
  have hm:b∈Ox h H:=CP.mpr ⟨Bt.mpr (Fv e'),by simp[q]⟩;have z:(rf h H).get? b=none:=W.hideAll_none (Ox h H) hm;rw[z] at e;cases e
def vg (g h:Heap)(L:Addr):A5:=(List.range h.objs.size).filterMap λa=>if a=L\/(g.get? a).isSome=true then none else (h.get? a).map λo=>(a,o)
def rest (g h:Heap)(L d:Addr):A5:=(vg g h L).filter λp=>decide (p.1≠d)
structure Mod(K:W.Frag)(mg:Str->Option Value)(base:Heap):Prop where
 WI:K.In base
 glob:base.Ns mainGlobals mg
 blt:∃mb,base.Ns builtinsNs mb/\∀x:Str,x≠"__name__"->mb x=bootBuiltins x
 nolimit:base.NoLimit
structure Cx where
 prog:Program
 w:World
 K:W.Frag
 mg:Str->Option Value
 base:Heap
 A:Around
 N:List Str
 s₀:Shared
 H₀:Hp
 env:Env
 outer:List Env
 stack:List Env
 ex:B2
 fn:Str->Bool
 calm:Bool
 pn:A5
 xe:A3
def Jd (l:List Env):B2:=l.filterMap (·.frame)
abbrev Cx.fs(X:Cx):B2:=Jd X.outer
def ZO (sc:Scope)(x:Str):Prop:=sc.names.lookup x=some .local\/sc.names.lookup x=some .cell\/sc.names.lookup x=some .free
def Loc (sc:Scope)(x:Str):Prop:=sc.names.lookup x=some .local\/sc.names.lookup x=some .cell
def Look (env:Env)(h:Heap)(m:Str->Option Value)(x:Str)(u:Value):Prop:=
 (env.kindOf x=some .local/\m x=some u)\/((env.kindOf x=some .cell\/env.kindOf x=some .free)/\∃c,env.cells.lookup x=some c/\h.IsCell c (some u))
structure Cx.Ok(X:Cx):Prop where
 mod:Mod X.K X.mg X.base
 kind:X.env.scope.kind=.function
 glob:X.env.globals=mainGlobals
 blt:X.env.builtins=builtinsNs
 above:X.s₀.heap.objs.size<=X.env.locals
 inj:∀x y c,X.env.cells.lookup x=some c->X.env.cells.lookup y=some c->x=y
 has:∀x,(X.env.kindOf x=some .cell\/X.env.kindOf x=some .free)->∃c,X.env.cells.lookup x=some c
 Qv:∀x c,X.fn x=true->X.env.cells.lookup x=some c->X.s₀.heap.objs.size<=c
 hd:X.calm=true->X.A.handled=none
 frames:X.A.frames=some X.stack
 M8:X.stack=X.outer\/(X.stack=X.env::X.outer/\X.env.frame=some X.env.locals)
 UB:∀b∈X.ex,b≠X.env.locals/\∀x c,X.env.cells.lookup x=some c->c≠b
 bs:∀b o,X.base.get? b=some o->X.s₀.heap.get? b=some o/\X.H₀ b=none
 OE:X.base.objs.size<=X.s₀.heap.objs.size
 Mi:∀b o,X.base.get? b=some o->b∉X.ex
 LB:∀b∈X.ex,b∉X.fs
 JM:X.s₀.heap.FunFrames X.base X.outer
 Po:∀b∈X.fs,X.H₀ b=none
structure Inv(X:Cx)(pins:A5)(σ:List (Option V))(H:Hp)(s:Shared):Prop where
 ok:X.Ok
 os:s.os=X.s₀.os
 bare:AllBare s.gens
 base:Un X.fs X.ex X.H₀ H X.s₀.heap s.heap
 loc:∃m,s.heap.Ns X.env.locals m/\∀(i:Nat)(x:Str)(v:V),X.N[i]?=some x->σ[i]?=some (some v)->ZO X.env.scope x->∃u,RelV v u/\Look X.env s.heap m x u
 cell:∀x c,X.env.cells.lookup x=some c->∃v,s.heap.IsCell c v
 free:H X.env.locals=none
 GL:∀x c,X.env.cells.lookup x=some c->H c=none
 pin:∀p∈X.pn++pins,s.heap.get? p.1=some p.2/\H p.1=none/\p.1≠X.env.locals/\p.1∉X.fs/\∀v,p.2.data≠.cell v
 b9:m6 X.prog X.w H s.heap
 len:σ.length=X.N.length
section
variable {X:Cx}{pins:A5}{σ:List (Option V)}{H H':Hp}{s:Shared}{h':Heap}
theorem Cx.Ok.Wg(ok:X.Ok){b:Addr}{o:Obj}(e:X.base.get? b=some o):b∉X.fs:=λhb=>by
 have:=(ok.JM.mem hb).1;rw[e] at this;cases this
theorem Inv.bs(I:Inv X pins σ H s):∀b o,X.base.get? b=some o->s.heap.get? b=some o/\H b=none:=λb o e=>
 ⟨I.base.keep b o (I.ok.bs b o e).1 (I.ok.bs b o e).2 (I.ok.Wg e) (I.ok.Mi b o e),I.base.free b o (I.ok.bs b o e).1 (I.ok.bs b o e).2 (I.ok.Mi b o e)⟩
theorem Inv.bk(I:Inv X pins σ H s):∀b o,X.base.get? b=some o->s.heap.get? b=some o:=λb o e=>(I.bs b o e).1
theorem Inv.mod(I:Inv X pins σ H s):Mod X.K X.mg X.base:=I.ok.mod
theorem Inv.C4(I:Inv X pins σ H s):X.K.In s.heap:=I.ok.mod.WI.keeps I.bk
theorem Inv.nolimit(I:Inv X pins σ H s):s.heap.NoLimit:=I.ok.mod.nolimit.keeps I.bk
theorem Inv.lt(I:Inv X pins σ H s):X.env.locals<s.heap.objs.size:=let ⟨_,hn,_⟩:=I.loc;hn.lt
theorem Inv.sz(I:Inv X pins σ H s):X.s₀.heap.objs.size<=s.heap.objs.size:=Bh I.ok.above (BS I.lt)
theorem Inv.Wf(I:Inv X pins σ H s){a:Addr}(h:s.heap.objs.size<=a):a∉X.fs:=λhb=>by
 obtain⟨_,o,ho,_⟩:=I.ok.JM.mem hb;exact absurd (Bq (Fv ho) (Bh I.sz h)) (BI _)
theorem Inv.Qu(I:Inv X pins σ H s):∀x c,X.env.cells.lookup x=some c->c≠X.env.locals:=λx c e z=>by
 obtain⟨v,o,ho,hd⟩:=I.cell x c e;obtain⟨m,⟨o',es,ep,M0,OD,_⟩,_⟩:=I.loc;rw[z,M0] at ho;cases ho;rw[OD] at hd;cases hd
theorem Inv.JM(I:Inv X pins σ H s):s.heap.FunFrames X.base X.outer:=by
 have all:∀(l:List Env),(∀b∈Jd l,b∈X.fs)->X.s₀.heap.FunFrames X.base l->s.heap.FunFrames X.base l:=by
  intro l;induction l with
  |nil=>intro _ _;trivial
  |cons env r ih=>
   intro hs hl;obtain⟨hk,⟨L,o,hf,hn,ho,hd⟩,hr⟩:=hl;have hL:L∈X.fs:=hs L (by unfold Jd;rw[Dy,hf];exact AZ);obtain⟨sl,e⟩:=I.base.slot L o ho (I.ok.Po L hL) hL λz=>I.ok.LB L z hL;exact⟨hk,⟨L,_,hf,hn,e,hd⟩,ih (λb hb=>hs b (by unfold Jd;rw[Dy,hf];exact Bg _ hb)) hr⟩
 exact all X.outer (λ_ hb=>hb) I.ok.JM
theorem Inv.stack(I:Inv X pins σ H s):s.heap.FunFrames X.base X.stack:=by
 rcases I.ok.M8 with e|⟨e,hf⟩
 ·rw[e];exact I.JM
 ·rw[e];obtain⟨m,hn,_⟩:=I.loc;refine .cons (by rw[I.ok.kind];decide) hf hn ?_ I.JM;exact Heap.get?_none_of_le (Bh I.ok.OE I.ok.above)
theorem Inv.Iz(I:Inv X pins σ H s):∀b∈Jd X.stack,b∈X.env.locals::X.fs:=λb hb=>by
 rcases I.ok.M8 with e|⟨e,hf⟩
 ·rw[e] at hb;exact Bg _ hb
 ·rw[e] at hb;unfold Jd at hb;rw[Dy,hf] at hb;exact hb
theorem Inv.HQ(I:Inv X pins σ H s):∀b∈Jd X.stack,H b=none:=λb hb=>by
 rcases Bb.mp (I.Iz b hb) with e|hb
 ·rw[e];exact I.free
 ·obtain⟨_,o,ho,_⟩:=I.ok.JM.mem hb;exact I.base.free b o ho (I.ok.Po b hb) λz=>I.ok.LB b z hb
theorem Inv.step{g':Array GenState}{t':Nat}{d':Drawn}{ch:B2}(I:Inv X pins σ H s)
  (J3:∀b∈ch,(b∈X.ex\/X.s₀.heap.get? b=none)/\b≠X.env.locals/\(∀x c,X.env.cells.lookup x=some c->c≠b)/\∀p∈X.pn++pins,p.1≠b)
  (keep:∀b o,b≠X.env.locals->b∉X.fs->b∉ch->s.heap.get? b=some o->H b=none->h'.get? b=some o)
  (slot:∀b o,b≠X.env.locals->b∈X.fs->b∉ch->s.heap.get? b=some o->H b=none->∃sl,h'.get? b=some {o with slots:=sl})(free:∀b o,b∉ch->s.heap.get? b=some o->H b=none->H' b=none)
  (there:∀b o,b∉ch->s.heap.get? b=some o->∃o',h'.get? b=some o')
  (JO:∀b xs,H b=some (.tup xs)->H' b=some (.tup xs))(JL:∀b o u,H b=some (.j5 o u)->H' b=some (.j5 o u))(JK:∀b ps,H b=some (.B8 ps)->∃more,H' b=some (.B8 (ps++more)))
  (ns:∀m,s.heap.Ns X.env.locals m->h'.Ns X.env.locals m)(b9:m6 X.prog X.w H' h')(hg:AllBare g') :
  Inv X pins σ H' {s with heap:=h',gens:=g',drawn:=d',toks:=t'}:=by
 have neL:∀b o,X.s₀.heap.get? b=some o->b≠X.env.locals:=λb o e=>Bf (Bq (Fv e) I.ok.above);have Ug:∀b o,X.s₀.heap.get? b=some o->b∉X.ex->b∉ch:=λb o e hx hb=>by
  rcases (J3 b hb).1 with z|z
  ·exact hx z
  ·rw[z] at e;cases e
 have cellK:∀x c,X.env.cells.lookup x=some c->∀v,s.heap.IsCell c v->h'.IsCell c v:=λx c e v hq1=>by
  obtain⟨o,ho,hd⟩:=hq1;have Pd:c∉ch:=λz=>(J3 c z).2.2.1 x c e rfl;by_cases hc:c∈X.fs
  ·obtain⟨sl,q⟩:=slot c o (I.Qu x c e) hc Pd ho (I.GL x c e);exact⟨_,q,hd⟩
  ·exact⟨o,keep c o (I.Qu x c e) hc Pd ho (I.GL x c e),hd⟩
 refine⟨I.ok,I.os,hg,⟨λb o e n hb hx=>?_,λb o e n hb hx=>?_,λb o e n hx=>?_,λb o e hx=>?_,λb xs e=>JO b xs (I.base.JO b xs e),λb o xs e=>JL b o xs (I.base.JL b o xs e),λb ps e=>?_⟩,?_,λx c e=>?_,?_,λx c e=>?_,λp hp=>?_,b9,I.len⟩
 ·exact keep b o (neL b o e) hb (Ug b o e hx) (I.base.keep b o e n hb hx) (I.base.free b o e n hx)
 ·obtain⟨sl,e1⟩:=I.base.slot b o e n hb hx;obtain⟨sl',e2⟩:=slot b _ (neL b o e) hb (Ug b o e hx) e1 (I.base.free b o e n hx);exact⟨sl',e2⟩
 ·obtain⟨o',e1⟩:=I.base.there b o e hx;exact free b o' (Ug b o e hx) e1 (I.base.free b o e n hx)
 ·obtain⟨o',e1⟩:=I.base.there b o e hx;exact there b o' (Ug b o e hx) e1
 ·obtain⟨m1,e1⟩:=I.base.JK b ps e;obtain⟨m2,e2⟩:=JK b _ e1;exact⟨m1++m2,by rw[e2,Array.append_assoc]⟩
 ·obtain⟨m,hn,hl⟩:=I.loc;refine⟨m,ns m hn,λi x v e1 e2 e3=>?_⟩;obtain⟨u,r,l⟩:=hl i x v e1 e2 e3;refine⟨u,r,?_⟩;rcases l with l|⟨k,c,e,z⟩
  ·exact .inl l
  ·exact .inr ⟨k,c,e,cellK x c e _ z⟩
 ·obtain⟨v,z⟩:=I.cell x c e;exact⟨v,cellK x c e v z⟩
 ·obtain⟨m,⟨o,_,_,ho,_⟩,_⟩:=I.loc;exact free _ o (λz=>(J3 _ z).2.1 rfl) ho I.free
 ·obtain⟨v,o,ho,hd⟩:=I.cell x c e;exact free c o (λz=>(J3 c z).2.2.1 x c e rfl) ho (I.GL x c e)
 ·obtain⟨e,n,ne,nf,d⟩:=I.pin p hp;have Pd:p.1∉ch:=λz=>(J3 p.1 z).2.2.2 p hp rfl;exact⟨keep p.1 p.2 ne nf Pd e n,free p.1 p.2 Pd e n,ne,nf,d⟩
theorem Inv.un{t':Nat}(I:Inv X pins σ H s)(u:Un X.fs [] H H' s.heap h')(b9:m6 X.prog X.w H' h'):Inv X pins σ H' {s with heap:=h',toks:=t'}:=by
 obtain⟨m,⟨o,es,ep,ho,r⟩,_⟩:=id I.loc;obtain⟨sl,hL⟩:=u.any ho I.free (by simp)
 exact I.step (g':=s.gens) (d':=s.drawn) (ch:=[]) (λ_ z=>nomatch z) (λb o _ hb _ e n=>u.keep b o e n hb (by simp)) (λb o _ hb _ e n=>u.slot b o e n hb (by simp)) (λb o _ e n=>u.free b o e n (by simp)) (λb o _ e=>u.there b o e (by simp)) u.JO u.JL u.JK (λm' hm=>by
  obtain⟨o',Ot,Q4,M0,r'⟩:=hm;rw[ho] at M0;cases M0
  exact⟨_,Ot,Q4,hL,r'⟩) b9 I.bare
theorem Inv.call{g':Array GenState}{t':Nat}{d':Drawn}{ch:B2}(I:Inv X pins σ H s)(u:Un (Jd X.stack) ch H H' s.heap h')(b9:m6 X.prog X.w H' h')(hg:AllBare g')
  (J3:∀b∈ch,(b∈X.ex\/X.s₀.heap.get? b=none)/\b≠X.env.locals/\(∀x c,X.env.cells.lookup x=some c->c≠b)/\∀p∈X.pn++pins,p.1≠b) :
  Inv X pins σ H' {s with heap:=h',gens:=g',drawn:=d',toks:=t'}:=by
 obtain⟨m,⟨o,es,ep,ho,r⟩,_⟩:=id I.loc;obtain⟨sl,hL⟩:=u.any ho I.free λz=>(J3 _ z).2.1 rfl
 exact I.step (ch:=ch) J3 (λb o hL hb hc e n=>u.keep b o e n (λz=>(Bb.mp (I.Iz b z)).elim hL hb) hc) (λb o _ _ hc e n=>u.any e n hc) (λb o hc e n=>u.free b o e n hc) (λb o hc e=>u.there b o e hc) u.JO u.JL u.JK (λm' hm=>by
  obtain⟨o',Ot,Q4,M0,r'⟩:=hm;rw[ho] at M0;cases M0
  exact⟨_,Ot,Q4,hL,r'⟩) b9 hg
theorem Inv.turned{t':Nat}{it:Addr}(I:Inv X pins σ H s)(k:∀b o,b≠it->s.heap.get? b=some o->h'.get? b=some o)(hn:H it=none)(hL:it≠X.env.locals)
  (h1:it∈X.ex\/X.s₀.heap.get? it=none)(h2:∀x c,X.env.cells.lookup x=some c->c≠it)(h3:∀p∈X.pn++pins,p.1≠it):Inv X pins σ H {s with heap:=h',toks:=t'}:=by
 have nit:∀b u,H b=some u->b≠it:=λb u e z=>by rw[z,hn] at e;cases e
 refine I.step (g':=s.gens) (d':=s.drawn) (ch:=[it]) (λb hb=>?_) (λb o _ _ hc e _=>k b o (λz=>hc (by simp[z])) e) (λb o _ _ hc e _=>⟨o.slots,k b o (λz=>hc (by simp[z])) e⟩) (λ_ _ _ _ n=>n)
  (λb o hc e=>⟨o,k b o (λz=>hc (by simp[z])) e⟩) (λ_ _ e=>e) (λ_ _ _ e=>e) (λb ps e=>⟨#[],by rw[e];simp⟩) (λm hm=>?_) (λb u e=>?_) I.bare
 ·have e:b=it:=by simpa using hb
  subst e;exact⟨h1,hL,h2,h3⟩
 ·obtain⟨o,es,ep,ho,r⟩:=hm;exact⟨o,es,ep,k _ o (FI hL) ho,r⟩
 ·refine(I.b9 b u e).JG (λc v hc q=>k c v ?_ q) (λ_ q=>q) λ_ _ q=>q;rcases hc with z|z
  ·rw[z];exact nit b u e
  ·exact nit c _ z
theorem Inv.tok(I:Inv X pins σ H s)(t:Nat):Inv X pins σ H {s with toks:=t}:=I.un (h':=s.heap) (t':=t) Un.refl I.b9
theorem Inv.kept{t':Nat}(I:Inv X pins σ H s)(k:∀b u,s.heap.get? b=some u->h'.get? b=some u):Inv X pins σ H {s with heap:=h',toks:=t'}:=I.un (Un.kept k) (I.b9.kept k)
theorem Inv.laid{a:Addr}{o:HO}{t':Nat}(I:Inv X pins σ H s)(k:∀b u,s.heap.get? b=some u->h'.get? b=some u)(hp:s.heap.objs.size<=a)(new:Gg X.prog X.w (upd H a o) h' a o) :
  Inv X pins σ (upd H a o) {s with heap:=h',toks:=t'}:=I.un (Un.laid k hp (I.b9.fresh hp)) (I.b9.laid k hp new)
theorem Inv.write{x e:Addr}{o:HO}{t':Nat}(I:Inv X pins σ H s)(mu:TY (H x))(he:e=x\/H e=some (.own x))(k:∀b u,b≠e->s.heap.get? b=some u->h'.get? b=some u)(Pj:∃u,h'.get? e=some u)
  (new:Gg X.prog X.w (upd H x o) h' x o):Inv X pins σ (upd H x o) {s with heap:=h',toks:=t'}:=I.un (Un.write mu he k Pj) (I.b9.write mu he k Pj new)
theorem Inv.Hm{u6:A5}(I:Inv X pins σ H s)(h:∀p∈u6,s.heap.get? p.1=some p.2/\H p.1=none/\p.1≠X.env.locals/\p.1∉X.fs/\∀v,p.2.data≠.cell v):Inv X u6 σ H s:=
 ⟨I.ok,I.os,I.bare,I.base,I.loc,I.cell,I.free,I.GL,λp hp=>(Ba.mp hp).elim (λz=>I.pin p (Bu _ z)) (h p),I.b9,I.len⟩
theorem lF{N:List Str}(hN:N.Nodup){i j:Nat}{x:Str}(a:N[i]?=some x)(b:N[j]?=some x):i=j:=by
 obtain⟨h1,e1⟩:=Be.mp a;obtain⟨h2,e2⟩:=Be.mp b;exact(List.getElem_inj hN).mp (e1.trans e2.symm)
theorem fA{M:Model}{A:Around}{E:A3}{i:Nat}{x:Str}{v:V}{u:Value}{Q:Unit->Shared->Prop}(I:Inv X pins σ H s)(hN:X.N.Nodup)(hi:X.N[i]?=some x)(hx:Loc X.env.scope x)(r:RelV v u)
  (h:∀s',Inv X pins (σ.set i (some v)) H s'->(∃a,Heap.SameBut a s.heap s'.heap/\(a=X.env.locals\/X.env.cells.lookup x=some a))->Q () s')(hf:X.fn x=true\/X.env.scope.names.lookup x=some .local:=by first|exact .inl rfl|exact .inr rfl|assumption):wpAny M A (storeName X.env x u) Q E s:=by
 obtain⟨m,hn,hl⟩:=id I.loc;have Zc:(X.env.scope.kind==.class||(X.env.scope.kind==.module&&X.env.locals != X.env.globals))=false:=by rw[I.ok.kind];rfl
 have Tg:i<σ.length:=by rw[I.len];exact(Be.mp hi).1
 have Qu:=I.Qu;have tracked:∀{a:Addr}{h':Heap},(∃o,s.heap.get? a=some o/\H a=none)->Heap.SameBut a s.heap h'->m6 X.prog X.w H h':=λ{a h'} ha hs b ob e=>by
  obtain⟨_,_,Pf⟩:=ha;refine(I.b9 b ob e).JG (λc w' hc q=>(hs.2 c ?_).trans q) (λ_ q=>q) λ_ _ q=>q;rintro rfl;rcases hc with rfl|hc
  ·rw[Pf] at e;cases e
  ·rw[Pf] at hc;cases hc
 rcases hx with hk|hk
 ·refine wpAny_storeName_local hk hn (λh' Of hs=>?_) Zc;obtain⟨oL,_,_,MW,_⟩:=id hn;refine h _ ⟨I.ok,I.os,I.bare,⟨λb o e n hb hx=>?_,λb o e n hb hx=>?_,I.base.free,λb o e hx=>?_,I.base.JO,I.base.JL,I.base.JK⟩,⟨_,Of,λj y v' e1 e2 e3=>?_⟩,λy c e=>?_,I.free,I.GL,λp hp=>?_,tracked ⟨oL,MW,I.free⟩ hs,by simpa using I.len⟩ ⟨_,hs,.inl rfl⟩
  ·exact(hs.2 b (Bf (Bq (Fv e) I.ok.above))).trans (I.base.keep b o e n hb hx)
  ·obtain⟨sl,e1⟩:=I.base.slot b o e n hb hx;exact⟨sl,(hs.2 b (Bf (Bq (Fv e) I.ok.above))).trans e1⟩
  ·obtain⟨o',e1⟩:=I.base.there b o e hx;exact⟨o',(hs.2 b (Bf (Bq (Fv e) I.ok.above))).trans e1⟩
  ·by_cases hj:j=i
   ·subst hj;rw[hi] at e1;cases e1;rw[Dz Tg] at e2;cases e2;exact⟨u,r,.inl ⟨hk,by simp⟩⟩
   ·rw[DA (FI hj)] at e2;obtain⟨u',r',q⟩:=hl j y v' e1 e2 e3;refine⟨u',r',?_⟩;rcases q with ⟨k,e⟩|⟨k,c,e,z⟩
    ·refine .inl ⟨k,?_⟩;have:y≠x:=λe=>hj (lF hN e1 (e▸hi));simp[this,e]
    ·exact .inr ⟨k,c,e,z.sameBut hs (Qu y c e)⟩
  ·obtain⟨w',z⟩:=I.cell y c e;exact⟨w',z.sameBut hs (Qu y c e)⟩
  ·obtain⟨e,n,ne,nf,d⟩:=I.pin p hp;exact⟨(hs.2 p.1 ne).trans e,n,ne,nf,d⟩
 ·have Y1:X.fn x=true:=by
   rcases hf with z|z
   ·exact z
   ·rw[z] at hk;cases hk
  obtain⟨c,hc⟩:=I.ok.has x (.inl hk);obtain⟨w',z⟩:=I.cell x c hc;refine wpAny_storeName_cell I.ok.kind hk hc z (λh' B9 hs=>?_);obtain⟨oc,P6,YI⟩:=id z;refine h {s with heap:=h'} ⟨I.ok,I.os,I.bare,⟨λb o e n hb hx=>?_,λb o e n hb hx=>?_,I.base.free,λb o e hx=>?_,I.base.JO,I.base.JL,I.base.JK⟩,⟨m,hn.sameBut hs (FI (Qu x c hc)),λj y v' e1 e2 e3=>?_⟩,λy c' e=>?_,I.free,I.GL,λp hp=>?_,tracked ⟨oc,P6,I.GL x c hc⟩ hs,by simpa using I.len⟩ ⟨c,hs,.inr hc⟩
  ·exact(hs.2 b (Bf (Bq (Fv e) (I.ok.Qv x c Y1 hc)))).trans (I.base.keep b o e n hb hx)
  ·obtain⟨sl,e1⟩:=I.base.slot b o e n hb hx;exact⟨sl,(hs.2 b (Bf (Bq (Fv e) (I.ok.Qv x c Y1 hc)))).trans e1⟩
  ·obtain⟨o',e1⟩:=I.base.there b o e hx;exact⟨o',(hs.2 b (Bf (Bq (Fv e) (I.ok.Qv x c Y1 hc)))).trans e1⟩
  ·by_cases hj:j=i
   ·subst hj;rw[hi] at e1;cases e1;rw[Dz Tg] at e2;cases e2;exact⟨u,r,.inr ⟨.inl hk,c,hc,B9⟩⟩
   ·rw[DA (FI hj)] at e2;obtain⟨u',r',q⟩:=hl j y v' e1 e2 e3;refine⟨u',r',?_⟩;rcases q with q|⟨k,c',e,z'⟩
    ·exact .inl q
    ·refine .inr ⟨k,c',e,z'.sameBut hs ?_⟩;rintro rfl;exact hj (lF hN e1 (I.ok.inj _ _ _ e hc▸hi))
  ·by_cases Tu:c'=c
   ·subst Tu;exact⟨_,B9⟩
   ·obtain⟨w2,z2⟩:=I.cell y c' e;exact⟨w2,z2.sameBut hs Tu⟩
  ·obtain⟨e,n,ne,nf,d⟩:=I.pin p hp;refine⟨(hs.2 p.1 ?_).trans e,n,ne,nf,d⟩;intro q;rw[q,P6] at e;have q':oc=p.2:=Fx e;exact d w' (by rw[<- q'];exact YI)
theorem ff{M:Model}{A:Around}{E:A3}{i:Nat}{x:Str}{v:V}{u:Value}{Q:Unit->Shared->Prop}(I:Inv X pins σ H s)(hN:X.N.Nodup)(hi:X.N[i]?=some x)(hx:Loc X.env.scope x)(r:RelV v u)
  (h:∀s',Inv X pins (σ.set i (some v)) H s'->Q () s')(hf:X.fn x=true\/X.env.scope.names.lookup x=some .local:=by first|exact .inl rfl|exact .inr rfl|assumption):wpAny M A (storeName X.env x u) Q E s:=
 fA I hN hi hx r (λs' I' _=>h s' I') hf
theorem Inv.Mx{s':Shared}{ch:B2}(I:Inv X pins σ H s)(ho:s'.os=s.os)(u:Un (Jd X.stack) ch H H' s.heap s'.heap)(b9:m6 X.prog X.w H' s'.heap)(hg:AllBare s'.gens)
  (J3:∀b∈ch,(b∈X.ex\/X.s₀.heap.get? b=none)/\b≠X.env.locals/\(∀x c,X.env.cells.lookup x=some c->c≠b)/\∀p∈X.pn++pins,p.1≠b):Inv X pins σ H' s':=by
 obtain⟨h',g',d',t',o'⟩:=s';have e:o'=s.os:=ho;subst e;exact I.call (g':=g') (t':=t') (d':=d') u b9 hg J3
end
abbrev XK:=Value->Option Addr->Hp->Prop
abbrev St:=List (Option V)
abbrev VK:=V->Hp->Prop
abbrev TE:=St->Hp->VK->Prop
abbrev TT:=St->Hp->(Bool->Hp->Prop)->Prop
abbrev TA:=St->Hp->(A9->Hp->Prop)->Prop
structure Ends where
 nx:St->Hp->Prop
 rt:VK
 bk:St->Hp->Prop:=λ_ _=>False
 ct:St->Hp->Prop:=λ_ _=>False
abbrev TS:=Ends->St->Hp->Prop
def EP (X:Cx)(pins:A5)(σ:St)(Q:VK)(u:Value)(s':Shared):Prop:=∃v H',Inv X pins σ H' s'/\RelV v u/\Q v H'
def TP (X:Cx)(pins:A5)(σ:St)(Q:Bool->Hp->Prop)(b:Bool)(s':Shared):Prop:=∃H',Inv X pins σ H' s'/\Q b H'
def AP (X:Cx)(pins:A5)(σ:St)(Q:A9->Hp->Prop)(us:A8)(s':Shared):Prop:=∃vs H',Inv X pins σ H' s'/\Vals vs us/\Q vs H'
def SP (X:Cx)(pins:A5)(D:Ends)(f:Flow)(s':Shared):Prop:=
 match f with
 |.next=>∃c5 H',Inv X pins c5 H' s'/\D.nx c5 H'
 |.brk=>∃c5 H',Inv X pins c5 H' s'/\D.bk c5 H'
 |.cont=>∃c5 H',Inv X pins c5 H' s'/\D.ct c5 H'
 |.ret u=>∃v c5 H',Inv X pins c5 H' s'/\RelV v u/\D.rt v H'
def PE (X:Cx)(e:Expr)(t:TE):Prop:=
 ∀(pins:A5)(s:Shared)(σ:St)(H:Hp)(Q:VK),Inv X pins σ H s->t σ H Q->(wq X) (eval e X.env) (EP X pins σ Q) X.xe s
def PT (X:Cx)(e:Expr)(t:TT):Prop:=
 ∀(pins:A5)(s:Shared)(σ:St)(H:Hp)(Q:Bool->Hp->Prop),Inv X pins σ H s->t σ H Q->(wq X) (isTrue e X.env (eval e X.env)) (TP X pins σ Q) X.xe s
def PW (X:Cx)(e:Expr)(t:TT):Prop:=
 ∀(whole:Sem Value)(pins:A5)(s:Shared)(σ:St)(H:Hp)(Q:Bool->Hp->Prop),Inv X pins σ H s->t σ H Q->(wq X) (isTrue e X.env whole) (TP X pins σ Q) X.xe s
theorem PW.pt{X:Cx}{e:Expr}{t:TT}(h:PW X e t):PT X e t:=h _
def PA (X:Cx)(es:List Expr)(t:TA):Prop:=
 ∀(pos:Pos)(pins:A5)(s:Shared)(σ:St)(H:Hp)(Q:A9->Hp->Prop),Inv X pins σ H s->t σ H Q->(wq X) (spliced (backTo pos (starEach es X.env))) (AP X pins σ Q) X.xe s
def PS (X:Cx)(st:Stmt)(t:TS):Prop:=
 ∀(pins:A5)(s:Shared)(σ:St)(H:Hp)(D:Ends),Inv X pins σ H s->t D σ H->(wq X) (exec st X.env) (SP X pins D) X.xe s
def K6 (X:Cx)(st:List Stmt)(t:TS):Prop:=
 ∀(pins:A5)(s:Shared)(σ:St)(H:Hp)(D:Ends),Inv X pins σ H s->t D σ H->(wq X) (execs st X.env) (SP X pins D) X.xe s
theorem c6{α:Type}{t:Sem α}{Q Q':α->Shared->Prop}{M:Model}{A:Around}{E:A3}{s:Shared}(h:wpAny M A t Q E s)(hQ:∀a s,Q a s->Q' a s):wpAny M A t Q' E s:=Fq h hQ λ_ _ x=>x
section
variable {X:Cx}
inductive Mj(i:Nat)(σ:St)(H:Hp)(Q:VK):Prop
 |mk v:σ[i]?=some (some v)->Q v H->Mj i σ H Q
def tC (v:V):TE:=λ_ H Q=>Q v H
theorem wN{i:Nat}{x:Str}{pos:Pos}(hN:X.N[i]?=some x)(hv:ZO X.env.scope x)(hd:(x==("__debug__":Str))=false:=by decide)(F6:(x==("__classdict__":Str))=false:=by decide):PE X (.Name x pos) (Mj i):=by
 intro pins s σ H Q I h;obtain⟨v,e,h⟩:=h;obtain⟨m,hn,hl⟩:=I.loc;obtain⟨u,r,l⟩:=hl i x v hN e hv;have fin:EP X pins σ Q u s:=⟨v,H,I,r,h⟩
 rcases l with ⟨hk,hm⟩|⟨hk,c,hc,m9⟩
 ·exact wpAny_Name (wpAny_loadName_local I.ok.kind hk hn hm fin) hd
 ·rcases hk with hk|hk
  ·exact wpAny_Name (wpAny_loadName_cell I.ok.kind hk hc m9 fin) hd
  ·exact wpAny_Name (wpAny_loadName_free I.ok.kind hk hc m9 fin F6) hd
theorem ah{i j pos}:PE X (.Constant (.int i) j pos) (tC (.int i)):=λ_ _ _ H _ I h=>wpAny_Constant_int ⟨.int i,H,I.tok _,⟨_,rfl⟩,h⟩
theorem cI{b j pos}:PE X (.Constant (.bool b) j pos) (tC (.bl b)):=λ_ _ _ H _ I h=>Constant_bool ⟨.bl b,H,I,rfl,h⟩
theorem eM{j pos}:PE X (.Constant .none j pos) (tC .f6):=λ_ _ _ H _ I h=>Constant_none ⟨.f6,H,I,rfl,h⟩
theorem aU{x j pos}:PE X (.Constant (.str x) j pos) (tC (.str x)):=λ_ _ _ H _ I h=>Calls.Constant_str ⟨.str x,H,I.tok _,⟨_,rfl⟩,h⟩
def Gl (X:Cx)(x:Str):Prop:=X.env.kindOf x=some .globalImplicit
theorem pL{E:A3}{pins:A5}{s:Shared}{σ:St}{H:Hp}{x:Str}{u:Value}{pos:Pos}{Q:A3}(I:Inv X pins σ H s)(hg:Gl X x)(hm:X.mg x=some u)(h:Q u s)
  (hd:(x==("__debug__":Str))=false:=by decide):(wq X) (eval (.Name x pos) X.env) Q E s:=
 Calls.Name_function_global I.ok.kind hg (Calls.loadGlobal_global (by rw[I.ok.glob];exact I.mod.glob.keeps I.bk) hm h) hd
theorem fJ{E:A3}{pins:A5}{s:Shared}{σ:St}{H:Hp}{x:Str}{u:Value}{pos:Pos}{Q:A3}(I:Inv X pins σ H s)(hg:Gl X x)(hm:X.mg x=none)(hv:bootBuiltins x=some u)(h:Q u s)
  (hn:x≠"__name__":=by decide)(hd:(x==("__debug__":Str))=false:=by decide):(wq X) (eval (.Name x pos) X.env) Q E s:=by
 obtain⟨mb,h1,h2⟩:=I.mod.blt;exact Calls.Name_function_global I.ok.kind hg (Calls.loadGlobal_builtin (by rw[I.ok.glob];exact I.mod.glob.keeps I.bk) hm (by rw[I.ok.blt];exact h1.keeps I.bk) ((h2 x hn).trans hv) h) hd
theorem iy{x:Str}{v:V}{u:Value}{pos:Pos}(hg:Gl X x)(hm:X.mg x=some u)(r:RelV v u)(hd:(x==("__debug__":Str))=false:=by decide):PE X (.Name x pos) (tC v):=
 λ_ _ _ H _ I h=>pL I hg hm ⟨v,H,I,r,h⟩ hd
theorem fR{x:Str}{v:V}{u:Value}{pos:Pos}(hg:Gl X x)(hm:X.mg x=none)(hv:bootBuiltins x=some u)(r:RelV v u)(hn:x≠"__name__":=by decide)(hd:(x==("__debug__":Str))=false:=by decide):PE X (.Name x pos) (tC v):=
 λ_ _ _ H _ I h=>fJ I hg hm hv ⟨v,H,I,r,h⟩ hn hd
variable {a b:Expr}{ta tb:TE}{pos:Pos}
def PC (X:Cx)(op:CmpOp)(a b:Expr)(t:TE):Prop:=
 ∀(pins:A5)(s:Shared)(σ:St)(H:Hp)(Q:VK),Inv X pins σ H s->t σ H Q ->
  (wq X) (eval a X.env) (λv b7=>(wq X) (eval b X.env) (λu k6=>(wq X) (compareOp op v u) (EP X pins σ Q) X.xe k6) X.xe b7) X.xe s
theorem dH(b:Expr){op:CmpOp}(h:op≠.In)(h2:op≠.NotIn):behindInMarks op b=false:=by
 have e1:(op==CmpOp.In)=false:=by cases op<;>first|rfl|exact absurd rfl h
 have e2:(op==CmpOp.NotIn)=false:=by cases op<;>first|rfl|exact absurd rfl h2
 cases b<;>simp[behindInMarks,e1,e2]
inductive TBZ(Q:Bool->Hp->Prop)(x:V)(H1:Hp):Prop
 |mk c:x=.bl c->Q c H1->TBZ Q x H1
def tB (t:TE):TT:=fun σ H Q=>t σ H λx H1=>TBZ Q x H1
theorem ko{op:CmpOp}{t:TE}(h:PC X op a b t)(h1:behindInMarks op b=false:=by first|exact dH _ (by decide) (by decide)|rfl):PT X (.Compare a [op] [b] pos) (tB t):=by
 intro pins s σ H Q I hw;refine wpAny_isTrue_Compare1 (c6 (h pins s σ H _ I hw) λv s1 h1=>c6 h1 λu s2 h2=>c6 h2 λc s3 hq2=>?_) h1;obtain⟨x,H1,I1,r1,q1⟩:=hq2;obtain⟨d,rfl,q⟩:=q1;cases r1;exact wpAny_truthy_bool ⟨H1,I1,q⟩
theorem cx{e:Expr}{t:TE}(h:PE X e t)(he:∀whole,isTrue e X.env whole=(do let v <- whole;standAt e.pos;holding [v] (truthy v)):=by intro _;rfl):PT X e (tB t):=by
 intro pins s σ H Q I hw;refine isTrue_plain (c6 (h pins s σ H _ I hw) λv s1 hq3=>?_) (he _);obtain⟨x,H1,I1,r1,q1⟩:=hq3;obtain⟨d,rfl,q⟩:=q1;cases r1;exact wpAny_truthy_bool ⟨H1,I1,q⟩
variable {tA T9:TT}{rest:List Expr}
def U9 (t u:TT):TT:=fun σ H Q=>t σ H λc H1=>if c=true then u σ H1 Q else Q false H1
def tOr (t u:TT):TT:=fun σ H Q=>t σ H λc H1=>if c=true then Q true H1 else u σ H1 Q
def UY (t:TT):TT:=fun σ H Q=>t σ H λc H1=>Q (!c) H1
theorem bS(ha:PT X a tA):PW X (.BoolOp .And [a] pos) tA:=by
 intro wh pins s σ H Q I h;refine isTrue_and (c6 (ha pins s σ H Q I h) λc s1 e=>?_);cases c with
 |true=>exact isTrue_and_nil e
 |false=>exact e
theorem eT(ha:PT X a tA):PW X (.BoolOp .Or [a] pos) tA:=by
 intro wh pins s σ H Q I h;refine isTrue_or (c6 (ha pins s σ H Q I h) λc s1 e=>?_);cases c with
 |false=>exact isTrue_or_nil e
 |true=>exact e
theorem cG(ha:PT X a tA)(hb:PW X (.BoolOp .And (b::rest) pos) T9):PW X (.BoolOp .And (a::b::rest) pos) (U9 tA T9):=by
 intro wh pins s σ H Q I h;refine isTrue_and (c6 (ha pins s σ H _ I h) λc s1 hq4=>?_);obtain⟨H1,I1,q1⟩:=hq4;cases c with
 |true=>exact hb wh pins s1 σ H1 Q I1 q1
 |false=>exact⟨H1,I1,q1⟩
theorem iM(ha:PT X a tA)(hb:PW X (.BoolOp .Or (b::rest) pos) T9):PW X (.BoolOp .Or (a::b::rest) pos) (tOr tA T9):=by
 intro wh pins s σ H Q I h;refine isTrue_or (c6 (ha pins s σ H _ I h) λc s1 hq5=>?_);obtain⟨H1,I1,q1⟩:=hq5;cases c with
 |true=>exact⟨H1,I1,q1⟩
 |false=>exact hb wh pins s1 σ H1 Q I1 q1
theorem eS(ha:PT X a tA):PT X (.UnaryOp .Not a pos) (UY tA):=by
 intro pins s σ H Q I h;exact isTrue_not (ha pins s σ H (λc H1=>Q (!c) H1) I h)
inductive Le(tb:TE)(σ:St)(Q:VK)(x:V)(H1:Hp):Prop
 |mk c:x=.bl c->(if c=true then tb σ H1 Q else Q (.bl false) H1)->Le tb σ Q x H1
def yh (ta tb:TE):TE:=fun σ H Q=>ta σ H λx H1=>Le tb σ Q x H1
inductive Ld(Q:VK)(x:V)(H1:Hp):Prop
 |mk c:x=.bl c->Q (.bl (!c)) H1->Ld Q x H1
def yu (ta:TE):TE:=fun σ H Q=>ta σ H λx H1=>Ld Q x H1
theorem nr{op}{t:TE}(h:PE X a t):PE X (.BoolOp op [a] pos) t:=λpins s σ H Q I hw=>BoolOp_one (h pins s σ H Q I hw)
theorem iQ(ha:PE X a ta)(hb:PE X (.BoolOp .And (b::rest) pos) tb):PE X (.BoolOp .And (a::b::rest) pos) (yh ta tb):=by
 intro pins s σ H Q I h;refine BoolOp_and (c6 (ha pins s σ H _ I h) λv s1 hq6=>?_);obtain⟨x,H1,I1,r1,q1⟩:=hq6;obtain⟨c,rfl,q1⟩:=q1;cases r1;refine wpAny_truthy_bool ?_;cases c with
 |true=>exact hb pins s1 σ H1 Q I1 q1
 |false=>exact⟨.bl false,H1,I1,rfl,q1⟩
theorem vO(ha:PE X a ta):PE X (.UnaryOp .Not a pos) (yu ta):=by
 intro pins s σ H Q I h;refine UnaryOp_ (c6 (ha pins s σ H _ I h) λv s1 hq7=>?_);obtain⟨x,H1,I1,r1,q1⟩:=hq7;obtain⟨c,rfl,q1⟩:=q1;cases r1;exact not_of (wpAny_truthy_bool ⟨.bl (!c),H1,I1,rfl,q1⟩)
def tIf (t:TT)(ta tb:TE):TE:=fun σ H Q=>t σ H λc H1=>if c=true then ta σ H1 Q else tb σ H1 Q
theorem fo{c:Expr}(hc:PT X c tA)(ha:PE X a ta)(hb:PE X b tb):PE X (.IfExp c a b pos) (tIf tA ta tb):=by
 intro pins s σ H Q I h;refine wpAny_IfExp (c6 (hc pins s σ H _ I h) λd s1 hq8=>?_);obtain⟨H1,I1,q1⟩:=hq8;cases d with
 |true=>exact ha pins s1 σ H1 Q I1 q1
 |false=>exact hb pins s1 σ H1 Q I1 q1
end
def a9 (K:W.Frag)(H:Hp)(a:Addr)(xs:A9):Prop:=
 Rd H a (.lst xs) \/
  ∃(o:Obj)(a7:Array Value)(n:Nat),K.lookup a=some o/\o.cls=.type "list"/\o.dict=none/\o.data=.seq a7 n/\a7.size<=sizeLine/\Vals xs a7.toList
def i5 (K:W.Frag)(H:Hp)(a:Addr)(xs:A9):Prop:=
 Rd H a (.tup xs) \/
  ∃(o:Obj)(a7:Array Value)(n:Nat),K.lookup a=some o/\o.cls=.type "tuple"/\o.data=.seq a7 n/\a7.size<=sizeLine/\Vals xs a7.toList
def ZN:Value->Option V
 |.none=>some .f6
 |.bool b=>some (.bl b)
 |.int i _=>some (.int i)
 |.str x _=>some (.str x)
 |.bytes b _=>some (.L3 b)
 |.float b _=>some (.Q3 b)
 |.ref a=>some (.ref a)
 |.type n=>some (.ty n)
 |_=>none
theorem RelV.abs{x:V}{u:Value}(r:RelV x u):ZN u=some x:=by
 cases x with
 |f6=>cases r;rfl
 |bl _=>cases r;rfl
 |int _=>obtain⟨t,rfl⟩:=r;rfl
 |str _=>obtain⟨t,rfl⟩:=r;rfl
 |L3 _=>obtain⟨t,rfl⟩:=r;rfl
 |Q3 _=>obtain⟨t,rfl⟩:=r;rfl
 |ref _=>cases r;rfl
 |ty _=>cases r;rfl
theorem RelV.inj{x y:V}{u:Value}(r:RelV x u)(q:RelV y u):x=y:=Fx (r.abs.symm.trans q.abs)
theorem Vals.inj:∀{xs ys:A9}{us:A8},Vals xs us->Vals ys us->xs=ys
 |_,_,_,.nil,.nil=>rfl
 |_,_,_,.cons r t,.cons r' t'=>by rw[r.inj r',Vals.inj t t']
section
variable {X:Cx}{pins:A5}{σ:St}{H:Hp}{s:Shared}{a:Addr}{xs ys:A9}
theorem a9.of{K:W.Frag}(h:H a=some (.lst xs)):a9 K H a xs:=.inl (.inl h)
theorem i5.of{K:W.Frag}(h:H a=some (.tup xs)):i5 K H a xs:=.inl (.inl h)
theorem Inv.list(I:Inv X pins σ H s)(h:a9 X.K H a xs):∃a7:A8,Vals xs a7/\PlainL s.heap a a7.toArray/\xs.length<=sizeLine:=by
 rcases h with h|⟨o,a7,n,hk,hc,hd,hs,hz,r⟩
 ·obtain⟨z,a7,n,r,e⟩:=h.ok I.b9;exact⟨a7,r,⟨_,n,e,rfl,rfl,rfl⟩,z⟩
 ·refine⟨a7.toList,r,⟨o,n,I.C4 a o hk,hc,hd,by simpa using hs⟩,?_⟩;have e:=r.length;simp only[Bk] at e;lia
theorem Inv.tuple(I:Inv X pins σ H s)(h:i5 X.K H a xs):∃a7:A8,Vals xs a7/\IsTup s.heap a a7.toArray/\xs.length<=sizeLine:=by
 rcases h with h|⟨o,a7,n,hk,hc,hs,hz,r⟩
 ·obtain⟨z,a7,r,p⟩:=h.ok I.b9;exact⟨a7,r,p,z⟩
 ·refine⟨a7.toList,r,⟨o,I.C4 a o hk,hc,n,by simpa using hs⟩,?_⟩;have e:=r.length;simp only[Bk] at e;lia
theorem Inv.Jg(I:Inv X pins σ H s)(h:a9 X.K H a xs)(h':a9 X.K H a ys):xs=ys:=by
 obtain⟨a7,r,⟨o,n,e,_,_,d⟩,_⟩:=I.list h;obtain⟨its',r',⟨o',n',e',_,_,d'⟩,_⟩:=I.list h';rw[e] at e';cases e';rw[d] at d';injection d' with d1 _;have:a7=its':=by simpa using congrArg Array.toList d1
 subst this;exact r.inj r'
theorem Inv.Ka(I:Inv X pins σ H s)(h:i5 X.K H a xs)(h':i5 X.K H a ys):xs=ys:=by
 obtain⟨a7,r,⟨o,e,_,n,d⟩,_⟩:=I.tuple h;obtain⟨its',r',⟨o',e',_,n',d'⟩,_⟩:=I.tuple h';rw[e] at e';cases e';rw[d] at d';injection d' with d1 _;have:a7=its':=by simpa using congrArg Array.toList d1
 subst this;exact r.inj r'
end
abbrev Cx.GB(X:Cx)(E:A3):Cx:={X with xe:=E}
abbrev Cx.Pb(X:Cx):Cx:=X.GB λ_ _=>False
theorem Cx.Ok.GB{X:Cx}(ok:X.Ok)(E:A3):(X.GB E).Ok:=
 ⟨ok.mod,ok.kind,ok.glob,ok.blt,ok.above,ok.inj,ok.has,ok.Qv,ok.hd,ok.frames,ok.M8,ok.UB,ok.bs,ok.OE,ok.Mi,ok.LB,ok.JM,ok.Po⟩
theorem Cx.Ok.Ho{X:Cx}{E:A3}(ok:(X.GB E).Ok):X.Ok:=
 ⟨ok.mod,ok.kind,ok.glob,ok.blt,ok.above,ok.inj,ok.has,ok.Qv,ok.hd,ok.frames,ok.M8,ok.UB,ok.bs,ok.OE,ok.Mi,ok.LB,ok.JM,ok.Po⟩
section
variable {X:Cx}{pins:A5}{σ:St}{H:Hp}{s:Shared}{E:A3}
theorem Inv.GB(I:Inv X pins σ H s)(E:A3):Inv (X.GB E) pins σ H s:=⟨I.ok.GB E,I.os,I.bare,I.base,I.loc,I.cell,I.free,I.GL,I.pin,I.b9,I.len⟩
theorem Inv.Ho(I:Inv (X.GB E) pins σ H s):Inv X pins σ H s:=⟨I.ok.Ho,I.os,I.bare,I.base,I.loc,I.cell,I.free,I.GL,I.pin,I.b9,I.len⟩
theorem SP.Ho{D:Ends}{f:Flow}{s':Shared}(h:SP (X.GB E) pins D f s'):SP X pins D f s':=by
 cases f with
 |next=>obtain⟨c5,H',I,q⟩:=h;exact⟨c5,H',I.Ho,q⟩
 |brk=>obtain⟨c5,H',I,q⟩:=h;exact⟨c5,H',I.Ho,q⟩
 |cont=>obtain⟨c5,H',I,q⟩:=h;exact⟨c5,H',I.Ho,q⟩
 |ret u=>obtain⟨v,c5,H',I,r,q⟩:=h;exact⟨v,c5,H',I.Ho,r,q⟩
theorem K6.Pb{st:List Stmt}{t:TS}(h:K6 X.Pb st t):K6 X st t:=λpins s σ H D I hw=>
 Fq (h pins s σ H D (I.GB _) hw) (λ_ _ q=>q.Ho) λ_ _ z=>False.elim z
end
section
variable {X:Cx}{st:Stmt}{rest:List Stmt}{t u:TS}{e:Expr}{te:TE}{pos:Pos}
def NA:TS:=λD σ H=>D.nx σ H
def yH (t u:TS):TS:=λD σ H=>t {D with nx:=u D} σ H
theorem Gb:K6 X [] NA:=λ_ _ σ H _ I h=>wpAny_execs_nil ⟨σ,H,I,h⟩
theorem ag(h1:PS X st t)(h2:K6 X rest u):K6 X (st::rest) (yH t u):=by
 intro pins s σ H D I h;refine wpAny_execs_cons (c6 (h1 pins s σ H {D with nx:=u D} I h) λf s1 q=>?_);cases f with
 |next=>
  obtain⟨c5,H',I',q⟩:=q;exact h2 pins s1 c5 H' D I' q
 |ret v=>exact q
 |brk=>exact q
 |cont=>exact q
theorem ai(h1:PS X st t):K6 X [st] t:=by
 intro pins s σ H D I h;refine wpAny_execs_cons (c6 (h1 pins s σ H D I h) λf s1 q=>?_);cases f with
 |next=>exact wpAny_execs_nil q
 |ret v=>exact q
 |brk=>exact q
 |cont=>exact q
theorem Inv.quiet{pins:A5}{σ:St}{H:Hp}{s:Shared}(I:Inv X pins σ H s):interactive X.env=false:=by simp[interactive,I.ok.kind]
def xK (te:TE):TS:=λD σ H=>te σ H λ_ H1=>D.nx σ H1
theorem bT(he:PE X e te)(hs:swapsWith e none pos.line X.env=pure false:=by rfl):PS X (.Expr e pos) (xK te):=by
 intro pins s σ H D I h;refine wpAny_Expr_any (c6 (he pins s σ H _ I h) λv s1 hq9=>?_) I.quiet hs;obtain⟨x,H1,I1,r1,q1⟩:=hq9;exact⟨σ,H1,I1,q1⟩
def yr (te:TE):TS:=λD σ H=>te σ H D.rt
theorem aJ(he:PE X e te):PS X (.Return (some e) pos) (yr te):=by
 intro pins s σ H D I h;refine wpAny_Return_some (c6 (he pins s σ H _ I h) λv s1 YE=>?_);obtain⟨x,H1,I1,r1,q1⟩:=YE;exact⟨x,σ,H1,I1,r1,q1⟩
def U5 (c:TT)(t u:TS):TS:=λD σ H=>c σ H λb H1=>if b=true then t D σ H1 else u D σ H1
theorem bx{c:Expr}{a b:List Stmt}{tc:TT}(hc:PT X c tc)(ha:K6 X a t)(hb:K6 X b u):PS X (.If c a b pos) (U5 tc t u):=by
 intro pins s σ H D I h;refine wpAny_If (c6 (hc pins s σ H _ I h) λd s1 YD=>?_);obtain⟨H1,I1,q1⟩:=YD;cases d with
 |true=>exact ha pins s1 σ H1 D I1 q1
 |false=>exact hb pins s1 σ H1 D I1 q1
def MY:TS:=λ_ _ _=>False
theorem Hy:PS X st MY:=λ_ _ _ _ _ _ h=>h.elim
end
abbrev TG:=V->St->Hp->(St->Hp->Prop)->Prop
abbrev Qz:=A9->St->Hp->(St->Hp->Prop)->Prop
def PG (X:Cx)(target:Expr)(t:TG):Prop:=
 ∀(pins:A5)(s:Shared)(σ:St)(H:Hp)(v:V)(u:Value)(Q:St->Hp->Prop),Inv X pins σ H s->RelV v u->t v σ H Q ->
  (wq X) (assign target X.env u) (λ_ s'=>∃c5 H',Inv X pins c5 H' s'/\Q c5 H') X.xe s
def TX (X:Cx)(ts:List Expr)(t:Qz):Prop:=
 ∀(pins:A5)(s:Shared)(σ:St)(H:Hp)(vs:A9)(us:A8)(Q:St->Hp->Prop),Inv X pins σ H s->Vals vs us->t vs σ H Q ->
  (wq X) (assignInOrder ((assignEach ts X.env).map (·.2)) us) (λ_ s'=>∃c5 H',Inv X pins c5 H' s'/\Q c5 H') X.xe s
abbrev Nz:=V->V->V->Hp->(Hp->Prop)->Prop
def yO (X:Cx)(t:Nz):Prop:=
 ∀(pins:A5)(s:Shared)(σ:St)(H:Hp)(o i v:V)(ov iv u:Value)(Q:Hp->Prop),Inv X pins σ H s->RelV o ov->RelV i iv->RelV v u->t o i v H Q ->
  (wq X) (setItem ov iv u) (λ_ s'=>∃H',Inv X pins σ H' s'/\Q H') X.xe s
section
variable {X:Cx}{pos:Pos}
def sr (i:Nat):TG:=λv σ H Q=>Q (σ.set i (some v)) H
theorem ao{i:Nat}{x:Str}(hN:X.N.Nodup)(hi:X.N[i]?=some x)(hx:Loc X.env.scope x)(hf:X.fn x=true\/X.env.scope.names.lookup x=some .local:=by first|exact .inl rfl|exact .inr rfl|assumption):PG X (.Name x pos) (sr i):=by
 intro pins s σ H v u Q I r h;exact wpAny_assign_Name (ff I hN hi hx r (λs' I'=>⟨_,H,I',h⟩) hf)
def Zt:Qz:=λvs σ H Q=>vs=[]/\Q σ H
inductive ME(t:TG)(u:Qz)(vs:A9)(σ:St)(H:Hp)(Q:St->Hp->Prop):Prop
 |mk v r:vs=v::r->(t v σ H fun c5 H'=>u r c5 H' Q)->ME t u vs σ H Q
theorem Gr:TX X [] Zt:=by
 intro pins s σ H vs us Q I r h;obtain⟨e,h⟩:=h;subst e;cases r;exact assignInOrder_nil ⟨σ,H,I,h⟩
theorem aD{e:Expr}{es:List Expr}{t:TG}{u:Qz}(h1:PG X e t)(h2:TX X es u)
  (hs:(assignEach (e::es) X.env).map (·.2)=assign e X.env::(assignEach es X.env).map (·.2):=by rfl):TX X (e::es) (ME t u):=by
 intro pins s σ H vs us Q I r h;obtain⟨v,vr,e1,h⟩:=h;subst e1;cases r with
 |cons r rr=>
  rw[hs];refine assignInOrder_cons (c6 (h1 pins s σ H _ _ _ I r h) λ_ s1 YC=>?_);obtain⟨QF,H1,I1,q1⟩:=YC;exact h2 pins s1 QF H1 _ _ Q I1 rr q1
inductive Nu(K:W.Frag)(n:Nat)(t:Qz)(v:V)(σ:St)(H:Hp)(Q:St->Hp->Prop):Prop
 |mk a xs:v=.ref a->i5 K H a xs->xs.length=n->t xs σ H Q->Nu K n t v σ H Q
theorem dM{es:List Expr}{k:Nat}{t:Qz}{n:Nat}(hc:X.calm=true)(h:TX X es t)
  (hn:(assignEach es X.env).length=n:=by rfl)(j9:(assignEach es X.env).findIdx? (·.1)=none:=by rfl):PG X (.Tuple es k pos) (Nu X.K n t):=by
 intro pins s σ H v u Q I r hw;obtain⟨a,xs,e1,hq,hl,hw⟩:=hw;subst e1;cases r;obtain⟨a7,rv,ht,hz⟩:=I.tuple hq;refine assign_Tuple_tuple (I.ok.hd hc) ht (by simp[hn,<- hl,rv.length]) j9 λh' hx=>?_;have I1:Inv X pins σ H {s with heap:=h'}:=I.kept (t':=s.toks) λb o e=>hx b o (Bf (Fv e)) e;exact h pins _ σ H xs _ Q I1 (by simpa using rv) hw
def Zr (to ti:TE)(t:Nz):TG:=λv σ H Q=>to σ H λo H1=>ti σ H1 λi H2=>t o i v H2 λH3=>Q σ H3
theorem qi{o i:Expr}{to ti:TE}{t:Nz}(ho:PE X o to)(hi:PE X i ti)(hs:yO X t)
  (ha:∀v,assign (.Subscript o i pos) X.env v=(do
   let ov <- holding [v] (eval o X.env)
   let iv <- holding [v,ov] (eval i X.env)
   standAt pos
   holding [v,ov,iv] (setItem ov iv v)
   release [v,ov,iv] []):=by intro _; rfl):PG X (.Subscript o i pos) (Zr to ti t):=by
 intro pins s σ H v u Q I r h;rw[ha];refine Fh (Ft (c6 (ho pins s σ H _ I h) λov s1 YB=>?_));obtain⟨x,H1,I1,r1,q1⟩:=YB;refine Fh (Ft (c6 (hi pins s1 σ H1 _ I1 q1) λiv s2 YA=>?_));obtain⟨y,H2,I2,r2,q2⟩:=YA;refine Fh (wpAny_standAt (Fh (Ft (c6 (hs pins s2 σ H2 x y v ov iv u _ I2 r1 r2 r q2) λ_ s3 Yz=>?_))));obtain⟨H3,I3,q3⟩:=Yz;exact wpAny_release ⟨σ,H3,I3,q3⟩
def yI (te:TE)(g:TG):TS:=λD σ H=>te σ H λx H1=>g x σ H1 D.nx
theorem eR{tg e:Expr}{te:TE}{g:TG}(he:PE X e te)(hg:PG X tg g)(hs:swapsWithSole [tg] e pos.line X.env=pure false:=by rfl)(hw:swappedStores [tg] e X.env=pure none:=by rfl)
  (h1:(assignEach [tg] X.env).map (·.2)=[assign tg X.env]:=by rfl):PS X (.Assign [tg] e pos) (yI te g):=by
 intro pins s σ H D I h;refine wpAny_Assign_stores (c6 (he pins s σ H _ I h) λv s1 Yy=>?_) hs hw;obtain⟨x,H1,I1,r1,q1⟩:=Yy;rw[h1];exact c6 (hg pins s1 σ H1 x v _ I1 r1 q1) λ_ s2 q=>q
theorem aA{i:Nat}{x:Str}{e:Expr}{te:TE}{pos':Pos}(hN:X.N.Nodup)(hi:X.N[i]?=some x)(hx:Loc X.env.scope x)(he:PE X e te)(hs:swapsWith e (some (.Name x pos')) pos.line X.env=pure false:=by rfl)(hf:X.fn x=true\/X.env.scope.names.lookup x=some .local:=by first|exact .inl rfl|exact .inr rfl|assumption) :
  PS X (.Assign [.Name x pos'] e pos) (yI te (sr i)):=by
 intro pins s σ H D I h;refine wpAny_Assign_Name (c6 (he pins s σ H _ I h) λv s1 Yx=>?_) hs;obtain⟨y,H1,I1,r1,q1⟩:=Yx;exact ff I1 hN hi hx r1 (λs2 I2=>⟨_,H1,I2,q1⟩) hf
inductive Mp(i j:Nat)(D:Ends)(σ:St)(vs:A9)(H1:Hp):Prop
 |mk v w:vs=[v,w]->D.nx ((σ.set i (some v)).set j (some w)) H1->Mp i j D σ vs H1
def UX (i j:Nat)(ta:TA):TS:=λD σ H=>ta σ H λvs H1=>Mp i j D σ vs H1
theorem oF{i j:Nat}{x y:Str}{a b:Expr}{ta:TA}{px py pt:Pos}{kt k2 Vj}(hc:X.calm=true)(hN:X.N.Nodup)(hi:X.N[i]?=some x)(hj:X.N[j]?=some y)(k5:i≠j)
  (hx:X.env.scope.names.lookup x=some .local)(hy:X.env.scope.names.lookup y=some .local)(ha:PA X [a,b] ta)
  (hw:swappedStores [.Tuple [.Name x px,.Name y py] kt pt] (.Tuple [a,b] k2 Vj) X.env=pure (some [x,y]))
  (hs:swapsWithSole [.Tuple [.Name x px,.Name y py] kt pt] (.Tuple [a,b] k2 Vj) pos.line X.env=pure false:=by rfl) :
  PS X (.Assign [.Tuple [.Name x px,.Name y py] kt pt] (.Tuple [a,b] k2 Vj) pos) (UX i j ta):=by
 intro pins s σ H D I h;rw[exec_Assign_arm];refine Fh (wpAny_standAt ?_);rw[hs];refine Fh (Fi ?_);rw[Fm (by decide)];refine Fh (Tuple_ (c6 (ha _ pins s σ H _ I h) λus s1 Yw=>?_));obtain⟨vs,H1,I1,r1,q1⟩:=Yw;obtain⟨v,w,e1,q1⟩:=q1;subst e1;obtain⟨u1,u2,rfl,rv,D9⟩:∃u1 u2,us=[u1,u2]/\RelV v u1/\RelV w u2:=by
  cases r1 with
  |cons p q=>
   cases q with
   |cons p' q'=>
    cases q';exact⟨_,_,rfl,p,p'⟩
 refine wpAny_newObj_type ?_ (by show 2<=sizeLine;decide);have I2:Inv X pins σ H1 {s1 with heap:=s1.heap.push {cls:=.type "tuple",data:=.seq [u1,u2].toArray}}:=I1.kept (t':=s1.toks) λb o e=>FJ _ e;rw[hw];refine Fh (Fi ?_);show (wq X) (do rule "assign.swapped-stores";let items <- unpackItems (.ref s1.heap.objs.size) 2 none;assignInOrder [λv=>bindName X.env y v,λv=>bindName X.env x v] items.reverse;pure Flow.next) _ _ _;refine Fh (FS (Fh (unpackItems_tuple (items:=#[u1,u2]) (I.ok.hd hc) (IsTup.new s1.heap _) λh' Js=>?_)));have I3:=I2.kept (h':=h') (t':=s1.toks) λb o e=>Js b o (Bf (Fv e)) e;show wpAny _ _ (assignInOrder [λv=>bindName X.env y v,λv=>bindName X.env x v] [u2,u1] >>= λ_=>pure Flow.next) _ _ _;refine Fh (assignInOrder_cons (wpAny_bindName (ff I3 hN hj (.inl hy) D9 (λs2 I4=>?_) (.inr hy))));refine assignInOrder_cons (wpAny_bindName (ff I4 hN hi (.inl hx) rv (λs3 I5=>assignInOrder_nil (Fi ?_)) (.inr hx)));rw[List.set_comm _ _ (FI k5)] at I5;exact⟨_,H1,I5,q1⟩
def vJ (c:TT)(tb:TS):TS:=λD σ H=>∃W:Nat->St->Hp->Prop,(∃m,W m σ H)/\∀m σ H,W m σ H ->
 c σ H λb H1=>if b=true then ∃N:St->Hp->Prop,(∀c5 H',N c5 H'->∃m',m'<m/\W m' c5 H')/\tb {D with nx:=N,ct:=N,bk:=D.nx} σ H1 else D.nx σ H1
theorem cR{c:Expr}{body:List Stmt}{tc:TT}{tb:TS}(hp:PassesOwn (model X.prog X.w) X.A X.env X.xe)(hc:PT X c tc)(hb:K6 X body tb):PS X (.While c body [] pos) (vJ tc tb):=by
 intro pins s σ H D I h;obtain⟨W,⟨m0,w0⟩,turn⟩:=h;refine wpAny_While (codeAny_whileLoop (λn s'=>∃c5 H',Inv X pins c5 H' s'/\W n c5 H') ?_ m0 ⟨σ,H,I,w0⟩);rintro n s1 ⟨QF,H1,I1,w1⟩;refine wpAny_passesOwn hp (c6 (hc pins s1 QF H1 _ I1 (turn n QF H1 w1)) λb s2 Yv=>?_);obtain⟨H2,I2,q2⟩:=Yv;cases b with
 |true=>
  obtain⟨N,hN,q2⟩:=q2;rw[Fn rfl];refine wpAny_passesOwn hp (c6 (hb pins s2 QF H2 _ I2 q2) λf s3 q3=>?_);cases f with
  |next=>
   obtain⟨LP,H3,I3,n3⟩:=q3;obtain⟨m',hm,w3⟩:=hN LP H3 n3;exact⟨m',hm,LP,H3,I3,w3⟩
  |cont=>
   obtain⟨LP,H3,I3,n3⟩:=q3;obtain⟨m',hm,w3⟩:=hN LP H3 n3;exact⟨m',hm,LP,H3,I3,w3⟩
  |brk=>exact q3
  |ret v=>exact q3
 |false=>
  rw[Fm BA];exact wpAny_execs_nil ⟨QF,H2,I2,q2⟩
end
structure It where
 go:Nat->Hp->Prop
 D8:Nat->Hp->V->Hp->Prop
 stop:Nat->Hp->Prop
def GN (X:Cx)(pins:A5)(H:Hp)(b:Addr):Prop:=
 H b=none/\b≠X.env.locals/\b∉X.fs/\(b∈X.ex\/X.s₀.heap.get? b=none)/\(∀x c,X.env.cells.lookup x=some c->c≠b)/\∀p∈X.pn++pins,p.1≠b
theorem Inv.Lo{X:Cx}{pins:A5}{σ:St}{H H':Hp}{s:Shared}{b:Addr}(I:Inv X pins σ H s)(hb:s.heap.objs.size<=b)(hn:H' b=none):GN X pins H' b:=by
 refine⟨hn,DC (Bq I.lt hb),I.Wf hb,.inr (Heap.get?_none_of_le (Bh I.sz hb)),λx c e z=>?_,λp hp z=>?_⟩
 ·obtain⟨v,q⟩:=I.cell x c e;exact absurd (Bq q.lt (by rw[z];exact hb)) (BI _)
 ·exact absurd (Bq (Fv (I.pin p hp).1) (by rw[z];exact hb)) (BI _)
structure Turn(P:Program)(w:World)(K:W.Frag)(tg:Expr)(J:It)(fp:B2)(it:Addr)(tn:Nat->Heap->Prop):Prop where
 mem:it∈fp
 obj:∀i h,tn i h->∀b∈fp,∃o,h.get? b=some o/\∀v,o.data≠.cell v
 keep:∀i h h',tn i h->(∀b∈fp,∀o,h.get? b=some o->h'.get? b=some o)->tn i h'
 item:∀(X:Cx),X.prog=P->X.w=w->X.K=K->X.calm=true->∀(i:Nat)(pins:A5)(s:Shared)(σ:St)(H:Hp)(E:A3),Inv X pins σ H s->(∀b∈fp,GN X pins H b)->tn i s.heap->J.go i H ->
  wpAny (model P w) X.A (pyNext (.ref it)) (λr s1=>∃u,r=some u /\
   wpAny (model P w) X.A (letOwnedTupleGo tg (.ref it) u) (λ_ s2=>∃x H',Inv X pins σ H' s2/\RelV x u/\J.D8 i H x H'/\tn (i+1) s2.heap/\∀b∈fp,H' b=none) E s1) E s
 done:∀(X:Cx),X.prog=P->X.w=w->X.K=K->X.calm=true->∀(i:Nat)(pins:A5)(s:Shared)(σ:St)(H:Hp)(E:A3),Inv X pins σ H s->(∀b∈fp,GN X pins H b)->tn i s.heap->J.stop i H ->
  wpAny (model P w) X.A (pyNext (.ref it)) (λr s1=>r=none/\Inv X pins σ H s1) E s
 self:∀(A:Around)(i:Nat)(s:Shared)(Q:A3)(E:A3),tn i s.heap->Q (.ref it) s->wpAny (model P w) A (pyIter (.ref it)) Q E s
abbrev TI:=St->Hp->(It->Hp->Prop)->Prop
def PIE (X:Cx)(pins:A5)(σ:St)(tg:Expr)(R:It->Hp->Prop)(N7:Value)(s2:Shared):Prop:=
 ∃(it:Addr)(fp:B2)(tn:Nat->Heap->Prop)(J:It)(H':Hp),N7=.ref it/\Inv X pins σ H' s2/\Turn X.prog X.w X.K tg J fp it tn/\tn 0 s2.heap/\(∀b∈fp,GN X pins H' b)/\R J H'
def PI (X:Cx)(tg iter:Expr)(wi:TI):Prop:=
 ∀(pins:A5)(s:Shared)(σ:St)(H:Hp)(R:It->Hp->Prop),Inv X pins σ H s->wi σ H R ->
  (wq X) (eval iter X.env) (λv s1=>(wq X) (pyIter v) (PIE X pins σ tg R) X.xe s1) X.xe s
theorem ou{M:Model}{A:Around}{E:A3}{s:Shared}{tg:Expr}{it:Addr}{u:Value}{o:Obj}{n:String}{vs:Array Value}{Q:Unit->Shared->Prop}(ho:s.heap.get? it=some o)(hc:o.cls=.type n)(hd:o.data=.fields vs)
    (hn:["enumerate","zip","dict_itemiterator","dict_reverseitemiterator","odict_iterator","itertools.zip_longest","itertools.pairwise"].contains n=false)(hQ:Q () s):wpAny M A (letOwnedTupleGo tg (.ref it) u) Q E s:=by
  unfold letOwnedTupleGo;cases tg<;>first
    |exact Fi hQ
    | (cases u <;> first
        |exact Fi hQ
        | (refine Fh (wpAny_load ho ?_)
           rw[hc,hd];show wpAny M A (if (["enumerate","zip","dict_itemiterator","dict_reverseitemiterator","odict_iterator","itertools.zip_longest","itertools.pairwise"].contains n&&vs[0]?==some (rawInt _))=true then _ else _) Q E s;rw[Fm (by intro h;rw[hn,Bool.false_and] at h;cases h)]
           exact Fi hQ))
def O6 (K:W.Frag)(a:Addr):It:=
 ⟨λi H=>∃xs x,a9 K H a xs/\xs[i]?=some x,λi H x H'=>H'=H/\∀xs,a9 K H a xs->xs[i]?=some x,λi H=>∃xs,a9 K H a xs/\xs.length<=i⟩
def Q8 (K:W.Frag)(a:Addr):It:=
 ⟨λi H=>∃xs x,i5 K H a xs/\xs[i]?=some x,λi H x H'=>H'=H/\∀xs,i5 K H a xs->xs[i]?=some x,λi H=>∃xs,i5 K H a xs/\xs.length<=i⟩
def OF (lo:Int)(n:Nat):It:=⟨λi _=>i<n,λi H x H'=>H'=H/\x=.int (lo+i),λi _=>n<=i⟩
theorem pI{P:Program}{w:World}{K:W.Frag}{tg:Expr}(a it:Addr):Turn P w K tg (O6 K a) [it] it (λi h=>h.IsListIter it a i) where
 mem:=by simp
 obj:=λi h st b hb=>by
  have e:b=it:=by simpa using hb
  subst e;obtain⟨o,e,c,d⟩:=st;exact⟨o,e,λv z=>by rw[d] at z;cases z⟩
 keep:=λi h h' st k=>st.at λo e=>k it (by simp) o e
 item:=by
  intro X hP hw hK hc i pins s σ H E I hf st hg;subst hP hw hK;obtain⟨xs,x,hq,hx⟩:=hg;obtain⟨a7,rv,p,hz⟩:=I.list hq;obtain⟨u,hu,ru⟩:=rv.get hx;obtain⟨f0,f1,f2,f3,f4,f5⟩:=hf it (by simp);refine wpAny_pyNext_list_item st p.isList (x:=u) (by simpa using hu) λh' a8 sb=>?_;have I1:Inv X pins σ H {s with heap:=h'}:=I.turned (t':=s.toks) (λb o hb e=>(sb.2 b hb).trans e) f0 f1 f3 f4 f5;obtain⟨o,e,c,d⟩:=id a8;exact⟨u,rfl,ou (s:={s with heap:=h'}) e c d (by decide) ⟨x,H,I1,ru,⟨rfl,λys hy=>by rw[I.Jg hy hq];exact hx⟩,a8,λb hb=>(hf b hb).1⟩⟩
 done:=by
  intro X hP hw hK hc i pins s σ H E I hf st hg;subst hP hw hK;obtain⟨xs,hq,hx⟩:=hg;obtain⟨a7,rv,p,hz⟩:=I.list hq;obtain⟨f0,f1,f2,f3,f4,f5⟩:=hf it (by simp);have hl:=rv.length;exact wpAny_pyNext_list_end (I.ok.hd hc) st p.isList (by simp;lia) λh' eb=>⟨rfl,I.turned (t':=s.toks) (λb o hb e=>eb b o hb e) f0 f1 f3 f4 f5⟩
 self:=λ_ _ _ _ _ st h=>wpAny_pyIter_listiter st h
theorem lX{P:Program}{w:World}{K:W.Frag}{tg:Expr}(a it:Addr):Turn P w K tg (Q8 K a) [it] it (λi h=>h.IsTupleIter it a i) where
 mem:=by simp
 obj:=λi h st b hb=>by
  have e:b=it:=by simpa using hb
  subst e;obtain⟨o,e,c,d⟩:=st;exact⟨o,e,λv z=>by rw[d] at z;cases z⟩
 keep:=λi h h' st k=>st.at λo e=>k it (by simp) o e
 item:=by
  intro X hP hw hK hc i pins s σ H E I hf st hg;subst hP hw hK;obtain⟨xs,x,hq,hx⟩:=hg;obtain⟨a7,rv,p,hz⟩:=I.tuple hq;obtain⟨u,hu,ru⟩:=rv.get hx;obtain⟨f0,f1,f2,f3,f4,f5⟩:=hf it (by simp);refine wpAny_pyNext_tuple_item st (show s.heap.IsTuple a a7.toArray from p) (x:=u) (by simpa using hu) λh' a8 sb=>?_;have I1:Inv X pins σ H {s with heap:=h'}:=I.turned (t':=s.toks) (λb o hb e=>(sb.2 b hb).trans e) f0 f1 f3 f4 f5;obtain⟨o,e,c,d⟩:=id a8;exact⟨u,rfl,ou (s:={s with heap:=h'}) e c d (by decide) ⟨x,H,I1,ru,⟨rfl,λys hy=>by rw[I.Ka hy hq];exact hx⟩,a8,λb hb=>(hf b hb).1⟩⟩
 done:=by
  intro X hP hw hK hc i pins s σ H E I hf st hg;subst hP hw hK;obtain⟨xs,hq,hx⟩:=hg;obtain⟨a7,rv,p,hz⟩:=I.tuple hq;obtain⟨f0,f1,f2,f3,f4,f5⟩:=hf it (by simp);have hl:=rv.length;exact wpAny_pyNext_tuple_end (I.ok.hd hc) st (show s.heap.IsTuple a a7.toArray from p) (by simp;lia) λh' eb=>⟨rfl,I.turned (t':=s.toks) (λb o hb e=>eb b o hb e) f0 f1 f3 f4 f5⟩
 self:=λ_ _ _ _ _ st h=>wpAny_pyIter_tupleiter st h
theorem mF{P:Program}{w:World}{K:PySem.W.Frag}{tg:Expr}(it:Addr)(lo:Int)(n:Nat):Turn P w K tg (OF lo n) [it] it (λi h=>IsRangeIter h it (lo+(i:Nat)*1) ((n:Int)-(i:Nat)) 1) where
 mem:=by simp
 obj:=λi h st b hb=>by
  have e:b=it:=by simpa using hb
  subst e
  exact⟨_,st,λv z=>by
   have z':Data.fields _=Data.cell v:=z
   cases z'⟩
 keep:=λi h h' st k=>k it (by simp) _ st
 item:=by
  intro X hP hw hK hc i pins s σ H E I hf st hg;subst hP hw hK;obtain⟨f0,f1,f2,f3,f4,f5⟩:=hf it (by simp);have W:=Walks.range (prog:=X.prog) (w:=X.w) (I.ok.hd hc) it lo 1 n;refine W.item i s _ _ hg st λv h' tk hv a8 kk=>?_;obtain⟨t,rfl⟩:=hv;have I1:Inv X pins σ H {s with heap:=h',toks:=tk}:=I.turned (λb o hb e=>kk b o (by simpa using hb) e) f0 f1 f3 f4 f5;refine⟨_,rfl,ou (s:={s with heap:=h',toks:=tk}) (n:="range_iterator") a8 rfl rfl (by decide) ⟨.int (lo+i),H,I1,⟨t,?_⟩,⟨rfl,rfl⟩,a8,λb hb=>(hf b hb).1⟩⟩;rw[Int.mul_one]
 done:=by
  intro X hP hw hK hc i pins s σ H E I hf st hg;subst hP hw hK;obtain⟨f0,f1,f2,f3,f4,f5⟩:=hf it (by simp);exact wpAny_pyNext_range_end (I.ok.hd hc) st (by have:n<=i:=hg;lia) λh' eb=>⟨rfl,I.turned (t':=s.toks) (λb o hb e=>eb b o hb e) f0 f1 f3 f4 f5⟩
 self:=λ_ _ _ _ _ st h=>wpAny_pyIter_rangeiter st h
section
variable {X:Cx}{tg:Expr}
inductive LI(K:W.Frag)(R:It->Hp->Prop)(x:V)(H1:Hp):Prop
 |mk a:x=.ref a->(∃xs,a9 K H1 a xs)->R (O6 K a) H1->LI K R x H1
def yA (K:W.Frag)(tl:TE):TI:=fun σ H R=>tl σ H λx H1=>LI K R x H1
inductive Nd(K:W.Frag)(R:It->Hp->Prop)(x:V)(H1:Hp):Prop
 |mk a:x=.ref a->(∃xs,i5 K H1 a xs)->R (Q8 K a) H1->Nd K R x H1
def WQ (K:W.Frag)(tl:TE):TI:=fun σ H R=>tl σ H λx H1=>Nd K R x H1
theorem aR{l:Expr}{tl:TE}(hl:PE X l tl):PI X tg l (yA X.K tl):=by
 intro pins s σ H R I h;refine c6 (hl pins s σ H _ I h) λv s1 Yu=>?_;obtain⟨x,H1,I1,r1,q1⟩:=Yu;obtain⟨a,e,⟨xs,hq⟩,q⟩:=q1;subst e;cases r1;obtain⟨a7,rv,p,hz⟩:=I1.list hq;refine wpAny_pyIter_list p.isList ?_;refine⟨s1.heap.objs.size,[s1.heap.objs.size],_,_,H1,rfl,I1.kept (t':=s1.toks) λb o e=>FJ _ e,pI a _,⟨_,FK _ rfl,rfl,rfl⟩,λb hb=>?_,q⟩;have e:b=s1.heap.objs.size:=by simpa using hb
 subst e;exact I1.Lo (AS _) (I1.b9.fresh (AS _))
theorem sU{l:Expr}{tl:TE}(hl:PE X l tl):PI X tg l (WQ X.K tl):=by
 intro pins s σ H R I h;refine c6 (hl pins s σ H _ I h) λv s1 Yt=>?_;obtain⟨x,H1,I1,r1,q1⟩:=Yt;obtain⟨a,e,⟨xs,hq⟩,q⟩:=q1;subst e;cases r1;obtain⟨a7,rv,p,hz⟩:=I1.tuple hq;refine wpAny_pyIter_tuple (show s1.heap.IsTuple a a7.toArray from p) ?_;refine⟨s1.heap.objs.size,[s1.heap.objs.size],_,_,H1,rfl,I1.kept (t':=s1.toks) λb o e=>FJ _ e,lX a _,⟨_,FK _ rfl,rfl,rfl⟩,λb hb=>?_,q⟩;have e:b=s1.heap.objs.size:=by simpa using hb
 subst e;exact I1.Lo (AS _) (I1.b9.fresh (AS _))
theorem rh{pins:A5}{σ:St}{H:Hp}{s:Shared}{R:It->Hp->Prop}{E:A3}{lo hi:Int}{t u v:Tok}{tk:Nat}(I:Inv X pins σ H s)(h1:-(2^62)<=lo)(h2:lo<2^62)(h3:-(2^62)<=hi)(h4:hi<2^62)
  (q:R (OF lo (hi-lo).toNat) H):(wq X) (pyIter (.ref s.heap.objs.size)) (PIE X pins σ tg R) E {s with heap:=s.heap.push {cls:=.type "range",data:=.fields #[.int lo t,.int hi u,.int 1 v]},toks:=tk}:=by
 refine wpAny_pyIter_range (IsRange.new ..) (small_one h1 h2 h3 h4) ?_;have I1:Inv X pins σ H {s with heap:=s.heap.push {cls:=.type "range",data:=.fields #[.int lo t,.int hi u,.int 1 v]},toks:=tk}:=I.kept λb o e=>FJ _ e
 refine⟨(s.heap.push { cls:=.type "range",data:=.fields #[.int lo t,.int hi u,.int 1 v] }).objs.size,[(s.heap.push { cls:=.type "range",data:=.fields #[.int lo t,.int hi u,.int 1 v] }).objs.size],_,_,H,rfl,
  I1.kept (t':=tk) λb o e=>FJ _ e,mF _ lo (hi-lo).toNat,?_,λb hb=>?_,q⟩
 ·have e1:lo+((0:Nat):Int)*1=lo:=by simp
  have e2:(((hi-lo).toNat:Nat):Int)-((0:Nat):Int)=Builtin.Range.rangeSize lo hi 1:=by rw[rangeSize_one];split<;>lia
  show IsRangeIter _ _ (lo+((0:Nat):Int)*1) ((((hi-lo).toNat:Nat):Int)-((0:Nat):Int)) 1;rw[e1,e2];exact FK _ rfl
 ·have e:b=(s.heap.push {cls:=.type "range",data:=.fields #[.int lo t,.int hi u,.int 1 v]}).objs.size:=by simpa using hb
  subst e;exact I1.Lo (AS _) (I1.b9.fresh (AS _))
inductive Lf(R:It->Hp->Prop)(vs:A9)(H1:Hp):Prop
 |mk (j:Int):vs=[.int j]->-(2^62)<=j->j<2^62->R (OF 0 j.toNat) H1->Lf R vs H1
def yj (ta:TA):TI:=fun σ H R=>ta σ H λvs H1=>Lf R vs H1
theorem aO{a:Expr}{ta:TA}{p pos:Pos}(hg:Gl X "range")(hm:X.mg "range"=none)(ha:PA X [a] ta)(hs:starEach [a] X.env=[(false,eval a X.env)]:=by rfl):PI X tg (.Call (.Name "range" p) [a] [] pos) (yj ta):=by
 intro pins s σ H R I h;refine Call_ (fJ I hg hm boot_range (PyProof.Rows.callWith_type1 (c6 (ha pos pins s σ H _ I h) λus s1 Ys=>?_) hs rfl));obtain⟨vs,H1,I1,r1,q1⟩:=Ys;obtain⟨j,e,q1,q2,q⟩:=q1;subst e;cases r1 with
 |cons r rr=>
  cases rr;obtain⟨t,rfl⟩:=r;exact call_range_1 (rh I1 (by lia) (by lia) q1 q2 (by simpa using q))
def U6 (wi:TI)(g:TG)(tb:TS):TS:=λD σ H=>wi σ H λJ H1=>∃W:Nat->Nat->St->Hp->Prop,(∃m,W 0 m σ H1)/\∀i m σ H,W i m σ H ->
 (J.stop i H/\D.nx σ H)\/(J.go i H/\∃N:St->Hp->Prop,(∀c5 H',N c5 H'->∃m',m'<m/\W (i+1) m' c5 H')/\∀x H',J.D8 i H x H'->g x σ H' fun c8 H2=>tb {D with nx:=N,ct:=N,bk:=D.nx} c8 H2)
def dg (fp:B2)(h:Heap):A5:=fp.filterMap λb=>(h.get? b).map λo=>(b,o)
theorem bh{fp:B2}{h:Heap}{b:Addr}{o:Obj}(hb:b∈fp)(e:h.get? b=some o):(b,o)∈dg fp h:=DX.mpr ⟨b,hb,by rw[e];rfl⟩
theorem ji{fp:B2}{h:Heap}{p:Addr×Obj}(hp:p∈dg fp h):p.1∈fp/\h.get? p.1=some p.2:=by
 obtain⟨b,hb,e⟩:=DX.mp hp;cases q:h.get? b with
 |none=>rw[q] at e;cases e
 |some o=>
  rw[q] at e;have e':(b,o)=p:=Fx e;subst e';exact⟨hb,q⟩
theorem Inv.pinned{pins:A5}{σ:St}{H:Hp}{s:Shared}{fp:B2}(I:Inv X pins σ H s)(hf:∀b∈fp,GN X pins H b)(ho:∀b∈fp,∃o,s.heap.get? b=some o/\∀v,o.data≠.cell v):Inv X (pins++dg fp s.heap) σ H s:=
 I.Hm λp hp=>(Ba.mp hp).elim (λz=>I.pin p (Bc _ z)) λz=>by
  obtain⟨hb,e⟩:=ji z;obtain⟨f0,f1,f2,_⟩:=hf p.1 hb;obtain⟨o,e',d⟩:=ho p.1 hb;rw[e] at e';cases e';exact⟨e,f0,f1,f2,d⟩
theorem Inv.Gm{pins pl:A5}{σ:St}{H:Hp}{s:Shared}(I:Inv X (pins++pl) σ H s):Inv X pins σ H s:=I.Hm λp hp=>I.pin p (Bc _ (Bu _ hp))
theorem bG{iter:Expr}{body:List Stmt}{wi:TI}{g:TG}{tb:TS}{pos:Pos}(hp:PassesOwn (model X.prog X.w) X.A X.env X.xe)(hc:X.calm=true)(hi:PI X tg iter wi)(hg:PG X tg g)(hb:K6 X body tb)
  (hs:∀x,foldedSetIterable iter X.env x=pure x:=by intro _;rfl):PS X (.For tg iter body [] pos) (U6 wi g tb):=by
 intro pins s σ H D I h;refine wpAny_For (c6 (hi pins s σ H _ I h) λv s1 h1=>c6 h1 λN7 s2 h2=>?_) hs;obtain⟨it,fp,tn,J,H2,e,I2,T,c9,f2,W,⟨m0,w0⟩,turn⟩:=h2;subst e;have n4:∀{H':Hp},(∀b∈fp,H' b=none)->∀b∈fp,GN X pins H' b:=λhn b hb=>⟨hn b hb,(f2 b hb).2⟩
 refine codeAny_forLoop_any (λn s'=>∃i c5 H',Inv X pins c5 H' s'/\tn i s'.heap/\(∀b∈fp,H' b=none)/\W i n c5 H') ?_ m0 ⟨0,σ,H2,I2,c9,λb hb=>(f2 b hb).1,w0⟩;rintro n s3 ⟨i,LP,H3,I3,j4,Oq,w3⟩;rcases turn i n LP H3 w3 with ⟨stop,qn⟩|⟨go,N,hN,step⟩
 ·refine wpAny_passesOwn hp (c6 (T.done X rfl rfl rfl hc i pins s3 LP H3 X.xe I3 (n4 Oq) j4 stop) λr s4 Yr=>?_);obtain⟨hr,I4⟩:=Yr;subst hr;exact wpAny_execs_nil ⟨LP,H3,I4,qn⟩
 ·refine wpAny_passesOwn hp (c6 (T.item X rfl rfl rfl hc i pins s3 LP H3 X.xe I3 (n4 Oq) j4 go) λr s4 Yq=>?_);obtain⟨u,hr,h4⟩:=Yq;subst hr;refine wpAny_passesOwn hp (c6 h4 λ_ s5 Yp=>?_);obtain⟨x,H5,I5,r5,y5,r9,Qo⟩:=Yp;have QC:=I5.pinned (n4 Qo) (T.obj _ _ r9);refine wpAny_passesOwn hp (c6 (hg _ s5 LP H5 x u _ QC r5 (step x H5 y5)) λ_ s6 Yo=>?_);obtain⟨J5,H6,I6,q6⟩:=Yo;refine wpAny_passesOwn hp (c6 (hb _ s6 J5 H6 _ I6 q6) λf s7 q7=>?_);have again:∀{M7:St}{H7:Hp},Inv X (pins++dg fp s5.heap) M7 H7 s7->N M7 H7->∃m,m<n/\∃i c5 H',Inv X pins c5 H' s7/\tn i s7.heap/\(∀b∈fp,H' b=none)/\W i m c5 H':=λ{M7 H7} I7 n7=>by
   obtain⟨m',hm,w7⟩:=hN M7 H7 n7;refine⟨m',hm,i+1,M7,H7,I7.Gm,T.keep _ _ _ r9 λb hb o e=>(I7.pin (b,o) (Bc _ (Bc _ (bh hb e)))).1,λb hb=>?_,w7⟩;obtain⟨o,e,d⟩:=T.obj _ _ r9 b hb;exact(I7.pin (b,o) (Bc _ (Bc _ (bh hb e)))).2.1
  cases f with
  |next=>obtain⟨M7,H7,I7,n7⟩:=q7;exact again I7 n7
  |cont=>obtain⟨M7,H7,I7,n7⟩:=q7;exact again I7 n7
  |brk=>obtain⟨M7,H7,I7,q7⟩:=q7;exact⟨M7,H7,I7.Gm,q7⟩
  |ret v=>obtain⟨x7,M7,H7,I7,r7,q7⟩:=q7;exact⟨x7,M7,H7,I7.Gm,r7,q7⟩
end
theorem fh{K:PySem.W.Frag}{a:Addr}{xs:A9}{g:TG}{tb:TS}{D:Ends}{σ:St}{H:Hp}(Pv:Nat->St->Hp->Prop)(h0:Pv 0 σ H)(hl:∀i σ H,i<=xs.length->Pv i σ H->a9 K H a xs)
  (hs:∀i x σ H,xs[i]?=some x->Pv i σ H->g x σ H fun c8 H2=>tb {D with nx:=Pv (i+1),ct:=Pv (i+1),bk:=D.nx} c8 H2)(hd:∀σ H,Pv xs.length σ H->D.nx σ H) :
  ∃W:Nat->Nat->St->Hp->Prop,(∃m,W 0 m σ H)/\∀i m σ H,W i m σ H ->
   ((O6 K a).stop i H/\D.nx σ H)\/((O6 K a).go i H/\∃N:St->Hp->Prop,(∀c5 H',N c5 H'->∃m',m'<m/\W (i+1) m' c5 H')/\∀x H',(O6 K a).D8 i H x H'->g x σ H' fun c8 H2=>tb {D with nx:=N,ct:=N,bk:=D.nx} c8 H2):=by
 refine⟨λi m σ H=>m=xs.length-i/\i<=xs.length/\Pv i σ H,⟨xs.length,by simp,Bj _,h0⟩,?_⟩;rintro i m σ H ⟨rfl,hi,p⟩;have q:=hl i σ H hi p;by_cases d5:i<xs.length
 ·refine .inr ⟨⟨xs,xs[i],q,by simp[d5]⟩,Pv (i+1),fun c5 H' p'=>⟨xs.length-(i+1),by lia,rfl,d5,p'⟩,λx H' y=>?_⟩;obtain⟨e,y⟩:=y;subst e;exact hs i x σ _ (y xs q) p
 ·have e:i=xs.length:=by lia
  subst e;exact .inl ⟨⟨xs,q,AS _⟩,hd σ H p⟩
theorem uS{K:PySem.W.Frag}{a:Addr}{xs:A9}{g:TG}{tb:TS}{D:Ends}{σ:St}{H:Hp}(Pv:Nat->St->Hp->Prop)(h0:Pv 0 σ H)(hl:∀i σ H,i<=xs.length->Pv i σ H->i5 K H a xs)
  (hs:∀i x σ H,xs[i]?=some x->Pv i σ H->g x σ H fun c8 H2=>tb {D with nx:=Pv (i+1),ct:=Pv (i+1),bk:=D.nx} c8 H2)(hd:∀σ H,Pv xs.length σ H->D.nx σ H) :
  ∃W:Nat->Nat->St->Hp->Prop,(∃m,W 0 m σ H)/\∀i m σ H,W i m σ H ->
   ((Q8 K a).stop i H/\D.nx σ H)\/((Q8 K a).go i H/\∃N:St->Hp->Prop,(∀c5 H',N c5 H'->∃m',m'<m/\W (i+1) m' c5 H')/\∀x H',(Q8 K a).D8 i H x H'->g x σ H' fun c8 H2=>tb {D with nx:=N,ct:=N,bk:=D.nx} c8 H2):=by
 refine⟨λi m σ H=>m=xs.length-i/\i<=xs.length/\Pv i σ H,⟨xs.length,by simp,Bj _,h0⟩,?_⟩;rintro i m σ H ⟨rfl,hi,p⟩;have q:=hl i σ H hi p;by_cases d5:i<xs.length
 ·refine .inr ⟨⟨xs,xs[i],q,by simp[d5]⟩,Pv (i+1),fun c5 H' p'=>⟨xs.length-(i+1),by lia,rfl,d5,p'⟩,λx H' y=>?_⟩;obtain⟨e,y⟩:=y;subst e;exact hs i x σ _ (y xs q) p
 ·have e:i=xs.length:=by lia
  subst e;exact .inl ⟨⟨xs,q,AS _⟩,hd σ H p⟩
theorem bF{lo:Int}{n:Nat}{g:TG}{tb:TS}{D:Ends}{σ:St}{H:Hp}(Pv:Nat->St->Hp->Prop)(h0:Pv 0 σ H)
  (hs:∀i σ H,i<n->Pv i σ H->g (.int (lo+i)) σ H fun c8 H2=>tb {D with nx:=Pv (i+1),ct:=Pv (i+1),bk:=D.nx} c8 H2)(hd:∀σ H,Pv n σ H->D.nx σ H) :
  ∃W:Nat->Nat->St->Hp->Prop,(∃m,W 0 m σ H)/\∀i m σ H,W i m σ H ->
   ((OF lo n).stop i H/\D.nx σ H)\/((OF lo n).go i H/\∃N:St->Hp->Prop,(∀c5 H',N c5 H'->∃m',m'<m/\W (i+1) m' c5 H')/\∀x H',(OF lo n).D8 i H x H'->g x σ H' fun c8 H2=>tb {D with nx:=N,ct:=N,bk:=D.nx} c8 H2):=by
 refine⟨λi m σ H=>m=n-i/\i<=n/\Pv i σ H,⟨n,by simp,Bj _,h0⟩,?_⟩;rintro i m σ H ⟨rfl,hi,p⟩;by_cases d5:i<n
 ·refine .inr ⟨d5,Pv (i+1),fun c5 H' p'=>⟨n-(i+1),by lia,rfl,d5,p'⟩,λx H' y=>?_⟩;obtain⟨e,y⟩:=y;subst e y;exact hs i σ _ d5 p
 ·have e:i=n:=by lia
  subst e;exact .inl ⟨AS _,hd σ H p⟩
abbrev R2:=V->V->Hp->VK->Prop
def k9 (X:Cx)(f:Value->Value->Sem Value)(r:R2):Prop:=
 ∀(pins:A5)(s:Shared)(σ:St)(H:Hp)(x y:V)(v u:Value)(Q:VK),Inv X pins σ H s->RelV x v->RelV y u->r x y H Q ->
  (wq X) (f v u) (EP X pins σ Q) X.xe s
def ZP (X:Cx)(f:Value->Sem Value)(r:V->Hp->VK->Prop):Prop:=
 ∀(pins:A5)(s:Shared)(σ:St)(H:Hp)(x:V)(v:Value)(Q:VK),Inv X pins σ H s->RelV x v->r x H Q ->
  (wq X) (f v) (EP X pins σ Q) X.xe s
def bV (X:Cx)(f:Value)(r:A9->Hp->VK->Prop):Prop:=
 ∀(pins:A5)(s:Shared)(σ:St)(H:Hp)(xs:A9)(us:A8)(Q:VK),Inv X pins σ H s->Vals xs us->r xs H Q ->
  (wq X) (call f us) (EP X pins σ Q) X.xe s
def ZQ (X:Cx)(r:V->Hp->(Bool->Hp->Prop)->Prop):Prop:=
 ∀(pins:A5)(s:Shared)(σ:St)(H:Hp)(x:V)(v:Value)(Q:Bool->Hp->Prop),Inv X pins σ H s->RelV x v->r x H Q ->
  (wq X) (truthy v) (TP X pins σ Q) X.xe s
def PD (r:R2)(ta tb:TE):TE:=fun σ H Q=>ta σ H λx H1=>tb σ H1 λy H2=>r x y H2 Q
def tUn (r:V->Hp->VK->Prop)(ta:TE):TE:=fun σ H Q=>ta σ H λx H1=>r x H1 Q
inductive rI(C:Int->Int->Prop)(g:Int->Int->V)(x:V)(y:V)(H:Hp)(Q:VK):Prop
 |mk i j:x=.int i->y=.int j->C i j->Q (g i j) H->rI C g x y H Q
inductive OJ(g:Int->Int->V)(x:V)(y:V)(H:Hp)(Q:VK):Prop
 |mk i j:x=.int i->y=.int j->Q (g i j) H->OJ g x y H Q
inductive rU(g:Int->V)(x:V)(H:Hp)(Q:VK):Prop
 |mk i:x=.int i->Q (g i) H->rU g x H Q
section
variable {X:Cx}{a b c:Expr}{ta tb tc:TE}{pos:Pos}
theorem xE(ha:PE X a ta)(hb:PE X b tb){pins:A5}{s:Shared}{σ:St}{H:Hp}{R:V->V->Hp->Prop}(I:Inv X pins σ H s)
  (h:ta σ H λx H1=>tb σ H1 λy H2=>R x y H2){Q:A3}{f:Value->Value->Sem Value}
  (hf:∀v u s2 x y H2,Inv X pins σ H2 s2->RelV x v->RelV y u->R x y H2->(wq X) (f v u) Q X.xe s2) :
  (wq X) (eval a X.env) (λv b7=>(wq X) (eval b X.env) (λu k6=>(wq X) (f v u) Q X.xe k6) X.xe b7) X.xe s:=by
 refine c6 (ha pins s σ H _ I h) λv s1 Yn=>?_;obtain⟨x,H1,I1,r1,q1⟩:=Yn;refine c6 (hb pins s1 σ H1 _ I1 q1) λu s2 Ym=>?_;obtain⟨y,H2,I2,r2,q2⟩:=Ym;exact hf v u s2 x y H2 I2 r1 r2 q2
theorem aB{op:Operator}{r:R2}(ho:k9 X (binaryOp op) r)(ha:PE X a ta)(hb:PE X b tb):PE X (.BinOp a op b pos) (PD r ta tb):=by
 intro pins s σ H Q I h;exact wpAny_BinOp (xE ha hb I h λv u s2 x y H2 I2 rx ry q=>ho pins s2 σ H2 x y v u Q I2 rx ry q)
theorem qA{op:UnaryOp}{r:V->Hp->VK->Prop}(ho:ZP X (unaryOp op) r)(ha:PE X a ta):PE X (.UnaryOp op a pos) (tUn r ta):=by
 intro pins s σ H Q I h;refine UnaryOp_ (c6 (ha pins s σ H _ I h) λv s1 Yl=>?_);obtain⟨x,H1,I1,r1,q1⟩:=Yl;exact ho pins s1 σ H1 x v Q I1 r1 q1
theorem PF{f:Value->Value->Sem Value}{C:Int->Int->Prop}{g:Int->Int->Int}
  (rule:∀(i j:Int)(t u:Tok)(s:Shared)(Q:A3)(E:A3),C i j->Q (.int (g i j) s.toks) {s with toks:=s.toks+1}->(wq X) (f (.int i t) (.int j u)) Q E s) :
  k9 X f (rI C λi j=>.int (g i j)):=by
 intro pins s σ H x y v u Q I rx ry h;obtain⟨i,j,rfl,rfl,hc,q⟩:=h;obtain⟨t,rfl⟩:=rx;obtain⟨t',rfl⟩:=ry;exact rule i j t t' s _ _ hc ⟨.int (g i j),H,I.tok _,⟨_,rfl⟩,q⟩
theorem yL{f:Value->Value->Sem Value}{g:Int->Int->Int}
  (rule:∀(i j:Int)(t u:Tok)(s:Shared)(Q:A3)(E:A3),Q (.int (g i j) s.toks) {s with toks:=s.toks+1}->(wq X) (f (.int i t) (.int j u)) Q E s) :
  k9 X f (OJ λi j=>.int (g i j)):=by
 intro pins s σ H x y v u Q I rx ry h;obtain⟨i,j,rfl,rfl,q⟩:=h;obtain⟨t,rfl⟩:=rx;obtain⟨t',rfl⟩:=ry;exact rule i j t t' s _ _ ⟨.int (g i j),H,I.tok _,⟨_,rfl⟩,q⟩
theorem xI{f:Value->Value->Sem Value}{g:Int->Int->Bool}
  (rule:∀(i j:Int)(t u:Tok)(s:Shared)(Q:A3)(E:A3),Q (.bool (g i j)) s->(wq X) (f (.int i t) (.int j u)) Q E s) :
  k9 X f (OJ λi j=>.bl (g i j)):=by
 intro pins s σ H x y v u Q I rx ry h;obtain⟨i,j,rfl,rfl,q⟩:=h;obtain⟨t,rfl⟩:=rx;obtain⟨t',rfl⟩:=ry;exact rule i j t t' s _ _ ⟨.bl (g i j),H,I,rfl,q⟩
def ZZ (i j:Int):Prop:=0<j/\j<1073741824
def yD (i j:Int):Prop:=0<=j/\j<=1000000/\i.natAbs<2^64
def NC (i j:Int):Prop:=(-(2^64)<i/\i<2^64)\/(-(2^64)<j/\j<2^64)
theorem NC.ok{i j:Int}(h:NC i j):IntMulOk i j:=by
 rcases h with ⟨h1,h2⟩|⟨h1,h2⟩
 ·exact .of_left (intBits_le_64 h1 h2)
 ·exact .of_right (intBits_le_64 h1 h2)
theorem Gk:k9 X (binaryOp .Add) (OJ λi j=>.int (i+j)):=yL λ_ _ _ _ _ _ _ q=>add_int q
theorem HL:k9 X (binaryOp .Sub) (OJ λi j=>.int (i-j)):=yL λ_ _ _ _ _ _ _ q=>sub_int q
theorem GQ:k9 X (binaryOp .Mult) (rI NC λi j=>.int (i*j)):=PF λ_ _ _ _ _ _ _ hc q=>mul_int q hc.ok
theorem HX:k9 X (binaryOp .FloorDiv) (rI ZZ λi j=>.int (i/j)):=PF λi j _ _ _ _ _ hc q=>by
 have h1:(0:Int)<j:=hc.1;have h2:j<1073741824:=hc.2;exact floordiv_int (by lia) (by rw[EY i (by lia)];exact q) (.inl (PyProof.noPylong_small (by lia)))
theorem GJ:k9 X (binaryOp .Mod) (rI (λ_ j=>0<j) λi j=>.int (i % j)):=PF λi j _ _ _ _ _ hc q=>by
 have h1:(0:Int)<j:=hc;exact mod_int' (by lia) (by rw[Int.fmod_eq_emod_of_nonneg i (by lia)];exact q)
theorem Jy:k9 X (binaryOp .Pow) (rI yD λi j=>.int (i^j.toNat)):=PF λ_ _ _ _ _ _ _ hc q=>pow_int_small hc.1 hc.2.1 hc.2.2 q
theorem LN:k9 X (binaryOp .LShift) (rI yD λi j=>.int (i*2^j.toNat)):=PF λ_ _ _ _ _ _ _ hc q=>lshift_int_small hc.1 hc.2.1 hc.2.2 q
theorem unI{f:Value->Sem Value}{g:Int->Int}
  (rule:∀(i:Int)(t:Tok)(s:Shared)(Q:A3)(E:A3),Q (.int (g i) s.toks) {s with toks:=s.toks+1}->(wq X) (f (.int i t)) Q E s) :
  ZP X f (rU λi=>.int (g i)):=by
 intro pins s σ H x v Q I rx h;obtain⟨i,rfl,q⟩:=h;obtain⟨t,rfl⟩:=rx;exact rule i t s _ _ ⟨.int (g i),H,I.tok _,⟨_,rfl⟩,q⟩
theorem Jt:ZP X (unaryOp .USub) (rU λi=>.int (-i)):=unI λ_ _ _ _ _ q=>neg_int q
end
def ND:V->V->Bool
 |.f6,.f6=>true|.f6,.int _=>true|.int _,.f6=>true|.f6,.bl _=>true|.bl _,.f6=>true|.f6,.str _=>true|.str _,.f6=>true
 |.int _,.int _=>true|.bl _,.bl _=>true|.str _,.str _=>true|.L3 _,.L3 _=>true
 |.int _,.str _=>true|.str _,.int _=>true|.bl _,.str _=>true|.str _,.bl _=>true
 |_,_=>false
def rEq:R2:=λx y H Q=>ND x y=true/\Q (.bl (decide (x=y))) H
def rNe:R2:=λx y H Q=>ND x y=true/\Q (.bl (!decide (x=y))) H
theorem mX{i j:Int}:decide (V.int i=V.int j)=(i==j):=by
 rw[FL];simp
theorem sL{i j:Bool}:decide (V.bl i=V.bl j)=(i==j):=by
 rw[FL];simp
theorem pj{i j:Str}:decide (V.str i=V.str j)=(i==j):=by
 rw[FL];simp
theorem oP{i j:Array UInt8}:decide (V.L3 i=V.L3 j)=(i.toList==j.toList):=by
 rw[FL];cases i;cases j;simp
section
variable {X:Cx}{a b c:Expr}{ta tb tc:TE}{pos:Pos}
theorem aP{pins:A5}{σ:St}{H:Hp}{s:Shared}{Q:VK}{k k':Bool}(I:Inv X pins σ H s)(q:Q (.bl k) H)(e:k=k'):EP X pins σ Q (.bool k') s:=by
 subst e;exact⟨.bl k,H,I,rfl,q⟩
theorem GV:k9 X (compareOp .Eq) rEq:=by
 intro pins s σ H x y v u Q I rx ry h;obtain⟨hs,q⟩:=h;cases x with
 |f6=>
  cases rx;cases y with
  |f6=>cases ry;exact PySem.EqNone.eq_none_none (aP I q (by simp))
  |bl j=>cases ry;exact PySem.EqNone.eq_none_bool (aP I q (by simp))
  |int j=>obtain⟨t',rfl⟩:=ry;exact PySem.EqNone.eq_none_int (aP I q (by simp))
  |str j=>obtain⟨t',rfl⟩:=ry;exact PySem.EqNone.eq_none_str (aP I q (by simp))
  |_=>exact absurd (show false=true from hs) BA
 |bl i=>
  cases rx;cases y with
  |f6=>cases ry;exact PySem.EqNone.eq_bool_none (aP I q (by simp))
  |bl j=>cases ry;exact eq_bool (aP I q sL)
  |str j=>obtain⟨t',rfl⟩:=ry;exact PySem.EqMixed.eq_bool_str (aP I q (by simp))
  |_=>exact absurd (show false=true from hs) BA
 |int i=>
  obtain⟨t,rfl⟩:=rx;cases y with
  |f6=>cases ry;exact PySem.EqNone.eq_int_none (aP I q (by simp))
  |int j=>obtain⟨t',rfl⟩:=ry;exact eq_int (aP I q mX)
  |str j=>obtain⟨t',rfl⟩:=ry;exact PySem.EqMixed.eq_int_str (aP I q (by simp))
  |_=>exact absurd (show false=true from hs) BA
 |str i=>
  obtain⟨t,rfl⟩:=rx;cases y with
  |f6=>cases ry;exact PySem.EqNone.eq_str_none (aP I q (by simp))
  |bl j=>cases ry;exact PySem.EqMixed.eq_str_bool (aP I q (by simp))
  |int j=>obtain⟨t',rfl⟩:=ry;exact PySem.EqMixed.eq_str_int (aP I q (by simp))
  |str j=>obtain⟨t',rfl⟩:=ry;exact eq_str (aP I q pj)
  |_=>exact absurd (show false=true from hs) BA
 |L3 i=>
  obtain⟨t,rfl⟩:=rx;cases y with
  |L3 j=>obtain⟨t',rfl⟩:=ry;exact W.eq_bytes (aP I q oP)
  |_=>exact absurd (show false=true from hs) BA
 |_=>cases y<;>exact absurd (show false=true from hs) BA
theorem KP:k9 X (compareOp .NotEq) rNe:=by
 intro pins s σ H x y v u Q I rx ry h;obtain⟨hs,q⟩:=h;cases x with
 |f6=>
  cases rx;cases y with
  |f6=>cases ry;exact PySem.EqNone.ne_none_none (aP I q (by simp))
  |bl j=>cases ry;exact PySem.EqNone.ne_none_bool (aP I q (by simp))
  |int j=>obtain⟨t',rfl⟩:=ry;exact PySem.EqNone.ne_none_int (aP I q (by simp))
  |str j=>obtain⟨t',rfl⟩:=ry;exact PySem.EqNone.ne_none_str (aP I q (by simp))
  |_=>exact absurd (show false=true from hs) BA
 |bl i=>
  cases rx;cases y with
  |f6=>cases ry;exact PySem.EqNone.ne_bool_none (aP I q (by simp))
  |bl j=>cases ry;exact ne_bool (aP I q (congrArg not sL))
  |str j=>obtain⟨t',rfl⟩:=ry;exact PySem.EqMixed.ne_bool_str (aP I q (by simp))
  |_=>exact absurd (show false=true from hs) BA
 |int i=>
  obtain⟨t,rfl⟩:=rx;cases y with
  |f6=>cases ry;exact PySem.EqNone.ne_int_none (aP I q (by simp))
  |int j=>obtain⟨t',rfl⟩:=ry;exact ne_int (aP I q (congrArg not mX))
  |str j=>obtain⟨t',rfl⟩:=ry;exact PySem.EqMixed.ne_int_str (aP I q (by simp))
  |_=>exact absurd (show false=true from hs) BA
 |str i=>
  obtain⟨t,rfl⟩:=rx;cases y with
  |f6=>cases ry;exact PySem.EqNone.ne_str_none (aP I q (by simp))
  |bl j=>cases ry;exact PySem.EqMixed.ne_str_bool (aP I q (by simp))
  |int j=>obtain⟨t',rfl⟩:=ry;exact PySem.EqMixed.ne_str_int (aP I q (by simp))
  |str j=>obtain⟨t',rfl⟩:=ry;exact ne_str (aP I q (congrArg not pj))
  |_=>exact absurd (show false=true from hs) BA
 |L3 i=>
  obtain⟨t,rfl⟩:=rx;cases y with
  |L3 j=>obtain⟨t',rfl⟩:=ry;exact W.ne_bytes (aP I q (congrArg not oP))
  |_=>exact absurd (show false=true from hs) BA
 |_=>cases y<;>exact absurd (show false=true from hs) BA
theorem IH:k9 X (compareOp .Lt) (OJ λi j=>.bl (decide (i<j))):=xI λ_ _ _ _ _ _ _ q=>lt_int q
theorem MT:k9 X (compareOp .LtE) (OJ λi j=>.bl (decide (i<=j))):=xI λ_ _ _ _ _ _ _ q=>le_int q
theorem HZ:k9 X (compareOp .Gt) (OJ λi j=>.bl (decide (j<i))):=xI λ_ _ _ _ _ _ _ q=>gt_int q
theorem KL:k9 X (compareOp .GtE) (OJ λi j=>.bl (decide (j<=i))):=xI λ_ _ _ _ _ _ _ q=>ge_int q
theorem JT:k9 X (compareOp .Lt) (λx y H Q=>∃i j,x=.str i/\y=.str j/\Q (.bl (decide (i.cps.toList<j.cps.toList))) H):=by
 intro pins s σ H x y v u Q I rx ry h;obtain⟨i,j,rfl,rfl,q⟩:=h;obtain⟨t,rfl⟩:=rx;obtain⟨t',rfl⟩:=ry;exact lt_str (aP I q rfl)
theorem Jn:k9 X (compareOp .Is) (λx y H Q=>y=.f6/\Q (.bl (decide (x=.f6))) H):=by
 intro pins s σ H x y v u Q I rx ry h;obtain⟨rfl,q⟩:=h;cases ry;refine is_none_gen (aP I q ?_);cases x<;>first
  |(cases rx;rfl)
  |(obtain⟨t,rfl⟩:=rx;rfl)
theorem Mf:k9 X (compareOp .IsNot) (λx y H Q=>y=.f6/\Q (.bl (!decide (x=.f6))) H):=by
 intro pins s σ H x y v u Q I rx ry h;obtain⟨rfl,q⟩:=h;cases ry;refine isnot_none_gen (aP I q ?_);cases x<;>first
  |(cases rx;rfl)
  |(obtain⟨t,rfl⟩:=rx;rfl)
theorem aE(b:Expr){op:CmpOp}(h:op≠.In:=by decide)(h2:op≠.NotIn:=by decide):behindInMarks op b=false:=by
 have e1:(op==CmpOp.In)=false:=by cases op<;>first|rfl|exact absurd rfl h
 have e2:(op==CmpOp.NotIn)=false:=by cases op<;>first|rfl|exact absurd rfl h2
 cases b<;>simp[behindInMarks,e1,e2]
theorem dE{op:CmpOp}{r:R2}(ho:k9 X (compareOp op) r)(ha:PE X a ta)(hb:PE X b tb)(hm:behindInMarks op b=false):PE X (.Compare a [op] [b] pos) (PD r ta tb):=by
 intro pins s σ H Q I h;exact wpAny_Compare1 (xE ha hb I h λv u s2 x y H2 I2 rx ry q=>ho pins s2 σ H2 x y v u Q I2 rx ry q) hm
inductive Lp(Q:Bool->Hp->Prop)(x:V)(H':Hp):Prop
 |mk k:x=.bl k->Q k H'->Lp Q x H'
def tU (t:TE):TT:=fun σ H Q=>t σ H λx H'=>Lp Q x H'
theorem ay{op:CmpOp}{r:R2}(ho:k9 X (compareOp op) r)(ha:PE X a ta)(hb:PE X b tb)(hm:behindInMarks op b=false):PT X (.Compare a [op] [b] pos) (tU (PD r ta tb)):=by
 intro pins s σ H Q I h
 refine wpAny_isTrue_Compare1 (c6 (ha pins s σ H _ I h) λv s1 ⟨x,H1,I1,r1,q1⟩=>c6 (hb pins s1 σ H1 _ I1 q1) λu s2 ⟨y,H2,I2,r2,q2⟩ =>
  c6 (ho pins s2 σ H2 x y v u _ I2 r1 r2 q2) λc s3 ⟨z,H3,I3,r3,k,e,q3⟩=>?_) hm
 subst e;cases r3;exact wpAny_truthy_bool ⟨H3,I3,q3⟩
inductive Kz(r':R2)(tc:TE)(σ:St)(Q:VK)(y:V)(z:V)(H3:Hp):Prop
 |mk k:z=.bl k->(if k=true then tc σ H3 λw' H4=>r' y w' H4 Q else Q (.bl false) H3)->Kz r' tc σ Q y z H3
def wV (r r':R2)(ta tb tc:TE):TE:=fun σ H Q=>ta σ H λx H1=>tb σ H1 λy H2=>r x y H2 λz H3=>Kz r' tc σ Q y z H3
theorem sC{op Vm:CmpOp}{r r':R2}(ho:k9 X (compareOp op) r)(M0:k9 X (compareOp Vm) r')(ha:PE X a ta)(hb:PE X b tb)(hc:PE X c tc)
  (hm:lastMarks [op,Vm] [b,c]=false:=by with_unfolding_all rfl):PT X (.Compare a [op,Vm] [b,c] pos) (tU (wV r r' ta tb tc)):=by
 intro pins s σ H Q I h
 refine isTrue_chain (c6 (ha pins s σ H _ I h) λv s1 ⟨x,H1,I1,r1,q1⟩=>test_link (c6 (hb pins s1 σ H1 _ I1 q1) λu s2 ⟨y,H2,I2,r2,q2⟩ =>
  c6 (ho pins s2 σ H2 x y v u _ I2 r1 r2 q2) λd s3 ⟨z,H3,I3,r3,k,e,q3⟩=>?_)) hm
 subst e;cases r3;refine wpAny_truthy_bool ?_;cases k with
 |false=>
  obtain⟨k',e',q'⟩:=q3;cases e';exact ite_ff ⟨H3,I3,q'⟩
 |true=>
  refine ite_tt (test_last (c6 (hc pins s3 σ H3 _ I3 q3) λw' s4 Yk=>?_));obtain⟨z',H4,I4,r4,q4⟩:=Yk;refine c6 (M0 pins s4 σ H4 y z' u w' _ I4 r2 r4 q4) λd' s5 ⟨z2,H5,I5,r5,k2,e2,q5⟩=>?_;subst e2;cases r5;exact wpAny_truthy_bool ⟨H5,I5,q5⟩
def yF (K:W.Frag)(x:V)(H:Hp)(k:Bool):Prop:=
 match x with
 |.f6=>k=false
 |.bl b=>k=b
 |.int i=>k=(i != 0)
 |.str y=>y.length<=sizeLine/\k=((y.length:Int) != 0)
 |.L3 y=>y.size<=sizeLine/\k=((y.size:Int) != 0)
 |.ref p=>(∃xs,a9 K H p xs/\k=!xs.isEmpty)\/(∃xs,i5 K H p xs/\k=!xs.isEmpty)\/∃kvs,H p=some (.dK kvs)/\k=!kvs.isEmpty
 |_=>False
theorem mH{κ:Type}{kvs:List (κ×V)}{vs:List (κ×Value)}(r:KV kvs vs):(!vs.isEmpty)=!kvs.isEmpty:=by
 cases r<;>rfl
theorem gg{xs:A9}{a7:A8}(r:Vals xs a7):(!a7.toArray.isEmpty)=!xs.isEmpty:=by
 cases r<;>simp
theorem HB:(sizeLine:Nat)<2^63:=by rw[sizeLine_eq];decide
theorem Mw:ZQ X (λx H Q=>∃k,yF X.K x H k/\Q k H):=by
 intro pins s σ H x v Q I rx h;obtain⟨k,e,q⟩:=h;have hl:=HB;have hs:sizeLine=16777216:=sizeLine_eq;cases x with
 |f6=>
  cases rx;have e':k=false:=e;subst e';exact truthy_none ⟨H,I,q⟩
 |bl b=>
  cases rx;have e':k=b:=e;subst e';exact wpAny_truthy_bool ⟨H,I,q⟩
 |int i=>
  obtain⟨t,rfl⟩:=rx;have e':k=(i != 0):=e;subst e';exact PySem.P.truthy_int ⟨H,I,q⟩
 |str y=>
  obtain⟨t,rfl⟩:=rx;obtain⟨hy,e'⟩:y.length<=sizeLine/\k=((y.length:Int) != 0):=e;subst e';exact PySem.P.truthy_str (by lia) ⟨H,I.tok _,q⟩
 |L3 y=>
  obtain⟨t,rfl⟩:=rx;obtain⟨hy,e'⟩:y.size<=sizeLine/\k=((y.size:Int) != 0):=e;subst e';exact W.truthy_bytes (by lia) ⟨H,I.tok _,q⟩
 |ref p=>
  cases rx;have e':(∃xs,a9 X.K H p xs/\k=!xs.isEmpty)\/(∃xs,i5 X.K H p xs/\k=!xs.isEmpty)\/∃kvs,H p=some (.dK kvs)/\k=!kvs.isEmpty:=e;rcases e' with ⟨xs,hx,e'⟩|⟨xs,hx,e'⟩|⟨kvs,hx,e'⟩
  ·subst e';obtain⟨a7,r,pl,hz⟩:=I.list hx;have hlen:=r.length;exact wpAny_truthy_list pl.isList (by simp only[Br];lia) ⟨H,I.tok _,by rw[gg r];exact q⟩
  ·subst e';obtain⟨a7,r,pl,hz⟩:=I.tuple hx;have hlen:=r.length;exact truthy_tuple pl (by simp only[Br];lia) ⟨H,I.tok _,by rw[gg r];exact q⟩
  ·subst e';obtain⟨hz,hS,vs,r,m⟩:kvs.length<=sizeLine/\(p==sysModules)=false/\∃vs,KV kvs vs/\s.heap.DictOf (aK X.prog X.w) p vs:=I.b9 p _ hx;have hlen:kvs.length=vs.length:=Paired.length r;exact wpAny_truthy_dict hS m (by lia) ⟨H,I.tok _,by rw[mH r];exact q⟩
 |_=>exact(show False from e).elim
theorem lg(ha:PE X a ta)(he:∀whole,isTrue a X.env whole=(do let v <- whole;standAt a.pos;holding [v] (truthy v))) :
  PT X a (fun σ H Q=>ta σ H λx H'=>∃k,yF X.K x H' k/\Q k H'):=by
 intro pins s σ H Q I h;refine isTrue_plain (c6 (ha pins s σ H _ I h) λv s1 Yj=>?_) (he _);obtain⟨x,H1,I1,r1,q1⟩:=Yj;exact Mw pins s1 σ H1 x v Q I1 r1 q1
theorem Gh:k9 X (binaryOp .Add) (λx y H Q=>∃i j,x=.str i/\y=.str j/\i.length+j.length<=sizeLine/\Q (.str (i++j)) H):=by
 intro pins s σ H x y v u Q I rx ry h;obtain⟨i,j,rfl,rfl,hz,q⟩:=h;obtain⟨t,rfl⟩:=rx;obtain⟨t',rfl⟩:=ry;exact add_str (λt' tk=>⟨.str (i++j),H,I.tok _,⟨_,rfl⟩,q⟩) hz
def rK (b:Expr):Prop:=∀o i,subscripted b false o i=operate [o,i] (getItem o i)
theorem kj(ha:PE X a ta)(hb:PE X b tb)(hs:rK b) :
  PE X (.Subscript a b pos) (PD (λx y H Q=>∃z i c,x=.str z/\y=.int i/\0<=i/\i<2^63/\i<z.length/\z.cps[i.toNat]?=some c/\Q (.str ⟨#[c]⟩) H) ta tb):=by
 intro pins s σ H Q I h;refine Subscript_ (xE ha hb I h λv u s2 x y H2 I2 rx ry q=>?_);obtain⟨z,i,c,rfl,rfl,h0,h63,h1,hc,q⟩:=q;obtain⟨t,rfl⟩:=rx;obtain⟨t',rfl⟩:=ry;have e:seqIndex? i z.length=some i.toNat:=PySem.StrLaws.seqIndex_nonneg h0 h1
 exact tail_any (typeIs_str s2 z t) slot_str_getitem.lookup (getItem_str (c:=c) (by
  have e1:decide (i < -(2^63:Int))=false:=Fp (by lia);have e2:decide (i≥2^63)=false:=Fp (by lia)
  rw[e1,e2] <;> rfl) (by rw[e]; exact hc) ⟨.str ⟨#[c]⟩,H2,I2.tok _,⟨_,rfl⟩,q⟩) (hs _ _)
theorem cD{x:V}{us:A8}(r:Vals [x] us):∃u,us=[u]/\RelV x u:=by
 cases r with
 |cons r1 r2=>cases r2;exact⟨_,rfl,r1⟩
theorem si{x y:V}{us:A8}(r:Vals [x,y] us):∃u w',us=[u,w']/\RelV x u/\RelV y w':=by
 cases r with
 |cons r1 r2=>
  cases r2 with
  |cons r3 r4=>cases r4;exact⟨_,_,rfl,r1,r3⟩
theorem oG(hc:X.calm=true):bV X (.builtin "max") (λxs H Q=>∃i j,xs=[.int i,.int j]/\Q (.int (if j>i then j else i)) H):=by
 intro pins s σ H xs us Q I r h;obtain⟨i,j,rfl,q⟩:=h;obtain⟨u,w',rfl,⟨t,rfl⟩,⟨t',rfl⟩⟩:=si r;refine max_two_ints (I.ok.hd hc) λh' tk k=>⟨_,H,I.kept k,?_,q⟩
 by_cases hj:j>i
 ·rw[Fn hj,Fn hj];exact⟨_,rfl⟩
 ·rw[Fm hj,Fm hj];exact⟨_,rfl⟩
theorem pQ(hc:X.calm=true):bV X (.builtin "min") (λxs H Q=>∃i j,xs=[.int i,.int j]/\Q (.int (if j<i then j else i)) H):=by
 intro pins s σ H xs us Q I r h;obtain⟨i,j,rfl,q⟩:=h;obtain⟨u,w',rfl,⟨t,rfl⟩,⟨t',rfl⟩⟩:=si r;refine min_two_ints (I.ok.hd hc) λh' tk k=>⟨_,H,I.kept k,?_,q⟩
 by_cases hj:j<i
 ·rw[Fn hj,Fn hj];exact⟨_,rfl⟩
 ·rw[Fm hj,Fm hj];exact⟨_,rfl⟩
theorem KC:bV X (.type "int") (λxs H Q=>(∃i,xs=[.int i]/\Q (.int i) H)\/∃k,xs=[.bl k]/\Q (.int (if k then 1 else 0)) H):=by
 intro pins s σ H xs us Q I r h;rcases h with ⟨i,rfl,q⟩|⟨k,rfl,q⟩
 ·obtain⟨u,rfl,t,rfl⟩:=cD r;exact call_int_int ⟨.int i,H,I,⟨_,rfl⟩,q⟩
 ·obtain⟨u,rfl,r1⟩:=cD r;cases r1;exact call_int_bool ⟨.int (if k then 1 else 0),H,I.tok _,⟨_,rfl⟩,q⟩
end
structure Nv(h:Heap)(x dx C:Addr)(mA:Str->Option Value):Prop where
 obj:h.get? x=some (W.instObj C dx)
 ns:h.Ns1 dx mA
 ne:dx≠x
theorem nR{h:Heap}{dx:Addr}{mA:Str->Option Value}(n:h.Ns1 dx mA):∃od,h.get? dx=some od/\∀name,W.lookIn name od=some (mA name):=by
 obtain⟨o,es,ep,ho,hd,hk,_,hm⟩:=n;refine⟨o,ho,λname=>?_⟩;have e:=hm name;unfold nsFind findBy at e;rw[<- Array.find?_toList] at e;unfold W.lookIn;rw[hd];dsimp only;split
 ·rename_i y q;rw[q] at e;exact congrArg some e
 ·rename_i q;rw[q] at e;have a:es.toList.any (·.refKey)=false:=by
   rw[Er];intro y hy;obtain⟨z,t,E1⟩:=hk y (Array.mem_toList_iff.mp hy);simp[DictEntry.refKey,E1]
  have a':¬es.toList.any (·.refKey)=true:=by rw[a];exact BA
  rw[Fm a'];exact congrArg some e
theorem Nv.look{h:Heap}{x dx C:Addr}{mA:Str->Option Value}(I:Nv h x dx C mA):∃od,W.InstAt h x (W.instObj C dx) C (some od)/\∀name,W.lookIn name od=some (mA name):=
 let ⟨od,ho,hl⟩:=nR I.ns
 ⟨od,⟨I.obj,rfl,rfl,ho⟩,hl⟩
theorem IG.some_of{v:V}{o:Option Value}(r:IG (some v) o):∃u,o=some u/\RelV v u:=by
 cases o with
 |none=>exact(show False from r).elim
 |some u=>exact⟨u,rfl,r⟩
section
variable {P:Program}{w:World}{H H':Hp}{h h':Heap}{a C dx:Addr}{fs fs':List (Str×V)}
theorem uy(b9:m6 P w H h)(e:H a=some (.ins C dx fs)):∃mA,Nv h a dx C mA/\(∀f,IG (fs.lookup f) (mA f))/\PySem.Within mA (fs.map (·.1))/\fs.length<=1000/\H dx=some (.own a):=by
 obtain⟨d,z,ne,ob,mA,n,r,q⟩:=(show Gg P w H h a (.ins C dx fs) from b9 a _ e)
 exact⟨mA,⟨ob,n,ne⟩,r,q,z,d⟩
end
structure ZY(K:W.Frag)(C:Addr):Prop where
 pg:W.plainGet K C Str.empty=true
 hd:W.hasDictIn K C=true
 po:W.plainOver K C=true
 sa:W.findIn K (.ref C) "__setattr__"=some (some (.builtin "object.__setattr__"))
theorem ZY.get{K:W.Frag}{C:Addr}(c:ZY K C)(f:Str):W.plainGet K C f=true:=c.pg
section
variable {X:Cx}{pins:A5}{σ:St}{H:Hp}{s:Shared}{A:Around}{E:A3}{Q:A3}{c:Value}{b:Bool}
inductive IE(K:W.Frag)(H:Hp):V->Value->Prop where
 |f6:IE K H .f6 (.type "NoneType")
 |bl (x:Bool):IE K H (.bl x) (.type "bool")
 |int (i:Int):IE K H (.int i) (.type "int")
 |str (x:Str):IE K H (.str x) (.type "str")
 |Q3 (x:UInt64):IE K H (.Q3 x) (.type "float")
 |lst {a:Addr}{xs:A9} (e:H a=some (.lst xs)):IE K H (.ref a) (.type "list")
 |j5 {a:Addr}{o:Obj}{xs:A9} (e:H a=some (.j5 o (.lst xs))):IE K H (.ref a) (.type "list")
 |tup {a:Addr}{xs:A9} (e:H a=some (.tup xs)):IE K H (.ref a) (.type "tuple")
 |dK {a:Addr}{kvs:A6} (e:H a=some (.dK kvs)):IE K H (.ref a) (.type "dict")
 |dT {a:Addr}{kvs:List (List Key×V)} (e:H a=some (.dT kvs)):IE K H (.ref a) (.type "dict")
 |ins {a C dx:Addr}{fs:List (Str×V)} (e:H a=some (.ins C dx fs)) (cl:ZY K C) (ha:W.findIn K (.ref C) "__class__"=some (some (.builtin "object.__class__")))
   (hn:W.specialIn K (.builtin "object.__class__") "__get__"=some (some (.builtin "getset_descriptor.__get__"))) (htk:W.takesIn K (.builtin "object.__class__")=some true)
   (hm:W.mroIn K C (.type "object")=some true):IE K H (.ref a) (.ref C)
theorem oU{x:V}{u t:Value}(I:Inv X pins σ H s)(rx:RelV x u)(ty:IE X.K H x t)(e:W.kitOne X.K t c=some b)(h:∀tk,Q (.bool b) {s with toks:=tk}) :
  wpAny (model X.prog X.w) A (call (.builtin "isinstance") [u,c]) Q E s:=by
 cases ty with
 |f6=>cases (show u=Value.none from rx);exact W.kia_one W.kitx_none I.C4 True.intro e (λz=>nomatch z) h
 |bl y=>cases (show u=Value.bool y from rx);exact W.kia_one W.kitx_bool I.C4 True.intro e (λz=>nomatch z) h
 |int i=>obtain⟨t,q⟩:=(show ∃t,u=Value.int i t from rx);cases q;exact W.kia_one W.kitx_int I.C4 True.intro e (λz=>nomatch z) h
 |str y=>obtain⟨t,q⟩:=(show ∃t,u=Value.str y t from rx);cases q;exact W.kia_one W.kitx_str I.C4 True.intro e (λz=>nomatch z) h
 |Q3 y=>obtain⟨t,q⟩:=(show ∃t,u=Value.float y t from rx);cases q;exact W.kia_one W.kitx_float I.C4 True.intro e (λz=>nomatch z) h
 |@lst a xs ea=>
  cases (show u=Value.ref a from rx);obtain⟨_,_,n,_,h1⟩:=(show Gg X.prog X.w H s.heap a (.lst xs) from I.b9 a _ ea)
  exact W.kia_one W.kitx_list I.C4 ⟨_,h1,rfl⟩ e (λz=>nomatch z) h
 |@j5 a ob xs ea=>
  cases (show u=Value.ref a from rx);obtain⟨_,_,_,n,_,h1⟩:=(show Gg X.prog X.w H s.heap a (.j5 ob (.lst xs)) from I.b9 a _ ea)
  exact W.kia_one W.kitx_list I.C4 ⟨_,h1,rfl⟩ e (λz=>nomatch z) h
 |@tup a xs ea=>
  cases (show u=Value.ref a from rx);obtain⟨_,_,_,p⟩:=(show Gg X.prog X.w H s.heap a (.tup xs) from I.b9 a _ ea)
  obtain⟨o,h1,h2,_⟩:=p;exact W.kia_one W.kitx_tuple I.C4 ⟨o,h1,h2⟩ e (λz=>nomatch z) h
 |@dK a kvs ea=>
  cases (show u=Value.ref a from rx);obtain⟨_,_,vs,_,p⟩:=(show Gg X.prog X.w H s.heap a (.dK kvs) from I.b9 a _ ea)
  obtain⟨o,es,ep,h1,h2,_⟩:=p;exact W.kia_one W.kitx_dict I.C4 ⟨o,h1,h2.1⟩ e (λz=>nomatch z) h
 |@dT a kvs ea=>
  cases (show u=Value.ref a from rx);obtain⟨_,_,xs,_,o,es,ep,h1,h2,_⟩:=(show Gg X.prog X.w H s.heap a (.dT kvs) from I.b9 a _ ea)
  exact W.kia_one W.kitx_dict I.C4 ⟨o,h1,h2.1⟩ e (λz=>nomatch z) h
 |@ins a C dx fs ea cl ha hn htk hm=>
  cases (show u=Value.ref a from rx);obtain⟨mA,O,_⟩:=uy I.b9 ea;obtain⟨od,J,_⟩:=O.look;exact W.kia_one (W.kitx_own (cl.get _) cl.hd ha hn htk hm) I.C4 J e (λz=>nomatch z) h
end
structure Hu(k:Nat)(A:Around):Prop where
 hd:A.handled=none
 dp:A.depth+3*k+5<recursionLimit
 un:A.units+16*k+200<cLine
theorem Hu.mono{j k:Nat}{A:Around}(r:Hu k A)(h:j<=k):Hu j A:=⟨r.hd,by have:=r.dp;lia,by have:=r.un;lia⟩
theorem Hu.deeper{k:Nat}{A:Around}(r:Hu (k+1) A)(env:Env):Hu k (A.deeper env):=
 ⟨r.hd,by have:=r.dp;show A.depth+1+3*k+5<_;lia,by have:=r.un;show A.units+3+16*k+200<_;lia⟩
theorem Hu.depth{k:Nat}{A:Around}(r:Hu k A):A.depth<recursionLimit:=by have:=r.dp;lia
theorem Hu.units{k:Nat}{A:Around}(r:Hu k A):A.units+64<cLine:=by have:=r.un;lia
def KH:TA:=λ_ H Q=>Q [] H
def iE (ta:TE)(tr:TA):TA:=fun σ H Q=>ta σ H λx H1=>tr σ H1 λxs H2=>Q (x::xs) H2
section
variable {X:Cx}{e:Expr}{es:List Expr}{te:TE}{t:TA}{pos:Pos}
theorem Ge:PA X [] KH:=λ_ _ _ _ H Q I h=>Calls.spliced_nil ⟨[],H,I,.nil,h⟩
theorem FU(ha:PE X e te)(hr:PA X es t)(hs:starEach (e::es) X.env=(false,eval e X.env)::starEach es X.env:=by rfl):PA X (e::es) (iE te t):=by
 intro pos pins s σ H Q I h;rw[hs];show wpAny _ _ (spliced ((false,eval e X.env)::backTo pos (starEach es X.env))) _ _ s;refine Calls.spliced_cons (c6 (ha pins s σ H _ I h) λu s1 Yi=>?_);obtain⟨x,H1,I1,r1,q1⟩:=Yi;refine c6 (hr pos pins s1 σ H1 _ I1 q1) λus s2 Yh=>?_;obtain⟨xs,H2,I2,r2,q2⟩:=Yh;exact⟨x::xs,H2,I2,.cons r1 r2,q2⟩
def yC (t:TA):TE:=fun σ H Q=>t σ H λxs H1=>xs.length<=sizeLine/\∀p,H1 p=none->Q (.ref p) (upd H1 p (.tup xs))
def yG (t:TA):TE:=fun σ H Q=>t σ H λxs H1=>xs.length<=sizeLine/\∀p,H1 p=none->Q (.ref p) (upd H1 p (.lst xs))
theorem aN{x1}(h:PA X es t):PE X (.Tuple es x1 pos) (yC t):=by
 intro pins s σ H Q I hq;refine wpAny_Tuple_spliced (c6 (h pos pins s σ H _ I hq) λus s1 Yg=>?_);obtain⟨xs,H1,I1,r,z,q⟩:=Yg;refine⟨by rw[<- r.length];exact z,?_⟩;have hf:H1 s1.heap.objs.size=none:=I1.b9.fresh (AS _);refine⟨.ref s1.heap.objs.size,upd H1 s1.heap.objs.size (.tup xs),I1.laid (t':=s1.toks) (λb u e=>FJ _ e) (AS _) ?_,rfl,q _ hf⟩;exact⟨z,us,r,⟨_,FK _ rfl,rfl,_,rfl⟩⟩
theorem bj(h:PA X es t):PE X (.List es pos) (yG t):=by
 intro pins s σ H Q I hq;refine wpAny_List_spliced (c6 (h pos pins s σ H _ I hq) λus s1 Yf=>?_);obtain⟨xs,H1,I1,r,z,q⟩:=Yf;refine⟨by rw[<- r.length];exact z,?_⟩;have hf:H1 s1.heap.objs.size=none:=I1.b9.fresh (AS _);refine⟨.ref s1.heap.objs.size,upd H1 s1.heap.objs.size (.lst xs),I1.laid (t':=s1.toks) (λb u e=>FJ _ e) (AS _) ?_,rfl,q _ hf⟩;exact⟨z,us,0,r,FK _ rfl⟩
end
abbrev Sp:=A9->Hp->VK->XK->Prop
abbrev M6:=List Env->Hp->Shared->XK->A3
structure Nm(P:Program)(w:World)(K:W.Frag)(mg:Str->Option Value)(base:Heap)(A:Around)(outer:List Env)(s:Shared)(H:Hp):Prop where
 frames:A.frames=some outer
 mod:Mod K mg base
 bs:∀b o,base.get? b=some o->s.heap.get? b=some o/\H b=none
 OE:base.objs.size<=s.heap.objs.size
 JM:s.heap.FunFrames base outer
 Po:∀b∈Jd outer,H b=none
 b9:m6 P w H s.heap
 bare:AllBare s.gens
def CE (outer:List Env)(P:Program)(w:World)(H:Hp)(s:Shared)(Q:VK)(u:Value)(s':Shared):Prop:=
 ∃v H',s'.os=s.os/\AllBare s'.gens/\Un (Jd outer) [] H H' s.heap s'.heap/\m6 P w H' s'.heap/\RelV v u/\Q v H'
def CR (CX:M6)(outer:List Env)(P:Program)(w:World)(H:Hp)(s:Shared)(Q:VK)(E:XK)(r:Result)(s':Shared):Prop:=
 match r with
 |.ok (.ret u)=>CE outer P w H s Q u s'
 |.ok _=>False
 |.error e=>CX outer H s E e s'
structure Gf(P:Program)(w:World)(K:W.Frag)(mg:Str->Option Value)(base:Heap)(CX:M6)(k:Nat)(f:Addr)(fd:FuncData)(ps:List Str)(sp:Sp):Prop where
 len:∀vs H Q E,sp vs H Q E->vs.length=ps.length
 run:∀(A:Around)(outer:List Env)(s:Shared)(H:Hp)(args:Args)(us:A8)(vs:A9)(Q:VK)(E:XK),Hu k A->Nm P w K mg base A outer s H->BindsTo s fd args (ps.zip us)->Vals vs us->sp vs H Q E ->
  codeAny (model P w) A (.call (.ref f) args) (CR CX outer P w H s Q E) s
theorem Gf.mono{P:Program}{w:World}{K:W.Frag}{mg:Str->Option Value}{base:Heap}{CX:M6}{j k:Nat}{f:Addr}{fd:FuncData}{ps:List Str}{sp:Sp}(F:Gf P w K mg base CX j f fd ps sp)(h:j<=k) :
  Gf P w K mg base CX k f fd ps sp:=⟨F.len,λA outer s H args us vs Q E hr=>F.run A outer s H args us vs Q E (hr.mono h)⟩
section
variable {X:Cx}{pins:A5}{σ:St}{H:Hp}{s s':Shared}
theorem Inv.ZE(I:Inv X pins σ H s):Nm X.prog X.w X.K X.mg X.base X.A X.stack s H:=
 ⟨I.ok.frames,I.ok.mod,I.bs,Bh I.ok.OE I.sz,I.stack,I.HQ,I.b9,I.bare⟩
theorem Inv.after{Q:VK}{u:Value}(I:Inv X pins σ H s)(h:CE X.stack X.prog X.w H s Q u s'):EP X pins σ Q u s':=by
 obtain⟨v,H',os,bare,un,b9,r,q⟩:=h;obtain⟨hh,g,d,t,Vl⟩:=s';obtain rfl:Vl=s.os:=os;exact⟨v,H',I.call (h':=hh) (g':=g) (d':=d) (t':=t) (ch:=[]) un b9 bare (λb z=>absurd z (by simp)),r,q⟩
end
def uo (sp:Sp)(Pq:A9)(E:XK)(t:TA):TE:=fun σ H Q=>t σ H λvs H1=>sp (vs++Pq) H1 Q E
def Binds(K:W.Frag)(fd:FuncData)(ps:List Str)(ds:A8):Prop:=
 ∀(s:Shared)(us:A8),K.In s.heap->(us++ds).length=ps.length->BindsTo s fd ⟨us,[]⟩ (ps.zip (us++ds))
theorem Binds.all{K:W.Frag}{fd:FuncData}{ps:List Str}(h:∀us:A8,us.length=ps.length->bindArgs fd ⟨us,[]⟩=pure (ps.zip us)):Binds K fd ps []:=λs us _ hl=>by
 rw[BJ] at hl ⊢;exact .of_eq (h us hl)
def nZ (CX:M6)(X:Cx)(E:XK):Prop:=∀(pins:A5)(σ:St)(H:Hp)(s:Shared)(e:Value)(s':Shared),Inv X pins σ H s->CX X.stack H s E e s'->X.xe e s'
section
variable {X:Cx}{CX:M6}{k:Nat}{f C:Addr}{fd:FuncData}{ps:List Str}{sp:Sp}{Pq:A9}{ds:A8}{E:XK}{x m:Str}{p pos apos:Pos}{e o:Expr}{es:List Expr}{ta:TE}{t:TA}
theorem vS{pins:A5}{σ:St}{H:Hp}{s:Shared}{Q:VK}{us:A8}{vs:A9}(F:Gf X.prog X.w X.K X.mg X.base CX k f fd ps sp)(hr:Hu k X.A)(hb:Binds X.K fd ps ds)(hd:Vals Pq ds)(hx:nZ CX X E)
  (I:Inv X pins σ H s)(r:Vals vs us)(h:sp (vs++Pq) H Q E):(wq X) (call (.ref f) us) (EP X pins σ Q) X.xe s:=by
 have r2:Vals (vs++Pq) (us++ds):=r.append hd;have hl:(us++ds).length=ps.length:=by rw[<- r2.length];exact F.len _ _ _ _ h
 refine wpAny_call (codeAny_mono (F.run X.A X.stack s H ⟨us,[]⟩ (us++ds) (vs++Pq) Q E hr I.ZE (hb s us I.C4 hl) r2 h) λr s' hq=>?_);cases r with
 |error e=>exact hx pins σ H s e s' I hq
 |ok fl=>
  cases fl with
  |ret u=>exact I.after hq
  |next=>exact False.elim hq
  |brk=>exact False.elim hq
  |cont=>exact False.elim hq
theorem pN(F:Gf X.prog X.w X.K X.mg X.base CX k f fd ps sp)(hr:Hu k X.A)(hg:Gl X x)(hm:X.mg x=some (.ref f))(hk:W.keepIn X.K (.ref f)=true)(hb:Binds X.K fd ps ds)(hd:Vals Pq ds)(hx:nZ CX X E)
  (ha:PA X (e::es) t)(OT:(x==("__debug__":Str))=false:=by decide)(he:starEach (e::es) X.env=(false,eval e X.env)::starEach es X.env:=by rfl)(E8:(backTo pos (starEach es X.env)).any (·.1)=false:=by rfl) :
  PE X (.Call (.Name x p) (e::es) [] pos) (uo sp Pq E t):=by
 intro pins s σ H Q I h;refine wpAny_Call_Name_kw (pL I hg hm ?_ OT);refine W.callWith_K (h₀:=X.base) I.ok.mod.WI hk (c6 (ha pos pins s σ H _ I h) λus s1 Ye=>?_) he E8;obtain⟨vs,H1,I1,r,q⟩:=Ye;refine⟨I1.C4,?_⟩;exact vS F hr hb hd hx I1 r q
end
def PK (X:Cx)(RD:List Keyword)(t:TA):Prop:=
 ∀(pos:Pos)(pins:A5)(s:Shared)(σ:St)(H:Hp)(Q:A9->Hp->Prop),Inv X pins σ H s->t σ H Q->(wq X) (evalAll ((backToKw pos (keywordEach RD X.env)).map (·.2))) (AP X pins σ Q) X.xe s
section
variable {X:Cx}{CX:M6}{k:Nat}{f C:Addr}{fd:FuncData}{ps ks:List Str}{sp:Sp}{E:XK}{x m:Str}{p pos apos kpos:Pos}{e o:Expr}{es:List Expr}{RD:List Keyword}{te ta:TE}{t tk:TA}{nm:Option Str}
theorem Mq:PK X [] KH:=λ_ _ _ _ H Q I h=>wpAny_evalAll_nil ⟨[],H,I,.nil,h⟩
theorem tY(ha:PE X e te)(hr:PK X RD t):PK X (⟨nm,e,kpos⟩::RD) (iE te t):=by
 intro pos pins s σ H Q I h;show wpAny _ _ (evalAll ((do let v <- eval e X.env;standAt pos;pure v)::(backToKw pos (keywordEach RD X.env)).map (·.2))) _ _ s;refine wpAny_evalAll_cons (Fh (c6 (ha pins s σ H _ I h) λu s1 Yd=>?_));obtain⟨x,H1,I1,r1,q1⟩:=Yd;refine Fh (wpAny_standAt (Fi ?_));refine c6 (hr pos pins s1 σ H1 _ I1 q1) λus s2 Yc=>?_;obtain⟨xs,H2,I2,r2,q2⟩:=Yc;exact⟨x::xs,H2,I2,.cons r1 r2,q2⟩
variable {g:A8->A8->A8}{gV:A9->A9->A9}
end
structure FX(N P:List Str)(sc:Scope):Prop where
 kind:sc.kind=.function
 co:sc.isCoroutine=false
 gen:sc.isGenerator=false
 nd:N.Nodup
 pre:N.take P.length=P
 par:∀x∈P,sc.names.lookup x=some .local\/sc.names.lookup x=some .cell
 Nb:∀y∈sc.names,y.2≠.free
theorem iO{kindOf:Str->Option NameKind}{x:Str}:∀{binds:List (Str×Value)}{m:Str->Option Value},(∀v,(x,v)∉binds)->bindL kindOf binds m x=m x
 |[],_,_=>rfl
 |(n,v)::r,m,h=>by
  unfold bindL;rw[iO λw hw=>h w (Bg _ hw)];split
  ·have:x≠n:=by rintro rfl;exact h v AZ
   simp[this]
  ·rfl
theorem iJ{kindOf:Str->Option NameKind}{x:Str}:∀{binds:List (Str×Value)}{m:Str->Option Value},(∀v,(x,v)∉binds)->bindC kindOf binds m x=m x
 |[],_,_=>rfl
 |(n,v)::r,m,h=>by
  unfold bindC;rw[iJ λw hw=>h w (Bg _ hw)];split
  ·rfl
  ·have:x≠n:=by rintro rfl;exact h v AZ
   simp[this]
theorem iP{kindOf:Str->Option NameKind}{x:Str}{v:Value}:∀{P:List Str}{vs:A8}{i:Nat}{m:Str->Option Value},P.Nodup->P[i]?=some x->vs[i]?=some v->kindOf x=some .local ->
  bindL kindOf (P.zip vs) m x=some v
 |[],_,_,_,_,h,_,_=>by simp at h
 |_::_,[],_,_,_,_,h,_=>by simp at h
 |p::P,w::vs,0,m,nd,h1,h2,hk=>by
  simp at h1 h2;subst h1;subst h2;show bindL kindOf ((p,w)::P.zip vs) m p=_;unfold bindL;rw[iO λv hv=>(BN.mp nd).1 (Es hv).1,Fn hk];simp
 |p::P,w::vs,i+1,m,nd,h1,h2,hk=>by
  show bindL kindOf ((p,w)::P.zip vs) m x=_;unfold bindL;exact iP (i:=i) (BN.mp nd).2 (by simpa using h1) (by simpa using h2) hk
theorem iS{kindOf:Str->Option NameKind}{x:Str}{v:Value}:∀{P:List Str}{vs:A8}{i:Nat}{m:Str->Option Value},P.Nodup->P[i]?=some x->vs[i]?=some v->kindOf x≠some .local ->
  bindC kindOf (P.zip vs) m x=some v
 |[],_,_,_,_,h,_,_=>by simp at h
 |_::_,[],_,_,_,_,h,_=>by simp at h
 |p::P,w::vs,0,m,nd,h1,h2,hk=>by
  simp at h1 h2;subst h1;subst h2;show bindC kindOf ((p,w)::P.zip vs) m p=_;unfold bindC;rw[iJ λv hv=>(BN.mp nd).1 (Es hv).1,Fm hk];simp
 |p::P,w::vs,i+1,m,nd,h1,h2,hk=>by
  show bindC kindOf ((p,w)::P.zip vs) m x=_;unfold bindC;exact iS (i:=i) (BN.mp nd).2 (by simpa using h1) (by simpa using h2) hk
def start(N:List Str)(vs:A9):St:=vs.map some++List.replicate (N.length-vs.length) none
def cj (CX:M6)(P:Program)(w:World)(K:W.Frag)(mg:Str->Option Value)(base:Heap)(N:List Str)(qual:Str)(scope:Scope)(f:Addr)(cd:Value)(A:Around)(outer:List Env)(s:Shared)(H:Hp)(E:XK):Cx where
 prog:=P
 w:=w
 K:=K
 mg:=mg
 base:=base
 A:=A.deeper (envOfC qual scope s.heap.objs.size f cd)
 N:=N
 s₀:=s
 H₀:=H
 env:=envOfC qual scope s.heap.objs.size f cd
 outer:=outer
 stack:=envOfC qual scope s.heap.objs.size f cd::outer
 ex:=[]
 calm:=A.handled.isNone
 fn:=λ_=>true
 pn:=[]
 xe:=λe s'=>wpAny (model P w) (A.deeper (envOfC qual scope s.heap.objs.size f cd)) (leaving (envOfC qual scope s.heap.objs.size f cd) e) (λ_ Rk=>CX outer H s E e Rk) (λe' Rk=>CX outer H s E e' Rk) s'
theorem kB{sc:Scope}{n:Nat}{x:Str}(h:sc.names.lookup x=some .cell):∃c,(cellsFrom n sc.names []).lookup x=some c:=by
 have q:=W.cellsFrom_some sc.names n [] (.inl h);exact Dh.mp q
theorem qc{CX:M6}{P:Program}{w:World}{K:W.Frag}{mg:Str->Option Value}{base:Heap}{N ps:List Str}{qual:Str}{scope:Scope}{f:Addr}{cd:Value}{A:Around}{outer:List Env}{s s1:Shared}{H:Hp}{E:XK}{us:A8}{vs:A9}
  (S:FX N ps scope)(e0:Nm P w K mg base A outer s H)(hl:vs.length=ps.length)(r:Vals vs us)
  (x:InCallC s s.heap.objs.size (bindL (envOfC qual scope s.heap.objs.size f cd).kindOf (ps.zip us) λ_=>none) (cellsFrom (s.heap.objs.size+1) scope.names []) (bindC (envOfC qual scope s.heap.objs.size f cd).kindOf (ps.zip us) λ_=>none) s1) :
  Inv (cj CX P w K mg base N qual scope f cd A outer s H E) [] (start N vs) H s1:=by
 have E8:ps.length<=N.length:=by have:=congrArg List.length S.pre;rw[Bs] at this;lia
 obtain⟨h1,tk,rfl,hk⟩:=x.done;have Rx:∀b:Addr,b∉(cj CX P w K mg base N qual scope f cd A outer s H E).ex:=λb z=>absurd (show b∈([]:B2) from z) (by simp)
 refine⟨⟨e0.mod,S.kind,rfl,rfl,AS _,λy z c h1 h2=>?_,λy hy=>?_,λy c _ h=>?_,λh=>EZ.mp h,Around.frames_deeper e0.frames,.inr ⟨rfl,rfl⟩,λb z=>absurd z (Rx b),e0.bs,e0.OE,λb _ _=>Rx b,λb z=>absurd z (Rx b),e0.JM,e0.Po⟩,
  rfl,e0.bare,Un.kept hk,⟨_,x.toInCall.ns,λi y v h1 h2 h3=>?_⟩,λy c h=>⟨_,x.cell y c h⟩,e0.b9.fresh (AS _),λy c h=>?_,λp hp=>absurd (show p∈([]:A5) from hp) (by simp),e0.b9.kept hk,?_⟩
 ·exact name_of_addr x.apart (PySem.mem_of_lookup h1) (PySem.mem_of_lookup h2)
 ·have hy:scope.names.lookup y=some .cell\/scope.names.lookup y=some .free:=hy;rcases hy with hy|hy
  ·exact kB hy
  ·exact absurd rfl (S.Nb _ (PySem.mem_of_lookup hy))
 ·exact BS (x.above y c (PySem.mem_of_lookup h))
 ·have hi:i<vs.length:=by
   unfold start at h2;by_cases hi:i<vs.length
   ·exact hi
   ·rw[CF (by simpa using hi)] at h2;rw[Et] at h2;split at h2<;>cases h2
  have ha:vs[i]?=some v:=by
   unfold start at h2;rw[CG (by simpa using hi),Bo] at h2;cases e:vs[i]? with
   |none=>rw[e] at h2;cases h2
   |some a=>rw[e] at h2;cases h2;rfl
  obtain⟨u,hu,rv⟩:=r.get ha;have hp:ps[i]?=some y:=by
   rw[<- S.pre,Cu (by lia)];exact h1
  have ndP:ps.Nodup:=by rw[<- S.pre];exact S.nd.sublist (List.take_sublist _ _)
  refine⟨u,rv,?_⟩;rcases S.par y (Bp hp) with k|k
  ·exact .inl ⟨k,iP ndP hp hu k⟩
  ·obtain⟨c,e⟩:=kB (n:=s.heap.objs.size+1) k;refine .inr ⟨.inl k,c,e,?_⟩;have q:=x.cell y c e;rw[iS ndP hp hu (by show scope.names.lookup y≠_;rw[k];decide)] at q;exact q
 ·exact e0.b9.fresh (BS (x.above y c (PySem.mem_of_lookup h)))
 ·unfold start;show _=N.length;rw[AV,AU,DE];lia
theorem wz{CX:M6}{P:Program}{w:World}{K:W.Frag}{mg:Str->Option Value}{base:Heap}{k:Nat}{f:Addr}{name qual:Str}{params:Arguments}{body:List Stmt}{scope:Scope}{dV kV doc pm l6 ct oc:Value}{an od:Option Addr}
  {OK:Array (Option Value)}{N ps:List Str}{sp:Sp}(lk:K.lookup f=some ⟨oc,od,.func (W.fnOf name qual params body scope dV kV doc pm an l6 ct),OK⟩)(F6:W.codeIn K l6 qual=true)(S:FX N ps scope)
  (len:∀vs H Q E,sp vs H Q E->vs.length=ps.length)
  (IY:∀(A:Around) (outer:List Env) (s:Shared) (H:Hp) (vs:A9) (Q:VK) (E:XK),Hu k (A.deeper (envOfC qual scope s.heap.objs.size f l6))->sp vs H Q E ->
   ∃t,K6 (cj CX P w K mg base N qual scope f l6 A outer s H E) body t/\t { nx:=λ_ H'=>Q .f6 H',rt:=Q } (start N vs) H) :
  Gf P w K mg base CX (k+1) f (W.fnOf name qual params body scope dV kV doc pm an l6 ct) ps sp:=by
 refine⟨len,λA outer s H args us vs Q E hr e0 hb r Oz=>?_⟩;have hl:=len _ _ _ _ Oz;have KX:K.In s.heap:=e0.mod.WI.keeps λb o e=>(e0.bs b o e).1;have lim:s.heap.NoLimit:=e0.mod.nolimit.keeps λb o e=>(e0.bs b o e).1;have Td:∀y∈ps.zip us,scope.names.lookup y.1=some .local\/(scope.names.lookup y.1=some .cell/\((cellsFrom (s.heap.objs.size+1) scope.names []).lookup y.1).isSome=true):=λ⟨n,v⟩ hy=>by
  rcases S.par n (Es hy).1 with q|q
  ·exact .inl q
  ·exact .inr ⟨q,W.cellsFrom_some _ _ _ (.inl q)⟩
 refine codeAny_call_function hr.depth (KX _ _ lk) rfl S.co S.gen rfl (W.codeRec_of KX F6) (hb _ _ _ _ ?_);refine wpAny_newFunctionEnv_cells S.kind Td λenv he s1 x=>?_;subst he;refine⟨lim.keeps x.toInCall.keep,codeAny_func ?_⟩;obtain⟨t,ht,hq⟩:=IY A outer s H vs Q E (hr.deeper _) Oz;have I:Inv (cj CX P w K mg base N qual scope f l6 A outer s H E) [] (start N vs) H s1:=qc S e0 hl r x;refine Fq (ht [] s1 (start N vs) H _ I hq) (λfl s' hs=>?_) λe s' hs=>hs;have fin:∀{c5:St}{H':Hp}{v:V}{u:Value},Inv (cj CX P w K mg base N qual scope f l6 A outer s H E) [] c5 H' s'->RelV v u->Q v H'->CE outer P w H s Q u s':=
  λ{c5 H' v u} J rv q=>⟨v,H',J.os,J.bare,J.base,J.b9,rv,q⟩
 cases fl with
 |ret u=>
  obtain⟨v,c5,H',J,rv,q⟩:=hs;exact fin J rv q
 |next=>
  obtain⟨c5,H',J,q⟩:=hs;exact fin (v:=V.f6) (u:=Value.none) J rfl q
 |brk=>
  obtain⟨_,_,_,q⟩:=hs;exact False.elim q
 |cont=>
  obtain⟨_,_,_,q⟩:=hs;exact False.elim q
section
variable {X:Cx}{x:Str}{p pos:Pos}{e:Expr}{es:List Expr}{t:TA}{id T:String}{r:A9->Hp->VK->Prop}
def U7 (r:A9->Hp->VK->Prop)(t:TA):TE:=fun σ H Q=>t σ H λvs H1=>r vs H1 Q
theorem aQ(hc:bV X (.builtin id) r)(hg:Gl X x)(hm:X.mg x=none)(hv:bootBuiltins x=some (.builtin id))(ha:PA X (e::es) t)(hn:x≠"__name__":=by decide)(OT:(x==("__debug__":Str))=false:=by decide)
  (he:starEach (e::es) X.env=(false,eval e X.env)::starEach es X.env:=by rfl)(E8:(backTo pos (starEach es X.env)).any (·.1)=false:=by rfl):PE X (.Call (.Name x p) (e::es) [] pos) (U7 r t):=by
 intro pins s σ H Q I h;refine wpAny_Call_Name_kw (fJ I hg hm hv ?_ hn OT);refine PyProof.Rows.callWith_builtin1 (c6 (ha pos pins s σ H _ I h) λus s1 Yb=>?_) he E8;obtain⟨vs,H1,I1,r1,q1⟩:=Yb;exact hc pins s1 σ H1 vs us Q I1 r1 q1
theorem ba(hc:bV X (.type T) r)(hg:Gl X x)(hm:X.mg x=none)(hv:bootBuiltins x=some (.type T))(ha:PA X (e::es) t)(hn:x≠"__name__":=by decide)(OT:(x==("__debug__":Str))=false:=by decide)
  (he:starEach (e::es) X.env=(false,eval e X.env)::starEach es X.env:=by rfl)(E8:(backTo pos (starEach es X.env)).any (·.1)=false:=by rfl):PE X (.Call (.Name x p) (e::es) [] pos) (U7 r t):=by
 intro pins s σ H Q I h;refine wpAny_Call_Name_kw (fJ I hg hm hv ?_ hn OT);refine PyProof.Rows.callWith_type1 (c6 (ha pos pins s σ H _ I h) λus s1 Ya=>?_) he E8;obtain⟨vs,H1,I1,r1,q1⟩:=Ya;exact hc pins s1 σ H1 vs us Q I1 r1 q1
end
end L2
namespace HT
open PySem PyProof.Rows
theorem Jc(A:Around)(s:Shared)(a:Int)(t:Tok)(c:Int)(u:Tok)(prog:Program)(w:World)(E:A3)(Q:A3)(h:Q (.bool (decide (a<c))) s) :
  wpAny (model prog w) A (richCompare .Lt (.int a t) (.int c u)) Q E s:=
 (PyProof.Rows.lt_int h:wpAny (model prog w) A (compareOp .Lt (.int a t) (.int c u)) Q E s)
section
variable {prog:Program}{w:World}{A:Around}{E:A3}{s:Shared}
def l9 (n d:Nat):Option Int->Nat
 |none=>d
 |some v=>if v<0 then (v+(n:Int)).toNat else min v.toNat n
theorem GW(n d:Nat):l9 n d none=d:=rfl
theorem Ic(n d k:Nat):l9 n d (some (k:Int))=min k n:=by
 show(if (k:Int)<0 then ((k:Int)+(n:Int)).toNat else min (k:Int).toNat n)=min k n;rw[Fm (by lia),BK]
theorem LG(n d:Nat)(hd:d<=n)(o:Option Int):l9 n d o<=n:=by
 cases o with
 |none=>exact hd
 |some v=>
  show(if v<0 then (v+(n:Int)).toNat else min v.toNat n)<=n;by_cases hv:v<0
  ·rw[Fn hv];lia
  ·rw[Fm hv];exact Nat.min_le_right _ _
end
end HT
namespace L2
open PySem PySem.Spec PyProof.Rows
abbrev TO:=St->Hp->(Option Int->Hp->Prop)->Prop
def PO (X:Cx)(e:Option Expr)(t:TO):Prop:=
 ∀(pins:A5)(s:Shared)(σ:St)(H:Hp)(Q:Option Int->Hp->Prop),Inv X pins σ H s->t σ H Q ->
  (wq X) (evalPart e X.env) (λu s'=>∃o H',Inv X pins σ H' s'/\IsPart u o/\Q o H') X.xe s
def Mg:TO:=λ_ H Q=>Q none H
inductive Lq(Q:Option Int->Hp->Prop)(x:V)(H1:Hp):Prop
 |mk i:x=.int i->Q (some i) H1->Lq Q x H1
def xQ (t:TE):TO:=fun σ H Q=>t σ H λx H1=>Lq Q x H1
theorem mq{ns:B3}:∀{us:A8},Vals (ns.map V.int) us->IntsAre us ns:=by
 induction ns with
 |nil=>intro us r;rw[Cj] at r;cases r;exact .nil
 |cons n ns ih=>
  intro us r;rw[Bm] at r;cases r with
  |cons r1 r2=>
   obtain⟨t,e⟩:=r1;subst e;exact .cons n t (ih r2)
section
variable {X:Cx}{e:Expr}{te:TE}{lo hi:Option Expr}{tl th:TO}{pos p2:Pos}
theorem Gj:PO X none Mg:=by
 intro pins s σ H Q I h;rw[evalPart_none];exact Fi ⟨none,H,I,.none,h⟩
theorem bu(h:PE X e te):PO X (some e) (xQ te):=by
 intro pins s σ H Q I hw;rw[evalPart_some];refine c6 (h pins s σ H _ I hw) λu s1 X9=>?_;obtain⟨x,H1,I1,r1,q1⟩:=X9;obtain⟨i,rfl,q⟩:=q1;obtain⟨t,rfl⟩:=r1;exact⟨some i,H1,I1,.int i t,q⟩
def ZR (X:Cx)(r:V->Option Int->Option Int->Hp->VK->Prop):Prop:=
 ∀(pins:A5)(s:Shared)(σ:St)(H:Hp)(x:V)(v vl vu:Value)(lo hi:Option Int)(sl:Addr)(Q:VK),Inv X pins σ H s->RelV x v->s.heap.IsSliceOf sl vl vu .none->IsPart vl lo->IsPart vu hi->r x lo hi H Q ->
  ∃T id,typeLookup (.type T) "__getitem__"=pure (some (.builtin id))/\s.TypeIs v T/\(wq X) (getItem v (.ref sl)) (EP X pins σ Q) X.xe s
def tSl (r:V->Option Int->Option Int->Hp->VK->Prop)(te:TE)(tl th:TO):TE:=fun σ H Q=>te σ H λx H1=>tl σ H1 λl H2=>th σ H2 λu H3=>r x l u H3 Q
theorem aX{r:V->Option Int->Option Int->Hp->VK->Prop}(hr:ZR X r)(he:PE X e te)(hl:PO X lo tl)(hu:PO X hi th):PE X (.Subscript e (.Slice lo hi none p2) pos) (tSl r te tl th):=by
 intro pins s σ H Q I h;refine Subscript_ (c6 (he pins s σ H _ I h) λv s1 X8=>?_);obtain⟨x,H1,I1,r1,q1⟩:=X8;refine wpAny_Slice (c6 (hl pins s1 σ H1 _ I1 q1) λvl s2 X7=>?_);obtain⟨l,H2,I2,pl,q2⟩:=X7;refine c6 (hu pins s2 σ H2 _ I2 q2) λvu s3 ⟨u,H3,I3,pu,q3⟩=>?_;rw[evalPart_none];refine Fi ?_;have I4:Inv X pins σ H3 {s3 with heap:=s3.heap.push {cls:=.type "slice",data:=.fields #[vl,vu,.none]}}:=I3.kept (t':=s3.toks) λb ob q=>FJ _ q;obtain⟨T,id,hT,ht,hg⟩:=hr pins {s3 with heap:=s3.heap.push {cls:=.type "slice",data:=.fields #[vl,vu,.none]}} σ H3 x v vl vu l u s3.heap.objs.size Q I4 r1 (Heap.IsSliceOf.new ..) pl pu q3;show (wq X) (subscriptTail e (.Slice lo hi none p2) v (.ref s3.heap.objs.size)) (EP X pins σ Q) X.xe {s3 with heap:=s3.heap.push {cls:=.type "slice",data:=.fields #[vl,vu,.none]}};exact tail_any (ops:=[.ref s3.heap.objs.size,v]) ht hT hg (by with_unfolding_all rfl)
def nu (xs:A9)(lo hi:Option Int):A9:=(xs.drop (HT.l9 xs.length 0 lo)).take (HT.l9 xs.length xs.length hi-HT.l9 xs.length 0 lo)
theorem jX(xs:A9)(lo hi:Option Int):(nu xs lo hi).length<=xs.length:=by
 unfold nu;rw[Bs,By];lia
end
def OM (n:Nat)(i:Int):Option Nat:=if 0<=i then (if i<n then some i.toNat else none) else if -(n:Int)<=i then some (i+n).toNat else none
def B5 {α:Type}(xs:List α)(i:Int):Option α:=(OM xs.length i).bind λj=>xs[j]?
theorem jQ{n:Nat}{i:Int}{j:Nat}(h:OM n i=some j):seqIndex? i n=some j/\j<n/\-(n:Int)<=i/\i<n:=by
 unfold OM at h;by_cases h0:0<=i
 ·rw[Fn h0] at h;by_cases h1:i<n
  ·rw[Fn h1] at h;have e:i.toNat=j:=Fx h;exact⟨by rw[seqIndex_of h0 h1,e],by lia,by lia,h1⟩
  ·rw[Fm h1] at h;cases h
 ·rw[Fm h0] at h;by_cases h1:-(n:Int)<=i
  ·rw[Fn h1] at h;have e:(i+n).toNat=j:=Fx h;exact⟨by rw[seqIndex_neg (by lia) h1,e],by lia,h1,by lia⟩
  ·rw[Fm h1] at h;cases h
theorem jC{α:Type}{xs:List α}{i:Int}{v:α}(h:B5 xs i=some v):∃j,seqIndex? i xs.length=some j/\xs[j]?=some v/\j<xs.length/\-(xs.length:Int)<=i/\i<xs.length:=by
 unfold B5 at h;cases e:OM xs.length i with
 |none=>rw[e] at h;cases h
 |some j=>
  rw[e] at h;obtain⟨h1,h2,h3,h4⟩:=jQ e;exact⟨j,h1,h,h2,h3,h4⟩
theorem bK{α:Type}{xs:List α}{j:Nat}{v:α}(h:xs[j]?=some v):B5 xs (j:Int)=some v:=by
 have hj:j<xs.length:=(Be.mp h).1;have e:OM xs.length (j:Int)=some j:=by
  unfold OM;rw[Fn (by lia),Fn (by lia)];simp
 unfold B5;rw[e];exact h
def uw (b:Expr):Prop:=∀o i,subscripted b false o i=operate [o,i] (getItem o i)
def L8 (X:Cx)(r:R2):Prop:=
 ∀(value slice:Expr)(pins:A5)(s:Shared)(σ:St)(H:Hp)(x y:V)(v u:Value)(Q:VK),Inv X pins σ H s->RelV x v->RelV y u->r x y H Q ->
  subscripted slice false v u=operate [v,u] (getItem v u)->(wq X) (subscriptTail value slice v u) (EP X pins σ Q) X.xe s
def QA (X:Cx)(id:String)(r:V->A9->Hp->VK->Prop):Prop:=
 ∀(pins:A5)(s:Shared)(σ:St)(H:Hp)(x:V)(xs:A9)(v:Value)(us:A8)(Q:VK),Inv X pins σ H s->RelV x v->Vals xs us->r x xs H Q ->
  (wq X) (call (.builtin id) (v::us)) (EP X pins σ Q) X.xe s
section
variable {X:Cx}{a b:Expr}{ta tb:TE}{pos:Pos}
theorem aW{r:R2}(hr:L8 X r)(ha:PE X a ta)(hb:PE X b tb)(hs:uw b):PE X (.Subscript a b pos) (PD r ta tb):=by
 intro pins s σ H Q I h;exact Subscript_ (xE ha hb I h λv u s2 x y H2 I2 rx ry q=>hr a b pins s2 σ H2 x y v u Q I2 rx ry q (hs _ _))
inductive KI(K:W.Frag)(x:V)(y:V)(H:Hp)(Q:VK):Prop
 |mk p xs i v:x=.ref p->y=.int i->a9 K H p xs->B5 xs i=some v->Q v H->KI K x y H Q
inductive Nw(K:W.Frag)(x:V)(y:V)(H:Hp)(Q:VK):Prop
 |mk p xs i v:x=.ref p->y=.int i->i5 K H p xs->B5 xs i=some v->Q v H->Nw K x y H Q
inductive NS(x:V)(y:V)(H:Hp)(Q:VK):Prop
 |mk z i c:x=.str z->y=.int i->z.length<=sizeLine->B5 z.cps.toList i=some c->Q (.str ⟨#[c]⟩) H->NS x y H Q
theorem Ga:L8 X (KI X.K):=by
 intro value slice pins s σ H x y v u Q I rx ry h hs;obtain⟨p,xs,i,z,rfl,rfl,hq,he,q⟩:=h;cases rx;obtain⟨t,rfl⟩:=ry;obtain⟨a7,r,pl,hz⟩:=I.list hq;obtain⟨j,h1,h2,h3,h4,h5⟩:=jC he;obtain⟨w,ew,D9⟩:=r.get h2;have hl:=r.length;have hn:=HB;have fin:EP X pins σ Q w s:=⟨z,H,I,D9,q⟩
 by_cases h0:0<=i
 ·have hj:i.toNat=j:=by
   rw[seqIndex_of h0 h5] at h1;exact Fx h1
  exact item_listR pl.isList h0 (by lia) (by rw[hj];simpa using ew) fin hs
 ·have hj:(i+(a7.toArray.size:Int)).toNat=j:=by
   rw[seqIndex_neg (by lia) h4] at h1;rw[Br,<- hl];exact Fx h1
  exact subscriptTail_builtinR (x:=w) pl.isList.typeIs slot_list_getitem.lookup
   (wpAny_getItem_list_neg (Q:=λr s'=>r=w/\EP X pins σ Q r s') pl.isList (by lia) (by rw[Br]<;>lia) (by lia) (by rw[hj];simpa using ew) ⟨rfl,fin⟩) hs
theorem Hn:L8 X (Nw X.K):=by
 intro value slice pins s σ H x y v u Q I rx ry h hs;obtain⟨p,xs,i,z,rfl,rfl,hq,he,q⟩:=h;cases rx;obtain⟨t,rfl⟩:=ry;obtain⟨a7,r,pl,hz⟩:=I.tuple hq;obtain⟨j,h1,h2,h3,h4,h5⟩:=jC he;obtain⟨w,ew,D9⟩:=r.get h2;have hl:=r.length;have hn:=HB;have fin:EP X pins σ Q w s:=⟨z,H,I,D9,q⟩
 exact subscriptTail_builtinR (x:=w) pl.typeIs slot_tuple_getitem.lookup
  (getItem_tuple (j:=j) (Q:=λr s'=>r=w/\EP X pins σ Q r s') pl (by lia) (by lia) (by rw[Br,<- hl];exact h1) (by simpa using ew) ⟨rfl,fin⟩) hs
theorem Jo:L8 X NS:=by
 intro value slice pins s σ H x y v u Q I rx ry h hs;obtain⟨z,i,c,rfl,rfl,hz,he,q⟩:=h;obtain⟨t,rfl⟩:=rx;obtain⟨t',rfl⟩:=ry;obtain⟨j,h1,h2,h3,h4,h5⟩:=jC he;have hl:z.cps.toList.length=z.length:=by simp[Str.length]
 rw[hl] at h1 h4 h5;have hn:=HB
 exact tail_any (typeIs_str s z t) slot_str_getitem.lookup (getItem_str (c:=c) (by
  have e1:decide (i < -(2^63:Int))=false:=Fp (by lia);have e2:decide (i≥2^63)=false:=Fp (by lia)
  rw[e1,e2,Bool.or_false]) (by rw[h1]; simpa using h2) ⟨.str ⟨#[c]⟩,H,I.tok _,⟨_,rfl⟩,q⟩) hs
theorem lP(a7:A8)(n j:Nat)(u:Value):Obj.mapSeq (·.setIfInBounds j u) {cls:=.type "list",data:=.seq a7.toArray n}={cls:=.type "list",data:=.seq (a7.set j u).toArray n}:=by
 simp[Obj.mapSeq]
theorem Inv.lst{pins:A5}{σ:St}{H:Hp}{s:Shared}{p:Addr}{xs:A9}(I:Inv X pins σ H s)(h:H p=some (.lst xs)) :
  ∃(a7:A8)(n:Nat),Vals xs a7/\s.heap.get? p=some {cls:=.type "list",data:=.seq a7.toArray n}/\xs.length<=sizeLine:=by
 obtain⟨z,a7,n,r,e⟩:=I.b9 p _ h;exact⟨a7,n,r,e,z⟩
theorem Inv.MX{pins:A5}{σ:St}{H:Hp}{s:Shared}{p:Addr}{xs ys:A9}{a7 its':A8}{n n':Nat}{f:Obj->Obj}(I:Inv X pins σ H s)(h:H p=some (.lst xs))
  (ho:s.heap.get? p=some {cls:=.type "list",data:=.seq a7.toArray n})(hf:f {cls:=.type "list",data:=.seq a7.toArray n}={cls:=.type "list",data:=.seq its'.toArray n'})(r:Vals ys its')(hz:ys.length<=sizeLine)(t:Nat) :
  Inv X pins σ (upd H p (.lst ys)) {s with heap:=s.heap.update p f,toks:=t}:=by
 have e:(s.heap.update p f).get? p=some {cls:=.type "list",data:=.seq its'.toArray n'}:=by
  rw[Heap.get?_update_self f ho (by rw[hf]<;>rfl),hf]
 refine I.write (x:=p) (e:=p) (by rw[h];trivial) (.inl rfl) (λb u hb q=>(Heap.get?_update_other _ _ (FI hb)).trans q) ⟨_,e⟩ ?_;exact⟨hz,its',n',r,e⟩
inductive Nk(o:V)(i:V)(v:V)(H:Hp)(Q:Hp->Prop):Prop
 |mk p xs k j:o=.ref p->i=.int k->H p=some (.lst xs)->OM xs.length k=some j->Q (upd H p (.lst (xs.set j v)))->Nk o i v H Q
theorem set_list:yO X Nk:=by
 intro pins s σ H o i v ov iv u Q I ro ri rv h;obtain⟨p,xs,k,j,rfl,rfl,hp,hj,q⟩:=h;cases ro;obtain⟨t,rfl⟩:=ri;obtain⟨a7,n,r,ho,hz⟩:=I.lst hp;obtain⟨h1,h2,h3,h4⟩:=jQ hj;have hl:=r.length;have hn:=HB;have I':Inv X pins σ (upd H p (.lst (xs.set j v))) {s with heap:=s.heap.update p (Obj.mapSeq (·.setIfInBounds j u))}:=
  I.MX hp ho (lP a7 n j u) (r.set rv j) (by rw[Eu];exact hz) s.toks
 by_cases h0:0<=k
 ·have hk:k.toNat=j:=by
   rw[seqIndex_of h0 h4] at h1;exact Fx h1
  exact W.ki_setAt ho h0 (by lia) (by rw[Br,<- hl];exact h4) (by rw[hk];exact⟨_,I',q⟩)
 ·have hk:(k+(a7.toArray.size:Int)).toNat=j:=by
   rw[seqIndex_neg (by lia) h3] at h1;rw[Br,<- hl];exact Fx h1
  exact W.ki_setBack ho (by lia) (by rw[Br,<- hl];exact h3) (by lia) (by rw[hk];exact⟨_,I',q⟩)
theorem iT(lo hi:Option Int)(n:Nat):(sliceBounds lo hi none n).1=((HT.l9 n 0 lo:Nat):Int)/\(sliceBounds lo hi none n).2.1=((HT.l9 n n hi:Nat):Int)/\(sliceBounds lo hi none n).2.2=1:=by
 refine⟨?_,?_,rfl⟩
 ·cases lo with
  |none=>simp[sliceBounds,HT.l9]
  |some i=>
   simp only[sliceBounds,HT.l9,Option.getD_none,show(1:Int)>0 by decide,if_true];by_cases h:i<0
   ·simp only[h,if_true]<;>lia
   ·simp only[h,if_false]<;>lia
 ·cases hi with
  |none=>simp[sliceBounds,HT.l9]
  |some i=>
   simp only[sliceBounds,HT.l9,Option.getD_none,show(1:Int)>0 by decide,if_true];by_cases h:i<0
   ·simp only[h,if_true]<;>lia
   ·simp only[h,if_false]<;>lia
theorem gY(a7:A8)(lo hi:Option Int):slicePick a7.toArray lo hi none=((a7.drop (HT.l9 a7.length 0 lo)).take (HT.l9 a7.length a7.length hi-HT.l9 a7.length 0 lo)).toArray:=by
 obtain⟨h1,h2,h3⟩:=iT lo hi a7.toArray.size;unfold slicePick;rw[h1,h2,h3];simp only[sliceRange_one,pick_run,Br]<;>rfl
inductive NV(K:W.Frag)(x:V)(lo:Option Int)(hi:Option Int)(H:Hp)(Q:VK):Prop
 |mk a xs:x=.ref a->a9 K H a xs->(∀p,H p=none->Q (.ref p) (upd H p (.lst (nu xs lo hi))))->NV K x lo hi H Q
theorem Ia:ZR X (NV X.K):=by
 intro pins s σ H x v vl vu lo hi sl Q I rx hs pl pu h;obtain⟨a,xs,rfl,hx,q⟩:=h;cases rx;obtain⟨a7,r,ht,hz⟩:=I.list hx;have hlen:=r.length;refine⟨"list",_,slot_list_getitem.lookup,ht.isList.typeIs,?_⟩;refine wpAny_getItem_list_slice ht.isList hs pl pu .none (by simp) ?_ (by rw[Br]<;>lia);rw[gY,<- hlen];refine⟨.ref s.heap.objs.size,_,I.laid (t':=s.toks) (o:=.lst (nu xs lo hi)) (λb ob q=>FJ _ q) (AS _) ?_,rfl,q _ (I.b9.fresh (AS _))⟩;exact⟨Bh (jX xs lo hi) hz,_,0,(r.drop (HT.l9 xs.length 0 lo)).take (HT.l9 xs.length xs.length hi-HT.l9 xs.length 0 lo),FK _ rfl⟩
def HV:V->Bool
 |.f6=>true
 |.bl _=>true
 |.int _=>true
 |.str _=>true
 |_=>false
def Pp:V->V->Bool
 |.f6,.f6=>true
 |.bl a,.bl b=>a==b
 |.bl a,.int b=>(if a then 1 else 0)==b
 |.int a,.bl b=>a==(if b then 1 else 0)
 |.int a,.int b=>a==b
 |.str a,.str b=>a==b
 |_,_=>false
theorem xf{A:Around}{s:Shared}{y x:V}{u v:Value}(ry:RelV y u)(rx:RelV x v)(fy:HV y=true)(fx:HV x=true):SeqAt.EqAt A s u v (Pp y x):=by
 cases y with
 |f6=>
  cases ry;cases x with
  |f6=>cases rx;exact SeqAt.EqAt.same _
  |bl b=>cases rx;exact SeqAt.EqAt.none_bool b
  |int b=>obtain⟨t,rfl⟩:=rx;exact SeqAt.EqAt.none_int b t
  |str b=>obtain⟨t,rfl⟩:=rx;exact SeqAt.EqAt.none_str b t
  |_=>exact absurd (show false=true from fx) BA
 |bl a=>
  cases ry;cases x with
  |f6=>cases rx;exact SeqAt.EqAt.bool_none a
  |bl b=>cases rx;exact SeqAt.EqAt.bool_bool a b
  |int b=>obtain⟨t,rfl⟩:=rx;exact SeqAt.EqAt.bool_int a b t
  |str b=>obtain⟨t,rfl⟩:=rx;exact SeqAt.EqAt.bool_str a b t
  |_=>exact absurd (show false=true from fx) BA
 |int a=>
  obtain⟨t',rfl⟩:=ry;cases x with
  |f6=>cases rx;exact SeqAt.EqAt.int_none a t'
  |bl b=>cases rx;exact SeqAt.EqAt.int_bool a t' b
  |int b=>obtain⟨t,rfl⟩:=rx;exact SeqAt.EqAt.int_int a t' b t
  |str b=>obtain⟨t,rfl⟩:=rx;exact SeqAt.EqAt.int_str a t' b t
  |_=>exact absurd (show false=true from fx) BA
 |str a=>
  obtain⟨t',rfl⟩:=ry;cases x with
  |f6=>cases rx;exact SeqAt.EqAt.str_none a t'
  |bl b=>cases rx;exact SeqAt.EqAt.str_bool a t' b
  |int b=>obtain⟨t,rfl⟩:=rx;exact SeqAt.EqAt.str_int a t' b t
  |str b=>obtain⟨t,rfl⟩:=rx;exact SeqAt.EqAt.str_str a t' b t
  |_=>exact absurd (show false=true from fx) BA
 |_=>exact absurd (show false=true from fy) BA
def O2 (x:V)(u:Value):Bool:=match u with
 |.none=>Pp .f6 x
 |.bool b=>Pp (.bl b) x
 |.int i _=>Pp (.int i) x
 |.str z _=>Pp (.str z) x
 |_=>false
theorem sV{x y:V}{u:Value}(r:RelV y u)(f:HV y=true):O2 x u=Pp y x:=by
 cases y with
 |f6=>cases r;rfl
 |bl b=>cases r;rfl
 |int i=>obtain⟨t,rfl⟩:=r;rfl
 |str z=>obtain⟨t,rfl⟩:=r;rfl
 |_=>exact absurd (show false=true from f) BA
theorem jy{x:V}:∀{xs:A9}{us:A8},Vals xs us->xs.all HV=true->us.any (O2 x)=xs.any λy=>Pp y x
 |_,_,.nil,_=>rfl
 |y::xs,u::us,.cons r t,f=>by
  rw[List.all_cons,BQ] at f;rw[CY,CY,sV r f.1,jy t f.2]
theorem hG{A:Around}{s:Shared}{x:V}{v:Value}(rx:RelV x v)(fx:HV x=true):∀{xs:A9}{us:A8},Vals xs us->xs.all HV=true->∀u∈us,SeqAt.EqAt A s u v (O2 x u)
 |_,_,.nil,_=>λu hu=>by cases hu
 |y::xs,u::us,.cons r t,f=>λu' hu=>by
  rw[List.all_cons,BQ] at f;rcases Bb.mp hu with rfl|hu
  ·rw[sV r f.1];exact xf r rx f.1 fx
  ·exact hG rx fx t f.2 u' hu
def PV (x:V)(xs:A9):Bool:=xs.any λy=>Pp y x
inductive rIn(K:W.Frag)(neg:Bool)(x:V)(y:V)(H:Hp)(Q:VK):Prop
 |mk p xs:y=.ref p->(a9 K H p xs\/i5 K H p xs)->HV x=true->xs.all HV=true->Q (.bl (if neg then !PV x xs else PV x xs)) H->rIn K neg x y H Q
theorem Iw:k9 X (compareOp .In) (rIn X.K false):=by
 intro pins s σ H x y v u Q I rx ry h;obtain⟨p,xs,rfl,hq,fx,fs,q⟩:=h;cases ry;rcases hq with hq|hq
 ·obtain⟨a7,r,pl,hz⟩:=I.list hq;refine SeqAt.in_listAt (O2 x) pl.isList (λw hw=>hG rx fx r fs w (by simpa using hw)) ⟨.bl _,H,I,rfl,?_⟩;rw[show a7.toArray.any (O2 x)=a7.any (O2 x) by simp,jy r fs];exact q
 ·obtain⟨a7,r,pl,hz⟩:=I.tuple hq;refine SeqAt.in_tupleAt (O2 x) pl (λw hw=>hG rx fx r fs w (by simpa using hw)) ⟨.bl _,H,I,rfl,?_⟩;rw[show a7.toArray.any (O2 x)=a7.any (O2 x) by simp,jy r fs];exact q
theorem Ir:k9 X (compareOp .NotIn) (λx y H Q=>∃i j,x=.str i/\y=.str j/\Q (.bl (!(!(Builtin.Str.occurrences j i 0 j.length 1).isEmpty))) H):=by
 intro pins s σ H x y v u Q I rx ry h;obtain⟨i,j,rfl,rfl,q⟩:=h;obtain⟨t,rfl⟩:=rx;obtain⟨t',rfl⟩:=ry;exact notIn_str ⟨.bl _,H,I,rfl,q⟩
theorem FW:bV X (.builtin "len") (λxs H Q=>∃p ys,xs=[.ref p]/\(a9 X.K H p ys\/i5 X.K H p ys)/\Q (.int ys.length) H):=by
 intro pins s σ H xs us Q I r h;obtain⟨p,ys,rfl,hq,q⟩:=h;obtain⟨u,rfl,rx⟩:=cD r;cases rx;have hn:=HB;rcases hq with hq|hq
 ·obtain⟨a7,r',pl,hz⟩:=I.list hq;have hlen:=r'.length;exact Calls.call_len_list pl.isList (by simp only[Br]<;>lia) ⟨.int ys.length,H,I.tok _,⟨s.toks+1,by rw[Br,hlen]⟩,q⟩
 ·obtain⟨a7,r',pl,hz⟩:=I.tuple hq;have hlen:=r'.length;exact len_tuple pl (by simp only[Br]<;>lia) ⟨.int ys.length,H,I.tok _,⟨s.toks+1,by rw[Br,hlen]⟩,q⟩
theorem FV:bV X (.builtin "len") (λxs H Q=>∃z,xs=[.str z]/\z.length<=sizeLine/\Q (.int z.length) H):=by
 intro pins s σ H xs us Q I r h;obtain⟨z,rfl,hz,q⟩:=h;obtain⟨u,rfl,t,rfl⟩:=cD r;have hn:=HB;exact len_str (by lia) ⟨.int z.length,H,I.tok _,⟨_,rfl⟩,q⟩
theorem GA:bV X (.type "list") (λxs H Q=>∃p ys,xs=[.ref p]/\(a9 X.K H p ys\/i5 X.K H p ys)/\∀l,H l=none->Q (.ref l) (upd H l (.lst ys))):=by
 intro pins s σ H xs us Q I r h;obtain⟨p,ys,rfl,hq,q⟩:=h;obtain⟨u,rfl,rx⟩:=cD r;cases rx;have fin:∀(a7:A8),Vals ys a7->ys.length<=sizeLine->∀(h':Heap)(c':Nat),(∀b o',s.heap.get? b=some o'->h'.get? b=some o') ->
   h'.get? s.heap.objs.size=some {cls:=.type "list",dict:=none,data:=.seq a7.toArray c',slots:=#[]}->EP X pins σ Q (.ref s.heap.objs.size) {s with heap:=h'}:=λa7 r' hz h' c' kp e=>
  ⟨.ref s.heap.objs.size,_,I.laid (t':=s.toks) kp (AS _) (show Gg X.prog X.w _ h' _ (.lst ys) from⟨hz,a7,c',r',e⟩),rfl,q _ (I.b9.fresh (AS _))⟩
 rcases hq with hq|hq
 ·obtain⟨a7,r',pl,hz⟩:=I.list hq;have hlen:=r'.length;obtain⟨o,ho,hc,n,hd⟩:=pl.isList;exact call_list_seq p (.inl rfl) ho hc hd (λh' c' kp e=>fin a7 r' hz h' c' kp e) (by simp only[Br]<;>lia)
 ·obtain⟨a7,r',pl,hz⟩:=I.tuple hq;have hlen:=r'.length;obtain⟨o,ho,hc,n,hd⟩:=pl;exact call_list_seq p (.inr rfl) ho hc hd (λh' c' kp e=>fin a7 r' hz h' c' kp e) (by simp only[Br]<;>lia)
theorem Gi:bV X (.type "tuple") (λxs H Q=>∃p ys,xs=[.ref p]/\((a9 X.K H p ys/\∀l,H l=none->Q (.ref l) (upd H l (.tup ys)))\/(i5 X.K H p ys/\Q (.ref p) H))):=by
 intro pins s σ H xs us Q I r h;obtain⟨p,ys,rfl,h⟩:=h;obtain⟨u,rfl,rx⟩:=cD r;cases rx;rcases h with ⟨hq,q⟩|⟨hq,q⟩
 ·obtain⟨a7,r',pl,hz⟩:=I.list hq;have hlen:=r'.length;refine call_tuple_list pl.isList (λh' kp=>?_) (by simp only[Br]<;>lia);have I1:Inv X pins σ H {s with heap:=h'}:=I.kept (t':=s.toks) kp;have I2:Inv X pins σ (upd H h'.objs.size (.tup ys)) {s with heap:=h'.push {cls:=.type "tuple",data:=.seq a7.toArray}}:=
   I1.laid (t':=s.toks) (λb o e=>FJ _ e) (AS _) (show Gg X.prog X.w _ _ _ (.tup ys) from⟨hz,a7,r',IsTup.new _ _⟩)
  exact⟨.ref h'.objs.size,_,I2,rfl,q _ (I1.b9.fresh (AS _))⟩
 ·obtain⟨a7,r',pl,hz⟩:=I.tuple hq;exact call_tuple_same pl ⟨.ref p,H,I,rfl,q⟩
def UU (K:W.Frag)(T:String)(x:V)(H:Hp):Prop:=match x with
 |.str _=>T="str"
 |.int _=>T="int"
 |.ref p=>(T="list"/\∃xs,a9 K H p xs)\/(T="tuple"/\∃o,K.lookup p=some o/\o.cls=.type "tuple"/\o.dict=none) \/
   (T="dict"/\((∃kvs,H p=some (.dK kvs))\/∃kvs,H p=some (.dT kvs)))\/(T="set"/\∃S n,H p=some (.set S n))
 |_=>False
theorem tM{pins:A5}{σ:St}{H:Hp}{s:Shared}{T:String}{x:V}{v:Value}(I:Inv X pins σ H s)(r:RelV x v)(ty:UU X.K T x H) :
  s.TypeIs v T/\∀a,v=.ref a->∃ob,s.heap.get? a=some ob/\ob.dict=none:=by
 cases x with
 |str z=>
  obtain⟨t,rfl⟩:=r;cases (show T="str" from ty);exact⟨typeIs_str s z t,λ_ e=>nomatch e⟩
 |int i=>
  obtain⟨t,rfl⟩:=r;cases (show T="int" from ty);exact⟨typeIs_int s i t,λ_ e=>nomatch e⟩
 |ref p=>
  cases r;rcases ty with ⟨rfl,xs,hq⟩|⟨rfl,o,hk,hc,hd⟩|⟨rfl,hk⟩|⟨rfl,S,n,hk⟩
  ·obtain⟨a7,_,pl,_⟩:=I.list hq;refine⟨pl.isList.typeIs,λa e=>?_⟩;cases e;obtain⟨o,n,e,c,hd,_⟩:=pl;exact⟨o,e,hd⟩
  ·refine⟨⟨o,I.C4 p o hk,hc⟩,λa e=>?_⟩;cases e;exact⟨o,I.C4 _ o hk,hd⟩
  ·have z:∃o,s.heap.get? p=some o/\o.ExactDict:=by
    rcases hk with ⟨kvs,hk⟩|⟨kvs,hk⟩
    ·obtain⟨_,_,_,_,o,_,_,e,ex,_⟩:=I.b9 p _ hk;exact⟨o,e,ex⟩
    ·obtain⟨_,_,_,_,o,_,_,e,ex,_⟩:=I.b9 p _ hk;exact⟨o,e,ex⟩
   obtain⟨o,e,ex⟩:=z;refine⟨⟨o,e,ex.1⟩,λa e2=>?_⟩;cases e2;exact⟨o,e,ex.2.1⟩
  ·obtain⟨o,_,_,_,e,ex,_⟩:=I.b9 p _ hk;refine⟨⟨o,e,ex.1⟩,λa e2=>?_⟩;cases e2;exact⟨o,e,ex.2.1⟩
 |_=>exact False.elim ty
def U8 (K:W.Frag)(T:String)(r:V->A9->Hp->VK->Prop)(to:TE):TE:=fun σ H Q=>to σ H λx H1=>UU K T x H1/\r x [] H1 Q
def T8 (K:W.Frag)(T:String)(r:V->A9->Hp->VK->Prop)(to:TE)(t:TA):TE:=fun σ H Q=>to σ H λx H1=>UU K T x H1/\t σ H1 λxs H2=>r x xs H2 Q
variable {o e:Expr}{es:List Expr}{to:TE}{t:TA}{name:Str}{apos i4:Pos}{T id:String}{r:V->A9->Hp->VK->Prop}
theorem wc(pa:PlainAttrs T)(slot:Slot T name id)(RN:typeOf (.builtin id)=pure (.type "method_descriptor"))(hm:QA X id r)(ho:PE X o to)
  (z7:attributeBase o name X.env (eval o X.env)=eval o X.env:=by rfl)(q8:(apos.endLine==i4.line)=true:=by rfl):PE X (.Call (.Attribute o name apos) [] [] i4) (U8 X.K T r to):=by
 intro pins s σ H Q I h;refine wpAny_Call_method0_late z7 q8 (c6 (ho pins s σ H _ I h) λv s1 X6=>?_);obtain⟨x,H1,I1,r1,ty,q1⟩:=X6;obtain⟨h1,h2⟩:=tM I1 r1 ty;exact⟨T,id,pa,slot,RN,h1,h2,Calls.callWith_builtin rfl (PySem.evalArgs_none (hm pins s1 σ H1 x [] v [] Q I1 r1 .nil q1))⟩
theorem jd(pa:PlainAttrs T)(slot:Slot T name id)(RN:typeOf (.builtin id)=pure (.type "method_descriptor"))(hm:QA X id r)(ho:PE X o to)(ha:PA X (e::es) t)
  (z7:attributeBase o name X.env (eval o X.env)=eval o X.env:=by rfl)
  (K1:((backTo i4 (starEach (e::es) X.env)).all (λx=>!x.1) && (backToKw i4 (keywordEach [] X.env)).all (λx=>x.1.isSome)
   && decide ((e::es).length+([]:List Keyword).length+(if ([]:List Keyword).isEmpty then 0 else 1) < 30))=true:=by rfl)
  (q8:(apos.endLine==i4.line)=true:=by rfl) (hs:starEach (e::es) X.env=(false,eval e X.env)::starEach es X.env:=by rfl) (y8:(backTo i4 (starEach es X.env)).any (·.1)=false:=by rfl) :
  PE X (.Call (.Attribute o name apos) (e::es) [] i4) (T8 X.K T r to t):=by
 intro pins s σ H Q I h;refine wpAny_Call_method_late z7 K1 q8 rfl (c6 (ho pins s σ H _ I h) λv s1 X5=>?_);obtain⟨x,H1,I1,r1,ty,q1⟩:=X5;obtain⟨h1,h2⟩:=tM I1 r1 ty;refine⟨T,id,pa,slot,RN,h1,h2,?_⟩;have hA:=ha i4 pins s1 σ H1 _ I1 q1;rw[hs] at hA ⊢;refine Calls.callWith_builtin (by show(false||(backTo i4 (starEach es X.env)).any (·.1))=false;rw[y8]<;>rfl) (Calls.evalArgs_plain ?_);refine c6 hA λus s2 X4=>?_;obtain⟨vs,H2,I2,r2,q2⟩:=X4;exact hm pins s2 σ H2 x vs v us Q I2 r1 r2 q2
end
def ZT (X:Cx)(id:String)(r:V->A9->Hp->VK->Prop):Prop:=
 ∀(pins:A5)(s:Shared)(σ:St)(H:Hp)(x:V)(xs:A9)(v:Value)(us:A8)(Q:VK),Inv X pins σ H s->RelV x v->Vals xs us->r x xs H Q ->
  (wq X) (call (.builtin id) (v::us)) (EP X pins σ Q) X.xe s
theorem Vals.one:∀{x:V}{us:A8},Vals [x] us->∃u,us=[u]/\RelV x u
 |_,_,.cons r .nil=>⟨_,rfl,r⟩
theorem Vals.zero:∀{us:A8},Vals [] us->us=[]
 |_,.nil=>rfl
theorem Vals.dropLast{xs:A9}{us:A8}(h:Vals xs us):Vals xs.dropLast us.dropLast:=by
 induction h with
 |nil=>exact .nil
 |cons r t ih=>
  cases t with
  |nil=>exact .nil
  |cons q t'=>exact .cons r ih
theorem Vals.eraseIdx:∀{xs:A9}{us:A8}(i:Nat),Vals xs us->Vals (xs.eraseIdx i) (us.eraseIdx i)
 |_,_,_,.nil=>.nil
 |_,_,0,.cons _ t=>t
 |_,_,i+1,.cons r t=>.cons r (Vals.eraseIdx i t)
theorem ml{α:Type}(l:List α):l.eraseIdx (l.length-1)=l.dropLast:=by
 induction l with
 |nil=>rfl
 |cons a r ih=>
  cases r with
  |nil=>rfl
  |cons b r=>
   have e:(a::b::r).length-1=((b::r).length-1)+1:=by
    have h1:(a::b::r).length=r.length+2:=rfl;have h2:(b::r).length=r.length+1:=rfl;lia
   rw[e,List.eraseIdx_cons_succ,ih]
   all_goals rfl
theorem iF{α:Type}:∀(l:List α)(i:Nat),(l.eraseIdx i).length<=l.length
 |[],_=>AS _
 |_::_,0=>Ck _
 |_::r,i+1=>FM (iF r i)
section
variable {X:Cx}{pins:A5}{σ:St}{H:Hp}{s:Shared}{l b:Addr}{xs ys zs:A9}
theorem Inv.Nt{a7 its':A8}{n:Nat}{f:Array Value->Array Value}{t':Nat}(I:Inv X pins σ H s)(hH:H l=some (.lst xs))
  (e:s.heap.get? l=some {cls:=.type "list",data:=.seq a7.toArray n})(hf:f a7.toArray=its'.toArray)(hv:Vals ys its')(hz:ys.length<=sizeLine) :
  Inv X pins σ (upd H l (.lst ys)) {s with heap:=s.heap.update l (Obj.mapSeq f),toks:=t'}:=by
 have q:=PySem.IsL.update e f;rw[hf] at q;refine I.write (x:=l) (e:=l) (by rw[hH];exact trivial) (.inl rfl) (λb' u hb hu=>(Heap.get?_update_other s.heap (Obj.mapSeq f) (FI hb)).trans hu) ⟨_,q⟩ ?_;exact⟨hz,its',_,hv,q⟩
theorem Inv.WA{a7:A8}{t':Nat}(I:Inv X pins σ H s)(hv:Vals ys a7)(hz:ys.length<=sizeLine) :
  Inv X pins σ (upd H s.heap.objs.size (.lst ys)) {s with heap:=s.heap.push {cls:=.type "list",data:=.seq a7.toArray},toks:=t'}:=
 I.laid (λ_ _ q=>FJ _ q) (AS _) ⟨hz,a7,0,hv,FK _ rfl⟩
theorem Inv.fresh(I:Inv X pins σ H s):H s.heap.objs.size=none:=I.b9.fresh (AS _)
theorem Inv.MA(I:Inv X pins σ H s)(hH:H l=some (.lst xs)):xs.length<=sizeLine/\∃(a7:A8)(n:Nat),Vals xs a7/\xs.length=a7.length/\s.heap.get? l=some {cls:=.type "list",data:=.seq a7.toArray n}:=by
 obtain⟨z,a7,n,r,e⟩:=I.b9 l _ hH;exact⟨z,a7,n,r,r.length,e⟩
end
section
variable {X:Cx}
inductive IJ(x:V)(vs:A9)(H:Hp)(Q:VK):Prop
 |mk l xs y:x=.ref l->vs=[y]->H l=some (.lst xs)->xs.length<sizeLine->Q .f6 (upd H l (.lst (xs++[y])))->IJ x vs H Q
theorem Ih:ZT X "list.append" IJ:=by
 intro pins s σ H x vs v us Q I rx rv h;obtain⟨l,xs,y,rfl,rfl,hH,hz,q⟩:=h;cases rx;obtain⟨u,rfl,ru⟩:=rv.one;obtain⟨z,a7,n,r,hl,e⟩:=I.MA hH;refine call_meets F.slot_list_append ⟨_,e,rfl⟩ F.entry_list_append (F.args_list_append_2 _ _) (PySem.list_append l a7.toArray n u (by rw[Br];lia)) ⟨e,?_⟩;refine⟨.f6,_,I.Nt (its':=a7++[u]) hH e (by simp) (r.append (.cons ru .nil)) ?_,rfl,q⟩;rw[AV,List.length_singleton];lia
inductive NY(x:V)(vs:A9)(H:Hp)(Q:VK):Prop
 |mk l xs y:x=.ref l->vs=[]->H l=some (.lst xs)->xs[xs.length-1]?=some y->Q y (upd H l (.lst xs.dropLast))->NY x vs H Q
theorem MN:ZT X "list.pop" NY:=by
 intro pins s σ H x vs v us Q I rx rv h;obtain⟨l,xs,y,rfl,rfl,hH,hy,q⟩:=h;cases rx;have PY:=rv.zero;subst PY;obtain⟨z,a7,n,r,hl,e⟩:=I.MA hH;obtain⟨u,hu,ru⟩:=r.get hy;have Ul:a7.toArray[a7.toArray.size-1]?=some u:=by
  show a7.toArray[a7.length-1]?=some u;rw[<- Bn,<- hl];exact hu
 refine call_meets F.slot_list_pop ⟨_,e,rfl⟩ F.entry_list_pop (F.args_list_pop_1 _) (MeetsSeq.list_pop_last l a7.toArray n u Ul (by rw[Br];lia)) ⟨e,?_⟩;refine⟨y,_,I.Nt (its':=a7.dropLast) hH e ?_ r.dropLast ?_,ru,q⟩
 ·show a7.toArray.eraseIdxIfInBounds (a7.toArray.size-1)=a7.dropLast.toArray;rw[Br,Fb,ml]
 ·rw[Ew];lia
inductive LQ(x:V)(vs:A9)(H:Hp)(Q:VK):Prop
 |mk l xs i k y:x=.ref l->vs=[.int i]->H l=some (.lst xs)->-(2^63)<=i->i<2^63->seqIndex? i xs.length=some k->xs[k]?=some y->Q y (upd H l (.lst (xs.eraseIdx k)))->LQ x vs H Q
theorem Jh:ZT X "list.pop" LQ:=by
 intro pins s σ H x vs v us Q I rx rv h;obtain⟨l,xs,i,k,y,rfl,rfl,hH,h1,h2,hk,hy,q⟩:=h;cases rx;obtain⟨u,rfl,ru⟩:=rv.one;obtain⟨t,rfl⟩:=ru;obtain⟨z,a7,n,r,hl,e⟩:=I.MA hH;obtain⟨w,hw,D9⟩:=r.get hy;refine call_meets F.slot_list_pop ⟨_,e,rfl⟩ F.entry_list_pop (F.args_list_pop_2 _ _)
  (MeetsSeq.list_pop_at l a7.toArray n i t k w (fitsIndex_both h1 h2) (by rw[Br,<- hl];exact hk) (by rw[<- Bn];exact hw) (by rw[Br];lia)) ⟨e,?_⟩
 refine⟨y,_,I.Nt (its':=a7.eraseIdx k) hH e ?_ (r.eraseIdx k) ?_,D9,q⟩
 ·show a7.toArray.eraseIdxIfInBounds k=(a7.eraseIdx k).toArray;rw[Fb]
 ·have:=iF xs k;lia
inductive NH(x:V)(y:V)(H:Hp)(Q:VK):Prop
 |mk l b xs zs:x=.ref l->y=.ref b->H l=some (.lst xs)->H b=some (.lst zs)->xs.length+zs.length<=sizeLine->(∀p,H p=none->Q (.ref p) (upd H p (.lst (xs++zs))))->NH x y H Q
theorem Hg:k9 X (binaryOp .Add) NH:=by
 intro pins s σ H x y v u Q I rx ry h;obtain⟨l,b,xs,zs,rfl,rfl,hH,hB,hz,q⟩:=h;cases rx;cases ry;obtain⟨z,a7,n,r,hl,e⟩:=I.MA hH;obtain⟨z2,PU,n2,r2,Ta,e2⟩:=I.MA hB;refine PySem.P.add_list e e2 ?_ (by rw[Br,Br];lia);have ea:a7.toArray++PU.toArray=(a7++PU).toArray:=by simp
 rw[ea];exact⟨.ref _,_,I.WA (t':=s.toks) (r.append r2) (by rw[AV];lia),rfl,q _ I.fresh⟩
end
end L2
namespace Att
open PySem PySem.W PySem.Calls PyProof.Rows
theorem fE{P:Params}{h:Heap}:∀(ns:B3)(vs:A8),WellAll P h vs (ns.map WData.int)->IntsAre vs ns:=by
 intro ns;induction ns with
 |nil=>
  intro vs w;rw[Cj] at w;cases w;exact .nil
 |cons n ns ih=>
  intro vs w;rw[Bm] at w;cases w with
  |cons a b=>
   cases a;exact .cons _ _ (ih _ b)
theorem pP{l:OpenLaw}{n:Nat}(hn:l.most=some n){P:Params}{h:Heap}{args:List WData}{vals:A8}
  (OP:l.row.toRowW.claim.pre args=true)(PX:WellAll P h vals args) :
  ∃a vs ns,vals=[Value.ref a]/\args=[WData.list (ns.map WData.int)]/\h.get? a=some {cls:=.type "list",data:=.seq vs.toArray}/\IntsAre vs ns/\ns.length<=n:=by
 have hsh:WShape.hasAll [] args [.list .int]=true:=(pre_splitW OP).1;have hc:l.pre.holds [] {args:=args}=true:=(pre_splitW OP).2;obtain⟨d,r,rfl,h1,h2⟩:=hasAllW_cons hsh;obtain rfl:=hasAllW_nil h2;obtain⟨xs,rfl,h3⟩:=hasW_list h1;obtain⟨ns,rfl⟩:=items_int h3;have hlen:ns.length<=n:=by
  unfold OpenLaw.pre at hc;have h4:(WTm.not (.lt (.lit (.int (n:Int))) (.len (.arg 0)))).holds [] {args:=[.list (ns.map .int)]}=true:=by
   have h4:=(holds_andW hc).1;rw[hn] at h4;exact h4
  have h5:=condW_of h4 (w_not (w_lt w_lit (w_len_list (w_arg rfl))));rw[AU] at h5;refine DY λq=>?_;have q':(n:Int)<((ns.length:Nat):Int):=by lia
  first
   |(rw[Fo q'] at h5;exact absurd h5 (by decide))
   |(simp at h5;lia)
 cases PX with
 |cons w1 w2=>
  cases w2;cases w1 with
  |list ho E2=>exact⟨_,_,ns,rfl,rfl,ho,fE ns _ E2,hlen⟩
theorem qa(l:OpenLaw)(args:List WData):l.row.toRowW.claim.post args (.bool true) args=true:=
 postW_of (r:=l.row.toRowW) (X:=(true==true))
  (show WShape.has [] (.bool true) .bool=true by first|rfl|decide|simp[WShape.has,WShape.arms,WShape.armsAll])
  (show(WTm.eq .res (.lit (.bool true))).value [] {args:=args,res:=some (.bool true),after:=args}=some (.bool (true==true)) from w_eq_bool (w_res rfl) w_lit) rfl
theorem IV{l:OpenLaw}{n:Nat}{q:Program}{loose:List Str}{XP:(Str->Option Value)->Heap->Prop}{YP:World->Heap->Prop}{d:DefRec}
  (hn:l.most=some n)(Tr:d.params.defaults=[])
  (call:∀(w:World) (s₀ b7:Shared) (mg mb:Str->Option Value) (fa:Addr) (o:Obj) (pm cd doc:Value) (a:Addr) (vs:A8) (ns:B3),
   Ground q loose [] XP w s₀ mg mb b7.heap->YP w b7.heap ->
   b7.heap.get? fa=some o->o.data=.func (docDef d.name d.params d.body d.scope pm cd doc)->b7.heap.CodeRec cd d.name->mg d.name=some (.ref fa) ->
   b7.heap.get? a=some {cls:=.type "list",data:=.seq vs.toArray}->IntsAre vs ns->ns.length<=n->b7.gens=#[] ->
   codeAny (model l.prog w) callerA (.call (.ref fa) ⟨[.ref a],[]⟩) (λr s'=>r=.ok (.ret (.bool true))/\OldK b7.heap s'.heap/\s'.os=b7.os/\AllBare s'.gens) b7) :
  WalkO q loose XP YP l.row.toRowW d [] (λf vs=>PySem.call f vs):=by
 intro w s₀ b7 mg mb G Y fa o pm cd doc dV kV ho hd F6 hD SY hg args vals as OP hlay hrd PX hlo;obtain rfl:dV=.none:=Dflts.none hD Tr;obtain rfl:kV=.none:=Dflts.noKw hD;obtain⟨a,vs,ns,rfl,rfl,P7,hints,hlen⟩:=pP hn OP PX;refine enter_call (codeAny_mono (call w s₀ b7 mg mb fa o pm cd doc a vs ns G Y ho (fd_plain hd) F6 SY P7 hints hlen hg) λr s' hq=>?_);obtain⟨rfl,h2,h3,h4⟩:=hq;exact⟨.inl ⟨.bool true,.bool true,[],rfl,λ_=>rfl,.bool true,qa l _,λ_=>⟨List.Pairwise.nil,λ_ hm=>(nomatch hm)⟩⟩,h2,h3,h4⟩
end Att
namespace L2
open PySem PySem.Spec PyProof.Rows
theorem Iy:∀{vs:A8}{ns:B3},IntsAre vs ns->Vals (ns.map V.int) vs
 |_,_,.nil=>.nil
 |_,_,.cons n t h=>.cons ⟨t,rfl⟩ (Iy h)
def bR (s:Stmt):Arguments:=match s with
 |.FunctionDef _ a _ _ _ _ _ _ _ _=>a
 |_=>{posonlyargs:=[],args:=[],vararg:=none,kwonlyargs:=[],kw_defaults:=[],kwarg:=none,defaults:=[]}
def bE (s:Stmt):List Stmt:=match s with
 |.FunctionDef _ _ b _ _ _ _ _ _ _=>b
 |_=>[]
def ar (s:Stmt):Scope:=match s with
 |.FunctionDef _ _ _ _ _ _ sc _ _ _=>sc
 |_=>{kind:=.function,names:=[],isGenerator:=false,isCoroutine:=false}
abbrev Ml:M6:=λ_ _ _ _ _ _=>False
abbrev E0:XK:=λ_ _ _=>False
theorem vP{X:Cx}:nZ Ml X E0:=λ_ _ _ _ _ _ _ h=>h.elim
structure Px(K:W.Frag)(x qual:Str)(st:Stmt)(f:Addr)(fd:FuncData):Prop where
 ex:∃(oc:Value)(od:Option Addr)(kV doc pm:Value)(an:Option Addr)(l6 ct:Value)(OK:Array (Option Value)),
  fd=W.fnOf x qual (bR st) (bE st) (ar st) .none kV doc pm an l6 ct/\K.lookup f=some ⟨oc,od,.func fd,OK⟩/\W.codeIn K l6 qual=true
 kp:W.keepIn K (.ref f)=true
section
variable {P:Program}{w:World}{K:PySem.W.Frag}{mg:Str->Option Value}{base:Heap}
theorem Px.ok{x qual:Str}{st:Stmt}{f:Addr}{fd:FuncData}{N ps:List Str}{k:Nat}{sp:Sp}(F:Px K x qual st f fd)(S:FX N ps (ar st))(len:∀vs H Q E,sp vs H Q E->vs.length=ps.length)
  (IY:∀(l6:Value) (A:Around) (outer:List Env) (s:Shared) (H:Hp) (vs:A9) (Q:VK) (E:XK),Hu k (A.deeper (envOfC qual (ar st) s.heap.objs.size f l6))->sp vs H Q E ->
   ∃t,K6 (cj Ml P w K mg base N qual (ar st) f l6 A outer s H E).Pb (bE st) t/\t { nx:=λ_ H'=>Q .f6 H',rt:=Q } (start N vs) H):Gf P w K mg base Ml (k+1) f fd ps sp:=by
 obtain⟨oc,od,kV,doc,pm,an,l6,ct,OK,rfl,lk,F6⟩:=F.ex;refine wz lk F6 S len λA outer s H vs Q E hr Oz=>?_;obtain⟨t,h,q⟩:=IY l6 A outer s H vs Q E hr Oz;exact⟨t,h.Pb,q⟩
theorem Px.binds{x qual:Str}{st:Stmt}{f:Addr}{fd:FuncData}{ps:List Str}(F:Px K x qual st f fd)
  (h:∀(kV doc pm:Value)(an:Option Addr)(l6 ct:Value)(us:A8),us.length=ps.length->bindArgs (W.fnOf x qual (bR st) (bE st) (ar st) .none kV doc pm an l6 ct) ⟨us,[]⟩=pure (ps.zip us)):Binds K fd ps []:=by
 obtain⟨oc,od,kV,doc,pm,an,l6,ct,OK,rfl,lk,F6⟩:=F.ex;exact .all (h kV doc pm an l6 ct)
theorem oo{x qual:Str}{st:Stmt}{f:Addr}{oc:Value}{od an:Option Addr}{OK:Array (Option Value)}{kV doc pm l6 ct:Value}(l:K.lookup f=some ⟨oc,od,.func (W.fnOf x qual (bR st) (bE st) (ar st) .none kV doc pm an l6 ct),OK⟩)
  (c:W.codeIn K l6 qual=true)(k:W.keepIn K (.ref f)=true):Px K x qual st f (W.fnOf x qual (bR st) (bE st) (ar st) .none kV doc pm an l6 ct):=⟨⟨oc,od,kV,doc,pm,an,l6,ct,OK,rfl,l,c⟩,k⟩
end
theorem cZ{A:Around}{k:Nat}(hr:Hu k A):A.units+1<cLine:=Cf (Nat.add_le_add_left (by decide:1<=64) _) hr.units
section
variable {X:Cx}
theorem pv(i:Nat){x:Str}{pos:Pos}(hN:X.N[i]?=some x:=by rfl)(hv:ZO X.env.scope x:=by first|exact Or.inl rfl|exact Or.inr (Or.inl rfl)|exact Or.inr (Or.inr rfl))(hd:(x==("__debug__":Str))=false:=by decide)
  (F6:(x==("__classdict__":Str))=false:=by decide):PE X (.Name x pos) (Mj i):=wN hN hv hd F6
end
theorem yJ{A B:Prop}(h:B):if false=true then A else B:=by
 rw[Fm BA];exact h
theorem yE{A B:Prop}(h:A):if true=true then A else B:=by
 rw[Fn rfl];exact h
theorem vk{c A B:Prop} [Decidable c](h1:c->A)(h2:¬c->B):if c then A else B:=by
 by_cases h:c
 ·rw[Fn h];exact h1 h
 ·rw[Fm h];exact h2 h
def FZ (H H':Hp):Prop:=∀b o,H b=some o->H' b=some o
theorem FZ.refl(H:Hp):FZ H H:=λ_ _ h=>h
theorem FZ.trans{H H1 H2:Hp}(a:FZ H H1)(b:FZ H1 H2):FZ H H2:=λc o h=>b c o (a c o h)
theorem FZ.free{H H':Hp}(e:FZ H H'){l:Addr}(h:H' l=Option.none):H l=Option.none:=by
 cases q:H l with
 |none=>rfl
 |some o=>
  rw[e l o q] at h;cases h
theorem FZ.seq{K:W.Frag}{H H':Hp}{a:Addr}{xs:A9}(e:FZ H H')(h:a9 K H a xs):a9 K H' a xs:=by
 rcases h with (h|⟨o,h⟩)|h
 ·exact .inl (.inl (e _ _ h))
 ·exact .inl (.inr ⟨o,e _ _ h⟩)
 ·exact .inr h
def cS (cells:List (Str×Addr)):List (Str×NameKind)->List (Str×Addr)->List (Str×Addr)
 |[],acc=>acc
 |(n,k)::r,acc=>cS cells r (if k==.free then (n,(cells.lookup n).getD 0)::acc else acc)
theorem bp{scope:Scope}{env:Env}(h:∀y∈scope.names,y.2=.free->∃c,env.cells.lookup y.1=some c):closureFor scope env=pure (cS env.cells scope.names []):=by
 unfold closureFor;have key:∀(l:List (Str×NameKind))(acc:List (Str×Addr)),(∀y∈l,y.2=.free->∃c,env.cells.lookup y.1=some c) ->
   (forIn l acc (λx r=>match x with
    | (name,kind)=>if (kind == NameKind.free)=true then do let a <- cellOf env name; pure (ForInStep.yield ((name,a)::r)) else pure (ForInStep.yield r)):Sem (List (Str×Addr)))=pure (cS env.cells l acc):=by
  intro l;induction l with
  |nil=>intro acc _;rfl
  |cons y r ih=>
   intro acc hl;obtain⟨n,k⟩:=y;rw[Ex];have ih':=λacc=>ih acc λy hy=>hl y (Bg _ hy);by_cases hk:(k==NameKind.free)=true
   ·obtain⟨c,hc⟩:=hl (n,k) AZ (by simpa using hk);have e1:cellOf env n=pure c:=by unfold cellOf;have B9:env.cells.lookup n=some c:=hc;rw[B9]
    dsimp only;rw[Fn hk,e1];simp only[pure_bind];rw[ih'];unfold cS;rw[Fn hk];have B9:env.cells.lookup n=some c:=hc;rw[B9]
    conv=>rhs;unfold cS
    rfl
   ·dsimp only;rw[Fm hk];simp only[pure_bind];rw[ih']
    conv=>rhs;unfold cS
    rw[Fm hk]
 have:=key scope.names [] h;simp only[bind_pure] at *;exact this
theorem jt{cells:List (Str×Addr)}:∀{l:List (Str×NameKind)}{acc:List (Str×Addr)}{x:Str}{c:Addr},(∀y∈l,y.2=.free->∃c,cells.lookup y.1=some c)->(∀x c,acc.lookup x=some c->cells.lookup x=some c) ->
  (cS cells l acc).lookup x=some c->cells.lookup x=some c
 |[],_,_,_,_,ha,e=>ha _ _ e
 |(n,k)::r,acc,x,c,h,ha,e=>by
  unfold cS at e;refine jt (λy hy=>h y (Bg _ hy)) ?_ e;intro x c e;by_cases hk:(k==NameKind.free)=true
  ·rw[Fn hk] at e;obtain⟨c',hc⟩:=h (n,k) AZ (by simpa using hk);have B9:cells.lookup n=some c':=hc;rw[CQ] at e;by_cases hx:(x==n)=true
   ·rw[hx] at e;have hxn:x=n:=by simpa using hx
    subst hxn;simp only[B9,Option.getD_some] at e;rw[B9];exact e
   ·have Js:(x==n)=false:=by simpa using hx
    rw[Js] at e;exact ha _ _ e
  ·rw[Fm hk] at e;exact ha _ _ e
theorem cW{cells:List (Str×Addr)}:∀{l:List (Str×NameKind)}{acc:List (Str×Addr)}{x:Str},((x,NameKind.free)∈l\/(acc.lookup x).isSome=true)->((cS cells l acc).lookup x).isSome=true
 |[],_,_,h=>by
  rcases h with h|h
  ·cases h
  ·exact h
 |(n,k)::r,acc,x,h=>by
  unfold cS;refine cW ?_;rcases h with h|h
  ·rcases Bb.mp h with e|h
   ·right
    cases e;simp[CQ]
   ·exact .inl h
  ·right
   split
   ·rw[CQ];split
    ·rfl
    ·exact h
   ·exact h
theorem cQ{env:Env}{x:Str}{k:NameKind}:∀{names:List (Str×NameKind)},(∀y∈names,y.2≠.cell) ->
  (names.map λ(n,k)=>if (k==NameKind.free&&env.scope.kind==.function&&env.kindOf n==some .cell) then (n,NameKind.cell) else (n,k)).lookup x=some k->(k=.cell\/k=.free)->(x,NameKind.free)∈names
 |[],_,h,_=>by simp at h
 |(n,k')::r,hc,h,hk=>by
  rw[Bm,CQ] at h;have ih:=@cQ env x k r (λy hy=>hc y (Bg _ hy));by_cases c:(k'==NameKind.free&&env.scope.kind==.function&&env.kindOf n==some .cell)=true
  ·rw[Fn c] at h;have hf:k'=.free:=by
    have:=(BQ _ _▸(BQ _ _▸c).1).1;simpa using this
   by_cases hx:(x==n)=true
   ·have:x=n:=by simpa using hx
    subst this;subst hf;exact AZ
   ·have Js:(x==n)=false:=by simpa using hx
    simp only[Js] at h;exact Bg _ (ih h hk)
  ·rw[Fm c] at h;by_cases hx:(x==n)=true
   ·simp only[hx] at h;have:x=n:=by simpa using hx
    subst this;have YQ:k'=k:=Fx h;subst YQ;rcases hk with hk|hk
    ·exact absurd hk (hc (x,k') AZ)
    ·subst hk;exact AZ
   ·have Js:(x==n)=false:=by simpa using hx
    simp only[Js] at h;exact Bg _ (ih h hk)
theorem dF{env:Env}{x:Str}:∀{names:List (Str×NameKind)},names.lookup x=some .free ->
  (names.map λ(n,k)=>if (k==NameKind.free&&env.scope.kind==.function&&env.kindOf n==some .cell) then (n,NameKind.cell) else (n,k)).lookup x=some .cell \/
  (names.map λ(n,k)=>if (k==NameKind.free&&env.scope.kind==.function&&env.kindOf n==some .cell) then (n,NameKind.cell) else (n,k)).lookup x=some .free
 |[],h=>by simp at h
 |(n,k')::r,h=>by
  have ih:=@dF env x r;rw[CQ] at h;rw[Bm,CQ];by_cases hx:(x==n)=true
  ·simp only[hx] at h;have hk:k'=.free:=Fx h;by_cases c:(k'==NameKind.free&&env.scope.kind==.function&&env.kindOf n==some .cell)=true
   ·rw[Fn c];simp only[hx];exact .inl trivial
   ·rw[Fm c];simp only[hx,hk];exact .inr trivial
  ·have Js:(x==n)=false:=by simpa using hx
   simp only[Js] at h;by_cases c:(k'==NameKind.free&&env.scope.kind==.function&&env.kindOf n==some .cell)=true
   ·rw[Fn c];simp only[Js];exact ih h
   ·rw[Fm c];simp only[Js];exact ih h
def au (X:Cx)(scope:Scope)(C:Addr)(fp:B2)(N:List Str)(s:Shared)(H:Hp):Cx:=
 {X with N:=N,s₀:=s,H₀:=H,env:=compEnvC scope (cS X.env.cells scope.names []) C X.env,outer:=X.stack,stack:=X.stack,ex:=fp,fn:=λ_=>false,xe:=λ_ _=>False}
def bY (js:A7)(σ:St):St:=js.map λj=>(σ[j]?).join
structure FY(X:Cx)(scope:Scope)(ts:List Str)(cap:List Str)(js:A7):Prop where
 kind:scope.kind=.function
 HA:∀y∈scope.names,y.2≠.cell
 names:∀y∈scope.names,y.2=.local->scope.names.lookup y.1=some .local
 free:∀y∈scope.names,y.2=.free->X.env.kindOf y.1=some .cell\/X.env.kindOf y.1=some .free
 Mc:cap.map some=js.map λj=>X.N[j]?
 Nr:∀y∈cap,scope.names.lookup y=some .free
 nd:(ts++cap).Nodup
theorem bo{names:List (Str×NameKind)}{y:Str}{k:NameKind}(h:names.lookup y=some k):(y,k)∈names:=PySem.mem_of_lookup h
section
variable {X:Cx}{pins:A5}{σ:St}{H:Hp}{s:Shared}{scope:Scope}{ts cap:List Str}{js:A7}{fp:B2}{C:Addr}
theorem FY.cells(CS:FY X scope ts cap js)(ok:X.Ok):∀y∈scope.names,y.2=.free->∃c,X.env.cells.lookup y.1=some c:=λy hy hf=>ok.has _ (CS.free y hy hf)
theorem FY.look(CS:FY X scope ts cap js)(ok:X.Ok){x:Str}{c:Addr}(e:(cS X.env.cells scope.names []).lookup x=some c):X.env.cells.lookup x=some c:=
 jt (CS.cells ok) (λ_ _ z=>by simp at z) e
theorem jP(I:Inv X pins σ H s)(CS:FY X scope ts cap js)(hf:∀b∈fp,GN X pins H b)(J9:∀b∈fp,b<s.heap.objs.size)(hC:s.heap.objs.size<=C):(au X scope C fp (ts++cap) s H).Ok where
 mod:=I.ok.mod
 kind:=CS.kind
 glob:=I.ok.glob
 blt:=I.ok.blt
 above:=hC
 inj:=λx y c h1 h2=>I.ok.inj x y c (CS.look I.ok h1) (CS.look I.ok h2)
 has:=λx hx=>by
  have:(x,NameKind.free)∈scope.names:=by
   rcases hx with hx|hx
   ·exact cQ (env:=X.env) CS.HA hx (.inl rfl)
   ·exact cQ (env:=X.env) CS.HA hx (.inr rfl)
  exact Dh.mp (cW (.inl this))
 Qv:=λx c h _=>by cases (show false=true from h)
 hd:=I.ok.hd
 frames:=I.ok.frames
 M8:=.inl rfl
 UB:=λb hb=>⟨Bf (Bq (J9 b hb) hC),λx c e=>(hf b hb).2.2.2.2.1 x c (CS.look I.ok e)⟩
 bs:=I.bs
 OE:=Bh I.ok.OE I.sz
 Mi:=λb o e hb=>by
  rcases (hf b hb).2.2.2.1 with z|z
  ·exact I.ok.Mi b o e z
  ·have q:=(I.ok.bs b o e).1;rw[z] at q;cases q
 LB:=λb hb z=>by
  rcases Bb.mp (I.Iz b z) with q|q
  ·exact(hf b hb).2.1 q
  ·exact(hf b hb).2.2.1 q
 JM:=I.stack
 Po:=I.HQ
theorem kP{s₄:Shared}{m:Str->Option Value}{u6:A5}(I:Inv X pins σ H s)(CS:FY X scope ts cap js)(hf:∀b∈fp,GN X pins H b)(J9:∀b∈fp,b<s.heap.objs.size)(hC:s.heap.objs.size<=C)
  (old:∀b o,s.heap.get? b=some o->s₄.heap.get? b=some o)(hn:s₄.heap.Ns C m)(OQ:s₄.os=s.os)(hb:AllBare s₄.gens)
  (hp:∀p∈u6,s₄.heap.get? p.1=some p.2/\H p.1=none/\p.1≠C/\p.1∉Jd X.stack/\∀v,p.2.data≠.cell v) :
  Inv (au X scope C fp (ts++cap) s H) u6 (List.replicate ts.length none++bY js σ) H s₄ where
 ok:=jP I CS hf J9 hC
 os:=OQ
 bare:=hb
 base:=Un.kept old
 loc:=⟨m,hn,λi x v h1 h2 h3=>by
  by_cases hi:i<ts.length
  ·rw[CG (by simpa using hi)] at h2;rw[Et] at h2;split at h2<;>cases h2
  ·have C1:cap[i-ts.length]?=some x:=by
    have:=h1;show cap[i-ts.length]?=some x;rw[show(au X scope C fp (ts++cap) s H).N=ts++cap from rfl,CF (by lia)] at this;exact this
   rw[CF (by simpa using hi),DE] at h2;unfold bY at h2;rw[Bo] at h2;cases hj:js[i-ts.length]? with
   |none=>rw[hj] at h2;cases h2
   |some j=>
    rw[hj] at h2;have z8:(σ[j]?).join=some v:=Fx h2;have RJ:σ[j]?=some (some v):=by
     cases e:σ[j]? with
     |none=>rw[e] at z8;cases z8
     |some o=>rw[e] at z8;rw[show o=some v from z8]
    have hN:X.N[j]?=some x:=by
     have:=congrArg (λl=>l[i-ts.length]?) CS.Mc;simp only[Bo,C1,hj] at this;exact(Fx this).symm
    have J8:=CS.Nr x (Bp C1);have hk:=CS.free _ (bo J8) rfl;obtain⟨m0,hn0,hl⟩:=I.loc;obtain⟨u,r,l⟩:=hl j x v hN RJ (.inr hk);refine⟨u,r,?_⟩;rcases l with ⟨k,_⟩|⟨k,c,e,z⟩
    ·rcases hk with q|q<;>(rw[q] at k;cases k)
    ·obtain⟨c',e'⟩:=Dh.mp (cW (cells:=X.env.cells) (acc:=[]) (.inl (bo J8)));have e2:=CS.look I.ok e';have e3:X.env.cells.lookup x=some c:=e;rw[e3] at e2;cases e2;obtain⟨o,ho,hd⟩:=z
     exact .inr ⟨dF J8,c,e',⟨o,old _ _ ho,hd⟩⟩⟩
 cell:=λx c e=>by
  obtain⟨v,o,ho,hd⟩:=I.cell x c (CS.look I.ok e);exact⟨v,o,old _ _ ho,hd⟩
 free:=I.b9.fresh hC
 GL:=λx c e=>I.GL x c (CS.look I.ok e)
 pin:=λp QV=>by
  rcases Ba.mp QV with z|z
  ·obtain⟨e,n,ne,nf,d⟩:=I.pin p (Bu _ z);refine⟨old _ _ e,n,Bf (Bq (Fv e) hC),λq=>?_,d⟩;rcases Bb.mp (I.Iz _ q) with q|q
   ·exact ne q
   ·exact nf q
  ·exact hp p z
 b9:=I.b9.kept old
 len:=by
  show(List.replicate ts.length none++bY js σ).length=(ts++cap).length;have:=congrArg List.length CS.Mc;simp only[AU] at this;rw[AV,AV,DE,bY,AU,this]
end
theorem bI{prog:Program}{w:World}{A:Around}{R:Result->Shared->Prop}{s:Shared}{elt target iter:Expr}{ifs:List Expr}{rest:List Comprehension}{scope:Scope}{pos:Pos}{it acc:Value}{env:Env}
  (h0:codeAny (model prog w) A (.compLoop (.SetComp elt (⟨target,iter,ifs,0⟩::rest) scope pos) 0 it acc env) R s)
  (h:wpAny (model prog w) A (pyIter it) (λRI s'=>codeAny (model prog w) A (.compLoop (.SetComp elt (⟨target,iter,ifs,0⟩::rest) scope pos) 0 RI acc env) R s')
   (notedBy (model prog w) A env λx s'=>R (.error x) s') s) :
  codeAny (model prog w) A (.compStart (.SetComp elt (⟨target,iter,ifs,0⟩::rest) scope pos) 0 it acc env) R s:=by
 refine codeAny_of_tree (show wpAny _ A (Sem.onRaise (compStart (.SetComp elt (⟨target,iter,ifs,0⟩::rest) scope pos) 0 it acc env) _) _ _ s from wpAny_notedAt ?_);unfold compStart;refine Fh (m:=ask) (wpAny_askSetting (wpAny_ite ?_));split
 ·(first|exact Fi ⟨rfl,h0⟩|exact Fh (Fi (Fi ⟨rfl,h0⟩)))
 ·refine Fh (FS ?_)
  first
   |exact Fh (wpAny_standAt (Fh (c6 h λ_ _ h'=>Fi ⟨rfl,h'⟩)))
   |(show wpAny _ _ (standAt iter.pos >>= _) _ _ s;exact Fh (wpAny_standAt (Fh (c6 h λ_ _ h'=>Fi ⟨rfl,h'⟩))))
def j3:List Str->List Str
 |[]=>[]
 |x::r=>if x∈j3 r then j3 r else x::j3 r
theorem GI{x:Str}:∀{l:List Str},x∈j3 l↔x∈l
 |[]=>Iff.rfl
 |y::r=>by
  unfold j3;split
  ·rename_i h;rw[GI,Bb];exact⟨.inr,λz=>z.elim (λe=>by rw[e];exact GI.mp h) id⟩
  ·rw[Bb,Bb,GI]
theorem HJ:∀l:List Str,(j3 l).Nodup
 |[]=>.nil
 |y::r=>by
  unfold j3;split
  ·exact HJ r
  ·rename_i h;exact BN.mpr ⟨h,HJ r⟩
theorem HN:∀l:List Str,(j3 l).length<=l.length
 |[]=>AS _
 |y::r=>by
  unfold j3;have:=HN r;split
  ·exact Ey this
  ·exact FM this
section
variable {X:Cx}{pins:A5}{σ:St}{H:Hp}{s:Shared}{scope:Scope}{ts cap:List Str}{js:A7}{fp:B2}{C D:Addr}
theorem fY{s':Shared}{c5:St}{H':Hp}{o:Obj}(I:Inv X pins σ H s)(hf:∀b∈fp,GN X pins H b)
  (I':Inv (au X scope C fp (ts++cap) s H) [(D,o)] c5 H' s'):Inv X pins σ H' s':=by
 have u:=I'.base;refine I.Mx (ch:=fp) I'.os ⟨λb o e n hb hx=>u.keep b o e n hb hx,λb o e n hb hx=>u.slot b o e n hb hx,λb o e n hx=>u.free b o e n hx,λb o e hx=>u.there b o e hx,λb xs e=>u.JO b xs e,λb o xs e=>u.JL b o xs e,λb ps e=>u.JK b ps e⟩ I'.b9 I'.bare λb hb=>?_;obtain⟨f0,f1,f2,f3,f4,f5⟩:=hf b hb;exact⟨f3,f1,f4,f5⟩
end
theorem jN(t:SetTable)(n:Nat):(t.orStandIn n).led=t.led/\((t.orStandIn n).plain=t.plain\/(t.orStandIn n).plain=false):=by
 unfold SetTable.orStandIn;split
 ·exact⟨rfl,.inl rfl⟩
 ·exact⟨rfl,.inr rfl⟩
theorem md(t:SetTable)(es:Array (Int×Value))(h:Int)(x:Value):(layNew t es h x).2.1.led=t.led:=by
 unfold layNew;split
 ·exact(jN _ _).1
 ·rfl
theorem qP{mask finger moves:Nat}{led plain:Bool}{hashes:Array Int}{r:SetTable×Array Nat}(h:SetTable.laid mask finger moves led plain hashes=some r):r.1.led=led/\r.1.plain=plain:=by
 unfold SetTable.laid at h;simp only[Option.bind_eq_bind,Option.pure_def,Option.bind_eq_some_iff] at h;obtain⟨_,_,h⟩:=h;cases h;exact⟨rfl,rfl⟩
theorem oN(t:SetTable)(es:Array (Int×Value))(n:Nat):(relayAll t es n).2.1.led=t.led/\(t.plain=false->(relayAll t es n).2.1.plain=false):=by
 unfold relayAll;split
 ·rename_i t' order h;obtain⟨h1,h2⟩:=qP h;dsimp only;split
  ·exact⟨h1,λz=>h2.trans z⟩
  ·exact⟨rfl,λ_=>rfl⟩
 ·exact⟨rfl,λ_=>rfl⟩
def IA (P:Program)(w:World)(L:Bool)(o:Obj)(ys:List Str):Prop:=o.ExactSet/\∃es ep t,o.data=.set es ep t/\ElemsOf (strKind P w) es.toList/\(es.toList.map λe=>strOf e.2).Perm (j3 ys)/\t.fits es.size=true/\t.led=L/\(0<es.size->t.plain=false)
theorem IA.fresh(P:Program)(w:World)(L:Bool):IA P w L {cls:=.type "set",dict:=none,data:=.set #[] 0 (.fresh 0 0 L)} []:=
 ⟨⟨rfl,rfl,rfl⟩,#[],0,_,rfl,λe he=>by simp at he,.refl _,by rfl,rfl,λh=>absurd h (BI _)⟩
section
variable {prog:Program}{w:World}{A:Around}{E:A3}{s:Shared}{a:Addr}{o:Obj}{L:Bool}{ys:List Str}{z:Str}{tz:Tok}
theorem IA.nc(h:IA prog w L o ys):∀v,o.data≠.cell v:=λv q=>by
 obtain⟨_,es,ep,t,hd,_⟩:=h;rw[hd] at q;cases q
theorem sJ{e:Int×Value}{l:List (Int×Value)}(h:ElemsOf (strKind prog w) l)(he:e∈l):∃x t,e.2=.str x t:=by
 obtain⟨k,hk⟩:=h.keys e he;obtain⟨t,ht⟩:=Value.isStrOf_shape hk;exact⟨k,t,ht⟩
theorem isz(x y:Str)(t:Tok):Value.isStrOf x (.str y t)=decide (x=y):=by
 cases h:Value.isStrOf x (.str y t) with
 |true=>
  obtain⟨u,e⟩:=Value.isStrOf_shape h;cases e;exact(Fo rfl).symm
 |false=>
  refine(Fp λe=>?_).symm;subst e;have:Value.isStrOf x (.str x t)=true:=Fo rfl;rw[this] at h;cases h
theorem xa{g:Bool->Sem Unit}(hg:∀(b:Bool)(b7:Shared)(Q':Unit->Shared->Prop),Q' () b7->wpAny (model prog w) A (g b) Q' E b7){es:Array (Int×Value)}{ep:Nat}{t:SetTable}(ho:s.heap.get? a=some o)(hex:o.ExactSet)(hd:o.data=.set es ep t)
  {u9:Array (Int×Value)}{t2:SetTable}(Tp:ElemsOf (strKind prog w) u9.toList)(C6:(u9.toList.map λe=>strOf e.2).Perm (j3 ys))(Pk:u9.size<scanBound)(hf2:t2.fits u9.size=true)(Ta:t2.led=L)(SU:t2.plain=false){G1:Bool}{R:Option Bool->Shared->Prop}
  (h:∀h' o',Heap.SameBut a s.heap h'->h'.get? a=some o'->IA prog w L o' ys->R (some true) {s with heap:=h'}) :
  wpAny (model prog w) A (storeSet a u9 t2 >>= λ_=>if (!G1&&t2.tooFull)=true then g (relayAll t2 u9 (SetTable.grown u9.size)).2.2 >>= λ_=>storeSet a (relayAll t2 u9 (SetTable.grown u9.size)).1 (relayAll t2 u9 (SetTable.grown u9.size)).2.1 >>= λ_=>pure (some true) else pure (some true)) R E s:=by
 have at1:∀(h0:Heap)(o0:Obj)(es0:Array (Int×Value))(ZD:Nat)(t0:SetTable)(Ot:Array (Int×Value))(t':SetTable),h0.get? a=some o0->o0.data=.set es0 ZD t0->(h0.update a (Obj.putSet Ot t')).get? a=some {o0 with data:=.set Ot (ZD+1) t'}:=λh0 o0 es0 ZD t0 Ot t' h1 h2=>by
  have:=Heap.get?_update_self (Obj.putSet Ot t') h1 (by rw[putSet_of Ot t' h2];rfl);rw[putSet_of Ot t' h2] at this;exact this
 refine Fh (wpAny_storeSet_of ho hd ?_ (fits_of_scanBound Pk));have g1:=at1 _ _ _ _ _ u9 t2 ho hd;have b1:=Heap.SameBut.update s.heap a (Obj.putSet u9 t2);split
 ·have hp:=relayAll_perm t2 u9 (SetTable.grown u9.size);have J8:=relayAll_fits t2 u9 (SetTable.grown u9.size);obtain⟨LS,QU⟩:=oN t2 u9 (SetTable.grown u9.size);generalize relayAll t2 u9 (SetTable.grown u9.size)=Rl at hp J8 LS QU ⊢;obtain⟨ZC,t3,gave2⟩:=Rl;dsimp only at hp J8 LS QU ⊢;have hsz:ZC.size=u9.size:=by rw[<- Bk,hp.length_eq,Bk]
  refine Fh (hg _ _ _ (Fh (wpAny_storeSet_of g1 rfl ?_ (fits_of_scanBound (by rw[hsz];exact Pk)))));refine Fi (h _ _ (b1.trans (Heap.SameBut.update _ a _)) (at1 _ _ _ _ _ ZC t3 g1 rfl) ⟨hex,ZC,_,t3,rfl,Tp.perm hp,(hp.map _).trans C6,J8,LS.trans Ta,λ_=>QU SU⟩)
 ·exact Fi (h _ _ b1 g1 ⟨hex,u9,_,t2,rfl,Tp,C6,hf2,Ta,λ_=>SU⟩)
theorem ZM{Q:A3}(ho:s.heap.get? a=some o)(h:IA prog w L o ys)(hb:(j3 ys).length+1<scanBound)
  (hQ:∀h' o',Heap.SameBut a s.heap h'->h'.get? a=some o'->IA prog w L o' (z::ys)->Q .none {s with heap:=h',toks:=s.toks+1}) :
  wpAny (model prog w) A (call (.builtin "set.add") [.ref a,.str z tz]) Q E s:=by
 obtain⟨hex,es,ep,t,hd,OC,hp,hf,hl,E8⟩:=h;have hn:es.size=(j3 ys).length:=by rw[<- hp.length_eq,AU,Bk]
 have E1:(strKind prog w).is z (.str z tz)=true:=Fo rfl;have Um:(Value.str z tz).scannable=true:=rfl;refine FP F.slot_set_add ⟨o,ho,hex.1⟩ F.entry_set_add ?_ (F.args_set_add_2 _ _);unfold Builtin.«set.add» Builtin.Frozenset.oneOther;simp only[List.isEmpty_nil,bind_assoc];unfold Builtin.Frozenset.addrOf setAdd setAddHashed setAddHashedIn;refine Fh (Fi (Fh (Fi ?_)));refine Fh (Ft (Fh ((strKind prog w).pyHash E1 (Ft (Fh (FH (s:={s with toks:=s.toks+1}) ho hd hf ?_))))));dsimp only;rw[byScan_of Um (by rw[hn];lia) OC];simp only[↓reduceIte];unfold setAddByScan;refine Fh (Fh (FS (Fh (wpAny_setScan_of E1 ho hd hf OC ?_))));have Pg:∀e∈es.toList,((strKind prog w).is z e.2=true↔strOf e.2=z):=λe he=>by
  obtain⟨x,t,ex⟩:=sJ OC he;rw[ex];show Value.isStrOf z (.str x t)=true↔x=z;rw[isz,decide_eq_true_iff];exact eq_comm
 have IX:z∈ys↔∃e∈es.toList,strOf e.2=z:=by
  rw[<- GI,<- hp.mem_iff,AW]
 cases hr:List.findIdx? (λe=>(strKind prog w).is z e.2) es.toList with
 |some j=>
  obtain⟨hj,hpj,_⟩:=List.findIdx?_eq_some_iff_getElem.mp hr;have hz:z∈ys:=IX.mpr ⟨_,BG hj,(Pg _ (BG hj)).mp hpj⟩;have e1:j3 (z::ys)=j3 ys:=by
   show(if z∈j3 ys then j3 ys else z::j3 ys)=_;rw[Fn (GI.mpr hz)]
  refine Fi (Fi (show wpAny _ _ (ret Value.none) _ _ _ from Fi ⟨_,rfl,?_⟩));exact hQ s.heap o (Heap.SameBut.refl a s.heap) ho ⟨hex,es,ep,t,hd,OC,by rw[e1];exact hp,hf,hl,E8⟩
 |none=>
  have hz:z∉ys:=λhz=>by
   obtain⟨e,he,ez⟩:=IX.mp hz;have:=List.findIdx?_eq_none_iff.mp hr e he;rw[(Pg e he).mpr ez] at this;cases this
  have e1:j3 (z::ys)=z::j3 ys:=by
   show(if z∈j3 ys then j3 ys else z::j3 ys)=_;rw[Fm (λq=>hz (GI.mp q))]
  have y9:=layNew_perm t es ((strKind prog w).hash z) (.str z tz);have Ls:=layNew_fits t es ((strKind prog w).hash z) (.str z tz);have OR:=md t es ((strKind prog w).hash z) (.str z tz);dsimp only;generalize layNew t es ((strKind prog w).hash z) (.str z tz)=Ln at y9 Ls OR ⊢;obtain⟨u9,t1,G1,gave⟩:=Ln;dsimp only at y9 Ls OR ⊢;rw[CZ] at y9;have hsz:u9.size=(j3 ys).length+1:=by rw[<- Bk,y9.length_eq,AV,Bk,hn];rfl
  have C6:(u9.toList.map λe=>strOf e.2).Perm (j3 (z::ys)):=by
   rw[e1];refine(y9.map _).trans ?_;rw[Bi];exact(DG).trans (hp.cons z)
  have gw:∀(b:Bool)(b7:Shared)(Q':Unit->Shared->Prop),Q' () b7->wpAny (model prog w) A.in1 (match b with|true=>rule "set.scan.the-table-gave-way" |false=>pure ()) Q' E b7:=λb b7 Q' hq=>by
   cases b
   ·exact Fi hq
   ·exact FS hq
  refine Fh (gw _ _ _ ?_);have fin:∀h' o',Heap.SameBut a s.heap h'->h'.get? a=some o'->IA prog w L o' (z::ys)->wpAny (model prog w) A.in1 (pure true) (λ_ s'=>wpAny (model prog w) A.in1 (ret Value.none) (λfin s'=>∃v,fin=Fin.done (Flow.ret v)/\Q v s') E s') E {s with heap:=h',toks:=s.toks+1}:=λh' o' h1 h2 h3=>Fi (Fi ⟨_,rfl,hQ h' o' h1 h2 h3⟩);split
  ·refine Fh ?_;rw[hashByValue_scannable 8 Um];refine Fi (xa (s:={s with toks:=s.toks+1}) gw ho hex hd ((OC.push E1 Um).perm y9) C6 (by lia) (SetTable.fits_plain_off Ls) (OR.trans hl) rfl fin)
  ·rename_i npl;refine Fh (Fi ?_);exact xa (s:={s with toks:=s.toks+1}) gw ho hex hd ((OC.push E1 Um).perm y9) C6 (by lia) Ls (OR.trans hl) (by cases hq:t1.plain with|false=>rfl|true=>exact absurd hq npl) fin
def fU (w:World):Bool:=!w.params.followText "set-order"
theorem ur{Q:A3}(h:Q (.ref s.heap.objs.size) {s with heap:=s.heap.push {cls:=.type "set",dict:=none,data:=.set #[] 0 (.fresh 0 0 (fU w))}}):wpAny (model prog w) A (newSet (.type "set")) Q E s:=by
 unfold newSet setsByText;refine Fh (Fh (wpAny_askSetting (Fi ?_)));simp only[newObj];exact Fh (wpAny_alloc (Fi h))
end
def Mz:TT:=λ_ H Q=>Q true H
def iK (J:It)(k:Nat)(js:A7)(g:TG)(tc:TT)(te:TE)(σ:St)(H1:Hp)(Q:VK):Prop:=
 ∃W:Nat->Nat->A9->Hp->Prop,(∃m,W 0 m [] H1)/\∀i m ys H,W i m ys H ->
  (J.stop i H/\ys.length<=sizeLine/\∀p,H p=none->Q (.ref p) (upd H p (.lst ys))) \/
  (J.go i H/\ys.length<sizeLine/\∀x H',J.D8 i H x H'->g x (List.replicate k none++bY js σ) H' fun c8 H2=>tc c8 H2 λb H3=>if b=true then te c8 H3 λy H4=>∃m',m'<m/\W (i+1) m' (ys++[y]) H4 else ∃m',m'<m/\W (i+1) m' ys H3)
def vQ (wi:TI)(k:Nat)(js:A7)(g:TG)(tc:TT)(te:TE):TE:=fun σ H Q=>wi σ H λJ H1=>iK J k js g tc te σ H1 Q
def K5 (X:Cx)(ifs:List Expr)(t:TT):Prop:=
 ∀(pins:A5)(s:Shared)(σ:St)(H:Hp)(Q:Bool->Hp->Prop),Inv X pins σ H s->t σ H Q ->
  (wq X) (forIn ifs true λc r=>if r=true then do let ok <- isTrue c X.env (eval c X.env);pure (ForInStep.yield ok) else pure (ForInStep.yield r)) (TP X pins σ Q) X.xe s
theorem aV{X:Cx}:K5 X [] Mz:=λ_ _ _ H _ I h=>wpAny_tests_nil ⟨H,I,h⟩
theorem cH{X:Cx}{c:Expr}{t:TT}(h:PT X c t):K5 X [c] t:=λpins s σ H Q I hw=>wpAny_tests_one (h pins s σ H Q I hw)
abbrev uY(a7:A8)(n:Nat):Obj:={cls:=.type "list",data:=.seq a7.toArray n}
abbrev Ty:Bool->Type
 |true=>Str
 |false=>V
abbrev Kw:Bool->String
 |true=>"set.add"
 |false=>"list.append"
abbrev lim:Bool->Nat
 |true=>4000
 |false=>sizeLine
def Ob (P:Program)(w:World):(c:Bool)->Obj->List (Ty c)->Prop
 |true,o,ys=>IA P w (fU w) o ys
 |false,o,ys=>∃a7 n,o=uY a7 n/\Vals ys a7
abbrev Tk:(c:Bool)->V->(Ty c->Prop)->Prop
 |true,y,k=>∃z,y=.str z/\k z
 |false,y,k=>k y
abbrev ap:(c:Bool)->List (Ty c)->Ty c->List (Ty c)
 |true,ys,z=>z::ys
 |false,ys,y=>ys++[y]
abbrev PH(w:World):Bool->Obj
 |true=>{cls:=.type "set",dict:=none,data:=.set #[] 0 (.fresh 0 0 (fU w))}
 |false=>{cls:=.type "list",dict:=none,data:=.seq ([]:A8).toArray}
abbrev LV:Bool->Sem Value
 |true=>newSet (.type "set")
 |false=>newList []
abbrev uM(elt:Expr):Bool->Sem Unit
 |true=>standAt elt.pos
 |false=>pure ()
section
variable {prog:Program}{w:World}{A:Around}{E:A3}{s:Shared}{c:Bool}
theorem Ob.nc{o:Obj}{ys:List (Ty c)}(h:Ob prog w c o ys):∀v,o.data≠.cell v:=by
 cases c with
 |true=>exact IA.nc h
 |false=>obtain⟨a7,n,rfl,_⟩:=h;intro v z;cases z
theorem Ob.nil:Ob prog w c (PH w c) []/\(PH w c).isFreed=false:=by
 cases c with
 |true=>exact⟨IA.fresh _ _ _,rfl⟩
 |false=>exact⟨⟨[],0,rfl,.nil⟩,rfl⟩
theorem sS{Q:A3}(h:Q (.ref s.heap.objs.size) {s with heap:=s.heap.push (PH w c)}):wpAny (model prog w) A (LV c) Q E s:=by
 cases c with
 |true=>exact ur h
 |false=>exact wpAny_newObj_type h
theorem Ob.add{o:Obj}{D:Addr}{ys:List (Ty c)}{y:V}{yv:Value}{k:Ty c->Prop}{Q:A3}(ho:s.heap.get? D=some o)(h:Ob prog w c o ys)(r:RelV y yv)(tk:Tk c y k)(hz:ys.length<lim c)
  (hQ:∀h' o' z t,Heap.SameBut D s.heap h'->h'.get? D=some o'->Ob prog w c o' (ap c ys z)->k z->Q .none {s with heap:=h',toks:=t}):wpAny (model prog w) A (call (.builtin (Kw c)) [.ref D,yv]) Q E s:=by
 cases c with
 |true=>
  obtain⟨z,rfl,kz⟩:=tk;obtain⟨t,rfl⟩:∃t,yv=.str z t:=r;exact ZM ho h (Cf (FM (Bh (HN ys) (BS hz))) (show 4000+1<scanBound by decide)) λh9 o9 PZ Qk v9=>hQ h9 o9 z _ PZ Qk v9 kz
 |false=>
  obtain⟨a7,n,rfl,v⟩:=h;have hl:=v.length;refine append_at (hsz:=by rw[Br];have:ys.length<sizeLine:=hz;lia) ho λh9 PZ Qk=>hQ h9 (uY (a7++[yv]) (n+1)) y _ PZ ?_ ⟨_,_,rfl,v.append (.cons r .nil)⟩ tk;rw[Qk];simp[uY,List.push_toArray]
end
abbrev iL(c:Bool)(elt target iter:Expr)(ifs:List Expr)(scope:Scope)(pos:Pos):Expr:=match c with
 |true=>.SetComp elt [⟨target,iter,ifs,0⟩] scope pos
 |false=>.ListComp elt [⟨target,iter,ifs,0⟩] scope pos
theorem sZ{M:Model}{A:Around}{s:Shared}{elt:Expr}{c:Bool}{E:A3}{Q:Unit->Shared->Prop}(h:Q () s):wpAny M A (uM elt c) Q E s:=by
 cases c with
 |true=>exact wpAny_standAt h
 |false=>exact Fi h
theorem sh{A:Around}{elt target iter:Expr}{ifs:List Expr}{scope:Scope}{pos:Pos}{it acc:Value}{env:Env}{c:Bool}:A.under (.compLoop (iL c elt target iter ifs scope pos) 0 it acc env)=A:=by cases c<;>rfl
theorem vZ{prog:Program}{w:World}{elt target iter:Expr}{ifs:List Expr}{scope:Scope}{pos:Pos}{it acc:Value}{env:Env}{c:Bool}:(model prog w).den (.compLoop (iL c elt target iter ifs scope pos) 0 it acc env)=(compTurn (iL c elt target iter ifs scope pos) 0 it acc env).onRaise (λx=>do noteFrame x env;theTreesLotGoes x):=by cases c<;>rfl
theorem kh{elt target iter:Expr}{ifs:List Expr}{scope:Scope}{pos:Pos}{it acc:Value}{env:Env}{c:Bool}:compTurn (iL c elt target iter ifs scope pos) 0 it acc env=(do
   standAt iter.pos
   match <- pyNext it with
   |none=>pure (.done .next)
   |some v=>
    letOwnedTupleGo target it v
    assign target env v
    let mut ok:=true
    for c in ifs do
     if ok then ok <- isTrue c env (eval c env)
    if ok then
     (do
      let v <- eval elt env
      uM elt c
      let _ <- call (.builtin (Kw c)) [acc,v])
    again (.compLoop (iL c elt target iter ifs scope pos) 0 it acc env)):=by cases c <;> rfl
theorem mh{prog:Program}{w:World}{A:Around}{R:Result->Shared->Prop}{s:Shared}{elt target iter:Expr}{ifs:List Expr}{scope:Scope}{pos:Pos}{it acc:Value}{env:Env}{c:Bool}(I:Nat->Shared->Prop)
  (turn:∀n s,I n s->wpAny (model prog w) A (pyNext it) (λr b7=>match r with
   |none=>R (.ok .next) b7
   | some v=>wpAny (model prog w) A (letOwnedTupleGo target it v) (λ_ u5=>wpAny (model prog w) A (assign target env v) (λ_ k6 =>
     wpAny (model prog w) A (forIn ifs true λc r=>if r=true then do let ok <- isTrue c env (eval c env); pure (ForInStep.yield ok) else pure (ForInStep.yield r)) (λok i7 =>
      if ok=true then wpAny (model prog w) A (eval elt env) (λx s₄ =>
       wpAny (model prog w) A (call (.builtin (Kw c)) [acc,x]) (λ_ G2=>∃m,m < n/\I m G2) (λ_ _=>False) s₄) (λ_ _=>False) i7
      else ∃m,m < n/\I m i7) (λ_ _=>False) k6) (λ_ _=>False) u5) (λ_ _=>False) b7) (λ_ _=>False) s)
  (n:Nat) (h:I n s):codeAny (model prog w) A (.compLoop (iL c elt target iter ifs scope pos) 0 it acc env) R s:=by
 refine codeAny_loop (by cases c<;>rfl) I (λn s hI=>?_) n h;rw[sh,vZ];refine wpAny_noted ?_;rw[kh];refine Fh (wpAny_standAt (Fh (Fq (turn n s hI) (λr b7 i8=>?_) λ_ _ h'=>h'.elim)));cases r with
 |none=>exact Fi i8
 |some v=>
  refine Fh (Fq i8 (λ_ u5 G7=>?_) λ_ _ h'=>h'.elim);refine Fh (Fq G7 (λ_ k6 p6=>Fh (Fq p6 (λok i7 C5=>?_) λ_ _ h'=>h'.elim)) λ_ _ h'=>h'.elim);cases ok with
  |false=>exact Fi ⟨rfl,C5⟩
  |true=>
   exact Fh (Fh (Fq C5 (λx s₄ N9=>Fh (sZ (Fh (Fq N9 (λ_ G2 N8=>Fi (Fi ⟨rfl,N8⟩)) λ_ _ h'=>h'.elim)))) λ_ _ h'=>h'.elim))
section
variable {X:Cx}{pins:A5}{σ:St}{H:Hp}{s:Shared}{scope:Scope}{ts cap:List Str}{js:A7}{fp:B2}{C D:Addr}
theorem iG{s':Shared}{c5:St}{H':Hp}{ys:A9}{a7:A8}{n:Nat}(I:Inv X pins σ H s)(hf:∀b∈fp,GN X pins H b)
  (hC:s.heap.objs.size<=C)(hD:s.heap.objs.size<=D)(I':Inv (au X scope C fp (ts++cap) s H) [(D,uY a7 n)] c5 H' s')(hv:Vals ys a7)(hz:ys.length<=sizeLine):Inv X pins σ (upd H' D (.lst ys)) s':=by
 obtain⟨Tz,Pm,Pn,Uv,hDd⟩:=I'.pin (D,uY a7 n) (Bc _ AZ);have nD:∀b o,s.heap.get? b=some o->b≠D:=λb o e=>Bf (Bq (Fv e) hD);have Wv:∀b o,H b=some o->b≠D:=λb o e=>Bf (Bq (I.b9.lt e) hD);have u:=I'.base;refine I.Mx (ch:=fp) I'.os ⟨λb o e n hb hx=>u.keep b o e n hb hx,λb o e n hb hx=>u.slot b o e n hb hx,λb o e n hx=>?_,λb o e hx=>u.there b o e hx,λb xs e=>?_,λb o xs e=>?_,λb ps e=>?_⟩ ?_ I'.bare λb hb=>?_
 ·rw[aj (nD b o e)];exact u.free b o e n hx
 ·rw[aj (Wv b _ e)];exact u.JO b xs e
 ·rw[aj (Wv b _ e)];exact u.JL b o xs e
 ·rw[aj (Wv b _ e)];exact u.JK b ps e
 ·intro b o e;by_cases hb:b=D
  ·subst hb;rw[ae] at e;cases e;exact⟨hz,a7,n,hv,Tz⟩
  ·rw[aj hb] at e;refine(I'.b9 b o e).JG (λ_ _ _ q=>q) (λc q=>?_) λc xs q=>?_
   ·by_cases hc:c=D
    ·subst hc;rw[Pm] at q;cases q
    ·rw[aj hc];exact q
   ·by_cases hc:c=D
    ·subst hc;rw[Pm] at q;cases q
    ·rw[aj hc];exact q
 ·obtain⟨f0,f1,f2,f3,f4,f5⟩:=hf b hb;exact⟨f3,f1,f4,f5⟩
theorem cX{u6:A5}{c5:St}{H':Hp}{s':Shared}(I:Inv X pins σ H s)(CS:FY X scope ts cap js)(hf:∀b∈fp,GN X pins H b)(I':Inv (au X scope C fp (ts++cap) s H) u6 c5 H' s') :
  Inv (au X scope C fp (ts++cap) s H) u6 (List.replicate ts.length none++bY js σ) H' s':=by
 refine⟨I'.ok,I'.os,I'.bare,I'.base,?_,I'.cell,I'.free,I'.GL,I'.pin,I'.b9,?_⟩
 ·obtain⟨m,hn,_⟩:=I'.loc;refine⟨m,hn,λi x v h1 h2 h3=>?_⟩;by_cases hi:i<ts.length
  ·rw[CG (by simpa using hi)] at h2;rw[Et] at h2;split at h2<;>cases h2
  ·have C1:cap[i-ts.length]?=some x:=by
    have:=h1;rw[show(au X scope C fp (ts++cap) s H).N=ts++cap from rfl,CF (by lia)] at this;exact this
   rw[CF (by simpa using hi),DE] at h2;unfold bY at h2;rw[Bo] at h2;cases hj:js[i-ts.length]? with
   |none=>rw[hj] at h2;cases h2
   |some j=>
    rw[hj] at h2;have z8:(σ[j]?).join=some v:=Fx h2;have RJ:σ[j]?=some (some v):=by
     cases e:σ[j]? with
     |none=>rw[e] at z8;cases z8
     |some o=>rw[e] at z8;rw[show o=some v from z8]
    have hN:X.N[j]?=some x:=by
     have:=congrArg (λl=>l[i-ts.length]?) CS.Mc;simp only[Bo,C1,hj] at this;exact(Fx this).symm
    have J8:=CS.Nr x (Bp C1);have hk:=CS.free _ (bo J8) rfl;obtain⟨m0,hn0,hl⟩:=I.loc;obtain⟨u,r,l⟩:=hl j x v hN RJ (.inr hk);refine⟨u,r,?_⟩;rcases l with ⟨k,_⟩|⟨k,c,e,z⟩
    ·rcases hk with q|q<;>(rw[q] at k;cases k)
    ·obtain⟨c',e'⟩:=Dh.mp (cW (cells:=X.env.cells) (acc:=[]) (.inl (bo J8)));have e2:=CS.look I.ok e';have e3:X.env.cells.lookup x=some c:=e;rw[e3] at e2;cases e2;obtain⟨o,ho,hd⟩:=z;have Wk:c∉fp:=λq=>(hf c q).2.2.2.2.1 x c e rfl;obtain⟨sl,hg⟩:=I'.base.any ho (I.GL x c e) Wk;exact .inr ⟨dF J8,c,e',⟨_,hg,hd⟩⟩
 ·show(List.replicate ts.length none++bY js σ).length=(ts++cap).length;have:=congrArg List.length CS.Mc;simp only[AU] at this;rw[AV,AV,DE,bY,AU,this]
structure Ko(X:Cx)(tg:Expr)(J:It)(fp:B2)(it:Addr)(tn:Nat->Heap->Prop):Prop where
 item:∀(i:Nat)(pins:A5)(s:Shared)(σ:St)(H:Hp)(E:A3),Inv X pins σ H s->(∀b∈fp,GN X pins H b)->tn i s.heap->J.go i H ->
  (wq X) (pyNext (.ref it)) (λr s1=>∃u,r=some u /\
   (wq X) (letOwnedTupleGo tg (.ref it) u) (λ_ s2=>∃x H',Inv X pins σ H' s2/\RelV x u/\J.D8 i H x H'/\tn (i+1) s2.heap/\∀b∈fp,H' b=none) E s1) E s
 done:∀(i:Nat)(pins:A5)(s:Shared)(σ:St)(H:Hp)(E:A3),Inv X pins σ H s->(∀b∈fp,GN X pins H b)->tn i s.heap->J.stop i H ->
  (wq X) (pyNext (.ref it)) (λr s1=>r=none/\Inv X pins σ H s1) E s
structure TurnOk(P:Program)(w:World)(fp:B2)(it:Addr)(tn:Nat->Heap->Prop):Prop where
 obj:∀i h,tn i h->∀b∈fp,∃o,h.get? b=some o/\∀v,o.data≠.cell v
 keep:∀i h h',tn i h->(∀b∈fp,∀o,h.get? b=some o->h'.get? b=some o)->tn i h'
 self:∀(A:Around)(i:Nat)(s:Shared)(Q:A3)(E:A3),tn i s.heap->Q (.ref it) s->wpAny (model P w) A (pyIter (.ref it)) Q E s
theorem fD{c:Bool}{tg elt iter:Expr}{ifs:List Expr}{pos:Pos}{g:TG}{tc:TT}{te:TE}{J:It}{it:Addr}{tn:Nat->Heap->Prop}{W:Nat->Nat->List (Ty c)->Hp->Prop}{m0:Nat}{E:A3}
  {RR:Value->Addr->Result->Shared->Prop}{Fin:List (Ty c)->Hp->Prop}
  (I:Inv X pins σ H s)(T:TurnOk X.prog X.w fp it tn)(TA:∀C,Ko (au X scope C fp (ts++cap) s H) tg J fp it tn)(st:tn 0 s.heap)(hf:∀b∈fp,GN X pins H b)(CS:FY X scope ts cap js)
  (hg:∀C fp s H,PG (au X scope C fp (ts++cap) s H) tg g)(ht:∀C fp s H,K5 (au X scope C fp (ts++cap) s H) ifs tc)(he:∀C fp s H,PE (au X scope C fp (ts++cap) s H) elt te)
  (w0:W 0 m0 [] H)
  (turn:∀i m ys H,W i m ys H->(J.stop i H/\ys.length<=lim c/\Fin ys H)\/(J.go i H/\ys.length < lim c/\∀x H',J.D8 i H x H'->g x (List.replicate ts.length none++bY js σ) H' fun c8 H2=>tc c8 H2 λb H3 =>
   if b=true then te c8 H3 λy H4=>Tk c y λz=>∃m',m' < m/\W (i+1) m' (ap c ys z) H4 else ∃m',m' < m/\W (i+1) m' ys H3))
  (Qi:∀D C s' H' c5 ys m o,Inv (au X scope C fp (ts++cap) s H) [(D,o)] c5 H' s'->Ob X.prog X.w c o ys->ys.length<=lim c->s'.heap.Ns C m->s.heap.objs.size<=C->s.heap.objs.size<=D->C≠D->Fin ys H'->RR (.ref D) C (.ok .next) s') :
  (wq X) (LV c) (λacc i7=>(wq X) (newFunctionEnv scope X.env.globals (cS X.env.cells scope.names []) [] X.env.qual none .none (some X.env)) (λB4 s₄ =>
   codeAny (model X.prog X.w) X.A (.compStart (iL c elt tg iter ifs scope pos) 0 (.ref it) acc { B4 with scope:=relabel scope X.env }) (RR acc B4.locals) s₄) E i7) E s:=by
 refine sS ?_;refine(wpAny_newFunctionEnv CS.HA (by intro y hy;simp at hy) (λi8 o6 j8=>?_) CS.kind);dsimp only at o6 j8 ⊢;generalize OX:s.heap.push (PH X.w c)=H2 at o6 j8 ⊢;obtain⟨MV,To⟩:=Ob.nil (prog:=X.prog) (w:=X.w) (c:=c);have SX:=MV.nc;generalize PH X.w c=o0 at OX MV To SX;have Ql:H2.objs.size=s.heap.objs.size+1:=by rw[<- OX,FQ]
 have Pn:s.heap.objs.size≠H2.objs.size:=by rw[Ql];exact Bf (Cm _)
 have K4:s.heap.objs.size<=H2.objs.size:=by rw[Ql];exact Ck _
 have below:∀b,b<s.heap.objs.size->b≠H2.objs.size:=λb hb=>by rw[Ql];exact Bf (CH hb)
 have old:∀b o,s.heap.get? b=some o->i8.get? b=some o:=λb o e=>j8.extBut b o (below b (Fv e)) (FJ _ (OX▸FJ _ e));have K2:i8.get? s.heap.objs.size=some o0:=j8.extBut _ _ Pn (FJ _ (OX▸FK _ To));have J9:∀b∈fp,b<s.heap.objs.size:=λb hb=>by obtain⟨o,e,_⟩:=T.obj _ _ st b hb;exact Fv e
 have y4:tn 0 i8:=T.keep _ _ _ st λb _ o e=>old b o e;have Ol:s.heap.objs.size∉Jd X.stack:=λz=>by
  obtain⟨_,o,ho,_⟩:=I.stack.mem z;exact absurd (Fv ho) (BI _)
 have I0:Inv (au X scope H2.objs.size fp (ts++cap) s H) [(s.heap.objs.size,o0)] (List.replicate ts.length none++bY js σ) H {s with heap:=i8,toks:=s.toks+([]:List (Str×Value)).length}:=
  kP I CS hf J9 K4 old o6 rfl I.bare λp hp=>by
   have e:p=(s.heap.objs.size,o0):=by simpa using hp
   subst e;exact⟨K2,I.b9.fresh (AS _),Pn,Ol,SX⟩
 have n4:∀{H':Hp}{o:Obj},(∀b∈fp,H' b=none)->∀b∈fp,GN (au X scope H2.objs.size fp (ts++cap) s H) [(s.heap.objs.size,o)] H' b:=λ{H' o} hn b hb=>by
  obtain⟨f0,f1,f2,f3,f4,f5⟩:=hf b hb;refine⟨hn b hb,below b (J9 b hb),?_,.inl hb,λx c e=>f4 x c (CS.look I.ok e),λp hp=>?_⟩
  ·exact(jP I CS hf J9 K4).LB b hb
  ·rcases Ba.mp hp with z|z
   ·exact f5 p (Bu _ z)
   ·have e:p=(s.heap.objs.size,o):=by simpa using z
    subst e;intro q;have q':s.heap.objs.size=b:=q;exact absurd (J9 b hb) (by rw[<- q'];exact BI _)
 have loop:∀i7:Shared,i7={s with heap:=i8,toks:=s.toks+([]:List (Str×Value)).length} ->
   codeAny (model X.prog X.w) X.A (.compLoop (iL c elt tg iter ifs scope pos) 0 (.ref it) (.ref s.heap.objs.size) (compEnvC scope (cS X.env.cells scope.names []) H2.objs.size X.env))
    (RR (.ref s.heap.objs.size) H2.objs.size) i7:=by
  rintro i7 rfl;refine mh (λk s'=>∃i H' ys o,Inv (au X scope H2.objs.size fp (ts++cap) s H) [(s.heap.objs.size,o)] (List.replicate ts.length none++bY js σ) H' s'/\Ob X.prog X.w c o ys/\tn i s'.heap/\(∀b∈fp,H' b=none)/\W i k ys H') ?_ m0
   ⟨0,H,[],o0,I0,MV,y4,λb hb=>(hf b hb).1,w0⟩
  rintro k s3 ⟨i,H3,ys,o,I3,v3,j4,Oq,w3⟩;rcases turn i k ys H3 w3 with ⟨stop,hz,fin⟩|⟨go,hz,step⟩
  ·refine c6 ((TA _).done i _ s3 _ H3 _ I3 (n4 Oq) j4 stop) λr s4 X3=>?_;obtain⟨hr,I4⟩:=X3;subst hr;obtain⟨m4,YJ,_⟩:=I4.loc;exact Qi _ _ s4 H3 _ ys m4 o I4 v3 hz YJ K4 (AS _) (FI Pn) fin
  ·refine c6 ((TA _).item i _ s3 _ H3 _ I3 (n4 Oq) j4 go) λr s4 X2=>?_;obtain⟨u,hr,h4⟩:=X2;subst hr;refine c6 h4 λ_ s5 X0=>?_;obtain⟨x,H5,I5,r5,y5,r9,Qo⟩:=X0;have QC:=I5.pinned (n4 Qo) (T.obj _ _ r9);refine c6 (hg _ _ _ _ _ s5 _ H5 x u _ QC r5 (step x H5 y5)) λ_ s6 XZ=>?_;obtain⟨J5,H6,I6,q6⟩:=XZ;refine c6 (ht _ _ _ _ _ s6 J5 H6 _ I6 q6) λok s7 XY=>?_;obtain⟨H7,I7,q7⟩:=XY;have pinned:∀{c5:St}{H':Hp}{s':Shared},Inv (au X scope H2.objs.size fp (ts++cap) s H) ([(s.heap.objs.size,o)]++dg fp s5.heap) c5 H' s'->tn (i+1) s'.heap/\∀b∈fp,H' b=none:=λ{c5 H' s'} J=>by
    refine⟨T.keep _ _ _ r9 λb hb o e=>(J.pin (b,o) (Bc _ (Bc _ (bh hb e)))).1,λb hb=>?_⟩;obtain⟨o,e,d⟩:=T.obj _ _ r9 b hb;exact(J.pin (b,o) (Bc _ (Bc _ (bh hb e)))).2.1
   cases ok with
   |false=>
    rw[Fm BA] at q7 ⊢;obtain⟨m',hm,w7⟩:=q7;obtain⟨Rj,TR⟩:=pinned I7;exact⟨m',hm,i+1,H7,ys,o,cX I CS hf I7.Gm,v3,Rj,TR,w7⟩
   |true=>
    rw[Fn rfl] at q7 ⊢;refine c6 (he _ _ _ _ _ s7 J5 H7 _ I7 q7) λyv s8 XX=>?_;obtain⟨y,H8,I8,r8,tk⟩:=XX;obtain⟨Ri,TQ⟩:=pinned I8;have Ra:=cX I CS hf I8.Gm;obtain⟨Tz,Pm,Om,Uv,hDd⟩:=Ra.pin (s.heap.objs.size,o) (Bc _ AZ);refine Ob.add Tz v3 r8 tk hz λh9 o9 z t9 PZ Qk v9 XW=>?_;obtain⟨m',hm,w8⟩:=XW;have Ws:=v9.nc;have tracked:∀b o,b≠s.heap.objs.size->s8.heap.get? b=some o->h9.get? b=some o:=λb o hb e=>PZ.extBut b o hb e;have I9:Inv (au X scope H2.objs.size fp (ts++cap) s H) [(s.heap.objs.size,o9)] (List.replicate ts.length none++bY js σ) H8 {s8 with heap:=h9,toks:=t9}:=by
     have J0:Inv (au X scope H2.objs.size fp (ts++cap) s H) [] (List.replicate ts.length none++bY js σ) H8 s8:=Ra.Hm (λp hp=>absurd hp (by simp))
     have J:Inv (au X scope H2.objs.size fp (ts++cap) s H) [] (List.replicate ts.length none++bY js σ) H8 { s8 with heap:=h9,toks:=t9 }:=J0.turned (it:=s.heap.objs.size) tracked Pm Om (.inr (Heap.get?_none_of_le (AS _))) (λx c e q=>by
      obtain⟨v,o,ho,_⟩:=I.cell x c (CS.look I.ok e);rw[q] at ho;exact absurd (Fv ho) (BI _)) (λp hp q=>by
       rw[BJ] at hp;obtain⟨e,_⟩:=I.pin p (Bu _ hp);rw[q] at e
       exact absurd (Fv e) (BI _))
     refine J.Hm λp hp=>?_;have e:p=(s.heap.objs.size,o9):=by simpa using hp
     subst e;exact⟨Qk,Pm,Om,Uv,Ws⟩
    have Rh:tn (i+1) h9:=T.keep _ _ _ Ri λb hb o e=>tracked b o (Bf (J9 b hb)) e;exact⟨m',hm,i+1,H8,ap c ys z,o9,I9,v9,Rh,TQ,w8⟩
 have l2:=loop _ rfl;clear loop;cases c with
 |true=>exact bI l2 (T.self _ _ _ _ _ y4 l2)
 |false=>exact codeAny_compStart_list l2 (T.self _ _ _ _ _ y4 l2)
theorem jZ{tg elt iter:Expr}{ifs:List Expr}{pos:Pos}{g:TG}{tc:TT}{te:TE}{J:It}{it:Addr}{tn:Nat->Heap->Prop}{W:Nat->Nat->A9->Hp->Prop}{m0:Nat}{E:A3}
  {RR:Value->Addr->Result->Shared->Prop}{Fin:A9->Hp->Prop}
  (I:Inv X pins σ H s)(T:TurnOk X.prog X.w fp it tn)(TA:∀C,Ko (au X scope C fp (ts++cap) s H) tg J fp it tn)(st:tn 0 s.heap)(hf:∀b∈fp,GN X pins H b)(CS:FY X scope ts cap js)
  (hg:∀C fp s H,PG (au X scope C fp (ts++cap) s H) tg g)(ht:∀C fp s H,K5 (au X scope C fp (ts++cap) s H) ifs tc)(he:∀C fp s H,PE (au X scope C fp (ts++cap) s H) elt te)
  (w0:W 0 m0 [] H)
  (turn:∀i m ys H,W i m ys H->(J.stop i H/\ys.length<=sizeLine/\Fin ys H)\/(J.go i H/\ys.length < sizeLine/\∀x H',J.D8 i H x H'->g x (List.replicate ts.length none++bY js σ) H' fun c8 H2=>tc c8 H2 λb H3 =>
   if b=true then te c8 H3 λy H4=>∃m',m' < m/\W (i+1) m' (ys++[y]) H4 else ∃m',m' < m/\W (i+1) m' ys H3))
  (Qi:∀D C s' H' ys m,Inv X pins σ (upd H' D (.lst ys)) s'->s'.heap.Ns C m->s.heap.objs.size<=C->s.heap.objs.size<=D->C≠D->H' C=none->H' D=none->Fin ys H'->RR (.ref D) C (.ok .next) s') :
  (wq X) (newList []) (λacc i7=>(wq X) (newFunctionEnv scope X.env.globals (cS X.env.cells scope.names []) [] X.env.qual none .none (some X.env)) (λB4 s₄ =>
   codeAny (model X.prog X.w) X.A (.compStart (.ListComp elt [⟨tg,iter,ifs,0⟩] scope pos) 0 (.ref it) acc { B4 with scope:=relabel scope X.env }) (RR acc B4.locals) s₄) E i7) E s :=
 fD (c:=false) I T TA st hf CS hg ht he w0 turn λD C s' H' c5 ys m o I' ⟨a7,n,e,hv⟩ hz hn hC hD Oo fin=>by
  subst e;exact Qi D C s' H' ys m (iG I hf hC hD I' hv hz) hn hC hD Oo I'.free (I'.pin (D,uY a7 n) (Bc _ AZ)).2.1 fin
theorem gm{tg elt iter:Expr}{ifs:List Expr}{pos:Pos}{g:TG}{tc:TT}{te:TE}{J:It}{it:Addr}{tn:Nat->Heap->Prop}{W:Nat->Nat->A9->Hp->Prop}{m0:Nat}{E:A3}
  {RR:Value->Addr->Result->Shared->Prop}{Fin:A9->Hp->Prop}
  (I:Inv X pins σ H s)(hc:X.calm=true)(T:Turn X.prog X.w X.K tg J fp it tn)(st:tn 0 s.heap)(hf:∀b∈fp,GN X pins H b)(CS:FY X scope ts cap js)
  (hg:∀C fp s H,PG (au X scope C fp (ts++cap) s H) tg g)(ht:∀C fp s H,K5 (au X scope C fp (ts++cap) s H) ifs tc)(he:∀C fp s H,PE (au X scope C fp (ts++cap) s H) elt te)
  (w0:W 0 m0 [] H)
  (turn:∀i m ys H,W i m ys H->(J.stop i H/\ys.length<=sizeLine/\Fin ys H)\/(J.go i H/\ys.length < sizeLine/\∀x H',J.D8 i H x H'->g x (List.replicate ts.length none++bY js σ) H' fun c8 H2=>tc c8 H2 λb H3 =>
   if b=true then te c8 H3 λy H4=>∃m',m' < m/\W (i+1) m' (ys++[y]) H4 else ∃m',m' < m/\W (i+1) m' ys H3))
  (Qi:∀D C s' H' ys m,Inv X pins σ (upd H' D (.lst ys)) s'->s'.heap.Ns C m->s.heap.objs.size<=C->s.heap.objs.size<=D->C≠D->H' C=none->H' D=none->Fin ys H'->RR (.ref D) C (.ok .next) s') :
  (wq X) (newList []) (λacc i7=>(wq X) (newFunctionEnv scope X.env.globals (cS X.env.cells scope.names []) [] X.env.qual none .none (some X.env)) (λB4 s₄ =>
   codeAny (model X.prog X.w) X.A (.compStart (.ListComp elt [⟨tg,iter,ifs,0⟩] scope pos) 0 (.ref it) acc { B4 with scope:=relabel scope X.env }) (RR acc B4.locals) s₄) E i7) E s :=
 jZ I ⟨T.obj,T.keep,T.self⟩ (λC=>⟨T.item (au X scope C fp (ts++cap) s H) rfl rfl rfl hc,T.done (au X scope C fp (ts++cap) s H) rfl rfl rfl hc⟩) st hf CS hg ht he w0 turn Qi
end
section
variable {X:Cx}{scope:Scope}{ts cap:List Str}{js:A7}{tg elt iter:Expr}{ifs:List Expr}{pos:Pos}{wi:TI}{g:TG}{tc:TT}{te:TE}
theorem cL{pins:A5}{σ:St}{H:Hp}{s:Shared}{C:Addr}{h':Heap}{n0:Nat}(I:Inv X pins σ H s)(hC0:X.s₀.heap.get? C=none)(Qm:X.env.locals≠C)(m9:∀x c,X.env.cells.lookup x=some c->c≠C)(YF:∀p∈X.pn++pins,p.1≠C)(hn:H C=none)(hs:Heap.SameBut C s.heap h'):Inv X pins σ H {s with heap:=h'}:=
 I.turned (t':=s.toks) (λb o hb e=>hs.extBut b o hb e) hn (FI Qm) (.inr hC0) m9 YF
theorem aY(hc:X.calm=true)(CS:FY X scope ts cap js)(hi:PI X tg iter wi)(hg:∀C fp s H,PG (au X scope C fp (ts++cap) s H) tg g)
  (ht:∀C fp s H,K5 (au X scope C fp (ts++cap) s H) ifs tc)(he:∀C fp s H,PE (au X scope C fp (ts++cap) s H) elt te)
  (hs:∀x,foldedSetIterable iter X.env x=pure x:=by intro _;rfl):PE X (.ListComp elt [⟨tg,iter,ifs,0⟩] scope pos) (vQ wi ts.length js g tc te):=by
 intro pins s σ H Q I h;rw[eval_ListComp];refine wpAny_comprehension_free (use:=none) rfl hs (bp (CS.cells I.ok)) CS.kind CS.names (c6 (hi pins s σ H _ I h) λv s1 h1=>c6 h1 λN7 s2 h2=>?_);obtain⟨it,fp,tn,J,H2,e,I2,T,c9,f2,W,⟨m0,w0⟩,turn⟩:=h2;subst e;refine gm (RR:=λacc C=>compPost (model X.prog X.w) X.A X.xe none (EP X pins σ Q) acc C) I2 hc T c9 f2 CS hg ht he w0 turn ?_;intro D C s' H' ys m I' hn hC hD Oo OW Tx fin;have OI:=I2.lt;have low:∀b o,s2.heap.get? b=some o->b≠C:=λb o e=>Bf (Bq (Fv e) hC);refine⟨m,hn,λh' vx=>⟨.ref D,_,cL (n0:=0) I' (Heap.get?_none_of_le (Bh I2.sz hC)) (Bf (Bq OI hC)) (λx c e=>?_) (λp hp=>?_) (by rw[aj Oo];exact OW) vx,rfl,fin D Tx⟩⟩
 ·obtain⟨v,o,ho,_⟩:=I2.cell x c e;exact low c o ho
 ·exact low _ _ (I2.pin p hp).1
def vF (te:TE)(i:Nat):TS:=λD σ H=>te σ H λx H1=>D.nx (σ.set i (some x)) H1
theorem dY{i:Nat}{y:Str}{py N1:Pos}(hc:X.calm=true)(CS:FY X scope ts cap js)(hi:PI X tg iter wi)(hg:∀C fp s H,PG (au X scope C fp (ts++cap) s H) tg g)
  (ht:∀C fp s H,K5 (au X scope C fp (ts++cap) s H) ifs tc)(he:∀C fp s H,PE (au X scope C fp (ts++cap) s H) elt te)
  (hN:X.N.Nodup)(hy:X.N[i]?=some y)(hx:Loc X.env.scope y)(WW:swapsWith (.ListComp elt [⟨tg,iter,ifs,0⟩] scope pos) (some (.Name y py)) N1.line X.env=pure true)
  (hs:∀x,foldedSetIterable iter X.env x=pure x:=by intro _;rfl)(hf:X.fn y=true\/X.env.scope.names.lookup y=some .local:=by first|exact .inl rfl|exact .inr rfl|assumption) :
  PS X (.Assign [.Name y py] (.ListComp elt [⟨tg,iter,ifs,0⟩] scope pos) N1) (vF (vQ wi ts.length js g tc te) i):=by
 intro pins s σ H D I h;rw[exec_Assign_Name_used _ _ _ _ WW];refine Fh (wpAny_standAt (Fh ?_));show wpAny _ X.A (do let _ <- comprehension (.ListComp elt [⟨tg,iter,ifs,0⟩] scope pos) scope X.env _ (newList []) false (eval iter X.env) (some (assign (.Name y py) X.env))) _ _ s
 refine Fh (Fq (wpAny_comprehension_free (use:=some (assign (.Name y py) X.env)) (Q:=λ_ s'=>SP X pins D .next s') rfl hs (bp (CS.cells I.ok)) CS.kind CS.names
  (c6 (hi pins s σ H _ I h) λv s1 h1=>c6 h1 λN7 s2 h2=>?_)) (λ_ s' hq=>Fi (Fi hq)) λ_ _ e=>e)
 obtain⟨it,fp,tn,J,H2,e,I2,T,c9,f2,W,⟨m0,w0⟩,turn⟩:=h2;subst e;refine gm (RR:=λacc C=>compPost (model X.prog X.w) X.A X.xe (some (assign (.Name y py) X.env)) (λ_ s'=>SP X pins D .next s') acc C) I2 hc T c9 f2 CS hg ht he w0 turn ?_;intro D' C s' H' ys m I' hn hC hD Oo OW Tx fin;have OI:=I2.lt;have low:∀b o,s2.heap.get? b=some o->b≠C:=λb o e=>Bf (Bq (Fv e) hC);have Qm:X.env.locals≠C:=Bf (Bq OI hC);have m9:∀x c,X.env.cells.lookup x=some c->c≠C:=λx c e=>by
  obtain⟨v,o,ho,_⟩:=I2.cell x c e;exact low c o ho
 show wpAny _ X.A (assign (.Name y py) X.env (.ref D')) _ _ _;refine wpAny_assign_Name (fA (v:=.ref D') I' hN hy hx rfl (λRk ZV J3=>?_) hf);obtain⟨a,QS,ha⟩:=J3;have Zi:C≠a:=by
  rcases ha with z|z
  ·rw[z];exact FI Qm
  ·exact FI (m9 _ _ z)
 refine⟨m,hn.sameBut QS Zi,λh' vx=>⟨_,_,cL (n0:=0) ZV (Heap.get?_none_of_le (Bh I2.sz hC)) Qm m9 (λp hp=>low _ _ (I2.pin p hp).1) (by rw[aj Oo];exact OW) vx,fin D' Tx⟩⟩
end
section
variable {κ:Type} [DecidableEq κ]
def cg (kvs:List (κ×V))(k:κ):Option V:=(kvs.find? λkv=>decide (kv.1=k)).map (·.2)
def cU (kvs:List (κ×V))(k:κ)(v:V):List (κ×V):=
 if (kvs.any λkv=>decide (kv.1=k))=true then kvs.map (λkv=>if kv.1=k then (kv.1,v) else kv) else kvs++[(k,v)]
def cC (kvs:List (κ×V))(k:κ):List (κ×V):=kvs.filter λkv=>decide (kv.1≠k)
theorem bX{p:κ×V}{r:List (κ×V)}{k:κ}(e:p.1=k):cg (p::r) k=some p.2:=by simp[cg,Cg,e]
theorem bD{p:κ×V}{r:List (κ×V)}{k:κ}(e:¬p.1=k):cg (p::r) k=cg r k:=by simp[cg,Cg,e]
theorem gK(k:κ):∀kvs:List (κ×V),(kvs.any λkv=>decide (kv.1=k))=(cg kvs k).isSome
 |[]=>rfl
 |p::r=>by
  rw[CY];by_cases e:p.1=k
  ·simp only[bX e,Fo e,Bool.true_or,Option.isSome_some]
  ·rw[bD e,Fp e,Bool.false_or];exact gK k r
theorem bQ(kvs:List (κ×V))(k:κ)(v:V):(cU kvs k v).length<=kvs.length+1:=by
 unfold cU;split
 ·rw[AU];lia
 ·rw[AV,Bl,Cn];lia
theorem IG.GO{o:Option V}{u:Option Value}(r:IG o u):o.isSome=u.isSome:=by
 cases o with
 |none=>cases u with
  |none=>rfl
  |some _=>exact(show False from r).elim
 |some _=>cases u with
  |none=>exact(show False from r).elim
  |some _=>rfl
theorem IG.getD{o:Option V}{u:Option Value}{d:V}{d':Value}(r:IG o u)(rd:RelV d d'):RelV (o.getD d) (u.getD d'):=by
 cases o with
 |none=>cases u with
  |none=>exact rd
  |some _=>exact(show False from r).elim
 |some _=>cases u with
  |none=>exact(show False from r).elim
  |some _=>exact r
theorem KV.val{kvs:List (κ×V)}{vs:List (κ×Value)}(r:KV kvs vs)(k:κ):IG (cg kvs k) (valueAt vs k):=by
 unfold KV at r;induction r with
 |nil=>exact True.intro
 |@cons p q ps qs h t ih=>
  obtain⟨h1,h2⟩:=h;by_cases e:p.1=k
  ·have e':q.1=k:=h1.symm.trans e;have b:valueAt (q::qs) k=some q.2:=by simp[valueAt,Cg,e']
   rw[bX e,b];exact h2
  ·have e':¬q.1=k:=λz=>e (h1.trans z);have b:valueAt (q::qs) k=valueAt qs k:=by simp[valueAt,Cg,e']
   rw[bD e,b];exact ih
theorem KV.any{kvs:List (κ×V)}{vs:List (κ×Value)}(r:KV kvs vs)(k:κ):(kvs.any λkv=>decide (kv.1=k))=vs.any λkv=>decide (kv.1=k):=by
 unfold KV at r;induction r with
 |nil=>rfl
 |cons h t ih=>rw[CY,CY,ih,h.1]
theorem KV.Ms{kvs:List (κ×V)}{vs:List (κ×Value)}(r:KV kvs vs)(k:κ){y:V}{u:Value}(ry:RelV y u) :
  KV (kvs.map λkv=>if kv.1=k then (kv.1,y) else kv) (vs.map λkv=>if kv.1=k then (kv.1,u) else kv):=by
 unfold KV at r ⊢;induction r with
 |nil=>exact .nil
 |@cons p q ps qs h t ih=>
  rw[Bm,Bm];refine .cons ?_ ih;obtain⟨h1,h2⟩:=h;by_cases e:p.1=k
  ·rw[Fn e,Fn (h1.symm.trans e)];exact⟨h1,ry⟩
  ·rw[Fm e,Fm (λz=>e (h1.trans z))];exact⟨h1,h2⟩
theorem KV.put{kvs:List (κ×V)}{vs:List (κ×Value)}(r:KV kvs vs)(k:κ){y:V}{u:Value}(ry:RelV y u):KV (cU kvs k y) (stored vs k u):=by
 unfold cU stored;rw[r.any k];by_cases e:(vs.any λkv=>decide (kv.1=k))=true
 ·rw[Fn e,Fn e];exact r.Ms k ry
 ·rw[Fm e,Fm e];exact Paired.snoc r ⟨rfl,ry⟩
theorem KV.drop{kvs:List (κ×V)}{vs:List (κ×Value)}(r:KV kvs vs)(k:κ):KV (cC kvs k) (without vs k):=by
 unfold KV at r ⊢;unfold cC without;induction r with
 |nil=>exact .nil
 |@cons p q ps qs h t ih=>
  obtain⟨h1,h2⟩:=h;rw[CI,CI];by_cases e:p.1=k
  ·have a:¬decide (p.1≠k)=true:=by simp[e]
   have b:¬decide (q.1≠k)=true:=by simp[h1.symm.trans e]
   rw[Fm a,Fm b];exact ih
  ·have e':¬q.1=k:=λz=>e (h1.trans z);have a:decide (p.1≠k)=true:=by simp[e]
   have b:decide (q.1≠k)=true:=by simp[e']
   rw[Fn a,Fn b];exact .cons ⟨h1,h2⟩ ih
theorem KV.length{kvs:List (κ×V)}{vs:List (κ×Value)}(r:KV kvs vs):kvs.length=vs.length:=Paired.length r
theorem rJ(kvs:List (κ×V))(k:κ):(cC kvs k).length<=kvs.length:=Ez _ _
end
theorem jH{P:Program}{w:World}{k:Key}{u:Value}(r:RelV (kV k) u):(aK P w).is k u=true:=by
 cases k with
 |inl i=>obtain⟨t,e⟩:=(show ∃t,u=Value.int i t from r);subst e;exact jY P w i t
 |inr x=>obtain⟨t,e⟩:=(show ∃t,u=Value.str x t from r);subst e;exact ki P w x t
theorem jk{P:Program}{w:World}:∀{ks:List Key}{us:A8},Vals (ks.map kV) us->ItemsAre (aK P w) ks us
 |[],_,r=>by rw[Cj] at r;cases r;exact .nil
 |k::ks,_,r=>by
  rw[Bm] at r;cases r with
  |cons h t=>exact .cons (jH h) (jk t)
abbrev KT(H:Hp):List (List Key×V)->List (List Key×Addr×Value)->Prop:=Paired λp q=>p.1=q.1/\H q.2.1=some (.tup (p.1.map kV))/\RelV p.2 q.2.2
theorem KT.val{H:Hp}{kvs:List (List Key×V)}{xs:List (List Key×Addr×Value)}(r:KT H kvs xs)(k:List Key):IG (cg kvs k) ((atKey xs k).map (·.2)):=by
 induction r with
 |nil=>exact True.intro
 |@cons p q ps qs h t ih=>
  obtain⟨h1,_,h2⟩:=h;by_cases e:p.1=k
  ·have e':q.1=k:=h1.symm.trans e;have b:atKey (q::qs) k=some q.2:=by simp[atKey,Cg,e']
   rw[bX e,b];exact h2
  ·have e':¬q.1=k:=λz=>e (h1.trans z);have b:atKey (q::qs) k=atKey qs k:=by simp[atKey,Cg,e']
   rw[bD e,b];exact ih
theorem KT.Ms{H:Hp}{kvs:List (List Key×V)}{xs:List (List Key×Addr×Value)}(r:KT H kvs xs)(k:List Key){y:V}{u:Value}(ry:RelV y u) :
  KT H (kvs.map λkv=>if kv.1=k then (kv.1,y) else kv) (xs.map (putAt k u)):=by
 induction r with
 |nil=>exact .nil
 |@cons p q ps qs h t ih=>
  rw[Bm,Bm];refine .cons ?_ ih;obtain⟨h1,h2,h3⟩:=h;unfold putAt;by_cases e:p.1=k
  ·rw[Fn e,Fn (h1.symm.trans e)];exact⟨h1,h2,ry⟩
  ·rw[Fm e,Fm (λz=>e (h1.trans z))];exact⟨h1,h2,h3⟩
theorem KT.put{H:Hp}{kvs:List (List Key×V)}{xs:List (List Key×Addr×Value)}(r:KT H kvs xs)(k:List Key){b:Addr}{y:V}{u:Value}(hb:H b=some (.tup (k.map kV)))(ry:RelV y u) :
  KT H (cU kvs k y) (storedH xs k b u):=by
 have e:(kvs.any λkv=>decide (kv.1=k))=(atKey xs k).isSome:=by
  rw[gK,(r.val k).GO,DZ]
 unfold cU storedH;rw[e];by_cases q:(atKey xs k).isSome=true
 ·rw[Fn q,Fn q];exact r.Ms k ry
 ·rw[Fm q,Fm q];exact Paired.snoc r ⟨rfl,hb,ry⟩
theorem KT.keeps{H H':Hp}{kvs:List (List Key×V)}{xs:List (List Key×Addr×Value)}(r:KT H kvs xs)(ht:∀b ys,H b=some (.tup ys)->H' b=some (.tup ys)):KT H' kvs xs:=
 Paired.Hw r λ_ _ z=>⟨z.1,ht _ _ z.2.1,z.2.2⟩
section
variable {P:Program}{w:World}{H:Hp}{h:Heap}{a:Addr}
theorem pC{u:HO}(ok:m6 P w H h)(e:Rd H a u):Gg P w H h a u:=e.ok ok
theorem mJ{kvs:A6}(ok:m6 P w H h)(e:Rd H a (.dK kvs)):kvs.length<=sizeLine/\(a==sysModules)=false/\∃vs,KV kvs vs/\h.DictOf (aK P w) a vs:=
 show Gg P w H h a (.dK kvs) from pC ok e
theorem uI{kvs:A6}(ok:m6 P w H h)(e:H a=some (.dK kvs)):kvs.length<=sizeLine/\(a==sysModules)=false/\∃vs,KV kvs vs/\h.DictOf (aK P w) a vs:=mJ ok (.inl e)
theorem eU{ks:List Key}(ok:m6 P w H h)(e:H a=some (.tup (ks.map kV))):(tupleKind (aK P w)).is h ks a:=by
 obtain⟨_,a7,r,o,h1,h2,n,h3⟩:=(show Gg P w H h a (.tup (ks.map kV)) from ok a _ e)
 exact⟨o,a7.toArray,n,h1,h2,h3,by simpa using jk r⟩
theorem jS{kvs:List (List Key×V)}(ok:m6 P w H h)(e:Rd H a (.dT kvs)):kvs.length<=sizeLine/\(a==sysModules)=false /\
  ∃xs,KT H kvs xs/\h.DictOfH (tupleKind (aK P w)) a xs:=by
 obtain⟨z,y,xs,r,o,es,ep,h1,h2,h3,h4,h5⟩:=(show Gg P w H h a (.dT kvs) from pC ok e)
 refine⟨z,y,xs,r,o,es,ep,h1,h2,h3,h4,λx hx=>?_,h5⟩;have all:∀{l:List (List Key×V)}{m:List (List Key×Addr×Value)},KT H l m->∀x∈m,(tupleKind (aK P w)).is h x.1 x.2.1:=by
  intro l m q;induction q with
  |nil=>intro x hx;exact nomatch hx
  |@cons p q ps qs hq t ih=>
   intro x hx;rcases Bb.mp hx with e|hx
   ·subst e;exact eU ok (by rw[<- hq.1];exact hq.2.1)
   ·exact ih x hx
 exact all r x hx
theorem lW{kvs:List (List Key×V)}(ok:m6 P w H h)(e:H a=some (.dT kvs)):kvs.length<=sizeLine/\(a==sysModules)=false /\
  ∃xs,KT H kvs xs/\h.DictOfH (tupleKind (aK P w)) a xs:=jS ok (.inl e)
end
def HE (H:Hp)(a:Addr)(y:V)(r:Option V):Prop:=
 (∃kvs k,Rd H a (.dK kvs)/\y=kV k/\r=cg kvs k)\/∃kvs k b,Rd H a (.dT kvs)/\y=.ref b/\H b=some (.tup (k.map kV))/\r=cg kvs k
def JN (H:Hp)(a:Addr)(y v:V)(H':Hp):Prop:=
 (∃kvs k,H a=some (.dK kvs)/\y=kV k/\kvs.length<sizeLine/\H'=upd H a (.dK (cU kvs k v))) \/
 ∃kvs k b,H a=some (.dT kvs)/\y=.ref b/\H b=some (.tup (k.map kV))/\kvs.length<sizeLine/\H'=upd H a (.dT (cU kvs k v))
theorem HE.k{H:Hp}{a:Addr}{kvs:A6}{k:Key}(e:H a=some (.dK kvs)):HE H a (kV k) (cg kvs k):=.inl ⟨kvs,k,.inl e,rfl,rfl⟩
theorem HE.t{H:Hp}{a b:Addr}{kvs:List (List Key×V)}{k:List Key}(e:H a=some (.dT kvs))(eb:H b=some (.tup (k.map kV))):HE H a (.ref b) (cg kvs k):=.inr ⟨kvs,k,b,.inl e,rfl,eb,rfl⟩
theorem JN.k{H:Hp}{a:Addr}{kvs:A6}{k:Key}{v:V}(e:H a=some (.dK kvs))(hl:kvs.length<sizeLine):JN H a (kV k) v (upd H a (.dK (cU kvs k v))):=.inl ⟨kvs,k,e,rfl,hl,rfl⟩
theorem JN.t{H:Hp}{a b:Addr}{kvs:List (List Key×V)}{k:List Key}{v:V}(e:H a=some (.dT kvs))(eb:H b=some (.tup (k.map kV)))(hl:kvs.length<sizeLine) :
  JN H a (.ref b) v (upd H a (.dT (cU kvs k v))):=.inr ⟨kvs,k,b,e,rfl,eb,hl,rfl⟩
section
variable {X:Cx}{pins:A5}{σ:St}{H:Hp}{s:Shared}{a:Addr}{y v:V}{u r:Value}{o:Option V}{A:Around}{E:A3}
theorem Inv.big(I:Inv X pins σ H s):sysModules<s.heap.objs.size:=by
 have h:mainGlobals<s.heap.objs.size:=(I.mod.glob.keeps I.bk).lt;exact DH (by decide) h
theorem oq{Q:A3}(hu:A.units+1<cLine)(I:Inv X pins σ H s)(g:HE H a y (some v))(ry:RelV y u)(h:∀w' s',Inv X pins σ H s'->RelV v w'->Q w' s') :
  wpAny (model X.prog X.w) A (getItem (.ref a) u) Q E s:=by
 rcases g with ⟨kvs,k,e,ey,l⟩|⟨kvs,k,b,e,ey,eb,l⟩
 ·subst ey;obtain⟨z,hd,vs,rel,dd⟩:=mJ I.b9 e;obtain⟨w',hw,D9⟩:=IG.some_of (v:=v) (o:=valueAt vs k) (by rw[l];exact rel.val k);exact wpAny_getItem_of (jH ry) dd.mapOf hw (h w' _ (I.tok _) D9)
 ·subst ey;cases (show u=Value.ref b from ry);obtain⟨z,hd,xs,rel,dd⟩:=jS I.b9 e;obtain⟨w',hw,D9⟩:=IG.some_of (v:=v) (o:=(atKey xs k).map (·.2)) (by rw[l];exact rel.val k);obtain⟨p,hp,EX⟩:=Co.mp hw;refine wpAny_getItem_heap (tupleKind_room_in1 hu) (eU I.b9 eb) dd hp ?_;rw[EX];exact h w' _ (I.tok _) D9
theorem uB{Q:A3}(hu:A.units+1<cLine)(I:Inv X pins σ H s)(g:HE H a y o)(ry:RelV y u)(h:∀s',Inv X pins σ H s'->Q (.bool (!o.isSome)) s') :
  wpAny (model X.prog X.w) A (compareOp .NotIn u (.ref a)) Q E s:=by
 rcases g with ⟨kvs,k,e,ey,l⟩|⟨kvs,k,b,e,ey,eb,l⟩
 ·subst ey;obtain⟨z,hd,vs,rel,dd⟩:=mJ I.b9 e;refine wpAny_notIn_of (jH ry) hd dd.mapOf ?_;rw[<- (rel.val k).GO,<- l];exact h _ (I.tok _)
 ·subst ey;cases (show u=Value.ref b from ry);obtain⟨z,hd,xs,rel,dd⟩:=jS I.b9 e;refine wpAny_notIn_heap (tupleKind_room_in1 hu) (eU I.b9 eb) hd dd ?_;have q:=(rel.val k).GO;rw[DZ] at q;rw[<- q,<- l];exact h _ (I.tok _)
theorem cN{h':Heap}{t':Nat}{ob:HO}(I:Inv X pins σ H s)(mu:TY (H a))(hs:Heap.SameBut a s.heap h')(he:∃q,h'.get? a=some q)(new:Gg X.prog X.w (upd H a ob) h' a ob) :
  Inv X pins σ (upd H a ob) {s with heap:=h',toks:=t'}:=
 I.write (x:=a) (e:=a) mu (.inl rfl) (λb q hb z=>(hs.2 b hb).trans z) he new
theorem oQ{P:Program}{w:World}{H':Hp}{h':Heap}{kvs:A6}{vs:List (Key×Value)}(z:kvs.length<=sizeLine)(hd:(a==sysModules)=false)(rel:KV kvs vs)(dd:h'.DictOf (aK P w) a vs) :
  Gg P w H' h' a (.dK kvs):=⟨z,hd,vs,rel,dd⟩
theorem qk{H':Hp}{Q:Unit->Shared->Prop}(hu:A.units+1<cLine)(I:Inv X pins σ H s)(g:JN H a y v H')(ry:RelV y u)(rv:RelV v r)(h:∀s',Inv X pins σ H' s'->Q () s') :
  wpAny (model X.prog X.w) A (setItem (.ref a) u r) Q E s:=by
 rcases g with ⟨kvs,k,e,ey,l,eH⟩|⟨kvs,k,b,e,ey,eb,l,eH⟩
 ·subst ey eH;obtain⟨z,hd,vs,rel,dd⟩:=uI I.b9 e;have hz:vs.length<=sizeLine:=by rw[<- rel.length];exact z
  have hl:(cU kvs k v).length<=sizeLine:=by have:=bQ kvs k v;lia
  refine wpAny_setItem_pairs (hsz:=hz) (jH ry) dd λh' D0 hs=>h _ ?_;have he:∃q,h'.get? a=some q:=let ⟨q,_,_,hq,_⟩:=D0;⟨q,hq⟩;exact cN I (by rw[e];exact True.intro) hs he (oQ hl hd (rel.put k rv) D0)
 ·subst ey eH;cases (show u=Value.ref b from ry);obtain⟨z,hd,xs,rel,dd⟩:=lW I.b9 e;have hz:xs.length<=sizeLine:=by rw[<- Paired.length rel];exact z
  have hl:(cU kvs k v).length<=sizeLine:=by have:=bQ kvs k v;lia
  refine wpAny_setItem_heap (hsz:=hz) (tupleKind_room_in1 hu) (eU I.b9 eb) dd λh' D0 hs=>h _ ?_;obtain⟨q,es,ep,hq,h2,h3,h4,_,h5⟩:=D0;refine cN I (by rw[e];exact True.intro) hs ⟨q,hq⟩ ⟨hl,hd,_,(rel.put k eb rv).keeps λc ys ec=>?_,q,es,ep,hq,h2,h3,h4,h5⟩;rw[aj (bB ec e (λz=>nomatch z))];exact ec
end
section
variable {X:Cx}{pins:A5}{σ:St}{H:Hp}{s:Shared}{a:Addr}{kvs:A6}{k:Key}{u:Value}{A:Around}{E:A3}
theorem yb{v:V}{more:A8}{Q:A3}(I:Inv X pins σ H s)(e:H a=some (.dK kvs))(ry:RelV (kV k) u)(l:cg kvs k=some v)(hm:more=[]\/∃x,more=[x])
  (h:∀w' s',Inv X pins σ (upd H a (.dK (cC kvs k))) s'->RelV v w'->Q w' s'):wpAny (model X.prog X.w) A (call (.builtin "dict.pop") (.ref a::u::more)) Q E s:=by
 obtain⟨z,hd,vs,rel,dd⟩:=uI I.b9 e;obtain⟨w',hw,D9⟩:=IG.some_of (v:=v) (o:=valueAt vs k) (by rw[<- l];exact rel.val k);have hp:(keyPart u).isSome=true:=by
  cases k with
  |inl i=>obtain⟨t,q⟩:=(show ∃t,u=Value.int i t from ry);subst q;rfl
  |inr x=>obtain⟨t,q⟩:=(show ∃t,u=Value.str x t from ry);subst q;rfl
 have ha:argsOk "dict.pop" ⟨.ref a::u::more,[]⟩:=by
  rcases hm with q|⟨x,q⟩
  ·subst q;exact PySem.F.args_dict_pop_2 _ _
  ·subst q;exact PySem.F.args_dict_pop_3 _ _ _
 refine call_meetsIn PySem.F.slot_dict_pop dd.typeIs PySem.F.entry_dict_pop ha (meets_dict_pop_there (aK X.prog X.w) a (jH ry) more hm hp)
  ⟨vs,w',dd,by rw[<- rel.length];exact z,hw,λh' D0 hs=>h w' _ ?_ D9⟩
 have he:∃q,h'.get? a=some q:=let ⟨q,_,_,hq,_⟩:=D0;⟨q,hq⟩;exact cN I (by rw[e];exact True.intro) hs he (oQ (Bh (rJ kvs k) z) hd (rel.drop k) D0)
end
def yM (i:Expr):Prop:=∀ov iv,subscripted i false ov iv=operate [ov,iv] (getItem ov iv)
theorem vj{prog:Program}{w:World}{A:Around}{E:A3}{s:Shared}{env:Env}{value slice:Expr}{pos:Pos}{T id:String}{Q:A3}
  (hl:typeLookup (.type T) "__getitem__"=pure (some (.builtin id)))(hs:yM slice)
  (h:wpAny (model prog w) A (eval value env) (λo b7=>wpAny (model prog w) A (eval slice env) (λi k6=>k6.TypeIs o T/\wpAny (model prog w) A (getItem o i) Q E k6) E b7) E s) :
  wpAny (model prog w) A (eval (.Subscript value slice pos) env) Q E s:=by
 refine Subscript_ (Fq h (λo b7 i8=>Fq i8 (λi k6 p6=>?_) λ_ _ x=>x) λ_ _ x=>x);obtain⟨hT,p6⟩:=p6;unfold subscriptTail;refine Fh ?_;rw[getitemInPython_of_ne hT.not_modules];refine Fh (wpAny_specialOf hT hl ?_);have fin:wpAny (model prog w) A (subscripted slice false o i) (λr i7=>wpAny (model prog w) A (letTemporaryGo value o r >>= λ_=>pure r) Q E i7) E k6:=by
  rw[hs o i];exact wpAny_operating (Fq p6 (λr i7 C5=>Fh (wpAny_letTemporaryGo (Fi C5))) λ_ _ x=>x)
 first
  |exact Fi (Fh fin)
  |exact Fh (Fi (Fh fin))
  |exact Fh fin
theorem jx{X:Cx}{pins:A5}{σ:St}{H:Hp}{s:Shared}{a:Addr}{y:V}{o:Option V}(I:Inv X pins σ H s)(g:HE H a y o):s.TypeIs (.ref a) "dict":=by
 rcases g with ⟨kvs,k,e,_,_⟩|⟨kvs,k,b,e,_,_,_⟩
 ·obtain⟨_,_,vs,_,dd⟩:=mJ I.b9 e;exact dd.typeIs
 ·obtain⟨_,_,xs,_,dd⟩:=jS I.b9 e;exact dd.typeIs
inductive LA(Q:VK)(x:V)(y:V)(H2:Hp):Prop
 |mk a v:x=.ref a->HE H2 a y (some v)->Q v H2->LA Q x y H2
def yo (td ty:TE):TE:=fun σ H Q=>td σ H λx H1=>ty σ H1 λy H2=>LA Q x y H2
inductive JA(Q:VK)(y:V)(x:V)(H2:Hp):Prop
 |mk a o:x=.ref a->HE H2 a y o->Q (.bl (!o.isSome)) H2->JA Q y x H2
def uO (ty td:TE):TE:=fun σ H Q=>ty σ H λy H1=>td σ H1 λx H2=>JA Q y x H2
inductive LM(D:Ends)(σ:St)(v:V)(x:V)(y:V)(H3:Hp):Prop
 |mk a H4:x=.ref a->JN H3 a y v H4->D.nx σ H4->LM D σ v x y H3
def yy (td ty tv:TE):TS:=λD σ H=>tv σ H λv H1=>td σ H1 λx H2=>ty σ H2 λy H3=>LM D σ v x y H3
section
variable {X:Cx}{o i e value:Expr}{pos pos' Rf:Pos}{td ty tv:TE}
theorem hV(hu:X.A.units+1<cLine)(ho:PE X o td)(hi:PE X i ty)(hs:yM i):PE X (.Subscript o i pos) (yo td ty):=by
 intro pins s σ H Q I h;refine vj PySem.F.slot_dict_getitem.lookup hs (c6 (ho pins s σ H _ I h) λu s1 XU=>?_);obtain⟨x,H1,I1,rx,q1⟩:=XU;refine c6 (hi pins s1 σ H1 _ I1 q1) λiv s2 ⟨y,H2,I2,ry,a,v,ex,g,q2⟩=>?_;subst ex;obtain rfl:u=Value.ref a:=rx;exact⟨jx I2 g,oq hu I2 g ry λw' s3 I3 D9=>⟨v,H2,I3,D9,q2⟩⟩
theorem dI(hu:X.A.units+1<cLine)(hi:PE X i ty)(ho:PE X o td):PC X .NotIn i o (uO ty td):=by
 intro pins s σ H Q I h;refine c6 (hi pins s σ H _ I h) λiv s1 XT=>?_;obtain⟨y,H1,I1,ry,q1⟩:=XT;refine c6 (ho pins s1 σ H1 _ I1 q1) λu s2 ⟨x,H2,I2,rx,a,ov,ex,g,q2⟩=>?_;subst ex;obtain rfl:u=Value.ref a:=rx;exact uB hu I2 g ry λs3 I3=>⟨.bl (!ov.isSome),H2,I3,rfl,q2⟩
theorem dA(hu:X.A.units+1<cLine)(ho:PE X o td)(hi:PE X i ty)(hv:PE X value tv)(hs:swapsWith value (some (.Subscript o i pos')) pos.line X.env=pure false) :
  PS X (.Assign [.Subscript o i pos'] value pos) (yy td ty tv):=by
 intro pins s σ H D I h;refine wpAny_Assign_Subscript (c6 (hv pins s σ H _ I h) λr s1 XR=>?_) hs;obtain⟨v,H1,I1,rv,q1⟩:=XR;refine c6 (ho pins s1 σ H1 _ I1 q1) λu s2 ⟨x,H2,I2,rx,q2⟩=>c6 (hi pins s2 σ H2 _ I2 q2) λiv s3 ⟨y,H3,I3,ry,a,H4,ex,g,q3⟩=>?_;subst ex;obtain rfl:u=Value.ref a:=rx;exact qk hu I3 g ry rv λs4 I4=>⟨σ,H4,I4,q3⟩
end
theorem kC{P:Program}{w:World}{H:Hp}(h:Heap)(hb:sysModules<h.objs.size):Gg P w H (h.push {cls:=.type "dict",data:=.dict #[]}) h.objs.size (.dK []):=
 ⟨Bj _,beq_eq_false_iff_ne.mpr (FI (Bf hb)),[],.nil,Heap.DictOf.new h⟩
theorem lH{P:Program}{w:World}{H:Hp}(h:Heap)(hb:sysModules<h.objs.size):Gg P w H (h.push {cls:=.type "dict",data:=.dict #[]}) h.objs.size (.dT []):=
 ⟨Bj _,beq_eq_false_iff_ne.mpr (FI (Bf hb)),[],.nil,_,#[],0,FK _ rfl,⟨rfl,rfl,rfl⟩,rfl,rfl,Di⟩
def Mo:TE:=λ_ H Q=>∀p,H p=none->Q (.ref p) (upd H p (.dK []))
def Mr:TE:=λ_ H Q=>∀p,H p=none->Q (.ref p) (upd H p (.dT []))
section
variable {X:Cx}{pos:Pos}
theorem Jj:PE X (.Dict [] [] pos) Mo:=λpins s σ H Q I h=>
 wpAny_Dict_empty ⟨.ref s.heap.objs.size,_,I.laid (a:=s.heap.objs.size) (o:=.dK []) (t':=s.toks) (λ_ _ q=>FJ _ q) (AS _) (kC s.heap I.big),rfl,h _ (I.b9.fresh (AS _))⟩
theorem Hx:PE X (.Dict [] [] pos) Mr:=λpins s σ H Q I h=>
 wpAny_Dict_empty ⟨.ref s.heap.objs.size,_,I.laid (a:=s.heap.objs.size) (o:=.dT []) (t':=s.toks) (λ_ _ q=>FJ _ q) (AS _) (lH s.heap I.big),rfl,h _ (I.b9.fresh (AS _))⟩
end
def Ks:List (TE×TE)->St->Hp->(List (V×V)->Hp->Prop)->Prop
 |[],_,H,Q=>Q [] H
 |(tk,tv)::r,σ,H,Q=>tk σ H λx H1=>tv σ H1 λy H2=>Ks r σ H2 λps H3=>Q ((x,y)::ps) H3
abbrev VV:List (V×V)->List (Value×Value)->Prop:=Paired λp q=>RelV p.1 q.1/\RelV p.2 q.2
def UJ (X:Cx)(pos:Pos)(keys:List (Option Expr))(values:List Expr)(OH:List (TE×TE)):Prop:=
 ∀(pins:A5)(s:Shared)(σ:St)(H:Hp)(Q:List (V×V)->Hp->Prop),Inv X pins σ H s->Ks OH σ H Q ->
  (wq X) (evalPairs (pairTrees keys values X.env pos)) (λvs s'=>∃ps H',Inv X pins σ H' s'/\VV ps vs/\Q ps H') X.xe s
theorem oJ{X:Cx}{pos:Pos}:UJ X pos [] [] []:=λpins s σ H Q I h=>pairTrees_nil_walk ⟨[],H,I,.nil,h⟩
theorem cV{X:Cx}{pos:Pos}{k v:Expr}{ks:List (Option Expr)}{vs:List Expr}{tk tv:TE}{OH:List (TE×TE)}(hk:PE X k tk)(hv:PE X v tv)(hr:UJ X pos ks vs OH) :
  UJ X pos (some k::ks) (v::vs) ((tk,tv)::OH):=λpins s σ H Q I h=>
 pairTrees_cons_walk (c6 (hk pins s σ H _ I h) λu s1 ⟨x,H1,I1,rx,q1⟩=>c6 (hv pins s1 σ H1 _ I1 q1) λw2 s2 ⟨y,H2,I2,ry,q2⟩ =>
  c6 (hr pins s2 σ H2 _ I2 q2) λws s3 ⟨ps,H3,I3,rel,q3⟩=>⟨(x,y)::ps,H3,I3,.cons ⟨rx,ry⟩ rel,q3⟩)
def cB (kvs more:A6):A6:=more.foldl (λacc kv=>cU acc kv.1 kv.2) kvs
theorem KV.merge:∀{more:A6}{rs:List (Key×Value)}{kvs:A6}{vs:List (Key×Value)},KV more rs->KV kvs vs->KV (cB kvs more) (merged vs rs):=by
 intro more rs kvs vs r;unfold KV at r;induction r generalizing kvs vs with
 |nil=>intro q;exact q
 |@cons p q ps qs h t ih=>
  intro r0;have e:KV (cU kvs p.1 p.2) (stored vs q.1 q.2):=by
   have:=r0.put p.1 h.2;rw[<- h.1];exact this
  exact ih e
theorem GG:∀(more kvs:A6),(cB kvs more).length<=kvs.length+more.length
 |[],kvs=>by show kvs.length<=kvs.length+0;lia
 |p::r,kvs=>by
  have h1:=GG r (cU kvs p.1 p.2);have h2:=bQ kvs p.1 p.2;show(cB (cU kvs p.1 p.2) r).length<=_;rw[Bl];lia
theorem fW{P:Program}{w:World}:∀{kvs:A6}{ws:List (Value×Value)},VV (kvs.map λkv=>(kV kv.1,kv.2)) ws->∃rs,Carries (aK P w) ws rs/\KV kvs rs
 |[],_,r=>by rw[Cj] at r;cases r;exact⟨[],True.intro,.nil⟩
 |p::kvs,_,r=>by
  rw[Bm] at r;cases r with
  |@cons a b as bs h t=>
   obtain⟨rs,c,q⟩:=fW (P:=P) (w:=w) t;obtain⟨b1,b2⟩:=b;exact⟨(p.1,b2)::rs,⟨jH h.1,rfl,c⟩,.cons ⟨rfl,h.2⟩ q⟩
def xX (OH:List (TE×TE)):TE:=fun σ H Q=>∀p,H p=none->Ks OH σ (upd H p (.dK [])) λps H2=>H2 p=some (.dK [])/\∃kvs:A6,ps=kvs.map (λkv=>(kV kv.1,kv.2))/\kvs.length<=15/\Q (.ref p) (upd H2 p (.dK (cB [] kvs)))
theorem pY{X:Cx}{pos:Pos}{keys:List (Option Expr)}{values:List Expr}{OH:List (TE×TE)}(h:UJ X pos keys values OH)(E2:keys.all (·.isSome)=true)(hl:keys.length=values.length)(h0:keys≠[])
  (h15:keys.length<=15):PE X (.Dict keys values pos) (xX OH):=by
 intro pins s σ H Q I q;have hn:=I.b9.fresh (AS s.heap.objs.size);have I1:=I.laid (a:=s.heap.objs.size) (o:=.dK []) (h':=s.heap.push {cls:=.type "dict",data:=.dict #[]}) (t':=s.toks) (λ_ _ q=>FJ _ q) (AS _) (kC s.heap I.big);refine wpAny_Dict_walk (knd:=aK X.prog X.w) E2 hl h0 h15 (c6 (h pins _ σ _ _ I1 (q _ hn)) λws s2 XQ=>?_);obtain⟨ps,H2,I2,rel,e,kvs,ep,lk,q2⟩:=XQ;subst ep;obtain⟨rs,c,rk⟩:=fW (P:=X.prog) (w:=X.w) rel;obtain⟨z,hd,vs0,r0,dd⟩:=uI I2.b9 e;cases r0;refine⟨rs,c,dd,λh' D0 hs=>⟨.ref s.heap.objs.size,_,?_,rfl,q2⟩⟩;have hz:(cB [] kvs).length<=sizeLine:=by
  have h1:=GG kvs [];rw[Cn] at h1;rw[sizeLine_eq];lia
 have he:∃q,h'.get? s.heap.objs.size=some q:=let ⟨q,_,_,hq,_⟩:=D0;⟨q,hq⟩;exact cN I2 (by rw[e];exact True.intro) hs he (oQ hz hd (rk.merge .nil) D0)
structure M1(X:Cx)(o:Expr)(m:Str)(apos:Pos)(e:Expr)(i4:Pos):Prop where
 base:attributeBase o m X.env (eval o X.env)=eval o X.env
 few:((backTo i4 (starEach [e] X.env)).all (λx=>!x.1) && (backToKw i4 (keywordEach [] X.env)).all (λx=>x.1.isSome)
  && decide (([e]:List Expr).length+([]:List Keyword).length+(if ([]:List Keyword).isEmpty then 0 else 1) < 30))=true
 line:(apos.endLine==i4.line)=true
 trees:backTo i4 (starEach [e] X.env)=[(false,eval e X.env)]
def ZU (H:Hp)(a:Addr):Prop:=(∃kvs,Rd H a (.dK kvs))\/∃kvs,Rd H a (.dT kvs)
theorem tK{X:Cx}{pins:A5}{σ:St}{H:Hp}{s:Shared}{a:Addr}(I:Inv X pins σ H s)(d:ZU H a) :
  s.TypeIs (.ref a) "dict"/\(∀b,Value.ref a=.ref b->∃ob,s.heap.get? b=some ob/\ob.dict=none)/\(a==sysModules)=false:=by
 rcases d with ⟨kvs,e⟩|⟨kvs,e⟩
 ·obtain⟨_,hd,vs,_,dd⟩:=mJ I.b9 e;refine⟨dd.typeIs,λb q=>?_,hd⟩;cases q;obtain⟨ob,_,_,h1,h2,_⟩:=dd;exact⟨ob,h1,h2.2.1⟩
 ·obtain⟨_,hd,xs,_,dd⟩:=jS I.b9 e;refine⟨dd.typeIs,λb q=>?_,hd⟩;cases q;obtain⟨ob,_,_,h1,h2,_⟩:=dd;exact⟨ob,h1,h2.2.1⟩
section
variable {X:Cx}{pins:A5}{σ:St}{H:Hp}{s:Shared}{a:Addr}{y d:V}{u r:Value}{o:Option V}{A:Around}{E:A3}
theorem xx{Q:A3}(hu:A.units+1<cLine)(I:Inv X pins σ H s)(g:HE H a y o)(ry:RelV y u)(h:∀w' s',Inv X pins σ H s'->RelV (o.getD .f6) w'->Q w' s') :
  wpAny (model X.prog X.w) A (call (.builtin "dict.get") [.ref a,u]) Q E s:=by
 rcases g with ⟨kvs,k,e,ey,l⟩|⟨kvs,k,b,e,ey,eb,l⟩
 ·subst ey;obtain⟨z,hd,vs,rel,dd⟩:=mJ I.b9 e;refine call_meetsIn PySem.F.slot_dict_get dd.typeIs PySem.F.entry_dict_get (PySem.F.args_dict_get_2 _ _) (meets_dict_get (aK X.prog X.w) a (jH ry) hd) ⟨_,dd.mapOf,h _ _ (I.tok _) ?_⟩;rw[l];exact(rel.val k).getD rfl
 ·subst ey;cases (show u=Value.ref b from ry);obtain⟨z,hd,xs,rel,dd⟩:=jS I.b9 e;refine call_meetsIn PySem.F.slot_dict_get dd.typeIs PySem.F.entry_dict_get (PySem.F.args_dict_get_2 _ _) (meetsH_dict_get (tupleKind (aK X.prog X.w)) a b hd) ⟨tupleKind_room_in1 hu,k,xs,eU I.b9 eb,dd,h _ _ (I.tok _) ?_⟩;rw[l];exact(rel.val k).getD rfl
end
inductive Km(ty:TE)(σ:St)(Q:VK)(x:V)(H1:Hp):Prop
 |mk a:x=.ref a->ZU H1 a->(ty σ H1 λy H2=>∃o,HE H2 a y o/\Q (o.getD .f6) H2)->Km ty σ Q x H1
def sH (td ty:TE):TE:=fun σ H Q=>td σ H λx H1=>Km ty σ Q x H1
inductive Kf(ty:TE)(σ:St)(Q:VK)(x:V)(H1:Hp):Prop
 |mk a:x=.ref a->ZU H1 a->(ty σ H1 λy H2=>∃kvs k v,H2 a=some (.dK kvs)/\y=kV k/\cg kvs k=some v/\Q v (upd H2 a (.dK (cC kvs k))))->Kf ty σ Q x H1
def vp (td ty:TE):TE:=fun σ H Q=>td σ H λx H1=>Kf ty σ Q x H1
section
variable {X:Cx}{o e f:Expr}{apos i4:Pos}{td ty tx:TE}
theorem sk(hu:X.A.units+1<cLine)(ho:PE X o td)(he:PE X e ty)(m:M1 X o "get" apos e i4):PE X (.Call (.Attribute o "get" apos) [e] [] i4) (sH td ty):=by
 intro pins s σ H Q I h;refine wpAny_Call_method m.base m.few m.line PySem.F.plainAttrs_dict PySem.F.slot_dict_get PySem.F.type_dict_get (c6 (ho pins s σ H _ I h) λu s1 XO=>?_);obtain⟨x,H1,I1,rx,a,ex,d,q1⟩:=XO;subst ex;obtain rfl:u=Value.ref a:=rx;obtain⟨t1,t2,_⟩:=tK I1 d;refine⟨t1,t2,?_⟩;rw[m.trees];refine Calls.callWith_builtin rfl (Calls.evalArgs_plain (Calls.spliced_cons (c6 (he pins s1 σ H1 _ I1 q1) λiv s2 XN=>?_)));obtain⟨y,H2,I2,ry,ov,g,q2⟩:=XN;refine Calls.spliced_nil ?_;exact xx hu I2 g ry λw' s3 I3 D9=>⟨_,H2,I3,D9,q2⟩
theorem qx(ho:PE X o td)(he:PE X e ty)(m:M1 X o "pop" apos e i4):PE X (.Call (.Attribute o "pop" apos) [e] [] i4) (vp td ty):=by
 intro pins s σ H Q I h;refine wpAny_Call_method m.base m.few m.line PySem.F.plainAttrs_dict PySem.F.slot_dict_pop PySem.F.type_dict_pop (c6 (ho pins s σ H _ I h) λu s1 XM=>?_);obtain⟨x,H1,I1,rx,a,ex,d,q1⟩:=XM;subst ex;obtain rfl:u=Value.ref a:=rx;obtain⟨t1,t2,_⟩:=tK I1 d;refine⟨t1,t2,?_⟩;rw[m.trees];refine Calls.callWith_builtin rfl (Calls.evalArgs_plain (Calls.spliced_cons (c6 (he pins s1 σ H1 _ I1 q1) λiv s2 XJ=>?_)));obtain⟨y,H2,I2,ry,kvs,k,v,ea,ey,l,q2⟩:=XJ;refine Calls.spliced_nil ?_;subst ey;exact yb I2 ea ry l (.inl rfl) λw' s3 I3 D9=>⟨v,_,I3,D9,q2⟩
end
section
variable {κ:Type} [DecidableEq κ]
theorem Ku:∀{l:List κ}{k:κ},l.Nodup->¬k∈l->(l++[k]).Nodup
 |[],k,_,_=>by simp
 |a::r,k,h,hk=>by
  obtain⟨h1,h2⟩:=BN.mp h;show(a::(r++[k])).Nodup;refine BN.mpr ⟨λm=>?_,Ku h2 λm=>hk (Bb.mpr (Or.inr m))⟩;rcases Ba.mp m with q|q
  ·exact h1 q
  ·exact hk (Bb.mpr (Or.inl (AY.mp q).symm))
end
mutual
inductive Hl(K:W.Frag)(H:Hp):V->PyData->Prop
 |f6:Hl K H .f6 .none
 |bl (b:Bool):Hl K H (.bl b) (.bool b)
 |int (i:Int):Hl K H (.int i) (.int i)
 |str (x:Str):Hl K H (.str x) (.str x)
 |lst {a:Addr}{xs:A9}{ds:List PyData}:a9 K H a xs->DatAll K H xs ds->Hl K H (.ref a) (.list ds)
 |tup {a:Addr}{xs:A9}{ds:List PyData}:i5 K H a xs->DatAll K H xs ds->Hl K H (.ref a) (.tuple ds)
inductive DatAll(K:W.Frag)(H:Hp):A9->List PyData->Prop
 |nil:DatAll K H [] []
 |cons {v:V}{d:PyData}{vs:A9}{ds:List PyData}:Hl K H v d->DatAll K H vs ds->DatAll K H (v::vs) (d::ds)
end
theorem FZ.NG{K:W.Frag}{H H':Hp}{a:Addr}{xs:A9}(e:FZ H H')(h:i5 K H a xs):i5 K H' a xs:=by
 rcases h with (h|⟨o,h⟩)|h
 ·exact .inl (.inl (e _ _ h))
 ·exact .inl (.inr ⟨o,e _ _ h⟩)
 ·exact .inr h
theorem af{H:Hp}{p:Addr}(h:H p=none)(o:HO):FZ H (upd H p o):=λb u q=>by rw[aj (aC q h)];exact q
section
variable {X:Cx}{pins:A5}{σ:St}{H:Hp}{s:Shared}
mutual
theorem Inv.reads(I:Inv X pins σ H s):∀{v:V}{d:PyData}{u:Value},Hl X.K H v d->RelV v u->∃as,Reads s.heap u d as
 |_,_,_,.f6,r=>by cases r;exact⟨_,.none⟩
 |_,_,_,.bl b,r=>by cases r;exact⟨_,.bool b⟩
 |_,_,_,.int i,r=>by obtain⟨t,rfl⟩:=r;exact⟨_,.int i t⟩
 |_,_,_,.str x,r=>by obtain⟨t,rfl⟩:=r;exact⟨_,.str x t⟩
 |_,_,_,.lst h q,r=>by
  cases r;obtain⟨a7,rv,⟨o,n,e,c,dd,d⟩,hz⟩:=I.list h;obtain⟨as,z⟩:=I.readsAll q rv;exact⟨_,.list e c d (by simpa using z)⟩
 |_,_,_,.tup h q,r=>by
  cases r;obtain⟨a7,rv,⟨o,e,c,n,d⟩,hz⟩:=I.tuple h;obtain⟨as,z⟩:=I.readsAll q rv;exact⟨_,.tuple e c d (by simpa using z)⟩
theorem Inv.readsAll(I:Inv X pins σ H s):∀{vs:A9}{ds:List PyData}{us:A8},DatAll X.K H vs ds->Vals vs us->∃as,ReadsAll s.heap us ds as
 |_,_,_,.nil,.nil=>⟨_,.nil⟩
 |_,_,_,.cons h q,.cons r t=>by
  obtain⟨as,z⟩:=I.reads h r;obtain⟨bs,y⟩:=I.readsAll q t;exact⟨_,.cons z y⟩
end
inductive MM(K:W.Frag)(neg:Bool)(x:V)(y:V)(H:Hp)(Q:VK):Prop
 |mk d e:Hl K H x d->Hl K H y e->d.canLay0=true->e.canLay0=true->d.depth<=60->Q (.bl (if neg then !PyData.eqv d e else PyData.eqv d e)) H->MM K neg x y H Q
theorem xw(hu:X.A.units+64<cLine):k9 X (compareOp .Eq) (MM X.K false):=by
 intro pins s σ H x y v u Q I rx ry h;obtain⟨d,e,hd,he,c1,c2,hp,q⟩:=h;obtain⟨as,ra⟩:=I.reads hd rx;obtain⟨bs,rb⟩:=I.reads he ry;exact SeqAt.compareEq_reads ra rb c1 c2 (by have:=Ea d.depth e.depth;lia) ⟨.bl _,H,I,rfl,q⟩
theorem fN(hu:X.A.units+64<cLine):k9 X (compareOp .NotEq) (MM X.K true):=by
 intro pins s σ H x y v u Q I rx ry h;obtain⟨d,e,hd,he,c1,c2,hp,q⟩:=h;obtain⟨as,ra⟩:=I.reads hd rx;obtain⟨bs,rb⟩:=I.reads he ry;exact SeqAt.compareNe_reads ra rb c1 c2 (by have:=Ea d.depth e.depth;lia) ⟨.bl _,H,I,rfl,q⟩
end
def xD (i j:Int):Prop:=Builtin.Int.intBits i<=2^20/\Builtin.Int.intBits j<=2^20
theorem fK{X:Cx}:k9 X (binaryOp .Mult) (rI xD λi j=>.int (i*j)):=PF λ_ _ _ _ _ _ _ hc q=>mul_int q (IntMulOk.of_bits hc.1 hc.2)
def Q9 (x:Str):It:=⟨λi _=>i<x.cps.size,λi H v H'=>H'=H/\∃c,x.cps[i]?=some c/\v=.str ⟨#[c]⟩,λi _=>x.cps.size<=i⟩
theorem qL{P:Program}{w:World}{K:W.Frag}{tg:Expr}(it:Addr)(x:Str)(t:Tok):Turn P w K tg (Q9 x) [it] it (λi h=>h.IsStrIter it "str_ascii_iterator" x t i) where
 mem:=by simp
 obj:=λi h st b hb=>by
  have e:b=it:=by simpa using hb
  subst e;obtain⟨o,e,c,d⟩:=st;exact⟨o,e,λv z=>by rw[d] at z;cases z⟩
 keep:=λi h h' st k=>by
  obtain⟨o,e,r⟩:=st;exact⟨o,k it (by simp) o e,r⟩
 item:=by
  intro X hP hw hK hc i pins s σ H E I hf st hg;subst hP hw hK;obtain⟨f0,f1,f2,f3,f4,f5⟩:=hf it (by simp);have hi:i<x.cps.size:=hg;refine wpAny_pyNext_ascii_item st (c:=x.cps[i]) (by simp[hi]) λh' a8 sb=>?_;have I1:Inv X pins σ H {s with heap:=h',toks:=s.toks+1}:=I.turned (λb o hb e=>(sb.2 b hb).trans e) f0 f1 f3 f4 f5;obtain⟨o,e,c,d⟩:=id a8;exact⟨_,rfl,ou (s:={s with heap:=h',toks:=s.toks+1}) e c d (by decide) ⟨.str ⟨#[x.cps[i]]⟩,H,I1,⟨_,rfl⟩,⟨rfl,_,by simp[hi],rfl⟩,a8,λb hb=>(hf b hb).1⟩⟩
 done:=by
  intro X hP hw hK hc i pins s σ H E I hf st hg;subst hP hw hK;obtain⟨f0,f1,f2,f3,f4,f5⟩:=hf it (by simp);have hi:x.cps.size<=i:=hg;exact wpAny_pyNext_ascii_end (I.ok.hd hc) st (by simp;lia) λh' eb=>⟨rfl,I.turned (t':=s.toks) (λb o hb e=>eb b o hb e) f0 f1 f3 f4 f5⟩
 self:=λA i s Q E st h=>by
  obtain⟨o,e,c,d⟩:=id st;refine wpAny_pyIter_slot (Heap.IsStrIter.typeIs st) F.slot_str_ascii_iterator_iter (FP F.slot_str_ascii_iterator_iter (Heap.IsStrIter.typeIs st) F.entry_str_ascii_iterator_iter ?_ (F.args_str_ascii_iterator_iter_1 _));show wpAny _ _ (ret (.ref it)) _ _ s;exact Fi ⟨_,rfl,"str_ascii_iterator",_,Heap.IsStrIter.typeIs st,F.slot_str_ascii_iterator_next.lookup,h⟩
section
variable {X:Cx}{tg:Expr}
inductive Nf(R:It->Hp->Prop)(x:V)(H1:Hp):Prop
 |mk z:x=.str z->z.cps.all (·<128)=true->R (Q9 z) H1->Nf R x H1
def WR (tl:TE):TI:=fun σ H R=>tl σ H λx H1=>Nf R x H1
theorem iN{l:Expr}{tl:TE}(hl:PE X l tl):PI X tg l (WR tl):=by
 intro pins s σ H R I h;refine c6 (hl pins s σ H _ I h) λv s1 XI=>?_;obtain⟨x,H1,I1,r1,q1⟩:=XI;obtain⟨z,e,ha,q⟩:=q1;subst e;obtain⟨t,rfl⟩:=r1;refine wpAny_pyIter_ascii ha ?_;refine⟨s1.heap.objs.size,[s1.heap.objs.size],_,_,H1,rfl,I1.kept (t':=s1.toks) λb o e=>FJ _ e,qL _ z t,⟨_,FK _ rfl,rfl,rfl⟩,λb hb=>?_,q⟩;have e:b=s1.heap.objs.size:=by simpa using hb
 subst e;exact I1.Lo (AS _) (I1.b9.fresh (AS _))
def Nx (n i:Nat)(P:Nat->A9->Hp->Prop)(ys:A9)(H:Hp):Prop:=∃m',m'<n-i/\(m'=n-(i+1)/\i+1<=n/\P (i+1) ys H)
theorem Nx.mk{n i:Nat}{P:Nat->A9->Hp->Prop}{ys:A9}{H:Hp}(hi:i<n)(h:P (i+1) ys H):Nx n i P ys H:=⟨n-(i+1),by lia,rfl,hi,h⟩
theorem fP{J:It}{n k:Nat}{js:A7}{g:TG}{tc:TT}{te:TE}{σ:St}{H:Hp}{Q:VK}(P:Nat->A9->Hp->Prop)(h0:P 0 [] H)(hz:∀i ys H,i<=n->P i ys H->ys.length<=i)(hn:n<=sizeLine)
  (Tj:∀i ys H,i<n->P i ys H->J.go i H)(G8:∀ys H,P n ys H->J.stop n H)
  (hs:∀i ys H x H',i<n->P i ys H->J.D8 i H x H'->g x (List.replicate k none++bY js σ) H' fun c8 H2=>tc c8 H2 λb H3=>if b=true then te c8 H3 λy H4=>Nx n i P (ys++[y]) H4 else Nx n i P ys H3)
  (hd:∀ys H,P n ys H->∀p,H p=none->Q (.ref p) (upd H p (.lst ys))) :
  iK J k js g tc te σ H Q:=by
 refine⟨λi m ys H=>m=n-i/\i<=n/\P i ys H,⟨n,by simp,Bj _,h0⟩,?_⟩;rintro i m ys H ⟨rfl,hi,p⟩;have hy:=hz i ys H hi p;by_cases d5:i<n
 ·exact .inr ⟨Tj i ys H d5 p,by lia,λx H' y=>hs i ys H x H' d5 p y⟩
 ·have e:i=n:=by lia
  subst e;exact .inl ⟨G8 ys H p,by lia,hd ys H p⟩
theorem sD{lo:Int}{n k:Nat}{js:A7}{g:TG}{tc:TT}{te:TE}{σ:St}{H:Hp}{Q:VK}(P:Nat->A9->Hp->Prop)(h0:P 0 [] H)(hz:∀i ys H,i<=n->P i ys H->ys.length<=i)(hn:n<=sizeLine)
  (hs:∀i ys H,i<n->P i ys H->g (.int (lo+i)) (List.replicate k none++bY js σ) H fun c8 H2=>tc c8 H2 λb H3=>if b=true then te c8 H3 λy H4=>Nx n i P (ys++[y]) H4 else Nx n i P ys H3)
  (hd:∀ys H,P n ys H->∀p,H p=none->Q (.ref p) (upd H p (.lst ys))) :
  iK (OF lo n) k js g tc te σ H Q:=
 fP P h0 hz hn (λ_ _ _ h _=>h) (λ_ _ _=>AS _) (λi ys H x H' hi p y=>by obtain⟨e,y⟩:=y;subst e y;exact hs i ys _ hi p) hd
theorem cY{K:W.Frag}{a:Addr}{xs:A9}{k:Nat}{js:A7}{g:TG}{tc:TT}{te:TE}{σ:St}{H:Hp}{Q:VK}(P:Nat->A9->Hp->Prop)(h0:P 0 [] H)(hz:∀i ys H,i<=xs.length->P i ys H->ys.length<=i)(hn:xs.length<=sizeLine)
  (hl:∀i ys H,i<=xs.length->P i ys H->a9 K H a xs)
  (hs:∀i x ys H,xs[i]?=some x->P i ys H->g x (List.replicate k none++bY js σ) H fun c8 H2=>tc c8 H2 λb H3=>if b=true then te c8 H3 λy H4=>Nx xs.length i P (ys++[y]) H4 else Nx xs.length i P ys H3)
  (hd:∀ys H,P xs.length ys H->∀p,H p=none->Q (.ref p) (upd H p (.lst ys))) :
  iK (O6 K a) k js g tc te σ H Q:=
 fP P h0 hz hn (λi ys H hi p=>⟨xs,xs[i],hl i ys H (BS hi) p,by simp[hi]⟩) (λys H p=>⟨xs,hl _ ys H (AS _) p,AS _⟩)
  (λi ys H x H' hi p y=>by obtain⟨e,y⟩:=y;subst e;exact hs i x ys _ (y xs (hl i ys _ (BS hi) p)) p) hd
theorem yc{K:W.Frag}{a:Addr}{xs:A9}{k:Nat}{js:A7}{g:TG}{tc:TT}{te:TE}{σ:St}{H:Hp}{Q:VK}(P:Nat->A9->Hp->Prop)(h0:P 0 [] H)(hz:∀i ys H,i<=xs.length->P i ys H->ys.length<=i)(hn:xs.length<=sizeLine)
  (hl:∀i ys H,i<=xs.length->P i ys H->i5 K H a xs)
  (hs:∀i x ys H,xs[i]?=some x->P i ys H->g x (List.replicate k none++bY js σ) H fun c8 H2=>tc c8 H2 λb H3=>if b=true then te c8 H3 λy H4=>Nx xs.length i P (ys++[y]) H4 else Nx xs.length i P ys H3)
  (hd:∀ys H,P xs.length ys H->∀p,H p=none->Q (.ref p) (upd H p (.lst ys))) :
  iK (Q8 K a) k js g tc te σ H Q:=
 fP P h0 hz hn (λi ys H hi p=>⟨xs,xs[i],hl i ys H (BS hi) p,by simp[hi]⟩) (λys H p=>⟨xs,hl _ ys H (AS _) p,AS _⟩)
  (λi ys H x H' hi p y=>by obtain⟨e,y⟩:=y;subst e;exact hs i x ys _ (y xs (hl i ys _ (BS hi) p)) p) hd
theorem vY{z:Str}{k:Nat}{js:A7}{g:TG}{tc:TT}{te:TE}{σ:St}{H:Hp}{Q:VK}(P:Nat->A9->Hp->Prop)(h0:P 0 [] H)(hz:∀i ys H,i<=z.cps.size->P i ys H->ys.length<=i)(hn:z.cps.size<=sizeLine)
  (hs:∀i c ys H,z.cps[i]?=some c->P i ys H->g (.str ⟨#[c]⟩) (List.replicate k none++bY js σ) H fun c8 H2=>tc c8 H2 λb H3=>if b=true then te c8 H3 λy H4=>Nx z.cps.size i P (ys++[y]) H4 else Nx z.cps.size i P ys H3)
  (hd:∀ys H,P z.cps.size ys H->∀p,H p=none->Q (.ref p) (upd H p (.lst ys))) :
  iK (Q9 z) k js g tc te σ H Q:=
 fP P h0 hz hn (λi ys H hi p=>hi) (λys H p=>AS _)
  (λi ys H x H' hi p y=>by obtain⟨e,c,y,rfl⟩:=y;subst e;exact hs i c ys _ y p) hd
theorem boolsOf:∀{bs:List Bool}{us:A8},Vals (bs.map V.bl) us->us=bs.map Value.bool
 |[],_,.nil=>rfl
 |b::r,_,.cons h t=>by cases h;rw[boolsOf t];rfl
theorem sf(hc:X.calm=true):bV X (.builtin "all") (λxs H Q=>∃(p:Addr)(bs:List Bool),xs=[.ref p]/\a9 X.K H p (bs.map V.bl)/\Q (.bl (bs.all id)) H):=by
 intro pins s σ H xs us Q I r h;obtain⟨p,bs,rfl,hq,q⟩:=h;obtain⟨u,rfl,rx⟩:=cD r;cases rx;obtain⟨a7,rv,pl,hz⟩:=I.list hq;have hh:X.A.in1.handled=none:=I.ok.hd hc;have e:=boolsOf rv;subst e;have hp:p<s.heap.objs.size:=by obtain⟨o,n,e,_⟩:=pl;exact Fv e
 refine call_all_walk (wpAny_pyIter_list pl.isList ⟨s.heap.objs.size,_,_,_,_,_,λi=>bs.getD i false,rfl,Walks.list hh s.heap.objs.size p (Bf hp) _,⟨⟨_,FK _ rfl,rfl,rfl⟩,pl.isList.push _⟩,?_,λh' tk hk=>?_⟩)
 ·intro i v s' Q' E' hv q';have MJ:(bs.map Value.bool)[i]?=some v:=by simpa using hv
  rw[Bo] at MJ;cases eb:bs[i]? with
  |none=>rw[eb] at MJ;cases MJ
  |some b=>
   rw[eb] at MJ;cases MJ;refine wpAny_truthy_bool ?_;have q2:Q' (bs.getD i false) s':=q';rw[Bv,eb] at q2;exact q2
 ·have e:(List.range (bs.map Value.bool).toArray.size).all (λi=>bs.getD i false)=bs.all id:=by
   rw[FL,Cp,Cp];constructor
   ·intro h b hb;obtain⟨i,hi,rfl⟩:=Cv.mp hb;have:=h i (Bt.mpr (by simpa using hi));rw[Bv,AX hi] at this;exact this
   ·intro h i hi;have i3:i<bs.length:=by simpa using Bt.mp hi
    rw[Bv,AX i3];exact h _ (BG i3)
  rw[e];refine⟨.bl _,H,?_,rfl,q⟩;have I1:Inv X pins σ H {s with heap:=s.heap.push {cls:=.type "list_iterator",data:=.fields #[.ref p,.int 0 0]},toks:=s.toks}:=I.kept λb o e=>FJ _ e;refine I1.turned (it:=s.heap.objs.size) (λb o hb e=>hk b o (by simpa using hb) e) (I.b9.fresh (AS _)) (DC I.lt) (.inr (Heap.get?_none_of_le I.sz)) (λx c e z=>?_) λp hp z=>?_
  ·obtain⟨v,o,ho,_⟩:=I.cell x c e;rw[z] at ho;exact absurd (Fv ho) (BI _)
  ·have:=(I.pin p hp).1;rw[z] at this;exact absurd (Fv this) (BI _)
theorem strsOf:∀{zs:List Str}{us:A8},Vals (zs.map V.str) us->StrsAre us zs
 |[],_,.nil=>.nil
 |z::r,_,.cons h t=>by obtain⟨tk,rfl⟩:=h;exact .cons z tk (strsOf t)
inductive rJoin(K:W.Frag)(x:V)(vs:A9)(H:Hp)(Q:VK):Prop
 |mk (z:Str) (p:Addr) (zs:List Str):x=.str z->vs=[.ref p]->a9 K H p (zs.map V.str)->(zs.map (·.length)).sum+zs.length*z.length<=16777216->Q (.str (Txt.join z zs)) H->rJoin K x vs H Q
theorem LY:QA X "str.join" (rJoin X.K):=by
 intro pins s σ H x vs v us Q I rx rv h;obtain⟨z,p,zs,rfl,rfl,hq,hz,q⟩:=h;obtain⟨t,rfl⟩:=rx;obtain⟨u,rfl,ru⟩:=rv.one;cases ru;obtain⟨a7,r',pl,_⟩:=I.list hq;exact join_list pl.isList (by simpa using strsOf r') hz λt' k=>⟨.str _,H,I.tok _,⟨_,rfl⟩,q⟩
def ZJ:V->Option Value
 |.ty T=>some (.type T)
 |.ref a=>some (.ref a)
 |_=>none
inductive NX(K:W.Frag)(xs:A9)(H:Hp)(Q:VK):Prop
 |mk x y t c b:xs=[x,y]->ZJ y=some c->IE K H x t->W.kitOne K t c=some b->Q (.bl b) H->NX K xs H Q
theorem Hh:bV X (.builtin "isinstance") (NX X.K):=by
 intro pins s σ H xs us Q I r h;obtain⟨x,y,t,c,b,rfl,ec,ty,e,q⟩:=h;obtain⟨u,u',rfl,rx,ry⟩:=si r;have:u'=c:=by
  cases y with
  |ref _=>cases ry;exact Fx ec
  |ty _=>cases ry;exact Fx ec
  |_=>cases ec
 subst this;exact oU I rx ty e λtk=>⟨.bl b,H,I.tok _,rfl,q⟩
inductive KA(x:V)(vs:A9)(H:Hp)(Q:VK):Prop
 |mk d o kvs more:x=.ref d->vs=[.ref o]->d≠o->H d=some (.dK kvs)->H o=some (.dK more)->kvs.length+more.length<=sizeLine->Q .f6 (upd H d (.dK (cB kvs more)))->KA x vs H Q
theorem Kt:QA X "dict.update" KA:=by
 intro pins s σ H x vs v us Q I rx rv h;obtain⟨d,o,kvs,more,rfl,rfl,k8,hd,ho,hz,q⟩:=h;cases rx;obtain⟨u,rfl,ru⟩:=rv.one;cases ru;obtain⟨z1,y1,Z6,r1,d1⟩:=(show Gg X.prog X.w H s.heap d (.dK kvs) from I.b9 d _ hd)
 obtain⟨z2,y2,Z5,r2,d2⟩:=(show Gg X.prog X.w H s.heap o (.dK more) from I.b9 o _ ho)
 have l1:kvs.length=Z6.length:=Paired.length r1;have l2:more.length=Z5.length:=Paired.length r2;refine PySem.call_meetsIn F.slot_dict_update d1.typeIs F.entry_dict_update (F.args_dict_update_2 _ _) (meets_dict_update (aK X.prog X.w) d o k8 y2) ⟨Z6,Z5,d1,d2,by lia,λh' e1 e2 hs=>?_⟩;refine⟨.f6,_,I.write (x:=d) (e:=d) (o:=.dK (cB kvs more)) (t':=s.toks) (by rw[hd];trivial) (.inl rfl) (λb u hb e=>hs.extBut b u hb e) ?_ ?_,rfl,q⟩
 ·obtain⟨o',es,ep,g,_⟩:=e1;exact⟨o',g⟩
 ·exact⟨Bh (GG more kvs) hz,y1,_,r2.merge r1,e1⟩
end
def Kp (F:Addr->Prop)(fs:B2)(h h':Heap):Prop:=
 (∀b o,h.get? b=some o->¬F b->b∉fs->h'.get? b=some o)/\(∀b o,h.get? b=some o->¬F b->∃sl,h'.get? b=some {o with slots:=sl})/\∀b o,h.get? b=some o->∃o',h'.get? b=some o'
section
variable {X:Cx}{pins:A5}{σ:St}{H:Hp}{s:Shared}{h':Heap}
theorem Inv.ML{t':Nat}(I:Inv X pins σ H s)(k:Kp (GN X pins H) (Jd X.stack) s.heap h'):Inv X pins σ H {s with heap:=h',toks:=t'}:=by
 classical
 have nf:∀b o,H b=some o->¬GN X pins H b:=λb o e f=>by rw[f.1] at e;cases e
 have ns:∀b o,H b=some o->b∉Jd X.stack:=λb o e z=>by rw[I.HQ b z] at e;cases e
 have J3:∀b∈(List.range s.heap.objs.size).filter (λb=>decide (GN X pins H b)),GN X pins H b:=λb hb=>Fu (CP.mp hb).2;have Pd:∀b o,s.heap.get? b=some o->b∉(List.range s.heap.objs.size).filter (λb=>decide (GN X pins H b))->¬GN X pins H b:=λb o e n f=>
  n (CP.mpr ⟨Bt.mpr (Fv e),Fo f⟩)
 have M8:∀b,b≠X.env.locals->b∉X.fs->b∉Jd X.stack:=λb h1 h2 z=>(Bb.mp (I.Iz b z)).elim h1 h2;refine I.step (g':=s.gens) (d':=s.drawn) (ch:=(List.range s.heap.objs.size).filter (λb=>decide (GN X pins H b))) (λb hb=>?_) (λb o hL hb hc e n=>k.1 b o e (Pd b o e hc) (M8 b hL hb)) (λb o hL hb hc e n=>k.2.1 b o e (Pd b o e hc))
  (λb o hc e n=>n) (λb o hc e=>k.2.2 b o e) (λ_ _ e=>e) (λ_ _ _ e=>e) (λb ps e=>⟨#[],by rw[e];simp⟩) (λm hm=>?_) (λb o e=>?_) I.bare
 ·obtain⟨f0,f1,f2,f3,f4,f5⟩:=J3 b hb;exact⟨f3,f1,f4,f5⟩
 ·obtain⟨o,es,ep,ho,r⟩:=hm;obtain⟨sl,q⟩:=k.2.1 _ o ho λf=>f.2.1 rfl;exact⟨_,es,ep,q,r⟩
 ·refine(I.b9 b o e).JG (λc u hc q=>?_) (λ_ q=>q) λ_ _ q=>q;rcases hc with z|z
  ·subst z;exact k.1 _ u q (nf _ o e) (ns _ o e)
  ·exact k.1 c u q (nf c _ z) (ns c _ z)
theorem Inv.LX(I:Inv X pins σ H s):∀b,s.heap.objs.size<=b->GN X pins H b:=λb hb=>I.Lo hb (I.b9.fresh hb)
end
abbrev XS:=Value->St->Hp->Prop
section
variable {P:Program}{w:World}{K:PySem.W.Frag}{mg:Str->Option Value}{base:Heap}
theorem Hu.calm{k:Nat}{A:Around}{env:Env}(r:Hu k (A.deeper env)):A.handled.isNone=true:=by
 have:=r.hd;have h2:A.handled=none:=this;rw[h2];rfl
end
section
variable {X:Cx}{pins:A5}{σ:St}{H:Hp}{s:Shared}
theorem Inv.Ny{b:Addr}{o:HO}(I:Inv X pins σ H s)(f:GN X pins H b)(ob:Gg X.prog X.w (upd H b o) s.heap b o):Inv X pins σ (upd H b o) s:=by
 obtain⟨f0,f1,f2,f3,f4,f5⟩:=f;have nb:∀c u,H c=some u->c≠b:=λc u e z=>by rw[z,f0] at e;cases e
 refine⟨I.ok,I.os,I.bare,⟨I.base.keep,I.base.slot,λc u e n hx=>?_,I.base.there,λc xs e=>?_,λc u xs e=>?_,λc ps e=>?_⟩,I.loc,I.cell,?_,λx c e=>?_,λp hp=>?_,λc u e=>?_,I.len⟩
 ·have z:c≠b:=λz=>by
   subst z;rcases f3 with q|q
   ·exact hx q
   ·rw[q] at e;cases e
  rw[aj z];exact I.base.free c u e n hx
 ·have q:=I.base.JO c xs e;rw[aj (nb c _ q)];exact q
 ·have q:=I.base.JL c u xs e;rw[aj (nb c _ q)];exact q
 ·obtain⟨more,q⟩:=I.base.JK c ps e;exact⟨more,by rw[aj (nb c _ q)];exact q⟩
 ·rw[aj (FI f1)];exact I.free
 ·rw[aj (f4 x c e)];exact I.GL x c e
 ·obtain⟨a1,a2,a3⟩:=I.pin p hp;exact⟨a1,by rw[aj (f5 p hp)];exact a2,a3⟩
 ·by_cases z:c=b
  ·subst z;rw[ae] at e;cases e;exact ob
  ·rw[aj z] at e;refine(I.b9 c u e).JG (λ_ _ _ q=>q) (λa q=>?_) λa xs q=>?_
   ·rw[aj (nb a _ q)];exact q
   ·rw[aj (nb a _ q)];exact q
end
end L2
namespace L2
open PySem PySem.Spec PyProof.Rows
def qv {α:Type}(xs:List α)(lo hi:Option Int):List α:=(xs.drop (HT.l9 xs.length 0 lo)).take (HT.l9 xs.length xs.length hi-HT.l9 xs.length 0 lo)
theorem wk(lo hi:Option Int)(n:Nat):Builtin.Str.strSliceIndices lo hi 1 n=(List.range (HT.l9 n n hi-HT.l9 n 0 lo)).map λk=>HT.l9 n 0 lo+k:=by
 have Pt:∀v:Int,max 0 (min (if v<0 then v+(n:Int) else v) (n:Int))=(((if v<0 then (v+(n:Int)).toNat else min v.toNat n):Nat):Int):=λv=>by
  split<;>lia
 have key:∀i j:Nat,sliceRange (i:Int) (j:Int) 1=(List.range (j-i)).map λk=>i+k:=λi j=>by
  unfold sliceRange;simp only[show(1:Int)>0 by decide,if_true];have e:(if (i:Int)<(j:Int) then ((j:Int)-(i:Int)+1-1)/1 else 0).toNat=j-i:=by
   split<;>lia
  rw[e];apply Cc;intro k _;lia
 have lo':(match lo with|none=>(0:Int)|some i=>max 0 (min (if i<0 then i+(n:Int) else i) (n:Int)))=((HT.l9 n 0 lo:Nat):Int):=by
  cases lo with
  |none=>rfl
  |some v=>exact Pt v
 have i3:(match hi with|none=>(n:Int)|some i=>max 0 (min (if i<0 then i+(n:Int) else i) (n:Int)))=((HT.l9 n n hi:Nat):Int):=by
  cases hi with
  |none=>rfl
  |some v=>exact Pt v
 rw[<- key,<- lo',<- i3];rfl
theorem iH{α:Type}(xs:List α)(i m:Nat)(h:i+m<=xs.length):((List.range m).map λk=>i+k).filterMap (λj=>xs[j]?)=(xs.drop i).take m:=by
 induction m with
 |zero=>simp
 |succ m ih=>
  have hm:i+m<xs.length:=by lia
  rw[CT,Bi,List.filterMap_append,ih (by lia),Bw,Ci,AX hm];simp[hm]
theorem bZ(z:Str)(lo hi:Option Int):(Txt.slice z lo hi).cps.toList=qv z.cps.toList lo hi:=by
 have hn:z.length=z.cps.toList.length:=rfl;unfold Txt.slice;have e:=wk lo hi z.length;have h1:=HT.LG z.length 0 (Bj _) lo;have h2:=HT.LG z.length z.length (AS _) hi;rw[e];split
 ·rename_i c;have c':(HT.l9 z.length z.length hi-HT.l9 z.length 0 lo)=z.length:=by
   have:=(BQ _ _▸c).2;simpa using this
  unfold qv;rw[<- hn];have a0:HT.l9 z.length 0 lo=0\/z.length=0:=by lia
  rcases a0 with a0|a0
  ·rw[c',a0,CJ];exact(BB (by rw[<- hn];exact AS _)).symm
  ·have:z.cps.toList=[]:=BM.mp (by rw[<- hn];exact a0);rw[this];simp
 ·show((List.map _ _).filterMap _).toArray.toList=_;unfold qv;rw[<- hn];have e2:(λj:Nat=>z.cps[j]?)=λj:Nat=>z.cps.toList[j]?:=by funext j;rw[Bn]
  rw[List.toList_toArray,e2];by_cases hle:HT.l9 z.length 0 lo<=HT.l9 z.length z.length hi
  ·exact iH _ _ _ (by rw[<- hn];lia)
  ·have:HT.l9 z.length z.length hi-HT.l9 z.length 0 lo=0:=by lia
   rw[this];simp
section
variable {X:Cx}
inductive NT(x:V)(lo:Option Int)(hi:Option Int)(H:Hp)(Q:VK):Prop
 |mk z:x=.str z->z.length<=sizeLine->Q (.str (Txt.slice z lo hi)) H->NT x lo hi H Q
theorem GK:ZR X NT:=by
 intro pins s σ H x v vl vu lo hi sl Q I rx hs pl pu q;obtain⟨z,rfl,hz,q⟩:=q;obtain⟨t,rfl⟩:=rx;refine⟨"str",_,PySem.F.slot_str_getitem.lookup,typeIs_str _ _ _,?_⟩;obtain⟨l',e1,ZG⟩:∃l':Option (Int×Tok),vl=partValue l'/\l'.map (·.1)=lo:=by
  cases pl with
  |none=>exact⟨none,rfl,rfl⟩
  |int i t=>exact⟨some (i,t),rfl,rfl⟩
 obtain⟨u',e2,e2'⟩:∃l':Option (Int×Tok),vu=partValue l'/\l'.map (·.1)=hi:=by
  cases pu with
  |none=>exact⟨none,rfl,rfl⟩
  |int i t=>exact⟨some (i,t),rfl,rfl⟩
 subst e1 e2 ZG e2';refine wpAny_getItem_str_slice (l:=l') (u:=u') (st:=none) hs rfl (post_val_or_str ⟨?_,λt' k=>⟨.str (Txt.slice z (l'.map (·.1)) (u'.map (·.1))),H,I.tok _,⟨_,rfl⟩,q⟩⟩);exact Bh (Txt.slice_le z (l'.map (·.1)) (u'.map (·.1))) hz
inductive MK(x:V)(y:V)(H:Hp)(Q:VK):Prop
 |mk z n:x=.str z->y=.int n->-(2^63)<=n->n<2^63->z.length*n.toNat<=16777216->Q (.str (Txt.mul z n)) H->MK x y H Q
theorem II:k9 X (binaryOp .Mult) MK:=by
 intro pins s σ H x y v u Q I rx ry h;obtain⟨z,n,rfl,rfl,h0,h1,hz,q⟩:=h;obtain⟨t,rfl⟩:=rx;obtain⟨t',rfl⟩:=ry;refine SB.mul ⟨?_,λhn _ hc=>?_,λhn _=>?_⟩ λtk k=>⟨.str _,H,I.tok _,⟨_,rfl⟩,q⟩
 ·rw[Fp (by lia),Fp (by lia)];rfl
 ·have Of:1<=n:=by lia
  have e:((z.length*n.toNat:Nat):Int)=(z.length:Int)*n:=by
   rw[Int.natCast_mul,Int.toNat_of_nonneg (by lia)]
  have h3:(z.length:Int)*n<=16777216:=by rw[<- e];lia
  have h4:(z.length:Int)<=(2^63-1)/n:=by
   rw[Int.le_ediv_iff_mul_le (by lia)];lia
  lia
 ·unfold Builtin.Str.tooLong;exact Fp (by rw[sizeLine_eq];lia)
end
theorem lh(a:Array Nat):∀(n:Nat)(acc:Array Nat),((List.replicate n a).foldl (·++·) acc).toList=acc.toList++(List.replicate n a.toList).flatten
 |0,acc=>by simp
 |n+1,acc=>by
  rw[List.replicate_succ,Dj,lh a n,List.replicate_succ,EA,BZ,Bz]
theorem mul_list(z:Str)(n:Int):(Txt.mul z n).cps.toList=(List.replicate n.toNat z.cps.toList).flatten:=by
 unfold Txt.mul;split
 ·have:n.toNat=0:=by lia
  rw[this];rfl
 ·split
  ·rename_i hn c;have c':n=1\/z.length=0:=by simpa using c
   rcases c' with rfl|c'
   ·simp
   ·have:z.cps.toList=[]:=BM.mp c';rw[this];simp
  ·show((List.replicate n.toNat z.cps).foldl (·++·) #[]).toList=_;rw[lh];simp
section
variable {X:Cx}
theorem HF:∀{ns:B3}{us:A8}{i:Nat}{v:Value},Vals (ns.map V.int) us->us[i]?=some v->∃t,v=.int (ns.getD i 0) t
 |[],_,_,_,.nil,e=>by simp at e
 |n::r,_,0,_,.cons h _,e=>by
  simp at e;subst e;obtain⟨t,rfl⟩:=h;exact⟨t,rfl⟩
 |n::r,_,i+1,v,.cons _ t,e=>by
  obtain⟨tk,q⟩:=HF (i:=i) (v:=v) t (by simpa using e);exact⟨tk,by simpa using q⟩
theorem Inv.HY{pins:A5}{σ:St}{H:Hp}{s:Shared}{h':Heap}{tk:Nat}{o:Obj}(I:Inv X pins σ H s)(hk:∀b u,b∉[s.heap.objs.size]->(s.heap.push o).get? b=some u->h'.get? b=some u):Inv X pins σ H {s with heap:=h',toks:=tk}:=by
 have I1:Inv X pins σ H {s with heap:=s.heap.push o,toks:=s.toks}:=I.kept λb o e=>FJ _ e;refine Inv.turned (s:={s with heap:=s.heap.push o,toks:=s.toks}) (it:=s.heap.objs.size) I1 (λb o hb e=>hk b o (by simpa using hb) e) (I.b9.fresh (AS _)) (DC I.lt) (.inr (Heap.get?_none_of_le I.sz)) (λx c e z=>?_) λp hp z=>?_
 ·obtain⟨v,o,ho,_⟩:=I.cell x c e;rw[z] at ho;exact absurd (Fv ho) (BI _)
 ·have:=(I.pin p hp).1;rw[z] at this;exact absurd (Fv this) (BI _)
theorem oW(val:Nat->Int):∀k,argBest (λi j=>decide (val i<val j)) k<=k/\∀j,j<=k->val (argBest (λi j=>decide (val i<val j)) k)<=val j
 |0=>⟨AS _,λj hj=>by have:j=0:=(by lia);subst this;exact Dk _⟩
 |k+1=>by
  obtain⟨h1,h2⟩:=oW val k;show(if decide (val (k+1)<val (argBest _ k))=true then k+1 else argBest _ k)<=k+1/\∀j,j<=k+1->val (if decide (val (k+1)<val (argBest _ k))=true then k+1 else argBest _ k)<=val j;by_cases c:val (k+1)<val (argBest (λi j=>decide (val i<val j)) k)
  ·rw[Fn (Fo c)];refine⟨AS _,λj hj=>?_⟩;by_cases e:j=k+1
   ·subst e;exact Dk _
   ·have:=h2 j (by lia);lia
  ·rw[Fm (by rw[Fp c];decide)];refine⟨by lia,λj hj=>?_⟩;by_cases e:j=k+1
   ·subst e;lia
   ·exact h2 j (by lia)
inductive Na(K:W.Frag)(xs:A9)(H:Hp)(Q:VK):Prop
 |mk (p:Addr) (ns:B3):xs=[.ref p]->i5 K H p (ns.map V.int)->ns≠[]->(∀m,m∈ns->(∀n∈ns,m<=n)->Q (.int m) H)->Na K xs H Q
theorem qj(hc:X.calm=true):bV X (.builtin "min") (Na X.K):=by
 intro pins s σ H xs us Q I r h;obtain⟨p,ns,rfl,hq,k8,q⟩:=h;obtain⟨u,rfl,rx⟩:=cD r;cases rx;obtain⟨a7,rv,pl,hz⟩:=I.tuple hq;have hl:=rv.length;rw[AU] at hl;have hh:X.A.in1.handled=none:=I.ok.hd hc;obtain⟨ob,ho,Tt,n0,hd⟩:=id pl;have hp:p<s.heap.objs.size:=Fv ho;have it:s.heap.IsTuple p a7.toArray:=pl;refine call_min_walk (wpAny_pyIter_tuple it ⟨s.heap.objs.size,_,_,_,_,_,λi j=>decide (ns.getD i 0<ns.getD j 0),rfl,Walks.tuple hh s.heap.objs.size p (Bf hp) _,⟨⟨_,FK _ rfl,rfl,rfl⟩,it.push _⟩,?_,?_,CmpOf.ints_lt (λi=>ns.getD i 0) λi v hv=>HF rv (by rw[Dc] at hv;exact hv),λv h' tk hv hk=>?_⟩)
 ·intro b hb;show b<(s.heap.push _).objs.size;rw[FQ];simp only[Bb,BE,or_false] at hb;rcases hb with e|e
  ·rw[e];exact Cm _
  ·rw[e];exact CH hp
 ·rw[Br];cases ns with
  |nil=>exact absurd rfl k8
  |cons _ _=>rw[<- hl];exact Eb _
 ·obtain⟨t,rfl⟩:=HF rv (by rw[Dc] at hv;exact hv);obtain⟨h1,h2⟩:=oW (λi=>ns.getD i 0) (a7.toArray.size-1);have hs:a7.toArray.size=ns.length:=by rw[Br,hl]
  have pos:0<ns.length:=by
   cases ns with
   |nil=>exact absurd rfl k8
   |cons _ _=>exact Eb _
  refine⟨.int _,H,I.HY hk,⟨_,rfl⟩,q _ ?_ λn hn=>?_⟩
  ·have hi:argBest (λi j=>decide (ns.getD i 0<ns.getD j 0)) (a7.toArray.size-1)<ns.length:=by lia
   rw[Bv,AX hi];exact BG hi
  ·obtain⟨j,hj,rfl⟩:=Cv.mp hn;have:=h2 j (by lia);rw[Bv (i:=j),AX hj] at this;exact this
theorem jh(ns:B3):∀k,k<=ns.length->preSum (λi=>ns.getD i 0) k=(ns.take k).sum
 |0,_=>rfl
 |k+1,h=>by
  have hk:k<ns.length:=by lia
  show preSum (λi=>ns.getD i 0) k+ns.getD k 0=_;rw[jh ns k (by lia),Bw,AX hk,Bv,AX hk,Cy];show(ns.take k).sum+ns[k]=(ns.take k).sum+(ns[k]+0)
  lia
end
def xT (_ j:Int):Prop:=0<j/\j<1000000000000000000000000000000000
theorem rS{X:Cx}:k9 X (binaryOp .FloorDiv) (rI xT λi j=>.int (i/j)):=PF λi j _ _ _ _ _ hc q=>by
 have h1:(0:Int)<j:=hc.1;have h2:j<1000000000000000000000000000000000:=hc.2;refine floordiv_int (by lia) (by rw[EY i (by lia)];exact q) (.inl (PyProof.noPylong_of_log2 ?_));refine Bq ((Nat.log2_lt (by lia)).mpr (show j.natAbs<2^111 by lia)) (by decide)
def UK (K:W.Frag)(a:Addr):It:=
 ⟨λi H=>∃xs x,a9 K H a xs/\xs[i]?=some x,λi H v H'=>∃p x,H p=none/\v=.ref p/\H'=upd H p (.tup [.int i,x])/\∀xs,a9 K H a xs->xs[i]?=some x,λi H=>∃xs,a9 K H a xs/\xs.length<=i⟩
theorem oE{P:Program}{w:World}{K:W.Frag}{elts:List Expr}{x1}{pos:Pos}(a e it:Addr)(k8:e≠it) :
  Turn P w K (.Tuple elts x1 pos) (UK K a) [e,it] e (λi h=>(∃old,IsEnum h e it ((i:Nat):Int) old)/\h.IsListIter it a i) where
 mem:=by simp
 obj:=λi h st b hb=>by
  obtain⟨⟨old,s1⟩,s2⟩:=st;simp only[Bb,BE,or_false] at hb;rcases hb with rfl|rfl
  ·exact⟨_,s1,λv z=>by cases z⟩
  ·obtain⟨o,e,c,d⟩:=s2;exact⟨o,e,λv z=>by rw[d] at z;cases z⟩
 keep:=λi h h' st k=>by
  obtain⟨⟨old,s1⟩,s2⟩:=st;exact⟨⟨old,k e (by simp) _ s1⟩,s2.at λo z=>k it (by simp) o z⟩
 item:=by
  intro X hP hw hK hc i pins s σ H E I hf st hg;subst hP hw hK;obtain⟨⟨old,s1⟩,s2⟩:=st;obtain⟨xs,x,hq,hx⟩:=hg;obtain⟨a7,rv,p,hz⟩:=I.list hq;obtain⟨u,hu,ru⟩:=rv.get hx;have fe:=hf e (by simp);have fi:=hf it (by simp);refine wpAny_pyNext_enum_item s1 s2 p.isList (x:=u) (by simpa using hu) k8 λi8 Pj Qa RM hz₁ Tc=>?_;refine⟨_,rfl,wpAny_letOwnedTupleGo_enum Pj λp6 Ph Od=>?_⟩;have he0:e<s.heap.objs.size:=Fv s1;have kk:∀b o,b≠e->b≠it->s.heap.get? b=some o->p6.get? b=some o:=λb o b1 b2 q=>Od.extBut b o b1 (Tc b o b1 b2 q);have Oh:=Qa.extBut Od.extBut (FI k8)
  have I1:Inv X pins σ H { s with heap:=p6,toks:=s.toks+1 }:=I.ML ⟨λb o q n _=>kk b o (λz=>n (z ▸ fe)) (λz=>n (z ▸ fi)) q,λb o q n=>⟨o.slots,kk b o (λz=>n (z ▸ fe)) (λz=>n (z ▸ fi)) q⟩,λb o q=>by
   by_cases z1:b=e
   ·subst z1;exact⟨_,Ph⟩
   ·by_cases z2:b=it
    ·subst z2;obtain⟨oi,g,_⟩:=Oh;exact⟨oi,g⟩
    ·exact⟨o,kk b o z1 z2 q⟩⟩
  have hn:=I.b9.fresh (AS s.heap.objs.size);have RL:p6.get? s.heap.objs.size=some {cls:=.type "tuple",data:=.seq #[.int i s.toks,u]}:=(Od.2 _ (DC he0)).trans RM;have I2:Inv X pins σ (upd H s.heap.objs.size (.tup [.int i,x])) {s with heap:=p6,toks:=s.toks+1}:=I1.Ny (I.LX _ (AS _)) ⟨by show 2<=sizeLine;decide,[.int i s.toks,u],.cons ⟨_,rfl⟩ (.cons ru .nil),_,RL,rfl,_,rfl⟩;refine⟨.ref s.heap.objs.size,_,I2,rfl,⟨_,x,hn,rfl,rfl,λys hy=>by rw[I.Jg hy hq];exact hx⟩,⟨⟨u,?_⟩,Oh⟩,λb hb=>?_⟩
  ·have z:((i+1:Nat):Int)=(i:Int)+1:=by lia
   rw[z];exact Ph
  ·have C7:b≠s.heap.objs.size:=by
    simp only[Bb,BE,or_false] at hb;rcases hb with rfl|rfl
    ·exact Bf he0
    ·obtain⟨oi,g,_⟩:=s2;exact Bf (Fv g)
   rw[aj C7];exact(hf b hb).1
 done:=by
  intro X hP hw hK hc i pins s σ H E I hf st hg;subst hP hw hK;obtain⟨⟨old,s1⟩,s2⟩:=st;obtain⟨xs,hq,hx⟩:=hg;obtain⟨a7,rv,p,hz⟩:=I.list hq;obtain⟨f0,f1,f2,f3,f4,f5⟩:=hf it (by simp);have hl:=rv.length;exact wpAny_pyNext_enum_end (I.ok.hd hc) s1 s2 p.isList (by simp;lia) λh' eb=>⟨rfl,I.turned (t':=s.toks) (λb o hb e=>eb b o hb e) f0 f1 f3 f4 f5⟩
 self:=λ_ _ _ _ _ st h=>wpAny_pyIter_enum st.1.choose_spec h
section
variable {X:Cx}
theorem Ig:bootBuiltins "enumerate"=some (.type "enumerate"):=by decide +kernel
inductive Lu(K:W.Frag)(R:It->Hp->Prop)(vs:A9)(H1:Hp):Prop
 |mk a:vs=[.ref a]->(∃xs,a9 K H1 a xs)->R (UK K a) H1->Lu K R vs H1
def yB (K:W.Frag)(ta:TA):TI:=fun σ H R=>ta σ H λvs H1=>Lu K R vs H1
theorem nH{elts:List Expr}{x1}{Rf:Pos}{a:Expr}{ta:TA}{p pos:Pos}(hg:Gl X "enumerate")(hm:X.mg "enumerate"=none)(ha:PA X [a] ta)(hs:starEach [a] X.env=[(false,eval a X.env)]:=by rfl) :
  PI X (.Tuple elts x1 Rf) (.Call (.Name "enumerate" p) [a] [] pos) (yB X.K ta):=by
 intro pins s σ H R I h;refine Call_ (fJ I hg hm Ig (PyProof.Rows.callWith_type1 (c6 (ha pos pins s σ H _ I h) λus s1 XH=>?_) hs rfl));obtain⟨vs,H1,I1,r1,q1⟩:=XH;obtain⟨l,e,⟨xs,hq⟩,q⟩:=q1;subst e;obtain⟨u,rfl,ru⟩:=cD r1;cases ru;obtain⟨a7,rv,pl,hz⟩:=I1.list hq;refine call_enumerate_list pl.isList λh' he hit hsz hk=>?_;refine wpAny_pyIter_enum he ?_;have I2:Inv X pins σ H1 {s1 with heap:=h',toks:=s1.toks}:=I1.kept hk;refine⟨s1.heap.objs.size+1,[s1.heap.objs.size+1,s1.heap.objs.size],_,UK X.K l,H1,rfl,I2,oE l _ _ (Nat.succ_ne_self _),⟨⟨_,he⟩,hit⟩,λb hb=>?_,q⟩;simp only[Bb,BE,or_false] at hb;rcases hb with rfl|rfl
 ·exact I1.Lo (Ck _) (I1.b9.fresh (Ck _))
 ·exact I1.Lo (AS _) (I1.b9.fresh (AS _))
theorem wC{K:W.Frag}{a:Addr}{xs:A9}{k:Nat}{js:A7}{g:TG}{tc:TT}{te:TE}{σ:St}{H:Hp}{Q:VK}(P:Nat->A9->Hp->Prop)(h0:P 0 [] H)(hz:∀i ys H,i<=xs.length->P i ys H->ys.length<=i)(hn:xs.length<=sizeLine)
  (hl:∀i ys H,i<=xs.length->P i ys H->a9 K H a xs)
  (hs:∀i x ys H p,xs[i]?=some x->P i ys H->H p=none->g (.ref p) (List.replicate k none++bY js σ) (upd H p (.tup [.int i,x])) fun c8 H2=>tc c8 H2 λb H3=>if b=true then te c8 H3 λy H4=>Nx xs.length i P (ys++[y]) H4 else Nx xs.length i P ys H3)
  (hd:∀ys H,P xs.length ys H->∀p,H p=none->Q (.ref p) (upd H p (.lst ys))) :
  iK (UK K a) k js g tc te σ H Q:=
 fP P h0 hz hn (λi ys H hi p=>⟨xs,xs[i],hl i ys H (BS hi) p,by simp[hi]⟩) (λys H p=>⟨xs,hl _ ys H (AS _) p,AS _⟩)
  (λi ys H v H' hi p y=>by obtain⟨q,x,hq,rfl,rfl,y⟩:=y;exact hs i x ys H q (y xs (hl i ys _ (BS hi) p)) p hq) hd
inductive JQ(x:V)(vs:A9)(H:Hp)(Q:VK):Prop
 |mk z y:x=.str z->vs=[.str y]->Q (.bl (Txt.startswith z y)) H->JQ x vs H Q
theorem GY:QA X "str.startswith" JQ:=by
 intro pins s σ H x vs v us Q I rx rv h;obtain⟨z,y,rfl,rfl,q⟩:=h;obtain⟨t,rfl⟩:=rx;obtain⟨u,rfl,t',rfl⟩:=rv.one;exact SC.startswith ⟨.bl _,H,I,rfl,q⟩
end
theorem dC{M:Model}{A:Around}{E:A3}{s:Shared}{pos:Pos}{id:String}{first:A8}{args:List (Bool×Sem Value)}{keywords:List (Option Str×Sem Value)}{Q:A3}
  (y8:(args.any (·.1)||keywords.any (·.1.isNone))=false)
  (h:wpAny M A (evalArgs (.builtin id) true args keywords) (λa b7=>wpAny M A (call (.builtin id) (first++a.pos) a.kw) Q E b7) E s) :
  wpAny M A (callWith pos (.builtin id) first args keywords) Q E s:=by
 unfold callWith;refine Fh (Ft (Fq h (λa b7 i8=>Fh (wpAny_standAt ?_)) λ_ _ x=>x));simp only[y8];refine Fh (Fi ?_);exact Fh (Fq i8 (λr k6 hr=>Fh (Ft (wpAny_point (Fi hr)))) λ_ _ x=>x)
end L2
namespace L2
open PySem PySem.Spec PyProof.Rows SeqAt
theorem HD:∀ns:B3,PyData.canLayAll0 (ns.map PyData.int)=true
 |[]=>rfl
 |n::r=>by
  show((PyData.int n).canLay0&&PyData.canLayAll0 (r.map PyData.int))=true;rw[HD r];rfl
theorem gZ(ns:B3):(PyData.list (ns.map PyData.int)).canLay0=true:=HD ns
section
variable {X:Cx}{pins:A5}{σ:St}
theorem GN.turn{t':Nat}{H:Hp}{s:Shared}{it:Addr}{h':Heap}(f:GN X pins H it)(I:Inv X pins σ H s)(k:∀b o,b≠it->s.heap.get? b=some o->h'.get? b=some o):Inv X pins σ H {s with heap:=h',toks:=t'}:=
 I.turned k f.1 f.2.1 f.2.2.2.1 f.2.2.2.2.1 f.2.2.2.2.2
end
end L2
namespace L2
open PySem PySem.Spec PyProof.Rows
section
variable {X:Cx}
inductive Nl(K:W.Frag)(xs:A9)(H:Hp)(Q:VK):Prop
 |mk (p:Addr) (ns:B3):xs=[.ref p]->a9 K H p (ns.map V.int)->Q (.int ns.sum) H->Nl K xs H Q
theorem fH(hc:X.calm=true):bV X (.builtin "sum") (Nl X.K):=by
 intro pins s σ H xs us Q I r h;obtain⟨p,ns,rfl,hq,q⟩:=h;obtain⟨u,rfl,rx⟩:=cD r;cases rx;obtain⟨a7,rv,pl,hz⟩:=I.list hq;have hl:=rv.length;rw[AU] at hl;have hh:X.A.in1.handled=none:=I.ok.hd hc;obtain⟨ob,ho,Tt,n0,hd⟩:=id pl.isList;have hp:p<s.heap.objs.size:=Fv ho;have it:s.heap.IsList p a7.toArray:=pl.isList;refine call_sum_walkAnyS (wpAny_pyIter_list it ⟨s.heap.objs.size,_,_,_,_,_,_,λi=>ns.getD i 0,rfl,(Walks.list hh s.heap.objs.size p (Bf hp) _).toS,⟨⟨_,FK _ rfl,rfl,rfl⟩,it.push _⟩,?_,λi v hv=>HF rv (by rw[Dc] at hv;exact hv),λs' t' hm=>?_⟩)
 ·intro b hb;show b<(s.heap.push _).objs.size;rw[FQ];simp only[Bb,BE,or_false] at hb;rcases hb with e|e
  ·rw[e];exact Cm _
  ·rw[e];exact CH hp
 ·have e:preSum (λi=>ns.getD i 0) a7.toArray.size=ns.sum:=by
   rw[jh ns _ (by rw[Br];lia),BB (by rw[Br];lia)]
  rw[e];obtain⟨C6,g1,d1,o1,t1⟩:=hm;obtain⟨h',g',d',QJ,Vl⟩:=s';have eg:g'=s.gens:=g1;have ed:d'=s.drawn:=d1;have eo:Vl=s.os:=o1;subst eg ed eo;exact⟨.int _,H,I.HY (o:=_) C6,⟨_,rfl⟩,q⟩
end
theorem oC(n:Nat):sliceRange ((n:Int)-1) (-1) (-1)=(List.range n).map λk=>n-1-k:=by
 unfold sliceRange;simp only[show ¬((-1:Int)>0) by decide,if_false];have e:(if (n:Int)-1 > -1 then ((n:Int)-1 - -1 - -1-1)/(- -1) else 0).toNat=n:=by
  split
  ·have:((n:Int)-1 - -1 - -1-1)/(- -1)=n:=by
    rw[show(- -1:Int)=1 by decide,Int.ediv_one];lia
   rw[this];rfl
  ·have:n=0:=by lia
   subst this;rfl
 rw[e];apply Cc;intro k hk;have:=Bt.mp hk;lia
theorem ig{α β:Type}{f g:α->Option β}:∀{l:List α},(∀x∈l,f x=g x)->l.filterMap f=l.filterMap g
 |[],_=>rfl
 |a::l,h=>by rw[Dy,Dy,h a (.head _),ig λx hx=>h x (.tail _ hx)]
theorem rH{α:Type}(xs:List α):((List.range xs.length).map λk=>xs.length-1-k).filterMap (λj=>xs[j]?)=xs.reverse:=by
 have h:=iH xs.reverse 0 xs.length (by simp);rw[CJ,BB (by simp)] at h;rw[<- h,List.filterMap_map,List.filterMap_map];apply ig;intro k hk;have D6:=Bt.mp hk;show xs[xs.length-1-k]?=xs.reverse[0+k]?;rw[Dd,List.getElem?_reverse D6]
section
variable {X:Cx}
def RvR (X:Cx)(r:V->Hp->VK->Prop):Prop:=
 ∀(pins:A5)(s:Shared)(σ:St)(H:Hp)(x:V)(v:Value)(t:Tok)(sl:Addr)(Q:VK),Inv X pins σ H s->RelV x v->s.heap.IsSliceOf sl .none .none (.int (-1) t)->r x H Q ->
  ∃T id,typeLookup (.type T) "__getitem__"=pure (some (.builtin id))/\s.TypeIs v T/\(wq X) (getItem v (.ref sl)) (EP X pins σ Q) X.xe s
def tRv (r:V->Hp->VK->Prop)(te ts:TE):TE:=fun σ H Q=>te σ H λx H1=>ts σ H1 λy H2=>y=.int (-1)/\r x H2 Q
theorem vU{e st:Expr}{te ts:TE}{pos p2:Pos}{r:V->Hp->VK->Prop}(hr:RvR X r)(he:PE X e te)(j9:PE X st ts):PE X (.Subscript e (.Slice none none (some st) p2) pos) (tRv r te ts):=by
 intro pins s σ H Q I h;refine Subscript_ (c6 (he pins s σ H _ I h) λv s1 XG=>?_);obtain⟨x,H1,I1,r1,q1⟩:=XG;refine wpAny_Slice ?_;rw[evalPart_none];refine Fi (Fi ?_);rw[evalPart_some];refine c6 (j9 pins s1 σ H1 _ I1 q1) λvs s3 XF=>?_;obtain⟨y,H3,I3,ry,ey,q3⟩:=XF;subst ey;obtain⟨t,rfl⟩:=ry;have I4:Inv X pins σ H3 {s3 with heap:=s3.heap.push {cls:=.type "slice",data:=.fields #[.none,.none,.int (-1) t]}}:=I3.kept (t':=s3.toks) λb ob q=>FJ _ q;obtain⟨T,id,hT,ht,hg⟩:=hr pins {s3 with heap:=s3.heap.push {cls:=.type "slice",data:=.fields #[.none,.none,.int (-1) t]}} σ H3 x v t s3.heap.objs.size Q I4 r1 (Heap.IsSliceOf.new ..) q3;show (wq X) (subscriptTail e (.Slice none none (some st) p2) v (.ref s3.heap.objs.size)) (EP X pins σ Q) X.xe {s3 with heap:=s3.heap.push {cls:=.type "slice",data:=.fields #[.none,.none,.int (-1) t]}};exact tail_any (ops:=[v,.ref s3.heap.objs.size]) ht hT hg (by with_unfolding_all rfl)
def Txt.rev(z:Str):Str:=⟨z.cps.toList.reverse.toArray⟩
inductive NP(x:V)(H:Hp)(Q:VK):Prop
 |mk z:x=.str z->z.length<=sizeLine->Q (.str (Txt.rev z)) H->NP x H Q
theorem MQ:RvR X NP:=by
 intro pins s σ H x v t sl Q I rx hs q;obtain⟨z,rfl,hz,q⟩:=q;obtain⟨t0,rfl⟩:=rx;refine⟨"str",_,PySem.F.slot_str_getitem.lookup,typeIs_str _ _ _,?_⟩;refine wpAny_getItem_str_slice (l:=none) (u:=none) (st:=some (-1,t)) hs rfl ?_;have e:sliceMade z t0 none none (some (-1,t))=.str (Txt.rev z):=by
  unfold sliceMade;rw[Fm (by simp)]
  congr 1
  unfold Txt.rev slicePicked;show Str.mk ((sliceRange ((z.length:Int)-1) (-1) (-1)).filterMap (z.cps[·]?)).toArray=_;rw[oC]
  congr 1
  rw[show z.length=z.cps.toList.length from rfl,<- rH z.cps.toList]
  congr 1
  apply ig;intro k _;exact(Bn ..).symm
 rw[e];refine⟨?_,⟨.str (Txt.rev z),H,I.tok _,⟨_,rfl⟩,q⟩⟩;show(Txt.rev z).cps.size<=sizeLine;unfold Txt.rev;rw[Br,EB];exact hz
end
theorem kG{X:Cx}{o e:Expr}{es:List Expr}{to:TE}{t:TA}{name:Str}{apos i4:Pos}{T id:String}{r:V->A9->Hp->VK->Prop}(K':W.Frag)(hK:X.K=K')(pa:PlainAttrs T)(slot:Slot T name id)(RN:typeOf (.builtin id)=pure (.type "method_descriptor"))(hm:QA X id r)(ho:PE X o to)(ha:PA X (e::es) t)
  (z7:attributeBase o name X.env (eval o X.env)=eval o X.env:=by rfl)
  (K1:((backTo i4 (starEach (e::es) X.env)).all (λx=>!x.1) && (backToKw i4 (keywordEach [] X.env)).all (λx=>x.1.isSome)
   && decide ((e::es).length+([]:List Keyword).length+(if ([]:List Keyword).isEmpty then 0 else 1) < 30))=true:=by rfl)
  (q8:(apos.endLine==i4.line)=true:=by rfl) (hs:starEach (e::es) X.env=(false,eval e X.env)::starEach es X.env:=by rfl) (y8:(backTo i4 (starEach es X.env)).any (·.1)=false:=by rfl) :
  PE X (.Call (.Attribute o name apos) (e::es) [] i4) (T8 K' T r to t):=by
 subst hK;exact jd pa slot RN hm ho ha z7 K1 q8 hs y8
theorem fF{X:Cx}{pos:Pos}{es:List Expr}{k:Nat}{t:Qz}{n:Nat}(K':W.Frag)(hK:X.K=K')(hc:X.calm=true)(h:TX X es t)
  (hn:(assignEach es X.env).length=n:=by rfl)(j9:(assignEach es X.env).findIdx? (·.1)=none:=by rfl):PG X (.Tuple es k pos) (Nu K' n t):=by
 subst hK;exact dM hc h hn j9
section
variable {X:Cx}
theorem JP:∀{us:A8}{zs:List Str},StrsAre us zs->Vals (zs.map V.str) us
 |_,_,.nil=>.nil
 |_,_,.cons x t h=>.cons ⟨t,rfl⟩ (JP h)
theorem HH:∀{l:List Str},sortedS l=true->l.Pairwise (λa b=>¬b.cps.toList<a.cps.toList)
 |[],_=>.nil
 |x::r,h=>by
  have go:∀(p:Str)(l:List Str),risingS p l=true->(p::l).Pairwise (λa b=>¬b.cps.toList<a.cps.toList):=by
   intro p l;induction l generalizing p with
   |nil=>intro _;exact EC _ _
   |cons y r ih=>
    intro h;have h':(!ltCps y.cps.toList p.cps.toList&&risingS y r)=true:=h;rw[BQ,Bool.not_eq_true',ltCps_eq,decide_eq_false_iff_not] at h';have i:=ih y h'.2;refine DI.mpr ⟨λb hb=>?_,i⟩;rcases Bb.mp hb with rfl|hb
    ·exact h'.1
    ·have:=(DI.mp i).1 b hb;intro d5;have h1:p.cps.toList<=y.cps.toList:=h'.1;have h2:y.cps.toList<=b.cps.toList:=this;exact(List.le_trans h1 h2) d5
  exact go x r h
theorem Ii:∀{a b:List Str},a.Perm b->sortedS a=true->sortedS b=true->a=b:=by
 intro a b p ha hb;refine List.Perm.eq_of_pairwise (le:=λa b=>¬b.cps.toList<a.cps.toList) (λx y _ _ h1 h2=>?_) (HH ha) (HH hb) p;have e:x.cps.toList=y.cps.toList:=Ed h1 h2;obtain⟨x⟩:=x;obtain⟨y⟩:=y;rw[Str.mk.injEq];exact Array.toList_inj.mp e
end
section
variable {prog:Program}{w:World}{A:Around}{E:A3}{s:Shared}
theorem gQ{d:Addr}{od:Obj}{es:Array DictEntry}{ep:Nat}{Q:A3}(hs:(d==sysModules)=false)(J2:s.heap.get? d=some od)(hc:od.ExactDict)(t7:od.data=.dict es ep)
  (hQ:Q (.ref s.heap.objs.size) {s with heap:=s.heap.push {cls:=.type "dict_keyiterator",data:=.fields #[.ref d,.int 0 0,.int es.size 0,.int ep 0]}}):wpAny (model prog w) A (pyIter (.ref d)) Q E s:=by
 have hT:s.TypeIs (.ref d) "dict":=⟨od,J2,hc.1⟩
 refine wpAny_pyIter_slot hT F.slot_dict_iter (FP F.slot_dict_iter hT F.entry_dict_iter ?_ (F.args_dict_iter_1 _));unfold Builtin.«dict.__iter__»;refine Fh ?_;unfold Builtin.Dict.dictSlotNone;refine Fh (wpAny_notOrdered_dict hT ?_);show wpAny _ _ (pure (Value.ref d)) _ _ s;refine Fi ?_;show wpAny _ _ (Builtin.Dict.showsAll d >>= _) _ _ s;unfold Builtin.Dict.showsAll;rw[Fm (by rw[hs];decide)];refine Fh (Fi (Fh (wpAny_dictEntries J2 t7 (Fh (wpAny_dictEpoch J2 t7 ?_)))));refine Fh (wpAny_newObj_type (Fi ⟨_,rfl,"dict_keyiterator",_,⟨_,FK _ rfl,rfl⟩,F.slot_dict_keyiterator_next.lookup,by simpa [rawInt] using hQ⟩))
theorem lC{it d:Addr}{i ep:Nat}{od:Obj}{es:Array DictEntry}{Q:Option Value->Shared->Prop}(hit:s.heap.IsKeyIter it d i es.size ep)(J2:s.heap.get? d=some od)(t7:od.data=.dict es ep)(d5:i<es.size)
  (hQ:∀h',h'.IsKeyIter it d (i+1) es.size ep->Heap.SameBut it s.heap h'->Q (some es[i].key) {s with heap:=h'}):wpAny (model prog w) A (pyNext (.ref it)) Q E s:=by
 obtain⟨o,ho,hc,hd⟩:=id hit;unfold pyNext;refine Fh (FO (wpAny_callSpecial?_slot (name:=Str.ofString "__next__") hit.typeIs F.slot_dict_keyiterator_next (FP F.slot_dict_keyiterator_next hit.typeIs F.entry_dict_keyiterator_next ?_ (F.args_dict_keyiterator_next_1 _))));refine Fh (Fi (Fh (Fh ?_)));(first|refine Fh (wpAny_typeNameOfWhole_keyiter hit.typeIs (Fi ?_))|refine Fh (wpAny_typeNameOf_keyiter hit.typeIs (Fi ?_)));refine Fh (wpAny_fieldsOf ho hd ?_);have P0:Builtin.Dict_items.ownsTuple "dict_keyiterator"=false:=by decide
 simp only[P0,BV,if_false];show wpAny _ _ (if (Value.ref d==Value.none)=true then _ else _) _ _ s;rw[Fm (show ¬((Value.ref d==Value.none)=true) by intro z;cases z)];refine Fh (Fi (Fh (wpAny_dictEntries J2 t7 ?_)));rw[Fm (by simp)];refine Fh (Fi (Fh (wpAny_dictEpoch J2 t7 ?_)));rw[Fm (by simp)];refine Fi ?_;simp only[show ¬((i:Int)<0) by lia,if_false,BK,BD d5];refine Fh ?_
 (first|refine Fh (wpAny_typeNameOfWhole_keyiter hit.typeIs (Fi ?_))|refine Fh (wpAny_typeNameOf_keyiter hit.typeIs (Fi ?_)));refine Fh (wpAny_isOneOf_keyiter hit.typeIs ?_)
 show wpAny _ _ (setField (.ref it) 1 (rawInt ((i:Int)+1)) >>= _) _ _ s;refine Fh (wpAny_setField ho hd (by simp) ?_);have Ti:(s.heap.update it (Obj.mapFields (·.setIfInBounds 1 (rawInt ((i:Int)+1))))).IsKeyIter it d (i+1) es.size ep:=⟨_,Heap.get?_update_self _ ho (Obj.isFreed_of_fields (Obj.data_mapFields hd _)),(Obj.cls_mapFields ..).trans hc,by rw[Obj.data_mapFields hd];simp[rawInt]⟩
 refine Fh (Ft (Fh (wpAny_isOneOf_keyiter (s:={s with heap:=s.heap.update it (Obj.mapFields (·.setIfInBounds 1 (rawInt ((i:Int)+1))))}) Ti.typeIs ?_)));show wpAny _ _ (pure es[i].key) _ _ _;exact Fi (Fi ⟨_,rfl,Fi (hQ _ Ti (Heap.SameBut.update ..))⟩)
theorem pM{it d:Addr}{i ep:Nat}{od:Obj}{es:Array DictEntry}{Q:Option Value->Shared->Prop}(hh:A.handled=none)(hit:s.heap.IsKeyIter it d i es.size ep)(J2:s.heap.get? d=some od)(t7:od.data=.dict es ep)(z6:es.size<=i)
  (hQ:∀h',Heap.ExtBut it s.heap h'->Q none {s with heap:=h'}):wpAny (model prog w) A (pyNext (.ref it)) Q E s:=by
 obtain⟨o,ho,hc,hd⟩:=id hit;unfold pyNext;refine Fh (FO (wpAny_callSpecial?_slot (name:=Str.ofString "__next__") hit.typeIs F.slot_dict_keyiterator_next (FP F.slot_dict_keyiterator_next hit.typeIs F.entry_dict_keyiterator_next ?_ (F.args_dict_keyiterator_next_1 _))));refine Fh (Fi (Fh (Fh ?_)));(first|refine Fh (wpAny_typeNameOfWhole_keyiter hit.typeIs (Fi ?_))|refine Fh (wpAny_typeNameOf_keyiter hit.typeIs (Fi ?_)));refine Fh (wpAny_fieldsOf ho hd ?_);have P0:Builtin.Dict_items.ownsTuple "dict_keyiterator"=false:=by decide
 simp only[P0,BV,if_false];show wpAny _ _ (if (Value.ref d==Value.none)=true then _ else _) _ _ s;rw[Fm (show ¬((Value.ref d==Value.none)=true) by intro z;cases z)];refine Fh (Fi (Fh (wpAny_dictEntries J2 t7 ?_)));rw[Fm (by simp)];refine Fh (Fi (Fh (wpAny_dictEpoch J2 t7 ?_)));rw[Fm (by simp)];refine Fi ?_;simp only[show ¬((i:Int)<0) by lia,if_false,BK,Dl z6];refine Fh ?_
 (first|refine Fh (wpAny_typeNameOfWhole_keyiter hit.typeIs (Fi ?_))|refine Fh (wpAny_typeNameOf_keyiter hit.typeIs (Fi ?_)));show wpAny _ _ (setField (.ref it) 0 .none >>= _) _ _ s
 refine Fh (wpAny_setField ho hd (by simp) ?_);show wpAny _ _ (newExc (.type "StopIteration") [] >>= _) _ _ _;refine Fh ?_;simp only[newExc,newTuple];refine Fh (wpAny_newObj_type ?_ (by size_fits));refine Fh (m:=firstArgMember _ _) (wpAny_of_eq (a:=Value.none) (by first|rfl|(simp only[firstArgMember];rfl)) ?_);refine wpAny_newObj_type ?_ (by size_fits);simp only[raiseNew];refine Fh (wpAny_handled ?_);rw[show A.in1.handled=none from hh];refine Fh (Fi (wpAny_throw ?_));refine Fh (wpAny_isInstance (T:="StopIteration") (b:=true) ⟨_,FK _ rfl,rfl⟩ isSubtype_stop ?_);exact Fi (hQ _ (((Heap.SameBut.update ..).extBut.push _).push _))
end
section
variable {X:Cx}{pins:A5}{σ:St}{H:Hp}{s:Shared}
theorem Inv.freeze{a:Addr}{u:HO}{o:Obj}(I:Inv X pins σ H s)(e:H a=some u)(ho:s.heap.get? a=some o)(nt:∀xs,u≠.tup xs)(nf:∀o' u',u≠.j5 o' u')(nb:∀ps,u≠.B8 ps)(no:∀x,u≠.own x):Inv X pins σ (upd H a (.j5 o u)) s:=by
 have tu:∀b xs,H b=some (.tup xs)->upd H a (.j5 o u) b=some (.tup xs):=λb xs q=>by
  rw[aj (λz=>by rw[z,e] at q;exact nt xs (Fx q))];exact q
 have ow:∀b x,H b=some (.own x)->upd H a (.j5 o u) b=some (.own x):=λb x q=>by
  rw[aj (λz=>by rw[z,e] at q;exact no x (Fx q))];exact q
 refine I.un (h':=s.heap) (t':=s.toks) ⟨λb ob q _ _ _=>q,λb ob q _ _ _=>⟨ob.slots,q⟩,λb ob _ n _=>?_,λb ob q _=>⟨ob,q⟩,tu,λb ob uu q=>?_,λb ps q=>⟨#[],?_⟩⟩ λb ub q=>?_
 ·rw[aj (λz=>by rw[z,e] at n;cases n)];exact n
 ·rw[aj (λz=>by rw[z,e] at q;exact nf ob uu (Fx q))];exact q
 ·rw[aj (λz=>by rw[z,e] at q;exact nb ps (Fx q)),q];simp
 ·by_cases hb:b=a
  ·subst hb;rw[ae] at q;cases q;exact⟨ho,(I.b9 b u e).JG (λ_ _ _ q=>q) (λc q=>ow c _ q) tu⟩
  ·rw[aj hb] at q;exact(I.b9 b ub q).JG (λ_ _ _ q=>q) (λc q=>ow c _ q) tu
end
def TZ (a:Addr)(o:Obj)(kvs:List (List Key×V)):It:=
 ⟨λi H=>H a=some (.j5 o (.dT kvs))/\i<kvs.length,λi H x H'=>H'=H/\∃b p,kvs[i]?=some p/\x=.ref b/\H b=some (.tup (p.1.map kV)),λi H=>H a=some (.j5 o (.dT kvs))/\kvs.length<=i⟩
theorem KT.at{H:Hp}:∀{kvs:List (List Key×V)}{xs:List (List Key×Addr×Value)}{i:Nat}{p:List Key×V},KT H kvs xs->kvs[i]?=some p->∃q,xs[i]?=some q/\p.1=q.1/\H q.2.1=some (.tup (p.1.map kV))/\RelV p.2 q.2.2
 |_,_,_,_,.nil,h=>by simp at h
 |_,_,0,_,.cons r _,h=>by simp at h;subst h;exact⟨_,rfl,r⟩
 |_,_,i+1,p,.cons _ t,h=>by
  obtain⟨q,e,r⟩:=KT.at (i:=i) (p:=p) t (by simpa using h);exact⟨q,by simpa using e,r⟩
theorem mL{P:Program}{w:World}{K:W.Frag}{tg:Expr}(a it:Addr)(o:Obj)(kvs:List (List Key×V)):Turn P w K tg (TZ a o kvs) [it] it (λi h=>∃es ep,o.data=.dict es ep/\es.size=kvs.length/\h.IsKeyIter it a i es.size ep) where
 mem:=by simp
 obj:=λi h st b hb=>by
  have e:b=it:=by simpa using hb
  subst e;obtain⟨es,ep,_,_,o',e,c,d⟩:=st;exact⟨o',e,λv z=>by rw[d] at z;cases z⟩
 keep:=λi h h' st k=>by
  obtain⟨es,ep,e1,e2,st⟩:=st;exact⟨es,ep,e1,e2,st.at λo e=>k it (by simp) o e⟩
 item:=by
  intro X hP hw hK hc i pins s σ H E I hf st hg;subst hP hw hK;obtain⟨es,ep,hd,hn,st⟩:=st;obtain⟨ha,hi⟩:=hg;obtain⟨Uo,hz,hm,xs,kt,o',Ot,Q4,M0,B9,OD,E9,_⟩:=I.b9 a _ ha;rw[Uo] at M0;cases M0;rw[hd] at OD;cases OD;have i3:i<es.size:=by lia
  obtain⟨f0,f1,f2,f3,f4,f5⟩:=hf it (by simp);refine lC st Uo hd i3 λh' a8 sb=>?_;have I1:Inv X pins σ H {s with heap:=h'}:=I.turned (t':=s.toks) (λb o hb e=>(sb.2 b hb).trans e) f0 f1 f3 f4 f5;obtain⟨q,eq,e1,e2,e3⟩:=KT.at kt (AX hi);have ek:es[i].key=.ref q.2.1:=by
   have h1:es.toList[i]?=some es[i]:=by simp[i3]
   rw[E9,Bo,eq] at h1;have h2:=Fx h1;rw[<- h2];rfl
  obtain⟨oi,e,c,d⟩:=id a8;rw[ek];exact⟨_,rfl,ou (s:={s with heap:=h'}) e c d (by decide) ⟨.ref q.2.1,H,I1,rfl,⟨rfl,q.2.1,kvs[i],AX hi,rfl,e2⟩,⟨es,ep,hd,hn,a8⟩,λb hb=>(hf b hb).1⟩⟩
 done:=by
  intro X hP hw hK hc i pins s σ H E I hf st hg;subst hP hw hK;obtain⟨es,ep,hd,hn,st⟩:=st;obtain⟨ha,hi⟩:=hg;obtain⟨Uo,_⟩:=I.b9 a _ ha;obtain⟨f0,f1,f2,f3,f4,f5⟩:=hf it (by simp);exact pM (I.ok.hd hc) st Uo hd (by lia) λh' eb=>⟨rfl,I.turned (t':=s.toks) (λb o hb e=>eb b o hb e) f0 f1 f3 f4 f5⟩
 self:=λ_ _ _ _ _ st h=>by
  obtain⟨es,ep,_,_,st⟩:=st;exact wpAny_pyIter_keyiter st h
section
variable {X:Cx}{tg:Expr}
inductive JX(R:It->Hp->Prop)(x:V)(H1:Hp):Prop
 |mk a kvs:x=.ref a->H1 a=some (.dT kvs)->(∀o,R (TZ a o kvs) (upd H1 a (.j5 o (.dT kvs))))->JX R x H1
def xA (tl:TE):TI:=fun σ H R=>tl σ H λx H1=>JX R x H1
theorem rL{l:Expr}{tl:TE}(hl:PE X l tl):PI X tg l (xA tl):=by
 intro pins s σ H R I h;refine c6 (hl pins s σ H _ I h) λv s1 XE=>?_;obtain⟨x,H1,I1,r1,q1⟩:=XE;obtain⟨a,kvs,e,hd,q⟩:=q1;subst e;cases r1;obtain⟨hz,hm,xs,kt,o,es,ep,ho,hc,t7,he,_⟩:=I1.b9 a _ hd;refine gQ hm ho hc t7 ?_;have I2:=I1.freeze hd ho (λ_ z=>by cases z) (λ_ _ z=>by cases z) (λ_ z=>by cases z) (λ_ z=>by cases z);have hn:es.size=kvs.length:=by
  have h1:es.toList.length=xs.length:=by rw[he,AU]
  rw[Bk] at h1;rw[h1];exact(Paired.length kt).symm
 refine⟨s1.heap.objs.size,[s1.heap.objs.size],_,_,upd H1 a (.j5 o (.dT kvs)),rfl,I2.kept (t':=s1.toks) λb o e=>FJ _ e,mL a _ o kvs,⟨es,ep,t7,hn,_,FK _ rfl,rfl,rfl⟩,λb hb=>?_,q o⟩;have e:b=s1.heap.objs.size:=by simpa using hb
 subst e;exact I2.Lo (AS _) (I2.b9.fresh (AS _))
end
theorem nj{a:Addr}{o:Obj}{kvs:List (List Key×V)}{g:TG}{tb:TS}{D:Ends}{σ:St}{H:Hp}(Pv:Nat->St->Hp->Prop)(h0:Pv 0 σ H)(hl:∀i σ H,i<=kvs.length->Pv i σ H->H a=some (.j5 o (.dT kvs)))
  (hs:∀i p b σ H,kvs[i]?=some p->H b=some (.tup (p.1.map kV))->Pv i σ H->g (.ref b) σ H fun c8 H2=>tb {D with nx:=Pv (i+1),ct:=Pv (i+1),bk:=D.nx} c8 H2)(hd:∀σ H,Pv kvs.length σ H->D.nx σ H) :
  ∃W:Nat->Nat->St->Hp->Prop,(∃m,W 0 m σ H)/\∀i m σ H,W i m σ H ->
   ((TZ a o kvs).stop i H/\D.nx σ H)\/((TZ a o kvs).go i H/\∃N:St->Hp->Prop,(∀c5 H',N c5 H'->∃m',m'<m/\W (i+1) m' c5 H')/\∀x H',(TZ a o kvs).D8 i H x H'->g x σ H' fun c8 H2=>tb {D with nx:=N,ct:=N,bk:=D.nx} c8 H2):=by
 refine⟨λi m σ H=>m=kvs.length-i/\i<=kvs.length/\Pv i σ H,⟨kvs.length,by simp,Bj _,h0⟩,?_⟩;rintro i m σ H ⟨rfl,hi,p⟩;have q:=hl i σ H hi p;by_cases d5:i<kvs.length
 ·refine .inr ⟨⟨q,d5⟩,Pv (i+1),fun c5 H' p'=>⟨kvs.length-(i+1),by lia,rfl,d5,p'⟩,λx H' y=>?_⟩;obtain⟨e,b,pp,h1,rfl,h2⟩:=y;subst e;exact hs i pp b σ _ h1 h2 p
 ·have e:i=kvs.length:=by lia
  subst e;exact .inl ⟨⟨q,AS _⟩,hd σ H p⟩
section
variable {X:Cx}{a b:Expr}{rest:List Expr}{pos:Pos}{ta tb:TE}
theorem pU(val:Nat->Int):∀k,argBest (λi j=>decide (val i>val j)) k<=k/\∀j,j<=k->val j<=val (argBest (λi j=>decide (val i>val j)) k)
 |0=>⟨AS _,λj hj=>by have:j=0:=(by lia);subst this;exact Dk _⟩
 |k+1=>by
  obtain⟨h1,h2⟩:=pU val k;show(if decide (val (k+1)>val (argBest _ k))=true then k+1 else argBest _ k)<=k+1/\∀j,j<=k+1->val j<=val (if decide (val (k+1)>val (argBest _ k))=true then k+1 else argBest _ k);by_cases c:val (k+1)>val (argBest (λi j=>decide (val i>val j)) k)
  ·rw[Fn (Fo c)];refine⟨AS _,λj hj=>?_⟩;by_cases e:j=k+1
   ·subst e;exact Dk _
   ·have:=h2 j (by lia);lia
  ·rw[Fm (by rw[Fp c];decide)];refine⟨by lia,λj hj=>?_⟩;by_cases e:j=k+1
   ·subst e;lia
   ·exact h2 j (by lia)
inductive My(K:W.Frag)(xs:A9)(H:Hp)(Q:VK):Prop
 |mk (p:Addr) (ns:B3):xs=[.ref p]->a9 K H p (ns.map V.int)->ns≠[]->(∀m,m∈ns->(∀n∈ns,n<=m)->Q (.int m) H)->My K xs H Q
theorem oA(hc:X.calm=true):bV X (.builtin "max") (My X.K):=by
 intro pins s σ H xs us Q I r h;obtain⟨p,ns,rfl,hq,k8,q⟩:=h;obtain⟨u,rfl,rx⟩:=cD r;cases rx;obtain⟨a7,rv,pl,hz⟩:=I.list hq;have hl:=rv.length;rw[AU] at hl;have hh:X.A.in1.handled=none:=I.ok.hd hc;obtain⟨ob,ho,Tt,n0,hd⟩:=id pl.isList;have hp:p<s.heap.objs.size:=Fv ho;have it:s.heap.IsList p a7.toArray:=pl.isList;refine call_max_walk (wpAny_pyIter_list it ⟨s.heap.objs.size,_,_,_,_,_,λi j=>decide (ns.getD i 0>ns.getD j 0),rfl,Walks.list hh s.heap.objs.size p (Bf hp) _,⟨⟨_,FK _ rfl,rfl,rfl⟩,it.push _⟩,?_,?_,CmpOf.ints_gt (λi=>ns.getD i 0) λi v hv=>HF rv (by rw[Dc] at hv;exact hv),λv h' tk hv hk=>?_⟩)
 ·intro b hb;show b<(s.heap.push _).objs.size;rw[FQ];simp only[Bb,BE,or_false] at hb;rcases hb with e|e
  ·rw[e];exact Cm _
  ·rw[e];exact CH hp
 ·rw[Br];cases ns with
  |nil=>exact absurd rfl k8
  |cons _ _=>rw[<- hl];exact Eb _
 ·obtain⟨t,rfl⟩:=HF rv (by rw[Dc] at hv;exact hv);obtain⟨h1,h2⟩:=pU (λi=>ns.getD i 0) (a7.toArray.size-1);have hs:a7.toArray.size=ns.length:=by rw[Br,hl]
  have pos:0<ns.length:=by
   cases ns with
   |nil=>exact absurd rfl k8
   |cons _ _=>exact Eb _
  refine⟨.int _,H,I.HY hk,⟨_,rfl⟩,q _ ?_ λn hn=>?_⟩
  ·have hi:argBest (λi j=>decide (ns.getD i 0>ns.getD j 0)) (a7.toArray.size-1)<ns.length:=by lia
   rw[Bv,AX hi];exact BG hi
  ·obtain⟨j,hj,rfl⟩:=Cv.mp hn;have:=h2 j (by lia);rw[Bv (i:=j),AX hj] at this;exact this
end
section
variable {prog:Program}{w:World}{A:Around}{R:Result->Shared->Prop}{s:Shared}{elt j0 c7 i9 b8:Expr}{i1 f7:List Expr}{scope:Scope}{pos:Pos}{it acc:Value}{env:Env}{c:Bool}
abbrev bW(c:Bool)(elt j0 c7 i9 b8:Expr)(i1 f7:List Expr)(scope:Scope)(pos:Pos):Expr:=match c with
 |true=>.SetComp elt [⟨j0,c7,i1,0⟩,⟨i9,b8,f7,0⟩] scope pos
 |false=>.ListComp elt [⟨j0,c7,i1,0⟩,⟨i9,b8,f7,0⟩] scope pos
theorem HU{i:Nat}:A.under (.compLoop (bW c elt j0 c7 i9 b8 i1 f7 scope pos) i it acc env)=A/\A.under (.compStart (bW c elt j0 c7 i9 b8 i1 f7 scope pos) i it acc env)=A:=by cases c<;>exact⟨rfl,rfl⟩
theorem tI{i:Nat}:(model prog w).den (.compLoop (bW c elt j0 c7 i9 b8 i1 f7 scope pos) i it acc env)=(compTurn (bW c elt j0 c7 i9 b8 i1 f7 scope pos) i it acc env).onRaise (λx=>do noteFrame x env;theTreesLotGoes x):=by cases c<;>rfl
theorem vw{i:Nat}:(model prog w).den (.compStart (bW c elt j0 c7 i9 b8 i1 f7 scope pos) i it acc env)=(compStart (bW c elt j0 c7 i9 b8 i1 f7 scope pos) i it acc env).onRaise (λx=>do noteFrame x env;standAt theWindowsPlace):=by cases c<;>rfl
theorem IU:compTurn (bW c elt j0 c7 i9 b8 i1 f7 scope pos) 1 it acc env=(do
   standAt b8.pos
   match <- pyNext it with
   |none=>pure (.done .next)
   |some v=>
    letOwnedTupleGo i9 it v
    assign i9 env v
    let mut ok:=true
    for c in f7 do
     if ok then ok <- isTrue c env (eval c env)
    if ok then
     (do
      let v <- eval elt env
      uM elt c
      let _ <- call (.builtin (Kw c)) [acc,v])
    again (.compLoop (bW c elt j0 c7 i9 b8 i1 f7 scope pos) 1 it acc env)):=by cases c <;> rfl
theorem Im:compTurn (bW c elt j0 c7 i9 b8 i1 f7 scope pos) 0 it acc env=(do
   standAt c7.pos
   match <- pyNext it with
   |none=>pure (.done .next)
   |some v=>
    letOwnedTupleGo j0 it v
    assign j0 env v
    let mut ok:=true
    for c in i1 do
     if ok then ok <- isTrue c env (eval c env)
    if ok then
     let x <- eval b8 env
     standAt b8.pos
     let x <- foldedSetIterable b8 env x
     let _ <- runOwn (.compStart (bW c elt j0 c7 i9 b8 i1 f7 scope pos) 1 (<- holding [x] (pyIter x)) acc env) env
    again (.compLoop (bW c elt j0 c7 i9 b8 i1 f7 scope pos) 0 it acc env)):=by cases c <;> rfl
theorem uV(I:Nat->Shared->Prop)
  (turn:∀n s,I n s->wpAny (model prog w) A (pyNext it) (λr b7=>match r with
   |none=>R (.ok .next) b7
   | some v=>wpAny (model prog w) A (letOwnedTupleGo i9 it v) (λ_ u5=>wpAny (model prog w) A (assign i9 env v) (λ_ k6 =>
     wpAny (model prog w) A (forIn f7 true λc r=>if r=true then do let ok <- isTrue c env (eval c env); pure (ForInStep.yield ok) else pure (ForInStep.yield r)) (λok i7 =>
      if ok=true then wpAny (model prog w) A (eval elt env) (λx s₄ =>
       wpAny (model prog w) A (call (.builtin (Kw c)) [acc,x]) (λ_ G2=>∃m,m < n/\I m G2) (λ_ _=>False) s₄) (λ_ _=>False) i7
      else ∃m,m < n/\I m i7) (λ_ _=>False) k6) (λ_ _=>False) u5) (λ_ _=>False) b7) (λ_ _=>False) s)
  (n:Nat) (h:I n s):codeAny (model prog w) A (.compLoop (bW c elt j0 c7 i9 b8 i1 f7 scope pos) 1 it acc env) R s:=by
 refine codeAny_loop (by cases c<;>rfl) I (λn s hI=>?_) n h;rw[HU.1,tI];refine wpAny_noted ?_;rw[IU];refine Fh (wpAny_standAt (Fh (Fq (turn n s hI) (λr b7 i8=>?_) λ_ _ h'=>h'.elim)));cases r with
 |none=>exact Fi i8
 |some v=>
  refine Fh (Fq i8 (λ_ u5 G7=>?_) λ_ _ h'=>h'.elim);refine Fh (Fq G7 (λ_ k6 p6=>Fh (Fq p6 (λok i7 C5=>?_) λ_ _ h'=>h'.elim)) λ_ _ h'=>h'.elim);cases ok with
  |false=>exact Fi ⟨rfl,C5⟩
  |true=>
   exact Fh (Fh (Fq C5 (λx s₄ N9=>Fh (sZ (Fh (Fq N9 (λ_ G2 N8=>Fi (Fi ⟨rfl,N8⟩)) λ_ _ h'=>h'.elim)))) λ_ _ h'=>h'.elim))
theorem qz(hs:∀x,foldedSetIterable b8 env x=pure x)(I:Nat->Shared->Prop)
  (turn:∀n s,I n s->wpAny (model prog w) A (pyNext it) (λr b7=>match r with
   |none=>R (.ok .next) b7
   | some v=>wpAny (model prog w) A (letOwnedTupleGo j0 it v) (λ_ u5=>wpAny (model prog w) A (assign j0 env v) (λ_ k6 =>
     wpAny (model prog w) A (forIn i1 true λc r=>if r=true then do let ok <- isTrue c env (eval c env); pure (ForInStep.yield ok) else pure (ForInStep.yield r)) (λok i7 =>
      if ok=true then wpAny (model prog w) A (eval b8 env) (λx s₄ =>
       wpAny (model prog w) A (pyIter x) (λN7 G2=>codeAny (model prog w) A (.compStart (bW c elt j0 c7 i9 b8 i1 f7 scope pos) 1 N7 acc env) (λr Rg=>r=.ok .next/\∃m,m < n/\I m Rg) G2) (λ_ _=>False) s₄) (λ_ _=>False) i7
      else ∃m,m < n/\I m i7) (λ_ _=>False) k6) (λ_ _=>False) u5) (λ_ _=>False) b7) (λ_ _=>False) s)
  (n:Nat) (h:I n s):codeAny (model prog w) A (.compLoop (bW c elt j0 c7 i9 b8 i1 f7 scope pos) 0 it acc env) R s:=by
 refine codeAny_loop (by cases c<;>rfl) I (λn s hI=>?_) n h;rw[HU.1,tI];refine wpAny_noted ?_;rw[Im];refine Fh (wpAny_standAt (Fh (Fq (turn n s hI) (λr b7 i8=>?_) λ_ _ h'=>h'.elim)));cases r with
 |none=>exact Fi i8
 |some v=>
  refine Fh (Fq i8 (λ_ u5 G7=>?_) λ_ _ h'=>h'.elim);refine Fh (Fq G7 (λ_ k6 p6=>Fh (Fq p6 (λok i7 C5=>?_) λ_ _ h'=>h'.elim)) λ_ _ h'=>h'.elim);cases ok with
  |false=>exact Fi ⟨rfl,C5⟩
  |true=>
   refine Fh (Fq C5 (λx s₄ N9=>Fh (wpAny_standAt ?_)) λ_ _ h'=>h'.elim);rw[hs];refine Fh (Fi (Fh (Ft (Fq N9 (λN7 G2 N8=>?_) λ_ _ h'=>h'.elim))));refine Fh (wpAny_runOwn (codeAny_mono N8 λr Rg WS=>?_));obtain⟨rfl,h7⟩:=WS;exact Fi ⟨rfl,h7⟩
theorem qJ(h0:codeAny (model prog w) A (.compLoop (bW c elt j0 c7 i9 b8 i1 f7 scope pos) 1 it acc env) R s)
  (h:wpAny (model prog w) A (pyIter it) (λRI s'=>codeAny (model prog w) A (.compLoop (bW c elt j0 c7 i9 b8 i1 f7 scope pos) 1 RI acc env) R s')
   (notedBy (model prog w) A env λx s'=>R (.error x) s') s) :
  codeAny (model prog w) A (.compStart (bW c elt j0 c7 i9 b8 i1 f7 scope pos) 1 it acc env) R s:=by
 refine codeAny_of_tree ?_;rw[HU.2,vw];refine wpAny_notedAt ?_;unfold compStart;rw[show clausesOf (bW c elt j0 c7 i9 b8 i1 f7 scope pos)=[⟨j0,c7,i1,0⟩,⟨i9,b8,f7,0⟩] from by cases c<;>rfl];show wpAny _ _ (ask >>= _) _ _ s;refine Fh (wpAny_askSetting (wpAny_ite ?_));split
 ·first
   |exact Fh (Fi (Fi (And.intro rfl h0)))
   |exact Fi (And.intro rfl h0)
 ·first
   |exact Fh (FS (Fh (wpAny_standAt (Fh (Fq h (λRI s' h'=>Fi (And.intro rfl h')) λ_ _ x=>x)))))
   |(refine Fh (FS ?_);show wpAny _ _ (standAt b8.pos >>= _) _ _ s;exact Fh (wpAny_standAt (Fh (Fq h (λRI s' h'=>Fi (And.intro rfl h')) λ_ _ x=>x))))
end
def iW (c:Bool)(J:It)(g:TG)(tc:TT)(te:TE)(σ:St)(H:Hp)(ys:List (Ty c))(Q:List (Ty c)->Hp->Prop):Prop:=
 ∃W:Nat->Nat->St->List (Ty c)->Hp->Prop,(∃m,W 0 m σ ys H)/\∀j m σ ys H,W j m σ ys H ->
  (J.stop j H/\ys.length<=lim c/\Q ys H) \/
  (J.go j H/\ys.length<lim c/\∀x H',J.D8 j H x H'->g x σ H' fun c8 H2=>tc c8 H2 λb H3=>if b=true then te c8 H3 λy H4=>Tk c y λz=>∃m',m'<m/\W (j+1) m' c8 (ap c ys z) H4 else ∃m',m'<m/\W (j+1) m' c8 ys H3)
def nU (c:Bool)(J:It)(k:Nat)(js:A7)(g:TG)(tc:TT)(u4:TI)(g1:TG)(o7:TT)(te:TE)(σ:St)(H1:Hp)(Q:List (Ty c)->Hp->Prop):Prop:=
 ∃W:Nat->Nat->List (Ty c)->Hp->Prop,(∃m,W 0 m [] H1)/\∀i m ys H,W i m ys H ->
  (J.stop i H/\ys.length<=lim c/\Q ys H) \/
  (J.go i H/\∀x H',J.D8 i H x H'->g x (List.replicate k none++bY js σ) H' fun c8 H2=>tc c8 H2 λb H3 =>
   if b=true then u4 c8 H3 λJ1 H4=>iW c J1 g1 o7 te c8 H4 ys λi6 H5=>∃m',m' < m/\W (i+1) m' i6 H5 else ∃m',m' < m/\W (i+1) m' ys H3)
section
variable {X:Cx}{scope:Scope}{ts cap:List Str}{js:A7}{elt j0 c7 i9 b8:Expr}{i1 f7:List Expr}{pos:Pos}{c:Bool}
theorem lS{s0:Shared}{H0:Hp}{C:Addr}{fp:B2}{P:A5}{D:Addr}{o0:Obj}{Mm:List (Ty c)}{σ:St}{H:Hp}{s:Shared}{J:It}{OZ:B2}{Uj:Addr}{QI:Nat->Heap->Prop}{g1:TG}{o7:TT}{te:TE}{Q:List (Ty c)->Hp->Prop}{R:Result->Shared->Prop}
  (hc:X.calm=true)(I:Inv (au X scope C fp (ts++cap) s0 H0) ([(D,o0)]++P) σ H s)(v0:Ob X.prog X.w c o0 Mm)(T:Turn X.prog X.w X.K i9 J OZ Uj QI)(st:QI 0 s.heap)(hf:∀b∈OZ,GN (au X scope C fp (ts++cap) s0 H0) ([(D,o0)]++P) H b)
  (hD0:D∈(au X scope C fp (ts++cap) s0 H0).ex\/s0.heap.get? D=none)(hDc:∀x c,(au X scope C fp (ts++cap) s0 H0).env.cells.lookup x=some c->c≠D)(hDp:∀p∈X.pn++P,p.1≠D)
  (hg:PG (au X scope C fp (ts++cap) s0 H0) i9 g1)(ht:K5 (au X scope C fp (ts++cap) s0 H0) f7 o7)(he:PE (au X scope C fp (ts++cap) s0 H0) elt te)
  (cv:iW c J g1 o7 te σ H Mm Q)
  (hR:∀c5 ys o H' s',Inv (au X scope C fp (ts++cap) s0 H0) ([(D,o)]++P) c5 H' s'->Ob X.prog X.w c o ys->Q ys H'->R (.ok .next) s') :
  codeAny (model X.prog X.w) X.A (.compStart (bW c elt j0 c7 i9 b8 i1 f7 scope pos) 1 (.ref Uj) (.ref D) (compEnvC scope (cS X.env.cells scope.names []) C X.env)) R s:=by
 obtain⟨W,⟨m0,w0⟩,turn⟩:=cv;have n4:∀{H':Hp}{o:Obj},(∀b∈OZ,H' b=none)->∀b∈OZ,GN (au X scope C fp (ts++cap) s0 H0) ([(D,o)]++P) H' b:=λ{H' o} hn b hb=>by
  obtain⟨f0,f1,f2,f3,f4,f5⟩:=hf b hb;refine⟨hn b hb,f1,f2,f3,f4,λp hp=>?_⟩;rcases Ba.mp hp with z|z
  ·exact f5 p (Bu _ z)
  ·rcases Ba.mp z with z|z
   ·have e:p=(D,o):=by simpa using z
    subst e;exact f5 (D,o0) (Bc _ (Bu _ AZ))
   ·exact f5 p (Bc _ (Bc _ z))
 have Wk:∀b∈OZ,b≠D:=λb hb=>by
  obtain⟨f0,f1,f2,f3,f4,f5⟩:=hf b hb;exact FI (f5 (D,o0) (Bc _ (Bu _ AZ)))
 have loop:∀s3:Shared,s3=s->codeAny (model X.prog X.w) X.A (.compLoop (bW c elt j0 c7 i9 b8 i1 f7 scope pos) 1 (.ref Uj) (.ref D) (compEnvC scope (cS X.env.cells scope.names []) C X.env)) R s3:=by
  rintro s3 rfl;refine uV (λk s'=>∃j c5 H' ys o,Inv (au X scope C fp (ts++cap) s0 H0) ([(D,o)]++P) c5 H' s'/\Ob X.prog X.w c o ys/\QI j s'.heap/\(∀b∈OZ,H' b=none)/\W j k c5 ys H') ?_ m0
   ⟨0,σ,H,Mm,o0,I,v0,st,λb hb=>(hf b hb).1,w0⟩
  rintro k s3 ⟨j,LP,H3,ys,o,I3,v3,j4,Oq,w3⟩;rcases turn j k LP ys H3 w3 with ⟨stop,_,fin⟩|⟨go,hz,step⟩
  ·refine c6 (T.done (au X scope C fp (ts++cap) s0 H0) rfl rfl rfl hc j _ s3 _ H3 _ I3 (n4 Oq) j4 stop) λr s4 XD=>?_;obtain⟨hr,I4⟩:=XD;subst hr;exact hR _ _ _ _ _ I4 v3 fin
  ·refine c6 (T.item (au X scope C fp (ts++cap) s0 H0) rfl rfl rfl hc j _ s3 _ H3 _ I3 (n4 Oq) j4 go) λr s4 XC=>?_;obtain⟨u,hr,h4⟩:=XC;subst hr;refine c6 h4 λ_ s5 XB=>?_;obtain⟨x,H5,I5,r5,y5,r9,Qo⟩:=XB;have QC:=I5.pinned (n4 Qo) (T.obj _ _ r9);refine c6 (hg _ s5 _ H5 x u _ QC r5 (step x H5 y5)) λ_ s6 XA=>?_;obtain⟨J5,H6,I6,q6⟩:=XA;refine c6 (ht _ s6 J5 H6 _ I6 q6) λok s7 Xz=>?_;obtain⟨H7,I7,q7⟩:=Xz;have pinned:∀{c5:St}{H':Hp}{s':Shared},Inv (au X scope C fp (ts++cap) s0 H0) ([(D,o)]++P++dg OZ s5.heap) c5 H' s'->QI (j+1) s'.heap/\∀b∈OZ,H' b=none:=λ{c5 H' s'} J'=>by
    refine⟨T.keep _ _ _ r9 λb hb o e=>(J'.pin (b,o) (Bc _ (Bc _ (bh hb e)))).1,λb hb=>?_⟩;obtain⟨o,e,d⟩:=T.obj _ _ r9 b hb;exact(J'.pin (b,o) (Bc _ (Bc _ (bh hb e)))).2.1
   cases ok with
   |false=>
    rw[Fm BA] at q7 ⊢;obtain⟨m',hm,w7⟩:=q7;obtain⟨Rj,TR⟩:=pinned I7;exact⟨m',hm,j+1,J5,H7,ys,o,I7.Gm,v3,Rj,TR,w7⟩
   |true=>
    rw[Fn rfl] at q7 ⊢;refine c6 (he _ s7 J5 H7 _ I7 q7) λyv s8 Xy=>?_;obtain⟨y,H8,I8,r8,tk⟩:=Xy;obtain⟨Ri,TQ⟩:=pinned I8;have Ra:=I8.Gm;obtain⟨Tz,Pm,Om,Uv,hDd⟩:=Ra.pin (D,o) (Bc _ (Bu _ AZ));refine Ob.add Tz v3 r8 tk hz λh9 o9 z t9 PZ Qk v9 Xx=>?_;obtain⟨m',hm,w8⟩:=Xx;have tracked:∀b o,b≠D->s8.heap.get? b=some o->h9.get? b=some o:=λb o hb e=>PZ.extBut b o hb e;have Ws:=v9.nc;have I9:Inv (au X scope C fp (ts++cap) s0 H0) ([(D,o9)]++P) J5 H8 {s8 with heap:=h9,toks:=t9}:=by
     have J0:Inv (au X scope C fp (ts++cap) s0 H0) P J5 H8 s8:=Ra.Hm (λp hp=>Ra.pin p (Bc _ (Bc _ hp)));have J1:Inv (au X scope C fp (ts++cap) s0 H0) P J5 H8 {s8 with heap:=h9,toks:=t9}:=J0.turned (it:=D) tracked Pm Om hD0 hDc hDp;refine J1.Hm λp hp=>?_;rcases Ba.mp hp with z|z
     ·have e:p=(D,o9):=by simpa using z
      subst e;exact⟨Qk,Pm,Om,Uv,Ws⟩
     ·exact J1.pin p (Bc _ z)
    have Rh:QI (j+1) h9:=T.keep _ _ _ Ri λb hb o e=>tracked b o (Wk b hb) e;exact⟨m',hm,j+1,J5,H8,ap c ys z,o9,I9,v9,Rh,TQ,w8⟩
 exact qJ (loop _ rfl) (T.self _ _ _ _ _ st (loop _ rfl))
theorem fz{pins:A5}{σ:St}{H:Hp}{s:Shared}{fp:B2}{g:TG}{tc:TT}{u4:TI}{g1:TG}{o7:TT}{te:TE}{J:It}{it:Addr}{tn:Nat->Heap->Prop}{W:Nat->Nat->List (Ty c)->Hp->Prop}{m0:Nat}{E:A3}
  {RR:Value->Addr->Result->Shared->Prop}{Fin:List (Ty c)->Hp->Prop}(hc:X.calm=true)
  (I:Inv X pins σ H s)(T:Turn X.prog X.w X.K j0 J fp it tn)(st:tn 0 s.heap)(hf:∀b∈fp,GN X pins H b)(CS:FY X scope ts cap js)
  (hg:∀C fp s H,PG (au X scope C fp (ts++cap) s H) j0 g)(ht:∀C fp s H,K5 (au X scope C fp (ts++cap) s H) i1 tc)(Oi:∀C fp s H,PI (au X scope C fp (ts++cap) s H) i9 b8 u4)
  (Tn:∀C fp s H,PG (au X scope C fp (ts++cap) s H) i9 g1)(RP:∀C fp s H,K5 (au X scope C fp (ts++cap) s H) f7 o7)(he:∀C fp s H,PE (au X scope C fp (ts++cap) s H) elt te)
  (Ll:∀C x,foldedSetIterable b8 (compEnvC scope (cS X.env.cells scope.names []) C X.env) x=pure x)
  (w0:W 0 m0 [] H)
  (turn:∀i m ys H,W i m ys H->(J.stop i H/\ys.length<=lim c/\Fin ys H)\/(J.go i H/\∀x H',J.D8 i H x H'->g x (List.replicate ts.length none++bY js σ) H' fun c8 H2=>tc c8 H2 λb H3 =>
   if b=true then u4 c8 H3 λJ1 H4=>iW c J1 g1 o7 te c8 H4 ys λi6 H5=>∃m',m' < m/\W (i+1) m' i6 H5 else ∃m',m' < m/\W (i+1) m' ys H3))
  (Qi:∀D C s' H' c5 ys m o,Inv (au X scope C fp (ts++cap) s H) [(D,o)] c5 H' s'->Ob X.prog X.w c o ys->ys.length<=lim c->s'.heap.Ns C m->s.heap.objs.size<=C->s.heap.objs.size<=D->C≠D->Fin ys H'->RR (.ref D) C (.ok .next) s') :
  (wq X) (LV c) (λacc i7=>(wq X) (newFunctionEnv scope X.env.globals (cS X.env.cells scope.names []) [] X.env.qual none .none (some X.env)) (λB4 s₄ =>
   codeAny (model X.prog X.w) X.A (.compStart (bW c elt j0 c7 i9 b8 i1 f7 scope pos) 0 (.ref it) acc { B4 with scope:=relabel scope X.env }) (RR acc B4.locals) s₄) E i7) E s:=by
 have TA:∀C,Ko (au X scope C fp (ts++cap) s H) j0 J fp it tn:=λC=>⟨T.item (au X scope C fp (ts++cap) s H) rfl rfl rfl hc,T.done (au X scope C fp (ts++cap) s H) rfl rfl rfl hc⟩
 refine sS ?_;refine(wpAny_newFunctionEnv CS.HA (by intro y hy;simp at hy) (λi8 o6 j8=>?_) CS.kind);dsimp only at o6 j8 ⊢;generalize OX:s.heap.push (PH X.w c)=H2 at o6 j8 ⊢;obtain⟨MV,To⟩:=Ob.nil (prog:=X.prog) (w:=X.w) (c:=c);have SX:=MV.nc;generalize PH X.w c=o0 at OX MV To SX;have Ql:H2.objs.size=s.heap.objs.size+1:=by rw[<- OX,FQ]
 have Pn:s.heap.objs.size≠H2.objs.size:=by rw[Ql];exact Bf (Cm _)
 have K4:s.heap.objs.size<=H2.objs.size:=by rw[Ql];exact Ck _
 have below:∀b,b<s.heap.objs.size->b≠H2.objs.size:=λb hb=>by rw[Ql];exact Bf (CH hb)
 have old:∀b o,s.heap.get? b=some o->i8.get? b=some o:=λb o e=>j8.extBut b o (below b (Fv e)) (FJ _ (OX▸FJ _ e));have K2:i8.get? s.heap.objs.size=some (o0):=j8.extBut _ _ Pn (FJ _ (OX▸FK _ To));have J9:∀b∈fp,b<s.heap.objs.size:=λb hb=>by obtain⟨o,e,_⟩:=T.obj _ _ st b hb;exact Fv e
 have y4:tn 0 i8:=T.keep _ _ _ st λb _ o e=>old b o e;have Ol:s.heap.objs.size∉Jd X.stack:=λz=>by
  obtain⟨_,o,ho,_⟩:=I.stack.mem z;exact absurd (Fv ho) (BI _)
 have I0:Inv (au X scope H2.objs.size fp (ts++cap) s H) [(s.heap.objs.size,o0)] (List.replicate ts.length none++bY js σ) H {s with heap:=i8,toks:=s.toks+([]:List (Str×Value)).length}:=
  kP I CS hf J9 K4 old o6 rfl I.bare λp hp=>by
   have e:p=(s.heap.objs.size,o0):=by simpa using hp
   subst e;exact⟨K2,I.b9.fresh (AS _),Pn,Ol,SX⟩
 have n4:∀{H':Hp}{o:Obj},(∀b∈fp,H' b=none)->∀b∈fp,GN (au X scope H2.objs.size fp (ts++cap) s H) [(s.heap.objs.size,o)] H' b:=λ{H' o} hn b hb=>by
  obtain⟨f0,f1,f2,f3,f4,f5⟩:=hf b hb;refine⟨hn b hb,below b (J9 b hb),?_,.inl hb,λx c e=>f4 x c (CS.look I.ok e),λp hp=>?_⟩
  ·exact(jP I CS hf J9 K4).LB b hb
  ·rcases Ba.mp hp with z|z
   ·exact f5 p (Bu _ z)
   ·have e:p=(s.heap.objs.size,o):=by simpa using z
    subst e;intro q;have q':s.heap.objs.size=b:=q;exact absurd (J9 b hb) (by rw[<- q'];exact BI _)
 have loop:∀i7:Shared,i7={s with heap:=i8,toks:=s.toks+([]:List (Str×Value)).length} ->
   codeAny (model X.prog X.w) X.A (.compLoop (bW c elt j0 c7 i9 b8 i1 f7 scope pos) 0 (.ref it) (.ref s.heap.objs.size) (compEnvC scope (cS X.env.cells scope.names []) H2.objs.size X.env))
    (RR (.ref s.heap.objs.size) H2.objs.size) i7:=by
  rintro i7 rfl;refine qz (Ll _) (λk s'=>∃i H' ys o,Inv (au X scope H2.objs.size fp (ts++cap) s H) [(s.heap.objs.size,o)] (List.replicate ts.length none++bY js σ) H' s'/\Ob X.prog X.w c o ys/\tn i s'.heap/\(∀b∈fp,H' b=none)/\W i k ys H') ?_ m0
   ⟨0,H,[],o0,I0,MV,y4,λb hb=>(hf b hb).1,w0⟩
  rintro k s3 ⟨i,H3,ys,o,I3,v3,j4,Oq,w3⟩;rcases turn i k ys H3 w3 with ⟨stop,hz,fin⟩|⟨go,step⟩
  ·refine c6 ((TA _).done i _ s3 _ H3 _ I3 (n4 Oq) j4 stop) λr s4 Xw=>?_;obtain⟨hr,I4⟩:=Xw;subst hr;obtain⟨m4,YJ,_⟩:=I4.loc;exact Qi _ _ s4 H3 _ ys m4 o I4 v3 hz YJ K4 (AS _) (FI Pn) fin
  ·refine c6 ((TA _).item i _ s3 _ H3 _ I3 (n4 Oq) j4 go) λr s4 Xv=>?_;obtain⟨u,hr,h4⟩:=Xv;subst hr;refine c6 h4 λ_ s5 Xu=>?_;obtain⟨x,H5,I5,r5,y5,r9,Qo⟩:=Xu;have QC:=I5.pinned (n4 Qo) (T.obj _ _ r9);refine c6 (hg _ _ _ _ _ s5 _ H5 x u _ QC r5 (step x H5 y5)) λ_ s6 Xs=>?_;obtain⟨J5,H6,I6,q6⟩:=Xs;refine c6 (ht _ _ _ _ _ s6 J5 H6 _ I6 q6) λok s7 Xr=>?_;obtain⟨H7,I7,q7⟩:=Xr;have pinned:∀{c5:St}{H':Hp}{s':Shared},Inv (au X scope H2.objs.size fp (ts++cap) s H) ([(s.heap.objs.size,o)]++dg fp s5.heap) c5 H' s'->tn (i+1) s'.heap/\∀b∈fp,H' b=none:=λ{c5 H' s'} J=>by
    refine⟨T.keep _ _ _ r9 λb hb o e=>(J.pin (b,o) (Bc _ (Bc _ (bh hb e)))).1,λb hb=>?_⟩;obtain⟨o,e,d⟩:=T.obj _ _ r9 b hb;exact(J.pin (b,o) (Bc _ (Bc _ (bh hb e)))).2.1
   cases ok with
   |false=>
    rw[Fm BA] at q7 ⊢;obtain⟨m',hm,w7⟩:=q7;obtain⟨Rj,TR⟩:=pinned I7;exact⟨m',hm,i+1,H7,ys,o,cX I CS hf I7.Gm,v3,Rj,TR,w7⟩
   |true=>
    rw[Fn rfl] at q7 ⊢;refine c6 (Oi _ _ _ _ _ s7 J5 H7 _ I7 q7) λxv s8 h8=>c6 h8 λN7 s9 h9=>?_;obtain⟨Uj,OZ,QI,J1,H9,e9,I9,T1,Rh,f9,cv⟩:=h9;subst e9;refine lS (D:=s.heap.objs.size) (o0:=o) (P:=dg fp s5.heap) hc I9 v3 T1 Rh f9 (.inr (Heap.get?_none_of_le (AS _))) (λx c e q=>?_) (λp hp q=>?_) (Tn _ _ _ _) (RP _ _ _ _) (he _ _ _ _) cv (fun c5 i6 o' H' s' I' v' q'=>⟨rfl,?_⟩)
    ·obtain⟨v,o,ho,_⟩:=I.cell x c (CS.look I.ok e);rw[q] at ho;exact absurd (Fv ho) (BI _)
    ·rcases Ba.mp hp with z|z
     ·obtain⟨e,_⟩:=I.pin p (Bu _ z);rw[q] at e;exact absurd (Fv e) (BI _)
     ·obtain⟨hb,_⟩:=ji z;exact absurd (J9 _ hb) (by rw[q];exact BI _)
    ·obtain⟨m',hm,w8⟩:=q';have Ri:tn (i+1) s'.heap:=T.keep _ _ _ r9 λb hb o e=>(I'.pin (b,o) (Bc _ (Bc _ (bh hb e)))).1;have TQ:∀b∈fp,H' b=none:=λb hb=>by
      obtain⟨o,e,d⟩:=T.obj _ _ r9 b hb;exact(I'.pin (b,o) (Bc _ (Bc _ (bh hb e)))).2.1
     exact⟨m',hm,i+1,H',i6,o',cX I CS hf I'.Gm,v',Ri,TQ,w8⟩
 have l2:=loop _ rfl;clear loop;cases c with
 |true=>exact bI l2 (T.self _ _ _ _ _ y4 l2)
 |false=>exact codeAny_compStart_list l2 (T.self _ _ _ _ _ y4 l2)
abbrev rE(J:It)(g:TG)(tc:TT)(te:TE)(σ:St)(H:Hp)(ys:A9)(Q:A9->Hp->Prop):Prop:=iW false J g tc te σ H ys Q
abbrev qh(J:It)(k:Nat)(js:A7)(g:TG)(tc:TT)(u4:TI)(g1:TG)(o7:TT)(te:TE)(σ:St)(H1:Hp)(Q:VK):Prop:=nU false J k js g tc u4 g1 o7 te σ H1 λys H=>∀p,H p=none->Q (.ref p) (upd H p (.lst ys))
def xr (wi:TI)(k:Nat)(js:A7)(g:TG)(tc:TT)(u4:TI)(g1:TG)(o7:TT)(te:TE):TE:=fun σ H Q=>wi σ H λJ H1=>qh J k js g tc u4 g1 o7 te σ H1 Q
end
def Pw (n j:Nat)(P:Nat->St->A9->Hp->Prop)(σ:St)(ys:A9)(H:Hp):Prop:=∃m',m'<n-j/\(m'=n-(j+1)/\j+1<=n/\P (j+1) σ ys H)
theorem Pw.mk{n j:Nat}{P:Nat->St->A9->Hp->Prop}{σ:St}{ys:A9}{H:Hp}(hj:j<n)(h:P (j+1) σ ys H):Pw n j P σ ys H:=⟨n-(j+1),by lia,rfl,hj,h⟩
theorem qY{J:It}{n:Nat}{g:TG}{tc:TT}{te:TE}{O7:St}{H0:Hp}{Mm:A9}{Q:A9->Hp->Prop}(P:Nat->St->A9->Hp->Prop)(h0:P 0 O7 Mm H0)(hz:∀j σ ys H,j<=n->P j σ ys H->ys.length<sizeLine)
  (Tj:∀j σ ys H,j<n->P j σ ys H->J.go j H)(G8:∀σ ys H,P n σ ys H->J.stop n H)
  (hs:∀j σ ys H x H',j<n->P j σ ys H->J.D8 j H x H'->g x σ H' fun c8 H2=>tc c8 H2 λb H3=>if b=true then te c8 H3 λy H4=>Pw n j P c8 (ys++[y]) H4 else Pw n j P c8 ys H3)
  (hd:∀σ ys H,P n σ ys H->Q ys H):rE J g tc te O7 H0 Mm Q:=by
 refine⟨λj m σ ys H=>m=n-j/\j<=n/\P j σ ys H,⟨n,by simp,Bj _,h0⟩,?_⟩;rintro j m σ ys H ⟨rfl,hj,p⟩;have hy:=hz j σ ys H hj p;by_cases d5:j<n
 ·exact .inr ⟨Tj j σ ys H d5 p,hy,λx H' y=>hs j σ ys H x H' d5 p y⟩
 ·have e:j=n:=by lia
  subst e;exact .inl ⟨G8 σ ys H p,BS hy,hd σ ys H p⟩
theorem sE{J:It}{n k:Nat}{js:A7}{g:TG}{tc:TT}{u4:TI}{g1:TG}{o7:TT}{te:TE}{σ:St}{H:Hp}{Q:VK}(P:Nat->A9->Hp->Prop)(h0:P 0 [] H)(hz:∀i ys H,i<=n->P i ys H->ys.length<=sizeLine)
  (Tj:∀i ys H,i<n->P i ys H->J.go i H)(G8:∀ys H,P n ys H->J.stop n H)
  (hs:∀i ys H x H',i<n->P i ys H->J.D8 i H x H'->g x (List.replicate k none++bY js σ) H' fun c8 H2=>tc c8 H2 λb H3=>if b=true then u4 c8 H3 λJ1 H4=>rE J1 g1 o7 te c8 H4 ys λi6 H5=>Nx n i P i6 H5 else Nx n i P ys H3)
  (hd:∀ys H,P n ys H->∀p,H p=none->Q (.ref p) (upd H p (.lst ys))):qh J k js g tc u4 g1 o7 te σ H Q:=by
 refine⟨λi m ys H=>m=n-i/\i<=n/\P i ys H,⟨n,by simp,Bj _,h0⟩,?_⟩;rintro i m ys H ⟨rfl,hi,p⟩;have hy:=hz i ys H hi p;by_cases d5:i<n
 ·exact .inr ⟨Tj i ys H d5 p,λx H' y=>hs i ys H x H' d5 p y⟩
 ·have e:i=n:=by lia
  subst e;exact .inl ⟨G8 ys H p,hy,hd ys H p⟩
theorem wG{lo:Int}{n:Nat}{g:TG}{tc:TT}{te:TE}{O7:St}{H0:Hp}{Mm:A9}{Q:A9->Hp->Prop}(P:Nat->St->A9->Hp->Prop)(h0:P 0 O7 Mm H0)(hz:∀j σ ys H,j<=n->P j σ ys H->ys.length<sizeLine)
  (hs:∀j σ ys H,j<n->P j σ ys H->g (.int (lo+j)) σ H fun c8 H2=>tc c8 H2 λb H3=>if b=true then te c8 H3 λy H4=>Pw n j P c8 (ys++[y]) H4 else Pw n j P c8 ys H3)
  (hd:∀σ ys H,P n σ ys H->Q ys H):rE (OF lo n) g tc te O7 H0 Mm Q:=
 qY P h0 hz (λ_ _ _ _ h _=>h) (λ_ _ _ _=>AS _) (λj σ ys H x H' hj p y=>by obtain⟨e,y⟩:=y;subst e y;exact hs j σ ys _ hj p) hd
theorem vN{lo:Int}{n k:Nat}{js:A7}{g:TG}{tc:TT}{u4:TI}{g1:TG}{o7:TT}{te:TE}{σ:St}{H:Hp}{Q:VK}(P:Nat->A9->Hp->Prop)(h0:P 0 [] H)(hz:∀i ys H,i<=n->P i ys H->ys.length<=sizeLine)
  (hs:∀i ys H,i<n->P i ys H->g (.int (lo+i)) (List.replicate k none++bY js σ) H fun c8 H2=>tc c8 H2 λb H3=>if b=true then u4 c8 H3 λJ1 H4=>rE J1 g1 o7 te c8 H4 ys λi6 H5=>Nx n i P i6 H5 else Nx n i P ys H3)
  (hd:∀ys H,P n ys H->∀p,H p=none->Q (.ref p) (upd H p (.lst ys))):qh (OF lo n) k js g tc u4 g1 o7 te σ H Q:=
 sE P h0 hz (λ_ _ _ h _=>h) (λ_ _ _=>AS _) (λi ys H x H' hi p y=>by obtain⟨e,y⟩:=y;subst e y;exact hs i ys _ hi p) hd
section
variable {X:Cx}
theorem JU:∀(xs:A9)(us:A8),xs.length=us.length->(∀(j:Nat) x u,xs[j]?=some x->us[j]?=some u->RelV x u)->Vals xs us
 |[],[],_,_=>.nil
 |[],_::_,h,_=>by cases h
 |_::_,[],h,_=>by cases h
 |x::xs,u::us,h,r=>.cons (r 0 x u rfl rfl) (JU xs us (by simpa using h) λj a b h1 h2=>r (j+1) a b h1 h2)
end
def QD (c:Addr)(q:Str):HO:=.ext λh=>∃o vs t,h.get? c=some o/\o.data=.fields vs/\vs[1]?=some (.str q t)
def Py (a:Addr)(fd:FuncData):HO:=.ext λh=>∃o,h.get? a=some o/\o.data=.func fd
structure GR(pos:Pos)(q:Str)(P:Addr)(H:Hp):Prop where
 ex:∃ps,H P=some (.B8 ps)/\TriplesOk ps.toList/\(codeAmong pos ps.toList=none\/∃c,codeAmong pos ps.toList=some (.ref c)/\H c=some (QD c q))
structure Np(K:W.Frag)(mg:Str->Option Value)(c P:Addr):Prop where
 hd:∀h:Heap,K.In h->W.CodeHd h c P
 bt:∀h:Heap,K.In h->h.BuiltinsAt mg P
 ne:mainGlobals≠P
def j6 (P:Addr)(H H':Hp):Prop:=∀b o,b≠P->H b=some o->H' b=some o
theorem j6.trans{P:Addr}{H H1 H2:Hp}(a:j6 P H H1)(b:j6 P H1 H2):j6 P H H2:=λc o n e=>b c o n (a c o n e)
theorem j6.of{P:Addr}{H H':Hp}(a:FZ H H'):j6 P H H':=λc o _ e=>a c o e
theorem GR.same{pos:Pos}{q:Str}{P:Addr}{H H':Hp}(h:GR pos q P H)(S:FZ H H'):GR pos q P H':=by
 obtain⟨ps,h1,h2,h3⟩:=h.ex;refine⟨ps,S _ _ h1,h2,?_⟩;rcases h3 with h3|⟨c,h3,h4⟩
 ·exact .inl h3
 ·exact .inr ⟨c,h3,S _ _ h4⟩
def U0 (pos:Pos)(q:Str)(P:Addr)(F:Value->Value->Value->FuncData):TE:=fun σ H Q=>GR pos q P H/\∀a c pm ct H',H a=none->H' a=some (Py a (F pm (.ref c) ct))->H' c=some (QD c q)->GR pos q P H'->j6 P H H'->Q (.ref a) H'
theorem vT{P:Program}{w:World}{H:Hp}{h:Heap}{a:Addr}{fd:FuncData}{o:Obj}(e:h.get? a=some o)(d:o.data=.func fd):Gg P w H h a (Py a fd):=
 ⟨⟨o,e,d⟩,⟨o,e⟩,λh1 h2 ⟨o1,e1,d1⟩ k=>⟨o1,k _ e1,d1⟩⟩
theorem xS{P:Program}{w:World}{H:Hp}{h:Heap}{c:Addr}{q:Str}(e:h.CodeRec (.ref c) q):Gg P w H h c (QD c q):=by
 obtain⟨c',o,vs,t,e0,e1,e2,e3⟩:=e;cases e0;exact⟨⟨o,vs,t,e1,e2,e3⟩,⟨o,e1⟩,λh1 h2 ⟨o1,vs1,t1,a1,a2,a3⟩ k=>⟨o1,vs1,t1,k _ a1,a2,a3⟩⟩
theorem xq{P:Program}{w:World}{H:Hp}{h:Heap}{c:Addr}{q:Str}(x:m6 P w H h)(e:H c=some (QD c q)):h.CodeRec (.ref c) q:=by
 obtain⟨⟨o,vs,t,e1,e2,e3⟩,_⟩:=x c _ e;exact⟨c,o,vs,t,rfl,e1,e2,e3⟩
theorem vE{P:Program}{w:World}{H:Hp}{h:Heap}{a:Addr}{fd:FuncData}(x:m6 P w H h)(e:H a=some (Py a fd)):∃o,h.get? a=some o/\o.data=.func fd:=by
 obtain⟨z,_⟩:=x a _ e;exact z
theorem vB{X:Cx}{params:Arguments}{body:Expr}{scope:Scope}{pos:Pos}{c P:Addr}{q:Str}{ts cap:List Str}{js:A7}(LK:Np X.K X.mg c P)(u7:X.env.code=.ref c)(hq:X.env.qual++"<lambda>"=q)(hd:defaultsOf params X.env=([],[]))(CS:FY X scope ts cap js) :
  PE X (.Lambda params body scope pos) (U0 pos q P λpm cd ct=>W.kla_fn "<lambda>" q params body scope (cS X.env.cells scope.names []) pm cd ct):=by
 intro pins s σ H Q I h;obtain⟨⟨ps,hP,hT,hc⟩,h⟩:=h;refine W.kla_eval hd ?_;rw[hq];have Tt:=bp (CS.cells I.ok);have P8:s.heap.Ns mainGlobals X.mg:=by
  obtain⟨o,es,ep,e,r⟩:=I.ok.mod.glob;exact⟨o,es,ep,I.bk _ _ e,r⟩
 have gP:s.heap.get? P=some (W.tabObj ps):=I.b9 P _ hP;rcases hc with hc|⟨c0,hc,Tu⟩
 ·refine W.kla_makeFunction Tt I.ok.glob P8 u7 (LK.hd _ I.C4) gP hT hc LK.ne (LK.bt _ I.C4) λc' Pr h' tk ext hsz d5 W5 WV=>?_;have tl:(ps++#[rawInt pos.line,rawInt pos.col,.ref c']).toList=ps.toList++[rawInt pos.line,rawInt pos.col,.ref c']:=by simp
  have nP:∀b u,H b=some u->(∀ps,u≠.B8 ps)->b≠P:=λb u e n z=>by rw[z,hP] at e;exact n ps (Fx e).symm
  have lc:∀b u,H b=some u->b≠c':=λb u e=>Bf (Bq (I.b9.lt e) hsz);have la:∀b u,H b=some u->b≠h'.objs.size:=λb u e=>Bf (DH (Bq (I.b9.lt e) hsz) d5);have ca:c'≠h'.objs.size:=Bf d5;have cP:c'≠P:=FI (lc P _ hP);have Pa:P≠h'.objs.size:=la P _ hP;generalize hfd:W.kla_fn "<lambda>" q params body scope (cS X.env.cells scope.names []) ((X.mg "__name__").getD .none) (.ref c') Pr=fd;have hob:W.kla_obj "<lambda>" q params body scope (cS X.env.cells scope.names []) ((X.mg "__name__").getD .none) c' Pr={cls:=.type "function",data:=.func fd}:=by rw[<- hfd]
  rw[hob];obtain⟨H',eH⟩:∃H',H'=upd (upd (upd H P (.B8 (ps++#[rawInt pos.line,rawInt pos.col,.ref c']))) c' (QD c' q)) h'.objs.size (Py h'.objs.size fd):=⟨_,rfl⟩
  have eA:H' h'.objs.size=some (Py h'.objs.size fd):=by rw[eH];exact ae
  have eC:H' c'=some (QD c' q):=by rw[eH,aj ca];exact ae
  have eP:H' P=some (.B8 (ps++#[rawInt pos.line,rawInt pos.col,.ref c'])):=by rw[eH,aj Pa,aj (FI cP)];exact ae
  have eO:∀b,b≠P->b≠c'->b≠h'.objs.size->H' b=H b:=λb n1 n2 n3=>by rw[eH,aj n3,aj n2,aj n1]
  have SB:j6 P H H':=λb o n e=>by rw[eO b n (lc b o e) (la b o e)];exact e
  have kp:∀b u,b≠P->s.heap.get? b=some u->(h'.push {cls:=.type "function",data:=.func fd}).get? b=some u:=λb u n e=>FJ _ (ext b u n e);have gP':(h'.push {cls:=.type "function",data:=.func fd}).get? P=some (W.tabObj (ps++#[rawInt pos.line,rawInt pos.col,.ref c'])):=FJ _ WV;have tu:∀b xs,H b=some (.tup xs)->H' b=some (.tup xs):=λb xs e=>SB b _ (nP b _ e λ_ z=>by cases z) e;have ow:∀b x,H b=some (.own x)->H' b=some (.own x):=λb x e=>SB b _ (nP b _ e λ_ z=>by cases z) e;have I2:Inv X pins σ H' {s with heap:=h'.push {cls:=.type "function",data:=.func fd},toks:=tk}:=by
   refine I.un (t':=tk) ⟨λb o e n _ _=>kp b o (λz=>by rw[z,hP] at n;cases n) e,λb o e n _ _=>⟨o.slots,kp b o (λz=>by rw[z,hP] at n;cases n) e⟩,λb o e n _=>?_,λb o e _=>?_,tu,λb o u e=>SB b _ (nP b _ e λ_ z=>by cases z) e,λb ps' e=>?_⟩ λb u e=>?_
   ·have lb:=Fv e;rw[eO b (λz=>by rw[z,hP] at n;cases n) (Bf (Bq lb hsz)) (Bf (DH (Bq lb hsz) d5))];exact n
   ·by_cases hb:b=P
    ·rw[hb];exact⟨_,gP'⟩
    ·exact⟨o,kp b o hb e⟩
   ·by_cases hb:b=P
    ·subst hb;rw[hP] at e;cases e;exact⟨_,eP⟩
    ·exact⟨#[],by rw[SB b _ hb e];simp⟩
   ·by_cases b1:b=h'.objs.size
    ·subst b1;rw[eA] at e;cases e;exact vT (FK _ rfl) rfl
    ·by_cases b2:b=c'
     ·subst b2;rw[eC] at e;cases e;obtain⟨c2,o,vs,t,e0,e1,e2,e3⟩:=W5;cases e0;exact xS ⟨_,o,vs,t,rfl,FJ _ e1,e2,e3⟩
     ·by_cases b3:b=P
      ·subst b3;rw[eP] at e;cases e;exact gP'
      ·rw[eO b b3 b2 b1] at e;refine(I.b9 b u e).JG (λx v hx g=>kp x v (λz=>?_) g) (λx z=>ow x _ z) tu;rcases hx with hx|hx
       ·exact b3 (hx.symm.trans z)
       ·rw[z,hP] at hx;cases hx
  refine⟨.ref h'.objs.size,H',I2,rfl,h _ c' ((X.mg "__name__").getD .none) Pr H' ?_ (eA.trans (by rw[<- hfd])) eC ⟨_,eP,by rw[tl];exact TriplesOk_snoc _ _ _ _ hT,.inr ⟨c',by rw[tl];exact codeAmong_snoc _ hT hc,eC⟩⟩ SB⟩;exact I.b9.fresh (BS (Cf hsz d5))
 ·refine W.kla_makeFunctionHit Tt I.ok.glob P8 u7 (LK.hd _ I.C4) gP hT hc (LK.bt _ I.C4) λPr h' tk ext hsz=>?_;have I2:=I.laid (a:=h'.objs.size) (o:=Py h'.objs.size (W.kla_fn "<lambda>" q params body scope (cS X.env.cells scope.names []) ((X.mg "__name__").getD .none) (.ref c0) Pr)) (t':=tk) (h':=h'.push {cls:=.type "function",data:=.func (W.kla_fn "<lambda>" q params body scope (cS X.env.cells scope.names []) ((X.mg "__name__").getD .none) (.ref c0) Pr)}) (λb u e=>FJ _ (ext b u e)) hsz (vT (FK _ rfl) rfl);have hn:=I.b9.fresh (a:=h'.objs.size) hsz;have SS:=af hn (Py h'.objs.size (W.kla_fn "<lambda>" q params body scope (cS X.env.cells scope.names []) ((X.mg "__name__").getD .none) (.ref c0) Pr));exact⟨.ref h'.objs.size,_,I2,rfl,h _ c0 _ Pr _ hn ae (SS _ _ Tu) (GR.same ⟨ps,hP,hT,.inr ⟨c0,hc,Tu⟩⟩ SS) (j6.of SS)⟩
def qB (X:Cx)(A:Around)(scope:Scope)(q:Str)(f:Addr)(cd:Value)(N:List Str)(s:Shared)(H:Hp):Cx where
 prog:=X.prog
 w:=X.w
 K:=X.K
 mg:=X.mg
 base:=X.base
 A:=A.deeper (W.envX q scope s.heap.objs.size f cd (cS X.env.cells scope.names []))
 N:=N
 s₀:=s
 H₀:=H
 env:=W.envX q scope s.heap.objs.size f cd (cS X.env.cells scope.names [])
 outer:=X.stack
 stack:=W.envX q scope s.heap.objs.size f cd (cS X.env.cells scope.names [])::X.stack
 ex:=[]
 fn:=λ_=>false
 calm:=A.handled.isNone
 pn:=[]
 xe:=λ_ _=>False
section
variable {X:Cx}{pins:A5}{σ:St}{H:Hp}{s:Shared}{scope:Scope}{cap:List Str}{js:A7}{A:Around}{q y:Str}{f:Addr}{cd:Value}
theorem vz(hA:A.frames=some X.stack)(I:Inv X pins σ H s)(CS:FY X scope [y] cap js):(qB X A scope q f cd ([y]++cap) s H).Ok where
 mod:=I.ok.mod
 kind:=CS.kind
 glob:=rfl
 blt:=rfl
 above:=AS _
 inj:=λx z c h1 h2=>I.ok.inj x z c (CS.look I.ok h1) (CS.look I.ok h2)
 has:=λx hx=>by
  have hx:scope.names.lookup x=some .cell\/scope.names.lookup x=some .free:=hx;rcases hx with hx|hx
  ·exact absurd rfl (CS.HA _ (bo hx))
  ·exact Dh.mp (cW (.inl (bo hx)))
 Qv:=λx c h _=>by cases (show false=true from h)
 hd:=λh=>EZ.mp h
 frames:=Around.frames_deeper hA
 M8:=.inr ⟨rfl,rfl⟩
 UB:=λb hb=>absurd (show b∈([]:B2) from hb) (by simp)
 bs:=I.bs
 OE:=Bh I.ok.OE I.sz
 Mi:=λb o e hb=>absurd (show b∈([]:B2) from hb) (by simp)
 LB:=λb hb=>absurd (show b∈([]:B2) from hb) (by simp)
 JM:=I.stack
 Po:=I.HQ
theorem uN{s₄:Shared}{x:V}{u:Value}(hA:A.frames=some X.stack)(I:Inv X pins σ H s)(CS:FY X scope [y] cap js)(hy:scope.names.lookup y=some .local)(r:RelV x u)
  (old:∀b o,s.heap.get? b=some o->s₄.heap.get? b=some o)(hn:s₄.heap.Ns s.heap.objs.size λz=>[(y,u)].reverse.lookup z)(OQ:s₄.os=s.os)(hb:AllBare s₄.gens) :
  Inv (qB X A scope q f cd ([y]++cap) s H) [] ([some x]++bY js σ) H s₄ where
 ok:=vz hA I CS
 os:=OQ
 bare:=hb
 base:=Un.kept old
 loc:=⟨_,hn,λi z v h1 h2 h3=>by
  cases i with
  |zero=>
   have e1:y=z:=Fx h1;have e2:x=v:=Fx (Fx h2);subst e1 e2;exact⟨u,r,.inl ⟨hy,by simp⟩⟩
  |succ i=>
   have C1:cap[i]?=some z:=h1;have z8:(bY js σ)[i]?=some (some v):=h2;unfold bY at z8;rw[Bo] at z8;cases hj:js[i]? with
   |none=>rw[hj] at z8;cases z8
   |some j=>
    rw[hj] at z8;have OY:(σ[j]?).join=some v:=Fx z8;have RJ:σ[j]?=some (some v):=by
     cases e:σ[j]? with
     |none=>rw[e] at OY;cases OY
     |some o=>rw[e] at OY;rw[show o=some v from OY]
    have hN:X.N[j]?=some z:=by
     have:=congrArg (λl=>l[i]?) CS.Mc;simp only[Bo,C1,hj] at this;exact(Fx this).symm
    have J8:=CS.Nr z (Bp C1);have hk:=CS.free _ (bo J8) rfl;obtain⟨m0,hn0,hl⟩:=I.loc;obtain⟨u',r',l⟩:=hl j z v hN RJ (.inr hk);refine⟨u',r',?_⟩;rcases l with ⟨k,_⟩|⟨k,c,e,zz⟩
    ·rcases hk with q|q<;>(rw[q] at k;cases k)
    ·obtain⟨c',e'⟩:=Dh.mp (cW (cells:=X.env.cells) (acc:=[]) (.inl (bo J8)));have e2:=CS.look I.ok e';have e3:X.env.cells.lookup z=some c:=e;rw[e3] at e2;cases e2;obtain⟨o,ho,hd⟩:=zz
     exact .inr ⟨.inr J8,c,e',⟨o,old _ _ ho,hd⟩⟩⟩
 cell:=λx c e=>by
  obtain⟨v,o,ho,hd⟩:=I.cell x c (CS.look I.ok e);exact⟨v,o,old _ _ ho,hd⟩
 free:=I.b9.fresh (AS _)
 GL:=λx c e=>I.GL x c (CS.look I.ok e)
 pin:=λp hp=>absurd (show p∈([]:A5) from hp) (by simp)
 b9:=I.b9.kept old
 len:=by
  show([some x]++bY js σ).length=([y]++cap).length;have:=congrArg List.length CS.Mc;simp only[AU] at this;rw[AV,AV,bY,AU,this];rfl
theorem rW{te:TE}{params:Arguments}{body:Expr}{pm ct:Value}{c:Addr}{x:V}{u:Value}{Q:VK}(hA:A.frames=some X.stack)(Tq:A.depth<recursionLimit)(I:Inv X pins σ H s)(CS:FY X scope [y] cap js)(hy:scope.names.lookup y=some .local)
  (Zb:scope.isCoroutine=false)(z6:scope.isGenerator=false)(hf:H f=some (Py f (W.kla_fn "<lambda>" q params body scope (cS X.env.cells scope.names []) pm (.ref c) ct)))(F6:H c=some (QD c q))
  (Jb:bindArgs (W.kla_fn "<lambda>" q params body scope (cS X.env.cells scope.names []) pm (.ref c) ct) ⟨[u],[]⟩=pure [(y,u)])
  (hb:PE (qB X A scope q f (.ref c) ([y]++cap) s H) body te)(r:RelV x u)(h:te ([some x]++bY js σ) H Q) :
  wpAny (model X.prog X.w) A (call (.ref f) [u]) (EP X pins σ Q) (λ_ _=>False) s:=by
 obtain⟨o,ho,hd⟩:=vE I.b9 hf;refine wpAny_call (codeAny_mono (R:=CR Ml X.stack X.prog X.w H s Q E0) (W.kla_callFunE Tq ho hd Zb z6 rfl (xq I.b9 F6) ?_) λr s' hq=>?_)
 ·rw[Jb];refine Fi (wpAny_newFunctionEnv CS.HA (λz hz=>by rw[AY.mp hz];exact hy) (λi8 P8 QS=>⟨?_,W.kla_codeExpr ?_⟩) CS.kind)
  ·exact Heap.NoLimit.fresh I.nolimit _ QS
  ·have old:∀b o,s.heap.get? b=some o->i8.get? b=some o:=λb o e=>QS.extBut b o (Bf (Fv e)) (FJ _ e);have J:=uN (A:=A) (q:=q) (f:=f) (cd:=.ref c) (s₄:={s with heap:=i8,toks:=s.toks+[(y,u)].length}) hA I CS hy r old P8 rfl I.bare;refine Fq (hb [] _ _ H Q J h) (λv s' hs=>?_) λ_ _ hF=>(show False from hF).elim;obtain⟨v',H',J',rv,q'⟩:=hs;exact⟨v',H',J'.os,J'.bare,J'.base,J'.b9,rv,q'⟩
 ·cases r with
  |error e=>exact False.elim hq
  |ok fl=>
   cases fl with
   |ret u=>exact I.after hq
   |next=>exact False.elim hq
   |brk=>exact False.elim hq
   |cont=>exact False.elim hq
end
end L2
namespace L2
open PySem PySem.Spec PyProof.Rows SeqAt
def yN (X:Cx)(σ:St)(H:Hp)(q:Addr)(key:Str->Int)(ks:List Str):Prop:=
 ∀(pins:A5)(s:Shared)(k:Str)(t:Tok),Inv X pins σ H s->k∈ks->wpAny (model X.prog X.w) X.A.in1 (call (.ref q) [.str k t]) (EP X pins σ λv H'=>v=.int (key k)/\H'=H) (λ_ _=>False) s
section
variable {X:Cx}{pins:A5}{σ:St}{H:Hp}
theorem mR{k:Str}{v:Value}(h:IK (.inr k) v=true):∃t,v=.str k t:=by
 rcases Gd h with ⟨i,t,e,_⟩|⟨x,t,e,rfl⟩
 ·cases e
 ·cases e;exact⟨t,rfl⟩
theorem Inv.UW{c5:St}{s s':Shared}{a:Addr}{u:HO}{o:Obj}(I0:Inv X pins σ H s)(e:H a=some u)(nt:∀xs,u≠.tup xs)(nf:∀o' u',u≠.j5 o' u')(nb:∀ps,u≠.B8 ps)(no:∀x,u≠.own x)(I:Inv X pins c5 (upd H a (.j5 o u)) s'):Inv X pins c5 H s':=by
 have b1:=I.base;have fr:∀b,upd H a (.j5 o u) b=none->H b=none:=λb n=>by
  by_cases hb:b=a
  ·subst hb;rw[ae] at n;cases n
  ·rw[aj hb] at n;exact n
 have Qg:upd H a (.j5 o u) a=some (.j5 o u):=ae;refine⟨I.ok,I.os,I.bare,⟨b1.keep,b1.slot,λb o e n hx=>fr b (b1.free b o e n hx),b1.there,λb xs q=>?_,λb o' u' q=>?_,λb ps q=>?_⟩,I.loc,I.cell,fr _ I.free,λx c e=>fr _ (I.GL x c e),λp hp=>?_,λb v q=>?_,I.len⟩
 ·have z:=b1.JO b xs q;by_cases hb:b=a
  ·subst hb;rw[ae] at z;cases z
  ·rw[aj hb] at z;exact z
 ·exact I0.base.JL b o' u' q
 ·obtain⟨more,z⟩:=b1.JK b ps q;by_cases hb:b=a
  ·subst hb;rw[ae] at z;cases z
  ·rw[aj hb] at z;exact⟨more,z⟩
 ·obtain⟨h1,h2,h3⟩:=I.pin p hp;exact⟨h1,fr _ h2,h3⟩
 ·have tu:∀c xs,upd H a (.j5 o u) c=some (.tup xs)->H c=some (.tup xs):=λc xs z=>by
   by_cases hc:c=a
   ·subst hc;rw[ae] at z;cases z
   ·rw[aj hc] at z;exact z
  have ow:∀c x,upd H a (.j5 o u) c=some (.own x)->H c=some (.own x):=λc x z=>by
   by_cases hc:c=a
   ·subst hc;rw[ae] at z;cases z
   ·rw[aj hc] at z;exact z
  by_cases hb:b=a
  ·subst hb;rw[e] at q;cases q;exact(I.b9 b _ Qg).2.JG (λ_ _ _ q=>q) (λc q=>ow c _ q) tu
  ·exact(I.b9 b v (by rw[aj hb];exact q)).JG (λ_ _ _ q=>q) (λc q=>ow c _ q) tu
theorem qm{q d IT S:Addr}{key:Str->Int}{ks:List Str}{ep:Nat}{o:Obj}{u:HO}{vs:List (Key×Value)}(QR:vs.map (·.1)=ks.map Sum.inr)(hD:H d=some (.j5 o u))(Qg:∀h:Heap,h.get? d=some o->Heap.DictAt (aK X.prog X.w) h d vs ep)(hq:yN X σ H q key ks)(hc:X.calm=true)
  (Qj:IT≠S)(hdI:d≠IT){R:Result->Shared->Prop} :
  ∀(n j:Nat)(s:Shared)(rb:Str)(tb:Tok)(ti:Tok)(c:Nat),ks.length-j=n->j<=ks.length->Inv X pins σ H s ->
   GN X pins H IT->GN X pins H S->s.heap.IsKeyIter IT d j vs.length ep->s.heap.get? S=some (seqObj "list" #[.str rb tb,.int (key rb) ti] c)->rb∈ks->(∀k∈ks.take j,key rb<=key k) ->
   (∀(k:Str)(t:Tok)(s':Shared),k∈ks->(∀k'∈ks,key k<=key k')->Inv X pins σ H s'->R (.ok (.ret (.str k t))) s') ->
   codeAny (model X.prog X.w) X.A (.builtin "min.loop" ⟨[.ref IT,.ref q,.ref S],[]⟩) R s:=by
 have G9:(toString "min"++toString ".loop":String)="min.loop":=by decide
 have hlen:vs.length=ks.length:=by have:=congrArg List.length QR;rw[AU,AU] at this;exact this
 intro n;induction n with
 |zero=>
  intro j s rb tb ti c hn hj I fI fS hit hS W6 Lv hR;obtain rfl:j=ks.length:=by lia
  have Y6:s.heap.get? d=some o:=(I.b9 d _ hD).1;have W:=Walks.dictKeys (knd:=aK X.prog X.w) (prog:=X.prog) (w:=X.w) (A:=X.A.in1) (I.ok.hd hc) IT d hdI vs ep;refine codeAny_builtin PySem.F.entry_min_loop ?_;rw[Around.under_plainId PySem.F.plain_min_loop _];show wpAny _ X.A.in1 (seqItems? (.ref S) >>= _) _ _ _;refine Fh (wpAny_seqItems hS rfl ?_);show wpAny _ X.A.in1 (tryCatch (pyNext (.ref IT)) _ >>= _) _ _ _;refine Fh (wpAny_tryCatch (W.done _ _ _ ⟨by rw[hlen] at hit ⊢;exact hit,Qg _ Y6⟩ λh' QJ D6=>?_));have I1:Inv X pins σ H {s with heap:=h',toks:=QJ}:=fI.turn I λb o hb e=>D6 b o (by simpa using hb) e;have Lw:=D6 S _ (by simpa using FI Qj) hS;have s1:=Heap.SameBut.update h' S (Obj.mapSeq λ_=>(#[]:Array Value));show wpAny _ X.A.in1 (updateSeq S (λ_=>#[]) >>= _) _ _ _;refine Fh ?_;refine wpAny_updateSeq Lw rfl (Fh (wpAny_letGo (Fi ?_)));exact hR rb tb _ W6 (λk hk=>Lv k (by rw[BW];exact hk)) (fS.turn I1 λb o hb e=>by rw[s1.2 b hb];exact e)
 |succ n ih=>
  intro j s rb tb ti c hn hj I fI fS hit hS W6 Lv hR;have d5:j<ks.length:=by lia
  have Y6:s.heap.get? d=some o:=(I.b9 d _ hD).1;have W:=Walks.dictKeys (knd:=aK X.prog X.w) (prog:=X.prog) (w:=X.w) (A:=X.A.in1) (I.ok.hd hc) IT d hdI vs ep;refine codeAny_builtin PySem.F.entry_min_loop ?_;rw[Around.under_plainId PySem.F.plain_min_loop _];show wpAny _ X.A.in1 (seqItems? (.ref S) >>= _) _ _ _;refine Fh (wpAny_seqItems hS rfl ?_);show wpAny _ X.A.in1 (tryCatch (pyNext (.ref IT)) _ >>= _) _ _ _;refine Fh (wpAny_tryCatch (W.item j _ _ _ (by rw[hlen];exact d5) ⟨hit,Qg _ Y6⟩ λv h' QJ hP Oe D6=>?_));obtain⟨k0,x0,L0,YL⟩:=hP;have ek:k0=Sum.inr ks[j]:=by
   have:=congrArg (λl=>l[j]?) QR;simp only[Bo,L0,AX d5] at this;exact Fx this
  subst ek;obtain⟨tv,rfl⟩:=mR YL;have IX:ks[j]∈ks:=BG d5;obtain⟨oI,SW,P6,J2⟩:=id Oe.1;have I1:Inv X pins σ H {s with heap:=h',toks:=QJ}:=fI.turn I λb o hb e=>D6 b o (by simpa using hb) e;have Lw:=D6 S _ (by simpa using FI Qj) hS
  have IP:=I1.pinned (fp:=[IT,S]) (λb hb=>by
   rcases Bb.mp hb with rfl|hb
   ·exact fI
   ·rw[AY.mp hb];exact fS) (λb hb=>by
   rcases Bb.mp hb with rfl|hb
   ·exact⟨oI,SW,λv e=>by rw[J2] at e;cases e⟩
   ·rw[AY.mp hb]; exact⟨_,Lw,λv e=>by cases e⟩)
  show wpAny _ X.A.in1 (tryCatch (holding [_] (call (.ref q) [_])) _ >>= _) _ _ _;refine Fh (wpAny_tryCatch (Ft (Fq (hq _ _ _ tv IP IX) (λx s2 he=>?_) λ_ _ hF=>hF.elim)));obtain⟨_,_,I2,r2,rfl,rfl⟩:=he;obtain⟨tn,rfl⟩:=r2;have pin:∀b o,b∈[IT,S]->h'.get? b=some o->s2.heap.get? b=some o:=λb o hb e=>by
   have m:(b,o)∈dg [IT,S] h':=DX.mpr ⟨b,hb,by rw[e];rfl⟩;exact(I2.pin (b,o) (Bc _ (Bc _ m))).1
  have Uz:=pin IT oI (.head _) SW;have Q2:=pin S _ (.tail _ (.head _)) Lw;have I3:=I2.Gm;show wpAny _ X.A.in1 (tryCatch (holding [_,.int (key ks[j]) tn] (richCompare .Lt (.int (key ks[j]) tn) (.int (key rb) ti) >>= _)) _ >>= _) _ _ _;refine Fh (wpAny_tryCatch (Ft (Fh (HT.Jc _ _ _ _ _ _ _ _ _ _ ?_))));refine Fh (Ft (wpAny_truthy_bool ?_));refine Fh (wpAny_letGo (Fi ?_));have Pe:ks.take (j+1)=ks.take j++[ks[j]]:=by rw[Bw,AX d5];rfl
  by_cases C7:key ks[j]<key rb
  ·have s1:=Heap.SameBut.update s2.heap S (Obj.mapSeq λ_=>#[.str ks[j] tv,.int (key ks[j]) tn]);obtain⟨c2,M4⟩:∃c2,(s2.heap.update S (Obj.mapSeq λ_=>#[.str ks[j] tv,.int (key ks[j]) tn])).get? S=some (seqObj "list" #[.str ks[j] tv,.int (key ks[j]) tn] c2):=⟨_,get?_update_seq Q2 λ_=>#[.str ks[j] tv,.int (key ks[j]) tn]⟩
   simp only[Fo C7,if_true];refine Fh ?_;refine wpAny_updateSeq Q2 rfl (Fh (wpAny_letGo ?_));rw[G9];refine Fi ⟨plainId_quiet PySem.F.plain_min_loop _,ih (j+1) _ _ tv tn c2 (by lia) d5 (fS.turn (t':=s2.toks) I3 λb o hb e=>by rw[s1.2 b hb];exact e) fI fS ⟨oI,(s1.2 IT Qj).trans Uz,P6,J2⟩ M4 IX (λk h=>?_) hR⟩;rw[Pe] at h;rcases Ba.mp h with h|h
   ·have:=Lv k h;lia
   ·rw[AY.mp h];exact Dk _
  ·simp only[Fp C7,BV,if_false];refine Fh (wpAny_letGo ?_);rw[G9];refine Fi ⟨plainId_quiet PySem.F.plain_min_loop _,ih (j+1) s2 rb tb ti c (by lia) d5 I3 fI fS ⟨oI,Uz,P6,J2⟩ Q2 W6 (λk h=>?_) hR⟩;rw[Pe] at h;rcases Ba.mp h with h|h
   ·exact Lv k h
   ·rw[AY.mp h];lia
end
inductive LW(X:Cx)(σ:St)(q:Addr)(xs:A9)(zs:A9)(H:Hp)(Q:VK):Prop
 |mk (d:Addr) (kvs:A6) (ks:List Str) (key:Str->Int):xs=[.ref d]->zs=[.ref q]->H d=some (.dK kvs)->kvs.map (·.1)=ks.map Sum.inr->ks≠[]->(∀o,yN X σ (upd H d (.j5 o (.dK kvs))) q key ks)->(∀k,k∈ks->(∀k'∈ks,key k<=key k')->Q (.str k) H)->LW X σ q xs zs H Q
theorem Ke:∀{kvs:A6}{vs:List (Key×Value)},KV kvs vs->vs.map (·.1)=kvs.map (·.1)
 |_,_,.nil=>rfl
 |_,_,.cons r t=>by rw[Bm,Bm,Ke t,r.1]
theorem jg{P:Program}{w:World}:∀{es:List DictEntry}{vs:List (Key×Value)},Pairs (aK P w) es vs->es.length=vs.length
 |_,_,.nil=>rfl
 |_,_,.cons _ _ t=>by rw[Bl,Bl,jg t]
theorem mU{X:Cx}{q:Addr}{pins:A5}{s:Shared}{σ:St}{H:Hp}{xs zs:A9}{us ws:A8}{Q:VK}(hc:X.calm=true)(I:Inv X pins σ H s)(r:Vals xs us)(rz:Vals zs ws)(h:LW X σ q xs zs H Q) :
  (wq X) (call (.builtin "min") us ((["key"]:List Str).zip ws)) (EP X pins σ Q) X.xe s:=by
 obtain⟨d,kvs,ks,key,rfl,rfl,hd,YN,k8,hK,h1⟩:=h;obtain⟨u,rfl,rx⟩:=cD r;cases rx;obtain⟨rfl⟩:ws=[.ref q]:=by
  cases rz with
  |cons a b=>cases b;cases a;rfl
 have G9:(toString "min"++toString ".loop":String)="min.loop":=by decide
 show (wq X) (call (.builtin "min") [.ref d] [("key",.ref q)]) _ _ s;obtain⟨hz,hm,vs,kv,o,es,ep,ho,hex,t7,hko,QU,hnd⟩:=I.b9 d _ hd;have QR:vs.map (·.1)=ks.map Sum.inr:=(Ke kv).trans YN;have Qg:∀h:Heap,h.get? d=some o->Heap.DictAt (aK X.prog X.w) h d vs ep:=λh e=>⟨o,es,e,hex,t7,hko,QU,hnd⟩
 have Y4:es.size=vs.length:=by rw[<- Bk];exact jg QU
 have hlen:vs.length=ks.length:=by have:=congrArg List.length QR;rw[AU,AU] at this;exact this
 have If:=I.freeze hd ho (λ_ z=>by cases z) (λ_ _ z=>by cases z) (λ_ z=>by cases z) (λ_ z=>by cases z);have Zg:=hK o;obtain⟨Hf,ZF⟩:∃Hf,Hf=upd H d (.j5 o (.dK kvs)):=⟨_,rfl⟩
 rw[<- ZF] at If Zg;have hDf:Hf d=some (.j5 o (.dK kvs)):=by rw[ZF];exact ae
 have back:∀(k:Str)(t:Tok)(s':Shared),k∈ks->(∀k'∈ks,key k<=key k')->Inv X pins σ Hf s'->EP X pins σ Q (.str k t) s':=λk t s' hk hb I'=>by
  rw[ZF] at I';exact⟨.str k,H,Inv.UW I hd (λ_ z=>by cases z) (λ_ _ z=>by cases z) (λ_ z=>by cases z) (λ_ z=>by cases z) I',⟨t,rfl⟩,h1 k hk hb⟩
 refine kmk_tree PySem.F.kind_min PySem.F.plain_min PySem.F.entry_min (kmk_min_key _ _) ?_;show wpAny _ X.A.in1 (Builtin.Builtins.bindParams "min" ["key","default"] 0 ⟨[],[("key",.ref q)]⟩ >>= _) _ _ s;refine Fh (wpAny_of_eq (show Builtin.Builtins.bindParams "min" ["key","default"] 0 ⟨[],[("key",.ref q)]⟩=pure [some (.ref q),none] from rfl) ?_);refine Fh (Fi ?_);refine Fh (gQ hm ho hex t7 ?_);refine Fh (wpAny_newList ?_ (Bj _));rw[G9];have hll:d<s.heap.objs.size:=Fv ho;obtain⟨oi,eoi⟩:∃oi:Obj,oi={cls:=.type "dict_keyiterator",data:=.fields #[.ref d,.int 0 0,.int es.size 0,.int ep 0]}:=⟨_,rfl⟩
 rw[<- eoi];have hS:(s.heap.push oi).objs.size=s.heap.objs.size+1:=size_push' ..;have hlI:d≠s.heap.objs.size:=Bf hll;have Qj:s.heap.objs.size≠(s.heap.push oi).objs.size:=by rw[hS];exact Bf (Cm _)
 refine Fi ⟨plainId_quiet PySem.F.plain_min_loop _,?_⟩;have K0:∀b o,s.heap.get? b=some o->((s.heap.push oi).push (seqObj "list" #[] 0)).get? b=some o:=λb x e=>FJ _ (FJ _ e);have gI:((s.heap.push oi).push (seqObj "list" #[] 0)).get? s.heap.objs.size=some oi:=FJ _ (FK _ (by rw[eoi];rfl));have gS:((s.heap.push oi).push (seqObj "list" #[] 0)).get? (s.heap.push oi).objs.size=some (seqObj "list" #[] 0):=FK _ rfl;have fI:GN X pins Hf s.heap.objs.size:=If.LX _ (AS _);have fS:GN X pins Hf (s.heap.push oi).objs.size:=If.LX _ (by rw[hS];exact Ck _);have I0:Inv X pins σ Hf {s with heap:=(s.heap.push oi).push (seqObj "list" #[] 0)}:=If.kept (t':=s.toks) K0;have YV:((s.heap.push oi).push (seqObj "list" #[] 0)).IsKeyIter s.heap.objs.size d 0 vs.length ep:=⟨oi,gI,by rw[eoi],by rw[eoi,<- Y4];rfl⟩
 have hd0:=K0 _ _ ho;generalize (s.heap.push oi).objs.size=S at *;generalize (s.heap.push oi).push (seqObj "list" #[] 0)=hh at *;have W:=Walks.dictKeys (knd:=aK X.prog X.w) (prog:=X.prog) (w:=X.w) (A:=X.A.in1) (I.ok.hd hc) s.heap.objs.size d hlI vs ep;refine codeAny_builtin PySem.F.entry_min_loop ?_;rw[Around.under_plainId PySem.F.plain_min_loop _];show wpAny _ X.A.in1 (seqItems? (.ref _) >>= _) _ _ _;refine Fh (wpAny_seqItems gS rfl ?_);show wpAny _ X.A.in1 (tryCatch (pyNext (.ref s.heap.objs.size)) _ >>= _) _ _ _;have d5:0<ks.length:=CK.mpr k8;refine Fh (wpAny_tryCatch (W.item 0 _ _ _ (by rw[hlen];exact d5) ⟨YV,Qg _ hd0⟩ λv h' QJ hP Oe D6=>?_));obtain⟨k0,x0,L0,YL⟩:=hP;have ek:k0=Sum.inr ks[0]:=by
  have:=congrArg (λl=>l[0]?) QR;simp only[Bo,L0,AX d5] at this;exact Fx this
 subst ek;obtain⟨tv,rfl⟩:=mR YL;have IX:ks[0]∈ks:=BG d5;obtain⟨oI,SW,P6,J2⟩:=id Oe.1;have I1:Inv X pins σ Hf {s with heap:=h',toks:=QJ}:=fI.turn (s:={s with heap:=hh}) I0 λb o hb e=>D6 b o (by simpa using hb) e;have Lw:=D6 S _ (by simpa using FI Qj) gS
 have IP:=I1.pinned (fp:=[s.heap.objs.size,S]) (λb hb=>by
  rcases Bb.mp hb with rfl|hb
  ·exact fI
  ·rw[AY.mp hb];exact fS) (λb hb=>by
  rcases Bb.mp hb with rfl|hb
  ·exact⟨oI,SW,λv e=>by rw[J2] at e;cases e⟩
  ·rw[AY.mp hb]; exact⟨_,Lw,λv e=>by cases e⟩)
 show wpAny _ X.A.in1 (tryCatch (holding [_] (call (.ref q) [_])) _ >>= _) _ _ _;refine Fh (wpAny_tryCatch (Ft (Fq (Zg _ _ _ tv IP IX) (λx s2 he=>?_) λ_ _ hF=>hF.elim)));obtain⟨_,_,I2,r2,rfl,rfl⟩:=he;obtain⟨tn,rfl⟩:=r2;have pin:∀b o,b∈[s.heap.objs.size,S]->h'.get? b=some o->s2.heap.get? b=some o:=λb o hb e=>by
  have m:(b,o)∈dg [s.heap.objs.size,S] h':=DX.mpr ⟨b,hb,by rw[e];rfl⟩;exact(I2.pin (b,o) (Bc _ (Bc _ m))).1
 have Uz:=pin _ oI (.head _) SW;have Q2:=pin S _ (.tail _ (.head _)) Lw;have I3:=I2.Gm;have s1:=Heap.SameBut.update s2.heap S (Obj.mapSeq λ_=>#[.str ks[0] tv,.int (key ks[0]) tn]);obtain⟨c2,M4⟩:∃c2,(s2.heap.update S (Obj.mapSeq λ_=>#[.str ks[0] tv,.int (key ks[0]) tn])).get? S=some (seqObj "list" #[.str ks[0] tv,.int (key ks[0]) tn] c2):=⟨_,get?_update_seq Q2 λ_=>#[.str ks[0] tv,.int (key ks[0]) tn]⟩
 show wpAny _ X.A.in1 (updateSeq S (λ_=>#[.str ks[0] tv,.int (key ks[0]) tn]) >>= _) _ _ _;refine Fh ?_;refine wpAny_updateSeq Q2 rfl ?_;rw[G9]
 refine Fi ⟨plainId_quiet PySem.F.plain_min_loop _,qm (pins:=pins) (σ:=σ) QR hDf Qg Zg hc Qj hlI _ 1 _ _ tv tn c2 rfl d5 (fS.turn (t':=s2.toks) I3 λb o hb e=>by rw[s1.2 b hb]; exact e) fI fS ⟨oI,(s1.2 _ Qj).trans Uz,P6,J2⟩ M4 IX (λk h=>?_)
  λk t s' a1 a2 a3=>back k t s' a1 a2 a3⟩
 have e:ks.take 1=[ks[0]]:=by rw[Bw,AX d5];rfl
 rw[e] at h;rw[AY.mp h];exact Dk _
def uT (y6:Pos)(q:Str)(P:Addr)(js:A7)(te:TE)(tl:TE):TE:=fun σ H Q=>tl σ H λx H1=>GR y6 q P H1/\∃(d:Addr)(kvs:A6)(ks:List Str)(key:Str->Int),x=.ref d/\H1 d=some (.dK kvs)/\kvs.map (·.1)=ks.map Sum.inr/\ks≠[] /\
 (∀H2 o k,j6 P H1 H2->k∈ks->te ([some (.str k)]++bY js σ) (upd H2 d (.j5 o (.dK kvs))) λv H'=>v=.int (key k)/\H'=upd H2 d (.j5 o (.dK kvs))) /\
 ∀k H2,k∈ks->(∀k'∈ks,key k<=key k')->j6 P H1 H2->GR y6 q P H2->Q (.str k) H2
theorem nO{X:Cx}{l body:Expr}{tl te:TE}{params:Arguments}{scope:Scope}{y6 kpos p pos:Pos}{c P:Addr}{q y:Str}{cap:List Str}{js:A7}(LK:Np X.K X.mg c P)(u7:X.env.code=.ref c)(hq:X.env.qual++"<lambda>"=q)(hd:defaultsOf params X.env=([],[]))(CS:FY X scope [y] cap js)
  (hy:scope.names.lookup y=some .local)(Zb:scope.isCoroutine=false)(z6:scope.isGenerator=false)(Jb:∀cl pm cd ct u,bindArgs (W.kla_fn "<lambda>" q params body scope cl pm cd ct) ⟨[u],[]⟩=pure [(y,u)])
  (hc:X.calm=true)(Tq:X.A.depth<recursionLimit)(hb:∀f c s H,PE (qB X X.A.in1 scope q f (.ref c) ([y]++cap) s H) body te)(hg:Gl X "min")(hm:X.mg "min"=none)(hv:bootBuiltins "min"=some (.builtin "min"))(hl:PE X l tl)
  (E2:(backToKw pos (keywordEach [⟨some "key",.Lambda params body scope y6,kpos⟩] X.env)).all (·.1.isSome)=true:=by rfl)(YN:(backToKw pos (keywordEach [⟨some "key",.Lambda params body scope y6,kpos⟩] X.env)).filterMap (·.1)=(["key"]:List Str):=by rfl)
  (he:starEach [l] X.env=(false,eval l X.env)::starEach [] X.env:=by rfl)
  (E8:((backTo pos (starEach [l] X.env)).any (·.1)||(backToKw pos (keywordEach [⟨some "key",.Lambda params body scope y6,kpos⟩] X.env)).any (·.1.isNone))=false:=by rfl) :
  PE X (.Call (.Name "min" p) [l] [⟨some "key",.Lambda params body scope y6,kpos⟩] pos) (uT y6 q P js te tl):=by
 intro pins s σ H Q I h;refine wpAny_Call_Name_kw (fJ I hg hm hv ?_ (by decide) (by decide));refine dC E8 ?_
 have hA:=(FU hl Ge he:PA X [l] (iE tl KH)) pos pins s σ H (λvs H1=>match vs with
  |[x]=>GR y6 q P H1/\∃(d:Addr)(kvs:A6)(ks:List Str)(key:Str->Int),x=.ref d/\H1 d=some (.dK kvs)/\kvs.map (·.1)=ks.map Sum.inr/\ks≠[] /\
    (∀H2 o k,j6 P H1 H2->k∈ks->te ([some (.str k)]++bY js σ) (upd H2 d (.j5 o (.dK kvs))) λv H'=>v=.int (key k)/\H'=upd H2 d (.j5 o (.dK kvs))) /\
    ∀k H2,k∈ks->(∀k'∈ks,key k<=key k')->j6 P H1 H2->GR y6 q P H2->Q (.str k) H2
  | _=>False) I h
 rw[he] at hA ⊢;refine evalArgs_kw E2 (c6 hA λus s1 Xq=>?_);obtain⟨vs,H1,I1,r1,q1⟩:=Xq;obtain⟨x,rfl⟩:∃x,vs=[x]:=by
  match vs,q1 with
  |[x],_=>exact⟨x,rfl⟩
 obtain⟨hL,d,kvs,ks,key,rfl,Uu,YM,k8,hte,Y2⟩:=q1;have Y9:d≠P:=by
  obtain⟨ps,hP,_⟩:=hL.ex;exact bB Uu hP (λz=>by cases z)
 have hkw:=(tY (nm:=some "key") (kpos:=kpos) (vB (body:=body) (pos:=y6) LK u7 hq hd CS) Mq) pos pins s1 σ H1 (λzs H2=>∃a,zs=[.ref a]/\LW X σ a [.ref d] zs H2 Q) I1 (by
  refine⟨hL,λa c' pm ct H' hn ha F6 hT hS=>⟨a,rfl,d,kvs,ks,key,rfl,rfl,hS d _ Y9 Uu,YM,k8,λo pins s k t I hk=>?_,λk hk z5=>Y2 k H' hk z5 hS hT⟩⟩;have na:a≠d:=bB ha (hS d _ Y9 Uu) (λz=>by cases z);have nc:c'≠d:=bB F6 (hS d _ Y9 Uu) (λz=>by cases z)
  exact rW (A:=X.A.in1) (x:=.str k) I.ok.frames Tq I CS hy Zb z6 (by rw[aj na]; exact ha) (by rw[aj nc]; exact F6) (Jb _ _ _ _ _) (hb _ _ _ _) ⟨t,rfl⟩ (hte H' o k hS hk))
 refine c6 hkw λws s2 Xp=>?_;obtain⟨zs,H2,I2,rz,q2⟩:=Xp;obtain⟨a,_,q2⟩:=q2;rw[YN];exact mU hc I2 r1 rz q2
theorem Px.okC{P:Program}{w:World}{K:W.Frag}{mg:Str->Option Value}{base:Heap}{x qual:Str}{st:Stmt}{f:Addr}{fd:FuncData}{N ps:List Str}{k:Nat}{sp:Sp}{c:Addr}(F:Px K x qual st f fd)(u7:fd.code=.ref c)(S:FX N ps (ar st))(len:∀vs H Q E,sp vs H Q E->vs.length=ps.length)
  (IY:∀(A:Around) (outer:List Env) (s:Shared) (H:Hp) (vs:A9) (Q:VK) (E:XK),Hu k (A.deeper (envOfC qual (ar st) s.heap.objs.size f (.ref c)))->sp vs H Q E ->
   ∃t,K6 (cj Ml P w K mg base N qual (ar st) f (.ref c) A outer s H E).Pb (bE st) t/\t { nx:=λ_ H'=>Q .f6 H',rt:=Q } (start N vs) H):Gf P w K mg base Ml (k+1) f fd ps sp:=by
 obtain⟨oc,od,kV,doc,pm,an,l6,ct,OK,rfl,lk,F6⟩:=F.ex;have e:l6=.ref c:=u7;subst e;refine wz lk F6 S len λA outer s H vs Q E hr Oz=>?_;obtain⟨t,h,q⟩:=IY A outer s H vs Q E hr Oz;exact⟨t,h.Pb,q⟩
end L2
namespace L2
open PySem PySem.Spec PyProof.Rows
def wH (T:Addr)(H:Hp):Prop:=∀b,b≠T->H b=none\/∃o xs,H b=some (.j5 o (.lst xs))
theorem nh{P:Program}{T c0:Addr}{ps:Array Value}{w:World}{K:W.Frag}{mg mb:Str->Option Value}{CX:M6}{k:Nat}{fa a:Addr}{fd:FuncData}{x:Str}{sp:Sp}{b7:Shared}{vs:A8}{ns:B3}
  (gT:b7.heap.get? T=some (W.tabObj ps))(kT:K.lookup T=none)(cT:W.CodeHd b7.heap c0 T)
  (KX:K.In b7.heap)(P8:b7.heap.Ns mainGlobals mg)(hb:b7.heap.Ns builtinsNs mb)(hbb:∀x:Str,x≠"__name__"->mb x=bootBuiltins x)(YK:b7.heap.NoLimit)(hg:b7.gens=#[])
  (ha:b7.heap.get? a=some {cls:=.type "list",data:=.seq vs.toArray})(hi:IntsAre vs ns)(hl:ns.length<=sizeLine)(hr:Hu k callerA)
  (F:∀base:Heap,K.In base->base.Ns mainGlobals mg->Gf P w K mg base CX k fa fd [x] sp)(Jb:∀(s:Shared)(u:Value),BindsTo s fd ⟨[u],[]⟩ [(x,u)])
  (Oz:∀H:Hp,H T=some (.B8 ps)->wH T H->a9 K H a (ns.map V.int)->sp [.ref a] H (λv _=>v=.bl true) λ_ _ _=>False)
  (Zj:∀H e s',CX [] H b7 (λ_ _ _=>False) e s'->False) :
  codeAny (model P w) callerA (.call (.ref fa) ⟨[.ref a],[]⟩) (λr s'=>r=.ok (.ret (.bool true))/\OldK b7.heap s'.heap/\s'.os=b7.os/\AllBare s'.gens) b7:=by
 have rv:=Iy hi;have WC:=hi.length;have aT:a≠T:=λz=>by rw[z,gT] at ha;cases ha
 have core:∀H:Hp,H T=some (.B8 ps)->wH T H->a9 K H a (ns.map V.int)->m6 P w H b7.heap->(∀b,H b≠none->b=a\/b=T)->(H a≠none->K.lookup a=none) ->
   codeAny (model P w) callerA (.call (.ref fa) ⟨[.ref a],[]⟩) (λr s'=>r=.ok (.ret (.bool true))/\OldK b7.heap s'.heap/\s'.os=b7.os/\AllBare s'.gens) b7:=by
  intro H hT hO hS b9 hA hK;have base_of:∀{b:Addr}{o:Obj},b7.heap.get? b=some o->H b=none->(rf b7.heap H).get? b=some o:=λe n=>sq e n;have Rx:∀{b:Addr}{o:Obj}{es:Array DictEntry}{ep:Nat},b7.heap.get? b=some o->o.data=.dict es ep->H b=none:=λ{b o es ep} e d=>by
   cases q:H b with
   |none=>rfl
   |some u=>
    rcases hA b (by rw[q];simp) with e'|e'
    ·subst e';rw[ha] at e;cases e;have d':Data.seq vs.toArray _=Data.dict es ep:=d;cases d'
    ·subst e';rw[gT] at e;cases e;have d':Data.fields ps=Data.dict es ep:=d;cases d'
  have Ud:∀{b:Addr}{m:Str->Option Value},b7.heap.Ns b m->(rf b7.heap H).Ns b m:=λ{b m} ⟨o,es,ep,e,d,r⟩=>⟨o,es,ep,base_of e (Rx e d),d,r⟩
  have hKb:K.In (rf b7.heap H):=λb o e=>base_of (KX b o e) (by
   cases q:H b with
   |none=>rfl
   |some u=>
    rcases hA b (by rw[q];simp) with e'|e'
    ·subst e';rw[hK (by rw[q];simp)] at e;cases e
    ·subst e'
     rw[kT] at e; cases e)
  have hM:Mod K mg (rf b7.heap H):=⟨hKb,Ud P8,⟨mb,Ud hb,hbb⟩,let ⟨mc,h1,h2⟩:=YK;⟨mc,Ud h1,h2⟩⟩
  have e0:Nm P w K mg (rf b7.heap H) callerA [] b7 H:=⟨rfl,hM,λb o e=>uK e,DJ (nJ _ _),trivial,λb hb=>absurd (show b∈([]:B2) from hb) (by simp),b9,.of_eq hg⟩
  refine codeAny_mono ((F _ hKb (Ud P8)).run callerA [] b7 H ⟨[.ref a],[]⟩ [.ref a] [.ref a] _ _ hr e0 (Jb b7 (.ref a)) (.cons rfl .nil) (Oz H hT hO hS)) λr s' h=>?_;cases r with
  |error e=>exact(Zj H e s' h).elim
  |ok fl=>
   cases fl with
   |next=>exact False.elim h
   |brk=>exact False.elim h
   |cont=>exact False.elim h
   |ret u=>
    obtain⟨v,H',os,bare,un,SV,r',q⟩:=h;have q':v=.bl true:=q;subst q';obtain rfl:u=Value.bool true:=r';have key:∀b o,b7.heap.get? b=some o->b≠T->s'.heap.get? b=some o:=λb o e nT=>by
     cases q:H b with
     |none=>exact un.keep b o e q (by intro z;exact absurd (show b∈([]:B2) from z) (by simp)) (by simp)
     |some u=>
      rcases hO b nT with z|⟨ob,xs,z⟩
      ·rw[q] at z;cases z
      ·have z2:=un.JL b ob _ z;obtain⟨e1,_⟩:=b9 b _ z;obtain⟨e2,_⟩:=SV b _ z2;rw[e] at e1;cases e1;exact e2
    obtain⟨more,zT⟩:=un.JK T ps hT;have gT':s'.heap.get? T=some {cls:=.none,data:=.fields (ps++more)}:=SV T _ zT;obtain⟨oc,vc,_,_,_,_,_,_,_,c1,c2,c3,c4,_⟩:=cT;refine⟨rfl,⟨λb o e=>?_,λb o e=>?_⟩,os,bare⟩
    ·by_cases nT:b=T
     ·subst nT;rw[gT] at e;cases e;exact .inr (.inl ⟨⟨c0,oc,vc,c1,c2,c3,c4⟩,rfl,ps,more,rfl,gT'⟩)
     ·exact .inl (key b o e nT)
    ·by_cases nT:b=T
     ·subst nT;exact⟨_,gT'⟩
     ·exact⟨o,key b o e nT⟩
 cases hk:K.lookup a with
 |some o=>
  have e:=KX a o hk;rw[ha] at e;cases e;refine core (λb=>if b=T then some (.B8 ps) else none) (Fn rfl) (λb nb=>.inl (Fm nb)) (.inr ⟨_,vs.toArray,_,hk,rfl,rfl,rfl,by rw[Br,WC];exact hl,by simpa using rv⟩) (λb u z=>?_) (λb z=>?_) λz=>absurd (Fm aT) z
  ·by_cases hb:b=T
   ·have z':=(Fn hb).symm.trans z;cases z';subst hb;exact gT
   ·have z':=(Fm hb).symm.trans z;cases z'
  ·by_cases hb:b=T
   ·exact .inr hb
   ·exact absurd (Fm hb) z
 |none=>
  refine core (λb=>if b=T then some (.B8 ps) else if b=a then some (.j5 {cls:=.type "list",data:=.seq vs.toArray} (.lst (ns.map V.int))) else none) (Fn rfl) (λb nb=>?_) (.inl (.inr ⟨{cls:=.type "list",data:=.seq vs.toArray},(Fm aT).trans (Fn rfl)⟩)) (λb u z=>?_) (λb z=>?_) λ_=>hk
  ·by_cases hb:b=a
   ·exact .inr ⟨_,_,(Fm nb).trans (Fn hb)⟩
   ·exact .inl ((Fm nb).trans (Fm hb))
  ·by_cases hT:b=T
   ·have z':=(Fn hT).symm.trans z;cases z';subst hT;exact gT
   ·by_cases hb:b=a
    ·have z':=((Fm hT).trans (Fn hb)).symm.trans z;cases z';subst hb;exact⟨ha,by rw[AU];exact hl,vs,_,rv,ha⟩
    ·have z':=((Fm hT).trans (Fm hb)).symm.trans z;cases z'
  ·by_cases hT:b=T
   ·exact .inr hT
   ·by_cases hb:b=a
    ·exact .inl hb
    ·exact absurd ((Fm hT).trans (Fm hb)) z
theorem KJ{l:W.OpenLaw}{n k:Nat}{q:Program}{loose:List Str}{XP:(Str->Option Value)->Heap->Prop}{YP:World->Heap->Prop}{d:DefRec}{K KF:Params->W.Frag}{CX:World->M6}{sp:World->Sp}{x:Str}{T c0:Addr}{ps:Array Value}
  (hn:l.most=some n)(Us:n<=sizeLine)(Tr:d.params.defaults=[])(hr:Hu k callerA)
  (hY:∀(w:World)(h:Heap),YP w h->(KF w.params).In h)(Tv:∀(p:Params)(h:Heap),(KF p).In h->(K p).In h/\h.get? T=some (W.tabObj ps)/\W.CodeHd h c0 T)(kT:∀p:Params,(K p).lookup T=none)
  (F:∀(w:World) (mg:Str->Option Value) (fa:Addr) (h:Heap),(K w.params).In h->h.Ns mainGlobals mg->mg d.name=some (.ref fa) ->
   ∃fd:FuncData,(∀(s:Shared)(u:Value),BindsTo s fd ⟨[u],[]⟩ [(x,u)]) /\
    ∀base:Heap,(K w.params).In base->base.Ns mainGlobals mg->Gf l.prog w (K w.params) mg base (CX w) k fa fd [x] (sp w))
  (Oz:∀(w:World)(H:Hp)(a:Addr)(ns:B3),ns.length<=n->H T=some (.B8 ps)->a9 (K w.params) H a (ns.map V.int)->sp w [.ref a] H (λv _=>v=.bl true) λ_ _ _=>False)
  (Zj:∀(w:World)(H:Hp)(s:Shared)(e:Value)(s':Shared),CX w [] H s (λ_ _ _=>False) e s'->False) :
  W.WalkO q loose XP YP l.row.toRowW d [] (λf vs=>PySem.call f vs):=by
 refine Att.IV hn Tr λw s₀ b7 mg mb fa o pm cd doc a vs ns G Y ho hd F6 SY P7 hints hlen hg=>?_;obtain⟨KX,gT,cT⟩:=Tv _ _ (hY w _ Y);obtain⟨fd,hb,hF⟩:=F w mg fa _ KX G.T.g SY;exact nh gT (kT _) cT KX G.T.g G.T.b G.T.builtins G.T.nolimit hg P7 hints (Bh hlen Us) hr hF hb (λH hT hO hS=>Oz w H a ns hlen hT hS) λH e s'=>Zj w H b7 e s'
section
variable {X:Cx}{scope:Scope}{ts cap:List Str}{js:A7}{j0 i9 elt c7 b8:Expr}{i1 f7:List Expr}{pos:Pos}
theorem qX{wi:TI}{g:TG}{tc:TT}{u4:TI}{g1:TG}{o7:TT}{te:TE}{i:Nat}{y:Str}{py N1:Pos}(hc:X.calm=true)(CS:FY X scope ts cap js)(hi:PI X j0 c7 wi)(hg:∀C fp s H,PG (au X scope C fp (ts++cap) s H) j0 g)
  (ht:∀C fp s H,K5 (au X scope C fp (ts++cap) s H) i1 tc)(Oi:∀C fp s H,PI (au X scope C fp (ts++cap) s H) i9 b8 u4)
  (Tn:∀C fp s H,PG (au X scope C fp (ts++cap) s H) i9 g1)(RP:∀C fp s H,K5 (au X scope C fp (ts++cap) s H) f7 o7)(he:∀C fp s H,PE (au X scope C fp (ts++cap) s H) elt te)
  (hN:X.N.Nodup)(hy:X.N[i]?=some y)(hx:Loc X.env.scope y)(WW:swapsWith (.ListComp elt [⟨j0,c7,i1,0⟩,⟨i9,b8,f7,0⟩] scope pos) (some (.Name y py)) N1.line X.env=pure true)
  (Ll:∀C x,foldedSetIterable b8 (compEnvC scope (cS X.env.cells scope.names []) C X.env) x=pure x:=by intro _ _;rfl)
  (hs:∀x,foldedSetIterable c7 X.env x=pure x:=by intro _;rfl)(hf:X.fn y=true\/X.env.scope.names.lookup y=some .local:=by first|exact .inl rfl|exact .inr rfl|assumption) :
  PS X (.Assign [.Name y py] (.ListComp elt [⟨j0,c7,i1,0⟩,⟨i9,b8,f7,0⟩] scope pos) N1) (vF (xr wi ts.length js g tc u4 g1 o7 te) i):=by
 intro pins s σ H D I h;rw[exec_Assign_Name_used _ _ _ _ WW];refine Fh (wpAny_standAt (Fh ?_));show wpAny _ X.A (do let _ <- comprehension (.ListComp elt [⟨j0,c7,i1,0⟩,⟨i9,b8,f7,0⟩] scope pos) scope X.env _ (newList []) false (eval c7 X.env) (some (assign (.Name y py) X.env))) _ _ s
 refine Fh (Fq (wpAny_comprehension_free (use:=some (assign (.Name y py) X.env)) (Q:=λ_ s'=>SP X pins D .next s') rfl hs (bp (CS.cells I.ok)) CS.kind CS.names
  (c6 (hi pins s σ H _ I h) λv s1 h1=>c6 h1 λN7 s2 h2=>?_)) (λ_ s' hq=>Fi (Fi hq)) λ_ _ e=>e)
 obtain⟨it,fp,tn,J,H2,e,I2,T,c9,f2,W,⟨m0,w0⟩,turn⟩:=h2;subst e;refine fz (c:=false) (RR:=λacc C=>compPost (model X.prog X.w) X.A X.xe (some (assign (.Name y py) X.env)) (λ_ s'=>SP X pins D .next s') acc C) hc I2 T c9 f2 CS hg ht Oi Tn RP he Ll w0 turn ?_;rintro D' C s' H' c5 ys m o I0 ⟨a7,n,rfl,hv⟩ hz hn hC hD Oo fin;have I':=iG I2 f2 hC hD I0 hv hz;have OW:=I0.free;have Tx:=(I0.pin (D',uY a7 n) (Bc _ AZ)).2.1;have OI:=I2.lt;have low:∀b o,s2.heap.get? b=some o->b≠C:=λb o e=>Bf (Bq (Fv e) hC);have Qm:X.env.locals≠C:=Bf (Bq OI hC);have m9:∀x c,X.env.cells.lookup x=some c->c≠C:=λx c e=>by
  obtain⟨v,o,ho,_⟩:=I2.cell x c e;exact low c o ho
 show wpAny _ X.A (assign (.Name y py) X.env (.ref D')) _ _ _;refine wpAny_assign_Name (fA (v:=.ref D') I' hN hy hx rfl (λRk ZV J3=>?_) hf);obtain⟨a,QS,ha⟩:=J3;have Zi:C≠a:=by
  rcases ha with z|z
  ·rw[z];exact FI Qm
  ·exact FI (m9 _ _ z)
 refine⟨m,hn.sameBut QS Zi,λh' vx=>⟨_,_,cL (n0:=0) ZV (Heap.get?_none_of_le (Bh I2.sz hC)) Qm m9 (λp hp=>low _ _ (I2.pin p hp).1) (by rw[aj Oo];exact OW) vx,fin D' Tx⟩⟩
end
def UZ (t:TS):TS:=λD σ H=>∃M:St->Hp->Prop,t {D with nx:=M} σ H/\∀c5 H',M c5 H'->D.nx c5 H'
theorem eX{X:Cx}{st:Stmt}{t:TS}(h:PS X st t):PS X st (UZ t):=by
 intro pins s σ H D I hw;obtain⟨M,h1,h2⟩:=hw;refine Fq (h pins s σ H {D with nx:=M} I h1) (λfl s' hs=>?_) λ_ _ e=>e;cases fl with
 |next=>
  obtain⟨c5,H',J,q⟩:=hs;exact⟨c5,H',J,h2 c5 H' q⟩
 |ret u=>exact hs
 |brk=>exact hs
 |cont=>exact hs
def yp (t:TE):TE:=fun σ H Q=>∃M:VK,t σ H M/\∀v H',M v H'->Q v H'
theorem wy{X:Cx}{e:Expr}{t:TE}(h:PE X e t):PE X e (yp t):=by
 intro pins s σ H Q I hw;obtain⟨M,h1,h2⟩:=hw;refine Fq (h pins s σ H M I h1) (λv s' Xo=>?_) λ_ _ e=>e;obtain⟨x,H',J,r,q⟩:=Xo;exact⟨x,H',J,r,h2 x H' q⟩
section
variable {X:Cx}{scope:Scope}{ts cap:List Str}{js:A7}{tg elt iter:Expr}{ifs:List Expr}{pos:Pos}{wi:TI}{g:TG}{tc:TT}{te:TE}
abbrev JF:=St->Hp->(List Str->Hp->Prop)->Prop
def tO (X:Cx)(e:Expr)(t:JF):Prop:=
 ∀(pins:A5)(s:Shared)(σ:St)(H:Hp)(Q:List Str->Hp->Prop),Inv X pins σ H s->t σ H Q ->
  (wq X) (eval e X.env) (λv s'=>∃D o ys H',v=.ref D/\Inv X pins σ H' s'/\s'.heap.get? D=some o/\IA X.prog X.w (fU X.w) o ys/\(j3 ys).length<scanBound/\Q ys H') X.xe s
def tH (J:It)(k:Nat)(js:A7)(g:TG)(tc:TT)(te:TE)(σ:St)(H1:Hp)(Q:List Str->Hp->Prop):Prop:=
 ∃W:Nat->Nat->List Str->Hp->Prop,(∃m,W 0 m [] H1)/\∀i m ys H,W i m ys H ->
  (J.stop i H/\ys.length<=4000/\Q ys H) \/
  (J.go i H/\ys.length<4000/\∀x H',J.D8 i H x H'->g x (List.replicate k none++bY js σ) H' fun c8 H2=>tc c8 H2 λb H3=>if b=true then te c8 H3 λy H4=>∃z,y=.str z/\∃m',m'<m/\W (i+1) m' (z::ys) H4 else ∃m',m'<m/\W (i+1) m' ys H3)
def xY (wi:TI)(k:Nat)(js:A7)(g:TG)(tc:TT)(te:TE):JF:=fun σ H Q=>wi σ H λJ H1=>tH J k js g tc te σ H1 Q
theorem oD(hc:X.calm=true)(CS:FY X scope ts cap js)(hi:PI X tg iter wi)(hg:∀C fp s H,PG (au X scope C fp (ts++cap) s H) tg g)
  (ht:∀C fp s H,K5 (au X scope C fp (ts++cap) s H) ifs tc)(he:∀C fp s H,PE (au X scope C fp (ts++cap) s H) elt te)
  (hs:∀x,foldedSetIterable iter X.env x=pure x:=by intro _;rfl):tO X (.SetComp elt [⟨tg,iter,ifs,0⟩] scope pos) (xY wi ts.length js g tc te):=by
 intro pins s σ H Q I h;refine wpAny_comprehension_free (e:=.SetComp elt [⟨tg,iter,ifs,0⟩] scope pos) (use:=none) rfl hs (bp (CS.cells I.ok)) CS.kind CS.names (c6 (hi pins s σ H _ I h) λv s1 h1=>c6 h1 λN7 s2 h2=>?_);obtain⟨it,fp,tn,J,H2,e,I2,T,c9,f2,W,⟨m0,w0⟩,turn⟩:=h2;subst e;refine fD (c:=true) (Fin:=λys H=>Q ys H/\(j3 ys).length<scanBound) (RR:=λacc C=>compPost (model X.prog X.w) X.A X.xe none (λv s'=>∃D o ys H',v=.ref D/\Inv X pins σ H' s'/\s'.heap.get? D=some o/\IA X.prog X.w (fU X.w) o ys/\(j3 ys).length<scanBound/\Q ys H') acc C) I2 ⟨T.obj,T.keep,T.self⟩ (λC=>⟨T.item (au X scope C fp (ts++cap) s2 H2) rfl rfl rfl hc,T.done (au X scope C fp (ts++cap) s2 H2) rfl rfl rfl hc⟩) c9 f2 CS hg ht he w0 (λi m ys H' w=>(turn i m ys H' w).imp (λXn=>by obtain⟨a,b,c⟩:=Xn;exact⟨a,b,c,Cf (Bh (HN ys) b) (show 4000<scanBound by decide)⟩) id) ?_;intro D C s' H' c5 ys m o I' Lw hz hn hC hD Oo fin;have OW:=I'.free;have Zh:=(I'.pin (D,o) (Bc _ AZ)).1;have OI:=I2.lt;have low:∀b o,s2.heap.get? b=some o->b≠C:=λb o e=>Bf (Bq (Fv e) hC);refine⟨m,hn,λh' vx=>⟨D,o,ys,H',rfl,cL (n0:=0) (fY I2 f2 I') (Heap.get?_none_of_le (Bh I2.sz hC)) (Bf (Bq OI hC)) (λx c e=>?_) (λp hp=>?_) OW vx,vx.extBut _ _ (FI Oo) Zh,Lw,fin.2,fin.1⟩⟩
 ·obtain⟨v,o,ho,_⟩:=I2.cell x c e;exact low c o ho
 ·exact low _ _ (I2.pin p hp).1
end
theorem Gy:Slot "set_iterator" "__next__" "set_iterator.__next__":=.of (owner:="set_iterator") (n:="__next__") (by rw[typeLookup_type,builtinLookup_eq_fast];kernel_rfl) (by decide +kernel) (by decide +kernel) (by decide +kernel) (by first|exact .inl (by decide +kernel)|exact .inr (by decide +kernel)) (by rw[isSubtype_type];kernel_rfl)
theorem Ht:entryFor table "set_iterator.__next__"=some Builtin.«set_iterator.__next__»:=entryFor_of_tree (by kernel_rfl)
theorem IW:entryFor table "set.__iter__"=some Builtin.«frozenset.__iter__»:=entryFor_alias (id':="frozenset.__iter__") (by kernel_rfl) rfl (by decide +kernel) (by kernel_rfl)
theorem iA(a:Value):argsOk "set_iterator.__next__" ⟨[a],[]⟩:=by unfold argsOk;kernel_rfl
abbrev E7(first:Value)(i:Nat)(D:Addr)(n ep:Nat):Obj:={cls:=.type "set_iterator",data:=.fields #[first,rawInt i,.ref D,rawInt n,rawInt ep]}
section
variable {prog:Program}{w:World}{A:Around}{E:A3}{s:Shared}{a:Addr}{o:Obj}{ys:List Str}
theorem dS{α:Type}:∀(l:List α)(i:Nat)(h:i<l.length),(l[i]::l.eraseIdx i).Perm l
 |x::xs,0,_=>.refl _
 |x::xs,i+1,h=>(List.Perm.swap x (xs[i]'(Nat.lt_of_succ_lt_succ h)) (xs.eraseIdx i)).trans ((dS xs i (Nat.lt_of_succ_lt_succ h)).cons x)
theorem lV{M:Model}{src:Source}{n:Nat}{Q:Nat->Shared->Prop}(hn:n≠0)(h:∀i d,i<n->Q i {s with drawn:=d}):wpAny M A (choose src n) Q E s:=fun Γ p _=>⟨hn,h _ _ (Nat.mod_lt _ (Nat.pos_of_ne_zero hn))⟩
theorem fX{α:Type}:∀(n:Nat)(xs:List α)(s:Shared)(Q:List α->Shared->Prop),xs.length=n->(∀ys d,ys.Perm xs->Q ys {s with drawn:=d})->wpAny (model prog w) A (drawOrder n xs) Q E s
 |0,xs,s,Q,hl,h=>by
  rw[BM.mp hl];have:=h [] s.drawn (by rw[BM.mp hl]);exact Fi this
 |n+1,[],s,Q,hl,h=>by cases hl
 |n+1,x::xs,s,Q,hl,h=>by
  show wpAny _ _ (choose .order (x::xs).length >>= _) _ _ _;refine Fh (lV (by simp) λi d hi=>?_);rw[AX hi];refine Fh (fX n ((x::xs).eraseIdx i) _ _ (by rw[Fc hi,hl];rfl) λys d' hy=>?_);refine Fi (h _ _ ?_);exact(hy.cons _).trans (dS _ i hi)
theorem rT{es:Array (Int×Value)}{ep:Nat}{t:SetTable}{Q:A3}(ho:s.heap.get? a=some o)(hex:o.ExactSet)(hd:o.data=.set es ep t)(hf:t.fits es.size=true)(hz:es.size<=sizeLine)
  (hA:(w.params.followText "set-order"=true\/t.plain=true\/es.size<=1)->Q (.ref s.heap.objs.size) {s with heap:=s.heap.push (E7 (rawInt 0) 0 a es.size ep)})
  (hB:w.params.followText "set-order"=false->t.plain=false->1<es.size->∀(ps:A7) d,ps.Perm (List.range es.size)->Q (.ref (s.heap.objs.size+1)) {s with heap:=(s.heap.push (seqObj "tuple" (ps.map λi=>rawInt (i:Nat)).toArray 0)).push (E7 (.ref s.heap.objs.size) 0 a es.size ep),drawn:=d}) :
  wpAny (model prog w) A (pyIter (.ref a)) Q E s:=by
 have hT:s.TypeIs (.ref a) "set":=⟨o,ho,hex.1⟩
 refine wpAny_pyIter_slot hT F.slot_set_iter (FP F.slot_set_iter hT IW ?_ (F.args_set_iter_1 _));unfold Builtin.«frozenset.__iter__» Builtin.Frozenset.slot0 Builtin.Frozenset.sizeOf Builtin.Frozenset.addrOf setDrawn setEpoch setEntries setsByText;refine Fh (Fh (Fi (Fi ?_)));refine Fh (Fh (Fh (FH ho hd hf (Fi (Fi ?_)))));refine Fh (Fh (FH ho hd hf (Fh (Fh (wpAny_askSetting (Fi (Fi ?_)))))));dsimp only;split
 ·rename_i hc;have h2:(!w.params.followText "set-order" && (!t.plain&&decide (es.size>1)))=true:=hc;rw[BQ,BQ,decide_eq_true_eq] at h2;obtain⟨h3,h4,h5⟩:=h2;refine Fh (fX _ _ _ _ BX λps d hp=>?_);refine Fh (wpAny_newTuple ?_ (by rw[AU,hp.length_eq,BX];exact hz));refine Fh (Fh (FH (FJ _ ho) hd hf (Fi ?_)));refine Fh (wpAny_newObj_type (Fi ⟨_,rfl,"set_iterator",_,⟨_,FK _ rfl,rfl⟩,Gy.lookup,?_⟩));have:=hB (by cases q:w.params.followText "set-order" with|false=>rfl|true=>rw[q] at h3;cases h3) (by cases q:t.plain with|false=>rfl|true=>rw[q] at h4;cases h4) h5 ps d hp;rw[show s.heap.objs.size+1=(s.heap.push (seqObj "tuple" (ps.map λi=>rawInt (i:Nat)).toArray 0)).objs.size by rw[FQ]] at this;exact this
 ·rename_i hc;have h2:¬(!w.params.followText "set-order" && (!t.plain&&decide (es.size>1)))=true:=hc;refine Fh (Fi (Fh (Fh (FH ho hd hf (Fi ?_)))));refine Fh (wpAny_newObj_type (Fi ⟨_,rfl,"set_iterator",_,⟨_,FK _ rfl,rfl⟩,Gy.lookup,hA ?_⟩));by_cases h3:w.params.followText "set-order"=true
  ·exact .inl h3
  ·by_cases h4:t.plain=true
   ·exact .inr (.inl h4)
   ·refine .inr (.inr (DY λh5=>h2 ?_));rw[DM.mpr h3,DM.mpr h4,Fo h5];rfl
theorem mx{I D Pl:Addr}{ps:A7}{i p n ep:Nat}{es:Array (Int×Value)}{t:SetTable}{e:Int×Value}{Q:Option Value->Shared->Prop}(hI:s.heap.get? I=some (E7 (.ref Pl) i D n ep))(hP:s.heap.get? Pl=some (seqObj "tuple" (ps.map λi=>rawInt (i:Nat)).toArray 0))(ho:s.heap.get? D=some o)(hd:o.data=.set es ep t)(hf:t.fits es.size=true)(hn:es.size=n)(hi:ps[i]?=some p)(he:es[p]?=some e)
  (hQ:∀h',Heap.SameBut I s.heap h'->h'.get? I=some (E7 (.ref Pl) (i+1) D n ep)->Q (some e.2) {s with heap:=h'}):wpAny (model prog w) A (pyNext (.ref I)) Q E s:=by
 have hT:s.TypeIs (.ref I) "set_iterator":=⟨_,hI,rfl⟩
 unfold pyNext;refine Fh (FO (wpAny_callSpecial?_slot (name:=Str.ofString "__next__") hT Gy (FP Gy hT Ht ?_ (iA _))));unfold Builtin.«set_iterator.__next__» setEntries;refine Fh (Fi ?_);refine Fh (wpAny_fieldsOf hI rfl ?_);refine Fh (Fh (FH ho hd hf (Fi ?_)));dsimp only;rw[Fm (by rw[hn];simp)];have E8:(ps.map λi=>rawInt (i:Nat)).toArray[((i:Nat):Int).toNat]?=some (rawInt (p:Nat)):=by rw[BK,Dc,Bo,hi];rfl
 refine Fh (wpAny_seqItems hP rfl ?_);dsimp only;rw[E8];show wpAny _ _ (setNextDrawn D ((p:Nat):Int).toNat ((ep:Nat):Int).toNat >>= _) _ _ _;rw[BK,BK];unfold setNextDrawn;refine Fh (Fh (FH ho hd hf ?_));dsimp only;rw[Fm (by simp),he];refine Fi ?_;refine Fh (wpAny_setField hI rfl (by simp) ?_);refine Fi ⟨_,rfl,Fi (hQ _ (Heap.SameBut.update ..) ?_)⟩;exact Heap.get?_update_self (Obj.mapFields (·.setIfInBounds 1 (rawInt ((i:Nat)+1)))) hI rfl
theorem jm{F:PySem.Fin->Shared->Prop}{Q:Option Value->Shared->Prop}(hh:A.handled=none)(hQ:∀h',(∀b u,s.heap.get? b=some u->h'.get? b=some u)->Q none {s with heap:=h'}) :
  wpAny (model prog w) A.in1 (newExc (.type "StopIteration") [] >>= λe=>raiseNew e) F (λe s'=>wpAny (model prog w) A (isInstance e (.type "StopIteration") >>= λb=>if b=true then pure none else throw e) Q E s') s:=by
 refine Fh ?_;simp only[newExc,newTuple];refine Fh (wpAny_newObj_type (Fh (m:=firstArgMember _ _) (wpAny_of_eq (a:=Value.none) (by first|rfl|(simp only[firstArgMember];rfl)) (wpAny_newObj_type ?_ (by size_fits)))) (by size_fits));simp only[raiseNew];refine Fh (wpAny_handled ?_);rw[show A.in1.handled=none from hh];refine Fh (Fi (wpAny_throw ?_));refine Fh (wpAny_isInstance (T:="StopIteration") (b:=true) ⟨_,FK _ rfl,rfl⟩ isSubtype_stop (Fi (hQ _ λb u e=>?_)));exact FJ _ (FJ _ e)
theorem mY{I D Pl:Addr}{ps:A7}{i n ep:Nat}{es:Array (Int×Value)}{t:SetTable}{Q:Option Value->Shared->Prop}(hh:A.handled=none)(hI:s.heap.get? I=some (E7 (.ref Pl) i D n ep))(hP:s.heap.get? Pl=some (seqObj "tuple" (ps.map λi=>rawInt (i:Nat)).toArray 0))(ho:s.heap.get? D=some o)(hd:o.data=.set es ep t)(hf:t.fits es.size=true)(hn:es.size=n)(hi:ps[i]?=none)
  (hQ:∀h',(∀b u,b≠I->s.heap.get? b=some u->h'.get? b=some u)->Q none {s with heap:=h'}):wpAny (model prog w) A (pyNext (.ref I)) Q E s:=by
 have hT:s.TypeIs (.ref I) "set_iterator":=⟨_,hI,rfl⟩
 unfold pyNext;refine Fh (FO (wpAny_callSpecial?_slot (name:=Str.ofString "__next__") hT Gy (FP Gy hT Ht ?_ (iA _))));unfold Builtin.«set_iterator.__next__» setEntries;refine Fh (Fi ?_);refine Fh (wpAny_fieldsOf hI rfl ?_);refine Fh (Fh (FH ho hd hf (Fi ?_)));dsimp only;rw[Fm (by rw[hn];simp)];have E8:(ps.map λi=>rawInt (i:Nat)).toArray[((i:Nat):Int).toNat]?=none:=by rw[BK,Dc,Bo,hi];rfl
 refine Fh (wpAny_seqItems hP rfl ?_);dsimp only;rw[E8];dsimp only;refine Fh (wpAny_setField hI rfl (by simp) ?_);have h1:=Heap.get?_update_self (Obj.mapFields (·.setIfInBounds 0 (rawInt 0))) hI rfl;refine Fh (wpAny_setField h1 rfl (by simp) ?_);refine jm hh λh' hk=>?_;refine hQ h' λb u nb e=>hk b u ?_;exact(Heap.SameBut.update _ I _).extBut b u nb ((Heap.SameBut.update _ I _).extBut b u nb e)
theorem je{I D:Addr}{i n ep slot nxt:Nat}{x:Value}{es:Array (Int×Value)}{t:SetTable}{Q:Option Value->Shared->Prop}(hI:s.heap.get? I=some (E7 (rawInt (slot:Nat)) i D n ep))(ho:s.heap.get? D=some o)(hd:o.data=.set es ep t)(hf:t.fits es.size=true)(hn:es.size=n)
  (hx:∀(B:Around)(E':A3)(Q':Option (Value×Nat)->Shared->Prop),Q' (some (x,nxt)) s->wpAny (model prog w) B (setNext D slot i ep) Q' E' s)
  (hQ:∀h',Heap.SameBut I s.heap h'->h'.get? I=some (E7 (rawInt (nxt:Nat)) (i+1) D n ep)->Q (some x) {s with heap:=h'}):wpAny (model prog w) A (pyNext (.ref I)) Q E s:=by
 have hT:s.TypeIs (.ref I) "set_iterator":=⟨_,hI,rfl⟩
 unfold pyNext;refine Fh (FO (wpAny_callSpecial?_slot (name:=Str.ofString "__next__") hT Gy (FP Gy hT Ht ?_ (iA _))));unfold Builtin.«set_iterator.__next__» setEntries;refine Fh (Fi ?_);refine Fh (wpAny_fieldsOf hI rfl ?_);refine Fh (Fh (FH ho hd hf (Fi ?_)));dsimp only;rw[Fm (by rw[hn];simp)];show wpAny _ _ (setNext D ((slot:Nat):Int).toNat ((i:Nat):Int).toNat ((ep:Nat):Int).toNat >>= _) _ _ _;rw[BK,BK,BK];refine Fh (hx _ _ _ ?_);dsimp only;refine Fh (wpAny_setField hI rfl (by simp) ?_);have h1:=Heap.get?_update_self (Obj.mapFields (·.setIfInBounds 0 (rawInt (nxt:Nat)))) hI rfl;refine Fh (wpAny_setField h1 rfl (by simp) ?_);refine Fi ⟨_,rfl,Fi (hQ _ ((Heap.SameBut.update ..).trans (Heap.SameBut.update ..)) ?_)⟩;exact Heap.get?_update_self (Obj.mapFields (·.setIfInBounds 1 (rawInt ((i:Nat)+1)))) h1 rfl
theorem kJ{I D:Addr}{i n ep slot:Nat}{es:Array (Int×Value)}{t:SetTable}{Q:Option Value->Shared->Prop}(hh:A.handled=none)(hI:s.heap.get? I=some (E7 (rawInt (slot:Nat)) i D n ep))(ho:s.heap.get? D=some o)(hd:o.data=.set es ep t)(hf:t.fits es.size=true)(hn:es.size=n)
  (hx:∀(B:Around)(E':A3)(Q':Option (Value×Nat)->Shared->Prop),Q' none s->wpAny (model prog w) B (setNext D slot i ep) Q' E' s)
  (hQ:∀h',(∀b u,b≠I->s.heap.get? b=some u->h'.get? b=some u)->Q none {s with heap:=h'}):wpAny (model prog w) A (pyNext (.ref I)) Q E s:=by
 have hT:s.TypeIs (.ref I) "set_iterator":=⟨_,hI,rfl⟩
 unfold pyNext;refine Fh (FO (wpAny_callSpecial?_slot (name:=Str.ofString "__next__") hT Gy (FP Gy hT Ht ?_ (iA _))));unfold Builtin.«set_iterator.__next__» setEntries;refine Fh (Fi ?_);refine Fh (wpAny_fieldsOf hI rfl ?_);refine Fh (Fh (FH ho hd hf (Fi ?_)));dsimp only;rw[Fm (by rw[hn];simp)];show wpAny _ _ (setNext D ((slot:Nat):Int).toNat ((i:Nat):Int).toNat ((ep:Nat):Int).toNat >>= _) _ _ _;rw[BK,BK,BK];refine Fh (hx _ _ _ ?_);dsimp only;refine Fh (wpAny_setField hI rfl (by simp) ?_);exact jm hh λh' hk=>hQ h' λb u nb e=>hk b u ((Heap.SameBut.update _ I _).extBut b u nb e)
theorem iR{D:Addr}{es:Array (Int×Value)}{t:SetTable}{ep slot i:Nat}{Q:Option (Value×Nat)->Shared->Prop}(hb:w.params.followText "set-order"=true)(ho:s.heap.get? D=some o)(hd:o.data=.set es ep t)(hf:t.fits es.size=true)
  (h:Q (((pickOrder (w.params.setOrder D ep) es)[i]?).map λe=>(e.2,slot)) s):wpAny (model prog w) A (setNext D slot i ep) Q E s:=by
 unfold setNext setWalk setsByText;refine Fh (FH ho hd hf (Fh (Fh (wpAny_askSetting (Fi ?_)))));dsimp only;rw[Fn (show(model prog w).w.params.followText "set-order"=true from hb),Fm (by simp)];refine Fh (Fh (FH ho hd hf (Fh (Fh (wpAny_askSetting (Fi ?_))))));dsimp only;rw[Fn (show(model prog w).w.params.followText "set-order"=true from hb)];refine Fh (wpAny_askSetting (Fi (Fi ?_)));exact h
theorem kL{D:Addr}{es:Array (Int×Value)}{t:SetTable}{ep Q4 slot i:Nat}{Q:Option (Value×Nat)->Shared->Prop}(hb:w.params.followText "set-order"=false)(hl:t.led=true)(h1:es.size<=1)(ho:s.heap.get? D=some o)(hd:o.data=.set es ep t)(hf:t.fits es.size=true)
  (h:Q (match es[SetTable.below t.place slot]?,t.place[SetTable.below t.place slot]? with|some (_,x),some j=>some (x,j+1)|_,_=>none) s):wpAny (model prog w) A (setNext D slot i Q4) Q E s:=by
 unfold setNext setsByText;refine Fh (FH ho hd hf (Fh (Fh (wpAny_askSetting (Fi ?_)))));dsimp only;rw[Fm (show ¬(model prog w).w.params.followText "set-order"=true from λq=>by rw[show(model prog w).w.params.followText "set-order"=false from hb] at q;cases q)];split
 ·rename_i q;have q':(!t.plain&&decide (es.size>1))=true:=q;rw[BQ,decide_eq_true_eq] at q';exact absurd q'.2 (by lia)
 ·refine Fh (show wpAny (model prog w) A (if (!t.led && !es.isEmpty)=true then unsupported "set:maker-not-led" else pure ()) _ E s from ?_);rw[hl];exact Fi (Fi h)
theorem pW{α:Type}(next:Nat->Nat):∀(fuel k:Nat)(left:List α)(out:Array α),left.length=fuel->(pickOrder.go next fuel k left out).toList.Perm (out.toList++left)
 |0,k,left,out,h=>by
  rw[BM.mp h,BJ];exact .refl _
 |fuel+1,k,left,out,h=>by
  have hi:next k % left.length<left.length:=Nat.mod_lt _ (by lia);unfold pickOrder.go;rw[AX hi];refine(pW next fuel (k+1) (left.eraseIdx _) (out.push _) (by rw[Fc hi,h];rfl)).trans ?_;rw[CZ,Bz];exact(List.Perm.refl _).append (dS _ _ hi)
theorem fv{α:Type}(next:Nat->Nat)(xs:Array α):(pickOrder next xs).toList.Perm xs.toList:=by
 have:=pW next xs.size 0 xs.toList #[] (by rw[Bk]);exact this
end
theorem Jf:Slot "set_iterator" "__iter__" "set_iterator.__iter__":=.of (owner:="set_iterator") (n:="__iter__") (by rw[typeLookup_type,builtinLookup_eq_fast];kernel_rfl) (by decide +kernel) (by decide +kernel) (by decide +kernel) (by first|exact .inl (by decide +kernel)|exact .inr (by decide +kernel)) (by rw[isSubtype_type];kernel_rfl)
theorem qG(a:Value):argsOk "set_iterator.__iter__" ⟨[a],[]⟩:=by unfold argsOk;kernel_rfl
section
variable {prog:Program}{w:World}{A:Around}{E:A3}{s:Shared}{o:Obj}{I D Pl:Addr}{ps:A7}{n ep:Nat}{es:Array (Int×Value)}{t:SetTable}
theorem me(hh:A.handled=none)(nD:D≠I)(nP:Pl≠I)(hd:o.data=.set es ep t)(hf:t.fits es.size=true)(hn:es.size=n)(hp:ps.Perm (List.range n))(self:∀(i:Nat)(s:Shared)(Q:A3)(E:A3),s.heap.get? I=some (E7 (.ref Pl) i D n ep)->Q (.ref I) s->wpAny (model prog w) A (pyIter (.ref I)) Q E s) :
  WalksS prog w A I [I,D,Pl] [I] (λa b=>b=a) n (λi v=>∃p e,ps[i]?=some p/\es[p]?=some e/\v=e.2) (λi s=>s.heap.get? I=some (E7 (.ref Pl) i D n ep)/\s.heap.get? D=some o/\s.heap.get? Pl=some (seqObj "tuple" (ps.map λi=>rawInt (i:Nat)).toArray 0)) where
 sub:=λb hb=>by rw[AY.mp hb];exact AZ
 grefl:=λ_=>rfl
 gtrans:=λa b c h1 h2=>h2.trans h1
 frame:=λ_ _ _ _ st _ hk=>⟨hk I (by simp) _ st.1,hk D (by simp) _ st.2.1,hk Pl (by simp) _ st.2.2⟩
 item:=λi s Q E hi st hQ=>by
  have hl:ps.length=n:=by rw[hp.length_eq,BX]
  have i3:i<ps.length:=by lia
  have hm:ps[i]<n:=Bt.mp (hp.mem_iff.mp (BG i3));have e1:ps[i]?=some ps[i]:=AX i3;have e2:es[ps[i]]?=some es[ps[i]]:=BD (by lia);refine mx st.1 st.2.2 st.2.1 hd hf hn e1 e2 λh' vx Tw=>?_;exact hQ _ {s with heap:=h'} ⟨_,_,e1,e2,rfl⟩ ⟨Tw,vx.extBut _ _ nD st.2.1,vx.extBut _ _ nP st.2.2⟩ ⟨λb u hb e=>vx.extBut b u (λq=>hb (by simp[q])) e,rfl,rfl,rfl,AS _⟩
 done:=λs Q E st hQ=>mY hh st.1 st.2.2 st.2.1 hd hf hn (Cz (by rw[hp.length_eq,BX];exact AS _)) λh' hk=>hQ {s with heap:=h'} ⟨λb u hb e=>hk b u (λq=>hb (by simp[q])) e,rfl,rfl,rfl,AS _⟩
 self:=λi s Q E st hQ=>self i s Q E st.1 hQ
theorem Kj:entryFor table "set_iterator.__iter__"=some Builtin.«dict_keyiterator.__iter__»:=entryFor_alias (id':="dict_keyiterator.__iter__") (by kernel_rfl) rfl (by decide +kernel) (by kernel_rfl)
theorem jR{f:Value}{i:Nat}{Q:A3}(hI:s.heap.get? I=some (E7 f i D n ep))(h:Q (.ref I) s):wpAny (model prog w) A (pyIter (.ref I)) Q E s:=by
 have hT:s.TypeIs (.ref I) "set_iterator":=⟨_,hI,rfl⟩
 refine wpAny_pyIter_slot hT Jf (FP Jf hT Kj (show wpAny _ _ (ret (.ref I)) _ _ s from Fi ⟨_,rfl,"set_iterator",_,hT,Gy.lookup,h⟩) (qG _))
theorem pE(hh:A.handled=none)(nD:D≠I)(hb:w.params.followText "set-order"=true)(hd:o.data=.set es ep t)(hf:t.fits es.size=true)(hn:es.size=n) :
  WalksS prog w A I [I,D] [I] (λa b=>b=a) n (λi v=>∃e,(pickOrder (w.params.setOrder D ep) es)[i]?=some e/\v=e.2) (λi s=>s.heap.get? I=some (E7 (rawInt ((0:Nat):Int)) i D n ep)/\s.heap.get? D=some o) where
 sub:=λb hb=>by rw[AY.mp hb];exact AZ
 grefl:=λ_=>rfl
 gtrans:=λa b c h1 h2=>h2.trans h1
 frame:=λ_ _ _ _ st _ hk=>⟨hk I (by simp) _ st.1,hk D (by simp) _ st.2⟩
 item:=λi s Q E hi st hQ=>by
  have hl:(pickOrder (w.params.setOrder D ep) es).size=n:=by rw[<- Bk,(fv _ _).length_eq,Bk,hn]
  have e1:(pickOrder (w.params.setOrder D ep) es)[i]?=some (pickOrder (w.params.setOrder D ep) es)[i]:=BD (by lia);refine je (nxt:=0) st.1 st.2 hd hf hn (λB E' Q' q=>iR hb st.2 hd hf (by rw[e1];exact q)) λh' vx Tw=>?_;exact hQ _ {s with heap:=h'} ⟨_,e1,rfl⟩ ⟨Tw,vx.extBut _ _ nD st.2⟩ ⟨λb u hb e=>vx.extBut b u (λq=>hb (by simp[q])) e,rfl,rfl,rfl,AS _⟩
 done:=λs Q E st hQ=>kJ hh st.1 st.2 hd hf hn (λB E' Q' q=>iR hb st.2 hd hf (by
  rw[Dl (by rw[<- Bk,(fv _ _).length_eq,Bk,hn]; exact AS _)]; exact q)) λh' hk=>hQ { s with heap:=h' } ⟨λb u hb e=>hk b u (λq=>hb (by simp [q])) e,rfl,rfl,rfl,AS _⟩
 self:=λi s Q E st hQ=>jR st.1 hQ
theorem jo(pl:Array Nat)(h:pl.size<=1):SetTable.below pl 0=0/\∀j,pl[0]?=some j->SetTable.below pl (j+1)=1:=by
 obtain⟨l⟩:=pl
 match l,h with
 |[],_=>exact⟨rfl,λj e=>by cases e⟩
 |[j],_=>
  refine⟨by simp[SetTable.below,SetTable.below.go],λk e=>?_⟩;have:k=j:=by simpa using e.symm
  subst this;simp[SetTable.below,SetTable.below.go]
theorem rA(hh:A.handled=none)(nD:D≠I)(hb:w.params.followText "set-order"=false)(hl:t.led=true)(h1:es.size<=1)(hd:o.data=.set es ep t)(hf:t.fits es.size=true)(hn:es.size=n) :
  WalksS prog w A I [I,D] [I] (λa b=>b=a) n (λi v=>∃e,es[i]?=some e/\v=e.2) (λi s=>(∃slot:Nat,s.heap.get? I=some (E7 (rawInt (slot:Nat)) i D n ep)/\SetTable.below t.place slot=i)/\s.heap.get? D=some o) where
 sub:=λb hb=>by rw[AY.mp hb];exact AZ
 grefl:=λ_=>rfl
 gtrans:=λa b c h1 h2=>h2.trans h1
 frame:=λ_ _ _ _ st _ hk=>by
  obtain⟨⟨sl,h1,h2⟩,h3⟩:=st;exact⟨⟨sl,hk I (by simp) _ h1,h2⟩,hk D (by simp) _ h3⟩
 item:=λi s Q E hi st hQ=>by
  obtain⟨⟨sl,hI,Qd⟩,hD⟩:=st;have OA:t.place.size=es.size:=by
   have:=hf;unfold SetTable.fits at this;rw[BQ,FT] at this;exact this.1
  have i0:i=0:=by lia
  subst i0;have e1:es[0]?=some es[0]:=BD (by lia);have e2:t.place[0]?=some t.place[0]:=BD (by lia);refine je (nxt:=t.place[0]+1) hI hD hd hf hn (λB E' Q' q=>kL hb hl h1 hD hd hf (by rw[Qd,e1,e2];exact q)) λh' vx Tw=>?_;exact hQ _ {s with heap:=h'} ⟨_,e1,rfl⟩ ⟨⟨_,Tw,(jo t.place (by lia)).2 _ e2⟩,vx.extBut _ _ nD hD⟩ ⟨λb u hb e=>vx.extBut b u (λq=>hb (by simp[q])) e,rfl,rfl,rfl,AS _⟩
 done:=λs Q E st hQ=>by
  obtain⟨⟨sl,hI,Qd⟩,hD⟩:=st;refine kJ hh hI hD hd hf hn (λB E' Q' q=>kL hb hl h1 hD hd hf ?_) λh' hk=>hQ {s with heap:=h'} ⟨λb u hb e=>hk b u (λq=>hb (by simp[q])) e,rfl,rfl,rfl,AS _⟩;rw[Qd,Dl (by lia)];exact q
 self:=λi s Q E st hQ=>by
  obtain⟨⟨sl,hI,Qd⟩,hD⟩:=st;exact jR hI hQ
end
section
variable {prog:Program}{w:World}{A B:Around}{E:A3}{s:Shared}{o:Obj}{D:Addr}{ys:List Str}
theorem ic{P:Nat->Value->Prop}{acc:Array Value}{n:Nat}{vs:A8}(h:ItemsOf P acc n)(hl:vs.length=n)(hP:∀j v,P j v->vs[j]?=some v):acc.toList=vs:=by
 refine Dm λj=>?_;by_cases hj:j<n
 ·have YU:j<acc.size:=by rw[h.1];exact hj
  have e:acc[j]?=some (acc[j]'YU):=BD YU;rw[Bn,e,hP j _ (h.2 j _ e)]
 ·rw[Cz (by rw[Bk,h.1];lia),Cz (by lia)]
theorem uZ{es:List (Int×Value)}(OC:ElemsOf (strKind prog w) es){vs:A8}(hp:vs.Perm (es.map (·.2))):∀v∈vs,∃x t,v=.str x t:=λv hv=>by
 obtain⟨e,he,rfl⟩:=AW.mp (hp.mem_iff.mp hv);exact sJ OC he
theorem oz{Q:A3}(hh:B.handled=none)(ho:s.heap.get? D=some o)(hS:IA prog w (fU w) o ys)(hb:(j3 ys).length<scanBound)
  (hQ:∀(I n:Nat)(fp:B2)(P:Nat->Value->Prop)(St:Nat->Shared->Prop)(s1:Shared),n<=sizeLine->WalksS prog w B I fp [I] (λa b=>b=a) n P St->St 0 s1->s.heap.objs.size<=I->(∀b∈fp,b=D\/s.heap.objs.size<=b)->(∀b u,s.heap.get? b=some u->s1.heap.get? b=some u)->s1.gens=s.gens->s1.os=s.os->(∀acc:Array Value,ItemsOf P acc n->(acc.toList.map strOf).Perm (j3 ys)/\∀v∈acc.toList,∃x t,v=.str x t)->Q (.ref I) s1) :
  wpAny (model prog w) A (pyIter (.ref D)) Q E s:=by
 obtain⟨hex,es,ep,t,hd,OC,hp,hf,hl,E8⟩:=hS;have hz:es.size<=sizeLine:=fits_of_scanBound (by rw[<- Bk,<- AU (f:=λe=>strOf e.2),hp.length_eq];exact hb);have d5:=Fv ho;have told:∀vs:A8,vs.Perm (es.toList.map (·.2))->(vs.map strOf).Perm (j3 ys)/\∀v∈vs,∃x t,v=.str x t:=λvs hv=>⟨((hv.map strOf).trans (by rw[Bx];exact .refl _)).trans hp,uZ OC hv⟩
 refine rT ho hex hd hf hz (λhc=>?_) (λh1 h2 h3 ps d OA=>?_)
 ·have g1:(s.heap.push (E7 (rawInt 0) 0 D es.size ep)).get? s.heap.objs.size=some (E7 (rawInt 0) 0 D es.size ep):=FK _ rfl;have g2:(s.heap.push (E7 (rawInt 0) 0 D es.size ep)).get? D=some o:=FJ _ ho;have nD:D≠s.heap.objs.size:=λe=>absurd d5 (by rw[<- e];exact BI _);have Ut:∀b∈[s.heap.objs.size,D],b=D\/s.heap.objs.size<=b:=λb hb=>by
   simp only[Bb,BE,or_false] at hb;rcases hb with rfl|rfl
   ·exact .inr (AS _)
   ·exact .inl rfl
  by_cases Zd:w.params.followText "set-order"=true
  ·refine hQ _ es.size _ _ _ _ hz (pE hh nD Zd hd hf rfl) ⟨g1,g2⟩ (AS _) Ut (λb u e=>FJ _ e) rfl rfl λacc ha=>?_;have:=fv (w.params.setOrder D ep) es;rw[ic (vs:=(pickOrder (w.params.setOrder D ep) es).toList.map (·.2)) ha (by rw[AU,this.length_eq,Bk]) (λj v ⟨e,h1,h2⟩=>by rw[Bo,Bn,h1,h2];rfl)];exact told _ (this.map _)
  ·have hbf:w.params.followText "set-order"=false:=DM.mpr Zd;have h1:es.size<=1:=by
    rcases hc with h|h|h
    ·exact absurd h Zd
    ·refine DY λq=>?_;rw[E8 (by lia)] at h;cases h
    ·exact h
   refine hQ _ es.size _ _ _ _ hz (rA hh nD hbf (by rw[hl];unfold fU;rw[hbf];rfl) h1 hd hf rfl) ⟨⟨0,g1,?_⟩,g2⟩ (AS _) Ut (λb u e=>FJ _ e) rfl rfl λacc ha=>?_
   ·refine(jo t.place ?_).1;have:=hf;unfold SetTable.fits at this;rw[BQ,FT] at this;rw[this.1];exact h1
   ·rw[ic (vs:=es.toList.map (·.2)) ha (by rw[AU,Bk]) (λj v ⟨e,h1,h2⟩=>by rw[Bo,Bn,h1,h2];rfl)];exact told _ (.refl _)
 ·generalize QY:s.heap.push (seqObj "tuple" (ps.map λi=>rawInt (i:Nat)).toArray 0)=C6;have z1:C6.objs.size=s.heap.objs.size+1:=by rw[<- QY,FQ]
  have k1:∀b u,s.heap.get? b=some u->C6.get? b=some u:=λb u e=>by rw[<- QY];exact FJ _ e
  have gP:C6.get? s.heap.objs.size=some (seqObj "tuple" (ps.map λi=>rawInt (i:Nat)).toArray 0):=by rw[<- QY];exact FK _ rfl
  have g1:(C6.push (E7 (.ref s.heap.objs.size) 0 D es.size ep)).get? (s.heap.objs.size+1)=some (E7 (.ref s.heap.objs.size) 0 D es.size ep):=by rw[<- z1];exact FK _ rfl
  refine hQ _ es.size _ _ _ _ hz (me (I:=s.heap.objs.size+1) (Pl:=s.heap.objs.size) hh (λe=>absurd d5 (by rw[e];exact Nat.not_lt.mpr (Ck _))) (Bf (Cm _)) hd hf rfl OA λi s Q E h q=>jR h q) ⟨g1,FJ _ (k1 _ _ ho),FJ _ gP⟩ (Ck _) (λb hb=>?_) (λb u e=>FJ _ (k1 b u e)) rfl rfl λacc ha=>?_
  ·simp only[Bb,BE,or_false] at hb;rcases hb with rfl|rfl|rfl
   ·exact .inr (Ck _)
   ·exact .inl rfl
   ·exact .inr (AS _)
  ·rw[ic (vs:=ps.map λp=>(es.toList.getD p (0,.none)).2) ha (by rw[AU,OA.length_eq,BX]) (λj v Xm=>by
    obtain⟨p,e,h1,h2,h3⟩:=Xm;rw[Bo,h1,h3];show some (es.toList.getD p (0,.none)).2=_
    rw[Bv,Bn,h2]; rfl)]
   refine told _ ((OA.map _).trans ?_);have:(List.range es.size).map (λp=>(es.toList.getD p (0,.none)).2)=es.toList.map (·.2):=by
    refine Dm λj=>?_;rw[Bo,Bo];by_cases hj:j<es.size
    ·rw[List.getElem?_range hj];show some (es.toList.getD j (0,.none)).2=_;rw[Bv,Bn,BD hj];rfl
    ·rw[Cz (by rw[BX];lia),Bn,Dl (by lia)];rfl
   rw[this]
end
theorem Lc:splitId "set.__len__"=some ("set","__len__"):=by kernel_rfl
section
variable {prog:Program}{w:World}{A:Around}{E:A3}{s:Shared}{o:Obj}{D:Addr}
theorem sj{Q:Bool->Shared->Prop}(hT:s.TypeIs (.ref D) "set")(h:Q false s):wpAny (model prog w) A (Builtin.List.listLengthHint (.ref D)) Q E s:=by
 unfold Builtin.List.listLengthHint;refine Fh (wpAny_specialOf hT F.slot_set_len.lookup ?_);dsimp only;rw[Lc];dsimp only;refine Fh (wpAny_isInstance hT sub_set_self ?_);refine wpAny_ite ?_;rw[Fm (show ¬(!true)=true from BA)];refine wpAny_ite ?_;rw[Fn]
 ·exact Fh (wpAny_typeOf hT (Fi h))
 ·kernel_rfl
theorem jU{ys:List Str}{Q:A8->Shared->Prop}(hh:A.handled=none)(ho:s.heap.get? D=some o)(hS:IA prog w (fU w) o ys)(hb:(j3 ys).length<scanBound)
  (hQ:∀s' vs,(∀b u,s.heap.get? b=some u->s'.heap.get? b=some u)->s.heap.objs.size<=s'.heap.objs.size->s'.gens=s.gens->s'.os=s.os->(vs.map strOf).Perm (j3 ys)->(∀v∈vs,∃x t,v=.str x t)->Q vs s'):wpAny (model prog w) A (collect (.ref D)) Q E s:=by
 have hex:=hS.1;have hT:∀h' tk d,(∀b u,s.heap.get? b=some u->h'.get? b=some u)->({s with heap:=h',toks:=tk,drawn:=d}:Shared).TypeIs (.ref D) "set":=λh' tk d hk=>⟨o,hk _ _ ho,hex.1⟩
 unfold collect;refine Fh (wpAny_runValue (codeAny_builtin F.entry_proto_collect ?_));rw[Around.under_plainId F.plain_proto_collect _];show wpAny _ A.in1 (newList [] >>= λl=>again (.builtin "list.__iadd__" ⟨[l,.ref D],[]⟩)) _ _ s;refine Fh (wpAny_newObj_type (Fi ⟨plainId_quiet F.plain_list_iadd _,codeAny_builtin F.entry_list_iadd ?_⟩));rw[Around.under_plainId F.plain_list_iadd _];show wpAny _ A.in1 (Builtin.List.listExtendWith (.ref s.heap.objs.size) (.ref D) (.ref s.heap.objs.size)) _ _ _;unfold Builtin.List.listExtendWith;have k1:∀b u,s.heap.get? b=some u->(s.heap.push {cls:=.type "list",data:=.seq ([]:A8).toArray}).get? b=some u:=λb u e=>FJ _ e;refine Fh (wpAny_typeOf (hT _ _ _ k1) ?_);have hSD:s.heap.objs.size≠D:=λe=>absurd (Fv ho) (by rw[e];exact BI _);have h1:Builtin.List.listSameRef (.ref s.heap.objs.size) (.ref D)=false:=by simp[Builtin.List.listSameRef,hSD]
 have h2:(Value.type "set" == Value.type "list")=false:=by decide
 have h3:(Value.type "set" == Value.type "tuple")=false:=by decide
 simp only[h1,h2,h3,Bool.or_false,BV,if_false];generalize QY:s.heap.push {cls:=.type "list",data:=.seq ([]:A8).toArray}=C1 at k1 ⊢;have hS1:C1.get? s.heap.objs.size=some {cls:=.type "list",data:=.seq ([]:A8).toArray}:=by rw[<- QY];exact FK _ rfl
 have hz1:C1.objs.size=s.heap.objs.size+1:=by rw[<- QY,FQ]
 refine Fh (oz (B:=A.in1) (s:={s with heap:=C1}) hh (k1 _ _ ho) hS hb λI n fp P St s1 hn W N0 hI Ut hk hg OQ K2=>?_);have hSf:s.heap.objs.size∉fp:=λhm=>by
  rcases Ut _ hm with e|e
  ·exact hSD e
  ·rw[show({s with heap:=C1}:Shared).heap.objs.size=s.heap.objs.size+1 from hz1] at e;exact absurd e (Nat.not_le.mpr (Cm _))
 refine Fh (Ft (sj ⟨o,hk _ _ (k1 _ _ ho),hex.1⟩ (wpAny_ite ?_)));rw[Fn]
 ·have g1:=hk _ _ hS1;have g2:=Heap.get?_update_self (Obj.mapSeq (·.push Value.none)) g1 rfl;have g3:=Heap.get?_update_self (Obj.mapSeq (·.pop)) g2 rfl;refine Fh (FS (Fh (show wpAny _ A.in1 (updateSeq s.heap.objs.size (·.push .none) >>= λ_=>updateSeq s.heap.objs.size (·.pop)) _ _ _ from Fh (wpAny_updateSeq g1 rfl (wpAny_updateSeq g2 rfl ?_)))));refine Fi ⟨plainId_quiet F.plain_extend_loop _,codeAny_extend_loopS W hn _ hSf _ n 0 _ _ _ rfl (Bj _) (W.frame 0 s1 _ s1.toks N0 (AS _) λb hb u e=>?_) g3 (ItemsOf.nil P) λs' acc c' hm Lw ha=>?_⟩
  ·have nb:s.heap.objs.size≠b:=λq=>hSf (by rw[q];exact hb);exact(Heap.get?_update_other _ _ nb).trans ((Heap.get?_update_other _ _ nb).trans e)
  ·obtain⟨a1,a2⟩:=K2 acc ha;refine Fh (wpAny_load Lw (Fi (hQ s' acc.toList (λb u e=>?_) (BS (Fv Lw)) ?_ ?_ a1 a2)))
   ·have d5:b<s.heap.objs.size:=Fv e;have nb:s.heap.objs.size≠b:=FI (Bf d5);refine hm.heap b u (λq=>?_) ((Heap.get?_update_other _ _ nb).trans ((Heap.get?_update_other _ _ nb).trans (hk b u (k1 b u e))));rcases Bb.mp q with q|q
    ·exact nb q.symm
    ·rw[AY.mp q] at d5;have:s.heap.objs.size+1<=I:=by rw[<- hz1];exact hI
     exact absurd d5 (Nat.not_lt.mpr (Nat.le_of_succ_le this))
   ·exact hm.gens.trans hg
   ·exact hm.os.trans OQ
 ·kernel_rfl
end
section
variable {prog:Program}{w:World}{A:Around}{E:A3}{s:Shared}{o:Obj}{D:Addr}{ys:List Str}
theorem mv{Q:A3}(hh:A.handled=none)(ho:s.heap.get? D=some o)(hS:IA prog w (fU w) o ys)(QZ:(j3 ys).length<64)
  (hQ:∀s' l zs out e,(∀b u,s.heap.get? b=some u->s'.heap.get? b=some u)->s'.gens=s.gens->s'.os=s.os->zs.Perm (j3 ys)->sortedS zs=true->s.heap.objs.size<=l->s'.heap.get? l=some (seqObj "list" out e)->StrsAre out.toList zs->Q (.ref l) s') :
  wpAny (model prog w) A (call (.builtin "sorted") [.ref D]) Q E s:=by
 refine Calls.call_function_entry kind_sorted plain_sorted entry_sorted (args_sorted1 _) ?_;unfold Builtin.«sorted»;refine Fh (m:=checkCount "sorted" 1 1 _) (Fi (Fh (jU hh ho hS (DH QZ (by decide)) λs1 vs hk hle hg OQ hp ha=>?_)));have j9:=strsAre_map vs ha;have hl:vs.length=(j3 ys).length:=by rw[<- hp.length_eq,AU]
 have MW:(s1.heap.push (seqObj "list" vs.toArray 0)).get? s1.heap.objs.size=some (seqObj "list" vs.toArray 0):=FK _ rfl;refine Fh (wpAny_newList ?_);refine Fh (Ft (FP slot_list_sort ⟨_,MW,rfl⟩ entry_list_sort (list_sort_treeK strKind_oneLt MW j9.keysOf (λUS UR rest e=>keyKind_strs (by rw[<- e];exact j9)) (by lia) λa8 a1 a2=>⟨_,rfl,?_⟩) (args_list_sort _)));obtain⟨Oy,b1,b2,b3⟩:=sorted_out_str j9 a1 a2;obtain⟨e,he⟩:=sortedHeap_at (out:=(arrOf a8).map (·.2)) MW;refine Fi ⟨_,rfl,hQ _ _ Oy _ e (λb u q=>?_) hg OQ (b2.trans hp) b3 hle he b1⟩;have q1:=hk b u q;have RB:=Fv q1;exact(sortedHeap_old (Bf RB) (by rw[FQ];exact CH RB)).trans (FJ _ q1)
end
section
variable {X:Cx}{x:Str}{p pos:Pos}{e:Expr}{t:JF}
def rD (t:JF):TE:=fun σ H Q=>t σ H λys H1=>(j3 ys).length<64/\∀l zs,zs.Perm (j3 ys)->sortedS zs=true->H1 l=none->Q (.ref l) (upd H1 l (.lst (zs.map V.str)))
theorem gn(hc:X.A.handled=none)(he:tO X e t)(hg:Gl X "sorted")(hm:X.mg "sorted"=none)(hv:bootBuiltins "sorted"=some (.builtin "sorted"))(hs:starEach [e] X.env=(false,eval e X.env)::starEach [] X.env:=by rfl):PE X (.Call (.Name "sorted" p) [e] [] pos) (rD t):=by
 intro pins s σ H Q I h;refine wpAny_Call_Name_kw (fJ I hg hm hv ?_ (by decide) (by decide));refine PyProof.Rows.callWith_builtin1 ?_ hs rfl;rw[hs];refine Calls.spliced_cons (c6 (he pins s σ H _ I h) λv s1 z=>?_);obtain⟨D,o,ys,H1,rfl,I1,ho,hS,hb,QZ,q⟩:=z;refine Calls.spliced_nil ?_;refine mv hc ho hS QZ λs' l zs out ep hk hg' OQ hp hso hle hl j9=>?_;have I2:Inv X pins σ (upd H1 l (.lst (zs.map V.str))) {s1 with heap:=s'.heap,toks:=s'.toks}:=I1.laid hk hle ⟨by rw[AU,hp.length_eq];have:=sizeLine_eq;lia,out.toList,ep,JP j9,by rw[ED];exact hl⟩;have e3:s'={s1 with heap:=s'.heap,toks:=s'.toks,drawn:=s'.drawn}:=by
  obtain⟨a1,a2,a3,a4,a5⟩:=s';cases hg';cases OQ;rfl
 rw[e3];exact⟨.ref l,_,⟨I2.ok,I2.os,I2.bare,I2.base,I2.loc,I2.cell,I2.free,I2.GL,I2.pin,I2.b9,I2.len⟩,rfl,q l zs hp hso (I1.b9.fresh hle)⟩
end
abbrev O5(n i:Nat)(P:Nat->List Str->Hp->Prop)(ys:List Str)(H:Hp):Prop:=∃m',m'<n-i/\(m'=n-(i+1)/\i+1<=n/\P (i+1) ys H)
theorem O5.mk{n i:Nat}{P:Nat->List Str->Hp->Prop}{ys:List Str}{H:Hp}(hi:i<n)(h:P (i+1) ys H):O5 n i P ys H:=⟨n-(i+1),by lia,rfl,hi,h⟩
theorem vG{K:W.Frag}{a:Addr}{xs:A9}{k:Nat}{js:A7}{g:TG}{tc:TT}{te:TE}{σ:St}{H:Hp}{Q:List Str->Hp->Prop}(P:Nat->List Str->Hp->Prop)(h0:P 0 [] H)(hz:∀i ys H,i<=xs.length->P i ys H->ys.length<=i)(hn:xs.length<=4000)
  (hl:∀i ys H,i<=xs.length->P i ys H->a9 K H a xs)
  (hs:∀i x ys H,xs[i]?=some x->P i ys H->g x (List.replicate k none++bY js σ) H fun c8 H2=>tc c8 H2 λb H3=>if b=true then te c8 H3 λy H4=>∃z,y=.str z/\O5 xs.length i P (z::ys) H4 else O5 xs.length i P ys H3)
  (hd:∀ys H,P xs.length ys H->Q ys H):tH (O6 K a) k js g tc te σ H Q:=by
 refine⟨λi m ys H=>m=xs.length-i/\i<=xs.length/\P i ys H,⟨_,rfl,Bj _,h0⟩,?_⟩;rintro i m ys H ⟨rfl,hi,p⟩;have q:=hl i ys H hi p;have ly:=hz i ys H hi p;by_cases d5:i<xs.length
 ·refine .inr ⟨⟨xs,xs[i],q,by simp[d5]⟩,by lia,λx H' y=>?_⟩;obtain⟨e,y⟩:=y;subst e;exact hs i x ys _ (y xs q) p
 ·have e:i=xs.length:=by lia
  subst e;exact .inl ⟨⟨xs,q,AS _⟩,by lia,hd ys H p⟩
section
variable {X:Cx}{k v:Expr}{pos:Pos}{tk tv:TE}
def tS (tk tv:TE):TE:=fun σ H Q=>∀p,H p=none->tk σ (upd H p (.dT [])) λy H1=>tv σ H1 λx H2=>∃ks b,H2 p=some (.dT [])/\y=.ref b/\H2 b=some (.tup (ks.map kV))/\Q (.ref p) (upd H2 p (.dT [(ks,x)]))
theorem nN(hu:X.A.units+1<cLine)(hk:PE X k tk)(hv:PE X v tv):PE X (.Dict [some k] [v] pos) (tS tk tv):=by
 intro pins s σ H Q I h;have I1:Inv X pins σ (upd H s.heap.objs.size (.dT [])) {s with heap:=s.heap.push {cls:=.type "dict",data:=.dict #[]},toks:=s.toks}:=I.laid (a:=s.heap.objs.size) (o:=.dT []) (t':=s.toks) (λ_ _ q=>FJ _ q) (AS _) (lH s.heap I.big);refine wpAny_Dict_any rfl rfl (by simp) (by show 1<=15;decide) (pairTrees_cons_walk (c6 (hk pins _ σ _ _ I1 (h _ (I.b9.fresh (AS _)))) λkv s1 Xl=>?_));obtain⟨y,H1,I2,ry,q1⟩:=Xl;refine c6 (hv pins s1 σ H1 _ I2 q1) λvv s2 ⟨x,H2,I3,rx,ks,b,e,ey,eb,q2⟩=>pairTrees_nil_walk ?_;subst ey;cases (show kv=Value.ref b from ry);obtain⟨z,hd,xs,rel,dd⟩:=lW I3.b9 e;cases rel;unfold storeAll;rw[Ex];refine Fh (Fh (wpAny_dictSet_heap (hsz:=Bj _) (knd:=tupleKind (aK X.prog X.w)) (Nat.lt_of_succ_lt hu) (eU I3.b9 eb) dd λh' D0 hs=>Fi ?_));show wpAny _ _ (storeAll s.heap.objs.size []) _ _ _;unfold storeAll;rw[List.forIn_nil];refine Fi ⟨.ref s.heap.objs.size,_,?_,rfl,q2⟩;obtain⟨q,es,ep,hq,h2,h3,h4,_,h5⟩:=D0;refine cN I3 (by rw[e];exact True.intro) hs ⟨q,hq⟩ ⟨by show 1<=sizeLine;decide,hd,_,.cons ⟨rfl,?_,rx⟩ .nil,q,es,ep,hq,h2,h3,h4,h5⟩;rw[aj (bB eb e (λz=>nomatch z))];exact eb
end
section
variable {prog:Program}{w:World}{A:Around}
theorem om(hh:A.handled=none)(I d:Addr)(k8:d≠I){od:Obj}{es:Array DictEntry}{ep:Nat}(t7:od.data=.dict es ep) :
  Walks prog w A I [I,d] [I] es.size (λi v=>∃h:i<es.size,v=es[i].key) (λi h=>h.IsKeyIter I d i es.size ep/\h.get? d=some od) where
 sub:=λb hb=>by simp at hb;simp[hb]
 frame:=λ_ _ _ st hk=>⟨st.1.at λo e=>hk I (by simp) o e,hk d (by simp) _ st.2⟩
 item:=λi s Q E hi st hQ=>lC st.1 st.2 t7 hi λh' a8 sb=>hQ _ h' s.toks ⟨hi,rfl⟩ ⟨a8,(sb.2 d k8).trans st.2⟩ λb o hb e=>(sb.2 b λz=>hb (by simp[z])).trans e
 done:=λs Q E st hQ=>pM hh st.1 st.2 t7 (AS _) λh' eb=>hQ h' s.toks λb o hb e=>eb b o (λz=>hb (by simp[z])) e
 self:=λ_ _ _ _ st hQ=>wpAny_pyIter_keyiter st.1 hQ
theorem oH{d:Addr}{od:Obj}{es:Array DictEntry}{ep:Nat}(lo:(d==sysModules)=false)(hc:od.ExactDict)(t7:od.data=.dict es ep):W.KdlSrc prog w "dict" d d es.size (λi v=>∃h:i<es.size,v=es[i].key) (λh=>h.get? d=some od) where
 type:=λ_ hm=>⟨od,hm,hc.1⟩
 there:=λ_ hm=>⟨Fv hm,Fv hm⟩
 keep:=λ_ _ hm hk=>hk d (.inl rfl) _ hm
 notList:=by decide
 notTuple:=by decide
 hint:=λ_ _ _ _ hm hq=>W.kdl_hint_dict ⟨od,hm,hc.1⟩ hq
 iter:=λ_ s hh hm=>⟨_,_,(λ_ _ hq=>gQ lo hm hc t7 hq),om hh s.heap.objs.size d (Bf (Fv hm)) t7,⟨⟨_,FK _ rfl,rfl,rfl⟩,FJ _ hm⟩⟩
end
section
variable {X:Cx}
inductive MB(xs:A9)(H:Hp)(Q:VK):Prop
 |mk p kvs:xs=[.ref p]->Rd H p (.dT kvs)->(∀l us,H l=none->Paired (λv (k:List Key)=>∃b,v=V.ref b/\H b=some (.tup (k.map kV))) us (kvs.map (·.1))->Q (.ref l) (upd H l (.lst us)))->MB xs H Q
theorem qf{H:Hp}:∀{kvs:List (List Key×V)}{xs:List (List Key×Addr×Value)},KT H kvs xs->Paired (λv (k:List Key)=>∃b,v=V.ref b/\H b=some (.tup (k.map kV))) (xs.map λq=>V.ref q.2.1) (kvs.map (·.1))
 |_,_,.nil=>.nil
 |_,_,.cons h r=>.cons ⟨_,rfl,h.2.1⟩ (qf r)
theorem pZ(hc:X.calm=true):bV X (.type "list") MB:=by
 intro pins s σ H xs us Q I r h;obtain⟨p,kvs,rfl,hd,q⟩:=h;obtain⟨u,rfl,rx⟩:=cD r;cases rx;obtain⟨hz,lo,xs,kt,o,es,ep,ho,hx,t7,Qc,_⟩:=(show Gg X.prog X.w H s.heap p (.dT kvs) from pC I.b9 hd)
 have el:es.size=kvs.length:=by
  rw[<- Bk,Qc,AU];exact(Paired.length kt).symm
 refine W.kdl_call (oH lo hx t7) (I.ok.hd hc) ho (by rw[el];exact hz) λh' tk Ou c' kp e ha=>?_;have e1:(xs.map λq=>V.ref q.2.1).length=Ou.toList.length:=by
  have e0:Ou.toList.length=es.size:=(Bk (xs:=Ou)).trans ha.1;rw[e0,el,AU];exact(Paired.length kt).symm
 have vv:Vals (xs.map λq=>V.ref q.2.1) Ou.toList:=by
  refine JU _ _ e1 λj y u h1 h2=>?_;rw[Bo] at h1;obtain⟨q',hq,rfl⟩:=Co.mp h1;obtain⟨hj,rfl⟩:=ha.2 j u (by rw[<- Bn];exact h2);have:es.toList[j]?=some (entryOfKey (tupleKind (aK X.prog X.w)) q'):=by rw[Qc,Bo,hq];rfl
  rw[Bn,BD hj] at this;rw[Fx this];rfl
 exact⟨.ref _,_,I.laid (t':=tk) (o:=.lst (xs.map λq=>V.ref q.2.1)) kp (AS _) ⟨by rw[AU,<- Paired.length kt];exact hz,Ou.toList,c',vv,e⟩,rfl,q _ _ (I.b9.fresh (AS _)) (qf kt)⟩
end
section
variable {prog:Program}{w:World}
abbrev MF(prog:Program)(w:World):=tupleKind (aK prog w)
inductive Gx(prog:Program)(w:World)(h:Heap):List (List Key)->A8->Prop
 |nil:Gx prog w h [] []
 |cons {k:List Key}{b:Addr}{ks:List (List Key)}{vs:A8}:(MF prog w).is h k b->Gx prog w h ks vs->Gx prog w h (k::ks) (.ref b::vs)
def ID (prog:Program)(w:World)(h:Heap)(ks:List (List Key))(a:Addr):Prop:=∃o a7 n,h.get? a=some o/\o.cls=.type "tuple"/\o.data=.seq a7 n/\Gx prog w h ks a7.toList
theorem Gx.one{h:Heap}{vs:A8}{x:List (List Key)}(p:Gx prog w h x vs):∀{y:List (List Key)},Gx prog w h y vs->x=y:=by
 induction p with
 |nil=>intro y q;cases q;rfl
 |cons a _ ih=>
  intro y q;cases q with
  |cons b t=>rw[(MF prog w).inj a b,ih t]
theorem ID.ty{s:Shared}{ks:List (List Key)}{a:Addr}(x:ID prog w s.heap ks a):s.TypeIs (.ref a) "tuple":=by
 obtain⟨o,_,_,e,c,_⟩:=x;exact⟨o,e,c⟩
theorem ID.one{h:Heap}{a:Addr}{x y:List (List Key)}(p:ID prog w h x a)(q:ID prog w h y a):x=y:=by
 obtain⟨o,a7,n,e,_,d,i⟩:=p;obtain⟨o',its',n',e',_,d',i'⟩:=q;rw[e] at e';cases e';rw[d] at d';cases d';exact i.one i'
theorem Gx.kp{h h':Heap}{d:Addr}{o:Obj}{es ep}(e:h.get? d=some o)(c:o.data=.dict es ep)(sb:Heap.SameBut d h h'){x:List (List Key)}{vs:A8}(p:Gx prog w h x vs):Gx prog w h' x vs:=by
 induction p with
 |nil=>exact .nil
 |cons a _ ih=>exact .cons ((MF prog w).keeps a e c sb) ih
theorem ID.kp{h h':Heap}{ks:List (List Key)}{a d:Addr}{o:Obj}{es ep}(x:ID prog w h ks a)(e:h.get? d=some o)(c:o.data=.dict es ep)(sb:Heap.SameBut d h h'):ID prog w h' ks a:=by
 obtain⟨o',a7,n,e',c',d',i⟩:=x;have ne:a≠d:=λz=>by
  subst z;rw[e] at e';cases e';rw[c] at d';exact nomatch d'
 exact⟨o',a7,n,(sb.2 a ne).trans e',c',d',i.kp e c sb⟩
variable {A:Around}{E:A3}{s:Shared}
def lq (ks:List (List Key)):Nat:=(ks.map λk=>k.length+1).sum+1
def tR (w:World)(prog:Program)(ks:List (List Key)):Int:=reduceHash (Builtin.Tuple.tupleHashOf (ks.map (MF prog w).hash))
theorem oS{ks:List (List Key)}{a:Addr}{Q:Int->Shared->Prop}(hu:A.units+1<cLine)(x:ID prog w s.heap ks a)(g:Q (tR w prog ks) {s with toks:=s.toks+lq ks}):wpAny (model prog w) A (pyHash (.ref a)) Q E s:=by
 have tT:=x.ty;obtain⟨o,a7,n,e,_,d,i⟩:=x;unfold pyHash
 (first|unfold pyHashByItsType|skip)
 (first|refine Fh (wpAny_cRoomFor_or (.inr (by lia)) ?_)|skip)
 refine Fh (wpAny_specialOf tT PySem.F.slot_tuple_hash.lookup ?_);show wpAny _ _ (if (some (Value.builtin "tuple.__hash__")==some Value.none)=true then _ else _) Q E s;rw[Fm (by rw[beq_builtin_none];exact BA)];refine Fh (wpAny_specialOf tT PySem.F.slot_tuple_hash.lookup ?_);show wpAny _ _ (callSpecialIfBoundUnlessNone? (.ref a) "__hash__" _ >>= _) Q E s;refine Fh (wpAny_callSpecialIfBoundUnlessNone?_slot tT PySem.F.slot_tuple_hash (FP PySem.F.slot_tuple_hash tT PySem.F.entry_tuple_hash ?_ (PySem.F.args_tuple_hash_1 _)));show wpAny _ _ (Builtin.Tuple.tupleItemsOf (.ref a) >>= _) _ _ s;refine Fh (wpAny_tupleItemsOf e d ?_);refine Fh ?_;rw[<- EE];refine wpAny_forIn_list _ (λrest (b:Array Int) s'=>∃done left,ks=done++left/\Gx prog w s.heap left rest/\b.toList=done.map (MF prog w).hash/\s'={s with toks:=s.toks+(done.map λk=>k.length+1).sum}) _ ?_ ?_ _ _ ⟨[],ks,rfl,i,rfl,rfl⟩
 ·rintro x rest b s' ⟨done,left,rfl,hl,hb,rfl⟩;cases hl with
  |@cons k c k7 _ h1 OS=>
   refine Fh ((MF prog w).pyHash (s:={s with toks:=_}) (tupleKind_room_in1 hu) h1 ?_)
   first
    |exact Fi ⟨done++[k],k7,by simp,OS,by simp[hb],by simp[Do];rfl⟩
    |exact Fh (Fi (Fi ⟨done++[k],k7,by simp,OS,by simp[hb],by simp[Do];rfl⟩))
 ·rintro b s' ⟨done,left,rfl,hl,hb,rfl⟩;cases hl;rw[BJ] at g;show wpAny _ _ (retInt (Builtin.Tuple.tupleHashOf b.toList)) _ _ _;rw[hb];refine wpAny_ret_mkInt ?_;show wpAny _ _ (if (decide (-(2:Int)^63<=Builtin.Tuple.tupleHashOf (done.map (MF prog w).hash))&&decide (Builtin.Tuple.tupleHashOf (done.map (MF prog w).hash)<2^63))=true then _ else _) Q E _;unfold tR reduceHash at g;by_cases hr:(decide (-(2:Int)^63<=Builtin.Tuple.tupleHashOf (done.map (MF prog w).hash))&&decide (Builtin.Tuple.tupleHashOf (done.map (MF prog w).hash)<2^63))=true
  ·rw[Fn hr];rw[Fn hr] at g;exact Fi (by simpa [Do,lq] using g)
  ·rw[Fm hr];rw[Fm hr] at g;exact Fh (FS (Fi (by simpa [Do,lq] using g)))
theorem iI{x y:List (List Key)}{a b:Addr}{R:Fin->Shared->Prop}(hu:A.units<cLine)(hx:ID prog w s.heap x a)(hy:ID prog w s.heap y b)(g:R (.done (.ret (.bool (decide (x=y))))) s):wpAny (model prog w) A (Builtin.«tuple.__eq__» ⟨[.ref a,.ref b],[]⟩) R E s:=by
 have tb:=hy.ty;obtain⟨oa,xs,na,ea,_,da,ia⟩:=hx;obtain⟨ob,ys,nb,eb,_,db,ib⟩:=hy;show wpAny _ _ (isInstance (.ref b) (.type "tuple") >>= _) _ _ s;refine Fh (wpAny_isInstance tb isSubtype_tuple_tuple ?_);simp only[Dp,BV,if_false];refine Fh (wpAny_tupleItemsOf ea da ?_);refine Fh (wpAny_tupleItemsOf eb db ?_);refine Fh ?_;refine wpAny_forIn_list _ (λrest r s'=>r.1=none/\s'=s/\∃x' y' O9 i6,rest=List.zip O9 i6/\Gx prog w s.heap x' O9/\Gx prog w s.heap y' i6/\decide (x'=y')=decide (x=y)/\(O9.length==i6.length)=(xs.size==ys.size)) _ ?_ ?_ _ _ ⟨rfl,rfl,x,y,xs.toList,ys.toList,rfl,ia,ib,rfl,by simp⟩
 ·rintro⟨u,v⟩ rest r s' ⟨er,rfl,x',y',O9,i6,ez,px,py,dec,len⟩;cases px with
  |nil=>simp at ez
  |@cons k1 c1 x2 xs2 h1 px2=>
   cases py with
   |nil=>simp at ez
   |@cons k2 c2 y2 PB h2 py2=>
    simp only[EF,List.cons.injEq,Prod.mk.injEq] at ez;obtain⟨⟨rfl,rfl⟩,rfl⟩:=ez;refine Fh ((MF prog w).eqBool hu h1 h2 ?_);by_cases hk:k1=k2
    ·subst hk;rw[Fo rfl];simp only[Dp,BV,if_false];refine Fi ⟨rfl,rfl,x2,y2,xs2,PB,rfl,px2,py2,?_,by simpa using len⟩;rw[<- dec];by_cases xy:x2=y2
     ·simp[xy]
     ·simp[xy]
    ·rw[Fp hk];simp only[Bool.not_false,if_true];have ef:decide (x=y)=false:=by rw[<- dec];simp[hk]
     rw[ef] at g;exact Fh (Fi (Fi (Fi g)))
 ·rintro⟨r1,r2⟩ s' ⟨er,rfl,x',y',O9,i6,ez,px,py,dec,len⟩;simp only at er;subst er;refine Fi ?_;have fin:(xs.size==ys.size)=decide (x=y):=by
   rw[<- dec,<- len];cases px with
   |nil=>
    cases py with
    |nil=>simp
    |cons _ _=>simp
   |cons _ _=>
    cases py with
    |nil=>simp
    |cons _ _=>simp at ez
  show R (.done (.ret (.bool (xs.size==ys.size)))) s';rw[fin];exact g
theorem uP{x y:List (List Key)}{a b:Addr}{Q:Bool->Shared->Prop}(hu:A.units+1<cLine)(hx:ID prog w s.heap x a)(hy:ID prog w s.heap y b)(g:Q (decide (x=y)) s):wpAny (model prog w) A (eqBool (.ref a) (.ref b)) Q E s:=by
 unfold eqBool
 try with_reducible refine Ft ?_
 show wpAny _ _ (if (Value.ref a==Value.ref b)=true then _ else _) Q E s;by_cases ab:(Value.ref a==Value.ref b)=true
 ·rw[Fn ab];have e:a=b:=by have:=eq_of_beq ab;injection this
  subst e;obtain rfl:=hx.one hy;exact Fh (FS (Fi (by simpa using g)))
 ·rw[Fm ab];exact Fh (wpAny_richCompare_same_room (op:=.Eq) hx.ty hy.ty PySem.F.slot_tuple_eq (FP PySem.F.slot_tuple_eq hx.ty PySem.F.entry_tuple_eq (iI hu hx hy ⟨_,rfl,(λe=>nomatch e),wpAny_truthy_bool g⟩) (PySem.F.args_tuple_eq_2 _ _)) (by lia))
theorem oT(m:Nat){ks:List Key}{a:Addr}{Q:Bool->Shared->Prop}(x:(MF prog w).is s.heap ks a)(g:Q true s):wpAny (model prog w) A (eqIsQuiet (m+1) (.ref a)) Q E s:=by
 have tT:=IsTupleKey.typeIs x;obtain⟨o,a7,n,e,_,d,i⟩:=x;unfold eqIsQuiet;refine Fh (wpAny_specialOf tT PySem.F.slot_tuple_eq.lookup ?_);show wpAny _ _ (isInstance (.ref a) (.type "tuple") >>= _) _ _ s;refine Fh (wpAny_isInstance tT isSubtype_tuple_tuple ?_);simp only[Dp,BV,if_false];refine Fh (wpAny_seqItems e d ?_);refine Fh ?_;show wpAny _ _ (forIn a7 _ _) _ _ s;rw[<- EE];refine wpAny_forIn_list _ (λrest r s'=>r.1=none/\s'=s/\∀v∈rest,carriedByValue v=true) _ ?_ ?_ _ _ ⟨rfl,rfl,i.byValue⟩
 ·rintro v rest r s' ⟨er,rfl,al⟩;rw[eqIsQuiet_byValue _ (al v AZ)];refine Fh (Fi ?_);simp only[Dp,BV,if_false];exact Fi ⟨rfl,rfl,λu hu'=>al u (Bg _ hu')⟩
 ·rintro⟨r1,r2⟩ s' ⟨er,rfl,_⟩;simp only at er;subst er;exact Fi g
theorem mP{ks:List (List Key)}{a:Addr}{Q:Bool->Shared->Prop}(x:ID prog w s.heap ks a)(g:Q true s):wpAny (model prog w) A (eqIsQuiet 8 (.ref a)) Q E s:=by
 have tT:=x.ty;obtain⟨o,a7,n,e,_,d,i⟩:=x;unfold eqIsQuiet;refine Fh (wpAny_specialOf tT PySem.F.slot_tuple_eq.lookup ?_);show wpAny _ _ (isInstance (.ref a) (.type "tuple") >>= _) _ _ s;refine Fh (wpAny_isInstance tT isSubtype_tuple_tuple ?_);simp only[Dp,BV,if_false];refine Fh (wpAny_seqItems e d ?_);refine Fh ?_;show wpAny _ _ (forIn a7 _ _) _ _ s;rw[<- EE];refine wpAny_forIn_list _ (λrest r s'=>r.1=none/\s'=s/\∃l,Gx prog w s.heap l rest) _ ?_ ?_ _ _ ⟨rfl,rfl,ks,i⟩
 ·rintro v rest r s' ⟨er,rfl,l,al⟩;cases al with
  |cons h1 t=>
   refine Fh (oT 6 h1 ?_);simp only[Dp,BV,if_false];exact Fi ⟨rfl,rfl,_,t⟩
 ·rintro⟨r1,r2⟩ s' ⟨er,rfl,_⟩;simp only at er;subst er;exact Fi g
end
def cm (prog:Program)(w:World):HeapKind prog w (List (List Key)) where
 is:=ID prog w
 hash:=tR w prog
 draws:=lq
 room:=λA=>A.units+1<cLine
 inj:=λhx hy=>hx.one hy
 keeps:=λx ho hd hs=>x.kp ho hd hs
 pyHash:=λhu hk h=>oS hu hk h
 eqBool:=λhu hx hy h=>uP hu hx hy h
 quiet:=λhk h=>mP hk h
abbrev DK:=List (List Key)
def Kh (H:Hp)(b:Addr)(ks:DK):Prop:=∃rs:B2,H b=some (.tup (rs.map V.ref))/\Paired (λr (k:List Key)=>H r=some (.tup (k.map kV))) rs ks
theorem Kh.keeps{H H':Hp}{b:Addr}{ks:DK}(t:Kh H b ks)(ht:∀b ys,H b=some (.tup ys)->H' b=some (.tup ys)):Kh H' b ks:=by
 obtain⟨rs,e,p⟩:=t;exact⟨rs,ht _ _ e,Paired.Hw p λ_ _ z=>ht _ _ z⟩
abbrev KU(H:Hp):List (DK×V)->List (DK×Addr×Value)->Prop:=Paired λ(p:DK×V) (q:DK×Addr×Value)=>p.1=q.1/\Kh H q.2.1 p.1/\RelV p.2 q.2.2
theorem KU.keeps{H H':Hp}{kvs:List (DK×V)}{xs:List (DK×Addr×Value)}(r:KU H kvs xs)(ht:∀b ys,H b=some (.tup ys)->H' b=some (.tup ys)):KU H' kvs xs:=Paired.Hw r λ_ _ z=>⟨z.1,z.2.1.keeps ht,z.2.2⟩
theorem KU.val{H:Hp}{kvs:List (DK×V)}{xs:List (DK×Addr×Value)}(r:KU H kvs xs)(k:DK):IG (cg kvs k) ((atKey xs k).map (·.2)):=by
 induction r with
 |nil=>exact True.intro
 |@cons p q ps qs h t ih=>
  by_cases e:p.1=k
  ·have b:atKey (q::qs) k=some q.2:=by simp[atKey,Cg,h.1.symm.trans e]
   rw[bX e,b];exact h.2.2
  ·have e2:¬q.1=k:=λz=>e (h.1.trans z);have b:atKey (q::qs) k=atKey qs k:=by simp[atKey,Cg,e2]
   rw[bD e,b];exact ih
theorem KU.Ms{H:Hp}{kvs:List (DK×V)}{xs:List (DK×Addr×Value)}(r:KU H kvs xs)(k:DK){y:V}{u:Value}(ry:RelV y u):KU H (kvs.map λkv=>if kv.1=k then (kv.1,y) else kv) (xs.map (putAt k u)):=by
 induction r with
 |nil=>exact .nil
 |@cons p q ps qs h t ih=>
  refine .cons ?_ ih;unfold putAt;dsimp only;by_cases e:p.1=k
  ·rw[Fn e,Fn (h.1.symm.trans e)];exact⟨h.1,h.2.1,ry⟩
  ·rw[Fm e,Fm λz=>e (h.1.trans z)];exact h
theorem KU.put{H:Hp}{kvs:List (DK×V)}{xs:List (DK×Addr×Value)}(r:KU H kvs xs)(k:DK){b:Addr}{y:V}{u:Value}(hb:Kh H b k)(ry:RelV y u):KU H (cU kvs k y) (storedH xs k b u):=by
 have e:(kvs.any λkv=>decide (kv.1=k))=(atKey xs k).isSome:=by rw[gK,(r.val k).GO,DZ]
 unfold cU storedH;rw[e];by_cases q:(atKey xs k).isSome=true
 ·rw[Fn q,Fn q];exact r.Ms k ry
 ·rw[Fm q,Fm q];exact Paired.snoc r ⟨rfl,hb,ry⟩
section
variable (P:Program)(w:World)
def vo (xs:List (DK×Addr×Value))(a:Addr):HO:=.ext λh=>∃o es ep,h.get? a=some o/\o.ExactDict/\o.data=.dict es ep/\es.toList=xs.map (entryOfKey (cm P w))
structure UM(H:Hp)(a:Addr)(kvs:List (DK×V))(xs:List (DK×Addr×Value)):Prop where
 sys:(a==sysModules)=false
 few:kvs.length<=sizeLine
 ku:KU H kvs xs
 nd:(xs.map (·.1)).Nodup
def DU (H:Hp)(a:Addr)(kvs:List (DK×V)):Prop:=∃xs,UM H a kvs xs/\H a=some (vo P w xs a)
def RU (H:Hp)(a:Addr)(kvs:List (DK×V)):Prop:=∃xs,UM H a kvs xs/\Rd H a (vo P w xs a)
end
section
variable {P:Program}{w:World}{H:Hp}{h:Heap}{a:Addr}
theorem DU.rd{kvs:List (DK×V)}(d:DU P w H a kvs):RU P w H a kvs:=let ⟨xs,x,e⟩:=d;⟨xs,x,.inl e⟩
theorem fq{ks:DK}(ok:m6 P w H h)(t:Kh H a ks):ID P w h ks a:=by
 obtain⟨rs,e,p⟩:=t;obtain⟨_,a7,r,o,h1,h2,n,h3⟩:=(show Gg P w H h a (.tup (rs.map V.ref)) from ok a _ e)
 refine⟨o,a7.toArray,n,h1,h2,h3,?_⟩;have all:∀{rs:B2}{ks:DK}{a7:A8},Paired (λr (k:List Key)=>H r=some (.tup (k.map kV))) rs ks->Vals (rs.map V.ref) a7->Gx P w h ks a7:=by
  intro rs ks a7 p;induction p generalizing a7 with
  |nil=>intro r;cases r;exact .nil
  |@cons r k rs ks q t ih=>
   intro v;cases v with
   |@cons _ b _ bs r1 r2=>
    cases (show b=Value.ref r from r1);exact .cons (eU ok q) (ih r2)
 simpa using all p r
theorem xB{kvs:List (DK×V)}(ok:m6 P w H h)(d:RU P w H a kvs):∃xs,UM H a kvs xs/\h.DictOfH (cm P w) a xs:=by
 obtain⟨xs,x,e⟩:=d;obtain⟨⟨o,es,ep,h1,h2,h3,h4⟩,_⟩:=pC ok e;refine⟨xs,x,o,es,ep,h1,h2,h3,h4,?_,x.nd⟩;have all:∀{l:List (DK×V)}{m:List (DK×Addr×Value)},KU H l m->∀x∈m,(cm P w).is h x.1 x.2.1:=by
  intro l m q;induction q with
  |nil=>intro x hx;exact nomatch hx
  |@cons p q ps qs hq t ih=>
   intro x hx;rcases Bb.mp hx with e|hx
   ·subst e;exact fq ok (by rw[<- hq.1];exact hq.2.1)
   ·exact ih x hx
 exact all x.ku
theorem uz{xs:List (DK×Addr×Value)}(d:h.DictOfH (cm P w) a xs):Gg P w H h a (vo P w xs a):=by
 obtain⟨o,es,ep,h1,h2,h3,h4,_⟩:=d;refine⟨⟨o,es,ep,h1,h2,h3,h4⟩,⟨o,h1⟩,λg1 g2 p st=>?_⟩;obtain⟨o,es,ep,h1,r⟩:=p;exact⟨o,es,ep,st _ h1,r⟩
end
section
variable {X:Cx}{pins:A5}{σ:St}{H:Hp}{s:Shared}{a b:Addr}{v d:V}{r:Value}{kvs:List (DK×V)}{k:DK}{A:Around}{E:A3}
theorem ql{Q:Unit->Shared->Prop}(hu:A.units+2<cLine)(I:Inv X pins σ H s)(g:DU X.prog X.w H a kvs)(t:Kh H b k)(l:kvs.length<sizeLine)(rv:RelV v r)(h:∀u s',DU X.prog X.w (upd H a u) a (cU kvs k v)->Inv X pins σ (upd H a u) s'->Q () s'):wpAny (model X.prog X.w) A (setItem (.ref a) (.ref b) r) Q E s:=by
 obtain⟨_,_,e⟩:=id g;obtain⟨xs,x,dd⟩:=xB I.b9 g.rd;have hz:xs.length<=sizeLine:=by rw[<- Paired.length x.ku];exact x.few
 refine wpAny_setItem_heap (knd:=cm X.prog X.w) (hsz:=hz) hu (fq I.b9 t) dd λh' D0 hs=>h (vo X.prog X.w (storedH xs k b r) a) _ ⟨_,⟨x.sys,?_,(x.ku.put k t rv).keeps λc ys ec=>?_,?_⟩,ae⟩ ?_
 ·have:=bQ kvs k v;lia
 ·rw[aj (bB ec e (λz=>nomatch z))];exact ec
 ·obtain⟨_,_,_,_,_,_,_,_,h5⟩:=D0;exact h5
 ·exact cN I (by rw[e];exact True.intro) hs (let ⟨q,_,_,hq,_⟩:=D0;⟨q,hq⟩) (uz D0)
end
section
variable {X:Cx}{o i e f value:Expr}{pos pos' apos i4:Pos}{td ty tx tv:TE}
inductive Lr(P:Program)(w:World)(D:Ends)(σ:St)(v:V)(x:V)(y:V)(H3:Hp):Prop
 |mk a b kvs k:x=.ref a->y=.ref b->DU P w H3 a kvs->Kh H3 b k->kvs.length<sizeLine->(∀u,DU P w (upd H3 a u) a (cU kvs k v)->D.nx σ (upd H3 a u))->Lr P w D σ v x y H3
def wM (P:Program)(w:World)(td ty tv:TE):TS:=λD σ H=>tv σ H λv H1=>td σ H1 λx H2=>ty σ H2 λy H3=>Lr P w D σ v x y H3
theorem tV(hu:X.A.units+2<cLine)(ho:PE X o td)(hi:PE X i ty)(hv:PE X value tv)(hs:swapsWith value (some (.Subscript o i pos')) pos.line X.env=pure false):PS X (.Assign [.Subscript o i pos'] value pos) (wM X.prog X.w td ty tv):=by
 intro pins s σ H D I h;refine wpAny_Assign_Subscript (c6 (hv pins s σ H _ I h) λr s1 Xk=>?_) hs;obtain⟨v,H1,I1,rv,q1⟩:=Xk;refine c6 (ho pins s1 σ H1 _ I1 q1) λu s2 ⟨x,H2,I2,rx,q2⟩=>c6 (hi pins s2 σ H2 _ I2 q2) λiv s3 ⟨y,H3,I3,ry,a,b,kvs,k,ex,ey,g,t,l,q3⟩=>?_;subst ex ey;obtain rfl:u=Value.ref a:=rx;obtain rfl:iv=Value.ref b:=ry;exact ql hu I3 g t l rv λo s4 d I4=>⟨σ,_,I4,q3 o d⟩
theorem uF{P:Program}{w:World}{H:Hp}{a:Addr}(hb:sysModules<a):UM H a [] []:=⟨beq_eq_false_iff_ne.mpr (FI (Bf hb)),Bj _,.nil,Di⟩
def oh (P:Program)(w:World)(tk tv:TE):TE:=fun σ H Q=>∀p u,H p=none->DU P w (upd H p u) p []->tk σ (upd H p u) λy H1=>tv σ H1 λx H2=>∃ks b,DU P w H2 p []/\y=.ref b/\Kh H2 b ks/\∀u,DU P w (upd H2 p u) p [(ks,x)]->Q (.ref p) (upd H2 p u)
theorem ot{k v:Expr}{tk tv:TE}(hu:X.A.units+2<cLine)(hk:PE X k tk)(hv:PE X v tv):PE X (.Dict [some k] [v] pos) (oh X.prog X.w tk tv):=by
 intro pins s σ H Q I h;have I1:Inv X pins σ (upd H s.heap.objs.size (vo X.prog X.w [] s.heap.objs.size)) {s with heap:=s.heap.push {cls:=.type "dict",data:=.dict #[]},toks:=s.toks}:=I.laid (a:=s.heap.objs.size) (t':=s.toks) (λ_ _ q=>FJ _ q) (AS _) (uz (Heap.DictOfH.new _));refine wpAny_Dict_any rfl rfl (by simp) (by show 1<=15;decide) (pairTrees_cons_walk (c6 (hk pins _ σ _ _ I1 (h _ _ (I.b9.fresh (AS _)) ⟨[],uF (P:=X.prog) (w:=X.w) I.big,ae⟩)) λkv s1 Xj=>?_));obtain⟨y,H1,I2,ry,q1⟩:=Xj;refine c6 (hv pins s1 σ H1 _ I2 q1) λvv s2 ⟨x,H2,I3,rx,ks,b,g,ey,t,q2⟩=>pairTrees_nil_walk ?_;subst ey;cases (show kv=Value.ref b from ry);obtain⟨_,_,e⟩:=id g;obtain⟨xs,y,dd⟩:=xB I3.b9 g.rd;obtain⟨MV,_,rel,_⟩:=y;cases rel;unfold storeAll;rw[Ex];refine Fh (Fh (wpAny_dictSet_heap (hsz:=Bj _) (knd:=cm X.prog X.w) (show X.A.units+1<cLine by lia) (fq I3.b9 t) dd λh' D0 hs=>Fi ?_));show wpAny _ _ (storeAll s.heap.objs.size []) _ _ _;unfold storeAll;rw[List.forIn_nil];refine Fi ⟨.ref s.heap.objs.size,_,cN I3 (by rw[e];exact True.intro) hs (let ⟨q,_,_,hq,_⟩:=D0;⟨q,hq⟩) (uz D0),rfl,q2 _ ⟨_,⟨MV,by show 1<=sizeLine;decide,.cons ⟨rfl,t.keeps λc ys ec=>?_,rx⟩ .nil,by simp⟩,ae⟩⟩;rw[aj (bB ec e (λz=>nomatch z))];exact ec
end
end L2
namespace SG
open PySem PyProof.Rows
def Ly (prog:Program)(w:World)(κ:KeyKind)(kd:SortKind)(s:Shared):Prop:=∀(A:Around)(E:A3)(x y:Value)(a b:κ.α)(Q:Bool->Shared->Prop),κ.keyOf x=some a->κ.keyOf y=some b->Q (κ.blt a b) s->wpAny (model prog w) A (keyLt' kd x y) Q E s
theorem Ly.one{prog:Program}{w:World}{κ:KeyKind}{s:Shared}(h1:κ.OneLt):Ly prog w κ oneType' s:=λA E x y a b Q ha hb h=>by
 rw[keyLt'_oneType];exact h1 prog w A _ s x y a b ha hb h
def kf (κ:KeyKind)(p:Keyed):κ.α:=(κ.keyOf p.1).getD κ.dflt
def t8 (κ:KeyKind)(p:Keyed):Prop:=∃a,κ.keyOf p.1=some a
def Mb:Bool->Keyed->Array Keyed->Nat->Nat->Nat->StateT SortSt Sem (Option Nat):=sortPriv% PySem.Builtin.gallop
section
variable {prog:Program}{w:World}{A:Around}{E:A3}{s:Shared}{κ:KeyKind}{kd:SortKind}{st:SortSt}
theorem aH{arr:Array Keyed}{i:Nat}{p:Keyed}{Q:Keyed->SortSt->Prop}(e:arr[i]?=some p)(h:Q p st):wpS (model prog w) A E s (elem' arr i) Q st:=by
 rw[elem'_eq,e];exact Fk h
theorem gR{x y:Keyed}{Q:Option Bool->SortSt->Prop}(hO:Ly prog w κ kd s)(hk:kindOf st=kd)(hx:t8 κ x)(hy:t8 κ y)(h:Q (some (κ.blt (kf κ x) (kf κ y))) st):wpS (model prog w) A E s (lt' x y) Q st:=by
 obtain⟨a,ha⟩:=hx;obtain⟨b,hb⟩:=hy;unfold kf at h;rw[ha,hb] at h;rw[lt'_eq];refine Fj (wpS_get ?_);rw[hk];exact Fj (FR (FO (hO A _ x.1 y.1 a b _ ha hb ⟨rfl,Fk h⟩)))
theorem bM{left:Bool}{key:Keyed}{arr:Array Keyed}{base n hint:Nat}{Q:Option Nat->SortSt->Prop}(hO:Ly prog w κ kd s)(hk:kindOf st=kd)(E1:t8 κ key)(ps:Nat->Keyed)(Zf:∀i,i<n->arr[base+i]?=some (ps i)/\t8 κ (ps i))(hn:hint<n)(B:Nat->Bool)
  (hB:∀i,B i=if left=true then κ.blt (kf κ (ps i)) (kf κ key) else !κ.blt (kf κ key) (kf κ (ps i)))(mono:∀i j,i<=j->j<n->B j=true->B i=true)
  (h:∀k,k<=n->(∀i,i<k->B i=true)->(∀i,k<=i->i<n->B i=false)->Q (some k) st):wpS (model prog w) A E s (Mb left key arr base n hint) Q st:=by
 have O3:∀i j,i<=j->j<n->B i=false->B j=false:=λi j k5 hj hi=>by
  cases e:B j with
  |false=>rfl
  |true=>rw[mono i j k5 hj e] at hi;cases hi
 have hb:∀i,i < n->∀Q':Option Bool->SortSt->Prop,Q' (some (B i)) st->wpS (model prog w) A E s (do
   let x <- elem' arr (base+i)
   if left=true then lt' x key else do
    let r <- lt' key x
    pure (Option.map (λx=>!x) r)) Q' st:=λi hi Q' q=>by
  obtain⟨e,hp⟩:=Zf i hi;refine Fj (aH e ?_);rw[hB i] at q;cases left with
  |true=>
   simp only[if_true] at q ⊢;exact gR hO hk hp E1 q
  |false=>
   simp only[BV,if_false] at q ⊢;exact Fj (gR hO hk E1 hp (Fk q))
 refine Fj (hb hint hn _ ?_);cases hr:B hint with
 |true=>
  refine Fj (wpS_mono (wpS_forRange (I:=λx c a8=>a8=st/\c.1=none/\x+1<=c.2.2/\c.2.1 < c.2.2/\hint+c.2.1 < n/\B (hint+c.2.1)=true)
   (Q:=λc a8=>a8=st/\c.1=none/\c.2.1 < c.2.2/\hint+c.2.1 < n/\B (hint+c.2.1)=true/\(n - hint<=c.2.2\/B (hint+c.2.2)=false)) ?step ?fin ⟨rfl,rfl,by show 0+1<=1; lia,by show 0 < 1; lia,by show hint+0 < n; exact hn,by show B (hint+0)=true; exact hr⟩) ?post)
  case fin=>
   rintro⟨c0,l,o⟩ a8 ⟨rfl,e0,a1,a2,a3,a4⟩;exact⟨rfl,e0,a2,a3,a4,.inl (by have:max 0 n+1<=o:=a1;show n-hint<=o;lia)⟩
  case post=>
   rintro⟨c0,l,o⟩ a8 ⟨rfl,e0,a2,a3,a4,a5⟩;cases e0;dsimp only at a2 a3 a4 a5 ⊢;have h1:hint+l+1<=hint+min o (n-hint):=by lia
   have h2:hint+min o (n-hint)<=n:=by lia
   have h3:∀i,i<hint+l+1->B i=true:=λi hi=>mono i _ (by lia) a3 a4;have h4:∀i,hint+min o (n-hint)<=i->i<n->B i=false:=λi hi Of=>by
    rcases a5 with a5|a5
    ·lia
    ·by_cases hm:o<=n-hint
     ·exact O3 _ i (by lia) Of a5
     ·lia
   generalize hint+l+1=lo at h1 h3 ⊢;generalize hint+min o (n-hint)=hi at h1 h2 h4 ⊢
   refine Fj (wpS_mono (wpS_forRange (I:=λx c J6=>J6=a8/\c.1=none/\c.2.1<=c.2.2/\c.2.2<=n/\c.2.2 - c.2.1<=n - x/\(∀i,i < c.2.1->B i=true)/\(∀i,c.2.2<=i->i < n->B i=false))
    (Q:=λc J6=>J6=a8/\c.1=none/\c.2.1=c.2.2/\c.2.2<=n/\(∀i,i < c.2.2->B i=true)/\(∀i,c.2.2<=i->i < n->B i=false)) ?Nh ?Qs ⟨rfl,rfl,h1,h2,(by show hi - lo<=n - 0; lia),h3,h4⟩) ?N4)
   case Qs=>
    rintro⟨c0,l,r⟩ a8 ⟨rfl,e0,a1,a2,a3,a4,a5⟩;have Qy:r-l<=n-max 0 n:=a3;have e:l=r:=by
     have:l<=r:=a1;lia
    exact⟨rfl,e0,e,a2,by rw[e] at a4;exact a4,a5⟩
   case N4=>
    rintro⟨c0,l,r⟩ a8 ⟨rfl,e0,a1,a2,a4,a5⟩;cases e0;exact Fk (h r a2 a4 a5)
   case Nh=>
    rintro x ⟨c0,l,r⟩ a8 _ hx ⟨rfl,e0,a1,a2,a3,a4,a5⟩;cases e0;dsimp only at a1 a2 a3 a4 a5 ⊢;by_cases z6:l≥r
    ·rw[Fn z6];have e:l=r:=by lia
     subst e;exact Fk ⟨rfl,rfl,rfl,a2,a4,a5⟩
    ·rw[Fm z6];refine Fj (hb _ (by lia) _ ?_);cases hm:B (l+(r-l)/2) with
     |true=>
      simp only[if_true];exact Fk ⟨rfl,rfl,by show l+(r-l)/2+1<=r;lia,a2,by show r-(l+(r-l)/2+1)<=n-(x+1);lia,λi hi=>mono i _ (by have:i<l+(r-l)/2+1:=hi;lia) (by lia) hm,a5⟩
     |false=>
      simp only[BV,if_false];exact Fk ⟨rfl,rfl,by show l<=l+(r-l)/2;lia,by show l+(r-l)/2<=n;lia,by show l+(r-l)/2-l<=n-(x+1);lia,a4,λi hi Of=>O3 _ i hi Of hm⟩
  case step=>
   rintro x ⟨c0,l,o⟩ a8 _ hx ⟨rfl,e0,a1,a2,a3,a4⟩;cases e0;dsimp only at a1 a2 a3 a4 ⊢;by_cases z6:o≥n-hint
   ·rw[Fn z6];exact Fk ⟨rfl,rfl,a2,a3,a4,.inl z6⟩
   ·rw[Fm z6];refine Fj (hb _ (by lia) _ ?_);cases hm:B (hint+o) with
    |true=>exact Fk ⟨rfl,rfl,by show x+1+1<=2*o+1;lia,by show o<2*o+1;lia,by show hint+o<n;lia,hm⟩
    |false=>exact Fk ⟨rfl,rfl,a2,a3,a4,.inr hm⟩
 |false=>
  refine Fj (wpS_mono (wpS_forRange (I:=λx c a8=>a8=st/\c.1=none/\x+1<=c.2.2/\c.2.1 < c.2.2/\c.2.1<=hint/\B (hint - c.2.1)=false)
   (Q:=λc a8=>a8=st/\c.1=none/\c.2.1 < c.2.2/\c.2.1<=hint/\B (hint - c.2.1)=false/\(hint+1<=c.2.2\/B (hint - c.2.2)=true)) ?step ?fin ⟨rfl,rfl,by show 0+1<=1; lia,by show 0 < 1; lia,by show 0<=hint; lia,by show B (hint - 0)=false; exact hr⟩) ?post)
  case fin=>
   rintro⟨c0,l,o⟩ a8 ⟨rfl,e0,a1,a2,a3,a4⟩;exact⟨rfl,e0,a2,a3,a4,.inl (by have:max 0 n+1<=o:=a1;show hint+1<=o;lia)⟩
  case post=>
   rintro⟨c0,l,o⟩ a8 ⟨rfl,e0,a2,a3,a4,a5⟩;cases e0;dsimp only at a2 a3 a4 a5 ⊢;have h1:hint+1-min o (hint+1)<=hint-l:=by lia
   have h2:hint-l<=n:=by lia
   have h3:∀i,i<hint+1-min o (hint+1)->B i=true:=λi hi=>by
    rcases a5 with a5|a5
    ·lia
    ·by_cases hm:o<=hint
     ·exact mono i _ (by lia) (by lia) a5
     ·lia
   have h4:∀i,hint-l<=i->i<n->B i=false:=λi hi Of=>O3 _ i (by lia) Of a4;generalize hint+1-min o (hint+1)=lo at h1 h3 ⊢;generalize hint-l=hi at h1 h2 h4 ⊢
   refine Fj (wpS_mono (wpS_forRange (I:=λx c J6=>J6=a8/\c.1=none/\c.2.1<=c.2.2/\c.2.2<=n/\c.2.2 - c.2.1<=n - x/\(∀i,i < c.2.1->B i=true)/\(∀i,c.2.2<=i->i < n->B i=false))
    (Q:=λc J6=>J6=a8/\c.1=none/\c.2.1=c.2.2/\c.2.2<=n/\(∀i,i < c.2.2->B i=true)/\(∀i,c.2.2<=i->i < n->B i=false)) ?Nh ?Qs ⟨rfl,rfl,h1,h2,(by show hi - lo<=n - 0; lia),h3,h4⟩) ?N4)
   case Qs=>
    rintro⟨c0,l,r⟩ a8 ⟨rfl,e0,a1,a2,a3,a4,a5⟩;have Qy:r-l<=n-max 0 n:=a3;have e:l=r:=by
     have:l<=r:=a1;lia
    exact⟨rfl,e0,e,a2,by rw[e] at a4;exact a4,a5⟩
   case N4=>
    rintro⟨c0,l,r⟩ a8 ⟨rfl,e0,a1,a2,a4,a5⟩;cases e0;exact Fk (h r a2 a4 a5)
   case Nh=>
    rintro x ⟨c0,l,r⟩ a8 _ hx ⟨rfl,e0,a1,a2,a3,a4,a5⟩;cases e0;dsimp only at a1 a2 a3 a4 a5 ⊢;by_cases z6:l≥r
    ·rw[Fn z6];have e:l=r:=by lia
     subst e;exact Fk ⟨rfl,rfl,rfl,a2,a4,a5⟩
    ·rw[Fm z6];refine Fj (hb _ (by lia) _ ?_);cases hm:B (l+(r-l)/2) with
     |true=>
      simp only[if_true];exact Fk ⟨rfl,rfl,by show l+(r-l)/2+1<=r;lia,a2,by show r-(l+(r-l)/2+1)<=n-(x+1);lia,λi hi=>mono i _ (by have:i<l+(r-l)/2+1:=hi;lia) (by lia) hm,a5⟩
     |false=>
      simp only[BV,if_false];exact Fk ⟨rfl,rfl,by show l<=l+(r-l)/2;lia,by show l+(r-l)/2<=n;lia,by show l+(r-l)/2-l<=n-(x+1);lia,a4,λi hi Of=>O3 _ i hi Of hm⟩
  case step=>
   rintro x ⟨c0,l,o⟩ a8 _ hx ⟨rfl,e0,a1,a2,a3,a4⟩;cases e0;dsimp only at a1 a2 a3 a4 ⊢;by_cases z6:o≥hint+1
   ·rw[Fn z6];exact Fk ⟨rfl,rfl,a2,a3,a4,.inl z6⟩
   ·rw[Fm z6];refine Fj (hb _ (by lia) _ ?_);cases hm:B (hint-o) with
    |true=>exact Fk ⟨rfl,rfl,a2,a3,a4,.inr hm⟩
    |false=>exact Fk ⟨rfl,rfl,by show x+1+1<=2*o+1;lia,by show o<2*o+1;lia,by show o<=hint;lia,hm⟩
end
def kl (κ:KeyKind)(x y:Keyed):Prop:=κ.kle (kf κ x) (kf κ y)
theorem kl.trans{κ:KeyKind}{x y z:Keyed}(a:kl κ x y)(b:kl κ y z):kl κ x z:=KeyOrd.kle_trans a b
structure MI(κ:KeyKind)(A B out ra rb:List Keyed):Prop where
 perm:(out++(ra++rb)).Perm (A++B)
 so:out.Pairwise (kl κ)
 sa:ra.Pairwise (kl κ)
 sb:rb.Pairwise (kl κ)
 le:∀x∈out,∀y∈ra++rb,kl κ x y
def Fin (κ:KeyKind)(A B r:List Keyed):Prop:=r.Perm (A++B)/\r.Pairwise (kl κ)
section
variable {κ:KeyKind}{A B out ra rb:List Keyed}
theorem pD{l:List Keyed}{p:Keyed}(h:l.Pairwise (kl κ))(e:l[0]?=some p):∀y∈l,kl κ p y:=λy hy=>by
 cases l with
 |nil=>cases e
 |cons a r=>
  cases e;rcases Bb.mp hy with rfl|hy
  ·exact FD _
  ·exact(DI.mp h).1 y hy
theorem MI.KZ(h:MI κ A B out ra rb)(k:Nat)(hk:∀x∈ra.take k,∀y∈rb,kl κ x y):MI κ A B (out++ra.take k) (ra.drop k) rb:=by
 have e:ra=ra.take k++ra.drop k:=(Ca k ra).symm;have sa:=h.sa;rw[e] at sa;obtain⟨s1,s2,s3⟩:=BO.mp sa;refine⟨?_,BO.mpr ⟨h.so,s1,λx hx y hy=>h.le x hx y (Bu _ (Cq hy))⟩,s2,h.sb,λx hx y hy=>?_⟩
 ·rw[Bz,<- Bz (ra.take k),Ca];exact h.perm
 ·rcases Ba.mp hx with hx|hx
  ·rcases Ba.mp hy with hy|hy
   ·exact h.le x hx y (Bu _ (Cr hy))
   ·exact h.le x hx y (Bc _ hy)
  ·rcases Ba.mp hy with hy|hy
   ·exact s3 x hx y hy
   ·exact hk x hx y hy
theorem MI.KY(h:MI κ A B out ra rb)(k:Nat)(hk:∀x∈rb.take k,∀y∈ra,kl κ x y):MI κ A B (out++rb.take k) ra (rb.drop k):=by
 have e:rb=rb.take k++rb.drop k:=(Ca k rb).symm;have sb:=h.sb;rw[e] at sb;obtain⟨s1,s2,s3⟩:=BO.mp sb;refine⟨?_,BO.mpr ⟨h.so,s1,λx hx y hy=>h.le x hx y (Bc _ (Cq hy))⟩,h.sa,s2,λx hx y hy=>?_⟩
 ·refine List.Perm.trans ?_ h.perm;rw[Bz];refine List.Perm.append_left _ ?_;rw[<- Bz];refine(DG.append_right _).trans ?_;rw[Bz,Ca]
 ·rcases Ba.mp hx with hx|hx
  ·rcases Ba.mp hy with hy|hy
   ·exact h.le x hx y (Bu _ hy)
   ·exact h.le x hx y (Bc _ (Cr hy))
  ·rcases Ba.mp hy with hy|hy
   ·exact hk x hx y hy
   ·exact s3 x hx y hy
theorem MI.last(h:MI κ A B out ra rb)(hk:∀x∈rb,∀y∈ra,kl κ x y):Fin κ A B (out++rb++ra):=by
 refine⟨?_,BO.mpr ⟨BO.mpr ⟨h.so,h.sb,λx hx y hy=>h.le x hx y (Bc _ hy)⟩,h.sa,λx hx y hy=>?_⟩⟩
 ·rw[Bz];exact(DG.append_left _).trans h.perm
 ·rcases Ba.mp hx with hx|hx
  ·exact h.le x hx y (Bu _ hy)
  ·exact hk x hx y hy
theorem MI.done(h:MI κ A B out ra rb)(hk:∀x∈ra,∀y∈rb,kl κ x y):Fin κ A B (out++ra++rb):=by
 refine⟨by rw[Bz];exact h.perm,BO.mpr ⟨BO.mpr ⟨h.so,h.sa,λx hx y hy=>h.le x hx y (Bu _ hy)⟩,h.sb,λx hx y hy=>?_⟩⟩;rcases Ba.mp hx with hx|hx
 ·exact h.le x hx y (Bc _ hy)
 ·exact hk x hx y hy
end
section
variable {α:Type}
theorem eD(a:Array α)(i:Nat):(a.extract i a.size).toList=a.toList.drop i:=by
 rw[Ee];show(a.toList.drop i).take (a.size-i)=_;exact BB (by rw[By,Bk];exact AS _)
theorem pJ(a:Array α)(i k:Nat):(a.extract i (i+k)).toList=(a.toList.drop i).take k:=by
 rw[Ee];show(a.toList.drop i).take (i+k-i)=_;rw[Nat.add_sub_cancel_left]
theorem dz{l:List α}{i:Nat}{p:α}(e:l[i]?=some p):(l.drop i).take 1=[p]:=by
 have hi:=(Be.mp e).1;rw[CL hi,List.take_succ_cons,Dq];exact congrArg (λx=>[x]) (Be.mp e).2
theorem drop_zero{l:List α}{i:Nat}:(l.drop i)[0]?=l[i]?:=by rw[Ci,BR]
end
section
variable {prog:Program}{w:World}{A:Around}{E:A3}{s:Shared}{κ:KeyKind}{kd:SortKind}{st:SortSt}
theorem az{α:Type}{c:Prop} [Decidable c]{m n:StateT SortSt Sem α}{Q:α->SortSt->Prop}(h1:c->wpS (model prog w) A E s m Q st)(h2:¬c->wpS (model prog w) A E s n Q st):wpS (model prog w) A E s (if c then m else n) Q st:=by
 by_cases h:c
 ·rw[Fn h];exact h1 h
 ·rw[Fm h];exact h2 h
structure Gu(st a8:SortSt):Prop where
 kind:kindOf a8=kindOf st
 arr:arrOf a8=arrOf st
 pend:pendingOf a8=pendingOf st
 fail:failedOf a8=failedOf st
theorem Gu.refl(st:SortSt):Gu st st:=⟨rfl,rfl,rfl,rfl⟩
theorem Gu.trans{a b c:SortSt}(h:Gu a b)(g:Gu b c):Gu a c:=⟨g.kind.trans h.kind,g.arr.trans h.arr,g.pend.trans h.pend,g.fail.trans h.fail⟩
theorem Gu.set(st:SortSt)(g:Nat):Gu st (SortSt.mk' (kindOf st) (arrOf st) (pendingOf st) g (failedOf st)):=⟨rfl,rfl,rfl,rfl⟩
theorem gE{g:Nat}{Q:Unit->SortSt->Prop}(h:∀a8,Gu st a8->Q () a8):wpS (model prog w) A E s ((sortPriv% PySem.Builtin.setMinGallop) g) Q st:=wpS_modify (h _ (Gu.set st g))
def La:Array Keyed->Array Keyed->StateT SortSt Sem (Array Keyed):=sortPriv% PySem.Builtin.mergeLo
theorem jD{a b:Array Keyed}{Q:Array Keyed->SortSt->Prop}(hO:Ly prog w κ kd s)(hk:kindOf st=kd)(ka:∀p∈a.toList,t8 κ p)(kb:∀p∈b.toList,t8 κ p)(sa:a.toList.Pairwise (kl κ))(sb:b.toList.Pairwise (kl κ))
  (na:1<=a.size)(nb:1<=b.size)(h0:∀y∈a.toList,∀p,b[0]?=some p->kl κ p y)(hl:∀x∈b.toList,∀p,a[a.size-1]?=some p->kl κ x p)
  (h:∀r a8,Gu st a8->Fin κ a.toList b.toList r.toList->Q r a8):wpS (model prog w) A E s (La a b) Q st:=by
 have ea:∀i,i<a.size->∃p,a[i]?=some p/\a.toList[i]?=some p/\t8 κ p:=λi hi=>by
  have e:a.toList[i]?=some a[i]:=by rw[Bn];exact BD hi
  exact⟨a[i],BD hi,e,ka _ (Bp e)⟩
 have eb:∀i,i<b.size->∃p,b[i]?=some p/\b.toList[i]?=some p/\t8 κ p:=λi hi=>by
  have e:b.toList[i]?=some b[i]:=by rw[Bn];exact BD hi
  exact⟨b[i],BD hi,e,kb _ (Bp e)⟩
 have RC:∀{ia:Nat},ia+1=a.size->∀x∈b.toList,∀y∈a.toList.drop ia,kl κ x y:=λ{ia} hi x hx y hy=>by
  obtain⟨p,e1,e2,_⟩:=ea ia (by lia);have hd:a.toList.drop ia=[p]:=by
   rw[<- dz e2,BB (by rw[By,Bk];lia)]
  rw[hd] at hy;rw[AY.mp hy];exact hl x hx p (by rw[show a.size-1=ia by lia];exact e1)
 have O0:∀{out:Array Keyed}{ia ib:Nat},MI κ a.toList b.toList out.toList (a.toList.drop ia) (b.toList.drop ib)->ia+1=a.size->Fin κ a.toList b.toList (out++b.extract ib b.size++a.extract ia a.size).toList:=λ{out ia ib} m hi=>by
  rw[BZ,BZ,eD,eD];exact m.last λx hx y hy=>RC hi x (Cr hx) y hy
 have C8:∀{out:Array Keyed}{ia ib:Nat},MI κ a.toList b.toList out.toList (a.toList.drop ia) (b.toList.drop ib)->ib=b.size->Fin κ a.toList b.toList (out++a.extract ia a.size++b.extract ib b.size).toList:=λ{out ia ib} m hi=>by
  rw[BZ,BZ,eD,eD];refine m.done λx hx y hy=>?_;rw[CM (by rw[Bk];lia)] at hy;cases hy
 have TH:∀{out:Array Keyed}{ia ib k:Nat}{q:Keyed},MI κ a.toList b.toList out.toList (a.toList.drop ia) (b.toList.drop ib)->b.toList[ib]?=some q->(∀i x,i<k->a.toList[ia+i]?=some x->kl κ x q)->MI κ a.toList b.toList (out.toList++(a.toList.drop ia).take k) (a.toList.drop (ia+k)) (b.toList.drop ib):=λ{out ia ib k q} m eq hk=>by
  have:=m.KZ k λx hx y hy=>by
   obtain⟨i,hi,e⟩:=Cv.mp hx;rw[Bs] at hi;have e':a.toList[ia+i]?=some x:=by
    rw[<- Ci,<- e,List.getElem_take];exact AX (by lia)
   exact(hk i x (by lia) e').trans (pD m.sb (drop_zero.trans eq) y hy)
  rwa [EG] at this
 have TF:∀{out:Array Keyed}{ia ib k:Nat}{q:Keyed},MI κ a.toList b.toList out.toList (a.toList.drop ia) (b.toList.drop ib)->a.toList[ia]?=some q->(∀i x,i<k->b.toList[ib+i]?=some x->kl κ x q)->MI κ a.toList b.toList (out.toList++(b.toList.drop ib).take k) (a.toList.drop ia) (b.toList.drop (ib+k)):=λ{out ia ib k q} m eq hk=>by
  have:=m.KY k λx hx y hy=>by
   obtain⟨i,hi,e⟩:=Cv.mp hx;rw[Bs] at hi;have e':b.toList[ib+i]?=some x:=by
    rw[<- Ci,<- e,List.getElem_take];exact AX (by lia)
   exact(hk i x (by lia) e').trans (pD m.sa (drop_zero.trans eq) y hy)
  rwa [EG] at this
 have G4:∀{out:Array Keyed}{ia ib:Nat}{p q:Keyed},MI κ a.toList b.toList out.toList (a.toList.drop ia) (b.toList.drop ib)->a.toList[ia]?=some p->b.toList[ib]?=some q->kl κ p q->MI κ a.toList b.toList (out.push p).toList (a.toList.drop (ia+1)) (b.toList.drop ib):=λ{out ia ib p q} m ep eq hk=>by
  have:=TH (k:=1) m eq λi x hi e=>by
   have:i=0:=by lia
   subst this;rw[BR,ep] at e;cases e;exact hk
  rwa [dz ep,<- CZ] at this
 have G3:∀{out:Array Keyed}{ia ib:Nat}{p q:Keyed},MI κ a.toList b.toList out.toList (a.toList.drop ia) (b.toList.drop ib)->a.toList[ia]?=some p->b.toList[ib]?=some q->kl κ q p->MI κ a.toList b.toList (out.push q).toList (a.toList.drop ia) (b.toList.drop (ib+1)):=λ{out ia ib p q} m ep eq hk=>by
  have:=TF (k:=1) m ep λi x hi e=>by
   have:i=0:=by lia
   subst this;rw[BR,eq] at e;cases e;exact hk
  rwa [dz eq,<- CZ] at this
 refine Fj (FR (FS ⟨rfl,?_⟩));obtain⟨q0,f1,f2,f3⟩:=eb 0 (by lia);refine Fj (aH f1 ?_);have m0:MI κ a.toList b.toList (#[q0]:Array Keyed).toList (a.toList.drop 0) (b.toList.drop 1):=by
  have start:MI κ a.toList b.toList (#[]:Array Keyed).toList (a.toList.drop 0) (b.toList.drop 0):=⟨.refl _,.nil,sa,sb,λx hx=>by cases hx⟩
  have:=start.KY 1 λx hx y hy=>by
   have:(b.toList.drop 0).take 1=[q0]:=dz f2;rw[this] at hx;rw[AY.mp hx];exact h0 y hy q0 f1
  rw[dz f2,EG] at this;exact this
 refine az (λe=>Fk (h _ st (.refl st) (C8 m0 (by simpa using e)))) λe1=>az (λe=>Fk (h _ st (.refl st) (O0 m0 (by simpa using e)))) λe2=>?_;have Pk:1<b.size:=by
  have:¬1=b.size:=by simpa using e1
  lia
 have OV:0+1<a.size:=by
  have:¬0+1=a.size:=by simpa using e2
  lia
 refine Fj (wpS_get ?_)
 refine Fj (wpS_mono (wpS_forRange (I:=λx c a8=>Gu st a8/\c.1=none/\MI κ a.toList b.toList c.2.1.toList (a.toList.drop c.2.2.1) (b.toList.drop c.2.2.2.1)/\c.2.2.1+1 < a.size/\c.2.2.2.1 < b.size/\x < c.2.2.1+c.2.2.2.1)
  (Q:=λc a8=>Gu st a8/\∃r,c.1=some r/\Fin κ a.toList b.toList r.toList) ?step ?fin ⟨.refl st,rfl,m0,OV,Pk,by show 0 < 0+1; lia⟩) ?post)
 case fin=>
  rintro⟨c0,out,ia,ib,mg⟩ a8 ⟨_,_,_,a1,a2,a3⟩;exfalso;have a1':ia+1<a.size:=a1;have a2':ib<b.size:=a2;have Qy:max 0 (a.size+b.size)<ia+ib:=a3;lia
 case post=>
  rintro⟨c0,out,ia,ib,mg⟩ a8 ⟨g,r,e,f⟩;cases e;exact Fk (h r a8 g f)
 case step=>
  rintro x ⟨c0,out,ia,ib,mg⟩ o8 _ hx ⟨g1,e0,m1,a1,a2,a3⟩;cases e0;dsimp only at m1 a1 a2 a3
  refine Fj (wpS_mono (wpS_forRange (I:=λy c a8=>Gu st a8/\c.1=none/\MI κ a.toList b.toList c.2.1.toList (a.toList.drop c.2.2.1) (b.toList.drop c.2.2.2.1)/\c.2.2.1+1 < a.size/\c.2.2.2.1 < b.size/\x+y < c.2.2.1+c.2.2.2.1)
   (Q:=λc a8=>Gu st a8/\((∃r,c.1=some r/\Fin κ a.toList b.toList r.toList)\/(c.1=none/\MI κ a.toList b.toList c.2.1.toList (a.toList.drop c.2.2.1) (b.toList.drop c.2.2.2.1)/\c.2.2.1+1 < a.size/\c.2.2.2.1 < b.size/\x < c.2.2.1+c.2.2.2.1))) ?Nc ?Qq ⟨g1,rfl,m1,a1,a2,by show x+0 < ia+ib; lia⟩) ?postA)
  case Qq=>
   rintro⟨c0,out,ia,ib,ac,bc⟩ a8 ⟨_,_,_,a1,a2,a3⟩;exfalso;have a1':ia+1<a.size:=a1;have a2':ib<b.size:=a2;have Qy:x+max 0 (a.size+b.size)<ia+ib:=a3;lia
  case Nc=>
   rintro y ⟨c0,out,ia,ib,ac,bc⟩ c9 _ hy ⟨g2,e0,m2,a1,a2,a3⟩;cases e0;dsimp only at m2 a1 a2 a3;obtain⟨q,q1,q2,q3⟩:=eb ib a2;obtain⟨p,p1,p2,p3⟩:=ea ia (by lia);refine Fj (aH q1 (Fj (aH p1 (Fj (gR hO (g2.kind.trans hk) q3 p3 ?_)))));cases d5:κ.blt (kf κ q) (kf κ p) with
   |true=>
    refine Fj (aH q1 ?_);have m3:=G3 m2 p2 q2 (FE d5);refine az (λe=>Fk ⟨g2,.inl ⟨_,rfl,C8 m3 (by simpa using e)⟩⟩) λe=>?_;have e':ib+1<b.size:=by
     have:¬ib+1=b.size:=by simpa using e
     lia
    exact az (λ_=>Fk ⟨g2,.inr ⟨rfl,m3,a1,e',by show x<ia+(ib+1);lia⟩⟩) λ_=>Fk ⟨g2,rfl,m3,a1,e',by show x+(y+1)<ia+(ib+1);lia⟩
   |false=>
    refine Fj (aH p1 ?_);have m3:=G4 m2 p2 q2 d5;refine az (λe=>Fk ⟨g2,.inl ⟨_,rfl,O0 m3 (by simpa using e)⟩⟩) λe=>?_;have e':ia+1+1<a.size:=by
     have:¬ia+1+1=a.size:=by simpa using e
     lia
    exact az (λ_=>Fk ⟨g2,.inr ⟨rfl,m3,e',a2,by show x<ia+1+ib;lia⟩⟩) λ_=>Fk ⟨g2,rfl,m3,e',a2,by show x+(y+1)<ia+1+ib;lia⟩
  case postA=>
   rintro⟨c0,out,ia,ib,ac,bc⟩ c9 ⟨g2,z⟩;rcases z with ⟨r,e,f⟩|⟨e0,m2,a1,a2,a3⟩
   ·cases e;exact Fk ⟨g2,r,rfl,f⟩
   cases e0;dsimp only at m2 a1 a2 a3;refine Fj (FR (FS ⟨rfl,?_⟩))
   refine Fj (wpS_mono (wpS_forRange (I:=λy c a8=>Gu st a8/\c.1=none/\MI κ a.toList b.toList c.2.1.toList (a.toList.drop c.2.2.1) (b.toList.drop c.2.2.2.1)/\c.2.2.1+1 < a.size/\c.2.2.2.1 < b.size/\x+y < c.2.2.1+c.2.2.2.1)
    (Q:=λc a8=>Gu st a8/\((∃r,c.1=some r/\Fin κ a.toList b.toList r.toList)\/(c.1=none/\MI κ a.toList b.toList c.2.1.toList (a.toList.drop c.2.2.1) (b.toList.drop c.2.2.2.1)/\c.2.2.1+1 < a.size/\c.2.2.2.1 < b.size/\x+1 < c.2.2.1+c.2.2.2.1))) ?M9 ?Qp ⟨g2,rfl,m2,a1,a2,by show x+0 < ia+ib; lia⟩) ?N3)
   case Qp=>
    rintro⟨c0,out,ia,ib,RA,ac,bc⟩ a8 ⟨_,_,_,a1,a2,a3⟩;exfalso;have a1':ia+1<a.size:=a1;have a2':ib<b.size:=a2;have Qy:x+max 0 (a.size+b.size)<ia+ib:=a3;lia
   case N3=>
    rintro⟨c0,out,ia,ib,RA,ac,bc⟩ j4 ⟨g3,z⟩;rcases z with ⟨r,e,f⟩|⟨e0,m3,a1,a2,a3⟩
    ·cases e;exact Fk ⟨g3,r,rfl,f⟩
    cases e0;exact Fj (wpS_modify (Fk ⟨g3.trans (Gu.set j4 _),rfl,m3,a1,a2,a3⟩))
   case M9=>
    rintro y ⟨c0,out,ia,ib,RA,ac,bc⟩ j4 _ hy ⟨g3,e0,m3,a1,a2,a3⟩;cases e0;dsimp only at m3 a1 a2 a3;obtain⟨q,q1,q2,q3⟩:=eb ib a2;refine az (λ_=>?_) λ_=>?_
    all_goals (
     refine Fj (gE λj1 Zx=>?_);have g4:=g3.trans Zx;refine Fj (aH q1 (Fj (bM (κ:=κ) (base:=ia) (n:=a.size-ia) (hint:=0) hO (g4.kind.trans hk) q3 (λi=>(a[ia+i]?).getD q) (λi hi=>?_) (by lia) (λi=>!κ.blt (kf κ q) (kf κ ((a[ia+i]?).getD q))) (λi=>rfl) (λi j k5 hj hB=>?_) λk YO QX QW=>?_)))
     ·obtain⟨p,p1,p2,p3⟩:=ea (ia+i) (by lia);rw[p1];exact⟨rfl,p3⟩
     ·obtain⟨p,p1,p2,p3⟩:=ea (ia+i) (by lia);obtain⟨r,r1,r2,r3⟩:=ea (ia+j) (by lia);rw[r1] at hB;rw[p1];have hr:kl κ r q:=by
       show κ.blt (kf κ q) (kf κ r)=false;simpa using hB
      have hp:kl κ p r:=by
       by_cases e:i=j
       ·subst e;rw[p1] at r1;cases r1;exact FD _
       ·have h1:=CN.mp sa (ia+i) (ia+j) (by rw[Bk];lia) (by rw[Bk];lia) (by lia);rw[(Be.mp p2).2,(Be.mp r2).2] at h1;exact h1
      have:=hp.trans hr;show(!κ.blt (kf κ q) (kf κ p))=true;have h2:κ.blt (kf κ q) (kf κ p)=false:=this;rw[h2];rfl
     have YT:∀i x,i<k->a.toList[ia+i]?=some x->kl κ x q:=λi x hi e=>by
      have:=QX i hi;rw[<- Bn,e] at this;show κ.blt (kf κ q) (kf κ x)=false;simpa using this
     have mA:=TH m3 q2 YT;have hq:∀p,a.toList[ia+k]?=some p->kl κ q p:=λp e=>by
      have hi:=(Be.mp e).1;rw[Bk] at hi;have:=QW k (AS _) (by lia);rw[<- Bn,e] at this;exact FE (show κ.blt (kf κ q) (kf κ p)=true by simpa using this)
     apply az
     case' h1=>
      intro L0;rw[<- pJ,<- BZ] at mA;refine az (λe=>Fk ⟨g4,.inl ⟨_,rfl,O0 mA (by simpa using e)⟩⟩) λe=>az (λe2=>Fk ⟨g4,.inl ⟨_,rfl,?_⟩⟩) λe2=>?_;have e2':ia+k=a.size:=by simpa using e2
      ·rw[BZ,BZ,eD,eD];refine mA.done λx hx y hy=>?_;rw[CM (by rw[Bk];lia)] at hx;cases hx
      have M3:ia+k+1<a.size:=by
       have:¬ia+k+1=a.size:=by simpa using e
       have:¬ia+k=a.size:=by simpa using e2
       lia
      have OO:x+y<ia+k+ib:=by lia
      generalize out++a.extract ia (ia+k)=o2 at mA ⊢;generalize ia+k=i2 at mA M3 OO hq ⊢
     case' h2=>
      intro L0;have k0:k=0:=by lia
      subst k0;rw[Dq,BJ,BR] at mA;rw[BR] at hq;have M3:ia+1<a.size:=a1;have OO:x+y<ia+ib:=a3;generalize out=o2 at mA ⊢;generalize ia=i2 at mA M3 OO hq ⊢
     all_goals (
      obtain⟨p,p1,p2,p3⟩:=ea i2 (by lia);refine Fj (aH q1 ?_);have mB:=G3 mA p2 q2 (hq p p2);refine az (λe=>Fk ⟨g4,.inl ⟨_,rfl,C8 mB (by simpa using e)⟩⟩) λe=>?_;have e':ib+1<b.size:=by
       have:¬ib+1=b.size:=by simpa using e
       lia
      refine Fj (aH p1 (Fj (bM (κ:=κ) (base:=ib+1) (n:=b.size-(ib+1)) (hint:=0) hO (g4.kind.trans hk) p3 (λi=>(b[ib+1+i]?).getD p) (λi hi=>?_) (by lia) (λi=>κ.blt (kf κ ((b[ib+1+i]?).getD p)) (kf κ p)) (λi=>rfl) (λi j k5 hj hB=>?_) λk2 P9 OB Tf=>?_)))
      ·obtain⟨r,r1,r2,r3⟩:=eb (ib+1+i) (by lia);rw[r1];exact⟨rfl,r3⟩
      ·obtain⟨u,u1,u2,u3⟩:=eb (ib+1+i) (by lia);obtain⟨r,r1,r2,r3⟩:=eb (ib+1+j) (by lia);rw[r1] at hB;rw[u1];have hp:kl κ u r:=by
        by_cases e:i=j
        ·subst e;rw[u1] at r1;cases r1;exact FD _
        ·have h1:=CN.mp sb (ib+1+i) (ib+1+j) (by rw[Bk];lia) (by rw[Bk];lia) (by lia);rw[(Be.mp u2).2,(Be.mp r2).2] at h1;exact h1
       exact KeyOrd.klt_of_kle_of_klt hp hB
      have YS:∀i x,i<k2->b.toList[ib+1+i]?=some x->kl κ x p:=λi x hi e=>by
       have:=OB i hi;rw[<- Bn,e] at this;exact FE this
      have mC:=TF mB p2 YS;have hp:∀r,b.toList[ib+1+k2]?=some r->kl κ p r:=λr e=>by
       have hi:=(Be.mp e).1;rw[Bk] at hi;have:=Tf k2 (AS _) (by lia);rw[<- Bn,e] at this;exact this
      apply az
      case' h1=>
       intro L0;rw[<- pJ,<- BZ] at mC;refine az (λe=>Fk ⟨g4,.inl ⟨_,rfl,C8 mC (by simpa using e)⟩⟩) λe=>?_;have hj:ib+1+k2<b.size:=by
        have:¬ib+1+k2=b.size:=by simpa using e
        lia
       have QT:x+y+1<i2+(ib+1+k2):=by lia
       generalize o2.push q++b.extract (ib+1) (ib+1+k2)=o3 at mC ⊢;generalize ib+1+k2=j2 at mC hj QT hp ⊢
      case' h2=>
       intro L0;have k0:k2=0:=by lia
       subst k0;rw[Dq,BJ,BR] at mC;rw[BR] at hp;have hj:ib+1<b.size:=e';have QT:x+y+1<i2+(ib+1):=by lia
       generalize o2.push q=o3 at mC ⊢;generalize ib+1=j2 at mC hj QT hp ⊢
      all_goals (
       obtain⟨r,r1,r2,r3⟩:=eb j2 hj;refine Fj (aH p1 ?_);have mD:=G4 mC p2 r2 (hp r r2);refine az (λe=>Fk ⟨g4,.inl ⟨_,rfl,O0 mD (by simpa using e)⟩⟩) λe=>?_;have e3:i2+1+1<a.size:=by
        have:¬i2+1+1=a.size:=by simpa using e
        lia
       exact az (λ_=>Fk ⟨g4,.inr ⟨rfl,mD,e3,hj,by show x+1 < i2+1+j2; lia⟩⟩) λ_=>Fk ⟨g4,rfl,mD,e3,hj,by show x+(y+1) < i2+1+j2; lia⟩)))
end
structure MH(κ:KeyKind)(A B ra rb Lg:List Keyed):Prop where
 perm:(ra++rb++Lg).Perm (A++B)
 so:Lg.Pairwise (kl κ)
 sa:ra.Pairwise (kl κ)
 sb:rb.Pairwise (kl κ)
 le:∀x∈ra++rb,∀y∈Lg,kl κ x y
section
variable {κ:KeyKind}{A B ra rb Lg:List Keyed}
theorem oX{l:List Keyed}{p:Keyed}(h:l.Pairwise (kl κ))(e:l[l.length-1]?=some p):∀x∈l,kl κ x p:=λx hx=>by
 obtain⟨i,hi,rfl⟩:=Cv.mp hx;obtain⟨hj,rfl⟩:=Be.mp e;by_cases q:i=l.length-1
 ·subst q;exact FD _
 ·exact CN.mp h i (l.length-1) hi hj (by lia)
theorem MH.KZ(h:MH κ A B ra rb Lg)(k:Nat)(hk:∀x∈rb,∀y∈ra.drop k,kl κ x y):MH κ A B (ra.take k) rb (ra.drop k++Lg):=by
 have sa:=h.sa;rw[<- Ca k ra] at sa;obtain⟨s1,s2,s3⟩:=BO.mp sa;refine⟨?_,BO.mpr ⟨s2,h.so,λx hx y hy=>h.le x (Bu _ (Cr hx)) y hy⟩,s1,h.sb,λx hx y hy=>?_⟩
 ·refine List.Perm.trans ?_ h.perm;rw[<- Bz];refine List.Perm.append_right _ ?_;rw[Bz];refine(DG.append_left _).trans ?_;rw[<- Bz,Ca]
 ·rcases Ba.mp hy with hy|hy
  ·rcases Ba.mp hx with hx|hx
   ·exact s3 x hx y hy
   ·exact hk x hx y hy
  ·rcases Ba.mp hx with hx|hx
   ·exact h.le x (Bu _ (Cq hx)) y hy
   ·exact h.le x (Bc _ hx) y hy
theorem MH.KY(h:MH κ A B ra rb Lg)(k:Nat)(hk:∀x∈ra,∀y∈rb.drop k,kl κ x y):MH κ A B ra (rb.take k) (rb.drop k++Lg):=by
 have sb:=h.sb;rw[<- Ca k rb] at sb;obtain⟨s1,s2,s3⟩:=BO.mp sb;refine⟨?_,BO.mpr ⟨s2,h.so,λx hx y hy=>h.le x (Bc _ (Cr hx)) y hy⟩,h.sa,s1,λx hx y hy=>?_⟩
 ·refine List.Perm.trans ?_ h.perm;rw[<- Bz,Bz ra,Ca]
 ·rcases Ba.mp hy with hy|hy
  ·rcases Ba.mp hx with hx|hx
   ·exact hk x hx y hy
   ·exact s3 x hx y hy
  ·rcases Ba.mp hx with hx|hx
   ·exact h.le x (Bu _ hx) y hy
   ·exact h.le x (Bc _ (Cq hx)) y hy
theorem MH.done(h:MH κ A B ra rb Lg)(hk:∀x∈ra,∀y∈rb,kl κ x y):Fin κ A B (ra++rb++Lg):=⟨h.perm,BO.mpr ⟨BO.mpr ⟨h.sa,h.sb,hk⟩,h.so,h.le⟩⟩
theorem MH.first(h:MH κ A B ra rb Lg)(hk:∀x∈rb,∀y∈ra,kl κ x y):Fin κ A B (rb++ra++Lg):=
 ⟨(DG.append_right _).trans h.perm,BO.mpr ⟨BO.mpr ⟨h.sb,h.sa,hk⟩,h.so,λx hx y hy=>h.le x (Ba.mpr ((Ba.mp hx).symm)) y hy⟩⟩
end
theorem gz{α:Type}(a:Array α)(n:Nat):(a.extract 0 n).toList=a.toList.take n:=by
 rw[Ee];show(a.toList.drop 0).take (n-0)=_;rw[CJ,Dt]
theorem cF{α:Type}(a:Array α)(i n:Nat):(a.extract i n).toList=(a.toList.take n).drop i:=by
 rw[Ee,List.drop_take]
theorem oM{α:Type}(o x:Array α):(o++x.reverse).toList.reverse=x.toList++o.toList.reverse:=by rw[BZ,De,EH,EI]
theorem hJ{α:Type}{l:List α}{n:Nat}{p:α}(h:1<=n)(e:l[n-1]?=some p):(l.take n).drop (n-1)=[p]:=by
 rw[List.drop_take,show n-(n-1)=1 by lia];exact dz e
section
variable {prog:Program}{w:World}{A:Around}{E:A3}{s:Shared}{κ:KeyKind}{kd:SortKind}{st:SortSt}
def Lb:Array Keyed->Array Keyed->StateT SortSt Sem (Array Keyed):=sortPriv% PySem.Builtin.mergeHi
theorem jA{a b:Array Keyed}{Q:Array Keyed->SortSt->Prop}(hO:Ly prog w κ kd s)(hk:kindOf st=kd)(ka:∀p∈a.toList,t8 κ p)(kb:∀p∈b.toList,t8 κ p)(sa:a.toList.Pairwise (kl κ))(sb:b.toList.Pairwise (kl κ))
  (na1:1<=a.size)(nb1:1<=b.size)(h0:∀y∈a.toList,∀p,b[0]?=some p->kl κ p y)(hl:∀x∈b.toList,∀p,a[a.size-1]?=some p->kl κ x p)
  (h:∀r a8,Gu st a8->Fin κ a.toList b.toList r.toList->Q r a8):wpS (model prog w) A E s (Lb a b) Q st:=by
 have ea:∀i,i<a.size->∃p,a[i]?=some p/\a.toList[i]?=some p/\t8 κ p:=λi hi=>by
  have e:a.toList[i]?=some a[i]:=by rw[Bn];exact BD hi
  exact⟨a[i],BD hi,e,ka _ (Bp e)⟩
 have eb:∀i,i<b.size->∃p,b[i]?=some p/\b.toList[i]?=some p/\t8 κ p:=λi hi=>by
  have e:b.toList[i]?=some b[i]:=by rw[Bn];exact BD hi
  exact⟨b[i],BD hi,e,kb _ (Bp e)⟩
 have la:a.toList.length=a.size:=Bk;have lb:b.toList.length=b.size:=Bk;have O1:∀{out:Array Keyed}{na nb:Nat},MH κ a.toList b.toList (a.toList.take na) (b.toList.take nb) out.toList.reverse->nb=1->Fin κ a.toList b.toList (b.extract 0 nb++a.extract 0 na++out.reverse).toList:=λ{out na nb} m hi=>by
  rw[BZ,BZ,gz,gz,EH];refine m.first λx hx y hy=>?_;obtain⟨q,q1,q2,_⟩:=eb 0 (by lia);have e:b.toList.take nb=[q]:=by rw[hi];exact dz (i:=0) q2
  rw[e] at hx;rw[AY.mp hx];exact h0 y (Cq hy) q q1
 have C8:∀{out:Array Keyed}{na nb:Nat},MH κ a.toList b.toList (a.toList.take na) (b.toList.take nb) out.toList.reverse->na=0\/nb=0->Fin κ a.toList b.toList (a.extract 0 na++b.extract 0 nb++out.reverse).toList:=λ{out na nb} m hi=>by
  rw[BZ,BZ,gz,gz,EH];refine m.done λx hx y hy=>?_;rcases hi with hi|hi
  ·rw[hi,Dq] at hx;cases hx
  ·rw[hi,Dq] at hy;cases hy
 have TH:∀{out:Array Keyed}{na nb at':Nat}{q:Keyed},MH κ a.toList b.toList (a.toList.take na) (b.toList.take nb) out.toList.reverse->1<=nb->nb<=b.size->at'<=na->b.toList[nb-1]?=some q->(∀i x,at'<=i->i<na->a.toList[i]?=some x->kl κ q x)->MH κ a.toList b.toList (a.toList.take at') (b.toList.take nb) ((a.toList.take na).drop at'++out.toList.reverse):=λ{out na nb at' q} m h1 h2 h3 eq hk=>by
  have:=m.KZ at' λx hx y hy=>by
   obtain⟨i,hi,e⟩:=Cv.mp hy;rw[By,Bs] at hi;have e':a.toList[at'+i]?=some y:=by
    have:((a.toList.take na).drop at')[i]?=some y:=by rw[<- e];exact AX _
    rw[Ci,Cu (by lia)] at this;exact this
   refine(oX m.sb ?_ x hx).trans (hk (at'+i) y (by lia) (by lia) e');rw[Bs,lb,Cs h2,Cu (by lia)];exact eq
  rwa [DN,Cs h3] at this
 have TF:∀{out:Array Keyed}{na nb at':Nat}{q:Keyed},MH κ a.toList b.toList (a.toList.take na) (b.toList.take nb) out.toList.reverse->1<=na->na<=a.size->at'<=nb->a.toList[na-1]?=some q->(∀i x,at'<=i->i<nb->b.toList[i]?=some x->kl κ q x)->MH κ a.toList b.toList (a.toList.take na) (b.toList.take at') ((b.toList.take nb).drop at'++out.toList.reverse):=λ{out na nb at' q} m h1 h2 h3 eq hk=>by
  have:=m.KY at' λx hx y hy=>by
   obtain⟨i,hi,e⟩:=Cv.mp hy;rw[By,Bs] at hi;have e':b.toList[at'+i]?=some y:=by
    have:((b.toList.take nb).drop at')[i]?=some y:=by rw[<- e];exact AX _
    rw[Ci,Cu (by lia)] at this;exact this
   refine(oX m.sa ?_ x hx).trans (hk (at'+i) y (by lia) (by lia) e');rw[Bs,la,Cs h2,Cu (by lia)];exact eq
  rwa [DN,Cs h3] at this
 have G4:∀{out:Array Keyed}{na nb:Nat}{p q:Keyed},MH κ a.toList b.toList (a.toList.take na) (b.toList.take nb) out.toList.reverse->1<=na->1<=nb->nb<=b.size->a.toList[na-1]?=some p->b.toList[nb-1]?=some q->kl κ q p->MH κ a.toList b.toList (a.toList.take (na-1)) (b.toList.take nb) (out.push p).toList.reverse:=λ{out na nb p q} m h1 h2 h3 ep eq hk=>by
  have:=TH (at':=na-1) m h2 h3 (by lia) eq λi x h4 h5 e=>by
   have:i=na-1:=by lia
   subst this;rw[ep] at e;cases e;exact hk
  rw[hJ h1 ep] at this;rw[CZ,De];exact this
 have G3:∀{out:Array Keyed}{na nb:Nat}{p q:Keyed},MH κ a.toList b.toList (a.toList.take na) (b.toList.take nb) out.toList.reverse->1<=na->na<=a.size->1<=nb->a.toList[na-1]?=some p->b.toList[nb-1]?=some q->kl κ p q->MH κ a.toList b.toList (a.toList.take na) (b.toList.take (nb-1)) (out.push q).toList.reverse:=λ{out na nb p q} m h1 h2 h3 ep eq hk=>by
  have:=TF (at':=nb-1) m h1 h2 (by lia) ep λi x h4 h5 e=>by
   have:i=nb-1:=by lia
   subst this;rw[eq] at e;cases e;exact hk
  rw[hJ h3 eq] at this;rw[CZ,De];exact this
 refine Fj (FR (FS ⟨rfl,?_⟩));obtain⟨p0,f1,f2,f3⟩:=ea (a.size-1) (by lia);refine Fj (aH f1 ?_);have m0:MH κ a.toList b.toList (a.toList.take (a.size-1)) (b.toList.take b.size) (#[p0]:Array Keyed).toList.reverse:=by
  have ta:a.toList.take a.size=a.toList:=BB (by lia);have tb:b.toList.take b.size=b.toList:=BB (by lia);have start:MH κ a.toList b.toList (a.toList.take a.size) (b.toList.take b.size) []:=by
   rw[ta,tb];exact⟨by rw[BJ],.nil,sa,sb,λx _ y hy=>by cases hy⟩
  have:=start.KZ (a.size-1) λx hx y hy=>by
   rw[hJ na1 f2] at hy;rw[AY.mp hy];exact hl x (Cq hx) p0 f1
  rw[hJ na1 f2,DN,Cs (by lia)] at this;exact this
 refine az (λe=>Fk (h _ st (.refl st) (C8 m0 (.inl (by simpa using e))))) λe1=>az (λe=>Fk (h _ st (.refl st) (O1 m0 (by simpa using e)))) λe2=>?_;have OV:1<=a.size-1:=by
  have:¬a.size-1=0:=λz=>e1 (by rw[z];rfl);lia
 have Pk:2<=b.size:=by
  have:¬b.size=1:=λz=>e2 (by rw[z];rfl);lia
 refine Fj (wpS_get ?_)
 refine Fj (wpS_mono (wpS_forRange (I:=λx c a8=>Gu st a8/\c.1=none/\MH κ a.toList b.toList (a.toList.take c.2.1) (b.toList.take c.2.2.1) c.2.2.2.1.toList.reverse/\1<=c.2.1/\2<=c.2.2.1/\c.2.1<=a.size/\c.2.2.1<=b.size/\x+c.2.1+c.2.2.1 < a.size+b.size)
  (Q:=λc a8=>Gu st a8/\∃r,c.1=some r/\Fin κ a.toList b.toList r.toList) ?step ?fin ⟨.refl st,rfl,m0,OV,Pk,by show a.size - 1<=a.size; lia,AS _,by show 0+(a.size - 1)+b.size < a.size+b.size; lia⟩) ?post)
 case fin=>
  rintro⟨c0,na,nb,out,mg⟩ a8 ⟨_,_,_,a1,a2,_,_,a3⟩;exfalso;have Qy:max 0 (a.size+b.size)+na+nb<a.size+b.size:=a3;lia
 case post=>
  rintro⟨c0,na,nb,out,mg⟩ a8 ⟨g,r,e,f⟩;cases e;exact Fk (h r a8 g f)
 case step=>
  rintro x ⟨c0,na,nb,out,mg⟩ o8 _ hx ⟨g1,e0,m1,a1,a2,a4,a5,a3⟩;cases e0;dsimp only at m1 a1 a2 a3 a4 a5
  refine Fj (wpS_mono (wpS_forRange (I:=λy c a8=>Gu st a8/\c.1=none/\MH κ a.toList b.toList (a.toList.take c.2.1) (b.toList.take c.2.2.1) c.2.2.2.1.toList.reverse/\1<=c.2.1/\2<=c.2.2.1/\c.2.1<=a.size/\c.2.2.1<=b.size/\x+y+c.2.1+c.2.2.1 < a.size+b.size)
   (Q:=λc a8=>Gu st a8/\((∃r,c.1=some r/\Fin κ a.toList b.toList r.toList)\/(c.1=none/\MH κ a.toList b.toList (a.toList.take c.2.1) (b.toList.take c.2.2.1) c.2.2.2.1.toList.reverse/\1<=c.2.1/\2<=c.2.2.1/\c.2.1<=a.size/\c.2.2.1<=b.size/\x+c.2.1+c.2.2.1 < a.size+b.size))) ?Nc ?Qq ⟨g1,rfl,m1,a1,a2,a4,a5,by show x+0+na+nb < _; lia⟩) ?postA)
  case Qq=>
   rintro⟨c0,na,nb,out,ac,bc⟩ a8 ⟨_,_,_,_,_,_,_,a3⟩;exfalso;have Qy:x+max 0 (a.size+b.size)+na+nb<a.size+b.size:=a3;lia
  case Nc=>
   rintro y ⟨c0,na,nb,out,ac,bc⟩ c9 _ hy ⟨g2,e0,m2,a1,a2,a4,a5,a3⟩;cases e0;dsimp only at m2 a1 a2 a3 a4 a5;obtain⟨q,q1,q2,q3⟩:=eb (nb-1) (by lia);obtain⟨p,p1,p2,p3⟩:=ea (na-1) (by lia);refine Fj (aH q1 (Fj (aH p1 (Fj (gR hO (g2.kind.trans hk) q3 p3 ?_)))));cases d5:κ.blt (kf κ q) (kf κ p) with
   |true=>
    refine Fj (aH p1 ?_);have m3:=G4 m2 a1 (by lia) a5 p2 q2 (FE d5);refine az (λe=>Fk ⟨g2,.inl ⟨_,rfl,C8 m3 (.inl (by simpa using e))⟩⟩) λe=>?_;have e':1<=na-1:=by
     have:¬na-1=0:=λz=>e (by show((na-1:Nat)==0)=true;rw[z];rfl);lia
    exact az (λ_=>Fk ⟨g2,.inr ⟨rfl,m3,e',a2,by show na-1<=a.size;lia,a5,by show x+(na-1)+nb<_;lia⟩⟩) λ_=>Fk ⟨g2,rfl,m3,e',a2,by show na-1<=a.size;lia,a5,by show x+(y+1)+(na-1)+nb<_;lia⟩
   |false=>
    refine Fj (aH q1 ?_);have m3:=G3 m2 a1 a4 (by lia) p2 q2 d5;refine az (λe=>Fk ⟨g2,.inl ⟨_,rfl,O1 m3 (by simpa using e)⟩⟩) λe=>?_;have e':2<=nb-1:=by
     have:¬nb-1=1:=λz=>e (by show((nb-1:Nat)==1)=true;rw[z];rfl);lia
    exact az (λ_=>Fk ⟨g2,.inr ⟨rfl,m3,a1,e',a4,by show nb-1<=b.size;lia,by show x+na+(nb-1)<_;lia⟩⟩) λ_=>Fk ⟨g2,rfl,m3,a1,e',a4,by show nb-1<=b.size;lia,by show x+(y+1)+na+(nb-1)<_;lia⟩
  case postA=>
   rintro⟨c0,na,nb,out,ac,bc⟩ c9 ⟨g2,z⟩;rcases z with ⟨r,e,f⟩|⟨e0,m2,a1,a2,a4,a5,a3⟩
   ·cases e;exact Fk ⟨g2,r,rfl,f⟩
   cases e0;dsimp only at m2 a1 a2 a3 a4 a5;refine Fj (FR (FS ⟨rfl,?_⟩))
   refine Fj (wpS_mono (wpS_forRange (I:=λy c a8=>Gu st a8/\c.1=none/\MH κ a.toList b.toList (a.toList.take c.2.1) (b.toList.take c.2.2.1) c.2.2.2.1.toList.reverse/\1<=c.2.1/\2<=c.2.2.1/\c.2.1<=a.size/\c.2.2.1<=b.size/\x+y+c.2.1+c.2.2.1 < a.size+b.size)
    (Q:=λc a8=>Gu st a8/\((∃r,c.1=some r/\Fin κ a.toList b.toList r.toList)\/(c.1=none/\MH κ a.toList b.toList (a.toList.take c.2.1) (b.toList.take c.2.2.1) c.2.2.2.1.toList.reverse/\1<=c.2.1/\2<=c.2.2.1/\c.2.1<=a.size/\c.2.2.1<=b.size/\x+1+c.2.1+c.2.2.1 < a.size+b.size))) ?M9 ?Qp ⟨g2,rfl,m2,a1,a2,a4,a5,by show x+0+na+nb < _; lia⟩) ?N3)
   case Qp=>
    rintro⟨c0,na,nb,out,RA,ac,bc⟩ a8 ⟨_,_,_,_,_,_,_,a3⟩;exfalso;have Qy:x+max 0 (a.size+b.size)+na+nb<a.size+b.size:=a3;lia
   case N3=>
    rintro⟨c0,na,nb,out,RA,ac,bc⟩ j4 ⟨g3,z⟩;rcases z with ⟨r,e,f⟩|⟨e0,m3,a1,a2,a4,a5,a3⟩
    ·cases e;exact Fk ⟨g3,r,rfl,f⟩
    cases e0;exact Fj (gE λj1 g4=>Fk ⟨g3.trans g4,rfl,m3,a1,a2,a4,a5,a3⟩)
   case M9=>
    rintro y ⟨c0,na,nb,out,RA,ac,bc⟩ j4 _ hy ⟨g3,e0,m3,a1,a2,a4,a5,a3⟩;cases e0;dsimp only at m3 a1 a2 a3 a4 a5;obtain⟨q,q1,q2,q3⟩:=eb (nb-1) (by lia);refine az (λ_=>?_) λ_=>?_
    all_goals (
     refine Fj (gE λj1 Zx=>?_);have g4:=g3.trans Zx;refine Fj (aH q1 (Fj (bM (κ:=κ) (base:=0) (n:=na) (hint:=na-1) hO (g4.kind.trans hk) q3 (λi=>(a[0+i]?).getD q) (λi hi=>?_) (by lia) (λi=>!κ.blt (kf κ q) (kf κ ((a[0+i]?).getD q))) (λi=>rfl) (λi j k5 hj hB=>?_) λat' YO QX QW=>?_)))
     ·obtain⟨p,p1,p2,p3⟩:=ea (0+i) (by lia);rw[p1];exact⟨rfl,p3⟩
     ·obtain⟨p,p1,p2,p3⟩:=ea (0+i) (by lia);obtain⟨r,r1,r2,r3⟩:=ea (0+j) (by lia);rw[r1] at hB;rw[p1];have hr:kl κ r q:=by
       show κ.blt (kf κ q) (kf κ r)=false;simpa using hB
      have hp:kl κ p r:=by
       by_cases e:i=j
       ·subst e;rw[p1] at r1;cases r1;exact FD _
       ·have h1:=CN.mp sa (0+i) (0+j) (by lia) (by lia) (by lia);rw[(Be.mp p2).2,(Be.mp r2).2] at h1;exact h1
      have h2:κ.blt (kf κ q) (kf κ p)=false:=hp.trans hr;show(!κ.blt (kf κ q) (kf κ p))=true;rw[h2];rfl
     have YT:∀i x,at'<=i->i<na->a.toList[i]?=some x->kl κ q x:=λi x h1 h2 e=>by
      have:=QW i h1 h2;rw[Dd,<- Bn,e] at this;exact FE (show κ.blt (kf κ q) (kf κ x)=true by simpa using this)
     have mA:=TH m3 (by lia) a5 YO q2 YT;have hq:∀p,1<=at'->a.toList[at'-1]?=some p->kl κ p q:=λp h1 e=>by
      have:=QX (at'-1) (by lia);rw[Dd,<- Bn,e] at this;show κ.blt (kf κ q) (kf κ p)=false;simpa using this
     apply az
     case' h1=>
      intro L0;rw[<- cF,<- oM] at mA;refine az (λe=>Fk ⟨g4,.inl ⟨_,rfl,C8 mA (.inl (by simpa using e))⟩⟩) λe=>?_;have M3:1<=at':=by
       have:¬at'=0:=λz=>e (by show((at':Nat)==0)=true;rw[z];rfl);lia
      have YW:at'<=a.size:=by lia
      have OO:x+y+at'+nb<a.size+b.size:=by lia
      generalize out++(a.extract at' na).reverse=o2 at mA ⊢
     case' h2=>
      intro L0;have k0:at'=na:=by have:¬na-at' > 0:=L0;lia
      subst k0;rw[CM (by rw[Bs];lia),EJ] at mA;have M3:1<=at':=a1;have YW:at'<=a.size:=a4;have OO:x+y+at'+nb<a.size+b.size:=a3;generalize out=o2 at mA ⊢
     all_goals (
      obtain⟨p,p1,p2,p3⟩:=ea (at'-1) (by lia);refine Fj (aH q1 ?_);have mB:=G3 mA M3 YW (by lia) p2 q2 (hq p M3 p2);refine az (λe=>Fk ⟨g4,.inl ⟨_,rfl,O1 mB (by simpa using e)⟩⟩) λe=>?_;have e':2<=nb-1:=by
       have:¬nb-1=1:=λz=>e (by show((nb-1:Nat)==1)=true;rw[z];rfl);lia
      refine Fj (aH p1 (Fj (bM (κ:=κ) (base:=0) (n:=nb-1) (hint:=nb-1-1) hO (g4.kind.trans hk) p3 (λi=>(b[0+i]?).getD p) (λi hi=>?_) (by lia) (λi=>κ.blt (kf κ ((b[0+i]?).getD p)) (kf κ p)) (λi=>rfl) (λi j k5 hj hB=>?_) λk2 P9 OB Tf=>?_)))
      ·obtain⟨r,r1,r2,r3⟩:=eb (0+i) (by lia);rw[r1];exact⟨rfl,r3⟩
      ·obtain⟨u,u1,u2,u3⟩:=eb (0+i) (by lia);obtain⟨r,r1,r2,r3⟩:=eb (0+j) (by lia);rw[r1] at hB;rw[u1];have hp:kl κ u r:=by
        by_cases e:i=j
        ·subst e;rw[u1] at r1;cases r1;exact FD _
        ·have h1:=CN.mp sb (0+i) (0+j) (by lia) (by lia) (by lia);rw[(Be.mp u2).2,(Be.mp r2).2] at h1;exact h1
       exact KeyOrd.klt_of_kle_of_klt hp hB
      have YS:∀i x,k2<=i->i<nb-1->b.toList[i]?=some x->kl κ p x:=λi x h1 h2 e=>by
       have:=Tf i h1 h2;rw[Dd,<- Bn,e] at this;exact this
      have mC:=TF mB M3 YW P9 p2 YS;have hp:∀r,1<=k2->b.toList[k2-1]?=some r->kl κ r p:=λr h1 e=>by
       have:=OB (k2-1) (by lia);rw[Dd,<- Bn,e] at this;exact FE this
      apply az
      case' h1=>
       intro L0;rw[<- cF,<- oM] at mC;refine az (λe=>Fk ⟨g4,.inl ⟨_,rfl,O1 mC (by simpa using e)⟩⟩) λe=>az (λe2=>Fk ⟨g4,.inl ⟨_,rfl,C8 mC (.inr (by simpa using e2))⟩⟩) λe2=>?_;have hj:2<=k2:=by
        have:¬k2=1:=λz=>e (by show((k2:Nat)==1)=true;rw[z];rfl);have:¬k2=0:=λz=>e2 (by show((k2:Nat)==0)=true;rw[z];rfl);lia
       have Te:k2<=b.size:=by lia
       have QT:x+y+1+at'+k2<a.size+b.size:=by lia
       generalize o2.push q++(b.extract k2 (nb-1)).reverse=o3 at mC ⊢
      case' h2=>
       intro L0;have k0:k2=nb-1:=by have:¬nb-1-k2>0:=L0;lia
       subst k0;rw[CM (by rw[Bs];lia),EJ] at mC;have hj:2<=nb-1:=e';have Te:nb-1<=b.size:=by lia
       have QT:x+y+1+at'+(nb-1)<a.size+b.size:=by lia
       generalize o2.push q=o3 at mC ⊢;generalize nb-1=k2 at mC hj Te QT hp ⊢
      all_goals (
       obtain⟨r,r1,r2,r3⟩:=eb (k2-1) (by lia);refine Fj (aH p1 ?_);have mD:=G4 mC M3 (by lia) Te p2 r2 (hp r (by lia) r2);refine az (λe=>Fk ⟨g4,.inl ⟨_,rfl,C8 mD (.inl (by simpa using e))⟩⟩) λe=>?_;have e3:1<=at'-1:=by
        have:¬at'-1=0:=λz=>e (by show((at'-1:Nat)==0)=true;rw[z];rfl);lia
       exact az (λ_=>Fk ⟨g4,.inr ⟨rfl,mD,e3,hj,by show at' - 1<=a.size; lia,Te,by show x+1+(at' - 1)+k2 < _; lia⟩⟩) λ_=>Fk ⟨g4,rfl,mD,e3,hj,by show at' - 1<=a.size; lia,Te,by show x+(y+1)+(at' - 1)+k2 < _; lia⟩)))
end
def Seg (κ:KeyKind)(xs:Array Keyed)(lo hi:Nat):Prop:=∀i j p q,lo<=i->i<=j->j<hi->xs[i]?=some p->xs[j]?=some q->kl κ p q
theorem Seg.list{κ:KeyKind}{xs:Array Keyed}{lo hi:Nat}(h:Seg κ xs lo hi)(hh:hi<=xs.size):(xs.extract lo hi).toList.Pairwise (kl κ):=by
 refine CN.mpr λi j i3 hj k5=>?_;rw[cF,By,Bs,Bk] at i3 hj;have at':∀k (hk:k<(xs.extract lo hi).toList.length),xs[lo+k]?=some (xs.extract lo hi).toList[k]:=λk hk=>by
  have e:(xs.extract lo hi).toList[k]?=some (xs.extract lo hi).toList[k]:=AX hk;rw[cF,By,Bs,Bk] at hk;have e2:(xs.extract lo hi).toList[k]?=xs[lo+k]?:=by
   rw[cF,Ci,Cu (by lia),Bn]
  rw[<- e2];exact e
 exact h (lo+i) (lo+j) _ _ (by lia) (by lia) (by lia) (at' i _) (at' j _)
def wr (sa:Nat)(L:List (Keyed×Nat))(a:Array Keyed):Array Keyed:=L.foldl (λa x=>match x with|(p,j)=>a.setIfInBounds (sa+j) p) a
theorem oZ(sa:Nat):∀(L:List Keyed)(n:Nat)(a:Array Keyed)(k:Nat),sa+n+L.length<=a.size->(wr sa (L.zipIdx n) a)[k]?=if sa+n<=k/\k<sa+n+L.length then L[k-(sa+n)]? else a[k]?
 |[],n,a,k,_=>by rw[Fm (by rw[Cn];lia)];rfl
 |p::r,n,a,k,h=>by
  rw[Bl] at h;show(wr sa (r.zipIdx (n+1)) (a.setIfInBounds (sa+n) p))[k]?=_;rw[oZ sa r (n+1) _ k (by rw[Array.size_setIfInBounds];lia),Array.getElem?_setIfInBounds,Bl];by_cases h1:k=sa+n
  ·subst h1;rw[Fm (by lia),Fn rfl,Fn (by lia),Fn (by lia),Ef];rfl
  ·by_cases h2:sa+(n+1)<=k/\k<sa+(n+1)+r.length
   ·rw[Fn h2,Fn (by lia),show k-(sa+n)=(k-(sa+(n+1)))+1 by lia];rfl
   ·rw[Fm h2,Fm (λz=>h1 z.symm),Fm (by lia)]
theorem uh(sa:Nat)(L:List Keyed)(a:Array Keyed)(h:sa+L.length<=a.size):(wr sa (L.zipIdx 0) a).toList=a.toList.take sa++L++a.toList.drop (sa+L.length):=by
 refine Dm λk=>?_;rw[Bn,oZ sa L 0 a k (by lia),BR,Bz];have lt:(a.toList.take sa).length=sa:=by rw[Bs,Bk];lia
 by_cases h1:k<sa
 ·rw[Fm (by lia),CG (by lia),Cu h1,Bn]
 ·rw[CF (by lia),lt];by_cases h2:k<sa+L.length
  ·rw[Fn ⟨by lia,h2⟩,CG (by lia)]
  ·rw[Fm (by lia),CF (by lia),Ci,<- Bn]
   congr 1;lia
structure SB(κ:KeyKind)(kd:SortKind)(a₀:Array Keyed)(st:SortSt):Prop where
 perm:(arrOf st).Perm a₀
 kind:kindOf st=kd
 failed:failedOf st=none
theorem SB.size{κ:KeyKind}{kd:SortKind}{a₀:Array Keyed}{st:SortSt}(h:SB κ kd a₀ st):(arrOf st).size=a₀.size:=h.perm.size_eq
theorem SB.at{κ:KeyKind}{kd:SortKind}{a₀:Array Keyed}{st:SortSt}(h:SB κ kd a₀ st)(h0:KeysOf κ a₀){i:Nat}(hi:i<a₀.size):∃p,(arrOf st)[i]?=some p/\t8 κ p:=by
 have i3:i<(arrOf st).size:=by rw[h.size];exact hi
 exact⟨(arrOf st)[i],BD i3,h0 _ ((Du.mp h.perm).mem_iff.mp (by simp))⟩
section
variable {prog:Program}{w:World}{A:Around}{E:A3}{s:Shared}{κ:KeyKind}{kd:SortKind}{st:SortSt}{a₀:Array Keyed}
theorem uJ{Q:PUnit->SortSt->Prop}{a8:SortSt}(h:Q ⟨⟩ a8):wpS (model prog w) A E s (set a8:StateT SortSt Sem PUnit) Q st:=by
 unfold wpS;rw[StateT.run_set];exact Fi ⟨rfl,h⟩
theorem jJ{i sa na sb nb pw Vi:Nat}{Q:Bool->SortSt->Prop}(hO:Ly prog w κ kd s)(h0:KeysOf κ a₀)(hB:SB κ kd a₀ st)(e1:(pendingOf st)[i]?=some (sa,na,pw))(e2:(pendingOf st)[i+1]?=some (sb,nb,Vi))(es:sb=sa+na)(n1:1<=na)(n2:1<=nb)(hz:sb+nb<=a₀.size)
  (s1:Seg κ (arrOf st) sa (sa+na))(s2:Seg κ (arrOf st) sb (sb+nb))
  (h:∀a8,SB κ kd a₀ a8->pendingOf a8=((pendingOf st).setIfInBounds i (sa,na+nb,pw)).eraseIdxIfInBounds (i+1)->Seg κ (arrOf a8) sa (sa+(na+nb))->(∀k,k<sa\/sb+nb<=k->(arrOf a8)[k]?=(arrOf st)[k]?)->Q true a8):wpS (model prog w) A E s (mergeAt' i) Q st:=by
 refine Fj (wpS_get ?_);have ZG:(sortPriv% PySem.Builtin.SortState.pending) st=pendingOf st:=rfl;rw[ZG,e1,e2];refine Fj (uJ ?_);have hX:(arrOf st).size=a₀.size:=hB.size;have kk:∀p∈(arrOf st).toList,t8 κ p:=λp hp=>h0 _ ((Du.mp hB.perm).mem_iff.mp hp);have whole:∀{q:Keyed},(arrOf st)[sb]?=some q->(∀i x,sa<=i->i<sb->(arrOf st)[i]?=some x->kl κ x q)->Seg κ (arrOf st) sa (sa+(na+nb)):=λ{q} eq hq i j p r h1 h2 h3 e3 e4=>by
  by_cases c1:j<sb
  ·exact s1 i j p r h1 h2 (by lia) e3 e4
  ·by_cases c2:i<sb
   ·exact(hq i p h1 c2 e3).trans (s2 sb j q r (AS _) (by lia) (by lia) eq e4)
   ·exact s2 i j p r (by lia) h2 (by lia) e3 e4
 obtain⟨q,q1,q3⟩:=hB.at h0 (i:=sb) (by lia);refine Fj (aH q1 (Fj (bM (κ:=κ) (base:=sa) (n:=na) (hint:=0) hO hB.kind q3 (λi=>((arrOf st)[sa+i]?).getD q) (λi hi=>?_) (by lia) (λi=>!κ.blt (kf κ q) (kf κ (((arrOf st)[sa+i]?).getD q))) (λi=>rfl) (λi j k5 hj TB=>?_) λk YO QX QW=>?_)))
 ·obtain⟨p,p1,p3⟩:=hB.at h0 (i:=sa+i) (by lia);rw[p1];exact⟨rfl,p3⟩
 ·obtain⟨p,p1,p3⟩:=hB.at h0 (i:=sa+i) (by lia);obtain⟨r,r1,r3⟩:=hB.at h0 (i:=sa+j) (by lia);rw[r1] at TB;rw[p1];have hr:kl κ r q:=by
   show κ.blt (kf κ q) (kf κ r)=false;simpa using TB
  have h2:κ.blt (kf κ q) (kf κ p)=false:=(s1 (sa+i) (sa+j) p r (by lia) (by lia) (by lia) p1 r1).trans hr;show(!κ.blt (kf κ q) (kf κ p))=true;rw[h2];rfl
 have lo:∀i x,sa<=i->i<sa+k->(arrOf st)[i]?=some x->kl κ x q:=λi x h1 h2 e=>by
  have:=QX (i-sa) (by lia);rw[show sa+(i-sa)=i by lia,e] at this;show κ.blt (kf κ q) (kf κ x)=false;simpa using this
 have i3:∀i x,sa+k<=i->i<sb->(arrOf st)[i]?=some x->kl κ q x:=λi x h1 h2 e=>by
  have:=QW (i-sa) (by lia) (by lia);rw[show sa+(i-sa)=i by lia,e] at this;exact FE (show κ.blt (kf κ q) (kf κ x)=true by simpa using this)
 refine az (λe=>Fk (h _ ⟨hB.perm,hB.kind,hB.failed⟩ rfl ?_ λ_ _=>rfl)) λe=>?_
 ·have e':na-k=0:=by simpa using e
  exact whole q1 λi x h1 h2 ex=>lo i x h1 (by lia) ex
 have k1:1<=na-k:=by
  have:¬na-k=0:=λz=>e (by show((na-k:Nat)==0)=true;rw[z];rfl);lia
 obtain⟨p,p1,p3⟩:=hB.at h0 (i:=sa+k+(na-k)-1) (by lia);have Vk:(arrOf st)[sb-1]?=some p:=by rw[<- p1];congr 1;lia
 refine Fj (aH p1 (Fj (bM (κ:=κ) (base:=sb) (n:=nb) (hint:=nb-1) hO hB.kind p3 (λi=>((arrOf st)[sb+i]?).getD p) (λi hi=>?_) (by lia) (λi=>κ.blt (kf κ (((arrOf st)[sb+i]?).getD p)) (kf κ p)) (λi=>rfl) (λi j k5 hj TB=>?_) λk2 P9 OB Tf=>?_)))
 ·obtain⟨r,r1,r3⟩:=hB.at h0 (i:=sb+i) (by lia);rw[r1];exact⟨rfl,r3⟩
 ·obtain⟨u,u1,u3⟩:=hB.at h0 (i:=sb+i) (by lia);obtain⟨r,r1,r3⟩:=hB.at h0 (i:=sb+j) (by lia);rw[r1] at TB;rw[u1];exact KeyOrd.klt_of_kle_of_klt (s2 (sb+i) (sb+j) u r (by lia) (by lia) (by lia) u1 r1) TB
 have lo2:∀i x,sb<=i->i<sb+k2->(arrOf st)[i]?=some x->kl κ x p:=λi x h1 h2 e=>by
  have:=OB (i-sb) (by lia);rw[show sb+(i-sb)=i by lia,e] at this;exact FE this
 have M3:∀i x,sb+k2<=i->i<sb+nb->(arrOf st)[i]?=some x->kl κ p x:=λi x h1 h2 e=>by
  have:=Tf (i-sb) (by lia) (by lia);rw[show sb+(i-sb)=i by lia,e] at this;exact this
 refine az (λe=>Fk (h _ ⟨hB.perm,hB.kind,hB.failed⟩ rfl ?_ λ_ _=>rfl)) λe=>?_
 ·have e':k2=0:=by simpa using e
  exact whole q1 λi x h1 h2 ex=>(s1 i (sb-1) x p h1 (by lia) (by lia) ex Vk).trans (M3 sb q (by lia) (by lia) q1)
 have k21:1<=k2:=by
  have:¬k2=0:=λz=>e (by show((k2:Nat)==0)=true;rw[z];rfl);lia
 have mem:∀{lo hi:Nat}{v:Keyed},v∈((arrOf st).extract lo hi).toList->∃i,lo<=i/\i<hi/\(arrOf st)[i]?=some v:=λ{lo hi v} hv=>by
  obtain⟨i,YX,e⟩:=Cv.mp hv;have e1:((arrOf st).extract lo hi).toList[i]?=some v:=by rw[<- e];exact AX _
  rw[cF,By,Bs] at YX;rw[cF,Ci,Cu (by lia),Bn] at e1;exact⟨lo+i,by lia,by lia,e1⟩
 have kx:∀{lo hi:Nat},∀v∈((arrOf st).extract lo hi).toList,t8 κ v:=λ{lo hi} v hv=>by
  obtain⟨i,_,_,e⟩:=mem hv;exact kk v (Bp (by rw[Bn];exact e))
 have zx:((arrOf st).extract (sa+k) sb).size=na-k:=by rw[Array.size_extract];lia
 have zy:((arrOf st).extract sb (sb+k2)).size=k2:=by rw[Array.size_extract];lia
 have sx:((arrOf st).extract (sa+k) sb).toList.Pairwise (kl κ):=Seg.list (λi j p q a1 a2 a3=>s1 i j p q (by lia) a2 (by lia)) (by lia);have sy:((arrOf st).extract sb (sb+k2)).toList.Pairwise (kl κ):=Seg.list (λi j p q a1 a2 a3=>s2 i j p q a1 a2 (by lia)) (by lia);have hx0:∀y∈((arrOf st).extract (sa+k) sb).toList,∀p,((arrOf st).extract sb (sb+k2))[0]?=some p->kl κ p y:=λy hy p' e=>by
  rw[<- Bn,cF,Ci,Cu (by lia),Bn,BR,q1] at e;cases e;obtain⟨i,a1,a2,a3⟩:=mem hy;exact i3 i y a1 a2 a3
 have hyl:∀x∈((arrOf st).extract sb (sb+k2)).toList,∀p,((arrOf st).extract (sa+k) sb)[((arrOf st).extract (sa+k) sb).size-1]?=some p->kl κ x p:=λx hx p' e=>by
  rw[zx,<- Bn,cF,Ci,Cu (by lia),Bn,show sa+k+(na-k-1)=sb-1 by lia,Vk] at e;cases e;obtain⟨i,a1,a2,a3⟩:=mem hx;exact lo2 i x a1 a2 a3
 have tail:∀(r:Array Keyed)(c9:SortSt),kindOf c9=kd->arrOf c9=arrOf st->pendingOf c9=((pendingOf st).setIfInBounds i (sa,na+nb,pw)).eraseIdxIfInBounds (i+1)->failedOf c9=none->Fin κ ((arrOf st).extract (sa+k) sb).toList ((arrOf st).extract sb (sb+k2)).toList r.toList->Q true (setArr c9 (wr (sa+k) (r.toList.zipIdx 0) (arrOf c9))):=λr c9 c1 c2 c3 c4 f=>by
  have lr:r.toList.length=(na-k)+k2:=by
   have:=f.1.length_eq;rw[AV,Bk (xs:=(arrOf st).extract (sa+k) sb),Bk (xs:=(arrOf st).extract sb (sb+k2)),zx,zy] at this;exact this
  have wl:=uh (sa+k) r.toList (arrOf st) (by lia);have wg:∀t,(wr (sa+k) (r.toList.zipIdx 0) (arrOf st))[t]?=if sa+k<=t/\t<sb+k2 then r.toList[t-(sa+k)]? else (arrOf st)[t]?:=λt=>by
   rw[oZ (sa+k) r.toList 0 (arrOf st) t (by lia),BR,show sa+k+r.toList.length=sb+k2 by lia]
  have Rm:∀v∈r.toList,(∃i,sa+k<=i/\i<sb/\(arrOf st)[i]?=some v)\/∃i,sb<=i/\i<sb+k2/\(arrOf st)[i]?=some v:=λv hv=>by
   rcases Ba.mp (f.1.mem_iff.mp hv) with h1|h1
   ·exact .inl (mem h1)
   ·exact .inr (mem h1)
  have up:∀v∈r.toList,∀i u,sa<=i->i<sa+k->(arrOf st)[i]?=some u->kl κ u v:=λv hv i u a1 a2 a3=>by
   rcases Rm v hv with ⟨t,b1,b2,b3⟩|⟨t,b1,b2,b3⟩
   ·exact s1 i t u v a1 (by lia) (by lia) a3 b3
   ·exact(lo i u a1 a2 a3).trans (s2 sb t q v (AS _) b1 (by lia) q1 b3)
  have dn:∀v∈r.toList,∀i u,sb+k2<=i->i<sb+nb->(arrOf st)[i]?=some u->kl κ v u:=λv hv i u a1 a2 a3=>by
   rcases Rm v hv with ⟨t,b1,b2,b3⟩|⟨t,b1,b2,b3⟩
   ·exact(s1 t (sb-1) v p (by lia) (by lia) (by lia) b3 Vk).trans (M3 i u a1 a2 a3)
   ·exact s2 t i v u b1 (by lia) a2 b3 a3
  rw[c2];refine h _ ⟨?_,c1,c4⟩ c3 ?_ λt ht=>?_
  ·refine Array.Perm.trans ?_ hB.perm;show(wr (sa+k) (r.toList.zipIdx 0) (arrOf st)).Perm (arrOf st);refine Du.mpr ?_;rw[wl];have eo:(arrOf st).toList=(arrOf st).toList.take (sa+k)++(((arrOf st).extract (sa+k) sb).toList++((arrOf st).extract sb (sb+k2)).toList)++(arrOf st).toList.drop (sa+k+r.toList.length):=by
    rw[cF,cF,show sa+k+r.toList.length=sb+k2 by lia];have a1:(arrOf st).toList.take (sa+k)++((arrOf st).toList.take sb).drop (sa+k)=(arrOf st).toList.take sb:=by
     have:=Ca (sa+k) ((arrOf st).toList.take sb)
     rwa [DN,Cs (by lia)] at this
    have a2:(arrOf st).toList.take sb++((arrOf st).toList.take (sb+k2)).drop sb=(arrOf st).toList.take (sb+k2):=by
     have:=Ca sb ((arrOf st).toList.take (sb+k2))
     rwa [DN,Cs (by lia)] at this
    rw[<- Bz,a1,a2,Ca]
   conv=>rhs;rw[eo]
   exact((f.1.append_left _).append_right _)
  ·intro i' j' u v a1 a2 a3 a4 a5;have O4:(wr (sa+k) (r.toList.zipIdx 0) (arrOf st))[i']?=some u:=a4;have Ov:(wr (sa+k) (r.toList.zipIdx 0) (arrOf st))[j']?=some v:=a5;rw[wg] at O4 Ov;by_cases d1:sa+k<=i'/\i'<sb+k2
   ·rw[Fn d1] at O4;by_cases d2:sa+k<=j'/\j'<sb+k2
    ·rw[Fn d2] at Ov;obtain⟨w1,w2⟩:=Be.mp O4;obtain⟨w3,w4⟩:=Be.mp Ov;rw[<- w2,<- w4];by_cases ee:i'=j'
     ·subst ee;exact FD _
     ·exact CN.mp f.2 _ _ w1 w3 (by lia)
    ·rw[Fm d2] at Ov;exact dn u (Bp O4) j' v (by lia) (by lia) Ov
   ·rw[Fm d1] at O4;by_cases d2:sa+k<=j'/\j'<sb+k2
    ·rw[Fn d2] at Ov;exact up v (Bp Ov) i' u a1 (by lia) O4
    ·rw[Fm d2] at Ov;by_cases d3:j'<sa+k
     ·exact s1 i' j' u v a1 a2 (by lia) O4 Ov
     ·by_cases d4:i'<sa+k
      ·exact(lo i' u a1 d4 O4).trans (s2 sb j' q v (AS _) (by lia) (by lia) q1 Ov)
      ·exact s2 i' j' u v (by lia) a2 (by lia) O4 Ov
  ·show(wr (sa+k) (r.toList.zipIdx 0) (arrOf st))[t]?=_;rw[wg,Fm (by lia)]
 have fin:∀(r:Array Keyed)(c9:SortSt),Gu (setPending st (((pendingOf st).setIfInBounds i (sa,na+nb,pw)).eraseIdxIfInBounds (i+1))) c9->Fin κ ((arrOf st).extract (sa+k) sb).toList ((arrOf st).extract sb (sb+k2)).toList r.toList->kindOf c9=kd/\arrOf c9=arrOf st/\pendingOf c9=((pendingOf st).setIfInBounds i (sa,na+nb,pw)).eraseIdxIfInBounds (i+1)/\failedOf c9=none:=λr c9 g f=>⟨g.kind.trans hB.kind,g.arr,g.pend,g.fail.trans hB.failed⟩
 refine az (λ_=>?_) λ_=>?_
 ·refine Fj (jD hO hB.kind kx kx sx sy (show 1<=((arrOf st).extract (sa+k) sb).size by rw[zx];exact k1) (show 1<=((arrOf st).extract sb (sb+k2)).size by rw[zy];exact k21) hx0 hyl λr c9 g f=>?_);obtain⟨c1,c2,c3,c4⟩:=fin r c9 g f;refine Fj (wpS_modify (Fj (wpS_get (Fk ?_))));have:=tail r c9 c1 c2 c3 c4 f;show Q (failedOf c9).isNone _;rw[c4];exact this
 ·refine Fj (jA hO hB.kind kx kx sx sy (show 1<=((arrOf st).extract (sa+k) sb).size by rw[zx];exact k1) (show 1<=((arrOf st).extract sb (sb+k2)).size by rw[zy];exact k21) hx0 hyl λr c9 g f=>?_);obtain⟨c1,c2,c3,c4⟩:=fin r c9 g f;refine Fj (wpS_modify (Fj (wpS_get (Fk ?_))));have:=tail r c9 c1 c2 c3 c4 f;show Q (failedOf c9).isNone _;rw[c4];exact this
end
structure x9(κ:KeyKind)(kd:SortKind)(a₀:Array Keyed)(N0:SortSt)(lo hi:Nat)(st:SortSt):Prop where
 sb:SB κ kd a₀ st
 pend:pendingOf st=pendingOf N0
 out:∀k,k<lo\/hi<=k->(arrOf st)[k]?=(arrOf N0)[k]?
section
variable {κ:KeyKind}{kd:SortKind}{a₀:Array Keyed}{N0 st:SortSt}{lo hi:Nat}
theorem x9.refl(h:SB κ kd a₀ st):x9 κ kd a₀ st lo hi st:=⟨h,rfl,λ_ _=>rfl⟩
theorem x9.put(h:x9 κ kd a₀ N0 lo hi st){xs:Array Keyed}(p:xs.Perm (arrOf st))(o:∀k,k<lo\/hi<=k->xs[k]?=(arrOf st)[k]?):x9 κ kd a₀ N0 lo hi (setArr st xs):=⟨⟨p.trans h.sb.perm,h.sb.kind,h.sb.failed⟩,h.pend,λk hk=>(o k hk).trans (h.out k hk)⟩
theorem x9.mirror(h:x9 κ kd a₀ N0 lo hi st){i j:Nat}(h1:lo<=i)(h2:j<=hi)(h3:hi<=a₀.size):x9 κ kd a₀ N0 lo hi (setArr st (mirror (arrOf st) i j ((j-i)/2))):=h.put (mirror_perm _ _ _ _) λk hk=>by
 rw[getElem?_mirror_all (by rw[h.sb.size];lia),Fm (by lia)]
theorem x9.bubble(h:x9 κ kd a₀ N0 lo hi st){src d:Nat}(h1:lo<=src-d)(h2:src<hi)(h3:hi<=a₀.size)(h4:d<=src):x9 κ kd a₀ N0 lo hi (setArr st (bubble (arrOf st) src d)):=h.put (bubble_perm _ _ _) λk hk=>by
 rw[getElem?_bubble (by rw[h.sb.size];lia) d h4,Fm (by lia),Fm (by lia)]
end
def Up (κ:KeyKind)(xs:Array Keyed)(lo n:Nat):Prop:=∀i j,i<=j->j<n->κ.kle (KK κ xs (lo+i)) (KK κ xs (lo+j))
def Dn (κ:KeyKind)(xs:Array Keyed)(lo n:Nat):Prop:=∀i j,i<=j->j<n->κ.kle (KK κ xs (lo+j)) (KK κ xs (lo+i))
theorem Up.seg{κ:KeyKind}{xs:Array Keyed}{lo n:Nat}(h:Up κ xs lo n):Seg κ xs lo (lo+n):=λi j p q h1 h2 h3 e1 e2=>by
 have:=h (i-lo) (j-lo) (by lia) (by lia);rw[show lo+(i-lo)=i by lia,show lo+(j-lo)=j by lia] at this;unfold KK at this;rw[e1,e2] at this;exact this
theorem Up.more{κ:KeyKind}{xs:Array Keyed}{lo n:Nat}(h:Up κ xs lo n)(h1:1<=n)(hl:κ.kle (KK κ xs (lo+n-1)) (KK κ xs (lo+n))):Up κ xs lo (n+1):=λi j k5 hj=>by
 by_cases c:j<n
 ·exact h i j k5 c
 ·have e:j=n:=by lia
  subst e;by_cases d:i=j
  ·subst d;exact FD _
  ·refine KeyOrd.kle_trans (h i (j-1) (by lia) (by lia)) ?_;rw[show lo+(j-1)=lo+j-1 by lia];exact hl
theorem Dn.more{κ:KeyKind}{xs:Array Keyed}{lo n:Nat}(h:Dn κ xs lo n)(h1:1<=n)(hl:κ.kle (KK κ xs (lo+n)) (KK κ xs (lo+n-1))):Dn κ xs lo (n+1):=λi j k5 hj=>by
 by_cases c:j<n
 ·exact h i j k5 c
 ·have e:j=n:=by lia
  subst e;by_cases d:i=j
  ·subst d;exact FD _
  ·refine KeyOrd.kle_trans ?_ (h i (j-1) (by lia) (by lia));rw[show lo+(j-1)=lo+j-1 by lia];exact hl
section
variable {prog:Program}{w:World}{A:Around}{E:A3}{s:Shared}{κ:KeyKind}{kd:SortKind}{st:SortSt}{a₀:Array Keyed}
theorem dZ{i j:Nat}{Q:Option Bool->SortSt->Prop}(hO:Ly prog w κ kd s)(hB:SB κ kd a₀ st)(h0:KeysOf κ a₀)(hi:i<a₀.size)(hj:j<a₀.size)(h:Q (some (κ.blt (KK κ (arrOf st) i) (KK κ (arrOf st) j))) st):wpS (model prog w) A E s (ltAt' i j) Q st:=by
 obtain⟨⟨x,p⟩,e1,a,ha⟩:=hB.at h0 hi;obtain⟨⟨y,q⟩,e2,b,hb⟩:=hB.at h0 hj;have ka:KK κ (arrOf st) i=a:=by unfold KK;rw[e1];simp[ha]
 have kb:KK κ (arrOf st) j=b:=by unfold KK;rw[e2];simp[hb]
 rw[ka,kb] at h;rw[ltAt'_eq];refine Fj (wpS_get ?_);refine Fj (aH e1 (Fj (aH e2 ?_)));rw[lt'_eq];refine Fj (wpS_get ?_);rw[hB.kind];exact Fj (FR (FO (hO A _ x y a b _ ha hb ⟨rfl,Fk h⟩)))
theorem hZ{i j:Nat}{Q:Unit->SortSt->Prop}(h:∀a8,a8=setArr st (mirror (arrOf st) i j ((j-i)/2))->Q () a8):wpS (model prog w) A E s (reverseSlice' i j) Q st:=by
 rw[reverseSlice'_eq];exact wpS_modify (h _ rfl)
def Ng:Nat->Nat->StateT SortSt Sem (Option Nat):=sortPriv% PySem.Builtin.countRun
def Me:Nat->Nat->Nat->StateT SortSt Sem Bool:=sortPriv% PySem.Builtin.binarySort
theorem mN{lo nrem:Nat}{Q:Option Nat->SortSt->Prop}(hO:Ly prog w κ kd s)(h0:KeysOf κ a₀)(hn:lo+nrem<=a₀.size)(h1:1<=nrem)(hB:SB κ kd a₀ st)
  (h:∀m a8,x9 κ kd a₀ st lo (lo+nrem) a8->1<=m->m<=nrem->Up κ (arrOf a8) lo m->Q (some m) a8):wpS (model prog w) A E s (Ng lo nrem) Q st:=by
 have fin:∀o8,x9 κ kd a₀ st lo (lo+nrem) o8->∀n,1<=n->n<=nrem->Dn κ (arrOf o8) lo n->Up κ (arrOf (setArr o8 (mirror (arrOf o8) lo (lo+n) ((lo+n-lo)/2)))) lo n:=λo8 F n n1 n2 hd i j k5 hj=>by
  have hz:lo+n<=(arrOf o8).size:=by rw[F.sb.size];lia
  show κ.kle (KK κ (mirror (arrOf o8) lo (lo+n) ((lo+n-lo)/2)) (lo+i)) (KK κ (mirror (arrOf o8) lo (lo+n) ((lo+n-lo)/2)) (lo+j));rw[KK_mirror hz,KK_mirror hz,Fn (by lia),Fn (by lia)];have:=hd (n-1-j) (n-1-i) (by lia) (by lia);rw[show lo+(n-1-j)=lo+(lo+n)-1-(lo+j) by lia,show lo+(n-1-i)=lo+(lo+n)-1-(lo+i) by lia] at this;exact this
 have init:Up κ (arrOf st) lo 1:=λi j k5 hj=>by
  have:i=j:=by lia
  subst this;exact FD _
 refine Fj (wpS_mono (wpS_forRange (I:=λx c a8=>a8=st/\c=(none,x)/\Up κ (arrOf st) lo x) (Q:=λc a8=>a8=st/\∃n,c=(none,n)/\1<=n/\n<=nrem/\Up κ (arrOf st) lo n/\(n=nrem\/κ.klt (KK κ (arrOf st) (lo+n)) (KK κ (arrOf st) (lo+n-1)))) ?step ?fin ⟨rfl,rfl,init⟩) ?post)
 case fin=>
  rintro c a8 ⟨rfl,rfl,u⟩;rw[show max 1 nrem=nrem by lia] at u ⊢;exact⟨rfl,nrem,rfl,h1,AS _,u,.inl rfl⟩
 case step=>
  rintro x c a8 ON QQ ⟨rfl,rfl,u⟩;refine Fj (dZ (i:=lo+x) (j:=lo+x-1) hO hB h0 (by lia) (by lia) ?_);cases hl:κ.blt (KK κ (arrOf a8) (lo+x)) (KK κ (arrOf a8) (lo+x-1)) with
  |true=>
   exact Fk ⟨rfl,x,rfl,ON,by lia,u,.inr hl⟩
  |false=>
   exact Fk ⟨rfl,rfl,u.more ON hl⟩
 case post=>
  rintro c a8 ⟨rfl,n,rfl,n1,n2,u,hor⟩;refine az (λe=>Fk (h n a8 (.refl hB) n1 n2 u)) λe=>?_;have k8:n≠nrem:=λz=>e (by show((n:Nat)==nrem)=true;rw[z];exact beq_self_eq_true _);have d5:κ.klt (KK κ (arrOf a8) (lo+n)) (KK κ (arrOf a8) (lo+n-1)):=hor.resolve_left k8;apply az
  case' h1=>
   intro YZ;have hgt':n>1:=YZ;refine Fj (dZ (i:=lo) (j:=lo+n-1) hO hB h0 (by lia) (by lia) ?_);cases RS:κ.blt (KK κ (arrOf a8) lo) (KK κ (arrOf a8) (lo+n-1))
   case true=>exact Fk (h n a8 (.refl hB) n1 n2 u)
   have E2:∀k,lo<=k->k<lo+n->KK κ (arrOf a8) k=KK κ (arrOf a8) (lo+n-1):=λk k1 k2=>by
    have a1:=u 0 (k-lo) (by lia) (by lia);have a2:=u (k-lo) (n-1) (by lia) (by lia);rw[show lo+(k-lo)=k by lia] at a1 a2;rw[show lo+(n-1)=lo+n-1 by lia] at a2;exact KeyOrd.kle_antisymm a2 (KeyOrd.kle_trans RS a1)
   refine Fj (hZ (i:=lo) (j:=lo+n) λo8 j9=>?_);have hz:lo+n<=(arrOf a8).size:=by rw[hB.size];lia
   have F1:x9 κ kd a₀ a8 lo (lo+nrem) o8:=by rw[j9];exact(x9.refl hB).mirror (AS _) (by lia) hn
   have D1:Dn κ (arrOf o8) lo (n+1):=by
    rw[j9];have e0:∀k,KK κ (arrOf (setArr a8 (mirror (arrOf a8) lo (lo+n) ((lo+n-lo)/2)))) k=KK κ (arrOf a8) k:=KK_mirror_equal hz E2;have d0:Dn κ (arrOf (setArr a8 (mirror (arrOf a8) lo (lo+n) ((lo+n-lo)/2)))) lo n:=λi j k5 hj=>by
     rw[e0,e0,E2 (lo+i) (by lia) (by lia),E2 (lo+j) (by lia) (by lia)];exact FD _
    refine d0.more n1 ?_;rw[e0,e0];exact FE d5
  case' h2=>
   intro YZ;have hn1:n=1:=by
    have:¬n>1:=YZ;lia
   obtain⟨o8,e1⟩:∃o8,o8=a8:=⟨_,rfl⟩
   have F1:x9 κ kd a₀ a8 lo (lo+nrem) o8:=by rw[e1];exact .refl hB
   have D1:Dn κ (arrOf o8) lo (n+1):=by
    rw[e1];have d0:Dn κ (arrOf a8) lo n:=λi j k5 hj=>by
     have:i=j:=by lia
     subst this;exact FD _
    exact d0.more n1 (FE d5)
   rw[<- e1]
  all_goals (
   clear d5 hor u;refine Fj (FR (FS ⟨rfl,?_⟩))
   refine Fj (wpS_mono (wpS_forRange (I:=λx c c9=>∃J7,c=(none,x,J7)/\x9 κ kd a₀ a8 lo (lo+nrem) c9/\Dn κ (arrOf c9) lo x/\J7+1<=x/\∀k,lo+x - (J7+1)<=k->k < lo+x->KK κ (arrOf c9) k=KK κ (arrOf c9) (lo+x - 1))
    (Q:=λc c9=>∃m J7,c=(none,m,J7)/\x9 κ kd a₀ a8 lo (lo+nrem) c9/\n+1<=m/\m<=nrem/\Dn κ (arrOf c9) lo m/\J7+1<=m/\∀k,lo+m - (J7+1)<=k->k < lo+m->KK κ (arrOf c9) k=KK κ (arrOf c9) (lo+m - 1)) (λx c c9 ON QQ z=>?_) (λc c9 z=>?_) ⟨0,rfl,F1,D1,by lia,λk k1 k2=>by congr 1; lia⟩) λc c9 z=>?_)
   ·obtain⟨J7,rfl,F2,D2,q1,q2⟩:=z;have hz:lo+x<=(arrOf c9).size:=by rw[F2.sb.size];lia
    refine Fj (dZ (i:=lo+x) (j:=lo+x-1) hO F2.sb h0 (by lia) (by lia) ?_);cases hl:κ.blt (KK κ (arrOf c9) (lo+x)) (KK κ (arrOf c9) (lo+x-1)) with
    |true=>
     refine az (λ_=>az (λhq=>?_) λhq=>?_) λz=>absurd rfl z
     ·refine Fj (hZ (i:=lo+x-(J7+1)) (j:=lo+x) λj4 j9=>Fk ?_);have e0:∀k,KK κ (arrOf j4) k=KK κ (arrOf c9) k:=by rw[j9];exact KK_mirror_equal hz q2
      have d0:Dn κ (arrOf j4) lo x:=λi j k5 hj=>by rw[e0,e0];exact D2 i j k5 hj
      exact⟨0,rfl,by rw[j9];exact F2.mirror (by lia) (by lia) hn,d0.more (by lia) (by rw[e0,e0];exact FE hl),by lia,λk k1 k2=>by congr 1;lia⟩
     ·exact Fk ⟨0,rfl,F2,D2.more (by lia) (FE hl),by lia,λk k1 k2=>by congr 1;lia⟩
    |false=>
     refine Fj (dZ (i:=lo+x-1) (j:=lo+x) hO F2.sb h0 (by lia) (by lia) ?_);cases hg:κ.blt (KK κ (arrOf c9) (lo+x-1)) (KK κ (arrOf c9) (lo+x)) with
     |true=>exact Fk ⟨x,J7,rfl,F2,ON,by lia,D2,q1,q2⟩
     |false=>
      have heq:KK κ (arrOf c9) (lo+x)=KK κ (arrOf c9) (lo+x-1):=KeyOrd.kle_antisymm hg hl;refine Fk ⟨J7+1,rfl,F2,D2.more (by lia) (by rw[heq];exact FD _),by lia,λk k1 k2=>?_⟩;rw[show lo+(x+1)-1=lo+x by lia];by_cases c:k=lo+x
      ·rw[c]
      ·rw[heq];exact q2 k (by lia) (by lia)
   ·obtain⟨J7,rfl,F2,D2,q1,q2⟩:=z;rw[show max (n+1) nrem=nrem by lia] at D2 q1 q2 ⊢;exact⟨nrem,J7,rfl,F2,by lia,AS _,D2,q1,q2⟩
   ·obtain⟨m,J7,rfl,F2,m1,m2,D2,q1,q2⟩:=z;have hz:lo+m<=(arrOf c9).size:=by rw[F2.sb.size];lia
    apply az
    case' h1=>
     intro hq;refine Fj (hZ (i:=lo+m-(J7+1)) (j:=lo+m) λj4 j9=>?_);have e0:∀k,KK κ (arrOf j4) k=KK κ (arrOf c9) k:=by rw[j9];exact KK_mirror_equal hz q2
     have D3:Dn κ (arrOf j4) lo m:=λi j k5 hj=>by rw[e0,e0];exact D2 i j k5 hj
     have F3:x9 κ kd a₀ a8 lo (lo+nrem) j4:=by rw[j9];exact F2.mirror (by lia) (by lia) hn
     clear j9 e0
    case' h2=>
     intro hq;obtain⟨j4,e3⟩:∃j4,j4=c9:=⟨_,rfl⟩
     have D3:Dn κ (arrOf j4) lo m:=by rw[e3];exact D2
     have F3:x9 κ kd a₀ a8 lo (lo+nrem) j4:=by rw[e3];exact F2
     rw[<- e3];clear e3
    all_goals (
     refine Fj (hZ (i:=lo) (j:=lo+m) λj1 j9=>?_);have U4:Up κ (arrOf j1) lo m:=by rw[j9];exact fin j4 F3 m (by lia) m2 D3
     have F4:x9 κ kd a₀ a8 lo (lo+nrem) j1:=by rw[j9];exact F3.mirror (AS _) (by lia) hn
     refine Fj (wpS_mono (wpS_forRange (I:=λx c r9=>r9=j1/\c=(none,x)/\Up κ (arrOf j1) lo x) (Q:=λc r9=>r9=j1/\∃n,c=(none,n)/\1<=n/\n<=nrem/\Up κ (arrOf j1) lo n) (λx c r9 ON QQ z=>?_) (λc r9 z=>?_) ⟨rfl,rfl,U4⟩) λc r9 z=>?_)
     ·obtain⟨rfl,rfl,u⟩:=z;have hx1':m<=x:=ON;have hx2':x<nrem:=QQ;refine Fj (dZ (i:=lo+x) (j:=lo+x-1) hO F4.sb h0 (by lia) (by lia) ?_);cases hl:κ.blt (KK κ (arrOf r9) (lo+x)) (KK κ (arrOf r9) (lo+x-1)) with
      |true=>exact Fk ⟨rfl,x,rfl,by lia,by lia,u⟩
      |false=>exact Fk ⟨rfl,rfl,u.more (by lia) hl⟩
     ·obtain⟨rfl,rfl,u⟩:=z;rw[show max m nrem=nrem by lia] at u ⊢;exact⟨rfl,nrem,rfl,h1,AS _,u⟩
     ·obtain⟨rfl,n',rfl,b1,b2,u⟩:=z
      exact Fk (h n' r9 F4 b1 b2 u)))
theorem jE{lo n ok:Nat}{Q:Bool->SortSt->Prop}(hO:Ly prog w κ kd s)(h0:KeysOf κ a₀)(hn:lo+n<=a₀.size)(b9:ok<=n)(hB:SB κ kd a₀ st)(hs:Up κ (arrOf st) lo ok)
  (h:∀a8,x9 κ kd a₀ st lo (lo+n) a8->Up κ (arrOf a8) lo n->Q true a8):wpS (model prog w) A E s (Me lo n ok) Q st:=by
 refine Fj (wpS_mono (wpS_forRange (I:=λk c a8=>c=(none,())/\x9 κ kd a₀ st lo (lo+n) a8/\Up κ (arrOf a8) lo (min k n)) (Q:=λc a8=>c=(none,())/\x9 κ kd a₀ st lo (lo+n) a8/\Up κ (arrOf a8) lo n) (λk c o8 QX QW z=>?_) (λc a8 z=>?_) ⟨rfl,.refl hB,?_⟩) λc a8 z=>?_)
 rotate_left
 ·obtain⟨hc,F,u⟩:=z;rw[show min (max (max ok 1) n) n=n by lia] at u;exact⟨hc,F,u⟩
 ·intro i j k5 hj;by_cases c:ok=0
  ·have:i=j:=by lia
   subst this;exact FD _
  ·exact hs i j k5 (by lia)
 ·obtain⟨rfl,F,u⟩:=z;exact Fk (h a8 F u)
 obtain⟨rfl,F1,u⟩:=z;rw[show min k n=k by lia] at u;have hk:lo+k<a₀.size:=by lia
 refine Fj (wpS_mono (wpS_forRange (I:=λx c c9=>c9=o8/\∃l r,c=(none,l,r)/\l<=r/\r<=k/\r - l<=k - x/\(∀i,i < l->κ.kle (KK κ (arrOf o8) (lo+i)) (KK κ (arrOf o8) (lo+k)))/\(∀i,r<=i->i < k->κ.klt (KK κ (arrOf o8) (lo+k)) (KK κ (arrOf o8) (lo+i))))
  (Q:=λc c9=>c9=o8/\∃l r,c=(none,l,r)/\l<=k/\(∀i,i < l->κ.kle (KK κ (arrOf o8) (lo+i)) (KK κ (arrOf o8) (lo+k)))/\(∀i,l<=i->i < k->κ.klt (KK κ (arrOf o8) (lo+k)) (KK κ (arrOf o8) (lo+i)))) (λx c c9 ON QQ z=>?_) (λc c9 z=>?_) ⟨rfl,0,k,rfl,Bj _,AS _,by lia,λi hi=>by lia,λi h1 h2=>by lia⟩) λc c9 z=>?_)
 ·obtain⟨rfl,l,r,rfl,b1,b2,b3,b4,b5⟩:=z;refine az (λz6=>?_) λz6=>?_
  ·have Y0:l≥r:=z6;have:l=r:=by lia
   subst this;exact Fk ⟨rfl,l,l,rfl,b2,b4,b5⟩
  have Y0:¬l≥r:=z6;refine Fj (dZ (i:=lo+k) (j:=lo+(l+r)/2) hO F1.sb h0 hk (by lia) ?_);cases hl:κ.blt (KK κ (arrOf c9) (lo+k)) (KK κ (arrOf c9) (lo+(l+r)/2)) with
  |true=>exact Fk ⟨rfl,l,(l+r)/2,rfl,by lia,by lia,by lia,b4,λi h1 h2=>KeyOrd.klt_of_klt_of_kle hl (u _ _ h1 h2)⟩
  |false=>exact Fk ⟨rfl,(l+r)/2+1,r,rfl,by lia,by lia,by lia,λi h1=>KeyOrd.kle_trans (u i ((l+r)/2) (by lia) (by lia)) hl,b5⟩
 ·obtain⟨rfl,l,r,rfl,b1,b2,b3,b4,b5⟩:=z;have b3':r-l<=k-max 0 k:=b3;have:l=r:=by lia
  subst this;exact⟨rfl,l,l,rfl,b2,b4,b5⟩
 ·obtain⟨rfl,l,r,rfl,b1,b4,b5⟩:=z;have hz:lo+k<(arrOf c9).size:=by rw[F1.sb.size];exact hk
  refine Fj (wpS_modify (Fk ⟨rfl,F1.bubble (src:=lo+k) (d:=lo+k-(lo+l)) (by lia) (by lia) hn (by lia),?_⟩));rw[show min (k+1) n=k+1 by lia];intro i j k5 hj;show κ.kle (KK κ (bubble (arrOf c9) (lo+k) (lo+k-(lo+l))) (lo+i)) (KK κ (bubble (arrOf c9) (lo+k) (lo+k-(lo+l))) (lo+j));rw[KK_bubble hz (by lia),KK_bubble hz (by lia),show lo+k-(lo+k-(lo+l))=lo+l by lia];by_cases c1:lo+j=lo+l
  ·rw[Fn c1];by_cases c2:lo+i=lo+l
   ·rw[Fn c2];exact FD _
   ·rw[Fm c2,Fm (by lia)];exact b4 i (by lia)
  ·rw[Fm c1];by_cases c3:lo+l<lo+j/\lo+j<=lo+k
   ·rw[Fn c3,show lo+j-1=lo+(j-1) by lia];by_cases c2:lo+i=lo+l
    ·rw[Fn c2];exact FE (b5 _ (by lia) (by lia))
    ·rw[Fm c2];by_cases c4:lo+l<lo+i/\lo+i<=lo+k
     ·rw[Fn c4,show lo+i-1=lo+(i-1) by lia];exact u _ _ (by lia) (by lia)
     ·rw[Fm c4];exact u _ _ (by lia) (by lia)
   ·rw[Fm c3,Fm (by lia),Fm (by lia)];exact u _ _ (by lia) (by lia)
end
abbrev Rn:=Nat×Nat×Nat
def Chain(κ:KeyKind)(xs:Array Keyed):List Rn->Nat->Nat->Prop
 |[],s,e=>s=e
 |t::r,s,e=>t.1=s/\1<=t.2.1/\Seg κ xs s (s+t.2.1)/\Chain κ xs r (s+t.2.1) e
section
variable {κ:KeyKind}{xs ys:Array Keyed}
theorem Chain.app:∀{L M:List Rn}{s e:Nat},Chain κ xs (L++M) s e↔∃m,Chain κ xs L s m/\Chain κ xs M m e
 |[],M,s,e=>⟨λh=>⟨s,rfl,h⟩,λ⟨m,h1,h2⟩=>by cases h1;exact h2⟩
 |t::r,M,s,e=>by
  constructor
  ·rintro⟨h1,h2,h3,h4⟩;obtain⟨m,a,b⟩:=Chain.app.mp h4;exact⟨m,⟨h1,h2,h3,a⟩,b⟩
  ·rintro⟨m,⟨h1,h2,h3,a⟩,b⟩;exact⟨h1,h2,h3,Chain.app.mpr ⟨m,a,b⟩⟩
theorem Chain.len:∀{L:List Rn}{s e:Nat},Chain κ xs L s e->s+L.length<=e
 |[],s,e,h=>by cases h;exact AS _
 |t::r,s,e,⟨_,h2,_,h4⟩=>by
  have:=h4.len;rw[Bl];lia
theorem Chain.keep:∀{L:List Rn}{s e:Nat},Chain κ xs L s e->(∀k,s<=k->k<e->ys[k]?=xs[k]?)->Chain κ ys L s e
 |[],s,e,h,_=>h
 |t::r,s,e,⟨h1,h2,h3,h4⟩,hk=>by
  have:=h4.len;exact⟨h1,h2,λi j p q a1 a2 a3 e1 e2=>h3 i j p q a1 a2 a3 (by rw[<- hk i (by lia) (by lia)];exact e1) (by rw[<- hk j (by lia) (by lia)];exact e2),h4.keep λk a b=>hk k (by lia) b⟩
theorem Chain.pow(pw:Nat):∀{L:List Rn}{s e:Nat}(i:Nat),Chain κ xs L s e->Chain κ xs (L.modify i λt=>(t.1,t.2.1,pw)) s e
 |[],s,e,i,h=>by cases i<;>exact h
 |t::r,s,e,0,⟨h1,h2,h3,h4⟩=>⟨h1,h2,h3,h4⟩
 |t::r,s,e,i+1,⟨h1,h2,h3,h4⟩=>⟨h1,h2,h3,h4.pow pw i⟩
theorem qq{L:List Rn}{i:Nat}(h:i+1<L.length):∃L1 x y L2,L=L1++x::y::L2/\L1.length=i:=by
 refine⟨L.take i,L[i],L[i+1],L.drop (i+2),?_,by rw[Bs];lia⟩
 conv=>lhs;rw[<- Ca i L]
 rw[CL (show i<L.length by lia),CL h]
end
structure RR(κ:KeyKind)(kd:SortKind)(a₀:Array Keyed)(lo:Nat)(st:SortSt):Prop where
 sb:SB κ kd a₀ st
 ch:Chain κ (arrOf st) (pendingOf st).toList 0 lo
section
variable {prog:Program}{w:World}{A:Around}{E:A3}{s:Shared}{κ:KeyKind}{kd:SortKind}{st:SortSt}{a₀:Array Keyed}
theorem gi{i lo:Nat}{Q:Bool->SortSt->Prop}(hO:Ly prog w κ kd s)(h0:KeysOf κ a₀)(R:RR κ kd a₀ lo st)(hi:i+1<(pendingOf st).size)(hl:lo<=a₀.size)
  (h:∀a8,RR κ kd a₀ lo a8->(pendingOf a8).size+1=(pendingOf st).size->(∀k,lo<=k->(arrOf a8)[k]?=(arrOf st)[k]?)->Q true a8):wpS (model prog w) A E s (mergeAt' i) Q st:=by
 obtain⟨L1,x,y,L2,eL,l1⟩:=qq (L:=(pendingOf st).toList) (i:=i) (by rw[Bk];exact hi);obtain⟨sa,na,pw⟩:=x;obtain⟨sb,nb,Vi⟩:=y;have ch:=R.ch;rw[eL] at ch;obtain⟨m,c1,b1,b2,b3,b4,b5,b6,c2⟩:=Chain.app.mp ch;have b1:sa=m:=b1;have b4:sb=m+na:=b4;have b2:1<=na:=b2;have b5:1<=nb:=b5;subst b1;have z1:=c1.len;have z2:=c2.len;have z2:sa+na+nb+L2.length<=lo:=z2;have e1:(pendingOf st)[i]?=some (sa,na,pw):=by rw[<- Bn,eL,CF (by lia),l1,Ef];rfl
 have e2:(pendingOf st)[i+1]?=some (sb,nb,Vi):=by rw[<- Bn,eL,CF (by lia),show i+1-L1.length=1 by lia];rfl
 refine jJ hO h0 R.sb e1 e2 b4 b2 b5 (by lia) b3 (by rw[b4];exact b6) λa8 B' p' s' o'=>?_;have eP:(pendingOf a8).toList=L1++(sa,na+nb,pw)::L2:=by
  rw[p',Array.toList_eraseIdxIfInBounds,Array.toList_setIfInBounds,eL,List.set_append_right _ _ (by lia),List.eraseIdx_append_of_length_le (by lia),show i-L1.length=0 by lia,show i+1-L1.length=1 by lia];rfl
 refine h a8 ⟨B',?_⟩ ?_ λk hk=>o' k (.inr (by lia))
 ·rw[eP];refine Chain.app.mpr ⟨sa,c1.keep λk _ hk=>o' k (.inl hk),rfl,?_,s',?_⟩
  ·show 1<=na+nb;lia
  ·have:=c2.keep (ys:=arrOf a8) λk hk _=>o' k (.inr (by have:sa+na+nb<=k:=hk;lia));show Chain κ (arrOf a8) L2 (sa+(na+nb)) lo;rw[<- Do];exact this
 ·have h1:=congrArg List.length eP;have h2:=congrArg List.length eL;rw[Bk,AV,Bl] at h1;rw[Bk,AV,Bl,Bl] at h2;lia
theorem less{N:Nat}(h:¬N<=1){c:Prop} [Decidable c]:(if c then N-2-1 else N-2)+1<N:=by split<;>lia
theorem jv{Q:Unit->SortSt->Prop}(hO:Ly prog w κ kd s)(h0:KeysOf κ a₀)(hB:SB κ kd a₀ st)(hp:pendingOf st=#[])
  (h:∀a8,SB κ kd a₀ a8->Seg κ (arrOf a8) 0 a₀.size->Q () a8):wpS (model prog w) A E s sortRuns' Q st:=by
 refine Fj (wpS_get ?_);have hsz:(arrOf st).size=a₀.size:=hB.size;refine Fj (wpS_mono (wpS_forRange (I:=λx c a8=>c.1=none/\RR κ kd a₀ c.2 a8/\c.2<=a₀.size/\(x<=c.2\/c.2=a₀.size)) (Q:=λc a8=>c.1=none/\RR κ kd a₀ a₀.size a8) (λx c o8 ON QQ z=>?_) (λc a8 z=>?_) ⟨rfl,⟨hB,?_⟩,Bj _,.inl (AS _)⟩) λc a8 z=>?_)
 rotate_left
 ·obtain⟨e,R,l1,l2⟩:=z;refine⟨e,?_⟩;have:c.2=a₀.size:=by
   rcases l2 with l2|l2
   ·have l2':max 0 (arrOf st).size<=c.2:=l2;lia
   ·exact l2
  rw[this] at R;exact R
 ·rw[hp];rfl
 ·obtain⟨c0,lo⟩:=c;obtain⟨e,R⟩:=z;cases e;refine Fj (wpS_mono (wpS_forRange (I:=λx c c9=>c=(none,())/\RR κ kd a₀ a₀.size c9/\((pendingOf c9).size+x<=a₀.size+0\/(pendingOf c9).size<=1)) (Q:=λc c9=>c=(none,())/\RR κ kd a₀ a₀.size c9/\(pendingOf c9).size<=1) (λx c c9 ON QQ z=>?_) (λc c9 z=>?_) ⟨rfl,R,?_⟩) λc c9 z=>?_)
  rotate_left
  ·obtain⟨e,R2,l⟩:=z;refine⟨e,R2,?_⟩;have l':(pendingOf c9).size+max 0 (arrOf st).size<=a₀.size+0\/(pendingOf c9).size<=1:=l;lia
  ·have:=R.ch.len;rw[Bk] at this;exact .inl (by lia)
  ·obtain⟨rfl,R2,l⟩:=z;refine Fk (h c9 R2.sb ?_);have ch:=R2.ch;have ll:(pendingOf c9).toList.length<=1:=by rw[Bk];exact l
   cases eL:(pendingOf c9).toList with
   |nil=>
    rw[eL] at ch;have ch:0=a₀.size:=ch;intro i j p q a1 a2 a3;lia
   |cons t r=>
    rw[eL,Bl] at ll;have hr:r=[]:=BM.mp (by lia);rw[eL,hr] at ch;obtain⟨_,_,sg,ee⟩:=ch;have ee:0+t.2.1=a₀.size:=ee;rw[ee] at sg;exact sg
  obtain⟨rfl,R2,l⟩:=z;refine Fj (wpS_get ?_);refine az (λe=>Fk ⟨rfl,R2,e⟩) λe=>?_;have e':¬(pendingOf c9).size<=1:=e;refine Fj (gi hO h0 R2 (less e') (AS _) λj4 R3 l3 _=>?_);exact Fk ⟨rfl,R3,by lia⟩
 obtain⟨c0,lo⟩:=c;obtain⟨e,R,l1,l2⟩:=z;cases e;dsimp only at R l1 l2;refine az (λe=>Fk ⟨rfl,?_⟩) λe=>?_
 ·have e':lo≥(arrOf st).size:=e;rw[show lo=a₀.size by lia] at R;exact R
 have e':¬lo≥(arrOf st).size:=e;refine Fj (mN (lo:=lo) (nrem:=(arrOf st).size-lo) hO h0 (by lia) (by lia) R.sb λm c9 F2 m1 m2 U2=>?_);apply az
 case' h1=>
  intro hm;refine Fj (FR (FS ⟨rfl,?_⟩));have hm':m<minRun' (arrOf st).size (arrOf st).size 0:=hm;refine Fj (jE (lo:=lo) (n:=min ((arrOf st).size-lo) (minRun' (arrOf st).size (arrOf st).size 0)) (ok:=m) hO h0 (by generalize minRun' (arrOf st).size (arrOf st).size 0=mr;lia) (by generalize minRun' (arrOf st).size (arrOf st).size 0=mr at hm' ⊢;lia) F2.sb U2 λj4 F3 U3=>?_);have hmm:1<=min ((arrOf st).size-lo) (minRun' (arrOf st).size (arrOf st).size 0)/\lo+min ((arrOf st).size-lo) (minRun' (arrOf st).size (arrOf st).size 0)<=a₀.size:=by
   generalize minRun' (arrOf st).size (arrOf st).size 0=mr at hm' ⊢;lia
  refine az (λz=>absurd z (by decide)) λ_=>?_;have R3:RR κ kd a₀ lo j4:=⟨F3.sb,by rw[F3.pend,F2.pend];exact R.ch.keep λk _ hk=>(F3.out k (.inl hk)).trans (F2.out k (.inl hk))⟩
  obtain⟨n1,n2⟩:=hmm;have S3:=U3.seg;clear F3 U3;obtain⟨n,hn⟩:∃n,n=min ((arrOf st).size-lo) (minRun' (arrOf st).size (arrOf st).size 0):=⟨_,rfl⟩
  rw[<- hn] at n1 n2 S3
 case' h2=>
  intro hm;obtain⟨j4,e3⟩:∃j4,j4=c9:=⟨_,rfl⟩
  have R3:RR κ kd a₀ lo j4:=by rw[e3];exact⟨F2.sb,by rw[F2.pend];exact R.ch.keep λk _ hk=>F2.out k (.inl hk)⟩
  have n1:1<=m:=m1;have n2:lo+m<=a₀.size:=by lia
  have S3:Seg κ (arrOf j4) lo (lo+m):=by rw[e3];exact U2.seg
  rw[<- e3];clear e3;obtain⟨n,hn⟩:∃n,n=m:=⟨_,rfl⟩
  rw[<- hn] at n1 n2 S3
 all_goals (
  have push:∀j1,RR κ kd a₀ lo j1->Seg κ (arrOf j1) lo (lo+n)->RR κ kd a₀ (lo+n) (setPending j1 ((pendingOf j1).push (lo,n,0))):=λj1 R4 S4=>⟨⟨R4.sb.perm,R4.sb.kind,R4.sb.failed⟩,by
   show Chain κ (arrOf j1) ((pendingOf j1).push (lo,n,0)).toList 0 (lo+n);rw[CZ]
   exact Chain.app.mpr ⟨lo,R4.ch,rfl,n1,S4,rfl⟩⟩
  refine Fj (wpS_get ?_);cases eb:(pendingOf j4).back? with
  |none=>
   subst hn;exact Fj (wpS_modify (Fk ⟨rfl,push j4 R3 S3,n2,.inl (by lia)⟩))
  |some t=>
   obtain⟨s1,n0,pw0⟩:=t;refine Fj (wpS_mono (wpS_forRange (I:=λy c j1=>c=(none,())/\RR κ kd a₀ lo j1/\∀k,lo<=k->(arrOf j1)[k]?=(arrOf j4)[k]?) (Q:=λc j1=>c=(none,())/\RR κ kd a₀ lo j1/\∀k,lo<=k->(arrOf j1)[k]?=(arrOf j4)[k]?) (λy c j1 hy1 hy2 z=>?_) (λc j1 z=>z) ⟨rfl,R3,λ_ _=>rfl⟩) λc j1 z=>?_)
   ·obtain⟨rfl,R4,o4⟩:=z;refine Fj (wpS_get ?_);dsimp only;by_cases C6:(pendingOf j1).size>1
    ·have e5:(if (pendingOf j1).size>1 then (pendingOf j1)[(pendingOf j1).size-2]? else none)=some ((pendingOf j1)[(pendingOf j1).size-2]'(by lia)):=by rw[Fn C6];exact BD _
     generalize (pendingOf j1)[(pendingOf j1).size-2]'(by lia)=u at e5;obtain⟨u1,u2,u3⟩:=u;rw[show(if ((sortPriv% PySem.Builtin.SortState.pending) j1).size>1 then ((sortPriv% PySem.Builtin.SortState.pending) j1)[((sortPriv% PySem.Builtin.SortState.pending) j1).size-2]? else none)=some (u1,u2,u3) from e5];refine az (λ_=>Fk ⟨rfl,R4,o4⟩) λ_=>?_;refine Fj (gi hO h0 R4 (show(pendingOf j1).size-2+1<(pendingOf j1).size by lia) l1 λr9 R5 l5 o5=>?_);exact Fk ⟨rfl,R5,λk hk=>(o5 k hk).trans (o4 k hk)⟩
    ·rw[show(if ((sortPriv% PySem.Builtin.SortState.pending) j1).size>1 then ((sortPriv% PySem.Builtin.SortState.pending) j1)[((sortPriv% PySem.Builtin.SortState.pending) j1).size-2]? else none)=none from Fm C6];exact Fk ⟨rfl,R4,o4⟩
   ·obtain⟨rfl,R4,o4⟩:=z;refine Fj (wpS_modify (Fj (wpS_modify ?_)));subst hn;refine Fk ⟨rfl,push _ ⟨⟨R4.sb.perm,R4.sb.kind,R4.sb.failed⟩,?_⟩ (λi j p q a1 a2 a3 e1 e2=>S3 i j p q a1 a2 a3 (by rw[<- o4 i a1];exact e1) (by rw[<- o4 j (by lia)];exact e2)),n2,.inl (by lia)⟩;show Chain κ (arrOf j1) ((pendingOf j1).modify ((pendingOf j1).size-1) _).toList 0 lo;rw[Array.toList_modify]
    exact R4.ch.pow _ _)
end
section
variable {prog:Program}{w:World}{A:Around}{E:A3}{s:Shared}
theorem ma{κ:KeyKind}{kd:SortKind}{a₀:Array Keyed}{st:SortSt}(B:SB κ kd a₀ st)(h:Seg κ (arrOf st) 0 a₀.size):SortedToK κ (arrOf st) a₀.size:=λi j k5 hj=>by
 have z:=B.size;have e1:(arrOf st)[i]?=some ((arrOf st)[i]'(by lia)):=BD _;have e2:(arrOf st)[j]?=some ((arrOf st)[j]'(by lia)):=BD _;have:=h i j _ _ (Bj _) k5 hj e1 e2;unfold KK;rw[e1,e2];exact this
theorem dO{κ:KeyKind}{kd:SortKind}{h6:Heap}{a:Addr}{vs:A8}{n:Nat}{P:PySem.Fin->Shared->Prop}(ho:s.heap.get? a=some (seqObj "list" vs.toArray n))(h0:KeysOf κ (pairsOf vs))(eh:(((s.heap.update a (Obj.mapSeq λ_=>#[])).push (seqObj "tuple" vs.toArray 0)).push (seqObj "list" #[] 0))=h6)(hO:Ly prog w κ kd {s with heap:=h6})(YQ:2<=vs.length->∀Q:SortKind->Shared->Prop,Q kd {s with heap:=h6}->wpAny (model prog w) A (keyKind' vs.toArray) Q E {s with heap:=h6})(hz:vs.length<=sizeLine)
  (h:∀a8:SortSt,(arrOf a8).Perm (pairsOf vs)->SortedToK κ (arrOf a8) (pairsOf vs).size->P (.done (.ret .none)) {s with heap:=sortedHeap s.heap a vs ((arrOf a8).map (·.2))}):wpAny (model prog w) A (Builtin.«list.sort» ⟨[.ref a],[]⟩) P E s:=by
 subst eh;rw[list_sort_plain];have ha:a<s.heap.objs.size:=Fv ho;refine Fh (listItems_at ho rfl (Fh (listUpdate_at ho rfl ?_)));obtain⟨e1,ho1⟩:∃e1,(s.heap.update a (Obj.mapSeq λ_=>#[])).get? a=some (seqObj "list" #[] e1):=⟨_,get?_update_seq ho (λ_=>#[])⟩
 refine Fh (seqEpoch_at ho1 rfl (Fh (wpAny_newTuple (Fh (wpAny_newList (Ft ?_))) (by show vs.toArray.size<=sizeLine;rw[Br];exact hz))));have Uq:(((s.heap.update a (Obj.mapSeq λ_=>#[])).push (seqObj "tuple" vs.toArray 0)).push (seqObj "list" #[] 0)).get? a=some (seqObj "list" #[] e1):=by rw[Heap.get?_push_ne _ _ _ (by rw[size_push',Heap.size_update];exact Bf (CH ha)),Heap.get?_push_ne _ _ _ (by rw[Heap.size_update];exact Bf ha)];exact ho1
 show wpAny (model prog w) A _ P E {s with heap:=((s.heap.update a (Obj.mapSeq λ_=>#[])).push (seqObj "tuple" vs.toArray 0)).push (seqObj "list" #[] 0)};dsimp only;have hsz:vs.toArray.size=vs.length:=by simp
 by_cases h2:vs.toArray.size<2
 ·rw[Fn h2,Fn h2];refine Fh (Fi ?_);rw[StateT.run_pure];refine Fh (Fi ?_);dsimp only;refine Fh (seqEpoch_at Uq rfl (Fh (listUpdate_at Uq rfl ?_ (hsz2:=by rw[Array.size_map];show(pairsOf vs).size<=_;rw[pairsOf_size];exact Ey hz))));simp only[bne_self_eq_false,BV,if_false];refine Fi (h (SortSt.mk' general' (vs.toArray.zip vs.toArray) #[] 7 none) (Array.Perm.refl _) λi j k5 hj=>?_);have:i=j:=by rw[pairsOf_size] at hj;lia
  subst this;exact FD _
 ·rw[Fm h2,Fm h2];refine Fh (YQ (by rw[<- hsz];exact Nat.not_lt.mp h2) _ ?_);refine Fh (Fq (jv (κ:=κ) hO (a₀:=pairsOf vs) (st:=SortSt.mk' kd (vs.toArray.zip vs.toArray) #[] 7 none) (Q:=λ_ a8=>SB κ kd (pairsOf vs) a8/\Seg κ (arrOf a8) 0 (pairsOf vs).size) h0 ⟨Array.Perm.refl _,rfl,rfl⟩ rfl λa8 a1 a2=>⟨a1,a2⟩) ?_ λ_ _ e=>e);rintro⟨⟨⟩,a8⟩ s' ⟨rfl,hp,hs⟩;dsimp only;refine Fh (seqEpoch_at Uq rfl (Fh (listUpdate_at Uq rfl ?_ (hsz2:=by refine Bh (DJ ((Array.size_map ..).trans (hp.perm.size_eq.trans (pairsOf_size _)))) (Ey hz)))));rw[hp.failed];simp only[bne_self_eq_false,BV,if_false];exact Fi (h a8 hp.perm (ma hp hs))
theorem uq{vs:A8}{ss:List Str}(j9:StrsAre vs ss){s:Shared}(h2:2<=vs.length)(Q:SortKind->Shared->Prop)(q:Q oneType' s):wpAny (model prog w) A (keyKind' vs.toArray) Q E s:=by
 match vs,j9,h2 with
 |US::UR::rest,j9,_=>rw[keyKind_strs j9];exact Fi q
theorem JI{l:Addr}{vs:A8}{ss:List Str}{Q:A3}(hl:s.heap.IsList l vs.toArray)(j9:StrsAre vs ss)(hz:vs.length<=sizeLine)
  (h:∀out Oy,StrsAre out.toList Oy->Oy.Perm ss->sortedS Oy=true->Q (.ref (s.heap.objs.size+1)) {s with heap:=sortedAll s.heap vs out}):wpAny (model prog w) A (call (.builtin "sorted") [.ref l]) Q E s:=by
 refine Calls.call_function_entry kind_sorted plain_sorted entry_sorted (args_sorted1 _) ?_;unfold Builtin.«sorted»;refine Fh (m:=checkCount "sorted" 1 1 _) (Fi (Fh (collect_list hl (Fh (wpAny_newList ?_ (by show vs.toArray.size<=sizeLine;rw[Br];exact hz))) (by first|(show vs.toArray.size<=sizeLine;rw[Br];exact hz)|skip))));have hsz:((s.heap.push (seqObj "list" #[] 0)).update s.heap.objs.size (Obj.mapSeq (·++vs.toArray))).objs.size=s.heap.objs.size+1:=by rw[Heap.size_update,size_push']
 have MW:(((s.heap.push (seqObj "list" #[] 0)).update s.heap.objs.size (Obj.mapSeq (·++vs.toArray))).push (seqObj "list" vs.toArray 0)).get? (s.heap.objs.size+1)=some (seqObj "list" vs.toArray 0):=by rw[<- hsz];exact FK _ rfl
 show wpAny _ _ _ _ _ {s with heap:=((s.heap.push (seqObj "list" #[] 0)).update s.heap.objs.size (Obj.mapSeq (·++vs.toArray))).push (seqObj "list" vs.toArray 0)};rw[hsz];refine Fh (Ft (FP slot_list_sort ⟨_,MW,rfl⟩ entry_list_sort (dO MW j9.keysOf rfl (.one strKind_oneLt) (uq j9) hz λa8 a1 a2=>⟨_,rfl,?_⟩) (args_list_sort _)));obtain⟨Oy,b1,b2,b3⟩:=sorted_out_str j9 a1 a2;exact Fi ⟨_,rfl,h _ Oy b1 b2 b3⟩
end
end SG
namespace L2
open PySem PySem.Spec PyProof.Rows
abbrev sY(J:It)(g:TG)(tc:TT)(te:TE)(σ:St)(H:Hp)(ys:List Str)(Q:List Str->Hp->Prop):Prop:=iW true J g tc te σ H ys Q
abbrev pO(J:It)(k:Nat)(js:A7)(g:TG)(tc:TT)(u4:TI)(g1:TG)(o7:TT)(te:TE)(σ:St)(H1:Hp)(Q:List Str->Hp->Prop):Prop:=nU true J k js g tc u4 g1 o7 te σ H1 Q
def uE (wi:TI)(k:Nat)(js:A7)(g:TG)(tc:TT)(u4:TI)(g1:TG)(o7:TT)(te:TE):JF:=fun σ H Q=>wi σ H λJ H1=>pO J k js g tc u4 g1 o7 te σ H1 Q
section
variable {X:Cx}{scope:Scope}{ts cap:List Str}{js:A7}{elt j0 c7 i9 b8:Expr}{i1 f7:List Expr}{pos:Pos}
theorem mj{wi:TI}{g:TG}{tc:TT}{u4:TI}{g1:TG}{o7:TT}{te:TE}(hc:X.calm=true)(CS:FY X scope ts cap js)(hi:PI X j0 c7 wi)(hg:∀C fp s H,PG (au X scope C fp (ts++cap) s H) j0 g)
  (ht:∀C fp s H,K5 (au X scope C fp (ts++cap) s H) i1 tc)(Oi:∀C fp s H,PI (au X scope C fp (ts++cap) s H) i9 b8 u4)
  (Tn:∀C fp s H,PG (au X scope C fp (ts++cap) s H) i9 g1)(RP:∀C fp s H,K5 (au X scope C fp (ts++cap) s H) f7 o7)(he:∀C fp s H,PE (au X scope C fp (ts++cap) s H) elt te)
  (Ll:∀C x,foldedSetIterable b8 (compEnvC scope (cS X.env.cells scope.names []) C X.env) x=pure x:=by intro _ _;rfl)
  (hs:∀x,foldedSetIterable c7 X.env x=pure x:=by intro _;rfl):tO X (.SetComp elt [⟨j0,c7,i1,0⟩,⟨i9,b8,f7,0⟩] scope pos) (uE wi ts.length js g tc u4 g1 o7 te):=by
 intro pins s σ H Q I h;refine wpAny_comprehension_free (e:=.SetComp elt [⟨j0,c7,i1,0⟩,⟨i9,b8,f7,0⟩] scope pos) (use:=none) rfl hs (bp (CS.cells I.ok)) CS.kind CS.names (c6 (hi pins s σ H _ I h) λv s1 h1=>c6 h1 λN7 s2 h2=>?_);obtain⟨it,fp,tn,J,H2,e,I2,T,c9,f2,W,⟨m0,w0⟩,turn⟩:=h2;subst e;refine fz (c:=true) (Fin:=Q) (RR:=λacc C=>compPost (model X.prog X.w) X.A X.xe none (λv s'=>∃D o ys H',v=.ref D/\Inv X pins σ H' s'/\s'.heap.get? D=some o/\IA X.prog X.w (fU X.w) o ys/\(j3 ys).length<scanBound/\Q ys H') acc C) hc I2 T c9 f2 CS hg ht Oi Tn RP he Ll w0 turn ?_;intro D C s' H' c5 ys m o I' Lw hz hn hC hD Oo fin;have OW:=I'.free;have Zh:=(I'.pin (D,o) (Bc _ AZ)).1;have OI:=I2.lt;have low:∀b o,s2.heap.get? b=some o->b≠C:=λb o e=>Bf (Bq (Fv e) hC);refine⟨m,hn,λh' vx=>⟨D,o,ys,H',rfl,cL (n0:=0) (fY I2 f2 I') (Heap.get?_none_of_le (Bh I2.sz hC)) (Bf (Bq OI hC)) (λx c e=>?_) (λp hp=>?_) OW vx,vx.extBut _ _ (FI Oo) Zh,Lw,Cf (Bh (HN ys) hz) (show 4000<scanBound by decide),fin⟩⟩
 ·obtain⟨v,o,ho,_⟩:=I2.cell x c e;exact low c o ho
 ·exact low _ _ (I2.pin p hp).1
end
abbrev MZ(n j:Nat)(P:Nat->St->List Str->Hp->Prop)(σ:St)(ys:List Str)(H:Hp):Prop:=∃m',m'<n-j/\(m'=n-(j+1)/\j+1<=n/\P (j+1) σ ys H)
theorem MZ.mk{n j:Nat}{P:Nat->St->List Str->Hp->Prop}{σ:St}{ys:List Str}{H:Hp}(hj:j<n)(h:P (j+1) σ ys H):MZ n j P σ ys H:=⟨n-(j+1),by lia,rfl,hj,h⟩
theorem vb{K:W.Frag}{a:Addr}{xs:A9}{k:Nat}{js:A7}{g:TG}{tc:TT}{u4:TI}{g1:TG}{o7:TT}{te:TE}{σ:St}{H:Hp}{Q:List Str->Hp->Prop}(P:Nat->List Str->Hp->Prop)(h0:P 0 [] H)(hz:∀i ys H,i<=xs.length->P i ys H->ys.length<=4000)
  (hl:∀i ys H,i<=xs.length->P i ys H->a9 K H a xs)
  (hs:∀i x ys H,xs[i]?=some x->P i ys H->g x (List.replicate k none++bY js σ) H fun c8 H2=>tc c8 H2 λb H3=>if b=true then u4 c8 H3 λJ1 H4=>sY J1 g1 o7 te c8 H4 ys λi6 H5=>O5 xs.length i P i6 H5 else O5 xs.length i P ys H3)
  (hd:∀ys H,P xs.length ys H->Q ys H):pO (O6 K a) k js g tc u4 g1 o7 te σ H Q:=by
 refine⟨λi m ys H=>m=xs.length-i/\i<=xs.length/\P i ys H,⟨_,rfl,Bj _,h0⟩,?_⟩;rintro i m ys H ⟨rfl,hi,p⟩;have q:=hl i ys H hi p;have ly:=hz i ys H hi p;by_cases d5:i<xs.length
 ·refine .inr ⟨⟨xs,xs[i],q,by simp[d5]⟩,λx H' y=>?_⟩;obtain⟨e,y⟩:=y;subst e;exact hs i x ys _ (y xs q) p
 ·have e:i=xs.length:=by lia
  subst e;exact .inl ⟨⟨xs,q,AS _⟩,ly,hd ys H p⟩
section
variable {prog:Program}{w:World}{K:Type} [DecidableEq K] {knd:HeapKind prog w K}{A:Around}{E:A3}{s:Shared}
theorem mK(knd:HeapKind prog w K)(d:Addr)(hd:(d==sysModules)=false) :
  MeetsIn prog w (Builtin.«dict.__len__» ⟨[.ref d],[]⟩) (λ_ R s=>∃xs,s.heap.DictOfH knd d xs/\R (.ok (.ret (.int xs.length s.toks))) {s with toks:=s.toks+1}):=
 .of_wp λA R s Xi=>by
  obtain⟨xs,hm,h⟩:=Xi;obtain⟨o,es,ep,ho,hc,Y8,Qc,_⟩:=hm;show wpAny _ _ (dictSize d >>= _) _ _ s;unfold dictSize;refine Fh (Fh (wpAny_dictEntries ho Y8 (Fi ?_)));show wpAny _ _ (Builtin.Dict.pendingCount d >>= _) _ _ s;refine Fh (wpAny_pendingCount_other hd ?_);refine wpAny_ret_mkInt ?_;have:es.size=xs.length:=by rw[<- Bk,Qc,AU]
  rw[BR,this];exact h
theorem jc{d:Addr}{xs:List (K×Addr×Value)}{Q:A3}(hd:(d==sysModules)=false)(hm:s.heap.DictOfH knd d xs)(hfit:(xs.length:Int)<2^63)
  (h:Q (.int xs.length (s.toks+1)) {s with toks:=s.toks+1+1}):wpAny (model prog w) A (call (.builtin "len") [.ref d]) Q E s:=by
 refine Calls.call_function_entry kind_len plain_len entry_len (args_len1 _) ?_;unfold Builtin.«len»;refine Fh (m:=oneArg "len" _) (Fi ?_)
 refine Fh (m:=callSpecial? (.ref d) (Str.ofString "__len__")) (wpAny_callSpecial?_slot (name:=Str.ofString "__len__") hm.typeIs F.slot_dict_len
  (call_meetsIn F.slot_dict_len hm.typeIs F.entry_dict_len (F.args_dict_len_1 _) (mK knd d hd) ⟨xs,hm,?_⟩))
 show wpAny _ _ _ _ _ {s with toks:=s.toks+1};refine Fh (Ft (Fi ?_));refine Fh (wpAny_letGo ?_);show wpAny _ _ (if ((xs.length:Nat):Int)<0 then _ else _) _ _ _;rw[Fm (by lia)];show wpAny _ _ (if ((xs.length:Nat):Int)≥2^63 then _ else _) _ _ _;rw[Fm (by lia)];exact Fh (wpAny_mkInt (Fi ⟨_,rfl,h⟩))
end
inductive Ni(xs:A9)(H:Hp)(Q:VK):Prop
 |mk p kvs:xs=[.ref p]->Rd H p (.dT kvs)->Q (.int ((kvs.length:Nat):Int)) H->Ni xs H Q
theorem nQ{X:Cx}:bV X (.builtin "len") Ni:=by
 intro pins s σ H xs us Q I r h;obtain⟨p,kvs,rfl,hd,q⟩:=h;obtain⟨u,rfl,rx⟩:=cD r;cases rx;obtain⟨z,lo,xs,kt,hm⟩:=jS I.b9 hd;have el:=Paired.length kt;refine jc lo hm (by rw[<- el];rw[sizeLine_eq] at z;lia) ?_;rw[<- el];exact⟨.int kvs.length,H,I.tok _,⟨_,rfl⟩,q⟩
inductive Md(P:Program)(w:World)(xs:A9)(H:Hp)(Q:VK):Prop
 |mk p kvs:xs=[.ref p]->RU P w H p kvs->Q (.int ((kvs.length:Nat):Int)) H->Md P w xs H Q
theorem qe{X:Cx}:bV X (.builtin "len") (Md X.prog X.w):=by
 intro pins s σ H xs us Q I r h;obtain⟨p,kvs,rfl,hd,q⟩:=h;obtain⟨u,rfl,rx⟩:=cD r;cases rx;obtain⟨xs,dx,hm⟩:=xB I.b9 hd;have el:=Paired.length dx.ku;have z:=dx.few;refine jc dx.sys hm (by rw[<- el];rw[sizeLine_eq] at z;lia) ?_;rw[<- el];exact⟨.int kvs.length,H,I.tok _,⟨_,rfl⟩,q⟩
section
variable {X:Cx}
inductive Lj(K:W.Frag)(xs:A9)(H:Hp)(Q:VK):Prop
 |mk p zs:xs=[.ref p]->a9 K H p (zs.map V.str)->(∀l G0,G0.Perm zs->sortedS G0=true->H l=none->Q (.ref l) (upd H l (.lst (G0.map V.str))))->Lj K xs H Q
theorem JE:bV X (.builtin "sorted") (Lj X.K):=by
 intro pins s σ H xs us Q I r h;obtain⟨p,zs,rfl,hq,q⟩:=h;obtain⟨u,rfl,rx⟩:=cD r;cases rx;obtain⟨a7,rv,pl,hz⟩:=I.list hq;have hl:=rv.length;rw[AU] at hl hz;refine SG.JI pl.isList (strsOf rv) (by lia) λout Oy a1 a2 a3=>?_;obtain⟨e,he⟩:=sortedAll_at s.heap a7 out;refine⟨.ref (s.heap.objs.size+1),_,I.laid (t':=s.toks) (o:=.lst (Oy.map V.str)) (λ_ _=>sortedAll_old) (Ck _) ?_,rfl,q _ Oy a2 a3 (I.b9.fresh (Ck _))⟩;refine⟨?_,out.toList,e,JP a1,?_⟩
 ·rw[AU,a2.length_eq];lia
 ·rw[ED];exact he
end
inductive IL(P:Program)(w:World)(x:V)(y:V)(H:Hp)(Q:VK):Prop
 |mk b a kvs k:x=.ref b->y=.ref a->RU P w H a kvs->Kh H b k->Q (.bl (!(cg kvs k).isSome)) H->IL P w x y H Q
theorem nM{X:Cx}(hu:X.A.units+64<cLine):k9 X (compareOp .NotIn) (IL X.prog X.w):=by
 intro pins s σ H x y u v Q I rx ry h;obtain⟨b,a,kvs,k,rfl,rfl,g,t,q⟩:=h;cases rx;cases ry;obtain⟨xs,dx,dd⟩:=xB I.b9 g;refine wpAny_notIn_heap (knd:=cm X.prog X.w) ?_ (fq I.b9 t) dx.sys dd ?_
 ·show _<cLine;have:X.A.in1.units<=X.A.units+1:=by
   (first|exact AS _|(unfold Around.in1;simp))
  lia
 ·have e:(atKey xs k).isSome=(cg kvs k).isSome:=by rw[(dx.ku.val k).GO,DZ]
  rw[e];exact⟨.bl (!(cg kvs k).isSome),H,I.tok _,rfl,q⟩
end L2
namespace SH
open SG PySem PySem.Spec PyProof.Rows SeqAt
def TupAt(h:Heap)(v:Value)(ns:B3):Prop:=∃t o us e,v=.ref t/\h.get? t=some o/\o.cls=.type "tuple"/\o.data=.seq us.toArray e/\IntsAre us ns
section
variable {prog:Program}{w:World}{A:Around}{E:A3}{s:Shared}
theorem pF(b:Bool)(x y:Value):keyLt' (tuples' b) x y=(do
  let xs <- Builtin.List.listItems x
  let ys <- Builtin.List.listItems y
  for ((p,q),i) in (xs.toList.zip ys.toList).zipIdx do
   if !(<- eqBool p q) then return <- oneLt' (b&&i==0) p q
  return decide (xs.size < ys.size)):=rfl
theorem mV{b:Bool}{n m:Int}{t u:Tok}{Q:Bool->Shared->Prop}(h:Q (decide (n<m)) s):wpAny (model prog w) A (oneLt' b (.int n t) (.int m u)) Q E s:=by
 cases b with
 |true=>exact oneLt_int h
 |false=>
  rw[oneLt'_eq];simp only[BV,if_false];refine Fh (HT.Jc _ _ _ _ _ _ _ _ _ _ ?_);exact wpAny_truthy_bool h
theorem rM{x y:Value}{ns ms:B3}(hx:TupAt s.heap x ns)(hy:TupAt s.heap y ms)(hl:ns.length=ms.length){b:Bool}{Q:Bool->Shared->Prop}(h:Q (decide (ns<ms)) s):wpAny (model prog w) A (keyLt' (tuples' b) x y) Q E s:=by
 obtain⟨p,o,us,e,rfl,ho,_,hd,iu⟩:=hx;obtain⟨q,o2,vs,e2,rfl,Ur,_,hd2,iv⟩:=hy;rw[pF];refine Fh (listItems_at ho hd (Fh (listItems_at Ur hd2 ?_)));have ls:us.length=vs.length:=by rw[iu.length,iv.length,hl]
 refine Fh (Fq (wpAny_forIn_list (β:=Option Bool×Unit) _ (λrest c s'=>c.1=none/\s'=s/\∃k PM QN r6 QH,rest=(r6.zip QH).zipIdx k/\IntsAre r6 PM/\IntsAre QH QN/\PM.length=QN.length/\decide (ns<ms)=decide (PM<QN)) (λc s'=>s'=s/\(c.1=some (decide (ns<ms))\/(c.1=none/\decide (ns<ms)=false))) (λz rest c s' hI=>?_) (λc s' hI=>?_) _ _ ⟨rfl,rfl,0,ns,ms,us,vs,by simp,iu,iv,hl,rfl⟩) (λc s' hI=>?_) λ_ _ e=>e)
 ·obtain⟨c1,rfl,k,PM,QN,r6,QH,er,RH,WN,OS,ed⟩:=hI;cases RH with
  |nil=>rw[List.zip_nil_left,List.zipIdx_nil] at er;cases er
  |@cons n t Rc PJ Ui=>
   cases WN with
   |nil=>rw[List.zip_nil_right,List.zipIdx_nil] at er;cases er
   |@cons m u vs2 ms2 iv2=>
    rw[EF,List.zipIdx_cons] at er;obtain⟨rfl,rfl⟩:=List.cons.inj er;refine Fh (wpAny_eqBool_int ?_);by_cases q:n=m
    ·subst q;rw[beq_self_eq_true];refine Fi ⟨rfl,rfl,k+1,PJ,ms2,Rc,vs2,rfl,Ui,iv2,Nat.succ.inj OS,ed.trans ?_⟩;rw[decide_eq_decide,Df];exact⟨λz=>z.elim (λz=>absurd z (Int.lt_irrefl _)) And.right,λz=>.inr ⟨rfl,z⟩⟩
    ·rw[beq_eq_false_iff_ne.mpr q];refine Fh (mV (Fi ⟨rfl,.inl ?_⟩));rw[ed];refine congrArg some (decide_eq_decide.mpr ?_);rw[Df];exact⟨λz=>.inl z,λz=>z.elim id λz=>absurd z.1 q⟩
 ·obtain⟨c1,rfl,k,PM,QN,r6,QH,er,RH,WN,OS,ed⟩:=hI;refine⟨rfl,.inr ⟨c1,ed.trans ?_⟩⟩;cases RH with
  |nil=>
   cases QN with
   |nil=>rfl
   |cons a b=>cases OS
  |cons n t Ui=>
   cases WN with
   |nil=>cases OS
   |cons m u iv2=>rw[EF,List.zipIdx_cons] at er;cases er
 ·obtain⟨rfl,hc⟩:=hI;obtain⟨c1,c2⟩:=c;rcases hc with hc|⟨hc,ed⟩
  ·have hc:c1=_:=hc;subst hc;exact Fi h
  ·have hc:c1=_:=hc;subst hc;refine Fi ?_;rw[ed] at h;rw[show decide (us.toArray.size<vs.toArray.size)=false from Fp (by rw[Br,Br];lia)];exact h
theorem rZ(v:Value):firstOfTuple' v=(do
  if (<- typeOf v) != .type "tuple" then return none
  return (<- Builtin.List.listItems v)[0]?):=rfl
theorem HG:∀(vs:A8),(∀v∈vs,∃ns,TupAt s.heap v ns/\ns≠[])->∀{Q:List (Option Value)->Shared->Prop},(∀us ns,IntsAre us ns->us.length=vs.length->Q (us.map some) s)->wpAny (model prog w) A (vs.mapM firstOfTuple') Q E s
 |[],_,Q,h=>by rw[List.mapM_nil];exact Fi (h [] [] .nil rfl)
 |v::vs,hv,Q,h=>by
  obtain⟨ns,⟨t,o,us,e,rfl,ho,hc,hd,iu⟩,hn⟩:=hv _ AZ;rw[List.mapM_cons,rZ];cases iu with
  |nil=>exact absurd rfl hn
  |@cons n u r6 PM RH=>
   refine Fh (Fh (wpAny_typeOf ⟨o,ho,hc⟩ ?_));rw[Fm (by decide)];refine Fh (listItems_at ho hd (Fi (Fh (HG vs (λv hm=>hv v (Bg _ hm)) λRc PJ i2 l2=>Fi ?_))));exact h (.int n u::Rc) (n::PJ) (.cons _ _ i2) (by rw[Bl,Bl,l2])
theorem mZ{vs:A8}(hv:∀v∈vs,∃ns,TupAt s.heap v ns/\ns≠[])(h0:vs≠[]){Q:SortKind->Shared->Prop}(h:Q (tuples' true) s):wpAny (model prog w) A (keyKind' vs.toArray) Q E s:=by
 rw[keyKind'_eq,List.mapM_toArray,map_eq_pure_bind];refine Fh (Fh (HG vs hv λus ns iu hl=>Fi ?_));rw[Fn (by simp)];refine Fh (FS ?_);have e1:(us.map some).toArray.filterMap id=us.toArray:=by simp
 rw[e1,oneTypeOnly'_eq,List.mapM_toArray,mapM_typeOf_ints iu];simp only[map_pure,pure_bind];cases iu with
 |nil=>exact absurd (BM.mp hl.symm) h0
 |@cons n u r6 PM RH=>
  rw[show(List.map (λ_=>Value.type "int") (Value.int n u::r6)).toArray[0]?=some (Value.type "int") by simp];dsimp only;rw[Fn (by simp)];exact Fh (Fi (Fi h))
end
theorem TupAt.eq{h:Heap}{v:Value}{a b:B3}(x:TupAt h v a)(y:TupAt h v b):a=b:=by
 obtain⟨t,o,us,e,rfl,ho,_,hd,iu⟩:=x;obtain⟨t2,o2,Rc,e2,q,Ur,_,hd2,Ui⟩:=y;cases q;rw[ho] at Ur;cases Ur;rw[hd] at hd2;injection hd2 with q _;have q:us=Rc:=List.toArray_inj q;subst q;rw[<- iu.nums,<- Ui.nums]
noncomputable def dU(h:Heap)(L:Nat):KeyKind where
 α:=B3
 blt:=λa b=>decide (a<b)
 irrefl:=λa=>Fp (EK a)
 trans:=λa b c h1 h2=>Fo (List.lt_trans (Fu h1) (Fu h2))
 negTrans:=λa b c h1=>by
  by_cases q:a<b
  ·exact .inl (Fo q)
  ·refine .inr (Fo ?_);have h1:=Fu h1;have q:b<=a:=DO.mp q;exact List.lt_of_le_of_lt q h1
 total:=λa b h1 h2=>Ed (DO.mp (of_decide_eq_false h2)) (DO.mp (of_decide_eq_false h1))
 keyOf:=λv=>by
  classical
  exact if q:∃ns,TupAt h v ns/\ns.length=L then some q.choose else none
 dflt:=[]
theorem kZ{h:Heap}{L:Nat}{v:Value}{a:B3}(e:(dU h L).keyOf v=some a):TupAt h v a/\a.length=L:=by
 unfold dU at e;dsimp only at e;split at e
 ·rename_i q;have:=q.choose_spec;rw[Fx e] at this;exact this
 ·cases e
theorem iz{h:Heap}{L:Nat}{v:Value}{a:B3}(x:TupAt h v a)(l:a.length=L):(dU h L).keyOf v=some a:=by
 unfold dU;dsimp only;split
 ·rename_i q;rw[(q.choose_spec.1).eq x]
 ·rename_i q;exact absurd ⟨a,x,l⟩ q
section
variable {prog:Program}{w:World}{A:Around}{E:A3}{s:Shared}
theorem rl{L:Nat}:Ly prog w (dU s.heap L) (tuples' true) s:=λA E x y a b Q ha hb q=>by
 obtain⟨x1,x2⟩:=kZ ha;obtain⟨y1,y2⟩:=kZ hb;exact rM x1 y1 (x2.trans y2.symm) q
theorem gv{L:Nat}(hL:1<=L){a:Addr}{vs:A8}{n:Nat}{P:PySem.Fin->Shared->Prop}(ho:s.heap.get? a=some (seqObj "list" vs.toArray n))(hv:∀v∈vs,∃ns,TupAt s.heap v ns/\ns.length=L)(QZ:vs.length<64)
  (h:∀xs:Array Keyed,xs.Perm (pairsOf vs)->(∀(i j:Nat)(p q:Keyed),i<=j->xs[i]?=some p->xs[j]?=some q->∀a b,TupAt s.heap p.1 a->TupAt s.heap q.1 b->¬b<a)->P (.done (.ret .none)) {s with heap:=sortedHeap s.heap a vs (xs.map (·.2))}):wpAny (model prog w) A (Builtin.«list.sort» ⟨[.ref a],[]⟩) P E s:=by
 have ha:a<s.heap.objs.size:=Fv ho;have Uc:∀b o,b≠a->s.heap.get? b=some o->(((s.heap.update a (Obj.mapSeq λ_=>#[])).push (seqObj "tuple" vs.toArray 0)).push (seqObj "list" #[] 0)).get? b=some o:=λb o k8 hb=>by
  have d5:=Fv hb;rw[Heap.get?_push_ne _ _ _ (by rw[size_push',Heap.size_update];exact Bf (CH d5)),Heap.get?_push_ne _ _ _ (by rw[Heap.size_update];exact Bf d5),Heap.get?_update_ne _ _ _ _ k8];exact hb
 generalize eh:((s.heap.update a (Obj.mapSeq λ_=>#[])).push (seqObj "tuple" vs.toArray 0)).push (seqObj "list" #[] 0)=h6 at Uc;have up:∀v ns,TupAt s.heap v ns->TupAt h6 v ns:=λv ns x=>by
  obtain⟨t,o,us,e,rfl,WU,hc,hd,iu⟩:=x;refine⟨t,o,us,e,rfl,Uc t o (λq=>?_) WU,hc,hd,iu⟩;rw[q,ho] at WU;cases WU;exact absurd (show Value.type "list"=Value.type "tuple" from hc) (by decide)
 have hv6:∀v∈vs,∃ns,TupAt h6 v ns/\ns.length=L:=λv hm=>(hv v hm).elim λns z=>⟨ns,up v ns z.1,z.2⟩
 have of:∀p∈(pairsOf vs).toList,∀ns,TupAt s.heap p.1 ns->ns.length=L:=λp hm ns x=>by
  rw[pairsOf_toList] at hm;obtain⟨ms,z1,z2⟩:=hv _ (mem_zip_self hm).2;rw[x.eq z1];exact z2
 refine dO (κ:=dU h6 L) (kd:=tuples' true) ho (λp hp=>?_) eh (rl (s:={s with heap:=h6})) (λh2 Q q=>mZ (s:={s with heap:=h6}) (λv hm=>(hv6 v hm).elim λns z=>⟨ns,z.1,λq=>by rw[q] at z;exact absurd z.2 (by intro q;have:0=L:=q;lia)⟩) (λq=>by rw[q] at h2;exact absurd h2 (by decide)) q) (by rw[sizeLine_eq];lia) λa8 a1 a2=>h _ a1 λi j p q k5 e1 e2 a b x y=>?_
 ·rw[pairsOf_toList] at hp;obtain⟨ns,z1,z2⟩:=hv6 _ (mem_zip_self hp).2;exact⟨ns,iz z1 z2⟩
 ·have m:∀{k:Nat}{r:Keyed},(arrOf a8)[k]?=some r->r∈(pairsOf vs).toList:=λe=>(Du.mp a1).mem_iff.mp (by rw[Array.mem_toList_iff];exact Array.mem_of_getElem? e);have l2:=(EL.mp e2).1;rw[a1.size_eq] at l2;have u:=a2 i j k5 l2;unfold KK at u;rw[e1,e2] at u;dsimp only at u;rw[iz (up _ _ x) (of p (m e1) _ x),iz (up _ _ y) (of q (m e2) _ y)] at u;exact of_decide_eq_false u
end
end SH
namespace L2
open PySem PySem.Spec PyProof.Rows
section
variable {X:Cx}
theorem pB{ks:B2}{out:A8}(p:out.Perm (ks.map Value.ref)):∃k7:B2,k7.Perm ks/\out=k7.map Value.ref:=by
 have hf:∀v∈out,Value.ref (match v with|.ref a=>a|_=>0)=v:=λv hv=>by
  obtain⟨a,_,rfl⟩:=AW.mp (p.mem_iff.mp hv);rfl
 refine⟨out.map λv=>match v with|.ref a=>a|_=>0,?_,?_⟩
 ·have:=p.map λv=>match v with|.ref a=>a|_=>0;rw[Bx] at this;rw[show((λv:Value=>match v with|.ref a=>a|_=>0) ∘ Value.ref)=id from rfl,DP] at this;exact this
 ·rw[Bx]
  conv=>lhs;rw[<- DP out]
  exact Cc λv hv=>(hf v hv).symm
theorem Hr:∀(ks:B2),Vals (ks.map V.ref) (ks.map Value.ref)
 |[]=>.nil
 |_::ks=>.cons rfl (Hr ks)
end
end L2
namespace SH
open PySem PySem.Spec PyProof.Rows SeqAt L2
section
variable {prog:Program}{w:World}{A:Around}{E:A3}{s:Shared}
theorem IB{L:Nat}(hL:1<=L){d:Addr}{od:Obj}{es:Array DictEntry}{ep:Nat}{Q:A3}(hh:A.handled=none)(lo:(d==sysModules)=false)(ho:s.heap.get? d=some od)(hc:od.ExactDict)(t7:od.data=.dict es ep)(QZ:es.size<64)
  (hv:∀i (h:i<es.size),∃ns,TupAt s.heap es[i].key ns/\ns.length=L)
  (hQ:∀(h1 h':Heap)(t:Nat)(l:Addr)(out:A8)(e:Nat),(∀b u,s.heap.get? b=some u->h1.get? b=some u)->(∀b u,h1.get? b=some u->h'.get? b=some u)->h1.objs.size<=l->h'.get? l=some (seqObj "list" out.toArray e)->out.Perm (es.toList.map (·.key))->out.Pairwise (λx y=>∀a b,TupAt s.heap x a->TupAt s.heap y b->¬b<a)->Q (.ref l) {s with heap:=h',toks:=t}) :
  wpAny (model prog w) A (call (.builtin "sorted") [.ref d]) Q E s:=by
 refine Calls.call_function_entry kind_sorted plain_sorted entry_sorted (args_sorted1 _) ?_;unfold Builtin.«sorted»;refine Fh (m:=checkCount "sorted" 1 1 _) (Fi (Fh (PySem.W.kdu_collect (A:=A.in1) (oH lo hc t7) hh ho (by rw[sizeLine_eq];lia) λh' tk acc hk K2=>?_)));obtain⟨asz,aat⟩:=K2;have ea:acc.toList=es.toList.map (·.key):=by
  refine Dm λi=>?_;rw[Bo];by_cases hi:i<es.size
  ·obtain⟨_,e⟩:=aat i acc[i] (BD (by lia));rw[Bn,Bn,BD (by lia),BD hi,e];rfl
  ·rw[Bn,Bn,Dl (by lia),Dl (by lia)];rfl
 rw[ea];have lv:(es.toList.map (·.key)).length=es.size:=by rw[AU,Bk]
 have hm:∀v∈es.toList.map (·.key),∃ns,TupAt s.heap v ns/\ns.length=L:=λv hm=>by
  obtain⟨q,hq,rfl⟩:=AW.mp hm;obtain⟨i,hi,rfl⟩:=Cv.mp hq;exact hv i (by rw[<- Bk];exact hi)
 generalize es.toList.map (·.key)=vs at lv hm hQ ⊢;have hz:vs.length<=sizeLine:=by rw[sizeLine_eq];lia
 have up:∀v ns,TupAt s.heap v ns->TupAt (h'.push (seqObj "list" vs.toArray 0)) v ns:=λv ns ⟨t,o,us,e,g1,g2,g3⟩=>⟨t,o,us,e,g1,FJ _ (hk t o g2),g3⟩
 have MW:(h'.push (seqObj "list" vs.toArray 0)).get? h'.objs.size=some (seqObj "list" vs.toArray 0):=FK _ rfl;refine Fh (wpAny_newList ?_ hz);refine Fh (Ft (FP slot_list_sort ⟨_,MW,rfl⟩ entry_list_sort (gv hL MW (λv m=>(hm v m).elim λns z=>⟨ns,up v ns z.1,z.2⟩) (by lia) λxs a1 a2=>⟨_,rfl,?_⟩) (args_list_sort _)));have same:∀p∈xs.toList,p.1=p.2:=λp hp=>by
  have hm:=(Du.mp a1).mem_iff.mp hp;rw[pairsOf_toList] at hm;exact(mem_zip_self hm).1
 have e2:(pairsOf vs).toList.map (·.2)=vs:=by rw[pairsOf_toList,List.map_snd_zip (AS _)]
 have p1:(xs.toList.map (·.2)).Perm vs:=by
  have:=(Du.mp a1).map (·.2);rw[e2] at this;exact this
 have p2:(xs.toList.map (·.2)).Pairwise (λx y=>∀a b,TupAt s.heap x a->TupAt s.heap y b->¬b<a):=by
  refine CN.mpr λi j hi hj k5 a b x y=>?_;rw[AU] at hi hj;rw[List.getElem_map] at x y;rw[<- same _ (BG hi)] at x;rw[<- same _ (BG hj)] at y;exact a2 i j _ _ (BS k5) (by rw[<- Bn];exact AX hi) (by rw[<- Bn];exact AX hj) a b (up _ _ x) (up _ _ y)
 obtain⟨e,he⟩:=sortedHeap_at (out:=xs.map (·.2)) MW;refine Fi ⟨_,rfl,hQ h' _ _ _ (xs.toList.map (·.2)) e hk (λb u q1=>?_) (AS _) ?_ p1 p2⟩
 ·have RB:=Fv q1;exact(sortedHeap_old (Bf RB) (by rw[FQ];exact CH RB)).trans (FJ _ q1)
 ·rw[show(xs.toList.map (·.2)).toArray=xs.map (·.2) by rw[<- Array.toList_map,ED]];exact he
end
end SH
namespace L2
open PySem PySem.Spec PyProof.Rows
section
variable {X:Cx}
theorem cb{α β:Type}{R:α->β->Prop}:∀{xs:List α}{ys:List β}{i:Nat}{x:α}{y:β},Paired R xs ys->xs[i]?=some x->ys[i]?=some y->R x y
 |_,_,_,_,_,.nil,h,_=>by cases h
 |_,_,0,_,_,.cons r _,h,g=>by cases h;cases g;exact r
 |_,_,i+1,_,_,.cons _ p,h,g=>cb (i:=i) p h g
inductive JZ(L:Nat)(K:W.Frag)(xs:A9)(H:Hp)(Q:VK):Prop
 |mk p kvs:xs=[.ref p]->Rd H p (.dT kvs)->kvs.length<64->(∀e∈kvs,∃ns:B3,e.1.map kV=ns.map V.int/\ns.length=L)->(∀ks:B2,Paired (λb (k:List Key)=>H b=some (.tup (k.map kV))) ks (kvs.map (·.1))->∀l,∀k7:B2,k7.Perm ks->k7.Pairwise (λa b=>∀ns ms:B3,i5 K H a (ns.map V.int)->i5 K H b (ms.map V.int)->¬ms<ns)->H l=none->Q (.ref l) (upd H l (.lst (k7.map V.ref))))->JZ L K xs H Q
theorem sW{H:Hp}:∀{kvs:List (List Key×V)}{xs:List (List Key×Addr×Value)},KT H kvs xs->Paired (λb (k:List Key)=>H b=some (.tup (k.map kV))) (xs.map λq=>q.2.1) (kvs.map (·.1))
 |_,_,.nil=>.nil
 |_,_,.cons h r=>.cons h.2.1 (sW r)
theorem dq{L:Nat}(hL:1<=L)(hc:X.calm=true):bV X (.builtin "sorted") (JZ L X.K):=by
 intro pins s σ H xs us Q I r h;obtain⟨p,kvs,rfl,hd,QZ,hk,q⟩:=h;obtain⟨u,rfl,rx⟩:=cD r;cases rx;obtain⟨hz,lo,xs,kt,o,es,ep,ho,hx,t7,Qc,_⟩:=(show Gg X.prog X.w H s.heap p (.dT kvs) from pC I.b9 hd)
 have el:es.size=kvs.length:=by
  rw[<- Bk,Qc,AU];exact(Paired.length kt).symm
 have tp:∀k ns,i5 X.K H k (List.map V.int ns)->SH.TupAt s.heap (.ref k) ns:=λk ns z=>by
  obtain⟨ts,rt,⟨o,ho,hc,n,hd⟩,_⟩:=I.tuple z;exact⟨k,o,ts,n,rfl,ho,hc,hd,mq rt⟩
 have ek:es.toList.map (·.key)=(xs.map λq=>q.2.1).map Value.ref:=by
  rw[Qc,Bx,Bx];rfl
 have pa:=sW kt;refine SH.IB hL (I.ok.hd hc) lo ho hx t7 (by lia) (λi hi=>?_) λh1 h' t l out e k1 k2 a3 a4 a1 a2=>?_
 ·have i3:i<xs.length:=by rw[<- Paired.length kt,<- el];exact hi
  have e1:es[i].key=Value.ref xs[i].2.1:=by
   have:=congrArg (·[i]?) ek;simp only[Bo,Bn] at this;rw[BD hi,AX i3] at this;exact Fx this
  have hj:i<kvs.length:=by lia
  have e2:=cb pa (i:=i) (by rw[Bo,AX i3];rfl) (by rw[Bo,AX hj];rfl);obtain⟨ns,n1,n2⟩:=hk kvs[i] (BG hj);refine⟨ns,?_,n2⟩;rw[e1];exact tp _ _ (i5.of (by rw[<- n1];exact e2))
 rw[ek] at a1;obtain⟨k7,b1,rfl⟩:=pB a1;have I1:Inv X pins σ H {s with heap:=h1,toks:=s.toks}:=I.kept k1;refine⟨.ref l,_,I1.laid (t':=t) (o:=.lst (k7.map V.ref)) k2 a3 ⟨?_,k7.map Value.ref,e,Hr k7,a4⟩,rfl,q _ pa l k7 b1 ?_ (I1.b9.fresh a3)⟩
 ·rw[AU,b1.length_eq,AU,<- Paired.length kt,sizeLine_eq];lia
 ·rw[CU] at a2;exact a2.imp λ{a b} z ns ms x y=>z ns ms (tp a ns x) (tp b ms y)
end
section
variable {prog:Program}{w:World}{A:Around}{E:A3}{s:Shared}{a:Addr}{o:Obj}{xs:Array Value}{k:Nat}
theorem uf{Q:Option Value->Shared->Prop}(ho:s.heap.get? a=some o)(hc:o.cls=.type "list")(hd:o.data=.seq xs k)(hn:o.dict=none)(hh:A.handled=none)
  (h:∀h' tk,(∀b u,s.heap.get? b=some u->h'.get? b=some u)->Q none {s with heap:=h',toks:=tk}):wpAny (model prog w) A (getAttr? (.ref a) (Str.ofString "keys")) Q E s:=by
 unfold getAttr? mkText;refine Fh (Fh (wpAny_fresh (Fi ?_)));unfold getAttrBy?;refine Fh (FO ?_);unfold getAttrBy;refine Ft (Fh (wpAny_typeOf ⟨o,ho,hc⟩ ?_));rw[list_getattribute];refine Fh (Fi ?_);show wpAny _ _ (getAttrByItsOwn _ _ _ _ _ _) _ _ _;unfold getAttrByItsOwn hookBefore;refine Fh (Fi ?_);refine Fh (FO ?_);refine Ft ?_;unfold callGetattribute boundAndCalled bindSpecial;refine Fh (Fh (wpAny_of_eq (show typeOf (Value.builtin "list.__getattribute__")=pure (.type "wrapper_descriptor") from by rfl) (Fi ?_)));show wpAny _ _ (call _ [_,_]) _ _ _;refine call_meets F.slot_list_getattribute ⟨o,ho,hc⟩ am_entry_list_getattribute (F.args_list_getattribute_2 _ _) (meets_getattribute_miss_list a xs k o.slots (Str.ofString "keys") _ ?_ ?_ ?_) ⟨?_,hh,λh' tk e ne=>?_⟩
 ·rfl
 ·rfl
 ·decide
 ·obtain⟨oc,od,odd,os⟩:=o;cases hc;cases hd;cases hn;exact ho
 obtain⟨t,u,he⟩:=ne.there;have hi:isSubtype (.type "AttributeError") (.type "AttributeError")=pure true:=by rfl
 show wpAny _ _ (getattributeRaised _ _ _ _ _ _ _) _ _ _;unfold getattributeRaised;refine Fh (wpAny_isInstance (T:="AttributeError") (b:=true) ⟨_,he,rfl⟩ hi ?_);rw[Fn rfl];unfold hookBehind;rw[Fm (by decide)];rw[F.plainAttrs_list.noGetattr];refine Fh (Fi ?_);show wpAny _ _ (throw _ >>= _) _ _ _;refine Fh (wpAny_throw ?_);show wpAny _ _ (isInstance _ _ >>= _) _ _ _;refine Fh (wpAny_isInstance (T:="AttributeError") (b:=true) ⟨_,he,rfl⟩ hi ?_);rw[Fn rfl];exact Fi (h h' tk ne.keeps)
end
theorem Ip:entryFor table "dict.update.loop"=some Builtin.«dict.update.loop»:=entryFor_of_tree (id (Eq.refl (entriesT.find (code "dict.update.loop"))))
theorem GZ:plainId "dict.update.loop"=true:=by decide +kernel
def HC(H:Hp)(v:V)(p:List Key×V):Prop:=∃e b,v=.ref e/\H e=some (.tup [.ref b,p.2])/\H b=some (.tup (p.1.map kV))
def iZ (kvs:List (List Key×V))(ps:List (List Key×V)):List (List Key×V):=ps.foldl (λk p=>cU k p.1 p.2) kvs
section
variable {X:Cx}{pins:A5}{σ:St}
theorem qT{H:Hp}{d:Addr}{o:HO}(h:H d=some o):upd H d o=H:=funext λb=>by
 by_cases e:b=d
 ·rw[e,ae,h]
 ·rw[aj e]
theorem HC.keeps{H:Hp}{d:Addr}{kvs n5:List (List Key×V)}{v:V}{p:List Key×V}(hd:H d=some (.dT kvs))(h:HC H v p):HC (upd H d (.dT n5)) v p:=by
 obtain⟨e,b,h1,h2,h3⟩:=h;exact⟨e,b,h1,by rw[aj (bB h2 hd (λz=>nomatch z))];exact h2,by rw[aj (bB h3 hd (λz=>nomatch z))];exact h3⟩
theorem qw{A:Around}{R:Result->Shared->Prop}(hu:A.units+4<cLine)(hh:A.handled=none){d l I:Addr}{a7:A8}{xs:A9}{ps:List (List Key×V)}(hv:Vals xs a7)(nd:d≠l)(nI:I≠l)(ndI:d≠I)
  (hL:I≠X.env.locals)(h1:I∈X.ex\/X.s₀.heap.get? I=none)(h2:∀x c,X.env.cells.lookup x=some c->c≠I)(h3:∀p∈X.pn++pins,p.1≠I) :
  ∀(k i:Nat)(kvs:List (List Key×V))(H:Hp)(s:Shared)(t:Tok),a7.length-i=k->i<=a7.length->H I=none->Paired (HC H) xs ps->H d=some (.dT kvs)->kvs.length+(ps.drop i).length<=sizeLine->s.heap.IsListIter I l i->s.heap.IsList l a7.toArray->Inv X pins σ H s ->
  (∀s',Inv X pins σ (upd H d (.dT (iZ kvs (ps.drop i)))) s'->R (.ok (.ret .none)) s')->codeAny (model X.prog X.w) A (.builtin "dict.update.loop" ⟨[.ref d,.ref I,.int i t,.none],[]⟩) R s:=by
 intro k;have YY:A.in1.handled=none:=by simp[hh]
 induction k with
 |zero=>
  intro i kvs H s t hk hi hI hp hd hz j9 hl Iv q;have hin:i=a7.length:=by lia
  subst hin;have el:ps.length=a7.length:=by rw[<- Paired.length hp,hv.length]
  rw[CM (by lia)] at q;refine codeAny_builtin Ip ?_;rw[Around.under_plainId GZ _];show wpAny _ A.in1 (pyNext (.ref I) >>= _) _ _ s;refine Fh ((Walks.list YY I l nI.symm a7.toArray).done s _ _ ⟨by rw[Br];exact j9,hl⟩ λh' tk hm=>?_);show wpAny _ _ (pure PUnit.unit >>= λ_=>ret Value.none) _ _ _;refine Fh (Fi (Fi (q _ ?_)));rw[show iZ kvs []=kvs from rfl,qT hd];exact Iv.turned (λb o hb e=>hm b o (by simp[hb]) e) hI hL h1 h2 h3
 |succ k ih=>
  intro i kvs H s t hk hi hI hp hd hz j9 hl Iv q;have d5:i<a7.length:=by lia
  have el:ps.length=a7.length:=by rw[<- Paired.length hp,hv.length]
  refine codeAny_builtin Ip ?_;rw[Around.under_plainId GZ _];show wpAny _ A.in1 (pyNext (.ref I) >>= _) _ _ s;refine Fh ((Walks.list YY I l nI.symm a7.toArray).item i s _ _ (by rw[Br];exact d5) ⟨j9,hl⟩ λv h' tk hP Oe hm=>?_);have I1:Inv X pins σ H {s with heap:=h',toks:=tk}:=Iv.turned (λb o hb e=>hm b o (by simp[hb]) e) hI hL h1 h2 h3;have hx:i<xs.length:=by rw[hv.length];exact d5
  have hpi:i<ps.length:=by lia
  have hP':a7[i]?=some v:=by simpa using hP
  have rv:=cb hv (AX hx) hP';obtain⟨e,b,ex,he,hb⟩:=cb hp (AX hx) (AX hpi);rw[ex] at rv;cases rv;obtain⟨PU,Ve,tp,_⟩:=I1.tuple (i5.of he);obtain⟨u1,u2,rfl,r1,r2⟩:=si Ve;cases r1;obtain⟨o,ho,hc,n,t7⟩:=id tp;refine Fh (Ft (Fh (wpAny_tryCatch ?_)));unfold Builtin.Dict.pairItems;refine Fh (wpAny_typeOf ⟨o,ho,hc⟩ ?_);rw[Fn (by rfl)];refine Fh (wpAny_seqItems ho t7 (Fi ?_));show wpAny _ _ (PySem.holding [_,_] (dictSet d (.ref b) u2)) _ _ _;obtain⟨z,lo,zs,rel,dd⟩:=lW I1.b9 hd;have hz2:zs.length<=sizeLine:=by rw[<- Paired.length rel];exact z
  have ed:ps.drop i=ps[i]::ps.drop (i+1):=CL hpi;have lp:=bQ kvs ps[i].1 ps[i].2;rw[ed,Bl] at hz;have Ta:(cU kvs ps[i].1 ps[i].2).length<=sizeLine:=by lia
  refine Ft (wpAny_dictSet_heap (hsz:=hz2) (tupleKind_room_in1 (by have:A.in1.units<=A.units+1:=(by first|exact AS _|(unfold Around.in1;simp));lia)) (eU I1.b9 hb) dd λz8 D0 hs=>?_);obtain⟨qo,es,ep,hq,h2a,h3a,h4a,_,h5a⟩:=D0
  have I2:Inv X pins σ (upd H d (.dT (cU kvs ps[i].1 ps[i].2))) { ({ s with heap:=h',toks:=tk }:Shared) with heap:=z8,toks:=tk+(tupleKind (aK X.prog X.w)).draws ps[i].1 }:=cN I1 (by rw[hd]; exact True.intro) hs ⟨qo,hq⟩ ⟨Ta,lo,_,(rel.put ps[i].1 hb r2).keeps λc ys ec=>by
   rw[aj (bB ec hd (λz=>nomatch z))]
   exact ec,qo,es,ep,hq,h2a,h3a,h4a,h5a⟩
  have c9:=(Walks.list YY I l nI.symm a7.toArray (prog:=X.prog) (w:=X.w)).frame (i+1) h' z8 Oe λb' C7 o' e'=>(hs.2 b' λz=>by
   subst z;rcases Bb.mp C7 with z|z
   ·exact ndI z
   ·exact nd (AY.mp z)).trans e'
  refine Fi ⟨plainId_quiet GZ _,ih (i+1) _ _ _ 0 (by lia) d5 (by rw[aj ndI.symm];exact hI) (Paired.Hw hp λv p h=>HC.keeps hd h) ae (by lia) c9.1 c9.2 I2 λs' I3=>q s' ?_⟩;rw[jz] at I3;rw[ed];exact I3
inductive Ji(K:W.Frag)(x:V)(vs:A9)(H:Hp)(Q:VK):Prop
 |mk d l kvs xs ps:x=.ref d->vs=[.ref l]->H d=some (.dT kvs)->a9 K H l xs->Paired (HC H) xs ps->kvs.length+ps.length<=sizeLine->Q .f6 (upd H d (.dT (iZ kvs ps)))->Ji K x vs H Q
theorem lQ(hu:X.A.units+64<cLine)(hc:X.calm=true):QA X "dict.update" (Ji X.K):=by
 intro pins s σ H x vs v us Q I rx rv h;obtain⟨d,l,kvs,xs,ps,rfl,rfl,hd,hl,hp,hz,q⟩:=h;cases rx;obtain⟨u,rfl,ru⟩:=rv.one;cases ru;obtain⟨_,_,zs,_,dd⟩:=lW I.b9 hd;obtain⟨a7,Ve,pl,_⟩:=I.list hl;have hh:X.A.handled=none:=I.ok.hd hc
 refine PySem.call_meetsIn F.slot_dict_update dd.typeIs F.entry_dict_update (F.args_dict_update_2 _ _) (S:=λA R s=>wpAny (model X.prog X.w) A.in1 (Builtin.«dict.update» ⟨[.ref d,.ref l],[]⟩) (λfin s'=>match fin with
  |.done f=>R (.ok f) s'
  | .again c'=>c'.quiet=true/\codeAny (model X.prog X.w) A c' R s') (λe s'=>R (.error e) s') s) (λ_ _ _ h=>h) ?_
 show wpAny _ X.A.in1 _ _ _ s;unfold Builtin.«dict.update» Builtin.Dict.selfAndRest;refine Fh (Fh (wpAny_notOrdered_dict dd.typeIs ?_));show wpAny _ _ (pure (d,[Value.ref l])) _ _ s;refine Fi ?_;show wpAny _ _ (Builtin.Dict.updateFrom "dict.update" d (.ref l) [] .none) _ _ s;unfold Builtin.Dict.updateFrom;have lT:s.TypeIs (.ref l) "list":=pl.isList.typeIs;refine Fh (wpAny_typeOf lT ?_);rw[Fn (by decide)];obtain⟨o,n,ho,M4,hd2,Us⟩:=id pl;refine Fh (uf ho M4 Us hd2 (by simp[hh]) λh' tk kp=>?_);rw[Fn (show(none:Option Value).isNone=true from rfl)];have I1:Inv X pins σ H {s with heap:=h',toks:=tk}:=I.kept kp;refine Fh (FS (Fh ?_));have pl1:Heap.IsList h' l a7.toArray:=⟨o,kp _ _ ho,M4,n,Us⟩
 refine wpAny_pyIter_list pl1 ?_;have I2:Inv X pins σ H {s with heap:=h'.push {cls:=.type "list_iterator",data:=.fields #[.ref l,.int 0 0]},toks:=tk}:=I1.kept λb u e=>FJ _ e;have fI:∀{b:Addr}{u:Obj},h'.get? b=some u->h'.objs.size≠b:=λe z=>by rw[<- z] at e;exact absurd (Fv e) (BI _)
 refine Fi ⟨plainId_quiet GZ _,qw (by lia) hh Ve ?_ (fI (kp _ _ ho)) (λz=>?_) (DC I1.lt) (.inr (Heap.get?_none_of_le I1.sz)) (λx c e z=>?_) (λp hp z=>?_) a7.length 0 kvs H _ 0 rfl (Bj _) I1.fresh hp hd hz ⟨_,FK _ rfl,rfl,rfl⟩ (pl1.push _) I2 λs' I3=>?_⟩
 ·obtain⟨od,h1,h2⟩:=(show ∃od,s.heap.get? d=some od/\od.cls=.type "dict" from dd.typeIs)
  intro z;rw[z,ho] at h1;rw[<- Fx h1,M4] at h2;injection h2 with h2;exact absurd h2 (by decide)
 ·obtain⟨od,_,_,h1,_⟩:=id dd;exact fI (kp _ _ h1) z.symm
 ·obtain⟨v,o,ho,_⟩:=I1.cell x c e;exact fI ho z.symm
 ·exact fI (I1.pin p hp).1 z.symm
 ·exact⟨.f6,_,I3,rfl,q⟩
end
section
variable {X:Cx}
theorem vA{β:Type}(f:Nat->β->Sem (ForInStep β))(b:β):forIn [:0] b f=pure b:=by simp
inductive NR(x:V)(y:V)(H:Hp)(Q:VK):Prop
 |mk a b kvs:x=.ref a->y=.ref b->H a=some (.dT kvs)->H b=some (.dT [])->Q (.bl kvs.isEmpty) H->NR x y H Q
theorem xc(hu:X.A.units+64<cLine):k9 X (compareOp .Eq) NR:=by
 intro pins s σ H x y u v Q I rx ry h;obtain⟨a,b,kvs,rfl,rfl,ha,hb,q⟩:=h;cases rx;cases ry;obtain⟨_,la,xs,rel,da⟩:=lW I.b9 ha;obtain⟨_,lb,ys,Vh,db⟩:=lW I.b9 hb;cases Vh;have q':EP X pins σ Q (.bool kvs.isEmpty) s:=⟨.bl _,H,I,rfl,q⟩
 show wpAny _ _ (richCompare .Eq (.ref a) (.ref b)) _ _ s;refine wpAny_richCompare_same_room (op:=.Eq) da.typeIs db.typeIs F.slot_dict_eq (FP F.slot_dict_eq da.typeIs F.entry_dict_eq ?_ (F.args_dict_eq_2 _ _)) (by lia);show wpAny _ _ (Builtin.Dict.dictSlotArgs "__eq__" _ >>= _) _ _ s;unfold Builtin.Dict.dictSlotArgs;refine Fh (Fh (wpAny_notOrdered_dict da.typeIs ?_));show wpAny _ _ (pure (Value.ref a,Value.ref b)) _ _ s;refine Fi ?_;have WX:isSubtype (.type "dict") (.type "dict")=pure true:=by rfl
 refine Fh (wpAny_isInstance (T:="dict") (b:=true) db.typeIs WX ?_);rw[Fm (by decide)];show wpAny _ _ (Builtin.Dict.samePairs _ a b >>= _) _ _ s;unfold Builtin.Dict.samePairs Builtin.Dict.showsAll;rw[la,lb];refine Fh (Fh (Fi (Fh (Fi ?_))));obtain⟨oa,es,ep,h1,h2,h3,h4,_⟩:=id da;obtain⟨ob,fs,fp,k1,k2,k3,k4,_⟩:=id db;have ef:fs.size=0:=by have:=congrArg List.length k4;simpa using this
 have ee:es.size=kvs.length:=by
  rw[<- Bk,h4,AU];exact(Paired.length rel).symm
 refine Fh (wpAny_dictEntries h1 h3 (Fh (wpAny_dictEntries k1 k3 ?_)));rw[ef,ee];cases kvs with
 |cons p r=>
  rw[Fn (by simp)];exact Fh (FS (Fi (Fi ⟨_,rfl,(λe=>nomatch e),q'⟩)))
 |nil=>
  rw[Fm (by simp)];refine Fh (wpAny_dictEpoch h1 h3 ?_);refine Fh (wpAny_of_eq (vA _ _) ?_);exact Fi (Fi ⟨_,rfl,(λe=>nomatch e),q'⟩)
end
end L2
namespace L2
open PySem PySem.Spec PyProof.Rows
open PySem.MeetsSeq PySem.SeqAt
theorem tE{A:Around}{k:Nat}(hr:Hu k A):A.units+2<cLine:=Cf (Nat.add_le_add_left (by decide:2<=64) _) hr.units
section
variable {X:Cx}
variable {o i e f value k v l:Expr}{pos pos' apos i4:Pos}{td ty tx tv tk tl:TE}{tg:Expr}(P:Program)(w:World)
theorem rV(hP:X.prog=P)(hw:X.w=w)(hu:X.A.units+2<cLine)(ho:PE X o td)(hi:PE X i ty)(hv:PE X value tv)(hs:swapsWith value (some (.Subscript o i pos')) pos.line X.env=pure false):PS X (.Assign [.Subscript o i pos'] value pos) (wM P w td ty tv):=by subst hP hw;exact tV hu ho hi hv hs
theorem mm(hP:X.prog=P)(hw:X.w=w)(hu:X.A.units+2<cLine)(hk:PE X k tk)(hv:PE X v tv):PE X (.Dict [some k] [v] pos) (oh P w tk tv):=by subst hP hw;exact ot hu hk hv
end
section
variable {P:Program}{w:World}{H H':Hp}{a:Addr}{kvs:List (DK×V)}
theorem DU.mono(d:DU P w H a kvs)(ht:∀b ys,H b=some (.tup ys)->H' b=some (.tup ys))(e:H' a=H a):DU P w H' a kvs:=let ⟨xs,x,g⟩:=d;⟨xs,⟨x.sys,x.few,x.ku.keeps ht,x.nd⟩,e.trans g⟩
theorem DU.there(d:DU P w H a kvs):∃u,H a=some u:=let ⟨_,_,g⟩:=d;⟨_,g⟩
theorem DU.same(d:DU P w H a kvs)(S:FZ H H'):DU P w H' a kvs:=d.mono (λ_ _ q=>S _ _ q) (by obtain⟨u,e⟩:=d.there;exact(S _ _ e).trans e.symm)
theorem DU.nt(d:DU P w H a kvs)(ys:A9):H a≠some (.tup ys)/\H a≠some (.lst ys):=by
 obtain⟨_,_,g⟩:=d;exact⟨λz=>(by rw[g] at z;cases z),λz=>(by rw[g] at z;cases z)⟩
end
end L2
namespace KM
def bJ (c:Nat):A2->A2
 |[]=>[]
 |[]::X=>bJ c X
 |(d::r)::X=>if d=c then r::bJ c X else bJ c X
theorem Gs{c:Nat}{r:A7}:∀{X:A2},r∈bJ c X↔c::r∈X
 |[]=>by simp[bJ]
 |[]::X=>by simp[bJ,Gs (X:=X)]
 |(d::s)::X=>by
  unfold bJ;by_cases h:d=c
  ·subst h;simp[Gs (X:=X)]
  ·rw[Fm h];simp[Gs (X:=X),FI h]
theorem bz{c:Nat}:∀{X:A2},X.Nodup->(bJ c X).Nodup
 |[],_=>Di
 |[]::X,h=>bz (X:=X) (BN.mp h).2
 |(d::s)::X,h=>by
  obtain⟨h1,h2⟩:=BN.mp h;unfold bJ;by_cases e:d=c
  ·subst e;rw[Fn rfl];exact BN.mpr ⟨λz=>h1 (Gs.mp z),bz h2⟩
  ·rw[Fm e];exact bz h2
def v8 (N:Nat)(X:A2):Nat:=(X.map λx=>2^(N-x.length)).sum
theorem fj(N:Nat)(x:A7)(X:A2):v8 N (x::X)=2^(N-x.length)+v8 N X:=by simp[v8]
theorem jl(c:Nat)(X:A2):bJ c ([]::X)=bJ c X:=rfl
theorem iX{c:Nat}(s:A7)(X:A2):bJ c ((c::s)::X)=s::bJ c X:=by show(if c=c then _ else _)=_;rw[Fn rfl]
theorem iU{c d:Nat}(h:d≠c)(s:A7)(X:A2):bJ c ((d::s)::X)=bJ c X:=by show(if d=c then _ else _)=_;rw[Fm h]
theorem dJ{N:Nat}:∀{X:A2},(∀x∈X,∀c∈x,c=108\/c=114)->v8 (N+1) X=X.count []*2^(N+1)+v8 N (bJ 108 X)+v8 N (bJ 114 X)
 |[],_=>by simp[v8,bJ]
 |[]::X,h=>by
  have ih:=dJ (N:=N) (X:=X) λx hx=>h x (Bg _ hx);rw[fj,ih,List.count_cons_self,Cb,jl,jl,Cn,Dt];lia
 |(d::s)::X,h=>by
  have ih:=dJ (N:=N) (X:=X) λx hx=>h x (Bg _ hx);have hd:=h (d::s) AZ d AZ;have e:N+1-(d::s).length=N-s.length:=by rw[Bl];lia
  have cn:((d::s)::X).count []=X.count []:=List.count_cons_of_ne (by simp);rw[fj,ih,cn,e];rcases hd with rfl|rfl
  ·rw[iX,iU (by decide),fj];lia
  ·rw[iX,iU (by decide),fj];lia
theorem Jl:∀(N:Nat){X:A2},X.Nodup->(∀x∈X,∀c∈x,c=108\/c=114)->(∀x∈X,x.length<=N)->v8 N X<=(N+1)*2^N
 |0,X,hn,_,hl=>by
  have e:∀x∈X,x=[]:=λx hx=>BM.mp (Nat.le_zero.mp (hl x hx));cases X with
  |nil=>simp[v8]
  |cons a r=>
   have hr:r=[]:=by
    cases r with
    |nil=>rfl
    |cons b s=>
     have:=e a (by simp);have:=e b (by simp);subst a b;exact absurd hn (by simp)
   subst hr;simp[v8]
 |N+1,X,hn,hc,hl=>by
  rw[dJ hc];have t:∀c,(bJ c X).Nodup/\(∀x∈bJ c X,∀d∈x,d=108\/d=114)/\(∀x∈bJ c X,x.length<=N):=λc=>
   ⟨bz hn,λx hx d hd=>hc _ (Gs.mp hx) d (Bg _ hd),λx hx=>by
    have:=hl _ (Gs.mp hx);rw[Bl] at this
    lia⟩
  have h1:=Jl N (t 108).1 (t 108).2.1 (t 108).2.2;have h2:=Jl N (t 114).1 (t 114).2.1 (t 114).2.2;have h0:X.count []<=1:=List.nodup_iff_count.mp hn [];have h3:X.count []*2^(N+1)<=1*2^(N+1):=CA _ h0;have e:(N+1+1)*2^(N+1)=2^(N+1)+2*((N+1)*2^N):=by
   rw[Cb (N+1) 1,BH,<- BP,BL ((N+1)*2^N) 2];lia
  lia
def tup (k:Nat):Nat->A2
 |0=>[[]]
 |n+1=>(List.range k).flatMap λi=>(tup k n).map (i::·)
def bq (ws:A2)(t:A7):A7:=(t.map λi=>ws.getD i []).flatten
theorem aZ(ws:A2)(i:Nat)(t:A7):bq ws (i::t)=ws.getD i []++bq ws t:=rfl
theorem Gv{k:Nat}:∀{n:Nat}{t:A7},t∈tup k n↔t.length=n/\∀i∈t,i<k
 |0,t=>by simp[tup,BM];intro h;subst h;simp
 |n+1,t=>by
  simp only[tup,BC,Bt,AW];constructor
  ·rintro⟨i,hi,r,hr,rfl⟩;obtain⟨h1,h2⟩:=Gv.mp hr
   exact⟨by rw[Bl,h1],λj hj=>by
    rcases Bb.mp hj with rfl|h
    ·exact hi
    ·exact h2 j h⟩
  ·rintro⟨h1,h2⟩;cases t with
   |nil=>cases h1
   |cons i r=>exact⟨i,h2 i AZ,r,Gv.mpr ⟨by rw[Bl] at h1;lia,λj hj=>h2 j (Bg _ hj)⟩,rfl⟩
def S (L:Nat)(ws:A2):Nat:=((List.range ws.length).map λi=>2^(L-(ws.getD i []).length)).sum
theorem ft(c:Nat):∀(l:A7),(l.map (c * ·)).sum=c*l.sum
 |[]=>by simp
 |a::r=>by rw[Bm,BF,BF,ft c r,CB]
theorem dP{ws:A2}{L:Nat}(hL:∀i,(ws.getD i []).length<=L):∀(t:A7),(bq ws t).length<=t.length*L
 |[]=>by simp[bq]
 |i::r=>by
  have h1:=hL i;have h2:=dP hL r;rw[aZ,AV,Bl,Cd];lia
theorem jL{ws:A2}{L:Nat}(hL:∀i,(ws.getD i []).length<=L):∀n,((tup ws.length n).map λt=>2^(n*L-(bq ws t).length)).sum=S L ws^n
 |0=>by simp[tup,bq]
 |n+1=>by
  have ih:=jL hL n;have go:∀is:A7,((is.flatMap λi=>(tup ws.length n).map (i::·)).map λt=>2^((n+1)*L-(bq ws t).length)).sum=(is.map λi=>2^(L-(ws.getD i []).length)).sum*S L ws^n:=by
   intro is;induction is with
   |nil=>simp
   |cons i r WO=>
    rw[BY,Bi,Cy,WO,Bm,BF,Cb (2^(L-(ws.getD i []).length))]
    congr 1
    rw[Bx,<- ih,<- ft,Bx]
    congr 1
    apply Cc;intro t ht;have h1:=hL i;have h2:=dP hL t;rw[(Gv.mp ht).1] at h2;show 2^((n+1)*L-(bq ws (i::t)).length)=2^(L-(ws.getD i []).length)*2^(n*L-(bq ws t).length);rw[<- CC,aZ,AV,Cd]
    congr 1
    lia
  show((List.range ws.length).flatMap _ |>.map _).sum=_;rw[go,BH,BL];rfl
def UD (ws:A2):Prop:=∀s t:A7,(∀i∈s,i<ws.length)->(∀i∈t,i<ws.length)->bq ws s=bq ws t->s=t
theorem fB(k:Nat):∀n,(tup k n).Nodup
 |0=>by simp[tup]
 |n+1=>by
  have ih:=fB k n;have go:∀is:A7,is.Nodup->(is.flatMap λi=>(tup k n).map (i::·)).Nodup:=by
   intro is;induction is with
   |nil=>intro _;simp
   |cons i r WO=>
    intro h;obtain⟨h1,h2⟩:=BN.mp h;rw[BY,CO];refine⟨?_,WO h2,?_⟩
    ·exact List.Pairwise.map _ (λa b OU e=>OU (by injection e)) ih
    ·intro a ha b hb e;subst e;obtain⟨x,_,rfl⟩:=AW.mp ha;obtain⟨j,hj,hb⟩:=BC.mp hb;obtain⟨y,_,e⟩:=AW.mp hb;injection e with e1 _;subst e1;exact h1 hj
  exact go _ EM
theorem rB{ws:A2}{L:Nat}(hL:∀i,(ws.getD i []).length<=L)(hb:∀x∈ws,∀c∈x,c=108\/c=114)(ud:UD ws)(n:Nat):S L ws^n<=(n*L+1)*2^(n*L):=by
 rw[<- jL hL n];have h:=Jl (n*L) (X:=(tup ws.length n).map (bq ws)) ?_ ?_ ?_
 ·unfold v8 at h;rw[Bx] at h;exact h
 ·refine List.Pairwise.map _ (λa b OU=>OU) ?_;have nd:=fB ws.length n;refine List.Pairwise.imp_of_mem (λ{a b} ha C7 OU e=>OU (ud a b (Gv.mp ha).2 (Gv.mp C7).2 e)) nd
 ·intro x hx c hc;obtain⟨t,ht,rfl⟩:=AW.mp hx;unfold bq at hc;obtain⟨y,hy,Ts⟩:=EN.mp hc;obtain⟨i,hi,rfl⟩:=AW.mp hy;have i3:=(Gv.mp ht).2 i hi;rw[Bv,AX i3] at Ts;exact hb _ (BG i3) c Ts
 ·intro x hx;obtain⟨t,ht,rfl⟩:=AW.mp hx;have:=dP hL t;rw[(Gv.mp ht).1] at this;exact this
theorem vy(B:Nat):∀n,B^(n+1)+(n+1)*B^n<=(B+1)^(n+1)
 |0=>by simp
 |n+1=>by
  have ih:=vy B n;have h:(B^(n+1)+(n+1)*B^n)*(B+1)<=(B+1)^(n+1)*(B+1):=CA _ ih;rw[<- BH] at h;refine Bh ?_ h;have e1:(B^(n+1)+(n+1)*B^n)*(B+1)=B^(n+1)*B+(n+1)*(B^n*B)+B^(n+1)+(n+1)*B^n:=by
   rw[CB,Cb,Eg,BP];lia
  rw[e1,<- BH,<- BH];have e2:(n+1+1)*B^(n+1)=(n+1)*B^(n+1)+B^(n+1):=Cd _ _;show B^(n+1+1)+(n+1+1)*B^(n+1)<=B^(n+1+1)+(n+1)*B^(n+1)+B^(n+1)+(n+1)*B^n;lia
theorem wK(B:Nat):∀n,(n+2)*(n+1)*B^n<=2*(B+1)^(n+2)
 |0=>by
  have h:0<(B+1)^2:=Dv (Nat.succ_pos _);show 2*1*B^0<=2*(B+1)^2;rw[Nat.pow_zero];lia
 |n+1=>by
  have ih:=wK B n;have b:=vy B (n+1);have e:2*(B+1)^(n+1+2)=2*(B+1)^(n+2)*B+2*(B+1)^(n+2):=by
   rw[BH (B+1) (n+2),<- BP,CB,Eg]
  have h:=CA B ih;rw[BP,<- BH] at h;have g:(n+1+2)*(n+1+1)*B^(n+1)=(n+2)*(n+1)*B^(n+1)+2*((n+2)*B^(n+1)):=by
   rw[<- BP,<- Cb]
   congr 1
   rw[BL 2,<- CB,BL]
  rw[e,g];have b':B^(n+2)+(n+2)*B^(n+1)<=(B+1)^(n+2):=b;have h':(n+2)*(n+1)*B^(n+1)<=2*(B+1)^(n+2)*B:=h;lia
theorem xN{ws:A2}{L:Nat}(hL:∀i,(ws.getD i []).length<=L)(hb:∀x∈ws,∀c∈x,c=108\/c=114)(ud:UD ws):S L ws<=2^L:=by
 refine DY λh=>?_;have hB:1<=2^L:=Nat.one_le_two_pow;have key:∀n,(n+2)*(n+1)<=2*(((n+2)*L+1)*(2^L*2^L)):=λn=>by
  have p:=rB hL hb ud (n+2);have q:=Nat.pow_le_pow_left (show 2^L+1<=S L ws from h) (n+2);have b:=wK (2^L) n;have e:2^((n+2)*L)=(2^L)^n*(2^L*2^L):=by
   rw[BL,Eh,BH,BH,BP]
  rw[e] at p;generalize 2^L=B at *;have pos:0<B^n:=Dv hB;refine EO ?_ pos
  calc (n+2)*(n+1)*B^n<=2*(B+1)^(n+2):=b
   _<=2*(((n+2)*L+1)*(B^n*(B*B))):=DQ 2 (Bh q p)
   _=2*(((n+2)*L+1)*(B*B))*B^n:=by
    rw[BL (B^n) (B*B),<- BP ((n+2)*L+1),<- BP 2]
 generalize 2^L*2^L=C at key;by_cases hC:C=0
 ·subst hC;have:=key 0;simp at this
 have:=key (2*(L+1)*C);generalize hM:2*(L+1)*C+2=M at this;have e1:M*(2*(L+1)*C+1)=2*(M*L*C)+2*(M*C)+M:=by
  rw[CB,Eg,BL 2 (L+1),Cb L 1 2,Cb,CB];have a1:M*(L*2*C)=2*(M*L*C):=by rw[BL L 2,BP 2,Nat.mul_left_comm,BP]
  have a2:M*(1*2*C)=2*(M*C):=by rw[DR,Nat.mul_left_comm]
  rw[a1,a2]
 have e2:2*((M*L+1)*C)=2*(M*L*C)+2*C:=by rw[Cb,DR,CB]
 rw[e1,e2] at this;have e3:C<=M*C:=Nat.le_mul_of_pos_left C (by lia);lia
structure Jr(ws:A2)(Q:A7->Prop):Prop where
 first:∀i j x,i<ws.length->j<ws.length->i≠j->ws.getD i []=ws.getD j []++x->Q x
 within:∀n x y,n<ws.length->Q x->x=ws.getD n []++y->Q y
 beyond:∀n x y,n<ws.length->Q x->ws.getD n []=x++y->Q y
 none:¬Q []
theorem IM:∀{a b c d:A7},a++b=c++d->(∃x,a=c++x/\x++b=d)\/(∃x,c=a++x/\b=x++d)
 |a,b,[],d,h=>.inl ⟨a,rfl,h⟩
 |[],b,e::c,d,h=>.inr ⟨e::c,rfl,h⟩
 |f::a,b,e::c,d,h=>by
  injection h with h1 h2;subst h1;rcases IM h2 with ⟨x,h3,h4⟩|⟨x,h3,h4⟩
  ·exact .inl ⟨x,by rw[h3];rfl,h4⟩
  ·exact .inr ⟨x,by rw[h3];rfl,h4⟩
theorem sQ{ws:A2}{Q:A7->Prop}(C:Jr ws Q):∀(k:Nat)(s t:A7)(x:A7),s.length+t.length<=k->(∀i∈s,i<ws.length)->(∀i∈t,i<ws.length)->Q x->x++bq ws s≠bq ws t:=by
 intro k;induction k with
 |zero=>
  intro s t x hk _ _ hx h;have hs:s=[]:=BM.mp (by lia);have ht:t=[]:=BM.mp (by lia);subst hs ht;have:x=[]:=by simpa [bq] using h
  subst this;exact C.none hx
 |succ k ih=>
  intro s t x hk hs ht hx h;cases t with
  |nil=>
   have:x=[]:=by
    have h':x++bq ws s=[]:=h;exact(Ei.mp h').1
   subst this;exact C.none hx
  |cons n t=>
   have hn:=ht n AZ;have MU:∀i∈t,i<ws.length:=λi hi=>ht i (Bg _ hi);rw[aZ] at h;rw[Bl] at hk;rcases IM h with ⟨y,h1,h2⟩|⟨y,h1,h2⟩
   ·exact ih s t y (by lia) hs MU (C.within n x y hn hx h1) h2
   ·exact ih t s y (by lia) MU hs (C.beyond n x y hn hx h1) h2.symm
theorem Jr.ud{ws:A2}{Q:A7->Prop}(C:Jr ws Q)(k8:∀i,i<ws.length->ws.getD i []≠[]):UD ws:=by
 intro s;induction s with
 |nil=>
  intro t _ ht h;cases t with
  |nil=>rfl
  |cons j t=>
   rw[aZ] at h;exact absurd (Ei.mp h.symm).1 (k8 j (ht j AZ))
 |cons i s ih=>
  intro t hs ht h;have hi:=hs i AZ;have vx:∀i∈s,i<ws.length:=λi hi=>hs i (Bg _ hi);cases t with
  |nil=>
   rw[aZ] at h;exact absurd (Ei.mp h).1 (k8 i hi)
  |cons j t=>
   have hj:=ht j AZ;have MU:∀i∈t,i<ws.length:=λi hi=>ht i (Bg _ hi);rw[aZ,aZ] at h;by_cases e:i=j
   ·subst e;rw[ih t vx MU (List.append_cancel_left h)]
   ·exfalso;rcases IM h with ⟨y,h1,h2⟩|⟨y,h1,h2⟩
    ·exact sQ C _ s t y (AS _) vx MU (C.first i j y hi hj e h1) h2
    ·exact sQ C _ t s y (AS _) MU vx (C.first j i y hj hi (FI e) h1) h2.symm
def In (ws:A2)(x:A7):Prop:=∃t:A7,(∀i∈t,i<ws.length)/\bq ws t=x
def RR (ws:A2):A7->A7->Prop
 |[],z=>z=[]
 |c::x,z=>RR ws x (c::z)\/(RR ws x []/\c::z∈ws)
def tx:Nat->A2
 |0=>[[]]
 |n+1=>(tx n).flatMap λx=>[108::x,114::x]
theorem Jz:∀n,(tx n).length=2^n
 |0=>rfl
 |n+1=>by
  have:∀l:A2,(l.flatMap λx=>[108::x,114::x]).length=2*l.length:=λl=>by
   induction l with
   |nil=>rfl
   |cons a r ih=>
    rw[BY,AV,ih];show 2+2*r.length=2*(r.length+1);lia
  show((tx n).flatMap λx=>[108::x,114::x]).length=_;rw[this,Jz n,BH];lia
theorem GS:∀{n:Nat}{x:A7},x∈tx n↔x.length=n/\∀c∈x,c=108\/c=114
 |0,x=>by
  show x∈[[]]↔_;rw[AY];exact⟨λh=>by rw[h];exact⟨rfl,λc hc=>by cases hc⟩,λh=>BM.mp h.1⟩
 |n+1,x=>by
  show x∈(tx n).flatMap (λx=>[108::x,114::x])↔_;rw[BC];constructor
  ·rintro⟨y,hy,hx⟩;obtain⟨h1,h2⟩:=GS.mp hy;simp only[Bb,BE,or_false] at hx;rcases hx with rfl|rfl
   ·exact⟨by rw[Bl,h1],λc hc=>(Bb.mp hc).elim .inl (h2 c)⟩
   ·exact⟨by rw[Bl,h1],λc hc=>(Bb.mp hc).elim .inr (h2 c)⟩
  ·rintro⟨h1,h2⟩;cases x with
   |nil=>cases h1
   |cons c y=>
    refine⟨y,GS.mpr ⟨Nat.succ.inj h1,λd hd=>h2 d (Bg _ hd)⟩,?_⟩;rcases h2 c AZ with rfl|rfl<;>simp
open Classical in
noncomputable def cnt(p:A7->Prop)(l:A2):Nat:=(l.map λx=>if p x then 1 else 0).sum
noncomputable def cT(ws:A2)(n:Nat):Nat:=cnt (λx=>In ws x.reverse) (tx n)
def GF:A7->A2->A2
 |[],X=>X
 |c::b,X=>GF b (bJ c X)
theorem GC{r:A7}:∀{b:A7}{X:A2},r∈GF b X↔b++r∈X
 |[],X=>Iff.rfl
 |c::b,X=>(GC (b:=b)).trans Gs
theorem Hq:∀{b:A7}{X:A2},X.Nodup->(GF b X).Nodup
 |[],_,h=>h
 |_::b,_,h=>Hq (b:=b) (bz h)
theorem oR(f:A7->Nat):∀l:A2,((l.flatMap λx=>[108::x,114::x]).map f).sum=(l.map λx=>f (108::x)).sum+(l.map λx=>f (114::x)).sum
 |[]=>rfl
 |x::r=>by
  have ih:=oR f r;simp only[BY,Bi,Bm,Cj,Cy,BF,Dw] at ih ⊢;lia
theorem eB{N:Nat}:∀(k:Nat){X:A2},X.Nodup->(∀x∈X,∀c∈x,c=108\/c=114)->v8 (N+k) X<=k*2^(N+k)+((tx k).map λb=>v8 N (GF b X)).sum
 |0,X,_,_=>by
  show v8 N X<=0*_+([[]].map λb=>v8 N (GF b X)).sum;simp[GF]
 |k+1,X,hn,hc=>by
  have ht:∀c,∀x∈bJ c X,∀d∈x,d=108\/d=114:=λc x hx d hd=>hc _ (Gs.mp hx) d (Bg _ hd);have h1:=eB (N:=N) k (bz (c:=108) hn) (ht 108);have h2:=eB (N:=N) k (bz (c:=114) hn) (ht 114);have h0:X.count []<=1:=List.nodup_iff_count.mp hn [];have e:=dJ (N:=N+k) hc;have e2:((tx (k+1)).map λb=>v8 N (GF b X)).sum=((tx k).map λb=>v8 N (GF b (bJ 108 X))).sum+((tx k).map λb=>v8 N (GF b (bJ 114 X))).sum:=oR (λb=>v8 N (GF b X)) (tx k);rw[e2];show v8 (N+k+1) X<=(k+1)*2^(N+k+1)+_;rw[e];have e3:(k+1)*2^(N+k+1)=2*(k*2^(N+k))+2^(N+k+1):=by
   rw[Cb,DR,BH,<- BP];lia
  have e4:X.count []*2^(N+k+1)<=2^(N+k+1):=by
   have:=CA (2^(N+k+1)) h0
   rwa [DR] at this
  rw[e3];lia
theorem qu{f:A7->Nat}{C:Nat}{x:A7}(h0:f x=0):∀l:A2,(∀b∈l,f b<=C)->x∈l->(l.map f).sum+C<=l.length*C
 |[],_,h=>by cases h
 |b::r,hf,hx=>by
  have hb:=hf b AZ;have hr:(r.map f).sum<=r.length*C:=by
   have go:∀l:A2,(∀b∈l,f b<=C)->(l.map f).sum<=l.length*C:=λl=>by
    induction l with
    |nil=>intro _;simp
    |cons a s ih=>
     intro h;have h1:=h a AZ;have h2:=ih λb hb=>h b (Bg _ hb);rw[Bm,BF,Bl,Cd];lia
   exact go r λb hb=>hf b (Bg _ hb)
  rw[Bm,BF,Bl,Cd];by_cases e:x=b
  ·rw[<- e,h0];lia
  ·have:=qu h0 r (λb hb=>hf b (Bg _ hb)) ((Bb.mp hx).resolve_left e);lia
def Avo (y u:A7):Prop:=∀p q,u≠p++y++q
theorem rO{y:A7}(hy:∀c∈y,c=108\/c=114)(h1:1<=y.length):∀(N:Nat){X:A2},X.Nodup->(∀x∈X,∀c∈x,c=108\/c=114)->(∀x∈X,x.length<=N)->(∀x∈X,Avo y x)->v8 N X<=y.length*2^y.length*2^N:=by
 intro N;induction N using Nat.strongRecOn with
 |_ N ih=>
  intro X hn hc hl ha;have p1:1<=2^y.length:=Nat.one_le_two_pow;by_cases hN:N<y.length
  ·refine Bh (Jl N hn hc hl) ?_;refine CA _ ?_;refine Bh (show N+1<=y.length*1 by lia) (DQ _ p1)
  ·obtain⟨M,rfl⟩:∃M,N=M+y.length:=⟨N-y.length,by lia⟩
   have hb:=eB (N:=M) y.length hn hc;have hs:=qu (f:=λb=>v8 M (GF b X)) (C:=y.length*2^y.length*2^M) (x:=y) ?_ (tx y.length) ?_ (GS.mpr ⟨rfl,hy⟩)
   ·rw[Jz] at hs;have e:y.length*2^y.length*2^(M+y.length)=2^y.length*(y.length*2^y.length*2^M):=by
     rw[CC,BL (2^M),<- BP,<- BP,BL (y.length*2^y.length) (2^y.length),BP (2^y.length)]
    have e2:y.length*2^(M+y.length)=y.length*2^y.length*2^M:=by rw[CC,BL (2^M),BP]
    rw[e];rw[e2] at hb;lia
   ·have:GF y X=[]:=Fe.mpr λr hr=>ha _ (GC.mp hr) [] r (by simp);show v8 M (GF y X)=0;rw[this];rfl
   ·intro b C7;have lb:=(GS.mp C7).1;refine ih M (by lia) (Hq hn) (λx hx c B9=>hc _ (GC.mp hx) c (Bc _ B9)) (λx hx=>?_) λx hx p q e=>?_
    ·have:=hl _ (GC.mp hx);rw[AV,lb] at this;lia
    ·exact ha _ (GC.mp hx) (b++p) q (by rw[e];simp)
def eW (k M:Nat):A2:=(List.range (M+1)).flatMap λm=>tup k m
theorem Gw{k M:Nat}{t:A7}:t∈eW k M↔t.length<=M/\∀i∈t,i<k:=by
 unfold eW;rw[BC];constructor
 ·rintro⟨m,hm,ht⟩;obtain⟨h1,h2⟩:=Gv.mp ht;have:=Bt.mp hm;exact⟨by lia,h2⟩
 ·rintro⟨h1,h2⟩;exact⟨t.length,Bt.mpr (by lia),Gv.mpr ⟨rfl,h2⟩⟩
theorem iY(k M:Nat):(eW k M).Nodup:=by
 unfold eW;have go:∀l:A7,l.Nodup->(l.flatMap λm=>tup k m).Nodup:=λl=>by
  induction l with
  |nil=>intro _;exact Di
  |cons a r ih=>
   intro h;obtain⟨h1,h2⟩:=BN.mp h;rw[BY,CO];refine⟨fB k a,ih h2,λx hx y hy e=>?_⟩;obtain⟨m,hm,hy⟩:=BC.mp hy;have e1:=(Gv.mp hx).1;have e2:=(Gv.mp hy).1;rw[e,e2] at e1;exact h1 (e1▸hm)
 exact go _ EM
theorem fZ{ws:A2}{L:Nat}(hL:∀i,(ws.getD i []).length<=L)(M:Nat):∀n,n<=M->(((List.range (n+1)).flatMap λm=>tup ws.length m).map λt=>2^(M*L-(bq ws t).length)).sum=((List.range (n+1)).map λm=>S L ws^m*2^((M-m)*L)).sum:=by
 have one:∀m,m<=M->((tup ws.length m).map λt=>2^(M*L-(bq ws t).length)).sum=S L ws^m*2^((M-m)*L):=λm hm=>by
  rw[<- jL hL m,BL _ (2^((M-m)*L)),<- ft,Bx]
  congr 1
  refine Cc λt ht=>?_;have h2:=dP hL t;rw[(Gv.mp ht).1] at h2;show 2^(M*L-(bq ws t).length)=2^((M-m)*L)*2^(m*L-(bq ws t).length);rw[<- CC]
  congr 1
  have:M*L=(M-m)*L+m*L:=by rw[<- Cb];congr 1;lia
  lia
 intro n;induction n with
 |zero=>intro h;simp only[Dd,List.range_one,BY,Ej,BJ,Bm,Cj,BF,Dw,BR];exact one 0 h
 |succ n ih=>
  intro h;rw[CT,ER,Bi,Cy,ih (by lia),Bi,Cy]
  congr 1
  simp only[BY,Ej,BJ,Bm,Cj,BF,Dw,BR];exact one (n+1) h
theorem va{ws:A2}(hb:∀x∈ws,∀c∈x,c=108\/c=114){t:A7}(ht:∀i∈t,i<ws.length):∀c∈bq ws t,c=108\/c=114:=λc hc=>by
 obtain⟨y,hy,Ts⟩:=EN.mp hc;obtain⟨i,hi,rfl⟩:=AW.mp hy;have i3:=ht i hi;rw[Bv,AX i3] at Ts;exact hb _ (BG i3) c Ts
theorem uU{ws:A2}{L:Nat}(hL:∀i,(ws.getD i []).length<=L)(hb:∀x∈ws,∀c∈x,c=108\/c=114)(ud:UD ws)(full:S L ws=2^L){y:A7}(hy:∀c∈y,c=108\/c=114):∃t,(∀i∈t,i<ws.length)/\∃p q,bq ws t=p++y++q:=by
 refine Classical.byContradiction λno=>?_;have av:∀t,(∀i∈t,i<ws.length)->Avo y (bq ws t):=λt ht p q e=>no ⟨t,ht,p,q,e⟩;have h1:1<=y.length:=by
  cases y with
  |nil=>exact absurd (av [] (λi h=>by cases h) [] []) (λh=>h (by simp[bq]))
  |cons c r=>show 1<=r.length+1;lia
 generalize hC:y.length*2^y.length=C;have key:=rO hy h1 (C*L) (X:=(eW ws.length C).map (bq ws)) ?_ ?_ ?_ ?_
 ·unfold v8 at key;rw[Bx] at key;have:=fZ hL C C (AS _);have e:((List.range (C+1)).map λm=>S L ws^m*2^((C-m)*L)).sum=(C+1)*2^(C*L):=by
   have go:∀n,n<=C+1->((List.range n).map λm=>S L ws^m*2^((C-m)*L)).sum=n*2^(C*L):=λn=>by
    induction n with
    |zero=>intro _;simp
    |succ n ih=>
     intro h;rw[CT,Bi,Cy,ih (by lia),Cd]
     congr 1
     simp only[Bm,Cj,BF,Dw,BR];rw[full,<- Eh,<- CC]
     congr 1
     have:C*L=(C-n)*L+n*L:=by rw[<- Cb];congr 1;lia
     rw[BL L n];lia
   exact go _ (AS _)
  rw[e] at this;have k2:(C+1)*2^(C*L)<=C*2^(C*L):=by
   rw[<- this,<- hC] at *;exact key
  have:=EO k2 (Dv (by decide));lia
 ·refine List.Pairwise.map _ (λa b OU=>OU) ?_;exact List.Pairwise.imp_of_mem (λ{a b} ha C7 OU e=>OU (ud a b (Gw.mp ha).2 (Gw.mp C7).2 e)) (iY ws.length C)
 ·intro x hx c hc;obtain⟨t,ht,rfl⟩:=AW.mp hx;exact va hb (Gw.mp ht).2 c hc
 ·intro x hx;obtain⟨t,ht,rfl⟩:=AW.mp hx;exact Bh (dP hL t) (CA _ (Gw.mp ht).1)
 ·intro x hx;obtain⟨t,ht,rfl⟩:=AW.mp hx;exact av t (Gw.mp ht).2
theorem jq{β:Type} [DecidableEq β](f:A7->Nat):∀{A C:A2},A.Nodup->(∀a∈A,a∈C)->(A.map f).sum<=(C.map f).sum
 |[],_,_,_=>Bj _
 |a::A,C,hn,h=>by
  obtain⟨h1,h2⟩:=BN.mp hn;have hp:=List.perm_cons_erase (h a AZ);have e:=(hp.map f).sum_nat;rw[Bm,BF] at e;have ih:=jq (β:=β) f (A:=A) (C:=C.erase a) h2 λb hb=>(List.mem_erase_of_ne (λz=>h1 (by rw[<- z];exact hb))).mpr (h b (Bg _ hb));rw[Bm,BF,e];lia
theorem eV{α:Type}(f:α->Nat)(c:Nat):∀l:List α,(∀a∈l,f a<=c)->(l.map f).sum<=l.length*c
 |[],_=>by simp
 |a::r,h=>by
  have h1:=h a AZ;have h2:=eV f c r λb hb=>h b (Bg _ hb);rw[Bm,BF,Bl,Cd];lia
def Dec (ws:A2)(y:A7):Prop:=(∃w∈ws,∃a b,w=a++y++b)\/∃w1∈ws,∃w2∈ws,∃a s t p b,w1=a++s/\w2=p++b/\(∀i∈t,i<ws.length)/\y=s++bq ws t++p
def mG (N:Nat):A2:=(List.range (N+1)).flatMap tx
theorem Kr{N:Nat}{x:A7}:x∈mG N↔x.length<=N/\∀c∈x,c=108\/c=114:=by
 unfold mG;rw[BC];constructor
 ·rintro⟨n,hn,hx⟩;obtain⟨h1,h2⟩:=GS.mp hx;have:=Bt.mp hn;exact⟨by lia,h2⟩
 ·rintro⟨h1,h2⟩;exact⟨x.length,Bt.mpr (by lia),GS.mpr ⟨rfl,h2⟩⟩
theorem Je:∀n,(tx n).Nodup
 |0=>by simp[tx]
 |n+1=>by
  have ih:=Je n;show((tx n).flatMap λx=>[108::x,114::x]).Nodup;have go:∀l:A2,l.Nodup->(l.flatMap λx=>[108::x,114::x]).Nodup:=λl=>by
   induction l with
   |nil=>intro _;exact Di
   |cons a r ih=>
    intro h;obtain⟨h1,h2⟩:=BN.mp h;rw[BY,CO];refine⟨by simp,ih h2,λx hx y hy e=>?_⟩;obtain⟨z,hz,hy⟩:=BC.mp hy;subst e;simp only[Bb,BE,or_false] at hx hy;rcases hx with rfl|rfl<;>rcases hy with h|h<;>first|(injection h with _ h;exact h1 (h▸hz))|(injection h with h _;exact absurd h (by decide))
  exact go _ ih
theorem jO(N:Nat):(mG N).Nodup:=by
 unfold mG;have go:∀l:A7,l.Nodup->(l.flatMap tx).Nodup:=λl=>by
  induction l with
  |nil=>intro _;exact Di
  |cons a r ih=>
   intro h;obtain⟨h1,h2⟩:=BN.mp h;rw[BY,CO];refine⟨Je a,ih h2,λx hx y hy e=>?_⟩;obtain⟨m,hm,hy⟩:=BC.mp hy;have e1:=(GS.mp hx).1;have e2:=(GS.mp hy).1;rw[e,e2] at e1;exact h1 (e1▸hm)
 exact go _ EM
theorem mW(N:Nat):((mG N).map λx=>2^(N-x.length)).sum=(N+1)*2^N:=by
 have go:∀n,n<=N+1->(((List.range n).flatMap tx).map λx=>2^(N-x.length)).sum=n*2^N:=λn=>by
  induction n with
  |zero=>intro _;simp
  |succ n ih=>
   intro h;rw[CT,ER,Bi,Cy,ih (by lia),Cd]
   congr 1
   simp only[BY,Ej,BJ];have e:((tx n).map λx=>2^(N-x.length))=(tx n).map λ_=>2^(N-n):=Cc λx hx=>by rw[(GS.mp hx).1]
   rw[e,List.map_const',List.sum_replicate_nat,Jz,<- CC]
   congr 1;lia
 exact go _ (AS _)
theorem geo(S B:Nat)(h:S+1<=B):∀M,((List.range (M+1)).map λm=>S^m*B^(M-m)).sum+S^(M+1)<=B^(M+1)
 |0=>by
  simp only[Dd,List.range_one,Bm,Cj,BF,Dw,Nat.pow_zero,BR,Nat.pow_one,Dt];lia
 |M+1=>by
  have ih:=geo S B h M;rw[CT,Bi,Cy];have e:((List.range (M+1)).map λm=>S^m*B^(M+1-m))=(List.range (M+1)).map λm=>B*(S^m*B^(M-m)):=Cc λm hm=>by
   have:=Bt.mp hm;rw[show M+1-m=(M-m)+1 by lia,BH,<- BP,BL]
  rw[e,show(List.range (M+1)).map (λm=>B*(S^m*B^(M-m)))=((List.range (M+1)).map λm=>S^m*B^(M-m)).map (B * ·) by rw[Bx];rfl,ft];simp only[Bm,Cj,BF,Dw,BR,Ef,Nat.pow_zero,Eg];have h1:=DQ B ih;have h2:=CA (S^(M+1)) h;rw[CB] at h1;rw[Cb,DR] at h2;rw[BH S (M+1),BL (S^(M+1)) S,BH B (M+1),BL (B^(M+1)) B];lia
theorem jM{ws:A2}{w:A7}(h:w∈ws):∃i,i<ws.length/\ws.getD i []=w:=by
 obtain⟨i,hi,e⟩:=List.getElem_of_mem h;exact⟨i,hi,by rw[Bv,AX hi];exact e⟩
def dD (w:A7):A2:=(List.range (w.length+1)).flatMap λi=>(List.range (w.length+1)).map λj=>(w.drop i).take j
theorem jW{w y a b:A7}(h:w=a++y++b):y∈dD w:=by
 unfold dD;have hl:=congrArg List.length h;rw[AV,AV] at hl;refine BC.mpr ⟨a.length,Bt.mpr (by lia),AW.mpr ⟨y.length,Bt.mpr (by lia),?_⟩⟩;rw[h,Bz,Ce,Ek]
def vn (w:A7):A2:=(List.range (w.length+1)).map w.drop
def vq (w:A7):A2:=(List.range (w.length+1)).map w.take
theorem qM{w a s:A7}(h:w=a++s):s∈vn w:=by
 have hl:=congrArg List.length h;rw[AV] at hl;exact AW.mpr ⟨a.length,Bt.mpr (by lia),by rw[h,Ce]⟩
theorem qK{w p b:A7}(h:w=p++b):p∈vq w:=by
 have hl:=congrArg List.length h;rw[AV] at hl;exact AW.mpr ⟨p.length,Bt.mpr (by lia),by rw[h,Ek]⟩
theorem kA{ws:A2}(h1:∀w∈ws,1<=w.length):∀t:A7,(∀i∈t,i<ws.length)->t.length<=(bq ws t).length
 |[],_=>Bj _
 |i::t,h=>by
  have:=kA h1 t λj hj=>h j (Bg _ hj);have hi:=h i AZ;have:=h1 (ws.getD i []) (by rw[Bv,AX hi];exact BG hi);rw[aZ,AV,Bl];lia
theorem ue{ws:A2}{L:Nat}(hL:∀i,(ws.getD i []).length<=L)(h1:∀w∈ws,1<=w.length)(L1:1<=L)(all:∀y:A7,(∀c∈y,c=108\/c=114)->Dec ws y):2^L<=S L ws:=by
 refine Classical.byContradiction λno=>?_;have hS:S L ws+1<=2^L:=by lia
 have key:∀N,N+1<=(ws.flatMap dD).length+((ws.flatMap vn).length*(ws.flatMap vq).length)*2^L:=λN=>by
  let R:=(eW ws.length N).filter λt=>decide ((bq ws t).length<=N)
  let B:A2:=ws.flatMap dD++(ws.flatMap vn).flatMap λs=>(ws.flatMap vq).flatMap λp=>R.map λt=>s++bq ws t++p
  have cov:∀y∈mG N,y∈B:=λy hy=>by
   obtain⟨ly,cy⟩:=Kr.mp hy;rcases all y cy with ⟨w,hw,a,b,e⟩|⟨w1,hw1,w2,hw2,a,s,t,p,b,e1,e2,ht,ey⟩
   ·exact Bu _ (BC.mpr ⟨w,hw,jW e⟩)
   ·refine Bc _ (BC.mpr ⟨s,BC.mpr ⟨w1,hw1,qM e1⟩,BC.mpr ⟨p,BC.mpr ⟨w2,hw2,qK e2⟩,AW.mpr ⟨t,CP.mpr ⟨Gw.mpr ⟨?_,ht⟩,Fo ?_⟩,ey.symm⟩⟩⟩)
    ·have:=kA h1 t ht;rw[ey,AV,AV] at ly;lia
    ·rw[ey,AV,AV] at ly;lia
  have hs:=jq (β:=Nat) (λy=>2^(N-y.length)) (jO N) cov;rw[mW] at hs;have p0:0<2^N:=Dv (by decide);have hR:(R.map λt=>2^(N-(bq ws t).length)).sum<=2^L*2^N:=by
   have e1:((R.map λt=>2^(N-(bq ws t).length)).map (2^(N*L-N) * ·)).sum<=((eW ws.length N).map λt=>2^(N*L-(bq ws t).length)).sum:=by
    rw[Bx];have NL:N<=N*L:=Nat.le_mul_of_pos_right N L1;have go:∀l:A2,(((l.filter λt=>decide ((bq ws t).length<=N)).map ((2^(N*L-N) * ·) ∘ λt=>2^(N-(bq ws t).length))).sum<=(l.map λt=>2^(N*L-(bq ws t).length)).sum):=λl=>by
     induction l with
     |nil=>exact AS _
     |cons a r ih=>
      rw[CI];split
      ·next h=>
       have h:=Fu h;rw[Bm,BF,Bm,BF];refine ES (DJ ?_) ih;show 2^(N*L-N)*2^(N-(bq ws a).length)=_;rw[<- CC]
       congr 1;lia
      ·rw[Bm,BF];exact Bh ih (Nat.le_add_left _ _)
    exact go _
   rw[ft] at e1;have e2:=fZ hL N N (AS _);have e3:=geo (S L ws) (2^L) hS N;have e4:((List.range (N+1)).map λm=>S L ws^m*2^((N-m)*L))=(List.range (N+1)).map λm=>S L ws^m*(2^L)^(N-m):=Cc λm _=>by rw[<- Eh,BL L]
   have e5:((eW ws.length N).map λt=>2^(N*L-(bq ws t).length)).sum<=(2^L)^(N+1):=by
    refine Bh (DJ e2) ?_;rw[e4];lia
   have e6:(2^L)^(N+1)=2^(N*L-N)*(2^L*2^N):=by
    have NL:N<=N*L:=Nat.le_mul_of_pos_right N L1;rw[<- Eh,<- CC,<- CC]
    congr 1
    rw[Nat.mul_succ,BL L N];lia
   rw[e6] at e5;exact Nat.le_of_mul_le_mul_left (Bh e1 e5) (Dv (by decide))
  have hB:(B.map λy=>2^(N-y.length)).sum<=(ws.flatMap dD).length*2^N+((ws.flatMap vn).length*(ws.flatMap vq).length)*(2^L*2^N):=by
   have one:∀m:Nat,2^(N-m)<=2^N:=λm=>DS (by decide) (by lia);show((ws.flatMap dD++_).map _).sum<=_;rw[Bi,Cy];refine ES (eV _ _ _ λy _=>one _) ?_;have in1:∀s p:A7,((R.map λt=>s++bq ws t++p).map λy=>2^(N-y.length)).sum<=2^L*2^N:=λs p=>by
    refine Bh ?_ hR;rw[Bx];have go:∀l:A2,(l.map ((λy=>2^(N-y.length)) ∘ λt=>s++bq ws t++p)).sum<=(l.map λt=>2^(N-(bq ws t).length)).sum:=λl=>by
     induction l with
     |nil=>exact AS _
     |cons a r ih=>
      rw[Bm,BF,Bm,BF];refine ES (DS (by decide) ?_) ih;show N-(s++bq ws a++p).length<=_;rw[AV,AV];lia
    exact go R
   have fl:∀{α:Type}(g:α->A2)(c:Nat)(l:List α),(∀a∈l,((g a).map λy=>2^(N-y.length)).sum<=c)->((l.flatMap g).map λy=>2^(N-y.length)).sum<=l.length*c:=λ{α} g c l=>by
    induction l with
    |nil=>intro _;simp
    |cons a r ih=>
     intro h;have h1:=h a AZ;have h2:=ih λb hb=>h b (Bg _ hb);rw[BY,Bi,Cy,Bl,Cd];lia
   rw[BP];exact fl _ _ _ λs _=>fl _ _ _ λp _=>in1 s p
  have h:=Bh hs hB;rw[<- BP,<- Cb] at h;exact EO h p0
 exact absurd (key ((ws.flatMap dD).length+((ws.flatMap vn).length*(ws.flatMap vq).length)*2^L)) (by lia)
def F7 (ws:A2)(k:A2)(c:Nat)(k':A2):Prop:=∀z,z∈k'↔(c::z∈k\/([]∈k/\c::z∈ws))
def T5 (C:A2->Prop):Prop:=∀k k',C k->C k'->(∀z,z∈k↔z∈k')->k=k'
abbrev Kv:=List (A2×Nat)
theorem HI:∀(U:A2){l:A2},l.Nodup->(∀x∈l,x∈U)->l.length<=U.length
 |[],[],_,_=>AS _
 |[],a::r,_,h=>absurd (h a AZ) (by simp)
 |u::U,l,nd,h=>by
  have h1:=HI U (l:=l.filter λx=>decide (x≠u)) (nd.sublist List.filter_sublist) λx hx=>by
   obtain⟨h2,h3⟩:=CP.mp hx;rcases Bb.mp (h x h2) with e|e
   ·exact absurd e (Fu h3)
   ·exact e
  have h2:l.length<=(l.filter λx=>decide (x≠u)).length+1:=by
   clear h1 h;induction l with
   |nil=>exact Bj _
   |cons a r ih=>
    obtain⟨n1,n2⟩:=BN.mp nd;by_cases e:a=u
    ·have e2:r.filter (λx=>decide (x≠u))=r:=List.filter_eq_self.mpr λx hx=>Fo λz=>n1 (by rw[e,<- z];exact hx);rw[CI,Fm (by simp[e]),e2];exact AS _
    ·rw[CI,Fn (by simp[e]),Bl,Bl];exact FM (ih n2)
  rw[Bl];lia
def Ps (ws:A2)(z:A7):Prop:=∃u,u≠[]/\u++z∈ws
def UL (ws:A2):Prop:=∃U:A2,U.length<=63/\∀z,Ps ws z->z∈U
def nE (w:A7):A2:=(List.range (w.length-1)).map λi=>w.drop (i+1)
theorem nK(w:A7):(nE w).length=w.length-1:=by unfold nE;rw[AU,BX]
theorem Iq:∀ws:A2,(∀w∈ws,1<=w.length)->(ws.flatMap nE).length+ws.length=(ws.map List.length).sum
 |[],_=>rfl
 |w::r,h=>by
  have ih:=Iq r λx hx=>h x (Bg _ hx);have hw:=h w AZ;rw[BY,AV,nK,Bl,Bm,BF];lia
theorem xb{ws:A2}(h1:∀w∈ws,1<=w.length)(hs:(ws.flatMap nE).length<=62):UL ws:=by
 refine⟨[]::ws.flatMap nE,by rw[Bl];lia,λz hz=>?_⟩;obtain⟨u,hu,hw⟩:=hz;by_cases e:z=[]
 ·rw[e];exact AZ
 ·refine Bg _ (BC.mpr ⟨_,hw,AW.mpr ⟨u.length-1,Bt.mpr ?_,?_⟩⟩)
  ·have a:=CK.mpr hu;have b:=CK.mpr e;rw[AV];lia
  ·have a:=CK.mpr hu;rw[show u.length-1+1=u.length by lia,Ce]
theorem vh{ws:A2}(h1:∀w∈ws,1<=w.length)(C0:∀w∈ws,w.length<=12)(hs:(ws.map List.length).sum<=65):UL ws:=by
 refine xb h1 ?_;have e:=Iq ws h1;by_cases h:ws.length<=2
 ·have:(ws.map List.length).sum<=12*ws.length:=by
   clear e hs h h1;induction ws with
   |nil=>exact AS _
   |cons a r ih=>
    have:=ih λw hw=>C0 w (Bg _ hw);have:=C0 a AZ;rw[Bm,BF,Bl];lia
  lia
 ·lia
noncomputable def cd(ws:A2)(x:A7):A7:=x.take 11++((List.range 11).map λj=>@ite Nat (RR ws (x.drop (j+1)) []) (Classical.propDecidable _) 108 114)++[@ite Nat (RR ws x []) (Classical.propDecidable _) 108 114]
theorem tF{p q:Prop}(h:@ite Nat p (Classical.propDecidable _) 108 114=@ite Nat q (Classical.propDecidable _) 108 114)(hp:p):q:=by
 rw[@Fn p (Classical.propDecidable p) hp Nat 108 114] at h;by_cases hq:q
 ·exact hq
 ·rw[@Fm q (Classical.propDecidable q) hq Nat 108 114] at h;cases h
def steps(f:A2->Nat->A2)(T:Kv):Kv:=T.flatMap λe=>[(f e.1 108,e.2),(f e.1 114,e.2)]
section
variable (R:A7->A7->Prop)
def IsR (k:A2)(x:A7):Prop:=∀z,z∈k↔R x z
end
theorem cc{ws:A2}{j p:Nat}(hp:p<(ws.getD j []).length):j<ws.length:=by
 rcases Nat.lt_or_ge j ws.length with h|h
 ·exact h
 ·rw[Bv,Cz h] at hp;cases hp
def RG (ws:A2):A7->A7->Prop
 |[],z=>z≠[]/\∃w∈ws,∃u,w=u++z
 |c::x,z=>RG ws x (c::z)\/(RG ws x []/\c::z∈ws)
def PL (ws:A2):A7->A7->Prop
 |[],z=>∃j p,z=[j,p]/\p<(ws.getD j []).length
 |c::x,z=>(∃j p,z=[j,p+1]/\p+1<(ws.getD j []).length/\PL ws x [j,p]/\(ws.getD j [])[p]?=some c) \/
   ∃j,z=[j,0]/\j<ws.length/\∃i p,p+1=(ws.getD i []).length/\PL ws x [i,p]/\(ws.getD i [])[p]?=some c
def ui (ws:A2)(y:A7):Prop:=∃z,RG ws y.reverse z
theorem fM{w:A7}{p c:Nat}(h:w[p]?=some c):w.drop p=c::w.drop (p+1):=by
 have hp:=(Be.mp h).1;rw[CL hp,(Be.mp h).2]
section
variable {ws:A2}(h1:∀w∈ws,1<=w.length)
theorem dX{j:Nat}(h:j<ws.length):ws.getD j []∈ws:=by rw[Bv,AX h];exact BG h
include h1 in
theorem MO:∀{x:A7}{j p:Nat},PL ws x [j,p]->p<(ws.getD j []).length
 |[],j,p,⟨_,_,e,h⟩=>by cases e;exact h
 |c::x,j,p,.inl ⟨_,_,e,h,_⟩=>by cases e;exact h
 |c::x,j,p,.inr ⟨_,e,h,_⟩=>by
  cases e;exact h1 _ (dX h)
def Qr (ws:A2)(x z:A7):Prop:=z≠[]/\(RG ws x z\/(RG ws x []/\z∈ws))
theorem HS{c:Nat}{x z:A7}:RG ws (c::x) z↔Qr ws x (c::z):=⟨λh=>⟨by simp,h⟩,λh=>h.2⟩
include h1 in
theorem LU:∀{x:A7}{j p:Nat},PL ws x [j,p]->Qr ws x ((ws.getD j []).drop p)
 |[],j,p,⟨_,_,e,h⟩=>by
  cases e;have n:(ws.getD j []).drop p≠[]:=λz=>by have:=congrArg List.length z;rw[By,Cn] at this;lia
  exact⟨n,.inl ⟨n,_,dX (cc h),_,(Ca p _).symm⟩⟩
 |c::x,j,p,.inl ⟨_,q,e,h,hp,g⟩=>by
  cases e;have ih:=LU hp;rw[fM g] at ih;have n:(ws.getD j []).drop (q+1)≠[]:=λz=>by have:=congrArg List.length z;rw[By,Cn] at this;lia
  exact⟨n,.inl (HS.mpr ih)⟩
 |c::x,j,p,.inr ⟨_,e,h,i,q,el,hp,g⟩=>by
  cases e;have ih:=LU hp;rw[fM g,CM (by lia)] at ih;have n:(ws.getD j []).drop 0≠[]:=λz=>by have:=congrArg List.length z;have:=h1 _ (dX h);rw[CJ,Cn] at *;lia
  exact⟨n,.inr ⟨HS.mpr ih,by rw[CJ];exact dX h⟩⟩
include h1 in
theorem Mk:∀{x z:A7},Qr ws x z->∃j p,PL ws x [j,p]/\(ws.getD j []).drop p=z:=by
 intro x;induction x with
 |nil=>
  rintro z ⟨n,h⟩;have Lg:∃w∈ws,∃u,w=u++z:=h.elim (λh=>h.2) λXh=>by obtain⟨h,_⟩:=Xh;exact absurd rfl h.1
  obtain⟨w,hw,u,e⟩:=Lg;obtain⟨j,hj,ej⟩:=jM hw;refine⟨j,u.length,⟨j,_,rfl,?_⟩,by rw[ej,e,Ce]⟩;have:=CK.mpr n;rw[ej,e,AV];lia
 |cons c x ih=>
  rintro z ⟨n,h⟩;rcases h with h|⟨h,hz⟩
  ·obtain⟨j,p,hp,e⟩:=ih (HS.mp h);have lt:=MO h1 hp;have g:(ws.getD j [])[p]?=some c:=by
    rw[CL lt] at e;rw[AX lt,(List.cons.inj e).1]
   have ez:(ws.getD j []).drop (p+1)=z:=by
    rw[fM g] at e;exact(List.cons.inj e).2
   refine⟨j,p+1,.inl ⟨j,p,rfl,?_,hp,g⟩,ez⟩;have:=congrArg List.length ez;have:=CK.mpr n;rw[By] at *;lia
  ·obtain⟨i,p,hp,e⟩:=ih (HS.mp h);have lt:=MO h1 hp;have g:(ws.getD i [])[p]?=some c:=by
    rw[CL lt] at e;rw[AX lt,(List.cons.inj e).1]
   have el:p+1=(ws.getD i []).length:=by
    have:=congrArg List.length e;rw[By,Bl,Cn] at this;lia
   obtain⟨j,hj,ej⟩:=jM hz;exact⟨j,0,.inr ⟨j,rfl,hj,i,p,el,hp,g⟩,by rw[ej];rfl⟩
include h1 in
theorem lG(ne:ws≠[]){x:A7}:(∃z,PL ws x z)↔∃z,RG ws x z:=by
 constructor
 ·rintro⟨z,hz⟩;have:∃j p,z=[j,p]:=by
   cases x with
   |nil=>obtain⟨j,p,e,_⟩:=hz;exact⟨j,p,e⟩
   |cons c x=>
    rcases hz with ⟨j,p,e,_⟩|⟨j,e,_⟩
    ·exact⟨j,_,e⟩
    ·exact⟨j,_,e⟩
  obtain⟨j,p,rfl⟩:=this;obtain⟨_,h|h⟩:=LU h1 hz
  ·exact⟨_,h⟩
  ·exact⟨_,h.1⟩
 ·rintro⟨z,hz⟩;by_cases n:z=[]
  ·subst n;obtain⟨w,r,e⟩:=ET ne;have hw:w∈ws:=by rw[e];exact AZ
   obtain⟨j,p,h,_⟩:=Mk h1 (z:=w) ⟨λz=>by have:=h1 w hw;rw[z] at this;exact absurd this (by decide),.inr ⟨hz,hw⟩⟩;exact⟨_,h⟩
  ·obtain⟨j,p,h,_⟩:=Mk h1 ⟨n,.inl hz⟩;exact⟨_,h⟩
include h1 in
theorem adv:∀{y:A7}{x r q:A7}{t:A7},RG ws x r->(∀i∈t,i<ws.length)->y++q=r++bq ws t->∃z,RG ws (y.reverse++x) z:=by
 intro y;induction y with
 |nil=>intro x r q t h _ _;exact⟨r,h⟩
 |cons c y ih=>
  intro x r q t h ht e;rw[show(c::y).reverse++x=y.reverse++(c::x) by simp];cases r with
  |cons d r=>
   obtain⟨rfl,e2⟩:=List.cons.inj (show c::(y++q)=d::(r++bq ws t) from e);exact ih (.inl h) ht e2
  |nil=>
   cases t with
   |nil=>cases e
   |cons i t=>
    have hi:=ht i AZ;have hw:=dX hi;rw[aZ,EJ] at e;cases ew:ws.getD i [] with
    |nil=>have:=h1 _ hw;rw[ew] at this;exact absurd this (by decide)
    |cons d r=>
     rw[ew] at e hw;obtain⟨rfl,e2⟩:=List.cons.inj (show c::(y++q)=d::(r++bq ws t) from e);exact ih (.inr ⟨h,hw⟩) (λj hj=>ht j (Bg _ hj)) e2
theorem IS:∀{t:A7}{p r:A7},(∀i∈t,i<ws.length)->bq ws t=p++r->r≠[]->∃w∈ws,∃a s t',w=a++s/\s≠[]/\(∀i∈t',i<ws.length)/\r=s++bq ws t'
 |[],p,r,_,e,n=>by
  have:([]:A7)=p++r:=e;exact absurd (Ei.mp this.symm).2 n
 |i::t,p,r,ht,e,n=>by
  rw[aZ] at e;have hw:=dX (ht i AZ);have MU:∀j∈t,j<ws.length:=λj hj=>ht j (Bg _ hj);rcases List.append_eq_append_iff.mp e with ⟨a,h2,h3⟩|⟨a,h2,h3⟩
  ·exact IS MU h3 n
  ·by_cases z:a=[]
   ·subst z;refine IS (p:=[]) MU ?_ n;rw[h3];rfl
   ·exact⟨_,hw,p,a,t,h2,z,MU,h3⟩
include h1 in
theorem pR(ne:ws≠[]){t y p q:A7}(ht:∀i∈t,i<ws.length)(e:bq ws t=p++y++q):ui ws y:=by
 cases y with
 |nil=>
  obtain⟨w,r,ew⟩:=ET ne;have hw:w∈ws:=by rw[ew];exact AZ
  exact⟨w,λz=>by have:=h1 w hw;rw[z] at this;exact absurd this (by decide),w,hw,[],rfl⟩
 |cons c y=>
  rw[Bz] at e;obtain⟨w,hw,a,s,t',e1,n,MU,e2⟩:=IS ht e (by simp);have:=adv h1 (x:=[]) (r:=s) ⟨n,w,hw,a,e1⟩ MU e2;rw[BJ] at this;exact this
theorem Ki:∀{x z:A7},RG ws x z->(∃w∈ws,∃a,w=a++x.reverse++z)\/∃w∈ws,∃a s t p,w=a++s/\(∀i∈t,i<ws.length)/\x.reverse=s++bq ws t++p/\(p++z∈ws\/(p=[]/\z=[]))
 |[],z,⟨_,w,hw,u,e⟩=>.inl ⟨w,hw,u,by rw[e];simp⟩
 |c::x,z,.inl h=>by
  rcases Ki h with ⟨w,hw,a,e⟩|⟨w,hw,a,s,t,p,e1,ht,e2,e3⟩
  ·exact .inl ⟨w,hw,a,by rw[e];simp⟩
  ·refine .inr ⟨w,hw,a,s,t,p++[c],e1,ht,by rw[El,e2];simp,.inl ?_⟩;rcases e3 with e3|⟨_,e3⟩
   ·rw[Bz];exact e3
   ·cases e3
 |c::x,z,.inr ⟨h,hz⟩=>by
  rcases Ki h with ⟨w,hw,a,e⟩|⟨w,hw,a,s,t,p,e1,ht,e2,e3⟩
  ·exact .inr ⟨w,hw,a,x.reverse,[],[c],by rw[e,BJ],(λi hi=>by cases hi),by rw[El];simp[bq],.inl hz⟩
  ·rcases e3 with e3|⟨rfl,_⟩
   ·rw[BJ] at e3;obtain⟨i,hi,ei⟩:=jM e3;refine .inr ⟨w,hw,a,s,t++[i],[c],e1,λj hj=>?_,?_,.inl hz⟩
    ·rcases Ba.mp hj with hj|hj
     ·exact ht j hj
     ·rw[AY.mp hj];exact hi
    ·rw[El,e2];unfold bq;rw[Bi,List.flatten_append];simp only[Bm,Cj,EA,List.flatten_nil,BJ,ei,Bz]
   ·exact .inr ⟨w,hw,a,s,t,[c],e1,ht,by rw[El,e2];simp,.inl hz⟩
theorem oe{y:A7}(h:ui ws y):Dec ws y:=by
 obtain⟨z,hz⟩:=h;rcases Ki hz with ⟨w,hw,a,e⟩|⟨w,hw,a,s,t,p,e1,ht,e2,e3⟩
 ·exact .inl ⟨w,hw,a,z,by rw[e,EI]⟩
 ·rw[EI] at e2;rcases e3 with e3|⟨rfl,_⟩
  ·exact .inr ⟨w,hw,_,e3,a,s,t,p,z,e1,rfl,ht,e2⟩
  ·exact .inr ⟨w,hw,w,hw,a,s,t,[],w,e1,rfl,ht,e2⟩
end
def m8 (x y:A7):Prop:=x.length<y.length\/(x.length=y.length/\x<y)
theorem m8.trans{x y z:A7}(a:m8 x y)(b:m8 y z):m8 x z:=by
 rcases a with a|⟨a,a'⟩<;>rcases b with b|⟨b,b'⟩
 ·exact .inl (by lia)
 ·exact .inl (by lia)
 ·exact .inl (by lia)
 ·exact .inr ⟨by lia,List.lt_trans a' b'⟩
theorem m8.Uk{x:A7}(a:m8 x x):False:=by
 rcases a with a|⟨_,a⟩
 ·lia
 ·exact EK x a
theorem m8.or{x y:A7}(h:¬m8 y x):x=y\/m8 x y:=by
 by_cases l:x.length<y.length
 ·exact .inr (.inl l)
 by_cases l2:y.length<x.length
 ·exact absurd (.inl l2) h
 have e:x.length=y.length:=by lia
 by_cases l3:x<y
 ·exact .inr (.inr ⟨e,l3⟩)
 ·exact .inl (Ed (DO.mp λz=>h (.inr ⟨e.symm,z⟩)) (DO.mp l3))
theorem iq{c d:Nat}:∀{x y:A7},x.length=y.length->(x++[c]<y++[d]↔x<y\/(x=y/\c<d))
 |[],[],_=>by simp[Df]
 |[],_::_,h=>by cases h
 |_::_,[],h=>by cases h
 |a::x,b::y,h=>by
  have ih:=iq (c:=c) (d:=d) (x:=x) (y:=y) (Nat.succ.inj h);rw[List.cons_append,List.cons_append,Df,Df,ih,List.cons.injEq];constructor
  ·rintro (h|⟨h,h2|⟨h2,h3⟩⟩)
   ·exact .inl (.inl h)
   ·exact .inl (.inr ⟨h,h2⟩)
   ·exact .inr ⟨⟨h,h2⟩,h3⟩
  ·rintro ((h|⟨h,h2⟩)|⟨⟨h,h2⟩,h3⟩)
   ·exact .inl h
   ·exact .inr ⟨h,.inl h2⟩
   ·exact .inr ⟨h,.inr ⟨h2,h3⟩⟩
theorem HW{c d:Nat}{x y:A7}:m8 (x++[c]) (y++[d])↔m8 x y\/(x=y/\c<d):=by
 unfold m8;rw[AV,AV];show x.length+1<y.length+1\/(x.length+1=y.length+1/\_)↔_;constructor
 ·rintro (h|⟨h,h2⟩)
  ·exact .inl (.inl (by lia))
  ·rcases (iq (by lia)).mp h2 with h3|⟨h3,h4⟩
   ·exact .inl (.inr ⟨by lia,h3⟩)
   ·exact .inr ⟨h3,h4⟩
 ·rintro ((h|⟨h,h2⟩)|⟨rfl,h⟩)
  ·exact .inl (by lia)
  ·exact .inr ⟨by lia,(iq h).mpr (.inl h2)⟩
  ·exact .inr ⟨rfl,(iq rfl).mpr (.inr ⟨rfl,h⟩)⟩
def ox (c:Nat):Prop:=c=108\/c=114
abbrev Sn:=List (A2×A7)
def Ky (R:A7->A7->Prop)(k:A2)(y:A7):Prop:=IsR R k y.reverse
def Dn (i:Nat)(b:Bool)(j c:Nat):Prop:=j<i\/(j=i/\b=true/\c=108)
structure B7(R:A7->A7->Prop)(C:A2->Prop)(seen:Sn)(i:Nat)(b:Bool):Prop where
 zero:∃k r,seen=(k,[])::r
 ok:∀e∈seen,C e.1/\Ky R e.1 e.2/\∀c∈e.2,ox c
 up:seen.Pairwise λa b=>m8 a.2 b.2
 nd:(seen.map (·.1)).Nodup
 first:∀e∈seen,∀y,(∀c∈y,ox c)->Ky R e.1 y->¬m8 y e.2
 on:∀j e c,seen[j]?=some e->ox c->Dn i b j c->∃e'∈seen,Ky R e'.1 (e.2++[c])
 ZA:∀e∈seen,e.2=[]\/∃j e0 c,seen[j]?=some e0/\ox c/\Dn i b j c/\e.2=e0.2++[c]
section
variable {R:A7->A7->Prop}{C:A2->Prop}{seen:Sn}{i:Nat}{b:Bool}
def Pz (R:A7->A7->Prop):Prop:=∀x y c,(∀z,R x z↔R y z)->∀z,R (c::x) z->R (c::y) z
theorem Ky.on(hd:Pz R){k k':A2}{x y:A7}{c:Nat}(h1:Ky R k x)(h2:Ky R k y)(h:Ky R k' (x++[c])):Ky R k' (y++[c]):=by
 unfold Ky IsR at *;rw[De] at h ⊢;intro z;exact(h z).trans ⟨hd _ _ c (λz=>(h1 z).symm.trans (h2 z)) z,hd _ _ c (λz=>(h2 z).symm.trans (h1 z)) z⟩
theorem B7.start{k:A2}(hC:C k)(hk:Ky R k []):B7 R C [(k,[])] 0 false:=by
 refine⟨⟨k,[],rfl⟩,λe he=>?_,EC _ _,by simp,λe he y _ _ z=>?_,λj e c _ _ d=>?_,λe he=>?_⟩
 ·rw[AY.mp he];exact⟨hC,hk,λc hc=>by cases hc⟩
 ·rw[AY.mp he] at z;rcases z with z|⟨z,z2⟩
  ·cases z
  ·rw[BM.mp z] at z2;exact EK _ z2
 ·rcases d with d|⟨_,d,_⟩
  ·cases d
  ·cases d
 ·rw[AY.mp he];exact .inl rfl
theorem vI(h:B7 R C seen i b){j k:Nat}{e f:A2×A7}(hj:seen[j]?=some e)(hk:seen[k]?=some f)(l:j<k):m8 e.2 f.2:=by
 obtain⟨h1,rfl⟩:=Be.mp hj;obtain⟨h2,rfl⟩:=Be.mp hk;exact CN.mp h.up j k h1 h2 l
def nl (b:Bool):Nat:=if b then 114 else 108
theorem B7.claim(hd:Pz R)(h:B7 R C seen i b){e:A2×A7}(he:seen[i]?=some e):∀(n:Nat)(y:A7),y.length<=n->(∀c∈y,ox c)->m8 y (e.2++[nl b])->∃e'∈seen,Ky R e'.1 y:=λn=>by
 induction n with
 |zero=>
  intro y l _ _;rw[BM.mp (Nat.le_zero.mp l)];obtain⟨k,r,rfl⟩:=h.zero;exact⟨_,AZ,(h.ok _ AZ).2.1⟩
 |succ n ih=>
  intro y l hy hb;rcases List.eq_nil_or_concat y with rfl|⟨y',d,rfl⟩
  ·obtain⟨k,r,rfl⟩:=h.zero;exact⟨_,AZ,(h.ok _ AZ).2.1⟩
  rw[List.concat_eq_append] at l hy hb ⊢;rw[AV] at l;have Ul:∀c∈y',ox c:=λc hc=>hy c (Bu _ hc);have OD:ox d:=hy d (Bc _ (AY.mpr rfl));have l1:y'.length+1<=n+1:=l
  obtain⟨f,hf,kf⟩:=ih y' (by lia) Ul (.inl (by
   have e1:(y'++[d]).length=y'.length+1:=AV;rcases hb with hb|⟨hb,_⟩
   ·lia
   ·lia))
  obtain⟨j,hj⟩:=Em hf;have fi:=m8.or (h.first f hf y' Ul kf);have fd:∃e'∈seen,Ky R e'.1 (f.2++[d]):=by
   by_cases c1:j<i
   ·exact h.on j f d hj OD (.inl c1)
   by_cases c2:j=i
   ·subst c2;rw[he] at hj;cases hj;have:d<nl b:=by
     rcases HW.mp hb with h2|⟨_,h2⟩
     ·rcases fi with z|z
      ·rw[z] at h2;exact absurd h2 m8.Uk
      ·exact absurd (z.trans h2) m8.Uk
     ·exact h2
    unfold nl at this;cases b with
    |false=>
     have this:d<108:=this;rcases OD with rfl|rfl<;>lia
    |true=>
     have this:d<114:=this;have d1:d=108:=by rcases OD with rfl|rfl<;>lia
     exact h.on j e d he OD (.inr ⟨rfl,rfl,d1⟩)
   ·have lt:=vI h he hj (by lia);have y1:m8 e.2 y':=by
     rcases fi with z|z
     ·rw[<- z];exact lt
     ·exact lt.trans z
    rcases HW.mp hb with h2|⟨h2,_⟩
    ·exact absurd (h2.trans y1) m8.Uk
    ·rw[h2] at y1;exact absurd y1 m8.Uk
  obtain⟨e',E9,RF⟩:=fd;exact⟨e',E9,((h.ok f hf).2.1).on hd kf RF⟩
def nxt (i:Nat)(b:Bool):Nat×Bool:=if b then (i+1,false) else (i,true)
theorem iD{j c:Nat}(hc:ox c):Dn (nxt i b).1 (nxt i b).2 j c↔Dn i b j c\/(j=i/\c=nl b):=by
 unfold Dn nxt nl;cases b with
 |false=>
  show j<i\/(j=i/\true=true/\c=108)↔(j<i\/(j=i/\false=true/\c=108))\/(j=i/\c=108);constructor
  ·rintro (h|⟨h,_,h2⟩)
   ·exact .inl (.inl h)
   ·exact .inr ⟨h,h2⟩
  ·rintro ((h|⟨_,h,_⟩)|⟨h,h2⟩)
   ·exact .inl h
   ·cases h
   ·exact .inr ⟨h,rfl,h2⟩
 |true=>
  show j<i+1\/(j=i+1/\false=true/\c=108)↔(j<i\/(j=i/\true=true/\c=108))\/(j=i/\c=114);constructor
  ·rintro (h|⟨_,h,_⟩)
   ·by_cases e:j=i
    ·rcases hc with rfl|rfl
     ·exact .inl (.inr ⟨e,rfl,rfl⟩)
     ·exact .inr ⟨e,rfl⟩
    ·exact .inl (.inl (by lia))
   ·cases h
  ·rintro ((h|⟨h,_,_⟩)|⟨h,_⟩)
   ·exact .inl (by lia)
   ·exact .inl (by lia)
   ·exact .inl (by lia)
theorem B7.old(h:B7 R C seen i b){e e':A2×A7}(he:seen[i]?=some e)(E9:e'∈seen)(hk:Ky R e'.1 (e.2++[nl b])):B7 R C seen (nxt i b).1 (nxt i b).2:=by
 refine⟨h.zero,h.ok,h.up,h.nd,h.first,λj f c hj hc d=>?_,λf hf=>(h.ZA f hf).imp id λXg=>by obtain⟨j,e0,c,h1,h2,h3,h4⟩:=Xg;exact⟨j,e0,c,h1,h2,(iD h2).mpr (.inl h3),h4⟩⟩;rcases (iD hc).mp d with d|⟨rfl,rfl⟩
 ·exact h.on j f c hj hc d
 ·rw[he] at hj;cases hj;exact⟨e',E9,hk⟩
theorem kR(b:Bool):ox (nl b):=by cases b;exact .inl rfl;exact .inr rfl
theorem B7.new(hd:Pz R)(hC:T5 C)(h:B7 R C seen i b){e:A2×A7}{k:A2}(he:seen[i]?=some e)(ck:C k)(hk:Ky R k (e.2++[nl b]))(no:k∉seen.map (·.1)):B7 R C (seen++[(k,e.2++[nl b])]) (nxt i b).1 (nxt i b).2:=by
 have em:=Bp he;have ly:∀c∈e.2++[nl b],ox c:=λc hc=>(Ba.mp hc).elim ((h.ok e em).2.2 c) λhc=>by rw[AY.mp hc];exact kR b
 have li:=(Be.mp he).1;have old:∀{j:Nat}{f},seen[j]?=some f->(seen++[(k,e.2++[nl b])])[j]?=some f:=λ{j f} hj=>by rw[CG (Be.mp hj).1];exact hj
 have tw:∀f∈seen,∀y,Ky R f.1 y->Ky R k y->False:=λf hf y h1 h2=>no (AW.mpr ⟨f,hf,hC f.1 k (h.ok f hf).1 ck λz=>(h1 z).trans (h2 z).symm⟩);refine⟨?_,λf hf=>?_,?_,?_,λf hf y hy ky bf=>?_,λj f c hj hc d=>?_,λf hf=>?_⟩
 ·obtain⟨k0,r,e0⟩:=h.zero;exact⟨k0,r++[(k,e.2++[nl b])],by rw[e0];rfl⟩
 ·rcases Ba.mp hf with hf|hf
  ·exact h.ok f hf
  ·rw[AY.mp hf];exact⟨ck,hk,ly⟩
 ·rw[BO];refine⟨h.up,EC _ _,λf hf g hg=>?_⟩;rw[AY.mp hg];show m8 f.2 (e.2++[nl b]);rcases h.ZA f hf with z|⟨j,e0,c,h1,h2,h3,h4⟩
  ·rw[z];exact .inl (by rw[AV];exact Nat.succ_pos _)
  ·rw[h4,HW];rcases h3 with h3|⟨rfl,h3,h5⟩
   ·exact .inl (vI h h1 he h3)
   ·rw[he] at h1;cases h1;rw[h3,h5];exact .inr ⟨rfl,by decide⟩
 ·rw[Bi,CO];exact⟨h.nd,(by simp),λa ha c hc z=>no (by rw[AY.mp hc] at z;rw[show a=k from z] at ha;exact ha)⟩
 ·rcases Ba.mp hf with hf|hf
  ·exact h.first f hf y hy ky bf
  ·rw[AY.mp hf] at ky bf;obtain⟨g,hg,kg⟩:=h.claim hd he y.length y (AS _) hy bf;exact tw g hg y kg ky
 ·have inj:Dn i b j c->seen[j]?=some f:=λd=>by
   have lj:j<seen.length:=by
    rcases d with d|⟨d,_⟩
    ·lia
    ·lia
   rw[CG lj] at hj;exact hj
  rcases (iD hc).mp d with d|⟨rfl,rfl⟩
  ·obtain⟨e',E9,RF⟩:=h.on j f c (inj d) hc d;exact⟨e',Bu _ E9,RF⟩
  ·rw[old he] at hj;cases hj;exact⟨_,Bc _ (AY.mpr rfl),hk⟩
 ·rcases Ba.mp hf with hf|hf
  ·refine(h.ZA f hf).imp id λXf=>?_;obtain⟨j,e0,c,h1,h2,h3,h4⟩:=Xf;exact⟨j,e0,c,old h1,h2,(iD h2).mpr (.inl h3),h4⟩
  ·rw[AY.mp hf];exact .inr ⟨i,e,nl b,old he,kR b,(iD (kR b)).mpr (.inr ⟨rfl,rfl⟩),rfl⟩
theorem B7.all(hd:Pz R)(h:B7 R C seen i b)(hi:seen.length<=i):∀(n:Nat)(y:A7),y.length<=n->(∀c∈y,ox c)->∃e∈seen,Ky R e.1 y:=λn=>by
 induction n with
 |zero=>
  intro y l _;rw[BM.mp (Nat.le_zero.mp l)];obtain⟨k,r,rfl⟩:=h.zero;exact⟨_,AZ,(h.ok _ AZ).2.1⟩
 |succ n ih=>
  intro y l hy;rcases List.eq_nil_or_concat y with rfl|⟨y',d,rfl⟩
  ·obtain⟨k,r,rfl⟩:=h.zero;exact⟨_,AZ,(h.ok _ AZ).2.1⟩
  rw[List.concat_eq_append] at l hy ⊢;rw[AV] at l;have l1:y'.length+1<=n+1:=l;obtain⟨f,hf,kf⟩:=ih y' (by lia) λc hc=>hy c (Bu _ hc);obtain⟨j,hj⟩:=Em hf;have lj:=(Be.mp hj).1;obtain⟨e',E9,RF⟩:=h.on j f d hj (hy d (Bc _ (AY.mpr rfl))) (.inl (by lia));exact⟨e',E9,((h.ok f hf).2.1).on hd kf RF⟩
end
theorem tq(ws:A2):Pz (RG ws):=λx y c h z hz=>hz.imp (h _).mp λq=>⟨(h _).mp q.1,q.2⟩
theorem pG(ws:A2):Pz (PL ws):=λx y c h z hz=>hz.imp (λXe=>by obtain⟨j,p,e,l,q,g⟩:=Xe;exact⟨j,p,e,l,(h _).mp q,g⟩) λ⟨j,e,l,i,p,el,q,g⟩=>⟨j,e,l,i,p,el,(h _).mp q,g⟩
def OG (P:A7->Prop)(x:A7):Prop:=(∀c∈x,ox c)/\P x/\∀y,(∀c∈y,ox c)->P y->¬m8 y x
theorem OG.same{P:A7->Prop}{x y:A7}(a:OG P x)(b:OG P y):x=y:=by
 rcases m8.or (b.2.2 x a.1 a.2.1) with h|h
 ·exact h.symm
 ·exact absurd h (a.2.2 y b.1 b.2.1)
def No (R:A7->A7->Prop)(x:A7):Prop:=∀z,¬R x.reverse z
theorem JR{R:A7->A7->Prop}{x:A7}:Ky R [] x↔No R x:=⟨λh z hz=>BE ((h z).mpr hz),λh z=>⟨λq=>absurd q BE,λq=>absurd q (h z)⟩⟩
theorem wY{R:A7->A7->Prop}{k:A2}{x:A7}(h:Ky R k x)(n:No R x):k=[]:=Fe.mpr λz hz=>n z ((h z).mp hz)
section
variable {R:A7->A7->Prop}{C:A2->Prop}{seen:Sn}{i:Nat}{b:Bool}
theorem B7.got(h:B7 R C seen i b){x:A7}(hx:([],x)∈seen):OG (No R) x:=
 ⟨(h.ok _ hx).2.2,JR.mp (h.ok _ hx).2.1,λy hy n=>h.first _ hx y hy (JR.mpr n)⟩
theorem B7.none(hd:Pz R)(h:B7 R C seen i b)(hi:seen.length<=i)(no:[]∉seen.map (·.1)){y:A7}(hy:∀c∈y,ox c):¬No R y:=λn=>by
 obtain⟨e,he,k⟩:=h.all hd hi y.length y (AS _) hy;exact no (AW.mpr ⟨e,he,wY k n⟩)
theorem B7.hit(hd:Pz R)(h:B7 R C seen i b)(no:[]∉seen.map (·.1)){e:A2×A7}(he:seen[i]?=some e)(hk:Ky R [] (e.2++[nl b])):OG (No R) (e.2++[nl b]):=
 ⟨λc hc=>(Ba.mp hc).elim ((h.ok e (Bp he)).2.2 c) λhc=>by rw[AY.mp hc]; exact kR b,JR.mp hk,λy hy n bf=>by
  obtain⟨e',E9,k⟩:=h.claim hd he y.length y (AS _) hy bf
  exact no (AW.mpr ⟨e',E9,wY k n⟩)⟩
end
theorem xj{ws:A2}(h1:∀w∈ws,1<=w.length)(ne:ws≠[]){y:A7}:No (PL ws) y↔No (RG ws) y:=
 ⟨λh z hz=>(not_exists.mpr h) ((lG h1 ne).mpr ⟨z,hz⟩),λh z hz=>(not_exists.mpr h) ((lG h1 ne).mp ⟨z,hz⟩)⟩
def Ua (ws:A2)(c:Nat)(P:A7->Prop):A7->Prop:=λz=>P (c::z)\/(P []/\c::z∈ws)
def m5 (ws:A2)(x:Nat)(P:A7->Prop):Nat->(A7->Prop)
 |0=>P
 |j+1=>Ua ws x (m5 ws x P j)
def rep (j x:Nat):A7:=List.replicate j x
theorem ik(j x:Nat)(z:A7):rep j x++x::z=rep (j+1) x++z:=by
 unfold rep;rw[List.replicate_succ',Bz];rfl
theorem ir(ws:A2)(x:Nat)(P:A7->Prop):∀(j:Nat)(z:A7),m5 ws x P j z↔P (rep j x++z)\/∃i,1<=i/\i<=j/\rep i x++z∈ws/\m5 ws x P (j-i) []
 |0,z=>⟨λh=>.inl h,λh=>h.elim id λXd=>by obtain⟨i,h1,h2,_⟩:=Xd;exact absurd h2 (by lia)⟩
 |j+1,z=>by
  show m5 ws x P j (x::z)\/(m5 ws x P j []/\x::z∈ws)↔_;rw[ir ws x P j (x::z),ik];constructor
  ·rintro ((h|⟨i,h1,h2,h3,h4⟩)|⟨h1,h2⟩)
   ·exact .inl h
   ·rw[ik] at h3;exact .inr ⟨i+1,by lia,by lia,h3,by rw[Nat.add_sub_add_right];exact h4⟩
   ·exact .inr ⟨1,by lia,by lia,h2,by rw[EU];exact h1⟩
  ·rintro (h|⟨i,h1,h2,h3,h4⟩)
   ·exact .inl (.inl h)
   ·by_cases c:i=1
    ·subst c;exact .inr ⟨by rw[EU] at h4;exact h4,h3⟩
    ·obtain⟨k,rfl⟩:∃k,i=k+1:=⟨i-1,by lia⟩
     rw[<- ik] at h3;rw[Nat.add_sub_add_right] at h4;exact .inl (.inr ⟨k,by lia,by lia,h3,h4⟩)
open Classical in
noncomputable def K8(a:Nat)(B:Nat->Prop)(j:Nat):Nat:=(List.range a).countP λi=>decide (B (j-(i+1)))
theorem fQ{p q:Nat->Bool}:∀{l:A7},(∀i∈l,p i=true->q i=true)->l.countP p=l.countP q->∀i∈l,q i=true->p i=true
 |[],_,_,i,h,_=>by cases h
 |k::l,h1,h2,i,hi,hq=>by
  have hm:=List.countP_mono_left (l:=l) (p:=p) (q:=q) λi hi hp=>h1 i (Bg _ hi) hp;rw[List.countP_cons,List.countP_cons] at h2;have hk:=h1 k (AZ ..);have e1:l.countP p=l.countP q/\(q k=true->p k=true):=by
   cases hpk:p k<;>cases hqk:q k<;>simp[hpk,hqk] at h2 hk ⊢<;>lia
  rcases Bb.mp hi with rfl|hi
  ·exact e1.2 hq
  ·exact fQ (λi hi=>h1 i (Bg _ hi)) e1.1 i hi hq
theorem xZ{ws:A2}{x a:Nat}{P:A7->Prop}(hP:∀j z,P (rep j x++z)->j<=a)(hw:∀i z,rep i x++z∈ws->i<=a)(k8:[]∉ws) :
  ∃f:Nat->Nat,(∀j,f j<(a+1)*(a+1)+(2*a+2))/\∀j j',f j=f j'->∀z,m5 ws x P j z↔m5 ws x P j' z:=by
 have big:∀j z,a<j->(m5 ws x P j z↔∃i,i<a/\rep (i+1) x++z∈ws/\m5 ws x P (j-(i+1)) []):=λj z hj=>by
  rw[ir];constructor
  ·rintro (h|⟨i,h1,h2,h3,h4⟩)
   ·exact absurd (hP j z h) (by lia)
   ·have:=hw i z h3;obtain⟨k,rfl⟩:∃k,i=k+1:=⟨i-1,by lia⟩
    exact⟨k,by lia,h3,h4⟩
  ·rintro⟨i,h1,h2,h3⟩;exact .inr ⟨i+1,by lia,by lia,h2,h3⟩
 by_cases hp:∃n,1<=n/\rep n x∈ws
 ·obtain⟨n,n1,hn⟩:=hp;have na:n<=a:=hw n [] (by rw[BJ];exact hn);have up:∀t,m5 ws x P t []->m5 ws x P (t+n) []:=λt ht=>by
   rw[ir];exact .inr ⟨n,n1,by lia,by rw[BJ];exact hn,by rw[EU];exact ht⟩
  have ups:∀k t,m5 ws x P t []->m5 ws x P (t+k*n) []:=λk=>by
   induction k with
   |zero=>intro t ht;rw[Nat.zero_mul];exact ht
   |succ k ih=>
    intro t ht;have:=up _ (ih t ht);rw[Cd,<- Do];exact this
  have UP:∀j,K8 a (λt=>m5 ws x P t []) j<=a:=λj=>by
   unfold K8;exact Bh List.countP_le_length (by rw[BX];exact AS _)
  refine⟨λj=>if j<=a then j else (a+1)+((j % n)*(a+1)+K8 a (λt=>m5 ws x P t []) j),λj=>?_,?_⟩
  ·show(if j<=a then j else _)<_;split
   ·have:a+1<=(a+1)*(a+1):=Nat.le_mul_of_pos_left _ (Nat.succ_pos _);lia
   ·have h1:=Nat.mod_lt j (show n>0 by lia);have h2:=UP j;have h3:(j % n)*(a+1)<=(n-1)*(a+1):=CA _ (by lia);have h4:(n-1)*(a+1)+(a+1)=n*(a+1):=by rw[<- Cd];congr 1;lia
    have h5:n*(a+1)<=a*(a+1):=CA _ na;have h6:(a+1)*(a+1)=a*(a+1)+(a+1):=Cd _ _;lia
  ·have main:∀j j',a<j->j<=j'->j % n=j' % n->K8 a (λt=>m5 ws x P t []) j=K8 a (λt=>m5 ws x P t []) j'->∀z,m5 ws x P j z↔m5 ws x P j' z:=λj j' hj hjj hm hwn z=>by
    obtain⟨k,hk⟩:∃k,j'=j+k*n:=by
     refine⟨(j'-j)/n,?_⟩;have h0:(j'-j) % n=0:=Nat.sub_mod_eq_zero_of_mod_eq hm.symm;have:=Nat.div_add_mod (j'-j) n;rw[h0,BR,BL] at this;lia
    have sub:∀i,i<a->m5 ws x P (j-(i+1)) []->m5 ws x P (j'-(i+1)) []:=λi hi h=>by
     have:=ups k _ h;rw[show j'-(i+1)=j-(i+1)+k*n by lia];exact this
    have eqw:∀i,i<a->(m5 ws x P (j-(i+1)) []↔m5 ws x P (j'-(i+1)) []):=λi hi=>by
     refine⟨sub i hi,λh=>?_⟩;unfold K8 at hwn
     classical
     have:=fQ (λi hi h=>Fo (sub i (Bt.mp hi) (Fu h))) hwn i (Bt.mpr hi) (Fo h);exact Fu this
    rw[big j z hj,big j' z (by lia)];refine⟨λXc=>?_,λ⟨i,h1,h2,h3⟩=>⟨i,h1,h2,(eqw i h1).mpr h3⟩⟩;obtain⟨i,h1,h2,h3⟩:=Xc;exact⟨i,h1,h2,(eqw i h1).mp h3⟩
   intro j j' h;have h':(if j<=a then j else (a+1)+((j % n)*(a+1)+K8 a (λt=>m5 ws x P t []) j))=(if j'<=a then j' else (a+1)+((j' % n)*(a+1)+K8 a (λt=>m5 ws x P t []) j')):=h;by_cases c:j<=a
   ·by_cases c':j'<=a
    ·rw[Fn c,Fn c'] at h';subst h';exact λ_=>Iff.rfl
    ·rw[Fn c,Fm c'] at h';lia
   ·by_cases c':j'<=a
    ·rw[Fm c,Fn c'] at h';lia
    ·rw[Fm c,Fm c'] at h';have e:=Nat.add_left_cancel h';have w1:=UP j;have w2:=UP j';have em:j % n=j' % n:=by
      have:((j % n)*(a+1)+K8 a (λt=>m5 ws x P t []) j)/(a+1)=((j' % n)*(a+1)+K8 a (λt=>m5 ws x P t []) j')/(a+1):=congrArg (·/(a+1)) e;rw[BL (j % n),BL (j' % n),Nat.mul_add_div (by lia),Nat.mul_add_div (by lia),Nat.div_eq_of_lt (show K8 a (λt=>m5 ws x P t []) j<a+1 by lia),Nat.div_eq_of_lt (show K8 a (λt=>m5 ws x P t []) j'<a+1 by lia)] at this;lia
     have ew:K8 a (λt=>m5 ws x P t []) j=K8 a (λt=>m5 ws x P t []) j':=by rw[em] at e;lia
     rcases Nat.le_total j j' with hl|hl
     ·exact main j j' (by lia) hl em ew
     ·exact λz=>(main j' j (by lia) hl em.symm ew.symm z).symm
 ·have no:∀j,a<j->¬m5 ws x P j []:=λj hj h=>by
   obtain⟨i,h1,h2,_⟩:=(big j [] hj).mp h;rw[BJ] at h2;exact hp ⟨i+1,by lia,h2⟩
  refine⟨λj=>min j (2*a+1),λj=>by show min j (2*a+1)<_;lia,λj j' h z=>?_⟩;have h':min j (2*a+1)=min j' (2*a+1):=h;by_cases c:j=j'
  ·subst c;exact Iff.rfl
  ·have e:∀k,2*a+1<=k->¬m5 ws x P k z:=λk hk hz=>by
    obtain⟨i,h1,_,h3⟩:=(big k z (by lia)).mp hz;exact no _ (by lia) h3
   exact⟨λz=>absurd z (e j (by lia)),λz=>absurd z (e j' (by lia))⟩
def dB (ws:A2)(A:A7->Prop):A7->(A7->Prop)
 |[]=>A
 |c::t=>Ua ws c (dB ws A t)
theorem cu(ws:A2)(A:A7->Prop)(x:Nat)(u:A7):∀j,dB ws A (rep j x++u)=m5 ws x (dB ws A u) j
 |0=>rfl
 |j+1=>by
  have:rep (j+1) x++u=x::(rep j x++u):=rfl;rw[this];show Ua ws x (dB ws A (rep j x++u))=Ua ws x _;rw[cu ws A x u j]
theorem jf(x y:Nat):∀t:A7,(∀c∈t,c=x\/c=y)->∃j,t=rep j x\/∃u,t=rep j x++y::u
 |[],_=>⟨0,.inl rfl⟩
 |c::t,h=>by
  by_cases e:c=x
  ·subst e;obtain⟨j,hj|⟨u,hu⟩⟩:=jf c y t λd hd=>h d (Bg _ hd)
   ·exact⟨j+1,.inl (by rw[hj];rfl)⟩
   ·exact⟨j+1,.inr ⟨u,by rw[hu];rfl⟩⟩
  ·have:c=y:=(h c (AZ ..)).resolve_left e;exact⟨0,.inr ⟨t,by rw[this];rfl⟩⟩
theorem gN{ws:A2}{A:A7->Prop}(hA:∀z,A z->∃u,u++z∈ws):∀(t z:A7),dB ws A t z->∃u,u++z∈ws
 |[],z,h=>hA z h
 |c::t,z,h=>by
  rcases h with h|⟨_,h⟩
  ·obtain⟨u,hu⟩:=gN hA t _ h;exact⟨u++[c],by rw[Bz];exact hu⟩
  ·exact⟨[c],h⟩
def fT (y:Nat):A7->A2
 |[]=>[]
 |c::w=>if c=y then w::fT y w else fT y w
theorem ip{y:Nat}:∀{u w z:A7},w=u++y::z->z∈fT y w
 |[],_,z,h=>by
  rw[h];show z∈(if y=y then z::fT y z else fT y z);rw[Fn rfl];exact AZ ..
 |c::u,_,z,h=>by
  rw[h];show z∈(if c=y then (u++y::z)::fT y (u++y::z) else fT y (u++y::z));have:=ip (y:=y) (u:=u) (w:=u++y::z) (z:=z) rfl;split
  ·exact Bg _ this
  ·exact this
theorem gO(y:Nat):∀w:A7,(fT y w).length=w.count y
 |[]=>rfl
 |c::w=>by
  show(if c=y then w::fT y w else fT y w).length=_;rw[EV];by_cases e:c=y
  ·rw[Fn e,Fn (FT.mpr e),Bl,gO y w]
  ·rw[Fm e,Fm (λh=>e (FT.mp h)),gO y w];rfl
def de (ws:A2)(x:Nat):Nat:=(ws.map λw=>w.count x).sum
theorem pK{ws:A2}{x:Nat}{w:A7}(h:w∈ws):w.count x<=de ws x:=by
 induction ws with
 |nil=>cases h
 |cons v ws ih=>
  show _<=v.count x+de ws x;rcases Bb.mp h with rfl|h
  ·lia
  ·have:=ih h;lia
theorem qg(ws:A2)(y:Nat):(ws.flatMap (fT y)).length=de ws y:=by
 induction ws with
 |nil=>rfl
 |cons v ws ih=>
  rw[BY,AV,ih,gO];rfl
theorem jr(j x:Nat)(z:A7):j<=(rep j x++z).count x:=by
 rw[List.count_append];unfold rep;rw[List.count_replicate_self];lia
open Classical in
noncomputable def bits(Y:A2)(P:A7->Prop):A7:=Y.map λz=>if P z then 108 else 114
theorem uX(Y:A2)(P:A7->Prop):bits Y P∈tx Y.length:=by
 refine GS.mpr ⟨AU _,λc hc=>?_⟩;obtain⟨z,_,rfl⟩:=AW.mp hc;split
 ·exact .inl rfl
 ·exact .inr rfl
theorem oj{Y:A2}{P Q:A7->Prop}(h:bits Y P=bits Y Q):∀z∈Y,(P z↔Q z):=λz hz=>by
 have h':∀z∈Y,(@ite Nat (P z) (Classical.propDecidable _) 108 114)=(@ite Nat (Q z) (Classical.propDecidable _) 108 114):=List.map_inj_left.mp h;exact⟨λp=>tF (h' z hz) p,λq=>tF (h' z hz).symm q⟩
theorem kX{α β:Type} [DecidableEq β]{f:α->β}{U:List β}:∀{l:List α},l.Nodup->(∀a∈l,∀b∈l,f a=f b->a=b)->(∀a∈l,f a∈U)->l.length<=U.length:=λ{l} nd inj sub=>by
 have n2:(l.map f).Nodup:=by
  rw[List.Nodup,CU];exact nd.imp_of_mem λ{a b} ha hb n e=>n (inj a ha b hb e)
 have:=List.Nodup.length_le_of_subset n2 (l₂:=U) λx hx=>by
  obtain⟨a,ha,rfl⟩:=AW.mp hx;exact sub a ha
 rw[AU] at this;exact this
theorem kI{C:A2->Prop}(hC:T5 C){ws:A2}(k8:[]∉ws){A:A7->Prop}(hA:∀z,A z->∃u,u++z∈ws){x y:Nat}{ks:List (A2)}(nd:ks.Nodup)
  (h:∀k∈ks,C k/\∃t,(∀c∈t,c=x\/c=y)/\∀z,z∈k↔dB ws A t z):ks.length<=(2^de ws y+1)*((de ws x+1)*(de ws x+1)+(2*de ws x+2)):=by
 have orb:∀u:A7,∃f:Nat->Nat,(∀j,f j<(de ws x+1)*(de ws x+1)+(2*de ws x+2))/\∀j j',f j=f j'->∀z,dB ws A (rep j x++u) z↔dB ws A (rep j' x++u) z:=λu=>by
  obtain⟨f,f1,f2⟩:=xZ (ws:=ws) (x:=x) (a:=de ws x) (P:=dB ws A u) (λj z hz=>by
   obtain⟨v,hv⟩:=gN hA u _ hz;have h1:=pK (x:=x) hv;rw[List.count_append] at h1;have:=jr j x z
   lia) (λi z hz=>Bh (jr i x z) (pK hz)) k8
  exact⟨f,f1,λj j' e z=>by rw[cu,cu];exact f2 j j' e z⟩
 have same:∀u v,bits (ws.flatMap (fT y)) (dB ws A (y::u))=bits (ws.flatMap (fT y)) (dB ws A (y::v))->dB ws A (y::u)=dB ws A (y::v):=λu v e=>by
  funext z
  have inY:∀u,dB ws A (y::u) z->z∈ws.flatMap (fT y):=λu hz=>by
   rcases hz with hz|⟨_,hz⟩
   ·obtain⟨w,hw⟩:=gN hA u _ hz;exact BC.mpr ⟨_,hw,ip rfl⟩
   ·exact BC.mpr ⟨_,hz,ip (u:=[]) rfl⟩
  refine propext ⟨λhz=>(oj e z (inY u hz)).mp hz,λhz=>(oj e z (inY v hz)).mpr hz⟩
 have all:∃F:Option (A7)->Nat->Nat,(∀o j,F o j<(de ws x+1)*(de ws x+1)+(2*de ws x+2))/\(∀j j',F none j=F none j'->∀z,dB ws A (rep j x) z↔dB ws A (rep j' x) z) /\
   ∀u j j',F (some (bits (ws.flatMap (fT y)) (dB ws A (y::u)))) j=F (some (bits (ws.flatMap (fT y)) (dB ws A (y::u)))) j'->∀z,dB ws A (rep j x++y::u) z↔dB ws A (rep j' x++y::u) z:=by
  obtain⟨f0,a1,a2⟩:=orb [];have ch:∀b:A7,∃f:Nat->Nat,(∀j,f j<(de ws x+1)*(de ws x+1)+(2*de ws x+2))/\∀u,bits (ws.flatMap (fT y)) (dB ws A (y::u))=b->∀j j',f j=f j'->∀z,dB ws A (rep j x++y::u) z↔dB ws A (rep j' x++y::u) z:=λb=>by
   by_cases e:∃u,bits (ws.flatMap (fT y)) (dB ws A (y::u))=b
   ·obtain⟨v,hv⟩:=e;obtain⟨f,b1,b2⟩:=orb (y::v);refine⟨f,b1,λu hu j j' e z=>?_⟩;have:=same u v (hu.trans hv.symm);have z2:=b2 j j' e z;rw[cu,cu] at z2 ⊢;rw[this];exact z2
   ·exact⟨λ_=>0,λ_=>by show 0<_;lia,λu hu=>absurd ⟨u,hu⟩ e⟩
  refine⟨λo=>match o with|none=>f0|some b=>Classical.choose (ch b),λo=>?_,λj j' e z=>?_,λu j j' e z=>?_⟩
  ·cases o with
   |none=>exact a1
   |some b=>exact(Classical.choose_spec (ch b)).1
  ·have:=a2 j j' e z;rw[BJ,BJ] at this;exact this
  ·exact(Classical.choose_spec (ch _)).2 u rfl j j' e z
 obtain⟨F,F1,F2,F3⟩:=all;have Q5:∀k:A2,∃c:Option (A7)×Nat,k∈ks->(∃j,(∀z,z∈k↔dB ws A (rep j x) z)/\c=(none,F none j))\/∃j u,(∀z,z∈k↔dB ws A (rep j x++y::u) z)/\c=(some (bits (ws.flatMap (fT y)) (dB ws A (y::u))),F (some (bits (ws.flatMap (fT y)) (dB ws A (y::u)))) j):=λk=>by
  by_cases hk:k∈ks
  ·obtain⟨_,t,ht,hz⟩:=h k hk;obtain⟨j,rfl|⟨u,rfl⟩⟩:=jf x y t ht
   ·exact⟨_,λ_=>.inl ⟨j,hz,rfl⟩⟩
   ·exact⟨_,λ_=>.inr ⟨j,u,hz,rfl⟩⟩
  ·exact⟨(none,0),λz=>absurd z hk⟩
 have hlen:((none::(tx (de ws y)).map some).flatMap λo=>(List.range ((de ws x+1)*(de ws x+1)+(2*de ws x+2))).map λm=>(o,m)).length=(2^de ws y+1)*((de ws x+1)*(de ws x+1)+(2*de ws x+2)):=by
  generalize (de ws x+1)*(de ws x+1)+(2*de ws x+2)=N;have fl:∀l:List (Option (A7)),(l.flatMap λo=>(List.range N).map λm=>(o,m)).length=l.length*N:=λl=>by
   induction l with
   |nil=>rw[Ej,Cn,Cn,Nat.zero_mul]
   |cons o l ih=>rw[BY,AV,ih,AU,BX,Bl,Cd,Nat.add_comm]
  rw[fl,Bl,AU,Jz]
 rw[<- hlen];refine kX (f:=λk=>Classical.choose (Q5 k)) nd (λk hk k' D6 e=>?_) λk hk=>?_
 ·have e':Classical.choose (Q5 k)=Classical.choose (Q5 k'):=e;refine hC k k' (h k hk).1 (h k' D6).1 λz=>?_;rcases Classical.choose_spec (Q5 k) hk with ⟨j,hz,hc⟩|⟨j,u,hz,hc⟩<;>rcases Classical.choose_spec (Q5 k') D6 with ⟨j',WT,B9⟩|⟨j',u',WT,B9⟩<;>rw[hc,B9] at e'
  ·injection e' with _ e2;rw[hz,WT,F2 j j' e2]
  ·injection e' with e1 _;cases e1
  ·injection e' with e1 _;cases e1
  ·injection e' with e1 e2;injection e1 with e1;have s:=same u u' e1;rw[<- e1] at e2;have:=F3 u j j' e2 z;rw[hz,WT,this,cu,cu,s]
 ·rcases Classical.choose_spec (Q5 k) hk with ⟨j,hz,hc⟩|⟨j,u,hz,hc⟩<;>rw[hc]
  ·exact BC.mpr ⟨none,AZ ..,AW.mpr ⟨_,Bt.mpr (F1 _ _),rfl⟩⟩
  ·have hb:=uX (ws.flatMap (fT y)) (dB ws A (y::u));rw[qg] at hb;exact BC.mpr ⟨some _,Bg _ (AW.mpr ⟨_,hb,rfl⟩),AW.mpr ⟨_,Bt.mpr (F1 _ _),rfl⟩⟩
theorem KO:∀b,b<=15->(2^b+1)*((30-b+1)*(30-b+1)+(2*(30-b)+2))<=9500000:=λb hb=>by
 have:∀b∈List.range 16,(2^b+1)*((30-b+1)*(30-b+1)+(2*(30-b)+2))<=9500000:=by decide +kernel
 exact this b (Bt.mpr (by lia))
theorem Ja:∀{w:A7},(∀c∈w,c=108\/c=114)->w.count 108+w.count 114=w.length
 |[],_=>rfl
 |c::w,h=>by
  have:=Ja λd hd=>h d (Bg _ hd);rw[EV,EV,Bl];rcases h c (AZ ..) with rfl|rfl
  ·rw[Fn (by decide),Fm (by decide)];lia
  ·rw[Fm (by decide),Fn (by decide)];lia
theorem IZ:∀{ws:A2},(∀w∈ws,∀c∈w,c=108\/c=114)->de ws 108+de ws 114=(ws.map List.length).sum
 |[],_=>rfl
 |w::ws,h=>by
  have h1:=IZ λv hv=>h v (Bg _ hv);have h2:=Ja (h w (AZ ..));show(w.count 108+de ws 108)+(w.count 114+de ws 114)=w.length+(ws.map List.length).sum;lia
theorem vi{C:A2->Prop}(hC:T5 C){ws:A2}(LS:∀w∈ws,∀c∈w,c=108\/c=114)(D7:(ws.map List.length).sum<=30)(k8:[]∉ws){A:A7->Prop}(hA:∀z,A z->∃u,u++z∈ws){ks:List (A2)}(nd:ks.Nodup)
  (h:∀k∈ks,C k/\∃t,(∀c∈t,c=108\/c=114)/\∀z,z∈k↔dB ws A t z):ks.length<=9500000:=by
 have e:=IZ LS;have big:∀a b,a+b<=30->b<=15->(2^b+1)*((a+1)*(a+1)+(2*a+2))<=9500000:=λa b h1 h2=>by
  refine Bh (DQ _ ?_) (KO b h2);have:a<=30-b:=by lia
  have:=En (show a+1<=30-b+1 by lia) (show a+1<=30-b+1 by lia);lia
 by_cases c:de ws 114<=15
 ·exact Bh (kI hC k8 hA (x:=108) (y:=114) nd h) (big _ _ (by lia) c)
 ·refine Bh (kI hC k8 hA (x:=114) (y:=108) nd λk hk=>?_) (big _ _ (by lia) (by lia));obtain⟨h1,t,h2,h3⟩:=h k hk;exact⟨h1,t,λc hc=>(h2 c hc).symm,h3⟩
abbrev Fd:=Nat×A7×A7
structure E5(ws:A2)(x:A7)(f:Fd):Prop where
 a:∀i∈f.2.1,i<ws.length
 b:∀i∈f.2.2,i<ws.length
 ne:∃i j s t,f.2.1=i::s/\f.2.2=j::t/\i≠j
 eq:bq ws f.2.1=bq ws f.2.2++x
 len:f.1=(bq ws f.2.1).length
def J4 (ws:A2)(x:A7):Prop:=∃w∈ws,∃z,w=z++x
abbrev Ent:=List (A7×Fd)
def iC (E:Ent)(x:A7):Option Fd:=(E.find? λe=>decide (e.1=x)).map (·.2)
def kM (E:Ent)(x:A7)(f:Fd):Ent:=if (E.any λe=>decide (e.1=x))=true then E.map (λe=>if e.1=x then (e.1,f) else e) else E++[(x,f)]
def dW (E:Ent)(x:A7):Ent:=E.filter λe=>decide (e.1≠x)
def bC (dn:A2)(E:Ent)(s:A7×Fd):Ent:=if s.1∈dn then E else match iC E s.1 with
 |none=>kM E s.1 s.2
 |some f=>if s.2.1<f.1 then kM E s.1 s.2 else E
theorem kQ{E:Ent}{x:A7}{f:Fd}(h:iC E x=some f):(x,f)∈E:=by
 unfold iC at h;obtain⟨e,h1,h2⟩:=Co.mp h;have h3:=List.find?_some h1;have h4:e.1=x:=Fu h3;have h5:=List.mem_of_find?_eq_some h1;have:e=(x,f):=Prod.ext h4 h2;rw[<- this];exact h5
theorem iV{E:Ent}{x:A7}(h:iC E x=none):∀e∈E,e.1≠x:=by
 unfold iC at h;have h1:=Option.map_eq_none_iff.mp h;intro e he z;have:=List.find?_eq_none.mp h1 e he;exact this (Fo z)
theorem gG{E:Ent}(nd:(E.map (·.1)).Nodup){x:A7}{f:Fd}(h:(x,f)∈E):iC E x=some f:=by
 cases e:iC E x with
 |none=>exact absurd rfl (iV e _ h)
 |some g=>
  have h2:=kQ e
  congr 1
  induction E with
  |nil=>cases h
  |cons p r ih=>
   rw[Bm,BN] at nd;rcases Bb.mp h with h|h<;>rcases Bb.mp h2 with h3|h3
   ·rw[<- h] at h3;exact(Prod.mk.inj h3).2
   ·exact absurd (AW.mpr ⟨_,h3,by rw[<- h]⟩) nd.1
   ·exact absurd (AW.mpr ⟨_,h,by rw[<- h3]⟩) nd.1
   ·refine ih nd.2 h ?_ h3;unfold iC at e ⊢;rw[Cg] at e;split at e
    ·rename_i c;have c':p.1=x:=Fu c;exact absurd (AW.mpr ⟨_,h,by rw[c']⟩) nd.1
    ·exact e
theorem fk{E:Ent}{x:A7}{f:Fd}{e:A7×Fd}(h:e∈kM E x f):e=(x,f)\/(e∈E/\e.1≠x):=by
 unfold kM at h;split at h
 ·obtain⟨d,hd,rfl⟩:=AW.mp h;by_cases c:d.1=x
  ·rw[Fn c,c];exact .inl rfl
  ·rw[Fm c];exact .inr ⟨hd,c⟩
 ·rename_i c;rcases Ba.mp h with h|h
  ·refine .inr ⟨h,λz=>c ?_⟩;rw[Dx];exact⟨e,h,Fo z⟩
  ·exact .inl (AY.mp h)
theorem lL{E:Ent}{x:A7}{f:Fd}:(x,f)∈kM E x f:=by
 unfold kM;split
 ·rename_i c;obtain⟨e,he,hx⟩:=Dx.mp c;have Js:e.1=x:=Fu hx;exact AW.mpr ⟨e,he,by rw[Fn Js,Js]⟩
 ·exact Bc _ (AY.mpr rfl)
theorem qF{E:Ent}{x:A7}{f:Fd}{e:A7×Fd}(h:e∈E)(n:e.1≠x):e∈kM E x f:=by
 unfold kM;split
 ·exact AW.mpr ⟨e,h,by rw[Fm n]⟩
 ·exact Bu _ h
theorem uk{E:Ent}{x:A7}{f:Fd}(nd:(E.map (·.1)).Nodup):((kM E x f).map (·.1)).Nodup:=by
 unfold kM;split
 ·have:(E.map λe=>if e.1=x then (e.1,f) else e).map (·.1)=E.map (·.1):=by
   rw[Bx];refine Cc λe _=>?_;show(if e.1=x then (e.1,f) else e).1=e.1;split<;>rfl
  rw[this];exact nd
 ·rename_i c;rw[Bi,CO];refine⟨nd,by simp,λa ha b hb z=>?_⟩;obtain⟨e,he,rfl⟩:=AW.mp ha;have C7:b=x:=by simpa using hb
  exact c (Dx.mpr ⟨e,he,Fo (z.trans C7)⟩)
theorem GP{E:Ent}{x:A7}{e:A7×Fd}:e∈dW E x↔e∈E/\e.1≠x:=by
 unfold dW;rw[CP];refine⟨λXb=>?_,λ⟨a,b⟩=>⟨a,Fo b⟩⟩;obtain⟨a,b⟩:=Xb;exact⟨a,Fu b⟩
theorem qH{E:Ent}{x:A7}(nd:(E.map (·.1)).Nodup):((dW E x).map (·.1)).Nodup:=nd.sublist (List.filter_sublist.map _)
def t8 (dn:List (A7×Nat))(E:Ent)(y:A7)(m:Nat):Prop:=(∃p∈dn,p.1=y/\p.2<=m)\/∃e∈E,e.1=y/\e.2.1<=m
structure Wt(ws:A2)(dn:List (A7×Nat))(E:Ent):Prop where
 Ox:∀e∈E,E5 ws e.1 e.2/\J4 ws e.1
 OL:(E.map (·.1)).Nodup
 UH:∀e∈E,∀p∈dn,e.1≠p.1
 low:∀p∈dn,∀e∈E,p.2<=e.2.1
theorem bP(dn:A2)(E:Ent)(s:A7×Fd):(s.1∈dn/\bC dn E s=E)\/(s.1∉dn/\(∃f,iC E s.1=some f/\f.1<=s.2.1)/\bC dn E s=E)\/(s.1∉dn/\(∀f,iC E s.1=some f->s.2.1<f.1)/\bC dn E s=kM E s.1 s.2):=by
 unfold bC;by_cases h:s.1∈dn
 ·rw[Fn h];exact .inl ⟨h,rfl⟩
 ·rw[Fm h];cases e:iC E s.1 with
  |none=>exact .inr (.inr ⟨h,(λf z=>(by cases z)),rfl⟩)
  |some f=>
   by_cases c:s.2.1<f.1
   ·simp only[Fn c];exact .inr (.inr ⟨h,(λg z=>(by cases z;exact c)),trivial⟩)
   ·simp only[Fm c];exact .inr (.inl ⟨h,⟨f,rfl,by lia⟩,trivial⟩)
theorem Wt.keep{ws:A2}{dn:List (A7×Nat)}{E:Ent}{s:A7×Fd}(h:Wt ws dn E)(ht:E5 ws s.1 s.2)(hs:J4 ws s.1)(hl:∀p∈dn,p.2<=s.2.1):Wt ws dn (bC (dn.map (·.1)) E s):=by
 rcases bP (dn.map (·.1)) E s with ⟨_,e⟩|⟨_,_,e⟩|⟨n,_,e⟩
 ·rw[e];exact h
 ·rw[e];exact h
 ·rw[e];refine⟨λe he=>?_,uk h.OL,λe he p hp=>?_,λp hp e he=>?_⟩
  ·rcases fk he with rfl|⟨he,_⟩
   ·exact⟨ht,hs⟩
   ·exact h.Ox e he
  ·rcases fk he with rfl|⟨he,_⟩
   ·exact λz=>n (AW.mpr ⟨p,hp,z.symm⟩)
   ·exact h.UH e he p hp
  ·rcases fk he with rfl|⟨he,_⟩
   ·exact hl p hp
   ·exact h.low p hp e he
theorem pA{dn:List (A7×Nat)}{E:Ent}{s:A7×Fd}{y:A7}{m:Nat}(nd:(E.map (·.1)).Nodup)(h:t8 dn E y m):t8 dn (bC (dn.map (·.1)) E s) y m:=by
 rcases bP (dn.map (·.1)) E s with ⟨_,e⟩|⟨_,_,e⟩|⟨n,lt,e⟩
 ·rw[e];exact h
 ·rw[e];exact h
 ·rw[e];rcases h with h|⟨d,hd,rfl,hm⟩
  ·exact .inl h
  ·by_cases c:d.1=s.1
   ·refine .inr ⟨(s.1,s.2),lL,c.symm,?_⟩;have:=lt d.2 (gG nd (by rw[<- c];exact hd));show s.2.1<=m;lia
   ·exact .inr ⟨d,qF hd c,rfl,hm⟩
theorem lR{dn:List (A7×Nat)}{E:Ent}{s:A7×Fd}(hl:∀p∈dn,p.2<=s.2.1):t8 dn (bC (dn.map (·.1)) E s) s.1 s.2.1:=by
 rcases bP (dn.map (·.1)) E s with ⟨h,e⟩|⟨_,⟨f,hf,le⟩,e⟩|⟨n,lt,e⟩
 ·rw[e];obtain⟨p,hp,z⟩:=AW.mp h;exact .inl ⟨p,hp,z,hl p hp⟩
 ·rw[e];exact .inr ⟨_,kQ hf,rfl,le⟩
 ·rw[e];exact .inr ⟨_,lL,rfl,AS _⟩
theorem jT{ws:A2}{dn:List (A7×Nat)}:∀(ss:List (A7×Fd)){E:Ent},Wt ws dn E->(∀s∈ss,E5 ws s.1 s.2/\J4 ws s.1/\∀p∈dn,p.2<=s.2.1) ->
  Wt ws dn (ss.foldl (bC (dn.map (·.1))) E)/\(∀y m,t8 dn E y m->t8 dn (ss.foldl (bC (dn.map (·.1))) E) y m)/\∀s∈ss,t8 dn (ss.foldl (bC (dn.map (·.1))) E) s.1 s.2.1
 |[],E,h,_=>⟨h,λ_ _ z=>z,λs hs=>absurd hs (by simp)⟩
 |s::r,E,h,hs=>by
  obtain⟨h1,h2,h3⟩:=hs s AZ;obtain⟨g1,g2,g3⟩:=jT r (h.keep h1 h2 h3) λt ht=>hs t (Bg _ ht);rw[Dj];refine⟨g1,λy m z=>g2 y m (pA h.OL z),λt ht=>?_⟩;rcases Bb.mp ht with rfl|ht
  ·exact g2 _ _ (lR h3)
  ·exact g3 t ht
structure K7(ws:A2)(dn:List (A7×Nat))(E:Ent):Prop where
 wt:Wt ws dn E
 ndD:(dn.map (·.1)).Nodup
 nil:∀p∈dn,p.1≠[]/\J4 ws p.1
 first:∀i j x,i<ws.length->j<ws.length->i≠j->ws.getD i []=ws.getD j []++x->t8 dn E x (ws.getD i []).length
 within:∀p∈dn,∀k y,k<ws.length->p.1=ws.getD k []++y->t8 dn E y p.2
 beyond:∀p∈dn,∀k y,k<ws.length->ws.getD k []=p.1++y->t8 dn E y (p.2+y.length)
theorem K7.start{ws:A2}{ss:List (A7×Fd)}(h1:∀s∈ss,E5 ws s.1 s.2/\J4 ws s.1)
  (h2:∀i j x,i<ws.length->j<ws.length->i≠j->ws.getD i []=ws.getD j []++x->∃s∈ss,s.1=x/\s.2.1=(ws.getD i []).length):K7 ws [] (ss.foldl (bC []) []):=by
 obtain⟨g1,g2,g3⟩:=jT (ws:=ws) (dn:=[]) ss (E:=[]) ⟨λe h=>absurd h (by simp),by simp,λe h=>absurd h (by simp),λp h=>absurd h (by simp)⟩ λs hs=>⟨(h1 s hs).1,(h1 s hs).2,λp h=>absurd h (by simp)⟩
 refine⟨g1,by simp,λp h=>absurd h (by simp),λi j x hi hj n e=>?_,λp h=>absurd h (by simp),λp h=>absurd h (by simp)⟩;obtain⟨s,hs,rfl,e2⟩:=h2 i j x hi hj n e;rw[<- e2];exact g3 s hs
theorem K7.step{ws:A2}{dn:List (A7×Nat)}{E:Ent}{x:A7}{f:Fd}{ss:List (A7×Fd)}(h:K7 ws dn E)(hx:(x,f)∈E)(z5:∀e∈E,f.1<=e.2.1)(k8:x≠[])
  (h1:∀s∈ss,E5 ws s.1 s.2/\J4 ws s.1/\f.1<=s.2.1)(h2:∀k y,k<ws.length->x=ws.getD k []++y->∃s∈ss,s.1=y/\s.2.1=f.1)(h3:∀k y,k<ws.length->ws.getD k []=x++y->∃s∈ss,s.1=y/\s.2.1=f.1+y.length) :
  K7 ws (dn++[(x,f.1)]) (ss.foldl (bC ((dn.map (·.1))++[x])) (dW E x)):=by
 have em:(dn++[(x,f.1)]).map (·.1)=dn.map (·.1)++[x]:=by rw[Bi];rfl
 have lo:∀p∈dn++[(x,f.1)],p.2<=f.1:=λp hp=>by
  rcases Ba.mp hp with hp|hp
  ·exact h.wt.low p hp _ hx
  ·rw[AY.mp hp];exact AS _
 have w0:Wt ws (dn++[(x,f.1)]) (dW E x):=by
  refine⟨λe he=>h.wt.Ox e (GP.mp he).1,qH h.wt.OL,λe he p hp=>?_,λp hp e he=>?_⟩
  ·obtain⟨he,hn⟩:=GP.mp he;rcases Ba.mp hp with hp|hp
   ·exact h.wt.UH e he p hp
   ·rw[AY.mp hp];exact hn
  ·exact Bh (lo p hp) (z5 e (GP.mp he).1)
 obtain⟨g1,g2,g3⟩:=jT ss w0 λs hs=>⟨(h1 s hs).1,(h1 s hs).2.1,λp hp=>Bh (lo p hp) (h1 s hs).2.2⟩
 rw[em] at g1 g2 g3;have up:∀y m,t8 dn E y m->t8 (dn++[(x,f.1)]) (ss.foldl (bC ((dn.map (·.1))++[x])) (dW E x)) y m:=λy m z=>by
  refine g2 y m ?_;rcases z with ⟨p,hp,z⟩|⟨e,he,rfl,hm⟩
  ·exact .inl ⟨p,Bu _ hp,z⟩
  ·by_cases c:e.1=x
   ·refine .inl ⟨(x,f.1),Bc _ (AY.mpr rfl),c.symm,?_⟩;have:=z5 e he;show f.1<=m;lia
   ·exact .inr ⟨e,GP.mpr ⟨he,c⟩,rfl,hm⟩
 refine⟨g1,?_,λp hp=>?_,λi j y hi hj n e=>up _ _ (h.first i j y hi hj n e),λp hp k y hk e=>?_,λp hp k y hk e=>?_⟩
 ·rw[em,CO];refine⟨h.ndD,by simp,λa ha b hb z=>?_⟩;obtain⟨p,hp,rfl⟩:=AW.mp ha;have C7:b=x:=by simpa using hb
  exact h.wt.UH _ hx p hp (z.trans C7).symm
 ·rcases Ba.mp hp with hp|hp
  ·exact h.nil p hp
  ·rw[AY.mp hp];exact⟨k8,(h.wt.Ox _ hx).2⟩
 ·rcases Ba.mp hp with hp|hp
  ·exact up _ _ (h.within p hp k y hk e)
  ·rw[AY.mp hp] at e ⊢;obtain⟨s,hs,rfl,e2⟩:=h2 k y hk e;have:=g3 s hs;rw[e2] at this;exact this
 ·rcases Ba.mp hp with hp|hp
  ·exact up _ _ (h.beyond p hp k y hk e)
  ·rw[AY.mp hp] at e ⊢;obtain⟨s,hs,rfl,e2⟩:=h3 k y hk e;have:=g3 s hs;rw[e2] at this;exact this
theorem K7.closed{ws:A2}{dn:List (A7×Nat)}(h:K7 ws dn []):Jr ws λx=>∃p∈dn,p.1=x:=by
 have has:∀{y m},t8 dn [] y m->∃p∈dn,p.1=y:=λz=>by
  rcases z with ⟨p,hp,e,_⟩|⟨e,he,_⟩
  ·exact⟨p,hp,e⟩
  ·cases he
 refine⟨λi j x hi hj n e=>has (h.first i j x hi hj n e),λn x y hn ⟨p,hp,e1⟩ e2=>has (h.within p hp n y hn (by rw[e1];exact e2)),λn x y hn ⟨p,hp,e1⟩ e2=>has (h.beyond p hp n y hn (by rw[e1];exact e2)),λXa=>by obtain⟨p,hp,e⟩:=Xa;exact(h.nil p hp).1 e⟩
theorem qp{α:Type} [DecidableEq α]:∀(U:List α){l:List α},l.Nodup->(∀x∈l,x∈U)->l.length<=U.length
 |[],l,_,h=>by
  cases l with
  |nil=>exact AS _
  |cons a r=>exact absurd (h a AZ) (by simp)
 |u::U,l,nd,h=>by
  have h1:=qp U (l:=l.erase u) (nd.erase u) λx hx=>by
   have hm:=List.mem_of_mem_erase hx;rcases Bb.mp (h x hm) with e|e
   ·exact absurd (by rw[e] at hx;exact hx) (List.Nodup.not_mem_erase nd)
   ·exact e
  have h2:l.length<=(l.erase u).length+1:=by
   rw[List.length_erase];split<;>lia
  rw[Bl];lia
def ends:A7->A2
 |[]=>[[]]
 |c::r=>(c::r)::ends r
theorem gy:∀w,(ends w).length=w.length+1
 |[]=>rfl
 |c::r=>by rw[ends,Bl,gy r,Bl]
theorem JB:∀(z:A7){w x:A7},w=z++x->x∈ends w
 |[],w,x,e=>by
  rw[e];show x∈ends x;cases x<;>simp[ends]
 |c::z,w,x,e=>by
  subst e;exact Bg _ (JB z rfl)
theorem GX:∀{ws:A2}{k:Nat},(∀w∈ws,w.length<=k)->(ws.flatMap ends).length<=ws.length*(k+1)
 |[],_,_=>Bj _
 |w::r,k,h=>by
  have h1:=GX (ws:=r) (k:=k) λv hv=>h v (Bg _ hv);have h2:=h w AZ;rw[BY,AV,gy,Bl,Cb];lia
theorem mS{ws l:A2}(h8:ws.length<=8)(TC:∀w∈ws,w.length<=40)(nd:l.Nodup)(h:∀x∈l,J4 ws x):l.length<=328:=by
 have h1:=qp (ws.flatMap ends) nd λx hx=>by
  obtain⟨w,hw,z,e⟩:=h x hx;exact BC.mpr ⟨w,hw,JB z e⟩
 have h2:=GX TC;have:ws.length*41<=8*41:=CA _ h8;lia
end KM
namespace L2
open PySem PySem.Spec PyProof.Rows
theorem LH:bootBuiltins "int"=some (.type "int"):=by decide +kernel
theorem Mh:bootBuiltins "bool"=some (.type "bool"):=by decide +kernel
theorem GH:bootBuiltins "tuple"=some (.type "tuple"):=by decide +kernel
theorem Hk:bootBuiltins "list"=some (.type "list"):=by decide +kernel
theorem MC:bootBuiltins "str"=some (.type "str"):=by decide +kernel
theorem LJ:bootBuiltins "len"=some (.builtin "len"):=by decide +kernel
theorem Gp:bootBuiltins "isinstance"=some (.builtin "isinstance"):=by decide +kernel
theorem Mu:bootBuiltins "all"=some (.builtin "all"):=by decide +kernel
theorem LO:bootBuiltins "max"=some (.builtin "max"):=by decide +kernel
theorem Kb:bootBuiltins "min"=some (.builtin "min"):=by decide +kernel
theorem aq{X:Cx}{scope:Scope}{ts cap:List Str}{js:A7}(h1:scope.kind=.function)(h2:(scope.names.all λy=>y.2 != .cell)=true)(h3:(scope.names.all λy=>y.2 != .local||scope.names.lookup y.1==some .local)=true)
  (h4:(scope.names.all λy=>y.2 != .free||X.env.kindOf y.1==some .cell||X.env.kindOf y.1==some .free)=true)(h5:cap.map some=js.map λj=>X.N[j]?)(h6:(cap.all λy=>scope.names.lookup y==some .free)=true)(h7:(ts++cap).Nodup):FY X scope ts cap js where
 kind:=h1
 HA:=λy hy e=>by have:=Cp.mp h2 y hy;rw[e] at this;cases this
 names:=λy hy e=>by
  have:=Cp.mp h3 y hy;rw[e] at this;simpa using this
 free:=λy hy e=>by
  have:=Cp.mp h4 y hy;rw[e] at this;simpa using this
 Mc:=h5
 Nr:=λy hy=>by
  have:=Cp.mp h6 y hy;simpa using this
 nd:=h7
theorem br{env:Env}{c j pos}{es:List Expr}:starEach (.Constant c j pos::es) env=(false,eval (.Constant c j pos) env)::starEach es env:=rfl
theorem aF{env:Env}{x pos}{es:List Expr}:starEach (.Name x pos::es) env=(false,eval (.Name x pos) env)::starEach es env:=rfl
theorem eK{env:Env}{a b c pos}{es:List Expr}:starEach (.Call a b c pos::es) env=(false,eval (.Call a b c pos) env)::starEach es env:=rfl
def strOf:Expr->Option Str
 |.Constant (.str x) _ _=>some x
 |_=>none
theorem pH{X:Cx}:∀{es:List Expr}{xs:List Str},es.map strOf=xs.map some->PA X es (λ_ H Q=>Q (xs.map V.str) H)
 |[],[],_=>Ge
 |[],_::_,h=>by cases h
 |_::_,[],h=>by cases h
 |e::es,x::xs,h=>by
  rw[Bm,Bm] at h;injection h with h1 h2;have ih:=pH (X:=X) (es:=es) (xs:=xs) h2;unfold strOf at h1;split at h1
  ·cases h1;exact FU aU ih br
  ·cases h1
structure DD where
 f:Addr
 fd:FuncData
structure Def(K:W.Frag)(mg:Str->Option Value)(x:Str)(st:Stmt)(ps:List Str)(d:DD):Prop where
 fn:Px K x x st d.f d.fd
 m:mg x=some (.ref d.f)
 b:Binds K d.fd ps []
def v7 (p:Addr)(H:Hp):Hp:=λb=>if b=p then none else H b
theorem dQ{p b:Addr}{H:Hp}(h:b≠p):v7 p H b=H b:=Fm h
theorem aS(p:Addr)(H:Hp):FZ (v7 p H) H:=λb o e=>by
 unfold v7 at e;split at e
 ·cases e
 ·exact e
theorem FZ.v7{p:Addr}{H H':Hp}(e:FZ H H'):FZ (v7 p H) (L2.v7 p H'):=λb o q=>by
 unfold L2.v7 at q ⊢;split at q
 ·cases q
 ·rename_i h;rw[Fm h];exact e b o q
def DOk (a b c:Int):Prop:=1<=b/\b<=2147483648/\1000000000<=c/\c<=2147483647
def Ds (H:Hp)(p:Addr):Prop:=∃a b c,H p=some (.lst [.int a,.int b,.int c])/\DOk a b c
structure Dr(p:Addr)(H H':Hp):Prop where
 same:FZ (v7 p H) (v7 p H')
 ds:Ds H' p
theorem Dr.refl{p:Addr}{H:Hp}(h:Ds H p):Dr p H H:=⟨FZ.refl _,h⟩
theorem Dr.trans{p:Addr}{H H1 H2:Hp}(a:Dr p H H1)(b:Dr p H1 H2):Dr p H H2:=⟨a.same.trans b.same,b.ds⟩
theorem Ds.same{p:Addr}{H H':Hp}(h:Ds H p)(e:FZ H H'):Ds H' p:=by
 obtain⟨a,b,c,q,r⟩:=h;exact⟨a,b,c,e _ _ q,r⟩
theorem Dr.of_same{p:Addr}{H H':Hp}(h:Ds H p)(e:FZ H H'):Dr p H H':=⟨e.v7,h.same e⟩
theorem Dr.LD{p:Addr}{H:Hp}{a b c:Int}(h:DOk a b c):Dr p H (upd H p (.lst [.int a,.int b,.int c])):=
 ⟨λq o e=>by
  unfold v7 at e ⊢;split at e
  ·cases e
  ·rename_i n;rw[Fm n,aj n];exact e,a,b,c,ae,h⟩
theorem Ds.ne{p q:Addr}{H:Hp}(h:Ds H p)(n:H q=none):p≠q:=by
 obtain⟨a,b,c,e,_⟩:=h;exact aC e n
theorem Dr.new{p q:Addr}{H:Hp}(h:Ds H p)(n:H q=none)(o:HO):Dr p H (upd H q o):=Dr.of_same h (af n o)
theorem cq{p q:Addr}{H:Hp}(h:Ds H p)(n:H q=none)(o:HO):v7 p (upd H q o) q=some o:=by
 rw[dQ (FI (h.ne n)),ae]
structure Tb where
 a:Int
 b:Int
 c:Int
 d:Int
def Tb.vs(t:Tb):A9:=[.int t.a,.int t.b,.int t.c,.int t.d]
def Tb.mul(s t:Tb):Tb:=⟨s.a*t.a+s.b*t.c,s.a*t.b+s.b*t.d,s.c*t.a+s.d*t.c,s.c*t.b+s.d*t.d⟩
def Tb.one:Tb:=⟨1,0,0,1⟩
def Tb.worth(t:Tb):Int:=t.a*t.d-t.b*t.c
def Tb.dat(t:Tb):PyData:=.tuple [.int t.a,.int t.b,.int t.c,.int t.d]
def T4 (K:W.Frag)(H:Hp)(v:V)(t:Tb):Prop:=∃a,v=.ref a/\i5 K H a t.vs
def D4 (H:Hp)(v:V)(t:Tb):Prop:=∃a,v=.ref a/\H a=some (.tup t.vs)
theorem D4.t4{K:W.Frag}{H:Hp}{v:V}{t:Tb}(h:D4 H v t):T4 K H v t:=by
 obtain⟨a,rfl,e⟩:=h;exact⟨a,rfl,i5.of e⟩
theorem D4.mono{H H':Hp}{v:V}{t:Tb}(h:D4 H v t)(e:FZ H H'):D4 H' v t:=by
 obtain⟨a,rfl,q⟩:=h;exact⟨a,rfl,e _ _ q⟩
theorem T4.mono{K:W.Frag}{H H':Hp}{v:V}{t:Tb}(h:T4 K H v t)(e:FZ H H'):T4 K H' v t:=by
 obtain⟨a,rfl,q⟩:=h;exact⟨a,rfl,e.NG q⟩
theorem T4.dat{K:W.Frag}{H:Hp}{v:V}{t:Tb}(h:T4 K H v t):Hl K H v t.dat:=by
 obtain⟨a,rfl,q⟩:=h;exact .tup q (.cons (.int _) (.cons (.int _) (.cons (.int _) (.cons (.int _) .nil))))
theorem Tb.lay(t:Tb):t.dat.canLay0=true:=rfl
theorem Tb.depth(t:Tb):t.dat.depth<=60:=by show 1<=60;decide
theorem Tb.eqv(t:Tb):PyData.eqv t.dat t.dat=true:=SeqAt.eqv_refl _ t.lay
def D5 (n:Nat)(x:Int):Prop:=x.natAbs<2^n
structure Bd(n:Nat)(t:Tb):Prop where
 a:D5 n t.a
 b:D5 n t.b
 c:D5 n t.c
 d:D5 n t.d
theorem D5.mono{n m:Nat}{x:Int}(h:D5 n x)(l:n<=m):D5 m x:=Bq h (DS (by decide) l)
theorem Bd.mono{n m:Nat}{t:Tb}(h:Bd n t)(l:n<=m):Bd m t:=⟨h.a.mono l,h.b.mono l,h.c.mono l,h.d.mono l⟩
theorem D5.dot{n m:Nat}{a e b g:Int}(ha:D5 n a)(he:D5 m e)(hb:D5 n b)(hg:D5 m g):D5 (n+m+1) (a*e+b*g):=by
 unfold D5 at *;have h1:(a*e+b*g).natAbs<=(a*e).natAbs+(b*g).natAbs:=Int.natAbs_add_le _ _;rw[Int.natAbs_mul,Int.natAbs_mul] at h1;have h2:a.natAbs*e.natAbs<2^n*2^m:=Nat.mul_lt_mul'' ha he;have h3:b.natAbs*g.natAbs<2^n*2^m:=Nat.mul_lt_mul'' hb hg;rw[BH,CC];lia
theorem Bd.mul{n m:Nat}{s t:Tb}(hs:Bd n s)(ht:Bd m t):Bd (n+m+1) (s.mul t):=
 ⟨hs.a.dot ht.a hs.b ht.c,hs.a.dot ht.b hs.b ht.d,hs.c.dot ht.a hs.d ht.c,hs.c.dot ht.b hs.d ht.d⟩
theorem D5.bits{n:Nat}{x:Int}(h:D5 n x):Builtin.Int.intBits x<=n:=by
 unfold Builtin.Int.intBits;unfold D5 at h;split
 ·exact Bj _
 ·rename_i z;have nz:x.natAbs≠0:=λq=>z (by rw[Int.natAbs_eq_zero.mp q];rfl);exact(Nat.log2_lt nz).mpr h
theorem D5.big{n m:Nat}{x y:Int}(hx:D5 n x)(hy:D5 m y)(hn:n<=1048576)(hm:m<=1048576):xD x y:=⟨Bh hx.bits hn,Bh hy.bits hm⟩
def HR:V->Bool
 |.int _=>true
 |_=>false
inductive Kn(H:Hp):V->Prop where
 |f6:Kn H .f6
 |bl (b:Bool):Kn H (.bl b)
 |int (i:Int):Kn H (.int i)
 |str (x:Str):Kn H (.str x)
 |lst {a:Addr}{xs:A9} (e:H a=some (.lst xs)):Kn H (.ref a)
 |tup {a:Addr}{xs:A9} (e:H a=some (.tup xs)):Kn H (.ref a)
inductive Th(H:Hp):V->Bool->Prop where
 |f6:Th H .f6 false
 |bl (b:Bool):Th H (.bl b) false
 |int (i:Int):Th H (.int i) false
 |str (x:Str):Th H (.str x) false
 |lst {a:Addr}{xs:A9} (e:H a=some (.lst xs)):Th H (.ref a) false
 |tup {a:Addr}{xs:A9} (e:H a=some (.tup xs)) (k:∀x∈xs,Kn H x):Th H (.ref a) (xs.length==4&&xs.all HR)
section
variable {K:PySem.W.Frag}{H:Hp}{v:V}
def NQ:V->Bool
 |.int _=>true
 |.bl _=>true
 |_=>false
def isB:V->Bool
 |.bl _=>true
 |_=>false
theorem Kn.as_int(h:Kn H v):∃t,IE K H v t/\W.kitOne K t (.type "int")=some (NQ v):=by
 cases h with
 |f6=>exact⟨_,.f6,rfl⟩
 |bl b=>exact⟨_,.bl b,rfl⟩
 |int i=>exact⟨_,.int i,rfl⟩
 |str x=>exact⟨_,.str x,rfl⟩
 |lst e=>exact⟨_,.lst e,rfl⟩
 |tup e=>exact⟨_,.tup e,rfl⟩
theorem Kn.as_bool(h:Kn H v):∃t,IE K H v t/\W.kitOne K t (.type "bool")=some (isB v):=by
 cases h with
 |f6=>exact⟨_,.f6,rfl⟩
 |bl b=>exact⟨_,.bl b,rfl⟩
 |int i=>exact⟨_,.int i,rfl⟩
 |str x=>exact⟨_,.str x,rfl⟩
 |lst e=>exact⟨_,.lst e,rfl⟩
 |tup e=>exact⟨_,.tup e,rfl⟩
end
def JW:Sp:=λvs H Q _=>∃v,vs=[v]/\Kn H v/\Q (.bl (HR v)) H
def Ij:Sp:=λvs H Q _=>∃v b,vs=[v]/\Th H v b/\∀H',FZ H H'->Q (.bl b) H'
structure Hs(H:Hp)(L:List (Addr×HO))(H':Hp):Prop where
 all:FZ H H'
 at':∀a o,(a,o)∈L->H' a=some o
 nd:(L.map (·.1)).Nodup
 fr:∀a o,(a,o)∈L->H a=none
theorem Hs.start(H:Hp):Hs H [] H:=⟨FZ.refl H,λ_ _ h=>absurd h (by simp),by simp,λ_ _ h=>absurd h (by simp)⟩
theorem Hs.new{H H':Hp}{L:List (Addr×HO)}{a:Addr}(h:Hs H L H')(n:H' a=none)(o:HO):Hs H (L++[(a,o)]) (upd H' a o) where
 all:=h.all.trans (af n o)
 at':=λb u hm=>by
  rcases Ba.mp hm with z|z
  ·exact af n o _ _ (h.at' b u z)
  ·have e:(b,u)=(a,o):=by simpa using z
   cases e;exact ae
 nd:=by
  rw[Bi,CO];refine⟨h.nd,by simp,λx hx y hy=>?_⟩;have ey:y=a:=by simpa using hy
  subst ey;obtain⟨⟨b,u⟩,hb,e⟩:=AW.mp hx;cases e;exact aC (h.at' b u hb) n
 fr:=λb u hm=>by
  rcases Ba.mp hm with z|z
  ·exact h.fr b u z
  ·have e:(b,u)=(a,o):=by simpa using z
   cases e;exact h.all.free n
theorem Hs.get{H H':Hp}{L:List (Addr×HO)}{a:Addr}{o:HO}(h:Hs H L H')(i:Nat)(e:L[i]?=some (a,o):=by rfl):H' a=some o:=h.at' a o (Bp e)
theorem Hs.ne{H H':Hp}{L:List (Addr×HO)}{a b:Addr}{o u:HO}(h:Hs H L H')(i j:Nat)(ij:i≠j)(e:L[i]?=some (a,o):=by rfl)(f:L[j]?=some (b,u):=by rfl):a≠b:=λz=>by
 have e1:(L.map (·.1))[i]?=some a:=by rw[Bo,e];rfl
 have f1:(L.map (·.1))[j]?=some b:=by rw[Bo,f];rfl
 rw[z] at e1;obtain⟨hi,e2⟩:=Be.mp e1;obtain⟨hj,f2⟩:=Be.mp f1;exact ij ((List.getElem_inj h.nd).mp (e2.trans f2.symm))
theorem Hs.put{H H':Hp}{L:List (Addr×HO)}{a:Addr}{o:HO}(h:Hs H L H')(i:Nat)(o':HO)(e:L[i]?=some (a,o):=by rfl):Hs H (L.set i (a,o')) (upd H' a o') where
 all:=λb u q=>by
  have ha:=h.fr a o (Bp e);rw[aj (aC q ha)];exact h.all b u q
 at':=λb u hm=>by
  obtain⟨j,ej⟩:=Em hm;by_cases hj:i=j
  ·subst hj;have hi:=(Be.mp e).1;rw[Dz hi] at ej;cases ej;exact ae
  ·rw[DA hj] at ej;rw[aj (FI (h.ne i j hj e ej))];exact h.at' b u (Bp ej)
 nd:=by
  have:(L.set i (a,o')).map (·.1)=L.map (·.1):=by
   apply Dm;intro j;rw[Bo,Bo];by_cases hj:i=j
   ·subst hj;have hi:=(Be.mp e).1;rw[Dz hi,e];rfl
   ·rw[DA hj]
  rw[this];exact h.nd
 fr:=λb u hm=>by
  obtain⟨j,ej⟩:=Em hm;by_cases hj:i=j
  ·subst hj;have hi:=(Be.mp e).1;rw[Dz hi] at ej;cases ej;exact h.fr a o (Bp e)
  ·rw[DA hj] at ej;exact h.fr b u (Bp ej)
theorem Hs.mono{H H' l0:Hp}{L:List (Addr×HO)}(h:Hs H L H')(s:FZ H' l0):Hs H L l0:=⟨h.all.trans s,λa o m=>s _ _ (h.at' a o m),h.nd,h.fr⟩
theorem aI{X:Cx}{e:Expr}{te:TE}(h:PE X e te)(hs:starEach [e] X.env=(false,eval e X.env)::starEach [] X.env):PA X [e] (iE te KH):=@FU _ _ _ _ _ h (@Ge _) hs
theorem aL{X:Cx}{r:A9->Hp->VK->Prop}{e:Expr}{te:TE}{p pos:Pos}(hc:bV X (.builtin "len") r)(hg:Gl X "len")(hm:X.mg "len"=none)(h:PE X e te)(hs:starEach [e] X.env=(false,eval e X.env)::starEach [] X.env):PE X (.Call (.Name "len" p) [e] [] pos) (U7 r (iE te KH)):=@aQ _ _ _ _ _ _ _ _ _ hc hg hm LJ (aI h hs) (by decide) (by decide) hs rfl
theorem bw{X:Cx}{k k':Nat}{x:Str}{st:Stmt}{ps:List Str}{d:DD}{sp:Sp}{p pos:Pos}{e:Expr}{es:List Expr}{t:TA}(D:Def X.K X.mg x st ps d)(F:Gf X.prog X.w X.K X.mg X.base Ml k d.f d.fd ps sp)(hk:k<=k')(hr:Hu k' X.A)(hg:Gl X x)(ha:PA X (e::es) t)(OT:(x==("__debug__":Str))=false)(he:starEach (e::es) X.env=(false,eval e X.env)::starEach es X.env)(E8:(backTo pos (starEach es X.env)).any (·.1)=false):PE X (.Call (.Name x p) (e::es) [] pos) (uo sp [] E0 t):=@pN _ _ _ _ _ _ _ _ _ _ _ _ _ _ _ _ (F.mono hk) hr hg D.m D.fn.kp D.b .nil vP ha OT he E8
theorem cK{X:Cx}{k k':Nat}{x:Str}{st:Stmt}{ps:List Str}{d:DD}{sp:Sp}{p pos:Pos}{e:Expr}{te:TE}(D:Def X.K X.mg x st ps d)(F:Gf X.prog X.w X.K X.mg X.base Ml k d.f d.fd ps sp)(hk:k<=k')(hr:Hu k' X.A)(hg:Gl X x)(h:PE X e te)(hs:starEach [e] X.env=(false,eval e X.env)::starEach [] X.env)(OT:(x==("__debug__":Str))=false):PE X (.Call (.Name x p) [e] [] pos) (uo sp [] E0 (iE te KH)):=@bw _ _ _ _ _ _ _ _ _ _ _ _ _ D F hk hr hg (aI h hs) OT hs rfl
theorem oY{X:Cx}{c:Str}{j:Nat}{cp apos i4:Pos}{e:Expr}{te:TE}(h:PE X e te)(hs:starEach [e] X.env=(false,eval e X.env)::starEach [] X.env)(K1:((backTo i4 (starEach [e] X.env)).all (λx=>!x.1)&&(backToKw i4 (keywordEach [] X.env)).all (λx=>x.1.isSome)&&decide ([e].length+([]:List Keyword).length+(if ([]:List Keyword).isEmpty then 0 else 1)<30))=true)(q8:(apos.endLine==i4.line)=true):PE X (.Call (.Attribute (.Constant (.str c) j cp) "join" apos) [e] [] i4) (T8 X.K "str" (rJoin X.K) (tC (.str c)) (iE te KH)):=@jd _ _ _ _ _ _ _ _ _ _ _ _ Fz PySem.F.slot_str_join PySem.F.type_str_join LY (aU _) (aI h hs) rfl K1 q8 hs rfl
theorem kD{X:Cx}{apos i4:Pos}{o e:Expr}{to te:TE}(ho:PE X o to)(h:PE X e te)(hs:starEach [e] X.env=(false,eval e X.env)::starEach [] X.env)(z7:attributeBase o "append" X.env (eval o X.env)=eval o X.env)(K1:((backTo i4 (starEach [e] X.env)).all (λx=>!x.1)&&(backToKw i4 (keywordEach [] X.env)).all (λx=>x.1.isSome)&&decide ([e].length+([]:List Keyword).length+(if ([]:List Keyword).isEmpty then 0 else 1)<30))=true)(q8:(apos.endLine==i4.line)=true):PE X (.Call (.Attribute o "append" apos) [e] [] i4) (T8 X.K "list" IJ to (iE te KH)):=@jd _ _ _ _ _ _ _ _ _ _ _ _ Fy FC FB Ih ho (aI h hs) z7 K1 q8 hs rfl
end L2
local macro_rules|`(tactic|walk_at "s")=>`(tactic|exact⟨rfl,rfl,rfl,by decide +kernel,rfl,by decide +kernel,by decide +kernel⟩)
set_option hygiene false in
local macro_rules|`((fk $k $d $p $s))=>`(Gf P w K mg base Ml $k ($d).f ($d).fd $p $s)|`((dg $n $i $p $d $k $s))=>`(Def K mg $n (top $i) $p $d/\(fk $k $d $p $s))
set_option hygiene false in
local macro_rules|`(tactic|exists $s)=>`(tactic|(refine D.fn.ok (N:=$s) (by walk_at "s") (λvs H Q E h=>?_) (λl6 A outer s H vs Q E hr h=>?_);(focus(repeat obtain⟨_,h⟩:=h);subst_vars;rfl);have hc:=hr.calm;have nd:List.Nodup (α:=Str) $s :=by decide +kernel))
local macro_rules|`(tactic|walk_at "d")=>`(tactic|try dsimp only [cj,Cx.Pb,Cx.GB])
set_option hygiene false in
local macro_rules|`(tactic|walk_at "u")=>`(tactic|exact λ_ _ _ _ _ _ us hl=>by first|(obtain ⟨_,rfl⟩ :=jn hl;rfl)|(obtain⟨_,_,rfl⟩:=qC hl;rfl)|(obtain⟨_,_,_,rfl⟩:=vt hl;rfl))
set_option hygiene false in
local macro_rules|`(($n:num))=>`(pv $n)|`((nd $s))=>`(show List.Nodup (α:=Str) $s by decide +kernel)
namespace K3
open PySem
def top (i:Nat):Stmt:=PySem.Challenge.pw_quadwords_k27_whole_stuck_texts.main.body.getD i (.Pass ⟨0,0,0,0⟩)
end K3
namespace K3
open PySem PySem.Spec PyProof.Rows L2
abbrev MD:Stmt:=top 35
def Jm:Sp:=λvs H Q _=>∃(p:Addr)(m:Int),vs=[.ref p,.int m]/\Ds H p/\1<=m/\m<1000000000000000000000000000000000/\∀(r:Int)(H':Hp),0<=r->r<m->Dr p H H'->Q (.int r) H'
section
variable {P:Program}{w:World}{K:PySem.W.Frag}{mg:Str->Option Value}{base:Heap}
theorem LC:FX ["draws","many","found"] ["draws","many"] (ar MD):=by walk_at "s"
theorem uD{d:DD}(D:Def K mg "_law_draw" MD ["draws","many"] d):(fk 1 d ["draws","many"] Jm):=by
 refine D.fn.ok LC (λvs H Q E h=>?_) (λl6 A outer s H vs Q E hr h=>?_)
 ·obtain⟨p,m,rfl,_⟩:=h;rfl
 obtain⟨p,m,rfl,⟨a,b,c,hp,Pk,Ze,hc1,M4⟩,hm1,hm2,q⟩:=h;have nd:=LC.nd;refine⟨_,(ag (bx (ay HZ (aW Ga (0) ah (λ_ _=>rfl)) ah (aE _)) (ag (aA (i:=2) nd rfl (Or.inl rfl) (aB GJ (aW Ga (0) ah (λ_ _=>rfl)) (1))) (ag (eR (aB rS (aW Ga (0) ah (λ_ _=>rfl)) (1)) (qi (0) ah set_list)) (ai (aJ (2))))) Gb) (ag (eR (aB Gk (aB GJ (aB GQ (aW Ga (0) ah (λ_ _=>rfl)) ah) (aW Ga (0) ah (λ_ _=>rfl))) ah) (qi (0) ah set_list)) (ai (aJ (aB GJ (aB HX (aB GJ (aB GQ (aW Ga (0) ah (λ_ _=>rfl)) (aB Gk (aB HX (aW Ga (0) ah (λ_ _=>rfl)) ah) ah)) ah) ah) (1)))))),?_⟩
 walk_at "d"
 have g0:a9 K H p [.int a,.int b,.int c]:=a9.of hp;refine⟨_,rfl,p,_,0,_,rfl,rfl,g0,rfl,_,_,rfl,rfl,_,rfl,vk (λh1=>?_) (λh1=>?_)⟩
 ·refine⟨_,rfl,p,_,0,_,rfl,rfl,g0,rfl,_,rfl,_,_,rfl,rfl,by lia,?_⟩;refine⟨_,rfl,p,_,0,_,rfl,rfl,g0,rfl,_,rfl,_,_,rfl,rfl,⟨by lia,by lia⟩,?_⟩;refine⟨_,rfl,p,_,0,0,rfl,rfl,hp,rfl,?_⟩;refine⟨_,rfl,?_⟩;exact q _ _ (CV _ (by lia)) (CW _ (by lia)) (Dr.LD ⟨Pk,Ze,hc1,M4⟩)
 ·refine⟨_,rfl,p,_,1,_,rfl,rfl,g0,rfl,_,_,rfl,rfl,.inr ⟨by decide,by decide⟩,?_⟩;refine⟨_,rfl,p,_,2,_,rfl,rfl,g0,rfl,_,_,rfl,rfl,(show(0:Int)<c by lia),_,_,rfl,rfl,?_⟩;refine⟨_,rfl,p,_,1,1,rfl,rfl,hp,rfl,?_⟩;have e0:=CV (b*69621) (show c≠0 by lia);have e1:=CW (b*69621) (show(0:Int)<c by lia);have z1:1<=b*69621 % c+1:=by lia
  have z2:b*69621 % c+1<=2147483648:=by lia
  have g1:a9 K (upd H p (.lst [.int a,.int (b*69621 % c+1),.int c])) p [.int a,.int (b*69621 % c+1),.int c]:=a9.of ae;have u0:0<=(b*69621 % c+1)/128:=Int.ediv_nonneg (by lia) (by decide);have u1:(b*69621 % c+1)/128<=16777216:=by lia
  refine⟨_,rfl,p,_,1,_,rfl,rfl,g1,rfl,_,rfl,p,_,1,_,rfl,rfl,g1,rfl,_,_,rfl,rfl,⟨by decide,by decide⟩,_,_,rfl,rfl,_,_,rfl,rfl,.inl ⟨?_,?_⟩,_,_,rfl,rfl,(show(0:Int)<2147483423 by decide),_,_,rfl,rfl,⟨by decide,by decide⟩,_,rfl,_,_,rfl,rfl,(show(0:Int)<m by lia),?_⟩
  ·lia
  ·lia
  exact q _ _ (CV _ (by lia)) (CW _ (by lia)) (Dr.LD ⟨z1,z2,hc1,M4⟩)
theorem KR:FX ["thing"] ["thing"] (ar (top 6)):=by walk_at "s"
theorem rF{d:DD}(D:Def K mg "is_whole" (top 6) ["thing"] d)(zP:mg "int"=none)(zV:mg "bool"=none)(yR:mg "isinstance"=none):(fk 1 d ["thing"] JW):=by
 refine D.fn.ok KR (λvs H Q E h=>?_) (λl6 A outer s H vs Q E hr h=>?_)
 ·obtain⟨v,rfl,_⟩:=h;rfl
 obtain⟨v,rfl,hk,q⟩:=h;refine⟨_,(ai (aJ (iQ (aQ Hh rfl yR Gp (FU (0) (FU (fR (v:=.ty "int") rfl zP LH rfl) Ge))) (nr (vO (aQ Hh rfl yR Gp (FU (0) (FU (fR (v:=.ty "bool") rfl zV Mh rfl) Ge)))))))),?_⟩
 walk_at "d"
 obtain⟨t1,y1,e1⟩:=hk.as_int (K:=K);obtain⟨t2,y2,e2⟩:=hk.as_bool (K:=K);refine⟨v,rfl,v,.ty "int",t1,_,_,rfl,rfl,y1,e1,_,rfl,?_⟩;cases hb:NQ v with
 |true=>
  refine yE ⟨v,rfl,v,.ty "bool",t2,_,_,rfl,rfl,y2,e2,_,rfl,?_⟩;have z:(!isB v)=HR v:=by cases v<;>first|rfl|(cases hb)
  rw[z];exact q
 |false=>
  refine yJ ?_;have z:false=HR v:=by cases v<;>first|rfl|(cases hb)
  rw[z];exact q
theorem MG:FX ["thing"] ["thing"] (ar (top 7)):=by walk_at "s"
theorem Th.KN{H:Hp}{v:V}{b:Bool}(h:Th H v b):∃t,IE K H v t/\((W.kitOne K t (.type "tuple")=some false/\b=false)\/(W.kitOne K t (.type "tuple")=some true/\∃a xs,v=.ref a/\H a=some (.tup xs)/\(∀x∈xs,Kn H x)/\b=(xs.length==4&&xs.all HR))):=by
 cases h with
 |f6=>exact⟨_,.f6,.inl ⟨rfl,rfl⟩⟩
 |bl b=>exact⟨_,.bl b,.inl ⟨rfl,rfl⟩⟩
 |int i=>exact⟨_,.int i,.inl ⟨rfl,rfl⟩⟩
 |str x=>exact⟨_,.str x,.inl ⟨rfl,rfl⟩⟩
 |lst e=>exact⟨_,.lst e,.inl ⟨rfl,rfl⟩⟩
 |tup e k=>exact⟨_,.tup e,.inr ⟨rfl,_,_,rfl,e,k,rfl⟩⟩
theorem aw{n:Nat}(h:n<=1000000):n<=sizeLine:=Bh h (by rw[sizeLine_eq];decide)
theorem xu{dw d:DD}(zc:(dg "is_whole" 6 ["thing"] dw 1 JW))(D:Def K mg "is_table" (top 7) ["thing"] d)(yT:mg "tuple"=none)(yQ:mg "len"=none)(AE:mg "all"=none)(yR:mg "isinstance"=none):(fk 2 d ["thing"] Ij):=by
 refine D.fn.ok MG (λvs H Q E h=>?_) (λl6 A outer s H vs Q E hr h=>?_)
 ·obtain⟨v,b,rfl,_⟩:=h;rfl
 obtain⟨v,b,rfl,ht,q⟩:=h;have hc:=hr.calm;refine⟨_,(ai (aJ (iQ (aQ Hh rfl yR Gp (FU (0) (FU (fR (v:=.ty "tuple") rfl yT GH rfl) Ge))) (iQ (dE GV (aQ FW rfl yQ LJ (FU (0) Ge)) ah (aE _)) (nr (aQ (sf hc) rfl AE Mu (FU (aY hc (aq (ts:=["number"]) (cap:=[]) (js:=[]) rfl rfl rfl rfl rfl rfl (by decide +kernel)) (sU (0)) (λ_ _ _ _=>ao (i:=0) (nd ["number"]) rfl (Or.inl rfl) (.inr rfl)) (λ_ _ _ _=>aV) (λ_ _ _ _=>(pN (zc.2.mono (by decide)) hr rfl zc.1.m zc.1.fn.kp zc.1.b .nil vP (FU (0) Ge)))) Ge))))))),?_⟩
 walk_at "d"
 obtain⟨t1,y1,e1⟩:=Th.KN (K:=K) ht;rcases e1 with ⟨e1,eb⟩|⟨e1,a,xs,ev,ea,hk,eb⟩
 ·refine⟨v,rfl,v,.ty "tuple",t1,_,_,rfl,rfl,y1,e1,_,rfl,yJ ?_⟩;rw[eb] at q;exact q H (FZ.refl H)
 ·subst ev;refine⟨_,rfl,.ref a,.ty "tuple",t1,_,_,rfl,rfl,y1,e1,_,rfl,yE ?_⟩;refine⟨_,rfl,a,xs,rfl,.inr (i5.of ea),rfl,_,rfl,vk (λh1=>?_) (λh1=>?_)⟩
  ·have l4:xs.length=4:=by
    have z:=Fu h1;injection z with z;lia
   refine⟨_,rfl,a,rfl,⟨xs,i5.of ea⟩,?_⟩;refine yc (K:=K) (xs:=xs) (λi ys H'=>H'=H/\ys=((xs.take i).map HR).map V.bl) ⟨rfl,by simp⟩ (λi ys H' hi z=>?_) (aw (by lia)) (λi ys H' hi z=>by rw[z.1];exact i5.of ea) (λi x ys H' hx z=>?_) (λys H' z p hp=>?_)
   ·rw[z.2];simp;lia
   ·obtain⟨rfl,rfl⟩:=z;have hi:i<xs.length:=(Be.mp hx).1;refine⟨x,rfl,x,rfl,hk x (Bp hx),Nx.mk hi ⟨rfl,?_⟩⟩;rw[Bw,hx,Bi,Bi];rfl
   ·obtain⟨rfl,rfl⟩:=z;refine⟨p,(xs.map HR),rfl,?_,?_⟩
    ·rw[BW];exact a9.of ae
    ·have z:((xs.map HR).all id)=b:=by
      rw[eb,l4];simp[List.all_map]
     rw[z];exact q _ (af hp _)
  ·have z:b=false:=by
    rw[eb];cases hb:(xs.length==4) with
    |false=>rfl
    |true=>exact absurd (Fo (congrArg (λn:Nat=>V.int (n:Int)) (by simpa using hb))) h1
   rw[z] at q;exact q H (FZ.refl H)
def tf (K:W.Frag):Sp:=λvs H Q _=>∃u v s t n m,vs=[u,v]/\T4 K H u s/\T4 K H v t/\Bd n s/\Bd m t/\n<=1048576/\m<=1048576/\∀r H',FZ H H'->D4 H' r (s.mul t)->Q r H'
def pS (K:W.Frag):Sp:=λvs H Q _=>∃u t n,vs=[u]/\T4 K H u t/\Bd n t/\n<=1048576/\Q (.int t.worth) H
theorem qU{d:DD}(D:Def K mg "worth" (top 8) ["table"] d):(fk 1 d ["table"] (pS K)):=by
 exists["table","a","b","c","d"]
 obtain⟨u,t,n,rfl,⟨p,rfl,hp⟩,ht,hn,q⟩:=h;refine⟨_,(ag (eR (0) (dM hc (aD (ao (i:=1) nd rfl (Or.inl rfl)) (aD (ao (i:=2) nd rfl (Or.inl rfl)) (aD (ao (i:=3) nd rfl (Or.inl rfl)) (aD (ao (i:=4) nd rfl (Or.inl rfl)) Gr)))))) (ai (aJ (aB HL (aB fK (1) (4)) (aB fK (2) (3)))))),?_⟩
 walk_at "d"
 refine⟨_,rfl,p,_,rfl,hp,rfl,_,_,rfl,_,_,rfl,_,_,rfl,_,_,rfl,rfl,?_⟩;refine⟨_,rfl,_,rfl,_,_,rfl,rfl,ht.a.big ht.d hn hn,_,rfl,_,rfl,_,_,rfl,rfl,ht.b.big ht.c hn hn,_,_,rfl,rfl,?_⟩;exact q
theorem qy{d:DD}(D:Def K mg "_law_times" (top 38) ["one","other"] d)(yP:mg "range"=none)(yT:mg "tuple"=none):(fk 1 d ["one","other"] (tf K)):=by
 exists["one","other","found","row","column","top"]
 obtain⟨u,v,s,t,n,m,rfl,⟨p,rfl,hp⟩,⟨r,rfl,hr'⟩,hs,ht,hn,hm,q⟩:=h;refine⟨_,(ag (aA (i:=2) nd rfl (Or.inl rfl) (bj Ge)) (ag (bG PassesOwn.never hc (sU (aN (FU ah (FU ah Ge)))) (ao (i:=3) nd rfl (Or.inl rfl)) (ai (bG PassesOwn.never hc (aO rfl yP (FU ah Ge)) (ao (i:=4) nd rfl (Or.inl rfl)) (ag (aA (i:=5) nd rfl (Or.inl rfl) (aB fK (aW Hn (0) (3) (λ_ _=>rfl)) (aW Hn (1) (4) (λ_ _=>rfl)))) (ai (bT (jd Fy FC FB Ih (2) (FU (aB Gk (5) (aB fK (aW Hn (0) (aB Gk (3) ah) (λ_ _=>rfl)) (aW Hn (1) (aB Gk ah (4)) (λ_ _=>rfl)))) Ge)))))))) (ai (aJ (ba Gi rfl yT GH (FU (2) Ge)))))),?_⟩
 walk_at "d"
 refine⟨aw (by show 0<=1000000;decide),λf hf=>?_⟩;refine⟨aw (by show 2<=1000000;decide),λw hw=>⟨w,rfl,⟨_,i5.of ae⟩,?_⟩⟩;have S0:FZ H (upd H f (.lst [])):=af hf _;have S1:FZ H (upd (upd H f (.lst [])) w (.tup [.int 0,.int 2])):=S0.trans (af hw _);have nfw:f≠w:=aC (H:=upd H f (.lst [])) ae hw;have keep:∀{H':Hp}(l:A9),FZ H H'->H' w=some (.tup [.int 0,.int 2])->FZ H (upd H' f (.lst l))/\upd H' f (.lst l) f=some (.lst l)/\upd H' f (.lst l) w=some (.tup [.int 0,.int 2]):=λ{H'} l e1 e2=>
  ⟨λb o e=>by rw[aj (aC e hf)];exact e1 b o e,ae,by rw[aj (FI nfw)];exact e2⟩
 refine uS (K:=K) (xs:=[.int 0,.int 2]) (λi σ H'=>∃o1 o2 o3,σ=[some (.ref p),some (.ref r),some (.ref f),o1,o2,o3]/\FZ H H'/\H' f=some (.lst ((s.mul t).vs.take (2*i)))/\H' w=some (.tup [.int 0,.int 2]))
  ⟨none,none,none,rfl,S1,by rw[aj nfw];exact ae,ae⟩ (λi σ H' hi z=>by obtain⟨_,_,_,_,_,_,e⟩:=z;exact i5.of e) (λi x σ H' hx z=>?_) (fun σ H' z=>?_)
 ·obtain⟨o1,o2,o3,rfl,e1,e2,e3⟩:=z;have hi:i<2:=(Be.mp hx).1;refine⟨2,rfl,by decide,by decide,?_⟩;refine bF (lo:=0) (n:=2) (λj σ H'=>∃o2 o3,σ=[some (.ref p),some (.ref r),some (.ref f),some x,o2,o3]/\FZ H H'/\H' f=some (.lst ((s.mul t).vs.take (2*i+j)))/\H' w=some (.tup [.int 0,.int 2]))
   ⟨o2,o3,rfl,e1,e2,e3⟩ (λj σ H' hj z=>?_) (fun σ H' z=>?_)
  ·obtain⟨o2,o3,rfl,e1,e2,e3⟩:=z;have QV:=e1.NG hp;have RT:=e1.NG hr';have fct:∃(ri α β γ δ:Int),x=.int ri/\B5 s.vs ri=some (.int α)/\B5 s.vs (ri+1)=some (.int β)/\B5 t.vs (0+(j:Int))=some (.int γ)/\B5 t.vs (2+(0+(j:Int)))=some (.int δ)/\xD α γ/\xD β δ /\
     (s.mul t).vs.take (2*i+(j+1))=(s.mul t).vs.take (2*i+j)++[.int (α * γ+β * δ)]:=by
    have two:∀k:Nat,k<2->k=0\/k=1:=λk hk=>by lia
    rcases two i hi with rfl|rfl<;>rcases two j hj with rfl|rfl<;>(cases hx)
    ·exact⟨0,s.a,s.b,t.a,t.c,rfl,rfl,rfl,rfl,rfl,hs.a.big ht.a hn hm,hs.b.big ht.c hn hm,rfl⟩
    ·exact⟨0,s.a,s.b,t.b,t.d,rfl,rfl,rfl,rfl,rfl,hs.a.big ht.b hn hm,hs.b.big ht.d hn hm,rfl⟩
    ·exact⟨2,s.c,s.d,t.a,t.c,rfl,rfl,rfl,rfl,rfl,hs.c.big ht.a hn hm,hs.d.big ht.c hn hm,rfl⟩
    ·exact⟨2,s.c,s.d,t.b,t.d,rfl,rfl,rfl,rfl,rfl,hs.c.big ht.b hn hm,hs.d.big ht.d hn hm,rfl⟩
   obtain⟨ri,α,β,γ,δ,rfl,A0,A1,B0,B1,c1,c2,tk⟩:=fct;refine⟨_,rfl,_,rfl,p,_,ri,_,rfl,rfl,QV,A0,_,rfl,_,rfl,r,_,_,_,rfl,rfl,RT,B0,_,_,rfl,rfl,c1,?_⟩;refine⟨_,rfl,.inl ⟨rfl,_,a9.of e2⟩,_,rfl,_,rfl,_,rfl,_,_,rfl,rfl,p,_,_,_,rfl,rfl,QV,A1,_,rfl,_,rfl,_,_,rfl,rfl,r,_,_,_,rfl,rfl,RT,B1,_,_,rfl,rfl,c2,_,_,rfl,rfl,?_⟩;have ln:((s.mul t).vs.take (2*i+j)).length<=4:=by rw[Bs];exact Nat.min_le_right _ _
   refine⟨f,_,_,rfl,rfl,e2,Cf ln (Bq (show 4<1000000 by decide) (aw (AS _))),?_⟩;obtain⟨a1,a2,a3⟩:=keep ((s.mul t).vs.take (2*i+j)++[.int (α * γ+β * δ)]) e1 e3;exact⟨_,_,rfl,a1,by rw[tk];exact a2,a3⟩
  ·obtain⟨o2,o3,rfl,e1,e2,e3⟩:=z;exact⟨_,o2,o3,rfl,e1,e2,e3⟩
 ·obtain⟨o1,o2,o3,rfl,e1,e2,e3⟩:=z;refine⟨_,rfl,f,(s.mul t).vs,rfl,.inl ⟨a9.of e2,λl hl=>?_⟩⟩;exact q _ _ (e1.trans (af hl _)) ⟨l,rfl,ae⟩
def eY (ts:List Tb):Tb:=ts.foldl Tb.mul Tb.one
inductive TL(K:W.Frag)(H:Hp):A9->List Tb->Prop where
 |nil:TL K H [] []
 |cons {v:V}{t:Tb}{vs:A9}{ts:List Tb}:T4 K H v t->TL K H vs ts->TL K H (v::vs) (t::ts)
theorem TL.length{H:Hp}:∀{vs:A9}{ts:List Tb},TL K H vs ts->vs.length=ts.length
 |_,_,.nil=>rfl
 |_,_,.cons _ r=>by simp[TL.length r]
theorem TL.get{H:Hp}:∀{vs:A9}{ts:List Tb}{i:Nat}{v:V},TL K H vs ts->vs[i]?=some v->∃t,ts[i]?=some t/\T4 K H v t
 |_,_,_,_,.nil,e=>by simp at e
 |_,_,0,_,.cons h _,e=>by simp at e;subst e;exact⟨_,rfl,h⟩
 |_,_,i+1,v,.cons _ r,e=>by
  obtain⟨d,h1,h2⟩:=TL.get (i:=i) (v:=v) r (by simpa using e);exact⟨d,by simpa using h1,h2⟩
theorem fV(ts:List Tb)(t:Tb):eY (ts++[t])=(eY ts).mul t:=by unfold eY;rw[List.foldl_append];rfl
theorem kU{n:Nat}:∀{ts:List Tb},(∀t∈ts,Bd n t)->∀i,Bd ((n+1)*i+1) (eY (ts.take i)):=by
 intro ts h i;induction i with
 |zero=>exact(show Bd 1 Tb.one from⟨(by show(1:Int).natAbs<2^1;decide),(by show(0:Int).natAbs<2^1;decide),(by show(0:Int).natAbs<2^1;decide),(by show(1:Int).natAbs<2^1;decide)⟩)
 |succ i ih=>
  by_cases hi:i<ts.length
  ·rw[Bw,AX hi];show Bd _ (eY (ts.take i++[ts[i]]));rw[fV];have z:=ih.mul (h ts[i] (BG hi));have e:(n+1)*(i+1)+1=(n+1)*i+1+n+1:=by rw[CB];lia
   rw[e];exact z
  ·have e:ts.take (i+1)=ts.take i:=by rw[BB (by lia),BB (by lia)]
   rw[e];exact ih.mono (by rw[CB];lia)
def sO (K:W.Frag):Sp:=λvs H Q _=>∃l xs ts n,vs=[.ref l]/\a9 K H l xs/\TL K H xs ts/\(∀t∈ts,Bd n t)/\(n+1)*ts.length+1<=1048576/\n<=1048576/\∀r H',FZ H H'->D4 H' r (eY ts)->Q r H'
theorem qD{dp d:DD}(zi:(dg "_law_times" 38 ["one","other"] dp 1 (tf K)))(D:Def K mg "_law_made" (top 39) ["tables"] d):(fk 2 d ["tables"] (sO K)):=by
 exists["tables","found","table"]
 obtain⟨l,xs,ts,n,rfl,hl,ht,hb,hz,hn,q⟩:=h;refine⟨_,(ag (aA 1 (aN (FU (ah _) (FU (ah _) (FU (ah _) (aI (ah _) br) br) br) br))) (ag (bG (aR (0)) (ao 2) (ai (aA 1 (bw zi.1 zi.2 (FU (1) (aI (2) aF) aF))))) (ai (aJ (1))))),?_⟩
 walk_at "d"
 refine⟨aw (by show 4<=1000000;decide),λf hf=>?_⟩;refine⟨_,rfl,l,rfl,⟨xs,(af hf _).seq hl⟩,?_⟩;refine fh (K:=K) (xs:=xs) (λi σ H'=>∃v o,σ=[some (.ref l),some v,o]/\FZ H H'/\D4 H' v (eY (ts.take i))) ⟨.ref f,none,rfl,af hf _,⟨f,rfl,ae⟩⟩ (λi σ H' hi z=>by obtain⟨_,_,_,e,_⟩:=z;exact e.seq hl) (λi x σ H' hx z=>?_) (fun σ H' z=>?_)
 ·obtain⟨v,o,rfl,e1,e2⟩:=z;obtain⟨t,et,h4⟩:=ht.get hx;have hi:i<ts.length:=(Be.mp et).1;have bl:(n+1)*i+1<=1048576:=by
   have:(n+1)*i<=(n+1)*ts.length:=DQ _ (by lia);lia
  refine⟨_,rfl,_,rfl,v,x,eY (ts.take i),t,(n+1)*i+1,n,rfl,e2.t4,h4.mono e1,kU hb i,hb t (Bp et),bl,hn,λr H2 S2 h2=>?_⟩;refine⟨r,_,rfl,e1.trans S2,?_⟩;rw[Bw,et];show D4 H2 r (eY (ts.take i++[t]));rw[fV];exact h2
 ·obtain⟨v,o,rfl,e1,e2⟩:=z;refine⟨v,rfl,q v H' e1 ?_⟩;rw[ht.length,BW] at e2;exact e2
def qW (c:Nat):Prop:=c=108\/c=114\/c=117\/c=118\/c=85\/c=86
def dN (c:Nat):Tb:=if c=108 then ⟨1,0,1,1⟩ else if c=114 then ⟨1,1,0,1⟩ else if c=117 then ⟨1,2,0,1⟩ else if c=118 then ⟨1,0,2,1⟩ else if c=85 then ⟨1,-2,0,1⟩ else ⟨1,0,-2,1⟩
theorem uH{c:Nat}(h:qW c):Bd 2 (dN c):=by
 rcases h with rfl|rfl|rfl|rfl|rfl|rfl<;>exact⟨by show _<4;decide,by show _<4;decide,by show _<4;decide,by show _<4;decide⟩
def vV (K:W.Frag):Sp:=λvs H Q _=>∃z:Str,vs=[.str z]/\z.cps.size<=1000/\(∀c∈z.cps.toList,qW c)/\∀r H',FZ H H'->D4 H' r (eY (z.cps.toList.map dN))->Q r H'
theorem rC{z:Str}(h:∀c∈z.cps.toList,qW c):z.cps.all (·<128)=true:=by
 rw[<- Array.all_toList,Cp];intro c hc;rcases h c hc with rfl|rfl|rfl|rfl|rfl|rfl<;>rfl
def adr (t1 t2 t3 t4 t5 t6:Addr)(c:Nat):Addr:=if c=108 then t1 else if c=114 then t2 else if c=117 then t3 else if c=118 then t4 else if c=85 then t5 else t6
def mT (t1 t2 t3 t4 t5 t6:Addr):A6:=cB (cB [] [(.inr "l",.ref t1),(.inr "r",.ref t2),(.inr "u",.ref t3),(.inr "v",.ref t4)]) (cB [] [(.inr "U",.ref t5),(.inr "V",.ref t6)])
theorem qZ(t1 t2 t3 t4 t5 t6:Addr)(c:Nat)(h:qW c):cg (mT t1 t2 t3 t4 t5 t6) (.inr ⟨#[c]⟩)=some (.ref (adr t1 t2 t3 t4 t5 t6 c)):=by
 rcases h with rfl|rfl|rfl|rfl|rfl|rfl<;>kernel_rfl
theorem sT{H:Hp}{f:Nat->V}:∀{cs:A7},(∀c∈cs,qW c)->(∀c,qW c->D4 H (f c) (dN c))->TL K H (cs.map f) (cs.map dN)
 |[],_,_=>.nil
 |c::r,h,g=>.cons (g c (h c AZ)).t4 (sT (λc hc=>h c (Bg _ hc)) g)
theorem xg{dm d:DD}(zO:(dg "_law_made" 39 ["tables"] dm 2 (sO K)))(D:Def K mg "_law_of_letters" (top 40) ["word"] d):(fk 3 d ["word"] (vV K)):=by
 exists["word","letters"]
 obtain⟨z,rfl,hz,hl,q⟩:=h;refine⟨_,(ag (ad 1 (pY (cV (aU _) (aN (FU (ah _) (FU (ah _) (FU (ah _) (aI (ah _) br) br) br) br)) (cV (aU _) (aN (FU (ah _) (FU (ah _) (FU (ah _) (aI (ah _) br) br) br) br)) (cV (aU _) (aN (FU (ah _) (FU (ah _) (FU (ah _) (aI (ah _) br) br) br) br)) (cV (aU _) (aN (FU (ah _) (FU (ah _) (FU (ah _) (aI (ah _) br) br) br) br)) (@oJ _ _))))) (by simp))) (ag (bT (jd PySem.F.plainAttrs_dict PySem.F.slot_dict_update PySem.F.type_dict_update Kt (1) (aI (pY (cV (aU _) (aN (FU (ah _) (FU (qA Jt (ah _)) (FU (ah _) (aI (ah _) br) br) (by rfl)) br)) (cV (aU _) (aN (FU (ah _) (FU (ah _) (FU (qA Jt (ah _)) (aI (ah _) br) (by rfl)) br) br)) (@oJ _ _))) (by simp)) (by rfl)))) (ai (aJ (cK zO.1 zO.2 (aY (aq (ts:=["letter"]) (cap:=["letters"]) (js:=[1]) rfl rfl rfl rfl rfl rfl (by decide +kernel)) (iN (0)) (am 0 (nd ["letter","letters"])) (@aV _) (hV (cZ hr) (1) (0))) (by rfl)))))),?_⟩
 walk_at "d"
 have l4:(4:Nat)<=sizeLine:=aw (by decide);refine λd hd=>?_;refine⟨l4,λt1 h1=>⟨l4,λt2 h2=>⟨l4,λt3 h3=>⟨l4,λt4 h4=>?_⟩⟩⟩⟩;have F4:=((((Hs.start H).new hd (.dK [])).new h1 (.tup (Tb.mk 1 0 1 1).vs)).new h2 (.tup (Tb.mk 1 1 0 1).vs)).new h3 (.tup (Tb.mk 1 2 0 1).vs) |>.new h4 (.tup (Tb.mk 1 0 2 1).vs);refine⟨F4.get 0,[(.inr "l",.ref t1),(.inr "r",.ref t2),(.inr "u",.ref t3),(.inr "v",.ref t4)],rfl,Nat.le_of_ble_eq_true rfl,?_⟩;have F5:=F4.put 0 (.dK (cB [] [(.inr "l",.ref t1),(.inr "r",.ref t2),(.inr "u",.ref t3),(.inr "v",.ref t4)]));refine⟨_,rfl,.inr (.inr (.inl ⟨rfl,.inl ⟨_,ae⟩⟩)),λe he=>?_⟩;refine⟨_,rfl,l4,λt5 h5=>⟨_,rfl,l4,λt6 h6=>?_⟩⟩;have F8:=((F5.new he (.dK [])).new h5 (.tup (Tb.mk 1 (-2) 0 1).vs)).new h6 (.tup (Tb.mk 1 0 (-2) 1).vs);refine⟨F8.get 5,[(.inr "U",.ref t5),(.inr "V",.ref t6)],rfl,Nat.le_of_ble_eq_true rfl,?_⟩;have F9:=F8.put 5 (.dK (cB [] [(.inr "U",.ref t5),(.inr "V",.ref t6)]));refine⟨d,e,_,_,rfl,rfl,F9.ne 0 5 (by decide),F9.get 0,F9.get 5,aw (by show 6<=1000000;decide),?_⟩;have FA:=F9.put 0 (.dK (mT t1 t2 t3 t4 t5 t6));refine⟨_,rfl,z,rfl,rC hl,?_⟩;have okc:∀c,qW c->cg (mT t1 t2 t3 t4 t5 t6) (.inr ⟨#[c]⟩)=some (.ref (adr t1 t2 t3 t4 t5 t6 c)):=qZ t1 t2 t3 t4 t5 t6;have okt:∀c,qW c->D4 _ (.ref (adr t1 t2 t3 t4 t5 t6 c)) (dN c):=λc h=>by
  rcases h with rfl|rfl|rfl|rfl|rfl|rfl
  ·exact⟨_,rfl,FA.get 1⟩
  ·exact⟨_,rfl,FA.get 2⟩
  ·exact⟨_,rfl,FA.get 3⟩
  ·exact⟨_,rfl,FA.get 4⟩
  ·exact⟨_,rfl,FA.get 6⟩
  ·exact⟨_,rfl,FA.get 7⟩
 have gd:=FA.get 0;have all:=FA.all;refine vY (z:=z) (λi ys H'=>H'=_/\ys=(z.cps.toList.take i).map λc=>V.ref (adr t1 t2 t3 t4 t5 t6 c)) ⟨rfl,rfl⟩ (λi ys H' hi y=>by rw[y.2,AU,Bs];lia) (aw (by lia)) (λi c ys H' hc y=>?_) (λys H' y p hp=>?_)
 ·obtain⟨rfl,rfl⟩:=y;have hi:i<z.cps.size:=(EL.mp hc).1;have B9:z.cps.toList[i]?=some c:=by rw[Bn];exact hc
  have lc:=hl c (Bp B9);refine⟨_,rfl,_,rfl,d,.ref (adr t1 t2 t3 t4 t5 t6 c),rfl,?_,Nx.mk hi ⟨rfl,?_⟩⟩
  ·have:=HE.k (k:=Sum.inr ⟨#[c]⟩) gd;rw[okc c lc] at this;exact this
  ·rw[Bw,B9,Bi];rfl
 ·obtain⟨rfl,rfl⟩:=y;have e1:z.cps.toList.take z.cps.size=z.cps.toList:=BB (by rw[Bk];exact AS _);rw[e1];refine⟨p,_,z.cps.toList.map dN,2,rfl,a9.of ae,sT hl λc hc=>(okt c hc).mono (af hp _),λt ht=>?_,?_,by decide,λr H' S h4=>q r H' (all.trans ((af hp _).trans S)) h4⟩
  ·obtain⟨c,hc,rfl⟩:=AW.mp ht;exact uH (hl c hc)
  ·rw[AU,Bk];lia
def nv (K:W.Frag):Sp:=λvs H Q _=>∃(a:Addr)(ns:B3)(k:Int),vs=[.ref a,.int k]/\a9 K H a (ns.map V.int)/\0<=k/\k<=100/\∀l H',FZ H H'->H l=none->Ds H' l->Q (.ref l) H'
def Iu:B3:=[2147483647,2147483629,2147483587,2147483579,2147483563,2147483549,2147483543,2147483497]
def dG (c k:Int):Int:=(c % 2147483423+3*k+1)*(48271+2*k*k) % 2147483423
def rm (c k:Int):Int:=dG c k*dG c k*dG c k % 2147483399+k+1
theorem rQ{d:DD}(D:Def K mg "_law_draws" (top 34) ["script","k"] d)(yQ:mg "len"=none)(zP:mg "int"=none):(fk 1 d ["script","k"] (nv K)):=by
 exists["script","k","primes","cell","seed"]
 obtain⟨a,ns,k,rfl,ha,k0,k1,q⟩:=h;obtain⟨tr,hR,qR⟩:∃t,K6 (cj Ml P w K mg base ["script","k","primes","cell","seed"] "_law_draws" (ar (top 34)) d.f l6 A outer s H E).Pb ((bE (top 34)).drop 3) t /\
   ∀(c:Int)(p:Addr),H p=none->t {nx:=λ_ H'=>Q .f6 H',rt:=Q} [some (.ref a),some (.int k),some (.ref p),some (.int c),none] (upd H p (.tup (Iu.map V.int))):=by
  refine⟨_,(ag (aA 4 (aB GJ (aB GQ (aB Gk (aB Gk (aB GJ (3) (ah _)) (aB GQ (ah _) (1))) (ah _)) (aB Gk (ah _) (aB GQ (aB GQ (ah _) (1)) (1)))) (ah _))) (ag (aA 4 (aB Gk (aB Gk (aB GJ (aB GQ (aB GQ (4) (4)) (4)) (ah _)) (1)) (ah _))) (ai (aJ (bj (FU (aB GQ (3) (ba KC zP LH (aI (dE KL (3) (aB Jy (ah _) (ah _)) (aE _)) (by rfl)))) (FU (4) (aI (aW Hn (2) (aB GJ (1) (ah _))) (by rfl)) aF) (by rfl))))))),λc p hp=>?_⟩;have c0:=CV c (show(2147483423:Int)≠0 by decide);have c1:=CW c (show(0:Int)<2147483423 by decide);refine⟨_,rfl,_,_,rfl,rfl,(show(0:Int)<2147483423 by decide),_,rfl,_,_,rfl,rfl,.inl ⟨by decide,by decide⟩,_,_,rfl,rfl,_,_,rfl,rfl,_,rfl,_,_,rfl,rfl,.inl ⟨by decide,by decide⟩,_,rfl,_,_,rfl,rfl,.inl ⟨by lia,by lia⟩,_,_,rfl,rfl,_,_,rfl,rfl,.inl ⟨by lia,by lia⟩,_,_,rfl,rfl,(show(0:Int)<2147483423 by decide),?_⟩;have z0:0<=dG c k:=CV _ (by decide);have z1:dG c k<2147483423:=CW _ (by decide);have zz0:0<=dG c k*dG c k:=Int.mul_nonneg z0 z0;have zz1:dG c k*dG c k<2^64:=Int.lt_of_le_of_lt (Int.mul_le_mul (Int.le_of_lt z1) (Int.le_of_lt z1) z0 (by decide)) (by decide);refine⟨_,rfl,_,rfl,_,_,rfl,rfl,.inl ⟨?_,?_⟩,_,rfl,_,_,rfl,rfl,.inl ⟨?_,?_⟩,_,_,rfl,rfl,(show(0:Int)<2147483399 by decide),_,rfl,_,_,rfl,rfl,_,_,rfl,rfl,?_⟩
  ·exact Int.lt_of_lt_of_le (by decide) z0
  ·exact Int.lt_trans z1 (by decide)
  ·exact Int.lt_of_lt_of_le (by decide) zz0
  ·exact zz1
  have y0:1<=rm c k/\rm c k<=2147483648:=by
   have:=CV (dG c k*dG c k*dG c k) (show(2147483399:Int)≠0 by decide);have:=CW (dG c k*dG c k*dG c k) (show(0:Int)<2147483399 by decide);unfold rm;lia
  have g8:0<=k % 8/\k % 8<8:=⟨CV _ (by decide),CW _ (by decide)⟩
  have pr:∃r:Int,B5 (Iu.map V.int) (k % 8)=some (.int r)/\1000000000<=r/\r<=2147483647:=by
   generalize k % 8=j at g8;have:j=0\/j=1\/j=2\/j=3\/j=4\/j=5\/j=6\/j=7:=by lia
   rcases this with rfl|rfl|rfl|rfl|rfl|rfl|rfl|rfl<;>exact⟨_,rfl,by decide,by decide⟩
  obtain⟨r,er,r0,r1⟩:=pr;refine⟨_,rfl,_,rfl,_,_,rfl,rfl,⟨by decide,by decide,by decide⟩,_,_,rfl,rfl,.inr ⟨_,rfl,_,_,rfl,rfl,.inr ⟨?_,?_⟩,_,rfl,_,rfl,_,rfl,_,_,rfl,rfl,(show(0:Int)<8 by decide),p,_,_,_,rfl,rfl,i5.of ae,er,aw (by show 3<=1000000;decide),λl hl=>?_⟩⟩
  ·split<;>decide
  ·split<;>decide
  have S1:=af hp (.tup (Iu.map V.int));exact q l _ (S1.trans (af hl _)) (S1.free hl) ⟨_,rm c k,r,ae,y0.1,y0.2,r0,r1⟩
 refine⟨_,(ag (aA 2 (aN (FU (ah _) (FU (ah _) (FU (ah _) (FU (ah _) (FU (ah _) (FU (ah _) (FU (ah _) (aI (ah _) br) br) br) br) br) br) br) br))) (ag (aA 3 (aB Gk (aB GQ (ah _) (1)) (ah _))) (ag (bx (ay IH (1) (aL FW yQ (0) aF) (aE _)) (ai (aA 3 (aB GJ (aW Ga (0) (1)) (aB fK (aB Jy (ah _) (ah _)) (aB Jy (ah _) (ah _)))))) (ai (bx (ay HZ (aL FW yQ (0) aF) (ah _) (aE _)) (ai (aA 3 (aB Gk (aB GJ (aW Ga (0) (aB GJ (1) (aL FW yQ (0) aF))) (aB Jy (ah _) (ah _))) (aB GQ (ah _) (1))))) (Gb _)))) hR))),?_⟩
 walk_at "d"
 refine⟨aw (by show 8<=1000000;decide),λp hp=>?_⟩;have S1:=af hp (.tup (Iu.map V.int));have OV:a9 K (upd H p (.tup (Iu.map V.int))) a (ns.map V.int):=S1.seq ha;have hl:(ns.map V.int).length=ns.length:=AU _;refine⟨_,rfl,_,_,rfl,rfl,.inl ⟨by decide,by decide⟩,_,_,rfl,rfl,?_⟩;refine⟨_,rfl,_,rfl,a,_,rfl,.inl OV,_,_,rfl,rfl,_,rfl,vk (λh1=>?_) (λh1=>?_)⟩
 ·have C1:k<(((ns.map V.int).length:Nat):Int):=Fu h1;rw[hl] at C1;obtain⟨v,ev⟩:∃v:Int,B5 (ns.map V.int) k=some (.int v):=by
   have hk:k.toNat<ns.length:=by lia
   have ek:k=((k.toNat:Nat):Int):=by lia
   have e:=bK (xs:=ns.map V.int) (j:=k.toNat) (v:=.int ns[k.toNat]) (by rw[Bo,AX hk];rfl);rw[<- ek] at e;exact⟨ns[k.toNat],e⟩
  refine⟨_,rfl,_,rfl,a,_,_,_,rfl,rfl,OV,ev,_,_,rfl,rfl,⟨by decide,by decide,by decide⟩,_,_,rfl,rfl,⟨by decide,by decide,by decide⟩,_,_,rfl,rfl,D5.big (n:=200) (m:=200) (by show(10^60:Int).natAbs<2^200;decide) (by show(10^60:Int).natAbs<2^200;decide) (by decide) (by decide),_,_,rfl,rfl,(show(0:Int)<10^60*10^60 by decide),?_⟩;exact qR _ p hp
 ·refine⟨_,rfl,a,_,rfl,.inl OV,_,_,rfl,rfl,_,rfl,vk (λh2=>?_) (λh2=>?_)⟩
  ·have z8:(0:Int)<(((ns.map V.int).length:Nat):Int):=Fu h2;rw[hl] at z8;have m0:=CV k (show(ns.length:Int)≠0 by lia);have m1:=CW k z8;obtain⟨v,ev⟩:∃v:Int,B5 (ns.map V.int) (k % (((ns.map V.int).length:Nat):Int))=some (.int v):=by
    rw[hl];generalize k % (ns.length:Int)=j at m0 m1;have hk:j.toNat<ns.length:=by lia
    have ek:j=((j.toNat:Nat):Int):=by lia
    have e:=bK (xs:=ns.map V.int) (j:=j.toNat) (v:=.int ns[j.toNat]) (by rw[Bo,AX hk];rfl);rw[<- ek] at e;exact⟨ns[j.toNat],e⟩
   refine⟨_,rfl,_,rfl,_,rfl,a,_,rfl,.inl OV,_,_,rfl,rfl,(show(0:Int)<(((ns.map V.int).length:Nat):Int) by rw[hl];exact z8),a,_,_,_,rfl,rfl,OV,ev,_,_,rfl,rfl,⟨by decide,by decide,by decide⟩,_,_,rfl,rfl,(show(0:Int)<10^15 by decide),_,rfl,_,_,rfl,rfl,.inl ⟨by decide,by decide⟩,_,_,rfl,rfl,?_⟩;exact qR _ p hp
  ·exact qR _ p hp
end
theorem Tb.ext'{s t:Tb}(h1:s.a=t.a)(h2:s.b=t.b)(h3:s.c=t.c)(h4:s.d=t.d):s=t:=by
 cases s;cases t;simp only at h1 h2 h3 h4;subst h1 h2 h3 h4;rfl
theorem mI(s t u:Tb):(s.mul t).mul u=s.mul (t.mul u):=by
 apply Tb.ext'<;>simp only[Tb.mul]<;>grind
theorem sA(t:Tb):Tb.one.mul t=t:=by
 apply Tb.ext'<;>simp only[Tb.mul,Tb.one]<;>grind
theorem rg(t:Tb):t.mul Tb.one=t:=by
 apply Tb.ext'<;>simp only[Tb.mul,Tb.one]<;>grind
def wt:A7->Tb
 |[]=>Tb.one
 |c::r=>(dN c).mul (wt r)
theorem uA(ts:List Tb):∀s:Tb,ts.foldl Tb.mul s=s.mul (ts.foldr Tb.mul Tb.one):=by
 induction ts with
 |nil=>intro s;exact(rg s).symm
 |cons t r ih=>intro s;rw[Dj,ih,List.foldr_cons,mI]
theorem lJ(cs:A7):eY (cs.map dN)=wt cs:=by
 unfold eY;rw[uA,sA];induction cs with
 |nil=>rfl
 |cons c r ih=>rw[Bm,List.foldr_cons,ih];rfl
def HM (c:Nat):Prop:=c=108\/c=114
theorem HM.lt{c:Nat}(h:HM c):qW c:=by
 rcases h with rfl|rfl
 ·exact .inl rfl
 ·exact .inr (.inl rfl)
structure Plain(t:Tb):Prop where
 a:0<=t.a
 b:0<=t.b
 c:0<=t.c
 d:0<=t.d
 w:t.a*t.d-t.b*t.c=1
theorem qI(t:Tb):(dN 108).mul t=⟨t.a,t.b,t.a+t.c,t.b+t.d⟩:=by
 apply Tb.ext'<;>simp only[Tb.mul,dN,Fn]<;>grind
theorem rR(t:Tb):(dN 114).mul t=⟨t.a+t.c,t.b+t.d,t.c,t.d⟩:=by
 apply Tb.ext'<;>simp[Tb.mul,dN]<;>grind
theorem Plain.l{t:Tb}(h:Plain t):Plain ((dN 108).mul t):=by
 rw[qI];exact⟨h.a,h.b,by have:=h.a;have:=h.c;show 0<=t.a+t.c;lia,by have:=h.b;have:=h.d;show 0<=t.b+t.d;lia,by have:=h.w;show t.a*(t.b+t.d)-t.b*(t.a+t.c)=1;grind⟩
theorem Plain.r{t:Tb}(h:Plain t):Plain ((dN 114).mul t):=by
 rw[rR];exact⟨by have:=h.a;have:=h.c;show 0<=t.a+t.c;lia,by have:=h.b;have:=h.d;show 0<=t.b+t.d;lia,h.c,h.d,by have:=h.w;show(t.a+t.c)*t.d-(t.b+t.d)*t.c=1;grind⟩
theorem Kd:Plain Tb.one:=⟨by decide,by decide,by decide,by decide,by decide⟩
theorem Hv:∀{cs:A7},(∀c∈cs,HM c)->Plain (wt cs)
 |[],_=>Kd
 |c::r,h=>by
  have ih:=Hv (cs:=r) λc hc=>h c (Bg _ hc);rcases h c AZ with rfl|rfl
  ·exact ih.l
  ·exact ih.r
theorem Plain.top{t:Tb}(h:Plain t):1<=t.a+t.b:=by
 have:=h.a;have:=h.b;by_cases z:t.a=0/\t.b=0
 ·have:=h.w;rw[z.1,z.2] at this;lia
 ·lia
theorem Plain.low{t:Tb}(h:Plain t):1<=t.c+t.d:=by
 have:=h.c;have:=h.d;by_cases z:t.c=0/\t.d=0
 ·have:=h.w;rw[z.1,z.2] at this;lia
 ·lia
def Tb.sum(t:Tb):Int:=t.a+t.b+t.c+t.d
theorem LR:∀{cs:A7},(∀c∈cs,HM c)->(cs.length:Int)+2<=Tb.sum (wt cs)
 |[],_=>by show((0:Nat):Int)+2<=2;decide
 |c::r,h=>by
  have h':=λc hc=>h c (Bg _ hc);have ih:=LR (cs:=r) h';have p:=Hv (cs:=r) h';have e1:=p.top;have e2:=p.low;unfold Tb.sum at ih ⊢;rw[Bl];show((r.length+1:Nat):Int)+2<=((dN c).mul (wt r)).a+((dN c).mul (wt r)).b+((dN c).mul (wt r)).c+((dN c).mul (wt r)).d;rcases h c AZ with rfl|rfl
  ·rw[qI];show((r.length+1:Nat):Int)+2<=(wt r).a+(wt r).b+((wt r).a+(wt r).c)+((wt r).b+(wt r).d);lia
  ·rw[rR];show((r.length+1:Nat):Int)+2<=((wt r).a+(wt r).c)+((wt r).b+(wt r).d)+(wt r).c+(wt r).d;lia
theorem xm{cs:A7}(h:∀c∈cs,HM c)(e:wt cs=Tb.one):cs=[]:=by
 have:=LR h;rw[e] at this;have z:Tb.sum Tb.one=2:=rfl;rw[z] at this;exact BM.mp (by lia)
theorem tW{t:Tb}(h:Plain t):((dN 108).mul t).c≥((dN 108).mul t).a/\((dN 108).mul t).d≥((dN 108).mul t).b:=by
 rw[qI];have:=h.c;have:=h.d;show t.a+t.c≥t.a/\t.b+t.d≥t.b;lia
theorem ua{t:Tb}(h:Plain t):¬(((dN 114).mul t).c≥((dN 114).mul t).a/\((dN 114).mul t).d≥((dN 114).mul t).b):=by
 rw[rR];have:=h.a;have:=h.b;have:=h.top;show ¬(t.c≥t.a+t.c/\t.d≥t.b+t.d);lia
theorem xR{c:Nat}(h:HM c):Bd 1 (dN c):=by
 rcases h with rfl|rfl<;>exact⟨by show _<2;decide,by show _<2;decide,by show _<2;decide,by show _<2;decide⟩
section
variable {P:Program}{w:World}{K:PySem.W.Frag}{mg:Str->Option Value}{base:Heap}
def eQ (t:Tb):Bool:=decide (0<=t.a/\0<=t.b/\0<=t.c/\0<=t.d)&&decide (t.worth=1)
theorem JD{t:Tb}:eQ t=true↔Plain t:=by
 unfold eQ;rw[BQ,decide_eq_true_iff,decide_eq_true_iff];refine⟨λW9=>?_,λh=>⟨⟨h.a,h.b,h.c,h.d⟩,h.w⟩⟩;obtain⟨⟨h1,h2,h3,h4⟩,h5⟩:=W9;exact⟨h1,h2,h3,h4,h5⟩
theorem xV{H:Hp}{a:Addr}{t:Tb}(e:H a=some (.tup t.vs)):Th H (.ref a) true:=
 (Th.tup e λx hx=>by
  unfold Tb.vs at hx;simp only[Bb,BE,or_false] at hx
  rcases hx with rfl | rfl | rfl | rfl <;> exact .int _:Th H (.ref a) (t.vs.length == 4 && t.vs.all HR))
def KG:Sp:=λvs H Q _=>∃v t n,vs=[v]/\D4 H v t/\Bd n t/\n<=1048576/\∀H',FZ H H'->Q (.bl (eQ t)) H'
theorem KQ:FX ["table"] ["table"] (ar (top 10)):=by walk_at "s"
theorem se{di dw d:DD}(zY:(dg "is_table" 7 ["thing"] di 2 Ij))(zj:(dg "worth" 8 ["table"] dw 1 (pS K)))(D:Def K mg "is_plain" (top 10) ["table"] d)(zl:mg "min"=none):(fk 3 d ["table"] KG):=by
 refine D.fn.ok KQ (λvs H Q E h=>?_) (λl6 A outer s H vs Q E hr h=>?_)
 ·obtain⟨v,t,n,rfl,_⟩:=h;rfl
 obtain⟨v,t,n,rfl,⟨a,rfl,ha⟩,hb,hn,q⟩:=h;have hc:=hr.calm;refine⟨_,(ai (aJ (iQ (cK zY.1 zY.2 (0) aF) (iQ (dE KL (aQ (qj hc) zl Kb (aI (0) aF)) (ah _) (aE _)) (@nr _ _ _ _ _ (dE GV (cK zj.1 zj.2 (0) aF) (ah _) (aE _))))))),?_⟩
 walk_at "d"
 refine⟨_,rfl,.ref a,true,rfl,xV ha,λH1 S1=>⟨true,rfl,?_⟩⟩;refine⟨_,rfl,a,[t.a,t.b,t.c,t.d],rfl,i5.of (S1 _ _ ha),(λz=>by cases z),λm hm z5=>?_⟩;have Qh:=z5 t.a (by simp);have C7:=z5 t.b (by simp);have B9:=z5 t.c (by simp);have OD:=z5 t.d (by simp);refine⟨_,_,rfl,rfl,decide (m≥0),rfl,vk (λh1=>?_) (λh1=>?_)⟩
 ·have C1:m≥0:=Fu h1;refine⟨_,rfl,.ref a,t,n,rfl,⟨a,rfl,i5.of (S1 _ _ ha)⟩,hb,hn,rfl,?_⟩;have e:decide (V.int t.worth=V.int 1)=eQ t:=by
   unfold eQ;rw[Fo (show 0<=t.a/\0<=t.b/\0<=t.c/\0<=t.d by lia),Bool.true_and];exact decide_eq_decide.mpr ⟨λh=>by injection h,λh=>by rw[h]⟩
  have z:=q H1 S1;rw[<- e] at z;exact z
 ·have C1:¬m≥0:=of_decide_eq_false (DM.mpr h1);have e:false=eQ t:=by
   have:¬(0<=t.a/\0<=t.b/\0<=t.c/\0<=t.d):=λW8=>by
    obtain⟨a1,a2,a3,a4⟩:=W8;simp only[Bb,BE,or_false] at hm;rcases hm with rfl|rfl|rfl|rfl<;>lia
   unfold eQ;rw[Fp this];rfl
  have z:=q H1 S1;rw[<- e] at z;exact z
theorem el:("l":Str)=⟨#[108]⟩:=by decide +kernel
theorem er:("r":Str)=⟨#[114]⟩:=by decide +kernel
def txt (cs:A7):Str:=⟨cs.toArray⟩
abbrev fm(cs:A7):List Str:=cs.map λc=>⟨#[c]⟩
theorem Jv:∀(r:List Str)(a:Array Nat),(r.foldl (λacc p=>acc++("":Str).cps++p.cps) a).toList=a.toList++(r.map (·.cps.toList)).flatten
 |[],a=>by simp
 |x::r,a=>by
  have z:("":Str).cps=#[]:=rfl;rw[Dj,Jv r,z];simp
theorem rG(zs:List Str):(Txt.join "" zs).cps.toList=(zs.map (·.cps.toList)).flatten:=by
 cases zs with
 |nil=>rfl
 |cons x r=>exact Jv r x.cps
theorem dv{x y:Str}(h:x.cps.toList=y.cps.toList):x=y:=by
 obtain⟨⟨x⟩⟩:=x;obtain⟨⟨y⟩⟩:=y;simp only at h;subst h;rfl
theorem ja(cs:A7):Txt.join "" (fm cs)=txt cs:=by
 apply dv;rw[rG,Bx];show _=cs;induction cs with
 |nil=>rfl
 |cons c r ih=>rw[Bm,EA,ih];rfl
theorem HP:∀(cs:A7),((fm cs).map (·.length)).sum=cs.length
 |[]=>rfl
 |c::r=>by
  show 1+((fm r).map (·.length)).sum=r.length+1;rw[HP r];lia
def NM:Sp:=λvs H Q _=>∃v cs m,vs=[v,.int ((m:Nat):Int)]/\m<=10000/\(∀c∈cs,HM c)/\D4 H v (wt cs)/\(cs.length<=m->∀H',FZ H H'->Q (.str (txt cs)) H')/\(m<cs.length->∀H',FZ H H'->Q .f6 H')
theorem tN(t u:Tb)(h:t≠u):PyData.eqv t.dat u.dat=false:=by
 obtain⟨a,b,c,d⟩:=t;obtain⟨e,f,g,i⟩:=u;show(a==e&&(b==f&&(c==g&&(d==i&&true))))=false;rw[DM];intro z;simp only[BQ,FT,Bool.and_true] at z;obtain⟨rfl,rfl,rfl,rfl⟩:=z;exact h rfl
theorem yd{d:DD}{one:Addr}(AR:mg "ONE"=some (.ref one))(k_one:∀H,i5 K H one Tb.one.vs)(D:Def K mg "word_within" (top 11) ["table","most"] d)(yQ:mg "len"=none):(fk 1 d ["table","most"] NM):=by
 exists["table","most","a","b","c","d","letters"]
 obtain⟨v,cs,m,rfl,hm,LS,⟨a,rfl,ha⟩,q1,q2⟩:=h;refine⟨_,(ag (eR (0) (dM (aD (ao 2) (aD (ao 3) (aD (ao 4) (aD (ao 5) (@Gr _))))))) (ag (aA 6 (bj (@Ge _))) (ag (cR (ay (fN hr.units) (aN (FU (2) (FU (3) (FU (4) (aI (5) aF) aF) aF) aF)) (iy (.ref one) AR rfl) (aE _)) (ag (bx (ay GV (aL FW yQ (6) aF) (1) (aE _)) (ai (aJ (eM _))) (Gb _)) (ai (bx (@PW.pt _ _ _ (cG (ay KL (4) (2) (aE _)) (bS (ay KL (5) (3) (aE _))))) (ag (bT (kD (6) (aU _) br)) (ai (oF 4 5 (FU (aB HL (4) (2)) (aI (aB HL (5) (3)) (by rfl)) (by rfl))))) (ag (bT (kD (6) (aU _) br)) (ai (oF 2 3 (FU (aB HL (2) (4)) (aI (aB HL (3) (5)) (by rfl)) (by rfl))))))))) (ai (aJ (oY (6) aF)))))),?_⟩
 walk_at "d"
 refine⟨_,rfl,a,_,rfl,i5.of ha,rfl,_,_,rfl,_,_,rfl,_,_,rfl,_,_,rfl,rfl,?_⟩;refine⟨aw (by show 0<=1000000;decide),λL nL=>?_⟩;have F0:=(Hs.start H).new nL (.lst []);refine⟨λk σ H'=>∃i,k=cs.length-i/\i<=cs.length/\i<=m/\σ=[some (.ref a),some (.int m),some (.int (wt (cs.drop i)).a),some (.int (wt (cs.drop i)).b),some (.int (wt (cs.drop i)).c),some (.int (wt (cs.drop i)).d),some (.ref L)]/\Hs H [(L,.lst ((fm (cs.take i)).map V.str))] H',⟨_,0,rfl,Bj _,Bj _,rfl,F0⟩,λk σ H' z=>?_⟩;obtain⟨i,rfl,hi,him,rfl,F⟩:=z;refine⟨_,rfl,_,rfl,_,rfl,_,rfl,aw (by show 4<=1000000;decide),λp np=>?_⟩;have F1:=F.mono (af np (.tup (wt (cs.drop i)).vs));have dt:Hl K (upd H' p (.tup (wt (cs.drop i)).vs)) (.ref p) (wt (cs.drop i)).dat:=T4.dat ⟨p,rfl,i5.of ae⟩;have d1:∀H,Hl K H (.ref one) Tb.one.dat:=λH=>T4.dat ⟨one,rfl,k_one H⟩;have lt':∀c∈cs.drop i,HM c:=λc hc=>LS c (Cr hc);by_cases hend:i=cs.length
 ·
  have e0:cs.drop i=[]:=List.drop_eq_nil_of_le (by lia);rw[e0] at dt F1 ⊢;refine⟨Tb.one.dat,Tb.one.dat,dt,d1 _,Tb.lay _,Tb.lay _,Tb.depth _,false,(by rw[Tb.eqv];rfl),?_⟩;have e1:cs.take i=cs:=BB (by lia);rw[e1] at F1;refine⟨rfl,_,rfl,"",L,fm cs,rfl,rfl,a9.of (F1.get 0),?_,?_⟩
  ·rw[HP];have:("":Str).length=0:=rfl;rw[this];lia
  ·rw[ja];exact q1 (by lia) _ F1.all
 ·have d5:i<cs.length:=by lia
  have ed:cs.drop i=cs[i]::cs.drop (i+1):=CL d5;have k8:wt (cs.drop i)≠Tb.one:=λz=>by
   have:=xm lt' z;rw[ed] at this;cases this
  refine⟨_,Tb.one.dat,dt,d1 _,Tb.lay _,Tb.lay _,Tb.depth _,true,(by rw[tN _ _ k8];rfl),?_⟩;refine⟨fun c5 l0=>∃j,j=i+1/\j<=m/\c5=[some (.ref a),some (.int m),some (.int (wt (cs.drop j)).a),some (.int (wt (cs.drop j)).b),some (.int (wt (cs.drop j)).c),some (.int (wt (cs.drop j)).d),some (.ref L)]/\Hs H [(L,.lst ((fm (cs.take j)).map V.str))] l0,fun c5 l0 z=>?_,?_⟩
  ·obtain⟨j,rfl,h1,rfl,F2⟩:=z;exact⟨cs.length-(i+1),by lia,i+1,rfl,d5,h1,rfl,F2⟩
  have ll:((fm (cs.take i)).map V.str).length=i:=by
   rw[AU,AU,Bs];lia
  refine⟨_,rfl,L,_,rfl,.inl (a9.of (F1.get 0)),_,rfl,rfl,_,rfl,vk (λh1=>?_) (λh1=>?_)⟩
  ·have C1:i=m:=by
    have:=Fu h1;injection this with this;rw[ll] at this;lia
   exact q2 (by lia) _ F1.all
  ·have C1:i<m:=by
    have:i≠m:=λz=>h1 (Fo (by rw[ll,z]));lia
   have et:cs.take (i+1)=cs.take i++[cs[i]]:=by rw[Bw,AX d5];rfl
   have ep:Plain (wt (cs.drop (i+1))):=Hv λc hc=>LS c (Cr hc);have ew:wt (cs.drop i)=(dN cs[i]).mul (wt (cs.drop (i+1))):=by rw[ed];rfl
   have lc:HM cs[i]:=LS _ (BG d5);have Wy:((fm (cs.take i)).map V.str).length<sizeLine:=Bq (show _<1000000 by rw[ll];lia) (aw (AS _));generalize hT:wt (cs.drop (i+1))=T at ep ew;generalize hc0:cs[i]=c0 at lc ew et;rw[ew] at dt;rcases lc with rfl|rfl
   ·have f1:=tW ep;rw[qI] at ew f1;rw[ew] at F1 ⊢;simp only at f1;refine⟨_,rfl,_,rfl,_,_,rfl,rfl,true,(by show V.bl (decide (T.a<=T.a+T.c))=_;rw[Fo f1.1]),_,rfl,_,rfl,_,_,rfl,rfl,true,(by show V.bl (decide (T.b<=T.b+T.d))=_;rw[Fo f1.2]),?_⟩;refine⟨_,rfl,.inl ⟨rfl,_,a9.of (F1.get 0)⟩,L,_,_,rfl,rfl,F1.get 0,Wy,?_⟩;refine⟨_,rfl,_,rfl,_,_,rfl,rfl,_,rfl,_,rfl,_,_,rfl,rfl,_,_,rfl,?_⟩;refine⟨_,rfl,C1,?_,?_⟩
    ·rw[hT];show[some (V.ref a),some (V.int ↑m),some (V.int T.a),some (V.int T.b),some (V.int (T.a+T.c-T.a)),some (V.int (T.b+T.d-T.b)),some (V.ref L)]=_;rw[show T.a+T.c-T.a=T.c by lia,show T.b+T.d-T.b=T.d by lia]
    ·have F2:=F1.put 0 (.lst ((fm (cs.take (i+1))).map V.str));rw[et] at F2 ⊢;have e3:(fm (cs.take i++[108])).map V.str=(fm (cs.take i)).map V.str++[.str "l"]:=by
      rw[el];simp[fm]
     rw[e3] at F2 ⊢;exact F2
   ·have f1:=ua ep;rw[rR] at ew f1;rw[ew] at F1 ⊢;simp only at f1;by_cases g1:T.a+T.c<=T.c
    ·have g2:¬T.b+T.d<=T.d:=λz=>f1 ⟨g1,z⟩;refine⟨_,rfl,_,rfl,_,_,rfl,rfl,true,(by show V.bl (decide (T.a+T.c<=T.c))=_;rw[Fo g1]),_,rfl,_,rfl,_,_,rfl,rfl,false,(by show V.bl (decide (T.b+T.d<=T.d))=_;rw[Fp g2]),?_⟩;refine⟨_,rfl,.inl ⟨rfl,_,a9.of (F1.get 0)⟩,L,_,_,rfl,rfl,F1.get 0,Wy,?_⟩;refine⟨_,rfl,_,rfl,_,_,rfl,rfl,_,rfl,_,rfl,_,_,rfl,rfl,_,_,rfl,?_⟩;refine⟨_,rfl,C1,?_,?_⟩
     ·rw[hT];show[some (V.ref a),some (V.int ↑m),some (V.int (T.a+T.c-T.c)),some (V.int (T.b+T.d-T.d)),some (V.int T.c),some (V.int T.d),some (V.ref L)]=_;rw[show T.a+T.c-T.c=T.a by lia,show T.b+T.d-T.d=T.b by lia]
     ·have F2:=F1.put 0 (.lst ((fm (cs.take (i+1))).map V.str));rw[et] at F2 ⊢;have e3:(fm (cs.take i++[114])).map V.str=(fm (cs.take i)).map V.str++[.str "r"]:=by
       rw[er];simp[fm]
      rw[e3] at F2 ⊢;exact F2
    ·refine⟨_,rfl,_,rfl,_,_,rfl,rfl,false,(by show V.bl (decide (T.a+T.c<=T.c))=_;rw[Fp g1]),?_⟩;refine⟨_,rfl,.inl ⟨rfl,_,a9.of (F1.get 0)⟩,L,_,_,rfl,rfl,F1.get 0,Wy,?_⟩;refine⟨_,rfl,_,rfl,_,_,rfl,rfl,_,rfl,_,rfl,_,_,rfl,rfl,_,_,rfl,?_⟩;refine⟨_,rfl,C1,?_,?_⟩
     ·rw[hT];show[some (V.ref a),some (V.int ↑m),some (V.int (T.a+T.c-T.c)),some (V.int (T.b+T.d-T.d)),some (V.int T.c),some (V.int T.d),some (V.ref L)]=_;rw[show T.a+T.c-T.c=T.a by lia,show T.b+T.d-T.d=T.b by lia]
     ·have F2:=F1.put 0 (.lst ((fm (cs.take (i+1))).map V.str));rw[et] at F2 ⊢;have e3:(fm (cs.take i++[114])).map V.str=(fm (cs.take i)).map V.str++[.str "r"]:=by
       rw[er];simp[fm]
      rw[e3] at F2 ⊢;exact F2
def QB (z:Str):Prop:=∀c∈z.cps.toList,HM c
def As (z:Str):Prop:=∀c∈z.cps.toList,c<128
theorem QB.as{z:Str}(h:QB z):As z:=λc hc=>by rcases h c hc with rfl|rfl<;>decide
theorem eJ(z:Str):z.length=z.cps.toList.length:=rfl
theorem jB{z:Str}{n:Int}{c:Nat}(h:c∈(Txt.mul z n).cps.toList):c∈z.cps.toList:=by
 rw[L2.mul_list] at h;obtain⟨l,hl,hc⟩:=EN.mp h;rw[List.eq_of_mem_replicate hl] at hc;exact hc
theorem uC{α:Type}{l:List α}{lo hi:Option Int}{c:α}(h:c∈qv l lo hi):c∈l:=Cr (Cq h)
theorem cM{z:Str}{lo hi:Option Int}{c:Nat}(h:c∈(Txt.slice z lo hi).cps.toList):c∈z.cps.toList:=by
 rw[bZ] at h;exact uC h
theorem dR(x y:Str):(x++y).cps.toList=x.cps.toList++y.cps.toList:=by
 show(x.cps++y.cps).toList=_;rw[BZ]
theorem qb(x y:Str):(x++y).length=x.length+y.length:=by rw[eJ,dR,AV];rfl
theorem fC(z:Str)(n:Int):(Txt.mul z n).length=n.toNat*z.length:=by
 rw[eJ,L2.mul_list,List.length_flatten];simp[eJ]
theorem kW{α:Type}(l:List α)(k:Nat):qv l none (some (k:Int))=l.take k:=by
 unfold qv;rw[HT.Ic,HT.GW,CJ,Dt];rcases Nat.le_total k l.length with h|h
 ·rw[Cs h]
 ·rw[Eo h,BB (AS _),BB h]
theorem gu(z:Str)(k:Nat):(Txt.slice z none (some (k:Int))).length=min k z.length:=by
 rw[eJ,bZ,kW,Bs];rfl
def IQ:Sp:=λvs H Q _=>∃p m,vs=[.ref p,.int m]/\1<=m/\m<=1000/\Ds H p/\∀z H',Dr p H H'->QB z->1<=z.length->(z.length:Int)<=m->Q (.str z) H'
theorem xM{r:Int}(h0:0<=r)(h1:r<2):∃c,("lr":Str).cps[r.toNat]?=some c/\HM c:=by
 have:r=0\/r=1:=by lia
 rcases this with rfl|rfl
 ·exact⟨108,by decide +kernel,.inl rfl⟩
 ·exact⟨114,by decide +kernel,.inr rfl⟩
theorem NF:QB "lr":=by
 have e:("lr":Str).cps.toList=[108,114]:=by decide +kernel
 intro c hc;rw[e] at hc;simp only[Bb,BE,or_false] at hc;exact hc
theorem JC:("lr":Str).length=2:=by decide +kernel
theorem qQ{dd d:DD}(yU:(dg "_law_draw" 35 ["draws","many"] dd 1 Jm))(D:Def K mg "_law_piece" (top 36) ["draws","most"] d)(yP:mg "range"=none):(fk 2 d ["draws","most"] IQ):=by
 exists["draws","most","way","many","text","some"]
 obtain⟨p,m,rfl,m0,m1,hp,q⟩:=h;refine⟨_,(ag (aA 2 (bw yU.1 yU.2 (FU (0) (aI (ah _) br) aF))) (ag (aA 3 (aB Gk (ah _) (bw yU.1 yU.2 (FU (0) (aI (1) aF) aF)))) (ag (aA 4 (oY (aY (aq (ts:=["k"]) (cap:=["draws"]) (js:=[0]) rfl rfl rfl rfl rfl rfl (by decide +kernel)) (aO yP (aI (3) aF)) (am 0 (nd ["k","draws"])) (@aV _) (kj (aU _) (bw yU.1 yU.2 (FU (1) (aI (ah _) br) aF)))) (by rfl))) (ag (aA 5 (bj (FU (4) (FU (aB II (aW Jo (4) (ah _)) (3)) (FU (aX GK (aB II (aU _) (3)) (Gj _) (bu (3))) (aI (aX GK (aB II (aX GK (4) (Gj _) (bu (ah _))) (3)) (Gj _) (bu (3))) (by rfl)) (by rfl)) (by rfl)) aF))) (ai (aJ (aW Ga (5) (2)))))))),?_⟩
 walk_at "d"
 refine⟨_,rfl,p,4,rfl,hp,by decide,by decide,λway H0 w0 w1 dr0=>?_⟩;refine⟨_,rfl,_,rfl,p,m,rfl,dr0.ds,m0,by lia,λr1 H1 a0 a1 dr1=>?_⟩;refine⟨_,_,rfl,rfl,?_⟩;obtain⟨n,en⟩:∃n:Nat,1+r1=((n:Nat):Int):=⟨(1+r1).toNat,by lia⟩
 show sr 3 (V.int (1+r1)) _ _ _;rw[en];have n1:1<=n:=by lia
 have nm:(n:Int)<=m:=by lia
 refine⟨rfl,_,rfl,_,rfl,by lia,by lia,?_⟩;have D1:=dr0.trans dr1;refine sD (lo:=0) (n:=(n:Int).toNat) (λi ys H'=>Dr p H H'/\∃cs:A7,ys=(fm cs).map V.str/\cs.length=i/\∀c∈cs,HM c) ⟨D1,[],rfl,rfl,λn hn=>absurd hn (by simp)⟩ (λi ys H' hi z=>by obtain⟨_,ns,rfl,e,_⟩:=z;rw[AU,AU,e];exact AS _) (aw (by lia)) (λi ys H' hi z=>?_) (λys H' z l hl=>?_)
 ·obtain⟨z1,cs,rfl,z2,z3⟩:=z;refine⟨_,rfl,p,2,rfl,z1.ds,by decide,by decide,λr H2 c0 c1 dr2=>?_⟩;obtain⟨c,ec,lc⟩:=xM c0 c1;refine⟨_,r,c,rfl,rfl,c0,by lia,by rw[JC];lia,ec,Nx.mk hi ⟨z1.trans dr2,cs++[c],?_,by rw[AV,z2];rfl,λx hx=>?_⟩⟩
  ·simp[fm]
  ·rcases Ba.mp hx with y|y
   ·exact z3 x y
   ·have e:x=c:=by simpa using y
    subst e;exact lc
 obtain⟨z1,cs,rfl,z2,z3⟩:=z;have DL:=Dr.new z1.ds hl (.lst ((fm cs).map V.str));refine⟨"",l,fm cs,rfl,rfl,a9.of ae,?_,?_⟩
 ·rw[HP];have:("":Str).length=0:=rfl;rw[this];lia
 rw[ja];have T6:cs.length=n:=by rw[z2,BK]
 have tl:(txt cs).length=n:=T6;have T7:QB (txt cs):=z3;have big:n<=1000:=by lia
 generalize txt cs=text at tl T7;obtain⟨c0,ec0⟩:∃c,B5 text.cps.toList 0=some c:=by
  have h0:0<text.cps.toList.length:=by rw[<- eJ,tl];lia
  exact⟨text.cps.toList[0],bK (j:=0) (AX h0)⟩
 have lc0:HM c0:=T7 c0 (by
  have h0:0<text.cps.toList.length:=by rw[<- eJ,tl];lia
  have:=bK (j:=0) (AX h0);rw[show((0:Nat):Int)=0 from rfl] at this;rw[ec0] at this;injection this with this
  rw[this]; exact BG h0)
 have Lk:∀k:Nat,k<=1000000->k<=sizeLine:=λk hk=>aw hk;have t2:(Txt.slice text none (some 2)).length=min 2 n:=by rw[show(2:Int)=((2:Nat):Int) from rfl,gu,tl]
 have nt:((n:Int)).toNat=n:=BK n;refine⟨_,rfl,_,rfl,text,0,c0,rfl,rfl,Lk _ (by lia),ec0,_,rfl,_,_,rfl,rfl,by lia,by lia,(by show 1*(n:Int).toNat<=16777216;lia),?_⟩;refine⟨_,rfl,_,_,rfl,rfl,by lia,by lia,(by rw[JC];lia),_,rfl,_,rfl,_,rfl,(Lk _ (by rw[fC,JC];lia)),?_⟩;refine⟨_,rfl,_,rfl,_,rfl,Lk _ (by lia),_,rfl,_,_,rfl,rfl,by lia,by lia,(by rw[t2];have:min 2 n<=2:=Ea _ _;have:=En this (AS (n:Int).toNat);lia),_,rfl,_,rfl,_,rfl,(Lk _ (by rw[fC,t2];have:min 2 n<=2:=Ea _ _;have:=En (AS (n:Int).toNat) this;lia)),?_⟩;refine⟨aw (by show 4<=1000000;decide),λL nL=>?_⟩;have DF:=z1.trans (DL.trans (Dr.new DL.ds nL (.lst [.str text,.str (Txt.mul ⟨#[c0]⟩ n),.str (Txt.slice (Txt.mul "lr" n) none (some n)),.str (Txt.slice (Txt.mul (Txt.slice text none (some 2)) n) none (some n))])));have bY:∃z,B5 [V.str text,.str (Txt.mul ⟨#[c0]⟩ n),.str (Txt.slice (Txt.mul "lr" n) none (some n)),.str (Txt.slice (Txt.mul (Txt.slice text none (some 2)) n) none (some n))] way=some (.str z)/\QB z/\z.length=n:=by
  have:way=0\/way=1\/way=2\/way=3:=by lia
  rcases this with rfl|rfl|rfl|rfl
  ·exact⟨_,rfl,T7,tl⟩
  ·refine⟨_,rfl,λc hc=>?_,?_⟩
   ·have:=jB hc;have e:c=c0:=by simpa using this
    rw[e];exact lc0
   ·rw[fC,nt];show n*1=n;lia
  ·refine⟨_,rfl,λc hc=>NF c (jB (cM hc)),?_⟩;rw[gu,fC,nt,JC];lia
  ·refine⟨_,rfl,λc hc=>T7 c (cM (jB (cM hc))),?_⟩;rw[gu,fC,nt,t2];have:1<=min 2 n:=by lia
   have:=En (AS n) this;lia
 obtain⟨z,ez,lz,nz⟩:=bY;refine⟨_,rfl,_,rfl,L,_,_,_,rfl,rfl,a9.of ae,ez,?_⟩;exact q z _ DF lz (by lia) (by lia)
theorem yf{cs:A7}(h:∀c∈cs,HM c):Bd (2*cs.length+1) (wt cs):=by
 have:=kU (n:=1) (ts:=cs.map dN) (λt ht=>by
  obtain⟨c,hc,rfl⟩:=AW.mp ht
  exact xR (h c hc)) cs.length
 rw[BB (by rw[AU];exact AS _),lJ] at this;exact this
def Mn:Sp:=λvs H Q _=>∃v cs,vs=[v]/\(∀c∈cs,HM c)/\1<=cs.length/\cs.length<=40/\D4 H v (wt cs)/\∀H',FZ H H'->Q (.str (txt cs)) H'
theorem wb{cs:A7}(h:1<=cs.length):txt cs≠"":=λz=>by
 have:(txt cs).cps.toList=("":Str).cps.toList:=by rw[z]
 have e:cs=[]:=this;rw[e] at h;exact absurd h (by decide)
theorem wI{dp dw d:DD}{lt:Tok}(m_lm:mg "LONGEST_MAKER"=some (.int 40 lt))(zh:(dg "is_plain" 10 ["table"] dp 3 KG))(D_ww:(dg "word_within" 11 ["table","most"] dw 1 NM))(D:Def K mg "maker_word" (top 15) ["maker"] d):(fk 4 d ["maker"] Mn):=by
 exists["maker","word"]
 obtain⟨v,cs,rfl,LS,h1,hl,h4,q⟩:=h;refine⟨_,(ag (bx (eS (cx (cK zh.1 zh.2 (0) aF))) (ai (@Hy _ _)) (Gb _)) (ag (aA 1 (bw D_ww.1 D_ww.2 (FU (0) (aI (iy (.int 40) m_lm ⟨_,rfl⟩) aF) aF))) (ag (bx (@PW.pt _ _ _ (iM (ay Jn (1) (eM _) (aE _)) (eT (ay GV (1) (aU _) (aE _))))) (ai (@Hy _ _)) (Gb _)) (ai (aJ (1)))))),?_⟩
 walk_at "d"
 refine⟨_,rfl,v,_,_,rfl,h4,yf LS,(by lia),λH1 S1=>⟨eQ (wt cs),rfl,?_⟩⟩;rw[JD.mpr (Hv LS)];refine⟨_,rfl,v,cs,40,rfl,by decide,LS,h4.mono S1,λhl H2 S2=>?_,λOS H2 S2=>absurd OS (by lia)⟩;refine⟨_,rfl,rfl,false,rfl,?_⟩;refine⟨_,rfl,rfl,false,?_,?_⟩
 ·show V.bl (decide (V.str (txt cs)=V.str ""))=_;rw[Fp (λz=>wb h1 (by injection z))]
 exact⟨_,rfl,q H2 (S1.trans S2)⟩
abbrev Jk(H:Hp)(vs:A9)(ws:A2):Prop:=Paired (λv cs=>D4 H v (wt cs)) vs ws
structure E4(ws:A2):Prop where
 n1:1<=ws.length
 n8:ws.length<=8
 lr:∀cs∈ws,∀c∈cs,HM c
 l1:∀cs∈ws,1<=cs.length
 G5:∀cs∈ws,cs.length<=40
abbrev ak(ws:A2):A9:=ws.map λcs=>.str (txt cs)
theorem Jk.at{H:Hp}:∀{vs:A9}{ws:A2}{i:Nat}{v:V},Jk H vs ws->vs[i]?=some v->∃cs,ws[i]?=some cs/\D4 H v (wt cs)
 |_,_,_,_,.nil,e=>by simp at e
 |_,_,0,_,.cons h _,e=>by simp at e;subst e;exact⟨_,rfl,h⟩
 |_,_,i+1,v,.cons _ r,e=>by
  obtain⟨cs,h1,h2⟩:=Jk.at (i:=i) (v:=v) r (by simpa using e);exact⟨cs,by simpa using h1,h2⟩
def KS:Sp:=λvs H Q _=>∃l us ws,vs=[.ref l]/\H l=some (.lst us)/\Jk H us ws/\E4 ws/\∀p H',FZ H H'->H' p=some (.lst (ak ws))->Q (.ref p) H'
theorem wX{dm d:DD}{lt:Tok}(m_mm:mg "MOST_MAKERS"=some (.int 8 lt))(zZ:(dg "maker_word" 15 ["maker"] dm 4 Mn))(D:Def K mg "maker_words" (top 16) ["makers"] d)(yR:mg "isinstance"=none)(yX:mg "list"=none)(yQ:mg "len"=none):(fk 5 d ["makers"] KS):=by
 exists["makers"]
 obtain⟨l,us,ws,rfl,hl,hm,hw,q⟩:=h;have el:us.length=ws.length:=hm.length;have h1:=hw.n1;have h8:=hw.n8;refine⟨_,(ag (bx (@PW.pt _ _ _ (iM (eS (cx (aQ Hh yR Gp (FU (0) (aI (fR (.ty "list") yX Hk) aF) aF)))) (eT (eS (@sC _ _ _ _ _ _ _ _ _ _ _ _ MT MT (ah _) (aL FW yQ (0) aF) (iy (.int 8) m_mm ⟨_,rfl⟩) (by with_unfolding_all rfl)))))) (ai (@Hy _ _)) (Gb _)) (ai (aJ (aY (aq (ts:=["maker"]) (cap:=[]) (js:=[]) rfl rfl rfl rfl rfl rfl (by decide +kernel)) (aR (0)) (am 0 (nd ["maker"])) (@aV _) (cK zZ.1 zZ.2 (0) aF))))),?_⟩
 walk_at "d"
 refine⟨_,rfl,.ref l,.ty "list",.type "list",.type "list",true,rfl,rfl,.lst hl,rfl,true,rfl,?_⟩;refine⟨_,rfl,l,us,rfl,.inl (a9.of hl),_,_,rfl,rfl,true,?_,?_⟩
 ·show V.bl (decide ((1:Int)<=(us.length:Int)))=_;rw[Fo (by lia)]
 refine⟨_,_,rfl,rfl,true,?_,?_⟩
 ·show V.bl (decide ((us.length:Int)<=8))=_;rw[Fo (by lia)]
 refine⟨_,rfl,l,rfl,⟨_,a9.of hl⟩,?_⟩;refine cY (K:=K) (a:=l) (xs:=us) (λi ys H'=>FZ H H'/\ys=ak (ws.take i)) ⟨FZ.refl H,rfl⟩ (λi ys H' hi z=>by rw[z.2,AU,Bs];lia) (aw (by lia)) (λi ys H' hi z=>a9.of (z.1 _ _ hl)) (λi x ys H' hx z=>?_) (λys H' z p hp=>?_)
 ·obtain⟨z1,rfl⟩:=z;have hi:i<us.length:=(Be.mp hx).1;obtain⟨cs,ec,h4⟩:=hm.at hx;have mc:=Bp ec;refine⟨_,rfl,x,cs,rfl,hw.lr cs mc,hw.l1 cs mc,hw.G5 cs mc,h4.mono z1,λH2 S2=>Nx.mk hi ⟨z1.trans S2,?_⟩⟩;rw[Bw,ec];simp[ak]
 ·obtain⟨z1,rfl⟩:=z;have e:ws.take us.length=ws:=BB (by lia);rw[e];exact q p _ (z1.trans (af hp _)) ae
def uc (x w:A7):Bool:=Txt.endswith (txt x) (txt w)
def km (ws:A2)(x:A7)(e:Nat):List (Nat×Nat):=(ws.zipIdx.filter λp=>uc (x.take e) p.1).map λp=>(p.2,e-p.1.length)
theorem mM(x:A7)(e:Nat):Txt.slice (txt x) none (some (e:Int))=txt (x.take e):=by
 apply dv;rw[bZ,kW];rfl
abbrev F7(H:Hp)(vs:A9)(ss:List (Nat×Nat)):Prop:=Paired (λv s=>∃a,v=.ref a/\H a=some (.tup [.int ((s:Nat×Nat).1:Int),.int (s.2:Int)])) vs ss
theorem F7.mono{H H':Hp}(S:FZ H H'){vs:A9}{ss:List (Nat×Nat)}(h:F7 H vs ss):F7 H' vs ss:=Paired.Hw h λv s W7=>by obtain⟨a,e,g⟩:=W7;exact⟨a,e,S _ _ g⟩
theorem JS:bootBuiltins "sum"=some (.builtin "sum"):=by decide +kernel
theorem gy{x w:A7}(h:uc x w=true):w.length<=x.length:=by
 unfold uc Txt.endswith at h;have:=Fu (BQ _ _▸h).1;have e1:(txt w).length=w.length:=rfl;have e2:(txt x).length=x.length:=rfl;lia
def ux (ws:A2)(x:A7):Nat->B3
 |0=>[1]
 |n+1=>ux ws x n++[((km ws x (n+1)).map λs=>(ux ws x n).getD s.2 0).sum]
theorem F7.at{H:Hp}:∀{vs:A9}{ss:List (Nat×Nat)}{i:Nat}{v:V},F7 H vs ss->vs[i]?=some v->∃s a,ss[i]?=some s/\v=.ref a/\H a=some (.tup [.int (s.1:Int),.int (s.2:Int)])
 |_,_,_,_,.nil,e=>by simp at e
 |_,_,0,_,.cons ⟨a,h1,h2⟩ _,e=>by simp at e;subst e;exact⟨_,a,rfl,h1,h2⟩
 |_,_,i+1,v,.cons _ r,e=>by
  obtain⟨s,a,h1,h2⟩:=F7.at (i:=i) (v:=v) r (by simpa using e);exact⟨s,a,by simpa using h1,h2⟩
theorem DatAll.strs{H:Hp}:∀xs:List Str,DatAll K H (xs.map V.str) (xs.map PyData.str)
 |[]=>.nil
 |x::r=>.cons (.str x) (DatAll.strs r)
theorem LZ:∀xs:List Str,PyData.eqv (.list (xs.map PyData.str)) (.list [])=xs.isEmpty
 |[]=>rfl
 |_::_=>rfl
theorem Jw:∀xs:List Str,(∀x∈xs,PyData.strOk x=true)->PyData.canLayAll0 (xs.map PyData.str)=true
 |[],_=>rfl
 |x::r,h=>by
  show(PyData.strOk x&&PyData.canLayAll0 (r.map PyData.str))=true;rw[h x AZ,Jw r λy hy=>h y (Bg _ hy)];rfl
theorem HK:∀xs:List Str,PyData.depthAll (xs.map PyData.str)=0
 |[]=>rfl
 |x::r=>by
  show max 0 (PyData.depthAll (r.map PyData.str))=0;rw[HK r];rfl
theorem jG(xs:List Str):(PyData.list (xs.map PyData.str)).depth<=60:=by
 have e:(PyData.list (xs.map PyData.str)).depth=PyData.depthAll (xs.map PyData.str)+1:=by simp[PyData.depth]
 rw[e,HK];decide
theorem wo{x:Str}(h:As x):PyData.strOk x=true:=by
 unfold PyData.strOk;rw[<- Array.all_toList,Cp];intro c hc;exact Fo (DH (h c hc) (by decide))
theorem xU{α:Type}{l:List α}{r:Int}(h0:0<=r)(h1:r<l.length):∃c,B5 l r=some c/\c∈l:=by
 have hk:r.toNat<l.length:=by lia
 have ek:r=((r.toNat:Nat):Int):=by lia
 have e:=bK (AX hk);rw[<- ek] at e;exact⟨_,e,BG hk⟩
theorem Dr.put{p W:Addr}{H H':Hp}(h:Dr p H H')(n:H W=none)(ne:W≠p)(o:HO):Dr p H (upd H' W o):=by
 refine⟨λb u e=>?_,?_⟩
 ·have e1:=aS p H _ _ e;have nb:b≠W:=aC e1 n;have e2:=h.same _ _ e;have np:b≠p:=λz=>by unfold v7 at e;rw[Fn z] at e;cases e
  rw[dQ np] at e2 ⊢;rw[aj nb];exact e2
 ·obtain⟨a,b,c,e,r⟩:=h.ds;exact⟨a,b,c,by rw[aj (FI ne)];exact e,r⟩
theorem oy{p W:Addr}{H:Hp}(ne:W≠p)(o:HO):v7 p (upd H W o) W=some o:=by rw[dQ ne,ae]
theorem dh(z:Str):z=txt z.cps.toList:=dv rfl
abbrev wU(ws:A2):List Str:=ws.map txt
theorem eF(ws:A2)(z:Str):ak ws++[V.str z]=ak (ws++[z.cps.toList]):=by
 show(ws.map λcs=>V.str (txt cs))++[V.str z]=(ws++[z.cps.toList]).map λcs=>V.str (txt cs);rw[Bi];show _=_++[V.str (txt z.cps.toList)]
 rw[<- dh]
def xH (ws:A2)(x:A7):Nat->List (Option Int×Int)
 |0=>[(some 0,1)]
 |n+1=>xH ws x n++[(((km ws x (n+1)).filterMap λs=>((xH ws x n).getD s.2 (none,0)).1.map (·+1)).min?,((km ws x (n+1)).map λs=>((xH ws x n).getD s.2 (none,0)).2).sum)]
def ov:Option Int->V
 |none=>.f6
 |some i=>.int i
abbrev Vg(ws:A2):A2:=ws.map List.reverse
def rst (ws:A2)(x:A7):List (Option Int×Int):=(xH (Vg ws) x.reverse x.length).reverse
def few (ws:A2)(x:A7)(i:Nat):Option Int:=((rst ws x).getD i (none,0)).1
end
def Wn (ws:A2)(x:A7):Int:=(ux ws x x.length).getD x.length 0
def Uc (ws:A2)(w:A7):A2:=ws.filter λo=>decide (o≠w)
def isN (ws:A2)(k:Nat):Bool:=!decide (ws.getD k []∈ws.take k)&&decide (Wn (Uc ws (ws.getD k [])) (ws.getD k [])=0)
def nIx (ws:A2):A7:=(List.range ws.length).filter (isN ws)
def nW (ws:A2):A2:=(nIx ws).map λk=>ws.getD k []
section
variable {P:Program}{w:World}{K:PySem.W.Frag}{mg:Str->Option Value}{base:Heap}
theorem bU{x y:A7}(h:txt x=txt y):x=y:=by
 have:(txt x).cps.toList=(txt y).cps.toList:=by rw[h]
 exact this
theorem fG(ws:A2)(i:Nat):nu (ak ws) none (some ((i:Nat):Int))=ak (ws.take i):=by
 unfold nu;rw[HT.GW,CJ,Dt];rw[HT.Ic,AU];show List.take _ (List.map _ ws)=List.map _ (List.take _ ws);rw[List.map_take];by_cases h:i<=ws.length
 ·rw[Cs h]
 ·rw[Eo (by lia),BB (by rw[AU];lia),BB (by rw[AU];lia)]
theorem GD:bootBuiltins "sorted"=some (.builtin "sorted"):=by decide +kernel
theorem JY{ws os:A2}:(wU ws).Perm (wU os)↔ws.Perm os:=by
 constructor
 ·intro h;have:=h.map λz:Str=>z.cps.toList;have e:∀l:A2,(wU l).map (λz:Str=>z.cps.toList)=l:=λl=>by
   rw[Bx];show l.map (λx=>x)=l;exact List.map_id' l
  rwa [e,e] at this
 ·exact λh=>h.map _
theorem mw{a b:List Str}{ws os:A2}(pa:a.Perm (wU ws))(pb:b.Perm (wU os))(sa:sortedS a=true)(sb:sortedS b=true):a=b↔ws.Perm os:=by
 constructor
 ·rintro rfl;exact JY.mp (pa.symm.trans pb)
 ·intro h;exact Ii (pa.trans ((JY.mpr h).trans pb.symm)) sa sb
end
def cw (ws:A2)(r:A7):A7:=(r.map λk=>ws.getD k []).flatten
def nxt (m:Nat)(rs:A2):A2:=rs.flatMap λr=>(List.range m).map λk=>r++[k]
abbrev rI(r:A7):B3:=r.map λ(k:Nat)=>(k:Int)
section
variable {P:Program}{w:World}{K:PySem.W.Frag}{mg:Str->Option Value}{base:Heap}
open KM
theorem pX(x y:A7):Txt.startswith (txt x) (txt y)=decide (x.take y.length=y):=by
 unfold Txt.startswith;have hn:(txt x).length=x.length:=by show x.toArray.size=_;simp
 have hm:(txt y).length=y.length:=by show y.toArray.size=_;simp
 rw[StrLaws.subAt_eq,hm,hn];show(decide (0+y.length<=x.length)&&((x.drop 0).take y.length==y))=_;rw[CJ];rw[FL];simp only[BQ,decide_eq_true_eq,FT];refine⟨λh=>h.2,λh=>⟨?_,h⟩⟩;have:=congrArg List.length h;rw[Bs] at this;lia
theorem bO(x y:A7):Txt.startswith (txt x) (txt y)=true↔∃z,x=y++z:=by
 rw[pX,decide_eq_true_eq];constructor
 ·intro h;exact⟨x.drop y.length,by have:=Ca y.length x;rw[h] at this;exact this.symm⟩
 ·rintro⟨z,rfl⟩;exact Ek
theorem bN(x:A7)(e:Nat):Txt.slice (txt x) (some (e:Int)) none=txt (x.drop e):=by
 apply dv;rw[bZ];show qv x (some (e:Int)) none=x.drop e;unfold qv;rw[HT.Ic,HT.GW];rcases Nat.le_total e x.length with h|h
 ·rw[Cs h,BB (by rw[By];exact AS _)]
 ·rw[Eo h,CM h,CM (AS _)];simp
theorem bH{ws:A2}{i:Nat}(h:i<ws.length):(ak ws)[i]?=some (.str (txt (ws.getD i []))):=by
 rw[Bo,AX h,Bv,AX h];rfl
theorem aG{ws:A2}{i:Nat}(h:i<ws.length):ws.getD i []∈ws:=by
 rw[Bv,AX h];exact BG h
theorem aM{ws:A2}{i:Nat}(h:i<ws.length):B5 (ak ws) ((i:Nat):Int)=some (.str (txt (ws.getD i []))):=bK (bH h)
theorem ax(ws:A2):(ak ws).length=ws.length:=AU _
abbrev iv(os:A7):A9:=(os.map λn=>((n:Nat):Int)).map V.int
theorem gU(os:A7)(n:Nat):iv os++[V.int ((n:Nat):Int)]=iv (os++[n]):=by
 show _=((os++[n]).map _).map V.int;rw[Bi,Bi];rfl
theorem eN(os:A7):(iv os).length=os.length:=by rw[AU,AU]
def NZ:Sp:=λvs H Q _=>∃l ws,vs=[.ref l]/\H l=some (.lst (ak ws))/\E4 ws/\∀p us ps H',FZ H H'->H' p=some (.lst us)->F7 H' us ps->ps.length<=64->(∀i j,(i,j)∈ps↔i<ws.length/\j<ws.length/\i≠j/\∃z,ws.getD i []=ws.getD j []++z)->Q (.ref p) H'
theorem xJ{d:DD}(D:Def K mg "first_pairs" (top 25) ["words"] d)(yQ:mg "len"=none)(yP:mg "range"=none):(fk 1 d ["words"] NZ):=by
 exists["words","many","pairs"]
 obtain⟨l,ws,rfl,hl,hw,q⟩:=h;have h8:=hw.n8;refine⟨_,(ag (ad 1 (aL FW yQ (0) aF)) (ag (qX 2 (aq (ts:=["longer","shorter"]) (cap:=["many"]) (js:=[1]) rfl rfl rfl rfl rfl rfl (by decide +kernel)) (aO yP (aI (1) aF)) (am 0 (nd ["longer","shorter","many"])) (@aV _) (aO yP (aI (2) aF)) (am 1 (nd ["longer","shorter","many"])) (@cH _ _ _ (ay KP (0) (1) (aE _))) (aN (FU (0) (aI (1) aF) aF)) (by intro _ _;rfl)) (ai (aJ (aY (aq (ts:=["longer","shorter"]) (cap:=["words"]) (js:=[0]) rfl rfl rfl rfl rfl rfl (by decide +kernel)) (aR (2)) (@fF _ _ _ _ _ 2 K rfl hc (aD (am 0 (nd ["longer","shorter","words"])) (aD (am 1 (nd ["longer","shorter","words"])) (@Gr _))) (by rfl) (by rfl)) (@cH _ _ _ (cx (kG Fz PySem.F.slot_str_startswith PySem.F.type_str_startswith GY (aW (show L8 _ (KI K) from Ga) (2) (0)) (aI (aW (show L8 _ (KI K) from Ga) (2) (1)) (by rfl))))) (aN (FU (0) (aI (1) aF) aF))))))),?_⟩
 walk_at "d"
 refine⟨_,rfl,l,_,rfl,.inl (a9.of hl),?_⟩;rw[ax];refine⟨_,rfl,((ws.length:Nat):Int),rfl,by lia,by lia,?_⟩;refine vN (lo:=0) (n:=(((ws.length:Nat):Int)).toNat) (λi ys H'=>FZ H H'/\∃ps,F7 H' ys ps/\ps.length<=8*i/\∀a b,(a,b)∈ps↔a<i/\b<ws.length/\a≠b) ⟨FZ.refl _,[],.nil,AS _,λa b=>⟨λh=>absurd h (by simp),λh=>absurd h.1 (Dg _)⟩⟩ (λi ys H' hi z=>by obtain⟨_,ps,h1,h2,_⟩:=z;rw[Paired.length h1];exact aw (by lia)) (λi ys H' hi z=>?_) (λys H1 z p1 C6=>?_)
 ·obtain⟨z1,ps,z2,z3,z4⟩:=z;have i3:i<ws.length:=by lia
  refine⟨_,rfl,((ws.length:Nat):Int),rfl,by lia,by lia,?_⟩;refine wG (lo:=0) (n:=(((ws.length:Nat):Int)).toNat) (λj σ ys H'=>FZ H H'/\(∃e1,σ=[some (.int (0+(i:Int))),e1,some (.int ((ws.length:Nat):Int))])/\∃ps,F7 H' ys ps/\ps.length<=8*i+j/\∀a b,(a,b)∈ps↔(a<i/\b<ws.length/\a≠b)\/(a=i/\b<j/\a≠b)) ⟨z1,⟨_,rfl⟩,ps,z2,z3,λa b=>by rw[z4];lia⟩ (λj σ ys H' hj z=>by obtain⟨_,_,ps,h1,h2,_⟩:=z;rw[Paired.length h1];exact Cf (show _<=1000 by lia) (by decide)) (λj σ ys H' hj z=>?_) (fun σ ys H' z=>?_)
  ·obtain⟨z1,⟨e1,rfl⟩,ps,z2,z3,z4⟩:=z;have YU:j<ws.length:=by lia
   refine⟨_,rfl,_,rfl,rfl,_,rfl,?_⟩;by_cases k5:i=j
   ·subst k5;refine Eq.mpr (Fm (by simp)) ?_;exact Pw.mk hj ⟨z1,⟨_,rfl⟩,ps,z2,by lia,λa b=>by rw[z4];lia⟩
   ·refine Eq.mpr (Fn (by simp;lia)) ?_;refine⟨_,rfl,_,rfl,aw (by show 2<=1000000;decide),λa na=>?_⟩;have S1:=af na (.tup [.int (0+(i:Int)),.int (0+(j:Int))]);refine Pw.mk hj ⟨z1.trans S1,⟨_,rfl⟩,ps++[(i,j)],?_,by rw[AV];show ps.length+1<=_;lia,λx y=>?_⟩
    ·refine Paired.snoc (z2.mono S1) ⟨a,rfl,?_⟩;rw[ae,Ct,Ct]
    ·rw[Ba,z4,AY,Prod.mk.injEq];lia
  ·obtain⟨z1,_,ps,z2,z3,z4⟩:=z;exact Nx.mk hi ⟨z1,ps,z2,by lia,λa b=>by rw[z4];lia⟩
 obtain⟨z1,ps,z2,z3,z4⟩:=z;have S1:=af C6 (.lst ys);have Q0:upd H1 p1 (.lst ys) p1=some (.lst ys):=ae;have Ll:=z2.mono S1;have SA:=z1.trans S1;have yl:=Paired.length Ll;generalize upd H1 p1 (.lst ys)=H2 at S1 Q0 Ll SA;refine⟨_,rfl,p1,rfl,⟨_,a9.of Q0⟩,?_⟩;refine cY (K:=K) (a:=p1) (xs:=ys) (λk i6 H'=>FZ H2 H'/\i6.length<=k/\F7 H' i6 ((ps.take k).filter λs=>Txt.startswith (txt (ws.getD s.1 [])) (txt (ws.getD s.2 [])))) ⟨FZ.refl _,AS _,.nil⟩ (λk i6 H' hk z=>z.2.1) (aw (by lia)) (λk i6 H' hk z=>a9.of (z.1 _ _ Q0)) (λk v i6 H' hv z=>?_) (λi6 H' z p hp=>?_)
 ·obtain⟨z1,T6,Rb⟩:=z;have hk:k<ys.length:=(Be.mp hv).1;obtain⟨⟨i,j⟩,a,es,rfl,ha⟩:=F7.at Ll hv;obtain⟨hi,hj,_⟩:=(z4 i j).mp (Bp es);have hi:i<ws.length:=by lia
  have et:ps.take (k+1)=ps.take k++[(i,j)]:=by rw[Bw,es];rfl
  have gl:=z1 _ _ (SA _ _ hl);refine⟨a,_,rfl,i5.of (z1 _ _ ha),rfl,_,_,rfl,_,_,rfl,rfl,?_⟩;refine⟨_,rfl,_,rfl,l,_,_,_,rfl,rfl,a9.of gl,aM hi,rfl,_,rfl,_,rfl,l,_,_,_,rfl,rfl,a9.of gl,aM hj,_,_,rfl,rfl,_,rfl,?_⟩;cases hB:Txt.startswith (txt (ws.getD i [])) (txt (ws.getD j [])) with
  |false=>
   refine Nx.mk (i:=k) (n:=ys.length) (P:=λk i6 H'=>FZ H2 H'/\i6.length<=k/\F7 H' i6 ((ps.take k).filter λs=>Txt.startswith (txt (ws.getD s.1 [])) (txt (ws.getD s.2 [])))) hk ?_;refine⟨z1,by lia,?_⟩;rw[et,List.filter_append,CI,hB];simpa using Rb
  |true=>
   refine⟨_,rfl,_,rfl,aw (by show 2<=1000000;decide),λa2 na2=>Nx.mk hk ⟨z1.trans (af na2 _),by rw[AV];exact FM T6,?_⟩⟩;rw[et,List.filter_append,CI,hB];exact Paired.snoc (Rb.mono (af na2 _)) ⟨a2,rfl,ae⟩
 obtain⟨z1,T6,Rb⟩:=z;rw[yl,BB (AS _)] at Rb;refine q p i6 _ _ (SA.trans (z1.trans (af hp _))) ae (Rb.mono (af hp _)) (Bh (Ez _ _) (by lia)) λi j=>?_;rw[CP,z4];show _/\Txt.startswith (txt (ws.getD i [])) (txt (ws.getD j []))=true↔_;rw[bO];constructor
 ·rintro⟨⟨h1,h2,h3⟩,h4⟩;exact⟨by lia,h2,h3,h4⟩
 ·rintro⟨h1,h2,h3,h4⟩;exact⟨⟨by lia,h2,h3⟩,h4⟩
def MP:Sp:=λvs H Q _=>∃l ws x,vs=[.ref l,.str (txt x)]/\H l=some (.lst (ak ws))/\E4 ws/\∀p is H',FZ H H'->H' p=some (.lst (iv is))->is.length<=8->(∀i,i∈is↔i<ws.length/\∃z,x=ws.getD i []++z)->Q (.ref p) H'
theorem we{d:DD}(D:Def K mg "words_within" (top 26) ["words","text"] d)(yW:mg "enumerate"=none):(fk 1 d ["words","text"] MP):=by
 exists["words","text"]
 obtain⟨l,ws,x,rfl,hl,hw,q⟩:=h;have h8:=hw.n8;refine⟨_,(ai (aJ (aY (aq (ts:=["number","word"]) (cap:=["text"]) (js:=[1]) rfl rfl rfl rfl rfl rfl (by decide +kernel)) (nH yW (aI (0) aF)) (@fF _ _ _ _ _ 2 K rfl hc (aD (am 0 (nd ["number","word","text"])) (aD (am 1 (nd ["number","word","text"])) (@Gr _))) (by rfl) (by rfl)) (@cH _ _ _ (cx (kG Fz PySem.F.slot_str_startswith PySem.F.type_str_startswith GY (2) (aI (1) aF)))) (0)))),?_⟩
 walk_at "d"
 refine⟨_,rfl,l,rfl,⟨_,a9.of hl⟩,?_⟩;have el:=ax ws;refine wC (K:=K) (a:=l) (xs:=ak ws) (λi ys H'=>FZ H H'/\∃is,ys=iv is/\is.length<=i/\∀a,a∈is↔a<i/\∃z,x=ws.getD a []++z) ⟨FZ.refl H,[],rfl,AS _,λa=>⟨λh=>absurd h (by simp),λh=>absurd h.1 (Dg _)⟩⟩ (λi ys H' hi z=>by obtain⟨_,is,rfl,h,_⟩:=z;rw[eN];exact h) (aw (by lia)) (λi ys H' hi z=>a9.of (z.1 _ _ hl)) (λi v ys H' p hx z hp=>?_) (λys H' z p hp=>?_)
 ·obtain⟨z1,is,rfl,z2,z3⟩:=z;have hi:i<(ak ws).length:=(Be.mp hx).1;have i3:i<ws.length:=by lia
  rw[bH i3] at hx;cases hx;have S1:=af hp (.tup [.int (i:Int),.str (txt (ws.getD i []))]);refine⟨p,_,rfl,i5.of ae,rfl,_,_,rfl,_,_,rfl,rfl,?_⟩;refine⟨_,rfl,rfl,_,rfl,_,_,rfl,rfl,_,rfl,?_⟩;cases hB:Txt.startswith (txt x) (txt (ws.getD i [])) with
  |false=>
   refine Nx.mk (i:=i) (n:=(ak ws).length) (P:=λi ys H'=>FZ H H'/\∃is,ys=iv is/\is.length<=i/\∀a,a∈is↔a<i/\∃z,x=ws.getD a []++z) hi ?_;refine⟨z1.trans S1,is,rfl,by lia,λa=>?_⟩;rw[z3];have hn:¬∃z,x=ws.getD i []++z:=λh=>by rw[(bO _ _).mpr h] at hB;cases hB
   constructor
   ·rintro⟨h1,h2⟩;exact⟨by lia,h2⟩
   ·rintro⟨h1,h2⟩;by_cases e:a=i
    ·subst e;exact absurd h2 hn
    ·exact⟨by lia,h2⟩
  |true=>
   refine⟨_,rfl,Nx.mk hi ⟨z1.trans S1,is++[i],gU is i,by rw[AV];exact FM z2,λa=>?_⟩⟩;have hn:=(bO _ _).mp hB;rw[Ba,z3,AY];constructor
   ·rintro (⟨h1,h2⟩|rfl)
    ·exact⟨by lia,h2⟩
    ·exact⟨by lia,hn⟩
   ·rintro⟨h1,h2⟩;by_cases e:a=i
    ·exact .inr e
    ·exact .inl ⟨by lia,h2⟩
 ·obtain⟨z1,is,rfl,z2,z3⟩:=z;rw[el] at z2 z3;exact q p is _ (z1.trans (af hp _)) ae (by lia) z3
def MS:Sp:=λvs H Q _=>∃l ws x,vs=[.ref l,.str (txt x)]/\H l=some (.lst (ak ws))/\E4 ws/\∀p is H',FZ H H'->H' p=some (.lst (iv is))->is.length<=8->(∀i,i∈is↔i<ws.length/\∃z,ws.getD i []=x++z)->Q (.ref p) H'
theorem vC{d:DD}(D:Def K mg "words_beyond" (top 27) ["words","text"] d)(yW:mg "enumerate"=none):(fk 1 d ["words","text"] MS):=by
 exists["words","text"]
 obtain⟨l,ws,x,rfl,hl,hw,q⟩:=h;have h8:=hw.n8;refine⟨_,(ai (aJ (aY (aq (ts:=["number","word"]) (cap:=["text"]) (js:=[1]) rfl rfl rfl rfl rfl rfl (by decide +kernel)) (nH yW (aI (0) aF)) (@fF _ _ _ _ _ 2 K rfl hc (aD (am 0 (nd ["number","word","text"])) (aD (am 1 (nd ["number","word","text"])) (@Gr _))) (by rfl) (by rfl)) (@cH _ _ _ (cx (kG Fz PySem.F.slot_str_startswith PySem.F.type_str_startswith GY (1) (aI (2) aF)))) (0)))),?_⟩
 walk_at "d"
 refine⟨_,rfl,l,rfl,⟨_,a9.of hl⟩,?_⟩;have el:=ax ws;refine wC (K:=K) (a:=l) (xs:=ak ws) (λi ys H'=>FZ H H'/\∃is,ys=iv is/\is.length<=i/\∀a,a∈is↔a<i/\∃z,ws.getD a []=x++z) ⟨FZ.refl H,[],rfl,AS _,λa=>⟨λh=>absurd h (by simp),λh=>absurd h.1 (Dg _)⟩⟩ (λi ys H' hi z=>by obtain⟨_,is,rfl,h,_⟩:=z;rw[eN];exact h) (aw (by lia)) (λi ys H' hi z=>a9.of (z.1 _ _ hl)) (λi v ys H' p hx z hp=>?_) (λys H' z p hp=>?_)
 ·obtain⟨z1,is,rfl,z2,z3⟩:=z;have hi:i<(ak ws).length:=(Be.mp hx).1;have i3:i<ws.length:=by lia
  rw[bH i3] at hx;cases hx;have S1:=af hp (.tup [.int (i:Int),.str (txt (ws.getD i []))]);refine⟨p,_,rfl,i5.of ae,rfl,_,_,rfl,_,_,rfl,rfl,?_⟩;refine⟨_,rfl,rfl,_,rfl,_,_,rfl,rfl,_,rfl,?_⟩;cases hB:Txt.startswith (txt (ws.getD i [])) (txt x) with
  |false=>
   refine Nx.mk (i:=i) (n:=(ak ws).length) (P:=λi ys H'=>FZ H H'/\∃is,ys=iv is/\is.length<=i/\∀a,a∈is↔a<i/\∃z,ws.getD a []=x++z) hi ?_;refine⟨z1.trans S1,is,rfl,by lia,λa=>?_⟩;rw[z3];have hn:¬∃z,ws.getD i []=x++z:=λh=>by rw[(bO _ _).mpr h] at hB;cases hB
   constructor
   ·rintro⟨h1,h2⟩;exact⟨by lia,h2⟩
   ·rintro⟨h1,h2⟩;by_cases e:a=i
    ·subst e;exact absurd h2 hn
    ·exact⟨by lia,h2⟩
  |true=>
   refine⟨_,rfl,Nx.mk hi ⟨z1.trans S1,is++[i],gU is i,by rw[AV];exact FM z2,λa=>?_⟩⟩;have hn:=(bO _ _).mp hB;rw[Ba,z3,AY];constructor
   ·rintro (⟨h1,h2⟩|rfl)
    ·exact⟨by lia,h2⟩
    ·exact⟨by lia,hn⟩
   ·rintro⟨h1,h2⟩;by_cases e:a=i
    ·exact .inr e
    ·exact .inl ⟨by lia,h2⟩
 ·obtain⟨z1,is,rfl,z2,z3⟩:=z;rw[el] at z2 z3;exact q p is _ (z1.trans (af hp _)) ae (by lia) z3
open KM
def Ie (H:Hp)(v:V)(f:Fd):Prop:=∃p la lb,v=.ref p/\H p=some (.tup [.int ((f.1:Nat):Int),.ref la,.ref lb])/\H la=some (.lst (iv f.2.1))/\H lb=some (.lst (iv f.2.2))
theorem Ie.mono{H H':Hp}(S:FZ H H'){v:V}{f:Fd}(h:Ie H v f):Ie H' v f:=by
 obtain⟨p,la,lb,h1,h2,h3,h4⟩:=h;exact⟨p,la,lb,h1,S _ _ h2,S _ _ h3,S _ _ h4⟩
def Nq (H:Hp)(v:V)(s:A7×Fd):Prop:=∃p u,v=.ref p/\H p=some (.tup [.str (txt s.1),u])/\Ie H u s.2
abbrev C2(H:Hp)(us:A9)(ss:List (A7×Fd)):Prop:=Paired (Nq H) us ss
theorem Nq.mono{H H':Hp}(S:FZ H H'){v:V}{s:A7×Fd}(h:Nq H v s):Nq H' v s:=by
 obtain⟨p,u,h1,h2,h3⟩:=h;exact⟨p,u,h1,S _ _ h2,h3.mono S⟩
theorem C2.mono{H H':Hp}(S:FZ H H'){us:A9}{ss:List (A7×Fd)}(h:C2 H us ss):C2 H' us ss:=Paired.Hw h λv s z=>z.mono S
theorem gJ(ws:A2)(i:Nat):bq ws [i]=ws.getD i []:=by rw[aZ];exact BJ _
theorem jj(ws:A2)(a:A7)(i:Nat):bq ws (a++[i])=bq ws a++ws.getD i []:=by
 unfold bq;rw[Bi,List.flatten_append];show _++([ws.getD i []]).flatten=_;simp
theorem qt{ws:A2}{i j:Nat}{z:A7}(hi:i<ws.length)(hj:j<ws.length)(ne:i≠j)(e:ws.getD i []=ws.getD j []++z):E5 ws z ((ws.getD i []).length,[i],[j]):=
 ⟨λk h=>by rw[AY.mp h];exact hi,λk h=>by rw[AY.mp h];exact hj,⟨i,j,[],[],rfl,rfl,ne⟩,by show bq ws [i]=bq ws [j]++z;rw[gJ,gJ];exact e,by show _=(bq ws [i]).length;rw[gJ]⟩
def tG (ws:A2)(s:Nat×Nat):A7×Fd:=((ws.getD s.1 []).drop (ws.getD s.2 []).length,(ws.getD s.1 []).length,[s.1],[s.2])
def NK:Sp:=λvs H Q _=>∃l ws,vs=[.ref l]/\H l=some (.lst (ak ws))/\E4 ws/\∀p us ss H',FZ H H'->H' p=some (.lst us)->C2 H' us ss->ss.length<=64->(∀s∈ss,E5 ws s.1 s.2/\J4 ws s.1/\s.2.1<=40) ->
 (∀i j x,i<ws.length->j<ws.length->i≠j->ws.getD i []=ws.getD j []++x->∃s∈ss,s.1=x/\s.2.1=(ws.getD i []).length)->Q (.ref p) H'
theorem xW{df d:DD}(D_fp:(dg "first_pairs" 25 ["words"] df 1 NZ))(D:Def K mg "first_steps" (top 28) ["words"] d)(yQ:mg "len"=none):(fk 2 d ["words"] NK):=by
 exists["words","pairs"]
 obtain⟨l,ws,rfl,hl,hw,q⟩:=h;have h8:=hw.n8;refine⟨_,(ag (aA 1 (cK D_fp.1 D_fp.2 (0) aF)) (ai (aJ (aY (aq (ts:=["one","other"]) (cap:=["words"]) (js:=[0]) rfl rfl rfl rfl rfl rfl (by decide +kernel)) (aR (1)) (@fF _ _ _ _ _ 2 K rfl hc (aD (am 0 (nd ["one","other","words"])) (aD (am 1 (nd ["one","other","words"])) (@Gr _))) (by rfl) (by rfl)) (@aV _) (aN (FU (aX GK (aW (show L8 _ (KI K) from Ga) (2) (0)) (bu (aL FV yQ (aW (show L8 _ (KI K) from Ga) (2) (1)) (by rfl))) (Gj _)) (aI (aN (FU (aL FV yQ (aW (show L8 _ (KI K) from Ga) (2) (0)) (by rfl)) (FU (bj (aI (0) aF)) (aI (bj (aI (1) aF)) (by rfl)) (by rfl)) eK)) (by rfl)) (by rfl))))))),?_⟩
 walk_at "d"
 refine⟨_,rfl,l,ws,rfl,hl,hw,λp0 E6 ps H1 S1 g0 MV hl0 YH=>?_⟩;have yl:=Paired.length MV;refine⟨_,rfl,p0,rfl,⟨_,a9.of g0⟩,?_⟩;refine cY (K:=K) (a:=p0) (xs:=E6) (λk i6 H'=>FZ H1 H'/\i6.length<=k/\C2 H' i6 ((ps.take k).map (tG ws))) ⟨FZ.refl _,AS _,.nil⟩ (λk i6 H' hk z=>z.2.1) (aw (by lia)) (λk i6 H' hk z=>a9.of (z.1 _ _ g0)) (λk v i6 H' hv z=>?_) (λi6 H' z p hp=>?_)
 ·obtain⟨z1,z2,z3⟩:=z;have hk:k<E6.length:=(Be.mp hv).1;obtain⟨⟨i,j⟩,a,es,rfl,ha⟩:=F7.at MV hv;obtain⟨hi,hj,_⟩:=(YH i j).mp (Bp es);have et:ps.take (k+1)=ps.take k++[(i,j)]:=by rw[Bw,es];rfl
  have gl:=z1 _ _ (S1 _ _ hl);have li:=hw.G5 _ (aG hi);have lj:=hw.G5 _ (aG hj);refine⟨a,_,rfl,i5.of (z1 _ _ ha),rfl,_,_,rfl,_,_,rfl,rfl,?_⟩;refine⟨_,rfl,_,rfl,l,_,_,_,rfl,rfl,a9.of gl,aM hi,_,rfl,_,rfl,l,_,_,_,rfl,rfl,a9.of gl,aM hj,txt (ws.getD j []),rfl,aw (by show(ws.getD j []).length<=1000000;lia),_,rfl,txt (ws.getD i []),rfl,aw (by show(ws.getD i []).length<=1000000;lia),?_⟩;rw[show Txt.slice (txt (ws.getD i [])) (some (((txt (ws.getD j [])).length:Nat):Int)) none=txt ((ws.getD i []).drop (ws.getD j []).length) from bN _ _];refine⟨_,rfl,_,rfl,l,_,_,_,rfl,rfl,a9.of gl,aM hi,txt (ws.getD i []),rfl,aw (by show(ws.getD i []).length<=1000000;lia),?_⟩;refine⟨_,rfl,aw (by show 1<=1000000;decide),λla Ry=>⟨_,rfl,aw (by show 1<=1000000;decide),λlb nlb=>⟨aw (by show 3<=1000000;decide),λpf Wd=>⟨aw (by show 2<=1000000;decide),λpp npp=>?_⟩⟩⟩⟩;have S2:=af Ry (.lst [.int (i:Int)]);have S3:=af nlb (.lst [.int (j:Int)]);have S4:=af Wd (.tup [.int (((txt (ws.getD i [])).length:Nat):Int),.ref la,.ref lb]);have S5:=af npp (.tup [.str (txt ((ws.getD i []).drop (ws.getD j []).length)),.ref pf]);have SS:=S2.trans (S3.trans (S4.trans S5));refine Nx.mk hk ⟨z1.trans SS,by rw[AV];exact FM z2,?_⟩;rw[et,Bi];exact Paired.snoc (C2.mono SS z3) ⟨pp,.ref pf,rfl,ae,pf,la,lb,rfl,S5 _ _ ae,S5 _ _ (S4 _ _ (S3 _ _ ae)),S5 _ _ (S4 _ _ ae)⟩
 obtain⟨z1,z2,z3⟩:=z;rw[yl,BB (AS _)] at z3;refine q p i6 _ _ (S1.trans (z1.trans (af hp _))) ae (C2.mono (af hp _) z3) (by rw[AU];exact hl0) (λs hs=>?_) λi j x hi hj ne e=>?_
 ·obtain⟨⟨i,j⟩,hm,rfl⟩:=AW.mp hs;obtain⟨hi,hj,ne,z,e⟩:=(YH i j).mp hm;have ez:(ws.getD i []).drop (ws.getD j []).length=z:=by rw[e];exact Ce
  refine⟨?_,?_,hw.G5 _ (aG hi)⟩
  ·show E5 ws ((ws.getD i []).drop (ws.getD j []).length) _;rw[ez];exact qt hi hj ne e
  ·exact⟨_,aG hi,ws.getD j [],by show _=_++(ws.getD i []).drop (ws.getD j []).length;rw[ez];exact e⟩
 ·refine⟨tG ws (i,j),AW.mpr ⟨_,(YH i j).mpr ⟨hi,hj,ne,x,e⟩,rfl⟩,?_,rfl⟩;show(ws.getD i []).drop (ws.getD j []).length=x;rw[e];exact Ce
theorem jw{ws:A2}(h1:∀cs∈ws,1<=cs.length):∀(t:A7),(∀i∈t,i<ws.length)->t.length<=(bq ws t).length
 |[],_=>AS _
 |i::t,h=>by
  have a1:=jw h1 t λj hj=>h j (Bg _ hj);have a2:=h1 _ (aG (h i AZ));rw[aZ,AV,Bl];lia
theorem uG{ws:A2}{x:A7}{f:Fd}(hw:E4 ws)(h:E5 ws x f):f.2.1.length<=f.1/\f.2.2.length<=f.1:=by
 have a1:=jw hw.l1 f.2.1 h.a;have a2:=jw hw.l1 f.2.2 h.b;have e:=congrArg List.length h.eq;rw[AV] at e;have:=h.len;lia
theorem ug{ws:A2}{x:A7}(hw:E4 ws)(h:J4 ws x):x.length<=40:=by
 obtain⟨w,hm,z,e⟩:=h;have:=hw.G5 w hm;rw[e,AV] at this;lia
theorem lZ{ws:A2}{x y:A7}{f:Fd}{n:Nat}(h:E5 ws x f)(hs:J4 ws x)(hn:n<ws.length)(e:x=ws.getD n []++y):E5 ws y (f.1,f.2.1,f.2.2++[n])/\J4 ws y:=by
 obtain⟨i,j,s,t,e1,e2,ne⟩:=h.ne;refine⟨⟨h.a,λk hk=>?_,⟨i,j,s,t++[n],e1,?_,ne⟩,?_,h.len⟩,?_⟩
 ·rcases Ba.mp hk with hk|hk
  ·exact h.b k hk
  ·rw[AY.mp hk];exact hn
 ·show f.2.2++[n]=_;rw[e2];rfl
 ·show bq ws f.2.1=bq ws (f.2.2++[n])++y;rw[jj,h.eq,e,Bz]
 ·obtain⟨w,hm,z,ez⟩:=hs;exact⟨w,hm,z++ws.getD n [],by rw[ez,e,Bz]⟩
theorem lY{ws:A2}{x y:A7}{f:Fd}{n:Nat}(h:E5 ws x f)(hn:n<ws.length)(e:ws.getD n []=x++y):E5 ws y (f.1+y.length,f.2.2++[n],f.2.1)/\J4 ws y:=by
 obtain⟨i,j,s,t,e1,e2,ne⟩:=h.ne;have eq:bq ws (f.2.2++[n])=bq ws f.2.1++y:=by rw[jj,h.eq,e,Bz]
 refine⟨⟨λk hk=>?_,h.a,⟨j,i,t++[n],s,?_,e1,FI ne⟩,eq,?_⟩,_,aG hn,x,e⟩
 ·rcases Ba.mp hk with hk|hk
  ·exact h.b k hk
  ·rw[AY.mp hk];exact hn
 ·show f.2.2++[n]=_;rw[e2];rfl
 ·show f.1+y.length=(bq ws (f.2.2++[n])).length;rw[eq,AV,h.len]
def Z8 (ws:A2)(x:A7)(n0:Nat)(a b:A7)(n:Nat):A7×Fd:=(x.drop (ws.getD n []).length,n0,a,b++[n])
def beS (ws:A2)(x:A7)(n0:Nat)(a b:A7)(n:Nat):A7×Fd:=((ws.getD n []).drop x.length,n0+((ws.getD n []).drop x.length).length,b++[n],a)
abbrev QE(H:Hp)(us:A9)(bs:List (A7×Nat)):Prop:=Paired (λv b=>∃p,v=.ref p/\H p=some (.tup [.str (txt (b:A7×Nat).1),.int ((b.2:Nat):Int)])) us bs
theorem QE.mono{H H':Hp}(S:FZ H H'){us:A9}{bs:List (A7×Nat)}(h:QE H us bs):QE H' us bs:=Paired.Hw h λv s SR=>by obtain⟨p,e,g⟩:=SR;exact⟨p,e,S _ _ g⟩
theorem eG{α β:Type}{R:α->β->Prop}:∀{xs:List α}{ys:List β}{i:Nat}{x:α},Paired R xs ys->xs[i]?=some x->∃y,ys[i]?=some y/\R x y
 |_,_,_,_,.nil,h=>by cases h
 |_,_,0,x,.cons r _,h=>by cases h;exact⟨_,rfl,r⟩
 |_,_,i+1,x,.cons _ p,h=>eG (i:=i) p h
theorem bA{α β:Type}{R:α->β->Prop}:∀{xs:List α}{ys:List β}{O9:List α}{i6:List β},Paired R xs ys->Paired R O9 i6->Paired R (xs++O9) (ys++i6)
 |_,_,_,_,.nil,h=>h
 |_,_,_,_,.cons a r,h=>.cons a (bA r h)
theorem yx{H:Hp}{us:A9}{js:A7}{g:Nat->A7}{k:Nat}{v:V}(h:QE H us (js.map λn=>(g n,n)))(hv:us[k]?=some v):∃n,js[k]?=some n/\∃p,v=.ref p/\H p=some (.tup [.str (txt (g n)),.int ((n:Nat):Int)]):=by
 obtain⟨y,hy,p,e,hp⟩:=eG h hv;rw[Bo] at hy;obtain⟨n,hn,rfl⟩:=Co.mp hy;exact⟨n,hn,p,e,hp⟩
theorem vD{os:A7}{k:Nat}{v:V}(h:(iv os)[k]?=some v):∃n,os[k]?=some n/\v=.int ((n:Nat):Int):=by
 rw[Bo,Bo] at h;obtain⟨i,h1,rfl⟩:=Co.mp h;obtain⟨n,h2,rfl⟩:=Co.mp h1;exact⟨n,h2,rfl⟩
def NO:Sp:=λvs H Q _=>∃l ws x v f,vs=[.ref l,.str (txt x),v]/\H l=some (.lst (ak ws))/\E4 ws/\Ie H v f/\E5 ws x f/\J4 ws x/\f.1<=100000/\∀p us ss H',FZ H H'->H' p=some (.lst us)->C2 H' us ss->ss.length<=64->(∀s∈ss,E5 ws s.1 s.2/\J4 ws s.1/\f.1<=s.2.1/\s.2.1<=f.1+40) ->
 (∀k y,k<ws.length->x=ws.getD k []++y->∃s∈ss,s.1=y/\s.2.1=f.1)->(∀k y,k<ws.length->ws.getD k []=x++y->∃s∈ss,s.1=y/\s.2.1=f.1+y.length)->Q (.ref p) H'
theorem yn{dw db d:DD}(Af:(dg "words_within" 26 ["words","text"] dw 1 MP))(Ae:(dg "words_beyond" 27 ["words","text"] db 1 MS))(D:Def K mg "next_steps" (top 29) ["words","left","found"] d)(yQ:mg "len"=none):(fk 2 d ["words","left","found"] NO):=by
 exists["words","left","found","length","ahead","behind","within","beyond"]
 obtain⟨l,ws,x,v,f,rfl,hl,hw,hf,ht,hsx,Qb,q⟩:=h;have h8:=hw.n8;refine⟨_,(ag (eR (2) (dM (aD (a6 3) (aD (a6 4) (aD (a6 5) (@Gr _)))))) (ag (dY 6 (aq (ts:=["number"]) (cap:=["words","left","length","ahead","behind"]) (js:=[0,1,3,4,5]) rfl rfl rfl rfl rfl rfl (by decide +kernel)) (aR (bw Af.1 Af.2 (FU (0) (aI (1) aF) aF))) (am 0 (nd ["number","words","left","length","ahead","behind"])) (@aV _) (aN (FU (aX GK (2) (bu (aL FV yQ (aW (show L8 _ (KI K) from Ga) (1) (0)) (by rfl))) (Gj _)) (aI (aN (FU (3) (FU (4) (aI (aB Hg (5) (bj (aI (0) aF))) (by rfl)) aF) aF)) (by rfl)) (by rfl)))) (ag (dY 7 (aq (ts:=["number"]) (cap:=["words","left"]) (js:=[0,1]) rfl rfl rfl rfl rfl rfl (by decide +kernel)) (aR (bw Ae.1 Ae.2 (FU (0) (aI (1) aF) aF))) (am 0 (nd ["number","words","left"])) (@aV _) (aN (FU (aX GK (aW (show L8 _ (KI K) from Ga) (1) (0)) (bu (aL FV yQ (2) aF)) (Gj _)) (aI (0) aF) (by rfl)))) (ai (aJ (aB Hg (6) (aY (aq (ts:=["over","number"]) (cap:=["length","ahead","behind"]) (js:=[3,4,5]) rfl rfl rfl rfl rfl rfl (by decide +kernel)) (aR (7)) (@fF _ _ _ _ _ 2 K rfl hc (aD (am 0 (nd ["over","number","length","ahead","behind"])) (aD (am 1 (nd ["over","number","length","ahead","behind"])) (@Gr _))) (by rfl) (by rfl)) (@aV _) (aN (FU (0) (aI (aN (FU (aB Gk (2) (aL FV yQ (0) aF)) (FU (aB Hg (4) (bj (aI (1) aF))) (aI (3) aF) (by rfl)) (by rfl))) (by rfl)) aF))))))))),?_⟩
 walk_at "d"
 obtain⟨pf,la,lb,rfl,gf,ga,gb⟩:=hf;have Qd:=uG hw ht;have xl:x.length<=40:=ug hw hsx;obtain⟨n0,a,b⟩:=f;have Qb:n0<=100000:=Qb;have Qd:a.length<=n0/\b.length<=n0:=Qd;have ga:H la=some (.lst (iv a)):=ga;have gb:H lb=some (.lst (iv b)):=gb;refine⟨_,rfl,pf,_,rfl,i5.of gf,rfl,_,_,rfl,_,_,rfl,_,_,rfl,rfl,?_⟩;refine⟨_,rfl,_,rfl,l,ws,x,rfl,hl,hw,λp1 is H1 S1 g1 n1 Oi=>⟨p1,rfl,⟨_,a9.of g1⟩,?_⟩⟩;refine cY (K:=K) (a:=p1) (xs:=iv is) (λk i6 H'=>FZ H1 H'/\i6.length<=k/\C2 H' i6 ((is.take k).map (Z8 ws x n0 a b))) ⟨FZ.refl _,AS _,.nil⟩ (λk i6 H' hk z=>z.2.1) (aw (by rw[eN];lia)) (λk i6 H' hk z=>a9.of (z.1 _ _ g1)) (λk v i6 H' hv z=>?_) (λPB H2 z p2 EX=>?_)
 ·obtain⟨z1,z2,z3⟩:=z;have hk:k<(iv is).length:=(Be.mp hv).1;obtain⟨n,en,rfl⟩:=vD hv;obtain⟨hn,y,ey⟩:=(Oi n).mp (Bp en);have et:is.take (k+1)=is.take k++[n]:=by rw[Bw,en];rfl
  have gl:=z1 _ _ (S1 _ _ hl);have ln:=hw.G5 _ (aG hn);refine⟨_,rfl,_,rfl,_,rfl,l,_,_,_,rfl,rfl,a9.of gl,aM hn,txt (ws.getD n []),rfl,aw (by show(ws.getD n []).length<=1000000;lia),_,rfl,txt x,rfl,aw (by show x.length<=1000000;lia),?_⟩;rw[show Txt.slice (txt x) (some (((txt (ws.getD n [])).length:Nat):Int)) none=txt (x.drop (ws.getD n []).length) from bN _ _];refine⟨_,rfl,_,rfl,_,rfl,_,rfl,aw (by show 1<=1000000;decide),λl1 Wj=>?_⟩;have S2:=af Wj (.lst [.int (n:Int)]);refine⟨lb,l1,_,_,rfl,rfl,S2 _ _ (z1 _ _ (S1 _ _ gb)),ae,aw (by rw[eN];show b.length+1<=1000000;lia),λl2 Wi=>⟨aw (by show 3<=1000000;decide),λp3 Ru=>⟨aw (by show 2<=1000000;decide),λp4 PN=>?_⟩⟩⟩;rw[gU] at Ru PN ⊢;have S3:=af Wi (.lst (iv (b++[n])));have S4:=af Ru (.tup [.int ((n0:Nat):Int),.ref la,.ref l2]);have S5:=af PN (.tup [.str (txt (x.drop (ws.getD n []).length)),.ref p3]);have SS:=S2.trans (S3.trans (S4.trans S5));refine Nx.mk hk ⟨z1.trans SS,by rw[AV];exact FM z2,?_⟩;rw[et,Bi];exact Paired.snoc (C2.mono SS z3) ⟨p4,.ref p3,rfl,ae,p3,la,l2,rfl,S5 _ _ ae,SS _ _ (z1 _ _ (S1 _ _ ga)),S5 _ _ (S4 _ _ ae)⟩
 obtain⟨z1,z2,z3⟩:=z;rw[eN,BB (AS _)] at z3;have S2:=af EX (.lst PB);have g2:upd H2 p2 (.lst PB) p2=some (.lst PB):=ae;have OO:=C2.mono S2 z3;have SA:=S1.trans (z1.trans S2);generalize upd H2 p2 (.lst PB)=H3 at g2 OO SA ⊢;clear z1 z2 z3 S2 EX;refine⟨_,rfl,_,rfl,l,ws,x,rfl,SA _ _ hl,hw,λq1 js H4 S4 gq nq OB=>⟨q1,rfl,⟨_,a9.of gq⟩,?_⟩⟩;refine cY (K:=K) (a:=q1) (xs:=iv js) (λk i6 H'=>FZ H4 H'/\i6.length<=k/\QE H' i6 ((js.take k).map λn=>((ws.getD n []).drop x.length,n))) ⟨FZ.refl _,AS _,.nil⟩ (λk i6 H' hk z=>z.2.1) (aw (by rw[eN];lia)) (λk i6 H' hk z=>a9.of (z.1 _ _ gq)) (λk v i6 H' hv z=>?_) (λQG H5 z p5 hp5=>?_)
 ·obtain⟨z1,z2,z3⟩:=z;have hk:k<(iv js).length:=(Be.mp hv).1;obtain⟨n,en,rfl⟩:=vD hv;obtain⟨hn,y,ey⟩:=(OB n).mp (Bp en);have et:js.take (k+1)=js.take k++[n]:=by rw[Bw,en];rfl
  have gl:=z1 _ _ (S4 _ _ (SA _ _ hl));have ln:=hw.G5 _ (aG hn);refine⟨_,rfl,_,rfl,l,_,_,_,rfl,rfl,a9.of gl,aM hn,_,rfl,txt x,rfl,aw (by show x.length<=1000000;lia),_,rfl,txt (ws.getD n []),rfl,aw (by show(ws.getD n []).length<=1000000;lia),?_⟩;rw[show Txt.slice (txt (ws.getD n [])) (some (((txt x).length:Nat):Int)) none=txt ((ws.getD n []).drop x.length) from bN _ _];refine⟨_,rfl,aw (by show 2<=1000000;decide),λp4 PN=>?_⟩;have S5:=af PN (.tup [.str (txt ((ws.getD n []).drop x.length)),.int (n:Int)]);refine Nx.mk hk ⟨z1.trans S5,by rw[AV];exact FM z2,?_⟩;rw[et,Bi];exact Paired.snoc (QE.mono S5 z3) ⟨p4,rfl,ae⟩
 obtain⟨z1,z2,z3⟩:=z;rw[eN,BB (AS _)] at z3;have S5:=af hp5 (.lst QG);have g5:upd H5 p5 (.lst QG) p5=some (.lst QG):=ae;have W0:=QE.mono S5 z3;have SB:=S4.trans (z1.trans S5);generalize upd H5 p5 (.lst QG)=H6 at g5 W0 SB ⊢;clear z1 z2 z3 S5 hp5;have Z2:=Paired.length W0;rw[AU] at Z2;refine⟨_,rfl,_,rfl,p5,rfl,⟨_,a9.of g5⟩,?_⟩;refine cY (K:=K) (a:=p5) (xs:=QG) (λk i6 H'=>FZ H6 H'/\i6.length<=k/\C2 H' i6 ((js.take k).map (beS ws x n0 a b))) ⟨FZ.refl _,AS _,.nil⟩ (λk i6 H' hk z=>z.2.1) (aw (by lia)) (λk i6 H' hk z=>a9.of (z.1 _ _ g5)) (λk v i6 H' hv z=>?_) (λZ1 H7 z p7 hp7=>?_)
 ·obtain⟨z1,z2,z3⟩:=z;have hk:k<QG.length:=(Be.mp hv).1;obtain⟨n,en,pe,rfl,hpe⟩:=yx W0 hv;obtain⟨hn,y,ey⟩:=(OB n).mp (Bp en);have et:js.take (k+1)=js.take k++[n]:=by rw[Bw,en];rfl
  have ln:=hw.G5 _ (aG hn);have ld:((ws.getD n []).drop x.length).length<=40:=by rw[By];lia
  refine⟨pe,_,rfl,i5.of (z1 _ _ hpe),rfl,_,_,rfl,_,_,rfl,rfl,?_⟩;refine⟨_,rfl,_,rfl,_,rfl,txt ((ws.getD n []).drop x.length),rfl,aw (by show((ws.getD n []).drop x.length).length<=1000000;lia),_,_,rfl,rfl,?_⟩;refine⟨_,rfl,_,rfl,aw (by show 1<=1000000;decide),λl1 Wj=>?_⟩;have S2:=af Wj (.lst [.int (n:Int)]);refine⟨lb,l1,_,_,rfl,rfl,S2 _ _ (z1 _ _ (SB _ _ (SA _ _ gb))),ae,aw (by rw[eN];show b.length+1<=1000000;lia),λl2 Wi=>⟨_,rfl,aw (by show 3<=1000000;decide),λp3 Ru=>⟨aw (by show 2<=1000000;decide),λp4 PN=>?_⟩⟩⟩;rw[gU] at Ru PN ⊢;have S3:=af Wi (.lst (iv (b++[n])));have S4:=af Ru (.tup [.int (((n0:Nat):Int)+(((txt ((ws.getD n []).drop x.length)).length:Nat):Int)),.ref l2,.ref la]);have S5:=af PN (.tup [.str (txt ((ws.getD n []).drop x.length)),.ref p3]);have SS:=S2.trans (S3.trans (S4.trans S5));refine Nx.mk hk ⟨z1.trans SS,by rw[AV];exact FM z2,?_⟩;rw[et,Bi];exact Paired.snoc (C2.mono SS z3) ⟨p4,.ref p3,rfl,ae,p3,l2,la,rfl,S5 _ _ ae,S5 _ _ (S4 _ _ ae),SS _ _ (z1 _ _ (SB _ _ (SA _ _ ga)))⟩
 obtain⟨z1,z2,z3⟩:=z;rw[Z2,BB (AS _)] at z3;have S7:=af hp7 (.lst Z1);have hs7:=C2.mono S7 z3;have W4:=C2.mono (SB.trans (z1.trans S7)) OO;have l2:=Paired.length OO;have l7:=Paired.length z3;rw[AU] at l2 l7;refine⟨p2,p7,_,_,rfl,rfl,S7 _ _ (z1 _ _ (SB _ _ g2)),ae,aw (by lia),λp np=>?_⟩;have S8:=af np (.lst (PB++Z1));refine q p _ _ _ (SA.trans (SB.trans (z1.trans (S7.trans S8)))) ae (C2.mono S8 (bA W4 hs7)) (by rw[AV,AU,AU];lia) (λs hs=>?_) (λn y hn e=>?_) λn y hn e=>?_
 ·rcases Ba.mp hs with hs|hs
  ·obtain⟨n,hm,rfl⟩:=AW.mp hs;obtain⟨hn,y,e⟩:=(Oi n).mp hm;have ez:x.drop (ws.getD n []).length=y:=by rw[e];exact Ce
   obtain⟨t1,t2⟩:=lZ ht hsx hn e;have t1:E5 ws y (n0,a,b++[n]):=t1;refine⟨?_,?_,AS _,DT _ _⟩
   ·show E5 ws (x.drop (ws.getD n []).length) _;rw[ez];exact t1
   ·show J4 ws (x.drop (ws.getD n []).length);rw[ez];exact t2
  ·obtain⟨n,hm,rfl⟩:=AW.mp hs;obtain⟨hn,y,e⟩:=(OB n).mp hm;have ez:(ws.getD n []).drop x.length=y:=by rw[e];exact Ce
   obtain⟨t1,t2⟩:=lY ht hn e;have t1:E5 ws y (n0+y.length,b++[n],a):=t1;have ln:=hw.G5 _ (aG hn);have ly:y.length<=40:=by rw[e,AV] at ln;lia
   refine⟨?_,?_,?_,?_⟩
   ·show E5 ws ((ws.getD n []).drop x.length) (n0+((ws.getD n []).drop x.length).length,_,_);rw[ez];exact t1
   ·show J4 ws ((ws.getD n []).drop x.length);rw[ez];exact t2
   ·exact DT _ _
   ·show n0+((ws.getD n []).drop x.length).length<=n0+40;rw[ez];lia
 ·refine⟨Z8 ws x n0 a b n,Bu _ (AW.mpr ⟨n,(Oi n).mpr ⟨hn,y,e⟩,rfl⟩),?_,rfl⟩;show x.drop (ws.getD n []).length=y;rw[e];exact Ce
 ·have ez:(ws.getD n []).drop x.length=y:=by rw[e];exact Ce
  refine⟨beS ws x n0 a b n,Bc _ (AW.mpr ⟨n,(OB n).mpr ⟨hn,y,e⟩,rfl⟩),ez,?_⟩;show n0+((ws.getD n []).drop x.length).length=n0+y.length;rw[ez]
open KM
abbrev Gq(H:Hp)(kvs:A6)(E:KM.Ent):Prop:=Paired (λkv e=>(kv:Key×V).1=.inr (txt (e:A7×Fd).1)/\Ie H kv.2 e.2) kvs E
theorem Gq.mono{H H':Hp}(S:FZ H H'){kvs:A6}{E:KM.Ent}(h:Gq H kvs E):Gq H' kvs E:=Paired.Hw h λkv e z=>⟨z.1,z.2.mono S⟩
theorem GU{x y:A7}:(Sum.inr (txt x):Key)=.inr (txt y)↔x=y:=⟨λh=>bU (Sum.inr.inj h),λh=>by rw[h]⟩
theorem kE{H:Hp}{x:A7}:∀{kvs:A6}{E:KM.Ent},Gq H kvs E->iC E x=none->cg kvs (.inr (txt x))=none
 |_,_,.nil,_=>rfl
 |_,_,.cons (l₁:=kvs) (a:=kv) (b:=e) ⟨h1,h2⟩ r,h=>by
  have ne:e.1≠x:=iV h e AZ;rw[bD (by rw[h1];exact λz=>ne (GU.mp z))];refine kE r ?_;unfold iC at h ⊢;rw[Cg,Fp ne] at h;exact h
theorem fc{H:Hp}{x:A7}{f:Fd}:∀{kvs:A6}{E:KM.Ent},Gq H kvs E->iC E x=some f->∃v,cg kvs (.inr (txt x))=some v/\Ie H v f
 |_,_,.nil,h=>by cases h
 |_,_,.cons (a:=kv) (b:=e) ⟨h1,h2⟩ r,h=>by
  by_cases ne:e.1=x
  ·rw[bX (by rw[h1,ne])];unfold iC at h;rw[Cg,Fo ne] at h;have:e.2=f:=Fx h;rw[<- this];exact⟨_,rfl,h2⟩
  ·rw[bD (by rw[h1];exact λz=>ne (GU.mp z))];refine fc r ?_;unfold iC at h ⊢;rw[Cg,Fp ne] at h;exact h
theorem pq{H:Hp}{x:A7}:∀{kvs:A6}{E:KM.Ent},Gq H kvs E->(kvs.any λkv=>decide (kv.1=.inr (txt x)))=(E.any λe=>decide (e.1=x))
 |_,_,.nil=>rfl
 |_,_,.cons ⟨h1,h2⟩ r=>by
  rw[CY,CY,pq r,h1]
  congr 1
  exact decide_eq_decide.mpr GU
theorem oK{H:Hp}{x:A7}{v:V}{f:Fd}(hv:Ie H v f):∀{kvs:A6}{E:KM.Ent},Gq H kvs E->Gq H (kvs.map λkv=>if kv.1=.inr (txt x) then (kv.1,v) else kv) (E.map λe=>if e.1=x then (e.1,f) else e)
 |_,_,.nil=>.nil
 |_,_,.cons (a:=kv) (b:=e) ⟨h1,h2⟩ r=>by
  refine .cons ?_ (oK hv r);show(if kv.1=.inr (txt x) then (kv.1,v) else kv).1=.inr (txt (if e.1=x then (e.1,f) else e).1)/\Ie H (if kv.1=.inr (txt x) then (kv.1,v) else kv).2 (if e.1=x then (e.1,f) else e).2;by_cases c:e.1=x
  ·rw[Fn c,Fn (by rw[h1,c])];exact⟨h1,hv⟩
  ·rw[Fm c,Fm (by rw[h1];exact λz=>c (GU.mp z))];exact⟨h1,h2⟩
theorem ph{H:Hp}{x:A7}{v:V}{f:Fd}{kvs:A6}{E:KM.Ent}(h:Gq H kvs E)(hv:Ie H v f):Gq H (cU kvs (.inr (txt x)) v) (kM E x f):=by
 unfold cU kM;rw[pq h];split
 ·exact oK hv h
 ·exact bA h (.cons ⟨rfl,hv⟩ .nil)
theorem lK{H:Hp}{x:A7}:∀{kvs:A6}{E:KM.Ent},Gq H kvs E->Gq H (cC kvs (.inr (txt x))) (dW E x)
 |_,_,.nil=>.nil
 |_,_,.cons (a:=kv) (b:=e) ⟨h1,h2⟩ r=>by
  have ih:=lK (x:=x) r;unfold cC dW at ih ⊢;rw[CI,CI];by_cases c:e.1=x
  ·rw[Fp (λz=>z (by rw[h1,c])),Fp (λz=>z c)];exact ih
  ·rw[Fo (show kv.1≠_ by rw[h1];exact λz=>c (GU.mp z)),Fo c];exact .cons ⟨h1,h2⟩ ih
def C9 (dn:A2):A6:=dn.map λx=>(.inr (txt x),.bl true)
theorem sP(x:A7):∀dn:A2,(cg (C9 dn) (.inr (txt x))).isSome=decide (x∈dn)
 |[]=>by rfl
 |y::r=>by
  have ih:=sP x r;show(cg ((.inr (txt y),.bl true)::C9 r) (.inr (txt x))).isSome=_;by_cases c:y=x
  ·rw[bX (by rw[c]),c];simp
  ·rw[bD (λz=>c (GU.mp z)),ih];refine decide_eq_decide.mpr ⟨λz=>Bg _ z,λz=>(Bb.mp z).elim (λq=>absurd q.symm c) id⟩
theorem vX{x:A7}{dn:A2}(h:x∉dn):cU (C9 dn) (.inr (txt x)) (.bl true)=C9 (dn++[x]):=by
 have e:((C9 dn).any λkv=>decide (kv.1=.inr (txt x)))=false:=by
  rw[Er];intro kv hk;obtain⟨y,hy,rfl⟩:=AW.mp hk;intro z;have:y=x:=GU.mp (Fu z);rw[this] at hy;exact h hy
 unfold cU;rw[e];show C9 dn++[_]=_;unfold C9;rw[Bi];rfl
theorem Ie.upd{H:Hp}{a:Addr}{kvs:A6}{o:HO}(ha:H a=some (.dK kvs)){v:V}{f:Fd}(h:Ie H v f):Ie (L2.upd H a o) v f:=by
 obtain⟨p,la,lb,h1,h2,h3,h4⟩:=h;have n:∀b u,H b=some u->u≠.dK kvs->b≠a:=λb u e ne z=>by rw[z,ha] at e;exact ne (Fx e).symm
 exact⟨p,la,lb,h1,by rw[aj (n _ _ h2 (λz=>by cases z))];exact h2,by rw[aj (n _ _ h3 (λz=>by cases z))];exact h3,by rw[aj (n _ _ h4 (λz=>by cases z))];exact h4⟩
theorem C2.upd{H:Hp}{a:Addr}{kvs:A6}{o:HO}(ha:H a=some (.dK kvs)){us:A9}{ss:List (A7×Fd)}(h:C2 H us ss):C2 (L2.upd H a o) us ss:=Paired.Hw h λv s ⟨p,u,h1,h2,h3⟩=>
 ⟨p,u,h1,by rw[aj (λz=>by rw[z,ha] at h2;cases h2)];exact h2,h3.upd ha⟩
theorem Gq.upd{H:Hp}{a:Addr}{WH:A6}{o:HO}(ha:H a=some (.dK WH)){kvs:A6}{E:KM.Ent}(h:Gq H kvs E):Gq (L2.upd H a o) kvs E:=Paired.Hw h λkv e z=>⟨z.1,z.2.upd ha⟩
theorem xp{H:Hp}{a:Addr}{o:HO}(h:H a=some o):L2.upd H a o=H:=by
 funext b
 by_cases e:b=a
 ·rw[e,ae,h]
 ·rw[aj e]
theorem kS{dn:A2}:∀(ss:List (A7×Fd))(E:KM.Ent),(ss.foldl (bC dn) E).length<=E.length+ss.length
 |[],E=>AS _
 |s::r,E=>by
  have h1:=kS (dn:=dn) r (bC dn E s);have h2:(bC dn E s).length<=E.length+1:=by
   rcases bP dn E s with ⟨_,e⟩|⟨_,_,e⟩|⟨_,_,e⟩
   ·rw[e];lia
   ·rw[e];lia
   ·rw[e];unfold kM;split
    ·rw[AU];lia
    ·rw[AV];exact AS _
  rw[Dj,Bl];lia
def Oc:Sp:=λvs H Q _=>∃a b l kvs E dn us ss,vs=[.ref a,.ref b,.ref l]/\H a=some (.dK kvs)/\Gq H kvs E/\a≠b/\H b=some (.dK (C9 dn))/\H l=some (.lst us)/\C2 H us ss/\E.length+ss.length<=1000 /\
 ∀n5 H',H'=upd H a (.dK n5)->Gq H' n5 (ss.foldl (bC dn) E)->Q .f6 H'
theorem ya{d:DD}(D:Def K mg "keep_shorter" (top 30) ["waiting","done","steps"] d):(fk 1 d ["waiting","done","steps"] Oc):=by
 exists["waiting","done","steps","left","found"]
 obtain⟨a,b,l,kvs,E',dn,us,ss,rfl,ha,hE,nab,hb,hl,hS,hz,q⟩:=h;refine⟨_,(ai (bG (aR (2)) (dM (aD (ao 3) (aD (ao 4) (@Gr _)))) (ai (bx (@PW.pt _ _ _ (cG (ko (dI (cZ hr) (3) (1)) (by first|exact dH _ (by decide) (by decide)|rfl)) (bS (@PW.pt _ _ _ (iM (ko (dI (cZ hr) (3) (0)) (by first|exact dH _ (by decide) (by decide)|rfl)) (eT (ay IH (aW Hn (4) (ah _)) (aW Hn (hV (cZ hr) (0) (3)) (ah _)) (aE _)))))))) (ai (dA (cZ hr) (0) (3) (4))) (Gb _))))),?_⟩
 walk_at "d"
 have yl:=Paired.length hS;refine⟨_,rfl,l,rfl,⟨_,a9.of hl⟩,?_⟩;have Ry:l≠a:=bB hl ha (λz=>by cases z);refine fh (K:=K) (a:=l) (xs:=us) (λi σ H'=>∃e3 e4 n5,σ=[some (.ref a),some (.ref b),some (.ref l),e3,e4]/\H'=upd H a (.dK n5)/\Gq H' n5 ((ss.take i).foldl (bC dn) E')) ⟨_,_,kvs,rfl,(xp ha).symm,hE⟩ (λi σ H' hi z=>?_) (λi v σ H' hv z=>?_) (fun σ H' z=>?_)
 ·obtain⟨_,_,n5,_,rfl,_⟩:=z;exact a9.of (by rw[aj Ry];exact hl)
 ·obtain⟨e3,e4,n5,rfl,eH,Oj⟩:=z;have hi:i<us.length:=(Be.mp hv).1;obtain⟨s0,es,p,u,rfl,hp,hu⟩:=eG (by rw[eH];exact C2.upd ha hS:C2 H' us ss) hv;have Qh:H' a=some (.dK n5):=by rw[eH];exact ae
  have C7:H' b=some (.dK (C9 dn)):=by rw[eH,aj (FI nab)];exact hb
  have et:(ss.take (i+1)).foldl (bC dn) E'=bC dn ((ss.take i).foldl (bC dn) E') s0:=by rw[Bw,es,List.foldl_append];rfl
  have few:n5.length<sizeLine:=by
   rw[Paired.length Oj];have:=kS (dn:=dn) (ss.take i) E';rw[Bs] at this;exact Cf (show _<=1000 by lia) (by decide)
  generalize (ss.take i).foldl (bC dn) E'=Ec at Oj et;refine⟨p,_,rfl,i5.of hp,rfl,_,_,rfl,_,_,rfl,rfl,?_⟩;refine⟨_,rfl,_,rfl,b,_,rfl,HE.k (k:=.inr (txt s0.1)) C7,_,rfl,?_⟩;rw[sP];by_cases hd:s0.1∈dn
  ·rw[Fo hd];refine⟨_,_,n5,rfl,eH,?_⟩;rw[et];unfold bC;rw[Fn hd];exact Oj
  rw[Fp hd];refine⟨_,rfl,_,rfl,a,_,rfl,HE.k (k:=.inr (txt s0.1)) Qh,_,rfl,?_⟩;cases hg:iC Ec s0.1 with
  |none=>
   rw[kE Oj hg];refine⟨_,rfl,_,rfl,_,rfl,a,_,rfl,JN.k (k:=.inr (txt s0.1)) Qh few,?_⟩;refine⟨_,_,_,rfl,by rw[eH,jz],?_⟩;rw[et];unfold bC;rw[Fm hd,hg];exact Gq.upd Qh (ph Oj hu)
  |some f=>
   obtain⟨v',MJ,hf⟩:=fc Oj hg;rw[MJ];obtain⟨p1,la1,lb1,eu,g1,_,_⟩:=id hu;obtain⟨p2,la2,lb2,ev,g2,_,_⟩:=id hf;have hv2:HE H' a (.str (txt s0.1)) (some v'):=by rw[<- MJ];exact HE.k (k:=.inr (txt s0.1)) Qh
   refine⟨_,rfl,p1,_,0,_,eu,rfl,i5.of g1,rfl,_,rfl,_,rfl,a,v',rfl,hv2,p2,_,0,_,ev,rfl,i5.of g2,rfl,_,_,rfl,rfl,decide (s0.2.1<f.1),?_,?_⟩
   ·show V.bl (decide (((s0.2.1:Nat):Int)<((f.1:Nat):Int)))=_
    congr 1
    exact decide_eq_decide.mpr ⟨λh=>by lia,λh=>by lia⟩
   by_cases d5:s0.2.1<f.1
   ·rw[Fo d5];refine⟨_,rfl,_,rfl,_,rfl,a,_,rfl,JN.k (k:=.inr (txt s0.1)) Qh few,?_⟩;refine⟨_,_,_,rfl,by rw[eH,jz],?_⟩;rw[et];unfold bC;rw[Fm hd,hg];simp only[Fn d5];exact Gq.upd Qh (ph Oj hu)
   ·rw[Fp d5];refine⟨_,_,n5,rfl,eH,?_⟩;rw[et];unfold bC;rw[Fm hd,hg];simp only[Fm d5];exact Oj
 ·obtain⟨e3,e4,n5,rfl,eH,Oj⟩:=z;rw[yl,BB (AS _)] at Oj;exact q n5 H' eH Oj
open KM
def JH:Str:="twins_of.<locals>.<lambda>"
def JJ:Pos:=⟨106,32,106,61⟩
def yK (T:Addr):Sp:=λvs H Q _=>∃l ws,vs=[.ref l]/\H l=some (.lst (ak ws))/\E4 ws/\GR JJ JH T H/\(∀dn H',K7 ws dn []->j6 T H H'->GR JJ JH T H'->Q .f6 H') /\
 ∀p la lb a b dn E f H',K7 ws dn E->([],f)∈E->((∀e∈E,f.1<=e.2.1)/\f.1<=100000)->(f.2=(a,b)\/f.2=(b,a))->a.headD 0<b.headD 0->H' p=some (.tup [.ref la,.ref lb])->H' la=some (.lst (iv a))->H' lb=some (.lst (iv b))->j6 T H H'->GR JJ JH T H'->Q (.ref p) H'
theorem Ie.QK{H H':Hp}{T:Addr}{ps:Array Value}(hT:H T=some (.B8 ps))(S:j6 T H H'){v:V}{f:Fd}(h:Ie H v f):Ie H' v f:=by
 obtain⟨p,la,lb,h1,h2,h3,h4⟩:=h;have n:∀b u,H b=some u->u≠.B8 ps->b≠T:=λb u e ne z=>by rw[z,hT] at e;exact ne (Fx e).symm
 exact⟨p,la,lb,h1,S _ _ (n _ _ h2 (λz=>by cases z)) h2,S _ _ (n _ _ h3 (λz=>by cases z)) h3,S _ _ (n _ _ h4 (λz=>by cases z)) h4⟩
theorem Gq.QK{H H':Hp}{T:Addr}{ps:Array Value}(hT:H T=some (.B8 ps))(S:j6 T H H'){kvs:A6}{E:KM.Ent}(h:Gq H kvs E):Gq H' kvs E:=Paired.Hw h λkv e z=>⟨z.1,z.2.QK hT S⟩
theorem GR.upd{pos:Pos}{q:Str}{T a:Addr}{H:Hp}{kvs:A6}{o:HO}(h:GR pos q T H)(ha:H a=some (.dK kvs)):GR pos q T (L2.upd H a o):=by
 obtain⟨ps,h1,h2,h3⟩:=h.ex;refine⟨ps,by rw[aj (λz=>by rw[z,ha] at h1;cases h1)];exact h1,h2,?_⟩;rcases h3 with h3|⟨c,h3,h4⟩
 ·exact .inl h3
 ·exact .inr ⟨c,h3,by rw[aj (λz=>by rw[z,ha] at h4;cases h4)];exact h4⟩
theorem dy{dn:A2}:∀(ss:List (A7×Fd)){E:KM.Ent}{e:A7×Fd},e∈ss.foldl (bC dn) E->e∈E\/e∈ss
 |[],E,e,h=>.inl h
 |s::r,E,e,h=>by
  rw[Dj] at h;rcases dy r h with h|h
  ·rcases bP dn E s with ⟨_,z⟩|⟨_,_,z⟩|⟨_,_,z⟩
   ·rw[z] at h;exact .inl h
   ·rw[z] at h;exact .inl h
   ·rw[z] at h;rcases fk h with h|⟨h,_⟩
    ·exact .inr (by rw[h];exact AZ)
    ·exact .inl h
  ·exact .inr (Bg _ h)
structure Tst(T:Addr)(ws:A2)(H0:Hp)(Da Wa:Addr)(dn:List (A7×Nat))(E:KM.Ent)(kvs:A6)(H:Hp):Prop where
 sm:j6 T H0 H
 gD:H Da=some (.dK (C9 (dn.map (·.1))))
 gW:H Wa=some (.dK kvs)
 nD:H0 Da=none
 nW:H0 Wa=none
 ne:Da≠Wa
 en:Gq H kvs E
 lt:GR JJ JH T H
 dj:K7 ws dn E
 bd:∀e∈E,e.2.1<=40*(dn.length+1)
theorem lN{H:Hp}:∀{kvs:A6}{E:KM.Ent},Gq H kvs E->kvs.map (·.1)=(E.map λe=>txt e.1).map Sum.inr
 |_,_,.nil=>rfl
 |_,_,.cons ⟨h1,_⟩ r=>by rw[Bm,Bm,Bm,lN r,h1]
def xC (E:KM.Ent)(k:Str):Int:=((iC E k.cps.toList).map λf=>((f.1:Nat):Int)).getD 0
theorem jV{E:KM.Ent}(nd:(E.map (·.1)).Nodup){x:A7}{f:Fd}(h:(x,f)∈E):xC E (txt x)=((f.1:Nat):Int):=by
 unfold xC;rw[show(txt x).cps.toList=x from rfl,gG nd h];rfl
theorem MR:FX ["words","done","waiting","left","found","length","one","other"] ["words"] (ar (top 31)):=by walk_at "s"
theorem yw{dfs dks dns d:DD}{cd T:Addr}(LK:Np K mg cd T)(u7:d.fd.code=.ref cd)(D_fs:(dg "first_steps" 28 ["words"] dfs 2 NK))(D_ks:(dg "keep_shorter" 30 ["waiting","done","steps"] dks 1 Oc))(D_ns:(dg "next_steps" 29 ["words","left","found"] dns 2 NO))(D:Def K mg "twins_of" (top 31) ["words"] d)(zl:mg "min"=none):(fk 4 d ["words"] (yK T)):=by
 refine D.fn.okC u7 MR (λvs H Q E h=>?_) (λA outer s H vs Q E hr h=>?_)
 ·obtain⟨l,ws,rfl,_⟩:=h;rfl
 obtain⟨l,ws,rfl,hl,hw,hT,qN,qS⟩:=h;have hc:=hr.calm;have nd:=MR.nd;have Tq:=Cf (Bh (DT _ _) (DT _ _)) hr.dp;have hu2:A.units+3+1+3+1<cLine:=by have:=hr.un;simp only[Around.deeper] at this;lia
 refine⟨_,(ag (aA 1 (@Jj _ _)) (ag (ad 2 (@Jj _ _)) (ag (bT (bw D_ks.1 D_ks.2 (FU (2) (FU (1) (aI (cK D_fs.1 D_fs.2 (0) aF) eK) aF) aF))) (ag (cR (lg (2)) (ag (aA 3 (nO (cd) (T) (JH) ("text") (["waiting"]) ([2]) LK (aq (ts:=["text"]) (cap:=["waiting"]) (js:=[2]) rfl rfl rfl rfl rfl rfl (by decide +kernel)) (λ_ _ _ _ _=>rfl) Tq (aW (show L8 _ (Nw K) from Hn) (hV hu2 (1) (0)) (ah _)) zl Kb (2))) (ag (aA 4 (@qx _ _ _ _ _ _ _ (2) (3) ⟨rfl,rfl,rfl,rfl⟩)) (ag (eR (4) (dM (aD (ao 5) (aD (ao 6) (aD (ao 7) (@Gr _)))))) (ag (bx (ay GV (3) (aU _) (aE _)) (ai (aJ (fo (ay IH (aW Ga (6) (ah _)) (aW Ga (7) (ah _)) (aE _)) (aN (FU (6) (aI (7) aF) aF)) (aN (FU (7) (aI (6) aF) aF))))) (Gb _)) (ag (dA (cZ hr) (1) (3) (cI _)) (ai (bT (bw D_ks.1 D_ks.2 (FU (2) (FU (1) (aI (bw D_ns.1 D_ns.2 (FU (0) (FU (3) (aI (4) aF) aF) aF)) eK) aF) aF)))))))))) (ai (aJ (eM _))))))),?_⟩
 walk_at "d"
 have h8:=hw.n8;refine λDa nDa Wa Rz=>?_;have PQ:H Da=none:=nDa;have C3:Da≠Wa:=λz=>by rw[<- z,ae] at Rz;cases Rz
 have N5:H Wa=none:=by rw[aj (FI C3)] at Rz;exact Rz
 have S1:FZ H (upd (upd H Da (.dK [])) Wa (.dK [])):=(af nDa _).trans (af Rz _);have Zw:upd (upd H Da (.dK [])) Wa (.dK []) Da=some (.dK []):=by rw[aj C3];exact ae
 have Zq:upd (upd H Da (.dK [])) Wa (.dK []) Wa=some (.dK []):=ae;generalize upd (upd H Da (.dK [])) Wa (.dK [])=H1 at S1 Zw Zq;refine⟨_,rfl,_,rfl,_,rfl,l,ws,rfl,S1 _ _ hl,hw,λp1 j7 Va H2 S2 Q0 RQ ls1 Ll hf1=>?_⟩;refine⟨Wa,Da,p1,[],[],[],j7,Va,rfl,S2 _ _ Zq,.nil,FI C3,S2 _ _ Zw,Q0,RQ,by show 0+Va.length<=1000;lia,λRE H3 UE hE3=>?_⟩;have gW2:=S2 _ _ Zq;have t0:Tst T ws H Da Wa [] (Va.foldl (bC []) []) RE H3:=by
  refine⟨λb o nT e=>?_,?_,by rw[UE];exact ae,PQ,N5,C3,hE3,?_,K7.start (λs hs=>⟨(Ll s hs).1,(Ll s hs).2.1⟩) hf1,λe he=>?_⟩
  ·have:=S2 _ _ (S1 _ _ e);rw[UE,aj (aC e N5)];exact this
  ·rw[UE,aj C3];exact S2 _ _ Zw
  ·rw[UE];exact GR.upd ((hT.same S1).same S2) gW2
  ·rcases dy _ he with he|he
   ·cases he
   ·have:=(Ll e he).2.2;show _<=40*(0+1);lia
 clear hE3 Ll hf1 RQ Q0;refine⟨λm σ H'=>∃(dn:List (A7×Nat))(E:KM.Ent)(kvs:A6)(e3 e4 e5 e6 e7:Option V),σ=[some (.ref l),some (.ref Da),some (.ref Wa),e3,e4,e5,e6,e7]/\Tst T ws H Da Wa dn E kvs H'/\m=1000-dn.length,⟨1000,[],_,RE,_,_,_,_,_,rfl,t0,rfl⟩,?_⟩;rintro m σ H4 ⟨dn,E',kvs,e3,e4,e5,e6,e7,rfl,t,rfl⟩;have gW:=t.gW;have lE:E'.length<=328:=by
  have:=mS h8 hw.G5 t.dj.wt.OL (λx hx=>by obtain⟨e,he,rfl⟩:=AW.mp hx;exact(t.dj.wt.Ox e he).2);rw[AU] at this;exact this
 have lD:dn.length<=328:=by
  have:=mS h8 hw.G5 t.dj.ndD (λx hx=>by obtain⟨e,he,rfl⟩:=AW.mp hx;exact(t.dj.nil e he).2);rw[AU] at this;exact this
 have lk:=Paired.length t.en;obtain⟨psT,gT,_⟩:=t.lt.ex;refine⟨_,rfl,!kvs.isEmpty,.inr (.inr ⟨kvs,gW,rfl⟩),?_⟩;cases YR:kvs.isEmpty with
 |true=>
  have ek:kvs=[]:=DV.mp YR;have eE:E'=[]:=by
   rw[ek] at lk;exact BM.mp lk.symm
  have dj:=t.dj;rw[eE] at dj;exact qN dn H4 dj t.sm t.lt
 |false=>
  have k8:E'≠[]:=λz=>by
   rw[z] at lk;rw[BM.mp lk] at YR;cases YR
  refine⟨_,fun c5 H' z=>z,?_⟩;refine⟨_,rfl,t.lt,Wa,kvs,E'.map (λe=>txt e.1),xC E',rfl,gW,lN t.en,(λz=>k8 (List.map_eq_nil_iff.mp z)),λH5 o k0 S5 hk=>?_,λk0 H5 hk z5 S5 L5=>?_⟩
  ·obtain⟨⟨x,f⟩,he,rfl⟩:=AW.mp hk;obtain⟨v,hv,hf⟩:=fc t.en (gG t.dj.wt.OL he);obtain⟨pf,la,lb,rfl,gf,_,_⟩:=hf.QK gT S5;have Qn:H5 Wa=some (.dK kvs):=S5 _ _ (bB gW gT (λz=>by cases z)) gW;have Wd:pf≠Wa:=bB gf Qn (λz=>by cases z);refine⟨_,rfl,_,rfl,Wa,_,rfl,.inl ⟨kvs,.inr (txt x),.inr ⟨o,ae⟩,rfl,hv.symm⟩,pf,_,0,_,rfl,rfl,i5.of (by rw[aj Wd];exact gf),rfl,?_,rfl⟩;show V.int ((f.1:Nat):Int)=V.int (xC E' (txt x));rw[jV t.dj.wt.OL he]
  obtain⟨⟨x,f⟩,he,rfl⟩:=AW.mp hk;have Og:∀e∈E',f.1<=e.2.1:=λe hm=>by
   have:=z5 (txt e.1) (AW.mpr ⟨e,hm,rfl⟩);rw[jV t.dj.wt.OL he,jV t.dj.wt.OL hm] at this;lia
  have Qn:H5 Wa=some (.dK kvs):=S5 _ _ (bB gW gT (λz=>by cases z)) gW;have gD5:H5 Da=some (.dK (C9 (dn.map (·.1)))):=S5 _ _ (bB t.gD gT (λz=>by cases z)) t.gD;have en5:=t.en.QK gT S5;obtain⟨v,hv,hf⟩:=fc en5 (gG t.dj.wt.OL he);obtain⟨RO,WZ⟩:=t.dj.wt.Ox _ he;have Qb:=t.bd _ he;refine⟨_,rfl,Wa,rfl,.inl ⟨kvs,.inl Qn⟩,_,rfl,kvs,.inr (txt x),v,Qn,rfl,hv,?_⟩;have Y3:Ie (upd H5 Wa (.dK (cC kvs (.inr (txt x))))) v f:=hf.upd Qn;have en6:Gq (upd H5 Wa (.dK (cC kvs (.inr (txt x))))) (cC kvs (.inr (txt x))) (dW E' x):=Gq.upd Qn (lK en5);have gW6:upd H5 Wa (.dK (cC kvs (.inr (txt x)))) Wa=some (.dK (cC kvs (.inr (txt x)))):=ae;have TM:upd H5 Wa (.dK (cC kvs (.inr (txt x)))) Da=some (.dK (C9 (dn.map (·.1)))):=by rw[aj C3];exact gD5
  have L6:GR JJ JH T (upd H5 Wa (.dK (cC kvs (.inr (txt x))))):=GR.upd L5 Qn;have Ub:j6 T H (upd H5 Wa (.dK (cC kvs (.inr (txt x))))):=λb o nT e=>by
   rw[aj (aC e N5)];exact S5 b o nT (t.sm b o nT e)
  generalize upd H5 Wa (.dK (cC kvs (.inr (txt x))))=H6 at Y3 en6 gW6 TM L6 Ub;obtain⟨pf,la,lb,rfl,gf,ga,gb⟩:=id Y3;refine⟨_,rfl,pf,_,rfl,i5.of gf,rfl,_,_,rfl,_,_,rfl,_,_,rfl,rfl,?_⟩;refine⟨_,rfl,rfl,decide (x=[]),?_,?_⟩
  ·show V.bl (decide (V.str (txt x)=V.str ""))=_
   congr 1
   refine decide_eq_decide.mpr ⟨λz=>?_,λz=>by rw[z];rfl⟩;have z1:txt x="":=by injection z
   have z2:(txt x).cps.toList=("":Str).cps.toList:=by rw[z1]
   exact z2
  by_cases hx:x=[]
  ·rw[Fo hx];subst hx;obtain⟨i,j,s1,s2,ea,eb,nij⟩:=RO.ne;have aa:B5 (iv f.2.1) 0=some (.int ((i:Nat):Int)):=by rw[ea];show B5 (iv (i::s1)) ((0:Nat):Int)=_;exact bK rfl
   have ab:B5 (iv f.2.2) 0=some (.int ((j:Nat):Int)):=by rw[eb];show B5 (iv (j::s2)) ((0:Nat):Int)=_;exact bK rfl
   refine⟨_,rfl,la,_,0,_,rfl,rfl,a9.of ga,aa,_,rfl,lb,_,0,_,rfl,rfl,a9.of gb,ab,_,_,rfl,rfl,decide (i<j),?_,?_⟩
   ·show V.bl (decide (((i:Nat):Int)<((j:Nat):Int)))=_
    congr 1
    exact decide_eq_decide.mpr ⟨λh=>by lia,λh=>by lia⟩
   by_cases k5:i<j
   ·rw[Fo k5];refine⟨_,rfl,_,rfl,aw (by show 2<=1000000;decide),λp np=>?_⟩;have S7:=af np (.tup [.ref la,.ref lb]);exact qS p la lb f.2.1 f.2.2 dn E' f _ t.dj he ⟨Og,by show f.1<=100000;have:f.1<=40*(dn.length+1):=Qb;lia⟩ (.inl rfl) (by rw[ea,eb];exact k5) ae (S7 _ _ ga) (S7 _ _ gb) (Ub.trans (j6.of S7)) (L6.same S7)
   ·rw[Fp k5];refine⟨_,rfl,_,rfl,aw (by show 2<=1000000;decide),λp np=>?_⟩;have S7:=af np (.tup [.ref lb,.ref la]);exact qS p lb la f.2.2 f.2.1 dn E' f _ t.dj he ⟨Og,by show f.1<=100000;have:f.1<=40*(dn.length+1):=Qb;lia⟩ (.inr rfl) (by rw[ea,eb];show j<i;lia) ae (S7 _ _ gb) (S7 _ _ ga) (Ub.trans (j6.of S7)) (L6.same S7)
  ·rw[Fp hx];have nxd:x∉dn.map (·.1):=λz=>by
    obtain⟨p,hp,e⟩:=AW.mp z;exact t.dj.wt.UH _ he p hp e.symm
   refine⟨_,rfl,_,rfl,Da,_,rfl,JN.k (k:=.inr (txt x)) TM (Cf (show _<=1000 by unfold C9;rw[AU,AU];lia) (by decide)),?_⟩;rw[vX nxd];have Zv:upd H6 Da (.dK (C9 (dn.map (·.1)++[x]))) Da=some (.dK (C9 (dn.map (·.1)++[x]))):=ae;have Zo:upd H6 Da (.dK (C9 (dn.map (·.1)++[x]))) Wa=some (.dK (cC kvs (.inr (txt x)))):=by rw[aj (FI C3)];exact gW6
   have hf7:Ie (upd H6 Da (.dK (C9 (dn.map (·.1)++[x])))) (.ref pf) f:=Y3.upd TM;have en7:Gq (upd H6 Da (.dK (C9 (dn.map (·.1)++[x])))) (cC kvs (.inr (txt x))) (dW E' x):=Gq.upd TM en6;have L7:GR JJ JH T (upd H6 Da (.dK (C9 (dn.map (·.1)++[x])))):=GR.upd L6 TM;have Vc:j6 T H (upd H6 Da (.dK (C9 (dn.map (·.1)++[x])))):=λb o nT e=>by
    rw[aj (aC e PQ)];exact Ub b o nT e
   generalize upd H6 Da (.dK (C9 (dn.map (·.1)++[x])))=H7 at Zv Zo hf7 en7 L7 Vc;have hlT:l≠T:=by
    obtain⟨ps0,g0,_⟩:=hT.ex;exact bB hl g0 (λz=>by cases z)
   refine⟨_,rfl,_,rfl,_,rfl,_,rfl,_,rfl,l,ws,x,.ref pf,f,rfl,Vc _ _ hlT hl,hw,hf7,RO,WZ,by show f.1<=100000;have:f.1<=40*(dn.length+1):=Qb;lia,λp8 us8 ss8 H8 S8 gp8 WY ls8 Uw h82 h83=>?_⟩;have ldr:(dW E' x).length<=328:=Bh (Ez _ _) lE;refine⟨Wa,Da,p8,_,dW E' x,dn.map (·.1)++[x],us8,ss8,rfl,S8 _ _ Zo,en7.mono S8,FI C3,S8 _ _ Zv,gp8,WY,by lia,λWG H9 UC hE9=>?_⟩;refine⟨1000-(dn.length+1),by lia,dn++[(x,f.1)],ss8.foldl (bC (dn.map (·.1)++[x])) (dW E' x),WG,_,_,_,_,_,rfl,?_,by rw[AV];rfl⟩;have Q1:=S8 _ _ Zo;refine⟨λb o nT e=>?_,?_,by rw[UC];exact ae,PQ,N5,C3,hE9,?_,K7.step t.dj he Og hx (λs hs=>⟨(Uw s hs).1,(Uw s hs).2.1,(Uw s hs).2.2.1⟩) h82 h83,λe hem=>?_⟩
   ·rw[UC,aj (aC e N5)];exact S8 _ _ (Vc b o nT e)
   ·rw[UC,aj C3,Bi];exact S8 _ _ Zv
   ·rw[UC];exact GR.upd (L7.same S8) Q1
   ·rw[AV];show e.2.1<=40*(dn.length+1+1);rcases dy _ hem with hm|hm
    ·have:=t.bd e (GP.mp hm).1;lia
    ·have h1:=(Uw e hm).2.2.2;have:f.1<=40*(dn.length+1):=Qb;lia
def wx (T:Addr):Sp:=λvs H Q _=>∃l us ws,vs=[.ref l]/\H l=some (.lst us)/\Jk H us ws/\E4 ws/\GR JJ JH T H/\(∀dn H',K7 ws dn []->j6 T H H'->GR JJ JH T H'->Q .f6 H') /\
 ∀p la lb a b dn E f H',K7 ws dn E->([],f)∈E->((∀e∈E,f.1<=e.2.1)/\f.1<=100000)->(f.2=(a,b)\/f.2=(b,a))->a.headD 0<b.headD 0->H' p=some (.tup [.ref la,.ref lb])->H' la=some (.lst (iv a))->H' lb=some (.lst (iv b))->j6 T H H'->GR JJ JH T H'->Q (.ref p) H'
theorem wu{dm dt d:DD}{T:Addr}(zd:(dg "maker_words" 16 ["makers"] dm 5 KS))(D_to:(dg "twins_of" 31 ["words"] dt 4 (yK T)))(D:Def K mg "twins" (top 32) ["makers"] d):(fk 6 d ["makers"] (wx T)):=by
 exists["makers"]
 obtain⟨l,us,ws,rfl,hl,hm,hw,hT,qN,qS⟩:=h;refine⟨_,(ai (aJ (cK D_to.1 D_to.2 (cK zd.1 zd.2 (0) aF) eK))),?_⟩
 walk_at "d"
 refine⟨_,rfl,l,us,ws,rfl,hl,hm,hw,λp H1 S1 gp=>?_⟩;exact⟨p,ws,rfl,gp,hw,hT.same S1,λdn H' h1 h2 h3=>qN dn H' h1 ((j6.of S1).trans h2) h3,λp la lb a b dn E f H' h1 h2 h3 h4 h5 h6 h7 h8 h9 h10=>qS p la lb a b dn E f H' h1 h2 h3 h4 h5 h6 h7 h8 ((j6.of S1).trans h9) h10⟩
open KM
structure Cw(ws:A2)(k:A2):Prop where
 so:sortedS (k.map txt)=true
 nd:k.Nodup
 ps:∀z∈k,∃u,u++z∈ws
theorem sI(ws:A2):T5 (Cw ws):=λa b ha hb h=>by
 have p:a.Perm b:=by
  refine(Ff ha.nd hb.nd).mpr λz=>h z
 have:=(mw (.refl _) (.refl _) ha.so hb.so).mpr p;exact DW (λx y e=>bU e) |>.mp this
theorem uR(x:A7)(r:A2):PV (.str (txt x)) (ak r)=decide (x∈r):=by
 unfold PV;rw[FL,Dx,decide_eq_true_iff];constructor
 ·rintro⟨v,hv,e⟩;obtain⟨y,hy,rfl⟩:=AW.mp hv;have e':decide (txt y=txt x)=true:=e;rw[<- bU (Fu e')];exact hy
 ·intro h;exact⟨_,AW.mpr ⟨x,h,rfl⟩,(show decide (txt x=txt x)=true from Fo rfl)⟩
theorem lO(r:A2):(ak r).all HV=true:=Cp.mpr λv hv=>by
 obtain⟨y,_,rfl⟩:=AW.mp hv;rfl
theorem zp:("":Str)=txt []:=by decide +kernel
theorem nY(y:A7)(c:Nat):Txt.startswith (txt y) (txt [c])=true↔∃z,y=c::z:=bO y [c]
def NI:Sp:=λvs H Q _=>∃l t ws r c,vs=[.ref l,.ref t,.str (txt [c])]/\H l=some (.lst (ak ws))/\H t=some (.tup (ak r))/\ws.length<=9/\r.length<=80/\(∀w∈ws,w.length<=40)/\UL ws/\Cw ws r /\
 ∀p k' H',FZ H H'->H' p=some (.tup (ak k'))->Cw ws k'->KM.F7 ws r c k'->Q (.ref p) H'
theorem yz{d:DD}(D:Def K mg "rests_behind" (top 19) ["words","rests","letter"] d)(yX:mg "list"=none)(yT:mg "tuple"=none)(yS:mg "sorted"=none):(fk 1 d ["words","rests","letter"] NI):=by
 exists["words","rests","letter","begun"]
 obtain⟨l,t,ws,r,c,rfl,hl,ht,n9,r63,TC,few,cw,q⟩:=h;have hh:=hr.hd;refine⟨_,(ag (aA 3 (aB Hg (ba GA yX Hk (aI (1) aF)) (@wy _ _ _ (fo (ay Iw (aU _) (1) rfl) (0) (bj (@Ge _)))))) (ai (aJ (ba Gi yT GH (aI (gn hh (oD (aq (ts:=["rest"]) (cap:=["letter"]) (js:=[2]) rfl rfl rfl rfl rfl rfl (by decide +kernel)) (aR (3)) (am 0 (nd ["rest","letter"])) (@cH _ _ _ (cx (kG Fz PySem.F.slot_str_startswith PySem.F.type_str_startswith GY (0) (aI (1) aF)))) (aX GK (0) (bu (ah _)) (Gj _))) yS GD) eK))))),?_⟩
 walk_at "d"
 refine⟨_,rfl,t,ak r,rfl,.inr (i5.of ht),λB nB=>?_⟩;have S1:=af nB (.lst (ak r));have gB:upd H B (.lst (ak r)) B=some (.lst (ak r)):=ae;generalize upd H B (.lst (ak r))=H1 at S1 gB ⊢;refine⟨λv H'=>∃C vs,v=.ref C/\FZ H1 H'/\H' C=some (.lst (ak vs))/\vs.length<=9/\(∀x∈vs,x.length<=40)/\∀x,x∈vs↔[]∈r/\x∈ws,?_,λv H2 z=>?_⟩
 ·refine⟨_,rfl,t,ak r,rfl,.inr (i5.of (S1 _ _ ht)),rfl,lO r,_,rfl,?_⟩;rw[zp,show(if false=true then !PV (V.str (txt [])) (ak r) else PV (V.str (txt [])) (ak r))=decide ([]∈r) from uR [] r];by_cases h0:[]∈r
  ·rw[Fo h0];exact⟨_,rfl,l,ws,rfl,FZ.refl _,S1 _ _ hl,n9,TC,λx=>⟨λh=>⟨h0,h⟩,λh=>h.2⟩⟩
  ·rw[Fp h0];exact⟨Bj _,λC nC=>⟨C,[],rfl,af nC _,ae,Bj _,λx hx=>(by cases hx),λx=>⟨λh=>(by cases h),λh=>absurd h.1 h0⟩⟩⟩
 obtain⟨C,vs,rfl,S2,gC,v9,v40,hv⟩:=z;refine⟨B,C,ak r,ak vs,rfl,rfl,S2 _ _ gB,gC,aw (by rw[ax,ax];lia),λD' nD=>?_⟩;have S3:=af nD (.lst (ak r++ak vs));have gD:upd H2 D' (.lst (ak r++ak vs)) D'=some (.lst (ak (r++vs))):=by rw[ae];show _=some (HO.lst ((r++vs).map _));rw[Bi]
 generalize upd H2 D' (.lst (ak r++ak vs))=H3 at S3 gD ⊢;have b72:(r++vs).length<=89:=by rw[AV];lia
 have Qw:∀x,x∈r++vs↔x∈r\/([]∈r/\x∈ws):=λx=>by rw[Ba,hv x]
 have b40:∀x∈r++vs,x.length<=40:=λx hx=>by
  rcases Ba.mp hx with h|h
  ·obtain⟨u,hu⟩:=cw.ps x h;have:=TC _ hu;rw[AV] at this;lia
  ·exact v40 x h
 generalize r++vs=bs at gD b72 Qw b40;have el:=ax bs;refine⟨_,rfl,D',rfl,⟨_,a9.of gD⟩,?_⟩;refine vG (K:=K) (a:=D') (xs:=ak bs) (λi ys H'=>H'=H3/\ys.length<=i/\∀z,z∈ys↔∃u,c::u∈bs.take i/\z=txt u) ⟨rfl,AS _,λz=>⟨λh=>(by cases h),λh=>by obtain⟨u,h,_⟩:=h;cases h⟩⟩ (λi ys H' hi z=>z.2.1) (by lia) (λi ys H' hi z=>by rw[z.1];exact a9.of gD) (λi v ys H' MJ z=>?_) (λys H' z=>?_)
 ·obtain⟨rfl,z2,z3⟩:=z;have hi:i<(ak bs).length:=(Be.mp MJ).1;have i3:i<bs.length:=by lia
  rw[bH i3] at MJ;cases MJ;have et:bs.take (i+1)=bs.take i++[bs.getD i []]:=by rw[Bw,Bv,AX i3];rfl
  have lx:=b40 _ (aG i3);refine⟨_,rfl,rfl,_,rfl,_,_,rfl,rfl,_,rfl,?_⟩;cases hB:Txt.startswith (txt (bs.getD i [])) (txt [c]) with
  |false=>
   refine O5.mk (i:=i) (n:=(ak bs).length) (P:=λi ys l0=>l0=H'/\ys.length<=i/\∀z,z∈ys↔∃u,c::u∈bs.take i/\z=txt u) hi ⟨rfl,by lia,λz=>?_⟩;rw[z3 z,et];refine⟨λ⟨u,h,e⟩=>⟨u,Bu _ h,e⟩,λSQ=>?_⟩;obtain⟨u,h,e⟩:=SQ;refine⟨u,?_,e⟩;rcases Ba.mp h with h|h
   ·exact h
   ·have:=AY.mp h;rw[(nY _ _).mpr ⟨u,this.symm⟩] at hB;cases hB
  |true=>
   obtain⟨u0,e0⟩:=(nY _ _).mp hB;refine⟨_,rfl,_,rfl,_,rfl,aw (by show(bs.getD i []).length<=1000000;lia),_,rfl,O5.mk hi ⟨rfl,by rw[Bl];lia,λz=>?_⟩⟩;rw[show Txt.slice (txt (bs.getD i [])) (some 1) none=txt ((bs.getD i []).drop 1) from bN _ 1,e0,et,e0];show z∈txt u0::ys↔_;rw[Bb,z3 z];constructor
   ·rintro (rfl|⟨u,h,e⟩)
    ·exact⟨u0,Bc _ (AY.mpr rfl),rfl⟩
    ·exact⟨u,Bu _ h,e⟩
   ·rintro⟨u,h,e⟩;rcases Ba.mp h with h|h
    ·exact .inr ⟨u,h,e⟩
    ·have:=(List.cons.inj (AY.mp h)).2;rw[e,this];exact .inl rfl
 obtain⟨rfl,z2,z3⟩:=z;rw[el,BW] at z3;have hm:∀u,txt u∈j3 ys↔c::u∈bs:=λu=>by
  rw[GI,z3];exact⟨λ⟨u',h,e⟩=>by rw[bU e];exact h,λh=>⟨u,h,rfl⟩⟩
 have OA:∀u,c::u∈bs->Ps ws u:=λu h=>by
  rcases (Qw _).mp h with h|⟨_,h⟩
  ·obtain⟨v,hv⟩:=cw.ps _ h;exact⟨v++[c],by simp,by rw[Bz];exact hv⟩
  ·exact⟨[c],by simp,h⟩
 obtain⟨U,lU,hU⟩:=few;have Qt:(j3 ys).length<64:=by
  have h1:=HI U (l:=(j3 ys).map λz=>z.cps.toList) (CU.mpr ((HJ ys).imp λ{a b} ne e=>ne ((dh a).trans ((congrArg txt e).trans (dh b).symm)))) λx hx=>by
   obtain⟨z,hz,rfl⟩:=AW.mp hx;refine hU _ (OA _ ((hm _).mp ?_));rw[<- dh];exact hz
  rw[AU] at h1;lia
 refine⟨Qt,λL2 zs pz sz nL=>?_⟩;have S4:=af nL (.lst (zs.map V.str));obtain⟨ks,rfl⟩:∃ks:A2,zs=ks.map txt:=by
  refine⟨zs.map λz=>z.cps.toList,?_⟩;rw[Bx]
  conv=>lhs;rw[<- DP zs]
  exact Cc λz _=>dh z
 have N6:∀u,u∈ks↔c::u∈bs:=λu=>by
  rw[<- hm u,<- pz.mem_iff,AW];exact⟨λh=>⟨u,h,rfl⟩,λ⟨u',h,e⟩=>by rw[<- bU e];exact h⟩
 refine⟨L2,_,rfl,.inl ⟨a9.of ae,λp np=>?_⟩⟩;have S5:=af np (.tup ((ks.map txt).map V.str));refine q p ks _ (S1.trans (S2.trans (S3.trans (S4.trans S5)))) (by rw[ae,Bx];rfl) ⟨sz,?_,λz hz=>(OA z ((N6 z).mp hz)).imp λ_ h=>h.2⟩ λz=>?_
 ·have:=pz.nodup_iff.mpr (HJ ys);exact(CU.mp this).imp λne e=>ne (by rw[e])
 ·rw[N6 z,Qw]
open KM
def tX (ws:A2)(L:Nat):Prop:=(∃w∈ws,w.length=L)/\∀w∈ws,w.length<=L
def KW (ws:A2)(L:Nat):Nat:=(ws.map λw=>2^(L-w.length)).sum
def low:Nat->Nat->Nat×Nat
 |t,0=>(t,1)
 |t,k+1=>if t % 2=0 then low (t/2) k else (t,2^(k+1))
def cJ (ws:A2):B3:=ws.map λw=>((w.length:Nat):Int)
theorem vd{ws:A2}{m:Int}(h1:m∈cJ ws)(h2:∀n∈cJ ws,n<=m):∃L:Nat,m=(L:Int)/\tX ws L:=by
 obtain⟨w,hw,rfl⟩:=AW.mp h1;refine⟨w.length,rfl,⟨w,hw,rfl⟩,λv hv=>?_⟩;have:=h2 _ (AW.mpr ⟨v,hv,rfl⟩);lia
theorem fg{α:Type}(f:α->Nat):∀l:List α,(l.map λx=>((f x:Nat):Int)).sum=(((l.map f).sum:Nat):Int)
 |[]=>rfl
 |x::r=>by rw[Bm,Bm,BF,BF,fg f r];lia
theorem rj{t k:Nat}(h:t % 2=0)(hk:0<k):low t k=low (t/2) (k-1):=by
 cases k with
 |zero=>lia
 |succ k=>show(if t % 2=0 then _ else _)=_;rw[Fn h];rfl
theorem rq{t k:Nat}(h:¬(t % 2=0/\0<k)):low t k=(t,2^k):=by
 cases k with
 |zero=>rfl
 |succ k=>show(if t % 2=0 then _ else _)=_;rw[Fm (λz=>h ⟨z,by lia⟩)]
def Nj:Sp:=λvs H Q _=>∃l us ws,vs=[.ref l]/\H l=some (.lst us)/\Jk H us ws/\E4 ws/\∀L p H',tX ws L->FZ H H'->H' p=some (.tup [.int (((low (KW ws L) L).1:Nat):Int),.int (((low (KW ws L) L).2:Nat):Int)])->Q (.ref p) H'
theorem vH{dm d:DD}(zd:(dg "maker_words" 16 ["makers"] dm 5 KS))(D:Def K mg "share" (top 20) ["makers"] d)(yQ:mg "len"=none)(zQ:mg "max"=none)(zo:mg "sum"=none):(fk 6 d ["makers"] Nj):=by
 exists["makers","lengths","longest","top","bottom"]
 obtain⟨l,us,ws,rfl,hl,hm,hw,q⟩:=h;have h8:=hw.n8;refine⟨_,(ag (dY 1 (aq (ts:=["word"]) (cap:=[]) (js:=[]) rfl rfl rfl rfl rfl rfl (by decide +kernel)) (aR (cK zd.1 zd.2 (0) aF)) (am 0 (nd ["word"])) (@aV _) (aL FV yQ (0) aF)) (ag (ad 2 (aQ (oA hc) zQ LO (aI (1) aF))) (ag (aA 3 (aQ (fH hc) zo JS (aI (aY (aq (ts:=["length"]) (cap:=["longest"]) (js:=[2]) rfl rfl rfl rfl rfl rfl (by decide +kernel)) (aR (1)) (am 0 (nd ["length","longest"])) (@aV _) (aB LN (ah _) (aB HL (1) (0)))) (by rfl)))) (ag (aA 4 (aB LN (ah _) (2))) (ag (cR (@PW.pt _ _ _ (cG (ay GV (aB GJ (3) (ah _)) (ah _) (aE _)) (bS (ay HZ (4) (ah _) (aE _))))) (ai (oF 3 4 (FU (aB HX (3) (ah _)) (aI (aB HX (4) (ah _)) (by rfl)) (by rfl))))) (ai (aJ (aN (FU (3) (aI (4) aF) aF))))))))),?_⟩
 walk_at "d"
 refine⟨_,rfl,l,us,ws,rfl,hl,hm,hw,λp0 H1 S1 g0=>⟨p0,rfl,⟨_,a9.of g0⟩,?_⟩⟩;have el:=ax ws;refine cY (K:=K) (a:=p0) (xs:=ak ws) (λi ys H'=>H'=H1/\ys=(cJ (ws.take i)).map V.int) ⟨rfl,rfl⟩ (λi ys H' hi z=>by rw[z.2,AU];unfold cJ;rw[AU,Bs];lia) (aw (by lia)) (λi ys H' hi z=>by rw[z.1];exact a9.of g0) (λi v ys H' hv z=>?_) (λys H' z p1 C6=>?_)
 ·obtain⟨rfl,rfl⟩:=z;have hi:i<(ak ws).length:=(Be.mp hv).1;have i3:i<ws.length:=by lia
  rw[bH i3] at hv;cases hv;have:=hw.G5 _ (aG i3);refine⟨_,rfl,_,rfl,aw (by show(ws.getD i []).length<=1000000;lia),Nx.mk hi ⟨rfl,?_⟩⟩;unfold cJ;rw[Bw,Bi,Bi,AX i3,Bv,AX i3];rfl
 obtain⟨rfl,rfl⟩:=z;rw[el,BW];have S2:=af C6 (.lst ((cJ ws).map V.int));have g1:upd H' p1 (.lst ((cJ ws).map V.int)) p1=some (.lst ((cJ ws).map V.int)):=ae;have SA:=S1.trans S2;generalize upd H' p1 (.lst ((cJ ws).map V.int))=H2 at g1 SA ⊢;have hn:cJ ws≠[]:=λz=>by
  have e:=congrArg List.length z;unfold cJ at e;rw[AU] at e;have e2:ws.length=0:=e;have:=hw.n1;lia
 refine⟨_,rfl,p1,cJ ws,rfl,a9.of g1,hn,λm hm1 hm2=>?_⟩;obtain⟨L,rfl,hL⟩:=vd hm1 hm2;have hL40:L<=40:=by obtain⟨⟨w,RK,e⟩,_⟩:=hL;rw[<- e];exact hw.G5 w RK
 refine⟨_,rfl,p1,rfl,⟨_,a9.of g1⟩,?_⟩;have lI:((cJ ws).map V.int).length=ws.length:=by rw[AU];unfold cJ;rw[AU]
 refine cY (K:=K) (a:=p1) (xs:=(cJ ws).map V.int) (λi ys H'=>H'=H2/\ys=((ws.take i).map λw=>((2^(L-w.length):Nat):Int)).map V.int) ⟨rfl,rfl⟩ (λi ys H' hi z=>by rw[z.2,AU,AU,Bs];lia) (aw (by lia)) (λi ys H' hi z=>by rw[z.1];exact a9.of g1) (λi v ys H' hv z=>?_) (λys H' z p2 EX=>?_)
 ·obtain⟨rfl,rfl⟩:=z;have hi:i<((cJ ws).map V.int).length:=(Be.mp hv).1;have i3:i<ws.length:=by lia
  have ev:v=.int (((ws.getD i []).length:Nat):Int):=by
   unfold cJ at hv;rw[Bo,Bo,AX i3] at hv;rw[Bv,AX i3];exact(Fx hv).symm
  subst ev;have hle:=hL.2 _ (aG i3);refine⟨_,rfl,_,rfl,_,_,rfl,rfl,_,_,rfl,rfl,⟨by lia,by lia,by decide⟩,?_⟩;refine Nx.mk hi ⟨rfl,?_⟩;rw[Bw,Bi,Bi,AX i3]
  congr 1
  show[V.int (1*2^(((L:Nat):Int)-(((ws.getD i []).length:Nat):Int)).toNat)]=[V.int ((2^(L-(ws[i]).length):Nat):Int)]
  rw[Bv,AX i3,Int.one_mul];have e1:(((L:Nat):Int)-(((some ws[i]).getD []).length:Nat)).toNat=L-(ws[i]).length:=by
   show(((L:Nat):Int)-((ws[i]).length:Nat)).toNat=_;lia
  rw[e1];simp
 obtain⟨rfl,rfl⟩:=z;rw[lI,BW];have S3:=af EX (.lst ((ws.map λw=>((2^(L-w.length):Nat):Int)).map V.int));refine⟨p2,_,rfl,a9.of ae,?_⟩;rw[fg (λw:A7=>2^(L-w.length)) ws];have SB:=SA.trans S3;generalize upd H' p2 _=H3 at SB ⊢;refine⟨_,rfl,_,_,rfl,rfl,⟨by lia,by lia,by decide⟩,?_⟩;rw[show V.int (1*2^(((L:Nat):Int)).toNat)=V.int ((2^L:Nat):Int) by rw[Int.one_mul,BK];simp];rw[show(((ws.map λw=>2^(L-w.length)).sum:Nat):Int)=((KW ws L:Nat):Int) from rfl];refine⟨λm σ H'=>∃t k:Nat,σ=[some (.ref l),some (.ref p1),some (.int ((L:Nat):Int)),some (.int ((t:Nat):Int)),some (.int ((2^k:Nat):Int))]/\H'=H3/\low t k=low (KW ws L) L/\m=k,⟨L,KW ws L,L,rfl,rfl,rfl,rfl⟩,?_⟩;rintro k σ H4 ⟨t,_,rfl,rfl,TU,rfl⟩;refine⟨_,rfl,_,_,rfl,rfl,(by show(0:Int)<2;decide),rfl,decide (t % 2=0),?_,?_⟩
 ·show V.bl (decide (V.int (((t:Nat):Int) % 2)=V.int 0))=_
  congr 1
  refine decide_eq_decide.mpr ⟨λh=>?_,λh=>?_⟩
  ·have:((t:Nat):Int) % 2=0:=by injection h
   lia
  ·have:((t:Nat):Int) % 2=0:=by lia
   rw[this]
 have fin:¬(t % 2=0/\0<k)->∀p,H4 p=none->Q (.ref p) (upd H4 p (.tup [.int ((t:Nat):Int),.int ((2^k:Nat):Int)])):=λj9 p hp=>by
  refine q L p _ hL (SB.trans (af hp _)) ?_;rw[<- TU,rq j9];exact ae
 by_cases ht:t % 2=0
 ·rw[Fo ht];refine⟨_,rfl,_,_,rfl,rfl,decide (0<k),?_,?_⟩
  ·show V.bl (decide (1<((2^k:Nat):Int)))=_
   congr 1
   refine decide_eq_decide.mpr ⟨λh=>?_,λh=>?_⟩
   ·rcases Nat.eq_zero_or_pos k with z|z
    ·subst z;exact absurd h (by decide)
    ·exact z
   ·have h1:2^1<=2^k:=DS (by decide) h;have h2:2<=2^k:=h1;have h3:((2:Nat):Int)<=((2^k:Nat):Int):=by exact_mod_cast h2
    lia
  by_cases hk:0<k
  ·rw[Fo hk];refine⟨_,fun c5 H' z=>z,?_⟩;refine⟨_,rfl,_,_,rfl,rfl,⟨by decide,by decide⟩,_,rfl,_,_,rfl,rfl,⟨by decide,by decide⟩,_,_,rfl,?_⟩;have hp:2^k=2^(k-1)*2:=by rw[<- BH];congr 1;lia
   refine⟨k-1,by lia,t/2,k-1,?_,rfl,by rw[<- TU,rj ht hk],rfl⟩;show[_,_,_,some (V.int (((t:Nat):Int)/2)),some (V.int (((2^k:Nat):Int)/2))]=[_,_,_,some (V.int ((t/2:Nat):Int)),some (V.int ((2^(k-1):Nat):Int))]
   rw[show((t:Nat):Int)/2=((t/2:Nat):Int) by lia,show((2^k:Nat):Int)/2=((2^(k-1):Nat):Int) by rw[hp];lia]
  ·rw[Fp hk];refine⟨_,rfl,_,rfl,aw (by show 2<=1000000;decide),λp hp=>?_⟩;exact fin (λz=>hk z.2) p hp
 ·rw[Fp ht];refine⟨_,rfl,_,rfl,aw (by show 2<=1000000;decide),λp hp=>?_⟩;exact fin (λz=>ht z.1) p hp
open KM
theorem uL{p q:Addr}{H H':Hp}(d:Dr p H H')(n:H' q=none):H q=none:=by
 cases e:H q with
 |none=>rfl
 |some o=>
  by_cases z:q=p
  ·rw[z] at n;obtain⟨_,_,_,e2,_⟩:=d.ds;rw[e2] at n;cases n
  ·have:=aS p _ _ _ (d.same q o (by rw[dQ z];exact e));rw[this] at n;cases n
theorem nV{cs:A7}(h:cs.all (λc=>c==108||c==114)=true):∀c∈cs,HM c:=λc hc=>by
 have:=Cp.mp h c hc;simp only[Bool.or_eq_true,FT] at this;exact this
theorem cE(ws vs:A2):ak ws++ak vs=ak (ws++vs):=by show _=(ws++vs).map _;rw[Bi]
theorem eI(x y:A7):txt x++txt y=txt (x++y):=dv (dR _ _)
structure Gn(n:Nat)(cs:A7):Prop where
 lr:∀c∈cs,HM c
 l1:1<=cs.length
 ln:cs.length<=n
structure B6(n:Nat)(p:Addr)(H0:Hp)(W:Addr)(ws:A2)(H:Hp):Prop where
 dr:Dr p H0 H
 n0:H0 W=none
 ne:W≠p
 g:v7 p H W=some (.lst (ak ws))
 l1:1<=ws.length
 l8:ws.length<=8
 ok:∀cs∈ws,Gn n cs
theorem B6.go{n:Nat}{p:Addr}{H0:Hp}{W:Addr}{ws:A2}{H H':Hp}(h:B6 n p H0 W ws H)(d:Dr p H H'):B6 n p H0 W ws H':=⟨h.dr.trans d,h.n0,h.ne,d.same _ _ h.g,h.l1,h.l8,h.ok⟩
theorem B6.mk'{n:Nat}{p:Addr}{H0 H:Hp}{W:Addr}{ws:A2}(d:Dr p H0 H)(nw:H W=none)(l1:1<=ws.length)(l8:ws.length<=8)(ok:∀cs∈ws,Gn n cs):B6 n p H0 W ws (upd H W (.lst (ak ws))):=
 ⟨d.trans (Dr.new d.ds nw _),uL d nw,FI (d.ds.ne nw),cq d.ds nw _,l1,l8,ok⟩
theorem B6.put{n m:Nat}{p:Addr}{H0:Hp}{W:Addr}{ws vs:A2}{H:Hp}(h:B6 n p H0 W ws H)(l1:1<=vs.length)(l8:vs.length<=8)(ok:∀cs∈vs,Gn m cs):B6 m p H0 W vs (upd H W (.lst (ak vs))):=
 ⟨Dr.put h.dr h.n0 h.ne _,h.n0,h.ne,oy h.ne _,l1,l8,ok⟩
theorem og{ws:A2}{r:Int}(h0:0<=r)(h1:r<((ws.length:Nat):Int)):B5 (ak ws) r=some (.str (txt (ws.getD r.toNat [])))/\ws.getD r.toNat []∈ws:=by
 have hk:r.toNat<ws.length:=by lia
 have e:r=((r.toNat:Nat):Int):=by lia
 refine⟨?_,aG hk⟩
 conv=>lhs;rw[e]
 exact aM hk
theorem e_l:("l":Str)=txt [108]:=by decide +kernel
theorem e_r:("r":Str)=txt [114]:=by decide +kernel
theorem ni(ws:A2)(i:Nat):nu (ak ws) (some ((i:Nat):Int)) none=ak (ws.drop i):=by
 unfold nu;rw[HT.Ic,HT.GW,AU];show List.take _ (List.drop _ (List.map _ ws))=List.map _ (List.drop _ ws);rw[List.map_drop];by_cases h:i<=ws.length
 ·rw[Cs h,BB (by rw[By,AU];exact AS _)]
 ·rw[Eo (by lia),Ef,Dq,CM (by rw[AU];lia)]
def NU:Sp:=λvs H Q _=>∃p m t,vs=[.ref p,.int m,.int t]/\Ds H p/\1<=m/\m<=40/\1<=t/\∀W ws H',Dr p H H'->v7 p H' W=some (.lst (ak ws))->E4 ws->(∀cs∈ws,((cs.length:Nat):Int)<=m)->(cJ ws).sum<=t->Q (.ref W) H'
theorem yg{dd dp d:DD}(yU:(dg "_law_draw" 35 ["draws","many"] dd 1 Jm))(yY:(dg "_law_piece" 36 ["draws","most"] dp 2 IQ))(D:Def K mg "_law_short_makers" (top 37) ["draws","most","together"] d)(yP:mg "range"=none)(yQ:mg "len"=none)(zo:mg "sum"=none):(fk 3 d ["draws","most","together"] NU):=by
 exists["draws","most","together","way","many","words","k","at","one"]
 obtain⟨p,m,t,rfl,hp,m1,m40,t0,q⟩:=h;refine⟨_,(ag (aA 3 (bw yU.1 yU.2 (FU (0) (aI (ah _) br) aF))) (ag (aA 4 (aB Gk (ah _) (bw yU.1 yU.2 (FU (0) (aI (ah _) br) aF)))) (ag (dY 5 (aq (ts:=["k"]) (cap:=["draws","most"]) (js:=[0,1]) rfl rfl rfl rfl rfl rfl (by decide +kernel)) (aO yP (aI (4) aF)) (am 0 (nd ["k","draws","most"])) (@aV _) (bw yY.1 yY.2 (FU (1) (aI (aW (show L8 _ (KI K) from Ga) (bj (FU (ah _) (aI (2) aF) br)) (bw yU.1 yU.2 (FU (1) (aI (ah _) br) aF))) (by rfl)) aF))) (ag (eX (bx (ay GV (3) (ah _) (aE _)) (ai (aA 5 (aX Ia (bj (@pH _ _ (["ll","lr","rl","rr"]) rfl)) (Gj _) (bu (aB Gk (ah _) (bw yU.1 yU.2 (FU (0) (aI (ah _) br) aF))))))) (Gb _))) (ag (eX (bx (ay Iw (3) (aN (FU (ah _) (aI (ah _) br) br)) rfl) (ag (aA 5 (bj (FU (aU _) (aI (aU _) br) br))) (ai (bG (aO yP (aI (bw yU.1 yU.2 (FU (0) (aI (ah _) br) aF)) eK)) (ao 6) (ag (aA 7 (bw yU.1 yU.2 (FU (0) (aI (aL FW yQ (5) aF) eK) aF))) (ag (aA 8 (aW Ga (5) (7))) (ai (aA 5 (aB Hg (aB Hg (aX Ia (5) (Gj _) (bu (7))) (aX Ia (5) (bu (aB Gk (7) (ah _))) (Gj _))) (bj (FU (aB Gh (8) (aU _)) (aI (aB Gh (8) (aU _)) (by rfl)) (by rfl))))))))))) (Gb _))) (ag (eX (bx (ay GV (3) (ah _) (aE _)) (ai (dY 5 (aq (ts:=["word"]) (cap:=[]) (js:=[]) rfl rfl rfl rfl rfl rfl (by decide +kernel)) (aR (5)) (am 0 (nd ["word"])) (@aV _) (@vU _ _ _ _ _ _ _ _ MQ (0) (qA Jt (ah _))))) (Gb _))) (ag (eX (bx (@PW.pt _ _ _ (cG (ay GV (3) (ah _) (aE _)) (bS (ay HZ (aL FW yQ (5) aF) (ah _) (aE _))))) (ai (eR (aB Gh (aW Ga (5) (ah _)) (aW Ga (5) (bw yU.1 yU.2 (FU (0) (aI (aL FW yQ (5) aF) eK) aF)))) (qi (5) (ah _) set_list))) (Gb _))) (ag (eX (bx (@PW.pt _ _ _ (cG (ay GV (bw yU.1 yU.2 (FU (0) (aI (ah _) br) aF)) (ah _) (aE _)) (bS (ay HZ (aL FW yQ (5) aF) (ah _) (aE _))))) (ai (bT (jd Fy PySem.F.slot_list_pop PySem.F.type_list_pop Jh (5) (aI (bw yU.1 yU.2 (FU (0) (aI (aL FW yQ (5) aF) eK) aF)) eK)))) (Gb _))) (ag (aA 5 (aX Ia (aY (aq (ts:=["word"]) (cap:=["most"]) (js:=[1]) rfl rfl rfl rfl rfl rfl (by decide +kernel)) (aR (5)) (am 0 (nd ["word","most"])) (@aV _) (aX GK (0) (Gj _) (bu (1)))) (Gj _) (bu (ah _)))) (ag (cR (ay HZ (aQ (fH hc) zo JS (aI (aY (aq (ts:=["word"]) (cap:=[]) (js:=[]) rfl rfl rfl rfl rfl rfl (by decide +kernel)) (aR (5)) (am 0 (nd ["word"])) (@aV _) (aL FV yQ (0) aF)) (by rfl))) (2) (aE _)) (ai (bT (wc Fy PySem.F.slot_list_pop PySem.F.type_list_pop MN (5))))) (ai (aJ (fo (ay (fN hr.units) (5) (bj (@Ge _)) (aE _)) (5) (bj (aI (aU _) br))))))))))))))),?_⟩
 walk_at "d"
 refine⟨_,rfl,p,5,rfl,hp,by decide,by decide,λway H1 a0 a1 d1=>?_⟩;refine⟨_,rfl,p,5,rfl,d1.ds,by decide,by decide,λr1 H2 b0 b1 d2=>⟨_,_,rfl,rfl,?_⟩⟩;have D2:=d1.trans d2;refine⟨_,rfl,1+r1,rfl,by lia,by lia,?_⟩;refine sD (lo:=0) (n:=(1+r1).toNat) (λj ys H'=>Dr p H H'/\∃ws,ys=ak ws/\ws.length=j/\∀cs∈ws,Gn 40 cs) ⟨D2,[],rfl,rfl,λcs h=>absurd h (by simp)⟩ (λj ys H' hj z=>by obtain⟨_,ws,rfl,e,_⟩:=z;rw[ax,e];exact AS _) (aw (by lia)) (λj ys H' hj z=>?_) (λys H' z W nW=>?_)
 ·obtain⟨z1,ws,rfl,e,hb⟩:=z;refine⟨_,rfl,_,rfl,aw (by show 2<=1000000;decide),λB nB=>?_⟩;have DB:=Dr.new z1.ds nB (.lst [.int 3,.int m]);have gB:=cq z1.ds nB (.lst [.int 3,.int m]);refine⟨_,rfl,p,2,rfl,DB.ds,by decide,by decide,λr2 H3 c0 c1 d3=>?_⟩;obtain⟨v2,ev2,mv2⟩:=xU (l:=[V.int 3,.int m]) c0 c1;obtain⟨mo,rfl,mo1,mo40⟩:∃n:Int,v2=.int n/\1<=n/\n<=40:=by
   simp only[Bb,BE,or_false] at mv2;rcases mv2 with rfl|rfl
   ·exact⟨3,rfl,by decide,by decide⟩
   ·exact⟨m,rfl,m1,m40⟩
  refine⟨B,_,r2,_,rfl,rfl,a9.of (aS p _ _ _ (d3.same _ _ gB)),ev2,?_⟩;refine⟨p,mo,rfl,mo1,by lia,d3.ds,λz H4 d4 zlr z1' zm=>?_⟩;refine Nx.mk hj ⟨z1.trans (DB.trans (d3.trans d4)),ws++[z.cps.toList],?_,by rw[AV,e];rfl,λcs h=>?_⟩
  ·exact eF ws z
  ·rcases Ba.mp h with h|h
   ·exact hb cs h
   ·rw[AY.mp h];exact⟨zlr,z1',by show z.cps.toList.length<=40;have:(z.length:Int)=((z.cps.toList.length:Nat):Int):=rfl;lia⟩
 obtain⟨z1,ws,rfl,e,hb⟩:=z;have w0:=B6.mk' z1 nW (by lia) (by lia) hb;clear hb z1 e;generalize upd H' W (.lst (ak ws))=H3 at w0 ⊢;refine⟨fun c5 H'=>∃W ws e6 e7 e8,c5=[some (.ref p),some (.int m),some (.int t),some (.int way),some (.int (1+r1)),some (.ref W),e6,e7,e8]/\B6 40 p H W ws H',?_,?_⟩
 ·refine⟨_,rfl,rfl,_,rfl,?_⟩;cases Qf:decide (V.int way=V.int 0) with
  |false=>exact⟨W,ws,_,_,_,rfl,w0⟩
  |true=>
   refine⟨aw (by show 4<=1000000;decide),λB nB=>?_⟩;have DB:=Dr.new w0.dr.ds nB (.lst (ak [[108,108],[108,114],[114,108],[114,114]]));have gB:=cq w0.dr.ds nB (.lst (ak [[108,108],[108,114],[114,108],[114,114]]));refine⟨_,rfl,p,4,rfl,DB.ds,by decide,by decide,λr2 H4 c0 c1 d4=>⟨_,_,rfl,rfl,_,rfl,B,_,rfl,a9.of (aS p _ _ _ (d4.same _ _ gB)),λW' QM=>?_⟩⟩;have e1:(1:Int)+r2=(((1+r2).toNat:Nat):Int):=by lia
   rw[e1,fG];refine⟨W',_,_,_,_,rfl,B6.mk' (w0.dr.trans (DB.trans d4)) QM ?_ ?_ λcs h=>?_⟩
   ·rw[Bs];show 1<=min _ 4;lia
   ·rw[Bs];show min _ 4<=8;lia
   ·have hm:=Cq h;simp only[Bb,BE,or_false] at hm;rcases hm with rfl|rfl|rfl|rfl<;>exact⟨nV (by decide),by decide,by decide⟩
 rintro σ H4 ⟨W,ws,e6,e7,e8,rfl,w4⟩;clear w0 nW;refine⟨fun c5 H'=>∃W ws e6 e7 e8,c5=[some (.ref p),some (.int m),some (.int t),some (.int way),some (.int (1+r1)),some (.ref W),e6,e7,e8]/\B6 40 p H W ws H',?_,?_⟩
 ·refine⟨_,rfl,aw (by show 2<=1000000;decide),λB nB=>?_⟩;have wB:=w4.go (Dr.new w4.dr.ds nB (.tup [.int 1,.int 2]));refine⟨B,_,rfl,.inr (i5.of ae),rfl,rfl,_,rfl,?_⟩;generalize upd H4 B (.tup [.int 1,.int 2])=H5 at wB ⊢;cases Qf:PV (V.int way) [V.int 1,.int 2] with
  |false=>exact⟨W,ws,_,_,_,rfl,wB⟩
  |true=>
   refine⟨aw (by show 2<=1000000;decide),λW1 nW1=>?_⟩;have w1:B6 40 p H W1 [[108],[114]] (upd H5 W1 (.lst (ak [[108],[114]]))):=B6.mk' wB.dr nW1 (by decide) (by decide) λcs h=>by
    simp only[Bb,BE,or_false] at h;rcases h with rfl|rfl<;>exact⟨nV (by decide),by decide,by decide⟩
   refine⟨_,rfl,p,6,rfl,w1.dr.ds,by decide,by decide,λr2 H6 c0 c1 d6=>⟨r2,rfl,by lia,by lia,?_⟩⟩;have w6:=w1.go d6;refine bF (lo:=0) (n:=r2.toNat) (λi σ H'=>∃W ws e6 e7 e8,σ=[some (.ref p),some (.int m),some (.int t),some (.int way),some (.int (1+r1)),some (.ref W),e6,e7,e8]/\B6 40 p H W ws H'/\ws.length=2+i/\∀cs∈ws,cs.length<=1+i) ⟨W1,_,_,_,_,rfl,w6,rfl,λcs h=>by simp only[Bb,BE,or_false] at h;rcases h with rfl|rfl<;>decide⟩ (λi σ H' hi z=>?_) (fun σ H' z=>?_)
   ·obtain⟨W,ws,e6,e7,e8,rfl,w,lw,lm⟩:=z;refine⟨_,rfl,_,rfl,W,_,rfl,.inl (a9.of (aS p _ _ _ w.g)),p,_,rfl,w.dr.ds,by rw[ax];lia,by rw[ax];lia,λr3 H7 f0 f1 d7=>?_⟩;rw[ax] at f1;have w7:=w.go d7;obtain⟨ea,em⟩:=og f0 f1;have er:r3=((r3.toNat:Nat):Int):=by lia
    have er1:r3+1=((r3.toNat+1:Nat):Int):=by lia
    have gone:=w7.ok _ em;have Wz:=lm _ em;generalize ws.getD r3.toNat []=cs at ea em gone Wz;refine⟨_,rfl,_,rfl,W,_,_,_,rfl,rfl,a9.of (aS p _ _ _ w7.g),ea,?_⟩;refine⟨_,rfl,_,rfl,_,rfl,W,_,rfl,a9.of (aS p _ _ _ w7.g),λP1 nP1=>?_⟩;rw[show nu (ak ws) none (some r3)=ak (ws.take r3.toNat) by rw[er,fG,BK]];have d8:=Dr.new w7.dr.ds nP1 (.lst (ak (ws.take r3.toNat)));have g8:=cq w7.dr.ds nP1 (.lst (ak (ws.take r3.toNat)));have w8:=w7.go d8;refine⟨_,rfl,_,rfl,_,_,rfl,rfl,_,rfl,W,_,rfl,a9.of (aS p _ _ _ w8.g),λP2 nP2=>?_⟩;rw[show nu (ak ws) (some (r3+1)) none=ak (ws.drop (r3.toNat+1)) by rw[er1,ni]];have d9:=Dr.new w8.dr.ds nP2 (.lst (ak (ws.drop (r3.toNat+1))));have g9:=cq w8.dr.ds nP2 (.lst (ak (ws.drop (r3.toNat+1))));have w9:=w8.go d9;refine⟨P1,P2,_,_,rfl,rfl,aS p _ _ _ (d9.same _ _ g8),aS p _ _ _ g9,aw (by rw[ax,ax,Bs,By];lia),λP3 nP3=>?_⟩;rw[cE];have d10:=Dr.new w9.dr.ds nP3 (.lst (ak (ws.take r3.toNat++ws.drop (r3.toNat+1))));have TN:=cq w9.dr.ds nP3 (.lst (ak (ws.take r3.toNat++ws.drop (r3.toNat+1))));have K9:=w9.go d10;have lcs:(txt cs).length+1<=sizeLine:=aw (by show cs.length+1<=1000000;lia);refine⟨_,rfl,_,_,rfl,rfl,lcs,_,rfl,_,_,rfl,rfl,lcs,aw (by show 2<=1000000;decide),λP4 nP4=>?_⟩;rw[e_l,e_r,eI,eI];have d11:=Dr.new K9.dr.ds nP4 (.lst (ak [cs++[108],cs++[114]]));have g11:=cq K9.dr.ds nP4 (.lst (ak [cs++[108],cs++[114]]));refine⟨P3,P4,_,_,rfl,rfl,aS p _ _ _ (d11.same _ _ TN),aS p _ _ _ g11,aw (by rw[ax,AV,Bs,By];show _+2<=_;lia),λP5 nP5=>?_⟩;rw[cE];have WB:(ws.take r3.toNat++ws.drop (r3.toNat+1)++[cs++[108],cs++[114]]).length=2+(i+1):=by
     rw[AV,AV,Bs,By];show _+2=_;lia
    have memo:∀x∈ws.take r3.toNat++ws.drop (r3.toNat+1)++[cs++[108],cs++[114]],x∈ws\/x=cs++[108]\/x=cs++[114]:=λx hx=>by
     rcases Ba.mp hx with hx|hx
     ·rcases Ba.mp hx with hx|hx
      ·exact .inl (Cq hx)
      ·exact .inl (Cr hx)
     ·simp only[Bb,BE,or_false] at hx;exact .inr hx
    have lrx:∀c,(c=108\/c=114)->∀y∈cs++[c],HM y:=λc hc y hy=>by
     rcases Ba.mp hy with hy|hy
     ·exact gone.lr y hy
     ·rw[AY.mp hy];exact hc
    refine⟨P5,_,_,_,_,rfl,B6.mk' (K9.dr.trans d11) nP5 (by lia) (by lia) λx hx=>?_,WB,λx hx=>?_⟩
    ·rcases memo x hx with h|rfl|rfl
     ·exact K9.ok x h
     ·exact⟨lrx 108 (.inl rfl),by rw[AV];show 1<=_+1;lia,by rw[AV];show _+1<=40;lia⟩
     ·exact⟨lrx 114 (.inr rfl),by rw[AV];show 1<=_+1;lia,by rw[AV];show _+1<=40;lia⟩
    ·rcases memo x hx with h|rfl|rfl
     ·have:=lm x h;lia
     ·rw[AV];show _+1<=_;lia
     ·rw[AV];show _+1<=_;lia
   ·obtain⟨W,ws,e6,e7,e8,rfl,w,_⟩:=z;exact⟨W,ws,_,_,_,rfl,w⟩
 rintro σ H5 ⟨W,ws,e6,e7,e8,rfl,w5⟩;clear w4;refine⟨fun c5 H'=>∃W ws e6 e7 e8,c5=[some (.ref p),some (.int m),some (.int t),some (.int way),some (.int (1+r1)),some (.ref W),e6,e7,e8]/\B6 40 p H W ws H',?_,?_⟩
 ·refine⟨_,rfl,rfl,_,rfl,?_⟩;cases Qf:decide (V.int way=V.int 1) with
  |false=>exact⟨W,ws,_,_,_,rfl,w5⟩
  |true=>
   have gW:=aS p _ _ _ w5.g;refine⟨_,rfl,W,rfl,⟨_,a9.of gW⟩,?_⟩;have el:=ax ws;have l8:=w5.l8;refine cY (K:=K) (a:=W) (xs:=ak ws) (λi ys H'=>H'=H5/\ys=ak ((ws.take i).map List.reverse)) ⟨rfl,rfl⟩ (λi ys H' hi z=>by rw[z.2,ax,AU,Bs];lia) (aw (by lia)) (λi ys H' hi z=>by rw[z.1];exact a9.of gW) (λi v ys H' hv z=>?_) (λys H' z W' QM=>?_)
   ·obtain⟨rfl,rfl⟩:=z;have hi:i<(ak ws).length:=(Be.mp hv).1;have i3:i<ws.length:=by lia
    rw[bH i3] at hv;cases hv;have:=(w5.ok _ (aG i3)).ln;refine⟨_,rfl,_,rfl,rfl,_,rfl,aw (by show(ws.getD i []).length<=1000000;lia),Nx.mk hi ⟨rfl,?_⟩⟩;rw[show Txt.rev (txt (ws.getD i []))=txt (ws.getD i []).reverse from rfl,eF,Bw,Bi,AX i3,Bv,AX i3];rfl
   obtain⟨rfl,rfl⟩:=z;rw[el,BW];refine⟨W',_,_,_,_,rfl,B6.mk' w5.dr QM (by rw[AU];exact w5.l1) (by rw[AU];exact w5.l8) λcs h=>?_⟩;obtain⟨x,hx,rfl⟩:=AW.mp h;have g:=w5.ok x hx;exact⟨λc hc=>g.lr c (List.mem_reverse.mp hc),by rw[EB];exact g.l1,by rw[EB];exact g.ln⟩
 rintro σ H6 ⟨W,ws,e6,e7,e8,rfl,w6⟩;clear w5;refine⟨fun c5 H'=>∃W ws e6 e7 e8,c5=[some (.ref p),some (.int m),some (.int t),some (.int way),some (.int (1+r1)),some (.ref W),e6,e7,e8]/\B6 100 p H W ws H',?_,?_⟩
 ·refine⟨_,rfl,rfl,_,rfl,?_⟩;have gW:=aS p _ _ _ w6.g;have el:=ax ws;have l8:=w6.l8;have UQ:B6 100 p H W ws H6:=⟨w6.dr,w6.n0,w6.ne,w6.g,w6.l1,w6.l8,λcs h=>⟨(w6.ok cs h).lr,(w6.ok cs h).l1,Bh (w6.ok cs h).ln (by decide)⟩⟩
  cases Qf:decide (V.int way=V.int 3) with
  |false=>exact⟨W,ws,_,_,_,rfl,UQ⟩
  |true=>
   refine⟨_,rfl,W,_,rfl,.inl (a9.of gW),_,_,rfl,rfl,decide (1<ws.length),?_,?_⟩
   ·show V.bl (decide (1<(((ak ws).length:Nat):Int)))=_;rw[el];congr 1;exact decide_eq_decide.mpr ⟨λh=>by lia,λh=>by lia⟩
   by_cases h1:1<ws.length
   ·rw[Fo h1];refine⟨_,rfl,W,_,_,_,rfl,rfl,a9.of gW,aM (i:=1) h1,?_⟩;refine⟨_,rfl,_,rfl,_,rfl,W,_,rfl,.inl (a9.of gW),p,_,rfl,w6.dr.ds,by rw[el];lia,by rw[el];lia,λr3 H7 f0 f1 d7=>?_⟩;rw[el] at f1;have w7:=w6.go d7;obtain⟨ea,em⟩:=og f0 f1;have g1:=w7.ok _ (aG h1);have g2:=w7.ok _ em;generalize ws.getD r3.toNat []=c2 at ea em g2;generalize ws.getD 1 []=c1 at g1;refine⟨W,_,_,_,rfl,rfl,a9.of (aS p _ _ _ w7.g),ea,_,_,rfl,rfl,aw (by show c1.length+c2.length<=1000000;have:=g1.ln;have:=g2.ln;lia),?_⟩;rw[eI];refine⟨_,rfl,W,_,0,0,rfl,rfl,aS p _ _ _ w7.g,(by rw[el];unfold OM;rw[Fn (by decide),Fn (by lia)];rfl),?_⟩;have es:(ak ws).set 0 (.str (txt (c1++c2)))=ak (ws.set 0 (c1++c2)):=by show _=(ws.set 0 _).map _;rw[List.map_set]
    rw[es];refine⟨W,_,_,_,_,rfl,w7.put (by rw[Eu];lia) (by rw[Eu];lia) λx hx=>?_⟩;rcases List.mem_or_eq_of_mem_set hx with h|rfl
    ·exact(UQ.ok x h)
    ·refine⟨λc hc=>?_,by rw[AV];have:=g1.l1;lia,by rw[AV];have:=g1.ln;have:=g2.ln;lia⟩;rcases Ba.mp hc with h|h
     ·exact g1.lr c h
     ·exact g2.lr c h
   ·rw[Fp h1];exact⟨W,ws,_,_,_,rfl,UQ⟩
 rintro σ H7 ⟨W,ws,e6,e7,e8,rfl,w7⟩;clear w6;refine⟨fun c5 H'=>∃W ws e6 e7 e8,c5=[some (.ref p),some (.int m),some (.int t),some (.int way),some (.int (1+r1)),some (.ref W),e6,e7,e8]/\B6 100 p H W ws H',?_,?_⟩
 ·refine⟨_,rfl,p,3,rfl,w7.dr.ds,by decide,by decide,λr4 H8 f0 f1 d8=>⟨rfl,_,rfl,?_⟩⟩;have w8:=w7.go d8;have gW:=aS p _ _ _ w8.g;have el:=ax ws;have l8:=w8.l8;cases Qf:decide (V.int r4=V.int 0) with
  |false=>exact⟨W,ws,_,_,_,rfl,w8⟩
  |true=>
   refine⟨_,rfl,W,_,rfl,.inl (a9.of gW),_,_,rfl,rfl,decide (1<ws.length),?_,?_⟩
   ·show V.bl (decide (1<(((ak ws).length:Nat):Int)))=_;rw[el];congr 1;exact decide_eq_decide.mpr ⟨λh=>by lia,λh=>by lia⟩
   by_cases h1:1<ws.length
   ·rw[Fo h1];refine⟨_,rfl,.inl ⟨rfl,_,a9.of gW⟩,_,rfl,_,rfl,W,_,rfl,.inl (a9.of gW),p,_,rfl,w8.dr.ds,by rw[el];lia,by rw[el];lia,λr3 H9 g0 g1 d9=>?_⟩;rw[el] at g1;have w9:=w8.go d9;have hk:r3.toNat<ws.length:=by lia
    have D6:r3.toNat<(ak ws).length:=by lia
    refine⟨W,_,r3,r3.toNat,(ak ws)[r3.toNat],rfl,rfl,aS p _ _ _ w9.g,by lia,by lia,(jQ (by unfold OM;rw[Fn g0,Fn (by lia)])).1,AX D6,?_⟩;have es:(ak ws).eraseIdx r3.toNat=ak (ws.eraseIdx r3.toNat):=by rw[Fg,Fg];show _=(_++_:A2).map _;rw[Bi,List.map_take,List.map_drop]
    rw[es];refine⟨W,_,_,_,_,rfl,w9.put (by rw[List.length_eraseIdx];split<;>lia) (by rw[List.length_eraseIdx];split<;>lia) λx hx=>w9.ok x (List.mem_of_mem_eraseIdx hx)⟩
   ·rw[Fp h1];exact⟨W,ws,_,_,_,rfl,w8⟩
 rintro σ H8 ⟨W,ws,e6,e7,e8,rfl,w8⟩;clear w7;have gW:=aS p _ _ _ w8.g;have el:=ax ws;have l8:=w8.l8;obtain⟨mn,rfl⟩:∃mn:Nat,m=(mn:Int):=⟨m.toNat,by lia⟩
 refine⟨_,rfl,W,rfl,⟨_,a9.of gW⟩,?_⟩;refine cY (K:=K) (a:=W) (xs:=ak ws) (λi ys H'=>H'=H8/\ys=ak ((ws.take i).map λw=>w.take mn)) ⟨rfl,rfl⟩ (λi ys H' hi z=>by rw[z.2,ax,AU,Bs];lia) (aw (by lia)) (λi ys H' hi z=>by rw[z.1];exact a9.of gW) (λi v ys H' hv z=>?_) (λys H' z W' QM=>?_)
 ·obtain⟨rfl,rfl⟩:=z;have hi:i<(ak ws).length:=(Be.mp hv).1;have i3:i<ws.length:=by lia
  rw[bH i3] at hv;cases hv;have:=(w8.ok _ (aG i3)).ln;refine⟨_,rfl,_,rfl,_,rfl,_,rfl,aw (by show(ws.getD i []).length<=1000000;lia),Nx.mk hi ⟨rfl,?_⟩⟩;rw[mM,eF,Bw,Bi,AX i3,Bv,AX i3];rfl
 obtain⟨rfl,rfl⟩:=z;rw[el,BW];have d9:=Dr.new w8.dr.ds QM (.lst (ak (ws.map λw=>w.take mn)));have g9:=cq w8.dr.ds QM (.lst (ak (ws.map λw=>w.take mn)));refine⟨_,rfl,W',_,rfl,a9.of (aS p _ _ _ g9),λW2 nW2=>?_⟩;rw[show nu (ak (ws.map λw=>w.take mn)) none (some 8)=ak ((ws.map λw=>w.take mn).take 8) from fG _ 8];have K9:B6 mn p H W2 ((ws.map λw=>w.take mn).take 8) _:=B6.mk' (w8.dr.trans d9) nW2 (by rw[Bs,AU];have:=w8.l1;lia) (by rw[Bs];lia) λx hx=>by
  obtain⟨y,hy,rfl⟩:=AW.mp (Cq hx);have g:=w8.ok y hy;exact⟨λc hc=>g.lr c (Cq hc),by rw[Bs];have:=g.l1;lia,by rw[Bs];lia⟩
 generalize (ws.map λw=>w.take mn).take 8=vs at K9 ⊢;generalize upd _ W2 (.lst (ak vs))=ZX at K9 ⊢;clear w8 d9 g9 nW2;refine⟨λm' σ H'=>∃vs,σ=[some (.ref p),some (.int mn),some (.int t),some (.int way),some (.int (1+r1)),some (.ref W2),e6,e7,e8]/\Dr p H H'/\v7 p H' W2=some (.lst (ak vs))/\vs.length<=8/\(∀cs∈vs,Gn mn cs)/\m'=vs.length,⟨_,vs,rfl,K9.dr,K9.g,K9.l8,K9.ok,rfl⟩,?_⟩;rintro m' σ ZW ⟨vs,rfl,dr,g,l8',ok,rfl⟩;have gW:=aS p _ _ _ g;have el:=ax vs;refine⟨_,rfl,W2,rfl,⟨_,a9.of gW⟩,?_⟩;refine cY (K:=K) (a:=W2) (xs:=ak vs) (λi ys H'=>H'=ZW/\ys=(cJ (vs.take i)).map V.int) ⟨rfl,rfl⟩ (λi ys H' hi z=>by rw[z.2,AU];unfold cJ;rw[AU,Bs];lia) (aw (by lia)) (λi ys H' hi z=>by rw[z.1];exact a9.of gW) (λi v ys H' hv z=>?_) (λys H' z p1 C6=>?_)
 ·obtain⟨rfl,rfl⟩:=z;have hi:i<(ak vs).length:=(Be.mp hv).1;have i3:i<vs.length:=by lia
  rw[bH i3] at hv;cases hv;have:=(ok _ (aG i3)).ln;refine⟨_,rfl,_,rfl,aw (by show(vs.getD i []).length<=1000000;lia),Nx.mk hi ⟨rfl,?_⟩⟩;unfold cJ;rw[Bw,Bi,Bi,AX i3,Bv,AX i3];rfl
 obtain⟨rfl,rfl⟩:=z;rw[el,BW];have ZI:=Dr.new dr.ds C6 (.lst ((cJ vs).map V.int));have UA:=ZI.same _ _ g;have UN:=dr.trans ZI;refine⟨p1,cJ vs,rfl,a9.of ae,?_⟩;generalize upd H' p1 (.lst ((cJ vs).map V.int))=H12 at ZI UA UN ⊢;refine⟨_,rfl,_,_,rfl,rfl,_,rfl,?_⟩;cases Qf:decide (t<(cJ vs).sum) with
 |true=>
  have d5:=Fu Qf;have k8:vs≠[]:=λz=>by
   rw[z] at d5;have:(cJ []).sum=0:=rfl;lia
  have hl:0<vs.length:=CK.mpr k8;refine⟨_,fun c5 H' z=>z,?_⟩;refine⟨_,rfl,.inl ⟨rfl,_,a9.of (aS p _ _ _ UA)⟩,W2,_,(ak vs)[(ak vs).length-1]'(by lia),rfl,rfl,aS p _ _ _ UA,AX (by lia),?_⟩;have es:(ak vs).dropLast=ak vs.dropLast:=by show _=(vs.dropLast).map _;rw[List.map_dropLast]
  rw[es];refine⟨vs.length-1,by lia,vs.dropLast,rfl,Dr.put UN K9.n0 K9.ne _,oy K9.ne _,by rw[Ew];lia,λcs h=>ok cs ((List.dropLast_sublist _).subset h),by rw[Ew]⟩
 |false=>
  refine⟨_,rfl,Bj _,λe0 Pc=>?_⟩;have ZH:=Dr.new UN.ds Pc (.lst []);have Zz:=ZH.same _ _ UA;refine⟨.list ((vs.map txt).map PyData.str),.list [],.lst (a9.of (aS p _ _ _ Zz)) (by show DatAll _ _ (vs.map λcs=>V.str (txt cs)) _;rw[show(vs.map λcs=>V.str (txt cs))=(vs.map txt).map V.str by rw[Bx];rfl];exact DatAll.strs _),.lst (a9.of ae) .nil,Jw _ (λz h=>by obtain⟨cs,hcs,rfl⟩:=AW.mp h;exact wo (QB.as (z:=txt cs) (ok cs hcs).lr)),rfl,jG _,!vs.isEmpty,(by show V.bl (!PyData.eqv _ _)=_;rw[LZ];cases vs<;>rfl),?_⟩;have T3:=UN.trans ZH;generalize upd H12 e0 (.lst [])=H13 at ZH Zz T3 ⊢;cases hv:vs with
  |cons v0 vr=>
   refine⟨_,rfl,q W2 vs H13 T3 Zz ⟨by rw[hv];exact FM (Bj _),l8',λcs h=>(ok cs h).lr,λcs h=>(ok cs h).l1,λcs h=>by have:=(ok cs h).ln;lia⟩ (λcs h=>by have:=(ok cs h).ln;lia) (by have:=of_decide_eq_false Qf;lia)⟩
  |nil=>
   refine⟨aw (by show 1<=1000000;decide),λW3 nW3=>?_⟩;have d14:=Dr.new T3.ds nW3 (.lst (ak [[108]]));exact q W3 [[108]] _ (T3.trans d14) (cq T3.ds nW3 _) ⟨by decide,by decide,λcs h=>by rw[AY.mp h];exact nV (by decide),λcs h=>by rw[AY.mp h];decide,λcs h=>by rw[AY.mp h];decide⟩ (λcs h=>by rw[AY.mp h];show((1:Nat):Int)<=_;lia) (by show(1:Int)<=t;lia)
open KM
theorem wR(cs:A7)(i:Nat):(txt cs).cps[i]?=cs[i]?:=by show cs.toArray[i]?=_;simp
theorem gA{cs:A7}{g:TG}{tb:TS}{D:Ends}{σ:L2.St}{H:Hp}(Pv:Nat->L2.St->Hp->Prop)(h0:Pv 0 σ H)
  (hs:∀i (hi:i<cs.length) σ H,Pv i σ H->g (.str ⟨#[cs[i]]⟩) σ H fun c8 H2=>tb {D with nx:=Pv (i+1),ct:=Pv (i+1),bk:=D.nx} c8 H2)(hd:∀σ H,Pv cs.length σ H->D.nx σ H) :
  ∃W:Nat->Nat->L2.St->Hp->Prop,(∃m,W 0 m σ H)/\∀i m σ H,W i m σ H ->
   ((Q9 (txt cs)).stop i H/\D.nx σ H)\/((Q9 (txt cs)).go i H/\∃N:L2.St->Hp->Prop,(∀c5 H',N c5 H'->∃m',m'<m/\W (i+1) m' c5 H')/\∀x H',(Q9 (txt cs)).D8 i H x H'->g x σ H' fun c8 H2=>tb {D with nx:=N,ct:=N,bk:=D.nx} c8 H2):=by
 refine⟨λi m σ H=>m=cs.length-i/\i<=cs.length/\Pv i σ H,⟨cs.length,by simp,Bj _,h0⟩,?_⟩;rintro i m σ H ⟨rfl,hi,p⟩;by_cases d5:i<cs.length
 ·refine .inr ⟨d5,Pv (i+1),fun c5 H' p'=>⟨cs.length-(i+1),by lia,rfl,d5,p'⟩,λx H' y=>?_⟩;obtain⟨e,c,hc,rfl⟩:=y;subst e;rw[wR,AX d5] at hc;cases hc;exact hs i d5 σ _ p
 ·have e:i=cs.length:=by lia
  subst e;exact .inl ⟨AS _,hd σ H p⟩
abbrev kk(r:A2):List Key:=r.map λx=>(Sum.inr (txt x):Key)
theorem xF(r:A2):(kk r).map kV=ak r:=by
 show(r.map _).map _=r.map _;rw[Bx];rfl
theorem pV{a b:A2}(h:kk a=kk b):a=b:=(DW λx y e=>bU (Sum.inr.inj e)).mp h
def SmO (a:Addr)(H H':Hp):Prop:=∀b o,b≠a->H b=some o->H' b=some o
theorem uj{lo:Int}{n:Nat}{g:TG}{tc:TT}{te:TE}{O7:L2.St}{H0:Hp}{Mm:List Str}{Q:List Str->Hp->Prop}(P:Nat->L2.St->List Str->Hp->Prop)(h0:P 0 O7 Mm H0)(hz:∀j σ ys H,j<=n->P j σ ys H->ys.length<4000)
  (hs:∀j σ ys H,j<n->P j σ ys H->g (.int (lo+j)) σ H fun c8 H2=>tc c8 H2 λb H3=>if b=true then te c8 H3 λy H4=>∃z,y=.str z/\MZ n j P c8 (z::ys) H4 else MZ n j P c8 ys H3)
  (hd:∀σ ys H,P n σ ys H->Q ys H):sY (OF lo n) g tc te O7 H0 Mm Q:=by
 refine⟨λj m σ ys H=>m=n-j/\j<=n/\P j σ ys H,⟨_,rfl,Bj _,h0⟩,?_⟩;rintro j m σ ys H ⟨rfl,hj,p⟩;have ly:=hz j σ ys H hj p;by_cases d5:j<n
 ·refine .inr ⟨d5,ly,λx H' y=>?_⟩;obtain⟨e,y⟩:=y;subst e y;exact hs j σ ys _ d5 p
 ·have e:j=n:=by lia
  subst e;exact .inl ⟨AS _,BS ly,hd σ ys H p⟩
abbrev y7(T:Sn):List (List Key×V):=T.map λe=>(kk e.1,V.str (txt e.2))
theorem eZ{k:A2}:∀{T:Sn},(∀e∈T,e.1≠k)->cg (y7 T) (kk k)=none
 |[],_=>rfl
 |e::r,h=>by
  show cg ((kk e.1,V.str (txt e.2))::y7 r) (kk k)=none;rw[bD (λz=>h e AZ (pV z))];exact eZ λe' he=>h e' (Bg _ he)
theorem hW{k:A2}:∀{T:Sn},(∃e∈T,e.1=k)->∃e∈T,e.1=k/\cg (y7 T) (kk k)=some (.str (txt e.2))
 |[],h=>by obtain⟨e,he,_⟩:=h;cases he
 |e::r,h=>by
  by_cases c:e.1=k
  ·exact⟨e,AZ,c,bX (show kk e.1=kk k by rw[c])⟩
  ·obtain⟨e',E9,c'⟩:=h;rcases Bb.mp E9 with rfl|E9
   ·exact absurd c' c
   ·obtain⟨f,hf,cf,vf⟩:=hW ⟨e',E9,c'⟩;refine⟨f,Bg _ hf,cf,?_⟩;show cg ((kk e.1,V.str (txt e.2))::y7 r) (kk k)=_;rw[bD (λz=>c (pV z))];exact vf
theorem um{k:A2}{x:A7}{T:Sn}(h:∀e∈T,e.1≠k):cU (y7 T) (kk k) (.str (txt x))=y7 (T++[(k,x)]):=by
 unfold cU;rw[Fm (λz=>?_)]
 ·show T.map _++[_]=(T++[_]).map _;rw[Bi];rfl
 ·obtain⟨p,hp,e⟩:=Dx.mp z;obtain⟨q,hq,rfl⟩:=AW.mp hp;exact h q hq (pV (Fu e))
abbrev Wt(H:Hp)(us:A9)(rs:List (A2)):Prop:=Paired (λv r=>∃b,v=V.ref b/\H b=some (.tup (ak r))) us rs
theorem gj{α β:Type}{R:α->β->Prop}:∀{xs:List α}{ys:List β}{i:Nat}{x:α},Paired R xs ys->xs[i]?=some x->∃y,ys[i]?=some y/\R x y
 |_,_,_,_,.nil,h=>by cases h
 |_,_,0,y,.cons r _,h=>by cases h;exact⟨_,rfl,r⟩
 |_,_,i+1,y,.cons _ p,h=>gj (i:=i) p h
theorem Wt.at{H:Hp}{us:A9}{rs:List (A2)}(h:Wt H us rs){i:Nat}{v:V}(e:us[i]?=some v):∃b r,v=.ref b/\H b=some (.tup (ak r))/\rs[i]?=some r:=by
 obtain⟨r,er,b,e1,e2⟩:=gj h e;exact⟨b,r,e1,e2,er⟩
theorem kY(ws:A2):(ws.flatMap λw=>(List.range w.length).map λm=>w.drop m).length=(ws.map List.length).sum:=by
 induction ws with
 |nil=>rfl
 |cons w r ih=>rw[BY,AV,ih,AU,BX];rfl
theorem nA(ws:A2):∀x z:A7,dB ws (RG ws []) x z↔RG ws x z
 |[],z=>Iff.rfl
 |c::x,z=>or_congr (nA ws x _) (and_congr (nA ws x _) Iff.rfl)
theorem sM{ws:A2}{e:A2×A7}{k:A2}{c:Nat}(hk:Ky (RG ws) e.1 e.2)(s:KM.F7 ws e.1 c k):Ky (RG ws) k (e.2++[c]):=λz=>by
 rw[De];show z∈k↔RG ws e.2.reverse (c::z)\/(RG ws e.2.reverse []/\c::z∈ws);rw[<- hk (c::z),<- hk []];exact s z
theorem kX:∀{T:Sn},(T.map (·.1)).Nodup->∀{e f:A2×A7},e∈T->f∈T->f.1=e.1->f=e
 |g::r,nd,e,f,he,hf,h=>by
  have Wm:=BN.mp nd;rcases Bb.mp he with e1|E9<;>rcases Bb.mp hf with e2|hf'
  ·rw[e1,e2]
  ·exact(Wm.1 (AW.mpr ⟨f,hf',by rw[h,e1]⟩)).elim
  ·exact(Wm.1 (AW.mpr ⟨e,E9,by rw[<- h,e2]⟩)).elim
  ·exact kX Wm.2 E9 hf' h
theorem tJ{T:Sn}(nd:(T.map (·.1)).Nodup){e:A2×A7}(he:e∈T):cg (y7 T) (kk e.1)=some (.str (txt e.2)):=by
 obtain⟨f,hf,ef,v⟩:=hW (k:=e.1) ⟨e,he,rfl⟩;rw[kX nd he hf ef] at v;exact v
structure Kq(ws:A2)(T:Sn)(i:Nat×Bool):Prop where
 bf:B7 (RG ws) (Cw ws) T i.1 i.2
 ln:∀e∈T,e.2.length+1<=T.length
theorem Kq.few{ws:A2}{T:Sn}{i:Nat×Bool}(hw:E4 ws)(D7:(ws.map List.length).sum<=30)(h:Kq ws T i):T.length<=9500000:=by
 have:=vi (sI ws) (λw RK c hc=>hw.lr w RK c hc) D7 (λz=>absurd (hw.l1 _ z) (by decide)) (A:=RG ws []) (λz hz=>by obtain⟨_,w,RK,u,e⟩:=hz;exact⟨u,e▸RK⟩) h.bf.nd λk hk=>by
  obtain⟨e,he,rfl⟩:=AW.mp hk;obtain⟨c,ky,lr⟩:=h.bf.ok e he;exact⟨c,e.2.reverse,λc hc=>lr c (List.mem_reverse.mp hc),λz=>(ky z).trans (nA ws _ z).symm⟩
 rw[AU] at this;exact this
theorem Kq.put{ws:A2}{T:Sn}{i:Nat}{b:Bool}(h:Kq ws T (i,b)){e:A2×A7}(he:T[i]?=some e){k:A2}(ck:Cw ws k)(s:KM.F7 ws e.1 (nl b) k)(nk:∀f∈T,f.1≠k):Kq ws (T++[(k,e.2++[nl b])]) (KM.nxt i b):=by
 refine⟨h.bf.new (tq ws) (sI ws) he ck (sM (h.bf.ok e (Bp he)).2.1 s) λz=>?_,λf hf=>?_⟩
 ·obtain⟨f,hf,e1⟩:=AW.mp z;exact nk f hf e1
 ·rw[AV];show _<=T.length+1;rcases Ba.mp hf with hf|hf
  ·have:=h.ln f hf;lia
  ·rw[AY.mp hf];have:=h.ln e (Bp he);show(e.2++[nl b]).length+1<=_;rw[AV];show e.2.length+1+1<=_;lia
theorem Kq.has{ws:A2}{T:Sn}{i:Nat}{b:Bool}(h:Kq ws T (i,b)){e f:A2×A7}(he:T[i]?=some e)(hf:f∈T)(s:KM.F7 ws e.1 (nl b) f.1):Kq ws T (KM.nxt i b):=
 ⟨h.bf.old he hf (sM (h.bf.ok e (Bp he)).2.1 s),h.ln⟩
theorem wQ{ws k:A2}(D7:(ws.map List.length).sum<=30)(n8:ws.length<=8)(c:Cw ws k):k.length<=80:=by
 have:=HI ((ws.flatMap λw=>(List.range w.length).map λm=>w.drop m)++[[]]) c.nd λx hx=>by
  obtain⟨u,hu⟩:=c.ps x hx;by_cases n:x=[]
  ·exact Bc _ (by rw[n];exact AY.mpr rfl)
  ·refine Bu _ (BC.mpr ⟨_,hu,AW.mpr ⟨u.length,Bt.mpr ?_,Ce⟩⟩);have:=CK.mpr n;rw[AV];lia
 rw[AV,kY] at this;exact Bh this (by show _+1<=80;lia)
def ps (i:Nat):Nat->Nat×Bool
 |0=>(i,false)
 |1=>(i,true)
 |_=>(i+1,false)
theorem wA{i j:Nat}(h:j<[108,114].length):∃b,ps i j=(i,b)/\[108,114][j]=nl b/\ps i (j+1)=KM.nxt i b:=by
 rcases j with _|_|j
 ·exact⟨false,rfl,rfl,rfl⟩
 ·exact⟨true,rfl,rfl,rfl⟩
 ·exact absurd h (by simp)
structure Fs(a p:Addr)(H:Hp)(T:Sn)(H':Hp)(T1:Sn):Prop where
 sm:SmO a H H'
 ga:H' a=some (.dT (y7 T1))
 ex:∃j7 X,T1=T++X/\H' p=some (.lst j7)/\Wt H' j7 (X.map (·.1))
theorem Fs.same{a p:Addr}{H:Hp}{T:Sn}{H' l0:Hp}{T1:Sn}(h:Fs a p H T H' T1)(S:FZ H' l0):Fs a p H T l0 T1:=by
 obtain⟨j7,X,h1,h2,h3⟩:=h.ex;refine⟨λb o ne e=>S _ _ (h.sm b o ne e),S _ _ h.ga,j7,X,h1,S _ _ h2,Paired.Hw h3 λv r SO=>?_⟩;obtain⟨b,e,g⟩:=SO;exact⟨b,e,S _ _ g⟩
def Oa:Sp:=λvs H Q _=>∃l ws,vs=[.ref l]/\H l=some (.lst (ak ws))/\E4 ws/\(ws.map List.length).sum<=30/\∀p r H',FZ H H'->H' p=some (.tup (ak r))->Cw ws r->(∀z,z∈r↔RG ws [] z)->Q (.ref p) H'
theorem ye{d:DD}(D:Def K mg "all_rests" (top 21) ["words"] d)(yT:mg "tuple"=none)(yS:mg "sorted"=none)(yP:mg "range"=none)(yQ:mg "len"=none):(fk 1 d ["words"] Oa):=by
 exists["words"]
 obtain⟨l,ws,rfl,hl,hw,D7,q⟩:=h;have hh:=hr.hd;refine⟨_,(ai (aJ (ba Gi yT GH (aI (gn hh (mj (aq (ts:=["word","at"]) (cap:=[]) (js:=[]) rfl rfl rfl rfl rfl rfl (by decide +kernel)) (aR (0)) (am 0 (nd ["word","at"])) (@aV _) (aO yP (aI (aL (show bV _ _ _ from FV) yQ (0) aF) eK)) (am 1 (nd ["word","at"])) (@aV _) (aX GK (0) (bu (1)) (Gj _)) (by intro _ _;rfl)) yS GD) eK)))),?_⟩
 walk_at "d"
 have el:=ax ws;have w8:=hw.n8;refine⟨_,rfl,l,rfl,⟨_,a9.of hl⟩,?_⟩;refine vb (K:=K) (a:=l) (xs:=ak ws) (λi ys H'=>H'=H/\ys.length<=40*i/\∀z,z∈ys↔∃x∈ws.take i,∃m,m<x.length/\z=txt (x.drop m)) ⟨rfl,Bj _,λz=>⟨λh=>(by cases h),λh=>by obtain⟨x,h,_⟩:=h;cases h⟩⟩ (λi ys H' hi z=>by have:=z.2.1;lia) (λi ys H' hi z=>by rw[z.1];exact a9.of hl) (λi v ys H' hv z=>?_) (λys H' z=>?_)
 ·obtain⟨rfl,z2,z3⟩:=z;have hi:i<(ak ws).length:=(Be.mp hv).1;have i3:i<ws.length:=by lia
  rw[bH i3] at hv;cases hv;have lx:=hw.G5 _ (aG i3);have et:ws.take (i+1)=ws.take i++[ws.getD i []]:=by rw[Bw,Bv,AX i3];rfl
  generalize ws.getD i []=x at lx et ⊢;have ex:(txt x).length=x.length:=by show x.toArray.size=_;simp
  refine⟨_,rfl,_,rfl,aw (by lia),_,rfl,by lia,by lia,?_⟩;refine uj (lo:=0) (n:=(((txt x).length:Nat):Int).toNat) (λj σ i6 l0=>l0=H'/\(∃e1,σ=[some (.str (txt x)),e1])/\i6.length<=40*i+j/\∀z,z∈i6↔z∈ys\/∃m,m<j/\z=txt (x.drop m)) ⟨rfl,⟨_,rfl⟩,z2,λz=>⟨.inl,λh=>h.elim id λSN=>by obtain⟨m,h,_⟩:=SN;exact absurd h (Dg _)⟩⟩ (λj σ i6 l0 hj z=>by have:=z.2.2.1;lia) (λj σ i6 l0 hj z=>?_) (fun σ i6 l0 z=>?_)
  ·obtain⟨rfl,⟨e1,rfl⟩,y2,y3⟩:=z;refine⟨_,rfl,_,rfl,_,rfl,_,rfl,aw (by lia),_,rfl,MZ.mk hj ⟨rfl,⟨_,rfl⟩,by rw[Bl];lia,λz=>?_⟩⟩;rw[show Txt.slice (txt x) (some (0+((j:Nat):Int))) none=txt (x.drop j) by rw[Ct];exact bN x j,Bb,y3 z];constructor
   ·rintro (rfl|h|⟨m,h,e⟩)
    ·exact .inr ⟨j,by lia,rfl⟩
    ·exact .inl h
    ·exact .inr ⟨m,by lia,e⟩
   ·rintro (h|⟨m,h,e⟩)
    ·exact .inr (.inl h)
    ·by_cases c:m=j
     ·subst c;exact .inl e
     ·exact .inr (.inr ⟨m,by lia,e⟩)
  ·obtain⟨rfl,_,y2,y3⟩:=z;rw[ex,BK] at y2 y3;refine O5.mk hi ⟨rfl,by lia,λz=>?_⟩;rw[y3 z,z3 z,et];constructor
   ·rintro (⟨x',h,m,e⟩|⟨m,e⟩)
    ·exact⟨x',Bu _ h,m,e⟩
    ·exact⟨x,Bc _ (AY.mpr rfl),m,e⟩
   ·rintro⟨x',h,m,e⟩;rcases Ba.mp h with h|h
    ·exact .inl ⟨x',h,m,e⟩
    ·rw[AY.mp h] at e;exact .inr ⟨m,e⟩
 obtain⟨rfl,z2,z3⟩:=z;rw[el,BW] at z3;have Qt:(j3 ys).length<64:=by
  have h1:=HI (ws.flatMap λw=>(List.range w.length).map λm=>w.drop m) (l:=(j3 ys).map λz=>z.cps.toList) (CU.mpr ((HJ ys).imp λ{a b} ne e=>ne ((dh a).trans ((congrArg txt e).trans (dh b).symm)))) λx hx=>by
   obtain⟨z,hz,rfl⟩:=AW.mp hx;obtain⟨x,hx,m,hm,e⟩:=(z3 z).mp (GI.mp hz);rw[e];exact BC.mpr ⟨x,hx,AW.mpr ⟨m,Bt.mpr hm,by show _=(x.drop m).toArray.toList;simp⟩⟩
  rw[AU,kY] at h1;lia
 refine⟨Qt,λL2 zs pz sz nL=>?_⟩;have S4:=af nL (.lst (zs.map V.str));obtain⟨ks,rfl⟩:∃ks:A2,zs=ks.map txt:=by
  refine⟨zs.map λz=>z.cps.toList,?_⟩;rw[Bx]
  conv=>lhs;rw[<- DP zs]
  exact Cc λz _=>dh z
 have N6:∀u,u∈ks↔u≠[]/\∃v,v++u∈ws:=λu=>by
  have h1:u∈ks↔txt u∈ks.map txt:=by
   rw[AW];exact⟨λh=>⟨u,h,rfl⟩,λ⟨u',h,e⟩=>by rw[<- bU e];exact h⟩
  rw[h1,pz.mem_iff,GI,z3];constructor
  ·rintro⟨x,hx,m,hm,e⟩;rw[bU e];refine⟨λz=>?_,x.take m,by rw[Ca];exact hx⟩;have:=congrArg List.length z;rw[By,Cn] at this;lia
  ·rintro⟨h,v,hv⟩;refine⟨_,hv,v.length,?_,by rw[Ce]⟩;have:=CK.mpr h;rw[AV];lia
 refine⟨L2,_,rfl,.inl ⟨a9.of ae,λp np=>?_⟩⟩;have S5:=af np (.tup ((ks.map txt).map V.str));refine q p ks _ (S4.trans S5) (by rw[ae,Bx];rfl) ⟨sz,?_,λz hz=>((N6 z).mp hz).2⟩ λz=>(N6 z).trans ⟨λSM=>by obtain⟨n,u,h⟩:=SM;exact⟨n,_,h,u,rfl⟩,λ⟨n,_,h,u,e⟩=>⟨n,u,e▸h⟩⟩;have:=pz.nodup_iff.mpr (HJ ys);exact(CU.mp this).imp λne e=>ne (by rw[e])
def NN:Sp:=λvs H Q _=>∃l a wl ws T us i,vs=[.ref l,.ref a,.ref wl]/\H l=some (.lst (ak ws))/\E4 ws/\(ws.map List.length).sum<=30/\UL ws/\H a=some (.dT (y7 T))/\Kq ws T (i,false)/\i<=T.length/\H wl=some (.lst us)/\Wt H us ((T.drop i).map (·.1)) /\
 ∀p r6 X H',SmO a H H'->H p=none->H' a=some (.dT (y7 (T++X)))->H' p=some (.lst r6)->Wt H' r6 (X.map (·.1))->Kq ws (T++X) (T.length,false)->Q (.ref p) H'
theorem yk{dr d:DD}(D_rb:(dg "rests_behind" 19 ["words","rests","letter"] dr 1 NI))(D:Def K mg "further_rests" (top 22) ["words","texts","waiting"] d):(fk 2 d ["words","texts","waiting"] NN):=by
 exists["words","texts","waiting","told","rests","letter","behind"]
 obtain⟨l,a,wl,ws,T,us,i0,rfl,hl,hw,D7,few,ha,kT,hi0,PX,PY,q⟩:=h;refine⟨_,(ag (aA 3 (bj (@Ge _))) (ag (bG (aR (2)) (ao 4) (ai (bG (iN (aU _)) (ao 5) (ag (aA 6 (bw D_rb.1 D_rb.2 (FU (0) (FU (4) (aI (5) aF) aF) aF))) (ai (eX (bx (ko (dI (cZ hr) (6) (1)) (by first|exact dH _ (by decide) (by decide)|rfl)) (ag (dA (cZ hr) (1) (6) (aB Gh (hV (cZ hr) (1) (4)) (5))) (ai (bT (kD (3) (6) aF)))) (Gb _)))))))) (ai (aJ (3))))),?_⟩
 walk_at "d"
 refine⟨Bj _,λp np=>?_⟩;have Ry:l≠a:=bB hl ha (λz=>by cases z);have npa:p≠a:=FI (aC ha np);have nwa:wl≠a:=bB PX ha (λz=>by cases z);have lw:us.length=T.length-i0:=by have:=Paired.length PY;rw[this,AU,By]
 have F0:Fs a p H T (upd H p (.lst [])) T:=⟨λb o _ e=>af np _ _ _ e,af np _ _ _ ha,[],[],(BJ T).symm,ae,.nil⟩
 refine⟨_,rfl,wl,rfl,⟨_,a9.of (af np _ _ _ PX)⟩,?_⟩;refine fh (K:=K) (a:=wl) (xs:=us) (λi σ H'=>∃e4 e5 e6 T1,σ=[some (.ref l),some (.ref a),some (.ref wl),some (.ref p),e4,e5,e6]/\Fs a p H T H' T1/\Kq ws T1 (i0+i,false)) ⟨_,_,_,T,rfl,F0,kT⟩ (λi σ H' hi z=>?_) (λi v σ H' hv z=>?_) (fun σ H' z=>?_)
 ·obtain⟨_,_,_,T1,_,F,_⟩:=z;exact a9.of (F.sm _ _ nwa PX)
 ·obtain⟨e4,e5,e6,T1,rfl,F,QP⟩:=z;obtain⟨b,r,rfl,gb,hr⟩:=PY.at hv;rw[Bo,Ci] at hr;obtain⟨e,he,rfl⟩:=Co.mp hr;have em:=Bp he;have ce:=(kT.bf.ok e em).1;have nba:b≠a:=bB gb ha (λz=>by cases z);have r80:=wQ D7 hw.n8 ce;refine⟨txt [108,114],congrArg V.str (by decide +kernel),by decide +kernel,?_⟩;refine gA (cs:=[108,114]) (λj σ H'=>∃e5 e6 T1,σ=[some (.ref l),some (.ref a),some (.ref wl),some (.ref p),some (.ref b),e5,e6]/\Fs a p H T H' T1/\Kq ws T1 (ps (i0+i) j)) ⟨_,_,T1,rfl,F,QP⟩ (λj hj σ H2 z=>?_) (fun σ H2 z=>?_)
  rotate_left
  ·obtain⟨e5,e6,T1,rfl,F,QP⟩:=z;exact⟨_,_,_,T1,rfl,F,QP⟩
  obtain⟨e5,e6,T2,rfl,F2,kq⟩:=z;obtain⟨bb,e1,e2,e3⟩:=wA (i:=i0+i) hj;rw[e1] at kq;rw[e2];have tr:∀{c5:L2.St}{H':Hp},(∃e5 e6 T1,c5=[some (.ref l),some (.ref a),some (.ref wl),some (.ref p),some (.ref b),e5,e6]/\Fs a p H T H' T1/\Kq ws T1 (KM.nxt (i0+i) bb))->∃e5 e6 T1,c5=[some (.ref l),some (.ref a),some (.ref wl),some (.ref p),some (.ref b),e5,e6]/\Fs a p H T H' T1/\Kq ws T1 (ps (i0+i) (j+1)):=λz=>by rw[e3];exact z
  refine⟨_,rfl,_,rfl,_,rfl,l,b,ws,e.1,nl bb,rfl,F2.sm _ _ Ry hl,F2.sm _ _ nba gb,Bh hw.n8 (by decide),r80,hw.G5,few,ce,λp1 k' H3 S3 g3 c3 s3=>?_⟩;have F3:=F2.same S3;obtain⟨j7,X,h1,h2,h3⟩:=F3.ex;have Y5:T2[i0+i]?=some e:=by rw[h1,CG (Be.mp he).1];exact he
  have em2:=Bp Y5;have Zy:H3 p1=some (.tup ((kk k').map kV)):=by rw[xF];exact g3
  have gb3:H3 b=some (.tup ((kk e.1).map kV)):=by rw[xF];exact F3.sm _ _ nba gb
  refine⟨fun σ H'=>∃e5 e6 T1,σ=[some (.ref l),some (.ref a),some (.ref wl),some (.ref p),some (.ref b),e5,e6]/\Fs a p H T H' T1/\Kq ws T1 (KM.nxt (i0+i) bb),?_,fun σ H' z=>tr z⟩;by_cases hk:∃f∈T2,f.1=k'
  ·obtain⟨f,hf,ek,vf⟩:=hW hk;exact⟨_,rfl,_,rfl,a,_,rfl,HE.t F3.ga Zy,_,rfl,by rw[vf];exact⟨_,_,T2,rfl,F3,kq.has Y5 hf (by rw[ek];exact s3)⟩⟩
  have nk:∀f∈T2,f.1≠k':=λf hf z=>hk ⟨f,hf,z⟩;refine⟨_,rfl,_,rfl,a,_,rfl,HE.t F3.ga Zy,_,rfl,?_⟩;rw[eZ nk];have vf:=tJ kq.bf.nd em2;have fw:=kq.few hw D7;have lf:=kq.ln e em2;have UO:16777216<=sizeLine:=by decide
  have elf:(txt e.2).length=e.2.length:=by show e.2.toArray.size=_;simp
  refine⟨_,rfl,_,rfl,a,_,rfl,by rw[<- vf];exact HE.t F3.ga gb3,_,rfl,txt e.2,txt [nl bb],rfl,rfl,?_,?_⟩
  ·refine Bh ?_ UO;rw[elf];show e.2.length+1<=_;lia
  rw[eI];refine⟨_,rfl,_,rfl,a,_,rfl,JN.t F3.ga Zy (Bq (show(y7 T2).length<16777216 by rw[AU];lia) UO),?_⟩;rw[um nk];have l1:j7.length<=T2.length:=by rw[Paired.length h3,AU,h1,AV];lia
  have gp:upd H3 a (.dT (y7 (T2++[(k',e.2++[nl bb])]))) p=some (.lst j7):=by rw[aj npa];exact h2
  refine⟨_,rfl,.inl ⟨rfl,_,a9.of gp⟩,_,rfl,p,j7,_,rfl,rfl,gp,Bq (show j7.length<16777216 by lia) UO,?_⟩;have up:∀b' o,H3 b'=some o->b'≠a->b'≠p->upd (upd H3 a (.dT (y7 (T2++[(k',e.2++[nl bb])])))) p (.lst (j7++[.ref p1])) b'=some o:=λb' o e' na np'=>by rw[aj np',aj na];exact e'
  refine⟨_,_,T2++[(k',e.2++[nl bb])],rfl,⟨λb' o na e'=>up b' o (F3.sm b' o na e') na (aC e' np),by rw[aj (FI npa),ae],j7++[.ref p1],X++[(k',e.2++[nl bb])],by rw[h1,Bz],ae,?_⟩,kq.put Y5 c3 s3 nk⟩;rw[Bi];refine bA (Paired.Hw h3 λv r SK=>?_) (.cons ⟨p1,rfl,up p1 _ g3 (bB g3 F3.ga (λz=>by cases z)) (bB g3 h2 (λz=>by cases z))⟩ .nil);obtain⟨b',e',g'⟩:=SK;exact⟨b',e',up b' _ g' (bB g' F3.ga (λz=>by cases z)) (bB g' h2 (λz=>by cases z))⟩
 ·obtain⟨e4,e5,e6,T1,rfl,F,QP⟩:=z;obtain⟨j7,X,rfl,h2,h3⟩:=F.ex;rw[show i0+us.length=T.length by lia] at QP;exact⟨_,rfl,q p j7 X H' F.sm np F.ga h2 h3 QP⟩
open KM
def Stk (ws:A2)(u:V):Prop:=(∃x,u=.str (txt x)/\x.length<=9500000/\OG (No (RG ws)) x)\/(u=.f6/\∀y,(∀c∈y,ox c)->¬No (RG ws) y)
theorem tP{T:Sn}(h:(cg (y7 T) (kk [])).isSome=true):∃e∈T,e.1=[]:=Classical.byContradiction λz=>by
 rw[eZ λe he e1=>z ⟨e,he,e1⟩] at h;cases h
theorem vK{ws:A2}{T:Sn}{i:Nat}(few:T.length<=9500000)(kq:Kq ws T (i,false))(h:T.length<=i\/∃e∈T,e.1=[]):Stk ws ((cg (y7 T) (kk [])).getD .f6):=by
 by_cases hk:∃e∈T,e.1=[]
 ·obtain⟨⟨k,x⟩,he,rfl⟩:=hk;rw[tJ kq.bf.nd he];exact .inl ⟨x,rfl,by have:=kq.ln _ he;have:x.length+1<=T.length:=this;lia,kq.bf.got he⟩
 ·rw[eZ λe he e1=>hk ⟨e,he,e1⟩];exact .inr ⟨rfl,λy hy=>kq.bf.none (tq ws) (h.resolve_right hk) (λz=>by obtain⟨e,he,e1⟩:=AW.mp z;exact hk ⟨e,he,e1⟩) hy⟩
def Mt:Sp:=λvs H Q _=>∃l us ws,vs=[.ref l]/\H l=some (.lst us)/\Jk H us ws/\E4 ws/\(∀w∈ws,w.length<=12)/\(ws.map List.length).sum<=30/\∀u H',FZ H H'->Stk ws u->Q u H'
theorem xh{dm da df d:DD}{lt:Tok}(m_mt:mg "MOST_LETTERS_TOGETHER"=some (.int 30 lt))(zd:(dg "maker_words" 16 ["makers"] dm 5 KS))(D_ar:(dg "all_rests" 21 ["words"] da 1 Oa))(D_fr:(dg "further_rests" 22 ["words","texts","waiting"] df 2 NN))(D:Def K mg "stuck" (top 23) ["makers"] d)(yQ:mg "len"=none)(zo:mg "sum"=none)(yX:mg "list"=none):(fk 6 d ["makers"] Mt):=by
 exists["makers","words","texts","waiting"]
 obtain⟨l,us,ws,rfl,hl,M,hw,C0,D7,q⟩:=h;refine⟨_,(ag (aA 1 (cK zd.1 zd.2 (0) aF)) (ag (bx (ay HZ (aQ (fH hc) zo JS (aI (aY (aq (ts:=["word"]) (cap:=[]) (js:=[]) rfl rfl rfl rfl rfl rfl (by decide +kernel)) (aR (1)) (am 0 (nd ["word"])) (@aV _) (aL FV yQ (0) aF)) (by rfl))) (iy (.int 30) m_mt ⟨_,rfl⟩) (aE _)) (ai (@Hy _ _)) (Gb _)) (ag (aA 2 (@nN _ _ _ _ _ _ (cZ hr) (cK D_ar.1 D_ar.2 (1) aF) (aU _))) (ag (aA 3 (ba (pZ hc) yX Hk (aI (2) aF))) (ag (cR (@PW.pt _ _ _ (cG (lg (3)) (bS (ko (dI (cZ hr) (aN (@Ge _)) (2)) (by first|exact dH _ (by decide) (by decide)|rfl))))) (ai (aA 3 (bw D_fr.1 D_fr.2 (FU (1) (FU (2) (aI (3) aF) aF) aF))))) (ai (aJ (@sk _ _ _ _ _ _ _ (cZ hr) (2) (aN (@Ge _)) ⟨rfl,rfl,rfl,rfl⟩)))))))),?_⟩
 walk_at "d"
 refine⟨_,rfl,l,us,ws,rfl,hl,M,hw,λp1 H1 S1 g1=>?_⟩;have el:=ax ws;have few:=vh hw.l1 C0 (by lia);have w8:=hw.n8;refine⟨_,rfl,p1,rfl,⟨_,a9.of g1⟩,?_⟩;refine cY (K:=K) (a:=p1) (xs:=ak ws) (λi ys H'=>H'=H1/\ys=(cJ (ws.take i)).map V.int) ⟨rfl,rfl⟩ (λi ys H' hi z=>by rw[z.2,AU];unfold cJ;rw[AU,Bs];lia) (aw (by lia)) (λi ys H' hi z=>by rw[z.1];exact a9.of g1) (λi v ys H' hv z=>?_) (λys H' z p2 EX=>?_)
 ·obtain⟨rfl,rfl⟩:=z;have hi:i<(ak ws).length:=(Be.mp hv).1;have i3:i<ws.length:=by lia
  rw[bH i3] at hv;cases hv;have:=hw.G5 _ (aG i3);refine⟨_,rfl,_,rfl,aw (by show(ws.getD i []).length<=1000000;lia),Nx.mk hi ⟨rfl,?_⟩⟩;unfold cJ;rw[Bw,Bi,Bi,AX i3,Bv,AX i3];rfl
 obtain⟨rfl,rfl⟩:=z;rw[el,BW];have S2:=af EX (.lst ((cJ ws).map V.int));have es:(cJ ws).sum=(((ws.map List.length).sum:Nat):Int):=fg (λw:A7=>w.length) ws;refine⟨p2,cJ ws,rfl,a9.of ae,_,_,rfl,rfl,false,?_,?_⟩
 ·show V.bl (decide ((30:Int)<(cJ ws).sum))=_;rw[es,Fp (by lia)]
 have Q6:=S1.trans S2;have g2:=S2 _ _ g1;generalize upd H' p2 (.lst ((cJ ws).map V.int))=H2 at Q6 g2 ⊢;refine λa na=>⟨_,rfl,p1,ws,rfl,af na _ _ _ g2,hw,D7,λpk r H3 S3 gk cw kr=>⟨kk r,pk,S3 _ _ ae,rfl,by rw[xF];exact gk,?_⟩⟩
 rw[zp];have up:∀{H':Hp}{o:HO},FZ (upd H2 a (.dT [])) H'->FZ H2 (upd H' a o):=λ{H' o} S b u e=>by
  have n:b≠a:=aC e na;rw[aj n];refine S _ _ ?_;rw[aj n];exact e
 have S4:FZ H2 (upd H3 a (.dT (y7 [(r,[])]))):=up S3;have g4:upd H3 a (.dT (y7 [(r,[])])) a=some (.dT (y7 [(r,[])])):=ae;have k4:Kq ws [(r,[])] (0,false):=⟨B7.start cw kr,λe he=>by rw[AY.mp he];exact AS _⟩
 show yH _ _ _ _ (upd H3 a (.dT (y7 [(r,[])])));generalize upd H3 a (.dT (y7 [(r,[])]))=H4 at S4 g4 ⊢;refine⟨_,rfl,a,y7 [(r,[])],rfl,.inl g4,λwl E6 nwl hp=>?_⟩;have S5:=af nwl (.lst E6);have w5:Wt (upd H4 wl (.lst E6)) E6 [r]:=by
  have QV:Paired (λv (k:List Key)=>∃b,v=V.ref b/\H4 b=some (.tup (k.map kV))) E6 [kk r]:=hp;cases QV with
  |cons h t=>
   cases t with
   |nil=>
    obtain⟨b,rfl,hb⟩:=h;rw[xF] at hb;exact .cons ⟨b,rfl,S5 _ _ hb⟩ .nil
 refine⟨λm σ H'=>∃wl E6 i,∃T:Sn,σ=[some (.ref l),some (.ref p1),some (.ref a),some (.ref wl)]/\FZ H2 H'/\H' a=some (.dT (y7 T))/\Kq ws T (i,false)/\i<=T.length/\H' wl=some (.lst E6)/\Wt H' E6 ((T.drop i).map (·.1))/\m=(9500000-T.length)*2+E6.length,⟨_,wl,E6,0,[(r,[])],rfl,S4.trans S5,S5 _ _ g4,k4,Bj _,ae,(show Wt _ _ (List.map (λe:A2×A7=>e.1) [(r,[])]) from w5),rfl⟩,?_⟩;clear S5 w5 hp nwl g4 k4 S4 kr cw gk S3;rintro m σ H6 ⟨wl,E6,i,T,rfl,S6,ga,kq,hi,gwl,hwt,rfl⟩;have lw:=Paired.length hwt;rw[AU,By] at lw;have fin:∀{H7:Hp},FZ H6 H7->(T.length<=i\/∃e∈T,e.1=[])->yr (sH (Mj 2) (yC KH)) {nx:=λx H'=>Q V.f6 H',rt:=Q} [some (.ref l),some (.ref p1),some (.ref a),some (.ref wl)] H7:=λ{H7} S7 hh=>⟨_,rfl,a,rfl,.inr ⟨_,.inl (S7 _ _ ga)⟩,Bj _,λe1 ne1=>⟨_,HE.t (k:=kk []) (af ne1 _ _ _ (S7 _ _ ga)) ae,q _ _ (Q6.trans (S6.trans (S7.trans (af ne1 _)))) (vK (kq.few hw D7) kq hh)⟩⟩
 refine⟨_,rfl,!E6.isEmpty,.inl ⟨_,a9.of gwl,rfl⟩,?_⟩;cases PY:E6.isEmpty with
 |true=>exact fin (FZ.refl _) (.inl (by rw[DV.mp PY] at lw;have lw:0=T.length-i:=lw;lia))
 |false=>
  have r1:1<=E6.length:=by
   cases E6 with
   |nil=>cases PY
   |cons x y=>exact FM (Bj _)
  refine⟨Bj _,λe0 Pc=>?_⟩;have S7:=af Pc (.tup []);refine⟨_,rfl,a,_,rfl,HE.t (k:=kk []) (S7 _ _ ga) ae,_,rfl,?_⟩;cases ho:(cg (y7 T) (kk [])).isSome with
  |true=>exact fin S7 (.inr (tP ho))
  |false=>
   refine⟨_,fun c5 H' z=>z,?_⟩;refine⟨_,rfl,_,rfl,_,rfl,p1,a,wl,ws,T,E6,i,rfl,S7 _ _ (S6 _ _ g2),hw,D7,few,S7 _ _ ga,kq,hi,S7 _ _ gwl,Paired.Hw hwt λv r SJ=>by obtain⟨b,e,g⟩:=SJ;exact⟨b,e,S7 _ _ g⟩,λp r6 X H' sm np Uy gp Z4 kq'=>?_⟩;have f:=kq'.few hw D7;have lx:=Paired.length Z4;rw[AU] at lx;have la:(T++X).length=T.length+X.length:=AV;exact⟨_,by lia,p,r6,T.length,T++X,rfl,λb o e=>sm b o (aC e na) (S7 _ _ (S6 _ _ e)),Uy,kq',by lia,gp,by rw[Ce];exact Z4,rfl⟩
open KM
theorem rN(a b:Nat):decide (V.str ⟨#[a]⟩=V.str (txt [b]))=decide (a=b):=by
 refine decide_eq_decide.mpr ⟨λh=>?_,λh=>by rw[h];rfl⟩;have e:(⟨#[a]⟩:Str)=txt [b]:=by injection h
 have e2:#[a]=[b].toArray:=congrArg Str.cps e;have e3:[a]=[b]:=by simpa using congrArg Array.toList e2
 exact(List.cons.inj e3).1
abbrev pn(z:A7):B3:=z.map λm=>((m:Nat):Int)
abbrev pk(z:A7):List Key:=z.map λm=>(Sum.inl ((m:Nat):Int):Key)
theorem vW{a b:A7}(h:pn a=pn b):a=b:=(DW λx y e=>Int.ofNat.inj e).mp h
theorem sN(z:A7):(pk z).map kV=(pn z).map V.int:=by
 show(z.map _).map _=(z.map _).map _;rw[Bx,Bx];rfl
theorem sR{a b:A7}(h:pk a=pk b):a=b:=(DW λx y e=>Int.ofNat.inj (Sum.inl.inj e)).mp h
def lB (zs:A2)(z:A7):A2:=if z∈zs then zs else zs++[z]
theorem Gz{zs:A2}{z x:A7}:x∈lB zs z↔x∈zs\/x=z:=by
 unfold lB;split
 ·exact⟨.inl,λh=>h.elim id λe=>by rw[e];assumption⟩
 ·rw[Ba,AY]
theorem fL{zs:A2}{z:A7}(h:zs.Nodup):(lB zs z).Nodup:=by
 unfold lB;split
 ·exact h
 ·exact Ku h (by assumption)
abbrev n6(zs:A2):List (List Key×V):=zs.map λz=>(pk z,V.bl true)
theorem tD(zs:A2)(z:A7):cU (n6 zs) (pk z) (.bl true)=n6 (lB zs z):=by
 have e:((n6 zs).any λkv=>decide (kv.1=pk z))=decide (z∈zs):=by
  show((zs.map _).any _)=_;rw[List.any_map,FL,Dx,decide_eq_true_iff];constructor
  ·rintro⟨x,hx,h⟩;rw[<- sR (Fu (p:=pk x=pk z) h)];exact hx
  ·exact λh=>⟨z,h,Fo (p:=pk z=pk z) rfl⟩
 unfold cU lB;rw[e];by_cases h:z∈zs
 ·rw[Fn (Fo h),Fn h];show(zs.map _).map _=zs.map _;rw[Bx];refine Cc λx _=>?_;show(if pk x=pk z then (pk x,V.bl true) else (pk x,V.bl true))=(pk x,V.bl true)
  split<;>rfl
 ·rw[Fm (by rw[Fp h];decide),Fm h];show zs.map _++[_]=(zs++[z]).map _;rw[Bi];rfl
theorem sG{cs:A7}(h:∀c∈cs,ox c):((txt cs).cps.all λx=>decide (x<128))=true:=by
 show cs.toArray.all _=true;rw[List.all_toArray,Cp];intro c hc;rcases h c hc with rfl|rfl<;>rfl
def sF (ws:A2)(z:A7):Prop:=∃j p,z=[j,p]/\p<(ws.getD j []).length
theorem fb{ws zs:A2}(n8:ws.length<=8)(C0:∀w∈ws,w.length<=12)(nd:zs.Nodup)(h:∀z∈zs,sF ws z):zs.length<=96:=by
 refine HI ((List.range 8).flatMap λj=>(List.range 12).map λp=>[j,p]) nd λz hz=>?_;obtain⟨j,p,rfl,hp⟩:=h z hz;have hj:=cc hp;have:=C0 _ (aG hj);exact BC.mpr ⟨j,Bt.mpr (by lia),AW.mpr ⟨p,Bt.mpr (by lia),rfl⟩⟩
theorem lA{H H':Hp}{a e:Addr}{zs:A2}{xs:A9}(z:A7)(S:FZ H H')(na:H a=none)(g:H' a=some (.dT (n6 zs)))(ne:H' e=none)(ex:xs=(pk z).map kV)(l:zs.length<=96) :
  ∃l0,JN (upd H' e (.tup xs)) a (.ref e) (V.bl true) l0/\FZ H l0/\l0 a=some (.dT (n6 (lB zs z)))/\∀b o,b≠a->H' b=some o->l0 b=some o:=by
 have Se:=af ne (.tup xs);refine⟨upd (upd H' e (.tup xs)) a (.dT (n6 (lB zs z))),?_,λb o eb=>?_,ae,λb o nb eb=>by rw[aj nb];exact Se _ _ eb⟩
 ·rw[<- tD];exact JN.t (Se _ _ g) (by rw[ae,ex]) (aw (by rw[AU];lia))
 ·rw[aj (aC eb na)];exact Se _ _ (S _ _ eb)
def Ow (ws:A2)(x:Nat)(y z:A7):Prop:=∃j p,y=[j,p]/\(ws.getD j [])[p]?=some x/\((p+1<(ws.getD j []).length/\z=[j,p+1])\/(p+1=(ws.getD j []).length/\∃n,n<ws.length/\z=[n,0]))
theorem wL{ws:A2}{x:Nat}{xs z:A7}:(∃y,PL ws xs y/\Ow ws x y z)↔PL ws (x::xs) z:=by
 constructor
 ·rintro⟨_,hy,j,p,rfl,g,⟨h,rfl⟩|⟨h,n,hn,rfl⟩⟩
  ·exact .inl ⟨j,p,rfl,h,hy,g⟩
  ·exact .inr ⟨n,rfl,hn,j,p,h,hy,g⟩
 ·rintro (⟨j,p,rfl,h,hy,g⟩|⟨n,rfl,hn,j,p,h,hy,g⟩)
  ·exact⟨_,hy,j,p,rfl,g,.inl ⟨h,rfl⟩⟩
  ·exact⟨_,hy,j,p,rfl,g,.inr ⟨h,n,hn,rfl⟩⟩
theorem kH{ws L:A2}{x j g:Nat}{z:A7}:(∃y∈L++[[j,g]],Ow ws x y z)↔(∃y∈L,Ow ws x y z)\/Ow ws x [j,g] z:=by
 constructor
 ·rintro⟨y,hy,h⟩;rcases Ba.mp hy with hy|hy
  ·exact .inl ⟨y,hy,h⟩
  ·rw[AY.mp hy] at h;exact .inr h
 ·rintro (⟨y,hy,h⟩|h)
  ·exact⟨y,Bu _ hy,h⟩
  ·exact⟨_,Bc _ (AY.mpr rfl),h⟩
theorem rP{ws:A2}{x j g:Nat}{z:A7}(h:(ws.getD j [])[g]?=some x):Ow ws x [j,g] z↔(g+1<(ws.getD j []).length/\z=[j,g+1])\/(g+1=(ws.getD j []).length/\∃n,n<ws.length/\z=[n,0]):=
 ⟨λ⟨_,_,e,_,q⟩=>by cases e;exact q,λq=>⟨j,g,rfl,h,q⟩⟩
def Mv:Sp:=λvs H Q _=>∃l ws cs,vs=[.ref l,.str (txt cs)]/\H l=some (.lst (ak ws))/\E4 ws/\(∀w∈ws,w.length<=12)/\(∀c∈cs,ox c)/\∀H',FZ H H'->∀b,(b=true↔¬No (RG ws) cs)->Q (V.bl b) H'
theorem wW{d:DD}(D:Def K mg "_law_can" (top 41) ["words","text"] d)(yP:mg "range"=none)(yQ:mg "len"=none):(fk 1 d ["words","text"] Mv):=by
 exists["words","text","some","j","at","letter","later","number"]
 obtain⟨l,ws,cs,rfl,hl,hw,C0,lr,q⟩:=h;refine⟨_,(ag (aA 2 (@Hx _ _)) (ag (bG (aO yP (aI (aL FW yQ (0) aF) eK)) (ao 3) (ai (bG (aO yP (aI (aL FV yQ (aW Ga (0) (3)) (by rfl)) eK)) (ao 4) (ai (dA (cZ hr) (2) (aN (FU (3) (aI (4) aF) aF)) (cI _)))))) (ag (bG (iN (1)) (ao 5) (ag (aA 6 (@Hx _ _)) (ag (bG (@rL _ _ _ _ (2)) (dM (aD (ao 3) (aD (ao 4) (@Gr _)))) (ai (bx (ay GV (aW Jo (aW Ga (0) (3)) (4)) (5) (aE _)) (ai (bx (ay IH (aB Gk (4) (ah _)) (aL FV yQ (aW Ga (0) (3)) (by rfl)) (aE _)) (ai (dA (cZ hr) (6) (aN (FU (3) (aI (aB Gk (4) (ah _)) (by rfl)) aF)) (cI _))) (ai (bG (aO yP (aI (aL FW yQ (0) aF) eK)) (ao 7) (ai (dA (cZ hr) (6) (aN (FU (7) (aI (ah _) br) aF)) (cI _))))))) (Gb _)))) (ai (aA 2 (6)))))) (ai (aJ (dE HZ (aL nQ yQ (2) aF) (ah _) (aE _))))))),?_⟩
 walk_at "d"
 have el:=ax ws;have w8:=hw.n8;have ge:∀j,(txt (ws.getD j [])).length=(ws.getD j []).length:=λj=>by show(ws.getD j []).toArray.size=_;simp
 have z9:∀j,(ws.getD j []).length<=12:=λj=>by
  by_cases h:j<ws.length
  ·exact C0 _ (aG h)
  ·rw[Bv,Cz (by lia)];exact Bj _
 refine λa na=>?_;refine⟨_,rfl,l,_,rfl,.inl (a9.of (af na _ _ _ hl)),?_⟩;rw[el];refine⟨_,rfl,by lia,by lia,?_⟩;refine bF (lo:=0) (n:=_) (λi σ H'=>∃zs e3 e4,σ=[some (.ref l),some (.str (txt cs)),some (.ref a),e3,e4,none,none,none]/\FZ H H'/\H' a=some (.dT (n6 zs))/\zs.Nodup/\∀z,z∈zs↔∃j p,z=[j,p]/\j<i/\p<(ws.getD j []).length) ⟨[],_,_,rfl,af na _,ae,.nil,λz=>⟨λh=>(by cases h),λSI=>by obtain⟨_,_,_,h,_⟩:=SI;exact absurd h (Dg _)⟩⟩ (λi σ H1 hi z=>?_) (fun σ H1 z=>?_)
 ·obtain⟨zs,e3,e4,rfl,S1,g1,n1,m1⟩:=z;have i3:i<ws.length:=by lia
  refine⟨_,rfl,_,rfl,l,_,_,_,rfl,rfl,a9.of (S1 _ _ hl),by rw[Ct];exact aM i3,txt (ws.getD i []),rfl,aw (by have:=z9 i;have:=ge i;lia),?_⟩;rw[ge];refine⟨_,rfl,by lia,by have:=z9 i;lia,?_⟩;refine bF (lo:=0) (n:=_) (λk σ H'=>∃zs e4,σ=[some (.ref l),some (.str (txt cs)),some (.ref a),some (.int (0+(i:Int))),e4,none,none,none]/\FZ H H'/\H' a=some (.dT (n6 zs))/\zs.Nodup/\∀z,z∈zs↔∃j p,z=[j,p]/\((j<i/\p<(ws.getD j []).length)\/(j=i/\p<k))) ⟨zs,_,rfl,S1,g1,n1,λz=>(m1 z).trans ⟨λSF=>by obtain⟨j,p,e,h⟩:=SF;exact⟨j,p,e,.inl h⟩,λ⟨j,p,e,h⟩=>⟨j,p,e,h.resolve_right λh=>absurd h.2 (Dg _)⟩⟩⟩ (λk σ H2 hk z=>?_) (fun σ H2 z=>?_)
  ·obtain⟨Jq,e4,rfl,S2,g2,n2,m2⟩:=z;have D6:k<(ws.getD i []).length:=by lia
   have p2:∀z∈Jq,sF ws z:=λz hz=>by
    obtain⟨j,p,e,⟨_,h⟩|⟨rfl,h⟩⟩:=(m2 z).mp hz
    ·exact⟨j,p,e,h⟩
    ·exact⟨j,p,e,by lia⟩
   refine⟨_,rfl,_,rfl,_,rfl,aw (by show 2<=1000000;decide),λe ne=>?_⟩;obtain⟨H3,d,S3,g3,_⟩:=lA (xs:=[V.int (0+(i:Int)),V.int (0+(k:Int))]) [i,k] S2 na g2 ne (by rw[sN,Ct,Ct];rfl) (fb w8 C0 n2 p2);refine⟨a,_,rfl,d,lB Jq [i,k],_,rfl,S3,g3,fL n2,λz=>?_⟩;rw[Gz,m2];constructor
   ·rintro (⟨j,p,e,h|⟨h,h2⟩⟩|rfl)
    ·exact⟨j,p,e,.inl h⟩
    ·exact⟨j,p,e,.inr ⟨h,by lia⟩⟩
    ·exact⟨i,k,rfl,.inr ⟨rfl,Cm _⟩⟩
   ·rintro⟨j,p,rfl,h|⟨rfl,h2⟩⟩
    ·exact .inl ⟨j,p,rfl,.inl h⟩
    ·by_cases h:p=k
     ·rw[h];exact .inr rfl
     ·exact .inl ⟨j,p,rfl,.inr ⟨rfl,by lia⟩⟩
  ·obtain⟨Jq,e4,rfl,S2,g2,n2,m2⟩:=z;refine⟨Jq,_,_,rfl,S2,g2,n2,λz=>(m2 z).trans ⟨?_,?_⟩⟩
   ·rintro⟨j,p,e,⟨h,h2⟩|⟨rfl,h2⟩⟩
    ·exact⟨j,p,e,by lia,h2⟩
    ·exact⟨j,p,e,by lia,by lia⟩
   ·rintro⟨j,p,e,h,h2⟩;by_cases h3:j=i
    ·subst h3;exact⟨j,p,e,.inr ⟨rfl,by lia⟩⟩
    ·exact⟨j,p,e,.inl ⟨by lia,h2⟩⟩
 obtain⟨zs,e3,e4,rfl,S1,g1,n1,m1⟩:=z;have m1:∀z,z∈zs↔PL ws [] z:=λz=>(m1 z).trans ⟨λSE=>by obtain⟨j,p,e,_,h⟩:=SE;exact⟨j,p,e,h⟩,λ⟨j,p,e,h⟩=>⟨j,p,e,by have:=cc h;lia,h⟩⟩;refine⟨_,rfl,txt cs,rfl,sG lr,?_⟩;refine gA (cs:=cs) (λt σ H'=>∃c zs e3 e4 e5 e6 e7,σ=[some (.ref l),some (.str (txt cs)),some (.ref c),e3,e4,e5,e6,e7]/\FZ H H'/\H c=none/\H' c=some (.dT (n6 zs))/\zs.Nodup/\(∀z∈zs,sF ws z)/\∀z,z∈zs↔PL ws (cs.take t).reverse z) ⟨a,zs,_,_,_,_,_,rfl,S1,na,g1,n1,λz hz=>(m1 z).mp hz,m1⟩ (λt ht σ H1 z=>?_) (fun σ H1 z=>?_)
 rotate_left
 ·obtain⟨c,zs,e3,e4,e5,e6,e7,rfl,S1,nc,g1,n1,p1,m1⟩:=z;rw[BW] at m1;refine⟨_,rfl,c,_,rfl,.inl g1,_,_,rfl,rfl,q _ S1 _ ?_⟩;rw[decide_eq_true_iff,<- xj hw.l1 (Ep hw.n1)];constructor
  ·intro h n;have h:0<zs.length:=by rw[AU] at h;lia
   exact n _ ((m1 _).mp (BG h))
  ·intro h;obtain⟨z,hz⟩:=Classical.not_forall.mp h;have:=List.length_pos_of_mem ((m1 z).mpr (Classical.not_not.mp hz));rw[AU];lia
 obtain⟨c,zs,e3,e4,e5,e6,e7,rfl,S1,nc,g1,n1,p1,m1⟩:=z;have np:∀{p:Addr},H1 p=none->H p=none:=λ{p} h=>by
  cases e:H p with
  |none=>rfl
  |some o=>rw[S1 _ _ e] at h;cases h
 have l96:=fb w8 C0 n1 p1;refine λp Rv=>⟨_,rfl,c,n6 zs,rfl,af Rv _ _ _ g1,λo=>?_⟩
 have We:=np Rv;have Wo:p≠c:=λz=>by rw[z,g1] at Rv;cases Rv
 have Sa:FZ H (upd (upd H1 p (.dT [])) c (.j5 o (.dT (n6 zs)))):=λb u e=>by rw[aj (aC e nc)];exact af Rv _ _ _ (S1 _ _ e)
 refine nj (a:=c) (o:=o) (kvs:=n6 zs) (λk σ H'=>∃Jq e3 e4 e7,σ=[some (.ref l),some (.str (txt cs)),some (.ref c),e3,e4,some (.str (txt [cs[t]])),some (.ref p),e7]/\FZ H H'/\H' c=some (.j5 o (.dT (n6 zs)))/\H' p=some (.dT (n6 Jq))/\Jq.Nodup/\(∀z∈Jq,sF ws z)/\∀z,z∈Jq↔∃y∈zs.take k,Ow ws cs[t] y z) ⟨[],_,_,_,rfl,Sa,ae,by rw[aj Wo,ae];rfl,.nil,λz h=>(by cases h),λz=>⟨λh=>(by cases h),λSD=>by obtain⟨_,h,_⟩:=SD;exact(by cases h)⟩⟩ (λk σ H2 _ z=>?_) (λk pr b σ H2 hk hb z=>?_) (fun σ H2 z=>?_)
 ·obtain⟨_,_,_,_,_,_,h,_⟩:=z;exact h
 rotate_left
 ·obtain⟨Jq,e3,e4,e7,rfl,S2,g2,gp,n2,p2,m2⟩:=z;rw[AU,BW] at m2;refine⟨_,rfl,?_⟩;refine⟨p,Jq,_,_,_,_,_,rfl,S2,We,gp,n2,p2,λz=>(m2 z).trans ?_⟩;rw[Bw,AX ht,De];show _↔PL ws (cs[t]::(cs.take t).reverse) z;rw[<- wL];refine⟨λSy=>?_,λ⟨y,hy,h⟩=>⟨y,(m1 y).mpr hy,h⟩⟩;obtain⟨y,hy,h⟩:=Sy;exact⟨y,(m1 y).mp hy,h⟩
 obtain⟨Jq,e3,e4,e7,rfl,S2,g2,gp,n2,p2,m2⟩:=z;rw[Bo] at hk;obtain⟨y,hy,rfl⟩:=Co.mp hk;obtain⟨j,g,rfl,hg⟩:=p1 y (Bp hy);have hj:=cc hg;have et:zs.take (k+1)=zs.take k++[[j,g]]:=by rw[Bw,hy];rfl
 have C7:H2 b=some (.tup [V.int (j:Int),V.int (g:Int)]):=hb;have Zn:=S2 _ _ hl;refine⟨b,_,rfl,i5.of C7,rfl,_,_,rfl,_,_,rfl,rfl,?_⟩;refine⟨_,rfl,_,rfl,l,_,_,_,rfl,rfl,a9.of Zn,aM hj,_,rfl,txt (ws.getD j []),_,(ws.getD j [])[g],rfl,rfl,aw (by have:=z9 j;have:=ge j;lia),bK (AX hg),_,rfl,rfl,decide ((ws.getD j [])[g]=cs[t]),congrArg V.bl (rN _ _),?_⟩;cases h0:decide ((ws.getD j [])[g]=cs[t]) with
 |false=>
  refine⟨Jq,_,_,_,rfl,S2,g2,gp,n2,p2,λz=>(m2 z).trans ⟨λ⟨y,hy,h⟩=>⟨y,by rw[et];exact Bu _ hy,h⟩,λSw=>?_⟩⟩;obtain⟨y,hy,h⟩:=Sw;rw[et] at hy;rcases Ba.mp hy with hy|hy
  ·exact⟨y,hy,h⟩
  ·obtain⟨j',g',e1,e2,_⟩:=h;rw[AY.mp hy] at e1;cases e1;rw[AX hg] at e2;exact absurd (Fx e2) (of_decide_eq_false h0)
 |true=>
  have gx:(ws.getD j [])[g]?=some cs[t]:=by rw[AX hg,Fu h0]
  have WE:=z9 j;refine⟨_,rfl,_,_,rfl,rfl,?_⟩;refine⟨_,rfl,_,rfl,l,_,_,_,rfl,rfl,a9.of Zn,aM hj,txt (ws.getD j []),rfl,aw (by have:=ge j;lia),_,_,rfl,rfl,_,rfl,?_⟩;rw[ge];by_cases hh:g+1<(ws.getD j []).length
  ·rw[Fo (show((g:Nat):Int)+1<(((ws.getD j []).length:Nat):Int) by lia)];refine⟨_,rfl,_,rfl,_,rfl,_,_,rfl,rfl,aw (by show 2<=1000000;decide),λe ne=>?_⟩;obtain⟨H3,d,S3,g3,k3⟩:=lA (xs:=[V.int (j:Int),V.int ((g:Int)+1)]) [j,g+1] S2 We gp ne (by rw[sN];rfl) (fb w8 C0 n2 p2);refine⟨p,_,rfl,d,lB Jq [j,g+1],_,_,_,rfl,S3,k3 _ _ Wo.symm g2,g3,fL n2,λz hz=>?_,λz=>?_⟩
   ·rcases Gz.mp hz with h|rfl
    ·exact p2 z h
    ·exact⟨_,_,rfl,hh⟩
   ·rw[Gz,m2,et,kH,rP gx];exact or_congr Iff.rfl ⟨λh=>.inl ⟨hh,h⟩,λh=>h.elim (λh=>h.2) λh=>by lia⟩
  ·rw[Fp (show ¬((g:Nat):Int)+1<(((ws.getD j []).length:Nat):Int) by lia)];refine⟨_,rfl,l,_,rfl,.inl (a9.of Zn),?_⟩;rw[el];refine⟨_,rfl,by lia,by lia,?_⟩;refine bF (lo:=0) (n:=_) (λi σ H'=>∃O8 e7,σ=[some (.ref l),some (.str (txt cs)),some (.ref c),some (.int (j:Int)),some (.int (g:Int)),some (.str (txt [cs[t]])),some (.ref p),e7]/\FZ H H'/\H' c=some (.j5 o (.dT (n6 zs)))/\H' p=some (.dT (n6 O8))/\O8.Nodup/\(∀z∈O8,sF ws z)/\∀z,z∈O8↔z∈Jq\/∃n,n<i/\z=[n,0]) ⟨Jq,_,rfl,S2,g2,gp,n2,p2,λz=>⟨.inl,λh=>h.elim id λSv=>by obtain⟨_,h,_⟩:=Sv;exact absurd h (Dg _)⟩⟩ (λi σ H3 hi z=>?_) (fun σ H3 z=>?_)
   ·obtain⟨O8,e7,rfl,S3,g3,Zm,n3,p3,m3⟩:=z;have i3:i<ws.length:=by lia
    refine⟨_,rfl,_,rfl,aw (by show 2<=1000000;decide),λe ne=>?_⟩;obtain⟨H4,d,S4,g4,k4⟩:=lA (xs:=[V.int (0+(i:Int)),V.int 0]) [i,0] S3 We Zm ne (by rw[sN,Ct];rfl) (fb w8 C0 n3 p3);refine⟨p,_,rfl,d,lB O8 [i,0],_,rfl,S4,k4 _ _ Wo.symm g3,g4,fL n3,λz hz=>?_,λz=>?_⟩
    ·rcases Gz.mp hz with h|rfl
     ·exact p3 z h
     ·exact⟨_,_,rfl,hw.l1 _ (aG i3)⟩
    ·rw[Gz,m3];constructor
     ·rintro ((h|⟨n,h,e⟩)|h)
      ·exact .inl h
      ·exact .inr ⟨n,by lia,e⟩
      ·exact .inr ⟨i,Cm _,h⟩
     ·rintro (h|⟨n,h,e⟩)
      ·exact .inl (.inl h)
      ·by_cases hn:n=i
       ·rw[hn] at e;exact .inr e
       ·exact .inl (.inr ⟨n,by lia,e⟩)
   ·obtain⟨O8,e7,rfl,S3,g3,Zm,n3,p3,m3⟩:=z;refine⟨O8,_,_,_,rfl,S3,g3,Zm,n3,p3,λz=>(m3 z).trans ?_⟩;rw[m2,et,kH,rP gx];refine or_congr Iff.rfl ⟨λSu=>?_,λh=>h.elim (λh=>absurd h.1 hh) λ⟨_,n,h,e⟩=>⟨n,by lia,e⟩⟩;obtain⟨n,h,e⟩:=Su;exact .inr ⟨by lia,n,by lia,e⟩
open KM
theorem rp{α:Type}{ps:List α}{k:Nat}{s:α}(es:ps[k]?=some s):ps.take (k+1)=ps.take k++[s]:=by rw[Bw,es];rfl
theorem jF{ws:A2}{i:Nat}{v:V}(h:(ak ws)[i]?=some v):∃x,ws[i]?=some x/\v=.str (txt x):=by
 rw[Bo] at h;obtain⟨x,e,rfl⟩:=Co.mp h;exact⟨x,e,rfl⟩
theorem kK{T:Addr}{ts:A2}{H:Hp}{σ:L2.St}{js:A7}{Q:VK}{c:Nat}{cz:Str}(hz:cz=txt [c])(hT:H T=some (.lst (ak ts)))(hl:ts.length<=600)(hx:∀x∈ts,x.length<=10)(q:∀l,H l=none->Q (.ref l) (upd H l (.lst (ak (ts.map λx=>x++[c]))))) :
  iK (O6 K T) 1 js (sr 0) Mz (PD (λx y H Q=>∃i j:Str,x=.str i/\y=.str j/\i.length+j.length<=sizeLine/\Q (.str (i++j)) H) (Mj 0) (tC (.str cz))) σ H Q:=by
 have tl:=ax ts;have ZL:∀x:A7,txt x++cz=txt (x++[c]):=λx=>by
  rw[hz];apply dv;rw[dR];rfl
 refine cY (K:=K) (a:=T) (xs:=ak ts) (λk zs H2=>H2=H/\zs=ak ((ts.take k).map λx=>x++[c])) ⟨rfl,rfl⟩ (λk zs H2 hk z=>by rw[z.2,AU,AU,Bs];lia) (aw (by lia)) (λk zs H2 hk z=>by rw[z.1];exact a9.of hT) (λk v zs H2 hv z=>?_) (λzs H2 z P1 hP1=>?_)
 ·obtain⟨rfl,rfl⟩:=z;have hk:k<(ak ts).length:=(Be.mp hv).1;obtain⟨x,ex,rfl⟩:=jF hv;have hl:=hx x (Bp ex);refine⟨_,rfl,_,_,rfl,rfl,aw (by rw[hz];show x.length+1<=1000000;lia),Nx.mk hk ⟨rfl,?_⟩⟩;rw[rp ex,Bi,ZL];show ak _++ak [x++[c]]=_;exact cE _ _
 ·obtain⟨rfl,rfl⟩:=z;rw[tl,BW];exact q _ hP1
def NJ:Sp:=λvs H Q _=>∃u,vs=[u]/\(u=.f6\/∃x,u=.str (txt x)/\x.length<=9500000)/\∀p ys H',FZ H H'->H p=none->H' p=some (.lst (ak ys))->ys.length<=1100->(∀y∈ys,(∀c∈y,ox c)/\y.length<=9/\∀x,u=.str (txt x)->m8 y x)->Q (.ref p) H'
theorem rn{d:DD}(D:Def K mg "_law_ahead" (top 42) ["text"] d)(yP:mg "range"=none)(yQ:mg "len"=none)(yS:mg "sorted"=none):(fk 1 d ["text"] NJ):=by
 exists["text","found","some","n"]
 obtain⟨u,rfl,hu,q⟩:=h;refine⟨_,(ag (aA 1 (bj (@Ge _))) (ag (aA 2 (bj (aI (aU _) br))) (ag (bG (aO yP (aI (ah _) br)) (ao 3) (ag (aA 2 (aQ JE yS GD (aI (aB Hg (aY (aq (ts:=["one"]) (cap:=[]) (js:=[]) rfl rfl rfl rfl rfl rfl (by decide +kernel)) (aR (2)) (am 0 (nd ["one"])) (@aV _) (aB Gh (0) (aU _))) (aY (aq (ts:=["one"]) (cap:=[]) (js:=[]) rfl rfl rfl rfl rfl rfl (by decide +kernel)) (aR (2)) (am 0 (nd ["one"])) (@aV _) (aB Gh (0) (aU _)))) (by rfl)))) (ai (aA 1 (aB Hg (1) (2)))))) (ag (bx (@PW.pt _ _ _ (iM (ay Jn (0) (eM _) (aE _)) (eT (ay HZ (aL FV yQ (0) aF) (ah _) (aE _))))) (ai (aJ (1))) (Gb _)) (ai (aJ (aY (aq (ts:=["one"]) (cap:=["text"]) (js:=[0]) rfl rfl rfl rfl rfl rfl (by decide +kernel)) (aR (1)) (am 0 (nd ["one","text"])) (@cH _ _ _ (@PW.pt _ _ _ (iM (ay IH (aL FV yQ (0) aF) (aL FV yQ (1) aF) (aE _)) (eT (@PW.pt _ _ _ (cG (ay GV (aL FV yQ (0) aF) (aL FV yQ (1) aF) (aE _)) (bS (ay JT (0) (1) (aE _))))))))) (0)))))))),?_⟩
 walk_at "d"
 have L9:∀n,n<=9->2^n<=512:=λn h=>DS (n:=2) (by decide) h;refine⟨Bj _,λF0 nF0=>⟨Nat.le_of_lt_succ (Bq (by decide:1<1000000+1) (FM (aw (AS _)))),λS0 nS0=>?_⟩⟩;rw[zp];refine⟨_,rfl,by decide,by decide,?_⟩;refine bF (lo:=0) (n:=_) (λn σ H'=>∃F S fs ss e3,σ=[some u,some (.ref F),some (.ref S),e3]/\FZ H H'/\H F=none/\H' F=some (.lst (ak fs))/\H' S=some (.lst (ak ss))/\ss.length=2^n/\(∀x∈ss,(∀c∈x,ox c)/\x.length=n)/\fs.length+2=2^(n+1)/\∀y∈fs,(∀c∈y,ox c)/\y.length<=9) ⟨F0,S0,[],[[]],_,rfl,(af nF0 _).trans (af nS0 _),nF0,af nS0 _ _ _ ae,ae,rfl,λx hx=>by rw[AY.mp hx];exact⟨λc hc=>(by cases hc),rfl⟩,rfl,λy hy=>(by cases hy)⟩ (λn σ H1 hn z=>?_) (fun σ H1 z=>?_)
 ·obtain⟨F,S,fs,ss,e3,rfl,S1,nF,gF,gS,ls,ms,lf,mf⟩:=z;have Of:n<9:=hn;have p9:=L9 n (by lia);have q9:=L9 (n+1) (by lia);have e2:2^(n+1)=2^n*2:=BH ..;have e3':2^(n+1+1)=2^(n+1)*2:=BH ..;refine⟨_,rfl,S,rfl,⟨_,a9.of gS⟩,kK (c:=108) (by decide +kernel) gS (by lia) (λx hx=>by rw[(ms x hx).2];lia) λl1 n1=>?_⟩;have U1:=af n1 (.lst (ak (ss.map λx=>x++[108])));have g1:upd H1 l1 (.lst (ak (ss.map λx=>x++[108]))) l1=some (.lst (ak (ss.map λx=>x++[108]))):=ae;have Zs:=U1 _ _ gS;generalize upd H1 l1 (.lst (ak (ss.map λx=>x++[108])))=Hc at U1 g1 Zs ⊢;refine⟨_,rfl,S,rfl,⟨_,a9.of Zs⟩,kK (c:=114) (by decide +kernel) Zs (by lia) (λx hx=>by rw[(ms x hx).2];lia) λl2 n2=>?_⟩;have U2:=af n2 (.lst (ak (ss.map λx=>x++[114])));have g2:upd Hc l2 (.lst (ak (ss.map λx=>x++[114]))) l2=some (.lst (ak (ss.map λx=>x++[114]))):=ae;have g1':=U2 _ _ g1;generalize upd Hc l2 (.lst (ak (ss.map λx=>x++[114])))=Hd at U2 g2 g1' ⊢;refine⟨l1,l2,_,_,rfl,rfl,g1',g2,aw (by rw[ax,ax,AU,AU];lia),λX nX=>?_⟩;have U3:=af nX (.lst (ak (ss.map λx=>x++[108])++ak (ss.map λx=>x++[114])));have gX:upd Hd X (.lst (ak (ss.map λx=>x++[108])++ak (ss.map λx=>x++[114]))) X=some (.lst (((ss.map λx=>x++[108])++(ss.map λx=>x++[114])).map txt |>.map V.str)):=by rw[ae,Bi,Bi];show some (HO.lst (List.map _ _++List.map _ _))=some (HO.lst (List.map _ (List.map _ _)++List.map _ (List.map _ _)));simp only[Bx];rfl
  generalize upd Hd X (.lst (ak (ss.map λx=>x++[108])++ak (ss.map λx=>x++[114])))=He at U3 gX ⊢;refine⟨X,_,rfl,a9.of gX,λl3 zs pz _ n3=>?_⟩;obtain⟨ks,rfl⟩:∃ks:A2,zs=ks.map txt:=by
   refine⟨zs.map λz=>z.cps.toList,?_⟩;rw[Bx]
   conv=>lhs;rw[<- DP zs]
   exact Cc λz _=>dh z
  have lk:ks.length=2^(n+1):=by
   have:=pz.length_eq;rw[AU,AU,AV,AU,AU] at this;lia
  have mk:∀x∈ks,(∀c∈x,ox c)/\x.length=n+1:=λx hx=>by
   obtain⟨x',Js,e⟩:=AW.mp (pz.mem_iff.mp (AW.mpr ⟨x,hx,rfl⟩));rw[<- bU e];rcases Ba.mp Js with h|h
   ·obtain⟨y,hy,rfl⟩:=AW.mp h;obtain⟨h1,h2⟩:=ms y hy;exact⟨λc hc=>(Ba.mp hc).elim (h1 c) λhc=>.inl (AY.mp hc),by rw[AV,h2];rfl⟩
   ·obtain⟨y,hy,rfl⟩:=AW.mp h;obtain⟨h1,h2⟩:=ms y hy;exact⟨λc hc=>(Ba.mp hc).elim (h1 c) λhc=>.inr (AY.mp hc),by rw[AV,h2];rfl⟩
  have U4:=af n3 (.lst ((ks.map txt).map V.str));have g4:upd He l3 (.lst ((ks.map txt).map V.str)) l3=some (.lst (ak ks)):=by rw[ae,Bx];rfl
  generalize upd He l3 (.lst ((ks.map txt).map V.str))=Hf at U4 g4 ⊢;have S2:=S1.trans (U1.trans (U2.trans (U3.trans U4)));have gF2:=U4 _ _ (U3 _ _ (U2 _ _ (U1 _ _ gF)));refine⟨_,rfl,_,rfl,F,l3,_,_,rfl,rfl,gF2,g4,aw (by rw[ax,ax];lia),λF1 Uh=>?_⟩;have Wu:H F1=none:=by
   cases e:H F1 with
   |none=>rfl
   |some o=>rw[S2 _ _ e] at Uh;cases Uh
  refine⟨F1,l3,fs++ks,ks,_,rfl,S2.trans (af Uh _),Wu,by rw[ae,cE],af Uh _ _ _ g4,lk,mk,by rw[AV];lia,λy hy=>?_⟩;rcases Ba.mp hy with h|h
  ·exact mf y h
  ·exact⟨(mk y h).1,by rw[(mk y h).2];lia⟩
 obtain⟨F,S,fs,ss,e3,rfl,S1,nF,gF,gS,ls,ms,lf,mf⟩:=z;have lf:fs.length+2=1024:=lf;rcases hu with rfl|⟨x,rfl,hx⟩
 ·refine⟨_,rfl,rfl,true,by rw[Fo rfl],?_⟩;exact⟨_,rfl,q F fs H1 S1 nF gF (by lia) λy hy=>⟨(mf y hy).1,(mf y hy).2,λx e=>(by cases e)⟩⟩
 have lx:∀y:A7,(txt y).length=y.length:=λy=>by show y.toArray.size=_;simp
 have Wx:(txt x).length<=sizeLine:=by rw[lx];exact Bh hx (by decide)
 have ix:∀x',V.str (txt x)=V.str (txt x')->x'=x:=λx' e=>(bU (by injection e)).symm;refine⟨_,rfl,rfl,false,by rw[Fp (λz=>by cases z)],?_⟩;refine⟨_,rfl,txt x,rfl,Wx,_,_,rfl,rfl,_,rfl,?_⟩;rw[lx];by_cases h9:(9:Int)<(x.length:Int)
 ·rw[Fo h9];exact⟨_,rfl,q F fs H1 S1 nF gF (by lia) λy hy=>⟨(mf y hy).1,(mf y hy).2,λx' e=>by rw[ix x' e];have:=(mf y hy).2;exact .inl (by lia)⟩⟩
 rw[Fp h9];have el:=ax fs;refine⟨_,rfl,F,rfl,⟨_,a9.of gF⟩,?_⟩;refine cY (K:=K) (a:=F) (xs:=ak fs) (λi ys H'=>H'=H1/\∃zs,ys=ak zs/\zs.length<=i/\∀y∈zs,y∈fs/\m8 y x) ⟨rfl,[],rfl,Bj _,λy h=>(by cases h)⟩ (λi ys H' hi z=>by obtain⟨_,zs,rfl,h,_⟩:=z;rw[ax];lia) (aw (by lia)) (λi ys H' hi z=>by rw[z.1];exact a9.of gF) (λi v ys H' hv z=>?_) (λys H' z p2 EX=>?_)
 ·obtain⟨rfl,zs,rfl,hz,mz⟩:=z;have hi:i<(ak fs).length:=(Be.mp hv).1;obtain⟨y,hy,rfl⟩:=jF hv;have ym:=Bp hy;have ly:=(mf y ym).2;have yes:m8 y x->∃G0,ak zs++[V.str (txt y)]=ak G0/\G0.length<=i+1/\∀y∈G0,y∈fs/\m8 y x:=λb=>⟨zs++[y],by show _++ak [y]=_;rw[cE],by rw[AV];exact FM hz,λy' h=>(Ba.mp h).elim (mz y') λh=>by rw[AY.mp h];exact⟨ym,b⟩⟩
  refine⟨_,rfl,txt y,rfl,aw (by rw[lx];lia),_,rfl,txt x,rfl,Wx,_,_,rfl,rfl,_,rfl,?_⟩;have no:Nx (ak fs).length i (λi ys H'_1=>H'_1=H'/\∃zs,ys=ak zs/\zs.length<=i/\∀y∈zs,y∈fs/\m8 y x) (ak zs) H':=Nx.mk (P:=λi ys H'_1=>H'_1=H'/\∃zs,ys=ak zs/\zs.length<=i/\∀y∈zs,y∈fs/\m8 y x) hi ⟨rfl,zs,rfl,by lia,mz⟩;by_cases h1:(((txt y).length:Nat):Int)<(((txt x).length:Nat):Int)
  ·rw[Fo h1];rw[lx,lx] at h1;exact⟨_,rfl,Nx.mk hi ⟨rfl,yes (.inl (by lia))⟩⟩
  rw[Fp h1];refine⟨_,rfl,txt y,rfl,aw (by rw[lx];lia),_,rfl,txt x,rfl,Wx,rfl,_,rfl,?_⟩;by_cases h2:V.int (((txt y).length:Nat):Int)=V.int (((txt x).length:Nat):Int)
  ·rw[Fo h2];have h3:y.length=x.length:=by
    have:(((txt y).length:Nat):Int)=(((txt x).length:Nat):Int):=by injection h2
    rw[lx,lx] at this;lia
   refine⟨_,rfl,_,rfl,_,_,rfl,rfl,_,rfl,?_⟩;by_cases h4:y<x
   ·rw[Fo (show(txt y).cps.toList<(txt x).cps.toList by show y.toArray.toList<x.toArray.toList;simpa using h4)];exact⟨_,rfl,Nx.mk hi ⟨rfl,yes (.inr ⟨h3,h4⟩)⟩⟩
   ·rw[Fp (show ¬(txt y).cps.toList<(txt x).cps.toList by show ¬y.toArray.toList<x.toArray.toList;simpa using h4)];exact no
  ·rw[Fp h2];exact no
 ·obtain⟨rfl,zs,rfl,hz,mz⟩:=z;have np:H p2=none:=by
   cases e:H p2 with
   |none=>rfl
   |some o=>rw[S1 _ _ e] at EX;cases EX
  exact q p2 zs _ (S1.trans (af EX _)) np ae (by lia) λy hy=>⟨(mf y (mz y hy).1).1,(mf y (mz y hy).1).2,λx' e=>by rw[ix x' e];exact(mz y hy).2⟩
open KM
abbrev pd(k:A2):DK:=k.map pk
theorem qd{a b:A2}(h:pd a=pd b):a=b:=(DW λx y e=>sR e).mp h
def iB (z:A7):PyData:=.tuple ((pn z).map PyData.int)
theorem kN{K:W.Frag}{H:Hp}:∀ns:B3,DatAll K H (ns.map V.int) (ns.map PyData.int)
 |[]=>.nil
 |n::r=>.cons (.int n) (kN r)
theorem gZ:∀ns:B3,PyData.canLayAll0 (ns.map PyData.int)=true
 |[]=>rfl
 |n::r=>by
  show(PyData.canLay0 (.int n)&&PyData.canLayAll0 (r.map PyData.int))=true;rw[gZ r];rfl
theorem qV(z:A7):(iB z).canLay0=true:=gZ _
theorem KD:∀k:A2,PyData.canLayAll0 (k.map iB)=true
 |[]=>rfl
 |z::r=>by
  show((iB z).canLay0&&PyData.canLayAll0 (r.map iB))=true;rw[KD r,qV];rfl
theorem jK{α β:Type}{R:α->β->Prop}{l l':List α}(p:l'.Perm l):∀{m:List β},Paired R l m->∃m',m'.Perm m/\Paired R l' m':=by
 induction p with
 |nil=>intro m h;exact⟨m,.refl _,h⟩
 |cons x _ ih=>
  intro m h;cases h with
  |cons a t=>
   obtain⟨m',h1,h2⟩:=ih t;exact⟨_::m',.cons _ h1,.cons a h2⟩
 |swap x y l=>
  intro m h;cases h with
  |cons a t=>
   cases t with
   |cons b t=>exact⟨_::_::_,.swap _ _ _,.cons b (.cons a t)⟩
 |trans _ _ ih1 ih2=>
  intro m h;obtain⟨m1,h1,h2⟩:=ih2 h;obtain⟨m2,h3,h4⟩:=ih1 h2;exact⟨m2,h3.trans h1,h4⟩
structure Cl(ws k:A2):Prop where
 so:k.Pairwise λa b=>¬pn b<pn a
 nd:k.Nodup
 ps:∀z∈k,sF ws z
theorem nG(ws:A2):T5 (Cl ws):=λa b ha hb h=>by
 have p:a.Perm b:=(Ff ha.nd hb.nd).mpr λz=>h z;refine List.Perm.eq_of_pairwise (le:=λa b=>¬pn b<pn a) (λx y _ _ h1 h2=>vW ?_) ha.so hb.so p;exact Ed h1 h2
def vm (ws:A2)(j:Nat):A2:=(List.range (ws.getD j []).length).map λp=>[j,p]
def bg (ws:A2)(n:Nat):A2:=(List.range n).flatMap (vm ws)
theorem kn(ws:A2)(n:Nat):bg ws (n+1)=bg ws n++vm ws n:=by
 unfold bg;rw[CT,ER];simp
theorem Ib{ws:A2}{j:Nat}{z:A7}:z∈vm ws j↔∃p,p<(ws.getD j []).length/\z=[j,p]:=
 ⟨λh=>by obtain⟨p,hp,rfl⟩:=AW.mp h;exact⟨p,Bt.mp hp,rfl⟩,λSs=>by obtain⟨p,hp,e⟩:=Ss;exact AW.mpr ⟨p,Bt.mpr hp,e.symm⟩⟩
theorem Kx{ws:A2}{n:Nat}{z:A7}:z∈bg ws n↔∃j p,j<n/\p<(ws.getD j []).length/\z=[j,p]:=
 ⟨λh=>by obtain⟨j,hj,hz⟩:=BC.mp h;obtain⟨p,hp,e⟩:=Ib.mp hz;exact⟨j,p,Bt.mp hj,hp,e⟩,λSr=>by obtain⟨j,p,hj,hp,e⟩:=Sr;exact BC.mpr ⟨j,Bt.mpr hj,Ib.mpr ⟨p,hp,e⟩⟩⟩
theorem wJ{a b c d:Nat}(h:a<c\/(a=c/\b<=d)):¬pn [c,d]<pn [a,b]:=by
 show ¬[((c:Nat):Int),((d:Nat):Int)]<[((a:Nat):Int),((b:Nat):Int)];rw[Df,Df];rintro (z|⟨z,y|⟨_,y⟩⟩)
 ·lia
 ·lia
 ·cases y
theorem rY(ws:A2):∀n,(bg ws n).Pairwise (λa b=>¬pn b<pn a)/\(bg ws n).Nodup
 |0=>⟨.nil,.nil⟩
 |n+1=>by
  obtain⟨h1,h2⟩:=rY ws n;rw[kn];have sep:∀a∈bg ws n,∀b∈vm ws n,∃j p q,a=[j,p]/\b=[n,q]/\j<n:=λa ha b hb=>by
   obtain⟨j,p,hj,_,rfl⟩:=Kx.mp ha;obtain⟨q,_,rfl⟩:=Ib.mp hb;exact⟨j,p,q,rfl,rfl,hj⟩
  constructor
  ·refine BO.mpr ⟨h1,?_,λa ha b hb=>?_⟩
   ·refine CU.mpr (List.Pairwise.imp (λ{a b} h=>wJ (.inr ⟨rfl,BS h⟩)) List.pairwise_lt_range)
   ·obtain⟨j,p,q,rfl,rfl,h⟩:=sep a ha b hb;exact wJ (.inl h)
  ·refine CO.mpr ⟨h2,?_,λa ha b hb e=>?_⟩
   ·exact CU.mpr (List.Pairwise.imp (λ{a b} h e=>by injection e with _ e;injection e with e _;lia) List.pairwise_lt_range)
   ·obtain⟨j,p,q,rfl,rfl,h⟩:=sep a ha b hb;injection e with e _;lia
theorem wj(ws:A2):(bg ws ws.length).length=(ws.map List.length).sum:=by
 have go:∀n,n<=ws.length->(bg ws n).length=((ws.take n).map List.length).sum:=λn=>by
  induction n with
  |zero=>intro _;rfl
  |succ n ih=>
   intro h;rw[kn,AV,ih (by lia),Bw,AX (show n<ws.length by lia),Bi,List.sum_append_nat];unfold vm;rw[AU,BX,Bv,AX (show n<ws.length by lia)];simp
 rw[go _ (AS _),BW]
theorem Jp{ws:A2}{z:A7}:z∈bg ws ws.length↔sF ws z:=
 Kx.trans ⟨λSo=>by obtain⟨j,p,_,h,e⟩:=So;exact⟨j,p,e,h⟩,λ⟨j,p,e,h⟩=>⟨j,p,cc h,h,e⟩⟩
theorem yi(ws:A2):Cl ws (bg ws ws.length):=⟨(rY ws _).1,(rY ws _).2,λ_ h=>Jp.mp h⟩
theorem lM{ws zs:A2}(h:(ws.map List.length).sum<=30)(nd:zs.Nodup)(ps:∀z∈zs,sF ws z):zs.length<=30:=by
 have:=HI (bg ws ws.length) nd λz hz=>Jp.mpr (ps z hz);rw[wj] at this;lia
structure Kl(ws:A2)(T:Sn)(i:Nat×Bool):Prop where
 bf:B7 (PL ws) (Cl ws) T i.1 i.2
 ln:∀e∈T,e.2.length+1<=T.length
 ne:∀e∈T,e.1≠[]
theorem Kl.no{ws:A2}{T:Sn}{i:Nat×Bool}(h:Kl ws T i):[]∉T.map (·.1):=λz=>by
 obtain⟨e,he,e1⟩:=AW.mp z;exact h.ne e he e1
theorem uQ{ws:A2}{e:A2×A7}{k:A2}{c:Nat}(hk:Ky (PL ws) e.1 e.2)(s:∀z,z∈k↔∃y∈e.1,Ow ws c y z):Ky (PL ws) k (e.2++[c]):=λz=>by
 rw[De];show z∈k↔PL ws (c::e.2.reverse) z;rw[<- wL,s z];refine⟨λSl=>?_,λ⟨y,hy,h⟩=>⟨y,(hk y).mpr hy,h⟩⟩;obtain⟨y,hy,h⟩:=Sl;exact⟨y,(hk y).mp hy,h⟩
section
variable {ws:A2}{T:Sn}{i:Nat}{b:Bool}{e:A2×A7}{k:A2}
theorem Kl.put(h:Kl ws T (i,b))(he:T[i]?=some e)(ck:Cl ws k)(s:∀z,z∈k↔∃y∈e.1,Ow ws (nl b) y z)(nn:k≠[])(nk:∀f∈T,f.1≠k):Kl ws (T++[(k,e.2++[nl b])]) (KM.nxt i b):=by
 have em:=Bp he;refine⟨h.bf.new (pG ws) (nG ws) he ck (uQ (h.bf.ok e em).2.1 s) λz=>?_,λf hf=>?_,λf hf=>?_⟩
 ·obtain⟨f,hf,e1⟩:=AW.mp z;exact nk f hf e1
 ·rw[AV];show _<=T.length+1;rcases Ba.mp hf with hf|hf
  ·have:=h.ln f hf;lia
  ·rw[AY.mp hf,AV];have:=h.ln e em;show e.2.length+1+1<=_;lia
 ·rcases Ba.mp hf with hf|hf
  ·exact h.ne f hf
  ·rw[AY.mp hf];exact nn
theorem Kl.has(h:Kl ws T (i,b))(he:T[i]?=some e){f:A2×A7}(hf:f∈T)(s:∀z,z∈f.1↔∃y∈e.1,Ow ws (nl b) y z):Kl ws T (KM.nxt i b):=
 ⟨h.bf.old he hf (uQ (h.bf.ok e (Bp he)).2.1 s),h.ln,h.ne⟩
theorem Kl.hit(h:Kl ws T (i,b))(he:T[i]?=some e)(s:∀z,¬∃y∈e.1,Ow ws (nl b) y z):OG (No (PL ws)) (e.2++[nl b]):=
 h.bf.hit (pG ws) h.no he (uQ (h.bf.ok e (Bp he)).2.1 λz=>⟨λq=>absurd q BE,λq=>absurd q (s z)⟩)
end
def IF (H:Hp)(v:V)(z:A7):Prop:=∃r,v=.ref r/\H r=some (.tup ((pn z).map V.int))
def M5 (wl:Addr)(H:Hp)(v:V)(e:A2×A7):Prop:=∃b c vs,v=.ref b/\c≠wl/\H b=some (.tup [.ref c,.str (txt e.2)])/\H c=some (.lst vs)/\Paired (IF H) vs e.1
abbrev G6(T:Sn):List (DK×V):=T.map λe=>(pd e.1,V.bl true)
theorem IF.same{H H':Hp}(S:FZ H H'){v:V}{z:A7}(h:IF H v z):IF H' v z:=let ⟨r,e,g⟩:=h;⟨r,e,S _ _ g⟩
theorem bL{H H':Hp}(S:FZ H H'){vs:A9}{zs:A2}(h:Paired (IF H) vs zs):Paired (IF H') vs zs:=Paired.Hw h λ_ _=>IF.same S
def Fw (wl:Addr)(H H':Hp):Prop:=(∀b ys,H b=some (.tup ys)->H' b=some (.tup ys))/\∀c vs,c≠wl->H c=some (.lst vs)->H' c=some (.lst vs)
theorem Fw.of{wl:Addr}{H H':Hp}(S:FZ H H'):Fw wl H H':=⟨λ_ _ e=>S _ _ e,λ_ _ _ e=>S _ _ e⟩
theorem Fw.trans{wl:Addr}{H H' l0:Hp}(a:Fw wl H H')(b:Fw wl H' l0):Fw wl H l0:=⟨λx y e=>b.1 _ _ (a.1 x y e),λx y n e=>b.2 _ _ n (a.2 x y n e)⟩
theorem Fw.lst{wl:Addr}{H:Hp}{us r6:A9}(h:H wl=some (.lst us)):Fw wl H (upd H wl (.lst r6)):=⟨λb ys e=>by rw[aj (bB e h (λz=>nomatch z))];exact e,λc vs n e=>by rw[aj n];exact e⟩
theorem Fw.dic{P:Program}{w:World}{wl sd:Addr}{H:Hp}{kvs:List (DK×V)}{u:HO}(d:DU P w H sd kvs):Fw wl H (upd H sd u):=⟨λb ys e=>by rw[aj (λz=>(d.nt ys).1 (by rw[<- z];exact e))];exact e,λc vs n e=>by rw[aj (λz=>(d.nt vs).2 (by rw[<- z];exact e))];exact e⟩
theorem kF{wl:Addr}{H H':Hp}(S:Fw wl H H'){vs:A9}{zs:A2}(h:Paired (IF H) vs zs):Paired (IF H') vs zs:=Paired.Hw h λ_ _ Sk=>by obtain⟨r,e,g⟩:=Sk;exact⟨r,e,S.1 _ _ g⟩
theorem M5.fw{wl:Addr}{H H':Hp}(S:Fw wl H H'){v:V}{e:A2×A7}(h:M5 wl H v e):M5 wl H' v e:=let ⟨b,c,vs,h1,h0,h2,h3,h4⟩:=h;⟨b,c,vs,h1,h0,S.1 _ _ h2,S.2 _ _ h0 h3,kF S h4⟩
theorem gh{wl:Addr}{H H':Hp}(S:Fw wl H H'){vs:A9}{T:Sn}(h:Paired (M5 wl H) vs T):Paired (M5 wl H') vs T:=Paired.Hw h λ_ _=>M5.fw S
theorem sX{H:Hp}:∀{vs:A9}{zs:A2},Paired (IF H) vs zs->DatAll K H vs (zs.map iB)
 |[],[],.nil=>.nil
 |v::vs,z::zs,.cons ⟨r,e,h⟩ t=>by rw[e];exact .cons (.tup (i5.of h) (kN _)) (sX t)
def wD (e:A2×A7):PyData:=.tuple [.list (e.1.map iB),.str (txt e.2)]
theorem tm{wl:Addr}{H:Hp}:∀{vs:A9}{T:Sn},Paired (M5 wl H) vs T->DatAll K H vs (T.map wD)
 |[],[],.nil=>.nil
 |v::vs,e::T,.cons ⟨b,c,us,h1,_,h2,h3,h4⟩ t=>by rw[h1];exact .cons (.tup (i5.of h2) (.cons (.lst (a9.of h3) (sX h4)) (.cons (.str _) .nil))) (tm t)
theorem LL:∀{T:Sn},(∀e∈T,∀c∈e.2,ox c)->PyData.canLayAll0 (T.map wD)=true
 |[],_=>rfl
 |e::r,h=>by
  have h1:(PyData.str (txt e.2)).canLay0=true:=wo λc hc=>by
   rcases h e AZ c hc with h|h<;>rw[h]<;>decide
  have h2:PyData.canLayAll0 (e.1.map iB)=true:=KD _;have h3:(PyData.list (e.1.map iB)).canLay0=true:=h2;have h4:(wD e).canLay0=true:=by
   show PyData.canLayAll0 [.list _,.str _]=true;simp only[PyData.canLayAll0,h1,h3];rfl
  show PyData.canLayAll0 (wD e::r.map wD)=true;simp only[PyData.canLayAll0,h4,LL λd hd=>h d (Bg _ hd)];rfl
theorem IC:∀ns:B3,PyData.depthAll (ns.map PyData.int)=0
 |[]=>rfl
 |n::r=>by
  show max 0 (PyData.depthAll (r.map PyData.int))=0;rw[IC r];rfl
theorem Jx:∀k:A2,PyData.depthAll (k.map iB)<=1
 |[]=>Bj _
 |z::r=>by
  show max (iB z).depth (PyData.depthAll (r.map iB))<=1;refine Nat.max_le.mpr ⟨?_,Jx r⟩;have e:(iB z).depth=PyData.depthAll ((pn z).map PyData.int)+1:=by unfold iB;simp[PyData.depth]
  rw[e,IC];exact AS _
theorem Kk:∀T:Sn,PyData.depthAll (T.map wD)<=3
 |[]=>Bj _
 |e::r=>by
  show max (wD e).depth (PyData.depthAll (r.map wD))<=3;refine Nat.max_le.mpr ⟨?_,Kk r⟩;have e1:(wD e).depth=PyData.depthAll [.list (e.1.map iB),.str (txt e.2)]+1:=by unfold wD;simp[PyData.depth]
  have e2:(PyData.list (e.1.map iB)).depth=PyData.depthAll (e.1.map iB)+1:=by simp[PyData.depth]
  have e3:PyData.depthAll [.list (e.1.map iB),.str (txt e.2)]=max (PyData.list (e.1.map iB)).depth (max 0 0):=rfl;have:=Jx e.1;rw[e1,e3,e2];lia
theorem wO(T:Sn):PyData.eqv (.list (T.map wD)) (.list [])=T.isEmpty:=by
 cases T<;>rfl
theorem wq{H:Hp}{wl wl2 e0:Addr}{us:A9}{T:Sn}(hT:∀e∈T,∀c∈e.2,ox c)(h:H wl=some (.lst us))(p:Paired (M5 wl2 H) us T)(h0:H e0=some (.lst [])){Q:VK}(q:Q (.bl (!T.isEmpty)) H):MM K true (.ref wl) (.ref e0) H Q:=by
 have e:(PyData.list (T.map wD)).depth=PyData.depthAll (T.map wD)+1:=by simp[PyData.depth]
 have:=Kk T;refine⟨.list (T.map wD),.list [],.lst (a9.of h) (tm p),.lst (a9.of h0) .nil,LL hT,rfl,by lia,?_⟩;rw[wO];exact q
theorem ny{H:Hp}:∀{vs:A9}{zs:A2},Paired (IF H) vs zs->∃rs:B2,vs=rs.map V.ref/\Paired (λr (k:List Key)=>H r=some (.tup (k.map kV))) rs (pd zs)
 |[],[],.nil=>⟨[],rfl,.nil⟩
 |v::vs,z::zs,.cons ⟨r,e,h⟩ t=>by
  obtain⟨rs,e2,p⟩:=ny t;exact⟨r::rs,by rw[e,e2];rfl,.cons (by rw[sN];exact h) p⟩
theorem gH{H:Hp}{vs:A9}{zs:A2}{b:Addr}(p:Paired (IF H) vs zs)(h:H b=some (.tup vs)):Kh H b (pd zs):=by
 obtain⟨rs,e,q⟩:=ny p;exact⟨rs,by rw[h,e],q⟩
structure Wq(P:Program)(w:World)(ws:A2)(H:Hp)(wl sd:Addr)(us:A9)(T:Sn)(i:Nat)(H':Hp):Prop where
 sm:FZ H H'
 nw:H wl=none
 ns:H sd=none
 gw:H' wl=some (.lst us)
 du:DU P w H' sd (G6 T)
 wt:Paired (M5 wl H') us (T.drop i)
 kl:Kl ws T (i,false)
 il:i<=T.length
 few:T.length<=902
theorem Wq.isl{ws:A2}{H:Hp}{wl sd:Addr}{us:A9}{T:Sn}{i:Nat}{H':Hp}(h:Wq P w ws H wl sd us T i H'):∀e∈T.drop i,∀c∈e.2,ox c:=λe he=>(h.kl.bf.ok e (Cr he)).2.2
theorem Wq.same{P:Program}{w:World}{ws:A2}{H:Hp}{wl sd:Addr}{us:A9}{T:Sn}{i:Nat}{H' l0:Hp}(h:Wq P w ws H wl sd us T i H')(S:FZ H' l0):Wq P w ws H wl sd us T i l0:=
 ⟨h.sm.trans S,h.nw,h.ns,S _ _ h.gw,h.du.same S,gh (Fw.of S) h.wt,h.kl,h.il,h.few⟩
structure Wr(P:Program)(w:World)(ws:A2)(H:Hp)(wl sd c:Addr)(e:A2×A7)(us:A9)(T:Sn)(i:Nat)(p:Nat×Bool)(n:Nat)(H':Hp):Prop where
 sm:FZ H H'
 nw:H wl=none
 ns:H sd=none
 gw:H' wl=some (.lst us)
 du:DU P w H' sd (G6 T)
 wt:Paired (M5 wl H') us (T.drop (i+1))
 kl:Kl ws T p
 he:T[i]?=some e
 nc:c≠wl
 gc:∃vs,H' c=some (.lst vs)/\Paired (IF H') vs e.1
 few:T.length<=n
theorem Wr.same{P:Program}{w:World}{ws:A2}{H:Hp}{wl sd c:Addr}{e:A2×A7}{us:A9}{T:Sn}{i:Nat}{p:Nat×Bool}{n:Nat}{H' l0:Hp}(h:Wr P w ws H wl sd c e us T i p n H')(S:FZ H' l0):Wr P w ws H wl sd c e us T i p n l0:=
 ⟨h.sm.trans S,h.nw,h.ns,S _ _ h.gw,h.du.same S,gh (Fw.of S) h.wt,h.kl,h.he,h.nc,let ⟨vs,g,q⟩:=h.gc;⟨vs,S _ _ g,bL S q⟩,h.few⟩
theorem vR{T:Sn}{k:A2}(h:(cg (G6 T) (pd k)).isSome=false):∀f∈T,f.1≠k:=by
 induction T with
 |nil=>intro f hf;cases hf
 |cons g r ih=>
  by_cases c:g.1=k
  ·rw[show cg (G6 (g::r)) (pd k)=some (V.bl true) from bX (show pd g.1=pd k by rw[c])] at h;cases h
  ·rw[show cg (G6 (g::r)) (pd k)=cg (G6 r) (pd k) from bD (λz=>c (qd z))] at h;intro f hf;rcases Bb.mp hf with rfl|hf
   ·exact c
   ·exact ih h f hf
theorem ve{T:Sn}{k:A2}(h:(cg (G6 T) (pd k)).isSome=true):∃f∈T,f.1=k:=by
 induction T with
 |nil=>cases h
 |cons g r ih=>
  by_cases c:g.1=k
  ·exact⟨g,AZ,c⟩
  ·rw[show cg (G6 (g::r)) (pd k)=cg (G6 r) (pd k) from bD (λz=>c (qd z))] at h;obtain⟨f,hf,e⟩:=ih h;exact⟨f,Bg _ hf,e⟩
theorem tZ{T:Sn}{k:A2}{x:A7}(h:∀f∈T,f.1≠k):cU (G6 T) (pd k) (.bl true)=G6 (T++[(k,x)]):=by
 have e:((G6 T).any λkv=>decide (kv.1=pd k))=false:=by
  show((T.map _).any _)=_;rw[List.any_map,Er];intro f hf z;exact h f hf (qd (Fu (p:=pd f.1=pd k) z))
 unfold cU;rw[e];show T.map _++[_]=(T++[_]).map _;rw[Bi];rfl
theorem fu{α β:Type}{R:α->β->Prop}:∀{xs:List α}{ys:List β}{y:β},Paired R xs ys->y∈ys->∃x,x∈xs/\R x y
 |_,_,_,.cons r t,h=>by
  rcases Bb.mp h with rfl|h
  ·exact⟨_,AZ,r⟩
  ·obtain⟨x,hx,q⟩:=fu t h;exact⟨x,Bg _ hx,q⟩
def ju (zs ns:A2):A2:=ns.foldl lB zs
theorem Io:∀{ns zs:A2},zs.Nodup->(ju zs ns).Nodup
 |[],_,h=>h
 |n::r,_,h=>Io (ns:=r) (fL h)
theorem Hj:∀{ns zs:A2}{x:A7},x∈ju zs ns↔x∈zs\/x∈ns
 |[],_,_=>⟨.inl,λh=>h.elim id λh=>absurd h BE⟩
 |n::r,zs,x=>by
  show x∈ju (lB zs n) r↔_;rw[Hj,Gz,Bb,or_assoc]
theorem Il:∀(ns zs:A2),iZ (n6 zs) (ns.map λz=>(pk z,V.bl true))=n6 (ju zs ns)
 |[],_=>rfl
 |n::r,zs=>by
  show iZ (cU (n6 zs) (pk n) (.bl true)) (r.map λz=>(pk z,V.bl true))=_;rw[tD,Il];rfl
theorem kc{H:Hp}{ks k7:B2}{zs:A2}(p:Paired (λb (k:List Key)=>H b=some (.tup (k.map kV))) ks ((n6 zs).map (·.1)))(perm:k7.Perm ks)(pw:k7.Pairwise (λa b=>∀ns ms:B3,i5 K H a (ns.map V.int)->i5 K H b (ms.map V.int)->¬ms<ns)):∃G0:A2,G0.Perm zs/\Paired (IF H) (k7.map V.ref) G0/\G0.Pairwise λa b=>¬pn b<pn a:=by
 have e:(n6 zs).map (·.1)=zs.map pk:=by rw[Bx];rfl
 rw[e] at p;have p2:Paired (λb z=>H b=some (.tup ((pn z).map V.int))) ks zs:=by
  clear perm pw e;induction zs generalizing ks with
  |nil=>cases p;exact .nil
  |cons z r ih=>
   cases p with
   |cons h t=>exact .cons (by rw[<- sN];exact h) (ih t)
 obtain⟨G0,h1,h2⟩:=jK perm p2;clear p p2 perm e;refine⟨G0,h1,?_,?_⟩
 ·clear pw h1;induction h2 with
  |nil=>exact .nil
  |cons h _ ih=>exact .cons ⟨_,rfl,h⟩ ih
 ·clear h1;induction h2 with
  |nil=>exact .nil
  |@cons b z bs ys h t ih=>
   obtain⟨q1,q2⟩:=DI.mp pw;refine DI.mpr ⟨λy hy=>?_,ih q2⟩;obtain⟨c,hc,gc⟩:=fu t hy;exact q1 c hc (pn z) (pn y) (i5.of h) (i5.of gc)
def Kg:Sp:=λvs H Q _=>∃l ws,vs=[.ref l,.int 900]/\H l=some (.lst (ak ws))/\E4 ws/\(∀w∈ws,w.length<=12)/\(ws.map List.length).sum<=30/\∀u H',FZ H H'->(u=.str (txt [45])\/(∃x,u=.str (txt x)/\OG (No (PL ws)) x)\/(u=.f6/\∀y,(∀c∈y,ox c)->¬No (PL ws) y))->Q u H'
theorem rX{d:DD}(D:Def K mg "_law_first" (top 43) ["words","most"] d)(yP:mg "range"=none)(yQ:mg "len"=none)(yT:mg "tuple"=none)(yS:mg "sorted"=none):(fk 1 d ["words","most"] Kg):=by
 exists["words","most","begin","j","waiting","seen","some","text","letter","later","at"]
 obtain⟨l,ws,rfl,hl,hw,C0,D7,q⟩:=h;refine⟨_,(ag (aA 2 (bj (@Ge _))) (ag (bG (aO yP (aI (aL FW yQ (0) aF) eK)) (a6 3) (ai (aA 2 (aB Hg (2) (aY (aq (ts:=["at"]) (cap:=["j"]) (js:=[3]) rfl rfl rfl rfl rfl rfl (by decide +kernel)) (aO yP (aI (aL FV yQ (aW Ga (0) (3)) (by rfl)) eK)) (am 0 (nd ["at","j"])) (@aV _) (aN (FU (1) (aI (0) aF) aF))))))) (ag (aA 4 (bj (aI (aN (FU (2) (aI (aU _) br) aF)) (by rfl)))) (ag (aA 5 (@mm _ _ _ _ _ _ P w rfl rfl (tE hr) (ba Gi yT GH (aI (2) aF)) (cI _))) (ag (cR (@PW.pt _ _ _ (cG (ay (fN hr.units) (4) (bj (@Ge _)) (aE _)) (bS (ay IH (aL (show bV _ _ (Md P w) from qe) yQ (5) aF) (1) (aE _))))) (ag (eR (jd Fy PySem.F.slot_list_pop PySem.F.type_list_pop Jh (4) (aI (ah _) br)) (dM (aD (ao 6) (aD (ao 7) (@Gr _))))) (ai (bG (iN (aU _)) (ao 8) (ag (aA 9 (@Hx _ _)) (ag (bG (aR (6)) (dM (aD (a6 3) (aD (ao 10) (@Gr _)))) (ai (bx (@PW.pt _ _ _ (cG (ay GV (aW Jo (aW Ga (0) (3)) (10)) (8) (aE _)) (bS (ay IH (aB Gk (10) (ah _)) (aL FV yQ (aW Ga (0) (3)) (by rfl)) (aE _))))) (ai (dA (cZ hr) (9) (aN (FU (3) (aI (aB Gk (10) (ah _)) (by rfl)) aF)) (cI _))) (ai (bx (ay GV (aW Jo (aW Ga (0) (3)) (10)) (8) (aE _)) (ai (bT (jd PySem.F.plainAttrs_dict PySem.F.slot_dict_update PySem.F.type_dict_update (lQ hr.units hc) (9) (aI (aY (aq (ts:=["number"]) (cap:=[]) (js:=[]) rfl rfl rfl rfl rfl rfl (by decide +kernel)) (aO yP (aI (aL FW yQ (0) aF) eK)) (am 0 (nd ["number"])) (@aV _) (aN (FU (aN (FU (0) (aI (ah _) br) aF)) (aI (cI _) br) (by rfl)))) (by rfl))))) (Gb _)))))) (ag (bx (ay (xc hr.units) (9) (@Hx _ _) (aE _)) (ai (aJ (aB Gh (7) (8)))) (Gb _)) (ai (bx (ay (show k9 _ _ (IL P w) from nM hr.units) (ba Gi yT GH (aI (aQ (dq (L:=2) (by decide) hc) yS GD (aI (9) aF)) eK)) (5) rfl) (ag (rV P w (tE hr) (5) (ba Gi yT GH (aI (aQ (dq (L:=2) (by decide) hc) yS GD (aI (9) aF)) eK)) (cI _)) (ai (bT (kD (4) (aN (FU (aQ (dq (L:=2) (by decide) hc) yS GD (aI (9) aF)) (aI (aB Gh (7) (8)) (by rfl)) eK)) (by rfl))))) (Gb _)))))))))) (ai (aJ (fo (ay (fN hr.units) (4) (bj (@Ge _)) (aE _)) (aU _) (eM _))))))))),?_⟩
 walk_at "d"
 have el:=ax ws;have w8:=hw.n8;have ge:∀j,(txt (ws.getD j [])).length=(ws.getD j []).length:=λj=>by show(ws.getD j []).toArray.size=_;simp
 have z9:∀j,(ws.getD j []).length<=12:=λj=>by
  by_cases h:j<ws.length
  ·exact C0 _ (aG h)
  ·rw[Bv,Cz (by lia)];exact Bj _
 refine⟨Bj _,λb0 nb0=>⟨_,rfl,l,_,rfl,.inl (a9.of (af nb0 _ _ _ hl)),?_⟩⟩;rw[el];refine⟨_,rfl,by lia,by lia,?_⟩;refine bF (lo:=0) (n:=_) (λi σ H'=>∃b ys e3,σ=[some (.ref l),some (.int 900),some (.ref b),e3,none,none,none,none,none,none,none]/\FZ H H'/\H' b=some (.lst ys)/\Paired (IF H') ys (bg ws i)) ⟨b0,[],_,rfl,af nb0 _,ae,.nil⟩ (λi σ H1 hi z=>?_) (fun σ H1 z=>?_)
 ·obtain⟨b,ys,e3,rfl,S1,g1,p1⟩:=z;have i3:i<ws.length:=by lia
  refine⟨_,rfl,_,rfl,_,rfl,l,_,_,_,rfl,rfl,a9.of (S1 _ _ hl),by rw[Ct];exact aM i3,txt (ws.getD i []),rfl,aw (by have:=z9 i;have:=ge i;lia),?_⟩;rw[ge];refine⟨_,rfl,by lia,by have:=z9 i;lia,?_⟩;refine sD (lo:=0) (n:=_) (λk us H'=>FZ H1 H'/\Paired (IF H') us ((List.range k).map λp=>[i,p])) ⟨FZ.refl _,.nil⟩ (λk us H' hk z=>by rw[Paired.length z.2,AU,BX];exact AS _) (aw (by have:=z9 i;lia)) (λk us H' hk z=>?_) (λus H' z S nS=>?_)
  ·obtain⟨y1,y2⟩:=z;refine⟨_,rfl,_,rfl,aw (by show 2<=1000000;decide),λa1 n1=>Nx.mk hk ⟨y1.trans (af n1 _),?_⟩⟩;rw[CT,Bi];refine bA (bL (af n1 _) y2) (.cons ⟨a1,rfl,?_⟩ .nil);rw[ae,Ct,Ct];rfl
  ·obtain⟨y1,y2⟩:=z;have S3:=af nS (.lst us);have lb:(bg ws i).length<=30:=by
    refine lM D7 (rY ws i).2 λz hz=>?_;obtain⟨j,p,_,h,e⟩:=Kx.mp hz;exact⟨j,p,e,h⟩
   have l1:=Paired.length p1;have l2:=Paired.length y2;rw[AU,BX] at l2;refine⟨b,S,_,_,rfl,rfl,S3 _ _ (y1 _ _ g1),ae,aw (by have:=z9 i;lia),λX nX=>?_⟩;have S4:=af nX (.lst (ys++us));refine⟨X,_,_,rfl,S1.trans (y1.trans (S3.trans S4)),ae,?_⟩;rw[kn];refine bA (bL (y1.trans (S3.trans S4)) p1) (bL (S3.trans S4) ?_);rw[BK] at y2;exact y2
 obtain⟨b,ys,e3,rfl,S1,g1,p1⟩:=z;rw[BK] at p1;refine⟨_,rfl,aw (by show 2<=1000000;decide),λa1 n1=>⟨aw (by show 1<=1000000;decide),λwl nw=>?_⟩⟩;rw[zp] at nw ⊢;have S2:=(af n1 (.tup [.ref b,.str (txt [])])).trans (af nw (.lst [.ref a1]));have g2:upd (upd H1 a1 (.tup [.ref b,.str (txt [])])) wl (.lst [.ref a1]) wl=some (.lst [.ref a1]):=ae;have g3:upd (upd H1 a1 (.tup [.ref b,.str (txt [])])) wl (.lst [.ref a1]) a1=some (.tup [.ref b,.str (txt [])]):=af nw _ _ _ ae;have nbw:b≠wl:=λz=>by rw[<- z,af n1 _ _ _ g1] at nw;cases nw
 have nwH:H wl=none:=by
  cases e:H wl with
  |none=>rfl
  |some o=>rw[af n1 _ _ _ (S1 _ _ e)] at nw;cases nw
 generalize upd (upd H1 a1 (.tup [.ref b,.str (txt [])])) wl (.lst [.ref a1])=H2 at S2 g2 g3 ⊢;refine λsd u1 QL du1=>⟨_,rfl,b,_,rfl,.inl ⟨a9.of (af QL _ _ _ (S2 _ _ g1)),λt1 Rr=>?_⟩⟩
 have S3:=af Rr (.tup ys);have Ww:=af QL u1;refine⟨pd (bg ws ws.length),t1,du1.same S3,rfl,gH (bL (S2.trans (Ww.trans S3)) p1) ae,λu du=>?_⟩;have S4:FZ H2 (upd (upd (upd H2 sd u1) t1 (.tup ys)) sd u):=λx o e=>by
  have ne:x≠sd:=λz=>by rw[z,QL] at e;cases e
  rw[aj ne];exact S3 _ _ (Ww _ _ e)
 have nsH:H sd=none:=by
  cases e:H sd with
  |none=>rfl
  |some o=>rw[S2 _ _ (S1 _ _ e)] at QL;cases QL
 have k0:Kl ws [(bg ws ws.length,[])] (0,false):=⟨B7.start (yi ws) λz=>Jp,λe he=>by rw[AY.mp he]; exact AS _,λe he=>by
  rw[AY.mp he];intro z;have w0:0<(ws.getD 0 []).length:=hw.l1 _ (aG hw.n1);have:=Jp.mpr ⟨0,0,rfl,w0⟩;rw[show bg ws ws.length=[] from z] at this
  cases this⟩
 have q0:Wq P w ws H wl sd [.ref a1] [(bg ws ws.length,[])] 0 (upd (upd (upd H2 sd u1) t1 (.tup ys)) sd u):=⟨S1.trans (S2.trans S4),nwH,nsH,S4 _ _ g2,du,.cons ⟨a1,b,ys,rfl,nbw,S4 _ _ g3,S4 _ _ (S2 _ _ g1),bL (S2.trans S4) p1⟩ .nil,k0,Bj _,by show 1<=902;decide⟩
 generalize upd (upd (upd H2 sd u1) t1 (.tup ys)) sd u=H3 at q0 ⊢;clear k0 S4 S3 Ww du du1 QL Rr g3 g2 S2 nw n1 p1 g1 S1;refine⟨λm σ H'=>∃wl sd us,∃T:Sn,∃i e3 e6 e7 e8 e9 E3,σ=[some (.ref l),some (.int 900),some (.ref b),e3,some (.ref wl),some (.ref sd),e6,e7,e8,e9,E3]/\Wq P w ws H wl sd us T i H'/\m=(902-T.length)*2+us.length,⟨_,wl,sd,[.ref a1],[(bg ws ws.length,[])],0,_,_,_,_,_,_,rfl,q0,rfl⟩,?_⟩;clear q0 nsH nwH;rintro m σ H1 ⟨wl,sd,us,T,i,e3,e6,e7,e8,e9,E3,rfl,Z,rfl⟩;have lw:=Paired.length Z.wt;rw[By] at lw;have il:=Z.il;have ie:(T.drop i).isEmpty=us.isEmpty:=by
  cases us with
  |nil=>show _=true;rw[DV];exact BM.mp (by rw[By];exact lw.symm)
  |cons v r=>cases h:T.drop i with
   |nil=>rw[<- By,h] at lw;cases lw
   |cons _ _=>rfl
 refine⟨_,rfl,aw (by show 0<=1000000;decide),λe0 Pc=>wq Z.isl (af Pc _ _ _ Z.gw) (gh (Fw.of (af Pc _)) Z.wt) ae ⟨_,rfl,?_⟩⟩;have fin:∀{H7:Hp},Wq P w ws H wl sd us T i H7->yr (tIf (tU (PD (MM K true) (Mj 4) (yG KH))) (tC (V.str (Str.ofString "-"))) (tC V.f6)) {nx:=λx H'=>Q V.f6 H',rt:=Q} [some (.ref l),some (.int 900),some (.ref b),e3,some (.ref wl),some (.ref sd),e6,e7,e8,e9,E3] H7:=λ{H7} Z7=>by
  refine⟨_,rfl,aw (by show 0<=1000000;decide),λe1 ne1=>wq Z7.isl (af ne1 _ _ _ Z7.gw) (gh (Fw.of (af ne1 _)) Z7.wt) ae ⟨_,rfl,?_⟩⟩;have S7:=Z7.sm.trans (af ne1 (.lst []));cases hd:(T.drop i).isEmpty with
  |false=>exact q _ _ S7 (.inl rfl)
  |true=>
   have:T.length<=i:=by
    have:=congrArg List.length (DV.mp hd);rw[By] at this;exact Nat.sub_eq_zero_iff_le.mp this
   exact q _ _ S7 (.inr (.inr ⟨rfl,λy hy=>Z7.kl.bf.none (pG ws) this Z7.kl.no hy⟩))
 have Z0:=Z.same (af Pc (.lst []));clear Z;generalize upd H1 e0 (.lst [])=H4 at Z0 ⊢;clear Pc;cases hb:(T.drop i).isEmpty with
 |true=>exact fin Z0
 |false=>
  refine⟨_,rfl,sd,G6 T,rfl,Z0.du.rd,_,rfl,_,_,rfl,rfl,_,rfl,?_⟩;rw[AU];by_cases h9:((T.length:Nat):Int)<900
  rotate_left
  ·rw[Fp h9];exact fin Z0
  rw[Fo h9];clear fin;have h9':T.length<900:=by lia
  obtain⟨v,j7,rfl⟩:∃v j7,us=v::j7:=by
   cases us with
   |nil=>rw[ie] at hb;cases hb
   |cons v r=>exact⟨v,r,rfl⟩
  have hiT:i<T.length:=by
   have:j7.length+1=T.length-i:=lw;lia
  have ed:T.drop i=T[i]::T.drop (i+1):=CL hiT;have he:T[i]?=some T[i]:=AX hiT;generalize T[i]=e at ed he;have wt:=Z0.wt;rw[ed] at wt;obtain⟨⟨a,c,vs,rfl,nc,ga,gc,pc⟩,Z3⟩:M5 wl H4 v e/\Paired (M5 wl H4) j7 (T.drop (i+1)):=by
   cases wt with
   |cons h t=>exact⟨h,t⟩
  have F1:Fw wl H4 (upd H4 wl (.lst j7)):=Fw.lst Z0.gw;have Wb:wl≠sd:=λz=>(Z0.du.nt _).2 (by rw[<- z];exact Z0.gw);have R0:Wr P w ws H wl sd c e j7 T i (i,false) (T.length+0) (upd H4 wl (.lst j7)):=⟨λx o q=>by rw[aj (λz=>by rw[z,Z0.nw] at q;cases q)];exact Z0.sm _ _ q,Z0.nw,Z0.ns,ae,Z0.du.mono F1.1 (aj Wb.symm),gh F1 Z3,Z0.kl,he,nc,⟨vs,F1.2 _ _ nc gc,kF F1 pc⟩,AS _⟩
  refine⟨fun σ H'=>∃r6 T' e3 e6 e7 e8 e9 E3,σ=[some (.ref l),some (.int 900),some (.ref b),e3,some (.ref wl),some (.ref sd),e6,e7,e8,e9,E3]/\Wq P w ws H wl sd r6 T' (i+1) H'/\T.length<=T'.length,fun c5 H' z=>?_,?_⟩
  ·obtain⟨r6,T',e3,e6,e7,e8,e9,E3,rfl,Z',hT⟩:=z;refine⟨_,?_,wl,sd,r6,T',i+1,_,_,_,_,_,_,rfl,Z',rfl⟩;have lw':=Paired.length Z'.wt;rw[By] at lw';have:=Z'.few;have:(.ref a::j7:A9).length=j7.length+1:=rfl;lia
  refine⟨_,rfl,.inl ⟨rfl,_,a9.of Z0.gw⟩,wl,.ref a::j7,0,0,.ref a,rfl,rfl,Z0.gw,by decide,by decide,?_,rfl,?_⟩
  ·show seqIndex? 0 ((j7.length+1:Nat))=some 0;unfold seqIndex?;simp
  have Uy:=F1.1 _ _ ga;refine⟨a,_,rfl,i5.of Uy,rfl,_,_,rfl,_,_,rfl,rfl,?_⟩;clear Uy ga gc pc wt Z3 Z0 F1 ie hb lw
  replace R0:Wr P w ws H wl sd c e j7 T i (i,false) (T.length+0) (upd H4 wl (.lst ((V.ref a::j7).eraseIdx 0))):=R0
  generalize upd H4 wl (.lst ((V.ref a::j7).eraseIdx 0))=H5 at R0 ⊢;refine⟨txt [108,114],congrArg V.str (by decide +kernel),by decide +kernel,?_⟩;refine gA (cs:=[108,114]) (λj σ H'=>∃r6 T' e3 e8 e9 E3,σ=[some (.ref l),some (.int 900),some (.ref b),e3,some (.ref wl),some (.ref sd),some (.ref c),some (.str (txt e.2)),e8,e9,E3]/\Wr P w ws H wl sd c e r6 T' i (ps i j) (T.length+j) H'/\T.length<=T'.length) ⟨j7,T,_,_,_,_,rfl,R0,AS _⟩ (λj hj σ H2 z=>?_) (fun σ H2 z=>?_)
  rotate_left
  ·obtain⟨r6,T',e3,e8,e9,E3,rfl,R,hT⟩:=z;have Oi:i+1<=T'.length:=by lia
   have few:=R.few;exact⟨r6,T',_,_,_,_,_,_,rfl,⟨R.sm,R.nw,R.ns,R.gw,R.du,R.wt,R.kl,Oi,by have:([108,114]:A7).length=2:=rfl;lia⟩,hT⟩
  clear R0 il ed he j7 H5;obtain⟨j7,T1,e3,e8,e9,E3,rfl,R0,hT⟩:=z;have j2:j<2:=hj;obtain⟨bb,q1,q2,q3⟩:=wA (i:=i) hj;rw[q1] at R0;rw[q2];have tr:∀{c5:L2.St}{H':Hp},(∃r6 T' e3 e8 e9 E3,c5=[some (.ref l),some (.int 900),some (.ref b),e3,some (.ref wl),some (.ref sd),some (.ref c),some (.str (txt e.2)),e8,e9,E3]/\Wr P w ws H wl sd c e r6 T' i (KM.nxt i bb) (T1.length+1) H'/\T1.length<=T'.length)->∃r6 T' e3 e8 e9 E3,c5=[some (.ref l),some (.int 900),some (.ref b),e3,some (.ref wl),some (.ref sd),some (.ref c),some (.str (txt e.2)),e8,e9,E3]/\Wr P w ws H wl sd c e r6 T' i (ps i (j+1)) (T.length+(j+1)) H'/\T.length<=T'.length:=λ{c5 H'} z=>by
   obtain⟨r6,T',e3,e8,e9,E3,rfl,R,hT'⟩:=z;have h1:=R0.few;have h2:=R.few;rw[q3];exact⟨r6,T',_,_,_,_,rfl,{R with few:=by lia},by lia⟩
  refine λp9 n9=>?_;have he:=R0.he;obtain⟨vs,gc,pc⟩:=R0.gc;have em:=Bp he;obtain⟨ce,_,_⟩:=R0.kl.bf.ok e em;have lvs:=Paired.length pc;have l30:=lM D7 ce.nd ce.ps;refine⟨_,rfl,c,rfl,⟨_,a9.of (af n9 _ _ _ gc)⟩,?_⟩;refine fh (K:=K) (a:=c) (xs:=vs) (λk σ H'=>∃zs e3 E3,σ=[some (.ref l),some (.int 900),some (.ref b),e3,some (.ref wl),some (.ref sd),some (.ref c),some (.str (txt e.2)),some (.str (txt [nl bb])),some (.ref p9),E3]/\FZ H2 H'/\H' p9=some (.dT (n6 zs))/\zs.Nodup/\(∀z∈zs,sF ws z)/\∀z,z∈zs↔∃y∈e.1.take k,Ow ws (nl bb) y z) ⟨[],_,_,rfl,af n9 _,ae,.nil,λz h=>(by cases h),λz=>⟨λh=>(by cases h),λSj=>by obtain⟨_,h,_⟩:=Sj;exact(by cases h)⟩⟩ (λk σ H' hk z=>?_) (λk v σ H' hv z=>?_) (fun σ H' z=>?_)
  ·obtain⟨_,_,_,_,S3,_⟩:=z;exact a9.of (S3 _ _ gc)
  ·obtain⟨zs,e3,E3,rfl,S3,g3,n3,p3,m3⟩:=z;have l3:=lM D7 n3 p3;have hk:k<vs.length:=(Be.mp hv).1;have hy:e.1[k]?=some e.1[k]:=AX (by lia);generalize e.1[k]=y at hy;obtain⟨r,rfl,gr⟩:=cb pc hv hy;obtain⟨x,g,rfl,hg⟩:=ce.ps y (Bp hy);have hx:=cc hg;have et:e.1.take (k+1)=e.1.take k++[[x,g]]:=by rw[Bw,hy];rfl
   have gr':H' r=some (.tup [V.int (x:Int),V.int (g:Int)]):=S3 _ _ gr;have TJ:=S3 _ _ (R0.sm _ _ hl);have lx:(txt (ws.getD x [])).length<=1000000:=by have:=z9 x;have:=ge x;lia
   refine⟨r,_,rfl,i5.of gr',rfl,_,_,rfl,_,_,rfl,rfl,?_⟩;refine⟨_,rfl,_,rfl,l,_,_,_,rfl,rfl,a9.of TJ,aM hx,_,rfl,txt (ws.getD x []),_,(ws.getD x [])[g],rfl,rfl,aw lx,bK (AX hg),_,rfl,rfl,decide ((ws.getD x [])[g]=nl bb),congrArg V.bl (rN _ _),?_⟩;cases h0:decide ((ws.getD x [])[g]=nl bb) with
   |false=>
    refine⟨_,rfl,_,rfl,l,_,_,_,rfl,rfl,a9.of TJ,aM hx,_,rfl,txt (ws.getD x []),_,(ws.getD x [])[g],rfl,rfl,aw lx,bK (AX hg),_,rfl,rfl,decide ((ws.getD x [])[g]=nl bb),congrArg V.bl (rN _ _),?_⟩;rw[h0];refine⟨zs,_,_,rfl,S3,g3,n3,p3,λz=>(m3 z).trans ⟨λ⟨y,hy,h⟩=>⟨y,by rw[et];exact Bu _ hy,h⟩,λSh=>?_⟩⟩;obtain⟨y,hy,h⟩:=Sh;rw[et] at hy;rcases Ba.mp hy with hy|hy
    ·exact⟨y,hy,h⟩
    ·obtain⟨x',g',q5,q6,_⟩:=h;rw[AY.mp hy] at q5;cases q5;rw[AX hg] at q6;exact absurd (Fx q6) (of_decide_eq_false h0)
   |true=>
    have gx:(ws.getD x [])[g]?=some (nl bb):=by rw[AX hg,Fu h0]
    have WE:=z9 x;refine⟨_,rfl,_,_,rfl,rfl,_,rfl,_,rfl,l,_,_,_,rfl,rfl,a9.of TJ,aM hx,txt (ws.getD x []),rfl,aw lx,_,_,rfl,rfl,_,rfl,?_⟩;rw[ge];by_cases hh:g+1<(ws.getD x []).length
    ·rw[Fo (show((g:Nat):Int)+1<(((ws.getD x []).length:Nat):Int) by lia)];refine⟨_,rfl,_,rfl,_,rfl,_,_,rfl,rfl,aw (by show 2<=1000000;decide),λq nq=>?_⟩;obtain⟨H4,d,S4,g4,k4⟩:=lA (xs:=[V.int (x:Int),V.int ((g:Int)+1)]) [x,g+1] S3 n9 g3 nq (by rw[sN];rfl) (by lia);refine⟨p9,_,rfl,d,lB zs [x,g+1],_,_,rfl,S4,g4,fL n3,λz hz=>?_,λz=>?_⟩
     ·rcases Gz.mp hz with h|rfl
      ·exact p3 z h
      ·exact⟨_,_,rfl,hh⟩
     ·rw[Gz,m3,et,kH,rP gx];exact or_congr Iff.rfl ⟨λh=>.inl ⟨hh,h⟩,λh=>h.elim (λh=>h.2) λh=>by lia⟩
    ·rw[Fp (show ¬((g:Nat):Int)+1<(((ws.getD x []).length:Nat):Int) by lia)];refine⟨_,rfl,_,rfl,l,_,_,_,rfl,rfl,a9.of TJ,aM hx,_,rfl,txt (ws.getD x []),_,(ws.getD x [])[g],rfl,rfl,aw lx,bK (AX hg),_,rfl,rfl,decide ((ws.getD x [])[g]=nl bb),congrArg V.bl (rN _ _),?_⟩;rw[h0];refine⟨_,rfl,.inr (.inr (.inl ⟨rfl,.inr ⟨_,g3⟩⟩)),_,rfl,l,_,rfl,.inl (a9.of TJ),?_⟩;rw[el];refine⟨_,rfl,by lia,by lia,?_⟩;refine sD (lo:=0) (n:=_) (λm us l0=>FZ H' l0/\Paired (HC l0) us ((List.range m).map λn=>(pk [n,0],V.bl true))) ⟨FZ.refl _,.nil⟩ (λm us l0 hm z=>by rw[Paired.length z.2,AU,BX];exact AS _) (aw (by lia)) (λm us l0 hm z=>?_) (λus l0 z S nS=>?_)
     ·obtain⟨y1,y2⟩:=z;refine⟨_,rfl,aw (by show 2<=1000000;decide),λa1 n1=>⟨aw (by show 2<=1000000;decide),λa2 n2=>Nx.mk hm ⟨y1.trans ((af n1 _).trans (af n2 _)),?_⟩⟩⟩;rw[CT,Bi];refine bA (Paired.Hw y2 λv p Sg=>by obtain⟨e,b,h1,h2,h3⟩:=Sg;exact⟨e,b,h1,af n2 _ _ _ (af n1 _ _ _ h2),af n2 _ _ _ (af n1 _ _ _ h3)⟩) (.cons ⟨a2,a1,rfl,ae,?_⟩ .nil);rw[af n2 _ _ _ ae,Ct,sN];rfl
     ·obtain⟨y1,y2⟩:=z;rw[BK] at y2;have S5:=af nS (.lst us);have g5:=S5 _ _ (y1 _ _ g3);have en:((List.range ws.length).map λn=>(pk [n,0],V.bl true))=((List.range ws.length).map λn=>[n,0]).map λz=>(pk z,V.bl true):=by rw[Bx];rfl
      refine⟨p9,S,n6 zs,us,_,rfl,rfl,g5,a9.of ae,Paired.Hw y2 λv p R9=>by obtain⟨e,b,h1,h2,h3⟩:=R9;exact⟨e,b,h1,S5 _ _ h2,S5 _ _ h3⟩,aw (by rw[AU,AU,BX];lia),?_⟩;rw[en,Il];refine⟨ju zs ((List.range ws.length).map λn=>[n,0]),_,_,rfl,λx o q=>?_,ae,Io n3,λz hz=>?_,λz=>?_⟩
      ·rw[aj (aC q n9)];exact S5 _ _ (y1 _ _ (S3 _ _ q))
      ·rcases Hj.mp hz with h|h
       ·exact p3 z h
       ·obtain⟨n,hn,rfl⟩:=AW.mp h;exact⟨n,0,rfl,hw.l1 _ (aG (Bt.mp hn))⟩
      ·rw[Hj,m3,et,kH,rP gx];refine or_congr Iff.rfl ⟨λh=>?_,λh=>h.elim (λh=>absurd h.1 hh) λR8=>by obtain⟨_,n,hn,e⟩:=R8;exact AW.mpr ⟨n,Bt.mpr hn,e.symm⟩⟩;obtain⟨n,hn,rfl⟩:=AW.mp h;exact .inr ⟨by lia,n,Bt.mp hn,rfl⟩
  obtain⟨zs,e3,E3,rfl,S3,g3,n3,p3,m3⟩:=z;rw[lvs,BW] at m3;have R3:=R0.same S3;refine⟨_,rfl,λq0 Ue=>⟨p9,q0,n6 zs,rfl,rfl,af Ue _ _ _ g3,ae,_,rfl,?_⟩⟩;have ex:(txt e.2).length=e.2.length:=by show e.2.toArray.size=_;simp
  have l2:=R3.kl.ln e (Bp R3.he);have f3:=R3.few;have ltx:(txt e.2).length+(txt [nl bb]).length<=sizeLine:=aw (by rw[ex];show e.2.length+1<=1000000;lia);have Rq:=R3.same (af Ue (.dT []));have gq:=af Ue (.dT []) _ _ g3;have Sq:FZ H2 (upd H' q0 (.dT [])):=S3.trans (af Ue _);generalize upd H' q0 (.dT [])=H4 at Rq gq Sq ⊢;cases hz:(n6 zs).isEmpty with
  |true=>
   have z0:zs=[]:=List.map_eq_nil_iff.mp (DV.mp hz);subst z0;refine⟨_,rfl,_,rfl,txt e.2,txt [nl bb],rfl,rfl,ltx,?_⟩;rw[eI];exact q _ _ Rq.sm (.inr (.inl ⟨_,rfl,Rq.kl.hit Rq.he λz h=>BE ((m3 z).mpr h)⟩))
  |false=>
  have zn:zs≠[]:=λz=>by rw[z] at hz;cases hz
  have lz:=lM D7 n3 p3;have WD:(n6 zs).length<64:=by rw[AU];lia
  have two:∀f∈n6 zs,∃ns:B3,f.1.map kV=ns.map V.int/\ns.length=2:=λf hf=>by
   obtain⟨z,hz,rfl⟩:=AW.mp hf;obtain⟨x,g,rfl,_⟩:=p3 z hz;exact⟨pn [x,g],sN _,rfl⟩
  have Pu:∀{G0:A2},G0.Perm zs->G0.Pairwise (λa b=>¬pn b<pn a)->Cl ws G0:=λpz so=>⟨so,pz.nodup_iff.mpr n3,λz h=>p3 z (pz.mem_iff.mp h)⟩
  refine⟨_,rfl,p9,n6 zs,rfl,.inl gq,WD,two,λks kz s1 k7 perm pw Rt=>?_⟩;obtain⟨k1,pz,PR,so⟩:=kc kz perm pw;have c1:=Pu pz so;have S5:=af Rt (.lst (k7.map V.ref));refine⟨s1,_,rfl,.inl ⟨a9.of ae,λt1 Rr=>?_⟩⟩;have S6:=af Rr (.tup (k7.map V.ref));have dt:=gH (bL (S5.trans S6) PR) ae;have R6:=Rq.same (S5.trans S6);have g6:=S6 _ _ (S5 _ _ gq);have Sx:=Sq.trans (S5.trans S6);generalize upd (upd H4 s1 (.lst (k7.map V.ref))) t1 (.tup (k7.map V.ref))=H6 at dt R6 g6 Sx ⊢;clear S5 S6 Rr Rt PR pw perm kz ks k7 s1 Rq gq Sq;refine⟨_,rfl,t1,sd,G6 T1,pd k1,rfl,rfl,R6.du.rd,dt,_,rfl,?_⟩;cases hs:(cg (G6 T1) (pd k1)).isSome with
  |true=>
   obtain⟨f,hf,ek⟩:=ve hs;exact tr ⟨j7,T1,_,_,_,_,rfl,{R6 with kl:=R6.kl.has R6.he hf λz=>by rw[ek,pz.mem_iff];exact m3 z,few:=by lia},AS _⟩
  |false=>
  have nk:=vR hs;have lT:(G6 T1).length<sizeLine:=Cf (DJ (AU _)) (Bq (show T1.length<1000000 by lia) (aw (AS _)));obtain⟨u0,d0⟩:=R0.du.there;have ps9:p9≠sd:=λz=>by rw[z,d0] at n9;cases n9
  have pw9:p9≠wl:=λz=>by rw[z,R0.gw] at n9;cases n9
  refine⟨_,rfl,_,rfl,p9,n6 zs,rfl,.inl g6,WD,two,λks kz s1 k7 perm pw Rt=>?_⟩;obtain⟨k2,Ro,PR,Vb⟩:=kc kz perm pw;obtain rfl:k1=k2:=nG ws _ _ c1 (Pu Ro Vb) λz=>(pz.trans Ro.symm).mem_iff;have S5:=af Rt (.lst (k7.map V.ref));refine⟨s1,_,rfl,.inl ⟨a9.of ae,λt2 nt2=>?_⟩⟩;have S6:=af nt2 (.tup (k7.map V.ref));have dt2:=gH (bL (S5.trans S6) PR) ae;have R7:=R6.same (S5.trans S6);have g7:=S6 _ _ (S5 _ _ g6);generalize upd (upd H6 s1 (.lst (k7.map V.ref))) t2 (.tup (k7.map V.ref))=H7 at dt2 R7 g7 ⊢;clear S5 S6 nt2 Rt PR pw perm kz ks k7 s1 dt R6 g6 Sx;refine⟨sd,t2,G6 T1,pd k1,rfl,rfl,R7.du,dt2,lT,λu du=>?_⟩;rw[tZ (x:=e.2++[nl bb]) nk] at du;have F8:Fw wl H7 (upd H7 sd u):=Fw.dic R7.du;have Ux:upd H7 sd u wl=some (.lst j7):=by rw[aj Wb];exact R7.gw
  have g8:upd H7 sd u p9=some (.dT (n6 zs)):=by rw[aj ps9];exact g7
  have sm8:FZ H (upd H7 sd u):=λx o q=>by rw[aj (λz=>by rw[z,R7.ns] at q;cases q)];exact R7.sm _ _ q
  generalize upd H7 sd u=H8 at du F8 Ux g8 sm8 ⊢;refine⟨_,rfl,.inl ⟨rfl,_,a9.of Ux⟩,_,rfl,p9,n6 zs,rfl,.inl g8,WD,two,λks kz s2 k7 perm pw PJ=>?_⟩;obtain⟨k2,Ro,PR,Vb⟩:=kc kz perm pw;obtain rfl:k1=k2:=nG ws _ _ c1 (Pu Ro Vb) λz=>(pz.trans Ro.symm).mem_iff;have S9:=af PJ (.lst (k7.map V.ref));refine⟨_,rfl,_,rfl,txt e.2,txt [nl bb],rfl,rfl,ltx,aw (by show 2<=1000000;decide),λt3 nt3=>?_⟩;rw[eI];have Q7:=af nt3 (.tup [.ref s2,.str (txt (e.2++[nl bb]))]);have gs:upd (upd H8 s2 (.lst (k7.map V.ref))) t3 (.tup [.ref s2,.str (txt (e.2++[nl bb]))]) s2=some (.lst (k7.map V.ref)):=Q7 _ _ ae;have gt:upd (upd H8 s2 (.lst (k7.map V.ref))) t3 (.tup [.ref s2,.str (txt (e.2++[nl bb]))]) t3=some (.tup [.ref s2,.str (txt (e.2++[nl bb]))]):=ae;have Sz:=S9.trans Q7;have nsw:s2≠wl:=λz=>by rw[z,Ux] at PJ;cases PJ
  generalize upd (upd H8 s2 (.lst (k7.map V.ref))) t3 (.tup [.ref s2,.str (txt (e.2++[nl bb]))])=H9 at gs gt Sz ⊢;have gw9:=Sz _ _ Ux;have Fl:Fw wl H9 (upd H9 wl (.lst (j7++[.ref t3]))):=Fw.lst gw9;have F:=(F8.trans (Fw.of Sz)).trans Fl;have lu:=Paired.length R7.wt;rw[By] at lu;refine⟨wl,j7,.ref t3,rfl,rfl,gw9,Bq (show j7.length<1000000 by lia) (aw (AS _)),tr ⟨j7++[.ref t3],T1++[(k1,e.2++[nl bb])],_,_,_,_,rfl,⟨λx o q=>?_,R7.nw,R7.ns,ae,(du.same Sz).mono Fl.1 (aj Wb.symm),?_,R7.kl.put R7.he c1 (λz=>pz.mem_iff.trans (m3 z)) (λz=>zn (List.eq_nil_of_length_eq_zero (by rw[<- pz.length_eq,z];rfl))) nk,?_,R7.nc,?_,?_⟩,?_⟩⟩
  ·rw[aj (λz=>by rw[z,R7.nw] at q;cases q)];exact Sz _ _ (sm8 _ _ q)
  ·have:i+1<=T1.length:=(Be.mp R7.he).1;rw[List.drop_append_of_le_length this];exact bA (gh F R7.wt) (.cons ⟨t3,s2,k7.map V.ref,rfl,nsw,Fl.1 _ _ gt,Fl.2 _ _ nsw gs,kF Fl (bL Sz PR)⟩ .nil)
  ·rw[CG (Be.mp R7.he).1];exact R7.he
  ·obtain⟨QH,g',q'⟩:=R7.gc;exact⟨QH,F.2 _ _ R7.nc g',kF F q'⟩
  ·rw[AV];exact AS _
  ·rw[AV];exact DT _ _
end
section
variable {P:Program}{w:World}{K:PySem.W.Frag}{mg:Str->Option Value}{base:Heap}
open KM
theorem JV:∀ts:List Tb,PyData.canLayAll0 (ts.map Tb.dat)=true
 |[]=>rfl
 |t::r=>by
  have ih:=JV r;rw[Bm];show(t.dat.canLay0&&PyData.canLayAll0 (r.map Tb.dat))=true;rw[ih];rfl
theorem iw(ts:List Tb):(PyData.list (ts.map Tb.dat)).canLay0=true:=by
 show PyData.canLayAll0 (ts.map Tb.dat)=true;exact JV ts
theorem Ik:∀ts:List Tb,PyData.depthAll (ts.map Tb.dat)<=1
 |[]=>by show 0<=1;decide
 |t::r=>by
  have ih:=Ik r;rw[Bm];show max t.dat.depth (PyData.depthAll (r.map Tb.dat))<=1;have:t.dat.depth=1:=rfl;lia
theorem mE(ts:List Tb):(PyData.list (ts.map Tb.dat)).depth<=60:=by
 have:=Ik ts;have e:(PyData.list (ts.map Tb.dat)).depth=PyData.depthAll (ts.map Tb.dat)+1:=by
  simp[PyData.depth]
 lia
theorem tQ(ts:List Tb):V.bl (if true=true then !PyData.eqv (.list (ts.map Tb.dat)) (.list (ts.map Tb.dat)) else PyData.eqv (.list (ts.map Tb.dat)) (.list (ts.map Tb.dat)))=.bl false:=by
 rw[SeqAt.eqv_refl _ (iw ts)];rfl
theorem jI{H:Hp}:∀{vs:A9}{ws:A2},Jk H vs ws->DatAll K H vs ((ws.map wt).map Tb.dat)
 |_,_,.nil=>.nil
 |_,_,.cons h r=>.cons (h.t4 (K:=K)).dat (jI r)
theorem D4.v7{l:Addr}{H:Hp}{v:V}{t:Tb}(d:Ds H l)(h:D4 H v t):D4 (L2.v7 l H) v t:=by
 obtain⟨a,rfl,g⟩:=h;obtain⟨x,y,z,e,_⟩:=d;refine⟨a,rfl,?_⟩;rw[dQ (bB g e (by intro z;cases z))];exact g
theorem Jk.v7{l:Addr}{H:Hp}(d:Ds H l){vs:A9}{ws:A2}(h:Jk H vs ws):Jk (L2.v7 l H) vs ws:=Paired.Hw h λv s g=>D4.v7 d g
theorem mQ{H H':Hp}(S:FZ H H'){vs:A9}{ws:A2}(h:Jk H vs ws):Jk H' vs ws:=Paired.Hw h λv s g=>g.mono S
theorem Ju:∀k:Nat,low (2^k) k=(1,1)
 |0=>rfl
 |k+1=>by
  have e:2^(k+1)/2=2^k:=by rw[BH];lia
  show(if 2^(k+1) % 2=0 then low (2^(k+1)/2) k else (2^(k+1),2^(k+1)))=_;rw[Fn (by rw[BH];lia),e,Ju k]
theorem ng{α:Type}(f:A7->α)(ws:A2):(List.range ws.length).map (λi=>f (ws.getD i []))=ws.map f:=by
 refine Dm λi=>?_;rw[Bo,Bo];by_cases h:i<ws.length
 ·rw[List.getElem?_range h,AX h];show some (f (ws.getD i []))=some (f ws[i]);rw[Bv,AX h];rfl
 ·rw[Cz (by rw[BX];lia),Cz (by lia)];rfl
theorem yq(ws:A2)(L:Nat):KW ws L=S L ws:=by
 unfold KW S;rw[ng (λw=>2^(L-w.length)) ws]
theorem a9.QK{H H':Hp}{T a:Addr}{ps:Array Value}{xs:A9}(hT:H T=some (.B8 ps))(h:a9 K H a xs)(S:j6 T H H'):a9 K H' a xs:=by
 rcases h with h|h
 ·rcases h with h|⟨o,h⟩
  ·exact .inl (.inl (S _ _ (bB h hT (λz=>by cases z)) h))
  ·exact .inl (.inr ⟨o,S _ _ (bB h hT (λz=>by cases z)) h⟩)
 ·exact .inr h
theorem tj{T l:Addr}{Hi H1 H2:Hp}(S:j6 T Hi H1)(n:Hi l=none)(d:Dr l H1 H2):j6 T Hi H2:=λb o nT e=>by
 have z:b≠l:=aC e n;exact aS l _ _ _ (d.same b o (by rw[dQ z];exact S b o nT e))
theorem GR.dr{pos:Pos}{q:Str}{T l:Addr}{H H':Hp}(h:GR pos q T H)(ds:Ds H l)(d:Dr l H H'):GR pos q T H':=by
 obtain⟨ps,h1,h2,h3⟩:=h.ex;obtain⟨x,y,z,e,_⟩:=ds;have tr:∀b o,H b=some o->o≠.lst [.int x,.int y,.int z]->H' b=some o:=λb o hb ne=>aS l _ _ _ (d.same b o (by rw[dQ (bB hb e ne)];exact hb));refine⟨ps,tr _ _ h1 (λz=>by cases z),h2,?_⟩;rcases h3 with h3|⟨c,h3,h4⟩
 ·exact .inl h3
 ·exact .inr ⟨c,h3,tr _ _ h4 (λz=>by cases z)⟩
theorem Kc:∀(k t:Nat),low t k=(1,1)->t=2^k
 |0,t,h=>by
  have:(t,1)=(1,1):=h;injection this
 |k+1,t,h=>by
  have h:(if t % 2=0 then low (t/2) k else (t,2^(k+1)))=(1,1):=h;by_cases c:t % 2=0
  ·rw[Fn c] at h;have:=Kc k _ h;rw[BH];lia
  ·rw[Fm c] at h;injection h with _ h;have:0<2^k:=Dv (by decide);rw[BH] at h;lia
theorem oV{ws:A2}{L:Nat}{dn:List (A7×Nat)}(hw:E4 ws)(hL:tX ws L)(hd:K7 ws dn []):(∀y,(∀c∈y,ox c)->¬No (RG ws) y)↔low (KW ws L) L=(1,1):=by
 have gL:∀i,(ws.getD i []).length<=L:=λi=>by
  by_cases h:i<ws.length
  ·exact hL.2 _ (aG h)
  ·rw[Bv,Cz (by lia)];exact Bj _
 have ud:UD ws:=hd.closed.ud λi hi z=>by
  have:=hw.l1 _ (aG hi);rw[z] at this;exact absurd this (by decide)
 have kr:=xN gL (λx hx c hc=>hw.lr x hx c hc) ud;have al:∀{y},¬No (RG ws) y↔ui ws y:=λ{y}=>⟨λh=>Classical.byContradiction λn=>h λz hz=>n ⟨z,hz⟩,λ⟨z,hz⟩ n=>n z hz⟩
 rw[yq];constructor
 ·intro h;have L1:1<=L:=Bh (hw.l1 _ (aG hw.n1)) (gL 0);have:=ue gL hw.l1 L1 λy hy=>oe (al.mp (h y hy));rw[Nat.le_antisymm kr this];exact Ju L
 ·intro h y hy;obtain⟨t,ht,p,q,e⟩:=uU gL (λx hx c hc=>hw.lr x hx c hc) ud (Kc _ _ h) hy;exact al.mpr (pR hw.l1 (Ep hw.n1) ht e)
theorem ke{ws:A2}{x y:A7}(f:OG (No (RG ws)) x)(hy:∀c∈y,ox c)(b:m8 y x):¬No (RG ws) y:=λn=>f.2.2 y hy n b
theorem mi(s:A7)(d:Nat):Txt.slice (txt (s++[d])) none (some (-1))=txt s:=by
 apply dv;rw[bZ];show qv (s++[d]) none (some (-1))=s;unfold qv;have e:HT.l9 (s++[d]).length (s++[d]).length (some (-1))=s.length:=by
  show(if (-1:Int)<0 then ((-1:Int)+(((s++[d]).length:Nat):Int)).toNat else min (-1:Int).toNat (s++[d]).length)=_;rw[Fn (by decide),AV,List.length_singleton];lia
 rw[e,HT.GW,CJ,Dt,Ek]
theorem uW{c:Nat}(h:ox c):(!(!(Builtin.Str.occurrences "lr" ⟨#[c]⟩ 0 ("lr":Str).length 1).isEmpty))=false:=by
 rcases h with rfl|rfl<;>decide +kernel
theorem qO(x:A7):Txt.slice (txt x) (some 1) none=txt (x.drop 1):=bN x 1
structure NW where
 draws:DD
 draw:DD
 Ma:DD
 sm:DD
 ofl:DD
 Pu:DD
 ahead:DD
 first:DD
 shr:DD
 M8:DD
 twn:DD
structure All(T:Addr)(P:Program)(w:World)(K:W.Frag)(mg:Str->Option Value)(base:Heap)(d:NW):Prop where
 zf:Def K mg "_law_draws" (top 34) ["script","k"] d.draws
 yU:Def K mg "_law_draw" (top 35) ["draws","many"] d.draw
 yY:Def K mg "_law_piece" (top 36) ["draws","most"] d.Ma
 Nn:Def K mg "_law_short_makers" (top 37) ["draws","most","together"] d.sm
 Aa:Def K mg "_law_of_letters" (top 40) ["word"] d.ofl
 zr:Def K mg "_law_can" (top 41) ["words","text"] d.Pu
 ze:Def K mg "_law_ahead" (top 42) ["text"] d.ahead
 zg:Def K mg "_law_first" (top 43) ["words","most"] d.first
 Ab:Def K mg "share" (top 20) ["makers"] d.shr
 Ac:Def K mg "stuck" (top 23) ["makers"] d.M8
 Ad:Def K mg "twins" (top 32) ["makers"] d.twn
 zv:(fk 1 d.draws ["script","k"] (nv K))
 yV:(fk 1 d.draw ["draws","many"] Jm)
 za:(fk 2 d.Ma ["draws","most"] IQ)
 NB:(fk 3 d.sm ["draws","most","together"] NU)
 Aj:(fk 3 d.ofl ["word"] (vV K))
 zu:(fk 1 d.Pu ["words","text"] Mv)
 zt:(fk 1 d.ahead ["text"] NJ)
 zw:(fk 1 d.first ["words","most"] Kg)
 Ak:(fk 6 d.shr ["makers"] Nj)
 Am:(fk 6 d.M8 ["makers"] Mt)
 An:(fk 6 d.twn ["makers"] (wx T))
 yP:mg "range"=none
 zQ:mg "max"=none
 zl:mg "min"=none
 yQ:mg "len"=none
 yR:mg "isinstance"=none
 yX:mg "list"=none
 AF:mg "str"=none
theorem LF:FX ["script","k","draws","words","makers","handed","found","due","turn"] ["script"] (ar (top 44)):=by walk_at "s"
theorem jb(m:Int)(h:0<=m):-(2^62)<=(if (if m<6 then m else 6)>1 then (if m<6 then m else 6) else 1)/\(if (if m<6 then m else 6)>1 then (if m<6 then m else 6) else 1)<2^62/\(if (if m<6 then m else 6)>1 then (if m<6 then m else 6) else 1).toNat<=6:=by
 split<;>split<;>lia
def qE (T:Addr)(K:W.Frag):Sp:=λvs H Q _=>∃(a:Addr)(ns:B3),vs=[.ref a]/\a9 K H a (ns.map V.int)/\ns.length<=63/\GR JJ JH T H/\∀H',Q (.bl true) H'
theorem wm{T:Addr}{d:DD}{D:NW}(A:All T P w K mg base D)(DL:Def K mg "law" (top 44) ["script"] d):(fk 7 d ["script"] (qE T K)):=by
 refine DL.fn.ok LF (λvs H Q E h=>?_) (λl6 Ar outer s H vs Q E hr h=>?_)
 ·obtain⟨a,ns,rfl,_⟩:=h;rfl
 obtain⟨a,ns,rfl,hS,h63,hT,q⟩:=h;have hc:=hr.calm;have nd:=LF.nd;refine⟨_,(ag (bG (aO A.yP (aI (aQ (oG hc) A.zQ LO (FU (ah _) (aI (aQ (pQ hc) A.zl Kb (FU (ah _) (aI (aL FW A.yQ (0) aF) eK) br)) eK) br)) eK)) (ao 1) (ag (aA 2 (bw A.zf A.zv (FU (0) (aI (1) aF) aF))) (ag (ad 3 (bw A.Nn A.NB (FU (2) (FU (ah _) (aI (ah _) br) br) aF))) (ag (dY 4 (aq (ts:=["word"]) (cap:=[]) (js:=[]) rfl rfl rfl rfl rfl rfl (by decide +kernel)) (aR (3)) (am 0 (nd ["word"])) (@aV _) (cK A.Aa A.Aj (0) aF)) (ag (aA 5 (ba GA A.yX Hk (aI (4) aF))) (ag (aA 6 (cK A.Ac A.Am (5) aF)) (ag (bx (ay (fN hr.units) (5) (4) (aE _)) (ai (aJ (cI _))) (Gb _)) (ag (aA 7 (bw A.zg A.zw (FU (3) (aI (ah _) br) aF))) (ag (eX (bx (@PW.pt _ _ _ (cG (ay KP (7) (aU _) (aE _)) (bS (ay KP (6) (7) (aE _))))) (ai (aJ (cI _))) (Gb _))) (ag (eX (bx (ay Mf (6) (eM _) (aE _)) (ag (bx (@PW.pt _ _ _ (iM (eS (cx (aQ Hh A.yR Gp (FU (6) (aI (fR (.ty "str") A.AF MC) aF) aF)))) (eT (ay (fN hr.units) (aY (aq (ts:=["sign"]) (cap:=[]) (js:=[]) rfl rfl rfl rfl rfl rfl (by decide +kernel)) (iN (6)) (am 0 (nd ["sign"])) (@cH _ _ _ (ay Ir (0) (aU _) rfl)) (0)) (bj (@Ge _)) (aE _))))) (ai (aJ (cI _))) (Gb _)) (ag (bx (@PW.pt _ _ _ (iM (ay GV (6) (aU _) (aE _)) (eT (cx (bw A.zr A.zu (FU (3) (aI (6) aF) aF)))))) (ai (aJ (cI _))) (Gb _)) (ai (bx (@PW.pt _ _ _ (iM (eS (cx (bw A.zr A.zu (FU (3) (aI (aX GK (6) (Gj _) (bu (qA Jt (ah _)))) (by rfl)) aF)))) (eT (eS (cx (bw A.zr A.zu (FU (3) (aI (aX GK (6) (bu (ah _)) (Gj _)) (by rfl)) aF))))))) (ai (aJ (cI _))) (Gb _))))) (ai (bG (aO A.yP (aI (ah _) br)) (ao 8) (ai (bx (eS (cx (bw A.zr A.zu (FU (3) (aI (aX GK (aB Gh (bw A.yY A.za (FU (2) (aI (ah _) br) aF)) (bw A.yY A.za (FU (2) (aI (ah _) br) aF))) (Gj _) (bu (ah _))) (by rfl)) aF)))) (ai (aJ (cI _))) (Gb _))))))) (ag (bx (ay (fN hr.units) (aY (aq (ts:=["text"]) (cap:=["words"]) (js:=[3]) rfl rfl rfl rfl rfl rfl (by decide +kernel)) (aR (cK A.ze A.zt (6) aF)) (am 0 (nd ["text","words"])) (@cH _ _ _ (eS (cx (bw A.zr A.zu (FU (1) (aI (0) aF) aF))))) (0)) (bj (@Ge _)) (aE _)) (ai (aJ (cI _))) (Gb _)) (ai (bx (@PW.pt _ _ _ (cG (ay Jn (cK A.Ad A.An (ba GA A.yX Hk (aI (4) aF)) eK) (eM _) (aE _)) (bS (ay KP (dE Jn (6) (eM _) (aE _)) (dE (xw hr.units) (cK A.Ab A.Ak (ba GA A.yX Hk (aI (4) aF)) eK) (aN (FU (ah _) (aI (ah _) br) br)) (aE _)) (aE _))))) (ai (aJ (cI _))) (Gb _)))))))))))))) (ai (aJ (cI _)))),?_⟩
 walk_at "d"
 have hl:(ns.map V.int).length=ns.length:=AU _;refine⟨_,rfl,a,_,rfl,.inl hS,_,_,rfl,_,_,rfl,_,rfl,(jb _ (FN _)).1,(jb _ (FN _)).2.1,?_⟩;have j16:=(jb (((ns.map V.int).length:Nat):Int) (FN _)).2.2;obtain⟨ps0,gT0,_⟩:=hT.ex;refine bF (lo:=0) (n:=_) (λi σ H'=>∃x1 x2 x3 x4 x5 x6 x7 x8,σ=[some (.ref a),x1,x2,x3,x4,x5,x6,x7,x8]/\j6 T H H'/\GR JJ JH T H') ⟨none,none,none,none,none,none,none,none,rfl,j6.of (FZ.refl H),hT⟩ (λi σ Hi hi z=>?_) (fun σ H' z=>?_)
 rotate_left
 ·obtain⟨x1,x2,x3,x4,x5,x6,x7,x8,rfl,S,_⟩:=z;exact q H'
 obtain⟨x1,x2,x3,x4,x5,x6,x7,x8,rfl,Si,Li⟩:=z;have i3:i<6:=Bq hi j16;refine⟨_,rfl,_,rfl,a,ns,0+(i:Int),rfl,a9.QK gT0 hS Si,by lia,by lia,λl H1 S1 nl ds=>?_⟩;have L1:=Li.same S1;have A1:j6 T Hi H1:=j6.of S1;refine⟨_,rfl,l,12,30,rfl,ds,by decide,by decide,by decide,λW ws H4 dr Zp hw Zl Zk=>?_⟩;have A4:=tj A1 nl dr;have L4:=GR.dr L1 ds dr;have ds4:=dr.ds;have w8:=hw.n8;have gW:=aS l _ _ _ Zp;have el:=ax ws;have C0:∀w∈ws,w.length<=12:=λw h=>by have:=Zl w h;lia
 have D7:(ws.map List.length).sum<=30:=by
  have:=Zk;unfold cJ at this;rw[fg] at this;lia
 refine⟨_,rfl,W,rfl,⟨_,a9.of gW⟩,?_⟩;refine cY (K:=K) (a:=W) (xs:=ak ws) (λk ys H'=>FZ H4 H'/\ys.length<=k/\Jk H' ys (ws.take k)) ⟨FZ.refl _,AS _,.nil⟩ (λk ys H' hk z=>z.2.1) (aw (by lia)) (λk ys H' hk z=>a9.of (z.1 _ _ gW)) (λk v ys H' hv z=>?_) (λys H' z M hM=>?_)
 ·obtain⟨z1,z2,z3⟩:=z;have hk:k<(ak ws).length:=(Be.mp hv).1;have D6:k<ws.length:=by lia
  have ev:v=.str (txt ws[k]):=by
   rw[Bo,AX D6] at hv;exact(Fx hv).symm
  subst ev;have hm:ws[k]∈ws:=BG D6;have TC:=hw.G5 _ hm;have et:ws.take (k+1)=ws.take k++[ws[k]]:=by rw[Bw,AX D6];rfl
  refine⟨_,rfl,txt ws[k],rfl,(by show ws[k].length<=1000;lia),λc hc=>(hw.lr _ hm c hc).lt,λr H2 S2 h2=>Nx.mk hk ⟨z1.trans S2,by rw[AV];exact FM z2,?_⟩⟩;rw[et];refine Paired.snoc (mQ S2 z3) ?_;have:=lJ ws[k];rw[<- this];exact h2
 obtain⟨z1,z2,z3⟩:=z;rw[el,BB (AS _)] at z3;have nMl:M≠l:=λzz=>by
  obtain⟨x,y,z,e,_⟩:=ds4;rw[zz,z1 _ _ e] at hM;cases hM
 have S5:FZ H4 (upd H' M (.lst ys)):=z1.trans (af hM _);have gM:upd H' M (.lst ys) M=some (.lst ys):=ae;have QO:=mQ (af hM (.lst ys)) z3;generalize upd H' M (.lst ys)=H5 at S5 gM QO;have ely:ys.length=ws.length:=Paired.length QO;refine⟨_,rfl,M,ys,rfl,.inl (a9.of gM),λhd nhd=>?_⟩;have S6:FZ H5 (upd H5 hd (.lst ys)):=af nhd _;have gD:upd H5 hd (.lst ys) hd=some (.lst ys):=ae;generalize upd H5 hd (.lst ys)=H6 at S6 gD;refine⟨_,rfl,hd,ys,ws,rfl,gD,mQ S6 QO,hw,C0,D7,λu H7 S7 su=>?_⟩;have TV:=S6.trans S7;refine⟨_,rfl,_,rfl,.list ((ws.map wt).map Tb.dat),.list ((ws.map wt).map Tb.dat),.lst (a9.of (S7 _ _ gD)) (jI (mQ TV QO)),.lst (a9.of (TV _ _ gM)) (jI (mQ TV QO)),iw _,iw _,mE _,false,tQ _,?_⟩;refine⟨_,rfl,W,ws,rfl,TV _ _ (S5 _ _ gW),hw,C0,D7,λv H8 S8 sv=>?_⟩;have ZS:=TV.trans S8;have uv:v=.str (txt [45])\/u=v:=by
  refine sv.imp id λsv=>?_;have np:∀{y},No (PL ws) y↔No (RG ws) y:=λ{y}=>xj hw.l1 (Ep hw.n1);rcases su with ⟨x,rfl,_,f⟩|⟨rfl,f⟩<;>rcases sv with ⟨y,rfl,g⟩|⟨rfl,g⟩
  ·have g':OG (No (RG ws)) y:=⟨g.1,np.mp g.2.1,λz hz n=>g.2.2 z hz (np.mpr n)⟩
   rw[f.same g']
  ·exact absurd (np.mpr f.2.1) (g x f.1)
  ·exact absurd (np.mp g.2.1) (f y g.1)
  ·rfl
 have Z9:(∃x,u=.str (txt x))\/u=.f6:=su.elim (λR1=>by obtain⟨x,e,_,_⟩:=R1;exact .inl ⟨x,e⟩) λh=>.inr h.1;have UT:(∃x,v=.str (txt x))\/v=.f6:=sv.elim (λe=>.inl ⟨_,e⟩) λsv=>sv.elim (λRZ=>by obtain⟨x,e,_⟩:=RZ;exact .inl ⟨x,e⟩) λh=>.inr h.1;have sc:∀{a b:V},((∃x,a=.str (txt x))\/a=.f6)->((∃x,b=.str (txt x))\/b=.f6)->ND a b=true:=λha hb=>by
  rcases ha with ⟨x,rfl⟩|rfl<;>rcases hb with ⟨y,rfl⟩|rfl<;>rfl
 refine⟨fun c5 H'=>c5=[some (.ref a),some (.int (0+(i:Int))),some (.ref l),some (.ref W),some (.ref M),some (.ref hd),some u,some v,x8]/\H'=H8,?_,?_⟩
 ·refine⟨_,rfl,sc UT (.inl ⟨[45],rfl⟩),_,rfl,?_⟩;by_cases hb:v=.str (txt [45])
  ·rw[show(!decide (v=.str (Str.ofString "-")))=false by rw[Fo (show v=.str (Str.ofString "-") from hb)];rfl];exact⟨rfl,rfl⟩
  ·rw[show(!decide (v=.str (Str.ofString "-")))=true by rw[Fp (show ¬v=.str (Str.ofString "-") from hb)];rfl];refine⟨_,rfl,_,rfl,sc Z9 UT,_,rfl,?_⟩;rw[show(!decide (u=v))=false by rw[Fo (uv.resolve_left hb)];rfl];exact⟨rfl,rfl⟩
 rintro _ H8 ⟨rfl,rfl⟩;clear uv UT Z9 sc sv;have UI:=S5.trans ZS;have Q1:=UI _ _ gW;have nWl:W≠l:=λz=>by rw[z,show v7 l H4 l=none from Fn rfl] at Zp;cases Zp
 have gWh:v7 l H8 W=some (.lst (ak ws)):=by rw[dQ nWl];exact Q1
 have UG:=ds4.same UI;refine⟨fun c5 H'=>∃x8,c5=[some (.ref a),some (.int (0+(i:Int))),some (.ref l),some (.ref W),some (.ref M),some (.ref hd),some u,some v,x8]/\Dr l H8 H',?_,?_⟩
 ·rcases su with ⟨x,rfl,lx,f⟩|⟨rfl,f⟩
  ·refine⟨_,rfl,rfl,_,rfl,?_⟩;have xn:x≠[]:=λz=>by
    rw[z] at f;obtain⟨w0,r0,e0⟩:=ET (Ep hw.n1);have h0:w0∈ws:=by rw[e0];exact AZ
    exact f.2.1 w0 ⟨λz=>by have:=hw.l1 w0 h0;rw[z] at this;exact absurd this (by decide),w0,h0,[],rfl⟩
   have sx:x.length<=sizeLine:=Bh lx (by decide);have ex:(txt x).cps.size=x.length:=by show x.toArray.size=_;simp
   refine⟨_,rfl,.str (txt x),.ty "str",_,_,true,rfl,rfl,.str _,rfl,true,rfl,?_⟩;refine⟨_,rfl,txt x,rfl,sG f.1,?_⟩;refine vY (z:=txt x) (λi ys H'=>H'=H8/\ys=[]) ⟨rfl,rfl⟩ (λi ys H' hi y=>by rw[y.2];exact Bj _) (by rw[ex];exact sx) (λi c ys H' B9 y=>?_) (λys H' y p hp=>?_)
   ·obtain⟨rfl,rfl⟩:=y;have M4:c∈x:=by
     have:c∈x.toArray:=Array.mem_of_getElem? B9;simpa using this
    refine⟨_,rfl,_,_,rfl,rfl,_,rfl,?_⟩;rw[uW (f.1 c M4)];exact Nx.mk (P:=λi ys H_1=>H_1=H'/\ys=[]) (EL.mp B9).1 ⟨rfl,rfl⟩
   obtain⟨rfl,rfl⟩:=y;have Sp:=af hp (.lst []);refine⟨aw (by show 0<=1000000;decide),λp2 EX=>⟨.list [],.list [],.lst (a9.of (af EX _ _ _ ae)) .nil,.lst (a9.of ae) .nil,rfl,rfl,(by decide),false,rfl,?_⟩⟩;have Sq:=Sp.trans (af EX (.lst []));generalize upd (upd H' p (.lst [])) p2 (.lst [])=Ha at Sq ⊢;clear Sp hp EX;refine⟨_,rfl,rfl,_,rfl,?_⟩;rw[show decide (V.str (txt x)=V.str (Str.ofString ""))=false from Fp λz=>xn (by injection z with z;exact bU (y:=[]) z)];refine⟨_,rfl,_,rfl,W,ws,x,rfl,Sq _ _ Q1,hw,C0,f.1,λHb Sb b hb=>⟨b,rfl,?_⟩⟩;obtain rfl:b=false:=by
    cases b with
    |false=>rfl
    |true=>exact absurd f.2.1 (hb.mp rfl)
   clear hb;have Sd:=Sq.trans Sb;obtain⟨s0,d0,rfl⟩:∃s0 d0,x=s0++[d0]:=⟨x.dropLast,x.getLast xn,(List.dropLast_concat_getLast xn).symm⟩
   have cs0:∀c∈s0,ox c:=λc hc=>f.1 c (Bu _ hc);have cs1:∀c∈(s0++[d0]).drop 1,ox c:=λc hc=>f.1 c (Cr hc);have b0:¬No (RG ws) s0:=ke f cs0 (.inl (by rw[AV];exact Cm _));have b1:¬No (RG ws) ((s0++[d0]).drop 1):=ke f cs1 (.inl (by rw[By,AV];show s0.length+1-1<s0.length+1;lia));have szx:(txt (s0++[d0])).length<=sizeLine:=by show(txt (s0++[d0])).cps.size<=_;rw[ex];exact sx
   refine⟨_,rfl,_,rfl,1,rfl,_,rfl,txt (s0++[d0]),rfl,szx,W,ws,s0,?_,Sd _ _ Q1,hw,C0,cs0,λHc Sc b2 Ze=>⟨b2,rfl,?_⟩⟩
   ·rw[show(-(1:Int))=-1 from rfl,mi];rfl
   obtain rfl:b2=true:=Ze.mpr b0;have Se:=Sd.trans Sc;refine⟨_,rfl,_,rfl,_,rfl,txt (s0++[d0]),rfl,szx,W,ws,(s0++[d0]).drop 1,?_,Se _ _ Q1,hw,C0,cs1,λHd Sd2 b3 hb3=>⟨b3,rfl,?_⟩⟩
   ·rw[qO];rfl
   obtain rfl:b3=true:=hb3.mpr b1;exact⟨_,rfl,Dr.of_same UG (Se.trans Sd2)⟩
  ·refine⟨_,rfl,rfl,_,rfl,?_⟩;refine⟨_,rfl,by decide,by decide,?_⟩;refine bF (lo:=0) (n:=5) (λj c5 H'=>∃x8,c5=[some (.ref a),some (.int (0+(i:Int))),some (.ref l),some (.ref W),some (.ref M),some (.ref hd),some V.f6,some v,x8]/\Dr l H8 H') ⟨_,rfl,Dr.refl UG⟩ (λj c5 H' hj z=>?_) (fun c5 H' z=>?_)
   ·obtain⟨e8,rfl,dj⟩:=z;refine⟨_,rfl,_,rfl,l,40,rfl,by decide,by decide,dj.ds,λz1 Ha da r1 _ m1=>?_⟩;refine⟨_,rfl,l,40,rfl,by decide,by decide,da.ds,λz2 Hb db r2 _ m2=>?_⟩;have dk:=dj.trans (da.trans db);have WE:(z1++z2).length<=80:=by rw[qb];lia
    refine⟨z1,z2,rfl,rfl,aw (by rw[qb] at WE;lia),_,rfl,z1++z2,rfl,aw (by lia),W,ws,(Txt.slice (z1++z2) none (some 60)).cps.toList,by rw[<- dh];rfl,aS l _ _ _ (dk.same _ _ gWh),hw,C0,λc hc=>?_,λHc Sc b hb=>⟨b,rfl,?_⟩⟩
    ·have:=cM hc;rw[dR] at this;exact(Ba.mp this).elim (r1 c) (r2 c)
    obtain rfl:b=true:=hb.mpr (f _ λc hc=>by
     have:=cM hc;rw[dR] at this
     exact (Ba.mp this).elim (r1 c) (r2 c))
    exact⟨_,rfl,dk.trans (Dr.of_same dk.ds Sc)⟩
   ·obtain⟨e8,rfl,dj⟩:=z;exact⟨_,rfl,dj⟩
 clear x8;rintro _ H9 ⟨x8,rfl,d9⟩;have gW9:=d9.same _ _ gWh;have ds9:=d9.ds;have hu:u=.f6\/∃x,u=.str (txt x)/\x.length<=9500000:=su.elim (λRY=>by obtain⟨x,e,h,_⟩:=RY;exact .inr ⟨x,e,h⟩) λh=>.inl h.1;have Pu:∀y:A7,(∀c∈y,ox c)->(∀x,u=.str (txt x)->m8 y x)->¬No (RG ws) y:=λy hy hb=>su.elim (λRX=>by obtain⟨x,e,_,f⟩:=RX;exact ke f hy (hb x e)) λh=>h.2 y hy;refine⟨_,rfl,u,rfl,hu,λp yl ZX Q7 np TN l10 my=>?_⟩;have TK:=Q7 _ _ (aS l _ _ _ gW9);refine⟨p,rfl,⟨_,a9.of TN⟩,?_⟩;refine cY (K:=K) (a:=p) (xs:=ak yl) (λk zs H'=>zs=[]/\FZ ZX H') ⟨rfl,FZ.refl _⟩ (λk zs H' hk z=>by rw[z.1];exact Bj _) (aw (by rw[ax];lia)) (λk zs H' hk z=>a9.of (z.2 _ _ TN)) (λk v zs H' hv z=>?_) (λzs H' z p2 EX=>?_)
 ·obtain⟨rfl,z2⟩:=z;obtain⟨y,hy,rfl⟩:=jF hv;have ym:=Bp hy;refine⟨_,rfl,_,rfl,W,ws,y,rfl,z2 _ _ TK,hw,C0,(my y ym).1,λl0 S b hb=>⟨b,rfl,?_⟩⟩;obtain rfl:b=true:=hb.mpr (Pu y (my y ym).1 (my y ym).2.2);exact Nx.mk (P:=λk zs H'=>zs=[]/\FZ ZX H') (Be.mp hv).1 ⟨rfl,z2.trans S⟩
 obtain⟨rfl,z2⟩:=z;refine⟨aw (by show 0<=1000000;decide),λp3 YG=>⟨.list [],.list [],.lst (a9.of (af YG _ _ _ ae)) .nil,.lst (a9.of ae) .nil,rfl,rfl,(by decide),false,rfl,?_⟩⟩;have Sz:=Q7.trans (z2.trans ((af EX (.lst [])).trans (af YG (.lst []))));generalize upd (upd H' p2 (.lst [])) p3 (.lst [])=Hz at Sz ⊢;clear z2 EX YG TK Q7 TN np;have Az:j6 T Hi Hz:=(tj (A4.trans (j6.of UI)) nl d9).trans (j6.of Sz);have Lz:GR JJ JH T Hz:=(GR.dr (L4.same UI) UG d9).same Sz;have Zu:Hz M=some (.lst ys):=Sz _ _ (aS l _ _ _ (d9.same _ _ (by rw[dQ nMl];exact ZS _ _ gM)));have mkz:Jk Hz ys ws:=mQ Sz (mQ (aS l _) (mQ d9.same (Jk.v7 UG (mQ ZS QO))));refine⟨_,rfl,M,ys,rfl,.inl (a9.of Zu),λmc nmc=>?_⟩;have Sm:=af nmc (.lst ys);refine⟨mc,ys,ws,rfl,ae,mQ Sm mkz,hw,Lz.same Sm,λdn H' hdj Sx Lx=>?_,λpp la lb ra rb dn E f H' _ _ _ _ _ gpp _ _ Sx Lx=>?_⟩
 rotate_left
 ·exact⟨rfl,false,rfl,_,_,_,_,_,_,_,_,rfl,Si.trans (Az.trans ((j6.of Sm).trans Sx)),Lx⟩
 obtain⟨ps9,gT9,_⟩:=(Lz.same Sm).ex;have gM':=Sx _ _ (bB (Sm _ _ Zu) gT9 (λz=>by cases z)) (Sm _ _ Zu);have mk':Jk H' ys ws:=Paired.Hw (mQ Sm mkz) λv t RW=>by obtain⟨a,e,g⟩:=RW;exact⟨a,e,Sx _ _ (bB g gT9 (λz=>by cases z)) g⟩
 refine⟨rfl,true,rfl,?_⟩;refine⟨_,rfl,rfl,_,rfl,M,ys,rfl,.inl (a9.of gM'),λmc2 Wh=>?_⟩;have Sn:=af Wh (.lst ys);refine⟨mc2,ys,ws,rfl,ae,mQ Sn mk',hw,λLm p4 ZW hL S11 gp=>⟨aw (by show 2<=1000000;decide),λp5 np5=>?_⟩⟩;have Q6:=af np5 (.tup [.int 1,.int 1]);have fr:=oV hw hL hdj;generalize low (KW ws Lm) Lm=tb at gp fr;have ev:PyData.eqv (.tuple [.int ((tb.1:Nat):Int),.int ((tb.2:Nat):Int)]) (.tuple [.int 1,.int 1])=decide (u=.f6):=by
  show(decide (((tb.1:Nat):Int)=1)&&(decide (((tb.2:Nat):Int)=1)&&true))=_;have un:u=.f6↔tb=(1,1):=by
   rw[<- fr];refine⟨λe=>su.elim (λ⟨x,h,_⟩=>by rw[h] at e;cases e) λh=>h.2,λh=>su.elim (λRV=>?_) λh=>h.1⟩;obtain⟨x,_,_,f⟩:=RV;exact absurd f.2.1 (h x f.1)
  rw[FL,BQ,BQ,decide_eq_true_iff,decide_eq_true_iff,decide_eq_true_iff,un];obtain⟨t1,t2⟩:=tb;rw[Prod.mk.injEq];constructor
  ·rintro⟨h1,h2,_⟩;have h1:((t1:Nat):Int)=1:=h1;have h2:((t2:Nat):Int)=1:=h2;exact⟨by lia,by lia⟩
  ·rintro⟨rfl,rfl⟩;exact⟨rfl,rfl,rfl⟩
 refine⟨.tuple [.int ((tb.1:Nat):Int),.int ((tb.2:Nat):Int)],.tuple [.int 1,.int 1],.tup (i5.of (Q6 _ _ gp)) (.cons (.int _) (.cons (.int _) .nil)),.tup (i5.of ae) (.cons (.int _) (.cons (.int _) .nil)),rfl,rfl,(by show 1<=60;decide),?_⟩;rw[ev];refine⟨rfl,false,?_,?_⟩
 ·show V.bl (!decide (V.bl (decide (u=V.f6))=V.bl (decide (u=V.f6))))=_;rw[Fo rfl];rfl
 have Sf:j6 T H' (upd ZW p5 (.tup [.int 1,.int 1])):=j6.of (Sn.trans (S11.trans Q6));exact⟨_,_,_,_,_,_,_,_,rfl,Si.trans (Az.trans ((j6.of Sm).trans (Sx.trans Sf))),((Lx.same Sn).same S11).same Q6⟩
end
theorem jn{us:A8}(h:us.length=1):∃a,us=[a]:=match us,h with|[a],_=>⟨a,rfl⟩
theorem qC{us:A8}(h:us.length=2):∃a b,us=[a,b]:=match us,h with|[a,b],_=>⟨a,b,rfl⟩
theorem vt{us:A8}(h:us.length=3):∃a b c,us=[a,b,c]:=match us,h with|[a,b,c],_=>⟨a,b,c,rfl⟩
def m7 (K:W.Frag)(fn:Str)(st:Stmt):Prop:=∃(f:Addr)(oc:Value)(od an:Option Addr)(sl:Array (Option Value))(kV dc pm cd ct:Value),W.nsIn K mainGlobals fn=some (some (.ref f))/\K.lookup f=some ⟨oc,od,.func (W.fnOf fn fn (bR st) (bE st) (ar st) .none kV dc pm an cd ct),sl⟩/\W.codeIn K cd fn=true/\W.keepIn K (.ref f)=true
theorem m7.of{K:W.Frag}{fn:Str}{st:Stmt}{f:Addr}{oc:Value}{od an:Option Addr}{sl:Array (Option Value)}{kV dc pm cd ct:Value}(a:W.nsIn K mainGlobals fn=some (some (.ref f)))(l:K.lookup f=some ⟨oc,od,.func (W.fnOf fn fn (bR st) (bE st) (ar st) .none kV dc pm an cd ct),sl⟩)(c:W.codeIn K cd fn=true)(k:W.keepIn K (.ref f)=true):m7 K fn st:=⟨f,oc,od,an,sl,kV,dc,pm,cd,ct,a,l,c,k⟩
theorem m7.dd{K:W.Frag}{fn:Str}{st:Stmt}{h:Heap}{mg:Str->Option Value}(a:m7 K fn st)(X:K.In h)(G:h.Ns mainGlobals mg){ps:List Str}(hb:∀(kV doc pm:Value)(an:Option Addr)(l6 ct:Value)(us:A8),us.length=ps.length->bindArgs (W.fnOf fn fn (bR st) (bE st) (ar st) .none kV doc pm an l6 ct) ⟨us,[]⟩=pure (ps.zip us)):∃d:DD,Def K mg fn st ps d:=by
 obtain⟨f,oc,od,an,sl,kV,dc,pm,cd,ct,a,l,c,k⟩:=a;have F:=oo (st:=st) l c k;exact⟨⟨f,_⟩,F,FF X G a,F.binds (ps:=ps) hb⟩
theorem all_mk{l:W.OpenLaw}{w:World}{K:W.Frag}{h:Heap}{mg:Str->Option Value}{fa:Addr}(X:K.In h)(G:h.Ns mainGlobals mg)(hfa:mg "law"=some (.ref fa))
  (zK:m7 K "is_whole" (top 6))
  (Au:m7 K "is_table" (top 7))
  (zL:m7 K "worth" (top 8))
  (zJ:m7 K "_law_times" (top 38))
  (zU:m7 K "_law_made" (top 39))
  (Ax:m7 K "_law_of_letters" (top 40))
  (zS:m7 K "_law_draw" (top 35))
  (zF:m7 K "_law_draws" (top 34))
  (zI:m7 K "is_plain" (top 10))
  (a_ww:m7 K "word_within" (top 11))
  (Aw:m7 K "maker_word" (top 15))
  (Av:m7 K "maker_words" (top 16))
  (zH:m7 K "_law_piece" (top 36))
  (a_sm:m7 K "_law_short_makers" (top 37))
  (a_rb:m7 K "rests_behind" (top 19))
  (a_ar:m7 K "all_rests" (top 21))
  (a_fr:m7 K "further_rests" (top 22))
  (AA:m7 K "stuck" (top 23))
  (Ay:m7 K "share" (top 20))
  (a_fp:m7 K "first_pairs" (top 25))
  (AD:m7 K "words_within" (top 26))
  (AC:m7 K "words_beyond" (top 27))
  (a_fs:m7 K "first_steps" (top 28))
  (a_ns:m7 K "next_steps" (top 29))
  (a_ks:m7 K "keep_shorter" (top 30))
  {f_to:Addr}{od_to an_to:Option Addr}{sl_to:Array (Option Value)}{oc_to kV_to dc_to pm_to cd_to ct_to:Value}
  (a_to:W.nsIn K mainGlobals "twins_of"=some (some (.ref f_to)))(l_to:K.lookup f_to=some ⟨oc_to,od_to,.func (W.fnOf "twins_of" "twins_of" (bR (top 31)) (bE (top 31)) (ar (top 31)) .none kV_to dc_to pm_to an_to cd_to ct_to),sl_to⟩)(c_to:W.codeIn K cd_to "twins_of"=true)(k_to:W.keepIn K (.ref f_to)=true)
  (AB:m7 K "twins" (top 32))
  (Aq:m7 K "_law_can" (top 41))
  (zE:m7 K "_law_ahead" (top 42))
  (zG:m7 K "_law_first" (top 43))
  {f_law:Addr}{od_law an_law:Option Addr}{sl_law:Array (Option Value)}{oc_law kV_law dc_law pm_law cd_law ct_law:Value}
  (Ag:W.nsIn K mainGlobals "law"=some (some (.ref f_law)))(l_law:K.lookup f_law=some ⟨oc_law,od_law,.func (W.fnOf "law" "law" (bR (top 44)) (bE (top 44)) (ar (top 44)) .none kV_law dc_law pm_law an_law cd_law ct_law),sl_law⟩)(c_law:W.codeIn K cd_law "law"=true)(k_law:W.keepIn K (.ref f_law)=true)
  {one:Addr}(AH:W.nsIn K mainGlobals "ONE"=some (some (.ref one)))
  {odo_ONE:Option Addr}{ito_ONE:Array Value}{no_ONE:Nat}{slo_ONE:Array (Option Value)}(l_ONE:K.lookup one=some ⟨.type "tuple",odo_ONE,.seq ito_ONE no_ONE,slo_ONE⟩)(z_ONE:ito_ONE.size<=sizeLine)(v_ONE:Vals Tb.one.vs ito_ONE.toList)
  {t_LM:Tok}(e_LM:W.nsIn K mainGlobals "LONGEST_MAKER"=some (some (.int 40 t_LM)))
  {t_MM:Tok}(e_MM:W.nsIn K mainGlobals "MOST_MAKERS"=some (some (.int 8 t_MM)))
  {t_MTG:Tok}(AG:W.nsIn K mainGlobals "MOST_LETTERS_TOGETHER"=some (some (.int 30 t_MTG)))
  {ZK tA Qx:Addr}{Rp:Obj}(ec:cd_to=.ref ZK)(Za:∀h:Heap,K.In h->W.CodeHd h ZK tA)(Wl:mainGlobals≠tA)(e_BI:W.nsIn K mainGlobals "__builtins__"=some (some (.ref Qx)))(l_BI:K.lookup Qx=some Rp)(p_BI:Qx≠builtinsNs/\Qx≠mainGlobals/\Qx≠tA/\Rp.cls=.type "module"/\Rp.dict=some builtinsNs/\Rp.data=.plain)
  (AJ:W.nsIn K mainGlobals "int"=some none)   (zW:W.nsIn K mainGlobals "bool"=some none)   (yZ:W.nsIn K mainGlobals "isinstance"=some none)   (zN:W.nsIn K mainGlobals "tuple"=some none)   (zX:W.nsIn K mainGlobals "list"=some none)   (AN:W.nsIn K mainGlobals "str"=some none)   (AK:W.nsIn K mainGlobals "len"=some none)   (AI:W.nsIn K mainGlobals "all"=some none)   (zM:W.nsIn K mainGlobals "range"=some none)   (AL:W.nsIn K mainGlobals "max"=some none)   (AM:W.nsIn K mainGlobals "min"=some none)   (AO:W.nsIn K mainGlobals "sum"=some none)   (zb:W.nsIn K mainGlobals "enumerate"=some none)   (zq:W.nsIn K mainGlobals "sorted"=some none) :
  ∃fd:FuncData,(∀(s:Shared)(v:Value),BindsTo s fd ⟨[v],[]⟩ [("script",v)])/\∀base:Heap,K.In base->base.Ns mainGlobals mg->Gf l.prog w K mg base Ml 7 fa fd ["script"] (qE tA K):=by
 have e:=hfa.symm.trans (FF X G Ag);cases e;have zP:=FG X G AJ;have zV:=FG X G zW;have yR:=FG X G yZ;have yT:=FG X G zN;have yX:=FG X G zX;have AF:=FG X G AN;have yQ:=FG X G AK;have AE:=FG X G AI;have yP:=FG X G zM;have zQ:=FG X G AL;have zl:=FG X G AM;have zo:=FG X G AO;have yW:=FG X G zb;have yS:=FG X G zq;obtain ⟨d_whole,zc⟩ :=zK.dd X G (ps:=["thing"]) (by walk_at "u");obtain ⟨d_ist,zY⟩ :=Au.dd X G (ps:=["thing"]) (by walk_at "u");obtain ⟨d_worth,zj⟩ :=zL.dd X G (ps:=["table"]) (by walk_at "u");obtain ⟨d_times,zi⟩ :=zJ.dd X G (ps:=["one","other"]) (by walk_at "u");obtain ⟨d_made,zO⟩ :=zU.dd X G (ps:=["tables"]) (by walk_at "u");obtain ⟨d_ofl,Aa⟩ :=Ax.dd X G (ps:=["word"]) (by walk_at "u");obtain ⟨d_draw,yU⟩ :=zS.dd X G (ps:=["draws","many"]) (by walk_at "u");obtain ⟨d_draws,zf⟩ :=zF.dd X G (ps:=["script","k"]) (by walk_at "u");obtain ⟨d_plain,zh⟩ :=zI.dd X G (ps:=["table"]) (by walk_at "u");obtain ⟨d_ww,D_ww⟩ :=a_ww.dd X G (ps:=["table","most"]) (by walk_at "u");obtain ⟨d_mkw,zZ⟩ :=Aw.dd X G (ps:=["maker"]) (by walk_at "u");obtain ⟨d_mks,zd⟩ :=Av.dd X G (ps:=["makers"]) (by walk_at "u");obtain ⟨d_piece,yY⟩ :=zH.dd X G (ps:=["draws","most"]) (by walk_at "u");obtain ⟨d_sm,Nn⟩ :=a_sm.dd X G (ps:=["draws","most","together"]) (by walk_at "u");obtain ⟨d_rb,D_rb⟩ :=a_rb.dd X G (ps:=["words","rests","letter"]) (by walk_at "u");obtain ⟨d_ar,D_ar⟩ :=a_ar.dd X G (ps:=["words"]) (by walk_at "u");obtain ⟨d_fr,D_fr⟩ :=a_fr.dd X G (ps:=["words","texts","waiting"]) (by walk_at "u");obtain ⟨d_stk,Ac⟩ :=AA.dd X G (ps:=["makers"]) (by walk_at "u");obtain ⟨d_shr,Ab⟩ :=Ay.dd X G (ps:=["makers"]) (by walk_at "u");obtain ⟨d_fp,D_fp⟩ :=a_fp.dd X G (ps:=["words"]) (by walk_at "u");obtain ⟨d_win,Af⟩ :=AD.dd X G (ps:=["words","text"]) (by walk_at "u");obtain ⟨d_wbe,Ae⟩ :=AC.dd X G (ps:=["words","text"]) (by walk_at "u");obtain ⟨d_fs,D_fs⟩ :=a_fs.dd X G (ps:=["words"]) (by walk_at "u");obtain ⟨d_ns,D_ns⟩ :=a_ns.dd X G (ps:=["words","left","found"]) (by walk_at "u");obtain ⟨d_ks,D_ks⟩ :=a_ks.dd X G (ps:=["waiting","done","steps"]) (by walk_at "u");have F_to:=oo (st:=top 31) l_to c_to k_to;have D_to:Def K mg "twins_of" (top 31) ["words"] ⟨f_to,_⟩ :=⟨F_to,FF X G a_to,F_to.binds (ps:=["words"]) λ_ _ _ _ _ _ us hl=>by obtain ⟨_,rfl⟩ :=jn hl;rfl⟩
 obtain ⟨d_twn,Ad⟩ :=AB.dd X G (ps:=["makers"]) (by walk_at "u");obtain ⟨d_can,zr⟩ :=Aq.dd X G (ps:=["words","text"]) (by walk_at "u");obtain ⟨d_ahead,ze⟩ :=zE.dd X G (ps:=["text"]) (by walk_at "u");obtain ⟨d_first,zg⟩ :=zG.dd X G (ps:=["words","most"]) (by walk_at "u");have F_law:=oo (st:=top 44) l_law c_law k_law;have AQ:Def K mg "law" (top 44) ["script"] ⟨fa,_⟩ :=⟨F_law,FF X G Ag,F_law.binds (ps:=["script"]) λ_ _ _ _ _ _ us hl=>by obtain ⟨_,rfl⟩ :=jn hl;rfl⟩
 have kO:∀H,i5 K H one Tb.one.vs:=λH=>.inr ⟨_,ito_ONE,no_ONE,l_ONE,rfl,rfl,z_ONE,v_ONE⟩;have mO:=FF X G AH;have LK:Np K mg ZK tA:=⟨Za,λh KX=>⟨Qx,Rp,FF X G e_BI,p_BI.1,p_BI.2.1,p_BI.2.2.1,KX _ _ l_BI,p_BI.2.2.2⟩,Wl⟩
 refine⟨W.fnOf "law" "law" (bR (top 44)) (bE (top 44)) (ar (top 44)) .none kV_law dc_law pm_law an_law cd_law ct_law,λs v=>.of_eq rfl,λbase _ _=>?_⟩;have zC:=rF (P:=l.prog) (w:=w) (base:=base) zc zP zV yR;have Ah:=xu ⟨zc,zC⟩ zY yT yQ AE yR;have zD:=qU (P:=l.prog) (w:=w) (base:=base) zj;have zB:=qy (P:=l.prog) (w:=w) (base:=base) zi yP yT;have zR:=qD ⟨zi,zB⟩ zO;have Aj:=xg ⟨zO,zR⟩ Aa;have yV:=uD (P:=l.prog) (w:=w) (base:=base) yU;have zv:=rQ (P:=l.prog) (w:=w) (base:=base) zf yQ zP;have zA:=se ⟨zY,Ah⟩  ⟨zj,zD⟩ zh zl;have G_ww:=yd (P:=l.prog) (w:=w) (base:=base) mO kO D_ww yQ;have Ai:=wI (FF X G e_LM) ⟨zh,zA⟩  ⟨D_ww,G_ww⟩ zZ;have zk:=wX (FF X G e_MM) ⟨zZ,Ai⟩ zd yR yX yQ;have za:=qQ ⟨yU,yV⟩ yY yP;have NB:=yg ⟨yU,yV⟩  ⟨yY,za⟩ Nn yP yQ zo;have G_rb:=yz (P:=l.prog) (w:=w) (base:=base) D_rb yX yT yS;have G_ar:=ye (P:=l.prog) (w:=w) (base:=base) D_ar yT yS yP yQ;have G_fr:=yk ⟨D_rb,G_rb⟩ D_fr;have Am:=xh (FF X G AG) ⟨zd,zk⟩  ⟨D_ar,G_ar⟩  ⟨D_fr,G_fr⟩ Ac yQ zo yX;have Ak:=vH ⟨zd,zk⟩ Ab yQ zQ zo;have G_fp:=xJ (P:=l.prog) (w:=w) (base:=base) D_fp yQ yP;have Ap:=we (P:=l.prog) (w:=w) (base:=base) Af yW;have Ao:=vC (P:=l.prog) (w:=w) (base:=base) Ae yW;have G_fs:=xW ⟨D_fp,G_fp⟩ D_fs yQ;have G_ns:=yn ⟨Af,Ap⟩  ⟨Ae,Ao⟩ D_ns yQ;have G_ks:=ya (P:=l.prog) (w:=w) (base:=base) D_ks;have G_to:=yw LK ec ⟨D_fs,G_fs⟩  ⟨D_ks,G_ks⟩  ⟨D_ns,G_ns⟩ D_to zl;have An:=wu ⟨zd,zk⟩  ⟨D_to,G_to⟩ Ad;have zu:=wW (P:=l.prog) (w:=w) (base:=base) zr yP yQ;have zt:=rn (P:=l.prog) (w:=w) (base:=base) ze yP yQ yS;have zw:=rX (P:=l.prog) (w:=w) (base:=base) zg yP yQ yT yS;have Al:All tA l.prog w K mg base ⟨d_draws,d_draw,d_piece,d_sm,d_ofl,d_can,d_ahead,d_first,d_shr,d_stk,d_twn⟩:=
  ⟨zf,yU,yY,Nn,Aa,zr,ze,zg,Ab,Ac,Ad,zv,yV,za,NB,Aj,zu,zt,zw,Ak,Am,An,yP,zQ,zl,yQ,yR,yX,AF⟩
 exact wm Al AQ
theorem walk{l:W.OpenLaw}{q:Program}{loose:List Str}{XP:(Str->Option Value)->Heap->Prop}{YP:World->Heap->Prop}{d:DefRec}{K KF:Params->W.Frag}{T c0:Addr}{ps:Array Value}(hn:l.most=some 63)(Tr:d.params.defaults=[])(OA:TriplesOk ps.toList/\codeAmong JJ ps.toList=none)
  (hY:∀(w:World)(h:Heap),YP w h->(KF w.params).In h)(Tv:∀(p:Params)(h:Heap),(KF p).In h->(K p).In h/\h.get? T=some (W.tabObj ps)/\W.CodeHd h c0 T)(kT:∀p:Params,(K p).lookup T=none)
  (F:∀(w:World) (mg:Str->Option Value) (fa:Addr) (h:Heap),(K w.params).In h->h.Ns mainGlobals mg->mg d.name=some (.ref fa) ->
   ∃fd:FuncData,(∀(s:Shared) (u:Value),BindsTo s fd ⟨[u],[]⟩ [("script",u)])/\∀base:Heap,(K w.params).In base->base.Ns mainGlobals mg->Gf l.prog w (K w.params) mg base Ml 7 fa fd ["script"] (qE T (K w.params))) :
  W.WalkO q loose XP YP l.row.toRowW d [] (λf vs=>PySem.call f vs):=
 L2.KJ (n:=63) (k:=7) (x:="script") (CX:=λ_=>Ml) (sp:=λw=>qE T (K w.params)) hn (by decide) Tr ⟨rfl,by decide,by decide⟩ hY Tv kT F (λ_ _ a ns hl gT hS=>⟨a,ns,rfl,hS,hl,⟨ps,gT,OA.1,.inl OA.2⟩,λ_=>rfl⟩) λ_ _ _ _ _ z=>z
end K3
namespace Hd
open PySem PySem.W PyProof.Rows
noncomputable section
def run (den:Code->Sem Fin)(ok:Nat->Option Value->Thread->Bool)(st:(Code->Sem Fin)->Program->World->SharedT->Thread->Option (SharedT×Thread))(p:Program)(w:World)(m:Nat)(ann:Option Value):Nat->SharedT->Thread->Option SharedT
 |0,_,_=>none
 |n+1,s,t=>match through t with
  |true=>some s
  |false=>match ok m ann t with
   |false=>none
   |true=>match st den p w s t with
    |some r=>run den ok st p w m ann n r.1 r.2
    |none=>none
theorem tL{tb:String->Option Builtin}{p:Program}{w:World}{m:Nat}{ann:Option Value}:∀{n:Nat}{s r:SharedT}{t:Thread},run (denote tb) stepOk stepT p w m ann n s t=some r->topRun tb p w m ann n s.abs t=some r.abs
 |0,_,_,_,h=>by cases h
 |n+1,s,r,t,h=>by
  unfold run at h;unfold topRun;cases ht:through t with
  |true=>rw[ht] at h;cases h;rfl
  |false=>
   rw[ht] at h;cases hk:stepOk m ann t with
   |false=>rw[hk] at h;cases h
   |true=>
    rw[hk] at h;cases hs:stepT (denote tb) p w s t with
    |none=>rw[hs] at h;cases h
    |some r=>rw[hs] at h;rw[stepT_spec hs];exact tL h
def grow:List Obj->Nat->BT->BT
 |[],_,t=>t
 |o::l,n,t=>grow l (n+1) (t.ins n o)
def xO(P:Params):BT:=grow (boot_heap P).objs.toList 0 .nil
abbrev first(w:World)(os:OsState):SharedT:=⟨xO w.params,(boot_heap w.params).objs.size,(boot_heap w.params).life,#[],boot_drawn,boot_toks,os⟩
theorem oO(w:World)(os:OsState):(first w os).abs=⟨boot_heap w.params,#[],boot_drawn,boot_toks,os⟩:=by kernel_rfl
def vL(P:Params):Option Value:=(boot_heap P).nsMap mainGlobals "__annotations__"
def vM(N2:Program->List Str->List Str->(Shared->Bool)->Bool->Shared->_)(p q:Program)(loose:List Str)(Xt:Shared->Bool)(as:B2)(h:Heap)(s:Shared):=
 ((staticsOk (importedModules p.main.body) h s.heap&&namesBound p s.heap&&gensDone s&&laidKept h s.heap),(N2 q loose (importedModules p.main.body) Xt true s:type_of% (openSeen q loose (importedModules p.main.body) Xt true s)),as.map s.heap.get?)
abbrev wa(den:Code->Sem Fin)(ok:Nat->Option Value->Thread->Bool)(st:(Code->Sem Fin)->Program->World->SharedT->Thread->Option (SharedT×Thread))
  (N2:(q:Program)->(loose mods:List Str)->(Xt:Shared->Bool)->Bool->(s:Shared)->type_of% (openSeen q loose mods Xt true s))(p q:Program)(loose:List Str)(Xt:Shared->Bool)(K:Params->Frag)(as:B2)(N:Nat)(w:World):Prop:=
 (λos=>(run den ok st p w (boot_heap w.params).objs.size (vL w.params) N (first w os) (topStub p)).map λs=>vM N2 p q loose Xt as (boot_heap w.params) s.abs)=λ_=>some (true,openGood q loose,(K w.params).map λx=>some x.2)
theorem yt{p q:Program}{loose:List Str}{Xt:Shared->Bool}{K:Params->Frag}{as:B2}{N:Nat}(e:opening p=plainProg p.main.scope.names)(hN:Nat.ble 600 N=true)(f:∀s,fenceModules? p s=some s)
  (size:∀P:Params,(boot_heap P).isNs mainGlobals=true)(key:∀w,wa (denote treeTable) stepOk stepT openSeen p q loose Xt K as N w) :
  LeftO p q loose Xt (λs=>as.map s.heap.get?) (λw=>(K w.params).map λx=>some x.2) N true:=λw=>by
 obtain⟨⟨h,gs,d,k,os⟩,e1,e2⟩:=Co.mp (boot_open (p:=p) (N:=N) e hN f w);obtain⟨rfl,rfl,rfl,rfl⟩:h=boot_heap w.params/\gs=Array.mk []/\d=boot_drawn/\k=boot_toks:=by simpa using e2
 obtain⟨s,r,l⟩:=Co.mp (congrFun (key w) os);have r':=tL r;rw[oO] at r';unfold vM at l;obtain⟨l1,l2,l3⟩:_/\_/\_:=by simpa only [Prod.mk.injEq] using l
 have t:topFrom treeTable p w N ⟨boot_heap w.params,#[],boot_drawn,boot_toks,os⟩=some s.abs:=by
  unfold topFrom;dsimp only;rw[size w.params];show(topRun treeTable p w (boot_heap w.params).objs.size (vL w.params) N _ _).bind _=_;rw[r'];show(match staticsOk (importedModules p.main.body) (boot_heap w.params) s.abs.heap&&namesBound p s.abs.heap&&gensDone s.abs&&laidKept (boot_heap w.params) s.abs.heap with|true=>_|false=>_)=_;rw[l1]
 unfold openEnds;rw[e1];show(topFrom treeTable p w N _).map _=_;rw[t];exact congrArg some (Prod.ext l2 l3)
abbrev en(P:Params)(x:Str)(t:Tok)(v:Value):DictEntry:=⟨PyData.keyHash P x,.str x t,v⟩
abbrev dn:=PySem.W.Fast.tw11892475500146522536 PySem.W.Fast.tw14364793385576792824
abbrev wF(p q:Program)(loose:List Str)(Xt:Shared->Bool)(K:Params->Frag)(as:B2)(N:Nat)(w:World):Prop:=wa dn PySem.W.Fast.tw6613529449190102663 PySem.W.Fast.tw10156331382660048174 PySem.W.Fast.tw4187177175401517315 p q loose Xt K as N w
theorem WK{p q:Program}{loose:List Str}{Xt:Shared->Bool}{K:Params->Frag}{as:B2}{N:Nat}(h:∀w:World,wF p q loose Xt K as N w):∀w,wa (denote treeTable) stepOk stepT openSeen p q loose Xt K as N w:=λw=>by
 rw[PySem.W.Fast.te10156331382660048174,PySem.W.Fast.te11892475500146522536,PySem.W.Fast.te14364793385576792824,PySem.W.Fast.te6613529449190102663,PySem.W.Fast.te4187177175401517315];exact h w
abbrev xt(l:OpenLaw)(q:Program)(s:Shared):Bool:=xlAt q [] s&&recOk (RowW.records l.row.toRowW) s
theorem xk(P:Params):(boot_heap P).isNs mainGlobals=true:=by kernel_rfl
theorem head{l:OpenLaw}{q:Program}{loose:List Str}{K:Params->Frag}{as:B2}{N:Nat}{d:DefRec}(Vd:l.wellSaid=true)(e:opening l.prog=plainProg l.prog.main.scope.names)(hN:Nat.ble 600 N=true)(f:∀s,fenceModules? l.prog s=some s)
  (key:∀w,wa (denote treeTable) stepOk stepT openSeen l.prog q loose (xt l q) K as N w)(hK:∀P,as=(K P).map (·.1))
  (Y7:defOf q l.row.name=some (d,[]))(hp:l.row.prog.theDef l.row.name=some (d.params,d.body,d.scope))(hk:kwWritten? d.params.kwonlyargs d.params.kw_defaults=some [])(hwr:(!l.row.writes||l.row.records.isEmpty)=true)
  (ok:(chainsOk q&&opensWell l.row.prog&&(frees l.row.toRowW&&l.row.within.isEmpty))=true)(hb:l.row.prog.bare)(hw:l.row.toRowW.promised)
  (call:WalkO q loose (XL q []) (InK K) l.row.toRowW d [] λf vs=>PySem.call f vs):l.Holds:=
 holds_law Vd λk1=>holds_open (Xt:=xt l q) (yt e hN f xk key) (InK.of hK) InK.keeps (λs e=>xl_of s (Bool.and_eq_true_iff.mp e).1) XL.keeps Y7 hp hk (λs e=>recFacts_of (Bool.and_eq_true_iff.mp e).2) hwr k1 ok hb hw call
end
end Hd
namespace Hd
open PySem PySem.W PyProof.Rows L2 K3
noncomputable section
abbrev pw:=PySem.Challenge.pw_quadwords_k27_whole_stuck_texts
def loose:List Str:=[]
def keep:A7:=[1,2,3,5,6,7,8,10,11,13,14,15,16,18,19,20,21,22,23,25,26,27,28,29,30,31,32,34,35,36,37,38,39,40,41,42,43,44]
abbrev cO(n:Str)(t t1 t2:Nat)(l a f:Int)(v1 v2 v3 v4 v5 v6:Value)(u:Int)(t3:Nat):Obj:=⟨.type "code",none,.fields #[.str n t,.str n t1,.str "/claim/cut.py" t2,.int l 0,.int a 0,.int 0 0,.int 0 0,.int f 0,v1,.bool true,.int 181 0,v2,v3,v4,v5,v6,.int u 0,.int l 0,.str "/claim/cut.py" t3],#[]⟩
abbrev fO(n:Str)(s:Stmt)(m:Value)(c:Addr):Obj:=⟨.type "function",none,.func (PySem.W.fnOf n n (bR s) (bE s) (ar s) .none .none .none m none (.ref c) .none),#[]⟩
def o3(P:Params):Obj:=⟨.type "dict",none,(.dict #[en P "__name__" 165 (.str "law_quadwords_k27_whole_stuck_texts" 417),en P "__doc__" 166 .none,en P "__package__" 167 .none,en P "__loader__" 168 (.builtin "__main__.__loader__#opaque"),en P "__spec__" 169 .none,en P "__annotations__" 170 (.ref 6),en P "__builtins__" 171 (.ref 4),en P "__file__" 173 (.str "/claim/cut.py" 172),en P "__cached__" 174 .none,en P "QuadError" 206 (.ref 24),en P "NoMakers" 222 (.ref 37),en P "NoCount" 238 (.ref 49),en P "ONE" 245 (.ref 52),en P "is_whole" 252 (.ref 59),en P "is_table" 258 (.ref 64),en P "worth" 269 (.ref 71),en P "is_plain" 278 (.ref 78),en P "word_within" 291 (.ref 85),en P "MOST_MAKERS" 295 (.int 8 294),en P "LONGEST_MAKER" 297 (.int 40 296),en P "maker_word" 305 (.ref 92),en P "maker_words" 311 (.ref 97),en P "MOST_LETTERS_TOGETHER" 315 (.int 30 314),en P "rests_behind" 321 (.ref 102),en P "share" 327 (.ref 107),en P "all_rests" 333 (.ref 112),en P "further_rests" 346 (.ref 119),en P "stuck" 352 (.ref 124),en P "first_pairs" 360 (.ref 129),en P "words_within" 366 (.ref 134),en P "words_beyond" 372 (.ref 139),en P "first_steps" 378 (.ref 144),en P "next_steps" 384 (.ref 149),en P "keep_shorter" 395 (.ref 156),en P "twins_of" 409 (.ref 163),en P "twins" 416 (.ref 170),en P "_law_draws" 429 (.ref 177),en P "_law_draw" 438 (.ref 184),en P "_law_piece" 444 (.ref 189),en P "_law_short_makers" 450 (.ref 194),en P "_law_times" 462 (.ref 201),en P "_law_made" 471 (.ref 208),en P "_law_of_letters" 477 (.ref 213),en P "_law_can" 491 (.ref 220),en P "_law_ahead" 497 (.ref 225),en P "_law_first" 503 (.ref 230),en P "law" 509 (.ref 235)] 47),#[]⟩
def o4(P:Params):Obj:=⟨.type "module",(some 0),.plain,#[]⟩
def o23(P:Params):Obj:=⟨.type "dict",none,(.dict #[en P "__module__" 196 (.str "quadwords.errors" 187),en P "__firstlineno__" 200 (.int 2 199),en P "__static_attributes__" 201 (.ref 22),en P "__weakref__" 203 (.ref 25),en P "__doc__" 204 .none] 3),#[]⟩
def o24(P:Params):Obj:=⟨.type "type",none,(.cls ⟨"QuadError",[.type "ValueError"],[.ref 24,.type "ValueError",.type "Exception",.type "BaseException",.type "object"],23,"QuadError",true,[],[.ref 37,.ref 49],false,none,false⟩),#[some (.ref 15),none,some (.str "QuadError" 189),some (.str "QuadError" 197),some (.builtin "ValueError.__new__"),some (.bool true)]⟩
def o36(P:Params):Obj:=⟨.type "dict",none,(.dict #[en P "__module__" 214 (.str "quadwords.errors" 187),en P "__firstlineno__" 218 (.int 4 217),en P "__static_attributes__" 219 (.ref 35),en P "__doc__" 220 .none] 2),#[]⟩
def o37(P:Params):Obj:=⟨.type "type",none,(.cls ⟨"NoMakers",[.ref 24],[.ref 37,.ref 24,.type "ValueError",.type "Exception",.type "BaseException",.type "object"],36,"NoMakers",true,[],[],false,none,false⟩),#[some (.ref 28),none,some (.str "NoMakers" 207),some (.str "NoMakers" 215),some (.builtin "ValueError.__new__"),some (.bool true)]⟩
def o48(P:Params):Obj:=⟨.type "dict",none,(.dict #[en P "__module__" 230 (.str "quadwords.errors" 187),en P "__firstlineno__" 234 (.int 6 233),en P "__static_attributes__" 235 (.ref 47),en P "__doc__" 236 .none] 2),#[]⟩
def o49(P:Params):Obj:=⟨.type "type",none,(.cls ⟨"NoCount",[.ref 24],[.ref 49,.ref 24,.type "ValueError",.type "Exception",.type "BaseException",.type "object"],48,"NoCount",true,[],[],false,none,false⟩),#[some (.ref 40),none,some (.str "NoCount" 223),some (.str "NoCount" 231),some (.builtin "ValueError.__new__"),some (.bool true)]⟩
def o52(P:Params):Obj:=⟨.type "tuple",none,(.seq #[.int 1 241,.int 0 242,.int 0 243,.int 1 244] 0),#[]⟩
def o58(P:Params):Obj:=cO "is_whole" 246 247 248 10 1 3 (.ref 53) (.ref 54) .none (.ref 55) (.ref 56) (.ref 57) 250 251
def o59(P:Params):Obj:=fO "is_whole" (top 6) (.str "quadwords.tables" 239) 58
def o63(P:Params):Obj:=cO "is_table" 253 254 255 12 1 3 (.ref 60) (.ref 61) .none .none .none (.ref 62) 256 257
def o64(P:Params):Obj:=fO "is_table" (top 7) (.str "quadwords.tables" 239) 63
def o70(P:Params):Obj:=cO "worth" 259 260 261 14 1 3 (.ref 65) (.ref 66) .none (.ref 67) (.ref 68) (.ref 69) 267 268
def o71(P:Params):Obj:=fO "worth" (top 8) (.str "quadwords.tables" 239) 70
def o77(P:Params):Obj:=cO "is_plain" 272 273 274 18 1 3 (.ref 72) (.ref 73) .none (.ref 74) (.ref 75) (.ref 76) 276 277
def o78(P:Params):Obj:=fO "is_plain" (top 10) (.str "quadwords.plain" 270) 77
def o84(P:Params):Obj:=cO "word_within" 279 280 281 20 2 3 (.ref 79) (.ref 80) .none (.ref 81) (.ref 82) (.ref 83) 289 290
def o85(P:Params):Obj:=fO "word_within" (top 11) (.str "quadwords.plain" 270) 84
def o91(P:Params):Obj:=cO "maker_word" 298 299 300 36 1 3 (.ref 86) (.ref 87) .none (.ref 88) (.ref 89) (.ref 90) 303 304
def o92(P:Params):Obj:=fO "maker_word" (top 15) (.str "quadwords.rows" 292) 91
def o96(P:Params):Obj:=cO "maker_words" 306 307 308 43 1 3 (.ref 93) (.ref 94) .none .none .none (.ref 95) 309 310
def o97(P:Params):Obj:=fO "maker_words" (top 16) (.str "quadwords.rows" 292) 96
def V9(P:Params):Obj:=cO "rests_behind" 316 317 318 49 3 3 (.ref 98) (.ref 99) .none .none .none (.ref 100) 319 320
def V8(P:Params):Obj:=fO "rests_behind" (top 19) (.str "quadwords.counts" 312) 101
def V7(P:Params):Obj:=cO "share" 322 323 324 52 1 3 (.ref 103) (.ref 104) .none .none .none (.ref 105) 325 326
def V6(P:Params):Obj:=fO "share" (top 20) (.str "quadwords.counts" 312) 106
def V5(P:Params):Obj:=cO "all_rests" 328 329 330 60 1 3 (.ref 108) (.ref 109) .none .none .none (.ref 110) 331 332
def V4(P:Params):Obj:=fO "all_rests" (top 21) (.str "quadwords.counts" 312) 111
def V3(P:Params):Obj:=cO "further_rests" 334 335 336 62 3 3 (.ref 113) (.ref 114) .none (.ref 115) (.ref 116) (.ref 117) 344 345
def V2(P:Params):Obj:=fO "further_rests" (top 22) (.str "quadwords.counts" 312) 118
def V1(P:Params):Obj:=cO "stuck" 347 348 349 71 1 3 (.ref 120) (.ref 121) .none .none .none (.ref 122) 350 351
def V0(P:Params):Obj:=fO "stuck" (top 23) (.str "quadwords.counts" 312) 123
def VZ(P:Params):Obj:=cO "first_pairs" 355 356 357 81 1 3 (.ref 125) (.ref 126) .none .none .none (.ref 127) 358 359
def VY(P:Params):Obj:=fO "first_pairs" (top 25) (.str "quadwords.free" 353) 128
def VX(P:Params):Obj:=cO "words_within" 361 362 363 85 2 3 (.ref 130) (.ref 131) .none .none .none (.ref 132) 364 365
def VW(P:Params):Obj:=fO "words_within" (top 26) (.str "quadwords.free" 353) 133
def VU(P:Params):Obj:=cO "words_beyond" 367 368 369 87 2 3 (.ref 135) (.ref 136) .none .none .none (.ref 137) 370 371
def VT(P:Params):Obj:=fO "words_beyond" (top 27) (.str "quadwords.free" 353) 138
def VS(P:Params):Obj:=cO "first_steps" 373 374 375 89 1 3 (.ref 140) (.ref 141) .none .none .none (.ref 142) 376 377
def VR(P:Params):Obj:=fO "first_steps" (top 28) (.str "quadwords.free" 353) 143
def VQ(P:Params):Obj:=cO "next_steps" 379 380 381 92 3 3 (.ref 145) (.ref 146) .none .none .none (.ref 147) 382 383
def VP(P:Params):Obj:=fO "next_steps" (top 29) (.str "quadwords.free" 353) 148
def VO(P:Params):Obj:=cO "keep_shorter" 385 386 387 97 3 3 (.ref 150) (.ref 151) .none (.ref 152) (.ref 153) (.ref 154) 393 394
def VN(P:Params):Obj:=fO "keep_shorter" (top 30) (.str "quadwords.free" 353) 155
def xP(P:Params):Obj:=cO "twins_of" 396 397 398 101 1 3 (.ref 157) (.ref 158) .none (.ref 159) (.ref 160) (.ref 161) 407 408
def VM(P:Params):Obj:=fO "twins_of" (top 31) (.str "quadwords.free" 353) 162
def VL(P:Params):Obj:=cO "twins" 410 411 412 114 1 3 (.ref 164) (.ref 165) .none (.ref 166) (.ref 167) (.ref 168) 414 415
def VJ(P:Params):Obj:=fO "twins" (top 32) (.str "quadwords.free" 353) 169
def VI(P:Params):Obj:=cO "_law_draws" 419 420 421 117 2 3 (.ref 171) (.ref 172) .none (.ref 173) (.ref 174) (.ref 175) 427 428
def VH(P:Params):Obj:=fO "_law_draws" (top 34) (.str "law_quadwords_k27_whole_stuck_texts" 417) 176
def VG(P:Params):Obj:=cO "_law_draw" 430 431 432 127 2 3 (.ref 178) (.ref 179) .none (.ref 180) (.ref 181) (.ref 182) 436 437
def VF(P:Params):Obj:=fO "_law_draw" (top 35) (.str "law_quadwords_k27_whole_stuck_texts" 417) 183
def VE(P:Params):Obj:=cO "_law_piece" 439 440 441 134 2 3 (.ref 185) (.ref 186) .none .none .none (.ref 187) 442 443
def VD(P:Params):Obj:=fO "_law_piece" (top 36) (.str "law_quadwords_k27_whole_stuck_texts" 417) 188
def VC(P:Params):Obj:=cO "_law_short_makers" 445 446 447 140 3 3 (.ref 190) (.ref 191) .none .none .none (.ref 192) 448 449
def VB(P:Params):Obj:=fO "_law_short_makers" (top 37) (.str "law_quadwords_k27_whole_stuck_texts" 417) 193
def VA(P:Params):Obj:=cO "_law_times" 451 452 453 162 2 3 (.ref 195) (.ref 196) .none (.ref 197) (.ref 198) (.ref 199) 460 461
def Vz(P:Params):Obj:=fO "_law_times" (top 38) (.str "law_quadwords_k27_whole_stuck_texts" 417) 200
def Vy(P:Params):Obj:=cO "_law_made" 463 464 465 169 1 3 (.ref 202) (.ref 203) .none (.ref 204) (.ref 205) (.ref 206) 469 470
def Vx(P:Params):Obj:=fO "_law_made" (top 39) (.str "law_quadwords_k27_whole_stuck_texts" 417) 207
def Vw(P:Params):Obj:=cO "_law_of_letters" 472 473 474 174 1 3 (.ref 209) (.ref 210) .none .none .none (.ref 211) 475 476
def Vv(P:Params):Obj:=fO "_law_of_letters" (top 40) (.str "law_quadwords_k27_whole_stuck_texts" 417) 212
def Vu(P:Params):Obj:=cO "_law_can" 478 479 480 178 2 3 (.ref 214) (.ref 215) .none (.ref 216) (.ref 217) (.ref 218) 489 490
def Vt(P:Params):Obj:=fO "_law_can" (top 41) (.str "law_quadwords_k27_whole_stuck_texts" 417) 219
def Vs(P:Params):Obj:=cO "_law_ahead" 492 493 494 194 1 3 (.ref 221) (.ref 222) .none .none .none (.ref 223) 495 496
def Vr(P:Params):Obj:=fO "_law_ahead" (top 42) (.str "law_quadwords_k27_whole_stuck_texts" 417) 224
def Vq(P:Params):Obj:=cO "_law_first" 498 499 500 203 2 3 (.ref 226) (.ref 227) .none .none .none (.ref 228) 501 502
def Vp(P:Params):Obj:=fO "_law_first" (top 43) (.str "law_quadwords_k27_whole_stuck_texts" 417) 229
def Vo(P:Params):Obj:=cO "law" 504 505 506 224 1 3 (.ref 231) (.ref 232) .none .none .none (.ref 233) 507 508
def Vn(P:Params):Obj:=fO "law" (top 44) (.str "law_quadwords_k27_whole_stuck_texts" 417) 234
def xG(P:Params):Obj:=⟨.none,none,(.fields #[]),#[]⟩
def K(P:Params):Frag:=(nat_lit 3,o3 P)::(nat_lit 4,o4 P)::(nat_lit 23,o23 P)::(nat_lit 24,o24 P)::(nat_lit 36,o36 P)::(nat_lit 37,o37 P)::(nat_lit 48,o48 P)::(nat_lit 49,o49 P)::(nat_lit 52,o52 P)::(nat_lit 58,o58 P)::(nat_lit 59,o59 P)::(nat_lit 63,o63 P)::(nat_lit 64,o64 P)::(nat_lit 70,o70 P)::(nat_lit 71,o71 P)::(nat_lit 77,o77 P)::(nat_lit 78,o78 P)::(nat_lit 84,o84 P)::(nat_lit 85,o85 P)::(nat_lit 91,o91 P)::(nat_lit 92,o92 P)::(nat_lit 96,o96 P)::(nat_lit 97,o97 P)::(nat_lit 101,V9 P)::(nat_lit 102,V8 P)::(nat_lit 106,V7 P)::(nat_lit 107,V6 P)::(nat_lit 111,V5 P)::(nat_lit 112,V4 P)::(nat_lit 118,V3 P)::(nat_lit 119,V2 P)::(nat_lit 123,V1 P)::(nat_lit 124,V0 P)::(nat_lit 128,VZ P)::(nat_lit 129,VY P)::(nat_lit 133,VX P)::(nat_lit 134,VW P)::(nat_lit 138,VU P)::(nat_lit 139,VT P)::(nat_lit 143,VS P)::(nat_lit 144,VR P)::(nat_lit 148,VQ P)::(nat_lit 149,VP P)::(nat_lit 155,VO P)::(nat_lit 156,VN P)::(nat_lit 162,xP P)::(nat_lit 163,VM P)::(nat_lit 169,VL P)::(nat_lit 170,VJ P)::(nat_lit 176,VI P)::(nat_lit 177,VH P)::(nat_lit 183,VG P)::(nat_lit 184,VF P)::(nat_lit 188,VE P)::(nat_lit 189,VD P)::(nat_lit 193,VC P)::(nat_lit 194,VB P)::(nat_lit 200,VA P)::(nat_lit 201,Vz P)::(nat_lit 207,Vy P)::(nat_lit 208,Vx P)::(nat_lit 212,Vw P)::(nat_lit 213,Vv P)::(nat_lit 219,Vu P)::(nat_lit 220,Vt P)::(nat_lit 224,Vs P)::(nat_lit 225,Vr P)::(nat_lit 229,Vq P)::(nat_lit 230,Vp P)::(nat_lit 234,Vo P)::(nat_lit 235,Vn P)::[]
def KF(P:Params):Frag:=(nat_lit 158,xG P)::K P
def WM:B2:=[158,3,4,23,24,36,37,48,49,52,58,59,63,64,70,71,77,78,84,85,91,92,96,97,101,102,106,107,111,112,118,119,123,124,128,129,133,134,138,139,143,144,148,149,155,156,162,163,169,170,176,177,183,184,188,189,193,194,200,201,207,208,212,213,219,220,224,225,229,230,234,235]
abbrev tA:Addr:=158
abbrev cA:Addr:=162
abbrev Qx:Addr:=4
theorem lk_K(P:Params):(K P).lookup 162=some (xP P):=by kernel_rfl
theorem kT(P:Params):(K P).lookup tA=none:=by kernel_rfl
theorem Lh(P:Params)(h:Heap)(X:(K P).In h):PySem.W.CodeHd h cA tA:=⟨xP P,_,_,_,_,_,_,_,_,X _ _ (lk_K P),rfl,rfl,rfl,rfl,rfl,rfl,rfl,rfl,by decide⟩
abbrev pT:Array Value:=#[]
theorem Tv(P:Params)(h:Heap)(X:(KF P).In h):(K P).In h/\h.get? tA=some (PySem.W.tabObj pT)/\PySem.W.CodeHd h cA tA:=by
 have X1:(K P).In h:=λa o e=>X a o (by
  show List.lookup a ((tA,xG P)::K P)=some o;rw[CQ];have ne:a≠tA:=λz=>by rw[z,kT P] at e;cases e
  rw[show(a==tA)=false by simpa using ne]
  exact e)
 exact⟨X1,X tA (xG P) (by show List.lookup tA ((tA,xG P)::K P)=_;rw[CQ];rfl),Lh P h X1⟩
set_option maxRecDepth 100000 in
theorem WL(w:World):wF pw (view pw keep) loose (xt PySem.Challenge.rw_quadwords_k27_whole_stuck_texts (view pw keep)) KF WM 3350 w:=by kernel_rfl
theorem key:∀w,wa (denote treeTable) stepOk stepT openSeen pw (view pw keep) loose (xt PySem.Challenge.rw_quadwords_k27_whole_stuck_texts (view pw keep)) KF WM 3350 w:=WK WL
end
end Hd
open PySem PySem.W PyProof.Rows
local macro_rules | `(tactic| walk_at "fin")=>`(tactic| ((refine' K3.m7.of ?a ?l ?c ?k); (case a=>k_is); (case l=>k_is); (case c=>k_is); (case k=>k_is)))
set_option maxRecDepth 100000 in
set_option maxHeartbeats 0 in
theorem PySem.Challenge.cw_quadwords_k27_whole_stuck_texts_holds : PySem.Challenge.rw_quadwords_k27_whole_stuck_texts.Holds := by
 w_on
 refine Hd.head (q:=view Hd.pw Hd.keep) (loose:=Hd.loose) (K:=Hd.KF) (as:=Hd.WM) (by decide +kernel) (by kernel_rfl) (by decide) (λs=>rfl) Hd.key (λP=>by kernel_rfl) (by rfl) (by rfl) (by rfl) (by rfl) (by decide +kernel) ⟨rfl,rfl,rfl,rfl,rfl,by decide +kernel⟩ ?hw ?hc
 case hw=>w_witness2
 k_fill
 refine K3.walk (l:=PySem.Challenge.rw_quadwords_k27_whole_stuck_texts) (K:=Hd.K) (KF:=Hd.KF) (T:=Hd.tA) (c0:=Hd.cA) (ps:=Hd.pT) rfl rfl ⟨trivial,rfl⟩ (λw h Y=>Y) Hd.Tv Hd.kT ?F
 case F=>
  k_fill
  intro w mg fa h KX G SY
  refine' K3.all_mk KX G SY ?zK ?Au ?zL ?zJ ?zU ?Ax ?zS ?zF ?zI ?a_ww ?Aw ?Av ?zH ?a_sm ?a_rb ?a_ar ?a_fr ?AA ?Ay ?a_fp ?AD ?AC ?a_fs ?a_ns ?a_ks ?a_to ?l_to ?c_to ?k_to ?AB ?Aq ?zE ?zG ?Ag ?l_law ?c_law ?k_law ?AH ?l_ONE ?z_ONE ?v_ONE ?e_LM ?e_MM ?AG ?ec ?Za ?Wl ?e_BI ?l_BI ?p_BI ?AJ ?zW ?yZ ?zN ?zX ?AN ?AK ?AI ?zM ?AL ?AM ?AO ?zb ?zq
  (case zK=>walk_at "fin")
  (case Au=>walk_at "fin")
  (case zL=>walk_at "fin")
  (case zJ=>walk_at "fin")
  (case zU=>walk_at "fin")
  (case Ax=>walk_at "fin")
  (case zS=>walk_at "fin")
  (case zF=>walk_at "fin")
  (case zI=>walk_at "fin")
  (case a_ww=>walk_at "fin")
  (case Aw=>walk_at "fin")
  (case Av=>walk_at "fin")
  (case zH=>walk_at "fin")
  (case a_sm=>walk_at "fin")
  (case a_rb=>walk_at "fin")
  (case a_ar=>walk_at "fin")
  (case a_fr=>walk_at "fin")
  (case AA=>walk_at "fin")
  (case Ay=>walk_at "fin")
  (case a_fp=>walk_at "fin")
  (case AD=>walk_at "fin")
  (case AC=>walk_at "fin")
  (case a_fs=>walk_at "fin")
  (case a_ns=>walk_at "fin")
  (case a_ks=>walk_at "fin")
  (case a_to=>k_is)
  (case l_to=>k_is)
  (case c_to=>k_is)
  (case k_to=>k_is)
  (case AB=>walk_at "fin")
  (case Aq=>walk_at "fin")
  (case zE=>walk_at "fin")
  (case zG=>walk_at "fin")
  (case Ag=>k_is)
  (case l_law=>k_is)
  (case c_law=>k_is)
  (case k_law=>k_is)
  (case AH=>k_is)
  (case l_ONE=>k_is)
  (case z_ONE=>decide)
  (case v_ONE=>exact .cons ⟨_,rfl⟩ (.cons ⟨_,rfl⟩ (.cons ⟨_,rfl⟩ (.cons ⟨_,rfl⟩ .nil))))
  (case e_LM=>k_is)
  (case e_MM=>k_is)
  (case AG=>k_is)
  (case ec=>rfl)
  (case Za=>exact λh X=>Hd.Lh _ h X)
  (case Wl=>decide)
  (case e_BI=>k_is)
  (case l_BI=>k_is)
  (case p_BI=>exact⟨by decide,by decide,by decide,rfl,rfl,rfl⟩)
  (case AJ=>k_is)
  (case zW=>k_is)
  (case yZ=>k_is)
  (case zN=>k_is)
  (case zX=>k_is)
  (case AN=>k_is)
  (case AK=>k_is)
  (case AI=>k_is)
  (case zM=>k_is)
  (case AL=>k_is)
  (case AM=>k_is)
  (case AO=>k_is)
  (case zb=>k_is)
  (case zq=>k_is)
